import PyProof.Rows.All
import Wide.All
import OpenK.AllK
import Wide.FinOn
import Lean
import PyProof.EqAt
import PyProof.EqKinds
import PyProof.TupleCall
import KE.KNestM
import PyProof.IsiH_list
import PyProof.RaisesAny
import KE.KDictOf
import PyProof.CollectWalk
import PyProof.CompFree
import KE.KDictList
import PyProof.NeKinds
import PyProof.ConsumeWalk
import PyProof.StrBlockI
import PyProof.EnumFor
import PyProof.TupleIter
import PyProof.EnumMake
import KE.KLam
import PyProof.DictUpdate
import PyProof.SeqI3
import PyProof.DictWalks
import PyProof.ConsumeS
import PyProof.Rows.CallKwBuiltin
import KE.KTryMore
import PyProof.InstStoreFacts
import PyProof.ExcInit
import PyProof.ExcClass3
import PyProof.ExcBaseAll.ValueError
import PyProof.FString
import PyProof.RulesAs
import PyProof.RulesDel
import PyProof.ExcAttrAll.ValueError
import PyProof.ReprRoads
import PyProof.StrLawsRepr
import PyProof.ExcClass2
import PyProof.ReprStr
import KE.KDictLaws
import PyProof.AutoListH
import PyProof.ZipIter
import PyProof.ListNew
import KE.KRevSl
import PyProof.StrOps
import PyProof.StrOps2
import KE.KSortKey
import PyProof.WalkInts
import PyProof.Conv_int_bool
import PySem.Challenge.RW_wright_k14_whole_refused_or_let_by
set_option Elab.async false
set_option linter.all false
set_option maxRecDepth 100000
local macro_rules | `(tactic| and_intros) => `(tactic| (intro _ _ _ _ h; repeat (first | (obtain ⟨e, _⟩ := h; subst e; rfl) | (obtain ⟨_, h⟩ := h))))
local macro_rules | `(tactic| omega) => `(tactic| first | lia | omega (config := {}))
local macro_rules | `(∅) => `(by omega)
local macro_rules | `(nofun) => `(by first | decide +kernel | kernel_rfl)
def ndq:=@of_decide_eq_true
def bC:=@Or.inl
abbrev aR:=PySem.W.Frag
def rP:0<=PySem.sizeLine:=by decide
def Oo:1<=PySem.sizeLine:=by decide
def mq:2<=PySem.sizeLine:=by decide
def YT:3<=PySem.sizeLine:=by decide
def zl4:4<=PySem.sizeLine:=by decide
def aB.{u,v}:=@List.length_map.{u,v}
def aY.{u}:=@List.getElem?_eq_some_iff.{u}
def ax:=@PySem.wpAny_bind
def bu:=@PySem.Heap.get?_push_of_some
def bR.{u,v}:=@Option.map_eq_some_iff.{u,v}
def bq.{u,v}:=@List.getElem?_map.{u,v}
def cD.{u}:=@List.mem_of_getElem?.{u}
def bD.{u,v}:=@List.map_append.{u,v}
def cu.{u}:=@List.length_append.{u}
def cJ.{u}:=@List.mem_singleton.{u}
def aH:=@Nat.le_refl
def bS.{u}:=@List.mem_cons_of_mem.{u}
def c_.{u}:=@List.getElem?_eq_getElem.{u}
def aI:=@PySem.wpAny_pure
def bO.{u}:=@List.mem_cons_self.{u}
def bJ.{u}:=@List.size_toArray.{u}
def aO:=@PySem.Heap.lt_size
def cZ:=@PySem.Heap.get?_push_size
def bw:=@Nat.ne_of_lt
def bG:=@PySem.Paired.length
def bZ.{u}:=@List.mem_append.{u}
def cE.{u}:=@List.take_length.{u}
def bL.{u,v}:=@List.map_cons.{u,v}
def cY.{u}:=@List.take_add_one.{u}
def bN.{u}:=@List.mem_cons.{u}
def cx:=@PySem.PassesOwn.never
def dB:=@Bool.false_ne_true
def az.{u}:=@if_pos.{u}
def cw:=@decide_eq_true
def aA.{u}:=@if_neg.{u}
def dA.{u}:=@List.length_take.{u}
def eD:=@Nat.lt_of_lt_of_le
def fP.{u}:=@List.mem_append_right.{u}
def fA.{u}:=@List.getElem?_of_mem.{u}
def dY:=@of_decide_eq_true
def dO:=@decide_eq_false
def gK:=@PySem.Heap.get?_update_other
def cN.{u,v}:=@List.mem_map.{u,v}
def eC.{u}:=@List.length_cons.{u}
def cQ:=@Nat.le_trans
def ie:=@PySem.F.plainAttrs_list
def eB.{u}:=@List.mem_filter.{u}
def iJ:=@PySem.F.type_list_append
def iI:=@PySem.F.slot_list_append
def fO.{u}:=@List.all_eq_true.{u}
def cv:=@PySem.wpAny_mono
def j3:=@PyProof.Rows.boot_isinstance
def ic:=@PySem.W.mg_none_of
def jZ.{u}:=@List.getElem?_append_left.{u}
def i9.{u}:=@List.length_filter_le.{u}
def jY.{u}:=@Option.isSome_iff_exists.{u}
def i8.{u}:=@List.mem_append_left.{u}
def gJ.{u}:=@List.append_nil.{u}
def i7.{u,v}:=@List.mem_map_of_mem.{u,v}
def gi:=@PySem.wpAny_holding
def gu.{u,v}:=@Prod.mk.injEq.{u,v}
def ib.{u}:=@Option.some.inj.{u}
def iH:=@Bool.and_eq_true
def pY.{u}:=@List.getElem?_append_right.{u}
def jX.{u}:=@beq_eq_false_iff_ne.{u}
def lR:=@PySem.Heap.get?_update_self
def lQ:=@Bool.and_eq_true_iff
def pX.{u}:=@List.getElem?_take_of_lt.{u}
def gh:=@PySem.Paired.snoc
def i6.{u}:=@List.length_nil.{u}
def ux:=@PyProof.Rows.slot_tuple_getitem
def q_:=@PySem.F.excBase_ValueError
def gI:=@Nat.zero_le
def jW:=@PySem.wpAny_newObj_type
def gH:=@PySem.wpAny_field
def uw.{u}:=@List.take_append_of_le_length.{u}
def lP:=@PySem.wpAny_Call_Name_kw
def lL.{u}:=@List.nodup_append.{u}
def pW.{u}:=@List.length_singleton.{u}
def jK:=@PySem.boot_len
def jJ.{u}:=@List.nodup_nil.{u}
def i5:=@Nat.lt_irrefl
def jV.{u}:=@List.nodup_cons.{u}
def jU:=@Bool.eq_iff_iff
def pV.{u}:=@List.mem_of_mem_take.{u}
def pU.{u}:=@List.mem_iff_getElem.{u}
def lK.{u}:=@List.filter_cons.{u}
def uv.{u}:=@List.getD_eq_getElem?_getD.{u}
def pT:=@PySem.codeAny_call_builtin
def pS:=@PySem.Around.under_plainId
def jT:=@List.mem_range
def i4.{u,v,w}:=@List.map_map.{u,v,w}
def nA:=@PySem.wpAny_truthy_bool
def pR.{u}:=@List.filter_append.{u}
def ny:=@Nat.lt_succ_self
def iG:=@Nat.le_succ
def nv.{u}:=@List.length_drop.{u}
def h_:=@PySem.wpAny_call
def jI:=@Nat.ne_of_gt
def pQ:=@Int.toNat_natCast
def nu:=@PySem.F.plain_min_loop
def uu.{u}:=@List.drop_of_length_le.{u}
def ur:=@PySem.wpAny_callSpecial?_slot
def jS:=@PySem.strLen_append
def pP:=@PySem.wpAny_pyIter_list
def kc:=@PySem.wpAny_loadPart_at
def kb.{u}:=@beq_self_eq_true.{u}
def gL:=@PySem.sizeLine_eq
def ml:=@Nat.lt_of_le_of_lt
def rO:=@Classical.byContradiction
def iT:=@PySem.plainId_quiet
def dC.{u}:=@Ne.symm.{u}
def j_.{u}:=@List.nil_append.{u}
def jt:=@PySem.wpAny_tryCatch
def jr.{u}:=@List.sum_cons.{u}
def iw:=@Int.le_refl
def j9:=@PySem.codeAny_builtin
def v_.{u}:=@List.eq_nil_of_length_eq_zero.{u}
def rM.{u}:=@List.take_of_length_le.{u}
def rK.{u}:=@List.filter_eq_nil_iff.{u}
def iR:=@PySem.wpAny_typeOf
def o8.{u,v}:=@List.map_singleton.{u,v}
def v9:=@PyProof.Rows.callWith_type1
def j8:=@PySem.wpAny_seqItems
def j7:=@PySem.Heap.size_push
def o7.{u,v}:=@Option.isSome_map.{u,v}
def o6:=@Bool.eq_false_iff
def o5:=@PySem.tupleKind_room_in1
def oZ:=@PySem.Calls.spliced_cons
def v8.{u}:=@Array.getElem?_eq_some_iff.{u}
def mj:=@PySem.wpAny_passesOwn
def jq:=@PySem.codeAny_mono
def vZ.{u}:=@List.drop_eq_getElem_cons.{u}
def oY.{u,v}:=@List.mem_flatMap.{u,v}
def oX.{u,v}:=@List.getElem_map.{u,v}
def rJ:=@PySem.mem_of_lookup
def j6:=@Nat.lt_trans
def j5:=@Nat.le_of_lt
def j4.{u,v}:=@List.map_nil.{u,v}
def vY:=@PySem.F.slot_tuple_iterator_next
def vX:=@PyProof.Rows.boot_tuple
def oW.{u}:=@List.find?_cons.{u}
def oV:=@PySem.wpAny_call_entry
def vW.{u}:=@List.length_pos_of_mem.{u}
def vV.{u}:=@List.getElem?_set_self.{u}
def vU:=@PySem.F.slot_list_getattribute
def rH:=@Nat.lt_succ_of_lt
def rG:=@List.length_range
def rF.{u,v}:=@List.foldl_append.{u,v}
def rD.{u}:=@List.append_assoc.{u}
def rC:=@Bool.not_eq_true'
def mi:=@PySem.wpAny_standAt
def rB:=@PySem.wpAny_setField_rec
def vT:=@PySem.wpAny_loadPart'
def vS:=@PySem.wpAny_getItem_str_slice
def oU:=@PySem.wpAny_execs_nil
def rA:=@PySem.Obj.data_mapFields
def mh:=@Nat.zero_add
def rq.{u}:=@List.getElem_mem.{u}
def rp.{u}:=@List.getElem_inj.{u}
def rm.{u}:=@List.cons_append.{u}
def rl.{u}:=@List.any_eq_true.{u}
def vR.{u}:=@Classical.not_forall.{u}
def vQ:=@PySem.Calls.callWith_builtin
def oS:=@PySem.W.mg_of
def oR.{u,v}:=@List.map_take.{u,v}
def oQ.{u,v}:=@List.map_drop.{u,v}
def oP:=@PySem.wpAny_setField
def vP:=@PySem.wpAny_pyNext_list_end
def mf.{u,v}:=@Sum.inr.inj.{u,v}
def rh:=@PySem.W.kia_one
def vO.{u}:=@Option.some_ne_none.{u}
def rg.{u,v}:=@Option.map_some.{u,v}
def vN:=@PySem.F.slot_enumerate_next
def vM.{u}:=@Array.toList_append.{u}
def vL.{u}:=@Array.length_toList.{u}
def vK:=@PySem.wpAny_loadName_local
def vJ.{u,v}:=@List.mem_filterMap.{u,v}
def vI:=@PySem.Heap.get?_none_of_le
def vH:=@PySem.Calls.evalArgs_plain
def vG.{u}:=@Array.append_empty.{u}
def oO:=@PySem.wpAny_attempt
def zO:=@PySem.F.slot_dict_update
def zN:=@PySem.F.args_tuple_add_2
def vF:=@Nat.lt_of_succ_lt
def zM.{u}:=@List.length_erase_of_mem.{u}
def zL:=@PySem.F.plainAttrs_dict
def zK:=@PySem.F.entry_tuple_add
def rf.{u}:=@List.any_cons.{u}
def rb:=@Bool.true_and
def vE:=@PySem.wpAny_pyIter_tuple
def vD:=@PySem.Code.quiet_builtin
def vC:=@PySem.Calls.Constant_str
def zJ:=@PySem.F.slot_tuple_add
namespace L2
open PySem PySem.Spec PyProof.Rows
abbrev aK:=Sum Int Str
def sQ:aK->Value->Bool
 | .inl k,v=>Value.isInt k v
 | .inr x,v=>Value.isStrOf x v
def Wa (w:World):aK->Int
 | .inl k=>hashInt k
 | .inr x=>hashStr w x
def dj:∀{k:aK}{v:Value},sQ k v=true->(∃i t,k=Sum.inl i/\v=Value.int i t)\/(∃x t,k=Sum.inr x/\v=Value.str x t)
 | .inl i,v,h=>by
  obtain⟨t,e⟩:=Value.isInt_shape (k:=i) (v:=v) h;exact .inl ⟨i,t,rfl,e⟩
 | .inr x,v,h=>by
  obtain⟨t,e⟩:=Value.isStrOf_shape (x:=x) (v:=v) h;exact .inr ⟨x,t,rfl,e⟩
def DR (i:Int)(t:Tok):sQ (.inl i) (.int i t)=true:=by simp [sQ,Value.isInt]
def DQ (x:Str)(t:Tok):sQ (.inr x) (.str x t)=true:=by simp [sQ,Value.isStrOf]
def M3 (a b:Int):decide ((Sum.inl a:aK)=Sum.inl b)=(a == b):=by
 by_cases e:a=b
 .subst e;simp
 have h:¬(Sum.inl a:aK)=Sum.inl b:=λq=>e (Sum.inl.inj q);rw [dO h];exact(jX.mpr e).symm
def MY (a b:Str):decide ((Sum.inr a:aK)=Sum.inr b)=decide (a=b):=by
 by_cases e:a=b
 .subst e;simp
 have h:¬(Sum.inr a:aK)=Sum.inr b:=λq=>e (mf q);rw [dO h,dO e]
def M0 (a:Int)(b:Str):decide ((Sum.inl a:aK)=Sum.inr b)=false:=dO (λq=>nomatch q)
def MZ (a:Str) (b:Int):decide ((Sum.inr a:aK)=Sum.inl b)=false:=dO (λq=>nomatch q)
def a7 (prog:Program)(w:World):PySem.KeyKind prog w aK where
 is:=sQ
 hash:=Wa w
 inj:=λv a b ha hb=>by
  rcases dj ha with ⟨i,t,rfl,rfl⟩ | ⟨x,t,rfl,rfl⟩
  .rcases dj hb with ⟨j,u,rfl,e⟩ | ⟨y,u,rfl,e⟩
   .injection e with e1 _;rw [e1]
   exact nomatch e
  rcases dj hb with ⟨j,u,rfl,e⟩ | ⟨y,u,rfl,e⟩
  .exact nomatch e
  injection e with e1 _;rw [e1]
 byValue:=λk v h=>by
  rcases dj h with ⟨i,t,rfl,rfl⟩ | ⟨x,t,rfl,rfl⟩ <;> rfl
 pyHash:=λhv h=>by
  rcases dj hv with ⟨i,t,rfl,rfl⟩ | ⟨x,t,rfl,rfl⟩
  .exact wpAny_pyHash_int h
  exact wpAny_pyHash_str h
 eqBool:=λhu hv h=>by
  rcases dj hu with ⟨i,t,rfl,rfl⟩ | ⟨x,t,rfl,rfl⟩
  .rcases dj hv with ⟨j,u,rfl,rfl⟩ | ⟨y,u,rfl,rfl⟩
   .rw [M3] at h;exact wpAny_eqBool_int h
   rw [M0] at h;exact SeqAt.EqAt.int_str i t y u _ _ _ _ h
  rcases dj hv with ⟨j,u,rfl,rfl⟩ | ⟨y,u,rfl,rfl⟩
  .rw [MZ] at h;exact SeqAt.EqAt.str_int x t j u _ _ _ _ h
  rw [MY] at h;exact wpAny_eqBool_str h
 «strs»:=λk x t v h=>by
  rcases dj h with ⟨i,u,rfl,e⟩ | ⟨y,u,rfl,e⟩
  .exact nomatch e
  injection e with e1 _;subst e1;cases v <;> rfl
def yA (prog:Program)(w:World) (i:Int)(t:Tok):(a7 prog w).is (.inl i) (.int i t)=true:=DR i t
def yz (prog:Program)(w:World)(x:Str)(t:Tok):(a7 prog w).is (.inr x) (.str x t)=true:=DQ x t
inductive V where
 | dG | bl (b:Bool) | int (i:Int) | str (x:Str) | Bc (b:Array UInt8) | NQ (b:UInt64) | ref (a:Addr) | ty (n:String)
 deriving DecidableEq
def RelV:V->Value->Prop
 | .dG,u=>u=Value.none
 | .bl b,u=>u=Value.bool b
 | .int i,u=>∃t,u=Value.int i t
 | .str x,u=>∃t,u=Value.str x t
 | .Bc b,u=>∃t,u=Value.bytes b t
 | .NQ b,u=>∃t,u=Value.float b t
 | .ref a,u=>u=Value.ref a
 | .ty n,u=>u=Value.type n
abbrev aV:List V->List Value->Prop:=Paired RelV
theorem aV.length {xs:List V}{us:List Value}(r:aV xs us):xs.length=us.length:=bG r
theorem aV.get:∀{xs:List V}{us:List Value}{i:Nat}{x:V},aV xs us->xs[i]?=some x->∃u,us[i]?=some u/\RelV x u
 | _,_,_,_,.nil,e=>by simp at e
 | _,_,0,_,.cons r _,e=>by simp at e;subst e;exact⟨_,rfl,r⟩
 | _,_,i+1,x,.cons _ t,e=>by
  obtain⟨u,h1,h2⟩:=aV.get (i:=i) (x:=x) t (by simpa using e);exact⟨u,by simpa using h1,h2⟩
theorem aV.set {x:V}{u:Value}(r:RelV x u):∀{xs:List V}{us:List Value}(i:Nat),aV xs us->aV (xs.set i x) (us.set i u)
 | _,_,_,.nil=>.nil
 | _,_,0,.cons _ t=>.cons r t
 | _,_,i+1,.cons q t=>.cons q (aV.set r i t)
theorem aV.append:∀{xs ys:List V}{us ws:List Value},aV xs us->aV ys ws->aV (xs++ys) (us++ws)
 | _,_,_,_,.nil,s=>s
 | _,_,_,_,.cons r t,s=>.cons r (aV.append t s)
theorem aV.take:∀{xs:List V}{us:List Value}(n:Nat),aV xs us->aV (xs.take n) (us.take n)
 | _,_,0,_=>.nil
 | _,_,_+1,.nil=>.nil
 | _,_,n+1,.cons r t=>.cons r (aV.take n t)
theorem aV.drop:∀{xs:List V}{us:List Value}(n:Nat),aV xs us->aV (xs.drop n) (us.drop n)
 | _,_,0,r=>r
 | _,_,_+1,.nil=>.nil
 | _,_,n+1,.cons _ t=>aV.drop n t
def aV.none_of:∀{xs:List V}{us:List Value}{i:Nat},aV xs us->xs[i]?=none->us[i]?=none:=λ{xs us i} r e=>by
 have h1:=r.length;have h2:xs.length<=i:=List.getElem?_eq_none_iff.mp e;exact List.getElem?_eq_none_iff.mpr ∅
def iE:Option V->Option Value->Prop
 | some v,some u=>RelV v u
 | none,none=>True
 | _,_=>False
def KV {κ:Type}:List (κ×V)->List (κ×Value)->Prop:=Paired λ(p:κ×V)(q:κ×Value)=>p.1=q.1/\RelV p.2 q.2
def kV:aK->V
 | .inl i=>.int i
 | .inr x=>.str x
inductive HO where
 | lst (xs:List V)
 | tup (xs:List V)
 | dK (kvs:List (aK×V)) | dT (kvs:List (List aK×V))
 | set (S:Int->Bool) (n:Nat)
 | ins (C dx:Addr)(fs:List (Str×V))
 | own (x:Addr)
 | xd (fs:List (Str×V))
 | met (f x:Addr)
 | FT (lo hi:Int)
 | jR (o:Obj)(u:HO)
 | ua (ps:Array Value)
 | ext (φ:Heap->Prop)
abbrev Hp:=Addr->Option HO
def upd (H:Hp)(a:Addr)(o:HO):Hp:=λb=>if b=a then some o else H b
def ae {H:Hp}{a:Addr}{o:HO}:upd H a o a=some o:=by unfold upd;rw [az rfl]
def ai {H:Hp}{a b:Addr}{o:HO}(h:b≠a):upd H a o b=H b:=by unfold upd;rw [aA h]
def ig {H:Hp}{a:Addr}{o u:HO}:upd (upd H a o) a u=upd H a u:=by
 funext b;unfold upd;split <;> rfl
def Ql {H:Hp}{a b:Addr}{o u:HO}(h:H a=some o)(h':H b=some u)(d:o≠u):a≠b:=by
 intro e;subst e;rw [h] at h';exact d (ib h')
def aq {H:Hp}{a b:Addr}{o:HO}(h:H a=some o)(h':H b=none):a≠b:=by
 intro e;subst e;rw [h] at h';cases h'
section
variable (P:Program)(w:World)
def bW (H:Hp)(h:Heap)(a:Addr):HO->Prop
 | .lst xs=>xs.length<=sizeLine/\∃(aN:List Value) (n:Nat),aV xs aN/\h.get? a=some { cls:=.type "list",data:=.seq aN.toArray n }
 | .tup xs=>xs.length<=sizeLine/\∃aN:List Value,aV xs aN/\IsTup h a aN.toArray
 | .dK kvs=>kvs.length<=sizeLine/\(a == sysModules)=false/\∃vs,KV kvs vs/\h.DictOf (a7 P w) a vs
 | .dT kvs=>kvs.length<=sizeLine/\(a == sysModules)=false/\∃xs:List (List aK×Addr×Value),
   Paired (λ(p:List aK×V)(q:List aK×Addr×Value)=>p.1=q.1/\H q.2.1=some (.tup (p.1.map kV))/\RelV p.2 q.2.2) kvs xs /\
   ∃o es ep,h.get? a=some o/\o.ExactDict/\o.data=.dict es ep/\es.toList=xs.map (entryOfKey (tupleKind (a7 P w)))/\(xs.map (·.1)).Nodup
 | .set S n=>h.SetOf (intKind P w) a S n
 | .ins C dx fs=>H dx=some (.own a)/\fs.length<=1000/\dx≠a/\h.get? a=some (PySem.W.instObj C dx) /\
   ∃mA,h.Ns1 dx mA/\(∀f,iE (fs.lookup f) (mA f))/\PySem.Within mA (fs.map (·.1))
 | .own _=>∃o,h.get? a=some o
 | .xd fs=>∃mA,h.Ns1 a mA/\∀f,iE (fs.lookup f) (mA f)
 | .FT lo hi=>∃t u v,h.get? a=some { cls:=.type "range",data:=.fields #[.int lo t,.int hi u,.int 1 v] }
 | .jR o u=>h.get? a=some o/\bW H h a u
 | .ua ps=>h.get? a=some { cls:=.none,data:=.fields ps }
 | .met f x=>h.get? a=some (PySem.W.methodObj (.ref f) (.ref x))
 | .ext φ=>φ h/\(∃o,h.get? a=some o)/\∀h1 h2:Heap,φ h1->(∀o,h1.get? a=some o->h2.get? a=some o)->φ h2
def lJ (H:Hp)(h:Heap):Prop:=∀a o,H a=some o->bW P w H h a o
end
section
variable {P:Program}{w:World}{H H':Hp}{h h':Heap}{a:Addr}{o:HO}
theorem bW.lt (x:bW P w H h a o):a < h.objs.size:=by
 cases o with
 | lst xs=>obtain⟨_,_,_,_,e⟩:=x;exact aO e
 | tup xs=>obtain⟨_,_,_,p⟩:=x;exact p.lt
 | dK kvs=>obtain⟨_,_,_,_,o,_,_,e,_⟩:=x;exact aO e
 | dT kvs=>obtain⟨_,_,_,_,o,_,_,e,_⟩:=x;exact aO e
 | set S n=>obtain⟨o,_,_,_,e,_⟩:=x;exact aO e
 | ins C dx fs=>obtain⟨_,_,_,e,_⟩:=x;exact aO e
 | own y=>obtain⟨_,e⟩:=x;exact aO e
 | xd fs=>obtain⟨_,⟨_,_,_,e,_⟩,_⟩:=x;exact aO e
 | FT lo hi=>obtain⟨_,_,_,e⟩:=x;exact aO e
 | jR ob u=>obtain⟨e,_⟩:=x;exact aO e
 | ua ps=>exact aO (show h.get? a=some _ from x)
 | met f y=>exact aO (show h.get? a=some _ from x)
 | ext φ=>obtain⟨_,⟨_,e⟩,_⟩:=x;exact aO e
theorem Paired.ft {α β:Type}{F G:α->β->Prop}:∀{l₁:List α}{l₂:List β},Paired F l₁ l₂->(∀a b,F a b->G a b)->Paired G l₁ l₂
 | _,_,.nil,_=>.nil
 | _,_,.cons r t,f=>.cons (f _ _ r) (Paired.ft t f)
def bW.iV (x:bW P w H h a o)(k:∀b u,(b=a\/H b=some (.own a))->h.get? b=some u->h'.get? b=some u)
  (ho:∀b,H b=some (.own a)->H' b=some (.own a))(ht:∀b xs,H b=some (.tup xs)->H' b=some (.tup xs)):bW P w H' h' a o:=by
 induction o with
 | lst xs=>obtain⟨z,aN,n,r,e⟩:=x;exact⟨z,aN,n,r,k _ _ (.inl rfl) e⟩
 | tup xs=>obtain⟨z,aN,r,ob,e,c⟩:=x;exact⟨z,aN,r,ob,k _ _ (.inl rfl) e,c⟩
 | dK kvs=>obtain⟨z,y,vs,r,ob,es,ep,e,c⟩:=x;exact⟨z,y,vs,r,ob,es,ep,k _ _ (.inl rfl) e,c⟩
 | dT kvs =>
  obtain⟨z,y,xs,r,ob,es,ep,e,c⟩:=x;exact⟨z,y,xs,Paired.ft r λp q z=>⟨z.1,ht _ _ z.2.1,z.2.2⟩,ob,es,ep,k _ _ (.inl rfl) e,c⟩
 | set S n=>obtain⟨ob,es,ep,t,e,c⟩:=x;exact⟨ob,es,ep,t,k _ _ (.inl rfl) e,c⟩
 | ins C dx fs =>
  obtain⟨d,z,ne,e,mA,⟨od,es,ep,e2,c⟩,r⟩:=x;exact⟨ho _ d,z,ne,k _ _ (.inl rfl) e,mA,⟨od,es,ep,k _ _ (.inr d) e2,c⟩,r⟩
 | own y=>obtain⟨ob,e⟩:=x;exact⟨ob,k _ _ (.inl rfl) e⟩
 | xd fs=>obtain⟨mA,⟨od,es,ep,e,c⟩,r⟩:=x;exact⟨mA,⟨od,es,ep,k _ _ (.inl rfl) e,c⟩,r⟩
 | FT lo hi=>obtain⟨t,u,v,e⟩:=x;exact⟨t,u,v,k _ _ (.inl rfl) e⟩
 | jR ob u ih=>obtain⟨e,q⟩:=x;exact⟨k _ _ (.inl rfl) e,ih q⟩
 | ua ps =>
  have e:h.get? a=some { cls:=.none,data:=.fields ps }:=x;show h'.get? a=some { cls:=.none,data:=.fields ps };exact k a _ (.inl rfl) e
 | met f y =>
  have e:h.get? a=some (PySem.W.methodObj (.ref f) (.ref y)):=x;show h'.get? a=some (PySem.W.methodObj (.ref f) (.ref y));exact k a _ (.inl rfl) e
 | ext φ=>obtain⟨p,⟨o,e⟩,st⟩:=x;exact⟨st _ _ p λo q=>k _ _ (.inl rfl) q,⟨o,k _ _ (.inl rfl) e⟩,st⟩
theorem lJ.lt (x:lJ P w H h)(e:H a=some o):a < h.objs.size:=(x a o e).lt
def lJ.fresh (x:lJ P w H h)(e:h.objs.size<=a):H a=none:=by
 cases q:H a with
 | none=>rfl
 | some u=>exact absurd (eD (x.lt q) e) (i5 _)
def lJ.kept (x:lJ P w H h)(k:∀b u,h.get? b=some u->h'.get? b=some u):lJ P w H h':=λa o e =>
 (x a o e).iV (λb u _ q=>k b u q) (λ_ q=>q) λ_ _ q=>q
def lJ.laid (x:lJ P w H h)(k:∀b u,h.get? b=some u->h'.get? b=some u)(hp:h.objs.size<=a)(new:bW P w (upd H a o) h' a o):lJ P w (upd H a o) h':=λb u e=>by
 have hn:=x.fresh hp;by_cases hb:b=a
 .subst hb;rw [ae] at e;cases e;exact new
 rw [ai hb] at e;exact(x b u e).iV (λc v _ q=>k c v q) (λc q=>by rw [ai (aq q hn)];exact q) λc xs q=>by rw [ai (aq q hn)];exact q
end
def Rd (H:Hp)(a:Addr)(u:HO):Prop:=H a=some u\/∃o,H a=some (.jR o u)
def Rd.of {H:Hp}{a:Addr}{u:HO}(h:H a=some u):Rd H a u:=.inl h
def Rd.ok {P:Program}{w:World}{H:Hp}{h:Heap}{a:Addr}{u:HO}(r:Rd H a u)(x:lJ P w H h):bW P w H h a u:=by
 rcases r with r | ⟨o,r⟩
 .exact x a u r
 obtain⟨_,q⟩:=x a _ r;exact q
def Sz:Option HO->Prop
 | some (.lst _)=>True
 | some (.dK _)=>True
 | some (.dT _)=>True
 | some (.set _ _)=>True
 | some (.ins _ _ _)=>True
 | some (.ext _)=>True
 | _=>False
section
variable {P:Program}{w:World}{H:Hp}{h h':Heap}{x e:Addr}{o':HO}
def lJ.write (ok:lJ P w H h)(mu:Sz (H x))(he:e=x\/H e=some (.own x))(k:∀b u,b≠e->h.get? b=some u->h'.get? b=some u)(OL:∃u,h'.get? e=some u)
  (new:bW P w (upd H x o') h' x o'):lJ P w (upd H x o') h':=λb u q=>by
 have Qg:∀c y,H c=some (.own y)->c≠x:=λc y r z=>by subst z;rw [r] at mu;exact mu
 have Vt:∀c xs,H c=some (.tup xs)->c≠x:=λc xs r z=>by subst z;rw [r] at mu;exact mu
 by_cases hb:b=x
 .subst hb;rw [ae] at q;cases q;exact new
 rw [ai hb] at q;by_cases Nx:b=e
 .have q':H b=some (.own x):=by
   rcases he with z | z
   .exact absurd (Nx.trans z) hb
   rw [Nx];exact z
  rw [q] at q';cases q';obtain⟨v,hv⟩:=OL;exact⟨v,by rw [Nx];exact hv⟩
 refine(ok b u q).iV (λc v hc r=>k c v ?_ r) (λc r=>by rw [ai (Qg c b r)];exact r) λc xs r=>by rw [ai (Vt c xs r)];exact r
 rcases hc with rfl | hc
 .exact Nx
 rintro rfl;rcases he with z | z
 .exact Qg c b hc z
 rw [hc] at z;cases z;exact hb rfl
end
structure Un (fs ex:List Addr)(H H':Hp)(h h':Heap):Prop where
 keep:∀b o,h.get? b=some o->H b=none->b∉fs->b∉ex->h'.get? b=some o
 slot:∀b o,h.get? b=some o->H b=none->b∈fs->b∉ex->∃sl,h'.get? b=some { o with slots:=sl }
 free:∀b o,h.get? b=some o->H b=none->b∉ex->H' b=none
 there:∀b o,h.get? b=some o->b∉ex->∃o',h'.get? b=some o'
 mv:∀b xs,H b=some (.tup xs)->H' b=some (.tup xs)
 kJ:∀b o u,H b=some (.jR o u)->H' b=some (.jR o u)
 lE:∀b ps,H b=some (.ua ps)->∃more,H' b=some (.ua (ps++more))
section
variable {fs IG ex ex':List Addr}{H H1 H2:Hp}{h h1 h2 h':Heap}{a x e:Addr}{o:HO}
def Un.any (u:Un fs ex H H1 h h1){b:Addr}{ob:Obj}(q:h.get? b=some ob)(n:H b=none)(hx:b∉ex):∃sl,h1.get? b=some { ob with slots:=sl }:=by
 by_cases hb:b∈fs
 .exact u.slot b ob q n hb hx
 exact⟨ob.slots,u.keep b ob q n hb hx⟩
def Un.trans (a:Un fs ex H H1 h h1)(b:Un fs ex H1 H2 h1 h2):Un fs ex H H2 h h2 where
 keep:=λc ob q n hc hx=>b.keep c ob (a.keep c ob q n hc hx) (a.free c ob q n hx) hc hx
 slot:=λc ob q n hc hx=>by
  obtain⟨sl,e1⟩:=a.slot c ob q n hc hx;obtain⟨U1,e2⟩:=b.slot c _ e1 (a.free c ob q n hx) hc hx;exact⟨U1,e2⟩
 free:=λc ob q n hx=>by
  obtain⟨o',e1⟩:=a.there c ob q hx;exact b.free c o' e1 (a.free c ob q n hx) hx
 there:=λc ob q hx=>by
  obtain⟨o',e1⟩:=a.there c ob q hx;exact b.there c o' e1 hx
 mv:=λc xs q=>b.mv c xs (a.mv c xs q)
 kJ:=λc ob xs q=>b.kJ c ob xs (a.kJ c ob xs q)
 lE:=λc ps q=>by
  obtain⟨m1,e1⟩:=a.lE c ps q;obtain⟨m2,e2⟩:=b.lE c _ e1;exact⟨m1++m2,by rw [e2,Array.append_assoc]⟩
def Un.kept (k:∀b u,h.get? b=some u->h'.get? b=some u):Un fs ex H H h h' :=
 ⟨λb ob q _ _ _=>k b ob q,λb ob q _ _ _=>⟨ob.slots,k b ob q⟩,λ_ _ _ n _=>n,λb ob q _=>⟨ob,k b ob q⟩,λ_ _ q=>q,λ_ _ _ q=>q,λ_ ps q=>⟨#[],by rw [q];simp⟩⟩
def Un.refl:Un fs ex H H h h:=Un.kept λ_ _ q=>q
def Un.laid (k:∀b u,h.get? b=some u->h'.get? b=some u)(hp:h.objs.size<=a)(hn:H a=none):Un fs ex H (upd H a o) h h' where
 keep:=λb u q _ _ _=>k b u q
 slot:=λb u q _ _ _=>⟨u.slots,k b u q⟩
 free:=λb u q n _=>by rw [ai (bw (eD (aO q) hp))];exact n
 there:=λb u q _=>⟨u,k b u q⟩
 mv:=λb xs q=>by rw [ai (aq q hn)];exact q
 kJ:=λb u xs q=>by rw [ai (aq q hn)];exact q
 lE:=λb ps q=>⟨#[],by rw [ai (aq q hn),q];simp⟩
def Un.write (mu:Sz (H x))(he:e=x\/H e=some (.own x))(k:∀b u,b≠e->h.get? b=some u->h'.get? b=some u)(OL:∃u,h'.get? e=some u):Un fs ex H (upd H x o) h h':=by
 have hx:∀b,H b=none->b≠x:=λb n z=>by subst z;rw [n] at mu;exact mu
 have hb:∀b,H b=none->b≠e:=λb n z=>by
  subst z;rcases he with r | r
  .exact hx b n r
  rw [n] at r;cases r
 have hm:∀b u,H b=some u->¬Sz (some u)->b≠x:=λb u q nm z=>by subst z;rw [q] at mu;exact nm mu
 refine⟨λb u q n _ _=>k b u (hb b n) q,λb u q n _ _=>⟨u.slots,k b u (hb b n) q⟩,λb u q n _=>by rw [ai (hx b n)];exact n,λb u q _=>?_,
  λb xs q=>by rw [ai (hm b _ q λz=>z)];exact q,λb u xs q=>by rw [ai (hm b _ q λz=>z)];exact q,λb ps q=>⟨#[],by rw [ai (hm b _ q λz=>z),q];simp⟩⟩
 by_cases Nx:b=e
 .subst Nx;exact OL
 exact⟨u,k b u Nx q⟩
def Un.mono (u:Un fs ex H H1 h h1)(hs:∀b∈fs,b∈IG)(hx:∀b∈ex,b∈ex'):Un IG ex' H H1 h h1 :=
 ⟨λb ob q n hb he=>u.keep b ob q n (λz=>hb (hs b z)) λz=>he (hx b z),λ_ _ q n _ he=>u.any q n λz=>he (hx _ z),λb ob q n he=>u.free b ob q n λz=>he (hx b z),λb ob q he=>u.there b ob q λz=>he (hx b z),u.mv,u.kJ,u.lE⟩
end
def Il (h:Heap)(H:Hp):List Addr:=(List.range h.objs.size).filter λa=>(H a).isSome
def mP (h:Heap)(H:Hp):Heap:=PySem.W.hideAll h (Il h H)
def u7 (h:Heap)(H:Hp):(mP h H).objs.size=h.objs.size:=PySem.W.hideAll_size _ _
def yN {h:Heap}{H:Hp}{b:Addr}{o:Obj}(e:h.get? b=some o)(n:H b=none):(mP h H).get? b=some o :=
 PySem.W.hideAll_get _ e λhm=>by
  have q:(H b).isSome=true:=(eB.mp hm).2;rw [n] at q;simp at q
def Cb {h:Heap}{H:Hp}{b:Addr}{o:Obj}(e:(mP h H).get? b=some o):h.get? b=some o/\H b=none:=by
 have e':h.get? b=some o:=PySem.W.of_hideAll (Il h H) e;refine⟨e',?_⟩;cases q:H b with
 | none=>rfl
 | some x =>
  have hm:b∈Il h H:=eB.mpr ⟨jT.mpr (aO e'),by simp [q]⟩;have z:(mP h H).get? b=none:=PySem.W.hideAll_none (Il h H) hm;rw [z] at e;cases e
def Kr (g h:Heap)(L:Addr):List (Addr×Obj):=(List.range h.objs.size).filterMap λa=>if a=L\/(g.get? a).isSome=true then none else (h.get? a).map λo=>(a,o)
def rest (g h:Heap)(L d:Addr):List (Addr×Obj):=(Kr g h L).filter λp=>decide (p.1≠d)
structure Mod (K:aR)(mg:Str->Option Value)(base:Heap):Prop where
 MX:K.In base
 glob:base.Ns mainGlobals mg
 blt:∃mb,base.Ns builtinsNs mb/\∀x:Str,x ≠ "__name__" -> mb x=bootBuiltins x
 nolimit:base.NoLimit
structure Cx where
 prog:Program
 w:World
 K:aR
 mg:Str->Option Value
 base:Heap
 A:Around
 N:List Str
 s₀:Shared
 H₀:Hp
 env:Env
 outer:List Env
 stack:List Env
 ex:List Addr
 fn:Str->Bool
 calm:Bool
 pn:List (Addr×Obj)
 xe:Value->Shared->Prop
def qx (l:List Env):List Addr:=l.filterMap (·.frame)
abbrev Cx.fs (X:Cx):List Addr:=qx X.outer
def Up (sc:Scope)(x:Str):Prop:=sc.names.lookup x=some .local\/sc.names.lookup x=some .cell\/sc.names.lookup x=some .free
def Loc (sc:Scope)(x:Str):Prop:=sc.names.lookup x=some .local\/sc.names.lookup x=some .cell
def Look (env:Env)(h:Heap)(m:Str->Option Value)(x:Str)(u:Value):Prop :=
 (env.kindOf x=some .local/\m x=some u)\/((env.kindOf x=some .cell\/env.kindOf x=some .free)/\∃c,env.cells.lookup x=some c/\h.IsCell c (some u))
structure Cx.Ok (X:Cx):Prop where
 mod:Mod X.K X.mg X.base
 kind:X.env.scope.kind=.function
 glob:X.env.globals=mainGlobals
 blt:X.env.builtins=builtinsNs
 above:X.s₀.heap.objs.size<=X.env.locals
 inj:∀x y c,X.env.cells.lookup x=some c->X.env.cells.lookup y=some c->x=y
 has:∀x,(X.env.kindOf x=some .cell\/X.env.kindOf x=some .free)->∃c,X.env.cells.lookup x=some c
 O0:∀x c,X.fn x=true->X.env.cells.lookup x=some c->X.s₀.heap.objs.size<=c
 hd:X.calm=true->X.A.handled=none
 frames:X.A.frames=some X.stack
 KJ:X.stack=X.outer\/(X.stack=X.env::X.outer/\X.env.frame=some X.env.locals)
 NS:∀b∈X.ex,b≠X.env.locals/\∀x c,X.env.cells.lookup x=some c->c≠b
 bs:∀b o,X.base.get? b=some o->X.s₀.heap.get? b=some o/\X.H₀ b=none
 HQ:X.base.objs.size<=X.s₀.heap.objs.size
 DF:∀b o,X.base.get? b=some o->b∉X.ex
 A3:∀b∈X.ex,b∉X.fs
 ow:X.s₀.heap.FunFrames X.base X.outer
 J_:∀b∈X.fs,X.H₀ b=none
structure Inv (X:Cx)(ag:List (Addr×Obj))(σ:List (Option V))(H:Hp)(s:Shared):Prop where
 ok:X.Ok
 os:s.os=X.s₀.os
 bare:AllBare s.gens
 base:Un X.fs X.ex X.H₀ H X.s₀.heap s.heap
 loc:∃m,s.heap.Ns X.env.locals m/\∀(i:Nat)(x:Str)(v:V),X.N[i]?=some x->σ[i]?=some (some v)->Up X.env.scope x->∃u,RelV v u/\Look X.env s.heap m x u
 cell:∀x c,X.env.cells.lookup x=some c->∃v,s.heap.IsCell c v
 free:H X.env.locals=none
 ji:∀x c,X.env.cells.lookup x=some c->H c=none
 pin:∀p∈X.pn++ag,s.heap.get? p.1=some p.2/\H p.1=none/\p.1≠X.env.locals/\p.1∉X.fs/\∀v,p.2.data≠.cell v
 bF:lJ X.prog X.w H s.heap
 len:σ.length=X.N.length
section
variable {X:Cx}{ag:List (Addr×Obj)}{σ:List (Option V)}{H H':Hp}{s:Shared}{h':Heap}
def Cx.Ok.Vw (ok:X.Ok){b:Addr}{o:Obj}(e:X.base.get? b=some o):b∉X.fs:=λhb=>by
 have:=(ok.ow.mem hb).1;rw [e] at this;cases this
theorem Inv.bs (I:Inv X ag σ H s):∀b o,X.base.get? b=some o->s.heap.get? b=some o/\H b=none:=λb o e =>
 ⟨I.base.keep b o (I.ok.bs b o e).1 (I.ok.bs b o e).2 (I.ok.Vw e) (I.ok.DF b o e),I.base.free b o (I.ok.bs b o e).1 (I.ok.bs b o e).2 (I.ok.DF b o e)⟩
def Inv.bk (I:Inv X ag σ H s):∀b o,X.base.get? b=some o->s.heap.get? b=some o:=λb o e=>(I.bs b o e).1
theorem Inv.mod (I:Inv X ag σ H s):Mod X.K X.mg X.base:=I.ok.mod
def Inv.jo (I:Inv X ag σ H s):X.K.In s.heap:=I.ok.mod.MX.keeps I.bk
theorem Inv.nolimit (I:Inv X ag σ H s):s.heap.NoLimit:=I.ok.mod.nolimit.keeps I.bk
def Inv.fr (I:Inv X ag σ H s):∃m,Fr X.base X.env.locals s.heap m :=
 let ⟨m,hn,_⟩:=I.loc
 ⟨m,hn,I.bk,cQ I.ok.HQ I.ok.above⟩
theorem Inv.lt (I:Inv X ag σ H s):X.env.locals < s.heap.objs.size:=let ⟨_,hn,_⟩:=I.loc;hn.lt
def Inv.sz (I:Inv X ag σ H s):X.s₀.heap.objs.size<=s.heap.objs.size:=cQ I.ok.above (j5 I.lt)
def Inv.Vv (I:Inv X ag σ H s){a:Addr}(h:s.heap.objs.size<=a):a∉X.fs:=λhb=>by
 obtain⟨_,o,ho,_⟩:=I.ok.ow.mem hb;exact absurd (eD (aO ho) (cQ I.sz h)) (i5 _)
def Inv.Ls (I:Inv X ag σ H s):∀x c,X.env.cells.lookup x=some c->c≠X.env.locals:=λx c e z=>by
 obtain⟨v,o,ho,hd⟩:=I.cell x c e;obtain⟨m,⟨o',es,ep,JP,DX,_⟩,_⟩:=I.loc;rw [z,JP] at ho;cases ho;rw [DX] at hd;cases hd
theorem Inv.ow (I:Inv X ag σ H s):s.heap.FunFrames X.base X.outer:=by
 have all:∀(l:List Env),(∀b∈qx l,b∈X.fs)->X.s₀.heap.FunFrames X.base l->s.heap.FunFrames X.base l:=by
  intro l
  induction l with
  | nil=>intro _ _;trivial
  | cons env r ih =>
   intro hs hl;obtain⟨hk,⟨L,o,hf,hn,ho,hd⟩,hr⟩:=hl;have hL:L∈X.fs:=hs L (by unfold qx;rw [List.filterMap_cons,hf];exact bO);obtain⟨sl,e⟩:=I.base.slot L o ho (I.ok.J_ L hL) hL λz=>I.ok.A3 L z hL;exact⟨hk,⟨L,_,hf,hn,e,hd⟩,ih (λb hb=>hs b (by unfold qx;rw [List.filterMap_cons,hf];exact bS _ hb)) hr⟩
 exact all X.outer (λ_ hb=>hb) I.ok.ow
theorem Inv.stack (I:Inv X ag σ H s):s.heap.FunFrames X.base X.stack:=by
 rcases I.ok.KJ with e | ⟨e,hf⟩
 .rw [e];exact I.ow
 rw [e];obtain⟨m,hn,_⟩:=I.loc;refine .cons (by rw [I.ok.kind];decide) hf hn ?_ I.ow;exact vI (cQ I.ok.HQ I.ok.above)
def Inv.wg (I:Inv X ag σ H s):∀b∈qx X.stack,b∈X.env.locals::X.fs:=λb hb=>by
 rcases I.ok.KJ with e | ⟨e,hf⟩
 .rw [e] at hb;exact bS _ hb
 rw [e] at hb;unfold qx at hb;rw [List.filterMap_cons,hf] at hb;exact hb
def Inv.qG (I:Inv X ag σ H s):∀b∈qx X.stack,H b=none:=λb hb=>by
 rcases bN.mp (I.wg b hb) with e | hb
 .rw [e];exact I.free
 obtain⟨_,o,ho,_⟩:=I.ok.ow.mem hb;exact I.base.free b o ho (I.ok.J_ b hb) λz=>I.ok.A3 b z hb
def Inv.step {g':Array GenState}{t':Nat}{d':Drawn}{ch:List Addr}(I:Inv X ag σ H s)
  (IC:∀b∈ch,(b∈X.ex\/X.s₀.heap.objs.size<=b)/\b≠X.env.locals/\(∀x c,X.env.cells.lookup x=some c->c≠b)/\∀p∈X.pn++ag,p.1≠b)
  (keep:∀b o,b≠X.env.locals->b∉X.fs->b∉ch->s.heap.get? b=some o->H b=none->h'.get? b=some o)
  (slot:∀b o,b≠X.env.locals->b∈X.fs->b∉ch->s.heap.get? b=some o->H b=none->∃sl,h'.get? b=some { o with slots:=sl })(free:∀b o,b∉ch->s.heap.get? b=some o->H b=none->H' b=none)
  (there:∀b o,b∉ch->s.heap.get? b=some o->∃o',h'.get? b=some o')
  (mv:∀b xs,H b=some (.tup xs)->H' b=some (.tup xs))(kJ:∀b o u,H b=some (.jR o u)->H' b=some (.jR o u))(lE:∀b ps,H b=some (.ua ps)->∃more,H' b=some (.ua (ps++more)))
  (ns:∀m,s.heap.Ns X.env.locals m->h'.Ns X.env.locals m)(bF:lJ X.prog X.w H' h')(hg:AllBare g') :
  Inv X ag σ H' { s with heap:=h',gens:=g',drawn:=d',toks:=t' }:=by
 have Zp:∀b o,X.s₀.heap.get? b=some o->b≠X.env.locals:=λb o e=>bw (eD (aO e) I.ok.above);have OB:∀b o,X.s₀.heap.get? b=some o->b∉X.ex->b∉ch:=λb o e hx hb=>by
  rcases (IC b hb).1 with z | z
  .exact hx z
  exact absurd (eD (aO e) z) (i5 _)
 have cellK:∀x c,X.env.cells.lookup x=some c->∀v,s.heap.IsCell c v->h'.IsCell c v:=λx c e v ⟨o,ho,hd⟩=>by
  have Qm:c∉ch:=λz=>(IC c z).2.2.1 x c e rfl;by_cases hc:c∈X.fs
  .obtain⟨sl,q⟩:=slot c o (I.Ls x c e) hc Qm ho (I.ji x c e);exact⟨_,q,hd⟩
  exact⟨o,keep c o (I.Ls x c e) hc Qm ho (I.ji x c e),hd⟩
 refine⟨I.ok,I.os,hg,⟨λb o e n hb hx=>?_,λb o e n hb hx=>?_,λb o e n hx=>?_,λb o e hx=>?_,λb xs e=>mv b xs (I.base.mv b xs e),λb o xs e=>kJ b o xs (I.base.kJ b o xs e),λb ps e=>?_⟩,?_,λx c e=>?_,?_,λx c e=>?_,λp hp=>?_,bF,I.len⟩
 .exact keep b o (Zp b o e) hb (OB b o e hx) (I.base.keep b o e n hb hx) (I.base.free b o e n hx)
 .obtain⟨sl,e1⟩:=I.base.slot b o e n hb hx;obtain⟨U1,e2⟩:=slot b _ (Zp b o e) hb (OB b o e hx) e1 (I.base.free b o e n hx);exact⟨U1,e2⟩
 .obtain⟨o',e1⟩:=I.base.there b o e hx;exact free b o' (OB b o e hx) e1 (I.base.free b o e n hx)
 .obtain⟨o',e1⟩:=I.base.there b o e hx;exact there b o' (OB b o e hx) e1
 .obtain⟨m1,e1⟩:=I.base.lE b ps e;obtain⟨m2,e2⟩:=lE b _ e1;exact⟨m1++m2,by rw [e2,Array.append_assoc]⟩
 .obtain⟨m,hn,hl⟩:=I.loc;refine⟨m,ns m hn,λi x v e1 e2 e3=>?_⟩;obtain⟨u,r,l⟩:=hl i x v e1 e2 e3;refine⟨u,r,?_⟩;rcases l with l | ⟨k,c,e,z⟩
  .exact .inl l
  exact .inr ⟨k,c,e,cellK x c e _ z⟩
 .obtain⟨v,z⟩:=I.cell x c e;exact⟨v,cellK x c e v z⟩
 .obtain⟨m,⟨o,_,_,ho,_⟩,_⟩:=I.loc;exact free _ o (λz=>(IC _ z).2.1 rfl) ho I.free
 .obtain⟨v,o,ho,hd⟩:=I.cell x c e;exact free c o (λz=>(IC c z).2.2.1 x c e rfl) ho (I.ji x c e)
 obtain⟨e,n,ne,nf,d⟩:=I.pin p hp;have Qm:p.1∉ch:=λz=>(IC p.1 z).2.2.2 p hp rfl;exact⟨keep p.1 p.2 ne nf Qm e n,free p.1 p.2 Qm e n,ne,nf,d⟩
def Inv.un {t':Nat}(I:Inv X ag σ H s)(u:Un X.fs [] H H' s.heap h')(bF:lJ X.prog X.w H' h'):Inv X ag σ H' { s with heap:=h',toks:=t' }:=by
 obtain⟨m,⟨o,es,ep,ho,r⟩,_⟩:=id I.loc;obtain⟨sl,hL⟩:=u.any ho I.free (by simp);exact I.step (g':=s.gens) (d':=s.drawn) (ch:=[]) (λ_ z=>nomatch z) (λb o _ hb _ e n=>u.keep b o e n hb (by simp)) (λb o _ hb _ e n=>u.slot b o e n hb (by simp)) (λb o _ e n=>u.free b o e n (by simp)) (λb o _ e=>u.there b o e (by simp)) u.mv u.kJ u.lE (λm' hm=>by
  obtain⟨o',ub,Xw,JP,r'⟩:=hm;rw [ho] at JP;cases JP;exact⟨_,ub,Xw,hL,r'⟩) bF I.bare
def Inv.call {g':Array GenState}{t':Nat}{d':Drawn}{ch:List Addr}(I:Inv X ag σ H s)(u:Un (qx X.stack) ch H H' s.heap h')(bF:lJ X.prog X.w H' h')(hg:AllBare g')
  (IC:∀b∈ch,(b∈X.ex\/X.s₀.heap.objs.size<=b)/\b≠X.env.locals/\(∀x c,X.env.cells.lookup x=some c->c≠b)/\∀p∈X.pn++ag,p.1≠b) :
  Inv X ag σ H' { s with heap:=h',gens:=g',drawn:=d',toks:=t' }:=by
 obtain⟨m,⟨o,es,ep,ho,r⟩,_⟩:=id I.loc;obtain⟨sl,hL⟩:=u.any ho I.free λz=>(IC _ z).2.1 rfl;exact I.step (ch:=ch) IC (λb o hL hb hc e n=>u.keep b o e n (λz=>(bN.mp (I.wg b z)).elim hL hb) hc) (λb o _ _ hc e n=>u.any e n hc) (λb o hc e n=>u.free b o e n hc) (λb o hc e=>u.there b o e hc) u.mv u.kJ u.lE (λm' hm=>by
  obtain⟨o',ub,Xw,JP,r'⟩:=hm;rw [ho] at JP;cases JP;exact⟨_,ub,Xw,hL,r'⟩) bF hg
def Inv.turned {t':Nat}{it:Addr}(I:Inv X ag σ H s)(k:∀b o,b≠it->s.heap.get? b=some o->h'.get? b=some o)(hn:H it=none)(hL:it≠X.env.locals)
  (h1:it∈X.ex\/X.s₀.heap.objs.size<=it)(h2:∀x c,X.env.cells.lookup x=some c->c≠it)(h3:∀p∈X.pn++ag,p.1≠it):Inv X ag σ H { s with heap:=h',toks:=t' }:=by
 have Zo:∀b u,H b=some u->b≠it:=λb u e z=>by rw [z,hn] at e;cases e
 refine I.step (g':=s.gens) (d':=s.drawn) (ch:=[it]) (λb hb=>?_) (λb o _ _ hc e _=>k b o (λz=>hc (by simp [z])) e) (λb o _ _ hc e _=>⟨o.slots,k b o (λz=>hc (by simp [z])) e⟩) (λ_ _ _ _ n=>n)
  (λb o hc e=>⟨o,k b o (λz=>hc (by simp [z])) e⟩) (λ_ _ e=>e) (λ_ _ _ e=>e) (λb ps e=>⟨#[],by rw [e];simp⟩) (λm hm=>?_) (λb u e=>?_) I.bare
 .have e:b=it:=by simpa using hb
  subst e;exact⟨h1,hL,h2,h3⟩
 .obtain⟨o,es,ep,ho,r⟩:=hm;exact⟨o,es,ep,k _ o (dC hL) ho,r⟩
 refine(I.bF b u e).iV (λc v hc q=>k c v ?_ q) (λ_ q=>q) λ_ _ q=>q;rcases hc with z | z
 .rw [z];exact Zo b u e
 exact Zo c _ z
def Inv.tok (I:Inv X ag σ H s) (t:Nat):Inv X ag σ H { s with toks:=t }:=I.un (h':=s.heap) (t':=t) Un.refl I.bF
theorem Inv.kept {t':Nat}(I:Inv X ag σ H s)(k:∀b u,s.heap.get? b=some u->h'.get? b=some u):Inv X ag σ H { s with heap:=h',toks:=t' }:=I.un (Un.kept k) (I.bF.kept k)
theorem Inv.laid {a:Addr}{o:HO}{t':Nat}(I:Inv X ag σ H s)(k:∀b u,s.heap.get? b=some u->h'.get? b=some u)(hp:s.heap.objs.size<=a)(new:bW X.prog X.w (upd H a o) h' a o) :
  Inv X ag σ (upd H a o) { s with heap:=h',toks:=t' }:=I.un (Un.laid k hp (I.bF.fresh hp)) (I.bF.laid k hp new)
theorem Inv.write {x e:Addr}{o:HO}{t':Nat}(I:Inv X ag σ H s)(mu:Sz (H x))(he:e=x\/H e=some (.own x))(k:∀b u,b≠e->s.heap.get? b=some u->h'.get? b=some u)(OL:∃u,h'.get? e=some u)
  (new:bW X.prog X.w (upd H x o) h' x o):Inv X ag σ (upd H x o) { s with heap:=h',toks:=t' }:=I.un (Un.write mu he k OL) (I.bF.write mu he k OL new)
def Inv.B1 {jM:List (Addr×Obj)}(I:Inv X ag σ H s)(h:∀p∈jM,s.heap.get? p.1=some p.2/\H p.1=none/\p.1≠X.env.locals/\p.1∉X.fs/\∀v,p.2.data≠.cell v):Inv X jM σ H s :=
 ⟨I.ok,I.os,I.bare,I.base,I.loc,I.cell,I.free,I.ji,λp hp=>(bZ.mp hp).elim (λz=>I.pin p (i8 _ z)) (h p),I.bF,I.len⟩
def sJ {N:List Str}(hN:N.Nodup){i j:Nat}{x:Str}(a:N[i]?=some x)(b:N[j]?=some x):i=j:=by
 obtain⟨h1,e1⟩:=aY.mp a;obtain⟨h2,e2⟩:=aY.mp b;exact(rp hN).mp (e1.trans e2.symm)
def uC {M:Model}{A:Around}{E:Value->Shared->Prop}{i:Nat}{x:Str}{v:V}{u:Value}{Q:Unit->Shared->Prop}(I:Inv X ag σ H s)(hN:X.N.Nodup)(hi:X.N[i]?=some x)(hx:Loc X.env.scope x)(r:RelV v u)
  (h:∀s',Inv X ag (σ.set i (some v)) H s'->(∃a,Heap.SameBut a s.heap s'.heap/\(a=X.env.locals\/X.env.cells.lookup x=some a))->Q () s')(hf:X.fn x=true\/X.env.scope.names.lookup x=some .local:=by first | exact .inl rfl | exact .inr rfl | assumption):wpAny M A (storeName X.env x u) Q E s:=by
 obtain⟨m,hn,hl⟩:=id I.loc;have W3:(X.env.scope.kind == .class || (X.env.scope.kind == .module && X.env.locals != X.env.globals))=false:=by rw [I.ok.kind];rfl
 have Z0:i < σ.length:=by rw [I.len];exact(aY.mp hi).1
 have Ls:=I.Ls;have tracked:∀{a:Addr}{h':Heap},(∃o,s.heap.get? a=some o/\H a=none)->Heap.SameBut a s.heap h'->lJ X.prog X.w H h':=λ{a h'} ha hs b ob e=>by
  obtain⟨_,_,oj⟩:=ha;refine(I.bF b ob e).iV (λc w' hc q=>(hs.2 c ?_).trans q) (λ_ q=>q) λ_ _ q=>q;rintro rfl;rcases hc with rfl | hc
  .rw [oj] at e;cases e
  rw [oj] at hc;cases hc
 rcases hx with hk | hk
 .refine wpAny_storeName_local hk hn (λh' Ni hs=>?_) W3;obtain⟨oL,_,_,hoL,_⟩:=id hn;refine h _ ⟨I.ok,I.os,I.bare,⟨λb o e n hb hx=>?_,λb o e n hb hx=>?_,I.base.free,λb o e hx=>?_,I.base.mv,I.base.kJ,I.base.lE⟩,⟨_,Ni,λj y v' e1 e2 e3=>?_⟩,λy c e=>?_,I.free,I.ji,λp hp=>?_,tracked ⟨oL,hoL,I.free⟩ hs,by simpa using I.len⟩ ⟨_,hs,.inl rfl⟩
  .exact(hs.2 b (bw (eD (aO e) I.ok.above))).trans (I.base.keep b o e n hb hx)
  .obtain⟨sl,e1⟩:=I.base.slot b o e n hb hx;exact⟨sl,(hs.2 b (bw (eD (aO e) I.ok.above))).trans e1⟩
  .obtain⟨o',e1⟩:=I.base.there b o e hx;exact⟨o',(hs.2 b (bw (eD (aO e) I.ok.above))).trans e1⟩
  .by_cases hj:j=i
   .subst hj;rw [hi] at e1;cases e1;rw [vV Z0] at e2;cases e2;exact⟨u,r,.inl ⟨hk,by simp⟩⟩
   rw [List.getElem?_set_ne (dC hj)] at e2;obtain⟨u',r',q⟩:=hl j y v' e1 e2 e3;refine⟨u',r',?_⟩;rcases q with ⟨k,e⟩ | ⟨k,c,e,z⟩
   .refine .inl ⟨k,?_⟩;have:y≠x:=λe=>hj (sJ hN e1 (e ▸ hi));simp [this,e]
   exact .inr ⟨k,c,e,z.sameBut hs (Ls y c e)⟩
  .obtain⟨w',z⟩:=I.cell y c e;exact⟨w',z.sameBut hs (Ls y c e)⟩
  obtain⟨e,n,ne,nf,d⟩:=I.pin p hp;exact⟨(hs.2 p.1 ne).trans e,n,ne,nf,d⟩
 have WR:X.fn x=true:=by
  rcases hf with z | z
  .exact z
  rw [z] at hk;cases hk
 obtain⟨c,hc⟩:=I.ok.has x (.inl hk);obtain⟨w',z⟩:=I.cell x c hc;refine wpAny_storeName_cell I.ok.kind hk hc z (λh' lG hs=>?_);obtain⟨oc,zD,WA⟩:=id z;refine h { s with heap:=h' } ⟨I.ok,I.os,I.bare,⟨λb o e n hb hx=>?_,λb o e n hb hx=>?_,I.base.free,λb o e hx=>?_,I.base.mv,I.base.kJ,I.base.lE⟩,⟨m,hn.sameBut hs (dC (Ls x c hc)),λj y v' e1 e2 e3=>?_⟩,λy c' e=>?_,I.free,I.ji,λp hp=>?_,tracked ⟨oc,zD,I.ji x c hc⟩ hs,by simpa using I.len⟩ ⟨c,hs,.inr hc⟩
 .exact(hs.2 b (bw (eD (aO e) (I.ok.O0 x c WR hc)))).trans (I.base.keep b o e n hb hx)
 .obtain⟨sl,e1⟩:=I.base.slot b o e n hb hx;exact⟨sl,(hs.2 b (bw (eD (aO e) (I.ok.O0 x c WR hc)))).trans e1⟩
 .obtain⟨o',e1⟩:=I.base.there b o e hx;exact⟨o',(hs.2 b (bw (eD (aO e) (I.ok.O0 x c WR hc)))).trans e1⟩
 .by_cases hj:j=i
  .subst hj;rw [hi] at e1;cases e1;rw [vV Z0] at e2;cases e2;exact⟨u,r,.inr ⟨.inl hk,c,hc,lG⟩⟩
  rw [List.getElem?_set_ne (dC hj)] at e2;obtain⟨u',r',q⟩:=hl j y v' e1 e2 e3;refine⟨u',r',?_⟩;rcases q with q | ⟨k,c',e,z'⟩
  .exact .inl q
  refine .inr ⟨k,c',e,z'.sameBut hs ?_⟩;rintro rfl;exact hj (sJ hN e1 (I.ok.inj _ _ _ e hc ▸ hi))
 .by_cases JT:c'=c
  .subst JT;exact⟨_,lG⟩
  obtain⟨w2,z2⟩:=I.cell y c' e;exact⟨w2,z2.sameBut hs JT⟩
 obtain⟨e,n,ne,nf,d⟩:=I.pin p hp;refine⟨(hs.2 p.1 ?_).trans e,n,ne,nf,d⟩;intro q;rw [q,zD] at e;have q':oc=p.2:=ib e;exact d w' (by rw [<-q'];exact WA)
def ja {M:Model}{A:Around}{E:Value->Shared->Prop}{i:Nat}{x:Str}{v:V}{u:Value}{Q:Unit->Shared->Prop}(I:Inv X ag σ H s)(hN:X.N.Nodup)(hi:X.N[i]?=some x)(hx:Loc X.env.scope x)(r:RelV v u)
  (h:∀s',Inv X ag (σ.set i (some v)) H s'->Q () s')(hf:X.fn x=true\/X.env.scope.names.lookup x=some .local:=by first | exact .inl rfl | exact .inr rfl | assumption):wpAny M A (storeName X.env x u) Q E s :=
 uC I hN hi hx r (λs' I' _=>h s' I') hf
def Inv.CD {s':Shared}{ch:List Addr}(I:Inv X ag σ H s)(ho:s'.os=s.os)(u:Un (qx X.stack) ch H H' s.heap s'.heap)(bF:lJ X.prog X.w H' s'.heap)(hg:AllBare s'.gens)
  (IC:∀b∈ch,(b∈X.ex\/X.s₀.heap.objs.size<=b)/\b≠X.env.locals/\(∀x c,X.env.cells.lookup x=some c->c≠b)/\∀p∈X.pn++ag,p.1≠b):Inv X ag σ H' s':=by
 obtain⟨h',g',d',t',o'⟩:=s';have e:o'=s.os:=ho;subst e;exact I.call (g':=g') (t':=t') (d':=d') u bF hg IC
end
abbrev XK:=Value->Option Addr->Hp->Prop
abbrev St:=List (Option V)
abbrev bj (a:Addr):Option V:=some (.ref a)
abbrev VK:=V->Hp->Prop
abbrev TE:=St->Hp->VK->Prop
abbrev TT:=St->Hp->(Bool->Hp->Prop)->Prop
abbrev TA:=St->Hp->(List V->Hp->Prop)->Prop
structure Ends where
 nx:St->Hp->Prop
 rt:VK
 bk:St->Hp->Prop:=λ_ _=>False
 ct:St->Hp->Prop:=λ_ _=>False
abbrev TS:=Ends->St->Hp->Prop
def EP (X:Cx)(ag:List (Addr×Obj))(σ:St)(Q:VK)(u:Value)(s':Shared):Prop:=∃v H',Inv X ag σ H' s'/\RelV v u/\Q v H'
def TP (X:Cx)(ag:List (Addr×Obj))(σ:St)(Q:Bool->Hp->Prop)(b:Bool)(s':Shared):Prop:=∃H',Inv X ag σ H' s'/\Q b H'
def AP (X:Cx)(ag:List (Addr×Obj))(σ:St)(Q:List V->Hp->Prop)(us:List Value)(s':Shared):Prop:=∃vs H',Inv X ag σ H' s'/\aV vs us/\Q vs H'
def SP (X:Cx)(ag:List (Addr×Obj))(D:Ends)(f:Flow)(s':Shared):Prop :=
 match f with
 | .next=>∃σ' H',Inv X ag σ' H' s'/\D.nx σ' H'
 | .brk=>∃σ' H',Inv X ag σ' H' s'/\D.bk σ' H'
 | .cont=>∃σ' H',Inv X ag σ' H' s'/\D.ct σ' H'
 | .ret u=>∃v σ' H',Inv X ag σ' H' s'/\RelV v u/\D.rt v H'
def PE (X:Cx)(e:Expr)(t:TE):Prop :=
 ∀(ag:List (Addr×Obj))(s:Shared)(σ:St)(H:Hp)(Q:VK),Inv X ag σ H s->t σ H Q->wpAny (model X.prog X.w) X.A (eval e X.env) (EP X ag σ Q) X.xe s
def PT (X:Cx)(e:Expr)(t:TT):Prop :=
 ∀(ag:List (Addr×Obj))(s:Shared)(σ:St)(H:Hp)(Q:Bool->Hp->Prop),Inv X ag σ H s->t σ H Q->wpAny (model X.prog X.w) X.A (isTrue e X.env (eval e X.env)) (TP X ag σ Q) X.xe s
def PW (X:Cx)(e:Expr)(t:TT):Prop :=
 ∀(whole:Sem Value)(ag:List (Addr×Obj))(s:Shared)(σ:St)(H:Hp)(Q:Bool->Hp->Prop),Inv X ag σ H s->t σ H Q->wpAny (model X.prog X.w) X.A (isTrue e X.env whole) (TP X ag σ Q) X.xe s
def PW.pt {X:Cx}{e:Expr}{t:TT}(h:PW X e t):PT X e t:=h _
def PA (X:Cx)(es:List Expr)(t:TA):Prop :=
 ∀(pos:Pos)(ag:List (Addr×Obj))(s:Shared)(σ:St)(H:Hp)(Q:List V->Hp->Prop),Inv X ag σ H s->t σ H Q->wpAny (model X.prog X.w) X.A (spliced (backTo pos (starEach es X.env))) (AP X ag σ Q) X.xe s
def PS (X:Cx)(st:Stmt)(t:TS):Prop :=
 ∀(ag:List (Addr×Obj))(s:Shared)(σ:St)(H:Hp)(D:Ends),Inv X ag σ H s->t D σ H->wpAny (model X.prog X.w) X.A (exec st X.env) (SP X ag D) X.xe s
def xP (X:Cx)(st:List Stmt)(t:TS):Prop :=
 ∀(ag:List (Addr×Obj))(s:Shared)(σ:St)(H:Hp)(D:Ends),Inv X ag σ H s->t D σ H->wpAny (model X.prog X.w) X.A (execs st X.env) (SP X ag D) X.xe s
def cK {α:Type}{t:Sem α}{Q Q':α->Shared->Prop}{M:Model}{A:Around}{E:Value->Shared->Prop}{s:Shared}(h:wpAny M A t Q E s)(hQ:∀a s,Q a s->Q' a s):wpAny M A t Q' E s:=cv h hQ λ_ _ x=>x
section
variable {X:Cx}
def bin {a b:Expr}{ta tb:TE}(ha:PE X a ta)(hb:PE X b tb){ag:List (Addr×Obj)}{s:Shared}{σ:St}{H:Hp}{R:V->V->Hp->Prop}(I:Inv X ag σ H s)(h:ta σ H λx H1=>tb σ H1 λy H2=>R x y H2)
  {α:Type}{Q:α->Shared->Prop}{f:Value->Value->Sem α}
  (hf:∀v u s2 x y H2,Inv X ag σ H2 s2->RelV x v->RelV y u->R x y H2->wpAny (model X.prog X.w) X.A (f v u) Q X.xe s2) :
  wpAny (model X.prog X.w) X.A (eval a X.env) (λv s₁=>wpAny (model X.prog X.w) X.A (eval b X.env) (λu s₂=>wpAny (model X.prog X.w) X.A (f v u) Q X.xe s₂) X.xe s₁) X.xe s:=by
 refine cK (ha ag s σ H _ I h) λv s1 aS=>?_;obtain⟨x,H1,I1,r1,q1⟩:=aS;refine cK (hb ag s1 σ H1 _ I1 q1) λu s2 aS=>?_;obtain⟨y,H2,I2,r2,q2⟩:=aS;exact hf v u s2 x y H2 I2 r1 r2 q2
inductive Sm (o:Option (Option V))(R:V->Prop):Prop
|mk(v:V)(e:o=some (some v))(q:R v)
inductive XB (x:V)(R:Bool->Prop):Prop
|mk(c:Bool)(e:x=.bl c)(q:R c)
inductive Yx (x:V)(R:Int->Prop):Prop
|mk(i:Int)(e:x=.int i)(q:R i)
inductive XI0 (x y:V)(R:Int->Int->Prop):Prop
|mk(i j:Int)(e:x=.int i)(e2:y=.int j)(q:R i j)
inductive XI2 (x y:V)(C:Int->Int->Prop)(R:Int->Int->Prop):Prop
|mk(i j:Int)(e:x=.int i)(e2:y=.int j)(c:C i j)(q:R i j)
inductive LA (vs:List V)(R:V->List V->Prop):Prop
|mk(v:V)(r:List V)(e:vs=v::r)(q:R v r)
inductive Sn (v:V)(S:Addr->List V->Prop) (n:Nat)(R:List V->Prop):Prop
|mk(a:Addr)(xs:List V)(e:v=.ref a)(s:S a xs)(l:xs.length=n)(q:R xs)
inductive Uo (x:V)(S:Addr->Prop)(R:Addr->Prop):Prop
|mk(a:Addr)(e:x=.ref a)(s:S a)(q:R a)
inductive Yv (x:V)(S:Addr->List V->Prop)(R:List V->Prop):Prop
|mk(a:Addr)(xs:List V)(e:x=.ref a)(s:S a xs)(q:R xs)
inductive YA (S:Addr->List V->Prop)(x y:V)(R:List V->List V->Prop):Prop
|mk(a b:Addr)(xs ys:List V)(e:x=.ref a)(e2:y=.ref b)(s:S a xs)(s2:S b ys)(z:xs.length+ys.length<=sizeLine)(q:R xs ys)
inductive XRg (vs:List V)(R:Int->Prop):Prop
|mk(j:Int)(e:vs=[.int j])(l:-(2 ^ 62)<=j)(u:j < 2 ^ 62)(q:R j)
inductive Yy (vs:List V)(S:Addr->List V->Prop)(R:Addr->Prop):Prop
|mk(a:Addr)(xs:List V)(e:vs=[.ref a])(s:S a xs)(q:R a)
inductive N_ (xs:List V)(S:Addr->List V->Prop)(R:List V->Prop):Prop
|mk(p:Addr)(ys:List V)(e:xs=[.ref p])(s:S p ys)(q:R ys)
def gG (i:Nat):TE:=λσ H Q=>Sm σ[i]? λv=>Q v H
def tC (v:V):TE:=λ_ H Q=>Q v H
def Mz {i:Nat}{x:Str}{pos:Pos}(hN:X.N[i]?=some x)(hv:Up X.env.scope x)(hd:(x == ("__debug__":Str))=false:=by decide)(sZ:(x == ("__classdict__":Str))=false:=by decide):PE X (.Name x pos) (gG i):=by
 intro ag s σ H Q I h;obtain⟨v,e,h⟩:=h;obtain⟨m,hn,hl⟩:=I.loc;obtain⟨u,r,l⟩:=hl i x v hN e hv;have fin:EP X ag σ Q u s:=⟨v,H,I,r,h⟩;rcases l with ⟨hk,hm⟩ | ⟨hk,c,hc,jh⟩
 .exact wpAny_Name (vK I.ok.kind hk hn hm fin) hd
 rcases hk with hk | hk
 .exact wpAny_Name (wpAny_loadName_cell I.ok.kind hk hc jh fin) hd
 exact wpAny_Name (wpAny_loadName_free I.ok.kind hk hc jh fin sZ) hd
def ay {i j pos}:PE X (.Constant (.int i) j pos) (tC (.int i)):=λ_ _ _ H _ I h=>wpAny_Constant_int ⟨.int i,H,I.tok _,⟨_,rfl⟩,h⟩
def gC {b j pos}:PE X (.Constant (.bool b) j pos) (tC (.bl b)):=λ_ _ _ H _ I h=>Constant_bool ⟨.bl b,H,I,rfl,h⟩
def sG {j pos}:PE X (.Constant .none j pos) (tC .dG):=λ_ _ _ H _ I h=>Constant_none ⟨.dG,H,I,rfl,h⟩
def sF {x j pos}:PE X (.Constant (.str x) j pos) (tC (.str x)):=λ_ _ _ H _ I h=>vC ⟨.str x,H,I.tok _,⟨_,rfl⟩,h⟩
def Gl (X:Cx)(x:Str):Prop:=X.env.kindOf x=some .globalImplicit
def iN {E:Value->Shared->Prop}{ag:List (Addr×Obj)}{s:Shared}{σ:St}{H:Hp}{x:Str}{u:Value}{pos:Pos}{Q:Value->Shared->Prop}(I:Inv X ag σ H s)(hg:Gl X x)(hm:X.mg x=some u)(h:Q u s)
  (hd:(x == ("__debug__":Str))=false:=by decide):wpAny (model X.prog X.w) X.A (eval (.Name x pos) X.env) Q E s :=
 Calls.Name_function_global I.ok.kind hg (Calls.loadGlobal_global (by rw [I.ok.glob];exact I.mod.glob.keeps I.bk) hm h) hd
def jE {E:Value->Shared->Prop}{ag:List (Addr×Obj)}{s:Shared}{σ:St}{H:Hp}{x:Str}{u:Value}{pos:Pos}{Q:Value->Shared->Prop}(I:Inv X ag σ H s)(hg:Gl X x)(hm:X.mg x=none)(hv:bootBuiltins x=some u)(h:Q u s)
  (hn:x ≠ "__name__" := by decide)(hd:(x == ("__debug__":Str))=false:=by decide):wpAny (model X.prog X.w) X.A (eval (.Name x pos) X.env) Q E s:=by
 obtain⟨mb,h1,h2⟩:=I.mod.blt;exact Calls.Name_function_global I.ok.kind hg (Calls.loadGlobal_builtin (by rw [I.ok.glob];exact I.mod.glob.keeps I.bk) hm (by rw [I.ok.blt];exact h1.keeps I.bk) ((h2 x hn).trans hv) h) hd
def il {x:Str}{v:V}{u:Value}{pos:Pos}(hg:Gl X x)(hm:X.mg x=some u)(r:RelV v u)(hd:(x == ("__debug__":Str))=false:=by decide):PE X (.Name x pos) (tC v) :=
 λ_ _ _ H _ I h=>iN I hg hm ⟨v,H,I,r,h⟩ hd
def wM {x:Str}{v:V}{u:Value}{pos:Pos}(hg:Gl X x)(hm:X.mg x=none)(hv:bootBuiltins x=some u)(r:RelV v u)(hn:x ≠ "__name__" := by decide)(hd:(x == ("__debug__":Str))=false:=by decide):PE X (.Name x pos) (tC v) :=
 λ_ _ _ H _ I h=>jE I hg hm hv ⟨v,H,I,r,h⟩ hn hd
variable {a b:Expr}{ta tb:TE}{pos:Pos}
def PC (X:Cx)(op:CmpOp)(a b:Expr)(t:TE):Prop :=
 ∀(ag:List (Addr×Obj))(s:Shared)(σ:St)(H:Hp)(Q:VK),Inv X ag σ H s->t σ H Q ->
  wpAny (model X.prog X.w) X.A (eval a X.env) (λv s₁=>wpAny (model X.prog X.w) X.A (eval b X.env) (λu s₂=>wpAny (model X.prog X.w) X.A (compareOp op v u) (EP X ag σ Q) X.xe s₂) X.xe s₁) X.xe s
def yx (b:Expr){op:CmpOp}(h:op≠.In)(h2:op≠.NotIn):behindInMarks op b=false:=by
 have e1:(op == CmpOp.In)=false:=by cases op <;> first | rfl | exact absurd rfl h
 have e2:(op == CmpOp.NotIn)=false:=by cases op <;> first | rfl | exact absurd rfl h2
 cases b <;> simp [behindInMarks,e1,e2]
def UP (ta:TE):TE:=λσ H Q=>ta σ H λx H1=>Q (.bl (decide (x=.dG))) H1
def Pf (ta:TE):TE:=λσ H Q=>ta σ H λx H1=>Q (.bl (!decide (x=.dG))) H1
def RelV.yw {x:V}{v:Value}(r:RelV x v):(v == Value.none)=decide (x=.dG):=by
 cases x with
 | dG=>cases r;rfl
 | bl _=>cases r;rfl
 | int _=>obtain⟨t,rfl⟩:=r;rfl
 | str _=>obtain⟨t,rfl⟩:=r;rfl
 | Bc _=>obtain⟨t,rfl⟩:=r;rfl
 | NQ _=>obtain⟨t,rfl⟩:=r;rfl
 | ref _=>cases r;rfl
 | ty _=>cases r;rfl
def MA {j pos'}(ha:PE X a ta):PC X .Is a (.Constant .none j pos') (UP ta):=by
 intro ag s σ H Q I h;refine cK (ha ag s σ H _ I h) λv s1 aS=>?_;obtain⟨x,H1,I1,r1,q1⟩:=aS;exact Constant_none (is_none_gen ⟨.bl _,H1,I1,by rw [r1.yw];rfl,q1⟩)
def B9 {j pos'}(ha:PE X a ta):PC X .IsNot a (.Constant .none j pos') (Pf ta):=by
 intro ag s σ H Q I h;refine cK (ha ag s σ H _ I h) λv s1 aS=>?_;obtain⟨x,H1,I1,r1,q1⟩:=aS;exact Constant_none (isnot_none_gen ⟨.bl _,H1,I1,by rw [r1.yw];rfl,q1⟩)
def tB (t:TE):TT:=λσ H Q=>t σ H λx H1=>XB x λc=>Q c H1
def Gd {op:CmpOp}{t:TE}(h:PC X op a b t)(h1:behindInMarks op b=false:=by first | exact yx _ nofun nofun | rfl):PE X (.Compare a [op] [b] pos) t:=λag s σ H Q I hw=>wpAny_Compare1 (h ag s σ H Q I hw) h1
def e_ {op:CmpOp}{t:TE}(h:PC X op a b t)(h1:behindInMarks op b=false:=by first | exact yx _ nofun nofun | rfl):PT X (.Compare a [op] [b] pos) (tB t):=by
 intro ag s σ H Q I hw;refine wpAny_isTrue_Compare1 (cK (h ag s σ H _ I hw) λv s1 h1=>cK h1 λu s2 h2=>cK h2 λc s3 aS=>?_) h1;obtain⟨x,H1,I1,r1,q1⟩:=aS;obtain⟨d,rfl,q⟩:=q1;cases r1;exact nA ⟨H1,I1,q⟩
def g_ {e:Expr}{t:TE}(h:PE X e t)(he:∀whole,isTrue e X.env whole=(do let v <-whole;standAt e.pos;holding [v] (truthy v)):=by intro _;rfl):PT X e (tB t):=by
 intro ag s σ H Q I hw;refine isTrue_plain (cK (h ag s σ H _ I hw) λv s1 aS=>?_) (he _);obtain⟨x,H1,I1,r1,q1⟩:=aS;obtain⟨d,rfl,q⟩:=q1;cases r1;exact nA ⟨H1,I1,q⟩
variable {tA SV:TT}{rest:List Expr}
def UU (t u:TT):TT:=λσ H Q=>t σ H λc H1=>if c=true then u σ H1 Q else Q false H1
def tOr (t u:TT):TT:=λσ H Q=>t σ H λc H1=>if c=true then Q true H1 else u σ H1 Q
def UN (t:TT):TT:=λσ H Q=>t σ H λc H1=>Q (!c) H1
def qK (ha:PT X a tA):PW X (.BoolOp .And [a] pos) tA:=by
 intro wh ag s σ H Q I h;refine isTrue_and (cK (ha ag s σ H Q I h) λc s1 e=>?_);cases c with
 | true=>exact isTrue_and_nil e
 | false=>exact e
def wJ (ha:PT X a tA):PW X (.BoolOp .Or [a] pos) tA:=by
 intro wh ag s σ H Q I h;refine isTrue_or (cK (ha ag s σ H Q I h) λc s1 e=>?_);cases c with
 | false=>exact isTrue_or_nil e
 | true=>exact e
def wK (ha:PT X a tA)(hb:PW X (.BoolOp .And (b::rest) pos) SV):PW X (.BoolOp .And (a::b::rest) pos) (UU tA SV):=by
 intro wh ag s σ H Q I h;refine isTrue_and (cK (ha ag s σ H _ I h) λc s1 aS=>?_);obtain⟨H1,I1,q1⟩:=aS;cases c with
 | true=>exact hb wh ag s1 σ H1 Q I1 q1
 | false=>exact⟨H1,I1,q1⟩
def yl (ha:PT X a tA)(hb:PW X (.BoolOp .Or (b::rest) pos) SV):PW X (.BoolOp .Or (a::b::rest) pos) (tOr tA SV):=by
 intro wh ag s σ H Q I h;refine isTrue_or (cK (ha ag s σ H _ I h) λc s1 aS=>?_);obtain⟨H1,I1,q1⟩:=aS;cases c with
 | true=>exact⟨H1,I1,q1⟩
 | false=>exact hb wh ag s1 σ H1 Q I1 q1
def Ak (ha:PT X a tA):PT X (.UnaryOp .Not a pos) (UN tA):=by
 intro ag s σ H Q I h;exact isTrue_not (ha ag s σ H (λc H1=>Q (!c) H1) I h)
def Py (ta tb:TE):TE:=λσ H Q=>ta σ H λx H1=>XB x λc=>if c=true then tb σ H1 Q else Q (.bl false) H1
def UM (ta tb:TE):TE:=λσ H Q=>ta σ H λx H1=>XB x λc=>if c=true then Q (.bl true) H1 else tb σ H1 Q
def Ap {op}{t:TE}(h:PE X a t):PE X (.BoolOp op [a] pos) t:=λag s σ H Q I hw=>BoolOp_one (h ag s σ H Q I hw)
def Ge (ha:PE X a ta)(hb:PE X (.BoolOp .And (b::rest) pos) tb):PE X (.BoolOp .And (a::b::rest) pos) (Py ta tb):=by
 intro ag s σ H Q I h;refine BoolOp_and (cK (ha ag s σ H _ I h) λv s1 aS=>?_);obtain⟨x,H1,I1,r1,q1⟩:=aS;obtain⟨c,rfl,q1⟩:=q1;cases r1;refine nA ?_;cases c with
 | true=>exact hb ag s1 σ H1 Q I1 q1
 | false=>exact⟨.bl false,H1,I1,rfl,q1⟩
def Qa (ha:PE X a ta)(hb:PE X (.BoolOp .Or (b::rest) pos) tb):PE X (.BoolOp .Or (a::b::rest) pos) (UM ta tb):=by
 intro ag s σ H Q I h;refine BoolOp_or (cK (ha ag s σ H _ I h) λv s1 aS=>?_);obtain⟨x,H1,I1,r1,q1⟩:=aS;obtain⟨c,rfl,q1⟩:=q1;cases r1;refine nA ?_;cases c with
 | false=>exact hb ag s1 σ H1 Q I1 q1
 | true=>exact⟨.bl true,H1,I1,rfl,q1⟩
def tIf (t:TT)(ta tb:TE):TE:=λσ H Q=>t σ H λc H1=>if c=true then ta σ H1 Q else tb σ H1 Q
def yq {c:Expr}(hc:PT X c tA)(ha:PE X a ta)(hb:PE X b tb):PE X (.IfExp c a b pos) (tIf tA ta tb):=by
 intro ag s σ H Q I h;refine wpAny_IfExp (cK (hc ag s σ H _ I h) λd s1 aS=>?_);obtain⟨H1,I1,q1⟩:=aS;cases d with
 | true=>exact ha ag s1 σ H1 Q I1 q1
 | false=>exact hb ag s1 σ H1 Q I1 q1
end
def aG (K:aR)(H:Hp)(a:Addr)(xs:List V):Prop :=
 Rd H a (.lst xs) \/
  ∃(o:Obj)(aN:Array Value) (n:Nat),K.lookup a=some o/\o.cls=.type "list" /\ o.dict=none/\o.data=.seq aN n/\aN.size<=sizeLine/\aV xs aN.toList
def bf (K:aR)(H:Hp)(a:Addr)(xs:List V):Prop :=
 Rd H a (.tup xs) \/
  ∃(o:Obj)(aN:Array Value) (n:Nat),K.lookup a=some o/\o.cls=.type "tuple" /\ o.data=.seq aN n/\aN.size<=sizeLine/\aV xs aN.toList
def Yt:Value->Option V
 | .none=>some .dG
 | .bool b=>some (.bl b)
 | .int i _=>some (.int i)
 | .str x _=>some (.str x)
 | .bytes b _=>some (.Bc b)
 | .float b _=>some (.NQ b)
 | .ref a=>some (.ref a)
 | .type n=>some (.ty n)
 | _=>none
def RelV.abs {x:V}{u:Value}(r:RelV x u):Yt u=some x:=by
 cases x with
 | dG=>cases r;rfl
 | bl _=>cases r;rfl
 | int _=>obtain⟨t,rfl⟩:=r;rfl
 | str _=>obtain⟨t,rfl⟩:=r;rfl
 | Bc _=>obtain⟨t,rfl⟩:=r;rfl
 | NQ _=>obtain⟨t,rfl⟩:=r;rfl
 | ref _=>cases r;rfl
 | ty _=>cases r;rfl
def RelV.inj {x y:V}{u:Value}(r:RelV x u)(q:RelV y u):x=y:=ib (r.abs.symm.trans q.abs)
theorem aV.inj:∀{xs ys:List V}{us:List Value},aV xs us->aV ys us->xs=ys
 | _,_,_,.nil,.nil=>rfl
 | _,_,_,.cons r t,.cons r' t'=>by rw [r.inj r',aV.inj t t']
section
variable {X:Cx}{ag:List (Addr×Obj)}{σ:St}{H:Hp}{s:Shared}{a:Addr}{xs ys:List V}
def aG.of {K:aR}(h:H a=some (.lst xs)):aG K H a xs:=.inl (.inl h)
def bf.of {K:aR}(h:H a=some (.tup xs)):bf K H a xs:=.inl (.inl h)
def Inv.list (I:Inv X ag σ H s)(h:aG X.K H a xs):∃aN:List Value,aV xs aN/\PlainL s.heap a aN.toArray/\xs.length<=sizeLine:=by
 rcases h with h | ⟨o,aN,n,hk,hc,hd,hs,hz,r⟩
 .obtain⟨z,aN,n,r,e⟩:=h.ok I.bF;exact⟨aN,r,⟨_,n,e,rfl,rfl,rfl⟩,z⟩
 refine⟨aN.toList,r,⟨o,n,I.jo a o hk,hc,hd,by simpa using hs⟩,?_⟩;have e:=r.length;simp only [vL] at e;omega
def Inv.tuple (I:Inv X ag σ H s)(h:bf X.K H a xs):∃aN:List Value,aV xs aN/\IsTup s.heap a aN.toArray/\xs.length<=sizeLine:=by
 rcases h with h | ⟨o,aN,n,hk,hc,hs,hz,r⟩
 .obtain⟨z,aN,r,p⟩:=h.ok I.bF;exact⟨aN,r,p,z⟩
 refine⟨aN.toList,r,⟨o,I.jo a o hk,hc,n,by simpa using hs⟩,?_⟩;have e:=r.length;simp only [vL] at e;omega
def Inv.sO (I:Inv X ag σ H s)(h:aG X.K H a xs)(h':aG X.K H a ys):xs=ys:=by
 obtain⟨aN,r,⟨o,n,e,_,_,d⟩,_⟩:=I.list h;obtain⟨oh,r',⟨o',n',e',_,_,d'⟩,_⟩:=I.list h';rw [e] at e';cases e';rw [d] at d';injection d' with d1 _;have:aN=oh:=by simpa using congrArg Array.toList d1
 subst this;exact r.inj r'
def Inv.uz (I:Inv X ag σ H s)(h:bf X.K H a xs)(h':bf X.K H a ys):xs=ys:=by
 obtain⟨aN,r,⟨o,e,_,n,d⟩,_⟩:=I.tuple h;obtain⟨oh,r',⟨o',e',_,n',d'⟩,_⟩:=I.tuple h';rw [e] at e';cases e';rw [d] at d';injection d' with d1 _;have:aN=oh:=by simpa using congrArg Array.toList d1
 subst this;exact r.inj r'
end
abbrev Cx.qj (X:Cx)(E:Value->Shared->Prop):Cx:={ X with xe:=E }
abbrev Cx.DE (X:Cx):Cx:=X.qj λ_ _=>False
theorem Cx.Ok.qj {X:Cx}(ok:X.Ok)(E:Value->Shared->Prop):(X.qj E).Ok :=
 ⟨ok.mod,ok.kind,ok.glob,ok.blt,ok.above,ok.inj,ok.has,ok.O0,ok.hd,ok.frames,ok.KJ,ok.NS,ok.bs,ok.HQ,ok.DF,ok.A3,ok.ow,ok.J_⟩
def Cx.Ok.iU {X:Cx}{E:Value->Shared->Prop}(ok:(X.qj E).Ok):X.Ok :=
 ⟨ok.mod,ok.kind,ok.glob,ok.blt,ok.above,ok.inj,ok.has,ok.O0,ok.hd,ok.frames,ok.KJ,ok.NS,ok.bs,ok.HQ,ok.DF,ok.A3,ok.ow,ok.J_⟩
section
variable {X:Cx}{ag:List (Addr×Obj)}{σ:St}{H:Hp}{s:Shared}{E:Value->Shared->Prop}
theorem Inv.qj (I:Inv X ag σ H s)(E:Value->Shared->Prop):Inv (X.qj E) ag σ H s:=⟨I.ok.qj E,I.os,I.bare,I.base,I.loc,I.cell,I.free,I.ji,I.pin,I.bF,I.len⟩
theorem Inv.iU (I:Inv (X.qj E) ag σ H s):Inv X ag σ H s:=⟨I.ok.iU,I.os,I.bare,I.base,I.loc,I.cell,I.free,I.ji,I.pin,I.bF,I.len⟩
theorem SP.iU {D:Ends}{f:Flow}{s':Shared}(h:SP (X.qj E) ag D f s'):SP X ag D f s':=by
 cases f with
 | next=>obtain⟨σ',H',I,q⟩:=h;exact⟨σ',H',I.iU,q⟩
 | brk=>obtain⟨σ',H',I,q⟩:=h;exact⟨σ',H',I.iU,q⟩
 | cont=>obtain⟨σ',H',I,q⟩:=h;exact⟨σ',H',I.iU,q⟩
 | ret u=>obtain⟨v,σ',H',I,r,q⟩:=h;exact⟨v,σ',H',I.iU,r,q⟩
theorem PE.DE {e:Expr}{t:TE}(h:PE X.DE e t):PE X e t:=λag s σ H Q I hw =>
 cv (h ag s σ H Q (I.qj _) hw) (λ_ _ ⟨v,H',I',r,q⟩=>⟨v,H',I'.iU,r,q⟩) λ_ _ z=>False.elim z
theorem PT.DE {e:Expr}{t:TT}(h:PT X.DE e t):PT X e t:=λag s σ H Q I hw =>
 cv (h ag s σ H Q (I.qj _) hw) (λ_ _ ⟨H',I',q⟩=>⟨H',I'.iU,q⟩) λ_ _ z=>False.elim z
theorem xP.DE {st:List Stmt}{t:TS}(h:xP X.DE st t):xP X st t:=λag s σ H D I hw =>
 cv (h ag s σ H D (I.qj _) hw) (λ_ _ q=>q.iU) λ_ _ z=>False.elim z
end
section
variable {X:Cx}{st:Stmt}{rest:List Stmt}{t u:TS}{e:Expr}{te:TE}{pos:Pos}
def Pg:TS:=λD σ H=>D.nx σ H
def LY (t u:TS):TS:=λD σ H=>t { D with nx:=u D } σ H
def aZ:xP X [] Pg:=λ_ _ σ H _ I h=>oU ⟨σ,H,I,h⟩
def aj (h1:PS X st t)(h2:xP X rest u):xP X (st::rest) (LY t u):=by
 intro ag s σ H D I h;refine wpAny_execs_cons (cK (h1 ag s σ H { D with nx:=u D } I h) λf s1 q=>?_);cases f with
 | next =>
  obtain⟨σ',H',I',q⟩:=q;exact h2 ag s1 σ' H' D I' q
 | ret v=>exact q
 | brk=>exact q
 | cont=>exact q
def ao (h1:PS X st t):xP X [st] t:=by
 intro ag s σ H D I h;refine wpAny_execs_cons (cK (h1 ag s σ H D I h) λf s1 q=>?_);cases f with
 | next=>exact oU q
 | ret v=>exact q
 | brk=>exact q
 | cont=>exact q
def Ma:TS:=λD σ H=>D.bk σ H
def F4:PS X (.Break pos) Ma:=λ_ _ σ H _ I h=>wpAny_Break ⟨σ,H,I,h⟩
def Inv.quiet {ag:List (Addr×Obj)}{σ:St}{H:Hp}{s:Shared}(I:Inv X ag σ H s):interactive X.env=false:=by simp [interactive,I.ok.kind]
def Pr (te:TE):TS:=λD σ H=>te σ H λ_ H1=>D.nx σ H1
def b8 (he:PE X e te)(hs:swapsWith e none pos.line X.env=pure false:=by rfl):PS X (.Expr e pos) (Pr te):=by
 intro ag s σ H D I h;refine wpAny_Expr_any (cK (he ag s σ H _ I h) λv s1 aS=>?_) I.quiet hs;obtain⟨x,H1,I1,r1,q1⟩:=aS;exact⟨σ,H1,I1,q1⟩
def UL (te:TE):TS:=λD σ H=>te σ H D.rt
def bc (he:PE X e te):PS X (.Return (some e) pos) (UL te):=by
 intro ag s σ H D I h;refine wpAny_Return_some (cK (he ag s σ H _ I h) λv s1 aS=>?_);obtain⟨x,H1,I1,r1,q1⟩:=aS;exact⟨x,σ,H1,I1,r1,q1⟩
def UQ (c:TT)(t u:TS):TS:=λD σ H=>c σ H λb H1=>if b=true then t D σ H1 else u D σ H1
def cA {c:Expr}{a b:List Stmt}{tc:TT}(hc:PT X c tc)(ha:xP X a t)(hb:xP X b u):PS X (.If c a b pos) (UQ tc t u):=by
 intro ag s σ H D I h;refine wpAny_If (cK (hc ag s σ H _ I h) λd s1 aS=>?_);obtain⟨H1,I1,q1⟩:=aS;cases d with
 | true=>exact ha ag s1 σ H1 D I1 q1
 | false=>exact hb ag s1 σ H1 D I1 q1
def LZ:TS:=λ_ _ _=>False
def FZ:PS X st LZ:=λ_ _ _ _ _ _ h=>h.elim
end
abbrev TG:=V->St->Hp->(St->Hp->Prop)->Prop
abbrev LF:=List V->St->Hp->(St->Hp->Prop)->Prop
def PG (X:Cx)(target:Expr)(t:TG):Prop :=
 ∀(ag:List (Addr×Obj))(s:Shared)(σ:St)(H:Hp)(v:V)(u:Value)(Q:St->Hp->Prop),Inv X ag σ H s->RelV v u->t v σ H Q ->
  wpAny (model X.prog X.w) X.A (assign target X.env u) (λ_ s'=>∃σ' H',Inv X ag σ' H' s'/\Q σ' H') X.xe s
def Sw (X:Cx)(ts:List Expr)(t:LF):Prop :=
 ∀(ag:List (Addr×Obj))(s:Shared)(σ:St)(H:Hp)(vs:List V)(us:List Value)(Q:St->Hp->Prop),Inv X ag σ H s->aV vs us->t vs σ H Q ->
  wpAny (model X.prog X.w) X.A (assignInOrder ((assignEach ts X.env).map (·.2)) us) (λ_ s'=>∃σ' H',Inv X ag σ' H' s'/\Q σ' H') X.xe s
abbrev Oa:=V->V->V->Hp->(Hp->Prop)->Prop
def Sv (X:Cx)(t:Oa):Prop :=
 ∀(ag:List (Addr×Obj))(s:Shared)(σ:St)(H:Hp)(o i v:V)(ov iv u:Value)(Q:Hp->Prop),Inv X ag σ H s->RelV o ov->RelV i iv->RelV v u->t o i v H Q ->
  wpAny (model X.prog X.w) X.A (setItem ov iv u) (λ_ s'=>∃H',Inv X ag σ H' s'/\Q H') X.xe s
abbrev Uq:=V->V->Hp->VK->Prop
def PIp (X:Cx)(op:Operator)(t:Uq):Prop :=
 ∀(ag:List (Addr×Obj))(s:Shared)(σ:St)(H:Hp)(x y:V)(v u:Value)(Q:VK),Inv X ag σ H s->RelV x v->RelV y u->t x y H Q ->
  wpAny (model X.prog X.w) X.A (inplaceOp op v u) (EP X ag σ Q) X.xe s
section
variable {X:Cx}{pos:Pos}
def dP (i:Nat):TG:=λv σ H Q=>Q (σ.set i (some v)) H
def au {i:Nat}{x:Str}(hN:X.N.Nodup)(hi:X.N[i]?=some x)(hx:Loc X.env.scope x)(hf:X.fn x=true\/X.env.scope.names.lookup x=some .local:=by first | exact .inl rfl | exact .inr rfl | assumption):PG X (.Name x pos) (dP i):=by
 intro ag s σ H v u Q I r h;exact wpAny_assign_Name (ja I hN hi hx r (λs' I'=>⟨_,H,I',h⟩) hf)
def Hq:LF:=λvs σ H Q=>vs=[]/\Q σ H
def kI (t:TG)(u:LF):LF:=λvs σ H Q=>LA vs λv r=>t v σ H λσ' H'=>u r σ' H' Q
def bM:Sw X [] Hq:=by
 intro ag s σ H vs us Q I r h;obtain⟨e,h⟩:=h;subst e;cases r;exact assignInOrder_nil ⟨σ,H,I,h⟩
def aC {e:Expr}{es:List Expr}{t:TG}{u:LF}(h1:PG X e t)(h2:Sw X es u)
  (hs:(assignEach (e::es) X.env).map (·.2)=assign e X.env::(assignEach es X.env).map (·.2):=by rfl):Sw X (e::es) (kI t u):=by
 intro ag s σ H vs us Q I r h;obtain⟨v,vr,e1,h⟩:=h;subst e1;cases r with
 | cons r rr =>
  rw [hs];refine assignInOrder_cons (cK (h1 ag s σ H _ _ _ I r h) λ_ s1 aS=>?_);obtain⟨σ1,H1,I1,q1⟩:=aS;exact h2 ag s1 σ1 H1 _ _ Q I1 rr q1
def D_ (K:aR) (n:Nat)(t:LF):TG:=λv σ H Q=>Sn v (bf K H) n λxs=>t xs σ H Q
def fc {es:List Expr}{k:Nat}{t:LF}{n:Nat}(hc:X.calm=true)(h:Sw X es t)
  (hn:(assignEach es X.env).length=n:=by rfl)(jF:(assignEach es X.env).findIdx? (·.1)=none:=by rfl):PG X (.Tuple es k pos) (D_ X.K n t):=by
 intro ag s σ H v u Q I r hw;obtain⟨a,xs,e1,hq,hl,hw⟩:=hw;subst e1;cases r;obtain⟨aN,rv,ht,hz⟩:=I.tuple hq;refine assign_Tuple_tuple (I.ok.hd hc) ht (by simp [hn,<-hl,rv.length]) jF λh' hx=>?_;have I1:Inv X ag σ H { s with heap:=h' }:=I.kept (t':=s.toks) λb o e=>hx b o (bw (aO e)) e;exact h ag _ σ H xs _ Q I1 (by simpa using rv) hw
def Xj (to ti:TE)(t:Oa):TG:=λv σ H Q=>to σ H λo H1=>ti σ H1 λi H2=>t o i v H2 λH3=>Q σ H3
def My {o i:Expr}{to ti:TE}{t:Oa}(ho:PE X o to)(hi:PE X i ti)(hs:Sv X t)
  (ha:∀v,assign (.Subscript o i pos) X.env v=(do
   let ov <-holding [v] (eval o X.env)
   let iv <-holding [v,ov] (eval i X.env)
   standAt pos
   holding [v,ov,iv] (setItem ov iv v)
   release [v,ov,iv] []):=by intro _;rfl):PG X (.Subscript o i pos) (Xj to ti t):=by
 intro ag s σ H v u Q I r h;rw [ha];refine ax (gi (cK (ho ag s σ H _ I h) λov s1 aS=>?_));obtain⟨x,H1,I1,r1,q1⟩:=aS;refine ax (gi (cK (hi ag s1 σ H1 _ I1 q1) λiv s2 aS=>?_));obtain⟨y,H2,I2,r2,q2⟩:=aS;refine ax (mi (ax (gi (cK (hs ag s2 σ H2 x y v ov iv u _ I2 r1 r2 r q2) λ_ s3 aS=>?_))));obtain⟨H3,I3,q3⟩:=aS;exact wpAny_release ⟨σ,H3,I3,q3⟩
def Mb (te:TE)(g:TG):TS:=λD σ H=>te σ H λx H1=>g x σ H1 D.nx
def Am {tg e:Expr}{te:TE}{g:TG}(he:PE X e te)(hg:PG X tg g)(hs:swapsWithSole [tg] e pos.line X.env=pure false:=by rfl)(hw:swappedStores [tg] e X.env=pure none:=by rfl)
  (h1:(assignEach [tg] X.env).map (·.2)=[assign tg X.env]:=by rfl):PS X (.Assign [tg] e pos) (Mb te g):=by
 intro ag s σ H D I h;refine wpAny_Assign_stores (cK (he ag s σ H _ I h) λv s1 aS=>?_) hs hw;obtain⟨x,H1,I1,r1,q1⟩:=aS;rw [h1];exact cK (hg ag s1 σ H1 x v _ I1 r1 q1) λ_ s2 q=>q
def aF {i:Nat}{x:Str}{e:Expr}{te:TE}{pos':Pos}(hN:X.N.Nodup)(hi:X.N[i]?=some x)(hx:Loc X.env.scope x)(he:PE X e te)(hs:swapsWith e (some (.Name x pos')) pos.line X.env=pure false:=by rfl)(hf:X.fn x=true\/X.env.scope.names.lookup x=some .local:=by first | exact .inl rfl | exact .inr rfl | assumption) :
  PS X (.Assign [.Name x pos'] e pos) (Mb te (dP i)):=by
 intro ag s σ H D I h;refine wpAny_Assign_Name (cK (he ag s σ H _ I h) λv s1 aS=>?_) hs;obtain⟨y,H1,I1,r1,q1⟩:=aS;exact ja I1 hN hi hx r1 (λs2 I2=>⟨_,H1,I2,q1⟩) hf
def UT (i:Nat)(te:TE)(ti:Uq):TS:=λD σ H=>∃x,σ[i]?=some (some x)/\te σ H λy H1=>ti x y H1 λz H2=>D.nx (σ.set i (some z)) H2
def Mw {i:Nat}{x:Str}{e:Expr}{te:TE}{op:Operator}{ti:Uq}{pos':Pos}(hN:X.N.Nodup)(hi:X.N[i]?=some x)(hx:Loc X.env.scope x)(he:PE X e te)(ho:PIp X op ti)(hf:X.fn x=true\/X.env.scope.names.lookup x=some .local:=by first | exact .inl rfl | exact .inr rfl | assumption) :
  PS X (.AugAssign (.Name x pos') op e pos) (UT i te ti):=by
 intro ag s σ H D I h;obtain⟨v,e1,h⟩:=h;obtain⟨m,hn,hl⟩:=I.loc;have vis:Up X.env.scope x:=by rcases hx with k | k;exact .inl k;exact .inr (.inl k)
 obtain⟨u,r,l⟩:=hl i x v hi e1 vis;refine wpAny_AugAssign_Name ?_;have go:wpAny (model X.prog X.w) X.A (eval e X.env) (λw s₂=>wpAny (model X.prog X.w) X.A (inplaceOp op u w) (λr s₃=>wpAny (model X.prog X.w) X.A (storeName X.env x r) (λ_=>SP X ag D .next) X.xe s₃) X.xe s₂) X.xe s:=by
  refine cK (he ag s σ H _ I h) λw s1 aS=>?_;obtain⟨y,H1,I1,r1,q1⟩:=aS;refine cK (ho ag s1 σ H1 v y u w _ I1 r r1 q1) λz s2 aS=>?_;obtain⟨zv,H2,I2,r2,q2⟩:=aS;exact ja I2 hN hi hx r2 (λs3 I3=>⟨_,H2,I3,q2⟩) hf
 rcases l with ⟨hk,hm⟩ | ⟨hk,c,hc,jh⟩
 .exact vK I.ok.kind hk hn hm go
 rcases hk with hk | hk
 .exact wpAny_loadName_cell I.ok.kind hk hc jh go
 rcases hx with k | k
 .have:X.env.scope.names.lookup x=some .free:=hk;rw [k] at this;cases this
 have:X.env.scope.names.lookup x=some .free:=hk;rw [k] at this;cases this
def ipI (f:Int->Int->Int):Uq:=λx y H Q=>∃i j,x=.int i/\y=.int j/\Q (.int (f i j)) H
def M5:PIp X .Add (ipI λi j=>i+j):=by
 intro ag s σ H x y v u Q I r1 r2 h;obtain⟨i,j,e1,e2,q⟩:=h;subst e1;subst e2;obtain⟨t,rfl⟩:=r1;obtain⟨t',rfl⟩:=r2;exact iadd_int ⟨.int _,H,I.tok _,⟨_,rfl⟩,q⟩
end
section
variable {X:Cx}{pos:Pos}
def LV (c:TT)(tb:TS):TS:=λD σ H=>∃W:Nat->St->Hp->Prop,(∃m,W m σ H)/\∀m σ H,W m σ H ->
 c σ H λb H1=>if b=true then ∃N:St->Hp->Prop,(∀σ' H',N σ' H'->∃m',m' < m/\W m' σ' H')/\tb { D with nx:=N,ct:=N,bk:=D.nx } σ H1 else D.nx σ H1
def kx {c:Expr}{body:List Stmt}{tc:TT}{tb:TS}(hp:PassesOwn (model X.prog X.w) X.A X.env X.xe)(hc:PT X c tc)(hb:xP X body tb):PS X (.While c body [] pos) (LV tc tb):=by
 intro ag s σ H D I h;obtain⟨W,⟨m0,w0⟩,turn⟩:=h;refine wpAny_While (codeAny_whileLoop (λn s'=>∃σ' H',Inv X ag σ' H' s'/\W n σ' H') ?_ m0 ⟨σ,H,I,w0⟩);rintro n s1 ⟨σ1,H1,I1,w1⟩;refine mj hp (cK (hc ag s1 σ1 H1 _ I1 (turn n σ1 H1 w1)) λb s2 aS=>?_);obtain⟨H2,I2,q2⟩:=aS;cases b with
 | true =>
  obtain⟨N,hN,q2⟩:=q2;rw [az rfl];refine mj hp (cK (hb ag s2 σ1 H2 _ I2 q2) λf s3 q3=>?_);cases f with
  | next =>
   obtain⟨σ3,H3,I3,n3⟩:=q3;obtain⟨m',hm,w3⟩:=hN σ3 H3 n3;exact⟨m',hm,σ3,H3,I3,w3⟩
  | cont =>
   obtain⟨σ3,H3,I3,n3⟩:=q3;obtain⟨m',hm,w3⟩:=hN σ3 H3 n3;exact⟨m',hm,σ3,H3,I3,w3⟩
  | brk=>exact q3
  | ret v=>exact q3
 | false =>
  rw [aA dB];exact oU ⟨σ1,H2,I2,q2⟩
end
structure It where
 go:Nat->Hp->Prop
 mr:Nat->Hp->V->Hp->Prop
 stop:Nat->Hp->Prop
def xH (X:Cx)(ag:List (Addr×Obj))(H:Hp)(b:Addr):Prop :=
 H b=none/\b≠X.env.locals/\b∉X.fs/\(b∈X.ex\/X.s₀.heap.objs.size<=b)/\(∀x c,X.env.cells.lookup x=some c->c≠b)/\∀p∈X.pn++ag,p.1≠b
def Inv.xj {X:Cx}{ag:List (Addr×Obj)}{σ:St}{H H':Hp}{s:Shared}{b:Addr}(I:Inv X ag σ H s)(hb:s.heap.objs.size<=b)(hn:H' b=none):xH X ag H' b:=by
 refine⟨hn,jI (eD I.lt hb),I.Vv hb,.inr (cQ I.sz hb),λx c e z=>?_,λp hp z=>?_⟩
 .obtain⟨v,q⟩:=I.cell x c e;exact absurd (eD q.lt (by rw [z];exact hb)) (i5 _)
 exact absurd (eD (aO (I.pin p hp).1) (by rw [z];exact hb)) (i5 _)
structure Turn (P:Program)(w:World)(K:aR)(tg:Expr)(J:It)(fp:List Addr)(it:Addr)(tn:Nat->Heap->Prop):Prop where
 mem:it∈fp
 obj:∀i h,tn i h->∀b∈fp,∃o,h.get? b=some o/\∀v,o.data≠.cell v
 keep:∀i h h',tn i h->(∀b∈fp,∀o,h.get? b=some o->h'.get? b=some o)->tn i h'
 item:∀(X:Cx),X.prog=P->X.w=w->X.K=K->X.calm=true->∀(i:Nat)(ag:List (Addr×Obj))(s:Shared)(σ:St)(H:Hp)(E:Value->Shared->Prop),Inv X ag σ H s->(∀b∈fp,xH X ag H b)->tn i s.heap->J.go i H ->
  wpAny (model P w) X.A (pyNext (.ref it)) (λr s1=>∃u,r=some u /\
   wpAny (model P w) X.A (letOwnedTupleGo tg (.ref it) u) (λ_ s2=>∃x H',Inv X ag σ H' s2/\RelV x u/\J.mr i H x H'/\tn (i+1) s2.heap/\∀b∈fp,H' b=none) E s1) E s
 done:∀(X:Cx),X.prog=P->X.w=w->X.K=K->X.calm=true->∀(i:Nat)(ag:List (Addr×Obj))(s:Shared)(σ:St)(H:Hp)(E:Value->Shared->Prop),Inv X ag σ H s->(∀b∈fp,xH X ag H b)->tn i s.heap->J.stop i H ->
  wpAny (model P w) X.A (pyNext (.ref it)) (λr s1=>r=none/\Inv X ag σ H s1) E s
 self:∀(A:Around) (i:Nat)(s:Shared)(Q:Value->Shared->Prop)(E:Value->Shared->Prop),tn i s.heap->Q (.ref it) s->wpAny (model P w) A (pyIter (.ref it)) Q E s
abbrev TI:=St->Hp->(It->Hp->Prop)->Prop
def PIE (X:Cx)(ag:List (Addr×Obj))(σ:St)(tg:Expr)(R:It->Hp->Prop)(Tw:Value)(s2:Shared):Prop :=
 ∃(it:Addr)(fp:List Addr)(tn:Nat->Heap->Prop)(J:It)(H':Hp),Tw=.ref it/\Inv X ag σ H' s2/\Turn X.prog X.w X.K tg J fp it tn/\tn 0 s2.heap/\(∀b∈fp,xH X ag H' b)/\R J H'
def PI (X:Cx)(tg iter:Expr)(wi:TI):Prop :=
 ∀(ag:List (Addr×Obj))(s:Shared)(σ:St)(H:Hp)(R:It->Hp->Prop),Inv X ag σ H s->wi σ H R ->
  wpAny (model X.prog X.w) X.A (eval iter X.env) (λv s1=>wpAny (model X.prog X.w) X.A (pyIter v) (PIE X ag σ tg R) X.xe s1) X.xe s
def Cq {M:Model}{A:Around}{E:Value->Shared->Prop}{s:Shared}{tg:Expr}{it:Addr}{u:Value}{o:Obj}{n:String}{vs:Array Value}{Q:Unit->Shared->Prop}(ho:s.heap.get? it=some o)(hc:o.cls=.type n)(hd:o.data=.fields vs)
  (hn:["enumerate","zip","dict_itemiterator","dict_reverseitemiterator","odict_iterator","itertools.zip_longest","itertools.pairwise"].contains n=false)(hQ:Q () s):wpAny M A (letOwnedTupleGo tg (.ref it) u) Q E s:=by
 unfold letOwnedTupleGo;cases tg <;> first
  | exact aI hQ
  | (cases u <;> first
    | exact aI hQ
    | (refine ax (wpAny_load ho ?_)
       rw [hc,hd];show wpAny M A (if (["enumerate","zip","dict_itemiterator","dict_reverseitemiterator","odict_iterator","itertools.zip_longest","itertools.pairwise"].contains n && vs[0]? == some (rawInt _))=true then _ else _) Q E s;rw [aA (by intro h;rw [hn,Bool.false_and] at h;cases h)];exact aI hQ))
def jQ (K:aR)(a:Addr):It :=
 ⟨λi H=>∃xs x,aG K H a xs/\xs[i]?=some x,λi H x H'=>H'=H/\∀xs,aG K H a xs->xs[i]?=some x,λi H=>∃xs,aG K H a xs/\xs.length<=i⟩
def oK (K:aR)(a:Addr):It :=
 ⟨λi H=>∃xs x,bf K H a xs/\xs[i]?=some x,λi H x H'=>H'=H/\∀xs,bf K H a xs->xs[i]?=some x,λi H=>∃xs,bf K H a xs/\xs.length<=i⟩
def Ky (lo:Int) (n:Nat):It:=⟨λi _=>i < n,λi H x H'=>H'=H/\x=.int (lo+i),λi _=>n<=i⟩
def C2 {P:Program}{w:World}{K:aR}{tg:Expr}(a it:Addr):Turn P w K tg (jQ K a) [it] it (λi h=>h.IsListIter it a i) where
 mem:=by simp
 obj:=λi h st b hb=>by
  have e:b=it:=by simpa using hb
  subst e;obtain⟨o,e,c,d⟩:=st;exact⟨o,e,λv z=>by rw [d] at z;cases z⟩
 keep:=λi h h' st k=>st.at λo e=>k it (by simp) o e
 item:=by
  intro X hP hw hK hc i ag s σ H E I hf st hg;subst hP hw hK;obtain⟨xs,x,hq,hx⟩:=hg;obtain⟨aN,rv,p,hz⟩:=I.list hq;obtain⟨u,hu,ru⟩:=rv.get hx;obtain⟨f0,f1,f2,f3,f4,f5⟩:=hf it (by simp);refine wpAny_pyNext_list_item st p.isList (x:=u) (by simpa using hu) λh' ue sb=>?_;have I1:Inv X ag σ H { s with heap:=h' }:=I.turned (t':=s.toks) (λb o hb e=>(sb.2 b hb).trans e) f0 f1 f3 f4 f5;obtain⟨o,e,c,d⟩:=id ue;exact⟨u,rfl,Cq (s:={ s with heap:=h' }) e c d nofun ⟨x,H,I1,ru,⟨rfl,λys hy=>by rw [I.sO hy hq];exact hx⟩,ue,λb hb=>(hf b hb).1⟩⟩
 done:=by
  intro X hP hw hK hc i ag s σ H E I hf st hg;subst hP hw hK;obtain⟨xs,hq,hx⟩:=hg;obtain⟨aN,rv,p,hz⟩:=I.list hq;obtain⟨f0,f1,f2,f3,f4,f5⟩:=hf it (by simp);have hl:=rv.length;exact vP (I.ok.hd hc) st p.isList (by simp;omega) λh' eb=>⟨rfl,I.turned (t':=s.toks) (λb o hb e=>eb b o hb e) f0 f1 f3 f4 f5⟩
 self:=λ_ _ _ _ _ st h=>wpAny_pyIter_listiter st h
def zQ {P:Program}{w:World}{K:aR}{tg:Expr}(a it:Addr):Turn P w K tg (oK K a) [it] it (λi h=>h.IsTupleIter it a i) where
 mem:=by simp
 obj:=λi h st b hb=>by
  have e:b=it:=by simpa using hb
  subst e;obtain⟨o,e,c,d⟩:=st;exact⟨o,e,λv z=>by rw [d] at z;cases z⟩
 keep:=λi h h' st k=>st.at λo e=>k it (by simp) o e
 item:=by
  intro X hP hw hK hc i ag s σ H E I hf st hg;subst hP hw hK;obtain⟨xs,x,hq,hx⟩:=hg;obtain⟨aN,rv,p,hz⟩:=I.tuple hq;obtain⟨u,hu,ru⟩:=rv.get hx;obtain⟨f0,f1,f2,f3,f4,f5⟩:=hf it (by simp);refine wpAny_pyNext_tuple_item st (show s.heap.IsTuple a aN.toArray from p) (x:=u) (by simpa using hu) λh' ue sb=>?_;have I1:Inv X ag σ H { s with heap:=h' }:=I.turned (t':=s.toks) (λb o hb e=>(sb.2 b hb).trans e) f0 f1 f3 f4 f5;obtain⟨o,e,c,d⟩:=id ue;exact⟨u,rfl,Cq (s:={ s with heap:=h' }) e c d nofun ⟨x,H,I1,ru,⟨rfl,λys hy=>by rw [I.uz hy hq];exact hx⟩,ue,λb hb=>(hf b hb).1⟩⟩
 done:=by
  intro X hP hw hK hc i ag s σ H E I hf st hg;subst hP hw hK;obtain⟨xs,hq,hx⟩:=hg;obtain⟨aN,rv,p,hz⟩:=I.tuple hq;obtain⟨f0,f1,f2,f3,f4,f5⟩:=hf it (by simp);have hl:=rv.length;exact wpAny_pyNext_tuple_end (I.ok.hd hc) st (show s.heap.IsTuple a aN.toArray from p) (by simp;omega) λh' eb=>⟨rfl,I.turned (t':=s.toks) (λb o hb e=>eb b o hb e) f0 f1 f3 f4 f5⟩
 self:=λ_ _ _ _ _ st h=>wpAny_pyIter_tupleiter st h
def zR {P:Program}{w:World}{K:aR}{tg:Expr}(it:Addr) (lo:Int) (n:Nat):Turn P w K tg (Ky lo n) [it] it (λi h=>IsRangeIter h it (lo+(i:Nat) * 1) ((n:Int) - (i:Nat)) 1) where
 mem:=by simp
 obj:=λi h st b hb=>by
  have e:b=it:=by simpa using hb
  subst e;exact⟨_,st,λv z=>by
   have z':Data.fields _=Data.cell v:=z;cases z'⟩
 keep:=λi h h' st k=>k it (by simp) _ st
 item:=by
  intro X hP hw hK hc i ag s σ H E I hf st hg;subst hP hw hK;obtain⟨f0,f1,f2,f3,f4,f5⟩:=hf it (by simp);have W:=Walks.range (prog:=X.prog) (w:=X.w) (I.ok.hd hc) it lo 1 n;refine W.item i s _ _ hg st λv h' tk hv ue kk=>?_;obtain⟨t,rfl⟩:=hv;have I1:Inv X ag σ H { s with heap:=h',toks:=tk }:=I.turned (λb o hb e=>kk b o (by simpa using hb) e) f0 f1 f3 f4 f5;refine⟨_,rfl,Cq (s:={ s with heap:=h',toks:=tk }) (n := "range_iterator") ue rfl rfl nofun ⟨.int (lo+i),H,I1,⟨t,?_⟩,⟨rfl,rfl⟩,ue,λb hb=>(hf b hb).1⟩⟩;rw [Int.mul_one]
 done:=by
  intro X hP hw hK hc i ag s σ H E I hf st hg;subst hP hw hK;obtain⟨f0,f1,f2,f3,f4,f5⟩:=hf it (by simp);exact wpAny_pyNext_range_end (I.ok.hd hc) st (by have:n<=i:=hg;omega) λh' eb=>⟨rfl,I.turned (t':=s.toks) (λb o hb e=>eb b o hb e) f0 f1 f3 f4 f5⟩
 self:=λ_ _ _ _ _ st h=>wpAny_pyIter_rangeiter st h
section
variable {X:Cx}{tg:Expr}
def QL (K:aR)(tl:TE):TI:=λσ H R=>tl σ H λx H1=>Uo x (λa=>∃xs,aG K H1 a xs) λa=>R (jQ K a) H1
def We (K:aR)(tl:TE):TI:=λσ H R=>tl σ H λx H1=>Uo x (λa=>∃xs,bf K H1 a xs) λa=>R (oK K a) H1
def aQ {l:Expr}{tl:TE}(hl:PE X l tl):PI X tg l (QL X.K tl):=by
 intro ag s σ H R I h;refine cK (hl ag s σ H _ I h) λv s1 aS=>?_;obtain⟨x,H1,I1,r1,q1⟩:=aS;obtain⟨a,e,⟨xs,hq⟩,q⟩:=q1;subst e;cases r1;obtain⟨aN,rv,p,hz⟩:=I1.list hq;refine pP p.isList ?_;refine⟨s1.heap.objs.size,[s1.heap.objs.size],_,_,H1,rfl,I1.kept (t':=s1.toks) λb o e=>bu _ e,C2 a _,⟨_,cZ _ rfl,rfl,rfl⟩,λb hb=>?_,q⟩;have e:b=s1.heap.objs.size:=by simpa using hb
 subst e;exact I1.xj (aH _) (I1.bF.fresh (aH _))
def gA {l:Expr}{tl:TE}(hl:PE X l tl):PI X tg l (We X.K tl):=by
 intro ag s σ H R I h;refine cK (hl ag s σ H _ I h) λv s1 aS=>?_;obtain⟨x,H1,I1,r1,q1⟩:=aS;obtain⟨a,e,⟨xs,hq⟩,q⟩:=q1;subst e;cases r1;obtain⟨aN,rv,p,hz⟩:=I1.tuple hq;refine vE (show s1.heap.IsTuple a aN.toArray from p) ?_;refine⟨s1.heap.objs.size,[s1.heap.objs.size],_,_,H1,rfl,I1.kept (t':=s1.toks) λb o e=>bu _ e,zQ a _,⟨_,cZ _ rfl,rfl,rfl⟩,λb hb=>?_,q⟩;have e:b=s1.heap.objs.size:=by simpa using hb
 subst e;exact I1.xj (aH _) (I1.bF.fresh (aH _))
def FX {ag:List (Addr×Obj)}{σ:St}{H:Hp}{s:Shared}{R:It->Hp->Prop}{E:Value->Shared->Prop}{lo hi:Int}{t u v:Tok}{tk:Nat}(I:Inv X ag σ H s)(h1:-(2 ^ 62)<=lo)(h2:lo < 2 ^ 62)(h3:-(2 ^ 62)<=hi)(h4:hi < 2 ^ 62)
  (q:R (Ky lo (hi - lo).toNat) H):wpAny (model X.prog X.w) X.A (pyIter (.ref s.heap.objs.size)) (PIE X ag σ tg R) E { s with heap:=s.heap.push { cls:=.type "range",data:=.fields #[.int lo t,.int hi u,.int 1 v] },toks:=tk }:=by
 refine wpAny_pyIter_range (IsRange.new ..) (small_one h1 h2 h3 h4) ?_;have I1:Inv X ag σ H { s with heap:=s.heap.push { cls:=.type "range",data:=.fields #[.int lo t,.int hi u,.int 1 v] },toks:=tk }:=I.kept λb o e=>bu _ e;refine⟨(s.heap.push { cls:=.type "range",data:=.fields #[.int lo t,.int hi u,.int 1 v] }).objs.size,[(s.heap.push { cls:=.type "range",data:=.fields #[.int lo t,.int hi u,.int 1 v] }).objs.size],_,_,H,rfl,
  I1.kept (t':=tk) λb o e=>bu _ e,zR _ lo (hi - lo).toNat,?_,λb hb=>?_,q⟩
 .have e1:lo+((0:Nat):Int) * 1=lo:=by simp
  have e2:(((hi - lo).toNat:Nat):Int) - ((0:Nat):Int)=Builtin.Range.rangeSize lo hi 1:=by rw [rangeSize_one];split <;> omega
  show IsRangeIter _ _ (lo+((0:Nat):Int) * 1) ((((hi - lo).toNat:Nat):Int) - ((0:Nat):Int)) 1;rw [e1,e2];exact cZ _ rfl
 have e:b=(s.heap.push { cls:=.type "range",data:=.fields #[.int lo t,.int hi u,.int 1 v] }).objs.size:=by simpa using hb
 subst e;exact I1.xj (aH _) (I1.bF.fresh (aH _))
def QK (ta:TA):TI:=λσ H R=>ta σ H λvs H1=>XRg vs λj=>R (Ky 0 j.toNat) H1
def iu {a:Expr}{ta:TA}{p pos:Pos}(hg:Gl X "range")(hm:X.mg "range"=none)(ha:PA X [a] ta)(hs:starEach [a] X.env=[(false,eval a X.env)]:=by rfl):PI X tg (.Call (.Name "range" p) [a] [] pos) (QK ta):=by
 intro ag s σ H R I h;refine Call_ (jE I hg hm boot_range (v9 (cK (ha pos ag s σ H _ I h) λus s1 aS=>?_) hs rfl));obtain⟨vs,H1,I1,r1,q1⟩:=aS;obtain⟨j,e,q1,q2,q⟩:=q1;subst e;cases r1 with
 | cons r rr =>
  cases rr;obtain⟨t,rfl⟩:=r;exact call_range_1 (FX I1 ∅ ∅ q1 q2 (by simpa using q))
def UR (wi:TI)(g:TG)(tb:TS):TS:=λD σ H=>wi σ H λJ H1=>∃W:Nat->Nat->St->Hp->Prop,(∃m,W 0 m σ H1)/\∀i m σ H,W i m σ H ->
 (J.stop i H/\D.nx σ H)\/(J.go i H/\∃N:St->Hp->Prop,(∀σ' H',N σ' H'->∃m',m' < m/\W (i+1) m' σ' H')/\∀x H',J.mr i H x H'->g x σ H' λσ2 H2=>tb { D with nx:=N,ct:=N,bk:=D.nx } σ2 H2)
def pz (fp:List Addr)(h:Heap):List (Addr×Obj):=fp.filterMap λb=>(h.get? b).map λo=>(b,o)
def gO {fp:List Addr}{h:Heap}{b:Addr}{o:Obj}(hb:b∈fp)(e:h.get? b=some o):(b,o)∈pz fp h:=vJ.mpr ⟨b,hb,by rw [e];rfl⟩
def DB {fp:List Addr}{h:Heap}{p:Addr×Obj}(hp:p∈pz fp h):p.1∈fp/\h.get? p.1=some p.2:=by
 obtain⟨b,hb,e⟩:=vJ.mp hp;cases q:h.get? b with
 | none=>rw [q] at e;cases e
 | some o =>
  rw [q] at e;have e':(b,o)=p:=ib e;subst e';exact⟨hb,q⟩
def Inv.pinned {ag:List (Addr×Obj)}{σ:St}{H:Hp}{s:Shared}{fp:List Addr}(I:Inv X ag σ H s)(hf:∀b∈fp,xH X ag H b)(ho:∀b∈fp,∃o,s.heap.get? b=some o/\∀v,o.data≠.cell v):Inv X (ag++pz fp s.heap) σ H s :=
 I.B1 λp hp=>(bZ.mp hp).elim (λz=>I.pin p (fP _ z)) λz=>by
  obtain⟨hb,e⟩:=DB z;obtain⟨f0,f1,f2,_⟩:=hf p.1 hb;obtain⟨o,e',d⟩:=ho p.1 hb;rw [e] at e';cases e';exact⟨e,f0,f1,f2,d⟩
def Inv.ki {ag pl:List (Addr×Obj)}{σ:St}{H:Hp}{s:Shared}(I:Inv X (ag++pl) σ H s):Inv X ag σ H s:=I.B1 λp hp=>I.pin p (fP _ (i8 _ hp))
def bK {iter:Expr}{body:List Stmt}{wi:TI}{g:TG}{tb:TS}{pos:Pos}(hp:PassesOwn (model X.prog X.w) X.A X.env X.xe)(hc:X.calm=true)(hi:PI X tg iter wi)(hg:PG X tg g)(hb:xP X body tb)
  (hs:∀x,foldedSetIterable iter X.env x=pure x:=by intro _;rfl):PS X (.For tg iter body [] pos) (UR wi g tb):=by
 intro ag s σ H D I h;refine wpAny_For (cK (hi ag s σ H _ I h) λv s1 h1=>cK h1 λTw s2 h2=>?_) hs;obtain⟨it,fp,tn,J,H2,e,I2,T,Im,f2,W,⟨m0,w0⟩,turn⟩:=h2;subst e;have rY:∀{H':Hp},(∀b∈fp,H' b=none)->∀b∈fp,xH X ag H' b:=λhn b hb=>⟨hn b hb,(f2 b hb).2⟩;refine codeAny_forLoop_any (λn s'=>∃i σ' H',Inv X ag σ' H' s'/\tn i s'.heap/\(∀b∈fp,H' b=none)/\W i n σ' H') ?_ m0 ⟨0,σ,H2,I2,Im,λb hb=>(f2 b hb).1,w0⟩;rintro n s3 ⟨i,σ3,H3,I3,PJ,fr3,w3⟩;rcases turn i n σ3 H3 w3 with ⟨stop,qn⟩ | ⟨go,N,hN,step⟩
 .refine mj hp (cK (T.done X rfl rfl rfl hc i ag s3 σ3 H3 X.xe I3 (rY fr3) PJ stop) λr s4 ⟨hr,I4⟩=>?_);subst hr;exact oU ⟨σ3,H3,I4,qn⟩
 refine mj hp (cK (T.item X rfl rfl rfl hc i ag s3 σ3 H3 X.xe I3 (rY fr3) PJ go) λr s4 ⟨u,hr,h4⟩=>?_);subst hr;refine mj hp (cK h4 λ_ s5 aS=>?_);obtain⟨x,H5,I5,r5,y5,x8,RJ⟩:=aS;have I5':=I5.pinned (rY RJ) (T.obj _ _ x8);refine mj hp (cK (hg _ s5 σ3 H5 x u _ I5' r5 (step x H5 y5)) λ_ s6 aS=>?_);obtain⟨σ6,H6,I6,q6⟩:=aS;refine mj hp (cK (hb _ s6 σ6 H6 _ I6 q6) λf s7 q7=>?_);have again:∀{σ7:St}{H7:Hp},Inv X (ag++pz fp s5.heap) σ7 H7 s7->N σ7 H7->∃m,m < n/\∃i σ' H',Inv X ag σ' H' s7/\tn i s7.heap/\(∀b∈fp,H' b=none)/\W i m σ' H':=λ{σ7 H7} I7 n7=>by
  obtain⟨m',hm,w7⟩:=hN σ7 H7 n7;refine⟨m',hm,i+1,σ7,H7,I7.ki,T.keep _ _ _ x8 λb hb o e=>(I7.pin (b,o) (fP _ (fP _ (gO hb e)))).1,λb hb=>?_,w7⟩;obtain⟨o,e,d⟩:=T.obj _ _ x8 b hb;exact(I7.pin (b,o) (fP _ (fP _ (gO hb e)))).2.1
 cases f with
 | next=>obtain⟨σ7,H7,I7,n7⟩:=q7;exact again I7 n7
 | cont=>obtain⟨σ7,H7,I7,n7⟩:=q7;exact again I7 n7
 | brk=>obtain⟨σ7,H7,I7,q7⟩:=q7;exact⟨σ7,H7,I7.ki,q7⟩
 | ret v=>obtain⟨x7,σ7,H7,I7,r7,q7⟩:=q7;exact⟨x7,σ7,H7,I7.ki,r7,q7⟩
end
def cm {K:aR}{a:Addr}{xs:List V}{g:TG}{tb:TS}{D:Ends}{σ:St}{H:Hp}(Pv:Nat->St->Hp->Prop)(h0:Pv 0 σ H)(hl:∀i σ H,i<=xs.length->Pv i σ H->aG K H a xs)
  (hs:∀i x σ H,xs[i]?=some x->Pv i σ H->g x σ H λσ2 H2=>tb { D with nx:=Pv (i+1),ct:=Pv (i+1),bk:=D.nx } σ2 H2)(hd:∀σ H,Pv xs.length σ H->D.nx σ H) :
  ∃W:Nat->Nat->St->Hp->Prop,(∃m,W 0 m σ H)/\∀i m σ H,W i m σ H ->
   ((jQ K a).stop i H/\D.nx σ H)\/((jQ K a).go i H/\∃N:St->Hp->Prop,(∀σ' H',N σ' H'->∃m',m' < m/\W (i+1) m' σ' H')/\∀x H',(jQ K a).mr i H x H'->g x σ H' λσ2 H2=>tb { D with nx:=N,ct:=N,bk:=D.nx } σ2 H2):=by
 refine⟨λi m σ H=>m=xs.length - i/\i<=xs.length/\Pv i σ H,⟨xs.length,by simp,gI _,h0⟩,?_⟩;rintro i m σ H ⟨rfl,hi,p⟩;have q:=hl i σ H hi p;by_cases iF:i < xs.length
 .refine .inr ⟨⟨xs,xs[i],q,by simp [iF]⟩,Pv (i+1),λσ' H' p'=>⟨xs.length - (i+1),∅,rfl,iF,p'⟩,λx H' y=>?_⟩;obtain⟨e,y⟩:=y;subst e;exact hs i x σ _ (y xs q) p
 have e:i=xs.length:=by omega
 subst e;exact .inl ⟨⟨xs,q,aH _⟩,hd σ H p⟩
def xl {K:aR}{a:Addr}{xs:List V}{g:TG}{tb:TS}{D:Ends}{σ:St}{H:Hp}(Pv:Nat->St->Hp->Prop)(h0:Pv 0 σ H)(hl:∀i σ H,i<=xs.length->Pv i σ H->bf K H a xs)
  (hs:∀i x σ H,xs[i]?=some x->Pv i σ H->g x σ H λσ2 H2=>tb { D with nx:=Pv (i+1),ct:=Pv (i+1),bk:=D.nx } σ2 H2)(hd:∀σ H,Pv xs.length σ H->D.nx σ H) :
  ∃W:Nat->Nat->St->Hp->Prop,(∃m,W 0 m σ H)/\∀i m σ H,W i m σ H ->
   ((oK K a).stop i H/\D.nx σ H)\/((oK K a).go i H/\∃N:St->Hp->Prop,(∀σ' H',N σ' H'->∃m',m' < m/\W (i+1) m' σ' H')/\∀x H',(oK K a).mr i H x H'->g x σ H' λσ2 H2=>tb { D with nx:=N,ct:=N,bk:=D.nx } σ2 H2):=by
 refine⟨λi m σ H=>m=xs.length - i/\i<=xs.length/\Pv i σ H,⟨xs.length,by simp,gI _,h0⟩,?_⟩;rintro i m σ H ⟨rfl,hi,p⟩;have q:=hl i σ H hi p;by_cases iF:i < xs.length
 .refine .inr ⟨⟨xs,xs[i],q,by simp [iF]⟩,Pv (i+1),λσ' H' p'=>⟨xs.length - (i+1),∅,rfl,iF,p'⟩,λx H' y=>?_⟩;obtain⟨e,y⟩:=y;subst e;exact hs i x σ _ (y xs q) p
 have e:i=xs.length:=by omega
 subst e;exact .inl ⟨⟨xs,q,aH _⟩,hd σ H p⟩
def jj {lo:Int}{n:Nat}{g:TG}{tb:TS}{D:Ends}{σ:St}{H:Hp}(Pv:Nat->St->Hp->Prop)(h0:Pv 0 σ H)
  (hs:∀i σ H,i < n->Pv i σ H->g (.int (lo+i)) σ H λσ2 H2=>tb { D with nx:=Pv (i+1),ct:=Pv (i+1),bk:=D.nx } σ2 H2)(hd:∀σ H,Pv n σ H->D.nx σ H) :
  ∃W:Nat->Nat->St->Hp->Prop,(∃m,W 0 m σ H)/\∀i m σ H,W i m σ H ->
   ((Ky lo n).stop i H/\D.nx σ H)\/((Ky lo n).go i H/\∃N:St->Hp->Prop,(∀σ' H',N σ' H'->∃m',m' < m/\W (i+1) m' σ' H')/\∀x H',(Ky lo n).mr i H x H'->g x σ H' λσ2 H2=>tb { D with nx:=N,ct:=N,bk:=D.nx } σ2 H2):=by
 refine⟨λi m σ H=>m=n - i/\i<=n/\Pv i σ H,⟨n,by simp,gI _,h0⟩,?_⟩;rintro i m σ H ⟨rfl,hi,p⟩;by_cases iF:i < n
 .refine .inr ⟨iF,Pv (i+1),λσ' H' p'=>⟨n - (i+1),∅,rfl,iF,p'⟩,λx H' y=>?_⟩;obtain⟨e,y⟩:=y;subst e y;exact hs i σ _ iF p
 have e:i=n:=by omega
 subst e;exact .inl ⟨aH _,hd σ H p⟩
abbrev R2:=V->V->Hp->VK->Prop
def md (X:Cx)(f:Value->Value->Sem Value)(r:R2):Prop :=
 ∀(ag:List (Addr×Obj))(s:Shared)(σ:St)(H:Hp)(x y:V)(v u:Value)(Q:VK),Inv X ag σ H s->RelV x v->RelV y u->r x y H Q ->
  wpAny (model X.prog X.w) X.A (f v u) (EP X ag σ Q) X.xe s
def YB (X:Cx)(f:Value->Sem Value)(r:V->Hp->VK->Prop):Prop :=
 ∀(ag:List (Addr×Obj))(s:Shared)(σ:St)(H:Hp)(x:V)(v:Value)(Q:VK),Inv X ag σ H s->RelV x v->r x H Q ->
  wpAny (model X.prog X.w) X.A (f v) (EP X ag σ Q) X.xe s
def fZ (X:Cx)(f:Value)(r:List V->Hp->VK->Prop):Prop :=
 ∀(ag:List (Addr×Obj))(s:Shared)(σ:St)(H:Hp)(xs:List V)(us:List Value)(Q:VK),Inv X ag σ H s->aV xs us->r xs H Q ->
  wpAny (model X.prog X.w) X.A (call f us) (EP X ag σ Q) X.xe s
def YC (X:Cx)(r:V->Hp->(Bool->Hp->Prop)->Prop):Prop :=
 ∀(ag:List (Addr×Obj))(s:Shared)(σ:St)(H:Hp)(x:V)(v:Value)(Q:Bool->Hp->Prop),Inv X ag σ H s->RelV x v->r x H Q ->
  wpAny (model X.prog X.w) X.A (truthy v) (TP X ag σ Q) X.xe s
def SU (r:R2)(ta tb:TE):TE:=λσ H Q=>ta σ H λx H1=>tb σ H1 λy H2=>r x y H2 Q
def tUn (r:V->Hp->VK->Prop)(ta:TE):TE:=λσ H Q=>ta σ H λx H1=>r x H1 Q
def rI (C:Int->Int->Prop)(g:Int->Int->V):R2:=λx y H Q=>XI2 x y C λi j=>Q (g i j) H
def Oy (g:Int->Int->V):R2:=λx y H Q=>XI0 x y λi j=>Q (g i j) H
def rU (g:Int->V):V->Hp->VK->Prop:=λx H Q=>Yx x λi=>Q (g i) H
section
variable {X:Cx}{a b c:Expr}{ta tb tc:TE}{pos:Pos}
def N8 (ha:PE X a ta)(hb:PE X b tb){ag:List (Addr×Obj)}{s:Shared}{σ:St}{H:Hp}{R:V->V->Hp->Prop}(I:Inv X ag σ H s)
  (h:ta σ H λx H1=>tb σ H1 λy H2=>R x y H2){Q:Value->Shared->Prop}{f:Value->Value->Sem Value}
  (hf:∀v u s2 x y H2,Inv X ag σ H2 s2->RelV x v->RelV y u->R x y H2->wpAny (model X.prog X.w) X.A (f v u) Q X.xe s2) :
  wpAny (model X.prog X.w) X.A (eval a X.env) (λv s₁=>wpAny (model X.prog X.w) X.A (eval b X.env) (λu s₂=>wpAny (model X.prog X.w) X.A (f v u) Q X.xe s₂) X.xe s₁) X.xe s:=by
 refine cK (ha ag s σ H _ I h) λv s1 aS=>?_;obtain⟨x,H1,I1,r1,q1⟩:=aS;refine cK (hb ag s1 σ H1 _ I1 q1) λu s2 aS=>?_;obtain⟨y,H2,I2,r2,q2⟩:=aS;exact hf v u s2 x y H2 I2 r1 r2 q2
def bo {op:Operator}{r:R2}(ho:md X (binaryOp op) r)(ha:PE X a ta)(hb:PE X b tb):PE X (.BinOp a op b pos) (SU r ta tb):=by
 intro ag s σ H Q I h;exact wpAny_BinOp (N8 ha hb I h λv u s2 x y H2 I2 rx ry q=>ho ag s2 σ H2 x y v u Q I2 rx ry q)
def K0 {op:UnaryOp}{r:V->Hp->VK->Prop}(ho:YB X (unaryOp op) r)(ha:PE X a ta):PE X (.UnaryOp op a pos) (tUn r ta):=by
 intro ag s σ H Q I h;refine UnaryOp_ (cK (ha ag s σ H _ I h) λv s1 aS=>?_);obtain⟨x,H1,I1,r1,q1⟩:=aS;exact ho ag s1 σ H1 x v Q I1 r1 q1
def Vj {f:Value->Value->Sem Value}{C:Int->Int->Prop}{g:Int->Int->Int}
  (rule:∀(i j:Int)(t u:Tok)(s:Shared)(Q:Value->Shared->Prop)(E:Value->Shared->Prop),C i j->Q (.int (g i j) s.toks) { s with toks:=s.toks+1 }->wpAny (model X.prog X.w) X.A (f (.int i t) (.int j u)) Q E s) :
  md X f (rI C λi j=>.int (g i j)):=by
 intro ag s σ H x y v u Q I rx ry h;obtain⟨i,j,rfl,rfl,hc,q⟩:=h;obtain⟨t,rfl⟩:=rx;obtain⟨t',rfl⟩:=ry;exact rule i j t t' s _ _ hc ⟨.int (g i j),H,I.tok _,⟨_,rfl⟩,q⟩
def Qd {f:Value->Value->Sem Value}{g:Int->Int->Int}
  (rule:∀(i j:Int)(t u:Tok)(s:Shared)(Q:Value->Shared->Prop)(E:Value->Shared->Prop),Q (.int (g i j) s.toks) { s with toks:=s.toks+1 }->wpAny (model X.prog X.w) X.A (f (.int i t) (.int j u)) Q E s) :
  md X f (Oy λi j=>.int (g i j)):=by
 intro ag s σ H x y v u Q I rx ry h;obtain⟨i,j,rfl,rfl,q⟩:=h;obtain⟨t,rfl⟩:=rx;obtain⟨t',rfl⟩:=ry;exact rule i j t t' s _ _ ⟨.int (g i j),H,I.tok _,⟨_,rfl⟩,q⟩
def Qe {f:Value->Value->Sem Value}{g:Int->Int->Bool}
  (rule:∀(i j:Int)(t u:Tok)(s:Shared)(Q:Value->Shared->Prop)(E:Value->Shared->Prop),Q (.bool (g i j)) s->wpAny (model X.prog X.w) X.A (f (.int i t) (.int j u)) Q E s) :
  md X f (Oy λi j=>.bl (g i j)):=by
 intro ag s σ H x y v u Q I rx ry h;obtain⟨i,j,rfl,rfl,q⟩:=h;obtain⟨t,rfl⟩:=rx;obtain⟨t',rfl⟩:=ry;exact rule i j t t' s _ _ ⟨.bl (g i j),H,I,rfl,q⟩
def YS (i j:Int):Prop:=0 < j/\j < 1073741824
def Om (i j:Int):Prop:=(-(2 ^ 64) < i/\i < 2 ^ 64)\/(-(2 ^ 64) < j/\j < 2 ^ 64)
def Om.ok {i j:Int}(h:Om i j):IntMulOk i j:=by
 rcases h with ⟨h1,h2⟩ | ⟨h1,h2⟩
 .exact .of_left (intBits_le_64 h1 h2)
 exact .of_right (intBits_le_64 h1 h2)
def d7:md X (binaryOp .Add) (Oy λi j=>.int (i+j)):=Qd λ_ _ _ _ _ _ _ q=>add_int q
def Gh:md X (binaryOp .Sub) (Oy λi j=>.int (i - j)):=Qd λ_ _ _ _ _ _ _ q=>sub_int q
def wO:md X (binaryOp .Mult) (rI Om λi j=>.int (i * j)):=Vj λ_ _ _ _ _ _ _ hc q=>mul_int q hc.ok
def iM:md X (binaryOp .FloorDiv) (rI YS λi j=>.int (i / j)):=Vj λi j _ _ _ _ _ hc q=>by
 have h1:(0:Int) < j:=hc.1;have h2:j < 1073741824:=hc.2;exact floordiv_int ∅ (by rw [Int.fdiv_eq_ediv_of_nonneg i ∅];exact q) (.inl (PyProof.noPylong_small ∅))
def eP:md X (binaryOp .Mod) (rI (λ_ j=>0 < j) λi j=>.int (i % j)):=Vj λi j _ _ _ _ _ hc q=>by
 have h1:(0:Int) < j:=hc;exact mod_int' ∅ (by rw [Int.fmod_eq_emod_of_nonneg i ∅];exact q)
def unI {f:Value->Sem Value}{g:Int->Int}
  (rule:∀(i:Int)(t:Tok)(s:Shared)(Q:Value->Shared->Prop)(E:Value->Shared->Prop),Q (.int (g i) s.toks) { s with toks:=s.toks+1 }->wpAny (model X.prog X.w) X.A (f (.int i t)) Q E s) :
  YB X f (rU λi=>.int (g i)):=by
 intro ag s σ H x v Q I rx h;obtain⟨i,rfl,q⟩:=h;obtain⟨t,rfl⟩:=rx;exact rule i t s _ _ ⟨.int (g i),H,I.tok _,⟨_,rfl⟩,q⟩
def E9:YB X (unaryOp .USub) (rU λi=>.int (-i)):=unI λ_ _ _ _ _ q=>neg_int q
end
def PQ:V->V->Bool
 | .dG,.dG=>true | .dG,.int _=>true | .int _,.dG=>true | .dG,.bl _=>true | .bl _,.dG=>true | .dG,.str _=>true | .str _,.dG=>true
 | .int _,.int _=>true | .bl _,.bl _=>true | .str _,.str _=>true | .Bc _,.Bc _=>true
 | .int _,.str _=>true | .str _,.int _=>true | .bl _,.str _=>true | .str _,.bl _=>true
 | _,_=>false
def rEq:R2:=λx y H Q=>PQ x y=true/\Q (.bl (decide (x=y))) H
def rNe:R2:=λx y H Q=>PQ x y=true/\Q (.bl (!decide (x=y))) H
def Cy {i j:Int}:decide (V.int i=V.int j)=(i == j):=by
 rw [jU];simp
def HJ {i j:Bool}:decide (V.bl i=V.bl j)=(i == j):=by
 rw [jU];simp
def Cw {i j:Str}:decide (V.str i=V.str j)=(i == j):=by
 rw [jU];simp
def Cz {i j:Array UInt8}:decide (V.Bc i=V.Bc j)=(i.toList == j.toList):=by
 rw [jU];cases i;cases j;simp
section
variable {X:Cx}{a b c:Expr}{ta tb tc:TE}{pos:Pos}
def b_ {ag:List (Addr×Obj)}{σ:St}{H:Hp}{s:Shared}{Q:VK}{k k':Bool}(I:Inv X ag σ H s)(q:Q (.bl k) H)(e:k=k'):EP X ag σ Q (.bool k') s:=by
 subst e;exact⟨.bl k,H,I,rfl,q⟩
def qa:md X (compareOp .Eq) rEq:=by
 intro ag s σ H x y v u Q I rx ry h;obtain⟨hs,q⟩:=h;cases x with
 | dG =>
  cases rx;cases y with
  | dG=>cases ry;exact PySem.EqNone.eq_none_none (b_ I q (by simp))
  | bl j=>cases ry;exact PySem.EqNone.eq_none_bool (b_ I q (by simp))
  | int j=>obtain⟨t',rfl⟩:=ry;exact PySem.EqNone.eq_none_int (b_ I q (by simp))
  | str j=>obtain⟨t',rfl⟩:=ry;exact PySem.EqNone.eq_none_str (b_ I q (by simp))
  | _=>exact absurd (show false=true from hs) dB
 | bl i =>
  cases rx;cases y with
  | dG=>cases ry;exact PySem.EqNone.eq_bool_none (b_ I q (by simp))
  | bl j=>cases ry;exact eq_bool (b_ I q HJ)
  | str j=>obtain⟨t',rfl⟩:=ry;exact PySem.EqMixed.eq_bool_str (b_ I q (by simp))
  | _=>exact absurd (show false=true from hs) dB
 | int i =>
  obtain⟨t,rfl⟩:=rx;cases y with
  | dG=>cases ry;exact PySem.EqNone.eq_int_none (b_ I q (by simp))
  | int j=>obtain⟨t',rfl⟩:=ry;exact eq_int (b_ I q Cy)
  | str j=>obtain⟨t',rfl⟩:=ry;exact PySem.EqMixed.eq_int_str (b_ I q (by simp))
  | _=>exact absurd (show false=true from hs) dB
 | str i =>
  obtain⟨t,rfl⟩:=rx;cases y with
  | dG=>cases ry;exact PySem.EqNone.eq_str_none (b_ I q (by simp))
  | bl j=>cases ry;exact PySem.EqMixed.eq_str_bool (b_ I q (by simp))
  | int j=>obtain⟨t',rfl⟩:=ry;exact PySem.EqMixed.eq_str_int (b_ I q (by simp))
  | str j=>obtain⟨t',rfl⟩:=ry;exact eq_str (b_ I q Cw)
  | _=>exact absurd (show false=true from hs) dB
 | Bc i =>
  obtain⟨t,rfl⟩:=rx;cases y with
  | Bc j=>obtain⟨t',rfl⟩:=ry;exact PySem.W.eq_bytes (b_ I q Cz)
  | _=>exact absurd (show false=true from hs) dB
 | _=>cases y <;> exact absurd (show false=true from hs) dB
def Qc:md X (compareOp .NotEq) rNe:=by
 intro ag s σ H x y v u Q I rx ry h;obtain⟨hs,q⟩:=h;cases x with
 | dG =>
  cases rx;cases y with
  | dG=>cases ry;exact PySem.EqNone.ne_none_none (b_ I q (by simp))
  | bl j=>cases ry;exact PySem.EqNone.ne_none_bool (b_ I q (by simp))
  | int j=>obtain⟨t',rfl⟩:=ry;exact PySem.EqNone.ne_none_int (b_ I q (by simp))
  | str j=>obtain⟨t',rfl⟩:=ry;exact PySem.EqNone.ne_none_str (b_ I q (by simp))
  | _=>exact absurd (show false=true from hs) dB
 | bl i =>
  cases rx;cases y with
  | dG=>cases ry;exact PySem.EqNone.ne_bool_none (b_ I q (by simp))
  | bl j=>cases ry;exact ne_bool (b_ I q (congrArg not HJ))
  | str j=>obtain⟨t',rfl⟩:=ry;exact PySem.EqMixed.ne_bool_str (b_ I q (by simp))
  | _=>exact absurd (show false=true from hs) dB
 | int i =>
  obtain⟨t,rfl⟩:=rx;cases y with
  | dG=>cases ry;exact PySem.EqNone.ne_int_none (b_ I q (by simp))
  | int j=>obtain⟨t',rfl⟩:=ry;exact ne_int (b_ I q (congrArg not Cy))
  | str j=>obtain⟨t',rfl⟩:=ry;exact PySem.EqMixed.ne_int_str (b_ I q (by simp))
  | _=>exact absurd (show false=true from hs) dB
 | str i =>
  obtain⟨t,rfl⟩:=rx;cases y with
  | dG=>cases ry;exact PySem.EqNone.ne_str_none (b_ I q (by simp))
  | bl j=>cases ry;exact PySem.EqMixed.ne_str_bool (b_ I q (by simp))
  | int j=>obtain⟨t',rfl⟩:=ry;exact PySem.EqMixed.ne_str_int (b_ I q (by simp))
  | str j=>obtain⟨t',rfl⟩:=ry;exact ne_str (b_ I q (congrArg not Cw))
  | _=>exact absurd (show false=true from hs) dB
 | Bc i =>
  obtain⟨t,rfl⟩:=rx;cases y with
  | Bc j=>obtain⟨t',rfl⟩:=ry;exact PySem.W.ne_bytes (b_ I q (congrArg not Cz))
  | _=>exact absurd (show false=true from hs) dB
 | _=>cases y <;> exact absurd (show false=true from hs) dB
def sH:md X (compareOp .Lt) (Oy λi j=>.bl (decide (i < j))):=Qe λ_ _ _ _ _ _ _ q=>lt_int q
def Ca:md X (compareOp .Gt) (Oy λi j=>.bl (decide (j < i))):=Qe λ_ _ _ _ _ _ _ q=>gt_int q
def md.or {f:Value->Value->Sem Value}{r r':R2}(h:md X f r)(h':md X f r'):md X f (λx y H Q=>r x y H Q\/r' x y H Q):=by
 intro ag s σ H x y v u Q I rx ry q;rcases q with q | q
 .exact h ag s σ H x y v u Q I rx ry q
 exact h' ag s σ H x y v u Q I rx ry q
def cX (b:Expr){op:CmpOp}(h:op≠.In:=by decide)(h2:op≠.NotIn:=by decide):behindInMarks op b=false:=by
 have e1:(op == CmpOp.In)=false:=by cases op <;> first | rfl | exact absurd rfl h
 have e2:(op == CmpOp.NotIn)=false:=by cases op <;> first | rfl | exact absurd rfl h2
 cases b <;> simp [behindInMarks,e1,e2]
def gS {op:CmpOp}{r:R2}(ho:md X (compareOp op) r)(ha:PE X a ta)(hb:PE X b tb)(hm:behindInMarks op b=false):PE X (.Compare a [op] [b] pos) (SU r ta tb):=by
 intro ag s σ H Q I h;exact wpAny_Compare1 (N8 ha hb I h λv u s2 x y H2 I2 rx ry q=>ho ag s2 σ H2 x y v u Q I2 rx ry q) hm
def Pd (t:TE):TT:=λσ H Q=>t σ H λx H'=>XB x λk=>Q k H'
def bB {op:CmpOp}{r:R2}(ho:md X (compareOp op) r)(ha:PE X a ta)(hb:PE X b tb)(hm:behindInMarks op b=false):PT X (.Compare a [op] [b] pos) (Pd (SU r ta tb)):=by
 intro ag s σ H Q I h;refine wpAny_isTrue_Compare1 (cK (ha ag s σ H _ I h) λv s1 ⟨x,H1,I1,r1,q1⟩=>cK (hb ag s1 σ H1 _ I1 q1) λu s2 ⟨y,H2,I2,r2,q2⟩ =>
  cK (ho ag s2 σ H2 x y v u _ I2 r1 r2 q2) λc s3 ⟨z,H3,I3,r3,k,e,q3⟩=>?_) hm
 subst e;cases r3;exact nA ⟨H3,I3,q3⟩
def Ib (K:aR)(x:V)(H:Hp)(k:Bool):Prop :=
 match x with
 | .dG=>k=false
 | .bl b=>k=b
 | .int i=>k=(i != 0)
 | .str y=>y.length<=sizeLine/\k=((y.length:Int) != 0)
 | .Bc y=>y.size<=sizeLine/\k=((y.size:Int) != 0)
 | .ref p=>(∃xs,aG K H p xs/\k=!xs.isEmpty)\/(∃xs,bf K H p xs/\k=!xs.isEmpty)\/∃kvs,H p=some (.dK kvs)/\k=!kvs.isEmpty
 | _=>False
def AQ {κ:Type}{kvs:List (κ×V)}{vs:List (κ×Value)}(r:KV kvs vs):(!vs.isEmpty)=!kvs.isEmpty:=by
 cases r <;> rfl
def sU {xs:List V}{aN:List Value}(r:aV xs aN):(!aN.toArray.isEmpty)=!xs.isEmpty:=by
 cases r <;> simp
def mF:(sizeLine:Nat) < 2 ^ 63:=by rw [gL];decide
def LU:YC X (λx H Q=>∃k,Ib X.K x H k/\Q k H):=by
 intro ag s σ H x v Q I rx h;obtain⟨k,e,q⟩:=h;have hl:=mF;have hs:sizeLine=16777216:=gL;cases x with
 | dG =>
  cases rx;have e':k=false:=e;subst e';exact truthy_none ⟨H,I,q⟩
 | bl b =>
  cases rx;have e':k=b:=e;subst e';exact nA ⟨H,I,q⟩
 | int i =>
  obtain⟨t,rfl⟩:=rx;have e':k=(i != 0):=e;subst e';exact PySem.P.truthy_int ⟨H,I,q⟩
 | str y =>
  obtain⟨t,rfl⟩:=rx;obtain⟨hy,e'⟩:y.length<=sizeLine/\k=((y.length:Int) != 0):=e;subst e';exact PySem.P.truthy_str ∅ ⟨H,I.tok _,q⟩
 | Bc y =>
  obtain⟨t,rfl⟩:=rx;obtain⟨hy,e'⟩:y.size<=sizeLine/\k=((y.size:Int) != 0):=e;subst e';exact PySem.W.truthy_bytes ∅ ⟨H,I.tok _,q⟩
 | ref p =>
  cases rx;have e':(∃xs,aG X.K H p xs/\k=!xs.isEmpty)\/(∃xs,bf X.K H p xs/\k=!xs.isEmpty)\/∃kvs,H p=some (.dK kvs)/\k=!kvs.isEmpty:=e;rcases e' with ⟨xs,hx,e'⟩ | ⟨xs,hx,e'⟩ | ⟨kvs,hx,e'⟩
  .subst e';obtain⟨aN,r,pl,hz⟩:=I.list hx;have a8:=r.length;exact wpAny_truthy_list pl.isList (by simp only [bJ];omega) ⟨H,I.tok _,by rw [sU r];exact q⟩
  .subst e';obtain⟨aN,r,pl,hz⟩:=I.tuple hx;have a8:=r.length;exact truthy_tuple pl (by simp only [bJ];omega) ⟨H,I.tok _,by rw [sU r];exact q⟩
  subst e';obtain⟨hz,hS,vs,r,m⟩:kvs.length<=sizeLine/\(p == sysModules)=false/\∃vs,KV kvs vs/\s.heap.DictOf (a7 X.prog X.w) p vs:=I.bF p _ hx;have a8:kvs.length=vs.length:=bG r;exact wpAny_truthy_dict hS m ∅ ⟨H,I.tok _,by rw [AQ r];exact q⟩
 | _=>exact(show False from e).elim
def jc (ha:PE X a ta)(he:∀whole,isTrue a X.env whole=(do let v <-whole;standAt a.pos;holding [v] (truthy v))) :
  PT X a (λσ H Q=>ta σ H λx H'=>∃k,Ib X.K x H' k/\Q k H'):=by
 intro ag s σ H Q I h;refine isTrue_plain (cK (ha ag s σ H _ I h) λv s1 aS=>?_) (he _);obtain⟨x,H1,I1,r1,q1⟩:=aS;exact LU ag s1 σ H1 x v Q I1 r1 q1
def sI:md X (binaryOp .Add) (λx y H Q=>∃i j,x=.str i/\y=.str j/\i.length+j.length<=sizeLine/\Q (.str (i++j)) H):=by
 intro ag s σ H x y v u Q I rx ry h;obtain⟨i,j,rfl,rfl,hz,q⟩:=h;obtain⟨t,rfl⟩:=rx;obtain⟨t',rfl⟩:=ry;exact add_str (λt' tk=>⟨.str (i++j),H,I.tok _,⟨_,rfl⟩,q⟩) hz
def vals1 {x:V}{us:List Value}(r:aV [x] us):∃u,us=[u]/\RelV x u:=by
 cases r with
 | cons r1 r2=>cases r2;exact⟨_,rfl,r1⟩
def vals2 {x y:V}{us:List Value}(r:aV [x,y] us):∃u w',us=[u,w']/\RelV x u/\RelV y w':=by
 cases r with
 | cons r1 r2 =>
  cases r2 with
  | cons r3 r4=>cases r4;exact⟨_,_,rfl,r1,r3⟩
def Ep (hc:X.calm=true):fZ X (.builtin "max") (λxs H Q=>∃i j,xs=[.int i,.int j]/\Q (.int (if j > i then j else i)) H):=by
 intro ag s σ H xs us Q I r h;obtain⟨i,j,rfl,q⟩:=h;obtain⟨u,w',rfl,⟨t,rfl⟩,⟨t',rfl⟩⟩:=vals2 r;refine max_two_ints (I.ok.hd hc) λh' tk k=>⟨_,H,I.kept k,?_,q⟩;by_cases hj:j > i
 .rw [az hj,az hj];exact⟨_,rfl⟩
 rw [aA hj,aA hj];exact⟨_,rfl⟩
end
structure Bh (h:Heap)(x dx C:Addr)(mA:Str->Option Value):Prop where
 obj:h.get? x=some (PySem.W.instObj C dx)
 ns:h.Ns1 dx mA
 ne:dx≠x
def uT {h:Heap}{dx:Addr}{mA:Str->Option Value}(n:h.Ns1 dx mA):∃od,h.get? dx=some od/\∀name,PySem.W.lookIn name od=some (mA name):=by
 obtain⟨o,es,ep,ho,hd,hk,_,hm⟩:=n;refine⟨o,ho,λname=>?_⟩;have e:=hm name;unfold nsFind findBy at e;rw [<-Array.find?_toList] at e;unfold PySem.W.lookIn;rw [hd];dsimp only
 split
 .rename_i y q
  rw [q] at e;exact congrArg some e
 rename_i q
 rw [q] at e;have a:es.toList.any (·.refKey)=false:=by
  rw [List.any_eq_false];intro y hy;obtain⟨z,t,WL⟩:=hk y (Array.mem_toList_iff.mp hy);simp [DictEntry.refKey,WL]
 have a':¬es.toList.any (·.refKey)=true:=by rw [a];exact dB
 rw [aA a'];exact congrArg some e
def Bh.look {h:Heap}{x dx C:Addr}{mA:Str->Option Value}(I:Bh h x dx C mA):∃od,PySem.W.InstAt h x (PySem.W.instObj C dx) C (some od)/\∀name,PySem.W.lookIn name od=some (mA name) :=
 let ⟨od,ho,hl⟩:=uT I.ns
 ⟨od,⟨I.obj,rfl,rfl,ho⟩,hl⟩
section
variable {prog:Program}{w:World}{A:Around}{E:Value->Shared->Prop}{s:Shared}{K:aR}{x dx C f:Addr}{mA:Str->Option Value}{name:Str}{v:Value}
def get_map {expr:Bool}{Q:Value->Shared->Prop}(X:K.In s.heap)(I:Bh s.heap x dx C mA)(hg:PySem.W.plainGet K C name=true)(hh:PySem.W.hasDictIn K C=true)
  (ha:PySem.W.findIn K (.ref C) name=some none)(hv:mA name=some v)(hv':PySem.W.handedIn v=true)(h:Q v { s with toks:=s.toks+1 }) :
  wpAny (model prog w) A (getAttr (.ref x) name expr) Q E s:=by
 obtain⟨od,J,hl⟩:=I.look;exact PySem.W.get_value X J (PySem.W.plainGet_of hg).1 (PySem.W.findObj_own hh ha rfl (by rw [hl,hv])) hv' h
def Hn {pl:Sem Bool}{Q:Value×List Value->Shared->Prop}(X:K.In s.heap)(I:Bh s.heap x dx C mA)(hg:PySem.W.plainGet K C name=true)
  (hf:PySem.W.findIn K (.ref C) name=some (some (.ref f)))(ht:PySem.W.isFn K (.ref f)=true)(hv:mA name=none)(h:Q (.ref f,[.ref x]) s) :
  wpAny (model prog w) A (getMethod (.ref x) name pl) Q E s:=by
 obtain⟨od,J,hl⟩:=I.look;exact PySem.W.method_fn X J (PySem.W.plainGet_of hg).1 (PySem.W.plainGet_of hg).2 hf (beq_iff_eq.mp ht) (by show (PySem.W.lookIn name od).map (·.isSome)=some false;rw [hl,hv];rfl) h
def IV {ns:List Str}{Q:Unit->Shared->Prop}(X:K.In s.heap)(I:Bh s.heap x dx C mA)
  (hs:PySem.W.findIn K (.ref C) "__setattr__"=some (some (.builtin "object.__setattr__")))(hp:PySem.W.plainOver K C=true)(ht:PySem.W.takerIn K C name=some none)(hh:PySem.W.hasDictIn K C=true)
  (hw:PySem.Within mA ns)(hsz:ns.length<=sizeLine)
  (h:∀h',Bh h' x dx C (λy=>if y=name then some v else mA y)->Heap.SameBut dx s.heap h'->Q () { s with heap:=h',toks:=s.toks+2 }) :
  wpAny (model prog w) A (setAttr (.ref x) name v) Q E s:=by
 obtain⟨od,J,hl⟩:=I.look;refine PySem.W.set_plain X J hs (PySem.W.osa_open (s:={ s with toks:=s.toks+1 }) (r:=none) X J hp ht λb=>?_);obtain⟨cd,hc,DX⟩:=PySem.W.any_some hh;have hx:s.heap.get? x=some ⟨.ref C,some dx,.plain,#[]⟩:=I.obj;refine ax (aI (ax (ax (wpAny_loadPart hx (ax (PySem.W.Looks.here (s:={ s with toks:=s.toks+1 }) (PySem.W.looks_clsIn X hc) ?_))))));rw [DX];refine aI (a:=some dx) (ax (aI (ax ?_)));refine wpAny_nsSet1 (s:={ s with toks:=s.toks+1 }) I.ns λh' DU QX=>?_;obtain⟨oD,esD,epD,WC,WY,W4⟩:=DU.count (PySem.Within.cons name v hw);refine ax (wpAny_lookBehind WC (by rw [WY];exact pastItsLine_dict (cQ W4 (by rw [eC];omega))) ?_);exact aI (h _ ⟨(QX.2 _ (dC I.ne)).trans I.obj,DU,I.ne⟩ QX)
def yG {R:Result->Shared->Prop}{vs:List Value}{kw:List (Str×Value)}(X:K.In s.heap)(hm:PySem.W.makesIn K C=true)
  (hi:PySem.W.findIn K (.ref C) "__init__"=some (some (.ref f)))(hf:PySem.W.typeIn K (.ref f)=some (.type "function"))
  (h:codeAny (model prog w) (A.under (.builtin "type.__call__" ⟨.ref C::vs,kw⟩)) (.call (.ref f) ⟨.ref (s.heap.objs.size+1)::vs,kw⟩) (PySem.W.InitBack (s.heap.objs.size+1) R)
   { s with heap:=(s.heap.push PySem.W.emptyDict).push (PySem.W.instObj C s.heap.objs.size) }) :
  codeAny (model prog w) A (.call (.ref C) ⟨vs,kw⟩) R s:=by
 obtain⟨hh,g,d,t,os⟩:=s;exact PySem.W.make_core (PySem.W.makes_of X hm) (PySem.W.looks_findIn X hi) (λself=>PySem.W.bind_fn X self hf) (.inl rfl) h
end
def dS (f:Str)(v:V):List (Str×V)->List (Str×V)
 | []=>[(f,v)]
 | (g,x)::r=>if g=f then (g,v)::r else (g,x)::dS f v r
theorem qb (f g:Str)(v:V):∀fs:List (Str×V),(dS f v fs).lookup g=if g=f then some v else fs.lookup g
 | []=>by
  show List.lookup g [(f,v)]=_;by_cases h:g=f
  .have hb:(g == f)=true:=beq_iff_eq.mpr h;simp only [List.lookup,hb,az h]
  have hb:(g == f)=false:=jX.mpr h;simp only [List.lookup,hb,aA h]
 | (k,x)::r=>by
  have ih:=qb f g v r;rw [show dS f v ((k,x)::r)=(if k=f then (k,v)::r else (k,x)::dS f v r) from rfl];by_cases hk:k=f
  .rw [az hk];by_cases h:g=k
   .have hb:(g == k)=true:=beq_iff_eq.mpr h;simp only [List.lookup,hb,az (h.trans hk)]
   have hb:(g == k)=false:=jX.mpr h;simp only [List.lookup,hb,aA (λe:g=f=>h (e.trans hk.symm))]
  rw [aA hk];by_cases h:g=k
  .have hb:(g == k)=true:=beq_iff_eq.mpr h;simp only [List.lookup,hb,aA (λe:g=f=>hk (h.symm.trans e))]
  have hb:(g == k)=false:=jX.mpr h;simp only [List.lookup,hb];exact ih
theorem pC (f:Str)(v:V):∀fs:List (Str×V),f∈(dS f v fs).map (·.1)/\∀g,g∈fs.map (·.1)->g∈(dS f v fs).map (·.1)
 | []=>⟨by simp [dS],λg h=>by simp at h⟩
 | (k,x)::r=>by
  obtain⟨i1,i2⟩:=pC f v r;rw [show dS f v ((k,x)::r)=(if k=f then (k,v)::r else (k,x)::dS f v r) from rfl];by_cases hk:k=f
  .rw [az hk];subst hk;exact⟨by simp,λg h=>by simpa using h⟩
  rw [aA hk];refine⟨?_,λg h=>?_⟩
  .rw [bL];exact bS _ i1
  rw [bL] at h ⊢;rcases bN.mp h with e | e
  .exact bN.mpr (.inl e)
  exact bS _ (i2 g e)
theorem qd (f:Str)(v:V):∀fs:List (Str×V),(dS f v fs).length<=fs.length+1
 | []=>by simp [dS]
 | (k,x)::r=>by
  have ih:=qd f v r;rw [show dS f v ((k,x)::r)=(if k=f then (k,v)::r else (k,x)::dS f v r) from rfl];by_cases hk:k=f
  .rw [az hk,eC,eC];omega
  rw [aA hk,eC,eC];omega
def iE.some_of {v:V}{o:Option Value}(r:iE (some v) o):∃u,o=some u/\RelV v u:=by
 cases o with
 | none=>exact(show False from r).elim
 | some u=>exact⟨u,rfl,r⟩
def iE.none_of {o:Option Value}(r:iE none o):o=none:=by
 cases o with
 | none=>rfl
 | some u=>exact(show False from r).elim
def u9 {v:V}{u:Value}(r:RelV v u):PySem.W.handedIn u=true:=by
 cases v with
 | dG=>cases (show u=Value.none from r);rfl
 | bl b=>cases (show u=Value.bool b from r);rfl
 | int i=>obtain⟨t,e⟩:=(show ∃t,u=Value.int i t from r);cases e;rfl
 | str x=>obtain⟨t,e⟩:=(show ∃t,u=Value.str x t from r);cases e;rfl
 | Bc b=>obtain⟨t,e⟩:=(show ∃t,u=Value.bytes b t from r);cases e;rfl
 | NQ b=>obtain⟨t,e⟩:=(show ∃t,u=Value.float b t from r);cases e;rfl
 | ref a=>cases (show u=Value.ref a from r);rfl
 | ty n=>cases (show u=Value.type n from r);rfl
section
variable {P:Program}{w:World}{H H':Hp}{h h':Heap}{a C dx:Addr}{fs IG:List (Str×V)}
def w5 (bF:lJ P w H h)(e:H a=some (.ins C dx fs)):∃mA,Bh h a dx C mA/\(∀f,iE (fs.lookup f) (mA f))/\PySem.Within mA (fs.map (·.1))/\fs.length<=1000/\H dx=some (.own a):=by
 obtain⟨d,z,ne,ob,mA,n,r,q⟩:=(show bW P w H h a (.ins C dx fs) from bF a _ e);exact⟨mA,⟨ob,n,ne⟩,r,q,z,d⟩
end
structure CY (K:aR)(C:Addr):Prop where
 pg:PySem.W.plainGet K C Str.empty=true
 hd:PySem.W.hasDictIn K C=true
 po:PySem.W.plainOver K C=true
 sa:PySem.W.findIn K (.ref C) "__setattr__"=some (some (.builtin "object.__setattr__"))
def CY.get {K:aR}{C:Addr}(c:CY K C)(f:Str):PySem.W.plainGet K C f=true:=c.pg
def cM (K:aR)(C:Addr)(f:Str):Prop:=PySem.W.findIn K (.ref C) f=some none
def cM.Pb {K:aR}{C:Addr}{f:Str}(n:cM K C f):PySem.W.takerIn K C f=some none:=by
 unfold PySem.W.takerIn;rw [show PySem.W.findIn K (.ref C) f=some none from n];rfl
structure Con (K:aR)(C:Addr)(f:Str)(v:V)(u:Value):Prop where
 at_:PySem.W.findIn K (.ref C) f=some (some u)
 rel:RelV v u
 get:PySem.W.specialIn K u "__get__"=some none
 cp:PySem.W.copiedNames.contains f=false
structure Meth (K:aR)(C:Addr)(m:Str)(f:Addr):Prop where
 at_:PySem.W.findIn K (.ref C) m=some (some (.ref f))
 fn:PySem.W.isFn K (.ref f)=true
 kp:PySem.W.keepIn K (.ref f)=true
section
variable {X:Cx}{ag:List (Addr×Obj)}{σ:St}{H:Hp}{s:Shared}{a C dx:Addr}{fs:List (Str×V)}{f:Str}{v:V}{A:Around}{E:Value->Shared->Prop}
def AZ {b:Bool}{Q:Value->Shared->Prop}(I:Inv X ag σ H s)(e:H a=some (.ins C dx fs))(c:CY X.K C)(n:cM X.K C f)(l:fs.lookup f=some v)
  (h:∀u s',Inv X ag σ H s'->RelV v u->Q u s'):wpAny (model X.prog X.w) A (getAttr (.ref a) f b) Q E s:=by
 obtain⟨mA,O,r,_,_,_⟩:=w5 I.bF e;obtain⟨u,hu,ru⟩:=iE.some_of (v:=v) (o:=mA f) (by rw [<-l];exact r f);exact get_map I.jo O (c.get f) c.hd n hu (u9 ru) (h u _ (I.tok _) ru)
def mX {m:Str}{g:Addr}{pl:Sem Bool}{Q:Value×List Value->Shared->Prop}(I:Inv X ag σ H s)(e:H a=some (.ins C dx fs))(c:CY X.K C)(k:Meth X.K C m g)(l:fs.lookup m=none)
  (h:Q (.ref g,[.ref a]) s):wpAny (model X.prog X.w) A (getMethod (.ref a) m pl) Q E s:=by
 obtain⟨mA,O,r,_,_,_⟩:=w5 I.bF e;have hn:mA m=none:=iE.none_of (by rw [<-l];exact r m);exact Hn I.jo O (c.get m) k.at_ k.fn hn h
def zV {y:V}{u:Value}{Q:Unit->Shared->Prop}(I:Inv X ag σ H s)(e:H a=some (.ins C dx fs))(c:CY X.K C)(n:cM X.K C f)(hl:fs.length < 1000)(ry:RelV y u)
  (h:∀s',Inv X ag σ (upd H a (.ins C dx (dS f y fs))) s'->Q () s'):wpAny (model X.prog X.w) A (setAttr (.ref a) f u) Q E s:=by
 obtain⟨mA,O,r,wi,_,ho⟩:=w5 I.bF e;have hz:(fs.map (·.1)).length<=sizeLine:=by rw [aB,gL];omega
 refine IV I.jo O c.sa c.po n.Pb c.hd wi hz λh' O' sb=>h _ ?_;have hd:∃o,h'.get? dx=some o:=let ⟨o,_,_,e',_⟩:=O'.ns;⟨o,e'⟩;refine I.write (x:=a) (e:=dx) (by rw [e];exact True.intro) (.inr ho) (λb q hb z=>(sb.2 b hb).trans z) hd ?_;refine⟨by rw [ai O.ne];exact ho,?_,O.ne,O'.obj,_,O'.ns,λg=>?_,λg hg=>?_⟩
 .have:=qd f y fs;omega
 .show iE ((dS f y fs).lookup g) (if g=f then some u else mA g);rw [qb];by_cases q:g=f
  .rw [az q,az q];exact ry
  rw [aA q,aA q];exact r g
 by_cases q:g=f
 .rw [q];exact(pC f y fs).1
 refine(pC f y fs).2 g (wi g λz=>hg ?_);show (if g=f then some u else mA g)=none;rw [aA q];exact z
def Inv.made (I:Inv X ag σ H s):Inv X ag σ (upd (upd H s.heap.objs.size (.own (s.heap.objs.size+1))) (s.heap.objs.size+1) (.ins C s.heap.objs.size []))
  { s with heap:=(s.heap.push PySem.W.emptyDict).push (PySem.W.instObj C s.heap.objs.size) }:=by
 have e1:(s.heap.push PySem.W.emptyDict).get? s.heap.objs.size=some PySem.W.emptyDict:=cZ s.heap rfl;have e2:((s.heap.push PySem.W.emptyDict).push (PySem.W.instObj C s.heap.objs.size)).get? (s.heap.objs.size+1)=some (PySem.W.instObj C s.heap.objs.size):=by
  have:=cZ (s.heap.push PySem.W.emptyDict) (o:=PySem.W.instObj C s.heap.objs.size) rfl;rwa [j7] at this
 have e3:(s.heap.push PySem.W.emptyDict).Ns s.heap.objs.size (λ_=>none):=⟨PySem.W.emptyDict,#[],_,e1,rfl,(λe he=>absurd he (by simp)),λ_=>rfl⟩;have I1:=I.laid (a:=s.heap.objs.size) (o:=.own (s.heap.objs.size+1)) (h':=s.heap.push PySem.W.emptyDict) (t':=s.toks) (λb u q=>bu _ q) (aH _) ⟨_,e1⟩;refine I1.laid (a:=s.heap.objs.size+1) (o:=.ins C s.heap.objs.size []) (t':=s.toks) (λb u q=>bu _ q) (Nat.le_of_eq (j7 _ _)) ?_;have ne:s.heap.objs.size≠s.heap.objs.size+1:=bw (ny _);refine⟨by rw [ai ne,ae],gI _,ne,e2,λ_=>none,(Heap.Ns1.of_empty e3).at λo q=>bu _ q,λ_=>True.intro,λy hy=>absurd rfl hy⟩
def CH {prog:Program}{w:World}{env:Env}{e:Expr}{f:Str}{pos:Pos}{s:Shared}{Q:Value->Shared->Prop}(hb:attributeBase e f env (eval e env)=eval e env)
  (h:wpAny (model prog w) A (eval e env) (λo s₁=>wpAny (model prog w) A (getAttr o f true) Q E s₁) E s):wpAny (model prog w) A (eval (.Attribute e f pos) env) Q E s :=
 Attribute_any_ h (by rw [arm_eval_Attribute,hb])
end
inductive So (K:aR)(H:Hp)(f:Str)(x:V)(R:V->Prop):Prop
|mk(a C dx:Addr)(fs:List (Str×V))(v:V)(e:x=.ref a)(h:H a=some (.ins C dx fs))(c:CY K C)(n:cM K C f)(l:fs.lookup f=some v)(q:R v)
inductive XSf (K:aR)(H:Hp)(f:Str)(x:V)(R:Addr->Addr->Addr->List (Str×V)->Prop):Prop
|mk(a C dx:Addr)(fs:List (Str×V))(e:x=.ref a)(h:H a=some (.ins C dx fs))(c:CY K C)(n:cM K C f)(l:fs.length < 1000)(q:R a C dx fs)
def US (K:aR)(ta:TE)(f:Str):TE:=λσ H Q=>ta σ H λx H1=>So K H1 f x λv=>Q v H1
def U3 (K:aR)(ta tv:TE)(f:Str):TS:=λD σ H=>tv σ H λy H1=>ta σ H1 λx H2=>XSf K H2 f x λa C dx fs=>D.nx σ (upd H2 a (.ins C dx (dS f y fs)))
section
variable {X:Cx}{o e value:Expr}{f:Str}{pos pos' wb:Pos}{ta tv:TE}
def eK (he:PE X e ta)(hb:attributeBase e f X.env (eval e X.env)=eval e X.env):PE X (.Attribute e f pos) (US X.K ta f):=by
 intro ag s σ H Q I h;refine CH hb (cK (he ag s σ H _ I h) λu s1 aS=>?_);obtain⟨x,H1,I1,rx,a,C,dx,fs,v,ex,ea,c,n,l,q⟩:=aS;subst ex;obtain rfl:u=Value.ref a:=rx;exact AZ I1 ea c n l λu' s2 I2 ru=>⟨v,H1,I2,ru,q⟩
def gy (ha:PE X o ta)(hv:PE X value tv)(hs:swapsWith value (some (.Attribute o f pos')) pos.line X.env=pure false):PS X (.Assign [.Attribute o f pos'] value pos) (U3 X.K ta tv f):=by
 intro ag s σ H D I h;refine plainObj_wpAny_Assign_Attribute (cK (hv ag s σ H _ I h) λu s1 aS=>?_) hs;obtain⟨y,H1,I1,ry,q⟩:=aS;refine cK (ha ag s1 σ H1 _ I1 q) λov s2 aS=>?_;obtain⟨x,H2,I2,rx,a,C,dx,fs,ex,ea,c,n,l,q2⟩:=aS;subst ex;obtain rfl:ov=Value.ref a:=rx;exact zV I2 ea c n l ry λs3 I3=>⟨σ,_,I3,q2⟩
def K3 {pl:Sem Bool}{m:Str}{apos:Pos}{args:List Expr}{ag:List (Addr×Obj)}{s:Shared}{σ:St}{H:Hp}{Q:Value->Shared->Prop}{te:TE}(he:PE X e te)(I:Inv X ag σ H s)
  (h:te σ H λx H1=>∃a C dx fs g,x=.ref a/\H1 a=some (.ins C dx fs)/\CY X.K C/\Meth X.K C m g/\fs.lookup m=none /\
   ∀s1,Inv X ag σ H1 s1->wpAny (model X.prog X.w) X.A (callWith pos (.ref g) [.ref a] (backTo pos (starEach args X.env)) (backToKw pos (keywordEach [] X.env))) Q X.xe s1)
  (ht:eval (.Call (.Attribute e m apos) args [] pos) X.env=(do
   let ov <-eval e X.env
   standAt apos.atName
   let (f,first) <-holding [ov] (getMethod ov m pl)
   callWith pos f first (backTo pos (starEach args X.env)) (backToKw pos (keywordEach [] X.env)))) :
  wpAny (model X.prog X.w) X.A (eval (.Call (.Attribute e m apos) args [] pos) X.env) Q X.xe s:=by
 refine PySem.W.methodCall_KW (pl:=pl) (cK (he ag s σ H _ I h) λu s1 aS=>?_) ht;obtain⟨x,H1,I1,rx,a,C,dx,fs,g,ex,ea,c,k,l,q⟩:=aS;subst ex;obtain rfl:u=Value.ref a:=rx;exact mX I1 ea c k l (q s1 I1)
end
section
variable {X:Cx}{ag:List (Addr×Obj)}{σ:St}{H:Hp}{s:Shared}{A:Around}{E:Value->Shared->Prop}{Q:Value->Shared->Prop}{c:Value}{b:Bool}
inductive tV (K:aR)(H:Hp):V->Value->Prop where
 | dG:tV K H .dG (.type "NoneType")
 | bl (x:Bool):tV K H (.bl x) (.type "bool")
 | int (i:Int):tV K H (.int i) (.type "int")
 | str (x:Str):tV K H (.str x) (.type "str")
 | NQ (x:UInt64):tV K H (.NQ x) (.type "float")
 | lst {a:Addr}{xs:List V}(e:H a=some (.lst xs)):tV K H (.ref a) (.type "list")
 | jR {a:Addr}{o:Obj}{xs:List V}(e:H a=some (.jR o (.lst xs))):tV K H (.ref a) (.type "list")
 | tup {a:Addr}{xs:List V}(e:H a=some (.tup xs)):tV K H (.ref a) (.type "tuple")
 | dK {a:Addr}{kvs:List (aK×V)}(e:H a=some (.dK kvs)):tV K H (.ref a) (.type "dict")
 | dT {a:Addr}{kvs:List (List aK×V)}(e:H a=some (.dT kvs)):tV K H (.ref a) (.type "dict")
 | ins {a C dx:Addr}{fs:List (Str×V)}(e:H a=some (.ins C dx fs))(cl:CY K C)(ha:PySem.W.findIn K (.ref C) "__class__"=some (some (.builtin "object.__class__")))
   (hn:PySem.W.specialIn K (.builtin "object.__class__") "__get__"=some (some (.builtin "getset_descriptor.__get__")))(htk:PySem.W.takesIn K (.builtin "object.__class__")=some true)
   (hm:PySem.W.mroIn K C (.type "object")=some true):tV K H (.ref a) (.ref C)
end
structure dD (k:Nat)(A:Around):Prop where
 hd:A.handled=none
 dp:A.depth+3 * k+5 < recursionLimit
 un:A.units+16 * k+200 < cLine
 gd:A.guards=some []
def dD.mono {j k:Nat}{A:Around}(r:dD k A)(h:j<=k):dD j A:=⟨r.hd,by have:=r.dp;omega,by have:=r.un;omega,r.gd⟩
theorem dD.deeper {k:Nat}{A:Around}(r:dD (k+1) A)(env:Env):dD k (A.deeper env) :=
 ⟨r.hd,by have:=r.dp;show A.depth+1+3 * k+5 < _;omega,by have:=r.un;show A.units+3+16 * k+200 < _;omega,r.gd⟩
theorem dD.in1 {k:Nat}{A:Around}(r:dD (k+1) A):dD k A.in1 :=
 ⟨r.hd,by have:=r.dp;show A.depth+3 * k+5 < _;omega,by have:=r.un;show A.units+1+16 * k+200 < _;omega,r.gd⟩
def AI {A:Around}{C:Addr}{us:List Value}{kw:List (Str×Value)}:(A.under (.builtin "type.__call__" ⟨.ref C::us,kw⟩)).depth=A.depth+1:=by
 first | rfl | simp [Around.under,Code.weight,Code.isCreation,Code.isGuard,Code.isCaller,Code.frames,Code.isFrame,guardIds]
def AH {A:Around}{C:Addr}{us:List Value}{kw:List (Str×Value)}:(A.under (.builtin "type.__call__" ⟨.ref C::us,kw⟩)).units=A.units+1:=by
 first | rfl | simp [Around.under,Code.cUnits,Code.frames,Code.isFrame]
def yH {A:Around}{C:Addr}{us:List Value}{kw:List (Str×Value)}:(A.under (.builtin "type.__call__" ⟨.ref C::us,kw⟩)).guards=A.guards:=by
 first | rfl | simp [Around.under,Code.guards,Code.isGuard,guardIds,pushGuards]
def dD.make {k:Nat}{A:Around}(r:dD (k+1) A)(C:Addr)(us:List Value)(kw:List (Str×Value)):dD k (A.under (.builtin "type.__call__" ⟨.ref C::us,kw⟩)) :=
 ⟨r.hd,by have:=r.dp;rw [AI];omega,by have:=r.un;rw [AH];omega,by rw [yH];exact r.gd⟩
theorem dD.depth {k:Nat}{A:Around}(r:dD k A):A.depth < recursionLimit:=by have:=r.dp;omega
theorem dD.units {k:Nat}{A:Around}(r:dD k A):A.units+64 < cLine:=by have:=r.un;omega
def rV:TA:=λ_ H Q=>Q [] H
def gw (ta:TE)(tr:TA):TA:=λσ H Q=>ta σ H λx H1=>tr σ H1 λxs H2=>Q (x::xs) H2
section
variable {X:Cx}{e:Expr}{es:List Expr}{te:TE}{t:TA}{pos:Pos}
def ak:PA X [] rV:=λ_ _ _ _ H Q I h=>Calls.spliced_nil ⟨[],H,I,.nil,h⟩
def af (ha:PE X e te)(hr:PA X es t)(hs:starEach (e::es) X.env=(false,eval e X.env)::starEach es X.env:=by rfl):PA X (e::es) (gw te t):=by
 intro pos ag s σ H Q I h;rw [hs];show wpAny _ _ (spliced ((false,eval e X.env)::backTo pos (starEach es X.env))) _ _ s;refine oZ (cK (ha ag s σ H _ I h) λu s1 aS=>?_);obtain⟨x,H1,I1,r1,q1⟩:=aS;refine cK (hr pos ag s1 σ H1 _ I1 q1) λus s2 aS=>?_;obtain⟨xs,H2,I2,r2,q2⟩:=aS;exact⟨x::xs,H2,I2,.cons r1 r2,q2⟩
def uc (t:TA):TE:=λσ H Q=>t σ H λxs H1=>xs.length<=sizeLine/\∀p,H1 p=none->Q (.ref p) (upd H1 p (.tup xs))
def Pn (t:TA):TE:=λσ H Q=>t σ H λxs H1=>xs.length<=sizeLine/\∀p,H1 p=none->Q (.ref p) (upd H1 p (.lst xs))
def bT {x1}(h:PA X es t):PE X (.Tuple es x1 pos) (uc t):=by
 intro ag s σ H Q I hq;refine wpAny_Tuple_spliced (cK (h pos ag s σ H _ I hq) λus s1 aS=>?_);obtain⟨xs,H1,I1,r,z,q⟩:=aS;refine⟨by rw [<-r.length];exact z,?_⟩;have hf:H1 s1.heap.objs.size=none:=I1.bF.fresh (aH _);refine⟨.ref s1.heap.objs.size,upd H1 s1.heap.objs.size (.tup xs),I1.laid (t':=s1.toks) (λb u e=>bu _ e) (aH _) ?_,rfl,q _ hf⟩;exact⟨z,us,r,⟨_,cZ _ rfl,rfl,_,rfl⟩⟩
def bU (h:PA X es t):PE X (.List es pos) (Pn t):=by
 intro ag s σ H Q I hq;refine wpAny_List_spliced (cK (h pos ag s σ H _ I hq) λus s1 aS=>?_);obtain⟨xs,H1,I1,r,z,q⟩:=aS;refine⟨by rw [<-r.length];exact z,?_⟩;have hf:H1 s1.heap.objs.size=none:=I1.bF.fresh (aH _);refine⟨.ref s1.heap.objs.size,upd H1 s1.heap.objs.size (.lst xs),I1.laid (t':=s1.toks) (λb u e=>bu _ e) (aH _) ?_,rfl,q _ hf⟩;exact⟨z,us,0,r,cZ _ rfl⟩
end
abbrev Sp:=List V->Hp->VK->XK->Prop
abbrev vA:=List Env->Hp->Shared->XK->Value->Shared->Prop
structure qB (P:Program)(w:World)(K:aR)(mg:Str->Option Value)(base:Heap)(A:Around)(outer:List Env)(s:Shared)(H:Hp):Prop where
 frames:A.frames=some outer
 mod:Mod K mg base
 bs:∀b o,base.get? b=some o->s.heap.get? b=some o/\H b=none
 HQ:base.objs.size<=s.heap.objs.size
 ow:s.heap.FunFrames base outer
 J_:∀b∈qx outer,H b=none
 bF:lJ P w H s.heap
 bare:AllBare s.gens
def CE (outer:List Env)(P:Program)(w:World)(H:Hp)(s:Shared)(Q:VK)(u:Value)(s':Shared):Prop :=
 ∃v H',s'.os=s.os/\AllBare s'.gens/\Un (qx outer) [] H H' s.heap s'.heap/\lJ P w H' s'.heap/\RelV v u/\Q v H'
def CR (CX:vA)(outer:List Env)(P:Program)(w:World)(H:Hp)(s:Shared)(Q:VK)(E:XK)(r:Result)(s':Shared):Prop :=
 match r with
 | .ok (.ret u)=>CE outer P w H s Q u s'
 | .ok _=>False
 | .error e=>CX outer H s E e s'
structure bh (P:Program)(w:World)(K:aR)(mg:Str->Option Value)(base:Heap)(CX:vA) (k:Nat)(f:Addr)(fd:FuncData) (ps:List Str)(sp:Sp):Prop where
 len:∀vs H Q E,sp vs H Q E->vs.length=ps.length
 run:∀(A:Around)(outer:List Env)(s:Shared)(H:Hp)(args:Args)(us:List Value)(vs:List V)(Q:VK)(E:XK),dD k A->qB P w K mg base A outer s H->BindsTo s fd args (ps.zip us)->aV vs us->sp vs H Q E ->
  codeAny (model P w) A (.call (.ref f) args) (CR CX outer P w H s Q E) s
theorem bh.mono {P:Program}{w:World}{K:aR}{mg:Str->Option Value}{base:Heap}{CX:vA}{j k:Nat}{f:Addr}{fd:FuncData}{ps:List Str}{sp:Sp}(F:bh P w K mg base CX j f fd ps sp)(h:j<=k) :
  bh P w K mg base CX k f fd ps sp:=⟨F.len,λA outer s H args us vs Q E hr=>F.run A outer s H args us vs Q E (hr.mono h)⟩
def bh.imp {P:Program}{w:World}{K:aR}{mg:Str->Option Value}{base:Heap}{CX:vA}{k:Nat}{f:Addr}{fd:FuncData}{ps:List Str}{sp PL:Sp}(F:bh P w K mg base CX k f fd ps sp)
  (h:∀vs H Q E,PL vs H Q E->sp vs H Q E):bh P w K mg base CX k f fd ps PL :=
 ⟨λvs H Q E q=>F.len vs H Q E (h _ _ _ _ q),λA outer s H args us vs Q E hr he hb hv hs=>F.run A outer s H args us vs Q E hr he hb hv (h _ _ _ _ hs)⟩
def qB.make {P:Program}{w:World}{K:aR}{mg:Str->Option Value}{base:Heap}{A:Around}{outer:List Env}{s:Shared}{H:Hp}(e:qB P w K mg base A outer s H)(C:Addr)(us:List Value)(kw:List (Str×Value)) :
  qB P w K mg base (A.under (.builtin "type.__call__" ⟨.ref C::us,kw⟩)) outer s H:=⟨by first | exact e.frames | (simpa [Around.under,Code.envs,Code.isFrame,pushEnvs] using e.frames),e.mod,e.bs,e.HQ,e.ow,e.J_,e.bF,e.bare⟩
theorem qB.in1 {P:Program}{w:World}{K:aR}{mg:Str->Option Value}{base:Heap}{A:Around}{outer:List Env}{s:Shared}{H:Hp}(e:qB P w K mg base A outer s H) :
  qB P w K mg base A.in1 outer s H:=⟨e.frames,e.mod,e.bs,e.HQ,e.ow,e.J_,e.bF,e.bare⟩
section
variable {X:Cx}{ag:List (Addr×Obj)}{σ:St}{H:Hp}{s s':Shared}
def Inv.HA (I:Inv X ag σ H s):qB X.prog X.w X.K X.mg X.base X.A X.stack s H :=
 ⟨I.ok.frames,I.ok.mod,I.bs,cQ I.ok.HQ I.sz,I.stack,I.qG,I.bF,I.bare⟩
def Inv.after {Q:VK}{u:Value}(I:Inv X ag σ H s)(h:CE X.stack X.prog X.w H s Q u s'):EP X ag σ Q u s':=by
 obtain⟨v,H',os,bare,un,bF,r,q⟩:=h;obtain⟨hh,g,d,t,os'⟩:=s';obtain rfl:os'=s.os:=os;exact⟨v,H',I.call (h':=hh) (g':=g) (d':=d) (t':=t) (ch:=[]) un bF bare (λb z=>absurd z (by simp)),r,q⟩
end
def Ff (sp:Sp)(dvs:List V)(E:XK)(t:TA):TE:=λσ H Q=>t σ H λvs H1=>sp (vs++dvs) H1 Q E
def Pk (C:Addr)(m:Str)(sp:Sp)(dvs:List V)(E:XK)(ta:TE)(t:TA):TE:=λσ H Q=>ta σ H λx H1=>∃a dx fs,x=.ref a/\H1 a=some (.ins C dx fs)/\fs.lookup m=none /\
 t σ H1 λvs H2=>sp (x::(vs++dvs)) H2 Q E
def Pm (C:Addr)(sp:Sp)(dvs:List V)(E:XK)(t:TA):TE:=λσ H Q=>t σ H λvs H1=>∀x dx,H1 x=none->H1 dx=none->dx≠x ->
 sp (.ref x::(vs++dvs)) (upd (upd H1 dx (.own x)) x (.ins C dx [])) (λv H2=>v=.dG/\Q (.ref x) H2) E
def Binds (K:aR)(fd:FuncData) (ps:List Str)(ds:List Value):Prop :=
 ∀(s:Shared)(us:List Value),K.In s.heap->(us++ds).length=ps.length->BindsTo s fd ⟨us,[]⟩ (ps.zip (us++ds))
def Binds.all {K:aR}{fd:FuncData}{ps:List Str}(h:∀us:List Value,us.length=ps.length->bindArgs fd ⟨us,[]⟩=pure (ps.zip us)):Binds K fd ps []:=λs us _ hl=>by
 rw [gJ] at hl ⊢;exact .of_eq (h us hl)
def Passes (CX:vA)(X:Cx)(E:XK):Prop:=∀(ag:List (Addr×Obj))(σ:St)(H:Hp)(s:Shared)(e:Value)(s':Shared),Inv X ag σ H s->CX X.stack H s E e s'->X.xe e s'
section
variable {X:Cx}{CX:vA}{k:Nat}{f C:Addr}{fd:FuncData}{ps:List Str}{sp:Sp}{dvs:List V}{ds:List Value}{E:XK}{x m:Str}{p pos apos:Pos}{e o:Expr}{es:List Expr}{ta:TE}{t:TA}
def Ah {ag:List (Addr×Obj)}{σ:St}{H:Hp}{s:Shared}{Q:VK}{us:List Value}{vs:List V}(F:bh X.prog X.w X.K X.mg X.base CX k f fd ps sp)(hr:dD k X.A)(hb:Binds X.K fd ps ds)(hd:aV dvs ds)(hx:Passes CX X E)
  (I:Inv X ag σ H s)(r:aV vs us)(h:sp (vs++dvs) H Q E):wpAny (model X.prog X.w) X.A (call (.ref f) us) (EP X ag σ Q) X.xe s:=by
 have r2:aV (vs++dvs) (us++ds):=r.append hd;have hl:(us++ds).length=ps.length:=by rw [<-r2.length];exact F.len _ _ _ _ h
 refine h_ (jq (F.run X.A X.stack s H ⟨us,[]⟩ (us++ds) (vs++dvs) Q E hr I.HA (hb s us I.jo hl) r2 h) λr s' hq=>?_);cases r with
 | error e=>exact hx ag σ H s e s' I hq
 | ok fl =>
  cases fl with
  | ret u=>exact I.after hq
  | next=>exact False.elim hq
  | brk=>exact False.elim hq
  | cont=>exact False.elim hq
def B7 (F:bh X.prog X.w X.K X.mg X.base CX k f fd ps sp)(hr:dD k X.A)(hg:Gl X x)(hm:X.mg x=some (.ref f))(hk:PySem.W.keepIn X.K (.ref f)=true)(hb:Binds X.K fd ps ds)(hd:aV dvs ds)(hx:Passes CX X E)
  (ha:PA X (e::es) t)(qr:(x == ("__debug__":Str))=false:=by decide)(he:starEach (e::es) X.env=(false,eval e X.env)::starEach es X.env:=by rfl)(l7:(backTo pos (starEach es X.env)).any (·.1)=false:=by rfl) :
  PE X (.Call (.Name x p) (e::es) [] pos) (Ff sp dvs E t):=by
 intro ag s σ H Q I h;refine lP (iN I hg hm ?_ qr);refine PySem.W.callWith_K (h₀:=X.base) I.ok.mod.MX hk (cK (ha pos ag s σ H _ I h) λus s1 aS=>?_) he l7;obtain⟨vs,H1,I1,r,q⟩:=aS;refine⟨I1.jo,?_⟩;exact Ah F hr hb hd hx I1 r q
def B4 {pl:Sem Bool}(he:PE X o ta)(c:CY X.K C)(hm:Meth X.K C m f)(F:bh X.prog X.w X.K X.mg X.base CX k f fd ps sp)(hr:dD k X.A)(hb:Binds X.K fd ps ds)(hd:aV dvs ds)(hx:Passes CX X E)(ha:PA X (e::es) t)
  (jF:starEach (e::es) X.env=(false,eval e X.env)::starEach es X.env:=by rfl)(l7:(backTo pos (starEach es X.env)).any (·.1)=false:=by rfl)
  (ht:eval (.Call (.Attribute o m apos) (e::es) [] pos) X.env=(do
   let ov <-eval o X.env
   standAt apos.atName
   let (f,first) <-holding [ov] (getMethod ov m pl)
   callWith pos f first (backTo pos (starEach (e::es) X.env)) (backToKw pos (keywordEach [] X.env))):=by rfl) :
  PE X (.Call (.Attribute o m apos) (e::es) [] pos) (Pk C m sp dvs E ta t):=by
 intro ag s σ H Q I h;refine PySem.W.methodCall_KW (pl:=pl) (cK (he ag s σ H _ I h) λu s1 aS=>?_) ht;obtain⟨x,H1,I1,rx,a,dx,fs,ex,ea,l,q⟩:=aS;subst ex;obtain rfl:u=Value.ref a:=rx;refine mX I1 ea c hm l ?_;refine PySem.W.callWith_K (first:=[.ref a]) (h₀:=X.base) I.ok.mod.MX hm.kp (cK (ha pos ag s1 σ H1 _ I1 q) λus s2 aS=>?_) jF l7;obtain⟨vs,H2,I2,r,q2⟩:=aS;refine⟨I2.jo,?_⟩;exact Ah (us:=.ref a::us) (vs:=.ref a::vs) F hr hb hd hx I2 (.cons rfl r) q2
structure Mk (K:aR)(C f:Addr):Prop where
 makes:PySem.W.makesIn K C=true
 init:PySem.W.findIn K (.ref C) "__init__"=some (some (.ref f))
 fn:PySem.W.isFn K (.ref f)=true
 kp:PySem.W.keepIn K (.ref C)=true
def FP {ag:List (Addr×Obj)}{σ:St}{H:Hp}{s:Shared}{Q:VK}{us:List Value}{vs:List V}(M:Mk X.K C f)(F:bh X.prog X.w X.K X.mg X.base CX k f fd ps sp)(hr:dD (k+1) X.A)(hb:Binds X.K fd ps ds)(hd:aV dvs ds)
  (hx:Passes CX X E)(I:Inv X ag σ H s)(r:aV vs us)
  (h:∀x dx,H x=none->H dx=none->dx≠x->sp (.ref x::(vs++dvs)) (upd (upd H dx (.own x)) x (.ins C dx [])) (λv H2=>v=.dG/\Q (.ref x) H2) E) :
  wpAny (model X.prog X.w) X.A (call (.ref C) us) (EP X ag σ Q) X.xe s:=by
 have hq:=h (s.heap.objs.size+1) s.heap.objs.size (I.bF.fresh (iG _)) (I.bF.fresh (aH _)) (bw (ny _));have I2:=Inv.made (C:=C) I;have r2:aV (V.ref (s.heap.objs.size+1)::(vs++dvs)) (Value.ref (s.heap.objs.size+1)::(us++ds)):=.cons rfl (r.append hd);have hl:(Value.ref (s.heap.objs.size+1)::us++ds).length=ps.length:=by
  have e:=r2.length;rw [F.len _ _ _ _ hq] at e;exact e.symm
 refine h_ (yG (f:=f) I.jo M.makes M.init (beq_iff_eq.mp M.fn) (jq (F.run _ X.stack _ _ ⟨Value.ref (s.heap.objs.size+1)::us,[]⟩ (Value.ref (s.heap.objs.size+1)::(us++ds)) _ _ E (hr.make C us [])
  (I2.HA.make C us []) (hb _ (Value.ref (s.heap.objs.size+1)::us) I2.jo hl) r2 hq) λr s' Q4=>?_))
 cases r with
 | error e=>exact hx ag σ _ _ e s' I2 Q4
 | ok fl =>
  cases fl with
  | ret u =>
   obtain⟨v,H',I3,rv,ev,q3⟩:=I2.after Q4;subst ev;exact⟨rv,⟨V.ref (s.heap.objs.size+1),H',I3,rfl,q3⟩⟩
  | next=>exact False.elim Q4
  | brk=>exact False.elim Q4
  | cont=>exact False.elim Q4
def B5 (M:Mk X.K C f)(F:bh X.prog X.w X.K X.mg X.base CX k f fd ps sp)(hr:dD (k+1) X.A)(hg:Gl X x)(hm:X.mg x=some (.ref C))(hb:Binds X.K fd ps ds)(hd:aV dvs ds)(hx:Passes CX X E)
  (ha:PA X (e::es) t)(qr:(x == ("__debug__":Str))=false:=by decide)(he:starEach (e::es) X.env=(false,eval e X.env)::starEach es X.env:=by rfl)(l7:(backTo pos (starEach es X.env)).any (·.1)=false:=by rfl) :
  PE X (.Call (.Name x p) (e::es) [] pos) (Pm C sp dvs E t):=by
 intro ag s σ H Q I h;refine lP (iN I hg hm ?_ qr);refine PySem.W.callWith_K (h₀:=X.base) I.ok.mod.MX M.kp (cK (ha pos ag s σ H _ I h) λus s1 aS=>?_) he l7;obtain⟨vs,H1,I1,r,q⟩:=aS;refine⟨I1.jo,?_⟩;exact FP M F hr hb hd hx I1 r q
end
section
variable {X:Cx}{CX:vA}{k:Nat}{f C:Addr}{fd:FuncData}{ps ks:List Str}{sp:Sp}{E:XK}{x m:Str}{p pos apos aaf:Pos}{e o:Expr}{es:List Expr}{kws:List Keyword}{te ta:TE}{t tk:TA}{nm:Option Str}
structure YI (K:aR)(fd:FuncData) (ps ks:List Str)(g:List Value->List Value->List Value)(gV:List V->List V->List V):Prop where
 to:∀(s:Shared)(us ws:List Value),K.In s.heap->(g us ws).length=ps.length->BindsTo s fd ⟨us,ks.zip ws⟩ (ps.zip (g us ws))
 rel:∀{vs:List V}{us:List Value}{zs:List V}{ws:List Value},aV vs us->aV zs ws->aV (gV vs zs) (g us ws)
variable {g:List Value->List Value->List Value}{gV:List V->List V->List V}
end
structure aJ (N P:List Str)(sc:Scope):Prop where
 kind:sc.kind=.function
 co:sc.isCoroutine=false
 gen:sc.isGenerator=false
 nd:N.Nodup
 pre:N.take P.length=P
 par:∀x∈P,sc.names.lookup x=some .local\/sc.names.lookup x=some .cell
 MJ:∀y∈sc.names,y.2≠.free
def iP {N P:List Str}{sc:Scope}(a:sc.kind=.function)(b:sc.isCoroutine=false)(c:sc.isGenerator=false)(d:N.take P.length=P)(e:N.Nodup/\(∀x∈P,sc.names.lookup x=some .local\/sc.names.lookup x=some .cell)/\∀y∈sc.names,y.2≠.free):aJ N P sc:=⟨a,b,c,e.1,d,e.2.1,e.2.2⟩
theorem vo {kindOf:Str->Option NameKind}{x:Str}:∀{binds:List (Str×Value)}{m:Str->Option Value},(∀v,(x,v)∉binds)->bindL kindOf binds m x=m x
 | [],_,_=>rfl
 | (n,v)::r,m,h=>by
  unfold bindL;rw [vo λw hw=>h w (bS _ hw)]
  split
  .have:x≠n:=by rintro rfl;exact h v bO
   simp [this]
  rfl
theorem vq {kindOf:Str->Option NameKind}{x:Str}:∀{binds:List (Str×Value)}{m:Str->Option Value},(∀v,(x,v)∉binds)->bindC kindOf binds m x=m x
 | [],_,_=>rfl
 | (n,v)::r,m,h=>by
  unfold bindC;rw [vq λw hw=>h w (bS _ hw)]
  split
  .rfl
  have:x≠n:=by rintro rfl;exact h v bO
  simp [this]
theorem vp {kindOf:Str->Option NameKind}{x:Str}{v:Value}:∀{P:List Str}{vs:List Value}{i:Nat}{m:Str->Option Value},P.Nodup->P[i]?=some x->vs[i]?=some v->kindOf x=some .local ->
  bindL kindOf (P.zip vs) m x=some v
 | [],_,_,_,_,h,_,_=>by simp at h
 | _::_,[],_,_,_,_,h,_=>by simp at h
 | p::P,w::vs,0,m,nd,h1,h2,hk=>by
  simp at h1 h2;subst h1;subst h2;show bindL kindOf ((p,w)::P.zip vs) m p=_;unfold bindL;rw [vo λv hv=>(jV.mp nd).1 (List.of_mem_zip hv).1,az hk];simp
 | p::P,w::vs,i+1,m,nd,h1,h2,hk=>by
  show bindL kindOf ((p,w)::P.zip vs) m x=_;unfold bindL;exact vp (i:=i) (jV.mp nd).2 (by simpa using h1) (by simpa using h2) hk
theorem vv {kindOf:Str->Option NameKind}{x:Str}{v:Value}:∀{P:List Str}{vs:List Value}{i:Nat}{m:Str->Option Value},P.Nodup->P[i]?=some x->vs[i]?=some v->kindOf x≠some .local ->
  bindC kindOf (P.zip vs) m x=some v
 | [],_,_,_,_,h,_,_=>by simp at h
 | _::_,[],_,_,_,_,h,_=>by simp at h
 | p::P,w::vs,0,m,nd,h1,h2,hk=>by
  simp at h1 h2;subst h1;subst h2;show bindC kindOf ((p,w)::P.zip vs) m p=_;unfold bindC;rw [vq λv hv=>(jV.mp nd).1 (List.of_mem_zip hv).1,aA hk];simp
 | p::P,w::vs,i+1,m,nd,h1,h2,hk=>by
  show bindC kindOf ((p,w)::P.zip vs) m x=_;unfold bindC;exact vv (i:=i) (jV.mp nd).2 (by simpa using h1) (by simpa using h2) hk
def start (N:List Str)(vs:List V):St:=vs.map some++List.replicate (N.length - vs.length) none
def dM (CX:vA)(P:Program)(w:World)(K:aR)(mg:Str->Option Value)(base:Heap) (N:List Str)(qual:Str)(scope:Scope)(f:Addr)(cd:Value)(A:Around)(outer:List Env)(s:Shared)(H:Hp)(E:XK):Cx where
 prog:=P
 w:=w
 K:=K
 mg:=mg
 base:=base
 A:=A.deeper (envOfC qual scope s.heap.objs.size f cd)
 N:=N
 s₀:=s
 H₀:=H
 env:=envOfC qual scope s.heap.objs.size f cd
 outer:=outer
 stack:=envOfC qual scope s.heap.objs.size f cd::outer
 ex:=[]
 calm:=true
 fn:=λ_=>true
 pn:=[]
 xe:=λe s'=>wpAny (model P w) (A.deeper (envOfC qual scope s.heap.objs.size f cd)) (leaving (envOfC qual scope s.heap.objs.size f cd) e) (λ_ FO=>CX outer H s E e FO) (λe' FO=>CX outer H s E e' FO) s'
def zo {sc:Scope}{n:Nat}{x:Str}(h:sc.names.lookup x=some .cell):∃c,(cellsFrom n sc.names []).lookup x=some c:=by
 have q:=PySem.W.cellsFrom_some sc.names n [] (.inl h);exact jY.mp q
def uY {CX:vA}{P:Program}{w:World}{K:aR}{mg:Str->Option Value}{base:Heap}{N ps:List Str}{qual:Str}{scope:Scope}{f:Addr}{cd:Value}{A:Around}{outer:List Env}{s s1:Shared}{H:Hp}{E:XK}{us:List Value}{vs:List V}
  (S:aJ N ps scope)(hd:A.handled=none)(e0:qB P w K mg base A outer s H)(hl:vs.length=ps.length)(r:aV vs us)
  (x:InCallC s s.heap.objs.size (bindL (envOfC qual scope s.heap.objs.size f cd).kindOf (ps.zip us) λ_=>none) (cellsFrom (s.heap.objs.size+1) scope.names []) (bindC (envOfC qual scope s.heap.objs.size f cd).kindOf (ps.zip us) λ_=>none) s1) :
  Inv (dM CX P w K mg base N qual scope f cd A outer s H E) [] (start N vs) H s1:=by
 have l7:ps.length<=N.length:=by have:=congrArg List.length S.pre;rw [dA] at this;omega
 obtain⟨h1,tk,rfl,hk⟩:=x.done;have Qi:∀b:Addr,b∉(dM CX P w K mg base N qual scope f cd A outer s H E).ex:=λb z=>absurd (show b∈([]:List Addr) from z) (by simp);refine⟨⟨e0.mod,S.kind,rfl,rfl,aH _,λy z c h1 h2=>?_,λy hy=>?_,λy c _ h=>?_,λ_=>hd,Around.frames_deeper e0.frames,.inr ⟨rfl,rfl⟩,λb z=>absurd z (Qi b),e0.bs,e0.HQ,λb _ _=>Qi b,λb z=>absurd z (Qi b),e0.ow,e0.J_⟩,
  rfl,e0.bare,Un.kept hk,⟨_,x.toInCall.ns,λi y v h1 h2 h3=>?_⟩,λy c h=>⟨_,x.cell y c h⟩,e0.bF.fresh (aH _),λy c h=>?_,λp hp=>absurd (show p∈([]:List (Addr×Obj)) from hp) (by simp),e0.bF.kept hk,?_⟩
 .exact name_of_addr x.apart (rJ h1) (rJ h2)
 .have hy:scope.names.lookup y=some .cell\/scope.names.lookup y=some .free:=hy;rcases hy with hy | hy
  .exact zo hy
  exact absurd rfl (S.MJ _ (rJ hy))
 .exact j5 (x.above y c (rJ h))
 .have hi:i < vs.length:=by
   unfold start at h2;by_cases hi:i < vs.length
   .exact hi
   rw [pY (by simpa using hi)] at h2;rw [List.getElem?_replicate] at h2
   split at h2 <;> cases h2
  have ha:vs[i]?=some v:=by
   unfold start at h2;rw [jZ (by simpa using hi),bq] at h2;cases e:vs[i]? with
   | none=>rw [e] at h2;cases h2
   | some a=>rw [e] at h2;cases h2;rfl
  obtain⟨u,hu,rv⟩:=r.get ha;have hp:ps[i]?=some y:=by
   rw [<-S.pre,pX ∅];exact h1
  have Zr:ps.Nodup:=by rw [<-S.pre];exact S.nd.sublist (List.take_sublist _ _)
  refine⟨u,rv,?_⟩;rcases S.par y (cD hp) with k | k
  .exact .inl ⟨k,vp Zr hp hu k⟩
  obtain⟨c,e⟩:=zo (n:=s.heap.objs.size+1) k;refine .inr ⟨.inl k,c,e,?_⟩;have q:=x.cell y c e;rw [vv Zr hp hu (by show scope.names.lookup y≠_;rw [k];decide)] at q;exact q
 .exact e0.bF.fresh (j5 (x.above y c (rJ h)))
 unfold start;show _=N.length;rw [cu,aB,List.length_replicate];omega
def yS {CX:vA}{P:Program}{w:World}{K:aR}{mg:Str->Option Value}{base:Heap}{k:Nat}{f:Addr}{name qual:Str}{params:Arguments}{body:List Stmt}{scope:Scope}{dV kV doc pm dN ct oc:Value}{an od:Option Addr}
  {wN:Array (Option Value)}{N ps:List Str}{sp:Sp}(lk:K.lookup f=some ⟨oc,od,.func (PySem.W.fnOf name qual params body scope dV kV doc pm an dN ct),wN⟩)(sZ:PySem.W.codeIn K dN qual=true)(S:aJ N ps scope)
  (len:∀vs H Q E,sp vs H Q E->vs.length=ps.length)
  (g6:∀(A:Around)(outer:List Env)(s:Shared)(H:Hp)(vs:List V)(Q:VK)(E:XK),dD k (A.deeper (envOfC qual scope s.heap.objs.size f dN))->sp vs H Q E ->
   ∃t,xP (dM CX P w K mg base N qual scope f dN A outer s H E) body t/\t { nx:=λ_ H'=>Q .dG H',rt:=Q } (start N vs) H) :
  bh P w K mg base CX (k+1) f (PySem.W.fnOf name qual params body scope dV kV doc pm an dN ct) ps sp:=by
 refine⟨len,λA outer s H args us vs Q E hr e0 hb r u6=>?_⟩;have hl:=len _ _ _ _ u6;have KX:K.In s.heap:=e0.mod.MX.keeps λb o e=>(e0.bs b o e).1;have lim:s.heap.NoLimit:=e0.mod.nolimit.keeps λb o e=>(e0.bs b o e).1;have jf:∀y∈ps.zip us,scope.names.lookup y.1=some .local\/(scope.names.lookup y.1=some .cell/\((cellsFrom (s.heap.objs.size+1) scope.names []).lookup y.1).isSome=true):=λ⟨n,v⟩ hy=>by
  rcases S.par n (List.of_mem_zip hy).1 with q | q
  .exact .inl q
  exact .inr ⟨q,PySem.W.cellsFrom_some _ _ _ (.inl q)⟩
 refine codeAny_call_function hr.depth (KX _ _ lk) rfl S.co S.gen rfl (PySem.W.codeRec_of KX sZ) (hb _ _ _ _ ?_);refine wpAny_newFunctionEnv_cells S.kind jf λenv he s1 x=>?_;subst he;refine⟨lim.keeps x.toInCall.keep,codeAny_func ?_⟩;obtain⟨t,ht,hq⟩:=g6 A outer s H vs Q E (hr.deeper _) u6;have I:Inv (dM CX P w K mg base N qual scope f dN A outer s H E) [] (start N vs) H s1:=uY S hr.hd e0 hl r x;refine cv (ht [] s1 (start N vs) H _ I hq) (λfl s' hs=>?_) λe s' hs=>hs;have fin:∀{σ':St}{H':Hp}{v:V}{u:Value},Inv (dM CX P w K mg base N qual scope f dN A outer s H E) [] σ' H' s'->RelV v u->Q v H'->CE outer P w H s Q u s' :=
  λ{σ' H' v u} J rv q=>⟨v,H',J.os,J.bare,J.base,J.bF,rv,q⟩
 cases fl with
 | ret u =>
  obtain⟨v,σ',H',J,rv,q⟩:=hs;exact fin J rv q
 | next =>
  obtain⟨σ',H',J,q⟩:=hs;exact fin (v:=V.dG) (u:=Value.none) J rfl q
 | brk =>
  obtain⟨_,_,_,q⟩:=hs;exact False.elim q
 | cont =>
  obtain⟨_,_,_,q⟩:=hs;exact False.elim q
section
variable {X:Cx}{x:Str}{p pos:Pos}{e:Expr}{es:List Expr}{t:TA}{id T:String}{r:List V->Hp->VK->Prop}
def Y3 (r:List V->Hp->VK->Prop)(t:TA):TE:=λσ H Q=>t σ H λvs H1=>r vs H1 Q
def a9 (hc:fZ X (.builtin id) r)(hg:Gl X x)(hm:X.mg x=none)(hv:bootBuiltins x=some (.builtin id))(ha:PA X (e::es) t)(hn:x ≠ "__name__" := by decide)(qr:(x == ("__debug__":Str))=false:=by decide)
  (he:starEach (e::es) X.env=(false,eval e X.env)::starEach es X.env:=by rfl)(l7:(backTo pos (starEach es X.env)).any (·.1)=false:=by rfl):PE X (.Call (.Name x p) (e::es) [] pos) (Y3 r t):=by
 intro ag s σ H Q I h;refine lP (jE I hg hm hv ?_ hn qr);refine PyProof.Rows.callWith_builtin1 (cK (ha pos ag s σ H _ I h) λus s1 aS=>?_) he l7;obtain⟨vs,H1,I1,r1,q1⟩:=aS;exact hc ag s1 σ H1 vs us Q I1 r1 q1
def aX (hc:fZ X (.type T) r)(hg:Gl X x)(hm:X.mg x=none)(hv:bootBuiltins x=some (.type T))(ha:PA X (e::es) t)(hn:x ≠ "__name__" := by decide)(qr:(x == ("__debug__":Str))=false:=by decide)
  (he:starEach (e::es) X.env=(false,eval e X.env)::starEach es X.env:=by rfl)(l7:(backTo pos (starEach es X.env)).any (·.1)=false:=by rfl):PE X (.Call (.Name x p) (e::es) [] pos) (Y3 r t):=by
 intro ag s σ H Q I h;refine lP (jE I hg hm hv ?_ hn qr);refine v9 (cK (ha pos ag s σ H _ I h) λus s1 aS=>?_) he l7;obtain⟨vs,H1,I1,r1,q1⟩:=aS;exact hc ag s1 σ H1 vs us Q I1 r1 q1
end
end L2
namespace HT
open PySem PyProof.Rows
section
variable {prog:Program}{w:World}{A:Around}{E:Value->Shared->Prop}{s:Shared}
def Kn {t b:Addr}{vs ws:List Value}{Q:Value->Shared->Prop}(ht:IsTup s.heap t vs.toArray)(hb:IsTup s.heap b ws.toArray)(hv:vs≠[])
  (h1:ws=[]->Q (.ref t) s)(h2:ws≠[]->Q (.ref s.heap.objs.size) { s with heap:=s.heap.push { cls:=.type "tuple",data:=.seq (vs++ws).toArray } })
  (hsz:vs.length+ws.length<=sizeLine):wpAny (model prog w) A (binaryOp .Add (.ref t) (.ref b)) Q E s:=by
 obtain⟨⟨cls,dd,data,sl⟩,ho,hc,n,hd⟩:=id ht;obtain⟨⟨X5,OZ,data2,Ta⟩,Iz,xb,n2,hd2⟩:=id hb;simp only at hc hd xb hd2;subst hc hd xb hd2;have e:vs.toArray++ws.toArray=(vs++ws).toArray:=by simp
 by_cases hw:ws=[]
 .exact concat_meets ⟨_,ho,rfl⟩ ⟨_,Iz,rfl⟩ noFill_tuple_add seq_tuple_add zJ zK (zN _ _)
   (tuple_addW1 t b vs.toArray ws.toArray n n2 dd OZ sl Ta (by simpa using hv) (by simp [hw])) ⟨ho,Iz,h1 hw⟩
 refine concat_meets ⟨_,ho,rfl⟩ ⟨_,Iz,rfl⟩ noFill_tuple_add seq_tuple_add zJ zK (zN _ _)
  (tuple_addW2 t b vs.toArray ws.toArray n n2 dd OZ sl Ta (by simpa using hv) (by simpa using hw) (by rw [bJ,bJ];exact hsz)) ⟨ho,Iz,?_⟩
 rw [e];exact h2 hw
def dZ (n d:Nat):Option Int->Nat
 | none=>d
 | some v=>if v < 0 then (v+(n:Int)).toNat else min v.toNat n
def yd (n d:Nat):dZ n d none=d:=rfl
def kX (n d k:Nat):dZ n d (some (k:Int))=min k n:=by
 show (if (k:Int) < 0 then ((k:Int)+(n:Int)).toNat else min (k:Int).toNat n)=min k n;rw [aA ∅,pQ]
def Mm (n d:Nat)(hd:d<=n)(o:Option Int):dZ n d o<=n:=by
 cases o with
 | none=>exact hd
 | some v =>
  show (if v < 0 then (v+(n:Int)).toNat else min v.toNat n)<=n;by_cases hv:v < 0
  .rw [az hv];omega
  rw [aA hv];exact Nat.min_le_right _ _
def CC (v:Int) (n d:Nat):(if v < 0 then max (v+(n:Int)) 0 else min v (n:Int))=((dZ n d (some v):Nat):Int):=by
 show (if v < 0 then max (v+(n:Int)) 0 else min v (n:Int))=(((if v < 0 then (v+(n:Int)).toNat else min v.toNat n):Nat):Int);by_cases hv:v < 0
 .simp only [az hv];omega
 simp only [aA hv];omega
def Bf (lo hi:Option Int) (n:Nat):Builtin.Slice.sliceAdjust lo hi 1 (n:Int)=(((dZ n 0 lo:Nat):Int),((dZ n n hi:Nat):Int)):=by
 have h1:¬((1:Int) < 0):=by omega
 unfold Builtin.Slice.sliceAdjust;simp only [h1,if_false];refine Prod.ext ?_ ?_
 .cases lo with
  | none=>rfl
  | some v=>exact CC v n 0
 cases hi with
 | none=>rfl
 | some v=>exact CC v n n
def An (i j:Nat):Builtin.Slice.slicePlaces (i:Int) (j:Int) 1=j - i:=by
 unfold Builtin.Slice.slicePlaces;have h1:(1:Int) > 0:=by omega
 simp only [h1,if_true,Int.ediv_one]
 split <;> omega
def sg {v:Value}{o:Option Int}{Q:Option Int->Shared->Prop}(p:IsPart v o)(h:Q o s):wpAny (model prog w) A (Builtin.Slice.slicePartIndex v) Q E s:=by
 cases p with
 | none=>exact slicePart_none h
 | int i t=>exact slicePart_int h
def jb {sl:Addr}{vl vu:Value}{lo hi:Option Int}{n:Nat}{Q:Int×Int×Nat->Shared->Prop}(hs:s.heap.IsSliceOf sl vl vu .none)(pl:IsPart vl lo)(pu:IsPart vu hi)
  (h:Q (((dZ n 0 lo:Nat):Int),1,dZ n n hi - dZ n 0 lo) s):wpAny (model prog w) A (Builtin.Slice.sliceApplied (.ref sl) (pure (n:Int))) Q E s:=by
 obtain⟨os,Ng,Lf,IB⟩:=id hs;unfold Builtin.Slice.sliceApplied Builtin.Slice.sliceFields;refine ax (ax (gH Ng IB (x:=vl) rfl (ax (gH Ng IB (x:=vu) rfl (ax (gH Ng IB (x:=.none) rfl (aI ?_)))))));refine ax (slicePart_none ?_);show wpAny _ _ (if ((1:Int) == 0)=true then _ else _) _ _ s;rw [aA nofun];refine ax (sg pl (ax (sg pu (ax (aI ?_)))));show wpAny _ _ (match Builtin.Slice.sliceAdjust lo hi 1 (n:Int) with | (lo,hi)=>pure (lo,(1:Int),Builtin.Slice.slicePlaces lo hi 1)) _ _ s
 rw [Bf lo hi n];show wpAny _ _ (pure (((dZ n 0 lo:Nat):Int),(1:Int),Builtin.Slice.slicePlaces ((dZ n 0 lo:Nat):Int) ((dZ n n hi:Nat):Int) 1)) _ _ s;rw [An];exact aI h
def F7 (xs:Array Value) (i k:Nat):((List.range k).filterMap λ(m:Nat)=>xs[((i:Int)+(m:Int) * 1).toNat]?).toArray=((xs.toList.drop i).take k).toArray:=by
 have e:(λ(m:Nat)=>xs[((i:Int)+(m:Int) * 1).toNat]?)=λm=>xs[i+m]?:=by
  funext m
  have:((i:Int)+(m:Int) * 1).toNat=i+m:=by omega
  rw [this]
 rw [e];have:=pick_run xs i k;rw [List.filterMap_map] at this;have e2:((λx=>xs[x]?) ∘ λx=>i+x)=λm=>xs[i+m]?:=rfl;rw [e2] at this;rw [this]
def oq {t sl:Addr}{items:Array Value}{vl vu:Value}{lo hi:Option Int}{Q:Value->Shared->Prop}(ht:IsTup s.heap t items)(hs:s.heap.IsSliceOf sl vl vu .none)(pl:IsPart vl lo)(pu:IsPart vu hi)
  (hw:¬(dZ items.size 0 lo=0/\dZ items.size items.size hi=items.size))
  (h:Q (.ref s.heap.objs.size) { s with heap:=s.heap.push { cls:=.type "tuple",data:=.seq ((items.toList.drop (dZ items.size 0 lo)).take (dZ items.size items.size hi - dZ items.size 0 lo)).toArray } })
  (hsz:items.size<=sizeLine):wpAny (model prog w) A (getItem (.ref t) (.ref sl)) Q E s:=by
 have Cj:sizeOk (.seq ((items.toList.drop (dZ items.size 0 lo)).take (dZ items.size items.size hi - dZ items.size 0 lo)).toArray):=by
  show ((items.toList.drop (dZ items.size 0 lo)).take (dZ items.size items.size hi - dZ items.size 0 lo)).toArray.size<=sizeLine;rw [bJ,dA,nv,vL];omega
 have hj:dZ items.size items.size hi<=items.size:=Mm _ _ (aH _) hi;obtain⟨os,Ng,Lf,IB⟩:=id hs;have W9:s.TypeIs (.ref sl) "slice" := ⟨os,Ng,Lf⟩;unfold getItem
 try with_reducible refine gi ?_
 first | refine ax (aI ?_) | skip
 refine ax (wpAny_sequenceKey ht.typeIs nofun ?_);refine ax (ur (name:=Str.ofString "__getitem__") ht.typeIs ux
  (oV ux ht.typeIs entry_tuple_getitem ?_ (args_tuple_getitem _ _)))
 show wpAny _ _ (Builtin.Tuple.tupleItemsOf (.ref t) >>= _) _ _ s;refine ax (tupleItemsOf_ ht ?_);refine ax (iR W9 ?_);rw [az nofun];refine ax (jb hs pl pu ?_);have hno:¬((((dZ items.size 0 lo:Nat):Int) == 0 && (1:Int) == 1 && (dZ items.size items.size hi - dZ items.size 0 lo) == items.size)=true):=by
  intro q;rw [iH,iH] at q;have q1:((dZ items.size 0 lo:Nat):Int)=0:=eq_of_beq q.1.1;have q2:dZ items.size items.size hi - dZ items.size 0 lo=items.size:=eq_of_beq q.2;exact hw ⟨∅,∅⟩
 show wpAny _ _ (if (((dZ items.size 0 lo:Nat):Int) == 0 && (1:Int) == 1 && (dZ items.size items.size hi - dZ items.size 0 lo) == items.size)=true then _ else _) _ _ s;rw [aA hno,F7]
 first
  | exact ax (m:=Builtin.Tuple.tupleExact _) (jW (aI ⟨_,rfl,aI h⟩) Cj)
  | exact ax (m:=Builtin.Tuple.tupleExact _) (jW (ax (aI (aI ⟨_,rfl,aI h⟩))) Cj)
  | exact ax (ax (m:=Builtin.Tuple.tupleExact _) (jW (aI (aI ⟨_,rfl,aI h⟩)) Cj))
  | exact ax (ax (m:=Builtin.Tuple.tupleExact _) (jW (aI ⟨_,rfl,aI h⟩) Cj))
end
end HT
namespace L2
open PySem PySem.Spec PyProof.Rows
abbrev TO:=St->Hp->(Option Int->Hp->Prop)->Prop
def PO (X:Cx)(e:Option Expr)(t:TO):Prop :=
 ∀(ag:List (Addr×Obj))(s:Shared)(σ:St)(H:Hp)(Q:Option Int->Hp->Prop),Inv X ag σ H s->t σ H Q ->
  wpAny (model X.prog X.w) X.A (evalPart e X.env) (λu s'=>∃o H',Inv X ag σ H' s'/\IsPart u o/\Q o H') X.xe s
def IU:TO:=λ_ H Q=>Q none H
def Pe (t:TE):TO:=λσ H Q=>t σ H λx H1=>Yx x λi=>Q (some i) H1
def intsAre_of {ns:List Int}:∀{us:List Value},aV (ns.map V.int) us->IntsAre us ns:=by
 induction ns with
 | nil=>intro us r;rw [j4] at r;cases r;exact .nil
 | cons n ns ih =>
  intro us r;rw [bL] at r;cases r with
  | cons r1 r2 =>
   obtain⟨t,e⟩:=r1;subst e;exact .cons n t (ih r2)
section
variable {X:Cx}{e:Expr}{te:TE}{lo hi:Option Expr}{tl th:TO}{pos p2:Pos}
def jy:PO X none IU:=by
 intro ag s σ H Q I h;rw [evalPart_none];exact aI ⟨none,H,I,.none,h⟩
def d6 (h:PE X e te):PO X (some e) (Pe te):=by
 intro ag s σ H Q I hw;rw [evalPart_some];refine cK (h ag s σ H _ I hw) λu s1 aS=>?_;obtain⟨x,H1,I1,r1,q1⟩:=aS;obtain⟨i,rfl,q⟩:=q1;obtain⟨t,rfl⟩:=r1;exact⟨some i,H1,I1,.int i t,q⟩
def Ku (X:Cx)(r:V->Option Int->Option Int->Hp->VK->Prop):Prop :=
 ∀(ag:List (Addr×Obj))(s:Shared)(σ:St)(H:Hp)(x:V)(v vl vu:Value)(lo hi:Option Int)(sl:Addr)(Q:VK),Inv X ag σ H s->RelV x v->s.heap.IsSliceOf sl vl vu .none->IsPart vl lo->IsPart vu hi->r x lo hi H Q ->
  ∃T id,typeLookup (.type T) "__getitem__"=pure (some (.builtin id))/\s.TypeIs v T/\wpAny (model X.prog X.w) X.A (getItem v (.ref sl)) (EP X ag σ Q) X.xe s
def Ku.or {r r':V->Option Int->Option Int->Hp->VK->Prop}(h:Ku X r)(h':Ku X r'):Ku X (λx lo hi H Q=>r x lo hi H Q\/r' x lo hi H Q):=by
 intro ag s σ H x v vl vu lo hi sl Q I rx hs pl pu q;rcases q with q | q
 .exact h ag s σ H x v vl vu lo hi sl Q I rx hs pl pu q
 exact h' ag s σ H x v vl vu lo hi sl Q I rx hs pl pu q
def tSl (r:V->Option Int->Option Int->Hp->VK->Prop)(te:TE)(tl th:TO):TE:=λσ H Q=>te σ H λx H1=>tl σ H1 λl H2=>th σ H2 λu H3=>r x l u H3 Q
def ff {r:V->Option Int->Option Int->Hp->VK->Prop}(hr:Ku X r)(he:PE X e te)(hl:PO X lo tl)(hu:PO X hi th):PE X (.Subscript e (.Slice lo hi none p2) pos) (tSl r te tl th):=by
 intro ag s σ H Q I h;refine Subscript_ (cK (he ag s σ H _ I h) λv s1 aS=>?_);obtain⟨x,H1,I1,r1,q1⟩:=aS;refine wpAny_Slice (cK (hl ag s1 σ H1 _ I1 q1) λvl s2 aS=>?_);obtain⟨l,H2,I2,pl,q2⟩:=aS;refine cK (hu ag s2 σ H2 _ I2 q2) λvu s3 aS=>?_;obtain⟨u,H3,I3,pu,q3⟩:=aS;rw [evalPart_none];refine aI ?_;have I4:Inv X ag σ H3 { s3 with heap:=s3.heap.push { cls:=.type "slice",data:=.fields #[vl,vu,.none] } }:=I3.kept (t':=s3.toks) λb ob q=>bu _ q;obtain⟨T,id,hT,ht,hg⟩:=hr ag { s3 with heap:=s3.heap.push { cls:=.type "slice",data:=.fields #[vl,vu,.none] } } σ H3 x v vl vu l u s3.heap.objs.size Q I4 r1 (Heap.IsSliceOf.new ..) pl pu q3;show wpAny (model X.prog X.w) X.A (subscriptTail e (.Slice lo hi none p2) v (.ref s3.heap.objs.size)) (EP X ag σ Q) X.xe { s3 with heap:=s3.heap.push { cls:=.type "slice",data:=.fields #[vl,vu,.none] } };exact tail_any (ops:=[.ref s3.heap.objs.size,v]) ht hT hg (by with_unfolding_all rfl)
def hJ (xs:List V)(lo hi:Option Int):List V:=(xs.drop (HT.dZ xs.length 0 lo)).take (HT.dZ xs.length xs.length hi - HT.dZ xs.length 0 lo)
def qe (xs:List V)(lo hi:Option Int):(hJ xs lo hi).length<=xs.length:=by
 unfold hJ;rw [dA,nv];omega
def Va (K:aR):V->Option Int->Option Int->Hp->VK->Prop:=λx lo hi H Q=>∃a xs,x=.ref a/\bf K H a xs /\
 ¬(HT.dZ xs.length 0 lo=0/\HT.dZ xs.length xs.length hi=xs.length)/\∀p,H p=none->Q (.ref p) (upd H p (.tup (hJ xs lo hi)))
def Md:Ku X (Va X.K):=by
 intro ag s σ H x v vl vu lo hi sl Q I rx hs pl pu h;obtain⟨a,xs,rfl,hx,hw,q⟩:=h;cases rx;obtain⟨aN,r,ht,hz⟩:=I.tuple hx;have a8:aN.toArray.size=xs.length:=by rw [bJ];exact r.length.symm
 refine⟨"tuple",_,ux.lookup,ht.typeIs,?_⟩;refine HT.oq ht hs pl pu (by rw [a8];exact hw) ?_ (by rw [a8];exact hz);rw [a8];refine⟨.ref s.heap.objs.size,_,I.laid (t':=s.toks) (o:=.tup (hJ xs lo hi)) (λb ob q=>bu _ q) (aH _) ?_,rfl,q _ (I.bF.fresh (aH _))⟩;exact⟨cQ (qe xs lo hi) hz,_,(r.drop (HT.dZ xs.length 0 lo)).take (HT.dZ xs.length xs.length hi - HT.dZ xs.length 0 lo),IsTup.new _ _⟩
def P6 (K:aR):R2:=λx y H Q=>∃a b xs ys,x=.ref a/\y=.ref b/\bf K H a xs/\bf K H b ys/\xs≠[]/\xs.length+ys.length<=sizeLine /\
 (ys=[]->Q (.ref a) H)/\(ys≠[]->∀p,H p=none->Q (.ref p) (upd H p (.tup (xs++ys))))
def aV.qO {xs:List V}{us:List Value}(r:aV xs us):us=[]↔xs=[]:=by
 cases r with
 | nil=>simp
 | cons _ _=>simp
def Jo:md X (binaryOp .Add) (P6 X.K):=by
 intro ag s σ H x y v u Q I rx ry h;obtain⟨a,b,xs,ys,rfl,rfl,ha,hb,hx,hz,q1,q2⟩:=h;cases rx;cases ry;obtain⟨aN,r1,p1,_⟩:=I.tuple ha;obtain⟨gP,r2,p2,_⟩:=I.tuple hb;refine HT.Kn p1 p2 (λz=>hx (r1.qO.mp z)) (λz=>⟨.ref a,H,I,rfl,q1 (r2.qO.mp z)⟩) (λz=>?_) (by rw [<-r1.length,<-r2.length];exact hz);refine⟨.ref s.heap.objs.size,_,I.laid (t':=s.toks) (o:=.tup (xs++ys)) (λb ob q=>bu _ q) (aH _) ?_,rfl,q2 (λw=>z (r2.qO.mpr w)) _ (I.bF.fresh (aH _))⟩;exact⟨by rw [cu];exact hz,_,r1.append r2,IsTup.new _ _⟩
end
def JJ (n:Nat) (i:Int):Option Nat:=if 0<=i then (if i < n then some i.toNat else none) else if -(n:Int)<=i then some (i+n).toNat else none
def pI {α:Type}(xs:List α) (i:Int):Option α:=(JJ xs.length i).bind λj=>xs[j]?
def Ci {n:Nat}{i:Int}{j:Nat}(h:JJ n i=some j):seqIndex? i n=some j/\j < n/\-(n:Int)<=i/\i < n:=by
 unfold JJ at h;by_cases h0:0<=i
 .rw [az h0] at h;by_cases h1:i < n
  .rw [az h1] at h;have e:i.toNat=j:=ib h;exact⟨by rw [seqIndex_of h0 h1,e],∅,∅,h1⟩
  rw [aA h1] at h;cases h
 rw [aA h0] at h;by_cases h1:-(n:Int)<=i
 .rw [az h1] at h;have e:(i+n).toNat=j:=ib h;exact⟨by rw [seqIndex_neg ∅ h1,e],∅,h1,∅⟩
 rw [aA h1] at h;cases h
def xB {α:Type}{xs:List α}{i:Int}{v:α}(h:pI xs i=some v):∃j,seqIndex? i xs.length=some j/\xs[j]?=some v/\j < xs.length/\-(xs.length:Int)<=i/\i < xs.length:=by
 unfold pI at h;cases e:JJ xs.length i with
 | none=>rw [e] at h;cases h
 | some j =>
  rw [e] at h;obtain⟨h1,h2,h3,h4⟩:=Ci e;exact⟨j,h1,h,h2,h3,h4⟩
def cW {α:Type}{xs:List α}{j:Nat}{v:α}(h:xs[j]?=some v):pI xs (j:Int)=some v:=by
 have hj:j < xs.length:=(aY.mp h).1;have e:JJ xs.length (j:Int)=some j:=by
  unfold JJ;rw [az ∅,az ∅];simp
 unfold pI;rw [e];exact h
def Kv (b:Expr):Prop:=∀o i,subscripted b false o i=operate [o,i] (getItem o i)
def Kx (X:Cx)(r:R2):Prop :=
 ∀(value slice:Expr)(ag:List (Addr×Obj))(s:Shared)(σ:St)(H:Hp)(x y:V)(v u:Value)(Q:VK),Inv X ag σ H s->RelV x v->RelV y u->r x y H Q ->
  subscripted slice false v u=operate [v,u] (getItem v u)->wpAny (model X.prog X.w) X.A (subscriptTail value slice v u) (EP X ag σ Q) X.xe s
def SA (X:Cx)(id:String)(r:V->List V->Hp->VK->Prop):Prop :=
 ∀(ag:List (Addr×Obj))(s:Shared)(σ:St)(H:Hp)(x:V)(xs:List V)(v:Value)(us:List Value)(Q:VK),Inv X ag σ H s->RelV x v->aV xs us->r x xs H Q ->
  wpAny (model X.prog X.w) X.A (call (.builtin id) (v::us)) (EP X ag σ Q) X.xe s
section
variable {X:Cx}{a b:Expr}{ta tb:TE}{pos:Pos}
def Kx.or {r r':R2}(h:Kx X r)(h':Kx X r'):Kx X (λx y H Q=>r x y H Q\/r' x y H Q):=by
 intro value slice ag s σ H x y v u Q I rx ry q hs;rcases q with q | q
 .exact h value slice ag s σ H x y v u Q I rx ry q hs
 exact h' value slice ag s σ H x y v u Q I rx ry q hs
def SA.or {id:String}{r r':V->List V->Hp->VK->Prop}(h:SA X id r)(h':SA X id r'):SA X id (λx xs H Q=>r x xs H Q\/r' x xs H Q):=by
 intro ag s σ H x xs v us Q I rx rs q;rcases q with q | q
 .exact h ag s σ H x xs v us Q I rx rs q
 exact h' ag s σ H x xs v us Q I rx rs q
def bH {r:R2}(hr:Kx X r)(ha:PE X a ta)(hb:PE X b tb)(hs:Kv b):PE X (.Subscript a b pos) (SU r ta tb):=by
 intro ag s σ H Q I h;exact Subscript_ (N8 ha hb I h λv u s2 x y H2 I2 rx ry q=>hr a b ag s2 σ H2 x y v u Q I2 rx ry q (hs _ _))
inductive Yw (S:Addr->List V->Prop)(x y:V)(R:V->Prop):Prop
|mk(p:Addr)(xs:List V) (i:Int)(v:V)(e:x=.ref p)(e2:y=.int i)(s:S p xs)(a:pI xs i=some v)(q:R v)
def P5 (K:aR):R2:=λx y H Q=>Yw (aG K H) x y λv=>Q v H
def Vd (K:aR):R2:=λx y H Q=>Yw (bf K H) x y λv=>Q v H
def Ve:R2:=λx y H Q=>∃z i c,x=.str z/\y=.int i/\z.length<=sizeLine/\pI z.cps.toList i=some c/\Q (.str ⟨#[c]⟩) H
def cO:Kx X (P5 X.K):=by
 intro value slice ag s σ H x y v u Q I rx ry h hs;obtain⟨p,xs,i,z,rfl,rfl,hq,he,q⟩:=h;cases rx;obtain⟨t,rfl⟩:=ry;obtain⟨aN,r,pl,hz⟩:=I.list hq;obtain⟨j,h1,h2,h3,h4,h5⟩:=xB he;obtain⟨w,ew,Ag⟩:=r.get h2;have hl:=r.length;have hn:=mF;have fin:EP X ag σ Q w s:=⟨z,H,I,Ag,q⟩;by_cases h0:0<=i
 .have hj:i.toNat=j:=by
   rw [seqIndex_of h0 h5] at h1;exact ib h1
  exact item_listR pl.isList h0 ∅ (by rw [hj];simpa using ew) fin hs
 have hj:(i+(aN.toArray.size:Int)).toNat=j:=by
  rw [seqIndex_neg ∅ h4] at h1;rw [bJ,<-hl];exact ib h1
 exact subscriptTail_builtinR (x:=w) pl.isList.typeIs slot_list_getitem.lookup
  (wpAny_getItem_list_neg (Q:=λr s'=>r=w/\EP X ag σ Q r s') pl.isList ∅ (by rw [bJ] <;> omega) ∅ (by rw [hj];simpa using ew) ⟨rfl,fin⟩) hs
def cS:Kx X (Vd X.K):=by
 intro value slice ag s σ H x y v u Q I rx ry h hs;obtain⟨p,xs,i,z,rfl,rfl,hq,he,q⟩:=h;cases rx;obtain⟨t,rfl⟩:=ry;obtain⟨aN,r,pl,hz⟩:=I.tuple hq;obtain⟨j,h1,h2,h3,h4,h5⟩:=xB he;obtain⟨w,ew,Ag⟩:=r.get h2;have hl:=r.length;have hn:=mF;have fin:EP X ag σ Q w s:=⟨z,H,I,Ag,q⟩;exact subscriptTail_builtinR (x:=w) pl.typeIs slot_tuple_getitem.lookup
  (getItem_tuple (j:=j) (Q:=λr s'=>r=w/\EP X ag σ Q r s') pl ∅ ∅ (by rw [bJ,<-hl];exact h1) (by simpa using ew) ⟨rfl,fin⟩) hs
def G8:Kx X Ve:=by
 intro value slice ag s σ H x y v u Q I rx ry h hs;obtain⟨z,i,c,rfl,rfl,hz,he,q⟩:=h;obtain⟨t,rfl⟩:=rx;obtain⟨t',rfl⟩:=ry;obtain⟨j,h1,h2,h3,h4,h5⟩:=xB he;have hl:z.cps.toList.length=z.length:=by simp [Str.length]
 rw [hl] at h1 h4 h5;have hn:=mF;exact tail_any (typeIs_str s z t) slot_str_getitem.lookup (getItem_str (c:=c) (by
  have e1:decide (i < -(2 ^ 63:Int))=false:=dO ∅;have e2:decide (i≥2 ^ 63)=false:=dO ∅;rw [e1,e2,Bool.or_false]) (by rw [h1];simpa using h2) ⟨.str ⟨#[c]⟩,H,I.tok _,⟨_,rfl⟩,q⟩) hs
def AG (aN:List Value) (n j:Nat)(u:Value):Obj.mapSeq (·.setIfInBounds j u) { cls:=.type "list",data:=.seq aN.toArray n }={ cls:=.type "list",data:=.seq (aN.set j u).toArray n }:=by
 simp [Obj.mapSeq]
theorem Inv.lst {ag:List (Addr×Obj)}{σ:St}{H:Hp}{s:Shared}{p:Addr}{xs:List V}(I:Inv X ag σ H s)(h:H p=some (.lst xs)) :
  ∃(aN:List Value) (n:Nat),aV xs aN/\s.heap.get? p=some { cls:=.type "list",data:=.seq aN.toArray n }/\xs.length<=sizeLine:=by
 obtain⟨z,aN,n,r,e⟩:=I.bF p _ h;exact⟨aN,n,r,e,z⟩
def Inv.MQ {ag:List (Addr×Obj)}{σ:St}{H:Hp}{s:Shared}{p:Addr}{xs ys:List V}{aN oh:List Value}{n n':Nat}{f:Obj->Obj}(I:Inv X ag σ H s)(h:H p=some (.lst xs))
  (ho:s.heap.get? p=some { cls:=.type "list",data:=.seq aN.toArray n })(hf:f { cls:=.type "list",data:=.seq aN.toArray n }={ cls:=.type "list",data:=.seq oh.toArray n' })(r:aV ys oh)(hz:ys.length<=sizeLine) (t:Nat) :
  Inv X ag σ (upd H p (.lst ys)) { s with heap:=s.heap.update p f,toks:=t }:=by
 have e:(s.heap.update p f).get? p=some { cls:=.type "list",data:=.seq oh.toArray n' }:=by
  rw [lR f ho (by rw [hf] <;> rfl),hf]
 refine I.write (x:=p) (e:=p) (by rw [h];trivial) (.inl rfl) (λb u hb q=>(gK _ _ (dC hb)).trans q) ⟨_,e⟩ ?_;exact⟨hz,oh,n',r,e⟩
def P4:V->V->V->Hp->(Hp->Prop)->Prop:=λo i v H Q=>∃p xs k j,o=.ref p/\i=.int k/\H p=some (.lst xs)/\JJ xs.length k=some j/\Q (upd H p (.lst (xs.set j v)))
def set_list:Sv X P4:=by
 intro ag s σ H o i v ov iv u Q I ro ri rv h;obtain⟨p,xs,k,j,rfl,rfl,hp,hj,q⟩:=h;cases ro;obtain⟨t,rfl⟩:=ri;obtain⟨aN,n,r,ho,hz⟩:=I.lst hp;obtain⟨h1,h2,h3,h4⟩:=Ci hj;have hl:=r.length;have hn:=mF;have I':Inv X ag σ (upd H p (.lst (xs.set j v))) { s with heap:=s.heap.update p (Obj.mapSeq (·.setIfInBounds j u)) } :=
  I.MQ hp ho (AG aN n j u) (r.set rv j) (by rw [List.length_set];exact hz) s.toks
 by_cases h0:0<=k
 .have hk:k.toNat=j:=by
   rw [seqIndex_of h0 h4] at h1;exact ib h1
  exact PySem.W.ki_setAt ho h0 ∅ (by rw [bJ,<-hl];exact h4) (by rw [hk];exact⟨_,I',q⟩)
 have hk:(k+(aN.toArray.size:Int)).toNat=j:=by
  rw [seqIndex_neg ∅ h3] at h1;rw [bJ,<-hl];exact ib h1
 exact PySem.W.ki_setBack ho ∅ (by rw [bJ,<-hl];exact h3) ∅ (by rw [hk];exact⟨_,I',q⟩)
def wo (lo hi:Option Int) (n:Nat):(sliceBounds lo hi none n).1=((HT.dZ n 0 lo:Nat):Int)/\(sliceBounds lo hi none n).2.1=((HT.dZ n n hi:Nat):Int)/\(sliceBounds lo hi none n).2.2=1:=by
 refine⟨?_,?_,rfl⟩
 .cases lo with
  | none=>simp [sliceBounds,HT.dZ]
  | some i =>
   simp only [sliceBounds,HT.dZ,Option.getD_none,show (1:Int) > 0 by decide,if_true];by_cases h:i < 0
   .simp only [h,if_true] <;> omega
   simp only [h,if_false] <;> omega
 cases hi with
 | none=>simp [sliceBounds,HT.dZ]
 | some i =>
  simp only [sliceBounds,HT.dZ,Option.getD_none,show (1:Int) > 0 by decide,if_true];by_cases h:i < 0
  .simp only [h,if_true] <;> omega
  simp only [h,if_false] <;> omega
def ug (aN:List Value)(lo hi:Option Int):slicePick aN.toArray lo hi none=((aN.drop (HT.dZ aN.length 0 lo)).take (HT.dZ aN.length aN.length hi - HT.dZ aN.length 0 lo)).toArray:=by
 obtain⟨h1,h2,h3⟩:=wo lo hi aN.toArray.size;unfold slicePick;rw [h1,h2,h3];simp only [sliceRange_one,pick_run,bJ] <;> rfl
def Vb (K:aR):V->Option Int->Option Int->Hp->VK->Prop:=λx lo hi H Q=>Yv x (aG K H) λxs=>∀p,H p=none->Q (.ref p) (upd H p (.lst (hJ xs lo hi)))
def jx:Ku X (Vb X.K):=by
 intro ag s σ H x v vl vu lo hi sl Q I rx hs pl pu h;obtain⟨a,xs,rfl,hx,q⟩:=h;cases rx;obtain⟨aN,r,ht,hz⟩:=I.list hx;have a8:=r.length;refine⟨"list",_,slot_list_getitem.lookup,ht.isList.typeIs,?_⟩;refine wpAny_getItem_list_slice ht.isList hs pl pu .none (by simp) ?_ (by rw [bJ] <;> omega)
 rw [ug,<-a8];refine⟨.ref s.heap.objs.size,_,I.laid (t':=s.toks) (o:=.lst (hJ xs lo hi)) (λb ob q=>bu _ q) (aH _) ?_,rfl,q _ (I.bF.fresh (aH _))⟩;exact⟨cQ (qe xs lo hi) hz,_,0,(r.drop (HT.dZ xs.length 0 lo)).take (HT.dZ xs.length xs.length hi - HT.dZ xs.length 0 lo),cZ _ rfl⟩
def kO:V->Bool
 | .dG=>true
 | .bl _=>true
 | .int _=>true
 | .str _=>true
 | _=>false
def EM:V->V->Bool
 | .dG,.dG=>true
 | .bl a,.bl b=>a == b
 | .bl a,.int b=>(if a then 1 else 0) == b
 | .int a,.bl b=>a == (if b then 1 else 0)
 | .int a,.int b=>a == b
 | .str a,.str b=>a == b
 | _,_=>false
def Hz {A:Around}{s:Shared}{y x:V}{u v:Value}(ry:RelV y u)(rx:RelV x v)(fy:kO y=true)(fx:kO x=true):SeqAt.EqAt A s u v (EM y x):=by
 cases y with
 | dG =>
  cases ry;cases x with
  | dG=>cases rx;exact SeqAt.EqAt.same _
  | bl b=>cases rx;exact SeqAt.EqAt.none_bool b
  | int b=>obtain⟨t,rfl⟩:=rx;exact SeqAt.EqAt.none_int b t
  | str b=>obtain⟨t,rfl⟩:=rx;exact SeqAt.EqAt.none_str b t
  | _=>exact absurd (show false=true from fx) dB
 | bl a =>
  cases ry;cases x with
  | dG=>cases rx;exact SeqAt.EqAt.bool_none a
  | bl b=>cases rx;exact SeqAt.EqAt.bool_bool a b
  | int b=>obtain⟨t,rfl⟩:=rx;exact SeqAt.EqAt.bool_int a b t
  | str b=>obtain⟨t,rfl⟩:=rx;exact SeqAt.EqAt.bool_str a b t
  | _=>exact absurd (show false=true from fx) dB
 | int a =>
  obtain⟨t',rfl⟩:=ry;cases x with
  | dG=>cases rx;exact SeqAt.EqAt.int_none a t'
  | bl b=>cases rx;exact SeqAt.EqAt.int_bool a t' b
  | int b=>obtain⟨t,rfl⟩:=rx;exact SeqAt.EqAt.int_int a t' b t
  | str b=>obtain⟨t,rfl⟩:=rx;exact SeqAt.EqAt.int_str a t' b t
  | _=>exact absurd (show false=true from fx) dB
 | str a =>
  obtain⟨t',rfl⟩:=ry;cases x with
  | dG=>cases rx;exact SeqAt.EqAt.str_none a t'
  | bl b=>cases rx;exact SeqAt.EqAt.str_bool a t' b
  | int b=>obtain⟨t,rfl⟩:=rx;exact SeqAt.EqAt.str_int a t' b t
  | str b=>obtain⟨t,rfl⟩:=rx;exact SeqAt.EqAt.str_str a t' b t
  | _=>exact absurd (show false=true from fx) dB
 | _=>exact absurd (show false=true from fy) dB
def A5 (x:V)(u:Value):Bool:=match u with
 | .none=>EM .dG x
 | .bool b=>EM (.bl b) x
 | .int i _=>EM (.int i) x
 | .str z _=>EM (.str z) x
 | _=>false
def Hy {x y:V}{u:Value}(r:RelV y u)(f:kO y=true):A5 x u=EM y x:=by
 cases y with
 | dG=>cases r;rfl
 | bl b=>cases r;rfl
 | int i=>obtain⟨t,rfl⟩:=r;rfl
 | str z=>obtain⟨t,rfl⟩:=r;rfl
 | _=>exact absurd (show false=true from f) dB
theorem oE {x:V}:∀{xs:List V}{us:List Value},aV xs us->xs.all kO=true->us.any (A5 x)=xs.any λy=>EM y x
 | _,_,.nil,_=>rfl
 | y::xs,u::us,.cons r t,f=>by
  rw [List.all_cons,iH] at f;rw [rf,rf,Hy r f.1,oE t f.2]
theorem ky {A:Around}{s:Shared}{x:V}{v:Value}(rx:RelV x v)(fx:kO x=true):∀{xs:List V}{us:List Value},aV xs us->xs.all kO=true->∀u∈us,SeqAt.EqAt A s u v (A5 x u)
 | _,_,.nil,_=>λu hu=>by cases hu
 | y::xs,u::us,.cons r t,f=>λu' hu=>by
  rw [List.all_cons,iH] at f;rcases bN.mp hu with rfl | hu
  .rw [Hy r f.1];exact Hz r rx f.1 fx
  exact ky rx fx t f.2 u' hu
def Iv (x:V)(xs:List V):Bool:=xs.any λy=>EM y x
inductive XIn (S:Addr->List V->Prop)(x y:V)(R:List V->Prop):Prop
|mk(p:Addr)(xs:List V)(e:y=.ref p)(s:S p xs)(f:kO x=true)(g:xs.all kO=true)(q:R xs)
def Ti (K:aR)(neg:Bool):R2:=λx y H Q=>XIn (λp xs=>aG K H p xs\/bf K H p xs) x y λxs=>Q (.bl (if neg then !Iv x xs else Iv x xs)) H
def jd:md X (compareOp .In) (Ti X.K false):=by
 intro ag s σ H x y v u Q I rx ry h;obtain⟨p,xs,rfl,hq,fx,fs,q⟩:=h;cases ry;rcases hq with hq | hq
 .obtain⟨aN,r,pl,hz⟩:=I.list hq;refine SeqAt.in_listAt (A5 x) pl.isList (λw hw=>ky rx fx r fs w (by simpa using hw)) ⟨.bl _,H,I,rfl,?_⟩;rw [show aN.toArray.any (A5 x)=aN.any (A5 x) by simp,oE r fs];exact q
 obtain⟨aN,r,pl,hz⟩:=I.tuple hq;refine SeqAt.in_tupleAt (A5 x) pl (λw hw=>ky rx fx r fs w (by simpa using hw)) ⟨.bl _,H,I,rfl,?_⟩;rw [show aN.toArray.any (A5 x)=aN.any (A5 x) by simp,oE r fs];exact q
def jz:md X (compareOp .NotIn) (Ti X.K true):=by
 intro ag s σ H x y v u Q I rx ry h;obtain⟨p,xs,rfl,hq,fx,fs,q⟩:=h;cases ry;rcases hq with hq | hq
 .obtain⟨aN,r,pl,hz⟩:=I.list hq;refine SeqAt.notIn_listAt (A5 x) pl.isList (λw hw=>ky rx fx r fs w (by simpa using hw)) ⟨.bl _,H,I,rfl,?_⟩;rw [show aN.toArray.any (A5 x)=aN.any (A5 x) by simp,oE r fs];exact q
 obtain⟨aN,r,pl,hz⟩:=I.tuple hq;refine SeqAt.notIn_tupleAt (A5 x) pl (λw hw=>ky rx fx r fs w (by simpa using hw)) ⟨.bl _,H,I,rfl,?_⟩;rw [show aN.toArray.any (A5 x)=aN.any (A5 x) by simp,oE r fs];exact q
def di:fZ X (.builtin "len") (λxs H Q=>N_ xs (λp ys=>aG X.K H p ys\/bf X.K H p ys) λys=>Q (.int ys.length) H):=by
 intro ag s σ H xs us Q I r h;obtain⟨p,ys,rfl,hq,q⟩:=h;obtain⟨u,rfl,rx⟩:=vals1 r;cases rx;have hn:=mF;rcases hq with hq | hq
 .obtain⟨aN,r',pl,hz⟩:=I.list hq;have a8:=r'.length;exact Calls.call_len_list pl.isList (by simp only [bJ] <;> omega) ⟨.int ys.length,H,I.tok _,⟨s.toks+1,by rw [bJ,a8]⟩,q⟩
 obtain⟨aN,r',pl,hz⟩:=I.tuple hq;have a8:=r'.length;exact len_tuple pl (by simp only [bJ] <;> omega) ⟨.int ys.length,H,I.tok _,⟨s.toks+1,by rw [bJ,a8]⟩,q⟩
def fZ.or {f:Value}{r r':List V->Hp->VK->Prop}(h:fZ X f r)(h':fZ X f r'):fZ X f (λxs H Q=>r xs H Q\/r' xs H Q):=by
 intro ag s σ H xs us Q I rs q;rcases q with q | q
 .exact h ag s σ H xs us Q I rs q
 exact h' ag s σ H xs us Q I rs q
def df:fZ X (.type "list") (λxs H Q=>N_ xs (λp ys=>aG X.K H p ys\/bf X.K H p ys) λys=>∀l,H l=none->Q (.ref l) (upd H l (.lst ys))):=by
 intro ag s σ H xs us Q I r h;obtain⟨p,ys,rfl,hq,q⟩:=h;obtain⟨u,rfl,rx⟩:=vals1 r;cases rx;have fin:∀(aN:List Value),aV ys aN->ys.length<=sizeLine->∀(h':Heap) (c':Nat),(∀b o',s.heap.get? b=some o'->h'.get? b=some o') ->
   h'.get? s.heap.objs.size=some { cls:=.type "list",dict:=none,data:=.seq aN.toArray c',slots:=#[] }->EP X ag σ Q (.ref s.heap.objs.size) { s with heap:=h' }:=λaN r' hz h' c' kp e =>
  ⟨.ref s.heap.objs.size,_,I.laid (t':=s.toks) kp (aH _) (show bW X.prog X.w _ h' _ (.lst ys) from ⟨hz,aN,c',r',e⟩),rfl,q _ (I.bF.fresh (aH _))⟩
 rcases hq with hq | hq
 .obtain⟨aN,r',pl,hz⟩:=I.list hq;have a8:=r'.length;obtain⟨o,ho,hc,n,hd⟩:=pl.isList;exact call_list_seq p (.inl rfl) ho hc hd (λh' c' kp e=>fin aN r' hz h' c' kp e) (by simp only [bJ] <;> omega)
 obtain⟨aN,r',pl,hz⟩:=I.tuple hq;have a8:=r'.length;obtain⟨o,ho,hc,n,hd⟩:=pl;exact call_list_seq p (.inr rfl) ho hc hd (λh' c' kp e=>fin aN r' hz h' c' kp e) (by simp only [bJ] <;> omega)
def gU:fZ X (.type "tuple") (λxs H Q=>∃p ys,xs=[.ref p]/\((aG X.K H p ys/\∀l,H l=none->Q (.ref l) (upd H l (.tup ys)))\/(bf X.K H p ys/\Q (.ref p) H))):=by
 intro ag s σ H xs us Q I r h;obtain⟨p,ys,rfl,h⟩:=h;obtain⟨u,rfl,rx⟩:=vals1 r;cases rx;rcases h with ⟨hq,q⟩ | ⟨hq,q⟩
 .obtain⟨aN,r',pl,hz⟩:=I.list hq;have a8:=r'.length;refine call_tuple_list pl.isList (λh' kp=>?_) (by simp only [bJ] <;> omega)
  have I1:Inv X ag σ H { s with heap:=h' }:=I.kept (t':=s.toks) kp;have I2:Inv X ag σ (upd H h'.objs.size (.tup ys)) { s with heap:=h'.push { cls:=.type "tuple",data:=.seq aN.toArray } } :=
   I1.laid (t':=s.toks) (λb o e=>bu _ e) (aH _) (show bW X.prog X.w _ _ _ (.tup ys) from ⟨hz,aN,r',IsTup.new _ _⟩)
  exact⟨.ref h'.objs.size,_,I2,rfl,q _ (I1.bF.fresh (aH _))⟩
 obtain⟨aN,r',pl,hz⟩:=I.tuple hq;exact call_tuple_same pl ⟨.ref p,H,I,rfl,q⟩
def Y0 (K:aR)(T:String)(x:V)(H:Hp):Prop:=match x with
 | .str _=>T = "str"
 | .int _=>T = "int"
 | .ref p=>(T = "list" /\ ∃xs,aG K H p xs)\/(T = "tuple" /\ ∃o,K.lookup p=some o/\o.cls=.type "tuple" /\ o.dict=none) \/
   (T = "dict" /\ ((∃kvs,H p=some (.dK kvs))\/∃kvs,H p=some (.dT kvs)))\/(T = "set" /\ ∃S n,H p=some (.set S n))
 | _=>False
def LS {ag:List (Addr×Obj)}{σ:St}{H:Hp}{s:Shared}{T:String}{x:V}{v:Value}(I:Inv X ag σ H s)(r:RelV x v)(ty:Y0 X.K T x H) :
  s.TypeIs v T/\∀a,v=.ref a->∃ob,s.heap.get? a=some ob/\ob.dict=none:=by
 cases x with
 | str z =>
  obtain⟨t,rfl⟩:=r;cases (show T = "str" from ty);exact⟨typeIs_str s z t,λ_ e=>nomatch e⟩
 | int i =>
  obtain⟨t,rfl⟩:=r;cases (show T = "int" from ty);exact⟨typeIs_int s i t,λ_ e=>nomatch e⟩
 | ref p =>
  cases r;rcases ty with ⟨rfl,xs,hq⟩ | ⟨rfl,o,hk,hc,hd⟩ | ⟨rfl,hk⟩ | ⟨rfl,S,n,hk⟩
  .obtain⟨aN,_,pl,_⟩:=I.list hq;refine⟨pl.isList.typeIs,λa e=>?_⟩;cases e;obtain⟨o,n,e,c,hd,_⟩:=pl;exact⟨o,e,hd⟩
  .refine⟨⟨o,I.jo p o hk,hc⟩,λa e=>?_⟩;cases e;exact⟨o,I.jo _ o hk,hd⟩
  .have z:∃o,s.heap.get? p=some o/\o.ExactDict:=by
    rcases hk with ⟨kvs,hk⟩ | ⟨kvs,hk⟩
    .obtain⟨_,_,_,_,o,_,_,e,ex,_⟩:=I.bF p _ hk;exact⟨o,e,ex⟩
    obtain⟨_,_,_,_,o,_,_,e,ex,_⟩:=I.bF p _ hk;exact⟨o,e,ex⟩
   obtain⟨o,e,ex⟩:=z;refine⟨⟨o,e,ex.1⟩,λa e2=>?_⟩;cases e2;exact⟨o,e,ex.2.1⟩
  obtain⟨o,_,_,_,e,ex,_⟩:=I.bF p _ hk;refine⟨⟨o,e,ex.1⟩,λa e2=>?_⟩;cases e2;exact⟨o,e,ex.2.1⟩
 | _=>exact False.elim ty
def tBM (K:aR)(T:String)(r:V->List V->Hp->VK->Prop)(to:TE)(t:TA):TE:=λσ H Q=>to σ H λx H1=>Y0 K T x H1/\t σ H1 λxs H2=>r x xs H2 Q
variable {o e:Expr}{es:List Expr}{to:TE}{t:TA}{name:Str}{apos g8:Pos}{T id:String}{r:V->List V->Hp->VK->Prop}
def gZ (pa:PlainAttrs T)(slot:Slot T name id)(hty:typeOf (.builtin id)=pure (.type "method_descriptor"))(hm:SA X id r)(ho:PE X o to)(ha:PA X (e::es) t)
  (Rz:attributeBase o name X.env (eval o X.env)=eval o X.env:=by rfl)
  (WS:((backTo g8 (starEach (e::es) X.env)).all (λx=>!x.1) && (backToKw g8 (keywordEach [] X.env)).all (λx=>x.1.isSome)
   && decide ((e::es).length+([]:List Keyword).length+(if ([]:List Keyword).isEmpty then 0 else 1) < 30))=true:=by rfl)
  (Rj:(apos.endLine == g8.line)=true:=by rfl)(hs:starEach (e::es) X.env=(false,eval e X.env)::starEach es X.env:=by rfl)(Nf:(backTo g8 (starEach es X.env)).any (·.1)=false:=by rfl) :
  PE X (.Call (.Attribute o name apos) (e::es) [] g8) (tBM X.K T r to t):=by
 intro ag s σ H Q I h;refine wpAny_Call_method_late Rz WS Rj rfl (cK (ho ag s σ H _ I h) λv s1 aS=>?_);obtain⟨x,H1,I1,r1,ty,q1⟩:=aS;obtain⟨h1,h2⟩:=LS I1 r1 ty;refine⟨T,id,pa,slot,hty,h1,h2,?_⟩;have hA:=ha g8 ag s1 σ H1 _ I1 q1;rw [hs] at hA ⊢;refine vQ (by show (false || (backTo g8 (starEach es X.env)).any (·.1))=false;rw [Nf] <;> rfl) (vH ?_)
 refine cK hA λus s2 aS=>?_;obtain⟨vs,H2,I2,r2,q2⟩:=aS;exact hm ag s2 σ H2 x vs v us Q I2 r1 r2 q2
end
def YG (X:Cx)(id:String)(r:V->List V->Hp->VK->Prop):Prop :=
 ∀(ag:List (Addr×Obj))(s:Shared)(σ:St)(H:Hp)(x:V)(xs:List V)(v:Value)(us:List Value)(Q:VK),Inv X ag σ H s->RelV x v->aV xs us->r x xs H Q ->
  wpAny (model X.prog X.w) X.A (call (.builtin id) (v::us)) (EP X ag σ Q) X.xe s
def aV.one:∀{x:V}{us:List Value},aV [x] us->∃u,us=[u]/\RelV x u
 | _,_,.cons r .nil=>⟨_,rfl,r⟩
def aV.two:∀{x y:V}{us:List Value},aV [x,y] us->∃u v,us=[u,v]/\RelV x u/\RelV y v
 | _,_,_,.cons r (.cons q .nil)=>⟨_,_,rfl,r,q⟩
def aV.zero:∀{us:List Value},aV [] us->us=[]
 | _,.nil=>rfl
theorem aV.reverse {xs:List V}{us:List Value}(h:aV xs us):aV xs.reverse us.reverse:=by
 induction h with
 | nil=>exact .nil
 | cons r t ih=>rw [List.reverse_cons,List.reverse_cons];exact aV.append ih (.cons r .nil)
section
variable {X:Cx}{ag:List (Addr×Obj)}{σ:St}{H:Hp}{s:Shared}{l b:Addr}{xs ys zs:List V}
def Inv.Qv {aN oh:List Value}{n:Nat}{f:Array Value->Array Value}{t':Nat}(I:Inv X ag σ H s)(hH:H l=some (.lst xs))
  (e:s.heap.get? l=some { cls:=.type "list",data:=.seq aN.toArray n })(hf:f aN.toArray=oh.toArray)(hv:aV ys oh)(hz:ys.length<=sizeLine) :
  Inv X ag σ (upd H l (.lst ys)) { s with heap:=s.heap.update l (Obj.mapSeq f),toks:=t' }:=by
 have q:=PySem.IsL.update e f;rw [hf] at q;refine I.write (x:=l) (e:=l) (by rw [hH];exact trivial) (.inl rfl) (λb' u hb hu=>(gK s.heap (Obj.mapSeq f) (dC hb)).trans hu) ⟨_,q⟩ ?_;exact⟨hz,oh,_,hv,q⟩
def Inv.VZ {aN:List Value}{t':Nat}(I:Inv X ag σ H s)(hv:aV ys aN)(hz:ys.length<=sizeLine) :
  Inv X ag σ (upd H s.heap.objs.size (.lst ys)) { s with heap:=s.heap.push { cls:=.type "list",data:=.seq aN.toArray },toks:=t' } :=
 I.laid (λ_ _ q=>bu _ q) (aH _) ⟨hz,aN,0,hv,cZ _ rfl⟩
theorem Inv.fresh (I:Inv X ag σ H s):H s.heap.objs.size=none:=I.bF.fresh (aH _)
def Inv.GO (I:Inv X ag σ H s)(hH:H l=some (.lst xs)):xs.length<=sizeLine/\∃(aN:List Value) (n:Nat),aV xs aN/\xs.length=aN.length/\s.heap.get? l=some { cls:=.type "list",data:=.seq aN.toArray n }:=by
 obtain⟨z,aN,n,r,e⟩:=I.bF l _ hH;exact⟨z,aN,n,r,r.length,e⟩
def Gz {n:Nat}(h:n<=sizeLine):Builtin.List.listTooLong n=false:=by
 unfold Builtin.List.listTooLong;exact dO ∅
end
section
variable {X:Cx}
inductive Sq (H:Hp)(x:V)(vs:List V)(R:Addr->List V->V->Prop):Prop
|mk(l:Addr)(xs:List V)(y:V)(e:x=.ref l)(e2:vs=[y])(h:H l=some (.lst xs))(z:xs.length < sizeLine)(q:R l xs y)
def Jg:V->List V->Hp->VK->Prop:=λx vs H Q=>Sq H x vs λl xs y=>Q .dG (upd H l (.lst (xs++[y])))
def cq:YG X "list.append" Jg:=by
 intro ag s σ H x vs v us Q I rx rv h;obtain⟨l,xs,y,rfl,rfl,hH,hz,q⟩:=h;cases rx;obtain⟨u,rfl,ru⟩:=rv.one;obtain⟨z,aN,n,r,hl,e⟩:=I.GO hH;refine call_meets F.slot_list_append ⟨_,e,rfl⟩ F.entry_list_append (F.args_list_append_2 _ _) (PySem.list_append l aN.toArray n u (by rw [bJ];omega)) ⟨e,?_⟩;refine⟨.dG,_,I.Qv (oh:=aN++[u]) hH e (by simp) (r.append (.cons ru .nil)) ?_,rfl,q⟩;rw [cu,pW];omega
def Jf:V->List V->Hp->VK->Prop:=λx vs H Q=>∃l b xs zs,x=.ref l/\vs=[.ref b]/\H l=some (.lst xs)/\H b=some (.lst zs)/\xs.length+zs.length<=sizeLine/\Q .dG (upd H l (.lst (xs++zs)))
def uR:YG X "list.extend" Jf:=by
 intro ag s σ H x vs v us Q I rx rv h;obtain⟨l,b,xs,zs,rfl,rfl,hH,hB,hz,q⟩:=h;cases rx;obtain⟨u,rfl,ru⟩:=rv.one;cases ru;obtain⟨z,aN,n,r,hl,e⟩:=I.GO hH;obtain⟨z2,gP,n2,r2,qV,e2⟩:=I.GO hB;have hsz:aN.toArray.size+gP.toArray.size<=sizeLine:=by rw [bJ,bJ];omega
 have Ri:¬(!aN.toArray.isEmpty && Builtin.List.listTooLong (aN.toArray.size+gP.toArray.size))=true:=by
  rw [Gz hsz,Bool.and_false];exact dB
 refine call_meets F.slot_list_extend ⟨_,e,rfl⟩ F.entry_list_extend (F.args_list_extend_2 _ _)
  (AutoSeq1.list_extend_list_list_0 l aN.toArray n b gP.toArray n2 Ri (by rw [bJ];omega) ∅) ⟨e,e2,?_⟩
 refine⟨.dG,_,I.Qv (oh:=aN++gP) hH e (by simp) (r.append r2) ?_,rfl,q⟩;rw [cu];omega
def Vf:R2:=λx y H Q=>YA (λl xs=>H l=some (.lst xs)) x y λxs zs=>∀p,H p=none->Q (.ref p) (upd H p (.lst (xs++zs)))
def wQ:md X (binaryOp .Add) Vf:=by
 intro ag s σ H x y v u Q I rx ry h;obtain⟨l,b,xs,zs,rfl,rfl,hH,hB,hz,q⟩:=h;cases rx;cases ry;obtain⟨z,aN,n,r,hl,e⟩:=I.GO hH;obtain⟨z2,gP,n2,r2,qV,e2⟩:=I.GO hB;refine PySem.P.add_list e e2 ?_ (by rw [bJ,bJ];omega);have ea:aN.toArray++gP.toArray=(aN++gP).toArray:=by simp
 rw [ea];exact⟨.ref _,_,I.VZ (t':=s.toks) (r.append r2) (by rw [cu];omega),rfl,q _ I.fresh⟩
end
section
variable {prog:Program}{w:World}{A:Around}{E:Value->Shared->Prop}{s:Shared}
set_option maxRecDepth 100000 in
end
end L2
namespace IP
open PySem PySem.W PySem.Calls PyProof.Rows
def qo {P:Params}{h:Heap}:∀(ns:List Int)(vs:List Value),WellAll P h vs (ns.map WData.int)->IntsAre vs ns:=by
 intro ns
 induction ns with
 | nil =>
  intro vs w;rw [j4] at w;cases w;exact .nil
 | cons n ns ih =>
  intro vs w;rw [bL] at w;cases w with
  | cons a b =>
   cases a;exact .cons _ _ (ih _ b)
def Dd {l:OpenLaw}{n:Nat}(hn:l.most=some n){P:Params}{h:Heap}{args:List WData}{vals:List Value}
  (JN:l.row.toRowW.claim.pre args=true)(M7:WellAll P h vals args) :
  ∃a vs ns,vals=[Value.ref a]/\args=[WData.list (ns.map WData.int)]/\h.get? a=some { cls:=.type "list",data:=.seq vs.toArray }/\IntsAre vs ns/\ns.length<=n:=by
 have hsh:WShape.hasAll [] args [.list .int]=true:=(pre_splitW JN).1;have hc:l.pre.holds [] { args:=args }=true:=(pre_splitW JN).2;obtain⟨d,r,rfl,h1,h2⟩:=hasAllW_cons hsh;obtain rfl:=hasAllW_nil h2;obtain⟨xs,rfl,h3⟩:=hasW_list h1;obtain⟨ns,rfl⟩:=items_int h3;have a8:ns.length<=n:=by
  unfold OpenLaw.pre at hc;have h4:(WTm.not (.lt (.lit (.int (n:Int))) (.len (.arg 0)))).holds [] { args:=[.list (ns.map .int)] }=true:=by
   have h4:=(holds_andW hc).1;rw [hn] at h4;exact h4
  have h5:=condW_of h4 (w_not (w_lt w_lit (w_len_list (w_arg rfl))));rw [aB] at h5;refine Nat.le_of_not_lt λq=>?_;have q':(n:Int) < ((ns.length:Nat):Int):=by omega
  first
   | (rw [cw q'] at h5;exact absurd h5 nofun)
   | (simp at h5;omega)
 cases M7 with
 | cons w1 w2 =>
  cases w2;cases w1 with
  | list ho qv=>exact⟨_,_,ns,rfl,rfl,ho,qo ns _ qv,a8⟩
def Di (l:OpenLaw)(args:List WData):l.row.toRowW.claim.post args (.bool true) args=true :=
 postW_of (r:=l.row.toRowW) (X:=(true == true))
  (show WShape.has [] (.bool true) .bool=true by first | rfl | decide | simp [WShape.has,WShape.arms,WShape.armsAll])
  (show (WTm.eq .res (.lit (.bool true))).value [] { args:=args,res:=some (.bool true),after:=args }=some (.bool (true == true)) from w_eq_bool (w_res rfl) w_lit) rfl
def qh {l:OpenLaw}{n:Nat}{q:Program}{loose:List Str}{XP:(Str->Option Value)->Heap->Prop}{YP:World->Heap->Prop}{d:DefRec}
  (hn:l.most=some n)(Nt:d.params.defaults=[])
  (call:∀(w:World)(s₀ s₁:Shared)(mg mb:Str->Option Value)(fa:Addr)(o:Obj)(pm cd doc:Value)(a:Addr)(vs:List Value)(ns:List Int),
   Ground q loose [] XP w s₀ mg mb s₁.heap->YP w s₁.heap ->
   s₁.heap.get? fa=some o->o.data=.func (docDef d.name d.params d.body d.scope pm cd doc)->s₁.heap.CodeRec cd d.name->mg d.name=some (.ref fa) ->
   s₁.heap.get? a=some { cls:=.type "list",data:=.seq vs.toArray }->IntsAre vs ns->ns.length<=n->s₁.gens=#[] ->
   codeAny (model l.prog w) callerA (.call (.ref fa) ⟨[.ref a],[]⟩) (λr s'=>r=.ok (.ret (.bool true))/\OldK s₁.heap s'.heap/\s'.os=s₁.os/\AllBare s'.gens) s₁) :
  WalkO q loose XP YP l.row.toRowW d [] (λf vs=>PySem.call f vs):=by
 intro w s₀ s₁ mg mb G Y fa o pm cd doc dV kV ho hd sZ hD Nk hg args vals as JN aak hrd M7 hlo;obtain rfl:dV=.none:=Dflts.none hD Nt;obtain rfl:kV=.none:=Dflts.noKw hD;obtain⟨a,vs,ns,rfl,rfl,He,hints,a8⟩:=Dd hn JN M7;refine enter_call (jq (call w s₀ s₁ mg mb fa o pm cd doc a vs ns G Y ho (fd_plain hd) sZ Nk He hints a8 hg) λr s' hq=>?_);obtain⟨rfl,h2,h3,h4⟩:=hq;exact⟨.inl ⟨.bool true,.bool true,[],rfl,λ_=>rfl,.bool true,Di l _,λ_=>⟨List.Pairwise.nil,λ_ hm=>(nomatch hm)⟩⟩,h2,h3,h4⟩
section
variable {prog:Program}{w:World}{A:Around}{E:Value->Shared->Prop}{s:Shared}{K:Frag}
def sL (h:Heap):Heap:={ h with objs:=#[] }
def mx (h:Heap)(b:Addr):(sL h).get? b=none:=by
 cases e:(sL h).get? b with
 | none=>rfl
 | some o=>exact absurd (aO e) (Nat.not_lt_zero _)
def ledger (h:Heap)(L d:Addr):List (Addr×Obj):=(List.range h.objs.size).filterMap λa=>if a=L\/a=d then none else (h.get? a).map λo=>(a,o)
def jC {h:Heap}{L d a:Addr}{o:Obj}:(a,o)∈ledger h L d↔a≠L/\a≠d/\h.get? a=some o:=by
 unfold ledger;rw [vJ];constructor
 .rintro⟨b,_,e⟩
  split at e
  .cases e
  rename_i hb
  obtain⟨o',ho,e'⟩:=bR.mp e;cases e';exact⟨λq=>hb (.inl q),λq=>hb (.inr q),ho⟩
 rintro⟨n1,n2,ho⟩;refine⟨a,jT.mpr (aO ho),?_⟩;rw [aA (show ¬(a=L\/a=d) from λq=>q.elim n1 n2),ho] <;> rfl
def yy {h:Heap}{L d:Addr}{od:Obj}(Nh:d≠L)(ho:h.get? d=some od):News (sL h) L h ([]++(d,od)::ledger h L d):=by
 rintro⟨a,o⟩ hp;rcases bN.mp hp with e | hp
 .cases e;exact⟨ho,Nh,mx _ _⟩
 obtain⟨n1,n2,e⟩:=jC.mp hp;exact⟨e,n1,mx _ _⟩
def NL {h:Heap}{L:Addr}{m:Str->Option Value}(n:h.Ns L m):Fr (sL h) L h m :=
 ⟨n,λb o e=>(by rw [mx] at e;cases e),gI _⟩
end
end IP
namespace L2
open PySem PySem.Spec PyProof.Rows
theorem o9:∀{vs:List Value}{ns:List Int},IntsAre vs ns->aV (ns.map V.int) vs
 | _,_,.nil=>.nil
 | _,_,.cons n t h=>.cons ⟨t,rfl⟩ (o9 h)
def Od (H:Hp):Prop:=∀b,H b=none\/∃o xs,H b=some (.jR o (.lst xs))
def G1 {P:Program}{w:World}{K:aR}{mg mb:Str->Option Value}{CX:vA}{k:Nat}{fa a:Addr}{fd:FuncData}{x:Str}{sp:Sp}{s₁:Shared}{vs:List Value}{ns:List Int}
  (KX:K.In s₁.heap)(pF:s₁.heap.Ns mainGlobals mg)(hb:s₁.heap.Ns builtinsNs mb)(Ny:∀x:Str,x ≠ "__name__" -> mb x=bootBuiltins x)(Nl:s₁.heap.NoLimit)(hg:s₁.gens=#[])
  (ha:s₁.heap.get? a=some { cls:=.type "list",data:=.seq vs.toArray })(hi:IntsAre vs ns)(hl:ns.length<=sizeLine)(hr:dD k callerA)
  (F:∀base:Heap,K.In base->base.Ns mainGlobals mg->bh P w K mg base CX k fa fd [x] sp)(om:∀(s:Shared)(u:Value),BindsTo s fd ⟨[u],[]⟩ [(x,u)])
  (u6:∀H:Hp,Od H->aG K H a (ns.map V.int)->sp [.ref a] H (λv _=>v=.bl true) λ_ _ _=>False)
  (NG:∀H e s',CX [] H s₁ (λ_ _ _=>False) e s'->False) :
  codeAny (model P w) callerA (.call (.ref fa) ⟨[.ref a],[]⟩) (λr s'=>r=.ok (.ret (.bool true))/\OldK s₁.heap s'.heap/\s'.os=s₁.os/\AllBare s'.gens) s₁:=by
 have rv:=o9 hi;have MT:=hi.length;have core:∀H:Hp,Od H->aG K H a (ns.map V.int)->lJ P w H s₁.heap->(∀b,H b≠none->b=a)->(H a≠none->K.lookup a=none) ->
   codeAny (model P w) callerA (.call (.ref fa) ⟨[.ref a],[]⟩) (λr s'=>r=.ok (.ret (.bool true))/\OldK s₁.heap s'.heap/\s'.os=s₁.os/\AllBare s'.gens) s₁:=by
  intro H hO hS bF hA hK;have lB:∀{b:Addr}{o:Obj},s₁.heap.get? b=some o->H b=none->(mP s₁.heap H).get? b=some o:=λe n=>yN e n;have Qi:∀{b:Addr}{o:Obj}{es:Array DictEntry}{ep:Nat},s₁.heap.get? b=some o->o.data=.dict es ep->H b=none:=λ{b o es ep} e d=>by
   cases q:H b with
   | none=>rfl
   | some u =>
    have e':b=a:=hA b (by rw [q];simp);subst e';rw [ha] at e;cases e;have d':Data.seq vs.toArray _=Data.dict es ep:=d;cases d'
  have Jy:∀{b:Addr}{m:Str->Option Value},s₁.heap.Ns b m->(mP s₁.heap H).Ns b m:=λ{b m} ⟨o,es,ep,e,d,r⟩=>⟨o,es,ep,lB e (Qi e d),d,r⟩;have RD:K.In (mP s₁.heap H):=λb o e=>lB (KX b o e) (by
   cases q:H b with
   | none=>rfl
   | some u =>
    have e':b=a:=hA b (by rw [q];simp);subst e';rw [hK (by rw [q];simp)] at e;cases e)
  have hM:Mod K mg (mP s₁.heap H):=⟨RD,Jy pF,⟨mb,Jy hb,Ny⟩,let ⟨mc,h1,h2⟩:=Nl;⟨mc,Jy h1,h2⟩⟩;have e0:qB P w K mg (mP s₁.heap H) callerA [] s₁ H:=⟨rfl,hM,λb o e=>Cb e,Nat.le_of_eq (u7 _ _),trivial,λb hb=>absurd (show b∈([]:List Addr) from hb) (by simp),bF,.of_eq hg⟩;refine jq ((F _ RD (Jy pF)).run callerA [] s₁ H ⟨[.ref a],[]⟩ [.ref a] [.ref a] _ _ hr e0 (om s₁ (.ref a)) (.cons rfl .nil) (u6 H hO hS)) λr s' h=>?_;cases r with
  | error e=>exact(NG H e s' h).elim
  | ok fl =>
   cases fl with
   | next=>exact False.elim h
   | brk=>exact False.elim h
   | cont=>exact False.elim h
   | ret u =>
    obtain⟨v,H',os,bare,un,JO,r',q⟩:=h;have q':v=.bl true:=q;subst q';obtain rfl:u=Value.bool true:=r';refine⟨rfl,OldK.of_keep λb o e=>?_,os,bare⟩;cases q:H b with
    | none=>exact un.keep b o e q (by intro z;exact absurd (show b∈([]:List Addr) from z) (by simp)) (by simp)
    | some u =>
     rcases hO b with z | ⟨ob,xs,z⟩
     .rw [q] at z;cases z
     have z2:=un.kJ b ob _ z;obtain⟨e1,_⟩:=bF b _ z;obtain⟨e2,_⟩:=JO b _ z2;rw [e] at e1;cases e1;exact e2
 cases hk:K.lookup a with
 | some o =>
  have e:=KX a o hk;rw [ha] at e;cases e;refine core (λ_=>none) (λ_=>.inl rfl) (.inr ⟨_,vs.toArray,_,hk,rfl,rfl,rfl,by rw [bJ,MT];exact hl,by simpa using rv⟩) (λb u z=>by have z':(none:Option HO)=some u:=z;cases z') (λb z=>absurd rfl z) λz=>absurd rfl z
 | none =>
  refine core (λb=>if b=a then some (.jR { cls:=.type "list",data:=.seq vs.toArray } (.lst (ns.map V.int))) else none) (λb=>?_) (.inl (.inr ⟨{ cls:=.type "list",data:=.seq vs.toArray },az rfl⟩)) (λb u z=>?_) (λb z=>?_) λ_=>hk
  .by_cases hb:b=a
   .exact .inr ⟨_,_,az hb⟩
   exact .inl (aA hb)
  .by_cases hb:b=a
   .have z':=(az hb).symm.trans z;cases z';subst hb;exact⟨ha,by rw [aB];exact hl,vs,_,rv,ha⟩
   have z':=(aA hb).symm.trans z;cases z'
  by_cases hb:b=a
  .exact hb
  exact absurd (aA hb) z
abbrev KOf {K:aR}{h:Heap}(_:K.In h):aR:=K
def SS {l:PySem.W.OpenLaw}{n k:Nat}{q:Program}{loose:List Str}{XP:(Str->Option Value)->Heap->Prop}{YP:World->Heap->Prop}{d:DefRec}{K:Params->aR}{CX:World->vA}{sp:World->Sp}{x:Str}
  (hn:l.most=some n)(DU:n<=sizeLine)(Nt:d.params.defaults=[])(hr:dD k callerA)
  (hY:∀(w:World)(h:Heap),YP w h->(K w.params).In h)
  (F:∀(w:World)(mg:Str->Option Value)(fa:Addr)(h:Heap),(K w.params).In h->h.Ns mainGlobals mg->mg d.name=some (.ref fa) ->
   ∃fd:FuncData,(∀(s:Shared)(u:Value),BindsTo s fd ⟨[u],[]⟩ [(x,u)]) /\
    ∀base:Heap,(K w.params).In base->base.Ns mainGlobals mg->bh l.prog w (K w.params) mg base (CX w) k fa fd [x] (sp w))
  (u6:∀(w:World)(H:Hp)(a:Addr)(ns:List Int),ns.length<=n->Od H->aG (K w.params) H a (ns.map V.int)->sp w [.ref a] H (λv _=>v=.bl true) λ_ _ _=>False)
  (NG:∀(w:World)(H:Hp)(s:Shared)(e:Value)(s':Shared),CX w [] H s (λ_ _ _=>False) e s'->False) :
  PySem.W.WalkO q loose XP YP l.row.toRowW d [] (λf vs=>PySem.call f vs):=by
 refine IP.qh hn Nt λw s₀ s₁ mg mb fa o pm cd doc a vs ns G Y ho hd sZ Nk He hints a8 hg=>?_;have KX:=hY w _ Y;obtain⟨fd,hb,hF⟩:=F w mg fa _ KX G.T.g Nk;exact G1 KX G.T.g G.T.b G.T.builtins G.T.nolimit hg He hints (cQ a8 DU) hr hF hb (λH hO hS=>u6 w H a ns a8 hO hS) λH e s'=>NG w H s₁ e s'
def dw (s:Stmt):Arguments:=match s with
 | .FunctionDef _ a _ _ _ _ _ _ _ _=>a
 | _=>{ posonlyargs:=[],args:=[],vararg:=none,kwonlyargs:=[],kw_defaults:=[],kwarg:=none,defaults:=[] }
def bQ (s:Stmt):List Stmt:=match s with
 | .FunctionDef _ _ b _ _ _ _ _ _ _=>b
 | _=>[]
def aw (s:Stmt):Scope:=match s with
 | .FunctionDef _ _ _ _ _ _ sc _ _ _=>sc
 | _=>{ kind:=.function,names:=[],isGenerator:=false,isCoroutine:=false }
abbrev fJ:vA:=λ_ _ _ _ _ _=>False
abbrev E0:XK:=λ_ _ _=>False
def p_ {X:Cx}:Passes fJ X E0:=λ_ _ _ _ _ _ _ h=>h.elim
structure hZ (K:aR)(x qual:Str)(st:Stmt)(f:Addr)(fd:FuncData):Prop where
 ex:∃(oc:Value)(od:Option Addr)(kV doc pm:Value)(an:Option Addr)(dN ct:Value)(wN:Array (Option Value)),
  fd=PySem.W.fnOf x qual (dw st) (bQ st) (aw st) .none kV doc pm an dN ct/\K.lookup f=some ⟨oc,od,.func fd,wN⟩/\PySem.W.codeIn K dN qual=true
 kp:PySem.W.keepIn K (.ref f)=true
section
variable {P:Program}{w:World}{K:aR}{mg:Str->Option Value}{base:Heap}
def hZ.ok {x qual:Str}{st:Stmt}{f:Addr}{fd:FuncData}{N ps:List Str}{k:Nat}{sp:Sp}(F:hZ K x qual st f fd)(S:aJ N ps (aw st))(len:∀vs H Q E,sp vs H Q E->vs.length=ps.length)
  (g6:∀(dN:Value)(A:Around)(outer:List Env)(s:Shared)(H:Hp)(vs:List V)(Q:VK)(E:XK),dD k (A.deeper (envOfC qual (aw st) s.heap.objs.size f dN))->sp vs H Q E ->
   ∃t,xP (dM fJ P w K mg base N qual (aw st) f dN A outer s H E).DE (bQ st) t/\t { nx:=λ_ H'=>Q .dG H',rt:=Q } (start N vs) H):bh P w K mg base fJ (k+1) f fd ps sp:=by
 obtain⟨oc,od,kV,doc,pm,an,dN,ct,wN,rfl,lk,sZ⟩:=F.ex;refine yS lk sZ S len λA outer s H vs Q E hr u6=>?_;obtain⟨t,h,q⟩:=g6 dN A outer s H vs Q E hr u6;exact⟨t,h.DE,q⟩
def hZ.binds {x qual:Str}{st:Stmt}{f:Addr}{fd:FuncData}{ps:List Str}(F:hZ K x qual st f fd)
  (h:∀(kV doc pm:Value)(an:Option Addr)(dN ct:Value)(us:List Value),us.length=ps.length->bindArgs (PySem.W.fnOf x qual (dw st) (bQ st) (aw st) .none kV doc pm an dN ct) ⟨us,[]⟩=pure (ps.zip us)):Binds K fd ps []:=by
 obtain⟨oc,od,kV,doc,pm,an,dN,ct,wN,rfl,lk,sZ⟩:=F.ex;exact .all (h kV doc pm an dN ct)
def Hr {x qual:Str}{st:Stmt}{f:Addr}{oc:Value}{od an:Option Addr}{wN:Array (Option Value)}{kV doc pm dN ct:Value}(l:K.lookup f=some ⟨oc,od,.func (PySem.W.fnOf x qual (dw st) (bQ st) (aw st) .none kV doc pm an dN ct),wN⟩)
  (c:PySem.W.codeIn K dN qual=true)(k:PySem.W.keepIn K (.ref f)=true):hZ K x qual st f (PySem.W.fnOf x qual (dw st) (bQ st) (aw st) .none kV doc pm an dN ct):=⟨⟨oc,od,kV,doc,pm,an,dN,ct,wN,rfl,l,c⟩,k⟩
end
def gk {A:Around}{k:Nat}(hr:dD k A):A.units+1 < cLine:=ml (Nat.add_le_add_left (by decide:1<=64) _) hr.units
section
variable {X:Cx}
def pv (i:Nat){x:Str}{pos:Pos}(hN:X.N[i]?=some x:=by rfl)(hv:Up X.env.scope x:=by first | exact Or.inl rfl | exact Or.inr (bC rfl) | exact Or.inr (Or.inr rfl))(hd:(x == ("__debug__":Str))=false:=by decide)
  (sZ:(x == ("__classdict__":Str))=false:=by decide):PE X (.Name x pos) (gG i):=Mz hN hv hd sZ
end
def iD {A B:Prop}(h:B):if false=true then A else B:=by
 rw [aA dB];exact h
def lF {A B:Prop}(h:A):if true=true then A else B:=by
 rw [az rfl];exact h
def d_ {c A B:Prop} [Decidable c] (h1:c->A)(h2:¬c->B):if c then A else B:=by
 by_cases h:c
 .rw [az h];exact h1 h
 rw [aA h];exact h2 h
def aD (H H':Hp):Prop:=∀b o,H b=some o->H' b=some o
def aD.refl (H:Hp):aD H H:=λ_ _ h=>h
def aD.trans {H H1 H2:Hp}(a:aD H H1)(b:aD H1 H2):aD H H2:=λc o h=>b c o (a c o h)
def aD.free {H H':Hp}(e:aD H H'){l:Addr}(h:H' l=Option.none):H l=Option.none:=by
 cases q:H l with
 | none=>rfl
 | some o =>
  rw [e l o q] at h;cases h
def aD.seq {K:aR}{H H':Hp}{a:Addr}{xs:List V}(e:aD H H')(h:aG K H a xs):aG K H' a xs:=by
 rcases h with (h | ⟨o,h⟩) | h
 .exact .inl (.inl (e _ _ h))
 .exact .inl (.inr ⟨o,e _ _ h⟩)
 exact .inr h
end L2
namespace HD
open PySem PySem.W
def FQ (st:SharedT->Thread->Option (SharedT×Thread))(ok:Thread->Bool):Nat->SharedT->Thread->Option SharedT
 | 0,_,_=>none
 | n+1,s,t=>match through t with
  | true=>some s
  | false=>match ok t with
   | false=>none
   | true=>match st s t with
    | some (s',t')=>FQ st ok n s' t'
    | none=>none
theorem BX {tb:String->Option Builtin}{p:Program}{w:World}{n₀:Nat}{ann:Option Value}:∀{n:Nat}{s s':SharedT}{t:Thread},FQ (stepT (denote tb) p w) (stepOk n₀ ann) n s t=some s'->topRun tb p w n₀ ann n s.abs t=some s'.abs
 | 0,_,_,_,h=>by cases h
 | n+1,s,s',t,h=>by
  unfold FQ at h;unfold topRun;cases he:through t with
  | true=>rw [he] at h;cases h;rfl
  | false =>
   rw [he] at h;cases hk:stepOk n₀ ann t with
   | false=>rw [hk] at h;cases h
   | true =>
    rw [hk] at h;cases hs:stepT (denote tb) p w s t with
    | none=>rw [hs] at h;cases h
    | some r=>obtain⟨s₂,t₂⟩:=r;rw [hs] at h;rw [stepT_spec hs];exact BX h
def Zi:List Obj->Nat->BT->BT
 | [],_,t=>t
 | o::r,i,t=>Zi r (i+1) (t.ins i o)
noncomputable def CF (P:Params):BT:=Zi (boot_heap P).objs.toList 0 .nil
def Et (P:Params):absHeap (CF P) 11 {}=boot_heap P:=by kernel_rfl
def NO {β:Type}:Obj->(Obj->β)->β
 | ⟨c,d,t,s⟩,k=>k ⟨c,d,t,s⟩
def qX {β:Type}:List Obj->(List Obj->β)->β
 | [],k=>k []
 | x::r,k=>NO x λy=>qX r λys=>k (y::ys)
theorem tq {β:Type}:∀(l:List Obj)(k:List Obj->β),qX l k=k l
 | [],_=>rfl
 | ⟨c,d,t,s⟩::r,k=>by
  show qX r (λys=>k (⟨c,d,t,s⟩::ys))=_;rw [tq r]
def GQ (p q:Program) (loose:List Str)(Xt:Shared->Bool){α:Type}(Yf:Shared->α)(g0:Bool)(h₀:Heap)(s:Shared) :=
 ((staticsOk (importedModules p.main.body) h₀ s.heap && namesBound p s.heap && gensDone s && laidKept h₀ s.heap),openSeen q loose (importedModules p.main.body) Xt g0 s,Yf s)
def Fv {β:Type}(f:Shared->β)(s:SharedT):β:=qX (s.tree.list s.n) λl=>f ⟨⟨l.toArray,s.life⟩,s.gens,s.drawn,s.toks,s.os⟩
def Fu {β:Type}(f:Shared->β)(s:SharedT):Fv f s=f s.abs:=tq _ _
def QB {p q:Program}{loose:List Str}{Xt:Shared->Bool}{α:Type}{Yf:Shared->α}{Ya:World->α}{N:Nat}{g0:Bool}{ann:Option Value}{M:Nat}
  (Gg:∀w:World,(fencedOpening treeTable p w N).map (λs=>(s.heap,s.gens,s.drawn,s.toks))=some (boot_heap w.params,Array.mk [],boot_drawn,boot_toks))
  (size:∀w:World,((boot_heap w.params).isNs mainGlobals && (Array.mk []:Array GenState).size == 0,(boot_heap w.params).objs.size,(boot_heap w.params).nsMap mainGlobals "__annotations__")=(true,11,ann))
  (run:∀(w:World)(os:OsState),(FQ (stepT (denote treeTable) p w) (stepOk 11 ann) M ⟨CF w.params,11,{},Array.mk [],boot_drawn,boot_toks,os⟩ (topStub p)).map (Fv (GQ p q loose Xt Yf g0 (boot_heap w.params)))=some (true,openGood q loose,Ya w))
  (le:Nat.ble M N=true):LeftO p q loose Xt Yf Ya N g0:=λw=>by
 obtain⟨⟨h,gs,d,k,os⟩,e,e'⟩:=bR.mp (Gg w);obtain⟨rfl,rfl,rfl,rfl⟩:h=boot_heap w.params/\gs=Array.mk []/\d=boot_drawn/\k=boot_toks:=by simpa using e'
 obtain⟨z1,z2,z3⟩:_/\_/\_:=by simpa only [gu] using size w
 obtain⟨s',r0,l0⟩:=bR.mp (run w os);rw [Fu] at l0;obtain⟨l1,l2,l3⟩:_/\_/\_:=by simpa only [GQ,gu] using l0
 have r:=BX r0;have ea:SharedT.abs ⟨CF w.params,11,{},Array.mk [],boot_drawn,boot_toks,os⟩=⟨boot_heap w.params,Array.mk [],boot_drawn,boot_toks,os⟩:=by
  unfold SharedT.abs;rw [Et]
 rw [ea] at r;have r:=topRun_mono (N - M) _ _ _ _ r;rw [show M+(N - M)=N by have:=Nat.le_of_ble_eq_true le;omega] at r;have t:topFrom treeTable p w N ⟨boot_heap w.params,Array.mk [],boot_drawn,boot_toks,os⟩=some s'.abs:=by
  unfold topFrom;dsimp only;rw [z1,z2,z3,r];show (match staticsOk (importedModules p.main.body) (boot_heap w.params) s'.abs.heap && namesBound p s'.abs.heap && gensDone s'.abs && laidKept (boot_heap w.params) s'.abs.heap with | true=>_ | false=>_)=_
  rw [l1]
 unfold openEnds;rw [e];show (topFrom treeTable p w N _).map _=_;rw [t];exact congrArg some (Prod.ext l2 l3)
end HD
set_option maxHeartbeats 0
namespace HD
open PySem PySem.W L2 PySem.Challenge
def dE (P:Params)(x:Str)(t:Tok)(v:Value):DictEntry:=⟨PyData.keyHash P x,.str x t,v⟩
def top (p:Program) (i:Nat):Stmt:=p.main.body.getD i (.Pass ⟨0,0,0,0⟩)
def iX (p:Program) (i j:Nat):Stmt:=match top p i with
 | .ClassDef _ _ _ body _ _ _ _ _ _ _=>body.getD j (.Pass ⟨0,0,0,0⟩)
 | _=>.Pass ⟨0,0,0,0⟩
def posOf (s:Stmt):Pos:=match s with
 | .FunctionDef _ _ _ _ _ _ _ _ _ p=>p
 | _=>⟨0,0,0,0⟩
def cF (a:Addr)(n q:Str)(i:Nat)(l m:Int)(x y:Addr)(u v s t:Value)(z:Int)(w:Nat):Addr×Obj:=(a,⟨.type "code",none,.fields #[.str n i,.str q (i+1),.str "/claim/cut.py" (i+2),.int l 0,.int m 0,.int 0 0,.int 0 0,.int 3 0,.ref x,.bool true,.int 181 0,.ref y,u,v,s,t,.int z 0,.int l 0,.str "/claim/cut.py" w],#[]⟩)
def fF (a:Addr)(n q:Str)(s:Stmt)(m:Value):Addr×Obj:=(a,⟨.type "function",none,.func (fnOf n q (dw s) (bQ s) (aw s) .none .none .none m none (.ref (a-1)) .none),#[]⟩)
def dR (P:Params)(x:Str)(t:Tok)(a:Addr):DictEntry:=dE P x t (.ref a)
def m0:Value:=.str "__main__" 164
def m1:Value:=.str "wright.rules" 194
def m2:Value:=.str "wright.begin_tables" 226
def m3:Value:=.str "wright.errors" 320
def m4:Value:=.str "wright.loops" 522
def m5:Value:=.str "wright.tree_sizes" 552
def m6:Value:=.str "wright.grammar_faults" 573
def m7:Value:=.str "wright.least_trees" 600
def m8:Value:=.str "wright.grammars" 686
def m9:Value:=.str "law_wright_k14_whole_refused_or_let_by" 729
noncomputable def K' (p:Program)(P:Params):Frag:=[
 (2,⟨.none,none,.dict #[] 0,#[]⟩),
 (3,⟨.type "dict",none,.dict #[dE P "__name__" 165 (.str "law_wright_k14_whole_refused_or_let_by" 729),dE P "__doc__" 166 (.none),dE P "__package__" 167 (.none),dE P "__loader__" 168 (.builtin "__main__.__loader__#opaque"),dE P "__spec__" 169 (.none),dR P "__annotations__" 170 6,dR P "__builtins__" 171 4,dE P "__file__" 173 (.str "/claim/cut.py" 172),dE P "__cached__" 174 (.none),dR P "_wall" 193 21,dR P "heads_of" 201 26,dR P "words_in" 207 31,dR P "numbers_by_name" 213 36,dR P "standings_by_part" 225 43,dR P "found_empties" 233 48,dR P "first_places" 244 55,dR P "BeginTable" 319 105,dR P "WrightError" 339 119,dR P "NoRow" 364 139,dR P "NoRules" 380 151,dR P "Twice" 405 170,dR P "Endless" 430 189,dR P "Unmet" 455 208,dR P "Loop" 480 227,dR P "Vast" 505 246,dR P "TooMany" 521 258,dR P "find_loop" 529 265,dR P "steps_with_like_rows" 535 270,dR P "way_back" 551 277,dR P "least_sizes" 559 282,dR P "greatest_empty_sizes" 566 289,dR P "settled_sizes" 572 294,dE P "MOST_RULES" 576 (.int (60) 575),dR P "refuse_faults" 582 299,dR P "refuse_twice" 593 306,dR P "names_met" 599 311,dR P "least_by_part" 607 316,dR P "rule_size" 613 321,dR P "empty_by_name" 619 326,dR P "LeastTrees" 685 369,dR P "Grammar" 728 398,dR P "_law_cell_at" 738 409,dR P "_law_stream" 749 416,dR P "_law_pool" 755 421,dR P "_law_rule" 761 426,dR P "_law_strengths" 773 433,dR P "_law_twice" 784 440,dR P "_law_heads" 794 447,dR P "_law_ended" 800 452,dR P "_law_met" 806 457,dR P "_law_loops" 812 462,dR P "_law_due" 818 467,dR P "_law_told" 829 474,dR P "_law_is" 835 479,dR P "law" 841 484] 55,#[]⟩),
 (cF 20 "_wall" "_wall" 187 1 1 15 16 .none (.ref 17) (.ref 18) (.ref 19) 191 192),
 (fF 21 "_wall" "_wall" (top p 0) m0),
 (cF 25 "heads_of" "heads_of" 196 5 1 22 23 .none .none .none (.ref 24) 199 200),
 (fF 26 "heads_of" "heads_of" (top p 2) m1),
 (cF 30 "words_in" "words_in" 202 7 1 27 28 .none .none .none (.ref 29) 205 206),
 (fF 31 "words_in" "words_in" (top p 3) m1),
 (cF 35 "numbers_by_name" "numbers_by_name" 208 15 1 32 33 .none .none .none (.ref 34) 211 212),
 (fF 36 "numbers_by_name" "numbers_by_name" (top p 4) m1),
 (cF 42 "standings_by_part" "standings_by_part" 214 20 1 37 38 .none (.ref 39) (.ref 40) (.ref 41) 223 224),
 (fF 43 "standings_by_part" "standings_by_part" (top p 5) m1),
 (cF 47 "found_empties" "found_empties" 228 27 1 44 45 .none .none .none (.ref 46) 231 232),
 (fF 48 "found_empties" "found_empties" (top p 7) m2),
 (cF 54 "first_places" "first_places" 234 38 2 49 50 .none (.ref 51) (.ref 52) (.ref 53) 242 243),
 (fF 55 "first_places" "first_places" (top p 8) m2),
 (cF 66 "__init__" "BeginTable.__init__" 257 47 2 63 64 .none .none .none (.ref 65) 260 261),
 (fF 67 "__init__" "BeginTable.__init__" (iX p 9 0) m2),
 (cF 73 "find_begins" "BeginTable.find_begins" 263 58 3 68 69 .none (.ref 70) (.ref 71) (.ref 72) 272 273),
 (fF 74 "find_begins" "BeginTable.find_begins" (iX p 9 1) m2),
 (cF 80 "words_of_part" "BeginTable.words_of_part" 275 66 2 75 76 .none (.ref 77) (.ref 78) (.ref 79) 280 281),
 (fF 81 "words_of_part" "BeginTable.words_of_part" (iX p 9 2) m2),
 (cF 87 "first_words" "BeginTable.first_words" 283 69 2 82 83 .none (.ref 84) (.ref 85) (.ref 86) 288 289),
 (fF 88 "first_words" "BeginTable.first_words" (iX p 9 3) m2),
 (cF 94 "all_empty" "BeginTable.all_empty" 291 72 2 89 90 .none (.ref 91) (.ref 92) (.ref 93) 296 297),
 (fF 95 "all_empty" "BeginTable.all_empty" (iX p 9 4) m2),
 (cF 101 "words_of_parts" "BeginTable.words_of_parts" 299 75 3 96 97 .none (.ref 98) (.ref 99) (.ref 100) 305 306),
 (fF 102 "words_of_parts" "BeginTable.words_of_parts" (iX p 9 5) m2),
 (104,⟨.type "dict",none,.dict #[dE P "__module__" 252 (.str "wright.begin_tables" 226),dE P "__firstlineno__" 256 (.int (45) 255),dR P "__init__" 262 67,dR P "find_begins" 274 74,dR P "words_of_part" 282 81,dR P "first_words" 290 88,dR P "all_empty" 298 95,dR P "words_of_parts" 307 102,dR P "__static_attributes__" 312 103,dR P "__dict__" 314 106,dR P "__weakref__" 316 107,dE P "__doc__" 317 (.none)] 4,#[]⟩),
 (105,⟨.type "type",none,.cls ⟨"BeginTable",[.type "object"],[.ref 105,.type "object"],104,"BeginTable",true,[],[],false,none,false⟩,#[none,none,some (.str "BeginTable" 245),some (.str "BeginTable" 253),some (.builtin "object.__new__"),some (.bool true)]⟩),
 (106,⟨.type "getset_descriptor",none,.fields #[.str "__dict__" 313,.ref 105,.builtin "function.__dict__",.builtin "function.__dict__#set"],#[]⟩),
 (107,⟨.type "getset_descriptor",none,.fields #[.str "__weakref__" 315,.ref 105,.builtin "ExceptionGroup.__weakref__",.none],#[]⟩),
 (118,⟨.type "dict",none,.dict #[dE P "__module__" 329 (.str "wright.errors" 320),dE P "__firstlineno__" 333 (.int (78) 332),dR P "__static_attributes__" 334 117,dR P "__weakref__" 336 120,dE P "__doc__" 337 (.none)] 3,#[]⟩),
 (119,⟨.type "type",none,.cls ⟨"WrightError",[.type "ValueError"],[.ref 119,.type "ValueError",.type "Exception",.type "BaseException",.type "object"],118,"WrightError",true,[],[.ref 139,.ref 151,.ref 170,.ref 189,.ref 208,.ref 227,.ref 246,.ref 258],false,none,false⟩,#[some (.ref 110),none,some (.str "WrightError" 322),some (.str "WrightError" 330),some (.builtin "ValueError.__new__"),some (.bool true)]⟩),
 (120,⟨.type "getset_descriptor",none,.fields #[.str "__weakref__" 335,.ref 119,.builtin "ExceptionGroup.__weakref__",.none],#[]⟩),
 (cF 135 "__init__" "NoRow.__init__" 352 82 2 130 131 .none (.ref 132) (.ref 133) (.ref 134) 357 358),
 (fF 136 "__init__" "NoRow.__init__" (iX p 12 0) m3),
 (138,⟨.type "dict",none,.dict #[dE P "__module__" 347 (.str "wright.errors" 320),dE P "__firstlineno__" 351 (.int (80) 350),dR P "__init__" 359 136,dR P "__static_attributes__" 361 137,dE P "__doc__" 362 (.none)] 2,#[]⟩),
 (139,⟨.type "type",none,.cls ⟨"NoRow",[.ref 119],[.ref 139,.ref 119,.type "ValueError",.type "Exception",.type "BaseException",.type "object"],138,"NoRow",true,[],[],false,none,false⟩,#[some (.ref 123),none,some (.str "NoRow" 340),some (.str "NoRow" 348),some (.builtin "ValueError.__new__"),some (.bool true)]⟩),
 (150,⟨.type "dict",none,.dict #[dE P "__module__" 372 (.str "wright.errors" 320),dE P "__firstlineno__" 376 (.int (85) 375),dR P "__static_attributes__" 377 149,dE P "__doc__" 378 (.none)] 2,#[]⟩),
 (151,⟨.type "type",none,.cls ⟨"NoRules",[.ref 119],[.ref 151,.ref 119,.type "ValueError",.type "Exception",.type "BaseException",.type "object"],150,"NoRules",true,[],[],false,none,false⟩,#[some (.ref 142),none,some (.str "NoRules" 365),some (.str "NoRules" 373),some (.builtin "ValueError.__new__"),some (.bool true)]⟩),
 (cF 166 "__init__" "Twice.__init__" 393 89 2 161 162 .none (.ref 163) (.ref 164) (.ref 165) 398 399),
 (fF 167 "__init__" "Twice.__init__" (iX p 14 0) m3),
 (169,⟨.type "dict",none,.dict #[dE P "__module__" 388 (.str "wright.errors" 320),dE P "__firstlineno__" 392 (.int (87) 391),dR P "__init__" 400 167,dR P "__static_attributes__" 402 168,dE P "__doc__" 403 (.none)] 2,#[]⟩),
 (170,⟨.type "type",none,.cls ⟨"Twice",[.ref 119],[.ref 170,.ref 119,.type "ValueError",.type "Exception",.type "BaseException",.type "object"],169,"Twice",true,[],[],false,none,false⟩,#[some (.ref 154),none,some (.str "Twice" 381),some (.str "Twice" 389),some (.builtin "ValueError.__new__"),some (.bool true)]⟩),
 (cF 185 "__init__" "Endless.__init__" 418 94 2 180 181 .none (.ref 182) (.ref 183) (.ref 184) 423 424),
 (fF 186 "__init__" "Endless.__init__" (iX p 15 0) m3),
 (188,⟨.type "dict",none,.dict #[dE P "__module__" 413 (.str "wright.errors" 320),dE P "__firstlineno__" 417 (.int (92) 416),dR P "__init__" 425 186,dR P "__static_attributes__" 427 187,dE P "__doc__" 428 (.none)] 2,#[]⟩),
 (189,⟨.type "type",none,.cls ⟨"Endless",[.ref 119],[.ref 189,.ref 119,.type "ValueError",.type "Exception",.type "BaseException",.type "object"],188,"Endless",true,[],[],false,none,false⟩,#[some (.ref 173),none,some (.str "Endless" 406),some (.str "Endless" 414),some (.builtin "ValueError.__new__"),some (.bool true)]⟩),
 (cF 204 "__init__" "Unmet.__init__" 443 99 2 199 200 .none (.ref 201) (.ref 202) (.ref 203) 448 449),
 (fF 205 "__init__" "Unmet.__init__" (iX p 16 0) m3),
 (207,⟨.type "dict",none,.dict #[dE P "__module__" 438 (.str "wright.errors" 320),dE P "__firstlineno__" 442 (.int (97) 441),dR P "__init__" 450 205,dR P "__static_attributes__" 452 206,dE P "__doc__" 453 (.none)] 2,#[]⟩),
 (208,⟨.type "type",none,.cls ⟨"Unmet",[.ref 119],[.ref 208,.ref 119,.type "ValueError",.type "Exception",.type "BaseException",.type "object"],207,"Unmet",true,[],[],false,none,false⟩,#[some (.ref 192),none,some (.str "Unmet" 431),some (.str "Unmet" 439),some (.builtin "ValueError.__new__"),some (.bool true)]⟩),
 (cF 223 "__init__" "Loop.__init__" 468 104 2 218 219 .none (.ref 220) (.ref 221) (.ref 222) 473 474),
 (fF 224 "__init__" "Loop.__init__" (iX p 17 0) m3),
 (226,⟨.type "dict",none,.dict #[dE P "__module__" 463 (.str "wright.errors" 320),dE P "__firstlineno__" 467 (.int (102) 466),dR P "__init__" 475 224,dR P "__static_attributes__" 477 225,dE P "__doc__" 478 (.none)] 2,#[]⟩),
 (227,⟨.type "type",none,.cls ⟨"Loop",[.ref 119],[.ref 227,.ref 119,.type "ValueError",.type "Exception",.type "BaseException",.type "object"],226,"Loop",true,[],[],false,none,false⟩,#[some (.ref 211),none,some (.str "Loop" 456),some (.str "Loop" 464),some (.builtin "ValueError.__new__"),some (.bool true)]⟩),
 (cF 242 "__init__" "Vast.__init__" 493 109 2 237 238 .none (.ref 239) (.ref 240) (.ref 241) 498 499),
 (fF 243 "__init__" "Vast.__init__" (iX p 18 0) m3),
 (245,⟨.type "dict",none,.dict #[dE P "__module__" 488 (.str "wright.errors" 320),dE P "__firstlineno__" 492 (.int (107) 491),dR P "__init__" 500 243,dR P "__static_attributes__" 502 244,dE P "__doc__" 503 (.none)] 2,#[]⟩),
 (246,⟨.type "type",none,.cls ⟨"Vast",[.ref 119],[.ref 246,.ref 119,.type "ValueError",.type "Exception",.type "BaseException",.type "object"],245,"Vast",true,[],[],false,none,false⟩,#[some (.ref 230),none,some (.str "Vast" 481),some (.str "Vast" 489),some (.builtin "ValueError.__new__"),some (.bool true)]⟩),
 (257,⟨.type "dict",none,.dict #[dE P "__module__" 513 (.str "wright.errors" 320),dE P "__firstlineno__" 517 (.int (112) 516),dR P "__static_attributes__" 518 256,dE P "__doc__" 519 (.none)] 2,#[]⟩),
 (258,⟨.type "type",none,.cls ⟨"TooMany",[.ref 119],[.ref 258,.ref 119,.type "ValueError",.type "Exception",.type "BaseException",.type "object"],257,"TooMany",true,[],[],false,none,false⟩,#[some (.ref 249),none,some (.str "TooMany" 506),some (.str "TooMany" 514),some (.builtin "ValueError.__new__"),some (.bool true)]⟩),
 (cF 264 "find_loop" "find_loop" 524 115 1 261 262 .none .none .none (.ref 263) 527 528),
 (fF 265 "find_loop" "find_loop" (top p 21) m4),
 (cF 269 "steps_with_like_rows" "steps_with_like_rows" 530 119 1 266 267 .none .none .none (.ref 268) 533 534),
 (fF 270 "steps_with_like_rows" "steps_with_like_rows" (top p 22) m4),
 (cF 276 "way_back" "way_back" 536 128 3 271 272 .none (.ref 273) (.ref 274) (.ref 275) 549 550),
 (fF 277 "way_back" "way_back" (top p 23) m4),
 (cF 281 "least_sizes" "least_sizes" 554 144 1 278 279 .none .none .none (.ref 280) 557 558),
 (fF 282 "least_sizes" "least_sizes" (top p 25) m5),
 (cF 288 "greatest_empty_sizes" "greatest_empty_sizes" 560 146 1 283 284 .none (.ref 285) (.ref 286) (.ref 287) 564 565),
 (fF 289 "greatest_empty_sizes" "greatest_empty_sizes" (top p 26) m5),
 (cF 293 "settled_sizes" "settled_sizes" 567 148 3 290 291 .none .none .none (.ref 292) 570 571),
 (fF 294 "settled_sizes" "settled_sizes" (top p 27) m5),
 (cF 298 "refuse_faults" "refuse_faults" 577 161 2 295 296 .none .none .none (.ref 297) 580 581),
 (fF 299 "refuse_faults" "refuse_faults" (top p 30) m6),
 (cF 305 "refuse_twice" "refuse_twice" 583 180 1 300 301 .none (.ref 302) (.ref 303) (.ref 304) 591 592),
 (fF 306 "refuse_twice" "refuse_twice" (top p 31) m6),
 (cF 310 "names_met" "names_met" 594 187 1 307 308 .none .none .none (.ref 309) 597 598),
 (fF 311 "names_met" "names_met" (top p 32) m6),
 (cF 315 "least_by_part" "least_by_part" 602 197 1 312 313 .none .none .none (.ref 314) 605 606),
 (fF 316 "least_by_part" "least_by_part" (top p 34) m7),
 (cF 320 "rule_size" "rule_size" 608 205 2 317 318 .none .none .none (.ref 319) 611 612),
 (fF 321 "rule_size" "rule_size" (top p 35) m7),
 (cF 325 "empty_by_name" "empty_by_name" 614 207 2 322 323 .none .none .none (.ref 324) 617 618),
 (fF 326 "empty_by_name" "empty_by_name" (top p 36) m7),
 (cF 337 "__init__" "LeastTrees.__init__" 632 214 3 334 335 .none .none .none (.ref 336) 635 636),
 (fF 338 "__init__" "LeastTrees.__init__" (iX p 37 0) m7),
 (cF 344 "least_of" "LeastTrees.least_of" 638 221 2 339 340 .none (.ref 341) (.ref 342) (.ref 343) 643 644),
 (fF 345 "least_of" "LeastTrees.least_of" (iX p 37 1) m7),
 (cF 351 "hollow_of" "LeastTrees.hollow_of" 646 224 2 346 347 .none (.ref 348) (.ref 349) (.ref 350) 651 652),
 (fF 352 "hollow_of" "LeastTrees.hollow_of" (iX p 37 2) m7),
 (cF 358 "begun_place" "LeastTrees.begun_place" 654 227 3 353 354 .none (.ref 355) (.ref 356) (.ref 357) 660 661),
 (fF 359 "begun_place" "LeastTrees.begun_place" (iX p 37 3) m7),
 (cF 365 "begun_of" "LeastTrees.begun_of" 663 230 4 360 361 .none (.ref 362) (.ref 363) (.ref 364) 670 671),
 (fF 366 "begun_of" "LeastTrees.begun_of" (iX p 37 4) m7),
 (368,⟨.type "dict",none,.dict #[dE P "__module__" 627 (.str "wright.least_trees" 600),dE P "__firstlineno__" 631 (.int (212) 630),dR P "__init__" 637 338,dR P "least_of" 645 345,dR P "hollow_of" 653 352,dR P "begun_place" 662 359,dR P "begun_of" 672 366,dR P "__static_attributes__" 678 367,dR P "__dict__" 680 370,dR P "__weakref__" 682 371,dE P "__doc__" 683 (.none)] 4,#[]⟩),
 (369,⟨.type "type",none,.cls ⟨"LeastTrees",[.type "object"],[.ref 369,.type "object"],368,"LeastTrees",true,[],[],false,none,false⟩,#[none,none,some (.str "LeastTrees" 620),some (.str "LeastTrees" 628),some (.builtin "object.__new__"),some (.bool true)]⟩),
 (370,⟨.type "getset_descriptor",none,.fields #[.str "__dict__" 679,.ref 369,.builtin "function.__dict__",.builtin "function.__dict__#set"],#[]⟩),
 (371,⟨.type "getset_descriptor",none,.fields #[.str "__weakref__" 681,.ref 369,.builtin "ExceptionGroup.__weakref__",.none],#[]⟩),
 (381,⟨.type "tuple",none,.seq #[.none] 0,#[]⟩),
 (cF 387 "__init__" "Grammar.__init__" 700 235 3 382 383 .none (.ref 384) (.ref 385) (.ref 386) 706 707),
 (388,⟨.type "function",none,.func (fnOf "__init__" "Grammar.__init__" (dw (iX p 39 0)) (bQ (iX p 39 0)) (aw (iX p 39 0)) (.ref 381) (.none) (.none) (.str "wright.grammars" 686) (none) (.ref 387) (.none)),#[]⟩),
 (cF 394 "start" "Grammar.start" 709 243 1 389 390 .none (.ref 391) (.ref 392) (.ref 393) 713 714),
 (fF 395 "start" "Grammar.start" (iX p 39 1) m8),
 (397,⟨.type "dict",none,.dict #[dE P "__module__" 695 (.str "wright.grammars" 686),dE P "__firstlineno__" 699 (.int (233) 698),dR P "__init__" 708 388,dR P "start" 715 395,dR P "__static_attributes__" 721 396,dR P "__dict__" 723 399,dR P "__weakref__" 725 400,dE P "__doc__" 726 (.none)] 4,#[]⟩),
 (398,⟨.type "type",none,.cls ⟨"Grammar",[.type "object"],[.ref 398,.type "object"],397,"Grammar",true,[],[],false,none,false⟩,#[none,none,some (.str "Grammar" 688),some (.str "Grammar" 696),some (.builtin "object.__new__"),some (.bool true)]⟩),
 (399,⟨.type "getset_descriptor",none,.fields #[.str "__dict__" 722,.ref 398,.builtin "function.__dict__",.builtin "function.__dict__#set"],#[]⟩),
 (400,⟨.type "getset_descriptor",none,.fields #[.str "__weakref__" 724,.ref 398,.builtin "ExceptionGroup.__weakref__",.none],#[]⟩),
 (cF 408 "_law_cell_at" "_law_cell_at" 731 246 2 403 404 .none (.ref 405) (.ref 406) (.ref 407) 736 737),
 (fF 409 "_law_cell_at" "_law_cell_at" (top p 41) m9),
 (cF 415 "_law_stream" "_law_stream" 739 250 2 410 411 .none (.ref 412) (.ref 413) (.ref 414) 747 748),
 (fF 416 "_law_stream" "_law_stream" (top p 42) m9),
 (cF 420 "_law_pool" "_law_pool" 750 257 2 417 418 .none .none .none (.ref 419) 753 754),
 (fF 421 "_law_pool" "_law_pool" (top p 43) m9),
 (cF 425 "_law_rule" "_law_rule" 756 269 2 422 423 .none .none .none (.ref 424) 759 760),
 (fF 426 "_law_rule" "_law_rule" (top p 44) m9),
 (cF 432 "_law_strengths" "_law_strengths" 762 278 2 427 428 .none (.ref 429) (.ref 430) (.ref 431) 771 772),
 (fF 433 "_law_strengths" "_law_strengths" (top p 45) m9),
 (cF 439 "_law_twice" "_law_twice" 774 290 1 434 435 .none (.ref 436) (.ref 437) (.ref 438) 782 783),
 (fF 440 "_law_twice" "_law_twice" (top p 46) m9),
 (cF 446 "_law_heads" "_law_heads" 785 298 1 441 442 .none (.ref 443) (.ref 444) (.ref 445) 792 793),
 (fF 447 "_law_heads" "_law_heads" (top p 47) m9),
 (cF 451 "_law_ended" "_law_ended" 795 304 3 448 449 .none .none .none (.ref 450) 798 799),
 (fF 452 "_law_ended" "_law_ended" (top p 48) m9),
 (cF 456 "_law_met" "_law_met" 801 311 2 453 454 .none .none .none (.ref 455) 804 805),
 (fF 457 "_law_met" "_law_met" (top p 49) m9),
 (cF 461 "_law_loops" "_law_loops" 807 318 2 458 459 .none .none .none (.ref 460) 810 811),
 (fF 462 "_law_loops" "_law_loops" (top p 50) m9),
 (cF 466 "_law_due" "_law_due" 813 330 2 463 464 .none .none .none (.ref 465) 816 817),
 (fF 467 "_law_due" "_law_due" (top p 51) m9),
 (cF 473 "_law_told" "_law_told" 819 347 2 468 469 .none (.ref 470) (.ref 471) (.ref 472) 827 828),
 (fF 474 "_law_told" "_law_told" (top p 52) m9),
 (cF 478 "_law_is" "_law_is" 830 355 3 475 476 .none .none .none (.ref 477) 833 834),
 (fF 479 "_law_is" "_law_is" (top p 53) m9),
 (cF 483 "law" "law" 836 367 1 480 481 .none .none .none (.ref 482) 839 840),
 (fF 484 "law" "law" (top p 54) m9)]
def as:List Addr:=[2,3,20,21,25,26,30,31,35,36,42,43,47,48,54,55,66,67,73,74,80,81,87,88,94,95,101,102,104,105,106,107,118,119,120,135,136,138,139,150,151,166,167,169,170,185,186,188,189,204,205,207,208,223,224,226,227,242,243,245,246,257,258,264,265,269,270,276,277,281,282,288,289,293,294,298,299,305,306,310,311,315,316,320,321,325,326,337,338,344,345,351,352,358,359,365,366,368,369,370,371,381,387,388,394,395,397,398,399,400,408,409,415,416,420,421,425,426,432,433,439,440,446,447,451,452,456,457,461,462,466,467,473,474,478,479,483,484]
def q' (p:Program):Program:=view p [0,2,3,4,5,7,8,9,11,12,13,14,15,16,17,18,19,21,22,23,25,26,27,29,30,31,32,34,35,36,37,39,41,42,43,44,45,46,47,48,49,50,51,52,53,54]
abbrev loose:List Str:=[]
abbrev steps:Nat:=4130
abbrev bound:Nat:=9240
abbrev DN:OpenLaw:=rw_wright_k14_whole_refused_or_let_by
noncomputable abbrev K (P:Params):Frag:=K' pw_wright_k14_whole_refused_or_let_by P
theorem Sj (P:Params):as=(K P).map (·.1):=by kernel_rfl
noncomputable abbrev hook:Hook:=kmHook K as Sj [313,284,279]
def pre (h:DN.row.wellSaid=true->DN.row.Holds):DN.Holds:=by
 o_law
 exact h (by assumption)
abbrev Xt:Shared->Bool:=λs=>xlAt (q' pw_wright_k14_whole_refused_or_let_by) [] s && recOk (RowW.records (OpenRow.toRowW (OpenLaw.row rw_wright_k14_whole_refused_or_let_by))) s
def run (w:World)(os:OsState):(FQ (stepT (denote treeTable) pw_wright_k14_whole_refused_or_let_by w) (stepOk 11 (some (.ref 6))) steps ⟨CF w.params,11,{},Array.mk [],boot_drawn,boot_toks,os⟩ (topStub pw_wright_k14_whole_refused_or_let_by)).map
  (Fv (GQ pw_wright_k14_whole_refused_or_let_by (q' pw_wright_k14_whole_refused_or_let_by) loose Xt (Hook.obs hook) true (boot_heap w.params)))=some (true,openGood (q' pw_wright_k14_whole_refused_or_let_by) loose,Hook.val hook w):=by
 rw [PySem.W.Fast.te10156331382660048174,PySem.W.Fast.te11892475500146522536,PySem.W.Fast.te14364793385576792824,PySem.W.Fast.te6613529449190102663,PySem.W.Fast.te6681275293063474128]
 kernel_rfl
theorem size (w:World):((boot_heap w.params).isNs mainGlobals && (Array.mk []:Array GenState).size == 0,(boot_heap w.params).objs.size,(boot_heap w.params).nsMap mainGlobals "__annotations__")=(true,11,some (.ref 6)):=by kernel_rfl
def Gg:∀w:World,(fencedOpening treeTable pw_wright_k14_whole_refused_or_let_by w bound).map (λs=>(s.heap,s.gens,s.drawn,s.toks))=some (boot_heap w.params,Array.mk [],boot_drawn,boot_toks) :=
 boot_open (nofun) nofun (λs=>by kernel_rfl)
def left:LeftO (OpenRow.toRowW DN.row).prog (q' pw_wright_k14_whole_refused_or_let_by) loose Xt (Hook.obs hook) (Hook.val hook) bound:=QB Gg size run nofun
def kA:DefRec:={ name := "law",params:=dw (top pw_wright_k14_whole_refused_or_let_by 54),body:=bQ (top pw_wright_k14_whole_refused_or_let_by 54),scope:=aw (top pw_wright_k14_whole_refused_or_let_by 54),pos:=posOf (top pw_wright_k14_whole_refused_or_let_by 54) }
def Vl:defOf (q' pw_wright_k14_whole_refused_or_let_by) DN.row.name=some (kA,[]):=by kernel_rfl
def Vk:DN.row.prog.theDef DN.row.name=some (kA.params,kA.body,kA.scope):=by kernel_rfl
def ok3:kwWritten? kA.params.kwonlyargs kA.params.kw_defaults=some []:=by kernel_rfl
def ok4:(chainsOk (q' pw_wright_k14_whole_refused_or_let_by) && opensWell DN.row.prog && (frees DN.row.toRowW && DN.row.within.isEmpty))=true:=by kernel_rfl
def ok5:kA.params.defaults=[]:=by kernel_rfl
def hold (h:WalkO (q' pw_wright_k14_whole_refused_or_let_by) loose (XL (q' pw_wright_k14_whole_refused_or_let_by) []) (Hook.says hook) DN.row.toRowW kA [] λf vs=>PySem.call f vs)(hw:DN.row.toRowW.promised):DN.Holds :=
 pre λU2=>holds_open (q:=q' pw_wright_k14_whole_refused_or_let_by) (loose:=loose) (Xt:=Xt) (XP:=XL (q' pw_wright_k14_whole_refused_or_let_by) []) (Yf:=Hook.obs hook) (Ya:=Hook.val hook) (YP:=Hook.says hook) (N:=bound) left (Hook.of hook) (Hook.keeps hook) (λs e=>xl_of s (lQ.mp e).1) XL.keeps Vl Vk ok3 (λs e=>recFacts_of (lQ.mp e).2) rfl U2 ok4 ⟨rfl,rfl,rfl,rfl,rfl,nofun⟩ hw h
end HD
set_option maxHeartbeats 4000000
namespace L2
open PySem PySem.Spec PyProof.Rows
abbrev oN:=Nat->St->Hp->Prop
def Eh {CX:vA}{P:Program}{w:World}{K:aR}{mg:Str->Option Value}{base:Heap}{N:List Str}{qual:Str}{scope:Scope}{f:Addr}{cd:Value}{A:Around}{outer:List Env}{s:Shared}{H:Hp}{E:XK}:(dM CX P w K mg base N qual scope f cd A outer s H E).DE.K=K:=rfl
def V4 {t:TS}{D:Ends}{σ:St}{H:Hp}(h:let E:=D;t E σ H):t D σ H:=h
def Qz {t u:TS}{D:Ends}{σ:St}{H:Hp}(h:let E:={ D with nx:=u D };t E σ H):LY t u D σ H:=h
def QA {t u:TS}{D:Ends}{σ:St}{H:Hp}(h:let E:=D;let F:={ E with nx:=u E };t F σ H):LY t u D σ H:=h
def V3 {g:TG}{x:V}{σ:St}{H:Hp}{t:TS}{D:Ends}(h:let E:=D;g x σ H λσ2 H2=>t E σ2 H2):g x σ H λσ2 H2=>t D σ2 H2:=h
end L2
local macro_rules | `(tactic| nofun) => `(tactic| (dsimp only [L2.Eh];refine L2.Qz ?_;intro _))
local macro_rules | `(tactic| ac_rfl) => `(tactic| (refine L2.QA ?_;intro _ _))
local macro_rules | `(tactic| ac_nf0) => `(tactic| (refine L2.V3 ?_;intro _))
local macro_rules | `(tactic| ac_nf) => `(tactic| (refine L2.V4 ?_;intro _))
namespace L2
open PySem PySem.Spec PyProof.Rows
section
variable {κ:Type} [DecidableEq κ]
def br (kvs:List (κ×V))(k:κ):Option V:=(kvs.find? λkv=>decide (kv.1=k)).map (·.2)
def bE (kvs:List (κ×V))(k:κ)(v:V):List (κ×V) :=
 if (kvs.any λkv=>decide (kv.1=k))=true then kvs.map (λkv=>if kv.1=k then (kv.1,v) else kv) else kvs++[(k,v)]
def Lq (kvs:List (κ×V))(k:κ):List (κ×V):=kvs.filter λkv=>decide (kv.1≠k)
def eF {p:κ×V}{r:List (κ×V)}{k:κ}(e:p.1=k):br (p::r) k=some p.2:=by simp [br,oW,e]
def eG {p:κ×V}{r:List (κ×V)}{k:κ}(e:¬p.1=k):br (p::r) k=br r k:=by simp [br,oW,e]
theorem i_ (k:κ):∀kvs:List (κ×V),(kvs.any λkv=>decide (kv.1=k))=(br kvs k).isSome
 | []=>rfl
 | p::r=>by
  rw [rf];by_cases e:p.1=k
  .simp only [eF e,cw e,Bool.true_or,Option.isSome_some]
  rw [eG e,dO e,Bool.false_or];exact i_ k r
theorem xV (k j:κ)(y:V):∀kvs:List (κ×V),br (kvs.map λkv=>if kv.1=k then (kv.1,y) else kv) j=(br kvs j).map λx=>if j=k then y else x
 | []=>rfl
 | p::r=>by
  have ih:=xV k j y r;rw [bL];by_cases h:p.1=k
  .rw [az h];by_cases e:p.1=j
   .rw [eF (p:=(p.1,y)) e,eF e,rg,az (e.symm.trans h)]
   rw [eG (p:=(p.1,y)) e,eG e,ih]
  rw [aA h];by_cases e:p.1=j
  .rw [eF (p:=p) e,eF e,rg,aA (λz=>h (e.trans z))]
  rw [eG (p:=p) e,eG e,ih]
theorem uy (k j:κ)(y:V):∀kvs:List (κ×V),br kvs k=none->br (kvs++[(k,y)]) j=if j=k then some y else br kvs j
 | [],_=>by
  by_cases e:k=j
  .rw [az e.symm];exact eF (p:=(k,y)) e
  rw [aA (λz=>e z.symm)];exact eG (p:=(k,y)) e
 | p::r,hn=>by
  rw [rm];have hk:¬p.1=k:=λz=>by rw [eF z] at hn;cases hn
  rw [eG hk] at hn;have ih:=uy k j y r hn;by_cases e:p.1=j
  .rw [eF e,eF e,aA (λz=>hk (e.trans z))]
  rw [eG e,eG e,ih]
def xS (kvs:List (κ×V))(k j:κ)(y:V):br (bE kvs k y) j=if j=k then some y else br kvs j:=by
 unfold bE;by_cases a:(kvs.any λkv=>decide (kv.1=k))=true
 .rw [az a,xV];rw [i_] at a;by_cases e:j=k
  .obtain⟨x,hx⟩:=jY.mp a;rw [az e,e,hx,rg,az rfl]
  rw [aA e];cases br kvs j with
  | none=>rfl
  | some x=>rw [rg,aA e]
 rw [aA a];refine uy k j y kvs ?_;rw [i_] at a;cases q:br kvs k with
 | none=>rfl
 | some x=>rw [q] at a;exact(a rfl).elim
def fg (kvs:List (κ×V))(k:κ)(v:V):(bE kvs k v).length<=kvs.length+1:=by
 unfold bE
 split
 .rw [aB];omega
 rw [cu,eC,i6];omega
def ym {kvs:List (κ×V)}{k:κ}(v:V)(h:br kvs k=none):bE kvs k v=kvs++[(k,v)]:=by
 unfold bE;rw [i_,h];exact aA nofun
def iE.je {o:Option V}{u:Option Value}(r:iE o u):o.isSome=u.isSome:=by
 cases o with
 | none=>cases u with
  | none=>rfl
  | some _=>exact(show False from r).elim
 | some _=>cases u with
  | none=>exact(show False from r).elim
  | some _=>rfl
theorem iE.getD {o:Option V}{u:Option Value}{d:V}{d':Value}(r:iE o u)(rd:RelV d d'):RelV (o.getD d) (u.getD d'):=by
 cases o with
 | none=>cases u with
  | none=>exact rd
  | some _=>exact(show False from r).elim
 | some _=>cases u with
  | none=>exact(show False from r).elim
  | some _=>exact r
def KV.val {kvs:List (κ×V)}{vs:List (κ×Value)}(r:KV kvs vs)(k:κ):iE (br kvs k) (valueAt vs k):=by
 unfold KV at r
 induction r with
 | nil=>exact True.intro
 | @cons p q ps qs h t ih =>
  obtain⟨h1,h2⟩:=h;by_cases e:p.1=k
  .have e':q.1=k:=h1.symm.trans e;have b:valueAt (q::qs) k=some q.2:=by simp [valueAt,oW,e']
   rw [eF e,b];exact h2
  have e':¬q.1=k:=λz=>e (h1.trans z);have b:valueAt (q::qs) k=valueAt qs k:=by simp [valueAt,oW,e']
  rw [eG e,b];exact ih
theorem KV.any {kvs:List (κ×V)}{vs:List (κ×Value)}(r:KV kvs vs)(k:κ):(kvs.any λkv=>decide (kv.1=k))=vs.any λkv=>decide (kv.1=k):=by
 unfold KV at r
 induction r with
 | nil=>rfl
 | cons h t ih=>rw [rf,rf,ih,h.1]
def KV.Mu {kvs:List (κ×V)}{vs:List (κ×Value)}(r:KV kvs vs)(k:κ){y:V}{u:Value}(ry:RelV y u) :
  KV (kvs.map λkv=>if kv.1=k then (kv.1,y) else kv) (vs.map λkv=>if kv.1=k then (kv.1,u) else kv):=by
 unfold KV at r ⊢
 induction r with
 | nil=>exact .nil
 | @cons p q ps qs h t ih =>
  rw [bL,bL];refine .cons ?_ ih;obtain⟨h1,h2⟩:=h;by_cases e:p.1=k
  .rw [az e,az (h1.symm.trans e)];exact⟨h1,ry⟩
  rw [aA e,aA (λz=>e (h1.trans z))];exact⟨h1,h2⟩
def KV.put {kvs:List (κ×V)}{vs:List (κ×Value)}(r:KV kvs vs)(k:κ){y:V}{u:Value}(ry:RelV y u):KV (bE kvs k y) (stored vs k u):=by
 unfold bE stored;rw [r.any k];by_cases e:(vs.any λkv=>decide (kv.1=k))=true
 .rw [az e,az e];exact r.Mu k ry
 rw [aA e,aA e];exact gh r ⟨rfl,ry⟩
def KV.drop {kvs:List (κ×V)}{vs:List (κ×Value)}(r:KV kvs vs)(k:κ):KV (Lq kvs k) (without vs k):=by
 unfold KV at r ⊢;unfold Lq without
 induction r with
 | nil=>exact .nil
 | @cons p q ps qs h t ih =>
  obtain⟨h1,h2⟩:=h;rw [lK,lK];by_cases e:p.1=k
  .have a:¬decide (p.1≠k)=true:=by simp [e]
   have b:¬decide (q.1≠k)=true:=by simp [h1.symm.trans e]
   rw [aA a,aA b];exact ih
  have e':¬q.1=k:=λz=>e (h1.trans z);have a:decide (p.1≠k)=true:=by simp [e]
  have b:decide (q.1≠k)=true:=by simp [e']
  rw [az a,az b];exact .cons ⟨h1,h2⟩ ih
def KV.keys {kvs:List (κ×V)}{vs:List (κ×Value)}(r:KV kvs vs):kvs.map (·.1)=vs.map (·.1):=by
 unfold KV at r
 induction r with
 | nil=>rfl
 | cons h t ih=>rw [bL,bL,ih,h.1]
theorem KV.length {kvs:List (κ×V)}{vs:List (κ×Value)}(r:KV kvs vs):kvs.length=vs.length:=bG r
end
def lZ {P:Program}{w:World}{k:aK}{u:Value}(r:RelV (kV k) u):(a7 P w).is k u=true:=by
 cases k with
 | inl i=>obtain⟨t,e⟩:=(show ∃t,u=Value.int i t from r);subst e;exact yA P w i t
 | inr x=>obtain⟨t,e⟩:=(show ∃t,u=Value.str x t from r);subst e;exact yz P w x t
theorem uX {P:Program}{w:World}:∀{ks:List aK}{us:List Value},aV (ks.map kV) us->ItemsAre (a7 P w) ks us
 | [],_,r=>by rw [j4] at r;cases r;exact .nil
 | k::ks,_,r=>by
  rw [bL] at r;cases r with
  | cons h t=>exact .cons (lZ h) (uX t)
abbrev KT (H:Hp):List (List aK×V)->List (List aK×Addr×Value)->Prop:=Paired λp q=>p.1=q.1/\H q.2.1=some (.tup (p.1.map kV))/\RelV p.2 q.2.2
def KT.val {H:Hp}{kvs:List (List aK×V)}{xs:List (List aK×Addr×Value)}(r:KT H kvs xs)(k:List aK):iE (br kvs k) ((atKey xs k).map (·.2)):=by
 induction r with
 | nil=>exact True.intro
 | @cons p q ps qs h t ih =>
  obtain⟨h1,_,h2⟩:=h;by_cases e:p.1=k
  .have e':q.1=k:=h1.symm.trans e;have b:atKey (q::qs) k=some q.2:=by simp [atKey,oW,e']
   rw [eF e,b];exact h2
  have e':¬q.1=k:=λz=>e (h1.trans z);have b:atKey (q::qs) k=atKey qs k:=by simp [atKey,oW,e']
  rw [eG e,b];exact ih
def KT.Mu {H:Hp}{kvs:List (List aK×V)}{xs:List (List aK×Addr×Value)}(r:KT H kvs xs)(k:List aK){y:V}{u:Value}(ry:RelV y u) :
  KT H (kvs.map λkv=>if kv.1=k then (kv.1,y) else kv) (xs.map (putAt k u)):=by
 induction r with
 | nil=>exact .nil
 | @cons p q ps qs h t ih =>
  rw [bL,bL];refine .cons ?_ ih;obtain⟨h1,h2,h3⟩:=h;unfold putAt;by_cases e:p.1=k
  .rw [az e,az (h1.symm.trans e)];exact⟨h1,h2,ry⟩
  rw [aA e,aA (λz=>e (h1.trans z))];exact⟨h1,h2,h3⟩
def KT.put {H:Hp}{kvs:List (List aK×V)}{xs:List (List aK×Addr×Value)}(r:KT H kvs xs)(k:List aK){b:Addr}{y:V}{u:Value}(hb:H b=some (.tup (k.map kV)))(ry:RelV y u) :
  KT H (bE kvs k y) (storedH xs k b u):=by
 have e:(kvs.any λkv=>decide (kv.1=k))=(atKey xs k).isSome:=by
  rw [i_,(r.val k).je,o7]
 unfold bE storedH;rw [e];by_cases q:(atKey xs k).isSome=true
 .rw [az q,az q];exact r.Mu k ry
 rw [aA q,aA q];exact gh r ⟨rfl,hb,ry⟩
def KT.keeps {H H':Hp}{kvs:List (List aK×V)}{xs:List (List aK×Addr×Value)}(r:KT H kvs xs)(ht:∀b ys,H b=some (.tup ys)->H' b=some (.tup ys)):KT H' kvs xs :=
 Paired.ft r λ_ _ z=>⟨z.1,ht _ _ z.2.1,z.2.2⟩
section
variable {P:Program}{w:World}{H:Hp}{h:Heap}{a:Addr}
def KY {u:HO}(ok:lJ P w H h)(e:Rd H a u):bW P w H h a u:=e.ok ok
def oC {kvs:List (aK×V)}(ok:lJ P w H h)(e:Rd H a (.dK kvs)):kvs.length<=sizeLine/\(a == sysModules)=false/\∃vs,KV kvs vs/\h.DictOf (a7 P w) a vs :=
 show bW P w H h a (.dK kvs) from KY ok e
def yY {kvs:List (aK×V)}(ok:lJ P w H h)(e:H a=some (.dK kvs)):kvs.length<=sizeLine/\(a == sysModules)=false/\∃vs,KV kvs vs/\h.DictOf (a7 P w) a vs:=oC ok (.inl e)
def mK {ks:List aK}(ok:lJ P w H h)(e:H a=some (.tup (ks.map kV))):(tupleKind (a7 P w)).is h ks a:=by
 obtain⟨_,aN,r,o,h1,h2,n,h3⟩:=(show bW P w H h a (.tup (ks.map kV)) from ok a _ e);exact⟨o,aN.toArray,n,h1,h2,h3,by simpa using uX r⟩
def tJ {kvs:List (List aK×V)}(ok:lJ P w H h)(e:Rd H a (.dT kvs)):kvs.length<=sizeLine/\(a == sysModules)=false /\
  ∃xs,KT H kvs xs/\h.DictOfH (tupleKind (a7 P w)) a xs:=by
 obtain⟨z,y,xs,r,o,es,ep,h1,h2,h3,h4,h5⟩:=(show bW P w H h a (.dT kvs) from KY ok e);refine⟨z,y,xs,r,o,es,ep,h1,h2,h3,h4,λx hx=>?_,h5⟩;have all:∀{l:List (List aK×V)}{m:List (List aK×Addr×Value)},KT H l m->∀x∈m,(tupleKind (a7 P w)).is h x.1 x.2.1:=by
  intro l m q
  induction q with
  | nil=>intro x hx;exact nomatch hx
  | @cons p q ps qs hq t ih =>
   intro x hx;rcases bN.mp hx with e | hx
   .subst e;exact mK ok (by rw [<-hq.1];exact hq.2.1)
   exact ih x hx
 exact all r x hx
def R8 {kvs:List (List aK×V)}(ok:lJ P w H h)(e:H a=some (.dT kvs)):kvs.length<=sizeLine/\(a == sysModules)=false /\
  ∃xs,KT H kvs xs/\h.DictOfH (tupleKind (a7 P w)) a xs:=tJ ok (.inl e)
end
def cC (H:Hp)(a:Addr)(y:V)(r:Option V):Prop :=
 (∃kvs k,Rd H a (.dK kvs)/\y=kV k/\r=br kvs k)\/∃kvs k b,Rd H a (.dT kvs)/\y=.ref b/\H b=some (.tup (k.map kV))/\r=br kvs k
def pM (H:Hp)(a:Addr)(y v:V)(H':Hp):Prop :=
 (∃kvs k,H a=some (.dK kvs)/\y=kV k/\kvs.length < sizeLine/\H'=upd H a (.dK (bE kvs k v))) \/
 ∃kvs k b,H a=some (.dT kvs)/\y=.ref b/\H b=some (.tup (k.map kV))/\kvs.length < sizeLine/\H'=upd H a (.dT (bE kvs k v))
theorem cC.k {H:Hp}{a:Addr}{kvs:List (aK×V)}{k:aK}(e:H a=some (.dK kvs)):cC H a (kV k) (br kvs k):=.inl ⟨kvs,k,.inl e,rfl,rfl⟩
def cC.t {H:Hp}{a b:Addr}{kvs:List (List aK×V)}{k:List aK}(e:H a=some (.dT kvs))(eb:H b=some (.tup (k.map kV))):cC H a (.ref b) (br kvs k):=.inr ⟨kvs,k,b,.inl e,rfl,eb,rfl⟩
theorem pM.k {H:Hp}{a:Addr}{kvs:List (aK×V)}{k:aK}{v:V}(e:H a=some (.dK kvs))(hl:kvs.length < sizeLine):pM H a (kV k) v (upd H a (.dK (bE kvs k v))):=.inl ⟨kvs,k,e,rfl,hl,rfl⟩
def pM.t {H:Hp}{a b:Addr}{kvs:List (List aK×V)}{k:List aK}{v:V}(e:H a=some (.dT kvs))(eb:H b=some (.tup (k.map kV)))(hl:kvs.length < sizeLine) :
  pM H a (.ref b) v (upd H a (.dT (bE kvs k v))):=.inr ⟨kvs,k,b,e,rfl,eb,hl,rfl⟩
section
variable {X:Cx}{ag:List (Addr×Obj)}{σ:St}{H:Hp}{s:Shared}{a:Addr}{y v:V}{u r:Value}{o:Option V}{A:Around}{E:Value->Shared->Prop}
def Inv.big (I:Inv X ag σ H s):sysModules < s.heap.objs.size:=by
 have h:mainGlobals < s.heap.objs.size:=(I.mod.glob.keeps I.bk).lt;exact j6 nofun h
def Eg {Q:Value->Shared->Prop}(hu:A.units+1 < cLine)(I:Inv X ag σ H s)(g:cC H a y (some v))(ry:RelV y u)(h:∀w' s',Inv X ag σ H s'->RelV v w'->Q w' s') :
  wpAny (model X.prog X.w) A (getItem (.ref a) u) Q E s:=by
 rcases g with ⟨kvs,k,e,ey,l⟩ | ⟨kvs,k,b,e,ey,eb,l⟩
 .subst ey;obtain⟨z,hd,vs,rel,dd⟩:=oC I.bF e;obtain⟨w',hw,Ag⟩:=iE.some_of (v:=v) (o:=valueAt vs k) (by rw [l];exact rel.val k);exact wpAny_getItem_of (lZ ry) dd.mapOf hw (h w' _ (I.tok _) Ag)
 subst ey;cases (show u=Value.ref b from ry);obtain⟨z,hd,xs,rel,dd⟩:=tJ I.bF e;obtain⟨w',hw,Ag⟩:=iE.some_of (v:=v) (o:=(atKey xs k).map (·.2)) (by rw [l];exact rel.val k);obtain⟨p,hp,AU⟩:=bR.mp hw;refine wpAny_getItem_heap (o5 hu) (mK I.bF eb) dd hp ?_;rw [AU];exact h w' _ (I.tok _) Ag
def XY {Q:Value->Shared->Prop}(hu:A.units+1 < cLine)(I:Inv X ag σ H s)(g:cC H a y o)(ry:RelV y u)(h:∀s',Inv X ag σ H s'->Q (.bool o.isSome) s') :
  wpAny (model X.prog X.w) A (compareOp .In u (.ref a)) Q E s:=by
 rcases g with ⟨kvs,k,e,ey,l⟩ | ⟨kvs,k,b,e,ey,eb,l⟩
 .subst ey;obtain⟨z,hd,vs,rel,dd⟩:=oC I.bF e;refine wpAny_in_of (lZ ry) hd dd.mapOf ?_;rw [<-(rel.val k).je,<-l];exact h _ (I.tok _)
 subst ey;cases (show u=Value.ref b from ry);obtain⟨z,hd,xs,rel,dd⟩:=tJ I.bF e;refine wpAny_in_heap (o5 hu) (mK I.bF eb) hd dd ?_;have q:=(rel.val k).je;rw [o7] at q;rw [<-q,<-l];exact h _ (I.tok _)
def Kl {Q:Value->Shared->Prop}(hu:A.units+1 < cLine)(I:Inv X ag σ H s)(g:cC H a y o)(ry:RelV y u)(h:∀s',Inv X ag σ H s'->Q (.bool (!o.isSome)) s') :
  wpAny (model X.prog X.w) A (compareOp .NotIn u (.ref a)) Q E s:=by
 rcases g with ⟨kvs,k,e,ey,l⟩ | ⟨kvs,k,b,e,ey,eb,l⟩
 .subst ey;obtain⟨z,hd,vs,rel,dd⟩:=oC I.bF e;refine wpAny_notIn_of (lZ ry) hd dd.mapOf ?_;rw [<-(rel.val k).je,<-l];exact h _ (I.tok _)
 subst ey;cases (show u=Value.ref b from ry);obtain⟨z,hd,xs,rel,dd⟩:=tJ I.bF e;refine wpAny_notIn_heap (o5 hu) (mK I.bF eb) hd dd ?_;have q:=(rel.val k).je;rw [o7] at q;rw [<-q,<-l];exact h _ (I.tok _)
def q8 {h':Heap}{t':Nat}{ob:HO}(I:Inv X ag σ H s)(mu:Sz (H a))(hs:Heap.SameBut a s.heap h')(he:∃q,h'.get? a=some q)(new:bW X.prog X.w (upd H a ob) h' a ob) :
  Inv X ag σ (upd H a ob) { s with heap:=h',toks:=t' } :=
 I.write (x:=a) (e:=a) mu (.inl rfl) (λb q hb z=>(hs.2 b hb).trans z) he new
def tK {P:Program}{w:World}{H':Hp}{h':Heap}{kvs:List (aK×V)}{vs:List (aK×Value)}(z:kvs.length<=sizeLine)(hd:(a == sysModules)=false)(rel:KV kvs vs)(dd:h'.DictOf (a7 P w) a vs) :
  bW P w H' h' a (.dK kvs):=⟨z,hd,vs,rel,dd⟩
def Ef {H':Hp}{Q:Unit->Shared->Prop}(hu:A.units+1 < cLine)(I:Inv X ag σ H s)(g:pM H a y v H')(ry:RelV y u)(rv:RelV v r)(h:∀s',Inv X ag σ H' s'->Q () s') :
  wpAny (model X.prog X.w) A (setItem (.ref a) u r) Q E s:=by
 rcases g with ⟨kvs,k,e,ey,l,eH⟩ | ⟨kvs,k,b,e,ey,eb,l,eH⟩
 .subst ey eH;obtain⟨z,hd,vs,rel,dd⟩:=yY I.bF e;have hz:vs.length<=sizeLine:=by rw [<-rel.length];exact z
  have hl:(bE kvs k v).length<=sizeLine:=by have:=fg kvs k v;omega
  refine wpAny_setItem_pairs (hsz:=hz) (lZ ry) dd λh' IJ hs=>h _ ?_;have he:∃q,h'.get? a=some q:=let ⟨q,_,_,hq,_⟩:=IJ;⟨q,hq⟩;exact q8 I (by rw [e];exact True.intro) hs he (tK hl hd (rel.put k rv) IJ)
 subst ey eH;cases (show u=Value.ref b from ry);obtain⟨z,hd,xs,rel,dd⟩:=R8 I.bF e;have hz:xs.length<=sizeLine:=by rw [<-bG rel];exact z
 have hl:(bE kvs k v).length<=sizeLine:=by have:=fg kvs k v;omega
 refine wpAny_setItem_heap (hsz:=hz) (o5 hu) (mK I.bF eb) dd λh' IJ hs=>h _ ?_;obtain⟨q,es,ep,hq,h2,h3,h4,_,h5⟩:=IJ;refine q8 I (by rw [e];exact True.intro) hs ⟨q,hq⟩ ⟨hl,hd,_,(rel.put k eb rv).keeps λc ys ec=>?_,q,es,ep,hq,h2,h3,h4,h5⟩;rw [ai (Ql ec e (λz=>nomatch z))];exact ec
end
section
variable {X:Cx}{ag:List (Addr×Obj)}{σ:St}{H:Hp}{s:Shared}{a:Addr}{kvs:List (aK×V)}{k:aK}{u:Value}{A:Around}{E:Value->Shared->Prop}
def R_ {Q:Value->Shared->Prop}(I:Inv X ag σ H s)(e:Rd H a (.dK kvs))(h:∀t s',Inv X ag σ H s'->Q (.int kvs.length t) s'):wpAny (model X.prog X.w) A (call (.builtin "len") [.ref a]) Q E s:=by
 obtain⟨z,hd,vs,rel,dd⟩:=oC I.bF e;refine call_len_dict hd dd (by rw [<-rel.length];rw [gL] at z;omega) ?_;rw [<-rel.length];exact h _ _ (I.tok _)
end
def Sy (i:Expr):Prop:=∀ov iv,subscripted i false ov iv=operate [ov,iv] (getItem ov iv)
def Bw {prog:Program}{w:World}{A:Around}{E:Value->Shared->Prop}{s:Shared}{env:Env}{value slice:Expr}{pos:Pos}{T id:String}{Q:Value->Shared->Prop}
  (hl:typeLookup (.type T) "__getitem__"=pure (some (.builtin id)))(hs:Sy slice)
  (h:wpAny (model prog w) A (eval value env) (λo s₁=>wpAny (model prog w) A (eval slice env) (λi s₂=>s₂.TypeIs o T/\wpAny (model prog w) A (getItem o i) Q E s₂) E s₁) E s) :
  wpAny (model prog w) A (eval (.Subscript value slice pos) env) Q E s:=by
 refine Subscript_ (cv h (λo s₁ h₁=>cv h₁ (λi s₂ h₂=>?_) λ_ _ x=>x) λ_ _ x=>x);obtain⟨hT,h₂⟩:=h₂;unfold subscriptTail;refine ax ?_;rw [getitemInPython_of_ne hT.not_modules];refine ax (wpAny_specialOf hT hl ?_);have fin:wpAny (model prog w) A (subscripted slice false o i) (λr s₃=>wpAny (model prog w) A (letTemporaryGo value o r >>= λ_=>pure r) Q E s₃) E s₂:=by
  rw [hs o i];exact wpAny_operating (cv h₂ (λr s₃ h₃=>ax (wpAny_letTemporaryGo (aI h₃))) λ_ _ x=>x)
 first
  | exact aI (ax fin)
  | exact ax (aI (ax fin))
  | exact ax fin
def y_ {X:Cx}{ag:List (Addr×Obj)}{σ:St}{H:Hp}{s:Shared}{a:Addr}{y:V}{o:Option V}(I:Inv X ag σ H s)(g:cC H a y o):s.TypeIs (.ref a) "dict" := by
 rcases g with ⟨kvs,k,e,_,_⟩ | ⟨kvs,k,b,e,_,_,_⟩
 .obtain⟨_,_,vs,_,dd⟩:=oC I.bF e;exact dd.typeIs
 obtain⟨_,_,xs,_,dd⟩:=tJ I.bF e;exact dd.typeIs
inductive XDp (x:V)(S:Addr->Hp->Prop)(R:Hp->Prop):Prop
|mk(a:Addr)(H4:Hp)(e:x=.ref a)(s:S a H4)(q:R H4)
inductive XDo (S:Option V->Prop)(R:Option V->Prop):Prop
|mk(o:Option V)(s:S o)(q:R o)
inductive XDg (x:V)(S:Addr->V->Prop)(R:V->Prop):Prop
|mk(a:Addr)(v:V)(e:x=.ref a)(s:S a v)(q:R v)
inductive Yz (x:V)(S:Addr->Option V->Prop)(R:Option V->Prop):Prop
|mk(a:Addr)(o:Option V)(e:x=.ref a)(s:S a o)(q:R o)
def Bs (td ty:TE):TE:=λσ H Q=>td σ H λx H1=>ty σ H1 λy H2=>XDg x (λa v=>cC H2 a y (some v)) λv=>Q v H2
def Pw (ty td:TE):TE:=λσ H Q=>ty σ H λy H1=>td σ H1 λx H2=>Yz x (λa o=>cC H2 a y o) λo=>Q (.bl o.isSome) H2
def Br (ty td:TE):TE:=λσ H Q=>ty σ H λy H1=>td σ H1 λx H2=>Yz x (λa o=>cC H2 a y o) λo=>Q (.bl (!o.isSome)) H2
def PU (td ty tv:TE):TS:=λD σ H=>tv σ H λv H1=>td σ H1 λx H2=>ty σ H2 λy H3=>XDp x (λa H4=>pM H3 a y v H4) λH4=>D.nx σ H4
section
variable {X:Cx}{o i e value:Expr}{pos pos' wb:Pos}{td ty tv:TE}
def fk (hu:X.A.units+1 < cLine)(ho:PE X o td)(hi:PE X i ty)(hs:Sy i):PE X (.Subscript o i pos) (Bs td ty):=by
 intro ag s σ H Q I h;refine Bw PySem.F.slot_dict_getitem.lookup hs (cK (ho ag s σ H _ I h) λu s1 aS=>?_);obtain⟨x,H1,I1,rx,q1⟩:=aS;refine cK (hi ag s1 σ H1 _ I1 q1) λiv s2 aS=>?_;obtain⟨y,H2,I2,ry,a,v,ex,g,q2⟩:=aS;subst ex;obtain rfl:u=Value.ref a:=rx;exact⟨y_ I2 g,Eg hu I2 g ry λw' s3 I3 Ag=>⟨v,H2,I3,Ag,q2⟩⟩
def pA (hu:X.A.units+1 < cLine)(hi:PE X i ty)(ho:PE X o td):PC X .In i o (Pw ty td):=by
 intro ag s σ H Q I h;refine cK (hi ag s σ H _ I h) λiv s1 aS=>?_;obtain⟨y,H1,I1,ry,q1⟩:=aS;refine cK (ho ag s1 σ H1 _ I1 q1) λu s2 aS=>?_;obtain⟨x,H2,I2,rx,a,ov,ex,g,q2⟩:=aS;subst ex;obtain rfl:u=Value.ref a:=rx;exact XY hu I2 g ry λs3 I3=>⟨.bl ov.isSome,H2,I3,rfl,q2⟩
def eJ (hu:X.A.units+1 < cLine)(hi:PE X i ty)(ho:PE X o td):PC X .NotIn i o (Br ty td):=by
 intro ag s σ H Q I h;refine cK (hi ag s σ H _ I h) λiv s1 aS=>?_;obtain⟨y,H1,I1,ry,q1⟩:=aS;refine cK (ho ag s1 σ H1 _ I1 q1) λu s2 aS=>?_;obtain⟨x,H2,I2,rx,a,ov,ex,g,q2⟩:=aS;subst ex;obtain rfl:u=Value.ref a:=rx;exact Kl hu I2 g ry λs3 I3=>⟨.bl (!ov.isSome),H2,I3,rfl,q2⟩
def iL (hu:X.A.units+1 < cLine)(ho:PE X o td)(hi:PE X i ty)(hv:PE X value tv)(hs:swapsWith value (some (.Subscript o i pos')) pos.line X.env=pure false) :
  PS X (.Assign [.Subscript o i pos'] value pos) (PU td ty tv):=by
 intro ag s σ H D I h;refine wpAny_Assign_Subscript (cK (hv ag s σ H _ I h) λr s1 aS=>?_) hs;obtain⟨v,H1,I1,rv,q1⟩:=aS;refine cK (ho ag s1 σ H1 _ I1 q1) λu s2 aS=>?_;obtain⟨x,H2,I2,rx,q2⟩:=aS;refine cK (hi ag s2 σ H2 _ I2 q2) λiv s3 aS=>?_;obtain⟨y,H3,I3,ry,a,H4,ex,g,q3⟩:=aS;subst ex;obtain rfl:u=Value.ref a:=rx;exact Ef hu I3 g ry rv λs4 I4=>⟨σ,H4,I4,q3⟩
end
def yZ {P:Program}{w:World}{H:Hp}(h:Heap)(hb:sysModules < h.objs.size):bW P w H (h.push { cls:=.type "dict",data:=.dict #[] }) h.objs.size (.dK []) :=
 ⟨gI _,jX.mpr (dC (bw hb)),[],.nil,Heap.DictOf.new h⟩
def Fd:TE:=λ_ H Q=>∀p,H p=none->Q (.ref p) (upd H p (.dK []))
section
variable {X:Cx}{pos:Pos}
def gY:PE X (.Dict [] [] pos) Fd:=λag s σ H Q I h =>
 wpAny_Dict_empty ⟨.ref s.heap.objs.size,_,I.laid (a:=s.heap.objs.size) (o:=.dK []) (t':=s.toks) (λ_ _ q=>bu _ q) (aH _) (yZ s.heap I.big),rfl,h _ (I.bF.fresh (aH _))⟩
end
def zT:List (TE×TE)->St->Hp->(List (V×V)->Hp->Prop)->Prop
 | [],_,H,Q=>Q [] H
 | (tk,tv)::r,σ,H,Q=>tk σ H λx H1=>tv σ H1 λy H2=>zT r σ H2 λps H3=>Q ((x,y)::ps) H3
abbrev VV:List (V×V)->List (Value×Value)->Prop:=Paired λp q=>RelV p.1 q.1/\RelV p.2 q.2
def Ur (X:Cx)(pos:Pos)(keys:List (Option Expr))(values:List Expr)(IT:List (TE×TE)):Prop :=
 ∀(ag:List (Addr×Obj))(s:Shared)(σ:St)(H:Hp)(Q:List (V×V)->Hp->Prop),Inv X ag σ H s->zT IT σ H Q ->
  wpAny (model X.prog X.w) X.A (evalPairs (pairTrees keys values X.env pos)) (λvs s'=>∃ps H',Inv X ag σ H' s'/\VV ps vs/\Q ps H') X.xe s
def Jh {X:Cx}{pos:Pos}:Ur X pos [] [] []:=λag s σ H Q I h=>pairTrees_nil_walk ⟨[],H,I,.nil,h⟩
def F6 {X:Cx}{pos:Pos}{k v:Expr}{ks:List (Option Expr)}{vs:List Expr}{tk tv:TE}{IT:List (TE×TE)}(hk:PE X k tk)(hv:PE X v tv)(hr:Ur X pos ks vs IT) :
  Ur X pos (some k::ks) (v::vs) ((tk,tv)::IT):=λag s σ H Q I h =>
 pairTrees_cons_walk (cK (hk ag s σ H _ I h) λu s1 ⟨x,H1,I1,rx,q1⟩=>cK (hv ag s1 σ H1 _ I1 q1) λw2 s2 ⟨y,H2,I2,ry,q2⟩ =>
  cK (hr ag s2 σ H2 _ I2 q2) λws s3 ⟨ps,H3,I3,rel,q3⟩=>⟨(x,y)::ps,H3,I3,.cons ⟨rx,ry⟩ rel,q3⟩)
def mD (kvs more:List (aK×V)):List (aK×V):=more.foldl (λbA kv=>bE bA kv.1 kv.2) kvs
def KV.merge:∀{more:List (aK×V)}{rs:List (aK×Value)}{kvs:List (aK×V)}{vs:List (aK×Value)},KV more rs->KV kvs vs->KV (mD kvs more) (merged vs rs):=by
 intro more rs kvs vs r;unfold KV at r
 induction r generalizing kvs vs with
 | nil=>intro q;exact q
 | @cons p q ps qs h t ih =>
  intro r0;have e:KV (bE kvs p.1 p.2) (stored vs q.1 q.2):=by
   have:=r0.put p.1 h.2;rw [<-h.1];exact this
  exact ih e
theorem lY:∀(more kvs:List (aK×V)),(mD kvs more).length<=kvs.length+more.length
 | [],kvs=>by show kvs.length<=kvs.length+0;omega
 | p::r,kvs=>by
  have h1:=lY r (bE kvs p.1 p.2);have h2:=fg kvs p.1 p.2;show (mD (bE kvs p.1 p.2) r).length<=_;rw [eC];omega
theorem tR {P:Program}{w:World}:∀{kvs:List (aK×V)}{ws:List (Value×Value)},VV (kvs.map λkv=>(kV kv.1,kv.2)) ws->∃rs,Carries (a7 P w) ws rs/\KV kvs rs
 | [],_,r=>by rw [j4] at r;cases r;exact⟨[],True.intro,.nil⟩
 | p::kvs,_,r=>by
  rw [bL] at r;cases r with
  | @cons a b as bs h t =>
   obtain⟨rs,c,q⟩:=tR (P:=P) (w:=w) t;obtain⟨b1,b2⟩:=b;exact⟨(p.1,b2)::rs,⟨lZ h.1,rfl,c⟩,.cons ⟨rfl,h.2⟩ q⟩
def Pt (IT:List (TE×TE)):TE:=λσ H Q=>∀p,H p=none->zT IT σ (upd H p (.dK [])) λps H2=>H2 p=some (.dK [])/\∃kvs:List (aK×V),ps=kvs.map (λkv=>(kV kv.1,kv.2))/\kvs.length<=15/\Q (.ref p) (upd H2 p (.dK (mD [] kvs)))
def Jn {X:Cx}{pos:Pos}{keys:List (Option Expr)}{values:List Expr}{IT:List (TE×TE)}(h:Ur X pos keys values IT)(qv:keys.all (·.isSome)=true)(hl:keys.length=values.length)(h0:keys≠[])
  (Xi:keys.length<=15):PE X (.Dict keys values pos) (Pt IT):=by
 intro ag s σ H Q I q;have hn:=I.bF.fresh (aH s.heap.objs.size);have I1:=I.laid (a:=s.heap.objs.size) (o:=.dK []) (h':=s.heap.push { cls:=.type "dict",data:=.dict #[] }) (t':=s.toks) (λ_ _ q=>bu _ q) (aH _) (yZ s.heap I.big);refine wpAny_Dict_walk (knd:=a7 X.prog X.w) qv hl h0 Xi (cK (h ag _ σ _ _ I1 (q _ hn)) λws s2 aS=>?_);obtain⟨ps,H2,I2,rel,e,kvs,ep,lk,q2⟩:=aS;subst ep;obtain⟨rs,c,rk⟩:=tR (P:=X.prog) (w:=X.w) rel;obtain⟨z,hd,vs0,r0,dd⟩:=yY I2.bF e;cases r0;refine⟨rs,c,dd,λh' IJ hs=>⟨.ref s.heap.objs.size,_,?_,rfl,q2⟩⟩;have hz:(mD [] kvs).length<=sizeLine:=by
  have h1:=lY kvs [];rw [i6] at h1;rw [gL];omega
 have he:∃q,h'.get? s.heap.objs.size=some q:=let ⟨q,_,_,hq,_⟩:=IJ;⟨q,hq⟩;exact q8 I2 (by rw [e];exact True.intro) hs he (tK hz hd (rk.merge .nil) IJ)
structure M1 (X:Cx)(o:Expr)(m:Str)(apos:Pos)(e:Expr)(g8:Pos):Prop where
 base:attributeBase o m X.env (eval o X.env)=eval o X.env
 NR:((backTo g8 (starEach [e] X.env)).all (λx=>!x.1) && (backToKw g8 (keywordEach [] X.env)).all (λx=>x.1.isSome)
  && decide (([e]:List Expr).length+([]:List Keyword).length+(if ([]:List Keyword).isEmpty then 0 else 1) < 30))=true
 line:(apos.endLine == g8.line)=true
 trees:backTo g8 (starEach [e] X.env)=[(false,eval e X.env)]
structure M2 (X:Cx)(o:Expr)(m:Str)(apos:Pos)(e f:Expr)(g8:Pos):Prop where
 base:attributeBase o m X.env (eval o X.env)=eval o X.env
 NR:((backTo g8 (starEach [e,f] X.env)).all (λx=>!x.1) && (backToKw g8 (keywordEach [] X.env)).all (λx=>x.1.isSome)
  && decide (([e,f]:List Expr).length+([]:List Keyword).length+(if ([]:List Keyword).isEmpty then 0 else 1) < 30))=true
 line:(apos.endLine == g8.line)=true
 trees:backTo g8 (starEach [e,f] X.env)=[(false,eval e X.env),(false,eval f X.env)]
def Us (H:Hp)(a:Addr):Prop:=(∃kvs,Rd H a (.dK kvs))\/∃kvs,Rd H a (.dT kvs)
def AR {X:Cx}{ag:List (Addr×Obj)}{σ:St}{H:Hp}{s:Shared}{a:Addr}(I:Inv X ag σ H s)(d:Us H a) :
  s.TypeIs (.ref a) "dict" /\ (∀b,Value.ref a=.ref b->∃ob,s.heap.get? b=some ob/\ob.dict=none)/\(a == sysModules)=false:=by
 rcases d with ⟨kvs,e⟩ | ⟨kvs,e⟩
 .obtain⟨_,hd,vs,_,dd⟩:=oC I.bF e;refine⟨dd.typeIs,λb q=>?_,hd⟩;cases q;obtain⟨ob,_,_,h1,h2,_⟩:=dd;exact⟨ob,h1,h2.2.1⟩
 obtain⟨_,hd,xs,_,dd⟩:=tJ I.bF e;refine⟨dd.typeIs,λb q=>?_,hd⟩;cases q;obtain⟨ob,_,_,h1,h2,_⟩:=dd;exact⟨ob,h1,h2.2.1⟩
section
variable {X:Cx}{ag:List (Addr×Obj)}{σ:St}{H:Hp}{s:Shared}{a:Addr}{y d:V}{u r:Value}{o:Option V}{A:Around}{E:Value->Shared->Prop}
def N2 {Q:Value->Shared->Prop}(hu:A.units+1 < cLine)(I:Inv X ag σ H s)(g:cC H a y o)(ry:RelV y u)(rd:RelV d r)(h:∀w' s',Inv X ag σ H s'->RelV (o.getD d) w'->Q w' s') :
  wpAny (model X.prog X.w) A (call (.builtin "dict.get") [.ref a,u,r]) Q E s:=by
 rcases g with ⟨kvs,k,e,ey,l⟩ | ⟨kvs,k,b,e,ey,eb,l⟩
 .subst ey;obtain⟨z,hd,vs,rel,dd⟩:=oC I.bF e;refine call_meetsIn PySem.F.slot_dict_get dd.typeIs PySem.F.entry_dict_get (PySem.F.args_dict_get_3 _ _ _) (meets_dict_get_default (a7 X.prog X.w) a (lZ ry) hd r) ⟨_,dd.mapOf,h _ _ (I.tok _) ?_⟩;rw [l];exact(rel.val k).getD rd
 subst ey;cases (show u=Value.ref b from ry);obtain⟨z,hd,xs,rel,dd⟩:=tJ I.bF e;refine call_meetsIn PySem.F.slot_dict_get dd.typeIs PySem.F.entry_dict_get (PySem.F.args_dict_get_3 _ _ _) (meetsH_dict_get_default (tupleKind (a7 X.prog X.w)) a b hd r) ⟨o5 hu,k,xs,mK I.bF eb,dd,h _ _ (I.tok _) ?_⟩;rw [l];exact(rel.val k).getD rd
end
def L_ (td ty tx:TE):TE:=λσ H Q=>td σ H λx H1=>Uo x (Us H1) λa=>ty σ H1 λy H2=>tx σ H2 λz H3=>XDo (cC H3 a y) λo=>Q (o.getD z) H3
section
variable {X:Cx}{o e f:Expr}{apos g8:Pos}{td ty tx:TE}
def Gb (hu:X.A.units+1 < cLine)(ho:PE X o td)(he:PE X e ty)(hf:PE X f tx)(m:M2 X o "get" apos e f g8):PE X (.Call (.Attribute o "get" apos) [e,f] [] g8) (L_ td ty tx):=by
 intro ag s σ H Q I h;refine wpAny_Call_method m.base m.NR m.line zL PySem.F.slot_dict_get PySem.F.type_dict_get (cK (ho ag s σ H _ I h) λu s1 aS=>?_);obtain⟨x,H1,I1,rx,a,ex,d,q1⟩:=aS;subst ex;obtain rfl:u=Value.ref a:=rx;obtain⟨t1,t2,_⟩:=AR I1 d;refine⟨t1,t2,?_⟩;rw [m.trees];refine vQ rfl (vH (oZ (cK (he ag s1 σ H1 _ I1 q1) λiv s2 ⟨y,H2,I2,ry,q2⟩ =>
  oZ (cK (hf ag s2 σ H2 _ I2 q2) λfv s3 ⟨z,H3,I3,rz,ov,g,q3⟩=>Calls.spliced_nil ?_))))
 exact N2 hu I3 g ry rz λw' s4 I4 Ag=>⟨_,H3,I4,Ag,q3⟩
end
open PySem
def wW:typeLookup (.type "list") "keys"=pure none:=by rw [typeLookup_type,builtinLookup_eq_fast];kernel_rfl
def wX:typeLookup (.type "list") "__getattr__"=pure none:=by rw [typeLookup_type,builtinLookup_eq_fast];kernel_rfl
section
variable {prog:Program}{w:World}{A:Around}{E:Value->Shared->Prop}{h:Heap}{g:Array GenState}{d:Drawn}{t:Nat}{os:OsState}{a:Addr}{o:Obj}
def Fh:isSubtype (.type "AttributeError") (.type "AttributeError")=pure true:=by rw [isSubtype_type];kernel_rfl
def MC {m:Str}{tk:Tok}:ownMembersOf (.type "AttributeError") [.str m tk]=#[unsetMember,unsetMember]:=by kernel_rfl
def Hv {m:Str}{tk:Tok}:firstArgMember (.type "AttributeError") [.str m tk]=pure .none:=by kernel_rfl
def Ai {α:Type}{self:Value}{name msg:Str}{Q:α->Shared->Prop}(hm:msg.length<=sizeLine)(hh:A.handled=none)
  (hq:∀h' t' e oe,(∀b o,h.get? b=some o->h'.get? b=some o)->h'.get? e=some oe->oe.cls=.type "AttributeError" -> E (.ref e) ⟨h',g,d,t',os⟩) :
  wpAny (model prog w) A (raiseAttrError self name msg) Q E ⟨h,g,d,t,os⟩:=by
 have f1:=Fh;unfold raiseAttrError newExc;refine ax (wpAny_mkStr ?_ hm);have fe:=Hv (m:=msg) (tk:=t);rw [MC]
 repeat (any_goals (first | assumption | wp_step))
 unfold raiseNew;refine ax (wpAny_handled ?_);rw [hh];refine ax (aI ?_);refine wpAny_throw ?_;refine hq _ _ _ _ (λb o q=>?_) (lR _ (cZ _ rfl) rfl) rfl;have lt:=aO q;rw [gK _ _ (by rw [j7];exact jI (rH lt))];exact bu _ (bu _ q)
def AO {tk:Tok}{aN:Array Value}{n:Nat}{Q:Fin->Shared->Prop}(hx:h.get? a=some { cls:=.type "list",data:=.seq aN n })(hh:A.handled=none)
  (hq:∀h' t' e oe,(∀b o,h.get? b=some o->h'.get? b=some o)->h'.get? e=some oe->oe.cls=.type "AttributeError" -> E (.ref e) ⟨h',g,d,t',os⟩) :
  wpAny (model prog w) A (Builtin.«object.__getattribute__» ⟨[.ref a,.str "keys" tk],[]⟩) Q E ⟨h,g,d,t,os⟩:=by
 have hT:(⟨h,g,d,t,os⟩:Shared).TypeIs (.ref a) "list" := ⟨_,hx,rfl⟩;have f4:=wW
 repeat (any_goals (first | assumption | wp_step))
 exact Ai nofun hh hq
def pD {aN:Array Value}{n:Nat}{Q:Option Value->Shared->Prop}(hx:h.get? a=some { cls:=.type "list",data:=.seq aN n })(hh:A.handled=none)
  (hq:∀h' t',(∀b o,h.get? b=some o->h'.get? b=some o)->Q none ⟨h',g,d,t',os⟩):wpAny (model prog w) A (getAttr? (.ref a) "keys") Q E ⟨h,g,d,t,os⟩:=by
 have hT:∀t',(⟨h,g,d,t',os⟩:Shared).TypeIs (.ref a) "list" := λt'=>⟨_,hx,rfl⟩;have f1:=Fh;have f2:=vU.lookup;have f3:=vU.bind (.ref a);have f4:=wX;unfold getAttr? getAttrBy? getAttrBy;refine ax (wpAny_mkText (ax (oO (gi (ax (iR (hT _) ?_))))));rw [f2];refine ax (aI ?_);show wpAny _ _ (getAttrByItsOwn _ _ _ _ _ _) _ _ _;unfold getAttrByItsOwn;refine ax (aI (a:=none) (ax (oO (gi ?_))));show wpAny _ _ (boundAndCalled _ _ _) _ _ _;unfold boundAndCalled;rw [f3];refine ax (aI (h_ (pT vU.plain F.entry_list_ga (vU.check _ _ _ _ _ _ _ _ (hT _) (F.args_list_getattribute_2 _ _) (AO hx hh λh' t' e oe k ee ec=>?_)))));have te:(⟨h',g,d,t',os⟩:Shared).TypeIs (.ref e) "AttributeError" := ⟨oe,ee,ec⟩;show wpAny _ _ (getattributeRaised _ _ _ _ _ _ _) _ _ _;unfold getattributeRaised;refine ax (wpAny_isInstance te f1 ?_);rw [az rfl];show wpAny _ _ (typeLookup _ _ >>= _) _ _ _;rw [f4];refine ax (aI ?_);show wpAny _ _ (throw _) _ _ _;refine wpAny_throw ?_;refine ax (wpAny_isInstance te f1 ?_);rw [az rfl];exact aI (hq h' t' k)
end
def fj:plainId "dict.update.loop"=true:=by decide +kernel
def lg:entryFor table "dict.update.loop"=some Builtin.«dict.update.loop»:=entryFor_of_tree (nofun)
section
variable {prog:Program}{w:World}{K:Type} [DecidableEq K] {knd:KeyKind prog w K}{A:Around}{E:Value->Shared->Prop}
def ni (knd:KeyKind prog w K)(h:Heap)(u:Value)(kv:K×Value):Prop :=
 ∃t key n o,u=.ref t/\knd.is kv.1 key=true/\h.get? t=some o/\o.cls=.type "tuple" /\ o.data=.seq #[key,kv.2] n
def ni.keep {h h':Heap}{u:Value}{kv:K×Value}(p:ni knd h u kv)(k:∀b o,o.cls=.type "tuple" -> h.get? b=some o->h'.get? b=some o):ni knd h' u kv :=
 let ⟨t,key,n,o,a,b,c,d,e⟩:=p;⟨t,key,n,o,a,b,k t o d c,d,e⟩
def HH {R:Result->Shared->Prop}{d it l:Addr}{items:Array Value}(hh:A.handled=none):∀(more:List (K×Value)) (i:Nat)(s:Shared)(kvs:List (K×Value)) (j:Int)(tk:Tok),items.size=i+more.length ->
  s.heap.DictOf knd d kvs->s.heap.IsListIter it l i->s.heap.IsList l items->(∀m kv,more[m]?=some kv->∃u,items[i+m]?=some u/\ni knd s.heap u kv)->kvs.length+more.length<=sizeLine ->
  (∀h' t',h'.DictOf knd d (more.foldl (λa p=>stored a p.1 p.2) kvs)->(∀b o,b≠d->b≠it->s.heap.get? b=some o->h'.get? b=some o)->R (.ok (.ret .none)) { s with heap:=h',toks:=t' }) ->
  codeAny (model prog w) A (.builtin "dict.update.loop" ⟨[.ref d,.ref it,.int j tk,.none],[]⟩) R s:=by
 intro more
 induction more with
 | nil =>
  intro i s kvs j tk hi hd hit hl hp hz hR;refine j9 lg ?_;rw [pS fj _];unfold Builtin.«dict.update.loop»;have hs:items[i]?=none:=Array.getElem?_eq_none (by rw [hi];exact aH _);refine ax (vP hh hit hl hs λh1 eb=>?_);have nd:d≠it:=λz=>by
   obtain⟨o,_,_,q,_,c,_⟩:=hd;obtain⟨o',q',_,c'⟩:=hit;rw [z,q'] at q;cases q;rw [c'] at c;cases c
  show wpAny _ _ (Builtin.Dict.addKeywords d [] >>= _) _ _ _;exact ax (aI (aI (hR h1 s.toks (hd.extBut eb nd) λb o n1 n2 q=>eb b o n2 q)))
 | cons kv more ih =>
  intro i s kvs j tk hi hd hit hl hp hz hR;refine j9 lg ?_;rw [pS fj _];unfold Builtin.«dict.update.loop»;obtain⟨u,hu,t,key,n,o,rfl,hk,ho,hc,Co⟩:=hp 0 kv rfl;refine ax (wpAny_pyNext_list_item hit hl hu λh1 Wb sb=>?_);have nd:d≠it:=λz=>by
   obtain⟨o,_,_,q,_,c,_⟩:=hd;obtain⟨o',q',_,c'⟩:=hit;rw [z,q'] at q;cases q;rw [c'] at c;cases c
  have n2:∀b o,(o.cls=.type "tuple" \/ o.cls=.type "list")->s.heap.get? b=some o->b≠d/\b≠it:=by
   intro b o c q;constructor
   .intro z;obtain⟨o',q',c'⟩:=hd.typeIs;rw [z,q'] at q;cases q;rw [c'] at c;rcases c with c | c <;> exact absurd c nofun
   intro z;obtain⟨o',q',c',_⟩:=hit;rw [z,q'] at q;cases q;rw [c'] at c;rcases c with c | c <;> exact absurd c nofun
  have nt:∀b o,o.cls=.type "tuple" -> s.heap.get? b=some o->b≠d/\b≠it:=λb o c q=>n2 b o (.inl c) q;have nl:l≠d/\l≠it:=by
   obtain⟨o,q,c,_⟩:=hl;exact n2 l o (.inr c) q
  have Q_:h1.get? t=some o:=(sb.2 t (nt t o hc ho).2).trans ho;have Nv:h1.DictOf knd d kvs:=hd.sameBut sb nd;refine ax (gi (ax (jt ?_)));unfold Builtin.Dict.pairItems;refine ax (iR (T := "tuple") ⟨o,Q_,hc⟩ ?_);rw [az nofun];refine ax (j8 Q_ Co (aI ?_));show wpAny _ _ (holding [key,kv.2] (dictSet d key kv.2)) _ _ _;rw [eC] at hz hi;refine gi (wpAny_dictSet_pairs (s:={ s with heap:=h1 }) hk Nv (λh2 hd2 PR=>?_) ∅);have kk:∀b o,b≠d->b≠it->s.heap.get? b=some o->h2.get? b=some o:=λb o n1 n2 q=>(PR.2 b n1).trans ((sb.2 b n2).trans q);have ln:(stored kvs kv.1 kv.2).length<=kvs.length+1:=by
   unfold stored
   split
   .simp
   simp
  refine aI ⟨iT fj _,ih (i+1) _ _ _ _ ∅ hd2 (Wb.at λo q=>(PR.2 it (dC nd)).trans q) (hl.at λo q=>kk l o nl.1 nl.2 q) (λm V7 e=>?_) ∅ λh3 t3 gp k3=>?_⟩
  .obtain⟨u',e1,e2⟩:=hp (m+1) V7 e;exact⟨u',by rw [<-e1];congr 1;omega,e2.keep λb o c q=>kk b o (nt b o c q).1 (nt b o c q).2 q⟩
  exact hR h3 t3 gp λb o n1 n2 q=>k3 b o n1 n2 (kk b o n1 n2 q)
def zU:(Value.type "list" != Value.type "dict")=true:=by decide
def tS {s:Shared}{l:Addr}{items:Array Value}{n:Nat}{more:List (K×Value)}{Q:Value->Shared->Prop}(knd:KeyKind prog w K)(hh:A.handled=none)(hx:s.heap.get? l=some { cls:=.type "list",data:=.seq items n })
  (hi:items.size=more.length)(hp:∀(m:Nat) kv,more[m]?=some kv->∃u,items[m]?=some u/\ni knd s.heap u kv)(hz:more.length<=sizeLine)
  (h:∀h' t',h'.DictOf knd s.heap.objs.size (more.foldl (λa p=>stored a p.1 p.2) [])->(∀b o,s.heap.get? b=some o->h'.get? b=some o)->Q (.ref s.heap.objs.size) { s with heap:=h',toks:=t' }) :
  wpAny (model prog w) A (call (.type "dict") [.ref l]) Q E s:=by
 refine callType_codes (Q₁:=λobj s₁=>obj=.ref s.heap.objs.size/\s₁={ s with heap:=s.heap.push { cls:=.type "dict",data:=.dict #[] } }) F.kt_called_dict (F.kt_typeCall_dict_1 _) F.entry_dict_init (kt_code_dict_new _ ⟨rfl,rfl⟩) ?_;rintro obj s₁ ⟨rfl,rfl⟩;have AF:(s.heap.push { cls:=.type "dict",data:=.dict #[] }).DictOf knd s.heap.objs.size []:=Heap.DictOf.new s.heap;have l0:=bu { cls:=.type "dict",data:=.dict #[] } hx;refine⟨AF.typeIs,F.args_dict_init_2 _ _,?_⟩;unfold Builtin.«dict.__init__» Builtin.Dict.selfAndRest;refine ax (ax (wpAny_notOrdered_dict AF.typeIs (aI ?_)));show wpAny _ _ (Builtin.Dict.updateFrom "dict.__init__" s.heap.objs.size (.ref l) [] .none) _ _ _;unfold Builtin.Dict.updateFrom;refine ax (iR (T := "list") ⟨_,l0,rfl⟩ ?_);rw [az zU];refine ax (pD l0 hh λh1 t1 k1=>?_);refine ax (wpAny_rule ?_);have l1:=k1 _ _ l0;refine ax (pP ⟨_,l1,rfl,_,rfl⟩ ?_);have k2:∀b o,s.heap.get? b=some o->(h1.push { cls:=.type "list_iterator",data:=.fields #[.ref l,.int 0 0] }).get? b=some o:=λb o q=>bu _ (k1 _ _ (bu _ q));refine aI ⟨iT fj _,HH (knd:=knd) (A:=A.in1) (l:=l) (items:=items) (show A.in1.handled=none from hh) more 0 _ [] _ _ (by rw [hi,mh]) ?_ ⟨_,cZ _ rfl,rfl,rfl⟩ ⟨_,k2 _ _ hx,rfl,n,rfl⟩ (λm kv e=>?_) (by simpa using hz) λh' t' hd k3=>?_⟩
 .obtain⟨o,es,ep,q,r⟩:=AF;exact⟨o,es,ep,bu _ (k1 _ _ q),r⟩
 .obtain⟨u,e1,e2⟩:=hp m kv e;exact⟨u,by rw [mh];exact e1,e2.keep λb o _ q=>k2 b o q⟩
 refine⟨rfl,h h' t' hd λb o q=>k3 b o (bw (aO q)) ?_ (k2 b o q)⟩;have:=aO (k1 _ _ (bu { cls:=.type "dict",data:=.dict #[] } q));exact bw this
end
def EA (X:Cx)(ifs:List Expr)(t:TT):Prop :=
 ∀(ag:List (Addr×Obj))(s:Shared)(σ:St)(H:Hp)(Q:Bool->Hp->Prop),Inv X ag σ H s->t σ H Q ->
  wpAny (model X.prog X.w) X.A (forIn ifs true λc r=>if r=true then do let ok <-isTrue c X.env (eval c X.env);pure (ForInStep.yield ok) else pure (ForInStep.yield r)) (TP X ag σ Q) X.xe s
def ix:TT:=λ_ H Q=>Q true H
def b9 {X:Cx}:EA X [] ix:=λ_ _ _ H _ I h=>wpAny_tests_nil ⟨H,I,h⟩
def f_ {X:Cx}{c:Expr}{t:TT}(h:PT X c t):EA X [c] t:=λag s σ H Q I hw=>wpAny_tests_one (h ag s σ H Q I hw)
def qg {prog:Program}{w:World}{A:Around}{R:Result->Shared->Prop}{s:Shared}{elt target iter:Expr}{ifs:List Expr}{scope:Scope}{pos:Pos}{it bA:Value}{env:Env}(I:Nat->Shared->Prop)
  (turn:∀n s,I n s->wpAny (model prog w) A (pyNext it) (λr s₁=>match r with
   | none=>R (.ok .next) s₁
   | some v=>wpAny (model prog w) A (letOwnedTupleGo target it v) (λ_ s₁=>wpAny (model prog w) A (assign target env v) (λ_ s₂ =>
     wpAny (model prog w) A (forIn ifs true λc r=>if r=true then do let ok <-isTrue c env (eval c env);pure (ForInStep.yield ok) else pure (ForInStep.yield r)) (λok s₃ =>
      if ok=true then wpAny (model prog w) A (eval elt env) (λx s₄ =>
       wpAny (model prog w) A (call (.builtin "list.append") [bA,x]) (λ_ s₅=>∃m,m < n/\I m s₅) (λ_ _=>False) s₄) (λ_ _=>False) s₃
      else ∃m,m < n/\I m s₃) (λ_ _=>False) s₂) (λ_ _=>False) s₁) (λ_ _=>False) s₁) (λ_ _=>False) s)
  (n:Nat)(h:I n s) :
  codeAny (model prog w) A (.compLoop (.ListComp elt [⟨target,iter,ifs,0⟩] scope pos) 0 it bA env) R s:=by
 refine codeAny_loop rfl I (λn s hI=>?_) n h;show wpAny _ A ((compTurn (.ListComp elt [⟨target,iter,ifs,0⟩] scope pos) 0 it bA env).onRaise (λx=>do noteFrame x env;theTreesLotGoes x)) _ _ s;refine wpAny_noted ?_;rw [compTurn_list];refine ax (mi (ax (cv (turn n s hI) (λr s₁ h₁=>?_) λ_ _ h'=>h'.elim)));cases r with
 | none=>exact aI h₁
 | some v =>
  refine ax (cv h₁ (λ_ s₂ h₂=>?_) λ_ _ h'=>h'.elim);refine ax (cv h₂ (λ_ s₂ h₂=>ax (cv h₂ (λok s₃ h₃=>?_) λ_ _ h'=>h'.elim)) λ_ _ h'=>h'.elim);cases ok with
  | false=>exact aI ⟨rfl,h₃⟩
  | true =>
   exact ax (ax (cv h₃ (λx s₄ h₄=>ax (cv h₄ (λ_ s₅ h₅=>aI (aI ⟨rfl,h₅⟩)) λ_ _ h'=>h'.elim)) λ_ _ h'=>h'.elim))
inductive zA (K:aR)(H:Hp):V->String->Prop where
 | bl (x:Bool):zA K H (.bl x) "bool"
 | int (i:Int):zA K H (.int i) "int"
 | str (x:Str):zA K H (.str x) "str"
 | tup {a:Addr}{xs:List V}(e:bf K H a xs):zA K H (.ref a) "tuple"
inductive XIs (K:aR)(H:Hp)(xs:List V)(R:Bool->Prop):Prop
|mk(x:V)(T n:String)(b:Bool)(e:xs=[x,.ty n])(c:zA K H x T)(k:PySem.W.kitOne K (.type T) (.type n)=some b)(q:R b)
def zp {X:Cx}:fZ X (.builtin "isinstance") (λxs H Q=>XIs X.K H xs λb=>Q (.bl b) H):=by
 intro ag s σ H xs us Q I r h;obtain⟨x,T,n,b,rfl,ty,e,q⟩:=h;obtain⟨u,w',rfl,rx,rn⟩:=vals2 r;cases (show w'=Value.type n from rn);have fin:∀tk,EP X ag σ Q (.bool b) { s with toks:=tk }:=λtk=>⟨.bl b,H,I.tok _,rfl,q⟩;cases ty with
 | bl y=>cases (show u=Value.bool y from rx);exact rh PySem.W.kitx_bool I.jo True.intro e (λz=>nomatch z) fin
 | int i=>obtain⟨t,z⟩:=(show ∃t,u=Value.int i t from rx);cases z;exact rh PySem.W.kitx_int I.jo True.intro e (λz=>nomatch z) fin
 | str y=>obtain⟨t,z⟩:=(show ∃t,u=Value.str y t from rx);cases z;exact rh PySem.W.kitx_str I.jo True.intro e (λz=>nomatch z) fin
 | @tup a ys hq =>
  cases (show u=Value.ref a from rx);obtain⟨aN,_,⟨o,h1,h2,_⟩,_⟩:=I.tuple hq;exact rh PySem.W.kitx_tuple I.jo ⟨o,h1,h2⟩ e (λz=>nomatch z) fin
def Dg {X:Cx}{a:Expr}{ta:TE}(K:aR)(ha:PE X a ta)(he:∀whole,isTrue a X.env whole=(do let v <-whole;standAt a.pos;holding [v] (truthy v)))(hK:X.K=K:=by rfl) :
  PT X a (λσ H Q=>ta σ H λx H'=>∃k,Ib K x H' k/\Q k H'):=by
 subst hK;exact jc ha he
def Dp {X:Cx}(hu:X.A.units < cLine):md X (compareOp .Eq) (λx y H Q=>∃a b xs,x=.ref a/\y=.ref b/\aG X.K H a xs/\aG X.K H b []/\Q (.bl (xs.isEmpty)) H):=by
 intro ag s σ H x y v u Q I rx ry h;obtain⟨a,b,xs,rfl,rfl,ha,hb,q⟩:=h;cases rx;cases ry;obtain⟨aN,r,pl,hz⟩:=I.list ha;obtain⟨gP,r2,Dj,Wh⟩:=I.list hb;have e2:gP=[]:=aV.zero r2;subst e2;have a8:=r.length;cases xs with
 | nil =>
  have e:aN=[]:=aV.zero r;subst e;refine SeqAt.eq_listAt (e:=λ_=>true) pl.isList Dj.isList rfl hu (λj h1 _=>absurd h1 (by simp)) ⟨.bl true,H,I,rfl,q⟩
 | cons y ys =>
  refine SeqAt.eq_list_lengthsAt pl.isList Dj.isList ?_ hu ⟨.bl false,H,I,rfl,q⟩;rw [bJ,bJ,<-a8];simp
structure KA (env:Env)(scope:Scope)(cl:List (Str×Addr)):Prop where
 eq:closureFor scope env=pure cl
 sub:∀y c,cl.lookup y=some c->env.cells.lookup y=some c
 all:∀y,(y,NameKind.free)∈scope.names->∃c,cl.lookup y=some c
def jD {y n:Str}{c:Addr}{l:List (Str×Addr)}:((n,c)::l).lookup y=if y=n then some c else l.lookup y:=by
 by_cases h:y=n
 .rw [az h];simp [List.lookup,h]
 rw [aA h];simp [List.lookup,jX.mpr h]
def xw {env:Env}{scope:Scope}(h:∀y,(y,NameKind.free)∈scope.names->∃c,env.cells.lookup y=some c):∃cl,KA env scope cl:=by
 have go:∀(names:List (Str×NameKind))(bA:List (Str×Addr)),(∀y,(y,NameKind.free)∈names->∃c,env.cells.lookup y=some c)->(∀y c,bA.lookup y=some c->env.cells.lookup y=some c) ->
   ∃cl,(forIn names bA λ(x:Str×NameKind)(cs:List (Str×Addr))=>(if x.2 == .free then do let c <-cellOf env x.1;pure (ForInStep.yield ((x.1,c)::cs)) else pure (ForInStep.yield cs):Sem (ForInStep (List (Str×Addr)))))=pure cl /\
    (∀y c,cl.lookup y=some c->env.cells.lookup y=some c)/\(∀y,(y,NameKind.free)∈names->∃c,cl.lookup y=some c)/\∀y c,bA.lookup y=some c->∃c',cl.lookup y=some c':=by
  intro names
  induction names with
  | nil=>intro bA _ hs;exact⟨bA,rfl,hs,λy hy=>absurd hy (by simp),λy c e=>⟨c,e⟩⟩
  | cons x r ih =>
   intro bA hf hs;obtain⟨n,k⟩:=x;rw [List.forIn_cons];by_cases hk:k=.free
   .subst hk;obtain⟨c0,e0⟩:=hf n bO;obtain⟨cl,e1,e2,e3,e4⟩:=ih ((n,c0)::bA) (λy hy=>hf y (bS _ hy)) (λy c e=>by
     rw [jD] at e;by_cases z:y=n
     .rw [az z] at e;cases e;rw [z];exact e0
     rw [aA z] at e;exact hs y c e)
    refine⟨cl,?_,e2,λy hy=>?_,λy c e=>?_⟩
    .rw [<-e1];have:cellOf env n=pure c0:=by unfold cellOf;rw [e0]
     simp only [this];rfl
    .rcases bN.mp hy with z | z
     .cases z;exact e4 n c0 (by rw [jD,az rfl])
     exact e3 y z
    by_cases z:y=n
    .exact e4 y c0 (by rw [jD,az z])
    exact e4 y c (by rw [jD,aA z];exact e)
   obtain⟨cl,e1,e2,e3,e4⟩:=ih bA (λy hy=>hf y (bS _ hy)) hs;refine⟨cl,?_,e2,λy hy=>?_,e4⟩
   .rw [<-e1];have:(k == NameKind.free)=false:=by simpa using hk
    simp only [this];rfl
   rcases bN.mp hy with z | z
   .cases z;exact absurd rfl hk
   exact e3 y z
 obtain⟨cl,e1,e2,e3,_⟩:=go scope.names [] h (λy c e=>by simp at e);refine⟨cl,?_,e2,e3⟩;unfold closureFor;exact Eq.trans (congrArg (λt:Sem (List (Str×Addr))=>t >>= λcs=>pure cs) e1) rfl
def wI {scope:Scope}{env:Env}{y:Str}(hk:env.scope.kind=.function)(hy:scope.names.lookup y=some .free)(he:env.kindOf y=some .cell):(relabel scope env).names.lookup y=some .cell:=by
 have go:∀l:List (Str×NameKind),l.lookup y=some .free->(l.map λ(x:Str×NameKind)=>if (x.2 == NameKind.free && env.scope.kind == .function && env.kindOf x.1 == some .cell) then (x.1,NameKind.cell) else (x.1,x.2)).lookup y=some .cell:=by
  intro l
  induction l with
  | nil=>intro z;cases z
  | cons x r ih =>
   obtain⟨n,k⟩:=x;intro hy;rw [bL];by_cases z:y=n
   .subst z;simp [List.lookup] at hy;subst hy;simp [List.lookup,hk,he]
   have zb:(y == n)=false:=jX.mpr z;simp only [List.lookup,zb] at hy;have:=ih hy;dsimp only
   split <;> simp only [List.lookup,zb] <;> exact this
 exact go _ hy
theorem wV {α:Type}{y:Str}{v:α}:∀{l:List (Str×α)},l.lookup y=some v->(y,v)∈l
 | [],h=>by cases h
 | (n,u)::r,h=>by
  by_cases z:y=n
  .subst z;simp [List.lookup] at h;subst h;exact bO
  have zb:(y == n)=false:=jX.mpr z;simp only [List.lookup,zb] at h;exact bS _ (wV h)
def nV {scope:Scope}{env:Env}{y:Str}{k:NameKind}(h:(relabel scope env).names.lookup y=some k)(hk:k=.cell\/k=.free)(hc:∀z∈scope.names,z.2≠.cell):(y,NameKind.free)∈scope.names:=by
 have m:=wV h;unfold relabel at m;obtain⟨⟨n,k'⟩,m1,m2⟩:=cN.mp m;dsimp only at m2
 split at m2
 .rename_i q
  cases m2;simp at q;obtain⟨⟨q,_⟩,_⟩:=q;subst q;exact m1
 cases m2;rcases hk with hk | hk
 .exact absurd hk (hc _ m1)
 rw [<-hk];exact m1
def tL (X:Cx)(scope:Scope)(cl:List (Str×Addr))(C:Addr)(s1:Shared)(H1:Hp) (N:List Str)(fp:List Addr):Cx :=
 { X with N:=N,s₀:=s1,H₀:=H1,env:=compEnvC scope cl C X.env,outer:=X.stack,stack:=X.stack,ex:=fp,fn:=λ_=>false,pn:=[],xe:=λ_ _=>False }
structure KC (X:Cx)(scope:Scope)(js:List (Nat×Str)):Prop where
 at_:∀p∈js,X.N[p.1]?=some p.2/\X.env.scope.names.lookup p.2=some .cell/\scope.names.lookup p.2=some .free
 all:∀y,(y,NameKind.free)∈scope.names->X.env.scope.names.lookup y=some .cell
def dI (ts:List Str)(js:List (Nat×Str))(σ:St):St:=ts.map (λ_=>none)++js.map λp=>(σ[p.1]?).join
def uZ {X:Cx}{ag:List (Addr×Obj)}{σ:St}{H:Hp}{s1 s4:Shared}{scope:Scope}{ts:List Str}{js:List (Nat×Str)}{cl:List (Str×Addr)}{fp:List Addr}{C:Addr}{m:Str->Option Value}
  (I:Inv X ag σ H s1)(hf:∀b∈fp,xH X ag H b)(Hh:∀b∈fp,b < s1.heap.objs.size)(jf:scope.kind=.function)(jh:∀y∈scope.names,y.2≠.cell)(cp:KC X scope js)(nq:KA X.env scope cl)
  (hC:s1.heap.objs.size < C)(ho:s4.os=s1.os)(hg:s4.gens=s1.gens)(old:∀b o,s1.heap.get? b=some o->s4.heap.get? b=some o)(hn:s4.heap.Ns C m)
  (hD:s4.heap.get? s1.heap.objs.size=some { cls:=.type "list",data:=.seq ([]:List Value).toArray 0 }) :
  Inv (tL X scope cl C s1 H (ts++js.map (·.2)) fp) [] (dI ts js σ) (upd H s1.heap.objs.size (.lst [])) s4:=by
 have xk:X.env.scope.kind=.function:=I.ok.kind;have has:∀y,((relabel scope X.env).names.lookup y=some .cell\/(relabel scope X.env).names.lookup y=some .free)->∃c,cl.lookup y=some c:=λy hy=>nq.all y (by
  rcases hy with hy | hy
  .exact nV hy (.inl rfl) jh
  exact nV hy (.inr rfl) jh)
 have lt:∀y c,cl.lookup y=some c->c < s1.heap.objs.size:=λy c e=>by
  obtain⟨v,o,ho,_⟩:=I.cell y c (nq.sub y c e);exact aO ho
 refine⟨⟨I.ok.mod,jf,I.ok.glob,I.ok.blt,j5 hC,λy z c h1 h2=>I.ok.inj y z c (nq.sub _ _ h1) (nq.sub _ _ h2),has,λy c h _=>absurd (show false=true from h) dB,I.ok.hd,I.ok.frames,.inl rfl,
   λb hb=>⟨bw (j6 (Hh b hb) hC),λy c h=>(hf b hb).2.2.2.2.1 y c (nq.sub _ _ h)⟩,I.bs,cQ I.ok.HQ I.sz,λb o e hb=>?_,λb hb=>?_,I.stack,I.qG⟩,
  ho,?_,Un.laid old (aH _) I.fresh,⟨m,hn,λi y v e1 e2 _=>?_⟩,λy c h=>?_,?_,λy c h=>?_,λp hp=>absurd (show p∈([]:List (Addr×Obj)) from hp) (by simp),I.bF.laid old (aH _) ?_,?_⟩
 .obtain⟨_,_,_,h4,_⟩:=hf b hb;rcases h4 with h4 | h4
  .exact I.ok.DF b o e h4
  exact absurd (eD (aO (I.ok.bs b o e).1) h4) (i5 _)
 .intro xf;obtain⟨_,h2,h3,_⟩:=hf b hb;rcases bN.mp (I.wg b xf) with z | z
  .exact h2 z
  exact h3 z
 .rw [hg];exact I.bare
 .have Kj:(ts++js.map (·.2))[i]?=some y:=e1;have Ed:(ts.map (λ_=>(none:Option V))++js.map λp=>(σ[p.1]?).join)[i]?=some (some v):=e2;by_cases hi:i < ts.length
  .rw [jZ (by simpa using hi)] at Ed;simp [hi] at Ed
  rw [pY ∅] at Kj;rw [pY (by simpa using Nat.le_of_not_lt hi)] at Ed;rw [aB] at Ed;rw [bq] at Kj Ed;cases hj:js[i - ts.length]? with
  | none=>rw [hj] at Kj;cases Kj
  | some p =>
   rw [hj] at Kj Ed;simp only [rg,Option.some.injEq] at Kj Ed;obtain⟨a1,a2,a3⟩:=cp.at_ p (cD hj);subst Kj;have es:σ[p.1]?=some (some v):=by
    cases q:σ[p.1]? with
    | none=>rw [q] at Ed;cases Ed
    | some z=>rw [q] at Ed;exact congrArg some Ed
   obtain⟨m0,ZU,lk⟩:=I.loc;obtain⟨u,ru,l⟩:=lk p.1 p.2 v a1 es (.inr (.inl a2));rcases l with l | ⟨_,c,ec,o,hc,hd⟩
   .have l1:X.env.scope.names.lookup p.2=some .local:=l.1;rw [a2] at l1;cases l1
   obtain⟨c',Ue⟩:=nq.all p.2 (wV a3);have e3:=nq.sub _ _ Ue;rw [ec] at e3;cases e3;exact⟨u,ru,.inr ⟨.inl (wI xk a3 a2),c,Ue,o,old _ _ hc,hd⟩⟩
 .obtain⟨v,o,h1,h2⟩:=I.cell y c (nq.sub y c h);exact⟨v,o,old _ _ h1,h2⟩
 .show upd H s1.heap.objs.size (.lst []) C=none;rw [ai (jI hC)];exact I.bF.fresh (j5 hC)
 .show upd H s1.heap.objs.size (.lst []) c=none;rw [ai (bw (lt y c h))];exact I.ji y c (nq.sub y c h)
 .exact⟨by show 0<=sizeLine;decide,[],0,.nil,hD⟩
 show (dI ts js σ).length=(ts++js.map (·.2)).length;simp [dI]
abbrev CWq (J:It)(D:Addr)(S:St)(H:Hp)(R:Hp->Prop)(g:TG)(tif:TT)(te:TE):Prop:=∃W:Nat->Nat->List V->St->Hp->Prop,(∃m,W 0 m [] S (upd H D (.lst [])))/\∀i m ys σ' H,W i m ys σ' H->(J.stop i H/\R H)\/(J.go i H/\∃m',m' < m/\∀x H',J.mr i H x H'->g x σ' H' λσ2 H2=>tif σ2 H2 λb H3=>if b=true then te σ2 H3 λy H4=>H4 D=some (.lst ys)/\ys.length < sizeLine/\W (i+1) m' (ys++[y]) σ2 (upd H4 D (.lst (ys++[y]))) else W (i+1) m' ys σ2 H3)
def Fe (wi:TI) (ts:List Str)(js:List (Nat×Str))(g:TG)(tif:TT)(te:TE):TE:=λσ H Q=>wi σ H λJ H1=>∀D,H1 D=none->∃W:Nat->Nat->List V->St->Hp->Prop,(∃m,W 0 m [] (dI ts js σ) (upd H1 D (.lst []))) /\
 ∀i m ys σ' H,W i m ys σ' H->(J.stop i H/\Q (.ref D) H)\/(J.go i H/\∃m',m' < m/\∀x H',J.mr i H x H'->g x σ' H' λσ2 H2=>tif σ2 H2 λb H3 =>
  if b=true then te σ2 H3 λy H4=>H4 D=some (.lst ys)/\ys.length < sizeLine/\W (i+1) m' (ys++[y]) σ2 (upd H4 D (.lst (ys++[y]))) else W (i+1) m' ys σ2 H3)
def bx {X:Cx}{elt iter tg:Expr}{ifs:List Expr}{scope:Scope}{pos:Pos}{wi:TI}{g:TG}{tif:TT}{te:TE}(ts:List Str)(js:List (Nat×Str))(hc:X.calm=true)(hi:PI X tg iter wi)
  (cp:KC X scope js)(jh:∀y∈scope.names,y.2≠.cell)(jf:scope.kind=.function)
  (AW:∀y∈scope.names,y.2=.local->scope.names.lookup y.1=some .local)
  (hg:∀cl C s1 H1 fp,PG (tL X scope cl C s1 H1 (ts++js.map (·.2)) fp) tg g)
  (WN:∀cl C s1 H1 fp,EA (tL X scope cl C s1 H1 (ts++js.map (·.2)) fp) ifs tif)(he:∀cl C s1 H1 fp,PE (tL X scope cl C s1 H1 (ts++js.map (·.2)) fp) elt te)
  (hs:∀x,foldedSetIterable iter X.env x=pure x:=by intro _;rfl) :
  PE X (.ListComp elt [⟨tg,iter,ifs,0⟩] scope pos) (Fe wi ts js g tif te):=by
 intro ag s σ H Q I h;rw [eval_ListComp];obtain⟨cl,nq⟩:=xw (env:=X.env) (scope:=scope) λy hy=>I.ok.has y (.inl (cp.all y hy));refine wpAny_comprehension_free (use:=none) rfl hs nq.eq jf AW (cK (hi ag s σ H _ I h) λv s1 h1=>cK h1 λTw s2 h2=>?_);obtain⟨it,fp,tn,J,H2,e,I2,T,Im,f2,h2⟩:=h2;subst e;obtain⟨W,⟨m0,w0⟩,turn⟩:=h2 s2.heap.objs.size I2.fresh;have Hh:∀b∈fp,b < s2.heap.objs.size:=λb hb=>by obtain⟨o,e,_⟩:=T.obj _ _ Im b hb;exact aO e
 refine jW (wpAny_newFunctionEnv jh (by intro y hy;simp at hy) (λh₁ AV w6=>?_) jf);dsimp only at AV w6 ⊢;generalize NC:s2.heap.push { cls:=.type "list",dict:=none,data:=.seq ([]:List Value).toArray }=G2 at AV w6 ⊢;have JX:G2.objs.size=s2.heap.objs.size+1:=by rw [<-NC,j7]
 have Xe:s2.heap.objs.size≠G2.objs.size:=by rw [JX];exact bw (ny _)
 have old:∀b o,s2.heap.get? b=some o->h₁.get? b=some o:=λb o e =>
  w6.extBut b o (by rw [JX];exact bw (rH (aO e))) (bu _ (NC ▸ bu _ e))
 have DY:h₁.get? s2.heap.objs.size=some { cls:=.type "list",data:=.seq ([]:List Value).toArray 0 }:=w6.extBut _ _ Xe (bu _ (NC ▸ cZ _ rfl));generalize oo:tL X scope cl G2.objs.size s2 H2 (ts++js.map (·.2)) fp=X2;have I4:Inv X2 [] (dI ts js σ) (upd H2 s2.heap.objs.size (.lst [])) { s2 with heap:=h₁,toks:=s2.toks+([]:List (Str×Value)).length }:=by
  rw [<-oo];exact uZ I2 f2 Hh jf jh cp nq (by rw [JX];exact ny _) rfl rfl old AV DY
 have x1:X2.prog=X.prog:=by rw [<-oo];rfl
 have x2:X2.w=X.w:=by rw [<-oo];rfl
 have x3:X2.K=X.K:=by rw [<-oo];rfl
 have x4:X2.calm=true:=by rw [<-oo];exact hc
 have x5:X2.A=X.A:=by rw [<-oo];rfl
 have x6:X2.env=compEnvC scope cl G2.objs.size X.env:=by rw [<-oo];rfl
 have x7:X2.xe=λ_ _=>False:=by rw [<-oo];rfl
 have WQ:PG X2 tg g:=by rw [<-oo];exact hg _ _ _ _ _
 have Np:EA X2 ifs tif:=by rw [<-oo];exact WN _ _ _ _ _
 have zF:PE X2 elt te:=by rw [<-oo];exact he _ _ _ _ _
 have PH:tn 0 h₁:=T.keep _ _ _ Im λb _ o e=>old b o e;have rY:∀{H':Hp}{jM:List (Addr×Obj)},(∀b∈fp,H' b=none)->(∀p∈jM,p.1∉fp)->∀b∈fp,xH X2 jM H' b:=λ{H' jM} hn hp b hb=>by
  have o4:=I4.ok;subst oo;exact⟨hn b hb,(o4.NS b hb).1,o4.A3 b hb,.inl hb,(o4.NS b hb).2,λp l8=>by
   have AU:p∈([]:List (Addr×Obj))++jM:=l8;rw [j_] at AU;intro z;exact hp p AU (by rw [z];exact hb)⟩
 have fin:∀{s':Shared}{σ':St}{H':Hp},Inv X2 [] σ' H' s'->Q (.ref s2.heap.objs.size) H' ->
   compPost (model X.prog X.w) X.A X.xe none (EP X ag σ Q) (.ref s2.heap.objs.size) G2.objs.size (.ok .next) s':=λ{s' σ' H'} J' q=>by
  subst oo;obtain⟨m',Ni,_⟩:=J'.loc;refine⟨m',Ni,λh' OK=>?_⟩;have u:Un (qx X.stack) fp H2 H' s2.heap s'.heap:=J'.base;have nC:∀b o,s2.heap.get? b=some o->b≠G2.objs.size:=λb o e=>by rw [JX];exact bw (rH (aO e))
  have u':Un (qx X.stack) fp H2 H' s2.heap h':=⟨λb o e n hb hx=>(OK.2 b (nC b o e)).trans (u.keep b o e n hb hx),λb o e n hb hx=>by
    obtain⟨sl,z⟩:=u.slot b o e n hb hx;exact⟨sl,(OK.2 b (nC b o e)).trans z⟩,u.free,λb o e hx=>by
    obtain⟨o',z⟩:=u.there b o e hx;exact⟨o',(OK.2 b (nC b o e)).trans z⟩,u.mv,u.kJ,u.lE⟩
  have bF:lJ X.prog X.w H' h':=λb ob e=>by
   refine(J'.bF b ob e).iV (λc w' lG q'=>(OK.2 c ?_).trans q') (λ_ q=>q) λ_ _ q=>q;intro z;have fr:H' G2.objs.size=none:=J'.free;rcases lG with z' | z'
   .rw [<-z'] at e;rw [z,fr] at e;cases e
   rw [z,fr] at z';cases z'
  have I5:Inv X ag σ H' { s' with heap:=h' }:=I2.CD (s':={ s' with heap:=h' }) J'.os u' bF J'.bare λb hb=>by
   obtain⟨_,f1,_,f3,f4,f5⟩:=f2 b hb;exact⟨f3,f1,f4,f5⟩
  exact⟨.ref s2.heap.objs.size,H',I5,rfl,q⟩
 have loop:∀s₃:Shared,s₃={ s2 with heap:=h₁,toks:=s2.toks+([]:List (Str×Value)).length } ->
   codeAny (model X.prog X.w) X.A (.compLoop (.ListComp elt [⟨tg,iter,ifs,0⟩] scope pos) 0 (.ref it) (.ref s2.heap.objs.size) (compEnvC scope cl G2.objs.size X.env))
    (compPost (model X.prog X.w) X.A X.xe none (EP X ag σ Q) (.ref s2.heap.objs.size) G2.objs.size) s₃:=by
  rintro s₃ rfl;subst oo;refine qg (λn s'=>∃i ys σ' H',Inv (tL X scope cl G2.objs.size s2 H2 (ts++js.map (·.2)) fp) [] σ' H' s'/\tn i s'.heap/\(∀b∈fp,H' b=none)/\W i n ys σ' H') ?_ m0
   ⟨0,[],_,_,I4,PH,λb hb=>by rw [ai (bw (Hh b hb))];exact(f2 b hb).1,w0⟩
  rintro n s' ⟨i,ys,σ0,H',J',ue,RK,w'⟩;rcases turn i n ys σ0 H' w' with ⟨stop,q⟩ | ⟨go,m',hm,step⟩
  .refine cv (T.done (tL X scope cl G2.objs.size s2 H2 (ts++js.map (·.2)) fp) rfl rfl rfl hc i [] s' _ H' (λ_ _=>False) J' (rY RK (by simp)) ue stop) (λr s4 ⟨hr,J4⟩=>?_) λ_ _ z=>z;subst hr;exact fin J4 q
  refine cv (T.item (tL X scope cl G2.objs.size s2 H2 (ts++js.map (·.2)) fp) rfl rfl rfl hc i [] s' _ H' (λ_ _=>False) J' (rY RK (by simp)) ue go) (λr s4 ⟨u,hr,h4⟩=>?_) λ_ _ z=>z;subst hr;refine cv h4 (λ_ s5 aS=>?_) λ_ _ z=>z;obtain⟨xv,H5,J5,r5,y5,x8,RJ⟩:=aS;have YJ:=J5.pinned (rY RJ (by simp)) (T.obj _ _ x8);have back:∀{s7:Shared}{σ7:St}{H7:Hp},Inv (tL X scope cl G2.objs.size s2 H2 (ts++js.map (·.2)) fp) ([]++pz fp s5.heap) σ7 H7 s7->Inv (tL X scope cl G2.objs.size s2 H2 (ts++js.map (·.2)) fp) [] σ7 H7 s7/\tn (i+1) s7.heap/\∀b∈fp,H7 b=none:=λ{s7 σ7 H7} J7=>by
   refine⟨J7.ki,T.keep _ _ _ x8 λb hb o e=>(J7.pin (b,o) (fP _ (fP _ (gO hb e)))).1,λb hb=>?_⟩;obtain⟨o,e,d⟩:=T.obj _ _ x8 b hb;exact(J7.pin (b,o) (fP _ (fP _ (gO hb e)))).2.1
  show wpAny _ _ (assign tg (tL X scope cl G2.objs.size s2 H2 (ts++js.map (·.2)) fp).env u) _ _ s5;refine cv (WQ _ s5 _ H5 xv u _ YJ r5 (step xv H5 y5)) (λ_ s6 aS=>?_) λ_ _ z=>z;obtain⟨σ6,H6,J6,q6⟩:=aS;refine cv (Np _ s6 _ H6 _ J6 q6) (λb s7 aS=>?_) λ_ _ z=>z;obtain⟨H7,J7,q7⟩:=aS;cases b with
  | false =>
   rw [aA dB] at q7 ⊢;obtain⟨J8,UY,Xl⟩:=back J7;exact⟨m',hm,i+1,ys,σ6,H7,J8,UY,Xl,q7⟩
  | true =>
   rw [az rfl] at q7 ⊢;refine cv (zF _ s7 _ H7 _ J7 q7) (λyv s8 aS=>?_) λ_ _ z=>z;obtain⟨y,H8,J8,r8,JW,QP,w8⟩:=aS;refine cv (cq (X:=tL X scope cl G2.objs.size s2 H2 (ts++js.map (·.2)) fp) _ s8 _ H8 (.ref s2.heap.objs.size) [y] (.ref s2.heap.objs.size) [yv] (λv H'=>W (i+1) m' (ys++[y]) σ6 H') J8 rfl (.cons r8 .nil) ⟨s2.heap.objs.size,ys,y,rfl,rfl,JW,QP,w8⟩)
    (λ_ s9 ⟨_,H9,J9,_,w9⟩=>?_) λ_ _ z=>z
   obtain⟨YK,Mc,NM⟩:=back J9;exact⟨m',hm,i+1,ys++[y],σ6,H9,YK,Mc,NM,w9⟩
 exact codeAny_compStart_list (loop _ rfl) (T.self _ _ _ _ _ PH (loop _ rfl))
def SG (K:aR)(a:Addr):It :=
 ⟨λi H=>∃xs x,aG K H a xs/\xs[i]?=some x,λi H x H'=>∃t y,x=.ref t/\H t=none/\H'=upd H t (.tup [.int (i:Int),y])/\∀xs,aG K H a xs->xs[i]?=some y,λi H=>∃xs,aG K H a xs/\xs.length<=i⟩
def C4 {P:Program}{w:World}{K:aR}{elts:List Expr}{k:Nat}{wb:Pos}(a e it:Addr)(Rr:e≠it) :
  Turn P w K (.Tuple elts k wb) (SG K a) [e,it] e (λi h=>(∃old,IsEnum h e it i old)/\h.IsListIter it a i) where
 mem:=by simp
 obj:=λi h st b hb=>by
  obtain⟨⟨old,he⟩,o,e1,c,d⟩:=st;rcases bN.mp hb with rfl | hb
  .exact⟨_,he,λv z=>by cases z⟩
  obtain rfl:b=it:=by simpa using hb
  exact⟨o,e1,λv z=>by rw [d] at z;cases z⟩
 keep:=λi h h' st k=>⟨⟨st.1.choose,k e (by simp) _ st.1.choose_spec⟩,st.2.at λo q=>k it (by simp) o q⟩
 item:=by
  intro X hP hw hK hc i ag s σ H E I hf st hg;subst hP hw hK;obtain⟨xs,x,hq,hx⟩:=hg;obtain⟨aN,rv,p,hz⟩:=I.list hq;obtain⟨u,hu,ru⟩:=rv.get hx;obtain⟨⟨old,he⟩,hit⟩:=st;refine wpAny_pyNext_enum_item he hit p.isList (x:=u) (by simpa using hu) Rr λh1 ho Nm hT hsz hk=>?_;refine⟨_,rfl,wpAny_letOwnedTupleGo_enum ho λh2 WV sb=>?_⟩;have ne:s.heap.objs.size≠e:=jI (aO he);have kk:∀b o,b≠e->b≠it->s.heap.get? b=some o->h2.get? b=some o:=λb o n1 n2 q=>(sb.2 b n1).trans (hk b o n1 n2 q);have T2:h2.get? s.heap.objs.size=some { cls:=.type "tuple",data:=.seq #[.int i s.toks,u] }:=(sb.2 _ ne).trans hT;have fe:=hf e (by simp);have fi:=hf it (by simp);have fT:H s.heap.objs.size=none:=I.bF.fresh (aH _);have tr:∀b v,H b=some v->b≠e/\b≠it:=λb v q=>⟨λz=>(by rw [z,fe.1] at q;cases q),λz=>(by rw [z,fi.1] at q;cases q)⟩;have nc:∀b,b∉[e,it]->b≠e/\b≠it:=λb z=>⟨λq=>z (by simp [q]),λq=>z (by simp [q])⟩;have lt:∀b o,s.heap.get? b=some o->b≠s.heap.objs.size:=λb o q=>bw (aO q);have I2:Inv X ag σ (upd H s.heap.objs.size (.tup [.int (i:Int),x])) { s with heap:=h2,toks:=s.toks+1 }:=by
   refine I.call (g':=s.gens) (t':=s.toks+1) (d':=s.drawn) (ch:=[e,it]) ⟨λb o q _ _ c=>kk b o (nc b c).1 (nc b c).2 q,λb o q _ _ c=>⟨o.slots,kk b o (nc b c).1 (nc b c).2 q⟩,
    λb o q n _=>by rw [ai (lt b o q)];exact n,λb o q c=>⟨o,kk b o (nc b c).1 (nc b c).2 q⟩,λb ys q=>by rw [ai (aq q fT)];exact q,λb o v q=>by rw [ai (aq q fT)];exact q,
    λb ps q=>⟨#[],by rw [ai (aq q fT),q];simp⟩⟩ (λb v q=>?_) I.bare (λb hb=>?_)
   .by_cases hb:b=s.heap.objs.size
    .subst hb;rw [ae] at q;cases q;exact⟨by show 2<=sizeLine;decide,[.int i s.toks,u],.cons ⟨_,rfl⟩ (.cons ru .nil),_,T2,rfl,_,rfl⟩
    rw [ai hb] at q;refine(I.bF b v q).iV (λc o lG z=>?_) (λc q'=>by rw [ai (aq q' fT)];exact q') λc ys q'=>by rw [ai (aq q' fT)];exact q'
    rcases lG with rfl | lG
    .exact kk c o (tr c _ q).1 (tr c _ q).2 z
    exact kk c o (tr c _ lG).1 (tr c _ lG).2 z
   rcases bN.mp hb with rfl | hb
   .exact⟨fe.2.2.2.1,fe.2.1,fe.2.2.2.2.1,fe.2.2.2.2.2⟩
   obtain rfl:b=it:=by simpa using hb
   exact⟨fi.2.2.2.1,fi.2.1,fi.2.2.2.2.1,fi.2.2.2.2.2⟩
  refine⟨.ref s.heap.objs.size,_,I2,rfl,⟨_,x,rfl,fT,rfl,λys hy=>by rw [I.sO hy hq];exact hx⟩,⟨⟨_,WV⟩,Nm.at λo q=>(sb.2 it Rr.symm).trans q⟩,λb hb=>?_⟩;have xf:H b=none/\∃o,s.heap.get? b=some o:=by
   rcases bN.mp hb with rfl | hb
   .exact⟨fe.1,_,he⟩
   obtain rfl:b=it:=by simpa using hb
   obtain⟨o,q,_⟩:=hit;exact⟨fi.1,o,q⟩
  obtain⟨n,o,q⟩:=xf;rw [ai (lt b o q)];exact n
 done:=by
  intro X hP hw hK hc i ag s σ H E I hf st hg;subst hP hw hK;obtain⟨xs,hq,hx⟩:=hg;obtain⟨aN,rv,p,hz⟩:=I.list hq;obtain⟨⟨old,he⟩,hit⟩:=st;obtain⟨f0,f1,f2,f3,f4,f5⟩:=hf it (by simp);have hl:=rv.length;exact wpAny_pyNext_enum_end (I.ok.hd hc) he hit p.isList (by simp;omega) λh' eb=>⟨rfl,I.turned (t':=s.toks) (λb o hb e=>eb b o hb e) f0 f1 f3 f4 f5⟩
 self:=λ_ _ _ _ _ st h=>wpAny_pyIter_enum st.1.choose_spec h
def vm:bootBuiltins "enumerate"=some (.type "enumerate"):=by decide +kernel
def QM (K:aR)(ta:TA):TI:=λσ H R=>ta σ H λvs H1=>Yy vs (aG K H1) λa=>R (SG K a) H1
def nZ {X:Cx}{elts:List Expr}{k:Nat}{wb:Pos}{l:Expr}{ta:TA}{p pos:Pos}(hg:Gl X "enumerate")(hm:X.mg "enumerate"=none)(ha:PA X [l] ta)(hs:starEach [l] X.env=[(false,eval l X.env)]:=by rfl) :
  PI X (.Tuple elts k wb) (.Call (.Name "enumerate" p) [l] [] pos) (QM X.K ta):=by
 intro ag s σ H R I h;refine Call_ (jE I hg hm vm (v9 (cK (ha pos ag s σ H _ I h) λus s1 aS=>?_) hs rfl));obtain⟨vs,H1,I1,r1,q1⟩:=aS;obtain⟨a,xs,e,hq,q⟩:=q1;subst e;obtain⟨u,rfl,rx⟩:=r1.one;cases rx;obtain⟨aN,rv,pl,hz⟩:=I1.list hq;refine call_enumerate_list pl.isList λh1 he hit hsz hk=>wpAny_pyIter_enum he ?_;refine⟨s1.heap.objs.size+1,[s1.heap.objs.size+1,s1.heap.objs.size],_,_,H1,rfl,I1.kept (t':=s1.toks) λb o e=>hk b o e,C4 a _ _ (jI (ny _)),⟨⟨_,he⟩,hit⟩,λb hb=>?_,q⟩;rcases bN.mp hb with rfl | hb
 .exact I1.xj (iG _) (I1.bF.fresh (iG _))
 obtain rfl:b=s1.heap.objs.size:=by simpa using hb
 exact I1.xj (aH _) (I1.bF.fresh (aH _))
def de (kvs bA:List (aK×V)):List (aK×V):=kvs.foldl (λa p=>bE a p.1 p.2) bA
theorem tF:∀{kvs:List (aK×V)}{vs:List (aK×Value)}{bA:List (aK×V)}{HW:List (aK×Value)},KV kvs vs->KV bA HW->KV (de kvs bA) (vs.foldl (λa p=>stored a p.1 p.2) HW)
 | _,_,_,_,.nil,h=>h
 | _,_,_,_,.cons (a:=p) (b:=q) r t,h=>by
  obtain⟨e,rv⟩:=r;show KV (de _ (bE _ p.1 p.2)) (List.foldl _ (stored _ q.1 q.2) _);rw [<-e];exact tF t (h.put p.1 rv)
theorem tG:∀(kvs bA:List (aK×V)),(de kvs bA).length<=bA.length+kvs.length
 | [],bA=>by simp [de]
 | p::r,bA=>by
  have:=tG r (bE bA p.1 p.2);have:=fg bA p.1 p.2;show (de r (bE bA p.1 p.2)).length<=_;rw [eC];omega
section
variable {X:Cx}{ag:List (Addr×Obj)}{σ:St}{H:Hp}{s:Shared}
theorem pairs_at (I:Inv X ag σ H s):∀{ts:List Addr}{kvs:List (aK×V)}{aN:List Value},Paired (λt kv=>bf X.K H t [kV kv.1,kv.2]) ts kvs->aV (ts.map V.ref) aN ->
  ∃vs:List (aK×Value),KV kvs vs/\Paired (λu kv=>ni (a7 X.prog X.w) s.heap u kv) aN vs
 | [],_,_,.nil,r=>by
  rw [j4] at r;cases r;exact⟨[],.nil,.nil⟩
 | t::ts,kv::kvs,_,.cons h p,r=>by
  rw [bL] at r;cases r with
  | cons r1 r2 =>
   obtain⟨vs,e1,e2⟩:=pairs_at I p r2;obtain⟨aN,rv,⟨o,h1,h2,n,h3⟩,_⟩:=I.tuple h;obtain⟨u1,u2,rfl,q1,q2⟩:=vals2 rv;exact⟨(kv.1,u2)::vs,.cons ⟨rfl,q2⟩ e1,.cons ⟨t,u1,n,o,r1,lZ q1,h1,h2,h3⟩ e2⟩
theorem Paired.at_ {α β:Type}{F:α->β->Prop}:∀{xs:List α}{ys:List β},Paired F xs ys->∀(m:Nat)(y:β),ys[m]?=some y->∃x,xs[m]?=some x/\F x y
 | _,_,.nil,m,y,e=>by cases m <;> cases e
 | _,_,.cons h t,0,y,e=>by cases e;exact⟨_,rfl,h⟩
 | _,_,.cons h t,m+1,y,e=>Paired.at_ t m y e
def eh (hc:X.calm=true):fZ X (.type "dict") (λxs H Q=>∃a ts kvs,xs=[.ref a]/\H a=some (.lst (ts.map V.ref))/\Paired (λt kv=>bf X.K H t [kV kv.1,kv.2]) ts kvs/\∀d,H d=none->Q (.ref d) (upd H d (.dK (de kvs [])))):=by
 intro ag s σ H xs us Q I r h;obtain⟨a,ts,kvs,rfl,e,p,q⟩:=h;obtain⟨u,rfl,rx⟩:=vals1 r;cases (show u=Value.ref a from rx);obtain⟨z,aN,n,rv,ho⟩:=(show bW X.prog X.w H s.heap a (.lst _) from I.bF a _ e);obtain⟨vs,r1,r2⟩:=pairs_at I p rv;have l1:=bG r2;have l2:=r1.length;have l3:=bG p;rw [aB] at z;refine tS (a7 X.prog X.w) (I.ok.hd hc) ho (by simpa using l1) (λm kv em=>?_) ∅ λh' t' hd kk=>?_
 .obtain⟨u,e1,e2⟩:=Paired.at_ r2 m kv em;exact⟨u,by simpa using e1,e2⟩
 have new:bW X.prog X.w (upd H s.heap.objs.size (.dK (de kvs []))) h' s.heap.objs.size (.dK (de kvs [])):=by
  refine tK ?_ ?_ (tF r1 .nil) hd
  .have:=tG kvs [];simp at this;omega
  have:=I.big;exact jX.mpr (jI this)
 exact⟨.ref s.heap.objs.size,_,I.laid (t':=t') kk (aH _) new,rfl,q _ (I.bF.fresh (aH _))⟩
theorem uN {α β:Type}{F:α->β->Prop}:∀{xs:List α}{ys:List β},xs.length=ys.length->(∀(j:Nat) x y,xs[j]?=some x->ys[j]?=some y->F x y)->Paired F xs ys
 | [],[],_,_=>.nil
 | [],_::_,e,_=>by cases e
 | _::_,[],e,_=>by cases e
 | x::xs,y::ys,e,h=>.cons (h 0 x y rfl rfl) (uN (Nat.succ.inj e) λj a b e1 e2=>h (j+1) a b e1 e2)
def La {P:Program}{w:World}{k:aK}{u:Value}(h:(a7 P w).is k u=true):RelV (kV k) u:=by
 rcases dj (show sQ k u=true from h) with ⟨i,t,rfl,rfl⟩ | ⟨x,t,rfl,rfl⟩
 .exact⟨t,rfl⟩
 exact⟨t,rfl⟩
def ng (hc:X.calm=true):fZ X (.type "list") (λxs H Q=>∃a kvs,xs=[.ref a]/\H a=some (.dK kvs)/\∀D,H D=none->Q (.ref D) (upd H D (.lst (kvs.map λp=>kV p.1)))):=by
 intro ag s σ H xs us Q I r h;obtain⟨a,kvs,rfl,e,q⟩:=h;obtain⟨u,rfl,rx⟩:=vals1 r;cases (show u=Value.ref a from rx);obtain⟨z,hs,vs,rel,dd⟩:=yY I.bF e;obtain⟨o,es,ep,d1,d2,d3,d4⟩:=dd;have l1:=rel.length;refine PySem.W.kdl_call (PySem.W.kdl_dict (knd:=a7 X.prog X.w) (kvs:=vs) (ep:=ep) hs) (I.ok.hd hc) ⟨o,es,d1,d2,d3,d4⟩ ∅ λh' tk bA c kk hD DY=>?_;have keys:=rel.keys;have vals:aV (kvs.map λp=>kV p.1) bA.toList:=by
  refine uN (by have h1:=DY.1;simp only [aB,vL];omega) λj x y e1 e2=>?_;rw [Array.getElem?_toList] at e2;obtain⟨k,v,e3,e4⟩:=DY.2 j y e2;rw [bq] at e1;obtain⟨p,e5,rfl⟩:=bR.mp e1;have e6:(kvs.map (·.1))[j]?=some p.1:=by rw [bq,e5];rfl
  rw [keys,bq,e3] at e6;cases e6;exact La e4
 have new:bW X.prog X.w (upd H s.heap.objs.size (.lst (kvs.map λp=>kV p.1))) h' s.heap.objs.size (.lst (kvs.map λp=>kV p.1)):=⟨by rw [aB];exact z,bA.toList,c,vals,by simpa using hD⟩;exact⟨.ref s.heap.objs.size,_,I.laid (t':=tk) kk (aH _) new,rfl,q _ (I.bF.fresh (aH _))⟩
end
def pJ (v:V):Prop:=kO v=true\/∃r,v=.ref r
def Hw {x:V}(h:kO x=true):EM x x=true:=by
 cases x with
 | dG=>rfl
 | bl b=>exact kb b
 | int i=>exact kb i
 | str z=>exact kb z
 | _=>cases h
def A4 {A:Around}{s:Shared}{x:V}{u v:Value}(h:pJ x)(ru:RelV x u)(rv:RelV x v):SeqAt.EqAt A s u v true:=by
 rcases h with h | ⟨r,rfl⟩
 .have q:=Hz (A:=A) (s:=s) ru rv h h;rw [Hw h] at q;exact q
 cases (show u=Value.ref r from ru);cases (show v=Value.ref r from rv);exact .same _
def sS {A:Around}{s:Shared}{xs:List V}{aN gP:List Value}(r:aV xs aN)(r2:aV xs gP)(hx:∀v∈xs,pJ v) (j:Nat)(h1:j < aN.toArray.size)(h2:j < gP.toArray.size) :
  SeqAt.EqAt A s aN.toArray[j] gP.toArray[j] true:=by
 have l1:=r.length;have k1:j < aN.length:=by simpa using h1
 have k2:j < gP.length:=by simpa using h2
 have g1:xs[j]?=some (xs[j]'∅):=c_ ∅;obtain⟨u1,e1,q1⟩:=r.get g1;obtain⟨u2,e2,q2⟩:=r2.get g1;have f1:aN.toArray[j]=u1:=by
  have:=(aY.mp e1).2;simpa using this
 have f2:gP.toArray[j]=u2:=by
  have:=(aY.mp e2).2;simpa using this
 rw [f1,f2];exact A4 (hx _ (rq _)) q1 q2
def KZ (K:aR)(b:Bool):V->V->Hp->VK->Prop:=λx y H Q=>∃p q xs,x=.ref p/\y=.ref q/\aG K H p xs/\aG K H q xs/\(∀v∈xs,pJ v)/\Q (.bl b) H
def As {X:Cx}(hu:X.A.units < cLine):md X (compareOp .Eq) (KZ X.K true):=by
 intro ag s σ H x y v u Q I rx ry h;obtain⟨a,b,xs,rfl,rfl,ha,hb,hx,q⟩:=h;cases rx;cases ry;obtain⟨aN,r,pl,hz⟩:=I.list ha;obtain⟨gP,r2,Dj,Wh⟩:=I.list hb;have l1:=r.length;have l2:=r2.length;refine SeqAt.eq_listAt (e:=λ_=>true) pl.isList Dj.isList (by simp only [bJ];omega) hu (λj h1 h2=>sS r r2 hx j h1 h2) ?_;have e:((List.range aN.toArray.size).all λ_=>true)=true:=by simp
 rw [e];exact⟨.bl true,H,I,rfl,q⟩
def Ar {X:Cx}(hu:X.A.units < cLine):md X (compareOp .NotEq) (KZ X.K false):=by
 intro ag s σ H x y v u Q I rx ry h;obtain⟨a,b,xs,rfl,rfl,ha,hb,hx,q⟩:=h;cases rx;cases ry;obtain⟨aN,r,pl,hz⟩:=I.list ha;obtain⟨gP,r2,Dj,Wh⟩:=I.list hb;have l1:=r.length;have l2:=r2.length;refine SeqAt.RcNeAt.lists (e:=λ_=>true) pl.isList Dj.isList (by simp only [bJ];omega) hu (λj h1 h2=>sS r r2 hx j h1 h2) X.prog X.w X.xe _ ?_;have e:(!(List.range aN.toArray.size).all λ_=>true)=false:=by simp
 rw [e];exact⟨.bl false,H,I,rfl,q⟩
theorem Bx:∀{ts:List Str}{aN:List Value},aV (ts.map V.str) aN->StrsAre aN ts
 | [],_,r=>by rw [j4] at r;cases r;exact .nil
 | z::ts,_,r=>by
  rw [bL] at r;cases r with
  | cons h t =>
   obtain⟨tk,e⟩:=(show ∃tk,_=Value.str z tk from h);subst e;exact .cons z tk (Bx t)
def rJoin (K:aR):V->List V->Hp->VK->Prop:=λx vs H Q=>∃z a ts,x=.str z/\vs=[.ref a]/\aG K H a (ts.map V.str)/\(ts.map (·.length)).sum+ts.length * z.length<=16777216/\Q (.str (Txt.join z ts)) H
def JA {X:Cx}:YG X "str.join" (rJoin X.K):=by
 intro ag s σ H x vs v us Q I rx rv h;obtain⟨z,a,ts,rfl,rfl,hq,hz,q⟩:=h;obtain⟨t,rfl⟩:=rx;obtain⟨u,rfl,ru⟩:=rv.one;cases (show u=Value.ref a from ru);obtain⟨aN,r,pl,_⟩:=I.list hq;exact join_list pl.isList (by simpa using Bx r) hz λt' k=>⟨.str _,H,I.tok _,⟨_,rfl⟩,q⟩
section
variable {K:aR}{a D:Addr}{xs:List V}{ts:List Str}{js:List (Nat×Str)}{g:TG}{tif:TT}{te:TE}{R:Hp->Prop}{σ:St}{H:Hp}
def bY (Pv:Nat->List V->St->Hp->Prop)(h0:Pv 0 [] (dI ts js σ) (upd H D (.lst [])))(hl:∀i ys σ H,i<=xs.length->Pv i ys σ H->aG K H a xs)
  (hs:∀i x ys σ H,xs[i]?=some x->Pv i ys σ H->g x σ H λσ2 H2=>tif σ2 H2 λb H3=>if b=true then te σ2 H3 λy H4=>H4 D=some (.lst ys)/\ys.length < sizeLine/\Pv (i+1) (ys++[y]) σ2 (upd H4 D (.lst (ys++[y]))) else Pv (i+1) ys σ2 H3)
  (hd:∀ys σ H,Pv xs.length ys σ H->R H) :
  CWq (jQ K a) D (dI ts js σ) H R g tif te:=by
 refine⟨λi m ys σ H=>m=xs.length - i/\i<=xs.length/\Pv i ys σ H,⟨xs.length,by simp,gI _,h0⟩,?_⟩;rintro i m ys σ' H ⟨rfl,hi,p⟩;have q:=hl i ys σ' H hi p;by_cases iF:i < xs.length
 .refine .inr ⟨⟨xs,xs[i],q,by simp [iF]⟩,xs.length - (i+1),∅,λx H' y=>?_⟩;obtain⟨e,y⟩:=y;subst e;have z:=hs i x ys σ' _ (y xs q) p;have h1:(i+1<=xs.length)=True:=eq_true iF;simp only [h1,true_and];exact z
 have e:i=xs.length:=by omega
 subst e;exact .inl ⟨⟨xs,q,aH _⟩,hd ys σ' H p⟩
def zi {lo:Int}{n:Nat}(Pv:Nat->List V->St->Hp->Prop)(h0:Pv 0 [] (dI ts js σ) (upd H D (.lst [])))
  (hs:∀i ys σ H,i < n->Pv i ys σ H->g (.int (lo+i)) σ H λσ2 H2=>tif σ2 H2 λb H3=>if b=true then te σ2 H3 λy H4=>H4 D=some (.lst ys)/\ys.length < sizeLine/\Pv (i+1) (ys++[y]) σ2 (upd H4 D (.lst (ys++[y]))) else Pv (i+1) ys σ2 H3)
  (hd:∀ys σ H,Pv n ys σ H->R H) :
  CWq (Ky lo n) D (dI ts js σ) H R g tif te:=by
 refine⟨λi m ys σ H=>m=n - i/\i<=n/\Pv i ys σ H,⟨n,by simp,gI _,h0⟩,?_⟩;rintro i m ys σ' H ⟨rfl,hi,p⟩;by_cases iF:i < n
 .refine .inr ⟨iF,n - (i+1),∅,λx H' y=>?_⟩;obtain⟨rfl,rfl⟩:=y;have z:=hs i ys σ' _ iF p;have h1:(i+1<=n)=True:=eq_true iF;simp only [h1,true_and];exact z
 have e:i=n:=by omega
 subst e;exact .inl ⟨aH _,hd ys σ' H p⟩
end
def xy {X:Cx}:fZ X (.builtin "isinstance") (λxs H Q=>∃a ys n b,xs=[.ref a,.ty n]/\aG X.K H a ys/\PySem.W.kitOne X.K (.type "list") (.type n)=some b/\Q (.bl b) H):=by
 intro ag s σ H xs us Q I r h;obtain⟨a,ys,n,b,rfl,hq,e,q⟩:=h;obtain⟨u,w',rfl,rx,rn⟩:=vals2 r;cases (show u=Value.ref a from rx);cases (show w'=Value.type n from rn);obtain⟨aN,_,pl,_⟩:=I.list hq;obtain⟨o,h1,h2,_⟩:=pl.isList;exact rh PySem.W.kitx_list I.jo ⟨o,h1,h2⟩ e (λz=>nomatch z) λtk=>⟨.bl b,H,I.tok _,rfl,q⟩
def G5 {K:aR}{t:Value}:PySem.W.kitOne K t t=some true:=by unfold PySem.W.kitOne;rw [az (kb t)]
def Px (t:TS):TS:=λD σ H=>∃R:St->Hp->Prop,t { D with nx:=R } σ H/\∀σ' H',R σ' H'->D.nx σ' H'
def nW {X:Cx}{st:Stmt}{t:TS}(h:PS X st t):PS X st (Px t):=by
 intro ag s σ H D I ⟨R,q,m⟩;refine cK (h ag s σ H _ I q) λf s1 z=>?_;cases f with
 | next=>obtain⟨σ',H',I',r⟩:=z;exact⟨σ',H',I',m _ _ r⟩
 | ret v=>exact z
 | brk=>exact z
 | cont=>exact z
def aL (P:Program)(w:World)(K:aR)(mg:Str->Option Value)(base:Heap) (k:Nat)(x:Str) (ps:List Str)(sp:Sp):Prop :=
 ∃f fd,bh P w K mg base fJ k f fd ps sp/\Binds K fd ps []/\PySem.W.keepIn K (.ref f)=true/\mg x=some (.ref f)
theorem aL.mono {P:Program}{w:World}{K:aR}{mg:Str->Option Value}{base:Heap}{j k:Nat}{x:Str}{ps:List Str}{sp:Sp}(c:aL P w K mg base j x ps sp)(h:j<=k):aL P w K mg base k x ps sp :=
 let ⟨f,fd,a,b⟩:=c;⟨f,fd,a.mono h,b⟩
def bX {X:Cx}{k:Nat}{x:Str}{ps:List Str}{sp:Sp}{e:Expr}{es:List Expr}{t:TA}{p pos:Pos}(c:aL X.prog X.w X.K X.mg X.base k x ps sp)(hr:dD k X.A)(hg:Gl X x)(ha:PA X (e::es) t)
  (qr:(x == ("__debug__":Str))=false:=by decide)(he:starEach (e::es) X.env=(false,eval e X.env)::starEach es X.env:=by rfl)(l7:(backTo pos (starEach es X.env)).any (·.1)=false:=by rfl) :
  PE X (.Call (.Name x p) (e::es) [] pos) (Ff sp [] E0 t):=by
 obtain⟨f,fd,G,b,kp,m⟩:=c;exact B7 G hr hg m kp b .nil p_ ha qr he l7
def fits {n:Nat}(h:n<=1000000):n<=sizeLine:=cQ h nofun
def bI {n:Nat}(h:n<=1000000):n < sizeLine:=ml h nofun
def ah {H:Hp}{p:Addr}(h:H p=none)(o:HO):aD H (upd H p o):=λb u q=>by rw [ai (aq q h)];exact q
def aD.tup {K:aR}{H H':Hp}{a:Addr}{xs:List V}(e:aD H H')(h:bf K H a xs):bf K H' a xs:=by
 rcases h with (h | ⟨o,h⟩) | h
 .exact .inl (.inl (e _ _ h))
 .exact .inl (.inr ⟨o,e _ _ h⟩)
 exact .inr h
def lh {X:Cx}(hc:X.calm=true):fZ X (.builtin "all") (λxs H Q=>∃(a:Addr)(bs:List Bool),xs=[.ref a]/\aG X.K H a (bs.map V.bl)/\Q (.bl (bs.all id)) H):=by
 intro ag s σ H xs us Q I r h;obtain⟨a,bs,rfl,hq,q⟩:=h;obtain⟨u,rfl,rx⟩:=vals1 r;cases (show u=Value.ref a from rx);obtain⟨aN,rv,pl,hz⟩:=I.list hq;obtain⟨o,h1,h2,m,h3⟩:=id pl.isList;have la:a < s.heap.objs.size:=aO h1;have ln:=rv.length;rw [aB] at ln;have Wc:∀(i:Nat) v,aN.toArray[i]?=some v->v=.bool (bs.getD i true):=λi v e=>by
  have e':aN[i]?=some v:=by simpa using e
  obtain⟨x,e2,e3⟩:=Paired.at_ rv i v e';rw [bq] at e2;obtain⟨b,e4,rfl⟩:=bR.mp e2;rw [uv,e4];exact e3
 refine call_all_walk (pP pl.isList ?_);refine⟨s.heap.objs.size,_,_,_,_,_,λi=>bs.getD i true,rfl,Walks.list (A:=X.A.in1) (show X.A.in1.handled=none from I.ok.hd hc) s.heap.objs.size a (bw la) aN.toArray,⟨⟨_,cZ _ rfl,rfl,rfl⟩,⟨o,bu _ h1,h2,m,h3⟩⟩,?_,λh' tk kk=>?_⟩
 .intro i v s1 Q1 E1 hP Xb;rw [Wc i v hP];exact nA Xb
 have e:((List.range aN.toArray.size).all λi=>bs.getD i true)=bs.all id:=by
  rw [bJ,<-ln,jU,fO,fO];constructor
  .intro h b hb;obtain⟨i,hi,e⟩:=pU.mp hb;have:=h i (jT.mpr hi);rw [uv,c_ hi,e] at this;exact this
  intro h i hi;have Ro:=jT.mp hi;rw [uv,c_ Ro];exact h _ (rq Ro)
 rw [e];exact⟨.bl _,H,I.kept (t':=tk) λb o' e'=>kk b o' (by simp;exact bw (aO e')) (bu _ e'),rfl,q⟩
section
variable {prog:Program}{w:World}{A:Around}{E:Value->Shared->Prop}{s:Shared}
def AE {it l:Addr}{i:Nat}{items:Array Value}{x:Value}{Q:Value->Shared->Prop}(hit:s.heap.IsTupleIter it l i)(hl:s.heap.IsTuple l items)(hx:items[i]?=some x)
  (hQ:∀h',h'.IsTupleIter it l (i+1)->Heap.SameBut it s.heap h'->Q x { s with heap:=h' }):wpAny (model prog w) A (Builtin.SmallTypes.nextOf (.ref it)) Q E s:=by
 obtain⟨o,ho,hc,hd⟩:=id hit;obtain⟨ol,Wz,_,nl,WW⟩:=hl;unfold Builtin.SmallTypes.nextOf;refine ax (ur (name:=Str.ofString "__next__") hit.typeIs vY (oV vY hit.typeIs F.entry_tuple_iterator_next ?_ (F.args_tuple_iterator_next_1 _)));show wpAny _ _ (field (.ref it) 0 >>= λv=>_) _ _ s;refine ax (gH ho hd (x:=.ref l) (by rfl) ?_);show wpAny _ _ (if (Value.ref l == .none)=true then _ else _) _ _ s;rw [aA (by exact dB)];show wpAny _ _ (field (.ref it) 1 >>= λv=>_) _ _ s;refine ax (gH ho hd (x:=.int i 0) (by rfl) ?_);show wpAny _ _ (seqItems? (.ref l) >>= λv=>_) _ _ s;refine ax (j8 Wz WW (by
  simp only [pQ,hx];refine ax (oP ho hd (by simp) (aI ⟨x,rfl,aI (hQ _ ⟨_,lR _ ho (Obj.isFreed_of_fields (rA hd _)),(Obj.cls_mapFields ..).trans hc,?_⟩ (Heap.SameBut.update ..))⟩));rw [rA hd];simp [rawInt]))
def A6 {e it l:Addr}{i:Nat}{items:Array Value}{x old:Value}{Q:Option Value->Shared->Prop}(he:IsEnum s.heap e it i old)(hit:s.heap.IsTupleIter it l i)(hl:s.heap.IsTuple l items)(hx:items[i]?=some x)(Nh:e≠it)
  (hQ:∀h',IsEnumOut h' e it ((i:Int)+1) x s.heap.objs.size->h'.IsTupleIter it l (i+1)->h'.get? s.heap.objs.size=some { cls:=.type "tuple",data:=.seq #[.int i s.toks,x] } ->
   (∀b o,b≠e->b≠it->s.heap.get? b=some o->h'.get? b=some o)->Q (some (.ref s.heap.objs.size)) { s with heap:=h',toks:=s.toks+1 }) :
  wpAny (model prog w) A (pyNext (.ref e)) Q E s:=by
 have hT:s.TypeIs (.ref e) "enumerate" := ⟨_,he,rfl⟩;unfold pyNext;refine ax (oO (ur (name:=Str.ofString "__next__") hT vN (oV vN hT F.entry_enumerate_next ?_ (F.args_enumerate_next_1 _))));obtain⟨hp,g,d,tk,os⟩:=s;show wpAny _ _ (field (.ref e) 2 >>= λv=>_) _ _ _;refine ax (gH he rfl (x:=.ref it) (by rfl) (ax (AE hit hl hx λh₁ WM QV=>?_)));replace QV:Heap.SameBut it hp h₁:=QV;have WU:IsEnum h₁ e it i old:=(QV.2 e Nh).trans he;show wpAny _ _ (field (.ref e) 3 >>= λv=>_) _ _ ⟨h₁,g,d,tk,os⟩;refine ax (gH WU rfl (x:=rawInt i) (by rfl) ?_);show wpAny _ _ (field (.ref e) 4 >>= λv=>_) _ _ ⟨h₁,g,d,tk,os⟩;refine ax (gH WU rfl (x:=.none) (by rfl) ?_);show wpAny _ _ (mkInt i >>= λv=>_) _ _ ⟨h₁,g,d,tk,os⟩;refine ax (wpAny_mkInt ?_);show wpAny _ _ (setField (.ref e) 3 (rawInt ((i:Int)+1)) >>= λv=>_) _ _ ⟨h₁,g,d,tk+1,os⟩;refine ax (rB WU (by simp) λh₂ f₂ hs₂=>?_);have he₂:IsEnum h₂ e it ((i:Int)+1) old:=f₂;have k₂:Heap.SameBut e h₁ h₂:=hs₂;show wpAny _ _ (setField (.ref e) 4 .none >>= λv=>_) _ _ ⟨h₂,g,d,tk+1,os⟩;refine ax (rB he₂ (by simp) λh₃ f₃ hs₃=>?_);have he₃:IsEnum h₃ e it ((i:Int)+1) old:=f₃;have k₃:Heap.SameBut e h₂ h₃:=hs₃;show wpAny _ _ (newTuple [.int i tk,x] >>= λv=>_) _ _ ⟨h₃,g,d,tk+1,os⟩;refine ax (wpAny_newTuple ?_);have TM:IsEnum (h₃.push { cls:=.type "tuple",data:=.seq #[.int i tk,x] }) e it ((i:Int)+1) old:=bu _ he₃;have hsz:h₃.objs.size=hp.objs.size:=by rw [k₃.1,k₂.1,QV.1]
 have Z5:e < hp.objs.size:=aO he;have ZP:(h₃.push { cls:=.type "tuple",data:=.seq #[.int i tk,x] }).get? hp.objs.size=some { cls:=.type "tuple",data:=.seq #[.int i tk,x] }:=by rw [<-hsz];exact cZ _ rfl
 have ZX:∀b o,b≠e->b≠it->hp.get? b=some o->(h₃.push { cls:=.type "tuple",data:=.seq #[.int i tk,x] }).get? b=some o:=λb o n1 n2 hb=>bu _ (k₃.extBut b o n1 (k₂.extBut b o n1 (QV.extBut b o n2 hb)));have Rn:(h₃.push { cls:=.type "tuple",data:=.seq #[.int i tk,x] }).IsTupleIter it l (i+1):=WM.at λo q=>bu _ (k₃.extBut it o (dC Nh) (k₂.extBut it o (dC Nh) q));generalize h₃.push { cls:=.type "tuple",data:=.seq #[.int i tk,x] }=h₄ at TM ZP ZX Rn ⊢;rw [hsz];show wpAny _ _ (Builtin.SmallTypes.ownedTupleIsFree (.ref e) >>= λv=>_) _ _ ⟨h₄,g,d,tk+1,os⟩;refine ax (by
  unfold Builtin.SmallTypes.ownedTupleIsFree;refine ax (gH TM rfl (x:=.none) (by rfl) (aI (by
   simp only [if_true];refine ax (wpAny_rule (ax (gH TM rfl (x:=old) (by rfl) (ax (rB TM (by simp) λh₅ f₅ hs₅=>?_)))));have he₅:IsEnum h₅ e it ((i:Int)+1) x:=f₅;have k₅:Heap.SameBut e h₄ h₅:=hs₅;show wpAny _ _ (Builtin.SmallTypes.ownedTupleHandOut (.ref e) (.ref hp.objs.size) >>= λv=>_) _ _ ⟨h₅,g,d,tk+1,os⟩;refine ax (by
    unfold Builtin.SmallTypes.ownedTupleHandOut;refine ax (rB he₅ (by simp) λh₆ f₆ hs₆=>?_);have he₆:IsEnumOut h₆ e it ((i:Int)+1) x hp.objs.size:=f₆;have k₆:Heap.SameBut e h₅ h₆:=hs₆;refine rB he₆ (by simp) λh₇ f₇ hs₇=>?_;have he₇:IsEnumOut h₇ e it ((i:Int)+1) x hp.objs.size:=f₇;have k₇:Heap.SameBut e h₆ h₇:=hs₇;have up:∀b o,b≠e->h₄.get? b=some o->h₇.get? b=some o:=λb o n q=>k₇.extBut b o n (k₆.extBut b o n (k₅.extBut b o n q));exact ax (wpAny_letGo (aI ⟨_,rfl,aI (hQ h₇ he₇ (Rn.at λo q=>up it o (dC Nh) q) (up _ _ (jI Z5) ZP) λb o n1 n2 q=>up b o n1 (ZX b o n1 n2 q))⟩)))))))
def sM {it l:Addr}{i:Nat}{items:Array Value}{Q:Value->Shared->Prop}(hh:A.handled=none)(hit:s.heap.IsTupleIter it l i)(hl:s.heap.IsTuple l items)(hx:items[i]?=none)
  (hE:∀h' e,Heap.ExtBut it s.heap h'->(∃o,h'.get? e=some o/\o.cls=.type "StopIteration")->E (.ref e) { s with heap:=h' }):wpAny (model prog w) A (Builtin.SmallTypes.nextOf (.ref it)) Q E s:=by
 obtain⟨o,ho,hc,hd⟩:=id hit;obtain⟨ol,Wz,_,nl,WW⟩:=hl;unfold Builtin.SmallTypes.nextOf;refine ax (ur (name:=Str.ofString "__next__") hit.typeIs vY (oV vY hit.typeIs F.entry_tuple_iterator_next ?_ (F.args_tuple_iterator_next_1 _)));show wpAny _ _ (field (.ref it) 0 >>= λv=>_) _ _ s;refine ax (gH ho hd (x:=.ref l) (by rfl) ?_);show wpAny _ _ (if (Value.ref l == .none)=true then _ else _) _ _ s;rw [aA (by exact dB)];show wpAny _ _ (field (.ref it) 1 >>= λv=>_) _ _ s;refine ax (gH ho hd (x:=.int i 0) (by rfl) ?_);show wpAny _ _ (seqItems? (.ref l) >>= λv=>_) _ _ s;refine ax (j8 Wz WW ?_);simp only [pQ,hx];refine ax (wpAny_rule (ax (oP ho hd (by simp) (ax ?_))));simp only [newExc,newTuple];refine ax (jW ?_ (by size_fits));refine ax (m:=firstArgMember _ _) (wpAny_of_eq (a:=Value.none) (by first | rfl | (simp only [firstArgMember];rfl)) ?_)
 refine jW ?_ (by size_fits);simp only [raiseNew];refine ax (wpAny_handled ?_)
 first | rw [show A.in1.handled=none from hh] | rw [hh]
 refine ax (aI (wpAny_throw (hE _ _ (((Heap.SameBut.update ..).extBut.push _).push _) ⟨_,cZ _ rfl,rfl⟩)))
def Ec {e it l:Addr}{i:Nat}{items:Array Value}{old:Value}{Q:Option Value->Shared->Prop}(hh:A.handled=none)(he:IsEnum s.heap e it i old)(hit:s.heap.IsTupleIter it l i)(hl:s.heap.IsTuple l items)(hx:items[i]?=none)
  (hQ:∀h',Heap.ExtBut it s.heap h'->Q none { s with heap:=h' }):wpAny (model prog w) A (pyNext (.ref e)) Q E s:=by
 have hT:s.TypeIs (.ref e) "enumerate" := ⟨_,he,rfl⟩;unfold pyNext;refine ax (oO (ur (name:=Str.ofString "__next__") hT vN (oV vN hT F.entry_enumerate_next ?_ (F.args_enumerate_next_1 _))));show wpAny _ _ (field (.ref e) 2 >>= λv=>_) _ _ _;refine ax (gH he rfl (x:=.ref it) (by rfl) (ax (sM hh hit hl hx λh' x zF OH=>?_)));obtain⟨o,ho,hc⟩:=OH;exact ax (wpAny_isInstance (T := "StopIteration") (b:=true) ⟨o,ho,hc⟩ isSubtype_stop (aI (hQ _ zF)))
end
def yF (l:Addr)(items:Array Value) (n:Nat)(CA:Option Addr)(sl:Array (Option Value)) :
  Meets (Builtin.«enumerate.__new__» ⟨[.type "enumerate",.ref l],[]⟩) (λ_ R s=>s.heap.get? l=some { cls:=.type "tuple",dict:=CA,data:=.seq items n,slots:=sl } /\
   R (.ok (.ret (.ref (s.heap.push { cls:=.type "tuple_iterator",data:=.fields #[.ref l,.int 0 0] }).objs.size)))
    { s with heap:=(s.heap.push { cls:=.type "tuple_iterator",data:=.fields #[.ref l,.int 0 0] }).push { cls:=.type "enumerate",data:=.fields #[.none,.bool false,.ref s.heap.objs.size,rawInt 0,.none,.none] } }) :=
 .of_wp λprog w A R s h=>by
  obtain⟨hp,g,d,tk,os⟩:=s;obtain⟨hl,h⟩:=h;have DS:=sub_enumerate;have hT:Heap.IsTuple (Shared.heap ⟨hp,g,d,tk,os⟩) l items:=⟨_,hl,rfl,n,rfl⟩
  wp_walk using vT hl
  refine wpAny_stack_any λst=>aI ?_;split
  .rename_i c _ _ _ _ _
   cases (c == Value.type "enumerate")
   .wp_walk using vT hl,vE hT;exact⟨_,rfl,h⟩
   wp_walk using vT hl,vE hT;exact⟨_,rfl,h⟩
  wp_walk using vT hl,vE hT;exact⟨_,rfl,h⟩
section
variable {prog:Program}{w:World}{A:Around}{E:Value->Shared->Prop}{s:Shared}
def Bb {l:Addr}{items:Array Value}{Q:Value->Shared->Prop}(hL:s.heap.IsTuple l items)
  (h:∀h',IsEnum h' (s.heap.objs.size+1) s.heap.objs.size 0 .none->h'.IsTupleIter s.heap.objs.size l 0->(∀b o,s.heap.get? b=some o->h'.get? b=some o)->Q (.ref (s.heap.objs.size+1)) { s with heap:=h' }) :
  wpAny (model prog w) A (call (.type "enumerate") [.ref l]) Q E s:=by
 obtain⟨⟨c,CA,dt,sl⟩,hl,hc,n,hd⟩:=hL;replace hc:c=.type "tuple" := hc;replace hd:dt=.seq items n:=hd;subst hc hd;refine callType_new F.called_enumerate nofun (F.typeCall_enumerate_1 _) (F.newCall_enumerate_1 _) (λobj=>F.args_object_init_2 obj _) F.entry_enumerate_new (yF l items n CA sl) ⟨hl,?_⟩;have hz:(s.heap.push { cls:=.type "tuple_iterator",data:=.fields #[.ref l,.int 0 0] }).objs.size=s.heap.objs.size+1:=j7 ..;show _/\_;rw [hz];have he:IsEnum ((s.heap.push { cls:=.type "tuple_iterator",data:=.fields #[.ref l,.int 0 0] }).push { cls:=.type "enumerate",data:=.fields #[.none,.bool false,.ref s.heap.objs.size,rawInt 0,.none,.none] }) (s.heap.objs.size+1) s.heap.objs.size 0 .none:=by
  have:=cZ (s.heap.push { cls:=.type "tuple_iterator",data:=.fields #[.ref l,.int 0 0] }) (o:={ cls:=.type "enumerate",data:=.fields #[.none,.bool false,.ref s.heap.objs.size,rawInt 0,.none,.none] }) rfl;rw [hz] at this;exact this
 exact⟨⟨_,he,rfl⟩,h _ he ⟨_,bu _ (cZ _ rfl),rfl,rfl⟩ λb o x=>bu _ (bu _ x)⟩
end
def tW (K:aR)(a:Addr):It :=
 ⟨λi H=>∃xs x,bf K H a xs/\xs[i]?=some x,λi H x H'=>∃t y,x=.ref t/\H t=none/\H'=upd H t (.tup [.int (i:Int),y])/\∀xs,bf K H a xs->xs[i]?=some y,λi H=>∃xs,bf K H a xs/\xs.length<=i⟩
def zS {P:Program}{w:World}{K:aR}{elts:List Expr}{k:Nat}{wb:Pos}(a e it:Addr)(Rr:e≠it) :
  Turn P w K (.Tuple elts k wb) (tW K a) [e,it] e (λi h=>(∃old,IsEnum h e it i old)/\h.IsTupleIter it a i) where
 mem:=by simp
 obj:=λi h st b hb=>by
  obtain⟨⟨old,he⟩,o,e1,c,d⟩:=st;rcases bN.mp hb with rfl | hb
  .exact⟨_,he,λv z=>by cases z⟩
  obtain rfl:b=it:=by simpa using hb
  exact⟨o,e1,λv z=>by rw [d] at z;cases z⟩
 keep:=λi h h' st k=>⟨⟨st.1.choose,k e (by simp) _ st.1.choose_spec⟩,st.2.at λo q=>k it (by simp) o q⟩
 item:=by
  intro X hP hw hK hc i ag s σ H E I hf st hg;subst hP hw hK;obtain⟨xs,x,hq,hx⟩:=hg;obtain⟨aN,rv,p,hz⟩:=I.tuple hq;obtain⟨u,hu,ru⟩:=rv.get hx;obtain⟨⟨old,he⟩,hit⟩:=st;refine A6 he hit (show s.heap.IsTuple a aN.toArray from p) (x:=u) (by simpa using hu) Rr λh1 ho Nm hT hk=>?_;refine⟨_,rfl,wpAny_letOwnedTupleGo_enum ho λh2 WV sb=>?_⟩;have ne:s.heap.objs.size≠e:=jI (aO he);have kk:∀b o,b≠e->b≠it->s.heap.get? b=some o->h2.get? b=some o:=λb o n1 n2 q=>(sb.2 b n1).trans (hk b o n1 n2 q);have T2:h2.get? s.heap.objs.size=some { cls:=.type "tuple",data:=.seq #[.int i s.toks,u] }:=(sb.2 _ ne).trans hT;have fe:=hf e (by simp);have fi:=hf it (by simp);have fT:H s.heap.objs.size=none:=I.bF.fresh (aH _);have tr:∀b v,H b=some v->b≠e/\b≠it:=λb v q=>⟨λz=>(by rw [z,fe.1] at q;cases q),λz=>(by rw [z,fi.1] at q;cases q)⟩;have nc:∀b,b∉[e,it]->b≠e/\b≠it:=λb z=>⟨λq=>z (by simp [q]),λq=>z (by simp [q])⟩;have lt:∀b o,s.heap.get? b=some o->b≠s.heap.objs.size:=λb o q=>bw (aO q);have I2:Inv X ag σ (upd H s.heap.objs.size (.tup [.int (i:Int),x])) { s with heap:=h2,toks:=s.toks+1 }:=by
   refine I.call (g':=s.gens) (t':=s.toks+1) (d':=s.drawn) (ch:=[e,it]) ⟨λb o q _ _ c=>kk b o (nc b c).1 (nc b c).2 q,λb o q _ _ c=>⟨o.slots,kk b o (nc b c).1 (nc b c).2 q⟩,
    λb o q n _=>by rw [ai (lt b o q)];exact n,λb o q c=>⟨o,kk b o (nc b c).1 (nc b c).2 q⟩,λb ys q=>by rw [ai (aq q fT)];exact q,λb o v q=>by rw [ai (aq q fT)];exact q,
    λb ps q=>⟨#[],by rw [ai (aq q fT),q];simp⟩⟩ (λb v q=>?_) I.bare (λb hb=>?_)
   .by_cases hb:b=s.heap.objs.size
    .subst hb;rw [ae] at q;cases q;exact⟨by show 2<=sizeLine;decide,[.int i s.toks,u],.cons ⟨_,rfl⟩ (.cons ru .nil),_,T2,rfl,_,rfl⟩
    rw [ai hb] at q;refine(I.bF b v q).iV (λc o lG z=>?_) (λc q'=>by rw [ai (aq q' fT)];exact q') λc ys q'=>by rw [ai (aq q' fT)];exact q'
    rcases lG with rfl | lG
    .exact kk c o (tr c _ q).1 (tr c _ q).2 z
    exact kk c o (tr c _ lG).1 (tr c _ lG).2 z
   rcases bN.mp hb with rfl | hb
   .exact⟨fe.2.2.2.1,fe.2.1,fe.2.2.2.2.1,fe.2.2.2.2.2⟩
   obtain rfl:b=it:=by simpa using hb
   exact⟨fi.2.2.2.1,fi.2.1,fi.2.2.2.2.1,fi.2.2.2.2.2⟩
  refine⟨.ref s.heap.objs.size,_,I2,rfl,⟨_,x,rfl,fT,rfl,λys hy=>by rw [I.uz hy hq];exact hx⟩,⟨⟨_,WV⟩,Nm.at λo q=>(sb.2 it Rr.symm).trans q⟩,λb hb=>?_⟩;have xf:H b=none/\∃o,s.heap.get? b=some o:=by
   rcases bN.mp hb with rfl | hb
   .exact⟨fe.1,_,he⟩
   obtain rfl:b=it:=by simpa using hb
   obtain⟨o,q,_⟩:=hit;exact⟨fi.1,o,q⟩
  obtain⟨n,o,q⟩:=xf;rw [ai (lt b o q)];exact n
 done:=by
  intro X hP hw hK hc i ag s σ H E I hf st hg;subst hP hw hK;obtain⟨xs,hq,hx⟩:=hg;obtain⟨aN,rv,p,hz⟩:=I.tuple hq;obtain⟨⟨old,he⟩,hit⟩:=st;obtain⟨f0,f1,f2,f3,f4,f5⟩:=hf it (by simp);have hl:=rv.length;exact Ec (I.ok.hd hc) he hit (show s.heap.IsTuple a aN.toArray from p) (by simp;omega) λh' eb=>⟨rfl,I.turned (t':=s.toks) (λb o hb e=>eb b o hb e) f0 f1 f3 f4 f5⟩
 self:=λ_ _ _ _ _ st h=>wpAny_pyIter_enum st.1.choose_spec h
def M6 (K:aR)(ta:TA):TI:=λσ H R=>ta σ H λvs H1=>Yy vs (bf K H1) λa=>R (tW K a) H1
def nY {X:Cx}{elts:List Expr}{k:Nat}{wb:Pos}{l:Expr}{ta:TA}{p pos:Pos}(hg:Gl X "enumerate")(hm:X.mg "enumerate"=none)(ha:PA X [l] ta)(hs:starEach [l] X.env=[(false,eval l X.env)]:=by rfl) :
  PI X (.Tuple elts k wb) (.Call (.Name "enumerate" p) [l] [] pos) (M6 X.K ta):=by
 intro ag s σ H R I h;refine Call_ (jE I hg hm vm (v9 (cK (ha pos ag s σ H _ I h) λus s1 aS=>?_) hs rfl));obtain⟨vs,H1,I1,r1,q1⟩:=aS;obtain⟨a,xs,e,hq,q⟩:=q1;subst e;obtain⟨u,rfl,rx⟩:=r1.one;cases rx;obtain⟨aN,rv,pl,hz⟩:=I1.tuple hq;refine Bb (show s1.heap.IsTuple a aN.toArray from pl) λh1 he hit hk=>wpAny_pyIter_enum he ?_;refine⟨s1.heap.objs.size+1,[s1.heap.objs.size+1,s1.heap.objs.size],_,_,H1,rfl,I1.kept (t':=s1.toks) λb o e=>hk b o e,zS a _ _ (jI (ny _)),⟨⟨_,he⟩,hit⟩,λb hb=>?_,q⟩;rcases bN.mp hb with rfl | hb
 .exact I1.xj (iG _) (I1.bF.fresh (iG _))
 obtain rfl:b=s1.heap.objs.size:=by simpa using hb
 exact I1.xj (aH _) (I1.bF.fresh (aH _))
open PySem PySem.Spec PyProof.Rows PySem.W
def jO (c':Addr)(qual:Str):HO:=.ext λh=>h.CodeRec (.ref c') qual
def pB (f:Addr)(o:Obj):HO:=.ext λh=>h.get? f=some o
def zm {P:Program}{w:World}{H:Hp}{h:Heap}{c':Addr}{qual:Str}(hr:h.CodeRec (.ref c') qual):bW P w H h c' (jO c' qual):=by
 obtain⟨c2,oc,vs,t,e,zD,hd,hv⟩:=id hr;cases e;exact⟨hr,⟨oc,zD⟩,λh1 h2 ⟨c3,oc3,vs3,t3,e3,WB,gp,OI⟩ k=>by cases e3;exact⟨_,oc3,vs3,t3,rfl,k _ WB,gp,OI⟩⟩
def qS {P:Program}{w:World}{H:Hp}{h:Heap}{f:Addr}{o:Obj}(e:h.get? f=some o):bW P w H h f (pB f o):=⟨e,⟨o,e⟩,λ_ _ q k=>k _ q⟩
def Tab (T:Addr)(pos:Pos)(qual:Str)(H:Hp):Prop :=
 ∃ps,H T=some (.ua ps)/\TriplesOk ps.toList/\(codeAmong pos ps.toList=none\/∃c',codeAmong pos ps.toList=some (.ref c')/\H c'=some (jO c' qual))
def fX (T:Addr)(H H':Hp):Prop:=∀b o,b≠T->H b=some o->H' b=some o
def tZ (mg:Str->Option Value)(base:Heap):Prop :=
 ∃bm o,mg "__builtins__"=some (.ref bm)/\bm≠builtinsNs/\bm≠mainGlobals/\base.get? bm=some o/\o.cls=.type "module" /\ o.dict=some builtinsNs/\o.data=.plain
theorem jv {a b:Int}{ta tb:Tok}{c:Value}:∀l:List Value,TriplesOk l->TriplesOk (l++[.int a ta,.int b tb,c])
 | [],_=>trivial
 | [x],h=>by cases x <;> exact h.elim
 | [x,y],h=>by cases x <;> cases y <;> exact h.elim
 | x::y::z::r,h=>by
  cases x with
  | int i ti =>
   cases y with
   | int j tj=>exact jv r h
   | _=>exact h.elim
  | _=>exact h.elim
section
variable {X:Cx}{params:Arguments}{body:Expr}{scope:Scope}{pos:Pos}{c T:Addr}
abbrev mH (X:Cx)(params:Arguments)(body:Expr)(scope:Scope)(c':Addr)(gr:Value):Obj:=kla_obj "<lambda>" (X.env.qual ++ "<lambda>") params body scope [] ((X.mg "__name__").getD .none) c' gr
def UO (X:Cx)(params:Arguments)(body:Expr)(scope:Scope)(pos:Pos)(T:Addr):TE:=λσ H Q=>Tab T pos (X.env.qual ++ "<lambda>") H /\
 ∀f c' gr H',fX T H H'->Tab T pos (X.env.qual ++ "<lambda>") H'->H f=none->H' f=some (pB f (mH X params body scope c' gr))->H' c'=some (jO c' (X.env.qual ++ "<lambda>"))->Q (.ref f) H'
def F_ (sY:X.env.code=.ref c)(hC:codeHdIn X.K c T=true)(hB:tZ X.mg X.base)(oj:∀y∈scope.names,y.2≠.free)(Hk:defaultsOf params X.env=([],[]):=by rfl):PE X (.Lambda params body scope pos) (UO X params body scope pos T):=by
 intro ag s σ H Q I h;obtain⟨⟨ps,hT,ht,Hl⟩,q⟩:=h;refine kla_eval Hk ?_;have NA:s.heap.get? T=some (tabObj ps):=(show bW X.prog X.w H s.heap T (.ua ps) from I.bF T _ hT);have hg:=I.mod.glob.keeps I.bk;have C:=codeHd_of_K I.jo hC;obtain⟨bm,ob,b1,b2,b3,b4,b5,b6,b7⟩:=hB;have Yr:=I.bk _ _ b4;have VF:bm≠T:=λz=>by
  have:=(I.bs _ _ b4).2;rw [z,hT] at this;cases this
 have VA:mainGlobals≠T:=λz=>by
  obtain⟨o,es,ep,e,d,_⟩:=hg;rw [z,NA] at e;cases e;cases d
 have RH:s.heap.BuiltinsAt X.mg T:=⟨bm,ob,b1,b2,b3,VF,Yr,b5,b6,b7⟩;have Il:∀b v,H b=some v->b < s.heap.objs.size:=λb v e=>I.bF.lt e;rcases Hl with Ra | ⟨c',hf,lG⟩
 .refine kla_makeFunction (closureFor_none oj) I.ok.glob hg sY C NA ht Ra VA RH λc' gr h' tk hx Nr iF Hd QT=>?_;have hcr:∃oc,h'.get? c'=some oc:=by
   obtain⟨c2,oc,vs,t,e,zD,_⟩:=Hd;cases e;exact⟨oc,zD⟩
  have sW:h'.objs.size > s.heap.objs.size:=ml Nr iF;have keep:∀b o,b≠T->s.heap.get? b=some o->(h'.push (mH X params body scope c' gr)).get? b=some o:=λb o n e=>bu _ (hx b o n e)
  let H':Hp:=upd (upd (upd H T (.ua (ps++#[rawInt pos.line,rawInt pos.col,.ref c']))) c' (jO c' (X.env.qual ++ "<lambda>"))) h'.objs.size (pB h'.objs.size (mH X params body scope c' gr))
  have AJ:∀b v,H b=some v->b≠c'/\b≠h'.objs.size:=λb v e=>⟨bw (eD (Il b v e) Nr),bw (j6 (Il b v e) sW)⟩;have VE:c'≠h'.objs.size:=bw iF;have Qn:=AJ T _ hT;have eT:H' T=some (.ua (ps++#[rawInt pos.line,rawInt pos.col,.ref c'])):=by
   show upd (upd (upd H T _) c' _) h'.objs.size _ T=_;rw [ai Qn.2,ai Qn.1,ae]
  have ec:H' c'=some (jO c' (X.env.qual ++ "<lambda>")):=by
   show upd (upd (upd H T _) c' _) h'.objs.size _ c'=_;rw [ai VE,ae]
  have ef:H' h'.objs.size=some (pB h'.objs.size (mH X params body scope c' gr)):=ae;have eo:∀b,b≠T->b≠c'->b≠h'.objs.size->H' b=H b:=λb n1 n2 n3=>by
   show upd (upd (upd H T _) c' _) h'.objs.size _ b=_;rw [ai n3,ai n2,ai n1]
  have sT:fX T H H':=λb o n e=>by rw [eo b n (AJ b o e).1 (AJ b o e).2];exact e
  have I2:Inv X ag σ H' { s with heap:=h'.push (mH X params body scope c' gr),toks:=tk }:=by
   refine I.call (g':=s.gens) (t':=tk) (d':=s.drawn) (ch:=[]) ⟨λb o e n _ _=>keep b o (λz=>by rw [z,hT] at n;cases n) e,λb o e n _ _=>⟨o.slots,keep b o (λz=>by rw [z,hT] at n;cases n) e⟩,λb o e n _=>?_,λb o e _=>?_,λb xs e=>?_,λb o u e=>?_,λb Vg e=>?_⟩ (λb v e=>?_) I.bare (λb hb=>nomatch hb)
   .have lb:=aO e;rw [eo b (λz=>by rw [z,hT] at n;cases n) (bw (eD lb Nr)) (bw (j6 lb sW))];exact n
   .by_cases z:b=T
    .exact⟨_,by rw [z];exact bu _ QT⟩
    exact⟨o,keep b o z e⟩
   .exact sT b _ (λz=>by rw [z,hT] at e;cases e) e
   .exact sT b _ (λz=>by rw [z,hT] at e;cases e) e
   .by_cases z:b=T
    .subst z;rw [hT] at e;cases e;exact⟨_,eT⟩
    exact⟨#[],by rw [vG];exact sT b _ z e⟩
   by_cases z1:b=h'.objs.size
   .subst z1;rw [ef] at e;cases e;exact qS (cZ _ rfl)
   by_cases z2:b=c'
   .subst z2;rw [ec] at e;cases e;refine zm ?_;obtain⟨c2,oc,vs,t,e',zD,hd,hv⟩:=Hd;cases e';exact⟨_,oc,vs,t,rfl,bu _ zD,hd,hv⟩
   by_cases z3:b=T
   .subst z3;rw [eT] at e;cases e;exact bu _ QT
   rw [eo b z3 z2 z1] at e;refine(I.bF b v e).iV (λd o DX e'=>?_) (λd e'=>sT d _ (λz=>by rw [z,hT] at e';cases e') e') λd ys e'=>sT d _ (λz=>by rw [z,hT] at e';cases e') e';rcases DX with rfl | DX
   .exact keep d o z3 e'
   exact keep d o (λz=>by rw [z,hT] at DX;cases DX) e'
  have fresh:H h'.objs.size=none:=I.bF.fresh (j5 sW);exact⟨.ref h'.objs.size,H',I2,rfl,q _ c' gr H' sT ⟨_,eT,by rw [vM];exact jv _ ht,.inr ⟨c',by rw [vM];exact codeAmong_snoc _ ht Ra,ec⟩⟩ fresh ef ec⟩
 refine kla_makeFunctionHit (closureFor_none oj) I.ok.glob hg sY C NA ht hf RH λgr h' tk hk hsz=>?_;have keep:∀b o,s.heap.get? b=some o->(h'.push (mH X params body scope c' gr)).get? b=some o:=λb o e=>bu _ (hk b o e);have fresh:H h'.objs.size=none:=I.bF.fresh hsz;refine⟨.ref h'.objs.size,_,I.laid (a:=h'.objs.size) (o:=pB h'.objs.size (mH X params body scope c' gr)) (t':=tk) keep hsz (qS (cZ _ rfl)),rfl,?_⟩;refine q _ c' gr _ (λb o _ e=>by rw [ai (aq e fresh)];exact e) ⟨ps,by rw [ai (aq hT fresh)];exact hT,ht,.inr ⟨c',hf,by rw [ai (aq lG fresh)];exact lG⟩⟩ fresh ae (by rw [ai (aq lG fresh)];exact lG)
end
section
variable {P:Program}{w:World}{K:Frag}{mg:Str->Option Value}{base:Heap}{f c':Addr}{q:Str}{params:Arguments}{body:Expr}{scope:Scope}{pm gr:Value}{N ps:List Str}{k:Nat}{te:TE}
def JG (S:aJ N ps scope)(om:∀us:List Value,us.length=ps.length->bindArgs (kla_fn "<lambda>" q params body scope [] pm (.ref c') gr) ⟨us,[]⟩=pure (ps.zip us))
  (g6:∀(A:Around)(outer:List Env)(s:Shared)(H:Hp),PE (dM fJ P w K mg base N q scope f (.ref c') A outer s H λ_ _ _=>False) body te)
  (A:Around)(outer:List Env)(s:Shared)(H:Hp)(us:List Value)(vs:List V)(Q:VK)(hr:dD (k+1) A)(e0:qB P w K mg base A outer s H)(hf:H f=some (pB f (kla_obj "<lambda>" q params body scope [] pm c' gr)))
  (hc:H c'=some (jO c' q))(rv:aV vs us)(hl:vs.length=ps.length)(h:te (start N vs) H Q):codeAny (model P w) A (.call (.ref f) ⟨us,[]⟩) (CR fJ outer P w H s Q λ_ _ _=>False) s:=by
 obtain⟨ef,_⟩:=e0.bF f _ hf;obtain⟨ec,_⟩:=e0.bF c' _ hc;have lu:us.length=ps.length:=by rw [<-rv.length];exact hl
 have lim:s.heap.NoLimit:=e0.mod.nolimit.keeps λb o e=>(e0.bs b o e).1;have jf:∀y∈ps.zip us,scope.names.lookup y.1=some .local\/(scope.names.lookup y.1=some .cell/\((cellsFrom (s.heap.objs.size+1) scope.names []).lookup y.1).isSome=true):=λ⟨n,v⟩ hy=>by
  rcases S.par n (List.of_mem_zip hy).1 with z | z
  .exact .inl z
  exact .inr ⟨z,cellsFrom_some _ _ _ (.inl z)⟩
 refine kla_callFunE hr.depth ef rfl S.co S.gen rfl ec ?_;rw [om us lu];refine aI (wpAny_newFunctionEnv_cells S.kind jf λenv he s1 x=>?_);subst he;refine⟨lim.keeps x.toInCall.keep,kla_codeExpr ?_⟩;have I:Inv (dM fJ P w K mg base N q scope f (.ref c') A outer s H λ_ _ _=>False) [] (start N vs) H s1:=uY S hr.hd e0 hl rv x;refine cv (g6 A outer s H [] s1 (start N vs) H _ I h) (λv s' aS=>?_) λe s' z=>z;obtain⟨y,H',J,r,z⟩:=aS;exact⟨y,H',J.os,J.bare,J.base,J.bF,r,z⟩
end
section
variable {X:Cx}{i:Nat}{x:Str}{e:Expr}{es:List Expr}{t:TA}{p pos:Pos}{q:Str}{params:Arguments}{body:Expr}{scope:Scope}{N ps:List Str}{k:Nat}{te:TE}
def Fc (i:Nat)(q:Str)(params:Arguments)(body:Expr)(scope:Scope) (N ps:List Str)(t:TA)(te:TE):TE:=λσ H Q=>∃f pm c' gr,σ[i]?=some (some (.ref f)) /\
 t σ H λvs H1=>H1 f=some (pB f (kla_obj "<lambda>" q params body scope [] pm c' gr))/\H1 c'=some (jO c' q)/\vs.length=ps.length/\te (start N vs) H1 Q
def Aq (hN:X.N[i]?=some x)(hx:X.env.scope.names.lookup x=some .local)(S:aJ N ps scope)(hr:dD (k+1) X.A)
  (om:∀(pm gr:Value)(c':Addr)(us:List Value),us.length=ps.length->bindArgs (kla_fn "<lambda>" q params body scope [] pm (.ref c') gr) ⟨us,[]⟩=pure (ps.zip us))
  (g6:∀(f c':Addr)(A:Around)(outer:List Env)(s:Shared)(H:Hp),PE (dM fJ X.prog X.w X.K X.mg X.base N q scope f (.ref c') A outer s H λ_ _ _=>False) body te)(ha:PA X (e::es) t)
  (qr:(x == ("__debug__":Str))=false:=by decide)(he:starEach (e::es) X.env=(false,eval e X.env)::starEach es X.env:=by rfl)(l7:(backTo pos (starEach es X.env)).any (·.1)=false:=by rfl) :
  PE X (.Call (.Name x p) (e::es) [] pos) (Fc i q params body scope N ps t te):=by
 intro ag s σ H Q I h;obtain⟨f,pm,c',gr,hσ,h⟩:=h;obtain⟨m,hn,hl⟩:=I.loc;obtain⟨u,ru,lk⟩:=hl i x (.ref f) hN hσ (.inl hx);cases (show u=Value.ref f from ru);have hm:m x=some (.ref f):=by
  rcases lk with l | ⟨l,_⟩
  .exact l.2
  have l':X.env.scope.names.lookup x=some .cell\/X.env.scope.names.lookup x=some .free:=l;rw [hx] at l';rcases l' with l' | l' <;> cases l'
 refine lP (wpAny_Name (vK I.ok.kind hx hn hm ?_) qr);refine callWith_def (o:=kla_obj "<lambda>" q params body scope [] pm c' gr) rfl (cK (ha pos ag s σ H _ I h) λus s1 aS=>?_) he;obtain⟨vs,H1,I1,r,z1,z2,z3,z4⟩:=aS;obtain⟨ef,_⟩:=I1.bF f _ z1;refine⟨ef,h_ (jq (JG (k:=k) S (λus hl=>om pm gr c' us hl) (g6 f c') X.A X.stack s1 H1 us vs Q hr I1.HA z1 z2 r z3 z4) λr' s' z=>?_)⟩;cases r' with
 | error e=>exact z.elim
 | ok fl =>
  cases fl with
  | ret u=>exact I1.after z
  | next=>exact z.elim
  | brk=>exact z.elim
  | cont=>exact z.elim
end
def Ih (ts:List Addr)(H:Hp):Prop:=∀b,H b=none\/(∃o xs,H b=some (.jR o (.lst xs)))\/(b∈ts/\H b=some (.ua #[]))
def DM {P:Program}{w:World}{K:Frag}{mg mb:Str->Option Value}{CX:vA}{k:Nat}{fa a:Addr}{fd:FuncData}{x:Str}{sp:Sp}{s₁:Shared}{vs:List Value}{ns:List Int}{ts:List Addr}
  (KX:K.In s₁.heap)(pF:s₁.heap.Ns mainGlobals mg)(hb:s₁.heap.Ns builtinsNs mb)(Ny:∀x:Str,x ≠ "__name__" -> mb x=bootBuiltins x)(Nl:s₁.heap.NoLimit)
  (W5:∃bm ob,mg "__builtins__"=some (.ref bm)/\bm≠builtinsNs/\s₁.heap.get? bm=some ob/\ob.cls=.type "module" /\ ob.dict=some builtinsNs/\ob.data=.plain)(hg:s₁.gens=#[])
  (M8:∀T∈ts,s₁.heap.get? T=some (tabObj #[])/\K.lookup T=none/\∃c,codeHdIn K c T=true)
  (ha:s₁.heap.get? a=some { cls:=.type "list",data:=.seq vs.toArray })(hi:IntsAre vs ns)(hl:ns.length<=sizeLine)(hr:dD k callerA)
  (F:∀base:Heap,K.In base->base.Ns mainGlobals mg->tZ mg base->bh P w K mg base CX k fa fd [x] sp)(om:∀(s:Shared)(u:Value),BindsTo s fd ⟨[u],[]⟩ [(x,u)])
  (u6:∀H:Hp,Ih ts H->(∀T∈ts,H T=some (.ua #[]))->aG K H a (ns.map V.int)->sp [.ref a] H (λv _=>v=.bl true) λ_ _ _=>False)
  (NG:∀H e s',CX [] H s₁ (λ_ _ _=>False) e s'->False) :
  codeAny (model P w) callerA (.call (.ref fa) ⟨[.ref a],[]⟩) (λr s'=>r=.ok (.ret (.bool true))/\OldK s₁.heap s'.heap/\s'.os=s₁.os/\AllBare s'.gens) s₁:=by
 have rv:=o9 hi;have MT:=hi.length;have core:∀H:Hp,Ih ts H->(∀T∈ts,H T=some (.ua #[]))->aG K H a (ns.map V.int)->lJ P w H s₁.heap->(∀b,H b≠none->b=a\/b∈ts)->(H a≠none->K.lookup a=none) ->
   codeAny (model P w) callerA (.call (.ref fa) ⟨[.ref a],[]⟩) (λr s'=>r=.ok (.ret (.bool true))/\OldK s₁.heap s'.heap/\s'.os=s₁.os/\AllBare s'.gens) s₁:=by
  intro H hO hT hS bF hA hK;have lB:∀{b:Addr}{o:Obj},s₁.heap.get? b=some o->H b=none->(mP s₁.heap H).get? b=some o:=λe n=>yN e n;have off:∀{b:Addr}{o:Obj},s₁.heap.get? b=some o->(∀aN n,o.data≠.seq aN n)->(∀fs,o.data≠.fields fs)->H b=none:=λ{b o} e d1 d2=>by
   cases q:H b with
   | none=>rfl
   | some u =>
    rcases hA b (by rw [q];simp) with e' | e'
    .subst e';rw [ha] at e;cases e;exact(d1 _ _ rfl).elim
    rw [(M8 b e').1] at e;cases e;exact(d2 _ rfl).elim
  have Jy:∀{b:Addr}{m:Str->Option Value},s₁.heap.Ns b m->(mP s₁.heap H).Ns b m:=λ{b m} ⟨o,es,ep,e,d,r⟩=>⟨o,es,ep,lB e (off e (λ_ _ z=>by rw [d] at z;cases z) λ_ z=>by rw [d] at z;cases z),d,r⟩;have RD:K.In (mP s₁.heap H):=λb o e=>lB (KX b o e) (by
   cases q:H b with
   | none=>rfl
   | some u =>
    rcases hA b (by rw [q];simp) with e' | e'
    .subst e';rw [hK (by rw [q];simp)] at e;cases e
    rw [(M8 b e').2.1] at e;cases e)
  have hM:Mod K mg (mP s₁.heap H):=⟨RD,Jy pF,⟨mb,Jy hb,Ny⟩,let ⟨mc,h1,h2⟩:=Nl;⟨mc,Jy h1,h2⟩⟩;have RG:tZ mg (mP s₁.heap H):=by
   obtain⟨bm,ob,b1,b2,b3,b4,b5,b6⟩:=W5;refine⟨bm,ob,b1,b2,λz=>?_,lB b3 (off b3 (λ_ _ z=>by rw [b6] at z;cases z) λ_ z=>by rw [b6] at z;cases z),b4,b5,b6⟩;obtain⟨o,es,ep,e,d,_⟩:=pF;rw [<-z,b3] at e;cases e;rw [b6] at d;cases d
  have e0:qB P w K mg (mP s₁.heap H) callerA [] s₁ H:=⟨rfl,hM,λb o e=>Cb e,Nat.le_of_eq (u7 _ _),trivial,λb hb=>absurd (show b∈([]:List Addr) from hb) (by simp),bF,.of_eq hg⟩;refine jq ((F _ RD (Jy pF) RG).run callerA [] s₁ H ⟨[.ref a],[]⟩ [.ref a] [.ref a] _ _ hr e0 (om s₁ (.ref a)) (.cons rfl .nil) (u6 H hO hT hS)) λr s' h=>?_;cases r with
  | error e=>exact(NG H e s' h).elim
  | ok fl =>
   cases fl with
   | next=>exact False.elim h
   | brk=>exact False.elim h
   | cont=>exact False.elim h
   | ret u =>
    obtain⟨v,H',os,bare,un,JO,r',q⟩:=h;have q':v=.bl true:=q;subst q';obtain rfl:u=Value.bool true:=r';have each:∀b o,s₁.heap.get? b=some o->asItWas s₁.heap s'.heap b o/\∃o',s'.heap.get? b=some o':=λb o e=>by
     cases q:H b with
     | none =>
      have z:=un.keep b o e q (by intro z;exact absurd (show b∈([]:List Addr) from z) (by simp)) (by simp);exact⟨.inl z,o,z⟩
     | some u =>
      rcases hO b with z | ⟨ob,xs,z⟩ | ⟨xf,z⟩
      .rw [q] at z;cases z
      .have z2:=un.kJ b ob _ z;obtain⟨e1,_⟩:=bF b _ z;obtain⟨e2,_⟩:=JO b _ z2;rw [e] at e1;cases e1;exact⟨.inl e2,_,e2⟩
      obtain⟨more,z2⟩:=un.lE b _ z;have e2:s'.heap.get? b=some (tabObj (#[]++more)):=JO b _ z2;rw [(M8 b xf).1] at e;cases e;obtain⟨c,hc⟩:=(M8 b xf).2.2;obtain⟨oc,vs',file,tf,flags,tg,inF,text,tt,d1,d2,d3,d4,_⟩:=codeHd_of_K KX hc;exact⟨.inr (.inl ⟨⟨c,oc,vs',d1,d2,d3,d4⟩,rfl,#[],more,rfl,e2⟩),_,e2⟩
    exact⟨rfl,⟨λb o e=>(each b o e).1,λb o e=>(each b o e).2⟩,os,bare⟩
 have na:a∉ts:=λz=>by
  have:=(M8 a z).1;rw [ha] at this;cases this
 cases hk:K.lookup a with
 | some o =>
  have e:=KX a o hk;rw [ha] at e;cases e;refine core (λb=>if b∈ts then some (.ua #[]) else none) (λb=>?_) (λT h=>az h) (.inr ⟨_,vs.toArray,_,hk,rfl,rfl,rfl,by rw [bJ,MT];exact hl,by simpa using rv⟩) (λb u z=>?_) (λb z=>?_) λz=>absurd (aA na) z
  .by_cases h:b∈ts
   .exact .inr (.inr ⟨h,az h⟩)
   exact .inl (aA h)
  .by_cases h:b∈ts
   .have z':=(az h).symm.trans z;cases z';exact(M8 b h).1
   have z':=(aA h).symm.trans z;cases z'
  by_cases h:b∈ts
  .exact .inr h
  exact absurd (aA h) z
 | none =>
  refine core (λb=>if b=a then some (.jR { cls:=.type "list",data:=.seq vs.toArray } (.lst (ns.map V.int))) else if b∈ts then some (.ua #[]) else none) (λb=>?_) (λT h=>?_) (.inl (.inr ⟨{ cls:=.type "list",data:=.seq vs.toArray },az rfl⟩)) (λb u z=>?_) (λb z=>?_) λ_=>hk
  .by_cases hb:b=a
   .exact .inr (.inl ⟨_,_,az hb⟩)
   by_cases h:b∈ts
   .exact .inr (.inr ⟨h,(aA hb).trans (az h)⟩)
   exact .inl ((aA hb).trans (aA h))
  .exact(aA (λz:T=a=>na (z ▸ h))).trans (az h)
  .by_cases hb:b=a
   .have z':=(az hb).symm.trans z;cases z';subst hb;exact⟨ha,by rw [aB];exact hl,vs,_,rv,ha⟩
   by_cases h:b∈ts
   .have z':=((aA hb).trans (az h)).symm.trans z;cases z';exact(M8 b h).1
   have z':=((aA hb).trans (aA h)).symm.trans z;cases z'
  by_cases hb:b=a
  .exact .inl hb
  by_cases h:b∈ts
  .exact .inr h
  exact absurd ((aA hb).trans (aA h)) z
def E6 {l:OpenLaw}{n k:Nat}{q:Program}{loose:List Str}{XP:(Str->Option Value)->Heap->Prop}{YP:World->Heap->Prop}{d:DefRec}{K:Params->Frag}{CX:World->vA}{sp:World->Sp}{x:Str}{ts:List Addr}
  (hn:l.most=some n)(DU:n<=sizeLine)(Nt:d.params.defaults=[])(hr:dD k callerA)
  (hY:∀(w:World)(h:Heap),YP w h->(K w.params).In h/\∀T∈ts,h.get? T=some (tabObj #[]))
  (hK:∀w:World,∀T∈ts,(K w.params).lookup T=none/\∃c,codeHdIn (K w.params) c T=true)
  (F:∀(w:World)(mg:Str->Option Value)(fa:Addr)(h:Heap),(K w.params).In h->h.Ns mainGlobals mg->mg d.name=some (.ref fa) ->
   ∃fd:FuncData,(∀(s:Shared)(u:Value),BindsTo s fd ⟨[u],[]⟩ [(x,u)]) /\
    ∀base:Heap,(K w.params).In base->base.Ns mainGlobals mg->tZ mg base->bh l.prog w (K w.params) mg base (CX w) k fa fd [x] (sp w))
  (u6:∀(w:World)(H:Hp)(a:Addr)(ns:List Int),ns.length<=n->Ih ts H->(∀T∈ts,H T=some (.ua #[]))->aG (K w.params) H a (ns.map V.int)->sp w [.ref a] H (λv _=>v=.bl true) λ_ _ _=>False)
  (NG:∀(w:World)(H:Hp)(s:Shared)(e:Value)(s':Shared),CX w [] H s (λ_ _ _=>False) e s'->False) :
  WalkO q loose XP YP l.row.toRowW d [] (λf vs=>PySem.call f vs):=by
 refine IP.qh hn Nt λw s₀ s₁ mg mb fa o pm cd doc a vs ns G Y ho hd sZ Nk He hints a8 hg=>?_;obtain⟨KX,TX⟩:=hY w _ Y;obtain⟨fd,hb,hF⟩:=F w mg fa _ KX G.T.g Nk;exact DM KX G.T.g G.T.b G.T.builtins G.T.nolimit G.T.bmain hg (λT hT=>⟨TX T hT,hK w T hT⟩) He hints (cQ a8 DU) hr hF hb (λH hO hT hS=>u6 w H a ns a8 hO hT hS) λH e s'=>NG w H s₁ e s'
def ba {X:Cx}{scope:Scope}{js:List (Nat×Str)}(h:(js.all λp=>X.N[p.1]? == some p.2 && X.env.scope.names.lookup p.2 == some .cell && scope.names.lookup p.2 == some .free)=true)
  (h2:(scope.names.all λy=>y.2 != .free || X.env.scope.names.lookup y.1 == some .cell)=true):KC X scope js:=by
 refine⟨λp hp=>?_,λy hy=>?_⟩
 .have:=fO.mp h p hp;simp only [iH,beq_iff_eq] at this;exact⟨this.1.1,this.1.2,this.2⟩
 have:=fO.mp h2 _ hy;simpa using this
def xi {σ:St}{H:Hp}{A B:Hp->Prop}(h:A H):ix σ H λb H3=>if b=true then A H3 else B H3:=by
 show if true=true then A H else B H;exact lF h
def goN {i:Nat}{v:V}{σ:St}{H:Hp}{Q:St->Hp->Prop}(h:Q (σ.set i (some v)) H):dP i v σ H Q:=h
def p6 (x y:Str):(x++y).length=x.length+y.length:=by
 show (x.cps++y.cps).size=_;rw [Array.size_append];rfl
def HL (ns:List Int)(lo hi:Option Int):∃jB:List Int,hJ (ns.map V.int) lo hi=jB.map V.int/\(∀n∈jB,n∈ns)/\jB.length<=ns.length :=
 ⟨(ns.drop (HT.dZ (ns.map V.int).length 0 lo)).take (HT.dZ (ns.map V.int).length (ns.map V.int).length hi - HT.dZ (ns.map V.int).length 0 lo),by unfold hJ;rw [<-oQ,<-oR],λn hn=>List.mem_of_mem_drop (pV hn),by rw [dA,nv];omega⟩
def yK {X:Cx}(K:aR)(hK:X.K=K:=by rfl):Kx X (P5 K):=by
 subst hK;exact cO
def gB {X:Cx}{es:List Expr}{k:Nat}{t:LF}{n:Nat}{pos:Pos}(K:aR)(hc:X.calm=true)(h:Sw X es t)(hK:X.K=K:=by rfl)
  (hn:(assignEach es X.env).length=n:=by rfl)(jF:(assignEach es X.env).findIdx? (·.1)=none:=by rfl):PG X (.Tuple es k pos) (D_ K n t):=by
 subst hK;exact fc hc h hn jF
end L2
section
variable {P:PySem.Program}{w:PySem.World}{K:aR}{mg:PySem.Str->Option PySem.Value}{base:PySem.Heap}{f:PySem.Addr}{fd:PySem.FuncData}
namespace fY
open PySem L2
def top (i:Nat):Stmt:=PySem.Challenge.pw_wright_k14_whole_refused_or_let_by.main.body.getD i (.Pass ⟨0,0,0,0⟩)
abbrev Ab:Stmt:=top 2
abbrev zY:Stmt:=top 3
abbrev sr:Stmt:=top 7
abbrev wB:Stmt:=top 8
abbrev Ac:Stmt:=top 9
abbrev FH:Stmt:=top 21
abbrev z7:Stmt:=top 22
abbrev Mh:Stmt:=top 23
abbrev sj:Stmt:=top 25
abbrev wF:Stmt:=top 26
abbrev nS:Stmt:=top 27
abbrev wA:Stmt:=top 30
abbrev z5:Stmt:=top 31
abbrev Mj:Stmt:=top 32
abbrev ye:Stmt:=top 39
abbrev FD:Stmt:=top 4
abbrev Mi:Stmt:=top 5
abbrev nU:Stmt:=top 34
abbrev ph:Stmt:=top 35
abbrev sq:Stmt:=top 36
abbrev sLT:Stmt:=top 37
structure Txt (mg:Str->Option Value):Prop where
 len:mg "len"=none
 FT:mg "range"=none
 G_:mg "isinstance"=none
 tup:mg "tuple"=none
 lst:mg "list"=none
 CA:mg "dict"=none
 all:mg "all"=none
 any:mg "any"=none
 str:mg "str"=none
 int:mg "int"=none
 boo:mg "bool"=none
 Kd:mg "enumerate"=none
 sum:mg "sum"=none
 max:mg "max"=none
 min:mg "min"=none
section
def boot_all:bootBuiltins "all"=some (.builtin "all"):=by decide +kernel
def dW:bootBuiltins "list"=some (.type "list"):=by decide +kernel
def fV:bootBuiltins "dict"=some (.type "dict"):=by decide +kernel
end
end fY
namespace L2
open PySem
def a_ {K:aR}{H:Hp}{D a:Addr}{xs ys:List V}{o:HO}(hD:H D=some (.lst ys))(h:bf K H a xs):bf K (upd H D o) a xs:=by
 rcases h with (h | ⟨u,h⟩) | h
 .exact .inl (.inl (by rw [ai (λz=>by rw [z,hD] at h;cases h)];exact h))
 .exact .inl (.inr ⟨u,by rw [ai (λz=>by rw [z,hD] at h;cases h)];exact h⟩)
 exact .inr h
def xD (kvs:List (aK×V))(k:aK):(kvs.any λkv=>decide (kv.1=k))=true↔k∈kvs.map (·.1):=by
 rw [rl,cN];constructor
 .rintro⟨x,h1,h2⟩;exact⟨x,h1,dY h2⟩
 rintro⟨x,h1,h2⟩;exact⟨x,h1,cw h2⟩
def Aj {kvs:List (aK×V)}{k:aK}{v:V}(h:k∈kvs.map (·.1)):(bE kvs k v).map (·.1)=kvs.map (·.1):=by
 unfold bE;rw [az ((xD kvs k).mpr h),i4];refine List.map_congr_left λx hx=>?_;show (if x.1=k then (x.1,v) else x).1=x.1
 split <;> rfl
def ij {kvs:List (aK×V)}{k:aK}{v:V}(h:¬k∈kvs.map (·.1)):(bE kvs k v).map (·.1)=kvs.map (·.1)++[k]:=by
 unfold bE;rw [aA (λz=>h ((xD kvs k).mp z)),bD];rfl
def d5 (kvs:List (aK×V))(k:aK):(br kvs k).isSome=true↔k∈kvs.map (·.1):=by
 rw [<-i_];exact xD kvs k
theorem cR {α β γ:Type}{F:α->β->Prop}{G:α->γ->Prop}{φ:β->γ}:∀{xs:List α}{ys:List β},Paired F xs ys->(∀a b,F a b->G a (φ b))->Paired G xs (ys.map φ)
 | _,_,.nil,_=>.nil
 | _,_,.cons h t,k=>.cons (k _ _ h) (cR t k)
def cP {z:Str}{l:List Str}:(Sum.inr z:aK)∈l.map Sum.inr↔z∈l:=by
 rw [cN];constructor
 .rintro⟨x,h1,h2⟩;rw [<-mf h2];exact h1
 intro h;exact⟨z,h,rfl⟩
end L2
namespace M11
abbrev av:=PySem.Str×List PySem.Str
def gF (a:List PySem.Str)(h:PySem.Str):List PySem.Str:=if h∈a then a else a++[h]
def m_ (bA hs:List PySem.Str):List PySem.Str:=hs.foldl gF bA
def addW (aW a:List PySem.Str)(p:PySem.Str):List PySem.Str:=if p∈aW then a else gF a p
def rQ (aW bA ps:List PySem.Str):List PySem.Str:=ps.foldl (addW aW) bA
def OF (aa:List av)(name:PySem.Str) (k:Nat):Bool:=decide ((aa[k]?.map (·.1))=some name)
def nums (aa:List av)(name:PySem.Str) (i:Nat):List Int:=((List.range i).filter (OF aa name)).map λk:Nat=>(k:Int)
def DC (aa:List av)(name:PySem.Str) (i:Nat):nums aa name (i+1)=nums aa name i++(if OF aa name i=true then [(i:Int)] else []):=by
 unfold nums;rw [List.range_succ,pR,bD]
 congr 1
 by_cases h:OF aa name i=true
 .rw [az h];simp [h]
 rw [aA h];simp [h]
def yt (aa:List av)(name:PySem.Str) (i:Nat):(nums aa name i).length<=i:=by
 unfold nums;rw [aB];have:=i9 (OF aa name) (List.range i);rw [rG] at this;exact this
def zu (a:List PySem.Str)(h:PySem.Str):(gF a h).length<=a.length+1:=by
 unfold gF;split <;> simp
theorem gT:∀(hs bA:List PySem.Str),(m_ bA hs).length<=bA.length+hs.length
 | [],bA=>by simp [m_]
 | h::r,bA=>by
  have:=gT r (gF bA h);have:=zu bA h;show (m_ (gF bA h) r).length<=_;rw [eC];omega
def HV (aW a:List PySem.Str)(p:PySem.Str):(addW aW a p).length<=a.length+1:=by
 unfold addW;split
 .omega
 exact zu a p
theorem wa (aW:List PySem.Str):∀(ps bA:List PySem.Str),(rQ aW bA ps).length<=bA.length+ps.length
 | [],bA=>by simp [rQ]
 | p::r,bA=>by
  have:=wa aW r (addW aW bA p);have:=HV aW bA p;show (rQ aW (addW aW bA p) r).length<=_;rw [eC];omega
end M11
namespace fY
open PySem L2 M11
def kC {bA:List (aK×V)}{as:List Str}(e:bA.map (·.1)=as.map Sum.inr)(h:Str){v:V}:(bE bA (Sum.inr h) v).map (·.1)=(gF as h).map Sum.inr:=by
 unfold gF;by_cases q:h∈as
 .rw [az q,Aj (by rw [e];exact cP.mpr q),e]
 rw [aA q,ij (by rw [e];exact λz=>q (cP.mp z)),e,bD];rfl
theorem og:∀(hs:List Str)(bA:List (aK×V)) (as:List Str),bA.map (·.1)=as.map Sum.inr->(de (hs.map λh=>((Sum.inr h:aK),V.bl true)) bA).map (·.1)=(m_ as hs).map Sum.inr
 | [],bA,as,e=>e
 | h::r,bA,as,e=>by
  refine og r (bE bA (Sum.inr h) (.bl true)) (gF as h) ?_;exact kC e h
def keys_str {kvs:List (aK×V)}{zs:List Str}(e:kvs.map (·.1)=zs.map Sum.inr):(kvs.map λp=>kV p.1)=zs.map V.str:=by
 have e2:(kvs.map λp=>kV p.1)=(kvs.map (·.1)).map kV:=by rw [i4];rfl
 rw [e2,e,i4];rfl
section
def CO (K:aR)(H:Hp)(r:Addr)(ru:av):Prop:=∃p,bf K H r [.str ru.1,.ref p]/\bf K H p (ru.2.map V.str)
def bz (K:aR)(H:Hp)(rs:List Addr)(aa:List av):Prop:=Paired (λr ru=>CO K H r ru) rs aa
def bz.keep {H H':Hp}{rs:List Addr}{aa:List av}(h:bz K H rs aa)(k:∀a xs,bf K H a xs->bf K H' a xs):bz K H' rs aa:=Paired.ft h λr ru ⟨p,a,b⟩=>⟨p,k _ _ a,k _ _ b⟩
def bz.same {H H':Hp}{rs:List Addr}{aa:List av}(h:bz K H rs aa)(s:aD H H'):bz K H' rs aa:=h.keep λ_ _ z=>s.tup z
def bz.get {H:Hp}{rs:List Addr}{aa:List av}(h:bz K H rs aa){i:Nat}{r:Addr}(e:rs[i]?=some r):∃ru,aa[i]?=some ru/\CO K H r ru:=by
 have l:=bG h;have li:=(aY.mp e).1;have e2:aa[i]?=some (aa[i]'∅):=c_ ∅;obtain⟨x,e3,e4⟩:=Paired.at_ h i _ e2;rw [e] at e3;cases e3;exact⟨_,e2,e4⟩
def tN {H:Hp}{R D:Addr}{rs:List Addr}{aa:List av}{σ:St}{Qp:Hp->Prop}(hR:aG K H R (rs.map V.ref))(cT:bz K H rs aa)(a8:aa.length<=1000)(hD:H D=none)
  (q:∀ts H2,aD H H2->H2 D=some (.lst (ts.map V.ref))->Paired (λt h=>bf K H2 t [.str h,.bl true]) ts (aa.map (·.1))->Qp H2) :
  CWq (jQ K R) D (dI ["head","parts"] [] σ) H Qp (D_ K 2 (kI (dP 0) (kI (dP 1) Hq))) ix (uc (gw (gG 0) (gw (tC (.bl true)) rV))):=by
 have ll:=bG cT;refine bY (xs:=rs.map V.ref) (λi ys σ2 H2=>∃ts:List Addr,ys=ts.map V.ref/\ts.length=i/\Paired (λt h=>bf K H2 t [.str h,.bl true]) ts ((aa.take i).map (·.1))/\(∃y0 y1,σ2=[y0,y1])/\aD H H2/\H2 D=some (.lst ys))
  ⟨[],rfl,rfl,.nil,⟨none,none,rfl⟩,ah hD _,ae⟩ (λi ys σ2 H2 _ h=>?_) (λi x ys σ2 H2 ex h=>?_) (λys σ2 H2 h=>?_)
 .obtain⟨_,_,_,_,_,sm,_⟩:=h;exact sm.seq hR
 .obtain⟨ts,rfl,ht,hp,⟨y0,y1,rfl⟩,sm,hd⟩:=h;rw [bq] at ex;obtain⟨r,er,rfl⟩:=bR.mp ex;obtain⟨ru,e1,p,v1,v2⟩:=cT.get er;have li:=(aY.mp e1).1;refine⟨r,_,rfl,sm.tup v1,rfl,_,_,rfl,_,_,rfl,rfl,?_⟩;refine xi ?_;refine⟨_,rfl,mq,λt jN=>⟨?_,bI (by rw [aB];omega),ts++[t],?_,?_,?_,⟨_,_,rfl⟩,?_,ae⟩⟩
  .rw [ai (aq hd jN)];exact hd
  .rw [bD];rfl
  .rw [cu,ht];rfl
  .rw [cY,e1,bD];have gp:upd H2 t (.tup [.str ru.1,.bl true]) D=some (.lst (ts.map V.ref)):=by rw [ai (aq hd jN)];exact hd
   exact gh (Paired.ft hp λt' h' z=>a_ gp ((ah jN _).tup z)) (a_ gp (bf.of ae))
  intro b o hb;rw [ai (λz=>by rw [z,hD] at hb;cases hb)];exact ah jN _ _ _ (sm b o hb)
 obtain⟨ts,rfl,ht,hp,_,sm,hd⟩:=h;rw [aB,ll,cE] at hp;exact q ts H2 sm hd hp
def kT (K:aR):Sp:=λvs H Q _=>∃(R:Addr)(rs:List Addr)(aa:List av),vs=[.ref R]/\aG K H R (rs.map V.ref)/\bz K H rs aa/\aa.length<=1000 /\
 ∀D H',H D=none->aD H H'->H' D=some (.lst ((m_ [] (aa.map (·.1))).map V.str))->Q (.ref D) H'
def I8:aJ ["rules"] ["rules"] (aw Ab):=iP rfl rfl rfl rfl nofun
def Gw (F:hZ K "heads_of" "heads_of" Ab f fd)(T:Txt mg):bh P w K mg base fJ 1 f fd ["rules"] (kT K):=by
 refine F.ok I8 (by and_intros) (λdN A outer s H vs Q E hr h=>?_)
 obtain⟨R,rs,aa,rfl,hR,cT,a8,q⟩:=h;refine⟨_,ao (bc (aX (ng rfl) rfl T.lst dW (af (aX (eh rfl) rfl T.CA fV (af
  (bx ["head","parts"] [] rfl (aQ (pv 0)) (ba rfl rfl) nofun rfl nofun
   (λ_ _ _ _ _=>gB (n:=2) K rfl (aC (au (i:=0) (ndq nofun) rfl (bC rfl)) (aC (au (i:=1) (ndq nofun) rfl (bC rfl)) bM))) (λ_ _ _ _ _=>b9)
   (λ_ _ _ _ _=>bT (af (pv 0) (af gC ak)))) ak)) ak))),?_⟩
 dsimp only [Eh];refine⟨_,rfl,R,rfl,⟨_,hR⟩,λD hD=>tN hR cT a8 hD λts H2 sm hd hp=>?_⟩;have kp:Paired (λt (kv:aK×V)=>bf K H2 t [kV kv.1,kv.2]) ts ((aa.map (·.1)).map λh=>((Sum.inr h:aK),V.bl true)):=cR hp λ_ _ z=>z;refine⟨D,ts,_,rfl,hd,kp,λd hd2=>?_⟩;refine⟨d,_,rfl,ae,λD2 iY=>?_⟩;rw [keys_str (og (aa.map (·.1)) [] [] rfl)];have nd:D2≠d:=λz=>by rw [z,ae] at iY;cases iY
 exact q D2 _ (sm.free (by rw [ai nd] at iY;exact iY)) (sm.trans ((ah hd2 _).trans (ah iY _))) ae
theorem kN:∀(aa:List av) (n:Nat),aa.length<=n->(∀ru∈aa,ru.2.length<=8)->(aa.flatMap (·.2)).length<=8 * n
 | [],n,_,_=>by simp
 | ru::r,n,hl,h=>by
  rw [eC] at hl;have:=kN r (n - 1) ∅ λx hx=>h x (bS _ hx);have:=h ru bO;rw [List.flatMap_cons,cu];omega
def hd (aa:List av):List Str:=m_ [] (aa.map (·.1))
def Bz (K:aR):Sp:=λvs H Q _=>∃(R:Addr)(rs:List Addr)(aa:List av),vs=[.ref R]/\aG K H R (rs.map V.ref)/\bz K H rs aa/\aa.length<=1000/\(∀ru∈aa,ru.2.length<=8) /\
 ∀D H',H D=none->aD H H'->H' D=some (.lst ((rQ (hd aa) [] (aa.flatMap (·.2))).map V.str))->Q (.ref D) H'
def kU:aJ ["rules","heads","words","head","parts","part"] ["rules"] (aw zY):=iP rfl rfl rfl rfl nofun
def Gi (F:hZ K "words_in" "words_in" zY f fd)(T:Txt mg):bh P w K mg base fJ 1 f fd ["rules"] (Bz K):=by
 refine F.ok kU (by and_intros) (λdN A outer s H vs Q E hr h=>?_)
 obtain⟨R,rs,aa,rfl,hR,cT,a8,h8,q⟩:=h;have hu:=gk hr;refine⟨_,aj (aF (i:=1) kU.nd rfl (bC rfl) (aX (eh rfl) rfl T.CA fV (af
  (bx ["head","parts"] [] rfl (aQ (pv 0)) (ba rfl rfl) nofun rfl nofun
   (λ_ _ _ _ _=>gB (n:=2) K rfl (aC (au (i:=0) (ndq nofun) rfl (bC rfl)) (aC (au (i:=1) (ndq nofun) rfl (bC rfl)) bM))) (λ_ _ _ _ _=>b9)
   (λ_ _ _ _ _=>bT (af (pv 0) (af gC ak)))) ak)))
  (aj (aF (i:=2) kU.nd rfl (bC rfl) gY)
  (aj (bK cx rfl (aQ (pv 0)) (fc rfl (aC (au (i:=3) kU.nd rfl (bC rfl)) (aC (au (i:=4) kU.nd rfl (bC rfl)) bM)))
   (ao (bK cx rfl (gA (pv 4)) (au (i:=5) kU.nd rfl (bC rfl))
    (ao (cA (e_ (eJ hu (pv 5) (pv 1))) (ao (iL hu (pv 2) (pv 5) gC rfl)) aZ)))))
  (ao (bc (aX (ng rfl) rfl T.lst dW (af (pv 2) ak)))))),?_⟩
 nofun
 refine⟨_,rfl,R,rfl,⟨_,hR⟩,λD hD=>tN hR cT a8 hD λts H2 sm hd2 hp=>?_⟩;have kp:Paired (λt (kv:aK×V)=>bf K H2 t [kV kv.1,kv.2]) ts ((aa.map (·.1)).map λh=>((Sum.inr h:aK),V.bl true)):=cR hp λ_ _ z=>z;refine⟨D,ts,_,rfl,hd2,kp,λd hdd=>?_⟩;have K8:(de ((aa.map (·.1)).map λh=>((Sum.inr h:aK),V.bl true)) []).map (·.1)=(hd aa).map Sum.inr:=og (aa.map (·.1)) [] [] rfl;generalize de ((aa.map (·.1)).map λh=>((Sum.inr h:aK),V.bl true)) []=kH at K8 ⊢;have BP:=sm.trans (ah hdd (.dK kH));have gp:upd H2 d (.dK kH) d=some (.dK kH):=ae;generalize upd H2 d (.dK kH)=H3 at BP gp;intro e he;have hde:∀o,upd H3 e o d=some (.dK kH):=λo=>by rw [ai (aq gp he)];exact gp
 have sf:∀o,aD H (upd H3 e o):=λo=>BP.trans (ah he o);have ll:=bG cT
 let oJ:oN:=λi σ H5=>∃(kvs:List (aK×V))(y3 y4 y5:Option V),σ=[bj R,bj d,bj e,y3,y4,y5]/\H5=upd H3 e (.dK kvs) /\
  kvs.map (·.1)=(rQ (hd aa) [] ((aa.take i).flatMap (·.2))).map Sum.inr
 refine⟨_,rfl,R,rfl,⟨_,(sf _).seq hR⟩,cm (xs:=rs.map V.ref) oJ ⟨[],none,none,none,rfl,rfl,rfl⟩ ?_ ?_ ?_⟩
 .rintro i σ H5 _ ⟨kvs,y3,y4,y5,rfl,rfl,_⟩;exact(sf _).seq hR
 .rintro i x σ H5 ex ⟨kvs,y3,y4,y5,rfl,rfl,hk⟩
  ac_nf0
  rw [bq] at ex;obtain⟨r,er,rfl⟩:=bR.mp ex;obtain⟨ru,e1,p,v1,v2⟩:=cT.get er;have li:=(aY.mp e1).1;have NH:=h8 ru (cD e1);have eT:(aa.take (i+1)).flatMap (·.2)=(aa.take i).flatMap (·.2)++ru.2:=by
   rw [cY,e1,List.flatMap_append];simp
  have lA:((aa.take i).flatMap (·.2)).length<=8 * i:=kN (aa.take i) i (by rw [dA];omega) λru fK=>h8 ru (pV fK);refine⟨r,_,rfl,(sf _).tup v1,rfl,_,_,rfl,_,_,rfl,rfl,?_⟩
  let zw:oN:=λj σ H6=>∃(kvs:List (aK×V))(y5:Option V),σ=[bj R,bj d,bj e,some (.str ru.1),bj p,y5]/\H6=upd H3 e (.dK kvs) /\
   kvs.map (·.1)=(rQ (hd aa) [] ((aa.take i).flatMap (·.2)++ru.2.take j)).map Sum.inr
  refine⟨_,rfl,p,rfl,⟨_,(sf _).tup v2⟩,xl (xs:=ru.2.map V.str) zw ⟨kvs,_,rfl,rfl,by rw [List.take_zero,gJ];exact hk⟩ ?_ ?_ ?_⟩
  .rintro j σ H6 _ ⟨kvs,y5,rfl,rfl,_⟩;exact(sf _).tup v2
  .rintro j x σ H6 qY ⟨kvs,y5,rfl,rfl,DV⟩
   ac_nf0
   rw [bq] at qY;obtain⟨z,ez,rfl⟩:=bR.mp qY;have lj:=(aY.mp ez).1;have eS:rQ (hd aa) [] ((aa.take i).flatMap (·.2)++ru.2.take (j+1))=addW (hd aa) (rQ (hd aa) [] ((aa.take i).flatMap (·.2)++ru.2.take j)) z:=by
    rw [cY,ez,<-rD];exact rF
   have lk:kvs.length<=8 * i+8:=by
    have h1:kvs.length=(rQ (hd aa) [] ((aa.take i).flatMap (·.2)++ru.2.take j)).length:=by
     have:=congrArg List.length DV;rw [aB,aB] at this;exact this
    have h2:=wa (hd aa) ((aa.take i).flatMap (·.2)++ru.2.take j) [];rw [cu,dA] at h2;simp only [i6] at h2;omega
   have mem:(br kH (Sum.inr z)).isSome=true↔z∈hd aa:=by rw [d5,K8];exact cP
   refine⟨_,rfl,_,rfl,d,_,rfl,cC.k (k:=Sum.inr z) (hde _),_,rfl,?_⟩;refine d_ (λc=>?_) (λc=>?_)
   .have nm:z∉hd aa:=λh=>by rw [mem.mpr h] at c;exact absurd c nofun
    refine⟨_,rfl,_,rfl,e,_,rfl,pM.k (k:=Sum.inr z) ae (bI ∅),?_⟩;refine⟨bE kvs (Sum.inr z) (.bl true),_,rfl,by rw [ig],?_⟩;rw [eS];unfold addW;rw [aA nm];exact kC DV z
   have im:z∈hd aa:=mem.mp (by
    cases h:(br kH (Sum.inr z)).isSome with
    | true=>rfl
    | false=>exact absurd (by rw [h];rfl) c)
   refine⟨kvs,_,rfl,rfl,?_⟩;rw [eS];unfold addW;rw [az im];exact DV
  rintro σ H6 ⟨kvs,y5,rfl,rfl,DV⟩;rw [aB,cE,<-eT] at DV;exact⟨kvs,_,_,_,rfl,rfl,DV⟩
 rintro σ H5 ⟨kvs,y3,y4,y5,rfl,rfl,hk⟩;rw [aB,ll,cE] at hk;refine⟨_,rfl,e,_,rfl,ae,λD2 iY=>?_⟩;rw [keys_str hk];exact q D2 _ ((sf _).free iY) ((sf _).trans (ah iY _)) ae
end
end fY
namespace L2
open PySem
section
variable {K:aR}{a D:Addr}{xs:List V}{ts:List Str}{js:List (Nat×Str)}{g:TG}{tif:TT}{te:TE}{R:Hp->Prop}{σ:St}{H:Hp}
def gQ (Pv:Nat->List V->St->Hp->Prop)(h0:Pv 0 [] (dI ts js σ) (upd H D (.lst [])))(hl:∀i ys σ H,i<=xs.length->Pv i ys σ H->bf K H a xs)
  (hs:∀i x ys σ H,xs[i]?=some x->Pv i ys σ H->g x σ H λσ2 H2=>tif σ2 H2 λb H3=>if b=true then te σ2 H3 λy H4=>H4 D=some (.lst ys)/\ys.length < sizeLine/\Pv (i+1) (ys++[y]) σ2 (upd H4 D (.lst (ys++[y]))) else Pv (i+1) ys σ2 H3)
  (hd:∀ys σ H,Pv xs.length ys σ H->R H) :
  CWq (oK K a) D (dI ts js σ) H R g tif te:=by
 refine⟨λi m ys σ H=>m=xs.length - i/\i<=xs.length/\Pv i ys σ H,⟨xs.length,by simp,gI _,h0⟩,?_⟩;rintro i m ys σ' H ⟨rfl,hi,p⟩;have q:=hl i ys σ' H hi p;by_cases iF:i < xs.length
 .refine .inr ⟨⟨xs,xs[i],q,by simp [iF]⟩,xs.length - (i+1),∅,λx H' y=>?_⟩;obtain⟨e,y⟩:=y;subst e;have z:=hs i x ys σ' _ (y xs q) p;have h1:(i+1<=xs.length)=True:=eq_true iF;simp only [h1,true_and];exact z
 have e:i=xs.length:=by omega
 subst e;exact .inl ⟨⟨xs,q,aH _⟩,hd ys σ' H p⟩
def zj (Pv:Nat->List V->St->Hp->Prop)(h0:Pv 0 [] (dI ts js σ) (upd H D (.lst [])))(hl:∀i ys σ H,i<=xs.length->Pv i ys σ H->bf K H a xs)
  (hs:∀i x ys σ H t,xs[i]?=some x->Pv i ys σ H->H t=none->g (.ref t) σ (upd H t (.tup [.int (i:Int),x])) λσ2 H2=>tif σ2 H2 λb H3=>if b=true then te σ2 H3 λy H4=>H4 D=some (.lst ys)/\ys.length < sizeLine/\Pv (i+1) (ys++[y]) σ2 (upd H4 D (.lst (ys++[y]))) else Pv (i+1) ys σ2 H3)
  (hd:∀ys σ H,Pv xs.length ys σ H->R H) :
  CWq (tW K a) D (dI ts js σ) H R g tif te:=by
 refine⟨λi m ys σ H=>m=xs.length - i/\i<=xs.length/\Pv i ys σ H,⟨xs.length,by simp,gI _,h0⟩,?_⟩;rintro i m ys σ' H ⟨rfl,hi,p⟩;have q:=hl i ys σ' H hi p;by_cases iF:i < xs.length
 .refine .inr ⟨⟨xs,xs[i],q,by simp [iF]⟩,xs.length - (i+1),∅,λx H' y=>?_⟩;obtain⟨t,y0,rfl,ht,rfl,y⟩:=y;have z:=hs i y0 ys σ' _ t (y xs q) p ht;have h1:(i+1<=xs.length)=True:=eq_true iF;simp only [h1,true_and];exact z
 have e:i=xs.length:=by omega
 subst e;exact .inl ⟨⟨xs,q,aH _⟩,hd ys σ' H p⟩
end
def kK {K:aR}{a:Addr}{xs:List V}{g:TG}{tb:TS}{D:Ends}{σ:St}{H:Hp}(Pv:Nat->St->Hp->Prop)(h0:Pv 0 σ H)(hl:∀i σ H,i<=xs.length->Pv i σ H->aG K H a xs)
  (hs:∀i x σ H t,xs[i]?=some x->Pv i σ H->H t=none->g (.ref t) σ (upd H t (.tup [.int (i:Int),x])) λσ2 H2=>tb { D with nx:=Pv (i+1),ct:=Pv (i+1),bk:=D.nx } σ2 H2)(hd:∀σ H,Pv xs.length σ H->D.nx σ H) :
  ∃W:Nat->Nat->St->Hp->Prop,(∃m,W 0 m σ H)/\∀i m σ H,W i m σ H ->
   ((SG K a).stop i H/\D.nx σ H)\/((SG K a).go i H/\∃N:St->Hp->Prop,(∀σ' H',N σ' H'->∃m',m' < m/\W (i+1) m' σ' H')/\∀x H',(SG K a).mr i H x H'->g x σ H' λσ2 H2=>tb { D with nx:=N,ct:=N,bk:=D.nx } σ2 H2):=by
 refine⟨λi m σ H=>m=xs.length - i/\i<=xs.length/\Pv i σ H,⟨xs.length,by simp,gI _,h0⟩,?_⟩;rintro i m σ H ⟨rfl,hi,p⟩;have q:=hl i σ H hi p;by_cases iF:i < xs.length
 .refine .inr ⟨⟨xs,xs[i],q,by simp [iF]⟩,Pv (i+1),λσ' H' p'=>⟨xs.length - (i+1),∅,rfl,iF,p'⟩,λx H' y=>?_⟩;obtain⟨t,y0,rfl,ht,rfl,y⟩:=y;exact hs i y0 σ _ t (y xs q) p ht
 have e:i=xs.length:=by omega
 subst e;exact .inl ⟨⟨xs,q,aH _⟩,hd σ H p⟩
def pH {K:aR}{a:Addr}{xs:List V}{g:TG}{tb:TS}{D:Ends}{σ:St}{H:Hp}(Pv:Nat->St->Hp->Prop)(h0:Pv 0 σ H)(hl:∀i σ H,i<=xs.length->Pv i σ H->bf K H a xs)
  (hs:∀i x σ H t,xs[i]?=some x->Pv i σ H->H t=none->g (.ref t) σ (upd H t (.tup [.int (i:Int),x])) λσ2 H2=>tb { D with nx:=Pv (i+1),ct:=Pv (i+1),bk:=D.nx } σ2 H2)(hd:∀σ H,Pv xs.length σ H->D.nx σ H) :
  ∃W:Nat->Nat->St->Hp->Prop,(∃m,W 0 m σ H)/\∀i m σ H,W i m σ H ->
   ((tW K a).stop i H/\D.nx σ H)\/((tW K a).go i H/\∃N:St->Hp->Prop,(∀σ' H',N σ' H'->∃m',m' < m/\W (i+1) m' σ' H')/\∀x H',(tW K a).mr i H x H'->g x σ H' λσ2 H2=>tb { D with nx:=N,ct:=N,bk:=D.nx } σ2 H2):=by
 refine⟨λi m σ H=>m=xs.length - i/\i<=xs.length/\Pv i σ H,⟨xs.length,by simp,gI _,h0⟩,?_⟩;rintro i m σ H ⟨rfl,hi,p⟩;have q:=hl i σ H hi p;by_cases iF:i < xs.length
 .refine .inr ⟨⟨xs,xs[i],q,by simp [iF]⟩,Pv (i+1),λσ' H' p'=>⟨xs.length - (i+1),∅,rfl,iF,p'⟩,λx H' y=>?_⟩;obtain⟨t,y0,rfl,ht,rfl,y⟩:=y;exact hs i y0 σ _ t (y xs q) p ht
 have e:i=xs.length:=by omega
 subst e;exact .inl ⟨⟨xs,q,aH _⟩,hd σ H p⟩
def vh {K:aR}{H:Hp}{p D d:Addr}{zs:List Str}{kvs:List (aK×V)}{σ:St}{js:List (Nat×Str)}{Qp:Hp->Prop}(hσ:dI ["part"] js σ=[none,bj d])(hp:bf K H p (zs.map V.str))(hz:zs.length<=1000)
  (hd:H d=some (.dK kvs))(hD:H D=none)(q:∀H2,aD H H2->H2 D=some (.lst ((zs.map λz=>(br kvs (Sum.inr z)).isSome).map V.bl))->Qp H2) :
  CWq (oK K p) D (dI ["part"] js σ) H Qp (dP 0) ix (Pw (gG 0) (gG 1)):=by
 refine gQ (xs:=zs.map V.str) (λi ys σ2 H2=>ys=(((zs.take i).map λz=>(br kvs (Sum.inr z)).isSome).map V.bl)/\(∃y0,σ2=[y0,bj d])/\aD H H2/\H2 D=some (.lst ys))
  ⟨rfl,⟨none,hσ⟩,ah hD _,ae⟩ (λi ys σ2 H2 _ h=>h.2.2.1.tup hp) (λi x ys σ2 H2 ex h=>?_) (λys σ2 H2 h=>?_)
 .obtain⟨rfl,⟨y0,rfl⟩,sm,hd2⟩:=h;rw [bq] at ex;obtain⟨z,ez,rfl⟩:=bR.mp ex;have li:=(aY.mp ez).1;refine goN (xi ?_);refine⟨_,rfl,_,rfl,d,_,rfl,cC.k (k:=Sum.inr z) (sm _ _ hd),hd2,bI (by rw [aB,aB,dA];omega),?_,⟨_,rfl⟩,?_,ae⟩
  .rw [cY,ez,bD,bD];rfl
  intro b o hb;rw [ai (λz=>by rw [z,hD] at hb;cases hb)];exact sm b o hb
 obtain⟨rfl,_,sm,hd2⟩:=h;rw [aB,cE] at hd2;exact q H2 sm hd2
def eZ {K:aR}{H:Hp}{D a:Addr}{xs:List V}{ys:List (aK×V)}{o:HO}(hD:H D=some (.dK ys))(h:bf K H a xs):bf K (upd H D o) a xs:=by
 rcases h with (h | ⟨u,h⟩) | h
 .exact .inl (.inl (by rw [ai (λz=>by rw [z,hD] at h;cases h)];exact h))
 .exact .inl (.inr ⟨u,by rw [ai (λz=>by rw [z,hD] at h;cases h)];exact h⟩)
 exact .inr h
theorem fq {α:Type} [DecidableEq α]:∀(l m:List α),l.Nodup->(∀x∈l,x∈m)->l.length<=m.length
 | [],m,_,_=>gI _
 | a::l,m,hn,h=>by
  have hm:=h a bO;have:=fq l (m.erase a) (jV.mp hn).2 λx hx=>(List.mem_erase_of_ne (λz:x=a=>(jV.mp hn).1 (by rw [<-z];exact hx))).mpr (h x (bS _ hx));rw [zM hm] at this;have:=vW hm;rw [eC];omega
end L2
namespace M11
open PySem L2
inductive qC (aa:List av):List (Str×Nat)->Prop
 | nil:qC aa []
 | snoc {aP:List (Str×Nat)}{k:Nat}{ru:av}:qC aa aP->aa[k]?=some ru->ru.1∉aP.map (·.1)->(∀p∈ru.2,p∈aP.map (·.1))->qC aa (aP++[(ru.1,k)])
def nj (aa:List av) (n:Nat)(aP:List (Str×Nat)):Prop:=∀ru∈aa.take n,(∀p∈ru.2,p∈aP.map (·.1))->ru.1∈aP.map (·.1)
def qC.nd {aa:List av}{aP:List (Str×Nat)}(h:qC aa aP):(aP.map (·.1)).Nodup:=by
 induction h with
 | nil=>exact jJ
 | snoc h e n p ih =>
  rw [bD];refine lL.mpr ⟨ih,by simp,λa ha b hb=>?_⟩;rw [o8,cJ] at hb;exact λz=>n (by rw [<-hb,<-z];exact ha)
def qC.head {aa:List av}{aP:List (Str×Nat)}(h:qC aa aP):∀x∈aP.map (·.1),x∈aa.map (·.1):=by
 induction h with
 | nil=>simp
 | snoc h e n p ih =>
  intro x hx;rw [bD] at hx;rcases bZ.mp hx with hx | hx
  .exact ih x hx
  rw [o8,cJ] at hx;rw [hx];exact i7 (cD e)
def qC.len {aa:List av}{aP:List (Str×Nat)}(h:qC aa aP):aP.length<=aa.length:=by
 have:=fq _ _ h.nd h.head;rw [aB,aB] at this;exact this
end M11
namespace fY
open PySem L2 M11
section
def pK (K:aR)(H:Hp)(ts:List Addr)(aP:List (Str×Nat)):Prop:=Paired (λt (e:Str×Nat)=>bf K H t [.str e.1,.int (e.2:Int)]) ts aP
def pK.keep {H H':Hp}{ts:List Addr}{aP:List (Str×Nat)}(h:pK K H ts aP)(k:∀a xs,bf K H a xs->bf K H' a xs):pK K H' ts aP:=Paired.ft h λt e z=>k _ _ z
structure CW (K:aR)(aa:List av)(H H5:Hp)(D d:Addr)(ts:List Addr)(aP:List (Str×Nat))(kvs:List (aK×V)):Prop where
 sm:aD H H5
 hD:H5 D=some (.lst (ts.map V.ref))
 hd:H5 d=some (.dK kvs)
 keys:kvs.map (·.1)=(aP.map (·.1)).map Sum.inr
 ev:pK K H5 ts aP
 emp:qC aa aP
def CW.same {aa:List av}{H H5 H6:Hp}{D d:Addr}{ts:List Addr}{aP:List (Str×Nat)}{kvs:List (aK×V)}(h:CW K aa H H5 D d ts aP kvs)(s:aD H5 H6):CW K aa H H6 D d ts aP kvs :=
 ⟨h.sm.trans s,s _ _ h.hD,s _ _ h.hd,h.keys,h.ev.keep λ_ _ z=>s.tup z,h.emp⟩
def CW.mem {aa:List av}{H H5:Hp}{D d:Addr}{ts:List Addr}{aP:List (Str×Nat)}{kvs:List (aK×V)}(h:CW K aa H H5 D d ts aP kvs)(z:Str):(br kvs (Sum.inr z)).isSome=true↔z∈aP.map (·.1):=by
 rw [d5,h.keys];exact cP
def CW.len {aa:List av}{H H5:Hp}{D d:Addr}{ts:List Addr}{aP:List (Str×Nat)}{kvs:List (aK×V)}(h:CW K aa H H5 D d ts aP kvs):ts.length=aP.length/\kvs.length=aP.length:=by
 refine⟨bG h.ev,?_⟩;have:=congrArg List.length h.keys;simpa using this
def CW.more {aa:List av}{H H5:Hp}{D d t:Addr}{ts:List Addr}{aP:List (Str×Nat)}{kvs:List (aK×V)}(h:CW K aa H H5 D d ts aP kvs)(fD:H D=none)(fd:H d=none){k:Nat}{ru:av}(e:aa[k]?=some ru)
  (n:ru.1∉aP.map (·.1))(p:∀x∈ru.2,x∈aP.map (·.1))(ht:upd H5 d (.dK (bE kvs (Sum.inr ru.1) (.bl true))) t=none) :
  CW K aa H (upd (upd (upd H5 d (.dK (bE kvs (Sum.inr ru.1) (.bl true)))) t (.tup [.str ru.1,.int (k:Int)])) D (.lst (ts.map V.ref++[.ref t]))) D d (ts++[t]) (aP++[(ru.1,k)]) (bE kvs (Sum.inr ru.1) (.bl true)):=by
 have Zu:D≠d:=λz=>by have:=h.hD;rw [z,h.hd] at this;cases this
 have nt:t≠d:=λz=>by rw [z,ae] at ht;cases ht
 have M_:H5 t=none:=by rw [ai nt] at ht;exact ht
 have nDt:D≠t:=λz=>by rw [<-z,h.hD] at M_;cases M_
 have iY:upd (upd H5 d (.dK (bE kvs (Sum.inr ru.1) (.bl true)))) t (.tup [.str ru.1,.int (k:Int)]) D=some (.lst (ts.map V.ref)):=by rw [ai nDt,ai Zu];exact h.hD
 have kp:∀a xs,bf K H5 a xs->bf K (upd (upd (upd H5 d (.dK (bE kvs (Sum.inr ru.1) (.bl true)))) t (.tup [.str ru.1,.int (k:Int)])) D (.lst (ts.map V.ref++[.ref t]))) a xs:=λa xs z =>
  a_ iY ((ah ht _).tup (eZ h.hd z))
 refine⟨λb o hb=>?_,by rw [ae,bD];rfl,by rw [ai Zu.symm,ai nt.symm,ae],?_,gh (h.ev.keep kp) (a_ iY (bf.of ae)),.snoc h.emp e n p⟩
 .have:=h.sm b o hb;rw [ai (λz=>by rw [z,fD] at hb;cases hb),ai (λz=>by rw [z,M_] at this;cases this),ai (λz=>by rw [z,fd] at hb;cases hb)];exact this
 rw [ij (by rw [h.keys];exact λz=>n (cP.mp z)),h.keys,bD,bD];rfl
def pd (K:aR):Sp:=λvs H Q _=>∃(R:Addr)(rs:List Addr)(aa:List av),vs=[.ref R]/\aG K H R (rs.map V.ref)/\bz K H rs aa/\aa.length<=1000/\(∀ru∈aa,ru.2.length<=8) /\
 ∀D ts aP H',H D=none->aD H H'->H' D=some (.lst (ts.map V.ref))->pK K H' ts aP->qC aa aP->nj aa aa.length aP->Q (.ref D) H'
def gN:aJ ["rules","told","empty","many","number","rule"] ["rules"] (aw sr):=iP rfl rfl rfl rfl nofun
def AA (F:hZ K "found_empties" "found_empties" sr f fd)(T:Txt mg):bh P w K mg base fJ 1 f fd ["rules"] (pd K):=by
 refine F.ok gN (by and_intros) (λdN A outer s H vs Q E hr h=>?_)
 obtain⟨R,rs,aa,rfl,hR,cT,a8,h8,q⟩:=h;have hu:=gk hr;refine⟨_,aj (aF (i:=1) gN.nd rfl (bC rfl) (bU ak))
  (aj (aF (i:=2) gN.nd rfl (Or.inr rfl) gY)
  (aj (aF (i:=3) gN.nd rfl (bC rfl) (K0 E9 ay))
  (aj (kx cx (bB sH (pv 3) (a9 di rfl T.len jK (af (pv 1) ak)) (cX _))
   (aj (aF (i:=3) gN.nd rfl (bC rfl) (a9 di rfl T.len jK (af (pv 1) ak)))
   (ao (bK cx rfl (nZ rfl T.Kd (af (pv 0) ak)) (fc rfl (aC (au (i:=4) gN.nd rfl (bC rfl)) (aC (au (i:=5) gN.nd rfl (bC rfl)) bM)))
    (ao (cA (PW.pt (wK (e_ (eJ hu (bH cS (pv 5) ay (λ_ _=>rfl)) (pv 2)))
      (qK (g_ (a9 (lh rfl) rfl T.all boot_all (af (bx ["part"] [(2,"empty")] rfl (gA (bH cS (pv 5) ay (λ_ _=>rfl))) (ba rfl rfl) nofun rfl nofun
       (λ_ _ _ _ _=>au (i:=0) (ndq nofun) rfl (bC rfl)) (λ_ _ _ _ _=>b9) (λ_ _ _ _ _=>Gd (pA hu (pv 0) (pv 1)))) ak))))))
     (aj (iL hu (pv 2) (bH cS (pv 5) ay (λ_ _=>rfl)) gC rfl)
     (ao (b8 (gZ ie iI iJ cq (pv 1) (af (bT (af (bH cS (pv 5) ay (λ_ _=>rfl)) (af (pv 4) ak))) ak))))) aZ))))))
  (ao (bc (pv 1)))))),?_⟩
 nofun
 refine⟨rP,λD hD d hd=>?_⟩;have Zs:d≠D:=λz=>by rw [z,ae] at hd;cases hd
 have qt:H d=none:=by rw [ai Zs] at hd;exact hd
 have e0:CW K aa H (upd (upd H D (.lst [])) d (.dK [])) D d [] [] []:=⟨(ah hD _).trans (ah hd _),by rw [ai Zs.symm,ae];rfl,ae,rfl,.nil,.nil⟩;generalize upd (upd H D (.lst [])) d (.dK [])=H0 at e0;refine⟨1,rfl,?_⟩;refine⟨λm σ H5=>∃(ts:List Addr)(aP:List (Str×Nat))(kvs:List (aK×V)) (many:Int)(y4 y5:Option V),σ=[bj R,bj D,bj d,some (.int many),y4,y5]/\CW K aa H H5 D d ts aP kvs/\-1<=many/\many<=aP.length/\(many=aP.length->nj aa aa.length aP)/\(m:Int)=aa.length+1 - many,
  ⟨aa.length+2,[],[],[],-1,none,none,rfl,e0,∅,by simp,by simp,by simp;omega⟩,?_⟩
 rintro m σ H5 ⟨ts,aP,kvs,many,y4,y5,rfl,S,b1,b2,cl,em⟩;obtain⟨lt,lk⟩:=S.len;refine⟨_,rfl,_,rfl,D,_,rfl,.inl (aG.of S.hD),_,_,rfl,rfl,_,rfl,?_⟩;refine d_ (λc=>?_) (λc=>?_)
 .have c':=dY c;rw [aB,lt] at c';refine⟨λσ H5=>∃(lU:List Addr)(ip:List (Str×Nat))(fu:List (aK×V))(y4 y5:Option V),σ=[bj R,bj D,bj d,some (.int (aP.length:Int)),y4,y5]/\CW K aa H H5 D d lU ip fu/\aP.length<=ip.length/\(ip.length=aP.length->nj aa aa.length ip),?_,?_⟩
  .rintro σ H6 ⟨lU,ip,fu,y4,y5,rfl,S2,l2,c2⟩;have:=S2.emp.len;exact⟨(aa.length+1 - aP.length:Int).toNat,∅,lU,ip,fu,_,_,_,rfl,S2,∅,∅,λz=>c2 ∅,∅⟩
  refine⟨_,rfl,D,_,rfl,.inl (aG.of S.hD),?_⟩;rw [aB,lt];refine⟨_,rfl,R,_,rfl,S.sm.seq hR,?_⟩;refine kK (xs:=rs.map V.ref) (λi σ H6=>∃(lU:List Addr)(ip:List (Str×Nat))(fu:List (aK×V))(y4 y5:Option V),σ=[bj R,bj D,bj d,some (.int (aP.length:Int)),y4,y5]/\CW K aa H H6 D d lU ip fu/\aP.length<=ip.length/\(ip.length=aP.length->nj aa i ip))
   ⟨ts,aP,kvs,_,_,rfl,S,aH _,λ_ ru fK=>by simp at fK⟩ ?_ ?_ ?_
  .rintro i σ H6 _ ⟨lU,ip,fu,y4,y5,rfl,S2,_⟩;exact S2.sm.seq hR
  .rintro i x σ H6 t ex ⟨lU,ip,fu,y4,y5,rfl,S2,l2,c2⟩ ht
   ac_nf0
   rw [bq] at ex;obtain⟨r,er,rfl⟩:=bR.mp ex;obtain⟨ru,e1,p,v1,v2⟩:=cT.get er;have NH:=h8 ru (cD e1);have S3:=S2.same (ah ht (.tup [.int (i:Int),.ref r]));have OI:bf K (upd H6 t (.tup [.int (i:Int),.ref r])) t [.int (i:Int),.ref r]:=bf.of ae;generalize upd H6 t (.tup [.int (i:Int),.ref r])=H7 at S3 OI;obtain⟨lt2,Tu⟩:=S3.len;have el2:=S3.emp.len;have tk:aa.take (i+1)=aa.take i++[ru]:=by rw [cY,e1];rfl
   have iV:(¬((∀p∈ru.2,p∈ip.map (·.1))/\ru.1∉ip.map (·.1)))->(ip.length=aP.length->nj aa (i+1) ip):=λhn z kY sV hp=>by
    rw [tk] at sV;rcases bZ.mp sV with h | h
    .exact c2 z kY h hp
    rw [cJ.mp h] at hp ⊢;exact rO λhc=>hn ⟨hp,hc⟩
   refine⟨t,_,rfl,OI,rfl,_,_,rfl,_,_,rfl,rfl,?_⟩;refine⟨_,rfl,r,_,_,_,rfl,rfl,S3.sm.tup v1,rfl,?_⟩;refine⟨_,rfl,d,_,rfl,cC.k (k:=Sum.inr ru.1) S3.hd,_,rfl,?_⟩;refine d_ (λc3=>?_) (λc3=>?_)
   .have nm:ru.1∉ip.map (·.1):=λh=>by rw [(S3.mem _).mpr h] at c3;exact absurd c3 nofun
    refine⟨_,rfl,r,_,_,_,rfl,rfl,S3.sm.tup v1,rfl,p,rfl,⟨_,S3.sm.tup v2⟩,λD2 iY=>vh rfl (S3.sm.tup v2) ∅ S3.hd iY λH8 Ou Rv=>?_⟩;have S4:=S3.same Ou;refine⟨D2,_,rfl,aG.of Rv,_,rfl,?_⟩;refine d_ (λc4=>?_) (λc4=>?_)
    .have al:∀x∈ru.2,x∈ip.map (·.1):=λx hx=>(S4.mem x).mp (fO.mp c4 _ (i7 hx));refine⟨_,rfl,_,rfl,r,_,_,_,rfl,rfl,S4.sm.tup v1,rfl,d,_,rfl,pM.k (k:=Sum.inr ru.1) S4.hd (bI ∅),?_⟩;have v1':bf K (upd H8 d (.dK (bE fu (Sum.inr ru.1) (.bl true)))) r [.str ru.1,.ref p]:=eZ S4.hd (S4.sm.tup v1);have ND:upd H8 d (.dK (bE fu (Sum.inr ru.1) (.bl true))) D=some (.lst (lU.map V.ref)):=by rw [ai (λz=>by have:=S4.hD;rw [z,S4.hd] at this;cases this)];exact S4.hD
     refine⟨_,rfl,.inl ⟨rfl,_,aG.of ND⟩,_,rfl,r,_,_,_,rfl,rfl,v1',rfl,_,rfl,mq,λt2 jN=>?_⟩;refine⟨D,_,_,rfl,rfl,(by rw [ai (aq ND jN)];exact ND),bI (by rw [aB];omega),?_⟩;have S5:=S4.more hD qt e1 nm al jN;exact⟨lU++[t2],ip++[(ru.1,i)],_,_,_,rfl,S5,by rw [cu];omega,λz=>by rw [cu] at z;simp at z;omega⟩
    refine⟨lU,ip,fu,_,_,rfl,S4,l2,iV λ⟨ha,_⟩=>c4 (fO.mpr λb hb=>?_)⟩;obtain⟨x,hx,rfl⟩:=cN.mp hb;exact(S4.mem x).mpr (ha x hx)
   refine⟨lU,ip,fu,_,_,rfl,S3,l2,iV λ⟨_,hn⟩=>c3 ?_⟩;cases hq:(br fu (Sum.inr ru.1)).isSome with
   | true=>exact absurd ((S3.mem _).mp hq) hn
   | false=>rfl
  rintro σ H6 ⟨lU,ip,fu,y4,y5,rfl,S2,l2,c2⟩;rw [aB,bG cT] at c2;exact⟨lU,ip,fu,_,_,rfl,S2,l2,c2⟩
 have c':=of_decide_eq_false (o6.mpr c);rw [aB,lt] at c';exact⟨_,rfl,q D ts aP H5 hD S.sm S.hD S.ev S.emp (cl ∅)⟩
end
end fY
namespace M11
open PySem L2
def Ea (b:Str->Bool):List Str->Nat
 | []=>0
 | z::r=>if b z=true then Ea b r+1 else 1
theorem Cs (b:Str->Bool):∀zs:List Str,(∀z∈zs,b z=true)->Ea b zs=zs.length
 | [],_=>rfl
 | z::r,h=>by
  unfold Ea;rw [az (h z bO),Cs b r λx hx=>h x (bS _ hx)];rfl
theorem Hu (b:Str->Bool):∀(zs:List Str) (i:Nat)(z:Str),(∀x∈zs.take i,b x=true)->zs[i]?=some z->¬b z=true->Ea b zs=i+1
 | y::r,0,z,_,e,n=>by
  cases e;unfold Ea;rw [aA n]
 | y::r,i+1,z,h,e,n=>by
  unfold Ea;rw [az (h y (by rw [List.take_succ_cons];exact bO)),Hu b r i z (λx hx=>h x (by rw [List.take_succ_cons];exact bS _ hx)) e n]
theorem Ht (b:Str->Bool):∀zs:List Str,Ea b zs<=zs.length
 | []=>aH _
 | z::r=>by
  have:=Ht b r;unfold Ea;rw [eC]
  split <;> omega
def cnt (n:Nat):List V:=(List.range n).map λk:Nat=>V.int (k:Int)
end M11
namespace fY
open PySem L2 M11
section
def nJ:aJ ["strengths","met","way","words","word"] ["strengths"] (aw z5):=iP rfl rfl rfl rfl nofun
def x_ (K:aR):Sp:=λvs H Q _=>∃(p d:Addr) (zs:List Str)(kvs:List (aK×V)),vs=[.ref p,.ref d]/\bf K H p (zs.map V.str)/\zs.length<=1000/\H d=some (.dK kvs) /\
 ∀D H',H D=none->aD H H'->H' D=some (.lst (cnt (Ea (λz=>(br kvs (Sum.inr z)).isSome) zs)))->Q (.ref D) H'
def nO:aJ ["parts","empty","places","place","part"] ["parts","empty"] (aw wB):=iP rfl rfl rfl rfl nofun
def Dv (F:hZ K "first_places" "first_places" wB f fd)(T:Txt mg):bh P w K mg base fJ 1 f fd ["parts","empty"] (x_ K):=by
 refine F.ok nO (by and_intros) (λdN A outer s H vs Q E hr h=>?_)
 obtain⟨p,d,zs,kvs,rfl,hp,hz,hd,q⟩:=h;have hu:=gk hr;refine⟨_,aj (aF (i:=2) nO.nd rfl (bC rfl) (bU ak))
  (aj (bK cx rfl (nY rfl T.Kd (af (pv 0) ak)) (fc rfl (aC (au (i:=3) nO.nd rfl (bC rfl)) (aC (au (i:=4) nO.nd rfl (bC rfl)) bM)))
   (aj (b8 (gZ ie iI iJ cq (pv 2) (af (pv 3) ak)))
   (ao (cA (e_ (eJ hu (pv 4) (pv 1))) (ao F4) aZ))))
  (ao (bc (pv 2)))),?_⟩
 nofun
 refine⟨rP,λD hD=>?_⟩;have up1:∀n,cnt n++[V.int (n:Int)]=cnt (n+1):=λn=>by
  unfold cnt;rw [List.range_succ,bD];rfl
 refine⟨_,rfl,p,_,rfl,(ah hD _).tup hp,?_⟩
 let SE:oN:=λi σ H5=>∃(y3 y4:Option V),σ=[bj p,bj d,bj D,y3,y4]/\aD H H5/\H5 D=some (.lst (cnt i))/\∀z∈zs.take i,(br kvs (Sum.inr z)).isSome=true
 refine pH (xs:=zs.map V.str) SE
  ⟨none,none,rfl,ah hD _,ae,by simp⟩ ?_ ?_ ?_
 .rintro i σ H5 _ ⟨y3,y4,rfl,sm,_⟩;exact sm.tup hp
 .rintro i x σ H5 t ex ⟨y3,y4,rfl,sm,Rw,qv⟩ ht
  ac_nf0
  rw [bq] at ex;obtain⟨z,ez,rfl⟩:=bR.mp ex;have li:=(aY.mp ez).1;have wm:=sm.trans (ah ht (.tup [.int (i:Int),.str z]));have iY:upd H5 t (.tup [.int (i:Int),.str z]) D=some (.lst (cnt i)):=by rw [ai (aq Rw ht)];exact Rw
  have hv:bf K (upd H5 t (.tup [.int (i:Int),.str z])) t [.int (i:Int),.str z]:=bf.of ae;generalize upd H5 t (.tup [.int (i:Int),.str z])=H6 at wm iY hv;have BP:aD H (upd H6 D (.lst (cnt i++[V.int (i:Int)]))):=λb o hb=>by
   rw [ai (λz=>by rw [z,hD] at hb;cases hb)];exact wm b o hb
  refine⟨t,_,rfl,hv,rfl,_,_,rfl,_,_,rfl,rfl,?_⟩;refine⟨_,rfl,.inl ⟨rfl,_,aG.of iY⟩,_,rfl,D,_,_,rfl,rfl,iY,bI (by unfold cnt;rw [aB,rG];omega),?_⟩;refine⟨_,rfl,_,rfl,d,_,rfl,cC.k (k:=Sum.inr z) (BP _ _ hd),_,rfl,?_⟩;refine d_ (λc=>?_) (λc=>?_)
  .refine⟨_,rfl,q D _ hD BP ?_⟩;rw [ae,up1,Hu _ zs i z qv ez (λh=>by rw [h] at c;exact absurd c nofun)]
  refine⟨_,_,rfl,BP,by rw [ae,up1],λx hx=>?_⟩;rw [cY,ez] at hx;rcases bZ.mp hx with h | h
  .exact qv x h
  rw [Option.toList_some,cJ] at h;subst h;cases hq:(br kvs (Sum.inr x)).isSome with
  | true=>rfl
  | false=>exact absurd (by rw [hq];rfl) c
 rintro σ H5 ⟨y3,y4,rfl,sm,Rw,qv⟩;rw [aB] at Rw qv;rw [cE] at qv;exact⟨_,rfl,q D _ hD sm (by rw [Cs _ zs qv];exact Rw)⟩
end
end fY
namespace L2
open PySem
section
variable {prog:Program}{w:World}{K:Type} [DecidableEq K] {knd:KeyKind prog w K}{A:Around}{E:Value->Shared->Prop}
def ui {s:Shared}{d l:Addr}{items:Array Value}{n:Nat}{kvs more:List (K×Value)}{Q:Value->Shared->Prop}(hh:A.handled=none)(qt:s.heap.DictOf knd d kvs)(hx:s.heap.get? l=some { cls:=.type "list",data:=.seq items n })
  (hi:items.size=more.length)(hp:∀(m:Nat) kv,more[m]?=some kv->∃u,items[m]?=some u/\ni knd s.heap u kv)(hz:kvs.length+more.length<=sizeLine)
  (h:∀h' t',h'.DictOf knd d (more.foldl (λa p=>stored a p.1 p.2) kvs)->(∀b o,b≠d->s.heap.get? b=some o->h'.get? b=some o)->Q .none { s with heap:=h',toks:=t' }) :
  wpAny (model prog w) A (call (.builtin "dict.update") [.ref d,.ref l]) Q E s:=by
 refine h_ (pT zO.plain PySem.F.entry_dict_update (zO.check _ _ _ _ _ _ _ _ qt.typeIs (PySem.F.args_dict_update_2 _ _) ?_));unfold Builtin.«dict.update»;refine ax ?_;unfold Builtin.Dict.selfAndRest;refine ax (wpAny_notOrdered_dict qt.typeIs ?_);show wpAny _ _ (pure (d,[Value.ref l])) _ _ s;refine aI ?_;show wpAny _ _ (Builtin.Dict.updateFrom "dict.update" d (.ref l) [] .none) _ _ s;unfold Builtin.Dict.updateFrom;refine ax (iR (T := "list") ⟨_,hx,rfl⟩ ?_);rw [az zU];refine ax (pD hx hh λh1 t1 k1=>?_);refine ax (wpAny_rule ?_);have l1:=k1 _ _ hx;refine ax (pP ⟨_,l1,rfl,_,rfl⟩ ?_);have k2:∀b o,s.heap.get? b=some o->(h1.push { cls:=.type "list_iterator",data:=.fields #[.ref l,.int 0 0] }).get? b=some o:=λb o q=>bu _ (k1 _ _ q);refine aI ⟨iT fj _,HH (knd:=knd) (A:=A) (l:=l) (items:=items) hh more 0 _ kvs _ _ (by rw [hi,mh]) ?_ ⟨_,cZ _ rfl,rfl,rfl⟩ ⟨_,k2 _ _ hx,rfl,n,rfl⟩ (λm kv e=>?_) hz λh' t' hd k3=>?_⟩
 .obtain⟨o,es,ep,q,r⟩:=qt;exact⟨o,es,ep,k2 _ _ q,r⟩
 .obtain⟨u,e1,e2⟩:=hp m kv e;exact⟨u,by rw [mh];exact e1,e2.keep λb o _ q=>k2 b o q⟩
 exact h h' t' hd λb o n q=>k3 b o n (bw (aO (k1 _ _ q))) (k2 b o q)
end
section
variable {X:Cx}{o e:Expr}{apos g8:Pos}{td ty:TE}
def Pu (K:aR)(td ty:TE):TE:=λσ H Q=>td σ H λx H1=>∃a,x=.ref a/\Us H1 a/\ty σ H1 λy H2=>∃l ts kvs more,y=.ref l/\H2 a=some (.dK kvs)/\H2 l=some (.lst (ts.map V.ref)) /\
 Paired (λt kv=>bf K H2 t [kV kv.1,kv.2]) ts more/\kvs.length+more.length<=sizeLine/\Q .dG (upd H2 a (.dK (de more kvs)))
def Jm (hc:X.calm=true)(ho:PE X o td)(he:PE X e ty)(m:M1 X o "update" apos e g8):PE X (.Call (.Attribute o "update" apos) [e] [] g8) (Pu X.K td ty):=by
 intro ag s σ H Q I h;refine wpAny_Call_method m.base m.NR m.line zL zO PySem.F.type_dict_update (cK (ho ag s σ H _ I h) λu s1 aS=>?_);obtain⟨x,H1,I1,rx,a,ex,d,q1⟩:=aS;subst ex;obtain rfl:u=Value.ref a:=rx;obtain⟨t1,t2,_⟩:=AR I1 d;refine⟨t1,t2,?_⟩;rw [m.trees];refine vQ rfl (vH (oZ (cK (he ag s1 σ H1 _ I1 q1) λiv s2 aS=>?_)));obtain⟨y,H2,I2,ry,l,ts,kvs,more,ey,ea,el,p,hz,q2⟩:=aS;refine Calls.spliced_nil ?_;subst ey;cases (show iv=Value.ref l from ry);obtain⟨z,ZQ,vs,rel,dd⟩:=yY I2.bF ea;obtain⟨z2,aN,n,rv,hl⟩:=(show bW X.prog X.w H2 s2.heap l (.lst _) from I2.bF l _ el);obtain⟨ms,r1,r2⟩:=pairs_at I2 p rv;have l1:=bG r2;have l2:=r1.length;have l3:=bG p;refine ui (I2.ok.hd hc) dd hl (by simpa using l1) (λm kv em=>?_) (by rw [<-rel.length,<-l2];exact hz) λh' t' hd kk=>?_
 .obtain⟨u,e1,e2⟩:=Paired.at_ r2 m kv em;exact⟨u,by simpa using e1,e2⟩
 have hn:(de more kvs).length<=sizeLine:=cQ (tG more kvs) hz;have he:∃q,h'.get? a=some q:=let ⟨q,_,_,hq,_⟩:=hd;⟨q,hq⟩;exact⟨.dG,_,I2.write (x:=a) (e:=a) (by rw [ea];exact True.intro) (.inl rfl) (λb q hb z=>kk b q hb z) he (tK hn ZQ (tF r1 rel) hd),rfl,q2⟩
def vk {X:Cx}:fZ X (.builtin "len") (λxs H Q=>∃a kvs,xs=[.ref a]/\H a=some (.dK kvs)/\Q (.int kvs.length) H):=by
 intro ag s σ H xs us Q I r h;obtain⟨a,kvs,rfl,e,q⟩:=h;obtain⟨u,rfl,rx⟩:=vals1 r;cases (show u=Value.ref a from rx);exact R_ I (.inl e) λt s' I'=>⟨.int _,H,I',⟨_,rfl⟩,q⟩
end
theorem yL:∀{us:List Value}{ns:List Int},PyProof.Rows.IntsAre us ns->∀ys:List (Int×Tok),us=ys.map (λp=>Value.int p.1 p.2)->ys.map (·.1)=ns
 | _,_,.nil,ys,e=>by
  cases ys with
  | nil=>rfl
  | cons _ _=>cases e
 | _,_,.cons n t h,ys,e=>by
  cases ys with
  | nil=>cases e
  | cons y r =>
   rw [bL] at e;injection e with e1 e2;injection e1 with e3 e4;rw [bL,yL h r e2,e3]
def vj {X:Cx}(hc:X.calm=true):fZ X (.builtin "sum") (λxs H Q=>∃a ns,xs=[.ref a]/\aG X.K H a (List.map V.int ns)/\Q (.int ns.sum) H):=by
 intro ag s σ H xs us Q I r h;obtain⟨a,ns,rfl,hq,q⟩:=h;obtain⟨u,rfl,rx⟩:=vals1 r;cases rx;obtain⟨aN,rv,pl,hz⟩:=I.list hq;have hi:=intsAre_of rv;have qv:AllInts aN.toArray:=hi.allInts;obtain⟨xs,e⟩:=qv.items;have hl:=pl.isList;rw [e] at hl;refine sum_intListG (I.ok.hd hc) hl λh' tk t' hk=>⟨.int _,H,I.kept hk,⟨_,rfl⟩,?_⟩;have e5:xs.toList.map (·.1)=ns:=yL hi xs.toList (by
  have:=congrArg Array.toList e;simpa [intItems] using this)
 have e6:preSum (numAt xs) xs.size=ns.sum:=by
  rw [preSum_eq,e5,rM (by rw [<-e5];simp)]
 rw [e6];exact q
def zc {K:aR}{H:Hp}{p D:Addr}{zs:List Str}{σ:St}{v:V}{x:Str}{Qp:Hp->Prop}(hp:bf K H p (zs.map V.str))(hz:zs.length<=1000)(hD:H D=none)
  (q:∀ts H2,aD H H2->H2 D=some (.lst (ts.map V.ref))->Paired (λt h=>bf K H2 t [.str h,v]) ts zs->Qp H2) :
  CWq (oK K p) D (dI [x] [] σ) H Qp (dP 0) ix (uc (gw (gG 0) (gw (tC v) rV))):=by
 refine gQ (xs:=zs.map V.str) (λi ys σ2 H2=>∃ts:List Addr,ys=ts.map V.ref/\ts.length=i/\Paired (λt h=>bf K H2 t [.str h,v]) ts (zs.take i)/\(∃y0,σ2=[y0])/\aD H H2/\H2 D=some (.lst ys))
  ⟨[],rfl,rfl,.nil,⟨none,rfl⟩,ah hD _,ae⟩ (λi ys σ2 H2 _ h=>?_) (λi x ys σ2 H2 ex h=>?_) (λys σ2 H2 h=>?_)
 .obtain⟨_,_,_,_,_,sm,_⟩:=h;exact sm.tup hp
 .obtain⟨ts,rfl,ht,kF,⟨y0,rfl⟩,sm,hd⟩:=h;rw [bq] at ex;obtain⟨z,ez,rfl⟩:=bR.mp ex;have li:=(aY.mp ez).1;refine goN (xi ?_);refine⟨_,rfl,mq,λt jN=>⟨?_,bI (by rw [aB];omega),ts++[t],?_,?_,?_,⟨_,rfl⟩,?_,ae⟩⟩
  .rw [ai (aq hd jN)];exact hd
  .rw [bD];rfl
  .rw [cu,ht];rfl
  .rw [cY,ez];have gp:upd H2 t (.tup [.str z,v]) D=some (.lst (ts.map V.ref)):=by rw [ai (aq hd jN)];exact hd
   exact gh (Paired.ft kF λt' h' z=>a_ gp ((ah jN _).tup z)) (a_ gp (bf.of ae))
  intro b o hb;rw [ai (λz=>by rw [z,hD] at hb;cases hb)];exact ah jN _ _ _ (sm b o hb)
 obtain⟨ts,rfl,ht,kF,_,sm,hd⟩:=h;rw [aB,cE] at kF;exact q ts H2 sm hd kF
end L2
namespace M11
open PySem L2
def oF (a:List Str)(h x:Str):x∈gF a h↔x∈a\/x=h:=by
 unfold gF;split
 .constructor
  .exact .inl
  rintro(z | rfl) <;> assumption
 simp
def CJ {a:List Str}(h:Str)(n:a.Nodup):(gF a h).Nodup:=by
 unfold gF;split
 .exact n
 rename_i q
 refine lL.mpr ⟨n,by simp,λx hx y hy=>?_⟩;rw [cJ.mp hy];exact λz=>q (z ▸ hx)
def CK (a:List Str)(h:Str):a.length<=(gF a h).length:=by
 unfold gF;split <;> simp
def Ks {a:List Str}{h:Str}(e:(gF a h).length=a.length):gF a h=a:=by
 unfold gF at e ⊢;split
 .rfl
 rename_i q
 rw [aA q,cu] at e;simp at e
theorem eX:∀(hs bA:List Str)(x:Str),x∈m_ bA hs↔x∈bA\/x∈hs
 | [],bA,x=>by simp [m_]
 | h::r,bA,x=>by
  show x∈m_ (gF bA h) r↔_;rw [eX r,oF,bN,or_assoc]
theorem mZ:∀(hs:List Str){bA:List Str},bA.Nodup->(m_ bA hs).Nodup
 | [],_,n=>n
 | h::r,_,n=>mZ r (CJ h n)
theorem A_:∀(hs bA:List Str),bA.length<=(m_ bA hs).length
 | [],_=>aH _
 | h::r,bA=>cQ (CK bA h) (A_ r _)
theorem HI:∀(hs bA:List Str),(m_ bA hs).length=bA.length->m_ bA hs=bA
 | [],_,_=>rfl
 | h::r,bA,e=>by
  have h1:=CK bA h;have h2:=A_ r (gF bA h);have e':(m_ (gF bA h) r).length=bA.length:=e;show m_ (gF bA h) r=bA;rw [HI r _ ∅];exact Ks ∅
inductive vy (aa:List av)(s:Str):Str->Prop
 | start:vy aa s s
 | step {ru:av}{x:Str}:vy aa s ru.1->ru∈aa->x∈ru.2->vy aa s x
def oH (aa:List av) (n:Nat) (ms:List Str):Prop:=∀ru∈aa.take n,ru.1∈ms->∀x∈ru.2,x∈ms
def vy.among {aa:List av}{s x:Str}(h:vy aa s x):x∈s::aa.flatMap (·.2):=by
 cases h with
 | start=>exact bO
 | step _ h1 h2=>exact bS _ (oY.mpr ⟨_,h1,h2⟩)
end M11
namespace fY
open PySem L2 M11
section
def KN (K:aR):Sp:=λvs H Q _=>∃(R:Addr)(rs:List Addr)(aa:List av)(cb:av),vs=[.ref R]/\aG K H R (rs.map V.ref)/\bz K H rs aa/\aa[0]?=some cb/\aa.length<=1000/\(∀ru∈aa,ru.2.length<=8) /\
 ∀d kvs ms H',H d=none->aD H H'->H' d=some (.dK kvs)->kvs.map (·.1)=ms.map Sum.inr->cb.1∈ms->(∀x∈ms,vy aa cb.1 x)->oH aa aa.length ms->Q (.ref d) H'
def uH:aJ ["rules","met","many","head","parts"] ["rules"] (aw Mj):=iP rfl rfl rfl rfl nofun
structure O5 (K:aR)(aa:List av)(s0:Str)(H H5:Hp)(d:Addr) (ms:List Str)(kvs:List (aK×V)):Prop where
 sm:aD H H5
 hd:H5 d=some (.dK kvs)
 keys:kvs.map (·.1)=ms.map Sum.inr
 nd:ms.Nodup
 st:s0∈ms
 Ow:∀x∈ms,vy aa s0 x
def O5.len {aa:List av}{s0:Str}{H H5:Hp}{d:Addr}{ms:List Str}{kvs:List (aK×V)}(h:O5 K aa s0 H H5 d ms kvs)(hl:aa.length<=1000)(h8:∀ru∈aa,ru.2.length<=8):kvs.length=ms.length/\ms.length<=8001:=by
 refine⟨?_,?_⟩
 .have:=congrArg List.length h.keys;simpa using this
 have h1:=fq ms _ h.nd λx hx=>(h.Ow x hx).among;have h2:=kN aa 1000 hl h8;rw [eC] at h1;omega
def ME (F:hZ K "names_met" "names_met" Mj f fd)(T:Txt mg):bh P w K mg base fJ 1 f fd ["rules"] (KN K):=by
 refine F.ok uH (by and_intros) (λdN A outer s H vs Q E hr h=>?_)
 obtain⟨R,rs,aa,cb,rfl,hR,cT,kZ,a8,h8,q⟩:=h;have hu:=gk hr;refine⟨_,aj (aF (i:=1) uH.nd rfl (bC rfl) (Jn (F6 (bH cS (bH cO (pv 0) ay (λ_ _=>rfl)) ay (λ_ _=>rfl)) gC Jh) rfl rfl (by simp) (show 1<=15 by decide)))
  (aj (aF (i:=2) uH.nd rfl (bC rfl) ay)
  (aj (kx cx (bB sH (pv 2) (a9 vk rfl T.len jK (af (pv 1) ak)) (cX _))
   (aj (aF (i:=2) uH.nd rfl (bC rfl) (a9 vk rfl T.len jK (af (pv 1) ak)))
   (ao (bK cx rfl (aQ (pv 0)) (fc rfl (aC (au (i:=3) uH.nd rfl (bC rfl)) (aC (au (i:=4) uH.nd rfl (bC rfl)) bM)))
    (ao (cA (e_ (pA hu (pv 3) (pv 1)))
     (ao (b8 (Jm rfl (pv 1) (bx ["part"] [] rfl (gA (pv 4)) (ba rfl rfl) nofun rfl nofun
       (λ_ _ _ _ _=>au (i:=0) (ndq nofun) rfl (bC rfl)) (λ_ _ _ _ _=>b9) (λ_ _ _ _ _=>bT (af (pv 0) (af gC ak)))) ⟨rfl,rfl,rfl,rfl⟩))) aZ))))))
  (ao (bc (pv 1))))),?_⟩
 nofun
 intro d hd;have ll:=bG cT;have l0:=(aY.mp kZ).1;obtain⟨r0,Lo⟩:∃r,rs[0]?=some r:=⟨rs[0]'∅,c_ ∅⟩;obtain⟨aaa,e0,p0,w1,w2⟩:=cT.get Lo;rw [kZ] at e0;cases e0;have S_:=ah hd (.dK []);refine⟨_,rfl,R,_,_,.ref r0,rfl,rfl,S_.seq hR,?_,r0,_,_,_,rfl,rfl,S_.tup w1,rfl,?_⟩
 .have e7:(rs.map V.ref)[0]?=some (.ref r0):=by rw [bq,Lo];rfl
  exact cW (j:=0) e7
 refine⟨ae,[((Sum.inr cb.1:aK),.bl true)],rfl,(by show 1<=15;decide),?_⟩;have S0:O5 K aa cb.1 H (upd (upd H d (.dK [])) d (.dK (mD [] [((Sum.inr cb.1:aK),.bl true)]))) d [cb.1] [((Sum.inr cb.1:aK),.bl true)]:=by
  rw [ig];exact⟨ah hd _,ae,rfl,by simp,by simp,λx hx=>by rw [cJ.mp hx];exact .start⟩
 generalize upd (upd H d (.dK [])) d (.dK (mD [] [((Sum.inr cb.1:aK),.bl true)]))=H0 at S0;refine⟨λm σ H5=>∃(ms:List Str)(kvs:List (aK×V)) (many:Int)(y3 y4:Option V),σ=[bj R,bj d,some (.int many),y3,y4]/\O5 K aa cb.1 H H5 d ms kvs/\0<=many/\many<=ms.length/\(many=ms.length->oH aa aa.length ms)/\(m:Int)=8002 - many,
  ⟨8002,[cb.1],_,0,none,none,rfl,S0,∅,by simp,by simp,∅⟩,?_⟩
 rintro m σ H5 ⟨ms,kvs,many,y3,y4,rfl,S,b1,b2,cl,em⟩;obtain⟨lk,lm⟩:=S.len a8 h8;refine⟨_,rfl,_,rfl,d,_,rfl,S.hd,_,_,rfl,rfl,_,rfl,?_⟩;refine d_ (λc=>?_) (λc=>?_)
 .have c':=dY c;rw [lk] at c';refine⟨λσ H5=>∃(qQ:List Str)(fu:List (aK×V))(y3 y4:Option V),σ=[bj R,bj d,some (.int (ms.length:Int)),y3,y4]/\O5 K aa cb.1 H H5 d qQ fu/\ms.length<=qQ.length/\(qQ.length=ms.length->oH aa aa.length qQ),?_,?_⟩
  .rintro σ H6 ⟨qQ,fu,y3,y4,rfl,S2,l2,c2⟩;exact⟨(8002 - ms.length:Int).toNat,∅,qQ,fu,_,_,_,rfl,S2,∅,∅,λz=>c2 ∅,∅⟩
  refine⟨_,rfl,d,_,rfl,S.hd,?_⟩;rw [lk];refine⟨_,rfl,R,rfl,⟨_,S.sm.seq hR⟩,?_⟩;refine cm (xs:=rs.map V.ref) (λi σ H6=>∃(qQ:List Str)(fu:List (aK×V))(y3 y4:Option V),σ=[bj R,bj d,some (.int (ms.length:Int)),y3,y4]/\O5 K aa cb.1 H H6 d qQ fu/\ms.length<=qQ.length/\(qQ.length=ms.length->oH aa i qQ))
   ⟨ms,kvs,_,_,rfl,S,aH _,λ_ ru fK=>by simp at fK⟩ ?_ ?_ ?_
  .rintro i σ H6 _ ⟨qQ,fu,y3,y4,rfl,S2,_⟩;exact S2.sm.seq hR
  .rintro i x σ H6 ex ⟨qQ,fu,y3,y4,rfl,S2,l2,c2⟩
   ac_nf0
   rw [bq] at ex;obtain⟨r,er,rfl⟩:=bR.mp ex;obtain⟨ru,e1,p,v1,v2⟩:=cT.get er;have NH:=h8 ru (cD e1);have tk:aa.take (i+1)=aa.take i++[ru]:=by rw [cY,e1];rfl
   obtain⟨Tu,lm2⟩:=S2.len a8 h8;have mem:(br fu (Sum.inr ru.1)).isSome=true↔ru.1∈qQ:=by rw [d5,S2.keys];exact cP
   refine⟨r,_,rfl,S2.sm.tup v1,rfl,_,_,rfl,_,_,rfl,rfl,?_⟩;refine⟨_,rfl,_,rfl,d,_,rfl,cC.k (k:=Sum.inr ru.1) S2.hd,_,rfl,?_⟩;refine d_ (λc3=>?_) (λc3=>?_)
   .have im:=mem.mp c3;refine⟨_,rfl,d,rfl,.inl ⟨_,.inl S2.hd⟩,_,rfl,p,rfl,⟨_,S2.sm.tup v2⟩,λD2 iY=>zc (S2.sm.tup v2) ∅ iY λts H8 Ou Rv ZT=>?_⟩;have kp:Paired (λt (kv:aK×V)=>bf K H8 t [kV kv.1,kv.2]) ts (ru.2.map λh=>((Sum.inr h:aK),V.bl true)):=cR ZT λ_ _ z=>z;refine⟨D2,ts,fu,_,rfl,Ou _ _ S2.hd,Rv,kp,fits (by rw [aB];omega),?_⟩;have aal:=A_ ru.2 qQ;refine⟨m_ qQ ru.2,de (ru.2.map λh=>((Sum.inr h:aK),V.bl true)) fu,_,_,rfl,⟨λb o hb=>?_,ae,og ru.2 fu qQ S2.keys,mZ ru.2 S2.nd,(eX ru.2 qQ _).mpr (.inl S2.st),λx hx=>?_⟩,∅,λz kY sV hh=>?_⟩
    .rw [ai (λz=>by rw [z,hd] at hb;cases hb)];exact Ou _ _ (S2.sm b o hb)
    .rcases (eX ru.2 qQ x).mp hx with h | h
     .exact S2.Ow x h
     exact .step (S2.Ow _ im) (cD e1) h
    have e9:=HI ru.2 qQ ∅;rw [e9] at hh ⊢;rw [tk] at sV;rcases bZ.mp sV with h | h
    .exact c2 ∅ kY h hh
    rw [cJ.mp h];intro x hx;rw [<-e9];exact(eX ru.2 qQ x).mpr (.inr hx)
   refine⟨qQ,fu,_,_,rfl,S2,l2,λz kY sV hh=>?_⟩;rw [tk] at sV;rcases bZ.mp sV with h | h
   .exact c2 z kY h hh
   rw [cJ.mp h] at hh;exact absurd (mem.mpr hh) c3
  rintro σ H6 ⟨qQ,fu,y3,y4,rfl,S2,l2,c2⟩;rw [aB,ll] at c2;exact⟨qQ,fu,_,_,rfl,S2,l2,c2⟩
 have c':=of_decide_eq_false (o6.mpr c);rw [lk] at c';exact⟨_,rfl,q d kvs ms H5 hd S.sm S.hd S.keys S.st S.Ow (cl ∅)⟩
end
end fY
namespace M11
open PySem L2
abbrev G:=Str->Option Int
def dq (g:G)(h:Str) (n:Int):G:=λz=>if z=h then some n else g z
def aM (g:G)(ru:av):Int:=1+(ru.2.map λp=>(g p).getD 0).sum
def jl (g:G)(ru:av):Bool:=ru.2.all λp=>(g p).isSome
def bV (bt:Int->Int->Bool)(g:G)(ru:av):Bool:=jl g ru && (!(g ru.1).isSome || bt (aM g ru) ((g ru.1).getD 0))
def sstep (bt:Int->Int->Bool)(a:G×Bool)(ru:av):G×Bool:=if bV bt a.1 ru=true then (dq a.1 ru.1 (aM a.1 ru),true) else a
def uf (bt:Int->Int->Bool)(aa:List av)(g:G):G×Bool:=aa.foldl (sstep bt) (g,false)
inductive cH (bt:Int->Int->Bool)(aa:List av):G->G->Prop
 | refl {g:G}:cH bt aa g g
 | step {g g1:G}{ru:av}:cH bt aa g g1->ru∈aa->bV bt g1 ru=true->cH bt aa g (dq g1 ru.1 (aM g1 ru))
def dJ (bt:Int->Int->Bool)(aa:List av)(g:G):Prop:=∀ru∈aa,bV bt g ru=false
def pL (bt:Int->Int->Bool)(aa:List av):Nat->G->Prop
 | 0,g=>(uf bt aa g).2=false
 | n+1,g=>(uf bt aa g).2=false\/pL bt aa n (uf bt aa g).1
def cH.trans {bt:Int->Int->Bool}{aa:List av}{g g1 g2:G}(h:cH bt aa g g1)(k:cH bt aa g1 g2):cH bt aa g g2:=by
 induction k with
 | refl=>exact h
 | step _ a b ih=>exact .step ih a b
theorem tD (bt:Int->Int->Bool)(aa:List av):∀(l:List av)(a:G×Bool),(∀ru∈l,ru∈aa)->cH bt aa a.1 (l.foldl (sstep bt) a).1
 | [],a,_=>.refl
 | ru::l,a,h=>by
  have ih:=tD bt aa l (sstep bt a ru) λx hx=>h x (bS _ hx);refine cH.trans ?_ ih;unfold sstep;by_cases c:bV bt a.1 ru=true
  .rw [az c];exact .step .refl (h ru bO) c
  rw [aA c];exact .refl
theorem u_ (bt:Int->Int->Bool):∀(l:List av)(a:G×Bool),a.2=true->(l.foldl (sstep bt) a).2=true
 | [],a,h=>h
 | ru::l,a,h=>by
  refine u_ bt l (sstep bt a ru) ?_;unfold sstep
  split
  .rfl
  exact h
theorem tE (bt:Int->Int->Bool):∀(l:List av)(a:G×Bool),(l.foldl (sstep bt) a).2=false->(l.foldl (sstep bt) a).1=a.1/\∀ru∈l,bV bt a.1 ru=false
 | [],a,_=>⟨rfl,λ_ h=>nomatch h⟩
 | ru::l,a,h=>by
  by_cases c:bV bt a.1 ru=true
  .have e:sstep bt a ru=(dq a.1 ru.1 (aM a.1 ru),true):=az c;have h':(l.foldl (sstep bt) (sstep bt a ru)).2=false:=h;rw [e,u_ bt l _ rfl] at h';cases h'
  have e:sstep bt a ru=a:=aA c;have h':(l.foldl (sstep bt) (sstep bt a ru)).2=false:=h;rw [e] at h';obtain⟨i1,i2⟩:=tE bt l a h';refine⟨by rw [List.foldl_cons,e];exact i1,λkY hr=>?_⟩;rcases bN.mp hr with z | z
  .rw [z];exact o6.mpr c
  exact i2 kY z
end M11
namespace L2
open PySem M11
def fX.tup {K:aR}{H H':Hp}{d a:Addr}{kvs:List (aK×V)}{xs:List V}(s:fX d H H')(hd:H d=some (.dK kvs))(h:bf K H a xs):bf K H' a xs:=by
 rcases h with (h | ⟨u,h⟩) | h
 .exact .inl (.inl (s _ _ (λz=>by rw [z,hd] at h;cases h) h))
 .exact .inl (.inr ⟨u,s _ _ (λz=>by rw [z,hd] at h;cases h) h⟩)
 exact .inr h
def fX.seq {K:aR}{H H':Hp}{d a:Addr}{kvs:List (aK×V)}{xs:List V}(s:fX d H H')(hd:H d=some (.dK kvs))(h:aG K H a xs):aG K H' a xs:=by
 rcases h with (h | ⟨u,h⟩) | h
 .exact .inl (.inl (s _ _ (λz=>by rw [z,hd] at h;cases h) h))
 .exact .inl (.inr ⟨u,s _ _ (λz=>by rw [z,hd] at h;cases h) h⟩)
 exact .inr h
def Ek {K:aR}{H:Hp}{p D d:Addr}{zs:List Str}{kvs:List (aK×V)}{g:G}{σ:St}{js:List (Nat×Str)}{Qp:Hp->Prop}(hσ:dI ["part"] js σ=[none,bj d])(hp:bf K H p (zs.map V.str))(hz:zs.length<=1000)
  (hd:H d=some (.dK kvs))(hv:∀z,br kvs (Sum.inr z)=(g z).map V.int)(ha:∀z∈zs,(g z).isSome=true)(hD:H D=none)(q:∀H2,aD H H2->H2 D=some (.lst ((zs.map λz=>(g z).getD 0).map V.int))->Qp H2) :
  CWq (oK K p) D (dI ["part"] js σ) H Qp (dP 0) ix (Bs (gG 1) (gG 0)):=by
 refine gQ (xs:=zs.map V.str) (λi ys σ2 H2=>ys=(((zs.take i).map λz=>(g z).getD 0).map V.int)/\(∃y0,σ2=[y0,bj d])/\aD H H2/\H2 D=some (.lst ys))
  ⟨rfl,⟨none,hσ⟩,ah hD _,ae⟩ (λi ys σ2 H2 _ h=>h.2.2.1.tup hp) (λi x ys σ2 H2 ex h=>?_) (λys σ2 H2 h=>?_)
 .obtain⟨rfl,⟨y0,rfl⟩,sm,hd2⟩:=h;rw [bq] at ex;obtain⟨z,ez,rfl⟩:=bR.mp ex;have li:=(aY.mp ez).1;obtain⟨n,en⟩:=jY.mp (ha z (cD ez));have hg:cC H2 d (.str z) (some (.int n)):=by
   have:=cC.k (k:=Sum.inr z) (sm _ _ hd);rw [hv,en] at this;exact this
  refine goN (xi ?_);refine⟨_,rfl,_,rfl,d,_,rfl,hg,hd2,bI (by rw [aB,aB,dA];omega),?_,⟨_,rfl⟩,?_,ae⟩
  .rw [cY,ez,bD,bD];show _=_++[V.int ((g z).getD 0)];rw [en];rfl
  intro b o hb;rw [ai (λz=>by rw [z,hD] at hb;cases hb)];exact sm b o hb
 obtain⟨rfl,_,sm,hd2⟩:=h;rw [aB,cE] at hd2;exact q H2 sm hd2
end L2
namespace fY
open PySem L2 M11
section
def iz (K:aR)(q:Str)(params:Arguments)(body:Expr)(scope:Scope)(bt:Int->Int->Bool):Sp:=λvs H Q _=>∃(R:Addr)(rs:List Addr)(aa:List av)(d fl c':Addr)(pm gr:Value)(kvs:List (aK×V)) (ks:List Str)(g:G),
 vs=[.ref R,.ref d,.ref fl]/\aG K H R (rs.map V.ref)/\bz K H rs aa/\aa.length<=1000/\(∀ru∈aa,ru.2.length<=8)/\H d=some (.dK kvs)/\kvs.map (·.1)=ks.map Sum.inr/\ks.Nodup/\ks.length<=10000 /\
 (∀z,br kvs (Sum.inr z)=(g z).map V.int)/\(∃n,pL bt aa n g)/\H fl=some (pB fl (PySem.W.kla_obj "<lambda>" q params body scope [] pm c' gr))/\H c'=some (jO c' q) /\
 ∀(mJ:List (aK×V)) (QI:List Str)(g':G)(H':Hp),fX d H H'->H' d=some (.dK mJ)->mJ.map (·.1)=QI.map Sum.inr->(∀z,br mJ (Sum.inr z)=(g' z).map V.int)->cH bt aa g g'->dJ bt aa g'->mJ.length<=20000->Q (.ref d) H'
def iA:aJ ["rules","sizes","better","changed","head","parts","size"] ["rules","sizes","better"] (aw nS):=iP rfl rfl rfl rfl nofun
structure EU (K:aR)(aa:List av) (Iu:List Str)(H H5:Hp)(d:Addr)(kvs:List (aK×V)) (ks:List Str)(g:G):Prop where
 sm:fX d H H5
 hd:H5 d=some (.dK kvs)
 keys:kvs.map (·.1)=ks.map Sum.inr
 nd:ks.Nodup
 sub:∀x∈ks,x∈Iu++aa.map (·.1)
 val:∀z,br kvs (Sum.inr z)=(g z).map V.int
def EU.len {aa:List av}{Iu:List Str}{H H5:Hp}{d:Addr}{kvs:List (aK×V)}{ks:List Str}{g:G}(h:EU K aa Iu H H5 d kvs ks g):kvs.length<=Iu.length+aa.length:=by
 have h1:=congrArg List.length h.keys;have h2:=fq ks _ h.nd h.sub;rw [cu,aB] at h2;rw [aB,aB] at h1;omega
def EU.same {aa:List av}{Iu:List Str}{H H5 H6:Hp}{d:Addr}{kvs:List (aK×V)}{ks:List Str}{g:G}(h:EU K aa Iu H H5 d kvs ks g)(s:aD H5 H6):EU K aa Iu H H6 d kvs ks g :=
 ⟨λb o n e=>s _ _ (h.sm b o n e),s _ _ h.hd,h.keys,h.nd,h.sub,h.val⟩
def EU.put {aa:List av}{Iu:List Str}{H H5:Hp}{d:Addr}{kvs:List (aK×V)}{ks:List Str}{g:G}(h:EU K aa Iu H H5 d kvs ks g){ru:av}(hr:ru∈aa) (n:Int) :
  EU K aa Iu H (upd H5 d (.dK (bE kvs (Sum.inr ru.1) (.int n)))) d (bE kvs (Sum.inr ru.1) (.int n)) (gF ks ru.1) (dq g ru.1 n):=by
 refine⟨λb o nb e=>by rw [ai nb];exact h.sm b o nb e,ae,kC h.keys ru.1,CJ ru.1 h.nd,λx hx=>?_,λz=>?_⟩
 .rcases (oF ks ru.1 x).mp hx with z | z
  .exact h.sub x z
  rw [z];exact fP _ (i7 hr)
 rw [xS];unfold dq;by_cases c:z=ru.1
 .rw [az c,az (by rw [c])];rfl
 rw [aA c,aA (λe=>c (mf e)),h.val]
def uP (F:hZ K "settled_sizes" "settled_sizes" nS f fd)(T:Txt mg){q:Str}{params:Arguments}{body:Expr}{scope:Scope}{bt:Int->Int->Bool}{te:TE}(S:aJ ["size","known"] ["size","known"] scope)
  (om:∀(pm gr:Value)(c':Addr)(us:List Value),us.length=(["size","known"]:List Str).length->bindArgs (PySem.W.kla_fn "<lambda>" q params body scope [] pm (.ref c') gr) ⟨us,[]⟩=pure ((["size","known"]:List Str).zip us))
  (g6:∀(f c':Addr)(A:Around)(outer:List Env)(s:Shared)(H:Hp),PE (dM fJ P w K mg base ["size","known"] q scope f (.ref c') A outer s H λ_ _ _=>False) body te)
  (QS:∀a b H Q,Q (.bl (bt a b)) H->te [some (.int a),some (.int b)] H Q):bh P w K mg base fJ 2 f fd ["rules","sizes","better"] (iz K q params body scope bt):=by
 refine F.ok iA (by and_intros) (λdN A outer s H vs Q E hr h=>?_)
 obtain⟨R,rs,aa,d,fl,c',pm,gr,kvs,ks,g,rfl,hR,cT,a8,h8,hd,hk,hnd,hkl,hv,⟨n0,ZU⟩,Hh,lG,qq⟩:=h;have hu:=gk hr;refine⟨_,aj (aF (i:=3) iA.nd rfl (bC rfl) gC)
  (aj (kx cx (g_ (pv 3))
   (aj (aF (i:=3) iA.nd rfl (bC rfl) gC)
   (ao (bK cx rfl (aQ (pv 0)) (fc rfl (aC (au (i:=4) iA.nd rfl (bC rfl)) (aC (au (i:=5) iA.nd rfl (bC rfl)) bM)))
    (ao (cA (g_ (a9 (lh rfl) rfl T.all boot_all (af (bx ["part"] [(1,"sizes")] rfl (gA (pv 5)) (ba rfl rfl) nofun rfl nofun
       (λ_ _ _ _ _=>au (i:=0) (ndq nofun) rfl (bC rfl)) (λ_ _ _ _ _=>b9) (λ_ _ _ _ _=>Gd (pA hu (pv 0) (pv 1)))) ak)))
     (aj (aF (i:=6) iA.nd rfl (bC rfl) (bo d7 ay (a9 (vj rfl) rfl T.sum PyProof.Rows.boot_sum (af (bx ["part"] [(1,"sizes")] rfl (gA (pv 5)) (ba rfl rfl) nofun rfl nofun
       (λ_ _ _ _ _=>au (i:=0) (ndq nofun) rfl (bC rfl)) (λ_ _ _ _ _=>b9) (λ_ _ _ _ _=>fk hu (pv 1) (pv 0) (λ_ _=>rfl))) ak))))
     (ao (cA (PW.pt (yl (e_ (eJ hu (pv 4) (pv 1))) (wJ (g_ (Aq (i:=2) (k:=0) rfl rfl S hr om g6 (af (pv 6) (af (fk hu (pv 1) (pv 4) (λ_ _=>rfl)) ak)))))))
      (aj (iL hu (pv 1) (pv 4) (pv 6) rfl) (ao (aF (i:=3) iA.nd rfl (bC rfl) gC))) aZ))) aZ))))))
  (ao (bc (pv 1)))),?_⟩
 nofun
 have ll:=bG cT;have S0:EU K aa ks H H d kvs ks g:=⟨λ_ _ _ e=>e,hd,hk,hnd,λx hx=>i8 _ hx,hv⟩;refine⟨λm σ H5=>∃(fu:List (aK×V)) (Tv:List Str)(g2:G)(ch:Bool)(y4 y5 y6:Option V),σ=[bj R,bj d,bj fl,some (.bl ch),y4,y5,y6]/\EU K aa ks H H5 d fu Tv g2/\cH bt aa g g2 /\
  ((ch=true/\∃n,m=n+1/\pL bt aa n g2)\/(ch=false/\dJ bt aa g2)),⟨n0+1,kvs,ks,g,true,none,none,none,rfl,S0,.refl,.inl ⟨rfl,n0,rfl,ZU⟩⟩,?_⟩
 rintro m σ H5 ⟨fu,Tv,g2,ch,y4,y5,y6,rfl,S2,Im,cs⟩;refine⟨_,rfl,ch,rfl,?_⟩;refine d_ (λc=>?_) (λc=>?_)
 .rcases cs with ⟨_,n,em,en⟩ | ⟨c',_⟩
  case inr=>rw [c'] at c;cases c
  refine⟨λσ H6=>∃(mI:List (aK×V)) (EI:List Str)(g3:G)(vi:Bool)(y4 y5 y6:Option V),σ=[bj R,bj d,bj fl,some (.bl vi),y4,y5,y6]/\EU K aa ks H H6 d mI EI g3/\(g3,vi)=uf bt aa g2,?_,?_⟩
  .rintro σ H6 ⟨mI,EI,g3,vi,y4,y5,y6,rfl,S3,e3⟩;have XU:g3=(uf bt aa g2).1:=congrArg Prod.fst e3;have N0:vi=(uf bt aa g2).2:=congrArg Prod.snd e3;have PJ:cH bt aa g g3:=by
    rw [XU];exact Im.trans (tD bt aa aa (g2,false) λ_ h=>h)
   cases h3:vi with
   | false =>
    rw [h3] at N0;obtain⟨f1,f2⟩:=tE bt aa (g2,false) N0.symm;refine⟨0,∅,mI,EI,g3,false,_,_,_,rfl,S3,PJ,.inr ⟨rfl,?_⟩⟩;have e33:g3=g2:=XU.trans f1;rw [e33];exact f2
   | true =>
    rw [h3] at N0;cases n with
    | zero=>rw [show (uf bt aa g2).2=false from en] at N0;cases N0
    | succ n' =>
     rcases en with en | en
     .rw [en] at N0;cases N0
     exact⟨n'+1,∅,mI,EI,g3,true,_,_,_,rfl,S3,PJ,.inl ⟨rfl,n',rfl,by rw [XU];exact en⟩⟩
  refine⟨_,rfl,R,rfl,⟨_,S2.sm.seq hd hR⟩,?_⟩;refine cm (xs:=rs.map V.ref) (λi σ H6=>∃(mI:List (aK×V)) (EI:List Str)(g3:G)(vi:Bool)(y4 y5 y6:Option V),σ=[bj R,bj d,bj fl,some (.bl vi),y4,y5,y6]/\EU K aa ks H H6 d mI EI g3/\(g3,vi)=(aa.take i).foldl (sstep bt) (g2,false))
   ⟨fu,Tv,g2,false,_,_,_,rfl,S2,rfl⟩ ?_ ?_ ?_
  .rintro i σ H6 _ ⟨mI,EI,g3,vi,y4,y5,y6,rfl,S3,_⟩;exact S3.sm.seq hd hR
  .rintro i x σ H6 ex ⟨mI,EI,g3,vi,y4,y5,y6,rfl,S3,e3⟩;rw [bq] at ex;obtain⟨r,er,rfl⟩:=bR.mp ex;obtain⟨ru,e1,p,v1,v2⟩:=cT.get er;have pG:=cD e1;have NH:=h8 ru pG;have fo:(aa.take (i+1)).foldl (sstep bt) (g2,false)=sstep bt (g3,vi) ru:=by
    rw [cY,e1,rF,<-e3];rfl
   rw [fo];have UE:=S3.sm.tup hd v2;refine⟨r,_,rfl,S3.sm.tup hd v1,rfl,_,_,rfl,_,_,rfl,rfl,?_⟩;refine⟨_,rfl,p,rfl,⟨_,UE⟩,λD2 iY=>vh rfl UE ∅ S3.hd iY λH7 Y9 hd7=>?_⟩;have S4:=S3.same Y9;have v4:=Y9.tup UE;have eb:(ru.2.map λz=>(br mI (Sum.inr z)).isSome).all id=jl g3 ru:=by
    unfold jl;rw [List.all_map];refine List.all_congr rfl λz=>?_;show (br mI (Sum.inr z)).isSome=_;rw [S3.val,o7]
   refine⟨D2,_,rfl,aG.of hd7,_,rfl,?_⟩;rw [eb];refine d_ (λc4=>?_) (λc4=>?_)
   .have al:∀z∈ru.2,(g3 z).isSome=true:=λz hz=>fO.mp c4 z hz;refine⟨_,rfl,p,rfl,⟨_,v4⟩,λD3 IF=>Ek (g:=g3) rfl v4 ∅ S4.hd S4.val al IF λH8 Ou Rv=>?_⟩;have S5:=S4.same Ou;have esz:1+(ru.2.map λz=>(g3 z).getD 0).sum=aM g3 ru:=rfl;refine⟨D3,_,rfl,aG.of Rv,_,_,rfl,rfl,?_⟩;have mem:(br mI (Sum.inr ru.1)).isSome=(g3 ru.1).isSome:=by rw [S5.val,o7]
    have fl5:=S5.sm fl _ (λz=>by rw [z,hd] at Hh;cases Hh) Hh;have c5':=S5.sm c' _ (λz=>by rw [z,hd] at lG;cases lG) lG;have l5:=S5.len;refine⟨_,rfl,_,rfl,d,_,rfl,cC.k (k:=Sum.inr ru.1) S5.hd,_,rfl,?_⟩;refine d_ (λc5=>?_) (λc5=>?_)
    .have fr:bV bt g3 ru=true:=by
      unfold bV;rw [<-mem,c4,c5];rfl
     refine⟨_,rfl,_,rfl,_,rfl,d,_,rfl,pM.k (k:=Sum.inr ru.1) S5.hd (bI ∅),?_⟩;exact⟨_,_,dq g3 ru.1 (aM g3 ru),true,_,_,_,rfl,S5.put pG (aM g3 ru),(az fr).symm⟩
    have isS:(g3 ru.1).isSome=true:=by
     rw [mem] at c5;cases hq:(g3 ru.1).isSome with
     | true=>rfl
     | false=>rw [hq] at c5;exact absurd rfl c5
    obtain⟨k,ek⟩:=jY.mp isS;have hg:cC H8 d (.str ru.1) (some (.int k)):=by
     have:=cC.k (k:=Sum.inr ru.1) S5.hd;rw [S5.val,ek] at this;exact this
    refine⟨fl,pm,c',gr,rfl,_,rfl,_,rfl,_,rfl,d,_,rfl,hg,fl5,c5',rfl,QS (aM g3 ru) k _ _ ⟨_,rfl,?_⟩⟩;refine d_ (λc6=>?_) (λc6=>?_)
    .have fr:bV bt g3 ru=true:=by
      unfold bV;rw [c4,ek];show (true && (false || bt (aM g3 ru) k))=true
      rw [c6];rfl
     refine⟨_,rfl,_,rfl,_,rfl,d,_,rfl,pM.k (k:=Sum.inr ru.1) S5.hd (bI ∅),?_⟩;exact⟨_,_,dq g3 ru.1 (aM g3 ru),true,_,_,_,rfl,S5.put pG (aM g3 ru),(az fr).symm⟩
    have fr:¬bV bt g3 ru=true:=by
     unfold bV;rw [c4,ek];show ¬(true && (false || bt (aM g3 ru) k))=true
     rw [o6.mpr c6];exact nofun
    exact⟨mI,EI,g3,vi,_,_,_,rfl,S5,(aA fr).symm⟩
   have e5:sstep bt (g3,vi) ru=(g3,vi):=aA (λz=>c4 (by unfold bV at z;exact(lQ.mp z).1));exact⟨mI,EI,g3,vi,_,_,_,rfl,S4,e5.symm⟩
  rintro σ H6 ⟨mI,EI,g3,vi,y4,y5,y6,rfl,S3,e3⟩;rw [aB,ll,cE] at e3;exact⟨mI,EI,g3,vi,_,_,_,rfl,S3,e3⟩
 rcases cs with ⟨c',_⟩ | ⟨_,se⟩
 .rw [c'] at c;exact absurd rfl c
 exact⟨_,rfl,qq fu Tv g2 H5 S2.sm S2.hd S2.keys S2.val Im se (by have:=S2.len;omega)⟩
end
end fY
namespace M11
open PySem L2
theorem fold_lt {bt:Int->Int->Bool}{aa:List av}{J:G->Prop}{r:G->G->Prop}(tr:∀a b c,r a b->r b c->r a c)
  (jF:∀g ru,J g->ru∈aa->bV bt g ru=true->J (dq g ru.1 (aM g ru))/\r (dq g ru.1 (aM g ru)) g) :
  ∀(l:List av)(a:G×Bool),(∀ru∈l,ru∈aa)->J a.1->J (l.foldl (sstep bt) a).1/\(l.foldl (sstep bt) a=a\/r (l.foldl (sstep bt) a).1 a.1)
 | [],a,_,j=>⟨j,.inl rfl⟩
 | ru::l,a,h,j=>by
  by_cases c:bV bt a.1 ru=true
  .have e:sstep bt a ru=(dq a.1 ru.1 (aM a.1 ru),true):=az c;obtain⟨j1,r1⟩:=jF a.1 ru j (h ru bO) c;obtain⟨j2,r2⟩:=fold_lt tr jF l (dq a.1 ru.1 (aM a.1 ru),true) (λx hx=>h x (bS _ hx)) j1;rw [List.foldl_cons,e];refine⟨j2,.inr ?_⟩;rcases r2 with r2 | r2
   .rw [r2];exact r1
   exact tr _ _ _ r2 r1
  have e:sstep bt a ru=a:=aA c;rw [List.foldl_cons,e];exact fold_lt tr jF l a (λx hx=>h x (bS _ hx)) j
def yV {bt:Int->Int->Bool}{aa:List av}{J:G->Prop}{r:G->G->Prop}(tr:∀a b c,r a b->r b c->r a c)
  (jF:∀g ru,J g->ru∈aa->bV bt g ru=true->J (dq g ru.1 (aM g ru))/\r (dq g ru.1 (aM g ru)) g){g:G}(h:Acc r g)(j:J g):∃n,pL bt aa n g:=by
 induction h with
 | intro g _ ih =>
  cases c:(uf bt aa g).2 with
  | false=>exact⟨0,c⟩
  | true =>
   obtain⟨j2,r2⟩:=fold_lt tr jF aa (g,false) (λ_ h=>h) j;have r3:r (uf bt aa g).1 g:=by
    rcases r2 with r2 | r2
    .have e:(uf bt aa g)=(g,false):=r2;rw [e] at c;cases c
    exact r2
   obtain⟨n,hn⟩:=ih _ r3 j2;exact⟨n+1,.inr hn⟩
def cH.keep {bt:Int->Int->Bool}{aa:List av}{J:G->Prop}(jF:∀g ru,J g->ru∈aa->bV bt g ru=true->J (dq g ru.1 (aM g ru))){g g':G}(h:cH bt aa g g')(j:J g):J g':=by
 induction h with
 | refl=>exact j
 | step _ a b ih=>exact jF _ _ ih a b
def eY (f:Str->Nat) (hs:List Str):Nat:=(hs.map f).sum
theorem xY {f k:Str->Nat}:∀{hs:List Str},(∀x∈hs,f x<=k x)->eY f hs<=eY k hs
 | [],_=>aH _
 | h::r,q=>by
  have h1:=q h bO;have h2:=xY (hs:=r) λx hx=>q x (bS _ hx);show f h+eY f r<=k h+eY k r;omega
theorem nE {f k:Str->Nat}:∀{hs:List Str}{h:Str},(∀x∈hs,f x<=k x)->h∈hs->f h < k h->eY f hs < eY k hs
 | a::r,h,q,m,l=>by
  have h1:=q a bO;have h2:∀x∈r,f x<=k x:=λx hx=>q x (bS _ hx);show f a+eY f r < k a+eY k r;rcases bN.mp m with z | z
  .have:=xY h2;rw [z] at l;omega
  have:=nE h2 z l;omega
theorem jw (g:G)(J:∀z n,g z=some n->(0:Int)<=n):∀ps:List Str,0<=(ps.map λp=>(g p).getD 0).sum
 | []=>by simp
 | p::r=>by
  have h1:=jw g J r;have h2:0<=(g p).getD 0:=by
   cases e:g p with
   | none=>exact iw _
   | some n=>exact J p n e
  rw [bL,jr];omega
def NN (g:G):Prop:=∀z n,g z=some n->(0:Int)<=n
def wR {g:G}(j:NN g)(ru:av):NN (dq g ru.1 (aM g ru)):=λz n e=>by
 unfold dq at e;by_cases c:z=ru.1
 .rw [az c] at e;cases e;have:=jw g j ru.2;unfold aM;omega
 rw [aA c] at e;exact j z n e
def bl (a b:Int):Bool:=decide (a < b)
def bg (a b:Int):Bool:=decide (a > b)
def AM (hs:List Str)(g' g:G):Prop :=
 eY (λh=>if (g' h).isSome then 0 else 1) hs < eY (λh=>if (g h).isSome then 0 else 1) hs \/
 (eY (λh=>if (g' h).isSome then 0 else 1) hs=eY (λh=>if (g h).isSome then 0 else 1) hs/\eY (λh=>((g' h).getD 0).toNat) hs < eY (λh=>((g h).getD 0).toNat) hs)
def JE (hs:List Str)(g:G):Acc (AM hs) g:=by
 have wf:=(Prod.lex (β:=Nat) (α:=Nat) ⟨(· < ·),Nat.lt_wfRel.wf⟩ ⟨(· < ·),Nat.lt_wfRel.wf⟩).wf;have key:∀p:Nat×Nat,∀g:G,(eY (λh=>if (g h).isSome then 0 else 1) hs,eY (λh=>((g h).getD 0).toNat) hs)=p->Acc (AM hs) g:=λp=>by
  induction p using wf.induction with
  | _ p ih =>
   intro g e;refine⟨g,λg' r=>ih _ ?_ g' rfl⟩;rw [<-e];rcases r with r | ⟨r1,r2⟩
   .exact Prod.Lex.left _ _ r
   show Prod.Lex _ _ (eY (λh=>if (g' h).isSome then 0 else 1) hs,_) _;rw [r1];exact Prod.Lex.right _ r2
 exact key _ g rfl
def MS (hs:List Str)(a b c:G)(h:AM hs a b)(k:AM hs b c):AM hs a c:=by
 unfold AM at *;omega
def GY {aa:List av}(g:G)(ru:av)(j:NN g)(m:ru∈aa)(f:bV bl g ru=true):NN (dq g ru.1 (aM g ru))/\AM (aa.map (·.1)) (dq g ru.1 (aM g ru)) g:=by
 refine⟨wR j ru,?_⟩;have hm:ru.1∈aa.map (·.1):=i7 m;have nn:=wR j ru;have xC:dq g ru.1 (aM g ru) ru.1=some (aM g ru):=az rfl;have ne:∀z,z≠ru.1->dq g ru.1 (aM g ru) z=g z:=λz n=>aA n;unfold bV at f;have f2:=(lQ.mp f).2;cases e:g ru.1 with
 | none =>
  refine .inl (nE (λx _=>?_) hm ?_)
  .by_cases c:x=ru.1
   .show (if (dq g ru.1 (aM g ru) x).isSome then 0 else 1)<=_;rw [c,xC];exact gI _
   show (if (dq g ru.1 (aM g ru) x).isSome then 0 else 1)<=_;rw [ne x c];exact aH _
  show (if (dq g ru.1 (aM g ru) ru.1).isSome then 0 else 1) < (if (g ru.1).isSome then 0 else 1);rw [xC,e];show 0 < 1;exact Nat.one_pos
 | some k =>
  rw [e] at f2;have lt:aM g ru < k:=dY (by simpa [bl] using f2);have h0:=nn ru.1 _ xC;refine .inr ⟨?_,nE (λx _=>?_) hm ?_⟩
  .unfold eY
   congr 1
   refine List.map_congr_left λx _=>?_;by_cases c:x=ru.1
   .show (if (dq g ru.1 (aM g ru) x).isSome then 0 else 1)=(if (g x).isSome then 0 else 1);rw [c,xC,e];rfl
   show (if (dq g ru.1 (aM g ru) x).isSome then 0 else 1)=(if (g x).isSome then 0 else 1);rw [ne x c]
  .by_cases c:x=ru.1
   .show ((dq g ru.1 (aM g ru) x).getD 0).toNat<=((g x).getD 0).toNat;rw [c,xC,e];show (aM g ru).toNat<=k.toNat;omega
   show ((dq g ru.1 (aM g ru) x).getD 0).toNat<=((g x).getD 0).toNat;rw [ne x c];exact aH _
  show ((dq g ru.1 (aM g ru) ru.1).getD 0).toNat < ((g ru.1).getD 0).toNat;rw [xC,e];show (aM g ru).toNat < k.toNat;omega
def AN (aa:List av)(g:G)(j:NN g):∃n,pL bl aa n g:=yV (MS (aa.map (·.1))) (λg ru=>GY g ru) (JE _ g) j
inductive Em (aa:List av):Str->Prop
 | mk {ru:av}:ru∈aa->(∀p∈ru.2,Em aa p)->Em aa ru.1
def tY (aa:List av)(b:Str->Int):Prop:=(∀z,0<=b z)/\∀ru∈aa,(∀p∈ru.2,Em aa p)->1+(ru.2.map b).sum<=b ru.1
def GJ (aa:List av)(b:Str->Int)(g:G):Prop:=∀z n,g z=some n->0<=n/\n<=b z/\Em aa z
theorem Bu {aa:List av}{b:Str->Int}{g:G}(j:GJ aa b g)(hb:∀z,0<=b z):∀ps:List Str,(ps.map λp=>(g p).getD 0).sum<=(ps.map b).sum
 | []=>by simp
 | p::r=>by
  have h1:=Bu j hb r;have h2:(g p).getD 0<=b p:=by
   cases e:g p with
   | none=>exact hb p
   | some n=>exact(j p n e).2.1
  rw [bL,jr,bL,jr];omega
def gm (b:Str->Int)(g:G)(h:Str):Nat:=if (g h).isSome then (b h - (g h).getD 0).toNat else (b h).toNat+1
def s_ {aa:List av}{b:Str->Int}(B:tY aa b)(g:G)(ru:av)(j:GJ aa b g)(m:ru∈aa)(f:bV bg g ru=true) :
  GJ aa b (dq g ru.1 (aM g ru))/\eY (gm b (dq g ru.1 (aM g ru))) (aa.map (·.1)) < eY (gm b g) (aa.map (·.1)):=by
 have hm:ru.1∈aa.map (·.1):=i7 m;have xC:dq g ru.1 (aM g ru) ru.1=some (aM g ru):=az rfl;have ne:∀z,z≠ru.1->dq g ru.1 (aM g ru) z=g z:=λz n=>aA n;unfold bV at f;obtain⟨f1,f2⟩:=lQ.mp f;have em:∀p∈ru.2,Em aa p:=λp hp=>by
  obtain⟨n,en⟩:=jY.mp (fO.mp f1 p hp);exact(j p n en).2.2
 have bd:=B.2 ru m em;have sb:=Bu j B.1 ru.2;have s0:=jw g (λz n e=>(j z n e).1) ru.2;have sz:0<=aM g ru/\aM g ru<=b ru.1:=by unfold aM;omega
 refine⟨λz n e=>?_,nE (λx _=>?_) hm ?_⟩
 .by_cases c:z=ru.1
  .rw [c,xC] at e;cases e;rw [c];exact⟨sz.1,sz.2,.mk m em⟩
  rw [ne z c] at e;exact j z n e
 .by_cases c:x=ru.1
  .rw [c];unfold gm;rw [xC];show (b ru.1 - aM g ru).toNat<=_;cases e:g ru.1 with
   | none=>show _<=(b ru.1).toNat+1;omega
   | some k =>
    rw [e] at f2;have lt:aM g ru > k:=dY (by simpa [bg] using f2);show _<=(b ru.1 - k).toNat;omega
  unfold gm;rw [ne x c];exact aH _
 unfold gm;rw [xC];show (b ru.1 - aM g ru).toNat < _;cases e:g ru.1 with
 | none=>show _ < (b ru.1).toNat+1;omega
 | some k =>
  rw [e] at f2;have lt:aM g ru > k:=dY (by simpa [bg] using f2);show _ < (b ru.1 - k).toNat;omega
def AY {aa:List av}{b:Str->Int}(B:tY aa b)(g:G)(j:GJ aa b g):∃n,pL bg aa n g :=
 yV (r:=λg' g=>eY (gm b g') (aa.map (·.1)) < eY (gm b g) (aa.map (·.1))) (λ_ _ _ h k=>j6 h k) (s_ B) ((InvImage.wf (λg:G=>eY (gm b g) (aa.map λx:av=>x.1)) Nat.lt_wfRel.wf).apply g) j
def yP {aa:List av}{b:Str->Int}(B:tY aa b){g g':G}(h:cH bg aa g g')(j:GJ aa b g):GJ aa b g':=h.keep (λg ru a m f=>(s_ B g ru a m f).1) j
end M11
namespace L2
open PySem
def zd {K:aR}{H:Hp}{p D:Addr}{zs:List Str}{σ:St}{v:V}{x:Str}{Qp:Hp->Prop}(hp:aG K H p (zs.map V.str))(hz:zs.length<=10000)(hD:H D=none)
  (q:∀ts H2,aD H H2->H2 D=some (.lst (ts.map V.ref))->Paired (λt h=>bf K H2 t [.str h,v]) ts zs->Qp H2) :
  CWq (jQ K p) D (dI [x] [] σ) H Qp (dP 0) ix (uc (gw (gG 0) (gw (tC v) rV))):=by
 refine bY (xs:=zs.map V.str) (λi ys σ2 H2=>∃ts:List Addr,ys=ts.map V.ref/\ts.length=i/\Paired (λt h=>bf K H2 t [.str h,v]) ts (zs.take i)/\(∃y0,σ2=[y0])/\aD H H2/\H2 D=some (.lst ys))
  ⟨[],rfl,rfl,.nil,⟨none,rfl⟩,ah hD _,ae⟩ (λi ys σ2 H2 _ h=>?_) (λi x ys σ2 H2 ex h=>?_) (λys σ2 H2 h=>?_)
 .obtain⟨_,_,_,_,_,sm,_⟩:=h;exact sm.seq hp
 .obtain⟨ts,rfl,ht,kF,⟨y0,rfl⟩,sm,hd⟩:=h;rw [bq] at ex;obtain⟨z,ez,rfl⟩:=bR.mp ex;have li:=(aY.mp ez).1;refine goN (xi ?_);refine⟨_,rfl,mq,λt jN=>⟨?_,bI (by rw [aB];omega),ts++[t],?_,?_,?_,⟨_,rfl⟩,?_,ae⟩⟩
  .rw [ai (aq hd jN)];exact hd
  .rw [bD];rfl
  .rw [cu,ht];rfl
  .rw [cY,ez];have gp:upd H2 t (.tup [.str z,v]) D=some (.lst (ts.map V.ref)):=by rw [ai (aq hd jN)];exact hd
   exact gh (Paired.ft kF λt' h' z=>a_ gp ((ah jN _).tup z)) (a_ gp (bf.of ae))
  intro b o hb;rw [ai (λz=>by rw [z,hD] at hb;cases hb)];exact ah jN _ _ _ (sm b o hb)
 obtain⟨ts,rfl,ht,kF,_,sm,hd⟩:=h;rw [aB,cE] at kF;exact q ts H2 sm hd kF
def Tab.same {T:Addr}{pos:Pos}{qual:Str}{H H':Hp}(h:Tab T pos qual H)(s:aD H H'):Tab T pos qual H':=by
 obtain⟨ps,a,b,c⟩:=h;refine⟨ps,s _ _ a,b,c.imp id ?_⟩;rintro⟨c',e,g⟩;exact⟨c',e,s _ _ g⟩
def Tab.KQ {T d:Addr}{pos:Pos}{qual:Str}{H H':Hp}{kvs:List (aK×V)}(h:Tab T pos qual H)(s:fX d H H')(hd:H d=some (.dK kvs)):Tab T pos qual H':=by
 obtain⟨ps,a,b,c⟩:=h;refine⟨ps,s _ _ (λz=>by rw [z,hd] at a;cases a) a,b,c.imp id ?_⟩;rintro⟨c',e,g⟩;exact⟨c',e,s _ _ (λz=>by rw [z,hd] at g;cases g) g⟩
structure zy (K:aR)(x qual:Str)(st:Stmt)(f:Addr)(fd:FuncData)(T:Addr):Prop where
 ex:∃(oc:Value)(od:Option Addr)(kV doc pm:Value)(an:Option Addr)(c:Addr)(ct:Value)(wN:Array (Option Value)),
  fd=PySem.W.fnOf x qual (dw st) (bQ st) (aw st) .none kV doc pm an (.ref c) ct/\K.lookup f=some ⟨oc,od,.func fd,wN⟩/\PySem.W.codeIn K (.ref c) qual=true/\PySem.W.codeHdIn K c T=true
 kp:PySem.W.keepIn K (.ref f)=true
def zy.ok {P:Program}{w:World}{K:aR}{mg:Str->Option Value}{base:Heap}{x qual:Str}{st:Stmt}{f:Addr}{fd:FuncData}{T:Addr}{N ps:List Str}{k:Nat}{sp:Sp}(F:zy K x qual st f fd T)(S:aJ N ps (aw st))(len:∀vs H Q E,sp vs H Q E->vs.length=ps.length)
  (g6:∀(c:Addr)(A:Around)(outer:List Env)(s:Shared)(H:Hp)(vs:List V)(Q:VK)(E:XK),PySem.W.codeHdIn K c T=true->dD k (A.deeper (PyProof.Rows.envOfC qual (aw st) s.heap.objs.size f (.ref c)))->sp vs H Q E ->
   ∃t,xP (dM fJ P w K mg base N qual (aw st) f (.ref c) A outer s H E).DE (bQ st) t/\t { nx:=λ_ H'=>Q .dG H',rt:=Q } (start N vs) H):bh P w K mg base fJ (k+1) f fd ps sp:=by
 obtain⟨oc,od,kV,doc,pm,an,c,ct,wN,rfl,lk,sZ,hC⟩:=F.ex;refine yS lk sZ S len λA outer s H vs Q E hr u6=>?_;obtain⟨t,h,q⟩:=g6 c A outer s H vs Q E hC hr u6;exact⟨t,h.DE,q⟩
theorem uW {v:V}:∀(hs:List Str)(bA:List (aK×V)) (as:List Str),bA.map (·.1)=as.map Sum.inr->(de (hs.map λh=>((Sum.inr h:aK),v)) bA).map (·.1)=(M11.m_ as hs).map Sum.inr
 | [],bA,as,e=>e
 | h::r,bA,as,e=>uW r (bE bA (Sum.inr h) v) (M11.gF as h) (fY.kC e h)
theorem rR {v:V}:∀(hs:List Str)(bA:List (aK×V))(z:Str),br (de (hs.map λh=>((Sum.inr h:aK),v)) bA) (Sum.inr z)=if z∈hs then some v else br bA (Sum.inr z)
 | [],bA,z=>by simp [de]
 | h::r,bA,z=>by
  have ih:=rR (v:=v) r (bE bA (Sum.inr h) v) z;show br (de (r.map λh=>((Sum.inr h:aK),v)) (bE bA (Sum.inr h) v)) (Sum.inr z)=_;rw [ih,xS];by_cases c:z∈r
  .rw [az c,az (bS _ c)]
  rw [aA c];by_cases c2:z=h
  .rw [az (by rw [c2]),az (by rw [c2];exact bO)]
  rw [aA (λe=>c2 (mf e)),aA (λe=>(bN.mp e).elim c2 c)]
end L2
namespace fY
open PySem L2 M11
def QC:List Stmt->Arguments×Expr×Scope×Pos
 | [.Return (some (.Call _ [_,_,.Lambda p b s pos] _ _)) _]=>(p,b,s,pos)
 | _=>(⟨[],[],none,[],[],none,[]⟩,.Constant .none 0 ⟨0,0,0,0⟩,aw sj,⟨0,0,0,0⟩)
abbrev sN:=QC (bQ sj)
abbrev AL:=QC (bQ wF)
abbrev zC:Str := "least_sizes" ++ ".<locals>." ++ "<lambda>"
abbrev K6:Str := "greatest_empty_sizes" ++ ".<locals>." ++ "<lambda>"
def Me:aJ ["size","known"] ["size","known"] sN.2.2.1:=iP rfl rfl rfl rfl nofun
def Mf:aJ ["size","known"] ["size","known"] AL.2.2.1:=iP rfl rfl rfl rfl nofun
section
def Au (F:hZ K "settled_sizes" "settled_sizes" nS f fd)(T:Txt mg):bh P w K mg base fJ 2 f fd ["rules","sizes","better"] (iz K zC sN.1 sN.2.1 sN.2.2.1 M11.bl) :=
 uP F T Me (λpm gr c' us hl=>match us,hl with | [_,_],_=>rfl) (λ_ _ _ _ _ _=>gS sH (pv 0) (pv 1) (cX _)) (λa b H Q h=>⟨_,rfl,_,rfl,_,_,rfl,rfl,h⟩)
def Av (F:hZ K "settled_sizes" "settled_sizes" nS f fd)(T:Txt mg):bh P w K mg base fJ 2 f fd ["rules","sizes","better"] (iz K K6 AL.1 AL.2.1 AL.2.2.1 M11.bg) :=
 uP F T Mf (λpm gr c' us hl=>match us,hl with | [_,_],_=>rfl) (λ_ _ _ _ _ _=>gS Ca (pv 0) (pv 1) (cX _)) (λa b H Q h=>⟨_,rfl,_,rfl,_,_,rfl,rfl,h⟩)
def lH (aa:List av):G:=λz=>if z∈rQ (hd aa) [] (aa.flatMap (·.2)) then some 0 else none
def qH (K:aR)(T1:Addr):Sp:=λvs H Q _=>∃(R:Addr)(rs:List Addr)(aa:List av),vs=[.ref R]/\aG K H R (rs.map V.ref)/\bz K H rs aa/\aa.length<=1000/\(∀ru∈aa,ru.2.length<=8)/\Tab T1 sN.2.2.2 zC H /\
 ∀(d:Addr)(kvs:List (aK×V)) (ks:List Str)(g:G)(H':Hp),H d=none->fX T1 H H'->Tab T1 sN.2.2.2 zC H'->H' d=some (.dK kvs)->kvs.map (·.1)=ks.map Sum.inr->(∀z,br kvs (Sum.inr z)=(g z).map V.int)->cH M11.bl aa (lH aa) g->dJ M11.bl aa g->kvs.length<=20000->Q (.ref d) H'
def IZ:aJ ["rules"] ["rules"] (aw sj):=iP rfl rfl rfl rfl nofun
def Gv {T1:Addr}(F:zy K "least_sizes" "least_sizes" sj f fd T1)(T:Txt mg)(hB:tZ mg base)(GW:aL P w K mg base 1 "words_in" ["rules"] (Bz K))
  (GS:aL P w K mg base 2 "settled_sizes" ["rules","sizes","better"] (iz K zC sN.1 sN.2.1 sN.2.2.1 M11.bl)):bh P w K mg base fJ 3 f fd ["rules"] (qH K T1):=by
 refine F.ok IZ (by and_intros) (λc A outer s H vs Q E hC hr h=>?_)
 obtain⟨R,rs,aa,rfl,hR,cT,a8,h8,hT,q⟩:=h;refine⟨_,ao (bc (bX GS hr rfl (af (pv 0) (af (aX (eh rfl) rfl T.CA fV (af
  (bx ["word"] [] rfl (aQ (bX (GW.mono (by decide:1<=2)) hr rfl (af (pv 0) ak))) (ba rfl rfl) nofun rfl nofun
   (λ_ _ _ _ _=>au (i:=0) (ndq nofun) rfl (bC rfl)) (λ_ _ _ _ _=>b9)
   (λ_ _ _ _ _=>bT (af (pv 0) (af ay ak)))) ak)) (af (F_ (T:=T1) rfl hC hB nofun) ak))))),?_⟩
 dsimp only [Eh];refine⟨_,rfl,_,rfl,R,rs,aa,rfl,hR,cT,a8,h8,λD1 H1 f1 s1 e1=>?_⟩;have lw:(rQ (hd aa) [] (aa.flatMap (·.2))).length<=8000:=by
  have h1:=wa (hd aa) (aa.flatMap (·.2)) [];have h2:=kN aa 1000 a8 h8;simp only [i6] at h1;omega
 refine⟨D1,rfl,⟨_,aG.of e1⟩,λD2 iY=>zd (aG.of e1) ∅ iY λts H2 s2 e2 p2=>?_⟩;have kp:Paired (λt (kv:aK×V)=>bf K H2 t [kV kv.1,kv.2]) ts ((rQ (hd aa) [] (aa.flatMap (·.2))).map λh=>((Sum.inr h:aK),V.int 0)):=cR p2 λ_ _ z=>z;refine⟨D2,ts,_,rfl,e2,kp,λd hd2=>?_⟩;have k1:=uW (v:=.int 0) (rQ (hd aa) [] (aa.flatMap (·.2))) [] [] rfl;have k2:∀z,br (de ((rQ (hd aa) [] (aa.flatMap (·.2))).map λh=>((Sum.inr h:aK),V.int 0)) []) (Sum.inr z)=(lH aa z).map V.int:=λz=>by
  rw [rR];unfold lH
  split <;> rfl
 have lk:=gT (rQ (hd aa) [] (aa.flatMap (·.2))) [];simp only [i6] at lk;generalize de ((rQ (hd aa) [] (aa.flatMap (·.2))).map λh=>((Sum.inr h:aK),V.int 0)) []=QH at k1 k2;have s3:=(s1.trans s2).trans (ah hd2 (.dK QH));have e3:upd H2 d (.dK QH) d=some (.dK QH):=ae;have xK:H d=none:=(s1.trans s2).free hd2;generalize upd H2 d (.dK QH)=H3 at s3 e3;refine⟨hT.same s3,λfl c' gr H4 s4 t4 ffl e4 XH=>?_⟩;have nT:d≠T1:=λz=>by
  obtain⟨ps,a,_⟩:=hT.same s3;rw [<-z,e3] at a;cases a
 have qW:=s4 d _ nT e3;have VG:∀{a xs},bf K H a xs->bf K H4 a xs:=λ{a xs} h=>by
  obtain⟨ps,b,_⟩:=hT;rcases h with (h | ⟨u,h⟩) | h
  .exact .inl (.inl (s4 _ _ (λz=>by rw [z,b] at h;cases h) (s3 _ _ h)))
  .exact .inl (.inr ⟨u,s4 _ _ (λz=>by rw [z,b] at h;cases h) (s3 _ _ h)⟩)
  exact .inr h
 have VH:∀{a xs},aG K H a xs->aG K H4 a xs:=λ{a xs} h=>by
  obtain⟨ps,b,_⟩:=hT;rcases h with (h | ⟨u,h⟩) | h
  .exact .inl (.inl (s4 _ _ (λz=>by rw [z,b] at h;cases h) (s3 _ _ h)))
  .exact .inl (.inr ⟨u,s4 _ _ (λz=>by rw [z,b] at h;cases h) (s3 _ _ h)⟩)
  exact .inr h
 refine⟨R,rs,aa,d,fl,c',_,gr,QH,_,lH aa,rfl,VH hR,cT.keep λ_ _ z=>VG z,a8,h8,qW,k1,mZ _ jJ,∅,k2,AN aa _ λz n e=>?_,e4,XH,λmJ QI g' H5 s5 e5 k5 v5 st se Zz=>?_⟩
 .unfold lH at e
  split at e
  .cases e;exact iw _
  cases e
 refine q d mJ QI g' H5 xK (λb o n hb=>s5 b o (λz=>?_) (s4 b o n (s3 b o hb))) (t4.KQ s5 qW) e5 k5 v5 st se Zz;rw [z,xK] at hb;cases hb
def wj (K:aR)(T2:Addr):Sp:=λvs H Q _=>∃(R:Addr)(rs:List Addr)(aa:List av)(b:Str->Int),vs=[.ref R]/\aG K H R (rs.map V.ref)/\bz K H rs aa/\aa.length<=1000/\(∀ru∈aa,ru.2.length<=8)/\tY aa b/\Tab T2 AL.2.2.2 K6 H /\
 ∀(d:Addr)(kvs:List (aK×V)) (ks:List Str)(g:G)(H':Hp),H d=none->fX T2 H H'->Tab T2 AL.2.2.2 K6 H'->H' d=some (.dK kvs)->kvs.map (·.1)=ks.map Sum.inr->(∀z,br kvs (Sum.inr z)=(g z).map V.int)->GJ aa b g->cH M11.bg aa (λ_=>none) g->dJ M11.bg aa g->Q (.ref d) H'
def I9:aJ ["rules"] ["rules"] (aw wF):=iP rfl rfl rfl rfl nofun
def Gx {T2:Addr}(F:zy K "greatest_empty_sizes" "greatest_empty_sizes" wF f fd T2)(hB:tZ mg base)
  (GS:aL P w K mg base 2 "settled_sizes" ["rules","sizes","better"] (iz K K6 AL.1 AL.2.1 AL.2.2.1 M11.bg)):bh P w K mg base fJ 3 f fd ["rules"] (wj K T2):=by
 refine F.ok I9 (by and_intros) (λc A outer s H vs Q E hC hr h=>?_)
 obtain⟨R,rs,aa,b,rfl,hR,cT,a8,h8,hBd,hT,q⟩:=h;refine⟨_,ao (bc (bX GS hr rfl (af (pv 0) (af gY (af (F_ (T:=T2) rfl hC hB nofun) ak))))),?_⟩;refine⟨_,rfl,λd xK=>?_⟩;have s3:=ah xK (.dK []);have e3:upd H d (.dK []) d=some (.dK []):=ae;generalize upd H d (.dK [])=H3 at s3 e3;refine⟨hT.same s3,λfl c' gr H4 s4 t4 ffl e4 XH=>?_⟩;have nT:d≠T2:=λz=>by
  obtain⟨ps,a,_⟩:=hT.same s3;rw [<-z,e3] at a;cases a
 have qW:=s4 d _ nT e3;have VG:∀{a xs},bf K H a xs->bf K H4 a xs:=λ{a xs} h=>by
  obtain⟨ps,b,_⟩:=hT;rcases h with (h | ⟨u,h⟩) | h
  .exact .inl (.inl (s4 _ _ (λz=>by rw [z,b] at h;cases h) (s3 _ _ h)))
  .exact .inl (.inr ⟨u,s4 _ _ (λz=>by rw [z,b] at h;cases h) (s3 _ _ h)⟩)
  exact .inr h
 have VH:∀{a xs},aG K H a xs->aG K H4 a xs:=λ{a xs} h=>by
  obtain⟨ps,b,_⟩:=hT;rcases h with (h | ⟨u,h⟩) | h
  .exact .inl (.inl (s4 _ _ (λz=>by rw [z,b] at h;cases h) (s3 _ _ h)))
  .exact .inl (.inr ⟨u,s4 _ _ (λz=>by rw [z,b] at h;cases h) (s3 _ _ h)⟩)
  exact .inr h
 have j0:GJ aa b (λ_=>none):=λz n e=>nomatch e;refine⟨R,rs,aa,d,fl,c',_,gr,[],[],λ_=>none,rfl,VH hR,cT.keep λ_ _ z=>VG z,a8,h8,qW,rfl,jJ,gI _,λ_=>rfl,AY hBd _ j0,e4,XH,λmJ QI g' H5 s5 e5 k5 v5 st se Zz=>?_⟩;refine q d mJ QI g' H5 xK (λb o n hb=>s5 b o (λz=>?_) (s4 b o n (s3 b o hb))) (t4.KQ s5 qW) e5 k5 v5 (yP hBd st j0) st se;rw [z,xK] at hb;cases hb
end
end fY
namespace L2
open PySem PySem.Spec PyProof.Rows
def NT (o:Obj):Nat:=match o.data with
 | .dict _ ep=>ep
 | _=>0
def SH (d:Addr)(o:Obj)(kvs:List (aK×V)):It :=
 ⟨λi H=>H d=some (.jR o (.dK kvs))/\i < kvs.length,λi H x H'=>H'=H/\∃kv,kvs[i]?=some kv/\x=kV kv.1,λi H=>H d=some (.jR o (.dK kvs))/\kvs.length<=i⟩
def A2 {X:Cx}{ag:List (Addr×Obj)}{σ:St}{H:Hp}{s:Shared}{d:Addr}{o:Obj}{kvs:List (aK×V)}(I:Inv X ag σ H s)(e:H d=some (.jR o (.dK kvs))) :
  (d == sysModules)=false/\∃vs,KV kvs vs/\s.heap.DictAt (a7 X.prog X.w) d vs (NT o):=by
 obtain⟨ho,hz,hs,vs,r,o',es,ep,h1,h2,h3,h4⟩:=(show bW X.prog X.w H s.heap d (.jR o (.dK kvs)) from I.bF d _ e);rw [ho] at h1;cases h1;refine⟨hs,vs,r,o,es,ho,h2,?_,h4⟩;unfold NT;rw [h3]
def C5 {P:Program}{w:World}{K:aR}{tg:Expr}(d it:Addr)(o:Obj)(kvs:List (aK×V)):Turn P w K tg (SH d o kvs) [it] it (λi h=>h.IsKeyIter it d i kvs.length (NT o)) where
 mem:=by simp
 obj:=λi h st b hb=>by
  have e:b=it:=by simpa using hb
  subst e;obtain⟨o,e,c,d⟩:=st;exact⟨o,e,λv z=>by rw [d] at z;cases z⟩
 keep:=λi h h' st k=>let ⟨o,e,r⟩:=st;⟨o,k it (by simp) o e,r⟩
 item:=by
  intro X hP hw hK hc i ag s σ H E I hf st hg;subst hP hw hK;obtain⟨hq,hi⟩:=hg;obtain⟨hs,vs,r,da⟩:=A2 I hq;have l:=r.length;obtain⟨kv,T9⟩:∃kv,kvs[i]?=some kv:=⟨kvs[i],c_ hi⟩;obtain⟨q,eq⟩:∃q,vs[i]?=some q:=⟨vs[i]'∅,c_ ∅⟩;have ek:kv.1=q.1:=by
   have:=congrArg (λl:List aK=>l[i]?) r.keys;simp only [bq,T9,eq] at this;exact ib this
  obtain⟨f0,f1,f2,f3,f4,f5⟩:=hf it (by simp);rw [l] at st;refine wpAny_pyNext_dict_item (k:=q.1) (v:=q.2) st da eq λkey h' hk ue sb=>?_;have I1:Inv X ag σ H { s with heap:=h' }:=I.turned (t':=s.toks) (λb o hb e=>(sb.2 b hb).trans e) f0 f1 f3 f4 f5;obtain⟨o2,e,c,dd⟩:=id ue;rw [<-l] at ue;exact⟨key,rfl,Cq (s:={ s with heap:=h' }) e c dd nofun ⟨kV kv.1,H,I1,by rw [ek];exact La hk,⟨rfl,kv,T9,rfl⟩,ue,λb hb=>(hf b hb).1⟩⟩
 done:=by
  intro X hP hw hK hc i ag s σ H E I hf st hg;subst hP hw hK;obtain⟨hq,hi⟩:=hg;obtain⟨hs,vs,r,da⟩:=A2 I hq;have l:=r.length;obtain⟨f0,f1,f2,f3,f4,f5⟩:=hf it (by simp);rw [l] at st;exact wpAny_pyNext_dict_end (I.ok.hd hc) st da (List.getElem?_eq_none ∅) λh' eb=>⟨rfl,I.turned (t':=s.toks) (λb o hb e=>eb b o hb e) f0 f1 f3 f4 f5⟩
 self:=λ_ _ _ _ _ st h=>wpAny_pyIter_keyiter st h
def QN (tl:TE):TI:=λσ H R=>tl σ H λx H1=>∃d kvs,x=.ref d/\H1 d=some (.dK kvs)/\∀o,R (SH d o kvs) (upd H1 d (.jR o (.dK kvs)))
def B2 {X:Cx}{tg l:Expr}{tl:TE}(hl:PE X l tl):PI X tg l (QN tl):=by
 intro ag s σ H R I h;refine cK (hl ag s σ H _ I h) λv s1 aS=>?_;obtain⟨x,H1,I1,r1,q1⟩:=aS;obtain⟨d,kvs,e,hd,q⟩:=q1;subst e;cases r1;obtain⟨hz,hs,vs,r,o,es,ep,h1,h2⟩:=(show bW X.prog X.w H1 s1.heap d (.dK kvs) from I1.bF d _ hd);have I2:Inv X ag σ (upd H1 d (.jR o (.dK kvs))) { s1 with heap:=s1.heap,toks:=s1.toks }:=I1.write (x:=d) (e:=d) (by rw [hd];exact True.intro) (.inl rfl) (λb u _ e=>e) ⟨o,h1⟩ ⟨h1,hz,hs,vs,r,o,es,ep,h1,h2⟩;have e2:upd H1 d (.jR o (.dK kvs)) d=some (.jR o (.dK kvs)):=ae;obtain⟨_,YZ,r2,da⟩:=A2 I2 e2;have q2:=q o;generalize upd H1 d (.jR o (.dK kvs))=H2 at I2 e2 q2;refine wpAny_pyIter_dict hs da ?_;refine⟨s1.heap.objs.size,[s1.heap.objs.size],_,_,H2,rfl,I2.kept (t':=s1.toks) λb o e=>bu _ e,C5 d _ o kvs,⟨_,cZ _ rfl,rfl,by rw [r2.length];rfl⟩,λb hb=>?_,q2⟩;have e:b=s1.heap.objs.size:=by simpa using hb
 subst e;exact I2.xj (aH _) (I2.bF.fresh (aH _))
section
variable {d D:Addr}{o:Obj}{kvs:List (aK×V)}{ts:List Str}{js:List (Nat×Str)}{g:TG}{tif:TT}{te:TE}{R:Hp->Prop}{σ:St}{H:Hp}
def tQ (Pv:Nat->List V->St->Hp->Prop)(h0:Pv 0 [] (dI ts js σ) (upd H D (.lst [])))(hl:∀i ys σ H,i<=kvs.length->Pv i ys σ H->H d=some (.jR o (.dK kvs)))
  (hs:∀i kv ys σ H,kvs[i]?=some kv->Pv i ys σ H->g (kV kv.1) σ H λσ2 H2=>tif σ2 H2 λb H3=>if b=true then te σ2 H3 λy H4=>H4 D=some (.lst ys)/\ys.length < sizeLine/\Pv (i+1) (ys++[y]) σ2 (upd H4 D (.lst (ys++[y]))) else Pv (i+1) ys σ2 H3)
  (hd:∀ys σ H,Pv kvs.length ys σ H->R H) :
  CWq (SH d o kvs) D (dI ts js σ) H R g tif te:=by
 refine⟨λi m ys σ H=>m=kvs.length - i/\i<=kvs.length/\Pv i ys σ H,⟨kvs.length,by simp,gI _,h0⟩,?_⟩;rintro i m ys σ' H ⟨rfl,hi,p⟩;have q:=hl i ys σ' H hi p;by_cases iF:i < kvs.length
 .refine .inr ⟨⟨q,iF⟩,kvs.length - (i+1),∅,λx H' y=>?_⟩;obtain⟨e,kv,T9,rfl⟩:=y;subst e;have z:=hs i kv ys σ' _ T9 p;have h1:(i+1<=kvs.length)=True:=eq_true iF;simp only [h1,true_and];exact z
 have e:i=kvs.length:=by omega
 subst e;exact .inl ⟨⟨q,aH _⟩,hd ys σ' H p⟩
end
def vd {A:Around}{s:Shared}{l b:Addr}{ys xs:List Int}{aN gP:List Value}(r:aV (ys.map V.int) aN)(r2:aV (xs.map V.int) gP)(hl:s.heap.IsList l aN.toArray)(hb:s.heap.IsList b gP.toArray)(ne:l≠b)(hu:A.units < cLine) :
  SeqAt.EqAt A s (.ref l) (.ref b) (decide (ys=xs)):=by
 have l1:=r.length;have l2:=r2.length;rw [aB] at l1 l2;by_cases a8:ys.length=xs.length
 .have h:=SeqAt.RcAt.lists (A:=A) (e:=λj=>decide (ys[j]?=xs[j]?)) hl hb (by simp only [bJ];omega) hu λj h1 h2=>?_
  .have e:((List.range aN.toArray.size).all λj=>decide (ys[j]?=xs[j]?))=decide (ys=xs):=by
    rw [jU,fO,decide_eq_true_iff];constructor
    .intro h;refine List.ext_getElem? λj=>?_;by_cases c:j < ys.length
     .exact dY (h j (jT.mpr (by simp only [bJ];omega)))
     rw [List.getElem?_eq_none ∅,List.getElem?_eq_none ∅]
    intro h j _;rw [h];exact cw rfl
   rw [e] at h;exact .of_refs ne h
  have k1:j < aN.length:=by simpa using h1
  have k2:j < gP.length:=by simpa using h2
  have e1:ys[j]?=some (ys[j]'∅):=c_ ∅;have e2:xs[j]?=some (xs[j]'∅):=c_ ∅;obtain⟨u1,f1,q1⟩:=r.get (show (ys.map V.int)[j]?=some (.int (ys[j]'∅)) by rw [bq,e1];rfl);obtain⟨u2,f2,q2⟩:=r2.get (show (xs.map V.int)[j]?=some (.int (xs[j]'∅)) by rw [bq,e2];rfl);have g1:aN.toArray[j]=u1:=by
   have:=(aY.mp f1).2;simpa using this
  have g2:gP.toArray[j]=u2:=by
   have:=(aY.mp f2).2;simpa using this
  rw [g1,g2,e1,e2];obtain⟨t1,rfl⟩:=q1;obtain⟨t2,rfl⟩:=q2;have:=SeqAt.EqAt.int_int (A:=A.in1) (s:=s) (ys[j]'∅) t1 (xs[j]'∅) t2;have e3:(ys[j]'∅ == xs[j]'∅)=decide (some (ys[j]'∅)=some (xs[j]'∅)):=by
   rw [jU,beq_iff_eq,decide_eq_true_iff,Option.some.injEq]
  rw [e3] at this;exact this
 have h:=SeqAt.RcAt.lists_lengths (A:=A) hl hb (by simp only [bJ,bne_iff_ne];omega) hu;rw [dO (λz=>a8 (by rw [z]))];exact .of_refs ne h
def Dn {X:Cx}(hu:X.A.units+1 < cLine):md X (compareOp .In) (λx y H Q=>∃t a l1 l2 xs ys zs,x=.ref a/\y=.ref t/\bf X.K H t [.ref l1,.ref l2]/\aG X.K H a (List.map V.int xs)/\aG X.K H l1 (List.map V.int ys)/\aG X.K H l2 (List.map V.int zs)/\l1≠a/\l2≠a /\
  Q (.bl (decide (ys=xs) || decide (zs=xs))) H):=by
 intro ag s σ H x y v u Q I rx ry h;obtain⟨t,a,l1,l2,xs,ys,zs,rfl,rfl,ht,ha,h1,h2,n1,n2,q⟩:=h;cases rx;cases ry;obtain⟨aN,r,pl,hz⟩:=I.tuple ht;obtain⟨u1,u2,rfl,q1,q2⟩:=vals2 r;cases (show u1=Value.ref l1 from q1);cases (show u2=Value.ref l2 from q2);obtain⟨xa,ra,pa,za⟩:=I.list ha;obtain⟨x1,r1,p1,z1⟩:=I.list h1;obtain⟨x2,r2,p2,z2⟩:=I.list h2;have e1:=vd (A:=X.A.in1) (s:=s) r1 ra p1.isList pa.isList n1 hu;have e2:=vd (A:=X.A.in1) (s:=s) r2 ra p2.isList pa.isList n2 hu;refine SeqAt.in_tupleAt (λy=>if y == .ref l1 then decide (ys=xs) else decide (zs=xs)) (show s.heap.IsTuple t #[.ref l1,.ref l2] from pl) (λy hy=>?_) ?_
 .have hy':y=.ref l1\/y=.ref l2:=by simpa using hy
  by_cases c:y=.ref l1
  .subst c;rw [az (kb _)];exact e1
  rcases hy' with z | z
  .exact absurd z c
  subst z;rw [aA (λq=>c (eq_of_beq q))];exact e2
 refine⟨.bl (decide (ys=xs) || decide (zs=xs)),H,I,?_,q⟩
 show Value.bool _=Value.bool _
 congr 1
 by_cases c:l2=l1
 .subst c;have e3:=I.sO h1 h2;have e4:ys=zs:=by
   have:=congrArg (List.map λv:V=>match v with | .int n=>n | _=>0) e3
   simpa [i4,Function.comp_def] using this
  subst e4;simp
 simp [c]
end L2
namespace M11
open PySem L2
def zH (b:Str->Bool) (zs:List Str) (i:Nat):List Int:=((List.range i).filter λj=>!(zs[j]?.elim true b)).map λj:Nat=>(j:Int)
def yT (b:Str->Bool) (zs:List Str) (i:Nat){z:Str}(e:zs[i]?=some z):zH b zs (i+1)=zH b zs i++(if b z=true then [] else [(i:Int)]):=by
 unfold zH;rw [List.range_succ,pR,bD]
 congr 1
 by_cases h:b z=true
 .rw [az h];simp [e,h]
 rw [aA h];simp [e,h]
def Ka (b:Str->Bool) (zs:List Str) (i:Nat):(zH b zs i).length<=i:=by
 unfold zH;rw [aB];have:=i9 (λj=>!(zs[j]?.elim true b)) (List.range i);rw [rG] at this;exact this
def wY (b:Str->Bool) (zs:List Str) (j:Nat):Bool:=decide ([]=zH b zs zs.length) || decide ([(j:Int)]=zH b zs zs.length)
def Kz (aa:List av) (names:List Str)(b:Str->Bool)(n:Str) (k j:Nat):Prop:=∃ru z,aa[k]?=some ru/\ru.1=n/\ru.2[j]?=some z/\z∈names/\wY b ru.2 j=true
end M11
namespace L2
open PySem M11
def jn (p:Str×Addr):aK×V:=(Sum.inr p.1,.ref p.2)
theorem oy:∀(ps bA:List (aK×V)),((bA++ps).map (·.1)).Nodup->de ps bA=bA++ps
 | [],bA,_=>by simp [de]
 | p::r,bA,h=>by
  have n:br bA p.1=none:=by
   cases e:br bA p.1 with
   | none=>rfl
   | some v =>
    have hm:=(d5 bA p.1).mp (by rw [e];rfl);rw [bD,bL] at h;exact absurd rfl ((lL.mp h).2.2 p.1 hm p.1 bO)
  show de r (bE bA p.1 p.2)=_;rw [ym p.2 n,oy r (bA++[(p.1,p.2)]) (by rw [rD];exact h),rD];rfl
theorem gM:∀(ps:List (Str×Addr)),(ps.map (·.1)).Nodup->∀p∈ps,br (ps.map jn) (Sum.inr p.1)=some (.ref p.2)
 | q::r,h,p,hp=>by
  rw [bL] at h ⊢;rcases bN.mp hp with z | z
  .rw [z];exact eF rfl
  rw [eG,gM r (jV.mp h).2 p z];intro e;have e':q.1=p.1:=mf e;exact(jV.mp h).1 (by rw [e'];exact i7 z)
def n_ (ps:List (Str×Addr)):(ps.map jn).map (·.1)=(ps.map (·.1)).map Sum.inr:=by
 rw [i4,i4];rfl
def tP {K:aR}{H:Hp}{p D:Addr}{zs:List Str}{σ:St}{x:Str}{Qp:Hp->Prop}(hp:aG K H p (zs.map V.str))(hz:zs.length<=10000)(hD:H D=none)
  (q:∀ts (ps:List (Str×Addr)) H2,aD H H2->H2 D=some (.lst (ts.map V.ref))->ps.map (·.1)=zs->Paired (λt (p:Str×Addr)=>bf K H2 t [.str p.1,.ref p.2]) ts ps->(∀p∈ps,H2 p.2=some (.lst [])/\H p.2=none/\p.2≠D)->(ps.map (·.2)).Nodup->Qp H2) :
  CWq (jQ K p) D (dI [x] [] σ) H Qp (dP 0) ix (uc (gw (gG 0) (gw (Pn rV) rV))):=by
 refine bY (xs:=zs.map V.str) (λi ys σ2 H2=>∃(ts:List Addr)(ps:List (Str×Addr)),ys=ts.map V.ref/\ts.length=i/\ps.map (·.1)=zs.take i/\Paired (λt (p:Str×Addr)=>bf K H2 t [.str p.1,.ref p.2]) ts ps /\
   (∀p∈ps,H2 p.2=some (.lst [])/\H p.2=none/\p.2≠D)/\(ps.map (·.2)).Nodup/\(∃y0,σ2=[y0])/\aD H H2/\H2 D=some (.lst ys))
  ⟨[],[],rfl,rfl,rfl,.nil,by simp,by simp,⟨none,rfl⟩,ah hD _,ae⟩ (λi ys σ2 H2 _ h=>?_) (λi x ys σ2 H2 ex h=>?_) (λys σ2 H2 h=>?_)
 .obtain⟨_,_,_,_,_,_,_,_,_,sm,_⟩:=h;exact sm.seq hp
 .obtain⟨ts,ps,rfl,ht,hm,kF,hl,hn,⟨y0,rfl⟩,sm,hd⟩:=h;rw [bq] at ex;obtain⟨z,ez,rfl⟩:=bR.mp ex;have li:=(aY.mp ez).1;refine goN (xi ?_);refine⟨_,rfl,rP,λl qV=>⟨mq,λt jN=>?_⟩⟩;have Qj:l≠D:=(aq hd qV).symm;have nt:t≠l:=λe=>by rw [e,ae] at jN;cases jN
  have QU:H2 t=none:=by rw [ai nt] at jN;exact jN
  have ntD:t≠D:=(aq hd QU).symm;have wm:aD H2 (upd (upd H2 l (.lst [])) t (.tup [.str z,.ref l])):=(ah qV _).trans (ah jN _);have gp:=wm _ _ hd;have el:upd (upd H2 l (.lst [])) t (.tup [.str z,.ref l]) l=some (.lst []):=by rw [ai nt.symm,ae]
  have et:bf K (upd (upd H2 l (.lst [])) t (.tup [.str z,.ref l])) t [.str z,.ref l]:=bf.of ae;generalize upd (upd H2 l (.lst [])) t (.tup [.str z,.ref l])=H4 at wm gp el et;refine⟨gp,bI (by rw [aB];omega),ts++[t],ps++[(z,l)],by rw [bD];rfl,by rw [cu,ht];rfl,by rw [bD,hm,cY,ez];rfl,?_,?_,?_,⟨_,rfl⟩,?_,ae⟩
  .exact gh (Paired.ft kF λt' h' z=>a_ gp (wm.tup z)) (a_ gp et)
  .intro p' l8;rcases bZ.mp l8 with h | h
   .obtain⟨a1,a2,a3⟩:=hl p' h;exact⟨by rw [ai a3];exact wm _ _ a1,a2,a3⟩
   rw [cJ.mp h];exact⟨by rw [ai Qj];exact el,sm.free qV,Qj⟩
  .rw [bD];refine lL.mpr ⟨hn,by simp,λa ha b hb e=>?_⟩;rw [o8,cJ] at hb;obtain⟨p',l8,rfl⟩:=cN.mp ha;have:=(hl p' l8).1;rw [e,hb] at this;rw [show H2 l=none from qV] at this;cases this
  intro b o hb;rw [ai (λz=>by rw [z,hD] at hb;cases hb)];exact wm _ _ (sm b o hb)
 obtain⟨ts,ps,rfl,ht,hm,kF,hl,hn,_,sm,hd⟩:=h;rw [aB,cE] at hm;exact q ts ps H2 sm hd hm kF hl hn
def zg {K:aR}{H:Hp}{p D d:Addr}{zs:List Str}{kvs:List (aK×V)}{σ:St}{js:List (Nat×Str)}{Qp:Hp->Prop}(hσ:dI ["place","part"] js σ=[none,none,bj d])(hp:bf K H p (zs.map V.str))(hz:zs.length<=1000)
  (hd:H d=some (.dK kvs))(hD:H D=none)(q:∀H2,aD H H2->H2 D=some (.lst ((zH (λz=>(br kvs (Sum.inr z)).isSome) zs zs.length).map V.int))->Qp H2) :
  CWq (tW K p) D (dI ["place","part"] js σ) H Qp (D_ K 2 (kI (dP 0) (kI (dP 1) Hq))) (tB (Br (gG 1) (gG 2))) (gG 0):=by
 refine zj (xs:=zs.map V.str) (λi ys σ2 H2=>ys=(zH (λz=>(br kvs (Sum.inr z)).isSome) zs i).map V.int/\(∃y0 y1,σ2=[y0,y1,bj d])/\aD H H2/\H2 D=some (.lst ys))
  ⟨rfl,⟨none,none,hσ⟩,ah hD _,ae⟩ (λi ys σ2 H2 _ h=>h.2.2.1.tup hp) (λi x ys σ2 H2 t ex h ht=>?_) (λys σ2 H2 h=>?_)
 .obtain⟨rfl,⟨y0,y1,rfl⟩,sm,hd2⟩:=h;rw [bq] at ex;obtain⟨z,ez,rfl⟩:=bR.mp ex;have li:=(aY.mp ez).1;have wm:=sm.trans (ah ht (.tup [.int (i:Int),.str z]));have gp:upd H2 t (.tup [.int (i:Int),.str z]) D=some (.lst ((zH (λz=>(br kvs (Sum.inr z)).isSome) zs i).map V.int)):=by rw [ai (aq hd2 ht)];exact hd2
  have hv:bf K (upd H2 t (.tup [.int (i:Int),.str z])) t [.int (i:Int),.str z]:=bf.of ae;generalize upd H2 t (.tup [.int (i:Int),.str z])=H3 at wm gp hv;have fl:=Ka (λz=>(br kvs (Sum.inr z)).isSome) zs i;refine⟨t,_,rfl,hv,rfl,_,_,rfl,_,_,rfl,rfl,?_⟩;refine⟨_,rfl,_,rfl,d,_,rfl,cC.k (k:=Sum.inr z) (wm _ _ hd),_,rfl,?_⟩;refine d_ (λc=>?_) (λc=>?_)
  .refine⟨_,rfl,gp,bI (by rw [aB];omega),?_,⟨_,_,rfl⟩,?_,ae⟩
   .rw [yT _ zs i ez,aA (λe=>by rw [e] at c;exact absurd c nofun),bD];rfl
   intro b o hb;rw [ai (λz=>by rw [z,hD] at hb;cases hb)];exact wm b o hb
  refine⟨?_,⟨_,_,rfl⟩,wm,gp⟩;rw [yT _ zs i ez,az,gJ];cases hq:(br kvs (Sum.inr z)).isSome with
  | true=>rfl
  | false=>exact absurd (by rw [hq];rfl) c
 obtain⟨rfl,_,sm,hd2⟩:=h;rw [aB] at hd2;exact q H2 sm hd2
open PySem PySem.Spec PyProof.Rows
def ik {X:Cx}{elt iter tg:Expr}{iy:Nat}{y:Str}{py PK:Pos}{ifs:List Expr}{scope:Scope}{pos:Pos}{wi:TI}{g:TG}{tif:TT}{te:TE}(ts:List Str)(js:List (Nat×Str))(hN:X.N.Nodup)(hiy:X.N[iy]?=some y)(hy:X.env.scope.names.lookup y=some .local)(hc:X.calm=true)(hi:PI X tg iter wi)
  (cp:KC X scope js)(jh:∀y∈scope.names,y.2≠.cell)(jf:scope.kind=.function)
  (AW:∀y∈scope.names,y.2=.local->scope.names.lookup y.1=some .local)
  (hg:∀cl C s1 H1 fp,PG (tL X scope cl C s1 H1 (ts++js.map (·.2)) fp) tg g)
  (WN:∀cl C s1 H1 fp,EA (tL X scope cl C s1 H1 (ts++js.map (·.2)) fp) ifs tif)(he:∀cl C s1 H1 fp,PE (tL X scope cl C s1 H1 (ts++js.map (·.2)) fp) elt te)
  (hsw:swapsWith (.ListComp elt [⟨tg,iter,ifs,0⟩] scope pos) (some (.Name y py)) PK.line X.env=pure true:=by rfl)(hs:∀x,foldedSetIterable iter X.env x=pure x:=by intro _;rfl) :
  PS X (.Assign [.Name y py] (.ListComp elt [⟨tg,iter,ifs,0⟩] scope pos) PK) (Mb (Fe wi ts js g tif te) (dP iy)):=by
 intro ag s σ H DD I h;rw [exec_Assign_Name_used _ _ _ _ hsw];refine ax (mi (ax ?_));show wpAny _ _ (do let _ <-comprehension (.ListComp elt [⟨tg,iter,ifs,0⟩] scope pos) scope X.env _ (newList []) false (eval iter X.env) (some (assign (.Name y py) X.env))) _ _ s;obtain⟨cl,nq⟩:=xw (env:=X.env) (scope:=scope) λy hy=>I.ok.has y (.inl (cp.all y hy));refine ax (cv (wpAny_comprehension_free (use:=some (assign (.Name y py) X.env)) (Q:=λ_ s'=>SP X ag DD .next s') rfl hs nq.eq jf AW (cK (hi ag s σ H _ I h) λv s1 h1=>cK h1 λTw s2 h2=>?_)) (λ_ s' hq=>aI (aI hq)) λ_ _ e=>e);obtain⟨it,fp,tn,J,H2,e,I2,T,Im,f2,h2⟩:=h2;subst e;obtain⟨W,⟨m0,w0⟩,turn⟩:=h2 s2.heap.objs.size I2.fresh;have Hh:∀b∈fp,b < s2.heap.objs.size:=λb hb=>by obtain⟨o,e,_⟩:=T.obj _ _ Im b hb;exact aO e
 refine jW (wpAny_newFunctionEnv jh (by intro y hy;simp at hy) (λh₁ AV w6=>?_) jf);dsimp only at AV w6 ⊢;generalize NC:s2.heap.push { cls:=.type "list",dict:=none,data:=.seq ([]:List Value).toArray }=G2 at AV w6 ⊢;have JX:G2.objs.size=s2.heap.objs.size+1:=by rw [<-NC,j7]
 have Xe:s2.heap.objs.size≠G2.objs.size:=by rw [JX];exact bw (ny _)
 have old:∀b o,s2.heap.get? b=some o->h₁.get? b=some o:=λb o e =>
  w6.extBut b o (by rw [JX];exact bw (rH (aO e))) (bu _ (NC ▸ bu _ e))
 have DY:h₁.get? s2.heap.objs.size=some { cls:=.type "list",data:=.seq ([]:List Value).toArray 0 }:=w6.extBut _ _ Xe (bu _ (NC ▸ cZ _ rfl));generalize oo:tL X scope cl G2.objs.size s2 H2 (ts++js.map (·.2)) fp=X2;have I4:Inv X2 [] (dI ts js σ) (upd H2 s2.heap.objs.size (.lst [])) { s2 with heap:=h₁,toks:=s2.toks+([]:List (Str×Value)).length }:=by
  rw [<-oo];exact uZ I2 f2 Hh jf jh cp nq (by rw [JX];exact ny _) rfl rfl old AV DY
 have x1:X2.prog=X.prog:=by rw [<-oo];rfl
 have x2:X2.w=X.w:=by rw [<-oo];rfl
 have x3:X2.K=X.K:=by rw [<-oo];rfl
 have x4:X2.calm=true:=by rw [<-oo];exact hc
 have x5:X2.A=X.A:=by rw [<-oo];rfl
 have x6:X2.env=compEnvC scope cl G2.objs.size X.env:=by rw [<-oo];rfl
 have x7:X2.xe=λ_ _=>False:=by rw [<-oo];rfl
 have WQ:PG X2 tg g:=by rw [<-oo];exact hg _ _ _ _ _
 have Np:EA X2 ifs tif:=by rw [<-oo];exact WN _ _ _ _ _
 have zF:PE X2 elt te:=by rw [<-oo];exact he _ _ _ _ _
 have PH:tn 0 h₁:=T.keep _ _ _ Im λb _ o e=>old b o e;have rY:∀{H':Hp}{jM:List (Addr×Obj)},(∀b∈fp,H' b=none)->(∀p∈jM,p.1∉fp)->∀b∈fp,xH X2 jM H' b:=λ{H' jM} hn hp b hb=>by
  have o4:=I4.ok;subst oo;exact⟨hn b hb,(o4.NS b hb).1,o4.A3 b hb,.inl hb,(o4.NS b hb).2,λp l8=>by
   have AU:p∈([]:List (Addr×Obj))++jM:=l8;rw [j_] at AU;intro z;exact hp p AU (by rw [z];exact hb)⟩
 have fin:∀{s':Shared}{σ':St}{H':Hp},Inv X2 [] σ' H' s'->DD.nx (σ.set iy (some (.ref s2.heap.objs.size))) H' ->
   compPost (model X.prog X.w) X.A X.xe (some (assign (.Name y py) X.env)) (λ_ s'=>SP X ag DD .next s') (.ref s2.heap.objs.size) G2.objs.size (.ok .next) s':=λ{s' σ' H'} J' q=>by
  subst oo;obtain⟨m',Ni,_⟩:=J'.loc;have I5:Inv X ag σ H' s':=I2.CD (s':=s') J'.os J'.base J'.bF J'.bare λb hb=>by
   obtain⟨_,f1,_,f3,f4,f5⟩:=f2 b hb;exact⟨f3,f1,f4,f5⟩
  obtain⟨f0,f1,_,f3,f4,f5⟩:=I2.xj (H':=H') (b:=G2.objs.size) (by rw [JX];exact iG _) J'.free;show wpAny _ _ (assign (.Name y py) X.env (.ref s2.heap.objs.size)) _ _ s';refine wpAny_assign_Name (uC I5 hN hiy (.inl hy) (v:=.ref s2.heap.objs.size) rfl (λFO I6 aS=>?_) (.inr hy));obtain⟨a,sb,ha⟩:=aS;have nCa:G2.objs.size≠a:=by
   rcases ha with ha | ha
   .rw [ha];exact f1
   exact(f4 _ _ ha).symm
  refine⟨m',Ni.sameBut sb nCa,λh' OK=>?_⟩;exact⟨_,H',I6.turned (t':=FO.toks) (λb o hb e=>(OK.2 b hb).trans e) f0 f1 f3 f4 f5,q⟩
 have loop:∀s₃:Shared,s₃={ s2 with heap:=h₁,toks:=s2.toks+([]:List (Str×Value)).length } ->
   codeAny (model X.prog X.w) X.A (.compLoop (.ListComp elt [⟨tg,iter,ifs,0⟩] scope pos) 0 (.ref it) (.ref s2.heap.objs.size) (compEnvC scope cl G2.objs.size X.env))
    (compPost (model X.prog X.w) X.A X.xe (some (assign (.Name y py) X.env)) (λ_ s'=>SP X ag DD .next s') (.ref s2.heap.objs.size) G2.objs.size) s₃:=by
  rintro s₃ rfl;subst oo;refine qg (λn s'=>∃i ys σ' H',Inv (tL X scope cl G2.objs.size s2 H2 (ts++js.map (·.2)) fp) [] σ' H' s'/\tn i s'.heap/\(∀b∈fp,H' b=none)/\W i n ys σ' H') ?_ m0
   ⟨0,[],_,_,I4,PH,λb hb=>by rw [ai (bw (Hh b hb))];exact(f2 b hb).1,w0⟩
  rintro n s' ⟨i,ys,σ0,H',J',ue,RK,w'⟩;rcases turn i n ys σ0 H' w' with ⟨stop,q⟩ | ⟨go,m',hm,step⟩
  .refine cv (T.done (tL X scope cl G2.objs.size s2 H2 (ts++js.map (·.2)) fp) rfl rfl rfl hc i [] s' _ H' (λ_ _=>False) J' (rY RK (by simp)) ue stop) (λr s4 ⟨hr,J4⟩=>?_) λ_ _ z=>z;subst hr;exact fin J4 q
  refine cv (T.item (tL X scope cl G2.objs.size s2 H2 (ts++js.map (·.2)) fp) rfl rfl rfl hc i [] s' _ H' (λ_ _=>False) J' (rY RK (by simp)) ue go) (λr s4 ⟨u,hr,h4⟩=>?_) λ_ _ z=>z;subst hr;refine cv h4 (λ_ s5 aS=>?_) λ_ _ z=>z;obtain⟨xv,H5,J5,r5,y5,x8,RJ⟩:=aS;have YJ:=J5.pinned (rY RJ (by simp)) (T.obj _ _ x8);have back:∀{s7:Shared}{σ7:St}{H7:Hp},Inv (tL X scope cl G2.objs.size s2 H2 (ts++js.map (·.2)) fp) ([]++pz fp s5.heap) σ7 H7 s7->Inv (tL X scope cl G2.objs.size s2 H2 (ts++js.map (·.2)) fp) [] σ7 H7 s7/\tn (i+1) s7.heap/\∀b∈fp,H7 b=none:=λ{s7 σ7 H7} J7=>by
   refine⟨J7.ki,T.keep _ _ _ x8 λb hb o e=>(J7.pin (b,o) (fP _ (fP _ (gO hb e)))).1,λb hb=>?_⟩;obtain⟨o,e,d⟩:=T.obj _ _ x8 b hb;exact(J7.pin (b,o) (fP _ (fP _ (gO hb e)))).2.1
  show wpAny _ _ (assign tg (tL X scope cl G2.objs.size s2 H2 (ts++js.map (·.2)) fp).env u) _ _ s5;refine cv (WQ _ s5 _ H5 xv u _ YJ r5 (step xv H5 y5)) (λ_ s6 aS=>?_) λ_ _ z=>z;obtain⟨σ6,H6,J6,q6⟩:=aS;refine cv (Np _ s6 _ H6 _ J6 q6) (λb s7 aS=>?_) λ_ _ z=>z;obtain⟨H7,J7,q7⟩:=aS;cases b with
  | false =>
   rw [aA dB] at q7 ⊢;obtain⟨J8,UY,Xl⟩:=back J7;exact⟨m',hm,i+1,ys,σ6,H7,J8,UY,Xl,q7⟩
  | true =>
   rw [az rfl] at q7 ⊢;refine cv (zF _ s7 _ H7 _ J7 q7) (λyv s8 aS=>?_) λ_ _ z=>z;obtain⟨y,H8,J8,r8,JW,QP,w8⟩:=aS;refine cv (cq (X:=tL X scope cl G2.objs.size s2 H2 (ts++js.map (·.2)) fp) _ s8 _ H8 (.ref s2.heap.objs.size) [y] (.ref s2.heap.objs.size) [yv] (λv H'=>W (i+1) m' (ys++[y]) σ6 H') J8 rfl (.cons r8 .nil) ⟨s2.heap.objs.size,ys,y,rfl,rfl,JW,QP,w8⟩)
    (λ_ s9 ⟨_,H9,J9,_,w9⟩=>?_) λ_ _ z=>z
   obtain⟨YK,Mc,NM⟩:=back J9;exact⟨m',hm,i+1,ys++[y],σ6,H9,YK,Mc,NM,w9⟩
 exact codeAny_compStart_list (loop _ rfl) (T.self _ _ _ _ _ PH (loop _ rfl))
end L2
namespace fY
open PySem L2 M11
section
def wU {l:List Str}(h:l.Nodup):(l.map (Sum.inr:Str->aK)).Nodup:=List.Pairwise.map _ (λa b hab e=>hab (mf e)) h
structure ES (K:aR)(ps:List (Str×Addr))(st:Str->List (Nat×Nat))(H:Hp)(d:Addr):Prop where
 hd:Rd H d (.dK (ps.map jn))
 n1:(ps.map (·.1)).Nodup
 n2:(ps.map (·.2)).Nodup
 lst:∀p∈ps,∃ts,H p.2=some (.lst (ts.map V.ref))/\Paired (λt (e:Nat×Nat)=>bf K H t [.int (e.1:Int),.int (e.2:Int)]) ts (st p.1)
def Rd.same {H H':Hp}{a:Addr}{u:HO}(h:Rd H a u)(s:aD H H'):Rd H' a u:=h.elim (λz=>.inl (s _ _ z)) λ⟨o,z⟩=>.inr ⟨o,s _ _ z⟩
theorem ES.same {ps:List (Str×Addr)}{st:Str->List (Nat×Nat)}{H H':Hp}{d:Addr}(h:ES K ps st H d)(s:aD H H'):ES K ps st H' d :=
 ⟨Rd.same h.hd s,h.n1,h.n2,λp hp=>let ⟨ts,a,b⟩:=h.lst p hp;⟨ts,s _ _ a,Paired.ft b λ_ _ z=>s.tup z⟩⟩
def vx (st:Str->List (Nat×Nat))(n:Str)(e:Nat×Nat):Str->List (Nat×Nat):=λz=>if z=n then st z++[e] else st z
def ES.more {ps:List (Str×Addr)}{st:Str->List (Nat×Nat)}{H:Hp}{d:Addr}(h:ES K ps st H d){p:Str×Addr}(hp:p∈ps){ts:List Addr}{t:Addr}{e:Nat×Nat}(a:H p.2=some (.lst (ts.map V.ref)))
  (b:Paired (λt (e:Nat×Nat)=>bf K H t [.int (e.1:Int),.int (e.2:Int)]) ts (st p.1))(c:bf K H t [.int (e.1:Int),.int (e.2:Int)]) :
  ES K ps (vx st p.1 e) (upd H p.2 (.lst (ts.map V.ref++[.ref t]))) d:=by
 have nd:d≠p.2:=λz=>by
  rcases h.hd with q | ⟨o,q⟩
  .rw [z,a] at q;cases q
  rw [z,a] at q;cases q
 refine⟨?_,h.n1,h.n2,λp' l8=>?_⟩
 .rcases h.hd with q | ⟨o,q⟩
  .exact .inl (by rw [ai nd];exact q)
  exact .inr ⟨o,by rw [ai nd];exact q⟩
 by_cases z:p'=p
 .rw [z];refine⟨ts++[t],by rw [ae,bD];rfl,?_⟩;have e1:vx st p.1 e p.1=st p.1++[e]:=az rfl;rw [e1];exact gh (Paired.ft b λ_ _ z=>a_ a z) (a_ a c)
 have n1:p'.1≠p.1:=λq=>z (by
  have w1:=gM ps h.n1 p' l8;have w2:=gM ps h.n1 p hp;rw [q,w2] at w1;injection w1 with w3;injection w3 with w4;exact Prod.ext q w4.symm)
 have n2:p'.2≠p.2:=λq=>by
  obtain⟨i,hi,ei⟩:=pU.mp l8;obtain⟨j,hj,ej⟩:=pU.mp hp;have Cm:i=j:=by
   refine(rp (xs:=ps.map (·.2)) (h₀:=by simpa using hi) (h₁:=by simpa using hj) h.n2).mp ?_;rw [oX,oX,ei,ej];exact q
  subst Cm;exact z (ei.symm.trans ej)
 obtain⟨Ot,a',b'⟩:=h.lst p' l8;refine⟨Ot,by rw [ai n2];exact a',?_⟩;have e1:vx st p.1 e p'.1=st p'.1:=aA n1;rw [e1];exact Paired.ft b' λ_ _ z=>a_ a z
def BE (K:aR):Sp:=λvs H Q _=>∃(R:Addr)(rs:List Addr)(aa:List av),vs=[.ref R]/\aG K H R (rs.map V.ref)/\bz K H rs aa/\aa.length<=1000/\(∀ru∈aa,ru.2.length<=8) /\
 ∀(d:Addr)(ps:List (Str×Addr))(st:Str->List (Nat×Nat))(aP:List (Str×Nat))(H':Hp),H d=none->aD H H'->H' d=some (.dK (ps.map jn))->ES K ps st H' d->ps.map (·.1)=hd aa->(∀p∈ps,H p.2=none)->qC aa aP->nj aa aa.length aP ->
  (∀n k j,n∈hd aa->((k,j)∈st n↔Kz aa (hd aa) (λz=>decide (z∈aP.map (·.1))) n k j))->Q (.ref d) H'
def iK:aJ ["rules","empty","steps","number","rule","place","part","filled"] ["rules"] (aw z7):=iP rfl rfl rfl rfl nofun
def Gm (F:hZ K "steps_with_like_rows" "steps_with_like_rows" z7 f fd)(T:Txt mg)(GE:aL P w K mg base 1 "found_empties" ["rules"] (pd K))(GH:aL P w K mg base 1 "heads_of" ["rules"] (kT K)):bh P w K mg base fJ 2 f fd ["rules"] (BE K):=by
 refine F.ok iK (by and_intros) (λdN A outer s H vs Q E hr h=>?_)
 obtain⟨R,rs,aa,rfl,hR,cT,a8,h8,q⟩:=h;have hu:=gk hr;refine⟨_,aj (aF (i:=1) iK.nd rfl (Or.inr rfl) (aX (eh rfl) rfl T.CA fV (af (bX GE hr rfl (af (pv 0) ak)) ak)))
  (aj (aF (i:=2) iK.nd rfl (bC rfl) (aX (eh rfl) rfl T.CA fV (af
   (bx ["name"] [] rfl (aQ (bX GH hr rfl (af (pv 0) ak))) (ba rfl rfl) nofun rfl nofun
    (λ_ _ _ _ _=>au (i:=0) (ndq nofun) rfl (bC rfl)) (λ_ _ _ _ _=>b9)
    (λ_ _ _ _ _=>bT (af (pv 0) (af (bU ak) ak)))) ak)))
  (aj (bK cx rfl (nZ rfl T.Kd (af (pv 0) ak)) (fc rfl (aC (au (i:=3) iK.nd rfl (bC rfl)) (aC (au (i:=4) iK.nd rfl (bC rfl)) bM)))
   (aj (ik (iy:=7) ["place","part"] [(1,"empty")] iK.nd rfl rfl rfl (nY rfl T.Kd (af (bH cS (pv 4) ay (λ_ _=>rfl)) ak)) (ba rfl rfl) nofun rfl nofun
    (λ_ _ _ _ _=>gB (n:=2) K rfl (aC (au (i:=0) (ndq nofun) rfl (bC rfl)) (aC (au (i:=1) (ndq nofun) rfl (bC rfl)) bM)))
    (λ_ _ _ _ _=>f_ (e_ (eJ hu (pv 1) (pv 2)))) (λ_ _ _ _ _=>pv 0))
   (ao (bK cx rfl (nY rfl T.Kd (af (bH cS (pv 4) ay (λ_ _=>rfl)) ak)) (fc rfl (aC (au (i:=5) iK.nd rfl (bC rfl)) (aC (au (i:=6) iK.nd rfl (bC rfl)) bM)))
    (ao (cA (PW.pt (wK (e_ (pA hu (pv 6) (pv 2))) (qK (bB (Dn hu) (pv 7) (bT (af (bU ak) (af (bU (af (pv 5) ak)) ak))) rfl))))
     (ao (b8 (gZ ie iI iJ cq (fk hu (pv 2) (bH cS (pv 4) ay (λ_ _=>rfl)) (λ_ _=>rfl)) (af (bT (af (pv 3) (af (pv 5) ak))) ak)))) aZ)))))
   )
  (ao (bc (pv 2))))),?_⟩
 nofun
 have ll:=bG cT;refine⟨_,rfl,R,rs,aa,rfl,hR,cT,a8,h8,λD1 C6 aP H1 f1 s1 e1 w1 emp A7=>?_⟩;have V9:Paired (λt (kv:aK×V)=>bf K H1 t [kV kv.1,kv.2]) C6 (aP.map λp=>((Sum.inr p.1:aK),V.int (p.2:Int))):=cR w1 λ_ _ z=>z;refine⟨D1,C6,_,rfl,e1,V9,λe he=>?_⟩;have ekE:de (aP.map λp=>((Sum.inr p.1:aK),V.int (p.2:Int))) []=aP.map λp=>((Sum.inr p.1:aK),V.int (p.2:Int)):=oy _ [] (by
  rw [j_,i4];have:=wU emp.nd;rw [i4] at this;exact this)
 rw [ekE];have DJ:∀z,(br (aP.map λp=>((Sum.inr p.1:aK),V.int (p.2:Int))) (Sum.inr z)).isSome=decide (z∈aP.map (·.1)):=λz=>by
  rw [jU,d5,decide_eq_true_iff,i4];have:(aP.map λp:Str×Nat=>(Sum.inr p.1:aK))=(aP.map (·.1)).map Sum.inr:=by rw [i4];rfl
  show _∈(aP.map λp:Str×Nat=>(Sum.inr p.1:aK))↔_;rw [this];exact cP
 generalize (aP.map λp=>((Sum.inr p.1:aK),V.int (p.2:Int)))=kE at DJ ⊢;have s2:=s1.trans (ah he (.dK kE));have e2:upd H1 e (.dK kE) e=some (.dK kE):=ae;generalize upd H1 e (.dK kE)=H2 at s2 e2;refine⟨_,rfl,R,rs,aa,rfl,s2.seq hR,cT.same s2,a8,λD2 H3 f3 s3 e3=>?_⟩;have EH:=gT (aa.map (·.1)) [];simp only [i6,aB] at EH;refine⟨D2,rfl,⟨_,aG.of e3⟩,λD3 IF=>tP (aG.of e3) ∅ IF λts ps H4 s4 e4 m4 p4 l4 n4=>?_⟩;have n1:(ps.map (·.1)).Nodup:=by rw [m4];exact mZ _ jJ
 have G3:Paired (λt (kv:aK×V)=>bf K H4 t [kV kv.1,kv.2]) ts (ps.map jn):=cR p4 λ_ _ z=>z;refine⟨D3,ts,_,rfl,e4,G3,λd qt=>?_⟩;have RR:de (ps.map jn) []=ps.map jn:=oy _ [] (by
  rw [j_,n_];exact wU n1)
 rw [RR];have s5:=((s2.trans s3).trans s4).trans (ah qt (.dK (ps.map jn)));have zB:=ah qt (.dK (ps.map jn));have e5:upd H4 d (.dK (ps.map jn)) d=some (.dK (ps.map jn)):=ae;have RX:=zB _ _ (s4 _ _ (s3 _ _ e2));have xK:H d=none:=((s2.trans s3).trans s4).free qt;have S5:ES K ps (λ_=>[]) (upd H4 d (.dK (ps.map jn))) d:=⟨.inl e5,n1,n4,λp hp=>⟨[],zB _ _ (l4 p hp).1,.nil⟩⟩;have OS:∀p∈ps,H p.2=none:=λp hp=>(s2.trans s3).free (l4 p hp).2.1;generalize upd H4 d (.dK (ps.map jn))=H5 at s5 e5 RX S5;clear zB;have eb:(λz=>(br kE (Sum.inr z)).isSome)=λz=>decide (z∈aP.map (·.1)):=funext DJ;refine⟨_,rfl,R,_,rfl,s5.seq hR,?_⟩
 let oJ:oN:=λi σ H6=>∃(st:Str->List (Nat×Nat))(y3 y4 y5 y6 y7:Option V),σ=[bj R,bj e,bj d,y3,y4,y5,y6,y7]/\aD H H6/\H6 e=some (.dK kE)/\H6 d=some (.dK (ps.map jn))/\ES K ps st H6 d /\
  (∀n,(st n).length<=8 * i)/\∀n k j,n∈hd aa->((k,j)∈st n↔k < i/\Kz aa (hd aa) (λz=>decide (z∈aP.map (·.1))) n k j)
 refine kK (xs:=rs.map V.ref) oJ
  ⟨λ_=>[],none,none,none,none,none,rfl,s5,RX,e5,S5,by simp,by simp⟩ ?_ ?_ ?_
 .rintro i σ H6 _ ⟨st,y3,y4,y5,y6,y7,rfl,s6,_⟩;exact s6.seq hR
 .rintro i x σ H6 t ex ⟨st,y3,y4,y5,y6,y7,rfl,s6,NX,XF,S6,l6,c6⟩ ht
  ac_nf0
  rw [bq] at ex;obtain⟨r,er,rfl⟩:=bR.mp ex;obtain⟨ru,tH,p,v1,v2⟩:=cT.get er;have pG:=cD tH;have NH:=h8 ru pG;have li:=(aY.mp tH).1;have BV:=ah ht (.tup [.int (i:Int),.ref r]);have Lc:bf K (upd H6 t (.tup [.int (i:Int),.ref r])) t [.int (i:Int),.ref r]:=bf.of ae;have s7:=s6.trans BV;have NW:=BV _ _ NX;have ed7:=BV _ _ XF;have S7:=S6.same BV;generalize upd H6 t (.tup [.int (i:Int),.ref r])=H7 at Lc s7 NW ed7 S7;refine⟨t,_,rfl,Lc,rfl,_,_,rfl,_,_,rfl,rfl,?_⟩;refine⟨_,rfl,r,_,_,_,rfl,rfl,s7.tup v1,rfl,p,_,rfl,s7.tup v2,λD5 OP=>zg rfl (s7.tup v2) ∅ NW OP λH8 Ov e8=>?_⟩;rw [eb] at e8;have s8:=s7.trans Ov;have ee8:=Ov _ _ NW;have ed8:=Ov _ _ ed7;have S8:=S7.same Ov;have nD5:∀p∈ps,p.2≠D5:=λp hp z=>by
   obtain⟨Ot,a,_⟩:=S7.lst p hp;rw [z,OP] at a;cases a
  obtain⟨pn,yM,zI⟩:∃pn∈ps,pn.1=ru.1:=by
   have:ru.1∈ps.map (·.1):=by rw [m4];exact(eX _ _ _).mpr (.inr (i7 pG))
   obtain⟨pn,a,b⟩:=cN.mp this;exact⟨pn,a,b⟩
  refine⟨_,rfl,r,_,_,_,rfl,rfl,s8.tup v1,rfl,p,_,rfl,s8.tup v2,?_⟩
  let zw:oN:=λj σ H9=>∃(st:Str->List (Nat×Nat))(y5 y6:Option V),σ=[bj R,bj e,bj d,some (.int (i:Int)),bj r,y5,y6,bj D5]/\aD H H9/\H9 e=some (.dK kE)/\H9 d=some (.dK (ps.map jn))/\ES K ps st H9 d /\
   H9 D5=some (.lst ((zH (λz=>decide (z∈aP.map (·.1))) ru.2 ru.2.length).map V.int))/\(∀n,(st n).length<=8 * i+j)/\∀n k j',n∈hd aa->((k,j')∈st n↔(k < i\/(k=i/\j' < j))/\Kz aa (hd aa) (λz=>decide (z∈aP.map (·.1))) n k j')
  refine pH (xs:=ru.2.map V.str) zw
   ⟨st,_,_,rfl,s8,ee8,ed8,S8,e8,λn=>l6 n,λn k j' hn=>by rw [c6 n k j' hn];simp⟩ ?_ ?_ ?_
  .rintro j σ H9 _ ⟨st,y5,y6,rfl,s9,_⟩;exact s9.tup v2
  .rintro j x σ H9 t2 qY ⟨st,y5,y6,rfl,s9,XD,XE,S9,e9,l9,c9⟩ jN
   ac_nf0
   rw [bq] at qY;obtain⟨z,ez,rfl⟩:=bR.mp qY;have lj:=(aY.mp ez).1;have yf:=ah jN (.tup [.int (j:Int),.str z]);have Hc:bf K (upd H9 t2 (.tup [.int (j:Int),.str z])) t2 [.int (j:Int),.str z]:=bf.of ae;have lW:=s9.trans yf;have xr:=yf _ _ XD;have qy:=yf _ _ XE;have EN:=yf _ _ e9;have LG:=S9.same yf;generalize upd H9 t2 (.tup [.int (j:Int),.str z])=uo at Hc lW xr qy EN LG;have mem:(br (ps.map jn) (Sum.inr z)).isSome=true↔z∈hd aa:=by rw [d5,n_,m4];exact cP
   have iV:¬(z∈hd aa/\wY (λz=>decide (z∈aP.map (·.1))) ru.2 j=true)->∀n k j',n∈hd aa->((k,j')∈st n↔(k < i\/(k=i/\j' < j+1))/\Kz aa (hd aa) (λz=>decide (z∈aP.map (·.1))) n k j'):=λhn n k j' WE=>by
    rw [c9 n k j' WE];constructor
    .rintro⟨h1,h3⟩;exact⟨∅,h3⟩
    rintro⟨h1,h3⟩;refine⟨?_,h3⟩;by_cases c:k=i/\j'=j
    .obtain⟨kY,z',a1,a2,a3,a4,a5⟩:=h3;rw [c.1,tH] at a1;cases a1;rw [c.2] at a5;rw [c.2,ez] at a3;cases a3;exact absurd ⟨a4,a5⟩ hn
    omega
   have ZD:∀n,(st n).length<=8 * i+(j+1):=λn=>by have:=l9 n;omega
   refine⟨t2,_,rfl,Hc,rfl,_,_,rfl,_,_,rfl,rfl,?_⟩;refine⟨_,rfl,_,rfl,d,_,rfl,cC.k (k:=Sum.inr z) qy,_,rfl,?_⟩;refine d_ (λc=>?_) (λc=>?_)
   .have hz:=mem.mp c;refine⟨_,rfl,rP,λl1 ZW=>?_⟩;have Ja:=ah ZW (.lst []);have II:upd uo l1 (.lst []) l1=some (.lst []):=ae;have nl1:l1≠D5:=(aq EN ZW).symm;generalize upd uo l1 (.lst [])=CQ at Ja II;refine⟨_,rfl,Oo,λl2 qV=>?_⟩;have KU:=ah qV (.lst [.int (j:Int)]);have HG:upd CQ l2 (.lst [.int (j:Int)]) l2=some (.lst [.int (j:Int)]):=ae;have Vz:l2≠D5:=(aq (Ja _ _ EN) qV).symm;generalize upd CQ l2 (.lst [.int (j:Int)])=zx at KU HG;refine⟨mq,λt3 QU=>?_⟩;have Tf:=ah QU (.tup [.ref l1,.ref l2]);have e13:bf K (upd zx t3 (.tup [.ref l1,.ref l2])) t3 [.ref l1,.ref l2]:=bf.of ae;generalize upd zx t3 (.tup [.ref l1,.ref l2])=CP at Tf e13;have ql:=(Ja.trans KU).trans Tf;refine⟨t3,D5,l1,l2,_,[],[(j:Int)],rfl,rfl,e13,aG.of (ql _ _ EN),aG.of (Tf _ _ (KU _ _ II)),aG.of (Tf _ _ HG),nl1,Vz,_,rfl,?_⟩;have Ic:=LG.same ql;have Ms:=lW.trans ql;refine d_ (λc2=>?_) (λc2=>?_)
    .obtain⟨Y1,an,bn⟩:=Ic.lst pn yM;have vn:=gM ps n1 pn yM;rw [zI] at vn;have hg:cC CP d (.str ru.1) (some (.ref pn.2)):=by
      have:=cC.k (k:=Sum.inr ru.1) (ql _ _ qy);rw [vn] at this;exact this
     have ltn:=bG bn;have l9n:=l9 pn.1;refine⟨_,rfl,_,rfl,r,_,_,_,rfl,rfl,Ms.tup v1,rfl,d,_,rfl,hg,.inl ⟨rfl,_,aG.of an⟩,_,rfl,_,rfl,mq,λt4 u0=>?_⟩;have Af:=ah u0 (.tup [.int (i:Int),.int (j:Int)]);have e14:bf K (upd CP t4 (.tup [.int (i:Int),.int (j:Int)])) t4 [.int (i:Int),.int (j:Int)]:=bf.of ae;generalize upd CP t4 (.tup [.int (i:Int),.int (j:Int)])=H14 at Af e14;have Ss:=Ic.same Af;have Kq:=Af _ _ an;have Yb:=Paired.ft bn λt' (e':Nat×Nat)(z:bf K CP t' [.int (e'.1:Int),.int (e'.2:Int)])=>Af.tup z;refine⟨pn.2,_,_,rfl,rfl,Kq,bI (by rw [aB];omega),?_⟩;have YD:=Ss.more (e:=(i,j)) yM Kq Yb e14;have ne1:e≠pn.2:=λz=>by have:=Af _ _ (ql _ _ xr);rw [z,Kq] at this;cases this
     have ne2:d≠pn.2:=λz=>by have:=Af _ _ (ql _ _ qy);rw [z,Kq] at this;cases this
     refine⟨vx st pn.1 (i,j),_,_,rfl,λb o hb=>?_,by rw [ai ne1];exact Af _ _ (ql _ _ xr),by rw [ai ne2];exact Af _ _ (ql _ _ qy),YD,by rw [ai (nD5 pn yM).symm];exact Af _ _ (ql _ _ EN),λn=>?_,λn k j' WE=>?_⟩
     .rw [ai (λz=>by rw [z,OS pn yM] at hb;cases hb)];exact Af _ _ (Ms b o hb)
     .have:=l9 n;unfold vx
      split
      .rw [cu];simp;omega
      omega
     have hit:Kz aa (hd aa) (λz=>decide (z∈aP.map (·.1))) ru.1 i j:=⟨ru,z,tH,rfl,ez,hz,c2⟩;have Lv:=c9 n k j' WE;unfold vx;by_cases cn:n=pn.1
     .rw [az cn,bZ,cJ,Lv];constructor
      .rintro(⟨h1,h3⟩ | h1)
       .exact⟨∅,h3⟩
       cases h1;exact⟨∅,by rw [cn,zI];exact hit⟩
      rintro⟨h1,h3⟩;by_cases cc:k=i/\j'=j
      .exact .inr (by rw [cc.1,cc.2])
      exact .inl ⟨∅,h3⟩
     rw [aA cn,Lv];constructor
     .rintro⟨h1,h3⟩;exact⟨∅,h3⟩
     rintro⟨h1,h3⟩;refine⟨?_,h3⟩;by_cases cc:k=i/\j'=j
     .obtain⟨kY,z',a1,a2,_⟩:=h3;rw [cc.1,tH] at a1;cases a1;exact absurd (a2.symm.trans zI.symm) cn
     omega
    exact⟨st,_,_,rfl,Ms,ql _ _ xr,ql _ _ qy,Ic,ql _ _ EN,ZD,iV λ⟨_,h⟩=>c2 h⟩
   exact⟨st,_,_,rfl,lW,xr,qy,LG,EN,ZD,iV λ⟨h,_⟩=>c (mem.mpr h)⟩
  rintro σ H9 ⟨st,y5,y6,rfl,s9,XD,XE,S9,e9,l9,c9⟩;rw [aB] at l9 c9;refine⟨st,_,_,_,_,_,rfl,s9,XD,XE,S9,λn=>?_,λn k j' hn=>?_⟩
  .have:=l9 n;omega
  rw [c9 n k j' hn];constructor
  .rintro⟨h1 | ⟨h1,h2⟩,h3⟩
   .exact⟨∅,h3⟩
   exact⟨∅,h3⟩
  rintro⟨h1,h3⟩;refine⟨?_,h3⟩;by_cases c:k < i
  .exact .inl c
  refine .inr ⟨∅,?_⟩;obtain⟨kY,z',a1,_,a3,_⟩:=h3;have:k=i:=by omega
  rw [this,tH] at a1;cases a1;exact(aY.mp a3).1
 rintro σ H6 ⟨st,y3,y4,y5,y6,y7,rfl,s6,NX,XF,S6,l6,c6⟩;rw [aB,ll] at c6;refine⟨_,rfl,q d ps st aP H6 xK s6 XF S6 m4 OS emp A7 λn k j hn=>?_⟩;rw [c6 n k j hn];constructor
 .exact λh=>h.2
 intro h;obtain⟨kY,_,a1,_⟩:=id h;exact⟨(aY.mp a1).1,h⟩
end
end fY
namespace L2
open PySem
def cC.r {H:Hp}{a:Addr}{kvs:List (aK×V)}{k:aK}(e:Rd H a (.dK kvs)):cC H a (kV k) (br kvs k):=.inl ⟨kvs,k,e,rfl,rfl⟩
end L2
namespace fY
open PySem L2 M11
section
structure LD (K:aR) (names:List Str)(rk:Str->Nat)(name:Str)(H H5:Hp)(D m:Addr)(iZ:List Addr)(gR:List (Str×Addr)) (ms:List Str)(kvs:List (aK×V)):Prop where
 sm:aD H H5
 hD:H5 D=some (.lst (iZ.map V.ref))
 hm:H5 m=some (.dK kvs)
 keys:kvs.map (·.1)=ms.map Sum.inr
 nd:ms.Nodup
 sub:∀x∈ms,x∈names
 wl:gR.length=ms.length+1
 wv:Paired (λt (e:Str×Addr)=>bf K H5 t [.str e.1,.ref e.2]) iZ gR
 we:∀e∈gR,e.1∈names/\rk e.1<=rk name/\∃xs,H5 e.2=some (.lst xs)/\xs.length<=gR.length/\e.2≠D
def LD.same {names:List Str}{rk:Str->Nat}{name:Str}{H H5 H6:Hp}{D m:Addr}{iZ:List Addr}{gR:List (Str×Addr)}{ms:List Str}{kvs:List (aK×V)}(h:LD K names rk name H H5 D m iZ gR ms kvs)(s:aD H5 H6):LD K names rk name H H6 D m iZ gR ms kvs :=
 ⟨h.sm.trans s,s _ _ h.hD,s _ _ h.hm,h.keys,h.nd,h.sub,h.wl,Paired.ft h.wv λ_ _ z=>s.tup z,λe he=>let ⟨a,b,xs,c,d⟩:=h.we e he;⟨a,b,xs,s _ _ c,d⟩⟩
def LD.len {names:List Str}{rk:Str->Nat}{name:Str}{H H5:Hp}{D m:Addr}{iZ:List Addr}{gR:List (Str×Addr)}{ms:List Str}{kvs:List (aK×V)}(h:LD K names rk name H H5 D m iZ gR ms kvs):iZ.length=gR.length/\kvs.length=ms.length/\ms.length<=names.length:=by
 refine⟨bG h.wv,?_,fq _ _ h.nd h.sub⟩;have:=congrArg List.length h.keys;simpa using this
def LD.more {names:List Str}{rk:Str->Nat}{name z:Str}{H H5 H9:Hp}{D m t c:Addr}{iZ:List Addr}{gR:List (Str×Addr)}{ms:List Str}{kvs:List (aK×V)}{xs:List V}(h:LD K names rk name H H5 D m iZ gR ms kvs)(fD:H D=none)(fm:H m=none)
  (hz:z∈names)(hr:rk z<=rk name)(hn:z∉ms)(s:aD (upd H5 m (.dK (bE kvs (Sum.inr z) (.bl true)))) H9)(ht:bf K H9 t [.str z,.ref c])(hc:H9 c=some (.lst xs))(hx:xs.length<=gR.length+1)(nc:c≠D) :
  LD K names rk name H (upd H9 D (.lst (iZ.map V.ref++[.ref t]))) D m (iZ++[t]) (gR++[(z,c)]) (ms++[z]) (bE kvs (Sum.inr z) (.bl true)):=by
 have MN:D≠m:=λe=>by have:=h.hD;rw [e,h.hm] at this;cases this
 have DZ:H9 D=some (.lst (iZ.map V.ref)):=s _ _ (by rw [ai MN];exact h.hD);have WH:H9 m=some (.dK (bE kvs (Sum.inr z) (.bl true))):=s _ _ ae;refine⟨λb o hb=>?_,by rw [ae,bD];rfl,by rw [ai MN.symm];exact WH,?_,?_,?_,?_,?_,?_⟩
 .rw [ai (λe=>by rw [e,fD] at hb;cases hb)];exact s _ _ (by rw [ai (λe=>by rw [e,fm] at hb;cases hb)];exact h.sm b o hb)
 .rw [ij (by rw [h.keys];exact λe=>hn (cP.mp e)),h.keys,bD];rfl
 .refine lL.mpr ⟨h.nd,by simp,λa ha b hb e=>?_⟩;rw [cJ.mp hb] at e;exact hn (e ▸ ha)
 .intro x OH;rcases bZ.mp OH with e | e
  .exact h.sub x e
  rw [cJ.mp e];exact hz
 .rw [cu,cu,h.wl];rfl
 .exact gh (Paired.ft h.wv λ_ _ e=>a_ DZ (s.tup (eZ h.hm e))) (a_ DZ ht)
 intro e he;rw [cu];rcases bZ.mp he with e' | e'
 .obtain⟨a,b,ys,c1,d1,n1⟩:=h.we e e';exact⟨a,b,ys,by rw [ai n1];exact s _ _ (by rw [ai (λq=>by rw [q,h.hm] at c1;cases c1)];exact c1),∅,n1⟩
 rw [cJ.mp e'];exact⟨hz,hr,xs,by rw [ai nc];exact hc,hx,nc⟩
def nI:aJ ["rules","steps","name","ways","met","at","way","number","place","part"] ["rules","steps","name"] (aw Mh):=iP rfl rfl rfl rfl nofun
end
end fY
namespace L2
open PySem PySem.Spec PyProof.Rows
section
variable {prog:Program}{w:World}{A:Around}{E:Value->Shared->Prop}{s:Shared}
def qi (a b c:Value):argsOk "min" ⟨[a],[("key",b),("default",c)]⟩:=by unfold argsOk;kernel_rfl
def uj {l:Addr}{kf dv:Value}{Q:Value->Shared->Prop}(hh:A.handled=none)(hl:s.heap.IsList l #[])(h:∀h' tk,(∀b o,s.heap.get? b=some o->h'.get? b=some o)->Q dv { s with heap:=h',toks:=tk }) :
  wpAny (model prog w) A (call (.builtin "min") [.ref l] [("key",kf),("default",dv)]) Q E s:=by
 have l_:(toString "min" ++ toString ".loop":String) = "min.loop" := by decide
 refine h_ (pT F.plain_min F.entry_min ?_);have core:wpAny (model prog w) A.in1 (Builtin.«min» ⟨[.ref l],[("key",kf),("default",dv)]⟩) (λfin s'=>match fin with
   | .done f=>(match (Except.ok f:Result) with | .ok (.ret v)=>Q v s' | .ok _=>False | .error e=>E e s')
   | .again c'=>c'.quiet=true/\codeAny (model prog w) A c' (λr s'=>match r with | .ok (.ret v)=>Q v s' | .ok _=>False | .error e=>E e s') s') E s:=by
  show wpAny _ A.in1 (Builtin.Builtins.bindParams "min" ["key","default"] 0 ⟨[],[("key",kf),("default",dv)]⟩ >>= _) _ _ s;refine ax (wpAny_of_eq (show Builtin.Builtins.bindParams "min" ["key","default"] 0 ⟨[],[("key",kf),("default",dv)]⟩=pure [some kf,some dv] from rfl) ?_);refine ax (aI ?_);refine ax (pP hl ?_);refine ax (jW ?_);rw [l_];obtain⟨ol,h1,h2⟩:=id hl;generalize hG:s.heap.push { cls:=.type "list_iterator",data:=.fields #[.ref l,.int 0 0] }=G;have k1:∀b o,s.heap.get? b=some o->G.get? b=some o:=λb o e=>by rw [<-hG];exact bu _ e
  have hi:G.get? s.heap.objs.size=some { cls:=.type "list_iterator",data:=.fields #[.ref l,.int 0 0] }:=by rw [<-hG];exact cZ _ rfl
  refine aI ⟨iT nu _,j9 F.entry_min_loop ?_⟩;rw [pS nu _];show wpAny _ A.in1 (seqItems? (.ref G.objs.size) >>= _) _ _ _;refine ax (j8 (cZ _ rfl) rfl ?_);show wpAny _ A.in1 (tryCatch (pyNext (.ref s.heap.objs.size)) _ >>= _) _ _ _;refine ax (jt (vP (show A.in1.handled=none from hh) ⟨_,bu _ hi,rfl,rfl⟩ ⟨ol,bu _ (k1 _ _ h1),h2⟩ (by simp) λh' eb=>?_));refine ax (wpAny_rule (aI ?_));exact h h' _ λb o e=>eb b o (bw (aO e)) (bu _ (k1 b o e))
 simp only [checkBuiltinCall,F.kind_min];cases Nb:Manifest.signature? "min" with
 | none=>exact aI core
 | some sig =>
  have W8:Bind.checkArgs "min" sig ⟨[.ref l],[("key",kf),("default",dv)]⟩=pure ():=by have:=qi (.ref l) kf dv;simpa only [argsOk,Nb] using this
  simp only [W8];exact aI core
end
open PySem
end L2
namespace fY
open PySem L2 M11
section
def hX (aa:List av)(rk:Str->Nat):Prop:=∀aP,qC aa aP->nj aa aa.length aP->∀n k j,Kz aa (hd aa) (λz=>decide (z∈aP.map (·.1))) n k j->∀ru z,aa[k]?=some ru->ru.2[j]?=some z->rk z < rk n
def zX:aJ ["rules","steps","loops"] ["rules"] (aw FH):=iP rfl rfl rfl rfl nofun
end
end fY
namespace L2
open PySem
def Bo {K:aR}{T:Addr}{pos:Pos}{qu:Str}{H H':Hp}{a:Addr}{xs:List V}(s:fX T H H')(t:Tab T pos qu H)(h:bf K H a xs):bf K H' a xs:=by
 obtain⟨ps,b,_⟩:=t;rcases h with (h | ⟨u,h⟩) | h
 .exact .inl (.inl (s _ _ (λz=>by rw [z,b] at h;cases h) h))
 .exact .inl (.inr ⟨u,s _ _ (λz=>by rw [z,b] at h;cases h) h⟩)
 exact .inr h
def BU {K:aR}{T:Addr}{pos:Pos}{qu:Str}{H H':Hp}{a:Addr}{xs:List V}(s:fX T H H')(t:Tab T pos qu H)(h:aG K H a xs):aG K H' a xs:=by
 obtain⟨ps,b,_⟩:=t;rcases h with (h | ⟨u,h⟩) | h
 .exact .inl (.inl (s _ _ (λz=>by rw [z,b] at h;cases h) h))
 .exact .inl (.inr ⟨u,s _ _ (λz=>by rw [z,b] at h;cases h) h⟩)
 exact .inr h
def Bq {T T':Addr}{pos pos':Pos}{qu Ip:Str}{H H':Hp}(s:fX T H H')(t:Tab T pos qu H)(h:Tab T' pos' Ip H)(n:T'≠T):Tab T' pos' Ip H':=by
 obtain⟨ps,b,_⟩:=t;obtain⟨Vg,a,o,c⟩:=h;refine⟨Vg,s _ _ n a,o,c.imp id ?_⟩;rintro⟨c',e,g⟩;exact⟨c',e,s _ _ (λz=>by rw [z,b] at g;cases g) g⟩
def HP {K:aR}{H:Hp}{p D:Addr}{zs:List Str}{σ:St}{js:List (Nat×Str)}{cs:List (Option V)}{tif:TT}{te:TE}{Qp:Hp->Prop}(hσ:dI ["name"] js σ=none::cs)(hp:aG K H p (zs.map V.str))(hD:H D=none)
  (ht:∀z∈zs,∀H2 Q,aD H H2->Q false H2->tif (some (.str z)::cs) H2 Q)(q:∀H2,aD H H2->H2 D=some (.lst [])->Qp H2) :
  CWq (jQ K p) D (dI ["name"] js σ) H Qp (dP 0) tif te:=by
 refine bY (xs:=zs.map V.str) (λi ys σ2 H5=>ys=[]/\(∃y0,σ2=y0::cs)/\aD H H5/\H5 D=some (.lst [])) ⟨rfl,⟨none,hσ⟩,ah hD _,ae⟩ (λi ys σ2 H5 _ h=>h.2.2.1.seq hp) (λi x ys σ2 H5 ex h=>?_) (λys σ2 H5 h=>?_)
 .obtain⟨rfl,⟨y0,rfl⟩,s5,e5⟩:=h;rw [bq] at ex;obtain⟨z,ez,rfl⟩:=bR.mp ex;refine goN ?_;refine ht z (cD ez) H5 _ s5 ?_;refine iD ?_;exact⟨rfl,⟨_,rfl⟩,s5,e5⟩
 obtain⟨rfl,_,s5,e5⟩:=h;exact q H5 s5 e5
end L2
namespace fY
open PySem L2 M11
section
structure Good (aa:List av)(rk:Str->Nat)(b:Str->Int):Prop where
 least:∀g,cH M11.bl aa (lH aa) g->dJ M11.bl aa g->∀h∈hd aa,∃n,g h=some n/\n<=60
 met:∀cb ms,aa[0]?=some cb->cb.1∈ms->oH aa aa.length ms->∀h∈hd aa,h∈ms
 loop:hX aa rk
 Sd:tY aa b
 most:∀h∈hd aa,b h<=60
def ma (T1 T2:Addr)(H H':Hp):Prop:=∀b o,b≠T1->b≠T2->H b=some o->H' b=some o
def gX:aJ ["rules","strengths","least","endless","met","unmet","steps","greatest","vast"] ["rules","strengths"] (aw wA):=iP rfl rfl rfl rfl nofun
end
end fY
namespace M11
open PySem L2
abbrev Be:=Str×Str×Nat×Nat
def xJ (cI:List Be):List (Str×Str):=cI.map λb=>(b.1,b.2.1)
def ou (cI:List Be)(n:Str):List Str:=(cI.filter λb=>decide (b.1=n)).map (·.2.1)
def qk (names:List Str)(cI:List Be)(z:Str):List Str:=if z∈names then ou cI z else [z]
inductive xQ (aa:List av) (names:List Str)(b:Str->Bool):List Be->Prop
 | nil:xQ aa names b []
 | snoc {cI:List Be}{k j:Nat}{ru:av}{z w:Str}:xQ aa names b cI->aa[k]?=some ru->ru.2[j]?=some z->j < Ea b ru.2->w∈qk names cI z->(ru.1,w)∉xJ cI->xQ aa names b (cI++[(ru.1,w,k,j)])
def A0 {cI:List Be}{n w:Str}:w∈ou cI n↔(n,w)∈xJ cI:=by
 unfold ou xJ;rw [cN,cN];constructor
 .rintro⟨b,hb,rfl⟩;obtain⟨h1,h2⟩:=eB.mp hb;exact⟨b,h1,by rw [dY h2]⟩
 rintro⟨b,hb,e⟩;cases e;exact⟨b,eB.mpr ⟨hb,cw rfl⟩,rfl⟩
def Cr (cI:List Be)(b:Be)(n:Str):ou (cI++[b]) n=ou cI n++(if b.1=n then [b.2.1] else []):=by
 unfold ou;rw [pR,bD];by_cases c:b.1=n
 .rw [az c];simp [c]
 rw [aA c];simp [c]
end M11
namespace fY
open PySem L2 M11
def Km:Stmt->List Stmt
 | .ClassDef _ _ _ b _ _ _ _ _ _ _=>b
 | _=>[]
abbrev Iq (st:Stmt) (i:Nat):Stmt:=(Km st).getD i (.Pass ⟨0,0,0,0⟩)
abbrev Ad:Stmt:=Iq Ac 0
abbrev FI:Stmt:=Iq Ac 1
abbrev z9:Stmt:=Iq Ac 2
abbrev wG:Stmt:=Iq ye 0
abbrev z8:Stmt:=Iq ye 1
section
structure BC (K:aR)(C:Addr):Prop where
 cls:CY K C
 a1:cM K C "empties"
 a2:cM K C "empty"
 a3:cM K C "begins"
 a4:cM K C "firsts"
structure uq (K:aR)(C:Addr)(H0 H:Hp)(a e d bg:Addr)(kE:List (aK×V))(aP:List (Str×Nat))(ps:List (Str×Addr))(cI:List Be):Prop where
 sm:aD H0 H
 ia:∃dx fs,H a=some (.ins C dx fs)/\fs.lookup ("empty":Str)=some (.ref e)/\fs.lookup ("begins":Str)=some (.ref bg)/\fs.lookup ("firsts":Str)=some (.ref d)/\fs.lookup ("find_begins":Str)=none/\fs.lookup ("words_of_part":Str)=none
 he:H e=some (.dK kE)
 hd:H d=some (.dK (ps.map jn))
 n1:(ps.map (·.1)).Nodup
 n2:(ps.map (·.2)).Nodup
 dk:∀p∈ps,(∃kvs,H p.2=some (.dK kvs)/\kvs.map (·.1)=(ou cI p.1).map Sum.inr)/\H0 p.2=none/\p.2≠e/\p.2≠d
 lb:∃ts,H bg=some (.lst (ts.map V.ref))/\Paired (λt (b:Be)=>bf K H t [.str b.1,.str b.2.1,.int (b.2.2.1:Int),.int (b.2.2.2:Int)]) ts cI
 fb:H0 bg=none
 em:∃e1 ts,(∃dx fs,H a=some (.ins C dx fs)/\fs.lookup ("empties":Str)=some (.ref e1))/\H e1=some (.lst (ts.map V.ref))/\pK K H ts aP/\e1≠bg
def uq.same {C:Addr}{H0 H H':Hp}{a e d bg:Addr}{kE:List (aK×V)}{aP:List (Str×Nat)}{ps:List (Str×Addr)}{cI:List Be}(h:uq K C H0 H a e d bg kE aP ps cI)(s:aD H H'):uq K C H0 H' a e d bg kE aP ps cI:=by
 refine⟨h.sm.trans s,?_,s _ _ h.he,s _ _ h.hd,h.n1,h.n2,λp hp=>?_,?_,h.fb,?_⟩
 .obtain⟨dx,fs,q,r⟩:=h.ia;exact⟨dx,fs,s _ _ q,r⟩
 .obtain⟨⟨kvs,q,r⟩,t⟩:=h.dk p hp;exact⟨⟨kvs,s _ _ q,r⟩,t⟩
 .obtain⟨ts,q,r⟩:=h.lb;exact⟨ts,s _ _ q,Paired.ft r λ_ _ z=>s.tup z⟩
 obtain⟨e1,ts,⟨dx,fs,q1,q2⟩,q3,q4,q5⟩:=h.em;exact⟨e1,ts,⟨dx,fs,s _ _ q1,q2⟩,s _ _ q3,q4.keep λ_ _ z=>s.tup z,q5⟩
def BJ (K:aR)(C:Addr):Sp:=λvs H Q _=>∃(H0:Hp)(a e d bg:Addr)(kE:List (aK×V))(aP:List (Str×Nat))(ps:List (Str×Addr))(cI:List Be)(z:Str),vs=[.ref a,.str z]/\uq K C H0 H a e d bg kE aP ps cI /\
 ∀(D:Addr)(H':Hp),H D=none->aD H H'->H' D=some (.lst ((qk (ps.map (·.1)) cI z).map V.str))->Q (.ref D) H'
def IX:aJ ["self","part"] ["self","part"] (aw z9):=iP rfl rfl rfl rfl nofun
def Gq {C:Addr}(F:hZ K "words_of_part" "BeginTable.words_of_part" z9 f fd)(T:Txt mg)(B:BC K C):bh P w K mg base fJ 1 f fd ["self","part"] (BJ K C):=by
 refine F.ok IX (by and_intros) (λdN A outer s H vs Q E hr h=>?_)
 obtain⟨H0,a,e,d,bg,kE,aP,ps,cI,z,rfl,S,q⟩:=h;have hu:=gk hr;obtain⟨dx,fs,ea,f1,f2,f3,f4,f5⟩:=S.ia;refine⟨_,ao (bc (yq (e_ (pA hu (pv 1) (eK (pv 0) rfl))) (aX (ng rfl) rfl T.lst dW (af (fk hu (eK (pv 0) rfl) (pv 1) (λ_ _=>rfl)) ak)) (bU (af (pv 1) ak)))),?_⟩;dsimp only [Eh];have mem:(br (ps.map jn) (Sum.inr z)).isSome=true↔z∈ps.map (·.1):=by rw [d5,n_];exact cP
 refine⟨_,rfl,_,rfl,a,C,dx,fs,_,rfl,ea,B.cls,B.a4,f3,d,_,rfl,cC.k (k:=Sum.inr z) S.hd,_,rfl,?_⟩;refine d_ (λc=>?_) (λc=>?_)
 .have hz:=mem.mp c;obtain⟨p,hp,ep⟩:=cN.mp hz;obtain⟨⟨kvs,hk,kk⟩,_⟩:=S.dk p hp;have vn:=gM ps S.n1 p hp;rw [ep] at vn;have hg:cC H d (.str z) (some (.ref p.2)):=by
   have:=cC.k (k:=Sum.inr z) S.hd;rw [vn] at this;exact this
  refine⟨_,rfl,a,C,dx,fs,_,rfl,ea,B.cls,B.a4,f3,_,rfl,d,_,rfl,hg,p.2,kvs,rfl,hk,λD hD=>?_⟩;refine q D _ hD (ah hD _) ?_;rw [ae,keys_str kk,ep];unfold qk;rw [az hz]
 refine⟨_,rfl,Oo,λD hD=>?_⟩;refine q D _ hD (ah hD _) ?_;rw [ae];unfold qk;rw [aA (λh=>c (mem.mpr h))];rfl
end
end fY
namespace L2
open PySem PySem.Spec PyProof.Rows
def Ee (o:Obj)(f:Array Value->Array Value):(o.mapFields f).dict=o.dict:=by
 obtain⟨c,d,dt,sl⟩:=o;cases dt <;> rfl
def tX (h:Heap)(e:Addr)(cls:Value)(dx:Option Addr)(T:Addr)(fl:Value):Prop :=
 ∃oe vs oT ts,h.get? e=some oe/\oe.cls=cls/\oe.dict=dx/\oe.data=.fields vs/\vs[1]?=some (.ref T)/\T≠e/\h.get? T=some oT/\oT.data=.fields ts/\ts[3]?=some fl
structure Moved (fs as:List Addr)(h h':Heap):Prop where
 keep:∀b o,b∉as->b∉fs->h.get? b=some o->h'.get? b=some o
 slot:∀b o,b∉as->h.get? b=some o->∃sl,h'.get? b=some { o with slots:=sl }
def Moved.refl {fs as:List Addr}{h:Heap}:Moved fs as h h:=⟨λ_ _ _ _ e=>e,λ_ o _ e=>⟨o.slots,e⟩⟩
def Moved.trans {fs as:List Addr}{h h1 h2:Heap}(a:Moved fs as h h1)(b:Moved fs as h1 h2):Moved fs as h h2 :=
 ⟨λc o n f e=>b.keep c o n f (a.keep c o n f e),λc o n e=>by
  obtain⟨s1,e1⟩:=a.slot c o n e;obtain⟨s2,e2⟩:=b.slot c _ n e1;exact⟨s2,e2⟩⟩
def Moved.mono {fs as as':List Addr}{h h1:Heap}(a:Moved fs as h h1)(s:∀b∈as,b∈as'):Moved fs as' h h1 :=
 ⟨λc o n f e=>a.keep c o (λz=>n (s c z)) f e,λc o n e=>a.slot c o (λz=>n (s c z)) e⟩
section
variable {M:Model}{A:Around}{E:Value->Shared->Prop}{s:Shared}{base:Heap}{env:Env}{outer:List Env}{L e:Addr}
def mY {cls fl:Value}{dx:Option Addr}{T:Addr}{fs:List Addr}{Q:Unit->Shared->Prop}(F:tX s.heap e cls dx T fl)
  (hq:∀h',Moved fs [T] s.heap h'->tX h' e cls dx T .none->Q () { s with heap:=h' }):wpAny M A (setFlight (.ref e) none) Q E s:=by
 obtain⟨oe,vs,oT,ts,he,hc,hx,hd,h1,ne,hT,Nu,h3⟩:=F;have sz:3 < ts.size:=(v8.mp h3).1;unfold setFlight;refine ax (gH he hd h1 ?_);rw [az (by simp)];refine oP hT Nu sz (hq _ ⟨λb o n _ q=>?_,λb o n q=>⟨o.slots,?_⟩⟩ ⟨oe,vs,_,_,?_,hc,hx,hd,h1,ne,lR _ hT (Obj.isFreed_of_fields (rA Nu _)),rA Nu _,?_⟩)
 .rw [gK _ _ (λz:T=b=>n (by simp [z]))];exact q
 .rw [gK _ _ (λz:T=b=>n (by simp [z]))];exact q
 .rw [gK _ _ ne];exact he
 simp [sz]
def yu {oe:Obj}{vs:Array Value}{qt:Value}{hn:Bool}{Q:Unit->Shared->Prop}(JR:A.frames=some (env::outer))(hl:s.heap.FunFrames base (env::outer))(hf:env.frame=some L)
  (he:s.heap.get? e=some oe)(hd:oe.data=.fields vs)(sz:1 < vs.size)
  (hq:∀h' T,Moved (qx (env::outer)) [e] s.heap h'->s.heap.objs.size<=T->tX h' e oe.cls oe.dict T (rawInt L)->Q () { s with heap:=h' }) :
  wpAny M A (do
   let a <-frameOf env
   let pl <-entryPlaceOf L hn
   let b <-EntryCells.newEntry qt a .none (rawInt L) .none pl
   setField (.ref e) 1 b) Q E s:=by
 have efr:e∉qx (env::outer):=λz=>by
  obtain⟨_,o,ho,nf⟩:=hl.mem z;rw [he] at ho;cases ho;exact nf vs hd
 refine ax (wpAny_frameOf_fun JR hl hf λh1 x1=>ax (wpAny_entryPlaceOf λpl l7=>?_));unfold EntryCells.newEntry newFields;refine ax (jW ?_ (l7.sizeOk5 _ _ _ _ _));have e1:h1.get? e=some oe:=(x1.2.1 e efr).trans he;have ne:h1.objs.size≠e:=jI (aO e1);have TB:h1.objs.size=s.heap.objs.size:=x1.1;have dF:=rA hd (·.setIfInBounds 1 (Value.ref h1.objs.size));have old:∀(o₂:Obj)(b:Addr)(o:Obj),b≠e->h1.get? b=some o->((h1.push o₂).update e (Obj.mapFields (·.setIfInBounds 1 (Value.ref h1.objs.size)))).get? b=some o:=λo₂ b o nb q=>by
  rw [gK _ _ (dC nb)];exact bu _ q
 have tb:∀o₂:Obj,o₂.isFreed=false->((h1.push o₂).update e (Obj.mapFields (·.setIfInBounds 1 (Value.ref h1.objs.size)))).get? h1.objs.size=some o₂:=λo₂ nf=>by
  rw [gK _ _ (dC ne)];exact cZ h1 nf
 refine oP (bu _ e1) hd sz (hq _ h1.objs.size ⟨λb o n f q=>?_,λb o n q=>?_⟩ ?_ ⟨_,_,_,_,lR _ (bu _ e1) (Obj.isFreed_of_fields dF),Obj.cls_mapFields _ _,Ee _ _,dF,by simp [sz],ne,tb _ rfl,rfl,?_⟩)
 .exact old _ b o (λz=>n (by simp [z])) ((x1.2.1 b f).trans q)
 .obtain⟨sl,q1⟩:=x1.2.2 b o q;exact⟨sl,old _ b _ (λz=>n (by simp [z])) q1⟩
 .exact Nat.le_of_eq TB.symm
 first
  | (simp;done)
  | (rcases l7 with rfl | ⟨_,_,_,_,_,_,_,rfl⟩ <;> simp)
def AD {oe:Obj}{vs:Array Value}{Q:Unit->Shared->Prop}(JR:A.frames=some (env::outer))(hl:s.heap.FunFrames base (env::outer))(hf:env.frame=some L)
  (he:s.heap.get? e=some oe)(hd:oe.data=.fields vs)(h1:vs[1]?=some .none)
  (hq:∀h' T,Moved (qx (env::outer)) [e] s.heap h'->s.heap.objs.size<=T->tX h' e oe.cls oe.dict T (rawInt L)->Q () { s with heap:=h' }):wpAny M A (noteFrame (.ref e) env) Q E s:=by
 unfold noteFrame;simp only [hf];refine ax (gH he hd h1 ?_);rw [aA nofun];exact yu JR hl hf he hd (v8.mp h1).1 hq
def uQ {cls:Value}{dx:Option Addr}{T0:Addr}{Q:Unit->Shared->Prop}(JR:A.frames=some (env::outer))(hl:s.heap.FunFrames base (env::outer))(hf:env.frame=some L)
  (F:tX s.heap e cls dx T0 .none)
  (hq:∀h' T,Moved (qx (env::outer)) [e,T0] s.heap h'->s.heap.objs.size<=T->tX h' e cls dx T (rawInt L)->Q () { s with heap:=h' }):wpAny M A (noteFrame (.ref e) env) Q E s:=by
 obtain⟨oe,vs,oT,ts,he,hc,hx,hd,h1,ne,hT,Nu,h3⟩:=F;subst hc hx;unfold noteFrame;simp only [hf];refine ax (gH he hd h1 ?_);rw [az (by simp)];refine ax (gH hT Nu h3 ?_);rw [aA (by simp [rawInt])];refine ax (oP hT Nu (v8.mp h3).1 ?_);have Tp:∀b,b≠T0->(s.heap.update T0 (Obj.mapFields (·.setIfInBounds 3 Value.none))).get? b=s.heap.get? b:=λb n=>gK _ _ (dC n);have nT:∀b o,s.heap.get? b=some o->(∀vs,o.data≠.fields vs)->b≠T0:=λb o q nf z=>by
  rw [z,hT] at q;cases q;exact nf ts Nu
 refine yu JR (hl.of_keeps λb o q nf=>⟨o,(Tp b (nT b o q nf)).trans q,rfl⟩) hf ((Tp e (dC ne)).trans he) hd (v8.mp h1).1 λh' T m nw fd=>?_;refine hq h' T ⟨λb o n f q=>m.keep b o (λz=>n (by simp at z;simp [z])) f ((Tp b λz=>n (by simp [z])).trans q),λb o n q=>m.slot b o (λz=>n (by simp at z;simp [z])) ((Tp b λz=>n (by simp [z])).trans q)⟩ ?_ fd;rw [Heap.size_after_update] at nw;exact nw
end
def oA (ea:Addr)(cls:Value)(dx:Option Addr):HO:=.ext λh=>∃oe vs,h.get? ea=some oe/\oe.cls=cls/\oe.dict=dx/\oe.data=.fields vs
def xn {P:Program}{w:World}{H:Hp}{h:Heap}{ea:Addr}{cls:Value}{dx:Option Addr}{oe:Obj}{vs:Array Value}(e:h.get? ea=some oe)(c:oe.cls=cls)(d:oe.dict=dx)(f:oe.data=.fields vs) :
  bW P w H h ea (oA ea cls dx) :=
 ⟨⟨oe,vs,e,c,d,f⟩,⟨oe,e⟩,λ_ _ ⟨o,ws,q,r⟩ k=>⟨o,ws,k o q,r⟩⟩
def tX.ok {P:Program}{w:World}{H:Hp}{h:Heap}{ea T:Addr}{cls fl:Value}{dx:Option Addr}(F:tX h ea cls dx T fl):bW P w H h ea (oA ea cls dx):=by
 obtain⟨oe,vs,_,_,he,hc,hx,hd,_⟩:=F;exact xn he hc hx hd
def LI (h0:Heap)(H:Hp)(h:Heap)(ea:Addr)(cls:Value)(dx:Option Addr):Prop :=
 ∃T,tX h ea cls dx T .none/\H T=none/\H ea=some (oA ea cls dx)/\h0.objs.size<=T/\h0.objs.size<=ea
def i3 (P:Program)(w:World):vA:=λouter H s E e s' =>
 ∃ea cls dx H',e=.ref ea/\s'.os=s.os/\AllBare s'.gens/\Un (qx outer) [] H H' s.heap s'.heap/\lJ P w H' s'.heap/\LI s.heap H' s'.heap ea cls dx/\E cls dx H'
section
variable {X:Cx}{ag:List (Addr×Obj)}{σ:St}{H:Hp}{s:Shared}{M:Model}{A:Around}{E':Value->Shared->Prop}{E:XK}{ea:Addr}{cls:Value}{dx:Option Addr}
def uU {as:List Addr}(J:Inv X ag σ H s)(jF:X.stack=X.env::X.outer)(hex:X.ex=[])
  (hn:∀Q:Unit->Shared->Prop,(∀h' T,Moved (qx X.stack) as s.heap h'->s.heap.objs.size<=T->tX h' ea cls dx T (rawInt X.env.locals)->Q () { s with heap:=h' })->wpAny M A (noteFrame (.ref ea) X.env) Q E' s)
  (has:∀b∈as,(H b=none\/b=ea)/\X.s₀.heap.objs.size<=b)(sX:H ea=some (oA ea cls dx)/\X.s₀.heap.objs.size<=ea)(hE:E cls dx H) :
  wpAny M A (leaving X.env (.ref ea)) (λ_ FO=>i3 X.prog X.w X.outer X.H₀ X.s₀ E (.ref ea) FO) E' s:=by
 unfold leaving;refine ax (hn _ λh1 T m1 lT F1=>mY (fs:=qx X.stack) F1 λh2 m2 F2=>?_);have nT:s.heap.get? T=none:=vI lT;have fre:H T=none:=J.bF.fresh lT;have mm:Moved (qx X.stack) (T::as) s.heap h2:=(m1.mono λb hb=>bS _ hb).trans (m2.mono λb hb=>by simp at hb;simp [hb]);have Ze:X.s₀.heap.objs.size<=T:=cQ J.sz lT;have old:∀b o,X.s₀.heap.get? b=some o->b∉T::as:=λb o q z=>by
  rcases bN.mp z with z | z
  .rw [z,vI Ze] at q;cases q
  rw [vI (has b z).2] at q;cases q
 have base:Un X.fs [] X.H₀ H X.s₀.heap s.heap:=by have u:=J.base;rw [hex] at u;exact u
 refine⟨ea,cls,dx,H,rfl,J.os,J.bare,⟨?_,?_,base.free,?_,base.mv,base.kJ,base.lE⟩,?_,⟨T,F2,fre,sX.1,Ze,sX.2⟩,hE⟩
 .intro b o q n f x;refine mm.keep b o (old b o q) (λz=>?_) (base.keep b o q n f x);rcases bN.mp (J.wg b z) with z | z
  .exact absurd (eD (aO q) (z ▸ J.ok.above)) (i5 _)
  exact f z
 .intro b o q n f x;obtain⟨sl,q1⟩:=base.slot b o q n f x;obtain⟨s2,q2⟩:=mm.slot b _ (old b o q) q1;exact⟨s2,q2⟩
 .intro b o q x;obtain⟨o',q1⟩:=base.there b o q x;obtain⟨s2,q2⟩:=mm.slot b _ (old b o q) q1;exact⟨_,q2⟩
 intro a o q;by_cases ha:a=ea
 .subst ha;rw [sX.1] at q;cases q;exact F2.ok
 have tr:∀b,H b≠none->b≠ea->b∉T::as/\b∉qx X.stack:=λb n ne=>⟨λz=>by
  rcases bN.mp z with z | z
  .exact n (z ▸ fre)
  rcases (has b z).1 with y | y
  .exact n y
  exact ne y,λz=>n (J.qG b z)⟩
 refine(J.bF a o q).iV (λb u hb e=>?_) (λ_ z=>z) λ_ _ z=>z;have xf:H b≠none/\b≠ea:=by
  rcases hb with rfl | hb
  .exact⟨by rw [q];exact vO _,ha⟩
  refine⟨by rw [hb];exact vO _,λz=>?_⟩;rw [z,sX.1] at hb;cases hb
 exact mm.keep b u (tr b xf.1 xf.2).1 (tr b xf.1 xf.2).2 e
def DK (J:Inv X ag σ H s)(JR:A.frames=some (X.env::X.outer))(jF:X.stack=X.env::X.outer)(hf:X.env.frame=some X.env.locals)(hex:X.ex=[])(F:LI X.s₀.heap H s.heap ea cls dx)(hE:E cls dx H) :
  wpAny M A (leaving X.env (.ref ea)) (λ_ FO=>i3 X.prog X.w X.outer X.H₀ X.s₀ E (.ref ea) FO) E' s:=by
 obtain⟨T,fd,t1,t2,t3,t4⟩:=F;refine uU (as:=[ea,T]) J jF hex (λQ k=>?_) (λb hb=>?_) ⟨t2,t4⟩ hE
 .have hl:=J.stack;rw [jF] at hl k;exact uQ JR hl hf fd k
 rcases bN.mp hb with rfl | hb
 .exact⟨.inr rfl,t4⟩
 obtain rfl:b=T:=by simpa using hb
 exact⟨.inl t1,t3⟩
def n8 {oe:Obj}{vs:Array Value}(J:Inv X ag σ H s)(JR:A.frames=some (X.env::X.outer))(jF:X.stack=X.env::X.outer)(hf:X.env.frame=some X.env.locals)(hex:X.ex=[])
  (he:s.heap.get? ea=some oe)(hd:oe.data=.fields vs)(h1:vs[1]?=some .none)(sX:H ea=some (oA ea oe.cls oe.dict)/\X.s₀.heap.objs.size<=ea)(hE:E oe.cls oe.dict H) :
  wpAny M A (leaving X.env (.ref ea)) (λ_ FO=>i3 X.prog X.w X.outer X.H₀ X.s₀ E (.ref ea) FO) E' s:=by
 refine uU (as:=[ea]) J jF hex (λQ k=>?_) (λb hb=>?_) sX hE
 .have hl:=J.stack;rw [jF] at hl k;exact AD JR hl hf he hd h1 k
 obtain rfl:b=ea:=by simpa using hb
 exact⟨.inr rfl,sX.2⟩
end
section
variable {P:Program}{w:World}{K:aR}{mg:Str->Option Value}{base:Heap}{N:List Str}{qual:Str}{scope:Scope}{f:Addr}{cd:Value}{A:Around}{outer:List Env}{s:Shared}{H:Hp}{E E':XK}
def Qb (hE:∀c d H',E' c d H'->E c d H'):Passes (i3 P w) (dM (i3 P w) P w K mg base N qual scope f cd A outer s H E) E':=by
 rintro ag σ H1 s1 e s' I ⟨ea,cls,dx,H',rfl,os,bare,un,bF,⟨T,fd,t1,t2,t3,t4⟩,q⟩;have J:=I.CD (ch:=[]) os un bF bare (λb z=>absurd z (by simp));have up:s.heap.objs.size<=s1.heap.objs.size:=I.sz;refine cv (DK (E:=E) J I.ok.frames rfl rfl rfl ⟨T,fd,t1,t2,cQ up t3,cQ up t4⟩ (hE _ _ _ q)) (λ_ _ z=>z) λ_ _ z=>z
end
open PySem PySem.Spec PyProof.Rows PySem.W PySem.Builtin PySem.Builtin.ObjectAttr
section
variable {prog:Program}{w:World}{A:Around}{E:Value->Shared->Prop}{K:Frag}{C x:Addr}{s:Shared}{cd:ClassData}
structure XC (K:Frag)(C:Addr)(cd:ClassData):Prop where
 cls:clsIn K C=some cd
 sa:findIn K (.ref C) "__setattr__"=some (some (.builtin "object.__setattr__"))
 pass:∀self:Value,refuseLoop self "__setattr__" cd.mro=pure ()
 obj:cd.mro.contains (.type "object")=true
 dict:cd.hasDict=true
def UB {name:Str}{v:Value}{vs:Array Value}{sl:Array (Option Value)}{Q:Unit->Shared->Prop}(X:K.In s.heap)(c:XC K C cd)(ht:takerIn K C name=some none)
  (hx:s.heap.get? x=some ⟨.ref C,none,.fields vs,sl⟩)
  (h:∀h',(∀b o,b≠x->s.heap.get? b=some o->h'.get? b=some o)->h'.get? x=some ⟨.ref C,some s.heap.objs.size,.fields vs,sl⟩->h'.Ns1 s.heap.objs.size (λy=>if y=name then some v else none) ->
   Q () { s with heap:=h',toks:=s.toks+2 }):wpAny (model prog w) A (setAttr (.ref x) name v) Q E s:=by
 have I:InstAt s.heap x ⟨.ref C,none,.fields vs,sl⟩ C none:=⟨hx,rfl,rfl,trivial⟩;have SF:=PySem.F.store_object;have ne:cd.mro.isEmpty=false:=by
  cases q:cd.mro with
  | nil=>have:=c.obj;rw [q] at this;cases this
  | cons _ _=>rfl
 have sub:Looks (model prog w) s.heap (isInstance (.ref x) (.type "object")) true:=I.type.andThen (looks_mroIn X (by unfold mroIn;rw [c.cls,Option.bind_some,aA (by rw [ne];decide),c.obj]));refine set_plain X I c.sa ?_;refine pT SF.slot.plain SF.entry (@check_slot (model prog w) _ _ { s with toks:=s.toks+1 } _ "object" "__setattr__" (.ref x) [.str name s.toks,v] [] _ SF.kind SF.split sub (SF.args (.ref x) _ v) ?_);obtain⟨attr,ha,hr⟩:=Option.bind_eq_some_iff.mp ht;have mro:Looks (model prog w) s.heap (mroOf (.ref C)) cd.mro:=(looks_clsIn X c.cls).andThen .now;have tk:Looks (model prog w) s.heap (storeTaker? attr) none:=by
  cases attr with
  | none=>exact .now
  | some a =>
   obtain⟨b,hb,z⟩:=bR.mp hr;refine(looks_takesIn X hb).andThen ?_;cases b with
   | true=>cases z
   | false=>exact .now
 rw [osa_eq,refuse_eq];refine ax (ax (Looks.here (s:={ s with toks:=s.toks+1 }) I.type (ax (Looks.here (s:={ s with toks:=s.toks+1 }) mro ?_))));rw [c.pass];refine aI (ax (Looks.here (s:={ s with toks:=s.toks+1 }) I.type (ax (Looks.here (s:={ s with toks:=s.toks+1 }) (looks_findIn X ha) (ax (Looks.here (s:={ s with toks:=s.toks+1 }) tk ?_))))));have e1:=bu (h:=s.heap) { cls:=.type "dict",data:=.dict #[] } hx;have nx:x≠s.heap.objs.size:=bw (aO hx);have e2:=lR (λo:Obj=>{ o with dict:=some s.heap.objs.size }) e1 rfl;have e3:((s.heap.push { cls:=.type "dict",data:=.dict #[] }).update x (λo:Obj=>{ o with dict:=some s.heap.objs.size })).get? s.heap.objs.size=some { cls:=.type "dict",data:=.dict #[] }:=by
  rw [gK _ _ nx];exact cZ _ rfl
 have n0:((s.heap.push { cls:=.type "dict",data:=.dict #[] }).update x (λo:Obj=>{ o with dict:=some s.heap.objs.size })).Ns s.heap.objs.size (λ_=>none):=⟨_,#[],_,e3,rfl,λe he=>absurd he (by simp),λ_=>rfl⟩;dsimp only;unfold storeInOwnDict;refine ax (aI (ax ?_));unfold ownDictForStores instanceDict;refine ax (wpAny_loadPart hx (ax (Looks.here (s:={ s with toks:=s.toks+1 }) (looks_clsIn X c.cls) ?_)));rw [c.dict];refine ax (wpAny_alloc (ax (wpAny_update e1 (aI ?_))));show wpAny _ _ (storeInDict s.heap.objs.size (.str name s.toks) name v) _ _ _;unfold storeInDict newKeyGuard;refine ax (aI (ax (wpAny_nsSet1 (Heap.Ns1.of_empty n0) λh' n1 sb=>?_)));obtain⟨oD,es,ep,WC,WY,W4⟩:=n1.count (Within.cons name v Within.nil);refine ax (wpAny_lookBehind WC (by rw [WY];exact pastItsLine_dict (cQ W4 (by rw [gL];show (1:Nat)<=_;decide))) ?_);refine aI (h h' (λb o nb q=>?_) ((sb.2 x nx).trans e2) n1);refine(sb.2 b (bw (aO q))).trans ?_;rw [gK _ _ (dC nb)];exact bu _ q
end
open PySem PySem.Spec PyProof.Rows PySem.W
abbrev newObj (C:Addr)(dx:Option Addr)(a0:Value):Obj:={ cls:=.ref C,dict:=dx,data:=.fields #[a0,.none,.none,.none,.bool false,.none] }
abbrev iq (rest:List Value):Obj:={ cls:=.type "tuple",data:=.seq rest.toArray }
section
variable {prog:Program}{w:World}{A:Around}{E:Value->Shared->Prop}{h:Heap}{g:Array GenState}{d:Drawn}{t:Nat}{os:OsState}
variable {nm qn:Str}{C N:Addr}{bs bm jP:List Value}{jG:Bool}{sn:List Str}{sub:List Value}{ab:Bool}{col:Option Bool}{dd:Option Addr}{k0 k1 k2 k3 k5:Option Value}{B newId fh:String}
 {mN:Str->Option Value}{rest:List Value}{fI:Addr}{oI:Obj}
def JB (F:ExcBaseFacts B newId fh jP)(T:OwnTail h jP bm){Q:Fin->Shared->Prop}(hC:h.get? C=some (excClassObj nm qn C N bs bm jG sn sub ab col dd k0 k1 k2 k3 k5 newId))(hn:h.Ns N mN)
  (hi:mN "__init__"=some (.ref fI))(hf:h.get? fI=some oI)(Hi:oI.cls=.type "function")(hz:rest.length<=sizeLine)
  (hq:wpAny (model prog w) A (call (.ref fI) (.ref (h.objs.size+1)::rest)) (λr s'=>r=.none/\Q (.done (.ret (.ref (h.objs.size+1)))) s') E ⟨(h.push (iq rest)).push (newObj C none (.ref h.objs.size)),g,d,t,os⟩) :
  wpAny (model prog w) A (Builtin.«type.__call__» ⟨.ref C::rest,[]⟩) Q E ⟨h,g,d,t,os⟩:=by
 repeat (first
  | with_reducible refine kc hC ?_
  | with_reducible refine wpAny_madeBy_exc hC ?_
  | wp_step)
 refine codeAny_call_builtin_code (vD _ F.quiet) (wpAny_check_new_subT F T hC (codeAny_exc_new_subT F T hC ?_ hz));show wpAny _ _ _ _ _ _;have up:∀b o,h.get? b=some o->((h.push (iq rest)).push (newObj C none (.ref h.objs.size))).get? b=some o:=λb o e=>bu _ (bu _ e);have c1:=up _ _ hC;have f1:=up _ _ hf;have n1:=hn.keeps up;have g1:((h.push (iq rest)).push (newObj C none (.ref h.objs.size))).get? (h.objs.size+1)=some (newObj C none (.ref h.objs.size)):=by heap_get
 have me:(Value.ref C::bm).contains (.ref C)=true:=by simp
 unfold isInstance
 repeat (first
  | with_reducible refine kc g1 ?_
  | (with_reducible refine wpAny_isSubtype_exc c1 ?_;rw [me])
  | wp_step)
 show wpAny _ _ (typeLookup (.ref C) _) _ _ _;refine wpAny_typeLookup_tail c1 n1 (T.keeps up) F.mroIs F.init.lookup ?_;rw [hi];refine gi (ax ?_);unfold bindSpecial;refine ax (iR (T := "function") ⟨_,f1,Hi⟩ ?_);rw [az nofun];refine aI (ax (cv hq (λr s' z=>?_) λ_ _ z=>z));obtain⟨rfl,z⟩:=z
 wp_walk
 exact z
def MO (F:ExcBaseFacts B newId fh jP)(T:OwnTail h jP bm){Q:Value->Shared->Prop}(hC:h.get? C=some (excClassObj nm qn C N bs bm jG sn sub ab col dd k0 k1 k2 k3 k5 newId))(hn:h.Ns N mN)
  (hi:mN "__init__"=some (.ref fI))(hf:h.get? fI=some oI)(Hi:oI.cls=.type "function")(hz:rest.length<=sizeLine)
  (hq:wpAny (model prog w) (A.under (.builtin "type.__call__" ⟨.ref C::rest,[]⟩)) (call (.ref fI) (.ref (h.objs.size+1)::rest)) (λr s'=>r=.none/\Q (.ref (h.objs.size+1)) s') E
   ⟨(h.push (iq rest)).push (newObj C none (.ref h.objs.size)),g,d,t,os⟩) :
  wpAny (model prog w) A (call (.ref C) rest) Q E ⟨h,g,d,t,os⟩:=by
 have a1:=tc_lookup;have a2:=tc_bind (.ref C);have a3:(⟨h,g,d,t,os⟩:Shared).TypeIs (.ref C) "type" := ⟨_,hC,rfl⟩;refine h_ (codeAny_of_tree ?_);show wpAny _ _ (callAny (.ref C) _) _ _ _
 repeat (any_goals (first
  | assumption
  | with_reducible refine kc hC ?_
  | wp_step))
 exact⟨rfl,codeAny_call_builtin_at (vD _ nofun) entry_typeCall (wpAny_check_type_call_sub hC (JB F T hC hn hi hf Hi hz hq))⟩
end
def KH (K:Frag)(C fI:Addr)(jP:List Value)(newId:String):Bool:=match K.lookup C with
 | some ⟨.type "type",_,.cls c,sl⟩=>(match c.mro,sl.toList with
  | .ref D::bm,[_,_,_,_,some (.builtin n),_]=>D == C && n == newId && !c.hasDel && tailIn K jP bm && nsOkIn K c.ns && (nsIn K c.ns "__init__" == some (some (.ref fI)))
  | _,_=>false)
 | _=>false
def AB {K:Frag}{h:Heap}{N:Addr}{m:Str->Option Value}{n:Str}{v:Value}(X:K.In h)(G:h.Ns N m)(e:nsIn K N n=some (some v)):m n=some v:=by
 obtain⟨o,es,ep,ho,hd,_,hf⟩:=G;unfold nsIn at e
 split at e
 .rename_i c d ub n' sl q
  have:=X _ _ q;rw [ho] at this;cases this;cases hd
  split at e
  .rename_i en he
   cases e;rw [<-hf];unfold nsFind findBy;rw [<-Array.find?_toList,he];rfl
  split at e <;> cases e
 cases e
def LO {K:Frag}{h:Heap}{C fI:Addr}{jP:List Value}{newId:String}(X:K.In h)(q:KH K C fI jP newId=true) :
  ∃nm qn N bs bm jG sn sub ab col dd k0 k1 k2 k3 k5 mN,h.get? C=some (excClassObj nm qn C N bs bm jG sn sub ab col dd k0 k1 k2 k3 k5 newId)/\h.Ns N mN/\mN "__init__"=some (.ref fI)/\OwnTail h jP bm:=by
 unfold KH at q
 split at q
 .rename_i dd c sl ho
  split at q
  .rename_i D bm k0 k1 k2 k3 n k5 hm hs
   simp only [iH,beq_iff_eq,rC] at q;obtain⟨⟨⟨⟨⟨rfl,rfl⟩,Hj⟩,ht⟩,bF⟩,EK⟩:=q;obtain⟨nm,bs,mro,ns,qn,hd,sn,sub,ab,col,del⟩:=c;dsimp only at hm Hj bF EK;subst hm Hj;have EJ:sl=#[k0,k1,k2,k3,some (.builtin n),k5]:=by
    obtain⟨l⟩:=sl;simp only at hs;rw [hs]
   subst EJ;have hN:h.Ns ns (h.nsMap ns):=.of_isNs (isNs_of_in X bF);exact⟨nm,qn,ns,bs,bm,hd,sn,sub,ab,col,dd,k0,k1,k2,k3,k5,_,X _ _ ho,hN,AB X hN EK,tail_of_in X ht⟩
  cases q
 cases q
def newX (ea C:Addr)(dx:Option Addr):HO:=.ext λh=>∃a0:Addr,h.get? ea=some (newObj C dx (.ref a0))
def qP {P:Program}{w:World}{H:Hp}{h:Heap}{ea C:Addr}{dx:Option Addr}{a0:Addr}(e:h.get? ea=some (newObj C dx (.ref a0))):bW P w H h ea (newX ea C dx) :=
 ⟨⟨a0,e⟩,⟨_,e⟩,λ_ _ ⟨a,q⟩ k=>⟨a,k _ q⟩⟩
section
variable {X:Cx}{ag:List (Addr×Obj)}{σ:St}{H:Hp}{s:Shared}{h':Heap}{ea C:Addr}{dx:Option Addr}
theorem Inv.newX (I:Inv X ag σ H s)(e:H ea=some (newX ea C dx)):∃a0:Addr,s.heap.get? ea=some (newObj C dx (.ref a0)):=(I.bF ea _ e).1
def Inv.Kb {o:HO}{φ:Heap->Prop}{n:Option HO}{t':Nat}(I:Inv X ag σ H s)(e:H ea=some (.ext φ))(k:∀b u,b≠ea->s.heap.get? b=some u->h'.get? b=some u)(hz:∃u,h'.get? ea=some u)
  (Nh:ea≠s.heap.objs.size)
  (Vl:∀H',bW X.prog X.w H' h' ea o)(Vk:∀m,n=some m->∀H',bW X.prog X.w H' h' s.heap.objs.size m) :
  Inv X ag σ (upd (match n with | some m=>upd H s.heap.objs.size m | none=>H) ea o) { s with heap:=h',toks:=t' }:=by
 have fr:H s.heap.objs.size=none:=I.bF.fresh (aH _);have other:∀b,b≠ea->b≠s.heap.objs.size->upd (match n with | some m=>upd H s.heap.objs.size m | none=>H) ea o b=H b:=λb n1 n2=>by
  rw [ai n1];cases n with
  | none=>rfl
  | some m=>exact ai n2
 have OA:∀b u,H b=some u->(∀ψ,u≠.ext ψ)->b≠ea:=λb u q d z=>by
  rw [z,e] at q;cases q;exact d _ rfl
 have Qf:∀b u,H b=some u->b≠s.heap.objs.size:=λb u q z=>by
  rw [z,fr] at q;cases q
 refine I.un ⟨λb u q n1 _ _=>?_,λb u q n1 _ _=>⟨u.slots,?_⟩,λb u q n1 _=>?_,λb u q _=>?_,λb xs q=>?_,λb u v q=>?_,λb ps q=>⟨#[],?_⟩⟩ λa u q=>?_
 .exact k b u (λz=>by rw [z,e] at n1;cases n1) q
 .exact k b u (λz=>by rw [z,e] at n1;cases n1) q
 .rw [other b (λz=>by rw [z,e] at n1;cases n1) (bw (aO q))];exact n1
 .by_cases z:b=ea
  .rw [z];exact hz
  exact⟨u,k b u z q⟩
 .rw [other b (OA b _ q (λ_ z=>by cases z)) (Qf b _ q)];exact q
 .rw [other b (OA b _ q (λ_ z=>by cases z)) (Qf b _ q)];exact q
 .rw [other b (OA b _ q (λ_ z=>by cases z)) (Qf b _ q),vG];exact q
 by_cases z:a=ea
 .subst z;rw [ae] at q;cases q;exact Vl _
 by_cases z2:a=s.heap.objs.size
 .subst z2;rw [ai z] at q;cases n with
  | none=>dsimp only at q;rw [fr] at q;cases q
  | some m =>
   dsimp only at q;rw [ae] at q;cases q;exact Vk _ rfl _
 rw [other a z z2] at q;refine(I.bF a u q).iV (λb v hb r=>k b v ?_ r) (λb r=>?_) λb xs r=>?_
 .rcases hb with rfl | hb
  .exact z
  exact OA b _ hb (λ_ y=>by cases y)
 .rw [other b (OA b _ r (λ_ y=>by cases y)) (Qf b _ r)];exact r
 rw [other b (OA b _ r (λ_ y=>by cases y)) (Qf b _ r)];exact r
end
def LQ {H:Hp}{a:Addr}{o:HO}(h:H a=some o):upd H a o=H:=by
 funext b
 by_cases z:b=a
 .rw [z,ae,h]
 exact ai z
section
variable {X:Cx}
def sXF (K:Frag)(ta tv:TE)(f:Str):TS:=λD σ H=>tv σ H λy H1=>ta σ H1 λv H2=>∃ea C cd,v=.ref ea/\H2 ea=some (newX ea C none)/\XC K C cd/\takerIn K C f=some none /\
 ∀dx,H2 dx=none->dx≠ea->D.nx σ (upd (upd H2 dx (.xd [(f,y)])) ea (newX ea C (some dx)))
def qL {o value:Expr}{f:Str}{pos pos':Pos}{ta tv:TE}(ha:PE X o ta)(hv:PE X value tv)(hs:swapsWith value (some (.Attribute o f pos')) pos.line X.env=pure false):PS X (.Assign [.Attribute o f pos'] value pos) (sXF X.K ta tv f):=by
 intro ag s σ H D I h;refine plainObj_wpAny_Assign_Attribute (cK (hv ag s σ H _ I h) λu s1 aS=>?_) hs;obtain⟨y,H1,I1,ry,q⟩:=aS;refine cK (ha ag s1 σ H1 _ I1 q) λov s2 aS=>?_;obtain⟨v,H2,I2,rx,ea,C,cd,ev,eH,c,t,q2⟩:=aS;subst ev;obtain rfl:ov=Value.ref ea:=rx;obtain⟨a0,e0⟩:=I2.newX eH;have lt:ea≠s2.heap.objs.size:=bw (aO e0);refine UB I2.jo c t e0 λh' k e1 n1=>⟨σ,_,?_,q2 s2.heap.objs.size (I2.bF.fresh (aH _)) (dC lt)⟩;refine I2.Kb (n:=some (.xd [(f,y)])) (o:=newX ea C (some s2.heap.objs.size)) eH k ⟨_,e1⟩ lt (λH'=>qP e1) λm em H'=>?_;cases em;refine⟨_,n1,λg=>?_⟩;by_cases z:g=f
 .subst z;show iE (List.lookup g [(g,y)]) (if g=g then some u else none);rw [az rfl];simp only [List.lookup,kb];exact ry
 show iE (List.lookup g [(f,y)]) (if g=f then some u else none);rw [aA z];have zb:(g == f)=false:=by simpa using z
 simp only [List.lookup,zb];trivial
structure BI (K:Frag)(W:Addr)(fh:String):Prop where
 ga:specialIn K (.ref W) "__getattribute__"=some (some (.builtin "type.__getattribute__"))
 rd:∃mc,readsIn K W mc=true/\findCls K (.ref W) mc "__init__"=some (.val (.builtin fh))
 hd:handedIn (.builtin fh)=true
def tBI (K:Frag)(jP:List Value)(newId:String)(t:TA):TE:=λσ H Q=>t σ H λvs H1=>∃ea C fI dx y,vs=[.ref ea,y]/\H1 ea=some (newX ea C dx)/\KH K C fI jP newId=true/\Q .dG H1
def n6 {Wn:Str}{W:Addr}{e1:Expr}{es:List Expr}{p apos pos:Pos}{t:TA}{B newId fh:String}{jP:List Value}{pl:Sem Bool}(F:ExcBaseFacts B newId fh jP)(b:BI X.K W fh)(hg:Gl X Wn)(hm:X.mg Wn=some (.ref W))
  (ha:PA X (e1::es) t)(qr:(Wn == ("__debug__":Str))=false:=by decide)
  (he:starEach (e1::es) X.env=(false,eval e1 X.env)::starEach es X.env:=by rfl)(l7:(backTo pos (starEach es X.env)).any (·.1)=false:=by rfl)
  (ht:eval (.Call (.Attribute (.Name Wn p) "__init__" apos) (e1::es) [] pos) X.env=(do
   let ov <-eval (.Name Wn p) X.env
   standAt apos.atName
   let (f,first) <-holding [ov] (getMethod ov "__init__" pl)
   callWith pos f first (backTo pos (starEach (e1::es) X.env)) (backToKw pos (keywordEach [] X.env))):=by rfl) :
  PE X (.Call (.Attribute (.Name Wn p) "__init__" apos) (e1::es) [] pos) (tBI X.K jP newId t):=by
 intro ag s σ H Q I h;refine methodCall_KW (pl:=pl) (iN I hg hm ?_ qr) ht;obtain⟨mc,r1,r2⟩:=b.rd;refine method_cls I.jo b.ga (cls_value I.jo r1 r2 b.hd ?_);refine PyProof.Rows.callWith_builtin1 (cK (ha pos ag _ σ H _ (I.tok _) h) λus s1 aS=>?_) he l7;obtain⟨vs,H1,I1,r1,ea,C,fI,dx,y,ev,eH,hx,q⟩:=aS;subst ev;obtain⟨a0,e0⟩:=I1.newX eH;obtain⟨nm,qn,N,bs,bm,jG,sn,sub,ab,col,dd,k0,k1,k2,k3,k5,mN,hC,_,_,T⟩:=LO I1.jo hx;obtain⟨u,u2,rfl,ra,ry⟩:=vals2 r1;have ra:u=Value.ref ea:=ra;subst ra;obtain⟨hp,g,d,tk,os⟩:=s1;refine h_ (pT F.init.plain F.initEntry (wpAny_check_init_subT F T hC e0 rfl ?_));have sz:([u2]:List Value).length<=sizeLine:=by rw [gL];show (1:Nat)<=_;decide
 refine ax (wpAny_newTuple ?_ sz);have g1:=bu (h:=hp) { cls:=.type "tuple",data:=.seq #[u2] } e0;have ne:ea≠hp.objs.size:=bw (aO e0);have g2:=lR (Obj.mapFields (·.setIfInBounds 0 (Value.ref hp.objs.size))) g1 rfl;have J:=I1.Kb (n:=none) (o:=newX ea C dx) (t':=tk) (h':=(hp.push { cls:=.type "tuple",data:=.seq #[u2] }).update ea (Obj.mapFields (·.setIfInBounds 0 (Value.ref hp.objs.size)))) eH
  (λc o nc q=>by rw [gK _ _ (dC nc)];exact bu _ q) ⟨_,g2⟩ ne (λH'=>qP g2) (λm em=>by cases em)
 dsimp only at J;rw [LQ eH] at J;refine ax ?_;unfold Builtin.BaseException.bexcPut;refine ax (gH g1 rfl (x:=.ref a0) rfl (ax (oP g1 rfl (show 0 < 6 by decide) ?_)));refine wpAny_letGo (aI ?_);exact⟨.dG,H1,J,rfl,q⟩
def tMX (X:Cx)(C:Addr)(sp:Sp)(E:XK)(t:TA):TE:=λσ H Q=>t σ H λvs H1=>∀ea,H1 ea=none->X.s₀.heap.objs.size<=ea->sp (.ref ea::vs) (upd H1 ea (newX ea C none)) (λv H2=>v=.dG/\Q (.ref ea) H2) E
def Mt {CX:vA}{k:Nat}{C fI:Addr}{fd:FuncData}{ps:List Str}{sp:Sp}{E:XK}{B newId fh:String}{jP:List Value}{oI:Obj}{ag:List (Addr×Obj)}{σ:St}{H:Hp}{s:Shared}{Q:VK}{us:List Value}{vs:List V}
  (F:ExcBaseFacts B newId fh jP)(hx:KH X.K C fI jP newId=true)(lk:X.K.lookup fI=some oI)(Hi:oI.cls=.type "function")(G:bh X.prog X.w X.K X.mg X.base CX k fI fd ps sp)(Q5:ps.length<=1000)(hr:dD (k+1) X.A)
  (hb:Binds X.K fd ps [])(hp:Passes CX X E)(I:Inv X ag σ H s)(r:aV vs us)
  (h:∀ea,H ea=none->X.s₀.heap.objs.size<=ea->sp (.ref ea::vs) (upd H ea (newX ea C none)) (λv H2=>v=.dG/\Q (.ref ea) H2) E):wpAny (model X.prog X.w) X.A (call (.ref C) us) (EP X ag σ Q) X.xe s:=by
 have q:=h (s.heap.objs.size+1) (I.bF.fresh (iG _)) (cQ I.sz (iG _));have r2:aV (V.ref (s.heap.objs.size+1)::vs) (Value.ref (s.heap.objs.size+1)::us):=.cons rfl r;have len:=G.len _ _ _ _ q;have l2:(Value.ref (s.heap.objs.size+1)::us++[]).length=ps.length:=by
  rw [gJ,<-r2.length];exact len
 have lu:us.length<=sizeLine:=by
  rw [gL];simp only [gJ,eC] at l2;omega
 obtain⟨nm,qn,N,bs,bm,jG,sn,sub,ab,col,dd,k0,k1,k2,k3,k5,mN,hC,hN,hi,T⟩:=LO I.jo hx;have e1:((s.heap.push (iq us)).push (newObj C none (.ref s.heap.objs.size))).get? (s.heap.objs.size+1)=some (newObj C none (.ref s.heap.objs.size)):=by
  have z:=cZ (s.heap.push (iq us)) (o:=newObj C none (.ref s.heap.objs.size)) rfl;rwa [j7] at z
 have I2:=I.laid (a:=s.heap.objs.size+1) (o:=newX (s.heap.objs.size+1) C none) (t':=s.toks) (h':=(s.heap.push (iq us)).push (newObj C none (.ref s.heap.objs.size)))
  (λb u z=>bu _ (bu _ z)) (iG _) (qP e1)
 obtain⟨hh,g,d,tk,os⟩:=s;refine MO F T hC hN hi (I.jo _ _ lk) Hi lu ?_;have b2:=hb _ (Value.ref (hh.objs.size+1)::us) I2.jo l2;rw [gJ] at b2;refine h_ (jq (G.run _ X.stack _ _ ⟨Value.ref (hh.objs.size+1)::us,[]⟩ _ _ _ E (hr.make C us []) (I2.HA.make C us []) b2 r2 q) λr s' z=>?_);cases r with
 | error e=>exact hp ag σ _ _ e s' I2 z
 | ok fl =>
  cases fl with
  | ret u =>
   obtain⟨v,H',I3,rv,ev,q3⟩:=I2.after z;subst ev;exact⟨rv,⟨V.ref (hh.objs.size+1),H',I3,rfl,q3⟩⟩
  | next=>exact False.elim z
  | brk=>exact False.elim z
  | cont=>exact False.elim z
def K1 {CX:vA}{k:Nat}{C fI:Addr}{fd:FuncData}{ps:List Str}{sp:Sp}{E:XK}{B newId fh:String}{jP:List Value}{oI:Obj}{x:Str}{e:Expr}{es:List Expr}{p pos:Pos}{t:TA}
  (F:ExcBaseFacts B newId fh jP)(hx:KH X.K C fI jP newId=true)(lk:X.K.lookup fI=some oI)(Hi:oI.cls=.type "function")(WK:keepIn X.K (.ref C)=true)(G:bh X.prog X.w X.K X.mg X.base CX k fI fd ps sp)(Q5:ps.length<=1000)(hr:dD (k+1) X.A)
  (hg:Gl X x)(hm:X.mg x=some (.ref C))(hb:Binds X.K fd ps [])(hp:Passes CX X E)
  (ha:PA X (e::es) t)(qr:(x == ("__debug__":Str))=false:=by decide)(he:starEach (e::es) X.env=(false,eval e X.env)::starEach es X.env:=by rfl)(l7:(backTo pos (starEach es X.env)).any (·.1)=false:=by rfl) :
  PE X (.Call (.Name x p) (e::es) [] pos) (tMX X C sp E t):=by
 intro ag s σ H Q I h;refine lP (iN I hg hm ?_ qr);refine callWith_K (h₀:=X.base) I.ok.mod.MX WK (cK (ha pos ag s σ H _ I h) λus s1 aS=>?_) he l7;obtain⟨vs,H1,I1,r,q⟩:=aS;refine⟨I1.jo,?_⟩;exact Mt F hx lk Hi G Q5 hr hb hp I1 r q
end
section
variable {M:Model}{A:Around}{E:Value->Shared->Prop}{s:Shared}{env:Env}
variable {nm qn:Str}{C N:Addr}{bs bm:List Value}{jG:Bool}{sn:List Str}{sub:List Value}{ab:Bool}{col:Option Bool}{dd:Option Addr}{k0 k1 k2 k3 k5:Option Value}{newId:String}
def yk {x:Sem Value}{Q:Flow->Shared->Prop}(hh:A.handled=none)
  (h:wpAny M A x (λv s₁=>∃(ea a0 C:Addr)(dx:Option Addr),v=.ref ea/\s₁.heap.get? ea=some (newObj C dx (.ref a0))/\(∃nm qn N bs bm jG sn sub ab col dd k0 k1 k2 k3 k5 newId,s₁.heap.get? C=some (excClassObj nm qn C N bs bm jG sn sub ab col dd k0 k1 k2 k3 k5 newId) /\
   bm.contains (.type "BaseException")=true)/\E (.ref ea) s₁) E s):wpAny M A (raiseStmt env (some x) none) Q E s:=by
 unfold raiseStmt;refine ax (cv h (λv s₁ z=>?_) λ_ _ z=>z);obtain⟨ea,a0,C,dx,rfl,he,⟨nm,qn,N,bs,bm,jG,sn,sub,ab,col,dd,k0,k1,k2,k3,k5,newId,hC,hb⟩,hE⟩:=z;have me:(Value.ref C::bm).contains (.type "BaseException")=true:=by rw [List.contains_cons,hb,Bool.or_true]
 obtain⟨hp,g,d,tk,os⟩:=s₁
 repeat (first
  | with_reducible refine kc he ?_
  | with_reducible refine kc hC ?_
  | (with_reducible refine wpAny_isSubtype_exc hC ?_;rw [me])
  | wp_step)
 exact wpAny_raiseNew_none hh hE
end
section
variable {P:Program}{w:World}{K:Frag}{mg:Str->Option Value}{base:Heap}{N:List Str}{qual:Str}{scope:Scope}{f:Addr}{cd:Value}{A:Around}{outer:List Env}{s₀:Shared}{H₀:Hp}{E:XK}
def tRs (X:Cx)(E:XK)(te:TE):TS:=λ_ σ H=>te σ H λv H1=>∃ea C dx fI jP newId,v=.ref ea/\H1 ea=some (newX ea C dx)/\X.s₀.heap.objs.size<=ea/\KH X.K C fI jP newId=true/\jP.contains (.type "BaseException")=true /\
 E (.ref C) dx (upd H1 ea (oA ea (.ref C) dx))
def yo {e:Expr}{te:TE}{pos:Pos}(he:PE (dM (i3 P w) P w K mg base N qual scope f cd A outer s₀ H₀ E) e te) :
  PS (dM (i3 P w) P w K mg base N qual scope f cd A outer s₀ H₀ E) (.Raise (some e) none pos) (tRs (dM (i3 P w) P w K mg base N qual scope f cd A outer s₀ H₀ E) E te):=by
 intro ag s σ H D I h;rw [arm_exec_Raise];refine ax (mi (yk (I.ok.hd rfl) (ax (cK (he ag s σ H _ I h) λv s1 aS=>?_))));obtain⟨y,H1,I1,ry,ea,C,dx,fI,jP,newId,ev,eH,new,hx,hb,q⟩:=aS;refine ax (mi (aI ?_));subst ev;obtain rfl:v=Value.ref ea:=ry;obtain⟨a0,e0⟩:=I1.newX eH;obtain⟨nm,qn,Nn,bs,bm,jG,sn,sub,ab,col,dd,k0,k1,k2,k3,k5,mN,hC,hN,hi,T⟩:=LO I1.jo hx;refine⟨ea,a0,C,dx,rfl,e0,⟨nm,qn,Nn,bs,bm,jG,sn,sub,ab,col,dd,k0,k1,k2,k3,k5,newId,hC,T.hasType hb⟩,?_⟩;have J:=I1.Kb (n:=none) (o:=oA ea (.ref C) dx) (t':=s1.toks) (h':=s1.heap) eH (λ_ _ _ z=>z) ⟨_,e0⟩ (bw (aO e0)) (λH'=>xn e0 rfl rfl rfl) (λm em=>by cases em);exact cv (n8 (E:=E) J I.ok.frames rfl rfl rfl e0 rfl rfl ⟨ae,new⟩ q) (λ_ _ z=>z) λ_ _ z=>z
end
section
variable {X:Cx}{ag:List (Addr×Obj)}{σ:St}{H:Hp}{s:Shared}{h':Heap}{ea:Addr}{cls fl:Value}{dx:Option Addr}{T:Addr}
def Inv.moved {cs:List Addr}(J:Inv X ag σ H s)(mm:Moved (qx X.stack) (ea::cs) s.heap h')(sX:H ea=some (oA ea cls dx))(F:tX h' ea cls dx T fl)
  (Lf:∀b∈cs,H b=none/\X.s₀.heap.objs.size<=b/\b≠X.env.locals/\(∀x c,X.env.cells.lookup x=some c->c≠b)/\∀p∈X.pn++ag,p.1≠b):Inv X ag σ H { s with heap:=h' }:=by
 have ne:∀b,H b=none->b≠ea:=λb n z=>by rw [z,sX] at n;cases n
 have Tr:∀b,b≠ea->b∉cs->b∉ea::cs:=λb n m z=>(bN.mp z).elim n m;refine J.call (ch:=cs) ⟨λb o q n f c=>mm.keep b o (Tr b (ne b n) c) f q,λb o q n _ c=>mm.slot b o (Tr b (ne b n) c) q,λb o q n _=>n,λb o q c=>?_,λ_ _ q=>q,λ_ _ _ q=>q,λb ps q=>⟨#[],by rw [vG];exact q⟩⟩ ?_ J.bare
  λb hb=>⟨.inr (Lf b hb).2.1,(Lf b hb).2.2⟩
 .by_cases z:b=ea
  .obtain⟨oe,_,_,_,he,_⟩:=F;exact⟨oe,z ▸ he⟩
  obtain⟨sl,q1⟩:=mm.slot b o (Tr b z c) q;exact⟨_,q1⟩
 intro a o q;by_cases ha:a=ea
 .subst ha;rw [sX] at q;cases q;exact F.ok
 refine(J.bF a o q).iV (λb u hb e=>?_) (λ_ z=>z) λ_ _ z=>z;have xf:H b≠none/\b≠ea:=by
  rcases hb with rfl | hb
  .exact⟨by rw [q];exact vO _,ha⟩
  refine⟨by rw [hb];exact vO _,λz=>?_⟩;rw [z,sX] at hb;cases hb
 exact mm.keep b u (Tr b xf.2 λz=>xf.1 (Lf b z).1) (λz=>xf.1 (J.qG b z)) e
def C1 {M:Model}{A:Around}{E:Value->Shared->Prop}{j:Nat}{n:Str}{v:V}{Q:Unit->Shared->Prop}(I:Inv X ag σ H s)(hN:X.N.Nodup)(hj:X.N[j]?=some n)(hl:X.env.scope.names.lookup n=some .local)
  (hv:σ[j]?=some (some v))(h:∀s',Inv X ag (σ.set j none) H s'->Q () s'):wpAny M A (unbindName X.env n) Q E s:=by
 obtain⟨m,hn,lk⟩:=id I.loc;obtain⟨u,_,l⟩:=lk j n v hj hv (.inl hl);have hk:X.env.kindOf n=some .local:=hl;have mn:m n=some u:=by
  rcases l with l | ⟨l,_⟩
  .exact l.2
  rw [hk] at l;rcases l with l | l <;> cases l
 have hc:(X.env.scope.kind == .class || (X.env.scope.kind == .module && X.env.locals != X.env.globals))=false:=by rw [I.ok.kind];rfl
 refine wpAny_unbindName_local hk hn mn hc λh' w' Ni hs=>?_;have nl:∀b o,X.s₀.heap.get? b=some o->b≠X.env.locals:=λb o e=>bw (eD (aO e) I.ok.above);have cellK:∀y c,X.env.cells.lookup y=some c->∀z,s.heap.IsCell c z->h'.IsCell c z:=λy c e z ⟨o,ho,hd⟩=>⟨o,(hs.2 c (I.Ls y c e)).trans ho,hd⟩;refine h _ ⟨I.ok,I.os,I.bare,⟨λb o e n' hb hx=>?_,λb o e n' hb hx=>?_,I.base.free,λb o e hx=>?_,I.base.mv,I.base.kJ,I.base.lE⟩,⟨_,Ni,λi y v' e1 e2 e3=>?_⟩,λy c e=>?_,I.free,I.ji,λp hp=>?_,λb ob e=>?_,by simpa using I.len⟩
 .exact(hs.2 b (nl b o e)).trans (I.base.keep b o e n' hb hx)
 .obtain⟨sl,q⟩:=I.base.slot b o e n' hb hx;exact⟨sl,(hs.2 b (nl b o e)).trans q⟩
 .obtain⟨o',q⟩:=I.base.there b o e hx;exact⟨o',(hs.2 b (nl b o e)).trans q⟩
 .by_cases Cm:i=j
  .subst Cm;have lt:i < σ.length:=(aY.mp hv).1;rw [vV lt] at e2;cases e2
  rw [List.getElem?_set_ne (λz=>Cm z.symm)] at e2;have yn:y≠n:=λz=>Cm (sJ hN (z ▸ e1) hj);obtain⟨u',ru,l'⟩:=lk i y v' e1 e2 e3;refine⟨u',ru,?_⟩;rcases l' with l' | ⟨k',c,ec,z⟩
  .exact .inl ⟨l'.1,by show (if y=n then w' else m y)=_;rw [aA yn];exact l'.2⟩
  exact .inr ⟨k',c,ec,cellK y c ec _ z⟩
 .obtain⟨z,q⟩:=I.cell y c e;exact⟨z,cellK y c e z q⟩
 .obtain⟨e,n',ne,nf,d⟩:=I.pin p hp;exact⟨(hs.2 p.1 ne).trans e,n',ne,nf,d⟩
 refine(I.bF b ob e).iV (λc w'' lG q=>(hs.2 c λz=>?_).trans q) (λ_ q=>q) λ_ _ q=>q;have fr:=I.free;rw [<-z] at fr;rcases lG with y | y
 .rw [<-y,fr] at e;cases e
 rw [fr] at y;cases y
def Inv.away {b:Addr}(I:Inv X ag σ H s)(lb:s.heap.objs.size<=b):X.s₀.heap.objs.size<=b/\b≠X.env.locals/\(∀x c,X.env.cells.lookup x=some c->c≠b)/\∀p∈X.pn++ag,p.1≠b:=by
 have lt:∀{c:Addr}{o:Obj},s.heap.get? c=some o->c≠b:=λe z=>absurd (eD (aO e) (z ▸ lb)) (i5 _);refine⟨cQ I.sz lb,λz=>absurd (eD I.lt (z ▸ lb)) (i5 _),λx c ec=>?_,λp hp=>lt (I.pin p hp).1⟩;obtain⟨v,o,ho,_⟩:=I.cell x c ec;exact lt ho
abbrev Cx.hold (X:Cx)(ea:Addr):Cx:={ X with A:=X.A.mark (some (.ref ea)),calm:=false,xe:=λ_ _=>False }
theorem Inv.hold (I:Inv X ag σ H s)(ea:Addr):Inv (X.hold ea) ag σ H s :=
 ⟨⟨I.ok.mod,I.ok.kind,I.ok.glob,I.ok.blt,I.ok.above,I.ok.inj,I.ok.has,I.ok.O0,(λz=>by cases z),I.ok.frames,I.ok.KJ,I.ok.NS,I.ok.bs,I.ok.HQ,I.ok.DF,I.ok.A3,I.ok.ow,I.ok.J_⟩,
  I.os,I.bare,I.base,I.loc,I.cell,I.free,I.ji,I.pin,I.bF,I.len⟩
def Inv.LR {ok:X.Ok}(I:Inv (X.hold ea) ag σ H s):Inv X ag σ H s:=⟨ok,I.os,I.bare,I.base,I.loc,I.cell,I.free,I.ji,I.pin,I.bF,I.len⟩
end
structure XG (K:Frag)(C:Addr):Prop where
 dict:hasDictIn K C=true
 ga:findIn K (.ref C) "__getattribute__"=some (some (.builtin "BaseException.__getattribute__"))
 gt:findIn K (.ref C) "__getattr__"=some none
 be:mroIn K C (.type "BaseException")=some true
 ob:mroIn K C (.type "object")=some true
 ca:findIn K (.ref C) "__class__"=some (some (.builtin "object.__class__"))
 cg:specialIn K (.builtin "object.__class__") "__get__"=some (some (.builtin "getset_descriptor.__get__"))
 ct:takesIn K (.builtin "object.__class__")=some true
 me:kitCls K (.ref C) (.ref C)=some true
section
variable {prog:Program}{w:World}{A:Around}{E:Value->Shared->Prop}{s:Shared}{K:Frag}{x C:Addr}{ox:Obj}{od:Option Obj}{name:Str}{v:Value}{tk:Tok}
def oM (prog:Program)(w:World)(s:Shared)(x:Addr)(name:Str)(tk:Tok)(v:Value):Prop :=
 ∀(A':Around)(E':Value->Shared->Prop)(Q':Fin->Shared->Prop),Q' (.done (.ret v)) s->wpAny (model prog w) A' (Builtin.«object.__getattribute__» ⟨[.ref x,.str name tk],[]⟩) Q' E' s
def Ho (X:K.In s.heap)(I:InstAt s.heap x ox C od)(hf:findObj K C od name=some (.value v)):oM prog w s x name tk v:=by
 intro A' E' Q' q;obtain⟨h0,g0,d0,t0,Vh⟩:=s;have b0:=I.type (M:=model prog w);have b1:=looks_find (M:=model prog w) X I hf;unfold Builtin.«object.__getattribute__»
 repeat lk
 exact q
def yQ (X:K.In s.heap)(I:InstAt s.heap x ox C od)(hf:findObj K C od name=some (.bind (.builtin "getset_descriptor.__get__") (.builtin "object.__class__")))(hm:mroIn K C (.type "object")=some true):oM prog w s x name tk (.ref C):=by
 intro A' E' Q' q;obtain⟨h0,g0,d0,t0,Vh⟩:=s;have b0:=I.type (M:=model prog w);have b1:=looks_find (M:=model prog w) X I hf;unfold Builtin.«object.__getattribute__»;refine ax (aI (ax (aI (ax (b0.at (ax (b1.at ?_)))))));show wpAny _ _ (holding [_] (call _ [_,_,_]) >>= ret) _ _ _;refine ax (gi (h_ (class_get X I hm ?_)));exact aI q
set_option maxHeartbeats 400000 in
def KG {fill expr:Bool}{Q:Value->Shared->Prop}(X:K.In s.heap)(G:XG K C)(I:InstAt s.heap x ox C od)(t:oM prog w s x name tk v)(hv:handedIn v=true)(q:Q v s) :
  wpAny (model prog w) A (getAttrBy (.ref x) (.str name tk) fill expr) Q E s:=by
 obtain⟨h0,g0,d0,t0,Vh⟩:=s;have b0:=I.type (M:=model prog w);have b1:=looks_findIn (M:=model prog w) X G.ga;have b2:=looks_findIn (M:=model prog w) X G.gt;have b3:Looks (model prog w) h0 (isInstance (.ref x) (.type "BaseException")) true:=b0.andThen (looks_mroIn X G.be);have n0:(Value.builtin "BaseException.__getattribute__" == Value.builtin "object.__getattribute__")=false:=by decide +kernel
 have n1:(onTheHeap (Value.ref C) && Value.builtin "BaseException.__getattribute__" == Value.builtin "object.__getattribute__")=false:=by rw [n0,Bool.and_false]
 have n2:(expr && onTheHeap (Value.builtin "BaseException.__getattribute__"))=false:=by cases expr <;> rfl
 unfold getAttrBy;refine gi (ax (b0.at (ax (b1.at ?_))));show wpAny _ _ (if (onTheHeap (Value.ref C) && Value.builtin "BaseException.__getattribute__" == Value.builtin "object.__getattribute__")=true then _ else _) _ _ _;rw [aA (by rw [n1];exact dB)];unfold getAttrByItsOwn;refine ax ?_;show wpAny _ _ (typeLookup (.ref C) "__getattr__") _ _ _;refine b2.at ?_;refine ax (oO (gi ?_));unfold callGetattribute;rw [aA (by rw [n2];exact dB)];unfold boundAndCalled;rw [PySem.F.attr_ValueError.ga.bind (.ref x)];refine ax (aI ?_);show wpAny _ _ (call _ _) _ _ _;refine h_ ?_;show codeAny _ _ (.call (.builtin "BaseException.__getattribute__") ⟨[.ref x,.str name tk],[]⟩) _ _;refine pT PySem.F.attr_ValueError.ga.plain PySem.F.entry_bexc_ga ?_;refine @check_slot (model prog w) _ _ ⟨h0,g0,d0,t0,Vh⟩ "BaseException.__getattribute__" "BaseException" "__getattribute__" (.ref x) [.str name tk] [] _ nofun nofun b3 (PySem.F.args_bexc_ga _ _) ?_;refine t _ _ _ ?_;exact handed_on hv q
def LN {expr:Bool}{Q:Value->Shared->Prop}(X:K.In s.heap)(G:XG K C)(I:InstAt s.heap x ox C od)(t:oM prog w { s with toks:=s.toks+1 } x name s.toks v)(hv:handedIn v=true)(q:Q v { s with toks:=s.toks+1 }) :
  wpAny (model prog w) A (getAttr (.ref x) name expr) Q E s:=by
 unfold getAttr;exact ax (wpAny_mkText (KG (s:={ s with toks:=s.toks+1 }) X G I t hv q))
def EY {Q:Option Value->Shared->Prop}(X:K.In s.heap)(G:XG K C)(I:InstAt s.heap x ox C od)(t:oM prog w { s with toks:=s.toks+1 } x name s.toks v)(hv:handedIn v=true)(q:Q (some v) { s with toks:=s.toks+1 }) :
  wpAny (model prog w) A (getAttr? (.ref x) name) Q E s:=by
 unfold getAttr? getAttrBy?;exact ax (wpAny_mkText (ax (oO (KG (s:={ s with toks:=s.toks+1 }) X G I t hv (aI q)))))
def G4 (G:XG K C):KitX K (.ref x) (.ref C) (λh=>∃ox od,InstAt h x ox C (some od)) where
 ty:=λ_ _ _ ⟨_,_,I⟩=>I.type
 it:=λM h X _=>(kit_cls (M:=M) X G.me).2.1
 ne:=λh tp dd aN n sl X M9=>by
  obtain⟨cd,hc,_⟩:=any_some G.dict;cases e:(Value.ref C == .ref tp) with
  | false=>rfl
  | true =>
   exfalso;have e2:=Value.ref.inj (beq_iff_eq.mp e);rw [<-e2] at M9;unfold clsIn at hc
   split at hc
   .next ho=>rw [X _ _ ho] at M9;cases M9
   cases hc
 ca:=λ{prog w A E Q s} X ⟨ox,od,I⟩ k=>by
  obtain⟨cd,hc,_⟩:=any_some G.dict;exact EY X G I (yQ (s:={ s with toks:=s.toks+1 }) X I (findObj_data (by rw [hc];rfl) G.ca G.cg G.ct) G.ob) rfl k
end
section
variable {X:Cx}{ag:List (Addr×Obj)}{σ:St}{H:Hp}{s:Shared}{ea C dx:Addr}{fs:List (Str×V)}
def ER (H:Hp)(ea C dx:Addr)(fs:List (Str×V)):Prop:=H ea=some (oA ea (.ref C) (some dx))/\H dx=some (.xd fs)
def ER.inst (I:Inv X ag σ H s)(e:ER H ea C dx fs):∃ox od,InstAt s.heap ea ox C (some od)/\∃mA:Str->Option Value,(∀f,iE (fs.lookup f) (mA f))/\∀name,lookIn name od=some (mA name):=by
 obtain⟨⟨oe,vs,e1,c1,d1,f1⟩,_⟩:=I.bF _ _ e.1;obtain⟨mA,n1,r1⟩:=(show bW _ _ _ _ dx (.xd fs) from I.bF _ _ e.2);obtain⟨od,ho,hl⟩:=uT n1;refine⟨oe,od,⟨e1,c1,?_,?_⟩,mA,r1,hl⟩
 .unfold notCls;rw [f1]
 rw [d1];exact ho
def tXg (K:Frag)(ta:TE)(f:Str):TE:=λσ H Q=>ta σ H λx H1=>∃ea C dx fs v,x=.ref ea/\ER H1 ea C dx fs/\XG K C/\cM K C f/\fs.lookup f=some v/\Q v H1
def qM {e:Expr}{ta:TE}{f:Str}{pos:Pos}(he:PE X e ta)(hb:attributeBase e f X.env (eval e X.env)=eval e X.env):PE X (.Attribute e f pos) (tXg X.K ta f):=by
 intro ag s σ H Q I h;refine CH hb (cK (he ag s σ H _ I h) λu s1 aS=>?_);obtain⟨x,H1,I1,rx,ea,C,dx,fs,v,ex,xo,G,n,l,q⟩:=aS;subst ex;obtain rfl:u=Value.ref ea:=rx;obtain⟨ox,od,J,mA,ra,hl⟩:=xo.inst I1;obtain⟨u',hu,ru⟩:=iE.some_of (v:=v) (o:=mA f) (by rw [<-l];exact ra f);exact LN I1.jo G J (Ho (s:={ s1 with toks:=s1.toks+1 }) I1.jo J (findObj_own G.dict n rfl (by rw [hl,hu]))) (u9 ru) ⟨v,H1,I1.tok _,ru,q⟩
end
def fC (z:Str):Prop:=z.length<=1000/\∀c∈z.cps.toList,c < 16 ^ 8
theorem lV:∀zs:List Str,PyData.showableAll (zs.map PyData.str)=true
 | []=>by simp [PyData.showableAll]
 | z::r=>by simp [PyData.showableAll,PyData.showable,lV r]
theorem p5:∀zs:List Str,PyData.hasDictAll (zs.map PyData.str)=false
 | []=>by simp [PyData.hasDictAll]
 | z::r=>by simp [PyData.hasDictAll,PyData.hasDict,p5 r]
theorem rW:∀zs:List Str,PyData.depthAll (zs.map PyData.str)=0
 | []=>by simp [PyData.depthAll]
 | z::r=>by simp [PyData.depthAll,PyData.depth,rW r]
theorem pZ:∀(ts:List Str) (k:Nat)(bA:Str),(textFrom k bA ts).length<=bA.length+piled ts
 | [],_,bA=>Nat.le_add_right _ _
 | t::r,k,bA=>by
  have ih:=pZ r (k+1) (bA++(if k > 0 then "\x2c\x20" else "":String)++t);have e:(bA++(if k > 0 then "\x2c\x20" else "":String)++t).length=bA.length+(if k > 0 then 2 else 0)+t.length:=by
   rw [jS,jS]
   split <;> rfl
  rw [e] at ih;rw [piled_cons];have d:(if k > 0 then 2 else 0:Nat)<=2:=by split <;> omega
  show (textFrom (k+1) _ r).length<=_;omega
def qc (ts:List Str):(listText ts).length<=2+piled ts:=by
 unfold listText;rw [jS];have:=pZ ts 0 "[";have e1:("[":Str).length=1:=rfl;have e2:("]":Str).length=1:=rfl;rw [e1] at this;rw [e2];omega
theorem sE:∀(zs:List Str),(∀z∈zs,fC z)->piled (PyData.shownAll (zs.map PyData.str))<=10004 * zs.length
 | [],_=>by simp [PyData.shownAll,piled_nil]
 | z::r,h=>by
  have ih:=sE r λx hx=>h x (bS _ hx);obtain⟨h1,h2⟩:=h z bO;have h3:=PySem.StrLaws.reprText_len z h2;rw [bL,eC];show piled (PyData.shown (.str z)::PyData.shownAll (r.map PyData.str))<=_;rw [piled_cons];have e:PyData.shown (.str z)=reprText z:=by simp [PyData.shown]
  rw [e];omega
section
variable {K:aR}{H:Hp}
mutual
def lI (K:aR)(H:Hp):PyData->V->Prop
 | .str x,v=>v=.str x
 | .int i,v=>v=.int i
 | .list xs,v=>∃a ys,v=.ref a/\aG K H a ys/\nr K H xs ys
 | .tuple xs,v=>∃a ys,v=.ref a/\bf K H a ys/\nr K H xs ys
 | _,_=>False
def nr (K:aR)(H:Hp):List PyData->List V->Prop
 | [],ys=>ys=[]
 | d::ds,ys=>∃y r,ys=y::r/\lI K H d y/\nr K H ds r
end
end
section
variable {X:Cx}{ag:List (Addr×Obj)}{σ:St}{H:Hp}{s:Shared}
mutual
theorem uJ (I:Inv X ag σ H s):∀(d:PyData)(v:V)(u:Value),lI X.K H d v->RelV v u->∃as,Reads s.heap u d as
 | .str x,v,u,h,r=>by
  cases (show v=.str x by simpa [lI] using h);obtain⟨t,rfl⟩:=(show ∃t,u=Value.str x t from r);exact⟨_,.str x t⟩
 | .int i,v,u,h,r=>by
  cases (show v=.int i by simpa [lI] using h);obtain⟨t,rfl⟩:=(show ∃t,u=Value.int i t from r);exact⟨_,.int i t⟩
 | .list xs,v,u,h,r=>by
  obtain⟨a,ys,rfl,hq,ha⟩:=(show ∃a ys,v=.ref a/\aG X.K H a ys/\nr X.K H xs ys by simpa [lI] using h);cases (show u=Value.ref a from r);obtain⟨aN,rv,⟨o,n,eo,c,_,d⟩,_⟩:=I.list hq;obtain⟨as,ra⟩:=px I xs ys aN ha rv;exact⟨_,Reads.list eo c d (by simpa using ra)⟩
 | .tuple xs,v,u,h,r=>by
  obtain⟨a,ys,rfl,hq,ha⟩:=(show ∃a ys,v=.ref a/\bf X.K H a ys/\nr X.K H xs ys by simpa [lI] using h);cases (show u=Value.ref a from r);obtain⟨aN,rv,⟨o,ho,hc,n,hd⟩,_⟩:=I.tuple hq;obtain⟨as,ra⟩:=px I xs ys aN ha rv;exact⟨_,Reads.tuple ho hc hd (by simpa using ra)⟩
 | .none,v,u,h,r=>absurd h (by simp [lI])
 | .bool _,v,u,h,r=>absurd h (by simp [lI])
 | .dict _,v,u,h,r=>absurd h (by simp [lI])
theorem px (I:Inv X ag σ H s):∀(ds:List PyData)(ys:List V)(us:List Value),nr X.K H ds ys->aV ys us->∃as,ReadsAll s.heap us ds as
 | [],ys,us,h,r=>by
  cases (show ys=[] by simpa [nr] using h);cases r;exact⟨_,.nil⟩
 | d::ds,ys,us,h,r=>by
  obtain⟨y,r2,rfl,h1,h2⟩:=(show ∃y r,ys=y::r/\lI X.K H d y/\nr X.K H ds r by simpa [nr] using h);cases r with
  | cons a b =>
   obtain⟨as,q1⟩:=uJ I d _ _ h1 a;obtain⟨bs,q2⟩:=px I ds _ _ h2 b;exact⟨_,.cons q1 q2⟩
end
end
section
variable {X:Cx}
structure Ie (d:PyData):Prop where
 sh:d.showable=true
 nd:d.hasDict=false
 dp:d.depth<=8
 ln:d.shown.length<=10005002
def Pq (K:aR)(t:TE):TE:=λσ H Q=>t σ H λv H1=>∃a d,v=.ref a/\lI K H1 d v/\Ie d/\∀y,Q (.str y) H1
def wL {e:Expr}{te:TE}{a:Str}{j:Nat}{p1 p2 pos:Pos}(hg:X.A.guards=some [])(hu:X.A.units+8 < cLine)(he:PE X e te)(ha:a.length<=1000) :
  PE X (.JoinedStr [.Constant (.str a) j p1,.FormattedValue e 114 none p2] pos) (Pq X.K te):=by
 intro ag s σ H Q I h;refine wpAny_JoinedStr ?_;show wpAny _ _ (eval _ X.env) _ _ _;refine vC ⟨a,_,rfl,?_,?_⟩
 .show (Str.empty++a).length<=sizeLine;rw [jS,gL];show 0+a.length<=_;omega
 have l0:(Str.empty++a).length=a.length:=by rw [jS];exact mh _
 show wpAny _ _ (eval _ X.env) _ _ _;refine wpAny_FormattedValue_repr (cK (he ag _ σ H _ (I.tok _) h) λu s1 aS=>?_);obtain⟨v,H1,I1,rv,l,d,ev,hd,ok,q⟩:=aS;obtain⟨as,rd⟩:=uJ I1 d v u hd rv;subst ev;cases (show u=Value.ref l from rv);have lz:=ok.ln;have Qt:d.shown.length<=sizeLine:=by rw [gL];omega
 refine pyReprObj_of_reads rd ok.sh (PyData.noDict_hsm ok.nd) hg (by have:=ok.dp;omega) (λ_ _ z=>z) (λh' u tk hk=>?_) Qt;have fin:(Str.empty++a++d.shown).length<=sizeLine:=by
  rw [jS,l0,gL];omega
 refine wpAny_formatField_str ⟨_,_,rfl,fin,?_⟩ ⟨_,_,rfl,fin,?_⟩ Qt
 .exact⟨fin,.str _,H1,I1.kept (t':=_) hk,⟨_,rfl⟩,q _⟩
 exact⟨fin,.str _,H1,I1.kept (t':=_) hk,⟨_,rfl⟩,q _⟩
end
theorem yj {K:aR}{H:Hp}:∀zs:List Str,nr K H (zs.map PyData.str) (zs.map V.str)
 | []=>by simp [nr]
 | z::r=>by
  have:∃y s,V.str z::r.map V.str=y::s/\lI K H (.str z) y/\nr K H (r.map PyData.str) s:=⟨_,_,rfl,by simp [lI],yj r⟩;rw [bL,bL,nr];exact this
def uI {zs:List Str}(hl:zs.length<=1000)(hz:∀z∈zs,fC z):Ie (.list (zs.map PyData.str)):=by
 refine⟨by simp [PyData.showable,lV],by simp [PyData.hasDict,p5],by simp [PyData.depth,rW],?_⟩;have h1:=qc (PyData.shownAll (zs.map PyData.str));have h2:=sE zs hz;have e:(PyData.list (zs.map PyData.str)).shown=listText (PyData.shownAll (zs.map PyData.str)):=by simp [PyData.shown]
 rw [e];omega
def yh {K:aR}{H:Hp}{a:Addr}{zs:List Str}(h:aG K H a (zs.map V.str)):lI K H (.list (zs.map PyData.str)) (.ref a):=by
 have:∃b ys,V.ref a=.ref b/\aG K H b ys/\nr K H (zs.map PyData.str) ys:=⟨a,_,rfl,h,yj zs⟩;simpa [lI] using this
def ve (p:Nat×Nat):PyData:=.tuple [.int (p.1:Int),.int (p.2:Int)]
theorem nX:∀ps:List (Nat×Nat),(∀p∈ps,p.1<=1000/\p.2<=1000)->PyData.showableAll (ps.map ve)=true
 | [],_=>by simp [PyData.showableAll]
 | p::r,h=>by
  have l:∀n:Nat,n<=1000->((n:Int).natAbs.log2 < 1920):=λn hn=>by
   rw [Int.natAbs_natCast];by_cases z:n=0
   .subst z;decide
   exact(Nat.log2_lt z).mpr (ml hn (eD (show 1000 < 2 ^ 10 by decide) (Nat.pow_le_pow_right nofun nofun)))
  obtain⟨h1,h2⟩:=h p bO;have i1:=l p.1 h1;have i2:=l p.2 h2;rw [Int.natAbs_natCast] at i1 i2;simp [PyData.showableAll,PyData.showable,ve,nX r (λx hx=>h x (bS _ hx)),i1,i2]
theorem sC:∀ps:List (Nat×Nat),PyData.hasDictAll (ps.map ve)=false
 | []=>by simp [PyData.hasDictAll]
 | p::r=>by simp [PyData.hasDictAll,PyData.hasDict,ve,sC r]
theorem uK:∀ps:List (Nat×Nat),PyData.depthAll (ps.map ve)<=1
 | []=>by simp [PyData.depthAll]
 | p::r=>by
  have:=uK r;simp only [bL,PyData.depthAll,ve,PyData.depth];omega
def Mx {p:Nat×Nat}(h:p.1<=1000/\p.2<=1000):(ve p).shown.length<=100:=by
 have l:∀n:Nat,n<=1000->(Str.ofString (toString (n:Int))).length<=11:=λn hn=>by
  rw [PySem.ofString_length];exact int_text_length_le10 (k:=10) nofun (by rw [Int.natAbs_natCast];exact ml hn nofun)
 have e:(ve p).shown=tupleText [Str.ofString (toString (p.1:Int)),Str.ofString (toString (p.2:Int))]:=by simp [PyData.shown,PyData.shownAll,ve]
 rw [e];unfold tupleText;rw [jS,jS];have j:=join_length_add [Str.ofString (toString (p.1:Int)),Str.ofString (toString (p.2:Int))] (by simp);rw [piled_cons,piled_cons,piled_nil] at j;have h1:=l p.1 h.1;have h2:=l p.2 h.2;have e1:(("(":String):Str).length=1:=rfl;have e2:(((if [Str.ofString (toString (p.1:Int)),Str.ofString (toString (p.2:Int))].length == 1 then ",)" else ")":String):Str)).length<=2:=by split <;> decide
 rw [e1];omega
theorem uL:∀(ps:List (Nat×Nat)),(∀p∈ps,p.1<=1000/\p.2<=1000)->piled (PyData.shownAll (ps.map ve))<=102 * ps.length
 | [],_=>by simp [PyData.shownAll,piled_nil]
 | p::r,h=>by
  have ih:=uL r λx hx=>h x (bS _ hx);have h3:=Mx (h p bO);rw [bL,eC];show piled (PyData.shown (ve p)::PyData.shownAll (r.map ve))<=_;rw [piled_cons];omega
def FR {ps:List (Nat×Nat)}(hl:ps.length<=1000)(hp:∀p∈ps,p.1<=1000/\p.2<=1000):Ie (.list (ps.map ve)):=by
 refine⟨by simp [PyData.showable,nX ps hp],by simp [PyData.hasDict,sC],by have:=uK ps;simp only [PyData.depth];omega,?_⟩;have h1:=qc (PyData.shownAll (ps.map ve));have h2:=uL ps hp;have e:(PyData.list (ps.map ve)).shown=listText (PyData.shownAll (ps.map ve)):=by simp [PyData.shown]
 rw [e];omega
theorem BZ {K:aR}{H:Hp}:∀{ts:List Addr}{ps:List (Nat×Nat)},Paired (λt (p:Nat×Nat)=>bf K H t [.int (p.1:Int),.int (p.2:Int)]) ts ps->nr K H (ps.map ve) (ts.map V.ref)
 | [],[],_=>by simp [nr]
 | t::ts,p::ps,.cons a b=>by
  rw [bL,bL,nr];refine⟨_,_,rfl,?_,BZ b⟩;have:∃b ys,V.ref t=.ref b/\bf K H b ys/\nr K H [.int (p.1:Int),.int (p.2:Int)] ys:=⟨t,_,rfl,a,by simp [nr,lI]⟩;rw [ve,lI];exact this
def Jd {K:aR}{H:Hp}{a:Addr}{ts:List Addr}{ps:List (Nat×Nat)}(h:aG K H a (ts.map V.ref))(hp:Paired (λt (p:Nat×Nat)=>bf K H t [.int (p.1:Int),.int (p.2:Int)]) ts ps):lI K H (.list (ps.map ve)) (.ref a):=by
 have:∃b ys,V.ref a=.ref b/\aG K H b ys/\nr K H (ps.map ve) ys:=⟨a,_,rfl,h,BZ hp⟩;rw [lI];exact this
section
variable {X:Cx}{k km:Nat}{f fm C W:Addr}{fd fdm:FuncData}{Zg:List Str}{SY:Sp}{m y:Str}{i:Nat}{py mp:Pos}{pl:Sem Bool}{ps:List Str}{sp:Sp}{ds:List Value}{dvs:List V}{x Cn n:Str}{a:Expr}{as:List Expr}{t:TA}{j:Nat}{b₀:Stmt}{Bv:List Stmt}{tb:TS}{p cp ap np hp pos apos:Pos}
def LW (K:Frag)(C:Addr)(sp:Sp)(dvs:List V)(m:Str)(SY:Sp)(W:Addr) (i j:Nat)(t:TA)(tb:TS):TS:=λD σ H=>t σ H λvs H1=>∀x dx,H1 x=none->H1 dx=none->dx≠x ->
 sp (.ref x::(vs++dvs)) (upd (upd H1 dx (.own x)) x (.ins C dx [])) (λv H2=>v=.dG/\∃dx fs,H2 x=some (.ins C dx fs)/\fs.lookup m=none/\SY [.ref x] H2 (λv3 H3=>D.nx (σ.set i (some v3)) H3) λ_ _ _=>False) λcls dx H'=>exmOne K cls (.ref W)=some true /\
  ∀ea,H' ea=some (oA ea cls dx)->tb { nx:=λσ' H''=>(∃v,σ'[j]?=some v)/\D.nx (σ'.set j none) H'',rt:=λ_ _=>False } (σ.set j (some (.ref ea))) H'
def FY (jF:X.stack=X.env::X.outer)(hfm:X.env.frame=some X.env.locals)(ZK:∀e s,¬X.xe e s)(M:Mk X.K C f)(F:bh X.prog X.w X.K X.mg X.base (i3 X.prog X.w) k f fd ps sp)(hr:dD (k+1) X.A)(hg:Gl X x)(hm:X.mg x=some (.ref C))
  (hb:Binds X.K fd ps ds)(hd:aV dvs ds)(ha:PA X (a::as) t)(hN:X.N.Nodup)(hgC:Gl X Cn)(hmC:X.mg Cn=some (.ref W))(hj:X.N[j]?=some n)(hn:X.env.scope.names.lookup n=some .local)
  (c:CY X.K C)(ZV:Meth X.K C m fm)(Fm:bh X.prog X.w X.K X.mg X.base fJ km fm fdm Zg SY)(hrm:dD km X.A)(W5:Binds X.K fdm Zg [])(hi:X.N[i]?=some y)(hy:Loc X.env.scope y)(hsu:∀ea,xP (X.hold ea) (b₀::Bv) tb)
  (qr:(x == ("__debug__":Str))=false:=by decide)(hdC:(Cn == ("__debug__":Str))=false:=by decide)(he:starEach (a::as) X.env=(false,eval a X.env)::starEach as X.env:=by rfl)(l7:(backTo cp (starEach as X.env)).any (·.1)=false:=by rfl)
  (hs:swapsWith (.Call (.Attribute (.Call (.Name x p) (a::as) [] cp) m apos) [] [] mp) (some (.Name y py)) ap.line X.env=pure false:=by rfl)(hf:X.fn y=true\/X.env.scope.names.lookup y=some .local:=by first | exact .inl rfl | exact .inr rfl | assumption)
  (ht:eval (.Call (.Attribute (.Call (.Name x p) (a::as) [] cp) m apos) [] [] mp) X.env=(do
   let ov <-eval (.Call (.Name x p) (a::as) [] cp) X.env
   standAt apos.atName
   let (f,first) <-holding [ov] (getMethod ov m pl)
   callWith mp f first (backTo mp (starEach [] X.env)) (backToKw mp (keywordEach [] X.env))):=by rfl) :
  PS X (.Try [.Assign [.Name y py] (.Call (.Attribute (.Call (.Name x p) (a::as) [] cp) m apos) [] [] mp) ap] [.ExceptHandler (some (.Name Cn np)) (some n) (b₀::Bv) hp] [] [] pos) (LW X.K C sp dvs m SY W i j t tb):=by
 intro ag s σ H D I h;refine wpAny_Try_except (wpAny_execs_cons (wpAny_Assign_Name ?_ hs));refine PySem.W.methodCall_KW (pl:=pl) ?_ ht;refine lP (iN I hg hm ?_ qr);refine callWith_K (h₀:=X.base) I.ok.mod.MX M.kp (cv (ha cp ag s σ H _ I h) (λus s1 aS=>?_) λe s' z=>absurd z (ZK e s')) he l7;obtain⟨vs,H1,I1,r,q⟩:=aS;refine⟨I1.jo,?_⟩;have hq:=q (s1.heap.objs.size+1) s1.heap.objs.size (I1.bF.fresh (iG _)) (I1.bF.fresh (aH _)) (bw (ny _));have I2:=Inv.made (C:=C) I1;have r2:aV (V.ref (s1.heap.objs.size+1)::(vs++dvs)) (Value.ref (s1.heap.objs.size+1)::(us++ds)):=.cons rfl (r.append hd);have hl:(Value.ref (s1.heap.objs.size+1)::us++ds).length=ps.length:=by
  have e:=r2.length;rw [F.len _ _ _ _ hq] at e;exact e.symm
 refine h_ (yG (f:=f) I1.jo M.makes M.init (beq_iff_eq.mp M.fn) (jq (F.run _ X.stack _ _ ⟨Value.ref (s1.heap.objs.size+1)::us,[]⟩ (Value.ref (s1.heap.objs.size+1)::(us++ds)) _ _ _ (hr.make C us [])
  (I2.HA.make C us []) (hb _ (Value.ref (s1.heap.objs.size+1)::us) I2.jo hl) r2 hq) λr' s' z=>?_))
 cases r' with
 | ok fl =>
  cases fl with
  | next=>exact False.elim z
  | brk=>exact False.elim z
  | cont=>exact False.elim z
  | ret u =>
   obtain⟨v,H',I3,rv,ev,XW,Hs,e3,l3,q3⟩:=I2.after z;subst ev;refine⟨rv,mX I3 e3 c ZV l3 ?_⟩;refine PySem.W.callWith_K0 (first:=[.ref (s1.heap.objs.size+1)]) I3.jo ZV.kp (cv (Ah (E:=λ_ _ _=>False) (ds:=[]) (dvs:=[]) (us:=[.ref (s1.heap.objs.size+1)]) (vs:=[.ref (s1.heap.objs.size+1)]) Fm hrm W5 .nil p_ I3 (.cons rfl .nil) q3) (λu4 s4 aS=>?_) λe s' z=>absurd z (ZK e s'));obtain⟨v4,H4,I4,r4,q4⟩:=aS;exact ja I4 hN hi hy r4 (λs5 I5=>oU (oU ⟨_,H4,I5,q4⟩)) hf
 | error e =>
  obtain⟨ea,cls,dx,H',rfl,os,bare,un,bF,⟨T0,xK,t1,t2,t3,t4⟩,hex,q⟩:=z;have J:=I2.CD (ch:=[]) os un bF bare (λb z=>absurd z (by simp));have fr:X.A.frames=some (X.env::X.outer):=by rw [<-jF];exact I.ok.frames
  have KJ:=J.stack;rw [jF] at KJ;refine uQ fr KJ hfm xK λh1 T m1 lT F1=>mY (fs:=qx X.stack) F1 λh2 m2 F2=>?_;rw [<-jF] at m1;have nT:=J.bF.fresh lT;have J1:=J.moved (cs:=[T0]) m1 t2 F1 (λb hb=>by obtain rfl:b=T0:=(by simpa using hb);exact⟨t1,I2.away t3⟩);have J2:=J1.moved (cs:=[T]) (m2.mono λb hb=>bS _ hb) t2 F2 (λb hb=>by obtain rfl:b=T:=(by simpa using hb);exact⟨nT,J.away lT⟩);refine wpAny_handleBy_cons (codeAny_handlers_test (iN (X:=X.hold ea) (J2.hold ea) hgC hmC ?_ hdC)) (by intro z;cases z);have lk:Looks (model X.prog X.w) h2 (typeOf (.ref ea)) cls:=by
   obtain⟨oe,_,_,_,he,hc,_⟩:=F2;rw [<-hc];exact(Looks.ld he).andThen .now
  refine Looks.here (s:={ { { s' with heap:=h1 } with heap:=h2 } with heap:=h2 }) (exm_one J2.jo lk hex) ?_;refine codeAny_handlers_suite_as (mY (fs:=qx X.stack) F2 λh3 m3 F3=>?_);have J3:=J2.moved (cs:=[T]) (m3.mono λb hb=>bS _ hb) t2 F3 (λb hb=>by obtain rfl:b=T:=(by simpa using hb);exact⟨nT,J.away lT⟩);refine ja (X:=X.hold ea) (v:=.ref ea) (J3.hold ea) hN hj (.inl hn) rfl (λs4 I4=>?_) (.inr hn);refine cv (hsu ea ag s4 _ H' _ I4 (q ea t2)) (λfl s5 z=>?_) λ_ _ z=>False.elim z;cases fl with
  | brk=>obtain⟨_,_,_,z⟩:=z;exact False.elim z
  | cont=>obtain⟨_,_,_,z⟩:=z;exact False.elim z
  | ret u=>obtain⟨_,_,_,_,_,z⟩:=z;exact False.elim z
  | next =>
   obtain⟨σ5,H5,I5,⟨v5,e5⟩,q5⟩:=z;have K5:Inv X ag σ5 H5 s5:=Inv.LR (ok:=I.ok) I5;refine ax (wpAny_bindName (ja (v:=.dG) K5 hN hj (.inl hn) rfl (λs6 I6=>?_) (.inr hn)));unfold unbindBehindTheSuite;refine wpAny_onRaise (C1 (v:=.dG) I6 hN hj hn ?_ λs7 I7=>?_)
   .exact vV (aY.mp e5).1
   rw [List.set_set] at I7;exact⟨_,H5,I7,q5⟩
end
def C0 (K:Frag)(C:Addr)(jP:List Value)(newId:String):Bool:=match K.lookup C with
 | some ⟨.type "type",_,.cls c,sl⟩=>(match c.mro,sl.toList with
  | .ref D::bm,[_,_,_,_,some (.builtin n),_]=>D == C && n == newId && !c.hasDel && tailIn K jP bm && nsOkIn K c.ns && (nsIn K c.ns "__init__" == some none)
  | _,_=>false)
 | _=>false
def ns_none_of {K:Frag}{h:Heap}{N:Addr}{m:Str->Option Value}{n:Str}(X:K.In h)(G:h.Ns N m)(e:nsIn K N n=some none):m n=none:=by
 obtain⟨o,es,ep,ho,hd,_,hf⟩:=G;unfold nsIn at e
 split at e
 .rename_i c d ub n' sl q
  have:=X _ _ q;rw [ho] at this;cases this;cases hd
  split at e
  .cases e
  rename_i he
  rw [<-hf];unfold nsFind findBy;rw [<-Array.find?_toList,he];rfl
 cases e
def O9 {K:Frag}{h:Heap}{C:Addr}{jP:List Value}{newId:String}(X:K.In h)(q:C0 K C jP newId=true) :
  ∃nm qn N bs bm jG sn sub ab col dd k0 k1 k2 k3 k5 mN,h.get? C=some (excClassObj nm qn C N bs bm jG sn sub ab col dd k0 k1 k2 k3 k5 newId)/\h.Ns N mN/\mN "__init__"=none/\OwnTail h jP bm:=by
 unfold C0 at q
 split at q
 .rename_i dd c sl ho
  split at q
  .rename_i D bm k0 k1 k2 k3 n k5 hm hs
   simp only [iH,beq_iff_eq,rC] at q;obtain⟨⟨⟨⟨⟨rfl,rfl⟩,Hj⟩,ht⟩,bF⟩,EK⟩:=q;obtain⟨nm,bs,mro,ns,qn,hd,sn,sub,ab,col,del⟩:=c;dsimp only at hm Hj bF EK;subst hm Hj;have EJ:sl=#[k0,k1,k2,k3,some (.builtin n),k5]:=by
    obtain⟨l⟩:=sl;simp only at hs;rw [hs]
   subst EJ;have hN:h.Ns ns (h.nsMap ns):=.of_isNs (isNs_of_in X bF);exact⟨nm,qn,ns,bs,bm,hd,sn,sub,ab,col,dd,k0,k1,k2,k3,k5,_,X _ _ ho,hN,ns_none_of X hN EK,tail_of_in X ht⟩
  cases q
 cases q
section
variable {prog:Program}{w:World}{A:Around}{E:Value->Shared->Prop}{h:Heap}{g:Array GenState}{d:Drawn}{t:Nat}{os:OsState}
variable {nm qn:Str}{C N:Addr}{bs bm jP:List Value}{jG:Bool}{sn:List Str}{sub:List Value}{ab:Bool}{col:Option Bool}{dd:Option Addr}{k0 k1 k2 k3 k5:Option Value}{B newId fh:String}
 {mN:Str->Option Value}
def LH (h h':Heap)(C:Addr):Prop:=(∀b o,h.get? b=some o->h'.get? b=some o)/\∃a0,h'.get? (h.objs.size+1)=some (newObj C none (.ref a0))
def GK (F:ExcBaseFacts B newId fh jP)(T:OwnTail h jP bm){Q:Fin->Shared->Prop}(hC:h.get? C=some (excClassObj nm qn C N bs bm jG sn sub ab col dd k0 k1 k2 k3 k5 newId))(hn:h.Ns N mN)
  (hi:mN "__init__"=none)(hq:∀h',LH h h' C->Q (.done (.ret (.ref (h.objs.size+1)))) ⟨h',g,d,t,os⟩) :
  wpAny (model prog w) A (Builtin.«type.__call__» ⟨[.ref C],[]⟩) Q E ⟨h,g,d,t,os⟩:=by
 repeat (first
  | with_reducible refine kc hC ?_
  | with_reducible refine wpAny_madeBy_exc hC ?_
  | wp_step)
 refine codeAny_call_builtin_code (vD _ F.quiet) (wpAny_check_new_subT F T hC (codeAny_exc_new_subT F T hC (rest:=[]) ?_ rP));show wpAny _ _ _ _ _ _;have up:∀b o,h.get? b=some o->((h.push (iq [])).push (newObj C none (.ref h.objs.size))).get? b=some o:=λb o e=>bu _ (bu _ e);have c1:=up _ _ hC;have n1:=hn.keeps up;have T1:=T.keeps up;have g1:((h.push (iq [])).push (newObj C none (.ref h.objs.size))).get? (h.objs.size+1)=some (newObj C none (.ref h.objs.size)):=by heap_get
 have me:(Value.ref C::bm).contains (.ref C)=true:=by simp
 unfold isInstance
 repeat (first
  | with_reducible refine kc g1 ?_
  | (with_reducible refine wpAny_isSubtype_exc c1 ?_;rw [me])
  | wp_step)
 show wpAny _ _ (typeLookup (.ref C) _) _ _ _;refine wpAny_typeLookup_tail c1 n1 T1 F.mroIs F.init.lookup ?_;rw [hi];refine gi ?_;refine ax ?_;refine wpAny_of_eq (F.init.bind _) ?_;refine ax ?_;refine h_ ?_;refine pT F.init.plain F.initEntry ?_;refine wpAny_check_init_subT F T1 c1 g1 rfl ?_
 wp_walk
 refine hq _ ⟨λb o hb=>?_,h.objs.size+2,?_⟩
 .rw [gK _ _ (jI (rH (aO hb)))];exact bu _ (up b o hb)
 rw [lR _ (bu _ g1) rfl];simp only [j7];rfl
def JC (F:ExcBaseFacts B newId fh jP)(T:OwnTail h jP bm){Q:Value->Shared->Prop}(hC:h.get? C=some (excClassObj nm qn C N bs bm jG sn sub ab col dd k0 k1 k2 k3 k5 newId))(hn:h.Ns N mN)
  (hi:mN "__init__"=none)(hq:∀h',LH h h' C->Q (.ref (h.objs.size+1)) ⟨h',g,d,t,os⟩) :
  wpAny (model prog w) A (call (.ref C) []) Q E ⟨h,g,d,t,os⟩:=by
 have a1:=tc_lookup;have a2:=tc_bind (.ref C);have a3:(⟨h,g,d,t,os⟩:Shared).TypeIs (.ref C) "type" := ⟨_,hC,rfl⟩;refine h_ (codeAny_of_tree ?_);show wpAny _ _ (callAny (.ref C) _) _ _ _
 repeat (any_goals (first
  | assumption
  | with_reducible refine kc hC ?_
  | wp_step))
 exact⟨rfl,codeAny_call_builtin_at (vD _ nofun) entry_typeCall (wpAny_check_type_call_sub hC (GK F T hC hn hi hq))⟩
end
section
variable {P:Program}{w:World}{K:Frag}{mg:Str->Option Value}{base:Heap}{N:List Str}{qual:Str}{scope:Scope}{f:Addr}{cd:Value}{A:Around}{outer:List Env}{s₀:Shared}{H₀:Hp}{E:XK}
def UK (C:Addr)(E:XK):TS:=λ_ _ H=>∀ea,H ea=none->E (.ref C) none (upd H ea (oA ea (.ref C) none))
def Dh {x:Str}{C:Addr}{p cp pos:Pos}{B newId fh:String}{jP:List Value}(F:ExcBaseFacts B newId fh jP)(hx:C0 K C jP newId=true)(hb:jP.contains (.type "BaseException")=true)(WK:keepIn K (.ref C)=true)
  (hg:Gl (dM (i3 P w) P w K mg base N qual scope f cd A outer s₀ H₀ E) x)(hm:mg x=some (.ref C))(qr:(x == ("__debug__":Str))=false:=by decide) :
  PS (dM (i3 P w) P w K mg base N qual scope f cd A outer s₀ H₀ E) (.Raise (some (.Call (.Name x p) [] [] cp)) none pos) (UK C E):=by
 intro ag s σ H D I h;rw [arm_exec_Raise];refine ax (mi (yk (I.ok.hd rfl) (ax ?_)));refine lP (iN I hg hm ?_ qr);refine PySem.W.callWith_K0 I.jo WK ?_;obtain⟨nm,qn,Nn,bs,bm,jG,sn,sub,ab,col,dd,k0,k1,k2,k3,k5,mN,hC,hN,hi,T⟩:=O9 I.jo hx;obtain⟨hp,gs,dr,tk,os⟩:=s;refine JC F T hC hN hi λh' made=>ax (mi (aI ?_));obtain⟨keeps,a0,e0⟩:=made;have I1:=I.laid (a:=hp.objs.size+1) (o:=newX (hp.objs.size+1) C none) (t':=tk) (h':=h') keeps (iG _) (qP e0);refine⟨hp.objs.size+1,a0,C,none,rfl,e0,⟨nm,qn,Nn,bs,bm,jG,sn,sub,ab,col,dd,k0,k1,k2,k3,k5,newId,keeps _ _ hC,T.hasType hb⟩,?_⟩;have J:=I1.Kb (n:=none) (o:=oA (hp.objs.size+1) (.ref C) none) (t':=tk) (h':=h') ae (λ_ _ _ z=>z) ⟨_,e0⟩ (bw (aO e0)) (λH'=>xn e0 rfl rfl rfl) (λm em=>by cases em);rw [ig] at J;exact cv (n8 (E:=E) J I.ok.frames rfl rfl rfl e0 rfl rfl ⟨ae,cQ I.sz (iG _)⟩ (h (hp.objs.size+1) (I.bF.fresh (iG _)))) (λ_ _ z=>z) λ_ _ z=>z
end
section
variable {X:Cx}
def Pp (t:TE):TE:=λσ H Q=>t σ H λv H1=>∃z,v=.str z/\fC z/\∀y,Q (.str y) H1
def Jl {e:Expr}{te:TE}{b:Str}{j:Nat}{p1 p2 pos:Pos}(he:PE X e te)(hb:b.length<=1000) :
  PE X (.JoinedStr [.FormattedValue e 114 none p2,.Constant (.str b) j p1] pos) (Pp te):=by
 intro ag s σ H Q I h;refine wpAny_JoinedStr ?_;show wpAny _ _ (eval _ X.env) _ _ _;refine wpAny_FormattedValue_repr (cK (he ag _ σ H _ I h) λu s1 aS=>?_);obtain⟨v,H1,I1,rv,z,ev,tx,q⟩:=aS;subst ev;obtain⟨t,rfl⟩:=(show ∃t,u=Value.str z t from rv);have lz:=PySem.StrLaws.reprText_len z tx.2;have l1:=tx.1;have Qt:(reprText z).length<=sizeLine:=by rw [gL];omega
 refine wpAny_pyReprObj_str ?_ Qt;have f1:(Str.empty++reprText z).length<=sizeLine:=by
  rw [jS];show 0+_<=_;omega
 have f2:(Str.empty++reprText z++b).length<=sizeLine:=by
  rw [jS,jS,gL];show 0+_+_<=_;omega
 refine wpAny_formatField_str ⟨_,_,rfl,f1,?_⟩ ⟨_,_,rfl,f1,?_⟩ Qt
 .show wpAny _ _ (eval _ X.env) _ _ _;exact vC ⟨b,_,rfl,f2,f2,.str _,H1,I1.tok _,⟨_,rfl⟩,q _⟩
 show wpAny _ _ (eval _ X.env) _ _ _;exact vC ⟨b,_,rfl,f2,f2,.str _,H1,I1.tok _,⟨_,rfl⟩,q _⟩
end
end L2
namespace fY
open PySem L2 M11 PySem.W
abbrev sk:Stmt:=Iq (top 15) 0
abbrev zZ:Stmt:=Iq (top 16) 0
abbrev z_:Stmt:=Iq (top 17) 0
abbrev qJ:Stmt:=Iq (top 14) 0
abbrev zr:List Value:=[.type "ValueError",.type "Exception",.type "BaseException",.type "object"]
structure Lz (K:Frag)(mg:Str->Option Value)(nm fld:Str)(C W fI:Addr):Prop where
 x:KH K C fI zr "ValueError.__new__"=true
 kp:keepIn K (.ref C)=true
 mC:mg nm=some (.ref C)
 mW:mg "WrightError"=some (.ref W)
 xc:∃cd,XC K C cd
 tk:takerIn K C fld=some none
 bi:BI K W "ValueError.__init__"
 fn:∃oI,K.lookup fI=some oI/\oI.cls=.type "function"
section
variable {P:Program}{w:World}{K:aR}{mg:Str->Option Value}{base:Heap}{f C W:Addr}{fd:FuncData}
def E8 {A:Around}{k n:Nat}(hr:dD k A)(h:n<=16 * k+200):A.units+n < cLine:=by have:=hr.un;omega
def nF (K:Frag)(C:Addr)(fld:Str):Sp:=λvs H Q _=>∃(ea l:Addr)(xs:List V)(d:PyData),vs=[.ref ea,.ref l]/\aG K H l xs/\lI K H d (.ref l)/\Ie d/\H ea=some (newX ea C none) /\
 ∀m dx,H m=none->dx≠m->H dx=none->dx≠ea->Q .dG (upd (upd (upd H m (.lst xs)) dx (.xd [(fld,.ref m)])) ea (newX ea C (some dx)))
def De:aJ ["self","names"] ["self","names"] (aw sk):=iP rfl rfl rfl rfl nofun
def Ay (F:hZ K "__init__" "Endless.__init__" sk f fd)(T:Txt mg)(N:Lz K mg "Endless" "names" C W f):bh P w K mg base fJ 1 f fd ["self","names"] (nF K C "names"):=by
 refine F.ok De (by and_intros) (λdN A outer s H vs Q E hr h=>?_)
 obtain⟨ea,l,xs,d,rfl,hl,hd,ok,eH,q⟩:=h;refine⟨_,aj (b8 (n6 q_ N.bi rfl N.mW (af (pv 0) (af (wL hr.gd (E8 (n:=8) hr nofun) (pv 1) nofun) ak))))
  (ao (qL (pv 0) (aX df rfl T.lst dW (af (pv 1) ak)) rfl)),?_⟩
 obtain⟨cd,xc⟩:=N.xc;refine⟨_,rfl,_,rfl,l,d,rfl,hd,ok,λy=>⟨ea,C,f,none,_,rfl,eH,N.x,?_⟩⟩;refine⟨_,rfl,l,_,rfl,.inl hl,λm hm=>?_⟩;have nm:ea≠m:=λz=>by rw [<-z,eH] at hm;cases hm
 exact⟨_,rfl,ea,C,cd,rfl,(by rw [ai nm];exact eH),xc,N.tk,λdx h1 h2=>q m dx hm (λz=>by rw [z,ae] at h1;cases h1) (by rw [ai (λz=>by rw [z,ae] at h1;cases h1)] at h1;exact h1) h2⟩
def Fw:aJ ["self","names"] ["self","names"] (aw zZ):=iP rfl rfl rfl rfl nofun
def Dq (F:hZ K "__init__" "Unmet.__init__" zZ f fd)(T:Txt mg)(N:Lz K mg "Unmet" "names" C W f):bh P w K mg base fJ 1 f fd ["self","names"] (nF K C "names"):=by
 refine F.ok Fw (by and_intros) (λdN A outer s H vs Q E hr h=>?_)
 obtain⟨ea,l,xs,d,rfl,hl,hd,ok,eH,q⟩:=h;refine⟨_,aj (b8 (n6 q_ N.bi rfl N.mW (af (pv 0) (af (wL hr.gd (E8 (n:=8) hr nofun) (pv 1) nofun) ak))))
  (ao (qL (pv 0) (aX df rfl T.lst dW (af (pv 1) ak)) rfl)),?_⟩
 obtain⟨cd,xc⟩:=N.xc;refine⟨_,rfl,_,rfl,l,d,rfl,hd,ok,λy=>⟨ea,C,f,none,_,rfl,eH,N.x,?_⟩⟩;refine⟨_,rfl,l,_,rfl,.inl hl,λm hm=>?_⟩;have nm:ea≠m:=λz=>by rw [<-z,eH] at hm;cases hm
 exact⟨_,rfl,ea,C,cd,rfl,(by rw [ai nm];exact eH),xc,N.tk,λdx h1 h2=>q m dx hm (λz=>by rw [z,ae] at h1;cases h1) (by rw [ai (λz=>by rw [z,ae] at h1;cases h1)] at h1;exact h1) h2⟩
def IY:aJ ["self","steps"] ["self","steps"] (aw z_):=iP rfl rfl rfl rfl nofun
def Gr (F:hZ K "__init__" "Loop.__init__" z_ f fd)(T:Txt mg)(N:Lz K mg "Loop" "steps" C W f):bh P w K mg base fJ 1 f fd ["self","steps"] (nF K C "steps"):=by
 refine F.ok IY (by and_intros) (λdN A outer s H vs Q E hr h=>?_)
 obtain⟨ea,l,xs,d,rfl,hl,hd,ok,eH,q⟩:=h;refine⟨_,aj (b8 (n6 q_ N.bi rfl N.mW (af (pv 0) (af (wL hr.gd (E8 (n:=8) hr nofun) (pv 1) nofun) ak))))
  (ao (qL (pv 0) (aX df rfl T.lst dW (af (pv 1) ak)) rfl)),?_⟩
 obtain⟨cd,xc⟩:=N.xc;refine⟨_,rfl,_,rfl,l,d,rfl,hd,ok,λy=>⟨ea,C,f,none,_,rfl,eH,N.x,?_⟩⟩;refine⟨_,rfl,l,_,rfl,.inl hl,λm hm=>?_⟩;have nm:ea≠m:=λz=>by rw [<-z,eH] at hm;cases hm
 exact⟨_,rfl,ea,C,cd,rfl,(by rw [ai nm];exact eH),xc,N.tk,λdx h1 h2=>q m dx hm (λz=>by rw [z,ae] at h1;cases h1) (by rw [ai (λz=>by rw [z,ae] at h1;cases h1)] at h1;exact h1) h2⟩
def BD (C:Addr):Sp:=λvs H Q _=>∃(ea:Addr)(z:Str),vs=[.ref ea,.str z]/\fC z/\H ea=some (newX ea C none) /\
 ∀dx,H dx=none->dx≠ea->Q .dG (upd (upd H dx (.xd [("word",.str z)])) ea (newX ea C (some dx)))
def Fx:aJ ["self","word"] ["self","word"] (aw qJ):=iP rfl rfl rfl rfl nofun
def Dr (F:hZ K "__init__" "Twice.__init__" qJ f fd)(T:Txt mg)(N:Lz K mg "Twice" "word" C W f):bh P w K mg base fJ 1 f fd ["self","word"] (BD C):=by
 refine F.ok Fx (by and_intros) (λdN A outer s H vs Q E hr h=>?_)
 obtain⟨ea,z,rfl,ok,eH,q⟩:=h;refine⟨_,aj (b8 (n6 q_ N.bi rfl N.mW (af (pv 0) (af (Jl (pv 1) nofun) ak))))
  (ao (qL (pv 0) (pv 1) rfl)),?_⟩
 obtain⟨cd,xc⟩:=N.xc;refine⟨_,rfl,_,rfl,z,rfl,ok,λy=>⟨ea,C,f,none,_,rfl,eH,N.x,?_⟩⟩;exact⟨_,rfl,_,rfl,ea,C,cd,rfl,eH,xc,N.tk,λdx h1 h2=>q dx h1 h2⟩
end
end fY
namespace L2
open PySem PySem.Spec PyProof.Rows PySem.W
def Ph (te:TE):TE:=λσ H Q=>∃R:VK,te σ H R/\∀v H1,R v H1->Q v H1
def PE.mono {X:Cx}{e:Expr}{te:TE}(h:PE X e te):PE X e (Ph te):=λag s σ H Q I ⟨R,q,m⟩=>cK (h ag s σ H R I q) λu s1 ⟨x,H1,I1,r1,q1⟩=>⟨x,H1,I1,r1,m _ _ q1⟩
section
variable {P:Program}{w:World}{K:Frag}{mg:Str->Option Value}{base:Heap}{CX:vA}{k:Nat}{f:Addr}{fd:FuncData}{ps:List Str}{sp PL:Sp}
def bh.ex (G:bh P w K mg base fJ k f fd ps sp):bh P w K mg base CX k f fd ps sp :=
 ⟨G.len,λA outer s H args us vs Q E hr he hb hv hs=>jq (G.run A outer s H args us vs Q E hr he hb hv hs) λr s' z=>by
  cases r with
  | error e=>exact False.elim z
  | ok fl=>cases fl <;> exact z⟩
def bh.or (G:bh P w K mg base CX k f fd ps sp)(G':bh P w K mg base CX k f fd ps PL):bh P w K mg base CX k f fd ps (λvs H Q E=>sp vs H Q E\/PL vs H Q E) :=
 ⟨λvs H Q E h=>h.elim (G.len vs H Q E) (G'.len vs H Q E),λA outer s H args us vs Q E hr he hb hv hs=>hs.elim (G.run A outer s H args us vs Q E hr he hb hv) (G'.run A outer s H args us vs Q E hr he hb hv)⟩
end
mutual
theorem yi {K:aR}{H H':Hp}(s:aD H H'):∀{d:PyData}{v:V},lI K H d v->lI K H' d v
 | .str x,v,h=>by simpa [lI] using h
 | .int i,v,h=>by simpa [lI] using h
 | .list xs,v,h=>by
  obtain⟨a,ys,e,hq,ha⟩:=(show ∃a ys,v=.ref a/\aG K H a ys/\nr K H xs ys by simpa [lI] using h);have:∃a ys,v=.ref a/\aG K H' a ys/\nr K H' xs ys:=⟨a,ys,e,s.seq hq,su s ha⟩;rw [lI];exact this
 | .tuple xs,v,h=>by
  obtain⟨a,ys,e,hq,ha⟩:=(show ∃a ys,v=.ref a/\bf K H a ys/\nr K H xs ys by simpa [lI] using h);have:∃a ys,v=.ref a/\bf K H' a ys/\nr K H' xs ys:=⟨a,ys,e,s.tup hq,su s ha⟩;rw [lI];exact this
 | .none,v,h=>absurd h (by simp [lI])
 | .bool _,v,h=>absurd h (by simp [lI])
 | .dict _,v,h=>absurd h (by simp [lI])
theorem su {K:aR}{H H':Hp}(s:aD H H'):∀{ds:List PyData}{ys:List V},nr K H ds ys->nr K H' ds ys
 | [],ys,h=>by simpa [nr] using h
 | d::ds,ys,h=>by
  obtain⟨y,r,e,h1,h2⟩:=(show ∃y r,ys=y::r/\lI K H d y/\nr K H ds r by simpa [nr] using h);rw [nr];exact⟨y,r,e,yi s h1,su s h2⟩
end
end L2
namespace fY
open PySem L2 M11 PySem.W
def Su (P:Program)(w:World)(K:Frag)(mg:Str->Option Value)(base:Heap)(nm fld:Str)(C:Addr):Prop :=
 ∃W fI fd,Lz K mg nm fld C W fI/\bh P w K mg base fJ 1 fI fd ["self",fld] (nF K C fld)/\Binds K fd ["self",fld] []
def Sr (C:Addr)(fld:Str)(H:Hp)(E:XK)(xs:List V):Prop:=∀m dx H',aD H H'->H' dx=some (.xd [(fld,.ref m)])->H' m=some (.lst xs)->E (.ref C) (some dx) H'
section
variable {P:Program}{w:World}{K:Frag}{mg:Str->Option Value}{base:Heap}{N:List Str}{qual:Str}{scope:Scope}{f C:Addr}{cd:Value}{A:Around}{outer:List Env}{s₀:Shared}{H₀:Hp}{E:XK}
def UI (K:Frag)(C:Addr)(fld:Str)(E:XK)(te:TE):TS:=λ_ σ H=>te σ H λv H1=>∃l xs d,v=.ref l/\aG K H1 l xs/\lI K H1 d (.ref l)/\Ie d/\Sr C fld H1 E xs
def Al {nm fld:Str}{e:Expr}{te:TE}{p cp pos:Pos}(R:Su P w K mg base nm fld C)(hr:dD 2 (dM (i3 P w) P w K mg base N qual scope f cd A outer s₀ H₀ E).A)(hg:Gl (dM (i3 P w) P w K mg base N qual scope f cd A outer s₀ H₀ E) nm)
  (he:PE (dM (i3 P w) P w K mg base N qual scope f cd A outer s₀ H₀ E) e te)(qr:(nm == ("__debug__":Str))=false:=by decide)(jF:starEach [e] (dM (i3 P w) P w K mg base N qual scope f cd A outer s₀ H₀ E).env=(false,eval e (dM (i3 P w) P w K mg base N qual scope f cd A outer s₀ H₀ E).env)::starEach [] (dM (i3 P w) P w K mg base N qual scope f cd A outer s₀ H₀ E).env:=by rfl) :
  PS (dM (i3 P w) P w K mg base N qual scope f cd A outer s₀ H₀ E) (.Raise (some (.Call (.Name nm p) [e] [] cp)) none pos) (UI K C fld E te):=by
 obtain⟨W,fI,fd,Nn,G,b⟩:=R;obtain⟨oI,lk,Hi⟩:=Nn.fn;have raise:=yo (pos:=pos) (K1 (p:=p) (pos:=cp) q_ Nn.x lk Hi Nn.kp G (by show 2<=1000;decide) hr hg Nn.mC b p_ (af he.mono ak jF) qr jF rfl);intro ag s σ H D I h;refine raise ag s σ H D I ⟨_,h,λv H1 aS=>?_⟩;obtain⟨l,xs,d,ev,hq,hd,ok,q⟩:=aS;subst ev;intro ea h1 h2;have ka:=ah h1 (newX ea C none);refine⟨ea,l,xs,d,rfl,ka.seq hq,?_,ok,ae,λm dx hm nmd JS MM=>⟨rfl,ea,C,some dx,fI,zr,_,rfl,ae,h2,Nn.x,nofun,?_⟩⟩
 .exact yi ka hd
 have Vx:m≠ea:=λz=>by rw [z,ae] at hm;cases hm
 have Rf:H1 m=none:=by rw [ai Vx] at hm;exact hm
 have Nv:H1 dx=none:=by rw [ai MM] at JS;exact JS
 refine q m dx _ (λc o e=>?_) ?_ ?_
 .have n1:c≠ea:=aq e h1;have n2:c≠dx:=aq e Nv;have n3:c≠m:=aq e Rf;rw [ai n1,ai n1,ai n2,ai n3,ai n1];exact e
 .rw [ai MM,ai MM,ae]
 rw [ai Vx,ai Vx,ai (dC nmd),ae]
end
def YE (P:Program)(w:World)(K:Frag)(mg:Str->Option Value)(base:Heap)(C:Addr):Prop :=
 ∃W fI fd,Lz K mg "Twice" "word" C W fI/\bh P w K mg base fJ 1 fI fd ["self","word"] (BD C)/\Binds K fd ["self","word"] []
section
variable {P:Program}{w:World}{K:Frag}{mg:Str->Option Value}{base:Heap}{N:List Str}{qual:Str}{scope:Scope}{f C:Addr}{cd:Value}{A:Around}{outer:List Env}{s₀:Shared}{H₀:Hp}{E:XK}
def UJ (C:Addr)(E:XK)(te:TE):TS:=λ_ σ H=>te σ H λv H1=>∃z,v=.str z/\fC z/\∀dx H',aD H1 H'->H' dx=some (.xd [("word",.str z)])->E (.ref C) (some dx) H'
def Mv {e:Expr}{te:TE}{p cp pos:Pos}(R:YE P w K mg base C)(hr:dD 2 (dM (i3 P w) P w K mg base N qual scope f cd A outer s₀ H₀ E).A)(hg:Gl (dM (i3 P w) P w K mg base N qual scope f cd A outer s₀ H₀ E) "Twice")
  (he:PE (dM (i3 P w) P w K mg base N qual scope f cd A outer s₀ H₀ E) e te)(jF:starEach [e] (dM (i3 P w) P w K mg base N qual scope f cd A outer s₀ H₀ E).env=(false,eval e (dM (i3 P w) P w K mg base N qual scope f cd A outer s₀ H₀ E).env)::starEach [] (dM (i3 P w) P w K mg base N qual scope f cd A outer s₀ H₀ E).env:=by rfl) :
  PS (dM (i3 P w) P w K mg base N qual scope f cd A outer s₀ H₀ E) (.Raise (some (.Call (.Name "Twice" p) [e] [] cp)) none pos) (UJ C E te):=by
 obtain⟨W,fI,fd,Nn,G,b⟩:=R;obtain⟨oI,lk,Hi⟩:=Nn.fn;have raise:=yo (pos:=pos) (K1 (p:=p) (pos:=cp) q_ Nn.x lk Hi Nn.kp G (by show 2<=1000;decide) hr hg Nn.mC b p_ (af he.mono ak jF) nofun jF rfl);intro ag s σ H D I h;refine raise ag s σ H D I ⟨_,h,λv H1 aS=>?_⟩;obtain⟨z,ev,ok,q⟩:=aS;subst ev;intro ea h1 h2;refine⟨ea,z,rfl,ok,ae,λdx JS MM=>⟨rfl,ea,C,some dx,fI,zr,_,rfl,ae,h2,Nn.x,nofun,?_⟩⟩;have Nv:H1 dx=none:=by rw [ai MM] at JS;exact JS
 refine q dx _ (λc o e=>?_) ?_
 .have n1:c≠ea:=aq e h1;have n2:c≠dx:=aq e Nv;rw [ai n1,ai n1,ai n2,ai n1];exact e
 rw [ai MM,ai MM,ae]
end
section
def kS (P:Program)(w:World)(K:aR)(mg:Str->Option Value)(base:Heap) (k:Nat)(x:Str) (ps:List Str)(sp:Sp):Prop :=
 ∃f fd,bh P w K mg base (i3 P w) k f fd ps sp/\Binds K fd ps []/\PySem.W.keepIn K (.ref f)=true/\mg x=some (.ref f)
theorem kS.mono {j k:Nat}{x:Str}{ps:List Str}{sp:Sp}(c:kS P w K mg base j x ps sp)(h:j<=k):kS P w K mg base k x ps sp :=
 let ⟨f,fd,a,b⟩:=c;⟨f,fd,a.mono h,b⟩
def B6 {N:List Str}{qual:Str}{scope:Scope}{g:Addr}{cd:Value}{A:Around}{outer:List Env}{s₀:Shared}{H₀:Hp}{E:XK}{k:Nat}{x:Str}{ps:List Str}{sp:Sp}{e:Expr}{es:List Expr}{t:TA}{p pos:Pos}(c:kS P w K mg base k x ps sp)
  (hr:dD k (dM (i3 P w) P w K mg base N qual scope g cd A outer s₀ H₀ E).A)(hg:Gl (dM (i3 P w) P w K mg base N qual scope g cd A outer s₀ H₀ E) x)(ha:PA (dM (i3 P w) P w K mg base N qual scope g cd A outer s₀ H₀ E) (e::es) t)
  (qr:(x == ("__debug__":Str))=false:=by decide)(he:starEach (e::es) (dM (i3 P w) P w K mg base N qual scope g cd A outer s₀ H₀ E).env=(false,eval e (dM (i3 P w) P w K mg base N qual scope g cd A outer s₀ H₀ E).env)::starEach es (dM (i3 P w) P w K mg base N qual scope g cd A outer s₀ H₀ E).env:=by rfl)
  (l7:(backTo pos (starEach es (dM (i3 P w) P w K mg base N qual scope g cd A outer s₀ H₀ E).env)).any (·.1)=false:=by rfl) :
  PE (dM (i3 P w) P w K mg base N qual scope g cd A outer s₀ H₀ E) (.Call (.Name x p) (e::es) [] pos) (Ff sp [] E t):=by
 obtain⟨f,fd,G,b,kp,m⟩:=c;exact B7 G hr hg m kp b .nil (Qb λ_ _ _ z=>z) ha qr he l7
end
end fY
namespace L2
open PySem
def jk {x:Str}{K:aR}{H:Hp}{p D:Addr}{zs:List Str}{σ:St}{js:List (Nat×Str)}{cs:List (Option V)}{tif:TT}{Qp:Hp->Prop}(f:Str->Bool)(hσ:dI [x] js σ=none::cs)(hp:aG K H p (zs.map V.str))(hz:zs.length<=1000)(hD:H D=none)
  (ht:∀z∈zs,∀H2 Q,aD H H2->Q (f z) H2->tif (some (.str z)::cs) H2 Q)(q:∀H2,aD H H2->H2 D=some (.lst ((zs.filter f).map V.str))->Qp H2) :
  CWq (jQ K p) D (dI [x] js σ) H Qp (dP 0) tif (gG 0):=by
 refine bY (xs:=zs.map V.str) (λi ys σ2 H5=>ys=((zs.take i).filter f).map V.str/\(∃y0,σ2=y0::cs)/\aD H H5/\H5 D=some (.lst ys)) ⟨rfl,⟨none,hσ⟩,ah hD _,ae⟩ (λi ys σ2 H5 _ h=>h.2.2.1.seq hp) (λi x ys σ2 H5 ex h=>?_) (λys σ2 H5 h=>?_)
 .obtain⟨rfl,⟨y0,rfl⟩,s5,e5⟩:=h;rw [bq] at ex;obtain⟨z,ez,rfl⟩:=bR.mp ex;have li:=(aY.mp ez).1;have lf:((zs.take i).filter f).length<=1000:=cQ (i9 _ _) (by rw [dA];omega);have tk:(zs.take (i+1)).filter f=(zs.take i).filter f++if f z=true then [z] else []:=by
   rw [cY,ez,pR]
   congr 1
   show List.filter f [z]=_;rw [lK];rfl
  refine goN ?_;refine ht z (cD ez) H5 _ s5 ?_;refine d_ (λc=>?_) (λc=>?_)
  .refine⟨_,rfl,e5,bI (by rw [aB];omega),by rw [tk,az c,bD];rfl,⟨_,rfl⟩,λb o hb=>?_,ae⟩;rw [ai (λz=>by rw [z,hD] at hb;cases hb)];exact s5 b o hb
  exact⟨by rw [tk,aA c,gJ],⟨_,rfl⟩,s5,e5⟩
 obtain⟨rfl,_,s5,e5⟩:=h;rw [aB,cE] at e5;exact q H5 s5 e5
end L2
namespace fY
open PySem L2 M11 PySem.W
section
def Tq {x qual:Str}{st:Stmt}{N ps:List Str}{k:Nat}{sp:Sp}(F:hZ K x qual st f fd)(S:aJ N ps (aw st))(len:∀vs H Q E,sp vs H Q E->vs.length=ps.length)
  (g6:∀(dN:Value)(A:Around)(outer:List Env)(s:Shared)(H:Hp)(vs:List V)(Q:VK)(E:XK),dD k (A.deeper (PyProof.Rows.envOfC qual (aw st) s.heap.objs.size f dN))->sp vs H Q E ->
   ∃t,xP (dM (i3 P w) P w K mg base N qual (aw st) f dN A outer s H E) (bQ st) t/\t { nx:=λ_ H'=>Q .dG H',rt:=Q } (start N vs) H):bh P w K mg base (i3 P w) (k+1) f fd ps sp:=by
 obtain⟨oc,od,kV,doc,pm,an,dN,ct,wN,rfl,lk,sZ⟩:=F.ex;exact yS lk sZ S len λA outer s H vs Q E hr u6=>g6 dN A outer s H vs Q E hr u6
def O2 (aa:List av)(st:Str->List (Nat×Nat))(n z:Str):Prop:=∃e∈st n,∃ru,aa[e.1]?=some ru/\ru.2[e.2]?=some z
inductive xI (aa:List av)(st:Str->List (Nat×Nat))(a:Str):List (Nat×Nat)->Str->Prop
 | nil:xI aa st a [] a
 | snoc {ps:List (Nat×Nat)}{y z:Str}{e:Nat×Nat}{ru:av}:xI aa st a ps y->e∈st y->aa[e.1]?=some ru->ru.2[e.2]?=some z->xI aa st a (ps++[e]) z
def oG (aa:List av)(st:Str->List (Nat×Nat)):Prop:=∃aP,qC aa aP/\nj aa aa.length aP/\∀n k j,n∈hd aa->((k,j)∈st n↔Kz aa (hd aa) (λz=>decide (z∈aP.map (·.1))) n k j)
def pN (aa:List av)(ps:List (Nat×Nat)):Prop:=∃st n,oG aa st/\n∈hd aa/\xI aa st n ps n/\ps≠[]/\ps.length<=(hd aa).length
abbrev YF (K:aR)(H:Hp)(ts:List Addr)(ps:List (Nat×Nat)):Prop:=Paired (λt (p:Nat×Nat)=>bf K H t [.int (p.1:Int),.int (p.2:Int)]) ts ps
def BK (K:aR):Sp:=λvs H Q _=>∃(R:Addr)(rs:List Addr)(aa:List av),vs=[.ref R]/\aG K H R (rs.map V.ref)/\bz K H rs aa/\aa.length<=1000/\(∀ru∈aa,ru.2.length<=8) /\
 ∀D H',H D=none->aD H H'->(∀rk,hX aa rk->H' D=some (.lst [])->Q (.ref D) H')/\∀(t:Addr)(ts:List Addr)(ps:List (Nat×Nat)),H' D=some (.lst ((t::ts).map V.ref))->YF K H' (t::ts) ps->(∀p∈ps,p.1<=1000/\p.2<=1000)->ps.length<=1000->pN aa ps->Q (.ref D) H'
structure EE (aa:List av):Prop where
 least:∀g,cH M11.bl aa (lH aa) g->dJ M11.bl aa g->∀h n,g h=some n->h∈hd aa->n<=60
 great:∀rk,hX aa rk->∃b,tY aa b/\∀h∈hd aa,b h<=60
def gb:List Str->List Str->Option Str
 | _,[]=>none
 | ks,z::r=>if z∈ks then some z else gb (ks++[z]) r
def cV (str:List av):List Str:=str.flatMap (·.2)
def rZ (K:aR)(CT:Addr):Sp:=λvs H Q E=>∃(R:Addr)(rs:List Addr)(aa:List av),vs=[.ref R]/\aG K H R (rs.map V.ref)/\bz K H rs aa/\aa.length<=1000/\(∀ru∈aa,ru.2.length<=8)/\(∀ru∈aa,∀z∈ru.2,fC z) /\
 ∀H',aD H H'->(gb [] (cV aa)=none->Q .dG H')/\∀z dx,gb [] (cV aa)=some z->H' dx=some (.xd [("word",.str z)])->E (.ref CT) (some dx) H'
def Ds {CT:Addr}(F:hZ K "refuse_twice" "refuse_twice" z5 f fd)(T:Txt mg)(RT:YE P w K mg base CT):bh P w K mg base (i3 P w) 3 f fd ["strengths"] (rZ K CT):=by
 refine Tq F nJ (by and_intros) (λdN A outer s H vs Q E hr h=>?_)
 obtain⟨R,rs,aa,rfl,hR,cT,a8,h8,Iw,q⟩:=h;have hu:=gk hr;refine⟨_,aj (aF (i:=1) nJ.nd rfl (bC rfl) gY)
  (ao (bK PassesOwn.leaving rfl (aQ (pv 0)) (fc rfl (aC (au (i:=2) nJ.nd rfl (bC rfl)) (aC (au (i:=3) nJ.nd rfl (bC rfl)) bM)))
   (ao (bK PassesOwn.leaving rfl (gA (pv 3)) (au (i:=4) nJ.nd rfl (bC rfl))
    (aj (cA (e_ (pA hu (pv 4) (pv 1))) (ao (Mv RT hr rfl (pv 4))) aZ) (ao (iL hu (pv 1) (pv 4) gC rfl))))))),?_⟩
 refine Qz ?_;intro Dz;intro e he;have sf:∀o,aD H (upd H e o):=λo=>ah he o;have ll:=bG cT
 let oJ:oN:=λi σ H5=>∃(kvs:List (aK×V)) (ks:List Str)(y3 y4 y5:Option V),σ=[bj R,bj e,y3,y4,y5]/\H5=upd H e (.dK kvs)/\ks.length<=8 * i /\
  kvs.map (·.1)=ks.map Sum.inr/\gb [] (cV aa)=gb ks (cV (aa.drop i))
 refine⟨_,rfl,R,rfl,⟨_,(sf _).seq hR⟩,cm (xs:=rs.map V.ref) oJ ⟨[],[],none,none,none,rfl,rfl,by simp,rfl,rfl⟩ ?_ ?_ ?_⟩
 .rintro i σ H5 _ ⟨kvs,ks,y3,y4,y5,rfl,rfl,_⟩;exact(sf _).seq hR
 .rintro i x σ H5 ex ⟨kvs,ks,y3,y4,y5,rfl,rfl,V0,hk,hd⟩
  ac_nf0
  rw [bq] at ex;obtain⟨r,er,rfl⟩:=bR.mp ex;obtain⟨ru,e1,p,v1,v2⟩:=cT.get er;have li:=(aY.mp e1).1;have NH:=h8 ru (cD e1);have eT:cV (aa.drop i)=ru.2++cV (aa.drop (i+1)):=by
   rw [vZ li,show aa[i]=ru from (aY.mp e1).2];rfl
  refine⟨r,_,rfl,(sf _).tup v1,rfl,_,_,rfl,_,_,rfl,rfl,?_⟩
  let zw:oN:=λj σ H6=>∃(kvs:List (aK×V)) (ks:List Str)(y5:Option V),σ=[bj R,bj e,some (.str ru.1),bj p,y5]/\H6=upd H e (.dK kvs)/\ks.length<=8 * i+j /\
   kvs.map (·.1)=ks.map Sum.inr/\gb [] (cV aa)=gb ks (ru.2.drop j++cV (aa.drop (i+1)))
  refine⟨_,rfl,p,rfl,⟨_,(sf _).tup v2⟩,xl (xs:=ru.2.map V.str) zw ⟨kvs,ks,_,rfl,rfl,∅,hk,by rw [hd,eT];rfl⟩ ?_ ?_ ?_⟩
  .rintro j σ H6 _ ⟨kvs,ks,y5,rfl,rfl,_⟩;exact(sf _).tup v2
  .rintro j x σ H6 qY ⟨kvs,ks,y5,rfl,rfl,GU,DV,hd2⟩
   ac_nf0
   rw [bq] at qY;obtain⟨z,ez,rfl⟩:=bR.mp qY;have lj:=(aY.mp ez).1;have eS:ru.2.drop j=z::ru.2.drop (j+1):=by
    rw [vZ lj,show ru.2[j]=z from (aY.mp ez).2]
   have lk:kvs.length<=8 * i+8:=by
    have h1:=congrArg List.length DV;rw [aB,aB] at h1;omega
   rw [eS] at hd2;have gp:gb [] (cV aa)=if z∈ks then some z else gb (ks++[z]) (ru.2.drop (j+1)++cV (aa.drop (i+1))):=hd2;refine⟨_,rfl,_,rfl,e,_,rfl,cC.k (k:=Sum.inr z) ae,_,rfl,?_⟩;refine d_ (λc=>?_) (λc=>?_)
   .have zk:z∈ks:=cP.mp (by rw [<-DV];exact(d5 kvs _).mp c);rw [az zk] at gp;exact⟨_,rfl,z,rfl,Iw ru (cD e1) z (cD ez),λdx H' s' xt=>(q H' ((sf _).trans s')).2 z dx gp xt⟩
   have nk:¬(Sum.inr z:aK)∈kvs.map (·.1):=λh=>c ((d5 kvs _).mpr h);have zk:z∉ks:=λh=>nk (by rw [DV];exact cP.mpr h);rw [aA zk] at gp;refine⟨_,rfl,_,rfl,e,_,rfl,pM.k (k:=Sum.inr z) ae (bI ∅),?_⟩;refine⟨bE kvs (Sum.inr z) (.bl true),ks++[z],_,rfl,by rw [ig],by rw [cu];simp;omega,?_,gp⟩;rw [ij nk,DV];simp only [bD,bL,j4]
  rintro σ H6 ⟨kvs,ks,y5,rfl,rfl,GU,DV,hd2⟩;rw [aB,uu (aH _),j_] at hd2;rw [aB] at GU;exact⟨kvs,ks,_,_,_,rfl,rfl,∅,DV,hd2⟩
 rintro σ H5 ⟨kvs,ks,y3,y4,y5,rfl,rfl,V0,hk,hd⟩;rw [aB,ll,uu (aH _)] at hd;exact(q _ (sf _)).1 hd
def o_ (K:aR)(T1 T2 CN CT CE CU CL:Addr):Sp:=λvs H Q E=>∃(R S:Addr)(rs ss:List Addr)(aa str:List av),vs=[.ref R,.ref S]/\aG K H R (rs.map V.ref)/\bz K H rs aa/\aa.length<=1000/\(∀ru∈aa,ru.2.length<=8)/\(∀h∈hd aa,fC h) /\
 aG K H S (ss.map V.ref)/\bz K H ss str/\str.length<=1000/\(∀ru∈str,ru.2.length<=8)/\(∀ru∈str,∀z∈ru.2,fC z)/\EE aa/\Tab T1 sN.2.2.2 zC H/\Tab T2 AL.2.2.2 K6 H/\T1≠T2 /\
 (aa=[]->∀H',aD H H'->E (.ref CN) none H')/\(∀H' z dx,aa≠[]->gb [] (cV str)=some z->aD H H'->H' dx=some (.xd [("word",.str z)])->E (.ref CT) (some dx) H') /\
 ∀cb,aa[0]?=some cb->gb [] (cV str)=none->∀H',ma T1 T2 H H'->Tab T1 sN.2.2.2 zC H'->Tab T2 AL.2.2.2 K6 H'->∀g,cH M11.bl aa (lH aa) g->dJ M11.bl aa g ->
  (∀ms rk,cb.1∈ms->(∀x∈ms,vy aa cb.1 x)->oH aa aa.length ms->(∀h∈hd aa,∃n,g h=some n)->(∀h∈hd aa,h∈ms)->hX aa rk->Q .dG H') /\
  (∀m dx,(hd aa).filter (λh=>(g h).isNone)≠[]->H' dx=some (.xd [("names",.ref m)])->H' m=some (.lst (((hd aa).filter λh=>(g h).isNone).map V.str))->E (.ref CE) (some dx) H') /\
  (∀ms m dx,cb.1∈ms->(∀x∈ms,vy aa cb.1 x)->oH aa aa.length ms->(∀h∈hd aa,∃n,g h=some n)->(hd aa).filter (λh=>!decide (h∈ms))≠[]->H' dx=some (.xd [("names",.ref m)])->H' m=some (.lst (((hd aa).filter λh=>!decide (h∈ms)).map V.str))->E (.ref CU) (some dx) H') /\
  (∀ms m dx ts ps,cb.1∈ms->(∀x∈ms,vy aa cb.1 x)->oH aa aa.length ms->(∀h∈hd aa,∃n,g h=some n)->(∀h∈hd aa,h∈ms)->H' dx=some (.xd [("steps",.ref m)])->H' m=some (.lst (ts.map V.ref))->YF K H' ts ps->pN aa ps->E (.ref CL) (some dx) H')
def Aw {T1 T2 CN CT CE CU CL:Addr}{tm:Tok}(F:hZ K "refuse_faults" "refuse_faults" wA f fd)(T:Txt mg)(hM:mg "MOST_RULES"=some (.int 60 tm))(RE:Su P w K mg base "Endless" "names" CE)(RU:Su P w K mg base "Unmet" "names" CU)(RL:Su P w K mg base "Loop" "steps" CL)(hN0:C0 K CN zr "ValueError.__new__"=true)(hNk:PySem.W.keepIn K (.ref CN)=true)(hNm:mg "NoRules"=some (.ref CN))(GT:kS P w K mg base 3 "refuse_twice" ["strengths"] (rZ K CT))(GL:aL P w K mg base 3 "least_sizes" ["rules"] (qH K T1))
  (GH:aL P w K mg base 1 "heads_of" ["rules"] (kT K))(GM:aL P w K mg base 1 "names_met" ["rules"] (KN K))(GF:aL P w K mg base 3 "find_loop" ["rules"] (BK K))(GG:aL P w K mg base 3 "greatest_empty_sizes" ["rules"] (wj K T2)) :
  bh P w K mg base (i3 P w) 4 f fd ["rules","strengths"] (o_ K T1 T2 CN CT CE CU CL):=by
 refine Tq F gX (by and_intros) (λdN A outer s H vs Q E hr h=>?_)
 obtain⟨R,S,rs,ss,aa,str,rfl,hR,cT,a8,h8,Iw,hS,EJ,Na,Iy,AS,bd,JU,TR,nT,qN,qT,q0⟩:=h;have hu:=gk hr;refine⟨_,aj (cA (Ak (jc (pv 0) (λ_=>rfl))) (ao (Dh q_ hN0 nofun hNk rfl hNm)) aZ)
  (aj (b8 (B6 GT hr rfl (af (pv 1) ak)))
  (aj (aF (i:=2) gX.nd rfl (Or.inr rfl) (bX GL hr rfl (af (pv 0) ak)))
  (aj (ik (iy:=3) ["name"] [(2,"least")] gX.nd rfl rfl rfl (aQ (bX (GH.mono (by decide:1<=3)) hr rfl (af (pv 0) ak))) (ba rfl rfl) nofun rfl nofun
   (λ_ _ _ _ _=>au (i:=0) (ndq nofun) rfl (bC rfl)) (λ_ _ _ _ _=>f_ (e_ (eJ hu (pv 0) (pv 1)))) (λ_ _ _ _ _=>pv 0))
  (aj (cA (jc (pv 3) (λ_=>rfl)) (ao (Al RE (hr.mono nofun) rfl (pv 3))) aZ)
  (aj (aF (i:=4) gX.nd rfl (Or.inr rfl) (bX (GM.mono (by decide:1<=3)) hr rfl (af (pv 0) ak)))
  (aj (ik (iy:=5) ["name"] [(4,"met")] gX.nd rfl rfl rfl (aQ (bX (GH.mono (by decide:1<=3)) hr rfl (af (pv 0) ak))) (ba rfl rfl) nofun rfl nofun
   (λ_ _ _ _ _=>au (i:=0) (ndq nofun) rfl (bC rfl)) (λ_ _ _ _ _=>f_ (e_ (eJ hu (pv 0) (pv 1)))) (λ_ _ _ _ _=>pv 0))
  (aj (cA (jc (pv 5) (λ_=>rfl)) (ao (Al RU (hr.mono nofun) rfl (pv 5))) aZ)
  (aj (aF (i:=6) gX.nd rfl (bC rfl) (bX GF hr rfl (af (pv 0) ak)))
  (aj (cA (jc (pv 6) (λ_=>rfl)) (ao (Al RL (hr.mono nofun) rfl (pv 6))) aZ)
  (aj (aF (i:=7) gX.nd rfl (Or.inr rfl) (bX GG hr rfl (af (pv 0) ak)))
  (aj (ik (iy:=8) ["name"] [(2,"least"),(7,"greatest")] gX.nd rfl rfl rfl (aQ (bX (GH.mono (by decide:1<=3)) hr rfl (af (pv 0) ak))) (ba rfl rfl) nofun rfl nofun
   (λ_ _ _ _ _=>au (i:=0) (ndq nofun) rfl (bC rfl)) (λ_ _ _ _ _=>f_ (bB Ca (a9 (Ep rfl) rfl T.max PyProof.Rows.boot_max (af (fk hu (pv 1) (pv 0) (λ_ _=>rfl)) (af (Gb hu (pv 2) (pv 0) ay ⟨rfl,rfl,rfl,rfl⟩) ak))) (il (v:=.int 60) rfl hM ⟨tm,rfl⟩) (cX _))) (λ_ _ _ _ _=>pv 0))
  (ao (cA (jc (pv 8) (λ_=>rfl)) (ao FZ) aZ))))))))))))),?_⟩
 have ll:=bG cT;have EH:(hd aa).length<=1000:=by
  have:=gT (aa.map (·.1)) [];rw [i6,aB] at this;show (m_ [] (aa.map (·.1))).length<=1000;omega
 by_cases r0:aa=[]
 .have U8:rs=[]:=v_ (by rw [ll,r0];rfl);refine⟨_,rfl,false,.inl ⟨_,hR,by rw [U8];rfl⟩,?_⟩;refine lF ?_;exact λea sX=>qN r0 _ (ah sX _)
 obtain⟨cb,kZ⟩:∃cb,aa[0]?=some cb:=by
  cases aa with
  | nil=>exact absurd rfl r0
  | cons a b=>exact⟨a,rfl⟩
 have eR:(rs.map V.ref).isEmpty=false:=by
  have l0:=(aY.mp kZ).1;cases rs with
  | nil=>simp at ll;omega
  | cons a r=>rfl
 refine⟨_,rfl,true,.inl ⟨_,hR,by rw [eR];rfl⟩,?_⟩;refine iD ?_;refine⟨_,rfl,S,ss,str,rfl,hS,EJ,Na,Iy,AS,λH1 s1=>⟨λd0=>?_,λz dx d1 xt=>qT H1 z dx r0 d1 s1 xt⟩⟩;have q:=q0 cb kZ d0;have SW:=JU.same s1;have t21:=TR.same s1;refine⟨_,rfl,R,rs,aa,rfl,s1.seq hR,cT.same s1,a8,h8,SW,λdl kl ksl gl H2 fl s2 Y6 el kkl vl UX sel _=>?_⟩;have ID:=BU s2 SW (s1.seq hR);have DT:=(cT.same s1).keep λ_ _ z=>Bo s2 SW z;have Y5:=Bq s2 SW t21 nT.symm;have S02:ma T1 T2 H H2:=λb o n1 _ hb=>s2 b o n1 (s1 b o hb);have out:∀H',aD H2 H'->_:=λH' s'=>q H' (λb o n1 n2 hb=>s' b o (S02 b o n1 n2 hb)) (Y6.same s') (Y5.same s') gl UX sel;refine⟨_,rfl,R,rs,aa,rfl,ID,DT,a8,λD3 H3 f3 s3 e3=>⟨D3,rfl,⟨_,aG.of e3⟩,λD4 TV=>jk (λz=>(gl z).isNone) rfl (aG.of e3) EH TV (λz hz H' Q' s' hQ=>?_) λH4 s4 e4=>?_⟩⟩
 .have hg:cC H' dl (.str z) ((gl z).map V.int):=by
   have:=cC.k (k:=Sum.inr z) (s' _ _ (s3 _ _ el));rw [vl] at this;exact this
  refine⟨_,rfl,_,rfl,dl,_,rfl,hg,_,rfl,?_⟩;rw [show (!((gl z).map V.int).isSome)=(gl z).isNone by cases gl z <;> rfl]
  exact hQ
 have KS:=s3.trans s4;have e4:H4 D4=some (.lst (((hd aa).filter λh=>(gl h).isNone).map V.str)):=e4;cases hf:(hd aa).filter (λh=>(gl h).isNone) with
 | cons e0 er =>
  rw [hf] at e4;refine⟨_,rfl,true,.inl ⟨_,aG.of e4,rfl⟩,?_⟩;refine lF ?_;have sub:∀z∈e0::er,z∈hd aa:=λz hz=>by rw [<-hf] at hz;exact(eB.mp hz).1
  have ln:(e0::er).length<=1000:=by rw [<-hf];exact cQ (i9 _ _) EH
  exact⟨_,rfl,D4,_,_,rfl,aG.of e4,yh (aG.of e4),uI ln (λz hz=>Iw z (sub z hz)),λm dx H' s' xt em=>(out H' (KS.trans s')).2.1 m dx (by rw [hf];exact λy=>by cases y) xt (by rw [hf];exact em)⟩
 | nil =>
 rw [hf] at e4;have hl:∀h∈hd aa,∃n,gl h=some n:=λh hh=>by
  cases e:gl h with
  | some n=>exact⟨n,rfl⟩
  | none =>
   have:h∈(hd aa).filter (λh=>(gl h).isNone):=eB.mpr ⟨hh,by rw [e];rfl⟩;rw [hf] at this;cases this
 refine⟨_,rfl,false,.inl ⟨[],aG.of e4,rfl⟩,?_⟩;refine iD ?_;refine⟨_,rfl,R,rs,aa,cb,rfl,KS.seq ID,DT.same KS,kZ,a8,h8,λdm km ms H5 f5 s5 em kkm x8 Ox Qo=>?_⟩;have U5:=KS.trans s5;refine⟨_,rfl,R,rs,aa,rfl,U5.seq ID,DT.same U5,a8,λD6 H6 f6 s6 e6=>⟨D6,rfl,⟨_,aG.of e6⟩,λD7 RF=>jk (λz=>!decide (z∈ms)) rfl (aG.of e6) EH RF (λz hz H' Q' s' hQ=>?_) λH7 s7 e7=>?_⟩⟩
 .refine⟨_,rfl,_,rfl,dm,_,rfl,cC.k (k:=Sum.inr z) (s' _ _ (s6 _ _ em)),_,rfl,?_⟩;rw [show (br km (Sum.inr z)).isSome=decide (z∈ms) by rw [jU,d5,kkm,decide_eq_true_iff];exact cP];exact hQ
 have PZ:=(U5.trans s6).trans s7;have e7:H7 D7=some (.lst (((hd aa).filter λh=>!decide (h∈ms)).map V.str)):=e7;cases DW:(hd aa).filter (λh=>!decide (h∈ms)) with
 | cons e0 er =>
  rw [DW] at e7;refine⟨_,rfl,true,.inl ⟨_,aG.of e7,rfl⟩,?_⟩;refine lF ?_;have sub:∀z∈e0::er,z∈hd aa:=λz hz=>by rw [<-DW] at hz;exact(eB.mp hz).1
  have ln:(e0::er).length<=1000:=by rw [<-DW];exact cQ (i9 _ _) EH
  exact⟨_,rfl,D7,_,_,rfl,aG.of e7,yh (aG.of e7),uI ln (λz hz=>Iw z (sub z hz)),λm dx H' s' xt Xy=>(out H' (PZ.trans s')).2.2.1 ms m dx x8 Ox Qo hl (by rw [DW];exact λy=>by cases y) xt (by rw [DW];exact Xy)⟩
 | nil =>
 rw [DW] at e7;have Nj:∀h∈hd aa,h∈ms:=λh hh=>rO λn=>by
  have:h∈(hd aa).filter (λh=>!decide (h∈ms)):=eB.mpr ⟨hh,by rw [dO n];rfl⟩;rw [DW] at this;cases this
 refine⟨_,rfl,false,.inl ⟨[],aG.of e7,rfl⟩,?_⟩;refine iD ?_;refine⟨_,rfl,R,rs,aa,rfl,PZ.seq ID,DT.same PZ,a8,h8,λD8 H8 f8 s8=>⟨λrk nl e8=>?_,λt ts ps e8 pp bp lp cy=>?_⟩⟩
 .refine⟨_,rfl,false,.inl ⟨[],aG.of e8,rfl⟩,?_⟩;refine iD ?_;have KR:=PZ.trans s8;have t18:=Y6.same KR;have Pz:=Y5.same KR;obtain⟨b,Sd,most⟩:=bd.great rk nl;refine⟨_,rfl,R,rs,aa,b,rfl,KR.seq ID,DT.same KR,a8,h8,Sd,Pz,λdg kg ksg gg H9 f9 s9 t29 eg kkg vg jg _ _=>?_⟩;have hR9:=BU s9 Pz (KR.seq ID);have Wu:=(DT.same KR).keep λ_ _ z=>Bo s9 Pz z;have UW:=Bq s9 Pz t18 nT;have el8:=KR _ _ el;have el9:=s9 _ _ (λz=>by obtain⟨ps,a,_⟩:=Pz;rw [<-z,el8] at a;cases a) el8;refine⟨_,rfl,R,rs,aa,rfl,hR9,Wu,a8,λYR uo f10 lW EN=>⟨YR,rfl,⟨_,aG.of EN⟩,λD11 Xf=>HP rfl (aG.of EN) Xf (λz hz H' Q' s' hQ=>?_) λCQ Ja II=>?_⟩⟩
  .obtain⟨n,en⟩:=hl z hz;have aai:=bd.least gl UX sel z n en hz;have JQ:cC H' dl (.str z) (some (.int n)):=by
    have:=cC.k (k:=Sum.inr z) (s' _ _ (lW _ _ el9));rw [vl,en] at this;exact this
   have eg':=s' _ _ (lW _ _ eg);obtain⟨v,hv1,hv2⟩:∃v:Int,((gg z).map V.int).getD (.int 0)=.int v/\v<=60:=by
    cases e:gg z with
    | none=>exact⟨0,rfl,nofun⟩
    | some v=>exact⟨v,rfl,Int.le_trans (jg z v e).2.1 (most z hz)⟩
   have WO:cC H' dg (.str z) ((gg z).map V.int):=by
    have:=cC.k (k:=Sum.inr z) eg';rw [vg] at this;exact this
   refine⟨_,rfl,_,rfl,dl,_,rfl,JQ,_,rfl,dg,rfl,.inl ⟨_,.inl eg'⟩,_,rfl,_,WO,?_⟩;rw [hv1];refine⟨n,v,rfl,_,_,rfl,rfl,_,rfl,?_⟩;rw [dO (by split <;> omega)]
   exact hQ
  refine⟨_,rfl,false,.inl ⟨[],aG.of II,rfl⟩,?_⟩;refine iD ?_;have Mo:=lW.trans Ja;exact(q CQ (λc o n1 n2 hc=>Mo c o (s9 c o n2 (KR c o (S02 c o n1 n2 hc)))) (UW.same Mo) (t29.same Mo) gl UX sel).1 ms rk x8 Ox Qo hl Nj nl
 refine⟨_,rfl,true,.inl ⟨_,aG.of e8,rfl⟩,?_⟩;refine lF ?_;exact⟨_,rfl,D8,_,_,rfl,aG.of e8,Jd (aG.of e8) pp,FR lp bp,λm dx H' s' xt Xy=>(out H' ((PZ.trans s8).trans s')).2.2.2 ms m dx (t::ts) ps x8 Ox Qo hl Nj xt Xy (Paired.ft pp λ_ _ z=>s'.tup z) cy⟩
end
open PySem L2 M11
def uF {g:G}{h:Str}{n:Int}{z:Str}(e:(g z).isSome=true):(dq g h n z).isSome=true:=by
 unfold dq
 split
 .rfl
 exact e
def xZ {bt:Int->Int->Bool}{aa:List av}{g0 g:G}(st:cH bt aa g0 g){z:Str}(e:(g0 z).isSome=true):(g z).isSome=true:=by
 induction st with
 | refl=>exact e
 | step _ _ _ ih=>exact uF ih
def p8 {bt:Int->Int->Bool}{aa:List av}{g:G}(se:dJ bt aa g){ru:av}(h:ru∈aa)(p:∀x∈ru.2,(g x).isSome=true):(g ru.1).isSome=true:=by
 have f:=se ru h;cases e:g ru.1 with
 | some n=>rfl
 | none =>
  unfold bV at f;have a:jl g ru=true:=fO.mpr p;rw [a,e] at f;cases f
def C9 {bt:Int->Int->Bool}{aa:List av}{g0 g g':G}(st:cH bt aa g0 g)(se:dJ bt aa g')(h0:∀z,(g0 z).isSome=true->(g' z).isSome=true):∀z,(g z).isSome=true->(g' z).isSome=true:=by
 induction st with
 | refl=>exact h0
 | @step g1 ru UZ fK fr ih =>
  intro z hz;unfold dq at hz
  split at hz
  .rename_i c
   have:z=ru.1:=by simpa using c
   rw [this];refine p8 se fK λx hx=>ih x ?_;unfold bV at fr;rw [iH] at fr;exact fO.mp fr.1 x hx
  exact ih z hz
def FV {aa:List av}{s:Str}{ms:List Str}(h0:s∈ms)(mc:oH aa aa.length ms){x:Str}(h:vy aa s x):x∈ms:=by
 induction h with
 | start=>exact h0
 | step _ h1 h2 ih=>exact mc _ (by rw [cE];exact h1) ih _ h2
def JZ {aa:List av}{cb:av}{g:G}{ms:List Str}{rk:Str->Nat}(bd:EE aa)(kZ:aa[0]?=some cb)(st:cH M11.bl aa (lH aa) g)(hl:∀h∈hd aa,∃n,g h=some n)(rc:∀x∈ms,vy aa cb.1 x)(Nj:∀h∈hd aa,h∈ms)(nl:hX aa rk):∃b,Good aa rk b:=by
 obtain⟨b,Sd,most⟩:=bd.great rk nl;refine⟨b,λg' ue Zb h hh=>?_,λru qm e h0 mc h hh=>?_,nl,Sd,most⟩
 .obtain⟨n,en⟩:=hl h hh;have:=C9 st Zb (λz hz=>xZ ue hz) h (by rw [en];rfl);obtain⟨n',en'⟩:=jY.mp this;exact⟨n',en',bd.least g' ue Zb h n' en' hh⟩
 rw [kZ] at e;cases e;exact FV h0 mc (rc h (Nj h hh))
structure SR (aa:List av)(g:G) (L:List Str):Prop where
 nd:L.Nodup
 hd:∀h∈L,∃ru∈aa,ru.1=h
 has:∀h∈L,(g h).isSome=true
 ord:∀i h,L[i]?=some h->∃ru∈aa,ru.1=h/\∀p∈ru.2,(lH aa p).isSome=true\/p∈L.take i
 all:∀z,(g z).isSome=true->(lH aa z).isSome=true\/z∈L
def C8 {bt:Int->Int->Bool}{aa:List av}{g0 g:G}(e:g0=lH aa)(st:cH bt aa g0 g):∃L,SR aa g L:=by
 induction st with
 | refl=>exact⟨[],jJ,λh hh=>(by cases hh),λh hh=>(by cases hh),λi h hh=>(by cases hh),λz hz=>.inl (by rw [<-e];exact hz)⟩
 | @step g1 ru UZ fK fr ih =>
  obtain⟨L,F⟩:=ih;have al:∀p∈ru.2,(g1 p).isSome=true:=by
   unfold bV at fr;rw [iH] at fr;exact λp hp=>fO.mp fr.1 p hp
  have up:∀z,(g1 z).isSome=true->(dq g1 ru.1 (aM g1 ru) z).isSome=true:=λz hz=>uF hz;have dn:∀z,(dq g1 ru.1 (aM g1 ru) z).isSome=true->z=ru.1\/(g1 z).isSome=true:=λz hz=>by
   unfold dq at hz
   split at hz
   .exact .inl (by assumption)
   exact .inr hz
  by_cases c:ru.1∈L
  .refine⟨L,F.nd,F.hd,λh hh=>up h (F.has h hh),F.ord,λz hz=>?_⟩;rcases dn z hz with q | q
   .rw [q];exact .inr c
   exact F.all z q
  refine⟨L++[ru.1],GA F.nd c,λh hh=>?_,λh hh=>?_,λi h hi=>?_,λz hz=>?_⟩
  .rcases bZ.mp hh with q | q
   .exact F.hd h q
   exact⟨ru,fK,(cJ.mp q).symm⟩
  .rcases bZ.mp hh with q | q
   .exact up h (F.has h q)
   rw [cJ.mp q];unfold dq;rw [az rfl];rfl
  .by_cases l:i < L.length
   .rw [jZ l] at hi;rw [uw ∅];exact F.ord i h hi
   have li:=(aY.mp hi).1;rw [cu,pW] at li;have:i=L.length:=by omega
   subst this;rw [pY (aH _),Nat.sub_self] at hi;cases hi;rw [uw (aH _),cE];exact⟨ru,fK,rfl,λp hp=>F.all p (al p hp)⟩
  rcases dn z hz with q | q
  .exact .inr (fP _ (by rw [q];exact cJ.mpr rfl))
  exact(F.all z q).imp id λy=>i8 _ y
where
 GA {l:List Str}{x:Str}(h:l.Nodup)(n:x∉l):(l++[x]).Nodup:=lL.mpr ⟨h,by simp,λa ha b hb z=>n (by rw [<-cJ.mp hb,<-z];exact ha)⟩
def B3:Nat->Int
 | 0=>1
 | n+1=>1+3 * B3 n
theorem pO:∀n,1<=B3 n
 | 0=>by decide
 | n+1=>by have:=pO n;show 1<=1+3 * B3 n;omega
def CZ:∀{m n:Nat},m<=n->B3 m<=B3 n:=by
 intro m n h
 induction h with
 | refl=>exact iw _
 | step _ ih=>have:=pO m;refine Int.le_trans ih ?_;rename_i k _;have:=pO k;show B3 k<=1+3 * B3 k;omega
theorem qF (g:G) (M:Int)(hM:0<=M):∀(ps:List Str) (n:Nat),ps.length<=n->(∀p∈ps,(g p).getD 0<=M)->(ps.map λp=>(g p).getD 0).sum<=n * M
 | [],n,_,_=>by show (0:Int)<=_;exact Int.mul_nonneg ∅ hM
 | p::r,0,h,_=>by simp at h
 | p::r,n+1,h,hp=>by
  have ih:=qF g M hM r n (by simpa using h) λx hx=>hp x (bS _ hx);have h1:=hp p bO;rw [bL,jr];have e:((n+1:Nat):Int) * M=(n:Int) * M+M:=by rw [Int.natCast_succ,Int.add_mul,Int.one_mul]
  omega
theorem uV {aa:List av}{g:G}{L:List Str}(F:SR aa g L)(se:dJ M11.bl aa g)(h3:∀ru∈aa,ru.2.length<=3)(h0:∀z,(lH aa z).isSome=true->g z=some 0):∀(k i:Nat)(h:Str),i < k->L[i]?=some h->∀n,g h=some n->n<=B3 i
 | 0,i,h,l,_,_,_=>by omega
 | k+1,i,h,l,e,n,en=>by
  obtain⟨ru,fK,e1,hp⟩:=F.ord i h e;have val:∀p∈ru.2,∃v,g p=some v/\(v<=0\/∃j,j < i/\v<=B3 j):=λp kF=>by
   rcases hp p kF with q | q
   .exact⟨0,h0 p q,.inl (iw _)⟩
   obtain⟨v,ev⟩:=jY.mp (F.has p (pV q));obtain⟨j,hj⟩:=fA q;have lj:=(aY.mp hj).1;rw [dA] at lj;rw [pX ∅] at hj;exact⟨v,ev,.inr ⟨j,∅,uV F se h3 h0 k j p ∅ hj v ev⟩⟩
  have f:=se ru fK;have a:jl g ru=true:=fO.mpr λp kF=>by obtain⟨v,ev,_⟩:=val p kF;rw [ev];rfl
  unfold bV at f;rw [a,e1,en] at f;have f2:M11.bl (aM g ru) n=false:=by simpa using f
  have Zn:n<=aM g ru:=by
   unfold M11.bl at f2;have:=of_decide_eq_false f2;omega
  cases i with
  | zero =>
   have z:=qF g 0 (iw _) ru.2 3 (h3 ru fK) λp kF=>by
    obtain⟨v,ev,q⟩:=val p kF;rw [ev];rcases q with q | ⟨j,l,_⟩
    .exact q
    omega
   unfold aM at Zn;show n<=1;omega
  | succ i =>
   have b1:=pO i;have z:=qF g (B3 i) ∅ ru.2 3 (h3 ru fK) λp kF=>by
    obtain⟨v,ev,q⟩:=val p kF;rw [ev];show v<=B3 i;rcases q with q | ⟨j,l,q⟩
    .omega
    exact Int.le_trans q (CZ ∅)
   unfold aM at Zn;show n<=1+3 * B3 i;omega
section
def uq.more {C:Addr}{H0 H H2:Hp}{a e d bg t:Addr}{kE kvs:List (aK×V)}{aP:List (Str×Nat)}{ps:List (Str×Addr)}{cI:List Be}{p:Str×Addr}{wd:Str}{k j:Nat}{ts:List Addr}(h:uq K C H0 H a e d bg kE aP ps cI)(hp:p∈ps)(hk:H p.2=some (.dK kvs))(kk:kvs.map (·.1)=(ou cI p.1).map Sum.inr)
  (hn:(p.1,wd)∉xJ cI)(hb:H bg=some (.lst (ts.map V.ref)))(OM:Paired (λt (b:Be)=>bf K H t [.str b.1,.str b.2.1,.int (b.2.2.1:Int),.int (b.2.2.2:Int)]) ts cI)
  (s:aD (upd H p.2 (.dK (bE kvs (Sum.inr wd) (.bl true)))) H2)(ht:bf K H2 t [.str p.1,.str wd,.int (k:Int),.int (j:Int)]) :
  uq K C H0 (upd H2 bg (.lst (ts.map V.ref++[.ref t]))) a e d bg kE aP ps (cI++[(p.1,wd,k,j)]):=by
 have Tt:bg≠p.2:=λz=>by rw [z,hk] at hb;cases hb
 have Nz:H2 bg=some (.lst (ts.map V.ref)):=s _ _ (by rw [ai Tt];exact hb);obtain⟨_,fp,Zl,Zm⟩:=h.dk p hp;have up:∀c o,c≠bg->c≠p.2->H c=some o->upd H2 bg (.lst (ts.map V.ref++[.ref t])) c=some o:=λc o n1 n2 q=>by
  rw [ai n1];exact s _ _ (by rw [ai n2];exact q)
 refine⟨λc o hc=>up c o (λz=>by rw [z,h.fb] at hc;cases hc) (λz=>by rw [z,fp] at hc;cases hc) (h.sm c o hc),?_,up _ _ (λz=>by have:=h.he;rw [z,hb] at this;cases this) Zl.symm h.he,up _ _ (λz=>by have:=h.hd;rw [z,hb] at this;cases this) Zm.symm h.hd,h.n1,h.n2,λp' l8=>?_,⟨ts++[t],by rw [ae,bD];rfl,?_⟩,h.fb,?_⟩
 .obtain⟨dx,fs,q,r⟩:=h.ia;exact⟨dx,fs,up _ _ (λz=>by rw [z,hb] at q;cases q) (λz=>by rw [z,hk] at q;cases q) q,r⟩
 .obtain⟨⟨mJ,q,r⟩,t'⟩:=h.dk p' l8;refine⟨?_,t'⟩;by_cases z:p'=p
  .rw [z];refine⟨bE kvs (Sum.inr wd) (.bl true),by rw [ai Tt.symm];exact s _ _ ae,?_⟩;rw [ij (by rw [kk];exact λq=>hn (A0.mp (cP.mp q))),kk,Cr,az rfl,bD];rfl
  have n1:p'.1≠p.1:=λq'=>z (by
   have w1:=gM ps h.n1 p' l8;have w2:=gM ps h.n1 p hp;rw [q',w2] at w1;injection w1 with w3;injection w3 with w4;exact Prod.ext q' w4.symm)
  have n2:p'.2≠p.2:=λq'=>by
   obtain⟨i,hi,ei⟩:=pU.mp l8;obtain⟨j',hj,ej⟩:=pU.mp hp;have Cm:i=j':=by
    refine(rp (xs:=ps.map (·.2)) (h₀:=by simpa using hi) (h₁:=by simpa using hj) h.n2).mp ?_;rw [oX,oX,ei,ej];exact q'
   subst Cm;exact z (ei.symm.trans ej)
  refine⟨mJ,up _ _ (λz=>by rw [z,hb] at q;cases q) n2 q,?_⟩;rw [r,Cr,aA (λq'=>n1 q'.symm),gJ]
 .exact gh (Paired.ft OM λ_ _ z=>a_ Nz (s.tup (eZ hk z))) (a_ Nz ht)
 obtain⟨e1,te,⟨dx,fs,q1,q2⟩,q3,q4,q5⟩:=h.em;exact⟨e1,te,⟨dx,fs,up _ _ (λz=>by rw [z,hb] at q1;cases q1) (λz=>by rw [z,hk] at q1;cases q1) q1,q2⟩,up _ _ q5 (λz=>by rw [z,hk] at q3;cases q3) q3,q4.keep λ_ _ z=>a_ Nz (s.tup (eZ hk z)),q5⟩
def NK (l m:List Be)(n:Str):ou (l++m) n=ou l n++ou m n:=by
 unfold ou;rw [pR,bD]
def IS {names:List Str}(l m:List Be){z x:Str}(h:x∈qk names l z):x∈qk names (l++m) z:=by
 unfold qk at h ⊢
 split
 .rename_i c
  rw [az c] at h;rw [NK];exact i8 _ h
 rename_i c
 rw [aA c] at h;exact h
def NJ (cI:List Be)(n:Str):(ou cI n).length<=cI.length:=by
 unfold ou;rw [aB];exact i9 _ _
def N5 {n i:Nat}(h:i < n):(cnt n)[i]?=some (.int (i:Int)):=by
 unfold cnt;rw [bq,List.getElem?_range h];rfl
def CB (n:Nat):(cnt n).length=n:=by unfold cnt;rw [aB,rG]
def Fp (K:aR)(C:Addr):Sp:=λvs H Q _=>∃(H0:Hp)(a e d bg r:Addr)(kE:List (aK×V))(aP:List (Str×Nat))(ps:List (Str×Addr))(cI:List Be) (k:Nat)(ru:av)(aa:List av),vs=[.ref a,.int (k:Int),.ref r]/\uq K C H0 H a e d bg kE aP ps cI/\CO K H0 r ru/\aa[k]?=some ru/\ru.2.length<=8 /\
 ru.1∈ps.map (·.1)/\(∀xA:List Be,xQ aa (ps.map (·.1)) (λz=>(br kE (Sum.inr z)).isSome) xA->xA.length<=900000)/\xQ aa (ps.map (·.1)) (λz=>(br kE (Sum.inr z)).isSome) cI /\
 ∀(xA:List Be)(H':Hp),uq K C H0 H' a e d bg kE aP ps xA->xQ aa (ps.map (·.1)) (λz=>(br kE (Sum.inr z)).isSome) xA->cI.length<=xA.length->(xA.length=cI.length->xA=cI/\∀j z,j < Ea (λz=>(br kE (Sum.inr z)).isSome) ru.2->ru.2[j]?=some z->∀wd∈qk (ps.map (·.1)) cI z,(ru.1,wd)∈xJ cI)->Q .dG H'
def wt:aJ ["self","number","rule","own","place","word"] ["self","number","rule"] (aw FI):=iP rfl rfl rfl rfl nofun
def Jv {C fW:Addr}{fdW:FuncData}(F:hZ K "find_begins" "BeginTable.find_begins" FI f fd)(T:Txt mg)(B:BC K C)(GP:aL P w K mg base 1 "first_places" ["parts","empty"] (x_ K))(FW:bh P w K mg base fJ 1 fW fdW ["self","part"] (BJ K C))(MW:Meth K C "words_of_part" fW)(BW:Binds K fdW ["self","part"] []) :
  bh P w K mg base fJ 2 f fd ["self","number","rule"] (Fp K C):=by
 refine F.ok wt (by and_intros) (λdN A outer s H vs Q E hr h=>?_)
 obtain⟨H0,a,e,d,bg,r,kE,aP,ps,cI,k,ru,aa,rfl,S,⟨p,v1,v2⟩,er,h8,hh,hbd,W7,q⟩:=h;have hu:=gk hr;refine⟨_,aj (aF (i:=3) wt.nd rfl (bC rfl) (fk hu (eK (pv 0) rfl) (bH cS (pv 2) ay (λ_ _=>rfl)) (λ_ _=>rfl)))
  (ao (bK cx rfl (aQ (bX GP hr rfl (af (bH cS (pv 2) ay (λ_ _=>rfl)) (af (eK (pv 0) rfl) ak)))) (au (i:=4) wt.nd rfl (bC rfl))
   (ao (bK cx rfl (aQ (B4 (pv 0) B.cls MW FW hr BW .nil p_ (af (bH cS (bH cS (pv 2) ay (λ_ _=>rfl)) (pv 4) (λ_ _=>rfl)) ak))) (au (i:=5) wt.nd rfl (bC rfl))
    (ao (cA (e_ (eJ hu (pv 5) (pv 3)))
     (aj (iL hu (pv 3) (pv 5) gC rfl)
     (ao (b8 (gZ ie iI iJ cq (eK (pv 0) rfl) (af (bT (af (bH cS (pv 2) ay (λ_ _=>rfl)) (af (pv 5) (af (pv 1) (af (pv 4) ak))))) ak))))) aZ)))))),?_⟩
 nofun
 obtain⟨pn,yM,zI⟩:=cN.mp hh;have vn:=gM ps S.n1 pn yM;rw [zI] at vn;obtain⟨dx,fs,ea,f1,f2,f3,f4,f5⟩:=S.ia;have hg:cC H d (.str ru.1) (some (.ref pn.2)):=by
  have:=cC.k (k:=Sum.inr ru.1) S.hd;rw [vn] at this;exact this
 refine⟨_,rfl,a,C,dx,fs,_,rfl,ea,B.cls,B.a4,f3,_,rfl,r,_,_,_,rfl,rfl,S.sm.tup v1,rfl,d,_,rfl,hg,?_⟩;refine⟨_,rfl,r,_,_,_,rfl,rfl,S.sm.tup v1,rfl,_,rfl,a,C,dx,fs,_,rfl,ea,B.cls,B.a2,f1,p,e,ru.2,kE,rfl,S.sm.tup v2,∅,S.he,λD5 H5 f6 s5 e5=>⟨D5,rfl,⟨_,aG.of e5⟩,?_⟩⟩;obtain⟨ts0,hb0,_⟩:=S.lb;have nDb:D5≠bg:=λz=>by rw [z,hb0] at f6;cases f6
 have fle:=Ht (λz=>(br kE (Sum.inr z)).isSome) ru.2;generalize hb:(λz=>(br kE (Sum.inr z)).isSome)=b at *;generalize hn:Ea b ru.2=n at *
 let oJ:oN:=λi σ H6=>∃(dX:List Be)(y4 y5:Option V),σ=[bj a,some (.int (k:Int)),bj r,some (.ref pn.2),y4,y5]/\uq K C H0 H6 a e d bg kE aP ps dX/\H6 D5=some (.lst (cnt n))/\xQ aa (ps.map (·.1)) b dX/\cI.length<=dX.length /\
  (dX.length=cI.length->dX=cI/\∀j z,j < i->ru.2[j]?=some z->∀wd∈qk (ps.map (·.1)) cI z,(ru.1,wd)∈xJ cI)
 refine cm (xs:=cnt n) oJ ⟨cI,none,none,rfl,S.same s5,e5,W7,aH _,λ_=>⟨rfl,λj z hj=>by omega⟩⟩ ?_ ?_ ?_
 .rintro i σ H6 _ ⟨dX,y4,y5,rfl,S2,e6,_⟩;exact aG.of e6
 .intro i x σ H6 ex qw
  ac_nf0
  obtain⟨dX,y4,y5,rfl,S2,e6,Yc,l2,c2⟩:=qw;have li:i < n:=by have:=(aY.mp ex).1;rw [CB] at this;exact this
  rw [N5 li] at ex;cases ex;have lz:i < ru.2.length:=by omega
  obtain⟨z,ez⟩:∃z,ru.2[i]?=some z:=⟨ru.2[i],c_ lz⟩;have Sg:pI (ru.2.map V.str) (i:Int)=some (.str z):=cW (by rw [bq,ez];rfl);obtain⟨Uk,uh,RY,g1,g2,g3,g4,g5⟩:=S2.ia;refine goN ?_
  ac_nf
  refine⟨_,rfl,a,Uk,uh,rfl,RY,g5,_,rfl,r,_,_,_,rfl,rfl,S2.sm.tup v1,rfl,_,rfl,p,_,_,_,rfl,rfl,S2.sm.tup v2,Sg,H0,a,e,d,bg,kE,aP,ps,dX,z,rfl,S2,λD6 H7 f7 s7 e7=>⟨D6,rfl,⟨_,aG.of e7⟩,?_⟩⟩;obtain⟨lU,Nz,_⟩:=S2.lb;have nD6:D6≠bg:=λz=>by rw [z,Nz] at f7;cases f7
  generalize ZL:qk (ps.map (·.1)) dX z=ws at *
  let zw:oN:=λm σ H8=>∃(l:List Be)(y5:Option V),σ=[bj a,some (.int (k:Int)),bj r,some (.ref pn.2),some (.int (i:Int)),y5]/\uq K C H0 H8 a e d bg kE aP ps (dX++l)/\H8 D5=some (.lst (cnt n))/\H8 D6=some (.lst (ws.map V.str))/\xQ aa (ps.map (·.1)) b (dX++l) /\
   (l=[]->∀wd∈ws.take m,(ru.1,wd)∈xJ dX)
  refine cm (xs:=ws.map V.str) zw ⟨[],_,rfl,by rw [gJ];exact S2.same s7,s7 _ _ e6,e7,by rw [gJ];exact Yc,λ_ wd h=>by simp at h⟩ ?_ ?_ ?_
  .rintro m σ H8 _ ⟨l,y5,rfl,S3,e8,e9,_⟩;exact aG.of e9
  .intro m x σ H8 ex qw
   ac_nf0
   obtain⟨l,y5,rfl,S3,e8,e9,Se,c3⟩:=qw;rw [bq] at ex;obtain⟨wd,ew,rfl⟩:=bR.mp ex;obtain⟨⟨kvs,hk,kk⟩,fp,Zl,Zm⟩:=S3.dk pn yM;obtain⟨Y2,TQ,Ry⟩:=S3.lb;have lim:=hbd _ Se;have ltk:kvs.length<=900000:=by
    have h1:=congrArg List.length kk;rw [aB,aB] at h1;have:=NJ (dX++l) pn.1;omega
   have ltt:=bG Ry;have mem:(br kvs (Sum.inr wd)).isSome=true↔(ru.1,wd)∈xJ (dX++l):=by rw [d5,kk,cP,A0,zI]
   refine goN ?_
   ac_nf
   refine⟨_,rfl,_,rfl,pn.2,_,rfl,cC.k (k:=Sum.inr wd) hk,_,rfl,?_⟩;refine d_ (λc=>?_) (λc=>?_)
   .have nm:(ru.1,wd)∉xJ (dX++l):=λh=>by rw [mem.mpr h] at c;exact absurd c nofun
    refine⟨_,rfl,_,rfl,_,_,rfl,pM.k (k:=Sum.inr wd) hk (bI ∅),?_⟩;obtain⟨XW,Hs,XI,k1,k2,k3,k4,k5⟩:=S3.ia;have nap:a≠pn.2:=λz=>by rw [z,hk] at XI;cases XI
    have Tt:bg≠pn.2:=λz=>by rw [z,hk] at TQ;cases TQ
    have NZ:upd H8 pn.2 (.dK (bE kvs (Sum.inr wd) (.bl true))) a=some (.ins C XW Hs):=by rw [ai nap];exact XI
    have Z7:upd H8 pn.2 (.dK (bE kvs (Sum.inr wd) (.bl true))) bg=some (.lst (Y2.map V.ref)):=by rw [ai Tt];exact TQ
    refine⟨_,rfl,a,C,XW,Hs,_,rfl,NZ,B.cls,B.a3,k2,.inl ⟨rfl,_,aG.of Z7⟩,_,rfl,r,_,_,_,rfl,rfl,eZ hk (S3.sm.tup v1),rfl,_,rfl,_,rfl,_,rfl,zl4,λt4 u0=>?_⟩;have s4:=ah u0 (.tup [.str ru.1,.str wd,.int (k:Int),.int (i:Int)]);have e4:bf K (upd (upd H8 pn.2 (.dK (bE kvs (Sum.inr wd) (.bl true)))) t4 (.tup [.str ru.1,.str wd,.int (k:Int),.int (i:Int)])) t4 [.str ru.1,.str wd,.int (k:Int),.int (i:Int)]:=bf.of ae;generalize upd (upd H8 pn.2 (.dK (bE kvs (Sum.inr wd) (.bl true)))) t4 (.tup [.str ru.1,.str wd,.int (k:Int),.int (i:Int)])=H9 at s4 e4;refine⟨bg,_,_,rfl,rfl,s4 _ _ Z7,bI (by rw [aB];omega),?_⟩;have nm':(pn.1,wd)∉xJ (dX++l):=by rw [zI];exact nm
    have S4:=S3.more (k:=k) (j:=i) yM hk kk nm' TQ Ry s4 (by rw [zI];exact e4);have K_:∀D ys,H8 D=some (.lst ys)->D≠bg->upd H9 bg (.lst (Y2.map V.ref++[.ref t4])) D=some (.lst ys):=λD ys hD nb=>by
     rw [ai nb];exact s4 _ _ (by rw [ai (λz=>by rw [z,hk] at hD;cases hD)];exact hD)
    rw [rD,zI] at S4;refine⟨l++[(ru.1,wd,k,i)],_,rfl,S4,K_ _ _ e8 nDb,K_ _ _ e9 nD6,?_,λh=>by simp at h⟩;rw [<-rD];refine .snoc Se er ez (by rw [hn];exact li) (IS dX l (by rw [ZL];exact cD ew)) nm
   refine⟨l,_,rfl,S3,e8,e9,Se,λhl x hx=>?_⟩;rw [cY,ew] at hx;rcases bZ.mp hx with h | h
   .exact c3 hl x h
   rw [Option.toList_some,cJ] at h;subst h;have hm:(ru.1,x)∈xJ (dX++l):=mem.mp (by
    cases hq:(br kvs (Sum.inr x)).isSome with
    | true=>rfl
    | false=>exact absurd (by rw [hq];rfl) c)
   rw [hl,gJ] at hm;exact hm
  rintro σ H8 ⟨l,y5,rfl,S3,e8,e9,Se,c3⟩;rw [aB,cE] at c3;refine⟨dX++l,_,_,rfl,S3,e8,Se,by rw [cu];omega,λRk=>?_⟩;rw [cu] at Rk;have TJ:l=[]:=List.length_eq_zero_iff.mp ∅;obtain⟨Ny,nq⟩:=c2 ∅;rw [TJ,gJ];refine⟨Ny,λj z' hj IH wd ZN=>?_⟩;by_cases cj:j < i
  .exact nq j z' cj IH wd ZN
  have:j=i:=by omega
  subst this;rw [ez] at IH;cases IH;have:=c3 TJ wd (by rw [<-ZL,Ny];exact ZN);rw [Ny] at this;exact this
 rintro σ H6 ⟨dX,y4,y5,rfl,S2,e6,Yc,l2,c2⟩;rw [CB] at c2;exact q dX H6 S2 Yc l2 c2
end
end fY
namespace L2
open PySem M11
def zf {K:aR}{H:Hp}{p D:Addr}{zs:List Str}{σ:St}{x:Str}{Qp:Hp->Prop}(hp:aG K H p (zs.map V.str))(hz:zs.length<=10000)(hD:H D=none)
  (q:∀ts (ps:List (Str×Addr)) H2,aD H H2->H2 D=some (.lst (ts.map V.ref))->ps.map (·.1)=zs->Paired (λt (p:Str×Addr)=>bf K H2 t [.str p.1,.ref p.2]) ts ps->(∀p∈ps,H2 p.2=some (.dK [])/\H p.2=none/\p.2≠D)->(ps.map (·.2)).Nodup->Qp H2) :
  CWq (jQ K p) D (dI [x] [] σ) H Qp (dP 0) ix (uc (gw (gG 0) (gw (Fd) rV))):=by
 refine bY (xs:=zs.map V.str) (λi ys σ2 H2=>∃(ts:List Addr)(ps:List (Str×Addr)),ys=ts.map V.ref/\ts.length=i/\ps.map (·.1)=zs.take i/\Paired (λt (p:Str×Addr)=>bf K H2 t [.str p.1,.ref p.2]) ts ps /\
   (∀p∈ps,H2 p.2=some (.dK [])/\H p.2=none/\p.2≠D)/\(ps.map (·.2)).Nodup/\(∃y0,σ2=[y0])/\aD H H2/\H2 D=some (.lst ys))
  ⟨[],[],rfl,rfl,rfl,.nil,by simp,by simp,⟨none,rfl⟩,ah hD _,ae⟩ (λi ys σ2 H2 _ h=>?_) (λi x ys σ2 H2 ex h=>?_) (λys σ2 H2 h=>?_)
 .obtain⟨_,_,_,_,_,_,_,_,_,sm,_⟩:=h;exact sm.seq hp
 .obtain⟨ts,ps,rfl,ht,hm,kF,hl,hn,⟨y0,rfl⟩,sm,hd⟩:=h;rw [bq] at ex;obtain⟨z,ez,rfl⟩:=bR.mp ex;have li:=(aY.mp ez).1;refine goN (xi ?_);refine⟨_,rfl,λl qV=>⟨mq,λt jN=>?_⟩⟩;have Qj:l≠D:=(aq hd qV).symm;have nt:t≠l:=λe=>by rw [e,ae] at jN;cases jN
  have QU:H2 t=none:=by rw [ai nt] at jN;exact jN
  have ntD:t≠D:=(aq hd QU).symm;have wm:aD H2 (upd (upd H2 l (.dK [])) t (.tup [.str z,.ref l])):=(ah qV _).trans (ah jN _);have gp:=wm _ _ hd;have el:upd (upd H2 l (.dK [])) t (.tup [.str z,.ref l]) l=some (.dK []):=by rw [ai nt.symm,ae]
  have et:bf K (upd (upd H2 l (.dK [])) t (.tup [.str z,.ref l])) t [.str z,.ref l]:=bf.of ae;generalize upd (upd H2 l (.dK [])) t (.tup [.str z,.ref l])=H4 at wm gp el et;refine⟨gp,bI (by rw [aB];omega),ts++[t],ps++[(z,l)],by rw [bD];rfl,by rw [cu,ht];rfl,by rw [bD,hm,cY,ez];rfl,?_,?_,?_,⟨_,rfl⟩,?_,ae⟩
  .exact gh (Paired.ft kF λt' h' z=>a_ gp (wm.tup z)) (a_ gp et)
  .intro p' l8;rcases bZ.mp l8 with h | h
   .obtain⟨a1,a2,a3⟩:=hl p' h;exact⟨by rw [ai a3];exact wm _ _ a1,a2,a3⟩
   rw [cJ.mp h];exact⟨by rw [ai Qj];exact el,sm.free qV,Qj⟩
  .rw [bD];refine lL.mpr ⟨hn,by simp,λa ha b hb e=>?_⟩;rw [o8,cJ] at hb;obtain⟨p',l8,rfl⟩:=cN.mp ha;have:=(hl p' l8).1;rw [e,hb] at this;rw [show H2 l=none from qV] at this;cases this
  intro b o hb;rw [ai (λz=>by rw [z,hD] at hb;cases hb)];exact wm _ _ (sm b o hb)
 obtain⟨ts,ps,rfl,ht,hm,kF,hl,hn,_,sm,hd⟩:=h;rw [aB,cE] at hm;exact q ts ps H2 sm hd hm kF hl hn
def gW {K:aR}{H:Hp}{D a C dx:Addr}{xs:List V}{fs:List (Str×V)}{o:HO}(hD:H D=some (.ins C dx fs))(h:bf K H a xs):bf K (upd H D o) a xs:=by
 rcases h with (h | ⟨u,h⟩) | h
 .exact .inl (.inl (by rw [ai (λz=>by rw [z,hD] at h;cases h)];exact h))
 .exact .inl (.inr ⟨u,by rw [ai (λz=>by rw [z,hD] at h;cases h)];exact h⟩)
 exact .inr h
def ze {K:aR}{H:Hp}{R D:Addr}{rs:List Addr}{es:List (Str×Nat)}{σ:St}{x1 x2:Str}{Qp:Hp->Prop}(hR:aG K H R (rs.map V.ref))(cT:Paired (λt (e:Str×Nat)=>bf K H t [.str e.1,.int (e.2:Int)]) rs es)(a8:es.length<=1000)(hD:H D=none)
  (q:∀ts H2,aD H H2->H2 D=some (.lst (ts.map V.ref))->Paired (λt h=>bf K H2 t [.str h,.bl true]) ts (es.map (·.1))->Qp H2) :
  CWq (jQ K R) D (dI [x1,x2] [] σ) H Qp (D_ K 2 (kI (dP 0) (kI (dP 1) Hq))) ix (uc (gw (gG 0) (gw (tC (.bl true)) rV))):=by
 have ll:=bG cT;refine bY (xs:=rs.map V.ref) (λi ys σ2 H2=>∃ts:List Addr,ys=ts.map V.ref/\ts.length=i/\Paired (λt h=>bf K H2 t [.str h,.bl true]) ts ((es.take i).map (·.1))/\(∃y0 y1,σ2=[y0,y1])/\aD H H2/\H2 D=some (.lst ys))
  ⟨[],rfl,rfl,.nil,⟨none,none,rfl⟩,ah hD _,ae⟩ (λi ys σ2 H2 _ h=>?_) (λi x ys σ2 H2 ex h=>?_) (λys σ2 H2 h=>?_)
 .obtain⟨_,_,_,_,_,sm,_⟩:=h;exact sm.seq hR
 .obtain⟨ts,rfl,ht,hp,⟨y0,y1,rfl⟩,sm,hd⟩:=h;rw [bq] at ex;obtain⟨r,er,rfl⟩:=bR.mp ex;have lr:=(aY.mp er).1;obtain⟨ru,e1⟩:∃ru,es[i]?=some ru:=⟨es[i]'∅,c_ ∅⟩;obtain⟨r',EL,v1⟩:=Paired.at_ cT i ru e1;rw [er] at EL;cases EL;have li:=(aY.mp e1).1;refine⟨r,_,rfl,sm.tup v1,rfl,_,_,rfl,_,_,rfl,rfl,?_⟩;refine xi ?_;refine⟨_,rfl,mq,λt jN=>⟨?_,bI (by rw [aB];omega),ts++[t],?_,?_,?_,⟨_,_,rfl⟩,?_,ae⟩⟩
  .rw [ai (aq hd jN)];exact hd
  .rw [bD];rfl
  .rw [cu,ht];rfl
  .rw [cY,e1,bD];have gp:upd H2 t (.tup [.str ru.1,.bl true]) D=some (.lst (ts.map V.ref)):=by rw [ai (aq hd jN)];exact hd
   exact gh (Paired.ft hp λt' h' z=>a_ gp ((ah jN _).tup z)) (a_ gp (bf.of ae))
  intro b o hb;rw [ai (λz=>by rw [z,hD] at hb;cases hb)];exact ah jN _ _ _ (sm b o hb)
 obtain⟨ts,rfl,ht,hp,_,sm,hd⟩:=h;rw [aB,ll,cE] at hp;exact q ts H2 sm hd hp
end L2
namespace M11
open PySem L2
def xQ.sub {aa:List av}{names:List Str}{b:Str->Bool}{cI:List Be}(h:xQ aa names b cI):∀q∈xJ cI,q.1∈aa.map (·.1)/\q.2∈aa.flatMap (·.2):=by
 induction h with
 | nil=>intro q hq;cases hq
 | @snoc cI k j ru z wd hb er ez _ hw _ ih =>
  intro q hq;unfold xJ at hq;rw [bD] at hq;rcases bZ.mp hq with hq | hq
  .exact ih q hq
  rw [o8,cJ] at hq;rw [hq];have hm:=cD er;refine⟨i7 hm,?_⟩;unfold qk at hw
  split at hw
  .exact(ih (z,wd) (A0.mp hw)).2
  rw [cJ.mp hw];exact oY.mpr ⟨ru,hm,cD ez⟩
def xQ.nd {aa:List av}{names:List Str}{b:Str->Bool}{cI:List Be}(h:xQ aa names b cI):(xJ cI).Nodup:=by
 induction h with
 | nil=>exact jJ
 | @snoc cI k j ru z wd hb er ez _ hw hn ih =>
  unfold xJ;rw [bD];refine lL.mpr ⟨ih,by simp,λx hx y hy e=>?_⟩;rw [o8,cJ] at hy;rw [e,hy] at hx;exact hn hx
theorem yp (m:List Str):∀l:List Str,(l.flatMap λn=>m.map λwd=>(n,wd)).length=l.length * m.length
 | []=>by simp
 | n::l=>by
  rw [List.flatMap_cons,cu,yp m l,aB,eC,Nat.add_mul];omega
def xQ.len {aa:List av}{names:List Str}{b:Str->Bool}{cI:List Be}(h:xQ aa names b cI)(hl:aa.length<=100)(h8:∀ru∈aa,ru.2.length<=8):cI.length<=80000:=by
 have h1:=fq (xJ cI) ((aa.map (·.1)).flatMap λn=>(aa.flatMap (·.2)).map λwd=>(n,wd)) h.nd λq hq=>by
  obtain⟨a,c⟩:=h.sub q hq;exact oY.mpr ⟨q.1,a,cN.mpr ⟨q.2,c,rfl⟩⟩
 rw [yp] at h1;have h2:=fY.kN aa 100 hl h8;unfold xJ at h1;rw [aB,aB] at h1;have h3:aa.length * (aa.flatMap (·.2)).length<=100 * 800:=Nat.mul_le_mul hl h2;omega
def KD (aa:List av) (names:List Str)(b:Str->Bool) (n:Nat)(cI:List Be):Prop:=∀k ru,k < n->aa[k]?=some ru->∀j z,j < Ea b ru.2->ru.2[j]?=some z->∀wd∈qk names cI z,(ru.1,wd)∈xJ cI
end M11
namespace fY
open PySem L2 M11
section
def BO (K:aR)(C:Addr):Sp:=λvs H Q _=>∃(H0:Hp)(a dx R:Addr)(rs:List Addr)(aa:List av),vs=[.ref a,.ref R]/\aD H0 H/\H0 a=none/\H a=some (.ins C dx [])/\aG K H0 R (rs.map V.ref)/\bz K H0 rs aa/\aa.length<=100/\(∀ru∈aa,ru.2.length<=8) /\
 ∀(e d bg:Addr)(kE:List (aK×V))(aP:List (Str×Nat))(ps:List (Str×Addr))(cI:List Be)(H':Hp),uq K C H0 H' a e d bg kE aP ps cI->ps.map (·.1)=hd aa->qC aa aP->nj aa aa.length aP->(∀z,(br kE (Sum.inr z)).isSome=decide (z∈aP.map (·.1))) ->
  xQ aa (hd aa) (λz=>decide (z∈aP.map (·.1))) cI->KD aa (hd aa) (λz=>decide (z∈aP.map (·.1))) aa.length cI->Q .dG H'
def nR:aJ ["self","rules","number","many","rule"] ["self","rules"] (aw Ad):=iP rfl rfl rfl rfl nofun
def Gy {C fF:Addr}{fdF:FuncData}(F:hZ K "__init__" "BeginTable.__init__" Ad f fd)(T:Txt mg)(B:BC K C)(GE:aL P w K mg base 1 "found_empties" ["rules"] (pd K))(GH:aL P w K mg base 1 "heads_of" ["rules"] (kT K))
  (FF:bh P w K mg base fJ 2 fF fdF ["self","number","rule"] (Fp K C))(MF:Meth K C "find_begins" fF)(BF:Binds K fdF ["self","number","rule"] []):bh P w K mg base fJ 3 f fd ["self","rules"] (BO K C):=by
 refine F.ok nR (by and_intros) (λdN A outer s H vs Q E hr h=>?_)
 obtain⟨H0,a,dx,R,rs,aa,rfl,s0,f0,ea,hR,cT,a8,h8,q⟩:=h;refine⟨_,aj (gy (pv 0) (bX (GE.mono (by decide:1<=2)) hr rfl (af (pv 1) ak)) rfl)
  (aj (gy (pv 0) (aX (eh rfl) rfl T.CA fV (af (bx ["name","number"] [] rfl (aQ (eK (pv 0) rfl)) (ba rfl rfl) nofun rfl nofun
   (λ_ _ _ _ _=>gB (n:=2) K rfl (aC (au (i:=0) (ndq nofun) rfl (bC rfl)) (aC (au (i:=1) (ndq nofun) rfl (bC rfl)) bM))) (λ_ _ _ _ _=>b9)
   (λ_ _ _ _ _=>bT (af (pv 0) (af gC ak)))) ak)) rfl)
  (aj (gy (pv 0) (bU ak) rfl)
  (aj (gy (pv 0) (aX (eh rfl) rfl T.CA fV (af (bx ["name"] [] rfl (aQ (bX (GH.mono (by decide:1<=2)) hr rfl (af (pv 1) ak))) (ba rfl rfl) nofun rfl nofun
   (λ_ _ _ _ _=>au (i:=0) (ndq nofun) rfl (bC rfl)) (λ_ _ _ _ _=>b9)
   (λ_ _ _ _ _=>bT (af (pv 0) (af gY ak)))) ak)) rfl)
  (aj (aF (i:=3) nR.nd rfl (bC rfl) (K0 E9 ay))
  (ao (kx cx (bB sH (pv 3) (a9 di rfl T.len jK (af (eK (pv 0) rfl) ak)) (cX _))
   (aj (aF (i:=3) nR.nd rfl (bC rfl) (a9 di rfl T.len jK (af (eK (pv 0) rfl) ak)))
   (ao (bK cx rfl (nZ rfl T.Kd (af (pv 1) ak)) (fc rfl (aC (au (i:=2) nR.nd rfl (bC rfl)) (aC (au (i:=4) nR.nd rfl (bC rfl)) bM)))
    (ao (b8 (B4 (pv 0) B.cls MF FF hr BF .nil p_ (af (pv 2) (af (pv 4) ak)))))))))))))),?_⟩
 nofun
 have ll:=bG cT;refine⟨_,rfl,R,rs,aa,rfl,s0.seq hR,cT.same s0,∅,h8,λD1 C6 aP H1 f1 s1 e1 w1 emp A7=>?_⟩;have XJ:=s1 _ _ ea;refine⟨_,rfl,a,C,dx,[],rfl,XJ,B.cls,B.a1,(by show 0 < 1000;decide),?_⟩;have e2:upd H1 a (.ins C dx (dS "empties" (.ref D1) [])) D1=some (.lst (C6.map V.ref)):=by rw [ai (λz=>by rw [z,XJ] at e1;cases e1)];exact e1
 have w2:pK K (upd H1 a (.ins C dx (dS "empties" (.ref D1) []))) C6 aP:=w1.keep λ_ _ z=>gW XJ z;have EG:aD H0 (upd H1 a (.ins C dx (dS "empties" (.ref D1) []))):=λc o hc=>by rw [ai (λz=>by rw [z,f0] at hc;cases hc)];exact s1 _ _ (s0 c o hc)
 have RY:upd H1 a (.ins C dx (dS "empties" (.ref D1) [])) a=some (.ins C dx (dS "empties" (.ref D1) [])):=ae;generalize upd H1 a (.ins C dx (dS "empties" (.ref D1) []))=H2 at e2 w2 EG RY;have lets:=emp.len;refine⟨_,rfl,a,C,dx,_,_,rfl,RY,B.cls,B.a1,rfl,D1,rfl,⟨_,aG.of e2⟩,λD2 iY=>ze (aG.of e2) w2 ∅ iY λlU H3 s3 e3 p3=>?_⟩;have kp:Paired (λt (kv:aK×V)=>bf K H3 t [kV kv.1,kv.2]) lU ((aP.map (·.1)).map λh=>((Sum.inr h:aK),V.bl true)):=cR p3 λ_ _ z=>z;refine⟨D2,lU,_,rfl,e3,kp,λe he=>?_⟩;have DJ:∀z,(br (de ((aP.map (·.1)).map λh=>((Sum.inr h:aK),V.bl true)) []) (Sum.inr z)).isSome=decide (z∈aP.map (·.1)):=λz=>by
  rw [rR];by_cases c:z∈aP.map (·.1)
  .rw [az c,cw c];rfl
  rw [aA c,dO c];rfl
 generalize de ((aP.map (·.1)).map λh=>((Sum.inr h:aK),V.bl true)) []=kE at DJ;have P1:=(EG.trans s3).trans (ah he (.dK kE));have NZ:=ah he (.dK kE) _ _ (s3 _ _ RY);have Ud:upd H3 e (.dK kE) e=some (.dK kE):=ae;have KS:aD H2 (upd H3 e (.dK kE)):=s3.trans (ah he (.dK kE));generalize upd H3 e (.dK kE)=H4 at P1 NZ Ud KS;have X1:=KS _ _ e2;have wE4:pK K H4 C6 aP:=w2.keep λ_ _ z=>KS.tup z;refine⟨_,rfl,a,C,dx,_,rfl,NZ,B.cls,B.a2,(by show 1 < 1000;decide),?_⟩;generalize WT:dS "empty" (.ref e) (dS "empties" (.ref D1) [])=Lk;have RX:upd H4 a (.ins C dx Lk) e=some (.dK kE):=by rw [ai (λz=>by rw [z,NZ] at Ud;cases Ud)];exact Ud
 have KW:aD H0 (upd H4 a (.ins C dx Lk)):=λc o hc=>by rw [ai (λz=>by rw [z,f0] at hc;cases hc)];exact P1 c o hc
 have ea5:upd H4 a (.ins C dx Lk) a=some (.ins C dx Lk):=ae;have X0:upd H4 a (.ins C dx Lk) D1=some (.lst (C6.map V.ref)):=by rw [ai (λz=>by rw [z,NZ] at X1;cases X1)];exact X1
 have YY:pK K (upd H4 a (.ins C dx Lk)) C6 aP:=wE4.keep λ_ _ z=>gW NZ z;generalize upd H4 a (.ins C dx Lk)=H5 at RX KW ea5 X0 YY;refine⟨rP,λbg Nw=>?_⟩;have fbg:H0 bg=none:=KW.free Nw;have Ug:upd H5 bg (.lst []) bg=some (.lst []):=ae;have Tg:=KW.trans (ah Nw (.lst []));have NX:=ah Nw (.lst []) _ _ RX;have OW:=ah Nw (.lst []) _ _ ea5;have VJ:D1≠bg:=aq X0 Nw;have Um:=ah Nw (.lst []) _ _ X0;have YX:pK K (upd H5 bg (.lst [])) C6 aP:=YY.keep λ_ _ z=>(ah Nw (.lst [])).tup z;generalize upd H5 bg (.lst [])=H6 at Ug Tg NX OW Um YX;refine⟨_,rfl,a,C,dx,_,rfl,OW,B.cls,B.a3,(by rw [<-WT];show 2 < 1000;decide),?_⟩;generalize Z1:dS "begins" (.ref bg) Lk=J0;have NW:upd H6 a (.ins C dx J0) e=some (.dK kE):=by rw [ai (λz=>by rw [z,OW] at NX;cases NX)];exact NX
 have eb7:upd H6 a (.ins C dx J0) bg=some (.lst []):=by rw [ai (λz=>by rw [z,OW] at Ug;cases Ug)];exact Ug
 have EF:aD H0 (upd H6 a (.ins C dx J0)):=λc o hc=>by rw [ai (λz=>by rw [z,f0] at hc;cases hc)];exact Tg c o hc
 have ea7:upd H6 a (.ins C dx J0) a=some (.ins C dx J0):=ae;have dE7:upd H6 a (.ins C dx J0) D1=some (.lst (C6.map V.ref)):=by rw [ai (λz=>by rw [z,OW] at Um;cases Um)];exact Um
 have YW:pK K (upd H6 a (.ins C dx J0)) C6 aP:=YX.keep λ_ _ z=>gW OW z;generalize upd H6 a (.ins C dx J0)=H7 at NW eb7 EF ea7 dE7 YW;refine⟨_,rfl,R,rs,aa,rfl,EF.seq hR,cT.same EF,∅,λD4 H8 f8 s8 e8=>?_⟩;have EH:=gT (aa.map (·.1)) [];simp only [i6,aB] at EH;refine⟨D4,rfl,⟨_,aG.of e8⟩,λD5 OP=>zf (aG.of e8) ∅ OP λts ps H9 s9 e9 m9 p9 l9 n9=>?_⟩;have n1:(ps.map (·.1)).Nodup:=by rw [m9];exact mZ _ jJ
 have G3:Paired (λt (kv:aK×V)=>bf K H9 t [kV kv.1,kv.2]) ts (ps.map jn):=cR p9 λ_ _ z=>z;refine⟨D5,ts,_,rfl,e9,G3,λd qt=>?_⟩;have RR:de (ps.map jn) []=ps.map jn:=oy _ [] (by
  rw [j_,n_];exact wU n1)
 rw [RR];have Ov:=s8.trans s9;have sd:=ah qt (.dK (ps.map jn));have Ae:=Ov.trans sd;have qy:upd H9 d (.dK (ps.map jn)) d=some (.dK (ps.map jn)):=ae;have MR:∀p∈ps,upd H9 d (.dK (ps.map jn)) p.2=some (.dK [])/\p.2≠d:=λp hp=>⟨sd _ _ (l9 p hp).1,λz=>by have:=(l9 p hp).1;rw [z,qt] at this;cases this⟩;generalize upd H9 d (.dK (ps.map jn))=uo at Ae qy MR;have A9:=Ae _ _ ea7;have xr:=Ae _ _ NW;have NY:=Ae _ _ eb7;have U7:=EF.trans Ae;have N3:=Ae _ _ dE7;have UD:pK K uo C6 aP:=YW.keep λ_ _ z=>Ae.tup z;refine⟨_,rfl,a,C,dx,_,rfl,A9,B.cls,B.a4,(by rw [<-Z1,<-WT];show 3 < 1000;decide),?_⟩;have fp:∀p∈ps,H0 p.2=none/\p.2≠e:=λp hp=>by
  have h8':H8 p.2=none:=(l9 p hp).2.1;refine⟨(EF.trans s8).free h8',λz=>?_⟩;have:=s8 _ _ NW;rw [<-z,h8'] at this;cases this
 have hfs:∃fs,dS "firsts" (.ref d) J0=fs/\fs.lookup ("empty":Str)=some (.ref e)/\fs.lookup ("begins":Str)=some (.ref bg)/\fs.lookup ("firsts":Str)=some (.ref d)/\fs.lookup ("find_begins":Str)=none/\fs.lookup ("words_of_part":Str)=none/\fs.lookup ("empties":Str)=some (.ref D1):=by
  refine⟨_,rfl,?_⟩;rw [<-Z1,<-WT];refine⟨?_,?_,?_,?_,?_,?_⟩ <;> rfl
 obtain⟨fs,efs,k1,k2,k3,k4,k5,k6⟩:=hfs;rw [efs];have EV:uq K C H0 (upd uo a (.ins C dx fs)) a e d bg kE aP ps []:=by
  refine⟨λc o hc=>by rw [ai (λz=>by rw [z,f0] at hc;cases hc)];exact U7 c o hc,⟨dx,fs,ae,k1,k2,k3,k4,k5⟩,?_,?_,n1,n9,λp hp=>⟨⟨[],?_,rfl⟩,(fp p hp).1,(fp p hp).2,(MR p hp).2⟩,⟨[],?_,.nil⟩,fbg,⟨D1,C6,⟨dx,fs,ae,k6⟩,by rw [ai (λz=>by rw [z,A9] at N3;cases N3)];exact N3,UD.keep λ_ _ z=>gW A9 z,VJ⟩⟩
  .rw [ai (λz=>by rw [z,A9] at xr;cases xr)];exact xr
  .rw [ai (λz=>by rw [z,A9] at qy;cases qy)];exact qy
  .have:=(MR p hp).1;rw [ai (λz=>by rw [z,A9] at this;cases this)];exact this
  rw [ai (λz=>by rw [z,A9] at NY;cases NY)];exact NY
 generalize upd uo a (.ins C dx fs)=CQ at EV;have eb:(λz=>(br kE (Sum.inr z)).isSome)=λz=>decide (z∈aP.map (·.1)):=funext DJ;refine⟨1,rfl,?_⟩;refine⟨λmm σ zx=>∃(cI:List Be) (many:Int)(y2 y4:Option V),σ=[bj a,bj R,y2,some (.int many),y4]/\uq K C H0 zx a e d bg kE aP ps cI/\xQ aa (hd aa) (λz=>decide (z∈aP.map (·.1))) cI/\-1<=many/\many<=cI.length /\
  (many=cI.length->KD aa (hd aa) (λz=>decide (z∈aP.map (·.1))) aa.length cI)/\(mm:Int)=80001 - many,⟨80002,[],-1,none,none,rfl,EV,.nil,∅,by simp,by simp,∅⟩,?_⟩
 rintro mm σ zx ⟨cI,many,y2,y4,rfl,IL,N9,b1,b2,cl,em⟩;obtain⟨Uk,uh,q1,q2,q3,q4,q5,q6⟩:=IL.ia;obtain⟨tb,Z8,Nz⟩:=IL.lb;have lb:=bG Nz;have MU:=N9.len a8 h8;refine⟨_,rfl,_,rfl,a,C,Uk,uh,_,rfl,q1,B.cls,B.a3,q3,bg,_,rfl,.inl (aG.of Z8),_,_,rfl,rfl,_,rfl,?_⟩;refine d_ (λc=>?_) (λc=>?_)
 .have c':=dY c;rw [aB,lb] at c';refine⟨λσ CP=>∃(dX:List Be)(y2 y4:Option V),σ=[bj a,bj R,y2,some (.int (cI.length:Int)),y4]/\uq K C H0 CP a e d bg kE aP ps dX/\xQ aa (hd aa) (λz=>decide (z∈aP.map (·.1))) dX/\cI.length<=dX.length /\
   (dX.length=cI.length->dX=cI/\KD aa (hd aa) (λz=>decide (z∈aP.map (·.1))) aa.length cI),?_,?_⟩
  .rintro σ CP ⟨dX,y2,y4,rfl,Ic,Eu,V5,IK⟩;have:=Eu.len a8 h8;refine⟨(80001 - cI.length:Int).toNat,∅,dX,_,_,_,rfl,Ic,Eu,∅,∅,λz=>?_,∅⟩;obtain⟨Kj,Ed⟩:=IK ∅;rw [Kj];exact Ed
  refine⟨_,rfl,a,C,Uk,uh,_,rfl,q1,B.cls,B.a3,q3,bg,_,rfl,.inl (aG.of Z8),?_⟩;rw [aB,lb];refine⟨_,rfl,R,_,rfl,IL.sm.seq hR,?_⟩;refine kK (xs:=rs.map V.ref) (λi σ CP=>∃(dX:List Be)(y2 y4:Option V),σ=[bj a,bj R,y2,some (.int (cI.length:Int)),y4]/\uq K C H0 CP a e d bg kE aP ps dX/\xQ aa (hd aa) (λz=>decide (z∈aP.map (·.1))) dX/\cI.length<=dX.length /\
   (dX.length=cI.length->dX=cI/\KD aa (hd aa) (λz=>decide (z∈aP.map (·.1))) i cI)) ⟨cI,_,_,rfl,IL,N9,aH _,λ_=>⟨rfl,λk ru hk=>by omega⟩⟩ ?_ ?_ ?_
  .rintro i σ CP _ ⟨dX,y2,y4,rfl,Ic,_⟩;exact Ic.sm.seq hR
  .rintro i x σ CP t ex ⟨dX,y2,y4,rfl,Ic,Eu,V5,IK⟩ ht
   ac_nf0
   rw [bq] at ex;obtain⟨r,er,rfl⟩:=bR.mp ex;obtain⟨ru,tH,rv⟩:=cT.get er;have pG:=cD tH;have Ss:=Ic.same (ah ht (.tup [.int (i:Int),.ref r]));have QR:bf K (upd CP t (.tup [.int (i:Int),.ref r])) t [.int (i:Int),.ref r]:=bf.of ae;generalize upd CP t (.tup [.int (i:Int),.ref r])=H14 at Ss QR;obtain⟨dx4,OR,r1,r2,r3,r4,r5,r6⟩:=Ss.ia;refine⟨t,_,rfl,QR,rfl,_,_,rfl,_,_,rfl,rfl,?_⟩;refine⟨_,rfl,a,dx4,OR,rfl,r1,r5,_,rfl,_,rfl,H0,a,e,d,bg,r,kE,aP,ps,dX,i,ru,aa,rfl,Ss,rv,tH,h8 ru pG,by rw [m9];exact(eX _ _ _).mpr (.inr (i7 pG)),?_,?_,?_⟩
   .intro xA xf;have:=xf.len a8 h8;omega
   .rw [m9,eb];exact Eu
   rw [m9,eb];intro Ye H15 YD Yd l15 X_;refine⟨Ye,_,_,rfl,YD,Yd,∅,λhl3=>?_⟩;obtain⟨x1,x2⟩:=IK ∅;obtain⟨x3,x4⟩:=X_ ∅;refine⟨x3.trans x1,λk kY hk Xs j z hj ez wd hw=>?_⟩;by_cases ck:k < i
   .exact x2 k kY ck Xs j z hj ez wd hw
   have:k=i:=by omega
   subst this;rw [tH] at Xs;cases Xs;rw [<-x1] at hw ⊢;exact x4 j z hj ez wd hw
  rintro σ CP ⟨dX,y2,y4,rfl,Ic,Eu,V5,IK⟩;rw [aB,ll] at IK;exact⟨dX,_,_,rfl,Ic,Eu,V5,IK⟩
 have c':=of_decide_eq_false (o6.mpr c);rw [aB,lb] at c';exact q e d bg kE aP ps cI zx IL m9 emp A7 DJ N9 (cl ∅)
end
end fY
namespace L2
open PySem PySem.W
section
variable {X:Cx}{ag:List (Addr×Obj)}{σ:St}{H:Hp}{s:Shared}{a:Addr}{kvs:List (aK×V)}{k:aK}{u:Value}{A:Around}{E:Value->Shared->Prop}
def N1 {z:V}{r:Value}{Q:Value->Shared->Prop}(I:Inv X ag σ H s)(e:H a=some (.dK kvs))(hl:kvs.length < sizeLine)(ry:RelV (kV k) u)(rz:RelV z r)
  (h1:∀v w' s',br kvs k=some v->Inv X ag σ H s'->RelV v w'->Q w' s')(h2:br kvs k=none->∀s',Inv X ag σ (upd H a (.dK (bE kvs k z))) s'->Q r s') :
  wpAny (model X.prog X.w) A (call (.builtin "dict.setdefault") [.ref a,u,r]) Q E s:=by
 obtain⟨zl,hd,vs,rel,dd⟩:=yY I.bF e;refine call_meetsIn PySem.F.slot_dict_setdefault dd.typeIs PySem.F.entry_dict_setdefault (PySem.F.args_dict_setdefault_3 _ _ _) (kt_meets_setdefault (a7 X.prog X.w) a (lZ ry) hd r)
  ⟨vs,dd,by rw [<-rel.length];exact zl,λv hv=>?_,λhn h' IJ hs=>?_⟩
 .have rv:=rel.val k;rw [hv] at rv;cases e2:br kvs k with
  | none=>rw [e2] at rv;cases rv
  | some x=>rw [e2] at rv;exact h1 x v _ e2 (I.tok _) rv
 have DU:br kvs k=none:=by
  have rv:=rel.val k;rw [hn] at rv;cases e2:br kvs k with
  | none=>rfl
  | some x=>rw [e2] at rv;cases rv
 have he:∃q,h'.get? a=some q:=let ⟨q,_,_,hq,_⟩:=IJ;⟨q,hq⟩;exact h2 DU _ (q8 I (by rw [e];exact True.intro) hs he (tK (by have:=fg kvs k z;omega) hd (rel.put k rz) IJ))
end
section
variable {X:Cx}{o e f:Expr}{apos g8:Pos}{td ty tx:TE}
def L1 (td ty tx:TE):TE:=λσ H Q=>td σ H λx H1=>∃a,x=.ref a/\Us H1 a/\ty σ H1 λy H2=>tx σ H2 λz H3=>∃kvs k,H3 a=some (.dK kvs)/\y=kV k/\kvs.length < sizeLine /\
 (∀v,br kvs k=some v->Q v H3)/\(br kvs k=none->Q z (upd H3 a (.dK (bE kvs k z))))
def Ga (ho:PE X o td)(he:PE X e ty)(hf:PE X f tx)(m:M2 X o "setdefault" apos e f g8):PE X (.Call (.Attribute o "setdefault" apos) [e,f] [] g8) (L1 td ty tx):=by
 intro ag s σ H Q I h;refine wpAny_Call_method m.base m.NR m.line zL PySem.F.slot_dict_setdefault PySem.F.type_dict_setdefault (cK (ho ag s σ H _ I h) λu s1 aS=>?_);obtain⟨x,H1,I1,rx,a,ex,d,q1⟩:=aS;subst ex;obtain rfl:u=Value.ref a:=rx;obtain⟨t1,t2,_⟩:=AR I1 d;refine⟨t1,t2,?_⟩;rw [m.trees];refine vQ rfl (vH (oZ (cK (he ag s1 σ H1 _ I1 q1) λiv s2 ⟨y,H2,I2,ry,q2⟩ =>
  oZ (cK (hf ag s2 σ H2 _ I2 q2) λfv s3 ⟨z,H3,I3,rz,kvs,k,ea,ey,hl,q3,q4⟩=>Calls.spliced_nil ?_))))
 subst ey;exact N1 I3 ea hl ry rz (λv w' s4 l I4 Ag=>⟨v,_,I4,Ag,q3 v l⟩) λl s4 I4=>⟨z,_,I4,rz,q4 l⟩
end
end L2
namespace fY
open PySem L2 M11
section
def P8 {ps:List (Str×Addr)}(n1:(ps.map (·.1)).Nodup)(n2:(ps.map (·.2)).Nodup){p p':Str×Addr}(hp:p∈ps)(l8:p'∈ps)(z:p'≠p):p'.1≠p.1/\p'.2≠p.2:=by
 refine⟨λq=>z ?_,λq=>z ?_⟩
 .have w1:=gM ps n1 p' l8;have w2:=gM ps n1 p hp;rw [q,w2] at w1;injection w1 with w3;injection w3 with w4;exact Prod.ext q w4.symm
 obtain⟨i,hi,ei⟩:=pU.mp l8;obtain⟨j,hj,ej⟩:=pU.mp hp;have Cm:i=j:=by
  refine(rp (xs:=ps.map (·.2)) (h₀:=by simpa using hi) (h₁:=by simpa using hj) n2).mp ?_;rw [oX,oX,ei,ej];exact q
 subst Cm;exact ei.symm.trans ej
structure IM (ps:List (Str×Addr))(st:Str->List Int)(H:Hp)(d:Addr):Prop where
 hd:H d=some (.dK (ps.map jn))
 n1:(ps.map (·.1)).Nodup
 n2:(ps.map (·.2)).Nodup
 lst:∀p∈ps,H p.2=some (.lst ((st p.1).map V.int))
def IM.same {ps:List (Str×Addr)}{st:Str->List Int}{H H':Hp}{d:Addr}(h:IM ps st H d)(s:aD H H'):IM ps st H' d:=⟨s _ _ h.hd,h.n1,h.n2,λp hp=>s _ _ (h.lst p hp)⟩
def CI (st:Str->List Int)(n:Str) (k:Int):Str->List Int:=λz=>if z=n then st z++[k] else st z
def IM.more {ps:List (Str×Addr)}{st:Str->List Int}{H:Hp}{d:Addr}(h:IM ps st H d){p:Str×Addr}(hp:p∈ps) (k:Int):IM ps (CI st p.1 k) (upd H p.2 (.lst ((st p.1).map V.int++[.int k]))) d:=by
 have a:=h.lst p hp;have nd:d≠p.2:=λz=>by have:=h.hd;rw [z,a] at this;cases this
 refine⟨by rw [ai nd];exact h.hd,h.n1,h.n2,λp' l8=>?_⟩;by_cases z:p'=p
 .rw [z,ae];have e1:CI st p.1 k p.1=st p.1++[k]:=az rfl;rw [e1,bD];rfl
 obtain⟨a1,a2⟩:=P8 h.n1 h.n2 hp l8 z;have e1:CI st p.1 k p'.1=st p'.1:=aA a1;rw [ai a2,e1];exact h.lst p' l8
def Fn (K:aR):Sp:=λvs H Q _=>∃(R:Addr)(rs:List Addr)(aa:List av),vs=[.ref R]/\aG K H R (rs.map V.ref)/\bz K H rs aa/\aa.length<=1000 /\
 ∀(d:Addr)(ps:List (Str×Addr))(H':Hp),H d=none->aD H H'->IM ps (λn=>nums aa n aa.length) H' d->ps.map (·.1)=hd aa->(∀p∈ps,H p.2=none)->Q (.ref d) H'
def wq:aJ ["rules","numbers","number","rule"] ["rules"] (aw FD):=iP rfl rfl rfl rfl nofun
def Jt (F:hZ K "numbers_by_name" "numbers_by_name" FD f fd)(T:Txt mg)(GH:aL P w K mg base 1 "heads_of" ["rules"] (kT K)):bh P w K mg base fJ 2 f fd ["rules"] (Fn K):=by
 refine F.ok wq (by and_intros) (λdN A outer s H vs Q E hr h=>?_)
 obtain⟨R,rs,aa,rfl,hR,cT,a8,q⟩:=h;have hu:=gk hr;refine⟨_,aj (aF (i:=1) wq.nd rfl (bC rfl) (aX (eh rfl) rfl T.CA fV (af
   (bx ["name"] [] rfl (aQ (bX GH hr rfl (af (pv 0) ak))) (ba rfl rfl) nofun rfl nofun
    (λ_ _ _ _ _=>au (i:=0) (ndq nofun) rfl (bC rfl)) (λ_ _ _ _ _=>b9)
    (λ_ _ _ _ _=>bT (af (pv 0) (af (bU ak) ak)))) ak)))
  (aj (bK cx rfl (nZ rfl T.Kd (af (pv 0) ak)) (fc rfl (aC (au (i:=2) wq.nd rfl (bC rfl)) (aC (au (i:=3) wq.nd rfl (bC rfl)) bM)))
   (ao (b8 (gZ ie iI iJ cq (fk hu (pv 1) (bH cS (pv 3) ay (λ_ _=>rfl)) (λ_ _=>rfl)) (af (pv 2) ak)))))
  (ao (bc (pv 1)))),?_⟩
 nofun
 have ll:=bG cT;refine⟨_,rfl,R,rs,aa,rfl,hR,cT,a8,λD2 H3 f3 s3 e3=>?_⟩;have EH:=gT (aa.map (·.1)) [];simp only [i6,aB] at EH;refine⟨D2,rfl,⟨_,aG.of e3⟩,λD3 IF=>tP (aG.of e3) ∅ IF λts ps H4 s4 e4 m4 p4 l4 n4=>?_⟩;have n1:(ps.map (·.1)).Nodup:=by rw [m4];exact mZ _ jJ
 have G3:Paired (λt (kv:aK×V)=>bf K H4 t [kV kv.1,kv.2]) ts (ps.map jn):=cR p4 λ_ _ z=>z;refine⟨D3,ts,_,rfl,e4,G3,λd qt=>?_⟩;have RR:de (ps.map jn) []=ps.map jn:=oy _ [] (by
  rw [j_,n_];exact wU n1)
 rw [RR];have s5:=(s3.trans s4).trans (ah qt (.dK (ps.map jn)));have zB:=ah qt (.dK (ps.map jn));have xK:H d=none:=(s3.trans s4).free qt;have S5:IM ps (λn=>nums aa n 0) (upd H4 d (.dK (ps.map jn))) d:=⟨ae,n1,n4,λp hp=>zB _ _ (l4 p hp).1⟩;have OS:∀p∈ps,H p.2=none:=λp hp=>s3.free (l4 p hp).2.1;generalize upd H4 d (.dK (ps.map jn))=H5 at s5 S5;clear zB;refine⟨_,rfl,R,_,rfl,s5.seq hR,?_⟩
 let oJ:oN:=λi σ H6=>∃(y2 y3:Option V),σ=[bj R,bj d,y2,y3]/\aD H H6/\IM ps (λn=>nums aa n i) H6 d
 refine kK (xs:=rs.map V.ref) oJ ⟨none,none,rfl,s5,S5⟩ ?_ ?_ ?_
 .rintro i σ H6 _ ⟨y2,y3,rfl,s6,_⟩;exact s6.seq hR
 .rintro i x σ H6 t ex ⟨y2,y3,rfl,s6,S6⟩ ht
  ac_nf0
  rw [bq] at ex;obtain⟨r,er,rfl⟩:=bR.mp ex;obtain⟨ru,tH,p,v1,v2⟩:=cT.get er;have pG:=cD tH;have li:=(aY.mp tH).1;have BV:=ah ht (.tup [.int (i:Int),.ref r]);have Lc:bf K (upd H6 t (.tup [.int (i:Int),.ref r])) t [.int (i:Int),.ref r]:=bf.of ae;have s7:=s6.trans BV;have S7:=S6.same BV;generalize upd H6 t (.tup [.int (i:Int),.ref r])=H7 at Lc s7 S7;obtain⟨pn,yM,zI⟩:∃pn∈ps,pn.1=ru.1:=by
   have:ru.1∈ps.map (·.1):=by rw [m4];exact(eX _ _ _).mpr (.inr (i7 pG))
   obtain⟨pn,a,b⟩:=cN.mp this;exact⟨pn,a,b⟩
  have an:=S7.lst pn yM;have vn:=gM ps n1 pn yM;rw [zI] at vn;have hg:cC H7 d (.str ru.1) (some (.ref pn.2)):=by
   have:=cC.k (k:=Sum.inr ru.1) S7.hd;rw [vn] at this;exact this
  have ln:=yt aa pn.1 i;refine⟨t,_,rfl,Lc,rfl,_,_,rfl,_,_,rfl,rfl,?_⟩;refine⟨_,rfl,_,rfl,r,_,_,_,rfl,rfl,s7.tup v1,rfl,d,_,rfl,hg,.inl ⟨rfl,_,aG.of an⟩,_,rfl,pn.2,_,_,rfl,rfl,an,bI (by rw [aB];omega),?_⟩;have S8:=S7.more yM (i:Int);refine⟨_,_,rfl,λb o hb=>by rw [ai (λz=>by rw [z,OS pn yM] at hb;cases hb)];exact s7 b o hb,S8.hd,S8.n1,S8.n2,λp' l8=>?_⟩;have:=S8.lst p' l8;rw [this]
  congr 3
  unfold CI;rw [DC];by_cases c:p'.1=pn.1
  .rw [az c,az];unfold OF;rw [tH,c,zI];simp
  rw [aA c,aA,gJ];unfold OF;rw [tH];intro z;have z2:=dY z;injection z2 with z3;exact c (by rw [zI];exact z3.symm)
 rintro σ H6 ⟨y2,y3,rfl,s6,S6⟩;rw [aB,ll] at S6;exact⟨_,rfl,q d ps H6 xK s6 S6 m4 OS⟩
def KL (K:aR):Sp:=λvs H Q _=>∃(R:Addr)(rs:List Addr)(aa:List av),vs=[.ref R]/\aG K H R (rs.map V.ref)/\bz K H rs aa/\aa.length<=1000/\(∀ru∈aa,ru.2.length<=8) /\
 ∀(d:Addr)(H':Hp),H d=none->aD H H'->Q (.ref d) H'
structure ET (H0 H:Hp)(d:Addr)(kvs:List (aK×V)) (n:Nat):Prop where
 hd:H d=some (.dK kvs)
 ln:kvs.length<=n
 lst:∀kv∈kvs,∃a xs,kv.2=.ref a/\H a=some (.lst xs)/\H0 a=none/\xs.length<=n
def ET.same {H0 H H':Hp}{d:Addr}{kvs:List (aK×V)}{n:Nat}(h:ET H0 H d kvs n)(s:aD H H'):ET H0 H' d kvs n:=⟨s _ _ h.hd,h.ln,λkv hk=>let ⟨a,xs,e1,e2,e3,e4⟩:=h.lst kv hk;⟨a,xs,e1,s _ _ e2,e3,e4⟩⟩
def ET.more {H0 H:Hp}{d a:Addr}{kvs:List (aK×V)}{n:Nat}{xs:List V}{y:V}(h:ET H0 H d kvs (n+1))(ha:H a=some (.lst xs))(lx:xs.length<=n)(l2:∀kv∈kvs,∃a xs,kv.2=.ref a/\H a=some (.lst xs)/\H0 a=none/\xs.length<=n):ET H0 (upd H a (.lst (xs++[y]))) d kvs (n+1):=by
 have nd:d≠a:=λz=>by have:=h.hd;rw [z,ha] at this;cases this
 refine⟨by rw [ai nd];exact h.hd,h.ln,λkv hk=>?_⟩;obtain⟨b,ys,e1,e2,e3,e4⟩:=l2 kv hk;by_cases c:b=a
 .exact⟨b,xs++[y],e1,by rw [c,ae],e3,by rw [cu];simp;omega⟩
 exact⟨b,ys,e1,by rw [ai c];exact e2,e3,∅⟩
def LP {kvs:List (aK×V)}{k:aK}{v:V}(h:br kvs k=some v):∃kv∈kvs,kv.2=v:=by
 unfold br at h;obtain⟨kv,e1,e2⟩:=bR.mp h;exact⟨kv,List.mem_of_find?_eq_some e1,e2⟩
def uG:aJ ["rules","standings","number","rule","place","part"] ["rules"] (aw Mi):=iP rfl rfl rfl rfl nofun
def MD (F:hZ K "standings_by_part" "standings_by_part" Mi f fd)(T:Txt mg):bh P w K mg base fJ 1 f fd ["rules"] (KL K):=by
 refine F.ok uG (by and_intros) (λdN A outer s H vs Q E hr h=>?_)
 obtain⟨R,rs,aa,rfl,hR,cT,a8,h8,q⟩:=h;have hu:=gk hr;refine⟨_,aj (aF (i:=1) uG.nd rfl (bC rfl) gY)
  (aj (bK cx rfl (nZ rfl T.Kd (af (pv 0) ak)) (fc rfl (aC (au (i:=2) uG.nd rfl (bC rfl)) (aC (au (i:=3) uG.nd rfl (bC rfl)) bM)))
   (ao (bK cx rfl (nY rfl T.Kd (af (bH cS (pv 3) ay (λ_ _=>rfl)) ak)) (fc rfl (aC (au (i:=4) uG.nd rfl (bC rfl)) (aC (au (i:=5) uG.nd rfl (bC rfl)) bM)))
    (ao (b8 (gZ ie iI iJ cq (Ga (pv 1) (pv 5) (bU ak) ⟨rfl,rfl,rfl,rfl⟩) (af (bT (af (pv 2) (af (pv 4) ak))) ak)))))))
  (ao (bc (pv 1)))),?_⟩
 nofun
 have ll:=bG cT;intro d qt;have s1:=ah qt (.dK []);have S1:ET H (upd H d (.dK [])) d [] (8 * 0):=⟨ae,aH _,λkv hk=>by cases hk⟩;generalize upd H d (.dK [])=H1 at s1 S1;refine⟨_,rfl,R,_,rfl,s1.seq hR,?_⟩
 let zw:oN:=λi σ H6=>∃(kvs:List (aK×V))(y2 y3 y4 y5:Option V),σ=[bj R,bj d,y2,y3,y4,y5]/\aD H H6/\ET H H6 d kvs (8 * i)
 refine kK (xs:=rs.map V.ref) zw ⟨[],none,none,none,none,rfl,s1,S1⟩ ?_ ?_ ?_
 .rintro i σ H6 _ ⟨kvs,y2,y3,y4,y5,rfl,s6,_⟩;exact s6.seq hR
 .rintro i x σ H6 t ex ⟨kvs,y2,y3,y4,y5,rfl,s6,S6⟩ ht
  ac_nf0
  rw [bq] at ex;obtain⟨r,er,rfl⟩:=bR.mp ex;obtain⟨ru,tH,p,v1,v2⟩:=cT.get er;have pG:=cD tH;have NH:=h8 ru pG;have li:=(aY.mp tH).1;have BV:=ah ht (.tup [.int (i:Int),.ref r]);have Lc:bf K (upd H6 t (.tup [.int (i:Int),.ref r])) t [.int (i:Int),.ref r]:=bf.of ae;have s7:=s6.trans BV;have S7:=S6.same BV;generalize upd H6 t (.tup [.int (i:Int),.ref r])=H7 at Lc s7 S7;refine⟨t,_,rfl,Lc,rfl,_,_,rfl,_,_,rfl,rfl,?_⟩;refine⟨_,rfl,r,_,_,_,rfl,rfl,s7.tup v1,rfl,p,_,rfl,s7.tup v2,?_⟩
  let SE:oN:=λj σ H9=>∃(kvs:List (aK×V))(y4 y5:Option V),σ=[bj R,bj d,some (.int (i:Int)),bj r,y4,y5]/\aD H H9/\ET H H9 d kvs (8 * i+j)
  refine pH (xs:=ru.2.map V.str) SE ⟨kvs,_,_,rfl,s7,S7⟩ ?_ ?_ ?_
  .rintro j σ H9 _ ⟨kvs,y4,y5,rfl,s9,_⟩;exact s9.tup v2
  .rintro j x σ H9 t2 qY ⟨kvs,y4,y5,rfl,s9,S9⟩ jN
   ac_nf0
   rw [bq] at qY;obtain⟨z,ez,rfl⟩:=bR.mp qY;have lj:=(aY.mp ez).1;have yf:=ah jN (.tup [.int (j:Int),.str z]);have Hc:bf K (upd H9 t2 (.tup [.int (j:Int),.str z])) t2 [.int (j:Int),.str z]:=bf.of ae;have lW:=s9.trans yf;have LG:=S9.same yf;generalize upd H9 t2 (.tup [.int (j:Int),.str z])=uo at Hc lW LG;refine⟨t2,_,rfl,Hc,rfl,_,_,rfl,_,_,rfl,rfl,?_⟩;have lk:=LG.ln;refine⟨_,rfl,d,rfl,.inl ⟨kvs,.inl LG.hd⟩,_,rfl,rP,λl hl=>?_⟩;have Ja:=ah hl (.lst []);have II:upd uo l (.lst []) l=some (.lst []):=ae;have fl:H l=none:=lW.free hl;have EV:=LG.same Ja;have sA:=lW.trans Ja;generalize upd uo l (.lst [])=CQ at Ja II EV sA;have fin:∀(a:Addr)(xs:List V)(mJ:List (aK×V))(zx:Hp),zx a=some (.lst xs)->H a=none->xs.length<=8 * i+j->ET H zx d mJ (8 * i+j+1)->(∀kv∈mJ,∃a xs,kv.2=.ref a/\zx a=some (.lst xs)/\H a=none/\xs.length<=8 * i+j)->aD H zx ->
     ∀t4,zx t4=none->xs.length < sizeLine/\∃(kvs:List (aK×V))(y4 y5:Option V),[some (V.ref R),bj d,some (.int (i:Int)),bj r,some (.int (j:Int)),some (.str z)]=[bj R,bj d,some (.int (i:Int)),bj r,y4,y5]/\aD H (upd (upd zx t4 (.tup [.int (i:Int),.int (j:Int)])) a (.lst (xs++[.ref t4])))/\ET H (upd (upd zx t4 (.tup [.int (i:Int),.int (j:Int)])) a (.lst (xs++[.ref t4]))) d kvs (8 * i+(j+1)) :=
    λa xs mJ zx ea fa lx IL QE KU t4 u0=>by
     have Af:=ah u0 (.tup [.int (i:Int),.int (j:Int)]);refine⟨bI ∅,mJ,_,_,rfl,λb o hb=>by rw [ai (λz=>by rw [z,fa] at hb;cases hb)];exact Af _ _ (KU b o hb),?_⟩;exact(IL.same Af).more (Af _ _ ea) lx λkv hk=>let ⟨b,ys,e1,e2,e3,e4⟩:=QE kv hk;⟨b,ys,e1,Af _ _ e2,e3,e4⟩
   refine⟨kvs,Sum.inr z,EV.hd,rfl,bI ∅,λv hv=>?_,λhn=>?_⟩
   .obtain⟨kv,hk,ek⟩:=LP hv;obtain⟨a,xs,e1,e2,e3,e4⟩:=EV.lst kv hk;rw [e1] at ek;subst ek;refine⟨.inl ⟨rfl,_,aG.of e2⟩,_,rfl,_,rfl,mq,λt4 u0=>?_⟩;obtain⟨g1,g2⟩:=fin a xs kvs CQ e2 e3 e4 ⟨EV.hd,∅,λkv hk=>let ⟨b,ys,e1,e2,e3,e4⟩:=EV.lst kv hk;⟨b,ys,e1,e2,e3,∅⟩⟩ EV.lst sA t4 u0;exact⟨a,_,_,rfl,rfl,ah u0 _ _ _ e2,g1,g2⟩
   have nd:d≠l:=λz=>by have:=EV.hd;rw [z,II] at this;cases this
   have HG:upd CQ d (.dK (bE kvs (Sum.inr z) (.ref l))) l=some (.lst []):=by rw [ai nd.symm];exact II
   have xK:H d=none:=qt;have KU:aD H (upd CQ d (.dK (bE kvs (Sum.inr z) (.ref l)))):=λb o hb=>by rw [ai (λz=>by rw [z,xK] at hb;cases hb)];exact sA b o hb
   have QE:∀kv∈bE kvs (Sum.inr z) (.ref l),∃a xs,kv.2=.ref a/\upd CQ d (.dK (bE kvs (Sum.inr z) (.ref l))) a=some (.lst xs)/\H a=none/\xs.length<=8 * i+j:=λkv hk=>by
    rw [ym _ hn] at hk;rcases bZ.mp hk with h | h
    .obtain⟨b,ys,e1,e2,e3,e4⟩:=EV.lst kv h;exact⟨b,ys,e1,by rw [ai (λz=>by rw [z,EV.hd] at e2;cases e2)];exact e2,e3,e4⟩
    rw [cJ.mp h];exact⟨l,[],rfl,HG,fl,by simp⟩
   have lp:=fg kvs (Sum.inr z:aK) (.ref l);have IL:ET H (upd CQ d (.dK (bE kvs (Sum.inr z) (.ref l)))) d (bE kvs (Sum.inr z) (.ref l)) (8 * i+j+1):=⟨ae,∅,λkv hk=>let ⟨b,ys,e1,e2,e3,e4⟩:=QE kv hk;⟨b,ys,e1,e2,e3,∅⟩⟩;generalize upd CQ d (.dK (bE kvs (Sum.inr z) (.ref l)))=zx at HG KU QE IL;refine⟨.inl ⟨rfl,_,aG.of HG⟩,_,rfl,_,rfl,mq,λt4 u0=>?_⟩;obtain⟨g1,g2⟩:=fin l [] _ zx HG fl (by simp) IL QE KU t4 u0;exact⟨l,_,_,rfl,rfl,ah u0 _ _ _ HG,g1,g2⟩
  rintro σ H9 ⟨kvs,y4,y5,rfl,s9,S9⟩;rw [aB] at S9;refine⟨kvs,_,_,_,_,rfl,s9,S9.hd,by have:=S9.ln;omega,λkv hk=>let ⟨b,ys,e1,e2,e3,e4⟩:=S9.lst kv hk;⟨b,ys,e1,e2,e3,∅⟩⟩
 rintro σ H6 ⟨kvs,y2,y3,y4,y5,rfl,s6,S6⟩;exact⟨_,rfl,q d H6 qt s6⟩
end
end fY
namespace L2
open PySem PySem.Spec PyProof.Rows
def Dc (z:Str)(lo hi:Option Int):Str:=if ((slicePicked z (lo.map λi=>(i,0)) (hi.map λi=>(i,0)) none).length == z.length)=true then z else ⟨((slicePicked z (lo.map λi=>(i,0)) (hi.map λi=>(i,0)) none).filterMap (z.cps[·]?)).toArray⟩
def Ft (z:Str)(lo hi:Option Int):(Dc z lo hi).length<=z.length:=by
 unfold Dc
 split
 .exact aH _
 show (List.toArray _).size<=_;rw [bJ];exact cQ (List.length_filterMap_le _ _) (show (slicePicked z _ _ none).length<=z.length from by unfold slicePicked;exact sliceIndices_le _ _ _)
def Vc:V->Option Int->Option Int->Hp->VK->Prop:=λx lo hi H Q=>∃z:Str,x=.str z/\z.length<=sizeLine/\Q (.str (Dc z lo hi)) H
def qI {X:Cx}{ag:List (Addr×Obj)}{s:Shared}{σ:St}{H:Hp}{Q:VK}{z:Str}{t:Tok}(I:Inv X ag σ H s)(hz:z.length<=sizeLine)(l u:Option (Int×Tok))(q:Q (.str (Dc z (l.map (·.1)) (u.map (·.1)))) H) :
  (sliceMade z t l u none).post (EP X ag σ Q) s:=by
 have e:slicePicked z ((l.map (·.1)).map λi=>(i,(0:Tok))) ((u.map (·.1)).map λi=>(i,(0:Tok))) none=slicePicked z l u none:=by
  cases l <;> cases u <;> rfl
 unfold Dc at q;rw [e] at q;unfold sliceMade;by_cases c:((slicePicked z l u none).length == z.length)=true
 .rw [az c] at q;rw [az (by rw [c];rfl)];exact⟨.str z,H,I,⟨_,rfl⟩,q⟩
 rw [aA c] at q;rw [aA (by rw [o6.mpr c];decide)];have le:((slicePicked z l u none).filterMap (z.cps[·]?)).length<=z.length:=cQ (List.length_filterMap_le _ _) (show (slicePicked z l u none).length<=z.length from by unfold slicePicked;exact sliceIndices_le _ _ _);refine⟨?_,.str _,H,I.tok _,⟨_,rfl⟩,q⟩;show (List.toArray _).size<=sizeLine;rw [bJ];exact cQ le hz
def BR {X:Cx}:Ku X Vc:=by
 intro ag s σ H x v vl vu lo hi sl Q I rx hs pl pu h;obtain⟨z,rfl,hz,q⟩:=h;obtain⟨t,rfl⟩:=rx;refine⟨"str",_,F.slot_str_getitem.lookup,typeIs_str s z t,?_⟩;cases pl with
 | none =>
  cases pu with
  | none=>exact vS (l:=none) (u:=none) (st:=none) hs rfl (qI I hz none none q)
  | int j tu=>exact vS (l:=none) (u:=some (j,tu)) (st:=none) hs rfl (qI I hz none (some (j,tu)) q)
 | int i ti =>
  cases pu with
  | none=>exact vS (l:=some (i,ti)) (u:=none) (st:=none) hs rfl (qI I hz (some (i,ti)) none q)
  | int j tu=>exact vS (l:=some (i,ti)) (u:=some (j,tu)) (st:=none) hs rfl (qI I hz (some (i,ti)) (some (j,tu)) q)
def Es {X:Cx}(hc:X.calm=true):fZ X (.builtin "any") (λxs H Q=>∃(a:Addr)(bs:List Bool),xs=[.ref a]/\aG X.K H a (bs.map V.bl)/\Q (.bl (bs.any id)) H):=by
 intro ag s σ H xs us Q I r h;obtain⟨a,bs,rfl,hq,q⟩:=h;obtain⟨u,rfl,rx⟩:=vals1 r;cases (show u=Value.ref a from rx);obtain⟨aN,rv,pl,hz⟩:=I.list hq;obtain⟨o,h1,h2,m,h3⟩:=id pl.isList;have la:a < s.heap.objs.size:=aO h1;have ln:=rv.length;rw [aB] at ln;have Wc:∀(i:Nat) v,aN.toArray[i]?=some v->v=.bool (bs.getD i true):=λi v e=>by
  have e':aN[i]?=some v:=by simpa using e
  obtain⟨x,e2,e3⟩:=Paired.at_ rv i v e';rw [bq] at e2;obtain⟨b,e4,rfl⟩:=bR.mp e2;rw [uv,e4];exact e3
 refine call_any_walk (pP pl.isList ?_);refine⟨s.heap.objs.size,_,_,_,_,_,λi=>bs.getD i true,rfl,Walks.list (A:=X.A.in1) (show X.A.in1.handled=none from I.ok.hd hc) s.heap.objs.size a (bw la) aN.toArray,⟨⟨_,cZ _ rfl,rfl,rfl⟩,⟨o,bu _ h1,h2,m,h3⟩⟩,?_,λh' tk kk=>?_⟩
 .intro i v s1 Q1 E1 hP Xb;rw [Wc i v hP];exact nA Xb
 have e:((List.range aN.toArray.size).any λi=>bs.getD i true)=bs.any id:=by
  rw [bJ,<-ln,jU,rl,rl];constructor
  .rintro⟨i,hi,h⟩;have Ro:=jT.mp hi;rw [uv,c_ Ro] at h;exact⟨_,rq Ro,h⟩
  rintro⟨b,hb,h⟩;obtain⟨i,hi,e⟩:=pU.mp hb;refine⟨i,jT.mpr hi,?_⟩;rw [uv,c_ hi,e];exact h
 rw [e];exact⟨.bl _,H,I.kept (t':=tk) λb o' e'=>kk b o' (by simp;exact bw (aO e')) (bu _ e'),rfl,q⟩
open PySem
def jA {X:Cx}(K:aR)(hK:X.K=K:=by rfl):md X (compareOp .In) (Ti K false):=by
 subst hK;exact jd
def uO {X:Cx}(hu:X.A.units < cLine):md X (compareOp .NotEq) (λx y H Q=>∃a b xs,x=.ref a/\y=.ref b/\aG X.K H a xs/\aG X.K H b []/\Q (.bl (!xs.isEmpty)) H):=by
 intro ag s σ H x y v u Q I rx ry h;obtain⟨a,b,xs,rfl,rfl,ha,hb,q⟩:=h;cases rx;cases ry;obtain⟨aN,r,pl,hz⟩:=I.list ha;obtain⟨gP,r2,Dj,Wh⟩:=I.list hb;have e2:gP=[]:=aV.zero r2;subst e2;have a8:=r.length;cases xs with
 | nil =>
  have e:aN=[]:=aV.zero r;subst e;exact SeqAt.RcNeAt.lists (e:=λ_=>true) pl.isList Dj.isList rfl hu (λj h1 _=>absurd h1 (by simp)) X.prog X.w X.xe _ ⟨.bl false,H,I,rfl,q⟩
 | cons y ys =>
  refine SeqAt.RcNeAt.lists_lengths pl.isList Dj.isList ?_ hu X.prog X.w X.xe _ ⟨.bl true,H,I,rfl,q⟩;rw [bJ,bJ,<-a8];simp
def YQ (K:aR)(H:Hp):Nat->V->V->Prop
 | 0,x,y=>x=y/\pJ x
 | n+1,x,y=>(x=y/\pJ x)\/∃a b xs ys,x=.ref a/\y=.ref b/\((aG K H a xs/\aG K H b ys)\/(bf K H a xs/\bf K H b ys))/\Paired (YQ K H n) xs ys
def YQ.self {K:aR}{H:Hp}{x:V}(h:pJ x):∀n,YQ K H n x x
 | 0=>⟨rfl,h⟩
 | _+1=>.inl ⟨rfl,h⟩
section
variable {prog:Program}{w:World}{A:Around}{E:Value->Shared->Prop}{s:Shared}
abbrev Ii (h:Heap)(z:Addr)(f0 f1:Value)(TI TO:Addr):Prop:=h.get? z=some { cls:=.type "zip",data:=.fields #[f0,f1,.bool false,.ref TI,.ref TO] }
end
structure Yu (h:Heap)(z TI TO i1 i2 l1 l2:Addr)(xs ys:Array Value) (i:Nat):Prop where
 hz:∃f0 f1,Ii h z f0 f1 TI TO/\(f0=.none\/∃T:Nat,f0=rawInt T)
 hI:IsPair h TI (.ref i1) (.ref i2)
 hO:∃a b,IsPair h TO a b
 h1:h.IsTupleIter i1 l1 i
 h2:h.IsTupleIter i2 l2 i
 t1:h.IsTuple l1 xs
 t2:h.IsTuple l2 ys
def xX {h h':Heap}{l:Addr}{xs:Array Value}(t:h.IsTuple l xs)(k:∀o,h.get? l=some o->h'.get? l=some o):h'.IsTuple l xs:=by
 obtain⟨o,a,b,c⟩:=t;exact⟨o,k o a,b,c⟩
def vB (h:Heap) (N:Nat)(xs ys bA:Array Value):Prop:=∃Ts:List Nat,bA.toList=Ts.map Value.ref/\Ts.Pairwise (· < ·)/\∀(j T:Nat),Ts[j]?=some T->N<=T/\∃x y:Value,IsPair h T x y/\xs[j]?=some x/\ys[j]?=some y
def vB.keep {h h':Heap}{N:Nat}{xs ys bA:Array Value}(a:vB h N xs ys bA)(k:∀(T:Nat) o,N<=T->h.get? T=some o->h'.get? T=some o):vB h' N xs ys bA:=by
 obtain⟨Ts,e1,e2,e3⟩:=a;refine⟨Ts,e1,e2,λj T hj=>?_⟩;obtain⟨l,x,y,p,q⟩:=e3 j T hj;exact⟨l,x,y,k T _ l p,q⟩
def vB.more {h:Heap}{N T0:Nat}{xs ys bA:Array Value}{x y:Value}(a:vB h N xs ys bA)(lt:∀(Ts:List Nat),bA.toList=Ts.map Value.ref->∀T∈Ts,T < T0)(hN:N<=T0)(p:IsPair h T0 x y)(hx:xs[bA.size]?=some x)(hy:ys[bA.size]?=some y):vB h N xs ys (bA.push (.ref T0)):=by
 obtain⟨Ts,e1,e2,e3⟩:=a;have el:Ts.length=bA.size:=by
  have:=congrArg List.length e1;rw [aB] at this;rw [<-this];simp
 refine⟨Ts++[T0],by rw [Array.toList_push,e1,bD];rfl,List.pairwise_append.mpr ⟨e2,by simp,λT hT b hb=>by rw [cJ.mp hb];exact lt Ts e1 T hT⟩,λj T hj=>?_⟩;by_cases c:j < Ts.length
 .rw [jZ c] at hj;exact e3 j T hj
 rw [pY ∅] at hj;have c2:j - Ts.length=0:=by
  have:=(aY.mp hj).1;simp at this;omega
 rw [c2] at hj;cases hj;have:j=bA.size:=by omega
 rw [this];exact⟨hN,x,y,p,hx,hy⟩
def Yu.keep {h h':Heap}{z TI TO i1 i2 l1 l2:Addr}{xs ys:Array Value}{i:Nat}(st:Yu h z TI TO i1 i2 l1 l2 xs ys i)(k:∀b o,h.get? b=some o->h'.get? b=some o):Yu h' z TI TO i1 i2 l1 l2 xs ys i:=by
 obtain⟨⟨f0,f1,a,b⟩,hI,⟨c,d,hO⟩,h1,h2,t1,t2⟩:=st;exact⟨⟨f0,f1,k _ _ a,b⟩,k _ _ hI,⟨c,d,k _ _ hO⟩,h1.at λo q=>k _ _ q,h2.at λo q=>k _ _ q,xX t1 λo q=>k _ _ q,xX t2 λo q=>k _ _ q⟩
end L2
namespace HT
open PySem PyProof.Rows
end HT
namespace L2
open PySem PySem.Spec PyProof.Rows
open PySem
structure ZTn (h:Heap)(z TI TO i1 i2 l1 l2:Addr) (i:Nat):Prop where
 hz:∃f0 f1,Ii h z f0 f1 TI TO/\(f0=.none\/∃T:Nat,f0=rawInt T)
 hI:IsPair h TI (.ref i1) (.ref i2)
 hO:∃a b,IsPair h TO a b
 h1:h.IsTupleIter i1 l1 i
 h2:h.IsTupleIter i2 l2 i
end L2
namespace HT
open PySem PySem.Spec PyProof.Rows
section
variable {prog:Program}{w:World}{A:Around}{E:Value->Shared->Prop}{s:Shared}
def ot {t sl:Addr}{items:Array Value}{vl vu:Value}{lo hi:Option Int}{Q:Value->Shared->Prop}(ht:IsTup s.heap t items)(hs:s.heap.IsSliceOf sl vl vu .none)(pl:IsPart vl lo)(pu:IsPart vu hi)
  (hw:dZ items.size 0 lo=0/\dZ items.size items.size hi=items.size)(h:Q (.ref t) s):wpAny (model prog w) A (getItem (.ref t) (.ref sl)) Q E s:=by
 obtain⟨os,Ng,Lf,IB⟩:=id hs;have W9:s.TypeIs (.ref sl) "slice" := ⟨os,Ng,Lf⟩;unfold getItem
 try with_reducible refine gi ?_
 first | refine ax (aI ?_) | skip
 refine ax (wpAny_sequenceKey ht.typeIs nofun ?_);refine ax (ur (name:=Str.ofString "__getitem__") ht.typeIs ux
  (oV ux ht.typeIs entry_tuple_getitem ?_ (args_tuple_getitem _ _)))
 show wpAny _ _ (Builtin.Tuple.tupleItemsOf (.ref t) >>= _) _ _ s;refine ax (tupleItemsOf_ ht ?_);refine ax (iR W9 ?_);rw [az nofun];refine ax (jb hs pl pu ?_);have Wk:(((dZ items.size 0 lo:Nat):Int) == 0 && (1:Int) == 1 && (dZ items.size items.size hi - dZ items.size 0 lo) == items.size)=true:=by
  rw [hw.1,hw.2];simp
 show wpAny _ _ (if (((dZ items.size 0 lo:Nat):Int) == 0 && (1:Int) == 1 && (dZ items.size items.size hi - dZ items.size 0 lo) == items.size)=true then _ else _) _ _ s;rw [az Wk];refine ax ?_;unfold Builtin.Tuple.tupleIsExact;refine ax (iR ht.typeIs (aI ?_));rw [az nofun];refine ax (wpAny_rule ?_);exact aI ⟨_,rfl,aI h⟩
end
end HT
namespace L2
open PySem PySem.Spec PyProof.Rows
def P2 (K:aR):V->Option Int->Option Int->Hp->VK->Prop:=λx lo hi H Q=>Yv x (bf K H) λxs=>∀p H',aD H H'->bf K H' p (hJ xs lo hi)->Q (.ref p) H'
def BQ {X:Cx}:Ku X (P2 X.K):=by
 intro ag s σ H x v vl vu lo hi sl Q I rx hs pl pu h;obtain⟨a,xs,rfl,hx,q⟩:=h;by_cases hw:HT.dZ xs.length 0 lo=0/\HT.dZ xs.length xs.length hi=xs.length
 .have ec:hJ xs lo hi=xs:=by
   unfold hJ;rw [hw.1,hw.2,List.drop_zero,Nat.sub_zero,cE]
  cases rx;obtain⟨aN,r,ht,hz⟩:=I.tuple hx;have a8:aN.toArray.size=xs.length:=by rw [bJ];exact r.length.symm
  refine⟨"tuple",_,ux.lookup,ht.typeIs,?_⟩;exact HT.ot ht hs pl pu (by rw [a8];exact hw) ⟨.ref a,H,I,rfl,q a H (λ_ _ h=>h) (by rw [ec];exact hx)⟩
 exact Md ag s σ H _ v vl vu lo hi sl Q I rx hs pl pu ⟨a,xs,rfl,hx,hw,λp hp=>q p _ (ah hp _) (bf.of ae)⟩
def P7 (K:aR):R2:=λx y H Q=>YA (bf K H) x y λxs ys=>∀p H',aD H H'->bf K H' p (xs++ys)->Q (.ref p) H'
def Jp {X:Cx}:md X (binaryOp .Add) (P7 X.K):=by
 intro ag s σ H x y v u Q I rx ry h;obtain⟨a,b,xs,ys,rfl,rfl,ha,hb,hz,q⟩:=h;by_cases hx:xs=[]
 .cases rx;cases ry;obtain⟨aN,r1,p1,_⟩:=I.tuple ha;obtain⟨gP,r2,p2,_⟩:=I.tuple hb;have e1:aN=[]:=r1.qO.mpr hx;obtain⟨⟨cls,dd,data,sl⟩,ho,hc,n,hd⟩:=id p1;obtain⟨⟨X5,OZ,data2,Ta⟩,Iz,xb,n2,hd2⟩:=id p2;simp only at hc hd xb hd2;subst hc hd xb hd2;exact concat_meets ⟨_,ho,rfl⟩ ⟨_,Iz,rfl⟩ noFill_tuple_add seq_tuple_add zJ zK (zN _ _)
   (tuple_addW0 a b aN.toArray gP.toArray n n2 dd OZ sl Ta (by simp [e1])) ⟨ho,Iz,.ref b,H,I,rfl,q b H (λ_ _ h=>h) (by rw [hx];exact hb)⟩
 refine Jo ag s σ H _ _ v u Q I rx ry ⟨a,b,xs,ys,rfl,rfl,ha,hb,hx,hz,λe=>q a H (λ_ _ h=>h) (by rw [e,gJ];exact ha),λ_ p hp=>q p _ (ah hp _) (bf.of ae)⟩
theorem lt_trans:∀a b c:List Nat,ltCps b a=false->ltCps c b=false->ltCps c a=false
 | [],b,[],_,_=>ltCps.eq_1
 | [],b,_::_,_,_=>ltCps.eq_3 _ _
 | x::r,[],c,h,_=>by rw [ltCps.eq_2] at h;cases h
 | x::r,y::t,[],_,k=>by rw [ltCps.eq_2] at k;cases k
 | x::r,y::t,z::u,h,k=>by
  rw [ltCps.eq_4,Bool.or_eq_false_iff,decide_eq_false_iff_not] at h k ⊢;refine⟨∅,?_⟩;by_cases e:z=x
  .have e1:y=x:=by omega
   subst e;subst e1;have h2:=h.2;have k2:=k.2;rw [kb,rb] at h2 k2 ⊢;exact lt_trans r t u h2 k2
  rw [jX.mpr e,Bool.false_and]
open PySem PySem.W PyProof.Rows
section
variable {n:Nat}{lt:Nat->Nat->Bool}{cmp:Nat->Nat->(Bool->Shared->Prop)->Shared->Prop}{s:Shared}
structure Kw (n:Nat)(lt:Nat->Nat->Bool):Prop where
 trans:∀a b c,a < n->b < n->c < n->lt b a=false->lt c b=false->lt c a=false
 Ys:∀a b,a < n->b < n->lt a b=true->lt b a=false
structure O4 (n:Nat)(p:Array Nat):Prop where
 pm:p.Perm (List.range n).toArray
theorem O4.size {p:Array Nat}(h:O4 n p):p.size=n:=by
 have:=h.pm.size_eq;simpa using this
def O4.Lb {p:Array Nat}(h:O4 n p){i:Nat}(hi:i < n):p.getD i 0 < n:=by
 have hs:=h.size;have e:p.getD i 0=p[i]'∅:=by simp [Array.getD,hs,hi]
 rw [e];have:p[i]'∅∈(List.range n).toArray:=h.pm.mem_iff.mp (Array.getElem_mem _);simpa using this
abbrev at_ (p:Array Nat) (i:Nat):Nat:=p.getD i 0
def Ob (lt:Nat->Nat->Bool)(p:Array Nat) (k:Nat):Prop:=∀i j,i<=j->j < k->lt (at_ p j) (at_ p i)=false
def Oe (lt:Nat->Nat->Bool)(p:Array Nat) (k:Nat):Prop:=∀i j,i<=j->j < k->lt (at_ p i) (at_ p j)=false
def Kw.ZI (o:Kw n lt){a:Nat}(h:a < n):lt a a=false:=by
 cases e:lt a a with
 | false=>rfl
 | true=>rw [<-o.Ys a a h h e,e]
def Ob.more {p:Array Nat}{m:Nat}(o:Kw n lt)(P:O4 n p)(h:Ob lt p m)(hm:1<=m)(hn:m < n)(c:lt (at_ p m) (at_ p (m - 1))=false):Ob lt p (m+1):=by
 intro i j Cm hj;by_cases e:j=m
 .subst e;by_cases e2:i=j
  .subst e2;exact o.ZI (P.Lb hn)
  exact o.trans _ (at_ p (j - 1)) _ (P.Lb ∅) (P.Lb ∅) (P.Lb hn) (h i (j - 1) ∅ ∅) c
 exact h i j Cm ∅
def Oe.more {p:Array Nat}{m:Nat}(o:Kw n lt)(P:O4 n p)(h:Oe lt p m)(hm:1<=m)(hn:m < n)(c:lt (at_ p (m - 1)) (at_ p m)=false):Oe lt p (m+1):=by
 intro i j Cm hj;by_cases e:j=m
 .subst e;by_cases e2:i=j
  .subst e2;exact o.ZI (P.Lb hn)
  exact o.trans _ (at_ p (j - 1)) _ (P.Lb hn) (P.Lb ∅) (P.Lb ∅) c (h i (j - 1) ∅ ∅)
 exact h i j Cm ∅
def ED (lt:Nat->Nat->Bool)(p:Array Nat) (m q:Nat):Prop:=∀k,m - (q+1)<=k->k < m->lt (at_ p k) (at_ p (m - 1))=false/\lt (at_ p (m - 1)) (at_ p k)=false
end
def Inv.QD {X:Cx}{ag:List (Addr×Obj)}{σ:St}{H:Hp}{s:Shared}{h':Heap}{a:Addr}{o:HO}{t':Nat}(I:Inv X ag σ H s)(k:∀b u,b≠X.env.locals->s.heap.get? b=some u->h'.get? b=some u)
  (ns:∀m,s.heap.Ns X.env.locals m->h'.Ns X.env.locals m)(hp:s.heap.get? a=none)(hn:H a=none)(new:bW X.prog X.w (upd H a o) h' a o):Inv X ag σ (upd H a o) { s with heap:=h',toks:=t' }:=by
 have ne:∀b u,s.heap.get? b=some u->b≠a:=λb u q z=>by rw [z,hp] at q;cases q
 refine I.step (g':=s.gens) (d':=s.drawn) (ch:=[]) (λ_ z=>nomatch z) (λb u hb _ _ e _=>k b u hb e) (λb u hb _ _ e _=>⟨u.slots,k b u hb e⟩) (λb u _ e n=>by rw [ai (ne b u e)];exact n)
  (λb u _ e=>?_) (λb xs q=>by rw [ai (aq q hn)];exact q) (λb u xs q=>by rw [ai (aq q hn)];exact q) (λb ps q=>⟨#[],by rw [ai (aq q hn),q];simp⟩) ns (λb u e=>?_) I.bare
 .by_cases hb:b=X.env.locals
  .obtain⟨m,hm,_⟩:=I.loc;obtain⟨o',_,_,JP,_⟩:=ns m hm;exact⟨o',by rw [hb];exact JP⟩
  exact⟨u,k b u hb e⟩
 by_cases hb:b=a
 .subst hb;rw [ae] at e;cases e;exact new
 rw [ai hb] at e;refine(I.bF b u e).iV (λc v hc q=>k c v ?_ q) (λc q=>by rw [ai (aq q hn)];exact q) λc xs q=>by rw [ai (aq q hn)];exact q
 rintro rfl;rcases hc with rfl | hc
 .rw [I.free] at e;cases e
 rw [I.free] at hc;cases hc
def Gk {P:Program}{w:World}{H:Hp}{h:Heap}{a:Addr}{o:HO}(x:bW P w H h a o):∃u,h.get? a=some u:=by
 cases o with
 | lst xs=>obtain⟨_,_,_,_,e⟩:=x;exact⟨_,e⟩
 | tup xs=>obtain⟨_,_,_,ob,e,_⟩:=x;exact⟨_,e⟩
 | dK kvs=>obtain⟨_,_,_,_,o,_,_,e,_⟩:=x;exact⟨_,e⟩
 | dT kvs=>obtain⟨_,_,_,_,o,_,_,e,_⟩:=x;exact⟨_,e⟩
 | set S n=>obtain⟨o,_,_,_,e,_⟩:=x;exact⟨_,e⟩
 | ins C dx fs=>obtain⟨_,_,_,e,_⟩:=x;exact⟨_,e⟩
 | own y=>obtain⟨_,e⟩:=x;exact⟨_,e⟩
 | xd fs=>obtain⟨_,⟨_,_,_,e,_⟩,_⟩:=x;exact⟨_,e⟩
 | FT lo hi=>obtain⟨_,_,_,e⟩:=x;exact⟨_,e⟩
 | jR ob u=>obtain⟨e,_⟩:=x;exact⟨_,e⟩
 | ua ps=>exact⟨_,(show h.get? a=some _ from x)⟩
 | met f y=>exact⟨_,(show h.get? a=some _ from x)⟩
 | ext φ=>obtain⟨_,⟨_,e⟩,_⟩:=x;exact⟨_,e⟩
open PySem PySem.Spec PyProof.Rows PySem.W
section
variable {P:Program}{w:World}{A:Around}{E:Value->Shared->Prop}{s:Shared}
def G6 {f c' c d:Addr}{q:Str}{params:Arguments}{scope:Scope}{cl:List (Str×Addr)}{pm gr:Value}{p1 p2 p3:Pos}{xs xh:Str}{vs:List (aK×Value)}{z:Str}{t:Tok}{u:Value}{oc:Obj}{Q:Value->Shared->Prop}
  (QY:A.depth < recursionLimit)(nl:s.heap.NoLimit)(hf:s.heap.get? f=some (kla_obj "<lambda>" q params (.Subscript (.Name xs p1) (.Name xh p2) p3) scope cl pm c' gr))(hc:s.heap.CodeRec (.ref c') q)
  (hb:∀us:List Value,us.length=1->bindArgs (kla_fn "<lambda>" q params (.Subscript (.Name xs p1) (.Name xh p2) p3) scope cl pm (.ref c') gr) ⟨us,[]⟩=pure ([xh].zip us))
  (hk:scope.kind=.function)(WZ:scope.isCoroutine=false)(Nq:scope.isGenerator=false)(WG:∀x∈scope.names,x.2≠.cell)(hh:scope.names.lookup xh=some .local)(hs:scope.names.lookup xs=some .free)
  (nq:cl.lookup xs=some c)(ho:s.heap.get? c=some oc)(zD:oc.data=.cell (some (.ref d)))(dd:s.heap.DictOf (a7 P w) d vs)(hv:valueAt vs (Sum.inr z)=some u)
  (d1:(xs == ("__debug__":Str))=false)(d2:(xh == ("__debug__":Str))=false)(d3:(xs == ("__classdict__":Str))=false)
  (h:∀h' tk,(∀b o,s.heap.get? b=some o->h'.get? b=some o)->Q u { s with heap:=h',toks:=tk }):wpAny (model P w) A (call (.ref f) [.str z t]) Q E s:=by
 refine h_ (kla_callFunE QY hf rfl WZ Nq rfl hc ?_);rw [hb [.str z t] rfl];refine aI (wpAny_newFunctionEnv WG (λx hx=>?_) (λh₁ pF ZR=>⟨nl.fresh _ ZR,?_⟩) hk)
 .have:x=(xh,Value.str z t):=by simpa using hx
  rw [this];exact hh
 show codeAny _ _ (.expr (.Subscript (.Name xs p1) (.Name xh p2) p3) (envX q scope s.heap.objs.size f (.ref c') cl)) _ _;have k1:∀b o,s.heap.get? b=some o->h₁.get? b=some o:=λb o e=>ZR.extBut b o (bw (aO e)) (bu _ e);refine kla_codeExpr (Bw PySem.F.slot_dict_getitem.lookup (λ_ _=>rfl) ?_);refine wpAny_Name (wpAny_loadName_free hk hs nq ⟨oc,k1 _ _ ho,zD⟩ ?_ d3) d1;refine wpAny_Name (vK hk hh pF (show ([(xh,Value.str z t)]:List (Str×Value)).reverse.lookup xh=some (.str z t) by simp [List.lookup]) ?_) d2;have dd1:h₁.DictOf (a7 P w) d vs:=by
  obtain⟨o,es,ep,g,r⟩:=dd;exact⟨o,es,ep,k1 _ _ g,r⟩
 refine⟨dd1.typeIs,wpAny_getItem_of (lZ (k:=Sum.inr z) ⟨t,rfl⟩) dd1.mapOf hv ?_⟩;exact h h₁ _ k1
end
section
variable {X:Cx}{params:Arguments}{body:Expr}{scope:Scope}{pos:Pos}{c T:Addr}
abbrev iO (X:Cx)(params:Arguments)(body:Expr)(scope:Scope)(cl:List (Str×Addr))(c':Addr)(gr:Value):Obj:=kla_obj "<lambda>" (X.env.qual ++ "<lambda>") params body scope cl ((X.mg "__name__").getD .none) c' gr
def Po (X:Cx)(params:Arguments)(body:Expr)(scope:Scope)(pos:Pos)(T:Addr):TE:=λσ H Q=>Tab T pos (X.env.qual ++ "<lambda>") H /\
 ∀f c' gr cl H',KA X.env scope cl->fX T H H'->Tab T pos (X.env.qual ++ "<lambda>") H'->H f=none->H' f=some (pB f (iO X params body scope cl c' gr))->H' c'=some (jO c' (X.env.qual ++ "<lambda>"))->Q (.ref f) H'
def Jk (sY:X.env.code=.ref c)(hC:codeHdIn X.K c T=true)(hB:tZ X.mg X.base)(oj:∀y,(y,NameKind.free)∈scope.names->X.env.scope.names.lookup y=some .cell)(Hk:defaultsOf params X.env=([],[]):=by rfl):PE X (.Lambda params body scope pos) (Po X params body scope pos T):=by
 intro ag s σ H Q I h;obtain⟨⟨ps,hT,ht,Hl⟩,q⟩:=h;refine kla_eval Hk ?_;obtain⟨cl,nq⟩:=xw (env:=X.env) (scope:=scope) λy hy=>I.ok.has y (.inl (oj y hy));have NA:s.heap.get? T=some (tabObj ps):=(show bW X.prog X.w H s.heap T (.ua ps) from I.bF T _ hT);have hg:=I.mod.glob.keeps I.bk;have C:=codeHd_of_K I.jo hC;obtain⟨bm,ob,b1,b2,b3,b4,b5,b6,b7⟩:=hB;have Yr:=I.bk _ _ b4;have VF:bm≠T:=λz=>by
  have:=(I.bs _ _ b4).2;rw [z,hT] at this;cases this
 have VA:mainGlobals≠T:=λz=>by
  obtain⟨o,es,ep,e,d,_⟩:=hg;rw [z,NA] at e;cases e;cases d
 have RH:s.heap.BuiltinsAt X.mg T:=⟨bm,ob,b1,b2,b3,VF,Yr,b5,b6,b7⟩;have Il:∀b v,H b=some v->b < s.heap.objs.size:=λb v e=>I.bF.lt e;rcases Hl with Ra | ⟨c',hf,lG⟩
 .refine kla_makeFunction nq.eq I.ok.glob hg sY C NA ht Ra VA RH λc' gr h' tk hx Nr iF Hd QT=>?_;have hcr:∃oc,h'.get? c'=some oc:=by
   obtain⟨c2,oc,vs,t,e,zD,_⟩:=Hd;cases e;exact⟨oc,zD⟩
  have sW:h'.objs.size > s.heap.objs.size:=ml Nr iF;have keep:∀b o,b≠T->s.heap.get? b=some o->(h'.push (iO X params body scope cl c' gr)).get? b=some o:=λb o n e=>bu _ (hx b o n e)
  let H':Hp:=upd (upd (upd H T (.ua (ps++#[rawInt pos.line,rawInt pos.col,.ref c']))) c' (jO c' (X.env.qual ++ "<lambda>"))) h'.objs.size (pB h'.objs.size (iO X params body scope cl c' gr))
  have AJ:∀b v,H b=some v->b≠c'/\b≠h'.objs.size:=λb v e=>⟨bw (eD (Il b v e) Nr),bw (j6 (Il b v e) sW)⟩;have VE:c'≠h'.objs.size:=bw iF;have Qn:=AJ T _ hT;have eT:H' T=some (.ua (ps++#[rawInt pos.line,rawInt pos.col,.ref c'])):=by
   show upd (upd (upd H T _) c' _) h'.objs.size _ T=_;rw [ai Qn.2,ai Qn.1,ae]
  have ec:H' c'=some (jO c' (X.env.qual ++ "<lambda>")):=by
   show upd (upd (upd H T _) c' _) h'.objs.size _ c'=_;rw [ai VE,ae]
  have ef:H' h'.objs.size=some (pB h'.objs.size (iO X params body scope cl c' gr)):=ae;have eo:∀b,b≠T->b≠c'->b≠h'.objs.size->H' b=H b:=λb n1 n2 n3=>by
   show upd (upd (upd H T _) c' _) h'.objs.size _ b=_;rw [ai n3,ai n2,ai n1]
  have sT:fX T H H':=λb o n e=>by rw [eo b n (AJ b o e).1 (AJ b o e).2];exact e
  have I2:Inv X ag σ H' { s with heap:=h'.push (iO X params body scope cl c' gr),toks:=tk }:=by
   refine I.call (g':=s.gens) (t':=tk) (d':=s.drawn) (ch:=[]) ⟨λb o e n _ _=>keep b o (λz=>by rw [z,hT] at n;cases n) e,λb o e n _ _=>⟨o.slots,keep b o (λz=>by rw [z,hT] at n;cases n) e⟩,λb o e n _=>?_,λb o e _=>?_,λb xs e=>?_,λb o u e=>?_,λb Vg e=>?_⟩ (λb v e=>?_) I.bare (λb hb=>nomatch hb)
   .have lb:=aO e;rw [eo b (λz=>by rw [z,hT] at n;cases n) (bw (eD lb Nr)) (bw (j6 lb sW))];exact n
   .by_cases z:b=T
    .exact⟨_,by rw [z];exact bu _ QT⟩
    exact⟨o,keep b o z e⟩
   .exact sT b _ (λz=>by rw [z,hT] at e;cases e) e
   .exact sT b _ (λz=>by rw [z,hT] at e;cases e) e
   .by_cases z:b=T
    .subst z;rw [hT] at e;cases e;exact⟨_,eT⟩
    exact⟨#[],by rw [vG];exact sT b _ z e⟩
   by_cases z1:b=h'.objs.size
   .subst z1;rw [ef] at e;cases e;exact qS (cZ _ rfl)
   by_cases z2:b=c'
   .subst z2;rw [ec] at e;cases e;refine zm ?_;obtain⟨c2,oc,vs,t,e',zD,hd,hv⟩:=Hd;cases e';exact⟨_,oc,vs,t,rfl,bu _ zD,hd,hv⟩
   by_cases z3:b=T
   .subst z3;rw [eT] at e;cases e;exact bu _ QT
   rw [eo b z3 z2 z1] at e;refine(I.bF b v e).iV (λd o DX e'=>?_) (λd e'=>sT d _ (λz=>by rw [z,hT] at e';cases e') e') λd ys e'=>sT d _ (λz=>by rw [z,hT] at e';cases e') e';rcases DX with rfl | DX
   .exact keep d o z3 e'
   exact keep d o (λz=>by rw [z,hT] at DX;cases DX) e'
  have fresh:H h'.objs.size=none:=I.bF.fresh (j5 sW);exact⟨.ref h'.objs.size,H',I2,rfl,q _ c' gr cl H' nq sT ⟨_,eT,by rw [vM];exact jv _ ht,.inr ⟨c',by rw [vM];exact codeAmong_snoc _ ht Ra,ec⟩⟩ fresh ef ec⟩
 refine kla_makeFunctionHit nq.eq I.ok.glob hg sY C NA ht hf RH λgr h' tk hk hsz=>?_;have keep:∀b o,s.heap.get? b=some o->(h'.push (iO X params body scope cl c' gr)).get? b=some o:=λb o e=>bu _ (hk b o e);have fresh:H h'.objs.size=none:=I.bF.fresh hsz;refine⟨.ref h'.objs.size,_,I.laid (a:=h'.objs.size) (o:=pB h'.objs.size (iO X params body scope cl c' gr)) (t':=tk) keep hsz (qS (cZ _ rfl)),rfl,?_⟩;refine q _ c' gr cl _ nq (λb o _ e=>by rw [ai (aq e fresh)];exact e) ⟨ps,by rw [ai (aq hT fresh)];exact hT,ht,.inr ⟨c',hf,by rw [ai (aq lG fresh)];exact lG⟩⟩ fresh ae (by rw [ai (aq lG fresh)];exact lG)
end
theorem By:∀{zs:List Str}{aN:List Value},aV (zs.map V.str) aN->∀(i:Nat)(v:Value),aN[i]?=some v->∃z t,zs[i]?=some z/\v=.str z t
 | [],[],_,i,v,h=>by simp at h
 | z::r,u::aN,h,i,v,hi=>by
  cases h with
  | cons a b =>
   cases i with
   | zero =>
    cases hi;obtain⟨t,e⟩:=(show ∃t,u=Value.str z t from a);exact⟨z,t,rfl,e⟩
   | succ i=>exact By b i v hi
theorem uA:∀(ps:List (Str×Tok)),aV ((ps.map (·.1)).map V.str) (ps.map λp=>Value.str p.1 p.2)
 | []=>.nil
 | p::r=>.cons ⟨p.2,rfl⟩ (uA r)
theorem uB:∀{zs:List Str}{aN:List Value},aV (zs.map V.str) aN->∃ps:List (Str×Tok),ps.map (·.1)=zs/\aN=ps.map λp=>Value.str p.1 p.2
 | [],[],_=>⟨[],rfl,rfl⟩
 | z::r,u::aN,h=>by
  cases h with
  | cons a b =>
   obtain⟨t,e⟩:=(show ∃t,u=Value.str z t from a);obtain⟨ps,e1,e2⟩:=uB b;exact⟨(z,t)::ps,by rw [bL,e1],by rw [bL,e2,e]⟩
def Ao {α β:Type}{f:α->β}{l m:List β}(h:l.Perm m):∀ps:List α,m=ps.map f->∃qs:List α,l=qs.map f/\qs.Perm ps:=by
 induction h with
 | nil =>
  intro ps e;cases ps with
  | nil=>exact⟨[],rfl,.nil⟩
  | cons p r=>cases e
 | cons x h ih =>
  intro ps e;cases ps with
  | nil=>cases e
  | cons p r =>
   rw [bL] at e;injection e with e1 e2;obtain⟨qs,a,b⟩:=ih r e2;exact⟨p::qs,by rw [bL,a,e1],b.cons p⟩
 | swap x y l =>
  intro ps e
  match ps,e with
  | [],e=>cases e
  | [_],e=>cases e
  | p::p2::r,e =>
   rw [bL,bL] at e;injection e with e1 e2;injection e2 with e3 e4;exact⟨p2::p::r,by rw [bL,bL,e1,e3,e4],.swap p p2 r⟩
 | trans h1 h2 i1 i2 =>
  intro ps e;obtain⟨qs,a,b⟩:=i2 ps e;obtain⟨rs,c,d⟩:=i1 qs a;exact⟨rs,c,d.trans b⟩
def Gf {g:Str->Int}{ps:List (Str×Tok)}{out:List Value}(h:KskOut false ((ps.map (·.1)).map g) (ps.map λp=>Value.str p.1 p.2) out) :
  ∃qs:List (Str×Tok),out=qs.map (λp=>Value.str p.1 p.2)/\(qs.map (·.1)).Perm (ps.map (·.1))/\(qs.map (·.1)).Pairwise λx y=>g x<=g y:=by
 obtain⟨rs,h1,h2,h3⟩:=h;have ez:((ps.map (·.1)).map g).zip (ps.map λp=>Value.str p.1 p.2)=ps.map λp=>(g p.1,Value.str p.1 p.2):=by
  rw [i4,List.zip_map,List.zip_eq_zipWith]
  induction ps with
  | nil=>rfl
  | cons p r ih=>simp_all
 rw [ez] at h1;obtain⟨qs,q1,q2⟩:∃qs:List (Str×Tok),rs=qs.map (λp=>(g p.1,Value.str p.1 p.2))/\qs.Perm ps:=by
  exact Ao h1 ps rfl
 subst q1;refine⟨qs,by rw [h2,i4];rfl,q2.map _,?_⟩;rw [List.pairwise_map] at h3 ⊢;exact h3.imp λh=>by simpa using h
section
variable {X:Cx}{i:Nat}{xs xh:Str}{params:Arguments}{scope:Scope}{p pos AK kp p1 p2 p3:Pos}{e:Expr}{ta:TA}{c T:Addr}{k:Nat}
abbrev CG (xs xh:Str)(p1 p2 p3:Pos):Expr:=.Subscript (.Name xs p1) (.Name xh p2) p3
def LX (X:Cx) (i:Nat)(AK:Pos)(T:Addr)(ta:TA):TE:=λσ H Q=>ta σ H λvs H1=>Tab T AK (X.env.qual ++ "<lambda>") H1/\∃(a:Addr) (zs:List Str)(d:Addr)(kvs:List (aK×V))(g:Str->Int),vs=[.ref a]/\aG X.K H1 a (zs.map V.str)/\zs.length < 64/\σ[i]?=some (some (.ref d))/\Rd H1 d (.dK kvs) /\
 (∀z∈zs,br kvs (Sum.inr z)=some (.int (g z)))/\∀(l:Addr) (LL:List Str)(H':Hp),fX T H1 H'->Tab T AK (X.env.qual ++ "<lambda>") H'->H1 l=none->LL.Perm zs->LL.Pairwise (λx y=>g x<=g y)->H' l=some (.lst (LL.map V.str))->Q (.ref l) H'
def F8 (hr:dD (k+1) X.A)(sY:X.env.code=.ref c)(hC:codeHdIn X.K c T=true)(hB:tZ X.mg X.base)(hg:Gl X "sorted")(hm:X.mg "sorted"=none)(ha:PA X [e] ta)
  (hN:X.N[i]?=some xs)(hx:X.env.scope.names.lookup xs=some .cell)(oj:∀y,(y,NameKind.free)∈scope.names->X.env.scope.names.lookup y=some .cell)
  (hb:∀(q:Str)(cl:List (Str×Addr))(pm gr:Value)(c':Addr)(us:List Value),us.length=1->bindArgs (kla_fn "<lambda>" q params (CG xs xh p1 p2 p3) scope cl pm (.ref c') gr) ⟨us,[]⟩=pure ([xh].zip us))
  (hk:scope.kind=.function)(WZ:scope.isCoroutine=false)(Nq:scope.isGenerator=false)(WG:∀x∈scope.names,x.2≠.cell)(hh:scope.names.lookup xh=some .local)(hs:scope.names.lookup xs=some .free)
  (d1:(xs == ("__debug__":Str))=false:=by decide)(d2:(xh == ("__debug__":Str))=false:=by decide)(d3:(xs == ("__classdict__":Str))=false:=by decide)
  (Hk:defaultsOf params X.env=([],[]):=by rfl)
  (he:backTo pos (starEach [e] X.env)=(false,eval e X.env)::backTo pos (starEach [] X.env):=by rfl)(hp:(backTo pos (starEach [e] X.env)).any (·.1)=false:=by rfl) :
  PE X (.Call (.Name "sorted" p) [e] [⟨some "key",.Lambda params (CG xs xh p1 p2 p3) scope AK,kp⟩] pos) (LX X i AK T ta):=by
 intro ag s σ H Q I h;refine lP (jE I hg hm boot_sorted ?_);refine callWith_kw (cK (ha pos ag s σ H _ I h) λus s1 aS=>?_) he hp rfl rfl;obtain⟨vs,H1,I1,r1,JU,a,zs,d,kvs,g,ev,hq,h64,hσ,hd,hv,q1⟩:=aS;subst ev;have low:=Jk (X:=X) (params:=params) (body:=CG xs xh p1 p2 p3) (scope:=scope) (pos:=AK) (c:=c) (T:=T) sY hC hB oj Hk ag s1 σ H1
  (λfv H2=>∃f c' gr cl,fv=.ref f/\KA X.env scope cl/\fX T H1 H2/\Tab T AK (X.env.qual ++ "<lambda>") H2/\H2 f=some (pB f (iO X params (CG xs xh p1 p2 p3) scope cl c' gr))/\H2 c'=some (jO c' (X.env.qual ++ "<lambda>"))) I1
  ⟨JU,λf c' gr cl H' a1 a2 a3 a4 a5 a6=>⟨f,c',gr,cl,rfl,a1,a2,a3,a5,a6⟩⟩
 refine kws_cons (cK low λu2 s2 aS=>?_);obtain⟨fv,H2,I2,r2,f,c',gr,cl,ef,nq,st,TR,hf,lG⟩:=aS;refine kws_nil ?_;subst ef;cases (show u2=Value.ref f from r2);obtain⟨u,rfl,rx⟩:=vals1 r1;cases (show u=Value.ref a from rx);obtain⟨pt,eT,_⟩:=id JU;have hq2:aG X.K H2 a (zs.map V.str):=by
  rcases hq with (h | ⟨o,h⟩) | h
  .exact .inl (.inl (st _ _ (λz=>by rw [z,eT] at h;cases h) h))
  .exact .inl (.inr ⟨o,st _ _ (λz=>by rw [z,eT] at h;cases h) h⟩)
  exact .inr h
 have hd2:Rd H2 d (.dK kvs):=by
  rcases hd with h | ⟨o,h⟩
  .exact .inl (st _ _ (λz=>by rw [z,eT] at h;cases h) h)
  exact .inr ⟨o,st _ _ (λz=>by rw [z,eT] at h;cases h) h⟩
 obtain⟨aN,rv,pl,hz⟩:=I2.list hq2;obtain⟨pzs,ez,ei⟩:=uB rv;have Dj:=pl.isList;obtain⟨oa,ga,ca,na,da⟩:=id Dj;obtain⟨m,pF,lk⟩:=id I2.loc;have Jz:∀b o,H2 b=some o->b≠X.env.locals:=λb o hb z=>by rw [z,I2.free] at hb;cases hb
 have Qh:d≠X.env.locals:=by
  rcases hd2 with h | ⟨o,h⟩
  .exact Jz d _ h
  exact Jz d _ h
 have neA:a≠X.env.locals:=λz=>by
  obtain⟨o,es,ep,ho,Co,_⟩:=pF;rw [<-z,ga] at ho;cases ho;rw [da] at Co;cases Co
 obtain⟨ud,rd,lkd⟩:=lk i xs (.ref d) hN hσ (.inr (.inl hx));cases (show ud=Value.ref d from rd);obtain⟨cc,ecc,oc,Q9,Q7⟩:∃cc,X.env.cells.lookup xs=some cc/\s2.heap.IsCell cc (some (.ref d)):=by
  rcases lkd with ⟨l,_⟩ | ⟨_,c2,e2,h2⟩
  .have l':X.env.scope.names.lookup xs=some .local:=l;rw [hx] at l';cases l'
  exact⟨c2,e2,h2⟩
 obtain⟨cc',ecl⟩:=nq.all xs (wV hs);have e3:=nq.sub _ _ ecl;rw [ecc] at e3;cases e3;have OB:cc≠X.env.locals:=λz=>by
  obtain⟨o,es,ep,ho,Co,_⟩:=pF;rw [<-z,Q9] at ho;cases ho;rw [Q7] at Co;cases Co
 obtain⟨gf,_⟩:=I2.bF f _ hf;obtain⟨gc,_⟩:=I2.bF c' _ lG;obtain⟨zl,ZQ,dvs,rel,dd⟩:=oC I2.bF hd2;obtain⟨m0,F0⟩:=I2.fr;refine ksk_sorted (kz:=zs.map g) (f:=.ref f) (b:=false) (vs:=aN) (h₀:=IP.sL s2.heap) (L:=X.env.locals) (m:=m) (news:=(a,oa)::IP.ledger s2.heap X.env.locals a) (IP.NL pF) (IP.yy neA ga) Dj (by rw [aB,<-rv.length,aB]) (by rw [<-rv.length,aB];exact h64)
  (ksk_s1 _ _) (λx=>ksk_l1 _ _) (λx=>ksk_t1 f x) (λj v kk hj ZY AU tk own F N=>?_) λD h' tk out cnt F' N' lt' ko=>?_
 .obtain⟨z,t,Ua,rfl⟩:=By rv j v hj;rw [bq,Ua] at ZY;cases ZY;have keep:∀b u,b≠X.env.locals->s2.heap.get? b=some u->AU.get? b=some u:=λb u nb hb=>by
   by_cases e:b=a
   .subst e;rw [ga] at hb;cases hb;exact(N (b,oa) (by simp)).1
   exact(N (b,u) (i8 _ (bS _ (IP.jC.mpr ⟨nb,e,hb⟩)))).1
  have hvz:=hv z (cD Ua);obtain⟨w',hw,Ag⟩:=iE.some_of (v:=.int (g z)) (o:=valueAt dvs (Sum.inr z)) (by rw [<-hvz];exact rel.val (Sum.inr z));obtain⟨tw,rfl⟩:=(show ∃t,w'=Value.int (g z) t from Ag);have OZ:AU.DictOf (a7 X.prog X.w) d dvs:=by
   obtain⟨o,es,ep,g1,r⟩:=dd;exact⟨o,es,ep,keep _ _ Qh g1,r⟩
  have gc2:AU.CodeRec (.ref c') (X.env.qual ++ "<lambda>"):=by
   obtain⟨c2,oc2,YZ,t2,e2,zD,gp,OI⟩:=gc;cases e2;exact⟨_,oc2,YZ,t2,rfl,keep _ _ (Jz c' _ lG) zD,gp,OI⟩
  have nl:AU.NoLimit:=I2.mod.nolimit.keeps λb o e=>keep b o (bw (eD (aO e) F0.above)) (I2.bk b o e);exact G6 (s:={ s2 with heap:=AU,toks:=tk }) (A:=X.A.in1.in1) hr.depth nl (keep _ _ (Jz f _ hf) gf) gc2 (λus hl=>hb _ _ _ _ _ us hl) hk WZ Nq WG hh hs ecl (keep _ _ OB Q9) Q7 OZ hw d1 d2 d3
   λh3 tk3 ZF=>KskEnd.intro (F.kept ZF) (N.grown ZF) λp hp=>hp
 have keep:∀b u,b≠X.env.locals->s2.heap.get? b=some u->h'.get? b=some u:=λb u nb hb=>by
  by_cases e:b=a
  .subst e;rw [ga] at hb;cases hb;exact(N' (b,oa) (by simp)).1
  exact(N' (b,u) (bS _ (bS _ (IP.jC.mpr ⟨nb,e,hb⟩)))).1
 have hD:s2.heap.get? D=none:=by
  cases e:s2.heap.get? D with
  | none=>rfl
  | some o =>
   exfalso;have nD:D≠X.env.locals:=(N' (D,_) bO).2.1;by_cases ea:D=a
   .have:=lt' (a,oa) bO;rw [ea] at this;exact absurd this (i5 _)
   exact absurd (lt' (D,o) (bS _ (IP.jC.mpr ⟨nD,ea,e⟩))) (i5 _)
 have fD:H2 D=none:=by
  cases e:H2 D with
  | none=>rfl
  | some u =>
   obtain⟨ob,g⟩:=Gk (I2.bF D u e);rw [hD] at g;cases g
 have fD1:H1 D=none:=by
  cases e:H1 D with
  | none=>rfl
  | some u =>
   by_cases z:D=T
   .obtain⟨pt2,eT2,_⟩:=TR;rw [z,eT2] at fD;cases fD
   rw [st _ _ z e] at fD;cases fD
 rw [ei,<-ez] at ko;obtain⟨qs,eo,pe,ps⟩:=Gf ko;rw [ez] at pe;have gD:=(N' (D,_) bO).1;have lq:qs.length=zs.length:=by have:=pe.length_eq;rw [aB] at this;exact this
 have sl:=ah fD (.lst ((qs.map (·.1)).map V.str));refine⟨.ref D,_,I2.QD (t':=tk) keep (λm' hm=>?_) hD fD (show bW X.prog X.w _ _ _ (.lst ((qs.map (·.1)).map V.str)) from ⟨by rw [aB,aB];exact fits ∅,qs.map (λp=>Value.str p.1 p.2),cnt,uA qs,by rw [<-eo];simpa using gD⟩),rfl,q1 D (qs.map (·.1)) _ (λb o n hb=>sl _ _ (st b o n hb)) ?_ fD1 pe ps ae⟩
 .have:=F'.ns;have e:m'=m:=by
   obtain⟨o,es,ep,ho,Co,_,hf⟩:=hm;obtain⟨o2,es2,ep2,Iz,Ru,_,DW⟩:=pF;rw [ho] at Iz;cases Iz;rw [Co] at Ru;cases Ru
   funext x
   rw [<-hf x,<-DW x]
  rw [e];exact this
 obtain⟨Tj,b1,b2,b3⟩:=TR;refine⟨Tj,sl _ _ b1,b2,b3.imp id λaS=>?_⟩;obtain⟨c3,e3,g3⟩:=aS;exact⟨c3,e3,sl _ _ g3⟩
end
open PySem M11
def Ba {K:aR}{H:Hp}{p D d:Addr}{zs:List Str}{kvs:List (aK×V)}{g:G}{σ:St}{js:List (Nat×Str)}{Qp:Hp->Prop}(hσ:dI ["part"] js σ=[none,bj d])(hp:bf K H p (zs.map V.str))(hz:zs.length<=1000)
  (hd:Rd H d (.dK kvs))(hv:∀z,br kvs (Sum.inr z)=(g z).map V.int)(ha:∀z∈zs,(g z).isSome=true)(hD:H D=none)(q:∀H2,aD H H2->H2 D=some (.lst ((zs.map λz=>(g z).getD 0).map V.int))->Qp H2) :
  CWq (oK K p) D (dI ["part"] js σ) H Qp (dP 0) ix (Bs (gG 1) (gG 0)):=by
 refine gQ (xs:=zs.map V.str) (λi ys σ2 H2=>ys=(((zs.take i).map λz=>(g z).getD 0).map V.int)/\(∃y0,σ2=[y0,bj d])/\aD H H2/\H2 D=some (.lst ys))
  ⟨rfl,⟨none,hσ⟩,ah hD _,ae⟩ (λi ys σ2 H2 _ h=>h.2.2.1.tup hp) (λi x ys σ2 H2 ex h=>?_) (λys σ2 H2 h=>?_)
 .obtain⟨rfl,⟨y0,rfl⟩,sm,hd2⟩:=h;rw [bq] at ex;obtain⟨z,ez,rfl⟩:=bR.mp ex;have li:=(aY.mp ez).1;obtain⟨n,en⟩:=jY.mp (ha z (cD ez));have hg:cC H2 d (.str z) (some (.int n)):=by
   have:=cC.r (k:=Sum.inr z) (fY.Rd.same hd sm);rw [hv,en] at this;exact this
  refine goN (xi ?_);refine⟨_,rfl,_,rfl,d,_,rfl,hg,hd2,bI (by rw [aB,aB,dA];omega),?_,⟨_,rfl⟩,?_,ae⟩
  .rw [cY,ez,bD,bD];show _=_++[V.int ((g z).getD 0)];rw [en];rfl
  intro b o hb;rw [ai (λz=>by rw [z,hD] at hb;cases hb)];exact sm b o hb
 obtain⟨rfl,_,sm,hd2⟩:=h;rw [aB,cE] at hd2;exact q H2 sm hd2
end L2
namespace fY
open PySem L2 M11
section
def r9 (K:aR):Sp:=λvs H Q _=>∃(d r:Addr)(kvs:List (aK×V))(g:G)(ru:av),vs=[.ref d,.ref r]/\Rd H d (.dK kvs)/\(∀z,br kvs (Sum.inr z)=(g z).map V.int)/\CO K H r ru/\ru.2.length<=8/\(∀z∈ru.2,(g z).isSome=true)/\∀H',aD H H'->Q (.int (aM g ru)) H'
def zW:aJ ["sizes","rule"] ["sizes","rule"] (aw ph):=iP rfl rfl rfl rfl nofun
def yr (F:hZ K "rule_size" "rule_size" ph f fd)(T:Txt mg):bh P w K mg base fJ 1 f fd ["sizes","rule"] (r9 K):=by
 refine F.ok zW (by and_intros) (λdN A outer s H vs Q E hr h=>?_)
 obtain⟨d,r,kvs,g,ru,rfl,hd,hv,⟨p,v1,v2⟩,h8,al,q⟩:=h;have hu:=gk hr;refine⟨_,ao (bc (bo d7 ay (a9 (vj rfl) rfl T.sum PyProof.Rows.boot_sum (af (bx ["part"] [(0,"sizes")] rfl (gA (bH cS (pv 1) ay (λ_ _=>rfl))) (ba rfl rfl) nofun rfl nofun
   (λ_ _ _ _ _=>au (i:=0) (ndq nofun) rfl (bC rfl)) (λ_ _ _ _ _=>b9) (λ_ _ _ _ _=>fk hu (pv 1) (pv 0) (λ_ _=>rfl))) ak)))),?_⟩
 dsimp only [Eh];refine⟨_,rfl,r,_,_,_,rfl,rfl,v1,rfl,p,rfl,⟨_,v2⟩,λD hD=>Ba (g:=g) rfl v2 ∅ hd hv al hD λH2 s2 e2=>?_⟩;refine⟨D,_,rfl,aG.of e2,_,_,rfl,rfl,?_⟩;exact q H2 s2
end
end fY
namespace M11
open PySem
def qC.at_ {aa:List av}{aP:List (Str×Nat)}(h:qC aa aP):∀(i:Nat)(x:Str) (k:Nat),aP[i]?=some (x,k)->∃dU,aa[k]?=some (x,dU)/\∀p∈dU,p∈(aP.take i).map (·.1):=by
 induction h with
 | nil=>intro i x k e;simp at e
 | @snoc aP k2 ru h e n p ih =>
  intro i x k ei;by_cases hi:i < aP.length
  .rw [jZ hi] at ei;obtain⟨dU,a,b⟩:=ih i x k ei;exact⟨dU,a,λq hq=>by rw [uw (j5 hi)];exact b q hq⟩
  have li:=(aY.mp ei).1;rw [cu,pW] at li;have e2:i=aP.length:=by omega
  subst e2;rw [pY (aH _),Nat.sub_self] at ei;cases ei;exact⟨ru.2,e,λq hq=>by rw [List.take_left'];exact p q hq;rfl⟩
end M11
namespace fY
open PySem L2 M11
section
def tM {H:Hp}{p D d:Addr}{zs:List Str}{kvs:List (aK×V)}{σ:St}{js:List (Nat×Str)}{Qp:Hp->Prop}(hσ:dI ["part"] js σ=[none,bj d])(hp:bf K H p (zs.map V.str))(hz:zs.length<=1000)
  (hd:H d=some (.dK kvs))(ha:∀z∈zs,(Sum.inr z:aK)∈kvs.map (·.1))(hD:H D=none)(q:∀ys H2,ys.length=zs.length->aD H H2->H2 D=some (.lst ys)->Qp H2) :
  CWq (oK K p) D (dI ["part"] js σ) H Qp (dP 0) ix (Bs (gG 1) (gG 0)):=by
 refine gQ (xs:=zs.map V.str) (λi ys σ2 H2=>ys.length=i/\(∃y0,σ2=[y0,bj d])/\aD H H2/\H2 D=some (.lst ys))
  ⟨rfl,⟨none,hσ⟩,ah hD _,ae⟩ (λi ys σ2 H2 _ h=>h.2.2.1.tup hp) (λi x ys σ2 H2 ex h=>?_) (λys σ2 H2 h=>?_)
 .obtain⟨rfl,⟨y0,rfl⟩,sm,hd2⟩:=h;rw [bq] at ex;obtain⟨z,ez,rfl⟩:=bR.mp ex;have li:=(aY.mp ez).1;obtain⟨v,ev⟩:=jY.mp ((d5 kvs (Sum.inr z)).mpr (ha z (cD ez)));have hg:cC H2 d (.str z) (some v):=by
   have:=cC.k (k:=Sum.inr z) (sm _ _ hd);rw [ev] at this;exact this
  refine goN (xi ?_);refine⟨_,rfl,_,rfl,d,_,rfl,hg,hd2,bI ∅,by rw [cu];rfl,⟨_,rfl⟩,?_,ae⟩;intro b o hb;rw [ai (λz=>by rw [z,hD] at hb;cases hb)];exact sm b o hb
 obtain⟨e,_,sm,hd2⟩:=h;rw [aB] at e;exact q ys H2 e sm hd2
def uE (K:aR):Sp:=λvs H Q _=>∃(R D:Addr)(rs ts:List Addr)(aa:List av)(aP:List (Str×Nat)),vs=[.ref R,.ref D]/\aG K H R (rs.map V.ref)/\bz K H rs aa/\aa.length<=1000/\(∀ru∈aa,ru.2.length<=8)/\aG K H D (ts.map V.ref)/\pK K H ts aP/\qC aa aP/\aP.length<=1000 /\
 ∀(d:Addr)(kvs:List (aK×V))(H':Hp),H d=none->aD H H'->H' d=some (.dK kvs)->kvs.map (·.1)=(aP.map (·.1)).map Sum.inr->Q (.ref d) H'
def kW:aJ ["rules","empties","trees","name","number"] ["rules","empties"] (aw sq):=iP rfl rfl rfl rfl nofun
def Az (F:hZ K "empty_by_name" "empty_by_name" sq f fd)(T:Txt mg):bh P w K mg base fJ 1 f fd ["rules","empties"] (uE K):=by
 refine F.ok kW (by and_intros) (λdN A outer s H vs Q E hr h=>?_)
 obtain⟨R,D,rs,ts,aa,aP,rfl,hR,cT,a8,h8,hD,Z3,Rq,Z5,q⟩:=h;have hu:=gk hr;refine⟨_,aj (aF (i:=2) kW.nd rfl (Or.inr rfl) gY)
  (aj (bK cx rfl (aQ (pv 1)) (gB (n:=2) K rfl (aC (au (i:=3) kW.nd rfl (bC rfl)) (aC (au (i:=4) kW.nd rfl (bC rfl)) bM)))
   (ao (iL hu (pv 2) (pv 3) (bT (af (pv 4) (af (aX gU rfl T.tup vX (af (bx ["part"] [(2,"trees")] rfl (gA (bH cS (bH cO (pv 0) (pv 4) (λ_ _=>rfl)) ay (λ_ _=>rfl))) (ba rfl rfl) nofun rfl nofun
    (λ_ _ _ _ _=>au (i:=0) (ndq nofun) rfl (bC rfl)) (λ_ _ _ _ _=>b9) (λ_ _ _ _ _=>fk hu (pv 1) (pv 0) (λ_ _=>rfl))) ak)) ak))) rfl)))
  (ao (bc (pv 2)))),?_⟩
 nofun
 refine λd xK=>?_;have s1:=ah xK (.dK []);have e1:upd H d (.dK []) d=some (.dK []):=ae;generalize upd H d (.dK [])=H1 at s1 e1;refine goN ?_
 ac_rfl
 have lt:=bG Z3;have ll:=bG cT;have nd:=Rq.nd
 let oJ:oN:=λi σ H3=>∃(kvs:List (aK×V))(y3 y4:Option V),σ=[bj R,bj D,bj d,y3,y4]/\aD H H3/\H3 d=some (.dK kvs)/\kvs.map (·.1)=((aP.take i).map (·.1)).map Sum.inr
 refine⟨_,rfl,D,rfl,⟨_,s1.seq hD⟩,cm (xs:=ts.map V.ref) oJ ⟨[],_,_,rfl,s1,e1,rfl⟩ ?_ ?_ ?_⟩
 .rintro i σ H3 _ ⟨kvs,y3,y4,rfl,s3,_⟩;exact s3.seq hD
 .rintro i x σ H3 ex ⟨kvs,y3,y4,rfl,s3,ed,ek⟩
  ac_nf0
  rw [bq] at ex;obtain⟨t,et,rfl⟩:=bR.mp ex;have li:=(aY.mp et).1;obtain⟨e,ee⟩:∃e,aP[i]?=some e:=⟨aP[i]'∅,c_ ∅⟩;obtain⟨t',et',vt⟩:=Paired.at_ Z3 i e ee;rw [et] at et';cases et';obtain⟨x,k⟩:=e;obtain⟨dU,hk,Q5⟩:=Rq.at_ i x k ee;obtain⟨r,er,p,v1,v2⟩:=Paired.at_ cT k _ hk;have Sh:pI (rs.map V.ref) (k:Int)=some (.ref r):=cW (by rw [bq,er];rfl);have ZT:dU.length<=8:=h8 _ (cD hk);refine⟨t,_,rfl,s3.tup vt,rfl,_,_,rfl,_,_,rfl,rfl,?_⟩;refine⟨_,rfl,_,rfl,_,rfl,R,_,_,_,rfl,rfl,s3.seq hR,Sh,r,_,_,_,rfl,rfl,s3.tup v1,rfl,p,rfl,⟨_,s3.tup v2⟩,λD2 iY=>tM (zs:=dU) rfl (s3.tup v2) ∅ ed (λz hz=>by rw [ek];exact cP.mpr (Q5 z hz)) iY λys H4 ly s4 e4=>?_⟩;refine⟨D2,ys,rfl,.inl ⟨aG.of e4,λt2 Xk=>⟨mq,λK2 NP=>?_⟩⟩⟩;have k5:=(ah Xk (.tup ys)).trans (ah NP (.tup [.int (k:Int),.ref t2]));generalize upd (upd H4 t2 (.tup ys)) K2 (.tup [.int (k:Int),.ref t2])=H5 at k5;have ed5:=k5 _ _ (s4 _ _ ed);have lkv:kvs.length=i:=by
   have:=congrArg List.length ek;rw [aB,aB,aB,dA] at this;omega
  have nx:x∉(aP.take i).map (·.1):=λz=>by
   obtain⟨e2,m2,q2⟩:=cN.mp z;obtain⟨j,hj⟩:=fA m2;rw [List.getElem?_take] at hj
   split at hj
   .rename_i ZZ
    have a1:(aP.map (·.1))[j]?=some x:=by rw [bq,hj];exact congrArg some q2
    have a2:(aP.map (·.1))[i]?=some x:=by rw [bq,ee];rfl
    have:=(List.getElem?_inj (by rw [aB];omega) nd).mp (a1.trans a2.symm);omega
   cases hj
  refine⟨_,rfl,_,rfl,d,_,rfl,.inl ⟨kvs,Sum.inr x,ed5,rfl,bI ∅,rfl⟩,?_⟩;refine⟨_,_,_,rfl,λb o hb=>?_,ae,?_⟩
  .rw [ai (λz=>by rw [z,xK] at hb;cases hb)];exact k5 _ _ (s4 _ _ (s3 b o hb))
  rw [ij (by rw [ek];exact λz=>nx (cP.mp z)),ek,cY,ee,bD,bD];rfl
 rintro σ H3 ⟨kvs,y3,y4,rfl,s3,ed,ek⟩;rw [aB,lt,cE] at ek;exact⟨_,rfl,q d kvs H3 xK s3 ed ek⟩
end
end fY
namespace M11
open PySem
def Le (g' g:G):Prop:=∀z n,g z=some n->∃m,g' z=some m/\m<=n
def yU {g:G}{ru:av}(f:bV bl g ru=true):jl g ru=true/\∀n,g ru.1=some n->aM g ru < n:=by
 unfold bV at f;rw [iH] at f;refine⟨f.1,λn e=>?_⟩;have:=f.2;rw [e] at this;have:(!(some n:Option Int).isSome || bl (aM g ru) n)=true:=this
 simpa [bl] using this
def le_step {g:G}{ru:av}(f:bV bl g ru=true):Le (dq g ru.1 (aM g ru)) g:=λz n e=>by
 unfold dq;by_cases c:z=ru.1
 .rw [az c];subst c;exact⟨_,rfl,Int.le_of_lt ((yU f).2 n e)⟩
 rw [aA c];exact⟨n,e,iw _⟩
theorem Fg {g g':G}(h:Le g' g):∀ps:List Str,(∀p∈ps,(g p).isSome=true)->(∀p∈ps,(g' p).isSome=true)/\(ps.map λp=>(g' p).getD 0).sum<=(ps.map λp=>(g p).getD 0).sum
 | [],_=>⟨λp hp=>(by cases hp),iw _⟩
 | p::r,a=>by
  obtain⟨h1,h2⟩:=Fg h r λq hq=>a q (bS _ hq);obtain⟨n,en⟩:=jY.mp (a p bO);obtain⟨m,em,lm⟩:=h p n en;refine⟨λq hq=>?_,?_⟩
  .rcases bN.mp hq with rfl | hq
   .rw [em];rfl
   exact h1 q hq
  rw [bL,bL,jr,jr,en,em];show m+_<=n+_;omega
def vw {g:G}{ru:av}:jl g ru=true↔∀p∈ru.2,(g p).isSome=true:=by
 unfold jl;rw [fO]
def size_le {g g':G}{ru:av}(h:Le g' g)(a:jl g ru=true):jl g' ru=true/\aM g' ru<=aM g ru:=by
 obtain⟨h1,h2⟩:=Fg h ru.2 (vw.mp a);exact⟨vw.mpr h1,by unfold aM;omega⟩
def O1 (aa:List av) (hs:List Str)(g:G):Prop:=∀h n,g h=some n->h∉hs\/∃ru∈aa,ru.1=h/\jl g ru=true/\aM g ru<=n
def EZ {aa:List av}{hs:List Str}(g:G)(ru:av)(j:O1 aa hs g)(m:ru∈aa)(f:bV bl g ru=true):O1 aa hs (dq g ru.1 (aM g ru)):=λh n e=>by
 have le:=le_step f;by_cases c:h=ru.1
 .have e2:n=aM g ru:=by
   unfold dq at e;rw [az c] at e;exact(ib e).symm
  obtain⟨a1,a2⟩:=size_le le (yU f).1;exact .inr ⟨ru,m,c.symm,a1,∅⟩
 have e2:g h=some n:=by
  unfold dq at e;rw [aA c] at e;exact e
 rcases j h n e2 with h1 | ⟨Th,m2,q2,a2,l2⟩
 .exact .inl h1
 obtain⟨b1,b2⟩:=size_le le a2;exact .inr ⟨Th,m2,q2,b1,∅⟩
def DL {aa:List av}{hs:List Str}{g0 g:G}(j0:O1 aa hs g0)(st:cH bl aa g0 g)(se:dJ bl aa g){h:Str}{n:Int}(hh:h∈hs)(e:g h=some n):∃ru∈aa,ru.1=h/\jl g ru=true/\aM g ru=n:=by
 have j:O1 aa hs g:=cH.keep (J:=O1 aa hs) (λg ru j m f=>EZ g ru j m f) st j0;rcases j h n e with z | ⟨ru,m,q,a,l⟩
 .exact absurd hh z
 refine⟨ru,m,q,a,?_⟩;have f:=se ru m;unfold bV at f;rw [a,q,e] at f;have f:(true && (!(some n:Option Int).isSome || bl (aM g ru) n))=false:=f
 have f2:¬aM g ru < n:=by simpa [bl] using f
 omega
theorem B_ {g:G}(nn:NN g):∀(ps:List Str)(p:Str) (m:Int),p∈ps->g p=some m->m<=(ps.map λp=>(g p).getD 0).sum
 | q::r,p,m,hp,e=>by
  rw [bL,jr];have h1:=jw g nn r;rcases bN.mp hp with rfl | hp
  .rw [e];show m<=m+_;omega
  have h2:=B_ nn r p m hp e;have h3:0<=(g q).getD 0:=by
   cases eq:g q with
   | none=>exact iw _
   | some n=>exact nn q n eq
  omega
def Dm {g:G}(nn:NN g){ru:av}{p:Str}{m:Int}(hp:p∈ru.2)(e:g p=some m):m < aM g ru:=by
 have:=B_ nn ru.2 p m hp e;unfold aM;omega
theorem qD:∀(aW ps bA:List Str),(∀z∈bA,z∉aW)->∀z∈rQ aW bA ps,z∉aW
 | _,[],bA,h=>h
 | aW,p::r,bA,h=>by
  show ∀z∈rQ aW (addW aW bA p) r,z∉aW;refine qD aW r _ ?_;unfold addW
  split
  .exact h
  rename_i hp
  unfold gF
  split
  .exact h
  intro z hz;rcases bZ.mp hz with hz | hz
  .exact h z hz
  rw [cJ.mp hz];exact hp
def wk {g:Str->Int}{zs:List Str}(h:zs.Pairwise λx y=>g x<=g y){i:Nat}{x p:Str}(e:zs[i]?=some x)(hp:p∈zs)(l:g p < g x):p∈zs.take i:=by
 obtain⟨j,ej⟩:=fA hp;obtain⟨li,ei⟩:=aY.mp e;obtain⟨lj,ej2⟩:=aY.mp ej;have ZZ:j < i:=by
  rcases Nat.lt_trichotomy j i with h1 | h1 | h1
  .exact h1
  .subst h1;rw [e] at ej;cases ej;omega
  have:=List.pairwise_iff_getElem.mp h i j li lj h1;rw [ei,ej2] at this;omega
 rw [List.mem_iff_getElem?];exact⟨j,by rw [List.getElem?_take,az ZZ];exact ej⟩
end M11
namespace fY
open PySem L2 M11
def UC (aa:List av):O1 aa (hd aa) (lH aa):=λh n e=>by
 unfold lH at e;by_cases c:h∈rQ (hd aa) [] (aa.flatMap (·.2))
 .exact .inl (qD _ _ [] (λz hz=>by cases hz) h c)
 rw [aA c] at e;cases e
def nn0 (aa:List av):NN (lH aa):=λh n e=>by
 unfold lH at e;by_cases c:h∈rQ (hd aa) [] (aa.flatMap (·.2))
 .rw [az c] at e;cases e;exact iw _
 rw [aA c] at e;cases e
def MK {aa:List av}{g:G}(st:cH M11.bl aa (lH aa) g):NN g:=cH.keep (J:=NN) (λg ru j m f=>wR j ru) st (nn0 aa)
theorem qE (aW:List Str):∀(ps bA:List Str)(x:Str),(x∈bA\/(x∈ps/\x∉aW))->x∈rQ aW bA ps
 | [],bA,x,h=>by
  rcases h with h | ⟨h,_⟩
  .exact h
  cases h
 | p::r,bA,x,h=>by
  show x∈rQ aW (addW aW bA p) r;apply qE aW r;unfold addW;by_cases c:p∈aW
  .rw [az c];rcases h with h | ⟨h,n⟩
   .exact .inl h
   rcases bN.mp h with z | z
   .exact absurd (z ▸ c) n
   exact .inr ⟨z,n⟩
  rw [aA c];rcases h with h | ⟨h,n⟩
  .exact .inl ((oF _ _ _).mpr (.inl h))
  rcases bN.mp h with z | z
  .exact .inl ((oF _ _ _).mpr (.inr z))
  exact .inr ⟨z,n⟩
def P_:List Stmt->Pos
 | [_,_,_,.For _ (.Call _ _ [⟨_,.Lambda _ _ _ pos,_⟩] _) _ _ _,_]=>pos
 | _=>⟨0,0,0,0⟩
abbrev posB:Pos:=P_ (bQ nU)
abbrev Ir:Str := "least_by_part" ++ ".<locals>." ++ "<lambda>"
section
def pb (K:aR)(T1 T3:Addr):Sp:=λvs H Q _=>∃(R:Addr)(rs:List Addr)(aa:List av),vs=[.ref R]/\aG K H R (rs.map V.ref)/\bz K H rs aa/\aa.length < 64/\(∀ru∈aa,ru.2.length<=8)/\(∀g,cH M11.bl aa (lH aa) g->dJ M11.bl aa g->∀h∈hd aa,∃n,g h=some n/\n<=60)/\Tab T1 sN.2.2.2 zC H/\Tab T3 posB Ir H/\T1≠T3 /\
 ∀(d:Addr)(kvs:List (aK×V))(H':Hp),H d=none->ma T1 T3 H H'->Tab T1 sN.2.2.2 zC H'->Tab T3 posB Ir H'->H' d=some (.dK kvs)->(∀z,z∈hd aa->(Sum.inr z:aK)∈kvs.map (·.1))->Q (.ref d) H'
structure LB (K:aR)(rs:List Addr)(aa:List av)(qU:List (aK×V))(ps:List (Str×Addr))(R dz dn T1 T3:Addr)(H5:Hp):Prop where
 hR:aG K H5 R (rs.map V.ref)
 cT:bz K H5 rs aa
 nm:IM ps (λn=>nums aa n aa.length) H5 dn
 rz:Rd H5 dz (.dK qU)
 t1:Tab T1 sN.2.2.2 zC H5
 t3:Tab T3 posB Ir H5
theorem LB.same {rs:List Addr}{aa:List av}{qU:List (aK×V)}{ps:List (Str×Addr)}{R dz dn T1 T3:Addr}{H5 H6:Hp}(h:LB K rs aa qU ps R dz dn T1 T3 H5)(s:aD H5 H6):LB K rs aa qU ps R dz dn T1 T3 H6 :=
 ⟨s.seq h.hR,h.cT.same s,h.nm.same s,fY.Rd.same h.rz s,h.t1.same s,h.t3.same s⟩
def LB.K9 {rs:List Addr}{aa:List av}{qU:List (aK×V)}{ps:List (Str×Addr)}{R dz dn T1 T3 d:Addr}{H5 H6:Hp}{kv:List (aK×V)}(h:LB K rs aa qU ps R dz dn T1 T3 H5)(e:H5 d=some (.dK kv))(n1:dn≠d)(n2:dz≠d)(s:fX d H5 H6):LB K rs aa qU ps R dz dn T1 T3 H6:=by
 have tk:∀a xs,bf K H5 a xs->bf K H6 a xs:=λa xs z=>by
  rcases z with (z | ⟨u,z⟩) | z
  .exact .inl (.inl (s _ _ (λy=>by rw [y,e] at z;cases z) z))
  .exact .inl (.inr ⟨u,s _ _ (λy=>by rw [y,e] at z;cases z) z⟩)
  exact .inr z
 have tb:∀{T':Addr}{pos':Pos}{Ip:Str},Tab T' pos' Ip H5->Tab T' pos' Ip H6:=λ{T' pos' Ip} ⟨p,a,b,cc⟩=>⟨p,s _ _ (λy=>by rw [y,e] at a;cases a) a,b,cc.imp id λ⟨c',e1,e2⟩=>⟨c',e1,s _ _ (λy=>by rw [y,e] at e2;cases e2) e2⟩⟩;refine⟨?_,h.cT.keep tk,⟨s _ _ n1 h.nm.hd,h.nm.n1,h.nm.n2,λp hp=>s _ _ (λy=>by have a:=h.nm.lst p hp;rw [y,e] at a;cases a) (h.nm.lst p hp)⟩,?_,tb h.t1,tb h.t3⟩
 .rcases h.hR with (z | ⟨u,z⟩) | z
  .exact .inl (.inl (s _ _ (λy=>by rw [y,e] at z;cases z) z))
  .exact .inl (.inr ⟨u,s _ _ (λy=>by rw [y,e] at z;cases z) z⟩)
  exact .inr z
 rcases h.rz with z | ⟨u,z⟩
 .exact .inl (s _ _ n2 z)
 exact .inr ⟨u,s _ _ n2 z⟩
def LB.PM {rs:List Addr}{aa:List av}{qU:List (aK×V)}{ps:List (Str×Addr)}{R dz dn T1 T3:Addr}{H5 H6:Hp}(h:LB K rs aa qU ps R dz dn T1 T3 H5)(nT:T1≠T3)(s:fX T3 H5 H6)(t:Tab T3 posB Ir H6):LB K rs aa qU ps R dz dn T1 T3 H6:=by
 obtain⟨pt,eT,_⟩:=id h.t3;refine⟨BU s h.t3 h.hR,h.cT.keep λ_ _ z=>Bo s h.t3 z,⟨s _ _ (λy=>by have a:=h.nm.hd;rw [y,eT] at a;cases a) h.nm.hd,h.nm.n1,h.nm.n2,λp hp=>s _ _ (λy=>by have a:=h.nm.lst p hp;rw [y,eT] at a;cases a) (h.nm.lst p hp)⟩,?_,Bq s h.t3 h.t1 nT,t⟩;rcases h.rz with z | ⟨u,z⟩
 .exact .inl (s _ _ (λy=>by rw [y,eT] at z;cases z) z)
 exact .inr ⟨u,s _ _ (λy=>by rw [y,eT] at z;cases z) z⟩
theorem pE:∀(hs:List Str)(bA:List (aK×V)) (as:List Str),bA.map (·.1)=as.map Sum.inr->(de (hs.map λh=>((Sum.inr h:aK),V.str h)) bA).map (·.1)=(M11.m_ as hs).map Sum.inr
 | [],bA,as,e=>e
 | h::r,bA,as,e=>pE r (bE bA (Sum.inr h) (.str h)) (M11.gF as h) (fY.kC e h)
def ir:aJ ["rules","numbers","trees","name","least","sizes"] ["rules"] (aw nU):=iP rfl rfl rfl rfl nofun
def Ax {T1 T3:Addr}(F:zy K "least_by_part" "least_by_part" nU f fd T3)(T:Txt mg)(hB:tZ mg base)(hS:mg "sorted"=none)(GH:aL P w K mg base 3 "heads_of" ["rules"] (kT K))(GL:aL P w K mg base 3 "least_sizes" ["rules"] (qH K T1))(GN:aL P w K mg base 3 "numbers_by_name" ["rules"] (Fn K))(GZ:aL P w K mg base 3 "rule_size" ["sizes","rule"] (r9 K)):bh P w K mg base fJ 4 f fd ["rules"] (pb K T1 T3):=by
 refine F.ok ir (by and_intros) (λc A outer s H vs Q E hC hr h=>?_)
 obtain⟨R,rs,aa,rfl,hR,cT,a8,h8,Hg,JU,W_,nT,q⟩:=h;have hu:=gk hr;refine⟨_,aj (aF (i:=5) ir.nd rfl (Or.inr rfl) (bX GL hr rfl (af (pv 0) ak)))
  (aj (aF (i:=1) ir.nd rfl (Or.inr rfl) (bX GN hr rfl (af (pv 0) ak)))
  (aj (aF (i:=2) ir.nd rfl (Or.inr rfl) (aX (eh rfl) rfl T.CA fV (af (bx ["part"] [(1,"numbers")] rfl (B2 (pv 5)) (ba rfl rfl) nofun rfl nofun
    (λ_ _ _ _ _=>au (i:=0) (ndq nofun) rfl (bC rfl)) (λ_ _ _ _ _=>f_ (e_ (eJ hu (pv 0) (pv 1)))) (λ_ _ _ _ _=>bT (af (pv 0) (af (pv 0) ak)))) ak)))
  (aj (bK cx rfl (aQ (F8 (i:=5) (T:=T3) hr rfl hC hB rfl hS (af (bX GH hr rfl (af (pv 0) ak)) ak) rfl rfl (λy hy=>by
    rcases bN.mp hy with h | h
    .cases h
    rcases bN.mp h with h | h
    .cases h;rfl
    cases h) (λq cl pm gr c' us hl=>match us,hl with | [_],_=>rfl) rfl rfl rfl nofun rfl rfl)) (au (i:=3) ir.nd rfl (Or.inr rfl))
   (aj (ik (iy:=4) ["number"] [(5,"sizes"),(0,"rules"),(3,"name")] ir.nd rfl rfl rfl (aQ (fk hu (pv 1) (pv 3) (λ_ _=>rfl))) (ba rfl rfl) nofun rfl nofun
    (λ_ _ _ _ _=>au (i:=0) (ndq nofun) rfl (bC rfl)) (λ_ _ _ _ _=>f_ (bB qa (bX GZ hr rfl (af (pv 1) (af (bH (yK K) (pv 2) (pv 0) (λ_ _=>rfl)) ak))) (fk hu (pv 1) (pv 3) (λ_ _=>rfl)) (cX _))) (λ_ _ _ _ _=>pv 0))
   (ao (iL hu (pv 2) (pv 3) (bT (af (bH cO (pv 4) ay (λ_ _=>rfl)) (af (aX gU rfl T.tup vX (af (bx ["part"] [(2,"trees")] rfl (gA (bH cS (bH cO (pv 0) (bH cO (pv 4) ay (λ_ _=>rfl)) (λ_ _=>rfl)) ay (λ_ _=>rfl))) (ba rfl rfl) nofun rfl nofun
    (λ_ _ _ _ _=>au (i:=0) (ndq nofun) rfl (bC rfl)) (λ_ _ _ _ _=>b9) (λ_ _ _ _ _=>fk hu (pv 1) (pv 0) (λ_ _=>rfl))) ak)) ak))) rfl))))
  (ao (bc (pv 2)))))),?_⟩
 nofun
 refine⟨_,rfl,R,rs,aa,rfl,hR,cT,∅,h8,JU,λdz qU K7 g H1 fz s1 t1 ez kz vz SX Za lz=>?_⟩;refine goN ?_
 ac_rfl
 have hR1:=BU s1 JU hR;have JM:=cT.keep λ_ _ z=>Bo s1 JU z;have Y4:=Bq s1 JU W_ (dC nT);refine⟨_,rfl,R,rs,aa,rfl,hR1,JM,∅,λdn ps H2 fn s2 nm pk pf=>?_⟩;refine goN ?_
 ac_rfl
 have OT:=s2 _ _ ez;refine⟨_,rfl,dz,qU,rfl,OT,λo D hD=>?_⟩;have Vu:∀p∈ps,p.2≠dz:=λp hp z=>by
  have a:=nm.lst p hp;rw [z,OT] at a;cases a
 have ndz:dn≠dz:=λz=>by rw [z,ez] at fn;cases fn
 have nz1:T1≠dz:=λz=>by
  obtain⟨p,a,_⟩:=t1;rw [z,ez] at a;cases a
 have nz3:T3≠dz:=λz=>by
  obtain⟨p,a,_⟩:=Y4;rw [z,ez] at a;cases a
 have Pc:∀{T':Addr}{pos':Pos}{Ip:Str},T'≠dz->Tab T' pos' Ip H2->Tab T' pos' Ip (upd H2 dz (.jR o (.dK qU))):=λ{T' pos' Ip} n ⟨p,a,b,cc⟩=>⟨p,by rw [ai n];exact a,b,cc.imp id λ⟨c',e1,e2⟩=>⟨c',e1,by rw [ai (λz=>by rw [z,OT] at e2;cases e2)];exact e2⟩⟩;have L3:LB K rs aa qU ps R dz dn T1 T3 (upd H2 dz (.jR o (.dK qU))):=by
  refine⟨?_,(JM.same s2).keep λ_ _ z=>eZ OT z,⟨by rw [ai ndz];exact nm.hd,nm.n1,nm.n2,λp hp=>by rw [ai (Vu p hp)];exact nm.lst p hp⟩,.inr ⟨o,ae⟩,Pc nz1 (t1.same s2),Pc nz3 (Y4.same s2)⟩;rcases s2.seq hR1 with (h | ⟨u,h⟩) | h
  .exact .inl (.inl (by rw [ai (λz=>by rw [z,OT] at h;cases h)];exact h))
  .exact .inl (.inr ⟨u,by rw [ai (λz=>by rw [z,OT] at h;cases h)];exact h⟩)
  exact .inr h
 have e3:upd H2 dz (.jR o (.dK qU)) dz=some (.jR o (.dK qU)):=ae;have yg:ma T1 T3 H (upd H2 dz (.jR o (.dK qU))):=λb u n1 n3 hb=>by
  rw [ai (λz=>by rw [z,fz] at hb;cases hb)];exact s2 _ _ (s1 b u n1 hb)
 generalize upd H2 dz (.jR o (.dK qU))=H3 at hD L3 e3 yg ⊢;have lkz:qU.length=K7.length:=by
  have:=congrArg List.length kz;rwa [aB,aB] at this
 refine tQ (λi ys σ2 H4=>∃ts:List Addr,ys=ts.map V.ref/\(∃y0,σ2=[y0,bj dn])/\aD H3 H4/\H4 D=some (.lst ys)/\ts.length<=i/\Paired (λt h=>bf K H4 t [.str h,.str h]) ts ((K7.take i).filter λz=>!decide (z∈hd aa)))
  ⟨[],rfl,⟨none,rfl⟩,ah hD _,ae,aH _,.nil⟩ (λi ys σ2 H4 _ h=>?_) (λi kv ys σ2 H4 ex h=>?_) (λys σ2 H4 h=>?_)
 .obtain⟨_,_,_,sm,_⟩:=h;exact sm _ _ e3
 .obtain⟨ts,rfl,⟨y0,rfl⟩,sm,e4,lts,pt⟩:=h;obtain⟨z,ezz,ekz⟩:∃z,K7[i]?=some z/\kv.1=Sum.inr z:=by
   have a1:(qU.map (·.1))[i]?=some kv.1:=by rw [bq,ex];rfl
   rw [kz,bq] at a1;obtain⟨z,a2,a3⟩:=bR.mp a1;exact⟨z,a2,a3.symm⟩
  rw [ekz];have L4:=L3.same sm;have EK:(br (ps.map jn) (Sum.inr z)).isSome=decide (z∈hd aa):=by
   rw [jU,d5,decide_eq_true_iff,<-pk];rw [i4];constructor
   .intro h;obtain⟨p,hp,e⟩:=cN.mp h;exact cN.mpr ⟨p,hp,mf e⟩
   intro h;obtain⟨p,hp,e⟩:=cN.mp h;exact cN.mpr ⟨p,hp,congrArg Sum.inr e⟩
  refine goN ?_;refine⟨_,rfl,_,rfl,dn,_,rfl,cC.k (k:=Sum.inr z) L4.nm.hd,_,rfl,?_⟩;rw [EK];have RO:((K7.take (i+1)).filter λz=>!decide (z∈hd aa))=((K7.take i).filter λz=>!decide (z∈hd aa))++(if (!decide (z∈hd aa))=true then [z] else []):=by
   rw [cY,ezz,pR]
   congr 1
   by_cases c:z∈hd aa <;> simp [c]
  refine d_ (λcc=>?_) (λcc=>?_)
  .refine⟨_,rfl,_,rfl,mq,λt ht=>?_⟩;have k5:=ah ht (.tup [kV (Sum.inr z),kV (Sum.inr z)]);have v5:bf K (upd H4 t (.tup [kV (Sum.inr z),kV (Sum.inr z)])) t [.str z,.str z]:=bf.of ae;generalize upd H4 t (.tup [kV (Sum.inr z),kV (Sum.inr z)])=H5 at k5 v5;have li:=(aY.mp ex).1;have e5:=k5 _ _ e4;refine⟨e5,bI (by rw [aB];omega),ts++[t],by rw [bD];rfl,⟨_,rfl⟩,λb u hb=>?_,ae,by rw [cu,pW];omega,?_⟩
   .rw [ai (λz=>by rw [z,hD] at hb;cases hb)];exact k5 _ _ (sm b u hb)
   rw [RO,az cc];exact gh (Paired.ft pt λ_ _ z=>a_ e5 (k5.tup z)) (a_ e5 v5)
  refine⟨ts,rfl,⟨_,rfl⟩,sm,e4,∅,?_⟩;rw [RO,aA cc,gJ];exact pt
 obtain⟨ts,rfl,_,s4,e4,lts,pt⟩:=h;rw [lkz,cE] at pt;have ZM:∀z,z∉hd aa->(g z).isSome=true->z∈K7.filter λz=>!decide (z∈hd aa):=λz hz gz=>by
  refine eB.mpr ⟨?_,by simpa using hz⟩;have a1:(br qU (Sum.inr z)).isSome=true:=by rw [vz,o7];exact gz
  rw [d5,kz] at a1;exact cP.mp a1
 have lws:(K7.filter λz=>!decide (z∈hd aa)).length<=20000:=cQ (i9 _ _) ∅;generalize K7.filter (λz=>!decide (z∈hd aa))=ws at pt ZM lws;have kp:Paired (λt (kv:aK×V)=>bf K H4 t [kV kv.1,kv.2]) ts (ws.map λh=>((Sum.inr h:aK),V.str h)):=cR pt λ_ _ z=>z;refine⟨D,ts,_,rfl,e4,kp,λdt Co=>?_⟩;have kt:∀z∈ws,(Sum.inr z:aK)∈(de (ws.map λh=>((Sum.inr h:aK),V.str h)) []).map (·.1):=λz hz=>by
  rw [pE ws [] [] rfl];exact cP.mpr ((eX ws [] z).mpr (.inr hz))
 have lkt:(de (ws.map λh=>((Sum.inr h:aK),V.str h)) []).length<=20000:=by
  have a:=congrArg List.length (pE ws [] [] rfl);rw [aB,aB] at a;have:=gT ws [];simp only [i6] at this;omega
 generalize de (ws.map λh=>((Sum.inr h:aK),V.str h)) []=QG at kt lkt;have s5:=s4.trans (ah Co (.dK QG));have e5:upd H4 dt (.dK QG) dt=some (.dK QG):=ae;have Ll:H3 dt=none:=s4.free Co;generalize upd H4 dt (.dK QG)=H5 at s5 e5;have L5:=L3.same s5;refine goN ?_
 ac_rfl
 refine⟨_,rfl,R,rs,aa,rfl,L5.hR,L5.cT,∅,λDH H6 fH s6 eH=>?_⟩;have L6:=L5.same s6;have EH:=gT (aa.map (·.1)) [];simp only [i6,aB] at EH;have gz:∀z∈hd aa,∃n,g z=some n:=λz hz=>by
  obtain⟨n,e,_⟩:=Hg g SX Za z hz;exact⟨n,e⟩
 refine⟨L6.t3,DH,hd aa,dz,qU,λz=>(g z).getD 0,rfl,aG.of eH,by unfold hd;omega,rfl,L6.rz,λz hz=>by obtain⟨n,e⟩:=gz z hz;rw [vz,e];show _=some (V.int ((g z).getD 0));rw [e];rfl,λl LL H7 s7 t37 fl pe pw el=>?_⟩;have L7:=L6.PM nT s7 t37;have VD:dt≠T3:=λz=>by
  obtain⟨p,a,_⟩:=L5.t3;rw [<-z,e5] at a;cases a
 have e7:=s7 _ _ VD (s6 _ _ e5);have Zq:dn≠dt:=λz=>by have a:=L3.nm.hd;rw [z,Ll] at a;cases a
 have Zk:dz≠dt:=λz=>by rw [<-z,e3] at Ll;cases Ll
 have EF:ma T1 T3 H H7:=λb u n1 n3 hb=>s7 _ _ n3 (s6 _ _ (s5 _ _ (yg b u n1 n3 hb)));have Vy:l≠dt:=λz=>by rw [z,s6 _ _ e5] at fl;cases fl
 have nn:=MK SX;have hlz:LL.length < 64:=by rw [pe.length_eq];unfold hd;omega
 have Sk:∀ru∈aa,∀p∈ru.2,(g p).isSome=true:=λru fK p hp=>by
  by_cases hh:p∈hd aa
  .obtain⟨n,e⟩:=gz p hh;rw [e];rfl
  have j0:∃n,lH aa p=some n:=⟨0,az (qE _ _ [] p (.inr ⟨oY.mpr ⟨ru,fK,hp⟩,hh⟩))⟩;have:∃n,g p=some n:=cH.keep (J:=λg=>∃n,g p=some n) (λg ru ⟨n,e⟩ m f=>by obtain⟨k,a,_⟩:=le_step f p n e;exact⟨k,a⟩) SX j0;obtain⟨n,e⟩:=this;rw [e];rfl
 have ll:=bG cT
 let oJ:oN:=λi σ H8=>∃(kvs:List (aK×V))(y3 y4:Option V),σ=[bj R,bj dn,bj dt,y3,y4,bj dz]/\fX dt H7 H8/\H8 dt=some (.dK kvs)/\kvs.length<=20000+i/\(∀z∈ws,(Sum.inr z:aK)∈kvs.map (·.1))/\(∀z∈LL.take i,(Sum.inr z:aK)∈kvs.map (·.1))
 refine⟨l,rfl,⟨_,aG.of el⟩,cm (xs:=LL.map V.str) oJ ⟨QG,_,_,rfl,λ_ _ _ h=>h,e7,∅,kt,λz hz=>by cases hz⟩ ?_ ?_ ?_⟩
 .rintro i σ H8 _ ⟨kvs,y3,y4,rfl,s8,_⟩;exact aG.of (s8 _ _ Vy el)
 .rintro i x σ H8 ex ⟨kvs,y3,y4,rfl,s8,e8,V1,V6,QF⟩
  ac_nf0
  rw [bq] at ex;obtain⟨z,T4,rfl⟩:=bR.mp ex;have li:=(aY.mp T4).1;have hz:z∈hd aa:=pe.mem_iff.mp (cD T4);obtain⟨n,Xz⟩:=gz z hz;have L8:=L7.K9 e7 Zq Zk s8;obtain⟨p,hp,Wy⟩:=cN.mp (show z∈ps.map (·.1) by rw [pk];exact hz);refine goN ?_
  ac_rfl
  have hgn:cC H8 dn (.str z) (some (.ref p.2)):=by
   have:=cC.k (k:=Sum.inr z) L8.nm.hd;rw [<-Wy,gM ps L8.nm.n1 p hp] at this;rw [Wy] at this;exact this
  have TH:=L8.nm.lst p hp;have TH:H8 p.2=some (.lst ((nums aa z aa.length).map V.int)):=by rw [<-Wy];exact TH
  have numOf:∀(m:Nat) (v:Int),(nums aa z aa.length)[m]?=some v->∃(j:Nat)(ru:av),v=(j:Int)/\aa[j]?=some ru/\ru.1=z:=λm v e=>by
   unfold nums at e;rw [bq] at e;obtain⟨j,e1,rfl⟩:=bR.mp e;have hj:=(eB.mp (cD e1)).2;have hj:(aa[j]?.map (·.1))=some z:=dY hj;obtain⟨ru,e2,e3⟩:=bR.mp hj;exact⟨j,ru,rfl,e2,e3⟩
  have aab:=yt aa z aa.length
  let good:Int->Bool:=λv=>match aa[v.toNat]? with | some ru=>decide (aM g ru=n) | none=>false
  have wit:∃v∈nums aa z aa.length,good v=true:=by
   obtain⟨ru,fK,q1,_,q3⟩:=DL (UC aa) SX Za hz Xz;obtain⟨j,ej⟩:=fA fK;have lj:=(aY.mp ej).1;refine⟨(j:Int),cN.mpr ⟨j,eB.mpr ⟨jT.mpr lj,cw (by rw [ej];exact congrArg some q1)⟩,rfl⟩,?_⟩;show (match aa[(j:Int).toNat]? with | some ru=>decide (aM g ru=n) | none=>false)=true
   rw [pQ,ej];exact cw q3
  refine⟨_,rfl,_,rfl,dn,_,rfl,hgn,p.2,rfl,⟨_,aG.of TH⟩,λD9 DZ=>bY (xs:=(nums aa z aa.length).map V.int) (λm ys σ2 H9=>ys=(((nums aa z aa.length).take m).filter good).map V.int/\(∃y0,σ2=[y0,bj dz,bj R,some (.str z)])/\aD H8 H9/\H9 D9=some (.lst ys))
   ⟨rfl,⟨none,rfl⟩,ah DZ _,ae⟩ (λm ys σ2 H9 _ h=>?_) (λm x ys σ2 H9 em h=>?_) (λys σ2 H9 h=>?_)⟩
  .obtain⟨_,_,sm,_⟩:=h;exact aG.of (sm _ _ TH)
  .obtain⟨rfl,⟨y0,rfl⟩,sm,e9⟩:=h;rw [bq] at em;obtain⟨v,ev,rfl⟩:=bR.mp em;have lm:=(aY.mp ev).1;obtain⟨j,ru,rfl,ej,Ua⟩:=numOf m v ev;have L9:=L8.same sm;obtain⟨r,er,rv⟩:=Paired.at_ L9.cT j ru ej;have Sh:pI (rs.map V.ref) (j:Int)=some (.ref r):=cW (by rw [bq,er];rfl);have gj:good (j:Int)=decide (V.int (aM g ru)=V.int n):=by
    show (match aa[(j:Int).toNat]? with | some ru=>decide (aM g ru=n) | none=>false)=_
    rw [pQ,ej];show decide (aM g ru=n)=_;by_cases c:aM g ru=n
    .rw [cw c,cw (congrArg V.int c)]
    rw [dO c,dO (λy=>c (by injection y))]
   refine goN ?_;refine⟨_,rfl,_,rfl,_,rfl,R,_,_,_,rfl,rfl,L9.hR,Sh,dz,r,qU,g,ru,rfl,L9.rz,vz,rv,h8 ru (cD ej),Sk ru (cD ej),λuo lW=>?_⟩;have hgz:cC uo dz (.str z) (some (.int n)):=by
    have:=cC.r (k:=Sum.inr z) (L9.same lW).rz;rw [vz,Xz] at this;exact this
   refine⟨_,rfl,_,rfl,dz,_,rfl,hgz,rfl,_,rfl,?_⟩;rw [<-gj];have RO:((nums aa z aa.length).take (m+1)).filter good=((nums aa z aa.length).take m).filter good++(if good (j:Int)=true then [(j:Int)] else []):=by
    rw [cY,ev,pR]
    congr 1
    show List.filter good [(j:Int)]=_;by_cases c:good (j:Int)=true
    .rw [az c,lK,az c,List.filter_nil]
    rw [aA c,lK,aA c,List.filter_nil]
   have lf:(((nums aa z aa.length).take m).filter good).length<=1000:=cQ (i9 _ _) (by rw [dA];omega);refine d_ (λcc=>?_) (λcc=>?_)
   .refine⟨_,rfl,lW _ _ e9,bI (by rw [aB];omega),by rw [RO,az cc,bD];rfl,⟨_,rfl⟩,λb u hb=>?_,ae⟩;rw [ai (λz=>by rw [z,DZ] at hb;cases hb)];exact lW _ _ (sm b u hb)
   exact⟨by rw [RO,aA cc,gJ],⟨_,rfl⟩,sm.trans lW,lW _ _ e9⟩
  obtain⟨rfl,_,s9,e9⟩:=h;rw [aB,cE] at e9;refine goN ?_
  ac_rfl
  have L9:=L8.same s9;cases hf:(nums aa z aa.length).filter good with
  | nil =>
   obtain⟨v,hv,gv⟩:=wit;have:v∈(nums aa z aa.length).filter good:=eB.mpr ⟨hv,gv⟩;rw [hf] at this;cases this
  | cons v0 vr =>
   rw [hf] at e9;have Rg:v0∈(nums aa z aa.length).filter good:=by rw [hf];exact bO
   obtain⟨Rf,TK⟩:=eB.mp Rg;obtain⟨m0,em0⟩:=fA Rf;obtain⟨j,ru,rfl,ej,Ua⟩:=numOf m0 v0 em0;have hsz:aM g ru=n:=by
    have TK:(match aa[(j:Int).toNat]? with | some ru=>decide (aM g ru=n) | none=>false)=true:=TK
    rw [pQ,ej] at TK;exact dY TK
   have fK:=cD ej;obtain⟨r,er,pp,v1,v2⟩:=Paired.at_ L9.cT j ru ej;have Sh:pI (rs.map V.ref) (j:Int)=some (.ref r):=cW (by rw [bq,er];rfl);have xC:pI (V.int (j:Int)::vr.map V.int) 0=some (.int (j:Int)):=cW (j:=0) rfl;have e9:H9 D9=some (.lst (V.int (j:Int)::vr.map V.int)):=e9;have e89:=s9 _ _ e8;have r8:=h8 ru fK;have V_:∀p∈ru.2,(Sum.inr p:aK)∈kvs.map (·.1):=λy hy=>by
    obtain⟨my,ey⟩:=jY.mp (Sk ru fK y hy);by_cases hh:y∈hd aa
    .refine QF y (wk pw T4 (pe.mem_iff.mpr hh) ?_);show (g y).getD 0 < (g z).getD 0;rw [ey,Xz];show my < n;rw [<-hsz];exact Dm nn hy ey
    exact V6 y (ZM y hh (by rw [ey];rfl))
   refine⟨_,rfl,D9,_,_,_,rfl,rfl,aG.of e9,xC,_,rfl,_,rfl,D9,_,_,_,rfl,rfl,aG.of e9,xC,R,_,_,_,rfl,rfl,L9.hR,Sh,r,_,_,_,rfl,rfl,v1,rfl,pp,rfl,⟨_,v2⟩,λYR Xg=>tM (zs:=ru.2) rfl v2 ∅ e89 V_ Xg λys uo ly lW EN=>?_⟩;refine⟨YR,ys,rfl,.inl ⟨aG.of EN,λt2 Xk=>⟨mq,λK2 NP=>?_⟩⟩⟩;have ZG:=(ah Xk (.tup ys)).trans (ah NP (.tup [.int (j:Int),.ref t2]));generalize upd (upd uo t2 (.tup ys)) K2 (.tup [.int (j:Int),.ref t2])=CQ at ZG;have PV:=(s9.trans lW).trans ZG;have II:=PV _ _ e8;refine⟨_,rfl,_,rfl,dt,_,rfl,.inl ⟨kvs,Sum.inr z,II,rfl,bI ∅,rfl⟩,?_⟩;have G3:∀y:aK,(y∈kvs.map (·.1)\/y=Sum.inr z)->y∈(bE kvs (Sum.inr z) (.ref K2)).map (·.1):=λy hy=>by
    by_cases hk:(Sum.inr z:aK)∈kvs.map (·.1)
    .rw [Aj hk];rcases hy with hy | rfl
     .exact hy
     exact hk
    rw [ij hk];rcases hy with hy | rfl
    .exact i8 _ hy
    exact fP _ bO
   have aad:(bE kvs (Sum.inr z) (.ref K2)).length<=kvs.length+1:=by
    have a:=congrArg List.length (Eq.refl ((bE kvs (Sum.inr z) (.ref K2)).map (·.1)));by_cases hk:(Sum.inr z:aK)∈kvs.map (·.1)
    .have b:=congrArg List.length (Aj (v:=.ref K2) hk);rw [aB,aB] at b;omega
    have b:=congrArg List.length (ij (v:=.ref K2) hk);rw [aB,cu,aB,pW] at b;omega
   refine⟨_,_,_,rfl,λb u nb hb=>?_,ae,∅,λy hy=>G3 _ (.inl (V6 y hy)),λy hy=>?_⟩
   .rw [ai nb];exact PV _ _ (s8 b u nb hb)
   rw [cY,T4] at hy;rcases bZ.mp hy with hy | hy
   .exact G3 _ (.inl (QF y hy))
   exact G3 _ (.inr (by rw [cJ.mp (show y∈[z] from hy)]))
 rintro σ H8 ⟨kvs,y3,y4,rfl,s8,e8,V1,V6,QF⟩;rw [aB,cE] at QF;have L8:=L7.K9 e7 Zq Zk s8;refine⟨_,rfl,q dt kvs H8 ?_ (λb u n1 n3 hb=>?_) L8.t1 L8.t3 e8 λz hz=>QF z (pe.mem_iff.mpr hz)⟩
 .cases c:H dt with
  | none=>rfl
  | some u =>
   by_cases h1:dt=T1
   .obtain⟨pp,a,_⟩:=L3.t1;rw [<-h1,Ll] at a;cases a
   rw [yg dt u h1 VD c] at Ll;cases Ll
 refine s8 _ _ (λz=>?_) (EF b u n1 n3 hb);rw [z] at hb;rw [yg dt u (λy=>n1 (z.trans y)) VD hb] at Ll;cases Ll
end
end fY
namespace L2
open PySem PySem.Spec PyProof.Rows
section
variable {prog:Program}{w:World}{A:Around}{E:Value->Shared->Prop}
def wc {h h':Heap}{ks:List aK}{a:Addr}(p:(tupleKind (a7 prog w)).is h ks a)(k:∀b o,o.cls=.type "tuple" -> h.get? b=some o->h'.get? b=some o):(tupleKind (a7 prog w)).is h' ks a :=
 let ⟨o,aN,n,h1,h2,h3,h4⟩:=p;⟨o,aN,n,k a o h2 h1,h2,h3,h4⟩
def xu {h h':Heap}{d:Addr}{xs:List (List aK×Addr×Value)}(hd:h.DictOfH (tupleKind (a7 prog w)) d xs)(kd:∀o,h.get? d=some o->h'.get? d=some o)(k:∀b o,o.cls=.type "tuple" -> h.get? b=some o->h'.get? b=some o) :
  h'.DictOfH (tupleKind (a7 prog w)) d xs :=
 let ⟨o,es,ep,q,c,dd,e,is,n⟩:=hd;⟨o,es,ep,kd o q,c,dd,e,λx hx=>wc (is x hx) k,n⟩
def lC (prog:Program)(w:World)(h:Heap)(u:Value)(kv:List aK×Addr×Value):Prop :=
 ∃t n o,u=.ref t/\(tupleKind (a7 prog w)).is h kv.1 kv.2.1/\h.get? t=some o/\o.cls=.type "tuple" /\ o.data=.seq #[.ref kv.2.1,kv.2.2] n
def lC.keep {h h':Heap}{u:Value}{kv:List aK×Addr×Value}(p:lC prog w h u kv)(k:∀b o,o.cls=.type "tuple" -> h.get? b=some o->h'.get? b=some o):lC prog w h' u kv :=
 let ⟨t,n,o,a,b,c,d,e⟩:=p;⟨t,n,o,a,wc b k,k t o d c,d,e⟩
def Ct (more xs:List (List aK×Addr×Value)):List (List aK×Addr×Value):=more.foldl (λa p=>storedH a p.1 p.2.1 p.2.2) xs
def Kk {R:Result->Shared->Prop}{d it l:Addr}{items:Array Value}(hh:A.handled=none)(hu:A.units+1 < cLine):∀(more:List (List aK×Addr×Value)) (i:Nat)(s:Shared)(kvs:List (List aK×Addr×Value)) (j:Int)(tk:Tok),items.size=i+more.length ->
  s.heap.DictOfH (tupleKind (a7 prog w)) d kvs->s.heap.IsListIter it l i->s.heap.IsList l items->(∀m kv,more[m]?=some kv->∃u,items[i+m]?=some u/\lC prog w s.heap u kv)->kvs.length+more.length<=sizeLine ->
  (∀h' t',h'.DictOfH (tupleKind (a7 prog w)) d (Ct more kvs)->(∀b o,b≠d->b≠it->s.heap.get? b=some o->h'.get? b=some o)->R (.ok (.ret .none)) { s with heap:=h',toks:=t' }) ->
  codeAny (model prog w) A (.builtin "dict.update.loop" ⟨[.ref d,.ref it,.int j tk,.none],[]⟩) R s:=by
 intro more
 induction more with
 | nil =>
  intro i s kvs j tk hi hd hit hl hp hz hR;refine j9 lg ?_;rw [pS fj _];unfold Builtin.«dict.update.loop»;have hs:items[i]?=none:=Array.getElem?_eq_none (by rw [hi];exact aH _);refine ax (vP hh hit hl hs λh1 eb=>?_);have nd:d≠it:=λz=>by
   obtain⟨o,_,_,q,_,c,_⟩:=hd;obtain⟨o',q',_,c'⟩:=hit;rw [z,q'] at q;cases q;rw [c'] at c;cases c
  have nt:∀b o,o.cls=.type "tuple" -> s.heap.get? b=some o->b≠it:=λb o c q z=>by
   obtain⟨o',q',c',_⟩:=hit;rw [z,q'] at q;cases q;rw [c'] at c;exact absurd c nofun
  show wpAny _ _ (Builtin.Dict.addKeywords d [] >>= _) _ _ _;exact ax (aI (aI (hR h1 s.toks (xu hd (λo q=>eb d o nd q) λb o c q=>eb b o (nt b o c q) q) λb o n1 n2 q=>eb b o n2 q)))
 | cons kv more ih =>
  intro i s kvs j tk hi hd hit hl hp hz hR;refine j9 lg ?_;rw [pS fj _];unfold Builtin.«dict.update.loop»;obtain⟨u,hu1,t,n,o,rfl,hk,ho,hc,Co⟩:=hp 0 kv rfl;refine ax (wpAny_pyNext_list_item hit hl hu1 λh1 Wb sb=>?_);have nd:d≠it:=λz=>by
   obtain⟨o,_,_,q,_,c,_⟩:=hd;obtain⟨o',q',_,c'⟩:=hit;rw [z,q'] at q;cases q;rw [c'] at c;cases c
  have n2:∀b o,(o.cls=.type "tuple" \/ o.cls=.type "list")->s.heap.get? b=some o->b≠d/\b≠it:=by
   intro b o c q;constructor
   .intro z;obtain⟨o',q',c'⟩:=hd.typeIs;rw [z,q'] at q;cases q;rw [c'] at c;rcases c with c | c <;> exact absurd c nofun
   intro z;obtain⟨o',q',c',_⟩:=hit;rw [z,q'] at q;cases q;rw [c'] at c;rcases c with c | c <;> exact absurd c nofun
  have nt:∀b o,o.cls=.type "tuple" -> s.heap.get? b=some o->b≠d/\b≠it:=λb o c q=>n2 b o (.inl c) q;have nl:l≠d/\l≠it:=by
   obtain⟨o,q,c,_⟩:=hl;exact n2 l o (.inr c) q
  have V8:∀b o,o.cls=.type "tuple" -> s.heap.get? b=some o->h1.get? b=some o:=λb o c q=>(sb.2 b (nt b o c q).2).trans q;have Q_:h1.get? t=some o:=V8 t o hc ho;have Nv:h1.DictOfH (tupleKind (a7 prog w)) d kvs:=xu hd (λo q=>(sb.2 d nd).trans q) V8;refine ax (gi (ax (jt ?_)));unfold Builtin.Dict.pairItems;refine ax (iR (T := "tuple") ⟨o,Q_,hc⟩ ?_);rw [az nofun];refine ax (j8 Q_ Co (aI ?_));show wpAny _ _ (holding [.ref kv.2.1,kv.2.2] (dictSet d (.ref kv.2.1) kv.2.2)) _ _ _;rw [eC] at hz hi;refine gi (wpAny_dictSet_heap (s:={ s with heap:=h1 }) (o5 hu) (wc hk V8) Nv (λh2 hd2 PR=>?_) ∅);have kk:∀b o,b≠d->b≠it->s.heap.get? b=some o->h2.get? b=some o:=λb o n1 n2 q=>(PR.2 b n1).trans ((sb.2 b n2).trans q);have ln:(storedH kvs kv.1 kv.2.1 kv.2.2).length<=kvs.length+1:=by
   unfold storedH
   split
   .simp
   simp
  refine aI ⟨iT fj _,ih (i+1) _ _ _ _ ∅ hd2 (Wb.at λo q=>(PR.2 it (dC nd)).trans q) (hl.at λo q=>kk l o nl.1 nl.2 q) (λm V7 e=>?_) ∅ λh3 t3 gp k3=>?_⟩
  .obtain⟨u',e1,e2⟩:=hp (m+1) V7 e;exact⟨u',by rw [<-e1];congr 1;omega,e2.keep λb o c q=>kk b o (nt b o c q).1 (nt b o c q).2 q⟩
  exact hR h3 t3 gp λb o n1 n2 q=>k3 b o n1 n2 (kk b o n1 n2 q)
def qz {s:Shared}{l:Addr}{items:Array Value}{n:Nat}{more:List (List aK×Addr×Value)}{Q:Value->Shared->Prop}(hh:A.handled=none)(hu:A.units+2 < cLine)(hx:s.heap.get? l=some { cls:=.type "list",data:=.seq items n })
  (hi:items.size=more.length)(hp:∀(m:Nat) kv,more[m]?=some kv->∃u,items[m]?=some u/\lC prog w s.heap u kv)(hz:more.length<=sizeLine)
  (h:∀h' t',h'.DictOfH (tupleKind (a7 prog w)) s.heap.objs.size (Ct more [])->(∀b o,s.heap.get? b=some o->h'.get? b=some o)->Q (.ref s.heap.objs.size) { s with heap:=h',toks:=t' }) :
  wpAny (model prog w) A (call (.type "dict") [.ref l]) Q E s:=by
 refine callType_codes (Q₁:=λobj s₁=>obj=.ref s.heap.objs.size/\s₁={ s with heap:=s.heap.push { cls:=.type "dict",data:=.dict #[] } }) F.kt_called_dict (F.kt_typeCall_dict_1 _) F.entry_dict_init (kt_code_dict_new _ ⟨rfl,rfl⟩) ?_;rintro obj s₁ ⟨rfl,rfl⟩;have AF:(s.heap.push { cls:=.type "dict",data:=.dict #[] }).DictOfH (tupleKind (a7 prog w)) s.heap.objs.size []:=Heap.DictOfH.new s.heap;have l0:=bu { cls:=.type "dict",data:=.dict #[] } hx;refine⟨AF.typeIs,F.args_dict_init_2 _ _,?_⟩;unfold Builtin.«dict.__init__» Builtin.Dict.selfAndRest;refine ax (ax (wpAny_notOrdered_dict AF.typeIs (aI ?_)));show wpAny _ _ (Builtin.Dict.updateFrom "dict.__init__" s.heap.objs.size (.ref l) [] .none) _ _ _;unfold Builtin.Dict.updateFrom;refine ax (iR (T := "list") ⟨_,l0,rfl⟩ ?_);rw [az zU];refine ax (pD l0 hh λh1 t1 k1=>?_);refine ax (wpAny_rule ?_);have l1:=k1 _ _ l0;refine ax (pP ⟨_,l1,rfl,_,rfl⟩ ?_);have k2:∀b o,s.heap.get? b=some o->(h1.push { cls:=.type "list_iterator",data:=.fields #[.ref l,.int 0 0] }).get? b=some o:=λb o q=>bu _ (k1 _ _ (bu _ q));refine aI ⟨iT fj _,Kk (A:=A.in1) (l:=l) (items:=items) (show A.in1.handled=none from hh) (show A.in1.units+1 < cLine by rw [Around.in1_units];omega) more 0 _ [] _ _ (by rw [hi,mh]) ?_ ⟨_,cZ _ rfl,rfl,rfl⟩ ⟨_,k2 _ _ hx,rfl,n,rfl⟩ (λm kv e=>?_) (by simpa using hz) λh' t' hd k3=>?_⟩
 .exact xu AF (λo q=>bu _ (k1 _ _ q)) λb o _ q=>bu _ (k1 _ _ q)
 .obtain⟨u,e1,e2⟩:=hp m kv e;exact⟨u,by rw [mh];exact e1,e2.keep λb o _ q=>k2 b o q⟩
 refine⟨rfl,h h' t' hd λb o q=>k3 b o (bw (aO q)) ?_ (k2 b o q)⟩;have:=aO (k1 _ _ (bu { cls:=.type "dict",data:=.dict #[] } q));exact bw this
end
def oz (kvs bA:List (List aK×V)):List (List aK×V):=kvs.foldl (λa p=>bE a p.1 p.2) bA
theorem va {H:Hp}:∀{kvs:List (List aK×V)}{vs:List (List aK×Addr×Value)}{bA:List (List aK×V)}{HW:List (List aK×Addr×Value)},KT H kvs vs->KT H bA HW->KT H (oz kvs bA) (Ct vs HW)
 | _,_,_,_,.nil,h=>h
 | _,_,_,_,.cons (a:=p) (b:=q) r t,h=>by
  obtain⟨e,hb,rv⟩:=r;show KT H (oz _ (bE _ p.1 p.2)) (Ct _ (storedH _ q.1 q.2.1 q.2.2));rw [<-e];exact va t (h.put p.1 hb rv)
theorem vc:∀(kvs bA:List (List aK×V)),(oz kvs bA).length<=bA.length+kvs.length
 | [],bA=>by simp [oz]
 | p::r,bA=>by
  have:=vc r (bE bA p.1 p.2);have:=fg bA p.1 p.2;show (oz r (bE bA p.1 p.2)).length<=_;rw [eC];omega
section
variable {X:Cx}{ag:List (Addr×Obj)}{σ:St}{H:Hp}{s:Shared}
abbrev O3 (K:aR)(H:Hp)(t:Addr)(kv:List aK×V):Prop:=∃b,bf K H t [.ref b,kv.2]/\H b=some (.tup (kv.1.map kV))
theorem uM (I:Inv X ag σ H s):∀{ts:List Addr}{kvs:List (List aK×V)}{aN:List Value},Paired (O3 X.K H) ts kvs->aV (ts.map V.ref) aN ->
  ∃vs:List (List aK×Addr×Value),KT H kvs vs/\Paired (λu kv=>lC X.prog X.w s.heap u kv) aN vs
 | [],_,_,.nil,r=>by
  rw [j4] at r;cases r;exact⟨[],.nil,.nil⟩
 | t::ts,kv::kvs,_,.cons h p,r=>by
  rw [bL] at r;cases r with
  | cons r1 r2 =>
   obtain⟨vs,e1,e2⟩:=uM I p r2;obtain⟨b,h0,hb⟩:=h;obtain⟨aN,rv,⟨o,h1,h2,n,h3⟩,_⟩:=I.tuple h0;obtain⟨u1,u2,rfl,q1,q2⟩:=vals2 rv;cases (show u1=Value.ref b from q1);exact⟨(kv.1,b,u2)::vs,.cons ⟨rfl,hb,q2⟩ e1,.cons ⟨t,n,o,r1,mK I.bF hb,h1,h2,h3⟩ e2⟩
def zq (hc:X.calm=true)(hu:X.A.units+2 < cLine):fZ X (.type "dict") (λxs H Q=>∃a ts kvs,xs=[.ref a]/\H a=some (.lst (ts.map V.ref))/\Paired (O3 X.K H) ts kvs/\∀d,H d=none->Q (.ref d) (upd H d (.dT (oz kvs [])))):=by
 intro ag s σ H xs us Q I r h;obtain⟨a,ts,kvs,rfl,e,p,q⟩:=h;obtain⟨u,rfl,rx⟩:=vals1 r;cases (show u=Value.ref a from rx);obtain⟨z,aN,n,rv,ho⟩:=(show bW X.prog X.w H s.heap a (.lst _) from I.bF a _ e);obtain⟨vs,r1,r2⟩:=uM I p rv;have l1:=bG r2;have l2:=bG r1;have l3:=bG p;rw [aB] at z;refine qz (I.ok.hd hc) hu ho (by simpa using l1) (λm kv em=>?_) ∅ λh' t' hd kk=>?_
 .obtain⟨u,e1,e2⟩:=Paired.at_ r2 m kv em;exact⟨u,by simpa using e1,e2⟩
 have fr:=I.bF.fresh (aH s.heap.objs.size);have new:bW X.prog X.w (upd H s.heap.objs.size (.dT (oz kvs []))) h' s.heap.objs.size (.dT (oz kvs [])):=by
  obtain⟨o,es,ep,hq,h2,h3,h4,_,h5⟩:=hd;refine⟨?_,?_,_,(va r1 .nil).keeps λc ys ec=>?_,o,es,ep,hq,h2,h3,h4,h5⟩
  .have:=vc kvs [];simp at this;omega
  .have:=I.big;exact jX.mpr (jI this)
  rw [ai (aq ec fr)];exact ec
 exact⟨.ref s.heap.objs.size,_,I.laid (t':=t') kk (aH _) new,rfl,q _ fr⟩
end
open PySem M11
def Eo {K:aR}{H:Hp}{bg D:Addr}{ts:List Addr}{cI:List Be}{σ:St}{x1 x2 x3 x4:Str}{Qp:Hp->Prop}(hb:aG K H bg (ts.map V.ref))(OM:Paired (λt (b:Be)=>bf K H t [.str b.1,.str b.2.1,.int (b.2.2.1:Int),.int (b.2.2.2:Int)]) ts cI)(a8:cI.length<=900000)(hD:H D=none)
  (q:∀us H2,aD H H2->H2 D=some (.lst (us.map V.ref))->Paired (λu (b:Be)=>∃v,O3 K H2 u ([Sum.inr b.1,Sum.inr b.2.1],.ref v)) us cI->Qp H2) :
  CWq (jQ K bg) D (dI [x1,x2,x3,x4] [] σ) H Qp (D_ K 4 (kI (dP 0) (kI (dP 1) (kI (dP 2) (kI (dP 3) Hq))))) ix (uc (gw (uc (gw (gG 0) (gw (gG 1) rV))) (gw (uc (gw (gG 2) (gw (gG 3) rV))) rV))):=by
 have ll:=bG OM;refine bY (xs:=ts.map V.ref) (λi ys σ2 H2=>∃us:List Addr,ys=us.map V.ref/\us.length=i/\Paired (λu (b:Be)=>∃v,O3 K H2 u ([Sum.inr b.1,Sum.inr b.2.1],.ref v)) us (cI.take i)/\(∃y0 y1 y2 y3,σ2=[y0,y1,y2,y3])/\aD H H2/\H2 D=some (.lst ys))
  ⟨[],rfl,rfl,.nil,⟨none,none,none,none,rfl⟩,ah hD _,ae⟩ (λi ys σ2 H2 _ h=>?_) (λi x ys σ2 H2 ex h=>?_) (λys σ2 H2 h=>?_)
 .obtain⟨_,_,_,_,_,sm,_⟩:=h;exact sm.seq hb
 .obtain⟨us,rfl,hu,hp,⟨y0,y1,y2,y3,rfl⟩,sm,hd⟩:=h;rw [bq] at ex;obtain⟨r,er,rfl⟩:=bR.mp ex;have lr:=(aY.mp er).1;obtain⟨b,e1⟩:∃b,cI[i]?=some b:=⟨cI[i]'∅,c_ ∅⟩;obtain⟨r',EL,v1⟩:=Paired.at_ OM i b e1;rw [er] at EL;cases EL;have li:=(aY.mp e1).1;refine⟨r,_,rfl,sm.tup v1,rfl,_,_,rfl,_,_,rfl,_,_,rfl,_,_,rfl,rfl,?_⟩;refine xi ?_;refine⟨_,rfl,_,rfl,mq,λk hk=>⟨_,rfl,_,rfl,mq,λv hv=>⟨mq,λu ZO=>?_⟩⟩⟩;have s3:=(ah hk (.tup [V.str b.1,V.str b.2.1])).trans ((ah hv (.tup [V.int (b.2.2.1:Int),V.int (b.2.2.2:Int)])).trans (ah ZO (.tup [.ref k,.ref v])));have ek:=((ah hv (.tup [V.int (b.2.2.1:Int),V.int (b.2.2.2:Int)])).trans (ah ZO (.tup [.ref k,.ref v]))) k _ ae;have eu:bf K (upd (upd (upd H2 k (.tup [V.str b.1,V.str b.2.1])) v (.tup [V.int (b.2.2.1:Int),V.int (b.2.2.2:Int)])) u (.tup [.ref k,.ref v])) u [.ref k,.ref v]:=bf.of ae;generalize upd (upd (upd H2 k (.tup [V.str b.1,V.str b.2.1])) v (.tup [V.int (b.2.2.1:Int),V.int (b.2.2.2:Int)])) u (.tup [.ref k,.ref v])=H4 at s3 ek eu;have qW:=s3 _ _ hd;refine⟨qW,bI (by rw [aB];omega),us++[u],by rw [bD];rfl,by rw [cu,hu];rfl,?_,⟨_,_,_,_,rfl⟩,?_,ae⟩
  .rw [cY,e1];have kD:k≠D:=λz=>by rw [z,qW] at ek;cases ek
   refine gh (Paired.ft hp λu' b' aS=>?_) ⟨v,k,a_ qW eu,by rw [ai kD];exact ek⟩;obtain⟨v',bb,p1,p2⟩:=aS;exact⟨v',bb,a_ qW (s3.tup p1),by rw [ai (λz=>by rw [z,hd] at p2;cases p2)];exact s3 _ _ p2⟩
  intro c o hc;rw [ai (λz=>by rw [z,hD] at hc;cases hc)];exact s3 _ _ (sm c o hc)
 obtain⟨us,rfl,hu,hp,_,sm,hd⟩:=h;rw [aB,ll,cE] at hp;exact q us H2 sm hd hp
theorem F5 {K:aR}{H:Hp}:∀{us:List Addr}{cI:List Be},Paired (λu (b:Be)=>∃v,O3 K H u ([Sum.inr b.1,Sum.inr b.2.1],.ref v)) us cI->∃kvs,Paired (O3 K H) us kvs
 | _,_,.nil=>⟨[],.nil⟩
 | _,_,.cons ⟨v,h⟩ t=>let ⟨kvs,p⟩:=F5 t;⟨_::kvs,.cons h p⟩
end L2
namespace fY
open PySem L2 M11
def Tab.s2 {T T1 T2:Addr}{p p1 p2:Pos}{q q1 q2:Str}{H H':Hp}(h:Tab T p q H)(s:ma T1 T2 H H')(t1:Tab T1 p1 q1 H)(t2:Tab T2 p2 q2 H)(n1:T≠T1)(n2:T≠T2):Tab T p q H':=by
 obtain⟨ps,a,b,c⟩:=h;obtain⟨Tj,b1,_⟩:=t1;obtain⟨Oz,b2,_⟩:=t2;refine⟨ps,s _ _ n1 n2 a,b,c.imp id ?_⟩;rintro⟨c',e,g⟩;exact⟨c',e,s _ _ (λz=>by rw [z,b1] at g;cases g) (λz=>by rw [z,b2] at g;cases g) g⟩
def kj {T a C dx:Addr}{pos:Pos}{qu:Str}{H:Hp}{fs:List (Str×V)}{o:HO}(h:Tab T pos qu H)(ha:H a=some (.ins C dx fs)):Tab T pos qu (upd H a o):=by
 obtain⟨ps,p,r,c⟩:=h;refine⟨ps,by rw [ai (λz=>by rw [z,ha] at p;cases p)];exact p,r,c.imp id ?_⟩;rintro⟨c',e,g⟩;exact⟨c',e,by rw [ai (λz=>by rw [z,ha] at g;cases g)];exact g⟩
def Kp (H H':Hp):Prop:=∀b o,H b=some o->(∀ps,o≠.ua ps)->H' b=some o
def Kp.trans {H H1 H2:Hp}(a:Kp H H1)(b:Kp H1 H2):Kp H H2:=λc o h n=>b c o (a c o h n) n
def Kp.of {H H':Hp}(s:aD H H'):Kp H H':=λb o h _=>s b o h
def Kp.of2 {T1 T2:Addr}{p1 p2:Pos}{q1 q2:Str}{H H':Hp}(s:ma T1 T2 H H')(t1:Tab T1 p1 q1 H)(t2:Tab T2 p2 q2 H):Kp H H':=λc o hc hn=>by
 obtain⟨Tj,b1,_⟩:=t1;obtain⟨Oz,b2,_⟩:=t2;exact s c o (λz=>by rw [z,b1] at hc;cases hc;exact hn _ rfl) (λz=>by rw [z,b2] at hc;cases hc;exact hn _ rfl) hc
section
theorem Kp.lst {H H':Hp}(k:Kp H H'){a:Addr}{xs:List V}(h:H a=some (.lst xs)):H' a=some (.lst xs):=k a _ h (λ_ z=>by cases z)
def Kp.tup {H H':Hp}(k:Kp H H'){a:Addr}{xs:List V}(h:bf K H a xs):bf K H' a xs:=by
 rcases h with (h | ⟨u,h⟩) | h
 .exact .inl (.inl (k _ _ h (λ_ z=>by cases z)))
 .exact .inl (.inr ⟨u,k _ _ h (λ_ z=>by cases z)⟩)
 exact .inr h
def Kp.seq {H H':Hp}(k:Kp H H'){a:Addr}{xs:List V}(h:aG K H a xs):aG K H' a xs:=by
 rcases h with (h | ⟨u,h⟩) | h
 .exact .inl (.inl (k _ _ h (λ_ z=>by cases z)))
 .exact .inl (.inr ⟨u,k _ _ h (λ_ z=>by cases z)⟩)
 exact .inr h
theorem Kp.aa {H H':Hp}(k:Kp H H'){rs:List Addr}{aa:List av}(h:bz K H rs aa):bz K H' rs aa:=h.keep λ_ _ z=>k.tup z
abbrev Aa:Stmt:=Iq sLT 0
structure LC (K:aR)(C:Addr):Prop where
 cls:CY K C
 a1:cM K C "rules"
 a2:cM K C "empty"
 a3:cM K C "least"
 a4:cM K C "hollow"
 a5:cM K C "beginnings"
structure EX (C3 T1 T3:Addr)(H0 H:Hp)(a dx:Addr)(fs:List (Str×V)):Prop where
 sm:ma T1 T3 H0 H
 ia:H a=some (.ins C3 dx fs)
 fa:H0 a=none
 t1:Tab T1 sN.2.2.2 zC H
 t3:Tab T3 posB Ir H
 o1:Tab T1 sN.2.2.2 zC H0
 o3:Tab T3 posB Ir H0
def EX.kp {C3 T1 T3 a dx:Addr}{H0 H:Hp}{fs:List (Str×V)}(h:EX C3 T1 T3 H0 H a dx fs):Kp H0 H:=Kp.of2 h.sm h.o1 h.o3
def EX.set {C3 T1 T3 a dx:Addr}{H0 H:Hp}{fs:List (Str×V)}(h:EX C3 T1 T3 H0 H a dx fs)(IG:List (Str×V)):EX C3 T1 T3 H0 (upd H a (.ins C3 dx IG)) a dx IG :=
 ⟨λb o n1 n3 hb=>by rw [ai (λz=>by rw [z,h.fa] at hb;cases hb)];exact h.sm b o n1 n3 hb,ae,h.fa,kj h.t1 h.ia,kj h.t3 h.ia,h.o1,h.o3⟩
def EX.next {C3 T1 T3 a dx:Addr}{H0 H H':Hp}{fs:List (Str×V)}(h:EX C3 T1 T3 H0 H a dx fs)(s:aD H H'):EX C3 T1 T3 H0 H' a dx fs :=
 ⟨λb o n1 n3 hb=>s _ _ (h.sm b o n1 n3 hb),s _ _ h.ia,h.fa,h.t1.same s,h.t3.same s,h.o1,h.o3⟩
def EX.Qk {C3 T1 T3 a dx:Addr}{H0 H H':Hp}{fs:List (Str×V)}(h:EX C3 T1 T3 H0 H a dx fs)(s:ma T1 T3 H H')(t1:Tab T1 sN.2.2.2 zC H')(t3:Tab T3 posB Ir H'):EX C3 T1 T3 H0 H' a dx fs :=
 ⟨λb o n1 n3 hb=>s _ _ n1 n3 (h.sm b o n1 n3 hb),Kp.of2 s h.t1 h.t3 _ _ h.ia (λ_ z=>by cases z),h.fa,t1,t3,h.o1,h.o3⟩
def BN (K:aR)(C C3 T1 T3:Addr):Sp:=λvs H Q _=>∃(H0 Hb:Hp)(a dx R x e d bg:Addr)(rs:List Addr)(aa:List av)(kE:List (aK×V))(aP:List (Str×Nat))(ps:List (Str×Addr))(cI:List Be),vs=[.ref a,.ref R,.ref x]/\aD H0 H/\H0 a=none/\H a=some (.ins C3 dx [])/\aG K H0 R (rs.map V.ref)/\bz K H0 rs aa /\
 aa.length < 64/\(∀ru∈aa,ru.2.length<=8)/\(∀g,cH M11.bl aa (lH aa) g->dJ M11.bl aa g->∀h∈hd aa,∃n,g h=some n/\n<=60)/\uq K C Hb H0 x e d bg kE aP ps cI/\qC aa aP/\cI.length<=80000/\Tab T1 sN.2.2.2 zC H0/\Tab T3 posB Ir H0/\T1≠T3 /\
 ∀H',ma T1 T3 H0 H'->Tab T1 sN.2.2.2 zC H'->Tab T3 posB Ir H'->Q .dG H'
def I0:aJ ["self","rules","begin_table"] ["self","rules","begin_table"] (aw Aa):=iP rfl rfl rfl rfl nofun
def Gu {C C3 T1 T3:Addr}(F:hZ K "__init__" "LeastTrees.__init__" Aa f fd)(T:Txt mg)(B:BC K C)(L:LC K C3)(GL:aL P w K mg base 4 "least_by_part" ["rules"] (pb K T1 T3))(GE:aL P w K mg base 4 "empty_by_name" ["rules","empties"] (uE K)) :
  bh P w K mg base fJ 5 f fd ["self","rules","begin_table"] (BN K C C3 T1 T3):=by
 refine F.ok I0 (by and_intros) (λdN A outer s H vs Q E hr h=>?_)
 obtain⟨H0,Hb,a,dx,R,x,e,d,bg,rs,aa,kE,aP,ps,cI,rfl,s0,f0,ea,hR,cT,a8,h8,Hg,S,emp,MU,t1,t3,nT,q⟩:=h;have hu:=ml (Nat.add_le_add_left (by decide:2<=64) _) hr.units;refine⟨_,aj (gy (pv 0) (pv 1) rfl)
  (aj (gy (pv 0) (eK (pv 2) rfl) rfl)
  (aj (gy (pv 0) (bX GL hr rfl (af (pv 1) ak)) rfl)
  (aj (gy (pv 0) (bX GE hr rfl (af (pv 1) (af (eK (pv 2) rfl) ak))) rfl)
  (ao (gy (pv 0) (aX (zq rfl hu) rfl T.CA fV (af (bx ["name","word","number","place"] [] rfl (aQ (eK (pv 2) rfl)) (ba rfl rfl) nofun rfl nofun
   (λ_ _ _ _ _=>gB (n:=4) K rfl (aC (au (i:=0) (ndq nofun) rfl (bC rfl)) (aC (au (i:=1) (ndq nofun) rfl (bC rfl)) (aC (au (i:=2) (ndq nofun) rfl (bC rfl)) (aC (au (i:=3) (ndq nofun) rfl (bC rfl)) bM))))) (λ_ _ _ _ _=>b9)
   (λ_ _ _ _ _=>bT (af (bT (af (pv 0) (af (pv 1) ak))) (af (bT (af (pv 2) (af (pv 3) ak))) ak)))) ak)) rfl))))),?_⟩
 nofun
 have S0:EX C3 T1 T3 H0 H a dx []:=⟨λb o _ _ hb=>s0 b o hb,ea,f0,t1.same s0,t3.same s0,t1,t3⟩;obtain⟨e1,te,⟨OY,OQ,T5,leb⟩,ee1,evb,_⟩:=S.em;obtain⟨aau,aam,RN,l1,l2,_⟩:=S.ia;rw [T5] at RN;cases RN;obtain⟨tb,ebg,OM⟩:=S.lb;have lets:=emp.len;refine⟨_,rfl,_,rfl,a,C3,dx,[],rfl,S0.ia,L.cls,L.a1,(by show 0 < 1000;decide),?_⟩;have S1:=S0.set (dS "rules" (.ref R) []);generalize TL:dS "rules" (.ref R) []=TZ at S1;generalize upd H a (.ins C3 dx TZ)=H1 at S1;have x1:H1 x=some (.ins C OY OQ):=S1.kp _ _ T5 (λ_ z=>by cases z);refine⟨_,rfl,x,C,OY,OQ,_,rfl,x1,B.cls,B.a2,l1,_,rfl,a,C3,dx,TZ,rfl,S1.ia,L.cls,L.a2,(by rw [<-TL];show 1 < 1000;decide),?_⟩;have S2:=S1.set (dS "empty" (.ref e) TZ);generalize DW:dS "empty" (.ref e) TZ=uh at S2;generalize upd H1 a (.ins C3 dx uh)=H2 at S2;refine⟨_,rfl,R,rs,aa,rfl,S2.kp.seq hR,S2.kp.aa cT,a8,h8,Hg,S2.t1,S2.t3,nT,λdl kl H3 fdl s3 jm t33 edl kdl=>?_⟩;have S3:=S2.Qk s3 jm t33;refine⟨_,rfl,a,C3,dx,uh,rfl,S3.ia,L.cls,L.a3,(by rw [<-DW,<-TL];show 2 < 1000;decide),?_⟩;have S4:=S3.set (dS "least" (.ref dl) uh);generalize Z2:dS "least" (.ref dl) uh=OR at S4;generalize upd H3 a (.ins C3 dx OR)=H4 at S4;have x4:H4 x=some (.ins C OY OQ):=S4.kp _ _ T5 (λ_ z=>by cases z);refine⟨_,rfl,_,rfl,x,C,OY,OQ,_,rfl,x4,B.cls,B.a1,leb,R,e1,rs,te,aa,aP,rfl,S4.kp.seq hR,S4.kp.aa cT,∅,h8,aG.of (S4.kp.lst ee1),evb.keep λ_ _ z=>S4.kp.tup z,emp,∅,λdh kh H5 fdh s5 edh kdh=>?_⟩;have S5:=S4.next s5;refine⟨_,rfl,a,C3,dx,OR,rfl,S5.ia,L.cls,L.a4,(by rw [<-Z2,<-DW,<-TL];show 3 < 1000;decide),?_⟩;have S6:=S5.set (dS "hollow" (.ref dh) OR);generalize hf6:dS "hollow" (.ref dh) OR=zG at S6;generalize upd H5 a (.ins C3 dx zG)=H6 at S6;have x6:H6 x=some (.ins C OY OQ):=S6.kp _ _ T5 (λ_ z=>by cases z);have b6:=S6.kp.lst ebg;have v6:Paired (λt (b:Be)=>bf K H6 t [.str b.1,.str b.2.1,.int (b.2.2.1:Int),.int (b.2.2.2:Int)]) tb cI:=Paired.ft OM λ_ _ z=>S6.kp.tup z;refine⟨_,rfl,x,C,OY,OQ,_,rfl,x6,B.cls,B.a3,l2,bg,rfl,⟨_,aG.of b6⟩,λD7 RF=>Eo (aG.of b6) v6 ∅ RF λus H7 s7 e7 p7=>?_⟩;obtain⟨kvs,pk⟩:=F5 p7;refine⟨D7,us,kvs,rfl,e7,pk,λdb qr=>?_⟩;have S8:=(S6.next s7).next (ah qr (.dT (oz kvs [])));refine⟨_,rfl,a,C3,dx,zG,rfl,S8.ia,L.cls,L.a5,(by rw [<-hf6,<-Z2,<-DW,<-TL];show 4 < 1000;decide),?_⟩;have S9:=S8.set (dS "beginnings" (.ref db) zG);exact q _ S9.sm S9.t1 S9.t3
structure Bk (K:aR)(x qual:Str)(st:Stmt)(f:Addr)(fd:FuncData):Prop where
 ex:∃(oc:Value)(od:Option Addr)(kV doc pm:Value)(an:Option Addr)(dN ct:Value)(wN:Array (Option Value))(T:Addr)(o:Obj) (n:Nat),
  fd=PySem.W.fnOf x qual (dw st) (bQ st) (aw st) (.ref T) kV doc pm an dN ct/\K.lookup f=some ⟨oc,od,.func fd,wN⟩/\PySem.W.codeIn K dN qual=true/\K.lookup T=some o/\o.data=.seq #[.none] n
 kp:PySem.W.keepIn K (.ref f)=true
def Bk.ok {x qual:Str}{st:Stmt}{f:Addr}{fd:FuncData}{N ps:List Str}{k:Nat}{sp:Sp}(F:Bk K x qual st f fd)(S:aJ N ps (aw st))(len:∀vs H Q E,sp vs H Q E->vs.length=ps.length)
  (g6:∀(dN:Value)(A:Around)(outer:List Env)(s:Shared)(H:Hp)(vs:List V)(Q:VK)(E:XK),dD k (A.deeper (PyProof.Rows.envOfC qual (aw st) s.heap.objs.size f dN))->sp vs H Q E ->
   ∃t,xP (dM fJ P w K mg base N qual (aw st) f dN A outer s H E).DE (bQ st) t/\t { nx:=λ_ H'=>Q .dG H',rt:=Q } (start N vs) H):bh P w K mg base fJ (k+1) f fd ps sp:=by
 obtain⟨oc,od,kV,doc,pm,an,dN,ct,wN,T,o,n,rfl,lk,sZ,_⟩:=F.ex;refine yS lk sZ S len λA outer s H vs Q E hr u6=>?_;obtain⟨t,h,q⟩:=g6 dN A outer s H vs Q E hr u6;exact⟨t,h.DE,q⟩
def Hm {f:Addr}{fd:FuncData}(F:Bk K "__init__" "Grammar.__init__" wG f fd):Binds K fd ["self","rules","strengths"] []:=by
 obtain⟨oc,od,kV,doc,pm,an,dN,ct,wN,T,o,n,rfl,lk,sZ,lT,dT⟩:=F.ex;intro s us KI hl
 match us,hl with
 | [u1,u2,u3],_=>exact BindsTo.of_defaults rfl (KI T o lT) dT rfl rfl
structure GC (K:aR)(C:Addr):Prop where
 cls:CY K C
 a1:cM K C "rules"
 a2:cM K C "strengths"
 a3:cM K C "begin_table"
 a4:cM K C "standings"
 a5:cM K C "small_trees"
def StrIn (K:aR)(H:Hp)(sv:V)(ss:List Addr)(str:List av):Prop:=(sv=.dG/\ss=[]/\str=[])\/∃S,sv=.ref S/\aG K H S (ss.map V.ref)/\bz K H ss str
def GrV (H0 H:Hp)(Cg g:Addr)(rs ss:List Addr)(bt:Addr):Prop:=∃gx fs R2 S2,H g=some (.ins Cg gx fs)/\fs.lookup ("rules":Str)=some (.ref R2)/\fs.lookup ("strengths":Str)=some (.ref S2)/\fs.lookup ("begin_table":Str)=some (.ref bt)/\fs.lookup ("start":Str)=none /\
 H R2=some (.lst (rs.map V.ref))/\H S2=some (.lst (ss.map V.ref))/\H0 R2=none/\H0 S2=none
def kQ (T1 T2 T3:Addr)(H H':Hp):Prop:=∀b o,b≠T1->b≠T2->b≠T3->H b=some o->H' b=some o
structure xO (T1 T2 T3:Addr)(H:Hp):Prop where
 t1:Tab T1 sN.2.2.2 zC H
 t2:Tab T2 AL.2.2.2 K6 H
 t3:Tab T3 posB Ir H
 GB:T1≠T2
 Ce:T1≠T3
 Cd:T2≠T3
theorem xO.same {T1 T2 T3:Addr}{H H':Hp}(h:xO T1 T2 T3 H)(s:aD H H'):xO T1 T2 T3 H':=⟨h.t1.same s,h.t2.same s,h.t3.same s,h.GB,h.Ce,h.Cd⟩
def xO.E7 {T1 T2 T3 a C dx:Addr}{H:Hp}{fs:List (Str×V)}{o:HO}(h:xO T1 T2 T3 H)(ha:H a=some (.ins C dx fs)):xO T1 T2 T3 (upd H a o):=⟨kj h.t1 ha,kj h.t2 ha,kj h.t3 ha,h.GB,h.Ce,h.Cd⟩
def Kp.Zj {T1 T2 T3:Addr}{H H':Hp}(s:kQ T1 T2 T3 H H')(t:xO T1 T2 T3 H):Kp H H':=λc o hc hn=>by
 obtain⟨Tj,b1,_⟩:=t.t1;obtain⟨Oz,b2,_⟩:=t.t2;obtain⟨ps3,b3,_⟩:=t.t3;exact s c o (λz=>by rw [z,b1] at hc;cases hc;exact hn _ rfl) (λz=>by rw [z,b2] at hc;cases hc;exact hn _ rfl) (λz=>by rw [z,b3] at hc;cases hc;exact hn _ rfl) hc
def uq.E7 {C:Addr}{H0 H:Hp}{a e d bg:Addr}{kE:List (aK×V)}{aP:List (Str×Nat)}{ps:List (Str×Addr)}{cI:List Be}{g Cg gx:Addr}{fs IG:List (Str×V)}(h:uq K C H0 H a e d bg kE aP ps cI)(hg:H0 g=some (.ins Cg gx fs))(na:a≠g) :
  uq K C (upd H0 g (.ins Cg gx IG)) (upd H g (.ins Cg gx IG)) a e d bg kE aP ps cI:=by
 have JQ:=h.sm _ _ hg;have up:∀c o,c≠g->H c=some o->upd H g (.ins Cg gx IG) c=some o:=λc o n q=>by rw [ai n];exact q
 refine⟨λc o hc=>?_,?_,up _ _ (λz=>by have:=h.he;rw [z,JQ] at this;cases this) h.he,up _ _ (λz=>by have:=h.hd;rw [z,JQ] at this;cases this) h.hd,h.n1,h.n2,λp hp=>?_,?_,?_,?_⟩
 .by_cases z:c=g
  .rw [z,ae] at hc ⊢;exact hc
  rw [ai z] at hc ⊢;exact h.sm _ _ hc
 .obtain⟨dx,fs,q,r⟩:=h.ia;exact⟨dx,fs,up _ _ na q,r⟩
 .obtain⟨⟨kvs,q,r⟩,t1,t2⟩:=h.dk p hp;exact⟨⟨kvs,up _ _ (λz=>by rw [z,JQ] at q;cases q) q,r⟩,by rw [ai (λz=>by rw [z,hg] at t1;cases t1)];exact t1,t2⟩
 .obtain⟨ts,q,r⟩:=h.lb;exact⟨ts,up _ _ (λz=>by rw [z,JQ] at q;cases q) q,Paired.ft r λ_ _ z=>gW JQ z⟩
 .have t1:=h.fb;rw [ai (λz=>by rw [z,hg] at t1;cases t1)];exact t1
 obtain⟨e1,ts,⟨dx,fs,q1,q2⟩,q3,q4,q5⟩:=h.em;exact⟨e1,ts,⟨dx,fs,up _ _ na q1,q2⟩,up _ _ (λz=>by rw [z,JQ] at q3;cases q3) q3,q4.keep λ_ _ z=>gW JQ z,q5⟩
def I_:aJ ["self","rules","strengths"] ["self","rules","strengths"] (aw wG):=iP rfl rfl rfl rfl nofun
def BG (K:aR)(Cg:Addr):Sp:=λvs H Q _=>∃(H0:Hp)(g bt:Addr)(rs ss:List Addr)(aa:List av)(cb:av),vs=[.ref g]/\GrV H0 H Cg g rs ss bt/\bz K H rs aa/\aa[0]?=some cb/\Q (.str cb.1) H
def IW:aJ ["self"] ["self"] (aw z8):=iP rfl rfl rfl rfl nofun
def Gn {Cg:Addr}(F:hZ K "start" "Grammar.start" z8 f fd)(G:GC K Cg):bh P w K mg base fJ 1 f fd ["self"] (BG K Cg):=by
 refine F.ok IW (by and_intros) (λdN A outer s H vs Q E hr h=>?_)
 obtain⟨H0,g,bt,rs,ss,aa,cb,rfl,⟨gx,fs,R2,S2,eg,l1,l2,l3,l4,e1,e2,_⟩,cT,kZ,q⟩:=h;refine⟨_,ao (bc (bH cS (bH cO (eK (pv 0) rfl) ay (λ_ _=>rfl)) ay (λ_ _=>rfl))),?_⟩;dsimp only [Eh];have ll:=bG cT;have l0:=(aY.mp kZ).1;obtain⟨r0,Lo,p,v1,v2⟩:=Paired.at_ cT 0 cb kZ;have xC:pI (rs.map V.ref) ((0:Nat):Int)=some (.ref r0):=cW (by rw [bq,Lo];rfl);exact⟨_,rfl,g,Cg,gx,fs,_,rfl,eg,G.cls,G.a1,l1,R2,_,_,_,rfl,rfl,aG.of e1,xC,r0,_,_,_,rfl,rfl,v1,rfl,q⟩
end
def JI:List Str->Str->Nat
 | [],_=>0
 | a::r,x=>if a=x then 0 else JI r x+1
theorem wZ:∀(l:List Str)(x:Str),x∈l->l[JI l x]?=some x
 | [],x,h=>by cases h
 | a::r,x,h=>by
  unfold JI;by_cases c:a=x
  .rw [az c];exact congrArg some c
  rw [aA c];rcases bN.mp h with e | e
  .exact absurd e.symm c
  rw [List.getElem?_cons_succ];exact wZ r x e
theorem sR:∀(l:List Str)(x:Str) (i:Nat),x∈l.take i->JI l x < i
 | [],x,i,h=>by simp at h
 | a::r,x,0,h=>by simp at h
 | a::r,x,i+1,h=>by
  unfold JI;by_cases c:a=x
  .rw [az c];omega
  rw [aA c];rw [List.take_succ_cons] at h;rcases bN.mp h with e | e
  .exact absurd e.symm c
  have:=sR r x i e;omega
def Bp {l:List Str}{x:Str}{i:Nat}(h:x∈l.take i):∃j,j < i/\l[j]?=some x:=by
 obtain⟨j,hj⟩:=fA h;have lj:=(aY.mp hj).1;rw [dA] at lj;rw [pX ∅] at hj;exact⟨j,∅,hj⟩
def Cp {aa:List av}{ru:av}(h:ru∈aa):ru.1∈hd aa:=(eX _ _ _).mpr (.inr (i7 h))
def RQ {aa:List av}{x:Str}(h:Em aa x):x∈hd aa:=by
 cases h with
 | mk h _=>exact Cp h
def tI {aa:List av}{aP:List (Str×Nat)}(h:qC aa aP):∀y∈aP.map (·.1),Em aa y:=by
 induction h with
 | nil=>intro y hy;cases hy
 | @snoc aP k ru _ e _ p ih =>
  intro y hy;rw [bD] at hy;rcases bZ.mp hy with h | h
  .exact ih y h
  rw [cJ.mp h];exact .mk (cD e) λq hq=>ih q (p q hq)
def yI {b:Str->Bool}{zs:List Str}{i j:Nat}{x:Str}(h:wY b zs j=true)(e:zs[i]?=some x)(n:i≠j):b x=true:=by
 cases hb:b x with
 | true=>rfl
 | false =>
  have li:=(aY.mp e).1;have m:((i:Nat):Int)∈zH b zs zs.length:=by
   unfold zH;exact cN.mpr ⟨i,eB.mpr ⟨jT.mpr li,by rw [e];show (!(b x))=true;rw [hb];rfl⟩,rfl⟩
  unfold wY at h;rcases Bool.or_eq_true_iff.mp h with h | h
  .rw [<-dY h] at m;cases m
  rw [<-dY h] at m;have:=cJ.mp m;omega
theorem Bt {f:Str->Int}{c:Int}:∀(ps:List Str),(∀x∈ps,f x<=c)->(ps.map f).sum<=ps.length * c
 | [],_=>by simp
 | p::r,h=>by
  have h1:=Bt r λx hx=>h x (bS _ hx);have h2:=h p bO;rw [bL,jr,eC];have:((r.length+1:Nat):Int) * c=(r.length:Int) * c+c:=by rw [Int.natCast_add,Int.add_mul];omega
  omega
structure Sx (aa:List av) (ns E M Pl:List Str):Prop where
 n3:ns.length<=3
 pF:∀ru∈aa,ru.1∈ns
 p3:∀ru∈aa,ru.2.length<=3
 eN:E.Nodup
 eNs:∀x∈E,x∈ns
 eO:∀(i:Nat)(h:Str),E[i]?=some h->∃dU,(h,dU)∈aa/\∀p∈dU,p∈E.take i\/p∉hd aa
 eA:∀h∈hd aa,h∈E
 mO:∀(i:Nat)(h:Str),M[i]?=some h->(∃cb,aa[0]?=some cb/\h=cb.1)\/∃ru∈aa,ru.1∈M.take i/\h∈ru.2
 mA:∀h∈hd aa,h∈M
 lN:Pl.Nodup
 lNs:∀x∈Pl,x∈ns
 lO:∀(i:Nat)(h:Str),Pl[i]?=some h->∀ru∈aa,ru.1=h->∀(j:Nat)(z:Str),ru.2[j]?=some z->z∈hd aa->(∀(k:Nat)(y:Str),k≠j->ru.2[k]?=some y->Em aa y)->z∈Pl.take i
 lA:∀h∈hd aa,h∈Pl
def b3:Nat->Int
 | 0=>1
 | 1=>4
 | _=>13
def c3:Nat->Int
 | 0=>0
 | 1=>1
 | _=>4
def Lx {i j:Nat}(hi:i < 3)(h:j < i):b3 j<=c3 i:=by
 have:∀i:Nat,i < 3->∀j:Nat,j < i->b3 j<=c3 i:=by decide
 exact this i hi j h
def Sb {i:Nat}:1+3 * c3 i=b3 i:=by
 match i with
 | 0=>rfl
 | 1=>rfl
 | _+2=>rfl
def Lu {i:Nat}:0<=c3 i:=by
 match i with
 | 0=>decide
 | 1=>decide
 | _+2=>exact(by decide:(0:Int)<=4)
def HU {i:Nat}:0<=b3 i/\b3 i<=60:=by
 match i with
 | 0=>decide
 | 1=>decide
 | _+2=>exact(by decide:(0:Int)<=13/\(13:Int)<=60)
def KP {f:Str->Int}{i:Nat}{ps:List Str}(h3:ps.length<=3)(h:∀x∈ps,f x<=c3 i):1+(ps.map f).sum<=b3 i:=by
 have h1:=Bt ps h;have h2:(ps.length:Int) * c3 i<=3 * c3 i:=Int.mul_le_mul_of_nonneg_right ∅ Lu;have:=@Sb i;omega
def bP (Pl:List Str)(x:Str):Int:=if x∈Pl then b3 (JI Pl x) else 0
def Sx.good {aa:List av}{ns E M Pl:List Str}(O:Sx aa ns E M Pl):Good aa (JI Pl) (bP Pl) where
 least g st se:=by
  have le3:E.length<=3:=cQ (fq E ns O.eN O.eNs) O.n3;have cf:∀x,x∉hd aa->∀ru∈aa,x∈ru.2->g x=some 0:=by
   intro x nn ru fK hm;refine cH.keep (J:=λg=>g x=some 0) (λg Th j h2 _=>?_) st ?_
   .show dq g Th.1 _ x=some 0;unfold dq;have:x≠Th.1:=λz=>nn (z ▸ Cp h2);rw [aA this];exact j
   show lH aa x=some 0;unfold lH;rw [az (qE _ _ _ _ (.inr ⟨oY.mpr ⟨ru,fK,hm⟩,nn⟩))]
  have key:∀(n i:Nat),i < n->∀h:Str,E[i]?=some h->∃m,g h=some m/\m<=b3 i:=by
   intro n
   induction n with
   | zero=>intro i hi;omega
   | succ n ih =>
    intro i hi h e;have li:=(aY.mp e).1;obtain⟨ps,hm,hp⟩:=O.eO i h e;have hv:∀p∈ps,∃m,g p=some m/\m<=c3 i:=λp ZS=>by
     rcases hp p ZS with h1 | h1
     .obtain⟨j,lj,ej⟩:=Bp h1;obtain⟨m,e1,e2⟩:=ih j ∅ p ej;exact⟨m,e1,Int.le_trans e2 (Lx ∅ lj)⟩
     exact⟨0,cf p h1 _ hm ZS,Lu⟩
    have hs:=se _ hm;unfold bV at hs;have a1:jl g (h,ps)=true:=fO.mpr λp hp=>by obtain⟨m,e1,_⟩:=hv p hp;show (g p).isSome=true;rw [e1];rfl
    have s0:aM g (h,ps)<=b3 i:=by
     unfold aM;exact KP (O.p3 _ hm) λp hp=>by obtain⟨m,e1,e2⟩:=hv p hp;show (g p).getD 0<=_;rw [e1];exact e2
    rw [a1,rb] at hs;cases gn:g h with
    | none=>rw [show g (h,ps).1=none from gn] at hs;cases hs
    | some m =>
     rw [show g (h,ps).1=some m from gn] at hs;refine⟨m,rfl,?_⟩;have:¬aM g (h,ps) < m:=by simpa [M11.bl] using hs
     omega
  intro h hh;obtain⟨i,hi⟩:=fA (O.eA h hh);obtain⟨m,e1,e2⟩:=key (i+1) i ∅ h hi;exact⟨m,e1,Int.le_trans e2 HU.2⟩
 met cb ms e0 h0 mc:=by
  have key:∀(n i:Nat),i < n->∀h:Str,M[i]?=some h->h∈ms:=by
   intro n
   induction n with
   | zero=>intro i hi;omega
   | succ n ih =>
    intro i hi h e;rcases O.mO i h e with ⟨r0,e1,e2⟩ | ⟨ru,fK,h1,h2⟩
    .rw [e0] at e1;cases e1;rw [e2];exact h0
    obtain⟨j,lj,ej⟩:=Bp h1;exact mc ru (by rw [cE];exact fK) (ih j ∅ _ ej) h h2
  intro h hh;obtain⟨i,hi⟩:=fA (O.mA h hh);exact key (i+1) i ∅ h hi
 loop:=by
  rintro aP emp A7 n k j ⟨cb,z0,e1,e2,e3,e4,e5⟩ ru z er ez;rw [er] at e1;obtain rfl:ru=cb:=ib e1;rw [ez] at e3;obtain rfl:z=z0:=ib e3;have fK:=cD er;have hn:n∈Pl:=O.lA n (e2 ▸ Cp fK);refine sR Pl z _ (O.lO _ n (wZ Pl n hn) ru fK e2 j z ez e4 λk' y nk ey=>?_);have:=yI e5 ey nk;exact tI emp y (dY this)
 Sd:=by
  refine⟨λz=>?_,λru fK Z4=>?_⟩
  .unfold bP
   split
   .exact HU.1
   decide
  have hn:ru.1∈Pl:=O.lA _ (Cp fK);have li:=(aY.mp (wZ Pl ru.1 hn)).1;have le3:Pl.length<=3:=cQ (fq Pl ns O.lN O.lNs) O.n3;have e:bP Pl ru.1=b3 (JI Pl ru.1):=az hn;rw [e];refine KP (O.p3 ru fK) λp hp=>?_;obtain⟨j,ej⟩:=fA hp;have ht:=O.lO _ ru.1 (wZ Pl ru.1 hn) ru fK rfl j p ej (RQ (Z4 p hp)) λk' y _ ey=>Z4 y (cD ey);have e2:bP Pl p=b3 (JI Pl p):=az (pV ht);rw [e2];exact Lx ∅ (sR Pl p _ ht)
 most h hh:=by
  unfold bP
  split
  .exact HU.2
  decide
end fY
namespace M11
open PySem
def dH (cf:Bool) (aW e:List Str)(ru:av):List Str:=if ((ru.2.all λp=>decide (p∈e) || (cf && !decide (p∈aW))) && !decide (ru.1∈e))=true then e++[ru.1] else e
def lX (cf:Bool) (aW e:List Str)(aa:List av):List Str:=aa.foldl (dH cf aW) e
def passes {α:Type}(f:α->α):Nat->α->α
 | 0,a=>a
 | n+1,a=>f (passes f n a)
structure EO (cf:Bool) (aW:List Str)(aa:List av) (e:List Str):Prop where
 nd:e.Nodup
 ord:∀(i:Nat)(h:Str),e[i]?=some h->∃dU,(h,dU)∈aa/\∀p∈dU,p∈e.take i\/(cf=true/\p∉aW)
def EO.step {cf:Bool}{aW:List Str}{aa:List av}{e:List Str}(h:EO cf aW aa e){ru:av}(hr:ru∈aa):EO cf aW aa (dH cf aW e ru):=by
 unfold dH
 split
 .rename_i c
  obtain⟨c1,c2⟩:=lQ.mp c;have c2':ru.1∉e:=by simpa using c2
  refine⟨lL.mpr ⟨h.nd,by simp,λa ha b hb z=>c2' (by rw [<-cJ.mp hb,<-z];exact ha)⟩,λi x hx=>?_⟩;by_cases l:i < e.length
  .rw [jZ l] at hx;obtain⟨dU,a,b⟩:=h.ord i x hx;refine⟨dU,a,λp hp=>?_⟩;rw [uw ∅];exact b p hp
  have li:=(aY.mp hx).1;rw [cu,pW] at li;have:i=e.length:=by omega
  subst this;rw [pY (aH _),Nat.sub_self] at hx;cases hx;refine⟨ru.2,hr,λp hp=>?_⟩;rw [uw (aH _),cE];have:=fO.mp c1 p hp;simp only [Bool.or_eq_true,decide_eq_true_eq,iH,rC,decide_eq_false_iff_not] at this;exact this
 exact h
theorem EO.pass {cf:Bool}{aW:List Str}{aa:List av}:∀(rs:List av){e:List Str},(∀ru∈rs,ru∈aa)->EO cf aW aa e->EO cf aW aa (rs.foldl (dH cf aW) e)
 | [],_,_,h=>h
 | ru::rs,_,hs,h=>EO.pass rs (λr hr=>hs r (bS _ hr)) (h.step (hs ru bO))
def uD (cf:Bool) (aW e:List Str)(ru:av):dH cf aW e ru=e\/e.length < (dH cf aW e ru).length:=by
 unfold dH
 split
 .right;simp
 left;rfl
theorem yR (cf:Bool) (aW:List Str):∀(rs:List av) (e:List Str),e.length<=(rs.foldl (dH cf aW) e).length
 | [],_=>aH _
 | ru::rs,e=>by
  have h1:=yR cf aW rs (dH cf aW e ru);have h2:=uD cf aW e ru;show _<=(rs.foldl (dH cf aW) (dH cf aW e ru)).length;rcases h2 with h | h
  .rw [h] at h1 ⊢;exact h1
  omega
theorem kM (cf:Bool) (aW:List Str):∀(rs:List av) (e:List Str),(rs.foldl (dH cf aW) e=e/\∀ru∈rs,dH cf aW e ru=e)\/e.length < (rs.foldl (dH cf aW) e).length
 | [],_=>.inl ⟨rfl,λ_ h=>by cases h⟩
 | ru::rs,e=>by
  show (rs.foldl (dH cf aW) (dH cf aW e ru)=e/\_)\/_ < (rs.foldl (dH cf aW) (dH cf aW e ru)).length;rcases uD cf aW e ru with h | h
  .rw [h];rcases kM cf aW rs e with ⟨a,b⟩ | c
   .refine .inl ⟨a,λr hr=>?_⟩;rcases bN.mp hr with rfl | hr
    .exact h
    exact b r hr
   exact .inr c
  right;have:=yR cf aW rs (dH cf aW e ru);omega
theorem d8:∀(l m:List Str),l.Nodup->(∀z∈l,z∈m)->l.length<=m.length
 | [],m,_,_=>gI _
 | x::r,m,hn,hs=>by
  have hx:=hs x bO;have DU:=jV.mp hn;have:=d8 r (m.erase x) DU.2 λz hz=>(List.mem_erase_of_ne (λe=>DU.1 (by rw [<-e];exact hz))).mpr (hs z (bS _ hz));rw [zM hx] at this;have:0 < m.length:=vW hx;rw [eC];omega
def EO.sub {cf:Bool}{aW:List Str}{aa:List av}{e:List Str}(h:EO cf aW aa e):∀x∈e,x∈aa.map (·.1):=λx hx=>by
 obtain⟨i,hi⟩:=fA hx;obtain⟨dU,a,_⟩:=h.ord i x hi;exact cN.mpr ⟨_,a,rfl⟩
end M11
namespace fY
open PySem L2 M11
def rX {bt:Int->Int->Bool}{aa:List av}{g0 g:G}(e:g0=lH aa)(st:cH bt aa g0 g){z:Str}(hz:(lH aa z).isSome=true):g z=some 0:=by
 have hw:z∈rQ (hd aa) [] (aa.flatMap (·.2)):=by
  unfold lH at hz
  split at hz
  .assumption
  cases hz
 have nh:=qD (hd aa) _ [] (λ_ y=>by cases y) z hw
 induction st with
 | refl =>
  rw [e];unfold lH;rw [az hw]
 | @step g1 ru UZ fK fr ih =>
  unfold dq;rw [aA]
  .exact ih
  intro y;apply nh;rw [y];show ru.1∈m_ [] (aa.map (·.1));rw [eX];exact .inr (cN.mpr ⟨ru,fK,rfl⟩)
def JF {aa:List av}(h3:∀ru∈aa,ru.2.length<=3){A:List Str}(hA:A.length<=4)(hh:∀ru∈aa,ru.1∈A):∀g,cH M11.bl aa (lH aa) g->dJ M11.bl aa g->∀h n,g h=some n->h∈hd aa->n<=60:=λg st se h n en hm=>by
 obtain⟨L,F⟩:=C8 rfl st;have ll:L.length<=4:=cQ (d8 L A F.nd λz hz=>by obtain⟨ru,hr,e⟩:=F.hd z hz;rw [<-e];exact hh ru hr) hA;rcases F.all h (by rw [en];rfl) with q | q
 .have:=rX rfl st q;rw [en] at this;cases this
  decide
 obtain⟨i,hi⟩:=fA q;have li:=(aY.mp hi).1;have b:=uV F se h3 (λz hz=>rX rfl st hz) (i+1) i h ∅ hi n en;have:B3 i<=B3 3:=CZ ∅;have e3:B3 3=40:=rfl;omega
theorem A8 {aa:List av}:∀(n:Nat)(aP:List (Str×Nat)),qC aa aP->(hd aa).length<=aP.length+n->∃Kc,qC aa Kc/\nj aa aa.length Kc
 | n,aP,h,l=>by
  by_cases c:nj aa aa.length aP
  .exact⟨aP,h,c⟩
  unfold nj at c;obtain⟨ru,c⟩:=vR.mp c;obtain⟨hr,c⟩:=vR.mp c;obtain⟨hp,hn⟩:=vR.mp c;rw [cE] at hr;obtain⟨k,hk⟩:=fA hr;have h2:=qC.snoc h hk hn hp;have l2:(aP++[(ru.1,k)]).length<=(hd aa).length:=by
   have:=d8 _ (hd aa) h2.nd λz hz=>by
    have e:=tI h2 z hz;cases e with
    | mk fK _ =>
     show _∈m_ [] (aa.map (·.1));rw [eX];exact .inr (cN.mpr ⟨_,fK,rfl⟩)
   rw [aB] at this;exact this
  rw [cu,pW] at l2;cases n with
  | zero=>omega
  | succ n=>exact A8 n _ h2 (by rw [cu,pW];omega)
def BY (A:List Str)(rk:Str->Nat)(z:Str):Nat:=(A.filter λh=>decide (rk h < rk z)).length
theorem k_ {α:Type}{p q:α->Bool}(pq:∀x,p x=true->q x=true):∀{l:List α}{x:α},x∈l->q x=true->p x=false->(l.filter p).length < (l.filter q).length
 | y::r,x,h,hq,hp=>by
  have le:∀l:List α,(l.filter p).length<=(l.filter q).length:=λl=>by
   induction l with
   | nil=>exact aH _
   | cons a t ih =>
    rw [lK,lK];cases ca:p a with
    | true=>rw [pq a ca];simpa using ih
    | false=>cases q a <;> simp <;> omega
  rw [lK,lK];rcases bN.mp h with e | e
  .rw [<-e,hq,hp];have:=le r;simp;omega
  have ih:=k_ pq e hq hp;cases ca:p y with
  | true=>rw [pq y ca];simpa using ih
  | false=>cases q y <;> simp <;> omega
def FU {A:List Str}{rk:Str->Nat}{p h:Str}(hp:p∈A)(l:rk p < rk h):BY A rk p < BY A rk h :=
 k_ (λx hx=>cw (j6 (dY hx) l)) hp (cw l) (dO (i5 _))
def Jc {A:List Str}{rk:Str->Nat}{h:Str}(hh:h∈A):BY A rk h < A.length:=by
 have:=k_ (p:=λx=>decide (rk x < rk h)) (q:=λ_=>true) (λ_ _=>rfl) hh rfl (dO (i5 _));have e:A.filter (λ_=>true)=A:=List.filter_eq_self.mpr λ_ _=>rfl;rw [e] at this;exact this
def NU {aa:List av}{z:Str}(e:Em aa z):z∈hd aa:=by
 cases e with
 | mk hr _ =>
  show _∈m_ [] (aa.map (·.1));rw [eX];exact .inr (cN.mpr ⟨_,hr,rfl⟩)
def xq {aa:List av}{aP:List (Str×Nat)}(ec:nj aa aa.length aP){z:Str}(e:Em aa z):z∈aP.map (·.1):=by
 induction e with
 | mk hr _ ih=>exact ec _ (by rw [cE];exact hr) ih
def GX {b:Str->Bool}{zs:List Str}(h:∀z∈zs,b z=true) (j:Nat):wY b zs j=true:=by
 have e:zH b zs zs.length=[]:=by
  unfold zH;rw [List.map_eq_nil_iff,rK];intro i hi;have li:=jT.mp hi;rw [c_ li];show ¬(!b (zs[i]'li))=true;rw [h _ (rq _)]
  decide
 unfold wY;rw [e];rfl
open Classical in
def JY {aa:List av}(h3:∀ru∈aa,ru.2.length<=3){A:List Str}(hA:A.length<=4)(hh:∀ru∈aa,ru.1∈A)(rk:Str->Nat)(nl:hX aa rk):∃b,tY aa b/\∀h∈hd aa,b h<=60:=by
 obtain⟨aP,em,ec⟩:=A8 (aa:=aa) (hd aa).length [] .nil (by simp);have Xx:∀{z:Str},Em aa z->z∈A:=λe=>by
  cases e with
  | mk hr _=>exact hh _ hr
 have b0:∀z,0<=(if Em aa z then B3 (BY A rk z) else 0):=λz=>by
  split
  .have:=pO (BY A rk z);omega
  exact iw _
 refine⟨λz=>if Em aa z then B3 (BY A rk z) else 0,⟨b0,λru fK hp=>?_⟩,λh hm=>?_⟩
 .have e1:Em aa ru.1:=.mk fK hp;obtain⟨k,hk⟩:=fA fK;have lt:∀p∈ru.2,rk p < rk ru.1:=λp kF=>by
   obtain⟨j,hj⟩:=fA kF;exact nl aP em ec ru.1 k j ⟨ru,p,hk,rfl,hj,NU (hp p kF),GX (λz hz=>cw (xq ec (hp z hz))) j⟩ ru p hk hj
  show 1+(ru.2.map λz=>if Em aa z then B3 (BY A rk z) else 0).sum<=if Em aa ru.1 then B3 (BY A rk ru.1) else 0;rw [az e1];cases hr:BY A rk ru.1 with
  | zero =>
   have:ru.2=[]:=List.eq_nil_iff_forall_not_mem.mpr λp kF=>by
    have:=FU (Xx (hp p kF)) (lt p kF);omega
   rw [this];exact iw _
  | succ r =>
   have s:=qF (λz=>some (if Em aa z then B3 (BY A rk z) else 0)) (B3 r) (by have:=pO r;omega) ru.2 3 (h3 ru fK) λp kF=>by
    show (if Em aa p then B3 (BY A rk p) else 0)<=B3 r;rw [az (hp p kF)];have:=FU (Xx (hp p kF)) (lt p kF);exact CZ ∅
   have s2:(ru.2.map λz=>if Em aa z then B3 (BY A rk z) else 0).sum<=3 * B3 r:=s;show _<=1+3 * B3 r;omega
 show (if Em aa h then B3 (BY A rk h) else 0)<=60
 split
 .rename_i e
  have:=Jc (rk:=rk) (Xx e);have u:B3 (BY A rk h)<=B3 3:=CZ ∅;have e3:B3 3=40:=rfl;omega
 decide
def Ko {aa:List av}(h3:∀ru∈aa,ru.2.length<=3){A:List Str}(hA:A.length<=4)(hh:∀ru∈aa,ru.1∈A):EE aa:=⟨JF h3 hA hh,λrk nl=>JY h3 hA hh rk nl⟩
end fY
namespace L2
open PySem PySem.Spec PyProof.Rows
section
variable {prog:Program}{w:World}{A:Around}{R:Result->Shared->Prop}{I:Addr}{fp wr:List Addr}{n:Nat}{P:Nat->Value->Prop}{St:Nat->Heap->Prop}
def Sub (h0 h:Heap):Prop:=∀b o,h0.get? b=some o->h.get? b=some o
def Bi (prog:Program)(w:World)(A:Around)(h0:Heap)(P:Nat->Value->Prop)(ns:Nat->Int):Prop:=∀i v (s:Shared)(Q:Value->Shared->Prop)(E:Value->Shared->Prop),P i v->Sub h0 s.heap->(∀tk tk',Q (.int (ns i) tk') { s with toks:=tk })->wpAny (model prog w) A (call (.builtin "len") [v]) Q E s
def N6 {A:Around}{a b:Int}{t u:Tok}{s:Shared}{Q:Value->Shared->Prop}{E:Value->Shared->Prop}(h:Q (.bool (decide (a < b))) s):wpAny (model prog w) A (richCompare .Lt (.int a t) (.int b u)) Q E s :=
 CmpOf.ints_lt (P:=λi v=>∃t,v=.int (if i=0 then a else b) t) (λi=>if i=0 then a else b) (λi v z=>z) 0 1 _ _ s Q E ⟨t,rfl⟩ ⟨u,rfl⟩ h
def DG {h0:Heap}{dv:Value}(W:Walks prog w A.in1 I fp wr n P St)(ns:Nat->Int)(hk:Bi prog w A.in1 h0 P ns)(S:Addr)(ON:S∉fp)(QQ:∀b∈wr,h0.get? b=none)(Li:h0.get? S=none) :
  ∀(k j:Nat)(s:Shared)(vb:Value)(tb:Tok) (c:Nat),n - (j+1)=k->j+1<=n->St (j+1) s.heap->P (argBest (λi j=>decide (ns i < ns j)) j) vb->Sub h0 s.heap ->
  s.heap.get? S=some { cls:=.type "list",dict:=none,data:=.seq #[vb,.int (ns (argBest (λi j=>decide (ns i < ns j)) j)) tb] c,slots:=#[] } ->
  (∀v h' tk,P (argBest (λi j=>decide (ns i < ns j)) (n - 1)) v->Sub h0 h'->R (.ok (.ret v)) { s with heap:=h',toks:=tk }) ->
  codeAny (model prog w) A (.builtin "min.loop" ⟨[.ref I,.builtin "len",.ref S],[("default",dv)]⟩) R s:=by
 have TU:S∉wr:=λh=>ON (W.sub _ h);have l_:(toString "min" ++ toString ".loop":String) = "min.loop" := by decide
 intro k
 induction k with
 | zero =>
  intro j s vb tb c hk0 hj jF Xd DS hS hR;have EK:j+1=n:=by omega
  refine j9 F.entry_min_loop ?_;rw [pS nu _];show wpAny _ A.in1 (seqItems? (.ref S) >>= _) _ _ s;refine ax (j8 hS rfl ?_);show wpAny _ A.in1 (tryCatch (pyNext (.ref I)) _ >>= _) _ _ s;refine ax (jt (W.done s _ _ (EK ▸ jF) λh' tk Ld=>?_));have Lj:=Ld S _ TU hS;show wpAny _ A.in1 (updateSeq S (λ_=>#[]) >>= _) _ _ _;refine ax ?_;refine wpAny_updateSeq Lj rfl (ax (wpAny_letGo (aI ?_)));refine hR vb _ tk (by rw [<-EK];exact Xd) λb o e=>(gK _ _ (λz:S=b=>by rw [z,e] at Li;cases Li)).trans (Ld b o (λz=>by rw [QQ b z] at e;cases e) (DS b o e))
 | succ k ih =>
  intro j s vb tb c hk0 hj jF Xd DS hS hR;have iF:j+1 < n:=by omega
  refine j9 F.entry_min_loop ?_;rw [pS nu _];show wpAny _ A.in1 (seqItems? (.ref S) >>= _) _ _ s;refine ax (j8 hS rfl ?_);show wpAny _ A.in1 (tryCatch (pyNext (.ref I)) _ >>= _) _ _ s;refine ax (jt (W.item (j+1) s _ _ iF jF λv h' tk hP JK Ld=>?_));have Lj:=Ld S _ TU hS;have u5:Sub h0 h':=λb o e=>Ld b o (λz=>by rw [QQ b z] at e;cases e) (DS b o e);show wpAny _ A.in1 (tryCatch (holding [v] (call (.builtin "len") [v])) _ >>= _) _ _ _;refine ax (jt (gi (hk (j+1) v _ _ _ hP u5 λtk1 tv=>?_)));show wpAny _ A.in1 (tryCatch (holding [v,.int (ns (j+1)) tv] (richCompare .Lt (.int (ns (j+1)) tv) (.int (ns (argBest (λi j=>decide (ns i < ns j)) j)) tb) >>= _)) _ >>= _) _ _ _;refine ax (jt (gi (ax (N6 ?_))));refine ax (gi (nA ?_));refine ax (wpAny_letGo (aI ?_));cases hb:decide (ns (j+1) < ns (argBest (λi j=>decide (ns i < ns j)) j)) with
  | true =>
   have ea:argBest (λi j=>decide (ns i < ns j)) (j+1)=j+1:=by simp only [argBest,hb,if_true]
   simp only [if_true];refine ax ?_;refine wpAny_updateSeq Lj rfl (ax (wpAny_letGo ?_));rw [l_];refine aI ⟨iT nu _,ih (j+1) _ v tv _ ∅ iF (W.frame _ _ _ JK λb W6 o e=>?_) (by rw [ea];exact hP) (λb o e=>?_) (by rw [ea];exact lR _ Lj rfl)
    λv' RI Fb RC Hf=>?_⟩
   .exact(gK _ _ (λh:S=b=>ON (by rw [h];exact W6))).trans e
   .exact(gK _ _ (λz:S=b=>by rw [z,e] at Li;cases Li)).trans (u5 b o e)
   exact hR v' RI Fb RC Hf
  | false =>
   have ea:argBest (λi j=>decide (ns i < ns j)) (j+1)=argBest (λi j=>decide (ns i < ns j)) j:=by simp only [argBest,hb,Bool.false_eq_true,if_false]
   simp only [Bool.false_eq_true,if_false];refine ax (wpAny_letGo ?_);rw [l_];refine aI ⟨iT nu _,ih (j+1) _ vb tb c ∅ iF JK (by rw [ea];exact Xd) u5 (by rw [ea];exact Lj) λv' RI Fb RC Hf=>?_⟩;exact hR v' RI Fb RC Hf
def DI {h0:Heap}{dv:Value}(W:Walks prog w A.in1 I fp wr n P St)(ns:Nat->Int)(hk:Bi prog w A.in1 h0 P ns)(S:Addr)(ON:S∉fp)(QQ:∀b∈wr,h0.get? b=none)(Li:h0.get? S=none)(hn:0 < n){s:Shared}{c:Nat}(jF:St 0 s.heap)(DS:Sub h0 s.heap)
  (hS:s.heap.get? S=some { cls:=.type "list",dict:=none,data:=.seq #[] c,slots:=#[] })
  (hR:∀v h' tk,P (argBest (λi j=>decide (ns i < ns j)) (n - 1)) v->Sub h0 h'->R (.ok (.ret v)) { s with heap:=h',toks:=tk }) :
  codeAny (model prog w) A (.builtin "min.loop" ⟨[.ref I,.builtin "len",.ref S],[("default",dv)]⟩) R s:=by
 have TU:S∉wr:=λh=>ON (W.sub _ h);have l_:(toString "min" ++ toString ".loop":String) = "min.loop" := by decide
 refine j9 F.entry_min_loop ?_;rw [pS nu _];show wpAny _ A.in1 (seqItems? (.ref S) >>= _) _ _ s;refine ax (j8 hS rfl ?_);show wpAny _ A.in1 (tryCatch (pyNext (.ref I)) _ >>= _) _ _ s;refine ax (jt (W.item 0 s _ _ hn jF λv h' tk hP JK Ld=>?_));have Lj:=Ld S _ TU hS;have u5:Sub h0 h':=λb o e=>Ld b o (λz=>by rw [QQ b z] at e;cases e) (DS b o e);show wpAny _ A.in1 (tryCatch (holding [v] (call (.builtin "len") [v])) _ >>= _) _ _ _;refine ax (jt (gi (hk 0 v _ _ _ hP u5 λtk1 tv=>?_)));show wpAny _ A.in1 (updateSeq S (λ_=>#[v,.int (ns 0) tv]) >>= _) _ _ _;refine ax ?_;refine wpAny_updateSeq Lj rfl ?_;rw [l_];refine aI ⟨iT nu _,DG W ns hk S ON QQ Li _ 0 _ v tv _ rfl hn (W.frame _ _ _ JK λb W6 o e=>?_) hP (λb o e=>?_) (lR _ Lj rfl) λv' RI Fb RC Hf=>?_⟩
 .exact(gK _ _ (λh:S=b=>ON (by rw [h];exact W6))).trans e
 .exact(gK _ _ (λz:S=b=>by rw [z,e] at Li;cases Li)).trans (u5 b o e)
 exact hR v' RI Fb RC Hf
end
section
variable {prog:Program}{w:World}{A:Around}{E:Value->Shared->Prop}{s:Shared}
def xx {l:Addr}{items:Array Value}{dv:Value}{ns:Nat->Int}{Q:Value->Shared->Prop}(hh:A.handled=none)(hl:s.heap.IsList l items)(hk:Bi prog w A.in1 s.heap (λi v=>items[i]?=some v) ns)(hn:0 < items.size)
  (h:∀v h' tk,items[argBest (λi j=>decide (ns i < ns j)) (items.size - 1)]?=some v->Sub s.heap h'->Q v { s with heap:=h',toks:=tk }) :
  wpAny (model prog w) A (call (.builtin "min") [.ref l] [("key",.builtin "len"),("default",dv)]) Q E s:=by
 have l_:(toString "min" ++ toString ".loop":String) = "min.loop" := by decide
 refine h_ (pT F.plain_min F.entry_min ?_);have core:wpAny (model prog w) A.in1 (Builtin.«min» ⟨[.ref l],[("key",.builtin "len"),("default",dv)]⟩) (λfin s'=>match fin with
   | .done f=>(match (Except.ok f:Result) with | .ok (.ret v)=>Q v s' | .ok _=>False | .error e=>E e s')
   | .again c'=>c'.quiet=true/\codeAny (model prog w) A c' (λr s'=>match r with | .ok (.ret v)=>Q v s' | .ok _=>False | .error e=>E e s') s') E s:=by
  show wpAny _ A.in1 (Builtin.Builtins.bindParams "min" ["key","default"] 0 ⟨[],[("key",.builtin "len"),("default",dv)]⟩ >>= _) _ _ s;refine ax (wpAny_of_eq (show Builtin.Builtins.bindParams "min" ["key","default"] 0 ⟨[],[("key",.builtin "len"),("default",dv)]⟩=pure [some (.builtin "len"),some dv] from rfl) ?_);refine ax (aI ?_);refine ax (pP hl ?_);refine ax (jW ?_);rw [l_];obtain⟨ol,h1,h2⟩:=id hl;have Zw:=aO h1;have nz:∀{h:Heap}{a:Addr},h.objs.size<=a->h.get? a=none:=λ{h a} le=>by
   cases e:h.get? a with
   | none=>rfl
   | some o=>exact absurd (aO e) (Nat.not_lt.mpr le)
  have Y7:∀(h:Heap)(o:Obj),(h.push o).objs.size=h.objs.size+1:=λh o=>by simp [Heap.push]
  refine aI ⟨iT nu _,DI (Walks.list (show A.in1.handled=none from hh) s.heap.objs.size l (bw Zw) items) ns hk _ ?_ ?_ ?_ hn ⟨?_,?_⟩ ?_ (cZ _ rfl) λv h' tk hP hs=>h v h' tk hP hs⟩
  .intro z;rw [Y7] at z;rcases bN.mp z with e | e
   .exact absurd e (Nat.succ_ne_self _)
   have:=cJ.mp e;have t2:s.heap.objs.size+1=l:=this;exact Nat.not_lt.mpr (iG _) (show s.heap.objs.size+1 < s.heap.objs.size by rw [t2];exact Zw)
  .intro b hb;rw [cJ.mp hb];exact nz (aH _)
  .exact nz (by rw [Y7];omega)
  .exact⟨_,bu _ (cZ _ rfl),rfl,rfl⟩
  .exact⟨ol,bu _ (bu _ h1),h2⟩
  exact λb o e=>bu _ (bu _ e)
 simp only [checkBuiltinCall,F.kind_min];cases Nb:Manifest.signature? "min" with
 | none=>exact aI core
 | some sig =>
  have W8:Bind.checkArgs "min" sig ⟨[.ref l],[("key",.builtin "len"),("default",dv)]⟩=pure ():=by have:=qi (.ref l) (.builtin "len") dv;simpa only [argsOk,Nb] using this
  simp only [W8];exact aI core
end
def sP (t_:List (List V)) (i:Nat):Int:=((t_[i]?.getD []).length:Int)
def HS (t_:List (List V)):Nat:=argBest (λi j=>decide (sP t_ i < sP t_ j)) (t_.length - 1)
def Pj (K:aR)(t:TA)(td:TE):TE:=λσ H Q=>t σ H λvs H1=>td σ H1 λdv H2=>∃a ls t_,vs=[.ref a]/\aG K H2 a (ls.map V.ref)/\Paired (λl xs=>aG K H2 l xs) ls t_/\(ls=[]->Q dv H2)/\∀l,ls[HS t_]?=some l->Q (.ref l) H2
def Jj {X:Cx}{p pos lp V9 G3:Pos}{e e2:Expr}{t:TA}{td:TE}(hc:X.calm=true)(hg:Gl X "min")(hm:X.mg "min"=none)(WO:Gl X "len")(hm2:X.mg "len"=none)(ha:PA X [e] t)(hd:PE X e2 td)
  (he:backTo pos (starEach [e] X.env)=(false,eval e X.env)::backTo pos (starEach [] X.env):=by rfl)(hp:(backTo pos (starEach [e] X.env)).any (·.1)=false:=by rfl) :
  PE X (.Call (.Name "min" p) [e] [⟨some "key",.Name "len" lp,V9⟩,⟨some "default",e2,G3⟩] pos) (Pj X.K t td):=by
 intro ag s σ H Q I h;refine lP (jE I hg hm boot_min ?_);refine callWith_kw (cK (ha pos ag s σ H _ I h) λus s1 aS=>?_) he hp rfl rfl;obtain⟨vs,H1,I1,r1,q1⟩:=aS;refine kws_cons (jE I1 WO hm2 jK (kws_cons (cK (hd ag s1 σ H1 _ I1 q1) λu2 s2 aS=>?_)));obtain⟨dv,H2,I2,r2,a,ls,t_,ev,hs,hx,q0,q⟩:=aS;refine kws_nil ?_;subst ev;obtain⟨u,rfl,rx⟩:=vals1 r1;cases (show u=Value.ref a from rx);obtain⟨aN,rv,pl,hz⟩:=I2.list hs;cases IA:ls with
 | nil =>
  rw [IA] at rv;cases rv;exact uj (I2.ok.hd hc) pl.isList λh' tk kk=>⟨dv,H2,I2.kept (t':=tk) kk,r2,q0 IA⟩
 | cons l0 lr =>
  have hn:=mF;have lx:=bG hx;have li:=rv.length;rw [aB] at li;have l1:0 < ls.length:=by rw [IA];simp
  refine xx (ns:=sP t_) (I2.ok.hd hc) pl.isList (λi v s3 Q3 E3 ev sub hQ=>?_) (by rw [bJ];omega) (λv h' tk ev sub=>?_)
  .replace ev:aN.toArray[i]?=some v:=ev;rw [List.getElem?_toArray] at ev;obtain⟨x,ex,rx⟩:=Paired.at_ rv _ _ ev;rw [bq] at ex;obtain⟨l,el,rfl⟩:=bR.mp ex;cases (show v=Value.ref l from rx);have lli:=(aY.mp el).1;obtain⟨xs,exs⟩:∃xs,t_[i]?=some xs:=⟨_,c_ ∅⟩;obtain⟨l',NV,zE⟩:=Paired.at_ hx i xs exs;rw [el] at NV;cases NV;obtain⟨ZH,rj,pj,hj⟩:=I2.list zE;have lj:=rj.length;refine Calls.call_len_list (items:=ZH.toArray) (pj.isList.at λo e=>sub _ o e) (by simp only [bJ] <;> omega) ?_
   have:sP t_ i=(ZH.toArray.size:Int):=by
    unfold sP;rw [exs,bJ];show (xs.length:Int)=_;omega
   rw [<-this];exact hQ _ _
  rw [bJ,List.getElem?_toArray] at ev;have eb:argBest (λi j=>decide (sP t_ i < sP t_ j)) (aN.length - 1)=HS t_:=by
   unfold HS;rw [show aN.length=t_.length by omega]
  rw [eb] at ev;obtain⟨x,ex,rx⟩:=Paired.at_ rv _ _ ev;rw [bq] at ex;obtain⟨l,el,rfl⟩:=bR.mp ex;exact⟨.ref l,H2,I2.kept (t':=tk) sub,rx,q l el⟩
end L2
namespace fY
open PySem L2 M11
section
inductive hV (aa:List av)(st:Str->List (Nat×Nat))(n:Str):Str->Prop
 | one {z:Str}:O2 aa st n z->hV aa st n z
 | more {y z:Str}:hV aa st n y->O2 aa st y z->hV aa st n z
def EW (K:aR)(H:Hp)(l:Addr) (n:Nat)(C:List (Nat×Nat)->Prop):Prop:=∃(ts:List Addr)(ps:List (Nat×Nat)),C ps/\H l=some (.lst (ts.map V.ref))/\Paired (λt (p:Nat×Nat)=>bf K H t [.int (p.1:Int),.int (p.2:Int)]) ts ps/\(∀p∈ps,p.1<=1000/\p.2<=1000)/\ts.length<=n
def Ez (K:aR)(H:Hp)(l:Addr)(C:List (Nat×Nat)->Prop):Prop:=∃(t:Addr)(ts:List Addr)(ps:List (Nat×Nat)),C ps/\H l=some (.lst ((t::ts).map V.ref))/\Paired (λt (p:Nat×Nat)=>bf K H t [.int (p.1:Int),.int (p.2:Int)]) (t::ts) ps/\(∀p∈ps,p.1<=1000/\p.2<=1000)/\ps.length<=1000
def Inn (aa:List av) (names:List Str)(st:Str->List (Nat×Nat)):Prop:=∀n∈names,∀e∈st n,∃ru z,aa[e.1]?=some ru/\ru.2[e.2]?=some z/\z∈names
def Fi (K:aR):Sp:=λvs H Q _=>∃(R d:Addr)(rs:List Addr)(aa:List av)(P9:List (Str×Addr))(st:Str->List (Nat×Nat))(name:Str),vs=[.ref R,.ref d,.str name]/\aG K H R (rs.map V.ref)/\bz K H rs aa/\aa.length<=1000/\(∀ru∈aa,ru.2.length<=8) /\
 ES K P9 st H d/\P9.length<=1000/\name∈P9.map (·.1)/\Inn aa (P9.map (·.1)) st/\∀(D:Addr)(H':Hp),H D=none->aD H H'->(¬hV aa st name name->H' D=some (.lst [])->Q (.ref D) H')/\(Ez K H' D (λps=>xI aa st name ps name/\ps.length<=(P9.map (·.1)).length)->Q (.ref D) H')
structure Kt (K:aR)(Ch:List (Nat×Nat)->Str->Prop) (names:List Str)(name:Str)(H H5:Hp)(D m:Addr)(iZ:List Addr)(gR:List (Str×Addr)) (ms:List Str)(kvs:List (aK×V)):Prop where
 sm:aD H H5
 hD:H5 D=some (.lst (iZ.map V.ref))
 hm:H5 m=some (.dK kvs)
 keys:kvs.map (·.1)=ms.map Sum.inr
 nd:(name::ms).Nodup
 sub:∀x∈name::ms,x∈names
 wl:gR.map (·.1)=name::ms
 wv:Paired (λt (e:Str×Addr)=>bf K H5 t [.str e.1,.ref e.2]) iZ gR
 we:∀i e,gR[i]?=some e->EW K H5 e.2 i (λps=>Ch ps e.1)/\e.2≠D
def Kt.len {Ch:List (Nat×Nat)->Str->Prop}{names:List Str}{name:Str}{H H5:Hp}{D m:Addr}{iZ:List Addr}{gR:List (Str×Addr)}{ms:List Str}{kvs:List (aK×V)}(h:Kt K Ch names name H H5 D m iZ gR ms kvs):iZ.length=gR.length/\kvs.length=ms.length/\gR.length=ms.length+1/\gR.length<=names.length:=by
 have a:=congrArg List.length h.keys;have b:=congrArg List.length h.wl;have c:=fq _ _ h.nd h.sub;simp only [aB,eC] at a b c;exact⟨bG h.wv,a,b,∅⟩
def EW.same {H H':Hp}{l:Addr}{n:Nat}{C:List (Nat×Nat)->Prop}(h:EW K H l n C)(s:aD H H'):EW K H' l n C:=let ⟨ts,ps,y,a,b,c,d⟩:=h;⟨ts,ps,y,s _ _ a,Paired.ft b λ_ _ z=>s.tup z,c,d⟩
def Ez.same {H H':Hp}{l:Addr}{C:List (Nat×Nat)->Prop}(h:Ez K H l C)(s:aD H H'):Ez K H' l C:=let ⟨t,ts,ps,y,a,b,c,d⟩:=h;⟨t,ts,ps,y,s _ _ a,Paired.ft b λ_ _ z=>s.tup z,c,d⟩
def EW.Pa {H:Hp}{l D:Addr}{n:Nat}{C:List (Nat×Nat)->Prop}{xs ys:List V}(h:EW K H l n C)(hD:H D=some (.lst xs))(ne:l≠D):EW K (upd H D (.lst ys)) l n C:=let ⟨ts,ps,y,a,b,c,d⟩:=h;⟨ts,ps,y,by rw [ai ne];exact a,Paired.ft b λ_ _ z=>a_ hD z,c,d⟩
def EW.UG {H:Hp}{l D:Addr}{n:Nat}{C:List (Nat×Nat)->Prop}{xs ys:List (aK×V)}(h:EW K H l n C)(hD:H D=some (.dK xs)):EW K (upd H D (.dK ys)) l n C:=let ⟨ts,ps,y,a,b,c,d⟩:=h;⟨ts,ps,y,by rw [ai (λz=>by rw [z,hD] at a;cases a)];exact a,Paired.ft b λ_ _ z=>eZ hD z,c,d⟩
def Kt.more {Ch:List (Nat×Nat)->Str->Prop}{names:List Str}{name z:Str}{H H5 H9:Hp}{D m t c:Addr}{iZ:List Addr}{gR:List (Str×Addr)}{ms:List Str}{kvs:List (aK×V)}(h:Kt K Ch names name H H5 D m iZ gR ms kvs)(fD:H D=none)(fm:H m=none)
  (hz:z∈names)(hn:z∉ms)(DU:z≠name)(s:aD (upd H5 m (.dK (bE kvs (Sum.inr z) (.bl true)))) H9)(ht:bf K H9 t [.str z,.ref c])(hc:EW K H9 c gR.length λps=>Ch ps z)(nc:c≠D) :
  Kt K Ch names name H (upd H9 D (.lst (iZ.map V.ref++[.ref t]))) D m (iZ++[t]) (gR++[(z,c)]) (ms++[z]) (bE kvs (Sum.inr z) (.bl true)):=by
 have MN:D≠m:=λe=>by have:=h.hD;rw [e,h.hm] at this;cases this
 have DZ:H9 D=some (.lst (iZ.map V.ref)):=s _ _ (by rw [ai MN];exact h.hD);have WH:H9 m=some (.dK (bE kvs (Sum.inr z) (.bl true))):=s _ _ ae;refine⟨λb o hb=>?_,by rw [ae,bD];rfl,by rw [ai MN.symm];exact WH,?_,?_,?_,?_,?_,?_⟩
 .rw [ai (λe=>by rw [e,fD] at hb;cases hb)];exact s _ _ (by rw [ai (λe=>by rw [e,fm] at hb;cases hb)];exact h.sm b o hb)
 .rw [ij (by rw [h.keys];exact λe=>hn (cP.mp e)),h.keys,bD];rfl
 .rw [<-rm];refine lL.mpr ⟨h.nd,by simp,λa ha b hb e=>?_⟩;rw [cJ.mp hb] at e;subst e;rcases bN.mp ha with x | x
  .exact DU x
  exact hn x
 .intro x OH;rw [<-rm] at OH;rcases bZ.mp OH with e | e
  .exact h.sub x e
  rw [cJ.mp e];exact hz
 .rw [bD,h.wl];rfl
 .exact gh (Paired.ft h.wv λ_ _ e=>a_ DZ (s.tup (eZ h.hm e))) (a_ DZ ht)
 intro i e he;rw [List.getElem?_append] at he
 split at he
 .obtain⟨a,b⟩:=h.we i e he;exact⟨((a.UG h.hm).same s).Pa DZ b,b⟩
 have li:=(aY.mp he).1;have i0:i - gR.length=0:=by simp at li;omega
 rw [i0] at he;simp at he;subst he;have:i=gR.length:=by omega
 rw [this];exact⟨hc.Pa DZ nc,nc⟩
def LJ (aa:List av)(st:Str->List (Nat×Nat))(name:Str) (ms:List Str) (at_:Nat):Prop:=∀n∈(name::ms).take at_,∀z,O2 aa st n z->z∈ms
def LJ.more {aa:List av}{st:Str->List (Nat×Nat)}{name x:Str}{ms:List Str}{at_:Nat}(h:LJ aa st name ms at_)(le:at_<=ms.length+1):LJ aa st name (ms++[x]) at_:=λn hn z hz=>by
 rw [<-rm,uw (by simpa using le)] at hn;exact i8 _ (h n hn z hz)
def LJ.all {aa:List av}{st:Str->List (Nat×Nat)}{name:Str}{ms:List Str}{at_:Nat}(h:LJ aa st name ms at_)(ge:ms.length+1<=at_)(nd:(name::ms).Nodup):¬hV aa st name name:=by
 have tk:(name::ms).take at_=name::ms:=rM (by simpa using ge);have:∀z,hV aa st name z->z∈ms:=λz hz=>by
  induction hz with
  | one s=>exact h name (by rw [tk];exact bO) _ s
  | more _ s ih=>exact h _ (by rw [tk];exact bS _ ih) _ s
 exact λz=>(jV.mp nd).1 (this name z)
def Jq (F:hZ K "way_back" "way_back" Mh f fd)(T:Txt mg):bh P w K mg base fJ 1 f fd ["rules","steps","name"] (Fi K):=by
 refine F.ok nI (by and_intros) (λdN A outer s H vs Q E hr h=>?_)
 obtain⟨R,d,rs,aa,ps,st,name,rfl,hR,cT,a8,h8,S,Q5,l_,EK,q⟩:=h;have hu:=gk hr;refine⟨_,aj (aF (i:=3) nI.nd rfl (bC rfl) (bU (af (bT (af (pv 2) (af (bU ak) ak))) ak)))
  (aj (aF (i:=4) nI.nd rfl (bC rfl) gY)
  (aj (aF (i:=5) nI.nd rfl (bC rfl) ay)
  (aj (kx cx (bB sH (pv 5) (a9 di rfl T.len jK (af (pv 3) ak)) (cX _))
   (aj (aF (i:=6) nI.nd rfl (bC rfl) (bH cS (bH cO (pv 3) (pv 5) (λ_ _=>rfl)) ay (λ_ _=>rfl)))
   (aj (bK cx rfl (aQ (fk hu (pv 1) (bH cS (bH cO (pv 3) (pv 5) (λ_ _=>rfl)) ay (λ_ _=>rfl)) (λ_ _=>rfl))) (fc rfl (aC (au (i:=7) nI.nd rfl (bC rfl)) (aC (au (i:=8) nI.nd rfl (bC rfl)) bM)))
    (aj (aF (i:=9) nI.nd rfl (bC rfl) (bH cS (bH cS (bH cO (pv 0) (pv 7) (λ_ _=>rfl)) ay (λ_ _=>rfl)) (pv 8) (λ_ _=>rfl)))
    (aj (cA (bB qa (pv 9) (pv 2) (cX _)) (ao (bc (bo wQ (pv 6) (bU (af (bT (af (pv 7) (af (pv 8) ak))) ak))))) aZ)
    (ao (cA (e_ (eJ hu (pv 9) (pv 4)))
     (aj (iL hu (pv 4) (pv 9) gC rfl) (ao (b8 (gZ ie iI iJ cq (pv 3) (af (bT (af (pv 9) (af (bo wQ (pv 6) (bU (af (bT (af (pv 7) (af (pv 8) ak))) ak))) ak))) ak))))) aZ)))))
   (ao (Mw (i:=5) nI.nd rfl (bC rfl) ay M5)))))
  (ao (bc (bU ak)))))),?_⟩
 nofun
 have l7:(ps.map (·.1)).length=ps.length:=aB _;refine⟨_,rfl,rP,λl0 TJ=>?_⟩;have s1:=ah TJ (.lst []);have e1:upd H l0 (.lst []) l0=some (.lst []):=ae;generalize upd H l0 (.lst [])=H1 at s1 e1;refine⟨mq,λt0 ht0=>?_⟩;have s2:=ah ht0 (.tup [.str name,.ref l0]);have e2:bf K (upd H1 t0 (.tup [.str name,.ref l0])) t0 [.str name,.ref l0]:=bf.of ae;generalize upd H1 t0 (.tup [.str name,.ref l0])=H2 at s2 e2;refine⟨Oo,λD hD=>?_⟩;have s3:=ah hD (.lst [.ref t0]);have e3:upd H2 D (.lst [.ref t0]) D=some (.lst ([t0].map V.ref)):=ae;have nl0:l0≠D:=aq (s2 _ _ e1) hD;generalize upd H2 D (.lst [.ref t0])=H3 at s3 e3;intro m hm;have s4:=ah hm (.dK []);have e4:upd H3 m (.dK []) m=some (.dK []):=ae;generalize upd H3 m (.dK [])=H4 at s4 e4;have fD:H D=none:=(s1.trans s2).free hD;have fm:H m=none:=((s1.trans s2).trans s3).free hm;have W0:Kt K (xI aa st name) (ps.map (·.1)) name H H4 D m [t0] [(name,l0)] [] []:=⟨((s1.trans s2).trans s3).trans s4,s4 _ _ e3,e4,rfl,by simp,by simpa using l_,rfl,.cons ((s3.trans s4).tup e2) .nil,λi e he=>by
  have li:=(aY.mp he).1;have i0:i=0:=by simp at li;omega
  rw [i0] at he;simp at he;subst he;exact⟨⟨[],[],.nil,s4 _ _ (s3 _ _ (s2 _ _ e1)),.nil,by simp,by simp⟩,nl0⟩⟩
 refine⟨λmm σ H5=>∃(iZ:List Addr)(gR:List (Str×Addr)) (ms:List Str)(kvs:List (aK×V)) (at_:Nat)(y6 y7 y8 y9:Option V),σ=[bj R,bj d,some (.str name),bj D,bj m,some (.int (at_:Int)),y6,y7,y8,y9]/\Kt K (xI aa st name) (ps.map (·.1)) name H H5 D m iZ gR ms kvs /\
  LJ aa st name ms at_/\at_<=gR.length/\mm=1002 - at_,⟨1002,[t0],[(name,l0)],[],[],0,none,none,none,none,rfl,W0,λn hn=>by simp at hn,by simp,rfl⟩,?_⟩
 rintro mm σ H5 ⟨iZ,gR,ms,kvs,at_,y6,y7,y8,y9,rfl,W,nq,Z9,rfl⟩;obtain⟨lw,lk,aac,lm⟩:=W.len;refine⟨_,rfl,_,rfl,D,_,rfl,.inl (aG.of W.hD),_,_,rfl,rfl,_,rfl,?_⟩;refine d_ (λc=>?_) (λc=>?_)
 .have c':=dY c;rw [aB,lw] at c';have iF:at_ < gR.length:=by omega
  obtain⟨n,l,en⟩:∃n l,gR[at_]?=some (n,l):=⟨(gR[at_]).1,(gR[at_]).2,c_ iF⟩;obtain⟨t1,et1,OJ⟩:=Paired.at_ W.wv at_ (n,l) en;have at1:pI (iZ.map V.ref) (at_:Int)=some (.ref t1):=cW (by rw [bq,et1];rfl);have enm:(name::ms)[at_]?=some n:=by rw [<-W.wl,bq,en];rfl
  have hn:n∈ps.map (·.1):=W.sub n (cD enm);obtain⟨pn,yM,zI⟩:=cN.mp hn;have vn:=gM ps S.n1 pn yM;rw [zI] at vn;obtain⟨Y1,an,bn⟩:=S.lst pn yM;rw [zI] at bn;refine⟨λσ H5=>∃(iZ:List Addr)(gR:List (Str×Addr)) (ms:List Str)(kvs:List (aK×V))(y6 y7 y8 y9:Option V),σ=[bj R,bj d,some (.str name),bj D,bj m,some (.int ((at_+1:Nat):Int)),y6,y7,y8,y9]/\Kt K (xI aa st name) (ps.map (·.1)) name H H5 D m iZ gR ms kvs/\LJ aa st name ms (at_+1)/\at_+1<=gR.length,?_,?_⟩
  .rintro σ H6 ⟨iZ,gR,ms,kvs,y6,y7,y8,y9,rfl,W2,c2,h2⟩;exact⟨1002 - (at_+1),∅,iZ,gR,ms,kvs,at_+1,_,_,_,_,rfl,W2,c2,h2,rfl⟩
  refine⟨_,rfl,_,rfl,D,_,_,_,rfl,rfl,aG.of W.hD,at1,t1,_,_,_,rfl,rfl,OJ,rfl,?_⟩;have hg:cC H5 d (.str n) (some (.ref pn.2)):=by
   have:=cC.r (k:=Sum.inr n) (Rd.same S.hd W.sm);rw [vn] at this;exact this
  refine⟨_,rfl,_,rfl,_,rfl,D,_,_,_,rfl,rfl,aG.of W.hD,at1,t1,_,_,_,rfl,rfl,OJ,rfl,d,_,rfl,hg,pn.2,rfl,⟨_,aG.of (W.sm _ _ an)⟩,?_⟩
  let oJ:oN:=λi σ H6=>∃(iZ:List Addr)(gR:List (Str×Addr)) (ms:List Str)(kvs:List (aK×V))(y7 y8 y9:Option V),σ=[bj R,bj d,some (.str name),bj D,bj m,some (.int (at_:Int)),bj l,y7,y8,y9]/\Kt K (xI aa st name) (ps.map (·.1)) name H H6 D m iZ gR ms kvs /\
   LJ aa st name ms at_/\(∀e∈(st n).take i,∀ru z,aa[e.1]?=some ru->ru.2[e.2]?=some z->z∈ms)/\at_+1<=gR.length/\gR[at_]?=some (n,l)/\(name::ms)[at_]?=some n
  refine cm (xs:=Y1.map V.ref) oJ ⟨iZ,gR,ms,kvs,_,_,_,rfl,W,nq,(λe he=>by simp at he),iF,en,enm⟩ ?_ ?_ ?_
  .rintro i σ H6 _ ⟨iZ,gR,ms,kvs,y7,y8,y9,rfl,W2,_⟩;exact aG.of (W2.sm _ _ an)
  .rintro i x σ H6 ex ⟨iZ,gR,ms,kvs,y7,y8,y9,rfl,W2,c2,ci,h2,T7,Ke⟩
   ac_nf0
   rw [bq] at ex;obtain⟨ti,eti,rfl⟩:=bR.mp ex;have ZC:=bG bn;have lti:=(aY.mp eti).1;obtain⟨⟨k,j⟩,T_⟩:∃e,(st n)[i]?=some e:=⟨(st n)[i]'∅,c_ ∅⟩;obtain⟨ti',RP,hti⟩:=Paired.at_ bn i (k,j) T_;rw [eti] at RP;cases RP;obtain⟨ru,z,er,ez,hz⟩:=EK n hn (k,j) (cD T_);have Qx:k<=1000:=by have:=(aY.mp er).1;omega
   have ZA:j<=1000:=by
    have a:=(aY.mp ez).1;have b:=h8 ru (cD er);omega
   have cin:∀{qm:List Str},(∀x∈ms,x∈qm)->z∈qm->∀e∈(st n).take (i+1),∀ru z,aa[e.1]?=some ru->ru.2[e.2]?=some z->z∈qm:=λ{qm} sb Wj e he kY z' EL IH=>by
    rw [cY,T_] at he;rcases bZ.mp he with h | h
    .exact sb _ (ci e h kY z' EL IH)
    cases (cJ.mp h:e=(k,j));rw [er] at EL;cases EL;rw [ez] at IH;cases IH;exact Wj
   obtain⟨r,Ln,p,v1,v2⟩:=Paired.at_ cT k ru er;have atr:pI (rs.map V.ref) (k:Int)=some (.ref r):=cW (by rw [bq,Ln];rfl);have Sg:pI (ru.2.map V.str) (j:Int)=some (.str z):=cW (by rw [bq,ez];rfl);obtain⟨lw2,Tu,Zv,lm2⟩:=W2.len;refine⟨ti,_,rfl,W2.sm.tup hti,rfl,_,_,rfl,_,_,rfl,rfl,?_⟩;refine⟨_,rfl,_,rfl,R,_,_,_,rfl,rfl,W2.sm.seq hR,atr,r,_,_,_,rfl,rfl,W2.sm.tup v1,rfl,_,rfl,p,_,_,_,rfl,rfl,W2.sm.tup v2,Sg,?_⟩;refine⟨_,rfl,_,rfl,rfl,_,rfl,?_⟩;obtain⟨⟨lU,Oz,ch2,qV,To,Zh,Dj⟩,Vz⟩:=W2.we at_ (n,l) T7;dsimp only at qV To Vz ch2;have vi:xI aa st name (Oz++[(k,j)]) z:=.snoc ch2 (cD T_) er ez;have aae:=bG To;refine d_ (λc=>?_) (λc=>?_)
   .refine⟨_,rfl,_,rfl,_,rfl,mq,λt4 u0=>?_⟩;have PY:=ah u0 (.tup [.int (k:Int),.int (j:Int)]);have R6:bf K (upd H6 t4 (.tup [.int (k:Int),.int (j:Int)])) t4 [.int (k:Int),.int (j:Int)]:=bf.of ae;generalize upd H6 t4 (.tup [.int (k:Int),.int (j:Int)])=H7 at PY R6;refine⟨Oo,λl4 WJ=>?_⟩;have Mq:=ah WJ (.lst [.ref t4]);have R5:upd H7 l4 (.lst [.ref t4]) l4=some (.lst [.ref t4]):=ae;generalize upd H7 l4 (.lst [.ref t4])=H8 at Mq R5;have Mr:=PY.trans Mq;refine⟨l,l4,lU.map V.ref,[.ref t4],rfl,rfl,Mr _ _ qV,R5,fits (by simp;omega),λc0 Rx=>?_⟩;have Mp:=ah Rx (.lst (lU.map V.ref++[.ref t4]));have OX:upd H8 c0 (.lst (lU.map V.ref++[.ref t4])) c0=some (.lst ((lU++[t4]).map V.ref)):=by rw [ae,bD];rfl
    generalize upd H8 c0 (.lst (lU.map V.ref++[.ref t4]))=H9 at Mp OX;have sA:=Mr.trans Mp;refine(q c0 H9 ((W2.sm.trans Mr).free Rx) (W2.sm.trans sA)).2 ?_;have Tn:=gh (Paired.ft To λ_ _ z=>sA.tup z) (b:=(k,j)) ((Mq.trans Mp).tup R6);obtain⟨t',Ot,e'⟩:∃t' Ot,lU++[t4]=t'::Ot:=by cases lU with
     | nil=>exact⟨_,_,rfl⟩
     | cons a b=>exact⟨_,_,rfl⟩
    rw [e'] at OX Tn;have cz:z=name:=by have:=dY c;injection this
    refine⟨t',Ot,Oz++[(k,j)],⟨cz ▸ vi,by rw [cu];simp;omega⟩,OX,Tn,λp hp=>?_,by rw [cu];simp;omega⟩;rcases bZ.mp hp with h | h
    .exact Zh p h
    rw [cJ.mp h];exact⟨Qx,ZA⟩
   have nz:z≠name:=λe=>by rw [e] at c;exact absurd (cw rfl) c
   have mem:(br kvs (Sum.inr z)).isSome=true↔z∈ms:=by rw [d5,W2.keys];exact cP
   refine⟨_,rfl,_,rfl,m,_,rfl,cC.k (k:=Sum.inr z) W2.hm,_,rfl,?_⟩;refine d_ (λc=>?_) (λc=>?_)
   .have nm:z∉ms:=λh=>by rw [mem.mpr h] at c;exact absurd c nofun
    refine⟨_,rfl,_,rfl,m,_,rfl,pM.k (k:=Sum.inr z) W2.hm (bI ∅),?_⟩;have MN:D≠m:=λe=>by have:=W2.hD;rw [e,W2.hm] at this;cases this
    have nlm:l≠m:=λe=>by rw [e,W2.hm] at qV;cases qV
    have ND:upd H6 m (.dK (bE kvs (Sum.inr z) (.bl true))) D=some (.lst (iZ.map V.ref)):=by rw [ai MN];exact W2.hD
    have hlu:upd H6 m (.dK (bE kvs (Sum.inr z) (.bl true))) l=some (.lst (lU.map V.ref)):=by rw [ai nlm];exact qV
    refine⟨_,rfl,.inl ⟨rfl,_,aG.of ND⟩,_,rfl,_,rfl,_,rfl,_,rfl,mq,λt4 u0=>?_⟩;have PY:=ah u0 (.tup [.int (k:Int),.int (j:Int)]);have R6:bf K (upd (upd H6 m (.dK (bE kvs (Sum.inr z) (.bl true)))) t4 (.tup [.int (k:Int),.int (j:Int)])) t4 [.int (k:Int),.int (j:Int)]:=bf.of ae;generalize upd (upd H6 m (.dK (bE kvs (Sum.inr z) (.bl true)))) t4 (.tup [.int (k:Int),.int (j:Int)])=H7 at PY R6;refine⟨Oo,λl4 WJ=>?_⟩;have Mq:=ah WJ (.lst [.ref t4]);have R5:upd H7 l4 (.lst [.ref t4]) l4=some (.lst [.ref t4]):=ae;generalize upd H7 l4 (.lst [.ref t4])=H8 at Mq R5;have Mr:=PY.trans Mq;refine⟨l,l4,lU.map V.ref,[.ref t4],rfl,rfl,Mr _ _ hlu,R5,fits (by simp;omega),λc0 Rx=>?_⟩;have Mp:=ah Rx (.lst (lU.map V.ref++[.ref t4]));have OX:upd H8 c0 (.lst (lU.map V.ref++[.ref t4])) c0=some (.lst ((lU++[t4]).map V.ref)):=by rw [ae,bD];rfl
    have nc0:c0≠D:=(aq (Mr _ _ ND) Rx).symm;generalize upd H8 c0 (.lst (lU.map V.ref++[.ref t4]))=H9 at Mp OX;refine⟨mq,λt5 M_=>?_⟩;have Tb:=ah M_ (.tup [.str z,.ref c0]);have e7':bf K (upd H9 t5 (.tup [.str z,.ref c0])) t5 [.str z,.ref c0]:=bf.of ae;generalize upd H9 t5 (.tup [.str z,.ref c0])=uo at Tb e7';have sA:=(Mr.trans Mp).trans Tb;refine⟨D,_,_,rfl,rfl,sA _ _ ND,bI (by rw [aB];omega),?_⟩;have Tn:=gh (Paired.ft To λ_ _ z=>sA.tup (eZ W2.hm z)) (b:=(k,j)) (((Mq.trans Mp).trans Tb).tup R6);have hP:EW K uo c0 gR.length (λps=>xI aa st name ps z):=⟨lU++[t4],Oz++[(k,j)],vi,Tb _ _ OX,Tn,λp hp=>by
     rcases bZ.mp hp with h | h
     .exact Zh p h
     rw [cJ.mp h];exact⟨Qx,ZA⟩,by rw [cu];simp;omega⟩
    exact⟨iZ++[t5],gR++[(z,c0)],ms++[z],_,_,_,_,rfl,W2.more fD fm hz nm nz sA e7' hP nc0,c2.more ∅,cin (λx hx=>i8 _ hx) (fP _ (cJ.mpr rfl)),by rw [cu];omega,by rw [jZ ∅];exact T7,by rw [<-rm,jZ (by simp;omega)];exact Ke⟩
   have QO:z∈ms:=mem.mp (by cases e:(br kvs (Sum.inr z)).isSome with
    | true=>rfl
    | false=>rw [e] at c;exact absurd rfl c)
   exact⟨iZ,gR,ms,kvs,_,_,_,rfl,W2,c2,cin (λ_ hx=>hx) QO,h2,T7,Ke⟩
  rintro σ H6 ⟨iZ,gR,ms,kvs,y7,y8,y9,rfl,W2,c2,ci,h2,T7,Ke⟩;refine⟨_,rfl,_,_,rfl,rfl,iZ,gR,ms,kvs,_,_,_,_,rfl,W2,λx hx z hz=>?_,h2⟩;rw [cY,Ke] at hx;rcases bZ.mp hx with h | h
  .exact c2 x h z hz
  cases (cJ.mp h:x=n);obtain⟨e,he,ru,e1,e2⟩:=hz;have ZC:=bG bn;exact ci e (by rw [aB,ZC,cE];exact he) ru z e1 e2
 have c':=c;rw [decide_eq_true_iff] at c';rw [aB,lw] at c';exact⟨rP,λD9 DZ=>(q D9 _ (W.sm.free DZ) (W.sm.trans (ah DZ _))).1 (nq.all ∅ W.nd) ae⟩
end
def hV.trans {aa:List av}{st:Str->List (Nat×Nat)}{a b c:Str}(h:hV aa st a b)(g:hV aa st b c):hV aa st a c:=by
 induction g with
 | one s=>exact .more h s
 | more _ s ih=>exact .more ih s
open Classical in
def Je {aa:List av}{st:Str->List (Nat×Nat)}{aP:List (Str×Nat)}(em:qC aa aP)(ec:nj aa aa.length aP)(hits:∀n k j,n∈hd aa->((k,j)∈st n↔Kz aa (hd aa) (λz=>decide (z∈aP.map (·.1))) n k j))(no:∀n∈hd aa,¬hV aa st n n) :
  hX aa λn=>((hd aa).filter λx=>decide (hV aa st n x)).length:=by
 intro Kc em' Ue n k j hit ru z er ez;have ef:(λz=>decide (z∈Kc.map (·.1)))=λz=>decide (z∈aP.map (·.1)):=funext λz=>decide_eq_decide.mpr ⟨λh=>xq ec (tI em' z h),λh=>xq Ue (tI em z h)⟩;rw [ef] at hit;obtain⟨kY,z',EL,en,IH,hz,_⟩:=id hit;rw [er] at EL;cases EL;rw [ez] at IH;cases IH;have hn:n∈hd aa:=by
  show n∈m_ [] (aa.map (·.1));rw [eX];exact .inr (cN.mpr ⟨ru,cD er,en⟩)
 have Y8:O2 aa st n z:=⟨(k,j),(hits n k j hn).mpr hit,ru,er,ez⟩;exact k_ (p:=λx=>decide (hV aa st z x)) (q:=λx=>decide (hV aa st n x)) (λx hx=>cw ((hV.one Y8).trans (dY hx))) hz (cw (.one Y8)) (dO (no z hz))
def El {K:aR}{H:Hp}{p D:Addr}{ls:List Addr}{σ:St}{x:Str}{Qp:Hp->Prop}(hp:H p=some (.lst (ls.map V.ref))){C:List (Nat×Nat)->Prop}(hl:∀l∈ls,H l=some (.lst [])\/Ez K H l C)(hn:ls.length<=1000)(hD:H D=none)
  (q:∀H2 ks,aD H H2->H2 D=some (.lst (ks.map V.ref))->(∀l∈ks,l∈ls/\Ez K H l C)->(ks=[]->∀l∈ls,H l=some (.lst []))->Qp H2) :
  ∃W:Nat->Nat->List V->St->Hp->Prop,(∃m,W 0 m [] (dI [x] [] σ) (upd H D (.lst []))) /\
 ∀i m ys σ' H,W i m ys σ' H->((jQ K p).stop i H/\Qp H)\/((jQ K p).go i H/\∃m',m' < m/\∀x H',(jQ K p).mr i H x H'->dP 0 x σ' H' λσ2 H2=>gG 0 σ2 H2 λx H'=>∃k,Ib K x H' k/\(λb H3 =>
  if b=true then gG 0 σ2 H3 λy H4=>H4 D=some (.lst ys)/\ys.length < sizeLine/\W (i+1) m' (ys++[y]) σ2 (upd H4 D (.lst (ys++[y]))) else W (i+1) m' ys σ2 H3) k H'):=by
 refine bY (tif:=λσ H Q=>gG 0 σ H λx H'=>∃k,Ib K x H' k/\Q k H') (xs:=ls.map V.ref) (λi ys σ2 H5=>(∃ks:List Addr,ys=ks.map V.ref/\ks.length<=i/\(∀l∈ks,l∈ls/\Ez K H l C)/\(ks=[]->∀l∈ls.take i,H l=some (.lst [])))/\(∃y0,σ2=[y0])/\aD H H5/\H5 D=some (.lst ys))
  ⟨⟨[],rfl,by simp,by simp,λ_ l hl=>by simp at hl⟩,⟨none,rfl⟩,ah hD _,ae⟩ (λi ys σ2 H5 _ h=>aG.of (h.2.2.1 _ _ hp)) (λi x ys σ2 H5 ex h=>?_) (λys σ2 H5 h=>?_)
 .obtain⟨⟨ks,rfl,hk,hm,he⟩,⟨y0,rfl⟩,s5,e5⟩:=h;rw [bq] at ex;obtain⟨l,el,rfl⟩:=bR.mp ex;have li:=(aY.mp el).1;have Rc:=cD el;refine goN ?_;rcases hl l Rc with hl | hl
  .refine⟨_,rfl,false,.inl ⟨[],aG.of (s5 _ _ hl),rfl⟩,?_⟩;refine iD ?_;refine⟨⟨ks,rfl,∅,hm,λz l' zE=>?_⟩,⟨_,rfl⟩,s5,e5⟩;rw [cY,el] at zE;rcases bZ.mp zE with h | h
   .exact he z l' h
   cases (cJ.mp h:l'=l);exact hl
  obtain⟨t,ts,ps,y1,a,b,c,d⟩:=id hl;refine⟨_,rfl,true,.inl ⟨_,aG.of (s5 _ _ a),rfl⟩,?_⟩;refine lF ?_;refine⟨_,rfl,e5,bI (by rw [aB];omega),⟨ks++[l],by rw [bD];rfl,by rw [cu];simp;omega,λl' zE=>?_,λz=>by simp at z⟩,⟨_,rfl⟩,λb o hb=>?_,ae⟩
  .rcases bZ.mp zE with h | h
   .exact hm l' h
   rw [cJ.mp h];exact⟨Rc,hl⟩
  rw [ai (λz=>by rw [z,hD] at hb;cases hb)];exact s5 b o hb
 obtain⟨⟨ks,rfl,hk,hm,he⟩,_,s5,e5⟩:=h;refine q H5 ks s5 e5 hm λz l zE=>he z l ?_;rw [aB,cE];exact zE
section
def Gs (F:hZ K "find_loop" "find_loop" FH f fd)(T:Txt mg)(GS:aL P w K mg base 2 "steps_with_like_rows" ["rules"] (BE K))(GW:aL P w K mg base 1 "way_back" ["rules","steps","name"] (Fi K)):bh P w K mg base fJ 3 f fd ["rules"] (BK K):=by
 refine F.ok zX (by and_intros) (λdN A outer s H vs Q E hr h=>?_)
 obtain⟨R,rs,aa,rfl,hR,cT,a8,h8,q⟩:=h;refine⟨_,aj (aF (i:=1) zX.nd rfl (Or.inr rfl) (bX GS hr rfl (af (pv 0) ak)))
  (aj (ik (iy:=2) ["name"] [(0,"rules"),(1,"steps")] zX.nd rfl rfl rfl (B2 (pv 1)) (ba rfl rfl) nofun rfl nofun
   (λ_ _ _ _ _=>au (i:=0) (ndq nofun) rfl (bC rfl)) (λ_ _ _ _ _=>b9)
   (λ_ _ _ _ _=>bX (GW.mono (by decide:1<=2)) hr rfl (af (pv 1) (af (pv 2) (af (pv 0) ak)))))
  (ao (bc (Jj rfl rfl T.min rfl T.len (af (bx ["loop"] [] rfl (aQ (pv 2)) (ba rfl rfl) nofun rfl nofun
   (λ_ _ _ _ _=>au (i:=0) (ndq nofun) rfl (bC rfl)) (λ_ _ _ _ _=>f_ (Dg K (pv 0) (λ_=>rfl))) (λ_ _ _ _ _=>pv 0)) ak) (bU ak))))),?_⟩
 nofun
 refine⟨_,rfl,R,rs,aa,rfl,hR,cT,a8,h8,λd ps st aP H1 fd1 s1 e1 S1 m1 OS emp A7 hits=>?_⟩;have lps:ps.length<=1000:=by
  have h1:=congrArg List.length m1;have h2:=gT (aa.map (·.1)) [];simp only [i6,aB] at h2;rw [aB] at h1;have h3:(hd aa).length=(m_ [] (aa.map (·.1))).length:=rfl;omega
 have hdn:Inn aa (ps.map (·.1)) st:=λn hn e he=>by
  rw [m1] at hn ⊢;have hit:=(hits n e.1 e.2 hn).mp he;obtain⟨ru,z,er,_,ez,hz,_⟩:=id hit;exact⟨ru,z,er,ez,hz⟩
 refine⟨_,rfl,d,_,rfl,e1,λo D hD=>?_⟩;have Vu:∀p∈ps,p.2≠d:=λp hp z=>by
  obtain⟨ts,a,_⟩:=S1.lst p hp;rw [z,e1] at a;cases a
 have s2:aD H (upd H1 d (.jR o (.dK (ps.map jn)))):=λb u hb=>by
  rw [ai (λz=>by rw [z,fd1] at hb;cases hb)];exact s1 b u hb
 have S2:ES K ps st (upd H1 d (.jR o (.dK (ps.map jn)))) d:=⟨.inr ⟨o,ae⟩,S1.n1,S1.n2,λp hp=>by
  obtain⟨ts,a,b⟩:=S1.lst p hp;exact⟨ts,by rw [ai (Vu p hp)];exact a,Paired.ft b λ_ _ z=>eZ e1 z⟩⟩
 have e2:upd H1 d (.jR o (.dK (ps.map jn))) d=some (.jR o (.dK (ps.map jn))):=ae;generalize upd H1 d (.jR o (.dK (ps.map jn)))=H2 at hD s2 S2 e2 ⊢;refine tQ (λi ys σ2 H3=>∃ls:List Addr,ys=ls.map V.ref/\Paired (λl n=>H2 l=none/\l≠D/\((H3 l=some (.lst [])/\¬hV aa st n n)\/Ez K H3 l (pN aa))) ls ((ps.map (·.1)).take i)/\(∃y0,σ2=[y0,bj R,bj d])/\aD H2 H3/\H3 D=some (.lst ys))
  ⟨[],rfl,.nil,⟨none,rfl⟩,ah hD _,ae⟩ (λi ys σ2 H3 _ h=>?_) (λi kv ys σ2 H3 ex h=>?_) (λys σ2 H3 h=>?_)
 .obtain⟨_,_,_,_,sm,_⟩:=h;exact sm _ _ e2
 .obtain⟨ls,rfl,hl,⟨y0,rfl⟩,sm,gp⟩:=h;rw [bq] at ex;obtain⟨p,ep,rfl⟩:=bR.mp ex;have hp:=cD ep;have li:=(aY.mp ep).1;have OE:=bG hl;rw [dA] at OE;refine goN (xi ?_);have s3:=s2.trans sm;have fin:∀D4 H4,H3 D4=none->aD H3 H4->((H4 D4=some (.lst [])/\¬hV aa st p.1 p.1)\/Ez K H4 D4 (pN aa))->H4 D=some (.lst (ls.map V.ref))/\(ls.map V.ref).length < sizeLine/\∃OD:List Addr,ls.map V.ref++[V.ref D4]=OD.map V.ref/\Paired (λl n=>H2 l=none/\l≠D/\((upd H4 D (.lst (ls.map V.ref++[.ref D4])) l=some (.lst [])/\¬hV aa st n n)\/Ez K (upd H4 D (.lst (ls.map V.ref++[.ref D4]))) l (pN aa))) OD ((ps.map (·.1)).take (i+1))/\aD H2 (upd H4 D (.lst (ls.map V.ref++[.ref D4]))):=λD4 H4 f4 s4 e4=>by
   have qW:=s4 _ _ gp;have VL:D4≠D:=λz=>by rw [z,gp] at f4;cases f4
   have pn:∀{l:Addr},l≠D->Ez K H4 l (pN aa)->Ez K (upd H4 D (.lst (ls.map V.ref++[.ref D4]))) l (pN aa):=λne ⟨t,ts,ps,y,a,b,c,d⟩=>⟨t,ts,ps,y,by rw [ai ne];exact a,Paired.ft b λ_ _ z=>a_ qW z,c,d⟩;refine⟨qW,bI (by rw [aB];omega),ls++[D4],by rw [bD];rfl,?_,λb u hb=>?_⟩
   .rw [cY,bq,ep];refine gh (Paired.ft hl λl n aS=>?_) ⟨?_,VL,e4.elim (λ⟨c1,c2⟩=>.inl ⟨by rw [ai VL];exact c1,c2⟩) λc=>.inr (pn VL c)⟩;obtain⟨a,b,c⟩:=aS;refine⟨a,b,c.elim (λaS=>?_) λc=>.inr (pn b (c.same s4))⟩;obtain⟨c1,c2⟩:=aS;exact .inl ⟨by rw [ai b];exact s4 _ _ c1,c2⟩;exact sm.free f4
   rw [ai (λz=>by rw [z,hD] at hb;cases hb)];exact s4 _ _ (sm b u hb)
  refine⟨_,rfl,_,rfl,_,rfl,R,d,rs,aa,ps,st,p.1,rfl,s3.seq hR,cT.same s3,a8,h8,S2.same sm,lps,i7 hp,hdn,λD4 H4 f4 s4=>⟨λno e4=>?_,λe4=>?_⟩⟩
  .obtain⟨a,b,OD,c1,c2,c3⟩:=fin D4 H4 f4 s4 (.inl ⟨e4,no⟩);exact⟨a,b,OD,c1,c2,⟨_,rfl⟩,c3,ae⟩
  obtain⟨a,b,OD,c1,c2,c3⟩:=fin D4 H4 f4 s4 (.inr (by
   obtain⟨t,ts,pp,⟨y1,y2⟩,a,b,c,d⟩:=e4;have Zy:=bG b;rw [m1] at y2;exact⟨t,ts,pp,⟨st,p.1,⟨aP,emp,A7,hits⟩,by rw [<-m1];exact i7 hp,y1,λz=>by rw [z] at Zy;simp at Zy,y2⟩,a,b,c,d⟩))
  exact⟨a,b,OD,c1,c2,⟨_,rfl⟩,c3,ae⟩
 obtain⟨ls,rfl,hl,_,sm,gp⟩:=h;have s3:=s2.trans sm;rw [aB,show ps.length=(ps.map (·.1)).length from (aB _).symm,cE] at hl;have OE:=bG hl;rw [aB] at OE;have each:∀l∈ls,H2 l=none/\(H3 l=some (.lst [])\/Ez K H3 l (pN aa)):=λl hm=>by
  obtain⟨i,ei⟩:=fA hm;have li:=(aY.mp ei).1;obtain⟨l',NV,a,b,c⟩:=Paired.at_ hl i _ (c_ (by rw [aB];omega));rw [ei] at NV;cases NV;exact⟨a,c.elim (λc=>.inl c.1) .inr⟩
 refine⟨_,rfl,D,rfl,⟨_,aG.of gp⟩,λD5 OP=>?_⟩;refine El gp (λl zE=>(each l zE).2) ∅ OP λH5 ks s5 e5 hk ke=>?_;refine⟨rP,λD6 IE=>?_⟩;have s6:=ah IE (.lst []);have e6:upd H5 D6 (.lst []) D6=some (.lst []):=ae;generalize upd H5 D6 (.lst [])=H6 at s6 e6;have Te:=s5.trans s6;obtain⟨t_,Wl⟩:∃t_:List (List V),Paired (λl xs=>aG K H6 l xs) ks t_:=by
  have:∀l∈ks,∃xs,aG K H6 l xs:=λl zE=>by
   obtain⟨t,ts,ps,_,a,_⟩:=(hk l zE).2;exact⟨_,aG.of (Te _ _ a)⟩
  clear hk ke e5
  induction ks with
  | nil=>exact⟨[],.nil⟩
  | cons a b ih =>
   obtain⟨xs,hx⟩:=this a bO;obtain⟨t_,Wl⟩:=ih λl zE=>this l (bS _ zE);exact⟨xs::t_,.cons hx Wl⟩
 refine⟨D5,ks,t_,rfl,aG.of (s6 _ _ e5),Wl,λk0=>?_,λl zE=>?_⟩
 .refine(q D6 H6 ((s3.trans s5).free IE) (s3.trans Te)).1 _ (Je emp A7 hits λn hn=>?_) e6;rw [<-m1] at hn;obtain⟨i,ei⟩:=fA hn;obtain⟨l',NV,a,b,c⟩:=Paired.at_ hl i n ei;rcases c with c | c
  .exact c.2
  have:=ke k0 l' (cD NV);obtain⟨t,ts,ps,_,c1,_⟩:=c;rw [this] at c1;cases c1
 have hm:=cD zE;obtain⟨Rf,pn⟩:=hk l hm;obtain⟨t,ts,pp,y,a,b,c,d⟩:=pn.same Te;exact(q l H6 (s2.free (each l Rf).1) (s3.trans Te)).2 t ts pp a b c d y
end
abbrev FK:Stmt:=top 41
abbrev wx:Stmt:=top 42
abbrev FC:Stmt:=top 43
section
def Fs (K:aR):Sp:=λvs H Q _=>∃(a:Addr)(ns:List Int) (k:Nat),vs=[.ref a,.int (k:Int)]/\aG K H a (ns.map V.int)/\ns.length<=1000/\∀n:Int,Q (.int n) H
def Mg:aJ ["_law_script","_law_k"] ["_law_script","_law_k"] (aw FK):=iP rfl rfl rfl rfl nofun
def Jx (F:hZ K "_law_cell_at" "_law_cell_at" FK f fd)(T:Txt mg):bh P w K mg base fJ 1 f fd ["_law_script","_law_k"] (Fs K):=by
 refine F.ok Mg (by and_intros) (λdN A outer s H vs Q E hr h=>?_)
 obtain⟨a,ns,k,rfl,hS,hn,q⟩:=h;refine⟨_,aj (cA (bB sH (pv 1) (a9 di rfl T.len jK (af (pv 0) ak)) (cX _)) (ao (bc (bH cO (pv 0) (pv 1) (λ_ _=>rfl)))) aZ) (ao (bc ay)),?_⟩;refine⟨_,rfl,_,rfl,a,_,rfl,.inl hS,_,_,rfl,rfl,_,rfl,?_⟩;refine d_ (λcc=>?_) (λ_=>q 0);have lt:=dY cc;rw [aB] at lt;have lt':k < ns.length:=by omega
 refine⟨_,rfl,_,rfl,a,_,_,.int ns[k],rfl,rfl,hS,cW (by rw [bq,c_ lt'];rfl),q _⟩
def nH:Sp:=λvs H Q _=>∃(c:Int) (m:Nat),vs=[.int c,.int (m:Int)]/\m<=100/\∀D ns H',H D=none->aD H H'->H' D=some (.lst (List.map V.int ns))->ns.length=m->(∀n∈ns,(0:Int)<=n/\n < 4294967311)->Q (.ref D) H'
def kq:aJ ["_law_cell","_law_many","_law_found","_law_number","_law_k"] ["_law_cell","_law_many"] (aw wx):=iP rfl rfl rfl rfl nofun
def N4 (xs:List V):hJ xs (some 1) none=xs.drop 1:=by
 have e1:HT.dZ xs.length 0 (some 1)=min 1 xs.length:=HT.kX _ _ 1;have e2:HT.dZ xs.length xs.length none=xs.length:=rfl;unfold hJ;rw [e1,e2];cases xs with
 | nil=>rfl
 | cons x r=>simp
def Du (F:hZ K "_law_stream" "_law_stream" wx f fd)(T:Txt mg):bh P w K mg base fJ 1 f fd ["_law_cell","_law_many"] nH:=by
 refine F.ok kq (by and_intros) (λdN A outer s H vs Q E hr h=>?_)
 obtain⟨c,m,rfl,hm,q⟩:=h;refine⟨_,aj (aF (i:=2) kq.nd rfl (bC rfl) (bU ak))
  (aj (aF (i:=3) kq.nd rfl (bC rfl) (bo d7 (bo eP (pv 0) ay) ay))
  (aj (bK cx rfl (iu rfl T.FT (af (bo d7 (pv 1) ay) ak)) (au (i:=4) kq.nd rfl (bC rfl))
   (aj (aF (i:=3) kq.nd rfl (bC rfl) (bo eP (bo d7 (bo d7 (bo wO (pv 3) (pv 3)) (bo wO ay (pv 3))) (pv 4)) ay))
   (ao (b8 (gZ ie iI iJ cq (pv 2) (af (pv 3) ak))))))
  (ao (bc (ff jx (pv 2) (d6 ay) jy))))),?_⟩
 refine⟨rP,λl hl=>?_⟩;refine⟨_,rfl,_,_,rfl,rfl,(by show (0:Int) < 4294967311;decide),_,_,rfl,rfl,?_⟩;refine⟨_,rfl,_,_,rfl,rfl,_,rfl,∅,∅,?_⟩;have e0:((m:Int)+1).toNat=m+1:=by omega
 rw [e0];have hx0:(0:Int)<=c % 4294967311+48271/\c % 4294967311+48271 < 8589934592:=by omega
 refine jj (n:=m+1) (λi σ H2=>∃(x:Int)(ns:List Int)(kk:Option V),σ=[some (.int c),some (.int (m:Int)),bj l,some (.int x),kk]/\H2=upd H l (.lst (ns.map V.int))/\ns.length=i/\((0:Int)<=x/\x < 8589934592)/\∀n∈ns,(0:Int)<=n/\n < 4294967311)
  ⟨c % 4294967311+48271,[],none,rfl,rfl,rfl,hx0,by simp⟩ ?_ ?_
 .rintro i σ H2 hi ⟨x,ns,kk,rfl,rfl,qV,hx,pF⟩;refine⟨_,rfl,_,rfl,_,_,rfl,rfl,.inl ⟨∅,∅⟩,_,rfl,_,_,rfl,rfl,.inl ⟨nofun,nofun⟩,_,_,rfl,rfl,_,rfl,_,_,rfl,rfl,_,_,rfl,rfl,(by show (0:Int) < 4294967311;decide),?_⟩;have hy:(0:Int)<=(x * x+69621 * x+(0+(i:Int))) % 4294967311/\(x * x+69621 * x+(0+(i:Int))) % 4294967311 < 4294967311:=by omega
  refine⟨_,rfl,.inl ⟨rfl,_,aG.of ae⟩,_,rfl,l,_,_,rfl,rfl,ae,bI (by rw [aB];omega),?_⟩;refine⟨(x * x+69621 * x+(0+(i:Int))) % 4294967311,ns++[(x * x+69621 * x+(0+(i:Int))) % 4294967311],_,rfl,by rw [ig,bD];rfl,by rw [cu,qV];rfl,⟨hy.1,∅⟩,λn hn=>?_⟩;rcases bZ.mp hn with h | h
  .exact pF n h
  rw [cJ.mp h];exact hy
 rintro σ H2 ⟨x,ns,kk,rfl,rfl,qV,hx,pF⟩;refine⟨_,rfl,1,rfl,l,_,rfl,aG.of ae,λp hp=>?_⟩;rw [N4];have l7:p≠l:=λz=>by rw [z,ae] at hp;cases hp
 refine q p (ns.drop 1) _ (by rw [ai l7] at hp;exact hp) ((ah hl _).trans (ah hp _)) (by rw [ae,oQ]) (by rw [nv,qV];omega) λn hn=>pF n (List.mem_of_mem_drop hn)
def ju:Str := "!\"#$&'()*+,-./0123456789:;<=>?@ABCDEFGHIJKLMNOPQRSTUVWXYZ[\\]^_`abcdefghijklmnopqrstuvwxyz{|}~"
def G0:ju.cps.toList.length=93:=by decide +kernel
def Si (n:Int):∃c,pI ju.cps.toList (n % 93)=some c:=by
 have h:(n % 93).toNat < ju.cps.toList.length:=by rw [G0];omega
 refine⟨ju.cps.toList[(n % 93).toNat],?_⟩;have e:n % 93=(((n % 93).toNat:Nat):Int):=by omega
 have:=cW (c_ h);rw [<-e] at this;exact this
def um (z:Str):Prop:=∀c∈z.cps.toList,c∈ju.cps.toList
def um.lt {z:Str}(h:um z):∀c∈z.cps.toList,c < 16 ^ 8:=λc hc=>(show ∀c∈ju.cps.toList,c < 16 ^ 8 by decide +kernel) c (h c hc)
def um.app {x y:Str}(h:um x)(g:um y):um (x++y):=λc hc=>by
 have e:(x++y).cps.toList=x.cps.toList++y.cps.toList:=by show (x.cps++y.cps).toList=_;simp
 rw [e] at hc;exact(bZ.mp hc).elim (h c) (g c)
def um.one {cc:Nat}{i:Int}(h:pI ju.cps.toList i=some cc):um ⟨#[cc]⟩:=λc hc=>by
 have:c=cc:=by simpa using hc
 subst this;unfold pI at h;obtain⟨j,_,e⟩:=Option.bind_eq_some_iff.mp h;exact cD e
theorem um.Dc {z:Str}(h:um z)(lo hi:Option Int):um (Dc z lo hi):=by
 unfold L2.Dc
 split
 .exact h
 intro c hc;have hc:c∈(List.filterMap (z.cps[·]?) (slicePicked z (lo.map λi=>(i,0)) (hi.map λi=>(i,0)) none)):=by simpa using hc
 obtain⟨k,_,e⟩:=vJ.mp hc;exact h c (by rw [Array.mem_toList_iff];exact Array.mem_of_getElem? e)
theorem um.join {zs:List Str}(h:∀z∈zs,um z):um (Txt.join (Str.ofString "") zs):=by
 have e2:Txt.join (Str.ofString "") zs=Str.join (Str.ofString "") zs:=StrLaws.glued_eq_join _ _;rw [e2];have e0:um (Str.ofString ""):=λc hc=>by rw [show (Str.ofString "").cps.toList=[] from rfl] at hc;cases hc
 clear e2
 induction zs with
 | nil=>exact λc hc=>by simp [Str.join,Str.empty] at hc
 | cons x r ih =>
  cases r with
  | nil=>exact h x bO
  | cons y t =>
   show um (x++Str.ofString "" ++ Str.join (Str.ofString "") (y::t));exact((h x bO).app e0).app (ih λz hz=>h z (bS _ hz))
def VC:ju.cps.toList.Nodup:=by decide +kernel
def QJ {a b:Int}{c:Nat}(h1:pI ju.cps.toList (a % 93)=some c)(h2:pI ju.cps.toList (b % 93)=some c):a % 93=b % 93:=by
 have e1:a % 93=(((a % 93).toNat:Nat):Int):=by omega
 have e2:b % 93=(((b % 93).toNat:Nat):Int):=by omega
 have l1:(a % 93).toNat < ju.cps.toList.length:=by rw [G0];omega
 have l2:(b % 93).toNat < ju.cps.toList.length:=by rw [G0];omega
 have g1:=cW (c_ l1);have g2:=cW (c_ l2);rw [<-e1,h1] at g1;rw [<-e2,h2] at g2;have e3:ju.cps.toList[(a % 93).toNat]=ju.cps.toList[(b % 93).toNat]:=(ib g1).symm.trans (ib g2);have:=(rp VC).mp e3;omega
def Ig (pre:Str) (n2:Int) (j:Nat)(z:Str):Prop:=∃cc suf,z=pre++⟨#[cc]⟩++suf/\pI ju.cps.toList ((n2+5 * (j:Int)) % 93)=some cc
def Ji {pre:Str}{n2:Int}{ws:List Str}(hl:ws.length<=14)(h:∀j z,ws[j]?=some z->Ig pre n2 j z):ws.Nodup:=by
 refine List.pairwise_iff_getElem.mpr λi j hi hj Cm e=>?_;obtain⟨c1,s1,e1,a1⟩:=h i _ (c_ hi);obtain⟨c2,s2,e2,a2⟩:=h j _ (c_ hj);rw [e1,e2] at e;have e':=congrArg (λz:Str=>z.cps.toList) e;have q:pre.cps.toList++(c1::s1.cps.toList)=pre.cps.toList++(c2::s2.cps.toList):=by
  have f:∀(c:Nat)(s:Str),(pre++(⟨#[c]⟩:Str)++s).cps.toList=pre.cps.toList++(c::s.cps.toList):=λc s=>by
   show ((pre.cps++#[c])++s.cps).toList=_;simp
  rw [<-f,<-f];exact e'
 have q2:=List.append_cancel_left q;injection q2 with q3 _;rw [<-q3] at a2;have:=QJ a1 a2;omega
def Fl:Sp:=λvs H Q _=>∃(c:Int) (m:Nat),vs=[.int c,.int (m:Int)]/\m<=14/\∀D zs H',H D=none->aD H H'->H' D=some (.lst (List.map V.str zs))->zs.length=m->(∀z∈zs,fC z)->zs.Nodup->Q (.ref D) H'
def iW:aJ ["_law_cell","_law_many","_law_signs","_law_draws","_law_size","_law_at","_law_base","_law_found","_law_k","_law_sign","_law_end"] ["_law_cell","_law_many"] (aw FC):=iP rfl rfl rfl rfl nofun
def Js (F:hZ K "_law_pool" "_law_pool" FC f fd)(T:Txt mg)(GS:aL P w K mg base 1 "_law_stream" ["_law_cell","_law_many"] nH):bh P w K mg base fJ 2 f fd ["_law_cell","_law_many"] Fl:=by
 refine F.ok iW (by and_intros) (λdN A outer s H vs Q E hr h=>?_)
 obtain⟨c,m,rfl,aaj,q⟩:=h;refine⟨_,aj (aF (i:=2) iW.nd rfl (Or.inr rfl) sF)
  (aj (aF (i:=3) iW.nd rfl (bC rfl) (bX GS hr rfl (af (pv 0) (af ay ak))))
  (aj (aF (i:=4) iW.nd rfl (bC rfl) (bo d7 ay (bo eP (bH cO (pv 3) ay (λ_ _=>rfl)) ay)))
  (aj (aF (i:=5) iW.nd rfl (bC rfl) (bo eP (bH cO (pv 3) ay (λ_ _=>rfl)) (pv 4)))
  (aj (aF (i:=6) iW.nd rfl (bC rfl) (gZ PySem.F.plainAttrs_str PySem.F.slot_str_join PySem.F.type_str_join JA sF
   (af (bx ["_law_draw"] [(2,"_law_signs")] rfl (aQ (ff jx (pv 3) (d6 ay) (d6 (bo d7 ay (pv 4))))) (ba rfl rfl) nofun rfl nofun
    (λ_ _ _ _ _=>au (i:=0) (ndq nofun) rfl (bC rfl)) (λ_ _ _ _ _=>b9) (λ_ _ _ _ _=>bH G8 (pv 1) (bo eP (pv 0) ay) (λ_ _=>rfl))) ak)))
  (aj (aF (i:=7) iW.nd rfl (bC rfl) (bU ak))
  (aj (bK cx rfl (iu rfl T.FT (af (pv 1) ak)) (au (i:=8) iW.nd rfl (bC rfl))
   (aj (aF (i:=9) iW.nd rfl (bC rfl) (bH G8 (pv 2) (bo eP (bo d7 (bH cO (pv 3) (bo d7 ay (pv 5)) (λ_ _=>rfl)) (bo wO ay (pv 8))) ay) (λ_ _=>rfl)))
   (aj (aF (i:=10) iW.nd rfl (bC rfl) (bo d7 (bo d7 (pv 5) ay) (bo eP (bo iM (bH cO (pv 3) ay (λ_ _=>rfl)) (bo d7 (pv 8) ay)) ay)))
   (ao (b8 (gZ ie iI iJ cq (pv 7)
    (af (bo sI (bo sI (ff BR (pv 6) jy (d6 (pv 5))) (pv 9)) (ff BR (pv 6) (d6 (bo d7 (pv 5) ay)) (d6 (pv 10)))) ak)))))))
  (ao (bc (pv 7))))))))),?_⟩
 refine⟨_,rfl,c,16,rfl,nofun,λD ns H1 hf0 s1 hD a8 pF=>?_⟩;have NI:∀i:Nat,i < 16->∃x:Int,(0:Int)<=x/\x < 4294967311/\pI (ns.map V.int) (i:Int)=some (.int x):=λi hi=>by
  have lt:i < ns.length:=by omega
  obtain⟨a1,a2⟩:=pF ns[i] (rq lt);exact⟨ns[i],a1,a2,cW (by rw [bq,c_ lt];rfl)⟩
 obtain⟨n0,a0,b0,g0⟩:=NI 0 nofun;obtain⟨n1,a1,b1,g1⟩:=NI 1 nofun;refine⟨_,rfl,D,_,_,.int n0,rfl,rfl,aG.of hD,g0,_,_,rfl,rfl,(by show (0:Int) < 14;decide),_,_,rfl,rfl,?_⟩;refine⟨_,rfl,D,_,_,.int n1,rfl,rfl,aG.of hD,g1,_,rfl,_,_,rfl,rfl,(by show (0:Int) < 1+n0 % 14;omega),?_⟩;have Z9:(0:Int)<=n1 % (1+n0 % 14)/\n1 % (1+n0 % 14) < 14:=by
  have h1:(0:Int) < 1+n0 % 14:=by omega
  have h2:=Int.emod_nonneg n1 (Int.ne_of_gt h1);have h3:=Int.emod_lt_of_pos n1 h1;omega
 refine⟨rfl,_,rfl,2,rfl,_,rfl,_,_,rfl,rfl,_,rfl,D,_,rfl,aG.of hD,λc1 Lg=>?_⟩;obtain⟨jB,e1,_,l1⟩:=HL ns (some 2) (some (2+(1+n0 % 14)));rw [e1];have s2:=s1.trans (ah Lg (.lst (jB.map V.int)));have NF:upd H1 c1 (.lst (jB.map V.int)) D=some (.lst (ns.map V.int)):=by rw [ai (aq hD Lg)];exact hD
 have xb:upd H1 c1 (.lst (jB.map V.int)) c1=some (.lst (jB.map V.int)):=ae;generalize upd H1 c1 (.lst (jB.map V.int))=H2 at s2 NF xb;refine⟨c1,rfl,⟨_,aG.of xb⟩,λD2 iY=>bY (xs:=jB.map V.int) (λi ys σ2 H3=>∃zs:List Str,ys=zs.map V.str/\zs.length=i/\(∀z∈zs,z.length=1)/\(∀z∈zs,um z)/\(∃y,σ2=[y,some (.str ju)])/\aD H2 H3/\H3 D2=some (.lst ys))
  ⟨[],rfl,rfl,by simp,by simp,⟨none,rfl⟩,ah iY _,ae⟩ (λi ys σ2 H3 _ h=>?_) (λi x ys σ2 H3 ex h=>?_) (λys σ2 H3 h=>?_)⟩
 .obtain⟨_,_,_,_,_,_,sm,_⟩:=h;exact aG.of (sm _ _ xb)
 .obtain⟨zs,rfl,hz,OG,Wf,⟨y,rfl⟩,sm,gp⟩:=h;rw [bq] at ex;obtain⟨n,en,rfl⟩:=bR.mp ex;obtain⟨cc,JT⟩:=Si n;have li:i < jB.length:=(aY.mp en).1;refine goN ?_;refine xi ?_;refine⟨_,rfl,_,rfl,_,_,rfl,rfl,(by show (0:Int) < 93;decide),ju,_,cc,rfl,rfl,nofun,JT,gp,bI (by rw [aB];omega),zs++[⟨#[cc]⟩],?_,?_,?_,?_,⟨_,rfl⟩,?_,?_⟩
  .rw [bD];rfl
  .rw [cu,hz];rfl
  .intro z QO;rcases bZ.mp QO with h | h
   .exact OG z h
   rw [cJ.mp h];rfl
  .intro z QO;rcases bZ.mp QO with h | h
   .exact Wf z h
   rw [cJ.mp h];exact um.one JT
  .intro b o hb;rw [ai (λz=>by rw [z,iY] at hb;cases hb)];exact sm b o hb
  rw [ae]
 obtain⟨zs,rfl,hz,OG,Wf,⟨y,rfl⟩,sm,gp⟩:=h;have QW:∀l:List Str,(∀z∈l,z.length=1)->(l.map (·.length)).sum=l.length:=by
  intro l
  induction l with
  | nil=>intro _;rfl
  | cons z r ih=>intro h;rw [bL,jr,ih (λz hz=>h z (bS _ hz)),h z bO,eC];omega
 rw [aB] at hz;refine⟨_,D2,zs,rfl,rfl,aG.of gp,?_,?_⟩
 .have e0:(Str.ofString "").length=0:=rfl;rw [QW zs OG,e0];omega
 have hb:(Txt.join (Str.ofString "") zs).length<=16:=by
  have h1:=StrLaws.join_length_le (Str.ofString "") zs;have e0:(Str.ofString "").length=0:=rfl;rw [QW zs OG,e0] at h1;have e2:Txt.join (Str.ofString "") zs=Str.join (Str.ofString "") zs:=StrLaws.glued_eq_join _ _;rw [e2];omega
 have hS:um (Txt.join (Str.ofString "") zs):=um.join Wf;generalize Txt.join (Str.ofString "") zs=Ly at hb hS ⊢;have IF:=sm _ _ NF;have s3:=s2.trans sm;clear sm gp iY xb;refine⟨rP,λl hl=>?_⟩;refine⟨_,rfl,(m:Int),rfl,∅,∅,?_⟩;rw [pQ m];obtain⟨k1,ek1⟩:=Int.eq_ofNat_of_zero_le Z9.1;obtain⟨n2,a2,b2,g2⟩:=NI (2+k1) ∅;have hDl:∀o,upd H3 l o D=some (.lst (ns.map V.int)):=λo=>by rw [ai (aq IF hl)];exact IF
 refine jj (n:=m) (λi σ H4=>∃(ws:List Str)(k2 k3 k4:Option V),σ=[some (.int c),some (.int (m:Int)),some (.str ju),bj D,some (.int (1+n0 % 14)),some (.int (n1 % (1+n0 % 14))),some (.str Ly),bj l,k2,k3,k4] /\
  H4=upd H3 l (.lst (ws.map V.str))/\ws.length=i/\(∀z∈ws,fC z)/\∀j z,ws[j]?=some z->Ig (Dc Ly none (some (n1 % (1+n0 % 14)))) n2 j z) ⟨[],none,none,none,rfl,rfl,rfl,by simp,by simp⟩ ?_ ?_
 .rintro i σ H4 hi ⟨ws,k2,k3,k4,rfl,rfl,hw,M7,Tx⟩;obtain⟨cc,JT⟩:=Si (n2+5 * (0+(i:Int)));refine⟨_,rfl,_,rfl,_,rfl,_,_,rfl,rfl,D,_,_,.int n2,rfl,rfl,aG.of (hDl _),?_,_,rfl,_,_,rfl,rfl,.inl ⟨nofun,nofun⟩,_,_,rfl,rfl,_,_,rfl,rfl,(by show (0:Int) < 93;decide),ju,_,cc,rfl,rfl,nofun,JT,?_⟩
  .rw [ek1];have e:(2:Int)+(k1:Int)=((2+k1:Nat):Int):=by omega
   rw [e];exact g2
  refine⟨_,rfl,_,_,rfl,rfl,_,rfl,D,_,_,.int n1,rfl,rfl,aG.of (hDl _),g1,_,rfl,_,_,rfl,rfl,_,_,rfl,rfl,⟨by show (0:Int) < 0+(i:Int)+2;omega,by show (0:Int)+(i:Int)+2 < 1073741824;omega⟩,_,_,rfl,rfl,(by show (0:Int) < 15;decide),_,_,rfl,rfl,?_⟩;refine⟨_,rfl,.inl ⟨rfl,_,aG.of ae⟩,?_⟩;refine⟨_,rfl,_,rfl,_,rfl,Ly,rfl,fits ∅,?_⟩;have Wi:=Ft Ly none (some (n1 % (1+n0 % 14)));have TB:=hS.Dc none (some (n1 % (1+n0 % 14)));generalize Dc Ly none (some (n1 % (1+n0 % 14)))=z1 at Wi TB Tx ⊢;refine⟨_,rfl,_,_,rfl,rfl,fits (by show z1.length+1<=_;omega),?_⟩;refine⟨_,rfl,_,rfl,_,_,rfl,rfl,_,rfl,_,rfl,_,rfl,Ly,rfl,fits ∅,?_⟩;have Wg:=Ft Ly (some (n1 % (1+n0 % 14)+1)) (some (n1 % (1+n0 % 14)+1+n1 / (0+(i:Int)+2) % 15));have QX:=hS.Dc (some (n1 % (1+n0 % 14)+1)) (some (n1 % (1+n0 % 14)+1+n1 / (0+(i:Int)+2) % 15));generalize Dc Ly (some (n1 % (1+n0 % 14)+1)) (some (n1 % (1+n0 % 14)+1+n1 / (0+(i:Int)+2) % 15))=z2 at Wg QX ⊢;have ZE:(z1++(⟨#[cc]⟩:Str)).length=z1.length+1:=p6 _ _;refine⟨_,_,rfl,rfl,fits (by rw [ZE];omega),?_⟩;refine⟨l,_,_,rfl,rfl,ae,bI (by rw [aB];omega),?_⟩;refine⟨ws++[z1++⟨#[cc]⟩++z2],_,_,_,rfl,by rw [ig,bD];rfl,by rw [cu,hw];rfl,λz Wj=>?_,λj z hj=>?_⟩
  .rcases bZ.mp Wj with h | h
   .exact M7 z h
   rw [cJ.mp h];exact⟨by rw [p6,ZE];omega,((TB.app (um.one JT)).app QX).lt⟩
  rw [List.getElem?_append] at hj
  split at hj
  .exact Tx j z hj
  rename_i iF
  have ej:j=i:=by
   have:=(aY.mp hj).1;simp at this;omega
  subst ej;rw [hw,Nat.sub_self] at hj;cases hj;refine⟨cc,z2,rfl,?_⟩;have e0:n2+5 * (0+(j:Int))=n2+5 * (j:Int):=by omega
  rw [<-e0];exact JT
 rintro σ H4 ⟨ws,k2,k3,k4,rfl,rfl,hw,M7,Tx⟩;exact⟨_,rfl,q l ws _ (s3.free hl) (s3.trans (ah hl _)) ae hw M7 (Ji ∅ Tx)⟩
end
abbrev FA:Stmt:=top 44
abbrev Fz:Stmt:=top 45
abbrev wu:Stmt:=top 46
def G9 {n k:Nat}(h:k < n):JJ n (k:Int)=some k:=by
 unfold JJ;rw [az ∅,az ∅];simp
def zt {ns:List Int}{k:Nat}(h:k < ns.length):pI (ns.map V.int) (k:Int)=some (.int ns[k]):=cW (by rw [bq,c_ h];rfl)
def Ej (ns:List Int)(h:ns.length=5)(hi:Option Int):∃jB:List Int,hJ (ns.map V.int) (some 2) hi=jB.map V.int/\jB.length<=3:=by
 refine⟨(ns.drop (HT.dZ (ns.map V.int).length 0 (some 2))).take (HT.dZ (ns.map V.int).length (ns.map V.int).length hi - HT.dZ (ns.map V.int).length 0 (some 2)),by unfold hJ;rw [<-oQ,<-oR],?_⟩;have e1:HT.dZ (ns.map V.int).length 0 (some 2)=min 2 (ns.map V.int).length:=HT.kX _ _ 2;rw [dA,nv,e1,aB];omega
def Bd {zs:List Str}{m:Nat}(h:m<=zs.length)(hm:0 < m) (n:Int):∃z∈zs.take m,pI (zs.map V.str) (n % (m:Int))=some (.str z):=by
 have a:=Int.emod_nonneg n (show (m:Int)≠0 by omega);have b:=Int.emod_lt_of_pos n (show (0:Int) < m by omega);have h1:(n % (m:Int)).toNat < zs.length:=by omega
 refine⟨zs[(n % (m:Int)).toNat],?_,?_⟩
 .refine cD (i:=(n % (m:Int)).toNat) ?_;rw [pX ∅,c_ h1]
 have e:n % (m:Int)=(((n % (m:Int)).toNat:Nat):Int):=by omega
 have:=cW (xs:=zs.map V.str) (by rw [bq,c_ h1];rfl:(zs.map V.str)[(n % (m:Int)).toNat]?=some (.str zs[(n % (m:Int)).toNat]));rw [<-e] at this;exact this
section
def BH (K:aR):Sp:=λvs H Q _=>∃(c:Int)(p:Addr) (zs:List Str),vs=[.int c,.ref p]/\aG K H p (zs.map V.str)/\zs.length=8 /\
 ∀R p2 h (dU:List Str) H',aD H H'->H' R=some (.tup [.str h,.ref p2])->H' p2=some (.tup (dU.map V.str))->dU.length<=3->h∈zs.take 4->Q (.ref R) H'
def nN:aJ ["_law_cell","_law_pool_here","_law_digits","_law_k"] ["_law_cell","_law_pool_here"] (aw FA):=iP rfl rfl rfl rfl nofun
def Gp (F:hZ K "_law_rule" "_law_rule" FA f fd)(T:Txt mg)(GS:aL P w K mg base 1 "_law_stream" ["_law_cell","_law_many"] nH):bh P w K mg base fJ 2 f fd ["_law_cell","_law_pool_here"] (BH K):=by
 refine F.ok nN (by and_intros) (λdN A outer s H vs Q E hr h=>?_)
 obtain⟨c,p,zs,rfl,hp,h6,q⟩:=h;refine⟨_,aj (ik (iy:=2) ["_law_draw"] [] nN.nd rfl rfl rfl (aQ (bX GS hr rfl (af (bo iM (pv 0) ay) (af ay ak)))) (ba rfl rfl) nofun rfl nofun
   (λ_ _ _ _ _=>au (i:=0) (ndq nofun) rfl (bC rfl)) (λ_ _ _ _ _=>b9) (λ_ _ _ _ _=>bo iM (pv 0) ay))
  (aj (nW (cA (bB qa (bo eP (pv 0) ay) ay (cX _))
   (aj (aF (i:=0) nN.nd rfl (bC rfl) (bo iM (pv 0) ay))
   (ao (bK cx rfl (iu rfl T.FT (af ay ak)) (au (i:=3) nN.nd rfl (bC rfl))
    (ao (cA (bB Ca (pv 0) ay (cX _))
     (aj (Am (bo eP (bo Gh (pv 0) ay) ay) (My (pv 2) (pv 3) set_list))
     (ao (aF (i:=0) nN.nd rfl (bC rfl) (bo iM (bo Gh (pv 0) ay) ay)))) aZ))))) aZ))
  (ao (bc (bT (af (bH cO (pv 1) (bo eP (bH cO (pv 2) ay (λ_ _=>rfl)) ay) (λ_ _=>rfl))
   (af (aX gU rfl T.tup vX (af
    (bx ["_law_digit"] [(1,"_law_pool_here")] rfl (aQ (ff jx (pv 2) (d6 ay) (d6 (bo d7 ay (bo eP (bH cO (pv 2) ay (λ_ _=>rfl)) ay))))) (ba rfl rfl) nofun rfl nofun
     (λ_ _ _ _ _=>au (i:=0) (ndq nofun) rfl (bC rfl)) (λ_ _ _ _ _=>b9) (λ_ _ _ _ _=>bH (yK K) (pv 1) (bo eP (pv 0) ay) (λ_ _=>rfl))) ak)) ak)))))),?_⟩
 refine⟨_,rfl,_,_,rfl,rfl,⟨nofun,nofun⟩,c / 2,5,rfl,nofun,λD1 ns H1 hf0 s1 NF a8 _=>⟨D1,rfl,⟨_,aG.of NF⟩,λD hD=>?_⟩⟩;refine bY (xs:=ns.map V.int) (λi ys σ2 H3=>∃ms:List Int,ys=ms.map V.int/\ms.length=i/\(∃y,σ2=[y])/\aD H1 H3/\H3 D=some (.lst ys))
  ⟨[],rfl,rfl,⟨none,rfl⟩,ah hD _,ae⟩ (λi ys σ2 H3 _ h=>?_) (λi x ys σ2 H3 ex h=>?_) (λys σ2 H3 h=>?_)
 .obtain⟨_,_,_,_,sm,_⟩:=h;exact aG.of (sm _ _ NF)
 .obtain⟨ms,rfl,hm,⟨y,rfl⟩,sm,gp⟩:=h;rw [bq] at ex;obtain⟨n,en,rfl⟩:=bR.mp ex;have li:i < ns.length:=(aY.mp en).1;refine goN ?_;refine xi ?_;refine⟨_,rfl,_,_,rfl,rfl,⟨nofun,nofun⟩,gp,bI (by rw [aB];omega),ms++[n / 16],by rw [bD];rfl,by rw [cu,hm];rfl,⟨_,rfl⟩,λb o hb=>?_,ae⟩;rw [ai (λz=>by rw [z,hD] at hb;cases hb)];exact sm b o hb
 obtain⟨VM,rfl,Rg,_,S_,qt⟩:=h;rw [aB,a8] at Rg;have s3:=s1.trans S_;have fD:=s1.free hD;refine⟨λσ H2=>∃(c2:Int)(ms:List Int)(k2:Option V),σ=[some (.int c2),bj p,bj D,k2]/\H2=upd H3 D (.lst (ms.map V.int))/\ms.length=5,?_,?_⟩
 .refine⟨_,rfl,_,_,rfl,rfl,(by show (0:Int) < 2;decide),rfl,_,rfl,?_⟩;refine d_ (λ_=>?_) (λ_=>?_)
  .refine⟨_,rfl,_,_,rfl,rfl,⟨nofun,nofun⟩,5,rfl,nofun,nofun,?_⟩;refine jj (n:=5) (λi σ H2=>∃(c2:Int)(ms:List Int)(k2:Option V),σ=[some (.int c2),bj p,bj D,k2]/\H2=upd H3 D (.lst (ms.map V.int))/\ms.length=5) ⟨_,VM,none,rfl,?_,Rg⟩ ?_ ?_
   .funext b
    by_cases h:b=D
    .rw [h,ae];exact qt
    rw [ai h]
   .rintro i σ H2 hi ⟨c2,ms,k2,rfl,rfl,hm⟩;have e0:(0:Int)+(i:Int)=((i:Nat):Int):=by omega
    rw [e0];have lt:i < ms.length:=by omega
    refine⟨_,rfl,_,_,rfl,rfl,_,rfl,?_⟩;refine d_ (λ_=>?_) (λ_=>?_)
    .refine⟨_,rfl,_,_,rfl,rfl,_,_,rfl,rfl,(by show (0:Int) < 16;decide),_,rfl,_,rfl,D,_,_,i,rfl,rfl,ae,G9 (by rw [aB];exact lt),?_⟩;refine⟨_,rfl,_,_,rfl,rfl,_,_,rfl,rfl,⟨nofun,nofun⟩,?_⟩;exact⟨_,_,_,rfl,by rw [ig,<-List.map_set],by rw [List.length_set];exact hm⟩
    exact⟨_,_,_,rfl,rfl,hm⟩
   exact λσ H2 z=>z
  have e:H3=upd H3 D (.lst (VM.map V.int)):=by
   funext b
   by_cases h:b=D
   .rw [h,ae];exact qt
   rw [ai h]
  exact⟨c,VM,none,rfl,e,Rg⟩
 rintro σ H2 ⟨c2,ms,k2,rfl,rfl,hm⟩;have sm:aD H (upd H3 D (.lst (ms.map V.int))):=λb o hb=>by rw [ai (aq hb fD)];exact s3 _ _ hb
 have iY:upd H3 D (.lst (ms.map V.int)) D=some (.lst (ms.map V.int)):=ae;generalize upd H3 D (.lst (ms.map V.int))=H2 at sm iY;have AU:=sm.seq hp;obtain⟨z0,hz4,hz0⟩:=Bd (zs:=zs) (m:=4) ∅ nofun (ms[0]'∅);refine⟨_,rfl,_,rfl,D,_,_,_,rfl,rfl,aG.of iY,zt (k:=0) ∅,_,_,rfl,rfl,(by show (0:Int) < 4;decide),p,_,_,_,rfl,rfl,AU,hz0,?_⟩;refine⟨_,rfl,2,rfl,_,rfl,D,_,_,_,rfl,rfl,aG.of iY,zt (k:=1) ∅,_,_,rfl,rfl,(by show (0:Int) < 4;decide),_,_,rfl,rfl,_,rfl,D,_,rfl,aG.of iY,λc1 Lg=>?_⟩;obtain⟨jB,e1,l1⟩:=Ej ms hm (some ((2:Int)+(ms[1]'∅) % 4));rw [e1];have BP:=sm.trans (ah Lg (.lst (jB.map V.int)));have xb:upd H2 c1 (.lst (jB.map V.int)) c1=some (.lst (jB.map V.int)):=ae;generalize upd H2 c1 (.lst (jB.map V.int))=H3 at BP xb;refine⟨c1,rfl,⟨_,aG.of xb⟩,λE2 hE2=>bY (xs:=jB.map V.int) (λi ys σ2 H4=>∃ws:List Str,ys=ws.map V.str/\ws.length=i/\(∃y,σ2=[y,bj p])/\aD H3 H4/\H4 E2=some (.lst ys))
  ⟨[],rfl,rfl,⟨none,rfl⟩,ah hE2 _,ae⟩ (λi ys σ2 H4 _ h=>?_) (λi x ys σ2 H4 ex h=>?_) (λys σ2 H4 h=>?_)⟩
 .obtain⟨_,_,_,_,C_,_⟩:=h;exact aG.of (C_ _ _ xb)
 .obtain⟨ws,rfl,hw,⟨y,rfl⟩,C_,qW⟩:=h;rw [bq] at ex;obtain⟨n,en,rfl⟩:=bR.mp ex;obtain⟨z1,_,OG⟩:=Bd (zs:=zs) (m:=7) ∅ nofun n;have li:i < jB.length:=(aY.mp en).1;refine goN ?_;refine xi ?_;refine⟨_,rfl,_,rfl,_,_,rfl,rfl,(by show (0:Int) < 7;decide),p,_,_,_,rfl,rfl,C_.seq (BP.seq hp),OG,qW,bI (by rw [aB];omega),ws++[z1],?_,?_,⟨_,rfl⟩,?_,?_⟩
  .rw [bD];rfl
  .rw [cu,hw];rfl
  .intro b o hb;rw [ai (λz=>by rw [z,hE2] at hb;cases hb)];exact C_ b o hb
  rw [ae]
 obtain⟨ws,rfl,hw,⟨y,rfl⟩,C_,qW⟩:=h;rw [aB] at hw;refine⟨E2,_,rfl,.inl ⟨aG.of qW,λt1 OJ=>⟨mq,λR hR=>?_⟩⟩⟩;have ntR:t1≠R:=λz=>by rw [<-z,ae] at hR;cases hR
 exact q R t1 z0 ws _ (BP.trans (C_.trans ((ah OJ _).trans (ah hR _)))) ae (by rw [ai ntR,ae]) ∅ hz4
def vf (ns:List Str)(lo hi:Option Int):∃jB:List Str,hJ (ns.map V.str) lo hi=jB.map V.str/\(∀n∈jB,n∈ns)/\jB.length<=ns.length :=
 ⟨(ns.drop (HT.dZ (ns.map V.str).length 0 lo)).take (HT.dZ (ns.map V.str).length (ns.map V.str).length hi - HT.dZ (ns.map V.str).length 0 lo),by unfold hJ;rw [<-oQ,<-oR],λn hn=>List.mem_of_mem_drop (pV hn),by rw [dA,nv];omega⟩
def Ei (ns:List Str) (d:Int):∃jB:List Str,hJ (ns.map V.str) none (some (1+d % 3))=jB.map V.str/\(∀n∈jB,n∈ns)/\jB.length<=3:=by
 have e0:(1:Int)+d % 3=(((1+d % 3).toNat:Nat):Int):=by omega
 rw [e0];have e2:=HT.kX (ns.map V.str).length (ns.map V.str).length (1+d % 3).toNat;refine⟨ns.take (min (1+d % 3).toNat (ns.map V.str).length),?_,λn hn=>pV hn,by rw [dA];omega⟩;unfold hJ;rw [HT.yd,e2,List.drop_zero,Nat.sub_zero,<-oR]
def Fj (K:aR):Sp:=λvs H Q _=>∃(c:Int)(p:Addr) (zs:List Str),vs=[.int c,.ref p]/\aG K H p (zs.map V.str)/\zs.length<=8/\(∀z∈zs,fC z) /\
 ∀(D:Addr)(ss:List Addr)(str:List av)(H':Hp),H D=none->aD H H'->H' D=some (.lst (ss.map V.ref))->bz K H' ss str->str.length<=4->(∀ru∈str,ru.2.length<=8)->(∀ru∈str,∀z∈ru.2,fC z)->Q (.ref D) H'
def mw:aJ ["_law_cell","_law_pool_here","_law_rows","_law_left","_law_draw","_law_some"] ["_law_cell","_law_pool_here"] (aw Fz):=iP rfl rfl rfl rfl nofun
def Jr (F:hZ K "_law_strengths" "_law_strengths" Fz f fd)(T:Txt mg)(GS:aL P w K mg base 1 "_law_stream" ["_law_cell","_law_many"] nH):bh P w K mg base fJ 2 f fd ["_law_cell","_law_pool_here"] (Fj K):=by
 refine F.ok mw (by and_intros) (λdN A outer s H vs Q E hr h=>?_)
 obtain⟨c,p,zs,rfl,hp,h8,Iw,q⟩:=h;have hu:=vF (gk hr);refine⟨_,aj (aF (i:=2) mw.nd rfl (bC rfl) (bU ak))
  (aj (aF (i:=3) mw.nd rfl (bC rfl) (aX df rfl T.lst dW (af (pv 1) ak)))
  (aj (bK cx rfl (aQ (bX GS hr rfl (af (pv 0) (af (bo eP (pv 0) ay) ak)))) (au (i:=4) mw.nd rfl (bC rfl))
   (aj (aF (i:=5) mw.nd rfl (bC rfl) (ff jx (pv 3) jy (d6 (bo d7 ay (bo eP (pv 4) ay)))))
   (aj (nW (cA (bB Ca (bo eP (bo iM (pv 4) ay) ay) ay (cX _)) (ao (aF (i:=3) mw.nd rfl (bC rfl) (ff jx (pv 3) (d6 (bo d7 ay (bo eP (pv 4) ay))) jy))) aZ))
   (aj (nW (cA (bB qa (bo eP (bo iM (pv 4) ay) ay) ay (cX _)) (ao (aF (i:=5) mw.nd rfl (bC rfl) (bo wQ (pv 5) (ff jx (pv 5) jy (d6 ay))))) aZ))
   (ao (cA (bB (uO hu) (pv 5) (bU ak) (cX _)) (ao (b8 (gZ ie iI iJ cq (pv 2) (af (bT (af (bH cO (bU (af sF (af sF (af sF ak)))) (bo eP (bo iM (pv 4) ay) ay) (λ_ _=>rfl)) (af (aX gU rfl T.tup vX (af (pv 5) ak)) ak))) ak)))) aZ))))))
  (ao (bc (pv 2))))),?_⟩
 nofun
 refine⟨rP,λD hD=>?_⟩;have s1:=ah hD (.lst []);have e1:upd H D (.lst []) D=some (.lst []):=ae;generalize upd H D (.lst [])=H1 at s1 e1
 ac_rfl
 refine⟨_,rfl,p,_,rfl,.inl (s1.seq hp),λL0 OO=>?_⟩;have s2:=s1.trans (ah OO (.lst (zs.map V.str)));have e2:=ah OO (.lst (zs.map V.str)) _ _ e1;have eL0:upd H1 L0 (.lst (zs.map V.str)) L0=some (.lst (zs.map V.str)):=ae;generalize upd H1 L0 (.lst (zs.map V.str))=H2 at s2 e2 eL0
 ac_rfl
 have em:c % 5=(((c % 5).toNat:Nat):Int):=by omega
 refine⟨_,rfl,_,rfl,_,_,rfl,rfl,(by show (0:Int) < 5;decide),c,(c % 5).toNat,congrArg (λi=>[V.int c,V.int i]) em,∅,λS ds H3 fS s3 eS lS IB=>⟨S,rfl,⟨_,aG.of eS⟩,?_⟩⟩;have yg:=s2.trans s3;have eD3:=s3 _ _ e2;have nSD:D≠S:=aq e2 fS
 let oJ:oN:=λi σ H4=>∃(L:Addr) (ls:List Str)(ss:List Addr)(str:List av)(y4 y5:Option V),σ=[some (.int c),bj p,bj D,bj L,y4,y5]/\aD H H4/\H4 S=some (.lst (ds.map V.int))/\H4 D=some (.lst (ss.map V.ref))/\H4 L=some (.lst (ls.map V.str))/\L≠D /\
  bz K H4 ss str/\str.length<=i/\(∀ru∈str,ru.2.length<=8)/\(∀ru∈str,∀z∈ru.2,fC z)/\(∀z∈ls,fC z)/\ls.length<=8
 refine cm (xs:=ds.map V.int) oJ ⟨L0,zs,[],[],_,_,rfl,yg,eS,eD3,s3 _ _ eL0,(aq e1 OO).symm,.nil,by simp,by simp,by simp,Iw,h8⟩ ?_ ?_ ?_
 .rintro i σ H4 _ ⟨L,ls,ss,str,y4,y5,rfl,s4,RZ,_⟩;exact aG.of RZ
 .intro i x σ H4 ex qw
  ac_nf0
  obtain⟨L,ls,ss,str,y4,y5,rfl,s4,RZ,HF,Cu,Zt,Jb,Qu,TY,u0,IA,OE⟩:=qw;rw [bq] at ex;obtain⟨d,ed,rfl⟩:=bR.mp ex;have li:=(aY.mp ed).1;refine goN ?_
  ac_nf
  refine⟨_,rfl,_,rfl,_,_,rfl,rfl,(by show (0:Int) < 3;decide),_,_,rfl,rfl,_,rfl,L,_,rfl,aG.of Cu,λS5 Z_=>?_⟩;obtain⟨so,eso,Wr,lso⟩:=Ei ls d;rw [eso];have k5:=ah Z_ (.lst (so.map V.str));have e5:upd H4 S5 (.lst (so.map V.str)) S5=some (.lst (so.map V.str)):=ae;have n5:D≠S5:=aq HF Z_;generalize upd H4 S5 (.lst (so.map V.str))=H5 at k5 e5
  ac_rfl
  refine⟨λσ H6=>∃(L:Addr) (ls:List Str),σ=[some (.int c),bj p,bj D,bj L,some (.int d),bj S5]/\aD H5 H6/\H6 L=some (.lst (ls.map V.str))/\L≠D/\(∀z∈ls,fC z)/\ls.length<=8,?_,?_⟩
  .refine⟨_,rfl,_,_,rfl,rfl,⟨nofun,nofun⟩,_,_,rfl,rfl,(by show (0:Int) < 8;decide),_,_,rfl,rfl,_,rfl,?_⟩;refine d_ (λ_=>?_) (λ_=>?_)
   .refine⟨_,rfl,_,rfl,_,_,rfl,rfl,(by show (0:Int) < 3;decide),_,_,rfl,rfl,_,rfl,L,_,rfl,aG.of (k5 _ _ Cu),λL6 hL6=>?_⟩;obtain⟨l6,el6,hl6,ll6⟩:=vf ls (some (1+d % 3)) none;rw [el6];exact⟨L6,l6,rfl,ah hL6 _,ae,(aq (k5 _ _ HF) hL6).symm,λz hz=>IA z (hl6 z hz),∅⟩
   exact⟨L,ls,rfl,λ_ _ h=>h,k5 _ _ Cu,Zt,IA,OE⟩
  rintro σ H6 ⟨L2,Zx,rfl,Td,Kg,VI,Rh,Qw⟩;have k46:=k5.trans Td
  ac_rfl
  refine⟨λσ H7=>∃(S7:Addr) (so:List Str),σ=[some (.int c),bj p,bj D,bj L2,some (.int d),bj S7]/\aD H6 H7/\H7 S7=some (.lst (so.map V.str))/\(∀z∈so,fC z)/\so.length<=8,?_,?_⟩
  .refine⟨_,rfl,_,_,rfl,rfl,⟨nofun,nofun⟩,_,_,rfl,rfl,(by show (0:Int) < 8;decide),rfl,_,rfl,?_⟩;refine d_ (λ_=>?_) (λ_=>?_)
   .refine⟨_,rfl,_,rfl,1,rfl,S5,_,rfl,aG.of (Td _ _ e5),λT6 hT6=>?_⟩;obtain⟨t6,et6,ht6,lt6⟩:=vf so none (some 1);rw [et6];have k6:=ah hT6 (.lst (t6.map V.str));have e6:upd H6 T6 (.lst (t6.map V.str)) T6=some (.lst (t6.map V.str)):=ae;generalize upd H6 T6 (.lst (t6.map V.str))=H7 at k6 e6;refine⟨S5,T6,_,_,rfl,rfl,k6 _ _ (Td _ _ e5),e6,fits (by rw [aB,aB];omega),λU hU=>?_⟩;refine⟨U,so++t6,rfl,k6.trans (ah hU _),by rw [ae,bD],λz hz=>?_,by rw [cu];omega⟩;rcases bZ.mp hz with h | h
    .exact IA z (Wr z h)
    exact IA z (Wr z (ht6 z h))
   exact⟨S5,so,rfl,λ_ _ h=>h,Td _ _ e5,λz hz=>IA z (Wr z hz),∅⟩
  rintro σ H7 ⟨S7,PN,rfl,BV,eS7,Wq,VY⟩;have k47:=k46.trans BV;refine⟨_,rfl,rP,λD8 JW=>?_⟩;have k8:=ah JW (.lst []);have e8:upd H7 D8 (.lst []) D8=some (.lst []):=ae;generalize upd H7 D8 (.lst [])=H8 at k8 e8;have M4:=k47.trans k8;have Zf:=s4.trans M4;refine⟨S7,D8,_,rfl,rfl,aG.of (k8 _ _ eS7),aG.of e8,_,rfl,?_⟩;refine d_ (λ_=>?_) (λ_=>?_)
  .have Ui:=M4 _ _ HF;refine⟨_,rfl,.inl ⟨rfl,_,aG.of Ui⟩,YT,λL9 hL9=>?_⟩;have k9:=ah hL9 (.lst [.str "left",.str "right",.str "none"]);have e9:upd H8 L9 (.lst [.str "left",.str "right",.str "none"]) L9=some (.lst ((["left","right","none"]:List Str).map V.str)):=ae;generalize upd H8 L9 (.lst [.str "left",.str "right",.str "none"])=H9 at k9 e9;obtain⟨wy,_,ewy⟩:=Bd (zs:=(["left","right","none"]:List Str)) (m:=3) nofun nofun (d / 3);refine⟨_,rfl,_,_,rfl,rfl,⟨nofun,nofun⟩,_,_,rfl,rfl,(by show (0:Int) < 3;decide),L9,_,_,_,rfl,rfl,aG.of e9,ewy,_,rfl,S7,_,rfl,.inl ⟨aG.of (k9 _ _ (k8 _ _ eS7)),λt1 OJ=>⟨mq,λR hR=>?_⟩⟩⟩;have kt:=ah OJ (.tup (PN.map V.str));have et:upd H9 t1 (.tup (PN.map V.str)) t1=some (.tup (PN.map V.str)):=ae;generalize upd H9 t1 (.tup (PN.map V.str))=uo at hR kt et;have kR:=ah hR (.tup [.str wy,.ref t1]);have eR:upd uo R (.tup [.str wy,.ref t1]) R=some (.tup [.str wy,.ref t1]):=ae;generalize upd uo R (.tup [.str wy,.ref t1])=CQ at kR eR;have G7:=(k9.trans kt).trans kR;have Ki:=G7 _ _ Ui;have lss:=bG Jb;refine⟨D,_,_,rfl,rfl,Ki,bI (by rw [aB];omega),?_⟩;have fD:H D=none:=hD;refine⟨L2,Zx,ss++[R],str++[(wy,PN)],_,_,rfl,λb o hb=>?_,by rw [ai nSD.symm];exact(M4.trans G7) _ _ RZ,by rw [ae,bD];rfl,by rw [ai VI];exact(BV.trans (k8.trans G7)) _ _ Kg,VI,?_,by rw [cu];simp;omega,λru fK=>?_,λru fK=>?_,Rh,Qw⟩
   .rw [ai (λz=>by rw [z,fD] at hb;cases hb)];exact(Zf.trans G7) b o hb
   .exact gh ((bz.same Jb (M4.trans G7)).keep λ_ _ z=>a_ Ki z) ⟨t1,a_ Ki (bf.of eR),a_ Ki (kR.tup (bf.of et))⟩
   .rcases bZ.mp fK with h | h
    .exact TY ru h
    rw [cJ.mp h];exact VY
   rcases bZ.mp fK with h | h
   .exact u0 ru h
   rw [cJ.mp h];exact Wq
  exact⟨L2,Zx,ss,str,_,_,rfl,Zf,M4 _ _ RZ,M4 _ _ HF,(BV.trans k8) _ _ Kg,VI,bz.same Jb M4,∅,TY,u0,Rh,Qw⟩
 rintro σ H4 ⟨L,ls,ss,str,y4,y5,rfl,s4,RZ,HF,Cu,Zt,Jb,Qu,TY,u0,IA,OE⟩;rw [aB] at Qu;exact⟨_,rfl,q D ss str H4 hD s4 HF Jb ∅ TY u0⟩
end
def mQ {aa:List av}{x:Str}:x∈hd aa↔x∈aa.map (·.1):=by
 show x∈m_ [] (aa.map (·.1))↔_;rw [eX];simp
def yO (aa:List av):(hd aa).Nodup:=mZ _ jJ
def g7 (aa:List av) (n:Nat):List Str:=passes (λe=>lX true (hd aa) e aa) n []
theorem qZ (aa:List av):∀n,EO true (hd aa) aa (g7 aa n)
 | 0=>⟨jJ,λi h e=>by cases e⟩
 | n+1=>EO.pass aa (λ_ h=>h) (qZ aa n)
def HC (aa:List av){n:Nat}(hn:(hd aa).length<=n):∀ru∈aa,dH true (hd aa) (g7 aa n) ru=g7 aa n:=by
 have key:∀n,(g7 aa (n+1)=g7 aa n/\∀ru∈aa,dH true (hd aa) (g7 aa n) ru=g7 aa n)\/n < (g7 aa (n+1)).length:=by
  intro n
  induction n with
  | zero=>exact kM true (hd aa) aa []
  | succ n ih =>
   rcases ih with ⟨a,b⟩ | c
   .left;rw [show g7 aa (n+1+1)=lX true (hd aa) (g7 aa (n+1)) aa from rfl,a];exact⟨a,b⟩
   rcases kM true (hd aa) aa (g7 aa (n+1)) with h | h
   .exact .inl h
   right;have h2:(g7 aa (n+1)).length < (g7 aa (n+1+1)).length:=h;omega
 rcases key n with ⟨_,b⟩ | c
 .exact b
 have e1:=qZ aa (n+1);have:=d8 _ (hd aa) e1.nd (λx hx=>mQ.mpr (e1.sub x hx));omega
def yX {aa:List av}{n:Nat}(hn:(hd aa).length<=n){ru:av}(hr:ru∈aa)(h:∀p∈ru.2,p∈g7 aa n\/p∉hd aa):ru.1∈g7 aa n:=by
 have:=HC aa hn ru hr;unfold dH at this;by_cases c:ru.1∈g7 aa n
 .exact c
 rw [az] at this
 .have:=congrArg List.length this;rw [cu] at this;simp at this
 refine lQ.mpr ⟨fO.mpr λp hp=>?_,by simpa using c⟩;simp only [Bool.or_eq_true,decide_eq_true_eq,iH,rC,decide_eq_false_iff_not];exact(h p hp).imp id λz=>⟨trivial,z⟩
def HB {aa:List av}{g:G}(st:cH M11.bl aa (lH aa) g)(se:dJ M11.bl aa g){h:Str}(hh:h∈hd aa):(g h).isNone=!decide (h∈g7 aa (hd aa).length):=by
 have snd:∀(i:Nat)(x:Str),(g7 aa (hd aa).length)[i]?=some x->(g x).isSome=true:=λi=>by
  induction i using Nat.strongRecOn with
  | ind i ih =>
   intro x hx;obtain⟨dU,a,b⟩:=(qZ aa _).ord i x hx;refine p8 se a λp hp=>?_;rcases b p hp with c | ⟨_,c⟩
   .obtain⟨j,hj⟩:=fA c;have lj:=(aY.mp hj).1;rw [dA] at lj;rw [pX ∅] at hj;exact ih j ∅ p hj
   refine xZ st ?_;unfold lH;rw [az (qE _ _ [] p (.inr ⟨oY.mpr ⟨_,a,hp⟩,c⟩))];rfl
 have cpl:∀z,(g z).isSome=true->z∈g7 aa (hd aa).length\/z∉hd aa:=by
  clear se snd
  induction st with
  | refl =>
   intro z hz;right;unfold lH at hz
   split at hz
   .rename_i c
    exact qD _ _ [] (λy hy=>by cases hy) z c
   cases hz
  | @step g1 ru UZ fK fr ih =>
   intro z hz;unfold dq at hz
   split at hz
   .rename_i c
    left;rw [c];refine yX (aH _) fK λp hp=>ih p ?_;unfold bV at fr;rw [iH] at fr;exact fO.mp fr.1 p hp
   exact ih z hz
 cases e:g h with
 | none =>
  symm
  simp only [Option.isNone_none,rC,decide_eq_false_iff_not];intro c;obtain⟨i,hi⟩:=fA c;have:=snd i h hi;rw [e] at this;cases this
 | some n =>
  symm
  simp only [Option.isNone_some,Bool.not_eq_false',decide_eq_true_eq];exact(cpl h (by rw [e];rfl)).resolve_right λc=>c hh
def iB (M:List Str)(ru:av):List Str:=if ru.1∈M then M++ru.2.filter (λp=>!decide (p∈M)) else M
def iC (aa:List av)(s:Str) (n:Nat):List Str:=passes (λM=>aa.foldl iB M) n [s]
def Cf {M:List Str}{ru:av}{x:Str}(h:x∈M):x∈iB M ru:=by
 unfold iB
 split
 .exact i8 _ h
 exact h
theorem qR:∀(rs:List av){M:List Str}{x:Str},x∈M->x∈rs.foldl iB M
 | [],_,_,h=>h
 | _::rs,_,_,h=>qR rs (Cf h)
theorem yE:∀(rs:List av){M:List Str}{ru:av},ru∈rs->ru.1∈M->∀p∈ru.2,p∈rs.foldl iB M
 | r::rs,M,ru,hr,h,p,hp=>by
  show p∈rs.foldl iB (iB M r);rcases bN.mp hr with e | e
  .subst e;refine qR rs ?_;unfold iB;rw [az h];by_cases c:p∈M
   .exact i8 _ c
   exact fP _ (eB.mpr ⟨hp,by simpa using c⟩)
  exact yE rs e (Cf h) p hp
theorem yD {aa:List av}{s:Str}:∀(rs:List av){M:List Str},(∀ru∈rs,ru∈aa)->(∀x∈M,vy aa s x)->∀x∈rs.foldl iB M,vy aa s x
 | [],_,_,h=>h
 | r::rs,M,hs,h=>yD rs (λru hr=>hs ru (bS _ hr)) λx hx=>by
  unfold iB at hx
  split at hx
  .rename_i c
   rcases bZ.mp hx with e | e
   .exact h x e
   exact .step (h _ c) (hs r bO) (eB.mp e).1
  exact h x hx
theorem yB {aa:List av}{s:Str}:∀n,∀x∈iC aa s n,vy aa s x
 | 0=>λx hx=>by rw [cJ.mp hx];exact .start
 | n+1=>yD aa (λ_ h=>h) (yB n)
theorem mz {aa:List av}{s:Str}:∀n,s∈iC aa s n
 | 0=>cJ.mpr rfl
 | n+1=>qR aa (mz n)
def ClM (aa:List av) (M:List Str):Prop:=∀ru∈aa,ru.1∈M->∀p∈ru.2,p∈M
theorem uS:∀(rs:List av){M:List Str},(∀ru∈rs,ru.1∈M->∀p∈ru.2,p∈M)->rs.foldl iB M=M
 | [],_,_=>rfl
 | r::rs,M,h=>by
  have e:iB M r=M:=by
   unfold iB
   split
   .rename_i c
    rw [rK.mpr λp hp=>by simpa using h r bO c p hp,gJ]
   rfl
  show rs.foldl iB (iB M r)=M;rw [e];exact uS rs λru hr=>h ru (bS _ hr)
def yC {aa:List av}{s:Str}(hs:s∈hd aa):ClM aa (iC aa s (hd aa).length):=by
 have key:∀n,ClM aa (iC aa s n)\/n < ((hd aa).filter λx=>decide (x∈iC aa s n)).length:=by
  intro n
  induction n with
  | zero =>
   right;have:s∈(hd aa).filter λx=>decide (x∈iC aa s 0):=eB.mpr ⟨hs,cw (mz 0)⟩;exact vW this
  | succ n ih =>
   rcases ih with c | c
   .left;rw [show iC aa s (n+1)=iC aa s n from uS aa c];exact c
   by_cases e:∀h∈hd aa,h∈iC aa s (n+1)->h∈iC aa s n
   .left;intro ru fK hm p hp;exact yE aa fK (e ru.1 (mQ.mpr (cN.mpr ⟨ru,fK,rfl⟩)) hm) p hp
   right;obtain⟨h,e⟩:=vR.mp e;obtain⟨e1,e⟩:=Classical.not_imp.mp e;obtain⟨e2,e3⟩:=Classical.not_imp.mp e;have:=k_ (p:=λx=>decide (x∈iC aa s n)) (q:=λx=>decide (x∈iC aa s (n+1))) (λx hx=>cw (qR aa (dY hx))) e1 (cw e2) (dO e3);omega
 rcases key (hd aa).length with c | c
 .exact c
 have:=i9 (λx=>decide (x∈iC aa s (hd aa).length)) (hd aa);omega
def MP {aa:List av}{s:Str}(hs:s∈hd aa){ms:List Str}(h0:s∈ms)(rc:∀x∈ms,vy aa s x)(mc:oH aa aa.length ms)(h:Str):decide (h∈ms)=decide (h∈iC aa s (hd aa).length):=by
 refine decide_eq_decide.mpr ⟨λhm=>?_,λhm=>FV h0 mc (yB _ h hm)⟩;have:=rc h hm;clear hm
 induction this with
 | start=>exact mz _
 | step _ h1 h2 ih=>exact yC hs _ h1 ih _ h2
def kP (aa:List av) (n:Nat):List Str:=passes (λe=>lX false [] e aa) n []
theorem xp (aa:List av):∀n,EO false [] aa (kP aa n)
 | 0=>⟨jJ,λi h e=>by cases e⟩
 | n+1=>EO.pass aa (λ_ h=>h) (xp aa n)
def HE (aa:List av){n:Nat}(hn:(hd aa).length<=n):∀ru∈aa,dH false [] (kP aa n) ru=kP aa n:=by
 have key:∀n,(kP aa (n+1)=kP aa n/\∀ru∈aa,dH false [] (kP aa n) ru=kP aa n)\/n < (kP aa (n+1)).length:=by
  intro n
  induction n with
  | zero=>exact kM false [] aa []
  | succ n ih =>
   rcases ih with ⟨a,b⟩ | c
   .left;rw [show kP aa (n+1+1)=lX false [] (kP aa (n+1)) aa from rfl,a];exact⟨a,b⟩
   rcases kM false [] aa (kP aa (n+1)) with h | h
   .exact .inl h
   right;have h2:(kP aa (n+1)).length < (kP aa (n+1+1)).length:=h;omega
 rcases key n with ⟨_,b⟩ | c
 .exact b
 have e1:=xp aa (n+1);have:=d8 _ (hd aa) e1.nd (λx hx=>mQ.mpr (e1.sub x hx));omega
def Kf (aa:List av){n:Nat}(hn:(hd aa).length<=n)(x:Str):x∈kP aa n↔Em aa x:=by
 constructor
 .intro hx;obtain⟨i,hi⟩:=fA hx;clear hx
  induction i using Nat.strongRecOn generalizing x with
  | ind i ih =>
   obtain⟨dU,a,b⟩:=(xp aa n).ord i x hi;refine .mk a λp hp=>?_;rcases b p hp with c | ⟨c,_⟩
   .obtain⟨j,hj⟩:=fA c;have lj:=(aY.mp hj).1;rw [dA] at lj;rw [pX ∅] at hj;exact ih j ∅ p hj
   cases c
 intro hx
 induction hx with
 | @mk ru hr hp ih =>
  have:=HE aa hn _ hr;unfold dH at this;refine rO λc=>?_;rw [az] at this
  .have:=congrArg List.length this;rw [cu] at this;simp at this
  refine lQ.mpr ⟨fO.mpr λp hp=>?_,by simpa using c⟩;rw [cw (ih p hp)];rfl
def g9 (aa:List av) (k j:Nat)(n z:Str):Prop:=∃ru,aa[k]?=some ru/\ru.1=n/\ru.2[j]?=some z/\z∈hd aa/\∀i x,ru.2[i]?=some x->i≠j->Em aa x
def JD {b:Str->Bool}{zs:List Str}{j:Nat}(h:∀i x,zs[i]?=some x->i≠j->b x=true):wY b zs j=true:=by
 unfold wY zH;have one:∀l:List Nat,l.Nodup->(∀i∈l,i=j)->l=[]\/l=[j]:=λl nd al=>by
  match l,nd,al with
  | [],_,_=>exact .inl rfl
  | [a],_,al=>exact .inr (by rw [al a bO])
  | a::b::r,nd,al =>
   have e1:=al a bO;have e2:=al b (bS _ bO);exact absurd (e1.trans e2.symm ▸ bO:a∈b::r) (jV.mp nd).1
 rw [Bool.or_eq_true];rcases one ((List.range zs.length).filter λj=>!(zs[j]?.elim true b)) (List.nodup_range.sublist List.filter_sublist) (λi hi=>by
  obtain⟨h1,h2⟩:=eB.mp hi;have li:=jT.mp h1;refine rO λne=>?_;rw [c_ li] at h2;have h3:=h i _ (c_ li) ne;have h2':(!b (zs[i]'li))=true:=h2;rw [h3] at h2';cases h2') with e | e
 .left;rw [e];exact cw rfl
 right;rw [e];exact cw rfl
def GV {b:Str->Bool}{zs:List Str}{i j:Nat}{x:Str}(h:wY b zs j=true)(e:zs[i]?=some x)(n:i≠j):b x=true:=yI h e n
def Ck {aa:List av}{aP:List (Str×Nat)}(em:qC aa aP)(ec:nj aa aa.length aP){n:Str}{k j:Nat}:Kz aa (hd aa) (λz=>decide (z∈aP.map (·.1))) n k j↔∃z,g9 aa k j n z:=by
 constructor
 .rintro⟨ru,z,e1,e2,e3,e4,e5⟩;exact⟨z,ru,e1,e2,e3,e4,λi x ex ne=>tI em x (dY (GV e5 ex ne))⟩
 rintro⟨z,ru,e1,e2,e3,e4,e5⟩;exact⟨ru,z,e1,e2,e3,e4,JD λi x ex ne=>cw (xq ec (e5 i x ex ne))⟩
def oG.way {aa:List av}{st:Str->List (Nat×Nat)}(h:oG aa st){n:Str}(hn:n∈hd aa){e:Nat×Nat}:e∈st n↔∃z,g9 aa e.1 e.2 n z:=by
 obtain⟨aP,em,ec,hits⟩:=h;exact(hits n e.1 e.2 hn).trans (Ck em ec)
def g9.uniq {aa:List av}{k j:Nat}{n z:Str}(h:g9 aa k j n z){ru:av}{y:Str}(e1:aa[k]?=some ru)(e2:ru.2[j]?=some y):ru.1=n/\y=z/\z∈hd aa:=by
 obtain⟨kY,a,b,c,d,_⟩:=h;rw [e1] at a;cases a;rw [e2] at c;cases c;exact⟨b,rfl,d⟩
theorem xI.hd {aa:List av}{st:Str->List (Nat×Nat)}(hs:oG aa st){a z:Str}{ps:List (Nat×Nat)}(h:xI aa st a ps z)(ha:a∈hd aa):z∈fY.hd aa:=by
 induction h with
 | nil=>exact ha
 | snoc _ he e1 e2 ih =>
  obtain⟨z',w⟩:=(hs.way ih).mp he;obtain⟨_,e,m⟩:=w.uniq e1 e2;rw [e];exact m
def xI.nil_eq {aa:List av}{st:Str->List (Nat×Nat)}{a z:Str}{ps:List (Nat×Nat)}(h:xI aa st a ps z)(e:ps=[]):z=a:=by
 cases h with
 | nil=>rfl
 | snoc _ _ _ _=>simp at e
def xI.at_ {aa:List av}{st:Str->List (Nat×Nat)}(hs:oG aa st){a z:Str}{ps:List (Nat×Nat)}(h:xI aa st a ps z)(ha:a∈fY.hd aa):∀(i:Nat)(e:Nat×Nat),ps[i]?=some e ->
  ∃ru y,aa[e.1]?=some ru/\ru.2[e.2]?=some y/\g9 aa e.1 e.2 ru.1 y/\(i=0->ru.1=a)/\(∀i' e',i=i'+1->ps[i']?=some e'->∃kY,aa[e'.1]?=some kY/\kY.2[e'.2]?=some ru.1)/\(i+1=ps.length->y=z):=by
 induction h with
 | nil=>intro i e h;simp at h
 | @snoc ps y z e0 cb hc he e1 e2 ih =>
  intro i e hi;by_cases c:i < ps.length
  .rw [jZ c] at hi;obtain⟨ru,y',a1,a2,a3,a4,a5,a6⟩:=ih i e hi;refine⟨ru,y',a1,a2,a3,a4,λi' e' q1 q2=>a5 i' e' q1 ?_,λq=>?_⟩
   .rw [jZ ∅] at q2;exact q2
   rw [cu] at q;simp at q;omega
  have li:=(aY.mp hi).1;rw [cu] at li;simp at li;have ei:i=ps.length:=by omega
  subst ei;rw [pY (aH _),Nat.sub_self] at hi;cases hi;have hy:=hc.hd hs ha;obtain⟨z',w⟩:=(hs.way hy).mp he;obtain⟨b1,b2,_⟩:=w.uniq e1 e2;refine⟨cb,z,e1,e2,by rw [b1,b2];exact w,λq=>?_,λi' e' q1 q2=>?_,λ_=>rfl⟩
  .rw [b1];exact hc.nil_eq (v_ q)
  rw [jZ ∅] at q2;obtain⟨ru,y',a1,a2,_,_,_,a6⟩:=ih i' e' q2;refine⟨ru,a1,?_⟩;rw [a2,a6 ∅,b1]
theorem pN.at_ {aa:List av}{ps:List (Nat×Nat)}(h:pN aa ps) (i:Nat)(e e':Nat×Nat)(he:ps[i]?=some e)(zF:(if i=0 then ps[ps.length - 1]? else ps[i - 1]?)=some e') :
  ∃ru y kY,aa[e.1]?=some ru/\ru.2[e.2]?=some y/\g9 aa e.1 e.2 ru.1 y/\aa[e'.1]?=some kY/\kY.2[e'.2]?=some ru.1:=by
 obtain⟨st,n,hs,hn,hc,ne,_⟩:=h;have l0:=List.length_pos_iff.mpr ne;obtain⟨ru,y,a1,a2,a3,a4,a5,_⟩:=hc.at_ hs hn i e he;cases i with
 | zero =>
  rw [az rfl] at zF;obtain⟨kY,y',b1,b2,_,_,_,b6⟩:=hc.at_ hs hn _ e' zF;refine⟨ru,y,kY,a1,a2,a3,b1,?_⟩;rw [b2,b6 ∅,a4 rfl]
 | succ i =>
  rw [aA ∅,Nat.add_sub_cancel] at zF;obtain⟨kY,b1,b2⟩:=a5 i e' rfl zF;exact⟨ru,y,kY,a1,a2,a3,b1,b2⟩
def Kp1 (aa:List av) (L:List Str)(n:Str):Prop:=∃z k j,z∈L/\g9 aa k j n z
open Classical in
noncomputable def eI (aa:List av) (ns:List Str):Nat->List Str
 | 0=>ns
 | i+1=>(eI aa ns i).filter λn=>decide (Kp1 aa (eI aa ns i) n)
theorem yJ (rk:Str->Nat):∀l:List Str,l≠[]->∃m∈l,∀x∈l,rk m<=rk x
 | [a],_=>⟨a,bO,λx hx=>by rw [cJ.mp hx];exact aH _⟩
 | a::b::r,_=>by
  obtain⟨m,hm,h⟩:=yJ rk (b::r) (by simp);by_cases c:rk a<=rk m
  .refine⟨a,bO,λx hx=>?_⟩;rcases bN.mp hx with e | e
   .rw [e];exact aH _
   exact cQ c (h x e)
  refine⟨m,bS _ hm,λx hx=>?_⟩;rcases bN.mp hx with e | e
  .rw [e];omega
  exact h x e
def hX.way {aa:List av}{rk:Str->Nat}(nl:hX aa rk){k j:Nat}{n z:Str}(h:g9 aa k j n z):rk z < rk n:=by
 obtain⟨aP,em,ec⟩:=A8 (aa:=aa) (hd aa).length [] .nil (by simp);obtain⟨ru,e1,e2,e3,_⟩:=id h;exact nl aP em ec n k j ((Ck em ec).mpr ⟨z,h⟩) ru z e1 e3
open Classical in
def Dl {aa:List av}{rk:Str->Nat}(nl:hX aa rk) (ns:List Str):eI aa ns ns.length=[]:=by
 have key:∀i,(eI aa ns i).length<=ns.length - i:=by
  intro i
  induction i with
  | zero=>exact aH _
  | succ i ih =>
   by_cases c:eI aa ns i=[]
   .have:eI aa ns (i+1)=[]:=by
     show (eI aa ns i).filter _=[];rw [c];rfl
    rw [this];exact gI _
   obtain⟨m,hm,h⟩:=yJ rk _ c;have:=k_ (p:=λn=>decide (Kp1 aa (eI aa ns i) n)) (q:=λ_=>true) (λ_ _=>rfl) hm rfl (dO λ⟨z,k,j,hz,hw⟩=>by
    have:=nl.way hw;have:=h z hz;omega)
   have e:(eI aa ns i).filter (λ_=>true)=eI aa ns i:=List.filter_eq_self.mpr λ_ _=>rfl;rw [e] at this;have:(eI aa ns (i+1)).length < (eI aa ns i).length:=this;omega
 have:=key ns.length;exact v_ ∅
def xI.Ow {aa:List av}{st:Str->List (Nat×Nat)}{a z:Str}{ps:List (Nat×Nat)}(h:xI aa st a ps z)(ne:ps≠[]):hV aa st a z:=by
 induction h with
 | nil=>exact absurd rfl ne
 | @snoc ps y z e ru hc he e1 e2 ih =>
  by_cases c:ps=[]
  .have:=hc.nil_eq c;subst this;exact .one ⟨e,he,ru,e1,e2⟩
  exact .more (ih c) ⟨e,he,ru,e1,e2⟩
def hV.first {aa:List av}{st:Str->List (Nat×Nat)}{a b:Str}(h:hV aa st a b):∃y,O2 aa st a y/\(y=b\/hV aa st y b):=by
 induction h with
 | one s=>exact⟨_,s,.inl rfl⟩
 | more _ s ih =>
  obtain⟨y,s1,h1⟩:=ih;refine⟨y,s1,.inr ?_⟩;rcases h1 with e | e
  .subst e;exact .one s
  exact .more e s
open Classical in
def Dk {aa:List av}{ps:List (Nat×Nat)}(h:pN aa ps){ns:List Str}(pF:∀x∈hd aa,x∈ns) (i:Nat):eI aa ns i≠[]:=by
 obtain⟨st,n,hs,hn,hc,ne,_⟩:=h;have nn:=hc.Ow ne;have WX:∀{x y:Str},x∈hd aa->O2 aa st x y->y∈hd aa/\∃k j,g9 aa k j x y:=λ{x y} hx ⟨e,he,ru,e1,e2⟩=>by
  obtain⟨z',w⟩:=(hs.way hx).mp he;obtain⟨b1,b2,b3⟩:=w.uniq e1 e2;rw [b2];exact⟨b3,e.1,e.2,w⟩
 have Z6:∀{x:Str},hV aa st n x->x∈hd aa:=λ{x} r=>by
  induction r with
  | one s=>exact(WX hn s).1
  | more _ s ih=>exact(WX ih s).1
 have key:∀i x,hV aa st n x->hV aa st x n->x∈eI aa ns i:=by
  intro i
  induction i with
  | zero=>exact λx r _=>pF x (Z6 r)
  | succ i ih =>
   intro x r1 r2;refine eB.mpr ⟨ih x r1 r2,cw ?_⟩;obtain⟨y,s1,h1⟩:=r2.first;obtain⟨hy,k,j,w⟩:=WX (Z6 r1) s1;refine⟨y,k,j,ih y (.more r1 s1) ?_,w⟩;rcases h1 with e | e
   .rw [e];exact nn
   exact e
 exact λz=>by
  have:=key i n nn nn;rw [z] at this;cases this
end fY
namespace L2
open PySem
def fR {X:Cx}(K:aR)(hK:X.K=K:=by rfl):md X (compareOp .NotIn) (Ti K true):=by
 subst hK;exact jz
def eV (h:Str) (zs:List Str):Iv (.str h) (zs.map V.str)=decide (h∈zs):=by
 have:Iv (.str h) (zs.map V.str)=true↔h∈zs:=by
  unfold Iv;rw [rl];constructor
  .rintro⟨x,h1,h2⟩;obtain⟨z,hz,rfl⟩:=cN.mp h1;have:z=h:=by simpa [EM] using h2
   rw [<-this];exact hz
  intro hm;exact⟨.str h,cN.mpr ⟨h,hm,rfl⟩,by simp [EM]⟩
 by_cases c:h∈zs
 .rw [cw c];exact this.mpr c
 rw [dO c];cases e:Iv (.str h) (zs.map V.str) with
 | false=>rfl
 | true=>exact absurd (this.mp e) c
def cU (zs:List Str):(zs.map V.str).all kO=true:=by
 rw [fO];intro x hx;obtain⟨z,_,rfl⟩:=cN.mp hx;rfl
section
variable {K:aR}{H:Hp}{p D:Addr}{zs:List Str}{σ:St}{x:Str}{js:List (Nat×Str)}{te:TE}{Qp:Hp->Prop}
def qf (rest:St)(pr:Str->Bool)(hc:dI [x] js σ=none::rest)(hp:bf K H p (zs.map V.str))(hz:zs.length<=1000)(hD:H D=none)
  (QS:∀z∈zs,∀(H':Hp)(Qy:VK),aD H H'->Qy (.bl (pr z)) H'->te (some (.str z)::rest) H' Qy)
  (q:∀H2,aD H H2->H2 D=some (.lst ((zs.map pr).map V.bl))->Qp H2) :
  CWq (oK K p) D (dI [x] js σ) H Qp (dP 0) ix te:=by
 refine gQ (xs:=zs.map V.str) (λi ys σ2 H2=>ys=((zs.take i).map pr).map V.bl/\(∃y0,σ2=y0::rest)/\aD H H2/\H2 D=some (.lst ys))
  ⟨rfl,⟨none,hc⟩,ah hD _,ae⟩ (λi ys σ2 H2 _ h=>?_) (λi v ys σ2 H2 ex h=>?_) (λys σ2 H2 h=>?_)
 .obtain⟨_,_,sm,_⟩:=h;exact sm.tup hp
 .obtain⟨rfl,⟨y0,rfl⟩,sm,hd⟩:=h;rw [bq] at ex;obtain⟨z,ez,rfl⟩:=bR.mp ex;have li:=(aY.mp ez).1;refine goN (xi (QS z (cD ez) _ _ sm ⟨hd,bI (by rw [aB,aB,dA];omega),?_,⟨_,rfl⟩,λb o hb=>?_,ae⟩))
  .rw [cY,ez,bD,bD];rfl
  rw [ai (λz=>by rw [z,hD] at hb;cases hb)];exact sm b o hb
 obtain⟨rfl,_,sm,hd⟩:=h;rw [aB,cE] at hd;exact q H2 sm hd
end
theorem all_map (zs:List Str)(pr:Str->Bool):(zs.map pr).all id=zs.all pr:=by
 rw [List.all_map];rfl
def tO {x:Str}{K:aR}{H:Hp}{p D:Addr}{zs:List Str}{σ:St}{js:List (Nat×Str)}{cs:List (Option V)}{tif:TT}{Qp:Hp->Prop}(f:Str->Bool)(hσ:dI [x] js σ=none::cs)(hp:bf K H p (zs.map V.str))(hz:zs.length<=1000)(hD:H D=none)
  (ht:∀z∈zs,∀H2 Q,aD H H2->Q (f z) H2->tif (some (.str z)::cs) H2 Q)(q:∀H2,aD H H2->H2 D=some (.lst ((zs.filter f).map V.str))->Qp H2) :
  CWq (oK K p) D (dI [x] js σ) H Qp (dP 0) tif (gG 0):=by
 refine gQ (xs:=zs.map V.str) (λi ys σ2 H5=>ys=((zs.take i).filter f).map V.str/\(∃y0,σ2=y0::cs)/\aD H H5/\H5 D=some (.lst ys)) ⟨rfl,⟨none,hσ⟩,ah hD _,ae⟩ (λi ys σ2 H5 _ h=>h.2.2.1.tup hp) (λi x ys σ2 H5 ex h=>?_) (λys σ2 H5 h=>?_)
 .obtain⟨rfl,⟨y0,rfl⟩,s5,e5⟩:=h;rw [bq] at ex;obtain⟨z,ez,rfl⟩:=bR.mp ex;have li:=(aY.mp ez).1;have lf:((zs.take i).filter f).length<=1000:=cQ (i9 _ _) (by rw [dA];omega);have tk:(zs.take (i+1)).filter f=(zs.take i).filter f++if f z=true then [z] else []:=by
   rw [cY,ez,pR]
   congr 1
   show List.filter f [z]=_;rw [lK];rfl
  refine goN ?_;refine ht z (cD ez) H5 _ s5 ?_;refine d_ (λc=>?_) (λc=>?_)
  .refine⟨_,rfl,e5,bI (by rw [aB];omega),by rw [tk,az c,bD];rfl,⟨_,rfl⟩,λb o hb=>?_,ae⟩;rw [ai (λz=>by rw [z,hD] at hb;cases hb)];exact s5 b o hb
  exact⟨by rw [tk,aA c,gJ],⟨_,rfl⟩,s5,e5⟩
 obtain⟨rfl,_,s5,e5⟩:=h;rw [aB,cE] at e5;exact q H5 s5 e5
end L2
namespace fY
open PySem L2 M11
abbrev wD:Stmt:=top 47
abbrev wH:Stmt:=top 48
abbrev FE:Stmt:=top 49
section
def Vi:Option Str->V
 | none=>.dG
 | some z=>.str z
def x9 (K:aR):Sp:=λvs H Q _=>∃(R:Addr)(rs:List Addr)(aa:List av),vs=[.ref R]/\aG K H R (rs.map V.ref)/\bz K H rs aa/\aa.length<=1000/\(∀ru∈aa,ru.2.length<=8)/\∀H',aD H H'->Q (Vi (gb [] (cV aa))) H'
def kn:aJ ["_law_strengths_here","_law_known","_law_way","_law_words","_law_word"] ["_law_strengths_here"] (aw wu):=iP rfl rfl rfl rfl nofun
def Dt (F:hZ K "_law_twice" "_law_twice" wu f fd)(T:Txt mg):bh P w K mg base fJ 1 f fd ["_law_strengths_here"] (x9 K):=by
 refine F.ok kn (by and_intros) (λdN A outer s H vs Q E hr h=>?_)
 obtain⟨R,rs,aa,rfl,hR,cT,a8,h8,q⟩:=h;refine⟨_,aj (aF (i:=1) kn.nd rfl (bC rfl) (bU ak))
  (aj (bK cx rfl (aQ (pv 0)) (fc rfl (aC (au (i:=2) kn.nd rfl (bC rfl)) (aC (au (i:=3) kn.nd rfl (bC rfl)) bM)))
   (ao (bK cx rfl (gA (pv 3)) (au (i:=4) kn.nd rfl (bC rfl))
    (aj (cA (bB jd (pv 4) (pv 1) rfl) (ao (bc (pv 4))) aZ) (ao (b8 (gZ ie iI iJ cq (pv 1) (af (pv 4) ak))))))))
  (ao (bc sG))),?_⟩
 nofun
 refine⟨rP,λe he=>?_⟩;have sf:∀o,aD H (upd H e o):=λo=>ah he o;have ll:=bG cT
 ac_rfl
 let oJ:oN:=λi σ H5=>∃(ks:List Str)(y3 y4 y5:Option V),σ=[bj R,bj e,y3,y4,y5]/\H5=upd H e (.lst (ks.map V.str))/\ks.length<=8 * i/\gb [] (cV aa)=gb ks (cV (aa.drop i))
 refine⟨_,rfl,R,rfl,⟨_,(sf _).seq hR⟩,cm (xs:=rs.map V.ref) oJ ⟨[],none,none,none,rfl,rfl,by simp,rfl⟩ ?_ ?_ ?_⟩
 .rintro i σ H5 _ ⟨ks,y3,y4,y5,rfl,rfl,_⟩;exact(sf _).seq hR
 .rintro i x σ H5 ex ⟨ks,y3,y4,y5,rfl,rfl,V0,hd⟩
  ac_nf0
  rw [bq] at ex;obtain⟨r,er,rfl⟩:=bR.mp ex;obtain⟨ru,e1,p,v1,v2⟩:=cT.get er;have li:=(aY.mp e1).1;have NH:=h8 ru (cD e1);have eT:cV (aa.drop i)=ru.2++cV (aa.drop (i+1)):=by
   rw [vZ li,show aa[i]=ru from (aY.mp e1).2];rfl
  refine⟨r,_,rfl,(sf _).tup v1,rfl,_,_,rfl,_,_,rfl,rfl,?_⟩
  let zw:oN:=λj σ H6=>∃(ks:List Str)(y5:Option V),σ=[bj R,bj e,some (.str ru.1),bj p,y5]/\H6=upd H e (.lst (ks.map V.str))/\ks.length<=8 * i+j/\gb [] (cV aa)=gb ks (ru.2.drop j++cV (aa.drop (i+1)))
  refine⟨_,rfl,p,rfl,⟨_,(sf _).tup v2⟩,xl (xs:=ru.2.map V.str) zw ⟨ks,_,rfl,rfl,∅,by rw [hd,eT];rfl⟩ ?_ ?_ ?_⟩
  .rintro j σ H6 _ ⟨ks,y5,rfl,rfl,_⟩;exact(sf _).tup v2
  .rintro j x σ H6 qY ⟨ks,y5,rfl,rfl,GU,hd2⟩
   ac_nf0
   rw [bq] at qY;obtain⟨z,ez,rfl⟩:=bR.mp qY;have lj:=(aY.mp ez).1;have eS:ru.2.drop j=z::ru.2.drop (j+1):=by
    rw [vZ lj,show ru.2[j]=z from (aY.mp ez).2]
   rw [eS] at hd2;have gp:gb [] (cV aa)=if z∈ks then some z else gb (ks++[z]) (ru.2.drop (j+1)++cV (aa.drop (i+1))):=hd2;refine goN ?_;refine⟨_,rfl,_,rfl,e,_,rfl,.inl (aG.of ae),rfl,cU _,_,rfl,?_⟩;rw [eV];show if decide (z∈ks)=true then _ else _;refine d_ (λc=>?_) (λc=>?_)
   .rw [az (dY c)] at gp;refine⟨_,rfl,?_⟩;have:=q _ (sf (.lst (ks.map V.str)));rw [gp] at this;exact this
   rw [aA (λh=>c (cw h))] at gp;refine⟨_,rfl,.inl ⟨rfl,_,aG.of ae⟩,_,rfl,e,_,_,rfl,rfl,ae,bI (by rw [aB];omega),?_⟩;exact⟨ks++[z],_,rfl,by rw [ig,bD];rfl,by rw [cu];simp;omega,gp⟩
  rintro σ H6 ⟨ks,y5,rfl,rfl,GU,hd2⟩;rw [aB,uu (aH _),j_] at hd2;rw [aB] at GU;exact⟨ks,_,_,_,rfl,rfl,∅,hd2⟩
 rintro σ H5 ⟨ks,y3,y4,y5,rfl,rfl,V0,hd⟩;rw [aB,ll,uu (aH _)] at hd;have:=q _ (sf (.lst (ks.map V.str)));rw [hd] at this;exact this
def yb (K:aR):Sp:=λvs H Q _=>∃(R:Addr)(rs:List Addr)(aa:List av),vs=[.ref R]/\aG K H R (rs.map V.ref)/\bz K H rs aa/\aa.length < 64/\∀D H',H D=none->aD H H'->H' D=some (.lst ((hd aa).map V.str))->Q (.ref D) H'
def nQ:aJ ["_law_rules","_law_heads_here","_law_head","_law_parts"] ["_law_rules"] (aw wD):=iP rfl rfl rfl rfl nofun
def Dx (F:hZ K "_law_heads" "_law_heads" wD f fd)(T:Txt mg):bh P w K mg base fJ 1 f fd ["_law_rules"] (yb K):=by
 refine F.ok nQ (by and_intros) (λdN A outer s H vs Q E hr h=>?_)
 obtain⟨R,rs,aa,rfl,hR,cT,a8,q⟩:=h;refine⟨_,aj (aF (i:=1) nQ.nd rfl (bC rfl) (bU ak))
  (aj (bK cx rfl (aQ (pv 0)) (gB (n:=2) K rfl (aC (au (i:=2) nQ.nd rfl (bC rfl)) (aC (au (i:=3) nQ.nd rfl (bC rfl)) bM)))
   (ao (cA (bB jz (pv 2) (pv 1) rfl) (ao (b8 (gZ ie iI iJ cq (pv 1) (af (pv 2) ak)))) aZ)))
  (ao (bc (pv 1)))),?_⟩
 nofun
 have ll:=bG cT;refine⟨rP,λD hD=>?_⟩
 ac_rfl
 let Iz0:oN:=λi σ H1=>∃(y2 y3:Option V),σ=[bj R,bj D,y2,y3]/\H1=upd H D (.lst ((m_ [] ((aa.take i).map (·.1))).map V.str))
 have sD:∀o,aD H (upd H D o):=λo=>ah hD o;refine⟨_,rfl,R,rfl,⟨_,(sD _).seq hR⟩,cm (xs:=rs.map V.ref) Iz0 ⟨none,none,rfl,rfl⟩ ?_ ?_ ?_⟩
 .rintro i σ H1 _ ⟨y2,y3,rfl,rfl⟩;exact(sD _).seq hR
 .intro i x σ H1 ex qw
  ac_nf0
  obtain⟨y2,y3,rfl,rfl⟩:=qw;rw [bq] at ex;obtain⟨r,er,rfl⟩:=bR.mp ex;obtain⟨ru,e1,p,v1,v2⟩:=cT.get er;have li:=(aY.mp e1).1;have eS:m_ [] ((aa.take (i+1)).map (·.1))=gF (m_ [] ((aa.take i).map (·.1))) ru.1:=by
   rw [cY,e1];unfold m_;rw [bD,rF];rfl
  have lD:=gT ((aa.take i).map (·.1)) [];rw [i6,aB,dA] at lD;refine⟨r,_,rfl,(sD _).tup v1,rfl,_,_,rfl,_,_,rfl,rfl,?_⟩;refine⟨_,rfl,_,rfl,D,_,rfl,.inl (aG.of ae),rfl,cU _,_,rfl,?_⟩;rw [eV];refine d_ (λc=>?_) (λc=>?_)
  .have nm:ru.1∉m_ [] ((aa.take i).map (·.1)):=by simpa using c
   refine⟨_,rfl,.inl ⟨rfl,_,aG.of ae⟩,_,rfl,D,_,_,rfl,rfl,ae,bI (by rw [aB];omega),?_⟩;refine⟨_,_,rfl,?_⟩;rw [ig,eS];unfold gF;rw [aA nm,bD];rfl
  have im:ru.1∈m_ [] ((aa.take i).map (·.1)):=by simpa using c
  refine⟨_,_,rfl,?_⟩;rw [eS];unfold gF;rw [az im]
 rintro σ H1 ⟨y2,y3,rfl,rfl⟩;rw [aB,ll,cE];exact⟨_,rfl,q D _ hD (sD _) ae⟩
def r_ (K:aR):Sp:=λvs H Q _=>∃(R N W:Addr)(rs:List Addr)(aa:List av) (ns ws hs:List Str)(b:Bool),vs=[.ref R,.ref N,.ref W]/\aG K H R (rs.map V.ref)/\bz K H rs aa/\aa.length < 64/\(∀ru∈aa,ru.2.length<=8)/\aG K H N (ns.map V.str)/\ns.length<=64/\aG K H W (ws.map V.str) /\
 (∀ru∈aa,∀p∈ru.2,decide (p∈ws)=(b && !decide (p∈hs))) /\
 ∀(D:Addr)(H':Hp),H D=none->aD H H'->H' D=some (.lst ((passes (λe=>lX b hs e aa) ns.length []).map V.str))->Q (.ref D) H'
def kr:aJ ["_law_rules","_law_heads_here","_law_words","_law_ended_here","_law_again","_law_head","_law_parts"] ["_law_rules","_law_heads_here","_law_words"] (aw wH):=iP rfl rfl rfl rfl nofun
def DA (F:hZ K "_law_ended" "_law_ended" wH f fd)(T:Txt mg):bh P w K mg base fJ 1 f fd ["_law_rules","_law_heads_here","_law_words"] (r_ K):=by
 refine F.ok kr (by and_intros) (λdN A outer s H vs Q E hr h=>?_)
 obtain⟨R,N,W,rs,aa,ns,ws,hs,b,rfl,hR,cT,a8,h8,hN,TC,hW,hw,q⟩:=h;refine⟨_,aj (aF (i:=3) kr.nd rfl (Or.inr rfl) (bU ak))
  (aj (bK cx rfl (aQ (pv 1)) (au (i:=4) kr.nd rfl (bC rfl))
   (ao (bK cx rfl (aQ (pv 0)) (gB (n:=2) K rfl (aC (au (i:=5) kr.nd rfl (bC rfl)) (aC (au (i:=6) kr.nd rfl (bC rfl)) bM)))
    (ao (cA (PW.pt (wK (bB jz (pv 5) (pv 3) rfl) (qK (g_ (a9 (lh rfl) rfl T.all boot_all (af
      (bx ["_law_part"] [(3,"_law_ended_here"),(2,"_law_words")] rfl (gA (pv 6)) (ba rfl rfl) nofun rfl nofun
       (λ_ _ _ _ _=>au (i:=0) (ndq nofun) rfl (bC rfl)) (λ_ _ _ _ _=>b9)
       (λ_ _ _ _ _=>Qa (gS (jA K) (pv 0) (pv 1) rfl) (Ap (gS (jA K) (pv 0) (pv 2) rfl)))) ak))))))
     (ao (b8 (gZ ie iI iJ cq (pv 3) (af (pv 5) ak)))) aZ)))))
  (ao (bc (pv 3)))),?_⟩
 nofun
 have ll:=bG cT;refine⟨rP,λL hL=>?_⟩;have s2:=ah hL (.lst []);have fL:H L=none:=hL;have e2:upd H L (.lst []) L=some (.lst []):=ae;generalize upd H L (.lst [])=H2 at s2 e2;have eoP:∀i,EO b hs aa (passes (λe=>lX b hs e aa) i []):=λi=>by
  induction i with
  | zero=>exact⟨jJ,λi h e=>by cases e⟩
  | succ n ih=>exact EO.pass aa (λ_ h=>h) ih
 ac_rfl
 let oJ:oN:=λi σ H3=>∃(es:List Str)(y4 y5 y6:Option V),σ=[bj R,bj N,bj W,bj L,y4,y5,y6]/\aD H H3/\H3 L=some (.lst (es.map V.str))/\es=passes (λe=>lX b hs e aa) i []
 refine⟨_,rfl,N,rfl,⟨_,s2.seq hN⟩,cm (xs:=ns.map V.str) oJ ⟨[],_,_,_,rfl,s2,e2,rfl⟩ ?_ ?_ ?_⟩
 .rintro i σ H3 _ ⟨es,y4,y5,y6,rfl,s3,_⟩;exact s3.seq hN
 .intro i x σ H3 ex qw
  ac_nf0
  obtain⟨es,y4,y5,y6,rfl,s3,Kh,he⟩:=qw;refine goN ?_
  ac_nf
  let zw:oN:=λj σ H4=>∃(ub:List Str)(y5 y6:Option V),σ=[bj R,bj N,bj W,bj L,some x,y5,y6]/\aD H H4/\H4 L=some (.lst (ub.map V.str))/\ub=lX b hs es (aa.take j)
  refine⟨_,rfl,R,rfl,⟨_,s3.seq hR⟩,cm (xs:=rs.map V.ref) zw ⟨es,_,_,rfl,s3,Kh,rfl⟩ ?_ ?_ ?_⟩
  .rintro j σ H4 _ ⟨ub,y5,y6,rfl,s4,_⟩;exact s4.seq hR
  .intro j x2 σ H4 qY qw
   ac_nf0
   obtain⟨ub,y5,y6,rfl,s4,Cu,zF⟩:=qw;rw [bq] at qY;obtain⟨r,er,rfl⟩:=bR.mp qY;obtain⟨ru,e1,p,v1,v2⟩:=cT.get er;have fK:=h8 ru (cD e1);have eo:EO b hs aa ub:=by
    rw [zF,he];exact EO.pass (aa.take j) (λr h=>pV h) (eoP i)
   have les:ub.length<=64:=by
    have:=d8 _ _ eo.nd eo.sub;rw [aB] at this;omega
   have pe:lX b hs es (aa.take (j+1))=dH b hs ub ru:=by
    rw [zF,cY,e1];unfold lX;rw [rF];rfl
   refine⟨r,_,rfl,s4.tup v1,rfl,_,_,rfl,_,_,rfl,rfl,?_⟩
   ac_nf
   refine⟨_,rfl,_,rfl,L,_,rfl,.inl (aG.of Cu),rfl,cU _,_,rfl,?_⟩;rw [eV];show if (!decide (ru.1∈ub))=true then _ else _;refine d_ (λc2=>?_) (λc2=>?_)
   .refine⟨_,rfl,p,rfl,⟨_,s4.tup v2⟩,λD2 iY=>qf (zs:=ru.2) [bj L,bj W] (λz=>decide (z∈ub) || (b && !decide (z∈hs))) rfl (s4.tup v2) ∅ iY (λz hz H5 Qy s5 hq=>?_) λH5 s5 R4=>?_⟩
    .rw [<-hw ru (cD e1) z hz] at hq;refine⟨_,rfl,_,rfl,L,_,rfl,.inl (aG.of (s5 _ _ Cu)),rfl,cU _,?_⟩;refine⟨_,rfl,?_⟩;rw [eV];show if decide (z∈ub)=true then _ else _;refine d_ (λc=>?_) (λc=>?_)
     .rw [c] at hq;exact hq
     have c':decide (z∈ub)=false:=by simpa using c
     rw [c',Bool.false_or] at hq;refine⟨_,rfl,_,rfl,W,_,rfl,.inl (s5.seq (s4.seq hW)),rfl,cU _,?_⟩;rw [eV];exact hq
    refine⟨D2,_,rfl,aG.of R4,_,rfl,?_⟩;rw [all_map];have zB:=s4.trans s5;have Lp:=s5 _ _ Cu;refine d_ (λc=>?_) (λc=>?_)
    .refine⟨_,rfl,.inl ⟨rfl,_,aG.of Lp⟩,_,rfl,L,_,_,rfl,rfl,Lp,bI (by rw [aB];omega),?_⟩;refine⟨ub++[ru.1],_,_,rfl,λb o hb=>?_,by rw [ae,bD];rfl,?_⟩
     .rw [ai (λz=>by rw [z,fL] at hb;cases hb)];exact zB b o hb
     rw [pe];unfold dH;rw [c,rb,az c2]
    refine⟨ub,_,_,rfl,zB,Lp,?_⟩;rw [pe];unfold dH;rw [aA (λz=>c (lQ.mp z).1)]
   refine⟨ub,_,_,rfl,s4,Cu,?_⟩;rw [pe];unfold dH;rw [aA (λz=>c2 (lQ.mp z).2)]
  rintro σ H4 ⟨ub,y5,y6,rfl,s4,Cu,zF⟩;rw [aB,ll,cE] at zF;exact⟨ub,_,_,_,rfl,s4,Cu,by rw [zF,he];rfl⟩
 rintro σ H3 ⟨es,y4,y5,y6,rfl,s3,Kh,he⟩;rw [aB] at he;exact⟨_,rfl,q L H3 fL s3 (by rw [<-he];exact Kh)⟩
def Fo (K:aR):Sp:=λvs H Q _=>∃(R N:Addr)(rs:List Addr)(aa:List av) (ns:List Str)(cb:av),vs=[.ref R,.ref N]/\aG K H R (rs.map V.ref)/\bz K H rs aa/\aa.length<=16/\(∀ru∈aa,ru.2.length<=8)/\aa[0]?=some cb/\aG K H N (ns.map V.str)/\ns.length<=16 /\
 ∀(D:Addr)(H':Hp),H D=none->aD H H'->H' D=some (.lst ((iC aa cb.1 ns.length).map V.str))->(iC aa cb.1 ns.length).length<=10000->Q (.ref D) H'
def si:aJ ["_law_rules","_law_heads_here","_law_met_here","_law_again","_law_head","_law_parts"] ["_law_rules","_law_heads_here"] (aw FE):=iP rfl rfl rfl rfl nofun
def Ju (F:hZ K "_law_met" "_law_met" FE f fd)(T:Txt mg):bh P w K mg base fJ 1 f fd ["_law_rules","_law_heads_here"] (Fo K):=by
 refine F.ok si (by and_intros) (λdN A outer s H vs Q E hr h=>?_)
 obtain⟨R,N,rs,aa,ns,cb,rfl,hR,cT,a8,h8,kZ,hN,TC,q⟩:=h;refine⟨_,aj (aF (i:=2) si.nd rfl (Or.inr rfl) (bU (af (bH cS (bH cO (pv 0) ay (λ_ _=>rfl)) ay (λ_ _=>rfl)) ak)))
  (aj (bK cx rfl (aQ (pv 1)) (au (i:=3) si.nd rfl (bC rfl))
   (ao (bK cx rfl (aQ (pv 0)) (gB (n:=2) K rfl (aC (au (i:=4) si.nd rfl (bC rfl)) (aC (au (i:=5) si.nd rfl (bC rfl)) bM)))
    (ao (cA (bB jd (pv 4) (pv 2) rfl)
     (ao (b8 (gZ ie PySem.F.slot_list_extend PySem.F.type_list_extend uR (pv 2) (af
      (bx ["_law_part"] [(2,"_law_met_here")] rfl (gA (pv 5)) (ba rfl rfl) nofun rfl nofun
       (λ_ _ _ _ _=>au (i:=0) (ndq nofun) rfl (bC rfl)) (λ_ _ _ _ _=>f_ (bB (fR K) (pv 0) (pv 1) rfl)) (λ_ _ _ _ _=>pv 0)) ak)))) aZ)))))
  (ao (bc (pv 2)))),?_⟩
 nofun
 have ll:=bG cT;obtain⟨r0,Lo,p0,v10,v20⟩:=Paired.at_ cT 0 cb kZ;have xC:pI (rs.map V.ref) 0=some (.ref r0):=cW (j:=0) (by rw [bq,Lo];rfl);refine⟨_,rfl,R,_,_,_,rfl,rfl,hR,xC,r0,_,_,_,rfl,rfl,v10,rfl,Oo,λM hM=>?_⟩;have s2:=ah hM (.lst [.str cb.1]);have fM:H M=none:=hM;have e2:upd H M (.lst [.str cb.1]) M=some (.lst ([cb.1].map V.str)):=ae;generalize upd H M (.lst [.str cb.1])=H2 at s2 e2
 ac_rfl
 let oJ:oN:=λi σ H3=>∃(ms:List Str)(y3 y4 y5:Option V),σ=[bj R,bj N,bj M,y3,y4,y5]/\aD H H3/\H3 M=some (.lst (ms.map V.str))/\ms=iC aa cb.1 i/\ms.length<=1+128 * i
 refine⟨_,rfl,N,rfl,⟨_,s2.seq hN⟩,cm (xs:=ns.map V.str) oJ ⟨[cb.1],_,_,_,rfl,s2,e2,rfl,by simp⟩ ?_ ?_ ?_⟩
 .rintro i σ H3 _ ⟨ms,y3,y4,y5,rfl,s3,_⟩;exact s3.seq hN
 .intro i x σ H3 ex qw
  ac_nf0
  obtain⟨ms,y3,y4,y5,rfl,s3,XS,hm,Rc⟩:=qw;have li:=(aY.mp ex).1;rw [aB] at li;refine goN ?_
  ac_nf
  let zw:oN:=λj σ H4=>∃(qm:List Str)(y4 y5:Option V),σ=[bj R,bj N,bj M,some x,y4,y5]/\aD H H4/\H4 M=some (.lst (qm.map V.str))/\qm=(aa.take j).foldl iB ms/\qm.length<=1+128 * i+8 * j
  refine⟨_,rfl,R,rfl,⟨_,s3.seq hR⟩,cm (xs:=rs.map V.ref) zw ⟨ms,_,_,rfl,s3,XS,rfl,∅⟩ ?_ ?_ ?_⟩
  .rintro j σ H4 _ ⟨qm,y4,y5,rfl,s4,_⟩;exact s4.seq hR
  .intro j x2 σ H4 qY qw
   ac_nf0
   obtain⟨qm,y4,y5,rfl,s5,R3,TF,Rb⟩:=qw;have lj:=(aY.mp qY).1;rw [aB] at lj;rw [bq] at qY;obtain⟨r,er,rfl⟩:=bR.mp qY;obtain⟨ru,e1,p,v1,v2⟩:=cT.get er;have fK:=h8 ru (cD e1);have pm:(aa.take (j+1)).foldl iB ms=iB qm ru:=by
    rw [TF,cY,e1,rF];rfl
   refine⟨r,_,rfl,s5.tup v1,rfl,_,_,rfl,_,_,rfl,rfl,?_⟩;refine⟨_,rfl,_,rfl,M,_,rfl,.inl (aG.of R3),rfl,cU _,_,rfl,?_⟩;rw [eV];show if decide (ru.1∈qm)=true then _ else _;refine d_ (λc=>?_) (λc=>?_)
   .have c':ru.1∈qm:=dY c;have T8:iB qm ru=qm++ru.2.filter (λp=>!decide (p∈qm)):=by
     unfold iB;rw [az c']
    refine⟨_,rfl,.inl ⟨rfl,_,aG.of R3⟩,_,rfl,p,rfl,⟨_,s5.tup v2⟩,λD6 IE=>tO (λz=>!decide (z∈qm)) rfl (s5.tup v2) ∅ IE (λz _ H6 Q6 s6 hq=>?_) λH6 s6 Cv=>?_⟩
    .refine⟨_,rfl,_,rfl,M,_,rfl,.inl (aG.of (s6 _ _ R3)),rfl,cU _,_,rfl,?_⟩;rw [eV];exact hq
    have eM6:=s6 _ _ R3;have lf:(ru.2.filter λp=>!decide (p∈qm)).length<=ru.2.length:=i9 _ _;refine⟨M,D6,_,_,rfl,rfl,eM6,Cv,fits (by rw [aB,aB];omega),?_⟩;refine⟨iB qm ru,_,_,rfl,λb o hb=>?_,by rw [ae,T8,bD],pm.symm,by rw [T8,cu];omega⟩;rw [ai (λz=>by rw [z,fM] at hb;cases hb)];exact s6 b o (s5 b o hb)
   have T8:iB qm ru=qm:=by
    unfold iB;rw [aA (λz=>c (cw z))]
   exact⟨qm,_,_,rfl,s5,R3,by rw [pm,T8],∅⟩
  rintro σ H4 ⟨qm,y4,y5,rfl,s4,eM4,TF,Rb⟩;rw [aB,ll] at Rb;rw [aB,ll,cE] at TF;exact⟨qm,_,_,_,rfl,s4,eM4,by rw [TF,hm];rfl,∅⟩
 rintro σ H3 ⟨ms,y3,y4,y5,rfl,s3,XS,hm,Rc⟩;rw [aB] at hm Rc;exact⟨_,rfl,q M H3 fM s3 (by rw [<-hm];exact XS) (by rw [<-hm];omega)⟩
end
end fY
namespace L2
open PySem
def HK (xs:List V) (j:Nat):hJ xs none (some (j:Int))=xs.take j:=by
 have e2:=HT.kX xs.length xs.length j;unfold hJ;rw [HT.yd,e2,List.drop_zero,Nat.sub_zero];by_cases h:j<=xs.length
 .rw [Nat.min_eq_left h]
 rw [Nat.min_eq_right ∅,rM (aH _),rM ∅]
def HM (xs:List V) (j:Nat):hJ xs (some (j:Int)) none=xs.drop j:=by
 have e2:=HT.kX xs.length 0 j;have e1:HT.dZ xs.length xs.length none=xs.length:=rfl;unfold hJ;rw [e1,e2];by_cases h:j<=xs.length
 .rw [Nat.min_eq_left h,rM (by rw [nv];omega)]
 rw [Nat.min_eq_right ∅,uu (aH _),uu ∅];exact List.take_nil
end L2
namespace fY
open PySem L2 M11
abbrev wC:Stmt:=top 50
section
def ya (K:aR):Sp:=λvs H Q _=>∃(R N:Addr)(rs:List Addr)(aa:List av),vs=[.ref R,.ref N]/\aG K H R (rs.map V.ref)/\bz K H rs aa/\aa.length < 64/\(∀ru∈aa,ru.2.length<=8)/\aG K H N ((hd aa).map V.str)/\(hd aa).length<=8 /\
 ∀H',aD H H'->Q (.bl (!(eI aa (hd aa) (hd aa).length).isEmpty)) H'
def fQ:aJ ["_law_rules","_law_heads_here","_law_empty","_law_left","_law_again","_law_kept","_law_head","_law_parts","_law_place","_law_others"] ["_law_rules","_law_heads_here"] (aw wC):=iP rfl rfl rfl rfl nofun
def E5 (ns es dU:List Str) (j:Nat):Bool:=match dU[j]? with
 | none=>false
 | some z=>decide (z∈ns) && (dU.take j++dU.drop (j+1)).all λp=>decide (p∈es)
def E4 {aa:List av}{ns es:List Str}(pF:∀x,x∈ns↔x∈hd aa)(Rp:∀x,x∈es↔Em aa x){k j:Nat}{ru:av}(e:aa[k]?=some ru):E5 ns es ru.2 j=true↔∃z,g9 aa k j ru.1 z:=by
 unfold E5;cases ez:ru.2[j]? with
 | none =>
  constructor
  .intro h;cases h
  rintro⟨z,kY,e1,e2,e3,_⟩;rw [e] at e1;cases e1;rw [ez] at e3;cases e3
 | some z =>
  show (decide (z∈ns) && (ru.2.take j++ru.2.drop (j+1)).all λp=>decide (p∈es))=true↔_;rw [iH,decide_eq_true_iff,fO];constructor
  .rintro⟨h1,h2⟩;refine⟨z,ru,e,rfl,ez,(pF z).mp h1,λi x ex ne=>(Rp x).mp (dY (h2 x ?_))⟩;by_cases c:i < j
   .exact i8 _ (cD (by rw [pX c];exact ex))
   refine fP _ (cD (i:=i - (j+1)) ?_);rw [List.getElem?_drop,show j+1+(i - (j+1))=i by omega];exact ex
  rintro⟨z',kY,e1,e2,e3,e4,e5⟩;rw [e] at e1;cases e1;rw [ez] at e3;cases e3;refine⟨(pF z).mpr e4,λx hx=>cw ((Rp x).mpr ?_)⟩;rcases bZ.mp hx with h | h
  .obtain⟨i,hi⟩:=fA h;have li:=(aY.mp hi).1;rw [dA] at li;rw [pX ∅] at hi;exact e5 i x hi ∅
  obtain⟨i,hi⟩:=fA h;rw [List.getElem?_drop] at hi;exact e5 (j+1+i) x hi ∅
def SD (aa:List av) (L:List Str) (m:Nat)(x:Str):Prop:=∃k j z,k < m/\z∈L/\g9 aa k j x z
open Classical in
def Dw (F:hZ K "_law_loops" "_law_loops" wC f fd)(T:Txt mg)(GE:aL P w K mg base 1 "_law_ended" ["_law_rules","_law_heads_here","_law_words"] (r_ K)):bh P w K mg base fJ 2 f fd ["_law_rules","_law_heads_here"] (ya K):=by
 refine F.ok fQ (by and_intros) (λdN A outer s H vs Q E hr h=>?_)
 obtain⟨R,N,rs,aa,rfl,hR,cT,a8,h8,hN,TC,q⟩:=h;have hu:=vF (gk hr);refine⟨_,aj (aF (i:=2) fQ.nd rfl (Or.inr rfl) (bX GE hr rfl (af (pv 0) (af (pv 1) (af (bU ak) ak)))))
  (aj (aF (i:=3) fQ.nd rfl (bC rfl) (aX df rfl T.lst dW (af (pv 1) ak)))
  (aj (bK cx rfl (aQ (pv 1)) (au (i:=4) fQ.nd rfl (bC rfl))
   (aj (aF (i:=5) fQ.nd rfl (Or.inr rfl) (bU ak))
   (aj (bK cx rfl (aQ (pv 0)) (gB (n:=2) K rfl (aC (au (i:=6) fQ.nd rfl (bC rfl)) (aC (au (i:=7) fQ.nd rfl (bC rfl)) bM)))
    (ao (bK cx rfl (iu rfl T.FT (af (a9 di rfl T.len jK (af (pv 7) ak)) ak)) (au (i:=8) fQ.nd rfl (bC rfl))
     (aj (aF (i:=9) fQ.nd rfl (bC rfl) (bo Jp (ff BQ (pv 7) jy (d6 (pv 8))) (ff BQ (pv 7) (d6 (bo d7 (pv 8) ay)) jy)))
     (ao (cA (PW.pt (wK (bB jd (bH cS (pv 7) (pv 8) (λ_ _=>rfl)) (pv 3) rfl) (qK (g_ (a9 (lh rfl) rfl T.all boot_all (af
       (bx ["_law_part"] [(2,"_law_empty")] rfl (gA (pv 9)) (ba rfl rfl) nofun rfl nofun
        (λ_ _ _ _ _=>au (i:=0) (ndq nofun) rfl (bC rfl)) (λ_ _ _ _ _=>b9)
        (λ_ _ _ _ _=>gS (jA K) (pv 0) (pv 1) rfl)) ak))))))
      (ao (b8 (gZ ie iI iJ cq (pv 5) (af (pv 6) ak)))) aZ))))))
   (ao (ik (iy:=3) ["_law_name"] [(5,"_law_kept")] fQ.nd rfl rfl rfl (aQ (pv 3)) (ba rfl rfl) nofun rfl nofun
    (λ_ _ _ _ _=>au (i:=0) (ndq nofun) rfl (bC rfl)) (λ_ _ _ _ _=>f_ (bB (jA K) (pv 0) (pv 1) rfl)) (λ_ _ _ _ _=>pv 0))))))
  (ao (bc (gS (uO hu) (pv 3) (bU ak) (cX _)))))),?_⟩
 nofun
 have ll:=bG cT;refine⟨_,rfl,_,rfl,rP,λW0 hW0=>?_⟩;have Df:=ah hW0 (.lst []);have eW0:upd H W0 (.lst []) W0=some (.lst (([]:List Str).map V.str)):=ae;generalize upd H W0 (.lst [])=H01 at Df eW0;refine⟨R,N,W0,rs,aa,hd aa,[],[],false,rfl,Df.seq hR,cT.same Df,a8,h8,Df.seq hN,∅,aG.of eW0,λru _ p _=>rfl,λE YL fE EG eE=>?_⟩;have s0:=Df.trans EG;have Rp:∀x,x∈kP aa (hd aa).length↔Em aa x:=Kf aa (aH _);replace eE:YL E=some (.lst ((kP aa (hd aa).length).map V.str)):=eE;generalize kP aa (hd aa).length=es at eE Rp;have pF:∀x,x∈hd aa↔x∈hd aa:=λ_=>Iff.rfl
 ac_rfl
 refine⟨_,rfl,N,_,rfl,.inl (s0.seq hN),λL0 OO=>?_⟩;generalize WD:hd aa=ns at hN TC pF q ⊢;have s1:=s0.trans (ah OO (.lst (ns.map V.str)));have eE1:=ah OO (.lst (ns.map V.str)) _ _ eE;have e1:upd YL L0 (.lst (ns.map V.str)) L0=some (.lst (ns.map V.str)):=ae;generalize upd YL L0 (.lst (ns.map V.str))=H1 at s1 e1 eE1
 ac_rfl
 let oJ:oN:=λi σ H3=>∃(L:Addr)(y4 y5 y6 y7 y8 y9:Option V),σ=[bj R,bj N,bj E,bj L,y4,y5,y6,y7,y8,y9]/\aD H1 H3/\H3 L=some (.lst ((eI aa ns i).map V.str))/\(eI aa ns i).length<=8
 have s1':=s1;refine⟨_,rfl,N,rfl,⟨_,s1.seq hN⟩,cm (xs:=ns.map V.str) oJ ⟨L0,_,_,_,_,_,_,rfl,λ_ _ h=>h,e1,TC⟩ ?_ ?_ ?_⟩
 .rintro i σ H3 _ ⟨L,y4,y5,y6,y7,y8,y9,rfl,s3,_⟩;exact(s1.trans s3).seq hN
 .intro i x σ H3 ex qw
  ac_nf0
  obtain⟨L,y4,y5,y6,y7,y8,y9,rfl,s3,Kh,lp⟩:=qw;refine goN ?_
  ac_nf
  refine⟨rP,λD hD=>?_⟩;have s4:=s3.trans (ah hD (.lst []));have Cu:=ah hD (.lst []) _ _ Kh;have nL:L≠D:=aq Kh hD;have fD:H1 D=none:=s3.free hD;have HF:upd H3 D (.lst []) D=some (.lst []):=ae;generalize upd H3 D (.lst [])=H4 at s4 Cu HF
  ac_rfl
  let zw:oN:=λm σ H5=>∃(ks:List Str)(y6 y7 y8 y9:Option V),σ=[bj R,bj N,bj E,bj L,some x,bj D,y6,y7,y8,y9]/\aD H1 H5/\H5 L=some (.lst ((eI aa ns i).map V.str))/\H5 D=some (.lst (ks.map V.str))/\ks.length<=8 * m/\∀x,x∈ks↔SD aa (eI aa ns i) m x
  refine⟨_,rfl,R,rfl,⟨_,(s1.trans s4).seq hR⟩,cm (xs:=rs.map V.ref) zw ⟨[],_,_,_,_,rfl,s4,Cu,HF,by simp,λx=>⟨λh=>(by cases h),λ⟨k,j,z,h,_⟩=>by omega⟩⟩ ?_ ?_ ?_⟩
  .rintro m σ H5 _ ⟨ks,y6,y7,y8,y9,rfl,s5,_⟩;exact(s1.trans s5).seq hR
  .intro m x2 σ H5 qY qw
   ac_nf0
   obtain⟨ks,y6,y7,y8,y9,rfl,s5,Lp,R4,lk,hk⟩:=qw;rw [bq] at qY;obtain⟨r,Ln,rfl⟩:=bR.mp qY;obtain⟨ru,er,p,v1,v2⟩:=cT.get Ln;have hm:=(aY.mp er).1;have fK:=h8 ru (cD er);have Zd:=s1.trans s5;refine⟨r,_,rfl,Zd.tup v1,rfl,_,_,rfl,_,_,rfl,rfl,?_⟩
   ac_nf
   refine⟨_,rfl,p,_,rfl,.inr (Zd.tup v2),_,rfl,by rw [aB];omega,by rw [aB];omega,?_⟩;rw [aB,pQ]
   let SE:oN:=λj σ H6=>∃(ks:List Str)(y8 y9:Option V),σ=[bj R,bj N,bj E,bj L,some x,bj D,some (.str ru.1),bj p,y8,y9]/\aD H1 H6/\H6 L=some (.lst ((eI aa ns i).map V.str))/\H6 D=some (.lst (ks.map V.str))/\ks.length<=8 * m+j/\∀x,x∈ks↔(SD aa (eI aa ns i) m x\/∃j' z,j' < j/\z∈eI aa ns i/\g9 aa m j' x z)
   refine jj (n:=ru.2.length) SE ⟨ks,_,_,rfl,s5,Lp,R4,∅,λx=>⟨λh=>.inl ((hk x).mp h),λh=>h.elim (hk x).mpr λ⟨j',z,h,_⟩=>by omega⟩⟩ ?_ ?_
   .intro j σ H6 hj qw
    ac_nf0
    obtain⟨ks,y8,y9,rfl,s6,Kg,Cv,V2,Rm⟩:=qw;rw [show (0:Int)+(j:Int)=((j:Nat):Int) by omega];refine goN ?_;obtain⟨z,ez⟩:∃z,ru.2[j]?=some z:=⟨_,c_ hj⟩;have Sg:pI (ru.2.map V.str) (j:Int)=some (.str z):=cW (by rw [bq,ez];rfl);have wz:∀{x z':Str},g9 aa m j x z'->x=ru.1/\z'=z:=λh=>by
     obtain⟨a,b,_⟩:=h.uniq er ez;exact⟨a.symm,b.symm⟩
    have step:∀{x:Str},(∃j' z',j' < j+1/\z'∈eI aa ns i/\g9 aa m j' x z')↔((∃j' z',j' < j/\z'∈eI aa ns i/\g9 aa m j' x z')\/(x=ru.1/\z∈eI aa ns i/\∃z',g9 aa m j ru.1 z')):=λ{x}=>by
     constructor
     .rintro⟨j',z',l,a,b⟩;by_cases c:j'=j
      .subst c;obtain⟨c1,c2⟩:=wz b;exact .inr ⟨c1,c2 ▸ a,z',c1 ▸ b⟩
      exact .inl ⟨j',z',∅,a,b⟩
     rintro(⟨j',z',l,a,b⟩ | ⟨c1,a,z',b⟩)
     .exact⟨j',z',∅,a,b⟩
     obtain⟨_,c2⟩:=wz b;exact⟨j,z,∅,a,c1 ▸ c2 ▸ b⟩
    have Zc:=s1.trans s6;have N4:(ru.2.map V.str).take j=(ru.2.take j).map V.str:=oR.symm;have X3:(ru.2.map V.str).drop (j+1)=(ru.2.drop (j+1)).map V.str:=oQ.symm;refine⟨_,rfl,_,rfl,_,rfl,p,_,rfl,Zc.tup v2,λp1 H7 s7 f1=>?_⟩;rw [HK,N4] at f1;refine⟨_,rfl,_,rfl,_,_,rfl,rfl,_,rfl,p,_,rfl,s7.tup (Zc.tup v2),λp2 H8 s8 f2=>?_⟩;rw [show (j:Int)+1=((j+1:Nat):Int) from rfl,HM,X3] at f2;refine⟨p1,p2,_,_,rfl,rfl,s8.tup f1,f2,fits (by rw [aB,aB,dA,nv];omega),λp3 H9 s9 f3=>?_⟩;rw [<-bD] at f3;have PX:=(s7.trans s8).trans s9;have U6:=s6.trans PX
    ac_rfl
    refine⟨_,rfl,_,rfl,p,_,_,_,rfl,rfl,(s1.trans U6).tup v2,Sg,_,rfl,L,_,rfl,.inl (aG.of (PX _ _ Kg)),rfl,cU _,_,rfl,?_⟩;rw [eV];show if decide (z∈eI aa ns i)=true then _ else _;refine d_ (λc=>?_) (λc=>?_)
    .have c':=dY c;refine⟨_,rfl,p3,rfl,⟨_,f3⟩,λD2 iY=>qf (zs:=ru.2.take j++ru.2.drop (j+1)) [bj E] (λz=>decide (z∈es)) rfl f3 (by rw [cu,dA,nv];omega) iY (λz _ Hx Qy sx hq=>?_) λuo lW XT=>?_⟩
     .refine⟨_,rfl,_,rfl,E,_,rfl,.inl (aG.of (sx _ _ (U6 _ _ eE1))),rfl,cU _,?_⟩;rw [eV];exact hq
     refine⟨D2,_,rfl,aG.of XT,_,rfl,?_⟩;rw [all_map];have FN:=PX.trans lW;have P0:=s6.trans FN;have zhd:z∈ns:=by
      have:∀i,∀y∈eI aa ns i,y∈ns:=λi=>by
       induction i with
       | zero=>exact λy h=>h
       | succ i ih=>exact λy h=>ih y (eB.mp h).1
      exact this i z c'
     have eW:E5 ns es ru.2 j=(ru.2.take j++ru.2.drop (j+1)).all λp=>decide (p∈es):=by
      unfold E5;rw [ez];show (decide (z∈ns) && _)=_;rw [cw zhd,rb]
     rw [<-eW];have O_:E5 ns es ru.2 j=true↔∃z,g9 aa m j ru.1 z:=E4 (λx=>by rw [<-WD]) Rp er;refine d_ (λc2=>?_) (λc2=>?_)
     .have w2:=O_.mp c2;have Uj:=FN _ _ Cv;refine⟨_,rfl,.inl ⟨rfl,_,aG.of Uj⟩,_,rfl,D,_,_,rfl,rfl,Uj,bI (by rw [aB];omega),?_⟩;refine⟨ks++[ru.1],_,_,rfl,λb o hb=>?_,by rw [ai nL];exact FN _ _ Kg,by rw [ae,bD];rfl,by rw [cu];simp;omega,λx=>?_⟩
      .rw [ai (λz=>by rw [z,fD] at hb;cases hb)];exact P0 b o hb
      rw [bZ,Rm,cJ,step,or_assoc];exact or_congr_right (or_congr_right ⟨λh=>⟨h,c',w2⟩,λh=>h.1⟩)
     refine⟨ks,_,_,rfl,P0,FN _ _ Kg,FN _ _ Cv,∅,λx=>?_⟩;rw [Rm,step];refine or_congr_right ⟨λh=>.inl h,λh=>h.elim id λaS=>?_⟩;obtain⟨_,_,w⟩:=aS;exact absurd (O_.mpr w) c2
    refine⟨ks,_,_,rfl,U6,PX _ _ Kg,PX _ _ Cv,∅,λx=>?_⟩;rw [Rm,step];refine or_congr_right ⟨λh=>.inl h,λh=>h.elim id λaS=>?_⟩;obtain⟨_,a,_⟩:=aS;exact absurd (cw a) c
   rintro σ H6 ⟨ks,y8,y9,rfl,s6,Kg,Cv,V2,Rm⟩;refine⟨ks,_,_,_,_,rfl,s6,Kg,Cv,∅,λx=>?_⟩;rw [Rm];constructor
   .rintro(⟨k,j,z,a,b,c⟩ | ⟨j,z,a,b,c⟩)
    .exact⟨k,j,z,∅,b,c⟩
    exact⟨m,j,z,∅,b,c⟩
   rintro⟨k,j,z,a,b,c⟩;by_cases ck:k=m
   .subst ck;refine .inr ⟨j,z,?_,b,c⟩;obtain⟨kY,e1,_,e3,_⟩:=c;rw [er] at e1;cases e1;exact(aY.mp e3).1
   exact .inl ⟨k,j,z,∅,b,c⟩
  rintro σ H5 ⟨ks,y6,y7,y8,y9,rfl,s5,Lp,R4,lk,hk⟩;rw [aB,ll] at hk lk;refine⟨_,rfl,L,rfl,⟨_,aG.of Lp⟩,λD6 IE=>jk (λz=>decide (z∈ks)) rfl (aG.of Lp) ∅ IE (λz _ H6 Q6 s6 hq=>?_) λH6 s6 Cv=>?_⟩
  .refine⟨_,rfl,_,rfl,D,_,rfl,.inl (aG.of (s6 _ _ R4)),rfl,cU _,_,rfl,?_⟩;rw [eV];exact hq
  have ef:(eI aa ns i).filter (λz=>decide (z∈ks))=eI aa ns (i+1):=List.filter_congr λz _=>decide_eq_decide.mpr ((hk z).trans ⟨λ⟨k,j,y,_,b,c⟩=>⟨y,k,j,b,c⟩,λ⟨y,k,j,b,c⟩=>⟨k,j,y,by
   obtain⟨kY,e1,_⟩:=c;exact(aY.mp e1).1,b,c⟩⟩)
  rw [ef] at Cv;refine⟨D6,_,_,_,_,_,_,rfl,s5.trans s6,Cv,?_⟩;have:(eI aa ns (i+1)).length<=(eI aa ns i).length:=i9 _ _;omega
 rintro σ H3 ⟨L,y4,y5,y6,y7,y8,y9,rfl,s3,Kh,lp⟩;rw [aB] at Kh;refine⟨_,rfl,rP,λD8 JW=>?_⟩;have s8:=ah JW (.lst []);refine⟨L,D8,_,rfl,rfl,aG.of (s8 _ _ Kh),aG.of ae,?_⟩;rw [show ((eI aa ns ns.length).map V.str).isEmpty=(eI aa ns ns.length).isEmpty by cases eI aa ns ns.length <;> rfl]
 exact q _ ((s1.trans s3).trans s8)
end
end fY
namespace L2
open PySem PySem.Spec PyProof.Rows PySem.W
section
variable {K:aR}{H:Hp}{p D:Addr}{zs:List Str}{σ:St}{x:Str}{js:List (Nat×Str)}{te:TE}{Qp:Hp->Prop}
def zh (rest:St)(pr:Str->Bool)(hc:dI [x] js σ=none::rest)(hp:aG K H p (zs.map V.str))(hz:zs.length<=1000)(hD:H D=none)
  (QS:∀z∈zs,∀(H':Hp)(Qy:VK),aD H H'->Qy (.bl (pr z)) H'->te (some (.str z)::rest) H' Qy)
  (q:∀H2,aD H H2->H2 D=some (.lst ((zs.map pr).map V.bl))->Qp H2) :
  CWq (jQ K p) D (dI [x] js σ) H Qp (dP 0) ix te:=by
 refine bY (xs:=zs.map V.str) (λi ys σ2 H2=>ys=((zs.take i).map pr).map V.bl/\(∃y0,σ2=y0::rest)/\aD H H2/\H2 D=some (.lst ys))
  ⟨rfl,⟨none,hc⟩,ah hD _,ae⟩ (λi ys σ2 H2 _ h=>?_) (λi v ys σ2 H2 ex h=>?_) (λys σ2 H2 h=>?_)
 .obtain⟨_,_,sm,_⟩:=h;exact sm.seq hp
 .obtain⟨rfl,⟨y0,rfl⟩,sm,hd⟩:=h;rw [bq] at ex;obtain⟨z,ez,rfl⟩:=bR.mp ex;have li:=(aY.mp ez).1;refine goN (xi (QS z (cD ez) _ _ sm ⟨hd,bI (by rw [aB,aB,dA];omega),?_,⟨_,rfl⟩,λb o hb=>?_,ae⟩))
  .rw [cY,ez,bD,bD];rfl
  rw [ai (λz=>by rw [z,hD] at hb;cases hb)];exact sm b o hb
 obtain⟨rfl,_,sm,hd⟩:=h;rw [aB,cE] at hd;exact q H2 sm hd
end
def Er {X:Cx}:fZ X (.type "int") (λxs H Q=>∃b,xs=[.bl b]/\Q (.int (if b then 1 else 0)) H):=by
 intro ag s σ H xs us Q I r h;obtain⟨b,rfl,q⟩:=h;obtain⟨u,rfl,rx⟩:=vals1 r;cases (show u=Value.bool b from rx);exact call_int_bool ⟨.int (if b then 1 else 0),H,I.tok _,⟨_,rfl⟩,q⟩
end L2
namespace fY
open PySem L2 M11
abbrev FJ:Stmt:=top 51
def dQ (aa:List av):List Str:=(hd aa).filter λh=>!decide (h∈g7 aa (hd aa).length)
def jL (aa:List av)(s:Str):List Str:=(hd aa).filter λh=>!decide (h∈iC aa s (hd aa).length)
inductive Due (H:Hp)(aa str:List av):Int->V->Prop
 | eQ:aa=[]->Due H aa str 1 .dG
 | twice {z:Str}:aa≠[]->gb [] (cV str)=some z->Due H aa str 2 (.str z)
 | oB {cb:av}{l:Addr}:aa[0]?=some cb->gb [] (cV str)=none->dQ aa≠[]->H l=some (.lst ((dQ aa).map V.str))->Due H aa str 3 (.ref l)
 | Bn {cb:av}{l:Addr}:aa[0]?=some cb->gb [] (cV str)=none->dQ aa=[]->jL aa cb.1≠[]->H l=some (.lst ((jL aa cb.1).map V.str))->Due H aa str 4 (.ref l)
 | loop {cb:av}:aa[0]?=some cb->gb [] (cV str)=none->dQ aa=[]->jL aa cb.1=[]->eI aa (hd aa) (hd aa).length≠[]->Due H aa str 5 .dG
 | good {cb:av}:aa[0]?=some cb->gb [] (cV str)=none->dQ aa=[]->jL aa cb.1=[]->eI aa (hd aa) (hd aa).length=[]->Due H aa str 0 .dG
def yW (aa:List av):decide (((g7 aa (hd aa).length).length:Int) < ((hd aa).length:Int))=!(dQ aa).isEmpty:=by
 have eo:=qZ aa (hd aa).length;have sub:∀x∈g7 aa (hd aa).length,x∈hd aa:=λx hx=>mQ.mpr (eo.sub x hx);cases he:dQ aa with
 | nil =>
  have all:∀h∈hd aa,h∈g7 aa (hd aa).length:=λh hh=>rO λn=>by
   have:h∈dQ aa:=eB.mpr ⟨hh,by rw [dO n];rfl⟩;rw [he] at this;cases this
  have:=d8 _ _ (yO aa) all;exact dO ∅
 | cons a r =>
  have ha:a∈dQ aa:=by rw [he];exact bO
  obtain⟨h1,h2⟩:=eB.mp ha;have na:a∉g7 aa (hd aa).length:=by simpa using h2
  have:=d8 _ ((hd aa).erase a) eo.nd λx hx=>(List.mem_erase_of_ne (λe:x=a=>na (by rw [<-e];exact hx))).mpr (sub x hx);rw [zM h1] at this;have:=vW h1;exact cw ∅
section
theorem any_map (zs:List Str)(pr:Str->Bool):(zs.map pr).any id=zs.any pr:=by
 rw [List.any_map];rfl
def Fq (K:aR):Sp:=λvs H Q _=>∃(R S:Addr)(rs ss:List Addr)(aa str:List av),vs=[.ref R,.ref S]/\aG K H R (rs.map V.ref)/\bz K H rs aa/\aa.length<=16/\(∀ru∈aa,ru.2.length<=8)/\(hd aa).length<=8/\aG K H S (ss.map V.ref)/\bz K H ss str/\str.length<=1000/\(∀ru∈str,ru.2.length<=8) /\
 ∀(t:Addr) (n:Int)(v:V)(H':Hp),aD H H'->H' t=some (.tup [.int n,v])->Due H' aa str n v->Q (.ref t) H'
def ku:aJ ["_law_rules","_law_strengths_here","_law_twice_here","_law_heads_here","_law_words","_law_head","_law_parts","_law_ended_here","_law_met_here"] ["_law_rules","_law_strengths_here"] (aw FJ):=iP rfl rfl rfl rfl nofun
def Jw (F:hZ K "_law_due" "_law_due" FJ f fd)(T:Txt mg)(GT:aL P w K mg base 2 "_law_twice" ["_law_strengths_here"] (x9 K))(GH:aL P w K mg base 2 "_law_heads" ["_law_rules"] (yb K))(GE:aL P w K mg base 2 "_law_ended" ["_law_rules","_law_heads_here","_law_words"] (r_ K))
  (GM:aL P w K mg base 2 "_law_met" ["_law_rules","_law_heads_here"] (Fo K))(GL:aL P w K mg base 2 "_law_loops" ["_law_rules","_law_heads_here"] (ya K)):bh P w K mg base fJ 3 f fd ["_law_rules","_law_strengths_here"] (Fq K):=by
 refine F.ok ku (by and_intros) (λdN A outer s H vs Q E hr h=>?_)
 obtain⟨R,S,rs,ss,aa,str,rfl,hR,cT,a8,h8,hhd,hS,EJ,Na,Iy,q⟩:=h;have hu:=vF (gk hr);refine⟨_,aj (cA (bB (Dp hu) (pv 0) (bU ak) (cX _)) (ao (bc (bT (af ay (af sG ak))))) aZ)
  (aj (aF (i:=2) ku.nd rfl (bC rfl) (bX GT hr rfl (af (pv 1) ak)))
  (aj (cA (e_ (B9 (pv 2))) (ao (bc (bT (af ay (af (pv 2) ak))))) aZ)
  (aj (aF (i:=3) ku.nd rfl (Or.inr rfl) (bX GH hr rfl (af (pv 0) ak)))
  (aj (aF (i:=4) ku.nd rfl (bC rfl) (bU ak))
  (aj (bK cx rfl (aQ (pv 0)) (gB (n:=2) K rfl (aC (au (i:=5) ku.nd rfl (bC rfl)) (aC (au (i:=6) ku.nd rfl (bC rfl)) bM)))
   (ao (b8 (gZ ie PySem.F.slot_list_extend PySem.F.type_list_extend uR (pv 4) (af
    (bx ["_law_part"] [(3,"_law_heads_here")] rfl (gA (pv 6)) (ba rfl rfl) nofun rfl nofun
     (λ_ _ _ _ _=>au (i:=0) (ndq nofun) rfl (bC rfl)) (λ_ _ _ _ _=>f_ (bB (fR K) (pv 0) (pv 1) rfl)) (λ_ _ _ _ _=>pv 0)) ak)))))
  (aj (aF (i:=7) ku.nd rfl (Or.inr rfl) (bX GE hr rfl (af (pv 0) (af (pv 3) (af (pv 4) ak)))))
  (aj (cA (bB sH (a9 di rfl T.len jK (af (pv 7) ak)) (a9 di rfl T.len jK (af (pv 3) ak)) (cX _))
   (ao (bc (bT (af ay (af (bx ["_law_head"] [(7,"_law_ended_here")] rfl (aQ (pv 3)) (ba rfl rfl) nofun rfl nofun
    (λ_ _ _ _ _=>au (i:=0) (ndq nofun) rfl (bC rfl)) (λ_ _ _ _ _=>f_ (bB (fR K) (pv 0) (pv 1) rfl)) (λ_ _ _ _ _=>pv 0)) ak))))) aZ)
  (aj (aF (i:=8) ku.nd rfl (Or.inr rfl) (bX GM hr rfl (af (pv 0) (af (pv 3) ak))))
  (aj (cA (g_ (a9 (Es rfl) rfl T.any PyProof.Rows.boot_any (af (bx ["_law_head"] [(8,"_law_met_here")] rfl (aQ (pv 3)) (ba rfl rfl) nofun rfl nofun
    (λ_ _ _ _ _=>au (i:=0) (ndq nofun) rfl (bC rfl)) (λ_ _ _ _ _=>b9) (λ_ _ _ _ _=>gS (fR K) (pv 0) (pv 1) rfl)) ak)))
   (ao (bc (bT (af ay (af (bx ["_law_head"] [(8,"_law_met_here")] rfl (aQ (pv 3)) (ba rfl rfl) nofun rfl nofun
    (λ_ _ _ _ _=>au (i:=0) (ndq nofun) rfl (bC rfl)) (λ_ _ _ _ _=>f_ (bB (fR K) (pv 0) (pv 1) rfl)) (λ_ _ _ _ _=>pv 0)) ak))))) aZ)
  (ao (bc (bT (af (bo wO ay (aX Er rfl T.int PyProof.Rows.boot_int (af (bX GL hr rfl (af (pv 0) (af (pv 3) ak))) ak))) (af sG ak)))))))))))))),?_⟩
 nofun
 have ll:=bG cT;refine⟨_,rfl,rP,λD0 hD0=>?_⟩;have s0:=ah hD0 (.lst []);have e0:upd H D0 (.lst []) D0=some (.lst []):=ae;generalize upd H D0 (.lst [])=H0 at s0 e0;refine⟨R,D0,_,rfl,rfl,s0.seq hR,aG.of e0,_,rfl,?_⟩;cases fK:aa with
 | nil =>
  have U8:rs=[]:=v_ (by rw [ll,fK];rfl);rw [U8];refine lF ?_;refine⟨mq,λt ht=>?_⟩;exact q t 1 .dG _ (s0.trans (ah ht _)) ae (.eQ fK)
 | cons cb rr =>
 have kZ:aa[0]?=some cb:=by rw [fK];rfl
 have rne:aa≠[]:=by rw [fK];simp
 rw [show (rs.map V.ref).isEmpty=false by
  cases rs with
  | nil=>rw [fK] at ll;cases ll
  | cons a b=>rfl]
 refine iD ?_
 ac_rfl
 refine⟨_,rfl,S,ss,str,rfl,s0.seq hS,EJ.same s0,Na,Iy,λH1 s1=>?_⟩;have Df:=s0.trans s1
 ac_rfl
 refine⟨_,rfl,?_⟩;cases Rt:gb [] (cV str) with
 | some z =>
  refine⟨_,rfl,?_⟩;refine lF ?_;refine⟨_,rfl,mq,λt ht=>?_⟩;exact q t 2 (.str z) _ (Df.trans (ah ht _)) ae (.twice rne Rt)
 | none =>
 refine⟨_,rfl,?_⟩;refine iD ?_;have Q2:=Df.seq hR;have JM:=cT.same Df
 ac_rfl
 refine⟨_,rfl,R,rs,aa,rfl,Q2,JM,∅,λN H2 fN s2 eN=>?_⟩;have EG:=Df.trans s2
 ac_rfl
 refine⟨rP,λW hW=>?_⟩;have s3:=EG.trans (ah hW (.lst []));have eN3:=ah hW (.lst []) _ _ eN;have nWN:N≠W:=aq eN hW;have fW:H W=none:=EG.free hW;have eW3:upd H2 W (.lst []) W=some (.lst []):=ae;generalize upd H2 W (.lst [])=H3 at s3 eN3 eW3
 ac_rfl
 let oJ:oN:=λi σ H4=>∃(ws:List Str)(y5 y6:Option V),σ=[bj R,bj S,some .dG,bj N,bj W,y5,y6,none,none]/\aD H H4/\H4 N=some (.lst ((hd aa).map V.str))/\H4 W=some (.lst (ws.map V.str))/\ws.length<=8 * i/\(∀ru∈aa.take i,∀p∈ru.2,p∉hd aa->p∈ws)/\∀p∈ws,p∉hd aa
 refine⟨_,rfl,R,rfl,⟨_,s3.seq hR⟩,cm (xs:=rs.map V.ref) oJ ⟨[],_,_,rfl,s3,eN3,eW3,by simp,by simp,by simp⟩ ?_ ?_ ?_⟩
 .rintro i σ H4 _ ⟨ws,y5,y6,rfl,s4,_⟩;exact s4.seq hR
 .intro i x σ H4 ex qw
  ac_nf0
  obtain⟨ws,y5,y6,rfl,s4,R1,Uh,lw,Tz,Wm⟩:=qw;rw [bq] at ex;obtain⟨r,er,rfl⟩:=bR.mp ex;obtain⟨ru,e1,p,v1,v2⟩:=cT.get er;have li:=(aY.mp e1).1;have aah:=h8 ru (cD e1);refine⟨r,_,rfl,s4.tup v1,rfl,_,_,rfl,_,_,rfl,rfl,?_⟩;refine⟨_,rfl,.inl ⟨rfl,_,aG.of Uh⟩,_,rfl,p,rfl,⟨_,s4.tup v2⟩,λD6 IE=>tO (λz=>!decide (z∈hd aa)) rfl (s4.tup v2) ∅ IE (λz _ H6 Q6 s6 hq=>?_) λH6 s6 Cv=>?_⟩
  .refine⟨_,rfl,_,rfl,N,_,rfl,.inl (aG.of (s6 _ _ R1)),rfl,cU _,_,rfl,?_⟩;rw [eV];exact hq
  have eW6:=s6 _ _ Uh;have lf:(ru.2.filter λp=>!decide (p∈hd aa)).length<=ru.2.length:=i9 _ _;refine⟨W,D6,_,_,rfl,rfl,eW6,Cv,fits (by rw [aB,aB];omega),?_⟩;refine⟨ws++ru.2.filter (λp=>!decide (p∈hd aa)),_,_,rfl,λb o hb=>?_,by rw [ai nWN];exact s6 _ _ R1,by rw [ae,bD],by rw [cu];omega,λkY sV p' l8 np=>?_,λp' l8=>?_⟩
  .rw [ai (λz=>by rw [z,fW] at hb;cases hb)];exact s6 b o (s4 b o hb)
  .rw [cY,e1] at sV;rcases bZ.mp sV with h | h
   .exact i8 _ (Tz kY h p' l8 np)
   cases (cJ.mp h:kY=ru);exact fP _ (eB.mpr ⟨l8,by rw [dO np];rfl⟩)
  rcases bZ.mp l8 with h | h
  .exact Wm p' h
  have:=(eB.mp h).2;simpa using this
 rintro σ H4 ⟨ws,y5,y6,rfl,s4,R1,Uh,lw,Tz,Wm⟩;rw [aB,ll] at lw;rw [aB,ll,cE] at Tz
 ac_rfl
 refine⟨_,rfl,_,rfl,_,rfl,R,N,W,rs,aa,hd aa,ws,hd aa,true,rfl,s4.seq hR,cT.same s4,∅,h8,aG.of R1,∅,aG.of Uh,λru fK p hp=>?_,λEn H5 fE s5 eE=>?_⟩
 .rw [rb];by_cases c:p∈hd aa
  .rw [cw c,dO (λh=>Wm p h c)];rfl
  rw [dO c,cw (Tz ru fK p hp c)];rfl
 have KW:=s4.trans s5;replace eE:H5 En=some (.lst ((g7 aa (hd aa).length).map V.str)):=eE;have R0:=s5 _ _ R1
 ac_rfl
 refine⟨_,rfl,En,_,rfl,.inl (aG.of eE),_,rfl,N,_,rfl,.inl (aG.of R0),_,_,rfl,rfl,_,rfl,?_⟩;rw [aB,aB,yW];cases TN:dQ aa with
 | cons a0 ar =>
  refine lF ?_;refine⟨_,rfl,N,rfl,⟨_,aG.of R0⟩,λD6 IE=>jk (λz=>!decide (z∈g7 aa (hd aa).length)) rfl (aG.of R0) ∅ IE (λz _ H6 Q6 s6 hq=>?_) λH6 s6 Cv=>?_⟩
  .refine⟨_,rfl,_,rfl,En,_,rfl,.inl (aG.of (s6 _ _ eE)),rfl,cU _,_,rfl,?_⟩;rw [eV];exact hq
  refine⟨mq,λt ht=>?_⟩;have s7:=ah ht (.tup [.int 3,.ref D6]);exact q t 3 (.ref D6) _ ((KW.trans s6).trans s7) ae (.oB kZ Rt (by rw [TN];simp) (s7 _ _ Cv))
 | nil =>
 refine iD ?_
 ac_rfl
 refine⟨_,rfl,_,rfl,R,N,rs,aa,hd aa,cb,rfl,KW.seq hR,cT.same KW,a8,h8,kZ,aG.of R0,∅,λM H6 fM s6 eM lM=>?_⟩;have Tg:=KW.trans s6;have XR:=s6 _ _ R0
 ac_rfl
 refine⟨_,rfl,N,rfl,⟨_,aG.of XR⟩,λD7 RF=>zh (zs:=hd aa) [bj M] (λz=>!decide (z∈iC aa cb.1 (hd aa).length)) rfl (aG.of XR) ∅ RF (λz _ H7 Qy s7 hq=>?_) λH7 s7 Uj=>?_⟩
 .refine⟨_,rfl,_,rfl,M,_,rfl,.inl (aG.of (s7 _ _ eM)),rfl,cU _,?_⟩;rw [eV];exact hq
 have EF:=Tg.trans s7;have XQ:=s7 _ _ XR;have eM7:=s7 _ _ eM;refine⟨D7,_,rfl,aG.of Uj,_,rfl,?_⟩;rw [any_map,show (hd aa).any (λz=>!decide (z∈iC aa cb.1 (hd aa).length))=!(jL aa cb.1).isEmpty by
  unfold jL;cases hf:(hd aa).filter (λz=>!decide (z∈iC aa cb.1 (hd aa).length)) with
  | nil=>exact List.any_eq_false.mpr λz hz=>(rK.mp hf) z hz
  | cons a b =>
   have:a∈(hd aa).filter (λz=>!decide (z∈iC aa cb.1 (hd aa).length)):=by rw [hf];exact bO
   obtain⟨x1,x2⟩:=eB.mp this;exact rl.mpr ⟨a,x1,x2⟩]
 cases Wo:jL aa cb.1 with
 | cons a0 ar =>
  refine lF ?_;refine⟨_,rfl,N,rfl,⟨_,aG.of XQ⟩,λD8 JW=>jk (λz=>!decide (z∈iC aa cb.1 (hd aa).length)) rfl (aG.of XQ) ∅ JW (λz _ H8 Q8 s8 hq=>?_) λH8 s8 Ui=>?_⟩
  .refine⟨_,rfl,_,rfl,M,_,rfl,.inl (aG.of (s8 _ _ eM7)),rfl,cU _,_,rfl,?_⟩;rw [eV];exact hq
  refine⟨mq,λt ht=>?_⟩;have s9:=ah ht (.tup [.int 4,.ref D8]);exact q t 4 (.ref D8) _ ((EF.trans s8).trans s9) ae (.Bn kZ Rt TN (by rw [Wo];simp) (s9 _ _ Ui))
 | nil =>
 refine iD ?_;refine⟨_,rfl,_,rfl,R,N,rs,aa,rfl,EF.seq hR,cT.same EF,∅,h8,aG.of XQ,hhd,λH8 s8=>⟨_,rfl,?_⟩⟩;refine⟨_,_,rfl,rfl,.inl ⟨nofun,nofun⟩,mq,λt ht=>?_⟩;have s9:=EF.trans (s8.trans (ah ht (.tup [.int (5 * (if (!(eI aa (hd aa) (hd aa).length).isEmpty)=true then 1 else 0)),.dG])));cases l7:eI aa (hd aa) (hd aa).length with
 | nil =>
  rw [l7] at s9;exact q t 0 .dG _ s9 ae (.good kZ Rt TN Wo l7)
 | cons a0 ar =>
  rw [l7] at s9;exact q t 5 .dG _ s9 ae (.loop kZ Rt TN Wo (by rw [l7];simp))
end
open PySem L2 M11 PySem.W
section
def Bk.Tq {x qual:Str}{st:Stmt}{f:Addr}{fd:FuncData}{N ps:List Str}{k:Nat}{sp:Sp}(F:Bk K x qual st f fd)(S:aJ N ps (aw st))(len:∀vs H Q E,sp vs H Q E->vs.length=ps.length)
  (g6:∀(dN:Value)(A:Around)(outer:List Env)(s:Shared)(H:Hp)(vs:List V)(Q:VK)(E:XK),dD k (A.deeper (PyProof.Rows.envOfC qual (aw st) s.heap.objs.size f dN))->sp vs H Q E ->
   ∃t,xP (dM (i3 P w) P w K mg base N qual (aw st) f dN A outer s H E) (bQ st) t/\t { nx:=λ_ H'=>Q .dG H',rt:=Q } (start N vs) H):bh P w K mg base (i3 P w) (k+1) f fd ps sp:=by
 obtain⟨oc,od,kV,doc,pm,an,dN,ct,wN,T,o,n,rfl,lk,sZ,_⟩:=F.ex;refine yS lk sZ S len λA outer s H vs Q E hr u6=>?_;obtain⟨t,h,q⟩:=g6 dN A outer s H vs Q E hr u6;exact⟨t,h,q⟩
def yc (K:aR)(Cg T1 T2 T3 CN CT CE CU CL:Addr):Sp:=λvs H Q E=>∃(H0:Hp)(g gx R:Addr)(sv:V)(rs ss:List Addr)(aa str:List av),vs=[.ref g,.ref R,sv]/\aD H0 H/\H0 g=none/\H g=some (.ins Cg gx [])/\aG K H0 R (rs.map V.ref)/\bz K H0 rs aa/\aa.length < 64/\(∀ru∈aa,ru.2.length<=8)/\(∀h∈hd aa,fC h) /\
 StrIn K H0 sv ss str/\str.length<=1000/\(∀ru∈str,ru.2.length<=8)/\(∀ru∈str,∀z∈ru.2,fC z)/\EE aa/\xO T1 T2 T3 H0/\(aa=[]->∀H',aD H0 H'->E (.ref CN) none H')/\(∀H' z dx,aa≠[]->gb [] (cV str)=some z->aD H0 H'->H' dx=some (.xd [("word",.str z)])->E (.ref CT) (some dx) H') /\
 ∀cb,aa[0]?=some cb->gb [] (cV str)=none->∀H',kQ T1 T2 T3 H0 H'->xO T1 T2 T3 H'->∀gz,cH M11.bl aa (lH aa) gz->dJ M11.bl aa gz ->
  (∀bt ms rk,cb.1∈ms->(∀x∈ms,vy aa cb.1 x)->oH aa aa.length ms->(∀h∈hd aa,∃n,gz h=some n)->(∀h∈hd aa,h∈ms)->hX aa rk->GrV H0 H' Cg g rs ss bt->Q .dG H') /\
  (∀m dx,(hd aa).filter (λh=>(gz h).isNone)≠[]->H' dx=some (.xd [("names",.ref m)])->H' m=some (.lst (((hd aa).filter λh=>(gz h).isNone).map V.str))->E (.ref CE) (some dx) H') /\
  (∀ms m dx,cb.1∈ms->(∀x∈ms,vy aa cb.1 x)->oH aa aa.length ms->(∀h∈hd aa,∃n,gz h=some n)->(hd aa).filter (λh=>!decide (h∈ms))≠[]->H' dx=some (.xd [("names",.ref m)])->H' m=some (.lst (((hd aa).filter λh=>!decide (h∈ms)).map V.str))->E (.ref CU) (some dx) H') /\
  (∀ms m dx ts ps,cb.1∈ms->(∀x∈ms,vy aa cb.1 x)->oH aa aa.length ms->(∀h∈hd aa,∃n,gz h=some n)->(∀h∈hd aa,h∈ms)->H' dx=some (.xd [("steps",.ref m)])->H' m=some (.lst (ts.map V.ref))->YF K H' ts ps->pN aa ps->E (.ref CL) (some dx) H')
def Dy {Cg C C3 T1 T2 T3 CN CT CE CU CL fB fL:Addr}{fdB fdL:FuncData}(F:Bk K "__init__" "Grammar.__init__" wG f fd)(T:Txt mg)(G:GC K Cg)(GR:kS P w K mg base 6 "refuse_faults" ["rules","strengths"] (o_ K T1 T2 CN CT CE CU CL))(GS:aL P w K mg base 6 "standings_by_part" ["rules"] (KL K))
  (FB:bh P w K mg base fJ 5 fB fdB ["self","rules"] (BO K C))(MB:Mk K C fB)(BB:Binds K fdB ["self","rules"] [])(mB:mg "BeginTable"=some (.ref C))
  (FL:bh P w K mg base fJ 5 fL fdL ["self","rules","begin_table"] (BN K C C3 T1 T3))(ML:Mk K C3 fL)(BL:Binds K fdL ["self","rules","begin_table"] [])(mL:mg "LeastTrees"=some (.ref C3)):bh P w K mg base (i3 P w) 7 f fd ["self","rules","strengths"] (yc K Cg T1 T2 T3 CN CT CE CU CL):=by
 refine F.Tq I_ (by and_intros) (λdN A outer s H vs Q E hr h=>?_)
 obtain⟨H0,g,gx,R,sv,rs,ss,aa,str,rfl,s0,f0,eg,hR,cT,a8,h8,Iw,jF,Na,Iy,AS,bd,W_,qN,qT,q0⟩:=h;refine⟨_,aj (gy (pv 0) (aX df rfl T.lst dW (af (pv 1) ak)) rfl)
  (aj (nW (gy (pv 0) (yq (e_ (MA (pv 2))) (bU ak) (aX df rfl T.lst dW (af (pv 2) ak))) rfl))
  (aj (b8 (B6 GR hr rfl (af (eK (pv 0) rfl) (af (eK (pv 0) rfl) ak))))
  (aj (gy (pv 0) (bX GS hr rfl (af (eK (pv 0) rfl) ak)) rfl)
  (aj (gy (pv 0) (B5 MB FB hr rfl mB BB .nil p_ (af (eK (pv 0) rfl) ak)) rfl)
  (ao (gy (pv 0) (B5 ML FL hr rfl mL BL .nil p_ (af (eK (pv 0) rfl) (af (eK (pv 0) rfl) ak))) rfl)))))),?_⟩
 refine⟨_,rfl,R,_,rfl,.inl (s0.seq hR),λR2 ID=>?_⟩;have XA:=ah ID (.lst (rs.map V.ref)) _ _ eg;have tH:upd H R2 (.lst (rs.map V.ref)) R2=some (.lst (rs.map V.ref)):=ae;have Df:=s0.trans (ah ID (.lst (rs.map V.ref)));generalize upd H R2 (.lst (rs.map V.ref))=H1 at XA tH Df;refine⟨_,rfl,g,Cg,gx,[],rfl,XA,G.cls,G.a1,(by show 0 < 1000;decide),?_⟩;generalize oi:dS "rules" (.ref R2) []=uh;have Ln:upd H1 g (.ins Cg gx uh) R2=some (.lst (rs.map V.ref)):=by rw [ai (λz=>by rw [z,XA] at tH;cases tH)];exact tH
 have EG:aD H0 (upd H1 g (.ins Cg gx uh)):=λc o hc=>by rw [ai (λz=>by rw [z,f0] at hc;cases hc)];exact Df c o hc
 have Uc:upd H1 g (.ins Cg gx uh) g=some (.ins Cg gx uh):=ae;generalize upd H1 g (.ins Cg gx uh)=H2 at Ln EG Uc;refine⟨λσ H3=>σ=[bj g,bj R,some sv]/\∃S2 fs,aD H0 H3/\H3 g=some (.ins Cg gx fs)/\fs=dS "strengths" (.ref S2) uh/\H3 R2=some (.lst (rs.map V.ref))/\H3 S2=some (.lst (ss.map V.ref))/\H0 S2=none,?_,?_⟩
 .have fin:∀S2,H2 S2=none->(λH3=>∃S2 fs,aD H0 H3/\H3 g=some (.ins Cg gx fs)/\fs=dS "strengths" (.ref S2) uh/\H3 R2=some (.lst (rs.map V.ref))/\H3 S2=some (.lst (ss.map V.ref))/\H0 S2=none) (upd (upd H2 S2 (.lst (ss.map V.ref))) g (.ins Cg gx (dS "strengths" (.ref S2) uh)))/\upd H2 S2 (.lst (ss.map V.ref)) g=some (.ins Cg gx uh):=λS2 Lh=>by
   have sl:=ah Lh (.lst (ss.map V.ref));have eS:upd H2 S2 (.lst (ss.map V.ref)) S2=some (.lst (ss.map V.ref)):=ae;have RW:=sl _ _ Uc;refine⟨⟨S2,_,λc o hc=>?_,ae,rfl,?_,?_,EG.free Lh⟩,RW⟩
   .rw [ai (λz=>by rw [z,f0] at hc;cases hc)];exact sl _ _ (EG c o hc)
   .rw [ai (λz=>by rw [z,Uc] at Ln;cases Ln)];exact sl _ _ Ln
   rw [ai (λz=>by rw [z,Uc] at Lh;cases Lh)];exact eS
  rcases jF with ⟨rfl,rfl,rfl⟩ | ⟨S,rfl,hS,EJ⟩
  .refine⟨_,rfl,_,rfl,?_⟩;refine lF ?_;refine⟨rP,λS2 Lh=>?_⟩;obtain⟨x1,x2⟩:=fin S2 Lh;exact⟨_,rfl,g,Cg,gx,uh,rfl,x2,G.cls,G.a2,(by rw [<-oi];show 1 < 1000;decide),rfl,x1⟩
  refine⟨_,rfl,_,rfl,?_⟩;refine iD ?_;refine⟨_,rfl,S,_,rfl,.inl (EG.seq hS),λS2 Lh=>?_⟩;obtain⟨x1,x2⟩:=fin S2 Lh;exact⟨_,rfl,g,Cg,gx,uh,rfl,x2,G.cls,G.a2,(by rw [<-oi];show 1 < 1000;decide),rfl,x1⟩
 rintro σ H3 ⟨rfl,S2,Hs,yg,RW,qp,er3,es3,fS2⟩;have Qx:Hs.lookup ("rules":Str)=some (.ref R2):=by rw [qp,<-oi];rfl
 have Tu:Hs.lookup ("strengths":Str)=some (.ref S2):=by rw [qp,<-oi];rfl
 have Ws:bz K H3 ss str:=by
  rcases jF with ⟨_,rfl,rfl⟩ | ⟨S,_,_,EJ⟩
  .exact .nil
  exact EJ.same yg
 have jm:=W_.same yg;refine⟨_,rfl,g,Cg,gx,Hs,_,rfl,RW,G.cls,G.a1,Qx,_,rfl,g,Cg,gx,Hs,_,rfl,RW,G.cls,G.a2,Tu,R2,S2,rs,ss,aa,str,rfl,aG.of er3,cT.same yg,∅,h8,Iw,aG.of es3,Ws,Na,Iy,AS,bd,jm.t1,jm.t2,jm.GB,λr0 H4 s4=>qN r0 H4 (yg.trans s4),λH4 z dx r0 d1 s4 xt=>qT H4 z dx r0 d1 (yg.trans s4) xt,λcb kZ d0 H4 Io PD PB gq PF seq=>⟨λms rk x8 Ox Qo hl Nj nl=>?_,λm dx a xt em=>(q0 cb kZ d0 H4 (λc o n1 n2 _ hc=>Io c o n1 n2 (yg c o hc)) ⟨PD,PB,Tab.s2 jm.t3 Io jm.t1 jm.t2 jm.Ce.symm jm.Cd.symm,jm.GB,jm.Ce,jm.Cd⟩ gq PF seq).2.1 m dx a xt em,λms m dx a1 a2 a3 a4 a5 xt em=>(q0 cb kZ d0 H4 (λc o n1 n2 _ hc=>Io c o n1 n2 (yg c o hc)) ⟨PD,PB,Tab.s2 jm.t3 Io jm.t1 jm.t2 jm.Ce.symm jm.Cd.symm,jm.GB,jm.Ce,jm.Cd⟩ gq PF seq).2.2.1 ms m dx a1 a2 a3 a4 a5 xt em,λms m dx ts ps a1 a2 a3 a4 a5 xt em pp cy=>(q0 cb kZ d0 H4 (λc o n1 n2 _ hc=>Io c o n1 n2 (yg c o hc)) ⟨PD,PB,Tab.s2 jm.t3 Io jm.t1 jm.t2 jm.Ce.symm jm.Cd.symm,jm.GB,jm.Ce,jm.Cd⟩ gq PF seq).2.2.2 ms m dx ts ps a1 a2 a3 a4 a5 xt em pp cy⟩⟩;obtain⟨b,gd⟩:=JZ bd kZ PF hl Ox Nj nl;have JH:=Kp.of2 Io jm.t1 jm.t2;have t4:xO T1 T2 T3 H4:=⟨PD,PB,Tab.s2 jm.t3 Io jm.t1 jm.t2 jm.Ce.symm jm.Cd.symm,jm.GB,jm.Ce,jm.Cd⟩;have S04:kQ T1 T2 T3 H0 H4:=λc o n1 n2 _ hc=>Io c o n1 n2 (yg c o hc);have eg4:=JH _ _ RW (λ_ z=>by cases z);have er4:=JH.lst er3;have es4:=JH.lst es3;have Q0:bz K H4 rs aa:=JH.aa (cT.same yg);clear PD PB Io jm;refine⟨_,rfl,g,Cg,gx,Hs,_,rfl,eg4,G.cls,G.a1,Qx,R2,rs,aa,rfl,aG.of er4,Q0,∅,h8,λds H5 fds zB=>?_⟩;have OV:=zB _ _ eg4;have er5:=zB _ _ er4;have es5:=zB _ _ es4;have Ww:=Q0.same zB;have t5:=t4.same zB;have S05:kQ T1 T2 T3 H0 H5:=λc o n1 n2 n3 hc=>zB _ _ (S04 c o n1 n2 n3 hc);refine⟨_,rfl,g,Cg,gx,Hs,rfl,OV,G.cls,G.a4,(by rw [qp,<-oi];show 2 < 1000;decide),?_⟩;generalize w_:dS "standings" (.ref ds) Hs=zG;have Vs:∀{Hx:Hp}{fx fy:List (Str×V)},Hx g=some (.ins Cg gx fx)->kQ T1 T2 T3 H0 Hx->kQ T1 T2 T3 H0 (upd Hx g (.ins Cg gx fy)):=λ{Hx fx fy} hg hs c o n1 n2 n3 hc=>by
  rw [ai (λz=>by rw [z,f0] at hc;cases hc)];exact hs c o n1 n2 n3 hc
 have OC:∀{Hx:Hp}{fx fy:List (Str×V)}{b:Addr}{xs:List V},Hx g=some (.ins Cg gx fx)->Hx b=some (.lst xs)->upd Hx g (.ins Cg gx fy) b=some (.lst xs):=λ{Hx fx fy b xs} hg hb=>by
  rw [ai (λz=>by rw [z,hg] at hb;cases hb)];exact hb
 have S06:=Vs (fy:=zG) OV S05;have Xv:=OC (fy:=zG) OV er5;have es6:=OC (fy:=zG) OV es5;have Nd:bz K (upd H5 g (.ins Cg gx zG)) rs aa:=Ww.keep λ_ _ z=>gW OV z;have t6:xO T1 T2 T3 (upd H5 g (.ins Cg gx zG)):=t5.E7 OV;have RV:upd H5 g (.ins Cg gx zG) g=some (.ins Cg gx zG):=ae;generalize upd H5 g (.ins Cg gx zG)=H6 at S06 Xv es6 Nd t6 RV;have V2:zG.lookup ("rules":Str)=some (.ref R2):=by rw [<-w_,qp,<-oi];rfl
 refine⟨_,rfl,g,Cg,gx,zG,_,rfl,RV,G.cls,G.a1,V2,λx dx hx JS VB=>?_⟩;have sx:aD H6 (upd (upd H6 dx (.own x)) x (.ins C dx [])):=(ah JS _).trans (ah (by rw [ai VB.symm];exact hx) _);refine⟨H6,x,dx,R2,rs,aa,rfl,sx,hx,ae,aG.of Xv,Nd,∅,h8,λe d bg kE aP ps cI H7 S7 m7 emp _ _ beg _=>⟨rfl,?_⟩⟩;have OU:=S7.sm _ _ RV;have er7:=S7.sm _ _ Xv;have es7:=S7.sm _ _ es6;have t7:=t6.same S7.sm;have Wv:=Nd.same S7.sm;have S07:kQ T1 T2 T3 H0 H7:=λc o n1 n2 n3 hc=>S7.sm _ _ (S06 c o n1 n2 n3 hc);refine⟨_,rfl,g,Cg,gx,zG,rfl,OU,G.cls,G.a3,(by rw [<-w_,qp,<-oi];show 3 < 1000;decide),?_⟩;generalize AX:dS "begin_table" (.ref x) zG=A1;have S08:=Vs (fy:=A1) OU S07;have Xu:=OC (fy:=A1) OU er7;have es8:=OC (fy:=A1) OU es7;have QZ:bz K (upd H7 g (.ins Cg gx A1)) rs aa:=Wv.keep λ_ _ z=>gW OU z;have t8:xO T1 T2 T3 (upd H7 g (.ins Cg gx A1)):=t7.E7 OU;have Ub:upd H7 g (.ins Cg gx A1) g=some (.ins Cg gx A1):=ae;have B8:uq K C (upd H6 g (.ins Cg gx A1)) (upd H7 g (.ins Cg gx A1)) x e d bg kE aP ps cI:=S7.E7 RV (λz=>by rw [z,RV] at hx;cases hx);generalize upd H7 g (.ins Cg gx A1)=H8 at S08 Xu es8 QZ t8 Ub B8;have V1:A1.lookup ("rules":Str)=some (.ref R2):=by rw [<-AX,<-w_,qp,<-oi];rfl
 have lb8:A1.lookup ("begin_table":Str)=some (.ref x):=by rw [<-AX,<-w_,qp,<-oi];rfl
 refine⟨_,rfl,g,Cg,gx,A1,_,rfl,Ub,G.cls,G.a1,V1,_,rfl,g,Cg,gx,A1,_,rfl,Ub,G.cls,G.a3,lb8,λy dy hy hdy ndy=>?_⟩;have sy:aD H8 (upd (upd H8 dy (.own y)) y (.ins C3 dy [])):=(ah hdy _).trans (ah (by rw [ai ndy.symm];exact hy) _);have MU:=beg.len ∅ h8;refine⟨H8,_,y,dy,R2,x,e,d,bg,rs,aa,kE,aP,ps,cI,rfl,sy,hy,ae,aG.of Xu,QZ,a8,h8,gd.least,B8,emp,MU,t8.t1,t8.t3,t8.Ce,λH9 U4 UW t39=>⟨rfl,?_⟩⟩;have MV:=Kp.of2 U4 t8.t1 t8.t3;have RS:=MV _ _ Ub (λ_ z=>by cases z);have er9:=MV.lst Xu;have es9:=MV.lst es8;have t9:xO T1 T2 T3 H9:=⟨UW,Tab.s2 t8.t2 U4 t8.t1 t8.t3 t8.GB.symm t8.Cd,t39,t8.GB,t8.Ce,t8.Cd⟩;have S09:kQ T1 T2 T3 H0 H9:=λc o n1 n2 n3 hc=>U4 _ _ n1 n3 (S08 c o n1 n2 n3 hc);refine⟨_,rfl,g,Cg,gx,A1,rfl,RS,G.cls,G.a5,(by rw [<-AX,<-w_,qp,<-oi];show 4 < 1000;decide),?_⟩;exact(q0 cb kZ d0 _ (Vs RS S09) (t9.E7 RS) gq PF seq).1 x ms rk x8 Ox Qo hl Nj nl ⟨gx,_,R2,S2,ae,by rw [<-AX,<-w_,qp,<-oi];rfl,by rw [<-AX,<-w_,qp,<-oi];rfl,by rw [<-AX,<-w_,qp,<-oi];rfl,by rw [<-AX,<-w_,qp,<-oi];rfl,OC RS er9,OC RS es9,s0.free ID,fS2⟩
end
end fY
namespace L2
open PySem PySem.Spec PyProof.Rows PySem.W PySem.Builtin PySem.Builtin.ObjectAttr
def Eb {K:Frag}{C:Addr}{cd:ClassData}{name:Str}{a g:Value}(hc:clsIn K C=some cd)(ha:findIn K (.ref C) name=some (some a))(hg:specialIn K a "__get__"=some (some g))(ht:takesIn K a=some true):findObj K C none name=some (.bind g a):=by
 unfold findObj;simp [hc,ha,hg,ht]
def DO {K:Frag}{x C:Addr}(G:XG K C):KitX K (.ref x) (.ref C) (λh=>∃ox,InstAt h x ox C none) where
 ty:=λ_ _ _ ⟨_,I⟩=>I.type
 it:=λM h X _=>(kit_cls (M:=M) X G.me).2.1
 ne:=λh tp dd aN n sl X M9=>by
  obtain⟨cd,hc,_⟩:=any_some G.dict;cases e:(Value.ref C == .ref tp) with
  | false=>rfl
  | true =>
   exfalso;have e2:=Value.ref.inj (beq_iff_eq.mp e);rw [<-e2] at M9;unfold clsIn at hc
   split at hc
   .next ho=>rw [X _ _ ho] at M9;cases M9
   cases hc
 ca:=λ{prog w A E Q s} X ⟨ox,I⟩ k=>by
  obtain⟨cd,hc,_⟩:=any_some G.dict;exact EY X G I (yQ (s:={ s with toks:=s.toks+1 }) X I (Eb hc G.ca G.cg G.ct) G.ob) rfl k
inductive Ij (K:Frag)(H:Hp):V->Value->Prop
 | exc {ea C dx:Addr}{fs:List (Str×V)}:ER H ea C dx fs->XG K C->Ij K H (.ref ea) (.ref C)
 | bare {ea C:Addr}:H ea=some (oA ea (.ref C) none)->XG K C->Ij K H (.ref ea) (.ref C)
def gE {X:Cx}:fZ X (.builtin "isinstance") (λxs H Q=>∃x T c u b,xs=[x,c]/\Ij X.K H x T/\(∀u',RelV c u'->u'=u)/\kitOne X.K T u=some b/\Q (.bl b) H):=by
 intro ag s σ H xs us Q I r h;obtain⟨x,T,c,u,b,rfl,io,hc,e,q⟩:=h;obtain⟨u1,u2,rfl,r1,r2⟩:=vals2 r;cases hc _ r2;cases io with
 | @exc ea C dx fs xo G =>
  cases (show u1=Value.ref ea from r1);obtain⟨ox,od,J,_⟩:=xo.inst I;exact kia_one (G4 G) I.jo ⟨ox,od,J⟩ e (λz=>nomatch z) λtk=>⟨.bl b,H,I.tok _,rfl,q⟩
 | @bare ea C xo G =>
  cases (show u1=Value.ref ea from r1);obtain⟨⟨oe,vs,e1,c1,d1,f1⟩,_⟩:=I.bF _ _ xo;have J:InstAt s.heap ea oe C none:=⟨e1,c1,by unfold notCls;rw [f1],by rw [d1];trivial⟩;exact kia_one (DO G) I.jo ⟨oe,J⟩ e (λz=>nomatch z) λtk=>⟨.bl b,H,I.tok _,rfl,q⟩
end L2
namespace fY
open PySem L2 M11 PySem.W
abbrev z6:Stmt:=top 52
abbrev Mn:Stmt:=top 53
inductive iQ (CN CT CE CU CL:Addr)(H:Hp)(aa str:List av):V->V->Prop
 | eQ {ea:Addr}:aa=[]->H ea=some (oA ea (.ref CN) none)->iQ CN CT CE CU CL H aa str .dG (.ref ea)
 | twice {ea dx:Addr}{z:Str}:aa≠[]->gb [] (cV str)=some z->ER H ea CT dx [("word",.str z)]->iQ CN CT CE CU CL H aa str .dG (.ref ea)
 | oB {cb:av}{ea dx m:Addr}:aa[0]?=some cb->gb [] (cV str)=none->dQ aa≠[]->ER H ea CE dx [("names",.ref m)]->H m=some (.lst ((dQ aa).map V.str))->iQ CN CT CE CU CL H aa str .dG (.ref ea)
 | Bn {cb:av}{ea dx m:Addr}:aa[0]?=some cb->gb [] (cV str)=none->dQ aa=[]->jL aa cb.1≠[]->ER H ea CU dx [("names",.ref m)]->H m=some (.lst ((jL aa cb.1).map V.str))->iQ CN CT CE CU CL H aa str .dG (.ref ea)
 | loop {cb:av}{ea dx m:Addr}{ps:List (Nat×Nat)}:aa[0]?=some cb->gb [] (cV str)=none->dQ aa=[]->jL aa cb.1=[]->ER H ea CL dx [("steps",.ref m)]->pN aa ps->iQ CN CT CE CU CL H aa str .dG (.ref ea)
 | good {cb:av}{rk:Str->Nat}:aa[0]?=some cb->gb [] (cV str)=none->dQ aa=[]->jL aa cb.1=[]->hX aa rk->iQ CN CT CE CU CL H aa str (.str cb.1) .dG
def jH {aa:List av}{g:G}(st:cH M11.bl aa (lH aa) g)(se:dJ M11.bl aa g):(hd aa).filter (λh=>(g h).isNone)=dQ aa:=List.filter_congr λh hh=>HB st se hh
def rS {aa:List av}{s:Str}(hs:s∈hd aa){ms:List Str}(h0:s∈ms)(rc:∀x∈ms,vy aa s x)(mc:oH aa aa.length ms):(hd aa).filter (λh=>!decide (h∈ms))=jL aa s:=List.filter_congr λh _=>by rw [MP hs h0 rc mc h]
def nil_of {aa:List av}{g:G}(hl:∀h∈hd aa,∃n,g h=some n):(hd aa).filter (λh=>(g h).isNone)=[]:=rK.mpr λh hh=>by
 obtain⟨n,e⟩:=hl h hh;rw [e];exact dB
def Cc {aa:List av}{ms:List Str}(hm:∀h∈hd aa,h∈ms):(hd aa).filter (λh=>!decide (h∈ms))=[]:=rK.mpr λh hh=>by
 rw [cw (hm h hh)]
 decide
section
variable {P:Program}{w:World}{K:aR}{mg:Str->Option Value}{base:Heap}{f CN CT CE CU CL W:Addr}{fd:FuncData}{H H':Hp}{aa str:List av}{v6 v7:V}
def iQ.same (h:iQ CN CT CE CU CL H aa str v7 v6)(s:aD H H'):iQ CN CT CE CU CL H' aa str v7 v6:=by
 cases h with
 | eQ a b=>exact .eQ a (s _ _ b)
 | twice a b c=>exact .twice a b ⟨s _ _ c.1,s _ _ c.2⟩
 | oB a b c d e=>exact .oB a b c ⟨s _ _ d.1,s _ _ d.2⟩ (s _ _ e)
 | Bn a b c d e f=>exact .Bn a b c d ⟨s _ _ e.1,s _ _ e.2⟩ (s _ _ f)
 | loop a b c d e f=>exact .loop a b c d ⟨s _ _ e.1,s _ _ e.2⟩ f
 | good a b c d e=>exact .good a b c d e
def BA (K:aR)(T1 T2 T3 CN CT CE CU CL:Addr):Sp:=λvs H Q _=>∃(R S:Addr)(rs ss:List Addr)(aa str:List av),vs=[.ref R,.ref S]/\aG K H R (rs.map V.ref)/\bz K H rs aa/\aa.length < 64/\(∀ru∈aa,ru.2.length<=8)/\(∀h∈hd aa,fC h)/\aG K H S (ss.map V.ref)/\bz K H ss str/\str.length<=1000/\(∀ru∈str,ru.2.length<=8)/\(∀ru∈str,∀z∈ru.2,fC z)/\EE aa/\xO T1 T2 T3 H /\
 ∀t v7 v6 H',kQ T1 T2 T3 H H'->xO T1 T2 T3 H'->H' t=some (.tup [v7,v6])->iQ CN CT CE CU CL H' aa str v7 v6->Q (.ref t) H'
def nK:aJ ["_law_rules","_law_strengths_here","_law_caught","_law_start","e"] ["_law_rules","_law_strengths_here"] (aw z6):=iP rfl rfl rfl rfl nofun
def Gj {Cg T1 T2 T3 fG fS:Addr}{fdG fdS:FuncData}(F:hZ K "_law_told" "_law_told" z6 f fd)(G:GC K Cg)(MG:Mk K Cg fG)(FG:bh P w K mg base (i3 P w) 7 fG fdG ["self","rules","strengths"] (yc K Cg T1 T2 T3 CN CT CE CU CL))(B0:Binds K fdG ["self","rules","strengths"] [])(mG:mg "Grammar"=some (.ref Cg))
  (mS:Meth K Cg "start" fS)(FS:bh P w K mg base fJ 8 fS fdS ["self"] (BG K Cg))(BS:Binds K fdS ["self"] [])(mW:mg "WrightError"=some (.ref W))(xN:exmOne K (.ref CN) (.ref W)=some true)(xT:exmOne K (.ref CT) (.ref W)=some true)(xE:exmOne K (.ref CE) (.ref W)=some true)(xU:exmOne K (.ref CU) (.ref W)=some true)(xL:exmOne K (.ref CL) (.ref W)=some true) :
  bh P w K mg base fJ 9 f fd ["_law_rules","_law_strengths_here"] (BA K T1 T2 T3 CN CT CE CU CL):=by
 refine F.ok nK (by and_intros) (λdN A outer s H vs Q E hr h=>?_)
 obtain⟨R,S,rs,ss,aa,str,rfl,hR,cT,a8,h8,Iw,hS,EJ,Na,Iy,AS,bd,hT,q⟩:=h;refine⟨_,aj (aF (i:=2) nK.nd rfl (bC rfl) sG)
  (aj (aF (i:=3) nK.nd rfl (bC rfl) sG)
  (aj (nW (FY (i:=3) (j:=4) (dvs:=[]) rfl rfl (λ_ _ z=>z) MG FG hr rfl mG B0 .nil (af (pv 0) (af (pv 1) ak)) nK.nd rfl mW rfl rfl G.cls mS FS hr BS rfl (bC rfl) (λea=>ao (aF (i:=2) nK.nd rfl (bC rfl) (pv 4)))))
  (ao (bc (bT (af (pv 3) (af (pv 2) ak))))))),?_⟩
 refine⟨λσ H9=>∃v7 v6:V,σ=[bj R,bj S,some v6,some v7,none]/\kQ T1 T2 T3 H H9/\xO T1 T2 T3 H9/\iQ CN CT CE CU CL H9 aa str v7 v6,?_,?_⟩
 .refine⟨_,rfl,_,rfl,λx dx hx JS VB=>?_⟩;have Sl:∀{Ha:Hp},aD H Ha->kQ T1 T2 T3 H Ha:=λs b o _ _ _ h=>s b o h;refine⟨H,x,dx,R,.ref S,rs,ss,aa,str,rfl,(ah JS _).trans (ah (by rw [ai VB.symm];exact hx) _),hx,ae,hR,cT,a8,h8,Iw,.inr ⟨S,rfl,hS,EJ⟩,Na,Iy,AS,bd,hT,
   λr0 H1 s1=>⟨xN,λea sX=>⟨_,rfl,⟨_,rfl⟩,_,_,rfl,Sl s1,hT.same s1,.eQ r0 sX⟩⟩,
   λH1 z d2 r0 d1 s1 xt=>⟨xT,λea sX=>⟨_,rfl,⟨_,rfl⟩,_,_,rfl,Sl s1,hT.same s1,.twice r0 d1 ⟨sX,xt⟩⟩⟩,
   λcb kZ d0 H1 s1 t1 gz st se=>?_⟩
  have Nc:cb.1∈hd aa:=mQ.mpr (cN.mpr ⟨cb,cD kZ,rfl⟩);have k1:=Kp.Zj s1 hT;refine⟨λbt ms rk a1 a2 a3 a4 a5 a6 gv=>⟨rfl,?_⟩,λm d2 b1 b2 b3=>⟨xE,λea sX=>?_⟩,λms m d2 a1 a2 a3 a4 b1 b2 b3=>⟨xU,λea sX=>?_⟩,λms m d2 ts ps a1 a2 a3 a4 a5 b2 b3 b4 b5=>⟨xL,λea sX=>?_⟩⟩
  .obtain⟨gx,fs,R2,S2,eg,g1,g2,g3,g4,_⟩:=id gv;exact⟨gx,fs,eg,g4,H,x,bt,rs,ss,aa,cb,rfl,gv,k1.aa cT,kZ,_,_,rfl,s1,t1,.good kZ d0 (by rw [<-jH st se];exact nil_of a4) (by rw [<-rS Nc a1 a2 a3];exact Cc a5) a6⟩
  .rw [jH st se] at b1 b3;exact⟨_,rfl,⟨_,rfl⟩,_,_,rfl,s1,t1,.oB kZ d0 b1 ⟨sX,b2⟩ b3⟩
  .rw [rS Nc a1 a2 a3] at b1 b3;exact⟨_,rfl,⟨_,rfl⟩,_,_,rfl,s1,t1,.Bn kZ d0 (by rw [<-jH st se];exact nil_of a4) b1 ⟨sX,b2⟩ b3⟩
  exact⟨_,rfl,⟨_,rfl⟩,_,_,rfl,s1,t1,.loop kZ d0 (by rw [<-jH st se];exact nil_of a4) (by rw [<-rS Nc a1 a2 a3];exact Cc a5) ⟨sX,b2⟩ b5⟩
 rintro σ H9 ⟨v7,v6,rfl,s9,t9,to⟩;refine⟨_,rfl,_,rfl,mq,λt ht=>?_⟩;have lW:=ah ht (.tup [v7,v6]);exact q t v7 v6 _ (λb o n1 n2 n3 h=>lW b o (s9 b o n1 n2 n3 h)) (t9.same lW) ae (to.same lW)
end
def HR:bootBuiltins "ValueError"=some (.type "ValueError"):=by decide +kernel
def DP {K:Frag}{t:Value}:kitOne K t t=some true:=by unfold kitOne;rw [az (kb t)]
def Bj (K:Frag)(CN CT CE CU CL CR CV CM C:Addr) (n:Int):Prop:=XG K C/\kitOne K (.ref C) (.ref CN)=some (decide (n=1))/\kitOne K (.ref C) (.ref CT)=some (decide (n=2))/\kitOne K (.ref C) (.ref CE)=some (decide (n=3))/\kitOne K (.ref C) (.ref CU)=some (decide (n=4))/\kitOne K (.ref C) (.ref CL)=some (decide (n=5))/\kitOne K (.ref C) (.ref CR)=some false/\kitOne K (.ref C) (.ref CV)=some false/\kitOne K (.ref C) (.ref CM)=some false/\kitOne K (.ref C) (.type "ValueError")=some true
structure YH (K:Frag)(mg:Str->Option Value)(CN CT CE CU CL CR CV CM:Addr):Prop where
 mN:mg "NoRules"=some (.ref CN)
 mT:mg "Twice"=some (.ref CT)
 mE:mg "Endless"=some (.ref CE)
 mU:mg "Unmet"=some (.ref CU)
 mL:mg "Loop"=some (.ref CL)
 mR:mg "NoRow"=some (.ref CR)
 mV:mg "Vast"=some (.ref CV)
 mM:mg "TooMany"=some (.ref CM)
 mV0:mg "ValueError"=none
 rN:Bj K CN CT CE CU CL CR CV CM CN 1
 rT:Bj K CN CT CE CU CL CR CV CM CT 2
 rE:Bj K CN CT CE CU CL CR CV CM CE 3
 rU:Bj K CN CT CE CU CL CR CV CM CU 4
 rL:Bj K CN CT CE CU CL CR CV CM CL 5
 aT:cM K CT "word"
 aE:cM K CE "names"
 aU:cM K CU "names"
section
variable {P:Program}{w:World}{K:aR}{mg:Str->Option Value}{base:Heap}{f CN CT CE CU CL CR CV CM:Addr}{fd:FuncData}{H:Hp}{aa str:List av}{v6 v7 v:V}{n:Int}
def E_ (L:YH K mg CN CT CE CU CL CR CV CM)(to:iQ CN CT CE CU CL H aa str v7 v6)(du:Due H aa str n v)(hn:n≠0):∃C,Ij K H v6 (.ref C)/\Bj K CN CT CE CU CL CR CV CM C n/\(n=2->∃ea dx z,v6=.ref ea/\ER H ea C dx [("word",.str z)]/\cM K C "word" /\ v=.str z) /\
  ((n=3\/n=4)->∃ea dx m zs l,v6=.ref ea/\ER H ea C dx [("names",.ref m)]/\cM K C "names" /\ H m=some (.lst (List.map V.str zs))/\v=.ref l/\H l=some (.lst (List.map V.str zs))):=by
 cases du with
 | eQ r0 =>
  cases to with
  | eQ a b=>exact⟨CN,.bare b L.rN.1,L.rN,λz=>by omega,λz=>by omega⟩
  | twice a _ _=>exact absurd r0 a
  | oB a _ _ _ _=>rw [r0] at a;cases a
  | Bn a _ _ _ _ _=>rw [r0] at a;cases a
  | loop a _ _ _ _ _=>rw [r0] at a;cases a
  | good a _ _ _ _=>rw [r0] at a;cases a
 | twice r0 d0 =>
  cases to with
  | eQ a b=>exact absurd a r0
  | @twice ea dx z a d1 xo =>
   rw [d0] at d1;cases d1;exact⟨CT,.exc xo L.rT.1,L.rT,λ_=>⟨ea,dx,_,rfl,xo,L.aT,rfl⟩,λz=>by omega⟩
  | oB _ d1 _ _ _=>rw [d0] at d1;cases d1
  | Bn _ d1 _ _ _ _=>rw [d0] at d1;cases d1
  | loop _ d1 _ _ _ _=>rw [d0] at d1;cases d1
  | good _ d1 _ _ _=>rw [d0] at d1;cases d1
 | @oB cb l r0 d0 en el =>
  cases to with
  | eQ a b=>rw [a] at r0;cases r0
  | twice _ d1 _=>rw [d0] at d1;cases d1
  | @oB _ ea dx m _ _ _ xo em=>exact⟨CE,.exc xo L.rE.1,L.rE,λz=>by omega,λ_=>⟨ea,dx,m,_,l,rfl,xo,L.aE,em,rfl,el⟩⟩
  | Bn _ _ c _ _ _=>exact absurd c en
  | loop _ _ c _ _ _=>exact absurd c en
  | good _ _ c _ _=>exact absurd c en
 | @Bn cb l r0 d0 en un el =>
  cases to with
  | eQ a b=>rw [a] at r0;cases r0
  | twice _ d1 _=>rw [d0] at d1;cases d1
  | oB _ _ c _ _=>exact absurd en c
  | @Bn ru1 ea dx m r1 _ _ _ xo em =>
   rw [r0] at r1;cases r1;exact⟨CU,.exc xo L.rU.1,L.rU,λz=>by omega,λ_=>⟨ea,dx,m,_,l,rfl,xo,L.aU,em,rfl,el⟩⟩
  | loop r1 _ _ c _ _=>rw [r0] at r1;cases r1;exact absurd c un
  | good r1 _ _ c _=>rw [r0] at r1;cases r1;exact absurd c un
 | @loop cb r0 d0 en un pl =>
  cases to with
  | eQ a b=>rw [a] at r0;cases r0
  | twice _ d1 _=>rw [d0] at d1;cases d1
  | oB _ _ c _ _=>exact absurd en c
  | Bn r1 _ _ c _ _=>rw [r0] at r1;cases r1;exact absurd un c
  | loop _ _ _ _ xo _=>exact⟨CL,.exc xo L.rL.1,L.rL,λz=>by omega,λz=>by omega⟩
  | good _ _ _ _ nl=>exact absurd (Dl nl (hd aa)) pl
 | good _ _ _ _ _=>exact absurd rfl hn
def C7 (to:iQ CN CT CE CU CL H aa str v7 v6)(du:Due H aa str 0 v):∃cb,aa[0]?=some cb/\v6=.dG/\v7=.str cb.1:=by
 cases du with
 | @good cb r0 d0 en un pl =>
  cases to with
  | eQ a b=>rw [a] at r0;cases r0
  | twice _ d1 _=>rw [d0] at d1;cases d1
  | oB _ _ c _ _=>exact absurd en c
  | Bn r1 _ _ c _ _=>rw [r0] at r1;cases r1;exact absurd un c
  | loop _ _ _ _ _ cy=>exact absurd pl (Dk cy (λx h=>h) _)
  | good r1 _ _ _ _=>exact⟨_,r1,rfl,rfl⟩
def KO (K:aR)(CN CT CE CU CL:Addr):Sp:=λvs H Q _=>∃(aa str:List av)(v7 v6 v:V) (n:Int),vs=[v6,.int n,v]/\iQ CN CT CE CU CL H aa str v7 v6/\Due H aa str n v/\n≠0/\∀H',aD H H'->Q (.bl true) H'
def Fy:aJ ["_law_caught","_law_number","_law_value","_law_some"] ["_law_caught","_law_number","_law_value"] (aw Mn):=iP rfl rfl rfl rfl nofun
def MI (F:hZ K "_law_is" "_law_is" Mn f fd)(T:Txt mg)(L:YH K mg CN CT CE CU CL CR CV CM):bh P w K mg base fJ 1 f fd ["_law_caught","_law_number","_law_value"] (KO K CN CT CE CU CL):=by
 refine F.ok Fy (by and_intros) (λdN A outer s H vs Q E hr h=>?_)
 obtain⟨aa,str,v7,v6,v,n,rfl,to,du,hn,q⟩:=h;have hu:=vF (gk hr);refine⟨_,aj (aF (i:=3) Fy.nd rfl (bC rfl) (bU (af (a9 gE rfl T.G_ j3 (af (pv 0) (af (il (v:=.ref CN) rfl L.mN rfl) ak))) (af (a9 gE rfl T.G_ j3 (af (pv 0) (af (il (v:=.ref CT) rfl L.mT rfl) ak))) (af (a9 gE rfl T.G_ j3 (af (pv 0) (af (il (v:=.ref CE) rfl L.mE rfl) ak))) ak)))))
  (aj (aF (i:=3) Fy.nd rfl (bC rfl) (bo wQ (pv 3) (bU (af (a9 gE rfl T.G_ j3 (af (pv 0) (af (il (v:=.ref CU) rfl L.mU rfl) ak))) (af (a9 gE rfl T.G_ j3 (af (pv 0) (af (il (v:=.ref CL) rfl L.mL rfl) ak))) ak)))))
  (aj (cA (PW.pt (yl (Ak (g_ (a9 gE rfl T.G_ j3 (af (pv 0) (af (wM (v:=.ty "ValueError") rfl L.mV0 HR rfl) ak))))) (wJ (bB (Ar hu) (pv 3) (bx ["_law_k"] [(1,"_law_number")] rfl (iu rfl T.FT (af ay ak)) (ba rfl rfl) nofun rfl nofun
    (λ_ _ _ _ _=>au (i:=0) (ndq nofun) rfl (bC rfl)) (λ_ _ _ _ _=>b9) (λ_ _ _ _ _=>gS qa (bo d7 (pv 0) ay) (pv 1) (cX _))) (cX _))))) (ao (bc gC)) aZ)
  (aj (cA (PW.pt (yl (g_ (a9 gE rfl T.G_ j3 (af (pv 0) (af (il (v:=.ref CR) rfl L.mR rfl) ak)))) (yl (g_ (a9 gE rfl T.G_ j3 (af (pv 0) (af (il (v:=.ref CV) rfl L.mV rfl) ak)))) (wJ (g_ (a9 gE rfl T.G_ j3 (af (pv 0) (af (il (v:=.ref CM) rfl L.mM rfl) ak))))))) ) (ao (bc gC)) aZ)
  (aj (cA (bB qa (pv 1) ay (cX _)) (ao (bc (Ge (a9 zp rfl T.G_ j3 (af (qM (pv 0) rfl) (af (wM (v:=.ty "str") rfl T.str PyProof.Rows.boot_str rfl) ak))) (Ap (gS qa (qM (pv 0) rfl) (pv 2) (cX _)))))) aZ)
  (aj (cA (bB jd (pv 1) (bT (af ay (af ay ak))) rfl) (ao (bc (Ge (a9 xy rfl T.G_ j3 (af (qM (pv 0) rfl) (af (wM (v:=.ty "list") rfl T.lst dW rfl) ak))) (Ap (gS (As hu) (qM (pv 0) rfl) (pv 2) (cX _)))))) aZ)
  (ao (bc gC))))))),?_⟩
 nofun
 obtain⟨C,io,⟨xg,k1,k2,k3,k4,k5,k6,k7,k8,k9⟩,w2,w34⟩:=E_ L to du hn;have iS:∀{Ha:Hp},aD H Ha->Ij K Ha v6 (.ref C):=λs=>by
  cases io with
  | exc xo g=>exact .exc ⟨s _ _ xo.1,s _ _ xo.2⟩ g
  | bare xo g=>exact .bare (s _ _ xo) g
 refine⟨_,rfl,v6,.ref C,.ref CN,.ref CN,_,rfl,io,λ_ z=>z,k1,_,rfl,v6,.ref C,.ref CT,.ref CT,_,rfl,io,λ_ z=>z,k2,_,rfl,v6,.ref C,.ref CE,.ref CE,_,rfl,io,λ_ z=>z,k3,YT,λD1 NF=>?_⟩;have s1:=ah NF (.lst [.bl (decide (n=1)),.bl (decide (n=2)),.bl (decide (n=3))]);have e1:upd H D1 (.lst [.bl (decide (n=1)),.bl (decide (n=2)),.bl (decide (n=3))]) D1=some (.lst [.bl (decide (n=1)),.bl (decide (n=2)),.bl (decide (n=3))]):=ae;generalize upd H D1 (.lst [.bl (decide (n=1)),.bl (decide (n=2)),.bl (decide (n=3))])=H1 at s1 e1
 ac_rfl
 refine⟨_,rfl,_,rfl,v6,.ref C,.ref CU,.ref CU,_,rfl,iS s1,λ_ z=>z,k4,_,rfl,v6,.ref C,.ref CL,.ref CL,_,rfl,iS s1,λ_ z=>z,k5,mq,λD2 iY=>?_⟩;have s2:=s1.trans (ah iY (.lst [.bl (decide (n=4)),.bl (decide (n=5))]));have HG:=ah iY (.lst [.bl (decide (n=4)),.bl (decide (n=5))]) _ _ e1;have e2:upd H1 D2 (.lst [.bl (decide (n=4)),.bl (decide (n=5))]) D2=some (.lst [.bl (decide (n=4)),.bl (decide (n=5))]):=ae;generalize upd H1 D2 (.lst [.bl (decide (n=4)),.bl (decide (n=5))])=H2 at s2 HG e2;refine⟨D1,D2,_,_,rfl,rfl,HG,e2,(by show 3+2<=sizeLine;decide),λD3 IF=>?_⟩;have s3:=s2.trans (ah IF (.lst ([V.bl (decide (n=1)),.bl (decide (n=2)),.bl (decide (n=3))]++[V.bl (decide (n=4)),.bl (decide (n=5))])));have e3:upd H2 D3 (.lst ([V.bl (decide (n=1)),.bl (decide (n=2)),.bl (decide (n=3))]++[V.bl (decide (n=4)),.bl (decide (n=5))])) D3=some (.lst ((List.range 5).map λk:Nat=>V.bl (decide (n=(k:Int)+1)))):=by rw [ae];rfl
 generalize upd H2 D3 (.lst ([V.bl (decide (n=1)),.bl (decide (n=2)),.bl (decide (n=3))]++[V.bl (decide (n=4)),.bl (decide (n=5))]))=H3 at s3 e3
 ac_rfl
 refine⟨_,rfl,v6,.ref C,.ty "ValueError",.type "ValueError",true,rfl,iS s3,λ_ z=>z,k9,true,rfl,?_⟩;refine iD ?_;refine⟨_,rfl,5,rfl,nofun,nofun,λD4 TV=>?_⟩;refine zi (n:=5) (λi ys σ2 H4=>ys=(List.range i).map (λk:Nat=>V.bl (decide (n=(k:Int)+1)))/\(∃y0,σ2=[y0,some (.int n)])/\aD H3 H4/\H4 D4=some (.lst ys))
  ⟨rfl,⟨none,rfl⟩,ah TV _,ae⟩ (λi ys σ2 H4 hi h=>?_) (λys σ2 H4 h=>?_)
 .obtain⟨rfl,⟨y0,rfl⟩,sm,qW⟩:=h;refine goN (xi ?_);refine⟨_,rfl,_,_,rfl,rfl,_,rfl,rfl,qW,bI (by rw [aB,rG];omega),?_,⟨_,rfl⟩,λb o hb=>?_,ae⟩
  .rw [List.range_succ,bD];have:decide (V.int (0+(i:Int)+1)=V.int n)=decide (n=(i:Int)+1):=decide_eq_decide.mpr ⟨λh=>by injection h with h;omega,λh=>by rw [h,Int.zero_add]⟩;show _++[V.bl (decide (V.int (0+(i:Int)+1)=V.int n))]=_;rw [this];rfl
  rw [ai (λz=>by rw [z,TV] at hb;cases hb)];exact sm b o hb
 obtain⟨rfl,_,C_,HF⟩:=h;have s4:=s3.trans C_;refine⟨D3,D4,_,rfl,rfl,aG.of (C_ _ _ e3),aG.of HF,λv hv=>?_,_,rfl,?_⟩
 .obtain⟨k,_,rfl⟩:=cN.mp hv;exact .inl rfl
 refine iD ?_
 ac_rfl
 refine⟨_,rfl,v6,.ref C,.ref CR,.ref CR,false,rfl,iS s4,λ_ z=>z,k6,false,rfl,?_⟩;refine iD ?_;refine⟨_,rfl,v6,.ref C,.ref CV,.ref CV,false,rfl,iS s4,λ_ z=>z,k7,false,rfl,?_⟩;refine iD ?_;refine⟨_,rfl,v6,.ref C,.ref CM,.ref CM,false,rfl,iS s4,λ_ z=>z,k8,false,rfl,?_⟩;refine iD ?_
 ac_rfl
 refine⟨_,rfl,rfl,_,rfl,?_⟩;by_cases c2:n=2
 .rw [cw (show V.int n=V.int 2 by rw [c2])];refine lF ?_;obtain⟨ea,dx,z,rfl,xo,na,rfl⟩:=w2 c2;have YV:ER H4 ea C dx [("word",.str z)]:=⟨s4 _ _ xo.1,s4 _ _ xo.2⟩;refine⟨_,rfl,ea,C,dx,_,.str z,rfl,YV,xg,na,rfl,.str z,"str","str",true,rfl,.str z,G5,true,rfl,?_⟩;refine lF ?_;refine⟨_,rfl,ea,C,dx,_,.str z,rfl,YV,xg,na,rfl,_,rfl,rfl,?_⟩;rw [cw rfl];exact q _ s4
 rw [dO (show ¬V.int n=V.int 2 from λh=>c2 (by injection h))];refine iD ?_;refine⟨_,rfl,mq,λt5 M_=>?_⟩;have s5:=s4.trans (ah M_ (.tup [.int 3,.int 4]));have e5:bf K (upd H4 t5 (.tup [.int 3,.int 4])) t5 [.int 3,.int 4]:=bf.of ae;generalize upd H4 t5 (.tup [.int 3,.int 4])=H5 at s5 e5;refine⟨t5,_,rfl,.inr e5,rfl,rfl,_,rfl,?_⟩;by_cases c34:n=3\/n=4
 .rw [show Iv (.int n) [.int 3,.int 4]=true by rcases c34 with h | h <;> rw [h] <;> rfl]
  refine lF ?_;obtain⟨ea,dx,m,zs,l,rfl,xo,na,em,rfl,el⟩:=w34 c34;have YU:ER H5 ea C dx [("names",.ref m)]:=⟨s5 _ _ xo.1,s5 _ _ xo.2⟩;refine⟨_,rfl,ea,C,dx,_,.ref m,rfl,YU,xg,na,rfl,m,_,"list",true,rfl,aG.of (s5 _ _ em),DP,true,rfl,?_⟩;refine lF ?_;exact⟨_,rfl,ea,C,dx,_,.ref m,rfl,YU,xg,na,rfl,_,rfl,m,l,_,rfl,rfl,aG.of (s5 _ _ em),aG.of (s5 _ _ el),λv hv=>by
   obtain⟨z,_,rfl⟩:=cN.mp hv;exact .inl rfl,q _ s5⟩
 rw [show Iv (.int n) [.int 3,.int 4]=false by
  cases h:Iv (.int n) [.int 3,.int 4] with
  | false=>rfl
  | true =>
   exfalso;unfold Iv at h;simp [EM] at h;omega]
 refine iD ?_;exact q _ s5
end
abbrev Ml:Stmt:=top 54
def Due.kp {H H':Hp}{aa str:List av}{n:Int}{v:V}(h:Due H aa str n v)(k:Kp H H'):Due H' aa str n v:=by
 cases h with
 | eQ a=>exact .eQ a
 | twice a b=>exact .twice a b
 | oB a b c d=>exact .oB a b c (k.lst d)
 | Bn a b c d e=>exact .Bn a b c d (k.lst e)
 | loop a b c d e=>exact .loop a b c d e
 | good a b c d e=>exact .good a b c d e
structure Oc (zs:List Str)(aa:List av):Prop where
 NR:∀ru∈aa,ru.2.length<=3
 IB:∀ru∈aa,ru.1∈zs.take 4
def Oc.bd {zs:List Str}{aa:List av}(h:Oc zs aa):EE aa:=Ko (A:=zs.take 4) h.NR (by rw [dA];omega) h.IB
def Oc.txt {zs:List Str}{aa:List av}(h:Oc zs aa)(hz:∀z∈zs,fC z):∀x∈hd aa,fC x:=λx hx=>by
 obtain⟨ru,fK,rfl⟩:=cN.mp (mQ.mp hx);exact hz _ (pV (h.IB ru fK))
def Oc.four {zs:List Str}{aa:List av}(h:Oc zs aa):(hd aa).length<=8:=by
 have:=d8 (hd aa) (zs.take 4) (yO aa) λx hx=>by
  obtain⟨ru,fK,rfl⟩:=cN.mp (mQ.mp hx);exact h.IB ru fK
 rw [dA] at this;omega
section
variable {P:Program}{w:World}{K:aR}{mg:Str->Option Value}{base:Heap}{f CN CT CE CU CL:Addr}{fd:FuncData}
def BM (K:aR)(T1 T2 T3:Addr):Sp:=λvs H Q _=>∃(a:Addr)(ns:List Int),vs=[.ref a]/\aG K H a (ns.map V.int)/\ns.length<=63/\xO T1 T2 T3 H/\∀H',Q (.bl true) H'
def nP:aJ ["_law_script","_law_pool_here","_law_rules","_law_strengths_here","_law_number","_law_value","_law_again","_law_start","_law_caught"] ["_law_script"] (aw Ml):=iP rfl rfl rfl rfl nofun
def HN (ns:List Int):∃jB:List Int,hJ (ns.map V.int) (some 2) (some 12)=jB.map V.int/\jB.length<=12:=by
 refine⟨(ns.drop (HT.dZ (ns.map V.int).length 0 (some 2))).take (HT.dZ (ns.map V.int).length (ns.map V.int).length (some 12) - HT.dZ (ns.map V.int).length 0 (some 2)),by unfold hJ;rw [<-oQ,<-oR],?_⟩;have e2:HT.dZ (ns.map V.int).length (ns.map V.int).length (some 12)=min 12 (ns.map V.int).length:=HT.kX _ _ 12;rw [dA,e2];omega
def MH {T1 T2 T3:Addr}(F:hZ K "law" "law" Ml f fd)(T:Txt mg)(GCc:aL P w K mg base 9 "_law_cell_at" ["_law_script","_law_k"] (Fs K))(GP:aL P w K mg base 9 "_law_pool" ["_law_cell","_law_many"] Fl)
  (GR:aL P w K mg base 9 "_law_rule" ["_law_cell","_law_pool_here"] (BH K))(GS:aL P w K mg base 9 "_law_strengths" ["_law_cell","_law_pool_here"] (Fj K))(GD:aL P w K mg base 9 "_law_due" ["_law_rules","_law_strengths_here"] (Fq K))(GI:aL P w K mg base 9 "_law_is" ["_law_caught","_law_number","_law_value"] (KO K CN CT CE CU CL))
  (GT:aL P w K mg base 9 "_law_told" ["_law_rules","_law_strengths_here"] (BA K T1 T2 T3 CN CT CE CU CL)):bh P w K mg base fJ 10 f fd ["_law_script"] (BM K T1 T2 T3):=by
 refine F.ok nP (by and_intros) (λdN A outer s H vs Q E hr h=>?_)
 obtain⟨a,X4,rfl,hS,h63,hT,q⟩:=h;refine⟨_,(aj (aF (i:=1) nP.nd rfl (Or.inr rfl) (bX GP hr rfl (af (bX GCc hr rfl (af (pv 0) (af ay ak))) (af ay ak))))
  (aj (ik (iy:=2) ["_law_cell"] [(1,"_law_pool_here")] nP.nd rfl rfl rfl (aQ (ff jx (pv 0) (d6 ay) (d6 ay))) (ba rfl rfl) nofun rfl nofun
   (λ_ _ _ _ _=>au (i:=0) (ndq nofun) rfl (bC rfl)) (λ_ _ _ _ _=>b9) (λ_ _ _ _ _=>bX GR hr rfl (af (pv 0) (af (pv 1) ak))))
  (aj (aF (i:=3) nP.nd rfl (bC rfl) (bX GS hr rfl (af (bX GCc hr rfl (af (pv 0) (af ay ak))) (af (pv 1) ak))))
  (aj (Am (bX GD hr rfl (af (pv 2) (af (pv 3) ak))) (fc rfl (aC (au (i:=4) nP.nd rfl (bC rfl)) (aC (au (i:=5) nP.nd rfl (bC rfl)) bM))))
  (aj (bK cx rfl (iu rfl T.FT (af ay ak)) (au (i:=6) nP.nd rfl (bC rfl))
   (aj (Am (bX GT hr rfl (af (aX df rfl T.lst dW (af (pv 2) ak)) (af (aX df rfl T.lst dW (af (pv 3) ak)) ak))) (fc rfl (aC (au (i:=7) nP.nd rfl (bC rfl)) (aC (au (i:=8) nP.nd rfl (bC rfl)) bM))))
   (ao (cA (bB qa (pv 4) ay (cX _)) (ao (cA (PW.pt (yl (e_ (B9 (pv 8))) (wJ (bB Qc (pv 7) (bH cS (bH cO (pv 2) ay (λ_ _=>rfl)) ay (λ_ _=>rfl)) (cX _))))) (ao (bc gC)) aZ))
    (ao (cA (Ak (g_ (bX GI hr rfl (af (pv 8) (af (pv 4) (af (pv 5) ak)))))) (ao (bc gC)) aZ))))))
  (ao (bc gC))))))),?_⟩
 nofun
 refine⟨_,rfl,a,X4,0,rfl,hS,∅,λn0=>?_⟩;refine⟨n0,8,rfl,nofun,λPl zs H1 hPf s1 Xc QP ZJ aag=>?_⟩
 ac_rfl
 refine⟨_,rfl,2,rfl,12,rfl,a,_,rfl,s1.seq hS,λc1 Lg=>?_⟩;obtain⟨jB,e1,l1⟩:=HN X4;rw [e1];have s2:=s1.trans (ah Lg (.lst (jB.map V.int)));have JV:upd H1 c1 (.lst (jB.map V.int)) Pl=some (.lst (zs.map V.str)):=by rw [ai (aq Xc Lg)];exact Xc
 have xb:upd H1 c1 (.lst (jB.map V.int)) c1=some (.lst (jB.map V.int)):=ae;generalize upd H1 c1 (.lst (jB.map V.int))=H2 at s2 JV xb;refine⟨c1,rfl,⟨_,aG.of xb⟩,λRl Xa=>bY (xs:=jB.map V.int) (λi ys σ2 H3=>∃(rs:List Addr)(aa:List av),ys=rs.map V.ref/\rs.length=i/\bz K H3 rs aa/\(∀ru∈aa,ru.2.length<=3/\ru.1∈zs.take 4)/\(∃y,σ2=[y,bj Pl])/\aD H2 H3/\H3 Rl=some (.lst ys))
  ⟨[],[],rfl,rfl,.nil,by simp,⟨none,rfl⟩,ah Xa _,ae⟩ (λi ys σ2 H3 _ h=>?_) (λi x ys σ2 H3 ex h=>?_) (λys σ2 H3 h=>?_)⟩
 .obtain⟨_,_,_,_,_,_,_,sm,_⟩:=h;exact aG.of (sm _ _ xb)
 .obtain⟨rs,aa,rfl,Q2,hr2,hr3,⟨y,rfl⟩,sm,gp⟩:=h;have li:=(aY.mp ex).1;rw [aB] at li;rw [bq] at ex;obtain⟨n,en,rfl⟩:=bR.mp ex;refine goN ?_;refine xi ?_;refine⟨_,rfl,_,rfl,n,Pl,zs,rfl,aG.of (sm _ _ JV),QP,λR p2 h dU H4 C_ v1 v2 h8 h4=>?_⟩;have qW:=C_ _ _ gp;refine⟨qW,bI (by rw [aB];omega),rs++[R],aa++[(h,dU)],?_,?_,?_,?_,⟨_,rfl⟩,?_,ae⟩
  .rw [bD];rfl
  .rw [cu,Q2];rfl
  .exact gh (hr2.keep λb xs z=>a_ qW (C_.tup z)) ⟨p2,a_ qW (bf.of v1),a_ qW (bf.of v2)⟩
  .intro ru fK;rcases bZ.mp fK with z | z
   .exact hr3 ru z
   rw [cJ.mp z];exact⟨h8,h4⟩
  intro b o hb;rw [ai (λz=>by rw [z,Xa] at hb;cases hb)];exact C_ _ _ (sm b o hb)
 obtain⟨rs,aa,rfl,Q2,JL,Xh,_,BP,NB⟩:=h;rw [aB] at Q2;have RB:=BP _ _ JV;have ll:=bG JL;have s3:=s2.trans BP;have rd:Oc zs aa:=⟨λru h=>(Xh ru h).1,λru h=>(Xh ru h).2⟩;have a8:aa.length<=12:=by omega
 have h8:∀ru∈aa,ru.2.length<=8:=λru h=>by have:=rd.NR ru h;omega
 clear xb JV e1 l1 Lg Xc s1 hPf Xa Xh
 ac_rfl
 refine⟨_,rfl,a,X4,1,rfl,s3.seq hS,∅,λc=>?_⟩;refine⟨_,rfl,c,Pl,zs,rfl,aG.of RB,∅,ZJ,λS ss str H4 fS s4 eS Jb lst Iy AS=>?_⟩;have P1:=s3.trans s4
 ac_rfl
 refine⟨_,rfl,_,rfl,Rl,S,rs,ss,aa,str,rfl,aG.of (s4 _ _ NB),JL.same s4,∅,h8,rd.four,aG.of eS,Jb,∅,Iy,λt n v H5 s5 et du=>?_⟩;refine⟨t,_,rfl,bf.of et,rfl,_,_,rfl,_,_,rfl,rfl,?_⟩;have t5:=hT.same (P1.trans s5);have eR5:=s5 _ _ (s4 _ _ NB);have rl5:=(JL.same s4).same s5;have eS5:=s5 _ _ eS;have sl5:=Jb.same s5;clear et P1 s5 s4 Jb eS fS NB JL s3 s2 BP RB hS hT
 ac_rfl
 refine⟨2,rfl,nofun,nofun,?_⟩
 let oJ:oN:=λi σ H6=>∃(y6 y7 y8:Option V),σ=[bj a,bj Pl,bj Rl,bj S,some (.int n),some v,y6,y7,y8]/\xO T1 T2 T3 H6/\H6 Rl=some (.lst (rs.map V.ref))/\bz K H6 rs aa/\H6 S=some (.lst (ss.map V.ref))/\bz K H6 ss str/\Due H6 aa str n v
 refine jj (n:=2) oJ ⟨_,_,_,rfl,t5,eR5,rl5,eS5,sl5,du⟩ ?_ ?_
 .intro i σ H6 hi qw
  ac_nf0
  obtain⟨y6,y7,y8,rfl,t6,XO,U_,XM,U0,du6⟩:=qw;refine goN ?_
  ac_nf
  refine⟨_,rfl,Rl,_,rfl,.inl (aG.of XO),λR7 hR7=>?_⟩;have s7:=ah hR7 (.lst (rs.map V.ref));have e7:upd H6 R7 (.lst (rs.map V.ref)) R7=some (.lst (rs.map V.ref)):=ae;generalize upd H6 R7 (.lst (rs.map V.ref))=H7 at s7 e7;refine⟨_,rfl,S,_,rfl,.inl (aG.of (s7 _ _ XM)),λS8 hS8=>?_⟩;have s8:=ah hS8 (.lst (ss.map V.ref));have e8:upd H7 S8 (.lst (ss.map V.ref)) S8=some (.lst (ss.map V.ref)):=ae;generalize upd H7 S8 (.lst (ss.map V.ref))=H8 at s8 e8;have Tc:=s7.trans s8;have t8:=t6.same Tc;refine⟨R7,S8,rs,ss,aa,str,rfl,aG.of (s8 _ _ e7),U_.same Tc,∅,h8,rd.txt ZJ,aG.of e8,U0.same Tc,∅,Iy,AS,rd.bd,t8,λt v7 v6 H9 s9 t9 et to=>?_⟩;have k9:Kp H6 H9:=(Kp.of Tc).trans (Kp.Zj s9 t8);have XN:=k9.lst XO;have U9:=k9.aa U_;have eS9:=k9.lst XM;have Y_:=k9.aa U0;have Ul:=du6.kp k9;refine⟨t,_,rfl,bf.of et,rfl,_,_,rfl,_,_,rfl,rfl,?_⟩
  ac_rfl
  refine⟨_,rfl,rfl,_,rfl,?_⟩;by_cases c0:n=0
  .subst c0;rw [cw rfl];refine lF ?_;obtain⟨cb,kZ,rfl,rfl⟩:=C7 to Ul;obtain⟨r0,Lo,p0,v10,v20⟩:=Paired.at_ U9 0 cb kZ;have xC:pI (rs.map V.ref) 0=some (.ref r0):=cW (j:=0) (by rw [bq,Lo];rfl);refine⟨_,rfl,_,rfl,?_⟩;refine iD ?_;refine⟨_,rfl,_,rfl,Rl,_,_,_,rfl,rfl,aG.of XN,xC,r0,_,_,_,rfl,rfl,v10,rfl,rfl,_,rfl,?_⟩;rw [cw rfl];refine iD ?_;exact⟨_,_,_,rfl,t9,XN,U9,eS9,Y_,Ul⟩
  rw [dO (show ¬V.int n=V.int 0 from λh=>c0 (by injection h))];refine iD ?_;refine⟨_,rfl,_,rfl,_,rfl,aa,str,v7,v6,v,n,rfl,to,Ul,c0,λuo lW=>⟨true,rfl,?_⟩⟩;refine iD ?_;have k10:=Kp.of lW;exact⟨_,_,_,rfl,t9.same lW,lW _ _ XN,U9.same lW,lW _ _ eS9,Y_.same lW,Ul.kp k10⟩
 rintro σ H6 ⟨y6,y7,y8,rfl,t6,XO,U_,XM,U0,du6⟩;exact q _
end
abbrev q9 (K:Frag)(nm fld:Str)(C W f:Addr):Prop:=(nsIn K mainGlobals nm,KH K C f zr "ValueError.__new__",keepIn K (.ref C),(clsIn K C).map (λcd=>(cd.mro,cd.hasDict)),findIn K (.ref C) "__setattr__",takerIn K C fld,(K.lookup f).map (·.cls),exmOne K (.ref C) (.ref W),hasDictIn K C)=(some (some (.ref C)),true,true,some (.ref C::.ref W::zr,true),some (some (.builtin "object.__setattr__")),some none,some (.type "function"),some true,true) /\
 (findIn K (.ref C) "__getattribute__",findIn K (.ref C) "__getattr__",mroIn K C (.type "BaseException"),mroIn K C (.type "object"),findIn K (.ref C) "__class__",kitCls K (.ref C) (.ref C),findIn K (.ref C) fld,findIn K (.ref C) "__init__")=(some (some (.builtin "BaseException.__getattribute__")),some none,some true,some true,some (some (.builtin "object.__class__")),some true,some none,some (some (.ref f)))
abbrev CS (K:Frag)(W:Addr):Prop:=(specialIn K (.ref W) "__getattribute__",readsIn K W (.type "type"),findCls K (.ref W) (.type "type") "__init__",handedIn (.builtin "ValueError.__init__"),nsIn K mainGlobals "WrightError",nsIn K mainGlobals "ValueError",specialIn K (.builtin "object.__class__") "__get__",takesIn K (.builtin "object.__class__"))=(some (some (.builtin "type.__getattribute__")),true,some (.val (.builtin "ValueError.__init__")),true,some (some (.ref W)),some none,some (some (.builtin "getset_descriptor.__get__")),some true)
abbrev ED (K:Frag)(C W:Addr):Prop:=(nsIn K mainGlobals "NoRules",C0 K C zr "ValueError.__new__",keepIn K (.ref C),exmOne K (.ref C) (.ref W),hasDictIn K C)=(some (some (.ref C)),true,true,some true,true)/\(findIn K (.ref C) "__getattribute__",findIn K (.ref C) "__getattr__",mroIn K C (.type "BaseException"),mroIn K C (.type "object"),findIn K (.ref C) "__class__",kitCls K (.ref C) (.ref C))=(some (some (.builtin "BaseException.__getattribute__")),some none,some true,some true,some (some (.builtin "object.__class__")),some true)
abbrev EC (K:Frag)(CN CT CE CU CL CR CV CM C:Addr) (n:Int):Prop:=(kitOne K (.ref C) (.ref CN),kitOne K (.ref C) (.ref CT),kitOne K (.ref C) (.ref CE),kitOne K (.ref C) (.ref CU),kitOne K (.ref C) (.ref CL),kitOne K (.ref C) (.ref CR),kitOne K (.ref C) (.ref CV),kitOne K (.ref C) (.ref CM),kitOne K (.ref C) (.type "ValueError"))=(some (decide (n=1)),some (decide (n=2)),some (decide (n=3)),some (decide (n=4)),some (decide (n=5)),some false,some false,some false,some true)
abbrev YO (K:Frag)(CR CV CM:Addr):Prop:=(nsIn K mainGlobals "NoRow",nsIn K mainGlobals "Vast",nsIn K mainGlobals "TooMany")=(some (some (.ref CR)),some (some (.ref CV)),some (some (.ref CM)))
section
variable {K:Frag}{nm fld:Str}{C W f CN CT CE CU CL CR CV CM fT fE fU fL:Addr}{n:Int}{mg:Str->Option Value}{h:Heap}
def q9.np (e:q9 K nm fld C W f)(w:CS K W)(X:K.In h)(G:h.Ns mainGlobals mg):Lz K mg nm fld C W f:=by
 obtain⟨a,b⟩:=e;unfold CS at w;simp only [gu] at a b w;obtain⟨cd,h1,h2⟩:=bR.mp a.2.2.2.1;injection h2 with h2 h3;obtain⟨oI,o1,o2⟩:=bR.mp a.2.2.2.2.2.2.1;exact⟨a.2.1,a.2.2.1,mg_of X G a.1,mg_of X G w.2.2.2.2.1,⟨cd,h1,a.2.2.2.2.1,λself=>by rw [h2];rfl,by rw [h2];rfl,h3⟩,a.2.2.2.2.2.1,⟨w.1,⟨_,w.2.1,w.2.2.1⟩,w.2.2.2.1⟩,⟨oI,o1,o2⟩⟩
def q9.xg (e:q9 K nm fld C W f)(w:CS K W):XG K C:=by
 obtain⟨a,b⟩:=e;unfold CS at w;simp only [gu] at a b w;exact⟨a.2.2.2.2.2.2.2.2,b.1,b.2.1,b.2.2.1,b.2.2.2.1,b.2.2.2.2.1,w.2.2.2.2.2.2.1,w.2.2.2.2.2.2.2,b.2.2.2.2.2.1⟩
def q9.na (e:q9 K nm fld C W f):cM K C fld:=by
 obtain⟨a,b⟩:=e;simp only [gu] at b;exact b.2.2.2.2.2.2.1
def q9.xm (e:q9 K nm fld C W f):exmOne K (.ref C) (.ref W)=some true:=by
 obtain⟨a,b⟩:=e;simp only [gu] at a;exact a.2.2.2.2.2.2.2.1
def q9.ns (e:q9 K nm fld C W f)(X:K.In h)(G:h.Ns mainGlobals mg):mg nm=some (.ref C):=by
 obtain⟨a,b⟩:=e;simp only [gu] at a;exact mg_of X G a.1
theorem q9.at_ {g:Addr}(e:q9 K nm fld C W f)(m:Meth K C "__init__" g):g=f:=by
 obtain⟨a,b⟩:=e;simp only [gu] at b;have:=m.at_.symm.trans b.2.2.2.2.2.2.2;injection this with this;injection this with this;injection this
def q9.rz {P:Program}{w:World}{base:Heap}{st:Stmt}{qual:Str}{g:Addr}{gd:FuncData}(e:q9 K nm fld C W f)(ew:CS K W)(X:K.In h)(G:h.Ns mainGlobals mg)(F:hZ K "__init__" qual st g gd)(m:Meth K C "__init__" g)(B:Binds K gd ["self",fld] [])
  (o:Lz K mg nm fld C W g->bh P w K mg base fJ 1 g gd ["self",fld] (nF K C fld)):Su P w K mg base nm fld C:=by
 cases e.at_ m;have n:=e.np ew X G;exact⟨W,_,gd,n,o n,B⟩
def CS.mW (ew:CS K W)(X:K.In h)(G:h.Ns mainGlobals mg):mg "WrightError"=some (.ref W):=by
 unfold CS at ew;simp only [gu] at ew;exact mg_of X G ew.2.2.2.2.1
def q9.rzT {P:Program}{w:World}{base:Heap}{g:Addr}{gd:FuncData}(e:q9 K "Twice" "word" C W f)(ew:CS K W)(X:K.In h)(G:h.Ns mainGlobals mg)(F:hZ K "__init__" "Twice.__init__" qJ g gd)(m:Meth K C "__init__" g)(B:Binds K gd ["self","word"] [])(T:Txt mg):YE P w K mg base C:=by
 cases e.at_ m;have n:=e.np ew X G;exact⟨W,_,gd,n,Dr F T n,B⟩
def ED.xg (e:ED K C W)(w:CS K W):XG K C:=by
 obtain⟨a,b⟩:=e;unfold CS at w;simp only [gu] at a b w;exact⟨a.2.2.2.2,b.1,b.2.1,b.2.2.1,b.2.2.2.1,b.2.2.2.2.1,w.2.2.2.2.2.2.1,w.2.2.2.2.2.2.2,b.2.2.2.2.2⟩
def ED.x0 (e:ED K C W):C0 K C zr "ValueError.__new__"=true:=by
 have a:=e.1;simp only [gu] at a;exact a.2.1
def ED.kp (e:ED K C W):keepIn K (.ref C)=true:=by
 have a:=e.1;simp only [gu] at a;exact a.2.2.1
def ED.xm (e:ED K C W):exmOne K (.ref C) (.ref W)=some true:=by
 have a:=e.1;simp only [gu] at a;exact a.2.2.2.1
def ED.ns (e:ED K C W)(X:K.In h)(G:h.Ns mainGlobals mg):mg "NoRules"=some (.ref C):=by
 have a:=e.1;simp only [gu] at a;exact mg_of X G a.1
def EC.row (e:EC K CN CT CE CU CL CR CV CM C n)(x:XG K C):Bj K CN CT CE CU CL CR CV CM C n:=by
 unfold EC at e;simp only [gu] at e;exact⟨x,e⟩
def lxI (eN:ED K CN W)(eT:q9 K "Twice" "word" CT W fT)(eE:q9 K "Endless" "names" CE W fE)(eU:q9 K "Unmet" "names" CU W fU)(eL:q9 K "Loop" "steps" CL W fL)(ew:CS K W)(em:YO K CR CV CM)
  (r1:EC K CN CT CE CU CL CR CV CM CN 1)(r2:EC K CN CT CE CU CL CR CV CM CT 2)(r3:EC K CN CT CE CU CL CR CV CM CE 3)(r4:EC K CN CT CE CU CL CR CV CM CU 4)(r5:EC K CN CT CE CU CL CR CV CM CL 5)(X:K.In h)(G:h.Ns mainGlobals mg):YH K mg CN CT CE CU CL CR CV CM:=by
 have Xr:=ew;unfold CS at Xr;unfold YO at em;simp only [gu] at Xr em;exact⟨eN.ns X G,eT.ns X G,eE.ns X G,eU.ns X G,eL.ns X G,mg_of X G em.1,mg_of X G em.2.1,mg_of X G em.2.2,mg_none_of X G Xr.2.2.2.2.2.1,r1.row (eN.xg ew),r2.row (eT.xg ew),r3.row (eE.xg ew),r4.row (eU.xg ew),r5.row (eL.xg ew),eT.na,eE.na,eU.na⟩
end
end fY
namespace L2
open PySem
def Bm {C:List Value->Prop}(h:∀a,C [a]):∀us:List Value,us.length=1->C us
 | [a],_=>h a
def Bl {C:List Value->Prop}(h:∀a b,C [a,b]):∀us:List Value,us.length=2->C us
 | [a,b],_=>h a b
def Oq {C:List Value->Prop}(h:∀a b c,C [a,b,c]):∀us:List Value,us.length=3->C us
 | [a,b,c],_=>h a b c
def fw (K:aR)(x:Str)(st:Stmt):Prop:=∃(g:Addr)(oc:Value)(od an:Option Addr)(sl:Array (Option Value))(kV dc pm cd ct:Value),PySem.W.nsIn K mainGlobals x=some (some (.ref g)) /\
 K.lookup g=some ⟨oc,od,.func (PySem.W.fnOf x x (dw st) (bQ st) (aw st) .none kV dc pm an cd ct),sl⟩/\PySem.W.codeIn K cd x=true/\PySem.W.keepIn K (.ref g)=true
def fw.get {K:aR}{h:Heap}{mg:Str->Option Value}{x:Str}{st:Stmt}(X:K.In h)(G:h.Ns mainGlobals mg)(H:fw K x st):∃g gd,hZ K x x st g gd/\mg x=some (.ref g):=by
 obtain⟨g,oc,od,an,sl,kV,dc,pm,cd,ct,a,l,c,k⟩:=H;exact⟨g,_,Hr (st:=st) l c k,oS X G a⟩
def EB (K:aR)(x:Str)(st:Stmt)(T:Addr):Prop:=∃(g:Addr)(oc:Value)(od an:Option Addr)(sl:Array (Option Value))(kV dc pm:Value)(c:Addr)(ct:Value),PySem.W.nsIn K mainGlobals x=some (some (.ref g)) /\
 K.lookup g=some ⟨oc,od,.func (PySem.W.fnOf x x (dw st) (bQ st) (aw st) .none kV dc pm an (.ref c) ct),sl⟩/\PySem.W.codeIn K (.ref c) x=true/\PySem.W.codeHdIn K c T=true/\PySem.W.keepIn K (.ref g)=true
def EB.get {K:aR}{h:Heap}{mg:Str->Option Value}{x:Str}{st:Stmt}{T:Addr}(X:K.In h)(G:h.Ns mainGlobals mg)(H:EB K x st T):∃g gd,zy K x x st g gd T/\mg x=some (.ref g):=by
 obtain⟨g,oc,od,an,sl,kV,dc,pm,c,ct,a,l,d,e,k⟩:=H;exact⟨g,_,⟨⟨oc,od,kV,dc,pm,an,c,ct,sl,rfl,l,d,e⟩,k⟩,oS X G a⟩
def zy.binds {K:aR}{x qual:Str}{st:Stmt}{f T:Addr}{fd:FuncData}{ps:List Str}(F:zy K x qual st f fd T)
  (h:∀(kV doc pm:Value)(an:Option Addr)(dN ct:Value)(us:List Value),us.length=ps.length->bindArgs (PySem.W.fnOf x qual (dw st) (bQ st) (aw st) .none kV doc pm an dN ct) ⟨us,[]⟩=pure (ps.zip us)):Binds K fd ps []:=by
 obtain⟨oc,od,kV,doc,pm,an,c,ct,wN,rfl,lk,sZ,_⟩:=F.ex;exact .all (h kV doc pm an (.ref c) ct)
def qA (K:aR)(C:Addr)(m qual:Str)(st:Stmt):Prop:=∃(g:Addr)(oc:Value)(od an:Option Addr)(sl:Array (Option Value))(kV dc pm cd ct:Value),PySem.W.findIn K (.ref C) m=some (some (.ref g)) /\
 K.lookup g=some ⟨oc,od,.func (PySem.W.fnOf m qual (dw st) (bQ st) (aw st) .none kV dc pm an cd ct),sl⟩/\PySem.W.codeIn K cd qual=true/\PySem.W.keepIn K (.ref g)=true/\PySem.W.isFn K (.ref g)=true
def qA.get {K:aR}{C:Addr}{m qual:Str}{st:Stmt}(H:qA K C m qual st):∃g gd,hZ K m qual st g gd/\Meth K C m g:=by
 obtain⟨g,oc,od,an,sl,kV,dc,pm,cd,ct,a,l,c,k,i⟩:=H;exact⟨g,_,Hr (st:=st) l c k,⟨a,i,k⟩⟩
def fw.c {K:aR}{h:Heap}{mg:Str->Option Value}{x:Str}{st:Stmt}{P:Program}{w:World}{base:Heap}{k:Nat}{ps:List Str}{sp:Sp}(H:fw K x st)(X:K.In h)(G:h.Ns mainGlobals mg)
  (b:∀(kV doc pm:Value)(an:Option Addr)(dN ct:Value)(us:List Value),us.length=ps.length->bindArgs (PySem.W.fnOf x x (dw st) (bQ st) (aw st) .none kV doc pm an dN ct) ⟨us,[]⟩=pure (ps.zip us))
  (o:∀{f:Addr}{fd:FuncData},hZ K x x st f fd->mg x=some (.ref f)->Binds K fd ps []->bh P w K mg base fJ k f fd ps sp):aL P w K mg base k x ps sp:=by
 obtain⟨f,fd,F,m⟩:=H.get X G;have B:=F.binds b;exact⟨f,fd,o F m B,B,F.kp,m⟩
def hD {K:aR}{x:Str}{st:Stmt}(g c:Addr)(pm:Value)(h:(PySem.W.nsIn K mainGlobals x,K.lookup g,PySem.W.codeIn K (.ref c) x,PySem.W.keepIn K (.ref g))=(some (some (.ref g)),some ⟨.type "function",none,.func (PySem.W.fnOf x x (dw st) (bQ st) (aw st) .none .none .none pm none (.ref c) .none),#[]⟩,true,true)):fw K x st:=by
 simp only [gu] at h;exact⟨g,_,_,_,_,_,_,_,_,_,h.1,h.2.1,h.2.2.1,h.2.2.2⟩
def hC {K:aR}{x:Str}{st:Stmt}{T:Addr}(g c:Addr)(pm:Value)(h:(PySem.W.nsIn K mainGlobals x,K.lookup g,PySem.W.codeIn K (.ref c) x,PySem.W.codeHdIn K c T,PySem.W.keepIn K (.ref g))=(some (some (.ref g)),some ⟨.type "function",none,.func (PySem.W.fnOf x x (dw st) (bQ st) (aw st) .none .none .none pm none (.ref c) .none),#[]⟩,true,true,true)):EB K x st T:=by
 simp only [gu] at h;exact⟨g,_,_,_,_,_,_,_,c,_,h.1,h.2.1,h.2.2.1,h.2.2.2.1,h.2.2.2.2⟩
def hM {K:aR}{C:Addr}{m qual:Str}{st:Stmt}(g c:Addr)(pm:Value)(h:(PySem.W.findIn K (.ref C) m,K.lookup g,PySem.W.codeIn K (.ref c) qual,PySem.W.keepIn K (.ref g),PySem.W.isFn K (.ref g))=(some (some (.ref g)),some ⟨.type "function",none,.func (PySem.W.fnOf m qual (dw st) (bQ st) (aw st) .none .none .none pm none (.ref c) .none),#[]⟩,true,true,true)):qA K C m qual st:=by
 simp only [gu] at h;exact⟨g,_,_,_,_,_,_,_,_,_,h.1,h.2.1,h.2.2.1,h.2.2.2.1,h.2.2.2.2⟩
end L2
namespace fY
open PySem L2 M11
def Of (K:aR)(C:Addr)(m qual:Str)(st:Stmt):Prop:=∃(g:Addr)(oc:Value)(od an:Option Addr)(sl:Array (Option Value))(kV dc pm cd ct:Value)(T:Addr)(o:Obj) (n:Nat),PySem.W.findIn K (.ref C) m=some (some (.ref g)) /\
 K.lookup g=some ⟨oc,od,.func (PySem.W.fnOf m qual (dw st) (bQ st) (aw st) (.ref T) kV dc pm an cd ct),sl⟩/\PySem.W.codeIn K cd qual=true/\K.lookup T=some o/\o.data=.seq #[.none] n/\PySem.W.keepIn K (.ref g)=true/\PySem.W.isFn K (.ref g)=true
def Of.get {K:aR}{C:Addr}{m qual:Str}{st:Stmt}(H:Of K C m qual st):∃g gd,Bk K m qual st g gd/\PySem.W.findIn K (.ref C) m=some (some (.ref g))/\PySem.W.isFn K (.ref g)=true:=by
 obtain⟨g,oc,od,an,sl,kV,dc,pm,cd,ct,T,o,n,a,l,c,t,d,k,i⟩:=H;exact⟨g,_,⟨⟨oc,od,kV,dc,pm,an,cd,ct,sl,T,o,n,rfl,l,c,t,d⟩,k⟩,a,i⟩
structure Top (K:aR)(C Cg C3 T1 T2 T3 CN CT CE CU CL CR CV CM W fT fE fU fL:Addr)(tm:Tok):Prop where
 xN:ED K CN W
 xT:q9 K "Twice" "word" CT W fT
 xE:q9 K "Endless" "names" CE W fE
 xU:q9 K "Unmet" "names" CU W fU
 xL:q9 K "Loop" "steps" CL W fL
 xW:CS K W
 xM:YO K CR CV CM
 r1:EC K CN CT CE CU CL CR CV CM CN 1
 r2:EC K CN CT CE CU CL CR CV CM CT 2
 r3:EC K CN CT CE CU CL CR CV CM CE 3
 r4:EC K CN CT CE CU CL CR CV CM CU 4
 r5:EC K CN CT CE CU CL CR CV CM CL 5
 mXT:qA K CT "__init__" "Twice.__init__" qJ
 mXE:qA K CE "__init__" "Endless.__init__" sk
 mXU:qA K CU "__init__" "Unmet.__init__" zZ
 mXL:qA K CL "__init__" "Loop.__init__" z_
 RA:fw K "_law_told" z6
 htw:fw K "refuse_twice" z5
 nB:PySem.W.nsIn K mainGlobals "BeginTable"=some (some (.ref C))
 nG:PySem.W.nsIn K mainGlobals "Grammar"=some (some (.ref Cg))
 nL:PySem.W.nsIn K mainGlobals "LeastTrees"=some (some (.ref C3))
 nM:PySem.W.nsIn K mainGlobals "MOST_RULES"=some (some (.int 60 tm))
 IQ:PySem.W.nsIn K mainGlobals "sorted"=some none
 h0:fw K "heads_of" Ab
 h1:fw K "numbers_by_name" FD
 h2:fw K "standings_by_part" Mi
 h3:fw K "rule_size" ph
 h4:fw K "empty_by_name" sq
 h5:fw K "words_in" zY
 h6:fw K "found_empties" sr
 h7:fw K "first_places" wB
 h8:fw K "way_back" Mh
 h9:fw K "steps_with_like_rows" z7
 h10:fw K "find_loop" FH
 h11:fw K "names_met" Mj
 h12:fw K "_law_cell_at" FK
 h13:fw K "_law_stream" wx
 h14:fw K "_law_pool" FC
 Xi:fw K "_law_rule" FA
 h16:fw K "_law_strengths" Fz
 h17:fw K "_law_twice" wu
 h18:fw K "_law_heads" wD
 h19:fw K "_law_ended" wH
 h20:fw K "_law_met" FE
 h21:fw K "_law_loops" wC
 h22:fw K "_law_due" FJ
 h23:fw K "_law_is" Mn
 WI:fw K "law" Ml
 Wt:fw K "settled_sizes" nS
 Wx:fw K "refuse_faults" wA
 hL:EB K "least_sizes" sj T1
 hG:EB K "greatest_empty_sizes" wF T2
 hLB:EB K "least_by_part" nU T3
 mL1:qA K C3 "__init__" "LeastTrees.__init__" Aa
 mB1:qA K C "__init__" "BeginTable.__init__" Ad
 mB2:qA K C "find_begins" "BeginTable.find_begins" FI
 mB3:qA K C "words_of_part" "BeginTable.words_of_part" z9
 mG1:Of K Cg "__init__" "Grammar.__init__" wG
 mG2:qA K Cg "start" "Grammar.start" z8
 pgB:PySem.W.plainGet K C Str.empty=true
 hdB:PySem.W.hasDictIn K C=true
 poB:PySem.W.plainOver K C=true
 saB:PySem.W.findIn K (.ref C) "__setattr__"=some (some (.builtin "object.__setattr__"))
 mkB:PySem.W.makesIn K C=true
 kpB:PySem.W.keepIn K (.ref C)=true
 pgG:PySem.W.plainGet K Cg Str.empty=true
 hdG:PySem.W.hasDictIn K Cg=true
 poG:PySem.W.plainOver K Cg=true
 saG:PySem.W.findIn K (.ref Cg) "__setattr__"=some (some (.builtin "object.__setattr__"))
 mkG:PySem.W.makesIn K Cg=true
 kpG:PySem.W.keepIn K (.ref Cg)=true
 pgL:PySem.W.plainGet K C3 Str.empty=true
 hdL:PySem.W.hasDictIn K C3=true
 poL:PySem.W.plainOver K C3=true
 saL:PySem.W.findIn K (.ref C3) "__setattr__"=some (some (.builtin "object.__setattr__"))
 mkL:PySem.W.makesIn K C3=true
 kpL:PySem.W.keepIn K (.ref C3)=true
 Bg:PySem.W.findIn K (.ref C) "empties"=some none
 Ia:PySem.W.findIn K (.ref C) "empty"=some none
 Ey:PySem.W.findIn K (.ref C) "begins"=some none
 Ex:PySem.W.findIn K (.ref C) "firsts"=some none
 HX:PySem.W.findIn K (.ref C3) "rules"=some none
 HZ:PySem.W.findIn K (.ref C3) "empty"=some none
 HY:PySem.W.findIn K (.ref C3) "least"=some none
 Ew:PySem.W.findIn K (.ref C3) "hollow"=some none
 uk:PySem.W.findIn K (.ref C3) "beginnings"=some none
 H_:PySem.W.findIn K (.ref Cg) "rules"=some none
 xF:PySem.W.findIn K (.ref Cg) "strengths"=some none
 tU:PySem.W.findIn K (.ref Cg) "begin_table"=some none
 xG:PySem.W.findIn K (.ref Cg) "standings"=some none
 tT:PySem.W.findIn K (.ref Cg) "small_trees"=some none
 Ux:PySem.W.nsIn K mainGlobals "len"=some none
 LM:PySem.W.nsIn K mainGlobals "range"=some none
 xR:PySem.W.nsIn K mainGlobals "isinstance"=some none
 LK:PySem.W.nsIn K mainGlobals "tuple"=some none
 O6:PySem.W.nsIn K mainGlobals "list"=some none
 O7:PySem.W.nsIn K mainGlobals "dict"=some none
 UA:PySem.W.nsIn K mainGlobals "all"=some none
 Uz:PySem.W.nsIn K mainGlobals "any"=some none
 Uu:PySem.W.nsIn K mainGlobals "str"=some none
 Uy:PySem.W.nsIn K mainGlobals "int"=some none
 O8:PySem.W.nsIn K mainGlobals "bool"=some none
 zP:PySem.W.nsIn K mainGlobals "enumerate"=some none
 Ut:PySem.W.nsIn K mainGlobals "sum"=some none
 Uw:PySem.W.nsIn K mainGlobals "max"=some none
 Uv:PySem.W.nsIn K mainGlobals "min"=some none
def all_mk {l:PySem.W.OpenLaw}{w:World}{K:aR}{h:Heap}{mg:Str->Option Value}{fa C Cg C3 T1 T2 T3 CN CT CE CU CL CR CV CM W fT fE fU fL:Addr}{tm:Tok}(X:K.In h)(G:h.Ns mainGlobals mg)(hfa:mg "law"=some (.ref fa))(tp:Top K C Cg C3 T1 T2 T3 CN CT CE CU CL CR CV CM W fT fE fU fL tm) :
  ∃fd:FuncData,(∀(s:Shared)(v:Value),BindsTo s fd ⟨[v],[]⟩ [("_law_script",v)])/\∀base:Heap,K.In base->base.Ns mainGlobals mg->tZ mg base->bh l.prog w K mg base fJ 10 fa fd ["_law_script"] (BM K T1 T2 T3):=by
 have T:Txt mg:=⟨ic X G tp.Ux,ic X G tp.LM,ic X G tp.xR,ic X G tp.LK,ic X G tp.O6,ic X G tp.O7,ic X G tp.UA,ic X G tp.Uz,ic X G tp.Uu,ic X G tp.Uy,ic X G tp.O8,ic X G tp.zP,ic X G tp.Ut,ic X G tp.Uw,ic X G tp.Uv⟩;obtain⟨Lm,Lr,zz,K4⟩:=tp.Wt.get X G;have Lw:=zz.binds (ps:=["rules","sizes","better"]) λ_ _ _ _ _ _=>by exact Oq λ_ _ _=>rfl
 obtain⟨RM,R9,Ik,Qq⟩:=tp.Wx.get X G;have Sf:=Ik.binds (ps:=["rules","strengths"]) λ_ _ _ _ _ _=>by exact Bl λ_ _=>rfl
 obtain⟨f_L,d_L,YM,m_L⟩:=tp.hL.get X G;have b_L:=YM.binds (ps:=["rules"]) λ_ _ _ _ _ _=>by exact Bm λ_=>rfl
 obtain⟨f_G,d_G,YN,m_G⟩:=tp.hG.get X G;have b_G:=YN.binds (ps:=["rules"]) λ_ _ _ _ _ _=>by exact Bm λ_=>rfl
 obtain⟨Xn,XZ,Ol,VS⟩:=tp.hLB.get X G;have Yl:=Ol.binds (ps:=["rules"]) λ_ _ _ _ _ _=>by exact Bm λ_=>rfl
 obtain⟨Xm,XX,Og,VN⟩:=tp.htw.get X G;have Yg:=Og.binds (ps:=["strengths"]) λ_ _ _ _ _ _ us hl=>match us,hl with | [_],_=>rfl
 obtain⟨aao,aaw,SI,VP⟩:=tp.mXT.get;have Yi:=SI.binds (ps:=["self","word"]) λ_ _ _ _ _ _ us hl=>match us,hl with | [_,_],_=>rfl
 obtain⟨aaq,aay,Oj,VR⟩:=tp.mXE.get;have Yk:=Oj.binds (ps:=["self","names"]) λ_ _ _ _ _ _ us hl=>match us,hl with | [_,_],_=>rfl
 obtain⟨aan,aav,Oh,VO⟩:=tp.mXU.get;have Yh:=Oh.binds (ps:=["self","names"]) λ_ _ _ _ _ _ us hl=>match us,hl with | [_,_],_=>rfl
 obtain⟨aap,aax,Oi,VQ⟩:=tp.mXL.get;have Yj:=Oi.binds (ps:=["self","steps"]) λ_ _ _ _ _ _ us hl=>match us,hl with | [_,_],_=>rfl
 obtain⟨Xq,aaE,SQ,Qs⟩:=tp.mB1.get;have Yq:=SQ.binds (ps:=["self","rules"]) λ_ _ _ _ _ _=>by exact Bl λ_ _=>rfl
 obtain⟨aat,aaD,SO,VX⟩:=tp.mB2.get;have Yp:=SO.binds (ps:=["self","number","rule"]) λ_ _ _ _ _ _=>by exact Oq λ_ _ _=>rfl
 obtain⟨aas,aaC,SN,VW⟩:=tp.mB3.get;have Yo:=SN.binds (ps:=["self","part"]) λ_ _ _ _ _ _=>by exact Bl λ_ _=>rfl
 obtain⟨Xo,aaz,SJ,Qr⟩:=tp.mL1.get;have Ym:=SJ.binds (ps:=["self","rules","begin_table"]) λ_ _ _ _ _ _=>by exact Oq λ_ _ _=>rfl
 obtain⟨aar,aaA,SK,VT⟩:=tp.mG2.get;have Yn:=SK.binds (ps:=["self"]) λ_ _ _ _ _ _=>by exact Bm λ_=>rfl
 obtain⟨Xp,aaB,SM,VU,Wd⟩:=tp.mG1.get;have cB:BC K C:=⟨⟨tp.pgB,tp.hdB,tp.poB,tp.saB⟩,tp.Bg,tp.Ia,tp.Ey,tp.Ex⟩;have cG:GC K Cg:=⟨⟨tp.pgG,tp.hdG,tp.poG,tp.saG⟩,tp.H_,tp.xF,tp.tU,tp.xG,tp.tT⟩;have cL:LC K C3:=⟨⟨tp.pgL,tp.hdL,tp.poL,tp.saL⟩,tp.HX,tp.HZ,tp.HY,tp.Ew,tp.uk⟩;have kL:Mk K C3 Xo:=⟨tp.mkL,Qr.at_,Qr.fn,tp.kpL⟩;have kB:Mk K C Xq:=⟨tp.mkB,Qs.at_,Qs.fn,tp.kpB⟩;have kG:Mk K Cg Xp:=⟨tp.mkG,VU,Wd,tp.kpG⟩;obtain⟨f9,d9,F9,m9⟩:=tp.WI.get X G;have e:=hfa.symm.trans m9;cases e;obtain⟨oc,od,kV,doc,pm,an,dN,ct,wN,eL,lk,sZ⟩:=F9.ex;refine⟨d9,λs v=>?_,λbase _ _ RG=>?_⟩
 .rw [eL];exact .of_eq rfl
 have c0:=tp.h0.c (P:=l.prog) (w:=w) (base:=base) X G (λ_ _ _ _ _ _=>by exact Bm λ_=>rfl) λF m B=>Gw F T;have c1:=tp.h1.c (P:=l.prog) (w:=w) (base:=base) X G (λ_ _ _ _ _ _=>by exact Bm λ_=>rfl) λF m B=>Jt F T c0;have c2:=tp.h2.c (P:=l.prog) (w:=w) (base:=base) X G (λ_ _ _ _ _ _=>by exact Bm λ_=>rfl) λF m B=>MD F T;have c3:=tp.h3.c (P:=l.prog) (w:=w) (base:=base) X G (λ_ _ _ _ _ _=>by exact Bl λ_ _=>rfl) λF m B=>yr F T;have c4:=tp.h4.c (P:=l.prog) (w:=w) (base:=base) X G (λ_ _ _ _ _ _=>by exact Bl λ_ _=>rfl) λF m B=>Az F T;have c5:=tp.h5.c (P:=l.prog) (w:=w) (base:=base) X G (λ_ _ _ _ _ _=>by exact Bm λ_=>rfl) λF m B=>Gi F T;have c6:=tp.h6.c (P:=l.prog) (w:=w) (base:=base) X G (λ_ _ _ _ _ _=>by exact Bm λ_=>rfl) λF m B=>AA F T;have c7:=tp.h7.c (P:=l.prog) (w:=w) (base:=base) X G (λ_ _ _ _ _ _=>by exact Bl λ_ _=>rfl) λF m B=>Dv F T;have c8:=tp.h8.c (P:=l.prog) (w:=w) (base:=base) X G (λ_ _ _ _ _ _=>by exact Oq λ_ _ _=>rfl) λF m B=>Jq F T;have c9:=tp.h9.c (P:=l.prog) (w:=w) (base:=base) X G (λ_ _ _ _ _ _=>by exact Bm λ_=>rfl) λF m B=>Gm F T c6 c0;have c10:=tp.h10.c (P:=l.prog) (w:=w) (base:=base) X G (λ_ _ _ _ _ _=>by exact Bm λ_=>rfl) λF m B=>Gs F T c9 c8;have c11:=tp.h11.c (P:=l.prog) (w:=w) (base:=base) X G (λ_ _ _ _ _ _=>by exact Bm λ_=>rfl) λF m B=>ME F T;have c12:=tp.h12.c (P:=l.prog) (w:=w) (base:=base) X G (λ_ _ _ _ _ _=>by exact Bl λ_ _=>rfl) λF m B=>Jx F T;have IK:=tp.h13.c (P:=l.prog) (w:=w) (base:=base) X G (λ_ _ _ _ _ _=>by exact Bl λ_ _=>rfl) λF m B=>Du F T;have c14:=tp.h14.c (P:=l.prog) (w:=w) (base:=base) X G (λ_ _ _ _ _ _=>by exact Bl λ_ _=>rfl) λF m B=>Js F T (IK.mono nofun);have X_:=tp.Xi.c (P:=l.prog) (w:=w) (base:=base) X G (λ_ _ _ _ _ _=>by exact Bl λ_ _=>rfl) λF m B=>Gp F T (IK.mono nofun);have c16:=tp.h16.c (P:=l.prog) (w:=w) (base:=base) X G (λ_ _ _ _ _ _=>by exact Bl λ_ _=>rfl) λF m B=>Jr F T (IK.mono nofun);have c17:=tp.h17.c (P:=l.prog) (w:=w) (base:=base) X G (λ_ _ _ _ _ _=>by exact Bm λ_=>rfl) λF m B=>Dt F T;have c18:=tp.h18.c (P:=l.prog) (w:=w) (base:=base) X G (λ_ _ _ _ _ _=>by exact Bm λ_=>rfl) λF m B=>Dx F T;have c19:=tp.h19.c (P:=l.prog) (w:=w) (base:=base) X G (λ_ _ _ _ _ _=>by exact Oq λ_ _ _=>rfl) λF m B=>DA F T;have c20:=tp.h20.c (P:=l.prog) (w:=w) (base:=base) X G (λ_ _ _ _ _ _=>by exact Bl λ_ _=>rfl) λF m B=>Ju F T;have c21:=tp.h21.c (P:=l.prog) (w:=w) (base:=base) X G (λ_ _ _ _ _ _=>by exact Bl λ_ _=>rfl) λF m B=>Dw F T (c19.mono nofun);have c22:=tp.h22.c (P:=l.prog) (w:=w) (base:=base) X G (λ_ _ _ _ _ _=>by exact Bl λ_ _=>rfl) λF m B=>Jw F T (c17.mono nofun) (c18.mono nofun) (c19.mono nofun) (c20.mono nofun) (c21.mono nofun);have c23:=tp.h23.c (P:=l.prog) (w:=w) (base:=base) X G (λ_ _ _ _ _ _=>by exact Oq λ_ _ _=>rfl) λF m B=>MI F T (lxI tp.xN tp.xT tp.xE tp.xU tp.xL tp.xW tp.xM tp.r1 tp.r2 tp.r3 tp.r4 tp.r5 X G);have X7:aL l.prog w K mg base 2 "settled_sizes" ["rules","sizes","better"] (iz K zC sN.1 sN.2.1 sN.2.2.1 M11.bl):=⟨Lm,Lr,Au zz T,Lw,zz.kp,K4⟩;have X8:aL l.prog w K mg base 2 "settled_sizes" ["rules","sizes","better"] (iz K K6 AL.1 AL.2.1 AL.2.2.1 M11.bg):=⟨Lm,Lr,Av zz T,Lw,zz.kp,K4⟩;have c_L:aL l.prog w K mg base 3 "least_sizes" ["rules"] (qH K T1):=⟨f_L,d_L,Gv YM T RG c5 X7,b_L,YM.kp,m_L⟩;have c_G:aL l.prog w K mg base 3 "greatest_empty_sizes" ["rules"] (wj K T2):=⟨f_G,d_G,Gx YN RG X8,b_G,YN.kp,m_G⟩;have X6:kS l.prog w K mg base 3 "refuse_twice" ["strengths"] (rZ K CT):=⟨Xm,XX,Ds Og T (tp.xT.rzT tp.xW X G SI VP Yi T),Yg,Og.kp,VN⟩;have Sa:kS l.prog w K mg base 4 "refuse_faults" ["rules","strengths"] (o_ K T1 T2 CN CT CE CU CL):=⟨RM,R9,Aw Ik T (oS X G tp.nM) (tp.xE.rz tp.xW X G Oj VR Yk (Ay Oj T)) (tp.xU.rz tp.xW X G Oh VO Yh (Dq Oh T)) (tp.xL.rz tp.xW X G Oi VQ Yj (Gr Oi T)) tp.xN.x0 tp.xN.kp (tp.xN.ns X G) X6 c_L c0 c11 c10 c_G,Sf,Ik.kp,Qq⟩;have X9:aL l.prog w K mg base 4 "least_by_part" ["rules"] (pb K T1 T3):=⟨Xn,XZ,Ax Ol T RG (ic X G tp.IQ) (c0.mono nofun) c_L (c1.mono nofun) (c3.mono nofun),Yl,Ol.kp,VS⟩;have Vp:=Gq (P:=l.prog) (w:=w) (base:=base) SN T cB;have Vq:=Jv SO T cB c7 Vp VW Yo;have Vr:=Gy SQ T cB c6 c0 Vq VX Yp;have Vm:=Gu SJ T cB cL X9 (c4.mono nofun);have Vo:=Dy SM T cG (Sa.mono nofun) (c2.mono nofun) (Vr.mono nofun) kB Yq (oS X G tp.nB) Vm kL Ym (oS X G tp.nL);have Vn:=Gn (P:=l.prog) (w:=w) (mg:=mg) (base:=base) SK cG;have N7:=tp.RA.c (P:=l.prog) (w:=w) (base:=base) X G (λ_ _ _ _ _ _ us hl=>match us,hl with | [_,_],_=>rfl) λF m B=>Gj F cG kG Vo (Hm SM) (oS X G tp.nG) VT (Vn.mono nofun) Yn (tp.xW.mW X G) tp.xN.xm tp.xT.xm tp.xE.xm tp.xU.xm tp.xL.xm
 exact MH F9 T (c12.mono nofun) (c14.mono nofun) (X_.mono nofun) (c16.mono nofun) (c22.mono nofun) (c23.mono nofun) (N7.mono nofun)
def walk {l:PySem.W.OpenLaw}{q:Program}{loose:List Str}{XP:(Str->Option Value)->Heap->Prop}{YP:World->Heap->Prop}{d:DefRec}{K:Params->aR}(T1 T2 T3 c1 c2 c3:Addr)(GB:T1≠T2)(Ce:T1≠T3)(Cd:T2≠T3)(hn:l.most=some 63)(Nt:d.params.defaults=[])
  (hY:∀(w:World)(h:Heap),YP w h->(K w.params).In h/\∀T∈[T3,T2,T1],h.get? T=some (PySem.W.tabObj #[]))
  (hK1:∀w:World,(K w.params).lookup T1=none)(hK2:∀w:World,(K w.params).lookup T2=none)(hK3:∀w:World,(K w.params).lookup T3=none)(hC1:∀w:World,PySem.W.codeHdIn (K w.params) c1 T1=true)(hC2:∀w:World,PySem.W.codeHdIn (K w.params) c2 T2=true)(hC3:∀w:World,PySem.W.codeHdIn (K w.params) c3 T3=true)
  (F:∀(w:World)(mg:Str->Option Value)(fa:Addr)(h:Heap),(K w.params).In h->h.Ns mainGlobals mg->mg d.name=some (.ref fa) ->
   ∃fd:FuncData,(∀(s:Shared)(u:Value),BindsTo s fd ⟨[u],[]⟩ [("_law_script",u)])/\∀base:Heap,(K w.params).In base->base.Ns mainGlobals mg->tZ mg base->bh l.prog w (K w.params) mg base fJ 10 fa fd ["_law_script"] (BM (K w.params) T1 T2 T3)) :
  PySem.W.WalkO q loose XP YP l.row.toRowW d [] (λf vs=>PySem.call f vs) :=
 L2.E6 (n:=63) (k:=10) (x := "_law_script") (CX:=λ_=>fJ) (sp:=λw=>BM (K w.params) T1 T2 T3) hn nofun Nt ⟨rfl,nofun,nofun,rfl⟩ hY (λw T hT=>by
  rcases bN.mp hT with e | hT
  .subst e;exact⟨hK3 w,c3,hC3 w⟩
  rcases bN.mp hT with e | hT
  .subst e;exact⟨hK2 w,c2,hC2 w⟩
  rw [cJ.mp hT];exact⟨hK1 w,c1,hC1 w⟩) F (λ_ H a ns hl _ hT hS=>⟨a,ns,rfl,hS,hl,⟨⟨#[],hT T1 (by simp),by trivial,.inl rfl⟩,⟨#[],hT T2 (by simp),by trivial,.inl rfl⟩,⟨#[],hT T3 (by simp),by trivial,.inl rfl⟩,GB,Ce,Cd⟩,λ_=>rfl⟩) λ_ _ _ _ _ z=>z
end fY
set_option maxHeartbeats 0
end
namespace HD
open PySem PySem.W L2
def UH (P:Params):fY.Top (K P) 105 398 369 279 284 313 151 170 189 208 227 139 246 258 119 167 186 205 224 575:=⟨⟨nofun,nofun⟩,
 ⟨nofun,nofun⟩,
 ⟨nofun,nofun⟩,
 ⟨nofun,nofun⟩,
 ⟨nofun,nofun⟩,nofun,nofun,nofun,nofun,nofun,nofun,nofun,
 hM 167 166 HD.m3 (nofun),
 hM 186 185 HD.m3 (nofun),
 hM 205 204 HD.m3 (nofun),
 hM 224 223 HD.m3 (nofun),
 hD 474 473 HD.m9 (nofun),
 hD 306 305 HD.m6 (nofun),nofun,nofun,nofun,nofun,nofun,
 hD 26 25 HD.m1 (nofun),
 hD 36 35 HD.m1 (nofun),
 hD 43 42 HD.m1 (nofun),
 hD 321 320 HD.m7 (nofun),
 hD 326 325 HD.m7 (nofun),
 hD 31 30 HD.m1 (nofun),
 hD 48 47 HD.m2 (nofun),
 hD 55 54 HD.m2 (nofun),
 hD 277 276 HD.m4 (nofun),
 hD 270 269 HD.m4 (nofun),
 hD 265 264 HD.m4 (nofun),
 hD 311 310 HD.m6 (nofun),
 hD 409 408 HD.m9 (nofun),
 hD 416 415 HD.m9 (nofun),
 hD 421 420 HD.m9 (nofun),
 hD 426 425 HD.m9 (nofun),
 hD 433 432 HD.m9 (nofun),
 hD 440 439 HD.m9 (nofun),
 hD 447 446 HD.m9 (nofun),
 hD 452 451 HD.m9 (nofun),
 hD 457 456 HD.m9 (nofun),
 hD 462 461 HD.m9 (nofun),
 hD 467 466 HD.m9 (nofun),
 hD 479 478 HD.m9 (nofun),
 hD 484 483 HD.m9 (nofun),
 hD 294 293 HD.m5 (nofun),
 hD 299 298 HD.m6 (nofun),
 hC 282 281 HD.m5 (nofun),
 hC 289 288 HD.m5 (nofun),
 hC 316 315 HD.m7 (nofun),
 hM 338 337 HD.m7 (nofun),
 hM 67 66 HD.m2 (nofun),
 hM 74 73 HD.m2 (nofun),
 hM 81 80 HD.m2 (nofun),
 ⟨388,.type "function",none,none,#[],.none,.none,.str "wright.grammars" 686,.ref 387,.none,381,⟨.type "tuple",none,.seq #[.none] 0,#[]⟩,0,nofun,nofun,nofun,nofun,rfl,nofun,nofun⟩,
 hM 395 394 HD.m8 (nofun),nofun,nofun,nofun,nofun,nofun,nofun,nofun,nofun,nofun,nofun,nofun,nofun,nofun,nofun,nofun,nofun,nofun,nofun,nofun,nofun,nofun,nofun,nofun,nofun,nofun,nofun,nofun,nofun,nofun,nofun,nofun,nofun,nofun,nofun,nofun,nofun,nofun,nofun,nofun,nofun,nofun,nofun,nofun,nofun,nofun,nofun,nofun⟩
end HD
theorem PySem.Challenge.cw_wright_k14_whole_refused_or_let_by_holds : PySem.Challenge.rw_wright_k14_whole_refused_or_let_by.Holds := by
 refine HD.hold ?_ ?hw
 case hw=>w_witness2
 refine fY.walk (l:=PySem.Challenge.rw_wright_k14_whole_refused_or_let_by) (K:=HD.K) 279 284 313 281 288 315 nofun nofun nofun rfl HD.ok5 (λw h Y=>⟨PySem.W.km_in_of Y,PySem.W.km_tabs_of Y⟩) (λw=>by kernel_rfl) (λw=>by kernel_rfl) (λw=>by kernel_rfl) (λw=>by kernel_rfl) (λw=>by kernel_rfl) (λw=>by kernel_rfl) ?F;intro w mg fa h KX G Nk;exact fY.all_mk KX G Nk (HD.UH w.params)
