import PyProof.Rows.All
import Wide.All
import OpenK.AllK
import Wide.FinOn
import Lean
import PyProof.EqAt
import PyProof.EqKinds
import PyProof.TupleCall
import KE.KNestM
import PyProof.IsiH_list
import PyProof.RaisesAny
import KE.KDictOf
import PyProof.CollectWalk
import PyProof.CompFree
import KE.KDictList
import PyProof.NeKinds
import PyProof.ConsumeWalk
import PyProof.StrBlockI
import PyProof.EnumFor
import PyProof.TupleIter
import PyProof.EnumMake
import KE.KLam
import PyProof.DictUpdate
import PyProof.SeqI3
import PyProof.DictWalks
import PyProof.ConsumeS
import PyProof.Rows.CallKwBuiltin
import KE.KTryMore
import PyProof.InstStoreFacts
import PyProof.ExcInit
import PyProof.ExcClass3
import PyProof.ExcBaseAll.ValueError
import PyProof.FString
import PyProof.RulesAs
import PyProof.RulesDel
import PyProof.ExcAttrAll.ValueError
import PyProof.ReprRoads
import PyProof.StrLawsRepr
import KE.KDictLaws
import PyProof.AutoListH
import PyProof.ZipIter
import PyProof.ListNew
import KE.KRevSl
import PyProof.StrOps
import PyProof.StrOps2
import KE.KSortKey
import PyProof.WalkInts
import PySem.Challenge.RW_wright_k13_loops
set_option Elab.async false
set_option linter.all false
set_option maxRecDepth 100000
local macro_rules | `(tactic| omega) => `(tactic| first | lia | omega (config := {}))
local macro_rules | `(∅) => `(by omega)
local macro_rules | `(nofun) => `(by first | decide +kernel | kernel_rfl)
def bM:=@Or.inl
abbrev aV:=PySem.W.Frag
def xM:0<=PySem.sizeLine:=by decide
def Jr:1<=PySem.sizeLine:=by decide
def qf:2<=PySem.sizeLine:=by decide
def Y1:3<=PySem.sizeLine:=by decide
def Y0:4<=PySem.sizeLine:=by decide
def aB.{u,v}:=@List.length_map.{u,v}
def bo.{u}:=@List.getElem?_eq_some_iff.{u}
def ax:=@PySem.wpAny_bind
def bD:=@PySem.Heap.get?_push_of_some
def aZ.{u,v}:=@List.getElem?_map.{u,v}
def cf.{u,v}:=@Option.map_eq_some_iff.{u,v}
def cb.{u}:=@List.mem_of_getElem?.{u}
def cZ.{u}:=@List.getElem?_eq_getElem.{u}
def bI.{u,v}:=@List.map_append.{u,v}
def b9.{u}:=@List.length_append.{u}
def bE.{u}:=@List.mem_singleton.{u}
def bS.{u}:=@List.mem_cons_of_mem.{u}
def aI:=@Nat.le_refl
def bq.{u}:=@List.mem_append.{u}
def aD:=@PySem.wpAny_pure
def bO.{u}:=@List.size_toArray.{u}
def bX.{u}:=@List.mem_cons_self.{u}
def aW:=@PySem.Heap.lt_size
def bG.{u,v}:=@List.map_cons.{u,v}
def cQ:=@PySem.Heap.get?_push_size
def bF:=@PySem.Paired.length
def bB:=@Nat.ne_of_lt
def bN.{u}:=@List.mem_cons.{u}
def cW:=@Bool.false_ne_true
def cE.{u}:=@List.take_length.{u}
def cV.{u}:=@List.take_add_one.{u}
def az.{u}:=@if_pos.{u}
def aA.{u}:=@if_neg.{u}
def d7.{u}:=@List.getElem?_of_mem.{u}
def cD:=@PySem.PassesOwn.never
def c_.{u}:=@List.length_take.{u}
def dQ:=@Nat.lt_of_lt_of_le
def cM:=@decide_eq_true
def dC.{u}:=@List.length_cons.{u}
def fN.{u}:=@List.mem_append_right.{u}
def d6:=@of_decide_eq_true
def gu:=@PySem.Heap.get?_update_other
def cC:=@Nat.le_trans
def cU.{u,v}:=@List.mem_map.{u,v}
def d5:=@PySem.boot_len
def cv:=@PySem.wpAny_mono
def jh.{u}:=@List.getElem?_append_left.{u}
def ff:=@decide_eq_false
def fM.{u}:=@List.all_eq_true.{u}
def gN:=@PySem.W.mg_none_of
def jf:=@PySem.F.plainAttrs_list
def jx:=@PySem.F.type_list_append
def jw:=@PySem.F.slot_list_append
def fV.{u}:=@List.append_nil.{u}
def iE.{u,v}:=@List.mem_map_of_mem.{u,v}
def kq.{u}:=@Option.isSome_iff_exists.{u}
def gM.{u}:=@Option.some.inj.{u}
def gL.{u}:=@List.mem_filter.{u}
def oG:=@PyProof.Rows.boot_isinstance
def fK:=@PySem.wpAny_holding
def iD:=@Int.toNat_natCast
def kn.{u}:=@List.length_filter_le.{u}
def oF.{u}:=@List.getElem?_append_right.{u}
def jv.{u}:=@beq_eq_false_iff_ne.{u}
def je.{u}:=@List.nodup_append.{u}
def ft:=@PySem.Paired.snoc
def iC.{u}:=@List.length_nil.{u}
def jd.{u}:=@List.length_drop.{u}
def sq:=@PyProof.Rows.slot_tuple_getitem
def lZ:=@PySem.Heap.get?_update_self
def fR:=@Nat.zero_le
def lY.{u}:=@List.mem_of_mem_take.{u}
def lX.{u}:=@List.mem_append_left.{u}
def lW:=@Bool.and_eq_true_iff
def ju:=@PySem.wpAny_newObj_type
def fQ:=@PySem.wpAny_field
def jt:=@Bool.and_eq_true
def kj:=@PySem.wpAny_truthy_bool
def iB.{u,v}:=@Prod.mk.injEq.{u,v}
def iA:=@Nat.lt_irrefl
def jr.{u}:=@List.nodup_cons.{u}
def ki.{u}:=@List.filter_cons.{u}
def lS:=@PySem.wpAny_Call_Name_kw
def oE:=@PySem.Around.under_plainId
def jc.{u}:=@List.sum_cons.{u}
def iz.{u,v,w}:=@List.map_map.{u,v,w}
def pW.{u}:=@List.length_singleton.{u}
def kc:=@Bool.eq_iff_iff
def so.{u}:=@List.getElem?_take_of_lt.{u}
def oC.{u}:=@List.filter_append.{u}
def lR:=@Nat.lt_succ_self
def pV.{u}:=@List.mem_iff_getElem.{u}
def oB.{u}:=@List.append_assoc.{u}
def lQ:=@PySem.F.plain_min_loop
def pU:=@PySem.codeAny_call_builtin
def sk.{u}:=@List.take_of_length_le.{u}
def sj:=@PySem.wpAny_callSpecial?_slot
def jq:=@Nat.ne_of_gt
def pT:=@Nat.lt_of_le_of_lt
def lP.{u}:=@List.nodup_nil.{u}
def lM:=@List.mem_range
def hX:=@PySem.wpAny_call
def kb:=@PySem.plainId_quiet
def eV.{u}:=@Ne.symm.{u}
def pS:=@Bool.eq_false_iff
def iX:=@PySem.wpAny_tryCatch
def qe:=@PyProof.Rows.boot_tuple
def gZ:=@Nat.le_succ
def iW.{u,v}:=@List.map_drop.{u,v}
def kQ:=@PySem.wpAny_pyIter_list
def jE:=@PySem.codeAny_builtin
def uF.{u}:=@List.take_append_of_le_length.{u}
def ik:=@PySem.wpAny_typeOf
def nV.{u,v}:=@List.map_singleton.{u,v}
def gY:=@PySem.sizeLine_eq
def uE:=@PyProof.Rows.callWith_type1
def jD:=@PySem.wpAny_seqItems
def nU.{u,v}:=@Option.isSome_map.{u,v}
def jC.{u,v}:=@List.map_take.{u,v}
def nS:=@PySem.tupleKind_room_in1
def uD:=@PySem.F.excBase_ValueError
def nR:=@PySem.Calls.spliced_cons
def uC.{u}:=@Array.getElem?_eq_some_iff.{u}
def kP:=@PySem.wpAny_passesOwn
def iV:=@PySem.codeAny_mono
def uB:=@Classical.byContradiction
def nQ.{u,v}:=@List.mem_flatMap.{u,v}
def nP.{u,v}:=@List.getElem_map.{u,v}
def jB:=@PySem.strLen_append
def qd:=@PySem.mem_of_lookup
def iU:=@Int.le_refl
def jA:=@Nat.lt_trans
def jz:=@Nat.le_of_lt
def jy.{u,v}:=@List.map_nil.{u,v}
def uA:=@PySem.F.slot_tuple_iterator_next
def nO.{u}:=@List.nil_append.{u}
def nN.{u}:=@List.find?_cons.{u}
def kO:=@PySem.Heap.size_push
def nK:=@PySem.wpAny_call_entry
def uz.{u}:=@List.getElem?_set_self.{u}
def uy:=@PySem.F.slot_list_getattribute
def qc:=@PySem.wpAny_setField_rec
def ux:=@PySem.wpAny_loadPart'
def uw:=@PySem.wpAny_getItem_str_slice
def nJ:=@PySem.wpAny_execs_nil
def qb:=@PySem.Obj.data_mapFields
def kN:=@Nat.zero_add
def uv.{u}:=@List.take_append_drop.{u}
def uu.{u}:=@List.getElem?_eq_none.{u}
def yc.{u}:=@List.eq_nil_iff_forall_not_mem.{u}
def qa.{u}:=@beq_self_eq_true.{u}
def p_.{u}:=@List.getElem_mem.{u}
def p8.{u}:=@List.getElem_inj.{u}
def p6.{u}:=@List.cons_append.{u}
def ur:=@PySem.Calls.callWith_builtin
def p5:=@PySem.wpAny_loadPart_at
def nI:=@PySem.W.mg_of
def nH:=@Bool.true_and
def nF:=@PySem.wpAny_setField
def uq:=@PySem.wpAny_pyNext_list_end
def kM.{u,v}:=@Sum.inr.inj.{u,v}
def pZ:=@PySem.W.kia_one
def uo.{u}:=@Option.some_ne_none.{u}
def pY.{u,v}:=@Option.map_some.{u,v}
def um:=@PySem.F.slot_enumerate_next
def uk.{u}:=@Array.toList_append.{u}
def uj.{u}:=@Array.length_toList.{u}
def yb.{u}:=@List.getD_eq_getElem?_getD.{u}
def ui:=@PySem.wpAny_loadName_local
def uh.{u,v}:=@List.mem_filterMap.{u,v}
def ug:=@PySem.Heap.get?_none_of_le
def uf:=@PySem.Calls.evalArgs_plain
def ue.{u}:=@Array.append_empty.{u}
def nE:=@PySem.wpAny_attempt
def ya:=@PySem.F.slot_dict_update
def x_:=@PySem.F.args_tuple_add_2
def uc:=@Nat.lt_succ_of_lt
def ub:=@List.length_range
def x9:=@PySem.F.plainAttrs_dict
def x8:=@PySem.F.entry_tuple_add
def pX.{u}:=@List.any_cons.{u}
def ua:=@PySem.wpAny_pyIter_tuple
def xZ:=@PySem.F.slot_tuple_add
def xY.{u}:=@List.filter_eq_nil_iff.{u}
namespace L2
open PySem PySem.Spec PyProof.Rows
abbrev aJ:=Sum Int Str
def qL:aJ->Value->Bool
 | .inl k,v=>Value.isInt k v
 | .inr x,v=>Value.isStrOf x v
def TK (w:World):aJ->Int
 | .inl k=>hashInt k
 | .inr x=>hashStr w x
def cR:∀{k:aJ}{v:Value},qL k v=true->(∃i t,k=Sum.inl i/\v=Value.int i t)\/(∃x t,k=Sum.inr x/\v=Value.str x t)
 | .inl i,v,h=>by
  obtain⟨t,e⟩:=Value.isInt_shape (k:=i) (v:=v) h;exact .inl ⟨i,t,rfl,e⟩
 | .inr x,v,h=>by
  obtain⟨t,e⟩:=Value.isStrOf_shape (x:=x) (v:=v) h;exact .inr ⟨x,t,rfl,e⟩
def B_ (i:Int)(t:Tok):qL (.inl i) (.int i t)=true:=by simp [qL,Value.isInt]
def B9 (x:Str)(t:Tok):qL (.inr x) (.str x t)=true:=by simp [qL,Value.isStrOf]
def KW (a b:Int):decide ((Sum.inl a:aJ)=Sum.inl b)=(a == b):=by
 by_cases e:a=b
 .subst e;simp
 have h:¬(Sum.inl a:aJ)=Sum.inl b:=λq=>e (Sum.inl.inj q);rw [ff h];exact(jv.mpr e).symm
def KR (a b:Str):decide ((Sum.inr a:aJ)=Sum.inr b)=decide (a=b):=by
 by_cases e:a=b
 .subst e;simp
 have h:¬(Sum.inr a:aJ)=Sum.inr b:=λq=>e (kM q);rw [ff h,ff e]
def KU (a:Int)(b:Str):decide ((Sum.inl a:aJ)=Sum.inr b)=false:=ff (λq=>nomatch q)
def KS (a:Str) (b:Int):decide ((Sum.inr a:aJ)=Sum.inl b)=false:=ff (λq=>nomatch q)
def aY (prog:Program)(w:World):PySem.KeyKind prog w aJ where
 is:=qL
 hash:=TK w
 inj:=λv a b ha hb=>by
  rcases cR ha with ⟨i,t,rfl,rfl⟩ | ⟨x,t,rfl,rfl⟩
  .rcases cR hb with ⟨j,u,rfl,e⟩ | ⟨y,u,rfl,e⟩
   .injection e with e1 _;rw [e1]
   exact nomatch e
  rcases cR hb with ⟨j,u,rfl,e⟩ | ⟨y,u,rfl,e⟩
  .exact nomatch e
  injection e with e1 _;rw [e1]
 byValue:=λk v h=>by
  rcases cR h with ⟨i,t,rfl,rfl⟩ | ⟨x,t,rfl,rfl⟩ <;> rfl
 pyHash:=λhv h=>by
  rcases cR hv with ⟨i,t,rfl,rfl⟩ | ⟨x,t,rfl,rfl⟩
  .exact wpAny_pyHash_int h
  exact wpAny_pyHash_str h
 eqBool:=λhu hv h=>by
  rcases cR hu with ⟨i,t,rfl,rfl⟩ | ⟨x,t,rfl,rfl⟩
  .rcases cR hv with ⟨j,u,rfl,rfl⟩ | ⟨y,u,rfl,rfl⟩
   .rw [KW] at h;exact wpAny_eqBool_int h
   rw [KU] at h;exact SeqAt.EqAt.int_str i t y u _ _ _ _ h
  rcases cR hv with ⟨j,u,rfl,rfl⟩ | ⟨y,u,rfl,rfl⟩
  .rw [KS] at h;exact SeqAt.EqAt.str_int x t j u _ _ _ _ h
  rw [KR] at h;exact wpAny_eqBool_str h
 «strs»:=λk x t v h=>by
  rcases cR h with ⟨i,u,rfl,e⟩ | ⟨y,u,rfl,e⟩
  .exact nomatch e
  injection e with e1 _;subst e1;cases v <;> rfl
def wI (prog:Program)(w:World) (i:Int)(t:Tok):(aY prog w).is (.inl i) (.int i t)=true:=B_ i t
def wH (prog:Program)(w:World)(x:Str)(t:Tok):(aY prog w).is (.inr x) (.str x t)=true:=B9 x t
inductive V where
 | dI | bl (b:Bool) | int (i:Int) | str (x:Str) | zP (b:Array UInt8) | LF (b:UInt64) | ref (a:Addr) | ty (n:String)
 deriving DecidableEq
def RelV:V->Value->Prop
 | .dI,u=>u=Value.none
 | .bl b,u=>u=Value.bool b
 | .int i,u=>∃t,u=Value.int i t
 | .str x,u=>∃t,u=Value.str x t
 | .zP b,u=>∃t,u=Value.bytes b t
 | .LF b,u=>∃t,u=Value.float b t
 | .ref a,u=>u=Value.ref a
 | .ty n,u=>u=Value.type n
abbrev aS:List V->List Value->Prop:=Paired RelV
theorem aS.length {xs:List V}{us:List Value}(r:aS xs us):xs.length=us.length:=bF r
theorem aS.get:∀{xs:List V}{us:List Value}{i:Nat}{x:V},aS xs us->xs[i]?=some x->∃u,us[i]?=some u/\RelV x u
 | _,_,_,_,.nil,e=>by simp at e
 | _,_,0,_,.cons r _,e=>by simp at e;subst e;exact⟨_,rfl,r⟩
 | _,_,i+1,x,.cons _ t,e=>by
  obtain⟨u,h1,h2⟩:=aS.get (i:=i) (x:=x) t (by simpa using e);exact⟨u,by simpa using h1,h2⟩
theorem aS.set {x:V}{u:Value}(r:RelV x u):∀{xs:List V}{us:List Value}(i:Nat),aS xs us->aS (xs.set i x) (us.set i u)
 | _,_,_,.nil=>.nil
 | _,_,0,.cons _ t=>.cons r t
 | _,_,i+1,.cons q t=>.cons q (aS.set r i t)
theorem aS.append:∀{xs ys:List V}{us ws:List Value},aS xs us->aS ys ws->aS (xs++ys) (us++ws)
 | _,_,_,_,.nil,s=>s
 | _,_,_,_,.cons r t,s=>.cons r (aS.append t s)
theorem aS.take:∀{xs:List V}{us:List Value}(n:Nat),aS xs us->aS (xs.take n) (us.take n)
 | _,_,0,_=>.nil
 | _,_,_+1,.nil=>.nil
 | _,_,n+1,.cons r t=>.cons r (aS.take n t)
theorem aS.drop:∀{xs:List V}{us:List Value}(n:Nat),aS xs us->aS (xs.drop n) (us.drop n)
 | _,_,0,r=>r
 | _,_,_+1,.nil=>.nil
 | _,_,n+1,.cons _ t=>aS.drop n t
def aS.none_of:∀{xs:List V}{us:List Value}{i:Nat},aS xs us->xs[i]?=none->us[i]?=none:=λ{xs us i} r e=>by
 have h1:=r.length;have h2:xs.length<=i:=List.getElem?_eq_none_iff.mp e;exact List.getElem?_eq_none_iff.mpr ∅
def hU:Option V->Option Value->Prop
 | some v,some u=>RelV v u
 | none,none=>True
 | _,_=>False
def KV {κ:Type}:List (κ×V)->List (κ×Value)->Prop:=Paired λ(p:κ×V)(q:κ×Value)=>p.1=q.1/\RelV p.2 q.2
def kV:aJ->V
 | .inl i=>.int i
 | .inr x=>.str x
inductive HO where
 | lst (xs:List V)
 | tup (xs:List V)
 | dK (kvs:List (aJ×V)) | dT (kvs:List (List aJ×V))
 | set (S:Int->Bool) (n:Nat)
 | ins (C dx:Addr)(fs:List (Str×V))
 | own (x:Addr)
 | xd (fs:List (Str×V))
 | met (f x:Addr)
 | Bu (lo hi:Int)
 | jo (o:Obj)(u:HO)
 | rN (ps:Array Value)
 | ext (φ:Heap->Prop)
abbrev Hp:=Addr->Option HO
def upd (H:Hp)(a:Addr)(o:HO):Hp:=λb=>if b=a then some o else H b
def ae {H:Hp}{a:Addr}{o:HO}:upd H a o a=some o:=by unfold upd;rw [az rfl]
def ai {H:Hp}{a b:Addr}{o:HO}(h:b≠a):upd H a o b=H b:=by unfold upd;rw [aA h]
def jS {H:Hp}{a:Addr}{o u:HO}:upd (upd H a o) a u=upd H a u:=by
 funext b;unfold upd;split <;> rfl
def Oe {H:Hp}{a b:Addr}{o u:HO}(h:H a=some o)(h':H b=some u)(d:o≠u):a≠b:=by
 intro e;subst e;rw [h] at h';exact d (gM h')
def au {H:Hp}{a b:Addr}{o:HO}(h:H a=some o)(h':H b=none):a≠b:=by
 intro e;subst e;rw [h] at h';cases h'
section
variable (P:Program)(w:World)
def bV (H:Hp)(h:Heap)(a:Addr):HO->Prop
 | .lst xs=>xs.length<=sizeLine/\∃(aO:List Value) (n:Nat),aS xs aO/\h.get? a=some { cls:=.type "list",data:=.seq aO.toArray n }
 | .tup xs=>xs.length<=sizeLine/\∃aO:List Value,aS xs aO/\IsTup h a aO.toArray
 | .dK kvs=>kvs.length<=sizeLine/\(a == sysModules)=false/\∃vs,KV kvs vs/\h.DictOf (aY P w) a vs
 | .dT kvs=>kvs.length<=sizeLine/\(a == sysModules)=false/\∃xs:List (List aJ×Addr×Value),
   Paired (λ(p:List aJ×V)(q:List aJ×Addr×Value)=>p.1=q.1/\H q.2.1=some (.tup (p.1.map kV))/\RelV p.2 q.2.2) kvs xs /\
   ∃o es ep,h.get? a=some o/\o.ExactDict/\o.data=.dict es ep/\es.toList=xs.map (entryOfKey (tupleKind (aY P w)))/\(xs.map (·.1)).Nodup
 | .set S n=>h.SetOf (intKind P w) a S n
 | .ins C dx fs=>H dx=some (.own a)/\fs.length<=1000/\dx≠a/\h.get? a=some (PySem.W.instObj C dx) /\
   ∃mA,h.Ns1 dx mA/\(∀f,hU (fs.lookup f) (mA f))/\PySem.Within mA (fs.map (·.1))
 | .own _=>∃o,h.get? a=some o
 | .xd fs=>∃mA,h.Ns1 a mA/\∀f,hU (fs.lookup f) (mA f)
 | .Bu lo hi=>∃t u v,h.get? a=some { cls:=.type "range",data:=.fields #[.int lo t,.int hi u,.int 1 v] }
 | .jo o u=>h.get? a=some o/\bV H h a u
 | .rN ps=>h.get? a=some { cls:=.none,data:=.fields ps }
 | .met f x=>h.get? a=some (PySem.W.methodObj (.ref f) (.ref x))
 | .ext φ=>φ h/\(∃o,h.get? a=some o)/\∀h1 h2:Heap,φ h1->(∀o,h1.get? a=some o->h2.get? a=some o)->φ h2
def j_ (H:Hp)(h:Heap):Prop:=∀a o,H a=some o->bV P w H h a o
end
section
variable {P:Program}{w:World}{H H':Hp}{h h':Heap}{a:Addr}{o:HO}
theorem bV.lt (x:bV P w H h a o):a < h.objs.size:=by
 cases o with
 | lst xs=>obtain⟨_,_,_,_,e⟩:=x;exact aW e
 | tup xs=>obtain⟨_,_,_,p⟩:=x;exact p.lt
 | dK kvs=>obtain⟨_,_,_,_,o,_,_,e,_⟩:=x;exact aW e
 | dT kvs=>obtain⟨_,_,_,_,o,_,_,e,_⟩:=x;exact aW e
 | set S n=>obtain⟨o,_,_,_,e,_⟩:=x;exact aW e
 | ins C dx fs=>obtain⟨_,_,_,e,_⟩:=x;exact aW e
 | own y=>obtain⟨_,e⟩:=x;exact aW e
 | xd fs=>obtain⟨_,⟨_,_,_,e,_⟩,_⟩:=x;exact aW e
 | Bu lo hi=>obtain⟨_,_,_,e⟩:=x;exact aW e
 | jo ob u=>obtain⟨e,_⟩:=x;exact aW e
 | rN ps=>exact aW (show h.get? a=some _ from x)
 | met f y=>exact aW (show h.get? a=some _ from x)
 | ext φ=>obtain⟨_,⟨_,e⟩,_⟩:=x;exact aW e
theorem Paired.eF {α β:Type}{F G:α->β->Prop}:∀{l₁:List α}{l₂:List β},Paired F l₁ l₂->(∀a b,F a b->G a b)->Paired G l₁ l₂
 | _,_,.nil,_=>.nil
 | _,_,.cons r t,f=>.cons (f _ _ r) (Paired.eF t f)
def bV.ip (x:bV P w H h a o)(k:∀b u,(b=a\/H b=some (.own a))->h.get? b=some u->h'.get? b=some u)
  (ho:∀b,H b=some (.own a)->H' b=some (.own a))(ht:∀b xs,H b=some (.tup xs)->H' b=some (.tup xs)):bV P w H' h' a o:=by
 induction o with
 | lst xs=>obtain⟨z,aO,n,r,e⟩:=x;exact⟨z,aO,n,r,k _ _ (.inl rfl) e⟩
 | tup xs=>obtain⟨z,aO,r,ob,e,c⟩:=x;exact⟨z,aO,r,ob,k _ _ (.inl rfl) e,c⟩
 | dK kvs=>obtain⟨z,y,vs,r,ob,es,ep,e,c⟩:=x;exact⟨z,y,vs,r,ob,es,ep,k _ _ (.inl rfl) e,c⟩
 | dT kvs =>
  obtain⟨z,y,xs,r,ob,es,ep,e,c⟩:=x;exact⟨z,y,xs,Paired.eF r λp q z=>⟨z.1,ht _ _ z.2.1,z.2.2⟩,ob,es,ep,k _ _ (.inl rfl) e,c⟩
 | set S n=>obtain⟨ob,es,ep,t,e,c⟩:=x;exact⟨ob,es,ep,t,k _ _ (.inl rfl) e,c⟩
 | ins C dx fs =>
  obtain⟨d,z,ne,e,mA,⟨od,es,ep,e2,c⟩,r⟩:=x;exact⟨ho _ d,z,ne,k _ _ (.inl rfl) e,mA,⟨od,es,ep,k _ _ (.inr d) e2,c⟩,r⟩
 | own y=>obtain⟨ob,e⟩:=x;exact⟨ob,k _ _ (.inl rfl) e⟩
 | xd fs=>obtain⟨mA,⟨od,es,ep,e,c⟩,r⟩:=x;exact⟨mA,⟨od,es,ep,k _ _ (.inl rfl) e,c⟩,r⟩
 | Bu lo hi=>obtain⟨t,u,v,e⟩:=x;exact⟨t,u,v,k _ _ (.inl rfl) e⟩
 | jo ob u ih=>obtain⟨e,q⟩:=x;exact⟨k _ _ (.inl rfl) e,ih q⟩
 | rN ps =>
  have e:h.get? a=some { cls:=.none,data:=.fields ps }:=x;show h'.get? a=some { cls:=.none,data:=.fields ps };exact k a _ (.inl rfl) e
 | met f y =>
  have e:h.get? a=some (PySem.W.methodObj (.ref f) (.ref y)):=x;show h'.get? a=some (PySem.W.methodObj (.ref f) (.ref y));exact k a _ (.inl rfl) e
 | ext φ=>obtain⟨p,⟨o,e⟩,st⟩:=x;exact⟨st _ _ p λo q=>k _ _ (.inl rfl) q,⟨o,k _ _ (.inl rfl) e⟩,st⟩
theorem j_.lt (x:j_ P w H h)(e:H a=some o):a < h.objs.size:=(x a o e).lt
def j_.fresh (x:j_ P w H h)(e:h.objs.size<=a):H a=none:=by
 cases q:H a with
 | none=>rfl
 | some u=>exact absurd (dQ (x.lt q) e) (iA _)
def j_.kept (x:j_ P w H h)(k:∀b u,h.get? b=some u->h'.get? b=some u):j_ P w H h':=λa o e =>
 (x a o e).ip (λb u _ q=>k b u q) (λ_ q=>q) λ_ _ q=>q
def j_.laid (x:j_ P w H h)(k:∀b u,h.get? b=some u->h'.get? b=some u)(hp:h.objs.size<=a)(new:bV P w (upd H a o) h' a o):j_ P w (upd H a o) h':=λb u e=>by
 have hn:=x.fresh hp;by_cases hb:b=a
 .subst hb;rw [ae] at e;cases e;exact new
 rw [ai hb] at e;exact(x b u e).ip (λc v _ q=>k c v q) (λc q=>by rw [ai (au q hn)];exact q) λc xs q=>by rw [ai (au q hn)];exact q
end
def Rd (H:Hp)(a:Addr)(u:HO):Prop:=H a=some u\/∃o,H a=some (.jo o u)
def Rd.of {H:Hp}{a:Addr}{u:HO}(h:H a=some u):Rd H a u:=.inl h
def Rd.ok {P:Program}{w:World}{H:Hp}{h:Heap}{a:Addr}{u:HO}(r:Rd H a u)(x:j_ P w H h):bV P w H h a u:=by
 rcases r with r | ⟨o,r⟩
 .exact x a u r
 obtain⟨_,q⟩:=x a _ r;exact q
def Qk:Option HO->Prop
 | some (.lst _)=>True
 | some (.dK _)=>True
 | some (.dT _)=>True
 | some (.set _ _)=>True
 | some (.ins _ _ _)=>True
 | some (.ext _)=>True
 | _=>False
section
variable {P:Program}{w:World}{H:Hp}{h h':Heap}{x e:Addr}{o':HO}
def j_.write (ok:j_ P w H h)(mu:Qk (H x))(he:e=x\/H e=some (.own x))(k:∀b u,b≠e->h.get? b=some u->h'.get? b=some u)(MP:∃u,h'.get? e=some u)
  (new:bV P w (upd H x o') h' x o'):j_ P w (upd H x o') h':=λb u q=>by
 have N_:∀c y,H c=some (.own y)->c≠x:=λc y r z=>by subst z;rw [r] at mu;exact mu
 have SH:∀c xs,H c=some (.tup xs)->c≠x:=λc xs r z=>by subst z;rw [r] at mu;exact mu
 by_cases hb:b=x
 .subst hb;rw [ae] at q;cases q;exact new
 rw [ai hb] at q;by_cases Lm:b=e
 .have q':H b=some (.own x):=by
   rcases he with z | z
   .exact absurd (Lm.trans z) hb
   rw [Lm];exact z
  rw [q] at q';cases q';obtain⟨v,hv⟩:=MP;exact⟨v,by rw [Lm];exact hv⟩
 refine(ok b u q).ip (λc v hc r=>k c v ?_ r) (λc r=>by rw [ai (N_ c b r)];exact r) λc xs r=>by rw [ai (SH c xs r)];exact r
 rcases hc with rfl | hc
 .exact Lm
 rintro rfl;rcases he with z | z
 .exact N_ c b hc z
 rw [hc] at z;cases z;exact hb rfl
end
structure Un (fs ex:List Addr)(H H':Hp)(h h':Heap):Prop where
 keep:∀b o,h.get? b=some o->H b=none->b∉fs->b∉ex->h'.get? b=some o
 slot:∀b o,h.get? b=some o->H b=none->b∈fs->b∉ex->∃sl,h'.get? b=some { o with slots:=sl }
 free:∀b o,h.get? b=some o->H b=none->b∉ex->H' b=none
 there:∀b o,h.get? b=some o->b∉ex->∃o',h'.get? b=some o'
 kS:∀b xs,H b=some (.tup xs)->H' b=some (.tup xs)
 jP:∀b o u,H b=some (.jo o u)->H' b=some (.jo o u)
 j6:∀b ps,H b=some (.rN ps)->∃more,H' b=some (.rN (ps++more))
section
variable {fs FT ex X_:List Addr}{H H1 H2:Hp}{h h1 h2 h':Heap}{a x e:Addr}{o:HO}
def Un.any (u:Un fs ex H H1 h h1){b:Addr}{ob:Obj}(q:h.get? b=some ob)(n:H b=none)(hx:b∉ex):∃sl,h1.get? b=some { ob with slots:=sl }:=by
 by_cases hb:b∈fs
 .exact u.slot b ob q n hb hx
 exact⟨ob.slots,u.keep b ob q n hb hx⟩
def Un.trans (a:Un fs ex H H1 h h1)(b:Un fs ex H1 H2 h1 h2):Un fs ex H H2 h h2 where
 keep:=λc ob q n hc hx=>b.keep c ob (a.keep c ob q n hc hx) (a.free c ob q n hx) hc hx
 slot:=λc ob q n hc hx=>by
  obtain⟨sl,e1⟩:=a.slot c ob q n hc hx;obtain⟨Sa,e2⟩:=b.slot c _ e1 (a.free c ob q n hx) hc hx;exact⟨Sa,e2⟩
 free:=λc ob q n hx=>by
  obtain⟨o',e1⟩:=a.there c ob q hx;exact b.free c o' e1 (a.free c ob q n hx) hx
 there:=λc ob q hx=>by
  obtain⟨o',e1⟩:=a.there c ob q hx;exact b.there c o' e1 hx
 kS:=λc xs q=>b.kS c xs (a.kS c xs q)
 jP:=λc ob xs q=>b.jP c ob xs (a.jP c ob xs q)
 j6:=λc ps q=>by
  obtain⟨m1,e1⟩:=a.j6 c ps q;obtain⟨m2,e2⟩:=b.j6 c _ e1;exact⟨m1++m2,by rw [e2,Array.append_assoc]⟩
def Un.kept (k:∀b u,h.get? b=some u->h'.get? b=some u):Un fs ex H H h h' :=
 ⟨λb ob q _ _ _=>k b ob q,λb ob q _ _ _=>⟨ob.slots,k b ob q⟩,λ_ _ _ n _=>n,λb ob q _=>⟨ob,k b ob q⟩,λ_ _ q=>q,λ_ _ _ q=>q,λ_ ps q=>⟨#[],by rw [q];simp⟩⟩
def Un.refl:Un fs ex H H h h:=Un.kept λ_ _ q=>q
def Un.laid (k:∀b u,h.get? b=some u->h'.get? b=some u)(hp:h.objs.size<=a)(hn:H a=none):Un fs ex H (upd H a o) h h' where
 keep:=λb u q _ _ _=>k b u q
 slot:=λb u q _ _ _=>⟨u.slots,k b u q⟩
 free:=λb u q n _=>by rw [ai (bB (dQ (aW q) hp))];exact n
 there:=λb u q _=>⟨u,k b u q⟩
 kS:=λb xs q=>by rw [ai (au q hn)];exact q
 jP:=λb u xs q=>by rw [ai (au q hn)];exact q
 j6:=λb ps q=>⟨#[],by rw [ai (au q hn),q];simp⟩
def Un.write (mu:Qk (H x))(he:e=x\/H e=some (.own x))(k:∀b u,b≠e->h.get? b=some u->h'.get? b=some u)(MP:∃u,h'.get? e=some u):Un fs ex H (upd H x o) h h':=by
 have hx:∀b,H b=none->b≠x:=λb n z=>by subst z;rw [n] at mu;exact mu
 have hb:∀b,H b=none->b≠e:=λb n z=>by
  subst z;rcases he with r | r
  .exact hx b n r
  rw [n] at r;cases r
 have hm:∀b u,H b=some u->¬Qk (some u)->b≠x:=λb u q nm z=>by subst z;rw [q] at mu;exact nm mu
 refine⟨λb u q n _ _=>k b u (hb b n) q,λb u q n _ _=>⟨u.slots,k b u (hb b n) q⟩,λb u q n _=>by rw [ai (hx b n)];exact n,λb u q _=>?_,
  λb xs q=>by rw [ai (hm b _ q λz=>z)];exact q,λb u xs q=>by rw [ai (hm b _ q λz=>z)];exact q,λb ps q=>⟨#[],by rw [ai (hm b _ q λz=>z),q];simp⟩⟩
 by_cases Lm:b=e
 .subst Lm;exact MP
 exact⟨u,k b u Lm q⟩
def Un.mono (u:Un fs ex H H1 h h1)(hs:∀b∈fs,b∈FT)(hx:∀b∈ex,b∈X_):Un FT X_ H H1 h h1 :=
 ⟨λb ob q n hb he=>u.keep b ob q n (λz=>hb (hs b z)) λz=>he (hx b z),λ_ _ q n _ he=>u.any q n λz=>he (hx _ z),λb ob q n he=>u.free b ob q n λz=>he (hx b z),λb ob q he=>u.there b ob q λz=>he (hx b z),u.kS,u.jP,u.j6⟩
end
def FD (h:Heap)(H:Hp):List Addr:=(List.range h.objs.size).filter λa=>(H a).isSome
def lB (h:Heap)(H:Hp):Heap:=PySem.W.hideAll h (FD h H)
def tD (h:Heap)(H:Hp):(lB h H).objs.size=h.objs.size:=PySem.W.hideAll_size _ _
def wV {h:Heap}{H:Hp}{b:Addr}{o:Obj}(e:h.get? b=some o)(n:H b=none):(lB h H).get? b=some o :=
 PySem.W.hideAll_get _ e λhm=>by
  have q:(H b).isSome=true:=(gL.mp hm).2;rw [n] at q;simp at q
def AK {h:Heap}{H:Hp}{b:Addr}{o:Obj}(e:(lB h H).get? b=some o):h.get? b=some o/\H b=none:=by
 have e':h.get? b=some o:=PySem.W.of_hideAll (FD h H) e;refine⟨e',?_⟩;cases q:H b with
 | none=>rfl
 | some x =>
  have hm:b∈FD h H:=gL.mpr ⟨lM.mpr (aW e'),by simp [q]⟩;have z:(lB h H).get? b=none:=PySem.W.hideAll_none (FD h H) hm;rw [z] at e;cases e
def HR (g h:Heap)(L:Addr):List (Addr×Obj):=(List.range h.objs.size).filterMap λa=>if a=L\/(g.get? a).isSome=true then none else (h.get? a).map λo=>(a,o)
def rest (g h:Heap)(L d:Addr):List (Addr×Obj):=(HR g h L).filter λp=>decide (p.1≠d)
structure Mod (K:aV)(mg:Str->Option Value)(base:Heap):Prop where
 KQ:K.In base
 glob:base.Ns mainGlobals mg
 blt:∃mb,base.Ns builtinsNs mb/\∀x:Str,x ≠ "__name__" -> mb x=bootBuiltins x
 nolimit:base.NoLimit
structure Cx where
 prog:Program
 w:World
 K:aV
 mg:Str->Option Value
 base:Heap
 A:Around
 N:List Str
 s₀:Shared
 H₀:Hp
 env:Env
 outer:List Env
 stack:List Env
 ex:List Addr
 fn:Str->Bool
 calm:Bool
 pn:List (Addr×Obj)
 xe:Value->Shared->Prop
def px (l:List Env):List Addr:=l.filterMap (·.frame)
abbrev Cx.fs (X:Cx):List Addr:=px X.outer
def Rx (sc:Scope)(x:Str):Prop:=sc.names.lookup x=some .local\/sc.names.lookup x=some .cell\/sc.names.lookup x=some .free
def Loc (sc:Scope)(x:Str):Prop:=sc.names.lookup x=some .local\/sc.names.lookup x=some .cell
def Look (env:Env)(h:Heap)(m:Str->Option Value)(x:Str)(u:Value):Prop :=
 (env.kindOf x=some .local/\m x=some u)\/((env.kindOf x=some .cell\/env.kindOf x=some .free)/\∃c,env.cells.lookup x=some c/\h.IsCell c (some u))
structure Cx.Ok (X:Cx):Prop where
 mod:Mod X.K X.mg X.base
 kind:X.env.scope.kind=.function
 glob:X.env.globals=mainGlobals
 blt:X.env.builtins=builtinsNs
 above:X.s₀.heap.objs.size<=X.env.locals
 inj:∀x y c,X.env.cells.lookup x=some c->X.env.cells.lookup y=some c->x=y
 has:∀x,(X.env.kindOf x=some .cell\/X.env.kindOf x=some .free)->∃c,X.env.cells.lookup x=some c
 Na:∀x c,X.fn x=true->X.env.cells.lookup x=some c->X.s₀.heap.objs.size<=c
 hd:X.calm=true->X.A.handled=none
 frames:X.A.frames=some X.stack
 Ii:X.stack=X.outer\/(X.stack=X.env::X.outer/\X.env.frame=some X.env.locals)
 LG:∀b∈X.ex,b≠X.env.locals/\∀x c,X.env.cells.lookup x=some c->c≠b
 bs:∀b o,X.base.get? b=some o->X.s₀.heap.get? b=some o/\X.H₀ b=none
 Fd:X.base.objs.size<=X.s₀.heap.objs.size
 BU:∀b o,X.base.get? b=some o->b∉X.ex
 zE:∀b∈X.ex,b∉X.fs
 mZ:X.s₀.heap.FunFrames X.base X.outer
 HA:∀b∈X.fs,X.H₀ b=none
structure Inv (X:Cx)(ag:List (Addr×Obj))(σ:List (Option V))(H:Hp)(s:Shared):Prop where
 ok:X.Ok
 os:s.os=X.s₀.os
 bare:AllBare s.gens
 base:Un X.fs X.ex X.H₀ H X.s₀.heap s.heap
 loc:∃m,s.heap.Ns X.env.locals m/\∀(i:Nat)(x:Str)(v:V),X.N[i]?=some x->σ[i]?=some (some v)->Rx X.env.scope x->∃u,RelV v u/\Look X.env s.heap m x u
 cell:∀x c,X.env.cells.lookup x=some c->∃v,s.heap.IsCell c v
 free:H X.env.locals=none
 iQ:∀x c,X.env.cells.lookup x=some c->H c=none
 pin:∀p∈X.pn++ag,s.heap.get? p.1=some p.2/\H p.1=none/\p.1≠X.env.locals/\p.1∉X.fs/\∀v,p.2.data≠.cell v
 bH:j_ X.prog X.w H s.heap
 len:σ.length=X.N.length
section
variable {X:Cx}{ag:List (Addr×Obj)}{σ:List (Option V)}{H H':Hp}{s:Shared}{h':Heap}
def Cx.Ok.SK (ok:X.Ok){b:Addr}{o:Obj}(e:X.base.get? b=some o):b∉X.fs:=λhb=>by
 have:=(ok.mZ.mem hb).1;rw [e] at this;cases this
theorem Inv.bs (I:Inv X ag σ H s):∀b o,X.base.get? b=some o->s.heap.get? b=some o/\H b=none:=λb o e =>
 ⟨I.base.keep b o (I.ok.bs b o e).1 (I.ok.bs b o e).2 (I.ok.SK e) (I.ok.BU b o e),I.base.free b o (I.ok.bs b o e).1 (I.ok.bs b o e).2 (I.ok.BU b o e)⟩
def Inv.bk (I:Inv X ag σ H s):∀b o,X.base.get? b=some o->s.heap.get? b=some o:=λb o e=>(I.bs b o e).1
theorem Inv.mod (I:Inv X ag σ H s):Mod X.K X.mg X.base:=I.ok.mod
def Inv.jj (I:Inv X ag σ H s):X.K.In s.heap:=I.ok.mod.KQ.keeps I.bk
theorem Inv.nolimit (I:Inv X ag σ H s):s.heap.NoLimit:=I.ok.mod.nolimit.keeps I.bk
def Inv.fr (I:Inv X ag σ H s):∃m,Fr X.base X.env.locals s.heap m :=
 let ⟨m,hn,_⟩:=I.loc
 ⟨m,hn,I.bk,cC I.ok.Fd I.ok.above⟩
theorem Inv.lt (I:Inv X ag σ H s):X.env.locals < s.heap.objs.size:=let ⟨_,hn,_⟩:=I.loc;hn.lt
def Inv.sz (I:Inv X ag σ H s):X.s₀.heap.objs.size<=s.heap.objs.size:=cC I.ok.above (jz I.lt)
def Inv.SJ (I:Inv X ag σ H s){a:Addr}(h:s.heap.objs.size<=a):a∉X.fs:=λhb=>by
 obtain⟨_,o,ho,_⟩:=I.ok.mZ.mem hb;exact absurd (dQ (aW ho) (cC I.sz h)) (iA _)
def Inv.Ja (I:Inv X ag σ H s):∀x c,X.env.cells.lookup x=some c->c≠X.env.locals:=λx c e z=>by
 obtain⟨v,o,ho,hd⟩:=I.cell x c e;obtain⟨m,⟨o',es,ep,EF,Ce,_⟩,_⟩:=I.loc;rw [z,EF] at ho;cases ho;rw [Ce] at hd;cases hd
theorem Inv.mZ (I:Inv X ag σ H s):s.heap.FunFrames X.base X.outer:=by
 have all:∀(l:List Env),(∀b∈px l,b∈X.fs)->X.s₀.heap.FunFrames X.base l->s.heap.FunFrames X.base l:=by
  intro l
  induction l with
  | nil=>intro _ _;trivial
  | cons env r ih =>
   intro hs hl;obtain⟨hk,⟨L,o,hf,hn,ho,hd⟩,hr⟩:=hl;have hL:L∈X.fs:=hs L (by unfold px;rw [List.filterMap_cons,hf];exact bX);obtain⟨sl,e⟩:=I.base.slot L o ho (I.ok.HA L hL) hL λz=>I.ok.zE L z hL;exact⟨hk,⟨L,_,hf,hn,e,hd⟩,ih (λb hb=>hs b (by unfold px;rw [List.filterMap_cons,hf];exact bS _ hb)) hr⟩
 exact all X.outer (λ_ hb=>hb) I.ok.mZ
theorem Inv.stack (I:Inv X ag σ H s):s.heap.FunFrames X.base X.stack:=by
 rcases I.ok.Ii with e | ⟨e,hf⟩
 .rw [e];exact I.mZ
 rw [e];obtain⟨m,hn,_⟩:=I.loc;refine .cons (by rw [I.ok.kind];decide) hf hn ?_ I.mZ;exact ug (cC I.ok.Fd I.ok.above)
def Inv.uJ (I:Inv X ag σ H s):∀b∈px X.stack,b∈X.env.locals::X.fs:=λb hb=>by
 rcases I.ok.Ii with e | ⟨e,hf⟩
 .rw [e] at hb;exact bS _ hb
 rw [e] at hb;unfold px at hb;rw [List.filterMap_cons,hf] at hb;exact hb
def Inv.pF (I:Inv X ag σ H s):∀b∈px X.stack,H b=none:=λb hb=>by
 rcases bN.mp (I.uJ b hb) with e | hb
 .rw [e];exact I.free
 obtain⟨_,o,ho,_⟩:=I.ok.mZ.mem hb;exact I.base.free b o ho (I.ok.HA b hb) λz=>I.ok.zE b z hb
def Inv.step {g':Array GenState}{t':Nat}{d':Drawn}{ch:List Addr}(I:Inv X ag σ H s)
  (FP:∀b∈ch,(b∈X.ex\/X.s₀.heap.objs.size<=b)/\b≠X.env.locals/\(∀x c,X.env.cells.lookup x=some c->c≠b)/\∀p∈X.pn++ag,p.1≠b)
  (keep:∀b o,b≠X.env.locals->b∉X.fs->b∉ch->s.heap.get? b=some o->H b=none->h'.get? b=some o)
  (slot:∀b o,b≠X.env.locals->b∈X.fs->b∉ch->s.heap.get? b=some o->H b=none->∃sl,h'.get? b=some { o with slots:=sl })(free:∀b o,b∉ch->s.heap.get? b=some o->H b=none->H' b=none)
  (there:∀b o,b∉ch->s.heap.get? b=some o->∃o',h'.get? b=some o')
  (kS:∀b xs,H b=some (.tup xs)->H' b=some (.tup xs))(jP:∀b o u,H b=some (.jo o u)->H' b=some (.jo o u))(j6:∀b ps,H b=some (.rN ps)->∃more,H' b=some (.rN (ps++more)))
  (ns:∀m,s.heap.Ns X.env.locals m->h'.Ns X.env.locals m)(bH:j_ X.prog X.w H' h')(hg:AllBare g') :
  Inv X ag σ H' { s with heap:=h',gens:=g',drawn:=d',toks:=t' }:=by
 have WU:∀b o,X.s₀.heap.get? b=some o->b≠X.env.locals:=λb o e=>bB (dQ (aW e) I.ok.above);have My:∀b o,X.s₀.heap.get? b=some o->b∉X.ex->b∉ch:=λb o e hx hb=>by
  rcases (FP b hb).1 with z | z
  .exact hx z
  exact absurd (dQ (aW e) z) (iA _)
 have cellK:∀x c,X.env.cells.lookup x=some c->∀v,s.heap.IsCell c v->h'.IsCell c v:=λx c e v ⟨o,ho,hd⟩=>by
  have Of:c∉ch:=λz=>(FP c z).2.2.1 x c e rfl;by_cases hc:c∈X.fs
  .obtain⟨sl,q⟩:=slot c o (I.Ja x c e) hc Of ho (I.iQ x c e);exact⟨_,q,hd⟩
  exact⟨o,keep c o (I.Ja x c e) hc Of ho (I.iQ x c e),hd⟩
 refine⟨I.ok,I.os,hg,⟨λb o e n hb hx=>?_,λb o e n hb hx=>?_,λb o e n hx=>?_,λb o e hx=>?_,λb xs e=>kS b xs (I.base.kS b xs e),λb o xs e=>jP b o xs (I.base.jP b o xs e),λb ps e=>?_⟩,?_,λx c e=>?_,?_,λx c e=>?_,λp hp=>?_,bH,I.len⟩
 .exact keep b o (WU b o e) hb (My b o e hx) (I.base.keep b o e n hb hx) (I.base.free b o e n hx)
 .obtain⟨sl,e1⟩:=I.base.slot b o e n hb hx;obtain⟨Sa,e2⟩:=slot b _ (WU b o e) hb (My b o e hx) e1 (I.base.free b o e n hx);exact⟨Sa,e2⟩
 .obtain⟨o',e1⟩:=I.base.there b o e hx;exact free b o' (My b o e hx) e1 (I.base.free b o e n hx)
 .obtain⟨o',e1⟩:=I.base.there b o e hx;exact there b o' (My b o e hx) e1
 .obtain⟨m1,e1⟩:=I.base.j6 b ps e;obtain⟨m2,e2⟩:=j6 b _ e1;exact⟨m1++m2,by rw [e2,Array.append_assoc]⟩
 .obtain⟨m,hn,hl⟩:=I.loc;refine⟨m,ns m hn,λi x v e1 e2 e3=>?_⟩;obtain⟨u,r,l⟩:=hl i x v e1 e2 e3;refine⟨u,r,?_⟩;rcases l with l | ⟨k,c,e,z⟩
  .exact .inl l
  exact .inr ⟨k,c,e,cellK x c e _ z⟩
 .obtain⟨v,z⟩:=I.cell x c e;exact⟨v,cellK x c e v z⟩
 .obtain⟨m,⟨o,_,_,ho,_⟩,_⟩:=I.loc;exact free _ o (λz=>(FP _ z).2.1 rfl) ho I.free
 .obtain⟨v,o,ho,hd⟩:=I.cell x c e;exact free c o (λz=>(FP c z).2.2.1 x c e rfl) ho (I.iQ x c e)
 obtain⟨e,n,ne,nf,d⟩:=I.pin p hp;have Of:p.1∉ch:=λz=>(FP p.1 z).2.2.2 p hp rfl;exact⟨keep p.1 p.2 ne nf Of e n,free p.1 p.2 Of e n,ne,nf,d⟩
def Inv.un {t':Nat}(I:Inv X ag σ H s)(u:Un X.fs [] H H' s.heap h')(bH:j_ X.prog X.w H' h'):Inv X ag σ H' { s with heap:=h',toks:=t' }:=by
 obtain⟨m,⟨o,es,ep,ho,r⟩,_⟩:=id I.loc;obtain⟨sl,hL⟩:=u.any ho I.free (by simp);exact I.step (g':=s.gens) (d':=s.drawn) (ch:=[]) (λ_ z=>nomatch z) (λb o _ hb _ e n=>u.keep b o e n hb (by simp)) (λb o _ hb _ e n=>u.slot b o e n hb (by simp)) (λb o _ e n=>u.free b o e n (by simp)) (λb o _ e=>u.there b o e (by simp)) u.kS u.jP u.j6 (λm' hm=>by
  obtain⟨o',vw,Vb,EF,r'⟩:=hm;rw [ho] at EF;cases EF;exact⟨_,vw,Vb,hL,r'⟩) bH I.bare
def Inv.call {g':Array GenState}{t':Nat}{d':Drawn}{ch:List Addr}(I:Inv X ag σ H s)(u:Un (px X.stack) ch H H' s.heap h')(bH:j_ X.prog X.w H' h')(hg:AllBare g')
  (FP:∀b∈ch,(b∈X.ex\/X.s₀.heap.objs.size<=b)/\b≠X.env.locals/\(∀x c,X.env.cells.lookup x=some c->c≠b)/\∀p∈X.pn++ag,p.1≠b) :
  Inv X ag σ H' { s with heap:=h',gens:=g',drawn:=d',toks:=t' }:=by
 obtain⟨m,⟨o,es,ep,ho,r⟩,_⟩:=id I.loc;obtain⟨sl,hL⟩:=u.any ho I.free λz=>(FP _ z).2.1 rfl;exact I.step (ch:=ch) FP (λb o hL hb hc e n=>u.keep b o e n (λz=>(bN.mp (I.uJ b z)).elim hL hb) hc) (λb o _ _ hc e n=>u.any e n hc) (λb o hc e n=>u.free b o e n hc) (λb o hc e=>u.there b o e hc) u.kS u.jP u.j6 (λm' hm=>by
  obtain⟨o',vw,Vb,EF,r'⟩:=hm;rw [ho] at EF;cases EF;exact⟨_,vw,Vb,hL,r'⟩) bH hg
def Inv.turned {t':Nat}{it:Addr}(I:Inv X ag σ H s)(k:∀b o,b≠it->s.heap.get? b=some o->h'.get? b=some o)(hn:H it=none)(hL:it≠X.env.locals)
  (h1:it∈X.ex\/X.s₀.heap.objs.size<=it)(h2:∀x c,X.env.cells.lookup x=some c->c≠it)(h3:∀p∈X.pn++ag,p.1≠it):Inv X ag σ H { s with heap:=h',toks:=t' }:=by
 have WT:∀b u,H b=some u->b≠it:=λb u e z=>by rw [z,hn] at e;cases e
 refine I.step (g':=s.gens) (d':=s.drawn) (ch:=[it]) (λb hb=>?_) (λb o _ _ hc e _=>k b o (λz=>hc (by simp [z])) e) (λb o _ _ hc e _=>⟨o.slots,k b o (λz=>hc (by simp [z])) e⟩) (λ_ _ _ _ n=>n)
  (λb o hc e=>⟨o,k b o (λz=>hc (by simp [z])) e⟩) (λ_ _ e=>e) (λ_ _ _ e=>e) (λb ps e=>⟨#[],by rw [e];simp⟩) (λm hm=>?_) (λb u e=>?_) I.bare
 .have e:b=it:=by simpa using hb
  subst e;exact⟨h1,hL,h2,h3⟩
 .obtain⟨o,es,ep,ho,r⟩:=hm;exact⟨o,es,ep,k _ o (eV hL) ho,r⟩
 refine(I.bH b u e).ip (λc v hc q=>k c v ?_ q) (λ_ q=>q) λ_ _ q=>q;rcases hc with z | z
 .rw [z];exact WT b u e
 exact WT c _ z
def Inv.tok (I:Inv X ag σ H s) (t:Nat):Inv X ag σ H { s with toks:=t }:=I.un (h':=s.heap) (t':=t) Un.refl I.bH
theorem Inv.kept {t':Nat}(I:Inv X ag σ H s)(k:∀b u,s.heap.get? b=some u->h'.get? b=some u):Inv X ag σ H { s with heap:=h',toks:=t' }:=I.un (Un.kept k) (I.bH.kept k)
theorem Inv.laid {a:Addr}{o:HO}{t':Nat}(I:Inv X ag σ H s)(k:∀b u,s.heap.get? b=some u->h'.get? b=some u)(hp:s.heap.objs.size<=a)(new:bV X.prog X.w (upd H a o) h' a o) :
  Inv X ag σ (upd H a o) { s with heap:=h',toks:=t' }:=I.un (Un.laid k hp (I.bH.fresh hp)) (I.bH.laid k hp new)
theorem Inv.write {x e:Addr}{o:HO}{t':Nat}(I:Inv X ag σ H s)(mu:Qk (H x))(he:e=x\/H e=some (.own x))(k:∀b u,b≠e->s.heap.get? b=some u->h'.get? b=some u)(MP:∃u,h'.get? e=some u)
  (new:bV X.prog X.w (upd H x o) h' x o):Inv X ag σ (upd H x o) { s with heap:=h',toks:=t' }:=I.un (Un.write mu he k MP) (I.bH.write mu he k MP new)
def Inv.AB {ji:List (Addr×Obj)}(I:Inv X ag σ H s)(h:∀p∈ji,s.heap.get? p.1=some p.2/\H p.1=none/\p.1≠X.env.locals/\p.1∉X.fs/\∀v,p.2.data≠.cell v):Inv X ji σ H s :=
 ⟨I.ok,I.os,I.bare,I.base,I.loc,I.cell,I.free,I.iQ,λp hp=>(bq.mp hp).elim (λz=>I.pin p (lX _ z)) (h p),I.bH,I.len⟩
def qE {N:List Str}(hN:N.Nodup){i j:Nat}{x:Str}(a:N[i]?=some x)(b:N[j]?=some x):i=j:=by
 obtain⟨h1,e1⟩:=bo.mp a;obtain⟨h2,e2⟩:=bo.mp b;exact(p8 hN).mp (e1.trans e2.symm)
def sE {M:Model}{A:Around}{E:Value->Shared->Prop}{i:Nat}{x:Str}{v:V}{u:Value}{Q:Unit->Shared->Prop}(I:Inv X ag σ H s)(hN:X.N.Nodup)(hi:X.N[i]?=some x)(hx:Loc X.env.scope x)(r:RelV v u)
  (h:∀s',Inv X ag (σ.set i (some v)) H s'->(∃a,Heap.SameBut a s.heap s'.heap/\(a=X.env.locals\/X.env.cells.lookup x=some a))->Q () s')(hf:X.fn x=true\/X.env.scope.names.lookup x=some .local:=by first | exact .inl rfl | exact .inr rfl | assumption):wpAny M A (storeName X.env x u) Q E s:=by
 obtain⟨m,hn,hl⟩:=id I.loc;have UJ:(X.env.scope.kind == .class || (X.env.scope.kind == .module && X.env.locals != X.env.globals))=false:=by rw [I.ok.kind];rfl
 have XA:i < σ.length:=by rw [I.len];exact(bo.mp hi).1
 have Ja:=I.Ja;have tracked:∀{a:Addr}{h':Heap},(∃o,s.heap.get? a=some o/\H a=none)->Heap.SameBut a s.heap h'->j_ X.prog X.w H h':=λ{a h'} ha hs b ob e=>by
  obtain⟨_,_,mP⟩:=ha;refine(I.bH b ob e).ip (λc w' hc q=>(hs.2 c ?_).trans q) (λ_ q=>q) λ_ _ q=>q;rintro rfl;rcases hc with rfl | hc
  .rw [mP] at e;cases e
  rw [mP] at hc;cases hc
 rcases hx with hk | hk
 .refine wpAny_storeName_local hk hn (λh' K_ hs=>?_) UJ;obtain⟨oL,_,_,hoL,_⟩:=id hn;refine h _ ⟨I.ok,I.os,I.bare,⟨λb o e n hb hx=>?_,λb o e n hb hx=>?_,I.base.free,λb o e hx=>?_,I.base.kS,I.base.jP,I.base.j6⟩,⟨_,K_,λj y v' e1 e2 e3=>?_⟩,λy c e=>?_,I.free,I.iQ,λp hp=>?_,tracked ⟨oL,hoL,I.free⟩ hs,by simpa using I.len⟩ ⟨_,hs,.inl rfl⟩
  .exact(hs.2 b (bB (dQ (aW e) I.ok.above))).trans (I.base.keep b o e n hb hx)
  .obtain⟨sl,e1⟩:=I.base.slot b o e n hb hx;exact⟨sl,(hs.2 b (bB (dQ (aW e) I.ok.above))).trans e1⟩
  .obtain⟨o',e1⟩:=I.base.there b o e hx;exact⟨o',(hs.2 b (bB (dQ (aW e) I.ok.above))).trans e1⟩
  .by_cases hj:j=i
   .subst hj;rw [hi] at e1;cases e1;rw [uz XA] at e2;cases e2;exact⟨u,r,.inl ⟨hk,by simp⟩⟩
   rw [List.getElem?_set_ne (eV hj)] at e2;obtain⟨u',r',q⟩:=hl j y v' e1 e2 e3;refine⟨u',r',?_⟩;rcases q with ⟨k,e⟩ | ⟨k,c,e,z⟩
   .refine .inl ⟨k,?_⟩;have:y≠x:=λe=>hj (qE hN e1 (e ▸ hi));simp [this,e]
   exact .inr ⟨k,c,e,z.sameBut hs (Ja y c e)⟩
  .obtain⟨w',z⟩:=I.cell y c e;exact⟨w',z.sameBut hs (Ja y c e)⟩
  obtain⟨e,n,ne,nf,d⟩:=I.pin p hp;exact⟨(hs.2 p.1 ne).trans e,n,ne,nf,d⟩
 have Uz:X.fn x=true:=by
  rcases hf with z | z
  .exact z
  rw [z] at hk;cases hk
 obtain⟨c,hc⟩:=I.ok.has x (.inl hk);obtain⟨w',z⟩:=I.cell x c hc;refine wpAny_storeName_cell I.ok.kind hk hc z (λh' j7 hs=>?_);obtain⟨oc,xR,Uj⟩:=id z;refine h { s with heap:=h' } ⟨I.ok,I.os,I.bare,⟨λb o e n hb hx=>?_,λb o e n hb hx=>?_,I.base.free,λb o e hx=>?_,I.base.kS,I.base.jP,I.base.j6⟩,⟨m,hn.sameBut hs (eV (Ja x c hc)),λj y v' e1 e2 e3=>?_⟩,λy c' e=>?_,I.free,I.iQ,λp hp=>?_,tracked ⟨oc,xR,I.iQ x c hc⟩ hs,by simpa using I.len⟩ ⟨c,hs,.inr hc⟩
 .exact(hs.2 b (bB (dQ (aW e) (I.ok.Na x c Uz hc)))).trans (I.base.keep b o e n hb hx)
 .obtain⟨sl,e1⟩:=I.base.slot b o e n hb hx;exact⟨sl,(hs.2 b (bB (dQ (aW e) (I.ok.Na x c Uz hc)))).trans e1⟩
 .obtain⟨o',e1⟩:=I.base.there b o e hx;exact⟨o',(hs.2 b (bB (dQ (aW e) (I.ok.Na x c Uz hc)))).trans e1⟩
 .by_cases hj:j=i
  .subst hj;rw [hi] at e1;cases e1;rw [uz XA] at e2;cases e2;exact⟨u,r,.inr ⟨.inl hk,c,hc,j7⟩⟩
  rw [List.getElem?_set_ne (eV hj)] at e2;obtain⟨u',r',q⟩:=hl j y v' e1 e2 e3;refine⟨u',r',?_⟩;rcases q with q | ⟨k,c',e,z'⟩
  .exact .inl q
  refine .inr ⟨k,c',e,z'.sameBut hs ?_⟩;rintro rfl;exact hj (qE hN e1 (I.ok.inj _ _ _ e hc ▸ hi))
 .by_cases Ht:c'=c
  .subst Ht;exact⟨_,j7⟩
  obtain⟨w2,z2⟩:=I.cell y c' e;exact⟨w2,z2.sameBut hs Ht⟩
 obtain⟨e,n,ne,nf,d⟩:=I.pin p hp;refine⟨(hs.2 p.1 ?_).trans e,n,ne,nf,d⟩;intro q;rw [q,xR] at e;have q':oc=p.2:=gM e;exact d w' (by rw [<-q'];exact Uj)
def iG {M:Model}{A:Around}{E:Value->Shared->Prop}{i:Nat}{x:Str}{v:V}{u:Value}{Q:Unit->Shared->Prop}(I:Inv X ag σ H s)(hN:X.N.Nodup)(hi:X.N[i]?=some x)(hx:Loc X.env.scope x)(r:RelV v u)
  (h:∀s',Inv X ag (σ.set i (some v)) H s'->Q () s')(hf:X.fn x=true\/X.env.scope.names.lookup x=some .local:=by first | exact .inl rfl | exact .inr rfl | assumption):wpAny M A (storeName X.env x u) Q E s :=
 sE I hN hi hx r (λs' I' _=>h s' I') hf
def Inv.A7 {s':Shared}{ch:List Addr}(I:Inv X ag σ H s)(ho:s'.os=s.os)(u:Un (px X.stack) ch H H' s.heap s'.heap)(bH:j_ X.prog X.w H' s'.heap)(hg:AllBare s'.gens)
  (FP:∀b∈ch,(b∈X.ex\/X.s₀.heap.objs.size<=b)/\b≠X.env.locals/\(∀x c,X.env.cells.lookup x=some c->c≠b)/\∀p∈X.pn++ag,p.1≠b):Inv X ag σ H' s':=by
 obtain⟨h',g',d',t',o'⟩:=s';have e:o'=s.os:=ho;subst e;exact I.call (g':=g') (t':=t') (d':=d') u bH hg FP
end
abbrev XK:=Value->Option Addr->Hp->Prop
abbrev St:=List (Option V)
abbrev br (a:Addr):Option V:=some (.ref a)
abbrev VK:=V->Hp->Prop
abbrev TE:=St->Hp->VK->Prop
abbrev TT:=St->Hp->(Bool->Hp->Prop)->Prop
abbrev TA:=St->Hp->(List V->Hp->Prop)->Prop
structure Ends where
 nx:St->Hp->Prop
 rt:VK
 bk:St->Hp->Prop:=λ_ _=>False
 ct:St->Hp->Prop:=λ_ _=>False
abbrev TS:=Ends->St->Hp->Prop
def EP (X:Cx)(ag:List (Addr×Obj))(σ:St)(Q:VK)(u:Value)(s':Shared):Prop:=∃v H',Inv X ag σ H' s'/\RelV v u/\Q v H'
def TP (X:Cx)(ag:List (Addr×Obj))(σ:St)(Q:Bool->Hp->Prop)(b:Bool)(s':Shared):Prop:=∃H',Inv X ag σ H' s'/\Q b H'
def AP (X:Cx)(ag:List (Addr×Obj))(σ:St)(Q:List V->Hp->Prop)(us:List Value)(s':Shared):Prop:=∃vs H',Inv X ag σ H' s'/\aS vs us/\Q vs H'
def SP (X:Cx)(ag:List (Addr×Obj))(D:Ends)(f:Flow)(s':Shared):Prop :=
 match f with
 | .next=>∃σ' H',Inv X ag σ' H' s'/\D.nx σ' H'
 | .brk=>∃σ' H',Inv X ag σ' H' s'/\D.bk σ' H'
 | .cont=>∃σ' H',Inv X ag σ' H' s'/\D.ct σ' H'
 | .ret u=>∃v σ' H',Inv X ag σ' H' s'/\RelV v u/\D.rt v H'
def PE (X:Cx)(e:Expr)(t:TE):Prop :=
 ∀(ag:List (Addr×Obj))(s:Shared)(σ:St)(H:Hp)(Q:VK),Inv X ag σ H s->t σ H Q->wpAny (model X.prog X.w) X.A (eval e X.env) (EP X ag σ Q) X.xe s
def PT (X:Cx)(e:Expr)(t:TT):Prop :=
 ∀(ag:List (Addr×Obj))(s:Shared)(σ:St)(H:Hp)(Q:Bool->Hp->Prop),Inv X ag σ H s->t σ H Q->wpAny (model X.prog X.w) X.A (isTrue e X.env (eval e X.env)) (TP X ag σ Q) X.xe s
def PW (X:Cx)(e:Expr)(t:TT):Prop :=
 ∀(whole:Sem Value)(ag:List (Addr×Obj))(s:Shared)(σ:St)(H:Hp)(Q:Bool->Hp->Prop),Inv X ag σ H s->t σ H Q->wpAny (model X.prog X.w) X.A (isTrue e X.env whole) (TP X ag σ Q) X.xe s
def PW.pt {X:Cx}{e:Expr}{t:TT}(h:PW X e t):PT X e t:=h _
def PA (X:Cx)(es:List Expr)(t:TA):Prop :=
 ∀(pos:Pos)(ag:List (Addr×Obj))(s:Shared)(σ:St)(H:Hp)(Q:List V->Hp->Prop),Inv X ag σ H s->t σ H Q->wpAny (model X.prog X.w) X.A (spliced (backTo pos (starEach es X.env))) (AP X ag σ Q) X.xe s
def PS (X:Cx)(st:Stmt)(t:TS):Prop :=
 ∀(ag:List (Addr×Obj))(s:Shared)(σ:St)(H:Hp)(D:Ends),Inv X ag σ H s->t D σ H->wpAny (model X.prog X.w) X.A (exec st X.env) (SP X ag D) X.xe s
def vO (X:Cx)(st:List Stmt)(t:TS):Prop :=
 ∀(ag:List (Addr×Obj))(s:Shared)(σ:St)(H:Hp)(D:Ends),Inv X ag σ H s->t D σ H->wpAny (model X.prog X.w) X.A (execs st X.env) (SP X ag D) X.xe s
def cq {α:Type}{t:Sem α}{Q Q':α->Shared->Prop}{M:Model}{A:Around}{E:Value->Shared->Prop}{s:Shared}(h:wpAny M A t Q E s)(hQ:∀a s,Q a s->Q' a s):wpAny M A t Q' E s:=cv h hQ λ_ _ x=>x
section
variable {X:Cx}
def bin {a b:Expr}{ta tb:TE}(ha:PE X a ta)(hb:PE X b tb){ag:List (Addr×Obj)}{s:Shared}{σ:St}{H:Hp}{R:V->V->Hp->Prop}(I:Inv X ag σ H s)(h:ta σ H λx H1=>tb σ H1 λy H2=>R x y H2)
  {α:Type}{Q:α->Shared->Prop}{f:Value->Value->Sem α}
  (hf:∀v u s2 x y H2,Inv X ag σ H2 s2->RelV x v->RelV y u->R x y H2->wpAny (model X.prog X.w) X.A (f v u) Q X.xe s2) :
  wpAny (model X.prog X.w) X.A (eval a X.env) (λv s₁=>wpAny (model X.prog X.w) X.A (eval b X.env) (λu s₂=>wpAny (model X.prog X.w) X.A (f v u) Q X.xe s₂) X.xe s₁) X.xe s:=by
 refine cq (ha ag s σ H _ I h) λv s1 aT=>?_;obtain⟨x,H1,I1,r1,q1⟩:=aT;refine cq (hb ag s1 σ H1 _ I1 q1) λu s2 aT=>?_;obtain⟨y,H2,I2,r2,q2⟩:=aT;exact hf v u s2 x y H2 I2 r1 r2 q2
inductive P9 (o:Option (Option V))(R:V->Prop):Prop
|mk(v:V)(e:o=some (some v))(q:R v)
inductive XB (x:V)(R:Bool->Prop):Prop
|mk(c:Bool)(e:x=.bl c)(q:R c)
inductive V8 (x:V)(R:Int->Prop):Prop
|mk(i:Int)(e:x=.int i)(q:R i)
inductive YL (x y:V)(R:Int->Int->Prop):Prop
|mk(i j:Int)(e:x=.int i)(e2:y=.int j)(q:R i j)
inductive YK (x y:V)(C:Int->Int->Prop)(R:Int->Int->Prop):Prop
|mk(i j:Int)(e:x=.int i)(e2:y=.int j)(c:C i j)(q:R i j)
inductive Jh (vs:List V)(R:V->List V->Prop):Prop
|mk(v:V)(r:List V)(e:vs=v::r)(q:R v r)
inductive P_ (v:V)(S:Addr->List V->Prop) (n:Nat)(R:List V->Prop):Prop
|mk(a:Addr)(xs:List V)(e:v=.ref a)(s:S a xs)(l:xs.length=n)(q:R xs)
inductive Rw (x:V)(S:Addr->Prop)(R:Addr->Prop):Prop
|mk(a:Addr)(e:x=.ref a)(s:S a)(q:R a)
inductive V6 (x:V)(S:Addr->List V->Prop)(R:List V->Prop):Prop
|mk(a:Addr)(xs:List V)(e:x=.ref a)(s:S a xs)(q:R xs)
inductive Wa (S:Addr->List V->Prop)(x y:V)(R:List V->List V->Prop):Prop
|mk(a b:Addr)(xs ys:List V)(e:x=.ref a)(e2:y=.ref b)(s:S a xs)(s2:S b ys)(z:xs.length+ys.length<=sizeLine)(q:R xs ys)
inductive YH (vs:List V)(R:Int->Prop):Prop
|mk(j:Int)(e:vs=[.int j])(l:-(2 ^ 62)<=j)(u:j < 2 ^ 62)(q:R j)
inductive V9 (vs:List V)(S:Addr->List V->Prop)(R:Addr->Prop):Prop
|mk(a:Addr)(xs:List V)(e:vs=[.ref a])(s:S a xs)(q:R a)
inductive Ft (xs:List V)(S:Addr->List V->Prop)(R:List V->Prop):Prop
|mk(p:Addr)(ys:List V)(e:xs=[.ref p])(s:S p ys)(q:R ys)
def fk (i:Nat):TE:=λσ H Q=>P9 σ[i]? λv=>Q v H
def tC (v:V):TE:=λ_ H Q=>Q v H
def Kn {i:Nat}{x:Str}{pos:Pos}(hN:X.N[i]?=some x)(hv:Rx X.env.scope x)(hd:(x == ("__debug__":Str))=false:=by decide)(qR:(x == ("__classdict__":Str))=false:=by decide):PE X (.Name x pos) (fk i):=by
 intro ag s σ H Q I h;obtain⟨v,e,h⟩:=h;obtain⟨m,hn,hl⟩:=I.loc;obtain⟨u,r,l⟩:=hl i x v hN e hv;have fin:EP X ag σ Q u s:=⟨v,H,I,r,h⟩;rcases l with ⟨hk,hm⟩ | ⟨hk,c,hc,iO⟩
 .exact wpAny_Name (ui I.ok.kind hk hn hm fin) hd
 rcases hk with hk | hk
 .exact wpAny_Name (wpAny_loadName_cell I.ok.kind hk hc iO fin) hd
 exact wpAny_Name (wpAny_loadName_free I.ok.kind hk hc iO fin qR) hd
def aq {i j pos}:PE X (.Constant (.int i) j pos) (tC (.int i)):=λ_ _ _ H _ I h=>wpAny_Constant_int ⟨.int i,H,I.tok _,⟨_,rfl⟩,h⟩
def fg {b j pos}:PE X (.Constant (.bool b) j pos) (tC (.bl b)):=λ_ _ _ H _ I h=>Constant_bool ⟨.bl b,H,I,rfl,h⟩
def yP {j pos}:PE X (.Constant .none j pos) (tC .dI):=λ_ _ _ H _ I h=>Constant_none ⟨.dI,H,I,rfl,h⟩
def DK {x j pos}:PE X (.Constant (.str x) j pos) (tC (.str x)):=λ_ _ _ H _ I h=>Calls.Constant_str ⟨.str x,H,I.tok _,⟨_,rfl⟩,h⟩
def Gl (X:Cx)(x:Str):Prop:=X.env.kindOf x=some .globalImplicit
def i9 {E:Value->Shared->Prop}{ag:List (Addr×Obj)}{s:Shared}{σ:St}{H:Hp}{x:Str}{u:Value}{pos:Pos}{Q:Value->Shared->Prop}(I:Inv X ag σ H s)(hg:Gl X x)(hm:X.mg x=some u)(h:Q u s)
  (hd:(x == ("__debug__":Str))=false:=by decide):wpAny (model X.prog X.w) X.A (eval (.Name x pos) X.env) Q E s :=
 Calls.Name_function_global I.ok.kind hg (Calls.loadGlobal_global (by rw [I.ok.glob];exact I.mod.glob.keeps I.bk) hm h) hd
def i_ {E:Value->Shared->Prop}{ag:List (Addr×Obj)}{s:Shared}{σ:St}{H:Hp}{x:Str}{u:Value}{pos:Pos}{Q:Value->Shared->Prop}(I:Inv X ag σ H s)(hg:Gl X x)(hm:X.mg x=none)(hv:bootBuiltins x=some u)(h:Q u s)
  (hn:x ≠ "__name__" := by decide)(hd:(x == ("__debug__":Str))=false:=by decide):wpAny (model X.prog X.w) X.A (eval (.Name x pos) X.env) Q E s:=by
 obtain⟨mb,h1,h2⟩:=I.mod.blt;exact Calls.Name_function_global I.ok.kind hg (Calls.loadGlobal_builtin (by rw [I.ok.glob];exact I.mod.glob.keeps I.bk) hm (by rw [I.ok.blt];exact h1.keeps I.bk) ((h2 x hn).trans hv) h) hd
def pJ {x:Str}{v:V}{u:Value}{pos:Pos}(hg:Gl X x)(hm:X.mg x=some u)(r:RelV v u)(hd:(x == ("__debug__":Str))=false:=by decide):PE X (.Name x pos) (tC v) :=
 λ_ _ _ H _ I h=>i9 I hg hm ⟨v,H,I,r,h⟩ hd
def mF {x:Str}{v:V}{u:Value}{pos:Pos}(hg:Gl X x)(hm:X.mg x=none)(hv:bootBuiltins x=some u)(r:RelV v u)(hn:x ≠ "__name__" := by decide)(hd:(x == ("__debug__":Str))=false:=by decide):PE X (.Name x pos) (tC v) :=
 λ_ _ _ H _ I h=>i_ I hg hm hv ⟨v,H,I,r,h⟩ hn hd
variable {a b:Expr}{ta tb:TE}{pos:Pos}
def PC (X:Cx)(op:CmpOp)(a b:Expr)(t:TE):Prop :=
 ∀(ag:List (Addr×Obj))(s:Shared)(σ:St)(H:Hp)(Q:VK),Inv X ag σ H s->t σ H Q ->
  wpAny (model X.prog X.w) X.A (eval a X.env) (λv s₁=>wpAny (model X.prog X.w) X.A (eval b X.env) (λu s₂=>wpAny (model X.prog X.w) X.A (compareOp op v u) (EP X ag σ Q) X.xe s₂) X.xe s₁) X.xe s
def wF (b:Expr){op:CmpOp}(h:op≠.In)(h2:op≠.NotIn):behindInMarks op b=false:=by
 have e1:(op == CmpOp.In)=false:=by cases op <;> first | rfl | exact absurd rfl h
 have e2:(op == CmpOp.NotIn)=false:=by cases op <;> first | rfl | exact absurd rfl h2
 cases b <;> simp [behindInMarks,e1,e2]
def RZ (ta:TE):TE:=λσ H Q=>ta σ H λx H1=>Q (.bl (decide (x=.dI))) H1
def RelV.Ek {x:V}{v:Value}(r:RelV x v):(v == Value.none)=decide (x=.dI):=by
 cases x with
 | dI=>cases r;rfl
 | bl _=>cases r;rfl
 | int _=>obtain⟨t,rfl⟩:=r;rfl
 | str _=>obtain⟨t,rfl⟩:=r;rfl
 | zP _=>obtain⟨t,rfl⟩:=r;rfl
 | LF _=>obtain⟨t,rfl⟩:=r;rfl
 | ref _=>cases r;rfl
 | ty _=>cases r;rfl
def Kq {j pos'}(ha:PE X a ta):PC X .Is a (.Constant .none j pos') (RZ ta):=by
 intro ag s σ H Q I h;refine cq (ha ag s σ H _ I h) λv s1 aT=>?_;obtain⟨x,H1,I1,r1,q1⟩:=aT;exact Constant_none (is_none_gen ⟨.bl _,H1,I1,by rw [r1.Ek];rfl,q1⟩)
def tB (t:TE):TT:=λσ H Q=>t σ H λx H1=>XB x λc=>Q c H1
def DQ {op:CmpOp}{t:TE}(h:PC X op a b t)(h1:behindInMarks op b=false:=by first | exact wF _ nofun nofun | rfl):PE X (.Compare a [op] [b] pos) t:=λag s σ H Q I hw=>wpAny_Compare1 (h ag s σ H Q I hw) h1
def fq {op:CmpOp}{t:TE}(h:PC X op a b t)(h1:behindInMarks op b=false:=by first | exact wF _ nofun nofun | rfl):PT X (.Compare a [op] [b] pos) (tB t):=by
 intro ag s σ H Q I hw;refine wpAny_isTrue_Compare1 (cq (h ag s σ H _ I hw) λv s1 h1=>cq h1 λu s2 h2=>cq h2 λc s3 aT=>?_) h1;obtain⟨x,H1,I1,r1,q1⟩:=aT;obtain⟨d,rfl,q⟩:=q1;cases r1;exact kj ⟨H1,I1,q⟩
def eY {e:Expr}{t:TE}(h:PE X e t)(he:∀whole,isTrue e X.env whole=(do let v <-whole;standAt e.pos;holding [v] (truthy v)):=by intro _;rfl):PT X e (tB t):=by
 intro ag s σ H Q I hw;refine isTrue_plain (cq (h ag s σ H _ I hw) λv s1 aT=>?_) (he _);obtain⟨x,H1,I1,r1,q1⟩:=aT;obtain⟨d,rfl,q⟩:=q1;cases r1;exact kj ⟨H1,I1,q⟩
variable {tA Qz:TT}{rest:List Expr}
def R6 (t u:TT):TT:=λσ H Q=>t σ H λc H1=>if c=true then u σ H1 Q else Q false H1
def Ze (t u:TT):TT:=λσ H Q=>t σ H λc H1=>if c=true then Q true H1 else u σ H1 Q
def RX (t:TT):TT:=λσ H Q=>t σ H λc H1=>Q (!c) H1
def pI (ha:PT X a tA):PW X (.BoolOp .And [a] pos) tA:=by
 intro wh ag s σ H Q I h;refine isTrue_and (cq (ha ag s σ H Q I h) λc s1 e=>?_);cases c with
 | true=>exact isTrue_and_nil e
 | false=>exact e
def kU (ha:PT X a tA):PW X (.BoolOp .Or [a] pos) tA:=by
 intro wh ag s σ H Q I h;refine isTrue_or (cq (ha ag s σ H Q I h) λc s1 e=>?_);cases c with
 | false=>exact isTrue_or_nil e
 | true=>exact e
def u5 (ha:PT X a tA)(hb:PW X (.BoolOp .And (b::rest) pos) Qz):PW X (.BoolOp .And (a::b::rest) pos) (R6 tA Qz):=by
 intro wh ag s σ H Q I h;refine isTrue_and (cq (ha ag s σ H _ I h) λc s1 aT=>?_);obtain⟨H1,I1,q1⟩:=aT;cases c with
 | true=>exact hb wh ag s1 σ H1 Q I1 q1
 | false=>exact⟨H1,I1,q1⟩
def mw (ha:PT X a tA)(hb:PW X (.BoolOp .Or (b::rest) pos) Qz):PW X (.BoolOp .Or (a::b::rest) pos) (Ze tA Qz):=by
 intro wh ag s σ H Q I h;refine isTrue_or (cq (ha ag s σ H _ I h) λc s1 aT=>?_);obtain⟨H1,I1,q1⟩:=aT;cases c with
 | true=>exact⟨H1,I1,q1⟩
 | false=>exact hb wh ag s1 σ H1 Q I1 q1
def gH (ha:PT X a tA):PT X (.UnaryOp .Not a pos) (RX tA):=by
 intro ag s σ H Q I h;exact isTrue_not (ha ag s σ H (λc H1=>Q (!c) H1) I h)
def NK (ta tb:TE):TE:=λσ H Q=>ta σ H λx H1=>XB x λc=>if c=true then tb σ H1 Q else Q (.bl false) H1
def Nv (ta:TE):TE:=λσ H Q=>ta σ H λx H1=>XB x λc=>Q (.bl (!c)) H1
def DM {op}{t:TE}(h:PE X a t):PE X (.BoolOp op [a] pos) t:=λag s σ H Q I hw=>BoolOp_one (h ag s σ H Q I hw)
def DR (ha:PE X a ta)(hb:PE X (.BoolOp .And (b::rest) pos) tb):PE X (.BoolOp .And (a::b::rest) pos) (NK ta tb):=by
 intro ag s σ H Q I h;refine BoolOp_and (cq (ha ag s σ H _ I h) λv s1 aT=>?_);obtain⟨x,H1,I1,r1,q1⟩:=aT;obtain⟨c,rfl,q1⟩:=q1;cases r1;refine kj ?_;cases c with
 | true=>exact hb ag s1 σ H1 Q I1 q1
 | false=>exact⟨.bl false,H1,I1,rfl,q1⟩
def Ko (ha:PE X a ta):PE X (.UnaryOp .Not a pos) (Nv ta):=by
 intro ag s σ H Q I h;refine UnaryOp_ (cq (ha ag s σ H _ I h) λv s1 aT=>?_);obtain⟨x,H1,I1,r1,q1⟩:=aT;obtain⟨c,rfl,q1⟩:=q1;cases r1;exact not_of (kj ⟨.bl (!c),H1,I1,rfl,q1⟩)
def Zg (t:TT)(ta tb:TE):TE:=λσ H Q=>t σ H λc H1=>if c=true then ta σ H1 Q else tb σ H1 Q
def wu {c:Expr}(hc:PT X c tA)(ha:PE X a ta)(hb:PE X b tb):PE X (.IfExp c a b pos) (Zg tA ta tb):=by
 intro ag s σ H Q I h;refine wpAny_IfExp (cq (hc ag s σ H _ I h) λd s1 aT=>?_);obtain⟨H1,I1,q1⟩:=aT;cases d with
 | true=>exact ha ag s1 σ H1 Q I1 q1
 | false=>exact hb ag s1 σ H1 Q I1 q1
end
def aG (K:aV)(H:Hp)(a:Addr)(xs:List V):Prop :=
 Rd H a (.lst xs) \/
  ∃(o:Obj)(aO:Array Value) (n:Nat),K.lookup a=some o/\o.cls=.type "list" /\ o.dict=none/\o.data=.seq aO n/\aO.size<=sizeLine/\aS xs aO.toList
def a9 (K:aV)(H:Hp)(a:Addr)(xs:List V):Prop :=
 Rd H a (.tup xs) \/
  ∃(o:Obj)(aO:Array Value) (n:Nat),K.lookup a=some o/\o.cls=.type "tuple" /\ o.data=.seq aO n/\aO.size<=sizeLine/\aS xs aO.toList
def V4:Value->Option V
 | .none=>some .dI
 | .bool b=>some (.bl b)
 | .int i _=>some (.int i)
 | .str x _=>some (.str x)
 | .bytes b _=>some (.zP b)
 | .float b _=>some (.LF b)
 | .ref a=>some (.ref a)
 | .type n=>some (.ty n)
 | _=>none
def RelV.abs {x:V}{u:Value}(r:RelV x u):V4 u=some x:=by
 cases x with
 | dI=>cases r;rfl
 | bl _=>cases r;rfl
 | int _=>obtain⟨t,rfl⟩:=r;rfl
 | str _=>obtain⟨t,rfl⟩:=r;rfl
 | zP _=>obtain⟨t,rfl⟩:=r;rfl
 | LF _=>obtain⟨t,rfl⟩:=r;rfl
 | ref _=>cases r;rfl
 | ty _=>cases r;rfl
def RelV.inj {x y:V}{u:Value}(r:RelV x u)(q:RelV y u):x=y:=gM (r.abs.symm.trans q.abs)
theorem aS.inj:∀{xs ys:List V}{us:List Value},aS xs us->aS ys us->xs=ys
 | _,_,_,.nil,.nil=>rfl
 | _,_,_,.cons r t,.cons r' t'=>by rw [r.inj r',aS.inj t t']
section
variable {X:Cx}{ag:List (Addr×Obj)}{σ:St}{H:Hp}{s:Shared}{a:Addr}{xs ys:List V}
def aG.of {K:aV}(h:H a=some (.lst xs)):aG K H a xs:=.inl (.inl h)
def a9.of {K:aV}(h:H a=some (.tup xs)):a9 K H a xs:=.inl (.inl h)
def Inv.list (I:Inv X ag σ H s)(h:aG X.K H a xs):∃aO:List Value,aS xs aO/\PlainL s.heap a aO.toArray/\xs.length<=sizeLine:=by
 rcases h with h | ⟨o,aO,n,hk,hc,hd,hs,hz,r⟩
 .obtain⟨z,aO,n,r,e⟩:=h.ok I.bH;exact⟨aO,r,⟨_,n,e,rfl,rfl,rfl⟩,z⟩
 refine⟨aO.toList,r,⟨o,n,I.jj a o hk,hc,hd,by simpa using hs⟩,?_⟩;have e:=r.length;simp only [uj] at e;omega
def Inv.tuple (I:Inv X ag σ H s)(h:a9 X.K H a xs):∃aO:List Value,aS xs aO/\IsTup s.heap a aO.toArray/\xs.length<=sizeLine:=by
 rcases h with h | ⟨o,aO,n,hk,hc,hs,hz,r⟩
 .obtain⟨z,aO,r,p⟩:=h.ok I.bH;exact⟨aO,r,p,z⟩
 refine⟨aO.toList,r,⟨o,I.jj a o hk,hc,n,by simpa using hs⟩,?_⟩;have e:=r.length;simp only [uj] at e;omega
def Inv.qI (I:Inv X ag σ H s)(h:aG X.K H a xs)(h':aG X.K H a ys):xs=ys:=by
 obtain⟨aO,r,⟨o,n,e,_,_,d⟩,_⟩:=I.list h;obtain⟨lh,r',⟨o',n',e',_,_,d'⟩,_⟩:=I.list h';rw [e] at e';cases e';rw [d] at d';injection d' with d1 _;have:aO=lh:=by simpa using congrArg Array.toList d1
 subst this;exact r.inj r'
def Inv.su (I:Inv X ag σ H s)(h:a9 X.K H a xs)(h':a9 X.K H a ys):xs=ys:=by
 obtain⟨aO,r,⟨o,e,_,n,d⟩,_⟩:=I.tuple h;obtain⟨lh,r',⟨o',e',_,n',d'⟩,_⟩:=I.tuple h';rw [e] at e';cases e';rw [d] at d';injection d' with d1 _;have:aO=lh:=by simpa using congrArg Array.toList d1
 subst this;exact r.inj r'
end
abbrev Cx.oX (X:Cx)(E:Value->Shared->Prop):Cx:={ X with xe:=E }
abbrev Cx.BR (X:Cx):Cx:=X.oX λ_ _=>False
theorem Cx.Ok.oX {X:Cx}(ok:X.Ok)(E:Value->Shared->Prop):(X.oX E).Ok :=
 ⟨ok.mod,ok.kind,ok.glob,ok.blt,ok.above,ok.inj,ok.has,ok.Na,ok.hd,ok.frames,ok.Ii,ok.LG,ok.bs,ok.Fd,ok.BU,ok.zE,ok.mZ,ok.HA⟩
def Cx.Ok.il {X:Cx}{E:Value->Shared->Prop}(ok:(X.oX E).Ok):X.Ok :=
 ⟨ok.mod,ok.kind,ok.glob,ok.blt,ok.above,ok.inj,ok.has,ok.Na,ok.hd,ok.frames,ok.Ii,ok.LG,ok.bs,ok.Fd,ok.BU,ok.zE,ok.mZ,ok.HA⟩
section
variable {X:Cx}{ag:List (Addr×Obj)}{σ:St}{H:Hp}{s:Shared}{E:Value->Shared->Prop}
theorem Inv.oX (I:Inv X ag σ H s)(E:Value->Shared->Prop):Inv (X.oX E) ag σ H s:=⟨I.ok.oX E,I.os,I.bare,I.base,I.loc,I.cell,I.free,I.iQ,I.pin,I.bH,I.len⟩
theorem Inv.il (I:Inv (X.oX E) ag σ H s):Inv X ag σ H s:=⟨I.ok.il,I.os,I.bare,I.base,I.loc,I.cell,I.free,I.iQ,I.pin,I.bH,I.len⟩
theorem SP.il {D:Ends}{f:Flow}{s':Shared}(h:SP (X.oX E) ag D f s'):SP X ag D f s':=by
 cases f with
 | next=>obtain⟨σ',H',I,q⟩:=h;exact⟨σ',H',I.il,q⟩
 | brk=>obtain⟨σ',H',I,q⟩:=h;exact⟨σ',H',I.il,q⟩
 | cont=>obtain⟨σ',H',I,q⟩:=h;exact⟨σ',H',I.il,q⟩
 | ret u=>obtain⟨v,σ',H',I,r,q⟩:=h;exact⟨v,σ',H',I.il,r,q⟩
theorem PE.BR {e:Expr}{t:TE}(h:PE X.BR e t):PE X e t:=λag s σ H Q I hw =>
 cv (h ag s σ H Q (I.oX _) hw) (λ_ _ ⟨v,H',I',r,q⟩=>⟨v,H',I'.il,r,q⟩) λ_ _ z=>False.elim z
theorem PT.BR {e:Expr}{t:TT}(h:PT X.BR e t):PT X e t:=λag s σ H Q I hw =>
 cv (h ag s σ H Q (I.oX _) hw) (λ_ _ ⟨H',I',q⟩=>⟨H',I'.il,q⟩) λ_ _ z=>False.elim z
theorem vO.BR {st:List Stmt}{t:TS}(h:vO X.BR st t):vO X st t:=λag s σ H D I hw =>
 cv (h ag s σ H D (I.oX _) hw) (λ_ _ q=>q.il) λ_ _ z=>False.elim z
end
section
variable {X:Cx}{st:Stmt}{rest:List Stmt}{t u:TS}{e:Expr}{te:TE}{pos:Pos}
def Nw:TS:=λD σ H=>D.nx σ H
def JE (t u:TS):TS:=λD σ H=>t { D with nx:=u D } σ H
def bw:vO X [] Nw:=λ_ _ σ H _ I h=>nJ ⟨σ,H,I,h⟩
def aj (h1:PS X st t)(h2:vO X rest u):vO X (st::rest) (JE t u):=by
 intro ag s σ H D I h;refine wpAny_execs_cons (cq (h1 ag s σ H { D with nx:=u D } I h) λf s1 q=>?_);cases f with
 | next =>
  obtain⟨σ',H',I',q⟩:=q;exact h2 ag s1 σ' H' D I' q
 | ret v=>exact q
 | brk=>exact q
 | cont=>exact q
def ao (h1:PS X st t):vO X [st] t:=by
 intro ag s σ H D I h;refine wpAny_execs_cons (cq (h1 ag s σ H D I h) λf s1 q=>?_);cases f with
 | next=>exact nJ q
 | ret v=>exact q
 | brk=>exact q
 | cont=>exact q
def JJ:TS:=λD σ H=>D.bk σ H
def DF:PS X (.Break pos) JJ:=λ_ _ σ H _ I h=>wpAny_Break ⟨σ,H,I,h⟩
def Inv.quiet {ag:List (Addr×Obj)}{σ:St}{H:Hp}{s:Shared}(I:Inv X ag σ H s):interactive X.env=false:=by simp [interactive,I.ok.kind]
def NF (te:TE):TS:=λD σ H=>te σ H λ_ H1=>D.nx σ H1
def cP (he:PE X e te)(hs:swapsWith e none pos.line X.env=pure false:=by rfl):PS X (.Expr e pos) (NF te):=by
 intro ag s σ H D I h;refine wpAny_Expr_any (cq (he ag s σ H _ I h) λv s1 aT=>?_) I.quiet hs;obtain⟨x,H1,I1,r1,q1⟩:=aT;exact⟨σ,H1,I1,q1⟩
def RW (te:TE):TS:=λD σ H=>te σ H D.rt
def bu (he:PE X e te):PS X (.Return (some e) pos) (RW te):=by
 intro ag s σ H D I h;refine wpAny_Return_some (cq (he ag s σ H _ I h) λv s1 aT=>?_);obtain⟨x,H1,I1,r1,q1⟩:=aT;exact⟨x,σ,H1,I1,r1,q1⟩
def R0 (c:TT)(t u:TS):TS:=λD σ H=>c σ H λb H1=>if b=true then t D σ H1 else u D σ H1
def cN {c:Expr}{a b:List Stmt}{tc:TT}(hc:PT X c tc)(ha:vO X a t)(hb:vO X b u):PS X (.If c a b pos) (R0 tc t u):=by
 intro ag s σ H D I h;refine wpAny_If (cq (hc ag s σ H _ I h) λd s1 aT=>?_);obtain⟨H1,I1,q1⟩:=aT;cases d with
 | true=>exact ha ag s1 σ H1 D I1 q1
 | false=>exact hb ag s1 σ H1 D I1 q1
def JF:TS:=λ_ _ _=>False
def qx:PS X st JF:=λ_ _ _ _ _ _ h=>h.elim
end
abbrev TG:=V->St->Hp->(St->Hp->Prop)->Prop
abbrev Jj:=List V->St->Hp->(St->Hp->Prop)->Prop
def PG (X:Cx)(target:Expr)(t:TG):Prop :=
 ∀(ag:List (Addr×Obj))(s:Shared)(σ:St)(H:Hp)(v:V)(u:Value)(Q:St->Hp->Prop),Inv X ag σ H s->RelV v u->t v σ H Q ->
  wpAny (model X.prog X.w) X.A (assign target X.env u) (λ_ s'=>∃σ' H',Inv X ag σ' H' s'/\Q σ' H') X.xe s
def Qh (X:Cx)(ts:List Expr)(t:Jj):Prop :=
 ∀(ag:List (Addr×Obj))(s:Shared)(σ:St)(H:Hp)(vs:List V)(us:List Value)(Q:St->Hp->Prop),Inv X ag σ H s->aS vs us->t vs σ H Q ->
  wpAny (model X.prog X.w) X.A (assignInOrder ((assignEach ts X.env).map (·.2)) us) (λ_ s'=>∃σ' H',Inv X ag σ' H' s'/\Q σ' H') X.xe s
abbrev Ma:=V->V->V->Hp->(Hp->Prop)->Prop
def Qg (X:Cx)(t:Ma):Prop :=
 ∀(ag:List (Addr×Obj))(s:Shared)(σ:St)(H:Hp)(o i v:V)(ov iv u:Value)(Q:Hp->Prop),Inv X ag σ H s->RelV o ov->RelV i iv->RelV v u->t o i v H Q ->
  wpAny (model X.prog X.w) X.A (setItem ov iv u) (λ_ s'=>∃H',Inv X ag σ H' s'/\Q H') X.xe s
abbrev Ry:=V->V->Hp->VK->Prop
def YT (X:Cx)(op:Operator)(t:Ry):Prop :=
 ∀(ag:List (Addr×Obj))(s:Shared)(σ:St)(H:Hp)(x y:V)(v u:Value)(Q:VK),Inv X ag σ H s->RelV x v->RelV y u->t x y H Q ->
  wpAny (model X.prog X.w) X.A (inplaceOp op v u) (EP X ag σ Q) X.xe s
section
variable {X:Cx}{pos:Pos}
def du (i:Nat):TG:=λv σ H Q=>Q (σ.set i (some v)) H
def aw {i:Nat}{x:Str}(hN:X.N.Nodup)(hi:X.N[i]?=some x)(hx:Loc X.env.scope x)(hf:X.fn x=true\/X.env.scope.names.lookup x=some .local:=by first | exact .inl rfl | exact .inr rfl | assumption):PG X (.Name x pos) (du i):=by
 intro ag s σ H v u Q I r h;exact wpAny_assign_Name (iG I hN hi hx r (λs' I'=>⟨_,H,I',h⟩) hf)
def ET:Jj:=λvs σ H Q=>vs=[]/\Q σ H
def jO (t:TG)(u:Jj):Jj:=λvs σ H Q=>Jh vs λv r=>t v σ H λσ' H'=>u r σ' H' Q
def cu:Qh X [] ET:=by
 intro ag s σ H vs us Q I r h;obtain⟨e,h⟩:=h;subst e;cases r;exact assignInOrder_nil ⟨σ,H,I,h⟩
def aE {e:Expr}{es:List Expr}{t:TG}{u:Jj}(h1:PG X e t)(h2:Qh X es u)
  (hs:(assignEach (e::es) X.env).map (·.2)=assign e X.env::(assignEach es X.env).map (·.2):=by rfl):Qh X (e::es) (jO t u):=by
 intro ag s σ H vs us Q I r h;obtain⟨v,vr,e1,h⟩:=h;subst e1;cases r with
 | cons r rr =>
  rw [hs];refine assignInOrder_cons (cq (h1 ag s σ H _ _ _ I r h) λ_ s1 aT=>?_);obtain⟨σ1,H1,I1,q1⟩:=aT;exact h2 ag s1 σ1 H1 _ _ Q I1 rr q1
def Cj (K:aV) (n:Nat)(t:Jj):TG:=λv σ H Q=>P_ v (a9 K H) n λxs=>t xs σ H Q
def eZ {es:List Expr}{k:Nat}{t:Jj}{n:Nat}(hc:X.calm=true)(h:Qh X es t)
  (hn:(assignEach es X.env).length=n:=by rfl)(jn:(assignEach es X.env).findIdx? (·.1)=none:=by rfl):PG X (.Tuple es k pos) (Cj X.K n t):=by
 intro ag s σ H v u Q I r hw;obtain⟨a,xs,e1,hq,hl,hw⟩:=hw;subst e1;cases r;obtain⟨aO,rv,ht,hz⟩:=I.tuple hq;refine assign_Tuple_tuple (I.ok.hd hc) ht (by simp [hn,<-hl,rv.length]) jn λh' hx=>?_;have I1:Inv X ag σ H { s with heap:=h' }:=I.kept (t':=s.toks) λb o e=>hx b o (bB (aW e)) e;exact h ag _ σ H xs _ Q I1 (by simpa using rv) hw
def U0 (to ti:TE)(t:Ma):TG:=λv σ H Q=>to σ H λo H1=>ti σ H1 λi H2=>t o i v H2 λH3=>Q σ H3
def Km {o i:Expr}{to ti:TE}{t:Ma}(ho:PE X o to)(hi:PE X i ti)(hs:Qg X t)
  (ha:∀v,assign (.Subscript o i pos) X.env v=(do
   let ov <-holding [v] (eval o X.env)
   let iv <-holding [v,ov] (eval i X.env)
   standAt pos
   holding [v,ov,iv] (setItem ov iv v)
   release [v,ov,iv] []):=by intro _;rfl):PG X (.Subscript o i pos) (U0 to ti t):=by
 intro ag s σ H v u Q I r h;rw [ha];refine ax (fK (cq (ho ag s σ H _ I h) λov s1 aT=>?_));obtain⟨x,H1,I1,r1,q1⟩:=aT;refine ax (fK (cq (hi ag s1 σ H1 _ I1 q1) λiv s2 aT=>?_));obtain⟨y,H2,I2,r2,q2⟩:=aT;refine ax (wpAny_standAt (ax (fK (cq (hs ag s2 σ H2 x y v ov iv u _ I2 r1 r2 r q2) λ_ s3 aT=>?_))));obtain⟨H3,I3,q3⟩:=aT;exact wpAny_release ⟨σ,H3,I3,q3⟩
def JK (te:TE)(g:TG):TS:=λD σ H=>te σ H λx H1=>g x σ H1 D.nx
def yM {tg e:Expr}{te:TE}{g:TG}(he:PE X e te)(hg:PG X tg g)(hs:swapsWithSole [tg] e pos.line X.env=pure false:=by rfl)(hw:swappedStores [tg] e X.env=pure none:=by rfl)
  (h1:(assignEach [tg] X.env).map (·.2)=[assign tg X.env]:=by rfl):PS X (.Assign [tg] e pos) (JK te g):=by
 intro ag s σ H D I h;refine wpAny_Assign_stores (cq (he ag s σ H _ I h) λv s1 aT=>?_) hs hw;obtain⟨x,H1,I1,r1,q1⟩:=aT;rw [h1];exact cq (hg ag s1 σ H1 x v _ I1 r1 q1) λ_ s2 q=>q
def aF {i:Nat}{x:Str}{e:Expr}{te:TE}{pos':Pos}(hN:X.N.Nodup)(hi:X.N[i]?=some x)(hx:Loc X.env.scope x)(he:PE X e te)(hs:swapsWith e (some (.Name x pos')) pos.line X.env=pure false:=by rfl)(hf:X.fn x=true\/X.env.scope.names.lookup x=some .local:=by first | exact .inl rfl | exact .inr rfl | assumption) :
  PS X (.Assign [.Name x pos'] e pos) (JK te (du i)):=by
 intro ag s σ H D I h;refine wpAny_Assign_Name (cq (he ag s σ H _ I h) λv s1 aT=>?_) hs;obtain⟨y,H1,I1,r1,q1⟩:=aT;exact iG I1 hN hi hx r1 (λs2 I2=>⟨_,H1,I2,q1⟩) hf
def R5 (i:Nat)(te:TE)(ti:Ry):TS:=λD σ H=>∃x,σ[i]?=some (some x)/\te σ H λy H1=>ti x y H1 λz H2=>D.nx (σ.set i (some z)) H2
def Kk {i:Nat}{x:Str}{e:Expr}{te:TE}{op:Operator}{ti:Ry}{pos':Pos}(hN:X.N.Nodup)(hi:X.N[i]?=some x)(hx:Loc X.env.scope x)(he:PE X e te)(ho:YT X op ti)(hf:X.fn x=true\/X.env.scope.names.lookup x=some .local:=by first | exact .inl rfl | exact .inr rfl | assumption) :
  PS X (.AugAssign (.Name x pos') op e pos) (R5 i te ti):=by
 intro ag s σ H D I h;obtain⟨v,e1,h⟩:=h;obtain⟨m,hn,hl⟩:=I.loc;have Y6:Rx X.env.scope x:=by rcases hx with k | k;exact .inl k;exact .inr (.inl k)
 obtain⟨u,r,l⟩:=hl i x v hi e1 Y6;refine wpAny_AugAssign_Name ?_;have go:wpAny (model X.prog X.w) X.A (eval e X.env) (λw s₂=>wpAny (model X.prog X.w) X.A (inplaceOp op u w) (λr s₃=>wpAny (model X.prog X.w) X.A (storeName X.env x r) (λ_=>SP X ag D .next) X.xe s₃) X.xe s₂) X.xe s:=by
  refine cq (he ag s σ H _ I h) λw s1 aT=>?_;obtain⟨y,H1,I1,r1,q1⟩:=aT;refine cq (ho ag s1 σ H1 v y u w _ I1 r r1 q1) λz s2 aT=>?_;obtain⟨zv,H2,I2,r2,q2⟩:=aT;exact iG I2 hN hi hx r2 (λs3 I3=>⟨_,H2,I3,q2⟩) hf
 rcases l with ⟨hk,hm⟩ | ⟨hk,c,hc,iO⟩
 .exact ui I.ok.kind hk hn hm go
 rcases hk with hk | hk
 .exact wpAny_loadName_cell I.ok.kind hk hc iO go
 rcases hx with k | k
 .have:X.env.scope.names.lookup x=some .free:=hk;rw [k] at this;cases this
 have:X.env.scope.names.lookup x=some .free:=hk;rw [k] at this;cases this
def ipI (f:Int->Int->Int):Ry:=λx y H Q=>∃i j,x=.int i/\y=.int j/\Q (.int (f i j)) H
def KY:YT X .Add (ipI λi j=>i+j):=by
 intro ag s σ H x y v u Q I r1 r2 h;obtain⟨i,j,e1,e2,q⟩:=h;subst e1;subst e2;obtain⟨t,rfl⟩:=r1;obtain⟨t',rfl⟩:=r2;exact iadd_int ⟨.int _,H,I.tok _,⟨_,rfl⟩,q⟩
end
section
variable {X:Cx}{pos:Pos}
def JB (c:TT)(tb:TS):TS:=λD σ H=>∃W:Nat->St->Hp->Prop,(∃m,W m σ H)/\∀m σ H,W m σ H ->
 c σ H λb H1=>if b=true then ∃N:St->Hp->Prop,(∀σ' H',N σ' H'->∃m',m' < m/\W m' σ' H')/\tb { D with nx:=N,ct:=N,bk:=D.nx } σ H1 else D.nx σ H1
def jJ {c:Expr}{body:List Stmt}{tc:TT}{tb:TS}(hp:PassesOwn (model X.prog X.w) X.A X.env X.xe)(hc:PT X c tc)(hb:vO X body tb):PS X (.While c body [] pos) (JB tc tb):=by
 intro ag s σ H D I h;obtain⟨W,⟨m0,w0⟩,turn⟩:=h;refine wpAny_While (codeAny_whileLoop (λn s'=>∃σ' H',Inv X ag σ' H' s'/\W n σ' H') ?_ m0 ⟨σ,H,I,w0⟩);rintro n s1 ⟨σ1,H1,I1,w1⟩;refine kP hp (cq (hc ag s1 σ1 H1 _ I1 (turn n σ1 H1 w1)) λb s2 aT=>?_);obtain⟨H2,I2,q2⟩:=aT;cases b with
 | true =>
  obtain⟨N,hN,q2⟩:=q2;rw [az rfl];refine kP hp (cq (hb ag s2 σ1 H2 _ I2 q2) λf s3 q3=>?_);cases f with
  | next =>
   obtain⟨σ3,H3,I3,n3⟩:=q3;obtain⟨m',hm,w3⟩:=hN σ3 H3 n3;exact⟨m',hm,σ3,H3,I3,w3⟩
  | cont =>
   obtain⟨σ3,H3,I3,n3⟩:=q3;obtain⟨m',hm,w3⟩:=hN σ3 H3 n3;exact⟨m',hm,σ3,H3,I3,w3⟩
  | brk=>exact q3
  | ret v=>exact q3
 | false =>
  rw [aA cW];exact nJ ⟨σ1,H2,I2,q2⟩
end
structure It where
 go:Nat->Hp->Prop
 kR:Nat->Hp->V->Hp->Prop
 stop:Nat->Hp->Prop
def vJ (X:Cx)(ag:List (Addr×Obj))(H:Hp)(b:Addr):Prop :=
 H b=none/\b≠X.env.locals/\b∉X.fs/\(b∈X.ex\/X.s₀.heap.objs.size<=b)/\(∀x c,X.env.cells.lookup x=some c->c≠b)/\∀p∈X.pn++ag,p.1≠b
def Inv.vv {X:Cx}{ag:List (Addr×Obj)}{σ:St}{H H':Hp}{s:Shared}{b:Addr}(I:Inv X ag σ H s)(hb:s.heap.objs.size<=b)(hn:H' b=none):vJ X ag H' b:=by
 refine⟨hn,jq (dQ I.lt hb),I.SJ hb,.inr (cC I.sz hb),λx c e z=>?_,λp hp z=>?_⟩
 .obtain⟨v,q⟩:=I.cell x c e;exact absurd (dQ q.lt (by rw [z];exact hb)) (iA _)
 exact absurd (dQ (aW (I.pin p hp).1) (by rw [z];exact hb)) (iA _)
structure Turn (P:Program)(w:World)(K:aV)(tg:Expr)(J:It)(fp:List Addr)(it:Addr)(tn:Nat->Heap->Prop):Prop where
 mem:it∈fp
 obj:∀i h,tn i h->∀b∈fp,∃o,h.get? b=some o/\∀v,o.data≠.cell v
 keep:∀i h h',tn i h->(∀b∈fp,∀o,h.get? b=some o->h'.get? b=some o)->tn i h'
 item:∀(X:Cx),X.prog=P->X.w=w->X.K=K->X.calm=true->∀(i:Nat)(ag:List (Addr×Obj))(s:Shared)(σ:St)(H:Hp)(E:Value->Shared->Prop),Inv X ag σ H s->(∀b∈fp,vJ X ag H b)->tn i s.heap->J.go i H ->
  wpAny (model P w) X.A (pyNext (.ref it)) (λr s1=>∃u,r=some u /\
   wpAny (model P w) X.A (letOwnedTupleGo tg (.ref it) u) (λ_ s2=>∃x H',Inv X ag σ H' s2/\RelV x u/\J.kR i H x H'/\tn (i+1) s2.heap/\∀b∈fp,H' b=none) E s1) E s
 done:∀(X:Cx),X.prog=P->X.w=w->X.K=K->X.calm=true->∀(i:Nat)(ag:List (Addr×Obj))(s:Shared)(σ:St)(H:Hp)(E:Value->Shared->Prop),Inv X ag σ H s->(∀b∈fp,vJ X ag H b)->tn i s.heap->J.stop i H ->
  wpAny (model P w) X.A (pyNext (.ref it)) (λr s1=>r=none/\Inv X ag σ H s1) E s
 self:∀(A:Around) (i:Nat)(s:Shared)(Q:Value->Shared->Prop)(E:Value->Shared->Prop),tn i s.heap->Q (.ref it) s->wpAny (model P w) A (pyIter (.ref it)) Q E s
abbrev TI:=St->Hp->(It->Hp->Prop)->Prop
def YU (X:Cx)(ag:List (Addr×Obj))(σ:St)(tg:Expr)(R:It->Hp->Prop)(QS:Value)(s2:Shared):Prop :=
 ∃(it:Addr)(fp:List Addr)(tn:Nat->Heap->Prop)(J:It)(H':Hp),QS=.ref it/\Inv X ag σ H' s2/\Turn X.prog X.w X.K tg J fp it tn/\tn 0 s2.heap/\(∀b∈fp,vJ X ag H' b)/\R J H'
def PI (X:Cx)(tg iter:Expr)(wi:TI):Prop :=
 ∀(ag:List (Addr×Obj))(s:Shared)(σ:St)(H:Hp)(R:It->Hp->Prop),Inv X ag σ H s->wi σ H R ->
  wpAny (model X.prog X.w) X.A (eval iter X.env) (λv s1=>wpAny (model X.prog X.w) X.A (pyIter v) (YU X ag σ tg R) X.xe s1) X.xe s
def AS {M:Model}{A:Around}{E:Value->Shared->Prop}{s:Shared}{tg:Expr}{it:Addr}{u:Value}{o:Obj}{n:String}{vs:Array Value}{Q:Unit->Shared->Prop}(ho:s.heap.get? it=some o)(hc:o.cls=.type n)(hd:o.data=.fields vs)
  (hn:["enumerate","zip","dict_itemiterator","dict_reverseitemiterator","odict_iterator","itertools.zip_longest","itertools.pairwise"].contains n=false)(hQ:Q () s):wpAny M A (letOwnedTupleGo tg (.ref it) u) Q E s:=by
 unfold letOwnedTupleGo;cases tg <;> first
  | exact aD hQ
  | (cases u <;> first
    | exact aD hQ
    | (refine ax (wpAny_load ho ?_)
       rw [hc,hd];show wpAny M A (if (["enumerate","zip","dict_itemiterator","dict_reverseitemiterator","odict_iterator","itertools.zip_longest","itertools.pairwise"].contains n && vs[0]? == some (rawInt _))=true then _ else _) Q E s;rw [aA (by intro h;rw [hn,Bool.false_and] at h;cases h)];exact aD hQ))
def iS (K:aV)(a:Addr):It :=
 ⟨λi H=>∃xs x,aG K H a xs/\xs[i]?=some x,λi H x H'=>H'=H/\∀xs,aG K H a xs->xs[i]?=some x,λi H=>∃xs,aG K H a xs/\xs.length<=i⟩
def oW (K:aV)(a:Addr):It :=
 ⟨λi H=>∃xs x,a9 K H a xs/\xs[i]?=some x,λi H x H'=>H'=H/\∀xs,a9 K H a xs->xs[i]?=some x,λi H=>∃xs,a9 K H a xs/\xs.length<=i⟩
def HZ (lo:Int) (n:Nat):It:=⟨λi _=>i < n,λi H x H'=>H'=H/\x=.int (lo+i),λi _=>n<=i⟩
def Bk {P:Program}{w:World}{K:aV}{tg:Expr}(a it:Addr):Turn P w K tg (iS K a) [it] it (λi h=>h.IsListIter it a i) where
 mem:=by simp
 obj:=λi h st b hb=>by
  have e:b=it:=by simpa using hb
  subst e;obtain⟨o,e,c,d⟩:=st;exact⟨o,e,λv z=>by rw [d] at z;cases z⟩
 keep:=λi h h' st k=>st.at λo e=>k it (by simp) o e
 item:=by
  intro X hP hw hK hc i ag s σ H E I hf st hg;subst hP hw hK;obtain⟨xs,x,hq,hx⟩:=hg;obtain⟨aO,rv,p,hz⟩:=I.list hq;obtain⟨u,hu,ru⟩:=rv.get hx;obtain⟨f0,f1,f2,f3,f4,f5⟩:=hf it (by simp);refine wpAny_pyNext_list_item st p.isList (x:=u) (by simpa using hu) λh' rR sb=>?_;have I1:Inv X ag σ H { s with heap:=h' }:=I.turned (t':=s.toks) (λb o hb e=>(sb.2 b hb).trans e) f0 f1 f3 f4 f5;obtain⟨o,e,c,d⟩:=id rR;exact⟨u,rfl,AS (s:={ s with heap:=h' }) e c d nofun ⟨x,H,I1,ru,⟨rfl,λys hy=>by rw [I.qI hy hq];exact hx⟩,rR,λb hb=>(hf b hb).1⟩⟩
 done:=by
  intro X hP hw hK hc i ag s σ H E I hf st hg;subst hP hw hK;obtain⟨xs,hq,hx⟩:=hg;obtain⟨aO,rv,p,hz⟩:=I.list hq;obtain⟨f0,f1,f2,f3,f4,f5⟩:=hf it (by simp);have hl:=rv.length;exact uq (I.ok.hd hc) st p.isList (by simp;omega) λh' eb=>⟨rfl,I.turned (t':=s.toks) (λb o hb e=>eb b o hb e) f0 f1 f3 f4 f5⟩
 self:=λ_ _ _ _ _ st h=>wpAny_pyIter_listiter st h
def yf {P:Program}{w:World}{K:aV}{tg:Expr}(a it:Addr):Turn P w K tg (oW K a) [it] it (λi h=>h.IsTupleIter it a i) where
 mem:=by simp
 obj:=λi h st b hb=>by
  have e:b=it:=by simpa using hb
  subst e;obtain⟨o,e,c,d⟩:=st;exact⟨o,e,λv z=>by rw [d] at z;cases z⟩
 keep:=λi h h' st k=>st.at λo e=>k it (by simp) o e
 item:=by
  intro X hP hw hK hc i ag s σ H E I hf st hg;subst hP hw hK;obtain⟨xs,x,hq,hx⟩:=hg;obtain⟨aO,rv,p,hz⟩:=I.tuple hq;obtain⟨u,hu,ru⟩:=rv.get hx;obtain⟨f0,f1,f2,f3,f4,f5⟩:=hf it (by simp);refine wpAny_pyNext_tuple_item st (show s.heap.IsTuple a aO.toArray from p) (x:=u) (by simpa using hu) λh' rR sb=>?_;have I1:Inv X ag σ H { s with heap:=h' }:=I.turned (t':=s.toks) (λb o hb e=>(sb.2 b hb).trans e) f0 f1 f3 f4 f5;obtain⟨o,e,c,d⟩:=id rR;exact⟨u,rfl,AS (s:={ s with heap:=h' }) e c d nofun ⟨x,H,I1,ru,⟨rfl,λys hy=>by rw [I.su hy hq];exact hx⟩,rR,λb hb=>(hf b hb).1⟩⟩
 done:=by
  intro X hP hw hK hc i ag s σ H E I hf st hg;subst hP hw hK;obtain⟨xs,hq,hx⟩:=hg;obtain⟨aO,rv,p,hz⟩:=I.tuple hq;obtain⟨f0,f1,f2,f3,f4,f5⟩:=hf it (by simp);have hl:=rv.length;exact wpAny_pyNext_tuple_end (I.ok.hd hc) st (show s.heap.IsTuple a aO.toArray from p) (by simp;omega) λh' eb=>⟨rfl,I.turned (t':=s.toks) (λb o hb e=>eb b o hb e) f0 f1 f3 f4 f5⟩
 self:=λ_ _ _ _ _ st h=>wpAny_pyIter_tupleiter st h
def yg {P:Program}{w:World}{K:aV}{tg:Expr}(it:Addr) (lo:Int) (n:Nat):Turn P w K tg (HZ lo n) [it] it (λi h=>IsRangeIter h it (lo+(i:Nat) * 1) ((n:Int) - (i:Nat)) 1) where
 mem:=by simp
 obj:=λi h st b hb=>by
  have e:b=it:=by simpa using hb
  subst e;exact⟨_,st,λv z=>by
   have z':Data.fields _=Data.cell v:=z;cases z'⟩
 keep:=λi h h' st k=>k it (by simp) _ st
 item:=by
  intro X hP hw hK hc i ag s σ H E I hf st hg;subst hP hw hK;obtain⟨f0,f1,f2,f3,f4,f5⟩:=hf it (by simp);have W:=Walks.range (prog:=X.prog) (w:=X.w) (I.ok.hd hc) it lo 1 n;refine W.item i s _ _ hg st λv h' tk hv rR kk=>?_;obtain⟨t,rfl⟩:=hv;have I1:Inv X ag σ H { s with heap:=h',toks:=tk }:=I.turned (λb o hb e=>kk b o (by simpa using hb) e) f0 f1 f3 f4 f5;refine⟨_,rfl,AS (s:={ s with heap:=h',toks:=tk }) (n := "range_iterator") rR rfl rfl nofun ⟨.int (lo+i),H,I1,⟨t,?_⟩,⟨rfl,rfl⟩,rR,λb hb=>(hf b hb).1⟩⟩;rw [Int.mul_one]
 done:=by
  intro X hP hw hK hc i ag s σ H E I hf st hg;subst hP hw hK;obtain⟨f0,f1,f2,f3,f4,f5⟩:=hf it (by simp);exact wpAny_pyNext_range_end (I.ok.hd hc) st (by have:n<=i:=hg;omega) λh' eb=>⟨rfl,I.turned (t':=s.toks) (λb o hb e=>eb b o hb e) f0 f1 f3 f4 f5⟩
 self:=λ_ _ _ _ _ st h=>wpAny_pyIter_rangeiter st h
section
variable {X:Cx}{tg:Expr}
def OE (K:aV)(tl:TE):TI:=λσ H R=>tl σ H λx H1=>Rw x (λa=>∃xs,aG K H1 a xs) λa=>R (iS K a) H1
def TN (K:aV)(tl:TE):TI:=λσ H R=>tl σ H λx H1=>Rw x (λa=>∃xs,a9 K H1 a xs) λa=>R (oW K a) H1
def bx {l:Expr}{tl:TE}(hl:PE X l tl):PI X tg l (OE X.K tl):=by
 intro ag s σ H R I h;refine cq (hl ag s σ H _ I h) λv s1 aT=>?_;obtain⟨x,H1,I1,r1,q1⟩:=aT;obtain⟨a,e,⟨xs,hq⟩,q⟩:=q1;subst e;cases r1;obtain⟨aO,rv,p,hz⟩:=I1.list hq;refine kQ p.isList ?_;refine⟨s1.heap.objs.size,[s1.heap.objs.size],_,_,H1,rfl,I1.kept (t':=s1.toks) λb o e=>bD _ e,Bk a _,⟨_,cQ _ rfl,rfl,rfl⟩,λb hb=>?_,q⟩;have e:b=s1.heap.objs.size:=by simpa using hb
 subst e;exact I1.vv (aI _) (I1.bH.fresh (aI _))
def g9 {l:Expr}{tl:TE}(hl:PE X l tl):PI X tg l (TN X.K tl):=by
 intro ag s σ H R I h;refine cq (hl ag s σ H _ I h) λv s1 aT=>?_;obtain⟨x,H1,I1,r1,q1⟩:=aT;obtain⟨a,e,⟨xs,hq⟩,q⟩:=q1;subst e;cases r1;obtain⟨aO,rv,p,hz⟩:=I1.tuple hq;refine ua (show s1.heap.IsTuple a aO.toArray from p) ?_;refine⟨s1.heap.objs.size,[s1.heap.objs.size],_,_,H1,rfl,I1.kept (t':=s1.toks) λb o e=>bD _ e,yf a _,⟨_,cQ _ rfl,rfl,rfl⟩,λb hb=>?_,q⟩;have e:b=s1.heap.objs.size:=by simpa using hb
 subst e;exact I1.vv (aI _) (I1.bH.fresh (aI _))
def DA {ag:List (Addr×Obj)}{σ:St}{H:Hp}{s:Shared}{R:It->Hp->Prop}{E:Value->Shared->Prop}{lo hi:Int}{t u v:Tok}{tk:Nat}(I:Inv X ag σ H s)(h1:-(2 ^ 62)<=lo)(h2:lo < 2 ^ 62)(h3:-(2 ^ 62)<=hi)(h4:hi < 2 ^ 62)
  (q:R (HZ lo (hi - lo).toNat) H):wpAny (model X.prog X.w) X.A (pyIter (.ref s.heap.objs.size)) (YU X ag σ tg R) E { s with heap:=s.heap.push { cls:=.type "range",data:=.fields #[.int lo t,.int hi u,.int 1 v] },toks:=tk }:=by
 refine wpAny_pyIter_range (IsRange.new ..) (small_one h1 h2 h3 h4) ?_;have I1:Inv X ag σ H { s with heap:=s.heap.push { cls:=.type "range",data:=.fields #[.int lo t,.int hi u,.int 1 v] },toks:=tk }:=I.kept λb o e=>bD _ e;refine⟨(s.heap.push { cls:=.type "range",data:=.fields #[.int lo t,.int hi u,.int 1 v] }).objs.size,[(s.heap.push { cls:=.type "range",data:=.fields #[.int lo t,.int hi u,.int 1 v] }).objs.size],_,_,H,rfl,
  I1.kept (t':=tk) λb o e=>bD _ e,yg _ lo (hi - lo).toNat,?_,λb hb=>?_,q⟩
 .have e1:lo+((0:Nat):Int) * 1=lo:=by simp
  have e2:(((hi - lo).toNat:Nat):Int) - ((0:Nat):Int)=Builtin.Range.rangeSize lo hi 1:=by rw [rangeSize_one];split <;> omega
  show IsRangeIter _ _ (lo+((0:Nat):Int) * 1) ((((hi - lo).toNat:Nat):Int) - ((0:Nat):Int)) 1;rw [e1,e2];exact cQ _ rfl
 have e:b=(s.heap.push { cls:=.type "range",data:=.fields #[.int lo t,.int hi u,.int 1 v] }).objs.size:=by simpa using hb
 subst e;exact I1.vv (aI _) (I1.bH.fresh (aI _))
def OD (ta:TA):TI:=λσ H R=>ta σ H λvs H1=>YH vs λj=>R (HZ 0 j.toNat) H1
def fw {a:Expr}{ta:TA}{p pos:Pos}(hg:Gl X "range")(hm:X.mg "range"=none)(ha:PA X [a] ta)(hs:starEach [a] X.env=[(false,eval a X.env)]:=by rfl):PI X tg (.Call (.Name "range" p) [a] [] pos) (OD ta):=by
 intro ag s σ H R I h;refine Call_ (i_ I hg hm boot_range (uE (cq (ha pos ag s σ H _ I h) λus s1 aT=>?_) hs rfl));obtain⟨vs,H1,I1,r1,q1⟩:=aT;obtain⟨j,e,q1,q2,q⟩:=q1;subst e;cases r1 with
 | cons r rr =>
  cases rr;obtain⟨t,rfl⟩:=r;exact call_range_1 (DA I1 ∅ ∅ q1 q2 (by simpa using q))
def R1 (wi:TI)(g:TG)(tb:TS):TS:=λD σ H=>wi σ H λJ H1=>∃W:Nat->Nat->St->Hp->Prop,(∃m,W 0 m σ H1)/\∀i m σ H,W i m σ H ->
 (J.stop i H/\D.nx σ H)\/(J.go i H/\∃N:St->Hp->Prop,(∀σ' H',N σ' H'->∃m',m' < m/\W (i+1) m' σ' H')/\∀x H',J.kR i H x H'->g x σ H' λσ2 H2=>tb { D with nx:=N,ct:=N,bk:=D.nx } σ2 H2)
def n8 (fp:List Addr)(h:Heap):List (Addr×Obj):=fp.filterMap λb=>(h.get? b).map λo=>(b,o)
def f_ {fp:List Addr}{h:Heap}{b:Addr}{o:Obj}(hb:b∈fp)(e:h.get? b=some o):(b,o)∈n8 fp h:=uh.mpr ⟨b,hb,by rw [e];rfl⟩
def BP {fp:List Addr}{h:Heap}{p:Addr×Obj}(hp:p∈n8 fp h):p.1∈fp/\h.get? p.1=some p.2:=by
 obtain⟨b,hb,e⟩:=uh.mp hp;cases q:h.get? b with
 | none=>rw [q] at e;cases e
 | some o =>
  rw [q] at e;have e':(b,o)=p:=gM e;subst e';exact⟨hb,q⟩
def Inv.pinned {ag:List (Addr×Obj)}{σ:St}{H:Hp}{s:Shared}{fp:List Addr}(I:Inv X ag σ H s)(hf:∀b∈fp,vJ X ag H b)(ho:∀b∈fp,∃o,s.heap.get? b=some o/\∀v,o.data≠.cell v):Inv X (ag++n8 fp s.heap) σ H s :=
 I.AB λp hp=>(bq.mp hp).elim (λz=>I.pin p (fN _ z)) λz=>by
  obtain⟨hb,e⟩:=BP z;obtain⟨f0,f1,f2,_⟩:=hf p.1 hb;obtain⟨o,e',d⟩:=ho p.1 hb;rw [e] at e';cases e';exact⟨e,f0,f1,f2,d⟩
def Inv.jF {ag pl:List (Addr×Obj)}{σ:St}{H:Hp}{s:Shared}(I:Inv X (ag++pl) σ H s):Inv X ag σ H s:=I.AB λp hp=>I.pin p (fN _ (lX _ hp))
def b_ {iter:Expr}{body:List Stmt}{wi:TI}{g:TG}{tb:TS}{pos:Pos}(hp:PassesOwn (model X.prog X.w) X.A X.env X.xe)(hc:X.calm=true)(hi:PI X tg iter wi)(hg:PG X tg g)(hb:vO X body tb)
  (hs:∀x,foldedSetIterable iter X.env x=pure x:=by intro _;rfl):PS X (.For tg iter body [] pos) (R1 wi g tb):=by
 intro ag s σ H D I h;refine wpAny_For (cq (hi ag s σ H _ I h) λv s1 h1=>cq h1 λQS s2 h2=>?_) hs;obtain⟨it,fp,tn,J,H2,e,I2,T,FE,f2,W,⟨m0,w0⟩,turn⟩:=h2;subst e;have qj:∀{H':Hp},(∀b∈fp,H' b=none)->∀b∈fp,vJ X ag H' b:=λhn b hb=>⟨hn b hb,(f2 b hb).2⟩;refine codeAny_forLoop_any (λn s'=>∃i σ' H',Inv X ag σ' H' s'/\tn i s'.heap/\(∀b∈fp,H' b=none)/\W i n σ' H') ?_ m0 ⟨0,σ,H2,I2,FE,λb hb=>(f2 b hb).1,w0⟩;rintro n s3 ⟨i,σ3,H3,I3,NP,X0,w3⟩;rcases turn i n σ3 H3 w3 with ⟨stop,qn⟩ | ⟨go,N,hN,step⟩
 .refine kP hp (cq (T.done X rfl rfl rfl hc i ag s3 σ3 H3 X.xe I3 (qj X0) NP stop) λr s4 ⟨hr,I4⟩=>?_);subst hr;exact nJ ⟨σ3,H3,I4,qn⟩
 refine kP hp (cq (T.item X rfl rfl rfl hc i ag s3 σ3 H3 X.xe I3 (qj X0) NP go) λr s4 ⟨u,hr,h4⟩=>?_);subst hr;refine kP hp (cq h4 λ_ s5 aT=>?_);obtain⟨x,H5,I5,r5,y5,vX,Pq⟩:=aT;have I5':=I5.pinned (qj Pq) (T.obj _ _ vX);refine kP hp (cq (hg _ s5 σ3 H5 x u _ I5' r5 (step x H5 y5)) λ_ s6 aT=>?_);obtain⟨σ6,H6,I6,q6⟩:=aT;refine kP hp (cq (hb _ s6 σ6 H6 _ I6 q6) λf s7 q7=>?_);have again:∀{σ7:St}{H7:Hp},Inv X (ag++n8 fp s5.heap) σ7 H7 s7->N σ7 H7->∃m,m < n/\∃i σ' H',Inv X ag σ' H' s7/\tn i s7.heap/\(∀b∈fp,H' b=none)/\W i m σ' H':=λ{σ7 H7} I7 n7=>by
  obtain⟨m',hm,w7⟩:=hN σ7 H7 n7;refine⟨m',hm,i+1,σ7,H7,I7.jF,T.keep _ _ _ vX λb hb o e=>(I7.pin (b,o) (fN _ (fN _ (f_ hb e)))).1,λb hb=>?_,w7⟩;obtain⟨o,e,d⟩:=T.obj _ _ vX b hb;exact(I7.pin (b,o) (fN _ (fN _ (f_ hb e)))).2.1
 cases f with
 | next=>obtain⟨σ7,H7,I7,n7⟩:=q7;exact again I7 n7
 | cont=>obtain⟨σ7,H7,I7,n7⟩:=q7;exact again I7 n7
 | brk=>obtain⟨σ7,H7,I7,q7⟩:=q7;exact⟨σ7,H7,I7.jF,q7⟩
 | ret v=>obtain⟨x7,σ7,H7,I7,r7,q7⟩:=q7;exact⟨x7,σ7,H7,I7.jF,r7,q7⟩
end
def dX {K:aV}{a:Addr}{xs:List V}{g:TG}{tb:TS}{D:Ends}{σ:St}{H:Hp}(Pv:Nat->St->Hp->Prop)(h0:Pv 0 σ H)(hl:∀i σ H,i<=xs.length->Pv i σ H->aG K H a xs)
  (hs:∀i x σ H,xs[i]?=some x->Pv i σ H->g x σ H λσ2 H2=>tb { D with nx:=Pv (i+1),ct:=Pv (i+1),bk:=D.nx } σ2 H2)(hd:∀σ H,Pv xs.length σ H->D.nx σ H) :
  ∃W:Nat->Nat->St->Hp->Prop,(∃m,W 0 m σ H)/\∀i m σ H,W i m σ H ->
   ((iS K a).stop i H/\D.nx σ H)\/((iS K a).go i H/\∃N:St->Hp->Prop,(∀σ' H',N σ' H'->∃m',m' < m/\W (i+1) m' σ' H')/\∀x H',(iS K a).kR i H x H'->g x σ H' λσ2 H2=>tb { D with nx:=N,ct:=N,bk:=D.nx } σ2 H2):=by
 refine⟨λi m σ H=>m=xs.length - i/\i<=xs.length/\Pv i σ H,⟨xs.length,by simp,fR _,h0⟩,?_⟩;rintro i m σ H ⟨rfl,hi,p⟩;have q:=hl i σ H hi p;by_cases hV:i < xs.length
 .refine .inr ⟨⟨xs,xs[i],q,by simp [hV]⟩,Pv (i+1),λσ' H' p'=>⟨xs.length - (i+1),∅,rfl,hV,p'⟩,λx H' y=>?_⟩;obtain⟨e,y⟩:=y;subst e;exact hs i x σ _ (y xs q) p
 have e:i=xs.length:=by omega
 subst e;exact .inl ⟨⟨xs,q,aI _⟩,hd σ H p⟩
def AW {K:aV}{a:Addr}{xs:List V}{g:TG}{tb:TS}{D:Ends}{σ:St}{H:Hp}(Pv:Nat->St->Hp->Prop)(h0:Pv 0 σ H)(hl:∀i σ H,i<=xs.length->Pv i σ H->a9 K H a xs)
  (hs:∀i x σ H,xs[i]?=some x->Pv i σ H->g x σ H λσ2 H2=>tb { D with nx:=Pv (i+1),ct:=Pv (i+1),bk:=D.nx } σ2 H2)(hd:∀σ H,Pv xs.length σ H->D.nx σ H) :
  ∃W:Nat->Nat->St->Hp->Prop,(∃m,W 0 m σ H)/\∀i m σ H,W i m σ H ->
   ((oW K a).stop i H/\D.nx σ H)\/((oW K a).go i H/\∃N:St->Hp->Prop,(∀σ' H',N σ' H'->∃m',m' < m/\W (i+1) m' σ' H')/\∀x H',(oW K a).kR i H x H'->g x σ H' λσ2 H2=>tb { D with nx:=N,ct:=N,bk:=D.nx } σ2 H2):=by
 refine⟨λi m σ H=>m=xs.length - i/\i<=xs.length/\Pv i σ H,⟨xs.length,by simp,fR _,h0⟩,?_⟩;rintro i m σ H ⟨rfl,hi,p⟩;have q:=hl i σ H hi p;by_cases hV:i < xs.length
 .refine .inr ⟨⟨xs,xs[i],q,by simp [hV]⟩,Pv (i+1),λσ' H' p'=>⟨xs.length - (i+1),∅,rfl,hV,p'⟩,λx H' y=>?_⟩;obtain⟨e,y⟩:=y;subst e;exact hs i x σ _ (y xs q) p
 have e:i=xs.length:=by omega
 subst e;exact .inl ⟨⟨xs,q,aI _⟩,hd σ H p⟩
def gb {lo:Int}{n:Nat}{g:TG}{tb:TS}{D:Ends}{σ:St}{H:Hp}(Pv:Nat->St->Hp->Prop)(h0:Pv 0 σ H)
  (hs:∀i σ H,i < n->Pv i σ H->g (.int (lo+i)) σ H λσ2 H2=>tb { D with nx:=Pv (i+1),ct:=Pv (i+1),bk:=D.nx } σ2 H2)(hd:∀σ H,Pv n σ H->D.nx σ H) :
  ∃W:Nat->Nat->St->Hp->Prop,(∃m,W 0 m σ H)/\∀i m σ H,W i m σ H ->
   ((HZ lo n).stop i H/\D.nx σ H)\/((HZ lo n).go i H/\∃N:St->Hp->Prop,(∀σ' H',N σ' H'->∃m',m' < m/\W (i+1) m' σ' H')/\∀x H',(HZ lo n).kR i H x H'->g x σ H' λσ2 H2=>tb { D with nx:=N,ct:=N,bk:=D.nx } σ2 H2):=by
 refine⟨λi m σ H=>m=n - i/\i<=n/\Pv i σ H,⟨n,by simp,fR _,h0⟩,?_⟩;rintro i m σ H ⟨rfl,hi,p⟩;by_cases hV:i < n
 .refine .inr ⟨hV,Pv (i+1),λσ' H' p'=>⟨n - (i+1),∅,rfl,hV,p'⟩,λx H' y=>?_⟩;obtain⟨e,y⟩:=y;subst e y;exact hs i σ _ hV p
 have e:i=n:=by omega
 subst e;exact .inl ⟨aI _,hd σ H p⟩
abbrev R2:=V->V->Hp->VK->Prop
def j9 (X:Cx)(f:Value->Value->Sem Value)(r:R2):Prop :=
 ∀(ag:List (Addr×Obj))(s:Shared)(σ:St)(H:Hp)(x y:V)(v u:Value)(Q:VK),Inv X ag σ H s->RelV x v->RelV y u->r x y H Q ->
  wpAny (model X.prog X.w) X.A (f v u) (EP X ag σ Q) X.xe s
def Wb (X:Cx)(f:Value->Sem Value)(r:V->Hp->VK->Prop):Prop :=
 ∀(ag:List (Addr×Obj))(s:Shared)(σ:St)(H:Hp)(x:V)(v:Value)(Q:VK),Inv X ag σ H s->RelV x v->r x H Q ->
  wpAny (model X.prog X.w) X.A (f v) (EP X ag σ Q) X.xe s
def fA (X:Cx)(f:Value)(r:List V->Hp->VK->Prop):Prop :=
 ∀(ag:List (Addr×Obj))(s:Shared)(σ:St)(H:Hp)(xs:List V)(us:List Value)(Q:VK),Inv X ag σ H s->aS xs us->r xs H Q ->
  wpAny (model X.prog X.w) X.A (call f us) (EP X ag σ Q) X.xe s
def Wc (X:Cx)(r:V->Hp->(Bool->Hp->Prop)->Prop):Prop :=
 ∀(ag:List (Addr×Obj))(s:Shared)(σ:St)(H:Hp)(x:V)(v:Value)(Q:Bool->Hp->Prop),Inv X ag σ H s->RelV x v->r x H Q ->
  wpAny (model X.prog X.w) X.A (truthy v) (TP X ag σ Q) X.xe s
def Mo (r:R2)(ta tb:TE):TE:=λσ H Q=>ta σ H λx H1=>tb σ H1 λy H2=>r x y H2 Q
def Zb (r:V->Hp->VK->Prop)(ta:TE):TE:=λσ H Q=>ta σ H λx H1=>r x H1 Q
def rI (C:Int->Int->Prop)(g:Int->Int->V):R2:=λx y H Q=>YK x y C λi j=>Q (g i j) H
def Kj (g:Int->Int->V):R2:=λx y H Q=>YL x y λi j=>Q (g i j) H
def rU (g:Int->V):V->Hp->VK->Prop:=λx H Q=>V8 x λi=>Q (g i) H
section
variable {X:Cx}{a b c:Expr}{ta tb tc:TE}{pos:Pos}
def LX (ha:PE X a ta)(hb:PE X b tb){ag:List (Addr×Obj)}{s:Shared}{σ:St}{H:Hp}{R:V->V->Hp->Prop}(I:Inv X ag σ H s)
  (h:ta σ H λx H1=>tb σ H1 λy H2=>R x y H2){Q:Value->Shared->Prop}{f:Value->Value->Sem Value}
  (hf:∀v u s2 x y H2,Inv X ag σ H2 s2->RelV x v->RelV y u->R x y H2->wpAny (model X.prog X.w) X.A (f v u) Q X.xe s2) :
  wpAny (model X.prog X.w) X.A (eval a X.env) (λv s₁=>wpAny (model X.prog X.w) X.A (eval b X.env) (λu s₂=>wpAny (model X.prog X.w) X.A (f v u) Q X.xe s₂) X.xe s₁) X.xe s:=by
 refine cq (ha ag s σ H _ I h) λv s1 aT=>?_;obtain⟨x,H1,I1,r1,q1⟩:=aT;refine cq (hb ag s1 σ H1 _ I1 q1) λu s2 aT=>?_;obtain⟨y,H2,I2,r2,q2⟩:=aT;exact hf v u s2 x y H2 I2 r1 r2 q2
def aX {op:Operator}{r:R2}(ho:j9 X (binaryOp op) r)(ha:PE X a ta)(hb:PE X b tb):PE X (.BinOp a op b pos) (Mo r ta tb):=by
 intro ag s σ H Q I h;exact wpAny_BinOp (LX ha hb I h λv u s2 x y H2 I2 rx ry q=>ho ag s2 σ H2 x y v u Q I2 rx ry q)
def Iy {op:UnaryOp}{r:V->Hp->VK->Prop}(ho:Wb X (unaryOp op) r)(ha:PE X a ta):PE X (.UnaryOp op a pos) (Zb r ta):=by
 intro ag s σ H Q I h;refine UnaryOp_ (cq (ha ag s σ H _ I h) λv s1 aT=>?_);obtain⟨x,H1,I1,r1,q1⟩:=aT;exact ho ag s1 σ H1 x v Q I1 r1 q1
def Sr {f:Value->Value->Sem Value}{C:Int->Int->Prop}{g:Int->Int->Int}
  (rule:∀(i j:Int)(t u:Tok)(s:Shared)(Q:Value->Shared->Prop)(E:Value->Shared->Prop),C i j->Q (.int (g i j) s.toks) { s with toks:=s.toks+1 }->wpAny (model X.prog X.w) X.A (f (.int i t) (.int j u)) Q E s) :
  j9 X f (rI C λi j=>.int (g i j)):=by
 intro ag s σ H x y v u Q I rx ry h;obtain⟨i,j,rfl,rfl,hc,q⟩:=h;obtain⟨t,rfl⟩:=rx;obtain⟨t',rfl⟩:=ry;exact rule i j t t' s _ _ hc ⟨.int (g i j),H,I.tok _,⟨_,rfl⟩,q⟩
def N8 {f:Value->Value->Sem Value}{g:Int->Int->Int}
  (rule:∀(i j:Int)(t u:Tok)(s:Shared)(Q:Value->Shared->Prop)(E:Value->Shared->Prop),Q (.int (g i j) s.toks) { s with toks:=s.toks+1 }->wpAny (model X.prog X.w) X.A (f (.int i t) (.int j u)) Q E s) :
  j9 X f (Kj λi j=>.int (g i j)):=by
 intro ag s σ H x y v u Q I rx ry h;obtain⟨i,j,rfl,rfl,q⟩:=h;obtain⟨t,rfl⟩:=rx;obtain⟨t',rfl⟩:=ry;exact rule i j t t' s _ _ ⟨.int (g i j),H,I.tok _,⟨_,rfl⟩,q⟩
def Kt {f:Value->Value->Sem Value}{g:Int->Int->Bool}
  (rule:∀(i j:Int)(t u:Tok)(s:Shared)(Q:Value->Shared->Prop)(E:Value->Shared->Prop),Q (.bool (g i j)) s->wpAny (model X.prog X.w) X.A (f (.int i t) (.int j u)) Q E s) :
  j9 X f (Kj λi j=>.bl (g i j)):=by
 intro ag s σ H x y v u Q I rx ry h;obtain⟨i,j,rfl,rfl,q⟩:=h;obtain⟨t,rfl⟩:=rx;obtain⟨t',rfl⟩:=ry;exact rule i j t t' s _ _ ⟨.bl (g i j),H,I,rfl,q⟩
def Wl (i j:Int):Prop:=0 < j/\j < 1073741824
def Ml (i j:Int):Prop:=(-(2 ^ 64) < i/\i < 2 ^ 64)\/(-(2 ^ 64) < j/\j < 2 ^ 64)
def Ml.ok {i j:Int}(h:Ml i j):IntMulOk i j:=by
 rcases h with ⟨h1,h2⟩ | ⟨h1,h2⟩
 .exact .of_left (intBits_le_64 h1 h2)
 exact .of_right (intBits_le_64 h1 h2)
def dH:j9 X (binaryOp .Add) (Kj λi j=>.int (i+j)):=N8 λ_ _ _ _ _ _ _ q=>add_int q
def yR:j9 X (binaryOp .Sub) (Kj λi j=>.int (i - j)):=N8 λ_ _ _ _ _ _ _ q=>sub_int q
def yS:j9 X (binaryOp .Mult) (rI Ml λi j=>.int (i * j)):=Sr λ_ _ _ _ _ _ _ hc q=>mul_int q hc.ok
def gR:j9 X (binaryOp .FloorDiv) (rI Wl λi j=>.int (i / j)):=Sr λi j _ _ _ _ _ hc q=>by
 have h1:(0:Int) < j:=hc.1;have h2:j < 1073741824:=hc.2;exact floordiv_int ∅ (by rw [Int.fdiv_eq_ediv_of_nonneg i ∅];exact q) (.inl (PyProof.noPylong_small ∅))
def dG:j9 X (binaryOp .Mod) (rI (λ_ j=>0 < j) λi j=>.int (i % j)):=Sr λi j _ _ _ _ _ hc q=>by
 have h1:(0:Int) < j:=hc;exact mod_int' ∅ (by rw [Int.fmod_eq_emod_of_nonneg i ∅];exact q)
def Y8 {f:Value->Sem Value}{g:Int->Int}
  (rule:∀(i:Int)(t:Tok)(s:Shared)(Q:Value->Shared->Prop)(E:Value->Shared->Prop),Q (.int (g i) s.toks) { s with toks:=s.toks+1 }->wpAny (model X.prog X.w) X.A (f (.int i t)) Q E s) :
  Wb X f (rU λi=>.int (g i)):=by
 intro ag s σ H x v Q I rx h;obtain⟨i,rfl,q⟩:=h;obtain⟨t,rfl⟩:=rx;exact rule i t s _ _ ⟨.int (g i),H,I.tok _,⟨_,rfl⟩,q⟩
def C1:Wb X (unaryOp .USub) (rU λi=>.int (-i)):=Y8 λ_ _ _ _ _ q=>neg_int q
end
def NT:V->V->Bool
 | .dI,.dI=>true | .dI,.int _=>true | .int _,.dI=>true | .dI,.bl _=>true | .bl _,.dI=>true | .dI,.str _=>true | .str _,.dI=>true
 | .int _,.int _=>true | .bl _,.bl _=>true | .str _,.str _=>true | .zP _,.zP _=>true
 | .int _,.str _=>true | .str _,.int _=>true | .bl _,.str _=>true | .str _,.bl _=>true
 | _,_=>false
def Zx:R2:=λx y H Q=>NT x y=true/\Q (.bl (decide (x=y))) H
def Zw:R2:=λx y H Q=>NT x y=true/\Q (.bl (!decide (x=y))) H
def A2 {i j:Int}:decide (V.int i=V.int j)=(i == j):=by
 rw [kc];simp
def E9 {i j:Bool}:decide (V.bl i=V.bl j)=(i == j):=by
 rw [kc];simp
def A1 {i j:Str}:decide (V.str i=V.str j)=(i == j):=by
 rw [kc];simp
def A3 {i j:Array UInt8}:decide (V.zP i=V.zP j)=(i.toList == j.toList):=by
 rw [kc];cases i;cases j;simp
section
variable {X:Cx}{a b c:Expr}{ta tb tc:TE}{pos:Pos}
def b8 {ag:List (Addr×Obj)}{σ:St}{H:Hp}{s:Shared}{Q:VK}{k k':Bool}(I:Inv X ag σ H s)(q:Q (.bl k) H)(e:k=k'):EP X ag σ Q (.bool k') s:=by
 subst e;exact⟨.bl k,H,I,rfl,q⟩
def wA:j9 X (compareOp .Eq) Zx:=by
 intro ag s σ H x y v u Q I rx ry h;obtain⟨hs,q⟩:=h;cases x with
 | dI =>
  cases rx;cases y with
  | dI=>cases ry;exact PySem.EqNone.eq_none_none (b8 I q (by simp))
  | bl j=>cases ry;exact PySem.EqNone.eq_none_bool (b8 I q (by simp))
  | int j=>obtain⟨t',rfl⟩:=ry;exact PySem.EqNone.eq_none_int (b8 I q (by simp))
  | str j=>obtain⟨t',rfl⟩:=ry;exact PySem.EqNone.eq_none_str (b8 I q (by simp))
  | _=>exact absurd (show false=true from hs) cW
 | bl i =>
  cases rx;cases y with
  | dI=>cases ry;exact PySem.EqNone.eq_bool_none (b8 I q (by simp))
  | bl j=>cases ry;exact eq_bool (b8 I q E9)
  | str j=>obtain⟨t',rfl⟩:=ry;exact PySem.EqMixed.eq_bool_str (b8 I q (by simp))
  | _=>exact absurd (show false=true from hs) cW
 | int i =>
  obtain⟨t,rfl⟩:=rx;cases y with
  | dI=>cases ry;exact PySem.EqNone.eq_int_none (b8 I q (by simp))
  | int j=>obtain⟨t',rfl⟩:=ry;exact eq_int (b8 I q A2)
  | str j=>obtain⟨t',rfl⟩:=ry;exact PySem.EqMixed.eq_int_str (b8 I q (by simp))
  | _=>exact absurd (show false=true from hs) cW
 | str i =>
  obtain⟨t,rfl⟩:=rx;cases y with
  | dI=>cases ry;exact PySem.EqNone.eq_str_none (b8 I q (by simp))
  | bl j=>cases ry;exact PySem.EqMixed.eq_str_bool (b8 I q (by simp))
  | int j=>obtain⟨t',rfl⟩:=ry;exact PySem.EqMixed.eq_str_int (b8 I q (by simp))
  | str j=>obtain⟨t',rfl⟩:=ry;exact eq_str (b8 I q A1)
  | _=>exact absurd (show false=true from hs) cW
 | zP i =>
  obtain⟨t,rfl⟩:=rx;cases y with
  | zP j=>obtain⟨t',rfl⟩:=ry;exact PySem.W.eq_bytes (b8 I q A3)
  | _=>exact absurd (show false=true from hs) cW
 | _=>cases y <;> exact absurd (show false=true from hs) cW
def Iz:j9 X (compareOp .NotEq) Zw:=by
 intro ag s σ H x y v u Q I rx ry h;obtain⟨hs,q⟩:=h;cases x with
 | dI =>
  cases rx;cases y with
  | dI=>cases ry;exact PySem.EqNone.ne_none_none (b8 I q (by simp))
  | bl j=>cases ry;exact PySem.EqNone.ne_none_bool (b8 I q (by simp))
  | int j=>obtain⟨t',rfl⟩:=ry;exact PySem.EqNone.ne_none_int (b8 I q (by simp))
  | str j=>obtain⟨t',rfl⟩:=ry;exact PySem.EqNone.ne_none_str (b8 I q (by simp))
  | _=>exact absurd (show false=true from hs) cW
 | bl i =>
  cases rx;cases y with
  | dI=>cases ry;exact PySem.EqNone.ne_bool_none (b8 I q (by simp))
  | bl j=>cases ry;exact ne_bool (b8 I q (congrArg not E9))
  | str j=>obtain⟨t',rfl⟩:=ry;exact PySem.EqMixed.ne_bool_str (b8 I q (by simp))
  | _=>exact absurd (show false=true from hs) cW
 | int i =>
  obtain⟨t,rfl⟩:=rx;cases y with
  | dI=>cases ry;exact PySem.EqNone.ne_int_none (b8 I q (by simp))
  | int j=>obtain⟨t',rfl⟩:=ry;exact ne_int (b8 I q (congrArg not A2))
  | str j=>obtain⟨t',rfl⟩:=ry;exact PySem.EqMixed.ne_int_str (b8 I q (by simp))
  | _=>exact absurd (show false=true from hs) cW
 | str i =>
  obtain⟨t,rfl⟩:=rx;cases y with
  | dI=>cases ry;exact PySem.EqNone.ne_str_none (b8 I q (by simp))
  | bl j=>cases ry;exact PySem.EqMixed.ne_str_bool (b8 I q (by simp))
  | int j=>obtain⟨t',rfl⟩:=ry;exact PySem.EqMixed.ne_str_int (b8 I q (by simp))
  | str j=>obtain⟨t',rfl⟩:=ry;exact ne_str (b8 I q (congrArg not A1))
  | _=>exact absurd (show false=true from hs) cW
 | zP i =>
  obtain⟨t,rfl⟩:=rx;cases y with
  | zP j=>obtain⟨t',rfl⟩:=ry;exact PySem.W.ne_bytes (b8 I q (congrArg not A3))
  | _=>exact absurd (show false=true from hs) cW
 | _=>cases y <;> exact absurd (show false=true from hs) cW
def mI:j9 X (compareOp .Lt) (Kj λi j=>.bl (decide (i < j))):=Kt λ_ _ _ _ _ _ _ q=>lt_int q
def AI:j9 X (compareOp .LtE) (Kj λi j=>.bl (decide (i<=j))):=Kt λ_ _ _ _ _ _ _ q=>le_int q
def AJ:j9 X (compareOp .Gt) (Kj λi j=>.bl (decide (j < i))):=Kt λ_ _ _ _ _ _ _ q=>gt_int q
def Ks:j9 X (compareOp .Is) (λx y H Q=>y=.dI/\Q (.bl (decide (x=.dI))) H):=by
 intro ag s σ H x y v u Q I rx ry h;obtain⟨rfl,q⟩:=h;cases ry;refine is_none_gen (b8 I q ?_);cases x <;> first
  | (cases rx;rfl)
  | (obtain⟨t,rfl⟩:=rx;rfl)
def j9.or {f:Value->Value->Sem Value}{r r':R2}(h:j9 X f r)(h':j9 X f r'):j9 X f (λx y H Q=>r x y H Q\/r' x y H Q):=by
 intro ag s σ H x y v u Q I rx ry q;rcases q with q | q
 .exact h ag s σ H x y v u Q I rx ry q
 exact h' ag s σ H x y v u Q I rx ry q
def dq (b:Expr){op:CmpOp}(h:op≠.In:=by decide)(h2:op≠.NotIn:=by decide):behindInMarks op b=false:=by
 have e1:(op == CmpOp.In)=false:=by cases op <;> first | rfl | exact absurd rfl h
 have e2:(op == CmpOp.NotIn)=false:=by cases op <;> first | rfl | exact absurd rfl h2
 cases b <;> simp [behindInMarks,e1,e2]
def i6 {op:CmpOp}{r:R2}(ho:j9 X (compareOp op) r)(ha:PE X a ta)(hb:PE X b tb)(hm:behindInMarks op b=false):PE X (.Compare a [op] [b] pos) (Mo r ta tb):=by
 intro ag s σ H Q I h;exact wpAny_Compare1 (LX ha hb I h λv u s2 x y H2 I2 rx ry q=>ho ag s2 σ H2 x y v u Q I2 rx ry q) hm
def Ih (t:TE):TT:=λσ H Q=>t σ H λx H'=>XB x λk=>Q k H'
def cx {op:CmpOp}{r:R2}(ho:j9 X (compareOp op) r)(ha:PE X a ta)(hb:PE X b tb)(hm:behindInMarks op b=false):PT X (.Compare a [op] [b] pos) (Ih (Mo r ta tb)):=by
 intro ag s σ H Q I h;refine wpAny_isTrue_Compare1 (cq (ha ag s σ H _ I h) λv s1 ⟨x,H1,I1,r1,q1⟩=>cq (hb ag s1 σ H1 _ I1 q1) λu s2 ⟨y,H2,I2,r2,q2⟩ =>
  cq (ho ag s2 σ H2 x y v u _ I2 r1 r2 q2) λc s3 ⟨z,H3,I3,r3,k,e,q3⟩=>?_) hm
 subst e;cases r3;exact kj ⟨H3,I3,q3⟩
def JI (r r':R2)(ta tb tc:TE):TE:=λσ H Q=>ta σ H λx H1=>tb σ H1 λy H2=>r x y H2 λz H3=>∃k,z=.bl k /\
 (if k=true then tc σ H3 λw' H4=>r' y w' H4 Q else Q (.bl false) H3)
def qw {op Ss:CmpOp}{r r':R2}(ho:j9 X (compareOp op) r)(EF:j9 X (compareOp Ss) r')(ha:PE X a ta)(hb:PE X b tb)(hc:PE X c tc)
  (hm:lastMarks [op,Ss] [b,c]=false:=by with_unfolding_all rfl):PT X (.Compare a [op,Ss] [b,c] pos) (Ih (JI r r' ta tb tc)):=by
 intro ag s σ H Q I h;refine isTrue_chain (cq (ha ag s σ H _ I h) λv s1 ⟨x,H1,I1,r1,q1⟩=>test_link (cq (hb ag s1 σ H1 _ I1 q1) λu s2 ⟨y,H2,I2,r2,q2⟩ =>
  cq (ho ag s2 σ H2 x y v u _ I2 r1 r2 q2) λd s3 ⟨z,H3,I3,r3,k,e,q3⟩=>?_)) hm
 subst e;cases r3;refine kj ?_;cases k with
 | false =>
  obtain⟨k',e',q'⟩:=q3;cases e';exact ite_ff ⟨H3,I3,q'⟩
 | true =>
  refine ite_tt (test_last (cq (hc ag s3 σ H3 _ I3 q3) λw' s4 aT=>?_));obtain⟨z',H4,I4,r4,q4⟩:=aT;refine cq (EF ag s4 σ H4 y z' u w' _ I4 r2 r4 q4) λd' s5 aT=>?_;obtain⟨z2,H5,I5,r5,k2,e2,q5⟩:=aT;subst e2;cases r5;exact kj ⟨H5,I5,q5⟩
def Fu (K:aV)(x:V)(H:Hp)(k:Bool):Prop :=
 match x with
 | .dI=>k=false
 | .bl b=>k=b
 | .int i=>k=(i != 0)
 | .str y=>y.length<=sizeLine/\k=((y.length:Int) != 0)
 | .zP y=>y.size<=sizeLine/\k=((y.size:Int) != 0)
 | .ref p=>(∃xs,aG K H p xs/\k=!xs.isEmpty)\/(∃xs,a9 K H p xs/\k=!xs.isEmpty)\/∃kvs,H p=some (.dK kvs)/\k=!kvs.isEmpty
 | _=>False
def zq {κ:Type}{kvs:List (κ×V)}{vs:List (κ×Value)}(r:KV kvs vs):(!vs.isEmpty)=!kvs.isEmpty:=by
 cases r <;> rfl
def qN {xs:List V}{aO:List Value}(r:aS xs aO):(!aO.toArray.isEmpty)=!xs.isEmpty:=by
 cases r <;> simp
def kZ:(sizeLine:Nat) < 2 ^ 63:=by rw [gY];decide
def JA:Wc X (λx H Q=>∃k,Fu X.K x H k/\Q k H):=by
 intro ag s σ H x v Q I rx h;obtain⟨k,e,q⟩:=h;have hl:=kZ;have hs:sizeLine=16777216:=gY;cases x with
 | dI =>
  cases rx;have e':k=false:=e;subst e';exact truthy_none ⟨H,I,q⟩
 | bl b =>
  cases rx;have e':k=b:=e;subst e';exact kj ⟨H,I,q⟩
 | int i =>
  obtain⟨t,rfl⟩:=rx;have e':k=(i != 0):=e;subst e';exact PySem.P.truthy_int ⟨H,I,q⟩
 | str y =>
  obtain⟨t,rfl⟩:=rx;obtain⟨hy,e'⟩:y.length<=sizeLine/\k=((y.length:Int) != 0):=e;subst e';exact PySem.P.truthy_str ∅ ⟨H,I.tok _,q⟩
 | zP y =>
  obtain⟨t,rfl⟩:=rx;obtain⟨hy,e'⟩:y.size<=sizeLine/\k=((y.size:Int) != 0):=e;subst e';exact PySem.W.truthy_bytes ∅ ⟨H,I.tok _,q⟩
 | ref p =>
  cases rx;have e':(∃xs,aG X.K H p xs/\k=!xs.isEmpty)\/(∃xs,a9 X.K H p xs/\k=!xs.isEmpty)\/∃kvs,H p=some (.dK kvs)/\k=!kvs.isEmpty:=e;rcases e' with ⟨xs,hx,e'⟩ | ⟨xs,hx,e'⟩ | ⟨kvs,hx,e'⟩
  .subst e';obtain⟨aO,r,pl,hz⟩:=I.list hx;have a8:=r.length;exact wpAny_truthy_list pl.isList (by simp only [bO];omega) ⟨H,I.tok _,by rw [qN r];exact q⟩
  .subst e';obtain⟨aO,r,pl,hz⟩:=I.tuple hx;have a8:=r.length;exact truthy_tuple pl (by simp only [bO];omega) ⟨H,I.tok _,by rw [qN r];exact q⟩
  subst e';obtain⟨hz,hS,vs,r,m⟩:kvs.length<=sizeLine/\(p == sysModules)=false/\∃vs,KV kvs vs/\s.heap.DictOf (aY X.prog X.w) p vs:=I.bH p _ hx;have a8:kvs.length=vs.length:=bF r;exact wpAny_truthy_dict hS m ∅ ⟨H,I.tok _,by rw [zq r];exact q⟩
 | _=>exact(show False from e).elim
def iJ (ha:PE X a ta)(he:∀whole,isTrue a X.env whole=(do let v <-whole;standAt a.pos;holding [v] (truthy v))) :
  PT X a (λσ H Q=>ta σ H λx H'=>∃k,Fu X.K x H' k/\Q k H'):=by
 intro ag s σ H Q I h;refine isTrue_plain (cq (ha ag s σ H _ I h) λv s1 aT=>?_) (he _);obtain⟨x,H1,I1,r1,q1⟩:=aT;exact JA ag s1 σ H1 x v Q I1 r1 q1
def qD:j9 X (binaryOp .Add) (λx y H Q=>∃i j,x=.str i/\y=.str j/\i.length+j.length<=sizeLine/\Q (.str (i++j)) H):=by
 intro ag s σ H x y v u Q I rx ry h;obtain⟨i,j,rfl,rfl,hz,q⟩:=h;obtain⟨t,rfl⟩:=rx;obtain⟨t',rfl⟩:=ry;exact add_str (λt' tk=>⟨.str (i++j),H,I.tok _,⟨_,rfl⟩,q⟩) hz
def vals1 {x:V}{us:List Value}(r:aS [x] us):∃u,us=[u]/\RelV x u:=by
 cases r with
 | cons r1 r2=>cases r2;exact⟨_,rfl,r1⟩
def vals2 {x y:V}{us:List Value}(r:aS [x,y] us):∃u w',us=[u,w']/\RelV x u/\RelV y w':=by
 cases r with
 | cons r1 r2 =>
  cases r2 with
  | cons r3 r4=>cases r4;exact⟨_,_,rfl,r1,r3⟩
def Cv (hc:X.calm=true):fA X (.builtin "max") (λxs H Q=>∃i j,xs=[.int i,.int j]/\Q (.int (if j > i then j else i)) H):=by
 intro ag s σ H xs us Q I r h;obtain⟨i,j,rfl,q⟩:=h;obtain⟨u,w',rfl,⟨t,rfl⟩,⟨t',rfl⟩⟩:=vals2 r;refine max_two_ints (I.ok.hd hc) λh' tk k=>⟨_,H,I.kept k,?_,q⟩;by_cases hj:j > i
 .rw [az hj,az hj];exact⟨_,rfl⟩
 rw [aA hj,aA hj];exact⟨_,rfl⟩
end
structure zV (h:Heap)(x dx C:Addr)(mA:Str->Option Value):Prop where
 obj:h.get? x=some (PySem.W.instObj C dx)
 ns:h.Ns1 dx mA
 ne:dx≠x
def sU {h:Heap}{dx:Addr}{mA:Str->Option Value}(n:h.Ns1 dx mA):∃od,h.get? dx=some od/\∀name,PySem.W.lookIn name od=some (mA name):=by
 obtain⟨o,es,ep,ho,hd,hk,_,hm⟩:=n;refine⟨o,ho,λname=>?_⟩;have e:=hm name;unfold nsFind findBy at e;rw [<-Array.find?_toList] at e;unfold PySem.W.lookIn;rw [hd];dsimp only
 split
 .rename_i y q
  rw [q] at e;exact congrArg some e
 rename_i q
 rw [q] at e;have a:es.toList.any (·.refKey)=false:=by
  rw [List.any_eq_false];intro y hy;obtain⟨z,t,Uu⟩:=hk y (Array.mem_toList_iff.mp hy);simp [DictEntry.refKey,Uu]
 have a':¬es.toList.any (·.refKey)=true:=by rw [a];exact cW
 rw [aA a'];exact congrArg some e
def zV.look {h:Heap}{x dx C:Addr}{mA:Str->Option Value}(I:zV h x dx C mA):∃od,PySem.W.InstAt h x (PySem.W.instObj C dx) C (some od)/\∀name,PySem.W.lookIn name od=some (mA name) :=
 let ⟨od,ho,hl⟩:=sU I.ns
 ⟨od,⟨I.obj,rfl,rfl,ho⟩,hl⟩
section
variable {prog:Program}{w:World}{A:Around}{E:Value->Shared->Prop}{s:Shared}{K:aV}{x dx C f:Addr}{mA:Str->Option Value}{name:Str}{v:Value}
def get_map {expr:Bool}{Q:Value->Shared->Prop}(X:K.In s.heap)(I:zV s.heap x dx C mA)(hg:PySem.W.plainGet K C name=true)(hh:PySem.W.hasDictIn K C=true)
  (ha:PySem.W.findIn K (.ref C) name=some none)(hv:mA name=some v)(hv':PySem.W.handedIn v=true)(h:Q v { s with toks:=s.toks+1 }) :
  wpAny (model prog w) A (getAttr (.ref x) name expr) Q E s:=by
 obtain⟨od,J,hl⟩:=I.look;exact PySem.W.get_value X J (PySem.W.plainGet_of hg).1 (PySem.W.findObj_own hh ha rfl (by rw [hl,hv])) hv' h
def EN {pl:Sem Bool}{Q:Value×List Value->Shared->Prop}(X:K.In s.heap)(I:zV s.heap x dx C mA)(hg:PySem.W.plainGet K C name=true)
  (hf:PySem.W.findIn K (.ref C) name=some (some (.ref f)))(ht:PySem.W.isFn K (.ref f)=true)(hv:mA name=none)(h:Q (.ref f,[.ref x]) s) :
  wpAny (model prog w) A (getMethod (.ref x) name pl) Q E s:=by
 obtain⟨od,J,hl⟩:=I.look;exact PySem.W.method_fn X J (PySem.W.plainGet_of hg).1 (PySem.W.plainGet_of hg).2 hf (beq_iff_eq.mp ht) (by show (PySem.W.lookIn name od).map (·.isSome)=some false;rw [hl,hv];rfl) h
def Gg {ns:List Str}{Q:Unit->Shared->Prop}(X:K.In s.heap)(I:zV s.heap x dx C mA)
  (hs:PySem.W.findIn K (.ref C) "__setattr__"=some (some (.builtin "object.__setattr__")))(hp:PySem.W.plainOver K C=true)(ht:PySem.W.takerIn K C name=some none)(hh:PySem.W.hasDictIn K C=true)
  (hw:PySem.Within mA ns)(hsz:ns.length<=sizeLine)
  (h:∀h',zV h' x dx C (λy=>if y=name then some v else mA y)->Heap.SameBut dx s.heap h'->Q () { s with heap:=h',toks:=s.toks+2 }) :
  wpAny (model prog w) A (setAttr (.ref x) name v) Q E s:=by
 obtain⟨od,J,hl⟩:=I.look;refine PySem.W.set_plain X J hs (PySem.W.osa_open (s:={ s with toks:=s.toks+1 }) (r:=none) X J hp ht λb=>?_);obtain⟨cd,hc,Ce⟩:=PySem.W.any_some hh;have hx:s.heap.get? x=some ⟨.ref C,some dx,.plain,#[]⟩:=I.obj;refine ax (aD (ax (ax (wpAny_loadPart hx (ax (PySem.W.Looks.here (s:={ s with toks:=s.toks+1 }) (PySem.W.looks_clsIn X hc) ?_))))));rw [Ce];refine aD (a:=some dx) (ax (aD (ax ?_)));refine wpAny_nsSet1 (s:={ s with toks:=s.toks+1 }) I.ns λh' Cc OP=>?_;obtain⟨oD,esD,epD,Ul,UH,UK⟩:=Cc.count (PySem.Within.cons name v hw);refine ax (wpAny_lookBehind Ul (by rw [UH];exact pastItsLine_dict (cC UK (by rw [dC];omega))) ?_);exact aD (h _ ⟨(OP.2 _ (eV I.ne)).trans I.obj,Cc,I.ne⟩ OP)
def wK {R:Result->Shared->Prop}{vs:List Value}{kw:List (Str×Value)}(X:K.In s.heap)(hm:PySem.W.makesIn K C=true)
  (hi:PySem.W.findIn K (.ref C) "__init__"=some (some (.ref f)))(hf:PySem.W.typeIn K (.ref f)=some (.type "function"))
  (h:codeAny (model prog w) (A.under (.builtin "type.__call__" ⟨.ref C::vs,kw⟩)) (.call (.ref f) ⟨.ref (s.heap.objs.size+1)::vs,kw⟩) (PySem.W.InitBack (s.heap.objs.size+1) R)
   { s with heap:=(s.heap.push PySem.W.emptyDict).push (PySem.W.instObj C s.heap.objs.size) }) :
  codeAny (model prog w) A (.call (.ref C) ⟨vs,kw⟩) R s:=by
 obtain⟨hh,g,d,t,os⟩:=s;exact PySem.W.make_core (PySem.W.makes_of X hm) (PySem.W.looks_findIn X hi) (λself=>PySem.W.bind_fn X self hf) (.inl rfl) h
end
def dD (f:Str)(v:V):List (Str×V)->List (Str×V)
 | []=>[(f,v)]
 | (g,x)::r=>if g=f then (g,v)::r else (g,x)::dD f v r
theorem oM (f g:Str)(v:V):∀fs:List (Str×V),(dD f v fs).lookup g=if g=f then some v else fs.lookup g
 | []=>by
  show List.lookup g [(f,v)]=_;by_cases h:g=f
  .have hb:(g == f)=true:=beq_iff_eq.mpr h;simp only [List.lookup,hb,az h]
  have hb:(g == f)=false:=jv.mpr h;simp only [List.lookup,hb,aA h]
 | (k,x)::r=>by
  have ih:=oM f g v r;rw [show dD f v ((k,x)::r)=(if k=f then (k,v)::r else (k,x)::dD f v r) from rfl];by_cases hk:k=f
  .rw [az hk];by_cases h:g=k
   .have hb:(g == k)=true:=beq_iff_eq.mpr h;simp only [List.lookup,hb,az (h.trans hk)]
   have hb:(g == k)=false:=jv.mpr h;simp only [List.lookup,hb,aA (λe:g=f=>h (e.trans hk.symm))]
  rw [aA hk];by_cases h:g=k
  .have hb:(g == k)=true:=beq_iff_eq.mpr h;simp only [List.lookup,hb,aA (λe:g=f=>hk (h.symm.trans e))]
  have hb:(g == k)=false:=jv.mpr h;simp only [List.lookup,hb];exact ih
theorem oh (f:Str)(v:V):∀fs:List (Str×V),f∈(dD f v fs).map (·.1)/\∀g,g∈fs.map (·.1)->g∈(dD f v fs).map (·.1)
 | []=>⟨by simp [dD],λg h=>by simp at h⟩
 | (k,x)::r=>by
  obtain⟨i1,i2⟩:=oh f v r;rw [show dD f v ((k,x)::r)=(if k=f then (k,v)::r else (k,x)::dD f v r) from rfl];by_cases hk:k=f
  .rw [az hk];subst hk;exact⟨by simp,λg h=>by simpa using h⟩
  rw [aA hk];refine⟨?_,λg h=>?_⟩
  .rw [bG];exact bS _ i1
  rw [bG] at h ⊢;rcases bN.mp h with e | e
  .exact bN.mpr (.inl e)
  exact bS _ (i2 g e)
theorem oO (f:Str)(v:V):∀fs:List (Str×V),(dD f v fs).length<=fs.length+1
 | []=>by simp [dD]
 | (k,x)::r=>by
  have ih:=oO f v r;rw [show dD f v ((k,x)::r)=(if k=f then (k,v)::r else (k,x)::dD f v r) from rfl];by_cases hk:k=f
  .rw [az hk,dC,dC];omega
  rw [aA hk,dC,dC];omega
def hU.some_of {v:V}{o:Option Value}(r:hU (some v) o):∃u,o=some u/\RelV v u:=by
 cases o with
 | none=>exact(show False from r).elim
 | some u=>exact⟨u,rfl,r⟩
def hU.none_of {o:Option Value}(r:hU none o):o=none:=by
 cases o with
 | none=>rfl
 | some u=>exact(show False from r).elim
def tF {v:V}{u:Value}(r:RelV v u):PySem.W.handedIn u=true:=by
 cases v with
 | dI=>cases (show u=Value.none from r);rfl
 | bl b=>cases (show u=Value.bool b from r);rfl
 | int i=>obtain⟨t,e⟩:=(show ∃t,u=Value.int i t from r);cases e;rfl
 | str x=>obtain⟨t,e⟩:=(show ∃t,u=Value.str x t from r);cases e;rfl
 | zP b=>obtain⟨t,e⟩:=(show ∃t,u=Value.bytes b t from r);cases e;rfl
 | LF b=>obtain⟨t,e⟩:=(show ∃t,u=Value.float b t from r);cases e;rfl
 | ref a=>cases (show u=Value.ref a from r);rfl
 | ty n=>cases (show u=Value.type n from r);rfl
section
variable {P:Program}{w:World}{H H':Hp}{h h':Heap}{a C dx:Addr}{fs FT:List (Str×V)}
def vk (bH:j_ P w H h)(e:H a=some (.ins C dx fs)):∃mA,zV h a dx C mA/\(∀f,hU (fs.lookup f) (mA f))/\PySem.Within mA (fs.map (·.1))/\fs.length<=1000/\H dx=some (.own a):=by
 obtain⟨d,z,ne,ob,mA,n,r,q⟩:=(show bV P w H h a (.ins C dx fs) from bH a _ e);exact⟨mA,⟨ob,n,ne⟩,r,q,z,d⟩
end
structure Bi (K:aV)(C:Addr):Prop where
 pg:PySem.W.plainGet K C Str.empty=true
 hd:PySem.W.hasDictIn K C=true
 po:PySem.W.plainOver K C=true
 sa:PySem.W.findIn K (.ref C) "__setattr__"=some (some (.builtin "object.__setattr__"))
def Bi.get {K:aV}{C:Addr}(c:Bi K C)(f:Str):PySem.W.plainGet K C f=true:=c.pg
def cX (K:aV)(C:Addr)(f:Str):Prop:=PySem.W.findIn K (.ref C) f=some none
def cX.Nr {K:aV}{C:Addr}{f:Str}(n:cX K C f):PySem.W.takerIn K C f=some none:=by
 unfold PySem.W.takerIn;rw [show PySem.W.findIn K (.ref C) f=some none from n];rfl
structure Con (K:aV)(C:Addr)(f:Str)(v:V)(u:Value):Prop where
 at_:PySem.W.findIn K (.ref C) f=some (some u)
 rel:RelV v u
 get:PySem.W.specialIn K u "__get__"=some none
 cp:PySem.W.copiedNames.contains f=false
structure Meth (K:aV)(C:Addr)(m:Str)(f:Addr):Prop where
 at_:PySem.W.findIn K (.ref C) m=some (some (.ref f))
 fn:PySem.W.isFn K (.ref f)=true
 kp:PySem.W.keepIn K (.ref f)=true
section
variable {X:Cx}{ag:List (Addr×Obj)}{σ:St}{H:Hp}{s:Shared}{a C dx:Addr}{fs:List (Str×V)}{f:Str}{v:V}{A:Around}{E:Value->Shared->Prop}
def zA {b:Bool}{Q:Value->Shared->Prop}(I:Inv X ag σ H s)(e:H a=some (.ins C dx fs))(c:Bi X.K C)(n:cX X.K C f)(l:fs.lookup f=some v)
  (h:∀u s',Inv X ag σ H s'->RelV v u->Q u s'):wpAny (model X.prog X.w) A (getAttr (.ref a) f b) Q E s:=by
 obtain⟨mA,O,r,_,_,_⟩:=vk I.bH e;obtain⟨u,hu,ru⟩:=hU.some_of (v:=v) (o:=mA f) (by rw [<-l];exact r f);exact get_map I.jj O (c.get f) c.hd n hu (tF ru) (h u _ (I.tok _) ru)
def lC {m:Str}{g:Addr}{pl:Sem Bool}{Q:Value×List Value->Shared->Prop}(I:Inv X ag σ H s)(e:H a=some (.ins C dx fs))(c:Bi X.K C)(k:Meth X.K C m g)(l:fs.lookup m=none)
  (h:Q (.ref g,[.ref a]) s):wpAny (model X.prog X.w) A (getMethod (.ref a) m pl) Q E s:=by
 obtain⟨mA,O,r,_,_,_⟩:=vk I.bH e;have hn:mA m=none:=hU.none_of (by rw [<-l];exact r m);exact EN I.jj O (c.get m) k.at_ k.fn hn h
def yk {y:V}{u:Value}{Q:Unit->Shared->Prop}(I:Inv X ag σ H s)(e:H a=some (.ins C dx fs))(c:Bi X.K C)(n:cX X.K C f)(hl:fs.length < 1000)(ry:RelV y u)
  (h:∀s',Inv X ag σ (upd H a (.ins C dx (dD f y fs))) s'->Q () s'):wpAny (model X.prog X.w) A (setAttr (.ref a) f u) Q E s:=by
 obtain⟨mA,O,r,wi,_,ho⟩:=vk I.bH e;have hz:(fs.map (·.1)).length<=sizeLine:=by rw [aB,gY];omega
 refine Gg I.jj O c.sa c.po n.Nr c.hd wi hz λh' O' sb=>h _ ?_;have hd:∃o,h'.get? dx=some o:=let ⟨o,_,_,e',_⟩:=O'.ns;⟨o,e'⟩;refine I.write (x:=a) (e:=dx) (by rw [e];exact True.intro) (.inr ho) (λb q hb z=>(sb.2 b hb).trans z) hd ?_;refine⟨by rw [ai O.ne];exact ho,?_,O.ne,O'.obj,_,O'.ns,λg=>?_,λg hg=>?_⟩
 .have:=oO f y fs;omega
 .show hU ((dD f y fs).lookup g) (if g=f then some u else mA g);rw [oM];by_cases q:g=f
  .rw [az q,az q];exact ry
  rw [aA q,aA q];exact r g
 by_cases q:g=f
 .rw [q];exact(oh f y fs).1
 refine(oh f y fs).2 g (wi g λz=>hg ?_);show (if g=f then some u else mA g)=none;rw [aA q];exact z
def Inv.made (I:Inv X ag σ H s):Inv X ag σ (upd (upd H s.heap.objs.size (.own (s.heap.objs.size+1))) (s.heap.objs.size+1) (.ins C s.heap.objs.size []))
  { s with heap:=(s.heap.push PySem.W.emptyDict).push (PySem.W.instObj C s.heap.objs.size) }:=by
 have e1:(s.heap.push PySem.W.emptyDict).get? s.heap.objs.size=some PySem.W.emptyDict:=cQ s.heap rfl;have e2:((s.heap.push PySem.W.emptyDict).push (PySem.W.instObj C s.heap.objs.size)).get? (s.heap.objs.size+1)=some (PySem.W.instObj C s.heap.objs.size):=by
  have:=cQ (s.heap.push PySem.W.emptyDict) (o:=PySem.W.instObj C s.heap.objs.size) rfl;rwa [kO] at this
 have e3:(s.heap.push PySem.W.emptyDict).Ns s.heap.objs.size (λ_=>none):=⟨PySem.W.emptyDict,#[],_,e1,rfl,(λe he=>absurd he (by simp)),λ_=>rfl⟩;have I1:=I.laid (a:=s.heap.objs.size) (o:=.own (s.heap.objs.size+1)) (h':=s.heap.push PySem.W.emptyDict) (t':=s.toks) (λb u q=>bD _ q) (aI _) ⟨_,e1⟩;refine I1.laid (a:=s.heap.objs.size+1) (o:=.ins C s.heap.objs.size []) (t':=s.toks) (λb u q=>bD _ q) (Nat.le_of_eq (kO _ _)) ?_;have ne:s.heap.objs.size≠s.heap.objs.size+1:=bB (lR _);refine⟨by rw [ai ne,ae],fR _,ne,e2,λ_=>none,(Heap.Ns1.of_empty e3).at λo q=>bD _ q,λ_=>True.intro,λy hy=>absurd rfl hy⟩
def A_ {prog:Program}{w:World}{env:Env}{e:Expr}{f:Str}{pos:Pos}{s:Shared}{Q:Value->Shared->Prop}(hb:attributeBase e f env (eval e env)=eval e env)
  (h:wpAny (model prog w) A (eval e env) (λo s₁=>wpAny (model prog w) A (getAttr o f true) Q E s₁) E s):wpAny (model prog w) A (eval (.Attribute e f pos) env) Q E s :=
 Attribute_any_ h (by rw [arm_eval_Attribute,hb])
end
inductive Qa (K:aV)(H:Hp)(f:Str)(x:V)(R:V->Prop):Prop
|mk(a C dx:Addr)(fs:List (Str×V))(v:V)(e:x=.ref a)(h:H a=some (.ins C dx fs))(c:Bi K C)(n:cX K C f)(l:fs.lookup f=some v)(q:R v)
inductive YG (K:aV)(H:Hp)(f:Str)(x:V)(R:Addr->Addr->Addr->List (Str×V)->Prop):Prop
|mk(a C dx:Addr)(fs:List (Str×V))(e:x=.ref a)(h:H a=some (.ins C dx fs))(c:Bi K C)(n:cX K C f)(l:fs.length < 1000)(q:R a C dx fs)
def R3 (K:aV)(ta:TE)(f:Str):TE:=λσ H Q=>ta σ H λx H1=>Qa K H1 f x λv=>Q v H1
def Sd (K:aV)(ta tv:TE)(f:Str):TS:=λD σ H=>tv σ H λy H1=>ta σ H1 λx H2=>YG K H2 f x λa C dx fs=>D.nx σ (upd H2 a (.ins C dx (dD f y fs)))
section
variable {X:Cx}{o e value:Expr}{f:Str}{pos pos' uH:Pos}{ta tv:TE}
def dZ (he:PE X e ta)(hb:attributeBase e f X.env (eval e X.env)=eval e X.env):PE X (.Attribute e f pos) (R3 X.K ta f):=by
 intro ag s σ H Q I h;refine A_ hb (cq (he ag s σ H _ I h) λu s1 aT=>?_);obtain⟨x,H1,I1,rx,a,C,dx,fs,v,ex,ea,c,n,l,q⟩:=aT;subst ex;obtain rfl:u=Value.ref a:=rx;exact zA I1 ea c n l λu' s2 I2 ru=>⟨v,H1,I2,ru,q⟩
def fP (ha:PE X o ta)(hv:PE X value tv)(hs:swapsWith value (some (.Attribute o f pos')) pos.line X.env=pure false):PS X (.Assign [.Attribute o f pos'] value pos) (Sd X.K ta tv f):=by
 intro ag s σ H D I h;refine plainObj_wpAny_Assign_Attribute (cq (hv ag s σ H _ I h) λu s1 aT=>?_) hs;obtain⟨y,H1,I1,ry,q⟩:=aT;refine cq (ha ag s1 σ H1 _ I1 q) λov s2 aT=>?_;obtain⟨x,H2,I2,rx,a,C,dx,fs,ex,ea,c,n,l,q2⟩:=aT;subst ex;obtain rfl:ov=Value.ref a:=rx;exact yk I2 ea c n l ry λs3 I3=>⟨σ,_,I3,q2⟩
def ID {pl:Sem Bool}{m:Str}{apos:Pos}{args:List Expr}{ag:List (Addr×Obj)}{s:Shared}{σ:St}{H:Hp}{Q:Value->Shared->Prop}{te:TE}(he:PE X e te)(I:Inv X ag σ H s)
  (h:te σ H λx H1=>∃a C dx fs g,x=.ref a/\H1 a=some (.ins C dx fs)/\Bi X.K C/\Meth X.K C m g/\fs.lookup m=none /\
   ∀s1,Inv X ag σ H1 s1->wpAny (model X.prog X.w) X.A (callWith pos (.ref g) [.ref a] (backTo pos (starEach args X.env)) (backToKw pos (keywordEach [] X.env))) Q X.xe s1)
  (ht:eval (.Call (.Attribute e m apos) args [] pos) X.env=(do
   let ov <-eval e X.env
   standAt apos.atName
   let (f,first) <-holding [ov] (getMethod ov m pl)
   callWith pos f first (backTo pos (starEach args X.env)) (backToKw pos (keywordEach [] X.env)))) :
  wpAny (model X.prog X.w) X.A (eval (.Call (.Attribute e m apos) args [] pos) X.env) Q X.xe s:=by
 refine PySem.W.methodCall_KW (pl:=pl) (cq (he ag s σ H _ I h) λu s1 aT=>?_) ht;obtain⟨x,H1,I1,rx,a,C,dx,fs,g,ex,ea,c,k,l,q⟩:=aT;subst ex;obtain rfl:u=Value.ref a:=rx;exact lC I1 ea c k l (q s1 I1)
end
section
variable {X:Cx}{ag:List (Addr×Obj)}{σ:St}{H:Hp}{s:Shared}{A:Around}{E:Value->Shared->Prop}{Q:Value->Shared->Prop}{c:Value}{b:Bool}
inductive rC (K:aV)(H:Hp):V->Value->Prop where
 | dI:rC K H .dI (.type "NoneType")
 | bl (x:Bool):rC K H (.bl x) (.type "bool")
 | int (i:Int):rC K H (.int i) (.type "int")
 | str (x:Str):rC K H (.str x) (.type "str")
 | LF (x:UInt64):rC K H (.LF x) (.type "float")
 | lst {a:Addr}{xs:List V}(e:H a=some (.lst xs)):rC K H (.ref a) (.type "list")
 | jo {a:Addr}{o:Obj}{xs:List V}(e:H a=some (.jo o (.lst xs))):rC K H (.ref a) (.type "list")
 | tup {a:Addr}{xs:List V}(e:H a=some (.tup xs)):rC K H (.ref a) (.type "tuple")
 | dK {a:Addr}{kvs:List (aJ×V)}(e:H a=some (.dK kvs)):rC K H (.ref a) (.type "dict")
 | dT {a:Addr}{kvs:List (List aJ×V)}(e:H a=some (.dT kvs)):rC K H (.ref a) (.type "dict")
 | ins {a C dx:Addr}{fs:List (Str×V)}(e:H a=some (.ins C dx fs))(cl:Bi K C)(ha:PySem.W.findIn K (.ref C) "__class__"=some (some (.builtin "object.__class__")))
   (hn:PySem.W.specialIn K (.builtin "object.__class__") "__get__"=some (some (.builtin "getset_descriptor.__get__")))(htk:PySem.W.takesIn K (.builtin "object.__class__")=some true)
   (hm:PySem.W.mroIn K C (.type "object")=some true):rC K H (.ref a) (.ref C)
end
structure di (k:Nat)(A:Around):Prop where
 hd:A.handled=none
 dp:A.depth+3 * k+5 < recursionLimit
 un:A.units+16 * k+200 < cLine
 gd:A.guards=some []
def di.mono {j k:Nat}{A:Around}(r:di k A)(h:j<=k):di j A:=⟨r.hd,by have:=r.dp;omega,by have:=r.un;omega,r.gd⟩
theorem di.deeper {k:Nat}{A:Around}(r:di (k+1) A)(env:Env):di k (A.deeper env) :=
 ⟨r.hd,by have:=r.dp;show A.depth+1+3 * k+5 < _;omega,by have:=r.un;show A.units+3+16 * k+200 < _;omega,r.gd⟩
theorem di.in1 {k:Nat}{A:Around}(r:di (k+1) A):di k A.in1 :=
 ⟨r.hd,by have:=r.dp;show A.depth+3 * k+5 < _;omega,by have:=r.un;show A.units+1+16 * k+200 < _;omega,r.gd⟩
def zh {A:Around}{C:Addr}{us:List Value}{kw:List (Str×Value)}:(A.under (.builtin "type.__call__" ⟨.ref C::us,kw⟩)).depth=A.depth+1:=by
 first | rfl | simp [Around.under,Code.weight,Code.isCreation,Code.isGuard,Code.isCaller,Code.frames,Code.isFrame,guardIds]
def zg {A:Around}{C:Addr}{us:List Value}{kw:List (Str×Value)}:(A.under (.builtin "type.__call__" ⟨.ref C::us,kw⟩)).units=A.units+1:=by
 first | rfl | simp [Around.under,Code.cUnits,Code.frames,Code.isFrame]
def wL {A:Around}{C:Addr}{us:List Value}{kw:List (Str×Value)}:(A.under (.builtin "type.__call__" ⟨.ref C::us,kw⟩)).guards=A.guards:=by
 first | rfl | simp [Around.under,Code.guards,Code.isGuard,guardIds,pushGuards]
def di.make {k:Nat}{A:Around}(r:di (k+1) A)(C:Addr)(us:List Value)(kw:List (Str×Value)):di k (A.under (.builtin "type.__call__" ⟨.ref C::us,kw⟩)) :=
 ⟨r.hd,by have:=r.dp;rw [zh];omega,by have:=r.un;rw [zg];omega,by rw [wL];exact r.gd⟩
theorem di.depth {k:Nat}{A:Around}(r:di k A):A.depth < recursionLimit:=by have:=r.dp;omega
theorem di.units {k:Nat}{A:Around}(r:di k A):A.units+64 < cLine:=by have:=r.un;omega
def oZ:TA:=λ_ H Q=>Q [] H
def fu (ta:TE)(tr:TA):TA:=λσ H Q=>ta σ H λx H1=>tr σ H1 λxs H2=>Q (x::xs) H2
section
variable {X:Cx}{e:Expr}{es:List Expr}{te:TE}{t:TA}{pos:Pos}
def ak:PA X [] oZ:=λ_ _ _ _ H Q I h=>Calls.spliced_nil ⟨[],H,I,.nil,h⟩
def af (ha:PE X e te)(hr:PA X es t)(hs:starEach (e::es) X.env=(false,eval e X.env)::starEach es X.env:=by rfl):PA X (e::es) (fu te t):=by
 intro pos ag s σ H Q I h;rw [hs];show wpAny _ _ (spliced ((false,eval e X.env)::backTo pos (starEach es X.env))) _ _ s;refine nR (cq (ha ag s σ H _ I h) λu s1 aT=>?_);obtain⟨x,H1,I1,r1,q1⟩:=aT;refine cq (hr pos ag s1 σ H1 _ I1 q1) λus s2 aT=>?_;obtain⟨xs,H2,I2,r2,q2⟩:=aT;exact⟨x::xs,H2,I2,.cons r1 r2,q2⟩
def rQ (t:TA):TE:=λσ H Q=>t σ H λxs H1=>xs.length<=sizeLine/\∀p,H1 p=none->Q (.ref p) (upd H1 p (.tup xs))
def NB (t:TA):TE:=λσ H Q=>t σ H λxs H1=>xs.length<=sizeLine/\∀p,H1 p=none->Q (.ref p) (upd H1 p (.lst xs))
def cJ {x1}(h:PA X es t):PE X (.Tuple es x1 pos) (rQ t):=by
 intro ag s σ H Q I hq;refine wpAny_Tuple_spliced (cq (h pos ag s σ H _ I hq) λus s1 aT=>?_);obtain⟨xs,H1,I1,r,z,q⟩:=aT;refine⟨by rw [<-r.length];exact z,?_⟩;have hf:H1 s1.heap.objs.size=none:=I1.bH.fresh (aI _);refine⟨.ref s1.heap.objs.size,upd H1 s1.heap.objs.size (.tup xs),I1.laid (t':=s1.toks) (λb u e=>bD _ e) (aI _) ?_,rfl,q _ hf⟩;exact⟨z,us,r,⟨_,cQ _ rfl,rfl,_,rfl⟩⟩
def cK (h:PA X es t):PE X (.List es pos) (NB t):=by
 intro ag s σ H Q I hq;refine wpAny_List_spliced (cq (h pos ag s σ H _ I hq) λus s1 aT=>?_);obtain⟨xs,H1,I1,r,z,q⟩:=aT;refine⟨by rw [<-r.length];exact z,?_⟩;have hf:H1 s1.heap.objs.size=none:=I1.bH.fresh (aI _);refine⟨.ref s1.heap.objs.size,upd H1 s1.heap.objs.size (.lst xs),I1.laid (t':=s1.toks) (λb u e=>bD _ e) (aI _) ?_,rfl,q _ hf⟩;exact⟨z,us,0,r,cQ _ rfl⟩
end
abbrev Sp:=List V->Hp->VK->XK->Prop
abbrev tZ:=List Env->Hp->Shared->XK->Value->Shared->Prop
structure pC (P:Program)(w:World)(K:aV)(mg:Str->Option Value)(base:Heap)(A:Around)(outer:List Env)(s:Shared)(H:Hp):Prop where
 frames:A.frames=some outer
 mod:Mod K mg base
 bs:∀b o,base.get? b=some o->s.heap.get? b=some o/\H b=none
 Fd:base.objs.size<=s.heap.objs.size
 mZ:s.heap.FunFrames base outer
 HA:∀b∈px outer,H b=none
 bH:j_ P w H s.heap
 bare:AllBare s.gens
def CE (outer:List Env)(P:Program)(w:World)(H:Hp)(s:Shared)(Q:VK)(u:Value)(s':Shared):Prop :=
 ∃v H',s'.os=s.os/\AllBare s'.gens/\Un (px outer) [] H H' s.heap s'.heap/\j_ P w H' s'.heap/\RelV v u/\Q v H'
def CR (CX:tZ)(outer:List Env)(P:Program)(w:World)(H:Hp)(s:Shared)(Q:VK)(E:XK)(r:Result)(s':Shared):Prop :=
 match r with
 | .ok (.ret u)=>CE outer P w H s Q u s'
 | .ok _=>False
 | .error e=>CX outer H s E e s'
structure ba (P:Program)(w:World)(K:aV)(mg:Str->Option Value)(base:Heap)(CX:tZ) (k:Nat)(f:Addr)(fd:FuncData) (ps:List Str)(sp:Sp):Prop where
 len:∀vs H Q E,sp vs H Q E->vs.length=ps.length
 run:∀(A:Around)(outer:List Env)(s:Shared)(H:Hp)(args:Args)(us:List Value)(vs:List V)(Q:VK)(E:XK),di k A->pC P w K mg base A outer s H->BindsTo s fd args (ps.zip us)->aS vs us->sp vs H Q E ->
  codeAny (model P w) A (.call (.ref f) args) (CR CX outer P w H s Q E) s
theorem ba.mono {P:Program}{w:World}{K:aV}{mg:Str->Option Value}{base:Heap}{CX:tZ}{j k:Nat}{f:Addr}{fd:FuncData}{ps:List Str}{sp:Sp}(F:ba P w K mg base CX j f fd ps sp)(h:j<=k) :
  ba P w K mg base CX k f fd ps sp:=⟨F.len,λA outer s H args us vs Q E hr=>F.run A outer s H args us vs Q E (hr.mono h)⟩
def ba.imp {P:Program}{w:World}{K:aV}{mg:Str->Option Value}{base:Heap}{CX:tZ}{k:Nat}{f:Addr}{fd:FuncData}{ps:List Str}{sp NR:Sp}(F:ba P w K mg base CX k f fd ps sp)
  (h:∀vs H Q E,NR vs H Q E->sp vs H Q E):ba P w K mg base CX k f fd ps NR :=
 ⟨λvs H Q E q=>F.len vs H Q E (h _ _ _ _ q),λA outer s H args us vs Q E hr he hb hv hs=>F.run A outer s H args us vs Q E hr he hb hv (h _ _ _ _ hs)⟩
def pC.make {P:Program}{w:World}{K:aV}{mg:Str->Option Value}{base:Heap}{A:Around}{outer:List Env}{s:Shared}{H:Hp}(e:pC P w K mg base A outer s H)(C:Addr)(us:List Value)(kw:List (Str×Value)) :
  pC P w K mg base (A.under (.builtin "type.__call__" ⟨.ref C::us,kw⟩)) outer s H:=⟨by first | exact e.frames | (simpa [Around.under,Code.envs,Code.isFrame,pushEnvs] using e.frames),e.mod,e.bs,e.Fd,e.mZ,e.HA,e.bH,e.bare⟩
theorem pC.in1 {P:Program}{w:World}{K:aV}{mg:Str->Option Value}{base:Heap}{A:Around}{outer:List Env}{s:Shared}{H:Hp}(e:pC P w K mg base A outer s H) :
  pC P w K mg base A.in1 outer s H:=⟨e.frames,e.mod,e.bs,e.Fd,e.mZ,e.HA,e.bH,e.bare⟩
section
variable {X:Cx}{ag:List (Addr×Obj)}{σ:St}{H:Hp}{s s':Shared}
def Inv.E2 (I:Inv X ag σ H s):pC X.prog X.w X.K X.mg X.base X.A X.stack s H :=
 ⟨I.ok.frames,I.ok.mod,I.bs,cC I.ok.Fd I.sz,I.stack,I.pF,I.bH,I.bare⟩
def Inv.after {Q:VK}{u:Value}(I:Inv X ag σ H s)(h:CE X.stack X.prog X.w H s Q u s'):EP X ag σ Q u s':=by
 obtain⟨v,H',os,bare,un,bH,r,q⟩:=h;obtain⟨hh,g,d,t,ZH⟩:=s';obtain rfl:ZH=s.os:=os;exact⟨v,H',I.call (h':=hh) (g':=g) (d':=d) (t':=t) (ch:=[]) un bH bare (λb z=>absurd z (by simp)),r,q⟩
end
def C8 (sp:Sp)(dvs:List V)(E:XK)(t:TA):TE:=λσ H Q=>t σ H λvs H1=>sp (vs++dvs) H1 Q E
def Nz (C:Addr)(m:Str)(sp:Sp)(dvs:List V)(E:XK)(ta:TE)(t:TA):TE:=λσ H Q=>ta σ H λx H1=>∃a dx fs,x=.ref a/\H1 a=some (.ins C dx fs)/\fs.lookup m=none /\
 t σ H1 λvs H2=>sp (x::(vs++dvs)) H2 Q E
def NA (C:Addr)(sp:Sp)(dvs:List V)(E:XK)(t:TA):TE:=λσ H Q=>t σ H λvs H1=>∀x dx,H1 x=none->H1 dx=none->dx≠x ->
 sp (.ref x::(vs++dvs)) (upd (upd H1 dx (.own x)) x (.ins C dx [])) (λv H2=>v=.dI/\Q (.ref x) H2) E
def Binds (K:aV)(fd:FuncData) (ps:List Str)(ds:List Value):Prop :=
 ∀(s:Shared)(us:List Value),K.In s.heap->(us++ds).length=ps.length->BindsTo s fd ⟨us,[]⟩ (ps.zip (us++ds))
def Binds.all {K:aV}{fd:FuncData}{ps:List Str}(h:∀us:List Value,us.length=ps.length->bindArgs fd ⟨us,[]⟩=pure (ps.zip us)):Binds K fd ps []:=λs us _ hl=>by
 rw [fV] at hl ⊢;exact .of_eq (h us hl)
def Passes (CX:tZ)(X:Cx)(E:XK):Prop:=∀(ag:List (Addr×Obj))(σ:St)(H:Hp)(s:Shared)(e:Value)(s':Shared),Inv X ag σ H s->CX X.stack H s E e s'->X.xe e s'
section
variable {X:Cx}{CX:tZ}{k:Nat}{f C:Addr}{fd:FuncData}{ps:List Str}{sp:Sp}{dvs:List V}{ds:List Value}{E:XK}{x m:Str}{p pos apos:Pos}{e o:Expr}{es:List Expr}{ta:TE}{t:TA}
def yI {ag:List (Addr×Obj)}{σ:St}{H:Hp}{s:Shared}{Q:VK}{us:List Value}{vs:List V}(F:ba X.prog X.w X.K X.mg X.base CX k f fd ps sp)(hr:di k X.A)(hb:Binds X.K fd ps ds)(hd:aS dvs ds)(hx:Passes CX X E)
  (I:Inv X ag σ H s)(r:aS vs us)(h:sp (vs++dvs) H Q E):wpAny (model X.prog X.w) X.A (call (.ref f) us) (EP X ag σ Q) X.xe s:=by
 have r2:aS (vs++dvs) (us++ds):=r.append hd;have hl:(us++ds).length=ps.length:=by rw [<-r2.length];exact F.len _ _ _ _ h
 refine hX (iV (F.run X.A X.stack s H ⟨us,[]⟩ (us++ds) (vs++dvs) Q E hr I.E2 (hb s us I.jj hl) r2 h) λr s' hq=>?_);cases r with
 | error e=>exact hx ag σ H s e s' I hq
 | ok fl =>
  cases fl with
  | ret u=>exact I.after hq
  | next=>exact False.elim hq
  | brk=>exact False.elim hq
  | cont=>exact False.elim hq
def AG (F:ba X.prog X.w X.K X.mg X.base CX k f fd ps sp)(hr:di k X.A)(hg:Gl X x)(hm:X.mg x=some (.ref f))(hk:PySem.W.keepIn X.K (.ref f)=true)(hb:Binds X.K fd ps ds)(hd:aS dvs ds)(hx:Passes CX X E)
  (ha:PA X (e::es) t)(qP:(x == ("__debug__":Str))=false:=by decide)(he:starEach (e::es) X.env=(false,eval e X.env)::starEach es X.env:=by rfl)(nA:(backTo pos (starEach es X.env)).any (·.1)=false:=by rfl) :
  PE X (.Call (.Name x p) (e::es) [] pos) (C8 sp dvs E t):=by
 intro ag s σ H Q I h;refine lS (i9 I hg hm ?_ qP);refine PySem.W.callWith_K (h₀:=X.base) I.ok.mod.KQ hk (cq (ha pos ag s σ H _ I h) λus s1 aT=>?_) he nA;obtain⟨vs,H1,I1,r,q⟩:=aT;refine⟨I1.jj,?_⟩;exact yI F hr hb hd hx I1 r q
def AE {pl:Sem Bool}(he:PE X o ta)(c:Bi X.K C)(hm:Meth X.K C m f)(F:ba X.prog X.w X.K X.mg X.base CX k f fd ps sp)(hr:di k X.A)(hb:Binds X.K fd ps ds)(hd:aS dvs ds)(hx:Passes CX X E)(ha:PA X (e::es) t)
  (jn:starEach (e::es) X.env=(false,eval e X.env)::starEach es X.env:=by rfl)(nA:(backTo pos (starEach es X.env)).any (·.1)=false:=by rfl)
  (ht:eval (.Call (.Attribute o m apos) (e::es) [] pos) X.env=(do
   let ov <-eval o X.env
   standAt apos.atName
   let (f,first) <-holding [ov] (getMethod ov m pl)
   callWith pos f first (backTo pos (starEach (e::es) X.env)) (backToKw pos (keywordEach [] X.env))):=by rfl) :
  PE X (.Call (.Attribute o m apos) (e::es) [] pos) (Nz C m sp dvs E ta t):=by
 intro ag s σ H Q I h;refine PySem.W.methodCall_KW (pl:=pl) (cq (he ag s σ H _ I h) λu s1 aT=>?_) ht;obtain⟨x,H1,I1,rx,a,dx,fs,ex,ea,l,q⟩:=aT;subst ex;obtain rfl:u=Value.ref a:=rx;refine lC I1 ea c hm l ?_;refine PySem.W.callWith_K (first:=[.ref a]) (h₀:=X.base) I.ok.mod.KQ hm.kp (cq (ha pos ag s1 σ H1 _ I1 q) λus s2 aT=>?_) jn nA;obtain⟨vs,H2,I2,r,q2⟩:=aT;refine⟨I2.jj,?_⟩;exact yI (us:=.ref a::us) (vs:=.ref a::vs) F hr hb hd hx I2 (.cons rfl r) q2
structure Mk (K:aV)(C f:Addr):Prop where
 makes:PySem.W.makesIn K C=true
 init:PySem.W.findIn K (.ref C) "__init__"=some (some (.ref f))
 fn:PySem.W.isFn K (.ref f)=true
 kp:PySem.W.keepIn K (.ref C)=true
def Dw {ag:List (Addr×Obj)}{σ:St}{H:Hp}{s:Shared}{Q:VK}{us:List Value}{vs:List V}(M:Mk X.K C f)(F:ba X.prog X.w X.K X.mg X.base CX k f fd ps sp)(hr:di (k+1) X.A)(hb:Binds X.K fd ps ds)(hd:aS dvs ds)
  (hx:Passes CX X E)(I:Inv X ag σ H s)(r:aS vs us)
  (h:∀x dx,H x=none->H dx=none->dx≠x->sp (.ref x::(vs++dvs)) (upd (upd H dx (.own x)) x (.ins C dx [])) (λv H2=>v=.dI/\Q (.ref x) H2) E) :
  wpAny (model X.prog X.w) X.A (call (.ref C) us) (EP X ag σ Q) X.xe s:=by
 have hq:=h (s.heap.objs.size+1) s.heap.objs.size (I.bH.fresh (gZ _)) (I.bH.fresh (aI _)) (bB (lR _));have I2:=Inv.made (C:=C) I;have r2:aS (V.ref (s.heap.objs.size+1)::(vs++dvs)) (Value.ref (s.heap.objs.size+1)::(us++ds)):=.cons rfl (r.append hd);have hl:(Value.ref (s.heap.objs.size+1)::us++ds).length=ps.length:=by
  have e:=r2.length;rw [F.len _ _ _ _ hq] at e;exact e.symm
 refine hX (wK (f:=f) I.jj M.makes M.init (beq_iff_eq.mp M.fn) (iV (F.run _ X.stack _ _ ⟨Value.ref (s.heap.objs.size+1)::us,[]⟩ (Value.ref (s.heap.objs.size+1)::(us++ds)) _ _ E (hr.make C us [])
  (I2.E2.make C us []) (hb _ (Value.ref (s.heap.objs.size+1)::us) I2.jj hl) r2 hq) λr s' OU=>?_))
 cases r with
 | error e=>exact hx ag σ _ _ e s' I2 OU
 | ok fl =>
  cases fl with
  | ret u =>
   obtain⟨v,H',I3,rv,ev,q3⟩:=I2.after OU;subst ev;exact⟨rv,⟨V.ref (s.heap.objs.size+1),H',I3,rfl,q3⟩⟩
  | next=>exact False.elim OU
  | brk=>exact False.elim OU
  | cont=>exact False.elim OU
def AF (M:Mk X.K C f)(F:ba X.prog X.w X.K X.mg X.base CX k f fd ps sp)(hr:di (k+1) X.A)(hg:Gl X x)(hm:X.mg x=some (.ref C))(hb:Binds X.K fd ps ds)(hd:aS dvs ds)(hx:Passes CX X E)
  (ha:PA X (e::es) t)(qP:(x == ("__debug__":Str))=false:=by decide)(he:starEach (e::es) X.env=(false,eval e X.env)::starEach es X.env:=by rfl)(nA:(backTo pos (starEach es X.env)).any (·.1)=false:=by rfl) :
  PE X (.Call (.Name x p) (e::es) [] pos) (NA C sp dvs E t):=by
 intro ag s σ H Q I h;refine lS (i9 I hg hm ?_ qP);refine PySem.W.callWith_K (h₀:=X.base) I.ok.mod.KQ M.kp (cq (ha pos ag s σ H _ I h) λus s1 aT=>?_) he nA;obtain⟨vs,H1,I1,r,q⟩:=aT;refine⟨I1.jj,?_⟩;exact Dw M F hr hb hd hx I1 r q
end
section
variable {X:Cx}{CX:tZ}{k:Nat}{f C:Addr}{fd:FuncData}{ps ks:List Str}{sp:Sp}{E:XK}{x m:Str}{p pos apos aae:Pos}{e o:Expr}{es:List Expr}{kws:List Keyword}{te ta:TE}{t tk:TA}{nm:Option Str}
structure We (K:aV)(fd:FuncData) (ps ks:List Str)(g:List Value->List Value->List Value)(gV:List V->List V->List V):Prop where
 to:∀(s:Shared)(us ws:List Value),K.In s.heap->(g us ws).length=ps.length->BindsTo s fd ⟨us,ks.zip ws⟩ (ps.zip (g us ws))
 rel:∀{vs:List V}{us:List Value}{zs:List V}{ws:List Value},aS vs us->aS zs ws->aS (gV vs zs) (g us ws)
variable {g:List Value->List Value->List Value}{gV:List V->List V->List V}
end
structure aH (N P:List Str)(sc:Scope):Prop where
 kind:sc.kind=.function
 co:sc.isCoroutine=false
 gen:sc.isGenerator=false
 nd:N.Nodup
 pre:N.take P.length=P
 par:∀x∈P,sc.names.lookup x=some .local\/sc.names.lookup x=some .cell
 Ky:∀y∈sc.names,y.2≠.free
def iw {N P:List Str}{sc:Scope}(a:sc.kind=.function)(b:sc.isCoroutine=false)(c:sc.isGenerator=false)(d:N.take P.length=P)(e:N.Nodup/\(∀x∈P,sc.names.lookup x=some .local\/sc.names.lookup x=some .cell)/\∀y∈sc.names,y.2≠.free):aH N P sc:=⟨a,b,c,e.1,d,e.2.1,e.2.2⟩
theorem tT {kindOf:Str->Option NameKind}{x:Str}:∀{binds:List (Str×Value)}{m:Str->Option Value},(∀v,(x,v)∉binds)->bindL kindOf binds m x=m x
 | [],_,_=>rfl
 | (n,v)::r,m,h=>by
  unfold bindL;rw [tT λw hw=>h w (bS _ hw)]
  split
  .have:x≠n:=by rintro rfl;exact h v bX
   simp [this]
  rfl
theorem tV {kindOf:Str->Option NameKind}{x:Str}:∀{binds:List (Str×Value)}{m:Str->Option Value},(∀v,(x,v)∉binds)->bindC kindOf binds m x=m x
 | [],_,_=>rfl
 | (n,v)::r,m,h=>by
  unfold bindC;rw [tV λw hw=>h w (bS _ hw)]
  split
  .rfl
  have:x≠n:=by rintro rfl;exact h v bX
  simp [this]
theorem tU {kindOf:Str->Option NameKind}{x:Str}{v:Value}:∀{P:List Str}{vs:List Value}{i:Nat}{m:Str->Option Value},P.Nodup->P[i]?=some x->vs[i]?=some v->kindOf x=some .local ->
  bindL kindOf (P.zip vs) m x=some v
 | [],_,_,_,_,h,_,_=>by simp at h
 | _::_,[],_,_,_,_,h,_=>by simp at h
 | p::P,w::vs,0,m,nd,h1,h2,hk=>by
  simp at h1 h2;subst h1;subst h2;show bindL kindOf ((p,w)::P.zip vs) m p=_;unfold bindL;rw [tT λv hv=>(jr.mp nd).1 (List.of_mem_zip hv).1,az hk];simp
 | p::P,w::vs,i+1,m,nd,h1,h2,hk=>by
  show bindL kindOf ((p,w)::P.zip vs) m x=_;unfold bindL;exact tU (i:=i) (jr.mp nd).2 (by simpa using h1) (by simpa using h2) hk
theorem tW {kindOf:Str->Option NameKind}{x:Str}{v:Value}:∀{P:List Str}{vs:List Value}{i:Nat}{m:Str->Option Value},P.Nodup->P[i]?=some x->vs[i]?=some v->kindOf x≠some .local ->
  bindC kindOf (P.zip vs) m x=some v
 | [],_,_,_,_,h,_,_=>by simp at h
 | _::_,[],_,_,_,_,h,_=>by simp at h
 | p::P,w::vs,0,m,nd,h1,h2,hk=>by
  simp at h1 h2;subst h1;subst h2;show bindC kindOf ((p,w)::P.zip vs) m p=_;unfold bindC;rw [tV λv hv=>(jr.mp nd).1 (List.of_mem_zip hv).1,aA hk];simp
 | p::P,w::vs,i+1,m,nd,h1,h2,hk=>by
  show bindC kindOf ((p,w)::P.zip vs) m x=_;unfold bindC;exact tW (i:=i) (jr.mp nd).2 (by simpa using h1) (by simpa using h2) hk
def start (N:List Str)(vs:List V):St:=vs.map some++List.replicate (N.length - vs.length) none
def eQ (CX:tZ)(P:Program)(w:World)(K:aV)(mg:Str->Option Value)(base:Heap) (N:List Str)(qual:Str)(scope:Scope)(f:Addr)(cd:Value)(A:Around)(outer:List Env)(s:Shared)(H:Hp)(E:XK):Cx where
 prog:=P
 w:=w
 K:=K
 mg:=mg
 base:=base
 A:=A.deeper (envOfC qual scope s.heap.objs.size f cd)
 N:=N
 s₀:=s
 H₀:=H
 env:=envOfC qual scope s.heap.objs.size f cd
 outer:=outer
 stack:=envOfC qual scope s.heap.objs.size f cd::outer
 ex:=[]
 calm:=true
 fn:=λ_=>true
 pn:=[]
 xe:=λe s'=>wpAny (model P w) (A.deeper (envOfC qual scope s.heap.objs.size f cd)) (leaving (envOfC qual scope s.heap.objs.size f cd) e) (λ_ Dv=>CX outer H s E e Dv) (λe' Dv=>CX outer H s E e' Dv) s'
def xA {sc:Scope}{n:Nat}{x:Str}(h:sc.names.lookup x=some .cell):∃c,(cellsFrom n sc.names []).lookup x=some c:=by
 have q:=PySem.W.cellsFrom_some sc.names n [] (.inl h);exact kq.mp q
def sY {CX:tZ}{P:Program}{w:World}{K:aV}{mg:Str->Option Value}{base:Heap}{N ps:List Str}{qual:Str}{scope:Scope}{f:Addr}{cd:Value}{A:Around}{outer:List Env}{s s1:Shared}{H:Hp}{E:XK}{us:List Value}{vs:List V}
  (S:aH N ps scope)(hd:A.handled=none)(e0:pC P w K mg base A outer s H)(hl:vs.length=ps.length)(r:aS vs us)
  (x:InCallC s s.heap.objs.size (bindL (envOfC qual scope s.heap.objs.size f cd).kindOf (ps.zip us) λ_=>none) (cellsFrom (s.heap.objs.size+1) scope.names []) (bindC (envOfC qual scope s.heap.objs.size f cd).kindOf (ps.zip us) λ_=>none) s1) :
  Inv (eQ CX P w K mg base N qual scope f cd A outer s H E) [] (start N vs) H s1:=by
 have nA:ps.length<=N.length:=by have:=congrArg List.length S.pre;rw [c_] at this;omega
 obtain⟨h1,tk,rfl,hk⟩:=x.done;have Ob:∀b:Addr,b∉(eQ CX P w K mg base N qual scope f cd A outer s H E).ex:=λb z=>absurd (show b∈([]:List Addr) from z) (by simp);refine⟨⟨e0.mod,S.kind,rfl,rfl,aI _,λy z c h1 h2=>?_,λy hy=>?_,λy c _ h=>?_,λ_=>hd,Around.frames_deeper e0.frames,.inr ⟨rfl,rfl⟩,λb z=>absurd z (Ob b),e0.bs,e0.Fd,λb _ _=>Ob b,λb z=>absurd z (Ob b),e0.mZ,e0.HA⟩,
  rfl,e0.bare,Un.kept hk,⟨_,x.toInCall.ns,λi y v h1 h2 h3=>?_⟩,λy c h=>⟨_,x.cell y c h⟩,e0.bH.fresh (aI _),λy c h=>?_,λp hp=>absurd (show p∈([]:List (Addr×Obj)) from hp) (by simp),e0.bH.kept hk,?_⟩
 .exact name_of_addr x.apart (qd h1) (qd h2)
 .have hy:scope.names.lookup y=some .cell\/scope.names.lookup y=some .free:=hy;rcases hy with hy | hy
  .exact xA hy
  exact absurd rfl (S.Ky _ (qd hy))
 .exact jz (x.above y c (qd h))
 .have hi:i < vs.length:=by
   unfold start at h2;by_cases hi:i < vs.length
   .exact hi
   rw [oF (by simpa using hi)] at h2;rw [List.getElem?_replicate] at h2
   split at h2 <;> cases h2
  have ha:vs[i]?=some v:=by
   unfold start at h2;rw [jh (by simpa using hi),aZ] at h2;cases e:vs[i]? with
   | none=>rw [e] at h2;cases h2
   | some a=>rw [e] at h2;cases h2;rfl
  obtain⟨u,hu,rv⟩:=r.get ha;have hp:ps[i]?=some y:=by
   rw [<-S.pre,so ∅];exact h1
  have WW:ps.Nodup:=by rw [<-S.pre];exact S.nd.sublist (List.take_sublist _ _)
  refine⟨u,rv,?_⟩;rcases S.par y (cb hp) with k | k
  .exact .inl ⟨k,tU WW hp hu k⟩
  obtain⟨c,e⟩:=xA (n:=s.heap.objs.size+1) k;refine .inr ⟨.inl k,c,e,?_⟩;have q:=x.cell y c e;rw [tW WW hp hu (by show scope.names.lookup y≠_;rw [k];decide)] at q;exact q
 .exact e0.bH.fresh (jz (x.above y c (qd h)))
 unfold start;show _=N.length;rw [b9,aB,List.length_replicate];omega
def wZ {CX:tZ}{P:Program}{w:World}{K:aV}{mg:Str->Option Value}{base:Heap}{k:Nat}{f:Addr}{name qual:Str}{params:Arguments}{body:List Stmt}{scope:Scope}{dV kV doc pm dw ct oc:Value}{an od:Option Addr}
  {u9:Array (Option Value)}{N ps:List Str}{sp:Sp}(lk:K.lookup f=some ⟨oc,od,.func (PySem.W.fnOf name qual params body scope dV kV doc pm an dw ct),u9⟩)(qR:PySem.W.codeIn K dw qual=true)(S:aH N ps scope)
  (len:∀vs H Q E,sp vs H Q E->vs.length=ps.length)
  (gB:∀(A:Around)(outer:List Env)(s:Shared)(H:Hp)(vs:List V)(Q:VK)(E:XK),di k (A.deeper (envOfC qual scope s.heap.objs.size f dw))->sp vs H Q E ->
   ∃t,vO (eQ CX P w K mg base N qual scope f dw A outer s H E) body t/\t { nx:=λ_ H'=>Q .dI H',rt:=Q } (start N vs) H) :
  ba P w K mg base CX (k+1) f (PySem.W.fnOf name qual params body scope dV kV doc pm an dw ct) ps sp:=by
 refine⟨len,λA outer s H args us vs Q E hr e0 hb r tq=>?_⟩;have hl:=len _ _ _ _ tq;have KX:K.In s.heap:=e0.mod.KQ.keeps λb o e=>(e0.bs b o e).1;have lim:s.heap.NoLimit:=e0.mod.nolimit.keeps λb o e=>(e0.bs b o e).1;have iN:∀y∈ps.zip us,scope.names.lookup y.1=some .local\/(scope.names.lookup y.1=some .cell/\((cellsFrom (s.heap.objs.size+1) scope.names []).lookup y.1).isSome=true):=λ⟨n,v⟩ hy=>by
  rcases S.par n (List.of_mem_zip hy).1 with q | q
  .exact .inl q
  exact .inr ⟨q,PySem.W.cellsFrom_some _ _ _ (.inl q)⟩
 refine codeAny_call_function hr.depth (KX _ _ lk) rfl S.co S.gen rfl (PySem.W.codeRec_of KX qR) (hb _ _ _ _ ?_);refine wpAny_newFunctionEnv_cells S.kind iN λenv he s1 x=>?_;subst he;refine⟨lim.keeps x.toInCall.keep,codeAny_func ?_⟩;obtain⟨t,ht,hq⟩:=gB A outer s H vs Q E (hr.deeper _) tq;have I:Inv (eQ CX P w K mg base N qual scope f dw A outer s H E) [] (start N vs) H s1:=sY S hr.hd e0 hl r x;refine cv (ht [] s1 (start N vs) H _ I hq) (λfl s' hs=>?_) λe s' hs=>hs;have fin:∀{σ':St}{H':Hp}{v:V}{u:Value},Inv (eQ CX P w K mg base N qual scope f dw A outer s H E) [] σ' H' s'->RelV v u->Q v H'->CE outer P w H s Q u s' :=
  λ{σ' H' v u} J rv q=>⟨v,H',J.os,J.bare,J.base,J.bH,rv,q⟩
 cases fl with
 | ret u =>
  obtain⟨v,σ',H',J,rv,q⟩:=hs;exact fin J rv q
 | next =>
  obtain⟨σ',H',J,q⟩:=hs;exact fin (v:=V.dI) (u:=Value.none) J rfl q
 | brk =>
  obtain⟨_,_,_,q⟩:=hs;exact False.elim q
 | cont =>
  obtain⟨_,_,_,q⟩:=hs;exact False.elim q
section
variable {X:Cx}{x:Str}{p pos:Pos}{e:Expr}{es:List Expr}{t:TA}{id T:String}{r:List V->Hp->VK->Prop}
def R4 (r:List V->Hp->VK->Prop)(t:TA):TE:=λσ H Q=>t σ H λvs H1=>r vs H1 Q
def aN (hc:fA X (.builtin id) r)(hg:Gl X x)(hm:X.mg x=none)(hv:bootBuiltins x=some (.builtin id))(ha:PA X (e::es) t)(hn:x ≠ "__name__" := by decide)(qP:(x == ("__debug__":Str))=false:=by decide)
  (he:starEach (e::es) X.env=(false,eval e X.env)::starEach es X.env:=by rfl)(nA:(backTo pos (starEach es X.env)).any (·.1)=false:=by rfl):PE X (.Call (.Name x p) (e::es) [] pos) (R4 r t):=by
 intro ag s σ H Q I h;refine lS (i_ I hg hm hv ?_ hn qP);refine PyProof.Rows.callWith_builtin1 (cq (ha pos ag s σ H _ I h) λus s1 aT=>?_) he nA;obtain⟨vs,H1,I1,r1,q1⟩:=aT;exact hc ag s1 σ H1 vs us Q I1 r1 q1
def bc (hc:fA X (.type T) r)(hg:Gl X x)(hm:X.mg x=none)(hv:bootBuiltins x=some (.type T))(ha:PA X (e::es) t)(hn:x ≠ "__name__" := by decide)(qP:(x == ("__debug__":Str))=false:=by decide)
  (he:starEach (e::es) X.env=(false,eval e X.env)::starEach es X.env:=by rfl)(nA:(backTo pos (starEach es X.env)).any (·.1)=false:=by rfl):PE X (.Call (.Name x p) (e::es) [] pos) (R4 r t):=by
 intro ag s σ H Q I h;refine lS (i_ I hg hm hv ?_ hn qP);refine uE (cq (ha pos ag s σ H _ I h) λus s1 aT=>?_) he nA;obtain⟨vs,H1,I1,r1,q1⟩:=aT;exact hc ag s1 σ H1 vs us Q I1 r1 q1
end
end L2
namespace HT
open PySem PyProof.Rows
section
open PySem.SeqAt
open PySem.AutoSeq1 (wpAny_loadPart')
open PySem.MeetsSeq PySem.MeetsSeq2 PySem.MeetsSeq3
end
section
variable {prog:Program}{w:World}{A:Around}{E:Value->Shared->Prop}{s:Shared}
def HP {t b:Addr}{vs ws:List Value}{Q:Value->Shared->Prop}(ht:IsTup s.heap t vs.toArray)(hb:IsTup s.heap b ws.toArray)(hv:vs≠[])
  (h1:ws=[]->Q (.ref t) s)(h2:ws≠[]->Q (.ref s.heap.objs.size) { s with heap:=s.heap.push { cls:=.type "tuple",data:=.seq (vs++ws).toArray } })
  (hsz:vs.length+ws.length<=sizeLine):wpAny (model prog w) A (binaryOp .Add (.ref t) (.ref b)) Q E s:=by
 obtain⟨⟨cls,dd,data,sl⟩,ho,hc,n,hd⟩:=id ht;obtain⟨⟨VD,M_,data2,QE⟩,FN,FQ,n2,hd2⟩:=id hb;simp only at hc hd FQ hd2;subst hc hd FQ hd2;have e:vs.toArray++ws.toArray=(vs++ws).toArray:=by simp
 by_cases hw:ws=[]
 .exact concat_meets ⟨_,ho,rfl⟩ ⟨_,FN,rfl⟩ noFill_tuple_add seq_tuple_add xZ x8 (x_ _ _)
   (tuple_addW1 t b vs.toArray ws.toArray n n2 dd M_ sl QE (by simpa using hv) (by simp [hw])) ⟨ho,FN,h1 hw⟩
 refine concat_meets ⟨_,ho,rfl⟩ ⟨_,FN,rfl⟩ noFill_tuple_add seq_tuple_add xZ x8 (x_ _ _)
  (tuple_addW2 t b vs.toArray ws.toArray n n2 dd M_ sl QE (by simpa using hv) (by simpa using hw) (by rw [bO,bO];exact hsz)) ⟨ho,FN,?_⟩
 rw [e];exact h2 hw
def dA (n d:Nat):Option Int->Nat
 | none=>d
 | some v=>if v < 0 then (v+(n:Int)).toNat else min v.toNat n
def Ds (n d:Nat):dA n d none=d:=rfl
def i4 (n d k:Nat):dA n d (some (k:Int))=min k n:=by
 show (if (k:Int) < 0 then ((k:Int)+(n:Int)).toNat else min (k:Int).toNat n)=min k n;rw [aA ∅,iD]
def JV (n d:Nat)(hd:d<=n)(o:Option Int):dA n d o<=n:=by
 cases o with
 | none=>exact hd
 | some v =>
  show (if v < 0 then (v+(n:Int)).toNat else min v.toNat n)<=n;by_cases hv:v < 0
  .rw [az hv];omega
  rw [aA hv];exact Nat.min_le_right _ _
def A6 (v:Int) (n d:Nat):(if v < 0 then max (v+(n:Int)) 0 else min v (n:Int))=((dA n d (some v):Nat):Int):=by
 show (if v < 0 then max (v+(n:Int)) 0 else min v (n:Int))=(((if v < 0 then (v+(n:Int)).toNat else min v.toNat n):Nat):Int);by_cases hv:v < 0
 .simp only [az hv];omega
 simp only [aA hv];omega
def zR (lo hi:Option Int) (n:Nat):Builtin.Slice.sliceAdjust lo hi 1 (n:Int)=(((dA n 0 lo:Nat):Int),((dA n n hi:Nat):Int)):=by
 have h1:¬((1:Int) < 0):=by omega
 unfold Builtin.Slice.sliceAdjust;simp only [h1,if_false];refine Prod.ext ?_ ?_
 .cases lo with
  | none=>rfl
  | some v=>exact A6 v n 0
 cases hi with
 | none=>rfl
 | some v=>exact A6 v n n
def yN (i j:Nat):Builtin.Slice.slicePlaces (i:Int) (j:Int) 1=j - i:=by
 unfold Builtin.Slice.slicePlaces;have h1:(1:Int) > 0:=by omega
 simp only [h1,if_true,Int.ediv_one]
 split <;> omega
def ql {v:Value}{o:Option Int}{Q:Option Int->Shared->Prop}(p:IsPart v o)(h:Q o s):wpAny (model prog w) A (Builtin.Slice.slicePartIndex v) Q E s:=by
 cases p with
 | none=>exact slicePart_none h
 | int i t=>exact slicePart_int h
def iH {sl:Addr}{vl vu:Value}{lo hi:Option Int}{n:Nat}{Q:Int×Int×Nat->Shared->Prop}(hs:s.heap.IsSliceOf sl vl vu .none)(pl:IsPart vl lo)(pu:IsPart vu hi)
  (h:Q (((dA n 0 lo:Nat):Int),1,dA n n hi - dA n 0 lo) s):wpAny (model prog w) A (Builtin.Slice.sliceApplied (.ref sl) (pure (n:Int))) Q E s:=by
 obtain⟨os,K8,Hs,O_⟩:=id hs;unfold Builtin.Slice.sliceApplied Builtin.Slice.sliceFields;refine ax (ax (fQ K8 O_ (x:=vl) rfl (ax (fQ K8 O_ (x:=vu) rfl (ax (fQ K8 O_ (x:=.none) rfl (aD ?_)))))));refine ax (slicePart_none ?_);show wpAny _ _ (if ((1:Int) == 0)=true then _ else _) _ _ s;rw [aA nofun];refine ax (ql pl (ax (ql pu (ax (aD ?_)))));show wpAny _ _ (match Builtin.Slice.sliceAdjust lo hi 1 (n:Int) with | (lo,hi)=>pure (lo,(1:Int),Builtin.Slice.slicePlaces lo hi 1)) _ _ s
 rw [zR lo hi n];show wpAny _ _ (pure (((dA n 0 lo:Nat):Int),(1:Int),Builtin.Slice.slicePlaces ((dA n 0 lo:Nat):Int) ((dA n n hi:Nat):Int) 1)) _ _ s;rw [yN];exact aD h
def DJ (xs:Array Value) (i k:Nat):((List.range k).filterMap λ(m:Nat)=>xs[((i:Int)+(m:Int) * 1).toNat]?).toArray=((xs.toList.drop i).take k).toArray:=by
 have e:(λ(m:Nat)=>xs[((i:Int)+(m:Int) * 1).toNat]?)=λm=>xs[i+m]?:=by
  funext m
  have:((i:Int)+(m:Int) * 1).toNat=i+m:=by omega
  rw [this]
 rw [e];have:=pick_run xs i k;rw [List.filterMap_map] at this;have e2:((λx=>xs[x]?) ∘ λx=>i+x)=λm=>xs[i+m]?:=rfl;rw [e2] at this;rw [this]
def mT {t sl:Addr}{items:Array Value}{vl vu:Value}{lo hi:Option Int}{Q:Value->Shared->Prop}(ht:IsTup s.heap t items)(hs:s.heap.IsSliceOf sl vl vu .none)(pl:IsPart vl lo)(pu:IsPart vu hi)
  (hw:¬(dA items.size 0 lo=0/\dA items.size items.size hi=items.size))
  (h:Q (.ref s.heap.objs.size) { s with heap:=s.heap.push { cls:=.type "tuple",data:=.seq ((items.toList.drop (dA items.size 0 lo)).take (dA items.size items.size hi - dA items.size 0 lo)).toArray } })
  (hsz:items.size<=sizeLine):wpAny (model prog w) A (getItem (.ref t) (.ref sl)) Q E s:=by
 have AM:sizeOk (.seq ((items.toList.drop (dA items.size 0 lo)).take (dA items.size items.size hi - dA items.size 0 lo)).toArray):=by
  show ((items.toList.drop (dA items.size 0 lo)).take (dA items.size items.size hi - dA items.size 0 lo)).toArray.size<=sizeLine;rw [bO,c_,jd,uj];omega
 have hj:dA items.size items.size hi<=items.size:=JV _ _ (aI _) hi;obtain⟨os,K8,Hs,O_⟩:=id hs;have UQ:s.TypeIs (.ref sl) "slice" := ⟨os,K8,Hs⟩;unfold getItem
 try with_reducible refine fK ?_
 first | refine ax (aD ?_) | skip
 refine ax (wpAny_sequenceKey ht.typeIs nofun ?_);refine ax (sj (name:=Str.ofString "__getitem__") ht.typeIs sq
  (nK sq ht.typeIs entry_tuple_getitem ?_ (args_tuple_getitem _ _)))
 show wpAny _ _ (Builtin.Tuple.tupleItemsOf (.ref t) >>= _) _ _ s;refine ax (tupleItemsOf_ ht ?_);refine ax (ik UQ ?_);rw [az nofun];refine ax (iH hs pl pu ?_);have hno:¬((((dA items.size 0 lo:Nat):Int) == 0 && (1:Int) == 1 && (dA items.size items.size hi - dA items.size 0 lo) == items.size)=true):=by
  intro q;rw [jt,jt] at q;have q1:((dA items.size 0 lo:Nat):Int)=0:=eq_of_beq q.1.1;have q2:dA items.size items.size hi - dA items.size 0 lo=items.size:=eq_of_beq q.2;exact hw ⟨∅,∅⟩
 show wpAny _ _ (if (((dA items.size 0 lo:Nat):Int) == 0 && (1:Int) == 1 && (dA items.size items.size hi - dA items.size 0 lo) == items.size)=true then _ else _) _ _ s;rw [aA hno,DJ]
 first
  | exact ax (m:=Builtin.Tuple.tupleExact _) (ju (aD ⟨_,rfl,aD h⟩) AM)
  | exact ax (m:=Builtin.Tuple.tupleExact _) (ju (ax (aD (aD ⟨_,rfl,aD h⟩))) AM)
  | exact ax (ax (m:=Builtin.Tuple.tupleExact _) (ju (aD (aD ⟨_,rfl,aD h⟩)) AM))
  | exact ax (ax (m:=Builtin.Tuple.tupleExact _) (ju (aD ⟨_,rfl,aD h⟩) AM))
end
end HT
namespace L2
open PySem PySem.Spec PyProof.Rows
abbrev TO:=St->Hp->(Option Int->Hp->Prop)->Prop
def PO (X:Cx)(e:Option Expr)(t:TO):Prop :=
 ∀(ag:List (Addr×Obj))(s:Shared)(σ:St)(H:Hp)(Q:Option Int->Hp->Prop),Inv X ag σ H s->t σ H Q ->
  wpAny (model X.prog X.w) X.A (evalPart e X.env) (λu s'=>∃o H',Inv X ag σ H' s'/\IsPart u o/\Q o H') X.xe s
def Gf:TO:=λ_ H Q=>Q none H
def Nu (t:TE):TO:=λσ H Q=>t σ H λx H1=>V8 x λi=>Q (some i) H1
def intsAre_of {ns:List Int}:∀{us:List Value},aS (ns.map V.int) us->IntsAre us ns:=by
 induction ns with
 | nil=>intro us r;rw [jy] at r;cases r;exact .nil
 | cons n ns ih =>
  intro us r;rw [bG] at r;cases r with
  | cons r1 r2 =>
   obtain⟨t,e⟩:=r1;subst e;exact .cons n t (ih r2)
section
variable {X:Cx}{e:Expr}{te:TE}{lo hi:Option Expr}{tl th:TO}{pos p2:Pos}
def ic:PO X none Gf:=by
 intro ag s σ H Q I h;rw [evalPart_none];exact aD ⟨none,H,I,.none,h⟩
def dB (h:PE X e te):PO X (some e) (Nu te):=by
 intro ag s σ H Q I hw;rw [evalPart_some];refine cq (h ag s σ H _ I hw) λu s1 aT=>?_;obtain⟨x,H1,I1,r1,q1⟩:=aT;obtain⟨i,rfl,q⟩:=q1;obtain⟨t,rfl⟩:=r1;exact⟨some i,H1,I1,.int i t,q⟩
def HV (X:Cx)(r:V->Option Int->Option Int->Hp->VK->Prop):Prop :=
 ∀(ag:List (Addr×Obj))(s:Shared)(σ:St)(H:Hp)(x:V)(v vl vu:Value)(lo hi:Option Int)(sl:Addr)(Q:VK),Inv X ag σ H s->RelV x v->s.heap.IsSliceOf sl vl vu .none->IsPart vl lo->IsPart vu hi->r x lo hi H Q ->
  ∃T id,typeLookup (.type T) "__getitem__"=pure (some (.builtin id))/\s.TypeIs v T/\wpAny (model X.prog X.w) X.A (getItem v (.ref sl)) (EP X ag σ Q) X.xe s
def HV.or {r r':V->Option Int->Option Int->Hp->VK->Prop}(h:HV X r)(h':HV X r'):HV X (λx lo hi H Q=>r x lo hi H Q\/r' x lo hi H Q):=by
 intro ag s σ H x v vl vu lo hi sl Q I rx hs pl pu q;rcases q with q | q
 .exact h ag s σ H x v vl vu lo hi sl Q I rx hs pl pu q
 exact h' ag s σ H x v vl vu lo hi sl Q I rx hs pl pu q
def Zc (r:V->Option Int->Option Int->Hp->VK->Prop)(te:TE)(tl th:TO):TE:=λσ H Q=>te σ H λx H1=>tl σ H1 λl H2=>th σ H2 λu H3=>r x l u H3 Q
def dW {r:V->Option Int->Option Int->Hp->VK->Prop}(hr:HV X r)(he:PE X e te)(hl:PO X lo tl)(hu:PO X hi th):PE X (.Subscript e (.Slice lo hi none p2) pos) (Zc r te tl th):=by
 intro ag s σ H Q I h;refine Subscript_ (cq (he ag s σ H _ I h) λv s1 aT=>?_);obtain⟨x,H1,I1,r1,q1⟩:=aT;refine wpAny_Slice (cq (hl ag s1 σ H1 _ I1 q1) λvl s2 aT=>?_);obtain⟨l,H2,I2,pl,q2⟩:=aT;refine cq (hu ag s2 σ H2 _ I2 q2) λvu s3 aT=>?_;obtain⟨u,H3,I3,pu,q3⟩:=aT;rw [evalPart_none];refine aD ?_;have I4:Inv X ag σ H3 { s3 with heap:=s3.heap.push { cls:=.type "slice",data:=.fields #[vl,vu,.none] } }:=I3.kept (t':=s3.toks) λb ob q=>bD _ q;obtain⟨T,id,hT,ht,hg⟩:=hr ag { s3 with heap:=s3.heap.push { cls:=.type "slice",data:=.fields #[vl,vu,.none] } } σ H3 x v vl vu l u s3.heap.objs.size Q I4 r1 (Heap.IsSliceOf.new ..) pl pu q3;show wpAny (model X.prog X.w) X.A (subscriptTail e (.Slice lo hi none p2) v (.ref s3.heap.objs.size)) (EP X ag σ Q) X.xe { s3 with heap:=s3.heap.push { cls:=.type "slice",data:=.fields #[vl,vu,.none] } };exact tail_any (ops:=[.ref s3.heap.objs.size,v]) ht hT hg (by with_unfolding_all rfl)
def gC (xs:List V)(lo hi:Option Int):List V:=(xs.drop (HT.dA xs.length 0 lo)).take (HT.dA xs.length xs.length hi - HT.dA xs.length 0 lo)
def oP (xs:List V)(lo hi:Option Int):(gC xs lo hi).length<=xs.length:=by
 unfold gC;rw [c_,jd];omega
def Sh (K:aV):V->Option Int->Option Int->Hp->VK->Prop:=λx lo hi H Q=>∃a xs,x=.ref a/\a9 K H a xs /\
 ¬(HT.dA xs.length 0 lo=0/\HT.dA xs.length xs.length hi=xs.length)/\∀p,H p=none->Q (.ref p) (upd H p (.tup (gC xs lo hi)))
def JN:HV X (Sh X.K):=by
 intro ag s σ H x v vl vu lo hi sl Q I rx hs pl pu h;obtain⟨a,xs,rfl,hx,hw,q⟩:=h;cases rx;obtain⟨aO,r,ht,hz⟩:=I.tuple hx;have a8:aO.toArray.size=xs.length:=by rw [bO];exact r.length.symm
 refine⟨"tuple",_,sq.lookup,ht.typeIs,?_⟩;refine HT.mT ht hs pl pu (by rw [a8];exact hw) ?_ (by rw [a8];exact hz);rw [a8];refine⟨.ref s.heap.objs.size,_,I.laid (t':=s.toks) (o:=.tup (gC xs lo hi)) (λb ob q=>bD _ q) (aI _) ?_,rfl,q _ (I.bH.fresh (aI _))⟩;exact⟨cC (oP xs lo hi) hz,_,(r.drop (HT.dA xs.length 0 lo)).take (HT.dA xs.length xs.length hi - HT.dA xs.length 0 lo),IsTup.new _ _⟩
def N1 (K:aV):R2:=λx y H Q=>∃a b xs ys,x=.ref a/\y=.ref b/\a9 K H a xs/\a9 K H b ys/\xs≠[]/\xs.length+ys.length<=sizeLine /\
 (ys=[]->Q (.ref a) H)/\(ys≠[]->∀p,H p=none->Q (.ref p) (upd H p (.tup (xs++ys))))
def aS.pK {xs:List V}{us:List Value}(r:aS xs us):us=[]↔xs=[]:=by
 cases r with
 | nil=>simp
 | cons _ _=>simp
def G0:j9 X (binaryOp .Add) (N1 X.K):=by
 intro ag s σ H x y v u Q I rx ry h;obtain⟨a,b,xs,ys,rfl,rfl,ha,hb,hx,hz,q1,q2⟩:=h;cases rx;cases ry;obtain⟨aO,r1,p1,_⟩:=I.tuple ha;obtain⟨ja,r2,p2,_⟩:=I.tuple hb;refine HT.HP p1 p2 (λz=>hx (r1.pK.mp z)) (λz=>⟨.ref a,H,I,rfl,q1 (r2.pK.mp z)⟩) (λz=>?_) (by rw [<-r1.length,<-r2.length];exact hz);refine⟨.ref s.heap.objs.size,_,I.laid (t':=s.toks) (o:=.tup (xs++ys)) (λb ob q=>bD _ q) (aI _) ?_,rfl,q2 (λw=>z (r2.pK.mpr w)) _ (I.bH.fresh (aI _))⟩;exact⟨by rw [b9];exact hz,_,r1.append r2,IsTup.new _ _⟩
end
def FK (n:Nat) (i:Int):Option Nat:=if 0<=i then (if i < n then some i.toNat else none) else if -(n:Int)<=i then some (i+n).toNat else none
def ir {α:Type}(xs:List α) (i:Int):Option α:=(FK xs.length i).bind λj=>xs[j]?
def AL {n:Nat}{i:Int}{j:Nat}(h:FK n i=some j):seqIndex? i n=some j/\j < n/\-(n:Int)<=i/\i < n:=by
 unfold FK at h;by_cases h0:0<=i
 .rw [az h0] at h;by_cases h1:i < n
  .rw [az h1] at h;have e:i.toNat=j:=gM h;exact⟨by rw [seqIndex_of h0 h1,e],∅,∅,h1⟩
  rw [aA h1] at h;cases h
 rw [aA h0] at h;by_cases h1:-(n:Int)<=i
 .rw [az h1] at h;have e:(i+n).toNat=j:=gM h;exact⟨by rw [seqIndex_neg ∅ h1,e],∅,h1,∅⟩
 rw [aA h1] at h;cases h
def vF {α:Type}{xs:List α}{i:Int}{v:α}(h:ir xs i=some v):∃j,seqIndex? i xs.length=some j/\xs[j]?=some v/\j < xs.length/\-(xs.length:Int)<=i/\i < xs.length:=by
 unfold ir at h;cases e:FK xs.length i with
 | none=>rw [e] at h;cases h
 | some j =>
  rw [e] at h;obtain⟨h1,h2,h3,h4⟩:=AL e;exact⟨j,h1,h,h2,h3,h4⟩
def bj {α:Type}{xs:List α}{j:Nat}{v:α}(h:xs[j]?=some v):ir xs (j:Int)=some v:=by
 have hj:j < xs.length:=(bo.mp h).1;have e:FK xs.length (j:Int)=some j:=by
  unfold FK;rw [az ∅,az ∅];simp
 unfold ir;rw [e];exact h
def HW (b:Expr):Prop:=∀o i,subscripted b false o i=operate [o,i] (getItem o i)
def HY (X:Cx)(r:R2):Prop :=
 ∀(value slice:Expr)(ag:List (Addr×Obj))(s:Shared)(σ:St)(H:Hp)(x y:V)(v u:Value)(Q:VK),Inv X ag σ H s->RelV x v->RelV y u->r x y H Q ->
  subscripted slice false v u=operate [v,u] (getItem v u)->wpAny (model X.prog X.w) X.A (subscriptTail value slice v u) (EP X ag σ Q) X.xe s
def Ql (X:Cx)(id:String)(r:V->List V->Hp->VK->Prop):Prop :=
 ∀(ag:List (Addr×Obj))(s:Shared)(σ:St)(H:Hp)(x:V)(xs:List V)(v:Value)(us:List Value)(Q:VK),Inv X ag σ H s->RelV x v->aS xs us->r x xs H Q ->
  wpAny (model X.prog X.w) X.A (call (.builtin id) (v::us)) (EP X ag σ Q) X.xe s
section
variable {X:Cx}{a b:Expr}{ta tb:TE}{pos:Pos}
def HY.or {r r':R2}(h:HY X r)(h':HY X r'):HY X (λx y H Q=>r x y H Q\/r' x y H Q):=by
 intro value slice ag s σ H x y v u Q I rx ry q hs;rcases q with q | q
 .exact h value slice ag s σ H x y v u Q I rx ry q hs
 exact h' value slice ag s σ H x y v u Q I rx ry q hs
def Ql.or {id:String}{r r':V->List V->Hp->VK->Prop}(h:Ql X id r)(h':Ql X id r'):Ql X id (λx xs H Q=>r x xs H Q\/r' x xs H Q):=by
 intro ag s σ H x xs v us Q I rx rs q;rcases q with q | q
 .exact h ag s σ H x xs v us Q I rx rs q
 exact h' ag s σ H x xs v us Q I rx rs q
def aP {r:R2}(hr:HY X r)(ha:PE X a ta)(hb:PE X b tb)(hs:HW b):PE X (.Subscript a b pos) (Mo r ta tb):=by
 intro ag s σ H Q I h;exact Subscript_ (LX ha hb I h λv u s2 x y H2 I2 rx ry q=>hr a b ag s2 σ H2 x y v u Q I2 rx ry q (hs _ _))
inductive V7 (S:Addr->List V->Prop)(x y:V)(R:V->Prop):Prop
|mk(p:Addr)(xs:List V) (i:Int)(v:V)(e:x=.ref p)(e2:y=.int i)(s:S p xs)(a:ir xs i=some v)(q:R v)
def Ki (K:aV):R2:=λx y H Q=>V7 (aG K H) x y λv=>Q v H
def Sk (K:aV):R2:=λx y H Q=>V7 (a9 K H) x y λv=>Q v H
def Sl:R2:=λx y H Q=>∃z i c,x=.str z/\y=.int i/\z.length<=sizeLine/\ir z.cps.toList i=some c/\Q (.str ⟨#[c]⟩) H
def bz:HY X (Ki X.K):=by
 intro value slice ag s σ H x y v u Q I rx ry h hs;obtain⟨p,xs,i,z,rfl,rfl,hq,he,q⟩:=h;cases rx;obtain⟨t,rfl⟩:=ry;obtain⟨aO,r,pl,hz⟩:=I.list hq;obtain⟨j,h1,h2,h3,h4,h5⟩:=vF he;obtain⟨w,ew,yH⟩:=r.get h2;have hl:=r.length;have hn:=kZ;have fin:EP X ag σ Q w s:=⟨z,H,I,yH,q⟩;by_cases h0:0<=i
 .have hj:i.toNat=j:=by
   rw [seqIndex_of h0 h5] at h1;exact gM h1
  exact item_listR pl.isList h0 ∅ (by rw [hj];simpa using ew) fin hs
 have hj:(i+(aO.toArray.size:Int)).toNat=j:=by
  rw [seqIndex_neg ∅ h4] at h1;rw [bO,<-hl];exact gM h1
 exact subscriptTail_builtinR (x:=w) pl.isList.typeIs slot_list_getitem.lookup
  (wpAny_getItem_list_neg (Q:=λr s'=>r=w/\EP X ag σ Q r s') pl.isList ∅ (by rw [bO] <;> omega) ∅ (by rw [hj];simpa using ew) ⟨rfl,fin⟩) hs
def bL:HY X (Sk X.K):=by
 intro value slice ag s σ H x y v u Q I rx ry h hs;obtain⟨p,xs,i,z,rfl,rfl,hq,he,q⟩:=h;cases rx;obtain⟨t,rfl⟩:=ry;obtain⟨aO,r,pl,hz⟩:=I.tuple hq;obtain⟨j,h1,h2,h3,h4,h5⟩:=vF he;obtain⟨w,ew,yH⟩:=r.get h2;have hl:=r.length;have hn:=kZ;have fin:EP X ag σ Q w s:=⟨z,H,I,yH,q⟩;exact subscriptTail_builtinR (x:=w) pl.typeIs slot_tuple_getitem.lookup
  (getItem_tuple (j:=j) (Q:=λr s'=>r=w/\EP X ag σ Q r s') pl ∅ ∅ (by rw [bO,<-hl];exact h1) (by simpa using ew) ⟨rfl,fin⟩) hs
def Ez:HY X Sl:=by
 intro value slice ag s σ H x y v u Q I rx ry h hs;obtain⟨z,i,c,rfl,rfl,hz,he,q⟩:=h;obtain⟨t,rfl⟩:=rx;obtain⟨t',rfl⟩:=ry;obtain⟨j,h1,h2,h3,h4,h5⟩:=vF he;have hl:z.cps.toList.length=z.length:=by simp [Str.length]
 rw [hl] at h1 h4 h5;have hn:=kZ;exact tail_any (typeIs_str s z t) slot_str_getitem.lookup (getItem_str (c:=c) (by
  have e1:decide (i < -(2 ^ 63:Int))=false:=ff ∅;have e2:decide (i≥2 ^ 63)=false:=ff ∅;rw [e1,e2,Bool.or_false]) (by rw [h1];simpa using h2) ⟨.str ⟨#[c]⟩,H,I.tok _,⟨_,rfl⟩,q⟩) hs
def zf (aO:List Value) (n j:Nat)(u:Value):Obj.mapSeq (·.setIfInBounds j u) { cls:=.type "list",data:=.seq aO.toArray n }={ cls:=.type "list",data:=.seq (aO.set j u).toArray n }:=by
 simp [Obj.mapSeq]
theorem Inv.lst {ag:List (Addr×Obj)}{σ:St}{H:Hp}{s:Shared}{p:Addr}{xs:List V}(I:Inv X ag σ H s)(h:H p=some (.lst xs)) :
  ∃(aO:List Value) (n:Nat),aS xs aO/\s.heap.get? p=some { cls:=.type "list",data:=.seq aO.toArray n }/\xs.length<=sizeLine:=by
 obtain⟨z,aO,n,r,e⟩:=I.bH p _ h;exact⟨aO,n,r,e,z⟩
def Inv.KD {ag:List (Addr×Obj)}{σ:St}{H:Hp}{s:Shared}{p:Addr}{xs ys:List V}{aO lh:List Value}{n n':Nat}{f:Obj->Obj}(I:Inv X ag σ H s)(h:H p=some (.lst xs))
  (ho:s.heap.get? p=some { cls:=.type "list",data:=.seq aO.toArray n })(hf:f { cls:=.type "list",data:=.seq aO.toArray n }={ cls:=.type "list",data:=.seq lh.toArray n' })(r:aS ys lh)(hz:ys.length<=sizeLine) (t:Nat) :
  Inv X ag σ (upd H p (.lst ys)) { s with heap:=s.heap.update p f,toks:=t }:=by
 have e:(s.heap.update p f).get? p=some { cls:=.type "list",data:=.seq lh.toArray n' }:=by
  rw [lZ f ho (by rw [hf] <;> rfl),hf]
 refine I.write (x:=p) (e:=p) (by rw [h];trivial) (.inl rfl) (λb u hb q=>(gu _ _ (eV hb)).trans q) ⟨_,e⟩ ?_;exact⟨hz,lh,n',r,e⟩
def N0:V->V->V->Hp->(Hp->Prop)->Prop:=λo i v H Q=>∃p xs k j,o=.ref p/\i=.int k/\H p=some (.lst xs)/\FK xs.length k=some j/\Q (upd H p (.lst (xs.set j v)))
def set_list:Qg X N0:=by
 intro ag s σ H o i v ov iv u Q I ro ri rv h;obtain⟨p,xs,k,j,rfl,rfl,hp,hj,q⟩:=h;cases ro;obtain⟨t,rfl⟩:=ri;obtain⟨aO,n,r,ho,hz⟩:=I.lst hp;obtain⟨h1,h2,h3,h4⟩:=AL hj;have hl:=r.length;have hn:=kZ;have I':Inv X ag σ (upd H p (.lst (xs.set j v))) { s with heap:=s.heap.update p (Obj.mapSeq (·.setIfInBounds j u)) } :=
  I.KD hp ho (zf aO n j u) (r.set rv j) (by rw [List.length_set];exact hz) s.toks
 by_cases h0:0<=k
 .have hk:k.toNat=j:=by
   rw [seqIndex_of h0 h4] at h1;exact gM h1
  exact PySem.W.ki_setAt ho h0 ∅ (by rw [bO,<-hl];exact h4) (by rw [hk];exact⟨_,I',q⟩)
 have hk:(k+(aO.toArray.size:Int)).toNat=j:=by
  rw [seqIndex_neg ∅ h3] at h1;rw [bO,<-hl];exact gM h1
 exact PySem.W.ki_setBack ho ∅ (by rw [bO,<-hl];exact h3) ∅ (by rw [hk];exact⟨_,I',q⟩)
def uO (lo hi:Option Int) (n:Nat):(sliceBounds lo hi none n).1=((HT.dA n 0 lo:Nat):Int)/\(sliceBounds lo hi none n).2.1=((HT.dA n n hi:Nat):Int)/\(sliceBounds lo hi none n).2.2=1:=by
 refine⟨?_,?_,rfl⟩
 .cases lo with
  | none=>simp [sliceBounds,HT.dA]
  | some i =>
   simp only [sliceBounds,HT.dA,Option.getD_none,show (1:Int) > 0 by decide,if_true];by_cases h:i < 0
   .simp only [h,if_true] <;> omega
   simp only [h,if_false] <;> omega
 cases hi with
 | none=>simp [sliceBounds,HT.dA]
 | some i =>
  simp only [sliceBounds,HT.dA,Option.getD_none,show (1:Int) > 0 by decide,if_true];by_cases h:i < 0
  .simp only [h,if_true] <;> omega
  simp only [h,if_false] <;> omega
def rT (aO:List Value)(lo hi:Option Int):slicePick aO.toArray lo hi none=((aO.drop (HT.dA aO.length 0 lo)).take (HT.dA aO.length aO.length hi - HT.dA aO.length 0 lo)).toArray:=by
 obtain⟨h1,h2,h3⟩:=uO lo hi aO.toArray.size;unfold slicePick;rw [h1,h2,h3];simp only [sliceRange_one,pick_run,bO] <;> rfl
def Si (K:aV):V->Option Int->Option Int->Hp->VK->Prop:=λx lo hi H Q=>V6 x (aG K H) λxs=>∀p,H p=none->Q (.ref p) (upd H p (.lst (gC xs lo hi)))
def hZ:HV X (Si X.K):=by
 intro ag s σ H x v vl vu lo hi sl Q I rx hs pl pu h;obtain⟨a,xs,rfl,hx,q⟩:=h;cases rx;obtain⟨aO,r,ht,hz⟩:=I.list hx;have a8:=r.length;refine⟨"list",_,slot_list_getitem.lookup,ht.isList.typeIs,?_⟩;refine wpAny_getItem_list_slice ht.isList hs pl pu .none (by simp) ?_ (by rw [bO] <;> omega)
 rw [rT,<-a8];refine⟨.ref s.heap.objs.size,_,I.laid (t':=s.toks) (o:=.lst (gC xs lo hi)) (λb ob q=>bD _ q) (aI _) ?_,rfl,q _ (I.bH.fresh (aI _))⟩;exact⟨cC (oP xs lo hi) hz,_,0,(r.drop (HT.dA xs.length 0 lo)).take (HT.dA xs.length xs.length hi - HT.dA xs.length 0 lo),cQ _ rfl⟩
def kI:V->Bool
 | .dI=>true
 | .bl _=>true
 | .int _=>true
 | .str _=>true
 | _=>false
def FX:V->V->Bool
 | .dI,.dI=>true
 | .bl a,.bl b=>a == b
 | .bl a,.int b=>(if a then 1 else 0) == b
 | .int a,.bl b=>a == (if b then 1 else 0)
 | .int a,.int b=>a == b
 | .str a,.str b=>a == b
 | _,_=>false
def LI {A:Around}{s:Shared}{y x:V}{u v:Value}(ry:RelV y u)(rx:RelV x v)(fy:kI y=true)(fx:kI x=true):SeqAt.EqAt A s u v (FX y x):=by
 cases y with
 | dI =>
  cases ry;cases x with
  | dI=>cases rx;exact SeqAt.EqAt.same _
  | bl b=>cases rx;exact SeqAt.EqAt.none_bool b
  | int b=>obtain⟨t,rfl⟩:=rx;exact SeqAt.EqAt.none_int b t
  | str b=>obtain⟨t,rfl⟩:=rx;exact SeqAt.EqAt.none_str b t
  | _=>exact absurd (show false=true from fx) cW
 | bl a =>
  cases ry;cases x with
  | dI=>cases rx;exact SeqAt.EqAt.bool_none a
  | bl b=>cases rx;exact SeqAt.EqAt.bool_bool a b
  | int b=>obtain⟨t,rfl⟩:=rx;exact SeqAt.EqAt.bool_int a b t
  | str b=>obtain⟨t,rfl⟩:=rx;exact SeqAt.EqAt.bool_str a b t
  | _=>exact absurd (show false=true from fx) cW
 | int a =>
  obtain⟨t',rfl⟩:=ry;cases x with
  | dI=>cases rx;exact SeqAt.EqAt.int_none a t'
  | bl b=>cases rx;exact SeqAt.EqAt.int_bool a t' b
  | int b=>obtain⟨t,rfl⟩:=rx;exact SeqAt.EqAt.int_int a t' b t
  | str b=>obtain⟨t,rfl⟩:=rx;exact SeqAt.EqAt.int_str a t' b t
  | _=>exact absurd (show false=true from fx) cW
 | str a =>
  obtain⟨t',rfl⟩:=ry;cases x with
  | dI=>cases rx;exact SeqAt.EqAt.str_none a t'
  | bl b=>cases rx;exact SeqAt.EqAt.str_bool a t' b
  | int b=>obtain⟨t,rfl⟩:=rx;exact SeqAt.EqAt.str_int a t' b t
  | str b=>obtain⟨t,rfl⟩:=rx;exact SeqAt.EqAt.str_str a t' b t
  | _=>exact absurd (show false=true from fx) cW
 | _=>exact absurd (show false=true from fy) cW
def zF (x:V)(u:Value):Bool:=match u with
 | .none=>FX .dI x
 | .bool b=>FX (.bl b) x
 | .int i _=>FX (.int i) x
 | .str z _=>FX (.str z) x
 | _=>false
def EZ {x y:V}{u:Value}(r:RelV y u)(f:kI y=true):zF x u=FX y x:=by
 cases y with
 | dI=>cases r;rfl
 | bl b=>cases r;rfl
 | int i=>obtain⟨t,rfl⟩:=r;rfl
 | str z=>obtain⟨t,rfl⟩:=r;rfl
 | _=>exact absurd (show false=true from f) cW
theorem nq {x:V}:∀{xs:List V}{us:List Value},aS xs us->xs.all kI=true->us.any (zF x)=xs.any λy=>FX y x
 | _,_,.nil,_=>rfl
 | y::xs,u::us,.cons r t,f=>by
  rw [List.all_cons,jt] at f;rw [pX,pX,EZ r f.1,nq t f.2]
theorem jK {A:Around}{s:Shared}{x:V}{v:Value}(rx:RelV x v)(fx:kI x=true):∀{xs:List V}{us:List Value},aS xs us->xs.all kI=true->∀u∈us,SeqAt.EqAt A s u v (zF x u)
 | _,_,.nil,_=>λu hu=>by cases hu
 | y::xs,u::us,.cons r t,f=>λu' hu=>by
  rw [List.all_cons,jt] at f;rcases bN.mp hu with rfl | hu
  .rw [EZ r f.1];exact LI r rx f.1 fx
  exact jK rx fx t f.2 u' hu
def ME (x:V)(xs:List V):Bool:=xs.any λy=>FX y x
inductive YJ (S:Addr->List V->Prop)(x y:V)(R:List V->Prop):Prop
|mk(p:Addr)(xs:List V)(e:y=.ref p)(s:S p xs)(f:kI x=true)(g:xs.all kI=true)(q:R xs)
def Sm (K:aV)(neg:Bool):R2:=λx y H Q=>YJ (λp xs=>aG K H p xs\/a9 K H p xs) x y λxs=>Q (.bl (if neg then !ME x xs else ME x xs)) H
def sQ:j9 X (compareOp .In) (Sm X.K false):=by
 intro ag s σ H x y v u Q I rx ry h;obtain⟨p,xs,rfl,hq,fx,fs,q⟩:=h;cases ry;rcases hq with hq | hq
 .obtain⟨aO,r,pl,hz⟩:=I.list hq;refine SeqAt.in_listAt (zF x) pl.isList (λw hw=>jK rx fx r fs w (by simpa using hw)) ⟨.bl _,H,I,rfl,?_⟩;rw [show aO.toArray.any (zF x)=aO.any (zF x) by simp,nq r fs];exact q
 obtain⟨aO,r,pl,hz⟩:=I.tuple hq;refine SeqAt.in_tupleAt (zF x) pl (λw hw=>jK rx fx r fs w (by simpa using hw)) ⟨.bl _,H,I,rfl,?_⟩;rw [show aO.toArray.any (zF x)=aO.any (zF x) by simp,nq r fs];exact q
def mH:j9 X (compareOp .NotIn) (Sm X.K true):=by
 intro ag s σ H x y v u Q I rx ry h;obtain⟨p,xs,rfl,hq,fx,fs,q⟩:=h;cases ry;rcases hq with hq | hq
 .obtain⟨aO,r,pl,hz⟩:=I.list hq;refine SeqAt.notIn_listAt (zF x) pl.isList (λw hw=>jK rx fx r fs w (by simpa using hw)) ⟨.bl _,H,I,rfl,?_⟩;rw [show aO.toArray.any (zF x)=aO.any (zF x) by simp,nq r fs];exact q
 obtain⟨aO,r,pl,hz⟩:=I.tuple hq;refine SeqAt.notIn_tupleAt (zF x) pl (λw hw=>jK rx fx r fs w (by simpa using hw)) ⟨.bl _,H,I,rfl,?_⟩;rw [show aO.toArray.any (zF x)=aO.any (zF x) by simp,nq r fs];exact q
def aQ:fA X (.builtin "len") (λxs H Q=>Ft xs (λp ys=>aG X.K H p ys\/a9 X.K H p ys) λys=>Q (.int ys.length) H):=by
 intro ag s σ H xs us Q I r h;obtain⟨p,ys,rfl,hq,q⟩:=h;obtain⟨u,rfl,rx⟩:=vals1 r;cases rx;have hn:=kZ;rcases hq with hq | hq
 .obtain⟨aO,r',pl,hz⟩:=I.list hq;have a8:=r'.length;exact Calls.call_len_list pl.isList (by simp only [bO] <;> omega) ⟨.int ys.length,H,I.tok _,⟨s.toks+1,by rw [bO,a8]⟩,q⟩
 obtain⟨aO,r',pl,hz⟩:=I.tuple hq;have a8:=r'.length;exact len_tuple pl (by simp only [bO] <;> omega) ⟨.int ys.length,H,I.tok _,⟨s.toks+1,by rw [bO,a8]⟩,q⟩
def fA.or {f:Value}{r r':List V->Hp->VK->Prop}(h:fA X f r)(h':fA X f r'):fA X f (λxs H Q=>r xs H Q\/r' xs H Q):=by
 intro ag s σ H xs us Q I rs q;rcases q with q | q
 .exact h ag s σ H xs us Q I rs q
 exact h' ag s σ H xs us Q I rs q
def dO:fA X (.type "list") (λxs H Q=>Ft xs (λp ys=>aG X.K H p ys\/a9 X.K H p ys) λys=>∀l,H l=none->Q (.ref l) (upd H l (.lst ys))):=by
 intro ag s σ H xs us Q I r h;obtain⟨p,ys,rfl,hq,q⟩:=h;obtain⟨u,rfl,rx⟩:=vals1 r;cases rx;have fin:∀(aO:List Value),aS ys aO->ys.length<=sizeLine->∀(h':Heap) (c':Nat),(∀b o',s.heap.get? b=some o'->h'.get? b=some o') ->
   h'.get? s.heap.objs.size=some { cls:=.type "list",dict:=none,data:=.seq aO.toArray c',slots:=#[] }->EP X ag σ Q (.ref s.heap.objs.size) { s with heap:=h' }:=λaO r' hz h' c' kp e =>
  ⟨.ref s.heap.objs.size,_,I.laid (t':=s.toks) kp (aI _) (show bV X.prog X.w _ h' _ (.lst ys) from ⟨hz,aO,c',r',e⟩),rfl,q _ (I.bH.fresh (aI _))⟩
 rcases hq with hq | hq
 .obtain⟨aO,r',pl,hz⟩:=I.list hq;have a8:=r'.length;obtain⟨o,ho,hc,n,hd⟩:=pl.isList;exact call_list_seq p (.inl rfl) ho hc hd (λh' c' kp e=>fin aO r' hz h' c' kp e) (by simp only [bO] <;> omega)
 obtain⟨aO,r',pl,hz⟩:=I.tuple hq;have a8:=r'.length;obtain⟨o,ho,hc,n,hd⟩:=pl;exact call_list_seq p (.inr rfl) ho hc hd (λh' c' kp e=>fin aO r' hz h' c' kp e) (by simp only [bO] <;> omega)
def gp:fA X (.type "tuple") (λxs H Q=>∃p ys,xs=[.ref p]/\((aG X.K H p ys/\∀l,H l=none->Q (.ref l) (upd H l (.tup ys)))\/(a9 X.K H p ys/\Q (.ref p) H))):=by
 intro ag s σ H xs us Q I r h;obtain⟨p,ys,rfl,h⟩:=h;obtain⟨u,rfl,rx⟩:=vals1 r;cases rx;rcases h with ⟨hq,q⟩ | ⟨hq,q⟩
 .obtain⟨aO,r',pl,hz⟩:=I.list hq;have a8:=r'.length;refine call_tuple_list pl.isList (λh' kp=>?_) (by simp only [bO] <;> omega)
  have I1:Inv X ag σ H { s with heap:=h' }:=I.kept (t':=s.toks) kp;have I2:Inv X ag σ (upd H h'.objs.size (.tup ys)) { s with heap:=h'.push { cls:=.type "tuple",data:=.seq aO.toArray } } :=
   I1.laid (t':=s.toks) (λb o e=>bD _ e) (aI _) (show bV X.prog X.w _ _ _ (.tup ys) from ⟨hz,aO,r',IsTup.new _ _⟩)
  exact⟨.ref h'.objs.size,_,I2,rfl,q _ (I1.bH.fresh (aI _))⟩
 obtain⟨aO,r',pl,hz⟩:=I.tuple hq;exact call_tuple_same pl ⟨.ref p,H,I,rfl,q⟩
def Wu (K:aV)(T:String)(x:V)(H:Hp):Prop:=match x with
 | .str _=>T = "str"
 | .int _=>T = "int"
 | .ref p=>(T = "list" /\ ∃xs,aG K H p xs)\/(T = "tuple" /\ ∃o,K.lookup p=some o/\o.cls=.type "tuple" /\ o.dict=none) \/
   (T = "dict" /\ ((∃kvs,H p=some (.dK kvs))\/∃kvs,H p=some (.dT kvs)))\/(T = "set" /\ ∃S n,H p=some (.set S n))
 | _=>False
def Jz {ag:List (Addr×Obj)}{σ:St}{H:Hp}{s:Shared}{T:String}{x:V}{v:Value}(I:Inv X ag σ H s)(r:RelV x v)(ty:Wu X.K T x H) :
  s.TypeIs v T/\∀a,v=.ref a->∃ob,s.heap.get? a=some ob/\ob.dict=none:=by
 cases x with
 | str z =>
  obtain⟨t,rfl⟩:=r;cases (show T = "str" from ty);exact⟨typeIs_str s z t,λ_ e=>nomatch e⟩
 | int i =>
  obtain⟨t,rfl⟩:=r;cases (show T = "int" from ty);exact⟨typeIs_int s i t,λ_ e=>nomatch e⟩
 | ref p =>
  cases r;rcases ty with ⟨rfl,xs,hq⟩ | ⟨rfl,o,hk,hc,hd⟩ | ⟨rfl,hk⟩ | ⟨rfl,S,n,hk⟩
  .obtain⟨aO,_,pl,_⟩:=I.list hq;refine⟨pl.isList.typeIs,λa e=>?_⟩;cases e;obtain⟨o,n,e,c,hd,_⟩:=pl;exact⟨o,e,hd⟩
  .refine⟨⟨o,I.jj p o hk,hc⟩,λa e=>?_⟩;cases e;exact⟨o,I.jj _ o hk,hd⟩
  .have z:∃o,s.heap.get? p=some o/\o.ExactDict:=by
    rcases hk with ⟨kvs,hk⟩ | ⟨kvs,hk⟩
    .obtain⟨_,_,_,_,o,_,_,e,ex,_⟩:=I.bH p _ hk;exact⟨o,e,ex⟩
    obtain⟨_,_,_,_,o,_,_,e,ex,_⟩:=I.bH p _ hk;exact⟨o,e,ex⟩
   obtain⟨o,e,ex⟩:=z;refine⟨⟨o,e,ex.1⟩,λa e2=>?_⟩;cases e2;exact⟨o,e,ex.2.1⟩
  obtain⟨o,_,_,_,e,ex,_⟩:=I.bH p _ hk;refine⟨⟨o,e,ex.1⟩,λa e2=>?_⟩;cases e2;exact⟨o,e,ex.2.1⟩
 | _=>exact False.elim ty
def Zh (K:aV)(T:String)(r:V->List V->Hp->VK->Prop)(to:TE)(t:TA):TE:=λσ H Q=>to σ H λx H1=>Wu K T x H1/\t σ H1 λxs H2=>r x xs H2 Q
variable {o e:Expr}{es:List Expr}{to:TE}{t:TA}{name:Str}{apos gE:Pos}{T id:String}{r:V->List V->Hp->VK->Prop}
def iK (pa:PlainAttrs T)(slot:Slot T name id)(hty:typeOf (.builtin id)=pure (.type "method_descriptor"))(hm:Ql X id r)(ho:PE X o to)(ha:PA X (e::es) t)
  (Pg:attributeBase o name X.env (eval o X.env)=eval o X.env:=by rfl)
  (UA:((backTo gE (starEach (e::es) X.env)).all (λx=>!x.1) && (backToKw gE (keywordEach [] X.env)).all (λx=>x.1.isSome)
   && decide ((e::es).length+([]:List Keyword).length+(if ([]:List Keyword).isEmpty then 0 else 1) < 30))=true:=by rfl)
  (O3:(apos.endLine == gE.line)=true:=by rfl)(hs:starEach (e::es) X.env=(false,eval e X.env)::starEach es X.env:=by rfl)(K7:(backTo gE (starEach es X.env)).any (·.1)=false:=by rfl) :
  PE X (.Call (.Attribute o name apos) (e::es) [] gE) (Zh X.K T r to t):=by
 intro ag s σ H Q I h;refine wpAny_Call_method_late Pg UA O3 rfl (cq (ho ag s σ H _ I h) λv s1 aT=>?_);obtain⟨x,H1,I1,r1,ty,q1⟩:=aT;obtain⟨h1,h2⟩:=Jz I1 r1 ty;refine⟨T,id,pa,slot,hty,h1,h2,?_⟩;have hA:=ha gE ag s1 σ H1 _ I1 q1;rw [hs] at hA ⊢;refine ur (by show (false || (backTo gE (starEach es X.env)).any (·.1))=false;rw [K7] <;> rfl) (uf ?_)
 refine cq hA λus s2 aT=>?_;obtain⟨vs,H2,I2,r2,q2⟩:=aT;exact hm ag s2 σ H2 x vs v us Q I2 r1 r2 q2
end
def RA (X:Cx)(id:String)(r:V->List V->Hp->VK->Prop):Prop :=
 ∀(ag:List (Addr×Obj))(s:Shared)(σ:St)(H:Hp)(x:V)(xs:List V)(v:Value)(us:List Value)(Q:VK),Inv X ag σ H s->RelV x v->aS xs us->r x xs H Q ->
  wpAny (model X.prog X.w) X.A (call (.builtin id) (v::us)) (EP X ag σ Q) X.xe s
def aS.one:∀{x:V}{us:List Value},aS [x] us->∃u,us=[u]/\RelV x u
 | _,_,.cons r .nil=>⟨_,rfl,r⟩
def aS.two:∀{x y:V}{us:List Value},aS [x,y] us->∃u v,us=[u,v]/\RelV x u/\RelV y v
 | _,_,_,.cons r (.cons q .nil)=>⟨_,_,rfl,r,q⟩
def aS.zero:∀{us:List Value},aS [] us->us=[]
 | _,.nil=>rfl
theorem aS.reverse {xs:List V}{us:List Value}(h:aS xs us):aS xs.reverse us.reverse:=by
 induction h with
 | nil=>exact .nil
 | cons r t ih=>rw [List.reverse_cons,List.reverse_cons];exact aS.append ih (.cons r .nil)
section
variable {X:Cx}{ag:List (Addr×Obj)}{σ:St}{H:Hp}{s:Shared}{l b:Addr}{xs ys zs:List V}
def Inv.KG {aO lh:List Value}{n:Nat}{f:Array Value->Array Value}{t':Nat}(I:Inv X ag σ H s)(hH:H l=some (.lst xs))
  (e:s.heap.get? l=some { cls:=.type "list",data:=.seq aO.toArray n })(hf:f aO.toArray=lh.toArray)(hv:aS ys lh)(hz:ys.length<=sizeLine) :
  Inv X ag σ (upd H l (.lst ys)) { s with heap:=s.heap.update l (Obj.mapSeq f),toks:=t' }:=by
 have q:=PySem.IsL.update e f;rw [hf] at q;refine I.write (x:=l) (e:=l) (by rw [hH];exact trivial) (.inl rfl) (λb' u hb hu=>(gu s.heap (Obj.mapSeq f) (eV hb)).trans hu) ⟨_,q⟩ ?_;exact⟨hz,lh,_,hv,q⟩
def Inv.Tq {aO:List Value}{t':Nat}(I:Inv X ag σ H s)(hv:aS ys aO)(hz:ys.length<=sizeLine) :
  Inv X ag σ (upd H s.heap.objs.size (.lst ys)) { s with heap:=s.heap.push { cls:=.type "list",data:=.seq aO.toArray },toks:=t' } :=
 I.laid (λ_ _ q=>bD _ q) (aI _) ⟨hz,aO,0,hv,cQ _ rfl⟩
theorem Inv.fresh (I:Inv X ag σ H s):H s.heap.objs.size=none:=I.bH.fresh (aI _)
def Inv.B0 (I:Inv X ag σ H s)(hH:H l=some (.lst xs)):xs.length<=sizeLine/\∃(aO:List Value) (n:Nat),aS xs aO/\xs.length=aO.length/\s.heap.get? l=some { cls:=.type "list",data:=.seq aO.toArray n }:=by
 obtain⟨z,aO,n,r,e⟩:=I.bH l _ hH;exact⟨z,aO,n,r,r.length,e⟩
def Ej {n:Nat}(h:n<=sizeLine):Builtin.List.listTooLong n=false:=by
 unfold Builtin.List.listTooLong;exact ff ∅
end
section
variable {X:Cx}
inductive Qb (H:Hp)(x:V)(vs:List V)(R:Addr->List V->V->Prop):Prop
|mk(l:Addr)(xs:List V)(y:V)(e:x=.ref l)(e2:vs=[y])(h:H l=some (.lst xs))(z:xs.length < sizeLine)(q:R l xs y)
def Gz:V->List V->Hp->VK->Prop:=λx vs H Q=>Qb H x vs λl xs y=>Q .dI (upd H l (.lst (xs++[y])))
def cT:RA X "list.append" Gz:=by
 intro ag s σ H x vs v us Q I rx rv h;obtain⟨l,xs,y,rfl,rfl,hH,hz,q⟩:=h;cases rx;obtain⟨u,rfl,ru⟩:=rv.one;obtain⟨z,aO,n,r,hl,e⟩:=I.B0 hH;refine call_meets F.slot_list_append ⟨_,e,rfl⟩ F.entry_list_append (F.args_list_append_2 _ _) (PySem.list_append l aO.toArray n u (by rw [bO];omega)) ⟨e,?_⟩;refine⟨.dI,_,I.KG (lh:=aO++[u]) hH e (by simp) (r.append (.cons ru .nil)) ?_,rfl,q⟩;rw [b9,pW];omega
def Gy:V->List V->Hp->VK->Prop:=λx vs H Q=>∃l b xs zs,x=.ref l/\vs=[.ref b]/\H l=some (.lst xs)/\H b=some (.lst zs)/\xs.length+zs.length<=sizeLine/\Q .dI (upd H l (.lst (xs++zs)))
def Mz:RA X "list.extend" Gy:=by
 intro ag s σ H x vs v us Q I rx rv h;obtain⟨l,b,xs,zs,rfl,rfl,hH,hB,hz,q⟩:=h;cases rx;obtain⟨u,rfl,ru⟩:=rv.one;cases ru;obtain⟨z,aO,n,r,hl,e⟩:=I.B0 hH;obtain⟨z2,ja,n2,r2,lJ,e2⟩:=I.B0 hB;have hsz:aO.toArray.size+ja.toArray.size<=sizeLine:=by rw [bO,bO];omega
 have O2:¬(!aO.toArray.isEmpty && Builtin.List.listTooLong (aO.toArray.size+ja.toArray.size))=true:=by
  rw [Ej hsz,Bool.and_false];exact cW
 refine call_meets F.slot_list_extend ⟨_,e,rfl⟩ F.entry_list_extend (F.args_list_extend_2 _ _)
  (AutoSeq1.list_extend_list_list_0 l aO.toArray n b ja.toArray n2 O2 (by rw [bO];omega) ∅) ⟨e,e2,?_⟩
 refine⟨.dI,_,I.KG (lh:=aO++ja) hH e (by simp) (r.append r2) ?_,rfl,q⟩;rw [b9];omega
def Sn:R2:=λx y H Q=>Wa (λl xs=>H l=some (.lst xs)) x y λxs zs=>∀p,H p=none->Q (.ref p) (upd H p (.lst (xs++zs)))
def qC:j9 X (binaryOp .Add) Sn:=by
 intro ag s σ H x y v u Q I rx ry h;obtain⟨l,b,xs,zs,rfl,rfl,hH,hB,hz,q⟩:=h;cases rx;cases ry;obtain⟨z,aO,n,r,hl,e⟩:=I.B0 hH;obtain⟨z2,ja,n2,r2,lJ,e2⟩:=I.B0 hB;refine PySem.P.add_list e e2 ?_ (by rw [bO,bO];omega);have ea:aO.toArray++ja.toArray=(aO++ja).toArray:=by simp
 rw [ea];exact⟨.ref _,_,I.Tq (t':=s.toks) (r.append r2) (by rw [b9];omega),rfl,q _ I.fresh⟩
end
section
variable {prog:Program}{w:World}{A:Around}{E:Value->Shared->Prop}{s:Shared}
set_option maxRecDepth 100000 in
end
section
variable {X:Cx}
end
end L2
namespace F8
open PySem PySem.W PySem.Calls PyProof.Rows
def o7 {P:Params}{h:Heap}:∀(ns:List Int)(vs:List Value),WellAll P h vs (ns.map WData.int)->IntsAre vs ns:=by
 intro ns
 induction ns with
 | nil =>
  intro vs w;rw [jy] at w;cases w;exact .nil
 | cons n ns ih =>
  intro vs w;rw [bG] at w;cases w with
  | cons a b =>
   cases a;exact .cons _ _ (ih _ b)
def Br {l:OpenLaw}{n:Nat}(hn:l.most=some n){P:Params}{h:Heap}{args:List WData}{vals:List Value}
  (Hk:l.row.toRowW.claim.pre args=true)(K1:WellAll P h vals args) :
  ∃a vs ns,vals=[Value.ref a]/\args=[WData.list (ns.map WData.int)]/\h.get? a=some { cls:=.type "list",data:=.seq vs.toArray }/\IntsAre vs ns/\ns.length<=n:=by
 have hsh:WShape.hasAll [] args [.list .int]=true:=(pre_splitW Hk).1;have hc:l.pre.holds [] { args:=args }=true:=(pre_splitW Hk).2;obtain⟨d,r,rfl,h1,h2⟩:=hasAllW_cons hsh;obtain rfl:=hasAllW_nil h2;obtain⟨xs,rfl,h3⟩:=hasW_list h1;obtain⟨ns,rfl⟩:=items_int h3;have a8:ns.length<=n:=by
  unfold OpenLaw.pre at hc;have h4:(WTm.not (.lt (.lit (.int (n:Int))) (.len (.arg 0)))).holds [] { args:=[.list (ns.map .int)] }=true:=by
   have h4:=(holds_andW hc).1;rw [hn] at h4;exact h4
  have h5:=condW_of h4 (w_not (w_lt w_lit (w_len_list (w_arg rfl))));rw [aB] at h5;refine Nat.le_of_not_lt λq=>?_;have q':(n:Int) < ((ns.length:Nat):Int):=by omega
  first
   | (rw [cM q'] at h5;exact absurd h5 nofun)
   | (simp at h5;omega)
 cases K1 with
 | cons w1 w2 =>
  cases w2;cases w1 with
  | list ho pd=>exact⟨_,_,ns,rfl,rfl,ho,o7 ns _ pd,a8⟩
def Bw (l:OpenLaw)(args:List WData):l.row.toRowW.claim.post args (.bool true) args=true :=
 postW_of (r:=l.row.toRowW) (X:=(true == true))
  (show WShape.has [] (.bool true) .bool=true by first | rfl | decide | simp [WShape.has,WShape.arms,WShape.armsAll])
  (show (WTm.eq .res (.lit (.bool true))).value [] { args:=args,res:=some (.bool true),after:=args }=some (.bool (true == true)) from w_eq_bool (w_res rfl) w_lit) rfl
def oS {l:OpenLaw}{n:Nat}{q:Program}{loose:List Str}{XP:(Str->Option Value)->Heap->Prop}{YP:World->Heap->Prop}{d:DefRec}
  (hn:l.most=some n)(Li:d.params.defaults=[])
  (call:∀(w:World)(s₀ s₁:Shared)(mg mb:Str->Option Value)(fa:Addr)(o:Obj)(pm cd doc:Value)(a:Addr)(vs:List Value)(ns:List Int),
   Ground q loose [] XP w s₀ mg mb s₁.heap->YP w s₁.heap ->
   s₁.heap.get? fa=some o->o.data=.func (docDef d.name d.params d.body d.scope pm cd doc)->s₁.heap.CodeRec cd d.name->mg d.name=some (.ref fa) ->
   s₁.heap.get? a=some { cls:=.type "list",data:=.seq vs.toArray }->IntsAre vs ns->ns.length<=n->s₁.gens=#[] ->
   codeAny (model l.prog w) callerA (.call (.ref fa) ⟨[.ref a],[]⟩) (λr s'=>r=.ok (.ret (.bool true))/\OldK s₁.heap s'.heap/\s'.os=s₁.os/\AllBare s'.gens) s₁) :
  WalkO q loose XP YP l.row.toRowW d [] (λf vs=>PySem.call f vs):=by
 intro w s₀ s₁ mg mb G Y fa o pm cd doc dV kV ho hd qR hD Lb hg args vals as Hk aah hrd K1 hlo;obtain rfl:dV=.none:=Dflts.none hD Li;obtain rfl:kV=.none:=Dflts.noKw hD;obtain⟨a,vs,ns,rfl,rfl,EE,hints,a8⟩:=Br hn Hk K1;refine enter_call (iV (call w s₀ s₁ mg mb fa o pm cd doc a vs ns G Y ho (fd_plain hd) qR Lb EE hints a8 hg) λr s' hq=>?_);obtain⟨rfl,h2,h3,h4⟩:=hq;exact⟨.inl ⟨.bool true,.bool true,[],rfl,λ_=>rfl,.bool true,Bw l _,λ_=>⟨List.Pairwise.nil,λ_ hm=>(nomatch hm)⟩⟩,h2,h3,h4⟩
section
variable {prog:Program}{w:World}{A:Around}{E:Value->Shared->Prop}{s:Shared}{K:Frag}
def qF (h:Heap):Heap:={ h with objs:=#[] }
def kX (h:Heap)(b:Addr):(qF h).get? b=none:=by
 cases e:(qF h).get? b with
 | none=>rfl
 | some o=>exact absurd (aW e) (Nat.not_lt_zero _)
def ledger (h:Heap)(L d:Addr):List (Addr×Obj):=(List.range h.objs.size).filterMap λa=>if a=L\/a=d then none else (h.get? a).map λo=>(a,o)
def i7 {h:Heap}{L d a:Addr}{o:Obj}:(a,o)∈ledger h L d↔a≠L/\a≠d/\h.get? a=some o:=by
 unfold ledger;rw [uh];constructor
 .rintro⟨b,_,e⟩
  split at e
  .cases e
  rename_i hb
  obtain⟨o',ho,e'⟩:=cf.mp e;cases e';exact⟨λq=>hb (.inl q),λq=>hb (.inr q),ho⟩
 rintro⟨n1,n2,ho⟩;refine⟨a,lM.mpr (aW ho),?_⟩;rw [aA (show ¬(a=L\/a=d) from λq=>q.elim n1 n2),ho] <;> rfl
def wG {h:Heap}{L d:Addr}{od:Obj}(K9:d≠L)(ho:h.get? d=some od):News (qF h) L h ([]++(d,od)::ledger h L d):=by
 rintro⟨a,o⟩ hp;rcases bN.mp hp with e | hp
 .cases e;exact⟨ho,K9,kX _ _⟩
 obtain⟨n1,n2,e⟩:=i7.mp hp;exact⟨e,n1,kX _ _⟩
def Ly {h:Heap}{L:Addr}{m:Str->Option Value}(n:h.Ns L m):Fr (qF h) L h m :=
 ⟨n,λb o e=>(by rw [kX] at e;cases e),fR _⟩
end
end F8
namespace L2
open PySem PySem.Spec PyProof.Rows
theorem nW:∀{vs:List Value}{ns:List Int},IntsAre vs ns->aS (ns.map V.int) vs
 | _,_,.nil=>.nil
 | _,_,.cons n t h=>.cons ⟨t,rfl⟩ (nW h)
def Mc (H:Hp):Prop:=∀b,H b=none\/∃o xs,H b=some (.jo o (.lst xs))
def Eu {P:Program}{w:World}{K:aV}{mg mb:Str->Option Value}{CX:tZ}{k:Nat}{fa a:Addr}{fd:FuncData}{x:Str}{sp:Sp}{s₁:Shared}{vs:List Value}{ns:List Int}
  (KX:K.In s₁.heap)(kC:s₁.heap.Ns mainGlobals mg)(hb:s₁.heap.Ns builtinsNs mb)(Ln:∀x:Str,x ≠ "__name__" -> mb x=bootBuiltins x)(Lc:s₁.heap.NoLimit)(hg:s₁.gens=#[])
  (ha:s₁.heap.get? a=some { cls:=.type "list",data:=.seq vs.toArray })(hi:IntsAre vs ns)(hl:ns.length<=sizeLine)(hr:di k callerA)
  (F:∀base:Heap,K.In base->base.Ns mainGlobals mg->ba P w K mg base CX k fa fd [x] sp)(mQ:∀(s:Shared)(u:Value),BindsTo s fd ⟨[u],[]⟩ [(x,u)])
  (tq:∀H:Hp,Mc H->aG K H a (ns.map V.int)->sp [.ref a] H (λv _=>v=.bl true) λ_ _ _=>False)
  (Lu:∀H e s',CX [] H s₁ (λ_ _ _=>False) e s'->False) :
  codeAny (model P w) callerA (.call (.ref fa) ⟨[.ref a],[]⟩) (λr s'=>r=.ok (.ret (.bool true))/\OldK s₁.heap s'.heap/\s'.os=s₁.os/\AllBare s'.gens) s₁:=by
 have rv:=nW hi;have KL:=hi.length;have core:∀H:Hp,Mc H->aG K H a (ns.map V.int)->j_ P w H s₁.heap->(∀b,H b≠none->b=a)->(H a≠none->K.lookup a=none) ->
   codeAny (model P w) callerA (.call (.ref fa) ⟨[.ref a],[]⟩) (λr s'=>r=.ok (.ret (.bool true))/\OldK s₁.heap s'.heap/\s'.os=s₁.os/\AllBare s'.gens) s₁:=by
  intro H hO hS bH hA hK;have j4:∀{b:Addr}{o:Obj},s₁.heap.get? b=some o->H b=none->(lB s₁.heap H).get? b=some o:=λe n=>wV e n;have Ob:∀{b:Addr}{o:Obj}{es:Array DictEntry}{ep:Nat},s₁.heap.get? b=some o->o.data=.dict es ep->H b=none:=λ{b o es ep} e d=>by
   cases q:H b with
   | none=>rfl
   | some u =>
    have e':b=a:=hA b (by rw [q];simp);subst e';rw [ha] at e;cases e;have d':Data.seq vs.toArray _=Data.dict es ep:=d;cases d'
  have G9:∀{b:Addr}{m:Str->Option Value},s₁.heap.Ns b m->(lB s₁.heap H).Ns b m:=λ{b m} ⟨o,es,ep,e,d,r⟩=>⟨o,es,ep,j4 e (Ob e d),d,r⟩;have Pj:K.In (lB s₁.heap H):=λb o e=>j4 (KX b o e) (by
   cases q:H b with
   | none=>rfl
   | some u =>
    have e':b=a:=hA b (by rw [q];simp);subst e';rw [hK (by rw [q];simp)] at e;cases e)
  have hM:Mod K mg (lB s₁.heap H):=⟨Pj,G9 kC,⟨mb,G9 hb,Ln⟩,let ⟨mc,h1,h2⟩:=Lc;⟨mc,G9 h1,h2⟩⟩;have e0:pC P w K mg (lB s₁.heap H) callerA [] s₁ H:=⟨rfl,hM,λb o e=>AK e,Nat.le_of_eq (tD _ _),trivial,λb hb=>absurd (show b∈([]:List Addr) from hb) (by simp),bH,.of_eq hg⟩;refine iV ((F _ Pj (G9 kC)).run callerA [] s₁ H ⟨[.ref a],[]⟩ [.ref a] [.ref a] _ _ hr e0 (mQ s₁ (.ref a)) (.cons rfl .nil) (tq H hO hS)) λr s' h=>?_;cases r with
  | error e=>exact(Lu H e s' h).elim
  | ok fl =>
   cases fl with
   | next=>exact False.elim h
   | brk=>exact False.elim h
   | cont=>exact False.elim h
   | ret u =>
    obtain⟨v,H',os,bare,un,Hl,r',q⟩:=h;have q':v=.bl true:=q;subst q';obtain rfl:u=Value.bool true:=r';refine⟨rfl,OldK.of_keep λb o e=>?_,os,bare⟩;cases q:H b with
    | none=>exact un.keep b o e q (by intro z;exact absurd (show b∈([]:List Addr) from z) (by simp)) (by simp)
    | some u =>
     rcases hO b with z | ⟨ob,xs,z⟩
     .rw [q] at z;cases z
     have z2:=un.jP b ob _ z;obtain⟨e1,_⟩:=bH b _ z;obtain⟨e2,_⟩:=Hl b _ z2;rw [e] at e1;cases e1;exact e2
 cases hk:K.lookup a with
 | some o =>
  have e:=KX a o hk;rw [ha] at e;cases e;refine core (λ_=>none) (λ_=>.inl rfl) (.inr ⟨_,vs.toArray,_,hk,rfl,rfl,rfl,by rw [bO,KL];exact hl,by simpa using rv⟩) (λb u z=>by have z':(none:Option HO)=some u:=z;cases z') (λb z=>absurd rfl z) λz=>absurd rfl z
 | none =>
  refine core (λb=>if b=a then some (.jo { cls:=.type "list",data:=.seq vs.toArray } (.lst (ns.map V.int))) else none) (λb=>?_) (.inl (.inr ⟨{ cls:=.type "list",data:=.seq vs.toArray },az rfl⟩)) (λb u z=>?_) (λb z=>?_) λ_=>hk
  .by_cases hb:b=a
   .exact .inr ⟨_,_,az hb⟩
   exact .inl (aA hb)
  .by_cases hb:b=a
   .have z':=(az hb).symm.trans z;cases z';subst hb;exact⟨ha,by rw [aB];exact hl,vs,_,rv,ha⟩
   have z':=(aA hb).symm.trans z;cases z'
  by_cases hb:b=a
  .exact hb
  exact absurd (aA hb) z
abbrev KOf {K:aV}{h:Heap}(_:K.In h):aV:=K
def Qx {l:PySem.W.OpenLaw}{n k:Nat}{q:Program}{loose:List Str}{XP:(Str->Option Value)->Heap->Prop}{YP:World->Heap->Prop}{d:DefRec}{K:Params->aV}{CX:World->tZ}{sp:World->Sp}{x:Str}
  (hn:l.most=some n)(Cc:n<=sizeLine)(Li:d.params.defaults=[])(hr:di k callerA)
  (hY:∀(w:World)(h:Heap),YP w h->(K w.params).In h)
  (F:∀(w:World)(mg:Str->Option Value)(fa:Addr)(h:Heap),(K w.params).In h->h.Ns mainGlobals mg->mg d.name=some (.ref fa) ->
   ∃fd:FuncData,(∀(s:Shared)(u:Value),BindsTo s fd ⟨[u],[]⟩ [(x,u)]) /\
    ∀base:Heap,(K w.params).In base->base.Ns mainGlobals mg->ba l.prog w (K w.params) mg base (CX w) k fa fd [x] (sp w))
  (tq:∀(w:World)(H:Hp)(a:Addr)(ns:List Int),ns.length<=n->Mc H->aG (K w.params) H a (ns.map V.int)->sp w [.ref a] H (λv _=>v=.bl true) λ_ _ _=>False)
  (Lu:∀(w:World)(H:Hp)(s:Shared)(e:Value)(s':Shared),CX w [] H s (λ_ _ _=>False) e s'->False) :
  PySem.W.WalkO q loose XP YP l.row.toRowW d [] (λf vs=>PySem.call f vs):=by
 refine F8.oS hn Li λw s₀ s₁ mg mb fa o pm cd doc a vs ns G Y ho hd qR Lb EE hints a8 hg=>?_;have KX:=hY w _ Y;obtain⟨fd,hb,hF⟩:=F w mg fa _ KX G.T.g Lb;exact Eu KX G.T.g G.T.b G.T.builtins G.T.nolimit hg EE hints (cC a8 Cc) hr hF hb (λH hO hS=>tq w H a ns a8 hO hS) λH e s'=>Lu w H s₁ e s'
def cY (s:Stmt):Arguments:=match s with
 | .FunctionDef _ a _ _ _ _ _ _ _ _=>a
 | _=>{ posonlyargs:=[],args:=[],vararg:=none,kwonlyargs:=[],kw_defaults:=[],kwarg:=none,defaults:=[] }
def bT (s:Stmt):List Stmt:=match s with
 | .FunctionDef _ _ b _ _ _ _ _ _ _=>b
 | _=>[]
def av (s:Stmt):Scope:=match s with
 | .FunctionDef _ _ _ _ _ _ sc _ _ _=>sc
 | _=>{ kind:=.function,names:=[],isGenerator:=false,isCoroutine:=false }
abbrev fc:tZ:=λ_ _ _ _ _ _=>False
abbrev E0:XK:=λ_ _ _=>False
def qB {X:Cx}:Passes fc X E0:=λ_ _ _ _ _ _ _ h=>h.elim
structure gX (K:aV)(x qual:Str)(st:Stmt)(f:Addr)(fd:FuncData):Prop where
 ex:∃(oc:Value)(od:Option Addr)(kV doc pm:Value)(an:Option Addr)(dw ct:Value)(u9:Array (Option Value)),
  fd=PySem.W.fnOf x qual (cY st) (bT st) (av st) .none kV doc pm an dw ct/\K.lookup f=some ⟨oc,od,.func fd,u9⟩/\PySem.W.codeIn K dw qual=true
 kp:PySem.W.keepIn K (.ref f)=true
section
variable {P:Program}{w:World}{K:aV}{mg:Str->Option Value}{base:Heap}
def gX.ok {x qual:Str}{st:Stmt}{f:Addr}{fd:FuncData}{N ps:List Str}{k:Nat}{sp:Sp}(F:gX K x qual st f fd)(S:aH N ps (av st))(len:∀vs H Q E,sp vs H Q E->vs.length=ps.length)
  (gB:∀(dw:Value)(A:Around)(outer:List Env)(s:Shared)(H:Hp)(vs:List V)(Q:VK)(E:XK),di k (A.deeper (envOfC qual (av st) s.heap.objs.size f dw))->sp vs H Q E ->
   ∃t,vO (eQ fc P w K mg base N qual (av st) f dw A outer s H E).BR (bT st) t/\t { nx:=λ_ H'=>Q .dI H',rt:=Q } (start N vs) H):ba P w K mg base fc (k+1) f fd ps sp:=by
 obtain⟨oc,od,kV,doc,pm,an,dw,ct,u9,rfl,lk,qR⟩:=F.ex;refine wZ lk qR S len λA outer s H vs Q E hr tq=>?_;obtain⟨t,h,q⟩:=gB dw A outer s H vs Q E hr tq;exact⟨t,h.BR,q⟩
def gX.binds {x qual:Str}{st:Stmt}{f:Addr}{fd:FuncData}{ps:List Str}(F:gX K x qual st f fd)
  (h:∀(kV doc pm:Value)(an:Option Addr)(dw ct:Value)(us:List Value),us.length=ps.length->bindArgs (PySem.W.fnOf x qual (cY st) (bT st) (av st) .none kV doc pm an dw ct) ⟨us,[]⟩=pure (ps.zip us)):Binds K fd ps []:=by
 obtain⟨oc,od,kV,doc,pm,an,dw,ct,u9,rfl,lk,qR⟩:=F.ex;exact .all (h kV doc pm an dw ct)
def EU {x qual:Str}{st:Stmt}{f:Addr}{oc:Value}{od an:Option Addr}{u9:Array (Option Value)}{kV doc pm dw ct:Value}(l:K.lookup f=some ⟨oc,od,.func (PySem.W.fnOf x qual (cY st) (bT st) (av st) .none kV doc pm an dw ct),u9⟩)
  (c:PySem.W.codeIn K dw qual=true)(k:PySem.W.keepIn K (.ref f)=true):gX K x qual st f (PySem.W.fnOf x qual (cY st) (bT st) (av st) .none kV doc pm an dw ct):=⟨⟨oc,od,kV,doc,pm,an,dw,ct,u9,rfl,l,c⟩,k⟩
end
def fX {A:Around}{k:Nat}(hr:di k A):A.units+1 < cLine:=pT (Nat.add_le_add_left (by decide:1<=64) _) hr.units
section
variable {X:Cx}
def pv (i:Nat){x:Str}{pos:Pos}(hN:X.N[i]?=some x:=by rfl)(hv:Rx X.env.scope x:=by first | exact Or.inl rfl | exact Or.inr (bM rfl) | exact Or.inr (Or.inr rfl))(hd:(x == ("__debug__":Str))=false:=by decide)
  (qR:(x == ("__classdict__":Str))=false:=by decide):PE X (.Name x pos) (fk i):=Kn hN hv hd qR
end
def hJ {A B:Prop}(h:B):if false=true then A else B:=by
 rw [aA cW];exact h
def rV {A B:Prop}(h:A):if true=true then A else B:=by
 rw [az rfl];exact h
def dJ {c A B:Prop} [Decidable c] (h1:c->A)(h2:¬c->B):if c then A else B:=by
 by_cases h:c
 .rw [az h];exact h1 h
 rw [aA h];exact h2 h
def aC (H H':Hp):Prop:=∀b o,H b=some o->H' b=some o
def aC.refl (H:Hp):aC H H:=λ_ _ h=>h
def aC.trans {H H1 H2:Hp}(a:aC H H1)(b:aC H1 H2):aC H H2:=λc o h=>b c o (a c o h)
def aC.free {H H':Hp}(e:aC H H'){l:Addr}(h:H' l=Option.none):H l=Option.none:=by
 cases q:H l with
 | none=>rfl
 | some o =>
  rw [e l o q] at h;cases h
def aC.seq {K:aV}{H H':Hp}{a:Addr}{xs:List V}(e:aC H H')(h:aG K H a xs):aG K H' a xs:=by
 rcases h with (h | ⟨o,h⟩) | h
 .exact .inl (.inl (e _ _ h))
 .exact .inl (.inr ⟨o,e _ _ h⟩)
 exact .inr h
end L2
namespace HD
open PySem PySem.W
def Dx (st:SharedT->Thread->Option (SharedT×Thread))(ok:Thread->Bool):Nat->SharedT->Thread->Option SharedT
 | 0,_,_=>none
 | n+1,s,t=>match through t with
  | true=>some s
  | false=>match ok t with
   | false=>none
   | true=>match st s t with
    | some (s',t')=>Dx st ok n s' t'
    | none=>none
theorem Ay {tb:String->Option Builtin}{p:Program}{w:World}{n₀:Nat}{ann:Option Value}:∀{n:Nat}{s s':SharedT}{t:Thread},Dx (stepT (denote tb) p w) (stepOk n₀ ann) n s t=some s'->topRun tb p w n₀ ann n s.abs t=some s'.abs
 | 0,_,_,_,h=>by cases h
 | n+1,s,s',t,h=>by
  unfold Dx at h;unfold topRun;cases he:through t with
  | true=>rw [he] at h;cases h;rfl
  | false =>
   rw [he] at h;cases hk:stepOk n₀ ann t with
   | false=>rw [hk] at h;cases h
   | true =>
    rw [hk] at h;cases hs:stepT (denote tb) p w s t with
    | none=>rw [hs] at h;cases h
    | some r=>obtain⟨s₂,t₂⟩:=r;rw [hs] at h;rw [stepT_spec hs];exact Ay h
def WO:List Obj->Nat->BT->BT
 | [],_,t=>t
 | o::r,i,t=>WO r (i+1) (t.ins i o)
noncomputable def A8 (P:Params):BT:=WO (boot_heap P).objs.toList 0 .nil
def Cw (P:Params):absHeap (A8 P) 11 {}=boot_heap P:=by kernel_rfl
def LA {β:Type}:Obj->(Obj->β)->β
 | ⟨c,d,t,s⟩,k=>k ⟨c,d,t,s⟩
def pO {β:Type}:List Obj->(List Obj->β)->β
 | [],k=>k []
 | x::r,k=>LA x λy=>pO r λys=>k (y::ys)
theorem qT {β:Type}:∀(l:List Obj)(k:List Obj->β),pO l k=k l
 | [],_=>rfl
 | ⟨c,d,t,s⟩::r,k=>by
  show pO r (λys=>k (⟨c,d,t,s⟩::ys))=_;rw [qT r]
def Eo (p q:Program) (loose:List Str)(Xt:Shared->Bool){α:Type}(Yf:Shared->α)(g0:Bool)(h₀:Heap)(s:Shared) :=
 ((staticsOk (importedModules p.main.body) h₀ s.heap && namesBound p s.heap && gensDone s && laidKept h₀ s.heap),openSeen q loose (importedModules p.main.body) Xt g0 s,Yf s)
def Dl {β:Type}(f:Shared->β)(s:SharedT):β:=pO (s.tree.list s.n) λl=>f ⟨⟨l.toArray,s.life⟩,s.gens,s.drawn,s.toks,s.os⟩
def Dk {β:Type}(f:Shared->β)(s:SharedT):Dl f s=f s.abs:=qT _ _
def Ou {p q:Program}{loose:List Str}{Xt:Shared->Bool}{α:Type}{Yf:Shared->α}{Ya:World->α}{N:Nat}{g0:Bool}{ann:Option Value}{M:Nat}
  (DT:∀w:World,(fencedOpening treeTable p w N).map (λs=>(s.heap,s.gens,s.drawn,s.toks))=some (boot_heap w.params,Array.mk [],boot_drawn,boot_toks))
  (size:∀w:World,((boot_heap w.params).isNs mainGlobals && (Array.mk []:Array GenState).size == 0,(boot_heap w.params).objs.size,(boot_heap w.params).nsMap mainGlobals "__annotations__")=(true,11,ann))
  (run:∀(w:World)(os:OsState),(Dx (stepT (denote treeTable) p w) (stepOk 11 ann) M ⟨A8 w.params,11,{},Array.mk [],boot_drawn,boot_toks,os⟩ (topStub p)).map (Dl (Eo p q loose Xt Yf g0 (boot_heap w.params)))=some (true,openGood q loose,Ya w))
  (le:Nat.ble M N=true):LeftO p q loose Xt Yf Ya N g0:=λw=>by
 obtain⟨⟨h,gs,d,k,os⟩,e,e'⟩:=cf.mp (DT w);obtain⟨rfl,rfl,rfl,rfl⟩:h=boot_heap w.params/\gs=Array.mk []/\d=boot_drawn/\k=boot_toks:=by simpa using e'
 obtain⟨z1,z2,z3⟩:_/\_/\_:=by simpa only [iB] using size w
 obtain⟨s',r0,l0⟩:=cf.mp (run w os);rw [Dk] at l0;obtain⟨l1,l2,l3⟩:_/\_/\_:=by simpa only [Eo,iB] using l0
 have r:=Ay r0;have ea:SharedT.abs ⟨A8 w.params,11,{},Array.mk [],boot_drawn,boot_toks,os⟩=⟨boot_heap w.params,Array.mk [],boot_drawn,boot_toks,os⟩:=by
  unfold SharedT.abs;rw [Cw]
 rw [ea] at r;have r:=topRun_mono (N - M) _ _ _ _ r;rw [show M+(N - M)=N by have:=Nat.le_of_ble_eq_true le;omega] at r;have t:topFrom treeTable p w N ⟨boot_heap w.params,Array.mk [],boot_drawn,boot_toks,os⟩=some s'.abs:=by
  unfold topFrom;dsimp only;rw [z1,z2,z3,r];show (match staticsOk (importedModules p.main.body) (boot_heap w.params) s'.abs.heap && namesBound p s'.abs.heap && gensDone s'.abs && laidKept (boot_heap w.params) s'.abs.heap with | true=>_ | false=>_)=_
  rw [l1]
 unfold openEnds;rw [e];show (topFrom treeTable p w N _).map _=_;rw [t];exact congrArg some (Prod.ext l2 l3)
end HD
set_option maxHeartbeats 0
namespace HD
open PySem PySem.W L2 PySem.Challenge
def dE (P:Params)(x:Str)(t:Tok)(v:Value):DictEntry:=⟨PyData.keyHash P x,.str x t,v⟩
def top (p:Program) (i:Nat):Stmt:=p.main.body.getD i (.Pass ⟨0,0,0,0⟩)
def iL (p:Program) (i j:Nat):Stmt:=match top p i with
 | .ClassDef _ _ _ body _ _ _ _ _ _ _=>body.getD j (.Pass ⟨0,0,0,0⟩)
 | _=>.Pass ⟨0,0,0,0⟩
def posOf (s:Stmt):Pos:=match s with
 | .FunctionDef _ _ _ _ _ _ _ _ _ p=>p
 | _=>⟨0,0,0,0⟩
def cF (a:Addr)(n q:Str)(i:Nat)(l m:Int)(x y:Addr)(u v s t:Value)(z:Int)(w:Nat):Addr×Obj:=(a,⟨.type "code",none,.fields #[.str n i,.str q (i+1),.str "/claim/cut.py" (i+2),.int l 0,.int m 0,.int 0 0,.int 0 0,.int 3 0,.ref x,.bool true,.int 181 0,.ref y,u,v,s,t,.int z 0,.int l 0,.str "/claim/cut.py" w],#[]⟩)
def fF (a:Addr)(n q:Str)(s:Stmt)(m:Value):Addr×Obj:=(a,⟨.type "function",none,.func (fnOf n q (cY s) (bT s) (av s) .none .none .none m none (.ref (a-1)) .none),#[]⟩)
def dR (P:Params)(x:Str)(t:Tok)(a:Addr):DictEntry:=dE P x t (.ref a)
def m0:Value:=.str "__main__" 164
def m1:Value:=.str "wright.rules" 194
def m2:Value:=.str "wright.begin_tables" 226
def m3:Value:=.str "wright.errors" 320
def m4:Value:=.str "wright.loops" 481
def m5:Value:=.str "wright.tree_sizes" 511
def m6:Value:=.str "wright.grammar_faults" 532
def m7:Value:=.str "wright.least_trees" 559
def m8:Value:=.str "wright.grammars" 645
def m9:Value:=.str "law_wright_k13_loops" 688
noncomputable def K' (p:Program)(P:Params):Frag:=[
 (2,⟨.none,none,.dict #[] 0,#[]⟩),
 (3,⟨.type "dict",none,.dict #[dE P "__name__" 165 (.str "law_wright_k13_loops" 688),dE P "__doc__" 166 (.none),dE P "__package__" 167 (.none),dE P "__loader__" 168 (.builtin "__main__.__loader__#opaque"),dE P "__spec__" 169 (.none),dR P "__annotations__" 170 6,dR P "__builtins__" 171 4,dE P "__file__" 173 (.str "/claim/cut.py" 172),dE P "__cached__" 174 (.none),dR P "_wall" 193 21,dR P "heads_of" 201 26,dR P "words_in" 207 31,dR P "numbers_by_name" 213 36,dR P "standings_by_part" 225 43,dR P "found_empties" 233 48,dR P "first_places" 244 55,dR P "BeginTable" 319 105,dR P "WrightError" 339 119,dR P "NoRules" 355 132,dR P "Twice" 380 151,dR P "Endless" 405 170,dR P "Unmet" 430 189,dR P "Loop" 455 208,dR P "Vast" 480 227,dR P "find_loop" 488 234,dR P "steps_with_like_rows" 494 239,dR P "way_back" 510 246,dR P "least_sizes" 518 251,dR P "greatest_empty_sizes" 525 258,dR P "settled_sizes" 531 263,dE P "MOST_RULES" 535 (.int (60) 534),dR P "refuse_faults" 541 268,dR P "refuse_twice" 552 275,dR P "names_met" 558 280,dR P "least_by_part" 566 285,dR P "rule_size" 572 290,dR P "empty_by_name" 578 295,dR P "LeastTrees" 644 338,dR P "Grammar" 687 367,dR P "_law_cell_at" 697 378,dR P "_law_whole" 704 385,dR P "_law_stream" 715 392,dR P "_law_pool" 721 397,dR P "_law_digits" 727 402,dR P "_law_first" 733 407,dR P "_law_rule" 739 412,dR P "_law_rules" 745 417,dR P "_law_empty" 751 422,dR P "_law_is_way" 757 427,dR P "_law_loops" 763 432,dR P "_law_is_loop" 777 439,dR P "law" 792 446] 52,#[]⟩),
 (cF 20 "_wall" "_wall" 187 1 1 15 16 .none (.ref 17) (.ref 18) (.ref 19) 191 192),
 (fF 21 "_wall" "_wall" (top p 0) m0),
 (cF 25 "heads_of" "heads_of" 196 5 1 22 23 .none .none .none (.ref 24) 199 200),
 (fF 26 "heads_of" "heads_of" (top p 2) m1),
 (cF 30 "words_in" "words_in" 202 7 1 27 28 .none .none .none (.ref 29) 205 206),
 (fF 31 "words_in" "words_in" (top p 3) m1),
 (cF 35 "numbers_by_name" "numbers_by_name" 208 15 1 32 33 .none .none .none (.ref 34) 211 212),
 (fF 36 "numbers_by_name" "numbers_by_name" (top p 4) m1),
 (cF 42 "standings_by_part" "standings_by_part" 214 20 1 37 38 .none (.ref 39) (.ref 40) (.ref 41) 223 224),
 (fF 43 "standings_by_part" "standings_by_part" (top p 5) m1),
 (cF 47 "found_empties" "found_empties" 228 27 1 44 45 .none .none .none (.ref 46) 231 232),
 (fF 48 "found_empties" "found_empties" (top p 7) m2),
 (cF 54 "first_places" "first_places" 234 38 2 49 50 .none (.ref 51) (.ref 52) (.ref 53) 242 243),
 (fF 55 "first_places" "first_places" (top p 8) m2),
 (cF 66 "__init__" "BeginTable.__init__" 257 47 2 63 64 .none .none .none (.ref 65) 260 261),
 (fF 67 "__init__" "BeginTable.__init__" (iL p 9 0) m2),
 (cF 73 "find_begins" "BeginTable.find_begins" 263 58 3 68 69 .none (.ref 70) (.ref 71) (.ref 72) 272 273),
 (fF 74 "find_begins" "BeginTable.find_begins" (iL p 9 1) m2),
 (cF 80 "words_of_part" "BeginTable.words_of_part" 275 66 2 75 76 .none (.ref 77) (.ref 78) (.ref 79) 280 281),
 (fF 81 "words_of_part" "BeginTable.words_of_part" (iL p 9 2) m2),
 (cF 87 "first_words" "BeginTable.first_words" 283 69 2 82 83 .none (.ref 84) (.ref 85) (.ref 86) 288 289),
 (fF 88 "first_words" "BeginTable.first_words" (iL p 9 3) m2),
 (cF 94 "all_empty" "BeginTable.all_empty" 291 72 2 89 90 .none (.ref 91) (.ref 92) (.ref 93) 296 297),
 (fF 95 "all_empty" "BeginTable.all_empty" (iL p 9 4) m2),
 (cF 101 "words_of_parts" "BeginTable.words_of_parts" 299 75 3 96 97 .none (.ref 98) (.ref 99) (.ref 100) 305 306),
 (fF 102 "words_of_parts" "BeginTable.words_of_parts" (iL p 9 5) m2),
 (104,⟨.type "dict",none,.dict #[dE P "__module__" 252 (.str "wright.begin_tables" 226),dE P "__firstlineno__" 256 (.int (45) 255),dR P "__init__" 262 67,dR P "find_begins" 274 74,dR P "words_of_part" 282 81,dR P "first_words" 290 88,dR P "all_empty" 298 95,dR P "words_of_parts" 307 102,dR P "__static_attributes__" 312 103,dR P "__dict__" 314 106,dR P "__weakref__" 316 107,dE P "__doc__" 317 (.none)] 4,#[]⟩),
 (105,⟨.type "type",none,.cls ⟨"BeginTable",[.type "object"],[.ref 105,.type "object"],104,"BeginTable",true,[],[],false,none,false⟩,#[none,none,some (.str "BeginTable" 245),some (.str "BeginTable" 253),some (.builtin "object.__new__"),some (.bool true)]⟩),
 (106,⟨.type "getset_descriptor",none,.fields #[.str "__dict__" 313,.ref 105,.builtin "function.__dict__",.builtin "function.__dict__#set"],#[]⟩),
 (107,⟨.type "getset_descriptor",none,.fields #[.str "__weakref__" 315,.ref 105,.builtin "ExceptionGroup.__weakref__",.none],#[]⟩),
 (118,⟨.type "dict",none,.dict #[dE P "__module__" 329 (.str "wright.errors" 320),dE P "__firstlineno__" 333 (.int (78) 332),dR P "__static_attributes__" 334 117,dR P "__weakref__" 336 120,dE P "__doc__" 337 (.none)] 3,#[]⟩),
 (119,⟨.type "type",none,.cls ⟨"WrightError",[.type "ValueError"],[.ref 119,.type "ValueError",.type "Exception",.type "BaseException",.type "object"],118,"WrightError",true,[],[.ref 132,.ref 151,.ref 170,.ref 189,.ref 208,.ref 227],false,none,false⟩,#[some (.ref 110),none,some (.str "WrightError" 322),some (.str "WrightError" 330),some (.builtin "ValueError.__new__"),some (.bool true)]⟩),
 (120,⟨.type "getset_descriptor",none,.fields #[.str "__weakref__" 335,.ref 119,.builtin "ExceptionGroup.__weakref__",.none],#[]⟩),
 (131,⟨.type "dict",none,.dict #[dE P "__module__" 347 (.str "wright.errors" 320),dE P "__firstlineno__" 351 (.int (80) 350),dR P "__static_attributes__" 352 130,dE P "__doc__" 353 (.none)] 2,#[]⟩),
 (132,⟨.type "type",none,.cls ⟨"NoRules",[.ref 119],[.ref 132,.ref 119,.type "ValueError",.type "Exception",.type "BaseException",.type "object"],131,"NoRules",true,[],[],false,none,false⟩,#[some (.ref 123),none,some (.str "NoRules" 340),some (.str "NoRules" 348),some (.builtin "ValueError.__new__"),some (.bool true)]⟩),
 (cF 147 "__init__" "Twice.__init__" 368 84 2 142 143 .none (.ref 144) (.ref 145) (.ref 146) 373 374),
 (fF 148 "__init__" "Twice.__init__" (iL p 13 0) m3),
 (150,⟨.type "dict",none,.dict #[dE P "__module__" 363 (.str "wright.errors" 320),dE P "__firstlineno__" 367 (.int (82) 366),dR P "__init__" 375 148,dR P "__static_attributes__" 377 149,dE P "__doc__" 378 (.none)] 2,#[]⟩),
 (151,⟨.type "type",none,.cls ⟨"Twice",[.ref 119],[.ref 151,.ref 119,.type "ValueError",.type "Exception",.type "BaseException",.type "object"],150,"Twice",true,[],[],false,none,false⟩,#[some (.ref 135),none,some (.str "Twice" 356),some (.str "Twice" 364),some (.builtin "ValueError.__new__"),some (.bool true)]⟩),
 (cF 166 "__init__" "Endless.__init__" 393 89 2 161 162 .none (.ref 163) (.ref 164) (.ref 165) 398 399),
 (fF 167 "__init__" "Endless.__init__" (iL p 14 0) m3),
 (169,⟨.type "dict",none,.dict #[dE P "__module__" 388 (.str "wright.errors" 320),dE P "__firstlineno__" 392 (.int (87) 391),dR P "__init__" 400 167,dR P "__static_attributes__" 402 168,dE P "__doc__" 403 (.none)] 2,#[]⟩),
 (170,⟨.type "type",none,.cls ⟨"Endless",[.ref 119],[.ref 170,.ref 119,.type "ValueError",.type "Exception",.type "BaseException",.type "object"],169,"Endless",true,[],[],false,none,false⟩,#[some (.ref 154),none,some (.str "Endless" 381),some (.str "Endless" 389),some (.builtin "ValueError.__new__"),some (.bool true)]⟩),
 (cF 185 "__init__" "Unmet.__init__" 418 94 2 180 181 .none (.ref 182) (.ref 183) (.ref 184) 423 424),
 (fF 186 "__init__" "Unmet.__init__" (iL p 15 0) m3),
 (188,⟨.type "dict",none,.dict #[dE P "__module__" 413 (.str "wright.errors" 320),dE P "__firstlineno__" 417 (.int (92) 416),dR P "__init__" 425 186,dR P "__static_attributes__" 427 187,dE P "__doc__" 428 (.none)] 2,#[]⟩),
 (189,⟨.type "type",none,.cls ⟨"Unmet",[.ref 119],[.ref 189,.ref 119,.type "ValueError",.type "Exception",.type "BaseException",.type "object"],188,"Unmet",true,[],[],false,none,false⟩,#[some (.ref 173),none,some (.str "Unmet" 406),some (.str "Unmet" 414),some (.builtin "ValueError.__new__"),some (.bool true)]⟩),
 (cF 204 "__init__" "Loop.__init__" 443 99 2 199 200 .none (.ref 201) (.ref 202) (.ref 203) 448 449),
 (fF 205 "__init__" "Loop.__init__" (iL p 16 0) m3),
 (207,⟨.type "dict",none,.dict #[dE P "__module__" 438 (.str "wright.errors" 320),dE P "__firstlineno__" 442 (.int (97) 441),dR P "__init__" 450 205,dR P "__static_attributes__" 452 206,dE P "__doc__" 453 (.none)] 2,#[]⟩),
 (208,⟨.type "type",none,.cls ⟨"Loop",[.ref 119],[.ref 208,.ref 119,.type "ValueError",.type "Exception",.type "BaseException",.type "object"],207,"Loop",true,[],[],false,none,false⟩,#[some (.ref 192),none,some (.str "Loop" 431),some (.str "Loop" 439),some (.builtin "ValueError.__new__"),some (.bool true)]⟩),
 (cF 223 "__init__" "Vast.__init__" 468 104 2 218 219 .none (.ref 220) (.ref 221) (.ref 222) 473 474),
 (fF 224 "__init__" "Vast.__init__" (iL p 17 0) m3),
 (226,⟨.type "dict",none,.dict #[dE P "__module__" 463 (.str "wright.errors" 320),dE P "__firstlineno__" 467 (.int (102) 466),dR P "__init__" 475 224,dR P "__static_attributes__" 477 225,dE P "__doc__" 478 (.none)] 2,#[]⟩),
 (227,⟨.type "type",none,.cls ⟨"Vast",[.ref 119],[.ref 227,.ref 119,.type "ValueError",.type "Exception",.type "BaseException",.type "object"],226,"Vast",true,[],[],false,none,false⟩,#[some (.ref 211),none,some (.str "Vast" 456),some (.str "Vast" 464),some (.builtin "ValueError.__new__"),some (.bool true)]⟩),
 (cF 233 "find_loop" "find_loop" 483 108 1 230 231 .none .none .none (.ref 232) 486 487),
 (fF 234 "find_loop" "find_loop" (top p 19) m4),
 (cF 238 "steps_with_like_rows" "steps_with_like_rows" 489 112 1 235 236 .none .none .none (.ref 237) 492 493),
 (fF 239 "steps_with_like_rows" "steps_with_like_rows" (top p 20) m4),
 (cF 245 "way_back" "way_back" 495 121 3 240 241 .none (.ref 242) (.ref 243) (.ref 244) 508 509),
 (fF 246 "way_back" "way_back" (top p 21) m4),
 (cF 250 "least_sizes" "least_sizes" 513 137 1 247 248 .none .none .none (.ref 249) 516 517),
 (fF 251 "least_sizes" "least_sizes" (top p 23) m5),
 (cF 257 "greatest_empty_sizes" "greatest_empty_sizes" 519 139 1 252 253 .none (.ref 254) (.ref 255) (.ref 256) 523 524),
 (fF 258 "greatest_empty_sizes" "greatest_empty_sizes" (top p 24) m5),
 (cF 262 "settled_sizes" "settled_sizes" 526 141 3 259 260 .none .none .none (.ref 261) 529 530),
 (fF 263 "settled_sizes" "settled_sizes" (top p 25) m5),
 (cF 267 "refuse_faults" "refuse_faults" 536 154 2 264 265 .none .none .none (.ref 266) 539 540),
 (fF 268 "refuse_faults" "refuse_faults" (top p 28) m6),
 (cF 274 "refuse_twice" "refuse_twice" 542 173 1 269 270 .none (.ref 271) (.ref 272) (.ref 273) 550 551),
 (fF 275 "refuse_twice" "refuse_twice" (top p 29) m6),
 (cF 279 "names_met" "names_met" 553 180 1 276 277 .none .none .none (.ref 278) 556 557),
 (fF 280 "names_met" "names_met" (top p 30) m6),
 (cF 284 "least_by_part" "least_by_part" 561 190 1 281 282 .none .none .none (.ref 283) 564 565),
 (fF 285 "least_by_part" "least_by_part" (top p 32) m7),
 (cF 289 "rule_size" "rule_size" 567 198 2 286 287 .none .none .none (.ref 288) 570 571),
 (fF 290 "rule_size" "rule_size" (top p 33) m7),
 (cF 294 "empty_by_name" "empty_by_name" 573 200 2 291 292 .none .none .none (.ref 293) 576 577),
 (fF 295 "empty_by_name" "empty_by_name" (top p 34) m7),
 (cF 306 "__init__" "LeastTrees.__init__" 591 207 3 303 304 .none .none .none (.ref 305) 594 595),
 (fF 307 "__init__" "LeastTrees.__init__" (iL p 35 0) m7),
 (cF 313 "least_of" "LeastTrees.least_of" 597 214 2 308 309 .none (.ref 310) (.ref 311) (.ref 312) 602 603),
 (fF 314 "least_of" "LeastTrees.least_of" (iL p 35 1) m7),
 (cF 320 "hollow_of" "LeastTrees.hollow_of" 605 217 2 315 316 .none (.ref 317) (.ref 318) (.ref 319) 610 611),
 (fF 321 "hollow_of" "LeastTrees.hollow_of" (iL p 35 2) m7),
 (cF 327 "begun_place" "LeastTrees.begun_place" 613 220 3 322 323 .none (.ref 324) (.ref 325) (.ref 326) 619 620),
 (fF 328 "begun_place" "LeastTrees.begun_place" (iL p 35 3) m7),
 (cF 334 "begun_of" "LeastTrees.begun_of" 622 223 4 329 330 .none (.ref 331) (.ref 332) (.ref 333) 629 630),
 (fF 335 "begun_of" "LeastTrees.begun_of" (iL p 35 4) m7),
 (337,⟨.type "dict",none,.dict #[dE P "__module__" 586 (.str "wright.least_trees" 559),dE P "__firstlineno__" 590 (.int (205) 589),dR P "__init__" 596 307,dR P "least_of" 604 314,dR P "hollow_of" 612 321,dR P "begun_place" 621 328,dR P "begun_of" 631 335,dR P "__static_attributes__" 637 336,dR P "__dict__" 639 339,dR P "__weakref__" 641 340,dE P "__doc__" 642 (.none)] 4,#[]⟩),
 (338,⟨.type "type",none,.cls ⟨"LeastTrees",[.type "object"],[.ref 338,.type "object"],337,"LeastTrees",true,[],[],false,none,false⟩,#[none,none,some (.str "LeastTrees" 579),some (.str "LeastTrees" 587),some (.builtin "object.__new__"),some (.bool true)]⟩),
 (339,⟨.type "getset_descriptor",none,.fields #[.str "__dict__" 638,.ref 338,.builtin "function.__dict__",.builtin "function.__dict__#set"],#[]⟩),
 (340,⟨.type "getset_descriptor",none,.fields #[.str "__weakref__" 640,.ref 338,.builtin "ExceptionGroup.__weakref__",.none],#[]⟩),
 (350,⟨.type "tuple",none,.seq #[.none] 0,#[]⟩),
 (cF 356 "__init__" "Grammar.__init__" 659 228 3 351 352 .none (.ref 353) (.ref 354) (.ref 355) 665 666),
 (357,⟨.type "function",none,.func (fnOf "__init__" "Grammar.__init__" (cY (iL p 37 0)) (bT (iL p 37 0)) (av (iL p 37 0)) (.ref 350) (.none) (.none) (.str "wright.grammars" 645) (none) (.ref 356) (.none)),#[]⟩),
 (cF 363 "start" "Grammar.start" 668 236 1 358 359 .none (.ref 360) (.ref 361) (.ref 362) 672 673),
 (fF 364 "start" "Grammar.start" (iL p 37 1) m8),
 (366,⟨.type "dict",none,.dict #[dE P "__module__" 654 (.str "wright.grammars" 645),dE P "__firstlineno__" 658 (.int (226) 657),dR P "__init__" 667 357,dR P "start" 674 364,dR P "__static_attributes__" 680 365,dR P "__dict__" 682 368,dR P "__weakref__" 684 369,dE P "__doc__" 685 (.none)] 4,#[]⟩),
 (367,⟨.type "type",none,.cls ⟨"Grammar",[.type "object"],[.ref 367,.type "object"],366,"Grammar",true,[],[],false,none,false⟩,#[none,none,some (.str "Grammar" 647),some (.str "Grammar" 655),some (.builtin "object.__new__"),some (.bool true)]⟩),
 (368,⟨.type "getset_descriptor",none,.fields #[.str "__dict__" 681,.ref 367,.builtin "function.__dict__",.builtin "function.__dict__#set"],#[]⟩),
 (369,⟨.type "getset_descriptor",none,.fields #[.str "__weakref__" 683,.ref 367,.builtin "ExceptionGroup.__weakref__",.none],#[]⟩),
 (cF 377 "_law_cell_at" "_law_cell_at" 690 239 2 372 373 .none (.ref 374) (.ref 375) (.ref 376) 695 696),
 (fF 378 "_law_cell_at" "_law_cell_at" (top p 39) m9),
 (cF 384 "_law_whole" "_law_whole" 698 243 1 379 380 .none (.ref 381) (.ref 382) (.ref 383) 702 703),
 (fF 385 "_law_whole" "_law_whole" (top p 40) m9),
 (cF 391 "_law_stream" "_law_stream" 705 245 2 386 387 .none (.ref 388) (.ref 389) (.ref 390) 713 714),
 (fF 392 "_law_stream" "_law_stream" (top p 41) m9),
 (cF 396 "_law_pool" "_law_pool" 716 252 2 393 394 .none .none .none (.ref 395) 719 720),
 (fF 397 "_law_pool" "_law_pool" (top p 42) m9),
 (cF 401 "_law_digits" "_law_digits" 722 264 1 398 399 .none .none .none (.ref 400) 725 726),
 (fF 402 "_law_digits" "_law_digits" (top p 43) m9),
 (cF 406 "_law_first" "_law_first" 728 273 4 403 404 .none .none .none (.ref 405) 731 732),
 (fF 407 "_law_first" "_law_first" (top p 44) m9),
 (cF 411 "_law_rule" "_law_rule" 734 280 3 408 409 .none .none .none (.ref 410) 737 738),
 (fF 412 "_law_rule" "_law_rule" (top p 45) m9),
 (cF 416 "_law_rules" "_law_rules" 740 288 4 413 414 .none .none .none (.ref 415) 743 744),
 (fF 417 "_law_rules" "_law_rules" (top p 46) m9),
 (cF 421 "_law_empty" "_law_empty" 746 292 2 418 419 .none .none .none (.ref 420) 749 750),
 (fF 422 "_law_empty" "_law_empty" (top p 47) m9),
 (cF 426 "_law_is_way" "_law_is_way" 752 299 5 423 424 .none .none .none (.ref 425) 755 756),
 (fF 427 "_law_is_way" "_law_is_way" (top p 48) m9),
 (cF 431 "_law_loops" "_law_loops" 758 304 3 428 429 .none .none .none (.ref 430) 761 762),
 (fF 432 "_law_loops" "_law_loops" (top p 49) m9),
 (cF 438 "_law_is_loop" "_law_is_loop" 764 315 4 433 434 .none (.ref 435) (.ref 436) (.ref 437) 775 776),
 (fF 439 "_law_is_loop" "_law_is_loop" (top p 50) m9),
 (cF 445 "law" "law" 778 329 1 440 441 .none (.ref 442) (.ref 443) (.ref 444) 790 791),
 (fF 446 "law" "law" (top p 51) m9)]
def as:List Addr:=[2,3,20,21,25,26,30,31,35,36,42,43,47,48,54,55,66,67,73,74,80,81,87,88,94,95,101,102,104,105,106,107,118,119,120,131,132,147,148,150,151,166,167,169,170,185,186,188,189,204,205,207,208,223,224,226,227,233,234,238,239,245,246,250,251,257,258,262,263,267,268,274,275,279,280,284,285,289,290,294,295,306,307,313,314,320,321,327,328,334,335,337,338,339,340,350,356,357,363,364,366,367,368,369,377,378,384,385,391,392,396,397,401,402,406,407,411,412,416,417,421,422,426,427,431,432,438,439,445,446]
def q' (p:Program):Program:=view p [0,2,3,4,5,7,8,9,11,12,13,14,15,16,17,19,20,21,23,24,25,27,28,29,30,32,33,34,35,37,39,40,41,42,43,44,45,46,47,48,49,50,51]
abbrev loose:List Str:=[]
abbrev steps:Nat:=3642
abbrev bound:Nat:=8264
abbrev B6:OpenLaw:=rw_wright_k13_loops
noncomputable abbrev K (P:Params):Frag:=K' pw_wright_k13_loops P
theorem P6 (P:Params):as=(K P).map (·.1):=by kernel_rfl
noncomputable abbrev hook:Hook:=kmHook K as P6 [282,253,248]
def pre (h:B6.row.wellSaid=true->B6.row.Holds):B6.Holds:=by
 o_law
 exact h (by assumption)
abbrev Xt:Shared->Bool:=λs=>xlAt (q' pw_wright_k13_loops) [] s && recOk (RowW.records (OpenRow.toRowW (OpenLaw.row rw_wright_k13_loops))) s
def run (w:World)(os:OsState):(Dx (stepT (denote treeTable) pw_wright_k13_loops w) (stepOk 11 (some (.ref 6))) steps ⟨A8 w.params,11,{},Array.mk [],boot_drawn,boot_toks,os⟩ (topStub pw_wright_k13_loops)).map
  (Dl (Eo pw_wright_k13_loops (q' pw_wright_k13_loops) loose Xt (Hook.obs hook) true (boot_heap w.params)))=some (true,openGood (q' pw_wright_k13_loops) loose,Hook.val hook w):=by
 rw [PySem.W.Fast.te10156331382660048174,PySem.W.Fast.te11892475500146522536,PySem.W.Fast.te14364793385576792824,PySem.W.Fast.te6613529449190102663,PySem.W.Fast.te18407046102923116132]
 kernel_rfl
theorem size (w:World):((boot_heap w.params).isNs mainGlobals && (Array.mk []:Array GenState).size == 0,(boot_heap w.params).objs.size,(boot_heap w.params).nsMap mainGlobals "__annotations__")=(true,11,some (.ref 6)):=by kernel_rfl
def DT:∀w:World,(fencedOpening treeTable pw_wright_k13_loops w bound).map (λs=>(s.heap,s.gens,s.drawn,s.toks))=some (boot_heap w.params,Array.mk [],boot_drawn,boot_toks) :=
 boot_open (nofun) nofun (λs=>by kernel_rfl)
def left:LeftO (OpenRow.toRowW B6.row).prog (q' pw_wright_k13_loops) loose Xt (Hook.obs hook) (Hook.val hook) bound:=Ou DT size run nofun
def jL:DefRec:={ name := "law",params:=cY (top pw_wright_k13_loops 51),body:=bT (top pw_wright_k13_loops 51),scope:=av (top pw_wright_k13_loops 51),pos:=posOf (top pw_wright_k13_loops 51) }
def Sw:defOf (q' pw_wright_k13_loops) B6.row.name=some (jL,[]):=by kernel_rfl
def Sv:B6.row.prog.theDef B6.row.name=some (jL.params,jL.body,jL.scope):=by kernel_rfl
def ZK:kwWritten? jL.params.kwonlyargs jL.params.kw_defaults=some []:=by kernel_rfl
def ZJ:(chainsOk (q' pw_wright_k13_loops) && opensWell B6.row.prog && (frees B6.row.toRowW && B6.row.within.isEmpty))=true:=by kernel_rfl
def ZI:jL.params.defaults=[]:=by kernel_rfl
def hold (h:WalkO (q' pw_wright_k13_loops) loose (XL (q' pw_wright_k13_loops) []) (Hook.says hook) B6.row.toRowW jL [] λf vs=>PySem.call f vs)(hw:B6.row.toRowW.promised):B6.Holds :=
 pre λSb=>holds_open (q:=q' pw_wright_k13_loops) (loose:=loose) (Xt:=Xt) (XP:=XL (q' pw_wright_k13_loops) []) (Yf:=Hook.obs hook) (Ya:=Hook.val hook) (YP:=Hook.says hook) (N:=bound) left (Hook.of hook) (Hook.keeps hook) (λs e=>xl_of s (lW.mp e).1) XL.keeps Sw Sv ZK (λs e=>recFacts_of (lW.mp e).2) rfl Sb ZJ ⟨rfl,rfl,rfl,rfl,rfl,nofun⟩ hw h
end HD
set_option maxHeartbeats 4000000
namespace L2
open PySem PySem.Spec PyProof.Rows
abbrev rP:=Nat->St->Hp->Prop
def zL {CX:tZ}{P:Program}{w:World}{K:aV}{mg:Str->Option Value}{base:Heap}{N:List Str}{qual:Str}{scope:Scope}{f:Addr}{cd:Value}{A:Around}{outer:List Env}{s:Shared}{H:Hp}{E:XK}:(eQ CX P w K mg base N qual scope f cd A outer s H E).BR.K=K:=rfl
def Tx {t:TS}{D:Ends}{σ:St}{H:Hp}(h:let E:=D;t E σ H):t D σ H:=h
def Tv {t u:TS}{D:Ends}{σ:St}{H:Hp}(h:let E:={ D with nx:=u D };t E σ H):JE t u D σ H:=h
def Ot {t u:TS}{D:Ends}{σ:St}{H:Hp}(h:let E:=D;let F:={ E with nx:=u E };t F σ H):JE t u D σ H:=h
def Tw {g:TG}{x:V}{σ:St}{H:Hp}{t:TS}{D:Ends}(h:let E:=D;g x σ H λσ2 H2=>t E σ2 H2):g x σ H λσ2 H2=>t D σ2 H2:=h
end L2
local macro_rules | `(tactic| nofun) => `(tactic| (dsimp only [L2.zL];refine L2.Tv ?_;intro _))
local macro_rules | `(tactic| ac_rfl) => `(tactic| (refine L2.Ot ?_;intro _ _))
local macro_rules | `(tactic| ac_nf0) => `(tactic| (refine L2.Tw ?_;intro _))
local macro_rules | `(tactic| ac_nf) => `(tactic| (refine L2.Tx ?_;intro _))
namespace L2
open PySem PySem.Spec PyProof.Rows
section
variable {κ:Type} [DecidableEq κ]
def a_ (kvs:List (κ×V))(k:κ):Option V:=(kvs.find? λkv=>decide (kv.1=k)).map (·.2)
def bC (kvs:List (κ×V))(k:κ)(v:V):List (κ×V) :=
 if (kvs.any λkv=>decide (kv.1=k))=true then kvs.map (λkv=>if kv.1=k then (kv.1,v) else kv) else kvs++[(k,v)]
def I9 (kvs:List (κ×V))(k:κ):List (κ×V):=kvs.filter λkv=>decide (kv.1≠k)
def dS {p:κ×V}{r:List (κ×V)}{k:κ}(e:p.1=k):a_ (p::r) k=some p.2:=by simp [a_,nN,e]
def dU {p:κ×V}{r:List (κ×V)}{k:κ}(e:¬p.1=k):a_ (p::r) k=a_ r k:=by simp [a_,nN,e]
theorem iF (k:κ):∀kvs:List (κ×V),(kvs.any λkv=>decide (kv.1=k))=(a_ kvs k).isSome
 | []=>rfl
 | p::r=>by
  rw [pX];by_cases e:p.1=k
  .simp only [dS e,cM e,Bool.true_or,Option.isSome_some]
  rw [dU e,ff e,Bool.false_or];exact iF k r
theorem vU (k j:κ)(y:V):∀kvs:List (κ×V),a_ (kvs.map λkv=>if kv.1=k then (kv.1,y) else kv) j=(a_ kvs j).map λx=>if j=k then y else x
 | []=>rfl
 | p::r=>by
  have ih:=vU k j y r;rw [bG];by_cases h:p.1=k
  .rw [az h];by_cases e:p.1=j
   .rw [dS (p:=(p.1,y)) e,dS e,pY,az (e.symm.trans h)]
   rw [dU (p:=(p.1,y)) e,dU e,ih]
  rw [aA h];by_cases e:p.1=j
  .rw [dS (p:=p) e,dS e,pY,aA (λz=>h (e.trans z))]
  rw [dU (p:=p) e,dU e,ih]
theorem sr (k j:κ)(y:V):∀kvs:List (κ×V),a_ kvs k=none->a_ (kvs++[(k,y)]) j=if j=k then some y else a_ kvs j
 | [],_=>by
  by_cases e:k=j
  .rw [az e.symm];exact dS (p:=(k,y)) e
  rw [aA (λz=>e z.symm)];exact dU (p:=(k,y)) e
 | p::r,hn=>by
  rw [p6];have hk:¬p.1=k:=λz=>by rw [dS z] at hn;cases hn
  rw [dU hk] at hn;have ih:=sr k j y r hn;by_cases e:p.1=j
  .rw [dS e,dS e,aA (λz=>hk (e.trans z))]
  rw [dU e,dU e,ih]
def vT (kvs:List (κ×V))(k j:κ)(y:V):a_ (bC kvs k y) j=if j=k then some y else a_ kvs j:=by
 unfold bC;by_cases a:(kvs.any λkv=>decide (kv.1=k))=true
 .rw [az a,vU];rw [iF] at a;by_cases e:j=k
  .obtain⟨x,hx⟩:=kq.mp a;rw [az e,e,hx,pY,az rfl]
  rw [aA e];cases a_ kvs j with
  | none=>rfl
  | some x=>rw [pY,aA e]
 rw [aA a];refine sr k j y kvs ?_;rw [iF] at a;cases q:a_ kvs k with
 | none=>rfl
 | some x=>rw [q] at a;exact(a rfl).elim
def eG (kvs:List (κ×V))(k:κ)(v:V):(bC kvs k v).length<=kvs.length+1:=by
 unfold bC
 split
 .rw [aB];omega
 rw [b9,dC,iC];omega
def wq {kvs:List (κ×V)}{k:κ}(v:V)(h:a_ kvs k=none):bC kvs k v=kvs++[(k,v)]:=by
 unfold bC;rw [iF,h];exact aA nofun
def hU.iM {o:Option V}{u:Option Value}(r:hU o u):o.isSome=u.isSome:=by
 cases o with
 | none=>cases u with
  | none=>rfl
  | some _=>exact(show False from r).elim
 | some _=>cases u with
  | none=>exact(show False from r).elim
  | some _=>rfl
theorem hU.getD {o:Option V}{u:Option Value}{d:V}{d':Value}(r:hU o u)(rd:RelV d d'):RelV (o.getD d) (u.getD d'):=by
 cases o with
 | none=>cases u with
  | none=>exact rd
  | some _=>exact(show False from r).elim
 | some _=>cases u with
  | none=>exact(show False from r).elim
  | some _=>exact r
def KV.val {kvs:List (κ×V)}{vs:List (κ×Value)}(r:KV kvs vs)(k:κ):hU (a_ kvs k) (valueAt vs k):=by
 unfold KV at r
 induction r with
 | nil=>exact True.intro
 | @cons p q ps qs h t ih =>
  obtain⟨h1,h2⟩:=h;by_cases e:p.1=k
  .have e':q.1=k:=h1.symm.trans e;have b:valueAt (q::qs) k=some q.2:=by simp [valueAt,nN,e']
   rw [dS e,b];exact h2
  have e':¬q.1=k:=λz=>e (h1.trans z);have b:valueAt (q::qs) k=valueAt qs k:=by simp [valueAt,nN,e']
  rw [dU e,b];exact ih
theorem KV.any {kvs:List (κ×V)}{vs:List (κ×Value)}(r:KV kvs vs)(k:κ):(kvs.any λkv=>decide (kv.1=k))=vs.any λkv=>decide (kv.1=k):=by
 unfold KV at r
 induction r with
 | nil=>rfl
 | cons h t ih=>rw [pX,pX,ih,h.1]
def KV.Kg {kvs:List (κ×V)}{vs:List (κ×Value)}(r:KV kvs vs)(k:κ){y:V}{u:Value}(ry:RelV y u) :
  KV (kvs.map λkv=>if kv.1=k then (kv.1,y) else kv) (vs.map λkv=>if kv.1=k then (kv.1,u) else kv):=by
 unfold KV at r ⊢
 induction r with
 | nil=>exact .nil
 | @cons p q ps qs h t ih =>
  rw [bG,bG];refine .cons ?_ ih;obtain⟨h1,h2⟩:=h;by_cases e:p.1=k
  .rw [az e,az (h1.symm.trans e)];exact⟨h1,ry⟩
  rw [aA e,aA (λz=>e (h1.trans z))];exact⟨h1,h2⟩
def KV.put {kvs:List (κ×V)}{vs:List (κ×Value)}(r:KV kvs vs)(k:κ){y:V}{u:Value}(ry:RelV y u):KV (bC kvs k y) (stored vs k u):=by
 unfold bC stored;rw [r.any k];by_cases e:(vs.any λkv=>decide (kv.1=k))=true
 .rw [az e,az e];exact r.Kg k ry
 rw [aA e,aA e];exact ft r ⟨rfl,ry⟩
def KV.drop {kvs:List (κ×V)}{vs:List (κ×Value)}(r:KV kvs vs)(k:κ):KV (I9 kvs k) (without vs k):=by
 unfold KV at r ⊢;unfold I9 without
 induction r with
 | nil=>exact .nil
 | @cons p q ps qs h t ih =>
  obtain⟨h1,h2⟩:=h;rw [ki,ki];by_cases e:p.1=k
  .have a:¬decide (p.1≠k)=true:=by simp [e]
   have b:¬decide (q.1≠k)=true:=by simp [h1.symm.trans e]
   rw [aA a,aA b];exact ih
  have e':¬q.1=k:=λz=>e (h1.trans z);have a:decide (p.1≠k)=true:=by simp [e]
  have b:decide (q.1≠k)=true:=by simp [e']
  rw [az a,az b];exact .cons ⟨h1,h2⟩ ih
def KV.keys {kvs:List (κ×V)}{vs:List (κ×Value)}(r:KV kvs vs):kvs.map (·.1)=vs.map (·.1):=by
 unfold KV at r
 induction r with
 | nil=>rfl
 | cons h t ih=>rw [bG,bG,ih,h.1]
theorem KV.length {kvs:List (κ×V)}{vs:List (κ×Value)}(r:KV kvs vs):kvs.length=vs.length:=bF r
end
def kA {P:Program}{w:World}{k:aJ}{u:Value}(r:RelV (kV k) u):(aY P w).is k u=true:=by
 cases k with
 | inl i=>obtain⟨t,e⟩:=(show ∃t,u=Value.int i t from r);subst e;exact wI P w i t
 | inr x=>obtain⟨t,e⟩:=(show ∃t,u=Value.str x t from r);subst e;exact wH P w x t
theorem sX {P:Program}{w:World}:∀{ks:List aJ}{us:List Value},aS (ks.map kV) us->ItemsAre (aY P w) ks us
 | [],_,r=>by rw [jy] at r;cases r;exact .nil
 | k::ks,_,r=>by
  rw [bG] at r;cases r with
  | cons h t=>exact .cons (kA h) (sX t)
abbrev KT (H:Hp):List (List aJ×V)->List (List aJ×Addr×Value)->Prop:=Paired λp q=>p.1=q.1/\H q.2.1=some (.tup (p.1.map kV))/\RelV p.2 q.2.2
def KT.val {H:Hp}{kvs:List (List aJ×V)}{xs:List (List aJ×Addr×Value)}(r:KT H kvs xs)(k:List aJ):hU (a_ kvs k) ((atKey xs k).map (·.2)):=by
 induction r with
 | nil=>exact True.intro
 | @cons p q ps qs h t ih =>
  obtain⟨h1,_,h2⟩:=h;by_cases e:p.1=k
  .have e':q.1=k:=h1.symm.trans e;have b:atKey (q::qs) k=some q.2:=by simp [atKey,nN,e']
   rw [dS e,b];exact h2
  have e':¬q.1=k:=λz=>e (h1.trans z);have b:atKey (q::qs) k=atKey qs k:=by simp [atKey,nN,e']
  rw [dU e,b];exact ih
def KT.Kg {H:Hp}{kvs:List (List aJ×V)}{xs:List (List aJ×Addr×Value)}(r:KT H kvs xs)(k:List aJ){y:V}{u:Value}(ry:RelV y u) :
  KT H (kvs.map λkv=>if kv.1=k then (kv.1,y) else kv) (xs.map (putAt k u)):=by
 induction r with
 | nil=>exact .nil
 | @cons p q ps qs h t ih =>
  rw [bG,bG];refine .cons ?_ ih;obtain⟨h1,h2,h3⟩:=h;unfold putAt;by_cases e:p.1=k
  .rw [az e,az (h1.symm.trans e)];exact⟨h1,h2,ry⟩
  rw [aA e,aA (λz=>e (h1.trans z))];exact⟨h1,h2,h3⟩
def KT.put {H:Hp}{kvs:List (List aJ×V)}{xs:List (List aJ×Addr×Value)}(r:KT H kvs xs)(k:List aJ){b:Addr}{y:V}{u:Value}(hb:H b=some (.tup (k.map kV)))(ry:RelV y u) :
  KT H (bC kvs k y) (storedH xs k b u):=by
 have e:(kvs.any λkv=>decide (kv.1=k))=(atKey xs k).isSome:=by
  rw [iF,(r.val k).iM,nU]
 unfold bC storedH;rw [e];by_cases q:(atKey xs k).isSome=true
 .rw [az q,az q];exact r.Kg k ry
 rw [aA q,aA q];exact ft r ⟨rfl,hb,ry⟩
def KT.keeps {H H':Hp}{kvs:List (List aJ×V)}{xs:List (List aJ×Addr×Value)}(r:KT H kvs xs)(ht:∀b ys,H b=some (.tup ys)->H' b=some (.tup ys)):KT H' kvs xs :=
 Paired.eF r λ_ _ z=>⟨z.1,ht _ _ z.2.1,z.2.2⟩
section
variable {P:Program}{w:World}{H:Hp}{h:Heap}{a:Addr}
def Iw {u:HO}(ok:j_ P w H h)(e:Rd H a u):bV P w H h a u:=e.ok ok
def ni {kvs:List (aJ×V)}(ok:j_ P w H h)(e:Rd H a (.dK kvs)):kvs.length<=sizeLine/\(a == sysModules)=false/\∃vs,KV kvs vs/\h.DictOf (aY P w) a vs :=
 show bV P w H h a (.dK kvs) from Iw ok e
def xb {kvs:List (aJ×V)}(ok:j_ P w H h)(e:H a=some (.dK kvs)):kvs.length<=sizeLine/\(a == sysModules)=false/\∃vs,KV kvs vs/\h.DictOf (aY P w) a vs:=ni ok (.inl e)
def lg {ks:List aJ}(ok:j_ P w H h)(e:H a=some (.tup (ks.map kV))):(tupleKind (aY P w)).is h ks a:=by
 obtain⟨_,aO,r,o,h1,h2,n,h3⟩:=(show bV P w H h a (.tup (ks.map kV)) from ok a _ e);exact⟨o,aO.toArray,n,h1,h2,h3,by simpa using sX r⟩
def q9 {kvs:List (List aJ×V)}(ok:j_ P w H h)(e:Rd H a (.dT kvs)):kvs.length<=sizeLine/\(a == sysModules)=false /\
  ∃xs,KT H kvs xs/\h.DictOfH (tupleKind (aY P w)) a xs:=by
 obtain⟨z,y,xs,r,o,es,ep,h1,h2,h3,h4,h5⟩:=(show bV P w H h a (.dT kvs) from Iw ok e);refine⟨z,y,xs,r,o,es,ep,h1,h2,h3,h4,λx hx=>?_,h5⟩;have all:∀{l:List (List aJ×V)}{m:List (List aJ×Addr×Value)},KT H l m->∀x∈m,(tupleKind (aY P w)).is h x.1 x.2.1:=by
  intro l m q
  induction q with
  | nil=>intro x hx;exact nomatch hx
  | @cons p q ps qs hq t ih =>
   intro x hx;rcases bN.mp hx with e | hx
   .subst e;exact lg ok (by rw [<-hq.1];exact hq.2.1)
   exact ih x hx
 exact all r x hx
def PN {kvs:List (List aJ×V)}(ok:j_ P w H h)(e:H a=some (.dT kvs)):kvs.length<=sizeLine/\(a == sysModules)=false /\
  ∃xs,KT H kvs xs/\h.DictOfH (tupleKind (aY P w)) a xs:=q9 ok (.inl e)
end
def cm (H:Hp)(a:Addr)(y:V)(r:Option V):Prop :=
 (∃kvs k,Rd H a (.dK kvs)/\y=kV k/\r=a_ kvs k)\/∃kvs k b,Rd H a (.dT kvs)/\y=.ref b/\H b=some (.tup (k.map kV))/\r=a_ kvs k
def oz (H:Hp)(a:Addr)(y v:V)(H':Hp):Prop :=
 (∃kvs k,H a=some (.dK kvs)/\y=kV k/\kvs.length < sizeLine/\H'=upd H a (.dK (bC kvs k v))) \/
 ∃kvs k b,H a=some (.dT kvs)/\y=.ref b/\H b=some (.tup (k.map kV))/\kvs.length < sizeLine/\H'=upd H a (.dT (bC kvs k v))
theorem cm.k {H:Hp}{a:Addr}{kvs:List (aJ×V)}{k:aJ}(e:H a=some (.dK kvs)):cm H a (kV k) (a_ kvs k):=.inl ⟨kvs,k,.inl e,rfl,rfl⟩
def cm.t {H:Hp}{a b:Addr}{kvs:List (List aJ×V)}{k:List aJ}(e:H a=some (.dT kvs))(eb:H b=some (.tup (k.map kV))):cm H a (.ref b) (a_ kvs k):=.inr ⟨kvs,k,b,.inl e,rfl,eb,rfl⟩
theorem oz.k {H:Hp}{a:Addr}{kvs:List (aJ×V)}{k:aJ}{v:V}(e:H a=some (.dK kvs))(hl:kvs.length < sizeLine):oz H a (kV k) v (upd H a (.dK (bC kvs k v))):=.inl ⟨kvs,k,e,rfl,hl,rfl⟩
def oz.t {H:Hp}{a b:Addr}{kvs:List (List aJ×V)}{k:List aJ}{v:V}(e:H a=some (.dT kvs))(eb:H b=some (.tup (k.map kV)))(hl:kvs.length < sizeLine) :
  oz H a (.ref b) v (upd H a (.dT (bC kvs k v))):=.inr ⟨kvs,k,b,e,rfl,eb,hl,rfl⟩
section
variable {X:Cx}{ag:List (Addr×Obj)}{σ:St}{H:Hp}{s:Shared}{a:Addr}{y v:V}{u r:Value}{o:Option V}{A:Around}{E:Value->Shared->Prop}
def Inv.big (I:Inv X ag σ H s):sysModules < s.heap.objs.size:=by
 have h:mainGlobals < s.heap.objs.size:=(I.mod.glob.keeps I.bk).lt;exact jA nofun h
def Cr {Q:Value->Shared->Prop}(hu:A.units+1 < cLine)(I:Inv X ag σ H s)(g:cm H a y (some v))(ry:RelV y u)(h:∀w' s',Inv X ag σ H s'->RelV v w'->Q w' s') :
  wpAny (model X.prog X.w) A (getItem (.ref a) u) Q E s:=by
 rcases g with ⟨kvs,k,e,ey,l⟩ | ⟨kvs,k,b,e,ey,eb,l⟩
 .subst ey;obtain⟨z,hd,vs,rel,dd⟩:=ni I.bH e;obtain⟨w',hw,yH⟩:=hU.some_of (v:=v) (o:=valueAt vs k) (by rw [l];exact rel.val k);exact wpAny_getItem_of (kA ry) dd.mapOf hw (h w' _ (I.tok _) yH)
 subst ey;cases (show u=Value.ref b from ry);obtain⟨z,hd,xs,rel,dd⟩:=q9 I.bH e;obtain⟨w',hw,yH⟩:=hU.some_of (v:=v) (o:=(atKey xs k).map (·.2)) (by rw [l];exact rel.val k);obtain⟨p,hp,Cb⟩:=cf.mp hw;refine wpAny_getItem_heap (nS hu) (lg I.bH eb) dd hp ?_;rw [Cb];exact h w' _ (I.tok _) yH
def Vx {Q:Value->Shared->Prop}(hu:A.units+1 < cLine)(I:Inv X ag σ H s)(g:cm H a y o)(ry:RelV y u)(h:∀s',Inv X ag σ H s'->Q (.bool o.isSome) s') :
  wpAny (model X.prog X.w) A (compareOp .In u (.ref a)) Q E s:=by
 rcases g with ⟨kvs,k,e,ey,l⟩ | ⟨kvs,k,b,e,ey,eb,l⟩
 .subst ey;obtain⟨z,hd,vs,rel,dd⟩:=ni I.bH e;refine wpAny_in_of (kA ry) hd dd.mapOf ?_;rw [<-(rel.val k).iM,<-l];exact h _ (I.tok _)
 subst ey;cases (show u=Value.ref b from ry);obtain⟨z,hd,xs,rel,dd⟩:=q9 I.bH e;refine wpAny_in_heap (nS hu) (lg I.bH eb) hd dd ?_;have q:=(rel.val k).iM;rw [nU] at q;rw [<-q,<-l];exact h _ (I.tok _)
def HM {Q:Value->Shared->Prop}(hu:A.units+1 < cLine)(I:Inv X ag σ H s)(g:cm H a y o)(ry:RelV y u)(h:∀s',Inv X ag σ H s'->Q (.bool (!o.isSome)) s') :
  wpAny (model X.prog X.w) A (compareOp .NotIn u (.ref a)) Q E s:=by
 rcases g with ⟨kvs,k,e,ey,l⟩ | ⟨kvs,k,b,e,ey,eb,l⟩
 .subst ey;obtain⟨z,hd,vs,rel,dd⟩:=ni I.bH e;refine wpAny_notIn_of (kA ry) hd dd.mapOf ?_;rw [<-(rel.val k).iM,<-l];exact h _ (I.tok _)
 subst ey;cases (show u=Value.ref b from ry);obtain⟨z,hd,xs,rel,dd⟩:=q9 I.bH e;refine wpAny_notIn_heap (nS hu) (lg I.bH eb) hd dd ?_;have q:=(rel.val k).iM;rw [nU] at q;rw [<-q,<-l];exact h _ (I.tok _)
def pQ {h':Heap}{t':Nat}{ob:HO}(I:Inv X ag σ H s)(mu:Qk (H a))(hs:Heap.SameBut a s.heap h')(he:∃q,h'.get? a=some q)(new:bV X.prog X.w (upd H a ob) h' a ob) :
  Inv X ag σ (upd H a ob) { s with heap:=h',toks:=t' } :=
 I.write (x:=a) (e:=a) mu (.inl rfl) (λb q hb z=>(hs.2 b hb).trans z) he new
def q_ {P:Program}{w:World}{H':Hp}{h':Heap}{kvs:List (aJ×V)}{vs:List (aJ×Value)}(z:kvs.length<=sizeLine)(hd:(a == sysModules)=false)(rel:KV kvs vs)(dd:h'.DictOf (aY P w) a vs) :
  bV P w H' h' a (.dK kvs):=⟨z,hd,vs,rel,dd⟩
def Cq {H':Hp}{Q:Unit->Shared->Prop}(hu:A.units+1 < cLine)(I:Inv X ag σ H s)(g:oz H a y v H')(ry:RelV y u)(rv:RelV v r)(h:∀s',Inv X ag σ H' s'->Q () s') :
  wpAny (model X.prog X.w) A (setItem (.ref a) u r) Q E s:=by
 rcases g with ⟨kvs,k,e,ey,l,eH⟩ | ⟨kvs,k,b,e,ey,eb,l,eH⟩
 .subst ey eH;obtain⟨z,hd,vs,rel,dd⟩:=xb I.bH e;have hz:vs.length<=sizeLine:=by rw [<-rel.length];exact z
  have hl:(bC kvs k v).length<=sizeLine:=by have:=eG kvs k v;omega
  refine wpAny_setItem_pairs (hsz:=hz) (kA ry) dd λh' F5 hs=>h _ ?_;have he:∃q,h'.get? a=some q:=let ⟨q,_,_,hq,_⟩:=F5;⟨q,hq⟩;exact pQ I (by rw [e];exact True.intro) hs he (q_ hl hd (rel.put k rv) F5)
 subst ey eH;cases (show u=Value.ref b from ry);obtain⟨z,hd,xs,rel,dd⟩:=PN I.bH e;have hz:xs.length<=sizeLine:=by rw [<-bF rel];exact z
 have hl:(bC kvs k v).length<=sizeLine:=by have:=eG kvs k v;omega
 refine wpAny_setItem_heap (hsz:=hz) (nS hu) (lg I.bH eb) dd λh' F5 hs=>h _ ?_;obtain⟨q,es,ep,hq,h2,h3,h4,_,h5⟩:=F5;refine pQ I (by rw [e];exact True.intro) hs ⟨q,hq⟩ ⟨hl,hd,_,(rel.put k eb rv).keeps λc ys ec=>?_,q,es,ep,hq,h2,h3,h4,h5⟩;rw [ai (Oe ec e (λz=>nomatch z))];exact ec
end
section
variable {X:Cx}{ag:List (Addr×Obj)}{σ:St}{H:Hp}{s:Shared}{a:Addr}{kvs:List (aJ×V)}{k:aJ}{u:Value}{A:Around}{E:Value->Shared->Prop}
def PR {Q:Value->Shared->Prop}(I:Inv X ag σ H s)(e:Rd H a (.dK kvs))(h:∀t s',Inv X ag σ H s'->Q (.int kvs.length t) s'):wpAny (model X.prog X.w) A (call (.builtin "len") [.ref a]) Q E s:=by
 obtain⟨z,hd,vs,rel,dd⟩:=ni I.bH e;refine call_len_dict hd dd (by rw [<-rel.length];rw [gY] at z;omega) ?_;rw [<-rel.length];exact h _ _ (I.tok _)
end
def Qj (i:Expr):Prop:=∀ov iv,subscripted i false ov iv=operate [ov,iv] (getItem ov iv)
def Ad {prog:Program}{w:World}{A:Around}{E:Value->Shared->Prop}{s:Shared}{env:Env}{value slice:Expr}{pos:Pos}{T id:String}{Q:Value->Shared->Prop}
  (hl:typeLookup (.type T) "__getitem__"=pure (some (.builtin id)))(hs:Qj slice)
  (h:wpAny (model prog w) A (eval value env) (λo s₁=>wpAny (model prog w) A (eval slice env) (λi s₂=>s₂.TypeIs o T/\wpAny (model prog w) A (getItem o i) Q E s₂) E s₁) E s) :
  wpAny (model prog w) A (eval (.Subscript value slice pos) env) Q E s:=by
 refine Subscript_ (cv h (λo s₁ h₁=>cv h₁ (λi s₂ h₂=>?_) λ_ _ x=>x) λ_ _ x=>x);obtain⟨hT,h₂⟩:=h₂;unfold subscriptTail;refine ax ?_;rw [getitemInPython_of_ne hT.not_modules];refine ax (wpAny_specialOf hT hl ?_);have fin:wpAny (model prog w) A (subscripted slice false o i) (λr s₃=>wpAny (model prog w) A (letTemporaryGo value o r >>= λ_=>pure r) Q E s₃) E s₂:=by
  rw [hs o i];exact wpAny_operating (cv h₂ (λr s₃ h₃=>ax (wpAny_letTemporaryGo (aD h₃))) λ_ _ x=>x)
 first
  | exact aD (ax fin)
  | exact ax (aD (ax fin))
  | exact ax fin
def xi {X:Cx}{ag:List (Addr×Obj)}{σ:St}{H:Hp}{s:Shared}{a:Addr}{y:V}{o:Option V}(I:Inv X ag σ H s)(g:cm H a y o):s.TypeIs (.ref a) "dict" := by
 rcases g with ⟨kvs,k,e,_,_⟩ | ⟨kvs,k,b,e,_,_,_⟩
 .obtain⟨_,_,vs,_,dd⟩:=ni I.bH e;exact dd.typeIs
 obtain⟨_,_,xs,_,dd⟩:=q9 I.bH e;exact dd.typeIs
inductive YM (x:V)(S:Addr->Hp->Prop)(R:Hp->Prop):Prop
|mk(a:Addr)(H4:Hp)(e:x=.ref a)(s:S a H4)(q:R H4)
inductive YN (S:Option V->Prop)(R:Option V->Prop):Prop
|mk(o:Option V)(s:S o)(q:R o)
inductive YO (x:V)(S:Addr->V->Prop)(R:V->Prop):Prop
|mk(a:Addr)(v:V)(e:x=.ref a)(s:S a v)(q:R v)
inductive V_ (x:V)(S:Addr->Option V->Prop)(R:Option V->Prop):Prop
|mk(a:Addr)(o:Option V)(e:x=.ref a)(s:S a o)(q:R o)
def z9 (td ty:TE):TE:=λσ H Q=>td σ H λx H1=>ty σ H1 λy H2=>YO x (λa v=>cm H2 a y (some v)) λv=>Q v H2
def NI (ty td:TE):TE:=λσ H Q=>ty σ H λy H1=>td σ H1 λx H2=>V_ x (λa o=>cm H2 a y o) λo=>Q (.bl o.isSome) H2
def z8 (ty td:TE):TE:=λσ H Q=>ty σ H λy H1=>td σ H1 λx H2=>V_ x (λa o=>cm H2 a y o) λo=>Q (.bl (!o.isSome)) H2
def NV (td ty tv:TE):TS:=λD σ H=>tv σ H λv H1=>td σ H1 λx H2=>ty σ H2 λy H3=>YM x (λa H4=>oz H3 a y v H4) λH4=>D.nx σ H4
section
variable {X:Cx}{o i e value:Expr}{pos pos' uH:Pos}{td ty tv:TE}
def eK (hu:X.A.units+1 < cLine)(ho:PE X o td)(hi:PE X i ty)(hs:Qj i):PE X (.Subscript o i pos) (z9 td ty):=by
 intro ag s σ H Q I h;refine Ad PySem.F.slot_dict_getitem.lookup hs (cq (ho ag s σ H _ I h) λu s1 aT=>?_);obtain⟨x,H1,I1,rx,q1⟩:=aT;refine cq (hi ag s1 σ H1 _ I1 q1) λiv s2 aT=>?_;obtain⟨y,H2,I2,ry,a,v,ex,g,q2⟩:=aT;subst ex;obtain rfl:u=Value.ref a:=rx;exact⟨xi I2 g,Cr hu I2 g ry λw' s3 I3 yH=>⟨v,H2,I3,yH,q2⟩⟩
def n_ (hu:X.A.units+1 < cLine)(hi:PE X i ty)(ho:PE X o td):PC X .In i o (NI ty td):=by
 intro ag s σ H Q I h;refine cq (hi ag s σ H _ I h) λiv s1 aT=>?_;obtain⟨y,H1,I1,ry,q1⟩:=aT;refine cq (ho ag s1 σ H1 _ I1 q1) λu s2 aT=>?_;obtain⟨x,H2,I2,rx,a,ov,ex,g,q2⟩:=aT;subst ex;obtain rfl:u=Value.ref a:=rx;exact Vx hu I2 g ry λs3 I3=>⟨.bl ov.isSome,H2,I3,rfl,q2⟩
def dY (hu:X.A.units+1 < cLine)(hi:PE X i ty)(ho:PE X o td):PC X .NotIn i o (z8 ty td):=by
 intro ag s σ H Q I h;refine cq (hi ag s σ H _ I h) λiv s1 aT=>?_;obtain⟨y,H1,I1,ry,q1⟩:=aT;refine cq (ho ag s1 σ H1 _ I1 q1) λu s2 aT=>?_;obtain⟨x,H2,I2,rx,a,ov,ex,g,q2⟩:=aT;subst ex;obtain rfl:u=Value.ref a:=rx;exact HM hu I2 g ry λs3 I3=>⟨.bl (!ov.isSome),H2,I3,rfl,q2⟩
def ib (hu:X.A.units+1 < cLine)(ho:PE X o td)(hi:PE X i ty)(hv:PE X value tv)(hs:swapsWith value (some (.Subscript o i pos')) pos.line X.env=pure false) :
  PS X (.Assign [.Subscript o i pos'] value pos) (NV td ty tv):=by
 intro ag s σ H D I h;refine wpAny_Assign_Subscript (cq (hv ag s σ H _ I h) λr s1 aT=>?_) hs;obtain⟨v,H1,I1,rv,q1⟩:=aT;refine cq (ho ag s1 σ H1 _ I1 q1) λu s2 aT=>?_;obtain⟨x,H2,I2,rx,q2⟩:=aT;refine cq (hi ag s2 σ H2 _ I2 q2) λiv s3 aT=>?_;obtain⟨y,H3,I3,ry,a,H4,ex,g,q3⟩:=aT;subst ex;obtain rfl:u=Value.ref a:=rx;exact Cq hu I3 g ry rv λs4 I4=>⟨σ,H4,I4,q3⟩
end
def xf {P:Program}{w:World}{H:Hp}(h:Heap)(hb:sysModules < h.objs.size):bV P w H (h.push { cls:=.type "dict",data:=.dict #[] }) h.objs.size (.dK []) :=
 ⟨fR _,jv.mpr (eV (bB hb)),[],.nil,Heap.DictOf.new h⟩
def C6:TE:=λ_ H Q=>∀p,H p=none->Q (.ref p) (upd H p (.dK []))
section
variable {X:Cx}{pos:Pos}
def gA:PE X (.Dict [] [] pos) C6:=λag s σ H Q I h =>
 wpAny_Dict_empty ⟨.ref s.heap.objs.size,_,I.laid (a:=s.heap.objs.size) (o:=.dK []) (t':=s.toks) (λ_ _ q=>bD _ q) (aI _) (xf s.heap I.big),rfl,h _ (I.bH.fresh (aI _))⟩
end
def yi:List (TE×TE)->St->Hp->(List (V×V)->Hp->Prop)->Prop
 | [],_,H,Q=>Q [] H
 | (tk,tv)::r,σ,H,Q=>tk σ H λx H1=>tv σ H1 λy H2=>yi r σ H2 λps H3=>Q ((x,y)::ps) H3
abbrev VV:List (V×V)->List (Value×Value)->Prop:=Paired λp q=>RelV p.1 q.1/\RelV p.2 q.2
def Rz (X:Cx)(pos:Pos)(keys:List (Option Expr))(values:List Expr)(Ge:List (TE×TE)):Prop :=
 ∀(ag:List (Addr×Obj))(s:Shared)(σ:St)(H:Hp)(Q:List (V×V)->Hp->Prop),Inv X ag σ H s->yi Ge σ H Q ->
  wpAny (model X.prog X.w) X.A (evalPairs (pairTrees keys values X.env pos)) (λvs s'=>∃ps H',Inv X ag σ H' s'/\VV ps vs/\Q ps H') X.xe s
def GA {X:Cx}{pos:Pos}:Rz X pos [] [] []:=λag s σ H Q I h=>pairTrees_nil_walk ⟨[],H,I,.nil,h⟩
def DI {X:Cx}{pos:Pos}{k v:Expr}{ks:List (Option Expr)}{vs:List Expr}{tk tv:TE}{Ge:List (TE×TE)}(hk:PE X k tk)(hv:PE X v tv)(hr:Rz X pos ks vs Ge) :
  Rz X pos (some k::ks) (v::vs) ((tk,tv)::Ge):=λag s σ H Q I h =>
 pairTrees_cons_walk (cq (hk ag s σ H _ I h) λu s1 ⟨x,H1,I1,rx,q1⟩=>cq (hv ag s1 σ H1 _ I1 q1) λw2 s2 ⟨y,H2,I2,ry,q2⟩ =>
  cq (hr ag s2 σ H2 _ I2 q2) λws s3 ⟨ps,H3,I3,rel,q3⟩=>⟨(x,y)::ps,H3,I3,.cons ⟨rx,ry⟩ rel,q3⟩)
def kY (kvs more:List (aJ×V)):List (aJ×V):=more.foldl (λbA kv=>bC bA kv.1 kv.2) kvs
def KV.merge:∀{more:List (aJ×V)}{rs:List (aJ×Value)}{kvs:List (aJ×V)}{vs:List (aJ×Value)},KV more rs->KV kvs vs->KV (kY kvs more) (merged vs rs):=by
 intro more rs kvs vs r;unfold KV at r
 induction r generalizing kvs vs with
 | nil=>intro q;exact q
 | @cons p q ps qs h t ih =>
  intro r0;have e:KV (bC kvs p.1 p.2) (stored vs q.1 q.2):=by
   have:=r0.put p.1 h.2;rw [<-h.1];exact this
  exact ih e
theorem ky:∀(more kvs:List (aJ×V)),(kY kvs more).length<=kvs.length+more.length
 | [],kvs=>by show kvs.length<=kvs.length+0;omega
 | p::r,kvs=>by
  have h1:=ky r (bC kvs p.1 p.2);have h2:=eG kvs p.1 p.2;show (kY (bC kvs p.1 p.2) r).length<=_;rw [dC];omega
theorem rp {P:Program}{w:World}:∀{kvs:List (aJ×V)}{ws:List (Value×Value)},VV (kvs.map λkv=>(kV kv.1,kv.2)) ws->∃rs,Carries (aY P w) ws rs/\KV kvs rs
 | [],_,r=>by rw [jy] at r;cases r;exact⟨[],True.intro,.nil⟩
 | p::kvs,_,r=>by
  rw [bG] at r;cases r with
  | @cons a b as bs h t =>
   obtain⟨rs,c,q⟩:=rp (P:=P) (w:=w) t;obtain⟨b1,b2⟩:=b;exact⟨(p.1,b2)::rs,⟨kA h.1,rfl,c⟩,.cons ⟨rfl,h.2⟩ q⟩
def NG (Ge:List (TE×TE)):TE:=λσ H Q=>∀p,H p=none->yi Ge σ (upd H p (.dK [])) λps H2=>H2 p=some (.dK [])/\∃kvs:List (aJ×V),ps=kvs.map (λkv=>(kV kv.1,kv.2))/\kvs.length<=15/\Q (.ref p) (upd H2 p (.dK (kY [] kvs)))
def GX {X:Cx}{pos:Pos}{keys:List (Option Expr)}{values:List Expr}{Ge:List (TE×TE)}(h:Rz X pos keys values Ge)(pd:keys.all (·.isSome)=true)(hl:keys.length=values.length)(h0:keys≠[])
  (UZ:keys.length<=15):PE X (.Dict keys values pos) (NG Ge):=by
 intro ag s σ H Q I q;have hn:=I.bH.fresh (aI s.heap.objs.size);have I1:=I.laid (a:=s.heap.objs.size) (o:=.dK []) (h':=s.heap.push { cls:=.type "dict",data:=.dict #[] }) (t':=s.toks) (λ_ _ q=>bD _ q) (aI _) (xf s.heap I.big);refine wpAny_Dict_walk (knd:=aY X.prog X.w) pd hl h0 UZ (cq (h ag _ σ _ _ I1 (q _ hn)) λws s2 aT=>?_);obtain⟨ps,H2,I2,rel,e,kvs,ep,lk,q2⟩:=aT;subst ep;obtain⟨rs,c,rk⟩:=rp (P:=X.prog) (w:=X.w) rel;obtain⟨z,hd,vs0,r0,dd⟩:=xb I2.bH e;cases r0;refine⟨rs,c,dd,λh' F5 hs=>⟨.ref s.heap.objs.size,_,?_,rfl,q2⟩⟩;have hz:(kY [] kvs).length<=sizeLine:=by
  have h1:=ky kvs [];rw [iC] at h1;rw [gY];omega
 have he:∃q,h'.get? s.heap.objs.size=some q:=let ⟨q,_,_,hq,_⟩:=F5;⟨q,hq⟩;exact pQ I2 (by rw [e];exact True.intro) hs he (q_ hz hd (rk.merge .nil) F5)
structure M1 (X:Cx)(o:Expr)(m:Str)(apos:Pos)(e:Expr)(gE:Pos):Prop where
 base:attributeBase o m X.env (eval o X.env)=eval o X.env
 M0:((backTo gE (starEach [e] X.env)).all (λx=>!x.1) && (backToKw gE (keywordEach [] X.env)).all (λx=>x.1.isSome)
  && decide (([e]:List Expr).length+([]:List Keyword).length+(if ([]:List Keyword).isEmpty then 0 else 1) < 30))=true
 line:(apos.endLine == gE.line)=true
 trees:backTo gE (starEach [e] X.env)=[(false,eval e X.env)]
structure M2 (X:Cx)(o:Expr)(m:Str)(apos:Pos)(e f:Expr)(gE:Pos):Prop where
 base:attributeBase o m X.env (eval o X.env)=eval o X.env
 M0:((backTo gE (starEach [e,f] X.env)).all (λx=>!x.1) && (backToKw gE (keywordEach [] X.env)).all (λx=>x.1.isSome)
  && decide (([e,f]:List Expr).length+([]:List Keyword).length+(if ([]:List Keyword).isEmpty then 0 else 1) < 30))=true
 line:(apos.endLine == gE.line)=true
 trees:backTo gE (starEach [e,f] X.env)=[(false,eval e X.env),(false,eval f X.env)]
def RB (H:Hp)(a:Addr):Prop:=(∃kvs,Rd H a (.dK kvs))\/∃kvs,Rd H a (.dT kvs)
def zr {X:Cx}{ag:List (Addr×Obj)}{σ:St}{H:Hp}{s:Shared}{a:Addr}(I:Inv X ag σ H s)(d:RB H a) :
  s.TypeIs (.ref a) "dict" /\ (∀b,Value.ref a=.ref b->∃ob,s.heap.get? b=some ob/\ob.dict=none)/\(a == sysModules)=false:=by
 rcases d with ⟨kvs,e⟩ | ⟨kvs,e⟩
 .obtain⟨_,hd,vs,_,dd⟩:=ni I.bH e;refine⟨dd.typeIs,λb q=>?_,hd⟩;cases q;obtain⟨ob,_,_,h1,h2,_⟩:=dd;exact⟨ob,h1,h2.2.1⟩
 obtain⟨_,hd,xs,_,dd⟩:=q9 I.bH e;refine⟨dd.typeIs,λb q=>?_,hd⟩;cases q;obtain⟨ob,_,_,h1,h2,_⟩:=dd;exact⟨ob,h1,h2.2.1⟩
section
variable {X:Cx}{ag:List (Addr×Obj)}{σ:St}{H:Hp}{s:Shared}{a:Addr}{y d:V}{u r:Value}{o:Option V}{A:Around}{E:Value->Shared->Prop}
def LR {Q:Value->Shared->Prop}(hu:A.units+1 < cLine)(I:Inv X ag σ H s)(g:cm H a y o)(ry:RelV y u)(rd:RelV d r)(h:∀w' s',Inv X ag σ H s'->RelV (o.getD d) w'->Q w' s') :
  wpAny (model X.prog X.w) A (call (.builtin "dict.get") [.ref a,u,r]) Q E s:=by
 rcases g with ⟨kvs,k,e,ey,l⟩ | ⟨kvs,k,b,e,ey,eb,l⟩
 .subst ey;obtain⟨z,hd,vs,rel,dd⟩:=ni I.bH e;refine call_meetsIn PySem.F.slot_dict_get dd.typeIs PySem.F.entry_dict_get (PySem.F.args_dict_get_3 _ _ _) (meets_dict_get_default (aY X.prog X.w) a (kA ry) hd r) ⟨_,dd.mapOf,h _ _ (I.tok _) ?_⟩;rw [l];exact(rel.val k).getD rd
 subst ey;cases (show u=Value.ref b from ry);obtain⟨z,hd,xs,rel,dd⟩:=q9 I.bH e;refine call_meetsIn PySem.F.slot_dict_get dd.typeIs PySem.F.entry_dict_get (PySem.F.args_dict_get_3 _ _ _) (meetsH_dict_get_default (tupleKind (aY X.prog X.w)) a b hd r) ⟨nS hu,k,xs,lg I.bH eb,dd,h _ _ (I.tok _) ?_⟩;rw [l];exact(rel.val k).getD rd
end
def JH (td ty tx:TE):TE:=λσ H Q=>td σ H λx H1=>Rw x (RB H1) λa=>ty σ H1 λy H2=>tx σ H2 λz H3=>YN (cm H3 a y) λo=>Q (o.getD z) H3
section
variable {X:Cx}{o e f:Expr}{apos gE:Pos}{td ty tx:TE}
def DP (hu:X.A.units+1 < cLine)(ho:PE X o td)(he:PE X e ty)(hf:PE X f tx)(m:M2 X o "get" apos e f gE):PE X (.Call (.Attribute o "get" apos) [e,f] [] gE) (JH td ty tx):=by
 intro ag s σ H Q I h;refine wpAny_Call_method m.base m.M0 m.line x9 PySem.F.slot_dict_get PySem.F.type_dict_get (cq (ho ag s σ H _ I h) λu s1 aT=>?_);obtain⟨x,H1,I1,rx,a,ex,d,q1⟩:=aT;subst ex;obtain rfl:u=Value.ref a:=rx;obtain⟨t1,t2,_⟩:=zr I1 d;refine⟨t1,t2,?_⟩;rw [m.trees];refine ur rfl (uf (nR (cq (he ag s1 σ H1 _ I1 q1) λiv s2 ⟨y,H2,I2,ry,q2⟩ =>
  nR (cq (hf ag s2 σ H2 _ I2 q2) λfv s3 ⟨z,H3,I3,rz,ov,g,q3⟩=>Calls.spliced_nil ?_))))
 exact LR hu I3 g ry rz λw' s4 I4 yH=>⟨_,H3,I4,yH,q3⟩
end
section
variable {X:Cx}{ag:List (Addr×Obj)}{σ:St}{H:Hp}{s:Shared}{a:Addr}{kvs:List (aJ×V)}{A:Around}{E:Value->Shared->Prop}
end
section
variable {X:Cx}{ag:List (Addr×Obj)}{σ:St}{H:Hp}{s:Shared}{a:Addr}{y:V}{u:Value}{A:Around}{E:Value->Shared->Prop}
end
open PySem
def ve:typeLookup (.type "list") "keys"=pure none:=by rw [typeLookup_type,builtinLookup_eq_fast];kernel_rfl
def vf:typeLookup (.type "list") "__getattr__"=pure none:=by rw [typeLookup_type,builtinLookup_eq_fast];kernel_rfl
section
variable {prog:Program}{w:World}{A:Around}{E:Value->Shared->Prop}{h:Heap}{g:Array GenState}{d:Drawn}{t:Nat}{os:OsState}{a:Addr}{o:Obj}
def C_:isSubtype (.type "AttributeError") (.type "AttributeError")=pure true:=by rw [isSubtype_type];kernel_rfl
def Kr {m:Str}{tk:Tok}:ownMembersOf (.type "AttributeError") [.str m tk]=#[unsetMember,unsetMember]:=by kernel_rfl
def EY {m:Str}{tk:Tok}:firstArgMember (.type "AttributeError") [.str m tk]=pure .none:=by kernel_rfl
def yJ {α:Type}{self:Value}{name msg:Str}{Q:α->Shared->Prop}(hm:msg.length<=sizeLine)(hh:A.handled=none)
  (hq:∀h' t' e oe,(∀b o,h.get? b=some o->h'.get? b=some o)->h'.get? e=some oe->oe.cls=.type "AttributeError" -> E (.ref e) ⟨h',g,d,t',os⟩) :
  wpAny (model prog w) A (raiseAttrError self name msg) Q E ⟨h,g,d,t,os⟩:=by
 have f1:=C_;unfold raiseAttrError newExc;refine ax (wpAny_mkStr ?_ hm);have fe:=EY (m:=msg) (tk:=t);rw [Kr]
 repeat (any_goals (first | assumption | wp_step))
 unfold raiseNew;refine ax (wpAny_handled ?_);rw [hh];refine ax (aD ?_);refine wpAny_throw ?_;refine hq _ _ _ _ (λb o q=>?_) (lZ _ (cQ _ rfl) rfl) rfl;have lt:=aW q;rw [gu _ _ (by rw [kO];exact jq (uc lt))];exact bD _ (bD _ q)
def zp {tk:Tok}{aO:Array Value}{n:Nat}{Q:Fin->Shared->Prop}(hx:h.get? a=some { cls:=.type "list",data:=.seq aO n })(hh:A.handled=none)
  (hq:∀h' t' e oe,(∀b o,h.get? b=some o->h'.get? b=some o)->h'.get? e=some oe->oe.cls=.type "AttributeError" -> E (.ref e) ⟨h',g,d,t',os⟩) :
  wpAny (model prog w) A (Builtin.«object.__getattribute__» ⟨[.ref a,.str "keys" tk],[]⟩) Q E ⟨h,g,d,t,os⟩:=by
 have hT:(⟨h,g,d,t,os⟩:Shared).TypeIs (.ref a) "list" := ⟨_,hx,rfl⟩;have f4:=ve
 repeat (any_goals (first | assumption | wp_step))
 exact yJ nofun hh hq
def oi {aO:Array Value}{n:Nat}{Q:Option Value->Shared->Prop}(hx:h.get? a=some { cls:=.type "list",data:=.seq aO n })(hh:A.handled=none)
  (hq:∀h' t',(∀b o,h.get? b=some o->h'.get? b=some o)->Q none ⟨h',g,d,t',os⟩):wpAny (model prog w) A (getAttr? (.ref a) "keys") Q E ⟨h,g,d,t,os⟩:=by
 have hT:∀t',(⟨h,g,d,t',os⟩:Shared).TypeIs (.ref a) "list" := λt'=>⟨_,hx,rfl⟩;have f1:=C_;have f2:=uy.lookup;have f3:=uy.bind (.ref a);have f4:=vf;unfold getAttr? getAttrBy? getAttrBy;refine ax (wpAny_mkText (ax (nE (fK (ax (ik (hT _) ?_))))));rw [f2];refine ax (aD ?_);show wpAny _ _ (getAttrByItsOwn _ _ _ _ _ _) _ _ _;unfold getAttrByItsOwn;refine ax (aD (a:=none) (ax (nE (fK ?_))));show wpAny _ _ (boundAndCalled _ _ _) _ _ _;unfold boundAndCalled;rw [f3];refine ax (aD (hX (pU uy.plain F.entry_list_ga (uy.check _ _ _ _ _ _ _ _ (hT _) (F.args_list_getattribute_2 _ _) (zp hx hh λh' t' e oe k ee ec=>?_)))));have te:(⟨h',g,d,t',os⟩:Shared).TypeIs (.ref e) "AttributeError" := ⟨oe,ee,ec⟩;show wpAny _ _ (getattributeRaised _ _ _ _ _ _ _) _ _ _;unfold getattributeRaised;refine ax (wpAny_isInstance te f1 ?_);rw [az rfl];show wpAny _ _ (typeLookup _ _ >>= _) _ _ _;rw [f4];refine ax (aD ?_);show wpAny _ _ (throw _) _ _ _;refine wpAny_throw ?_;refine ax (wpAny_isInstance te f1 ?_);rw [az rfl];exact aD (hq h' t' k)
end
def eJ:plainId "dict.update.loop"=true:=by decide +kernel
def jZ:entryFor table "dict.update.loop"=some Builtin.«dict.update.loop»:=entryFor_of_tree (nofun)
section
variable {prog:Program}{w:World}{K:Type} [DecidableEq K] {knd:KeyKind prog w K}{A:Around}{E:Value->Shared->Prop}
def lH (knd:KeyKind prog w K)(h:Heap)(u:Value)(kv:K×Value):Prop :=
 ∃t key n o,u=.ref t/\knd.is kv.1 key=true/\h.get? t=some o/\o.cls=.type "tuple" /\ o.data=.seq #[key,kv.2] n
def lH.keep {h h':Heap}{u:Value}{kv:K×Value}(p:lH knd h u kv)(k:∀b o,o.cls=.type "tuple" -> h.get? b=some o->h'.get? b=some o):lH knd h' u kv :=
 let ⟨t,key,n,o,a,b,c,d,e⟩:=p;⟨t,key,n,o,a,b,k t o d c,d,e⟩
def E7 {R:Result->Shared->Prop}{d it l:Addr}{items:Array Value}(hh:A.handled=none):∀(more:List (K×Value)) (i:Nat)(s:Shared)(kvs:List (K×Value)) (j:Int)(tk:Tok),items.size=i+more.length ->
  s.heap.DictOf knd d kvs->s.heap.IsListIter it l i->s.heap.IsList l items->(∀m kv,more[m]?=some kv->∃u,items[i+m]?=some u/\lH knd s.heap u kv)->kvs.length+more.length<=sizeLine ->
  (∀h' t',h'.DictOf knd d (more.foldl (λa p=>stored a p.1 p.2) kvs)->(∀b o,b≠d->b≠it->s.heap.get? b=some o->h'.get? b=some o)->R (.ok (.ret .none)) { s with heap:=h',toks:=t' }) ->
  codeAny (model prog w) A (.builtin "dict.update.loop" ⟨[.ref d,.ref it,.int j tk,.none],[]⟩) R s:=by
 intro more
 induction more with
 | nil =>
  intro i s kvs j tk hi hd hit hl hp hz hR;refine jE jZ ?_;rw [oE eJ _];unfold Builtin.«dict.update.loop»;have hs:items[i]?=none:=Array.getElem?_eq_none (by rw [hi];exact aI _);refine ax (uq hh hit hl hs λh1 eb=>?_);have nd:d≠it:=λz=>by
   obtain⟨o,_,_,q,_,c,_⟩:=hd;obtain⟨o',q',_,c'⟩:=hit;rw [z,q'] at q;cases q;rw [c'] at c;cases c
  show wpAny _ _ (Builtin.Dict.addKeywords d [] >>= _) _ _ _;exact ax (aD (aD (hR h1 s.toks (hd.extBut eb nd) λb o n1 n2 q=>eb b o n2 q)))
 | cons kv more ih =>
  intro i s kvs j tk hi hd hit hl hp hz hR;refine jE jZ ?_;rw [oE eJ _];unfold Builtin.«dict.update.loop»;obtain⟨u,hu,t,key,n,o,rfl,hk,ho,hc,AQ⟩:=hp 0 kv rfl;refine ax (wpAny_pyNext_list_item hit hl hu λh1 TL sb=>?_);have nd:d≠it:=λz=>by
   obtain⟨o,_,_,q,_,c,_⟩:=hd;obtain⟨o',q',_,c'⟩:=hit;rw [z,q'] at q;cases q;rw [c'] at c;cases c
  have n2:∀b o,(o.cls=.type "tuple" \/ o.cls=.type "list")->s.heap.get? b=some o->b≠d/\b≠it:=by
   intro b o c q;constructor
   .intro z;obtain⟨o',q',c'⟩:=hd.typeIs;rw [z,q'] at q;cases q;rw [c'] at c;rcases c with c | c <;> exact absurd c nofun
   intro z;obtain⟨o',q',c',_⟩:=hit;rw [z,q'] at q;cases q;rw [c'] at c;rcases c with c | c <;> exact absurd c nofun
  have nt:∀b o,o.cls=.type "tuple" -> s.heap.get? b=some o->b≠d/\b≠it:=λb o c q=>n2 b o (.inl c) q;have nl:l≠d/\l≠it:=by
   obtain⟨o,q,c,_⟩:=hl;exact n2 l o (.inr c) q
  have OX:h1.get? t=some o:=(sb.2 t (nt t o hc ho).2).trans ho;have Pc:h1.DictOf knd d kvs:=hd.sameBut sb nd;refine ax (fK (ax (iX ?_)));unfold Builtin.Dict.pairItems;refine ax (ik (T := "tuple") ⟨o,OX,hc⟩ ?_);rw [az nofun];refine ax (jD OX AQ (aD ?_));show wpAny _ _ (holding [key,kv.2] (dictSet d key kv.2)) _ _ _;rw [dC] at hz hi;refine fK (wpAny_dictSet_pairs (s:={ s with heap:=h1 }) hk Pc (λh2 hd2 NU=>?_) ∅);have kk:∀b o,b≠d->b≠it->s.heap.get? b=some o->h2.get? b=some o:=λb o n1 n2 q=>(NU.2 b n1).trans ((sb.2 b n2).trans q);have ln:(stored kvs kv.1 kv.2).length<=kvs.length+1:=by
   unfold stored
   split
   .simp
   simp
  refine aD ⟨kb eJ _,ih (i+1) _ _ _ _ ∅ hd2 (TL.at λo q=>(NU.2 it (eV nd)).trans q) (hl.at λo q=>kk l o nl.1 nl.2 q) (λm TC e=>?_) ∅ λh3 t3 gO k3=>?_⟩
  .obtain⟨u',e1,e2⟩:=hp (m+1) TC e;exact⟨u',by rw [<-e1];congr 1;omega,e2.keep λb o c q=>kk b o (nt b o c q).1 (nt b o c q).2 q⟩
  exact hR h3 t3 gO λb o n1 n2 q=>k3 b o n1 n2 (kk b o n1 n2 q)
def yj:(Value.type "list" != Value.type "dict")=true:=by decide
def rq {s:Shared}{l:Addr}{items:Array Value}{n:Nat}{more:List (K×Value)}{Q:Value->Shared->Prop}(knd:KeyKind prog w K)(hh:A.handled=none)(hx:s.heap.get? l=some { cls:=.type "list",data:=.seq items n })
  (hi:items.size=more.length)(hp:∀(m:Nat) kv,more[m]?=some kv->∃u,items[m]?=some u/\lH knd s.heap u kv)(hz:more.length<=sizeLine)
  (h:∀h' t',h'.DictOf knd s.heap.objs.size (more.foldl (λa p=>stored a p.1 p.2) [])->(∀b o,s.heap.get? b=some o->h'.get? b=some o)->Q (.ref s.heap.objs.size) { s with heap:=h',toks:=t' }) :
  wpAny (model prog w) A (call (.type "dict") [.ref l]) Q E s:=by
 refine callType_codes (Q₁:=λobj s₁=>obj=.ref s.heap.objs.size/\s₁={ s with heap:=s.heap.push { cls:=.type "dict",data:=.dict #[] } }) F.kt_called_dict (F.kt_typeCall_dict_1 _) F.entry_dict_init (kt_code_dict_new _ ⟨rfl,rfl⟩) ?_;rintro obj s₁ ⟨rfl,rfl⟩;have ze:(s.heap.push { cls:=.type "dict",data:=.dict #[] }).DictOf knd s.heap.objs.size []:=Heap.DictOf.new s.heap;have l0:=bD { cls:=.type "dict",data:=.dict #[] } hx;refine⟨ze.typeIs,F.args_dict_init_2 _ _,?_⟩;unfold Builtin.«dict.__init__» Builtin.Dict.selfAndRest;refine ax (ax (wpAny_notOrdered_dict ze.typeIs (aD ?_)));show wpAny _ _ (Builtin.Dict.updateFrom "dict.__init__" s.heap.objs.size (.ref l) [] .none) _ _ _;unfold Builtin.Dict.updateFrom;refine ax (ik (T := "list") ⟨_,l0,rfl⟩ ?_);rw [az yj];refine ax (oi l0 hh λh1 t1 k1=>?_);refine ax (wpAny_rule ?_);have l1:=k1 _ _ l0;refine ax (kQ ⟨_,l1,rfl,_,rfl⟩ ?_);have k2:∀b o,s.heap.get? b=some o->(h1.push { cls:=.type "list_iterator",data:=.fields #[.ref l,.int 0 0] }).get? b=some o:=λb o q=>bD _ (k1 _ _ (bD _ q));refine aD ⟨kb eJ _,E7 (knd:=knd) (A:=A.in1) (l:=l) (items:=items) (show A.in1.handled=none from hh) more 0 _ [] _ _ (by rw [hi,kN]) ?_ ⟨_,cQ _ rfl,rfl,rfl⟩ ⟨_,k2 _ _ hx,rfl,n,rfl⟩ (λm kv e=>?_) (by simpa using hz) λh' t' hd k3=>?_⟩
 .obtain⟨o,es,ep,q,r⟩:=ze;exact⟨o,es,ep,bD _ (k1 _ _ q),r⟩
 .obtain⟨u,e1,e2⟩:=hp m kv e;exact⟨u,by rw [kN];exact e1,e2.keep λb o _ q=>k2 b o q⟩
 refine⟨rfl,h h' t' hd λb o q=>k3 b o (bB (aW q)) ?_ (k2 b o q)⟩;have:=aW (k1 _ _ (bD { cls:=.type "dict",data:=.dict #[] } q));exact bB this
end
def CG (X:Cx)(ifs:List Expr)(t:TT):Prop :=
 ∀(ag:List (Addr×Obj))(s:Shared)(σ:St)(H:Hp)(Q:Bool->Hp->Prop),Inv X ag σ H s->t σ H Q ->
  wpAny (model X.prog X.w) X.A (forIn ifs true λc r=>if r=true then do let ok <-isTrue c X.env (eval c X.env);pure (ForInStep.yield ok) else pure (ForInStep.yield r)) (TP X ag σ Q) X.xe s
def g6:TT:=λ_ H Q=>Q true H
def bW {X:Cx}:CG X [] g6:=λ_ _ _ H _ I h=>wpAny_tests_nil ⟨H,I,h⟩
def ie {X:Cx}{c:Expr}{t:TT}(h:PT X c t):CG X [c] t:=λag s σ H Q I hw=>wpAny_tests_one (h ag s σ H Q I hw)
def oR {prog:Program}{w:World}{A:Around}{R:Result->Shared->Prop}{s:Shared}{elt target iter:Expr}{ifs:List Expr}{scope:Scope}{pos:Pos}{it bA:Value}{env:Env}(I:Nat->Shared->Prop)
  (turn:∀n s,I n s->wpAny (model prog w) A (pyNext it) (λr s₁=>match r with
   | none=>R (.ok .next) s₁
   | some v=>wpAny (model prog w) A (letOwnedTupleGo target it v) (λ_ s₁=>wpAny (model prog w) A (assign target env v) (λ_ s₂ =>
     wpAny (model prog w) A (forIn ifs true λc r=>if r=true then do let ok <-isTrue c env (eval c env);pure (ForInStep.yield ok) else pure (ForInStep.yield r)) (λok s₃ =>
      if ok=true then wpAny (model prog w) A (eval elt env) (λx s₄ =>
       wpAny (model prog w) A (call (.builtin "list.append") [bA,x]) (λ_ s₅=>∃m,m < n/\I m s₅) (λ_ _=>False) s₄) (λ_ _=>False) s₃
      else ∃m,m < n/\I m s₃) (λ_ _=>False) s₂) (λ_ _=>False) s₁) (λ_ _=>False) s₁) (λ_ _=>False) s)
  (n:Nat)(h:I n s) :
  codeAny (model prog w) A (.compLoop (.ListComp elt [⟨target,iter,ifs,0⟩] scope pos) 0 it bA env) R s:=by
 refine codeAny_loop rfl I (λn s hI=>?_) n h;show wpAny _ A ((compTurn (.ListComp elt [⟨target,iter,ifs,0⟩] scope pos) 0 it bA env).onRaise (λx=>do noteFrame x env;theTreesLotGoes x)) _ _ s;refine wpAny_noted ?_;rw [compTurn_list];refine ax (wpAny_standAt (ax (cv (turn n s hI) (λr s₁ h₁=>?_) λ_ _ h'=>h'.elim)));cases r with
 | none=>exact aD h₁
 | some v =>
  refine ax (cv h₁ (λ_ s₂ h₂=>?_) λ_ _ h'=>h'.elim);refine ax (cv h₂ (λ_ s₂ h₂=>ax (cv h₂ (λok s₃ h₃=>?_) λ_ _ h'=>h'.elim)) λ_ _ h'=>h'.elim);cases ok with
  | false=>exact aD ⟨rfl,h₃⟩
  | true =>
   exact ax (ax (cv h₃ (λx s₄ h₄=>ax (cv h₄ (λ_ s₅ h₅=>aD (aD ⟨rfl,h₅⟩)) λ_ _ h'=>h'.elim)) λ_ _ h'=>h'.elim))
inductive xJ (K:aV)(H:Hp):V->String->Prop where
 | bl (x:Bool):xJ K H (.bl x) "bool"
 | int (i:Int):xJ K H (.int i) "int"
 | str (x:Str):xJ K H (.str x) "str"
 | tup {a:Addr}{xs:List V}(e:a9 K H a xs):xJ K H (.ref a) "tuple"
inductive YI (K:aV)(H:Hp)(xs:List V)(R:Bool->Prop):Prop
|mk(x:V)(T n:String)(b:Bool)(e:xs=[x,.ty n])(c:xJ K H x T)(k:PySem.W.kitOne K (.type T) (.type n)=some b)(q:R b)
def jR {X:Cx}:fA X (.builtin "isinstance") (λxs H Q=>YI X.K H xs λb=>Q (.bl b) H):=by
 intro ag s σ H xs us Q I r h;obtain⟨x,T,n,b,rfl,ty,e,q⟩:=h;obtain⟨u,w',rfl,rx,rn⟩:=vals2 r;cases (show w'=Value.type n from rn);have fin:∀tk,EP X ag σ Q (.bool b) { s with toks:=tk }:=λtk=>⟨.bl b,H,I.tok _,rfl,q⟩;cases ty with
 | bl y=>cases (show u=Value.bool y from rx);exact pZ PySem.W.kitx_bool I.jj True.intro e (λz=>nomatch z) fin
 | int i=>obtain⟨t,z⟩:=(show ∃t,u=Value.int i t from rx);cases z;exact pZ PySem.W.kitx_int I.jj True.intro e (λz=>nomatch z) fin
 | str y=>obtain⟨t,z⟩:=(show ∃t,u=Value.str y t from rx);cases z;exact pZ PySem.W.kitx_str I.jj True.intro e (λz=>nomatch z) fin
 | @tup a ys hq =>
  cases (show u=Value.ref a from rx);obtain⟨aO,_,⟨o,h1,h2,_⟩,_⟩:=I.tuple hq;exact pZ PySem.W.kitx_tuple I.jj ⟨o,h1,h2⟩ e (λz=>nomatch z) fin
def Bv {X:Cx}{a:Expr}{ta:TE}(K:aV)(ha:PE X a ta)(he:∀whole,isTrue a X.env whole=(do let v <-whole;standAt a.pos;holding [v] (truthy v)))(hK:X.K=K:=by rfl) :
  PT X a (λσ H Q=>ta σ H λx H'=>∃k,Fu K x H' k/\Q k H'):=by
 subst hK;exact iJ ha he
def BE {X:Cx}(hu:X.A.units < cLine):j9 X (compareOp .Eq) (λx y H Q=>∃a b xs,x=.ref a/\y=.ref b/\aG X.K H a xs/\aG X.K H b []/\Q (.bl (xs.isEmpty)) H):=by
 intro ag s σ H x y v u Q I rx ry h;obtain⟨a,b,xs,rfl,rfl,ha,hb,q⟩:=h;cases rx;cases ry;obtain⟨aO,r,pl,hz⟩:=I.list ha;obtain⟨ja,r2,GK,hz2⟩:=I.list hb;have e2:ja=[]:=aS.zero r2;subst e2;have a8:=r.length;cases xs with
 | nil =>
  have e:aO=[]:=aS.zero r;subst e;refine SeqAt.eq_listAt (e:=λ_=>true) pl.isList GK.isList rfl hu (λj h1 _=>absurd h1 (by simp)) ⟨.bl true,H,I,rfl,q⟩
 | cons y ys =>
  refine SeqAt.eq_list_lengthsAt pl.isList GK.isList ?_ hu ⟨.bl false,H,I,rfl,q⟩;rw [bO,bO,<-a8];simp
structure Ia (env:Env)(scope:Scope)(cl:List (Str×Addr)):Prop where
 eq:closureFor scope env=pure cl
 sub:∀y c,cl.lookup y=some c->env.cells.lookup y=some c
 all:∀y,(y,NameKind.free)∈scope.names->∃c,cl.lookup y=some c
def i8 {y n:Str}{c:Addr}{l:List (Str×Addr)}:((n,c)::l).lookup y=if y=n then some c else l.lookup y:=by
 by_cases h:y=n
 .rw [az h];simp [List.lookup,h]
 rw [aA h];simp [List.lookup,jv.mpr h]
def vB {env:Env}{scope:Scope}(h:∀y,(y,NameKind.free)∈scope.names->∃c,env.cells.lookup y=some c):∃cl,Ia env scope cl:=by
 have go:∀(names:List (Str×NameKind))(bA:List (Str×Addr)),(∀y,(y,NameKind.free)∈names->∃c,env.cells.lookup y=some c)->(∀y c,bA.lookup y=some c->env.cells.lookup y=some c) ->
   ∃cl,(forIn names bA λ(x:Str×NameKind)(cs:List (Str×Addr))=>(if x.2 == .free then do let c <-cellOf env x.1;pure (ForInStep.yield ((x.1,c)::cs)) else pure (ForInStep.yield cs):Sem (ForInStep (List (Str×Addr)))))=pure cl /\
    (∀y c,cl.lookup y=some c->env.cells.lookup y=some c)/\(∀y,(y,NameKind.free)∈names->∃c,cl.lookup y=some c)/\∀y c,bA.lookup y=some c->∃c',cl.lookup y=some c':=by
  intro names
  induction names with
  | nil=>intro bA _ hs;exact⟨bA,rfl,hs,λy hy=>absurd hy (by simp),λy c e=>⟨c,e⟩⟩
  | cons x r ih =>
   intro bA hf hs;obtain⟨n,k⟩:=x;rw [List.forIn_cons];by_cases hk:k=.free
   .subst hk;obtain⟨c0,e0⟩:=hf n bX;obtain⟨cl,e1,e2,e3,e4⟩:=ih ((n,c0)::bA) (λy hy=>hf y (bS _ hy)) (λy c e=>by
     rw [i8] at e;by_cases z:y=n
     .rw [az z] at e;cases e;rw [z];exact e0
     rw [aA z] at e;exact hs y c e)
    refine⟨cl,?_,e2,λy hy=>?_,λy c e=>?_⟩
    .rw [<-e1];have:cellOf env n=pure c0:=by unfold cellOf;rw [e0]
     simp only [this];rfl
    .rcases bN.mp hy with z | z
     .cases z;exact e4 n c0 (by rw [i8,az rfl])
     exact e3 y z
    by_cases z:y=n
    .exact e4 y c0 (by rw [i8,az z])
    exact e4 y c (by rw [i8,aA z];exact e)
   obtain⟨cl,e1,e2,e3,e4⟩:=ih bA (λy hy=>hf y (bS _ hy)) hs;refine⟨cl,?_,e2,λy hy=>?_,e4⟩
   .rw [<-e1];have:(k == NameKind.free)=false:=by simpa using hk
    simp only [this];rfl
   rcases bN.mp hy with z | z
   .cases z;exact absurd rfl hk
   exact e3 y z
 obtain⟨cl,e1,e2,e3,_⟩:=go scope.names [] h (λy c e=>by simp at e);refine⟨cl,?_,e2,e3⟩;unfold closureFor;exact Eq.trans (congrArg (λt:Sem (List (Str×Addr))=>t >>= λcs=>pure cs) e1) rfl
def u3 {scope:Scope}{env:Env}{y:Str}(hk:env.scope.kind=.function)(hy:scope.names.lookup y=some .free)(he:env.kindOf y=some .cell):(relabel scope env).names.lookup y=some .cell:=by
 have go:∀l:List (Str×NameKind),l.lookup y=some .free->(l.map λ(x:Str×NameKind)=>if (x.2 == NameKind.free && env.scope.kind == .function && env.kindOf x.1 == some .cell) then (x.1,NameKind.cell) else (x.1,x.2)).lookup y=some .cell:=by
  intro l
  induction l with
  | nil=>intro z;cases z
  | cons x r ih =>
   obtain⟨n,k⟩:=x;intro hy;rw [bG];by_cases z:y=n
   .subst z;simp [List.lookup] at hy;subst hy;simp [List.lookup,hk,he]
   have zb:(y == n)=false:=jv.mpr z;simp only [List.lookup,zb] at hy;have:=ih hy;dsimp only
   split <;> simp only [List.lookup,zb] <;> exact this
 exact go _ hy
theorem vd {α:Type}{y:Str}{v:α}:∀{l:List (Str×α)},l.lookup y=some v->(y,v)∈l
 | [],h=>by cases h
 | (n,u)::r,h=>by
  by_cases z:y=n
  .subst z;simp [List.lookup] at h;subst h;exact bX
  have zb:(y == n)=false:=jv.mpr z;simp only [List.lookup,zb] at h;exact bS _ (vd h)
def mv {scope:Scope}{env:Env}{y:Str}{k:NameKind}(h:(relabel scope env).names.lookup y=some k)(hk:k=.cell\/k=.free)(hc:∀z∈scope.names,z.2≠.cell):(y,NameKind.free)∈scope.names:=by
 have m:=vd h;unfold relabel at m;obtain⟨⟨n,k'⟩,m1,m2⟩:=cU.mp m;dsimp only at m2
 split at m2
 .rename_i q
  cases m2;simp at q;obtain⟨⟨q,_⟩,_⟩:=q;subst q;exact m1
 cases m2;rcases hk with hk | hk
 .exact absurd hk (hc _ m1)
 rw [<-hk];exact m1
def rb (X:Cx)(scope:Scope)(cl:List (Str×Addr))(C:Addr)(s1:Shared)(H1:Hp) (N:List Str)(fp:List Addr):Cx :=
 { X with N:=N,s₀:=s1,H₀:=H1,env:=compEnvC scope cl C X.env,outer:=X.stack,stack:=X.stack,ex:=fp,fn:=λ_=>false,pn:=[],xe:=λ_ _=>False }
structure Ib (X:Cx)(scope:Scope)(js:List (Nat×Str)):Prop where
 at_:∀p∈js,X.N[p.1]?=some p.2/\X.env.scope.names.lookup p.2=some .cell/\scope.names.lookup p.2=some .free
 all:∀y,(y,NameKind.free)∈scope.names->X.env.scope.names.lookup y=some .cell
def df (ts:List Str)(js:List (Nat×Str))(σ:St):St:=ts.map (λ_=>none)++js.map λp=>(σ[p.1]?).join
def sZ {X:Cx}{ag:List (Addr×Obj)}{σ:St}{H:Hp}{s1 s4:Shared}{scope:Scope}{ts:List Str}{js:List (Nat×Str)}{cl:List (Str×Addr)}{fp:List Addr}{C:Addr}{m:Str->Option Value}
  (I:Inv X ag σ H s1)(hf:∀b∈fp,vJ X ag H b)(EI:∀b∈fp,b < s1.heap.objs.size)(iN:scope.kind=.function)(iO:∀y∈scope.names,y.2≠.cell)(cp:Ib X scope js)(lK:Ia X.env scope cl)
  (hC:s1.heap.objs.size < C)(ho:s4.os=s1.os)(hg:s4.gens=s1.gens)(old:∀b o,s1.heap.get? b=some o->s4.heap.get? b=some o)(hn:s4.heap.Ns C m)
  (hD:s4.heap.get? s1.heap.objs.size=some { cls:=.type "list",data:=.seq ([]:List Value).toArray 0 }) :
  Inv (rb X scope cl C s1 H (ts++js.map (·.2)) fp) [] (df ts js σ) (upd H s1.heap.objs.size (.lst [])) s4:=by
 have xk:X.env.scope.kind=.function:=I.ok.kind;have has:∀y,((relabel scope X.env).names.lookup y=some .cell\/(relabel scope X.env).names.lookup y=some .free)->∃c,cl.lookup y=some c:=λy hy=>lK.all y (by
  rcases hy with hy | hy
  .exact mv hy (.inl rfl) iO
  exact mv hy (.inr rfl) iO)
 have lt:∀y c,cl.lookup y=some c->c < s1.heap.objs.size:=λy c e=>by
  obtain⟨v,o,ho,_⟩:=I.cell y c (lK.sub y c e);exact aW ho
 refine⟨⟨I.ok.mod,iN,I.ok.glob,I.ok.blt,jz hC,λy z c h1 h2=>I.ok.inj y z c (lK.sub _ _ h1) (lK.sub _ _ h2),has,λy c h _=>absurd (show false=true from h) cW,I.ok.hd,I.ok.frames,.inl rfl,
   λb hb=>⟨bB (jA (EI b hb) hC),λy c h=>(hf b hb).2.2.2.2.1 y c (lK.sub _ _ h)⟩,I.bs,cC I.ok.Fd I.sz,λb o e hb=>?_,λb hb=>?_,I.stack,I.pF⟩,
  ho,?_,Un.laid old (aI _) I.fresh,⟨m,hn,λi y v e1 e2 _=>?_⟩,λy c h=>?_,?_,λy c h=>?_,λp hp=>absurd (show p∈([]:List (Addr×Obj)) from hp) (by simp),I.bH.laid old (aI _) ?_,?_⟩
 .obtain⟨_,_,_,h4,_⟩:=hf b hb;rcases h4 with h4 | h4
  .exact I.ok.BU b o e h4
  exact absurd (dQ (aW (I.ok.bs b o e).1) h4) (iA _)
 .intro vp;obtain⟨_,h2,h3,_⟩:=hf b hb;rcases bN.mp (I.uJ b vp) with z | z
  .exact h2 z
  exact h3 z
 .rw [hg];exact I.bare
 .have HK:(ts++js.map (·.2))[i]?=some y:=e1;have Co:(ts.map (λ_=>(none:Option V))++js.map λp=>(σ[p.1]?).join)[i]?=some (some v):=e2;by_cases hi:i < ts.length
  .rw [jh (by simpa using hi)] at Co;simp [hi] at Co
  rw [oF ∅] at HK;rw [oF (by simpa using Nat.le_of_not_lt hi)] at Co;rw [aB] at Co;rw [aZ] at HK Co;cases hj:js[i - ts.length]? with
  | none=>rw [hj] at HK;cases HK
  | some p =>
   rw [hj] at HK Co;simp only [pY,Option.some.injEq] at HK Co;obtain⟨a1,a2,a3⟩:=cp.at_ p (cb hj);subst HK;have es:σ[p.1]?=some (some v):=by
    cases q:σ[p.1]? with
    | none=>rw [q] at Co;cases Co
    | some z=>rw [q] at Co;exact congrArg some Co
   obtain⟨m0,CK,lk⟩:=I.loc;obtain⟨u,ru,l⟩:=lk p.1 p.2 v a1 es (.inr (.inl a2));rcases l with l | ⟨_,c,ec,o,hc,hd⟩
   .have l1:X.env.scope.names.lookup p.2=some .local:=l.1;rw [a2] at l1;cases l1
   obtain⟨c',Rn⟩:=lK.all p.2 (vd a3);have e3:=lK.sub _ _ Rn;rw [ec] at e3;cases e3;exact⟨u,ru,.inr ⟨.inl (u3 xk a3 a2),c,Rn,o,old _ _ hc,hd⟩⟩
 .obtain⟨v,o,h1,h2⟩:=I.cell y c (lK.sub y c h);exact⟨v,o,old _ _ h1,h2⟩
 .show upd H s1.heap.objs.size (.lst []) C=none;rw [ai (jq hC)];exact I.bH.fresh (jz hC)
 .show upd H s1.heap.objs.size (.lst []) c=none;rw [ai (bB (lt y c h))];exact I.iQ y c (lK.sub y c h)
 .exact⟨by show 0<=sizeLine;decide,[],0,.nil,hD⟩
 show (df ts js σ).length=(ts++js.map (·.2)).length;simp [df]
def C7 (wi:TI) (ts:List Str)(js:List (Nat×Str))(g:TG)(tif:TT)(te:TE):TE:=λσ H Q=>wi σ H λJ H1=>∀D,H1 D=none->∃W:Nat->Nat->List V->St->Hp->Prop,(∃m,W 0 m [] (df ts js σ) (upd H1 D (.lst []))) /\
 ∀i m ys σ' H,W i m ys σ' H->(J.stop i H/\Q (.ref D) H)\/(J.go i H/\∃m',m' < m/\∀x H',J.kR i H x H'->g x σ' H' λσ2 H2=>tif σ2 H2 λb H3 =>
  if b=true then te σ2 H3 λy H4=>H4 D=some (.lst ys)/\ys.length < sizeLine/\W (i+1) m' (ys++[y]) σ2 (upd H4 D (.lst (ys++[y]))) else W (i+1) m' ys σ2 H3)
def bK {X:Cx}{elt iter tg:Expr}{ifs:List Expr}{scope:Scope}{pos:Pos}{wi:TI}{g:TG}{tif:TT}{te:TE}(ts:List Str)(js:List (Nat×Str))(hc:X.calm=true)(hi:PI X tg iter wi)
  (cp:Ib X scope js)(iO:∀y∈scope.names,y.2≠.cell)(iN:scope.kind=.function)
  (zw:∀y∈scope.names,y.2=.local->scope.names.lookup y.1=some .local)
  (hg:∀cl C s1 H1 fp,PG (rb X scope cl C s1 H1 (ts++js.map (·.2)) fp) tg g)
  (Uw:∀cl C s1 H1 fp,CG (rb X scope cl C s1 H1 (ts++js.map (·.2)) fp) ifs tif)(he:∀cl C s1 H1 fp,PE (rb X scope cl C s1 H1 (ts++js.map (·.2)) fp) elt te)
  (hs:∀x,foldedSetIterable iter X.env x=pure x:=by intro _;rfl) :
  PE X (.ListComp elt [⟨tg,iter,ifs,0⟩] scope pos) (C7 wi ts js g tif te):=by
 intro ag s σ H Q I h;rw [eval_ListComp];obtain⟨cl,lK⟩:=vB (env:=X.env) (scope:=scope) λy hy=>I.ok.has y (.inl (cp.all y hy));refine wpAny_comprehension_free (use:=none) rfl hs lK.eq iN zw (cq (hi ag s σ H _ I h) λv s1 h1=>cq h1 λQS s2 h2=>?_);obtain⟨it,fp,tn,J,H2,e,I2,T,FE,f2,h2⟩:=h2;subst e;obtain⟨W,⟨m0,w0⟩,turn⟩:=h2 s2.heap.objs.size I2.fresh;have EI:∀b∈fp,b < s2.heap.objs.size:=λb hb=>by obtain⟨o,e,_⟩:=T.obj _ _ FE b hb;exact aW e
 refine ju (wpAny_newFunctionEnv iO (by intro y hy;simp at hy) (λh₁ zu vm=>?_) iN);dsimp only at zu vm ⊢;generalize Lq:s2.heap.push { cls:=.type "list",dict:=none,data:=.seq ([]:List Value).toArray }=G2 at zu vm ⊢;have Hv:G2.objs.size=s2.heap.objs.size+1:=by rw [<-Lq,kO]
 have UW:s2.heap.objs.size≠G2.objs.size:=by rw [Hv];exact bB (lR _)
 have old:∀b o,s2.heap.get? b=some o->h₁.get? b=some o:=λb o e =>
  vm.extBut b o (by rw [Hv];exact bB (uc (aW e))) (bD _ (Lq ▸ bD _ e))
 have Cf:h₁.get? s2.heap.objs.size=some { cls:=.type "list",data:=.seq ([]:List Value).toArray 0 }:=vm.extBut _ _ UW (bD _ (Lq ▸ cQ _ rfl));generalize mR:rb X scope cl G2.objs.size s2 H2 (ts++js.map (·.2)) fp=X2;have I4:Inv X2 [] (df ts js σ) (upd H2 s2.heap.objs.size (.lst [])) { s2 with heap:=h₁,toks:=s2.toks+([]:List (Str×Value)).length }:=by
  rw [<-mR];exact sZ I2 f2 EI iN iO cp lK (by rw [Hv];exact lR _) rfl rfl old zu Cf
 have x1:X2.prog=X.prog:=by rw [<-mR];rfl
 have x2:X2.w=X.w:=by rw [<-mR];rfl
 have x3:X2.K=X.K:=by rw [<-mR];rfl
 have x4:X2.calm=true:=by rw [<-mR];exact hc
 have x5:X2.A=X.A:=by rw [<-mR];rfl
 have x6:X2.env=compEnvC scope cl G2.objs.size X.env:=by rw [<-mR];rfl
 have x7:X2.xe=λ_ _=>False:=by rw [<-mR];rfl
 have Uy:PG X2 tg g:=by rw [<-mR];exact hg _ _ _ _ _
 have Lf:CG X2 ifs tif:=by rw [<-mR];exact Uw _ _ _ _ _
 have tE:PE X2 elt te:=by rw [<-mR];exact he _ _ _ _ _
 have NO:tn 0 h₁:=T.keep _ _ _ FE λb _ o e=>old b o e;have qj:∀{H':Hp}{ji:List (Addr×Obj)},(∀b∈fp,H' b=none)->(∀p∈ji,p.1∉fp)->∀b∈fp,vJ X2 ji H' b:=λ{H' ji} hn hp b hb=>by
  have o4:=I4.ok;subst mR;exact⟨hn b hb,(o4.LG b hb).1,o4.zE b hb,.inl hb,(o4.LG b hb).2,λp oo=>by
   have Cb:p∈([]:List (Addr×Obj))++ji:=oo;rw [nO] at Cb;intro z;exact hp p Cb (by rw [z];exact hb)⟩
 have fin:∀{s':Shared}{σ':St}{H':Hp},Inv X2 [] σ' H' s'->Q (.ref s2.heap.objs.size) H' ->
   compPost (model X.prog X.w) X.A X.xe none (EP X ag σ Q) (.ref s2.heap.objs.size) G2.objs.size (.ok .next) s':=λ{s' σ' H'} J' q=>by
  subst mR;obtain⟨m',K_,_⟩:=J'.loc;refine⟨m',K_,λh' MN=>?_⟩;have u:Un (px X.stack) fp H2 H' s2.heap s'.heap:=J'.base;have nC:∀b o,s2.heap.get? b=some o->b≠G2.objs.size:=λb o e=>by rw [Hv];exact bB (uc (aW e))
  have u':Un (px X.stack) fp H2 H' s2.heap h':=⟨λb o e n hb hx=>(MN.2 b (nC b o e)).trans (u.keep b o e n hb hx),λb o e n hb hx=>by
    obtain⟨sl,z⟩:=u.slot b o e n hb hx;exact⟨sl,(MN.2 b (nC b o e)).trans z⟩,u.free,λb o e hx=>by
    obtain⟨o',z⟩:=u.there b o e hx;exact⟨o',(MN.2 b (nC b o e)).trans z⟩,u.kS,u.jP,u.j6⟩
  have bH:j_ X.prog X.w H' h':=λb ob e=>by
   refine(J'.bH b ob e).ip (λc w' j7 q'=>(MN.2 c ?_).trans q') (λ_ q=>q) λ_ _ q=>q;intro z;have fr:H' G2.objs.size=none:=J'.free;rcases j7 with z' | z'
   .rw [<-z'] at e;rw [z,fr] at e;cases e
   rw [z,fr] at z';cases z'
  have I5:Inv X ag σ H' { s' with heap:=h' }:=I2.A7 (s':={ s' with heap:=h' }) J'.os u' bH J'.bare λb hb=>by
   obtain⟨_,f1,_,f3,f4,f5⟩:=f2 b hb;exact⟨f3,f1,f4,f5⟩
  exact⟨.ref s2.heap.objs.size,H',I5,rfl,q⟩
 have loop:∀s₃:Shared,s₃={ s2 with heap:=h₁,toks:=s2.toks+([]:List (Str×Value)).length } ->
   codeAny (model X.prog X.w) X.A (.compLoop (.ListComp elt [⟨tg,iter,ifs,0⟩] scope pos) 0 (.ref it) (.ref s2.heap.objs.size) (compEnvC scope cl G2.objs.size X.env))
    (compPost (model X.prog X.w) X.A X.xe none (EP X ag σ Q) (.ref s2.heap.objs.size) G2.objs.size) s₃:=by
  rintro s₃ rfl;subst mR;refine oR (λn s'=>∃i ys σ' H',Inv (rb X scope cl G2.objs.size s2 H2 (ts++js.map (·.2)) fp) [] σ' H' s'/\tn i s'.heap/\(∀b∈fp,H' b=none)/\W i n ys σ' H') ?_ m0
   ⟨0,[],_,_,I4,NO,λb hb=>by rw [ai (bB (EI b hb))];exact(f2 b hb).1,w0⟩
  rintro n s' ⟨i,ys,σ0,H',J',rR,Pr,w'⟩;rcases turn i n ys σ0 H' w' with ⟨stop,q⟩ | ⟨go,m',hm,step⟩
  .refine cv (T.done (rb X scope cl G2.objs.size s2 H2 (ts++js.map (·.2)) fp) rfl rfl rfl hc i [] s' _ H' (λ_ _=>False) J' (qj Pr (by simp)) rR stop) (λr s4 ⟨hr,J4⟩=>?_) λ_ _ z=>z;subst hr;exact fin J4 q
  refine cv (T.item (rb X scope cl G2.objs.size s2 H2 (ts++js.map (·.2)) fp) rfl rfl rfl hc i [] s' _ H' (λ_ _=>False) J' (qj Pr (by simp)) rR go) (λr s4 ⟨u,hr,h4⟩=>?_) λ_ _ z=>z;subst hr;refine cv h4 (λ_ s5 aT=>?_) λ_ _ z=>z;obtain⟨xv,H5,J5,r5,y5,vX,Pq⟩:=aT;have Wf:=J5.pinned (qj Pq (by simp)) (T.obj _ _ vX);have back:∀{s7:Shared}{σ7:St}{H7:Hp},Inv (rb X scope cl G2.objs.size s2 H2 (ts++js.map (·.2)) fp) ([]++n8 fp s5.heap) σ7 H7 s7->Inv (rb X scope cl G2.objs.size s2 H2 (ts++js.map (·.2)) fp) [] σ7 H7 s7/\tn (i+1) s7.heap/\∀b∈fp,H7 b=none:=λ{s7 σ7 H7} J7=>by
   refine⟨J7.jF,T.keep _ _ _ vX λb hb o e=>(J7.pin (b,o) (fN _ (fN _ (f_ hb e)))).1,λb hb=>?_⟩;obtain⟨o,e,d⟩:=T.obj _ _ vX b hb;exact(J7.pin (b,o) (fN _ (fN _ (f_ hb e)))).2.1
  show wpAny _ _ (assign tg (rb X scope cl G2.objs.size s2 H2 (ts++js.map (·.2)) fp).env u) _ _ s5;refine cv (Uy _ s5 _ H5 xv u _ Wf r5 (step xv H5 y5)) (λ_ s6 aT=>?_) λ_ _ z=>z;obtain⟨σ6,H6,J6,q6⟩:=aT;refine cv (Lf _ s6 _ H6 _ J6 q6) (λb s7 aT=>?_) λ_ _ z=>z;obtain⟨H7,J7,q7⟩:=aT;cases b with
  | false =>
   rw [aA cW] at q7 ⊢;obtain⟨J8,R_,U2⟩:=back J7;exact⟨m',hm,i+1,ys,σ6,H7,J8,R_,U2,q7⟩
  | true =>
   rw [az rfl] at q7 ⊢;refine cv (tE _ s7 _ H7 _ J7 q7) (λyv s8 aT=>?_) λ_ _ z=>z;obtain⟨y,H8,J8,r8,Ls,QT,w8⟩:=aT;refine cv (cT (X:=rb X scope cl G2.objs.size s2 H2 (ts++js.map (·.2)) fp) _ s8 _ H8 (.ref s2.heap.objs.size) [y] (.ref s2.heap.objs.size) [yv] (λv H'=>W (i+1) m' (ys++[y]) σ6 H') J8 rfl (.cons r8 .nil) ⟨s2.heap.objs.size,ys,y,rfl,rfl,Ls,QT,w8⟩)
    (λ_ s9 ⟨_,H9,J9,_,w9⟩=>?_) λ_ _ z=>z
   obtain⟨Wg,JL,Lz⟩:=back J9;exact⟨m',hm,i+1,ys++[y],σ6,H9,Wg,JL,Lz,w9⟩
 exact codeAny_compStart_list (loop _ rfl) (T.self _ _ _ _ _ NO (loop _ rfl))
def Qo (K:aV)(a:Addr):It :=
 ⟨λi H=>∃xs x,aG K H a xs/\xs[i]?=some x,λi H x H'=>∃t y,x=.ref t/\H t=none/\H'=upd H t (.tup [.int (i:Int),y])/\∀xs,aG K H a xs->xs[i]?=some y,λi H=>∃xs,aG K H a xs/\xs.length<=i⟩
def Bl {P:Program}{w:World}{K:aV}{elts:List Expr}{k:Nat}{uH:Pos}(a e it:Addr)(O8:e≠it) :
  Turn P w K (.Tuple elts k uH) (Qo K a) [e,it] e (λi h=>(∃old,IsEnum h e it i old)/\h.IsListIter it a i) where
 mem:=by simp
 obj:=λi h st b hb=>by
  obtain⟨⟨old,he⟩,o,e1,c,d⟩:=st;rcases bN.mp hb with rfl | hb
  .exact⟨_,he,λv z=>by cases z⟩
  obtain rfl:b=it:=by simpa using hb
  exact⟨o,e1,λv z=>by rw [d] at z;cases z⟩
 keep:=λi h h' st k=>⟨⟨st.1.choose,k e (by simp) _ st.1.choose_spec⟩,st.2.at λo q=>k it (by simp) o q⟩
 item:=by
  intro X hP hw hK hc i ag s σ H E I hf st hg;subst hP hw hK;obtain⟨xs,x,hq,hx⟩:=hg;obtain⟨aO,rv,p,hz⟩:=I.list hq;obtain⟨u,hu,ru⟩:=rv.get hx;obtain⟨⟨old,he⟩,hit⟩:=st;refine wpAny_pyNext_enum_item he hit p.isList (x:=u) (by simpa using hu) O8 λh1 ho Ld hT hsz hk=>?_;refine⟨_,rfl,wpAny_letOwnedTupleGo_enum ho λh2 UD sb=>?_⟩;have ne:s.heap.objs.size≠e:=jq (aW he);have kk:∀b o,b≠e->b≠it->s.heap.get? b=some o->h2.get? b=some o:=λb o n1 n2 q=>(sb.2 b n1).trans (hk b o n1 n2 q);have T2:h2.get? s.heap.objs.size=some { cls:=.type "tuple",data:=.seq #[.int i s.toks,u] }:=(sb.2 _ ne).trans hT;have fe:=hf e (by simp);have fi:=hf it (by simp);have fT:H s.heap.objs.size=none:=I.bH.fresh (aI _);have tr:∀b v,H b=some v->b≠e/\b≠it:=λb v q=>⟨λz=>(by rw [z,fe.1] at q;cases q),λz=>(by rw [z,fi.1] at q;cases q)⟩;have nc:∀b,b∉[e,it]->b≠e/\b≠it:=λb z=>⟨λq=>z (by simp [q]),λq=>z (by simp [q])⟩;have lt:∀b o,s.heap.get? b=some o->b≠s.heap.objs.size:=λb o q=>bB (aW q);have I2:Inv X ag σ (upd H s.heap.objs.size (.tup [.int (i:Int),x])) { s with heap:=h2,toks:=s.toks+1 }:=by
   refine I.call (g':=s.gens) (t':=s.toks+1) (d':=s.drawn) (ch:=[e,it]) ⟨λb o q _ _ c=>kk b o (nc b c).1 (nc b c).2 q,λb o q _ _ c=>⟨o.slots,kk b o (nc b c).1 (nc b c).2 q⟩,
    λb o q n _=>by rw [ai (lt b o q)];exact n,λb o q c=>⟨o,kk b o (nc b c).1 (nc b c).2 q⟩,λb ys q=>by rw [ai (au q fT)];exact q,λb o v q=>by rw [ai (au q fT)];exact q,
    λb ps q=>⟨#[],by rw [ai (au q fT),q];simp⟩⟩ (λb v q=>?_) I.bare (λb hb=>?_)
   .by_cases hb:b=s.heap.objs.size
    .subst hb;rw [ae] at q;cases q;exact⟨by show 2<=sizeLine;decide,[.int i s.toks,u],.cons ⟨_,rfl⟩ (.cons ru .nil),_,T2,rfl,_,rfl⟩
    rw [ai hb] at q;refine(I.bH b v q).ip (λc o j7 z=>?_) (λc q'=>by rw [ai (au q' fT)];exact q') λc ys q'=>by rw [ai (au q' fT)];exact q'
    rcases j7 with rfl | j7
    .exact kk c o (tr c _ q).1 (tr c _ q).2 z
    exact kk c o (tr c _ j7).1 (tr c _ j7).2 z
   rcases bN.mp hb with rfl | hb
   .exact⟨fe.2.2.2.1,fe.2.1,fe.2.2.2.2.1,fe.2.2.2.2.2⟩
   obtain rfl:b=it:=by simpa using hb
   exact⟨fi.2.2.2.1,fi.2.1,fi.2.2.2.2.1,fi.2.2.2.2.2⟩
  refine⟨.ref s.heap.objs.size,_,I2,rfl,⟨_,x,rfl,fT,rfl,λys hy=>by rw [I.qI hy hq];exact hx⟩,⟨⟨_,UD⟩,Ld.at λo q=>(sb.2 it O8.symm).trans q⟩,λb hb=>?_⟩;have vp:H b=none/\∃o,s.heap.get? b=some o:=by
   rcases bN.mp hb with rfl | hb
   .exact⟨fe.1,_,he⟩
   obtain rfl:b=it:=by simpa using hb
   obtain⟨o,q,_⟩:=hit;exact⟨fi.1,o,q⟩
  obtain⟨n,o,q⟩:=vp;rw [ai (lt b o q)];exact n
 done:=by
  intro X hP hw hK hc i ag s σ H E I hf st hg;subst hP hw hK;obtain⟨xs,hq,hx⟩:=hg;obtain⟨aO,rv,p,hz⟩:=I.list hq;obtain⟨⟨old,he⟩,hit⟩:=st;obtain⟨f0,f1,f2,f3,f4,f5⟩:=hf it (by simp);have hl:=rv.length;exact wpAny_pyNext_enum_end (I.ok.hd hc) he hit p.isList (by simp;omega) λh' eb=>⟨rfl,I.turned (t':=s.toks) (λb o hb e=>eb b o hb e) f0 f1 f3 f4 f5⟩
 self:=λ_ _ _ _ _ st h=>wpAny_pyIter_enum st.1.choose_spec h
def tS:bootBuiltins "enumerate"=some (.type "enumerate"):=by decide +kernel
def OF (K:aV)(ta:TA):TI:=λσ H R=>ta σ H λvs H1=>V9 vs (aG K H1) λa=>R (Qo K a) H1
def mD {X:Cx}{elts:List Expr}{k:Nat}{uH:Pos}{l:Expr}{ta:TA}{p pos:Pos}(hg:Gl X "enumerate")(hm:X.mg "enumerate"=none)(ha:PA X [l] ta)(hs:starEach [l] X.env=[(false,eval l X.env)]:=by rfl) :
  PI X (.Tuple elts k uH) (.Call (.Name "enumerate" p) [l] [] pos) (OF X.K ta):=by
 intro ag s σ H R I h;refine Call_ (i_ I hg hm tS (uE (cq (ha pos ag s σ H _ I h) λus s1 aT=>?_) hs rfl));obtain⟨vs,H1,I1,r1,q1⟩:=aT;obtain⟨a,xs,e,hq,q⟩:=q1;subst e;obtain⟨u,rfl,rx⟩:=r1.one;cases rx;obtain⟨aO,rv,pl,hz⟩:=I1.list hq;refine call_enumerate_list pl.isList λh1 he hit hsz hk=>wpAny_pyIter_enum he ?_;refine⟨s1.heap.objs.size+1,[s1.heap.objs.size+1,s1.heap.objs.size],_,_,H1,rfl,I1.kept (t':=s1.toks) λb o e=>hk b o e,Bl a _ _ (jq (lR _)),⟨⟨_,he⟩,hit⟩,λb hb=>?_,q⟩;rcases bN.mp hb with rfl | hb
 .exact I1.vv (gZ _) (I1.bH.fresh (gZ _))
 obtain rfl:b=s1.heap.objs.size:=by simpa using hb
 exact I1.vv (aI _) (I1.bH.fresh (aI _))
def cO (kvs bA:List (aJ×V)):List (aJ×V):=kvs.foldl (λa p=>bC a p.1 p.2) bA
theorem qX:∀{kvs:List (aJ×V)}{vs:List (aJ×Value)}{bA:List (aJ×V)}{Fl:List (aJ×Value)},KV kvs vs->KV bA Fl->KV (cO kvs bA) (vs.foldl (λa p=>stored a p.1 p.2) Fl)
 | _,_,_,_,.nil,h=>h
 | _,_,_,_,.cons (a:=p) (b:=q) r t,h=>by
  obtain⟨e,rv⟩:=r;show KV (cO _ (bC _ p.1 p.2)) (List.foldl _ (stored _ q.1 q.2) _);rw [<-e];exact qX t (h.put p.1 rv)
theorem qY:∀(kvs bA:List (aJ×V)),(cO kvs bA).length<=bA.length+kvs.length
 | [],bA=>by simp [cO]
 | p::r,bA=>by
  have:=qY r (bC bA p.1 p.2);have:=eG bA p.1 p.2;show (cO r (bC bA p.1 p.2)).length<=_;rw [dC];omega
section
variable {X:Cx}{ag:List (Addr×Obj)}{σ:St}{H:Hp}{s:Shared}
theorem pairs_at (I:Inv X ag σ H s):∀{ts:List Addr}{kvs:List (aJ×V)}{aO:List Value},Paired (λt kv=>a9 X.K H t [kV kv.1,kv.2]) ts kvs->aS (ts.map V.ref) aO ->
  ∃vs:List (aJ×Value),KV kvs vs/\Paired (λu kv=>lH (aY X.prog X.w) s.heap u kv) aO vs
 | [],_,_,.nil,r=>by
  rw [jy] at r;cases r;exact⟨[],.nil,.nil⟩
 | t::ts,kv::kvs,_,.cons h p,r=>by
  rw [bG] at r;cases r with
  | cons r1 r2 =>
   obtain⟨vs,e1,e2⟩:=pairs_at I p r2;obtain⟨aO,rv,⟨o,h1,h2,n,h3⟩,_⟩:=I.tuple h;obtain⟨u1,u2,rfl,q1,q2⟩:=vals2 rv;exact⟨(kv.1,u2)::vs,.cons ⟨rfl,q2⟩ e1,.cons ⟨t,u1,n,o,r1,kA q1,h1,h2,h3⟩ e2⟩
theorem Paired.at_ {α β:Type}{F:α->β->Prop}:∀{xs:List α}{ys:List β},Paired F xs ys->∀(m:Nat)(y:β),ys[m]?=some y->∃x,xs[m]?=some x/\F x y
 | _,_,.nil,m,y,e=>by cases m <;> cases e
 | _,_,.cons h t,0,y,e=>by cases e;exact⟨_,rfl,h⟩
 | _,_,.cons h t,m+1,y,e=>Paired.at_ t m y e
def dP (hc:X.calm=true):fA X (.type "dict") (λxs H Q=>∃a ts kvs,xs=[.ref a]/\H a=some (.lst (ts.map V.ref))/\Paired (λt kv=>a9 X.K H t [kV kv.1,kv.2]) ts kvs/\∀d,H d=none->Q (.ref d) (upd H d (.dK (cO kvs [])))):=by
 intro ag s σ H xs us Q I r h;obtain⟨a,ts,kvs,rfl,e,p,q⟩:=h;obtain⟨u,rfl,rx⟩:=vals1 r;cases (show u=Value.ref a from rx);obtain⟨z,aO,n,rv,ho⟩:=(show bV X.prog X.w H s.heap a (.lst _) from I.bH a _ e);obtain⟨vs,r1,r2⟩:=pairs_at I p rv;have l1:=bF r2;have l2:=r1.length;have l3:=bF p;rw [aB] at z;refine rq (aY X.prog X.w) (I.ok.hd hc) ho (by simpa using l1) (λm kv em=>?_) ∅ λh' t' hd kk=>?_
 .obtain⟨u,e1,e2⟩:=Paired.at_ r2 m kv em;exact⟨u,by simpa using e1,e2⟩
 have new:bV X.prog X.w (upd H s.heap.objs.size (.dK (cO kvs []))) h' s.heap.objs.size (.dK (cO kvs [])):=by
  refine q_ ?_ ?_ (qX r1 .nil) hd
  .have:=qY kvs [];simp at this;omega
  have:=I.big;exact jv.mpr (jq this)
 exact⟨.ref s.heap.objs.size,_,I.laid (t':=t') kk (aI _) new,rfl,q _ (I.bH.fresh (aI _))⟩
theorem sP {α β:Type}{F:α->β->Prop}:∀{xs:List α}{ys:List β},xs.length=ys.length->(∀(j:Nat) x y,xs[j]?=some x->ys[j]?=some y->F x y)->Paired F xs ys
 | [],[],_,_=>.nil
 | [],_::_,e,_=>by cases e
 | _::_,[],e,_=>by cases e
 | x::xs,y::ys,e,h=>.cons (h 0 x y rfl rfl) (sP (Nat.succ.inj e) λj a b e1 e2=>h (j+1) a b e1 e2)
def IL {P:Program}{w:World}{k:aJ}{u:Value}(h:(aY P w).is k u=true):RelV (kV k) u:=by
 rcases cR (show qL k u=true from h) with ⟨i,t,rfl,rfl⟩ | ⟨x,t,rfl,rfl⟩
 .exact⟨t,rfl⟩
 exact⟨t,rfl⟩
def lG (hc:X.calm=true):fA X (.type "list") (λxs H Q=>∃a kvs,xs=[.ref a]/\H a=some (.dK kvs)/\∀D,H D=none->Q (.ref D) (upd H D (.lst (kvs.map λp=>kV p.1)))):=by
 intro ag s σ H xs us Q I r h;obtain⟨a,kvs,rfl,e,q⟩:=h;obtain⟨u,rfl,rx⟩:=vals1 r;cases (show u=Value.ref a from rx);obtain⟨z,hs,vs,rel,dd⟩:=xb I.bH e;obtain⟨o,es,ep,d1,d2,d3,d4⟩:=dd;have l1:=rel.length;refine PySem.W.kdl_call (PySem.W.kdl_dict (knd:=aY X.prog X.w) (kvs:=vs) (ep:=ep) hs) (I.ok.hd hc) ⟨o,es,d1,d2,d3,d4⟩ ∅ λh' tk bA c kk hD Cf=>?_;have keys:=rel.keys;have vals:aS (kvs.map λp=>kV p.1) bA.toList:=by
  refine sP (by have h1:=Cf.1;simp only [aB,uj];omega) λj x y e1 e2=>?_;rw [Array.getElem?_toList] at e2;obtain⟨k,v,e3,e4⟩:=Cf.2 j y e2;rw [aZ] at e1;obtain⟨p,e5,rfl⟩:=cf.mp e1;have e6:(kvs.map (·.1))[j]?=some p.1:=by rw [aZ,e5];rfl
  rw [keys,aZ,e3] at e6;cases e6;exact IL e4
 have new:bV X.prog X.w (upd H s.heap.objs.size (.lst (kvs.map λp=>kV p.1))) h' s.heap.objs.size (.lst (kvs.map λp=>kV p.1)):=⟨by rw [aB];exact z,bA.toList,c,vals,by simpa using hD⟩;exact⟨.ref s.heap.objs.size,_,I.laid (t':=tk) kk (aI _) new,rfl,q _ (I.bH.fresh (aI _))⟩
end
def zU (v:V):Prop:=kI v=true\/∃r,v=.ref r
theorem Ae:∀{ts:List Str}{aO:List Value},aS (ts.map V.str) aO->StrsAre aO ts
 | [],_,r=>by rw [jy] at r;cases r;exact .nil
 | z::ts,_,r=>by
  rw [bG] at r;cases r with
  | cons h t =>
   obtain⟨tk,e⟩:=(show ∃tk,_=Value.str z tk from h);subst e;exact .cons z tk (Ae t)
def rJoin (K:aV):V->List V->Hp->VK->Prop:=λx vs H Q=>∃z a ts,x=.str z/\vs=[.ref a]/\aG K H a (ts.map V.str)/\(ts.map (·.length)).sum+ts.length * z.length<=16777216/\Q (.str (Txt.join z ts)) H
def Ha {X:Cx}:RA X "str.join" (rJoin X.K):=by
 intro ag s σ H x vs v us Q I rx rv h;obtain⟨z,a,ts,rfl,rfl,hq,hz,q⟩:=h;obtain⟨t,rfl⟩:=rx;obtain⟨u,rfl,ru⟩:=rv.one;cases (show u=Value.ref a from ru);obtain⟨aO,r,pl,_⟩:=I.list hq;exact join_list pl.isList (by simpa using Ae r) hz λt' k=>⟨.str _,H,I.tok _,⟨_,rfl⟩,q⟩
section
variable {K:aV}{a D:Addr}{xs:List V}{ts:List Str}{js:List (Nat×Str)}{g:TG}{tif:TT}{te:TE}{R:Hp->Prop}{σ:St}{H:Hp}
def bR (Pv:Nat->List V->St->Hp->Prop)(h0:Pv 0 [] (df ts js σ) (upd H D (.lst [])))(hl:∀i ys σ H,i<=xs.length->Pv i ys σ H->aG K H a xs)
  (hs:∀i x ys σ H,xs[i]?=some x->Pv i ys σ H->g x σ H λσ2 H2=>tif σ2 H2 λb H3=>if b=true then te σ2 H3 λy H4=>H4 D=some (.lst ys)/\ys.length < sizeLine/\Pv (i+1) (ys++[y]) σ2 (upd H4 D (.lst (ys++[y]))) else Pv (i+1) ys σ2 H3)
  (hd:∀ys σ H,Pv xs.length ys σ H->R H) :
  ∃W:Nat->Nat->List V->St->Hp->Prop,(∃m,W 0 m [] (df ts js σ) (upd H D (.lst []))) /\
 ∀i m ys σ' H,W i m ys σ' H->((iS K a).stop i H/\R H)\/((iS K a).go i H/\∃m',m' < m/\∀x H',(iS K a).kR i H x H'->g x σ' H' λσ2 H2=>tif σ2 H2 λb H3 =>
  if b=true then te σ2 H3 λy H4=>H4 D=some (.lst ys)/\ys.length < sizeLine/\W (i+1) m' (ys++[y]) σ2 (upd H4 D (.lst (ys++[y]))) else W (i+1) m' ys σ2 H3):=by
 refine⟨λi m ys σ H=>m=xs.length - i/\i<=xs.length/\Pv i ys σ H,⟨xs.length,by simp,fR _,h0⟩,?_⟩;rintro i m ys σ' H ⟨rfl,hi,p⟩;have q:=hl i ys σ' H hi p;by_cases hV:i < xs.length
 .refine .inr ⟨⟨xs,xs[i],q,by simp [hV]⟩,xs.length - (i+1),∅,λx H' y=>?_⟩;obtain⟨e,y⟩:=y;subst e;have z:=hs i x ys σ' _ (y xs q) p;have h1:(i+1<=xs.length)=True:=eq_true hV;simp only [h1,true_and];exact z
 have e:i=xs.length:=by omega
 subst e;exact .inl ⟨⟨xs,q,aI _⟩,hd ys σ' H p⟩
def xw {lo:Int}{n:Nat}(Pv:Nat->List V->St->Hp->Prop)(h0:Pv 0 [] (df ts js σ) (upd H D (.lst [])))
  (hs:∀i ys σ H,i < n->Pv i ys σ H->g (.int (lo+i)) σ H λσ2 H2=>tif σ2 H2 λb H3=>if b=true then te σ2 H3 λy H4=>H4 D=some (.lst ys)/\ys.length < sizeLine/\Pv (i+1) (ys++[y]) σ2 (upd H4 D (.lst (ys++[y]))) else Pv (i+1) ys σ2 H3)
  (hd:∀ys σ H,Pv n ys σ H->R H) :
  ∃W:Nat->Nat->List V->St->Hp->Prop,(∃m,W 0 m [] (df ts js σ) (upd H D (.lst []))) /\
 ∀i m ys σ' H,W i m ys σ' H->((HZ lo n).stop i H/\R H)\/((HZ lo n).go i H/\∃m',m' < m/\∀x H',(HZ lo n).kR i H x H'->g x σ' H' λσ2 H2=>tif σ2 H2 λb H3 =>
  if b=true then te σ2 H3 λy H4=>H4 D=some (.lst ys)/\ys.length < sizeLine/\W (i+1) m' (ys++[y]) σ2 (upd H4 D (.lst (ys++[y]))) else W (i+1) m' ys σ2 H3):=by
 refine⟨λi m ys σ H=>m=n - i/\i<=n/\Pv i ys σ H,⟨n,by simp,fR _,h0⟩,?_⟩;rintro i m ys σ' H ⟨rfl,hi,p⟩;by_cases hV:i < n
 .refine .inr ⟨hV,n - (i+1),∅,λx H' y=>?_⟩;obtain⟨rfl,rfl⟩:=y;have z:=hs i ys σ' _ hV p;have h1:(i+1<=n)=True:=eq_true hV;simp only [h1,true_and];exact z
 have e:i=n:=by omega
 subst e;exact .inl ⟨aI _,hd ys σ' H p⟩
end
def vD {X:Cx}:fA X (.builtin "isinstance") (λxs H Q=>∃a ys n b,xs=[.ref a,.ty n]/\aG X.K H a ys/\PySem.W.kitOne X.K (.type "list") (.type n)=some b/\Q (.bl b) H):=by
 intro ag s σ H xs us Q I r h;obtain⟨a,ys,n,b,rfl,hq,e,q⟩:=h;obtain⟨u,w',rfl,rx,rn⟩:=vals2 r;cases (show u=Value.ref a from rx);cases (show w'=Value.type n from rn);obtain⟨aO,_,pl,_⟩:=I.list hq;obtain⟨o,h1,h2,_⟩:=pl.isList;exact pZ PySem.W.kitx_list I.jj ⟨o,h1,h2⟩ e (λz=>nomatch z) λtk=>⟨.bl b,H,I.tok _,rfl,q⟩
def qK {K:aV}{t:Value}:PySem.W.kitOne K t t=some true:=by unfold PySem.W.kitOne;rw [az (qa t)]
def NJ (t:TS):TS:=λD σ H=>∃R:St->Hp->Prop,t { D with nx:=R } σ H/\∀σ' H',R σ' H'->D.nx σ' H'
def jX {X:Cx}{st:Stmt}{t:TS}(h:PS X st t):PS X st (NJ t):=by
 intro ag s σ H D I ⟨R,q,m⟩;refine cq (h ag s σ H _ I q) λf s1 z=>?_;cases f with
 | next=>obtain⟨σ',H',I',r⟩:=z;exact⟨σ',H',I',m _ _ r⟩
 | ret v=>exact z
 | brk=>exact z
 | cont=>exact z
def aK (P:Program)(w:World)(K:aV)(mg:Str->Option Value)(base:Heap) (k:Nat)(x:Str) (ps:List Str)(sp:Sp):Prop :=
 ∃f fd,ba P w K mg base fc k f fd ps sp/\Binds K fd ps []/\PySem.W.keepIn K (.ref f)=true/\mg x=some (.ref f)
theorem aK.mono {P:Program}{w:World}{K:aV}{mg:Str->Option Value}{base:Heap}{j k:Nat}{x:Str}{ps:List Str}{sp:Sp}(c:aK P w K mg base j x ps sp)(h:j<=k):aK P w K mg base k x ps sp :=
 let ⟨f,fd,a,b⟩:=c;⟨f,fd,a.mono h,b⟩
def bU {X:Cx}{k:Nat}{x:Str}{ps:List Str}{sp:Sp}{e:Expr}{es:List Expr}{t:TA}{p pos:Pos}(c:aK X.prog X.w X.K X.mg X.base k x ps sp)(hr:di k X.A)(hg:Gl X x)(ha:PA X (e::es) t)
  (qP:(x == ("__debug__":Str))=false:=by decide)(he:starEach (e::es) X.env=(false,eval e X.env)::starEach es X.env:=by rfl)(nA:(backTo pos (starEach es X.env)).any (·.1)=false:=by rfl) :
  PE X (.Call (.Name x p) (e::es) [] pos) (C8 sp [] E0 t):=by
 obtain⟨f,fd,G,b,kp,m⟩:=c;exact AG G hr hg m kp b .nil qB ha qP he nA
def fits {n:Nat}(h:n<=1000000):n<=sizeLine:=cC h nofun
def bQ {n:Nat}(h:n<=1000000):n < sizeLine:=pT h nofun
def ah {H:Hp}{p:Addr}(h:H p=none)(o:HO):aC H (upd H p o):=λb u q=>by rw [ai (au q h)];exact q
def aC.tup {K:aV}{H H':Hp}{a:Addr}{xs:List V}(e:aC H H')(h:a9 K H a xs):a9 K H' a xs:=by
 rcases h with (h | ⟨o,h⟩) | h
 .exact .inl (.inl (e _ _ h))
 .exact .inl (.inr ⟨o,e _ _ h⟩)
 exact .inr h
def j3 {X:Cx}(hc:X.calm=true):fA X (.builtin "all") (λxs H Q=>∃(a:Addr)(bs:List Bool),xs=[.ref a]/\aG X.K H a (bs.map V.bl)/\Q (.bl (bs.all id)) H):=by
 intro ag s σ H xs us Q I r h;obtain⟨a,bs,rfl,hq,q⟩:=h;obtain⟨u,rfl,rx⟩:=vals1 r;cases (show u=Value.ref a from rx);obtain⟨aO,rv,pl,hz⟩:=I.list hq;obtain⟨o,h1,h2,m,h3⟩:=id pl.isList;have la:a < s.heap.objs.size:=aW h1;have ln:=rv.length;rw [aB] at ln;have isB:∀(i:Nat) v,aO.toArray[i]?=some v->v=.bool (bs.getD i true):=λi v e=>by
  have e':aO[i]?=some v:=by simpa using e
  obtain⟨x,e2,e3⟩:=Paired.at_ rv i v e';rw [aZ] at e2;obtain⟨b,e4,rfl⟩:=cf.mp e2;rw [yb,e4];exact e3
 refine call_all_walk (kQ pl.isList ?_);refine⟨s.heap.objs.size,_,_,_,_,_,λi=>bs.getD i true,rfl,Walks.list (A:=X.A.in1) (show X.A.in1.handled=none from I.ok.hd hc) s.heap.objs.size a (bB la) aO.toArray,⟨⟨_,cQ _ rfl,rfl,rfl⟩,⟨o,bD _ h1,h2,m,h3⟩⟩,?_,λh' tk kk=>?_⟩
 .intro i v s1 Q1 E1 hP hQ1;rw [isB i v hP];exact kj hQ1
 have e:((List.range aO.toArray.size).all λi=>bs.getD i true)=bs.all id:=by
  rw [bO,<-ln,kc,fM,fM];constructor
  .intro h b hb;obtain⟨i,hi,e⟩:=pV.mp hb;have:=h i (lM.mpr hi);rw [yb,cZ hi,e] at this;exact this
  intro h i hi;have XD:=lM.mp hi;rw [yb,cZ XD];exact h _ (p_ XD)
 rw [e];exact⟨.bl _,H,I.kept (t':=tk) λb o' e'=>kk b o' (by simp;exact bB (aW e')) (bD _ e'),rfl,q⟩
section
variable {prog:Program}{w:World}{A:Around}{E:Value->Shared->Prop}{s:Shared}
def zd {it l:Addr}{i:Nat}{items:Array Value}{x:Value}{Q:Value->Shared->Prop}(hit:s.heap.IsTupleIter it l i)(hl:s.heap.IsTuple l items)(hx:items[i]?=some x)
  (hQ:∀h',h'.IsTupleIter it l (i+1)->Heap.SameBut it s.heap h'->Q x { s with heap:=h' }):wpAny (model prog w) A (Builtin.SmallTypes.nextOf (.ref it)) Q E s:=by
 obtain⟨o,ho,hc,hd⟩:=id hit;obtain⟨ol,Ui,_,nl,Pa⟩:=hl;unfold Builtin.SmallTypes.nextOf;refine ax (sj (name:=Str.ofString "__next__") hit.typeIs uA (nK uA hit.typeIs F.entry_tuple_iterator_next ?_ (F.args_tuple_iterator_next_1 _)));show wpAny _ _ (field (.ref it) 0 >>= λv=>_) _ _ s;refine ax (fQ ho hd (x:=.ref l) (by rfl) ?_);show wpAny _ _ (if (Value.ref l == .none)=true then _ else _) _ _ s;rw [aA (by exact cW)];show wpAny _ _ (field (.ref it) 1 >>= λv=>_) _ _ s;refine ax (fQ ho hd (x:=.int i 0) (by rfl) ?_);show wpAny _ _ (seqItems? (.ref l) >>= λv=>_) _ _ s;refine ax (jD Ui Pa (by
  simp only [iD,hx];refine ax (nF ho hd (by simp) (aD ⟨x,rfl,aD (hQ _ ⟨_,lZ _ ho (Obj.isFreed_of_fields (qb hd _)),(Obj.cls_mapFields ..).trans hc,?_⟩ (Heap.SameBut.update ..))⟩));rw [qb hd];simp [rawInt]))
def zG {e it l:Addr}{i:Nat}{items:Array Value}{x old:Value}{Q:Option Value->Shared->Prop}(he:IsEnum s.heap e it i old)(hit:s.heap.IsTupleIter it l i)(hl:s.heap.IsTuple l items)(hx:items[i]?=some x)(K9:e≠it)
  (hQ:∀h',IsEnumOut h' e it ((i:Int)+1) x s.heap.objs.size->h'.IsTupleIter it l (i+1)->h'.get? s.heap.objs.size=some { cls:=.type "tuple",data:=.seq #[.int i s.toks,x] } ->
   (∀b o,b≠e->b≠it->s.heap.get? b=some o->h'.get? b=some o)->Q (some (.ref s.heap.objs.size)) { s with heap:=h',toks:=s.toks+1 }) :
  wpAny (model prog w) A (pyNext (.ref e)) Q E s:=by
 have hT:s.TypeIs (.ref e) "enumerate" := ⟨_,he,rfl⟩;unfold pyNext;refine ax (nE (sj (name:=Str.ofString "__next__") hT um (nK um hT F.entry_enumerate_next ?_ (F.args_enumerate_next_1 _))));obtain⟨hp,g,d,tk,os⟩:=s;show wpAny _ _ (field (.ref e) 2 >>= λv=>_) _ _ _;refine ax (fQ he rfl (x:=.ref it) (by rfl) (ax (zd hit hl hx λh₁ Uv ON=>?_)));replace ON:Heap.SameBut it hp h₁:=ON;have UC:IsEnum h₁ e it i old:=(ON.2 e K9).trans he;show wpAny _ _ (field (.ref e) 3 >>= λv=>_) _ _ ⟨h₁,g,d,tk,os⟩;refine ax (fQ UC rfl (x:=rawInt i) (by rfl) ?_);show wpAny _ _ (field (.ref e) 4 >>= λv=>_) _ _ ⟨h₁,g,d,tk,os⟩;refine ax (fQ UC rfl (x:=.none) (by rfl) ?_);show wpAny _ _ (mkInt i >>= λv=>_) _ _ ⟨h₁,g,d,tk,os⟩;refine ax (wpAny_mkInt ?_);show wpAny _ _ (setField (.ref e) 3 (rawInt ((i:Int)+1)) >>= λv=>_) _ _ ⟨h₁,g,d,tk+1,os⟩;refine ax (qc UC (by simp) λh₂ f₂ hs₂=>?_);have he₂:IsEnum h₂ e it ((i:Int)+1) old:=f₂;have k₂:Heap.SameBut e h₁ h₂:=hs₂;show wpAny _ _ (setField (.ref e) 4 .none >>= λv=>_) _ _ ⟨h₂,g,d,tk+1,os⟩;refine ax (qc he₂ (by simp) λh₃ f₃ hs₃=>?_);have he₃:IsEnum h₃ e it ((i:Int)+1) old:=f₃;have k₃:Heap.SameBut e h₂ h₃:=hs₃;show wpAny _ _ (newTuple [.int i tk,x] >>= λv=>_) _ _ ⟨h₃,g,d,tk+1,os⟩;refine ax (wpAny_newTuple ?_);have Q4:IsEnum (h₃.push { cls:=.type "tuple",data:=.seq #[.int i tk,x] }) e it ((i:Int)+1) old:=bD _ he₃;have hsz:h₃.objs.size=hp.objs.size:=by rw [k₃.1,k₂.1,ON.1]
 have XJ:e < hp.objs.size:=aW he;have Xm:(h₃.push { cls:=.type "tuple",data:=.seq #[.int i tk,x] }).get? hp.objs.size=some { cls:=.type "tuple",data:=.seq #[.int i tk,x] }:=by rw [<-hsz];exact cQ _ rfl
 have Xx:∀b o,b≠e->b≠it->hp.get? b=some o->(h₃.push { cls:=.type "tuple",data:=.seq #[.int i tk,x] }).get? b=some o:=λb o n1 n2 hb=>bD _ (k₃.extBut b o n1 (k₂.extBut b o n1 (ON.extBut b o n2 hb)));have O6:(h₃.push { cls:=.type "tuple",data:=.seq #[.int i tk,x] }).IsTupleIter it l (i+1):=Uv.at λo q=>bD _ (k₃.extBut it o (eV K9) (k₂.extBut it o (eV K9) q));generalize h₃.push { cls:=.type "tuple",data:=.seq #[.int i tk,x] }=h₄ at Q4 Xm Xx O6 ⊢;rw [hsz];show wpAny _ _ (Builtin.SmallTypes.ownedTupleIsFree (.ref e) >>= λv=>_) _ _ ⟨h₄,g,d,tk+1,os⟩;refine ax (by
  unfold Builtin.SmallTypes.ownedTupleIsFree;refine ax (fQ Q4 rfl (x:=.none) (by rfl) (aD (by
   simp only [if_true];refine ax (wpAny_rule (ax (fQ Q4 rfl (x:=old) (by rfl) (ax (qc Q4 (by simp) λh₅ f₅ hs₅=>?_)))));have he₅:IsEnum h₅ e it ((i:Int)+1) x:=f₅;have k₅:Heap.SameBut e h₄ h₅:=hs₅;show wpAny _ _ (Builtin.SmallTypes.ownedTupleHandOut (.ref e) (.ref hp.objs.size) >>= λv=>_) _ _ ⟨h₅,g,d,tk+1,os⟩;refine ax (by
    unfold Builtin.SmallTypes.ownedTupleHandOut;refine ax (qc he₅ (by simp) λh₆ f₆ hs₆=>?_);have he₆:IsEnumOut h₆ e it ((i:Int)+1) x hp.objs.size:=f₆;have k₆:Heap.SameBut e h₅ h₆:=hs₆;refine qc he₆ (by simp) λh₇ f₇ hs₇=>?_;have he₇:IsEnumOut h₇ e it ((i:Int)+1) x hp.objs.size:=f₇;have k₇:Heap.SameBut e h₆ h₇:=hs₇;have up:∀b o,b≠e->h₄.get? b=some o->h₇.get? b=some o:=λb o n q=>k₇.extBut b o n (k₆.extBut b o n (k₅.extBut b o n q));exact ax (wpAny_letGo (aD ⟨_,rfl,aD (hQ h₇ he₇ (O6.at λo q=>up it o (eV K9) q) (up _ _ (jq XJ) Xm) λb o n1 n2 q=>up b o n1 (Xx b o n1 n2 q))⟩)))))))
def qG {it l:Addr}{i:Nat}{items:Array Value}{Q:Value->Shared->Prop}(hh:A.handled=none)(hit:s.heap.IsTupleIter it l i)(hl:s.heap.IsTuple l items)(hx:items[i]?=none)
  (hE:∀h' e,Heap.ExtBut it s.heap h'->(∃o,h'.get? e=some o/\o.cls=.type "StopIteration")->E (.ref e) { s with heap:=h' }):wpAny (model prog w) A (Builtin.SmallTypes.nextOf (.ref it)) Q E s:=by
 obtain⟨o,ho,hc,hd⟩:=id hit;obtain⟨ol,Ui,_,nl,Pa⟩:=hl;unfold Builtin.SmallTypes.nextOf;refine ax (sj (name:=Str.ofString "__next__") hit.typeIs uA (nK uA hit.typeIs F.entry_tuple_iterator_next ?_ (F.args_tuple_iterator_next_1 _)));show wpAny _ _ (field (.ref it) 0 >>= λv=>_) _ _ s;refine ax (fQ ho hd (x:=.ref l) (by rfl) ?_);show wpAny _ _ (if (Value.ref l == .none)=true then _ else _) _ _ s;rw [aA (by exact cW)];show wpAny _ _ (field (.ref it) 1 >>= λv=>_) _ _ s;refine ax (fQ ho hd (x:=.int i 0) (by rfl) ?_);show wpAny _ _ (seqItems? (.ref l) >>= λv=>_) _ _ s;refine ax (jD Ui Pa ?_);simp only [iD,hx];refine ax (wpAny_rule (ax (nF ho hd (by simp) (ax ?_))));simp only [newExc,newTuple];refine ax (ju ?_ (by size_fits));refine ax (m:=firstArgMember _ _) (wpAny_of_eq (a:=Value.none) (by first | rfl | (simp only [firstArgMember];rfl)) ?_)
 refine ju ?_ (by size_fits);simp only [raiseNew];refine ax (wpAny_handled ?_)
 first | rw [show A.in1.handled=none from hh] | rw [hh]
 refine ax (aD (wpAny_throw (hE _ _ (((Heap.SameBut.update ..).extBut.push _).push _) ⟨_,cQ _ rfl,rfl⟩)))
def Cm {e it l:Addr}{i:Nat}{items:Array Value}{old:Value}{Q:Option Value->Shared->Prop}(hh:A.handled=none)(he:IsEnum s.heap e it i old)(hit:s.heap.IsTupleIter it l i)(hl:s.heap.IsTuple l items)(hx:items[i]?=none)
  (hQ:∀h',Heap.ExtBut it s.heap h'->Q none { s with heap:=h' }):wpAny (model prog w) A (pyNext (.ref e)) Q E s:=by
 have hT:s.TypeIs (.ref e) "enumerate" := ⟨_,he,rfl⟩;unfold pyNext;refine ax (nE (sj (name:=Str.ofString "__next__") hT um (nK um hT F.entry_enumerate_next ?_ (F.args_enumerate_next_1 _))));show wpAny _ _ (field (.ref e) 2 >>= λv=>_) _ _ _;refine ax (fQ he rfl (x:=.ref it) (by rfl) (ax (qG hh hit hl hx λh' x tE MI=>?_)));obtain⟨o,ho,hc⟩:=MI;exact ax (wpAny_isInstance (T := "StopIteration") (b:=true) ⟨o,ho,hc⟩ isSubtype_stop (aD (hQ _ tE)))
end
def wJ (l:Addr)(items:Array Value) (n:Nat)(A4:Option Addr)(sl:Array (Option Value)) :
  Meets (Builtin.«enumerate.__new__» ⟨[.type "enumerate",.ref l],[]⟩) (λ_ R s=>s.heap.get? l=some { cls:=.type "tuple",dict:=A4,data:=.seq items n,slots:=sl } /\
   R (.ok (.ret (.ref (s.heap.push { cls:=.type "tuple_iterator",data:=.fields #[.ref l,.int 0 0] }).objs.size)))
    { s with heap:=(s.heap.push { cls:=.type "tuple_iterator",data:=.fields #[.ref l,.int 0 0] }).push { cls:=.type "enumerate",data:=.fields #[.none,.bool false,.ref s.heap.objs.size,rawInt 0,.none,.none] } }) :=
 .of_wp λprog w A R s h=>by
  obtain⟨hp,g,d,tk,os⟩:=s;obtain⟨hl,h⟩:=h;have Ca:=sub_enumerate;have hT:Heap.IsTuple (Shared.heap ⟨hp,g,d,tk,os⟩) l items:=⟨_,hl,rfl,n,rfl⟩
  wp_walk using ux hl
  refine wpAny_stack_any λst=>aD ?_;split
  .rename_i c _ _ _ _ _
   cases (c == Value.type "enumerate")
   .wp_walk using ux hl,ua hT;exact⟨_,rfl,h⟩
   wp_walk using ux hl,ua hT;exact⟨_,rfl,h⟩
  wp_walk using ux hl,ua hT;exact⟨_,rfl,h⟩
section
variable {prog:Program}{w:World}{A:Around}{E:Value->Shared->Prop}{s:Shared}
def zO {l:Addr}{items:Array Value}{Q:Value->Shared->Prop}(hL:s.heap.IsTuple l items)
  (h:∀h',IsEnum h' (s.heap.objs.size+1) s.heap.objs.size 0 .none->h'.IsTupleIter s.heap.objs.size l 0->(∀b o,s.heap.get? b=some o->h'.get? b=some o)->Q (.ref (s.heap.objs.size+1)) { s with heap:=h' }) :
  wpAny (model prog w) A (call (.type "enumerate") [.ref l]) Q E s:=by
 obtain⟨⟨c,A4,dt,sl⟩,hl,hc,n,hd⟩:=hL;replace hc:c=.type "tuple" := hc;replace hd:dt=.seq items n:=hd;subst hc hd;refine callType_new F.called_enumerate nofun (F.typeCall_enumerate_1 _) (F.newCall_enumerate_1 _) (λobj=>F.args_object_init_2 obj _) F.entry_enumerate_new (wJ l items n A4 sl) ⟨hl,?_⟩;have hz:(s.heap.push { cls:=.type "tuple_iterator",data:=.fields #[.ref l,.int 0 0] }).objs.size=s.heap.objs.size+1:=kO ..;show _/\_;rw [hz];have he:IsEnum ((s.heap.push { cls:=.type "tuple_iterator",data:=.fields #[.ref l,.int 0 0] }).push { cls:=.type "enumerate",data:=.fields #[.none,.bool false,.ref s.heap.objs.size,rawInt 0,.none,.none] }) (s.heap.objs.size+1) s.heap.objs.size 0 .none:=by
  have:=cQ (s.heap.push { cls:=.type "tuple_iterator",data:=.fields #[.ref l,.int 0 0] }) (o:={ cls:=.type "enumerate",data:=.fields #[.none,.bool false,.ref s.heap.objs.size,rawInt 0,.none,.none] }) rfl;rw [hz] at this;exact this
 exact⟨⟨_,he,rfl⟩,h _ he ⟨_,bD _ (cQ _ rfl),rfl,rfl⟩ λb o x=>bD _ (bD _ x)⟩
end
def rE (K:aV)(a:Addr):It :=
 ⟨λi H=>∃xs x,a9 K H a xs/\xs[i]?=some x,λi H x H'=>∃t y,x=.ref t/\H t=none/\H'=upd H t (.tup [.int (i:Int),y])/\∀xs,a9 K H a xs->xs[i]?=some y,λi H=>∃xs,a9 K H a xs/\xs.length<=i⟩
def yh {P:Program}{w:World}{K:aV}{elts:List Expr}{k:Nat}{uH:Pos}(a e it:Addr)(O8:e≠it) :
  Turn P w K (.Tuple elts k uH) (rE K a) [e,it] e (λi h=>(∃old,IsEnum h e it i old)/\h.IsTupleIter it a i) where
 mem:=by simp
 obj:=λi h st b hb=>by
  obtain⟨⟨old,he⟩,o,e1,c,d⟩:=st;rcases bN.mp hb with rfl | hb
  .exact⟨_,he,λv z=>by cases z⟩
  obtain rfl:b=it:=by simpa using hb
  exact⟨o,e1,λv z=>by rw [d] at z;cases z⟩
 keep:=λi h h' st k=>⟨⟨st.1.choose,k e (by simp) _ st.1.choose_spec⟩,st.2.at λo q=>k it (by simp) o q⟩
 item:=by
  intro X hP hw hK hc i ag s σ H E I hf st hg;subst hP hw hK;obtain⟨xs,x,hq,hx⟩:=hg;obtain⟨aO,rv,p,hz⟩:=I.tuple hq;obtain⟨u,hu,ru⟩:=rv.get hx;obtain⟨⟨old,he⟩,hit⟩:=st;refine zG he hit (show s.heap.IsTuple a aO.toArray from p) (x:=u) (by simpa using hu) O8 λh1 ho Ld hT hk=>?_;refine⟨_,rfl,wpAny_letOwnedTupleGo_enum ho λh2 UD sb=>?_⟩;have ne:s.heap.objs.size≠e:=jq (aW he);have kk:∀b o,b≠e->b≠it->s.heap.get? b=some o->h2.get? b=some o:=λb o n1 n2 q=>(sb.2 b n1).trans (hk b o n1 n2 q);have T2:h2.get? s.heap.objs.size=some { cls:=.type "tuple",data:=.seq #[.int i s.toks,u] }:=(sb.2 _ ne).trans hT;have fe:=hf e (by simp);have fi:=hf it (by simp);have fT:H s.heap.objs.size=none:=I.bH.fresh (aI _);have tr:∀b v,H b=some v->b≠e/\b≠it:=λb v q=>⟨λz=>(by rw [z,fe.1] at q;cases q),λz=>(by rw [z,fi.1] at q;cases q)⟩;have nc:∀b,b∉[e,it]->b≠e/\b≠it:=λb z=>⟨λq=>z (by simp [q]),λq=>z (by simp [q])⟩;have lt:∀b o,s.heap.get? b=some o->b≠s.heap.objs.size:=λb o q=>bB (aW q);have I2:Inv X ag σ (upd H s.heap.objs.size (.tup [.int (i:Int),x])) { s with heap:=h2,toks:=s.toks+1 }:=by
   refine I.call (g':=s.gens) (t':=s.toks+1) (d':=s.drawn) (ch:=[e,it]) ⟨λb o q _ _ c=>kk b o (nc b c).1 (nc b c).2 q,λb o q _ _ c=>⟨o.slots,kk b o (nc b c).1 (nc b c).2 q⟩,
    λb o q n _=>by rw [ai (lt b o q)];exact n,λb o q c=>⟨o,kk b o (nc b c).1 (nc b c).2 q⟩,λb ys q=>by rw [ai (au q fT)];exact q,λb o v q=>by rw [ai (au q fT)];exact q,
    λb ps q=>⟨#[],by rw [ai (au q fT),q];simp⟩⟩ (λb v q=>?_) I.bare (λb hb=>?_)
   .by_cases hb:b=s.heap.objs.size
    .subst hb;rw [ae] at q;cases q;exact⟨by show 2<=sizeLine;decide,[.int i s.toks,u],.cons ⟨_,rfl⟩ (.cons ru .nil),_,T2,rfl,_,rfl⟩
    rw [ai hb] at q;refine(I.bH b v q).ip (λc o j7 z=>?_) (λc q'=>by rw [ai (au q' fT)];exact q') λc ys q'=>by rw [ai (au q' fT)];exact q'
    rcases j7 with rfl | j7
    .exact kk c o (tr c _ q).1 (tr c _ q).2 z
    exact kk c o (tr c _ j7).1 (tr c _ j7).2 z
   rcases bN.mp hb with rfl | hb
   .exact⟨fe.2.2.2.1,fe.2.1,fe.2.2.2.2.1,fe.2.2.2.2.2⟩
   obtain rfl:b=it:=by simpa using hb
   exact⟨fi.2.2.2.1,fi.2.1,fi.2.2.2.2.1,fi.2.2.2.2.2⟩
  refine⟨.ref s.heap.objs.size,_,I2,rfl,⟨_,x,rfl,fT,rfl,λys hy=>by rw [I.su hy hq];exact hx⟩,⟨⟨_,UD⟩,Ld.at λo q=>(sb.2 it O8.symm).trans q⟩,λb hb=>?_⟩;have vp:H b=none/\∃o,s.heap.get? b=some o:=by
   rcases bN.mp hb with rfl | hb
   .exact⟨fe.1,_,he⟩
   obtain rfl:b=it:=by simpa using hb
   obtain⟨o,q,_⟩:=hit;exact⟨fi.1,o,q⟩
  obtain⟨n,o,q⟩:=vp;rw [ai (lt b o q)];exact n
 done:=by
  intro X hP hw hK hc i ag s σ H E I hf st hg;subst hP hw hK;obtain⟨xs,hq,hx⟩:=hg;obtain⟨aO,rv,p,hz⟩:=I.tuple hq;obtain⟨⟨old,he⟩,hit⟩:=st;obtain⟨f0,f1,f2,f3,f4,f5⟩:=hf it (by simp);have hl:=rv.length;exact Cm (I.ok.hd hc) he hit (show s.heap.IsTuple a aO.toArray from p) (by simp;omega) λh' eb=>⟨rfl,I.turned (t':=s.toks) (λb o hb e=>eb b o hb e) f0 f1 f3 f4 f5⟩
 self:=λ_ _ _ _ _ st h=>wpAny_pyIter_enum st.1.choose_spec h
def KZ (K:aV)(ta:TA):TI:=λσ H R=>ta σ H λvs H1=>V9 vs (a9 K H1) λa=>R (rE K a) H1
def mz {X:Cx}{elts:List Expr}{k:Nat}{uH:Pos}{l:Expr}{ta:TA}{p pos:Pos}(hg:Gl X "enumerate")(hm:X.mg "enumerate"=none)(ha:PA X [l] ta)(hs:starEach [l] X.env=[(false,eval l X.env)]:=by rfl) :
  PI X (.Tuple elts k uH) (.Call (.Name "enumerate" p) [l] [] pos) (KZ X.K ta):=by
 intro ag s σ H R I h;refine Call_ (i_ I hg hm tS (uE (cq (ha pos ag s σ H _ I h) λus s1 aT=>?_) hs rfl));obtain⟨vs,H1,I1,r1,q1⟩:=aT;obtain⟨a,xs,e,hq,q⟩:=q1;subst e;obtain⟨u,rfl,rx⟩:=r1.one;cases rx;obtain⟨aO,rv,pl,hz⟩:=I1.tuple hq;refine zO (show s1.heap.IsTuple a aO.toArray from pl) λh1 he hit hk=>wpAny_pyIter_enum he ?_;refine⟨s1.heap.objs.size+1,[s1.heap.objs.size+1,s1.heap.objs.size],_,_,H1,rfl,I1.kept (t':=s1.toks) λb o e=>hk b o e,yh a _ _ (jq (lR _)),⟨⟨_,he⟩,hit⟩,λb hb=>?_,q⟩;rcases bN.mp hb with rfl | hb
 .exact I1.vv (gZ _) (I1.bH.fresh (gZ _))
 obtain rfl:b=s1.heap.objs.size:=by simpa using hb
 exact I1.vv (aI _) (I1.bH.fresh (aI _))
open PySem PySem.Spec PyProof.Rows PySem.W
def jl (c':Addr)(qual:Str):HO:=.ext λh=>h.CodeRec (.ref c') qual
def og (f:Addr)(o:Obj):HO:=.ext λh=>h.get? f=some o
def xy {P:Program}{w:World}{H:Hp}{h:Heap}{c':Addr}{qual:Str}(hr:h.CodeRec (.ref c') qual):bV P w H h c' (jl c' qual):=by
 obtain⟨c2,oc,vs,t,e,xR,hd,hv⟩:=id hr;cases e;exact⟨hr,⟨oc,xR⟩,λh1 h2 ⟨c3,ZM,Y4,t3,e3,Uk,gO,MJ⟩ k=>by cases e3;exact⟨_,ZM,Y4,t3,rfl,k _ Uk,gO,MJ⟩⟩
def pM {P:Program}{w:World}{H:Hp}{h:Heap}{f:Addr}{o:Obj}(e:h.get? f=some o):bV P w H h f (og f o):=⟨e,⟨o,e⟩,λ_ _ q k=>k _ q⟩
def Tab (T:Addr)(pos:Pos)(qual:Str)(H:Hp):Prop :=
 ∃ps,H T=some (.rN ps)/\TriplesOk ps.toList/\(codeAmong pos ps.toList=none\/∃c',codeAmong pos ps.toList=some (.ref c')/\H c'=some (jl c' qual))
def fj (T:Addr)(H H':Hp):Prop:=∀b o,b≠T->H b=some o->H' b=some o
def rJ (mg:Str->Option Value)(base:Heap):Prop :=
 ∃bm o,mg "__builtins__"=some (.ref bm)/\bm≠builtinsNs/\bm≠mainGlobals/\base.get? bm=some o/\o.cls=.type "module" /\ o.dict=some builtinsNs/\o.data=.plain
theorem iZ {a b:Int}{ta tb:Tok}{c:Value}:∀l:List Value,TriplesOk l->TriplesOk (l++[.int a ta,.int b tb,c])
 | [],_=>trivial
 | [x],h=>by cases x <;> exact h.elim
 | [x,y],h=>by cases x <;> cases y <;> exact h.elim
 | x::y::z::r,h=>by
  cases x with
  | int i ti =>
   cases y with
   | int j tj=>exact iZ r h
   | _=>exact h.elim
  | _=>exact h.elim
section
variable {X:Cx}{params:Arguments}{body:Expr}{scope:Scope}{pos:Pos}{c T:Addr}
abbrev k7 (X:Cx)(params:Arguments)(body:Expr)(scope:Scope)(c':Addr)(fC:Value):Obj:=kla_obj "<lambda>" (X.env.qual ++ "<lambda>") params body scope [] ((X.mg "__name__").getD .none) c' fC
def RY (X:Cx)(params:Arguments)(body:Expr)(scope:Scope)(pos:Pos)(T:Addr):TE:=λσ H Q=>Tab T pos (X.env.qual ++ "<lambda>") H /\
 ∀f c' fC H',fj T H H'->Tab T pos (X.env.qual ++ "<lambda>") H'->H f=none->H' f=some (og f (k7 X params body scope c' fC))->H' c'=some (jl c' (X.env.qual ++ "<lambda>"))->Q (.ref f) H'
def DN (qQ:X.env.code=.ref c)(hC:codeHdIn X.K c T=true)(hB:rJ X.mg X.base)(mP:∀y∈scope.names,y.2≠.free)(EK:defaultsOf params X.env=([],[]):=by rfl):PE X (.Lambda params body scope pos) (RY X params body scope pos T):=by
 intro ag s σ H Q I h;obtain⟨⟨ps,hT,ht,EL⟩,q⟩:=h;refine kla_eval EK ?_;have Lp:s.heap.get? T=some (tabObj ps):=(show bV X.prog X.w H s.heap T (.rN ps) from I.bH T _ hT);have hg:=I.mod.glob.keeps I.bk;have C:=codeHd_of_K I.jj hC;obtain⟨bm,ob,b1,b2,b3,b4,b5,b6,b7⟩:=hB;have VY:=I.bk _ _ b4;have SX:bm≠T:=λz=>by
  have:=(I.bs _ _ b4).2;rw [z,hT] at this;cases this
 have SQ:mainGlobals≠T:=λz=>by
  obtain⟨o,es,ep,e,d,_⟩:=hg;rw [z,Lp] at e;cases e;cases d
 have Po:s.heap.BuiltinsAt X.mg T:=⟨bm,ob,b1,b2,b3,SX,VY,b5,b6,b7⟩;have FD:∀b v,H b=some v->b < s.heap.objs.size:=λb v e=>I.bH.lt e;rcases EL with OZ | ⟨c',hf,j7⟩
 .refine kla_makeFunction (closureFor_none mP) I.ok.glob hg qQ C Lp ht OZ SQ Po λc' fC h' tk hx Lh hV ED OK=>?_;have hcr:∃oc,h'.get? c'=some oc:=by
   obtain⟨c2,oc,vs,t,e,xR,_⟩:=ED;cases e;exact⟨oc,xR⟩
  have qO:h'.objs.size > s.heap.objs.size:=pT Lh hV;have keep:∀b o,b≠T->s.heap.get? b=some o->(h'.push (k7 X params body scope c' fC)).get? b=some o:=λb o n e=>bD _ (hx b o n e)
  let H':Hp:=upd (upd (upd H T (.rN (ps++#[rawInt pos.line,rawInt pos.col,.ref c']))) c' (jl c' (X.env.qual ++ "<lambda>"))) h'.objs.size (og h'.objs.size (k7 X params body scope c' fC))
  have zi:∀b v,H b=some v->b≠c'/\b≠h'.objs.size:=λb v e=>⟨bB (dQ (FD b v e) Lh),bB (jA (FD b v e) qO)⟩;have SW:c'≠h'.objs.size:=bB hV;have Og:=zi T _ hT;have eT:H' T=some (.rN (ps++#[rawInt pos.line,rawInt pos.col,.ref c'])):=by
   show upd (upd (upd H T _) c' _) h'.objs.size _ T=_;rw [ai Og.2,ai Og.1,ae]
  have ec:H' c'=some (jl c' (X.env.qual ++ "<lambda>")):=by
   show upd (upd (upd H T _) c' _) h'.objs.size _ c'=_;rw [ai SW,ae]
  have ef:H' h'.objs.size=some (og h'.objs.size (k7 X params body scope c' fC)):=ae;have eo:∀b,b≠T->b≠c'->b≠h'.objs.size->H' b=H b:=λb n1 n2 n3=>by
   show upd (upd (upd H T _) c' _) h'.objs.size _ b=_;rw [ai n3,ai n2,ai n1]
  have sT:fj T H H':=λb o n e=>by rw [eo b n (zi b o e).1 (zi b o e).2];exact e
  have I2:Inv X ag σ H' { s with heap:=h'.push (k7 X params body scope c' fC),toks:=tk }:=by
   refine I.call (g':=s.gens) (t':=tk) (d':=s.drawn) (ch:=[]) ⟨λb o e n _ _=>keep b o (λz=>by rw [z,hT] at n;cases n) e,λb o e n _ _=>⟨o.slots,keep b o (λz=>by rw [z,hT] at n;cases n) e⟩,λb o e n _=>?_,λb o e _=>?_,λb xs e=>?_,λb o u e=>?_,λb So e=>?_⟩ (λb v e=>?_) I.bare (λb hb=>nomatch hb)
   .have lb:=aW e;rw [eo b (λz=>by rw [z,hT] at n;cases n) (bB (dQ lb Lh)) (bB (jA lb qO))];exact n
   .by_cases z:b=T
    .exact⟨_,by rw [z];exact bD _ OK⟩
    exact⟨o,keep b o z e⟩
   .exact sT b _ (λz=>by rw [z,hT] at e;cases e) e
   .exact sT b _ (λz=>by rw [z,hT] at e;cases e) e
   .by_cases z:b=T
    .subst z;rw [hT] at e;cases e;exact⟨_,eT⟩
    exact⟨#[],by rw [ue];exact sT b _ z e⟩
   by_cases z1:b=h'.objs.size
   .subst z1;rw [ef] at e;cases e;exact pM (cQ _ rfl)
   by_cases z2:b=c'
   .subst z2;rw [ec] at e;cases e;refine xy ?_;obtain⟨c2,oc,vs,t,e',xR,hd,hv⟩:=ED;cases e';exact⟨_,oc,vs,t,rfl,bD _ xR,hd,hv⟩
   by_cases z3:b=T
   .subst z3;rw [eT] at e;cases e;exact bD _ OK
   rw [eo b z3 z2 z1] at e;refine(I.bH b v e).ip (λd o Ce e'=>?_) (λd e'=>sT d _ (λz=>by rw [z,hT] at e';cases e') e') λd ys e'=>sT d _ (λz=>by rw [z,hT] at e';cases e') e';rcases Ce with rfl | Ce
   .exact keep d o z3 e'
   exact keep d o (λz=>by rw [z,hT] at Ce;cases Ce) e'
  have fresh:H h'.objs.size=none:=I.bH.fresh (jz qO);exact⟨.ref h'.objs.size,H',I2,rfl,q _ c' fC H' sT ⟨_,eT,by rw [uk];exact iZ _ ht,.inr ⟨c',by rw [uk];exact codeAmong_snoc _ ht OZ,ec⟩⟩ fresh ef ec⟩
 refine kla_makeFunctionHit (closureFor_none mP) I.ok.glob hg qQ C Lp ht hf Po λfC h' tk hk hsz=>?_;have keep:∀b o,s.heap.get? b=some o->(h'.push (k7 X params body scope c' fC)).get? b=some o:=λb o e=>bD _ (hk b o e);have fresh:H h'.objs.size=none:=I.bH.fresh hsz;refine⟨.ref h'.objs.size,_,I.laid (a:=h'.objs.size) (o:=og h'.objs.size (k7 X params body scope c' fC)) (t':=tk) keep hsz (pM (cQ _ rfl)),rfl,?_⟩;refine q _ c' fC _ (λb o _ e=>by rw [ai (au e fresh)];exact e) ⟨ps,by rw [ai (au hT fresh)];exact hT,ht,.inr ⟨c',hf,by rw [ai (au j7 fresh)];exact j7⟩⟩ fresh ae (by rw [ai (au j7 fresh)];exact j7)
end
section
variable {P:Program}{w:World}{K:Frag}{mg:Str->Option Value}{base:Heap}{f c':Addr}{q:Str}{params:Arguments}{body:Expr}{scope:Scope}{pm fC:Value}{N ps:List Str}{k:Nat}{te:TE}
def Hg (S:aH N ps scope)(mQ:∀us:List Value,us.length=ps.length->bindArgs (kla_fn "<lambda>" q params body scope [] pm (.ref c') fC) ⟨us,[]⟩=pure (ps.zip us))
  (gB:∀(A:Around)(outer:List Env)(s:Shared)(H:Hp),PE (eQ fc P w K mg base N q scope f (.ref c') A outer s H λ_ _ _=>False) body te)
  (A:Around)(outer:List Env)(s:Shared)(H:Hp)(us:List Value)(vs:List V)(Q:VK)(hr:di (k+1) A)(e0:pC P w K mg base A outer s H)(hf:H f=some (og f (kla_obj "<lambda>" q params body scope [] pm c' fC)))
  (hc:H c'=some (jl c' q))(rv:aS vs us)(hl:vs.length=ps.length)(h:te (start N vs) H Q):codeAny (model P w) A (.call (.ref f) ⟨us,[]⟩) (CR fc outer P w H s Q λ_ _ _=>False) s:=by
 obtain⟨ef,_⟩:=e0.bH f _ hf;obtain⟨ec,_⟩:=e0.bH c' _ hc;have lu:us.length=ps.length:=by rw [<-rv.length];exact hl
 have lim:s.heap.NoLimit:=e0.mod.nolimit.keeps λb o e=>(e0.bs b o e).1;have iN:∀y∈ps.zip us,scope.names.lookup y.1=some .local\/(scope.names.lookup y.1=some .cell/\((cellsFrom (s.heap.objs.size+1) scope.names []).lookup y.1).isSome=true):=λ⟨n,v⟩ hy=>by
  rcases S.par n (List.of_mem_zip hy).1 with z | z
  .exact .inl z
  exact .inr ⟨z,cellsFrom_some _ _ _ (.inl z)⟩
 refine kla_callFunE hr.depth ef rfl S.co S.gen rfl ec ?_;rw [mQ us lu];refine aD (wpAny_newFunctionEnv_cells S.kind iN λenv he s1 x=>?_);subst he;refine⟨lim.keeps x.toInCall.keep,kla_codeExpr ?_⟩;have I:Inv (eQ fc P w K mg base N q scope f (.ref c') A outer s H λ_ _ _=>False) [] (start N vs) H s1:=sY S hr.hd e0 hl rv x;refine cv (gB A outer s H [] s1 (start N vs) H _ I h) (λv s' aT=>?_) λe s' z=>z;obtain⟨y,H',J,r,z⟩:=aT;exact⟨y,H',J.os,J.bare,J.base,J.bH,r,z⟩
end
section
variable {X:Cx}{i:Nat}{x:Str}{e:Expr}{es:List Expr}{t:TA}{p pos:Pos}{q:Str}{params:Arguments}{body:Expr}{scope:Scope}{N ps:List Str}{k:Nat}{te:TE}
def C5 (i:Nat)(q:Str)(params:Arguments)(body:Expr)(scope:Scope) (N ps:List Str)(t:TA)(te:TE):TE:=λσ H Q=>∃f pm c' fC,σ[i]?=some (some (.ref f)) /\
 t σ H λvs H1=>H1 f=some (og f (kla_obj "<lambda>" q params body scope [] pm c' fC))/\H1 c'=some (jl c' q)/\vs.length=ps.length/\te (start N vs) H1 Q
def yQ (hN:X.N[i]?=some x)(hx:X.env.scope.names.lookup x=some .local)(S:aH N ps scope)(hr:di (k+1) X.A)
  (mQ:∀(pm fC:Value)(c':Addr)(us:List Value),us.length=ps.length->bindArgs (kla_fn "<lambda>" q params body scope [] pm (.ref c') fC) ⟨us,[]⟩=pure (ps.zip us))
  (gB:∀(f c':Addr)(A:Around)(outer:List Env)(s:Shared)(H:Hp),PE (eQ fc X.prog X.w X.K X.mg X.base N q scope f (.ref c') A outer s H λ_ _ _=>False) body te)(ha:PA X (e::es) t)
  (qP:(x == ("__debug__":Str))=false:=by decide)(he:starEach (e::es) X.env=(false,eval e X.env)::starEach es X.env:=by rfl)(nA:(backTo pos (starEach es X.env)).any (·.1)=false:=by rfl) :
  PE X (.Call (.Name x p) (e::es) [] pos) (C5 i q params body scope N ps t te):=by
 intro ag s σ H Q I h;obtain⟨f,pm,c',fC,hσ,h⟩:=h;obtain⟨m,hn,hl⟩:=I.loc;obtain⟨u,ru,lk⟩:=hl i x (.ref f) hN hσ (.inl hx);cases (show u=Value.ref f from ru);have hm:m x=some (.ref f):=by
  rcases lk with l | ⟨l,_⟩
  .exact l.2
  have l':X.env.scope.names.lookup x=some .cell\/X.env.scope.names.lookup x=some .free:=l;rw [hx] at l';rcases l' with l' | l' <;> cases l'
 refine lS (wpAny_Name (ui I.ok.kind hx hn hm ?_) qP);refine callWith_def (o:=kla_obj "<lambda>" q params body scope [] pm c' fC) rfl (cq (ha pos ag s σ H _ I h) λus s1 aT=>?_) he;obtain⟨vs,H1,I1,r,z1,z2,z3,z4⟩:=aT;obtain⟨ef,_⟩:=I1.bH f _ z1;refine⟨ef,hX (iV (Hg (k:=k) S (λus hl=>mQ pm fC c' us hl) (gB f c') X.A X.stack s1 H1 us vs Q hr I1.E2 z1 z2 r z3 z4) λr' s' z=>?_)⟩;cases r' with
 | error e=>exact z.elim
 | ok fl =>
  cases fl with
  | ret u=>exact I1.after z
  | next=>exact z.elim
  | brk=>exact z.elim
  | cont=>exact z.elim
end
def Fy (ts:List Addr)(H:Hp):Prop:=∀b,H b=none\/(∃o xs,H b=some (.jo o (.lst xs)))\/(b∈ts/\H b=some (.rN #[]))
def B5 {P:Program}{w:World}{K:Frag}{mg mb:Str->Option Value}{CX:tZ}{k:Nat}{fa a:Addr}{fd:FuncData}{x:Str}{sp:Sp}{s₁:Shared}{vs:List Value}{ns:List Int}{ts:List Addr}
  (KX:K.In s₁.heap)(kC:s₁.heap.Ns mainGlobals mg)(hb:s₁.heap.Ns builtinsNs mb)(Ln:∀x:Str,x ≠ "__name__" -> mb x=bootBuiltins x)(Lc:s₁.heap.NoLimit)
  (UL:∃bm ob,mg "__builtins__"=some (.ref bm)/\bm≠builtinsNs/\s₁.heap.get? bm=some ob/\ob.cls=.type "module" /\ ob.dict=some builtinsNs/\ob.data=.plain)(hg:s₁.gens=#[])
  (K2:∀T∈ts,s₁.heap.get? T=some (tabObj #[])/\K.lookup T=none/\∃c,codeHdIn K c T=true)
  (ha:s₁.heap.get? a=some { cls:=.type "list",data:=.seq vs.toArray })(hi:IntsAre vs ns)(hl:ns.length<=sizeLine)(hr:di k callerA)
  (F:∀base:Heap,K.In base->base.Ns mainGlobals mg->rJ mg base->ba P w K mg base CX k fa fd [x] sp)(mQ:∀(s:Shared)(u:Value),BindsTo s fd ⟨[u],[]⟩ [(x,u)])
  (tq:∀H:Hp,Fy ts H->(∀T∈ts,H T=some (.rN #[]))->aG K H a (ns.map V.int)->sp [.ref a] H (λv _=>v=.bl true) λ_ _ _=>False)
  (Lu:∀H e s',CX [] H s₁ (λ_ _ _=>False) e s'->False) :
  codeAny (model P w) callerA (.call (.ref fa) ⟨[.ref a],[]⟩) (λr s'=>r=.ok (.ret (.bool true))/\OldK s₁.heap s'.heap/\s'.os=s₁.os/\AllBare s'.gens) s₁:=by
 have rv:=nW hi;have KL:=hi.length;have core:∀H:Hp,Fy ts H->(∀T∈ts,H T=some (.rN #[]))->aG K H a (ns.map V.int)->j_ P w H s₁.heap->(∀b,H b≠none->b=a\/b∈ts)->(H a≠none->K.lookup a=none) ->
   codeAny (model P w) callerA (.call (.ref fa) ⟨[.ref a],[]⟩) (λr s'=>r=.ok (.ret (.bool true))/\OldK s₁.heap s'.heap/\s'.os=s₁.os/\AllBare s'.gens) s₁:=by
  intro H hO hT hS bH hA hK;have j4:∀{b:Addr}{o:Obj},s₁.heap.get? b=some o->H b=none->(lB s₁.heap H).get? b=some o:=λe n=>wV e n;have off:∀{b:Addr}{o:Obj},s₁.heap.get? b=some o->(∀aO n,o.data≠.seq aO n)->(∀fs,o.data≠.fields fs)->H b=none:=λ{b o} e d1 d2=>by
   cases q:H b with
   | none=>rfl
   | some u =>
    rcases hA b (by rw [q];simp) with e' | e'
    .subst e';rw [ha] at e;cases e;exact(d1 _ _ rfl).elim
    rw [(K2 b e').1] at e;cases e;exact(d2 _ rfl).elim
  have G9:∀{b:Addr}{m:Str->Option Value},s₁.heap.Ns b m->(lB s₁.heap H).Ns b m:=λ{b m} ⟨o,es,ep,e,d,r⟩=>⟨o,es,ep,j4 e (off e (λ_ _ z=>by rw [d] at z;cases z) λ_ z=>by rw [d] at z;cases z),d,r⟩;have Pj:K.In (lB s₁.heap H):=λb o e=>j4 (KX b o e) (by
   cases q:H b with
   | none=>rfl
   | some u =>
    rcases hA b (by rw [q];simp) with e' | e'
    .subst e';rw [hK (by rw [q];simp)] at e;cases e
    rw [(K2 b e').2.1] at e;cases e)
  have hM:Mod K mg (lB s₁.heap H):=⟨Pj,G9 kC,⟨mb,G9 hb,Ln⟩,let ⟨mc,h1,h2⟩:=Lc;⟨mc,G9 h1,h2⟩⟩;have Pn:rJ mg (lB s₁.heap H):=by
   obtain⟨bm,ob,b1,b2,b3,b4,b5,b6⟩:=UL;refine⟨bm,ob,b1,b2,λz=>?_,j4 b3 (off b3 (λ_ _ z=>by rw [b6] at z;cases z) λ_ z=>by rw [b6] at z;cases z),b4,b5,b6⟩;obtain⟨o,es,ep,e,d,_⟩:=kC;rw [<-z,b3] at e;cases e;rw [b6] at d;cases d
  have e0:pC P w K mg (lB s₁.heap H) callerA [] s₁ H:=⟨rfl,hM,λb o e=>AK e,Nat.le_of_eq (tD _ _),trivial,λb hb=>absurd (show b∈([]:List Addr) from hb) (by simp),bH,.of_eq hg⟩;refine iV ((F _ Pj (G9 kC) Pn).run callerA [] s₁ H ⟨[.ref a],[]⟩ [.ref a] [.ref a] _ _ hr e0 (mQ s₁ (.ref a)) (.cons rfl .nil) (tq H hO hT hS)) λr s' h=>?_;cases r with
  | error e=>exact(Lu H e s' h).elim
  | ok fl =>
   cases fl with
   | next=>exact False.elim h
   | brk=>exact False.elim h
   | cont=>exact False.elim h
   | ret u =>
    obtain⟨v,H',os,bare,un,Hl,r',q⟩:=h;have q':v=.bl true:=q;subst q';obtain rfl:u=Value.bool true:=r';have each:∀b o,s₁.heap.get? b=some o->asItWas s₁.heap s'.heap b o/\∃o',s'.heap.get? b=some o':=λb o e=>by
     cases q:H b with
     | none =>
      have z:=un.keep b o e q (by intro z;exact absurd (show b∈([]:List Addr) from z) (by simp)) (by simp);exact⟨.inl z,o,z⟩
     | some u =>
      rcases hO b with z | ⟨ob,xs,z⟩ | ⟨vp,z⟩
      .rw [q] at z;cases z
      .have z2:=un.jP b ob _ z;obtain⟨e1,_⟩:=bH b _ z;obtain⟨e2,_⟩:=Hl b _ z2;rw [e] at e1;cases e1;exact⟨.inl e2,_,e2⟩
      obtain⟨more,z2⟩:=un.j6 b _ z;have e2:s'.heap.get? b=some (tabObj (#[]++more)):=Hl b _ z2;rw [(K2 b vp).1] at e;cases e;obtain⟨c,hc⟩:=(K2 b vp).2.2;obtain⟨oc,Y5,file,tf,flags,tg,inF,text,tt,d1,d2,d3,d4,_⟩:=codeHd_of_K KX hc;exact⟨.inr (.inl ⟨⟨c,oc,Y5,d1,d2,d3,d4⟩,rfl,#[],more,rfl,e2⟩),_,e2⟩
    exact⟨rfl,⟨λb o e=>(each b o e).1,λb o e=>(each b o e).2⟩,os,bare⟩
 have na:a∉ts:=λz=>by
  have:=(K2 a z).1;rw [ha] at this;cases this
 cases hk:K.lookup a with
 | some o =>
  have e:=KX a o hk;rw [ha] at e;cases e;refine core (λb=>if b∈ts then some (.rN #[]) else none) (λb=>?_) (λT h=>az h) (.inr ⟨_,vs.toArray,_,hk,rfl,rfl,rfl,by rw [bO,KL];exact hl,by simpa using rv⟩) (λb u z=>?_) (λb z=>?_) λz=>absurd (aA na) z
  .by_cases h:b∈ts
   .exact .inr (.inr ⟨h,az h⟩)
   exact .inl (aA h)
  .by_cases h:b∈ts
   .have z':=(az h).symm.trans z;cases z';exact(K2 b h).1
   have z':=(aA h).symm.trans z;cases z'
  by_cases h:b∈ts
  .exact .inr h
  exact absurd (aA h) z
 | none =>
  refine core (λb=>if b=a then some (.jo { cls:=.type "list",data:=.seq vs.toArray } (.lst (ns.map V.int))) else if b∈ts then some (.rN #[]) else none) (λb=>?_) (λT h=>?_) (.inl (.inr ⟨{ cls:=.type "list",data:=.seq vs.toArray },az rfl⟩)) (λb u z=>?_) (λb z=>?_) λ_=>hk
  .by_cases hb:b=a
   .exact .inr (.inl ⟨_,_,az hb⟩)
   by_cases h:b∈ts
   .exact .inr (.inr ⟨h,(aA hb).trans (az h)⟩)
   exact .inl ((aA hb).trans (aA h))
  .exact(aA (λz:T=a=>na (z ▸ h))).trans (az h)
  .by_cases hb:b=a
   .have z':=(az hb).symm.trans z;cases z';subst hb;exact⟨ha,by rw [aB];exact hl,vs,_,rv,ha⟩
   by_cases h:b∈ts
   .have z':=((aA hb).trans (az h)).symm.trans z;cases z';exact(K2 b h).1
   have z':=((aA hb).trans (aA h)).symm.trans z;cases z'
  by_cases hb:b=a
  .exact .inl hb
  by_cases h:b∈ts
  .exact .inr h
  exact absurd ((aA hb).trans (aA h)) z
def CZ {l:OpenLaw}{n k:Nat}{q:Program}{loose:List Str}{XP:(Str->Option Value)->Heap->Prop}{YP:World->Heap->Prop}{d:DefRec}{K:Params->Frag}{CX:World->tZ}{sp:World->Sp}{x:Str}{ts:List Addr}
  (hn:l.most=some n)(Cc:n<=sizeLine)(Li:d.params.defaults=[])(hr:di k callerA)
  (hY:∀(w:World)(h:Heap),YP w h->(K w.params).In h/\∀T∈ts,h.get? T=some (tabObj #[]))
  (hK:∀w:World,∀T∈ts,(K w.params).lookup T=none/\∃c,codeHdIn (K w.params) c T=true)
  (F:∀(w:World)(mg:Str->Option Value)(fa:Addr)(h:Heap),(K w.params).In h->h.Ns mainGlobals mg->mg d.name=some (.ref fa) ->
   ∃fd:FuncData,(∀(s:Shared)(u:Value),BindsTo s fd ⟨[u],[]⟩ [(x,u)]) /\
    ∀base:Heap,(K w.params).In base->base.Ns mainGlobals mg->rJ mg base->ba l.prog w (K w.params) mg base (CX w) k fa fd [x] (sp w))
  (tq:∀(w:World)(H:Hp)(a:Addr)(ns:List Int),ns.length<=n->Fy ts H->(∀T∈ts,H T=some (.rN #[]))->aG (K w.params) H a (ns.map V.int)->sp w [.ref a] H (λv _=>v=.bl true) λ_ _ _=>False)
  (Lu:∀(w:World)(H:Hp)(s:Shared)(e:Value)(s':Shared),CX w [] H s (λ_ _ _=>False) e s'->False) :
  WalkO q loose XP YP l.row.toRowW d [] (λf vs=>PySem.call f vs):=by
 refine F8.oS hn Li λw s₀ s₁ mg mb fa o pm cd doc a vs ns G Y ho hd qR Lb EE hints a8 hg=>?_;obtain⟨KX,TX⟩:=hY w _ Y;obtain⟨fd,hb,hF⟩:=F w mg fa _ KX G.T.g Lb;exact B5 KX G.T.g G.T.b G.T.builtins G.T.nolimit G.T.bmain hg (λT hT=>⟨TX T hT,hK w T hT⟩) EE hints (cC a8 Cc) hr hF hb (λH hO hT hS=>tq w H a ns a8 hO hT hS) λH e s'=>Lu w H s₁ e s'
def bh {X:Cx}{scope:Scope}{js:List (Nat×Str)}(h:(js.all λp=>X.N[p.1]? == some p.2 && X.env.scope.names.lookup p.2 == some .cell && scope.names.lookup p.2 == some .free)=true)
  (h2:(scope.names.all λy=>y.2 != .free || X.env.scope.names.lookup y.1 == some .cell)=true):Ib X scope js:=by
 refine⟨λp hp=>?_,λy hy=>?_⟩
 .have:=fM.mp h p hp;simp only [jt,beq_iff_eq] at this;exact⟨this.1.1,this.1.2,this.2⟩
 have:=fM.mp h2 _ hy;simpa using this
def vq {σ:St}{H:Hp}{A B:Hp->Prop}(h:A H):g6 σ H λb H3=>if b=true then A H3 else B H3:=by
 show if true=true then A H else B H;exact rV h
def goN {i:Nat}{v:V}{σ:St}{H:Hp}{Q:St->Hp->Prop}(h:Q (σ.set i (some v)) H):du i v σ H Q:=h
def oK (x y:Str):(x++y).length=x.length+y.length:=by
 show (x.cps++y.cps).size=_;rw [Array.size_append];rfl
def xl (ns:List Int)(lo hi:Option Int):∃o6:List Int,gC (ns.map V.int) lo hi=o6.map V.int/\(∀n∈o6,n∈ns)/\o6.length<=ns.length :=
 ⟨(ns.drop (HT.dA (ns.map V.int).length 0 lo)).take (HT.dA (ns.map V.int).length (ns.map V.int).length hi - HT.dA (ns.map V.int).length 0 lo),by unfold gC;rw [<-iW,<-jC],λn hn=>List.mem_of_mem_drop (lY hn),by rw [c_,jd];omega⟩
def jN {X:Cx}(K:aV)(hK:X.K=K:=by rfl):HY X (Ki K):=by
 subst hK;exact bz
def i5 {X:Cx}{es:List Expr}{k:Nat}{t:Jj}{n:Nat}{pos:Pos}(K:aV)(hc:X.calm=true)(h:Qh X es t)(hK:X.K=K:=by rfl)
  (hn:(assignEach es X.env).length=n:=by rfl)(jn:(assignEach es X.env).findIdx? (·.1)=none:=by rfl):PG X (.Tuple es k pos) (Cj K n t):=by
 subst hK;exact eZ hc h hn jn
end L2
section
variable {P:PySem.Program}{w:PySem.World}{K:aV}{mg:PySem.Str->Option PySem.Value}{base:PySem.Heap}{f:PySem.Addr}{fd:PySem.FuncData}
namespace eX
open PySem L2
def top (i:Nat):Stmt:=PySem.Challenge.pw_wright_k13_loops.main.body.getD i (.Pass ⟨0,0,0,0⟩)
abbrev yB:Stmt:=top 2
abbrev yo:Stmt:=top 3
abbrev qt:Stmt:=top 7
abbrev uV:Stmt:=top 8
abbrev yD:Stmt:=top 9
abbrev Dr:Stmt:=top 19
abbrev yt:Stmt:=top 20
abbrev JR:Stmt:=top 21
abbrev qo:Stmt:=top 23
abbrev uY:Stmt:=top 24
abbrev ml:Stmt:=top 25
abbrev uU:Stmt:=top 28
abbrev yr:Stmt:=top 29
abbrev JT:Stmt:=top 30
abbrev wg:Stmt:=top 37
abbrev Dq:Stmt:=top 4
abbrev JS:Stmt:=top 5
abbrev mq:Stmt:=top 32
abbrev n5:Stmt:=top 33
abbrev qr:Stmt:=top 34
abbrev Zu:Stmt:=top 35
structure Txt (mg:Str->Option Value):Prop where
 len:mg "len"=none
 Bu:mg "range"=none
 IK:mg "isinstance"=none
 tup:mg "tuple"=none
 lst:mg "list"=none
 A4:mg "dict"=none
 all:mg "all"=none
 any:mg "any"=none
 str:mg "str"=none
 int:mg "int"=none
 boo:mg "bool"=none
 HE:mg "enumerate"=none
 sum:mg "sum"=none
 max:mg "max"=none
 min:mg "min"=none
section
def boot_all:bootBuiltins "all"=some (.builtin "all"):=by decide +kernel
def eI:bootBuiltins "list"=some (.type "list"):=by decide +kernel
def fh:bootBuiltins "dict"=some (.type "dict"):=by decide +kernel
def KP:PySem.W.kitOne K (.type "int") (.type "bool")=some false:=by kernel_rfl
end
end eX
namespace L2
open PySem
def a7 {K:aV}{H:Hp}{D a:Addr}{xs ys:List V}{o:HO}(hD:H D=some (.lst ys))(h:a9 K H a xs):a9 K (upd H D o) a xs:=by
 rcases h with (h | ⟨u,h⟩) | h
 .exact .inl (.inl (by rw [ai (λz=>by rw [z,hD] at h;cases h)];exact h))
 .exact .inl (.inr ⟨u,by rw [ai (λz=>by rw [z,hD] at h;cases h)];exact h⟩)
 exact .inr h
def vG (kvs:List (aJ×V))(k:aJ):(kvs.any λkv=>decide (kv.1=k))=true↔k∈kvs.map (·.1):=by
 rw [List.any_eq_true,cU];constructor
 .rintro⟨x,h1,h2⟩;exact⟨x,h1,d6 h2⟩
 rintro⟨x,h1,h2⟩;exact⟨x,h1,cM h2⟩
def yK {kvs:List (aJ×V)}{k:aJ}{v:V}(h:k∈kvs.map (·.1)):(bC kvs k v).map (·.1)=kvs.map (·.1):=by
 unfold bC;rw [az ((vG kvs k).mpr h),iz];refine List.map_congr_left λx hx=>?_;show (if x.1=k then (x.1,v) else x).1=x.1
 split <;> rfl
def gQ {kvs:List (aJ×V)}{k:aJ}{v:V}(h:¬k∈kvs.map (·.1)):(bC kvs k v).map (·.1)=kvs.map (·.1)++[k]:=by
 unfold bC;rw [aA (λz=>h ((vG kvs k).mp z)),bI];rfl
def d8 (kvs:List (aJ×V))(k:aJ):(a_ kvs k).isSome=true↔k∈kvs.map (·.1):=by
 rw [<-iF];exact vG kvs k
theorem cA {α β γ:Type}{F:α->β->Prop}{G:α->γ->Prop}{φ:β->γ}:∀{xs:List α}{ys:List β},Paired F xs ys->(∀a b,F a b->G a (φ b))->Paired G xs (ys.map φ)
 | _,_,.nil,_=>.nil
 | _,_,.cons h t,k=>.cons (k _ _ h) (cA t k)
def cH {z:Str}{l:List Str}:(Sum.inr z:aJ)∈l.map Sum.inr↔z∈l:=by
 rw [cU];constructor
 .rintro⟨x,h1,h2⟩;rw [<-kM h2];exact h1
 intro h;exact⟨z,h,rfl⟩
end L2
namespace M11
abbrev ay:=PySem.Str×List PySem.Str
def gF (a:List PySem.Str)(h:PySem.Str):List PySem.Str:=if h∈a then a else a++[h]
def pA (bA hs:List PySem.Str):List PySem.Str:=hs.foldl gF bA
def addW (aU a:List PySem.Str)(p:PySem.Str):List PySem.Str:=if p∈aU then a else gF a p
def rM (aU bA ps:List PySem.Str):List PySem.Str:=ps.foldl (addW aU) bA
def MD (aa:List ay)(name:PySem.Str) (k:Nat):Bool:=decide ((aa[k]?.map (·.1))=some name)
def nums (aa:List ay)(name:PySem.Str) (i:Nat):List Int:=((List.range i).filter (MD aa name)).map λk:Nat=>(k:Int)
def BQ (aa:List ay)(name:PySem.Str) (i:Nat):nums aa name (i+1)=nums aa name i++(if MD aa name i=true then [(i:Int)] else []):=by
 unfold nums;rw [List.range_succ,oC,bI]
 congr 1
 by_cases h:MD aa name i=true
 .rw [az h];simp [h]
 rw [aA h];simp [h]
def wC (aa:List ay)(name:PySem.Str) (i:Nat):(nums aa name i).length<=i:=by
 unfold nums;rw [aB];have:=kn (MD aa name) (List.range i);rw [ub] at this;exact this
def xD (a:List PySem.Str)(h:PySem.Str):(gF a h).length<=a.length+1:=by
 unfold gF;split <;> simp
theorem gk:∀(hs bA:List PySem.Str),(pA bA hs).length<=bA.length+hs.length
 | [],bA=>by simp [pA]
 | h::r,bA=>by
  have:=gk r (gF bA h);have:=xD bA h;show (pA (gF bA h) r).length<=_;rw [dC];omega
def Fj (aU a:List PySem.Str)(p:PySem.Str):(addW aU a p).length<=a.length+1:=by
 unfold addW;split
 .omega
 exact xD a p
theorem uG (aU:List PySem.Str):∀(ps bA:List PySem.Str),(rM aU bA ps).length<=bA.length+ps.length
 | [],bA=>by simp [rM]
 | p::r,bA=>by
  have:=uG aU r (addW aU bA p);have:=Fj aU bA p;show (rM aU (addW aU bA p) r).length<=_;rw [dC];omega
end M11
namespace eX
open PySem L2 M11
def jM {bA:List (aJ×V)}{as:List Str}(e:bA.map (·.1)=as.map Sum.inr)(h:Str){v:V}:(bC bA (Sum.inr h) v).map (·.1)=(gF as h).map Sum.inr:=by
 unfold gF;by_cases q:h∈as
 .rw [az q,yK (by rw [e];exact cH.mpr q),e]
 rw [aA q,gQ (by rw [e];exact λz=>q (cH.mp z)),e,bI];rfl
theorem mK:∀(hs:List Str)(bA:List (aJ×V)) (as:List Str),bA.map (·.1)=as.map Sum.inr->(cO (hs.map λh=>((Sum.inr h:aJ),V.bl true)) bA).map (·.1)=(pA as hs).map Sum.inr
 | [],bA,as,e=>e
 | h::r,bA,as,e=>by
  refine mK r (bC bA (Sum.inr h) (.bl true)) (gF as h) ?_;exact jM e h
def keys_str {kvs:List (aJ×V)}{zs:List Str}(e:kvs.map (·.1)=zs.map Sum.inr):(kvs.map λp=>kV p.1)=zs.map V.str:=by
 have e2:(kvs.map λp=>kV p.1)=(kvs.map (·.1)).map kV:=by rw [iz];rfl
 rw [e2,e,iz];rfl
section
def Bd (K:aV)(H:Hp)(r:Addr)(ru:ay):Prop:=∃p,a9 K H r [.str ru.1,.ref p]/\a9 K H p (ru.2.map V.str)
def bJ (K:aV)(H:Hp)(rs:List Addr)(aa:List ay):Prop:=Paired (λr ru=>Bd K H r ru) rs aa
def bJ.keep {H H':Hp}{rs:List Addr}{aa:List ay}(h:bJ K H rs aa)(k:∀a xs,a9 K H a xs->a9 K H' a xs):bJ K H' rs aa:=Paired.eF h λr ru ⟨p,a,b⟩=>⟨p,k _ _ a,k _ _ b⟩
def bJ.same {H H':Hp}{rs:List Addr}{aa:List ay}(h:bJ K H rs aa)(s:aC H H'):bJ K H' rs aa:=h.keep λ_ _ z=>s.tup z
def bJ.get {H:Hp}{rs:List Addr}{aa:List ay}(h:bJ K H rs aa){i:Nat}{r:Addr}(e:rs[i]?=some r):∃ru,aa[i]?=some ru/\Bd K H r ru:=by
 have l:=bF h;have li:=(bo.mp e).1;have e2:aa[i]?=some (aa[i]'∅):=cZ ∅;obtain⟨x,e3,e4⟩:=Paired.at_ h i _ e2;rw [e] at e3;cases e3;exact⟨_,e2,e4⟩
def rg {H:Hp}{R D:Addr}{rs:List Addr}{aa:List ay}{σ:St}{Qp:Hp->Prop}(hR:aG K H R (rs.map V.ref))(cS:bJ K H rs aa)(a8:aa.length<=1000)(hD:H D=none)
  (q:∀ts H2,aC H H2->H2 D=some (.lst (ts.map V.ref))->Paired (λt h=>a9 K H2 t [.str h,.bl true]) ts (aa.map (·.1))->Qp H2) :
  ∃W:Nat->Nat->List V->St->Hp->Prop,(∃m,W 0 m [] (df ["head","parts"] [] σ) (upd H D (.lst []))) /\
 ∀i m ys σ' H,W i m ys σ' H->((iS K R).stop i H/\Qp H)\/((iS K R).go i H/\∃m',m' < m/\∀x H',(iS K R).kR i H x H'->Cj K 2 (jO (du 0) (jO (du 1) ET)) x σ' H' λσ2 H2=>g6 σ2 H2 λb H3 =>
  if b=true then rQ (fu (fk 0) (fu (tC (.bl true)) oZ)) σ2 H3 λy H4=>H4 D=some (.lst ys)/\ys.length < sizeLine/\W (i+1) m' (ys++[y]) σ2 (upd H4 D (.lst (ys++[y]))) else W (i+1) m' ys σ2 H3):=by
 have ll:=bF cS;refine bR (xs:=rs.map V.ref) (λi ys σ2 H2=>∃ts:List Addr,ys=ts.map V.ref/\ts.length=i/\Paired (λt h=>a9 K H2 t [.str h,.bl true]) ts ((aa.take i).map (·.1))/\(∃y0 y1,σ2=[y0,y1])/\aC H H2/\H2 D=some (.lst ys))
  ⟨[],rfl,rfl,.nil,⟨none,none,rfl⟩,ah hD _,ae⟩ (λi ys σ2 H2 _ h=>?_) (λi x ys σ2 H2 ex h=>?_) (λys σ2 H2 h=>?_)
 .obtain⟨_,_,_,_,_,sm,_⟩:=h;exact sm.seq hR
 .obtain⟨ts,rfl,ht,hp,⟨y0,y1,rfl⟩,sm,hd⟩:=h;rw [aZ] at ex;obtain⟨r,er,rfl⟩:=cf.mp ex;obtain⟨ru,e1,p,v1,v2⟩:=cS.get er;have li:=(bo.mp e1).1;refine⟨r,_,rfl,sm.tup v1,rfl,_,_,rfl,_,_,rfl,rfl,?_⟩;refine vq ?_;refine⟨_,rfl,qf,λt jk=>⟨?_,bQ (by rw [aB];omega),ts++[t],?_,?_,?_,⟨_,_,rfl⟩,?_,ae⟩⟩
  .rw [ai (au hd jk)];exact hd
  .rw [bI];rfl
  .rw [b9,ht];rfl
  .rw [cV,e1,bI];have gO:upd H2 t (.tup [.str ru.1,.bl true]) D=some (.lst (ts.map V.ref)):=by rw [ai (au hd jk)];exact hd
   exact ft (Paired.eF hp λt' h' z=>a7 gO ((ah jk _).tup z)) (a7 gO (a9.of ae))
  intro b o hb;rw [ai (λz=>by rw [z,hD] at hb;cases hb)];exact ah jk _ _ _ (sm b o hb)
 obtain⟨ts,rfl,ht,hp,_,sm,hd⟩:=h;rw [aB,ll,cE] at hp;exact q ts H2 sm hd hp
def jT (K:aV):Sp:=λvs H Q _=>∃(R:Addr)(rs:List Addr)(aa:List ay),vs=[.ref R]/\aG K H R (rs.map V.ref)/\bJ K H rs aa/\aa.length<=1000 /\
 ∀D H',H D=none->aC H H'->H' D=some (.lst ((pA [] (aa.map (·.1))).map V.str))->Q (.ref D) H'
def Gp:aH ["rules"] ["rules"] (av yB):=iw rfl rfl rfl rfl nofun
def Ef (F:gX K "heads_of" "heads_of" yB f fd)(T:Txt mg):ba P w K mg base fc 1 f fd ["rules"] (jT K):=by
 refine F.ok Gp (λvs H Q E h=>?_) (λdw A outer s H vs Q E hr h=>?_)
 .obtain⟨R,rs,aa,rfl,_⟩:=h;rfl
 obtain⟨R,rs,aa,rfl,hR,cS,a8,q⟩:=h;refine⟨_,ao (bu (bc (lG rfl) rfl T.lst eI (af (bc (dP rfl) rfl T.A4 fh (af
  (bK ["head","parts"] [] rfl (bx (pv 0)) (bh rfl rfl) nofun rfl nofun
   (λ_ _ _ _ _=>i5 (n:=2) K rfl (aE (aw (i:=0) (show (["head","parts"]:List Str).Nodup by decide +kernel) rfl (bM rfl)) (aE (aw (i:=1) (show (["head","parts"]:List Str).Nodup by decide +kernel) rfl (bM rfl)) cu))) (λ_ _ _ _ _=>bW)
   (λ_ _ _ _ _=>cJ (af (pv 0) (af fg ak)))) ak)) ak))),?_⟩
 dsimp only [zL];refine⟨_,rfl,R,rfl,⟨_,hR⟩,λD hD=>rg hR cS a8 hD λts H2 sm hd hp=>?_⟩;have kp:Paired (λt (kv:aJ×V)=>a9 K H2 t [kV kv.1,kv.2]) ts ((aa.map (·.1)).map λh=>((Sum.inr h:aJ),V.bl true)):=cA hp λ_ _ z=>z;refine⟨D,ts,_,rfl,hd,kp,λd hd2=>?_⟩;refine⟨d,_,rfl,ae,λD2 iP=>?_⟩;rw [keys_str (mK (aa.map (·.1)) [] [] rfl)];have nd:D2≠d:=λz=>by rw [z,ae] at iP;cases iP
 exact q D2 _ (sm.free (by rw [ai nd] at iP;exact iP)) (sm.trans ((ah hd2 _).trans (ah iP _))) ae
theorem iR:∀(aa:List ay) (n:Nat),aa.length<=n->(∀ru∈aa,ru.2.length<=8)->(aa.flatMap (·.2)).length<=8 * n
 | [],n,_,_=>by simp
 | ru::r,n,hl,h=>by
  rw [dC] at hl;have:=iR r (n - 1) ∅ λx hx=>h x (bS _ hx);have:=h ru bX;rw [List.flatMap_cons,b9];omega
def hd (aa:List ay):List Str:=pA [] (aa.map (·.1))
def Ag (K:aV):Sp:=λvs H Q _=>∃(R:Addr)(rs:List Addr)(aa:List ay),vs=[.ref R]/\aG K H R (rs.map V.ref)/\bJ K H rs aa/\aa.length<=1000/\(∀ru∈aa,ru.2.length<=8) /\
 ∀D H',H D=none->aC H H'->H' D=some (.lst ((rM (hd aa) [] (aa.flatMap (·.2))).map V.str))->Q (.ref D) H'
def jU:aH ["rules","heads","words","head","parts","part"] ["rules"] (av yo):=iw rfl rfl rfl rfl nofun
def DU (F:gX K "words_in" "words_in" yo f fd)(T:Txt mg):ba P w K mg base fc 1 f fd ["rules"] (Ag K):=by
 refine F.ok jU (λvs H Q E h=>?_) (λdw A outer s H vs Q E hr h=>?_)
 .obtain⟨R,rs,aa,rfl,_⟩:=h;rfl
 obtain⟨R,rs,aa,rfl,hR,cS,a8,h8,q⟩:=h;have hu:=fX hr;refine⟨_,aj (aF (i:=1) jU.nd rfl (bM rfl) (bc (dP rfl) rfl T.A4 fh (af
  (bK ["head","parts"] [] rfl (bx (pv 0)) (bh rfl rfl) nofun rfl nofun
   (λ_ _ _ _ _=>i5 (n:=2) K rfl (aE (aw (i:=0) (show (["head","parts"]:List Str).Nodup by decide +kernel) rfl (bM rfl)) (aE (aw (i:=1) (show (["head","parts"]:List Str).Nodup by decide +kernel) rfl (bM rfl)) cu))) (λ_ _ _ _ _=>bW)
   (λ_ _ _ _ _=>cJ (af (pv 0) (af fg ak)))) ak)))
  (aj (aF (i:=2) jU.nd rfl (bM rfl) gA)
  (aj (b_ cD rfl (bx (pv 0)) (eZ rfl (aE (aw (i:=3) jU.nd rfl (bM rfl)) (aE (aw (i:=4) jU.nd rfl (bM rfl)) cu)))
   (ao (b_ cD rfl (g9 (pv 4)) (aw (i:=5) jU.nd rfl (bM rfl))
    (ao (cN (fq (dY hu (pv 5) (pv 1))) (ao (ib hu (pv 2) (pv 5) fg rfl)) bw)))))
  (ao (bu (bc (lG rfl) rfl T.lst eI (af (pv 2) ak)))))),?_⟩
 nofun
 refine⟨_,rfl,R,rfl,⟨_,hR⟩,λD hD=>rg hR cS a8 hD λts H2 sm hd2 hp=>?_⟩;have kp:Paired (λt (kv:aJ×V)=>a9 K H2 t [kV kv.1,kv.2]) ts ((aa.map (·.1)).map λh=>((Sum.inr h:aJ),V.bl true)):=cA hp λ_ _ z=>z;refine⟨D,ts,_,rfl,hd2,kp,λd hdd=>?_⟩;have IH:(cO ((aa.map (·.1)).map λh=>((Sum.inr h:aJ),V.bl true)) []).map (·.1)=(hd aa).map Sum.inr:=mK (aa.map (·.1)) [] [] rfl;generalize cO ((aa.map (·.1)).map λh=>((Sum.inr h:aJ),V.bl true)) []=kH at IH ⊢;have Mq:=sm.trans (ah hdd (.dK kH));have gO:upd H2 d (.dK kH) d=some (.dK kH):=ae;generalize upd H2 d (.dK kH)=H3 at Mq gO;intro e he;have hde:∀o,upd H3 e o d=some (.dK kH):=λo=>by rw [ai (au gO he)];exact gO
 have As:∀o,aC H (upd H3 e o):=λo=>Mq.trans (ah he o);have ll:=bF cS
 let sf:rP:=λi σ H5=>∃(kvs:List (aJ×V))(y3 y4 y5:Option V),σ=[br R,br d,br e,y3,y4,y5]/\H5=upd H3 e (.dK kvs) /\
  kvs.map (·.1)=(rM (hd aa) [] ((aa.take i).flatMap (·.2))).map Sum.inr
 refine⟨_,rfl,R,rfl,⟨_,(As _).seq hR⟩,dX (xs:=rs.map V.ref) sf ⟨[],none,none,none,rfl,rfl,rfl⟩ ?_ ?_ ?_⟩
 .rintro i σ H5 _ ⟨kvs,y3,y4,y5,rfl,rfl,_⟩;exact(As _).seq hR
 .rintro i x σ H5 ex ⟨kvs,y3,y4,y5,rfl,rfl,hk⟩
  ac_nf0
  rw [aZ] at ex;obtain⟨r,er,rfl⟩:=cf.mp ex;obtain⟨ru,e1,p,v1,v2⟩:=cS.get er;have li:=(bo.mp e1).1;have MV:=h8 ru (cb e1);have eT:(aa.take (i+1)).flatMap (·.2)=(aa.take i).flatMap (·.2)++ru.2:=by
   rw [cV,e1,List.flatMap_append];simp
  have lA:((aa.take i).flatMap (·.2)).length<=8 * i:=iR (aa.take i) i (by rw [c_];omega) λru gG=>h8 ru (lY gG);refine⟨r,_,rfl,(As _).tup v1,rfl,_,_,rfl,_,_,rfl,rfl,?_⟩
  let zX:rP:=λj σ H6=>∃(kvs:List (aJ×V))(y5:Option V),σ=[br R,br d,br e,some (.str ru.1),br p,y5]/\H6=upd H3 e (.dK kvs) /\
   kvs.map (·.1)=(rM (hd aa) [] ((aa.take i).flatMap (·.2)++ru.2.take j)).map Sum.inr
  refine⟨_,rfl,p,rfl,⟨_,(As _).tup v2⟩,AW (xs:=ru.2.map V.str) zX ⟨kvs,_,rfl,rfl,by rw [List.take_zero,fV];exact hk⟩ ?_ ?_ ?_⟩
  .rintro j σ H6 _ ⟨kvs,y5,rfl,rfl,_⟩;exact(As _).tup v2
  .rintro j x σ H6 AZ ⟨kvs,y5,rfl,rfl,zx⟩
   ac_nf0
   rw [aZ] at AZ;obtain⟨z,ez,rfl⟩:=cf.mp AZ;have lj:=(bo.mp ez).1;have eS:rM (hd aa) [] ((aa.take i).flatMap (·.2)++ru.2.take (j+1))=addW (hd aa) (rM (hd aa) [] ((aa.take i).flatMap (·.2)++ru.2.take j)) z:=by
    rw [cV,ez,<-oB];exact List.foldl_append
   have lk:kvs.length<=8 * i+8:=by
    have h1:kvs.length=(rM (hd aa) [] ((aa.take i).flatMap (·.2)++ru.2.take j)).length:=by
     have:=congrArg List.length zx;rw [aB,aB] at this;exact this
    have h2:=uG (hd aa) ((aa.take i).flatMap (·.2)++ru.2.take j) [];rw [b9,c_] at h2;simp only [iC] at h2;omega
   have mem:(a_ kH (Sum.inr z)).isSome=true↔z∈hd aa:=by rw [d8,IH];exact cH
   refine⟨_,rfl,_,rfl,d,_,rfl,cm.k (k:=Sum.inr z) (hde _),_,rfl,?_⟩;refine dJ (λc=>?_) (λc=>?_)
   .have nm:z∉hd aa:=λh=>by rw [mem.mpr h] at c;exact absurd c nofun
    refine⟨_,rfl,_,rfl,e,_,rfl,oz.k (k:=Sum.inr z) ae (bQ ∅),?_⟩;refine⟨bC kvs (Sum.inr z) (.bl true),_,rfl,by rw [jS],?_⟩;rw [eS];unfold addW;rw [aA nm];exact jM zx z
   have im:z∈hd aa:=mem.mp (by
    cases h:(a_ kH (Sum.inr z)).isSome with
    | true=>rfl
    | false=>exact absurd (by rw [h];rfl) c)
   refine⟨kvs,_,rfl,rfl,?_⟩;rw [eS];unfold addW;rw [az im];exact zx
  rintro σ H6 ⟨kvs,y5,rfl,rfl,zx⟩;rw [aB,cE,<-eT] at zx;exact⟨kvs,_,_,_,rfl,rfl,zx⟩
 rintro σ H5 ⟨kvs,y3,y4,y5,rfl,rfl,hk⟩;rw [aB,ll,cE] at hk;refine⟨_,rfl,e,_,rfl,ae,λD2 iP=>?_⟩;rw [keys_str hk];exact q D2 _ ((As _).free iP) ((As _).trans (ah iP _)) ae
end
end eX
namespace L2
open PySem
section
variable {K:aV}{a D:Addr}{xs:List V}{ts:List Str}{js:List (Nat×Str)}{g:TG}{tif:TT}{te:TE}{R:Hp->Prop}{σ:St}{H:Hp}
def gW (Pv:Nat->List V->St->Hp->Prop)(h0:Pv 0 [] (df ts js σ) (upd H D (.lst [])))(hl:∀i ys σ H,i<=xs.length->Pv i ys σ H->a9 K H a xs)
  (hs:∀i x ys σ H,xs[i]?=some x->Pv i ys σ H->g x σ H λσ2 H2=>tif σ2 H2 λb H3=>if b=true then te σ2 H3 λy H4=>H4 D=some (.lst ys)/\ys.length < sizeLine/\Pv (i+1) (ys++[y]) σ2 (upd H4 D (.lst (ys++[y]))) else Pv (i+1) ys σ2 H3)
  (hd:∀ys σ H,Pv xs.length ys σ H->R H) :
  ∃W:Nat->Nat->List V->St->Hp->Prop,(∃m,W 0 m [] (df ts js σ) (upd H D (.lst []))) /\
 ∀i m ys σ' H,W i m ys σ' H->((oW K a).stop i H/\R H)\/((oW K a).go i H/\∃m',m' < m/\∀x H',(oW K a).kR i H x H'->g x σ' H' λσ2 H2=>tif σ2 H2 λb H3 =>
  if b=true then te σ2 H3 λy H4=>H4 D=some (.lst ys)/\ys.length < sizeLine/\W (i+1) m' (ys++[y]) σ2 (upd H4 D (.lst (ys++[y]))) else W (i+1) m' ys σ2 H3):=by
 refine⟨λi m ys σ H=>m=xs.length - i/\i<=xs.length/\Pv i ys σ H,⟨xs.length,by simp,fR _,h0⟩,?_⟩;rintro i m ys σ' H ⟨rfl,hi,p⟩;have q:=hl i ys σ' H hi p;by_cases hV:i < xs.length
 .refine .inr ⟨⟨xs,xs[i],q,by simp [hV]⟩,xs.length - (i+1),∅,λx H' y=>?_⟩;obtain⟨e,y⟩:=y;subst e;have z:=hs i x ys σ' _ (y xs q) p;have h1:(i+1<=xs.length)=True:=eq_true hV;simp only [h1,true_and];exact z
 have e:i=xs.length:=by omega
 subst e;exact .inl ⟨⟨xs,q,aI _⟩,hd ys σ' H p⟩
def xx (Pv:Nat->List V->St->Hp->Prop)(h0:Pv 0 [] (df ts js σ) (upd H D (.lst [])))(hl:∀i ys σ H,i<=xs.length->Pv i ys σ H->a9 K H a xs)
  (hs:∀i x ys σ H t,xs[i]?=some x->Pv i ys σ H->H t=none->g (.ref t) σ (upd H t (.tup [.int (i:Int),x])) λσ2 H2=>tif σ2 H2 λb H3=>if b=true then te σ2 H3 λy H4=>H4 D=some (.lst ys)/\ys.length < sizeLine/\Pv (i+1) (ys++[y]) σ2 (upd H4 D (.lst (ys++[y]))) else Pv (i+1) ys σ2 H3)
  (hd:∀ys σ H,Pv xs.length ys σ H->R H) :
  ∃W:Nat->Nat->List V->St->Hp->Prop,(∃m,W 0 m [] (df ts js σ) (upd H D (.lst []))) /\
 ∀i m ys σ' H,W i m ys σ' H->((rE K a).stop i H/\R H)\/((rE K a).go i H/\∃m',m' < m/\∀x H',(rE K a).kR i H x H'->g x σ' H' λσ2 H2=>tif σ2 H2 λb H3 =>
  if b=true then te σ2 H3 λy H4=>H4 D=some (.lst ys)/\ys.length < sizeLine/\W (i+1) m' (ys++[y]) σ2 (upd H4 D (.lst (ys++[y]))) else W (i+1) m' ys σ2 H3):=by
 refine⟨λi m ys σ H=>m=xs.length - i/\i<=xs.length/\Pv i ys σ H,⟨xs.length,by simp,fR _,h0⟩,?_⟩;rintro i m ys σ' H ⟨rfl,hi,p⟩;have q:=hl i ys σ' H hi p;by_cases hV:i < xs.length
 .refine .inr ⟨⟨xs,xs[i],q,by simp [hV]⟩,xs.length - (i+1),∅,λx H' y=>?_⟩;obtain⟨t,y0,rfl,ht,rfl,y⟩:=y;have z:=hs i y0 ys σ' _ t (y xs q) p ht;have h1:(i+1<=xs.length)=True:=eq_true hV;simp only [h1,true_and];exact z
 have e:i=xs.length:=by omega
 subst e;exact .inl ⟨⟨xs,q,aI _⟩,hd ys σ' H p⟩
end
def jQ {K:aV}{a:Addr}{xs:List V}{g:TG}{tb:TS}{D:Ends}{σ:St}{H:Hp}(Pv:Nat->St->Hp->Prop)(h0:Pv 0 σ H)(hl:∀i σ H,i<=xs.length->Pv i σ H->aG K H a xs)
  (hs:∀i x σ H t,xs[i]?=some x->Pv i σ H->H t=none->g (.ref t) σ (upd H t (.tup [.int (i:Int),x])) λσ2 H2=>tb { D with nx:=Pv (i+1),ct:=Pv (i+1),bk:=D.nx } σ2 H2)(hd:∀σ H,Pv xs.length σ H->D.nx σ H) :
  ∃W:Nat->Nat->St->Hp->Prop,(∃m,W 0 m σ H)/\∀i m σ H,W i m σ H ->
   ((Qo K a).stop i H/\D.nx σ H)\/((Qo K a).go i H/\∃N:St->Hp->Prop,(∀σ' H',N σ' H'->∃m',m' < m/\W (i+1) m' σ' H')/\∀x H',(Qo K a).kR i H x H'->g x σ H' λσ2 H2=>tb { D with nx:=N,ct:=N,bk:=D.nx } σ2 H2):=by
 refine⟨λi m σ H=>m=xs.length - i/\i<=xs.length/\Pv i σ H,⟨xs.length,by simp,fR _,h0⟩,?_⟩;rintro i m σ H ⟨rfl,hi,p⟩;have q:=hl i σ H hi p;by_cases hV:i < xs.length
 .refine .inr ⟨⟨xs,xs[i],q,by simp [hV]⟩,Pv (i+1),λσ' H' p'=>⟨xs.length - (i+1),∅,rfl,hV,p'⟩,λx H' y=>?_⟩;obtain⟨t,y0,rfl,ht,rfl,y⟩:=y;exact hs i y0 σ _ t (y xs q) p ht
 have e:i=xs.length:=by omega
 subst e;exact .inl ⟨⟨xs,q,aI _⟩,hd σ H p⟩
def ot {K:aV}{a:Addr}{xs:List V}{g:TG}{tb:TS}{D:Ends}{σ:St}{H:Hp}(Pv:Nat->St->Hp->Prop)(h0:Pv 0 σ H)(hl:∀i σ H,i<=xs.length->Pv i σ H->a9 K H a xs)
  (hs:∀i x σ H t,xs[i]?=some x->Pv i σ H->H t=none->g (.ref t) σ (upd H t (.tup [.int (i:Int),x])) λσ2 H2=>tb { D with nx:=Pv (i+1),ct:=Pv (i+1),bk:=D.nx } σ2 H2)(hd:∀σ H,Pv xs.length σ H->D.nx σ H) :
  ∃W:Nat->Nat->St->Hp->Prop,(∃m,W 0 m σ H)/\∀i m σ H,W i m σ H ->
   ((rE K a).stop i H/\D.nx σ H)\/((rE K a).go i H/\∃N:St->Hp->Prop,(∀σ' H',N σ' H'->∃m',m' < m/\W (i+1) m' σ' H')/\∀x H',(rE K a).kR i H x H'->g x σ H' λσ2 H2=>tb { D with nx:=N,ct:=N,bk:=D.nx } σ2 H2):=by
 refine⟨λi m σ H=>m=xs.length - i/\i<=xs.length/\Pv i σ H,⟨xs.length,by simp,fR _,h0⟩,?_⟩;rintro i m σ H ⟨rfl,hi,p⟩;have q:=hl i σ H hi p;by_cases hV:i < xs.length
 .refine .inr ⟨⟨xs,xs[i],q,by simp [hV]⟩,Pv (i+1),λσ' H' p'=>⟨xs.length - (i+1),∅,rfl,hV,p'⟩,λx H' y=>?_⟩;obtain⟨t,y0,rfl,ht,rfl,y⟩:=y;exact hs i y0 σ _ t (y xs q) p ht
 have e:i=xs.length:=by omega
 subst e;exact .inl ⟨⟨xs,q,aI _⟩,hd σ H p⟩
def tN {K:aV}{H:Hp}{p D d:Addr}{zs:List Str}{kvs:List (aJ×V)}{σ:St}{js:List (Nat×Str)}{Qp:Hp->Prop}(hσ:df ["part"] js σ=[none,br d])(hp:a9 K H p (zs.map V.str))(hz:zs.length<=1000)
  (hd:H d=some (.dK kvs))(hD:H D=none)(q:∀H2,aC H H2->H2 D=some (.lst ((zs.map λz=>(a_ kvs (Sum.inr z)).isSome).map V.bl))->Qp H2) :
  ∃W:Nat->Nat->List V->St->Hp->Prop,(∃m,W 0 m [] (df ["part"] js σ) (upd H D (.lst []))) /\
 ∀i m ys σ' H,W i m ys σ' H->((oW K p).stop i H/\Qp H)\/((oW K p).go i H/\∃m',m' < m/\∀x H',(oW K p).kR i H x H'->du 0 x σ' H' λσ2 H2=>g6 σ2 H2 λb H3 =>
  if b=true then NI (fk 0) (fk 1) σ2 H3 λy H4=>H4 D=some (.lst ys)/\ys.length < sizeLine/\W (i+1) m' (ys++[y]) σ2 (upd H4 D (.lst (ys++[y]))) else W (i+1) m' ys σ2 H3):=by
 refine gW (xs:=zs.map V.str) (λi ys σ2 H2=>ys=(((zs.take i).map λz=>(a_ kvs (Sum.inr z)).isSome).map V.bl)/\(∃y0,σ2=[y0,br d])/\aC H H2/\H2 D=some (.lst ys))
  ⟨rfl,⟨none,hσ⟩,ah hD _,ae⟩ (λi ys σ2 H2 _ h=>h.2.2.1.tup hp) (λi x ys σ2 H2 ex h=>?_) (λys σ2 H2 h=>?_)
 .obtain⟨rfl,⟨y0,rfl⟩,sm,hd2⟩:=h;rw [aZ] at ex;obtain⟨z,ez,rfl⟩:=cf.mp ex;have li:=(bo.mp ez).1;refine goN (vq ?_);refine⟨_,rfl,_,rfl,d,_,rfl,cm.k (k:=Sum.inr z) (sm _ _ hd),hd2,bQ (by rw [aB,aB,c_];omega),?_,⟨_,rfl⟩,?_,ae⟩
  .rw [cV,ez,bI,bI];rfl
  intro b o hb;rw [ai (λz=>by rw [z,hD] at hb;cases hb)];exact sm b o hb
 obtain⟨rfl,_,sm,hd2⟩:=h;rw [aB,cE] at hd2;exact q H2 sm hd2
def eC {K:aV}{H:Hp}{D a:Addr}{xs:List V}{ys:List (aJ×V)}{o:HO}(hD:H D=some (.dK ys))(h:a9 K H a xs):a9 K (upd H D o) a xs:=by
 rcases h with (h | ⟨u,h⟩) | h
 .exact .inl (.inl (by rw [ai (λz=>by rw [z,hD] at h;cases h)];exact h))
 .exact .inl (.inr ⟨u,by rw [ai (λz=>by rw [z,hD] at h;cases h)];exact h⟩)
 exact .inr h
theorem eM {α:Type} [DecidableEq α]:∀(l m:List α),l.Nodup->(∀x∈l,x∈m)->l.length<=m.length
 | [],m,_,_=>fR _
 | a::l,m,hn,h=>by
  have hm:=h a bX;have:=eM l (m.erase a) (jr.mp hn).2 λx hx=>(List.mem_erase_of_ne (λz:x=a=>(jr.mp hn).1 (by rw [<-z];exact hx))).mpr (h x (bS _ hx));rw [List.length_erase_of_mem hm] at this;have:=List.length_pos_of_mem hm;rw [dC];omega
end L2
namespace M11
open PySem L2
inductive pD (aa:List ay):List (Str×Nat)->Prop
 | nil:pD aa []
 | snoc {aR:List (Str×Nat)}{k:Nat}{ru:ay}:pD aa aR->aa[k]?=some ru->ru.1∉aR.map (·.1)->(∀p∈ru.2,p∈aR.map (·.1))->pD aa (aR++[(ru.1,k)])
def lI (aa:List ay) (n:Nat)(aR:List (Str×Nat)):Prop:=∀ru∈aa.take n,(∀p∈ru.2,p∈aR.map (·.1))->ru.1∈aR.map (·.1)
def pD.nd {aa:List ay}{aR:List (Str×Nat)}(h:pD aa aR):(aR.map (·.1)).Nodup:=by
 induction h with
 | nil=>exact lP
 | snoc h e n p ih =>
  rw [bI];refine je.mpr ⟨ih,by simp,λa ha b hb=>?_⟩;rw [nV,bE] at hb;exact λz=>n (by rw [<-hb,<-z];exact ha)
def pD.head {aa:List ay}{aR:List (Str×Nat)}(h:pD aa aR):∀x∈aR.map (·.1),x∈aa.map (·.1):=by
 induction h with
 | nil=>simp
 | snoc h e n p ih =>
  intro x hx;rw [bI] at hx;rcases bq.mp hx with hx | hx
  .exact ih x hx
  rw [nV,bE] at hx;rw [hx];exact iE (cb e)
def pD.len {aa:List ay}{aR:List (Str×Nat)}(h:pD aa aR):aR.length<=aa.length:=by
 have:=eM _ _ h.nd h.head;rw [aB,aB] at this;exact this
end M11
namespace eX
open PySem L2 M11
section
def ow (K:aV)(H:Hp)(ts:List Addr)(aR:List (Str×Nat)):Prop:=Paired (λt (e:Str×Nat)=>a9 K H t [.str e.1,.int (e.2:Int)]) ts aR
def ow.keep {H H':Hp}{ts:List Addr}{aR:List (Str×Nat)}(h:ow K H ts aR)(k:∀a xs,a9 K H a xs->a9 K H' a xs):ow K H' ts aR:=Paired.eF h λt e z=>k _ _ z
structure Bh (K:aV)(aa:List ay)(H H5:Hp)(D d:Addr)(ts:List Addr)(aR:List (Str×Nat))(kvs:List (aJ×V)):Prop where
 sm:aC H H5
 hD:H5 D=some (.lst (ts.map V.ref))
 hd:H5 d=some (.dK kvs)
 keys:kvs.map (·.1)=(aR.map (·.1)).map Sum.inr
 ev:ow K H5 ts aR
 emp:pD aa aR
def Bh.same {aa:List ay}{H H5 H6:Hp}{D d:Addr}{ts:List Addr}{aR:List (Str×Nat)}{kvs:List (aJ×V)}(h:Bh K aa H H5 D d ts aR kvs)(s:aC H5 H6):Bh K aa H H6 D d ts aR kvs :=
 ⟨h.sm.trans s,s _ _ h.hD,s _ _ h.hd,h.keys,h.ev.keep λ_ _ z=>s.tup z,h.emp⟩
def Bh.mem {aa:List ay}{H H5:Hp}{D d:Addr}{ts:List Addr}{aR:List (Str×Nat)}{kvs:List (aJ×V)}(h:Bh K aa H H5 D d ts aR kvs)(z:Str):(a_ kvs (Sum.inr z)).isSome=true↔z∈aR.map (·.1):=by
 rw [d8,h.keys];exact cH
def Bh.len {aa:List ay}{H H5:Hp}{D d:Addr}{ts:List Addr}{aR:List (Str×Nat)}{kvs:List (aJ×V)}(h:Bh K aa H H5 D d ts aR kvs):ts.length=aR.length/\kvs.length=aR.length:=by
 refine⟨bF h.ev,?_⟩;have:=congrArg List.length h.keys;simpa using this
def Bh.more {aa:List ay}{H H5:Hp}{D d t:Addr}{ts:List Addr}{aR:List (Str×Nat)}{kvs:List (aJ×V)}(h:Bh K aa H H5 D d ts aR kvs)(fD:H D=none)(fd:H d=none){k:Nat}{ru:ay}(e:aa[k]?=some ru)
  (n:ru.1∉aR.map (·.1))(p:∀x∈ru.2,x∈aR.map (·.1))(ht:upd H5 d (.dK (bC kvs (Sum.inr ru.1) (.bl true))) t=none) :
  Bh K aa H (upd (upd (upd H5 d (.dK (bC kvs (Sum.inr ru.1) (.bl true)))) t (.tup [.str ru.1,.int (k:Int)])) D (.lst (ts.map V.ref++[.ref t]))) D d (ts++[t]) (aR++[(ru.1,k)]) (bC kvs (Sum.inr ru.1) (.bl true)):=by
 have WY:D≠d:=λz=>by have:=h.hD;rw [z,h.hd] at this;cases this
 have nt:t≠d:=λz=>by rw [z,ae] at ht;cases ht
 have OL:H5 t=none:=by rw [ai nt] at ht;exact ht
 have Z3:D≠t:=λz=>by rw [<-z,h.hD] at OL;cases OL
 have iP:upd (upd H5 d (.dK (bC kvs (Sum.inr ru.1) (.bl true)))) t (.tup [.str ru.1,.int (k:Int)]) D=some (.lst (ts.map V.ref)):=by rw [ai Z3,ai WY];exact h.hD
 have kp:∀a xs,a9 K H5 a xs->a9 K (upd (upd (upd H5 d (.dK (bC kvs (Sum.inr ru.1) (.bl true)))) t (.tup [.str ru.1,.int (k:Int)])) D (.lst (ts.map V.ref++[.ref t]))) a xs:=λa xs z =>
  a7 iP ((ah ht _).tup (eC h.hd z))
 refine⟨λb o hb=>?_,by rw [ae,bI];rfl,by rw [ai WY.symm,ai nt.symm,ae],?_,ft (h.ev.keep kp) (a7 iP (a9.of ae)),.snoc h.emp e n p⟩
 .have:=h.sm b o hb;rw [ai (λz=>by rw [z,fD] at hb;cases hb),ai (λz=>by rw [z,OL] at this;cases this),ai (λz=>by rw [z,fd] at hb;cases hb)];exact this
 rw [gQ (by rw [h.keys];exact λz=>n (cH.mp z)),h.keys,bI,bI];rfl
def nZ (K:aV):Sp:=λvs H Q _=>∃(R:Addr)(rs:List Addr)(aa:List ay),vs=[.ref R]/\aG K H R (rs.map V.ref)/\bJ K H rs aa/\aa.length<=1000/\(∀ru∈aa,ru.2.length<=8) /\
 ∀D ts aR H',H D=none->aC H H'->H' D=some (.lst (ts.map V.ref))->ow K H' ts aR->pD aa aR->lI aa aa.length aR->Q (.ref D) H'
def fZ:aH ["rules","told","empty","many","number","rule"] ["rules"] (av qt):=iw rfl rfl rfl rfl nofun
def yZ (F:gX K "found_empties" "found_empties" qt f fd)(T:Txt mg):ba P w K mg base fc 1 f fd ["rules"] (nZ K):=by
 refine F.ok fZ (λvs H Q E h=>?_) (λdw A outer s H vs Q E hr h=>?_)
 .obtain⟨R,rs,aa,rfl,_⟩:=h;rfl
 obtain⟨R,rs,aa,rfl,hR,cS,a8,h8,q⟩:=h;have hu:=fX hr;refine⟨_,aj (aF (i:=1) fZ.nd rfl (bM rfl) (cK ak))
  (aj (aF (i:=2) fZ.nd rfl (Or.inr rfl) gA)
  (aj (aF (i:=3) fZ.nd rfl (bM rfl) (Iy C1 aq))
  (aj (jJ cD (cx mI (pv 3) (aN aQ rfl T.len d5 (af (pv 1) ak)) (dq _))
   (aj (aF (i:=3) fZ.nd rfl (bM rfl) (aN aQ rfl T.len d5 (af (pv 1) ak)))
   (ao (b_ cD rfl (mD rfl T.HE (af (pv 0) ak)) (eZ rfl (aE (aw (i:=4) fZ.nd rfl (bM rfl)) (aE (aw (i:=5) fZ.nd rfl (bM rfl)) cu)))
    (ao (cN (PW.pt (u5 (fq (dY hu (aP bL (pv 5) aq (λ_ _=>rfl)) (pv 2)))
      (pI (eY (aN (j3 rfl) rfl T.all boot_all (af (bK ["part"] [(2,"empty")] rfl (g9 (aP bL (pv 5) aq (λ_ _=>rfl))) (bh rfl rfl) nofun rfl nofun
       (λ_ _ _ _ _=>aw (i:=0) (show (["part","empty"]:List Str).Nodup by decide +kernel) rfl (bM rfl)) (λ_ _ _ _ _=>bW) (λ_ _ _ _ _=>DQ (n_ hu (pv 0) (pv 1)))) ak))))))
     (aj (ib hu (pv 2) (aP bL (pv 5) aq (λ_ _=>rfl)) fg rfl)
     (ao (cP (iK jf jw jx cT (pv 1) (af (cJ (af (aP bL (pv 5) aq (λ_ _=>rfl)) (af (pv 4) ak))) ak))))) bw))))))
  (ao (bu (pv 1)))))),?_⟩
 nofun
 refine⟨xM,λD hD d hd=>?_⟩;have WX:d≠D:=λz=>by rw [z,ae] at hd;cases hd
 have pb:H d=none:=by rw [ai WX] at hd;exact hd
 have e0:Bh K aa H (upd (upd H D (.lst [])) d (.dK [])) D d [] [] []:=⟨(ah hD _).trans (ah hd _),by rw [ai WX.symm,ae];rfl,ae,rfl,.nil,.nil⟩;generalize upd (upd H D (.lst [])) d (.dK [])=H0 at e0;refine⟨1,rfl,?_⟩;refine⟨λm σ H5=>∃(ts:List Addr)(aR:List (Str×Nat))(kvs:List (aJ×V)) (many:Int)(y4 y5:Option V),σ=[br R,br D,br d,some (.int many),y4,y5]/\Bh K aa H H5 D d ts aR kvs/\-1<=many/\many<=aR.length/\(many=aR.length->lI aa aa.length aR)/\(m:Int)=aa.length+1 - many,
  ⟨aa.length+2,[],[],[],-1,none,none,rfl,e0,∅,by simp,by simp,by simp;omega⟩,?_⟩
 rintro m σ H5 ⟨ts,aR,kvs,many,y4,y5,rfl,S,b1,b2,cl,em⟩;obtain⟨lt,lk⟩:=S.len;refine⟨_,rfl,_,rfl,D,_,rfl,.inl (aG.of S.hD),_,_,rfl,rfl,_,rfl,?_⟩;refine dJ (λc=>?_) (λc=>?_)
 .have c':=d6 c;rw [aB,lt] at c';refine⟨λσ H5=>∃(kr:List Addr)(gS:List (Str×Nat))(eP:List (aJ×V))(y4 y5:Option V),σ=[br R,br D,br d,some (.int (aR.length:Int)),y4,y5]/\Bh K aa H H5 D d kr gS eP/\aR.length<=gS.length/\(gS.length=aR.length->lI aa aa.length gS),?_,?_⟩
  .rintro σ H6 ⟨kr,gS,eP,y4,y5,rfl,S2,l2,c2⟩;have:=S2.emp.len;exact⟨(aa.length+1 - aR.length:Int).toNat,∅,kr,gS,eP,_,_,_,rfl,S2,∅,∅,λz=>c2 ∅,∅⟩
  refine⟨_,rfl,D,_,rfl,.inl (aG.of S.hD),?_⟩;rw [aB,lt];refine⟨_,rfl,R,_,rfl,S.sm.seq hR,?_⟩;refine jQ (xs:=rs.map V.ref) (λi σ H6=>∃(kr:List Addr)(gS:List (Str×Nat))(eP:List (aJ×V))(y4 y5:Option V),σ=[br R,br D,br d,some (.int (aR.length:Int)),y4,y5]/\Bh K aa H H6 D d kr gS eP/\aR.length<=gS.length/\(gS.length=aR.length->lI aa i gS))
   ⟨ts,aR,kvs,_,_,rfl,S,aI _,λ_ ru gG=>by simp at gG⟩ ?_ ?_ ?_
  .rintro i σ H6 _ ⟨kr,gS,eP,y4,y5,rfl,S2,_⟩;exact S2.sm.seq hR
  .rintro i x σ H6 t ex ⟨kr,gS,eP,y4,y5,rfl,S2,l2,c2⟩ ht
   ac_nf0
   rw [aZ] at ex;obtain⟨r,er,rfl⟩:=cf.mp ex;obtain⟨ru,e1,p,v1,v2⟩:=cS.get er;have MV:=h8 ru (cb e1);have S3:=S2.same (ah ht (.tup [.int (i:Int),.ref r]));have MJ:a9 K (upd H6 t (.tup [.int (i:Int),.ref r])) t [.int (i:Int),.ref r]:=a9.of ae;generalize upd H6 t (.tup [.int (i:Int),.ref r])=H7 at S3 MJ;obtain⟨lt2,QP⟩:=S3.len;have el2:=S3.emp.len;have tk:aa.take (i+1)=aa.take i++[ru]:=by rw [cV,e1];rfl
   have ip:(¬((∀p∈ru.2,p∈gS.map (·.1))/\ru.1∉gS.map (·.1)))->(gS.length=aR.length->lI aa (i+1) gS):=λhn z jW wQ hp=>by
    rw [tk] at wQ;rcases bq.mp wQ with h | h
    .exact c2 z jW h hp
    rw [bE.mp h] at hp ⊢;exact uB λhc=>hn ⟨hp,hc⟩
   refine⟨t,_,rfl,MJ,rfl,_,_,rfl,_,_,rfl,rfl,?_⟩;refine⟨_,rfl,r,_,_,_,rfl,rfl,S3.sm.tup v1,rfl,?_⟩;refine⟨_,rfl,d,_,rfl,cm.k (k:=Sum.inr ru.1) S3.hd,_,rfl,?_⟩;refine dJ (λc3=>?_) (λc3=>?_)
   .have nm:ru.1∉gS.map (·.1):=λh=>by rw [(S3.mem _).mpr h] at c3;exact absurd c3 nofun
    refine⟨_,rfl,r,_,_,_,rfl,rfl,S3.sm.tup v1,rfl,p,rfl,⟨_,S3.sm.tup v2⟩,λD2 iP=>tN rfl (S3.sm.tup v2) ∅ S3.hd iP λH8 Mp FO=>?_⟩;have S4:=S3.same Mp;refine⟨D2,_,rfl,aG.of FO,_,rfl,?_⟩;refine dJ (λc4=>?_) (λc4=>?_)
    .have al:∀x∈ru.2,x∈gS.map (·.1):=λx hx=>(S4.mem x).mp (fM.mp c4 _ (iE hx));refine⟨_,rfl,_,rfl,r,_,_,_,rfl,rfl,S4.sm.tup v1,rfl,d,_,rfl,oz.k (k:=Sum.inr ru.1) S4.hd (bQ ∅),?_⟩;have RQ:a9 K (upd H8 d (.dK (bC eP (Sum.inr ru.1) (.bl true)))) r [.str ru.1,.ref p]:=eC S4.hd (S4.sm.tup v1);have Lr:upd H8 d (.dK (bC eP (Sum.inr ru.1) (.bl true))) D=some (.lst (kr.map V.ref)):=by rw [ai (λz=>by have:=S4.hD;rw [z,S4.hd] at this;cases this)];exact S4.hD
     refine⟨_,rfl,.inl ⟨rfl,_,aG.of Lr⟩,_,rfl,r,_,_,_,rfl,rfl,RQ,rfl,_,rfl,qf,λt2 jk=>?_⟩;refine⟨D,_,_,rfl,rfl,(by rw [ai (au Lr jk)];exact Lr),bQ (by rw [aB];omega),?_⟩;have S5:=S4.more hD pb e1 nm al jk;exact⟨kr++[t2],gS++[(ru.1,i)],_,_,_,rfl,S5,by rw [b9];omega,λz=>by rw [b9] at z;simp at z;omega⟩
    refine⟨kr,gS,eP,_,_,rfl,S4,l2,ip λ⟨ha,_⟩=>c4 (fM.mpr λb hb=>?_)⟩;obtain⟨x,hx,rfl⟩:=cU.mp hb;exact(S4.mem x).mpr (ha x hx)
   refine⟨kr,gS,eP,_,_,rfl,S3,l2,ip λ⟨_,hn⟩=>c3 ?_⟩;cases hq:(a_ eP (Sum.inr ru.1)).isSome with
   | true=>exact absurd ((S3.mem _).mp hq) hn
   | false=>rfl
  rintro σ H6 ⟨kr,gS,eP,y4,y5,rfl,S2,l2,c2⟩;rw [aB,bF cS] at c2;exact⟨kr,gS,eP,_,_,rfl,S2,l2,c2⟩
 have c':=of_decide_eq_false (pS.mpr c);rw [aB,lt] at c';exact⟨_,rfl,q D ts aR H5 hD S.sm S.hD S.ev S.emp (cl ∅)⟩
end
end eX
namespace M11
open PySem L2
def Ck (b:Str->Bool):List Str->Nat
 | []=>0
 | z::r=>if b z=true then Ck b r+1 else 1
theorem AV (b:Str->Bool):∀zs:List Str,(∀z∈zs,b z=true)->Ck b zs=zs.length
 | [],_=>rfl
 | z::r,h=>by
  unfold Ck;rw [az (h z bX),AV b r λx hx=>h x (bS _ hx)];rfl
theorem EX (b:Str->Bool):∀(zs:List Str) (i:Nat)(z:Str),(∀x∈zs.take i,b x=true)->zs[i]?=some z->¬b z=true->Ck b zs=i+1
 | y::r,0,z,_,e,n=>by
  cases e;unfold Ck;rw [aA n]
 | y::r,i+1,z,h,e,n=>by
  unfold Ck;rw [az (h y (by rw [List.take_succ_cons];exact bX)),EX b r i z (λx hx=>h x (by rw [List.take_succ_cons];exact bS _ hx)) e n]
theorem EW (b:Str->Bool):∀zs:List Str,Ck b zs<=zs.length
 | []=>aI _
 | z::r=>by
  have:=EW b r;unfold Ck;rw [dC]
  split <;> omega
def cnt (n:Nat):List V:=(List.range n).map λk:Nat=>V.int (k:Int)
end M11
namespace eX
open PySem L2 M11
section
def Ai (K:aV):Sp:=λvs H Q _=>∃(R:Addr)(rs:List Addr)(aa:List ay),vs=[.ref R]/\aG K H R (rs.map V.ref)/\bJ K H rs aa/\aa.length<=1000/\(∀ru∈aa,ru.2.length<=8)/\(aa.flatMap (·.2)).Nodup /\
 ∀H',aC H H'->Q .dI H'
def mh:aH ["strengths","met","way","words","word"] ["strengths"] (av yr):=iw rfl rfl rfl rfl nofun
def DW (F:gX K "refuse_twice" "refuse_twice" yr f fd)(T:Txt mg):ba P w K mg base fc 1 f fd ["strengths"] (Ai K):=by
 refine F.ok mh (λvs H Q E h=>?_) (λdw A outer s H vs Q E hr h=>?_)
 .obtain⟨R,rs,aa,rfl,_⟩:=h;rfl
 obtain⟨R,rs,aa,rfl,hR,cS,a8,h8,MO,q⟩:=h;have hu:=fX hr;refine⟨_,aj (aF (i:=1) mh.nd rfl (bM rfl) gA)
  (ao (b_ cD rfl (bx (pv 0)) (eZ rfl (aE (aw (i:=2) mh.nd rfl (bM rfl)) (aE (aw (i:=3) mh.nd rfl (bM rfl)) cu)))
   (ao (b_ cD rfl (g9 (pv 3)) (aw (i:=4) mh.nd rfl (bM rfl))
    (aj (cN (fq (n_ hu (pv 4) (pv 1))) (ao qx) bw) (ao (ib hu (pv 1) (pv 4) fg rfl))))))),?_⟩
 nofun
 intro e he;have As:∀o,aC H (upd H e o):=λo=>ah he o;have ll:=bF cS
 let sf:rP:=λi σ H5=>∃(kvs:List (aJ×V))(y3 y4 y5:Option V),σ=[br R,br e,y3,y4,y5]/\H5=upd H e (.dK kvs) /\
  kvs.map (·.1)=((aa.take i).flatMap (·.2)).map Sum.inr
 refine⟨_,rfl,R,rfl,⟨_,(As _).seq hR⟩,dX (xs:=rs.map V.ref) sf ⟨[],none,none,none,rfl,rfl,rfl⟩ ?_ ?_ ?_⟩
 .rintro i σ H5 _ ⟨kvs,y3,y4,y5,rfl,rfl,_⟩;exact(As _).seq hR
 .rintro i x σ H5 ex ⟨kvs,y3,y4,y5,rfl,rfl,hk⟩
  ac_nf0
  rw [aZ] at ex;obtain⟨r,er,rfl⟩:=cf.mp ex;obtain⟨ru,e1,p,v1,v2⟩:=cS.get er;have li:=(bo.mp e1).1;have MV:=h8 ru (cb e1);have eT:(aa.take (i+1)).flatMap (·.2)=(aa.take i).flatMap (·.2)++ru.2:=by
   rw [cV,e1,List.flatMap_append];simp
  have lA:((aa.take i).flatMap (·.2)).length<=8 * i:=iR (aa.take i) i (by rw [c_];omega) λru gG=>h8 ru (lY gG);have El:((aa.take i).flatMap (·.2)++ru.2).Nodup:=by
   have e2:aa.flatMap (·.2)=((aa.take i).flatMap (·.2)++ru.2)++(aa.drop (i+1)).flatMap (·.2):=by
    rw [<-eT,<-List.flatMap_append,uv]
   rw [e2] at MO;exact(je.mp MO).1
  refine⟨r,_,rfl,(As _).tup v1,rfl,_,_,rfl,_,_,rfl,rfl,?_⟩
  let zX:rP:=λj σ H6=>∃(kvs:List (aJ×V))(y5:Option V),σ=[br R,br e,some (.str ru.1),br p,y5]/\H6=upd H e (.dK kvs) /\
   kvs.map (·.1)=((aa.take i).flatMap (·.2)++ru.2.take j).map Sum.inr
  refine⟨_,rfl,p,rfl,⟨_,(As _).tup v2⟩,AW (xs:=ru.2.map V.str) zX ⟨kvs,_,rfl,rfl,by rw [List.take_zero,fV];exact hk⟩ ?_ ?_ ?_⟩
  .rintro j σ H6 _ ⟨kvs,y5,rfl,rfl,_⟩;exact(As _).tup v2
  .rintro j x σ H6 AZ ⟨kvs,y5,rfl,rfl,zx⟩
   ac_nf0
   rw [aZ] at AZ;obtain⟨z,ez,rfl⟩:=cf.mp AZ;have lj:=(bo.mp ez).1;have eS:ru.2.take (j+1)=ru.2.take j++[z]:=by rw [cV,ez];rfl
   have lk:kvs.length<=8 * i+8:=by
    have h1:=congrArg List.length zx;rw [aB,aB,b9,c_] at h1;omega
   have nz:z∉(aa.take i).flatMap (·.2)++ru.2.take j:=λhz=>by
    have e3:(aa.take i).flatMap (·.2)++ru.2=((aa.take i).flatMap (·.2)++ru.2.take j)++([z]++ru.2.drop (j+1)):=by
     rw [oB,<-oB (ru.2.take j),<-eS,uv]
    rw [e3] at El;exact(je.mp El).2.2 z hz z (by simp) rfl
   have nk:¬(Sum.inr z:aJ)∈kvs.map (·.1):=by rw [zx];exact λh=>nz (cH.mp h)
   refine⟨_,rfl,_,rfl,e,_,rfl,cm.k (k:=Sum.inr z) ae,_,rfl,?_⟩;refine dJ (λc=>absurd ((d8 kvs _).mp c) nk) (λ_=>?_);refine⟨_,rfl,_,rfl,e,_,rfl,oz.k (k:=Sum.inr z) ae (bQ ∅),?_⟩;refine⟨bC kvs (Sum.inr z) (.bl true),_,rfl,by rw [jS],?_⟩;rw [gQ nk,zx,eS,<-oB];simp only [bI,bG,jy]
  rintro σ H6 ⟨kvs,y5,rfl,rfl,zx⟩;rw [aB,cE,<-eT] at zx;exact⟨kvs,_,_,_,rfl,rfl,zx⟩
 rintro σ H5 ⟨kvs,y3,y4,y5,rfl,rfl,hk⟩;exact q _ (As _)
def vY (K:aV):Sp:=λvs H Q _=>∃(p d:Addr) (zs:List Str)(kvs:List (aJ×V)),vs=[.ref p,.ref d]/\a9 K H p (zs.map V.str)/\zs.length<=1000/\H d=some (.dK kvs) /\
 ∀D H',H D=none->aC H H'->H' D=some (.lst (cnt (Ck (λz=>(a_ kvs (Sum.inr z)).isSome) zs)))->Q (.ref D) H'
def mi:aH ["parts","empty","places","place","part"] ["parts","empty"] (av uV):=iw rfl rfl rfl rfl nofun
def BJ (F:gX K "first_places" "first_places" uV f fd)(T:Txt mg):ba P w K mg base fc 1 f fd ["parts","empty"] (vY K):=by
 refine F.ok mi (λvs H Q E h=>?_) (λdw A outer s H vs Q E hr h=>?_)
 .obtain⟨p,d,zs,kvs,rfl,_⟩:=h;rfl
 obtain⟨p,d,zs,kvs,rfl,hp,hz,hd,q⟩:=h;have hu:=fX hr;refine⟨_,aj (aF (i:=2) mi.nd rfl (bM rfl) (cK ak))
  (aj (b_ cD rfl (mz rfl T.HE (af (pv 0) ak)) (eZ rfl (aE (aw (i:=3) mi.nd rfl (bM rfl)) (aE (aw (i:=4) mi.nd rfl (bM rfl)) cu)))
   (aj (cP (iK jf jw jx cT (pv 2) (af (pv 3) ak)))
   (ao (cN (fq (dY hu (pv 4) (pv 1))) (ao DF) bw))))
  (ao (bu (pv 2)))),?_⟩
 nofun
 refine⟨xM,λD hD=>?_⟩;have up1:∀n,cnt n++[V.int (n:Int)]=cnt (n+1):=λn=>by
  unfold cnt;rw [List.range_succ,bI];rfl
 refine⟨_,rfl,p,_,rfl,(ah hD _).tup hp,?_⟩
 let Qn:rP:=λi σ H5=>∃(y3 y4:Option V),σ=[br p,br d,br D,y3,y4]/\aC H H5/\H5 D=some (.lst (cnt i))/\∀z∈zs.take i,(a_ kvs (Sum.inr z)).isSome=true
 refine ot (xs:=zs.map V.str) Qn
  ⟨none,none,rfl,ah hD _,ae,by simp⟩ ?_ ?_ ?_
 .rintro i σ H5 _ ⟨y3,y4,rfl,sm,_⟩;exact sm.tup hp
 .rintro i x σ H5 t ex ⟨y3,y4,rfl,sm,Hr,pd⟩ ht
  ac_nf0
  rw [aZ] at ex;obtain⟨z,ez,rfl⟩:=cf.mp ex;have li:=(bo.mp ez).1;have uN:=sm.trans (ah ht (.tup [.int (i:Int),.str z]));have iP:upd H5 t (.tup [.int (i:Int),.str z]) D=some (.lst (cnt i)):=by rw [ai (au Hr ht)];exact Hr
  have hv:a9 K (upd H5 t (.tup [.int (i:Int),.str z])) t [.int (i:Int),.str z]:=a9.of ae;generalize upd H5 t (.tup [.int (i:Int),.str z])=H6 at uN iP hv;have Mq:aC H (upd H6 D (.lst (cnt i++[V.int (i:Int)]))):=λb o hb=>by
   rw [ai (λz=>by rw [z,hD] at hb;cases hb)];exact uN b o hb
  refine⟨t,_,rfl,hv,rfl,_,_,rfl,_,_,rfl,rfl,?_⟩;refine⟨_,rfl,.inl ⟨rfl,_,aG.of iP⟩,_,rfl,D,_,_,rfl,rfl,iP,bQ (by unfold cnt;rw [aB,ub];omega),?_⟩;refine⟨_,rfl,_,rfl,d,_,rfl,cm.k (k:=Sum.inr z) (Mq _ _ hd),_,rfl,?_⟩;refine dJ (λc=>?_) (λc=>?_)
  .refine⟨_,rfl,q D _ hD Mq ?_⟩;rw [ae,up1,EX _ zs i z pd ez (λh=>by rw [h] at c;exact absurd c nofun)]
  refine⟨_,_,rfl,Mq,by rw [ae,up1],λx hx=>?_⟩;rw [cV,ez] at hx;rcases bq.mp hx with h | h
  .exact pd x h
  rw [Option.toList_some,bE] at h;subst h;cases hq:(a_ kvs (Sum.inr x)).isSome with
  | true=>rfl
  | false=>exact absurd (by rw [hq];rfl) c
 rintro σ H5 ⟨y3,y4,rfl,sm,Hr,pd⟩;rw [aB] at Hr pd;rw [cE] at pd;exact⟨_,rfl,q D _ hD sm (by rw [AV _ zs pd];exact Hr)⟩
end
end eX
namespace L2
open PySem
section
variable {prog:Program}{w:World}{K:Type} [DecidableEq K] {knd:KeyKind prog w K}{A:Around}{E:Value->Shared->Prop}
def rY {s:Shared}{d l:Addr}{items:Array Value}{n:Nat}{kvs more:List (K×Value)}{Q:Value->Shared->Prop}(hh:A.handled=none)(pb:s.heap.DictOf knd d kvs)(hx:s.heap.get? l=some { cls:=.type "list",data:=.seq items n })
  (hi:items.size=more.length)(hp:∀(m:Nat) kv,more[m]?=some kv->∃u,items[m]?=some u/\lH knd s.heap u kv)(hz:kvs.length+more.length<=sizeLine)
  (h:∀h' t',h'.DictOf knd d (more.foldl (λa p=>stored a p.1 p.2) kvs)->(∀b o,b≠d->s.heap.get? b=some o->h'.get? b=some o)->Q .none { s with heap:=h',toks:=t' }) :
  wpAny (model prog w) A (call (.builtin "dict.update") [.ref d,.ref l]) Q E s:=by
 refine hX (pU ya.plain PySem.F.entry_dict_update (ya.check _ _ _ _ _ _ _ _ pb.typeIs (PySem.F.args_dict_update_2 _ _) ?_));unfold Builtin.«dict.update»;refine ax ?_;unfold Builtin.Dict.selfAndRest;refine ax (wpAny_notOrdered_dict pb.typeIs ?_);show wpAny _ _ (pure (d,[Value.ref l])) _ _ s;refine aD ?_;show wpAny _ _ (Builtin.Dict.updateFrom "dict.update" d (.ref l) [] .none) _ _ s;unfold Builtin.Dict.updateFrom;refine ax (ik (T := "list") ⟨_,hx,rfl⟩ ?_);rw [az yj];refine ax (oi hx hh λh1 t1 k1=>?_);refine ax (wpAny_rule ?_);have l1:=k1 _ _ hx;refine ax (kQ ⟨_,l1,rfl,_,rfl⟩ ?_);have k2:∀b o,s.heap.get? b=some o->(h1.push { cls:=.type "list_iterator",data:=.fields #[.ref l,.int 0 0] }).get? b=some o:=λb o q=>bD _ (k1 _ _ q);refine aD ⟨kb eJ _,E7 (knd:=knd) (A:=A) (l:=l) (items:=items) hh more 0 _ kvs _ _ (by rw [hi,kN]) ?_ ⟨_,cQ _ rfl,rfl,rfl⟩ ⟨_,k2 _ _ hx,rfl,n,rfl⟩ (λm kv e=>?_) hz λh' t' hd k3=>?_⟩
 .obtain⟨o,es,ep,q,r⟩:=pb;exact⟨o,es,ep,k2 _ _ q,r⟩
 .obtain⟨u,e1,e2⟩:=hp m kv e;exact⟨u,by rw [kN];exact e1,e2.keep λb o _ q=>k2 b o q⟩
 exact h h' t' hd λb o n q=>k3 b o n (bB (aW (k1 _ _ q))) (k2 b o q)
end
section
variable {X:Cx}{o e:Expr}{apos gE:Pos}{td ty:TE}
def NH (K:aV)(td ty:TE):TE:=λσ H Q=>td σ H λx H1=>∃a,x=.ref a/\RB H1 a/\ty σ H1 λy H2=>∃l ts kvs more,y=.ref l/\H2 a=some (.dK kvs)/\H2 l=some (.lst (ts.map V.ref)) /\
 Paired (λt kv=>a9 K H2 t [kV kv.1,kv.2]) ts more/\kvs.length+more.length<=sizeLine/\Q .dI (upd H2 a (.dK (cO more kvs)))
def GV (hc:X.calm=true)(ho:PE X o td)(he:PE X e ty)(m:M1 X o "update" apos e gE):PE X (.Call (.Attribute o "update" apos) [e] [] gE) (NH X.K td ty):=by
 intro ag s σ H Q I h;refine wpAny_Call_method m.base m.M0 m.line x9 ya PySem.F.type_dict_update (cq (ho ag s σ H _ I h) λu s1 aT=>?_);obtain⟨x,H1,I1,rx,a,ex,d,q1⟩:=aT;subst ex;obtain rfl:u=Value.ref a:=rx;obtain⟨t1,t2,_⟩:=zr I1 d;refine⟨t1,t2,?_⟩;rw [m.trees];refine ur rfl (uf (nR (cq (he ag s1 σ H1 _ I1 q1) λiv s2 aT=>?_)));obtain⟨y,H2,I2,ry,l,ts,kvs,more,ey,ea,el,p,hz,q2⟩:=aT;refine Calls.spliced_nil ?_;subst ey;cases (show iv=Value.ref l from ry);obtain⟨z,Xn,vs,rel,dd⟩:=xb I2.bH ea;obtain⟨z2,aO,n,rv,hl⟩:=(show bV X.prog X.w H2 s2.heap l (.lst _) from I2.bH l _ el);obtain⟨ms,r1,r2⟩:=pairs_at I2 p rv;have l1:=bF r2;have l2:=r1.length;have l3:=bF p;refine rY (I2.ok.hd hc) dd hl (by simpa using l1) (λm kv em=>?_) (by rw [<-rel.length,<-l2];exact hz) λh' t' hd kk=>?_
 .obtain⟨u,e1,e2⟩:=Paired.at_ r2 m kv em;exact⟨u,by simpa using e1,e2⟩
 have hn:(cO more kvs).length<=sizeLine:=cC (qY more kvs) hz;have he:∃q,h'.get? a=some q:=let ⟨q,_,_,hq,_⟩:=hd;⟨q,hq⟩;exact⟨.dI,_,I2.write (x:=a) (e:=a) (by rw [ea];exact True.intro) (.inl rfl) (λb q hb z=>kk b q hb z) he (q_ hn Xn (qX r1 rel) hd),rfl,q2⟩
def tR {X:Cx}:fA X (.builtin "len") (λxs H Q=>∃a kvs,xs=[.ref a]/\H a=some (.dK kvs)/\Q (.int kvs.length) H):=by
 intro ag s σ H xs us Q I r h;obtain⟨a,kvs,rfl,e,q⟩:=h;obtain⟨u,rfl,rx⟩:=vals1 r;cases (show u=Value.ref a from rx);exact PR I (.inl e) λt s' I'=>⟨.int _,H,I',⟨_,rfl⟩,q⟩
end
theorem wO:∀{us:List Value}{ns:List Int},PyProof.Rows.IntsAre us ns->∀ys:List (Int×Tok),us=ys.map (λp=>Value.int p.1 p.2)->ys.map (·.1)=ns
 | _,_,.nil,ys,e=>by
  cases ys with
  | nil=>rfl
  | cons _ _=>cases e
 | _,_,.cons n t h,ys,e=>by
  cases ys with
  | nil=>cases e
  | cons y r =>
   rw [bG] at e;injection e with e1 e2;injection e1 with e3 e4;rw [bG,wO h r e2,e3]
def tP {X:Cx}(hc:X.calm=true):fA X (.builtin "sum") (λxs H Q=>∃a ns,xs=[.ref a]/\aG X.K H a (List.map V.int ns)/\Q (.int ns.sum) H):=by
 intro ag s σ H xs us Q I r h;obtain⟨a,ns,rfl,hq,q⟩:=h;obtain⟨u,rfl,rx⟩:=vals1 r;cases rx;obtain⟨aO,rv,pl,hz⟩:=I.list hq;have hi:=intsAre_of rv;have pd:AllInts aO.toArray:=hi.allInts;obtain⟨xs,e⟩:=pd.items;have hl:=pl.isList;rw [e] at hl;refine sum_intListG (I.ok.hd hc) hl λh' tk t' hk=>⟨.int _,H,I.kept hk,⟨_,rfl⟩,?_⟩;have e5:xs.toList.map (·.1)=ns:=wO hi xs.toList (by
  have:=congrArg Array.toList e;simpa [intItems] using this)
 have e6:preSum (numAt xs) xs.size=ns.sum:=by
  rw [preSum_eq,e5,sk (by rw [<-e5];simp)]
 rw [e6];exact q
def xp {K:aV}{H:Hp}{p D:Addr}{zs:List Str}{σ:St}{v:V}{x:Str}{Qp:Hp->Prop}(hp:a9 K H p (zs.map V.str))(hz:zs.length<=1000)(hD:H D=none)
  (q:∀ts H2,aC H H2->H2 D=some (.lst (ts.map V.ref))->Paired (λt h=>a9 K H2 t [.str h,v]) ts zs->Qp H2) :
  ∃W:Nat->Nat->List V->St->Hp->Prop,(∃m,W 0 m [] (df [x] [] σ) (upd H D (.lst []))) /\
 ∀i m ys σ' H,W i m ys σ' H->((oW K p).stop i H/\Qp H)\/((oW K p).go i H/\∃m',m' < m/\∀x H',(oW K p).kR i H x H'->du 0 x σ' H' λσ2 H2=>g6 σ2 H2 λb H3 =>
  if b=true then rQ (fu (fk 0) (fu (tC v) oZ)) σ2 H3 λy H4=>H4 D=some (.lst ys)/\ys.length < sizeLine/\W (i+1) m' (ys++[y]) σ2 (upd H4 D (.lst (ys++[y]))) else W (i+1) m' ys σ2 H3):=by
 refine gW (xs:=zs.map V.str) (λi ys σ2 H2=>∃ts:List Addr,ys=ts.map V.ref/\ts.length=i/\Paired (λt h=>a9 K H2 t [.str h,v]) ts (zs.take i)/\(∃y0,σ2=[y0])/\aC H H2/\H2 D=some (.lst ys))
  ⟨[],rfl,rfl,.nil,⟨none,rfl⟩,ah hD _,ae⟩ (λi ys σ2 H2 _ h=>?_) (λi x ys σ2 H2 ex h=>?_) (λys σ2 H2 h=>?_)
 .obtain⟨_,_,_,_,_,sm,_⟩:=h;exact sm.tup hp
 .obtain⟨ts,rfl,ht,om,⟨y0,rfl⟩,sm,hd⟩:=h;rw [aZ] at ex;obtain⟨z,ez,rfl⟩:=cf.mp ex;have li:=(bo.mp ez).1;refine goN (vq ?_);refine⟨_,rfl,qf,λt jk=>⟨?_,bQ (by rw [aB];omega),ts++[t],?_,?_,?_,⟨_,rfl⟩,?_,ae⟩⟩
  .rw [ai (au hd jk)];exact hd
  .rw [bI];rfl
  .rw [b9,ht];rfl
  .rw [cV,ez];have gO:upd H2 t (.tup [.str z,v]) D=some (.lst (ts.map V.ref)):=by rw [ai (au hd jk)];exact hd
   exact ft (Paired.eF om λt' h' z=>a7 gO ((ah jk _).tup z)) (a7 gO (a9.of ae))
  intro b o hb;rw [ai (λz=>by rw [z,hD] at hb;cases hb)];exact ah jk _ _ _ (sm b o hb)
 obtain⟨ts,rfl,ht,om,_,sm,hd⟩:=h;rw [aB,cE] at om;exact q ts H2 sm hd om
end L2
namespace M11
open PySem L2
def nr (a:List Str)(h x:Str):x∈gF a h↔x∈a\/x=h:=by
 unfold gF;split
 .constructor
  .exact .inl
  rintro(z | rfl) <;> assumption
 simp
def Bb {a:List Str}(h:Str)(n:a.Nodup):(gF a h).Nodup:=by
 unfold gF;split
 .exact n
 rename_i q
 refine je.mpr ⟨n,by simp,λx hx y hy=>?_⟩;rw [bE.mp hy];exact λz=>q (z ▸ hx)
def Bc (a:List Str)(h:Str):a.length<=(gF a h).length:=by
 unfold gF;split <;> simp
def HS {a:List Str}{h:Str}(e:(gF a h).length=a.length):gF a h=a:=by
 unfold gF at e ⊢;split
 .rfl
 rename_i q
 rw [aA q,b9] at e;simp at e
theorem d_:∀(hs bA:List Str)(x:Str),x∈pA bA hs↔x∈bA\/x∈hs
 | [],bA,x=>by simp [pA]
 | h::r,bA,x=>by
  show x∈pA (gF bA h) r↔_;rw [d_ r,nr,bN,or_assoc]
theorem lF:∀(hs:List Str){bA:List Str},bA.Nodup->(pA bA hs).Nodup
 | [],_,n=>n
 | h::r,_,n=>lF r (Bb h n)
theorem zK:∀(hs bA:List Str),bA.length<=(pA bA hs).length
 | [],_=>aI _
 | h::r,bA=>cC (Bc bA h) (zK r _)
theorem E8:∀(hs bA:List Str),(pA bA hs).length=bA.length->pA bA hs=bA
 | [],_,_=>rfl
 | h::r,bA,e=>by
  have h1:=Bc bA h;have h2:=zK r (gF bA h);have e':(pA (gF bA h) r).length=bA.length:=e;show pA (gF bA h) r=bA;rw [E8 r _ ∅];exact HS ∅
inductive zT (aa:List ay)(s:Str):Str->Prop
 | start:zT aa s s
 | step {ru:ay}{x:Str}:zT aa s ru.1->ru∈aa->x∈ru.2->zT aa s x
def ou (aa:List ay) (n:Nat) (ms:List Str):Prop:=∀ru∈aa.take n,ru.1∈ms->∀x∈ru.2,x∈ms
def zT.among {aa:List ay}{s x:Str}(h:zT aa s x):x∈s::aa.flatMap (·.2):=by
 cases h with
 | start=>exact bX
 | step _ h1 h2=>exact bS _ (nQ.mpr ⟨_,h1,h2⟩)
end M11
namespace eX
open PySem L2 M11
section
def Ik (K:aV):Sp:=λvs H Q _=>∃(R:Addr)(rs:List Addr)(aa:List ay)(fJ:ay),vs=[.ref R]/\aG K H R (rs.map V.ref)/\bJ K H rs aa/\aa[0]?=some fJ/\aa.length<=1000/\(∀ru∈aa,ru.2.length<=8) /\
 ∀d kvs ms H',H d=none->aC H H'->H' d=some (.dK kvs)->kvs.map (·.1)=ms.map Sum.inr->fJ.1∈ms->(∀x∈ms,zT aa fJ.1 x)->ou aa aa.length ms->Q (.ref d) H'
def sI:aH ["rules","met","many","head","parts"] ["rules"] (av JT):=iw rfl rfl rfl rfl nofun
structure Nj (K:aV)(aa:List ay)(s0:Str)(H H5:Hp)(d:Addr) (ms:List Str)(kvs:List (aJ×V)):Prop where
 sm:aC H H5
 hd:H5 d=some (.dK kvs)
 keys:kvs.map (·.1)=ms.map Sum.inr
 nd:ms.Nodup
 st:s0∈ms
 Mu:∀x∈ms,zT aa s0 x
def Nj.len {aa:List ay}{s0:Str}{H H5:Hp}{d:Addr}{ms:List Str}{kvs:List (aJ×V)}(h:Nj K aa s0 H H5 d ms kvs)(hl:aa.length<=1000)(h8:∀ru∈aa,ru.2.length<=8):kvs.length=ms.length/\ms.length<=8001:=by
 refine⟨?_,?_⟩
 .have:=congrArg List.length h.keys;simpa using this
 have h1:=eM ms _ h.nd λx hx=>(h.Mu x hx).among;have h2:=iR aa 1000 hl h8;rw [dC] at h1;omega
def Kv (F:gX K "names_met" "names_met" JT f fd)(T:Txt mg):ba P w K mg base fc 1 f fd ["rules"] (Ik K):=by
 refine F.ok sI (λvs H Q E h=>?_) (λdw A outer s H vs Q E hr h=>?_)
 .obtain⟨R,rs,aa,fJ,rfl,_⟩:=h;rfl
 obtain⟨R,rs,aa,fJ,rfl,hR,cS,wR,a8,h8,q⟩:=h;have hu:=fX hr;refine⟨_,aj (aF (i:=1) sI.nd rfl (bM rfl) (GX (DI (aP bL (aP bz (pv 0) aq (λ_ _=>rfl)) aq (λ_ _=>rfl)) fg GA) rfl rfl (by simp) (show 1<=15 by decide)))
  (aj (aF (i:=2) sI.nd rfl (bM rfl) aq)
  (aj (jJ cD (cx mI (pv 2) (aN tR rfl T.len d5 (af (pv 1) ak)) (dq _))
   (aj (aF (i:=2) sI.nd rfl (bM rfl) (aN tR rfl T.len d5 (af (pv 1) ak)))
   (ao (b_ cD rfl (bx (pv 0)) (eZ rfl (aE (aw (i:=3) sI.nd rfl (bM rfl)) (aE (aw (i:=4) sI.nd rfl (bM rfl)) cu)))
    (ao (cN (fq (n_ hu (pv 3) (pv 1)))
     (ao (cP (GV rfl (pv 1) (bK ["part"] [] rfl (g9 (pv 4)) (bh rfl rfl) nofun rfl nofun
       (λ_ _ _ _ _=>aw (i:=0) (show (["part"]:List Str).Nodup by decide +kernel) rfl (bM rfl)) (λ_ _ _ _ _=>bW) (λ_ _ _ _ _=>cJ (af (pv 0) (af fg ak)))) ⟨rfl,rfl,rfl,rfl⟩))) bw))))))
  (ao (bu (pv 1))))),?_⟩
 nofun
 intro d hd;have ll:=bF cS;have l0:=(bo.mp wR).1;obtain⟨r0,Rf⟩:∃r,rs[0]?=some r:=⟨rs[0]'∅,cZ ∅⟩;obtain⟨Zv,e0,p0,w1,w2⟩:=cS.get Rf;rw [wR] at e0;cases e0;have QD:=ah hd (.dK []);refine⟨_,rfl,R,_,_,.ref r0,rfl,rfl,QD.seq hR,?_,r0,_,_,_,rfl,rfl,QD.tup w1,rfl,?_⟩
 .have e7:(rs.map V.ref)[0]?=some (.ref r0):=by rw [aZ,Rf];rfl
  exact bj (j:=0) e7
 refine⟨ae,[((Sum.inr fJ.1:aJ),.bl true)],rfl,(by show 1<=15;decide),?_⟩;have S0:Nj K aa fJ.1 H (upd (upd H d (.dK [])) d (.dK (kY [] [((Sum.inr fJ.1:aJ),.bl true)]))) d [fJ.1] [((Sum.inr fJ.1:aJ),.bl true)]:=by
  rw [jS];exact⟨ah hd _,ae,rfl,by simp,by simp,λx hx=>by rw [bE.mp hx];exact .start⟩
 generalize upd (upd H d (.dK [])) d (.dK (kY [] [((Sum.inr fJ.1:aJ),.bl true)]))=H0 at S0;refine⟨λm σ H5=>∃(ms:List Str)(kvs:List (aJ×V)) (many:Int)(y3 y4:Option V),σ=[br R,br d,some (.int many),y3,y4]/\Nj K aa fJ.1 H H5 d ms kvs/\0<=many/\many<=ms.length/\(many=ms.length->ou aa aa.length ms)/\(m:Int)=8002 - many,
  ⟨8002,[fJ.1],_,0,none,none,rfl,S0,∅,by simp,by simp,∅⟩,?_⟩
 rintro m σ H5 ⟨ms,kvs,many,y3,y4,rfl,S,b1,b2,cl,em⟩;obtain⟨lk,lm⟩:=S.len a8 h8;refine⟨_,rfl,_,rfl,d,_,rfl,S.hd,_,_,rfl,rfl,_,rfl,?_⟩;refine dJ (λc=>?_) (λc=>?_)
 .have c':=d6 c;rw [lk] at c';refine⟨λσ H5=>∃(pL:List Str)(eP:List (aJ×V))(y3 y4:Option V),σ=[br R,br d,some (.int (ms.length:Int)),y3,y4]/\Nj K aa fJ.1 H H5 d pL eP/\ms.length<=pL.length/\(pL.length=ms.length->ou aa aa.length pL),?_,?_⟩
  .rintro σ H6 ⟨pL,eP,y3,y4,rfl,S2,l2,c2⟩;exact⟨(8002 - ms.length:Int).toNat,∅,pL,eP,_,_,_,rfl,S2,∅,∅,λz=>c2 ∅,∅⟩
  refine⟨_,rfl,d,_,rfl,S.hd,?_⟩;rw [lk];refine⟨_,rfl,R,rfl,⟨_,S.sm.seq hR⟩,?_⟩;refine dX (xs:=rs.map V.ref) (λi σ H6=>∃(pL:List Str)(eP:List (aJ×V))(y3 y4:Option V),σ=[br R,br d,some (.int (ms.length:Int)),y3,y4]/\Nj K aa fJ.1 H H6 d pL eP/\ms.length<=pL.length/\(pL.length=ms.length->ou aa i pL))
   ⟨ms,kvs,_,_,rfl,S,aI _,λ_ ru gG=>by simp at gG⟩ ?_ ?_ ?_
  .rintro i σ H6 _ ⟨pL,eP,y3,y4,rfl,S2,_⟩;exact S2.sm.seq hR
  .rintro i x σ H6 ex ⟨pL,eP,y3,y4,rfl,S2,l2,c2⟩
   ac_nf0
   rw [aZ] at ex;obtain⟨r,er,rfl⟩:=cf.mp ex;obtain⟨ru,e1,p,v1,v2⟩:=cS.get er;have MV:=h8 ru (cb e1);have tk:aa.take (i+1)=aa.take i++[ru]:=by rw [cV,e1];rfl
   obtain⟨QP,lm2⟩:=S2.len a8 h8;have mem:(a_ eP (Sum.inr ru.1)).isSome=true↔ru.1∈pL:=by rw [d8,S2.keys];exact cH
   refine⟨r,_,rfl,S2.sm.tup v1,rfl,_,_,rfl,_,_,rfl,rfl,?_⟩;refine⟨_,rfl,_,rfl,d,_,rfl,cm.k (k:=Sum.inr ru.1) S2.hd,_,rfl,?_⟩;refine dJ (λc3=>?_) (λc3=>?_)
   .have im:=mem.mp c3;refine⟨_,rfl,d,rfl,.inl ⟨_,.inl S2.hd⟩,_,rfl,p,rfl,⟨_,S2.sm.tup v2⟩,λD2 iP=>xp (S2.sm.tup v2) ∅ iP λts H8 Mp FO Xq=>?_⟩;have kp:Paired (λt (kv:aJ×V)=>a9 K H8 t [kV kv.1,kv.2]) ts (ru.2.map λh=>((Sum.inr h:aJ),V.bl true)):=cA Xq λ_ _ z=>z;refine⟨D2,ts,eP,_,rfl,Mp _ _ S2.hd,FO,kp,fits (by rw [aB];omega),?_⟩;have aai:=zK ru.2 pL;refine⟨pA pL ru.2,cO (ru.2.map λh=>((Sum.inr h:aJ),V.bl true)) eP,_,_,rfl,⟨λb o hb=>?_,ae,mK ru.2 eP pL S2.keys,lF ru.2 S2.nd,(d_ ru.2 pL _).mpr (.inl S2.st),λx hx=>?_⟩,∅,λz jW wQ hh=>?_⟩
    .rw [ai (λz=>by rw [z,hd] at hb;cases hb)];exact Mp _ _ (S2.sm b o hb)
    .rcases (d_ ru.2 pL x).mp hx with h | h
     .exact S2.Mu x h
     exact .step (S2.Mu _ im) (cb e1) h
    have e9:=E8 ru.2 pL ∅;rw [e9] at hh ⊢;rw [tk] at wQ;rcases bq.mp wQ with h | h
    .exact c2 ∅ jW h hh
    rw [bE.mp h];intro x hx;rw [<-e9];exact(d_ ru.2 pL x).mpr (.inr hx)
   refine⟨pL,eP,_,_,rfl,S2,l2,λz jW wQ hh=>?_⟩;rw [tk] at wQ;rcases bq.mp wQ with h | h
   .exact c2 z jW h hh
   rw [bE.mp h] at hh;exact absurd (mem.mpr hh) c3
  rintro σ H6 ⟨pL,eP,y3,y4,rfl,S2,l2,c2⟩;rw [aB,ll] at c2;exact⟨pL,eP,_,_,rfl,S2,l2,c2⟩
 have c':=of_decide_eq_false (pS.mpr c);rw [lk] at c';exact⟨_,rfl,q d kvs ms H5 hd S.sm S.hd S.keys S.st S.Mu (cl ∅)⟩
end
end eX
namespace M11
open PySem L2
abbrev G:=Str->Option Int
def de (g:G)(h:Str) (n:Int):G:=λz=>if z=h then some n else g z
def aM (g:G)(ru:ay):Int:=1+(ru.2.map λp=>(g p).getD 0).sum
def ij (g:G)(ru:ay):Bool:=ru.2.all λp=>(g p).isSome
def bZ (bt:Int->Int->Bool)(g:G)(ru:ay):Bool:=ij g ru && (!(g ru.1).isSome || bt (aM g ru) ((g ru.1).getD 0))
def sstep (bt:Int->Int->Bool)(a:G×Bool)(ru:ay):G×Bool:=if bZ bt a.1 ru=true then (de a.1 ru.1 (aM a.1 ru),true) else a
def rS (bt:Int->Int->Bool)(aa:List ay)(g:G):G×Bool:=aa.foldl (sstep bt) (g,false)
inductive cI (bt:Int->Int->Bool)(aa:List ay):G->G->Prop
 | refl {g:G}:cI bt aa g g
 | step {g g1:G}{ru:ay}:cI bt aa g g1->ru∈aa->bZ bt g1 ru=true->cI bt aa g (de g1 ru.1 (aM g1 ru))
def eh (bt:Int->Int->Bool)(aa:List ay)(g:G):Prop:=∀ru∈aa,bZ bt g ru=false
def oy (bt:Int->Int->Bool)(aa:List ay):Nat->G->Prop
 | 0,g=>(rS bt aa g).2=false
 | n+1,g=>(rS bt aa g).2=false\/oy bt aa n (rS bt aa g).1
def cI.trans {bt:Int->Int->Bool}{aa:List ay}{g g1 g2:G}(h:cI bt aa g g1)(k:cI bt aa g1 g2):cI bt aa g g2:=by
 induction k with
 | refl=>exact h
 | step _ a b ih=>exact .step ih a b
theorem qU (bt:Int->Int->Bool)(aa:List ay):∀(l:List ay)(a:G×Bool),(∀ru∈l,ru∈aa)->cI bt aa a.1 (l.foldl (sstep bt) a).1
 | [],a,_=>.refl
 | ru::l,a,h=>by
  have ih:=qU bt aa l (sstep bt a ru) λx hx=>h x (bS _ hx);refine cI.trans ?_ ih;unfold sstep;by_cases c:bZ bt a.1 ru=true
  .rw [az c];exact .step .refl (h ru bX) c
  rw [aA c];exact .refl
theorem tG (bt:Int->Int->Bool):∀(l:List ay)(a:G×Bool),a.2=true->(l.foldl (sstep bt) a).2=true
 | [],a,h=>h
 | ru::l,a,h=>by
  refine tG bt l (sstep bt a ru) ?_;unfold sstep
  split
  .rfl
  exact h
theorem qW (bt:Int->Int->Bool):∀(l:List ay)(a:G×Bool),(l.foldl (sstep bt) a).2=false->(l.foldl (sstep bt) a).1=a.1/\∀ru∈l,bZ bt a.1 ru=false
 | [],a,_=>⟨rfl,λ_ h=>nomatch h⟩
 | ru::l,a,h=>by
  by_cases c:bZ bt a.1 ru=true
  .have e:sstep bt a ru=(de a.1 ru.1 (aM a.1 ru),true):=az c;have h':(l.foldl (sstep bt) (sstep bt a ru)).2=false:=h;rw [e,tG bt l _ rfl] at h';cases h'
  have e:sstep bt a ru=a:=aA c;have h':(l.foldl (sstep bt) (sstep bt a ru)).2=false:=h;rw [e] at h';obtain⟨i1,i2⟩:=qW bt l a h';refine⟨by rw [List.foldl_cons,e];exact i1,λjW hr=>?_⟩;rcases bN.mp hr with z | z
  .rw [z];exact pS.mpr c
  exact i2 jW z
end M11
namespace L2
open PySem M11
def fj.tup {K:aV}{H H':Hp}{d a:Addr}{kvs:List (aJ×V)}{xs:List V}(s:fj d H H')(hd:H d=some (.dK kvs))(h:a9 K H a xs):a9 K H' a xs:=by
 rcases h with (h | ⟨u,h⟩) | h
 .exact .inl (.inl (s _ _ (λz=>by rw [z,hd] at h;cases h) h))
 .exact .inl (.inr ⟨u,s _ _ (λz=>by rw [z,hd] at h;cases h) h⟩)
 exact .inr h
def fj.seq {K:aV}{H H':Hp}{d a:Addr}{kvs:List (aJ×V)}{xs:List V}(s:fj d H H')(hd:H d=some (.dK kvs))(h:aG K H a xs):aG K H' a xs:=by
 rcases h with (h | ⟨u,h⟩) | h
 .exact .inl (.inl (s _ _ (λz=>by rw [z,hd] at h;cases h) h))
 .exact .inl (.inr ⟨u,s _ _ (λz=>by rw [z,hd] at h;cases h) h⟩)
 exact .inr h
def Cs {K:aV}{H:Hp}{p D d:Addr}{zs:List Str}{kvs:List (aJ×V)}{g:G}{σ:St}{js:List (Nat×Str)}{Qp:Hp->Prop}(hσ:df ["part"] js σ=[none,br d])(hp:a9 K H p (zs.map V.str))(hz:zs.length<=1000)
  (hd:H d=some (.dK kvs))(hv:∀z,a_ kvs (Sum.inr z)=(g z).map V.int)(ha:∀z∈zs,(g z).isSome=true)(hD:H D=none)(q:∀H2,aC H H2->H2 D=some (.lst ((zs.map λz=>(g z).getD 0).map V.int))->Qp H2) :
  ∃W:Nat->Nat->List V->St->Hp->Prop,(∃m,W 0 m [] (df ["part"] js σ) (upd H D (.lst []))) /\
 ∀i m ys σ' H,W i m ys σ' H->((oW K p).stop i H/\Qp H)\/((oW K p).go i H/\∃m',m' < m/\∀x H',(oW K p).kR i H x H'->du 0 x σ' H' λσ2 H2=>g6 σ2 H2 λb H3 =>
  if b=true then z9 (fk 1) (fk 0) σ2 H3 λy H4=>H4 D=some (.lst ys)/\ys.length < sizeLine/\W (i+1) m' (ys++[y]) σ2 (upd H4 D (.lst (ys++[y]))) else W (i+1) m' ys σ2 H3):=by
 refine gW (xs:=zs.map V.str) (λi ys σ2 H2=>ys=(((zs.take i).map λz=>(g z).getD 0).map V.int)/\(∃y0,σ2=[y0,br d])/\aC H H2/\H2 D=some (.lst ys))
  ⟨rfl,⟨none,hσ⟩,ah hD _,ae⟩ (λi ys σ2 H2 _ h=>h.2.2.1.tup hp) (λi x ys σ2 H2 ex h=>?_) (λys σ2 H2 h=>?_)
 .obtain⟨rfl,⟨y0,rfl⟩,sm,hd2⟩:=h;rw [aZ] at ex;obtain⟨z,ez,rfl⟩:=cf.mp ex;have li:=(bo.mp ez).1;obtain⟨n,en⟩:=kq.mp (ha z (cb ez));have hg:cm H2 d (.str z) (some (.int n)):=by
   have:=cm.k (k:=Sum.inr z) (sm _ _ hd);rw [hv,en] at this;exact this
  refine goN (vq ?_);refine⟨_,rfl,_,rfl,d,_,rfl,hg,hd2,bQ (by rw [aB,aB,c_];omega),?_,⟨_,rfl⟩,?_,ae⟩
  .rw [cV,ez,bI,bI];show _=_++[V.int ((g z).getD 0)];rw [en];rfl
  intro b o hb;rw [ai (λz=>by rw [z,hD] at hb;cases hb)];exact sm b o hb
 obtain⟨rfl,_,sm,hd2⟩:=h;rw [aB,cE] at hd2;exact q H2 sm hd2
end L2
namespace eX
open PySem L2 M11
section
def g7 (K:aV)(q:Str)(params:Arguments)(body:Expr)(scope:Scope)(bt:Int->Int->Bool):Sp:=λvs H Q _=>∃(R:Addr)(rs:List Addr)(aa:List ay)(d fl c':Addr)(pm fC:Value)(kvs:List (aJ×V)) (ks:List Str)(g:G),
 vs=[.ref R,.ref d,.ref fl]/\aG K H R (rs.map V.ref)/\bJ K H rs aa/\aa.length<=1000/\(∀ru∈aa,ru.2.length<=8)/\H d=some (.dK kvs)/\kvs.map (·.1)=ks.map Sum.inr/\ks.Nodup/\ks.length<=10000 /\
 (∀z,a_ kvs (Sum.inr z)=(g z).map V.int)/\(∃n,oy bt aa n g)/\H fl=some (og fl (PySem.W.kla_obj "<lambda>" q params body scope [] pm c' fC))/\H c'=some (jl c' q) /\
 ∀(k_:List (aJ×V)) (OB:List Str)(g':G)(H':Hp),fj d H H'->H' d=some (.dK k_)->k_.map (·.1)=OB.map Sum.inr->(∀z,a_ k_ (Sum.inr z)=(g' z).map V.int)->cI bt aa g g'->eh bt aa g'->k_.length<=20000->Q (.ref d) H'
def g8:aH ["rules","sizes","better","changed","head","parts","size"] ["rules","sizes","better"] (av ml):=iw rfl rfl rfl rfl nofun
structure CP (K:aV)(aa:List ay) (FJ:List Str)(H H5:Hp)(d:Addr)(kvs:List (aJ×V)) (ks:List Str)(g:G):Prop where
 sm:fj d H H5
 hd:H5 d=some (.dK kvs)
 keys:kvs.map (·.1)=ks.map Sum.inr
 nd:ks.Nodup
 sub:∀x∈ks,x∈FJ++aa.map (·.1)
 val:∀z,a_ kvs (Sum.inr z)=(g z).map V.int
def CP.len {aa:List ay}{FJ:List Str}{H H5:Hp}{d:Addr}{kvs:List (aJ×V)}{ks:List Str}{g:G}(h:CP K aa FJ H H5 d kvs ks g):kvs.length<=FJ.length+aa.length:=by
 have h1:=congrArg List.length h.keys;have h2:=eM ks _ h.nd h.sub;rw [b9,aB] at h2;rw [aB,aB] at h1;omega
def CP.same {aa:List ay}{FJ:List Str}{H H5 H6:Hp}{d:Addr}{kvs:List (aJ×V)}{ks:List Str}{g:G}(h:CP K aa FJ H H5 d kvs ks g)(s:aC H5 H6):CP K aa FJ H H6 d kvs ks g :=
 ⟨λb o n e=>s _ _ (h.sm b o n e),s _ _ h.hd,h.keys,h.nd,h.sub,h.val⟩
def CP.put {aa:List ay}{FJ:List Str}{H H5:Hp}{d:Addr}{kvs:List (aJ×V)}{ks:List Str}{g:G}(h:CP K aa FJ H H5 d kvs ks g){ru:ay}(hr:ru∈aa) (n:Int) :
  CP K aa FJ H (upd H5 d (.dK (bC kvs (Sum.inr ru.1) (.int n)))) d (bC kvs (Sum.inr ru.1) (.int n)) (gF ks ru.1) (de g ru.1 n):=by
 refine⟨λb o nb e=>by rw [ai nb];exact h.sm b o nb e,ae,jM h.keys ru.1,Bb ru.1 h.nd,λx hx=>?_,λz=>?_⟩
 .rcases (nr ks ru.1 x).mp hx with z | z
  .exact h.sub x z
  rw [z];exact fN _ (iE hr)
 rw [vT];unfold de;by_cases c:z=ru.1
 .rw [az c,az (by rw [c])];rfl
 rw [aA c,aA (λe=>c (kM e)),h.val]
def sR (F:gX K "settled_sizes" "settled_sizes" ml f fd)(T:Txt mg){q:Str}{params:Arguments}{body:Expr}{scope:Scope}{bt:Int->Int->Bool}{te:TE}(S:aH ["size","known"] ["size","known"] scope)
  (mQ:∀(pm fC:Value)(c':Addr)(us:List Value),us.length=(["size","known"]:List Str).length->bindArgs (PySem.W.kla_fn "<lambda>" q params body scope [] pm (.ref c') fC) ⟨us,[]⟩=pure ((["size","known"]:List Str).zip us))
  (gB:∀(f c':Addr)(A:Around)(outer:List Env)(s:Shared)(H:Hp),PE (eQ fc P w K mg base ["size","known"] q scope f (.ref c') A outer s H λ_ _ _=>False) body te)
  (T6:∀a b H Q,Q (.bl (bt a b)) H->te [some (.int a),some (.int b)] H Q):ba P w K mg base fc 2 f fd ["rules","sizes","better"] (g7 K q params body scope bt):=by
 refine F.ok g8 (λvs H Q E h=>?_) (λdw A outer s H vs Q E hr h=>?_)
 .obtain⟨R,rs,aa,d,fl,c',pm,fC,kvs,ks,g,rfl,_⟩:=h;rfl
 obtain⟨R,rs,aa,d,fl,c',pm,fC,kvs,ks,g,rfl,hR,cS,a8,h8,hd,hk,MO,hkl,hv,⟨n0,CK⟩,EI,j7,qq⟩:=h;have hu:=fX hr;refine⟨_,aj (aF (i:=3) g8.nd rfl (bM rfl) fg)
  (aj (jJ cD (eY (pv 3))
   (aj (aF (i:=3) g8.nd rfl (bM rfl) fg)
   (ao (b_ cD rfl (bx (pv 0)) (eZ rfl (aE (aw (i:=4) g8.nd rfl (bM rfl)) (aE (aw (i:=5) g8.nd rfl (bM rfl)) cu)))
    (ao (cN (eY (aN (j3 rfl) rfl T.all boot_all (af (bK ["part"] [(1,"sizes")] rfl (g9 (pv 5)) (bh rfl rfl) nofun rfl nofun
       (λ_ _ _ _ _=>aw (i:=0) (show (["part","sizes"]:List Str).Nodup by decide +kernel) rfl (bM rfl)) (λ_ _ _ _ _=>bW) (λ_ _ _ _ _=>DQ (n_ hu (pv 0) (pv 1)))) ak)))
     (aj (aF (i:=6) g8.nd rfl (bM rfl) (aX dH aq (aN (tP rfl) rfl T.sum PyProof.Rows.boot_sum (af (bK ["part"] [(1,"sizes")] rfl (g9 (pv 5)) (bh rfl rfl) nofun rfl nofun
       (λ_ _ _ _ _=>aw (i:=0) (show (["part","sizes"]:List Str).Nodup by decide +kernel) rfl (bM rfl)) (λ_ _ _ _ _=>bW) (λ_ _ _ _ _=>eK hu (pv 1) (pv 0) (λ_ _=>rfl))) ak))))
     (ao (cN (PW.pt (mw (fq (dY hu (pv 4) (pv 1))) (kU (eY (yQ (i:=2) (k:=0) rfl rfl S hr mQ gB (af (pv 6) (af (eK hu (pv 1) (pv 4) (λ_ _=>rfl)) ak)))))))
      (aj (ib hu (pv 1) (pv 4) (pv 6) rfl) (ao (aF (i:=3) g8.nd rfl (bM rfl) fg))) bw))) bw))))))
  (ao (bu (pv 1)))),?_⟩
 nofun
 have ll:=bF cS;have S0:CP K aa ks H H d kvs ks g:=⟨λ_ _ _ e=>e,hd,hk,MO,λx hx=>lX _ hx,hv⟩;refine⟨λm σ H5=>∃(eP:List (aJ×V)) (QR:List Str)(g2:G)(ch:Bool)(y4 y5 y6:Option V),σ=[br R,br d,br fl,some (.bl ch),y4,y5,y6]/\CP K aa ks H H5 d eP QR g2/\cI bt aa g g2 /\
  ((ch=true/\∃n,m=n+1/\oy bt aa n g2)\/(ch=false/\eh bt aa g2)),⟨n0+1,kvs,ks,g,true,none,none,none,rfl,S0,.refl,.inl ⟨rfl,n0,rfl,CK⟩⟩,?_⟩
 rintro m σ H5 ⟨eP,QR,g2,ch,y4,y5,y6,rfl,S2,FE,cs⟩;refine⟨_,rfl,ch,rfl,?_⟩;refine dJ (λc=>?_) (λc=>?_)
 .rcases cs with ⟨_,n,em,en⟩ | ⟨c',_⟩
  case inr=>rw [c'] at c;cases c
  refine⟨λσ H6=>∃(k9:List (aJ×V)) (CJ:List Str)(g3:G)(tO:Bool)(y4 y5 y6:Option V),σ=[br R,br d,br fl,some (.bl tO),y4,y5,y6]/\CP K aa ks H H6 d k9 CJ g3/\(g3,tO)=rS bt aa g2,?_,?_⟩
  .rintro σ H6 ⟨k9,CJ,g3,tO,y4,y5,y6,rfl,S3,e3⟩;have Vv:g3=(rS bt aa g2).1:=congrArg Prod.fst e3;have LP:tO=(rS bt aa g2).2:=congrArg Prod.snd e3;have NP:cI bt aa g g3:=by
    rw [Vv];exact FE.trans (qU bt aa aa (g2,false) λ_ h=>h)
   cases h3:tO with
   | false =>
    rw [h3] at LP;obtain⟨f1,f2⟩:=qW bt aa (g2,false) LP.symm;refine⟨0,∅,k9,CJ,g3,false,_,_,_,rfl,S3,NP,.inr ⟨rfl,?_⟩⟩;have e33:g3=g2:=Vv.trans f1;rw [e33];exact f2
   | true =>
    rw [h3] at LP;cases n with
    | zero=>rw [show (rS bt aa g2).2=false from en] at LP;cases LP
    | succ n' =>
     rcases en with en | en
     .rw [en] at LP;cases LP
     exact⟨n'+1,∅,k9,CJ,g3,true,_,_,_,rfl,S3,NP,.inl ⟨rfl,n',rfl,by rw [Vv];exact en⟩⟩
  refine⟨_,rfl,R,rfl,⟨_,S2.sm.seq hd hR⟩,?_⟩;refine dX (xs:=rs.map V.ref) (λi σ H6=>∃(k9:List (aJ×V)) (CJ:List Str)(g3:G)(tO:Bool)(y4 y5 y6:Option V),σ=[br R,br d,br fl,some (.bl tO),y4,y5,y6]/\CP K aa ks H H6 d k9 CJ g3/\(g3,tO)=(aa.take i).foldl (sstep bt) (g2,false))
   ⟨eP,QR,g2,false,_,_,_,rfl,S2,rfl⟩ ?_ ?_ ?_
  .rintro i σ H6 _ ⟨k9,CJ,g3,tO,y4,y5,y6,rfl,S3,_⟩;exact S3.sm.seq hd hR
  .rintro i x σ H6 ex ⟨k9,CJ,g3,tO,y4,y5,y6,rfl,S3,e3⟩;rw [aZ] at ex;obtain⟨r,er,rfl⟩:=cf.mp ex;obtain⟨ru,e1,p,v1,v2⟩:=cS.get er;have oq:=cb e1;have MV:=h8 ru oq;have fo:(aa.take (i+1)).foldl (sstep bt) (g2,false)=sstep bt (g3,tO) ru:=by
    rw [cV,e1,List.foldl_append,<-e3];rfl
   rw [fo];have Np:=S3.sm.tup hd v2;refine⟨r,_,rfl,S3.sm.tup hd v1,rfl,_,_,rfl,_,_,rfl,rfl,?_⟩;refine⟨_,rfl,p,rfl,⟨_,Np⟩,λD2 iP=>tN rfl Np ∅ S3.hd iP λH7 WE hd7=>?_⟩;have S4:=S3.same WE;have v4:=WE.tup Np;have eb:(ru.2.map λz=>(a_ k9 (Sum.inr z)).isSome).all id=ij g3 ru:=by
    unfold ij;rw [List.all_map];refine List.all_congr rfl λz=>?_;show (a_ k9 (Sum.inr z)).isSome=_;rw [S3.val,nU]
   refine⟨D2,_,rfl,aG.of hd7,_,rfl,?_⟩;rw [eb];refine dJ (λc4=>?_) (λc4=>?_)
   .have al:∀z∈ru.2,(g3 z).isSome=true:=λz hz=>fM.mp c4 z hz;refine⟨_,rfl,p,rfl,⟨_,v4⟩,λD3 IW=>Cs (g:=g3) rfl v4 ∅ S4.hd S4.val al IW λH8 Mp FO=>?_⟩;have S5:=S4.same Mp;have esz:1+(ru.2.map λz=>(g3 z).getD 0).sum=aM g3 ru:=rfl;refine⟨D3,_,rfl,aG.of FO,_,_,rfl,rfl,?_⟩;have mem:(a_ k9 (Sum.inr ru.1)).isSome=(g3 ru.1).isSome:=by rw [S5.val,nU]
    have fl5:=S5.sm fl _ (λz=>by rw [z,hd] at EI;cases EI) EI;have c5':=S5.sm c' _ (λz=>by rw [z,hd] at j7;cases j7) j7;have l5:=S5.len;refine⟨_,rfl,_,rfl,d,_,rfl,cm.k (k:=Sum.inr ru.1) S5.hd,_,rfl,?_⟩;refine dJ (λc5=>?_) (λc5=>?_)
    .have fr:bZ bt g3 ru=true:=by
      unfold bZ;rw [<-mem,c4,c5];rfl
     refine⟨_,rfl,_,rfl,_,rfl,d,_,rfl,oz.k (k:=Sum.inr ru.1) S5.hd (bQ ∅),?_⟩;exact⟨_,_,de g3 ru.1 (aM g3 ru),true,_,_,_,rfl,S5.put oq (aM g3 ru),(az fr).symm⟩
    have isS:(g3 ru.1).isSome=true:=by
     rw [mem] at c5;cases hq:(g3 ru.1).isSome with
     | true=>rfl
     | false=>rw [hq] at c5;exact absurd rfl c5
    obtain⟨k,ek⟩:=kq.mp isS;have hg:cm H8 d (.str ru.1) (some (.int k)):=by
     have:=cm.k (k:=Sum.inr ru.1) S5.hd;rw [S5.val,ek] at this;exact this
    refine⟨fl,pm,c',fC,rfl,_,rfl,_,rfl,_,rfl,d,_,rfl,hg,fl5,c5',rfl,T6 (aM g3 ru) k _ _ ⟨_,rfl,?_⟩⟩;refine dJ (λc6=>?_) (λc6=>?_)
    .have fr:bZ bt g3 ru=true:=by
      unfold bZ;rw [c4,ek];show (true && (false || bt (aM g3 ru) k))=true
      rw [c6];rfl
     refine⟨_,rfl,_,rfl,_,rfl,d,_,rfl,oz.k (k:=Sum.inr ru.1) S5.hd (bQ ∅),?_⟩;exact⟨_,_,de g3 ru.1 (aM g3 ru),true,_,_,_,rfl,S5.put oq (aM g3 ru),(az fr).symm⟩
    have fr:¬bZ bt g3 ru=true:=by
     unfold bZ;rw [c4,ek];show ¬(true && (false || bt (aM g3 ru) k))=true
     rw [pS.mpr c6];exact nofun
    exact⟨k9,CJ,g3,tO,_,_,_,rfl,S5,(aA fr).symm⟩
   have e5:sstep bt (g3,tO) ru=(g3,tO):=aA (λz=>c4 (by unfold bZ at z;exact(lW.mp z).1));exact⟨k9,CJ,g3,tO,_,_,_,rfl,S4,e5.symm⟩
  rintro σ H6 ⟨k9,CJ,g3,tO,y4,y5,y6,rfl,S3,e3⟩;rw [aB,ll,cE] at e3;exact⟨k9,CJ,g3,tO,_,_,_,rfl,S3,e3⟩
 rcases cs with ⟨c',_⟩ | ⟨_,se⟩
 .rw [c'] at c;exact absurd rfl c
 exact⟨_,rfl,qq eP QR g2 H5 S2.sm S2.hd S2.keys S2.val FE se (by have:=S2.len;omega)⟩
end
end eX
namespace M11
open PySem L2
theorem fold_lt {bt:Int->Int->Bool}{aa:List ay}{J:G->Prop}{r:G->G->Prop}(tr:∀a b c,r a b->r b c->r a c)
  (jn:∀g ru,J g->ru∈aa->bZ bt g ru=true->J (de g ru.1 (aM g ru))/\r (de g ru.1 (aM g ru)) g) :
  ∀(l:List ay)(a:G×Bool),(∀ru∈l,ru∈aa)->J a.1->J (l.foldl (sstep bt) a).1/\(l.foldl (sstep bt) a=a\/r (l.foldl (sstep bt) a).1 a.1)
 | [],a,_,j=>⟨j,.inl rfl⟩
 | ru::l,a,h,j=>by
  by_cases c:bZ bt a.1 ru=true
  .have e:sstep bt a ru=(de a.1 ru.1 (aM a.1 ru),true):=az c;obtain⟨j1,r1⟩:=jn a.1 ru j (h ru bX) c;obtain⟨j2,r2⟩:=fold_lt tr jn l (de a.1 ru.1 (aM a.1 ru),true) (λx hx=>h x (bS _ hx)) j1;rw [List.foldl_cons,e];refine⟨j2,.inr ?_⟩;rcases r2 with r2 | r2
   .rw [r2];exact r1
   exact tr _ _ _ r2 r1
  have e:sstep bt a ru=a:=aA c;rw [List.foldl_cons,e];exact fold_lt tr jn l a (λx hx=>h x (bS _ hx)) j
def w_ {bt:Int->Int->Bool}{aa:List ay}{J:G->Prop}{r:G->G->Prop}(tr:∀a b c,r a b->r b c->r a c)
  (jn:∀g ru,J g->ru∈aa->bZ bt g ru=true->J (de g ru.1 (aM g ru))/\r (de g ru.1 (aM g ru)) g){g:G}(h:Acc r g)(j:J g):∃n,oy bt aa n g:=by
 induction h with
 | intro g _ ih =>
  cases c:(rS bt aa g).2 with
  | false=>exact⟨0,c⟩
  | true =>
   obtain⟨j2,r2⟩:=fold_lt tr jn aa (g,false) (λ_ h=>h) j;have r3:r (rS bt aa g).1 g:=by
    rcases r2 with r2 | r2
    .have e:(rS bt aa g)=(g,false):=r2;rw [e] at c;cases c
    exact r2
   obtain⟨n,hn⟩:=ih _ r3 j2;exact⟨n+1,.inr hn⟩
def cI.keep {bt:Int->Int->Bool}{aa:List ay}{J:G->Prop}(jn:∀g ru,J g->ru∈aa->bZ bt g ru=true->J (de g ru.1 (aM g ru))){g g':G}(h:cI bt aa g g')(j:J g):J g':=by
 induction h with
 | refl=>exact j
 | step _ a b ih=>exact jn _ _ ih a b
def eB (f:Str->Nat) (hs:List Str):Nat:=(hs.map f).sum
theorem vW {f k:Str->Nat}:∀{hs:List Str},(∀x∈hs,f x<=k x)->eB f hs<=eB k hs
 | [],_=>aI _
 | h::r,q=>by
  have h1:=q h bX;have h2:=vW (hs:=r) λx hx=>q x (bS _ hx);show f h+eB f r<=k h+eB k r;omega
theorem l7 {f k:Str->Nat}:∀{hs:List Str}{h:Str},(∀x∈hs,f x<=k x)->h∈hs->f h < k h->eB f hs < eB k hs
 | a::r,h,q,m,l=>by
  have h1:=q a bX;have h2:∀x∈r,f x<=k x:=λx hx=>q x (bS _ hx);show f a+eB f r < k a+eB k r;rcases bN.mp m with z | z
  .have:=vW h2;rw [z] at l;omega
  have:=l7 h2 z l;omega
theorem i3 (g:G)(J:∀z n,g z=some n->(0:Int)<=n):∀ps:List Str,0<=(ps.map λp=>(g p).getD 0).sum
 | []=>by simp
 | p::r=>by
  have h1:=i3 g J r;have h2:0<=(g p).getD 0:=by
   cases e:g p with
   | none=>exact iU _
   | some n=>exact J p n e
  rw [bG,jc];omega
def NN (g:G):Prop:=∀z n,g z=some n->(0:Int)<=n
def u_ {g:G}(j:NN g)(ru:ay):NN (de g ru.1 (aM g ru)):=λz n e=>by
 unfold de at e;by_cases c:z=ru.1
 .rw [az c] at e;cases e;have:=i3 g j ru.2;unfold aM;omega
 rw [aA c] at e;exact j z n e
def bl (a b:Int):Bool:=decide (a < b)
def bg (a b:Int):Bool:=decide (a > b)
def zm (hs:List Str)(g' g:G):Prop :=
 eB (λh=>if (g' h).isSome then 0 else 1) hs < eB (λh=>if (g h).isSome then 0 else 1) hs \/
 (eB (λh=>if (g' h).isSome then 0 else 1) hs=eB (λh=>if (g h).isSome then 0 else 1) hs/\eB (λh=>((g' h).getD 0).toNat) hs < eB (λh=>((g h).getD 0).toNat) hs)
def Hf (hs:List Str)(g:G):Acc (zm hs) g:=by
 have wf:=(Prod.lex (β:=Nat) (α:=Nat) ⟨(· < ·),Nat.lt_wfRel.wf⟩ ⟨(· < ·),Nat.lt_wfRel.wf⟩).wf;have key:∀p:Nat×Nat,∀g:G,(eB (λh=>if (g h).isSome then 0 else 1) hs,eB (λh=>((g h).getD 0).toNat) hs)=p->Acc (zm hs) g:=λp=>by
  induction p using wf.induction with
  | _ p ih =>
   intro g e;refine⟨g,λg' r=>ih _ ?_ g' rfl⟩;rw [<-e];rcases r with r | ⟨r1,r2⟩
   .exact Prod.Lex.left _ _ r
   show Prod.Lex _ _ (eB (λh=>if (g' h).isSome then 0 else 1) hs,_) _;rw [r1];exact Prod.Lex.right _ r2
 exact key _ g rfl
def KJ (hs:List Str)(a b c:G)(h:zm hs a b)(k:zm hs b c):zm hs a c:=by
 unfold zm at *;omega
def Es {aa:List ay}(g:G)(ru:ay)(j:NN g)(m:ru∈aa)(f:bZ bl g ru=true):NN (de g ru.1 (aM g ru))/\zm (aa.map (·.1)) (de g ru.1 (aM g ru)) g:=by
 refine⟨u_ j ru,?_⟩;have hm:ru.1∈aa.map (·.1):=iE m;have nn:=u_ j ru;have xC:de g ru.1 (aM g ru) ru.1=some (aM g ru):=az rfl;have ne:∀z,z≠ru.1->de g ru.1 (aM g ru) z=g z:=λz n=>aA n;unfold bZ at f;have f2:=(lW.mp f).2;cases e:g ru.1 with
 | none =>
  refine .inl (l7 (λx _=>?_) hm ?_)
  .by_cases c:x=ru.1
   .show (if (de g ru.1 (aM g ru) x).isSome then 0 else 1)<=_;rw [c,xC];exact fR _
   show (if (de g ru.1 (aM g ru) x).isSome then 0 else 1)<=_;rw [ne x c];exact aI _
  show (if (de g ru.1 (aM g ru) ru.1).isSome then 0 else 1) < (if (g ru.1).isSome then 0 else 1);rw [xC,e];show 0 < 1;exact Nat.one_pos
 | some k =>
  rw [e] at f2;have lt:aM g ru < k:=d6 (by simpa [bl] using f2);have h0:=nn ru.1 _ xC;refine .inr ⟨?_,l7 (λx _=>?_) hm ?_⟩
  .unfold eB
   congr 1
   refine List.map_congr_left λx _=>?_;by_cases c:x=ru.1
   .show (if (de g ru.1 (aM g ru) x).isSome then 0 else 1)=(if (g x).isSome then 0 else 1);rw [c,xC,e];rfl
   show (if (de g ru.1 (aM g ru) x).isSome then 0 else 1)=(if (g x).isSome then 0 else 1);rw [ne x c]
  .by_cases c:x=ru.1
   .show ((de g ru.1 (aM g ru) x).getD 0).toNat<=((g x).getD 0).toNat;rw [c,xC,e];show (aM g ru).toNat<=k.toNat;omega
   show ((de g ru.1 (aM g ru) x).getD 0).toNat<=((g x).getD 0).toNat;rw [ne x c];exact aI _
  show ((de g ru.1 (aM g ru) ru.1).getD 0).toNat < ((g ru.1).getD 0).toNat;rw [xC,e];show (aM g ru).toNat < k.toNat;omega
def zo (aa:List ay)(g:G)(j:NN g):∃n,oy bl aa n g:=w_ (KJ (aa.map (·.1))) (λg ru=>Es g ru) (Hf _ g) j
inductive Em (aa:List ay):Str->Prop
 | mk {ru:ay}:ru∈aa->(∀p∈ru.2,Em aa p)->Em aa ru.1
def rH (aa:List ay)(b:Str->Int):Prop:=(∀z,0<=b z)/\∀ru∈aa,(∀p∈ru.2,Em aa p)->1+(ru.2.map b).sum<=b ru.1
def GJ (aa:List ay)(b:Str->Int)(g:G):Prop:=∀z n,g z=some n->0<=n/\n<=b z/\Em aa z
theorem Ab {aa:List ay}{b:Str->Int}{g:G}(j:GJ aa b g)(hb:∀z,0<=b z):∀ps:List Str,(ps.map λp=>(g p).getD 0).sum<=(ps.map b).sum
 | []=>by simp
 | p::r=>by
  have h1:=Ab j hb r;have h2:(g p).getD 0<=b p:=by
   cases e:g p with
   | none=>exact hb p
   | some n=>exact(j p n e).2.1
  rw [bG,jc,bG,jc];omega
def gm (b:Str->Int)(g:G)(h:Str):Nat:=if (g h).isSome then (b h - (g h).getD 0).toNat else (b h).toNat+1
def qS {aa:List ay}{b:Str->Int}(B:rH aa b)(g:G)(ru:ay)(j:GJ aa b g)(m:ru∈aa)(f:bZ bg g ru=true) :
  GJ aa b (de g ru.1 (aM g ru))/\eB (gm b (de g ru.1 (aM g ru))) (aa.map (·.1)) < eB (gm b g) (aa.map (·.1)):=by
 have hm:ru.1∈aa.map (·.1):=iE m;have xC:de g ru.1 (aM g ru) ru.1=some (aM g ru):=az rfl;have ne:∀z,z≠ru.1->de g ru.1 (aM g ru) z=g z:=λz n=>aA n;unfold bZ at f;obtain⟨f1,f2⟩:=lW.mp f;have em:∀p∈ru.2,Em aa p:=λp hp=>by
  obtain⟨n,en⟩:=kq.mp (fM.mp f1 p hp);exact(j p n en).2.2
 have bd:=B.2 ru m em;have sb:=Ab j B.1 ru.2;have s0:=i3 g (λz n e=>(j z n e).1) ru.2;have sz:0<=aM g ru/\aM g ru<=b ru.1:=by unfold aM;omega
 refine⟨λz n e=>?_,l7 (λx _=>?_) hm ?_⟩
 .by_cases c:z=ru.1
  .rw [c,xC] at e;cases e;rw [c];exact⟨sz.1,sz.2,.mk m em⟩
  rw [ne z c] at e;exact j z n e
 .by_cases c:x=ru.1
  .rw [c];unfold gm;rw [xC];show (b ru.1 - aM g ru).toNat<=_;cases e:g ru.1 with
   | none=>show _<=(b ru.1).toNat+1;omega
   | some k =>
    rw [e] at f2;have lt:aM g ru > k:=d6 (by simpa [bg] using f2);show _<=(b ru.1 - k).toNat;omega
  unfold gm;rw [ne x c];exact aI _
 unfold gm;rw [xC];show (b ru.1 - aM g ru).toNat < _;cases e:g ru.1 with
 | none=>show _ < (b ru.1).toNat+1;omega
 | some k =>
  rw [e] at f2;have lt:aM g ru > k:=d6 (by simpa [bg] using f2);show _ < (b ru.1 - k).toNat;omega
def zz {aa:List ay}{b:Str->Int}(B:rH aa b)(g:G)(j:GJ aa b g):∃n,oy bg aa n g :=
 w_ (r:=λg' g=>eB (gm b g') (aa.map (·.1)) < eB (gm b g) (aa.map (·.1))) (λ_ _ _ h k=>jA h k) (qS B) ((InvImage.wf (λg:G=>eB (gm b g) (aa.map λx:ay=>x.1)) Nat.lt_wfRel.wf).apply g) j
def wX {aa:List ay}{b:Str->Int}(B:rH aa b){g g':G}(h:cI bg aa g g')(j:GJ aa b g):GJ aa b g':=h.keep (λg ru a m f=>(qS B g ru a m f).1) j
end M11
namespace L2
open PySem
def xq {K:aV}{H:Hp}{p D:Addr}{zs:List Str}{σ:St}{v:V}{x:Str}{Qp:Hp->Prop}(hp:aG K H p (zs.map V.str))(hz:zs.length<=10000)(hD:H D=none)
  (q:∀ts H2,aC H H2->H2 D=some (.lst (ts.map V.ref))->Paired (λt h=>a9 K H2 t [.str h,v]) ts zs->Qp H2) :
  ∃W:Nat->Nat->List V->St->Hp->Prop,(∃m,W 0 m [] (df [x] [] σ) (upd H D (.lst []))) /\
 ∀i m ys σ' H,W i m ys σ' H->((iS K p).stop i H/\Qp H)\/((iS K p).go i H/\∃m',m' < m/\∀x H',(iS K p).kR i H x H'->du 0 x σ' H' λσ2 H2=>g6 σ2 H2 λb H3 =>
  if b=true then rQ (fu (fk 0) (fu (tC v) oZ)) σ2 H3 λy H4=>H4 D=some (.lst ys)/\ys.length < sizeLine/\W (i+1) m' (ys++[y]) σ2 (upd H4 D (.lst (ys++[y]))) else W (i+1) m' ys σ2 H3):=by
 refine bR (xs:=zs.map V.str) (λi ys σ2 H2=>∃ts:List Addr,ys=ts.map V.ref/\ts.length=i/\Paired (λt h=>a9 K H2 t [.str h,v]) ts (zs.take i)/\(∃y0,σ2=[y0])/\aC H H2/\H2 D=some (.lst ys))
  ⟨[],rfl,rfl,.nil,⟨none,rfl⟩,ah hD _,ae⟩ (λi ys σ2 H2 _ h=>?_) (λi x ys σ2 H2 ex h=>?_) (λys σ2 H2 h=>?_)
 .obtain⟨_,_,_,_,_,sm,_⟩:=h;exact sm.seq hp
 .obtain⟨ts,rfl,ht,om,⟨y0,rfl⟩,sm,hd⟩:=h;rw [aZ] at ex;obtain⟨z,ez,rfl⟩:=cf.mp ex;have li:=(bo.mp ez).1;refine goN (vq ?_);refine⟨_,rfl,qf,λt jk=>⟨?_,bQ (by rw [aB];omega),ts++[t],?_,?_,?_,⟨_,rfl⟩,?_,ae⟩⟩
  .rw [ai (au hd jk)];exact hd
  .rw [bI];rfl
  .rw [b9,ht];rfl
  .rw [cV,ez];have gO:upd H2 t (.tup [.str z,v]) D=some (.lst (ts.map V.ref)):=by rw [ai (au hd jk)];exact hd
   exact ft (Paired.eF om λt' h' z=>a7 gO ((ah jk _).tup z)) (a7 gO (a9.of ae))
  intro b o hb;rw [ai (λz=>by rw [z,hD] at hb;cases hb)];exact ah jk _ _ _ (sm b o hb)
 obtain⟨ts,rfl,ht,om,_,sm,hd⟩:=h;rw [aB,cE] at om;exact q ts H2 sm hd om
def Tab.same {T:Addr}{pos:Pos}{qual:Str}{H H':Hp}(h:Tab T pos qual H)(s:aC H H'):Tab T pos qual H':=by
 obtain⟨ps,a,b,c⟩:=h;refine⟨ps,s _ _ a,b,c.imp id ?_⟩;rintro⟨c',e,g⟩;exact⟨c',e,s _ _ g⟩
def Tab.Ip {T d:Addr}{pos:Pos}{qual:Str}{H H':Hp}{kvs:List (aJ×V)}(h:Tab T pos qual H)(s:fj d H H')(hd:H d=some (.dK kvs)):Tab T pos qual H':=by
 obtain⟨ps,a,b,c⟩:=h;refine⟨ps,s _ _ (λz=>by rw [z,hd] at a;cases a) a,b,c.imp id ?_⟩;rintro⟨c',e,g⟩;exact⟨c',e,s _ _ (λz=>by rw [z,hd] at g;cases g) g⟩
structure xH (K:aV)(x qual:Str)(st:Stmt)(f:Addr)(fd:FuncData)(T:Addr):Prop where
 ex:∃(oc:Value)(od:Option Addr)(kV doc pm:Value)(an:Option Addr)(c:Addr)(ct:Value)(u9:Array (Option Value)),
  fd=PySem.W.fnOf x qual (cY st) (bT st) (av st) .none kV doc pm an (.ref c) ct/\K.lookup f=some ⟨oc,od,.func fd,u9⟩/\PySem.W.codeIn K (.ref c) qual=true/\PySem.W.codeHdIn K c T=true
 kp:PySem.W.keepIn K (.ref f)=true
def xH.ok {P:Program}{w:World}{K:aV}{mg:Str->Option Value}{base:Heap}{x qual:Str}{st:Stmt}{f:Addr}{fd:FuncData}{T:Addr}{N ps:List Str}{k:Nat}{sp:Sp}(F:xH K x qual st f fd T)(S:aH N ps (av st))(len:∀vs H Q E,sp vs H Q E->vs.length=ps.length)
  (gB:∀(c:Addr)(A:Around)(outer:List Env)(s:Shared)(H:Hp)(vs:List V)(Q:VK)(E:XK),PySem.W.codeHdIn K c T=true->di k (A.deeper (PyProof.Rows.envOfC qual (av st) s.heap.objs.size f (.ref c)))->sp vs H Q E ->
   ∃t,vO (eQ fc P w K mg base N qual (av st) f (.ref c) A outer s H E).BR (bT st) t/\t { nx:=λ_ H'=>Q .dI H',rt:=Q } (start N vs) H):ba P w K mg base fc (k+1) f fd ps sp:=by
 obtain⟨oc,od,kV,doc,pm,an,c,ct,u9,rfl,lk,qR,hC⟩:=F.ex;refine wZ lk qR S len λA outer s H vs Q E hr tq=>?_;obtain⟨t,h,q⟩:=gB c A outer s H vs Q E hC hr tq;exact⟨t,h.BR,q⟩
theorem sW {v:V}:∀(hs:List Str)(bA:List (aJ×V)) (as:List Str),bA.map (·.1)=as.map Sum.inr->(cO (hs.map λh=>((Sum.inr h:aJ),v)) bA).map (·.1)=(M11.pA as hs).map Sum.inr
 | [],bA,as,e=>e
 | h::r,bA,as,e=>sW r (bC bA (Sum.inr h) v) (M11.gF as h) (eX.jM e h)
theorem qh {v:V}:∀(hs:List Str)(bA:List (aJ×V))(z:Str),a_ (cO (hs.map λh=>((Sum.inr h:aJ),v)) bA) (Sum.inr z)=if z∈hs then some v else a_ bA (Sum.inr z)
 | [],bA,z=>by simp [cO]
 | h::r,bA,z=>by
  have ih:=qh (v:=v) r (bC bA (Sum.inr h) v) z;show a_ (cO (r.map λh=>((Sum.inr h:aJ),v)) (bC bA (Sum.inr h) v)) (Sum.inr z)=_;rw [ih,vT];by_cases c:z∈r
  .rw [az c,az (bS _ c)]
  rw [aA c];by_cases c2:z=h
  .rw [az (by rw [c2]),az (by rw [c2];exact bX)]
  rw [aA (λe=>c2 (kM e)),aA (λe=>(bN.mp e).elim c2 c)]
end L2
namespace eX
open PySem L2 M11
def Ov:List Stmt->Arguments×Expr×Scope×Pos
 | [.Return (some (.Call _ [_,_,.Lambda p b s pos] _ _)) _]=>(p,b,s,pos)
 | _=>(⟨[],[],none,[],[],none,[]⟩,.Constant .none 0 ⟨0,0,0,0⟩,av qo,⟨0,0,0,0⟩)
abbrev qH:=Ov (bT qo)
abbrev zk:=Ov (bT uY)
abbrev xQ:Str := "least_sizes" ++ ".<locals>." ++ "<lambda>"
abbrev IF:Str := "greatest_empty_sizes" ++ ".<locals>." ++ "<lambda>"
def JO:aH ["size","known"] ["size","known"] qH.2.2.1:=iw rfl rfl rfl rfl nofun
def JP:aH ["size","known"] ["size","known"] zk.2.2.1:=iw rfl rfl rfl rfl nofun
section
def yT (F:gX K "settled_sizes" "settled_sizes" ml f fd)(T:Txt mg):ba P w K mg base fc 2 f fd ["rules","sizes","better"] (g7 K xQ qH.1 qH.2.1 qH.2.2.1 M11.bl) :=
 sR F T JO (λpm fC c' us hl=>match us,hl with | [_,_],_=>rfl) (λ_ _ _ _ _ _=>i6 mI (pv 0) (pv 1) (dq _)) (λa b H Q h=>⟨_,rfl,_,rfl,_,_,rfl,rfl,h⟩)
def yU (F:gX K "settled_sizes" "settled_sizes" ml f fd)(T:Txt mg):ba P w K mg base fc 2 f fd ["rules","sizes","better"] (g7 K IF zk.1 zk.2.1 zk.2.2.1 M11.bg) :=
 sR F T JP (λpm fC c' us hl=>match us,hl with | [_,_],_=>rfl) (λ_ _ _ _ _ _=>i6 AJ (pv 0) (pv 1) (dq _)) (λa b H Q h=>⟨_,rfl,_,rfl,_,_,rfl,rfl,h⟩)
def ph (aa:List ay):G:=λz=>if z∈rM (hd aa) [] (aa.flatMap (·.2)) then some 0 else none
def pG (K:aV)(T1:Addr):Sp:=λvs H Q _=>∃(R:Addr)(rs:List Addr)(aa:List ay),vs=[.ref R]/\aG K H R (rs.map V.ref)/\bJ K H rs aa/\aa.length<=1000/\(∀ru∈aa,ru.2.length<=8)/\Tab T1 qH.2.2.2 xQ H /\
 ∀(d:Addr)(kvs:List (aJ×V)) (ks:List Str)(g:G)(H':Hp),H d=none->fj T1 H H'->Tab T1 qH.2.2.2 xQ H'->H' d=some (.dK kvs)->kvs.map (·.1)=ks.map Sum.inr->(∀z,a_ kvs (Sum.inr z)=(g z).map V.int)->cI M11.bl aa (ph aa) g->eh M11.bl aa g->kvs.length<=20000->Q (.ref d) H'
def Gm:aH ["rules"] ["rules"] (av qo):=iw rfl rfl rfl rfl nofun
def Ed {T1:Addr}(F:xH K "least_sizes" "least_sizes" qo f fd T1)(T:Txt mg)(hB:rJ mg base)(GW:aK P w K mg base 1 "words_in" ["rules"] (Ag K))
  (GS:aK P w K mg base 2 "settled_sizes" ["rules","sizes","better"] (g7 K xQ qH.1 qH.2.1 qH.2.2.1 M11.bl)):ba P w K mg base fc 3 f fd ["rules"] (pG K T1):=by
 refine F.ok Gm (λvs H Q E h=>?_) (λc A outer s H vs Q E hC hr h=>?_)
 .obtain⟨R,rs,aa,rfl,_⟩:=h;rfl
 obtain⟨R,rs,aa,rfl,hR,cS,a8,h8,hT,q⟩:=h;refine⟨_,ao (bu (bU GS hr rfl (af (pv 0) (af (bc (dP rfl) rfl T.A4 fh (af
  (bK ["word"] [] rfl (bx (bU (GW.mono (by decide:1<=2)) hr rfl (af (pv 0) ak))) (bh rfl rfl) nofun rfl nofun
   (λ_ _ _ _ _=>aw (i:=0) (show (["word"]:List Str).Nodup by decide +kernel) rfl (bM rfl)) (λ_ _ _ _ _=>bW)
   (λ_ _ _ _ _=>cJ (af (pv 0) (af aq ak)))) ak)) (af (DN (T:=T1) rfl hC hB nofun) ak))))),?_⟩
 dsimp only [zL];refine⟨_,rfl,_,rfl,R,rs,aa,rfl,hR,cS,a8,h8,λD1 H1 f1 s1 e1=>?_⟩;have lw:(rM (hd aa) [] (aa.flatMap (·.2))).length<=8000:=by
  have h1:=uG (hd aa) (aa.flatMap (·.2)) [];have h2:=iR aa 1000 a8 h8;simp only [iC] at h1;omega
 refine⟨D1,rfl,⟨_,aG.of e1⟩,λD2 iP=>xq (aG.of e1) ∅ iP λts H2 s2 e2 p2=>?_⟩;have kp:Paired (λt (kv:aJ×V)=>a9 K H2 t [kV kv.1,kv.2]) ts ((rM (hd aa) [] (aa.flatMap (·.2))).map λh=>((Sum.inr h:aJ),V.int 0)):=cA p2 λ_ _ z=>z;refine⟨D2,ts,_,rfl,e2,kp,λd hd2=>?_⟩;have k1:=sW (v:=.int 0) (rM (hd aa) [] (aa.flatMap (·.2))) [] [] rfl;have k2:∀z,a_ (cO ((rM (hd aa) [] (aa.flatMap (·.2))).map λh=>((Sum.inr h:aJ),V.int 0)) []) (Sum.inr z)=(ph aa z).map V.int:=λz=>by
  rw [qh];unfold ph
  split <;> rfl
 have lk:=gk (rM (hd aa) [] (aa.flatMap (·.2))) [];simp only [iC] at lk;generalize cO ((rM (hd aa) [] (aa.flatMap (·.2))).map λh=>((Sum.inr h:aJ),V.int 0)) []=OA at k1 k2;have s3:=(s1.trans s2).trans (ah hd2 (.dK OA));have e3:upd H2 d (.dK OA) d=some (.dK OA):=ae;have vN:H d=none:=(s1.trans s2).free hd2;generalize upd H2 d (.dK OA)=H3 at s3 e3;refine⟨hT.same s3,λfl c' fC H4 s4 t4 ffl e4 Vk=>?_⟩;have nT:d≠T1:=λz=>by
  obtain⟨ps,a,_⟩:=hT.same s3;rw [<-z,e3] at a;cases a
 have rO:=s4 d _ nT e3;have SY:∀{a xs},a9 K H a xs->a9 K H4 a xs:=λ{a xs} h=>by
  obtain⟨ps,b,_⟩:=hT;rcases h with (h | ⟨u,h⟩) | h
  .exact .inl (.inl (s4 _ _ (λz=>by rw [z,b] at h;cases h) (s3 _ _ h)))
  .exact .inl (.inr ⟨u,s4 _ _ (λz=>by rw [z,b] at h;cases h) (s3 _ _ h)⟩)
  exact .inr h
 have S_:∀{a xs},aG K H a xs->aG K H4 a xs:=λ{a xs} h=>by
  obtain⟨ps,b,_⟩:=hT;rcases h with (h | ⟨u,h⟩) | h
  .exact .inl (.inl (s4 _ _ (λz=>by rw [z,b] at h;cases h) (s3 _ _ h)))
  .exact .inl (.inr ⟨u,s4 _ _ (λz=>by rw [z,b] at h;cases h) (s3 _ _ h)⟩)
  exact .inr h
 refine⟨R,rs,aa,d,fl,c',_,fC,OA,_,ph aa,rfl,S_ hR,cS.keep λ_ _ z=>SY z,a8,h8,rO,k1,lF _ lP,∅,k2,zo aa _ λz n e=>?_,e4,Vk,λk_ OB g' H5 s5 e5 k5 v5 st se W7=>?_⟩
 .unfold ph at e
  split at e
  .cases e;exact iU _
  cases e
 refine q d k_ OB g' H5 vN (λb o n hb=>s5 b o (λz=>?_) (s4 b o n (s3 b o hb))) (t4.Ip s5 rO) e5 k5 v5 st se W7;rw [z,vN] at hb;cases hb
def uL (K:aV)(T2:Addr):Sp:=λvs H Q _=>∃(R:Addr)(rs:List Addr)(aa:List ay)(b:Str->Int),vs=[.ref R]/\aG K H R (rs.map V.ref)/\bJ K H rs aa/\aa.length<=1000/\(∀ru∈aa,ru.2.length<=8)/\rH aa b/\Tab T2 zk.2.2.2 IF H /\
 ∀(d:Addr)(kvs:List (aJ×V)) (ks:List Str)(g:G)(H':Hp),H d=none->fj T2 H H'->Tab T2 zk.2.2.2 IF H'->H' d=some (.dK kvs)->kvs.map (·.1)=ks.map Sum.inr->(∀z,a_ kvs (Sum.inr z)=(g z).map V.int)->GJ aa b g->cI M11.bg aa (λ_=>none) g->eh M11.bg aa g->Q (.ref d) H'
def Gq:aH ["rules"] ["rules"] (av uY):=iw rfl rfl rfl rfl nofun
def Eg {T2:Addr}(F:xH K "greatest_empty_sizes" "greatest_empty_sizes" uY f fd T2)(hB:rJ mg base)
  (GS:aK P w K mg base 2 "settled_sizes" ["rules","sizes","better"] (g7 K IF zk.1 zk.2.1 zk.2.2.1 M11.bg)):ba P w K mg base fc 3 f fd ["rules"] (uL K T2):=by
 refine F.ok Gq (λvs H Q E h=>?_) (λc A outer s H vs Q E hC hr h=>?_)
 .obtain⟨R,rs,aa,b,rfl,_⟩:=h;rfl
 obtain⟨R,rs,aa,b,rfl,hR,cS,a8,h8,XU,hT,q⟩:=h;refine⟨_,ao (bu (bU GS hr rfl (af (pv 0) (af gA (af (DN (T:=T2) rfl hC hB nofun) ak))))),?_⟩;refine⟨_,rfl,λd vN=>?_⟩;have s3:=ah vN (.dK []);have e3:upd H d (.dK []) d=some (.dK []):=ae;generalize upd H d (.dK [])=H3 at s3 e3;refine⟨hT.same s3,λfl c' fC H4 s4 t4 ffl e4 Vk=>?_⟩;have nT:d≠T2:=λz=>by
  obtain⟨ps,a,_⟩:=hT.same s3;rw [<-z,e3] at a;cases a
 have rO:=s4 d _ nT e3;have SY:∀{a xs},a9 K H a xs->a9 K H4 a xs:=λ{a xs} h=>by
  obtain⟨ps,b,_⟩:=hT;rcases h with (h | ⟨u,h⟩) | h
  .exact .inl (.inl (s4 _ _ (λz=>by rw [z,b] at h;cases h) (s3 _ _ h)))
  .exact .inl (.inr ⟨u,s4 _ _ (λz=>by rw [z,b] at h;cases h) (s3 _ _ h)⟩)
  exact .inr h
 have S_:∀{a xs},aG K H a xs->aG K H4 a xs:=λ{a xs} h=>by
  obtain⟨ps,b,_⟩:=hT;rcases h with (h | ⟨u,h⟩) | h
  .exact .inl (.inl (s4 _ _ (λz=>by rw [z,b] at h;cases h) (s3 _ _ h)))
  .exact .inl (.inr ⟨u,s4 _ _ (λz=>by rw [z,b] at h;cases h) (s3 _ _ h)⟩)
  exact .inr h
 have j0:GJ aa b (λ_=>none):=λz n e=>nomatch e;refine⟨R,rs,aa,d,fl,c',_,fC,[],[],λ_=>none,rfl,S_ hR,cS.keep λ_ _ z=>SY z,a8,h8,rO,rfl,lP,fR _,λ_=>rfl,zz XU _ j0,e4,Vk,λk_ OB g' H5 s5 e5 k5 v5 st se W7=>?_⟩;refine q d k_ OB g' H5 vN (λb o n hb=>s5 b o (λz=>?_) (s4 b o n (s3 b o hb))) (t4.Ip s5 rO) e5 k5 v5 (wX XU st j0) st se;rw [z,vN] at hb;cases hb
end
end eX
namespace L2
open PySem PySem.Spec PyProof.Rows
def LJ (o:Obj):Nat:=match o.data with
 | .dict _ ep=>ep
 | _=>0
def Qq (d:Addr)(o:Obj)(kvs:List (aJ×V)):It :=
 ⟨λi H=>H d=some (.jo o (.dK kvs))/\i < kvs.length,λi H x H'=>H'=H/\∃kv,kvs[i]?=some kv/\x=kV kv.1,λi H=>H d=some (.jo o (.dK kvs))/\kvs.length<=i⟩
def zD {X:Cx}{ag:List (Addr×Obj)}{σ:St}{H:Hp}{s:Shared}{d:Addr}{o:Obj}{kvs:List (aJ×V)}(I:Inv X ag σ H s)(e:H d=some (.jo o (.dK kvs))) :
  (d == sysModules)=false/\∃vs,KV kvs vs/\s.heap.DictAt (aY X.prog X.w) d vs (LJ o):=by
 obtain⟨ho,hz,hs,vs,r,o',es,ep,h1,h2,h3,h4⟩:=(show bV X.prog X.w H s.heap d (.jo o (.dK kvs)) from I.bH d _ e);rw [ho] at h1;cases h1;refine⟨hs,vs,r,o,es,ho,h2,?_,h4⟩;unfold LJ;rw [h3]
def Bm {P:Program}{w:World}{K:aV}{tg:Expr}(d it:Addr)(o:Obj)(kvs:List (aJ×V)):Turn P w K tg (Qq d o kvs) [it] it (λi h=>h.IsKeyIter it d i kvs.length (LJ o)) where
 mem:=by simp
 obj:=λi h st b hb=>by
  have e:b=it:=by simpa using hb
  subst e;obtain⟨o,e,c,d⟩:=st;exact⟨o,e,λv z=>by rw [d] at z;cases z⟩
 keep:=λi h h' st k=>let ⟨o,e,r⟩:=st;⟨o,k it (by simp) o e,r⟩
 item:=by
  intro X hP hw hK hc i ag s σ H E I hf st hg;subst hP hw hK;obtain⟨hq,hi⟩:=hg;obtain⟨hs,vs,r,da⟩:=zD I hq;have l:=r.length;obtain⟨kv,Rh⟩:∃kv,kvs[i]?=some kv:=⟨kvs[i],cZ hi⟩;obtain⟨q,eq⟩:∃q,vs[i]?=some q:=⟨vs[i]'∅,cZ ∅⟩;have ek:kv.1=q.1:=by
   have:=congrArg (λl:List aJ=>l[i]?) r.keys;simp only [aZ,Rh,eq] at this;exact gM this
  obtain⟨f0,f1,f2,f3,f4,f5⟩:=hf it (by simp);rw [l] at st;refine wpAny_pyNext_dict_item (k:=q.1) (v:=q.2) st da eq λkey h' hk rR sb=>?_;have I1:Inv X ag σ H { s with heap:=h' }:=I.turned (t':=s.toks) (λb o hb e=>(sb.2 b hb).trans e) f0 f1 f3 f4 f5;obtain⟨o2,e,c,dd⟩:=id rR;rw [<-l] at rR;exact⟨key,rfl,AS (s:={ s with heap:=h' }) e c dd nofun ⟨kV kv.1,H,I1,by rw [ek];exact IL hk,⟨rfl,kv,Rh,rfl⟩,rR,λb hb=>(hf b hb).1⟩⟩
 done:=by
  intro X hP hw hK hc i ag s σ H E I hf st hg;subst hP hw hK;obtain⟨hq,hi⟩:=hg;obtain⟨hs,vs,r,da⟩:=zD I hq;have l:=r.length;obtain⟨f0,f1,f2,f3,f4,f5⟩:=hf it (by simp);rw [l] at st;exact wpAny_pyNext_dict_end (I.ok.hd hc) st da (uu ∅) λh' eb=>⟨rfl,I.turned (t':=s.toks) (λb o hb e=>eb b o hb e) f0 f1 f3 f4 f5⟩
 self:=λ_ _ _ _ _ st h=>wpAny_pyIter_keyiter st h
def OG (tl:TE):TI:=λσ H R=>tl σ H λx H1=>∃d kvs,x=.ref d/\H1 d=some (.dK kvs)/\∀o,R (Qq d o kvs) (upd H1 d (.jo o (.dK kvs)))
def AD {X:Cx}{tg l:Expr}{tl:TE}(hl:PE X l tl):PI X tg l (OG tl):=by
 intro ag s σ H R I h;refine cq (hl ag s σ H _ I h) λv s1 aT=>?_;obtain⟨x,H1,I1,r1,q1⟩:=aT;obtain⟨d,kvs,e,hd,q⟩:=q1;subst e;cases r1;obtain⟨hz,hs,vs,r,o,es,ep,h1,h2⟩:=(show bV X.prog X.w H1 s1.heap d (.dK kvs) from I1.bH d _ hd);have I2:Inv X ag σ (upd H1 d (.jo o (.dK kvs))) { s1 with heap:=s1.heap,toks:=s1.toks }:=I1.write (x:=d) (e:=d) (by rw [hd];exact True.intro) (.inl rfl) (λb u _ e=>e) ⟨o,h1⟩ ⟨h1,hz,hs,vs,r,o,es,ep,h1,h2⟩;have e2:upd H1 d (.jo o (.dK kvs)) d=some (.jo o (.dK kvs)):=ae;obtain⟨_,Wt,r2,da⟩:=zD I2 e2;have q2:=q o;generalize upd H1 d (.jo o (.dK kvs))=H2 at I2 e2 q2;refine wpAny_pyIter_dict hs da ?_;refine⟨s1.heap.objs.size,[s1.heap.objs.size],_,_,H2,rfl,I2.kept (t':=s1.toks) λb o e=>bD _ e,Bm d _ o kvs,⟨_,cQ _ rfl,rfl,by rw [r2.length];rfl⟩,λb hb=>?_,q2⟩;have e:b=s1.heap.objs.size:=by simpa using hb
 subst e;exact I2.vv (aI _) (I2.bH.fresh (aI _))
section
variable {d D:Addr}{o:Obj}{kvs:List (aJ×V)}{ts:List Str}{js:List (Nat×Str)}{g:TG}{tif:TT}{te:TE}{R:Hp->Prop}{σ:St}{H:Hp}
def rm (Pv:Nat->List V->St->Hp->Prop)(h0:Pv 0 [] (df ts js σ) (upd H D (.lst [])))(hl:∀i ys σ H,i<=kvs.length->Pv i ys σ H->H d=some (.jo o (.dK kvs)))
  (hs:∀i kv ys σ H,kvs[i]?=some kv->Pv i ys σ H->g (kV kv.1) σ H λσ2 H2=>tif σ2 H2 λb H3=>if b=true then te σ2 H3 λy H4=>H4 D=some (.lst ys)/\ys.length < sizeLine/\Pv (i+1) (ys++[y]) σ2 (upd H4 D (.lst (ys++[y]))) else Pv (i+1) ys σ2 H3)
  (hd:∀ys σ H,Pv kvs.length ys σ H->R H) :
  ∃W:Nat->Nat->List V->St->Hp->Prop,(∃m,W 0 m [] (df ts js σ) (upd H D (.lst []))) /\
 ∀i m ys σ' H,W i m ys σ' H->((Qq d o kvs).stop i H/\R H)\/((Qq d o kvs).go i H/\∃m',m' < m/\∀x H',(Qq d o kvs).kR i H x H'->g x σ' H' λσ2 H2=>tif σ2 H2 λb H3 =>
  if b=true then te σ2 H3 λy H4=>H4 D=some (.lst ys)/\ys.length < sizeLine/\W (i+1) m' (ys++[y]) σ2 (upd H4 D (.lst (ys++[y]))) else W (i+1) m' ys σ2 H3):=by
 refine⟨λi m ys σ H=>m=kvs.length - i/\i<=kvs.length/\Pv i ys σ H,⟨kvs.length,by simp,fR _,h0⟩,?_⟩;rintro i m ys σ' H ⟨rfl,hi,p⟩;have q:=hl i ys σ' H hi p;by_cases hV:i < kvs.length
 .refine .inr ⟨⟨q,hV⟩,kvs.length - (i+1),∅,λx H' y=>?_⟩;obtain⟨e,kv,Rh,rfl⟩:=y;subst e;have z:=hs i kv ys σ' _ Rh p;have h1:(i+1<=kvs.length)=True:=eq_true hV;simp only [h1,true_and];exact z
 have e:i=kvs.length:=by omega
 subst e;exact .inl ⟨⟨q,aI _⟩,hd ys σ' H p⟩
end
def tJ {A:Around}{s:Shared}{l b:Addr}{ys xs:List Int}{aO ja:List Value}(r:aS (ys.map V.int) aO)(r2:aS (xs.map V.int) ja)(hl:s.heap.IsList l aO.toArray)(hb:s.heap.IsList b ja.toArray)(ne:l≠b)(hu:A.units < cLine) :
  SeqAt.EqAt A s (.ref l) (.ref b) (decide (ys=xs)):=by
 have l1:=r.length;have l2:=r2.length;rw [aB] at l1 l2;by_cases a8:ys.length=xs.length
 .have h:=SeqAt.RcAt.lists (A:=A) (e:=λj=>decide (ys[j]?=xs[j]?)) hl hb (by simp only [bO];omega) hu λj h1 h2=>?_
  .have e:((List.range aO.toArray.size).all λj=>decide (ys[j]?=xs[j]?))=decide (ys=xs):=by
    rw [kc,fM,decide_eq_true_iff];constructor
    .intro h;refine List.ext_getElem? λj=>?_;by_cases c:j < ys.length
     .exact d6 (h j (lM.mpr (by simp only [bO];omega)))
     rw [uu ∅,uu ∅]
    intro h j _;rw [h];exact cM rfl
   rw [e] at h;exact .of_refs ne h
  have k1:j < aO.length:=by simpa using h1
  have k2:j < ja.length:=by simpa using h2
  have e1:ys[j]?=some (ys[j]'∅):=cZ ∅;have e2:xs[j]?=some (xs[j]'∅):=cZ ∅;obtain⟨u1,f1,q1⟩:=r.get (show (ys.map V.int)[j]?=some (.int (ys[j]'∅)) by rw [aZ,e1];rfl);obtain⟨u2,f2,q2⟩:=r2.get (show (xs.map V.int)[j]?=some (.int (xs[j]'∅)) by rw [aZ,e2];rfl);have g1:aO.toArray[j]=u1:=by
   have:=(bo.mp f1).2;simpa using this
  have g2:ja.toArray[j]=u2:=by
   have:=(bo.mp f2).2;simpa using this
  rw [g1,g2,e1,e2];obtain⟨t1,rfl⟩:=q1;obtain⟨t2,rfl⟩:=q2;have:=SeqAt.EqAt.int_int (A:=A.in1) (s:=s) (ys[j]'∅) t1 (xs[j]'∅) t2;have e3:(ys[j]'∅ == xs[j]'∅)=decide (some (ys[j]'∅)=some (xs[j]'∅)):=by
   rw [kc,beq_iff_eq,decide_eq_true_iff,Option.some.injEq]
  rw [e3] at this;exact this
 have h:=SeqAt.RcAt.lists_lengths (A:=A) hl hb (by simp only [bO,bne_iff_ne];omega) hu;rw [ff (λz=>a8 (by rw [z]))];exact .of_refs ne h
def BD {X:Cx}(hu:X.A.units+1 < cLine):j9 X (compareOp .In) (λx y H Q=>∃t a l1 l2 xs ys zs,x=.ref a/\y=.ref t/\a9 X.K H t [.ref l1,.ref l2]/\aG X.K H a (List.map V.int xs)/\aG X.K H l1 (List.map V.int ys)/\aG X.K H l2 (List.map V.int zs)/\l1≠a/\l2≠a /\
  Q (.bl (decide (ys=xs) || decide (zs=xs))) H):=by
 intro ag s σ H x y v u Q I rx ry h;obtain⟨t,a,l1,l2,xs,ys,zs,rfl,rfl,ht,ha,h1,h2,n1,n2,q⟩:=h;cases rx;cases ry;obtain⟨aO,r,pl,hz⟩:=I.tuple ht;obtain⟨u1,u2,rfl,q1,q2⟩:=vals2 r;cases (show u1=Value.ref l1 from q1);cases (show u2=Value.ref l2 from q2);obtain⟨xa,ra,pa,za⟩:=I.list ha;obtain⟨x1,r1,p1,z1⟩:=I.list h1;obtain⟨x2,r2,p2,z2⟩:=I.list h2;have e1:=tJ (A:=X.A.in1) (s:=s) r1 ra p1.isList pa.isList n1 hu;have e2:=tJ (A:=X.A.in1) (s:=s) r2 ra p2.isList pa.isList n2 hu;refine SeqAt.in_tupleAt (λy=>if y == .ref l1 then decide (ys=xs) else decide (zs=xs)) (show s.heap.IsTuple t #[.ref l1,.ref l2] from pl) (λy hy=>?_) ?_
 .have hy':y=.ref l1\/y=.ref l2:=by simpa using hy
  by_cases c:y=.ref l1
  .subst c;rw [az (qa _)];exact e1
  rcases hy' with z | z
  .exact absurd z c
  subst z;rw [aA (λq=>c (eq_of_beq q))];exact e2
 refine⟨.bl (decide (ys=xs) || decide (zs=xs)),H,I,?_,q⟩
 show Value.bool _=Value.bool _
 congr 1
 by_cases c:l2=l1
 .subst c;have e3:=I.qI h1 h2;have e4:ys=zs:=by
   have:=congrArg (List.map λv:V=>match v with | .int n=>n | _=>0) e3
   simpa [iz,Function.comp_def] using this
  subst e4;simp
 simp [c]
end L2
namespace M11
open PySem L2
def xV (b:Str->Bool) (zs:List Str) (i:Nat):List Int:=((List.range i).filter λj=>!(zs[j]?.elim true b)).map λj:Nat=>(j:Int)
def w5 (b:Str->Bool) (zs:List Str) (i:Nat){z:Str}(e:zs[i]?=some z):xV b zs (i+1)=xV b zs i++(if b z=true then [] else [(i:Int)]):=by
 unfold xV;rw [List.range_succ,oC,bI]
 congr 1
 by_cases h:b z=true
 .rw [az h];simp [e,h]
 rw [aA h];simp [e,h]
def HB (b:Str->Bool) (zs:List Str) (i:Nat):(xV b zs i).length<=i:=by
 unfold xV;rw [aB];have:=kn (λj=>!(zs[j]?.elim true b)) (List.range i);rw [ub] at this;exact this
def vh (b:Str->Bool) (zs:List Str) (j:Nat):Bool:=decide ([]=xV b zs zs.length) || decide ([(j:Int)]=xV b zs zs.length)
def H_ (aa:List ay) (names:List Str)(b:Str->Bool)(n:Str) (k j:Nat):Prop:=∃ru z,aa[k]?=some ru/\ru.1=n/\ru.2[j]?=some z/\z∈names/\vh b ru.2 j=true
end M11
namespace L2
open PySem M11
def iT (p:Str×Addr):aJ×V:=(Sum.inr p.1,.ref p.2)
theorem ng:∀(ps bA:List (aJ×V)),((bA++ps).map (·.1)).Nodup->cO ps bA=bA++ps
 | [],bA,_=>by simp [cO]
 | p::r,bA,h=>by
  have n:a_ bA p.1=none:=by
   cases e:a_ bA p.1 with
   | none=>rfl
   | some v =>
    have hm:=(d8 bA p.1).mp (by rw [e];rfl);rw [bI,bG] at h;exact absurd rfl ((je.mp h).2.2 p.1 hm p.1 bX)
  show cO r (bC bA p.1 p.2)=_;rw [wq p.2 n,ng r (bA++[(p.1,p.2)]) (by rw [oB];exact h),oB];rfl
theorem fY:∀(ps:List (Str×Addr)),(ps.map (·.1)).Nodup->∀p∈ps,a_ (ps.map iT) (Sum.inr p.1)=some (.ref p.2)
 | q::r,h,p,hp=>by
  rw [bG] at h ⊢;rcases bN.mp hp with z | z
  .rw [z];exact dS rfl
  rw [dU,fY r (jr.mp h).2 p z];intro e;have e':q.1=p.1:=kM e;exact(jr.mp h).1 (by rw [e'];exact iE z)
def mJ (ps:List (Str×Addr)):(ps.map iT).map (·.1)=(ps.map (·.1)).map Sum.inr:=by
 rw [iz,iz];rfl
def rh {K:aV}{H:Hp}{p D:Addr}{zs:List Str}{σ:St}{x:Str}{Qp:Hp->Prop}(hp:aG K H p (zs.map V.str))(hz:zs.length<=10000)(hD:H D=none)
  (q:∀ts (ps:List (Str×Addr)) H2,aC H H2->H2 D=some (.lst (ts.map V.ref))->ps.map (·.1)=zs->Paired (λt (p:Str×Addr)=>a9 K H2 t [.str p.1,.ref p.2]) ts ps->(∀p∈ps,H2 p.2=some (.lst [])/\H p.2=none/\p.2≠D)->(ps.map (·.2)).Nodup->Qp H2) :
  ∃W:Nat->Nat->List V->St->Hp->Prop,(∃m,W 0 m [] (df [x] [] σ) (upd H D (.lst []))) /\
 ∀i m ys σ' H,W i m ys σ' H->((iS K p).stop i H/\Qp H)\/((iS K p).go i H/\∃m',m' < m/\∀x H',(iS K p).kR i H x H'->du 0 x σ' H' λσ2 H2=>g6 σ2 H2 λb H3 =>
  if b=true then rQ (fu (fk 0) (fu (NB oZ) oZ)) σ2 H3 λy H4=>H4 D=some (.lst ys)/\ys.length < sizeLine/\W (i+1) m' (ys++[y]) σ2 (upd H4 D (.lst (ys++[y]))) else W (i+1) m' ys σ2 H3):=by
 refine bR (xs:=zs.map V.str) (λi ys σ2 H2=>∃(ts:List Addr)(ps:List (Str×Addr)),ys=ts.map V.ref/\ts.length=i/\ps.map (·.1)=zs.take i/\Paired (λt (p:Str×Addr)=>a9 K H2 t [.str p.1,.ref p.2]) ts ps /\
   (∀p∈ps,H2 p.2=some (.lst [])/\H p.2=none/\p.2≠D)/\(ps.map (·.2)).Nodup/\(∃y0,σ2=[y0])/\aC H H2/\H2 D=some (.lst ys))
  ⟨[],[],rfl,rfl,rfl,.nil,by simp,by simp,⟨none,rfl⟩,ah hD _,ae⟩ (λi ys σ2 H2 _ h=>?_) (λi x ys σ2 H2 ex h=>?_) (λys σ2 H2 h=>?_)
 .obtain⟨_,_,_,_,_,_,_,_,_,sm,_⟩:=h;exact sm.seq hp
 .obtain⟨ts,ps,rfl,ht,hm,om,hl,hn,⟨y0,rfl⟩,sm,hd⟩:=h;rw [aZ] at ex;obtain⟨z,ez,rfl⟩:=cf.mp ex;have li:=(bo.mp ez).1;refine goN (vq ?_);refine⟨_,rfl,xM,λl lJ=>⟨qf,λt jk=>?_⟩⟩;have Oc:l≠D:=(au hd lJ).symm;have nt:t≠l:=λe=>by rw [e,ae] at jk;cases jk
  have OM:H2 t=none:=by rw [ai nt] at jk;exact jk
  have ZQ:t≠D:=(au hd OM).symm;have uN:aC H2 (upd (upd H2 l (.lst [])) t (.tup [.str z,.ref l])):=(ah lJ _).trans (ah jk _);have gO:=uN _ _ hd;have el:upd (upd H2 l (.lst [])) t (.tup [.str z,.ref l]) l=some (.lst []):=by rw [ai nt.symm,ae]
  have et:a9 K (upd (upd H2 l (.lst [])) t (.tup [.str z,.ref l])) t [.str z,.ref l]:=a9.of ae;generalize upd (upd H2 l (.lst [])) t (.tup [.str z,.ref l])=H4 at uN gO el et;refine⟨gO,bQ (by rw [aB];omega),ts++[t],ps++[(z,l)],by rw [bI];rfl,by rw [b9,ht];rfl,by rw [bI,hm,cV,ez];rfl,?_,?_,?_,⟨_,rfl⟩,?_,ae⟩
  .exact ft (Paired.eF om λt' h' z=>a7 gO (uN.tup z)) (a7 gO et)
  .intro p' oo;rcases bq.mp oo with h | h
   .obtain⟨a1,a2,a3⟩:=hl p' h;exact⟨by rw [ai a3];exact uN _ _ a1,a2,a3⟩
   rw [bE.mp h];exact⟨by rw [ai Oc];exact el,sm.free lJ,Oc⟩
  .rw [bI];refine je.mpr ⟨hn,by simp,λa ha b hb e=>?_⟩;rw [nV,bE] at hb;obtain⟨p',oo,rfl⟩:=cU.mp ha;have:=(hl p' oo).1;rw [e,hb] at this;rw [show H2 l=none from lJ] at this;cases this
  intro b o hb;rw [ai (λz=>by rw [z,hD] at hb;cases hb)];exact uN _ _ (sm b o hb)
 obtain⟨ts,ps,rfl,ht,hm,om,hl,hn,_,sm,hd⟩:=h;rw [aB,cE] at hm;exact q ts ps H2 sm hd hm om hl hn
def xu {K:aV}{H:Hp}{p D d:Addr}{zs:List Str}{kvs:List (aJ×V)}{σ:St}{js:List (Nat×Str)}{Qp:Hp->Prop}(hσ:df ["place","part"] js σ=[none,none,br d])(hp:a9 K H p (zs.map V.str))(hz:zs.length<=1000)
  (hd:H d=some (.dK kvs))(hD:H D=none)(q:∀H2,aC H H2->H2 D=some (.lst ((xV (λz=>(a_ kvs (Sum.inr z)).isSome) zs zs.length).map V.int))->Qp H2) :
  ∃W:Nat->Nat->List V->St->Hp->Prop,(∃m,W 0 m [] (df ["place","part"] js σ) (upd H D (.lst []))) /\
 ∀i m ys σ' H,W i m ys σ' H->((rE K p).stop i H/\Qp H)\/((rE K p).go i H/\∃m',m' < m/\∀x H',(rE K p).kR i H x H'->Cj K 2 (jO (du 0) (jO (du 1) ET)) x σ' H' λσ2 H2=>tB (z8 (fk 1) (fk 2)) σ2 H2 λb H3 =>
  if b=true then fk 0 σ2 H3 λy H4=>H4 D=some (.lst ys)/\ys.length < sizeLine/\W (i+1) m' (ys++[y]) σ2 (upd H4 D (.lst (ys++[y]))) else W (i+1) m' ys σ2 H3):=by
 refine xx (xs:=zs.map V.str) (λi ys σ2 H2=>ys=(xV (λz=>(a_ kvs (Sum.inr z)).isSome) zs i).map V.int/\(∃y0 y1,σ2=[y0,y1,br d])/\aC H H2/\H2 D=some (.lst ys))
  ⟨rfl,⟨none,none,hσ⟩,ah hD _,ae⟩ (λi ys σ2 H2 _ h=>h.2.2.1.tup hp) (λi x ys σ2 H2 t ex h ht=>?_) (λys σ2 H2 h=>?_)
 .obtain⟨rfl,⟨y0,y1,rfl⟩,sm,hd2⟩:=h;rw [aZ] at ex;obtain⟨z,ez,rfl⟩:=cf.mp ex;have li:=(bo.mp ez).1;have uN:=sm.trans (ah ht (.tup [.int (i:Int),.str z]));have gO:upd H2 t (.tup [.int (i:Int),.str z]) D=some (.lst ((xV (λz=>(a_ kvs (Sum.inr z)).isSome) zs i).map V.int)):=by rw [ai (au hd2 ht)];exact hd2
  have hv:a9 K (upd H2 t (.tup [.int (i:Int),.str z])) t [.int (i:Int),.str z]:=a9.of ae;generalize upd H2 t (.tup [.int (i:Int),.str z])=H3 at uN gO hv;have fl:=HB (λz=>(a_ kvs (Sum.inr z)).isSome) zs i;refine⟨t,_,rfl,hv,rfl,_,_,rfl,_,_,rfl,rfl,?_⟩;refine⟨_,rfl,_,rfl,d,_,rfl,cm.k (k:=Sum.inr z) (uN _ _ hd),_,rfl,?_⟩;refine dJ (λc=>?_) (λc=>?_)
  .refine⟨_,rfl,gO,bQ (by rw [aB];omega),?_,⟨_,_,rfl⟩,?_,ae⟩
   .rw [w5 _ zs i ez,aA (λe=>by rw [e] at c;exact absurd c nofun),bI];rfl
   intro b o hb;rw [ai (λz=>by rw [z,hD] at hb;cases hb)];exact uN b o hb
  refine⟨?_,⟨_,_,rfl⟩,uN,gO⟩;rw [w5 _ zs i ez,az,fV];cases hq:(a_ kvs (Sum.inr z)).isSome with
  | true=>rfl
  | false=>exact absurd (by rw [hq];rfl) c
 obtain⟨rfl,_,sm,hd2⟩:=h;rw [aB] at hd2;exact q H2 sm hd2
open PySem PySem.Spec PyProof.Rows
def gi {X:Cx}{elt iter tg:Expr}{iy:Nat}{y:Str}{py NQ:Pos}{ifs:List Expr}{scope:Scope}{pos:Pos}{wi:TI}{g:TG}{tif:TT}{te:TE}(ts:List Str)(js:List (Nat×Str))(hN:X.N.Nodup)(hiy:X.N[iy]?=some y)(hy:X.env.scope.names.lookup y=some .local)(hc:X.calm=true)(hi:PI X tg iter wi)
  (cp:Ib X scope js)(iO:∀y∈scope.names,y.2≠.cell)(iN:scope.kind=.function)
  (zw:∀y∈scope.names,y.2=.local->scope.names.lookup y.1=some .local)
  (hg:∀cl C s1 H1 fp,PG (rb X scope cl C s1 H1 (ts++js.map (·.2)) fp) tg g)
  (Uw:∀cl C s1 H1 fp,CG (rb X scope cl C s1 H1 (ts++js.map (·.2)) fp) ifs tif)(he:∀cl C s1 H1 fp,PE (rb X scope cl C s1 H1 (ts++js.map (·.2)) fp) elt te)
  (hsw:swapsWith (.ListComp elt [⟨tg,iter,ifs,0⟩] scope pos) (some (.Name y py)) NQ.line X.env=pure true:=by rfl)(hs:∀x,foldedSetIterable iter X.env x=pure x:=by intro _;rfl) :
  PS X (.Assign [.Name y py] (.ListComp elt [⟨tg,iter,ifs,0⟩] scope pos) NQ) (JK (C7 wi ts js g tif te) (du iy)):=by
 intro ag s σ H DD I h;rw [exec_Assign_Name_used _ _ _ _ hsw];refine ax (wpAny_standAt (ax ?_));show wpAny _ _ (do let _ <-comprehension (.ListComp elt [⟨tg,iter,ifs,0⟩] scope pos) scope X.env _ (newList []) false (eval iter X.env) (some (assign (.Name y py) X.env))) _ _ s;obtain⟨cl,lK⟩:=vB (env:=X.env) (scope:=scope) λy hy=>I.ok.has y (.inl (cp.all y hy));refine ax (cv (wpAny_comprehension_free (use:=some (assign (.Name y py) X.env)) (Q:=λ_ s'=>SP X ag DD .next s') rfl hs lK.eq iN zw (cq (hi ag s σ H _ I h) λv s1 h1=>cq h1 λQS s2 h2=>?_)) (λ_ s' hq=>aD (aD hq)) λ_ _ e=>e);obtain⟨it,fp,tn,J,H2,e,I2,T,FE,f2,h2⟩:=h2;subst e;obtain⟨W,⟨m0,w0⟩,turn⟩:=h2 s2.heap.objs.size I2.fresh;have EI:∀b∈fp,b < s2.heap.objs.size:=λb hb=>by obtain⟨o,e,_⟩:=T.obj _ _ FE b hb;exact aW e
 refine ju (wpAny_newFunctionEnv iO (by intro y hy;simp at hy) (λh₁ zu vm=>?_) iN);dsimp only at zu vm ⊢;generalize Lq:s2.heap.push { cls:=.type "list",dict:=none,data:=.seq ([]:List Value).toArray }=G2 at zu vm ⊢;have Hv:G2.objs.size=s2.heap.objs.size+1:=by rw [<-Lq,kO]
 have UW:s2.heap.objs.size≠G2.objs.size:=by rw [Hv];exact bB (lR _)
 have old:∀b o,s2.heap.get? b=some o->h₁.get? b=some o:=λb o e =>
  vm.extBut b o (by rw [Hv];exact bB (uc (aW e))) (bD _ (Lq ▸ bD _ e))
 have Cf:h₁.get? s2.heap.objs.size=some { cls:=.type "list",data:=.seq ([]:List Value).toArray 0 }:=vm.extBut _ _ UW (bD _ (Lq ▸ cQ _ rfl));generalize mR:rb X scope cl G2.objs.size s2 H2 (ts++js.map (·.2)) fp=X2;have I4:Inv X2 [] (df ts js σ) (upd H2 s2.heap.objs.size (.lst [])) { s2 with heap:=h₁,toks:=s2.toks+([]:List (Str×Value)).length }:=by
  rw [<-mR];exact sZ I2 f2 EI iN iO cp lK (by rw [Hv];exact lR _) rfl rfl old zu Cf
 have x1:X2.prog=X.prog:=by rw [<-mR];rfl
 have x2:X2.w=X.w:=by rw [<-mR];rfl
 have x3:X2.K=X.K:=by rw [<-mR];rfl
 have x4:X2.calm=true:=by rw [<-mR];exact hc
 have x5:X2.A=X.A:=by rw [<-mR];rfl
 have x6:X2.env=compEnvC scope cl G2.objs.size X.env:=by rw [<-mR];rfl
 have x7:X2.xe=λ_ _=>False:=by rw [<-mR];rfl
 have Uy:PG X2 tg g:=by rw [<-mR];exact hg _ _ _ _ _
 have Lf:CG X2 ifs tif:=by rw [<-mR];exact Uw _ _ _ _ _
 have tE:PE X2 elt te:=by rw [<-mR];exact he _ _ _ _ _
 have NO:tn 0 h₁:=T.keep _ _ _ FE λb _ o e=>old b o e;have qj:∀{H':Hp}{ji:List (Addr×Obj)},(∀b∈fp,H' b=none)->(∀p∈ji,p.1∉fp)->∀b∈fp,vJ X2 ji H' b:=λ{H' ji} hn hp b hb=>by
  have o4:=I4.ok;subst mR;exact⟨hn b hb,(o4.LG b hb).1,o4.zE b hb,.inl hb,(o4.LG b hb).2,λp oo=>by
   have Cb:p∈([]:List (Addr×Obj))++ji:=oo;rw [nO] at Cb;intro z;exact hp p Cb (by rw [z];exact hb)⟩
 have fin:∀{s':Shared}{σ':St}{H':Hp},Inv X2 [] σ' H' s'->DD.nx (σ.set iy (some (.ref s2.heap.objs.size))) H' ->
   compPost (model X.prog X.w) X.A X.xe (some (assign (.Name y py) X.env)) (λ_ s'=>SP X ag DD .next s') (.ref s2.heap.objs.size) G2.objs.size (.ok .next) s':=λ{s' σ' H'} J' q=>by
  subst mR;obtain⟨m',K_,_⟩:=J'.loc;have I5:Inv X ag σ H' s':=I2.A7 (s':=s') J'.os J'.base J'.bH J'.bare λb hb=>by
   obtain⟨_,f1,_,f3,f4,f5⟩:=f2 b hb;exact⟨f3,f1,f4,f5⟩
  obtain⟨f0,f1,_,f3,f4,f5⟩:=I2.vv (H':=H') (b:=G2.objs.size) (by rw [Hv];exact gZ _) J'.free;show wpAny _ _ (assign (.Name y py) X.env (.ref s2.heap.objs.size)) _ _ s';refine wpAny_assign_Name (sE I5 hN hiy (.inl hy) (v:=.ref s2.heap.objs.size) rfl (λDv I6 aT=>?_) (.inr hy));obtain⟨a,sb,ha⟩:=aT;have Z7:G2.objs.size≠a:=by
   rcases ha with ha | ha
   .rw [ha];exact f1
   exact(f4 _ _ ha).symm
  refine⟨m',K_.sameBut sb Z7,λh' MN=>?_⟩;exact⟨_,H',I6.turned (t':=Dv.toks) (λb o hb e=>(MN.2 b hb).trans e) f0 f1 f3 f4 f5,q⟩
 have loop:∀s₃:Shared,s₃={ s2 with heap:=h₁,toks:=s2.toks+([]:List (Str×Value)).length } ->
   codeAny (model X.prog X.w) X.A (.compLoop (.ListComp elt [⟨tg,iter,ifs,0⟩] scope pos) 0 (.ref it) (.ref s2.heap.objs.size) (compEnvC scope cl G2.objs.size X.env))
    (compPost (model X.prog X.w) X.A X.xe (some (assign (.Name y py) X.env)) (λ_ s'=>SP X ag DD .next s') (.ref s2.heap.objs.size) G2.objs.size) s₃:=by
  rintro s₃ rfl;subst mR;refine oR (λn s'=>∃i ys σ' H',Inv (rb X scope cl G2.objs.size s2 H2 (ts++js.map (·.2)) fp) [] σ' H' s'/\tn i s'.heap/\(∀b∈fp,H' b=none)/\W i n ys σ' H') ?_ m0
   ⟨0,[],_,_,I4,NO,λb hb=>by rw [ai (bB (EI b hb))];exact(f2 b hb).1,w0⟩
  rintro n s' ⟨i,ys,σ0,H',J',rR,Pr,w'⟩;rcases turn i n ys σ0 H' w' with ⟨stop,q⟩ | ⟨go,m',hm,step⟩
  .refine cv (T.done (rb X scope cl G2.objs.size s2 H2 (ts++js.map (·.2)) fp) rfl rfl rfl hc i [] s' _ H' (λ_ _=>False) J' (qj Pr (by simp)) rR stop) (λr s4 ⟨hr,J4⟩=>?_) λ_ _ z=>z;subst hr;exact fin J4 q
  refine cv (T.item (rb X scope cl G2.objs.size s2 H2 (ts++js.map (·.2)) fp) rfl rfl rfl hc i [] s' _ H' (λ_ _=>False) J' (qj Pr (by simp)) rR go) (λr s4 ⟨u,hr,h4⟩=>?_) λ_ _ z=>z;subst hr;refine cv h4 (λ_ s5 aT=>?_) λ_ _ z=>z;obtain⟨xv,H5,J5,r5,y5,vX,Pq⟩:=aT;have Wf:=J5.pinned (qj Pq (by simp)) (T.obj _ _ vX);have back:∀{s7:Shared}{σ7:St}{H7:Hp},Inv (rb X scope cl G2.objs.size s2 H2 (ts++js.map (·.2)) fp) ([]++n8 fp s5.heap) σ7 H7 s7->Inv (rb X scope cl G2.objs.size s2 H2 (ts++js.map (·.2)) fp) [] σ7 H7 s7/\tn (i+1) s7.heap/\∀b∈fp,H7 b=none:=λ{s7 σ7 H7} J7=>by
   refine⟨J7.jF,T.keep _ _ _ vX λb hb o e=>(J7.pin (b,o) (fN _ (fN _ (f_ hb e)))).1,λb hb=>?_⟩;obtain⟨o,e,d⟩:=T.obj _ _ vX b hb;exact(J7.pin (b,o) (fN _ (fN _ (f_ hb e)))).2.1
  show wpAny _ _ (assign tg (rb X scope cl G2.objs.size s2 H2 (ts++js.map (·.2)) fp).env u) _ _ s5;refine cv (Uy _ s5 _ H5 xv u _ Wf r5 (step xv H5 y5)) (λ_ s6 aT=>?_) λ_ _ z=>z;obtain⟨σ6,H6,J6,q6⟩:=aT;refine cv (Lf _ s6 _ H6 _ J6 q6) (λb s7 aT=>?_) λ_ _ z=>z;obtain⟨H7,J7,q7⟩:=aT;cases b with
  | false =>
   rw [aA cW] at q7 ⊢;obtain⟨J8,R_,U2⟩:=back J7;exact⟨m',hm,i+1,ys,σ6,H7,J8,R_,U2,q7⟩
  | true =>
   rw [az rfl] at q7 ⊢;refine cv (tE _ s7 _ H7 _ J7 q7) (λyv s8 aT=>?_) λ_ _ z=>z;obtain⟨y,H8,J8,r8,Ls,QT,w8⟩:=aT;refine cv (cT (X:=rb X scope cl G2.objs.size s2 H2 (ts++js.map (·.2)) fp) _ s8 _ H8 (.ref s2.heap.objs.size) [y] (.ref s2.heap.objs.size) [yv] (λv H'=>W (i+1) m' (ys++[y]) σ6 H') J8 rfl (.cons r8 .nil) ⟨s2.heap.objs.size,ys,y,rfl,rfl,Ls,QT,w8⟩)
    (λ_ s9 ⟨_,H9,J9,_,w9⟩=>?_) λ_ _ z=>z
   obtain⟨Wg,JL,Lz⟩:=back J9;exact⟨m',hm,i+1,ys++[y],σ6,H9,Wg,JL,Lz,w9⟩
 exact codeAny_compStart_list (loop _ rfl) (T.self _ _ _ _ _ NO (loop _ rfl))
end L2
namespace eX
open PySem L2 M11
section
def vc {l:List Str}(h:l.Nodup):(l.map (Sum.inr:Str->aJ)).Nodup:=List.Pairwise.map _ (λa b hab e=>hab (kM e)) h
structure CN (K:aV)(ps:List (Str×Addr))(st:Str->List (Nat×Nat))(H:Hp)(d:Addr):Prop where
 hd:Rd H d (.dK (ps.map iT))
 n1:(ps.map (·.1)).Nodup
 n2:(ps.map (·.2)).Nodup
 lst:∀p∈ps,∃ts,H p.2=some (.lst (ts.map V.ref))/\Paired (λt (e:Nat×Nat)=>a9 K H t [.int (e.1:Int),.int (e.2:Int)]) ts (st p.1)
def Rd.same {H H':Hp}{a:Addr}{u:HO}(h:Rd H a u)(s:aC H H'):Rd H' a u:=h.elim (λz=>.inl (s _ _ z)) λ⟨o,z⟩=>.inr ⟨o,s _ _ z⟩
theorem CN.same {ps:List (Str×Addr)}{st:Str->List (Nat×Nat)}{H H':Hp}{d:Addr}(h:CN K ps st H d)(s:aC H H'):CN K ps st H' d :=
 ⟨Rd.same h.hd s,h.n1,h.n2,λp hp=>let ⟨ts,a,b⟩:=h.lst p hp;⟨ts,s _ _ a,Paired.eF b λ_ _ z=>s.tup z⟩⟩
def tY (st:Str->List (Nat×Nat))(n:Str)(e:Nat×Nat):Str->List (Nat×Nat):=λz=>if z=n then st z++[e] else st z
def CN.more {ps:List (Str×Addr)}{st:Str->List (Nat×Nat)}{H:Hp}{d:Addr}(h:CN K ps st H d){p:Str×Addr}(hp:p∈ps){ts:List Addr}{t:Addr}{e:Nat×Nat}(a:H p.2=some (.lst (ts.map V.ref)))
  (b:Paired (λt (e:Nat×Nat)=>a9 K H t [.int (e.1:Int),.int (e.2:Int)]) ts (st p.1))(c:a9 K H t [.int (e.1:Int),.int (e.2:Int)]) :
  CN K ps (tY st p.1 e) (upd H p.2 (.lst (ts.map V.ref++[.ref t]))) d:=by
 have nd:d≠p.2:=λz=>by
  rcases h.hd with q | ⟨o,q⟩
  .rw [z,a] at q;cases q
  rw [z,a] at q;cases q
 refine⟨?_,h.n1,h.n2,λp' oo=>?_⟩
 .rcases h.hd with q | ⟨o,q⟩
  .exact .inl (by rw [ai nd];exact q)
  exact .inr ⟨o,by rw [ai nd];exact q⟩
 by_cases z:p'=p
 .rw [z];refine⟨ts++[t],by rw [ae,bI];rfl,?_⟩;have e1:tY st p.1 e p.1=st p.1++[e]:=az rfl;rw [e1];exact ft (Paired.eF b λ_ _ z=>a7 a z) (a7 a c)
 have n1:p'.1≠p.1:=λq=>z (by
  have w1:=fY ps h.n1 p' oo;have w2:=fY ps h.n1 p hp;rw [q,w2] at w1;injection w1 with w3;injection w3 with w4;exact Prod.ext q w4.symm)
 have n2:p'.2≠p.2:=λq=>by
  obtain⟨i,hi,ei⟩:=pV.mp oo;obtain⟨j,hj,ej⟩:=pV.mp hp;have AO:i=j:=by
   refine(p8 (xs:=ps.map (·.2)) (h₀:=by simpa using hi) (h₁:=by simpa using hj) h.n2).mp ?_;rw [nP,nP,ei,ej];exact q
  subst AO;exact z (ei.symm.trans ej)
 obtain⟨Mn,a',b'⟩:=h.lst p' oo;refine⟨Mn,by rw [ai n2];exact a',?_⟩;have e1:tY st p.1 e p'.1=st p'.1:=aA n1;rw [e1];exact Paired.eF b' λ_ _ z=>a7 a z
def Aj (K:aV):Sp:=λvs H Q _=>∃(R:Addr)(rs:List Addr)(aa:List ay),vs=[.ref R]/\aG K H R (rs.map V.ref)/\bJ K H rs aa/\aa.length<=1000/\(∀ru∈aa,ru.2.length<=8) /\
 ∀(d:Addr)(ps:List (Str×Addr))(st:Str->List (Nat×Nat))(aR:List (Str×Nat))(H':Hp),H d=none->aC H H'->H' d=some (.dK (ps.map iT))->CN K ps st H' d->ps.map (·.1)=hd aa->(∀p∈ps,H p.2=none)->pD aa aR->lI aa aa.length aR ->
  (∀n k j,n∈hd aa->((k,j)∈st n↔H_ aa (hd aa) (λz=>decide (z∈aR.map (·.1))) n k j))->Q (.ref d) H'
def h_:aH ["rules","empty","steps","number","rule","place","part","filled"] ["rules"] (av yt):=iw rfl rfl rfl rfl nofun
def DY (F:gX K "steps_with_like_rows" "steps_with_like_rows" yt f fd)(T:Txt mg)(GE:aK P w K mg base 1 "found_empties" ["rules"] (nZ K))(GH:aK P w K mg base 1 "heads_of" ["rules"] (jT K)):ba P w K mg base fc 2 f fd ["rules"] (Aj K):=by
 refine F.ok h_ (λvs H Q E h=>?_) (λdw A outer s H vs Q E hr h=>?_)
 .obtain⟨R,rs,aa,rfl,_⟩:=h;rfl
 obtain⟨R,rs,aa,rfl,hR,cS,a8,h8,q⟩:=h;have hu:=fX hr;refine⟨_,aj (aF (i:=1) h_.nd rfl (Or.inr rfl) (bc (dP rfl) rfl T.A4 fh (af (bU GE hr rfl (af (pv 0) ak)) ak)))
  (aj (aF (i:=2) h_.nd rfl (bM rfl) (bc (dP rfl) rfl T.A4 fh (af
   (bK ["name"] [] rfl (bx (bU GH hr rfl (af (pv 0) ak))) (bh rfl rfl) nofun rfl nofun
    (λ_ _ _ _ _=>aw (i:=0) (show (["name"]:List Str).Nodup by decide +kernel) rfl (bM rfl)) (λ_ _ _ _ _=>bW)
    (λ_ _ _ _ _=>cJ (af (pv 0) (af (cK ak) ak)))) ak)))
  (aj (b_ cD rfl (mD rfl T.HE (af (pv 0) ak)) (eZ rfl (aE (aw (i:=3) h_.nd rfl (bM rfl)) (aE (aw (i:=4) h_.nd rfl (bM rfl)) cu)))
   (aj (gi (iy:=7) ["place","part"] [(1,"empty")] h_.nd rfl rfl rfl (mz rfl T.HE (af (aP bL (pv 4) aq (λ_ _=>rfl)) ak)) (bh rfl rfl) nofun rfl nofun
    (λ_ _ _ _ _=>i5 (n:=2) K rfl (aE (aw (i:=0) (show (["place","part","empty"]:List Str).Nodup by decide +kernel) rfl (bM rfl)) (aE (aw (i:=1) (show (["place","part","empty"]:List Str).Nodup by decide +kernel) rfl (bM rfl)) cu)))
    (λ_ _ _ _ _=>ie (fq (dY hu (pv 1) (pv 2)))) (λ_ _ _ _ _=>pv 0))
   (ao (b_ cD rfl (mz rfl T.HE (af (aP bL (pv 4) aq (λ_ _=>rfl)) ak)) (eZ rfl (aE (aw (i:=5) h_.nd rfl (bM rfl)) (aE (aw (i:=6) h_.nd rfl (bM rfl)) cu)))
    (ao (cN (PW.pt (u5 (fq (n_ hu (pv 6) (pv 2))) (pI (cx (BD hu) (pv 7) (cJ (af (cK ak) (af (cK (af (pv 5) ak)) ak))) rfl))))
     (ao (cP (iK jf jw jx cT (eK hu (pv 2) (aP bL (pv 4) aq (λ_ _=>rfl)) (λ_ _=>rfl)) (af (cJ (af (pv 3) (af (pv 5) ak))) ak)))) bw)))))
   )
  (ao (bu (pv 2))))),?_⟩
 nofun
 have ll:=bF cS;refine⟨_,rfl,R,rs,aa,rfl,hR,cS,a8,h8,λD1 Bn aR H1 f1 s1 e1 w1 emp zH=>?_⟩;have TH:Paired (λt (kv:aJ×V)=>a9 K H1 t [kV kv.1,kv.2]) Bn (aR.map λp=>((Sum.inr p.1:aJ),V.int (p.2:Int))):=cA w1 λ_ _ z=>z;refine⟨D1,Bn,_,rfl,e1,TH,λe he=>?_⟩;have ekE:cO (aR.map λp=>((Sum.inr p.1:aJ),V.int (p.2:Int))) []=aR.map λp=>((Sum.inr p.1:aJ),V.int (p.2:Int)):=ng _ [] (by
  rw [nO,iz];have:=vc emp.nd;rw [iz] at this;exact this)
 rw [ekE];have BZ:∀z,(a_ (aR.map λp=>((Sum.inr p.1:aJ),V.int (p.2:Int))) (Sum.inr z)).isSome=decide (z∈aR.map (·.1)):=λz=>by
  rw [kc,d8,decide_eq_true_iff,iz];have:(aR.map λp:Str×Nat=>(Sum.inr p.1:aJ))=(aR.map (·.1)).map Sum.inr:=by rw [iz];rfl
  show _∈(aR.map λp:Str×Nat=>(Sum.inr p.1:aJ))↔_;rw [this];exact cH
 generalize (aR.map λp=>((Sum.inr p.1:aJ),V.int (p.2:Int)))=kE at BZ ⊢;have s2:=s1.trans (ah he (.dK kE));have e2:upd H1 e (.dK kE) e=some (.dK kE):=ae;generalize upd H1 e (.dK kE)=H2 at s2 e2;refine⟨_,rfl,R,rs,aa,rfl,s2.seq hR,cS.same s2,a8,λD2 H3 f3 s3 e3=>?_⟩;have CI:=gk (aa.map (·.1)) [];simp only [iC,aB] at CI;refine⟨D2,rfl,⟨_,aG.of e3⟩,λD3 IW=>rh (aG.of e3) ∅ IW λts ps H4 s4 e4 m4 p4 l4 n4=>?_⟩;have n1:(ps.map (·.1)).Nodup:=by rw [m4];exact lF _ lP
 have Ew:Paired (λt (kv:aJ×V)=>a9 K H4 t [kV kv.1,kv.2]) ts (ps.map iT):=cA p4 λ_ _ z=>z;refine⟨D3,ts,_,rfl,e4,Ew,λd pb=>?_⟩;have PB:cO (ps.map iT) []=ps.map iT:=ng _ [] (by
  rw [nO,mJ];exact vc n1)
 rw [PB];have s5:=((s2.trans s3).trans s4).trans (ah pb (.dK (ps.map iT)));have xO:=ah pb (.dK (ps.map iT));have e5:upd H4 d (.dK (ps.map iT)) d=some (.dK (ps.map iT)):=ae;have PH:=xO _ _ (s4 _ _ (s3 _ _ e2));have vN:H d=none:=((s2.trans s3).trans s4).free pb;have S5:CN K ps (λ_=>[]) (upd H4 d (.dK (ps.map iT))) d:=⟨.inl e5,n1,n4,λp hp=>⟨[],xO _ _ (l4 p hp).1,.nil⟩⟩;have MZ:∀p∈ps,H p.2=none:=λp hp=>(s2.trans s3).free (l4 p hp).2.1;generalize upd H4 d (.dK (ps.map iT))=H5 at s5 e5 PH S5;clear xO;have eb:(λz=>(a_ kE (Sum.inr z)).isSome)=λz=>decide (z∈aR.map (·.1)):=funext BZ;refine⟨_,rfl,R,_,rfl,s5.seq hR,?_⟩
 let sf:rP:=λi σ H6=>∃(st:Str->List (Nat×Nat))(y3 y4 y5 y6 y7:Option V),σ=[br R,br e,br d,y3,y4,y5,y6,y7]/\aC H H6/\H6 e=some (.dK kE)/\H6 d=some (.dK (ps.map iT))/\CN K ps st H6 d /\
  (∀n,(st n).length<=8 * i)/\∀n k j,n∈hd aa->((k,j)∈st n↔k < i/\H_ aa (hd aa) (λz=>decide (z∈aR.map (·.1))) n k j)
 refine jQ (xs:=rs.map V.ref) sf
  ⟨λ_=>[],none,none,none,none,none,rfl,s5,PH,e5,S5,by simp,by simp⟩ ?_ ?_ ?_
 .rintro i σ H6 _ ⟨st,y3,y4,y5,y6,y7,rfl,s6,_⟩;exact s6.seq hR
 .rintro i x σ H6 t ex ⟨st,y3,y4,y5,y6,y7,rfl,s6,LM,Vi,S6,l6,c6⟩ ht
  ac_nf0
  rw [aZ] at ex;obtain⟨r,er,rfl⟩:=cf.mp ex;obtain⟨ru,qZ,p,v1,v2⟩:=cS.get er;have oq:=cb qZ;have MV:=h8 ru oq;have li:=(bo.mp qZ).1;have Bt:=ah ht (.tup [.int (i:Int),.ref r]);have IP:a9 K (upd H6 t (.tup [.int (i:Int),.ref r])) t [.int (i:Int),.ref r]:=a9.of ae;have s7:=s6.trans Bt;have LL:=Bt _ _ LM;have Ym:=Bt _ _ Vi;have S7:=S6.same Bt;generalize upd H6 t (.tup [.int (i:Int),.ref r])=H7 at IP s7 LL Ym S7;refine⟨t,_,rfl,IP,rfl,_,_,rfl,_,_,rfl,rfl,?_⟩;refine⟨_,rfl,r,_,_,_,rfl,rfl,s7.tup v1,rfl,p,_,rfl,s7.tup v2,λD5 IV=>xu rfl (s7.tup v2) ∅ LL IV λH8 Mr e8=>?_⟩;rw [eb] at e8;have s8:=s7.trans Mr;have ee8:=Mr _ _ LL;have ed8:=Mr _ _ Ym;have S8:=S7.same Mr;have Z6:∀p∈ps,p.2≠D5:=λp hp z=>by
   obtain⟨Mn,a,_⟩:=S7.lst p hp;rw [z,IV] at a;cases a
  obtain⟨pn,wU,xX⟩:∃pn∈ps,pn.1=ru.1:=by
   have:ru.1∈ps.map (·.1):=by rw [m4];exact(d_ _ _ _).mpr (.inr (iE oq))
   obtain⟨pn,a,b⟩:=cU.mp this;exact⟨pn,a,b⟩
  refine⟨_,rfl,r,_,_,_,rfl,rfl,s8.tup v1,rfl,p,_,rfl,s8.tup v2,?_⟩
  let zX:rP:=λj σ H9=>∃(st:Str->List (Nat×Nat))(y5 y6:Option V),σ=[br R,br e,br d,some (.int (i:Int)),br r,y5,y6,br D5]/\aC H H9/\H9 e=some (.dK kE)/\H9 d=some (.dK (ps.map iT))/\CN K ps st H9 d /\
   H9 D5=some (.lst ((xV (λz=>decide (z∈aR.map (·.1))) ru.2 ru.2.length).map V.int))/\(∀n,(st n).length<=8 * i+j)/\∀n k j',n∈hd aa->((k,j')∈st n↔(k < i\/(k=i/\j' < j))/\H_ aa (hd aa) (λz=>decide (z∈aR.map (·.1))) n k j')
  refine ot (xs:=ru.2.map V.str) zX
   ⟨st,_,_,rfl,s8,ee8,ed8,S8,e8,λn=>l6 n,λn k j' hn=>by rw [c6 n k j' hn];simp⟩ ?_ ?_ ?_
  .rintro j σ H9 _ ⟨st,y5,y6,rfl,s9,_⟩;exact s9.tup v2
  .rintro j x σ H9 t2 AZ ⟨st,y5,y6,rfl,s9,Vg,Vh,S9,e9,l9,c9⟩ jk
   ac_nf0
   rw [aZ] at AZ;obtain⟨z,ez,rfl⟩:=cf.mp AZ;have lj:=(bo.mp ez).1;have wj:=ah jk (.tup [.int (j:Int),.str z]);have EC:a9 K (upd H9 t2 (.tup [.int (j:Int),.str z])) t2 [.int (j:Int),.str z]:=a9.of ae;have mr:=s9.trans wj;have vy:=wj _ _ Vg;have pz:=wj _ _ Vh;have CM:=wj _ _ e9;have Jk:=S9.same wj;generalize upd H9 t2 (.tup [.int (j:Int),.str z])=vP at EC mr vy pz CM Jk;have mem:(a_ (ps.map iT) (Sum.inr z)).isSome=true↔z∈hd aa:=by rw [d8,mJ,m4];exact cH
   have ip:¬(z∈hd aa/\vh (λz=>decide (z∈aR.map (·.1))) ru.2 j=true)->∀n k j',n∈hd aa->((k,j')∈st n↔(k < i\/(k=i/\j' < j+1))/\H_ aa (hd aa) (λz=>decide (z∈aR.map (·.1))) n k j'):=λhn n k j' Um=>by
    rw [c9 n k j' Um];constructor
    .rintro⟨h1,h3⟩;exact⟨∅,h3⟩
    rintro⟨h1,h3⟩;refine⟨?_,h3⟩;by_cases c:k=i/\j'=j
    .obtain⟨jW,z',a1,a2,a3,a4,a5⟩:=h3;rw [c.1,qZ] at a1;cases a1;rw [c.2] at a5;rw [c.2,ez] at a3;cases a3;exact absurd ⟨a4,a5⟩ hn
    omega
   have W_:∀n,(st n).length<=8 * i+(j+1):=λn=>by have:=l9 n;omega
   refine⟨t2,_,rfl,EC,rfl,_,_,rfl,_,_,rfl,rfl,?_⟩;refine⟨_,rfl,_,rfl,d,_,rfl,cm.k (k:=Sum.inr z) pz,_,rfl,?_⟩;refine dJ (λc=>?_) (λc=>?_)
   .have hz:=mem.mp c;refine⟨_,rfl,xM,λl1 Xw=>?_⟩;have Gs:=ah Xw (.lst []);have F4:upd vP l1 (.lst []) l1=some (.lst []):=ae;have ZW:l1≠D5:=(au CM Xw).symm;generalize upd vP l1 (.lst [])=Bg at Gs F4;refine⟨_,rfl,Jr,λl2 lJ=>?_⟩;have Iu:=ah lJ (.lst [.int (j:Int)]);have I8:upd Bg l2 (.lst [.int (j:Int)]) l2=some (.lst [.int (j:Int)]):=ae;have SO:l2≠D5:=(au (Gs _ _ CM) lJ).symm;generalize upd Bg l2 (.lst [.int (j:Int)])=xG at Iu I8;refine⟨qf,λt3 OM=>?_⟩;have QH:=ah OM (.tup [.ref l1,.ref l2]);have Yy:a9 K (upd xG t3 (.tup [.ref l1,.ref l2])) t3 [.ref l1,.ref l2]:=a9.of ae;generalize upd xG t3 (.tup [.ref l1,.ref l2])=Bf at QH Yy;have o5:=(Gs.trans Iu).trans QH;refine⟨t3,D5,l1,l2,_,[],[(j:Int)],rfl,rfl,Yy,aG.of (o5 _ _ CM),aG.of (QH _ _ (Iu _ _ F4)),aG.of (QH _ _ I8),ZW,SO,_,rfl,?_⟩;have Fv:=Jk.same o5;have Ka:=mr.trans o5;refine dJ (λc2=>?_) (λc2=>?_)
    .obtain⟨Wv,an,bn⟩:=Fv.lst pn wU;have vn:=fY ps n1 pn wU;rw [xX] at vn;have hg:cm Bf d (.str ru.1) (some (.ref pn.2)):=by
      have:=cm.k (k:=Sum.inr ru.1) (o5 _ _ pz);rw [vn] at this;exact this
     have ltn:=bF bn;have l9n:=l9 pn.1;refine⟨_,rfl,_,rfl,r,_,_,_,rfl,rfl,Ka.tup v1,rfl,d,_,rfl,hg,.inl ⟨rfl,_,aG.of an⟩,_,rfl,_,rfl,qf,λt4 zt=>?_⟩;have yG:=ah zt (.tup [.int (i:Int),.int (j:Int)]);have Yx:a9 K (upd Bf t4 (.tup [.int (i:Int),.int (j:Int)])) t4 [.int (i:Int),.int (j:Int)]:=a9.of ae;generalize upd Bf t4 (.tup [.int (i:Int),.int (j:Int)])=H14 at yG Yx;have Qd:=Fv.same yG;have HQ:=yG _ _ an;have VJ:=Paired.eF bn λt' (e':Nat×Nat)(z:a9 K Bf t' [.int (e'.1:Int),.int (e'.2:Int)])=>yG.tup z;refine⟨pn.2,_,_,rfl,rfl,HQ,bQ (by rw [aB];omega),?_⟩;have Wd:=Qd.more (e:=(i,j)) wU HQ VJ Yx;have ne1:e≠pn.2:=λz=>by have:=yG _ _ (o5 _ _ vy);rw [z,HQ] at this;cases this
     have ne2:d≠pn.2:=λz=>by have:=yG _ _ (o5 _ _ pz);rw [z,HQ] at this;cases this
     refine⟨tY st pn.1 (i,j),_,_,rfl,λb o hb=>?_,by rw [ai ne1];exact yG _ _ (o5 _ _ vy),by rw [ai ne2];exact yG _ _ (o5 _ _ pz),Wd,by rw [ai (Z6 pn wU).symm];exact yG _ _ (o5 _ _ CM),λn=>?_,λn k j' Um=>?_⟩
     .rw [ai (λz=>by rw [z,MZ pn wU] at hb;cases hb)];exact yG _ _ (Ka b o hb)
     .have:=l9 n;unfold tY
      split
      .rw [b9];simp;omega
      omega
     have hit:H_ aa (hd aa) (λz=>decide (z∈aR.map (·.1))) ru.1 i j:=⟨ru,z,qZ,rfl,ez,hz,c2⟩;have Jd:=c9 n k j' Um;unfold tY;by_cases cn:n=pn.1
     .rw [az cn,bq,bE,Jd];constructor
      .rintro(⟨h1,h3⟩ | h1)
       .exact⟨∅,h3⟩
       cases h1;exact⟨∅,by rw [cn,xX];exact hit⟩
      rintro⟨h1,h3⟩;by_cases cc:k=i/\j'=j
      .exact .inr (by rw [cc.1,cc.2])
      exact .inl ⟨∅,h3⟩
     rw [aA cn,Jd];constructor
     .rintro⟨h1,h3⟩;exact⟨∅,h3⟩
     rintro⟨h1,h3⟩;refine⟨?_,h3⟩;by_cases cc:k=i/\j'=j
     .obtain⟨jW,z',a1,a2,_⟩:=h3;rw [cc.1,qZ] at a1;cases a1;exact absurd (a2.symm.trans xX.symm) cn
     omega
    exact⟨st,_,_,rfl,Ka,o5 _ _ vy,o5 _ _ pz,Fv,o5 _ _ CM,W_,ip λ⟨_,h⟩=>c2 h⟩
   exact⟨st,_,_,rfl,mr,vy,pz,Jk,CM,W_,ip λ⟨h,_⟩=>c (mem.mpr h)⟩
  rintro σ H9 ⟨st,y5,y6,rfl,s9,Vg,Vh,S9,e9,l9,c9⟩;rw [aB] at l9 c9;refine⟨st,_,_,_,_,_,rfl,s9,Vg,Vh,S9,λn=>?_,λn k j' hn=>?_⟩
  .have:=l9 n;omega
  rw [c9 n k j' hn];constructor
  .rintro⟨h1 | ⟨h1,h2⟩,h3⟩
   .exact⟨∅,h3⟩
   exact⟨∅,h3⟩
  rintro⟨h1,h3⟩;refine⟨?_,h3⟩;by_cases c:k < i
  .exact .inl c
  refine .inr ⟨∅,?_⟩;obtain⟨jW,z',a1,_,a3,_⟩:=h3;have:k=i:=by omega
  rw [this,qZ] at a1;cases a1;exact(bo.mp a3).1
 rintro σ H6 ⟨st,y3,y4,y5,y6,y7,rfl,s6,LM,Vi,S6,l6,c6⟩;rw [aB,ll] at c6;refine⟨_,rfl,q d ps st aR H6 vN s6 Vi S6 m4 MZ emp zH λn k j hn=>?_⟩;rw [c6 n k j hn];constructor
 .exact λh=>h.2
 intro h;obtain⟨jW,_,a1,_⟩:=id h;exact⟨(bo.mp a1).1,h⟩
end
end eX
namespace L2
open PySem
def cm.r {H:Hp}{a:Addr}{kvs:List (aJ×V)}{k:aJ}(e:Rd H a (.dK kvs)):cm H a (kV k) (a_ kvs k):=.inl ⟨kvs,k,e,rfl,rfl⟩
end L2
namespace eX
open PySem L2 M11
section
structure Ji (K:aV) (names:List Str)(rk:Str->Nat)(name:Str)(H H5:Hp)(D m:Addr)(iu:List Addr)(gh:List (Str×Addr)) (ms:List Str)(kvs:List (aJ×V)):Prop where
 sm:aC H H5
 hD:H5 D=some (.lst (iu.map V.ref))
 hm:H5 m=some (.dK kvs)
 keys:kvs.map (·.1)=ms.map Sum.inr
 nd:ms.Nodup
 sub:∀x∈ms,x∈names
 wl:gh.length=ms.length+1
 wv:Paired (λt (e:Str×Addr)=>a9 K H5 t [.str e.1,.ref e.2]) iu gh
 we:∀e∈gh,e.1∈names/\rk e.1<=rk name/\∃xs,H5 e.2=some (.lst xs)/\xs.length<=gh.length/\e.2≠D
def Ji.same {names:List Str}{rk:Str->Nat}{name:Str}{H H5 H6:Hp}{D m:Addr}{iu:List Addr}{gh:List (Str×Addr)}{ms:List Str}{kvs:List (aJ×V)}(h:Ji K names rk name H H5 D m iu gh ms kvs)(s:aC H5 H6):Ji K names rk name H H6 D m iu gh ms kvs :=
 ⟨h.sm.trans s,s _ _ h.hD,s _ _ h.hm,h.keys,h.nd,h.sub,h.wl,Paired.eF h.wv λ_ _ z=>s.tup z,λe he=>let ⟨a,b,xs,c,d⟩:=h.we e he;⟨a,b,xs,s _ _ c,d⟩⟩
def Ji.len {names:List Str}{rk:Str->Nat}{name:Str}{H H5:Hp}{D m:Addr}{iu:List Addr}{gh:List (Str×Addr)}{ms:List Str}{kvs:List (aJ×V)}(h:Ji K names rk name H H5 D m iu gh ms kvs):iu.length=gh.length/\kvs.length=ms.length/\ms.length<=names.length:=by
 refine⟨bF h.wv,?_,eM _ _ h.nd h.sub⟩;have:=congrArg List.length h.keys;simpa using this
def Ji.more {names:List Str}{rk:Str->Nat}{name z:Str}{H H5 H9:Hp}{D m t c:Addr}{iu:List Addr}{gh:List (Str×Addr)}{ms:List Str}{kvs:List (aJ×V)}{xs:List V}(h:Ji K names rk name H H5 D m iu gh ms kvs)(fD:H D=none)(fm:H m=none)
  (hz:z∈names)(hr:rk z<=rk name)(hn:z∉ms)(s:aC (upd H5 m (.dK (bC kvs (Sum.inr z) (.bl true)))) H9)(ht:a9 K H9 t [.str z,.ref c])(hc:H9 c=some (.lst xs))(hx:xs.length<=gh.length+1)(nc:c≠D) :
  Ji K names rk name H (upd H9 D (.lst (iu.map V.ref++[.ref t]))) D m (iu++[t]) (gh++[(z,c)]) (ms++[z]) (bC kvs (Sum.inr z) (.bl true)):=by
 have KA:D≠m:=λe=>by have:=h.hD;rw [e,h.hm] at this;cases this
 have Ci:H9 D=some (.lst (iu.map V.ref)):=s _ _ (by rw [ai KA];exact h.hD);have Uq:H9 m=some (.dK (bC kvs (Sum.inr z) (.bl true))):=s _ _ ae;refine⟨λb o hb=>?_,by rw [ae,bI];rfl,by rw [ai KA.symm];exact Uq,?_,?_,?_,?_,?_,?_⟩
 .rw [ai (λe=>by rw [e,fD] at hb;cases hb)];exact s _ _ (by rw [ai (λe=>by rw [e,fm] at hb;cases hb)];exact h.sm b o hb)
 .rw [gQ (by rw [h.keys];exact λe=>hn (cH.mp e)),h.keys,bI];rfl
 .refine je.mpr ⟨h.nd,by simp,λa ha b hb e=>?_⟩;rw [bE.mp hb] at e;exact hn (e ▸ ha)
 .intro x MI;rcases bq.mp MI with e | e
  .exact h.sub x e
  rw [bE.mp e];exact hz
 .rw [b9,b9,h.wl];rfl
 .exact ft (Paired.eF h.wv λ_ _ e=>a7 Ci (s.tup (eC h.hm e))) (a7 Ci ht)
 intro e he;rw [b9];rcases bq.mp he with e' | e'
 .obtain⟨a,b,ys,c1,d1,n1⟩:=h.we e e';exact⟨a,b,ys,by rw [ai n1];exact s _ _ (by rw [ai (λq=>by rw [q,h.hm] at c1;cases c1)];exact c1),∅,n1⟩
 rw [bE.mp e'];exact⟨hz,hr,xs,by rw [ai nc];exact hc,hx,nc⟩
def mf:aH ["rules","steps","name","ways","met","at","way","number","place","part"] ["rules","steps","name"] (av JR):=iw rfl rfl rfl rfl nofun
end
end eX
namespace L2
open PySem PySem.Spec PyProof.Rows
section
variable {prog:Program}{w:World}{A:Around}{E:Value->Shared->Prop}{s:Shared}
def oU (a b c:Value):argsOk "min" ⟨[a],[("key",b),("default",c)]⟩:=by unfold argsOk;kernel_rfl
def rZ {l:Addr}{kf dv:Value}{Q:Value->Shared->Prop}(hh:A.handled=none)(hl:s.heap.IsList l #[])(h:∀h' tk,(∀b o,s.heap.get? b=some o->h'.get? b=some o)->Q dv { s with heap:=h',toks:=tk }) :
  wpAny (model prog w) A (call (.builtin "min") [.ref l] [("key",kf),("default",dv)]) Q E s:=by
 have kF:(toString "min" ++ toString ".loop":String) = "min.loop" := by decide
 refine hX (pU F.plain_min F.entry_min ?_);have core:wpAny (model prog w) A.in1 (Builtin.«min» ⟨[.ref l],[("key",kf),("default",dv)]⟩) (λfin s'=>match fin with
   | .done f=>(match (Except.ok f:Result) with | .ok (.ret v)=>Q v s' | .ok _=>False | .error e=>E e s')
   | .again c'=>c'.quiet=true/\codeAny (model prog w) A c' (λr s'=>match r with | .ok (.ret v)=>Q v s' | .ok _=>False | .error e=>E e s') s') E s:=by
  show wpAny _ A.in1 (Builtin.Builtins.bindParams "min" ["key","default"] 0 ⟨[],[("key",kf),("default",dv)]⟩ >>= _) _ _ s;refine ax (wpAny_of_eq (show Builtin.Builtins.bindParams "min" ["key","default"] 0 ⟨[],[("key",kf),("default",dv)]⟩=pure [some kf,some dv] from rfl) ?_);refine ax (aD ?_);refine ax (kQ hl ?_);refine ax (ju ?_);rw [kF];obtain⟨ol,h1,h2⟩:=id hl;generalize hG:s.heap.push { cls:=.type "list_iterator",data:=.fields #[.ref l,.int 0 0] }=G;have k1:∀b o,s.heap.get? b=some o->G.get? b=some o:=λb o e=>by rw [<-hG];exact bD _ e
  have hi:G.get? s.heap.objs.size=some { cls:=.type "list_iterator",data:=.fields #[.ref l,.int 0 0] }:=by rw [<-hG];exact cQ _ rfl
  refine aD ⟨kb lQ _,jE F.entry_min_loop ?_⟩;rw [oE lQ _];show wpAny _ A.in1 (seqItems? (.ref G.objs.size) >>= _) _ _ _;refine ax (jD (cQ _ rfl) rfl ?_);show wpAny _ A.in1 (tryCatch (pyNext (.ref s.heap.objs.size)) _ >>= _) _ _ _;refine ax (iX (uq (show A.in1.handled=none from hh) ⟨_,bD _ hi,rfl,rfl⟩ ⟨ol,bD _ (k1 _ _ h1),h2⟩ (by simp) λh' eb=>?_));refine ax (wpAny_rule (aD ?_));exact h h' _ λb o e=>eb b o (bB (aW e)) (bD _ (k1 b o e))
 simp only [checkBuiltinCall,F.kind_min];cases K3:Manifest.signature? "min" with
 | none=>exact aD core
 | some sig =>
  have UO:Bind.checkArgs "min" sig ⟨[.ref l],[("key",kf),("default",dv)]⟩=pure ():=by have:=oU (.ref l) kf dv;simpa only [argsOk,K3] using this
  simp only [UO];exact aD core
end
open PySem
end L2
namespace eX
open PySem L2 M11
section
def gK (aa:List ay)(rk:Str->Nat):Prop:=∀aR,pD aa aR->lI aa aa.length aR->∀n k j,H_ aa (hd aa) (λz=>decide (z∈aR.map (·.1))) n k j->∀ru z,aa[k]?=some ru->ru.2[j]?=some z->rk z < rk n
def ym:aH ["rules","steps","loops"] ["rules"] (av Dr):=iw rfl rfl rfl rfl nofun
end
end eX
namespace L2
open PySem
def z5 {K:aV}{T:Addr}{pos:Pos}{qu:Str}{H H':Hp}{a:Addr}{xs:List V}(s:fj T H H')(t:Tab T pos qu H)(h:a9 K H a xs):a9 K H' a xs:=by
 obtain⟨ps,b,_⟩:=t;rcases h with (h | ⟨u,h⟩) | h
 .exact .inl (.inl (s _ _ (λz=>by rw [z,b] at h;cases h) h))
 .exact .inl (.inr ⟨u,s _ _ (λz=>by rw [z,b] at h;cases h) h⟩)
 exact .inr h
def Aw {K:aV}{T:Addr}{pos:Pos}{qu:Str}{H H':Hp}{a:Addr}{xs:List V}(s:fj T H H')(t:Tab T pos qu H)(h:aG K H a xs):aG K H' a xs:=by
 obtain⟨ps,b,_⟩:=t;rcases h with (h | ⟨u,h⟩) | h
 .exact .inl (.inl (s _ _ (λz=>by rw [z,b] at h;cases h) h))
 .exact .inl (.inr ⟨u,s _ _ (λz=>by rw [z,b] at h;cases h) h⟩)
 exact .inr h
def z7 {T T':Addr}{pos pos':Pos}{qu FH:Str}{H H':Hp}(s:fj T H H')(t:Tab T pos qu H)(h:Tab T' pos' FH H)(n:T'≠T):Tab T' pos' FH H':=by
 obtain⟨ps,b,_⟩:=t;obtain⟨So,a,o,c⟩:=h;refine⟨So,s _ _ n a,o,c.imp id ?_⟩;rintro⟨c',e,g⟩;exact⟨c',e,s _ _ (λz=>by rw [z,b] at g;cases g) g⟩
def Fc {K:aV}{H:Hp}{p D:Addr}{zs:List Str}{σ:St}{js:List (Nat×Str)}{cs:List (Option V)}{tif:TT}{te:TE}{Qp:Hp->Prop}(hσ:df ["name"] js σ=none::cs)(hp:aG K H p (zs.map V.str))(hD:H D=none)
  (ht:∀z∈zs,∀H2 Q,aC H H2->Q false H2->tif (some (.str z)::cs) H2 Q)(q:∀H2,aC H H2->H2 D=some (.lst [])->Qp H2) :
  ∃W:Nat->Nat->List V->St->Hp->Prop,(∃m,W 0 m [] (df ["name"] js σ) (upd H D (.lst []))) /\
 ∀i m ys σ' H,W i m ys σ' H->((iS K p).stop i H/\Qp H)\/((iS K p).go i H/\∃m',m' < m/\∀x H',(iS K p).kR i H x H'->du 0 x σ' H' λσ2 H2=>tif σ2 H2 λb H3 =>
  if b=true then te σ2 H3 λy H4=>H4 D=some (.lst ys)/\ys.length < sizeLine/\W (i+1) m' (ys++[y]) σ2 (upd H4 D (.lst (ys++[y]))) else W (i+1) m' ys σ2 H3):=by
 refine bR (xs:=zs.map V.str) (λi ys σ2 H5=>ys=[]/\(∃y0,σ2=y0::cs)/\aC H H5/\H5 D=some (.lst [])) ⟨rfl,⟨none,hσ⟩,ah hD _,ae⟩ (λi ys σ2 H5 _ h=>h.2.2.1.seq hp) (λi x ys σ2 H5 ex h=>?_) (λys σ2 H5 h=>?_)
 .obtain⟨rfl,⟨y0,rfl⟩,s5,e5⟩:=h;rw [aZ] at ex;obtain⟨z,ez,rfl⟩:=cf.mp ex;refine goN ?_;refine ht z (cb ez) H5 _ s5 ?_;refine hJ ?_;exact⟨rfl,⟨_,rfl⟩,s5,e5⟩
 obtain⟨rfl,_,s5,e5⟩:=h;exact q H5 s5 e5
end L2
namespace eX
open PySem L2 M11
section
structure Good (aa:List ay)(rk:Str->Nat)(b:Str->Int):Prop where
 least:∀g,cI M11.bl aa (ph aa) g->eh M11.bl aa g->∀h∈hd aa,∃n,g h=some n/\n<=60
 met:∀fJ ms,aa[0]?=some fJ->fJ.1∈ms->ou aa aa.length ms->∀h∈hd aa,h∈ms
 loop:gK aa rk
 PZ:rH aa b
 most:∀h∈hd aa,b h<=60
def kJ (T1 T2:Addr)(H H':Hp):Prop:=∀b o,b≠T1->b≠T2->H b=some o->H' b=some o
def gy:aH ["rules","strengths","least","endless","met","unmet","steps","greatest","vast"] ["rules","strengths"] (av uU):=iw rfl rfl rfl rfl nofun
end
end eX
namespace M11
open PySem L2
abbrev Be:=Str×Str×Nat×Nat
def vL (cw:List Be):List (Str×Str):=cw.map λb=>(b.1,b.2.1)
def mY (cw:List Be)(n:Str):List Str:=(cw.filter λb=>decide (b.1=n)).map (·.2.1)
def oY (names:List Str)(cw:List Be)(z:Str):List Str:=if z∈names then mY cw z else [z]
inductive vQ (aa:List ay) (names:List Str)(b:Str->Bool):List Be->Prop
 | nil:vQ aa names b []
 | snoc {cw:List Be}{k j:Nat}{ru:ay}{z w:Str}:vQ aa names b cw->aa[k]?=some ru->ru.2[j]?=some z->j < Ck b ru.2->w∈oY names cw z->(ru.1,w)∉vL cw->vQ aa names b (cw++[(ru.1,w,k,j)])
def zB {cw:List Be}{n w:Str}:w∈mY cw n↔(n,w)∈vL cw:=by
 unfold mY vL;rw [cU,cU];constructor
 .rintro⟨b,hb,rfl⟩;obtain⟨h1,h2⟩:=gL.mp hb;exact⟨b,h1,by rw [d6 h2]⟩
 rintro⟨b,hb,e⟩;cases e;exact⟨b,gL.mpr ⟨hb,cM rfl⟩,rfl⟩
def AU (cw:List Be)(b:Be)(n:Str):mY (cw++[b]) n=mY cw n++(if b.1=n then [b.2.1] else []):=by
 unfold mY;rw [oC,bI];by_cases c:b.1=n
 .rw [az c];simp [c]
 rw [aA c];simp [c]
end M11
namespace eX
open PySem L2 M11
def HN:Stmt->List Stmt
 | .ClassDef _ _ _ b _ _ _ _ _ _ _=>b
 | _=>[]
abbrev Hd (st:Stmt) (i:Nat):Stmt:=(HN st).getD i (.Pass ⟨0,0,0,0⟩)
abbrev yE:Stmt:=Hd yD 0
abbrev Dt:Stmt:=Hd yD 1
abbrev yx:Stmt:=Hd yD 2
abbrev uZ:Stmt:=Hd wg 0
abbrev yu:Stmt:=Hd wg 1
section
structure BC (K:aV)(C:Addr):Prop where
 cls:Bi K C
 a1:cX K C "empties"
 a2:cX K C "empty"
 a3:cX K C "begins"
 a4:cX K C "firsts"
structure si (K:aV)(C:Addr)(H0 H:Hp)(a e d bg:Addr)(kE:List (aJ×V))(aR:List (Str×Nat))(ps:List (Str×Addr))(cw:List Be):Prop where
 sm:aC H0 H
 ia:∃dx fs,H a=some (.ins C dx fs)/\fs.lookup ("empty":Str)=some (.ref e)/\fs.lookup ("begins":Str)=some (.ref bg)/\fs.lookup ("firsts":Str)=some (.ref d)/\fs.lookup ("find_begins":Str)=none/\fs.lookup ("words_of_part":Str)=none
 he:H e=some (.dK kE)
 hd:H d=some (.dK (ps.map iT))
 n1:(ps.map (·.1)).Nodup
 n2:(ps.map (·.2)).Nodup
 dk:∀p∈ps,(∃kvs,H p.2=some (.dK kvs)/\kvs.map (·.1)=(mY cw p.1).map Sum.inr)/\H0 p.2=none/\p.2≠e/\p.2≠d
 lb:∃ts,H bg=some (.lst (ts.map V.ref))/\Paired (λt (b:Be)=>a9 K H t [.str b.1,.str b.2.1,.int (b.2.2.1:Int),.int (b.2.2.2:Int)]) ts cw
 fb:H0 bg=none
 em:∃e1 ts,(∃dx fs,H a=some (.ins C dx fs)/\fs.lookup ("empties":Str)=some (.ref e1))/\H e1=some (.lst (ts.map V.ref))/\ow K H ts aR/\e1≠bg
def si.same {C:Addr}{H0 H H':Hp}{a e d bg:Addr}{kE:List (aJ×V)}{aR:List (Str×Nat)}{ps:List (Str×Addr)}{cw:List Be}(h:si K C H0 H a e d bg kE aR ps cw)(s:aC H H'):si K C H0 H' a e d bg kE aR ps cw:=by
 refine⟨h.sm.trans s,?_,s _ _ h.he,s _ _ h.hd,h.n1,h.n2,λp hp=>?_,?_,h.fb,?_⟩
 .obtain⟨dx,fs,q,r⟩:=h.ia;exact⟨dx,fs,s _ _ q,r⟩
 .obtain⟨⟨kvs,q,r⟩,t⟩:=h.dk p hp;exact⟨⟨kvs,s _ _ q,r⟩,t⟩
 .obtain⟨ts,q,r⟩:=h.lb;exact⟨ts,s _ _ q,Paired.eF r λ_ _ z=>s.tup z⟩
 obtain⟨e1,ts,⟨dx,fs,q1,q2⟩,q3,q4,q5⟩:=h.em;exact⟨e1,ts,⟨dx,fs,s _ _ q1,q2⟩,s _ _ q3,q4.keep λ_ _ z=>s.tup z,q5⟩
def Am (K:aV)(C:Addr):Sp:=λvs H Q _=>∃(H0:Hp)(a e d bg:Addr)(kE:List (aJ×V))(aR:List (Str×Nat))(ps:List (Str×Addr))(cw:List Be)(z:Str),vs=[.ref a,.str z]/\si K C H0 H a e d bg kE aR ps cw /\
 ∀(D:Addr)(H':Hp),H D=none->aC H H'->H' D=some (.lst ((oY (ps.map (·.1)) cw z).map V.str))->Q (.ref D) H'
def Gj:aH ["self","part"] ["self","part"] (av yx):=iw rfl rfl rfl rfl nofun
def D_ {C:Addr}(F:gX K "words_of_part" "BeginTable.words_of_part" yx f fd)(T:Txt mg)(B:BC K C):ba P w K mg base fc 1 f fd ["self","part"] (Am K C):=by
 refine F.ok Gj (λvs H Q E h=>?_) (λdw A outer s H vs Q E hr h=>?_)
 .obtain⟨H0,a,e,d,bg,kE,aR,ps,cw,z,rfl,_⟩:=h;rfl
 obtain⟨H0,a,e,d,bg,kE,aR,ps,cw,z,rfl,S,q⟩:=h;have hu:=fX hr;obtain⟨dx,fs,ea,f1,f2,f3,f4,f5⟩:=S.ia;refine⟨_,ao (bu (wu (fq (n_ hu (pv 1) (dZ (pv 0) rfl))) (bc (lG rfl) rfl T.lst eI (af (eK hu (dZ (pv 0) rfl) (pv 1) (λ_ _=>rfl)) ak)) (cK (af (pv 1) ak)))),?_⟩;dsimp only [zL];have mem:(a_ (ps.map iT) (Sum.inr z)).isSome=true↔z∈ps.map (·.1):=by rw [d8,mJ];exact cH
 refine⟨_,rfl,_,rfl,a,C,dx,fs,_,rfl,ea,B.cls,B.a4,f3,d,_,rfl,cm.k (k:=Sum.inr z) S.hd,_,rfl,?_⟩;refine dJ (λc=>?_) (λc=>?_)
 .have hz:=mem.mp c;obtain⟨p,hp,ep⟩:=cU.mp hz;obtain⟨⟨kvs,hk,kk⟩,_⟩:=S.dk p hp;have vn:=fY ps S.n1 p hp;rw [ep] at vn;have hg:cm H d (.str z) (some (.ref p.2)):=by
   have:=cm.k (k:=Sum.inr z) S.hd;rw [vn] at this;exact this
  refine⟨_,rfl,a,C,dx,fs,_,rfl,ea,B.cls,B.a4,f3,_,rfl,d,_,rfl,hg,p.2,kvs,rfl,hk,λD hD=>?_⟩;refine q D _ hD (ah hD _) ?_;rw [ae,keys_str kk,ep];unfold oY;rw [az hz]
 refine⟨_,rfl,Jr,λD hD=>?_⟩;refine q D _ hD (ah hD _) ?_;rw [ae];unfold oY;rw [aA (λh=>c (mem.mpr h))];rfl
end
end eX
namespace L2
open PySem PySem.Spec PyProof.Rows
def Cp (o:Obj)(f:Array Value->Array Value):(o.mapFields f).dict=o.dict:=by
 obtain⟨c,d,dt,sl⟩:=o;cases dt <;> rfl
def rG (h:Heap)(e:Addr)(cls:Value)(dx:Option Addr)(T:Addr)(fl:Value):Prop :=
 ∃oe vs oT ts,h.get? e=some oe/\oe.cls=cls/\oe.dict=dx/\oe.data=.fields vs/\vs[1]?=some (.ref T)/\T≠e/\h.get? T=some oT/\oT.data=.fields ts/\ts[3]?=some fl
structure Moved (fs as:List Addr)(h h':Heap):Prop where
 keep:∀b o,b∉as->b∉fs->h.get? b=some o->h'.get? b=some o
 slot:∀b o,b∉as->h.get? b=some o->∃sl,h'.get? b=some { o with slots:=sl }
def Moved.refl {fs as:List Addr}{h:Heap}:Moved fs as h h:=⟨λ_ _ _ _ e=>e,λ_ o _ e=>⟨o.slots,e⟩⟩
def Moved.trans {fs as:List Addr}{h h1 h2:Heap}(a:Moved fs as h h1)(b:Moved fs as h1 h2):Moved fs as h h2 :=
 ⟨λc o n f e=>b.keep c o n f (a.keep c o n f e),λc o n e=>by
  obtain⟨s1,e1⟩:=a.slot c o n e;obtain⟨s2,e2⟩:=b.slot c _ n e1;exact⟨s2,e2⟩⟩
def Moved.mono {fs as YF:List Addr}{h h1:Heap}(a:Moved fs as h h1)(s:∀b∈as,b∈YF):Moved fs YF h h1 :=
 ⟨λc o n f e=>a.keep c o (λz=>n (s c z)) f e,λc o n e=>a.slot c o (λz=>n (s c z)) e⟩
section
variable {M:Model}{A:Around}{E:Value->Shared->Prop}{s:Shared}{base:Heap}{env:Env}{outer:List Env}{L e:Addr}
def lD {cls fl:Value}{dx:Option Addr}{T:Addr}{fs:List Addr}{Q:Unit->Shared->Prop}(F:rG s.heap e cls dx T fl)
  (hq:∀h',Moved fs [T] s.heap h'->rG h' e cls dx T .none->Q () { s with heap:=h' }):wpAny M A (setFlight (.ref e) none) Q E s:=by
 obtain⟨oe,vs,oT,ts,he,hc,hx,hd,h1,ne,hT,Lk,h3⟩:=F;have sz:3 < ts.size:=(uC.mp h3).1;unfold setFlight;refine ax (fQ he hd h1 ?_);rw [az (by simp)];refine nF hT Lk sz (hq _ ⟨λb o n _ q=>?_,λb o n q=>⟨o.slots,?_⟩⟩ ⟨oe,vs,_,_,?_,hc,hx,hd,h1,ne,lZ _ hT (Obj.isFreed_of_fields (qb Lk _)),qb Lk _,?_⟩)
 .rw [gu _ _ (λz:T=b=>n (by simp [z]))];exact q
 .rw [gu _ _ (λz:T=b=>n (by simp [z]))];exact q
 .rw [gu _ _ ne];exact he
 simp [sz]
def wD {oe:Obj}{vs:Array Value}{pb:Value}{hn:Bool}{Q:Unit->Shared->Prop}(Ho:A.frames=some (env::outer))(hl:s.heap.FunFrames base (env::outer))(hf:env.frame=some L)
  (he:s.heap.get? e=some oe)(hd:oe.data=.fields vs)(sz:1 < vs.size)
  (hq:∀h' T,Moved (px (env::outer)) [e] s.heap h'->s.heap.objs.size<=T->rG h' e oe.cls oe.dict T (rawInt L)->Q () { s with heap:=h' }) :
  wpAny M A (do
   let a <-frameOf env
   let pl <-entryPlaceOf L hn
   let b <-EntryCells.newEntry pb a .none (rawInt L) .none pl
   setField (.ref e) 1 b) Q E s:=by
 have efr:e∉px (env::outer):=λz=>by
  obtain⟨_,o,ho,nf⟩:=hl.mem z;rw [he] at ho;cases ho;exact nf vs hd
 refine ax (wpAny_frameOf_fun Ho hl hf λh1 x1=>ax (wpAny_entryPlaceOf λpl nA=>?_));unfold EntryCells.newEntry newFields;refine ax (ju ?_ (nA.sizeOk5 _ _ _ _ _));have e1:h1.get? e=some oe:=(x1.2.1 e efr).trans he;have ne:h1.objs.size≠e:=jq (aW e1);have QW:h1.objs.size=s.heap.objs.size:=x1.1;have dF:=qb hd (·.setIfInBounds 1 (Value.ref h1.objs.size));have old:∀(o₂:Obj)(b:Addr)(o:Obj),b≠e->h1.get? b=some o->((h1.push o₂).update e (Obj.mapFields (·.setIfInBounds 1 (Value.ref h1.objs.size)))).get? b=some o:=λo₂ b o nb q=>by
  rw [gu _ _ (eV nb)];exact bD _ q
 have tb:∀o₂:Obj,o₂.isFreed=false->((h1.push o₂).update e (Obj.mapFields (·.setIfInBounds 1 (Value.ref h1.objs.size)))).get? h1.objs.size=some o₂:=λo₂ nf=>by
  rw [gu _ _ (eV ne)];exact cQ h1 nf
 refine nF (bD _ e1) hd sz (hq _ h1.objs.size ⟨λb o n f q=>?_,λb o n q=>?_⟩ ?_ ⟨_,_,_,_,lZ _ (bD _ e1) (Obj.isFreed_of_fields dF),Obj.cls_mapFields _ _,Cp _ _,dF,by simp [sz],ne,tb _ rfl,rfl,?_⟩)
 .exact old _ b o (λz=>n (by simp [z])) ((x1.2.1 b f).trans q)
 .obtain⟨sl,q1⟩:=x1.2.2 b o q;exact⟨sl,old _ b _ (λz=>n (by simp [z])) q1⟩
 .exact Nat.le_of_eq QW.symm
 first
  | (simp;done)
  | (rcases nA with rfl | ⟨_,_,_,_,_,_,_,rfl⟩ <;> simp)
def zc {oe:Obj}{vs:Array Value}{Q:Unit->Shared->Prop}(Ho:A.frames=some (env::outer))(hl:s.heap.FunFrames base (env::outer))(hf:env.frame=some L)
  (he:s.heap.get? e=some oe)(hd:oe.data=.fields vs)(h1:vs[1]?=some .none)
  (hq:∀h' T,Moved (px (env::outer)) [e] s.heap h'->s.heap.objs.size<=T->rG h' e oe.cls oe.dict T (rawInt L)->Q () { s with heap:=h' }):wpAny M A (noteFrame (.ref e) env) Q E s:=by
 unfold noteFrame;simp only [hf];refine ax (fQ he hd h1 ?_);rw [aA nofun];exact wD Ho hl hf he hd (uC.mp h1).1 hq
def sS {cls:Value}{dx:Option Addr}{T0:Addr}{Q:Unit->Shared->Prop}(Ho:A.frames=some (env::outer))(hl:s.heap.FunFrames base (env::outer))(hf:env.frame=some L)
  (F:rG s.heap e cls dx T0 .none)
  (hq:∀h' T,Moved (px (env::outer)) [e,T0] s.heap h'->s.heap.objs.size<=T->rG h' e cls dx T (rawInt L)->Q () { s with heap:=h' }):wpAny M A (noteFrame (.ref e) env) Q E s:=by
 obtain⟨oe,vs,oT,ts,he,hc,hx,hd,h1,ne,hT,Lk,h3⟩:=F;subst hc hx;unfold noteFrame;simp only [hf];refine ax (fQ he hd h1 ?_);rw [az (by simp)];refine ax (fQ hT Lk h3 ?_);rw [aA (by simp [rawInt])];refine ax (nF hT Lk (uC.mp h3).1 ?_);have QM:∀b,b≠T0->(s.heap.update T0 (Obj.mapFields (·.setIfInBounds 3 Value.none))).get? b=s.heap.get? b:=λb n=>gu _ _ (eV n);have nT:∀b o,s.heap.get? b=some o->(∀vs,o.data≠.fields vs)->b≠T0:=λb o q nf z=>by
  rw [z,hT] at q;cases q;exact nf ts Lk
 refine wD Ho (hl.of_keeps λb o q nf=>⟨o,(QM b (nT b o q nf)).trans q,rfl⟩) hf ((QM e (eV ne)).trans he) hd (uC.mp h1).1 λh' T m nw fd=>?_;refine hq h' T ⟨λb o n f q=>m.keep b o (λz=>n (by simp at z;simp [z])) f ((QM b λz=>n (by simp [z])).trans q),λb o n q=>m.slot b o (λz=>n (by simp at z;simp [z])) ((QM b λz=>n (by simp [z])).trans q)⟩ ?_ fd;rw [Heap.size_after_update] at nw;exact nw
end
def rX (ea:Addr)(cls:Value)(dx:Option Addr):HO:=.ext λh=>∃oe vs,h.get? ea=some oe/\oe.cls=cls/\oe.dict=dx/\oe.data=.fields vs
def AY {P:Program}{w:World}{H:Hp}{h:Heap}{ea:Addr}{cls:Value}{dx:Option Addr}{oe:Obj}{vs:Array Value}(e:h.get? ea=some oe)(c:oe.cls=cls)(d:oe.dict=dx)(f:oe.data=.fields vs) :
  bV P w H h ea (rX ea cls dx) :=
 ⟨⟨oe,vs,e,c,d,f⟩,⟨oe,e⟩,λ_ _ ⟨o,ws,q,r⟩ k=>⟨o,ws,k o q,r⟩⟩
def rG.ok {P:Program}{w:World}{H:Hp}{h:Heap}{ea T:Addr}{cls fl:Value}{dx:Option Addr}(F:rG h ea cls dx T fl):bV P w H h ea (rX ea cls dx):=by
 obtain⟨oe,vs,_,_,he,hc,hx,hd,_⟩:=F;exact AY he hc hx hd
def Jl (h0:Heap)(H:Hp)(h:Heap)(ea:Addr)(cls:Value)(dx:Option Addr):Prop :=
 ∃T,rG h ea cls dx T .none/\H T=none/\H ea=some (rX ea cls dx)/\h0.objs.size<=T/\h0.objs.size<=ea
def kK (P:Program)(w:World):tZ:=λouter H s E e s' =>
 ∃ea cls dx H',e=.ref ea/\s'.os=s.os/\AllBare s'.gens/\Un (px outer) [] H H' s.heap s'.heap/\j_ P w H' s'.heap/\Jl s.heap H' s'.heap ea cls dx/\E cls dx H'
section
variable {X:Cx}{ag:List (Addr×Obj)}{σ:St}{H:Hp}{s:Shared}{M:Model}{A:Around}{E':Value->Shared->Prop}{E:XK}{ea:Addr}{cls:Value}{dx:Option Addr}
def sV {as:List Addr}(J:Inv X ag σ H s)(jn:X.stack=X.env::X.outer)(hex:X.ex=[])
  (hn:∀Q:Unit->Shared->Prop,(∀h' T,Moved (px X.stack) as s.heap h'->s.heap.objs.size<=T->rG h' ea cls dx T (rawInt X.env.locals)->Q () { s with heap:=h' })->wpAny M A (noteFrame (.ref ea) X.env) Q E' s)
  (has:∀b∈as,(H b=none\/b=ea)/\X.s₀.heap.objs.size<=b)(Cd:H ea=some (rX ea cls dx)/\X.s₀.heap.objs.size<=ea)(hE:E cls dx H) :
  wpAny M A (leaving X.env (.ref ea)) (λ_ Dv=>kK X.prog X.w X.outer X.H₀ X.s₀ E (.ref ea) Dv) E' s:=by
 unfold leaving;refine ax (hn _ λh1 T m1 lT F1=>lD (fs:=px X.stack) F1 λh2 m2 F2=>?_);have nT:s.heap.get? T=none:=ug lT;have XZ:H T=none:=J.bH.fresh lT;have mm:Moved (px X.stack) (T::as) s.heap h2:=(m1.mono λb hb=>bS _ hb).trans (m2.mono λb hb=>by simp at hb;simp [hb]);have WI:X.s₀.heap.objs.size<=T:=cC J.sz lT;have old:∀b o,X.s₀.heap.get? b=some o->b∉T::as:=λb o q z=>by
  rcases bN.mp z with z | z
  .rw [z,ug WI] at q;cases q
  rw [ug (has b z).2] at q;cases q
 have base:Un X.fs [] X.H₀ H X.s₀.heap s.heap:=by have u:=J.base;rw [hex] at u;exact u
 refine⟨ea,cls,dx,H,rfl,J.os,J.bare,⟨?_,?_,base.free,?_,base.kS,base.jP,base.j6⟩,?_,⟨T,F2,XZ,Cd.1,WI,Cd.2⟩,hE⟩
 .intro b o q n f x;refine mm.keep b o (old b o q) (λz=>?_) (base.keep b o q n f x);rcases bN.mp (J.uJ b z) with z | z
  .exact absurd (dQ (aW q) (z ▸ J.ok.above)) (iA _)
  exact f z
 .intro b o q n f x;obtain⟨sl,q1⟩:=base.slot b o q n f x;obtain⟨s2,q2⟩:=mm.slot b _ (old b o q) q1;exact⟨s2,q2⟩
 .intro b o q x;obtain⟨o',q1⟩:=base.there b o q x;obtain⟨s2,q2⟩:=mm.slot b _ (old b o q) q1;exact⟨_,q2⟩
 intro a o q;by_cases ha:a=ea
 .subst ha;rw [Cd.1] at q;cases q;exact F2.ok
 have tr:∀b,H b≠none->b≠ea->b∉T::as/\b∉px X.stack:=λb n ne=>⟨λz=>by
  rcases bN.mp z with z | z
  .exact n (z ▸ XZ)
  rcases (has b z).1 with y | y
  .exact n y
  exact ne y,λz=>n (J.pF b z)⟩
 refine(J.bH a o q).ip (λb u hb e=>?_) (λ_ z=>z) λ_ _ z=>z;have vp:H b≠none/\b≠ea:=by
  rcases hb with rfl | hb
  .exact⟨by rw [q];exact uo _,ha⟩
  refine⟨by rw [hb];exact uo _,λz=>?_⟩;rw [z,Cd.1] at hb;cases hb
 exact mm.keep b u (tr b vp.1 vp.2).1 (tr b vp.1 vp.2).2 e
def B2 (J:Inv X ag σ H s)(Ho:A.frames=some (X.env::X.outer))(jn:X.stack=X.env::X.outer)(hf:X.env.frame=some X.env.locals)(hex:X.ex=[])(F:Jl X.s₀.heap H s.heap ea cls dx)(hE:E cls dx H) :
  wpAny M A (leaving X.env (.ref ea)) (λ_ Dv=>kK X.prog X.w X.outer X.H₀ X.s₀ E (.ref ea) Dv) E' s:=by
 obtain⟨T,fd,t1,t2,t3,t4⟩:=F;refine sV (as:=[ea,T]) J jn hex (λQ k=>?_) (λb hb=>?_) ⟨t2,t4⟩ hE
 .have hl:=J.stack;rw [jn] at hl k;exact sS Ho hl hf fd k
 rcases bN.mp hb with rfl | hb
 .exact⟨.inr rfl,t4⟩
 obtain rfl:b=T:=by simpa using hb
 exact⟨.inl t1,t3⟩
def vi {oe:Obj}{vs:Array Value}(J:Inv X ag σ H s)(Ho:A.frames=some (X.env::X.outer))(jn:X.stack=X.env::X.outer)(hf:X.env.frame=some X.env.locals)(hex:X.ex=[])
  (he:s.heap.get? ea=some oe)(hd:oe.data=.fields vs)(h1:vs[1]?=some .none)(Cd:H ea=some (rX ea oe.cls oe.dict)/\X.s₀.heap.objs.size<=ea)(hE:E oe.cls oe.dict H) :
  wpAny M A (leaving X.env (.ref ea)) (λ_ Dv=>kK X.prog X.w X.outer X.H₀ X.s₀ E (.ref ea) Dv) E' s:=by
 refine sV (as:=[ea]) J jn hex (λQ k=>?_) (λb hb=>?_) Cd hE
 .have hl:=J.stack;rw [jn] at hl k;exact zc Ho hl hf he hd h1 k
 obtain rfl:b=ea:=by simpa using hb
 exact⟨.inr rfl,Cd.2⟩
end
section
variable {P:Program}{w:World}{K:aV}{mg:Str->Option Value}{base:Heap}{N:List Str}{qual:Str}{scope:Scope}{f:Addr}{cd:Value}{A:Around}{outer:List Env}{s:Shared}{H:Hp}{E E':XK}
def N7 (hE:∀c d H',E' c d H'->E c d H'):Passes (kK P w) (eQ (kK P w) P w K mg base N qual scope f cd A outer s H E) E':=by
 rintro ag σ H1 s1 e s' I ⟨ea,cls,dx,H',rfl,os,bare,un,bH,⟨T,fd,t1,t2,t3,t4⟩,q⟩;have J:=I.A7 (ch:=[]) os un bH bare (λb z=>absurd z (by simp));have up:s.heap.objs.size<=s1.heap.objs.size:=I.sz;refine cv (B2 (E:=E) J I.ok.frames rfl rfl rfl ⟨T,fd,t1,t2,cC up t3,cC up t4⟩ (hE _ _ _ q)) (λ_ _ z=>z) λ_ _ z=>z
end
open PySem PySem.Spec PyProof.Rows PySem.W PySem.Builtin PySem.Builtin.ObjectAttr
section
variable {prog:Program}{w:World}{A:Around}{E:Value->Shared->Prop}{K:Frag}{C x:Addr}{s:Shared}{cd:ClassData}
structure XC (K:Frag)(C:Addr)(cd:ClassData):Prop where
 cls:clsIn K C=some cd
 sa:findIn K (.ref C) "__setattr__"=some (some (.builtin "object.__setattr__"))
 pass:∀self:Value,refuseLoop self "__setattr__" cd.mro=pure ()
 obj:cd.mro.contains (.type "object")=true
 dict:cd.hasDict=true
def RN {name:Str}{v:Value}{vs:Array Value}{sl:Array (Option Value)}{Q:Unit->Shared->Prop}(X:K.In s.heap)(c:XC K C cd)(ht:takerIn K C name=some none)
  (hx:s.heap.get? x=some ⟨.ref C,none,.fields vs,sl⟩)
  (h:∀h',(∀b o,b≠x->s.heap.get? b=some o->h'.get? b=some o)->h'.get? x=some ⟨.ref C,some s.heap.objs.size,.fields vs,sl⟩->h'.Ns1 s.heap.objs.size (λy=>if y=name then some v else none) ->
   Q () { s with heap:=h',toks:=s.toks+2 }):wpAny (model prog w) A (setAttr (.ref x) name v) Q E s:=by
 have I:InstAt s.heap x ⟨.ref C,none,.fields vs,sl⟩ C none:=⟨hx,rfl,rfl,trivial⟩;have SF:=PySem.F.store_object;have ne:cd.mro.isEmpty=false:=by
  cases q:cd.mro with
  | nil=>have:=c.obj;rw [q] at this;cases this
  | cons _ _=>rfl
 have sub:Looks (model prog w) s.heap (isInstance (.ref x) (.type "object")) true:=I.type.andThen (looks_mroIn X (by unfold mroIn;rw [c.cls,Option.bind_some,aA (by rw [ne];decide),c.obj]));refine set_plain X I c.sa ?_;refine pU SF.slot.plain SF.entry (@check_slot (model prog w) _ _ { s with toks:=s.toks+1 } _ "object" "__setattr__" (.ref x) [.str name s.toks,v] [] _ SF.kind SF.split sub (SF.args (.ref x) _ v) ?_);obtain⟨attr,ha,hr⟩:=Option.bind_eq_some_iff.mp ht;have mro:Looks (model prog w) s.heap (mroOf (.ref C)) cd.mro:=(looks_clsIn X c.cls).andThen .now;have tk:Looks (model prog w) s.heap (storeTaker? attr) none:=by
  cases attr with
  | none=>exact .now
  | some a =>
   obtain⟨b,hb,z⟩:=cf.mp hr;refine(looks_takesIn X hb).andThen ?_;cases b with
   | true=>cases z
   | false=>exact .now
 rw [osa_eq,refuse_eq];refine ax (ax (Looks.here (s:={ s with toks:=s.toks+1 }) I.type (ax (Looks.here (s:={ s with toks:=s.toks+1 }) mro ?_))));rw [c.pass];refine aD (ax (Looks.here (s:={ s with toks:=s.toks+1 }) I.type (ax (Looks.here (s:={ s with toks:=s.toks+1 }) (looks_findIn X ha) (ax (Looks.here (s:={ s with toks:=s.toks+1 }) tk ?_))))));have e1:=bD (h:=s.heap) { cls:=.type "dict",data:=.dict #[] } hx;have nx:x≠s.heap.objs.size:=bB (aW hx);have e2:=lZ (λo:Obj=>{ o with dict:=some s.heap.objs.size }) e1 rfl;have e3:((s.heap.push { cls:=.type "dict",data:=.dict #[] }).update x (λo:Obj=>{ o with dict:=some s.heap.objs.size })).get? s.heap.objs.size=some { cls:=.type "dict",data:=.dict #[] }:=by
  rw [gu _ _ nx];exact cQ _ rfl
 have n0:((s.heap.push { cls:=.type "dict",data:=.dict #[] }).update x (λo:Obj=>{ o with dict:=some s.heap.objs.size })).Ns s.heap.objs.size (λ_=>none):=⟨_,#[],_,e3,rfl,λe he=>absurd he (by simp),λ_=>rfl⟩;dsimp only;unfold storeInOwnDict;refine ax (aD (ax ?_));unfold ownDictForStores instanceDict;refine ax (wpAny_loadPart hx (ax (Looks.here (s:={ s with toks:=s.toks+1 }) (looks_clsIn X c.cls) ?_)));rw [c.dict];refine ax (wpAny_alloc (ax (wpAny_update e1 (aD ?_))));show wpAny _ _ (storeInDict s.heap.objs.size (.str name s.toks) name v) _ _ _;unfold storeInDict newKeyGuard;refine ax (aD (ax (wpAny_nsSet1 (Heap.Ns1.of_empty n0) λh' n1 sb=>?_)));obtain⟨oD,es,ep,Ul,UH,UK⟩:=n1.count (Within.cons name v Within.nil);refine ax (wpAny_lookBehind Ul (by rw [UH];exact pastItsLine_dict (cC UK (by rw [gY];show (1:Nat)<=_;decide))) ?_);refine aD (h h' (λb o nb q=>?_) ((sb.2 x nx).trans e2) n1);refine(sb.2 b (bB (aW q))).trans ?_;rw [gu _ _ (eV nb)];exact bD _ q
end
open PySem PySem.Spec PyProof.Rows PySem.W
abbrev newObj (C:Addr)(dx:Option Addr)(a0:Value):Obj:={ cls:=.ref C,dict:=dx,data:=.fields #[a0,.none,.none,.none,.bool false,.none] }
abbrev jb (rest:List Value):Obj:={ cls:=.type "tuple",data:=.seq rest.toArray }
section
variable {prog:Program}{w:World}{A:Around}{E:Value->Shared->Prop}{h:Heap}{g:Array GenState}{d:Drawn}{t:Nat}{os:OsState}
variable {nm qn:Str}{C N:Addr}{bs bm pR:List Value}{o_:Bool}{sn:List Str}{sub:List Value}{ab:Bool}{col:Option Bool}{dd:Option Addr}{k0 k1 k2 k3 k5:Option Value}{B newId gI:String}
 {mN:Str->Option Value}{rest:List Value}{fI:Addr}{oI:Obj}
def Hc (F:ExcBaseFacts B newId gI pR)(T:OwnTail h pR bm){Q:Fin->Shared->Prop}(hC:h.get? C=some (excClassObj nm qn C N bs bm o_ sn sub ab col dd k0 k1 k2 k3 k5 newId))(hn:h.Ns N mN)
  (hi:mN "__init__"=some (.ref fI))(hf:h.get? fI=some oI)(Hq:oI.cls=.type "function")(hz:rest.length<=sizeLine)
  (hq:wpAny (model prog w) A (call (.ref fI) (.ref (h.objs.size+1)::rest)) (λr s'=>r=.none/\Q (.done (.ret (.ref (h.objs.size+1)))) s') E ⟨(h.push (jb rest)).push (newObj C none (.ref h.objs.size)),g,d,t,os⟩) :
  wpAny (model prog w) A (Builtin.«type.__call__» ⟨.ref C::rest,[]⟩) Q E ⟨h,g,d,t,os⟩:=by
 repeat (first
  | with_reducible refine p5 hC ?_
  | with_reducible refine wpAny_madeBy_exc hC ?_
  | wp_step)
 refine codeAny_call_builtin_code (Code.quiet_builtin _ F.quiet) (wpAny_check_new_subT F T hC (codeAny_exc_new_subT F T hC ?_ hz));show wpAny _ _ _ _ _ _;have up:∀b o,h.get? b=some o->((h.push (jb rest)).push (newObj C none (.ref h.objs.size))).get? b=some o:=λb o e=>bD _ (bD _ e);have c1:=up _ _ hC;have f1:=up _ _ hf;have n1:=hn.keeps up;have g1:((h.push (jb rest)).push (newObj C none (.ref h.objs.size))).get? (h.objs.size+1)=some (newObj C none (.ref h.objs.size)):=by heap_get
 have me:(Value.ref C::bm).contains (.ref C)=true:=by simp
 unfold isInstance
 repeat (first
  | with_reducible refine p5 g1 ?_
  | (with_reducible refine wpAny_isSubtype_exc c1 ?_;rw [me])
  | wp_step)
 show wpAny _ _ (typeLookup (.ref C) _) _ _ _;refine wpAny_typeLookup_tail c1 n1 (T.keeps up) F.mroIs F.init.lookup ?_;rw [hi];refine fK (ax ?_);unfold bindSpecial;refine ax (ik (T := "function") ⟨_,f1,Hq⟩ ?_);rw [az nofun];refine aD (ax (cv hq (λr s' z=>?_) λ_ _ z=>z));obtain⟨rfl,z⟩:=z
 wp_walk
 exact z
def KC (F:ExcBaseFacts B newId gI pR)(T:OwnTail h pR bm){Q:Value->Shared->Prop}(hC:h.get? C=some (excClassObj nm qn C N bs bm o_ sn sub ab col dd k0 k1 k2 k3 k5 newId))(hn:h.Ns N mN)
  (hi:mN "__init__"=some (.ref fI))(hf:h.get? fI=some oI)(Hq:oI.cls=.type "function")(hz:rest.length<=sizeLine)
  (hq:wpAny (model prog w) (A.under (.builtin "type.__call__" ⟨.ref C::rest,[]⟩)) (call (.ref fI) (.ref (h.objs.size+1)::rest)) (λr s'=>r=.none/\Q (.ref (h.objs.size+1)) s') E
   ⟨(h.push (jb rest)).push (newObj C none (.ref h.objs.size)),g,d,t,os⟩) :
  wpAny (model prog w) A (call (.ref C) rest) Q E ⟨h,g,d,t,os⟩:=by
 have a1:=tc_lookup;have a2:=tc_bind (.ref C);have a3:(⟨h,g,d,t,os⟩:Shared).TypeIs (.ref C) "type" := ⟨_,hC,rfl⟩;refine hX (codeAny_of_tree ?_);show wpAny _ _ (callAny (.ref C) _) _ _ _
 repeat (any_goals (first
  | assumption
  | with_reducible refine p5 hC ?_
  | wp_step))
 exact⟨rfl,codeAny_call_builtin_at (Code.quiet_builtin _ nofun) entry_typeCall (wpAny_check_type_call_sub hC (Hc F T hC hn hi hf Hq hz hq))⟩
end
def Ga (K:Frag)(C fI:Addr)(pR:List Value)(newId:String):Bool:=match K.lookup C with
 | some ⟨.type "type",_,.cls c,sl⟩=>(match c.mro,sl.toList with
  | .ref D::bm,[_,_,_,_,some (.builtin n),_]=>D == C && n == newId && !c.hasDel && tailIn K pR bm && nsOkIn K c.ns && (nsIn K c.ns "__init__" == some (some (.ref fI)))
  | _,_=>false)
 | _=>false
def y_ {K:Frag}{h:Heap}{N:Addr}{m:Str->Option Value}{n:Str}{v:Value}(X:K.In h)(G:h.Ns N m)(e:nsIn K N n=some (some v)):m n=some v:=by
 obtain⟨o,es,ep,ho,hd,_,hf⟩:=G;unfold nsIn at e
 split at e
 .rename_i c d vw n' sl q
  have:=X _ _ q;rw [ho] at this;cases this;cases hd
  split at e
  .rename_i en he
   cases e;rw [<-hf];unfold nsFind findBy;rw [<-Array.find?_toList,he];rfl
  split at e <;> cases e
 cases e
def Ju {K:Frag}{h:Heap}{C fI:Addr}{pR:List Value}{newId:String}(X:K.In h)(q:Ga K C fI pR newId=true) :
  ∃nm qn N bs bm o_ sn sub ab col dd k0 k1 k2 k3 k5 mN,h.get? C=some (excClassObj nm qn C N bs bm o_ sn sub ab col dd k0 k1 k2 k3 k5 newId)/\h.Ns N mN/\mN "__init__"=some (.ref fI)/\OwnTail h pR bm:=by
 unfold Ga at q
 split at q
 .rename_i dd c sl ho
  split at q
  .rename_i D bm k0 k1 k2 k3 n k5 hm hs
   simp only [jt,beq_iff_eq,Bool.not_eq_true'] at q;obtain⟨⟨⟨⟨⟨rfl,rfl⟩,Pb⟩,ht⟩,bH⟩,Hm⟩:=q;obtain⟨nm,bs,mro,ns,qn,hd,sn,sub,ab,col,del⟩:=c;dsimp only at hm Pb bH Hm;subst hm Pb;have MM:sl=#[k0,k1,k2,k3,some (.builtin n),k5]:=by
    obtain⟨l⟩:=sl;simp only at hs;rw [hs]
   subst MM;have hN:h.Ns ns (h.nsMap ns):=.of_isNs (isNs_of_in X bH);exact⟨nm,qn,ns,bs,bm,hd,sn,sub,ab,col,dd,k0,k1,k2,k3,k5,_,X _ _ ho,hN,y_ X hN Hm,tail_of_in X ht⟩
  cases q
 cases q
def newX (ea C:Addr)(dx:Option Addr):HO:=.ext λh=>∃a0:Addr,h.get? ea=some (newObj C dx (.ref a0))
def va {P:Program}{w:World}{H:Hp}{h:Heap}{ea C:Addr}{dx:Option Addr}{a0:Addr}(e:h.get? ea=some (newObj C dx (.ref a0))):bV P w H h ea (newX ea C dx) :=
 ⟨⟨a0,e⟩,⟨_,e⟩,λ_ _ ⟨a,q⟩ k=>⟨a,k _ q⟩⟩
section
variable {X:Cx}{ag:List (Addr×Obj)}{σ:St}{H:Hp}{s:Shared}{h':Heap}{ea C:Addr}{dx:Option Addr}
theorem Inv.newX (I:Inv X ag σ H s)(e:H ea=some (newX ea C dx)):∃a0:Addr,s.heap.get? ea=some (newObj C dx (.ref a0)):=(I.bH ea _ e).1
def Inv.LH {o:HO}{φ:Heap->Prop}{n:Option HO}{t':Nat}(I:Inv X ag σ H s)(e:H ea=some (.ext φ))(k:∀b u,b≠ea->s.heap.get? b=some u->h'.get? b=some u)(hz:∃u,h'.get? ea=some u)
  (K9:ea≠s.heap.objs.size)
  (Sw:∀H',bV X.prog X.w H' h' ea o)(Sv:∀m,n=some m->∀H',bV X.prog X.w H' h' s.heap.objs.size m) :
  Inv X ag σ (upd (match n with | some m=>upd H s.heap.objs.size m | none=>H) ea o) { s with heap:=h',toks:=t' }:=by
 have fr:H s.heap.objs.size=none:=I.bH.fresh (aI _);have other:∀b,b≠ea->b≠s.heap.objs.size->upd (match n with | some m=>upd H s.heap.objs.size m | none=>H) ea o b=H b:=λb n1 n2=>by
  rw [ai n1];cases n with
  | none=>rfl
  | some m=>exact ai n2
 have Mx:∀b u,H b=some u->(∀ψ,u≠.ext ψ)->b≠ea:=λb u q d z=>by
  rw [z,e] at q;cases q;exact d _ rfl
 have N9:∀b u,H b=some u->b≠s.heap.objs.size:=λb u q z=>by
  rw [z,fr] at q;cases q
 refine I.un ⟨λb u q n1 _ _=>?_,λb u q n1 _ _=>⟨u.slots,?_⟩,λb u q n1 _=>?_,λb u q _=>?_,λb xs q=>?_,λb u v q=>?_,λb ps q=>⟨#[],?_⟩⟩ λa u q=>?_
 .exact k b u (λz=>by rw [z,e] at n1;cases n1) q
 .exact k b u (λz=>by rw [z,e] at n1;cases n1) q
 .rw [other b (λz=>by rw [z,e] at n1;cases n1) (bB (aW q))];exact n1
 .by_cases z:b=ea
  .rw [z];exact hz
  exact⟨u,k b u z q⟩
 .rw [other b (Mx b _ q (λ_ z=>by cases z)) (N9 b _ q)];exact q
 .rw [other b (Mx b _ q (λ_ z=>by cases z)) (N9 b _ q)];exact q
 .rw [other b (Mx b _ q (λ_ z=>by cases z)) (N9 b _ q),ue];exact q
 by_cases z:a=ea
 .subst z;rw [ae] at q;cases q;exact Sw _
 by_cases z2:a=s.heap.objs.size
 .subst z2;rw [ai z] at q;cases n with
  | none=>dsimp only at q;rw [fr] at q;cases q
  | some m =>
   dsimp only at q;rw [ae] at q;cases q;exact Sv _ rfl _
 rw [other a z z2] at q;refine(I.bH a u q).ip (λb v hb r=>k b v ?_ r) (λb r=>?_) λb xs r=>?_
 .rcases hb with rfl | hb
  .exact z
  exact Mx b _ hb (λ_ y=>by cases y)
 .rw [other b (Mx b _ r (λ_ y=>by cases y)) (N9 b _ r)];exact r
 rw [other b (Mx b _ r (λ_ y=>by cases y)) (N9 b _ r)];exact r
end
section
variable {X:Cx}
end
def Jx {H:Hp}{a:Addr}{o:HO}(h:H a=some o):upd H a o=H:=by
 funext b
 by_cases z:b=a
 .rw [z,ae,h]
 exact ai z
section
variable {X:Cx}
def Zt (K:Frag)(ta tv:TE)(f:Str):TS:=λD σ H=>tv σ H λy H1=>ta σ H1 λv H2=>∃ea C cd,v=.ref ea/\H2 ea=some (newX ea C none)/\XC K C cd/\takerIn K C f=some none /\
 ∀dx,H2 dx=none->dx≠ea->D.nx σ (upd (upd H2 dx (.xd [(f,y)])) ea (newX ea C (some dx)))
def u6 {o value:Expr}{f:Str}{pos pos':Pos}{ta tv:TE}(ha:PE X o ta)(hv:PE X value tv)(hs:swapsWith value (some (.Attribute o f pos')) pos.line X.env=pure false):PS X (.Assign [.Attribute o f pos'] value pos) (Zt X.K ta tv f):=by
 intro ag s σ H D I h;refine plainObj_wpAny_Assign_Attribute (cq (hv ag s σ H _ I h) λu s1 aT=>?_) hs;obtain⟨y,H1,I1,ry,q⟩:=aT;refine cq (ha ag s1 σ H1 _ I1 q) λov s2 aT=>?_;obtain⟨v,H2,I2,rx,ea,C,cd,ev,eH,c,t,q2⟩:=aT;subst ev;obtain rfl:ov=Value.ref ea:=rx;obtain⟨a0,e0⟩:=I2.newX eH;have lt:ea≠s2.heap.objs.size:=bB (aW e0);refine RN I2.jj c t e0 λh' k e1 n1=>⟨σ,_,?_,q2 s2.heap.objs.size (I2.bH.fresh (aI _)) (eV lt)⟩;refine I2.LH (n:=some (.xd [(f,y)])) (o:=newX ea C (some s2.heap.objs.size)) eH k ⟨_,e1⟩ lt (λH'=>va e1) λm em H'=>?_;cases em;refine⟨_,n1,λg=>?_⟩;by_cases z:g=f
 .subst z;show hU (List.lookup g [(g,y)]) (if g=g then some u else none);rw [az rfl];simp only [List.lookup,qa];exact ry
 show hU (List.lookup g [(f,y)]) (if g=f then some u else none);rw [aA z];have zb:(g == f)=false:=by simpa using z
 simp only [List.lookup,zb];trivial
structure BI (K:Frag)(W:Addr)(gI:String):Prop where
 ga:specialIn K (.ref W) "__getattribute__"=some (some (.builtin "type.__getattribute__"))
 rd:∃mc,readsIn K W mc=true/\findCls K (.ref W) mc "__init__"=some (.val (.builtin gI))
 hd:handedIn (.builtin gI)=true
def Zi (K:Frag)(pR:List Value)(newId:String)(t:TA):TE:=λσ H Q=>t σ H λvs H1=>∃ea C fI dx y,vs=[.ref ea,y]/\H1 ea=some (newX ea C dx)/\Ga K C fI pR newId=true/\Q .dI H1
def qA {Wn:Str}{W:Addr}{e1:Expr}{es:List Expr}{p apos pos:Pos}{t:TA}{B newId gI:String}{pR:List Value}{pl:Sem Bool}(F:ExcBaseFacts B newId gI pR)(b:BI X.K W gI)(hg:Gl X Wn)(hm:X.mg Wn=some (.ref W))
  (ha:PA X (e1::es) t)(qP:(Wn == ("__debug__":Str))=false:=by decide)
  (he:starEach (e1::es) X.env=(false,eval e1 X.env)::starEach es X.env:=by rfl)(nA:(backTo pos (starEach es X.env)).any (·.1)=false:=by rfl)
  (ht:eval (.Call (.Attribute (.Name Wn p) "__init__" apos) (e1::es) [] pos) X.env=(do
   let ov <-eval (.Name Wn p) X.env
   standAt apos.atName
   let (f,first) <-holding [ov] (getMethod ov "__init__" pl)
   callWith pos f first (backTo pos (starEach (e1::es) X.env)) (backToKw pos (keywordEach [] X.env))):=by rfl) :
  PE X (.Call (.Attribute (.Name Wn p) "__init__" apos) (e1::es) [] pos) (Zi X.K pR newId t):=by
 intro ag s σ H Q I h;refine methodCall_KW (pl:=pl) (i9 I hg hm ?_ qP) ht;obtain⟨mc,r1,r2⟩:=b.rd;refine method_cls I.jj b.ga (cls_value I.jj r1 r2 b.hd ?_);refine PyProof.Rows.callWith_builtin1 (cq (ha pos ag _ σ H _ (I.tok _) h) λus s1 aT=>?_) he nA;obtain⟨vs,H1,I1,r1,ea,C,fI,dx,y,ev,eH,hx,q⟩:=aT;subst ev;obtain⟨a0,e0⟩:=I1.newX eH;obtain⟨nm,qn,N,bs,bm,o_,sn,sub,ab,col,dd,k0,k1,k2,k3,k5,mN,hC,_,_,T⟩:=Ju I1.jj hx;obtain⟨u,u2,rfl,ra,ry⟩:=vals2 r1;have ra:u=Value.ref ea:=ra;subst ra;obtain⟨hp,g,d,tk,os⟩:=s1;refine hX (pU F.init.plain F.initEntry (wpAny_check_init_subT F T hC e0 rfl ?_));have sz:([u2]:List Value).length<=sizeLine:=by rw [gY];show (1:Nat)<=_;decide
 refine ax (wpAny_newTuple ?_ sz);have g1:=bD (h:=hp) { cls:=.type "tuple",data:=.seq #[u2] } e0;have ne:ea≠hp.objs.size:=bB (aW e0);have g2:=lZ (Obj.mapFields (·.setIfInBounds 0 (Value.ref hp.objs.size))) g1 rfl;have J:=I1.LH (n:=none) (o:=newX ea C dx) (t':=tk) (h':=(hp.push { cls:=.type "tuple",data:=.seq #[u2] }).update ea (Obj.mapFields (·.setIfInBounds 0 (Value.ref hp.objs.size)))) eH
  (λc o nc q=>by rw [gu _ _ (eV nc)];exact bD _ q) ⟨_,g2⟩ ne (λH'=>va g2) (λm em=>by cases em)
 dsimp only at J;rw [Jx eH] at J;refine ax ?_;unfold Builtin.BaseException.bexcPut;refine ax (fQ g1 rfl (x:=.ref a0) rfl (ax (nF g1 rfl (show 0 < 6 by decide) ?_)));refine wpAny_letGo (aD ?_);exact⟨.dI,H1,J,rfl,q⟩
def Zf (X:Cx)(C:Addr)(sp:Sp)(E:XK)(t:TA):TE:=λσ H Q=>t σ H λvs H1=>∀ea,H1 ea=none->X.s₀.heap.objs.size<=ea->sp (.ref ea::vs) (upd H1 ea (newX ea C none)) (λv H2=>v=.dI/\Q (.ref ea) H2) E
def Ke {CX:tZ}{k:Nat}{C fI:Addr}{fd:FuncData}{ps:List Str}{sp:Sp}{E:XK}{B newId gI:String}{pR:List Value}{oI:Obj}{ag:List (Addr×Obj)}{σ:St}{H:Hp}{s:Shared}{Q:VK}{us:List Value}{vs:List V}
  (F:ExcBaseFacts B newId gI pR)(hx:Ga X.K C fI pR newId=true)(lk:X.K.lookup fI=some oI)(Hq:oI.cls=.type "function")(G:ba X.prog X.w X.K X.mg X.base CX k fI fd ps sp)(K6:ps.length<=1000)(hr:di (k+1) X.A)
  (hb:Binds X.K fd ps [])(hp:Passes CX X E)(I:Inv X ag σ H s)(r:aS vs us)
  (h:∀ea,H ea=none->X.s₀.heap.objs.size<=ea->sp (.ref ea::vs) (upd H ea (newX ea C none)) (λv H2=>v=.dI/\Q (.ref ea) H2) E):wpAny (model X.prog X.w) X.A (call (.ref C) us) (EP X ag σ Q) X.xe s:=by
 have q:=h (s.heap.objs.size+1) (I.bH.fresh (gZ _)) (cC I.sz (gZ _));have r2:aS (V.ref (s.heap.objs.size+1)::vs) (Value.ref (s.heap.objs.size+1)::us):=.cons rfl r;have len:=G.len _ _ _ _ q;have l2:(Value.ref (s.heap.objs.size+1)::us++[]).length=ps.length:=by
  rw [fV,<-r2.length];exact len
 have lu:us.length<=sizeLine:=by
  rw [gY];simp only [fV,dC] at l2;omega
 obtain⟨nm,qn,N,bs,bm,o_,sn,sub,ab,col,dd,k0,k1,k2,k3,k5,mN,hC,hN,hi,T⟩:=Ju I.jj hx;have e1:((s.heap.push (jb us)).push (newObj C none (.ref s.heap.objs.size))).get? (s.heap.objs.size+1)=some (newObj C none (.ref s.heap.objs.size)):=by
  have z:=cQ (s.heap.push (jb us)) (o:=newObj C none (.ref s.heap.objs.size)) rfl;rwa [kO] at z
 have I2:=I.laid (a:=s.heap.objs.size+1) (o:=newX (s.heap.objs.size+1) C none) (t':=s.toks) (h':=(s.heap.push (jb us)).push (newObj C none (.ref s.heap.objs.size)))
  (λb u z=>bD _ (bD _ z)) (gZ _) (va e1)
 obtain⟨hh,g,d,tk,os⟩:=s;refine KC F T hC hN hi (I.jj _ _ lk) Hq lu ?_;have b2:=hb _ (Value.ref (hh.objs.size+1)::us) I2.jj l2;rw [fV] at b2;refine hX (iV (G.run _ X.stack _ _ ⟨Value.ref (hh.objs.size+1)::us,[]⟩ _ _ _ E (hr.make C us []) (I2.E2.make C us []) b2 r2 q) λr s' z=>?_);cases r with
 | error e=>exact hp ag σ _ _ e s' I2 z
 | ok fl =>
  cases fl with
  | ret u =>
   obtain⟨v,H',I3,rv,ev,q3⟩:=I2.after z;subst ev;exact⟨rv,⟨V.ref (hh.objs.size+1),H',I3,rfl,q3⟩⟩
  | next=>exact False.elim z
  | brk=>exact False.elim z
  | cont=>exact False.elim z
def N6 {CX:tZ}{k:Nat}{C fI:Addr}{fd:FuncData}{ps:List Str}{sp:Sp}{E:XK}{B newId gI:String}{pR:List Value}{oI:Obj}{x:Str}{e:Expr}{es:List Expr}{p pos:Pos}{t:TA}
  (F:ExcBaseFacts B newId gI pR)(hx:Ga X.K C fI pR newId=true)(lk:X.K.lookup fI=some oI)(Hq:oI.cls=.type "function")(hkp:keepIn X.K (.ref C)=true)(G:ba X.prog X.w X.K X.mg X.base CX k fI fd ps sp)(K6:ps.length<=1000)(hr:di (k+1) X.A)
  (hg:Gl X x)(hm:X.mg x=some (.ref C))(hb:Binds X.K fd ps [])(hp:Passes CX X E)
  (ha:PA X (e::es) t)(qP:(x == ("__debug__":Str))=false:=by decide)(he:starEach (e::es) X.env=(false,eval e X.env)::starEach es X.env:=by rfl)(nA:(backTo pos (starEach es X.env)).any (·.1)=false:=by rfl) :
  PE X (.Call (.Name x p) (e::es) [] pos) (Zf X C sp E t):=by
 intro ag s σ H Q I h;refine lS (i9 I hg hm ?_ qP);refine callWith_K (h₀:=X.base) I.ok.mod.KQ hkp (cq (ha pos ag s σ H _ I h) λus s1 aT=>?_) he nA;obtain⟨vs,H1,I1,r,q⟩:=aT;refine⟨I1.jj,?_⟩;exact Ke F hx lk Hq G K6 hr hb hp I1 r q
end
section
variable {M:Model}{A:Around}{E:Value->Shared->Prop}{s:Shared}{env:Env}
variable {nm qn:Str}{C N:Addr}{bs bm:List Value}{o_:Bool}{sn:List Str}{sub:List Value}{ab:Bool}{col:Option Bool}{dd:Option Addr}{k0 k1 k2 k3 k5:Option Value}{newId:String}
def DB {x:Sem Value}{Q:Flow->Shared->Prop}(hh:A.handled=none)
  (h:wpAny M A x (λv s₁=>∃(ea a0 C:Addr)(dx:Option Addr),v=.ref ea/\s₁.heap.get? ea=some (newObj C dx (.ref a0))/\(∃nm qn N bs bm o_ sn sub ab col dd k0 k1 k2 k3 k5 newId,s₁.heap.get? C=some (excClassObj nm qn C N bs bm o_ sn sub ab col dd k0 k1 k2 k3 k5 newId) /\
   bm.contains (.type "BaseException")=true)/\E (.ref ea) s₁) E s):wpAny M A (raiseStmt env (some x) none) Q E s:=by
 unfold raiseStmt;refine ax (cv h (λv s₁ z=>?_) λ_ _ z=>z);obtain⟨ea,a0,C,dx,rfl,he,⟨nm,qn,N,bs,bm,o_,sn,sub,ab,col,dd,k0,k1,k2,k3,k5,newId,hC,hb⟩,hE⟩:=z;have me:(Value.ref C::bm).contains (.type "BaseException")=true:=by rw [List.contains_cons,hb,Bool.or_true]
 obtain⟨hp,g,d,tk,os⟩:=s₁
 repeat (first
  | with_reducible refine p5 he ?_
  | with_reducible refine p5 hC ?_
  | (with_reducible refine wpAny_isSubtype_exc hC ?_;rw [me])
  | wp_step)
 exact wpAny_raiseNew_none hh hE
end
section
variable {P:Program}{w:World}{K:Frag}{mg:Str->Option Value}{base:Heap}{N:List Str}{qual:Str}{scope:Scope}{f:Addr}{cd:Value}{A:Around}{outer:List Env}{s₀:Shared}{H₀:Hp}{E:XK}
def Zd (X:Cx)(E:XK)(te:TE):TS:=λ_ σ H=>te σ H λv H1=>∃ea C dx fI pR newId,v=.ref ea/\H1 ea=some (newX ea C dx)/\X.s₀.heap.objs.size<=ea/\Ga X.K C fI pR newId=true/\pR.contains (.type "BaseException")=true /\
 E (.ref C) dx (upd H1 ea (rX ea (.ref C) dx))
def DE {e:Expr}{te:TE}{pos:Pos}(he:PE (eQ (kK P w) P w K mg base N qual scope f cd A outer s₀ H₀ E) e te) :
  PS (eQ (kK P w) P w K mg base N qual scope f cd A outer s₀ H₀ E) (.Raise (some e) none pos) (Zd (eQ (kK P w) P w K mg base N qual scope f cd A outer s₀ H₀ E) E te):=by
 intro ag s σ H D I h;rw [arm_exec_Raise];refine ax (wpAny_standAt (DB (I.ok.hd rfl) (ax (cq (he ag s σ H _ I h) λv s1 aT=>?_))));obtain⟨y,H1,I1,ry,ea,C,dx,fI,pR,newId,ev,eH,new,hx,hb,q⟩:=aT;refine ax (wpAny_standAt (aD ?_));subst ev;obtain rfl:v=Value.ref ea:=ry;obtain⟨a0,e0⟩:=I1.newX eH;obtain⟨nm,qn,Nn,bs,bm,o_,sn,sub,ab,col,dd,k0,k1,k2,k3,k5,mN,hC,hN,hi,T⟩:=Ju I1.jj hx;refine⟨ea,a0,C,dx,rfl,e0,⟨nm,qn,Nn,bs,bm,o_,sn,sub,ab,col,dd,k0,k1,k2,k3,k5,newId,hC,T.hasType hb⟩,?_⟩;have J:=I1.LH (n:=none) (o:=rX ea (.ref C) dx) (t':=s1.toks) (h':=s1.heap) eH (λ_ _ _ z=>z) ⟨_,e0⟩ (bB (aW e0)) (λH'=>AY e0 rfl rfl rfl) (λm em=>by cases em);exact cv (vi (E:=E) J I.ok.frames rfl rfl rfl e0 rfl rfl ⟨ae,new⟩ q) (λ_ _ z=>z) λ_ _ z=>z
end
section
variable {X:Cx}{ag:List (Addr×Obj)}{σ:St}{H:Hp}{s:Shared}{h':Heap}{ea:Addr}{cls fl:Value}{dx:Option Addr}{T:Addr}
def Inv.moved {cs:List Addr}(J:Inv X ag σ H s)(mm:Moved (px X.stack) (ea::cs) s.heap h')(Cd:H ea=some (rX ea cls dx))(F:rG h' ea cls dx T fl)
  (Hs:∀b∈cs,H b=none/\X.s₀.heap.objs.size<=b/\b≠X.env.locals/\(∀x c,X.env.cells.lookup x=some c->c≠b)/\∀p∈X.pn++ag,p.1≠b):Inv X ag σ H { s with heap:=h' }:=by
 have ne:∀b,H b=none->b≠ea:=λb n z=>by rw [z,Cd] at n;cases n
 have QN:∀b,b≠ea->b∉cs->b∉ea::cs:=λb n m z=>(bN.mp z).elim n m;refine J.call (ch:=cs) ⟨λb o q n f c=>mm.keep b o (QN b (ne b n) c) f q,λb o q n _ c=>mm.slot b o (QN b (ne b n) c) q,λb o q n _=>n,λb o q c=>?_,λ_ _ q=>q,λ_ _ _ q=>q,λb ps q=>⟨#[],by rw [ue];exact q⟩⟩ ?_ J.bare
  λb hb=>⟨.inr (Hs b hb).2.1,(Hs b hb).2.2⟩
 .by_cases z:b=ea
  .obtain⟨oe,_,_,_,he,_⟩:=F;exact⟨oe,z ▸ he⟩
  obtain⟨sl,q1⟩:=mm.slot b o (QN b z c) q;exact⟨_,q1⟩
 intro a o q;by_cases ha:a=ea
 .subst ha;rw [Cd] at q;cases q;exact F.ok
 refine(J.bH a o q).ip (λb u hb e=>?_) (λ_ z=>z) λ_ _ z=>z;have vp:H b≠none/\b≠ea:=by
  rcases hb with rfl | hb
  .exact⟨by rw [q];exact uo _,ha⟩
  refine⟨by rw [hb];exact uo _,λz=>?_⟩;rw [z,Cd] at hb;cases hb
 exact mm.keep b u (QN b vp.2 λz=>vp.1 (Hs b z).1) (λz=>vp.1 (J.pF b z)) e
def Bj {M:Model}{A:Around}{E:Value->Shared->Prop}{j:Nat}{n:Str}{v:V}{Q:Unit->Shared->Prop}(I:Inv X ag σ H s)(hN:X.N.Nodup)(hj:X.N[j]?=some n)(hl:X.env.scope.names.lookup n=some .local)
  (hv:σ[j]?=some (some v))(h:∀s',Inv X ag (σ.set j none) H s'->Q () s'):wpAny M A (unbindName X.env n) Q E s:=by
 obtain⟨m,hn,lk⟩:=id I.loc;obtain⟨u,_,l⟩:=lk j n v hj hv (.inl hl);have hk:X.env.kindOf n=some .local:=hl;have mn:m n=some u:=by
  rcases l with l | ⟨l,_⟩
  .exact l.2
  rw [hk] at l;rcases l with l | l <;> cases l
 have hc:(X.env.scope.kind == .class || (X.env.scope.kind == .module && X.env.locals != X.env.globals))=false:=by rw [I.ok.kind];rfl
 refine wpAny_unbindName_local hk hn mn hc λh' w' K_ hs=>?_;have nl:∀b o,X.s₀.heap.get? b=some o->b≠X.env.locals:=λb o e=>bB (dQ (aW e) I.ok.above);have cellK:∀y c,X.env.cells.lookup y=some c->∀z,s.heap.IsCell c z->h'.IsCell c z:=λy c e z ⟨o,ho,hd⟩=>⟨o,(hs.2 c (I.Ja y c e)).trans ho,hd⟩;refine h _ ⟨I.ok,I.os,I.bare,⟨λb o e n' hb hx=>?_,λb o e n' hb hx=>?_,I.base.free,λb o e hx=>?_,I.base.kS,I.base.jP,I.base.j6⟩,⟨_,K_,λi y v' e1 e2 e3=>?_⟩,λy c e=>?_,I.free,I.iQ,λp hp=>?_,λb ob e=>?_,by simpa using I.len⟩
 .exact(hs.2 b (nl b o e)).trans (I.base.keep b o e n' hb hx)
 .obtain⟨sl,q⟩:=I.base.slot b o e n' hb hx;exact⟨sl,(hs.2 b (nl b o e)).trans q⟩
 .obtain⟨o',q⟩:=I.base.there b o e hx;exact⟨o',(hs.2 b (nl b o e)).trans q⟩
 .by_cases AO:i=j
  .subst AO;have lt:i < σ.length:=(bo.mp hv).1;rw [uz lt] at e2;cases e2
  rw [List.getElem?_set_ne (λz=>AO z.symm)] at e2;have yn:y≠n:=λz=>AO (qE hN (z ▸ e1) hj);obtain⟨u',ru,l'⟩:=lk i y v' e1 e2 e3;refine⟨u',ru,?_⟩;rcases l' with l' | ⟨k',c,ec,z⟩
  .exact .inl ⟨l'.1,by show (if y=n then w' else m y)=_;rw [aA yn];exact l'.2⟩
  exact .inr ⟨k',c,ec,cellK y c ec _ z⟩
 .obtain⟨z,q⟩:=I.cell y c e;exact⟨z,cellK y c e z q⟩
 .obtain⟨e,n',ne,nf,d⟩:=I.pin p hp;exact⟨(hs.2 p.1 ne).trans e,n',ne,nf,d⟩
 refine(I.bH b ob e).ip (λc w'' j7 q=>(hs.2 c λz=>?_).trans q) (λ_ q=>q) λ_ _ q=>q;have fr:=I.free;rw [<-z] at fr;rcases j7 with y | y
 .rw [<-y,fr] at e;cases e
 rw [fr] at y;cases y
def Inv.away {b:Addr}(I:Inv X ag σ H s)(lb:s.heap.objs.size<=b):X.s₀.heap.objs.size<=b/\b≠X.env.locals/\(∀x c,X.env.cells.lookup x=some c->c≠b)/\∀p∈X.pn++ag,p.1≠b:=by
 have lt:∀{c:Addr}{o:Obj},s.heap.get? c=some o->c≠b:=λe z=>absurd (dQ (aW e) (z ▸ lb)) (iA _);refine⟨cC I.sz lb,λz=>absurd (dQ I.lt (z ▸ lb)) (iA _),λx c ec=>?_,λp hp=>lt (I.pin p hp).1⟩;obtain⟨v,o,ho,_⟩:=I.cell x c ec;exact lt ho
abbrev Cx.hold (X:Cx)(ea:Addr):Cx:={ X with A:=X.A.mark (some (.ref ea)),calm:=false,xe:=λ_ _=>False }
theorem Inv.hold (I:Inv X ag σ H s)(ea:Addr):Inv (X.hold ea) ag σ H s :=
 ⟨⟨I.ok.mod,I.ok.kind,I.ok.glob,I.ok.blt,I.ok.above,I.ok.inj,I.ok.has,I.ok.Na,(λz=>by cases z),I.ok.frames,I.ok.Ii,I.ok.LG,I.ok.bs,I.ok.Fd,I.ok.BU,I.ok.zE,I.ok.mZ,I.ok.HA⟩,
  I.os,I.bare,I.base,I.loc,I.cell,I.free,I.iQ,I.pin,I.bH,I.len⟩
def Inv.Jy {ok:X.Ok}(I:Inv (X.hold ea) ag σ H s):Inv X ag σ H s:=⟨ok,I.os,I.bare,I.base,I.loc,I.cell,I.free,I.iQ,I.pin,I.bH,I.len⟩
end
section
variable {X:Cx}{k:Nat}{f W:Addr}{fd:FuncData}{ps:List Str}{sp:Sp}{y fn Cn n:Str}{a:Expr}{as:List Expr}{t:TA}{i j:Nat}{b₀:Stmt}{Ac:List Stmt}{tb:TS}{p py cp ap np hp pos:Pos}
end
structure XG (K:Frag)(C:Addr):Prop where
 dict:hasDictIn K C=true
 ga:findIn K (.ref C) "__getattribute__"=some (some (.builtin "BaseException.__getattribute__"))
 gt:findIn K (.ref C) "__getattr__"=some none
 be:mroIn K C (.type "BaseException")=some true
 ob:mroIn K C (.type "object")=some true
 ca:findIn K (.ref C) "__class__"=some (some (.builtin "object.__class__"))
 cg:specialIn K (.builtin "object.__class__") "__get__"=some (some (.builtin "getset_descriptor.__get__"))
 ct:takesIn K (.builtin "object.__class__")=some true
 me:kitCls K (.ref C) (.ref C)=some true
section
variable {prog:Program}{w:World}{A:Around}{E:Value->Shared->Prop}{s:Shared}{K:Frag}{x C:Addr}{ox:Obj}{od:Option Obj}{name:Str}{v:Value}{tk:Tok}
def nv (prog:Program)(w:World)(s:Shared)(x:Addr)(name:Str)(tk:Tok)(v:Value):Prop :=
 ∀(A':Around)(E':Value->Shared->Prop)(Q':Fin->Shared->Prop),Q' (.done (.ret v)) s->wpAny (model prog w) A' (Builtin.«object.__getattribute__» ⟨[.ref x,.str name tk],[]⟩) Q' E' s
def ER (X:K.In s.heap)(I:InstAt s.heap x ox C od)(hf:findObj K C od name=some (.value v)):nv prog w s x name tk v:=by
 intro A' E' Q' q;obtain⟨h0,g0,d0,t0,Sq⟩:=s;have b0:=I.type (M:=model prog w);have b1:=looks_find (M:=model prog w) X I hf;unfold Builtin.«object.__getattribute__»
 repeat lk
 exact q
def ES (X:K.In s.heap)(I:InstAt s.heap x ox C od)(hf:findObj K C od name=some (.bind (.builtin "getset_descriptor.__get__") (.builtin "object.__class__")))(hm:mroIn K C (.type "object")=some true):nv prog w s x name tk (.ref C):=by
 intro A' E' Q' q;obtain⟨h0,g0,d0,t0,Sq⟩:=s;have b0:=I.type (M:=model prog w);have b1:=looks_find (M:=model prog w) X I hf;unfold Builtin.«object.__getattribute__»;refine ax (aD (ax (aD (ax (b0.at (ax (b1.at ?_)))))));show wpAny _ _ (holding [_] (call _ [_,_,_]) >>= ret) _ _ _;refine ax (fK (hX (class_get X I hm ?_)));exact aD q
set_option maxHeartbeats 400000 in
def Ig {fill expr:Bool}{Q:Value->Shared->Prop}(X:K.In s.heap)(G:XG K C)(I:InstAt s.heap x ox C od)(t:nv prog w s x name tk v)(hv:handedIn v=true)(q:Q v s) :
  wpAny (model prog w) A (getAttrBy (.ref x) (.str name tk) fill expr) Q E s:=by
 obtain⟨h0,g0,d0,t0,Sq⟩:=s;have b0:=I.type (M:=model prog w);have b1:=looks_findIn (M:=model prog w) X G.ga;have b2:=looks_findIn (M:=model prog w) X G.gt;have b3:Looks (model prog w) h0 (isInstance (.ref x) (.type "BaseException")) true:=b0.andThen (looks_mroIn X G.be);have n0:(Value.builtin "BaseException.__getattribute__" == Value.builtin "object.__getattribute__")=false:=by decide +kernel
 have n1:(onTheHeap (Value.ref C) && Value.builtin "BaseException.__getattribute__" == Value.builtin "object.__getattribute__")=false:=by rw [n0,Bool.and_false]
 have n2:(expr && onTheHeap (Value.builtin "BaseException.__getattribute__"))=false:=by cases expr <;> rfl
 unfold getAttrBy;refine fK (ax (b0.at (ax (b1.at ?_))));show wpAny _ _ (if (onTheHeap (Value.ref C) && Value.builtin "BaseException.__getattribute__" == Value.builtin "object.__getattribute__")=true then _ else _) _ _ _;rw [aA (by rw [n1];exact cW)];unfold getAttrByItsOwn;refine ax ?_;show wpAny _ _ (typeLookup (.ref C) "__getattr__") _ _ _;refine b2.at ?_;refine ax (nE (fK ?_));unfold callGetattribute;rw [aA (by rw [n2];exact cW)];unfold boundAndCalled;rw [PySem.F.attr_ValueError.ga.bind (.ref x)];refine ax (aD ?_);show wpAny _ _ (call _ _) _ _ _;refine hX ?_;show codeAny _ _ (.call (.builtin "BaseException.__getattribute__") ⟨[.ref x,.str name tk],[]⟩) _ _;refine pU PySem.F.attr_ValueError.ga.plain PySem.F.entry_bexc_ga ?_;refine @check_slot (model prog w) _ _ ⟨h0,g0,d0,t0,Sq⟩ "BaseException.__getattribute__" "BaseException" "__getattribute__" (.ref x) [.str name tk] [] _ nofun nofun b3 (PySem.F.args_bexc_ga _ _) ?_;refine t _ _ _ ?_;exact handed_on hv q
def Js {expr:Bool}{Q:Value->Shared->Prop}(X:K.In s.heap)(G:XG K C)(I:InstAt s.heap x ox C od)(t:nv prog w { s with toks:=s.toks+1 } x name s.toks v)(hv:handedIn v=true)(q:Q v { s with toks:=s.toks+1 }) :
  wpAny (model prog w) A (getAttr (.ref x) name expr) Q E s:=by
 unfold getAttr;exact ax (wpAny_mkText (Ig (s:={ s with toks:=s.toks+1 }) X G I t hv q))
def Jt {Q:Option Value->Shared->Prop}(X:K.In s.heap)(G:XG K C)(I:InstAt s.heap x ox C od)(t:nv prog w { s with toks:=s.toks+1 } x name s.toks v)(hv:handedIn v=true)(q:Q (some v) { s with toks:=s.toks+1 }) :
  wpAny (model prog w) A (getAttr? (.ref x) name) Q E s:=by
 unfold getAttr? getAttrBy?;exact ax (wpAny_mkText (ax (nE (Ig (s:={ s with toks:=s.toks+1 }) X G I t hv (aD q)))))
def Ex (G:XG K C):KitX K (.ref x) (.ref C) (λh=>∃ox od,InstAt h x ox C (some od)) where
 ty:=λ_ _ _ ⟨_,_,I⟩=>I.type
 it:=λM h X _=>(kit_cls (M:=M) X G.me).2.1
 ne:=λh tp dd aO n sl X T5=>by
  obtain⟨cd,hc,_⟩:=any_some G.dict;cases e:(Value.ref C == .ref tp) with
  | false=>rfl
  | true =>
   exfalso;have e2:=Value.ref.inj (beq_iff_eq.mp e);rw [<-e2] at T5;unfold clsIn at hc
   split at hc
   .next ho=>rw [X _ _ ho] at T5;cases T5
   cases hc
 ca:=λ{prog w A E Q s} X ⟨ox,od,I⟩ k=>by
  obtain⟨cd,hc,_⟩:=any_some G.dict;exact Jt X G I (ES (s:={ s with toks:=s.toks+1 }) X I (findObj_data (by rw [hc];rfl) G.ca G.cg G.ct) G.ob) rfl k
end
section
variable {X:Cx}{ag:List (Addr×Obj)}{σ:St}{H:Hp}{s:Shared}{ea C dx:Addr}{fs:List (Str×V)}
def Nc (H:Hp)(ea C dx:Addr)(fs:List (Str×V)):Prop:=H ea=some (rX ea (.ref C) (some dx))/\H dx=some (.xd fs)
def Nc.inst (I:Inv X ag σ H s)(e:Nc H ea C dx fs):∃ox od,InstAt s.heap ea ox C (some od)/\∃mA:Str->Option Value,(∀f,hU (fs.lookup f) (mA f))/\∀name,lookIn name od=some (mA name):=by
 obtain⟨⟨oe,vs,e1,c1,d1,f1⟩,_⟩:=I.bH _ _ e.1;obtain⟨mA,n1,r1⟩:=(show bV _ _ _ _ dx (.xd fs) from I.bH _ _ e.2);obtain⟨od,ho,hl⟩:=sU n1;refine⟨oe,od,⟨e1,c1,?_,?_⟩,mA,r1,hl⟩
 .unfold notCls;rw [f1]
 rw [d1];exact ho
def Za (K:Frag)(ta:TE)(f:Str):TE:=λσ H Q=>ta σ H λx H1=>∃ea C dx fs v,x=.ref ea/\Nc H1 ea C dx fs/\XG K C/\cX K C f/\fs.lookup f=some v/\Q v H1
def GO {e:Expr}{ta:TE}{f:Str}{pos:Pos}(he:PE X e ta)(hb:attributeBase e f X.env (eval e X.env)=eval e X.env):PE X (.Attribute e f pos) (Za X.K ta f):=by
 intro ag s σ H Q I h;refine A_ hb (cq (he ag s σ H _ I h) λu s1 aT=>?_);obtain⟨x,H1,I1,rx,ea,C,dx,fs,v,ex,xo,G,n,l,q⟩:=aT;subst ex;obtain rfl:u=Value.ref ea:=rx;obtain⟨ox,od,J,mA,ra,hl⟩:=xo.inst I1;obtain⟨u',hu,ru⟩:=hU.some_of (v:=v) (o:=mA f) (by rw [<-l];exact ra f);exact Js I1.jj G J (ER (s:={ s1 with toks:=s1.toks+1 }) I1.jj J (findObj_own G.dict n rfl (by rw [hl,hu]))) (tF ru) ⟨v,H1,I1.tok _,ru,q⟩
end
def rD (z:Str):Prop:=z.length<=1000/\∀c∈z.cps.toList,c < 16 ^ 8
theorem ku:∀zs:List Str,PyData.showableAll (zs.map PyData.str)=true
 | []=>by simp [PyData.showableAll]
 | z::r=>by simp [PyData.showableAll,PyData.showable,ku r]
theorem oJ:∀zs:List Str,PyData.hasDictAll (zs.map PyData.str)=false
 | []=>by simp [PyData.hasDictAll]
 | z::r=>by simp [PyData.hasDictAll,PyData.hasDict,oJ r]
theorem qi:∀zs:List Str,PyData.depthAll (zs.map PyData.str)=0
 | []=>by simp [PyData.depthAll]
 | z::r=>by simp [PyData.depthAll,PyData.depth,qi r]
theorem oH:∀(ts:List Str) (k:Nat)(bA:Str),(textFrom k bA ts).length<=bA.length+piled ts
 | [],_,bA=>Nat.le_add_right _ _
 | t::r,k,bA=>by
  have ih:=oH r (k+1) (bA++(if k > 0 then "\x2c\x20" else "":String)++t);have e:(bA++(if k > 0 then "\x2c\x20" else "":String)++t).length=bA.length+(if k > 0 then 2 else 0)+t.length:=by
   rw [jB,jB]
   split <;> rfl
  rw [e] at ih;rw [piled_cons];have d:(if k > 0 then 2 else 0:Nat)<=2:=by split <;> omega
  show (textFrom (k+1) _ r).length<=_;omega
def oN (ts:List Str):(listText ts).length<=2+piled ts:=by
 unfold listText;rw [jB];have:=oH ts 0 "[";have e1:("[":Str).length=1:=rfl;have e2:("]":Str).length=1:=rfl;rw [e1] at this;rw [e2];omega
theorem qz:∀(zs:List Str),(∀z∈zs,rD z)->piled (PyData.shownAll (zs.map PyData.str))<=10004 * zs.length
 | [],_=>by simp [PyData.shownAll,piled_nil]
 | z::r,h=>by
  have ih:=qz r λx hx=>h x (bS _ hx);obtain⟨h1,h2⟩:=h z bX;have h3:=PySem.StrLaws.reprText_len z h2;rw [bG,dC];show piled (PyData.shown (.str z)::PyData.shownAll (r.map PyData.str))<=_;rw [piled_cons];have e:PyData.shown (.str z)=reprText z:=by simp [PyData.shown]
  rw [e];omega
section
variable {K:aV}{H:Hp}
mutual
def j8 (K:aV)(H:Hp):PyData->V->Prop
 | .str x,v=>v=.str x
 | .int i,v=>v=.int i
 | .list xs,v=>∃a ys,v=.ref a/\aG K H a ys/\lL K H xs ys
 | .tuple xs,v=>∃a ys,v=.ref a/\a9 K H a ys/\lL K H xs ys
 | _,_=>False
def lL (K:aV)(H:Hp):List PyData->List V->Prop
 | [],ys=>ys=[]
 | d::ds,ys=>∃y r,ys=y::r/\j8 K H d y/\lL K H ds r
end
end
section
variable {X:Cx}{ag:List (Addr×Obj)}{σ:St}{H:Hp}{s:Shared}
mutual
theorem sL (I:Inv X ag σ H s):∀(d:PyData)(v:V)(u:Value),j8 X.K H d v->RelV v u->∃as,Reads s.heap u d as
 | .str x,v,u,h,r=>by
  cases (show v=.str x by simpa [j8] using h);obtain⟨t,rfl⟩:=(show ∃t,u=Value.str x t from r);exact⟨_,.str x t⟩
 | .int i,v,u,h,r=>by
  cases (show v=.int i by simpa [j8] using h);obtain⟨t,rfl⟩:=(show ∃t,u=Value.int i t from r);exact⟨_,.int i t⟩
 | .list xs,v,u,h,r=>by
  obtain⟨a,ys,rfl,hq,ha⟩:=(show ∃a ys,v=.ref a/\aG X.K H a ys/\lL X.K H xs ys by simpa [j8] using h);cases (show u=Value.ref a from r);obtain⟨aO,rv,⟨o,n,eo,c,_,d⟩,_⟩:=I.list hq;obtain⟨as,ra⟩:=n6 I xs ys aO ha rv;exact⟨_,Reads.list eo c d (by simpa using ra)⟩
 | .tuple xs,v,u,h,r=>by
  obtain⟨a,ys,rfl,hq,ha⟩:=(show ∃a ys,v=.ref a/\a9 X.K H a ys/\lL X.K H xs ys by simpa [j8] using h);cases (show u=Value.ref a from r);obtain⟨aO,rv,⟨o,ho,hc,n,hd⟩,_⟩:=I.tuple hq;obtain⟨as,ra⟩:=n6 I xs ys aO ha rv;exact⟨_,Reads.tuple ho hc hd (by simpa using ra)⟩
 | .none,v,u,h,r=>absurd h (by simp [j8])
 | .bool _,v,u,h,r=>absurd h (by simp [j8])
 | .dict _,v,u,h,r=>absurd h (by simp [j8])
theorem n6 (I:Inv X ag σ H s):∀(ds:List PyData)(ys:List V)(us:List Value),lL X.K H ds ys->aS ys us->∃as,ReadsAll s.heap us ds as
 | [],ys,us,h,r=>by
  cases (show ys=[] by simpa [lL] using h);cases r;exact⟨_,.nil⟩
 | d::ds,ys,us,h,r=>by
  obtain⟨y,r2,rfl,h1,h2⟩:=(show ∃y r,ys=y::r/\j8 X.K H d y/\lL X.K H ds r by simpa [lL] using h);cases r with
  | cons a b =>
   obtain⟨as,q1⟩:=sL I d _ _ h1 a;obtain⟨bs,q2⟩:=n6 I ds _ _ h2 b;exact⟨_,.cons q1 q2⟩
end
end
section
variable {X:Cx}
structure Fw (d:PyData):Prop where
 sh:d.showable=true
 nd:d.hasDict=false
 dp:d.depth<=8
 ln:d.shown.length<=10005002
def ND (K:aV)(t:TE):TE:=λσ H Q=>t σ H λv H1=>∃a d,v=.ref a/\j8 K H1 d v/\Fw d/\∀y,Q (.str y) H1
def u7 {e:Expr}{te:TE}{a:Str}{j:Nat}{p1 p2 pos:Pos}(hg:X.A.guards=some [])(hu:X.A.units+8 < cLine)(he:PE X e te)(ha:a.length<=1000) :
  PE X (.JoinedStr [.Constant (.str a) j p1,.FormattedValue e 114 none p2] pos) (ND X.K te):=by
 intro ag s σ H Q I h;refine wpAny_JoinedStr ?_;show wpAny _ _ (eval _ X.env) _ _ _;refine Calls.Constant_str ⟨a,_,rfl,?_,?_⟩
 .show (Str.empty++a).length<=sizeLine;rw [jB,gY];show 0+a.length<=_;omega
 have l0:(Str.empty++a).length=a.length:=by rw [jB];exact kN _
 show wpAny _ _ (eval _ X.env) _ _ _;refine wpAny_FormattedValue_repr (cq (he ag _ σ H _ (I.tok _) h) λu s1 aT=>?_);obtain⟨v,H1,I1,rv,l,d,ev,hd,ok,q⟩:=aT;obtain⟨as,rd⟩:=sL I1 d v u hd rv;subst ev;cases (show u=Value.ref l from rv);have lz:=ok.ln;have WZ:d.shown.length<=sizeLine:=by rw [gY];omega
 refine pyReprObj_of_reads rd ok.sh (PyData.noDict_hsm ok.nd) hg (by have:=ok.dp;omega) (λ_ _ z=>z) (λh' u tk hk=>?_) WZ;have fin:(Str.empty++a++d.shown).length<=sizeLine:=by
  rw [jB,l0,gY];omega
 refine wpAny_formatField_str ⟨_,_,rfl,fin,?_⟩ ⟨_,_,rfl,fin,?_⟩ WZ
 .exact⟨fin,.str _,H1,I1.kept (t':=_) hk,⟨_,rfl⟩,q _⟩
 exact⟨fin,.str _,H1,I1.kept (t':=_) hk,⟨_,rfl⟩,q _⟩
end
theorem wo {K:aV}{H:Hp}:∀zs:List Str,lL K H (zs.map PyData.str) (zs.map V.str)
 | []=>by simp [lL]
 | z::r=>by
  have:∃y s,V.str z::r.map V.str=y::s/\j8 K H (.str z) y/\lL K H (r.map PyData.str) s:=⟨_,_,rfl,by simp [j8],wo r⟩;rw [bG,bG,lL];exact this
def sJ {zs:List Str}(hl:zs.length<=1000)(hz:∀z∈zs,rD z):Fw (.list (zs.map PyData.str)):=by
 refine⟨by simp [PyData.showable,ku],by simp [PyData.hasDict,oJ],by simp [PyData.depth,qi],?_⟩;have h1:=oN (PyData.shownAll (zs.map PyData.str));have h2:=qz zs hz;have e:(PyData.list (zs.map PyData.str)).shown=listText (PyData.shownAll (zs.map PyData.str)):=by simp [PyData.shown]
 rw [e];omega
def wk {K:aV}{H:Hp}{a:Addr}{zs:List Str}(h:aG K H a (zs.map V.str)):j8 K H (.list (zs.map PyData.str)) (.ref a):=by
 have:∃b ys,V.ref a=.ref b/\aG K H b ys/\lL K H (zs.map PyData.str) ys:=⟨a,_,rfl,h,wo zs⟩;simpa [j8] using this
def tK (p:Nat×Nat):PyData:=.tuple [.int (p.1:Int),.int (p.2:Int)]
theorem mx:∀ps:List (Nat×Nat),(∀p∈ps,p.1<=1000/\p.2<=1000)->PyData.showableAll (ps.map tK)=true
 | [],_=>by simp [PyData.showableAll]
 | p::r,h=>by
  have l:∀n:Nat,n<=1000->((n:Int).natAbs.log2 < 1920):=λn hn=>by
   rw [Int.natAbs_natCast];by_cases z:n=0
   .subst z;decide
   exact(Nat.log2_lt z).mpr (pT hn (dQ (show 1000 < 2 ^ 10 by decide) (Nat.pow_le_pow_right nofun nofun)))
  obtain⟨h1,h2⟩:=h p bX;have i1:=l p.1 h1;have i2:=l p.2 h2;rw [Int.natAbs_natCast] at i1 i2;simp [PyData.showableAll,PyData.showable,tK,mx r (λx hx=>h x (bS _ hx)),i1,i2]
theorem qy:∀ps:List (Nat×Nat),PyData.hasDictAll (ps.map tK)=false
 | []=>by simp [PyData.hasDictAll]
 | p::r=>by simp [PyData.hasDictAll,PyData.hasDict,tK,qy r]
theorem sM:∀ps:List (Nat×Nat),PyData.depthAll (ps.map tK)<=1
 | []=>by simp [PyData.depthAll]
 | p::r=>by
  have:=sM r;simp only [bG,PyData.depthAll,tK,PyData.depth];omega
def Kl {p:Nat×Nat}(h:p.1<=1000/\p.2<=1000):(tK p).shown.length<=100:=by
 have l:∀n:Nat,n<=1000->(Str.ofString (toString (n:Int))).length<=11:=λn hn=>by
  rw [PySem.ofString_length];exact int_text_length_le10 (k:=10) nofun (by rw [Int.natAbs_natCast];exact pT hn nofun)
 have e:(tK p).shown=tupleText [Str.ofString (toString (p.1:Int)),Str.ofString (toString (p.2:Int))]:=by simp [PyData.shown,PyData.shownAll,tK]
 rw [e];unfold tupleText;rw [jB,jB];have j:=join_length_add [Str.ofString (toString (p.1:Int)),Str.ofString (toString (p.2:Int))] (by simp);rw [piled_cons,piled_cons,piled_nil] at j;have h1:=l p.1 h.1;have h2:=l p.2 h.2;have e1:(("(":String):Str).length=1:=rfl;have e2:(((if [Str.ofString (toString (p.1:Int)),Str.ofString (toString (p.2:Int))].length == 1 then ",)" else ")":String):Str)).length<=2:=by split <;> decide
 rw [e1];omega
theorem sN:∀(ps:List (Nat×Nat)),(∀p∈ps,p.1<=1000/\p.2<=1000)->piled (PyData.shownAll (ps.map tK))<=102 * ps.length
 | [],_=>by simp [PyData.shownAll,piled_nil]
 | p::r,h=>by
  have ih:=sN r λx hx=>h x (bS _ hx);have h3:=Kl (h p bX);rw [bG,dC];show piled (PyData.shown (tK p)::PyData.shownAll (r.map tK))<=_;rw [piled_cons];omega
def Dy {ps:List (Nat×Nat)}(hl:ps.length<=1000)(hp:∀p∈ps,p.1<=1000/\p.2<=1000):Fw (.list (ps.map tK)):=by
 refine⟨by simp [PyData.showable,mx ps hp],by simp [PyData.hasDict,qy],by have:=sM ps;simp only [PyData.depth];omega,?_⟩;have h1:=oN (PyData.shownAll (ps.map tK));have h2:=sN ps hp;have e:(PyData.list (ps.map tK)).shown=listText (PyData.shownAll (ps.map tK)):=by simp [PyData.shown]
 rw [e];omega
theorem AA {K:aV}{H:Hp}:∀{ts:List Addr}{ps:List (Nat×Nat)},Paired (λt (p:Nat×Nat)=>a9 K H t [.int (p.1:Int),.int (p.2:Int)]) ts ps->lL K H (ps.map tK) (ts.map V.ref)
 | [],[],_=>by simp [lL]
 | t::ts,p::ps,.cons a b=>by
  rw [bG,bG,lL];refine⟨_,_,rfl,?_,AA b⟩;have:∃b ys,V.ref t=.ref b/\a9 K H b ys/\lL K H [.int (p.1:Int),.int (p.2:Int)] ys:=⟨t,_,rfl,a,by simp [lL,j8]⟩;rw [tK,j8];exact this
def Gv {K:aV}{H:Hp}{a:Addr}{ts:List Addr}{ps:List (Nat×Nat)}(h:aG K H a (ts.map V.ref))(hp:Paired (λt (p:Nat×Nat)=>a9 K H t [.int (p.1:Int),.int (p.2:Int)]) ts ps):j8 K H (.list (ps.map tK)) (.ref a):=by
 have:∃b ys,V.ref a=.ref b/\aG K H b ys/\lL K H (ps.map tK) ys:=⟨a,_,rfl,h,AA hp⟩;rw [j8];exact this
section
variable {X:Cx}{k:Nat}{f C W:Addr}{fd:FuncData}{ps:List Str}{sp:Sp}{ds:List Value}{dvs:List V}{x Cn n:Str}{a:Expr}{as:List Expr}{t:TA}{j:Nat}{b₀:Stmt}{Ac:List Stmt}{tb:TS}{p cp ap np hp pos:Pos}
end
end L2
namespace eX
open PySem L2 M11 PySem.W
abbrev qp:Stmt:=Hd (top 14) 0
abbrev yq:Stmt:=Hd (top 15) 0
abbrev yy:Stmt:=Hd (top 16) 0
abbrev Cy:List Value:=[.type "ValueError",.type "Exception",.type "BaseException",.type "object"]
structure Nd (K:Frag)(mg:Str->Option Value)(nm fld:Str)(C W fI:Addr):Prop where
 x:Ga K C fI Cy "ValueError.__new__"=true
 kp:keepIn K (.ref C)=true
 mC:mg nm=some (.ref C)
 mW:mg "WrightError"=some (.ref W)
 xc:∃cd,XC K C cd
 tk:takerIn K C fld=some none
 bi:BI K W "ValueError.__init__"
 fn:∃oI,K.lookup fI=some oI/\oI.cls=.type "function"
section
variable {P:Program}{w:World}{K:aV}{mg:Str->Option Value}{base:Heap}{f C W:Addr}{fd:FuncData}
def C0 {A:Around}{k n:Nat}(hr:di k A)(h:n<=16 * k+200):A.units+n < cLine:=by have:=hr.un;omega
def l_ (K:Frag)(C:Addr)(fld:Str):Sp:=λvs H Q _=>∃(ea l:Addr)(xs:List V)(d:PyData),vs=[.ref ea,.ref l]/\aG K H l xs/\j8 K H d (.ref l)/\Fw d/\H ea=some (newX ea C none) /\
 ∀m dx,H m=none->dx≠m->H dx=none->dx≠ea->Q .dI (upd (upd (upd H m (.lst xs)) dx (.xd [(fld,.ref m)])) ea (newX ea C (some dx)))
def Bs:aH ["self","names"] ["self","names"] (av qp):=iw rfl rfl rfl rfl nofun
def yX (F:gX K "__init__" "Endless.__init__" qp f fd)(T:Txt mg)(N:Nd K mg "Endless" "names" C W f):ba P w K mg base fc 1 f fd ["self","names"] (l_ K C "names"):=by
 refine F.ok Bs (λvs H Q E h=>?_) (λdw A outer s H vs Q E hr h=>?_)
 .obtain⟨ea,l,xs,d,rfl,_⟩:=h;rfl
 obtain⟨ea,l,xs,d,rfl,hl,hd,ok,eH,q⟩:=h;refine⟨_,aj (cP (qA uD N.bi rfl N.mW (af (pv 0) (af (u7 hr.gd (C0 (n:=8) hr nofun) (pv 1) nofun) ak))))
  (ao (u6 (pv 0) (bc dO rfl T.lst eI (af (pv 1) ak)) rfl)),?_⟩
 obtain⟨cd,xc⟩:=N.xc;refine⟨_,rfl,_,rfl,l,d,rfl,hd,ok,λy=>⟨ea,C,f,none,_,rfl,eH,N.x,?_⟩⟩;refine⟨_,rfl,l,_,rfl,.inl hl,λm hm=>?_⟩;have nm:ea≠m:=λz=>by rw [<-z,eH] at hm;cases hm
 exact⟨_,rfl,ea,C,cd,rfl,(by rw [ai nm];exact eH),xc,N.tk,λdx h1 h2=>q m dx hm (λz=>by rw [z,ae] at h1;cases h1) (by rw [ai (λz=>by rw [z,ae] at h1;cases h1)] at h1;exact h1) h2⟩
def Dm:aH ["self","names"] ["self","names"] (av yq):=iw rfl rfl rfl rfl nofun
def BG (F:gX K "__init__" "Unmet.__init__" yq f fd)(T:Txt mg)(N:Nd K mg "Unmet" "names" C W f):ba P w K mg base fc 1 f fd ["self","names"] (l_ K C "names"):=by
 refine F.ok Dm (λvs H Q E h=>?_) (λdw A outer s H vs Q E hr h=>?_)
 .obtain⟨ea,l,xs,d,rfl,_⟩:=h;rfl
 obtain⟨ea,l,xs,d,rfl,hl,hd,ok,eH,q⟩:=h;refine⟨_,aj (cP (qA uD N.bi rfl N.mW (af (pv 0) (af (u7 hr.gd (C0 (n:=8) hr nofun) (pv 1) nofun) ak))))
  (ao (u6 (pv 0) (bc dO rfl T.lst eI (af (pv 1) ak)) rfl)),?_⟩
 obtain⟨cd,xc⟩:=N.xc;refine⟨_,rfl,_,rfl,l,d,rfl,hd,ok,λy=>⟨ea,C,f,none,_,rfl,eH,N.x,?_⟩⟩;refine⟨_,rfl,l,_,rfl,.inl hl,λm hm=>?_⟩;have nm:ea≠m:=λz=>by rw [<-z,eH] at hm;cases hm
 exact⟨_,rfl,ea,C,cd,rfl,(by rw [ai nm];exact eH),xc,N.tk,λdx h1 h2=>q m dx hm (λz=>by rw [z,ae] at h1;cases h1) (by rw [ai (λz=>by rw [z,ae] at h1;cases h1)] at h1;exact h1) h2⟩
def Gk:aH ["self","steps"] ["self","steps"] (av yy):=iw rfl rfl rfl rfl nofun
def Ea (F:gX K "__init__" "Loop.__init__" yy f fd)(T:Txt mg)(N:Nd K mg "Loop" "steps" C W f):ba P w K mg base fc 1 f fd ["self","steps"] (l_ K C "steps"):=by
 refine F.ok Gk (λvs H Q E h=>?_) (λdw A outer s H vs Q E hr h=>?_)
 .obtain⟨ea,l,xs,d,rfl,_⟩:=h;rfl
 obtain⟨ea,l,xs,d,rfl,hl,hd,ok,eH,q⟩:=h;refine⟨_,aj (cP (qA uD N.bi rfl N.mW (af (pv 0) (af (u7 hr.gd (C0 (n:=8) hr nofun) (pv 1) nofun) ak))))
  (ao (u6 (pv 0) (bc dO rfl T.lst eI (af (pv 1) ak)) rfl)),?_⟩
 obtain⟨cd,xc⟩:=N.xc;refine⟨_,rfl,_,rfl,l,d,rfl,hd,ok,λy=>⟨ea,C,f,none,_,rfl,eH,N.x,?_⟩⟩;refine⟨_,rfl,l,_,rfl,.inl hl,λm hm=>?_⟩;have nm:ea≠m:=λz=>by rw [<-z,eH] at hm;cases hm
 exact⟨_,rfl,ea,C,cd,rfl,(by rw [ai nm];exact eH),xc,N.tk,λdx h1 h2=>q m dx hm (λz=>by rw [z,ae] at h1;cases h1) (by rw [ai (λz=>by rw [z,ae] at h1;cases h1)] at h1;exact h1) h2⟩
end
end eX
namespace L2
open PySem PySem.Spec PyProof.Rows PySem.W
def Nx (te:TE):TE:=λσ H Q=>∃R:VK,te σ H R/\∀v H1,R v H1->Q v H1
def PE.mono {X:Cx}{e:Expr}{te:TE}(h:PE X e te):PE X e (Nx te):=λag s σ H Q I ⟨R,q,m⟩=>cq (h ag s σ H R I q) λu s1 ⟨x,H1,I1,r1,q1⟩=>⟨x,H1,I1,r1,m _ _ q1⟩
section
variable {P:Program}{w:World}{K:Frag}{mg:Str->Option Value}{base:Heap}{CX:tZ}{k:Nat}{f:Addr}{fd:FuncData}{ps:List Str}{sp NR:Sp}
def ba.ex (G:ba P w K mg base fc k f fd ps sp):ba P w K mg base CX k f fd ps sp :=
 ⟨G.len,λA outer s H args us vs Q E hr he hb hv hs=>iV (G.run A outer s H args us vs Q E hr he hb hv hs) λr s' z=>by
  cases r with
  | error e=>exact False.elim z
  | ok fl=>cases fl <;> exact z⟩
def ba.or (G:ba P w K mg base CX k f fd ps sp)(G':ba P w K mg base CX k f fd ps NR):ba P w K mg base CX k f fd ps (λvs H Q E=>sp vs H Q E\/NR vs H Q E) :=
 ⟨λvs H Q E h=>h.elim (G.len vs H Q E) (G'.len vs H Q E),λA outer s H args us vs Q E hr he hb hv hs=>hs.elim (G.run A outer s H args us vs Q E hr he hb hv) (G'.run A outer s H args us vs Q E hr he hb hv)⟩
end
mutual
theorem wm {K:aV}{H H':Hp}(s:aC H H'):∀{d:PyData}{v:V},j8 K H d v->j8 K H' d v
 | .str x,v,h=>by simpa [j8] using h
 | .int i,v,h=>by simpa [j8] using h
 | .list xs,v,h=>by
  obtain⟨a,ys,e,hq,ha⟩:=(show ∃a ys,v=.ref a/\aG K H a ys/\lL K H xs ys by simpa [j8] using h);have:∃a ys,v=.ref a/\aG K H' a ys/\lL K H' xs ys:=⟨a,ys,e,s.seq hq,qv s ha⟩;rw [j8];exact this
 | .tuple xs,v,h=>by
  obtain⟨a,ys,e,hq,ha⟩:=(show ∃a ys,v=.ref a/\a9 K H a ys/\lL K H xs ys by simpa [j8] using h);have:∃a ys,v=.ref a/\a9 K H' a ys/\lL K H' xs ys:=⟨a,ys,e,s.tup hq,qv s ha⟩;rw [j8];exact this
 | .none,v,h=>absurd h (by simp [j8])
 | .bool _,v,h=>absurd h (by simp [j8])
 | .dict _,v,h=>absurd h (by simp [j8])
theorem qv {K:aV}{H H':Hp}(s:aC H H'):∀{ds:List PyData}{ys:List V},lL K H ds ys->lL K H' ds ys
 | [],ys,h=>by simpa [lL] using h
 | d::ds,ys,h=>by
  obtain⟨y,r,e,h1,h2⟩:=(show ∃y r,ys=y::r/\j8 K H d y/\lL K H ds r by simpa [lL] using h);rw [lL];exact⟨y,r,e,wm s h1,qv s h2⟩
end
end L2
namespace eX
open PySem L2 M11 PySem.W
def Qe (P:Program)(w:World)(K:Frag)(mg:Str->Option Value)(base:Heap)(nm fld:Str)(C:Addr):Prop :=
 ∃W fI fd,Nd K mg nm fld C W fI/\ba P w K mg base fc 1 fI fd ["self",fld] (l_ K C fld)/\Binds K fd ["self",fld] []
def Qc (C:Addr)(fld:Str)(H:Hp)(E:XK)(xs:List V):Prop:=∀m dx H',aC H H'->H' dx=some (.xd [(fld,.ref m)])->H' m=some (.lst xs)->E (.ref C) (some dx) H'
section
variable {P:Program}{w:World}{K:Frag}{mg:Str->Option Value}{base:Heap}{N:List Str}{qual:Str}{scope:Scope}{f C:Addr}{cd:Value}{A:Around}{outer:List Env}{s₀:Shared}{H₀:Hp}{E:XK}
def RV (K:Frag)(C:Addr)(fld:Str)(E:XK)(te:TE):TS:=λ_ σ H=>te σ H λv H1=>∃l xs d,v=.ref l/\aG K H1 l xs/\j8 K H1 d (.ref l)/\Fw d/\Qc C fld H1 E xs
def yL {nm fld:Str}{e:Expr}{te:TE}{p cp pos:Pos}(R:Qe P w K mg base nm fld C)(hr:di 2 (eQ (kK P w) P w K mg base N qual scope f cd A outer s₀ H₀ E).A)(hg:Gl (eQ (kK P w) P w K mg base N qual scope f cd A outer s₀ H₀ E) nm)
  (he:PE (eQ (kK P w) P w K mg base N qual scope f cd A outer s₀ H₀ E) e te)(qP:(nm == ("__debug__":Str))=false:=by decide)(jn:starEach [e] (eQ (kK P w) P w K mg base N qual scope f cd A outer s₀ H₀ E).env=(false,eval e (eQ (kK P w) P w K mg base N qual scope f cd A outer s₀ H₀ E).env)::starEach [] (eQ (kK P w) P w K mg base N qual scope f cd A outer s₀ H₀ E).env:=by rfl) :
  PS (eQ (kK P w) P w K mg base N qual scope f cd A outer s₀ H₀ E) (.Raise (some (.Call (.Name nm p) [e] [] cp)) none pos) (RV K C fld E te):=by
 obtain⟨W,fI,fd,Nn,G,b⟩:=R;obtain⟨oI,lk,Hq⟩:=Nn.fn;have raise:=DE (pos:=pos) (N6 (p:=p) (pos:=cp) uD Nn.x lk Hq Nn.kp G (by show 2<=1000;decide) hr hg Nn.mC b qB (af he.mono ak jn) qP jn rfl);intro ag s σ H D I h;refine raise ag s σ H D I ⟨_,h,λv H1 aT=>?_⟩;obtain⟨l,xs,d,ev,hq,hd,ok,q⟩:=aT;subst ev;intro ea h1 h2;have ka:=ah h1 (newX ea C none);refine⟨ea,l,xs,d,rfl,ka.seq hq,?_,ok,ae,λm dx hm ZS MQ SS=>⟨rfl,ea,C,some dx,fI,Cy,_,rfl,ae,h2,Nn.x,nofun,?_⟩⟩
 .exact wm ka hd
 have SM:m≠ea:=λz=>by rw [z,ae] at hm;cases hm
 have O0:H1 m=none:=by rw [ai SM] at hm;exact hm
 have Pc:H1 dx=none:=by rw [ai SS] at MQ;exact MQ
 refine q m dx _ (λc o e=>?_) ?_ ?_
 .have n1:c≠ea:=au e h1;have n2:c≠dx:=au e Pc;have n3:c≠m:=au e O0;rw [ai n1,ai n1,ai n2,ai n3,ai n1];exact e
 .rw [ai SS,ai SS,ae]
 rw [ai SM,ai SM,ai (eV ZS),ae]
end
end eX
namespace L2
open PySem
def tM {K:aV}{H:Hp}{p D:Addr}{zs:List Str}{σ:St}{js:List (Nat×Str)}{cs:List (Option V)}{tif:TT}{Qp:Hp->Prop}(f:Str->Bool)(hσ:df ["name"] js σ=none::cs)(hp:aG K H p (zs.map V.str))(hz:zs.length<=1000)(hD:H D=none)
  (ht:∀z∈zs,∀H2 Q,aC H H2->Q (f z) H2->tif (some (.str z)::cs) H2 Q)(q:∀H2,aC H H2->H2 D=some (.lst ((zs.filter f).map V.str))->Qp H2) :
  ∃W:Nat->Nat->List V->St->Hp->Prop,(∃m,W 0 m [] (df ["name"] js σ) (upd H D (.lst []))) /\
 ∀i m ys σ' H,W i m ys σ' H->((iS K p).stop i H/\Qp H)\/((iS K p).go i H/\∃m',m' < m/\∀x H',(iS K p).kR i H x H'->du 0 x σ' H' λσ2 H2=>tif σ2 H2 λb H3 =>
  if b=true then fk 0 σ2 H3 λy H4=>H4 D=some (.lst ys)/\ys.length < sizeLine/\W (i+1) m' (ys++[y]) σ2 (upd H4 D (.lst (ys++[y]))) else W (i+1) m' ys σ2 H3):=by
 refine bR (xs:=zs.map V.str) (λi ys σ2 H5=>ys=((zs.take i).filter f).map V.str/\(∃y0,σ2=y0::cs)/\aC H H5/\H5 D=some (.lst ys)) ⟨rfl,⟨none,hσ⟩,ah hD _,ae⟩ (λi ys σ2 H5 _ h=>h.2.2.1.seq hp) (λi x ys σ2 H5 ex h=>?_) (λys σ2 H5 h=>?_)
 .obtain⟨rfl,⟨y0,rfl⟩,s5,e5⟩:=h;rw [aZ] at ex;obtain⟨z,ez,rfl⟩:=cf.mp ex;have li:=(bo.mp ez).1;have lf:((zs.take i).filter f).length<=1000:=cC (kn _ _) (by rw [c_];omega);have tk:(zs.take (i+1)).filter f=(zs.take i).filter f++if f z=true then [z] else []:=by
   rw [cV,ez,oC]
   congr 1
   show List.filter f [z]=_;rw [ki];rfl
  refine goN ?_;refine ht z (cb ez) H5 _ s5 ?_;refine dJ (λc=>?_) (λc=>?_)
  .refine⟨_,rfl,e5,bQ (by rw [aB];omega),by rw [tk,az c,bI];rfl,⟨_,rfl⟩,λb o hb=>?_,ae⟩;rw [ai (λz=>by rw [z,hD] at hb;cases hb)];exact s5 b o hb
  exact⟨by rw [tk,aA c,fV],⟨_,rfl⟩,s5,e5⟩
 obtain⟨rfl,_,s5,e5⟩:=h;rw [aB,cE] at e5;exact q H5 s5 e5
end L2
namespace eX
open PySem L2 M11 PySem.W
section
def Su {x qual:Str}{st:Stmt}{N ps:List Str}{k:Nat}{sp:Sp}(F:gX K x qual st f fd)(S:aH N ps (av st))(len:∀vs H Q E,sp vs H Q E->vs.length=ps.length)
  (gB:∀(dw:Value)(A:Around)(outer:List Env)(s:Shared)(H:Hp)(vs:List V)(Q:VK)(E:XK),di k (A.deeper (PyProof.Rows.envOfC qual (av st) s.heap.objs.size f dw))->sp vs H Q E ->
   ∃t,vO (eQ (kK P w) P w K mg base N qual (av st) f dw A outer s H E) (bT st) t/\t { nx:=λ_ H'=>Q .dI H',rt:=Q } (start N vs) H):ba P w K mg base (kK P w) (k+1) f fd ps sp:=by
 obtain⟨oc,od,kV,doc,pm,an,dw,ct,u9,rfl,lk,qR⟩:=F.ex;exact wZ lk qR S len λA outer s H vs Q E hr tq=>gB dw A outer s H vs Q E hr tq
def Ng (aa:List ay)(st:Str->List (Nat×Nat))(n z:Str):Prop:=∃e∈st n,∃ru,aa[e.1]?=some ru/\ru.2[e.2]?=some z
inductive vK (aa:List ay)(st:Str->List (Nat×Nat))(a:Str):List (Nat×Nat)->Str->Prop
 | nil:vK aa st a [] a
 | snoc {ps:List (Nat×Nat)}{y z:Str}{e:Nat×Nat}{ru:ay}:vK aa st a ps y->e∈st y->aa[e.1]?=some ru->ru.2[e.2]?=some z->vK aa st a (ps++[e]) z
def nu (aa:List ay)(st:Str->List (Nat×Nat)):Prop:=∃aR,pD aa aR/\lI aa aa.length aR/\∀n k j,n∈hd aa->((k,j)∈st n↔H_ aa (hd aa) (λz=>decide (z∈aR.map (·.1))) n k j)
def ny (aa:List ay)(ps:List (Nat×Nat)):Prop:=∃st n,nu aa st/\n∈hd aa/\vK aa st n ps n/\ps≠[]/\ps.length<=(hd aa).length
abbrev Qf (K:aV)(H:Hp)(ts:List Addr)(ps:List (Nat×Nat)):Prop:=Paired (λt (p:Nat×Nat)=>a9 K H t [.int (p.1:Int),.int (p.2:Int)]) ts ps
def An (K:aV):Sp:=λvs H Q _=>∃(R:Addr)(rs:List Addr)(aa:List ay),vs=[.ref R]/\aG K H R (rs.map V.ref)/\bJ K H rs aa/\aa.length<=1000/\(∀ru∈aa,ru.2.length<=8) /\
 ∀D H',H D=none->aC H H'->(∀rk,gK aa rk->H' D=some (.lst [])->Q (.ref D) H')/\∀(t:Addr)(ts:List Addr)(ps:List (Nat×Nat)),H' D=some (.lst ((t::ts).map V.ref))->Qf K H' (t::ts) ps->(∀p∈ps,p.1<=1000/\p.2<=1000)->ps.length<=1000->ny aa ps->Q (.ref D) H'
structure Ie (aa:List ay):Prop where
 least:∀g,cI M11.bl aa (ph aa) g->eh M11.bl aa g->∀h n,g h=some n->h∈hd aa->n<=60
 great:∀rk,gK aa rk->∃b,rH aa b/\∀h∈hd aa,b h<=60
def nX (K:aV)(T1 T2 CE CU CL:Addr):Sp:=λvs H Q E=>∃(R S:Addr)(rs ss:List Addr)(aa str:List ay)(fJ:ay),vs=[.ref R,.ref S]/\aG K H R (rs.map V.ref)/\bJ K H rs aa/\aa.length<=1000/\(∀ru∈aa,ru.2.length<=8)/\aa[0]?=some fJ/\(∀h∈hd aa,rD h) /\
 aG K H S (ss.map V.ref)/\bJ K H ss str/\str.length<=1000/\(∀ru∈str,ru.2.length<=8)/\(str.flatMap (·.2)).Nodup/\Ie aa/\Tab T1 qH.2.2.2 xQ H/\Tab T2 zk.2.2.2 IF H/\T1≠T2 /\
 ∀H',kJ T1 T2 H H'->Tab T1 qH.2.2.2 xQ H'->Tab T2 zk.2.2.2 IF H'->∀g,cI M11.bl aa (ph aa) g->eh M11.bl aa g ->
  (∀ms rk,fJ.1∈ms->(∀x∈ms,zT aa fJ.1 x)->ou aa aa.length ms->(∀h∈hd aa,∃n,g h=some n)->(∀h∈hd aa,h∈ms)->gK aa rk->Q .dI H') /\
  (∀m dx,(hd aa).filter (λh=>(g h).isNone)≠[]->H' dx=some (.xd [("names",.ref m)])->H' m=some (.lst (((hd aa).filter λh=>(g h).isNone).map V.str))->E (.ref CE) (some dx) H') /\
  (∀ms m dx,fJ.1∈ms->(∀x∈ms,zT aa fJ.1 x)->ou aa aa.length ms->(∀h∈hd aa,∃n,g h=some n)->(hd aa).filter (λh=>!decide (h∈ms))≠[]->H' dx=some (.xd [("names",.ref m)])->H' m=some (.lst (((hd aa).filter λh=>!decide (h∈ms)).map V.str))->E (.ref CU) (some dx) H') /\
  (∀ms m dx ts ps,fJ.1∈ms->(∀x∈ms,zT aa fJ.1 x)->ou aa aa.length ms->(∀h∈hd aa,∃n,g h=some n)->(∀h∈hd aa,h∈ms)->H' dx=some (.xd [("steps",.ref m)])->H' m=some (.lst (ts.map V.ref))->Qf K H' ts ps->ny aa ps->E (.ref CL) (some dx) H')
def yV {T1 T2 CE CU CL:Addr}{tm:Tok}(F:gX K "refuse_faults" "refuse_faults" uU f fd)(T:Txt mg)(hM:mg "MOST_RULES"=some (.int 60 tm))(RE:Qe P w K mg base "Endless" "names" CE)(RU:Qe P w K mg base "Unmet" "names" CU)(RL:Qe P w K mg base "Loop" "steps" CL)(GT:aK P w K mg base 1 "refuse_twice" ["strengths"] (Ai K))(GL:aK P w K mg base 3 "least_sizes" ["rules"] (pG K T1))
  (GH:aK P w K mg base 1 "heads_of" ["rules"] (jT K))(GM:aK P w K mg base 1 "names_met" ["rules"] (Ik K))(GF:aK P w K mg base 3 "find_loop" ["rules"] (An K))(GG:aK P w K mg base 3 "greatest_empty_sizes" ["rules"] (uL K T2)) :
  ba P w K mg base (kK P w) 4 f fd ["rules","strengths"] (nX K T1 T2 CE CU CL):=by
 refine Su F gy (λvs H Q E h=>?_) (λdw A outer s H vs Q E hr h=>?_)
 .obtain⟨R,S,rs,ss,aa,str,fJ,rfl,_⟩:=h;rfl
 obtain⟨R,S,rs,ss,aa,str,fJ,rfl,hR,cS,a8,h8,wR,QV,hS,MM,T7,Ua,T_,bd,Hu,Q7,nT,q⟩:=h;have hu:=fX hr;refine⟨_,aj (cN (gH (iJ (pv 0) (λ_=>rfl))) (ao qx) bw)
  (aj (cP (bU (GT.mono (by decide:1<=3)) hr rfl (af (pv 1) ak)))
  (aj (aF (i:=2) gy.nd rfl (Or.inr rfl) (bU GL hr rfl (af (pv 0) ak)))
  (aj (gi (iy:=3) ["name"] [(2,"least")] gy.nd rfl rfl rfl (bx (bU (GH.mono (by decide:1<=3)) hr rfl (af (pv 0) ak))) (bh rfl rfl) nofun rfl nofun
   (λ_ _ _ _ _=>aw (i:=0) (show (["name","least"]:List Str).Nodup by decide +kernel) rfl (bM rfl)) (λ_ _ _ _ _=>ie (fq (dY hu (pv 0) (pv 1)))) (λ_ _ _ _ _=>pv 0))
  (aj (cN (iJ (pv 3) (λ_=>rfl)) (ao (yL RE (hr.mono nofun) rfl (pv 3))) bw)
  (aj (aF (i:=4) gy.nd rfl (Or.inr rfl) (bU (GM.mono (by decide:1<=3)) hr rfl (af (pv 0) ak)))
  (aj (gi (iy:=5) ["name"] [(4,"met")] gy.nd rfl rfl rfl (bx (bU (GH.mono (by decide:1<=3)) hr rfl (af (pv 0) ak))) (bh rfl rfl) nofun rfl nofun
   (λ_ _ _ _ _=>aw (i:=0) (show (["name","met"]:List Str).Nodup by decide +kernel) rfl (bM rfl)) (λ_ _ _ _ _=>ie (fq (dY hu (pv 0) (pv 1)))) (λ_ _ _ _ _=>pv 0))
  (aj (cN (iJ (pv 5) (λ_=>rfl)) (ao (yL RU (hr.mono nofun) rfl (pv 5))) bw)
  (aj (aF (i:=6) gy.nd rfl (bM rfl) (bU GF hr rfl (af (pv 0) ak)))
  (aj (cN (iJ (pv 6) (λ_=>rfl)) (ao (yL RL (hr.mono nofun) rfl (pv 6))) bw)
  (aj (aF (i:=7) gy.nd rfl (Or.inr rfl) (bU GG hr rfl (af (pv 0) ak)))
  (aj (gi (iy:=8) ["name"] [(2,"least"),(7,"greatest")] gy.nd rfl rfl rfl (bx (bU (GH.mono (by decide:1<=3)) hr rfl (af (pv 0) ak))) (bh rfl rfl) nofun rfl nofun
   (λ_ _ _ _ _=>aw (i:=0) (show (["name","least","greatest"]:List Str).Nodup by decide +kernel) rfl (bM rfl)) (λ_ _ _ _ _=>ie (cx AJ (aN (Cv rfl) rfl T.max PyProof.Rows.boot_max (af (eK hu (pv 1) (pv 0) (λ_ _=>rfl)) (af (DP hu (pv 2) (pv 0) aq ⟨rfl,rfl,rfl,rfl⟩) ak))) (pJ (v:=.int 60) rfl hM ⟨tm,rfl⟩) (dq _))) (λ_ _ _ _ _=>pv 0))
  (ao (cN (iJ (pv 8) (λ_=>rfl)) (ao qx) bw))))))))))))),?_⟩
 have ll:=bF cS;have CI:(hd aa).length<=1000:=by
  have:=gk (aa.map (·.1)) [];rw [iC,aB] at this;show (pA [] (aa.map (·.1))).length<=1000;omega
 have eR:(rs.map V.ref).isEmpty=false:=by
  have l0:=(bo.mp wR).1;cases rs with
  | nil=>simp at ll;omega
  | cons a r=>rfl
 refine⟨_,rfl,true,.inl ⟨_,hR,by rw [eR];rfl⟩,?_⟩;refine hJ ?_;refine⟨_,rfl,S,ss,str,rfl,hS,MM,T7,Ua,T_,λH1 s1=>?_⟩;have QA:=Hu.same s1;have Zn:=Q7.same s1;refine⟨_,rfl,R,rs,aa,rfl,s1.seq hR,cS.same s1,a8,h8,QA,λdl kl ksl gl H2 fl s2 WB el kkl vl R9 sel _=>?_⟩;have FR:=Aw s2 QA (s1.seq hR);have o8:=(cS.same s1).keep λ_ _ z=>z5 s2 QA z;have Wz:=z7 s2 QA Zn nT.symm;have YS:kJ T1 T2 H H2:=λb o n1 _ hb=>s2 b o n1 (s1 b o hb);have out:∀H',aC H2 H'->_:=λH' s'=>q H' (λb o n1 n2 hb=>s' b o (YS b o n1 n2 hb)) (WB.same s') (Wz.same s') gl R9 sel;refine⟨_,rfl,R,rs,aa,rfl,FR,o8,a8,λD3 H3 f3 s3 e3=>⟨D3,rfl,⟨_,aG.of e3⟩,λD4 MU=>tM (λz=>(gl z).isNone) rfl (aG.of e3) CI MU (λz hz H' Q' s' hQ=>?_) λH4 s4 e4=>?_⟩⟩
 .have hg:cm H' dl (.str z) ((gl z).map V.int):=by
   have:=cm.k (k:=Sum.inr z) (s' _ _ (s3 _ _ el));rw [vl] at this;exact this
  refine⟨_,rfl,_,rfl,dl,_,rfl,hg,_,rfl,?_⟩;rw [show (!((gl z).map V.int).isSome)=(gl z).isNone by cases gl z <;> rfl]
  exact hQ
 have Ir:=s3.trans s4;have e4:H4 D4=some (.lst (((hd aa).filter λh=>(gl h).isNone).map V.str)):=e4;cases hf:(hd aa).filter (λh=>(gl h).isNone) with
 | cons e0 er =>
  rw [hf] at e4;refine⟨_,rfl,true,.inl ⟨_,aG.of e4,rfl⟩,?_⟩;refine rV ?_;have sub:∀z∈e0::er,z∈hd aa:=λz hz=>by rw [<-hf] at hz;exact(gL.mp hz).1
  have ln:(e0::er).length<=1000:=by rw [<-hf];exact cC (kn _ _) CI
  exact⟨_,rfl,D4,_,_,rfl,aG.of e4,wk (aG.of e4),sJ ln (λz hz=>QV z (sub z hz)),λm dx H' s' E6 em=>(out H' (Ir.trans s')).2.1 m dx (by rw [hf];exact λy=>by cases y) E6 (by rw [hf];exact em)⟩
 | nil =>
 rw [hf] at e4;have hl:∀h∈hd aa,∃n,gl h=some n:=λh hh=>by
  cases e:gl h with
  | some n=>exact⟨n,rfl⟩
  | none =>
   have:h∈(hd aa).filter (λh=>(gl h).isNone):=gL.mpr ⟨hh,by rw [e];rfl⟩;rw [hf] at this;cases this
 refine⟨_,rfl,false,.inl ⟨[],aG.of e4,rfl⟩,?_⟩;refine hJ ?_;refine⟨_,rfl,R,rs,aa,fJ,rfl,Ir.seq FR,o8.same Ir,wR,a8,h8,λdm km ms H5 f5 s5 em kkm vX Mv Oi=>?_⟩;have Sf:=Ir.trans s5;refine⟨_,rfl,R,rs,aa,rfl,Sf.seq FR,o8.same Sf,a8,λD6 H6 f6 s6 e6=>⟨D6,rfl,⟨_,aG.of e6⟩,λD7 Pk=>tM (λz=>!decide (z∈ms)) rfl (aG.of e6) CI Pk (λz hz H' Q' s' hQ=>?_) λH7 s7 e7=>?_⟩⟩
 .refine⟨_,rfl,_,rfl,dm,_,rfl,cm.k (k:=Sum.inr z) (s' _ _ (s6 _ _ em)),_,rfl,?_⟩;rw [show (a_ km (Sum.inr z)).isSome=decide (z∈ms) by rw [kc,d8,kkm,decide_eq_true_iff];exact cH];exact hQ
 have NY:=(Sf.trans s6).trans s7;have e7:H7 D7=some (.lst (((hd aa).filter λh=>!decide (h∈ms)).map V.str)):=e7;cases vM:(hd aa).filter (λh=>!decide (h∈ms)) with
 | cons e0 er =>
  rw [vM] at e7;refine⟨_,rfl,true,.inl ⟨_,aG.of e7,rfl⟩,?_⟩;refine rV ?_;have sub:∀z∈e0::er,z∈hd aa:=λz hz=>by rw [<-vM] at hz;exact(gL.mp hz).1
  have ln:(e0::er).length<=1000:=by rw [<-vM];exact cC (kn _ _) CI
  exact⟨_,rfl,D7,_,_,rfl,aG.of e7,wk (aG.of e7),sJ ln (λz hz=>QV z (sub z hz)),λm dx H' s' E6 Vd=>(out H' (NY.trans s')).2.2.1 ms m dx vX Mv Oi hl (by rw [vM];exact λy=>by cases y) E6 (by rw [vM];exact Vd)⟩
 | nil =>
 rw [vM] at e7;have La:∀h∈hd aa,h∈ms:=λh hh=>uB λn=>by
  have:h∈(hd aa).filter (λh=>!decide (h∈ms)):=gL.mpr ⟨hh,by rw [ff n];rfl⟩;rw [vM] at this;cases this
 refine⟨_,rfl,false,.inl ⟨[],aG.of e7,rfl⟩,?_⟩;refine hJ ?_;refine⟨_,rfl,R,rs,aa,rfl,NY.seq FR,o8.same NY,a8,h8,λD8 H8 f8 s8=>⟨λrk nl e8=>?_,λt ts ps e8 pp bp lp cy=>?_⟩⟩
 .refine⟨_,rfl,false,.inl ⟨[],aG.of e8,rfl⟩,?_⟩;refine hJ ?_;have Iq:=NY.trans s8;have Zo:=WB.same Iq;have NL:=Wz.same Iq;obtain⟨b,PZ,most⟩:=bd.great rk nl;refine⟨_,rfl,R,rs,aa,b,rfl,Iq.seq FR,o8.same Iq,a8,h8,PZ,NL,λdg kg ksg gg H9 f9 s9 Zm eg kkg vg jg _ _=>?_⟩;have hR9:=Aw s9 NL (Iq.seq FR);have Ub:=(o8.same Iq).keep λ_ _ z=>z5 s9 NL z;have R8:=z7 s9 NL Zo nT;have Yj:=Iq _ _ el;have el9:=s9 _ _ (λz=>by obtain⟨ps,a,_⟩:=NL;rw [<-z,Yj] at a;cases a) Yj;refine⟨_,rfl,R,rs,aa,rfl,hR9,Ub,a8,λWk vP f10 mr CM=>⟨Wk,rfl,⟨_,aG.of CM⟩,λD11 UX=>Fc rfl (aG.of CM) UX (λz hz H' Q' s' hQ=>?_) λBg Gs F4=>?_⟩⟩
  .obtain⟨n,en⟩:=hl z hz;have aaf:=bd.least gl R9 sel z n en hz;have Hn:cm H' dl (.str z) (some (.int n)):=by
    have:=cm.k (k:=Sum.inr z) (s' _ _ (mr _ _ el9));rw [vl,en] at this;exact this
   have Yl:=s' _ _ (mr _ _ eg);obtain⟨v,hv1,hv2⟩:∃v:Int,((gg z).map V.int).getD (.int 0)=.int v/\v<=60:=by
    cases e:gg z with
    | none=>exact⟨0,rfl,nofun⟩
    | some v=>exact⟨v,rfl,Int.le_trans (jg z v e).2.1 (most z hz)⟩
   have Ux:cm H' dg (.str z) ((gg z).map V.int):=by
    have:=cm.k (k:=Sum.inr z) Yl;rw [vg] at this;exact this
   refine⟨_,rfl,_,rfl,dl,_,rfl,Hn,_,rfl,dg,rfl,.inl ⟨_,.inl Yl⟩,_,rfl,_,Ux,?_⟩;rw [hv1];refine⟨n,v,rfl,_,_,rfl,rfl,_,rfl,?_⟩;rw [ff (by split <;> omega)]
   exact hQ
  refine⟨_,rfl,false,.inl ⟨[],aG.of F4,rfl⟩,?_⟩;refine hJ ?_;have JX:=mr.trans Gs;exact(q Bg (λc o n1 n2 hc=>JX c o (s9 c o n2 (Iq c o (YS c o n1 n2 hc)))) (R8.same JX) (Zm.same JX) gl R9 sel).1 ms rk vX Mv Oi hl La nl
 refine⟨_,rfl,true,.inl ⟨_,aG.of e8,rfl⟩,?_⟩;refine rV ?_;exact⟨_,rfl,D8,_,_,rfl,aG.of e8,Gv (aG.of e8) pp,Dy lp bp,λm dx H' s' E6 Vd=>(out H' ((NY.trans s8).trans s')).2.2.2 ms m dx (t::ts) ps vX Mv Oi hl La E6 Vd (Paired.eF pp λ_ _ z=>s'.tup z) cy⟩
end
open PySem L2 M11
def Bq {g:G}{h:Str}{n:Int}{z:Str}(e:(g z).isSome=true):(de g h n z).isSome=true:=by
 unfold de
 split
 .rfl
 exact e
def Dc {bt:Int->Int->Bool}{aa:List ay}{g0 g:G}(st:cI bt aa g0 g){z:Str}(e:(g0 z).isSome=true):(g z).isSome=true:=by
 induction st with
 | refl=>exact e
 | step _ _ _ ih=>exact Bq ih
def wa {bt:Int->Int->Bool}{aa:List ay}{g:G}(se:eh bt aa g){ru:ay}(h:ru∈aa)(p:∀x∈ru.2,(g x).isSome=true):(g ru.1).isSome=true:=by
 have f:=se ru h;cases e:g ru.1 with
 | some n=>rfl
 | none =>
  unfold bZ at f;have a:ij g ru=true:=fM.mpr p;rw [a,e] at f;cases f
def Bo {bt:Int->Int->Bool}{aa:List ay}{g0 g g':G}(st:cI bt aa g0 g)(se:eh bt aa g')(h0:∀z,(g0 z).isSome=true->(g' z).isSome=true):∀z,(g z).isSome=true->(g' z).isSome=true:=by
 induction st with
 | refl=>exact h0
 | @step g1 ru st1 gG fr ih =>
  intro z hz;unfold de at hz
  split at hz
  .rename_i c
   have:z=ru.1:=by simpa using c
   rw [this];refine wa se gG λx hx=>ih x ?_;unfold bZ at fr;rw [jt] at fr;exact fM.mp fr.1 x hx
  exact ih z hz
def Kh {aa:List ay}{s:Str}{ms:List Str}(h0:s∈ms)(mc:ou aa aa.length ms){x:Str}(h:zT aa s x):x∈ms:=by
 induction h with
 | start=>exact h0
 | step _ h1 h2 ih=>exact mc _ (by rw [cE];exact h1) ih _ h2
def Hy {aa:List ay}{fJ:ay}{g:G}{ms:List Str}{rk:Str->Nat}(bd:Ie aa)(wR:aa[0]?=some fJ)(st:cI M11.bl aa (ph aa) g)(hl:∀h∈hd aa,∃n,g h=some n)(rc:∀x∈ms,zT aa fJ.1 x)(La:∀h∈hd aa,h∈ms)(nl:gK aa rk):∃b,Good aa rk b:=by
 obtain⟨b,PZ,most⟩:=bd.great rk nl;refine⟨b,λg' rR WH h hh=>?_,λru Oh e h0 mc h hh=>?_,nl,PZ,most⟩
 .obtain⟨n,en⟩:=hl h hh;have:=Bo st WH (λz hz=>Dc rR hz) h (by rw [en];rfl);obtain⟨n',Py⟩:=kq.mp this;exact⟨n',Py,bd.least g' rR WH h n' Py hh⟩
 rw [wR] at e;cases e;exact Kh h0 mc (rc h (La h hh))
structure aaB (aa:List ay)(g:G) (L:List Str):Prop where
 nd:L.Nodup
 hd:∀h∈L,∃ru∈aa,ru.1=h
 has:∀h∈L,(g h).isSome=true
 ord:∀i h,L[i]?=some h->∃ru∈aa,ru.1=h/\∀p∈ru.2,(ph aa p).isSome=true\/p∈L.take i
 all:∀z,(g z).isSome=true->(ph aa z).isSome=true\/z∈L
def B3:Nat->Int
 | 0=>1
 | n+1=>1+3 * B3 n
theorem rK:∀n,1<=B3 n
 | 0=>by decide
 | n+1=>by have:=rK n;show 1<=1+3 * B3 n;omega
def Jn:∀{m n:Nat},m<=n->B3 m<=B3 n:=by
 intro m n h
 induction h with
 | refl=>exact iU _
 | step _ ih=>have:=rK m;refine Int.le_trans ih ?_;rename_i k _;have:=rK k;show B3 k<=1+3 * B3 k;omega
theorem Aa (g:G) (M:Int)(hM:0<=M):∀(ps:List Str) (n:Nat),ps.length<=n->(∀p∈ps,(g p).getD 0<=M)->(ps.map λp=>(g p).getD 0).sum<=n * M
 | [],n,_,_=>by show (0:Int)<=_;exact Int.mul_nonneg ∅ hM
 | p::r,0,h,_=>by simp at h
 | p::r,n+1,h,hp=>by
  have ih:=Aa g M hM r n (by simpa using h) λx hx=>hp x (bS _ hx);have h1:=hp p bX;rw [bG,jc];have e:((n+1:Nat):Int) * M=(n:Int) * M+M:=by rw [Int.natCast_succ,Int.add_mul,Int.one_mul]
  omega
section
def si.more {C:Addr}{H0 H H2:Hp}{a e d bg t:Addr}{kE kvs:List (aJ×V)}{aR:List (Str×Nat)}{ps:List (Str×Addr)}{cw:List Be}{p:Str×Addr}{wd:Str}{k j:Nat}{ts:List Addr}(h:si K C H0 H a e d bg kE aR ps cw)(hp:p∈ps)(hk:H p.2=some (.dK kvs))(kk:kvs.map (·.1)=(mY cw p.1).map Sum.inr)
  (hn:(p.1,wd)∉vL cw)(hb:H bg=some (.lst (ts.map V.ref)))(MR:Paired (λt (b:Be)=>a9 K H t [.str b.1,.str b.2.1,.int (b.2.2.1:Int),.int (b.2.2.2:Int)]) ts cw)
  (s:aC (upd H p.2 (.dK (bC kvs (Sum.inr wd) (.bl true)))) H2)(ht:a9 K H2 t [.str p.1,.str wd,.int (k:Int),.int (j:Int)]) :
  si K C H0 (upd H2 bg (.lst (ts.map V.ref++[.ref t]))) a e d bg kE aR ps (cw++[(p.1,wd,k,j)]):=by
 have QO:bg≠p.2:=λz=>by rw [z,hk] at hb;cases hb
 have Lo:H2 bg=some (.lst (ts.map V.ref)):=s _ _ (by rw [ai QO];exact hb);obtain⟨_,fp,WR,WS⟩:=h.dk p hp;have up:∀c o,c≠bg->c≠p.2->H c=some o->upd H2 bg (.lst (ts.map V.ref++[.ref t])) c=some o:=λc o n1 n2 q=>by
  rw [ai n1];exact s _ _ (by rw [ai n2];exact q)
 refine⟨λc o hc=>up c o (λz=>by rw [z,h.fb] at hc;cases hc) (λz=>by rw [z,fp] at hc;cases hc) (h.sm c o hc),?_,up _ _ (λz=>by have:=h.he;rw [z,hb] at this;cases this) WR.symm h.he,up _ _ (λz=>by have:=h.hd;rw [z,hb] at this;cases this) WS.symm h.hd,h.n1,h.n2,λp' oo=>?_,⟨ts++[t],by rw [ae,bI];rfl,?_⟩,h.fb,?_⟩
 .obtain⟨dx,fs,q,r⟩:=h.ia;exact⟨dx,fs,up _ _ (λz=>by rw [z,hb] at q;cases q) (λz=>by rw [z,hk] at q;cases q) q,r⟩
 .obtain⟨⟨k_,q,r⟩,t'⟩:=h.dk p' oo;refine⟨?_,t'⟩;by_cases z:p'=p
  .rw [z];refine⟨bC kvs (Sum.inr wd) (.bl true),by rw [ai QO.symm];exact s _ _ ae,?_⟩;rw [gQ (by rw [kk];exact λq=>hn (zB.mp (cH.mp q))),kk,AU,az rfl,bI];rfl
  have n1:p'.1≠p.1:=λq'=>z (by
   have w1:=fY ps h.n1 p' oo;have w2:=fY ps h.n1 p hp;rw [q',w2] at w1;injection w1 with w3;injection w3 with w4;exact Prod.ext q' w4.symm)
  have n2:p'.2≠p.2:=λq'=>by
   obtain⟨i,hi,ei⟩:=pV.mp oo;obtain⟨j',hj,ej⟩:=pV.mp hp;have AO:i=j':=by
    refine(p8 (xs:=ps.map (·.2)) (h₀:=by simpa using hi) (h₁:=by simpa using hj) h.n2).mp ?_;rw [nP,nP,ei,ej];exact q'
   subst AO;exact z (ei.symm.trans ej)
  refine⟨k_,up _ _ (λz=>by rw [z,hb] at q;cases q) n2 q,?_⟩;rw [r,AU,aA (λq'=>n1 q'.symm),fV]
 .exact ft (Paired.eF MR λ_ _ z=>a7 Lo (s.tup (eC hk z))) (a7 Lo ht)
 obtain⟨e1,te,⟨dx,fs,q1,q2⟩,q3,q4,q5⟩:=h.em;exact⟨e1,te,⟨dx,fs,up _ _ (λz=>by rw [z,hb] at q1;cases q1) (λz=>by rw [z,hk] at q1;cases q1) q1,q2⟩,up _ _ q5 (λz=>by rw [z,hk] at q3;cases q3) q3,q4.keep λ_ _ z=>a7 Lo (s.tup (eC hk z)),q5⟩
def Lx (l m:List Be)(n:Str):mY (l++m) n=mY l n++mY m n:=by
 unfold mY;rw [oC,bI]
def Gb {names:List Str}(l m:List Be){z x:Str}(h:x∈oY names l z):x∈oY names (l++m) z:=by
 unfold oY at h ⊢
 split
 .rename_i c
  rw [az c] at h;rw [Lx];exact lX _ h
 rename_i c
 rw [aA c] at h;exact h
def Lw (cw:List Be)(n:Str):(mY cw n).length<=cw.length:=by
 unfold mY;rw [aB];exact kn _ _
def LV {n i:Nat}(h:i < n):(cnt n)[i]?=some (.int (i:Int)):=by
 unfold cnt;rw [aZ,List.getElem?_range h];rfl
def A5 (n:Nat):(cnt n).length=n:=by unfold cnt;rw [aB,ub]
def Dh (K:aV)(C:Addr):Sp:=λvs H Q _=>∃(H0:Hp)(a e d bg r:Addr)(kE:List (aJ×V))(aR:List (Str×Nat))(ps:List (Str×Addr))(cw:List Be) (k:Nat)(ru:ay)(aa:List ay),vs=[.ref a,.int (k:Int),.ref r]/\si K C H0 H a e d bg kE aR ps cw/\Bd K H0 r ru/\aa[k]?=some ru/\ru.2.length<=8 /\
 ru.1∈ps.map (·.1)/\(∀vE:List Be,vQ aa (ps.map (·.1)) (λz=>(a_ kE (Sum.inr z)).isSome) vE->vE.length<=900000)/\vQ aa (ps.map (·.1)) (λz=>(a_ kE (Sum.inr z)).isSome) cw /\
 ∀(vE:List Be)(H':Hp),si K C H0 H' a e d bg kE aR ps vE->vQ aa (ps.map (·.1)) (λz=>(a_ kE (Sum.inr z)).isSome) vE->cw.length<=vE.length->(vE.length=cw.length->vE=cw/\∀j z,j < Ck (λz=>(a_ kE (Sum.inr z)).isSome) ru.2->ru.2[j]?=some z->∀wd∈oY (ps.map (·.1)) cw z,(ru.1,wd)∈vL cw)->Q .dI H'
def uS:aH ["self","number","rule","own","place","word"] ["self","number","rule"] (av Dt):=iw rfl rfl rfl rfl nofun
def G7 {C fW:Addr}{X3:FuncData}(F:gX K "find_begins" "BeginTable.find_begins" Dt f fd)(T:Txt mg)(B:BC K C)(GP:aK P w K mg base 1 "first_places" ["parts","empty"] (vY K))(FW:ba P w K mg base fc 1 fW X3 ["self","part"] (Am K C))(MW:Meth K C "words_of_part" fW)(BW:Binds K X3 ["self","part"] []) :
  ba P w K mg base fc 2 f fd ["self","number","rule"] (Dh K C):=by
 refine F.ok uS (λvs H Q E h=>?_) (λdw A outer s H vs Q E hr h=>?_)
 .obtain⟨H0,a,e,d,bg,r,kE,aR,ps,cw,k,ru,aa,rfl,_⟩:=h;rfl
 obtain⟨H0,a,e,d,bg,r,kE,aR,ps,cw,k,ru,aa,rfl,S,⟨p,v1,v2⟩,er,h8,hh,hbd,UN,q⟩:=h;have hu:=fX hr;refine⟨_,aj (aF (i:=3) uS.nd rfl (bM rfl) (eK hu (dZ (pv 0) rfl) (aP bL (pv 2) aq (λ_ _=>rfl)) (λ_ _=>rfl)))
  (ao (b_ cD rfl (bx (bU GP hr rfl (af (aP bL (pv 2) aq (λ_ _=>rfl)) (af (dZ (pv 0) rfl) ak)))) (aw (i:=4) uS.nd rfl (bM rfl))
   (ao (b_ cD rfl (bx (AE (pv 0) B.cls MW FW hr BW .nil qB (af (aP bL (aP bL (pv 2) aq (λ_ _=>rfl)) (pv 4) (λ_ _=>rfl)) ak))) (aw (i:=5) uS.nd rfl (bM rfl))
    (ao (cN (fq (dY hu (pv 5) (pv 3)))
     (aj (ib hu (pv 3) (pv 5) fg rfl)
     (ao (cP (iK jf jw jx cT (dZ (pv 0) rfl) (af (cJ (af (aP bL (pv 2) aq (λ_ _=>rfl)) (af (pv 5) (af (pv 1) (af (pv 4) ak))))) ak))))) bw)))))),?_⟩
 nofun
 obtain⟨pn,wU,xX⟩:=cU.mp hh;have vn:=fY ps S.n1 pn wU;rw [xX] at vn;obtain⟨dx,fs,ea,f1,f2,f3,f4,f5⟩:=S.ia;have hg:cm H d (.str ru.1) (some (.ref pn.2)):=by
  have:=cm.k (k:=Sum.inr ru.1) S.hd;rw [vn] at this;exact this
 refine⟨_,rfl,a,C,dx,fs,_,rfl,ea,B.cls,B.a4,f3,_,rfl,r,_,_,_,rfl,rfl,S.sm.tup v1,rfl,d,_,rfl,hg,?_⟩;refine⟨_,rfl,r,_,_,_,rfl,rfl,S.sm.tup v1,rfl,_,rfl,a,C,dx,fs,_,rfl,ea,B.cls,B.a2,f1,p,e,ru.2,kE,rfl,S.sm.tup v2,∅,S.he,λD5 H5 f6 s5 e5=>⟨D5,rfl,⟨_,aG.of e5⟩,?_⟩⟩;obtain⟨ts0,hb0,_⟩:=S.lb;have Z4:D5≠bg:=λz=>by rw [z,hb0] at f6;cases f6
 have fle:=EW (λz=>(a_ kE (Sum.inr z)).isSome) ru.2;generalize hb:(λz=>(a_ kE (Sum.inr z)).isSome)=b at *;generalize hn:Ck b ru.2=n at *
 let sf:rP:=λi σ H6=>∃(dM:List Be)(y4 y5:Option V),σ=[br a,some (.int (k:Int)),br r,some (.ref pn.2),y4,y5]/\si K C H0 H6 a e d bg kE aR ps dM/\H6 D5=some (.lst (cnt n))/\vQ aa (ps.map (·.1)) b dM/\cw.length<=dM.length /\
  (dM.length=cw.length->dM=cw/\∀j z,j < i->ru.2[j]?=some z->∀wd∈oY (ps.map (·.1)) cw z,(ru.1,wd)∈vL cw)
 refine dX (xs:=cnt n) sf ⟨cw,none,none,rfl,S.same s5,e5,UN,aI _,λ_=>⟨rfl,λj z hj=>by omega⟩⟩ ?_ ?_ ?_
 .rintro i σ H6 _ ⟨dM,y4,y5,rfl,S2,e6,_⟩;exact aG.of e6
 .intro i x σ H6 ex wW
  ac_nf0
  obtain⟨dM,y4,y5,rfl,S2,e6,VL,l2,c2⟩:=wW;have li:i < n:=by have:=(bo.mp ex).1;rw [A5] at this;exact this
  rw [LV li] at ex;cases ex;have lz:i < ru.2.length:=by omega
  obtain⟨z,ez⟩:∃z,ru.2[i]?=some z:=⟨ru.2[i],cZ lz⟩;have LZ:ir (ru.2.map V.str) (i:Int)=some (.str z):=bj (by rw [aZ,ez];rfl);obtain⟨Ru,rW,PJ,g1,g2,g3,g4,g5⟩:=S2.ia;refine goN ?_
  ac_nf
  refine⟨_,rfl,a,Ru,rW,rfl,PJ,g5,_,rfl,r,_,_,_,rfl,rfl,S2.sm.tup v1,rfl,_,rfl,p,_,_,_,rfl,rfl,S2.sm.tup v2,LZ,H0,a,e,d,bg,kE,aR,ps,dM,z,rfl,S2,λD6 H7 f7 s7 e7=>⟨D6,rfl,⟨_,aG.of e7⟩,?_⟩⟩;obtain⟨kr,Lo,_⟩:=S2.lb;have Z5:D6≠bg:=λz=>by rw [z,Lo] at f7;cases f7
  generalize Xh:oY (ps.map (·.1)) dM z=ws at *
  let zX:rP:=λm σ H8=>∃(l:List Be)(y5:Option V),σ=[br a,some (.int (k:Int)),br r,some (.ref pn.2),some (.int (i:Int)),y5]/\si K C H0 H8 a e d bg kE aR ps (dM++l)/\H8 D5=some (.lst (cnt n))/\H8 D6=some (.lst (ws.map V.str))/\vQ aa (ps.map (·.1)) b (dM++l) /\
   (l=[]->∀wd∈ws.take m,(ru.1,wd)∈vL dM)
  refine dX (xs:=ws.map V.str) zX ⟨[],_,rfl,by rw [fV];exact S2.same s7,s7 _ _ e6,e7,by rw [fV];exact VL,λ_ wd h=>by simp at h⟩ ?_ ?_ ?_
  .rintro m σ H8 _ ⟨l,y5,rfl,S3,e8,e9,_⟩;exact aG.of e9
  .intro m x σ H8 ex wW
   ac_nf0
   obtain⟨l,y5,rfl,S3,e8,e9,P1,c3⟩:=wW;rw [aZ] at ex;obtain⟨wd,ew,rfl⟩:=cf.mp ex;obtain⟨⟨kvs,hk,kk⟩,fp,WR,WS⟩:=S3.dk pn wU;obtain⟨Ww,Q5,Pf⟩:=S3.lb;have lim:=hbd _ P1;have ltk:kvs.length<=900000:=by
    have h1:=congrArg List.length kk;rw [aB,aB] at h1;have:=Lw (dM++l) pn.1;omega
   have ltt:=bF Pf;have mem:(a_ kvs (Sum.inr wd)).isSome=true↔(ru.1,wd)∈vL (dM++l):=by rw [d8,kk,cH,zB,xX]
   refine goN ?_
   ac_nf
   refine⟨_,rfl,_,rfl,pn.2,_,rfl,cm.k (k:=Sum.inr wd) hk,_,rfl,?_⟩;refine dJ (λc=>?_) (λc=>?_)
   .have nm:(ru.1,wd)∉vL (dM++l):=λh=>by rw [mem.mpr h] at c;exact absurd c nofun
    refine⟨_,rfl,_,rfl,_,_,rfl,oz.k (k:=Sum.inr wd) hk (bQ ∅),?_⟩;obtain⟨Vw,EV,Vm,k1,k2,k3,k4,k5⟩:=S3.ia;have Z2:a≠pn.2:=λz=>by rw [z,hk] at Vm;cases Vm
    have QO:bg≠pn.2:=λz=>by rw [z,hk] at Q5;cases Q5
    have LO:upd H8 pn.2 (.dK (bC kvs (Sum.inr wd) (.bl true))) a=some (.ins C Vw EV):=by rw [ai Z2];exact Vm
    have XN:upd H8 pn.2 (.dK (bC kvs (Sum.inr wd) (.bl true))) bg=some (.lst (Ww.map V.ref)):=by rw [ai QO];exact Q5
    refine⟨_,rfl,a,C,Vw,EV,_,rfl,LO,B.cls,B.a3,k2,.inl ⟨rfl,_,aG.of XN⟩,_,rfl,r,_,_,_,rfl,rfl,eC hk (S3.sm.tup v1),rfl,_,rfl,_,rfl,_,rfl,Y0,λt4 zt=>?_⟩;have s4:=ah zt (.tup [.str ru.1,.str wd,.int (k:Int),.int (i:Int)]);have e4:a9 K (upd (upd H8 pn.2 (.dK (bC kvs (Sum.inr wd) (.bl true)))) t4 (.tup [.str ru.1,.str wd,.int (k:Int),.int (i:Int)])) t4 [.str ru.1,.str wd,.int (k:Int),.int (i:Int)]:=a9.of ae;generalize upd (upd H8 pn.2 (.dK (bC kvs (Sum.inr wd) (.bl true)))) t4 (.tup [.str ru.1,.str wd,.int (k:Int),.int (i:Int)])=H9 at s4 e4;refine⟨bg,_,_,rfl,rfl,s4 _ _ XN,bQ (by rw [aB];omega),?_⟩;have ZT:(pn.1,wd)∉vL (dM++l):=by rw [xX];exact nm
    have S4:=S3.more (k:=k) (j:=i) wU hk kk ZT Q5 Pf s4 (by rw [xX];exact e4);have IJ:∀D ys,H8 D=some (.lst ys)->D≠bg->upd H9 bg (.lst (Ww.map V.ref++[.ref t4])) D=some (.lst ys):=λD ys hD nb=>by
     rw [ai nb];exact s4 _ _ (by rw [ai (λz=>by rw [z,hk] at hD;cases hD)];exact hD)
    rw [oB,xX] at S4;refine⟨l++[(ru.1,wd,k,i)],_,rfl,S4,IJ _ _ e8 Z4,IJ _ _ e9 Z5,?_,λh=>by simp at h⟩;rw [<-oB];refine .snoc P1 er ez (by rw [hn];exact li) (Gb dM l (by rw [Xh];exact cb ew)) nm
   refine⟨l,_,rfl,S3,e8,e9,P1,λhl x hx=>?_⟩;rw [cV,ew] at hx;rcases bq.mp hx with h | h
   .exact c3 hl x h
   rw [Option.toList_some,bE] at h;subst h;have hm:(ru.1,x)∈vL (dM++l):=mem.mp (by
    cases hq:(a_ kvs (Sum.inr x)).isSome with
    | true=>rfl
    | false=>exact absurd (by rw [hq];rfl) c)
   rw [hl,fV] at hm;exact hm
  rintro σ H8 ⟨l,y5,rfl,S3,e8,e9,P1,c3⟩;rw [aB,cE] at c3;refine⟨dM++l,_,_,rfl,S3,e8,P1,by rw [b9];omega,λO4=>?_⟩;rw [b9] at O4;have QZ:l=[]:=List.length_eq_zero_iff.mp ∅;obtain⟨Ln,lK⟩:=c2 ∅;rw [QZ,fV];refine⟨Ln,λj z' hj FU wd Xj=>?_⟩;by_cases cj:j < i
  .exact lK j z' cj FU wd Xj
  have:j=i:=by omega
  subst this;rw [ez] at FU;cases FU;have:=c3 QZ wd (by rw [<-Xh,Ln];exact Xj);rw [Ln] at this;exact this
 rintro σ H6 ⟨dM,y4,y5,rfl,S2,e6,VL,l2,c2⟩;rw [A5] at c2;exact q dM H6 S2 VL l2 c2
end
end eX
namespace L2
open PySem M11
def xt {K:aV}{H:Hp}{p D:Addr}{zs:List Str}{σ:St}{x:Str}{Qp:Hp->Prop}(hp:aG K H p (zs.map V.str))(hz:zs.length<=10000)(hD:H D=none)
  (q:∀ts (ps:List (Str×Addr)) H2,aC H H2->H2 D=some (.lst (ts.map V.ref))->ps.map (·.1)=zs->Paired (λt (p:Str×Addr)=>a9 K H2 t [.str p.1,.ref p.2]) ts ps->(∀p∈ps,H2 p.2=some (.dK [])/\H p.2=none/\p.2≠D)->(ps.map (·.2)).Nodup->Qp H2) :
  ∃W:Nat->Nat->List V->St->Hp->Prop,(∃m,W 0 m [] (df [x] [] σ) (upd H D (.lst []))) /\
 ∀i m ys σ' H,W i m ys σ' H->((iS K p).stop i H/\Qp H)\/((iS K p).go i H/\∃m',m' < m/\∀x H',(iS K p).kR i H x H'->du 0 x σ' H' λσ2 H2=>g6 σ2 H2 λb H3 =>
  if b=true then rQ (fu (fk 0) (fu (C6) oZ)) σ2 H3 λy H4=>H4 D=some (.lst ys)/\ys.length < sizeLine/\W (i+1) m' (ys++[y]) σ2 (upd H4 D (.lst (ys++[y]))) else W (i+1) m' ys σ2 H3):=by
 refine bR (xs:=zs.map V.str) (λi ys σ2 H2=>∃(ts:List Addr)(ps:List (Str×Addr)),ys=ts.map V.ref/\ts.length=i/\ps.map (·.1)=zs.take i/\Paired (λt (p:Str×Addr)=>a9 K H2 t [.str p.1,.ref p.2]) ts ps /\
   (∀p∈ps,H2 p.2=some (.dK [])/\H p.2=none/\p.2≠D)/\(ps.map (·.2)).Nodup/\(∃y0,σ2=[y0])/\aC H H2/\H2 D=some (.lst ys))
  ⟨[],[],rfl,rfl,rfl,.nil,by simp,by simp,⟨none,rfl⟩,ah hD _,ae⟩ (λi ys σ2 H2 _ h=>?_) (λi x ys σ2 H2 ex h=>?_) (λys σ2 H2 h=>?_)
 .obtain⟨_,_,_,_,_,_,_,_,_,sm,_⟩:=h;exact sm.seq hp
 .obtain⟨ts,ps,rfl,ht,hm,om,hl,hn,⟨y0,rfl⟩,sm,hd⟩:=h;rw [aZ] at ex;obtain⟨z,ez,rfl⟩:=cf.mp ex;have li:=(bo.mp ez).1;refine goN (vq ?_);refine⟨_,rfl,λl lJ=>⟨qf,λt jk=>?_⟩⟩;have Oc:l≠D:=(au hd lJ).symm;have nt:t≠l:=λe=>by rw [e,ae] at jk;cases jk
  have OM:H2 t=none:=by rw [ai nt] at jk;exact jk
  have ZQ:t≠D:=(au hd OM).symm;have uN:aC H2 (upd (upd H2 l (.dK [])) t (.tup [.str z,.ref l])):=(ah lJ _).trans (ah jk _);have gO:=uN _ _ hd;have el:upd (upd H2 l (.dK [])) t (.tup [.str z,.ref l]) l=some (.dK []):=by rw [ai nt.symm,ae]
  have et:a9 K (upd (upd H2 l (.dK [])) t (.tup [.str z,.ref l])) t [.str z,.ref l]:=a9.of ae;generalize upd (upd H2 l (.dK [])) t (.tup [.str z,.ref l])=H4 at uN gO el et;refine⟨gO,bQ (by rw [aB];omega),ts++[t],ps++[(z,l)],by rw [bI];rfl,by rw [b9,ht];rfl,by rw [bI,hm,cV,ez];rfl,?_,?_,?_,⟨_,rfl⟩,?_,ae⟩
  .exact ft (Paired.eF om λt' h' z=>a7 gO (uN.tup z)) (a7 gO et)
  .intro p' oo;rcases bq.mp oo with h | h
   .obtain⟨a1,a2,a3⟩:=hl p' h;exact⟨by rw [ai a3];exact uN _ _ a1,a2,a3⟩
   rw [bE.mp h];exact⟨by rw [ai Oc];exact el,sm.free lJ,Oc⟩
  .rw [bI];refine je.mpr ⟨hn,by simp,λa ha b hb e=>?_⟩;rw [nV,bE] at hb;obtain⟨p',oo,rfl⟩:=cU.mp ha;have:=(hl p' oo).1;rw [e,hb] at this;rw [show H2 l=none from lJ] at this;cases this
  intro b o hb;rw [ai (λz=>by rw [z,hD] at hb;cases hb)];exact uN _ _ (sm b o hb)
 obtain⟨ts,ps,rfl,ht,hm,om,hl,hn,_,sm,hd⟩:=h;rw [aB,cE] at hm;exact q ts ps H2 sm hd hm om hl hn
def gw {K:aV}{H:Hp}{D a C dx:Addr}{xs:List V}{fs:List (Str×V)}{o:HO}(hD:H D=some (.ins C dx fs))(h:a9 K H a xs):a9 K (upd H D o) a xs:=by
 rcases h with (h | ⟨u,h⟩) | h
 .exact .inl (.inl (by rw [ai (λz=>by rw [z,hD] at h;cases h)];exact h))
 .exact .inl (.inr ⟨u,by rw [ai (λz=>by rw [z,hD] at h;cases h)];exact h⟩)
 exact .inr h
def xr {K:aV}{H:Hp}{R D:Addr}{rs:List Addr}{es:List (Str×Nat)}{σ:St}{x1 x2:Str}{Qp:Hp->Prop}(hR:aG K H R (rs.map V.ref))(cS:Paired (λt (e:Str×Nat)=>a9 K H t [.str e.1,.int (e.2:Int)]) rs es)(a8:es.length<=1000)(hD:H D=none)
  (q:∀ts H2,aC H H2->H2 D=some (.lst (ts.map V.ref))->Paired (λt h=>a9 K H2 t [.str h,.bl true]) ts (es.map (·.1))->Qp H2) :
  ∃W:Nat->Nat->List V->St->Hp->Prop,(∃m,W 0 m [] (df [x1,x2] [] σ) (upd H D (.lst []))) /\
 ∀i m ys σ' H,W i m ys σ' H->((iS K R).stop i H/\Qp H)\/((iS K R).go i H/\∃m',m' < m/\∀x H',(iS K R).kR i H x H'->Cj K 2 (jO (du 0) (jO (du 1) ET)) x σ' H' λσ2 H2=>g6 σ2 H2 λb H3 =>
  if b=true then rQ (fu (fk 0) (fu (tC (.bl true)) oZ)) σ2 H3 λy H4=>H4 D=some (.lst ys)/\ys.length < sizeLine/\W (i+1) m' (ys++[y]) σ2 (upd H4 D (.lst (ys++[y]))) else W (i+1) m' ys σ2 H3):=by
 have ll:=bF cS;refine bR (xs:=rs.map V.ref) (λi ys σ2 H2=>∃ts:List Addr,ys=ts.map V.ref/\ts.length=i/\Paired (λt h=>a9 K H2 t [.str h,.bl true]) ts ((es.take i).map (·.1))/\(∃y0 y1,σ2=[y0,y1])/\aC H H2/\H2 D=some (.lst ys))
  ⟨[],rfl,rfl,.nil,⟨none,none,rfl⟩,ah hD _,ae⟩ (λi ys σ2 H2 _ h=>?_) (λi x ys σ2 H2 ex h=>?_) (λys σ2 H2 h=>?_)
 .obtain⟨_,_,_,_,_,sm,_⟩:=h;exact sm.seq hR
 .obtain⟨ts,rfl,ht,hp,⟨y0,y1,rfl⟩,sm,hd⟩:=h;rw [aZ] at ex;obtain⟨r,er,rfl⟩:=cf.mp ex;have lr:=(bo.mp er).1;obtain⟨ru,e1⟩:∃ru,es[i]?=some ru:=⟨es[i]'∅,cZ ∅⟩;obtain⟨r',A0,v1⟩:=Paired.at_ cS i ru e1;rw [er] at A0;cases A0;have li:=(bo.mp e1).1;refine⟨r,_,rfl,sm.tup v1,rfl,_,_,rfl,_,_,rfl,rfl,?_⟩;refine vq ?_;refine⟨_,rfl,qf,λt jk=>⟨?_,bQ (by rw [aB];omega),ts++[t],?_,?_,?_,⟨_,_,rfl⟩,?_,ae⟩⟩
  .rw [ai (au hd jk)];exact hd
  .rw [bI];rfl
  .rw [b9,ht];rfl
  .rw [cV,e1,bI];have gO:upd H2 t (.tup [.str ru.1,.bl true]) D=some (.lst (ts.map V.ref)):=by rw [ai (au hd jk)];exact hd
   exact ft (Paired.eF hp λt' h' z=>a7 gO ((ah jk _).tup z)) (a7 gO (a9.of ae))
  intro b o hb;rw [ai (λz=>by rw [z,hD] at hb;cases hb)];exact ah jk _ _ _ (sm b o hb)
 obtain⟨ts,rfl,ht,hp,_,sm,hd⟩:=h;rw [aB,ll,cE] at hp;exact q ts H2 sm hd hp
end L2
namespace M11
open PySem L2
def vQ.sub {aa:List ay}{names:List Str}{b:Str->Bool}{cw:List Be}(h:vQ aa names b cw):∀q∈vL cw,q.1∈aa.map (·.1)/\q.2∈aa.flatMap (·.2):=by
 induction h with
 | nil=>intro q hq;cases hq
 | @snoc cw k j ru z wd hb er ez _ hw _ ih =>
  intro q hq;unfold vL at hq;rw [bI] at hq;rcases bq.mp hq with hq | hq
  .exact ih q hq
  rw [nV,bE] at hq;rw [hq];have hm:=cb er;refine⟨iE hm,?_⟩;unfold oY at hw
  split at hw
  .exact(ih (z,wd) (zB.mp hw)).2
  rw [bE.mp hw];exact nQ.mpr ⟨ru,hm,cb ez⟩
def vQ.nd {aa:List ay}{names:List Str}{b:Str->Bool}{cw:List Be}(h:vQ aa names b cw):(vL cw).Nodup:=by
 induction h with
 | nil=>exact lP
 | @snoc cw k j ru z wd hb er ez _ hw hn ih =>
  unfold vL;rw [bI];refine je.mpr ⟨ih,by simp,λx hx y hy e=>?_⟩;rw [nV,bE] at hy;rw [e,hy] at hx;exact hn hx
theorem wt (m:List Str):∀l:List Str,(l.flatMap λn=>m.map λwd=>(n,wd)).length=l.length * m.length
 | []=>by simp
 | n::l=>by
  rw [List.flatMap_cons,b9,wt m l,aB,dC,Nat.add_mul];omega
def vQ.len {aa:List ay}{names:List Str}{b:Str->Bool}{cw:List Be}(h:vQ aa names b cw)(hl:aa.length<=100)(h8:∀ru∈aa,ru.2.length<=8):cw.length<=80000:=by
 have h1:=eM (vL cw) ((aa.map (·.1)).flatMap λn=>(aa.flatMap (·.2)).map λwd=>(n,wd)) h.nd λq hq=>by
  obtain⟨a,c⟩:=h.sub q hq;exact nQ.mpr ⟨q.1,a,cU.mpr ⟨q.2,c,rfl⟩⟩
 rw [wt] at h1;have h2:=eX.iR aa 100 hl h8;unfold vL at h1;rw [aB,aB] at h1;have h3:aa.length * (aa.flatMap (·.2)).length<=100 * 800:=Nat.mul_le_mul hl h2;omega
def Ic (aa:List ay) (names:List Str)(b:Str->Bool) (n:Nat)(cw:List Be):Prop:=∀k ru,k < n->aa[k]?=some ru->∀j z,j < Ck b ru.2->ru.2[j]?=some z->∀wd∈oY names cw z,(ru.1,wd)∈vL cw
end M11
namespace eX
open PySem L2 M11
section
def Ar (K:aV)(C:Addr):Sp:=λvs H Q _=>∃(H0:Hp)(a dx R:Addr)(rs:List Addr)(aa:List ay),vs=[.ref a,.ref R]/\aC H0 H/\H0 a=none/\H a=some (.ins C dx [])/\aG K H0 R (rs.map V.ref)/\bJ K H0 rs aa/\aa.length<=100/\(∀ru∈aa,ru.2.length<=8) /\
 ∀(e d bg:Addr)(kE:List (aJ×V))(aR:List (Str×Nat))(ps:List (Str×Addr))(cw:List Be)(H':Hp),si K C H0 H' a e d bg kE aR ps cw->ps.map (·.1)=hd aa->pD aa aR->lI aa aa.length aR->(∀z,(a_ kE (Sum.inr z)).isSome=decide (z∈aR.map (·.1))) ->
  vQ aa (hd aa) (λz=>decide (z∈aR.map (·.1))) cw->Ic aa (hd aa) (λz=>decide (z∈aR.map (·.1))) aa.length cw->Q .dI H'
def mj:aH ["self","rules","number","many","rule"] ["self","rules"] (av yE):=iw rfl rfl rfl rfl nofun
def Ei {C fF:Addr}{X7:FuncData}(F:gX K "__init__" "BeginTable.__init__" yE f fd)(T:Txt mg)(B:BC K C)(GE:aK P w K mg base 1 "found_empties" ["rules"] (nZ K))(GH:aK P w K mg base 1 "heads_of" ["rules"] (jT K))
  (FF:ba P w K mg base fc 2 fF X7 ["self","number","rule"] (Dh K C))(MF:Meth K C "find_begins" fF)(BF:Binds K X7 ["self","number","rule"] []):ba P w K mg base fc 3 f fd ["self","rules"] (Ar K C):=by
 refine F.ok mj (λvs H Q E h=>?_) (λdw A outer s H vs Q E hr h=>?_)
 .obtain⟨H0,a,dx,R,rs,aa,rfl,_⟩:=h;rfl
 obtain⟨H0,a,dx,R,rs,aa,rfl,s0,f0,ea,hR,cS,a8,h8,q⟩:=h;refine⟨_,aj (fP (pv 0) (bU (GE.mono (by decide:1<=2)) hr rfl (af (pv 1) ak)) rfl)
  (aj (fP (pv 0) (bc (dP rfl) rfl T.A4 fh (af (bK ["name","number"] [] rfl (bx (dZ (pv 0) rfl)) (bh rfl rfl) nofun rfl nofun
   (λ_ _ _ _ _=>i5 (n:=2) K rfl (aE (aw (i:=0) (show (["name","number"]:List Str).Nodup by decide +kernel) rfl (bM rfl)) (aE (aw (i:=1) (show (["name","number"]:List Str).Nodup by decide +kernel) rfl (bM rfl)) cu))) (λ_ _ _ _ _=>bW)
   (λ_ _ _ _ _=>cJ (af (pv 0) (af fg ak)))) ak)) rfl)
  (aj (fP (pv 0) (cK ak) rfl)
  (aj (fP (pv 0) (bc (dP rfl) rfl T.A4 fh (af (bK ["name"] [] rfl (bx (bU (GH.mono (by decide:1<=2)) hr rfl (af (pv 1) ak))) (bh rfl rfl) nofun rfl nofun
   (λ_ _ _ _ _=>aw (i:=0) (show (["name"]:List Str).Nodup by decide +kernel) rfl (bM rfl)) (λ_ _ _ _ _=>bW)
   (λ_ _ _ _ _=>cJ (af (pv 0) (af gA ak)))) ak)) rfl)
  (aj (aF (i:=3) mj.nd rfl (bM rfl) (Iy C1 aq))
  (ao (jJ cD (cx mI (pv 3) (aN aQ rfl T.len d5 (af (dZ (pv 0) rfl) ak)) (dq _))
   (aj (aF (i:=3) mj.nd rfl (bM rfl) (aN aQ rfl T.len d5 (af (dZ (pv 0) rfl) ak)))
   (ao (b_ cD rfl (mD rfl T.HE (af (pv 1) ak)) (eZ rfl (aE (aw (i:=2) mj.nd rfl (bM rfl)) (aE (aw (i:=4) mj.nd rfl (bM rfl)) cu)))
    (ao (cP (AE (pv 0) B.cls MF FF hr BF .nil qB (af (pv 2) (af (pv 4) ak)))))))))))))),?_⟩
 nofun
 have ll:=bF cS;refine⟨_,rfl,R,rs,aa,rfl,s0.seq hR,cS.same s0,∅,h8,λD1 Bn aR H1 f1 s1 e1 w1 emp zH=>?_⟩;have Vn:=s1 _ _ ea;refine⟨_,rfl,a,C,dx,[],rfl,Vn,B.cls,B.a1,(by show 0 < 1000;decide),?_⟩;have e2:upd H1 a (.ins C dx (dD "empties" (.ref D1) [])) D1=some (.lst (Bn.map V.ref)):=by rw [ai (λz=>by rw [z,Vn] at e1;cases e1)];exact e1
 have w2:ow K (upd H1 a (.ins C dx (dD "empties" (.ref D1) []))) Bn aR:=w1.keep λ_ _ z=>gw Vn z;have Kd:aC H0 (upd H1 a (.ins C dx (dD "empties" (.ref D1) []))):=λc o hc=>by rw [ai (λz=>by rw [z,f0] at hc;cases hc)];exact s1 _ _ (s0 c o hc)
 have PJ:upd H1 a (.ins C dx (dD "empties" (.ref D1) [])) a=some (.ins C dx (dD "empties" (.ref D1) [])):=ae;generalize upd H1 a (.ins C dx (dD "empties" (.ref D1) []))=H2 at e2 w2 Kd PJ;have lets:=emp.len;refine⟨_,rfl,a,C,dx,_,_,rfl,PJ,B.cls,B.a1,rfl,D1,rfl,⟨_,aG.of e2⟩,λD2 iP=>xr (aG.of e2) w2 ∅ iP λkr H3 s3 e3 p3=>?_⟩;have kp:Paired (λt (kv:aJ×V)=>a9 K H3 t [kV kv.1,kv.2]) kr ((aR.map (·.1)).map λh=>((Sum.inr h:aJ),V.bl true)):=cA p3 λ_ _ z=>z;refine⟨D2,kr,_,rfl,e3,kp,λe he=>?_⟩;have BZ:∀z,(a_ (cO ((aR.map (·.1)).map λh=>((Sum.inr h:aJ),V.bl true)) []) (Sum.inr z)).isSome=decide (z∈aR.map (·.1)):=λz=>by
  rw [qh];by_cases c:z∈aR.map (·.1)
  .rw [az c,cM c];rfl
  rw [aA c,ff c];rfl
 generalize cO ((aR.map (·.1)).map λh=>((Sum.inr h:aJ),V.bl true)) []=kE at BZ;have Kc:=(Kd.trans s3).trans (ah he (.dK kE));have LO:=ah he (.dK kE) _ _ (s3 _ _ PJ);have Rm:upd H3 e (.dK kE) e=some (.dK kE):=ae;have Ir:aC H2 (upd H3 e (.dK kE)):=s3.trans (ah he (.dK kE));generalize upd H3 e (.dK kE)=H4 at Kc LO Rm Ir;have VA:=Ir _ _ e2;have Y2:ow K H4 Bn aR:=w2.keep λ_ _ z=>Ir.tup z;refine⟨_,rfl,a,C,dx,_,rfl,LO,B.cls,B.a2,(by show 1 < 1000;decide),?_⟩;generalize UB:dD "empty" (.ref e) (dD "empties" (.ref D1) [])=IX;have PH:upd H4 a (.ins C dx IX) e=some (.dK kE):=by rw [ai (λz=>by rw [z,LO] at Rm;cases Rm)];exact Rm
 have Ms:aC H0 (upd H4 a (.ins C dx IX)):=λc o hc=>by rw [ai (λz=>by rw [z,f0] at hc;cases hc)];exact Kc c o hc
 have Yr:upd H4 a (.ins C dx IX) a=some (.ins C dx IX):=ae;have Vz:upd H4 a (.ins C dx IX) D1=some (.lst (Bn.map V.ref)):=by rw [ai (λz=>by rw [z,LO] at VA;cases VA)];exact VA
 have Ws:ow K (upd H4 a (.ins C dx IX)) Bn aR:=Y2.keep λ_ _ z=>gw LO z;generalize upd H4 a (.ins C dx IX)=H5 at PH Ms Yr Vz Ws;refine⟨xM,λbg Ll=>?_⟩;have fbg:H0 bg=none:=Ms.free Ll;have Ro:upd H5 bg (.lst []) bg=some (.lst []):=ae;have Iv:=Ms.trans (ah Ll (.lst []));have LM:=ah Ll (.lst []) _ _ PH;have M6:=ah Ll (.lst []) _ _ Yr;have Ta:D1≠bg:=au Vz Ll;have Rv:=ah Ll (.lst []) _ _ Vz;have Wr:ow K (upd H5 bg (.lst [])) Bn aR:=Ws.keep λ_ _ z=>(ah Ll (.lst [])).tup z;generalize upd H5 bg (.lst [])=H6 at Ro Iv LM M6 Rv Wr;refine⟨_,rfl,a,C,dx,_,rfl,M6,B.cls,B.a3,(by rw [<-UB];show 2 < 1000;decide),?_⟩;generalize XE:dD "begins" (.ref bg) IX=Hz;have LL:upd H6 a (.ins C dx Hz) e=some (.dK kE):=by rw [ai (λz=>by rw [z,M6] at LM;cases LM)];exact LM
 have Yp:upd H6 a (.ins C dx Hz) bg=some (.lst []):=by rw [ai (λz=>by rw [z,M6] at Ro;cases Ro)];exact Ro
 have Kb:aC H0 (upd H6 a (.ins C dx Hz)):=λc o hc=>by rw [ai (λz=>by rw [z,f0] at hc;cases hc)];exact Iv c o hc
 have Yq:upd H6 a (.ins C dx Hz) a=some (.ins C dx Hz):=ae;have YA:upd H6 a (.ins C dx Hz) D1=some (.lst (Bn.map V.ref)):=by rw [ai (λz=>by rw [z,M6] at Rv;cases Rv)];exact Rv
 have Wq:ow K (upd H6 a (.ins C dx Hz)) Bn aR:=Wr.keep λ_ _ z=>gw M6 z;generalize upd H6 a (.ins C dx Hz)=H7 at LL Yp Kb Yq YA Wq;refine⟨_,rfl,R,rs,aa,rfl,Kb.seq hR,cS.same Kb,∅,λD4 H8 f8 s8 e8=>?_⟩;have CI:=gk (aa.map (·.1)) [];simp only [iC,aB] at CI;refine⟨D4,rfl,⟨_,aG.of e8⟩,λD5 IV=>xt (aG.of e8) ∅ IV λts ps H9 s9 e9 m9 p9 l9 n9=>?_⟩;have n1:(ps.map (·.1)).Nodup:=by rw [m9];exact lF _ lP
 have Ew:Paired (λt (kv:aJ×V)=>a9 K H9 t [kV kv.1,kv.2]) ts (ps.map iT):=cA p9 λ_ _ z=>z;refine⟨D5,ts,_,rfl,e9,Ew,λd pb=>?_⟩;have PB:cO (ps.map iT) []=ps.map iT:=ng _ [] (by
  rw [nO,mJ];exact vc n1)
 rw [PB];have Mr:=s8.trans s9;have sd:=ah pb (.dK (ps.map iT));have yF:=Mr.trans sd;have pz:upd H9 d (.dK (ps.map iT)) d=some (.dK (ps.map iT)):=ae;have KH:∀p∈ps,upd H9 d (.dK (ps.map iT)) p.2=some (.dK [])/\p.2≠d:=λp hp=>⟨sd _ _ (l9 p hp).1,λz=>by have:=(l9 p hp).1;rw [z,pb] at this;cases this⟩;generalize upd H9 d (.dK (ps.map iT))=vP at yF pz KH;have zJ:=yF _ _ Yq;have vy:=yF _ _ LL;have LN:=yF _ _ Yp;have Sg:=Kb.trans yF;have LS:=yF _ _ YA;have RP:ow K vP Bn aR:=Wq.keep λ_ _ z=>yF.tup z;refine⟨_,rfl,a,C,dx,_,rfl,zJ,B.cls,B.a4,(by rw [<-XE,<-UB];show 3 < 1000;decide),?_⟩;have fp:∀p∈ps,H0 p.2=none/\p.2≠e:=λp hp=>by
  have XW:H8 p.2=none:=(l9 p hp).2.1;refine⟨(Kb.trans s8).free XW,λz=>?_⟩;have:=s8 _ _ LL;rw [<-z,XW] at this;cases this
 have hfs:∃fs,dD "firsts" (.ref d) Hz=fs/\fs.lookup ("empty":Str)=some (.ref e)/\fs.lookup ("begins":Str)=some (.ref bg)/\fs.lookup ("firsts":Str)=some (.ref d)/\fs.lookup ("find_begins":Str)=none/\fs.lookup ("words_of_part":Str)=none/\fs.lookup ("empties":Str)=some (.ref D1):=by
  refine⟨_,rfl,?_⟩;rw [<-XE,<-UB];refine⟨?_,?_,?_,?_,?_,?_⟩ <;> rfl
 obtain⟨fs,efs,k1,k2,k3,k4,k5,k6⟩:=hfs;rw [efs];have CQ:si K C H0 (upd vP a (.ins C dx fs)) a e d bg kE aR ps []:=by
  refine⟨λc o hc=>by rw [ai (λz=>by rw [z,f0] at hc;cases hc)];exact Sg c o hc,⟨dx,fs,ae,k1,k2,k3,k4,k5⟩,?_,?_,n1,n9,λp hp=>⟨⟨[],?_,rfl⟩,(fp p hp).1,(fp p hp).2,(KH p hp).2⟩,⟨[],?_,.nil⟩,fbg,⟨D1,Bn,⟨dx,fs,ae,k6⟩,by rw [ai (λz=>by rw [z,zJ] at LS;cases LS)];exact LS,RP.keep λ_ _ z=>gw zJ z,Ta⟩⟩
  .rw [ai (λz=>by rw [z,zJ] at vy;cases vy)];exact vy
  .rw [ai (λz=>by rw [z,zJ] at pz;cases pz)];exact pz
  .have:=(KH p hp).1;rw [ai (λz=>by rw [z,zJ] at this;cases this)];exact this
  rw [ai (λz=>by rw [z,zJ] at LN;cases LN)];exact LN
 generalize upd vP a (.ins C dx fs)=Bg at CQ;have eb:(λz=>(a_ kE (Sum.inr z)).isSome)=λz=>decide (z∈aR.map (·.1)):=funext BZ;refine⟨1,rfl,?_⟩;refine⟨λmm σ xG=>∃(cw:List Be) (many:Int)(y2 y4:Option V),σ=[br a,br R,y2,some (.int many),y4]/\si K C H0 xG a e d bg kE aR ps cw/\vQ aa (hd aa) (λz=>decide (z∈aR.map (·.1))) cw/\-1<=many/\many<=cw.length /\
  (many=cw.length->Ic aa (hd aa) (λz=>decide (z∈aR.map (·.1))) aa.length cw)/\(mm:Int)=80001 - many,⟨80002,[],-1,none,none,rfl,CQ,.nil,∅,by simp,by simp,∅⟩,?_⟩
 rintro mm σ xG ⟨cw,many,y2,y4,rfl,F6,LY,b1,b2,cl,em⟩;obtain⟨Ru,rW,q1,q2,q3,q4,q5,q6⟩:=F6.ia;obtain⟨tb,XO,Lo⟩:=F6.lb;have lb:=bF Lo;have KN:=LY.len a8 h8;refine⟨_,rfl,_,rfl,a,C,Ru,rW,_,rfl,q1,B.cls,B.a3,q3,bg,_,rfl,.inl (aG.of XO),_,_,rfl,rfl,_,rfl,?_⟩;refine dJ (λc=>?_) (λc=>?_)
 .have c':=d6 c;rw [aB,lb] at c';refine⟨λσ Bf=>∃(dM:List Be)(y2 y4:Option V),σ=[br a,br R,y2,some (.int (cw.length:Int)),y4]/\si K C H0 Bf a e d bg kE aR ps dM/\vQ aa (hd aa) (λz=>decide (z∈aR.map (·.1))) dM/\cw.length<=dM.length /\
   (dM.length=cw.length->dM=cw/\Ic aa (hd aa) (λz=>decide (z∈aR.map (·.1))) aa.length cw),?_,?_⟩
  .rintro σ Bf ⟨dM,y2,y4,rfl,Fv,Cz,Tz,Jc⟩;have:=Cz.len a8 h8;refine⟨(80001 - cw.length:Int).toNat,∅,dM,_,_,_,rfl,Fv,Cz,∅,∅,λz=>?_,∅⟩;obtain⟨HK,Co⟩:=Jc ∅;rw [HK];exact Co
  refine⟨_,rfl,a,C,Ru,rW,_,rfl,q1,B.cls,B.a3,q3,bg,_,rfl,.inl (aG.of XO),?_⟩;rw [aB,lb];refine⟨_,rfl,R,_,rfl,F6.sm.seq hR,?_⟩;refine jQ (xs:=rs.map V.ref) (λi σ Bf=>∃(dM:List Be)(y2 y4:Option V),σ=[br a,br R,y2,some (.int (cw.length:Int)),y4]/\si K C H0 Bf a e d bg kE aR ps dM/\vQ aa (hd aa) (λz=>decide (z∈aR.map (·.1))) dM/\cw.length<=dM.length /\
   (dM.length=cw.length->dM=cw/\Ic aa (hd aa) (λz=>decide (z∈aR.map (·.1))) i cw)) ⟨cw,_,_,rfl,F6,LY,aI _,λ_=>⟨rfl,λk ru hk=>by omega⟩⟩ ?_ ?_ ?_
  .rintro i σ Bf _ ⟨dM,y2,y4,rfl,Fv,_⟩;exact Fv.sm.seq hR
  .rintro i x σ Bf t ex ⟨dM,y2,y4,rfl,Fv,Cz,Tz,Jc⟩ ht
   ac_nf0
   rw [aZ] at ex;obtain⟨r,er,rfl⟩:=cf.mp ex;obtain⟨ru,qZ,rv⟩:=cS.get er;have oq:=cb qZ;have Qd:=Fv.same (ah ht (.tup [.int (i:Int),.ref r]));have OJ:a9 K (upd Bf t (.tup [.int (i:Int),.ref r])) t [.int (i:Int),.ref r]:=a9.of ae;generalize upd Bf t (.tup [.int (i:Int),.ref r])=H14 at Qd OJ;obtain⟨dx4,MY,r1,r2,r3,r4,r5,r6⟩:=Qd.ia;refine⟨t,_,rfl,OJ,rfl,_,_,rfl,_,_,rfl,rfl,?_⟩;refine⟨_,rfl,a,dx4,MY,rfl,r1,r5,_,rfl,_,rfl,H0,a,e,d,bg,r,kE,aR,ps,dM,i,ru,aa,rfl,Qd,rv,qZ,h8 ru oq,by rw [m9];exact(d_ _ _ _).mpr (.inr (iE oq)),?_,?_,?_⟩
   .intro vE vp;have:=vp.len a8 h8;omega
   .rw [m9,eb];exact Cz
   rw [m9,eb];intro VN H15 Wd VM l15 VH;refine⟨VN,_,_,rfl,Wd,VM,∅,λhl3=>?_⟩;obtain⟨x1,x2⟩:=Jc ∅;obtain⟨x3,x4⟩:=VH ∅;refine⟨x3.trans x1,λk jW hk U8 j z hj ez wd hw=>?_⟩;by_cases ck:k < i
   .exact x2 k jW ck U8 j z hj ez wd hw
   have:k=i:=by omega
   subst this;rw [qZ] at U8;cases U8;rw [<-x1] at hw ⊢;exact x4 j z hj ez wd hw
  rintro σ Bf ⟨dM,y2,y4,rfl,Fv,Cz,Tz,Jc⟩;rw [aB,ll] at Jc;exact⟨dM,_,_,rfl,Fv,Cz,Tz,Jc⟩
 have c':=of_decide_eq_false (pS.mpr c);rw [aB,lb] at c';exact q e d bg kE aR ps cw xG F6 m9 emp zH BZ LY (cl ∅)
end
end eX
namespace L2
open PySem PySem.W
section
variable {X:Cx}{ag:List (Addr×Obj)}{σ:St}{H:Hp}{s:Shared}{a:Addr}{kvs:List (aJ×V)}{k:aJ}{u:Value}{A:Around}{E:Value->Shared->Prop}
def LQ {z:V}{r:Value}{Q:Value->Shared->Prop}(I:Inv X ag σ H s)(e:H a=some (.dK kvs))(hl:kvs.length < sizeLine)(ry:RelV (kV k) u)(rz:RelV z r)
  (h1:∀v w' s',a_ kvs k=some v->Inv X ag σ H s'->RelV v w'->Q w' s')(h2:a_ kvs k=none->∀s',Inv X ag σ (upd H a (.dK (bC kvs k z))) s'->Q r s') :
  wpAny (model X.prog X.w) A (call (.builtin "dict.setdefault") [.ref a,u,r]) Q E s:=by
 obtain⟨zl,hd,vs,rel,dd⟩:=xb I.bH e;refine call_meetsIn PySem.F.slot_dict_setdefault dd.typeIs PySem.F.entry_dict_setdefault (PySem.F.args_dict_setdefault_3 _ _ _) (kt_meets_setdefault (aY X.prog X.w) a (kA ry) hd r)
  ⟨vs,dd,by rw [<-rel.length];exact zl,λv hv=>?_,λhn h' F5 hs=>?_⟩
 .have rv:=rel.val k;rw [hv] at rv;cases e2:a_ kvs k with
  | none=>rw [e2] at rv;cases rv
  | some x=>rw [e2] at rv;exact h1 x v _ e2 (I.tok _) rv
 have Cc:a_ kvs k=none:=by
  have rv:=rel.val k;rw [hn] at rv;cases e2:a_ kvs k with
  | none=>rfl
  | some x=>rw [e2] at rv;cases rv
 have he:∃q,h'.get? a=some q:=let ⟨q,_,_,hq,_⟩:=F5;⟨q,hq⟩;exact h2 Cc _ (pQ I (by rw [e];exact True.intro) hs he (q_ (by have:=eG kvs k z;omega) hd (rel.put k rz) F5))
end
section
variable {X:Cx}{o e f:Expr}{apos gE:Pos}{td ty tx:TE}
def JG (td ty tx:TE):TE:=λσ H Q=>td σ H λx H1=>∃a,x=.ref a/\RB H1 a/\ty σ H1 λy H2=>tx σ H2 λz H3=>∃kvs k,H3 a=some (.dK kvs)/\y=kV k/\kvs.length < sizeLine /\
 (∀v,a_ kvs k=some v->Q v H3)/\(a_ kvs k=none->Q z (upd H3 a (.dK (bC kvs k z))))
def DO (ho:PE X o td)(he:PE X e ty)(hf:PE X f tx)(m:M2 X o "setdefault" apos e f gE):PE X (.Call (.Attribute o "setdefault" apos) [e,f] [] gE) (JG td ty tx):=by
 intro ag s σ H Q I h;refine wpAny_Call_method m.base m.M0 m.line x9 PySem.F.slot_dict_setdefault PySem.F.type_dict_setdefault (cq (ho ag s σ H _ I h) λu s1 aT=>?_);obtain⟨x,H1,I1,rx,a,ex,d,q1⟩:=aT;subst ex;obtain rfl:u=Value.ref a:=rx;obtain⟨t1,t2,_⟩:=zr I1 d;refine⟨t1,t2,?_⟩;rw [m.trees];refine ur rfl (uf (nR (cq (he ag s1 σ H1 _ I1 q1) λiv s2 ⟨y,H2,I2,ry,q2⟩ =>
  nR (cq (hf ag s2 σ H2 _ I2 q2) λfv s3 ⟨z,H3,I3,rz,kvs,k,ea,ey,hl,q3,q4⟩=>Calls.spliced_nil ?_))))
 subst ey;exact LQ I3 ea hl ry rz (λv w' s4 l I4 yH=>⟨v,_,I4,yH,q3 v l⟩) λl s4 I4=>⟨z,_,I4,rz,q4 l⟩
end
end L2
namespace eX
open PySem L2 M11
section
def N3 {ps:List (Str×Addr)}(n1:(ps.map (·.1)).Nodup)(n2:(ps.map (·.2)).Nodup){p p':Str×Addr}(hp:p∈ps)(oo:p'∈ps)(z:p'≠p):p'.1≠p.1/\p'.2≠p.2:=by
 refine⟨λq=>z ?_,λq=>z ?_⟩
 .have w1:=fY ps n1 p' oo;have w2:=fY ps n1 p hp;rw [q,w2] at w1;injection w1 with w3;injection w3 with w4;exact Prod.ext q w4.symm
 obtain⟨i,hi,ei⟩:=pV.mp oo;obtain⟨j,hj,ej⟩:=pV.mp hp;have AO:i=j:=by
  refine(p8 (xs:=ps.map (·.2)) (h₀:=by simpa using hi) (h₁:=by simpa using hj) n2).mp ?_;rw [nP,nP,ei,ej];exact q
 subst AO;exact ei.symm.trans ej
structure F7 (ps:List (Str×Addr))(st:Str->List Int)(H:Hp)(d:Addr):Prop where
 hd:H d=some (.dK (ps.map iT))
 n1:(ps.map (·.1)).Nodup
 n2:(ps.map (·.2)).Nodup
 lst:∀p∈ps,H p.2=some (.lst ((st p.1).map V.int))
def F7.same {ps:List (Str×Addr)}{st:Str->List Int}{H H':Hp}{d:Addr}(h:F7 ps st H d)(s:aC H H'):F7 ps st H' d:=⟨s _ _ h.hd,h.n1,h.n2,λp hp=>s _ _ (h.lst p hp)⟩
def Ba (st:Str->List Int)(n:Str) (k:Int):Str->List Int:=λz=>if z=n then st z++[k] else st z
def F7.more {ps:List (Str×Addr)}{st:Str->List Int}{H:Hp}{d:Addr}(h:F7 ps st H d){p:Str×Addr}(hp:p∈ps) (k:Int):F7 ps (Ba st p.1 k) (upd H p.2 (.lst ((st p.1).map V.int++[.int k]))) d:=by
 have a:=h.lst p hp;have nd:d≠p.2:=λz=>by have:=h.hd;rw [z,a] at this;cases this
 refine⟨by rw [ai nd];exact h.hd,h.n1,h.n2,λp' oo=>?_⟩;by_cases z:p'=p
 .rw [z,ae];have e1:Ba st p.1 k p.1=st p.1++[k]:=az rfl;rw [e1,bI];rfl
 obtain⟨a1,a2⟩:=N3 h.n1 h.n2 hp oo z;have e1:Ba st p.1 k p'.1=st p'.1:=aA a1;rw [ai a2,e1];exact h.lst p' oo
def Dg (K:aV):Sp:=λvs H Q _=>∃(R:Addr)(rs:List Addr)(aa:List ay),vs=[.ref R]/\aG K H R (rs.map V.ref)/\bJ K H rs aa/\aa.length<=1000 /\
 ∀(d:Addr)(ps:List (Str×Addr))(H':Hp),H d=none->aC H H'->F7 ps (λn=>nums aa n aa.length) H' d->ps.map (·.1)=hd aa->(∀p∈ps,H p.2=none)->Q (.ref d) H'
def uQ:aH ["rules","numbers","number","rule"] ["rules"] (av Dq):=iw rfl rfl rfl rfl nofun
def G6 (F:gX K "numbers_by_name" "numbers_by_name" Dq f fd)(T:Txt mg)(GH:aK P w K mg base 1 "heads_of" ["rules"] (jT K)):ba P w K mg base fc 2 f fd ["rules"] (Dg K):=by
 refine F.ok uQ (λvs H Q E h=>?_) (λdw A outer s H vs Q E hr h=>?_)
 .obtain⟨R,rs,aa,rfl,_⟩:=h;rfl
 obtain⟨R,rs,aa,rfl,hR,cS,a8,q⟩:=h;have hu:=fX hr;refine⟨_,aj (aF (i:=1) uQ.nd rfl (bM rfl) (bc (dP rfl) rfl T.A4 fh (af
   (bK ["name"] [] rfl (bx (bU GH hr rfl (af (pv 0) ak))) (bh rfl rfl) nofun rfl nofun
    (λ_ _ _ _ _=>aw (i:=0) (show (["name"]:List Str).Nodup by decide +kernel) rfl (bM rfl)) (λ_ _ _ _ _=>bW)
    (λ_ _ _ _ _=>cJ (af (pv 0) (af (cK ak) ak)))) ak)))
  (aj (b_ cD rfl (mD rfl T.HE (af (pv 0) ak)) (eZ rfl (aE (aw (i:=2) uQ.nd rfl (bM rfl)) (aE (aw (i:=3) uQ.nd rfl (bM rfl)) cu)))
   (ao (cP (iK jf jw jx cT (eK hu (pv 1) (aP bL (pv 3) aq (λ_ _=>rfl)) (λ_ _=>rfl)) (af (pv 2) ak)))))
  (ao (bu (pv 1)))),?_⟩
 nofun
 have ll:=bF cS;refine⟨_,rfl,R,rs,aa,rfl,hR,cS,a8,λD2 H3 f3 s3 e3=>?_⟩;have CI:=gk (aa.map (·.1)) [];simp only [iC,aB] at CI;refine⟨D2,rfl,⟨_,aG.of e3⟩,λD3 IW=>rh (aG.of e3) ∅ IW λts ps H4 s4 e4 m4 p4 l4 n4=>?_⟩;have n1:(ps.map (·.1)).Nodup:=by rw [m4];exact lF _ lP
 have Ew:Paired (λt (kv:aJ×V)=>a9 K H4 t [kV kv.1,kv.2]) ts (ps.map iT):=cA p4 λ_ _ z=>z;refine⟨D3,ts,_,rfl,e4,Ew,λd pb=>?_⟩;have PB:cO (ps.map iT) []=ps.map iT:=ng _ [] (by
  rw [nO,mJ];exact vc n1)
 rw [PB];have s5:=(s3.trans s4).trans (ah pb (.dK (ps.map iT)));have xO:=ah pb (.dK (ps.map iT));have vN:H d=none:=(s3.trans s4).free pb;have S5:F7 ps (λn=>nums aa n 0) (upd H4 d (.dK (ps.map iT))) d:=⟨ae,n1,n4,λp hp=>xO _ _ (l4 p hp).1⟩;have MZ:∀p∈ps,H p.2=none:=λp hp=>s3.free (l4 p hp).2.1;generalize upd H4 d (.dK (ps.map iT))=H5 at s5 S5;clear xO;refine⟨_,rfl,R,_,rfl,s5.seq hR,?_⟩
 let sf:rP:=λi σ H6=>∃(y2 y3:Option V),σ=[br R,br d,y2,y3]/\aC H H6/\F7 ps (λn=>nums aa n i) H6 d
 refine jQ (xs:=rs.map V.ref) sf ⟨none,none,rfl,s5,S5⟩ ?_ ?_ ?_
 .rintro i σ H6 _ ⟨y2,y3,rfl,s6,_⟩;exact s6.seq hR
 .rintro i x σ H6 t ex ⟨y2,y3,rfl,s6,S6⟩ ht
  ac_nf0
  rw [aZ] at ex;obtain⟨r,er,rfl⟩:=cf.mp ex;obtain⟨ru,qZ,p,v1,v2⟩:=cS.get er;have oq:=cb qZ;have li:=(bo.mp qZ).1;have Bt:=ah ht (.tup [.int (i:Int),.ref r]);have IP:a9 K (upd H6 t (.tup [.int (i:Int),.ref r])) t [.int (i:Int),.ref r]:=a9.of ae;have s7:=s6.trans Bt;have S7:=S6.same Bt;generalize upd H6 t (.tup [.int (i:Int),.ref r])=H7 at IP s7 S7;obtain⟨pn,wU,xX⟩:∃pn∈ps,pn.1=ru.1:=by
   have:ru.1∈ps.map (·.1):=by rw [m4];exact(d_ _ _ _).mpr (.inr (iE oq))
   obtain⟨pn,a,b⟩:=cU.mp this;exact⟨pn,a,b⟩
  have an:=S7.lst pn wU;have vn:=fY ps n1 pn wU;rw [xX] at vn;have hg:cm H7 d (.str ru.1) (some (.ref pn.2)):=by
   have:=cm.k (k:=Sum.inr ru.1) S7.hd;rw [vn] at this;exact this
  have ln:=wC aa pn.1 i;refine⟨t,_,rfl,IP,rfl,_,_,rfl,_,_,rfl,rfl,?_⟩;refine⟨_,rfl,_,rfl,r,_,_,_,rfl,rfl,s7.tup v1,rfl,d,_,rfl,hg,.inl ⟨rfl,_,aG.of an⟩,_,rfl,pn.2,_,_,rfl,rfl,an,bQ (by rw [aB];omega),?_⟩;have S8:=S7.more wU (i:Int);refine⟨_,_,rfl,λb o hb=>by rw [ai (λz=>by rw [z,MZ pn wU] at hb;cases hb)];exact s7 b o hb,S8.hd,S8.n1,S8.n2,λp' oo=>?_⟩;have:=S8.lst p' oo;rw [this]
  congr 3
  unfold Ba;rw [BQ];by_cases c:p'.1=pn.1
  .rw [az c,az];unfold MD;rw [qZ,c,xX];simp
  rw [aA c,aA,fV];unfold MD;rw [qZ];intro z;have z2:=d6 z;injection z2 with z3;exact c (by rw [xX];exact z3.symm)
 rintro σ H6 ⟨y2,y3,rfl,s6,S6⟩;rw [aB,ll] at S6;exact⟨_,rfl,q d ps H6 vN s6 S6 m4 MZ⟩
def Ij (K:aV):Sp:=λvs H Q _=>∃(R:Addr)(rs:List Addr)(aa:List ay),vs=[.ref R]/\aG K H R (rs.map V.ref)/\bJ K H rs aa/\aa.length<=1000/\(∀ru∈aa,ru.2.length<=8) /\
 ∀(d:Addr)(H':Hp),H d=none->aC H H'->Q (.ref d) H'
structure CO (H0 H:Hp)(d:Addr)(kvs:List (aJ×V)) (n:Nat):Prop where
 hd:H d=some (.dK kvs)
 ln:kvs.length<=n
 lst:∀kv∈kvs,∃a xs,kv.2=.ref a/\H a=some (.lst xs)/\H0 a=none/\xs.length<=n
def CO.same {H0 H H':Hp}{d:Addr}{kvs:List (aJ×V)}{n:Nat}(h:CO H0 H d kvs n)(s:aC H H'):CO H0 H' d kvs n:=⟨s _ _ h.hd,h.ln,λkv hk=>let ⟨a,xs,e1,e2,e3,e4⟩:=h.lst kv hk;⟨a,xs,e1,s _ _ e2,e3,e4⟩⟩
def CO.more {H0 H:Hp}{d a:Addr}{kvs:List (aJ×V)}{n:Nat}{xs:List V}{y:V}(h:CO H0 H d kvs (n+1))(ha:H a=some (.lst xs))(lx:xs.length<=n)(l2:∀kv∈kvs,∃a xs,kv.2=.ref a/\H a=some (.lst xs)/\H0 a=none/\xs.length<=n):CO H0 (upd H a (.lst (xs++[y]))) d kvs (n+1):=by
 have nd:d≠a:=λz=>by have:=h.hd;rw [z,ha] at this;cases this
 refine⟨by rw [ai nd];exact h.hd,h.ln,λkv hk=>?_⟩;obtain⟨b,ys,e1,e2,e3,e4⟩:=l2 kv hk;by_cases c:b=a
 .exact⟨b,xs++[y],e1,by rw [c,ae],e3,by rw [b9];simp;omega⟩
 exact⟨b,ys,e1,by rw [ai c];exact e2,e3,∅⟩
def Jw {kvs:List (aJ×V)}{k:aJ}{v:V}(h:a_ kvs k=some v):∃kv∈kvs,kv.2=v:=by
 unfold a_ at h;obtain⟨kv,e1,e2⟩:=cf.mp h;exact⟨kv,List.mem_of_find?_eq_some e1,e2⟩
def sH:aH ["rules","standings","number","rule","place","part"] ["rules"] (av JS):=iw rfl rfl rfl rfl nofun
def Ku (F:gX K "standings_by_part" "standings_by_part" JS f fd)(T:Txt mg):ba P w K mg base fc 1 f fd ["rules"] (Ij K):=by
 refine F.ok sH (λvs H Q E h=>?_) (λdw A outer s H vs Q E hr h=>?_)
 .obtain⟨R,rs,aa,rfl,_⟩:=h;rfl
 obtain⟨R,rs,aa,rfl,hR,cS,a8,h8,q⟩:=h;have hu:=fX hr;refine⟨_,aj (aF (i:=1) sH.nd rfl (bM rfl) gA)
  (aj (b_ cD rfl (mD rfl T.HE (af (pv 0) ak)) (eZ rfl (aE (aw (i:=2) sH.nd rfl (bM rfl)) (aE (aw (i:=3) sH.nd rfl (bM rfl)) cu)))
   (ao (b_ cD rfl (mz rfl T.HE (af (aP bL (pv 3) aq (λ_ _=>rfl)) ak)) (eZ rfl (aE (aw (i:=4) sH.nd rfl (bM rfl)) (aE (aw (i:=5) sH.nd rfl (bM rfl)) cu)))
    (ao (cP (iK jf jw jx cT (DO (pv 1) (pv 5) (cK ak) ⟨rfl,rfl,rfl,rfl⟩) (af (cJ (af (pv 2) (af (pv 4) ak))) ak)))))))
  (ao (bu (pv 1)))),?_⟩
 nofun
 have ll:=bF cS;intro d pb;have s1:=ah pb (.dK []);have S1:CO H (upd H d (.dK [])) d [] (8 * 0):=⟨ae,aI _,λkv hk=>by cases hk⟩;generalize upd H d (.dK [])=H1 at s1 S1;refine⟨_,rfl,R,_,rfl,s1.seq hR,?_⟩
 let zX:rP:=λi σ H6=>∃(kvs:List (aJ×V))(y2 y3 y4 y5:Option V),σ=[br R,br d,y2,y3,y4,y5]/\aC H H6/\CO H H6 d kvs (8 * i)
 refine jQ (xs:=rs.map V.ref) zX ⟨[],none,none,none,none,rfl,s1,S1⟩ ?_ ?_ ?_
 .rintro i σ H6 _ ⟨kvs,y2,y3,y4,y5,rfl,s6,_⟩;exact s6.seq hR
 .rintro i x σ H6 t ex ⟨kvs,y2,y3,y4,y5,rfl,s6,S6⟩ ht
  ac_nf0
  rw [aZ] at ex;obtain⟨r,er,rfl⟩:=cf.mp ex;obtain⟨ru,qZ,p,v1,v2⟩:=cS.get er;have oq:=cb qZ;have MV:=h8 ru oq;have li:=(bo.mp qZ).1;have Bt:=ah ht (.tup [.int (i:Int),.ref r]);have IP:a9 K (upd H6 t (.tup [.int (i:Int),.ref r])) t [.int (i:Int),.ref r]:=a9.of ae;have s7:=s6.trans Bt;have S7:=S6.same Bt;generalize upd H6 t (.tup [.int (i:Int),.ref r])=H7 at IP s7 S7;refine⟨t,_,rfl,IP,rfl,_,_,rfl,_,_,rfl,rfl,?_⟩;refine⟨_,rfl,r,_,_,_,rfl,rfl,s7.tup v1,rfl,p,_,rfl,s7.tup v2,?_⟩
  let Qn:rP:=λj σ H9=>∃(kvs:List (aJ×V))(y4 y5:Option V),σ=[br R,br d,some (.int (i:Int)),br r,y4,y5]/\aC H H9/\CO H H9 d kvs (8 * i+j)
  refine ot (xs:=ru.2.map V.str) Qn ⟨kvs,_,_,rfl,s7,S7⟩ ?_ ?_ ?_
  .rintro j σ H9 _ ⟨kvs,y4,y5,rfl,s9,_⟩;exact s9.tup v2
  .rintro j x σ H9 t2 AZ ⟨kvs,y4,y5,rfl,s9,S9⟩ jk
   ac_nf0
   rw [aZ] at AZ;obtain⟨z,ez,rfl⟩:=cf.mp AZ;have lj:=(bo.mp ez).1;have wj:=ah jk (.tup [.int (j:Int),.str z]);have EC:a9 K (upd H9 t2 (.tup [.int (j:Int),.str z])) t2 [.int (j:Int),.str z]:=a9.of ae;have mr:=s9.trans wj;have Jk:=S9.same wj;generalize upd H9 t2 (.tup [.int (j:Int),.str z])=vP at EC mr Jk;refine⟨t2,_,rfl,EC,rfl,_,_,rfl,_,_,rfl,rfl,?_⟩;have lk:=Jk.ln;refine⟨_,rfl,d,rfl,.inl ⟨kvs,.inl Jk.hd⟩,_,rfl,xM,λl hl=>?_⟩;have Gs:=ah hl (.lst []);have F4:upd vP l (.lst []) l=some (.lst []):=ae;have fl:H l=none:=mr.free hl;have CQ:=Jk.same Gs;have sA:=mr.trans Gs;generalize upd vP l (.lst [])=Bg at Gs F4 CQ sA;have fin:∀(a:Addr)(xs:List V)(k_:List (aJ×V))(xG:Hp),xG a=some (.lst xs)->H a=none->xs.length<=8 * i+j->CO H xG d k_ (8 * i+j+1)->(∀kv∈k_,∃a xs,kv.2=.ref a/\xG a=some (.lst xs)/\H a=none/\xs.length<=8 * i+j)->aC H xG ->
     ∀t4,xG t4=none->xs.length < sizeLine/\∃(kvs:List (aJ×V))(y4 y5:Option V),[some (V.ref R),br d,some (.int (i:Int)),br r,some (.int (j:Int)),some (.str z)]=[br R,br d,some (.int (i:Int)),br r,y4,y5]/\aC H (upd (upd xG t4 (.tup [.int (i:Int),.int (j:Int)])) a (.lst (xs++[.ref t4])))/\CO H (upd (upd xG t4 (.tup [.int (i:Int),.int (j:Int)])) a (.lst (xs++[.ref t4]))) d kvs (8 * i+(j+1)) :=
    λa xs k_ xG ea fa lx F6 Ox Iu t4 zt=>by
     have yG:=ah zt (.tup [.int (i:Int),.int (j:Int)]);refine⟨bQ ∅,k_,_,_,rfl,λb o hb=>by rw [ai (λz=>by rw [z,fa] at hb;cases hb)];exact yG _ _ (Iu b o hb),?_⟩;exact(F6.same yG).more (yG _ _ ea) lx λkv hk=>let ⟨b,ys,e1,e2,e3,e4⟩:=Ox kv hk;⟨b,ys,e1,yG _ _ e2,e3,e4⟩
   refine⟨kvs,Sum.inr z,CQ.hd,rfl,bQ ∅,λv hv=>?_,λhn=>?_⟩
   .obtain⟨kv,hk,ek⟩:=Jw hv;obtain⟨a,xs,e1,e2,e3,e4⟩:=CQ.lst kv hk;rw [e1] at ek;subst ek;refine⟨.inl ⟨rfl,_,aG.of e2⟩,_,rfl,_,rfl,qf,λt4 zt=>?_⟩;obtain⟨g1,g2⟩:=fin a xs kvs Bg e2 e3 e4 ⟨CQ.hd,∅,λkv hk=>let ⟨b,ys,e1,e2,e3,e4⟩:=CQ.lst kv hk;⟨b,ys,e1,e2,e3,∅⟩⟩ CQ.lst sA t4 zt;exact⟨a,_,_,rfl,rfl,ah zt _ _ _ e2,g1,g2⟩
   have nd:d≠l:=λz=>by have:=CQ.hd;rw [z,F4] at this;cases this
   have I8:upd Bg d (.dK (bC kvs (Sum.inr z) (.ref l))) l=some (.lst []):=by rw [ai nd.symm];exact F4
   have vN:H d=none:=pb;have Iu:aC H (upd Bg d (.dK (bC kvs (Sum.inr z) (.ref l)))):=λb o hb=>by rw [ai (λz=>by rw [z,vN] at hb;cases hb)];exact sA b o hb
   have Ox:∀kv∈bC kvs (Sum.inr z) (.ref l),∃a xs,kv.2=.ref a/\upd Bg d (.dK (bC kvs (Sum.inr z) (.ref l))) a=some (.lst xs)/\H a=none/\xs.length<=8 * i+j:=λkv hk=>by
    rw [wq _ hn] at hk;rcases bq.mp hk with h | h
    .obtain⟨b,ys,e1,e2,e3,e4⟩:=CQ.lst kv h;exact⟨b,ys,e1,by rw [ai (λz=>by rw [z,CQ.hd] at e2;cases e2)];exact e2,e3,e4⟩
    rw [bE.mp h];exact⟨l,[],rfl,I8,fl,by simp⟩
   have lp:=eG kvs (Sum.inr z:aJ) (.ref l);have F6:CO H (upd Bg d (.dK (bC kvs (Sum.inr z) (.ref l)))) d (bC kvs (Sum.inr z) (.ref l)) (8 * i+j+1):=⟨ae,∅,λkv hk=>let ⟨b,ys,e1,e2,e3,e4⟩:=Ox kv hk;⟨b,ys,e1,e2,e3,∅⟩⟩;generalize upd Bg d (.dK (bC kvs (Sum.inr z) (.ref l)))=xG at I8 Iu Ox F6;refine⟨.inl ⟨rfl,_,aG.of I8⟩,_,rfl,_,rfl,qf,λt4 zt=>?_⟩;obtain⟨g1,g2⟩:=fin l [] _ xG I8 fl (by simp) F6 Ox Iu t4 zt;exact⟨l,_,_,rfl,rfl,ah zt _ _ _ I8,g1,g2⟩
  rintro σ H9 ⟨kvs,y4,y5,rfl,s9,S9⟩;rw [aB] at S9;refine⟨kvs,_,_,_,_,rfl,s9,S9.hd,by have:=S9.ln;omega,λkv hk=>let ⟨b,ys,e1,e2,e3,e4⟩:=S9.lst kv hk;⟨b,ys,e1,e2,e3,∅⟩⟩
 rintro σ H6 ⟨kvs,y2,y3,y4,y5,rfl,s6,S6⟩;exact⟨_,rfl,q d H6 pb s6⟩
end
end eX
namespace L2
open PySem PySem.Spec PyProof.Rows
def Bp (z:Str)(lo hi:Option Int):Str:=if ((slicePicked z (lo.map λi=>(i,0)) (hi.map λi=>(i,0)) none).length == z.length)=true then z else ⟨((slicePicked z (lo.map λi=>(i,0)) (hi.map λi=>(i,0)) none).filterMap (z.cps[·]?)).toArray⟩
def Dj (z:Str)(lo hi:Option Int):(Bp z lo hi).length<=z.length:=by
 unfold Bp
 split
 .exact aI _
 show (List.toArray _).size<=_;rw [bO];exact cC (List.length_filterMap_le _ _) (show (slicePicked z _ _ none).length<=z.length from by unfold slicePicked;exact sliceIndices_le _ _ _)
def Sj:V->Option Int->Option Int->Hp->VK->Prop:=λx lo hi H Q=>∃z:Str,x=.str z/\z.length<=sizeLine/\Q (.str (Bp z lo hi)) H
def pH {X:Cx}{ag:List (Addr×Obj)}{s:Shared}{σ:St}{H:Hp}{Q:VK}{z:Str}{t:Tok}(I:Inv X ag σ H s)(hz:z.length<=sizeLine)(l u:Option (Int×Tok))(q:Q (.str (Bp z (l.map (·.1)) (u.map (·.1)))) H) :
  (sliceMade z t l u none).post (EP X ag σ Q) s:=by
 have e:slicePicked z ((l.map (·.1)).map λi=>(i,(0:Tok))) ((u.map (·.1)).map λi=>(i,(0:Tok))) none=slicePicked z l u none:=by
  cases l <;> cases u <;> rfl
 unfold Bp at q;rw [e] at q;unfold sliceMade;by_cases c:((slicePicked z l u none).length == z.length)=true
 .rw [az c] at q;rw [az (by rw [c];rfl)];exact⟨.str z,H,I,⟨_,rfl⟩,q⟩
 rw [aA c] at q;rw [aA (by rw [pS.mpr c];decide)];have le:((slicePicked z l u none).filterMap (z.cps[·]?)).length<=z.length:=cC (List.length_filterMap_le _ _) (show (slicePicked z l u none).length<=z.length from by unfold slicePicked;exact sliceIndices_le _ _ _);refine⟨?_,.str _,H,I.tok _,⟨_,rfl⟩,q⟩;show (List.toArray _).size<=sizeLine;rw [bO];exact cC le hz
def Av {X:Cx}:HV X Sj:=by
 intro ag s σ H x v vl vu lo hi sl Q I rx hs pl pu h;obtain⟨z,rfl,hz,q⟩:=h;obtain⟨t,rfl⟩:=rx;refine⟨"str",_,F.slot_str_getitem.lookup,typeIs_str s z t,?_⟩;cases pl with
 | none =>
  cases pu with
  | none=>exact uw (l:=none) (u:=none) (st:=none) hs rfl (pH I hz none none q)
  | int j tu=>exact uw (l:=none) (u:=some (j,tu)) (st:=none) hs rfl (pH I hz none (some (j,tu)) q)
 | int i ti =>
  cases pu with
  | none=>exact uw (l:=some (i,ti)) (u:=none) (st:=none) hs rfl (pH I hz (some (i,ti)) none q)
  | int j tu=>exact uw (l:=some (i,ti)) (u:=some (j,tu)) (st:=none) hs rfl (pH I hz (some (i,ti)) (some (j,tu)) q)
def Gx:V->List V->Hp->VK->Prop:=λx vs H Q=>∃l xs i y,x=.ref l/\vs=[.int ((i:Nat):Int),y]/\H l=some (.lst xs)/\i<=xs.length/\xs.length < 1000000/\Q .dI (upd H l (.lst (xs.take i++y::xs.drop i)))
def BV {X:Cx}:RA X "list.insert" Gx:=by
 intro ag s σ H x vs v us Q I rx rv h;obtain⟨l,xs,i,y,rfl,rfl,hH,hi,hz,q⟩:=h;cases rx;obtain⟨x,hx⟩:∃x:Int,x=((i:Nat):Int):=⟨_,rfl⟩;rw [<-hx] at rv;obtain⟨u1,u2,rfl,r1,r2⟩:=vals2 rv;obtain⟨t,rfl⟩:=r1;obtain⟨z,aO,n,r,hl,e⟩:=I.B0 hH;have ln:=r.length;have h0:Builtin.List.listFitsIndex x=true:=by
  unfold Builtin.List.listFitsIndex;rw [jt,decide_eq_true_iff,decide_eq_true_iff];omega
 have h1:¬(!Builtin.List.listFitsIndex x)=true:=by rw [h0];exact cW
 have hsz:aO.toArray.size<=sizeLine:=by rw [bO,<-ln];exact z
 refine call_meets F.slot_list_insert ⟨_,e,rfl⟩ F.entry_list_insert (F.args_list_insert_3 _ _ _) (AutoListH.list_insert_list_int_val_1 l aO.toArray n x t u2 h1 hsz) ⟨e,?_⟩;refine⟨.dI,_,I.KG (lh:=aO.take i++u2::aO.drop i) hH e ?_ (aS.append (aS.take i r) (.cons r2 (aS.drop i r))) ?_,rfl,q⟩
 .have k0:(if x < 0 then (x+((aO.toArray.size:Nat):Int)).toNat else min x.toNat aO.toArray.size)=i:=by
   rw [aA ∅,hx,iD,bO];omega
  show ((aO.toArray.extract 0 (if x < 0 then (x+((aO.toArray.size:Nat):Int)).toNat else min x.toNat aO.toArray.size)).push u2++aO.toArray.extract (if x < 0 then (x+((aO.toArray.size:Nat):Int)).toNat else min x.toNat aO.toArray.size))=_;rw [k0];apply Array.ext';simp;exact sk (by simp)
 rw [b9,dC,c_,jd];exact fits ∅
open PySem
def tQ {X:Cx}(K:aV)(hK:X.K=K:=by rfl):fA X (.builtin "len") (λxs H Q=>Ft xs (λp ys=>aG K H p ys\/a9 K H p ys) λys=>Q (.int ys.length) H):=by
 subst hK;exact aQ
def kW {X:Cx}(K:aV)(hK:X.K=K:=by rfl):j9 X (compareOp .In) (Sm K false):=by
 subst hK;exact sQ
def BA {X:Cx}(hu:X.A.units < cLine):j9 X (compareOp .NotEq) (λx y H Q=>∃a b xs,x=.ref a/\y=.ref b/\aG X.K H a xs/\aG X.K H b []/\Q (.bl (!xs.isEmpty)) H):=by
 intro ag s σ H x y v u Q I rx ry h;obtain⟨a,b,xs,rfl,rfl,ha,hb,q⟩:=h;cases rx;cases ry;obtain⟨aO,r,pl,hz⟩:=I.list ha;obtain⟨ja,r2,GK,hz2⟩:=I.list hb;have e2:ja=[]:=aS.zero r2;subst e2;have a8:=r.length;cases xs with
 | nil =>
  have e:aO=[]:=aS.zero r;subst e;exact SeqAt.RcNeAt.lists (e:=λ_=>true) pl.isList GK.isList rfl hu (λj h1 _=>absurd h1 (by simp)) X.prog X.w X.xe _ ⟨.bl false,H,I,rfl,q⟩
 | cons y ys =>
  refine SeqAt.RcNeAt.lists_lengths pl.isList GK.isList ?_ hu X.prog X.w X.xe _ ⟨.bl true,H,I,rfl,q⟩;rw [bO,bO,<-a8];simp
def Wj (K:aV)(H:Hp):Nat->V->V->Prop
 | 0,x,y=>x=y/\zU x
 | n+1,x,y=>(x=y/\zU x)\/∃a b xs ys,x=.ref a/\y=.ref b/\((aG K H a xs/\aG K H b ys)\/(a9 K H a xs/\a9 K H b ys))/\Paired (Wj K H n) xs ys
def Wj.self {K:aV}{H:Hp}{x:V}(h:zU x):∀n,Wj K H n x x
 | 0=>⟨rfl,h⟩
 | _+1=>.inl ⟨rfl,h⟩
section
variable {prog:Program}{w:World}{A:Around}{E:Value->Shared->Prop}{s:Shared}
abbrev Fz (h:Heap)(z:Addr)(f0 f1:Value)(TI TO:Addr):Prop:=h.get? z=some { cls:=.type "zip",data:=.fields #[f0,f1,.bool false,.ref TI,.ref TO] }
end
structure V5 (h:Heap)(z TI TO i1 i2 l1 l2:Addr)(xs ys:Array Value) (i:Nat):Prop where
 hz:∃f0 f1,Fz h z f0 f1 TI TO/\(f0=.none\/∃T:Nat,f0=rawInt T)
 hI:IsPair h TI (.ref i1) (.ref i2)
 hO:∃a b,IsPair h TO a b
 h1:h.IsTupleIter i1 l1 i
 h2:h.IsTupleIter i2 l2 i
 t1:h.IsTuple l1 xs
 t2:h.IsTuple l2 ys
def vV {h h':Heap}{l:Addr}{xs:Array Value}(t:h.IsTuple l xs)(k:∀o,h.get? l=some o->h'.get? l=some o):h'.IsTuple l xs:=by
 obtain⟨o,a,b,c⟩:=t;exact⟨o,k o a,b,c⟩
def t_ (h:Heap) (N:Nat)(xs ys bA:Array Value):Prop:=∃Ts:List Nat,bA.toList=Ts.map Value.ref/\Ts.Pairwise (· < ·)/\∀(j T:Nat),Ts[j]?=some T->N<=T/\∃x y:Value,IsPair h T x y/\xs[j]?=some x/\ys[j]?=some y
def t_.keep {h h':Heap}{N:Nat}{xs ys bA:Array Value}(a:t_ h N xs ys bA)(k:∀(T:Nat) o,N<=T->h.get? T=some o->h'.get? T=some o):t_ h' N xs ys bA:=by
 obtain⟨Ts,e1,e2,e3⟩:=a;refine⟨Ts,e1,e2,λj T hj=>?_⟩;obtain⟨l,x,y,p,q⟩:=e3 j T hj;exact⟨l,x,y,k T _ l p,q⟩
def t_.more {h:Heap}{N T0:Nat}{xs ys bA:Array Value}{x y:Value}(a:t_ h N xs ys bA)(lt:∀(Ts:List Nat),bA.toList=Ts.map Value.ref->∀T∈Ts,T < T0)(hN:N<=T0)(p:IsPair h T0 x y)(hx:xs[bA.size]?=some x)(hy:ys[bA.size]?=some y):t_ h N xs ys (bA.push (.ref T0)):=by
 obtain⟨Ts,e1,e2,e3⟩:=a;have el:Ts.length=bA.size:=by
  have:=congrArg List.length e1;rw [aB] at this;rw [<-this];simp
 refine⟨Ts++[T0],by rw [Array.toList_push,e1,bI];rfl,List.pairwise_append.mpr ⟨e2,by simp,λT hT b hb=>by rw [bE.mp hb];exact lt Ts e1 T hT⟩,λj T hj=>?_⟩;by_cases c:j < Ts.length
 .rw [jh c] at hj;exact e3 j T hj
 rw [oF ∅] at hj;have c2:j - Ts.length=0:=by
  have:=(bo.mp hj).1;simp at this;omega
 rw [c2] at hj;cases hj;have:j=bA.size:=by omega
 rw [this];exact⟨hN,x,y,p,hx,hy⟩
def V5.keep {h h':Heap}{z TI TO i1 i2 l1 l2:Addr}{xs ys:Array Value}{i:Nat}(st:V5 h z TI TO i1 i2 l1 l2 xs ys i)(k:∀b o,h.get? b=some o->h'.get? b=some o):V5 h' z TI TO i1 i2 l1 l2 xs ys i:=by
 obtain⟨⟨f0,f1,a,b⟩,hI,⟨c,d,hO⟩,h1,h2,t1,t2⟩:=st;exact⟨⟨f0,f1,k _ _ a,b⟩,k _ _ hI,⟨c,d,k _ _ hO⟩,h1.at λo q=>k _ _ q,h2.at λo q=>k _ _ q,vV t1 λo q=>k _ _ q,vV t2 λo q=>k _ _ q⟩
end L2
namespace HT
open PySem PyProof.Rows
section
variable {prog:Program}{w:World}{A:Around}{E:Value->Shared->Prop}{s:Shared}
end
end HT
namespace L2
open PySem PySem.Spec PyProof.Rows
open PySem
section
variable {prog:Program}{w:World}{A:Around}{E:Value->Shared->Prop}{s:Shared}
end
structure ZTn (h:Heap)(z TI TO i1 i2 l1 l2:Addr) (i:Nat):Prop where
 hz:∃f0 f1,Fz h z f0 f1 TI TO/\(f0=.none\/∃T:Nat,f0=rawInt T)
 hI:IsPair h TI (.ref i1) (.ref i2)
 hO:∃a b,IsPair h TO a b
 h1:h.IsTupleIter i1 l1 i
 h2:h.IsTupleIter i2 l2 i
end L2
namespace HT
open PySem PySem.Spec PyProof.Rows
section
variable {prog:Program}{w:World}{A:Around}{E:Value->Shared->Prop}{s:Shared}
def mX {t sl:Addr}{items:Array Value}{vl vu:Value}{lo hi:Option Int}{Q:Value->Shared->Prop}(ht:IsTup s.heap t items)(hs:s.heap.IsSliceOf sl vl vu .none)(pl:IsPart vl lo)(pu:IsPart vu hi)
  (hw:dA items.size 0 lo=0/\dA items.size items.size hi=items.size)(h:Q (.ref t) s):wpAny (model prog w) A (getItem (.ref t) (.ref sl)) Q E s:=by
 obtain⟨os,K8,Hs,O_⟩:=id hs;have UQ:s.TypeIs (.ref sl) "slice" := ⟨os,K8,Hs⟩;unfold getItem
 try with_reducible refine fK ?_
 first | refine ax (aD ?_) | skip
 refine ax (wpAny_sequenceKey ht.typeIs nofun ?_);refine ax (sj (name:=Str.ofString "__getitem__") ht.typeIs sq
  (nK sq ht.typeIs entry_tuple_getitem ?_ (args_tuple_getitem _ _)))
 show wpAny _ _ (Builtin.Tuple.tupleItemsOf (.ref t) >>= _) _ _ s;refine ax (tupleItemsOf_ ht ?_);refine ax (ik UQ ?_);rw [az nofun];refine ax (iH hs pl pu ?_);have TZ:(((dA items.size 0 lo:Nat):Int) == 0 && (1:Int) == 1 && (dA items.size items.size hi - dA items.size 0 lo) == items.size)=true:=by
  rw [hw.1,hw.2];simp
 show wpAny _ _ (if (((dA items.size 0 lo:Nat):Int) == 0 && (1:Int) == 1 && (dA items.size items.size hi - dA items.size 0 lo) == items.size)=true then _ else _) _ _ s;rw [az TZ];refine ax ?_;unfold Builtin.Tuple.tupleIsExact;refine ax (ik ht.typeIs (aD ?_));rw [az nofun];refine ax (wpAny_rule ?_);exact aD ⟨_,rfl,aD h⟩
end
end HT
namespace L2
open PySem PySem.Spec PyProof.Rows
def NZ (K:aV):V->Option Int->Option Int->Hp->VK->Prop:=λx lo hi H Q=>V6 x (a9 K H) λxs=>∀p H',aC H H'->a9 K H' p (gC xs lo hi)->Q (.ref p) H'
def Au {X:Cx}:HV X (NZ X.K):=by
 intro ag s σ H x v vl vu lo hi sl Q I rx hs pl pu h;obtain⟨a,xs,rfl,hx,q⟩:=h;by_cases hw:HT.dA xs.length 0 lo=0/\HT.dA xs.length xs.length hi=xs.length
 .have ec:gC xs lo hi=xs:=by
   unfold gC;rw [hw.1,hw.2,List.drop_zero,Nat.sub_zero,cE]
  cases rx;obtain⟨aO,r,ht,hz⟩:=I.tuple hx;have a8:aO.toArray.size=xs.length:=by rw [bO];exact r.length.symm
  refine⟨"tuple",_,sq.lookup,ht.typeIs,?_⟩;exact HT.mX ht hs pl pu (by rw [a8];exact hw) ⟨.ref a,H,I,rfl,q a H (λ_ _ h=>h) (by rw [ec];exact hx)⟩
 exact JN ag s σ H _ v vl vu lo hi sl Q I rx hs pl pu ⟨a,xs,rfl,hx,hw,λp hp=>q p _ (ah hp _) (a9.of ae)⟩
def N2 (K:aV):R2:=λx y H Q=>Wa (a9 K H) x y λxs ys=>∀p H',aC H H'->a9 K H' p (xs++ys)->Q (.ref p) H'
def G1 {X:Cx}:j9 X (binaryOp .Add) (N2 X.K):=by
 intro ag s σ H x y v u Q I rx ry h;obtain⟨a,b,xs,ys,rfl,rfl,ha,hb,hz,q⟩:=h;by_cases hx:xs=[]
 .cases rx;cases ry;obtain⟨aO,r1,p1,_⟩:=I.tuple ha;obtain⟨ja,r2,p2,_⟩:=I.tuple hb;have e1:aO=[]:=r1.pK.mpr hx;obtain⟨⟨cls,dd,data,sl⟩,ho,hc,n,hd⟩:=id p1;obtain⟨⟨VD,M_,data2,QE⟩,FN,FQ,n2,hd2⟩:=id p2;simp only at hc hd FQ hd2;subst hc hd FQ hd2;exact concat_meets ⟨_,ho,rfl⟩ ⟨_,FN,rfl⟩ noFill_tuple_add seq_tuple_add xZ x8 (x_ _ _)
   (tuple_addW0 a b aO.toArray ja.toArray n n2 dd M_ sl QE (by simp [e1])) ⟨ho,FN,.ref b,H,I,rfl,q b H (λ_ _ h=>h) (by rw [hx];exact hb)⟩
 refine G0 ag s σ H _ _ v u Q I rx ry ⟨a,b,xs,ys,rfl,rfl,ha,hb,hx,hz,λe=>q a H (λ_ _ h=>h) (by rw [e,fV];exact ha),λ_ p hp=>q p _ (ah hp _) (a9.of ae)⟩
theorem lt_trans:∀a b c:List Nat,ltCps b a=false->ltCps c b=false->ltCps c a=false
 | [],b,[],_,_=>ltCps.eq_1
 | [],b,_::_,_,_=>ltCps.eq_3 _ _
 | x::r,[],c,h,_=>by rw [ltCps.eq_2] at h;cases h
 | x::r,y::t,[],_,k=>by rw [ltCps.eq_2] at k;cases k
 | x::r,y::t,z::u,h,k=>by
  rw [ltCps.eq_4,Bool.or_eq_false_iff,decide_eq_false_iff_not] at h k ⊢;refine⟨∅,?_⟩;by_cases e:z=x
  .have e1:y=x:=by omega
   subst e;subst e1;have h2:=h.2;have k2:=k.2;rw [qa,nH] at h2 k2 ⊢;exact lt_trans r t u h2 k2
  rw [jv.mpr e,Bool.false_and]
section
variable {prog:Program}{w:World}{A:Around}{E:Value->Shared->Prop}{s:Shared}
end
open PySem PySem.W PyProof.Rows
section
variable {n:Nat}{lt:Nat->Nat->Bool}{cmp:Nat->Nat->(Bool->Shared->Prop)->Shared->Prop}{s:Shared}
structure HX (n:Nat)(lt:Nat->Nat->Bool):Prop where
 trans:∀a b c,a < n->b < n->c < n->lt b a=false->lt c b=false->lt c a=false
 V3:∀a b,a < n->b < n->lt a b=true->lt b a=false
structure Ni (n:Nat)(p:Array Nat):Prop where
 pm:p.Perm (List.range n).toArray
theorem Ni.size {p:Array Nat}(h:Ni n p):p.size=n:=by
 have:=h.pm.size_eq;simpa using this
def Ni.IM {p:Array Nat}(h:Ni n p){i:Nat}(hi:i < n):p.getD i 0 < n:=by
 have hs:=h.size;have e:p.getD i 0=p[i]'∅:=by simp [Array.getD,hs,hi]
 rw [e];have:p[i]'∅∈(List.range n).toArray:=h.pm.mem_iff.mp (Array.getElem_mem _);simpa using this
abbrev at_ (p:Array Nat) (i:Nat):Nat:=p.getD i 0
def Mb (lt:Nat->Nat->Bool)(p:Array Nat) (k:Nat):Prop:=∀i j,i<=j->j < k->lt (at_ p j) (at_ p i)=false
def Md (lt:Nat->Nat->Bool)(p:Array Nat) (k:Nat):Prop:=∀i j,i<=j->j < k->lt (at_ p i) (at_ p j)=false
def HX.Xe (o:HX n lt){a:Nat}(h:a < n):lt a a=false:=by
 cases e:lt a a with
 | false=>rfl
 | true=>rw [<-o.V3 a a h h e,e]
def Mb.more {p:Array Nat}{m:Nat}(o:HX n lt)(P:Ni n p)(h:Mb lt p m)(hm:1<=m)(hn:m < n)(c:lt (at_ p m) (at_ p (m - 1))=false):Mb lt p (m+1):=by
 intro i j AO hj;by_cases e:j=m
 .subst e;by_cases e2:i=j
  .subst e2;exact o.Xe (P.IM hn)
  exact o.trans _ (at_ p (j - 1)) _ (P.IM ∅) (P.IM ∅) (P.IM hn) (h i (j - 1) ∅ ∅) c
 exact h i j AO ∅
def Md.more {p:Array Nat}{m:Nat}(o:HX n lt)(P:Ni n p)(h:Md lt p m)(hm:1<=m)(hn:m < n)(c:lt (at_ p (m - 1)) (at_ p m)=false):Md lt p (m+1):=by
 intro i j AO hj;by_cases e:j=m
 .subst e;by_cases e2:i=j
  .subst e2;exact o.Xe (P.IM hn)
  exact o.trans _ (at_ p (j - 1)) _ (P.IM hn) (P.IM ∅) (P.IM ∅) c (h i (j - 1) ∅ ∅)
 exact h i j AO ∅
end
def Inv.Ow {X:Cx}{ag:List (Addr×Obj)}{σ:St}{H:Hp}{s:Shared}{h':Heap}{a:Addr}{o:HO}{t':Nat}(I:Inv X ag σ H s)(k:∀b u,b≠X.env.locals->s.heap.get? b=some u->h'.get? b=some u)
  (ns:∀m,s.heap.Ns X.env.locals m->h'.Ns X.env.locals m)(hp:s.heap.get? a=none)(hn:H a=none)(new:bV X.prog X.w (upd H a o) h' a o):Inv X ag σ (upd H a o) { s with heap:=h',toks:=t' }:=by
 have ne:∀b u,s.heap.get? b=some u->b≠a:=λb u q z=>by rw [z,hp] at q;cases q
 refine I.step (g':=s.gens) (d':=s.drawn) (ch:=[]) (λ_ z=>nomatch z) (λb u hb _ _ e _=>k b u hb e) (λb u hb _ _ e _=>⟨u.slots,k b u hb e⟩) (λb u _ e n=>by rw [ai (ne b u e)];exact n)
  (λb u _ e=>?_) (λb xs q=>by rw [ai (au q hn)];exact q) (λb u xs q=>by rw [ai (au q hn)];exact q) (λb ps q=>⟨#[],by rw [ai (au q hn),q];simp⟩) ns (λb u e=>?_) I.bare
 .by_cases hb:b=X.env.locals
  .obtain⟨m,hm,_⟩:=I.loc;obtain⟨o',_,_,EF,_⟩:=ns m hm;exact⟨o',by rw [hb];exact EF⟩
  exact⟨u,k b u hb e⟩
 by_cases hb:b=a
 .subst hb;rw [ae] at e;cases e;exact new
 rw [ai hb] at e;refine(I.bH b u e).ip (λc v hc q=>k c v ?_ q) (λc q=>by rw [ai (au q hn)];exact q) λc xs q=>by rw [ai (au q hn)];exact q
 rintro rfl;rcases hc with rfl | hc
 .rw [I.free] at e;cases e
 rw [I.free] at hc;cases hc
def DX {P:Program}{w:World}{H:Hp}{h:Heap}{a:Addr}{o:HO}(x:bV P w H h a o):∃u,h.get? a=some u:=by
 cases o with
 | lst xs=>obtain⟨_,_,_,_,e⟩:=x;exact⟨_,e⟩
 | tup xs=>obtain⟨_,_,_,ob,e,_⟩:=x;exact⟨_,e⟩
 | dK kvs=>obtain⟨_,_,_,_,o,_,_,e,_⟩:=x;exact⟨_,e⟩
 | dT kvs=>obtain⟨_,_,_,_,o,_,_,e,_⟩:=x;exact⟨_,e⟩
 | set S n=>obtain⟨o,_,_,_,e,_⟩:=x;exact⟨_,e⟩
 | ins C dx fs=>obtain⟨_,_,_,e,_⟩:=x;exact⟨_,e⟩
 | own y=>obtain⟨_,e⟩:=x;exact⟨_,e⟩
 | xd fs=>obtain⟨_,⟨_,_,_,e,_⟩,_⟩:=x;exact⟨_,e⟩
 | Bu lo hi=>obtain⟨_,_,_,e⟩:=x;exact⟨_,e⟩
 | jo ob u=>obtain⟨e,_⟩:=x;exact⟨_,e⟩
 | rN ps=>exact⟨_,(show h.get? a=some _ from x)⟩
 | met f y=>exact⟨_,(show h.get? a=some _ from x)⟩
 | ext φ=>obtain⟨_,⟨_,e⟩,_⟩:=x;exact⟨_,e⟩
open PySem PySem.Spec PyProof.Rows PySem.W
section
variable {P:Program}{w:World}{A:Around}{E:Value->Shared->Prop}{s:Shared}
def Ey {f c' c d:Addr}{q:Str}{params:Arguments}{scope:Scope}{cl:List (Str×Addr)}{pm fC:Value}{p1 p2 p3:Pos}{xs xh:Str}{vs:List (aJ×Value)}{z:Str}{t:Tok}{u:Value}{oc:Obj}{Q:Value->Shared->Prop}
  (OQ:A.depth < recursionLimit)(nl:s.heap.NoLimit)(hf:s.heap.get? f=some (kla_obj "<lambda>" q params (.Subscript (.Name xs p1) (.Name xh p2) p3) scope cl pm c' fC))(hc:s.heap.CodeRec (.ref c') q)
  (hb:∀us:List Value,us.length=1->bindArgs (kla_fn "<lambda>" q params (.Subscript (.Name xs p1) (.Name xh p2) p3) scope cl pm (.ref c') fC) ⟨us,[]⟩=pure ([xh].zip us))
  (hk:scope.kind=.function)(UI:scope.isCoroutine=false)(Lg:scope.isGenerator=false)(Uo:∀x∈scope.names,x.2≠.cell)(hh:scope.names.lookup xh=some .local)(hs:scope.names.lookup xs=some .free)
  (lK:cl.lookup xs=some c)(ho:s.heap.get? c=some oc)(xR:oc.data=.cell (some (.ref d)))(dd:s.heap.DictOf (aY P w) d vs)(hv:valueAt vs (Sum.inr z)=some u)
  (d1:(xs == ("__debug__":Str))=false)(d2:(xh == ("__debug__":Str))=false)(d3:(xs == ("__classdict__":Str))=false)
  (h:∀h' tk,(∀b o,s.heap.get? b=some o->h'.get? b=some o)->Q u { s with heap:=h',toks:=tk }):wpAny (model P w) A (call (.ref f) [.str z t]) Q E s:=by
 refine hX (kla_callFunE OQ hf rfl UI Lg rfl hc ?_);rw [hb [.str z t] rfl];refine aD (wpAny_newFunctionEnv Uo (λx hx=>?_) (λh₁ kC Xo=>⟨nl.fresh _ Xo,?_⟩) hk)
 .have:x=(xh,Value.str z t):=by simpa using hx
  rw [this];exact hh
 show codeAny _ _ (.expr (.Subscript (.Name xs p1) (.Name xh p2) p3) (envX q scope s.heap.objs.size f (.ref c') cl)) _ _;have k1:∀b o,s.heap.get? b=some o->h₁.get? b=some o:=λb o e=>Xo.extBut b o (bB (aW e)) (bD _ e);refine kla_codeExpr (Ad PySem.F.slot_dict_getitem.lookup (λ_ _=>rfl) ?_);refine wpAny_Name (wpAny_loadName_free hk hs lK ⟨oc,k1 _ _ ho,xR⟩ ?_ d3) d1;refine wpAny_Name (ui hk hh kC (show ([(xh,Value.str z t)]:List (Str×Value)).reverse.lookup xh=some (.str z t) by simp [List.lookup]) ?_) d2;have Yz:h₁.DictOf (aY P w) d vs:=by
  obtain⟨o,es,ep,g,r⟩:=dd;exact⟨o,es,ep,k1 _ _ g,r⟩
 refine⟨Yz.typeIs,wpAny_getItem_of (kA (k:=Sum.inr z) ⟨t,rfl⟩) Yz.mapOf hv ?_⟩;exact h h₁ _ k1
end
section
variable {X:Cx}{params:Arguments}{body:Expr}{scope:Scope}{pos:Pos}{c T:Addr}
abbrev ig (X:Cx)(params:Arguments)(body:Expr)(scope:Scope)(cl:List (Str×Addr))(c':Addr)(fC:Value):Obj:=kla_obj "<lambda>" (X.env.qual ++ "<lambda>") params body scope cl ((X.mg "__name__").getD .none) c' fC
def NC (X:Cx)(params:Arguments)(body:Expr)(scope:Scope)(pos:Pos)(T:Addr):TE:=λσ H Q=>Tab T pos (X.env.qual ++ "<lambda>") H /\
 ∀f c' fC cl H',Ia X.env scope cl->fj T H H'->Tab T pos (X.env.qual ++ "<lambda>") H'->H f=none->H' f=some (og f (ig X params body scope cl c' fC))->H' c'=some (jl c' (X.env.qual ++ "<lambda>"))->Q (.ref f) H'
def GU (qQ:X.env.code=.ref c)(hC:codeHdIn X.K c T=true)(hB:rJ X.mg X.base)(mP:∀y,(y,NameKind.free)∈scope.names->X.env.scope.names.lookup y=some .cell)(EK:defaultsOf params X.env=([],[]):=by rfl):PE X (.Lambda params body scope pos) (NC X params body scope pos T):=by
 intro ag s σ H Q I h;obtain⟨⟨ps,hT,ht,EL⟩,q⟩:=h;refine kla_eval EK ?_;obtain⟨cl,lK⟩:=vB (env:=X.env) (scope:=scope) λy hy=>I.ok.has y (.inl (mP y hy));have Lp:s.heap.get? T=some (tabObj ps):=(show bV X.prog X.w H s.heap T (.rN ps) from I.bH T _ hT);have hg:=I.mod.glob.keeps I.bk;have C:=codeHd_of_K I.jj hC;obtain⟨bm,ob,b1,b2,b3,b4,b5,b6,b7⟩:=hB;have VY:=I.bk _ _ b4;have SX:bm≠T:=λz=>by
  have:=(I.bs _ _ b4).2;rw [z,hT] at this;cases this
 have SQ:mainGlobals≠T:=λz=>by
  obtain⟨o,es,ep,e,d,_⟩:=hg;rw [z,Lp] at e;cases e;cases d
 have Po:s.heap.BuiltinsAt X.mg T:=⟨bm,ob,b1,b2,b3,SX,VY,b5,b6,b7⟩;have FD:∀b v,H b=some v->b < s.heap.objs.size:=λb v e=>I.bH.lt e;rcases EL with OZ | ⟨c',hf,j7⟩
 .refine kla_makeFunction lK.eq I.ok.glob hg qQ C Lp ht OZ SQ Po λc' fC h' tk hx Lh hV ED OK=>?_;have hcr:∃oc,h'.get? c'=some oc:=by
   obtain⟨c2,oc,vs,t,e,xR,_⟩:=ED;cases e;exact⟨oc,xR⟩
  have qO:h'.objs.size > s.heap.objs.size:=pT Lh hV;have keep:∀b o,b≠T->s.heap.get? b=some o->(h'.push (ig X params body scope cl c' fC)).get? b=some o:=λb o n e=>bD _ (hx b o n e)
  let H':Hp:=upd (upd (upd H T (.rN (ps++#[rawInt pos.line,rawInt pos.col,.ref c']))) c' (jl c' (X.env.qual ++ "<lambda>"))) h'.objs.size (og h'.objs.size (ig X params body scope cl c' fC))
  have zi:∀b v,H b=some v->b≠c'/\b≠h'.objs.size:=λb v e=>⟨bB (dQ (FD b v e) Lh),bB (jA (FD b v e) qO)⟩;have SW:c'≠h'.objs.size:=bB hV;have Og:=zi T _ hT;have eT:H' T=some (.rN (ps++#[rawInt pos.line,rawInt pos.col,.ref c'])):=by
   show upd (upd (upd H T _) c' _) h'.objs.size _ T=_;rw [ai Og.2,ai Og.1,ae]
  have ec:H' c'=some (jl c' (X.env.qual ++ "<lambda>")):=by
   show upd (upd (upd H T _) c' _) h'.objs.size _ c'=_;rw [ai SW,ae]
  have ef:H' h'.objs.size=some (og h'.objs.size (ig X params body scope cl c' fC)):=ae;have eo:∀b,b≠T->b≠c'->b≠h'.objs.size->H' b=H b:=λb n1 n2 n3=>by
   show upd (upd (upd H T _) c' _) h'.objs.size _ b=_;rw [ai n3,ai n2,ai n1]
  have sT:fj T H H':=λb o n e=>by rw [eo b n (zi b o e).1 (zi b o e).2];exact e
  have I2:Inv X ag σ H' { s with heap:=h'.push (ig X params body scope cl c' fC),toks:=tk }:=by
   refine I.call (g':=s.gens) (t':=tk) (d':=s.drawn) (ch:=[]) ⟨λb o e n _ _=>keep b o (λz=>by rw [z,hT] at n;cases n) e,λb o e n _ _=>⟨o.slots,keep b o (λz=>by rw [z,hT] at n;cases n) e⟩,λb o e n _=>?_,λb o e _=>?_,λb xs e=>?_,λb o u e=>?_,λb So e=>?_⟩ (λb v e=>?_) I.bare (λb hb=>nomatch hb)
   .have lb:=aW e;rw [eo b (λz=>by rw [z,hT] at n;cases n) (bB (dQ lb Lh)) (bB (jA lb qO))];exact n
   .by_cases z:b=T
    .exact⟨_,by rw [z];exact bD _ OK⟩
    exact⟨o,keep b o z e⟩
   .exact sT b _ (λz=>by rw [z,hT] at e;cases e) e
   .exact sT b _ (λz=>by rw [z,hT] at e;cases e) e
   .by_cases z:b=T
    .subst z;rw [hT] at e;cases e;exact⟨_,eT⟩
    exact⟨#[],by rw [ue];exact sT b _ z e⟩
   by_cases z1:b=h'.objs.size
   .subst z1;rw [ef] at e;cases e;exact pM (cQ _ rfl)
   by_cases z2:b=c'
   .subst z2;rw [ec] at e;cases e;refine xy ?_;obtain⟨c2,oc,vs,t,e',xR,hd,hv⟩:=ED;cases e';exact⟨_,oc,vs,t,rfl,bD _ xR,hd,hv⟩
   by_cases z3:b=T
   .subst z3;rw [eT] at e;cases e;exact bD _ OK
   rw [eo b z3 z2 z1] at e;refine(I.bH b v e).ip (λd o Ce e'=>?_) (λd e'=>sT d _ (λz=>by rw [z,hT] at e';cases e') e') λd ys e'=>sT d _ (λz=>by rw [z,hT] at e';cases e') e';rcases Ce with rfl | Ce
   .exact keep d o z3 e'
   exact keep d o (λz=>by rw [z,hT] at Ce;cases Ce) e'
  have fresh:H h'.objs.size=none:=I.bH.fresh (jz qO);exact⟨.ref h'.objs.size,H',I2,rfl,q _ c' fC cl H' lK sT ⟨_,eT,by rw [uk];exact iZ _ ht,.inr ⟨c',by rw [uk];exact codeAmong_snoc _ ht OZ,ec⟩⟩ fresh ef ec⟩
 refine kla_makeFunctionHit lK.eq I.ok.glob hg qQ C Lp ht hf Po λfC h' tk hk hsz=>?_;have keep:∀b o,s.heap.get? b=some o->(h'.push (ig X params body scope cl c' fC)).get? b=some o:=λb o e=>bD _ (hk b o e);have fresh:H h'.objs.size=none:=I.bH.fresh hsz;refine⟨.ref h'.objs.size,_,I.laid (a:=h'.objs.size) (o:=og h'.objs.size (ig X params body scope cl c' fC)) (t':=tk) keep hsz (pM (cQ _ rfl)),rfl,?_⟩;refine q _ c' fC cl _ lK (λb o _ e=>by rw [ai (au e fresh)];exact e) ⟨ps,by rw [ai (au hT fresh)];exact hT,ht,.inr ⟨c',hf,by rw [ai (au j7 fresh)];exact j7⟩⟩ fresh ae (by rw [ai (au j7 fresh)];exact j7)
end
theorem Af:∀{zs:List Str}{aO:List Value},aS (zs.map V.str) aO->∀(i:Nat)(v:Value),aO[i]?=some v->∃z t,zs[i]?=some z/\v=.str z t
 | [],[],_,i,v,h=>by simp at h
 | z::r,u::aO,h,i,v,hi=>by
  cases h with
  | cons a b =>
   cases i with
   | zero =>
    cases hi;obtain⟨t,e⟩:=(show ∃t,u=Value.str z t from a);exact⟨z,t,rfl,e⟩
   | succ i=>exact Af b i v hi
theorem sC:∀(ps:List (Str×Tok)),aS ((ps.map (·.1)).map V.str) (ps.map λp=>Value.str p.1 p.2)
 | []=>.nil
 | p::r=>.cons ⟨p.2,rfl⟩ (sC r)
theorem sD:∀{zs:List Str}{aO:List Value},aS (zs.map V.str) aO->∃ps:List (Str×Tok),ps.map (·.1)=zs/\aO=ps.map λp=>Value.str p.1 p.2
 | [],[],_=>⟨[],rfl,rfl⟩
 | z::r,u::aO,h=>by
  cases h with
  | cons a b =>
   obtain⟨t,e⟩:=(show ∃t,u=Value.str z t from a);obtain⟨ps,e1,e2⟩:=sD b;exact⟨(z,t)::ps,by rw [bG,e1],by rw [bG,e2,e]⟩
def yO {α β:Type}{f:α->β}{l m:List β}(h:l.Perm m):∀ps:List α,m=ps.map f->∃qs:List α,l=qs.map f/\qs.Perm ps:=by
 induction h with
 | nil =>
  intro ps e;cases ps with
  | nil=>exact⟨[],rfl,.nil⟩
  | cons p r=>cases e
 | cons x h ih =>
  intro ps e;cases ps with
  | nil=>cases e
  | cons p r =>
   rw [bG] at e;injection e with e1 e2;obtain⟨qs,a,b⟩:=ih r e2;exact⟨p::qs,by rw [bG,a,e1],b.cons p⟩
 | swap x y l =>
  intro ps e
  match ps,e with
  | [],e=>cases e
  | [_],e=>cases e
  | p::p2::r,e =>
   rw [bG,bG] at e;injection e with e1 e2;injection e2 with e3 e4;exact⟨p2::p::r,by rw [bG,bG,e1,e3,e4],.swap p p2 r⟩
 | trans h1 h2 i1 i2 =>
  intro ps e;obtain⟨qs,a,b⟩:=i2 ps e;obtain⟨rs,c,d⟩:=i1 qs a;exact⟨rs,c,d.trans b⟩
def DS {g:Str->Int}{ps:List (Str×Tok)}{out:List Value}(h:KskOut false ((ps.map (·.1)).map g) (ps.map λp=>Value.str p.1 p.2) out) :
  ∃qs:List (Str×Tok),out=qs.map (λp=>Value.str p.1 p.2)/\(qs.map (·.1)).Perm (ps.map (·.1))/\(qs.map (·.1)).Pairwise λx y=>g x<=g y:=by
 obtain⟨rs,h1,h2,h3⟩:=h;have ez:((ps.map (·.1)).map g).zip (ps.map λp=>Value.str p.1 p.2)=ps.map λp=>(g p.1,Value.str p.1 p.2):=by
  rw [iz,List.zip_map,List.zip_eq_zipWith]
  induction ps with
  | nil=>rfl
  | cons p r ih=>simp_all
 rw [ez] at h1;obtain⟨qs,q1,q2⟩:∃qs:List (Str×Tok),rs=qs.map (λp=>(g p.1,Value.str p.1 p.2))/\qs.Perm ps:=by
  exact yO h1 ps rfl
 subst q1;refine⟨qs,by rw [h2,iz];rfl,q2.map _,?_⟩;rw [List.pairwise_map] at h3 ⊢;exact h3.imp λh=>by simpa using h
section
variable {X:Cx}{i:Nat}{xs xh:Str}{params:Arguments}{scope:Scope}{p pos zj kp p1 p2 p3:Pos}{e:Expr}{ta:TA}{c T:Addr}{k:Nat}
abbrev A9 (xs xh:Str)(p1 p2 p3:Pos):Expr:=.Subscript (.Name xs p1) (.Name xh p2) p3
def JD (X:Cx) (i:Nat)(zj:Pos)(T:Addr)(ta:TA):TE:=λσ H Q=>ta σ H λvs H1=>Tab T zj (X.env.qual ++ "<lambda>") H1/\∃(a:Addr) (zs:List Str)(d:Addr)(kvs:List (aJ×V))(g:Str->Int),vs=[.ref a]/\aG X.K H1 a (zs.map V.str)/\zs.length < 64/\σ[i]?=some (some (.ref d))/\Rd H1 d (.dK kvs) /\
 (∀z∈zs,a_ kvs (Sum.inr z)=some (.int (g z)))/\∀(l:Addr) (Jp:List Str)(H':Hp),fj T H1 H'->Tab T zj (X.env.qual ++ "<lambda>") H'->H1 l=none->Jp.Perm zs->Jp.Pairwise (λx y=>g x<=g y)->H' l=some (.lst (Jp.map V.str))->Q (.ref l) H'
def DL (hr:di (k+1) X.A)(qQ:X.env.code=.ref c)(hC:codeHdIn X.K c T=true)(hB:rJ X.mg X.base)(hg:Gl X "sorted")(hm:X.mg "sorted"=none)(ha:PA X [e] ta)
  (hN:X.N[i]?=some xs)(hx:X.env.scope.names.lookup xs=some .cell)(mP:∀y,(y,NameKind.free)∈scope.names->X.env.scope.names.lookup y=some .cell)
  (hb:∀(q:Str)(cl:List (Str×Addr))(pm fC:Value)(c':Addr)(us:List Value),us.length=1->bindArgs (kla_fn "<lambda>" q params (A9 xs xh p1 p2 p3) scope cl pm (.ref c') fC) ⟨us,[]⟩=pure ([xh].zip us))
  (hk:scope.kind=.function)(UI:scope.isCoroutine=false)(Lg:scope.isGenerator=false)(Uo:∀x∈scope.names,x.2≠.cell)(hh:scope.names.lookup xh=some .local)(hs:scope.names.lookup xs=some .free)
  (d1:(xs == ("__debug__":Str))=false:=by decide)(d2:(xh == ("__debug__":Str))=false:=by decide)(d3:(xs == ("__classdict__":Str))=false:=by decide)
  (EK:defaultsOf params X.env=([],[]):=by rfl)
  (he:backTo pos (starEach [e] X.env)=(false,eval e X.env)::backTo pos (starEach [] X.env):=by rfl)(hp:(backTo pos (starEach [e] X.env)).any (·.1)=false:=by rfl) :
  PE X (.Call (.Name "sorted" p) [e] [⟨some "key",.Lambda params (A9 xs xh p1 p2 p3) scope zj,kp⟩] pos) (JD X i zj T ta):=by
 intro ag s σ H Q I h;refine lS (i_ I hg hm boot_sorted ?_);refine callWith_kw (cq (ha pos ag s σ H _ I h) λus s1 aT=>?_) he hp rfl rfl;obtain⟨vs,H1,I1,r1,Hu,a,zs,d,kvs,g,ev,hq,h64,hσ,hd,hv,q1⟩:=aT;subst ev;have low:=GU (X:=X) (params:=params) (body:=A9 xs xh p1 p2 p3) (scope:=scope) (pos:=zj) (c:=c) (T:=T) qQ hC hB mP EK ag s1 σ H1
  (λfv H2=>∃f c' fC cl,fv=.ref f/\Ia X.env scope cl/\fj T H1 H2/\Tab T zj (X.env.qual ++ "<lambda>") H2/\H2 f=some (og f (ig X params (A9 xs xh p1 p2 p3) scope cl c' fC))/\H2 c'=some (jl c' (X.env.qual ++ "<lambda>"))) I1
  ⟨Hu,λf c' fC cl H' a1 a2 a3 a4 a5 a6=>⟨f,c',fC,cl,rfl,a1,a2,a3,a5,a6⟩⟩
 refine kws_cons (cq low λu2 s2 aT=>?_);obtain⟨fv,H2,I2,r2,f,c',fC,cl,ef,lK,st,Q7,hf,j7⟩:=aT;refine kws_nil ?_;subst ef;cases (show u2=Value.ref f from r2);obtain⟨u,rfl,rx⟩:=vals1 r1;cases (show u=Value.ref a from rx);obtain⟨pt,eT,_⟩:=id Hu;have hq2:aG X.K H2 a (zs.map V.str):=by
  rcases hq with (h | ⟨o,h⟩) | h
  .exact .inl (.inl (st _ _ (λz=>by rw [z,eT] at h;cases h) h))
  .exact .inl (.inr ⟨o,st _ _ (λz=>by rw [z,eT] at h;cases h) h⟩)
  exact .inr h
 have hd2:Rd H2 d (.dK kvs):=by
  rcases hd with h | ⟨o,h⟩
  .exact .inl (st _ _ (λz=>by rw [z,eT] at h;cases h) h)
  exact .inr ⟨o,st _ _ (λz=>by rw [z,eT] at h;cases h) h⟩
 obtain⟨aO,rv,pl,hz⟩:=I2.list hq2;obtain⟨pzs,ez,ei⟩:=sD rv;have GK:=pl.isList;obtain⟨oa,ga,ca,na,da⟩:=id GK;obtain⟨m,kC,lk⟩:=id I2.loc;have G_:∀b o,H2 b=some o->b≠X.env.locals:=λb o hb z=>by rw [z,I2.free] at hb;cases hb
 have Oa:d≠X.env.locals:=by
  rcases hd2 with h | ⟨o,h⟩
  .exact G_ d _ h
  exact G_ d _ h
 have ZY:a≠X.env.locals:=λz=>by
  obtain⟨o,es,ep,ho,AQ,_⟩:=kC;rw [<-z,ga] at ho;cases ho;rw [da] at AQ;cases AQ
 obtain⟨ud,rd,lkd⟩:=lk i xs (.ref d) hN hσ (.inr (.inl hx));cases (show ud=Value.ref d from rd);obtain⟨cc,ecc,oc,OW,OV⟩:∃cc,X.env.cells.lookup xs=some cc/\s2.heap.IsCell cc (some (.ref d)):=by
  rcases lkd with ⟨l,_⟩ | ⟨_,c2,e2,h2⟩
  .have l':X.env.scope.names.lookup xs=some .local:=l;rw [hx] at l';cases l'
  exact⟨c2,e2,h2⟩
 obtain⟨cc',Yo⟩:=lK.all xs (vd hs);have e3:=lK.sub _ _ Yo;rw [ecc] at e3;cases e3;have My:cc≠X.env.locals:=λz=>by
  obtain⟨o,es,ep,ho,AQ,_⟩:=kC;rw [<-z,OW] at ho;cases ho;rw [OV] at AQ;cases AQ
 obtain⟨gf,_⟩:=I2.bH f _ hf;obtain⟨gc,_⟩:=I2.bH c' _ j7;obtain⟨zl,Xn,dvs,rel,dd⟩:=ni I2.bH hd2;obtain⟨m0,F0⟩:=I2.fr;refine ksk_sorted (kz:=zs.map g) (f:=.ref f) (b:=false) (vs:=aO) (h₀:=F8.qF s2.heap) (L:=X.env.locals) (m:=m) (news:=(a,oa)::F8.ledger s2.heap X.env.locals a) (F8.Ly kC) (F8.wG ZY ga) GK (by rw [aB,<-rv.length,aB]) (by rw [<-rv.length,aB];exact h64)
  (ksk_s1 _ _) (λx=>ksk_l1 _ _) (λx=>ksk_t1 f x) (λj v kk hj Xy Cb tk own F N=>?_) λD h' tk out cnt F' N' lt' ko=>?_
 .obtain⟨z,t,Ri,rfl⟩:=Af rv j v hj;rw [aZ,Ri] at Xy;cases Xy;have keep:∀b u,b≠X.env.locals->s2.heap.get? b=some u->Cb.get? b=some u:=λb u nb hb=>by
   by_cases e:b=a
   .subst e;rw [ga] at hb;cases hb;exact(N (b,oa) (by simp)).1
   exact(N (b,u) (lX _ (bS _ (F8.i7.mpr ⟨nb,e,hb⟩)))).1
  have hvz:=hv z (cb Ri);obtain⟨w',hw,yH⟩:=hU.some_of (v:=.int (g z)) (o:=valueAt dvs (Sum.inr z)) (by rw [<-hvz];exact rel.val (Sum.inr z));obtain⟨tw,rfl⟩:=(show ∃t,w'=Value.int (g z) t from yH);have M_:Cb.DictOf (aY X.prog X.w) d dvs:=by
   obtain⟨o,es,ep,g1,r⟩:=dd;exact⟨o,es,ep,keep _ _ Oa g1,r⟩
  have gc2:Cb.CodeRec (.ref c') (X.env.qual ++ "<lambda>"):=by
   obtain⟨c2,ZN,Wt,t2,e2,xR,gO,MJ⟩:=gc;cases e2;exact⟨_,ZN,Wt,t2,rfl,keep _ _ (G_ c' _ j7) xR,gO,MJ⟩
  have nl:Cb.NoLimit:=I2.mod.nolimit.keeps λb o e=>keep b o (bB (dQ (aW e) F0.above)) (I2.bk b o e);exact Ey (s:={ s2 with heap:=Cb,toks:=tk }) (A:=X.A.in1.in1) hr.depth nl (keep _ _ (G_ f _ hf) gf) gc2 (λus hl=>hb _ _ _ _ _ us hl) hk UI Lg Uo hh hs Yo (keep _ _ My OW) OV M_ hw d1 d2 d3
   λh3 tk3 Xb=>KskEnd.intro (F.kept Xb) (N.grown Xb) λp hp=>hp
 have keep:∀b u,b≠X.env.locals->s2.heap.get? b=some u->h'.get? b=some u:=λb u nb hb=>by
  by_cases e:b=a
  .subst e;rw [ga] at hb;cases hb;exact(N' (b,oa) (by simp)).1
  exact(N' (b,u) (bS _ (bS _ (F8.i7.mpr ⟨nb,e,hb⟩)))).1
 have hD:s2.heap.get? D=none:=by
  cases e:s2.heap.get? D with
  | none=>rfl
  | some o =>
   exfalso;have nD:D≠X.env.locals:=(N' (D,_) bX).2.1;by_cases ea:D=a
   .have:=lt' (a,oa) bX;rw [ea] at this;exact absurd this (iA _)
   exact absurd (lt' (D,o) (bS _ (F8.i7.mpr ⟨nD,ea,e⟩))) (iA _)
 have fD:H2 D=none:=by
  cases e:H2 D with
  | none=>rfl
  | some u =>
   obtain⟨ob,g⟩:=DX (I2.bH D u e);rw [hD] at g;cases g
 have fD1:H1 D=none:=by
  cases e:H1 D with
  | none=>rfl
  | some u =>
   by_cases z:D=T
   .obtain⟨pt2,eT2,_⟩:=Q7;rw [z,eT2] at fD;cases fD
   rw [st _ _ z e] at fD;cases fD
 rw [ei,<-ez] at ko;obtain⟨qs,eo,pe,ps⟩:=DS ko;rw [ez] at pe;have gD:=(N' (D,_) bX).1;have lq:qs.length=zs.length:=by have:=pe.length_eq;rw [aB] at this;exact this
 have sl:=ah fD (.lst ((qs.map (·.1)).map V.str));refine⟨.ref D,_,I2.Ow (t':=tk) keep (λm' hm=>?_) hD fD (show bV X.prog X.w _ _ _ (.lst ((qs.map (·.1)).map V.str)) from ⟨by rw [aB,aB];exact fits ∅,qs.map (λp=>Value.str p.1 p.2),cnt,sC qs,by rw [<-eo];simpa using gD⟩),rfl,q1 D (qs.map (·.1)) _ (λb o n hb=>sl _ _ (st b o n hb)) ?_ fD1 pe ps ae⟩
 .have:=F'.ns;have e:m'=m:=by
   obtain⟨o,es,ep,ho,AQ,_,hf⟩:=hm;obtain⟨o2,es2,ep2,FN,O9,_,vM⟩:=kC;rw [ho] at FN;cases FN;rw [AQ] at O9;cases O9
   funext x
   rw [<-hf x,<-vM x]
  rw [e];exact this
 obtain⟨QJ,b1,b2,b3⟩:=Q7;refine⟨QJ,sl _ _ b1,b2,b3.imp id λaT=>?_⟩;obtain⟨c3,e3,g3⟩:=aT;exact⟨c3,e3,sl _ _ g3⟩
end
open PySem M11
def zM {K:aV}{H:Hp}{p D d:Addr}{zs:List Str}{kvs:List (aJ×V)}{g:G}{σ:St}{js:List (Nat×Str)}{Qp:Hp->Prop}(hσ:df ["part"] js σ=[none,br d])(hp:a9 K H p (zs.map V.str))(hz:zs.length<=1000)
  (hd:Rd H d (.dK kvs))(hv:∀z,a_ kvs (Sum.inr z)=(g z).map V.int)(ha:∀z∈zs,(g z).isSome=true)(hD:H D=none)(q:∀H2,aC H H2->H2 D=some (.lst ((zs.map λz=>(g z).getD 0).map V.int))->Qp H2) :
  ∃W:Nat->Nat->List V->St->Hp->Prop,(∃m,W 0 m [] (df ["part"] js σ) (upd H D (.lst []))) /\
 ∀i m ys σ' H,W i m ys σ' H->((oW K p).stop i H/\Qp H)\/((oW K p).go i H/\∃m',m' < m/\∀x H',(oW K p).kR i H x H'->du 0 x σ' H' λσ2 H2=>g6 σ2 H2 λb H3 =>
  if b=true then z9 (fk 1) (fk 0) σ2 H3 λy H4=>H4 D=some (.lst ys)/\ys.length < sizeLine/\W (i+1) m' (ys++[y]) σ2 (upd H4 D (.lst (ys++[y]))) else W (i+1) m' ys σ2 H3):=by
 refine gW (xs:=zs.map V.str) (λi ys σ2 H2=>ys=(((zs.take i).map λz=>(g z).getD 0).map V.int)/\(∃y0,σ2=[y0,br d])/\aC H H2/\H2 D=some (.lst ys))
  ⟨rfl,⟨none,hσ⟩,ah hD _,ae⟩ (λi ys σ2 H2 _ h=>h.2.2.1.tup hp) (λi x ys σ2 H2 ex h=>?_) (λys σ2 H2 h=>?_)
 .obtain⟨rfl,⟨y0,rfl⟩,sm,hd2⟩:=h;rw [aZ] at ex;obtain⟨z,ez,rfl⟩:=cf.mp ex;have li:=(bo.mp ez).1;obtain⟨n,en⟩:=kq.mp (ha z (cb ez));have hg:cm H2 d (.str z) (some (.int n)):=by
   have:=cm.r (k:=Sum.inr z) (eX.Rd.same hd sm);rw [hv,en] at this;exact this
  refine goN (vq ?_);refine⟨_,rfl,_,rfl,d,_,rfl,hg,hd2,bQ (by rw [aB,aB,c_];omega),?_,⟨_,rfl⟩,?_,ae⟩
  .rw [cV,ez,bI,bI];show _=_++[V.int ((g z).getD 0)];rw [en];rfl
  intro b o hb;rw [ai (λz=>by rw [z,hD] at hb;cases hb)];exact sm b o hb
 obtain⟨rfl,_,sm,hd2⟩:=h;rw [aB,cE] at hd2;exact q H2 sm hd2
end L2
namespace eX
open PySem L2 M11
section
def qk (K:aV):Sp:=λvs H Q _=>∃(d r:Addr)(kvs:List (aJ×V))(g:G)(ru:ay),vs=[.ref d,.ref r]/\Rd H d (.dK kvs)/\(∀z,a_ kvs (Sum.inr z)=(g z).map V.int)/\Bd K H r ru/\ru.2.length<=8/\(∀z∈ru.2,(g z).isSome=true)/\∀H',aC H H'->Q (.int (aM g ru)) H'
def yl:aH ["sizes","rule"] ["sizes","rule"] (av n5):=iw rfl rfl rfl rfl nofun
def wB (F:gX K "rule_size" "rule_size" n5 f fd)(T:Txt mg):ba P w K mg base fc 1 f fd ["sizes","rule"] (qk K):=by
 refine F.ok yl (λvs H Q E h=>?_) (λdw A outer s H vs Q E hr h=>?_)
 .obtain⟨d,r,kvs,g,ru,rfl,_⟩:=h;rfl
 obtain⟨d,r,kvs,g,ru,rfl,hd,hv,⟨p,v1,v2⟩,h8,al,q⟩:=h;have hu:=fX hr;refine⟨_,ao (bu (aX dH aq (aN (tP rfl) rfl T.sum PyProof.Rows.boot_sum (af (bK ["part"] [(0,"sizes")] rfl (g9 (aP bL (pv 1) aq (λ_ _=>rfl))) (bh rfl rfl) nofun rfl nofun
   (λ_ _ _ _ _=>aw (i:=0) (show (["part","sizes"]:List Str).Nodup by decide +kernel) rfl (bM rfl)) (λ_ _ _ _ _=>bW) (λ_ _ _ _ _=>eK hu (pv 1) (pv 0) (λ_ _=>rfl))) ak)))),?_⟩
 dsimp only [zL];refine⟨_,rfl,r,_,_,_,rfl,rfl,v1,rfl,p,rfl,⟨_,v2⟩,λD hD=>zM (g:=g) rfl v2 ∅ hd hv al hD λH2 s2 e2=>?_⟩;refine⟨D,_,rfl,aG.of e2,_,_,rfl,rfl,?_⟩;exact q H2 s2
end
end eX
namespace M11
open PySem
def pD.at_ {aa:List ay}{aR:List (Str×Nat)}(h:pD aa aR):∀(i:Nat)(x:Str) (k:Nat),aR[i]?=some (x,k)->∃bf,aa[k]?=some (x,bf)/\∀p∈bf,p∈(aR.take i).map (·.1):=by
 induction h with
 | nil=>intro i x k e;simp at e
 | @snoc aR k2 ru h e n p ih =>
  intro i x k ei;by_cases hi:i < aR.length
  .rw [jh hi] at ei;obtain⟨bf,a,b⟩:=ih i x k ei;exact⟨bf,a,λq hq=>by rw [uF (jz hi)];exact b q hq⟩
  have li:=(bo.mp ei).1;rw [b9,pW] at li;have e2:i=aR.length:=by omega
  subst e2;rw [oF (aI _),Nat.sub_self] at ei;cases ei;exact⟨ru.2,e,λq hq=>by rw [List.take_left'];exact p q hq;rfl⟩
end M11
namespace eX
open PySem L2 M11
section
def rf {H:Hp}{p D d:Addr}{zs:List Str}{kvs:List (aJ×V)}{σ:St}{js:List (Nat×Str)}{Qp:Hp->Prop}(hσ:df ["part"] js σ=[none,br d])(hp:a9 K H p (zs.map V.str))(hz:zs.length<=1000)
  (hd:H d=some (.dK kvs))(ha:∀z∈zs,(Sum.inr z:aJ)∈kvs.map (·.1))(hD:H D=none)(q:∀ys H2,ys.length=zs.length->aC H H2->H2 D=some (.lst ys)->Qp H2) :
  ∃W:Nat->Nat->List V->St->Hp->Prop,(∃m,W 0 m [] (df ["part"] js σ) (upd H D (.lst []))) /\
 ∀i m ys σ' H,W i m ys σ' H->((oW K p).stop i H/\Qp H)\/((oW K p).go i H/\∃m',m' < m/\∀x H',(oW K p).kR i H x H'->du 0 x σ' H' λσ2 H2=>g6 σ2 H2 λb H3 =>
  if b=true then z9 (fk 1) (fk 0) σ2 H3 λy H4=>H4 D=some (.lst ys)/\ys.length < sizeLine/\W (i+1) m' (ys++[y]) σ2 (upd H4 D (.lst (ys++[y]))) else W (i+1) m' ys σ2 H3):=by
 refine gW (xs:=zs.map V.str) (λi ys σ2 H2=>ys.length=i/\(∃y0,σ2=[y0,br d])/\aC H H2/\H2 D=some (.lst ys))
  ⟨rfl,⟨none,hσ⟩,ah hD _,ae⟩ (λi ys σ2 H2 _ h=>h.2.2.1.tup hp) (λi x ys σ2 H2 ex h=>?_) (λys σ2 H2 h=>?_)
 .obtain⟨rfl,⟨y0,rfl⟩,sm,hd2⟩:=h;rw [aZ] at ex;obtain⟨z,ez,rfl⟩:=cf.mp ex;have li:=(bo.mp ez).1;obtain⟨v,ev⟩:=kq.mp ((d8 kvs (Sum.inr z)).mpr (ha z (cb ez)));have hg:cm H2 d (.str z) (some v):=by
   have:=cm.k (k:=Sum.inr z) (sm _ _ hd);rw [ev] at this;exact this
  refine goN (vq ?_);refine⟨_,rfl,_,rfl,d,_,rfl,hg,hd2,bQ ∅,by rw [b9];rfl,⟨_,rfl⟩,?_,ae⟩;intro b o hb;rw [ai (λz=>by rw [z,hD] at hb;cases hb)];exact sm b o hb
 obtain⟨e,_,sm,hd2⟩:=h;rw [aB] at e;exact q ys H2 e sm hd2
def sG (K:aV):Sp:=λvs H Q _=>∃(R D:Addr)(rs ts:List Addr)(aa:List ay)(aR:List (Str×Nat)),vs=[.ref R,.ref D]/\aG K H R (rs.map V.ref)/\bJ K H rs aa/\aa.length<=1000/\(∀ru∈aa,ru.2.length<=8)/\aG K H D (ts.map V.ref)/\ow K H ts aR/\pD aa aR/\aR.length<=1000 /\
 ∀(d:Addr)(kvs:List (aJ×V))(H':Hp),H d=none->aC H H'->H' d=some (.dK kvs)->kvs.map (·.1)=(aR.map (·.1)).map Sum.inr->Q (.ref d) H'
def jV:aH ["rules","empties","trees","name","number"] ["rules","empties"] (av qr):=iw rfl rfl rfl rfl nofun
def yY (F:gX K "empty_by_name" "empty_by_name" qr f fd)(T:Txt mg):ba P w K mg base fc 1 f fd ["rules","empties"] (sG K):=by
 refine F.ok jV (λvs H Q E h=>?_) (λdw A outer s H vs Q E hr h=>?_)
 .obtain⟨R,D,rs,ts,aa,aR,rfl,_⟩:=h;rfl
 obtain⟨R,D,rs,ts,aa,aR,rfl,hR,cS,a8,h8,hD,XH,O7,XJ,q⟩:=h;have hu:=fX hr;refine⟨_,aj (aF (i:=2) jV.nd rfl (Or.inr rfl) gA)
  (aj (b_ cD rfl (bx (pv 1)) (i5 (n:=2) K rfl (aE (aw (i:=3) jV.nd rfl (bM rfl)) (aE (aw (i:=4) jV.nd rfl (bM rfl)) cu)))
   (ao (ib hu (pv 2) (pv 3) (cJ (af (pv 4) (af (bc gp rfl T.tup qe (af (bK ["part"] [(2,"trees")] rfl (g9 (aP bL (aP bz (pv 0) (pv 4) (λ_ _=>rfl)) aq (λ_ _=>rfl))) (bh rfl rfl) nofun rfl nofun
    (λ_ _ _ _ _=>aw (i:=0) (show (["part","trees"]:List Str).Nodup by decide +kernel) rfl (bM rfl)) (λ_ _ _ _ _=>bW) (λ_ _ _ _ _=>eK hu (pv 1) (pv 0) (λ_ _=>rfl))) ak)) ak))) rfl)))
  (ao (bu (pv 2)))),?_⟩
 nofun
 refine λd vN=>?_;have s1:=ah vN (.dK []);have e1:upd H d (.dK []) d=some (.dK []):=ae;generalize upd H d (.dK [])=H1 at s1 e1;refine goN ?_
 ac_rfl
 have lt:=bF XH;have ll:=bF cS;have nd:=O7.nd
 let sf:rP:=λi σ H3=>∃(kvs:List (aJ×V))(y3 y4:Option V),σ=[br R,br D,br d,y3,y4]/\aC H H3/\H3 d=some (.dK kvs)/\kvs.map (·.1)=((aR.take i).map (·.1)).map Sum.inr
 refine⟨_,rfl,D,rfl,⟨_,s1.seq hD⟩,dX (xs:=ts.map V.ref) sf ⟨[],_,_,rfl,s1,e1,rfl⟩ ?_ ?_ ?_⟩
 .rintro i σ H3 _ ⟨kvs,y3,y4,rfl,s3,_⟩;exact s3.seq hD
 .rintro i x σ H3 ex ⟨kvs,y3,y4,rfl,s3,ed,ek⟩
  ac_nf0
  rw [aZ] at ex;obtain⟨t,et,rfl⟩:=cf.mp ex;have li:=(bo.mp et).1;obtain⟨e,ee⟩:∃e,aR[i]?=some e:=⟨aR[i]'∅,cZ ∅⟩;obtain⟨t',Rc,vt⟩:=Paired.at_ XH i e ee;rw [et] at Rc;cases Rc;obtain⟨x,k⟩:=e;obtain⟨bf,hk,K6⟩:=O7.at_ i x k ee;obtain⟨r,er,p,v1,v2⟩:=Paired.at_ cS k _ hk;have P4:ir (rs.map V.ref) (k:Int)=some (.ref r):=bj (by rw [aZ,er];rfl);have Xq:bf.length<=8:=h8 _ (cb hk);refine⟨t,_,rfl,s3.tup vt,rfl,_,_,rfl,_,_,rfl,rfl,?_⟩;refine⟨_,rfl,_,rfl,_,rfl,R,_,_,_,rfl,rfl,s3.seq hR,P4,r,_,_,_,rfl,rfl,s3.tup v1,rfl,p,rfl,⟨_,s3.tup v2⟩,λD2 iP=>rf (zs:=bf) rfl (s3.tup v2) ∅ ed (λz hz=>by rw [ek];exact cH.mpr (K6 z hz)) iP λys H4 ly s4 e4=>?_⟩;refine⟨D2,ys,rfl,.inl ⟨aG.of e4,λt2 U1=>⟨qf,λEl LD=>?_⟩⟩⟩;have k5:=(ah U1 (.tup ys)).trans (ah LD (.tup [.int (k:Int),.ref t2]));generalize upd (upd H4 t2 (.tup ys)) El (.tup [.int (k:Int),.ref t2])=H5 at k5;have ed5:=k5 _ _ (s4 _ _ ed);have lkv:kvs.length=i:=by
   have:=congrArg List.length ek;rw [aB,aB,aB,c_] at this;omega
  have nx:x∉(aR.take i).map (·.1):=λz=>by
   obtain⟨e2,m2,q2⟩:=cU.mp z;obtain⟨j,hj⟩:=d7 m2;rw [List.getElem?_take] at hj
   split at hj
   .rename_i Xz
    have a1:(aR.map (·.1))[j]?=some x:=by rw [aZ,hj];exact congrArg some q2
    have a2:(aR.map (·.1))[i]?=some x:=by rw [aZ,ee];rfl
    have:=(List.getElem?_inj (by rw [aB];omega) nd).mp (a1.trans a2.symm);omega
   cases hj
  refine⟨_,rfl,_,rfl,d,_,rfl,.inl ⟨kvs,Sum.inr x,ed5,rfl,bQ ∅,rfl⟩,?_⟩;refine⟨_,_,_,rfl,λb o hb=>?_,ae,?_⟩
  .rw [ai (λz=>by rw [z,vN] at hb;cases hb)];exact k5 _ _ (s4 _ _ (s3 b o hb))
  rw [gQ (by rw [ek];exact λz=>nx (cH.mp z)),ek,cV,ee,bI,bI];rfl
 rintro σ H3 ⟨kvs,y3,y4,rfl,s3,ed,ek⟩;rw [aB,lt,cE] at ek;exact⟨_,rfl,q d kvs H3 vN s3 ed ek⟩
end
end eX
namespace M11
open PySem
def Le (g' g:G):Prop:=∀z n,g z=some n->∃m,g' z=some m/\m<=n
def w6 {g:G}{ru:ay}(f:bZ bl g ru=true):ij g ru=true/\∀n,g ru.1=some n->aM g ru < n:=by
 unfold bZ at f;rw [jt] at f;refine⟨f.1,λn e=>?_⟩;have:=f.2;rw [e] at this;have:(!(some n:Option Int).isSome || bl (aM g ru) n)=true:=this
 simpa [bl] using this
def le_step {g:G}{ru:ay}(f:bZ bl g ru=true):Le (de g ru.1 (aM g ru)) g:=λz n e=>by
 unfold de;by_cases c:z=ru.1
 .rw [az c];subst c;exact⟨_,rfl,Int.le_of_lt ((w6 f).2 n e)⟩
 rw [aA c];exact⟨n,e,iU _⟩
theorem C9 {g g':G}(h:Le g' g):∀ps:List Str,(∀p∈ps,(g p).isSome=true)->(∀p∈ps,(g' p).isSome=true)/\(ps.map λp=>(g' p).getD 0).sum<=(ps.map λp=>(g p).getD 0).sum
 | [],_=>⟨λp hp=>(by cases hp),iU _⟩
 | p::r,a=>by
  obtain⟨h1,h2⟩:=C9 h r λq hq=>a q (bS _ hq);obtain⟨n,en⟩:=kq.mp (a p bX);obtain⟨m,em,lm⟩:=h p n en;refine⟨λq hq=>?_,?_⟩
  .rcases bN.mp hq with rfl | hq
   .rw [em];rfl
   exact h1 q hq
  rw [bG,bG,jc,jc,en,em];show m+_<=n+_;omega
def tX {g:G}{ru:ay}:ij g ru=true↔∀p∈ru.2,(g p).isSome=true:=by
 unfold ij;rw [fM]
def size_le {g g':G}{ru:ay}(h:Le g' g)(a:ij g ru=true):ij g' ru=true/\aM g' ru<=aM g ru:=by
 obtain⟨h1,h2⟩:=C9 h ru.2 (tX.mp a);exact⟨tX.mpr h1,by unfold aM;omega⟩
def Nf (aa:List ay) (hs:List Str)(g:G):Prop:=∀h n,g h=some n->h∉hs\/∃ru∈aa,ru.1=h/\ij g ru=true/\aM g ru<=n
def CY {aa:List ay}{hs:List Str}(g:G)(ru:ay)(j:Nf aa hs g)(m:ru∈aa)(f:bZ bl g ru=true):Nf aa hs (de g ru.1 (aM g ru)):=λh n e=>by
 have le:=le_step f;by_cases c:h=ru.1
 .have e2:n=aM g ru:=by
   unfold de at e;rw [az c] at e;exact(gM e).symm
  obtain⟨a1,a2⟩:=size_le le (w6 f).1;exact .inr ⟨ru,m,c.symm,a1,∅⟩
 have e2:g h=some n:=by
  unfold de at e;rw [aA c] at e;exact e
 rcases j h n e2 with h1 | ⟨Kf,m2,q2,a2,l2⟩
 .exact .inl h1
 obtain⟨b1,b2⟩:=size_le le a2;exact .inr ⟨Kf,m2,q2,b1,∅⟩
def B4 {aa:List ay}{hs:List Str}{g0 g:G}(j0:Nf aa hs g0)(st:cI bl aa g0 g)(se:eh bl aa g){h:Str}{n:Int}(hh:h∈hs)(e:g h=some n):∃ru∈aa,ru.1=h/\ij g ru=true/\aM g ru=n:=by
 have j:Nf aa hs g:=cI.keep (J:=Nf aa hs) (λg ru j m f=>CY g ru j m f) st j0;rcases j h n e with z | ⟨ru,m,q,a,l⟩
 .exact absurd hh z
 refine⟨ru,m,q,a,?_⟩;have f:=se ru m;unfold bZ at f;rw [a,q,e] at f;have f:(true && (!(some n:Option Int).isSome || bl (aM g ru) n))=false:=f
 have f2:¬aM g ru < n:=by simpa [bl] using f
 omega
theorem AH {g:G}(nn:NN g):∀(ps:List Str)(p:Str) (m:Int),p∈ps->g p=some m->m<=(ps.map λp=>(g p).getD 0).sum
 | q::r,p,m,hp,e=>by
  rw [bG,jc];have h1:=i3 g nn r;rcases bN.mp hp with rfl | hp
  .rw [e];show m<=m+_;omega
  have h2:=AH nn r p m hp e;have h3:0<=(g q).getD 0:=by
   cases eq:g q with
   | none=>exact iU _
   | some n=>exact nn q n eq
  omega
def Bz {g:G}(nn:NN g){ru:ay}{p:Str}{m:Int}(hp:p∈ru.2)(e:g p=some m):m < aM g ru:=by
 have:=AH nn ru.2 p m hp e;unfold aM;omega
theorem zZ:∀(aU ps bA:List Str),(∀z∈bA,z∉aU)->∀z∈rM aU bA ps,z∉aU
 | _,[],bA,h=>h
 | aU,p::r,bA,h=>by
  show ∀z∈rM aU (addW aU bA p) r,z∉aU;refine zZ aU r _ ?_;unfold addW
  split
  .exact h
  rename_i hp
  unfold gF
  split
  .exact h
  intro z hz;rcases bq.mp hz with hz | hz
  .exact h z hz
  rw [bE.mp hz];exact hp
def uM {g:Str->Int}{zs:List Str}(h:zs.Pairwise λx y=>g x<=g y){i:Nat}{x p:Str}(e:zs[i]?=some x)(hp:p∈zs)(l:g p < g x):p∈zs.take i:=by
 obtain⟨j,ej⟩:=d7 hp;obtain⟨li,ei⟩:=bo.mp e;obtain⟨lj,ej2⟩:=bo.mp ej;have Xz:j < i:=by
  rcases Nat.lt_trichotomy j i with h1 | h1 | h1
  .exact h1
  .subst h1;rw [e] at ej;cases ej;omega
  have:=List.pairwise_iff_getElem.mp h i j li lj h1;rw [ei,ej2] at this;omega
 rw [List.mem_iff_getElem?];exact⟨j,by rw [List.getElem?_take,az Xz];exact ej⟩
end M11
namespace eX
open PySem L2 M11
def RO (aa:List ay):Nf aa (hd aa) (ph aa):=λh n e=>by
 unfold ph at e;by_cases c:h∈rM (hd aa) [] (aa.flatMap (·.2))
 .exact .inl (zZ _ _ [] (λz hz=>by cases hz) h c)
 rw [aA c] at e;cases e
def ZR (aa:List ay):NN (ph aa):=λh n e=>by
 unfold ph at e;by_cases c:h∈rM (hd aa) [] (aa.flatMap (·.2))
 .rw [az c] at e;cases e;exact iU _
 rw [aA c] at e;cases e
def Kz {aa:List ay}{g:G}(st:cI M11.bl aa (ph aa) g):NN g:=cI.keep (J:=NN) (λg ru j m f=>u_ j ru) st (ZR aa)
theorem pE (aU:List Str):∀(ps bA:List Str)(x:Str),(x∈bA\/(x∈ps/\x∉aU))->x∈rM aU bA ps
 | [],bA,x,h=>by
  rcases h with h | ⟨h,_⟩
  .exact h
  cases h
 | p::r,bA,x,h=>by
  show x∈rM aU (addW aU bA p) r;apply pE aU r;unfold addW;by_cases c:p∈aU
  .rw [az c];rcases h with h | ⟨h,n⟩
   .exact .inl h
   rcases bN.mp h with z | z
   .exact absurd (z ▸ c) n
   exact .inr ⟨z,n⟩
  rw [aA c];rcases h with h | ⟨h,n⟩
  .exact .inl ((nr _ _ _).mpr (.inl h))
  rcases bN.mp h with z | z
  .exact .inl ((nr _ _ _).mpr (.inr z))
  exact .inr ⟨z,n⟩
def N5:List Stmt->Pos
 | [_,_,_,.For _ (.Call _ _ [⟨_,.Lambda _ _ _ pos,_⟩] _) _ _ _,_]=>pos
 | _=>⟨0,0,0,0⟩
abbrev posB:Pos:=N5 (bT mq)
abbrev FI:Str := "least_by_part" ++ ".<locals>." ++ "<lambda>"
section
def nY (K:aV)(T1 T3:Addr):Sp:=λvs H Q _=>∃(R:Addr)(rs:List Addr)(aa:List ay),vs=[.ref R]/\aG K H R (rs.map V.ref)/\bJ K H rs aa/\aa.length < 64/\(∀ru∈aa,ru.2.length<=8)/\(∀g,cI M11.bl aa (ph aa) g->eh M11.bl aa g->∀h∈hd aa,∃n,g h=some n/\n<=60)/\Tab T1 qH.2.2.2 xQ H/\Tab T3 posB FI H/\T1≠T3 /\
 ∀(d:Addr)(kvs:List (aJ×V))(H':Hp),H d=none->kJ T1 T3 H H'->Tab T1 qH.2.2.2 xQ H'->Tab T3 posB FI H'->H' d=some (.dK kvs)->(∀z,z∈hd aa->(Sum.inr z:aJ)∈kvs.map (·.1))->Q (.ref d) H'
structure LB (K:aV)(rs:List Addr)(aa:List ay)(pN:List (aJ×V))(ps:List (Str×Addr))(R dz dn T1 T3:Addr)(H5:Hp):Prop where
 hR:aG K H5 R (rs.map V.ref)
 cS:bJ K H5 rs aa
 nm:F7 ps (λn=>nums aa n aa.length) H5 dn
 rz:Rd H5 dz (.dK pN)
 t1:Tab T1 qH.2.2.2 xQ H5
 t3:Tab T3 posB FI H5
theorem LB.same {rs:List Addr}{aa:List ay}{pN:List (aJ×V)}{ps:List (Str×Addr)}{R dz dn T1 T3:Addr}{H5 H6:Hp}(h:LB K rs aa pN ps R dz dn T1 T3 H5)(s:aC H5 H6):LB K rs aa pN ps R dz dn T1 T3 H6 :=
 ⟨s.seq h.hR,h.cS.same s,h.nm.same s,eX.Rd.same h.rz s,h.t1.same s,h.t3.same s⟩
def LB.II {rs:List Addr}{aa:List ay}{pN:List (aJ×V)}{ps:List (Str×Addr)}{R dz dn T1 T3 d:Addr}{H5 H6:Hp}{kv:List (aJ×V)}(h:LB K rs aa pN ps R dz dn T1 T3 H5)(e:H5 d=some (.dK kv))(n1:dn≠d)(n2:dz≠d)(s:fj d H5 H6):LB K rs aa pN ps R dz dn T1 T3 H6:=by
 have tk:∀a xs,a9 K H5 a xs->a9 K H6 a xs:=λa xs z=>by
  rcases z with (z | ⟨u,z⟩) | z
  .exact .inl (.inl (s _ _ (λy=>by rw [y,e] at z;cases z) z))
  .exact .inl (.inr ⟨u,s _ _ (λy=>by rw [y,e] at z;cases z) z⟩)
  exact .inr z
 have tb:∀{T':Addr}{pos':Pos}{FH:Str},Tab T' pos' FH H5->Tab T' pos' FH H6:=λ{T' pos' FH} ⟨p,a,b,cc⟩=>⟨p,s _ _ (λy=>by rw [y,e] at a;cases a) a,b,cc.imp id λ⟨c',e1,e2⟩=>⟨c',e1,s _ _ (λy=>by rw [y,e] at e2;cases e2) e2⟩⟩;refine⟨?_,h.cS.keep tk,⟨s _ _ n1 h.nm.hd,h.nm.n1,h.nm.n2,λp hp=>s _ _ (λy=>by have a:=h.nm.lst p hp;rw [y,e] at a;cases a) (h.nm.lst p hp)⟩,?_,tb h.t1,tb h.t3⟩
 .rcases h.hR with (z | ⟨u,z⟩) | z
  .exact .inl (.inl (s _ _ (λy=>by rw [y,e] at z;cases z) z))
  .exact .inl (.inr ⟨u,s _ _ (λy=>by rw [y,e] at z;cases z) z⟩)
  exact .inr z
 rcases h.rz with z | ⟨u,z⟩
 .exact .inl (s _ _ n2 z)
 exact .inr ⟨u,s _ _ n2 z⟩
def LB.NS {rs:List Addr}{aa:List ay}{pN:List (aJ×V)}{ps:List (Str×Addr)}{R dz dn T1 T3:Addr}{H5 H6:Hp}(h:LB K rs aa pN ps R dz dn T1 T3 H5)(nT:T1≠T3)(s:fj T3 H5 H6)(t:Tab T3 posB FI H6):LB K rs aa pN ps R dz dn T1 T3 H6:=by
 obtain⟨pt,eT,_⟩:=id h.t3;refine⟨Aw s h.t3 h.hR,h.cS.keep λ_ _ z=>z5 s h.t3 z,⟨s _ _ (λy=>by have a:=h.nm.hd;rw [y,eT] at a;cases a) h.nm.hd,h.nm.n1,h.nm.n2,λp hp=>s _ _ (λy=>by have a:=h.nm.lst p hp;rw [y,eT] at a;cases a) (h.nm.lst p hp)⟩,?_,z7 s h.t3 h.t1 nT,t⟩;rcases h.rz with z | ⟨u,z⟩
 .exact .inl (s _ _ (λy=>by rw [y,eT] at z;cases z) z)
 exact .inr ⟨u,s _ _ (λy=>by rw [y,eT] at z;cases z) z⟩
theorem oj:∀(hs:List Str)(bA:List (aJ×V)) (as:List Str),bA.map (·.1)=as.map Sum.inr->(cO (hs.map λh=>((Sum.inr h:aJ),V.str h)) bA).map (·.1)=(M11.pA as hs).map Sum.inr
 | [],bA,as,e=>e
 | h::r,bA,as,e=>oj r (bC bA (Sum.inr h) (.str h)) (M11.gF as h) (eX.jM e h)
def gT:aH ["rules","numbers","trees","name","least","sizes"] ["rules"] (av mq):=iw rfl rfl rfl rfl nofun
def yW {T1 T3:Addr}(F:xH K "least_by_part" "least_by_part" mq f fd T3)(T:Txt mg)(hB:rJ mg base)(hS:mg "sorted"=none)(GH:aK P w K mg base 3 "heads_of" ["rules"] (jT K))(GL:aK P w K mg base 3 "least_sizes" ["rules"] (pG K T1))(GN:aK P w K mg base 3 "numbers_by_name" ["rules"] (Dg K))(GZ:aK P w K mg base 3 "rule_size" ["sizes","rule"] (qk K)):ba P w K mg base fc 4 f fd ["rules"] (nY K T1 T3):=by
 refine F.ok gT (λvs H Q E h=>?_) (λc A outer s H vs Q E hC hr h=>?_)
 .obtain⟨R,rs,aa,rfl,_⟩:=h;rfl
 obtain⟨R,rs,aa,rfl,hR,cS,a8,h8,EH,Hu,UR,nT,q⟩:=h;have hu:=fX hr;refine⟨_,aj (aF (i:=5) gT.nd rfl (Or.inr rfl) (bU GL hr rfl (af (pv 0) ak)))
  (aj (aF (i:=1) gT.nd rfl (Or.inr rfl) (bU GN hr rfl (af (pv 0) ak)))
  (aj (aF (i:=2) gT.nd rfl (Or.inr rfl) (bc (dP rfl) rfl T.A4 fh (af (bK ["part"] [(1,"numbers")] rfl (AD (pv 5)) (bh rfl rfl) nofun rfl nofun
    (λ_ _ _ _ _=>aw (i:=0) (show (["part","numbers"]:List Str).Nodup by decide +kernel) rfl (bM rfl)) (λ_ _ _ _ _=>ie (fq (dY hu (pv 0) (pv 1)))) (λ_ _ _ _ _=>cJ (af (pv 0) (af (pv 0) ak)))) ak)))
  (aj (b_ cD rfl (bx (DL (i:=5) (T:=T3) hr rfl hC hB rfl hS (af (bU GH hr rfl (af (pv 0) ak)) ak) rfl rfl (λy hy=>by
    rcases bN.mp hy with h | h
    .cases h
    rcases bN.mp h with h | h
    .cases h;rfl
    cases h) (λq cl pm fC c' us hl=>match us,hl with | [_],_=>rfl) rfl rfl rfl nofun rfl rfl)) (aw (i:=3) gT.nd rfl (Or.inr rfl))
   (aj (gi (iy:=4) ["number"] [(5,"sizes"),(0,"rules"),(3,"name")] gT.nd rfl rfl rfl (bx (eK hu (pv 1) (pv 3) (λ_ _=>rfl))) (bh rfl rfl) nofun rfl nofun
    (λ_ _ _ _ _=>aw (i:=0) (show (["number","sizes","rules","name"]:List Str).Nodup by decide +kernel) rfl (bM rfl)) (λ_ _ _ _ _=>ie (cx wA (bU GZ hr rfl (af (pv 1) (af (aP (jN K) (pv 2) (pv 0) (λ_ _=>rfl)) ak))) (eK hu (pv 1) (pv 3) (λ_ _=>rfl)) (dq _))) (λ_ _ _ _ _=>pv 0))
   (ao (ib hu (pv 2) (pv 3) (cJ (af (aP bz (pv 4) aq (λ_ _=>rfl)) (af (bc gp rfl T.tup qe (af (bK ["part"] [(2,"trees")] rfl (g9 (aP bL (aP bz (pv 0) (aP bz (pv 4) aq (λ_ _=>rfl)) (λ_ _=>rfl)) aq (λ_ _=>rfl))) (bh rfl rfl) nofun rfl nofun
    (λ_ _ _ _ _=>aw (i:=0) (show (["part","trees"]:List Str).Nodup by decide +kernel) rfl (bM rfl)) (λ_ _ _ _ _=>bW) (λ_ _ _ _ _=>eK hu (pv 1) (pv 0) (λ_ _=>rfl))) ak)) ak))) rfl))))
  (ao (bu (pv 2)))))),?_⟩
 nofun
 refine⟨_,rfl,R,rs,aa,rfl,hR,cS,∅,h8,Hu,λdz pN IG g H1 fz s1 t1 ez kz vz QB WG lz=>?_⟩;refine goN ?_
 ac_rfl
 have XR:=Aw s1 Hu hR;have OT:=cS.keep λ_ _ z=>z5 s1 Hu z;have Wx:=z7 s1 Hu UR (eV nT);refine⟨_,rfl,R,rs,aa,rfl,XR,OT,∅,λdn ps H2 fn s2 nm pk pf=>?_⟩;refine goN ?_
 ac_rfl
 have M3:=s2 _ _ ez;refine⟨_,rfl,dz,pN,rfl,M3,λo D hD=>?_⟩;have SI:∀p∈ps,p.2≠dz:=λp hp z=>by
  have a:=nm.lst p hp;rw [z,M3] at a;cases a
 have ZZ:dn≠dz:=λz=>by rw [z,ez] at fn;cases fn
 have ZP:T1≠dz:=λz=>by
  obtain⟨p,a,_⟩:=t1;rw [z,ez] at a;cases a
 have ZO:T3≠dz:=λz=>by
  obtain⟨p,a,_⟩:=Wx;rw [z,ez] at a;cases a
 have Nt:∀{T':Addr}{pos':Pos}{FH:Str},T'≠dz->Tab T' pos' FH H2->Tab T' pos' FH (upd H2 dz (.jo o (.dK pN))):=λ{T' pos' FH} n ⟨p,a,b,cc⟩=>⟨p,by rw [ai n];exact a,b,cc.imp id λ⟨c',e1,e2⟩=>⟨c',e1,by rw [ai (λz=>by rw [z,M3] at e2;cases e2)];exact e2⟩⟩;have L3:LB K rs aa pN ps R dz dn T1 T3 (upd H2 dz (.jo o (.dK pN))):=by
  refine⟨?_,(OT.same s2).keep λ_ _ z=>eC M3 z,⟨by rw [ai ZZ];exact nm.hd,nm.n1,nm.n2,λp hp=>by rw [ai (SI p hp)];exact nm.lst p hp⟩,.inr ⟨o,ae⟩,Nt ZP (t1.same s2),Nt ZO (Wx.same s2)⟩;rcases s2.seq XR with (h | ⟨u,h⟩) | h
  .exact .inl (.inl (by rw [ai (λz=>by rw [z,M3] at h;cases h)];exact h))
  .exact .inl (.inr ⟨u,by rw [ai (λz=>by rw [z,M3] at h;cases h)];exact h⟩)
  exact .inr h
 have e3:upd H2 dz (.jo o (.dK pN)) dz=some (.jo o (.dK pN)):=ae;have xP:kJ T1 T3 H (upd H2 dz (.jo o (.dK pN))):=λb u n1 n3 hb=>by
  rw [ai (λz=>by rw [z,fz] at hb;cases hb)];exact s2 _ _ (s1 b u n1 hb)
 generalize upd H2 dz (.jo o (.dK pN))=H3 at hD L3 e3 xP ⊢;have lkz:pN.length=IG.length:=by
  have:=congrArg List.length kz;rwa [aB,aB] at this
 refine rm (λi ys σ2 H4=>∃ts:List Addr,ys=ts.map V.ref/\(∃y0,σ2=[y0,br dn])/\aC H3 H4/\H4 D=some (.lst ys)/\ts.length<=i/\Paired (λt h=>a9 K H4 t [.str h,.str h]) ts ((IG.take i).filter λz=>!decide (z∈hd aa)))
  ⟨[],rfl,⟨none,rfl⟩,ah hD _,ae,aI _,.nil⟩ (λi ys σ2 H4 _ h=>?_) (λi kv ys σ2 H4 ex h=>?_) (λys σ2 H4 h=>?_)
 .obtain⟨_,_,_,sm,_⟩:=h;exact sm _ _ e3
 .obtain⟨ts,rfl,⟨y0,rfl⟩,sm,e4,Oo,pt⟩:=h;obtain⟨z,ezz,ekz⟩:∃z,IG[i]?=some z/\kv.1=Sum.inr z:=by
   have a1:(pN.map (·.1))[i]?=some kv.1:=by rw [aZ,ex];rfl
   rw [kz,aZ] at a1;obtain⟨z,a2,a3⟩:=cf.mp a1;exact⟨z,a2,a3.symm⟩
  rw [ekz];have L4:=L3.same sm;have Hm:(a_ (ps.map iT) (Sum.inr z)).isSome=decide (z∈hd aa):=by
   rw [kc,d8,decide_eq_true_iff,<-pk];rw [iz];constructor
   .intro h;obtain⟨p,hp,e⟩:=cU.mp h;exact cU.mpr ⟨p,hp,kM e⟩
   intro h;obtain⟨p,hp,e⟩:=cU.mp h;exact cU.mpr ⟨p,hp,congrArg Sum.inr e⟩
  refine goN ?_;refine⟨_,rfl,_,rfl,dn,_,rfl,cm.k (k:=Sum.inr z) L4.nm.hd,_,rfl,?_⟩;rw [Hm];have Pw:((IG.take (i+1)).filter λz=>!decide (z∈hd aa))=((IG.take i).filter λz=>!decide (z∈hd aa))++(if (!decide (z∈hd aa))=true then [z] else []):=by
   rw [cV,ezz,oC]
   congr 1
   by_cases c:z∈hd aa <;> simp [c]
  refine dJ (λcc=>?_) (λcc=>?_)
  .refine⟨_,rfl,_,rfl,qf,λt ht=>?_⟩;have k5:=ah ht (.tup [kV (Sum.inr z),kV (Sum.inr z)]);have v5:a9 K (upd H4 t (.tup [kV (Sum.inr z),kV (Sum.inr z)])) t [.str z,.str z]:=a9.of ae;generalize upd H4 t (.tup [kV (Sum.inr z),kV (Sum.inr z)])=H5 at k5 v5;have li:=(bo.mp ex).1;have e5:=k5 _ _ e4;refine⟨e5,bQ (by rw [aB];omega),ts++[t],by rw [bI];rfl,⟨_,rfl⟩,λb u hb=>?_,ae,by rw [b9,pW];omega,?_⟩
   .rw [ai (λz=>by rw [z,hD] at hb;cases hb)];exact k5 _ _ (sm b u hb)
   rw [Pw,az cc];exact ft (Paired.eF pt λ_ _ z=>a7 e5 (k5.tup z)) (a7 e5 v5)
  refine⟨ts,rfl,⟨_,rfl⟩,sm,e4,∅,?_⟩;rw [Pw,aA cc,fV];exact pt
 obtain⟨ts,rfl,_,s4,e4,Oo,pt⟩:=h;rw [lkz,cE] at pt;have Xi:∀z,z∉hd aa->(g z).isSome=true->z∈IG.filter λz=>!decide (z∈hd aa):=λz hz gz=>by
  refine gL.mpr ⟨?_,by simpa using hz⟩;have a1:(a_ pN (Sum.inr z)).isSome=true:=by rw [vz,nU];exact gz
  rw [d8,kz] at a1;exact cH.mp a1
 have lws:(IG.filter λz=>!decide (z∈hd aa)).length<=20000:=cC (kn _ _) ∅;generalize IG.filter (λz=>!decide (z∈hd aa))=ws at pt Xi lws;have kp:Paired (λt (kv:aJ×V)=>a9 K H4 t [kV kv.1,kv.2]) ts (ws.map λh=>((Sum.inr h:aJ),V.str h)):=cA pt λ_ _ z=>z;refine⟨D,ts,_,rfl,e4,kp,λdt AQ=>?_⟩;have kt:∀z∈ws,(Sum.inr z:aJ)∈(cO (ws.map λh=>((Sum.inr h:aJ),V.str h)) []).map (·.1):=λz hz=>by
  rw [oj ws [] [] rfl];exact cH.mpr ((d_ ws [] z).mpr (.inr hz))
 have lkt:(cO (ws.map λh=>((Sum.inr h:aJ),V.str h)) []).length<=20000:=by
  have a:=congrArg List.length (oj ws [] [] rfl);rw [aB,aB] at a;have:=gk ws [];simp only [iC] at this;omega
 generalize cO (ws.map λh=>((Sum.inr h:aJ),V.str h)) []=Oz at kt lkt;have s5:=s4.trans (ah AQ (.dK Oz));have e5:upd H4 dt (.dK Oz) dt=some (.dK Oz):=ae;have IY:H3 dt=none:=s4.free AQ;generalize upd H4 dt (.dK Oz)=H5 at s5 e5;have L5:=L3.same s5;refine goN ?_
 ac_rfl
 refine⟨_,rfl,R,rs,aa,rfl,L5.hR,L5.cS,∅,λDH H6 fH s6 eH=>?_⟩;have L6:=L5.same s6;have CI:=gk (aa.map (·.1)) [];simp only [iC,aB] at CI;have gz:∀z∈hd aa,∃n,g z=some n:=λz hz=>by
  obtain⟨n,e,_⟩:=EH g QB WG z hz;exact⟨n,e⟩
 refine⟨L6.t3,DH,hd aa,dz,pN,λz=>(g z).getD 0,rfl,aG.of eH,by unfold hd;omega,rfl,L6.rz,λz hz=>by obtain⟨n,e⟩:=gz z hz;rw [vz,e];show _=some (V.int ((g z).getD 0));rw [e];rfl,λl Jp H7 s7 Zk fl pe pw el=>?_⟩;have L7:=L6.NS nT s7 Zk;have SV:dt≠T3:=λz=>by
  obtain⟨p,a,_⟩:=L5.t3;rw [<-z,e5] at a;cases a
 have e7:=s7 _ _ SV (s6 _ _ e5);have WV:dn≠dt:=λz=>by have a:=L3.nm.hd;rw [z,IY] at a;cases a
 have WQ:dz≠dt:=λz=>by rw [<-z,e3] at IY;cases IY
 have Kb:kJ T1 T3 H H7:=λb u n1 n3 hb=>s7 _ _ n3 (s6 _ _ (s5 _ _ (xP b u n1 n3 hb)));have SN:l≠dt:=λz=>by rw [z,s6 _ _ e5] at fl;cases fl
 have nn:=Kz QB;have hlz:Jp.length < 64:=by rw [pe.length_eq];unfold hd;omega
 have P8:∀ru∈aa,∀p∈ru.2,(g p).isSome=true:=λru gG p hp=>by
  by_cases hh:p∈hd aa
  .obtain⟨n,e⟩:=gz p hh;rw [e];rfl
  have j0:∃n,ph aa p=some n:=⟨0,az (pE _ _ [] p (.inr ⟨nQ.mpr ⟨ru,gG,hp⟩,hh⟩))⟩;have:∃n,g p=some n:=cI.keep (J:=λg=>∃n,g p=some n) (λg ru ⟨n,e⟩ m f=>by obtain⟨k,a,_⟩:=le_step f p n e;exact⟨k,a⟩) QB j0;obtain⟨n,e⟩:=this;rw [e];rfl
 have ll:=bF cS
 let sf:rP:=λi σ H8=>∃(kvs:List (aJ×V))(y3 y4:Option V),σ=[br R,br dn,br dt,y3,y4,br dz]/\fj dt H7 H8/\H8 dt=some (.dK kvs)/\kvs.length<=20000+i/\(∀z∈ws,(Sum.inr z:aJ)∈kvs.map (·.1))/\(∀z∈Jp.take i,(Sum.inr z:aJ)∈kvs.map (·.1))
 refine⟨l,rfl,⟨_,aG.of el⟩,dX (xs:=Jp.map V.str) sf ⟨Oz,_,_,rfl,λ_ _ _ h=>h,e7,∅,kt,λz hz=>by cases hz⟩ ?_ ?_ ?_⟩
 .rintro i σ H8 _ ⟨kvs,y3,y4,rfl,s8,_⟩;exact aG.of (s8 _ _ SN el)
 .rintro i x σ H8 ex ⟨kvs,y3,y4,rfl,s8,e8,Tt,TB,Oy⟩
  ac_nf0
  rw [aZ] at ex;obtain⟨z,Ra,rfl⟩:=cf.mp ex;have li:=(bo.mp Ra).1;have hz:z∈hd aa:=pe.mem_iff.mp (cb Ra);obtain⟨n,Ve⟩:=gz z hz;have L8:=L7.II e7 WV WQ s8;obtain⟨p,hp,Ug⟩:=cU.mp (show z∈ps.map (·.1) by rw [pk];exact hz);refine goN ?_
  ac_rfl
  have hgn:cm H8 dn (.str z) (some (.ref p.2)):=by
   have:=cm.k (k:=Sum.inr z) L8.nm.hd;rw [<-Ug,fY ps L8.nm.n1 p hp] at this;rw [Ug] at this;exact this
  have QY:=L8.nm.lst p hp;have QY:H8 p.2=some (.lst ((nums aa z aa.length).map V.int)):=by rw [<-Ug];exact QY
  have numOf:∀(m:Nat) (v:Int),(nums aa z aa.length)[m]?=some v->∃(j:Nat)(ru:ay),v=(j:Int)/\aa[j]?=some ru/\ru.1=z:=λm v e=>by
   unfold nums at e;rw [aZ] at e;obtain⟨j,e1,rfl⟩:=cf.mp e;have hj:=(gL.mp (cb e1)).2;have hj:(aa[j]?.map (·.1))=some z:=d6 hj;obtain⟨ru,e2,e3⟩:=cf.mp hj;exact⟨j,ru,rfl,e2,e3⟩
  have ZV:=wC aa z aa.length
  let good:Int->Bool:=λv=>match aa[v.toNat]? with | some ru=>decide (aM g ru=n) | none=>false
  have wit:∃v∈nums aa z aa.length,good v=true:=by
   obtain⟨ru,gG,q1,_,q3⟩:=B4 (RO aa) QB WG hz Ve;obtain⟨j,ej⟩:=d7 gG;have lj:=(bo.mp ej).1;refine⟨(j:Int),cU.mpr ⟨j,gL.mpr ⟨lM.mpr lj,cM (by rw [ej];exact congrArg some q1)⟩,rfl⟩,?_⟩;show (match aa[(j:Int).toNat]? with | some ru=>decide (aM g ru=n) | none=>false)=true
   rw [iD,ej];exact cM q3
  refine⟨_,rfl,_,rfl,dn,_,rfl,hgn,p.2,rfl,⟨_,aG.of QY⟩,λD9 Ci=>bR (xs:=(nums aa z aa.length).map V.int) (λm ys σ2 H9=>ys=(((nums aa z aa.length).take m).filter good).map V.int/\(∃y0,σ2=[y0,br dz,br R,some (.str z)])/\aC H8 H9/\H9 D9=some (.lst ys))
   ⟨rfl,⟨none,rfl⟩,ah Ci _,ae⟩ (λm ys σ2 H9 _ h=>?_) (λm x ys σ2 H9 em h=>?_) (λys σ2 H9 h=>?_)⟩
  .obtain⟨_,_,sm,_⟩:=h;exact aG.of (sm _ _ QY)
  .obtain⟨rfl,⟨y0,rfl⟩,sm,e9⟩:=h;rw [aZ] at em;obtain⟨v,ev,rfl⟩:=cf.mp em;have lm:=(bo.mp ev).1;obtain⟨j,ru,rfl,ej,Ri⟩:=numOf m v ev;have L9:=L8.same sm;obtain⟨r,er,rv⟩:=Paired.at_ L9.cS j ru ej;have P4:ir (rs.map V.ref) (j:Int)=some (.ref r):=bj (by rw [aZ,er];rfl);have gj:good (j:Int)=decide (V.int (aM g ru)=V.int n):=by
    show (match aa[(j:Int).toNat]? with | some ru=>decide (aM g ru=n) | none=>false)=_
    rw [iD,ej];show decide (aM g ru=n)=_;by_cases c:aM g ru=n
    .rw [cM c,cM (congrArg V.int c)]
    rw [ff c,ff (λy=>c (by injection y))]
   refine goN ?_;refine⟨_,rfl,_,rfl,_,rfl,R,_,_,_,rfl,rfl,L9.hR,P4,dz,r,pN,g,ru,rfl,L9.rz,vz,rv,h8 ru (cb ej),P8 ru (cb ej),λvP mr=>?_⟩;have hgz:cm vP dz (.str z) (some (.int n)):=by
    have:=cm.r (k:=Sum.inr z) (L9.same mr).rz;rw [vz,Ve] at this;exact this
   refine⟨_,rfl,_,rfl,dz,_,rfl,hgz,rfl,_,rfl,?_⟩;rw [<-gj];have Pw:((nums aa z aa.length).take (m+1)).filter good=((nums aa z aa.length).take m).filter good++(if good (j:Int)=true then [(j:Int)] else []):=by
    rw [cV,ev,oC]
    congr 1
    show List.filter good [(j:Int)]=_;by_cases c:good (j:Int)=true
    .rw [az c,ki,az c,List.filter_nil]
    rw [aA c,ki,aA c,List.filter_nil]
   have lf:(((nums aa z aa.length).take m).filter good).length<=1000:=cC (kn _ _) (by rw [c_];omega);refine dJ (λcc=>?_) (λcc=>?_)
   .refine⟨_,rfl,mr _ _ e9,bQ (by rw [aB];omega),by rw [Pw,az cc,bI];rfl,⟨_,rfl⟩,λb u hb=>?_,ae⟩;rw [ai (λz=>by rw [z,Ci] at hb;cases hb)];exact mr _ _ (sm b u hb)
   exact⟨by rw [Pw,aA cc,fV],⟨_,rfl⟩,sm.trans mr,mr _ _ e9⟩
  obtain⟨rfl,_,s9,e9⟩:=h;rw [aB,cE] at e9;refine goN ?_
  ac_rfl
  have L9:=L8.same s9;cases hf:(nums aa z aa.length).filter good with
  | nil =>
   obtain⟨v,hv,gv⟩:=wit;have:v∈(nums aa z aa.length).filter good:=gL.mpr ⟨hv,gv⟩;rw [hf] at this;cases this
  | cons v0 vr =>
   rw [hf] at e9;have O1:v0∈(nums aa z aa.length).filter good:=by rw [hf];exact bX
   obtain⟨O0,Q0⟩:=gL.mp O1;obtain⟨m0,em0⟩:=d7 O0;obtain⟨j,ru,rfl,ej,Ri⟩:=numOf m0 v0 em0;have hsz:aM g ru=n:=by
    have Q0:(match aa[(j:Int).toNat]? with | some ru=>decide (aM g ru=n) | none=>false)=true:=Q0
    rw [iD,ej] at Q0;exact d6 Q0
   have gG:=cb ej;obtain⟨r,er,pp,v1,v2⟩:=Paired.at_ L9.cS j ru ej;have P4:ir (rs.map V.ref) (j:Int)=some (.ref r):=bj (by rw [aZ,er];rfl);have xC:ir (V.int (j:Int)::vr.map V.int) 0=some (.int (j:Int)):=bj (j:=0) rfl;have e9:H9 D9=some (.lst (V.int (j:Int)::vr.map V.int)):=e9;have e89:=s9 _ _ e8;have r8:=h8 ru gG;have TJ:∀p∈ru.2,(Sum.inr p:aJ)∈kvs.map (·.1):=λy hy=>by
    obtain⟨my,ey⟩:=kq.mp (P8 ru gG y hy);by_cases hh:y∈hd aa
    .refine Oy y (uM pw Ra (pe.mem_iff.mpr hh) ?_);show (g y).getD 0 < (g z).getD 0;rw [ey,Ve];show my < n;rw [<-hsz];exact Bz nn hy ey
    exact TB y (Xi y hh (by rw [ey];rfl))
   refine⟨_,rfl,D9,_,_,_,rfl,rfl,aG.of e9,xC,_,rfl,_,rfl,D9,_,_,_,rfl,rfl,aG.of e9,xC,R,_,_,_,rfl,rfl,L9.hR,P4,r,_,_,_,rfl,rfl,v1,rfl,pp,rfl,⟨_,v2⟩,λWk UY=>rf (zs:=ru.2) rfl v2 ∅ e89 TJ UY λys vP ly mr CM=>?_⟩;refine⟨Wk,ys,rfl,.inl ⟨aG.of CM,λt2 U1=>⟨qf,λEl LD=>?_⟩⟩⟩;have Xc:=(ah U1 (.tup ys)).trans (ah LD (.tup [.int (j:Int),.ref t2]));generalize upd (upd vP t2 (.tup ys)) El (.tup [.int (j:Int),.ref t2])=Bg at Xc;have NW:=(s9.trans mr).trans Xc;have F4:=NW _ _ e8;refine⟨_,rfl,_,rfl,dt,_,rfl,.inl ⟨kvs,Sum.inr z,F4,rfl,bQ ∅,rfl⟩,?_⟩;have Ew:∀y:aJ,(y∈kvs.map (·.1)\/y=Sum.inr z)->y∈(bC kvs (Sum.inr z) (.ref El)).map (·.1):=λy hy=>by
    by_cases hk:(Sum.inr z:aJ)∈kvs.map (·.1)
    .rw [yK hk];rcases hy with hy | rfl
     .exact hy
     exact hk
    rw [gQ hk];rcases hy with hy | rfl
    .exact lX _ hy
    exact fN _ bX
   have aab:(bC kvs (Sum.inr z) (.ref El)).length<=kvs.length+1:=by
    have a:=congrArg List.length (Eq.refl ((bC kvs (Sum.inr z) (.ref El)).map (·.1)));by_cases hk:(Sum.inr z:aJ)∈kvs.map (·.1)
    .have b:=congrArg List.length (yK (v:=.ref El) hk);rw [aB,aB] at b;omega
    have b:=congrArg List.length (gQ (v:=.ref El) hk);rw [aB,b9,aB,pW] at b;omega
   refine⟨_,_,_,rfl,λb u nb hb=>?_,ae,∅,λy hy=>Ew _ (.inl (TB y hy)),λy hy=>?_⟩
   .rw [ai nb];exact NW _ _ (s8 b u nb hb)
   rw [cV,Ra] at hy;rcases bq.mp hy with hy | hy
   .exact Ew _ (.inl (Oy y hy))
   exact Ew _ (.inr (by rw [bE.mp (show y∈[z] from hy)]))
 rintro σ H8 ⟨kvs,y3,y4,rfl,s8,e8,Tt,TB,Oy⟩;rw [aB,cE] at Oy;have L8:=L7.II e7 WV WQ s8;refine⟨_,rfl,q dt kvs H8 ?_ (λb u n1 n3 hb=>?_) L8.t1 L8.t3 e8 λz hz=>Oy z (pe.mem_iff.mpr hz)⟩
 .cases c:H dt with
  | none=>rfl
  | some u =>
   by_cases h1:dt=T1
   .obtain⟨pp,a,_⟩:=L3.t1;rw [<-h1,IY] at a;cases a
   rw [xP dt u h1 SV c] at IY;cases IY
 refine s8 _ _ (λz=>?_) (Kb b u n1 n3 hb);rw [z] at hb;rw [xP dt u (λy=>n1 (z.trans y)) SV hb] at IY;cases IY
end
end eX
namespace L2
open PySem PySem.Spec PyProof.Rows
section
variable {prog:Program}{w:World}{A:Around}{E:Value->Shared->Prop}
def uI {h h':Heap}{ks:List aJ}{a:Addr}(p:(tupleKind (aY prog w)).is h ks a)(k:∀b o,o.cls=.type "tuple" -> h.get? b=some o->h'.get? b=some o):(tupleKind (aY prog w)).is h' ks a :=
 let ⟨o,aO,n,h1,h2,h3,h4⟩:=p;⟨o,aO,n,k a o h2 h1,h2,h3,h4⟩
def vA {h h':Heap}{d:Addr}{xs:List (List aJ×Addr×Value)}(hd:h.DictOfH (tupleKind (aY prog w)) d xs)(kd:∀o,h.get? d=some o->h'.get? d=some o)(k:∀b o,o.cls=.type "tuple" -> h.get? b=some o->h'.get? b=some o) :
  h'.DictOfH (tupleKind (aY prog w)) d xs :=
 let ⟨o,es,ep,q,c,dd,e,is,n⟩:=hd;⟨o,es,ep,kd o q,c,dd,e,λx hx=>uI (is x hx) k,n⟩
def j5 (prog:Program)(w:World)(h:Heap)(u:Value)(kv:List aJ×Addr×Value):Prop :=
 ∃t n o,u=.ref t/\(tupleKind (aY prog w)).is h kv.1 kv.2.1/\h.get? t=some o/\o.cls=.type "tuple" /\ o.data=.seq #[.ref kv.2.1,kv.2.2] n
def j5.keep {h h':Heap}{u:Value}{kv:List aJ×Addr×Value}(p:j5 prog w h u kv)(k:∀b o,o.cls=.type "tuple" -> h.get? b=some o->h'.get? b=some o):j5 prog w h' u kv :=
 let ⟨t,n,o,a,b,c,d,e⟩:=p;⟨t,n,o,a,uI b k,k t o d c,d,e⟩
def AX (more xs:List (List aJ×Addr×Value)):List (List aJ×Addr×Value):=more.foldl (λa p=>storedH a p.1 p.2.1 p.2.2) xs
def HL {R:Result->Shared->Prop}{d it l:Addr}{items:Array Value}(hh:A.handled=none)(hu:A.units+1 < cLine):∀(more:List (List aJ×Addr×Value)) (i:Nat)(s:Shared)(kvs:List (List aJ×Addr×Value)) (j:Int)(tk:Tok),items.size=i+more.length ->
  s.heap.DictOfH (tupleKind (aY prog w)) d kvs->s.heap.IsListIter it l i->s.heap.IsList l items->(∀m kv,more[m]?=some kv->∃u,items[i+m]?=some u/\j5 prog w s.heap u kv)->kvs.length+more.length<=sizeLine ->
  (∀h' t',h'.DictOfH (tupleKind (aY prog w)) d (AX more kvs)->(∀b o,b≠d->b≠it->s.heap.get? b=some o->h'.get? b=some o)->R (.ok (.ret .none)) { s with heap:=h',toks:=t' }) ->
  codeAny (model prog w) A (.builtin "dict.update.loop" ⟨[.ref d,.ref it,.int j tk,.none],[]⟩) R s:=by
 intro more
 induction more with
 | nil =>
  intro i s kvs j tk hi hd hit hl hp hz hR;refine jE jZ ?_;rw [oE eJ _];unfold Builtin.«dict.update.loop»;have hs:items[i]?=none:=Array.getElem?_eq_none (by rw [hi];exact aI _);refine ax (uq hh hit hl hs λh1 eb=>?_);have nd:d≠it:=λz=>by
   obtain⟨o,_,_,q,_,c,_⟩:=hd;obtain⟨o',q',_,c'⟩:=hit;rw [z,q'] at q;cases q;rw [c'] at c;cases c
  have nt:∀b o,o.cls=.type "tuple" -> s.heap.get? b=some o->b≠it:=λb o c q z=>by
   obtain⟨o',q',c',_⟩:=hit;rw [z,q'] at q;cases q;rw [c'] at c;exact absurd c nofun
  show wpAny _ _ (Builtin.Dict.addKeywords d [] >>= _) _ _ _;exact ax (aD (aD (hR h1 s.toks (vA hd (λo q=>eb d o nd q) λb o c q=>eb b o (nt b o c q) q) λb o n1 n2 q=>eb b o n2 q)))
 | cons kv more ih =>
  intro i s kvs j tk hi hd hit hl hp hz hR;refine jE jZ ?_;rw [oE eJ _];unfold Builtin.«dict.update.loop»;obtain⟨u,hu1,t,n,o,rfl,hk,ho,hc,AQ⟩:=hp 0 kv rfl;refine ax (wpAny_pyNext_list_item hit hl hu1 λh1 TL sb=>?_);have nd:d≠it:=λz=>by
   obtain⟨o,_,_,q,_,c,_⟩:=hd;obtain⟨o',q',_,c'⟩:=hit;rw [z,q'] at q;cases q;rw [c'] at c;cases c
  have n2:∀b o,(o.cls=.type "tuple" \/ o.cls=.type "list")->s.heap.get? b=some o->b≠d/\b≠it:=by
   intro b o c q;constructor
   .intro z;obtain⟨o',q',c'⟩:=hd.typeIs;rw [z,q'] at q;cases q;rw [c'] at c;rcases c with c | c <;> exact absurd c nofun
   intro z;obtain⟨o',q',c',_⟩:=hit;rw [z,q'] at q;cases q;rw [c'] at c;rcases c with c | c <;> exact absurd c nofun
  have nt:∀b o,o.cls=.type "tuple" -> s.heap.get? b=some o->b≠d/\b≠it:=λb o c q=>n2 b o (.inl c) q;have nl:l≠d/\l≠it:=by
   obtain⟨o,q,c,_⟩:=hl;exact n2 l o (.inr c) q
  have TF:∀b o,o.cls=.type "tuple" -> s.heap.get? b=some o->h1.get? b=some o:=λb o c q=>(sb.2 b (nt b o c q).2).trans q;have OX:h1.get? t=some o:=TF t o hc ho;have Pc:h1.DictOfH (tupleKind (aY prog w)) d kvs:=vA hd (λo q=>(sb.2 d nd).trans q) TF;refine ax (fK (ax (iX ?_)));unfold Builtin.Dict.pairItems;refine ax (ik (T := "tuple") ⟨o,OX,hc⟩ ?_);rw [az nofun];refine ax (jD OX AQ (aD ?_));show wpAny _ _ (holding [.ref kv.2.1,kv.2.2] (dictSet d (.ref kv.2.1) kv.2.2)) _ _ _;rw [dC] at hz hi;refine fK (wpAny_dictSet_heap (s:={ s with heap:=h1 }) (nS hu) (uI hk TF) Pc (λh2 hd2 NU=>?_) ∅);have kk:∀b o,b≠d->b≠it->s.heap.get? b=some o->h2.get? b=some o:=λb o n1 n2 q=>(NU.2 b n1).trans ((sb.2 b n2).trans q);have ln:(storedH kvs kv.1 kv.2.1 kv.2.2).length<=kvs.length+1:=by
   unfold storedH
   split
   .simp
   simp
  refine aD ⟨kb eJ _,ih (i+1) _ _ _ _ ∅ hd2 (TL.at λo q=>(NU.2 it (eV nd)).trans q) (hl.at λo q=>kk l o nl.1 nl.2 q) (λm TC e=>?_) ∅ λh3 t3 gO k3=>?_⟩
  .obtain⟨u',e1,e2⟩:=hp (m+1) TC e;exact⟨u',by rw [<-e1];congr 1;omega,e2.keep λb o c q=>kk b o (nt b o c q).1 (nt b o c q).2 q⟩
  exact hR h3 t3 gO λb o n1 n2 q=>k3 b o n1 n2 (kk b o n1 n2 q)
def pB {s:Shared}{l:Addr}{items:Array Value}{n:Nat}{more:List (List aJ×Addr×Value)}{Q:Value->Shared->Prop}(hh:A.handled=none)(hu:A.units+2 < cLine)(hx:s.heap.get? l=some { cls:=.type "list",data:=.seq items n })
  (hi:items.size=more.length)(hp:∀(m:Nat) kv,more[m]?=some kv->∃u,items[m]?=some u/\j5 prog w s.heap u kv)(hz:more.length<=sizeLine)
  (h:∀h' t',h'.DictOfH (tupleKind (aY prog w)) s.heap.objs.size (AX more [])->(∀b o,s.heap.get? b=some o->h'.get? b=some o)->Q (.ref s.heap.objs.size) { s with heap:=h',toks:=t' }) :
  wpAny (model prog w) A (call (.type "dict") [.ref l]) Q E s:=by
 refine callType_codes (Q₁:=λobj s₁=>obj=.ref s.heap.objs.size/\s₁={ s with heap:=s.heap.push { cls:=.type "dict",data:=.dict #[] } }) F.kt_called_dict (F.kt_typeCall_dict_1 _) F.entry_dict_init (kt_code_dict_new _ ⟨rfl,rfl⟩) ?_;rintro obj s₁ ⟨rfl,rfl⟩;have ze:(s.heap.push { cls:=.type "dict",data:=.dict #[] }).DictOfH (tupleKind (aY prog w)) s.heap.objs.size []:=Heap.DictOfH.new s.heap;have l0:=bD { cls:=.type "dict",data:=.dict #[] } hx;refine⟨ze.typeIs,F.args_dict_init_2 _ _,?_⟩;unfold Builtin.«dict.__init__» Builtin.Dict.selfAndRest;refine ax (ax (wpAny_notOrdered_dict ze.typeIs (aD ?_)));show wpAny _ _ (Builtin.Dict.updateFrom "dict.__init__" s.heap.objs.size (.ref l) [] .none) _ _ _;unfold Builtin.Dict.updateFrom;refine ax (ik (T := "list") ⟨_,l0,rfl⟩ ?_);rw [az yj];refine ax (oi l0 hh λh1 t1 k1=>?_);refine ax (wpAny_rule ?_);have l1:=k1 _ _ l0;refine ax (kQ ⟨_,l1,rfl,_,rfl⟩ ?_);have k2:∀b o,s.heap.get? b=some o->(h1.push { cls:=.type "list_iterator",data:=.fields #[.ref l,.int 0 0] }).get? b=some o:=λb o q=>bD _ (k1 _ _ (bD _ q));refine aD ⟨kb eJ _,HL (A:=A.in1) (l:=l) (items:=items) (show A.in1.handled=none from hh) (show A.in1.units+1 < cLine by rw [Around.in1_units];omega) more 0 _ [] _ _ (by rw [hi,kN]) ?_ ⟨_,cQ _ rfl,rfl,rfl⟩ ⟨_,k2 _ _ hx,rfl,n,rfl⟩ (λm kv e=>?_) (by simpa using hz) λh' t' hd k3=>?_⟩
 .exact vA ze (λo q=>bD _ (k1 _ _ q)) λb o _ q=>bD _ (k1 _ _ q)
 .obtain⟨u,e1,e2⟩:=hp m kv e;exact⟨u,by rw [kN];exact e1,e2.keep λb o _ q=>k2 b o q⟩
 refine⟨rfl,h h' t' hd λb o q=>k3 b o (bB (aW q)) ?_ (k2 b o q)⟩;have:=aW (k1 _ _ (bD { cls:=.type "dict",data:=.dict #[] } q));exact bB this
end
def nh (kvs bA:List (List aJ×V)):List (List aJ×V):=kvs.foldl (λa p=>bC a p.1 p.2) bA
theorem tH {H:Hp}:∀{kvs:List (List aJ×V)}{vs:List (List aJ×Addr×Value)}{bA:List (List aJ×V)}{Fl:List (List aJ×Addr×Value)},KT H kvs vs->KT H bA Fl->KT H (nh kvs bA) (AX vs Fl)
 | _,_,_,_,.nil,h=>h
 | _,_,_,_,.cons (a:=p) (b:=q) r t,h=>by
  obtain⟨e,hb,rv⟩:=r;show KT H (nh _ (bC _ p.1 p.2)) (AX _ (storedH _ q.1 q.2.1 q.2.2));rw [<-e];exact tH t (h.put p.1 hb rv)
theorem tI:∀(kvs bA:List (List aJ×V)),(nh kvs bA).length<=bA.length+kvs.length
 | [],bA=>by simp [nh]
 | p::r,bA=>by
  have:=tI r (bC bA p.1 p.2);have:=eG bA p.1 p.2;show (nh r (bC bA p.1 p.2)).length<=_;rw [dC];omega
section
variable {X:Cx}{ag:List (Addr×Obj)}{σ:St}{H:Hp}{s:Shared}
abbrev Nh (K:aV)(H:Hp)(t:Addr)(kv:List aJ×V):Prop:=∃b,a9 K H t [.ref b,kv.2]/\H b=some (.tup (kv.1.map kV))
theorem sO (I:Inv X ag σ H s):∀{ts:List Addr}{kvs:List (List aJ×V)}{aO:List Value},Paired (Nh X.K H) ts kvs->aS (ts.map V.ref) aO ->
  ∃vs:List (List aJ×Addr×Value),KT H kvs vs/\Paired (λu kv=>j5 X.prog X.w s.heap u kv) aO vs
 | [],_,_,.nil,r=>by
  rw [jy] at r;cases r;exact⟨[],.nil,.nil⟩
 | t::ts,kv::kvs,_,.cons h p,r=>by
  rw [bG] at r;cases r with
  | cons r1 r2 =>
   obtain⟨vs,e1,e2⟩:=sO I p r2;obtain⟨b,h0,hb⟩:=h;obtain⟨aO,rv,⟨o,h1,h2,n,h3⟩,_⟩:=I.tuple h0;obtain⟨u1,u2,rfl,q1,q2⟩:=vals2 rv;cases (show u1=Value.ref b from q1);exact⟨(kv.1,b,u2)::vs,.cons ⟨rfl,hb,q2⟩ e1,.cons ⟨t,n,o,r1,lg I.bH hb,h1,h2,h3⟩ e2⟩
def xB (hc:X.calm=true)(hu:X.A.units+2 < cLine):fA X (.type "dict") (λxs H Q=>∃a ts kvs,xs=[.ref a]/\H a=some (.lst (ts.map V.ref))/\Paired (Nh X.K H) ts kvs/\∀d,H d=none->Q (.ref d) (upd H d (.dT (nh kvs [])))):=by
 intro ag s σ H xs us Q I r h;obtain⟨a,ts,kvs,rfl,e,p,q⟩:=h;obtain⟨u,rfl,rx⟩:=vals1 r;cases (show u=Value.ref a from rx);obtain⟨z,aO,n,rv,ho⟩:=(show bV X.prog X.w H s.heap a (.lst _) from I.bH a _ e);obtain⟨vs,r1,r2⟩:=sO I p rv;have l1:=bF r2;have l2:=bF r1;have l3:=bF p;rw [aB] at z;refine pB (I.ok.hd hc) hu ho (by simpa using l1) (λm kv em=>?_) ∅ λh' t' hd kk=>?_
 .obtain⟨u,e1,e2⟩:=Paired.at_ r2 m kv em;exact⟨u,by simpa using e1,e2⟩
 have fr:=I.bH.fresh (aI s.heap.objs.size);have new:bV X.prog X.w (upd H s.heap.objs.size (.dT (nh kvs []))) h' s.heap.objs.size (.dT (nh kvs [])):=by
  obtain⟨o,es,ep,hq,h2,h3,h4,_,h5⟩:=hd;refine⟨?_,?_,_,(tH r1 .nil).keeps λc ys ec=>?_,o,es,ep,hq,h2,h3,h4,h5⟩
  .have:=tI kvs [];simp at this;omega
  .have:=I.big;exact jv.mpr (jq this)
  rw [ai (au ec fr)];exact ec
 exact⟨.ref s.heap.objs.size,_,I.laid (t':=t') kk (aI _) new,rfl,q _ fr⟩
end
open PySem M11
def Cu {K:aV}{H:Hp}{bg D:Addr}{ts:List Addr}{cw:List Be}{σ:St}{x1 x2 x3 x4:Str}{Qp:Hp->Prop}(hb:aG K H bg (ts.map V.ref))(MR:Paired (λt (b:Be)=>a9 K H t [.str b.1,.str b.2.1,.int (b.2.2.1:Int),.int (b.2.2.2:Int)]) ts cw)(a8:cw.length<=900000)(hD:H D=none)
  (q:∀us H2,aC H H2->H2 D=some (.lst (us.map V.ref))->Paired (λu (b:Be)=>∃v,Nh K H2 u ([Sum.inr b.1,Sum.inr b.2.1],.ref v)) us cw->Qp H2) :
  ∃W:Nat->Nat->List V->St->Hp->Prop,(∃m,W 0 m [] (df [x1,x2,x3,x4] [] σ) (upd H D (.lst []))) /\
 ∀i m ys σ' H,W i m ys σ' H->((iS K bg).stop i H/\Qp H)\/((iS K bg).go i H/\∃m',m' < m/\∀x H',(iS K bg).kR i H x H'->Cj K 4 (jO (du 0) (jO (du 1) (jO (du 2) (jO (du 3) ET)))) x σ' H' λσ2 H2=>g6 σ2 H2 λb H3 =>
  if b=true then rQ (fu (rQ (fu (fk 0) (fu (fk 1) oZ))) (fu (rQ (fu (fk 2) (fu (fk 3) oZ))) oZ)) σ2 H3 λy H4=>H4 D=some (.lst ys)/\ys.length < sizeLine/\W (i+1) m' (ys++[y]) σ2 (upd H4 D (.lst (ys++[y]))) else W (i+1) m' ys σ2 H3):=by
 have ll:=bF MR;refine bR (xs:=ts.map V.ref) (λi ys σ2 H2=>∃us:List Addr,ys=us.map V.ref/\us.length=i/\Paired (λu (b:Be)=>∃v,Nh K H2 u ([Sum.inr b.1,Sum.inr b.2.1],.ref v)) us (cw.take i)/\(∃y0 y1 y2 y3,σ2=[y0,y1,y2,y3])/\aC H H2/\H2 D=some (.lst ys))
  ⟨[],rfl,rfl,.nil,⟨none,none,none,none,rfl⟩,ah hD _,ae⟩ (λi ys σ2 H2 _ h=>?_) (λi x ys σ2 H2 ex h=>?_) (λys σ2 H2 h=>?_)
 .obtain⟨_,_,_,_,_,sm,_⟩:=h;exact sm.seq hb
 .obtain⟨us,rfl,hu,hp,⟨y0,y1,y2,y3,rfl⟩,sm,hd⟩:=h;rw [aZ] at ex;obtain⟨r,er,rfl⟩:=cf.mp ex;have lr:=(bo.mp er).1;obtain⟨b,e1⟩:∃b,cw[i]?=some b:=⟨cw[i]'∅,cZ ∅⟩;obtain⟨r',A0,v1⟩:=Paired.at_ MR i b e1;rw [er] at A0;cases A0;have li:=(bo.mp e1).1;refine⟨r,_,rfl,sm.tup v1,rfl,_,_,rfl,_,_,rfl,_,_,rfl,_,_,rfl,rfl,?_⟩;refine vq ?_;refine⟨_,rfl,_,rfl,qf,λk hk=>⟨_,rfl,_,rfl,qf,λv hv=>⟨qf,λu Xl=>?_⟩⟩⟩;have s3:=(ah hk (.tup [V.str b.1,V.str b.2.1])).trans ((ah hv (.tup [V.int (b.2.2.1:Int),V.int (b.2.2.2:Int)])).trans (ah Xl (.tup [.ref k,.ref v])));have ek:=((ah hv (.tup [V.int (b.2.2.1:Int),V.int (b.2.2.2:Int)])).trans (ah Xl (.tup [.ref k,.ref v]))) k _ ae;have eu:a9 K (upd (upd (upd H2 k (.tup [V.str b.1,V.str b.2.1])) v (.tup [V.int (b.2.2.1:Int),V.int (b.2.2.2:Int)])) u (.tup [.ref k,.ref v])) u [.ref k,.ref v]:=a9.of ae;generalize upd (upd (upd H2 k (.tup [V.str b.1,V.str b.2.1])) v (.tup [V.int (b.2.2.1:Int),V.int (b.2.2.2:Int)])) u (.tup [.ref k,.ref v])=H4 at s3 ek eu;have rO:=s3 _ _ hd;refine⟨rO,bQ (by rw [aB];omega),us++[u],by rw [bI];rfl,by rw [b9,hu];rfl,?_,⟨_,_,_,_,rfl⟩,?_,ae⟩
  .rw [cV,e1];have kD:k≠D:=λz=>by rw [z,rO] at ek;cases ek
   refine ft (Paired.eF hp λu' b' aT=>?_) ⟨v,k,a7 rO eu,by rw [ai kD];exact ek⟩;obtain⟨v',bb,p1,p2⟩:=aT;exact⟨v',bb,a7 rO (s3.tup p1),by rw [ai (λz=>by rw [z,hd] at p2;cases p2)];exact s3 _ _ p2⟩
  intro c o hc;rw [ai (λz=>by rw [z,hD] at hc;cases hc)];exact s3 _ _ (sm c o hc)
 obtain⟨us,rfl,hu,hp,_,sm,hd⟩:=h;rw [aB,ll,cE] at hp;exact q us H2 sm hd hp
theorem DG {K:aV}{H:Hp}:∀{us:List Addr}{cw:List Be},Paired (λu (b:Be)=>∃v,Nh K H u ([Sum.inr b.1,Sum.inr b.2.1],.ref v)) us cw->∃kvs,Paired (Nh K H) us kvs
 | _,_,.nil=>⟨[],.nil⟩
 | _,_,.cons ⟨v,h⟩ t=>let ⟨kvs,p⟩:=DG t;⟨_::kvs,.cons h p⟩
end L2
namespace eX
open PySem L2 M11
def Tab.s2 {T T1 T2:Addr}{p p1 p2:Pos}{q q1 q2:Str}{H H':Hp}(h:Tab T p q H)(s:kJ T1 T2 H H')(t1:Tab T1 p1 q1 H)(t2:Tab T2 p2 q2 H)(n1:T≠T1)(n2:T≠T2):Tab T p q H':=by
 obtain⟨ps,a,b,c⟩:=h;obtain⟨QJ,b1,_⟩:=t1;obtain⟨Mw,b2,_⟩:=t2;refine⟨ps,s _ _ n1 n2 a,b,c.imp id ?_⟩;rintro⟨c',e,g⟩;exact⟨c',e,s _ _ (λz=>by rw [z,b1] at g;cases g) (λz=>by rw [z,b2] at g;cases g) g⟩
def jG {T a C dx:Addr}{pos:Pos}{qu:Str}{H:Hp}{fs:List (Str×V)}{o:HO}(h:Tab T pos qu H)(ha:H a=some (.ins C dx fs)):Tab T pos qu (upd H a o):=by
 obtain⟨ps,p,r,c⟩:=h;refine⟨ps,by rw [ai (λz=>by rw [z,ha] at p;cases p)];exact p,r,c.imp id ?_⟩;rintro⟨c',e,g⟩;exact⟨c',e,by rw [ai (λz=>by rw [z,ha] at g;cases g)];exact g⟩
def Kp (H H':Hp):Prop:=∀b o,H b=some o->(∀ps,o≠.rN ps)->H' b=some o
def Kp.trans {H H1 H2:Hp}(a:Kp H H1)(b:Kp H1 H2):Kp H H2:=λc o h n=>b c o (a c o h n) n
def Kp.of {H H':Hp}(s:aC H H'):Kp H H':=λb o h _=>s b o h
def Kp.of2 {T1 T2:Addr}{p1 p2:Pos}{q1 q2:Str}{H H':Hp}(s:kJ T1 T2 H H')(t1:Tab T1 p1 q1 H)(t2:Tab T2 p2 q2 H):Kp H H':=λc o hc hn=>by
 obtain⟨QJ,b1,_⟩:=t1;obtain⟨Mw,b2,_⟩:=t2;exact s c o (λz=>by rw [z,b1] at hc;cases hc;exact hn _ rfl) (λz=>by rw [z,b2] at hc;cases hc;exact hn _ rfl) hc
section
theorem Kp.lst {H H':Hp}(k:Kp H H'){a:Addr}{xs:List V}(h:H a=some (.lst xs)):H' a=some (.lst xs):=k a _ h (λ_ z=>by cases z)
def Kp.tup {H H':Hp}(k:Kp H H'){a:Addr}{xs:List V}(h:a9 K H a xs):a9 K H' a xs:=by
 rcases h with (h | ⟨u,h⟩) | h
 .exact .inl (.inl (k _ _ h (λ_ z=>by cases z)))
 .exact .inl (.inr ⟨u,k _ _ h (λ_ z=>by cases z)⟩)
 exact .inr h
def Kp.seq {H H':Hp}(k:Kp H H'){a:Addr}{xs:List V}(h:aG K H a xs):aG K H' a xs:=by
 rcases h with (h | ⟨u,h⟩) | h
 .exact .inl (.inl (k _ _ h (λ_ z=>by cases z)))
 .exact .inl (.inr ⟨u,k _ _ h (λ_ z=>by cases z)⟩)
 exact .inr h
theorem Kp.aa {H H':Hp}(k:Kp H H'){rs:List Addr}{aa:List ay}(h:bJ K H rs aa):bJ K H' rs aa:=h.keep λ_ _ z=>k.tup z
abbrev yz:Stmt:=Hd Zu 0
structure LC (K:aV)(C:Addr):Prop where
 cls:Bi K C
 a1:cX K C "rules"
 a2:cX K C "empty"
 a3:cX K C "least"
 a4:cX K C "hollow"
 a5:cX K C "beginnings"
structure CT (C3 T1 T3:Addr)(H0 H:Hp)(a dx:Addr)(fs:List (Str×V)):Prop where
 sm:kJ T1 T3 H0 H
 ia:H a=some (.ins C3 dx fs)
 fa:H0 a=none
 t1:Tab T1 qH.2.2.2 xQ H
 t3:Tab T3 posB FI H
 o1:Tab T1 qH.2.2.2 xQ H0
 o3:Tab T3 posB FI H0
def CT.kp {C3 T1 T3 a dx:Addr}{H0 H:Hp}{fs:List (Str×V)}(h:CT C3 T1 T3 H0 H a dx fs):Kp H0 H:=Kp.of2 h.sm h.o1 h.o3
def CT.set {C3 T1 T3 a dx:Addr}{H0 H:Hp}{fs:List (Str×V)}(h:CT C3 T1 T3 H0 H a dx fs)(FT:List (Str×V)):CT C3 T1 T3 H0 (upd H a (.ins C3 dx FT)) a dx FT :=
 ⟨λb o n1 n3 hb=>by rw [ai (λz=>by rw [z,h.fa] at hb;cases hb)];exact h.sm b o n1 n3 hb,ae,h.fa,jG h.t1 h.ia,jG h.t3 h.ia,h.o1,h.o3⟩
def CT.next {C3 T1 T3 a dx:Addr}{H0 H H':Hp}{fs:List (Str×V)}(h:CT C3 T1 T3 H0 H a dx fs)(s:aC H H'):CT C3 T1 T3 H0 H' a dx fs :=
 ⟨λb o n1 n3 hb=>s _ _ (h.sm b o n1 n3 hb),s _ _ h.ia,h.fa,h.t1.same s,h.t3.same s,h.o1,h.o3⟩
def CT.Od {C3 T1 T3 a dx:Addr}{H0 H H':Hp}{fs:List (Str×V)}(h:CT C3 T1 T3 H0 H a dx fs)(s:kJ T1 T3 H H')(t1:Tab T1 qH.2.2.2 xQ H')(t3:Tab T3 posB FI H'):CT C3 T1 T3 H0 H' a dx fs :=
 ⟨λb o n1 n3 hb=>s _ _ n1 n3 (h.sm b o n1 n3 hb),Kp.of2 s h.t1 h.t3 _ _ h.ia (λ_ z=>by cases z),h.fa,t1,t3,h.o1,h.o3⟩
def Ap (K:aV)(C C3 T1 T3:Addr):Sp:=λvs H Q _=>∃(H0 Hb:Hp)(a dx R x e d bg:Addr)(rs:List Addr)(aa:List ay)(kE:List (aJ×V))(aR:List (Str×Nat))(ps:List (Str×Addr))(cw:List Be),vs=[.ref a,.ref R,.ref x]/\aC H0 H/\H0 a=none/\H a=some (.ins C3 dx [])/\aG K H0 R (rs.map V.ref)/\bJ K H0 rs aa /\
 aa.length < 64/\(∀ru∈aa,ru.2.length<=8)/\(∀g,cI M11.bl aa (ph aa) g->eh M11.bl aa g->∀h∈hd aa,∃n,g h=some n/\n<=60)/\si K C Hb H0 x e d bg kE aR ps cw/\pD aa aR/\cw.length<=80000/\Tab T1 qH.2.2.2 xQ H0/\Tab T3 posB FI H0/\T1≠T3 /\
 ∀H',kJ T1 T3 H0 H'->Tab T1 qH.2.2.2 xQ H'->Tab T3 posB FI H'->Q .dI H'
def Gn:aH ["self","rules","begin_table"] ["self","rules","begin_table"] (av yz):=iw rfl rfl rfl rfl nofun
def Ec {C C3 T1 T3:Addr}(F:gX K "__init__" "LeastTrees.__init__" yz f fd)(T:Txt mg)(B:BC K C)(L:LC K C3)(GL:aK P w K mg base 4 "least_by_part" ["rules"] (nY K T1 T3))(GE:aK P w K mg base 4 "empty_by_name" ["rules","empties"] (sG K)) :
  ba P w K mg base fc 5 f fd ["self","rules","begin_table"] (Ap K C C3 T1 T3):=by
 refine F.ok Gn (λvs H Q E h=>?_) (λdw A outer s H vs Q E hr h=>?_)
 .obtain⟨H0,Hb,a,dx,R,x,e,d,bg,rs,aa,kE,aR,ps,cw,rfl,_⟩:=h;rfl
 obtain⟨H0,Hb,a,dx,R,x,e,d,bg,rs,aa,kE,aR,ps,cw,rfl,s0,f0,ea,hR,cS,a8,h8,EH,S,emp,KN,t1,t3,nT,q⟩:=h;have hu:=pT (Nat.add_le_add_left (by decide:2<=64) _) hr.units;refine⟨_,aj (fP (pv 0) (pv 1) rfl)
  (aj (fP (pv 0) (dZ (pv 2) rfl) rfl)
  (aj (fP (pv 0) (bU GL hr rfl (af (pv 1) ak)) rfl)
  (aj (fP (pv 0) (bU GE hr rfl (af (pv 1) (af (dZ (pv 2) rfl) ak))) rfl)
  (ao (fP (pv 0) (bc (xB rfl hu) rfl T.A4 fh (af (bK ["name","word","number","place"] [] rfl (bx (dZ (pv 2) rfl)) (bh rfl rfl) nofun rfl nofun
   (λ_ _ _ _ _=>i5 (n:=4) K rfl (aE (aw (i:=0) (show (["name","word","number","place"]:List Str).Nodup by decide +kernel) rfl (bM rfl)) (aE (aw (i:=1) (show (["name","word","number","place"]:List Str).Nodup by decide +kernel) rfl (bM rfl)) (aE (aw (i:=2) (show (["name","word","number","place"]:List Str).Nodup by decide +kernel) rfl (bM rfl)) (aE (aw (i:=3) (show (["name","word","number","place"]:List Str).Nodup by decide +kernel) rfl (bM rfl)) cu))))) (λ_ _ _ _ _=>bW)
   (λ_ _ _ _ _=>cJ (af (cJ (af (pv 0) (af (pv 1) ak))) (af (cJ (af (pv 2) (af (pv 3) ak))) ak)))) ak)) rfl))))),?_⟩
 nofun
 have S0:CT C3 T1 T3 H0 H a dx []:=⟨λb o _ _ hb=>s0 b o hb,ea,f0,t1.same s0,t3.same s0,t1,t3⟩;obtain⟨e1,te,⟨M9,MX,Rb,leb⟩,ee1,evb,_⟩:=S.em;obtain⟨aar,aak,Pu,l1,l2,_⟩:=S.ia;rw [Rb] at Pu;cases Pu;obtain⟨tb,ebg,MR⟩:=S.lb;have lets:=emp.len;refine⟨_,rfl,_,rfl,a,C3,dx,[],rfl,S0.ia,L.cls,L.a1,(by show 0 < 1000;decide),?_⟩;have S1:=S0.set (dD "rules" (.ref R) []);generalize Q2:dD "rules" (.ref R) []=Q_ at S1;generalize upd H a (.ins C3 dx Q_)=H1 at S1;have x1:H1 x=some (.ins C M9 MX):=S1.kp _ _ Rb (λ_ z=>by cases z);refine⟨_,rfl,x,C,M9,MX,_,rfl,x1,B.cls,B.a2,l1,_,rfl,a,C3,dx,Q_,rfl,S1.ia,L.cls,L.a2,(by rw [<-Q2];show 1 < 1000;decide),?_⟩;have S2:=S1.set (dD "empty" (.ref e) Q_);generalize vM:dD "empty" (.ref e) Q_=rW at S2;generalize upd H1 a (.ins C3 dx rW)=H2 at S2;refine⟨_,rfl,R,rs,aa,rfl,S2.kp.seq hR,S2.kp.aa cS,a8,h8,EH,S2.t1,S2.t3,nT,λdl kl H3 fdl s3 xN Zl edl kdl=>?_⟩;have S3:=S2.Od s3 xN Zl;refine⟨_,rfl,a,C3,dx,rW,rfl,S3.ia,L.cls,L.a3,(by rw [<-vM,<-Q2];show 2 < 1000;decide),?_⟩;have S4:=S3.set (dD "least" (.ref dl) rW);generalize XF:dD "least" (.ref dl) rW=MY at S4;generalize upd H3 a (.ins C3 dx MY)=H4 at S4;have x4:H4 x=some (.ins C M9 MX):=S4.kp _ _ Rb (λ_ z=>by cases z);refine⟨_,rfl,_,rfl,x,C,M9,MX,_,rfl,x4,B.cls,B.a1,leb,R,e1,rs,te,aa,aR,rfl,S4.kp.seq hR,S4.kp.aa cS,∅,h8,aG.of (S4.kp.lst ee1),evb.keep λ_ _ z=>S4.kp.tup z,emp,∅,λdh kh H5 fdh s5 edh kdh=>?_⟩;have S5:=S4.next s5;refine⟨_,rfl,a,C3,dx,MY,rfl,S5.ia,L.cls,L.a4,(by rw [<-XF,<-vM,<-Q2];show 3 < 1000;decide),?_⟩;have S6:=S5.set (dD "hollow" (.ref dh) MY);generalize hf6:dD "hollow" (.ref dh) MY=xT at S6;generalize upd H5 a (.ins C3 dx xT)=H6 at S6;have x6:H6 x=some (.ins C M9 MX):=S6.kp _ _ Rb (λ_ z=>by cases z);have b6:=S6.kp.lst ebg;have v6:Paired (λt (b:Be)=>a9 K H6 t [.str b.1,.str b.2.1,.int (b.2.2.1:Int),.int (b.2.2.2:Int)]) tb cw:=Paired.eF MR λ_ _ z=>S6.kp.tup z;refine⟨_,rfl,x,C,M9,MX,_,rfl,x6,B.cls,B.a3,l2,bg,rfl,⟨_,aG.of b6⟩,λD7 Pk=>Cu (aG.of b6) v6 ∅ Pk λus H7 s7 e7 p7=>?_⟩;obtain⟨kvs,pk⟩:=DG p7;refine⟨D7,us,kvs,rfl,e7,pk,λdb qP=>?_⟩;have S8:=(S6.next s7).next (ah qP (.dT (nh kvs [])));refine⟨_,rfl,a,C3,dx,xT,rfl,S8.ia,L.cls,L.a5,(by rw [<-hf6,<-XF,<-vM,<-Q2];show 4 < 1000;decide),?_⟩;have S9:=S8.set (dD "beginnings" (.ref db) xT);exact q _ S9.sm S9.t1 S9.t3
structure zY (K:aV)(x qual:Str)(st:Stmt)(f:Addr)(fd:FuncData):Prop where
 ex:∃(oc:Value)(od:Option Addr)(kV doc pm:Value)(an:Option Addr)(dw ct:Value)(u9:Array (Option Value))(T:Addr)(o:Obj) (n:Nat),
  fd=PySem.W.fnOf x qual (cY st) (bT st) (av st) (.ref T) kV doc pm an dw ct/\K.lookup f=some ⟨oc,od,.func fd,u9⟩/\PySem.W.codeIn K dw qual=true/\K.lookup T=some o/\o.data=.seq #[.none] n
 kp:PySem.W.keepIn K (.ref f)=true
def zY.ok {x qual:Str}{st:Stmt}{f:Addr}{fd:FuncData}{N ps:List Str}{k:Nat}{sp:Sp}(F:zY K x qual st f fd)(S:aH N ps (av st))(len:∀vs H Q E,sp vs H Q E->vs.length=ps.length)
  (gB:∀(dw:Value)(A:Around)(outer:List Env)(s:Shared)(H:Hp)(vs:List V)(Q:VK)(E:XK),di k (A.deeper (PyProof.Rows.envOfC qual (av st) s.heap.objs.size f dw))->sp vs H Q E ->
   ∃t,vO (eQ fc P w K mg base N qual (av st) f dw A outer s H E).BR (bT st) t/\t { nx:=λ_ H'=>Q .dI H',rt:=Q } (start N vs) H):ba P w K mg base fc (k+1) f fd ps sp:=by
 obtain⟨oc,od,kV,doc,pm,an,dw,ct,u9,T,o,n,rfl,lk,qR,_⟩:=F.ex;refine wZ lk qR S len λA outer s H vs Q E hr tq=>?_;obtain⟨t,h,q⟩:=gB dw A outer s H vs Q E hr tq;exact⟨t,h.BR,q⟩
def EM {f:Addr}{fd:FuncData}(F:zY K "__init__" "Grammar.__init__" uZ f fd):Binds K fd ["self","rules","strengths"] [.none]:=by
 obtain⟨oc,od,kV,doc,pm,an,dw,ct,u9,T,o,n,rfl,lk,qR,lT,dT⟩:=F.ex;intro s us KI hl;have lJ:us.length=2:=by
  have:(us++[Value.none]).length=3:=hl;rw [b9] at this;exact Nat.succ.inj this
 match us,lJ with
 | [u1,u2],_=>exact BindsTo.of_defaults rfl (KI T o lT) dT rfl rfl
structure GC (K:aV)(C:Addr):Prop where
 cls:Bi K C
 a1:cX K C "rules"
 a2:cX K C "strengths"
 a3:cX K C "begin_table"
 a4:cX K C "standings"
 a5:cX K C "small_trees"
def StrIn (K:aV)(H:Hp)(sv:V)(ss:List Addr)(str:List ay):Prop:=(sv=.dI/\ss=[]/\str=[])\/∃S,sv=.ref S/\aG K H S (ss.map V.ref)/\bJ K H ss str
def YY (H0 H:Hp)(Cg g:Addr)(rs ss:List Addr)(bt:Addr):Prop:=∃gx fs R2 S2,H g=some (.ins Cg gx fs)/\fs.lookup ("rules":Str)=some (.ref R2)/\fs.lookup ("strengths":Str)=some (.ref S2)/\fs.lookup ("begin_table":Str)=some (.ref bt)/\fs.lookup ("start":Str)=none /\
 H R2=some (.lst (rs.map V.ref))/\H S2=some (.lst (ss.map V.ref))/\H0 R2=none/\H0 S2=none
def oV (T1 T2 T3:Addr)(H H':Hp):Prop:=∀b o,b≠T1->b≠T2->b≠T3->H b=some o->H' b=some o
structure CD (T1 T2 T3:Addr)(H:Hp):Prop where
 t1:Tab T1 qH.2.2.2 xQ H
 t2:Tab T2 zk.2.2.2 IF H
 t3:Tab T3 posB FI H
 IC:T1≠T2
 IB:T1≠T3
 IA:T2≠T3
theorem CD.same {T1 T2 T3:Addr}{H H':Hp}(h:CD T1 T2 T3 H)(s:aC H H'):CD T1 T2 T3 H':=⟨h.t1.same s,h.t2.same s,h.t3.same s,h.IC,h.IB,h.IA⟩
def CD.Gd {T1 T2 T3 a C dx:Addr}{H:Hp}{fs:List (Str×V)}{o:HO}(h:CD T1 T2 T3 H)(ha:H a=some (.ins C dx fs)):CD T1 T2 T3 (upd H a o):=⟨jG h.t1 ha,jG h.t2 ha,jG h.t3 ha,h.IC,h.IB,h.IA⟩
def Kp.ZL {T1 T2 T3:Addr}{H H':Hp}(s:oV T1 T2 T3 H H')(t:CD T1 T2 T3 H):Kp H H':=λc o hc hn=>by
 obtain⟨QJ,b1,_⟩:=t.t1;obtain⟨Mw,b2,_⟩:=t.t2;obtain⟨ps3,b3,_⟩:=t.t3;exact s c o (λz=>by rw [z,b1] at hc;cases hc;exact hn _ rfl) (λz=>by rw [z,b2] at hc;cases hc;exact hn _ rfl) (λz=>by rw [z,b3] at hc;cases hc;exact hn _ rfl) hc
def si.Gd {C:Addr}{H0 H:Hp}{a e d bg:Addr}{kE:List (aJ×V)}{aR:List (Str×Nat)}{ps:List (Str×Addr)}{cw:List Be}{g Cg gx:Addr}{fs FT:List (Str×V)}(h:si K C H0 H a e d bg kE aR ps cw)(hg:H0 g=some (.ins Cg gx fs))(na:a≠g) :
  si K C (upd H0 g (.ins Cg gx FT)) (upd H g (.ins Cg gx FT)) a e d bg kE aR ps cw:=by
 have Hn:=h.sm _ _ hg;have up:∀c o,c≠g->H c=some o->upd H g (.ins Cg gx FT) c=some o:=λc o n q=>by rw [ai n];exact q
 refine⟨λc o hc=>?_,?_,up _ _ (λz=>by have:=h.he;rw [z,Hn] at this;cases this) h.he,up _ _ (λz=>by have:=h.hd;rw [z,Hn] at this;cases this) h.hd,h.n1,h.n2,λp hp=>?_,?_,?_,?_⟩
 .by_cases z:c=g
  .rw [z,ae] at hc ⊢;exact hc
  rw [ai z] at hc ⊢;exact h.sm _ _ hc
 .obtain⟨dx,fs,q,r⟩:=h.ia;exact⟨dx,fs,up _ _ na q,r⟩
 .obtain⟨⟨kvs,q,r⟩,t1,t2⟩:=h.dk p hp;exact⟨⟨kvs,up _ _ (λz=>by rw [z,Hn] at q;cases q) q,r⟩,by rw [ai (λz=>by rw [z,hg] at t1;cases t1)];exact t1,t2⟩
 .obtain⟨ts,q,r⟩:=h.lb;exact⟨ts,up _ _ (λz=>by rw [z,Hn] at q;cases q) q,Paired.eF r λ_ _ z=>gw Hn z⟩
 .have t1:=h.fb;rw [ai (λz=>by rw [z,hg] at t1;cases t1)];exact t1
 obtain⟨e1,ts,⟨dx,fs,q1,q2⟩,q3,q4,q5⟩:=h.em;exact⟨e1,ts,⟨dx,fs,up _ _ na q1,q2⟩,up _ _ (λz=>by rw [z,Hn] at q3;cases q3) q3,q4.keep λ_ _ z=>gw Hn z,q5⟩
def Gr:aH ["self","rules","strengths"] ["self","rules","strengths"] (av uZ):=iw rfl rfl rfl rfl nofun
def Ak (K:aV)(Cg:Addr):Sp:=λvs H Q _=>∃(H0:Hp)(g bt:Addr)(rs ss:List Addr)(aa:List ay)(fJ:ay),vs=[.ref g]/\YY H0 H Cg g rs ss bt/\bJ K H rs aa/\aa[0]?=some fJ/\Q (.str fJ.1) H
def Gi:aH ["self"] ["self"] (av yu):=iw rfl rfl rfl rfl nofun
def DZ {Cg:Addr}(F:gX K "start" "Grammar.start" yu f fd)(G:GC K Cg):ba P w K mg base fc 1 f fd ["self"] (Ak K Cg):=by
 refine F.ok Gi (λvs H Q E h=>?_) (λdw A outer s H vs Q E hr h=>?_)
 .obtain⟨H0,g,bt,rs,ss,aa,fJ,rfl,_⟩:=h;rfl
 obtain⟨H0,g,bt,rs,ss,aa,fJ,rfl,⟨gx,fs,R2,S2,eg,l1,l2,l3,l4,e1,e2,_⟩,cS,wR,q⟩:=h;refine⟨_,ao (bu (aP bL (aP bz (dZ (pv 0) rfl) aq (λ_ _=>rfl)) aq (λ_ _=>rfl))),?_⟩;dsimp only [zL];have ll:=bF cS;have l0:=(bo.mp wR).1;obtain⟨r0,Rf,p,v1,v2⟩:=Paired.at_ cS 0 fJ wR;have xC:ir (rs.map V.ref) ((0:Nat):Int)=some (.ref r0):=bj (by rw [aZ,Rf];rfl);exact⟨_,rfl,g,Cg,gx,fs,_,rfl,eg,G.cls,G.a1,l1,R2,_,_,_,rfl,rfl,aG.of e1,xC,r0,_,_,_,rfl,rfl,v1,rfl,q⟩
end
def Hi:List Str->Str->Nat
 | [],_=>0
 | a::r,x=>if a=x then 0 else Hi r x+1
theorem vj:∀(l:List Str)(x:Str),x∈l->l[Hi l x]?=some x
 | [],x,h=>by cases h
 | a::r,x,h=>by
  unfold Hi;by_cases c:a=x
  .rw [az c];exact congrArg some c
  rw [aA c];rcases bN.mp h with e | e
  .exact absurd e.symm c
  rw [List.getElem?_cons_succ];exact vj r x e
theorem qM:∀(l:List Str)(x:Str) (i:Nat),x∈l.take i->Hi l x < i
 | [],x,i,h=>by simp at h
 | a::r,x,0,h=>by simp at h
 | a::r,x,i+1,h=>by
  unfold Hi;by_cases c:a=x
  .rw [az c];omega
  rw [aA c];rw [List.take_succ_cons] at h;rcases bN.mp h with e | e
  .exact absurd e.symm c
  have:=qM r x i e;omega
def z6 {l:List Str}{x:Str}{i:Nat}(h:x∈l.take i):∃j,j < i/\l[j]?=some x:=by
 obtain⟨j,hj⟩:=d7 h;have lj:=(bo.mp hj).1;rw [c_] at lj;rw [so ∅] at hj;exact⟨j,∅,hj⟩
def AR {aa:List ay}{ru:ay}(h:ru∈aa):ru.1∈hd aa:=(d_ _ _ _).mpr (.inr (iE h))
def Pz {aa:List ay}{x:Str}(h:Em aa x):x∈hd aa:=by
 cases h with
 | mk h _=>exact AR h
def q8 {aa:List ay}{aR:List (Str×Nat)}(h:pD aa aR):∀y∈aR.map (·.1),Em aa y:=by
 induction h with
 | nil=>intro y hy;cases hy
 | @snoc aR k ru _ e _ p ih =>
  intro y hy;rw [bI] at hy;rcases bq.mp hy with h | h
  .exact ih y h
  rw [bE.mp h];exact .mk (cb e) λq hq=>ih q (p q hq)
def wM {b:Str->Bool}{zs:List Str}{i j:Nat}{x:Str}(h:vh b zs j=true)(e:zs[i]?=some x)(n:i≠j):b x=true:=by
 cases hb:b x with
 | true=>rfl
 | false =>
  have li:=(bo.mp e).1;have m:((i:Nat):Int)∈xV b zs zs.length:=by
   unfold xV;exact cU.mpr ⟨i,gL.mpr ⟨lM.mpr li,by rw [e];show (!(b x))=true;rw [hb];rfl⟩,rfl⟩
  unfold vh at h;rcases Bool.or_eq_true_iff.mp h with h | h
  .rw [<-d6 h] at m;cases m
  rw [<-d6 h] at m;have:=bE.mp m;omega
theorem z_ {f:Str->Int}{c:Int}:∀(ps:List Str),(∀x∈ps,f x<=c)->(ps.map f).sum<=ps.length * c
 | [],_=>by simp
 | p::r,h=>by
  have h1:=z_ r λx hx=>h x (bS _ hx);have h2:=h p bX;rw [bG,jc,dC];have:((r.length+1:Nat):Int) * c=(r.length:Int) * c+c:=by rw [Int.natCast_add,Int.add_mul];omega
  omega
structure Qi (aa:List ay) (ns E M Pl:List Str):Prop where
 n3:ns.length<=3
 kC:∀ru∈aa,ru.1∈ns
 p3:∀ru∈aa,ru.2.length<=3
 eN:E.Nodup
 eNs:∀x∈E,x∈ns
 eO:∀(i:Nat)(h:Str),E[i]?=some h->∃bf,(h,bf)∈aa/\∀p∈bf,p∈E.take i\/p∉hd aa
 eA:∀h∈hd aa,h∈E
 mO:∀(i:Nat)(h:Str),M[i]?=some h->(∃fJ,aa[0]?=some fJ/\h=fJ.1)\/∃ru∈aa,ru.1∈M.take i/\h∈ru.2
 mA:∀h∈hd aa,h∈M
 lN:Pl.Nodup
 lNs:∀x∈Pl,x∈ns
 lO:∀(i:Nat)(h:Str),Pl[i]?=some h->∀ru∈aa,ru.1=h->∀(j:Nat)(z:Str),ru.2[j]?=some z->z∈hd aa->(∀(k:Nat)(y:Str),k≠j->ru.2[k]?=some y->Em aa y)->z∈Pl.take i
 lA:∀h∈hd aa,h∈Pl
def b3:Nat->Int
 | 0=>1
 | 1=>4
 | _=>13
def c3:Nat->Int
 | 0=>0
 | 1=>1
 | _=>4
def Jf {i j:Nat}(hi:i < 3)(h:j < i):b3 j<=c3 i:=by
 have:∀i:Nat,i < 3->∀j:Nat,j < i->b3 j<=c3 i:=by decide
 exact this i hi j h
def PY {i:Nat}:1+3 * c3 i=b3 i:=by
 match i with
 | 0=>rfl
 | 1=>rfl
 | _+2=>rfl
def Jb {i:Nat}:0<=c3 i:=by
 match i with
 | 0=>decide
 | 1=>decide
 | _+2=>exact(by decide:(0:Int)<=4)
def Fg {i:Nat}:0<=b3 i/\b3 i<=60:=by
 match i with
 | 0=>decide
 | 1=>decide
 | _+2=>exact(by decide:(0:Int)<=13/\(13:Int)<=60)
def Io {f:Str->Int}{i:Nat}{ps:List Str}(h3:ps.length<=3)(h:∀x∈ps,f x<=c3 i):1+(ps.map f).sum<=b3 i:=by
 have h1:=z_ ps h;have h2:(ps.length:Int) * c3 i<=3 * c3 i:=Int.mul_le_mul_of_nonneg_right ∅ Jb;have:=@PY i;omega
def bP (Pl:List Str)(x:Str):Int:=if x∈Pl then b3 (Hi Pl x) else 0
def Qi.good {aa:List ay}{ns E M Pl:List Str}(O:Qi aa ns E M Pl):Good aa (Hi Pl) (bP Pl) where
 least g st se:=by
  have le3:E.length<=3:=cC (eM E ns O.eN O.eNs) O.n3;have bY:∀x,x∉hd aa->∀ru∈aa,x∈ru.2->g x=some 0:=by
   intro x nn ru gG hm;refine cI.keep (J:=λg=>g x=some 0) (λg Kf j h2 _=>?_) st ?_
   .show de g Kf.1 _ x=some 0;unfold de;have:x≠Kf.1:=λz=>nn (z ▸ AR h2);rw [aA this];exact j
   show ph aa x=some 0;unfold ph;rw [az (pE _ _ _ _ (.inr ⟨nQ.mpr ⟨ru,gG,hm⟩,nn⟩))]
  have key:∀(n i:Nat),i < n->∀h:Str,E[i]?=some h->∃m,g h=some m/\m<=b3 i:=by
   intro n
   induction n with
   | zero=>intro i hi;omega
   | succ n ih =>
    intro i hi h e;have li:=(bo.mp e).1;obtain⟨ps,hm,hp⟩:=O.eO i h e;have hv:∀p∈ps,∃m,g p=some m/\m<=c3 i:=λp QX=>by
     rcases hp p QX with h1 | h1
     .obtain⟨j,lj,ej⟩:=z6 h1;obtain⟨m,e1,e2⟩:=ih j ∅ p ej;exact⟨m,e1,Int.le_trans e2 (Jf ∅ lj)⟩
     exact⟨0,bY p h1 _ hm QX,Jb⟩
    have hs:=se _ hm;unfold bZ at hs;have a1:ij g (h,ps)=true:=fM.mpr λp hp=>by obtain⟨m,e1,_⟩:=hv p hp;show (g p).isSome=true;rw [e1];rfl
    have s0:aM g (h,ps)<=b3 i:=by
     unfold aM;exact Io (O.p3 _ hm) λp hp=>by obtain⟨m,e1,e2⟩:=hv p hp;show (g p).getD 0<=_;rw [e1];exact e2
    rw [a1,nH] at hs;cases gn:g h with
    | none=>rw [show g (h,ps).1=none from gn] at hs;cases hs
    | some m =>
     rw [show g (h,ps).1=some m from gn] at hs;refine⟨m,rfl,?_⟩;have:¬aM g (h,ps) < m:=by simpa [M11.bl] using hs
     omega
  intro h hh;obtain⟨i,hi⟩:=d7 (O.eA h hh);obtain⟨m,e1,e2⟩:=key (i+1) i ∅ h hi;exact⟨m,e1,Int.le_trans e2 Fg.2⟩
 met fJ ms e0 h0 mc:=by
  have key:∀(n i:Nat),i < n->∀h:Str,M[i]?=some h->h∈ms:=by
   intro n
   induction n with
   | zero=>intro i hi;omega
   | succ n ih =>
    intro i hi h e;rcases O.mO i h e with ⟨r0,e1,e2⟩ | ⟨ru,gG,h1,h2⟩
    .rw [e0] at e1;cases e1;rw [e2];exact h0
    obtain⟨j,lj,ej⟩:=z6 h1;exact mc ru (by rw [cE];exact gG) (ih j ∅ _ ej) h h2
  intro h hh;obtain⟨i,hi⟩:=d7 (O.mA h hh);exact key (i+1) i ∅ h hi
 loop:=by
  rintro aR emp zH n k j ⟨fJ,z0,e1,e2,e3,e4,e5⟩ ru z er ez;rw [er] at e1;obtain rfl:ru=fJ:=gM e1;rw [ez] at e3;obtain rfl:z=z0:=gM e3;have gG:=cb er;have hn:n∈Pl:=O.lA n (e2 ▸ AR gG);refine qM Pl z _ (O.lO _ n (vj Pl n hn) ru gG e2 j z ez e4 λk' y nk ey=>?_);have:=wM e5 ey nk;exact q8 emp y (d6 this)
 PZ:=by
  refine⟨λz=>?_,λru gG XI=>?_⟩
  .unfold bP
   split
   .exact Fg.1
   decide
  have hn:ru.1∈Pl:=O.lA _ (AR gG);have li:=(bo.mp (vj Pl ru.1 hn)).1;have le3:Pl.length<=3:=cC (eM Pl ns O.lN O.lNs) O.n3;have e:bP Pl ru.1=b3 (Hi Pl ru.1):=az hn;rw [e];refine Io (O.p3 ru gG) λp hp=>?_;obtain⟨j,ej⟩:=d7 hp;have ht:=O.lO _ ru.1 (vj Pl ru.1 hn) ru gG rfl j p ej (Pz (XI p hp)) λk' y _ ey=>XI y (cb ey);have e2:bP Pl p=b3 (Hi Pl p):=az (lY ht);rw [e2];exact Jf ∅ (qM Pl p _ ht)
 most h hh:=by
  unfold bP
  split
  .exact Fg.2
  decide
end eX
namespace M11
open PySem
def dN (bY:Bool) (aU e:List Str)(ru:ay):List Str:=if ((ru.2.all λp=>decide (p∈e) || (bY && !decide (p∈aU))) && !decide (ru.1∈e))=true then e++[ru.1] else e
def wx (bY:Bool) (aU e:List Str)(aa:List ay):List Str:=aa.foldl (dN bY aU) e
def passes {α:Type}(f:α->α):Nat->α->α
 | 0,a=>a
 | n+1,a=>f (passes f n a)
structure EO (bY:Bool) (aU:List Str)(aa:List ay) (e:List Str):Prop where
 nd:e.Nodup
 ord:∀(i:Nat)(h:Str),e[i]?=some h->∃bf,(h,bf)∈aa/\∀p∈bf,p∈e.take i\/(bY=true/\p∉aU)
def EO.step {bY:Bool}{aU:List Str}{aa:List ay}{e:List Str}(h:EO bY aU aa e){ru:ay}(hr:ru∈aa):EO bY aU aa (dN bY aU e ru):=by
 unfold dN
 split
 .rename_i c
  obtain⟨c1,c2⟩:=lW.mp c;have c2':ru.1∉e:=by simpa using c2
  refine⟨je.mpr ⟨h.nd,by simp,λa ha b hb z=>c2' (by rw [<-bE.mp hb,<-z];exact ha)⟩,λi x hx=>?_⟩;by_cases l:i < e.length
  .rw [jh l] at hx;obtain⟨bf,a,b⟩:=h.ord i x hx;refine⟨bf,a,λp hp=>?_⟩;rw [uF ∅];exact b p hp
  have li:=(bo.mp hx).1;rw [b9,pW] at li;have:i=e.length:=by omega
  subst this;rw [oF (aI _),Nat.sub_self] at hx;cases hx;refine⟨ru.2,hr,λp hp=>?_⟩;rw [uF (aI _),cE];have:=fM.mp c1 p hp;simp only [Bool.or_eq_true,decide_eq_true_eq,jt,Bool.not_eq_true',decide_eq_false_iff_not] at this;exact this
 exact h
theorem EO.pass {bY:Bool}{aU:List Str}{aa:List ay}:∀(rs:List ay){e:List Str},(∀ru∈rs,ru∈aa)->EO bY aU aa e->EO bY aU aa (rs.foldl (dN bY aU) e)
 | [],_,_,h=>h
 | ru::rs,_,hs,h=>EO.pass rs (λr hr=>hs r (bS _ hr)) (h.step (hs ru bX))
def sF (bY:Bool) (aU e:List Str)(ru:ay):dN bY aU e ru=e\/e.length < (dN bY aU e ru).length:=by
 unfold dN
 split
 .right;simp
 left;rfl
theorem wY (bY:Bool) (aU:List Str):∀(rs:List ay) (e:List Str),e.length<=(rs.foldl (dN bY aU) e).length
 | [],_=>aI _
 | ru::rs,e=>by
  have h1:=wY bY aU rs (dN bY aU e ru);have h2:=sF bY aU e ru;show _<=(rs.foldl (dN bY aU) (dN bY aU e ru)).length;rcases h2 with h | h
  .rw [h] at h1 ⊢;exact h1
  omega
theorem qV (bY:Bool) (aU:List Str):∀(rs:List ay) (e:List Str),(rs.foldl (dN bY aU) e=e/\∀ru∈rs,dN bY aU e ru=e)\/e.length < (rs.foldl (dN bY aU) e).length
 | [],_=>.inl ⟨rfl,λ_ h=>by cases h⟩
 | ru::rs,e=>by
  show (rs.foldl (dN bY aU) (dN bY aU e ru)=e/\_)\/_ < (rs.foldl (dN bY aU) (dN bY aU e ru)).length;rcases sF bY aU e ru with h | h
  .rw [h];rcases qV bY aU rs e with ⟨a,b⟩ | c
   .refine .inl ⟨a,λr hr=>?_⟩;rcases bN.mp hr with rfl | hr
    .exact h
    exact b r hr
   exact .inr c
  right;have:=wY bY aU rs (dN bY aU e ru);omega
theorem g_:∀(l m:List Str),l.Nodup->(∀z∈l,z∈m)->l.length<=m.length
 | [],m,_,_=>fR _
 | x::r,m,hn,hs=>by
  have hx:=hs x bX;have Cc:=jr.mp hn;have:=g_ r (m.erase x) Cc.2 λz hz=>(List.mem_erase_of_ne (λe=>Cc.1 (by rw [<-e];exact hz))).mpr (hs z (bS _ hz));rw [List.length_erase_of_mem hx] at this;have:0 < m.length:=List.length_pos_of_mem hx;rw [dC];omega
def EO.sub {bY:Bool}{aU:List Str}{aa:List ay}{e:List Str}(h:EO bY aU aa e):∀x∈e,x∈aa.map (·.1):=λx hx=>by
 obtain⟨i,hi⟩:=d7 hx;obtain⟨bf,a,_⟩:=h.ord i x hi;exact cU.mpr ⟨_,a,rfl⟩
end M11
namespace eX
open PySem L2 M11
theorem zI {aa:List ay}:∀(n:Nat)(aR:List (Str×Nat)),pD aa aR->(hd aa).length<=aR.length+n->∃HC,pD aa HC/\lI aa aa.length HC
 | n,aR,h,l=>by
  by_cases c:lI aa aa.length aR
  .exact⟨aR,h,c⟩
  unfold lI at c;obtain⟨ru,c⟩:=Classical.not_forall.mp c;obtain⟨hr,c⟩:=Classical.not_forall.mp c;obtain⟨hp,hn⟩:=Classical.not_forall.mp c;rw [cE] at hr;obtain⟨k,hk⟩:=d7 hr;have h2:=pD.snoc h hk hn hp;have l2:(aR++[(ru.1,k)]).length<=(hd aa).length:=by
   have:=g_ _ (hd aa) h2.nd λz hz=>by
    have e:=q8 h2 z hz;cases e with
    | mk gG _ =>
     show _∈pA [] (aa.map (·.1));rw [d_];exact .inr (cU.mpr ⟨_,gG,rfl⟩)
   rw [aB] at this;exact this
  rw [b9,pW] at l2;cases n with
  | zero=>omega
  | succ n=>exact zI n _ h2 (by rw [b9,pW];omega)
def Az (A:List Str)(rk:Str->Nat)(z:Str):Nat:=(A.filter λh=>decide (rk h < rk z)).length
theorem m_ {α:Type}{p q:α->Bool}(pq:∀x,p x=true->q x=true):∀{l:List α}{x:α},x∈l->q x=true->p x=false->(l.filter p).length < (l.filter q).length
 | y::r,x,h,hq,hp=>by
  have le:∀l:List α,(l.filter p).length<=(l.filter q).length:=λl=>by
   induction l with
   | nil=>exact aI _
   | cons a t ih =>
    rw [ki,ki];cases ca:p a with
    | true=>rw [pq a ca];simpa using ih
    | false=>cases q a <;> simp <;> omega
  rw [ki,ki];rcases bN.mp h with e | e
  .rw [<-e,hq,hp];have:=le r;simp;omega
  have ih:=m_ pq e hq hp;cases ca:p y with
  | true=>rw [pq y ca];simpa using ih
  | false=>cases q y <;> simp <;> omega
def Dz {A:List Str}{rk:Str->Nat}{p h:Str}(hp:p∈A)(l:rk p < rk h):Az A rk p < Az A rk h :=
 m_ (λx hx=>cM (jA (d6 hx) l)) hp (cM l) (ff (iA _))
def Gu {A:List Str}{rk:Str->Nat}{h:Str}(hh:h∈A):Az A rk h < A.length:=by
 have:=m_ (p:=λx=>decide (rk x < rk h)) (q:=λ_=>true) (λ_ _=>rfl) hh rfl (ff (iA _));have e:A.filter (λ_=>true)=A:=List.filter_eq_self.mpr λ_ _=>rfl;rw [e] at this;exact this
def E5 {aa:List ay}{z:Str}(e:Em aa z):z∈hd aa:=by
 cases e with
 | mk hr _ =>
  show _∈pA [] (aa.map (·.1));rw [d_];exact .inr (cU.mpr ⟨_,hr,rfl⟩)
def vx {aa:List ay}{aR:List (Str×Nat)}(ec:lI aa aa.length aR){z:Str}(e:Em aa z):z∈aR.map (·.1):=by
 induction e with
 | mk hr _ ih=>exact ec _ (by rw [cE];exact hr) ih
def Er {b:Str->Bool}{zs:List Str}(h:∀z∈zs,b z=true) (j:Nat):vh b zs j=true:=by
 have e:xV b zs zs.length=[]:=by
  unfold xV;rw [List.map_eq_nil_iff,xY];intro i hi;have li:=lM.mp hi;rw [cZ li];show ¬(!b (zs[i]'li))=true;rw [h _ (p_ _)]
  decide
 unfold vh;rw [e];rfl
open Classical in
def Hw {aa:List ay}(h3:∀ru∈aa,(∀p∈ru.2,Em aa p)->ru.2.length<=3){A:List Str}(hA:A.length<=4)(hh:∀ru∈aa,ru.1∈A)(rk:Str->Nat)(nl:gK aa rk):∃b,rH aa b/\∀h∈hd aa,b h<=60:=by
 obtain⟨aR,em,ec⟩:=zI (aa:=aa) (hd aa).length [] .nil (by simp);have Vc:∀{z:Str},Em aa z->z∈A:=λe=>by
  cases e with
  | mk hr _=>exact hh _ hr
 have b0:∀z,0<=(if Em aa z then B3 (Az A rk z) else 0):=λz=>by
  split
  .have:=rK (Az A rk z);omega
  exact iU _
 refine⟨λz=>if Em aa z then B3 (Az A rk z) else 0,⟨b0,λru gG hp=>?_⟩,λh hm=>?_⟩
 .have e1:Em aa ru.1:=.mk gG hp;obtain⟨k,hk⟩:=d7 gG;have lt:∀p∈ru.2,rk p < rk ru.1:=λp om=>by
   obtain⟨j,hj⟩:=d7 om;exact nl aR em ec ru.1 k j ⟨ru,p,hk,rfl,hj,E5 (hp p om),Er (λz hz=>cM (vx ec (hp z hz))) j⟩ ru p hk hj
  show 1+(ru.2.map λz=>if Em aa z then B3 (Az A rk z) else 0).sum<=if Em aa ru.1 then B3 (Az A rk ru.1) else 0;rw [az e1];cases hr:Az A rk ru.1 with
  | zero =>
   have:ru.2=[]:=yc.mpr λp om=>by
    have:=Dz (Vc (hp p om)) (lt p om);omega
   rw [this];exact iU _
  | succ r =>
   have s:=Aa (λz=>some (if Em aa z then B3 (Az A rk z) else 0)) (B3 r) (by have:=rK r;omega) ru.2 3 (h3 ru gG hp) λp om=>by
    show (if Em aa p then B3 (Az A rk p) else 0)<=B3 r;rw [az (hp p om)];have:=Dz (Vc (hp p om)) (lt p om);exact Jn ∅
   have s2:(ru.2.map λz=>if Em aa z then B3 (Az A rk z) else 0).sum<=3 * B3 r:=s;show _<=1+3 * B3 r;omega
 show (if Em aa h then B3 (Az A rk h) else 0)<=60
 split
 .rename_i e
  have:=Gu (rk:=rk) (Vc e);have u:B3 (Az A rk h)<=B3 3:=Jn ∅;have e3:B3 3=40:=rfl;omega
 decide
end eX
namespace L2
open PySem PySem.Spec PyProof.Rows
section
variable {prog:Program}{w:World}{A:Around}{R:Result->Shared->Prop}{I:Addr}{fp wr:List Addr}{n:Nat}{P:Nat->Value->Prop}{St:Nat->Heap->Prop}
def Sub (h0 h:Heap):Prop:=∀b o,h0.get? b=some o->h.get? b=some o
def zW (prog:Program)(w:World)(A:Around)(h0:Heap)(P:Nat->Value->Prop)(ns:Nat->Int):Prop:=∀i v (s:Shared)(Q:Value->Shared->Prop)(E:Value->Shared->Prop),P i v->Sub h0 s.heap->(∀tk Y_,Q (.int (ns i) Y_) { s with toks:=tk })->wpAny (model prog w) A (call (.builtin "len") [v]) Q E s
def LW {A:Around}{a b:Int}{t u:Tok}{s:Shared}{Q:Value->Shared->Prop}{E:Value->Shared->Prop}(h:Q (.bool (decide (a < b))) s):wpAny (model prog w) A (richCompare .Lt (.int a t) (.int b u)) Q E s :=
 CmpOf.ints_lt (P:=λi v=>∃t,v=.int (if i=0 then a else b) t) (λi=>if i=0 then a else b) (λi v z=>z) 0 1 _ _ s Q E ⟨t,rfl⟩ ⟨u,rfl⟩ h
def BX {h0:Heap}{dv:Value}(W:Walks prog w A.in1 I fp wr n P St)(ns:Nat->Int)(hk:zW prog w A.in1 h0 P ns)(S:Addr)(MS:S∉fp)(OI:∀b∈wr,h0.get? b=none)(IT:h0.get? S=none) :
  ∀(k j:Nat)(s:Shared)(vb:Value)(tb:Tok) (c:Nat),n - (j+1)=k->j+1<=n->St (j+1) s.heap->P (argBest (λi j=>decide (ns i < ns j)) j) vb->Sub h0 s.heap ->
  s.heap.get? S=some { cls:=.type "list",dict:=none,data:=.seq #[vb,.int (ns (argBest (λi j=>decide (ns i < ns j)) j)) tb] c,slots:=#[] } ->
  (∀v h' tk,P (argBest (λi j=>decide (ns i < ns j)) (n - 1)) v->Sub h0 h'->R (.ok (.ret v)) { s with heap:=h',toks:=tk }) ->
  codeAny (model prog w) A (.builtin "min.loop" ⟨[.ref I,.builtin "len",.ref S],[("default",dv)]⟩) R s:=by
 have Q8:S∉wr:=λh=>MS (W.sub _ h);have kF:(toString "min" ++ toString ".loop":String) = "min.loop" := by decide
 intro k
 induction k with
 | zero =>
  intro j s vb tb c hk0 hj jn UT Ca hS hR;have Hm:j+1=n:=by omega
  refine jE F.entry_min_loop ?_;rw [oE lQ _];show wpAny _ A.in1 (seqItems? (.ref S) >>= _) _ _ s;refine ax (jD hS rfl ?_);show wpAny _ A.in1 (tryCatch (pyNext (.ref I)) _ >>= _) _ _ s;refine ax (iX (W.done s _ _ (Hm ▸ jn) λh' tk IQ=>?_));have IU:=IQ S _ Q8 hS;show wpAny _ A.in1 (updateSeq S (λ_=>#[]) >>= _) _ _ _;refine ax ?_;refine wpAny_updateSeq IU rfl (ax (wpAny_letGo (aD ?_)));refine hR vb _ tk (by rw [<-Hm];exact UT) λb o e=>(gu _ _ (λz:S=b=>by rw [z,e] at IT;cases IT)).trans (IQ b o (λz=>by rw [OI b z] at e;cases e) (Ca b o e))
 | succ k ih =>
  intro j s vb tb c hk0 hj jn UT Ca hS hR;have hV:j+1 < n:=by omega
  refine jE F.entry_min_loop ?_;rw [oE lQ _];show wpAny _ A.in1 (seqItems? (.ref S) >>= _) _ _ s;refine ax (jD hS rfl ?_);show wpAny _ A.in1 (tryCatch (pyNext (.ref I)) _ >>= _) _ _ s;refine ax (iX (W.item (j+1) s _ _ hV jn λv h' tk hP Hj IQ=>?_));have IU:=IQ S _ Q8 hS;have s_:Sub h0 h':=λb o e=>IQ b o (λz=>by rw [OI b z] at e;cases e) (Ca b o e);show wpAny _ A.in1 (tryCatch (holding [v] (call (.builtin "len") [v])) _ >>= _) _ _ _;refine ax (iX (fK (hk (j+1) v _ _ _ hP s_ λY9 tv=>?_)));show wpAny _ A.in1 (tryCatch (holding [v,.int (ns (j+1)) tv] (richCompare .Lt (.int (ns (j+1)) tv) (.int (ns (argBest (λi j=>decide (ns i < ns j)) j)) tb) >>= _)) _ >>= _) _ _ _;refine ax (iX (fK (ax (LW ?_))));refine ax (fK (kj ?_));refine ax (wpAny_letGo (aD ?_));cases hb:decide (ns (j+1) < ns (argBest (λi j=>decide (ns i < ns j)) j)) with
  | true =>
   have ea:argBest (λi j=>decide (ns i < ns j)) (j+1)=j+1:=by simp only [argBest,hb,if_true]
   simp only [if_true];refine ax ?_;refine wpAny_updateSeq IU rfl (ax (wpAny_letGo ?_));rw [kF];refine aD ⟨kb lQ _,ih (j+1) _ v tv _ ∅ hV (W.frame _ _ _ Hj λb UM o e=>?_) (by rw [ea];exact hP) (λb o e=>?_) (by rw [ea];exact lZ _ IU rfl)
    λv' Pp C2 Ph EG=>?_⟩
   .exact(gu _ _ (λh:S=b=>MS (by rw [h];exact UM))).trans e
   .exact(gu _ _ (λz:S=b=>by rw [z,e] at IT;cases IT)).trans (s_ b o e)
   exact hR v' Pp C2 Ph EG
  | false =>
   have ea:argBest (λi j=>decide (ns i < ns j)) (j+1)=argBest (λi j=>decide (ns i < ns j)) j:=by simp only [argBest,hb,Bool.false_eq_true,if_false]
   simp only [Bool.false_eq_true,if_false];refine ax (wpAny_letGo ?_);rw [kF];refine aD ⟨kb lQ _,ih (j+1) _ vb tb c ∅ hV Hj (by rw [ea];exact UT) s_ (by rw [ea];exact IU) λv' Pp C2 Ph EG=>?_⟩;exact hR v' Pp C2 Ph EG
def BY {h0:Heap}{dv:Value}(W:Walks prog w A.in1 I fp wr n P St)(ns:Nat->Int)(hk:zW prog w A.in1 h0 P ns)(S:Addr)(MS:S∉fp)(OI:∀b∈wr,h0.get? b=none)(IT:h0.get? S=none)(hn:0 < n){s:Shared}{c:Nat}(jn:St 0 s.heap)(Ca:Sub h0 s.heap)
  (hS:s.heap.get? S=some { cls:=.type "list",dict:=none,data:=.seq #[] c,slots:=#[] })
  (hR:∀v h' tk,P (argBest (λi j=>decide (ns i < ns j)) (n - 1)) v->Sub h0 h'->R (.ok (.ret v)) { s with heap:=h',toks:=tk }) :
  codeAny (model prog w) A (.builtin "min.loop" ⟨[.ref I,.builtin "len",.ref S],[("default",dv)]⟩) R s:=by
 have Q8:S∉wr:=λh=>MS (W.sub _ h);have kF:(toString "min" ++ toString ".loop":String) = "min.loop" := by decide
 refine jE F.entry_min_loop ?_;rw [oE lQ _];show wpAny _ A.in1 (seqItems? (.ref S) >>= _) _ _ s;refine ax (jD hS rfl ?_);show wpAny _ A.in1 (tryCatch (pyNext (.ref I)) _ >>= _) _ _ s;refine ax (iX (W.item 0 s _ _ hn jn λv h' tk hP Hj IQ=>?_));have IU:=IQ S _ Q8 hS;have s_:Sub h0 h':=λb o e=>IQ b o (λz=>by rw [OI b z] at e;cases e) (Ca b o e);show wpAny _ A.in1 (tryCatch (holding [v] (call (.builtin "len") [v])) _ >>= _) _ _ _;refine ax (iX (fK (hk 0 v _ _ _ hP s_ λY9 tv=>?_)));show wpAny _ A.in1 (updateSeq S (λ_=>#[v,.int (ns 0) tv]) >>= _) _ _ _;refine ax ?_;refine wpAny_updateSeq IU rfl ?_;rw [kF];refine aD ⟨kb lQ _,BX W ns hk S MS OI IT _ 0 _ v tv _ rfl hn (W.frame _ _ _ Hj λb UM o e=>?_) hP (λb o e=>?_) (lZ _ IU rfl) λv' Pp C2 Ph EG=>?_⟩
 .exact(gu _ _ (λh:S=b=>MS (by rw [h];exact UM))).trans e
 .exact(gu _ _ (λz:S=b=>by rw [z,e] at IT;cases IT)).trans (s_ b o e)
 exact hR v' Pp C2 Ph EG
end
section
variable {prog:Program}{w:World}{A:Around}{E:Value->Shared->Prop}{s:Shared}
def vC {l:Addr}{items:Array Value}{dv:Value}{ns:Nat->Int}{Q:Value->Shared->Prop}(hh:A.handled=none)(hl:s.heap.IsList l items)(hk:zW prog w A.in1 s.heap (λi v=>items[i]?=some v) ns)(hn:0 < items.size)
  (h:∀v h' tk,items[argBest (λi j=>decide (ns i < ns j)) (items.size - 1)]?=some v->Sub s.heap h'->Q v { s with heap:=h',toks:=tk }) :
  wpAny (model prog w) A (call (.builtin "min") [.ref l] [("key",.builtin "len"),("default",dv)]) Q E s:=by
 have kF:(toString "min" ++ toString ".loop":String) = "min.loop" := by decide
 refine hX (pU F.plain_min F.entry_min ?_);have core:wpAny (model prog w) A.in1 (Builtin.«min» ⟨[.ref l],[("key",.builtin "len"),("default",dv)]⟩) (λfin s'=>match fin with
   | .done f=>(match (Except.ok f:Result) with | .ok (.ret v)=>Q v s' | .ok _=>False | .error e=>E e s')
   | .again c'=>c'.quiet=true/\codeAny (model prog w) A c' (λr s'=>match r with | .ok (.ret v)=>Q v s' | .ok _=>False | .error e=>E e s') s') E s:=by
  show wpAny _ A.in1 (Builtin.Builtins.bindParams "min" ["key","default"] 0 ⟨[],[("key",.builtin "len"),("default",dv)]⟩ >>= _) _ _ s;refine ax (wpAny_of_eq (show Builtin.Builtins.bindParams "min" ["key","default"] 0 ⟨[],[("key",.builtin "len"),("default",dv)]⟩=pure [some (.builtin "len"),some dv] from rfl) ?_);refine ax (aD ?_);refine ax (kQ hl ?_);refine ax (ju ?_);rw [kF];obtain⟨ol,h1,h2⟩:=id hl;have W5:=aW h1;have nz:∀{h:Heap}{a:Addr},h.objs.size<=a->h.get? a=none:=λ{h a} le=>by
   cases e:h.get? a with
   | none=>rfl
   | some o=>exact absurd (aW e) (Nat.not_lt.mpr le)
  have WC:∀(h:Heap)(o:Obj),(h.push o).objs.size=h.objs.size+1:=λh o=>by simp [Heap.push]
  refine aD ⟨kb lQ _,BY (Walks.list (show A.in1.handled=none from hh) s.heap.objs.size l (bB W5) items) ns hk _ ?_ ?_ ?_ hn ⟨?_,?_⟩ ?_ (cQ _ rfl) λv h' tk hP hs=>h v h' tk hP hs⟩
  .intro z;rw [WC] at z;rcases bN.mp z with e | e
   .exact absurd e (Nat.succ_ne_self _)
   have:=bE.mp e;have t2:s.heap.objs.size+1=l:=this;exact Nat.not_lt.mpr (gZ _) (show s.heap.objs.size+1 < s.heap.objs.size by rw [t2];exact W5)
  .intro b hb;rw [bE.mp hb];exact nz (aI _)
  .exact nz (by rw [WC];omega)
  .exact⟨_,bD _ (cQ _ rfl),rfl,rfl⟩
  .exact⟨ol,bD _ (bD _ h1),h2⟩
  exact λb o e=>bD _ (bD _ e)
 simp only [checkBuiltinCall,F.kind_min];cases K3:Manifest.signature? "min" with
 | none=>exact aD core
 | some sig =>
  have UO:Bind.checkArgs "min" sig ⟨[.ref l],[("key",.builtin "len"),("default",dv)]⟩=pure ():=by have:=oU (.ref l) (.builtin "len") dv;simpa only [argsOk,K3] using this
  simp only [UO];exact aD core
end
def qJ (rL:List (List V)) (i:Nat):Int:=((rL[i]?.getD []).length:Int)
def Ff (rL:List (List V)):Nat:=argBest (λi j=>decide (qJ rL i < qJ rL j)) (rL.length - 1)
def Ny (K:aV)(t:TA)(td:TE):TE:=λσ H Q=>t σ H λvs H1=>td σ H1 λdv H2=>∃a ls rL,vs=[.ref a]/\aG K H2 a (ls.map V.ref)/\Paired (λl xs=>aG K H2 l xs) ls rL/\(ls=[]->Q dv H2)/\∀l,ls[Ff rL]?=some l->Q (.ref l) H2
def GQ {X:Cx}{p pos lp TH Ew:Pos}{e e2:Expr}{t:TA}{td:TE}(hc:X.calm=true)(hg:Gl X "min")(hm:X.mg "min"=none)(Ux:Gl X "len")(hm2:X.mg "len"=none)(ha:PA X [e] t)(hd:PE X e2 td)
  (he:backTo pos (starEach [e] X.env)=(false,eval e X.env)::backTo pos (starEach [] X.env):=by rfl)(hp:(backTo pos (starEach [e] X.env)).any (·.1)=false:=by rfl) :
  PE X (.Call (.Name "min" p) [e] [⟨some "key",.Name "len" lp,TH⟩,⟨some "default",e2,Ew⟩] pos) (Ny X.K t td):=by
 intro ag s σ H Q I h;refine lS (i_ I hg hm boot_min ?_);refine callWith_kw (cq (ha pos ag s σ H _ I h) λus s1 aT=>?_) he hp rfl rfl;obtain⟨vs,H1,I1,r1,q1⟩:=aT;refine kws_cons (i_ I1 Ux hm2 d5 (kws_cons (cq (hd ag s1 σ H1 _ I1 q1) λu2 s2 aT=>?_)));obtain⟨dv,H2,I2,r2,a,ls,rL,ev,hs,hx,q0,q⟩:=aT;refine kws_nil ?_;subst ev;obtain⟨u,rfl,rx⟩:=vals1 r1;cases (show u=Value.ref a from rx);obtain⟨aO,rv,pl,hz⟩:=I2.list hs;cases Ur:ls with
 | nil =>
  rw [Ur] at rv;cases rv;exact rZ (I2.ok.hd hc) pl.isList λh' tk kk=>⟨dv,H2,I2.kept (t':=tk) kk,r2,q0 Ur⟩
 | cons l0 lr =>
  have hn:=kZ;have lx:=bF hx;have li:=rv.length;rw [aB] at li;have l1:0 < ls.length:=by rw [Ur];simp
  refine vC (ns:=qJ rL) (I2.ok.hd hc) pl.isList (λi v s3 Q3 E3 ev sub hQ=>?_) (by rw [bO];omega) (λv h' tk ev sub=>?_)
  .replace ev:aO.toArray[i]?=some v:=ev;rw [List.getElem?_toArray] at ev;obtain⟨x,ex,rx⟩:=Paired.at_ rv _ _ ev;rw [aZ] at ex;obtain⟨l,el,rfl⟩:=cf.mp ex;cases (show v=Value.ref l from rx);have lli:=(bo.mp el).1;obtain⟨xs,X9⟩:∃xs,rL[i]?=some xs:=⟨_,cZ ∅⟩;obtain⟨l',LK,xS⟩:=Paired.at_ hx i xs X9;rw [el] at LK;cases LK;obtain⟨Xd,rj,pj,hj⟩:=I2.list xS;have lj:=rj.length;refine Calls.call_len_list (items:=Xd.toArray) (pj.isList.at λo e=>sub _ o e) (by simp only [bO] <;> omega) ?_
   have:qJ rL i=(Xd.toArray.size:Int):=by
    unfold qJ;rw [X9,bO];show (xs.length:Int)=_;omega
   rw [<-this];exact hQ _ _
  rw [bO,List.getElem?_toArray] at ev;have eb:argBest (λi j=>decide (qJ rL i < qJ rL j)) (aO.length - 1)=Ff rL:=by
   unfold Ff;rw [show aO.length=rL.length by omega]
  rw [eb] at ev;obtain⟨x,ex,rx⟩:=Paired.at_ rv _ _ ev;rw [aZ] at ex;obtain⟨l,el,rfl⟩:=cf.mp ex;exact⟨.ref l,H2,I2.kept (t':=tk) sub,rx,q l el⟩
end L2
namespace eX
open PySem L2 M11
section
inductive gJ (aa:List ay)(st:Str->List (Nat×Nat))(n:Str):Str->Prop
 | one {z:Str}:Ng aa st n z->gJ aa st n z
 | more {y z:Str}:gJ aa st n y->Ng aa st y z->gJ aa st n z
def CS (K:aV)(H:Hp)(l:Addr) (n:Nat)(C:List (Nat×Nat)->Prop):Prop:=∃(ts:List Addr)(ps:List (Nat×Nat)),C ps/\H l=some (.lst (ts.map V.ref))/\Paired (λt (p:Nat×Nat)=>a9 K H t [.int (p.1:Int),.int (p.2:Int)]) ts ps/\(∀p∈ps,p.1<=1000/\p.2<=1000)/\ts.length<=n
def CF (K:aV)(H:Hp)(l:Addr)(C:List (Nat×Nat)->Prop):Prop:=∃(t:Addr)(ts:List Addr)(ps:List (Nat×Nat)),C ps/\H l=some (.lst ((t::ts).map V.ref))/\Paired (λt (p:Nat×Nat)=>a9 K H t [.int (p.1:Int),.int (p.2:Int)]) (t::ts) ps/\(∀p∈ps,p.1<=1000/\p.2<=1000)/\ps.length<=1000
def YX (aa:List ay) (names:List Str)(st:Str->List (Nat×Nat)):Prop:=∀n∈names,∀e∈st n,∃ru z,aa[e.1]?=some ru/\ru.2[e.2]?=some z/\z∈names
def Dd (K:aV):Sp:=λvs H Q _=>∃(R d:Addr)(rs:List Addr)(aa:List ay)(N4:List (Str×Addr))(st:Str->List (Nat×Nat))(name:Str),vs=[.ref R,.ref d,.str name]/\aG K H R (rs.map V.ref)/\bJ K H rs aa/\aa.length<=1000/\(∀ru∈aa,ru.2.length<=8) /\
 CN K N4 st H d/\N4.length<=1000/\name∈N4.map (·.1)/\YX aa (N4.map (·.1)) st/\∀(D:Addr)(H':Hp),H D=none->aC H H'->(¬gJ aa st name name->H' D=some (.lst [])->Q (.ref D) H')/\(CF K H' D (λps=>vK aa st name ps name/\ps.length<=(N4.map (·.1)).length)->Q (.ref D) H')
structure HU (K:aV)(Ch:List (Nat×Nat)->Str->Prop) (names:List Str)(name:Str)(H H5:Hp)(D m:Addr)(iu:List Addr)(gh:List (Str×Addr)) (ms:List Str)(kvs:List (aJ×V)):Prop where
 sm:aC H H5
 hD:H5 D=some (.lst (iu.map V.ref))
 hm:H5 m=some (.dK kvs)
 keys:kvs.map (·.1)=ms.map Sum.inr
 nd:(name::ms).Nodup
 sub:∀x∈name::ms,x∈names
 wl:gh.map (·.1)=name::ms
 wv:Paired (λt (e:Str×Addr)=>a9 K H5 t [.str e.1,.ref e.2]) iu gh
 we:∀i e,gh[i]?=some e->CS K H5 e.2 i (λps=>Ch ps e.1)/\e.2≠D
def HU.len {Ch:List (Nat×Nat)->Str->Prop}{names:List Str}{name:Str}{H H5:Hp}{D m:Addr}{iu:List Addr}{gh:List (Str×Addr)}{ms:List Str}{kvs:List (aJ×V)}(h:HU K Ch names name H H5 D m iu gh ms kvs):iu.length=gh.length/\kvs.length=ms.length/\gh.length=ms.length+1/\gh.length<=names.length:=by
 have a:=congrArg List.length h.keys;have b:=congrArg List.length h.wl;have c:=eM _ _ h.nd h.sub;simp only [aB,dC] at a b c;exact⟨bF h.wv,a,b,∅⟩
def CS.same {H H':Hp}{l:Addr}{n:Nat}{C:List (Nat×Nat)->Prop}(h:CS K H l n C)(s:aC H H'):CS K H' l n C:=let ⟨ts,ps,y,a,b,c,d⟩:=h;⟨ts,ps,y,s _ _ a,Paired.eF b λ_ _ z=>s.tup z,c,d⟩
def CF.same {H H':Hp}{l:Addr}{C:List (Nat×Nat)->Prop}(h:CF K H l C)(s:aC H H'):CF K H' l C:=let ⟨t,ts,ps,y,a,b,c,d⟩:=h;⟨t,ts,ps,y,s _ _ a,Paired.eF b λ_ _ z=>s.tup z,c,d⟩
def CS.Nq {H:Hp}{l D:Addr}{n:Nat}{C:List (Nat×Nat)->Prop}{xs ys:List V}(h:CS K H l n C)(hD:H D=some (.lst xs))(ne:l≠D):CS K (upd H D (.lst ys)) l n C:=let ⟨ts,ps,y,a,b,c,d⟩:=h;⟨ts,ps,y,by rw [ai ne];exact a,Paired.eF b λ_ _ z=>a7 hD z,c,d⟩
def CS.RS {H:Hp}{l D:Addr}{n:Nat}{C:List (Nat×Nat)->Prop}{xs ys:List (aJ×V)}(h:CS K H l n C)(hD:H D=some (.dK xs)):CS K (upd H D (.dK ys)) l n C:=let ⟨ts,ps,y,a,b,c,d⟩:=h;⟨ts,ps,y,by rw [ai (λz=>by rw [z,hD] at a;cases a)];exact a,Paired.eF b λ_ _ z=>eC hD z,c,d⟩
def HU.more {Ch:List (Nat×Nat)->Str->Prop}{names:List Str}{name z:Str}{H H5 H9:Hp}{D m t c:Addr}{iu:List Addr}{gh:List (Str×Addr)}{ms:List Str}{kvs:List (aJ×V)}(h:HU K Ch names name H H5 D m iu gh ms kvs)(fD:H D=none)(fm:H m=none)
  (hz:z∈names)(hn:z∉ms)(Cc:z≠name)(s:aC (upd H5 m (.dK (bC kvs (Sum.inr z) (.bl true)))) H9)(ht:a9 K H9 t [.str z,.ref c])(hc:CS K H9 c gh.length λps=>Ch ps z)(nc:c≠D) :
  HU K Ch names name H (upd H9 D (.lst (iu.map V.ref++[.ref t]))) D m (iu++[t]) (gh++[(z,c)]) (ms++[z]) (bC kvs (Sum.inr z) (.bl true)):=by
 have KA:D≠m:=λe=>by have:=h.hD;rw [e,h.hm] at this;cases this
 have Ci:H9 D=some (.lst (iu.map V.ref)):=s _ _ (by rw [ai KA];exact h.hD);have Uq:H9 m=some (.dK (bC kvs (Sum.inr z) (.bl true))):=s _ _ ae;refine⟨λb o hb=>?_,by rw [ae,bI];rfl,by rw [ai KA.symm];exact Uq,?_,?_,?_,?_,?_,?_⟩
 .rw [ai (λe=>by rw [e,fD] at hb;cases hb)];exact s _ _ (by rw [ai (λe=>by rw [e,fm] at hb;cases hb)];exact h.sm b o hb)
 .rw [gQ (by rw [h.keys];exact λe=>hn (cH.mp e)),h.keys,bI];rfl
 .rw [<-p6];refine je.mpr ⟨h.nd,by simp,λa ha b hb e=>?_⟩;rw [bE.mp hb] at e;subst e;rcases bN.mp ha with x | x
  .exact Cc x
  exact hn x
 .intro x MI;rw [<-p6] at MI;rcases bq.mp MI with e | e
  .exact h.sub x e
  rw [bE.mp e];exact hz
 .rw [bI,h.wl];rfl
 .exact ft (Paired.eF h.wv λ_ _ e=>a7 Ci (s.tup (eC h.hm e))) (a7 Ci ht)
 intro i e he;rw [List.getElem?_append] at he
 split at he
 .obtain⟨a,b⟩:=h.we i e he;exact⟨((a.RS h.hm).same s).Nq Ci b,b⟩
 have li:=(bo.mp he).1;have i0:i - gh.length=0:=by simp at li;omega
 rw [i0] at he;simp at he;subst he;have:i=gh.length:=by omega
 rw [this];exact⟨hc.Nq Ci nc,nc⟩
def Jm (aa:List ay)(st:Str->List (Nat×Nat))(name:Str) (ms:List Str) (at_:Nat):Prop:=∀n∈(name::ms).take at_,∀z,Ng aa st n z->z∈ms
def Jm.more {aa:List ay}{st:Str->List (Nat×Nat)}{name x:Str}{ms:List Str}{at_:Nat}(h:Jm aa st name ms at_)(le:at_<=ms.length+1):Jm aa st name (ms++[x]) at_:=λn hn z hz=>by
 rw [<-p6,uF (by simpa using le)] at hn;exact lX _ (h n hn z hz)
def Jm.all {aa:List ay}{st:Str->List (Nat×Nat)}{name:Str}{ms:List Str}{at_:Nat}(h:Jm aa st name ms at_)(ge:ms.length+1<=at_)(nd:(name::ms).Nodup):¬gJ aa st name name:=by
 have tk:(name::ms).take at_=name::ms:=sk (by simpa using ge);have:∀z,gJ aa st name z->z∈ms:=λz hz=>by
  induction hz with
  | one s=>exact h name (by rw [tk];exact bX) _ s
  | more _ s ih=>exact h _ (by rw [tk];exact bS _ ih) _ s
 exact λz=>(jr.mp nd).1 (this name z)
def G3 (F:gX K "way_back" "way_back" JR f fd)(T:Txt mg):ba P w K mg base fc 1 f fd ["rules","steps","name"] (Dd K):=by
 refine F.ok mf (λvs H Q E h=>?_) (λdw A outer s H vs Q E hr h=>?_)
 .obtain⟨R,d,rs,aa,ps,st,name,rfl,_⟩:=h;rfl
 obtain⟨R,d,rs,aa,ps,st,name,rfl,hR,cS,a8,h8,S,K6,kF,Hm,q⟩:=h;have hu:=fX hr;refine⟨_,aj (aF (i:=3) mf.nd rfl (bM rfl) (cK (af (cJ (af (pv 2) (af (cK ak) ak))) ak)))
  (aj (aF (i:=4) mf.nd rfl (bM rfl) gA)
  (aj (aF (i:=5) mf.nd rfl (bM rfl) aq)
  (aj (jJ cD (cx mI (pv 5) (aN aQ rfl T.len d5 (af (pv 3) ak)) (dq _))
   (aj (aF (i:=6) mf.nd rfl (bM rfl) (aP bL (aP bz (pv 3) (pv 5) (λ_ _=>rfl)) aq (λ_ _=>rfl)))
   (aj (b_ cD rfl (bx (eK hu (pv 1) (aP bL (aP bz (pv 3) (pv 5) (λ_ _=>rfl)) aq (λ_ _=>rfl)) (λ_ _=>rfl))) (eZ rfl (aE (aw (i:=7) mf.nd rfl (bM rfl)) (aE (aw (i:=8) mf.nd rfl (bM rfl)) cu)))
    (aj (aF (i:=9) mf.nd rfl (bM rfl) (aP bL (aP bL (aP bz (pv 0) (pv 7) (λ_ _=>rfl)) aq (λ_ _=>rfl)) (pv 8) (λ_ _=>rfl)))
    (aj (cN (cx wA (pv 9) (pv 2) (dq _)) (ao (bu (aX qC (pv 6) (cK (af (cJ (af (pv 7) (af (pv 8) ak))) ak))))) bw)
    (ao (cN (fq (dY hu (pv 9) (pv 4)))
     (aj (ib hu (pv 4) (pv 9) fg rfl) (ao (cP (iK jf jw jx cT (pv 3) (af (cJ (af (pv 9) (af (aX qC (pv 6) (cK (af (cJ (af (pv 7) (af (pv 8) ak))) ak))) ak))) ak))))) bw)))))
   (ao (Kk (i:=5) mf.nd rfl (bM rfl) aq KY)))))
  (ao (bu (cK ak)))))),?_⟩
 nofun
 have nA:(ps.map (·.1)).length=ps.length:=aB _;refine⟨_,rfl,xM,λl0 QZ=>?_⟩;have s1:=ah QZ (.lst []);have e1:upd H l0 (.lst []) l0=some (.lst []):=ae;generalize upd H l0 (.lst [])=H1 at s1 e1;refine⟨qf,λt0 ht0=>?_⟩;have s2:=ah ht0 (.tup [.str name,.ref l0]);have e2:a9 K (upd H1 t0 (.tup [.str name,.ref l0])) t0 [.str name,.ref l0]:=a9.of ae;generalize upd H1 t0 (.tup [.str name,.ref l0])=H2 at s2 e2;refine⟨Jr,λD hD=>?_⟩;have s3:=ah hD (.lst [.ref t0]);have e3:upd H2 D (.lst [.ref t0]) D=some (.lst ([t0].map V.ref)):=ae;have ZX:l0≠D:=au (s2 _ _ e1) hD;generalize upd H2 D (.lst [.ref t0])=H3 at s3 e3;intro m hm;have s4:=ah hm (.dK []);have e4:upd H3 m (.dK []) m=some (.dK []):=ae;generalize upd H3 m (.dK [])=H4 at s4 e4;have fD:H D=none:=(s1.trans s2).free hD;have fm:H m=none:=((s1.trans s2).trans s3).free hm;have W0:HU K (vK aa st name) (ps.map (·.1)) name H H4 D m [t0] [(name,l0)] [] []:=⟨((s1.trans s2).trans s3).trans s4,s4 _ _ e3,e4,rfl,by simp,by simpa using kF,rfl,.cons ((s3.trans s4).tup e2) .nil,λi e he=>by
  have li:=(bo.mp he).1;have i0:i=0:=by simp at li;omega
  rw [i0] at he;simp at he;subst he;exact⟨⟨[],[],.nil,s4 _ _ (s3 _ _ (s2 _ _ e1)),.nil,by simp,by simp⟩,ZX⟩⟩
 refine⟨λmm σ H5=>∃(iu:List Addr)(gh:List (Str×Addr)) (ms:List Str)(kvs:List (aJ×V)) (at_:Nat)(y6 y7 y8 y9:Option V),σ=[br R,br d,some (.str name),br D,br m,some (.int (at_:Int)),y6,y7,y8,y9]/\HU K (vK aa st name) (ps.map (·.1)) name H H5 D m iu gh ms kvs /\
  Jm aa st name ms at_/\at_<=gh.length/\mm=1002 - at_,⟨1002,[t0],[(name,l0)],[],[],0,none,none,none,none,rfl,W0,λn hn=>by simp at hn,by simp,rfl⟩,?_⟩
 rintro mm σ H5 ⟨iu,gh,ms,kvs,at_,y6,y7,y8,y9,rfl,W,lK,XQ,rfl⟩;obtain⟨lw,lk,aaa,lm⟩:=W.len;refine⟨_,rfl,_,rfl,D,_,rfl,.inl (aG.of W.hD),_,_,rfl,rfl,_,rfl,?_⟩;refine dJ (λc=>?_) (λc=>?_)
 .have c':=d6 c;rw [aB,lw] at c';have hV:at_ < gh.length:=by omega
  obtain⟨n,l,en⟩:∃n l,gh[at_]?=some (n,l):=⟨(gh[at_]).1,(gh[at_]).2,cZ hV⟩;obtain⟨t1,et1,MK⟩:=Paired.at_ W.wv at_ (n,l) en;have Nb:ir (iu.map V.ref) (at_:Int)=some (.ref t1):=bj (by rw [aZ,et1];rfl);have Yi:(name::ms)[at_]?=some n:=by rw [<-W.wl,aZ,en];rfl
  have hn:n∈ps.map (·.1):=W.sub n (cb Yi);obtain⟨pn,wU,xX⟩:=cU.mp hn;have vn:=fY ps S.n1 pn wU;rw [xX] at vn;obtain⟨Wv,an,bn⟩:=S.lst pn wU;rw [xX] at bn;refine⟨λσ H5=>∃(iu:List Addr)(gh:List (Str×Addr)) (ms:List Str)(kvs:List (aJ×V))(y6 y7 y8 y9:Option V),σ=[br R,br d,some (.str name),br D,br m,some (.int ((at_+1:Nat):Int)),y6,y7,y8,y9]/\HU K (vK aa st name) (ps.map (·.1)) name H H5 D m iu gh ms kvs/\Jm aa st name ms (at_+1)/\at_+1<=gh.length,?_,?_⟩
  .rintro σ H6 ⟨iu,gh,ms,kvs,y6,y7,y8,y9,rfl,W2,c2,h2⟩;exact⟨1002 - (at_+1),∅,iu,gh,ms,kvs,at_+1,_,_,_,_,rfl,W2,c2,h2,rfl⟩
  refine⟨_,rfl,_,rfl,D,_,_,_,rfl,rfl,aG.of W.hD,Nb,t1,_,_,_,rfl,rfl,MK,rfl,?_⟩;have hg:cm H5 d (.str n) (some (.ref pn.2)):=by
   have:=cm.r (k:=Sum.inr n) (Rd.same S.hd W.sm);rw [vn] at this;exact this
  refine⟨_,rfl,_,rfl,_,rfl,D,_,_,_,rfl,rfl,aG.of W.hD,Nb,t1,_,_,_,rfl,rfl,MK,rfl,d,_,rfl,hg,pn.2,rfl,⟨_,aG.of (W.sm _ _ an)⟩,?_⟩
  let sf:rP:=λi σ H6=>∃(iu:List Addr)(gh:List (Str×Addr)) (ms:List Str)(kvs:List (aJ×V))(y7 y8 y9:Option V),σ=[br R,br d,some (.str name),br D,br m,some (.int (at_:Int)),br l,y7,y8,y9]/\HU K (vK aa st name) (ps.map (·.1)) name H H6 D m iu gh ms kvs /\
   Jm aa st name ms at_/\(∀e∈(st n).take i,∀ru z,aa[e.1]?=some ru->ru.2[e.2]?=some z->z∈ms)/\at_+1<=gh.length/\gh[at_]?=some (n,l)/\(name::ms)[at_]?=some n
  refine dX (xs:=Wv.map V.ref) sf ⟨iu,gh,ms,kvs,_,_,_,rfl,W,lK,(λe he=>by simp at he),hV,en,Yi⟩ ?_ ?_ ?_
  .rintro i σ H6 _ ⟨iu,gh,ms,kvs,y7,y8,y9,rfl,W2,_⟩;exact aG.of (W2.sm _ _ an)
  .rintro i x σ H6 ex ⟨iu,gh,ms,kvs,y7,y8,y9,rfl,W2,c2,ci,h2,Rg,HF⟩
   ac_nf0
   rw [aZ] at ex;obtain⟨ti,Yb,rfl⟩:=cf.mp ex;have W9:=bF bn;have lti:=(bo.mp Yb).1;obtain⟨⟨k,j⟩,FY⟩:∃e,(st n)[i]?=some e:=⟨(st n)[i]'∅,cZ ∅⟩;obtain⟨ti',Px,hti⟩:=Paired.at_ bn i (k,j) FY;rw [Yb] at Px;cases Px;obtain⟨ru,z,er,ez,hz⟩:=Hm n hn (k,j) (cb FY);have Oq:k<=1000:=by have:=(bo.mp er).1;omega
   have W8:j<=1000:=by
    have a:=(bo.mp ez).1;have b:=h8 ru (cb er);omega
   have cin:∀{Oh:List Str},(∀x∈ms,x∈Oh)->z∈Oh->∀e∈(st n).take (i+1),∀ru z,aa[e.1]?=some ru->ru.2[e.2]?=some z->z∈Oh:=λ{Oh} sb OH e he jW z' A0 FU=>by
    rw [cV,FY] at he;rcases bq.mp he with h | h
    .exact sb _ (ci e h jW z' A0 FU)
    cases (bE.mp h:e=(k,j));rw [er] at A0;cases A0;rw [ez] at FU;cases FU;exact OH
   obtain⟨r,FV,p,v1,v2⟩:=Paired.at_ cS k ru er;have L1:ir (rs.map V.ref) (k:Int)=some (.ref r):=bj (by rw [aZ,FV];rfl);have LZ:ir (ru.2.map V.str) (j:Int)=some (.str z):=bj (by rw [aZ,ez];rfl);obtain⟨lw2,QP,W3,lm2⟩:=W2.len;refine⟨ti,_,rfl,W2.sm.tup hti,rfl,_,_,rfl,_,_,rfl,rfl,?_⟩;refine⟨_,rfl,_,rfl,R,_,_,_,rfl,rfl,W2.sm.seq hR,L1,r,_,_,_,rfl,rfl,W2.sm.tup v1,rfl,_,rfl,p,_,_,_,rfl,rfl,W2.sm.tup v2,LZ,?_⟩;refine⟨_,rfl,_,rfl,rfl,_,rfl,?_⟩;obtain⟨⟨kr,Mw,YB,lJ,QL,WN,GK⟩,SO⟩:=W2.we at_ (n,l) Rg;dsimp only at lJ QL SO YB;have tO:vK aa st name (Mw++[(k,j)]) z:=.snoc YB (cb FY) er ez;have aad:=bF QL;refine dJ (λc=>?_) (λc=>?_)
   .refine⟨_,rfl,_,rfl,_,rfl,qf,λt4 zt=>?_⟩;have NX:=ah zt (.tup [.int (k:Int),.int (j:Int)]);have PM:a9 K (upd H6 t4 (.tup [.int (k:Int),.int (j:Int)])) t4 [.int (k:Int),.int (j:Int)]:=a9.of ae;generalize upd H6 t4 (.tup [.int (k:Int),.int (j:Int)])=H7 at NX PM;refine⟨Jr,λl4 Ut=>?_⟩;have JZ:=ah Ut (.lst [.ref t4]);have PL:upd H7 l4 (.lst [.ref t4]) l4=some (.lst [.ref t4]):=ae;generalize upd H7 l4 (.lst [.ref t4])=H8 at JZ PL;have J0:=NX.trans JZ;refine⟨l,l4,kr.map V.ref,[.ref t4],rfl,rfl,J0 _ _ lJ,PL,fits (by simp;omega),λc0 Pe=>?_⟩;have JY:=ah Pe (.lst (kr.map V.ref++[.ref t4]));have M8:upd H8 c0 (.lst (kr.map V.ref++[.ref t4])) c0=some (.lst ((kr++[t4]).map V.ref)):=by rw [ae,bI];rfl
    generalize upd H8 c0 (.lst (kr.map V.ref++[.ref t4]))=H9 at JY M8;have sA:=J0.trans JY;refine(q c0 H9 ((W2.sm.trans J0).free Pe) (W2.sm.trans sA)).2 ?_;have QK:=ft (Paired.eF QL λ_ _ z=>sA.tup z) (b:=(k,j)) ((JZ.trans JY).tup PM);obtain⟨t',Mn,e'⟩:∃t' Mn,kr++[t4]=t'::Mn:=by cases kr with
     | nil=>exact⟨_,_,rfl⟩
     | cons a b=>exact⟨_,_,rfl⟩
    rw [e'] at M8 QK;have cz:z=name:=by have:=d6 c;injection this
    refine⟨t',Mn,Mw++[(k,j)],⟨cz ▸ tO,by rw [b9];simp;omega⟩,M8,QK,λp hp=>?_,by rw [b9];simp;omega⟩;rcases bq.mp hp with h | h
    .exact WN p h
    rw [bE.mp h];exact⟨Oq,W8⟩
   have nz:z≠name:=λe=>by rw [e] at c;exact absurd (cM rfl) c
   have mem:(a_ kvs (Sum.inr z)).isSome=true↔z∈ms:=by rw [d8,W2.keys];exact cH
   refine⟨_,rfl,_,rfl,m,_,rfl,cm.k (k:=Sum.inr z) W2.hm,_,rfl,?_⟩;refine dJ (λc=>?_) (λc=>?_)
   .have nm:z∉ms:=λh=>by rw [mem.mpr h] at c;exact absurd c nofun
    refine⟨_,rfl,_,rfl,m,_,rfl,oz.k (k:=Sum.inr z) W2.hm (bQ ∅),?_⟩;have KA:D≠m:=λe=>by have:=W2.hD;rw [e,W2.hm] at this;cases this
    have ZU:l≠m:=λe=>by rw [e,W2.hm] at lJ;cases lJ
    have Lr:upd H6 m (.dK (bC kvs (Sum.inr z) (.bl true))) D=some (.lst (iu.map V.ref)):=by rw [ai KA];exact W2.hD
    have hlu:upd H6 m (.dK (bC kvs (Sum.inr z) (.bl true))) l=some (.lst (kr.map V.ref)):=by rw [ai ZU];exact lJ
    refine⟨_,rfl,.inl ⟨rfl,_,aG.of Lr⟩,_,rfl,_,rfl,_,rfl,_,rfl,qf,λt4 zt=>?_⟩;have NX:=ah zt (.tup [.int (k:Int),.int (j:Int)]);have PM:a9 K (upd (upd H6 m (.dK (bC kvs (Sum.inr z) (.bl true)))) t4 (.tup [.int (k:Int),.int (j:Int)])) t4 [.int (k:Int),.int (j:Int)]:=a9.of ae;generalize upd (upd H6 m (.dK (bC kvs (Sum.inr z) (.bl true)))) t4 (.tup [.int (k:Int),.int (j:Int)])=H7 at NX PM;refine⟨Jr,λl4 Ut=>?_⟩;have JZ:=ah Ut (.lst [.ref t4]);have PL:upd H7 l4 (.lst [.ref t4]) l4=some (.lst [.ref t4]):=ae;generalize upd H7 l4 (.lst [.ref t4])=H8 at JZ PL;have J0:=NX.trans JZ;refine⟨l,l4,kr.map V.ref,[.ref t4],rfl,rfl,J0 _ _ hlu,PL,fits (by simp;omega),λc0 Pe=>?_⟩;have JY:=ah Pe (.lst (kr.map V.ref++[.ref t4]));have M8:upd H8 c0 (.lst (kr.map V.ref++[.ref t4])) c0=some (.lst ((kr++[t4]).map V.ref)):=by rw [ae,bI];rfl
    have Z1:c0≠D:=(au (J0 _ _ Lr) Pe).symm;generalize upd H8 c0 (.lst (kr.map V.ref++[.ref t4]))=H9 at JY M8;refine⟨qf,λt5 OL=>?_⟩;have QF:=ah OL (.tup [.str z,.ref c0]);have Yv:a9 K (upd H9 t5 (.tup [.str z,.ref c0])) t5 [.str z,.ref c0]:=a9.of ae;generalize upd H9 t5 (.tup [.str z,.ref c0])=vP at QF Yv;have sA:=(J0.trans JY).trans QF;refine⟨D,_,_,rfl,rfl,sA _ _ Lr,bQ (by rw [aB];omega),?_⟩;have QK:=ft (Paired.eF QL λ_ _ z=>sA.tup (eC W2.hm z)) (b:=(k,j)) (((JZ.trans JY).trans QF).tup PM);have hP:CS K vP c0 gh.length (λps=>vK aa st name ps z):=⟨kr++[t4],Mw++[(k,j)],tO,QF _ _ M8,QK,λp hp=>by
     rcases bq.mp hp with h | h
     .exact WN p h
     rw [bE.mp h];exact⟨Oq,W8⟩,by rw [b9];simp;omega⟩
    exact⟨iu++[t5],gh++[(z,c0)],ms++[z],_,_,_,_,rfl,W2.more fD fm hz nm nz sA Yv hP Z1,c2.more ∅,cin (λx hx=>lX _ hx) (fN _ (bE.mpr rfl)),by rw [b9];omega,by rw [jh ∅];exact Rg,by rw [<-p6,jh (by simp;omega)];exact HF⟩
   have EB:z∈ms:=mem.mp (by cases e:(a_ kvs (Sum.inr z)).isSome with
    | true=>rfl
    | false=>rw [e] at c;exact absurd rfl c)
   exact⟨iu,gh,ms,kvs,_,_,_,rfl,W2,c2,cin (λ_ hx=>hx) EB,h2,Rg,HF⟩
  rintro σ H6 ⟨iu,gh,ms,kvs,y7,y8,y9,rfl,W2,c2,ci,h2,Rg,HF⟩;refine⟨_,rfl,_,_,rfl,rfl,iu,gh,ms,kvs,_,_,_,_,rfl,W2,λx hx z hz=>?_,h2⟩;rw [cV,HF] at hx;rcases bq.mp hx with h | h
  .exact c2 x h z hz
  cases (bE.mp h:x=n);obtain⟨e,he,ru,e1,e2⟩:=hz;have W9:=bF bn;exact ci e (by rw [aB,W9,cE];exact he) ru z e1 e2
 have c':=c;rw [decide_eq_true_iff] at c';rw [aB,lw] at c';exact⟨xM,λD9 Ci=>(q D9 _ (W.sm.free Ci) (W.sm.trans (ah Ci _))).1 (lK.all ∅ W.nd) ae⟩
end
def gJ.trans {aa:List ay}{st:Str->List (Nat×Nat)}{a b c:Str}(h:gJ aa st a b)(g:gJ aa st b c):gJ aa st a c:=by
 induction g with
 | one s=>exact .more h s
 | more _ s ih=>exact .more ih s
open Classical in
def Gw {aa:List ay}{st:Str->List (Nat×Nat)}{aR:List (Str×Nat)}(em:pD aa aR)(ec:lI aa aa.length aR)(hits:∀n k j,n∈hd aa->((k,j)∈st n↔H_ aa (hd aa) (λz=>decide (z∈aR.map (·.1))) n k j))(no:∀n∈hd aa,¬gJ aa st n n) :
  gK aa λn=>((hd aa).filter λx=>decide (gJ aa st n x)).length:=by
 intro HC em' Rn n k j hit ru z er ez;have ef:(λz=>decide (z∈HC.map (·.1)))=λz=>decide (z∈aR.map (·.1)):=funext λz=>decide_eq_decide.mpr ⟨λh=>vx ec (q8 em' z h),λh=>vx Rn (q8 em z h)⟩;rw [ef] at hit;obtain⟨jW,z',A0,en,FU,hz,_⟩:=id hit;rw [er] at A0;cases A0;rw [ez] at FU;cases FU;have hn:n∈hd aa:=by
  show n∈pA [] (aa.map (·.1));rw [d_];exact .inr (cU.mpr ⟨ru,cb er,en⟩)
 have WD:Ng aa st n z:=⟨(k,j),(hits n k j hn).mpr hit,ru,er,ez⟩;exact m_ (p:=λx=>decide (gJ aa st z x)) (q:=λx=>decide (gJ aa st n x)) (λx hx=>cM ((gJ.one WD).trans (d6 hx))) hz (cM (.one WD)) (ff (no z hz))
def Ct {K:aV}{H:Hp}{p D:Addr}{ls:List Addr}{σ:St}{x:Str}{Qp:Hp->Prop}(hp:H p=some (.lst (ls.map V.ref))){C:List (Nat×Nat)->Prop}(hl:∀l∈ls,H l=some (.lst [])\/CF K H l C)(hn:ls.length<=1000)(hD:H D=none)
  (q:∀H2 ks,aC H H2->H2 D=some (.lst (ks.map V.ref))->(∀l∈ks,l∈ls/\CF K H l C)->(ks=[]->∀l∈ls,H l=some (.lst []))->Qp H2) :
  ∃W:Nat->Nat->List V->St->Hp->Prop,(∃m,W 0 m [] (df [x] [] σ) (upd H D (.lst []))) /\
 ∀i m ys σ' H,W i m ys σ' H->((iS K p).stop i H/\Qp H)\/((iS K p).go i H/\∃m',m' < m/\∀x H',(iS K p).kR i H x H'->du 0 x σ' H' λσ2 H2=>fk 0 σ2 H2 λx H'=>∃k,Fu K x H' k/\(λb H3 =>
  if b=true then fk 0 σ2 H3 λy H4=>H4 D=some (.lst ys)/\ys.length < sizeLine/\W (i+1) m' (ys++[y]) σ2 (upd H4 D (.lst (ys++[y]))) else W (i+1) m' ys σ2 H3) k H'):=by
 refine bR (tif:=λσ H Q=>fk 0 σ H λx H'=>∃k,Fu K x H' k/\Q k H') (xs:=ls.map V.ref) (λi ys σ2 H5=>(∃ks:List Addr,ys=ks.map V.ref/\ks.length<=i/\(∀l∈ks,l∈ls/\CF K H l C)/\(ks=[]->∀l∈ls.take i,H l=some (.lst [])))/\(∃y0,σ2=[y0])/\aC H H5/\H5 D=some (.lst ys))
  ⟨⟨[],rfl,by simp,by simp,λ_ l hl=>by simp at hl⟩,⟨none,rfl⟩,ah hD _,ae⟩ (λi ys σ2 H5 _ h=>aG.of (h.2.2.1 _ _ hp)) (λi x ys σ2 H5 ex h=>?_) (λys σ2 H5 h=>?_)
 .obtain⟨⟨ks,rfl,hk,hm,he⟩,⟨y0,rfl⟩,s5,e5⟩:=h;rw [aZ] at ex;obtain⟨l,el,rfl⟩:=cf.mp ex;have li:=(bo.mp el).1;have Xv:=cb el;refine goN ?_;rcases hl l Xv with hl | hl
  .refine⟨_,rfl,false,.inl ⟨[],aG.of (s5 _ _ hl),rfl⟩,?_⟩;refine hJ ?_;refine⟨⟨ks,rfl,∅,hm,λz l' xS=>?_⟩,⟨_,rfl⟩,s5,e5⟩;rw [cV,el] at xS;rcases bq.mp xS with h | h
   .exact he z l' h
   cases (bE.mp h:l'=l);exact hl
  obtain⟨t,ts,ps,y1,a,b,c,d⟩:=id hl;refine⟨_,rfl,true,.inl ⟨_,aG.of (s5 _ _ a),rfl⟩,?_⟩;refine rV ?_;refine⟨_,rfl,e5,bQ (by rw [aB];omega),⟨ks++[l],by rw [bI];rfl,by rw [b9];simp;omega,λl' xS=>?_,λz=>by simp at z⟩,⟨_,rfl⟩,λb o hb=>?_,ae⟩
  .rcases bq.mp xS with h | h
   .exact hm l' h
   rw [bE.mp h];exact⟨Xv,hl⟩
  rw [ai (λz=>by rw [z,hD] at hb;cases hb)];exact s5 b o hb
 obtain⟨⟨ks,rfl,hk,hm,he⟩,_,s5,e5⟩:=h;refine q H5 ks s5 e5 hm λz l xS=>he z l ?_;rw [aB,cE];exact xS
section
def Eb (F:gX K "find_loop" "find_loop" Dr f fd)(T:Txt mg)(GS:aK P w K mg base 2 "steps_with_like_rows" ["rules"] (Aj K))(GW:aK P w K mg base 1 "way_back" ["rules","steps","name"] (Dd K)):ba P w K mg base fc 3 f fd ["rules"] (An K):=by
 refine F.ok ym (λvs H Q E h=>?_) (λdw A outer s H vs Q E hr h=>?_)
 .obtain⟨R,rs,aa,rfl,_⟩:=h;rfl
 obtain⟨R,rs,aa,rfl,hR,cS,a8,h8,q⟩:=h;refine⟨_,aj (aF (i:=1) ym.nd rfl (Or.inr rfl) (bU GS hr rfl (af (pv 0) ak)))
  (aj (gi (iy:=2) ["name"] [(0,"rules"),(1,"steps")] ym.nd rfl rfl rfl (AD (pv 1)) (bh rfl rfl) nofun rfl nofun
   (λ_ _ _ _ _=>aw (i:=0) (show (["name","rules","steps"]:List Str).Nodup by decide +kernel) rfl (bM rfl)) (λ_ _ _ _ _=>bW)
   (λ_ _ _ _ _=>bU (GW.mono (by decide:1<=2)) hr rfl (af (pv 1) (af (pv 2) (af (pv 0) ak)))))
  (ao (bu (GQ rfl rfl T.min rfl T.len (af (bK ["loop"] [] rfl (bx (pv 2)) (bh rfl rfl) nofun rfl nofun
   (λ_ _ _ _ _=>aw (i:=0) (show (["loop"]:List Str).Nodup by decide +kernel) rfl (bM rfl)) (λ_ _ _ _ _=>ie (Bv K (pv 0) (λ_=>rfl))) (λ_ _ _ _ _=>pv 0)) ak) (cK ak))))),?_⟩
 nofun
 refine⟨_,rfl,R,rs,aa,rfl,hR,cS,a8,h8,λd ps st aR H1 fd1 s1 e1 S1 m1 MZ emp zH hits=>?_⟩;have Tp:ps.length<=1000:=by
  have h1:=congrArg List.length m1;have h2:=gk (aa.map (·.1)) [];simp only [iC,aB] at h2;rw [aB] at h1;have h3:(hd aa).length=(pA [] (aa.map (·.1))).length:=rfl;omega
 have hdn:YX aa (ps.map (·.1)) st:=λn hn e he=>by
  rw [m1] at hn ⊢;have hit:=(hits n e.1 e.2 hn).mp he;obtain⟨ru,z,er,_,ez,hz,_⟩:=id hit;exact⟨ru,z,er,ez,hz⟩
 refine⟨_,rfl,d,_,rfl,e1,λo D hD=>?_⟩;have SI:∀p∈ps,p.2≠d:=λp hp z=>by
  obtain⟨ts,a,_⟩:=S1.lst p hp;rw [z,e1] at a;cases a
 have s2:aC H (upd H1 d (.jo o (.dK (ps.map iT)))):=λb u hb=>by
  rw [ai (λz=>by rw [z,fd1] at hb;cases hb)];exact s1 b u hb
 have S2:CN K ps st (upd H1 d (.jo o (.dK (ps.map iT)))) d:=⟨.inr ⟨o,ae⟩,S1.n1,S1.n2,λp hp=>by
  obtain⟨ts,a,b⟩:=S1.lst p hp;exact⟨ts,by rw [ai (SI p hp)];exact a,Paired.eF b λ_ _ z=>eC e1 z⟩⟩
 have e2:upd H1 d (.jo o (.dK (ps.map iT))) d=some (.jo o (.dK (ps.map iT))):=ae;generalize upd H1 d (.jo o (.dK (ps.map iT)))=H2 at hD s2 S2 e2 ⊢;refine rm (λi ys σ2 H3=>∃ls:List Addr,ys=ls.map V.ref/\Paired (λl n=>H2 l=none/\l≠D/\((H3 l=some (.lst [])/\¬gJ aa st n n)\/CF K H3 l (ny aa))) ls ((ps.map (·.1)).take i)/\(∃y0,σ2=[y0,br R,br d])/\aC H2 H3/\H3 D=some (.lst ys))
  ⟨[],rfl,.nil,⟨none,rfl⟩,ah hD _,ae⟩ (λi ys σ2 H3 _ h=>?_) (λi kv ys σ2 H3 ex h=>?_) (λys σ2 H3 h=>?_)
 .obtain⟨_,_,_,_,sm,_⟩:=h;exact sm _ _ e2
 .obtain⟨ls,rfl,hl,⟨y0,rfl⟩,sm,gO⟩:=h;rw [aZ] at ex;obtain⟨p,ep,rfl⟩:=cf.mp ex;have hp:=cb ep;have li:=(bo.mp ep).1;have Tr:=bF hl;rw [c_] at Tr;refine goN (vq ?_);have s3:=s2.trans sm;have fin:∀D4 H4,H3 D4=none->aC H3 H4->((H4 D4=some (.lst [])/\¬gJ aa st p.1 p.1)\/CF K H4 D4 (ny aa))->H4 D=some (.lst (ls.map V.ref))/\(ls.map V.ref).length < sizeLine/\∃MC:List Addr,ls.map V.ref++[V.ref D4]=MC.map V.ref/\Paired (λl n=>H2 l=none/\l≠D/\((upd H4 D (.lst (ls.map V.ref++[.ref D4])) l=some (.lst [])/\¬gJ aa st n n)\/CF K (upd H4 D (.lst (ls.map V.ref++[.ref D4]))) l (ny aa))) MC ((ps.map (·.1)).take (i+1))/\aC H2 (upd H4 D (.lst (ls.map V.ref++[.ref D4]))):=λD4 H4 f4 s4 e4=>by
   have rO:=s4 _ _ gO;have Tb:D4≠D:=λz=>by rw [z,gO] at f4;cases f4
   have pn:∀{l:Addr},l≠D->CF K H4 l (ny aa)->CF K (upd H4 D (.lst (ls.map V.ref++[.ref D4]))) l (ny aa):=λne ⟨t,ts,ps,y,a,b,c,d⟩=>⟨t,ts,ps,y,by rw [ai ne];exact a,Paired.eF b λ_ _ z=>a7 rO z,c,d⟩;refine⟨rO,bQ (by rw [aB];omega),ls++[D4],by rw [bI];rfl,?_,λb u hb=>?_⟩
   .rw [cV,aZ,ep];refine ft (Paired.eF hl λl n aT=>?_) ⟨?_,Tb,e4.elim (λ⟨c1,c2⟩=>.inl ⟨by rw [ai Tb];exact c1,c2⟩) λc=>.inr (pn Tb c)⟩;obtain⟨a,b,c⟩:=aT;refine⟨a,b,c.elim (λaT=>?_) λc=>.inr (pn b (c.same s4))⟩;obtain⟨c1,c2⟩:=aT;exact .inl ⟨by rw [ai b];exact s4 _ _ c1,c2⟩;exact sm.free f4
   rw [ai (λz=>by rw [z,hD] at hb;cases hb)];exact s4 _ _ (sm b u hb)
  refine⟨_,rfl,_,rfl,_,rfl,R,d,rs,aa,ps,st,p.1,rfl,s3.seq hR,cS.same s3,a8,h8,S2.same sm,Tp,iE hp,hdn,λD4 H4 f4 s4=>⟨λno e4=>?_,λe4=>?_⟩⟩
  .obtain⟨a,b,MC,c1,c2,c3⟩:=fin D4 H4 f4 s4 (.inl ⟨e4,no⟩);exact⟨a,b,MC,c1,c2,⟨_,rfl⟩,c3,ae⟩
  obtain⟨a,b,MC,c1,c2,c3⟩:=fin D4 H4 f4 s4 (.inr (by
   obtain⟨t,ts,pp,⟨y1,y2⟩,a,b,c,d⟩:=e4;have W6:=bF b;rw [m1] at y2;exact⟨t,ts,pp,⟨st,p.1,⟨aR,emp,zH,hits⟩,by rw [<-m1];exact iE hp,y1,λz=>by rw [z] at W6;simp at W6,y2⟩,a,b,c,d⟩))
  exact⟨a,b,MC,c1,c2,⟨_,rfl⟩,c3,ae⟩
 obtain⟨ls,rfl,hl,_,sm,gO⟩:=h;have s3:=s2.trans sm;rw [aB,show ps.length=(ps.map (·.1)).length from (aB _).symm,cE] at hl;have Tr:=bF hl;rw [aB] at Tr;have each:∀l∈ls,H2 l=none/\(H3 l=some (.lst [])\/CF K H3 l (ny aa)):=λl hm=>by
  obtain⟨i,ei⟩:=d7 hm;have li:=(bo.mp ei).1;obtain⟨l',LK,a,b,c⟩:=Paired.at_ hl i _ (cZ (by rw [aB];omega));rw [ei] at LK;cases LK;exact⟨a,c.elim (λc=>.inl c.1) .inr⟩
 refine⟨_,rfl,D,rfl,⟨_,aG.of gO⟩,λD5 IV=>?_⟩;refine Ct gO (λl xS=>(each l xS).2) ∅ IV λH5 ks s5 e5 hk ke=>?_;refine⟨xM,λD6 MT=>?_⟩;have s6:=ah MT (.lst []);have e6:upd H5 D6 (.lst []) D6=some (.lst []):=ae;generalize upd H5 D6 (.lst [])=H6 at s6 e6;have QG:=s5.trans s6;obtain⟨rL,T4⟩:∃rL:List (List V),Paired (λl xs=>aG K H6 l xs) ks rL:=by
  have:∀l∈ks,∃xs,aG K H6 l xs:=λl xS=>by
   obtain⟨t,ts,ps,_,a,_⟩:=(hk l xS).2;exact⟨_,aG.of (QG _ _ a)⟩
  clear hk ke e5
  induction ks with
  | nil=>exact⟨[],.nil⟩
  | cons a b ih =>
   obtain⟨xs,hx⟩:=this a bX;obtain⟨rL,T4⟩:=ih λl xS=>this l (bS _ xS);exact⟨xs::rL,.cons hx T4⟩
 refine⟨D5,ks,rL,rfl,aG.of (s6 _ _ e5),T4,λk0=>?_,λl xS=>?_⟩
 .refine(q D6 H6 ((s3.trans s5).free MT) (s3.trans QG)).1 _ (Gw emp zH hits λn hn=>?_) e6;rw [<-m1] at hn;obtain⟨i,ei⟩:=d7 hn;obtain⟨l',LK,a,b,c⟩:=Paired.at_ hl i n ei;rcases c with c | c
  .exact c.2
  have:=ke k0 l' (cb LK);obtain⟨t,ts,ps,_,c1,_⟩:=c;rw [this] at c1;cases c1
 have hm:=cb xS;obtain⟨O0,pn⟩:=hk l hm;obtain⟨t,ts,pp,y,a,b,c,d⟩:=pn.same QG;exact(q l H6 (s2.free (each l O0).1) (s3.trans QG)).2 t ts pp a b c d y
end
abbrev Du:Stmt:=top 39
abbrev yp:Stmt:=top 40
abbrev uT:Stmt:=top 41
abbrev Dp:Stmt:=top 42
section
def Di (K:aV):Sp:=λvs H Q _=>∃(a:Addr)(ns:List Int) (k:Nat),vs=[.ref a,.int (k:Int)]/\aG K H a (ns.map V.int)/\ns.length<=1000/\∀n:Int,Q (.int n) H
def JQ:aH ["_law_script","_law_k"] ["_law_script","_law_k"] (av Du):=iw rfl rfl rfl rfl nofun
def G8 (F:gX K "_law_cell_at" "_law_cell_at" Du f fd)(T:Txt mg):ba P w K mg base fc 1 f fd ["_law_script","_law_k"] (Di K):=by
 refine F.ok JQ (λvs H Q E h=>?_) (λdw A outer s H vs Q E hr h=>?_)
 .obtain⟨a,ns,k,rfl,_⟩:=h;rfl
 obtain⟨a,ns,k,rfl,hS,hn,q⟩:=h;refine⟨_,aj (cN (cx mI (pv 1) (aN aQ rfl T.len d5 (af (pv 0) ak)) (dq _)) (ao (bu (aP bz (pv 0) (pv 1) (λ_ _=>rfl)))) bw) (ao (bu aq)),?_⟩;refine⟨_,rfl,_,rfl,a,_,rfl,.inl hS,_,_,rfl,rfl,_,rfl,?_⟩;refine dJ (λcc=>?_) (λ_=>q 0);have lt:=d6 cc;rw [aB] at lt;have lt':k < ns.length:=by omega
 refine⟨_,rfl,_,rfl,a,_,_,.int ns[k],rfl,rfl,hS,bj (by rw [aZ,cZ lt'];rfl),q _⟩
def ma:Sp:=λvs H Q _=>∃(c:Int) (m:Nat),vs=[.int c,.int (m:Int)]/\m<=100/\∀D ns H',H D=none->aC H H'->H' D=some (.lst (List.map V.int ns))->ns.length=m->(∀n∈ns,(0:Int)<=n/\n < 4294967311)->Q (.ref D) H'
def jH:aH ["_law_cell","_law_many","_law_found","_law_number","_law_k"] ["_law_cell","_law_many"] (av uT):=iw rfl rfl rfl rfl nofun
def LU (xs:List V):gC xs (some 1) none=xs.drop 1:=by
 have e1:HT.dA xs.length 0 (some 1)=min 1 xs.length:=HT.i4 _ _ 1;have e2:HT.dA xs.length xs.length none=xs.length:=rfl;unfold gC;rw [e1,e2];cases xs with
 | nil=>rfl
 | cons x r=>simp
def BH (F:gX K "_law_stream" "_law_stream" uT f fd)(T:Txt mg):ba P w K mg base fc 1 f fd ["_law_cell","_law_many"] ma:=by
 refine F.ok jH (λvs H Q E h=>?_) (λdw A outer s H vs Q E hr h=>?_)
 .obtain⟨c,m,rfl,_⟩:=h;rfl
 obtain⟨c,m,rfl,hm,q⟩:=h;refine⟨_,aj (aF (i:=2) jH.nd rfl (bM rfl) (cK ak))
  (aj (aF (i:=3) jH.nd rfl (bM rfl) (aX dH (aX dG (pv 0) aq) aq))
  (aj (b_ cD rfl (fw rfl T.Bu (af (aX dH (pv 1) aq) ak)) (aw (i:=4) jH.nd rfl (bM rfl))
   (aj (aF (i:=3) jH.nd rfl (bM rfl) (aX dG (aX dH (aX dH (aX yS (pv 3) (pv 3)) (aX yS aq (pv 3))) (pv 4)) aq))
   (ao (cP (iK jf jw jx cT (pv 2) (af (pv 3) ak))))))
  (ao (bu (dW hZ (pv 2) (dB aq) ic))))),?_⟩
 refine⟨xM,λl hl=>?_⟩;refine⟨_,rfl,_,_,rfl,rfl,(by show (0:Int) < 4294967311;decide),_,_,rfl,rfl,?_⟩;refine⟨_,rfl,_,_,rfl,rfl,_,rfl,∅,∅,?_⟩;have e0:((m:Int)+1).toNat=m+1:=by omega
 rw [e0];have hx0:(0:Int)<=c % 4294967311+48271/\c % 4294967311+48271 < 8589934592:=by omega
 refine gb (n:=m+1) (λi σ H2=>∃(x:Int)(ns:List Int)(kk:Option V),σ=[some (.int c),some (.int (m:Int)),br l,some (.int x),kk]/\H2=upd H l (.lst (ns.map V.int))/\ns.length=i/\((0:Int)<=x/\x < 8589934592)/\∀n∈ns,(0:Int)<=n/\n < 4294967311)
  ⟨c % 4294967311+48271,[],none,rfl,rfl,rfl,hx0,by simp⟩ ?_ ?_
 .rintro i σ H2 hi ⟨x,ns,kk,rfl,rfl,lJ,hx,kC⟩;refine⟨_,rfl,_,rfl,_,_,rfl,rfl,.inl ⟨∅,∅⟩,_,rfl,_,_,rfl,rfl,.inl ⟨nofun,nofun⟩,_,_,rfl,rfl,_,rfl,_,_,rfl,rfl,_,_,rfl,rfl,(by show (0:Int) < 4294967311;decide),?_⟩;have hy:(0:Int)<=(x * x+69621 * x+(0+(i:Int))) % 4294967311/\(x * x+69621 * x+(0+(i:Int))) % 4294967311 < 4294967311:=by omega
  refine⟨_,rfl,.inl ⟨rfl,_,aG.of ae⟩,_,rfl,l,_,_,rfl,rfl,ae,bQ (by rw [aB];omega),?_⟩;refine⟨(x * x+69621 * x+(0+(i:Int))) % 4294967311,ns++[(x * x+69621 * x+(0+(i:Int))) % 4294967311],_,rfl,by rw [jS,bI];rfl,by rw [b9,lJ];rfl,⟨hy.1,∅⟩,λn hn=>?_⟩;rcases bq.mp hn with h | h
  .exact kC n h
  rw [bE.mp h];exact hy
 rintro σ H2 ⟨x,ns,kk,rfl,rfl,lJ,hx,kC⟩;refine⟨_,rfl,1,rfl,l,_,rfl,aG.of ae,λp hp=>?_⟩;rw [LU];have nA:p≠l:=λz=>by rw [z,ae] at hp;cases hp
 refine q p (ns.drop 1) _ (by rw [ai nA] at hp;exact hp) ((ah hl _).trans (ah hp _)) (by rw [ae,iW]) (by rw [jd,lJ];omega) λn hn=>kC n (List.mem_of_mem_drop hn)
def iY:Str := "!\"#$&'()*+,-./0123456789:;<=>?@ABCDEFGHIJKLMNOPQRSTUVWXYZ[\\]^_`abcdefghijklmnopqrstuvwxyz{|}~"
def Et:iY.cps.toList.length=93:=by decide +kernel
def P5 (n:Int):∃c,ir iY.cps.toList (n % 93)=some c:=by
 have h:(n % 93).toNat < iY.cps.toList.length:=by rw [Et];omega
 refine⟨iY.cps.toList[(n % 93).toNat],?_⟩;have e:n % 93=(((n % 93).toNat:Nat):Int):=by omega
 have:=bj (cZ h);rw [<-e] at this;exact this
def r_ (z:Str):Prop:=∀c∈z.cps.toList,c∈iY.cps.toList
def r_.lt {z:Str}(h:r_ z):∀c∈z.cps.toList,c < 16 ^ 8:=λc hc=>(show ∀c∈iY.cps.toList,c < 16 ^ 8 by decide +kernel) c (h c hc)
def r_.app {x y:Str}(h:r_ x)(g:r_ y):r_ (x++y):=λc hc=>by
 have e:(x++y).cps.toList=x.cps.toList++y.cps.toList:=by show (x.cps++y.cps).toList=_;simp
 rw [e] at hc;exact(bq.mp hc).elim (h c) (g c)
def r_.one {cc:Nat}{i:Int}(h:ir iY.cps.toList i=some cc):r_ ⟨#[cc]⟩:=λc hc=>by
 have:c=cc:=by simpa using hc
 subst this;unfold ir at h;obtain⟨j,_,e⟩:=Option.bind_eq_some_iff.mp h;exact cb e
theorem r_.Bp {z:Str}(h:r_ z)(lo hi:Option Int):r_ (Bp z lo hi):=by
 unfold L2.Bp
 split
 .exact h
 intro c hc;have hc:c∈(List.filterMap (z.cps[·]?) (slicePicked z (lo.map λi=>(i,0)) (hi.map λi=>(i,0)) none)):=by simpa using hc
 obtain⟨k,_,e⟩:=uh.mp hc;exact h c (by rw [Array.mem_toList_iff];exact Array.mem_of_getElem? e)
theorem r_.join {zs:List Str}(h:∀z∈zs,r_ z):r_ (Txt.join (Str.ofString "") zs):=by
 have e2:Txt.join (Str.ofString "") zs=Str.join (Str.ofString "") zs:=StrLaws.glued_eq_join _ _;rw [e2];have e0:r_ (Str.ofString ""):=λc hc=>by rw [show (Str.ofString "").cps.toList=[] from rfl] at hc;cases hc
 clear e2
 induction zs with
 | nil=>exact λc hc=>by simp [Str.join,Str.empty] at hc
 | cons x r ih =>
  cases r with
  | nil=>exact h x bX
  | cons y t =>
   show r_ (x++Str.ofString "" ++ Str.join (Str.ofString "") (y::t));exact((h x bX).app e0).app (ih λz hz=>h z (bS _ hz))
def SU:iY.cps.toList.Nodup:=by decide +kernel
def OC {a b:Int}{c:Nat}(h1:ir iY.cps.toList (a % 93)=some c)(h2:ir iY.cps.toList (b % 93)=some c):a % 93=b % 93:=by
 have e1:a % 93=(((a % 93).toNat:Nat):Int):=by omega
 have e2:b % 93=(((b % 93).toNat:Nat):Int):=by omega
 have l1:(a % 93).toNat < iY.cps.toList.length:=by rw [Et];omega
 have l2:(b % 93).toNat < iY.cps.toList.length:=by rw [Et];omega
 have g1:=bj (cZ l1);have g2:=bj (cZ l2);rw [<-e1,h1] at g1;rw [<-e2,h2] at g2;have e3:iY.cps.toList[(a % 93).toNat]=iY.cps.toList[(b % 93).toNat]:=(gM g1).symm.trans (gM g2);have:=(p8 SU).mp e3;omega
def Fx (pre:Str) (n2:Int) (j:Nat)(z:Str):Prop:=∃cc Zp,z=pre++⟨#[cc]⟩++Zp/\ir iY.cps.toList ((n2+5 * (j:Int)) % 93)=some cc
def GB {pre:Str}{n2:Int}{ws:List Str}(hl:ws.length<=14)(h:∀j z,ws[j]?=some z->Fx pre n2 j z):ws.Nodup:=by
 refine List.pairwise_iff_getElem.mpr λi j hi hj AO e=>?_;obtain⟨c1,s1,e1,a1⟩:=h i _ (cZ hi);obtain⟨c2,s2,e2,a2⟩:=h j _ (cZ hj);rw [e1,e2] at e;have e':=congrArg (λz:Str=>z.cps.toList) e;have q:pre.cps.toList++(c1::s1.cps.toList)=pre.cps.toList++(c2::s2.cps.toList):=by
  have f:∀(c:Nat)(s:Str),(pre++(⟨#[c]⟩:Str)++s).cps.toList=pre.cps.toList++(c::s.cps.toList):=λc s=>by
   show ((pre.cps++#[c])++s.cps).toList=_;simp
  rw [<-f,<-f];exact e'
 have q2:=List.append_cancel_left q;injection q2 with q3 _;rw [<-q3] at a2;have:=OC a1 a2;omega
def Df:Sp:=λvs H Q _=>∃(c:Int) (m:Nat),vs=[.int c,.int (m:Int)]/\m<=14/\∀D zs H',H D=none->aC H H'->H' D=some (.lst (List.map V.str zs))->zs.length=m->(∀z∈zs,rD z)->zs.Nodup->Q (.ref D) H'
def iq:aH ["_law_cell","_law_many","_law_signs","_law_draws","_law_size","_law_at","_law_base","_law_found","_law_k","_law_sign","_law_end"] ["_law_cell","_law_many"] (av Dp):=iw rfl rfl rfl rfl nofun
def G5 (F:gX K "_law_pool" "_law_pool" Dp f fd)(T:Txt mg)(GS:aK P w K mg base 1 "_law_stream" ["_law_cell","_law_many"] ma):ba P w K mg base fc 2 f fd ["_law_cell","_law_many"] Df:=by
 refine F.ok iq (λvs H Q E h=>?_) (λdw A outer s H vs Q E hr h=>?_)
 .obtain⟨c,m,rfl,_⟩:=h;rfl
 obtain⟨c,m,rfl,aag,q⟩:=h;refine⟨_,aj (aF (i:=2) iq.nd rfl (Or.inr rfl) DK)
  (aj (aF (i:=3) iq.nd rfl (bM rfl) (bU GS hr rfl (af (pv 0) (af aq ak))))
  (aj (aF (i:=4) iq.nd rfl (bM rfl) (aX dH aq (aX dG (aP bz (pv 3) aq (λ_ _=>rfl)) aq)))
  (aj (aF (i:=5) iq.nd rfl (bM rfl) (aX dG (aP bz (pv 3) aq (λ_ _=>rfl)) (pv 4)))
  (aj (aF (i:=6) iq.nd rfl (bM rfl) (iK PySem.F.plainAttrs_str PySem.F.slot_str_join PySem.F.type_str_join Ha DK
   (af (bK ["_law_draw"] [(2,"_law_signs")] rfl (bx (dW hZ (pv 3) (dB aq) (dB (aX dH aq (pv 4))))) (bh rfl rfl) nofun rfl nofun
    (λ_ _ _ _ _=>aw (i:=0) (show (["_law_draw","_law_signs"]:List Str).Nodup by decide +kernel) rfl (bM rfl)) (λ_ _ _ _ _=>bW) (λ_ _ _ _ _=>aP Ez (pv 1) (aX dG (pv 0) aq) (λ_ _=>rfl))) ak)))
  (aj (aF (i:=7) iq.nd rfl (bM rfl) (cK ak))
  (aj (b_ cD rfl (fw rfl T.Bu (af (pv 1) ak)) (aw (i:=8) iq.nd rfl (bM rfl))
   (aj (aF (i:=9) iq.nd rfl (bM rfl) (aP Ez (pv 2) (aX dG (aX dH (aP bz (pv 3) (aX dH aq (pv 5)) (λ_ _=>rfl)) (aX yS aq (pv 8))) aq) (λ_ _=>rfl)))
   (aj (aF (i:=10) iq.nd rfl (bM rfl) (aX dH (aX dH (pv 5) aq) (aX dG (aX gR (aP bz (pv 3) aq (λ_ _=>rfl)) (aX dH (pv 8) aq)) aq)))
   (ao (cP (iK jf jw jx cT (pv 7)
    (af (aX qD (aX qD (dW Av (pv 6) ic (dB (pv 5))) (pv 9)) (dW Av (pv 6) (dB (aX dH (pv 5) aq)) (dB (pv 10)))) ak)))))))
  (ao (bu (pv 7))))))))),?_⟩
 refine⟨_,rfl,c,16,rfl,nofun,λD ns H1 hf0 s1 hD a8 kC=>?_⟩;have Lv:∀i:Nat,i < 16->∃x:Int,(0:Int)<=x/\x < 4294967311/\ir (ns.map V.int) (i:Int)=some (.int x):=λi hi=>by
  have lt:i < ns.length:=by omega
  obtain⟨a1,a2⟩:=kC ns[i] (p_ lt);exact⟨ns[i],a1,a2,bj (by rw [aZ,cZ lt];rfl)⟩
 obtain⟨n0,a0,b0,g0⟩:=Lv 0 nofun;obtain⟨n1,a1,b1,g1⟩:=Lv 1 nofun;refine⟨_,rfl,D,_,_,.int n0,rfl,rfl,aG.of hD,g0,_,_,rfl,rfl,(by show (0:Int) < 14;decide),_,_,rfl,rfl,?_⟩;refine⟨_,rfl,D,_,_,.int n1,rfl,rfl,aG.of hD,g1,_,rfl,_,_,rfl,rfl,(by show (0:Int) < 1+n0 % 14;omega),?_⟩;have XQ:(0:Int)<=n1 % (1+n0 % 14)/\n1 % (1+n0 % 14) < 14:=by
  have h1:(0:Int) < 1+n0 % 14:=by omega
  have h2:=Int.emod_nonneg n1 (Int.ne_of_gt h1);have h3:=Int.emod_lt_of_pos n1 h1;omega
 refine⟨rfl,_,rfl,2,rfl,_,rfl,_,_,rfl,rfl,_,rfl,D,_,rfl,aG.of hD,λc1 Pd=>?_⟩;obtain⟨o6,e1,_,l1⟩:=xl ns (some 2) (some (2+(1+n0 % 14)));rw [e1];have s2:=s1.trans (ah Pd (.lst (o6.map V.int)));have Pm:upd H1 c1 (.lst (o6.map V.int)) D=some (.lst (ns.map V.int)):=by rw [ai (au hD Pd)];exact hD
 have FQ:upd H1 c1 (.lst (o6.map V.int)) c1=some (.lst (o6.map V.int)):=ae;generalize upd H1 c1 (.lst (o6.map V.int))=H2 at s2 Pm FQ;refine⟨c1,rfl,⟨_,aG.of FQ⟩,λD2 iP=>bR (xs:=o6.map V.int) (λi ys σ2 H3=>∃zs:List Str,ys=zs.map V.str/\zs.length=i/\(∀z∈zs,z.length=1)/\(∀z∈zs,r_ z)/\(∃y,σ2=[y,some (.str iY)])/\aC H2 H3/\H3 D2=some (.lst ys))
  ⟨[],rfl,rfl,by simp,by simp,⟨none,rfl⟩,ah iP _,ae⟩ (λi ys σ2 H3 _ h=>?_) (λi x ys σ2 H3 ex h=>?_) (λys σ2 H3 h=>?_)⟩
 .obtain⟨_,_,_,_,_,_,sm,_⟩:=h;exact aG.of (sm _ _ FQ)
 .obtain⟨zs,rfl,hz,MH,TU,⟨y,rfl⟩,sm,gO⟩:=h;rw [aZ] at ex;obtain⟨n,en,rfl⟩:=cf.mp ex;obtain⟨cc,Ht⟩:=P5 n;have li:i < o6.length:=(bo.mp en).1;refine goN ?_;refine vq ?_;refine⟨_,rfl,_,rfl,_,_,rfl,rfl,(by show (0:Int) < 93;decide),iY,_,cc,rfl,rfl,nofun,Ht,gO,bQ (by rw [aB];omega),zs++[⟨#[cc]⟩],?_,?_,?_,?_,⟨_,rfl⟩,?_,?_⟩
  .rw [bI];rfl
  .rw [b9,hz];rfl
  .intro z EB;rcases bq.mp EB with h | h
   .exact MH z h
   rw [bE.mp h];rfl
  .intro z EB;rcases bq.mp EB with h | h
   .exact TU z h
   rw [bE.mp h];exact r_.one Ht
  .intro b o hb;rw [ai (λz=>by rw [z,iP] at hb;cases hb)];exact sm b o hb
  rw [ae]
 obtain⟨zs,rfl,hz,MH,TU,⟨y,rfl⟩,sm,gO⟩:=h;have OO:∀l:List Str,(∀z∈l,z.length=1)->(l.map (·.length)).sum=l.length:=by
  intro l
  induction l with
  | nil=>intro _;rfl
  | cons z r ih=>intro h;rw [bG,jc,ih (λz hz=>h z (bS _ hz)),h z bX,dC];omega
 rw [aB] at hz;refine⟨_,D2,zs,rfl,rfl,aG.of gO,?_,?_⟩
 .have e0:(Str.ofString "").length=0:=rfl;rw [OO zs MH,e0];omega
 have hb:(Txt.join (Str.ofString "") zs).length<=16:=by
  have h1:=StrLaws.join_length_le (Str.ofString "") zs;have e0:(Str.ofString "").length=0:=rfl;rw [OO zs MH,e0] at h1;have e2:Txt.join (Str.ofString "") zs=Str.join (Str.ofString "") zs:=StrLaws.glued_eq_join _ _;rw [e2];omega
 have hS:r_ (Txt.join (Str.ofString "") zs):=r_.join TU;generalize Txt.join (Str.ofString "") zs=Jg at hb hS ⊢;have IW:=sm _ _ Pm;have s3:=s2.trans sm;clear sm gO iP FQ;refine⟨xM,λl hl=>?_⟩;refine⟨_,rfl,(m:Int),rfl,∅,∅,?_⟩;rw [iD m];obtain⟨k1,ek1⟩:=Int.eq_ofNat_of_zero_le XQ.1;obtain⟨n2,a2,b2,g2⟩:=Lv (2+k1) ∅;have XT:∀o,upd H3 l o D=some (.lst (ns.map V.int)):=λo=>by rw [ai (au IW hl)];exact IW
 refine gb (n:=m) (λi σ H4=>∃(ws:List Str)(k2 k3 k4:Option V),σ=[some (.int c),some (.int (m:Int)),some (.str iY),br D,some (.int (1+n0 % 14)),some (.int (n1 % (1+n0 % 14))),some (.str Jg),br l,k2,k3,k4] /\
  H4=upd H3 l (.lst (ws.map V.str))/\ws.length=i/\(∀z∈ws,rD z)/\∀j z,ws[j]?=some z->Fx (Bp Jg none (some (n1 % (1+n0 % 14)))) n2 j z) ⟨[],none,none,none,rfl,rfl,rfl,by simp,by simp⟩ ?_ ?_
 .rintro i σ H4 hi ⟨ws,k2,k3,k4,rfl,rfl,hw,K1,QU⟩;obtain⟨cc,Ht⟩:=P5 (n2+5 * (0+(i:Int)));refine⟨_,rfl,_,rfl,_,rfl,_,_,rfl,rfl,D,_,_,.int n2,rfl,rfl,aG.of (XT _),?_,_,rfl,_,_,rfl,rfl,.inl ⟨nofun,nofun⟩,_,_,rfl,rfl,_,_,rfl,rfl,(by show (0:Int) < 93;decide),iY,_,cc,rfl,rfl,nofun,Ht,?_⟩
  .rw [ek1];have e:(2:Int)+(k1:Int)=((2+k1:Nat):Int):=by omega
   rw [e];exact g2
  refine⟨_,rfl,_,_,rfl,rfl,_,rfl,D,_,_,.int n1,rfl,rfl,aG.of (XT _),g1,_,rfl,_,_,rfl,rfl,_,_,rfl,rfl,⟨by show (0:Int) < 0+(i:Int)+2;omega,by show (0:Int)+(i:Int)+2 < 1073741824;omega⟩,_,_,rfl,rfl,(by show (0:Int) < 15;decide),_,_,rfl,rfl,?_⟩;refine⟨_,rfl,.inl ⟨rfl,_,aG.of ae⟩,?_⟩;refine⟨_,rfl,_,rfl,_,rfl,Jg,rfl,fits ∅,?_⟩;have TY:=Dj Jg none (some (n1 % (1+n0 % 14)));have QW:=hS.Bp none (some (n1 % (1+n0 % 14)));generalize Bp Jg none (some (n1 % (1+n0 % 14)))=z1 at TY QW QU ⊢;refine⟨_,rfl,_,_,rfl,rfl,fits (by show z1.length+1<=_;omega),?_⟩;refine⟨_,rfl,_,rfl,_,_,rfl,rfl,_,rfl,_,rfl,_,rfl,Jg,rfl,fits ∅,?_⟩;have TV:=Dj Jg (some (n1 % (1+n0 % 14)+1)) (some (n1 % (1+n0 % 14)+1+n1 / (0+(i:Int)+2) % 15));have OP:=hS.Bp (some (n1 % (1+n0 % 14)+1)) (some (n1 % (1+n0 % 14)+1+n1 / (0+(i:Int)+2) % 15));generalize Bp Jg (some (n1 % (1+n0 % 14)+1)) (some (n1 % (1+n0 % 14)+1+n1 / (0+(i:Int)+2) % 15))=z2 at TV OP ⊢;have Xa:(z1++(⟨#[cc]⟩:Str)).length=z1.length+1:=oK _ _;refine⟨_,_,rfl,rfl,fits (by rw [Xa];omega),?_⟩;refine⟨l,_,_,rfl,rfl,ae,bQ (by rw [aB];omega),?_⟩;refine⟨ws++[z1++⟨#[cc]⟩++z2],_,_,_,rfl,by rw [jS,bI];rfl,by rw [b9,hw];rfl,λz OH=>?_,λj z hj=>?_⟩
  .rcases bq.mp OH with h | h
   .exact K1 z h
   rw [bE.mp h];exact⟨by rw [oK,Xa];omega,((QW.app (r_.one Ht)).app OP).lt⟩
  rw [List.getElem?_append] at hj
  split at hj
  .exact QU j z hj
  rename_i hV
  have ej:j=i:=by
   have:=(bo.mp hj).1;simp at this;omega
  subst ej;rw [hw,Nat.sub_self] at hj;cases hj;refine⟨cc,z2,rfl,?_⟩;have e0:n2+5 * (0+(j:Int))=n2+5 * (j:Int):=by omega
  rw [<-e0];exact Ht
 rintro σ H4 ⟨ws,k2,k3,k4,rfl,rfl,hw,K1,QU⟩;exact⟨_,rfl,q l ws _ (s3.free hl) (s3.trans (ah hl _)) ae hw K1 (GB ∅ QU)⟩
def Ah:Sp:=λvs H Q _=>∃n:Int,vs=[.int n]/\Q (.bl true) H
def Gh:aH ["_law_found"] ["_law_found"] (av yp):=iw rfl rfl rfl rfl nofun
def DV (F:gX K "_law_whole" "_law_whole" yp f fd)(T:Txt mg):ba P w K mg base fc 1 f fd ["_law_found"] Ah:=by
 refine F.ok Gh (λvs H Q E h=>?_) (λdw A outer s H vs Q E hr h=>?_)
 .obtain⟨n,rfl,_⟩:=h;rfl
 obtain⟨n,rfl,q⟩:=h;refine⟨_,ao (bu (DR (aN jR rfl T.IK oG (af (pv 0) (af (mF (v:=.ty "int") rfl T.int PyProof.Rows.boot_int rfl) ak))) (DM (Ko (aN jR rfl T.IK oG (af (pv 0) (af (mF (v:=.ty "bool") rfl T.boo PyProof.Rows.boot_bool rfl) ak))))))),?_⟩;refine⟨_,rfl,.int n,"int","int",true,rfl,.int n,qK,true,rfl,?_⟩;refine rV ?_;exact⟨_,rfl,.int n,"int","bool",false,rfl,.int n,KP,false,rfl,q⟩
end
abbrev JW:Stmt:=top 43
abbrev yC:Stmt:=top 44
abbrev Dn:Stmt:=top 45
abbrev yw:Stmt:=top 46
def EA {n k:Nat}(h:k < n):FK n (k:Int)=some k:=by
 unfold FK;rw [az ∅,az ∅];simp
def Fi {ns:List Int}{k:Nat}(h:k < ns.length):ir (ns.map V.int) (k:Int)=some (.int ns[k]):=bj (by rw [aZ,cZ h];rfl)
def L_ {zs:List Str}{m:Nat}(h:m<=zs.length)(hm:0 < m) (n:Int):∃z∈zs.take m,ir (zs.map V.str) (n % (m:Int))=some (.str z):=by
 have a:=Int.emod_nonneg n (show (m:Int)≠0 by omega);have b:=Int.emod_lt_of_pos n (show (0:Int) < m by omega);have h1:(n % (m:Int)).toNat < zs.length:=by omega
 refine⟨zs[(n % (m:Int)).toNat],?_,?_⟩
 .refine cb (i:=(n % (m:Int)).toNat) ?_;rw [so ∅,cZ h1]
 have e:n % (m:Int)=(((n % (m:Int)).toNat:Nat):Int):=by omega
 have:=bj (xs:=zs.map V.str) (by rw [aZ,cZ h1];rfl:(zs.map V.str)[(n % (m:Int)).toNat]?=some (.str zs[(n % (m:Int)).toNat]));rw [<-e] at this;exact this
section
def Il:Sp:=λvs H Q _=>∃(c:Int),vs=[.int c]/\∀(D:Addr)(ms:List Int)(H':Hp),H D=none->aC H H'->H' D=some (.lst (ms.map V.int))->ms.length=7->Q (.ref D) H'
def wc:aH ["_law_cell","_law_digits_here","_law_k"] ["_law_cell"] (av JW):=iw rfl rfl rfl rfl nofun
def Kx (F:gX K "_law_digits" "_law_digits" JW f fd)(T:Txt mg)(GS:aK P w K mg base 1 "_law_stream" ["_law_cell","_law_many"] ma):ba P w K mg base fc 2 f fd ["_law_cell"] Il:=by
 refine F.ok wc (λvs H Q E h=>?_) (λdw A outer s H vs Q E hr h=>?_)
 .obtain⟨c,rfl,_⟩:=h;rfl
 obtain⟨c,rfl,q⟩:=h;refine⟨_,aj (gi (iy:=1) ["_law_draw"] [] wc.nd rfl rfl rfl (bx (bU GS hr rfl (af (aX gR (pv 0) aq) (af aq ak)))) (bh rfl rfl) nofun rfl nofun
   (λ_ _ _ _ _=>aw (i:=0) (show (["_law_draw"]:List Str).Nodup by decide +kernel) rfl (bM rfl)) (λ_ _ _ _ _=>bW) (λ_ _ _ _ _=>aX gR (pv 0) aq))
  (aj (jX (cN (cx wA (aX dG (pv 0) aq) aq (dq _))
   (aj (aF (i:=0) wc.nd rfl (bM rfl) (aX gR (pv 0) aq))
   (ao (b_ cD rfl (fw rfl T.Bu (af aq ak)) (aw (i:=2) wc.nd rfl (bM rfl))
    (ao (cN (cx AJ (pv 0) aq (dq _))
     (aj (yM (aX dG (aX yR (pv 0) aq) aq) (Km (pv 1) (pv 2) set_list))
     (ao (aF (i:=0) wc.nd rfl (bM rfl) (aX gR (aX yR (pv 0) aq) aq)))) bw))))) bw))
  (ao (bu (pv 1)))),?_⟩
 refine⟨_,rfl,_,_,rfl,rfl,⟨nofun,nofun⟩,c / 2,7,rfl,nofun,λD1 ns H1 hf0 s1 Pm a8 _=>⟨D1,rfl,⟨_,aG.of Pm⟩,λD hD=>?_⟩⟩;refine bR (xs:=ns.map V.int) (λi ys σ2 H3=>∃ms:List Int,ys=ms.map V.int/\ms.length=i/\(∃y,σ2=[y])/\aC H1 H3/\H3 D=some (.lst ys))
  ⟨[],rfl,rfl,⟨none,rfl⟩,ah hD _,ae⟩ (λi ys σ2 H3 _ h=>?_) (λi x ys σ2 H3 ex h=>?_) (λys σ2 H3 h=>?_)
 .obtain⟨_,_,_,_,sm,_⟩:=h;exact aG.of (sm _ _ Pm)
 .obtain⟨ms,rfl,hm,⟨y,rfl⟩,sm,gO⟩:=h;rw [aZ] at ex;obtain⟨n,en,rfl⟩:=cf.mp ex;have li:i < ns.length:=(bo.mp en).1;refine goN ?_;refine vq ?_;refine⟨_,rfl,_,_,rfl,rfl,⟨nofun,nofun⟩,gO,bQ (by rw [aB];omega),ms++[n / 16],by rw [bI];rfl,by rw [b9,hm];rfl,⟨_,rfl⟩,λb o hb=>?_,ae⟩;rw [ai (λz=>by rw [z,hD] at hb;cases hb)];exact sm b o hb
 obtain⟨Tc,rfl,O1,_,QD,pb⟩:=h;rw [aB,a8] at O1;have s3:=s1.trans QD;have fD:=s1.free hD;refine⟨λσ H2=>∃(c2:Int)(ms:List Int)(k2:Option V),σ=[some (.int c2),br D,k2]/\H2=upd H3 D (.lst (ms.map V.int))/\ms.length=7,?_,?_⟩
 .refine⟨_,rfl,_,_,rfl,rfl,(by show (0:Int) < 2;decide),rfl,_,rfl,?_⟩;refine dJ (λ_=>?_) (λ_=>?_)
  .refine⟨_,rfl,_,_,rfl,rfl,⟨nofun,nofun⟩,7,rfl,nofun,nofun,?_⟩;refine gb (n:=7) (λi σ H2=>∃(c2:Int)(ms:List Int)(k2:Option V),σ=[some (.int c2),br D,k2]/\H2=upd H3 D (.lst (ms.map V.int))/\ms.length=7) ⟨_,Tc,none,rfl,?_,O1⟩ ?_ ?_
   .funext b
    by_cases h:b=D
    .rw [h,ae];exact pb
    rw [ai h]
   .rintro i σ H2 hi ⟨c2,ms,k2,rfl,rfl,hm⟩;have e0:(0:Int)+(i:Int)=((i:Nat):Int):=by omega
    rw [e0];have lt:i < ms.length:=by omega
    refine⟨_,rfl,_,_,rfl,rfl,_,rfl,?_⟩;refine dJ (λ_=>?_) (λ_=>?_)
    .refine⟨_,rfl,_,_,rfl,rfl,_,_,rfl,rfl,(by show (0:Int) < 16;decide),_,rfl,_,rfl,D,_,_,i,rfl,rfl,ae,EA (by rw [aB];exact lt),?_⟩;refine⟨_,rfl,_,_,rfl,rfl,_,_,rfl,rfl,⟨nofun,nofun⟩,?_⟩;exact⟨_,_,_,rfl,by rw [jS,<-List.map_set],by rw [List.length_set];exact hm⟩
    exact⟨_,_,_,rfl,rfl,hm⟩
   exact λσ H2 z=>z
  have e:H3=upd H3 D (.lst (Tc.map V.int)):=by
   funext b
   by_cases h:b=D
   .rw [h,ae];exact pb
   rw [ai h]
  exact⟨c,Tc,none,rfl,e,O1⟩
 rintro σ H2 ⟨c2,ms,k2,rfl,rfl,hm⟩;exact⟨_,rfl,q D ms _ fD (λb o hb=>by rw [ai (au hb fD)];exact s3 _ _ hb) ae hm⟩
def E_ (ns:List Str)(lo hi:Option Int):∃o6:List Str,gC (ns.map V.str) lo hi=o6.map V.str/\(∀n∈o6,n∈ns)/\o6.length<=ns.length :=
 ⟨(ns.drop (HT.dA (ns.map V.str).length 0 lo)).take (HT.dA (ns.map V.str).length (ns.map V.str).length hi - HT.dA (ns.map V.str).length 0 lo),by unfold gC;rw [<-iW,<-jC],λn hn=>List.mem_of_mem_drop (lY hn),by rw [c_,jd];omega⟩
def YE {zs:List Str}(h:zs.length=4) (n:Int):∃z∈zs,ir (zs.map V.str) (n % 4)=some (.str z):=by
 have l:(n % 4).toNat < zs.length:=by omega
 have e:n % 4=(((n % 4).toNat:Nat):Int):=by omega
 refine⟨zs[(n % 4).toNat],p_ l,?_⟩;have t:ir (zs.map V.str) (((n % 4).toNat:Nat):Int)=some (.str zs[(n % 4).toNat]):=bj (by rw [aZ,cZ l];rfl);rw [<-e] at t;exact t
def gr (ns ws:List Str) (a:Nat) (bf:List Str):Prop:=(∃l1 l2 n',ns[a+1]?=some n'/\bf=l1++n'::l2/\∀x∈l1++l2,x∈ws)\/(ns.length<=a+1/\bf≠[]/\∀x∈bf,x∈ws)
def Aq (K:aV):Sp:=λvs H Q _=>∃(N W:Addr) (ns ws:List Str) (a:Nat) (dr:Int)(n:Str),vs=[.ref N,.ref W,.int (a:Int),.int dr]/\aG K H N (ns.map V.str)/\aG K H W (ws.map V.str)/\ws.length=4/\ns[a]?=some n/\ns.length<=1000/\(0<=dr/\dr < 4294967311) /\
 ∀(R p:Addr) (bf:List Str)(H':Hp),aC H H'->a9 K H' R [.str n,.ref p]->a9 K H' p (bf.map V.str)->bf.length<=4->gr ns ws a bf->Q (.ref R) H'
def uR:aH ["_law_names","_law_words","_law_at","_law_draw","_law_parts"] ["_law_names","_law_words","_law_at","_law_draw"] (av yC):=iw rfl rfl rfl rfl nofun
def Eh (F:gX K "_law_first" "_law_first" yC f fd)(T:Txt mg):ba P w K mg base fc 1 f fd ["_law_names","_law_words","_law_at","_law_draw"] (Aq K):=by
 refine F.ok uR (λvs H Q E h=>?_) (λdw A outer s H vs Q E hr h=>?_)
 .obtain⟨N,W,ns,ws,a,dr,n,rfl,_⟩:=h;rfl
 obtain⟨N,W,ns,ws,a,dr,n,rfl,hN,hW,h4,ha,hnl,UE,q⟩:=h;have hu:=Nat.lt_of_succ_lt (fX hr);refine⟨_,aj (aF (i:=4) uR.nd rfl (bM rfl) (dW hZ (bK ["_law_size"] [(1,"_law_words"),(3,"_law_draw")] rfl (bx (cK (af aq (af aq (af aq ak))))) (bh rfl rfl) nofun rfl nofun
   (λ_ _ _ _ _=>aw (i:=0) (show (["_law_size","_law_words","_law_draw"]:List Str).Nodup by decide +kernel) rfl (bM rfl)) (λ_ _ _ _ _=>bW) (λ_ _ _ _ _=>aP (jN K) (pv 1) (aX dG (aX gR (pv 2) (pv 0)) aq) (λ_ _=>rfl)))
   ic (dB (aX dG (aX gR (pv 3) aq) aq))))
  (aj (jX (cN (cx mI (aX dH (pv 2) aq) (aN aQ rfl T.len d5 (af (pv 0) ak)) (dq _))
   (ao (cP (iK jf PySem.F.slot_list_insert PySem.F.type_list_insert BV (pv 4) (af (aX dG (aX gR (pv 3) aq) (aX dH (aN aQ rfl T.len d5 (af (pv 4) ak)) aq)) (af (aP bz (pv 0) (aX dH (pv 2) aq) (λ_ _=>rfl)) ak)))))
   (ao (cN (cx (BE hu) (pv 4) (cK ak) (dq _)) (ao (aF (i:=4) uR.nd rfl (bM rfl) (cK (af (aP bz (pv 1) (aX dG (pv 3) aq) (λ_ _=>rfl)) ak)))) bw))))
  (ao (bu (cJ (af (aP bz (pv 0) (pv 2) (λ_ _=>rfl)) (af (bc gp rfl T.tup qe (af (pv 4) ak)) ak)))))),?_⟩
 refine⟨Y1,λL0 UU=>?_⟩;have s1:=ah UU (.lst [.int 1,.int 4,.int 16]);have e1:upd H L0 (.lst [.int 1,.int 4,.int 16]) L0=some (.lst [.int 1,.int 4,.int 16]):=ae;generalize upd H L0 (.lst [.int 1,.int 4,.int 16])=H1 at s1 e1;refine⟨L0,rfl,⟨_,aG.of e1⟩,λD hD=>bR (xs:=[.int 1,.int 4,.int 16]) (λi ys σ2 H2=>∃zs:List Str,ys=zs.map V.str/\zs.length=i/\(∀z∈zs,z∈ws)/\(∃y0,σ2=[y0,br W,some (.int dr)])/\aC H1 H2/\H2 D=some (.lst ys))
  ⟨[],rfl,rfl,by simp,⟨none,rfl⟩,ah hD _,ae⟩ (λi ys σ2 H2 _ h=>?_) (λi x ys σ2 H2 ex h=>?_) (λys σ2 H2 h=>?_)⟩
 .obtain⟨_,_,_,_,_,sm,_⟩:=h;exact aG.of (sm _ _ e1)
 .obtain⟨zs,rfl,hz,TQ,⟨y0,rfl⟩,sm,hd⟩:=h;obtain⟨k,rfl,hk1,zx⟩:∃k:Int,x=.int k/\0 < k/\k < 1073741824:=by
   match i,ex with
   | 0,ex=>cases ex;exact⟨1,rfl,nofun,nofun⟩
   | 1,ex=>cases ex;exact⟨4,rfl,nofun,nofun⟩
   | 2,ex=>cases ex;exact⟨16,rfl,nofun,nofun⟩
  have li:i < 3:=(bo.mp ex).1;obtain⟨z,EB,TR⟩:=YE h4 (dr / k);refine goN (vq ?_);refine⟨_,rfl,_,rfl,_,rfl,_,_,rfl,rfl,⟨hk1,zx⟩,_,_,rfl,rfl,(by show (0:Int) < 4;decide),W,_,_,_,rfl,rfl,(s1.trans sm).seq hW,TR,hd,bQ (by rw [aB];omega),zs++[z],by rw [bI];rfl,by rw [b9,hz];rfl,?_,⟨_,rfl⟩,?_,ae⟩
  .intro z' OH;rcases bq.mp OH with h | h
   .exact TQ z' h
   rw [bE.mp h];exact EB
  intro b o hb;rw [ai (λz=>by rw [z,hD] at hb;cases hb)];exact sm b o hb
 obtain⟨zs,rfl,hz,TQ,_,sm,hd⟩:=h;have s2:=s1.trans sm;refine⟨_,rfl,_,_,rfl,rfl,⟨nofun,nofun⟩,_,_,rfl,rfl,(by show (0:Int) < 3;decide),_,rfl,D,_,rfl,aG.of hd,λD2 iP=>?_⟩;obtain⟨ps,ep,QX,nA⟩:=E_ zs none (some (dr / 64 % 3));rw [ep];have hzl:zs.length=3:=hz;have fD2:H D2=none:=s2.free iP;have s3:=s2.trans (ah iP (.lst (ps.map V.str)));have e3:upd H2 D2 (.lst (ps.map V.str)) D2=some (.lst (ps.map V.str)):=ae;generalize upd H2 D2 (.lst (ps.map V.str))=H3 at s3 e3;have Xp:∀z∈ps,z∈ws:=λz h=>TQ z (QX z h);refine⟨λσ H4=>∃(D3:Addr) (bf:List Str),σ=[br N,br W,some (.int (a:Int)),some (.int dr),br D3]/\aC H H4/\H4 D3=some (.lst (bf.map V.str))/\bf.length<=4/\gr ns ws a bf,?_,?_⟩
 .refine⟨_,rfl,_,_,rfl,rfl,_,rfl,N,_,rfl,.inl (s3.seq hN),_,_,rfl,rfl,_,rfl,?_⟩;refine dJ (λc=>?_) (λc=>?_)
  .have c':=d6 c;rw [aB] at c';obtain⟨n',Py⟩:∃n',ns[a+1]?=some n':=⟨ns[a+1]'∅,cZ ∅⟩;have Nb:ir (ns.map V.str) ((a:Int)+1)=some (.str n'):=by
    have e:(a:Int)+1=((a+1:Nat):Int):=by omega
    rw [e];exact bj (by rw [aZ,Py];rfl)
   obtain⟨ix,hix⟩:∃ix:Nat,dr / 192 % ((ps.length:Int)+1)=(ix:Int):=⟨(dr / 192 % ((ps.length:Int)+1)).toNat,by
    have:=Int.emod_nonneg (dr / 192) (show ((ps.length:Int)+1)≠0 by omega);omega⟩
   have hle:ix<=ps.length:=by
    have:=Int.emod_lt_of_pos (dr / 192) (show (0:Int) < (ps.length:Int)+1 by omega);omega
   refine⟨_,rfl,.inl ⟨rfl,_,aG.of e3⟩,_,rfl,_,_,rfl,rfl,⟨nofun,nofun⟩,_,rfl,D2,_,rfl,.inl (aG.of e3),_,_,rfl,rfl,?_⟩;rw [aB];refine⟨_,_,rfl,rfl,(by show (0:Int) < (ps.length:Int)+1;omega),?_⟩;refine⟨_,rfl,_,rfl,_,_,rfl,rfl,N,_,_,_,rfl,rfl,s3.seq hN,Nb,D2,_,ix,.str n',rfl,(by show [V.int (dr / 192 % ((ps.length:Int)+1)),V.str n']=_;rw [hix]),e3,by rw [aB];exact hle,by rw [aB];omega,?_⟩;refine⟨D2,ps.take ix++n'::ps.drop ix,rfl,λb o hb=>?_,by rw [ae,bI,bG,jC,iW],by rw [b9,dC,c_,jd];omega,.inl ⟨_,_,n',Py,rfl,λx hx=>Xp x ?_⟩⟩
   .rw [ai (λz=>by rw [z,fD2] at hb;cases hb)];exact s3 b o hb
   rw [uv] at hx;exact hx
  have c':=of_decide_eq_false (pS.mpr c);rw [aB] at c';refine⟨_,rfl,xM,λL4 XS=>?_⟩;have s4:=s3.trans (ah XS (.lst []));have e4:=ah XS (.lst []) _ _ e3;have e5:upd H3 L4 (.lst []) L4=some (.lst []):=ae;generalize upd H3 L4 (.lst [])=H4 at s4 e4 e5;refine⟨D2,L4,_,rfl,rfl,aG.of e4,aG.of e5,_,rfl,?_⟩;refine dJ (λc2=>?_) (λc2=>?_)
  .obtain⟨z,EB,TR⟩:=YE h4 dr;refine⟨_,rfl,_,rfl,_,_,rfl,rfl,(by show (0:Int) < 4;decide),W,_,_,_,rfl,rfl,s4.seq hW,TR,Jr,λD5 IV=>?_⟩;exact⟨D5,[z],rfl,s4.trans (ah IV _),ae,by simp,.inr ⟨∅,by simp,λx hx=>by rw [bE.mp hx];exact EB⟩⟩
  refine⟨D2,ps,rfl,s4,e4,∅,.inr ⟨∅,λh=>c2 (by rw [h];rfl),Xp⟩⟩
 rintro σ H4 ⟨D3,bf,rfl,s4,e4,l4,fo⟩;have atn:ir (ns.map V.str) (a:Int)=some (.str n):=bj (by rw [aZ,ha];rfl);refine⟨_,rfl,_,rfl,N,_,_,_,rfl,rfl,s4.seq hN,atn,_,rfl,D3,_,rfl,.inl ⟨aG.of e4,λt1 MK=>⟨qf,λR hR=>?_⟩⟩⟩;exact q R t1 bf _ (s4.trans ((ah MK _).trans (ah hR _))) (a9.of ae) ((ah hR _).tup (a9.of ae)) l4 fo
end
def xF (ns ws bf:List Str):Prop:=(∀x∈bf,x∈ns\/x∈ws)/\((∃x∈bf,x∈ws)\/bf.length<=3)
structure Made (ns ws:List Str)(aa:List ay):Prop where
 nd:ns.Nodup
 pos:0 < ns.length
 le:ns.length<=4
 dj:∀x∈ns,x∉ws
 first:∀(i:Nat)(n:Str),ns[i]?=some n->∃bf,aa[i]?=some (n,bf)/\gr ns ws i bf
 all:∀ru∈aa,∃a,ns[a]?=some ru.1/\(gr ns ws a ru.2\/xF ns ws ru.2)
def gr.mem {ns ws:List Str}{a:Nat}{ps:List Str}(h:gr ns ws a ps):∀x∈ps,x∈ns\/x∈ws:=by
 intro x hx;rcases h with ⟨l1,l2,n',e,rfl,h⟩ | ⟨_,_,h⟩
 .rcases bq.mp hx with h1 | h1
  .exact .inr (h x (bq.mpr (.inl h1)))
  rcases bN.mp h1 with h2 | h2
  .exact .inl (h2 ▸ cb e)
  exact .inr (h x (bq.mpr (.inr h2)))
 exact .inr (h x hx)
def Made.head {ns ws:List Str}{aa:List ay}(M:Made ns ws aa){x:Str}:x∈hd aa↔x∈ns:=by
 unfold hd;rw [d_];constructor
 .rintro(h | h)
  .cases h
  obtain⟨ru,gG,rfl⟩:=cU.mp h;obtain⟨a,ha,_⟩:=M.all ru gG;exact cb ha
 intro h;obtain⟨i,hi⟩:=d7 h;obtain⟨ps,e,_⟩:=M.first i x hi;exact .inr (cU.mpr ⟨_,cb e,rfl⟩)
theorem Made.mem {ns ws:List Str}{aa:List ay}(M:Made ns ws aa){ru:ay}(h:ru∈aa):∀x∈ru.2,x∈ns\/x∈ws:=by
 obtain⟨a,_,h | h⟩:=M.all ru h
 .exact h.mem
 exact h.1
def Made.least {ns ws:List Str}{aa:List ay}(M:Made ns ws aa)(g:G)(st:cI M11.bl aa (ph aa) g)(se:eh M11.bl aa g):∀h∈hd aa,∃n,g h=some n/\n<=60:=by
 have bY:∀x∈ws,∀ru∈aa,x∈ru.2->g x=some 0:=by
  intro x hx ru gG hm;have nn:x∉ns:=λh=>M.dj x h hx;refine cI.keep (J:=λg=>g x=some 0) (λg Kf j h2 _=>?_) st ?_
  .show de g Kf.1 _ x=some 0;unfold de;have:x≠Kf.1:=λz=>by
    obtain⟨a,ha,_⟩:=M.all _ h2;exact nn (z ▸ cb ha)
   rw [aA this];exact j
  show ph aa x=some 0;unfold ph;rw [az (pE _ _ _ _ (.inr ⟨nQ.mpr ⟨ru,gG,hm⟩,λh=>nn (M.head.mp h)⟩))]
 have key:∀(k i:Nat)(n:Str),i+k+1=ns.length->ns[i]?=some n->∃m,g n=some m/\m<=(k:Int)+1:=by
  intro k
  induction k with
  | zero =>
   intro i n hi hn;obtain⟨ps,e,f⟩:=M.first i n hn;have hm:=cb e;rcases f with ⟨l1,l2,n',e',_⟩ | ⟨_,_,hw⟩
   .have:=(bo.mp e').1;omega
   have z:∀p∈ps,g p=some 0:=λp hp=>bY p (hw p hp) _ hm hp;have:=se _ hm;unfold bZ at this;have a1:ij g (n,ps)=true:=fM.mpr λp hp=>by show (g p).isSome=true;rw [z p hp];rfl
   have s0:aM g (n,ps)=1:=by
    unfold aM;have:(ps.map λp=>(g p).getD 0)=ps.map λ_=>0:=List.map_congr_left λp hp=>by rw [z p hp];rfl
    show 1+(ps.map λp=>(g p).getD 0).sum=1;rw [this];have:∀l:List Str,(l.map λ_=>(0:Int)).sum=0:=λl=>by
     induction l with
     | nil=>rfl
     | cons a r ih=>rw [bG,jc,ih];rfl
    rw [this];rfl
   rw [a1,s0,nH] at this;cases gn:g n with
   | none=>rw [show g (n,ps).1=none from gn] at this;cases this
   | some m =>
    rw [show g (n,ps).1=some m from gn] at this;refine⟨m,rfl,?_⟩;have:¬(1:Int) < m:=by
     simpa [M11.bl] using this
    omega
  | succ k ih =>
   intro i n hi hn;obtain⟨ps,e,f⟩:=M.first i n hn;have hm:=cb e;have ⟨l1,l2,n',e',ep,hw⟩:∃l1 l2 n',ns[i+1]?=some n'/\ps=l1++n'::l2/\∀x∈l1++l2,x∈ws:=by
    rcases f with f | ⟨l,_,_⟩
    .exact f
    omega
   subst ep;obtain⟨m',XY,lm'⟩:=ih (i+1) n' ∅ e';have z:∀p∈l1++l2,g p=some 0:=λp hp=>bY p (hw p hp) _ hm (by
    rcases bq.mp hp with h | h
    .exact bq.mpr (.inl h)
    exact bq.mpr (.inr (bS _ h)))
   have:=se _ hm;unfold bZ at this;have zs:∀l:List Str,(∀p∈l,g p=some 0)->(l.map λp=>(g p).getD 0).sum=0:=λl=>by
    induction l with
    | nil=>exact λ_=>rfl
    | cons a r ih =>
     intro h;rw [bG,jc,ih λp hp=>h p (bS _ hp),h a bX];rfl
   have a1:ij g (n,l1++n'::l2)=true:=fM.mpr λp hp=>by
    show (g p).isSome=true;rcases bq.mp hp with h | h
    .rw [z p (bq.mpr (.inl h))];rfl
    rcases bN.mp h with h | h
    .rw [h,XY];rfl
    rw [z p (bq.mpr (.inr h))];rfl
   have s0:aM g (n,l1++n'::l2)=1+m':=by
    unfold aM;show 1+((l1++n'::l2).map λp=>(g p).getD 0).sum=1+m';rw [bI,bG,List.sum_append,jc,zs l1 λp hp=>z p (bq.mpr (.inl hp)),zs l2 λp hp=>z p (bq.mpr (.inr hp)),XY];show 1+(0+(m'+0))=1+m';omega
   rw [a1,s0,nH] at this;cases gn:g n with
   | none=>rw [show g (n,l1++n'::l2).1=none from gn] at this;cases this
   | some m =>
    rw [show g (n,l1++n'::l2).1=some m from gn] at this;refine⟨m,rfl,?_⟩;have:¬(1+m':Int) < m:=by
     simpa [M11.bl] using this
    omega
 intro h hh;obtain⟨i,hi⟩:=d7 (M.head.mp hh);have li:=(bo.mp hi).1;obtain⟨m,gm,lm⟩:=key (ns.length - 1 - i) i h ∅ hi;have:=M.le;exact⟨m,gm,∅⟩
def Made.met {ns ws:List Str}{aa:List ay}(M:Made ns ws aa)(fJ:ay) (ms:List Str)(e0:aa[0]?=some fJ)(h0:fJ.1∈ms)(mc:ou aa aa.length ms):∀h∈hd aa,h∈ms:=by
 have key:∀(i:Nat)(n:Str),ns[i]?=some n->n∈ms:=by
  intro i
  induction i with
  | zero =>
   intro n hn;obtain⟨ps,e,_⟩:=M.first 0 n hn;rw [e0] at e;cases e;exact h0
  | succ i ih =>
   intro n hn;have li:=(bo.mp hn).1;obtain⟨n0,CK⟩:∃n0,ns[i]?=some n0:=⟨ns[i]'∅,cZ ∅⟩;obtain⟨ps,e,f⟩:=M.first i n0 CK;rcases f with ⟨l1,l2,n',e',rfl,hw⟩ | ⟨l,_,_⟩
   .rw [hn] at e';cases e';exact mc _ (by rw [cE];exact cb e) (ih n0 CK) n (bq.mpr (.inr bX))
   omega
 intro h hh;obtain⟨i,hi⟩:=d7 (M.head.mp hh);exact key i h hi
def gr.M0 {ns ws:List Str}{a:Nat}{ps:List Str}(h:gr ns ws a ps)(nw:∀x∈ps,x∉ws):ps.length<=3:=by
 rcases h with ⟨l1,l2,n',e,rfl,h⟩ | ⟨_,ne,h⟩
 .have e1:l1=[]:=yc.mpr λx hx=>nw x (bq.mpr (.inl hx)) (h x (bq.mpr (.inl hx)));have e2:l2=[]:=yc.mpr λx hx=>nw x (bq.mpr (.inr (bS _ hx))) (h x (bq.mpr (.inr hx)));subst e1;subst e2;simp
 obtain⟨x,hx⟩:=List.exists_mem_of_ne_nil _ ne;exact absurd (h x hx) (nw x hx)
def Made.bd {ns ws:List Str}{aa:List ay}(M:Made ns ws aa):Ie aa where
 least g st se h n e hh:=by
  obtain⟨n',e',l⟩:=M.least g st se h hh;rw [e] at e';cases e';exact l
 great rk nl:=by
  refine Hw (A:=ns) (λru gG hp=>?_) M.le (λru gG=>?_) rk nl
  .have nw:∀x∈ru.2,x∉ws:=λx hx hw=>M.dj x (M.head.mp (E5 (hp x hx))) hw;obtain⟨a,ha,h | h⟩:=M.all ru gG
   .exact h.M0 nw
   rcases h.2 with ⟨x,hx,hw⟩ | h
   .exact absurd hw (nw x hx)
   exact h
  obtain⟨a,ha,_⟩:=M.all ru gG;exact cb ha
section
def PV (ms:List Int)(h:ms.length=7) (m:Int):∃o6:List Int,gC (ms.map V.int) (some 3) (some (3+m % 4))=o6.map V.int/\o6.length<=3:=by
 have e0:(3:Int)+m % 4=(((3+m % 4).toNat:Nat):Int):=by omega
 rw [e0];refine⟨(ms.drop (HT.dA (ms.map V.int).length 0 (some 3))).take (HT.dA (ms.map V.int).length (ms.map V.int).length (some (((3+m % 4).toNat:Nat):Int)) - HT.dA (ms.map V.int).length 0 (some 3)),by unfold gC;rw [<-iW,<-jC],?_⟩;have e1:HT.dA (ms.map V.int).length 0 (some 3)=min 3 (ms.map V.int).length:=HT.i4 _ _ 3;have e2:=HT.i4 (ms.map V.int).length (ms.map V.int).length (3+m % 4).toNat;rw [c_,e2,e1,aB];omega
def PU (ms:List Int)(h:ms.length=7):∃o6:List Int,gC (ms.map V.int) (some 3) none=o6.map V.int/\o6.length<=4:=by
 obtain⟨o6,a,b,c⟩:=xl ms (some 3) none;refine⟨(ms.drop (HT.dA (ms.map V.int).length 0 (some 3))).take (HT.dA (ms.map V.int).length (ms.map V.int).length none - HT.dA (ms.map V.int).length 0 (some 3)),by unfold gC;rw [<-iW,<-jC],?_⟩;have e1:HT.dA (ms.map V.int).length 0 (some 3)=min 3 (ms.map V.int).length:=HT.i4 _ _ 3;rw [c_,jd,e1,aB];omega
def Fh {zs:List Str}(h:0 < zs.length) (n:Int):∃z∈zs,ir (zs.map V.str) (n % ((zs.map V.str).length:Int))=some (.str z):=by
 rw [aB];obtain⟨z,hz,e⟩:=L_ (zs:=zs) (m:=zs.length) (aI _) h n;exact⟨z,lY hz,e⟩
def De (K:aV):Sp:=λvs H Q _=>∃(N W D:Addr) (ns ws:List Str)(ms:List Int),vs=[.ref N,.ref W,.ref D]/\H N=some (.lst (ns.map V.str))/\H W=some (.lst (ws.map V.str))/\H D=some (.lst (ms.map V.int))/\ws.length=4/\0 < ns.length/\ns.length<=4/\ms.length=7 /\
 ∀(R p:Addr) (a:Nat)(n:Str) (bf:List Str)(H':Hp),aC H H'->a9 K H' R [.str n,.ref p]->a9 K H' p (bf.map V.str)->ns[a]?=some n->bf.length<=8->xF ns ws bf->Q (.ref R) H'
def qm:aH ["_law_names","_law_words","_law_digits_here","_law_pool_here","_law_parts"] ["_law_names","_law_words","_law_digits_here"] (av Dn):=iw rfl rfl rfl rfl nofun
def tL {H:Hp}{c D L:Addr}{zs:List Str}{ks:List Int}{σ:St}{x y:Str}{js:List (Nat×Str)}{Qp:Hp->Prop}(hσ:df [x] js σ=[none,br L])(hc:aG K H c (ks.map V.int))(hk:ks.length<=10)(hL:aG K H L (zs.map V.str))(hz:0 < zs.length)(hD:H D=none)
  (q:∀(H2:Hp) (ps:List Str),aC H H2->H2 D=some (.lst (ps.map V.str))->ps.length=ks.length->(∀p∈ps,p∈zs)->Qp H2) :
  ∃W:Nat->Nat->List V->St->Hp->Prop,(∃m,W 0 m [] (df [x] js σ) (upd H D (.lst []))) /\
 ∀i m ys σ' H,W i m ys σ' H->((iS K c).stop i H/\Qp H)\/((iS K c).go i H/\∃m',m' < m/\∀x H',(iS K c).kR i H x H'->du 0 x σ' H' λσ2 H2=>g6 σ2 H2 λb H3 =>
  if b=true then (Mo (Ki K) (fk 1) (Mo (rI (λ_ j=>0 < j) λi j=>V.int (i % j)) (fk 0) (R4 (λxs H Q=>Ft xs (λp ys=>aG K H p ys\/a9 K H p ys) λys=>Q (.int ys.length) H) (fu (fk 1) oZ)))) σ2 H3 λy H4=>H4 D=some (.lst ys)/\ys.length < sizeLine/\W (i+1) m' (ys++[y]) σ2 (upd H4 D (.lst (ys++[y]))) else W (i+1) m' ys σ2 H3):=by
 refine bR (xs:=ks.map V.int) (λi ys σ2 H4=>∃ps:List Str,ys=ps.map V.str/\ps.length=i/\(∀p∈ps,p∈zs)/\(∃y,σ2=[y,br L])/\aC H H4/\H4 D=some (.lst ys))
  ⟨[],rfl,rfl,by simp,⟨none,hσ⟩,ah hD _,ae⟩ (λi ys σ2 H4 _ h=>?_) (λi x ys σ2 H4 ex h=>?_) (λys σ2 H4 h=>?_)
 .obtain⟨_,_,_,_,_,JM,_⟩:=h;exact JM.seq hc
 .obtain⟨ps,rfl,hw,hm,⟨y,rfl⟩,JM,rO⟩:=h;rw [aZ] at ex;obtain⟨n,en,rfl⟩:=cf.mp ex;obtain⟨z1,MH,ez1⟩:=Fh hz n;have li:i < ks.length:=(bo.mp en).1;refine goN ?_;refine vq ?_;refine⟨_,rfl,_,rfl,_,rfl,L,_,rfl,.inl (JM.seq hL),_,_,rfl,rfl,(by show (0:Int) < (((zs.map V.str).length:Nat):Int);rw [aB];omega),L,_,_,_,rfl,rfl,JM.seq hL,ez1,rO,bQ (by rw [aB];omega),ps++[z1],by rw [bI];rfl,by rw [b9,hw];rfl,λp hp=>?_,⟨_,rfl⟩,λb o hb=>?_,ae⟩
  .rcases bq.mp hp with h | h
   .exact hm p h
   rw [bE.mp h];exact MH
  rw [ai (λz=>by rw [z,hD] at hb;cases hb)];exact JM b o hb
 obtain⟨ps,rfl,hw,hm,_,JM,rO⟩:=h;rw [aB] at hw;exact q H4 ps JM rO hw hm
def G4 (F:gX K "_law_rule" "_law_rule" Dn f fd)(T:Txt mg):ba P w K mg base fc 1 f fd ["_law_names","_law_words","_law_digits_here"] (De K):=by
 refine F.ok qm (λvs H Q E h=>?_) (λdw A outer s H vs Q E hr h=>?_)
 .obtain⟨N,W,D,ns,ws,ms,rfl,_⟩:=h;rfl
 obtain⟨N,W,D,ns,ws,ms,rfl,hN,hW,hD,h4,CK,Up,h7,q⟩:=h;refine⟨_,aj (aF (i:=3) qm.nd rfl (Or.inr rfl) (aX qC (pv 0) (pv 1)))
  (aj (jX (cN (cx AJ (aX dG (aP bz (pv 2) aq (λ_ _=>rfl)) aq) aq (dq _)) (ao (aF (i:=3) qm.nd rfl (Or.inr rfl) (pv 0))) bw))
  (aj (gi (iy:=4) ["_law_one"] [(3,"_law_pool_here")] qm.nd rfl rfl rfl (bx (dW hZ (pv 2) (dB aq) (dB (aX dH aq (aX dG (aP bz (pv 2) aq (λ_ _=>rfl)) aq))))) (bh rfl rfl) nofun rfl nofun
   (λ_ _ _ _ _=>aw (i:=0) (show (["_law_one","_law_pool_here"]:List Str).Nodup by decide +kernel) rfl (bM rfl)) (λ_ _ _ _ _=>bW) (λ_ _ _ _ _=>aP (jN K) (pv 1) (aX dG (pv 0) (aN (tQ K) rfl T.len d5 (af (pv 1) ak))) (λ_ _=>rfl)))
  (aj (jX (cN (cx wA (aX dG (aP bz (pv 2) aq (λ_ _=>rfl)) aq) aq (dq _))
   (ao (aF (i:=4) qm.nd rfl (bM rfl) (aX qC (bK ["_law_one"] [(0,"_law_names")] rfl (bx (dW hZ (pv 2) (dB aq) ic)) (bh rfl rfl) nofun rfl nofun
    (λ_ _ _ _ _=>aw (i:=0) (show (["_law_one","_law_names"]:List Str).Nodup by decide +kernel) rfl (bM rfl)) (λ_ _ _ _ _=>bW) (λ_ _ _ _ _=>aP (jN K) (pv 1) (aX dG (pv 0) (aN (tQ K) rfl T.len d5 (af (pv 1) ak))) (λ_ _=>rfl))) (cK (af (aP bz (pv 1) aq (λ_ _=>rfl)) ak))))) bw))
  (ao (bu (cJ (af (aP bz (pv 0) (aX dG (aP bz (pv 2) aq (λ_ _=>rfl)) (aN aQ rfl T.len d5 (af (pv 0) ak))) (λ_ _=>rfl)) (af (bc gp rfl T.tup qe (af (pv 4) ak)) ak)))))))),?_⟩
 have V2:∀i:Nat,i < 7->∃m,ir (ms.map V.int) (i:Int)=some (.int m):=λi hi=>⟨_,Fi (k:=i) ∅⟩;obtain⟨m0,xC⟩:=V2 0 nofun;obtain⟨m1,Nb⟩:=V2 1 nofun;obtain⟨m2,at2⟩:=V2 2 nofun;refine⟨_,rfl,_,rfl,N,W,_,_,rfl,rfl,hN,hW,fits (by rw [aB,aB];omega),λP0 hP0=>?_⟩;have s1:=ah hP0 (.lst (ns.map V.str++ws.map V.str));have e1:upd H P0 (.lst (ns.map V.str++ws.map V.str)) P0=some (.lst ((ns++ws).map V.str)):=by rw [ae,bI]
 generalize upd H P0 (.lst (ns.map V.str++ws.map V.str))=H1 at s1 e1;refine⟨λσ H2=>H2=H1/\∃(L:Addr) (zs:List Str),σ=[br N,br W,br D,br L,none]/\H1 L=some (.lst (zs.map V.str))/\0 < zs.length/\∀z∈zs,z∈ns\/z∈ws,?_,?_⟩
 .refine⟨_,rfl,D,_,_,_,rfl,rfl,aG.of (s1 _ _ hD),Nb,_,_,rfl,rfl,(by show (0:Int) < 3;decide),_,_,rfl,rfl,_,rfl,?_⟩;refine dJ (λ_=>?_) (λ_=>?_)
  .exact⟨_,rfl,rfl,N,ns,rfl,s1 _ _ hN,CK,λz hz=>.inl hz⟩
  exact⟨rfl,P0,ns++ws,rfl,e1,by rw [b9];omega,λz hz=>bq.mp hz⟩
 rintro σ H2 ⟨rfl,L,zs,rfl,eL,hz0,EB⟩;refine⟨_,rfl,3,rfl,_,rfl,D,_,_,_,rfl,rfl,aG.of (s1 _ _ hD),at2,_,_,rfl,rfl,(by show (0:Int) < 4;decide),_,_,rfl,rfl,_,rfl,D,_,rfl,aG.of (s1 _ _ hD),λc1 Pd=>?_⟩;obtain⟨ks,ek,lk⟩:=PV ms h7 m2;rw [ek];have s2:=s1.trans (ah Pd (.lst (ks.map V.int)));have Yt:=ah Pd (.lst (ks.map V.int)) _ _ eL;have Vl:upd H2 c1 (.lst (ks.map V.int)) c1=some (.lst (ks.map V.int)):=ae;generalize upd H2 c1 (.lst (ks.map V.int))=H3 at s2 Yt Vl;refine⟨c1,rfl,⟨_,aG.of Vl⟩,λD4 MU=>tL (y := "") (L:=L) rfl (aG.of Vl) ∅ (aG.of Yt) hz0 MU λH4 ps s4 Rt Tp K6=>?_⟩;have Kc:=s2.trans s4;refine⟨λσ H5=>∃(D5:Addr) (bf:List Str),σ=[br N,br W,br D,br L,br D5]/\aC H H5/\H5 D5=some (.lst (bf.map V.str))/\bf.length<=8/\xF ns ws bf,?_,?_⟩
 .refine⟨_,rfl,D,_,_,_,rfl,rfl,aG.of (Kc _ _ hD),at2,_,_,rfl,rfl,(by show (0:Int) < 16;decide),rfl,_,rfl,?_⟩;refine dJ (λ_=>?_) (λ_=>?_)
  .refine⟨_,rfl,3,rfl,D,_,rfl,aG.of (Kc _ _ hD),λc5 hc5=>?_⟩;obtain⟨QQ,ek5,lk5⟩:=PU ms h7;rw [ek5];have s5:=Kc.trans (ah hc5 (.lst (QQ.map V.int)));have Vj:upd H4 c5 (.lst (QQ.map V.int)) c5=some (.lst (QQ.map V.int)):=ae;generalize upd H4 c5 (.lst (QQ.map V.int))=H5 at s5 Vj;refine⟨c5,rfl,⟨_,aG.of Vj⟩,λD6 MT=>tL (y := "") (L:=N) rfl (aG.of Vj) ∅ (aG.of (s5 _ _ hN)) CK MT λH6 Zy s6 FZ aac Uh=>?_⟩;have Iv:=s5.trans s6;obtain⟨w0,Xk,ew0⟩:∃w0∈ws,ir (ws.map V.str) 0=some (.str w0):=⟨ws[0]'∅,p_ _,bj (j:=0) (by rw [aZ,cZ ∅];rfl)⟩;refine⟨_,rfl,W,_,_,_,rfl,rfl,aG.of (Iv _ _ hW),ew0,Jr,λD7 Pk=>?_⟩;have s7:=ah Pk (.lst [.str w0]);have PK:upd H6 D7 (.lst [.str w0]) D7=some (.lst [.str w0]):=ae;generalize upd H6 D7 (.lst [.str w0])=H7 at s7 PK;refine⟨D6,D7,_,_,rfl,rfl,s7 _ _ FZ,PK,fits (by rw [aB];simp;omega),λD8 Ls=>?_⟩;refine⟨D8,Zy++[w0],rfl,(Iv.trans s7).trans (ah Ls _),by rw [ae,bI];rfl,by rw [b9];simp;omega,λx hx=>?_,.inl ⟨w0,fN _ (bE.mpr rfl),Xk⟩⟩;rcases bq.mp hx with h | h
   .exact .inl (Uh x h)
   rw [bE.mp h];exact .inr Xk
  exact⟨D4,ps,rfl,Kc,Rt,∅,λx hx=>EB x (K6 x hx),.inr ∅⟩
 rintro σ H5 ⟨D5,bf,rfl,s5,HJ,l5,ro⟩;obtain⟨n,hn,en⟩:=Fh CK m0;obtain⟨a,ha⟩:=d7 hn;refine⟨_,rfl,_,rfl,D,_,_,_,rfl,rfl,aG.of (s5 _ _ hD),xC,_,rfl,N,_,rfl,.inl (aG.of (s5 _ _ hN)),_,_,rfl,rfl,(by show (0:Int) < (((ns.map V.str).length:Nat):Int);rw [aB];omega),N,_,_,_,rfl,rfl,aG.of (s5 _ _ hN),en,_,rfl,D5,_,rfl,.inl ⟨aG.of HJ,λt1 MK=>⟨qf,λR hR=>?_⟩⟩⟩;exact q R t1 a n bf _ (s5.trans ((ah MK _).trans (ah hR _))) (a9.of ae) ((ah hR _).tup (a9.of ae)) ha l5 ro
theorem Paired.P7 {α β:Type}{F:α->β->Prop}:∀{xs:List α}{ys:List β}{Wo:List α}{Wm:List β},Paired F xs ys->Paired F Wo Wm->Paired F (xs++Wo) (ys++Wm)
 | _,_,_,_,.nil,h=>h
 | _,_,_,_,.cons a b,h=>.cons a (Paired.P7 b h)
def En {ns ws:List Str}{r1 r2:List ay}(nd:ns.Nodup)(h0:0 < ns.length)(h4:ns.length<=4)(dj:∀x∈ns,x∉ws)(l1:r1.length=ns.length)
  (f1:∀(j:Nat)(ru:ay),r1[j]?=some ru->ns[j]?=some ru.1/\gr ns ws j ru.2/\ru.2.length<=8)(f2:∀ru∈r2,∃a:Nat,ns[a]?=some ru.1/\xF ns ws ru.2/\ru.2.length<=8):Made ns ws (r1++r2) where
 nd:=nd
 pos:=h0
 le:=h4
 dj:=dj
 first i n hn:=by
  have li:=(bo.mp hn).1;have e:r1[i]?=some (r1[i]'∅):=cZ ∅;obtain⟨a,b,_⟩:=f1 i _ e;rw [hn] at a;refine⟨(r1[i]'∅).2,?_,b⟩;rw [jh ∅,e]
  congr 1
  exact Prod.ext (by cases a;rfl) rfl
 all ru gG:=by
  rcases bq.mp gG with h | h
  .obtain⟨j,hj⟩:=d7 h;obtain⟨a,b,_⟩:=f1 j ru hj;exact⟨j,a,.inl b⟩
  obtain⟨a,b,c,_⟩:=f2 ru h;exact⟨a,b,.inr c⟩
def Al (K:aV):Sp:=λvs H Q _=>∃(c:Int)(N W C:Addr) (ns ws:List Str)(cs:List Int),vs=[.int c,.ref N,.ref W,.ref C]/\H N=some (.lst (ns.map V.str))/\H W=some (.lst (ws.map V.str))/\aG K H C (cs.map V.int)/\ws.length=4/\0 < ns.length/\ns.length<=4/\ns.Nodup/\(∀x∈ns,x∉ws)/\cs.length<=50 /\
 ∀(R:Addr)(rs:List Addr)(aa:List ay)(H':Hp),aC H H'->H' R=some (.lst (rs.map V.ref))->bJ K H' rs aa->Made ns ws aa->aa.length < 64->(∀ru∈aa,ru.2.length<=8)->Q (.ref R) H'
def uP:aH ["_law_cell","_law_names","_law_words","_law_cells","_law_draws","_law_rules_here"] ["_law_cell","_law_names","_law_words","_law_cells"] (av yw):=iw rfl rfl rfl rfl nofun
def D0 (F:gX K "_law_rules" "_law_rules" yw f fd)(T:Txt mg)(GS:aK P w K mg base 1 "_law_stream" ["_law_cell","_law_many"] ma)(GF:aK P w K mg base 1 "_law_first" ["_law_names","_law_words","_law_at","_law_draw"] (Aq K))
  (GR:aK P w K mg base 1 "_law_rule" ["_law_names","_law_words","_law_digits_here"] (De K))(GD:aK P w K mg base 2 "_law_digits" ["_law_cell"] Il):ba P w K mg base fc 3 f fd ["_law_cell","_law_names","_law_words","_law_cells"] (Al K):=by
 refine F.ok uP (λvs H Q E h=>?_) (λdw A outer s H vs Q E hr h=>?_)
 .obtain⟨c,N,W,C,ns,ws,cs,rfl,_⟩:=h;rfl
 obtain⟨c,N,W,C,ns,ws,cs,rfl,hN,hW,hC,h4,CK,Up,MO,hdj,Hs,q⟩:=h;refine⟨_,aj (aF (i:=4) uP.nd rfl (Or.inr rfl) (bU (GS.mono (by decide:1<=2)) hr rfl (af (pv 0) (af (aN aQ rfl T.len d5 (af (pv 1) ak)) ak))))
  (aj (gi (iy:=5) ["_law_at"] [(1,"_law_names"),(2,"_law_words"),(4,"_law_draws")] uP.nd rfl rfl rfl (fw rfl T.Bu (af (aN aQ rfl T.len d5 (af (pv 1) ak)) ak)) (bh rfl rfl) nofun rfl nofun
   (λ_ _ _ _ _=>aw (i:=0) (show (["_law_at","_law_names","_law_words","_law_draws"]:List Str).Nodup by decide +kernel) rfl (bM rfl)) (λ_ _ _ _ _=>bW)
   (λ_ _ _ _ _=>bU (GF.mono (by decide:1<=2)) hr rfl (af (pv 1) (af (pv 2) (af (pv 0) (af (aP (jN K) (pv 3) (pv 0) (λ_ _=>rfl)) ak))))))
  (ao (bu (aX qC (pv 5) (bK ["_law_one"] [(1,"_law_names"),(2,"_law_words")] rfl (bx (pv 3)) (bh rfl rfl) nofun rfl nofun
   (λ_ _ _ _ _=>aw (i:=0) (show (["_law_one","_law_names","_law_words"]:List Str).Nodup by decide +kernel) rfl (bM rfl)) (λ_ _ _ _ _=>bW)
   (λ_ _ _ _ _=>bU (GR.mono (by decide:1<=2)) hr rfl (af (pv 1) (af (pv 2) (af (bU GD hr rfl (af (pv 0) ak)) ak))))))))),?_⟩
 refine⟨_,rfl,_,rfl,N,_,rfl,.inl (aG.of hN),c,(ns.map V.str).length,rfl,by rw [aB];omega,λD ds H1 fD s1 e1 l1 b1=>?_⟩;rw [aB] at l1;refine⟨_,rfl,N,_,rfl,.inl (aG.of (s1 _ _ hN)),_,rfl,by rw [aB];omega,by rw [aB];omega,λD2 iP=>?_⟩;rw [aB,iD];refine xw (λi ys σ2 H3=>∃(rs:List Addr)(aa:List ay),ys=rs.map V.ref/\aa.length=i/\bJ K H3 rs aa/\(∀(j:Nat)(ru:ay),aa[j]?=some ru->ns[j]?=some ru.1/\gr ns ws j ru.2/\ru.2.length<=8)/\(∃y0,σ2=[y0,br N,br W,br D])/\aC H1 H3/\H3 D2=some (.lst ys))
  ⟨[],[],rfl,rfl,.nil,λj ru e=>(by cases e),⟨none,rfl⟩,ah iP _,ae⟩ (λi ys σ2 H3 hi h=>?_) (λys σ2 H3 h=>?_)
 .obtain⟨rs,aa,rfl,hl,cS,hf,⟨y0,rfl⟩,sm,hd⟩:=h;have s3:=s1.trans sm;obtain⟨n,hn⟩:∃n,ns[i]?=some n:=⟨ns[i],cZ hi⟩;obtain⟨dr,UE⟩:∃dr,ds[i]?=some dr:=⟨ds[i]'∅,cZ ∅⟩;have atd:ir (ds.map V.int) (0+(i:Int))=some (.int dr):=by
   rw [Int.zero_add];exact bj (by rw [aZ,UE];rfl)
  refine goN (vq ?_);refine⟨_,rfl,_,rfl,_,rfl,_,rfl,_,rfl,D,_,_,_,rfl,rfl,aG.of (sm _ _ e1),atd,N,W,ns,ws,i,dr,n,(by show [V.ref N,V.ref W,V.int (0+(i:Int)),V.int dr]=_;rw [Int.zero_add]),aG.of (s3 _ _ hN),aG.of (s3 _ _ hW),h4,hn,∅,b1 dr (cb UE),λR p bf H4 s4 v1 v2 l4 fo=>?_⟩;have rO:=s4 _ _ hd;have lrs:=bF cS;refine⟨rO,bQ (by rw [aB];omega),rs++[R],aa++[(n,bf)],by rw [bI];rfl,by rw [b9,hl];rfl,ft (cS.keep λb xs z=>a7 rO (s4.tup z)) ⟨p,a7 rO v1,a7 rO v2⟩,λj ru e=>?_,⟨_,rfl⟩,λb o hb=>?_,ae⟩
  .by_cases c2:j < aa.length
   .rw [jh c2] at e;exact hf j ru e
   rw [oF ∅] at e;have:j - aa.length=0:=by
    have:=(bo.mp e).1;simp at this;omega
   rw [this] at e;cases e;have:j=i:=by omega
   rw [this];exact⟨hn,fo,cC l4 nofun⟩
  rw [ai (λz=>by rw [z,iP] at hb;cases hb)];exact s4 _ _ (sm b o hb)
 obtain⟨rs,aa,rfl,hl,cS,hf,_,sm,hd⟩:=h;have s3:=s1.trans sm;have lrs:=bF cS;refine⟨_,rfl,_,rfl,C,rfl,⟨_,s3.seq hC⟩,λD4 MU=>bR (xs:=cs.map V.int) (λi ys σ2 H5=>∃(Mt:List Addr)(kT:List ay),ys=Mt.map V.ref/\kT.length=i/\bJ K H5 Mt kT/\(∀ru∈kT,∃a:Nat,ns[a]?=some ru.1/\xF ns ws ru.2/\ru.2.length<=8)/\(∃y0,σ2=[y0,br N,br W])/\aC H3 H5/\H5 D4=some (.lst ys))
  ⟨[],[],rfl,rfl,.nil,λru h=>(by cases h),⟨none,rfl⟩,ah MU _,ae⟩ (λi ys σ2 H5 _ h=>?_) (λi x ys σ2 H5 ex h=>?_) (λys σ2 H5 h=>?_)⟩
 .obtain⟨_,_,_,_,_,_,_,Im,_⟩:=h;exact(s3.trans Im).seq hC
 .obtain⟨Mt,kT,rfl,lJ,o8,vM,⟨y0,rfl⟩,Im,Hr⟩:=h;have li:=(bo.mp ex).1;rw [aB] at li;rw [aZ] at ex;obtain⟨d,ed2,rfl⟩:=cf.mp ex;refine goN (vq ?_);refine⟨_,rfl,_,rfl,_,rfl,d,rfl,λD6 dg H6 f6 s6 e6 l6=>?_⟩;have s7:=(s3.trans Im).trans s6;refine⟨N,W,D6,ns,ws,dg,rfl,s7 _ _ hN,s7 _ _ hW,e6,h4,CK,Up,l6,λR p a n bf H8 s8 v1 v2 hn l8 ro=>?_⟩;have FO:=s8 _ _ (s6 _ _ Hr);have To:=bF o8;refine⟨FO,bQ (by rw [aB];omega),Mt++[R],kT++[(n,bf)],by rw [bI];rfl,by rw [b9,lJ];rfl,ft (o8.keep λb xs z=>a7 FO (s8.tup (s6.tup z))) ⟨p,a7 FO v1,a7 FO v2⟩,λru gG=>?_,⟨_,rfl⟩,λb o hb=>?_,ae⟩
  .rcases bq.mp gG with h | h
   .exact vM ru h
   rw [bE.mp h];exact⟨a,hn,ro,l8⟩
  rw [ai (λz=>by rw [z,MU] at hb;cases hb)];exact s8 _ _ (s6 _ _ (Im b o hb))
 obtain⟨Mt,kT,rfl,lJ,o8,vM,_,Im,Hr⟩:=h;rw [aB] at lJ;have To:=bF o8;refine⟨D2,D4,_,_,rfl,rfl,Im _ _ hd,Hr,fits (by rw [aB,aB];omega),λR hR=>?_⟩;rw [<-bI];refine q R (rs++Mt) (aa++kT) _ ((s3.trans Im).trans (ah hR _)) ae (bJ.same (Paired.P7 (bJ.same cS Im) o8) (ah hR _)) (En MO CK Up hdj hl hf vM) (by rw [b9];omega) λru gG=>?_;rcases bq.mp gG with h | h
 .obtain⟨j,hj⟩:=d7 h;exact(hf j ru hj).2.2
 obtain⟨_,_,_,l⟩:=vM ru h;exact l
end
def Lj {aa:List ay}{x:Str}:x∈hd aa↔x∈aa.map (·.1):=by
 show x∈pA [] (aa.map (·.1))↔_;rw [d_];simp
def jm (aa:List ay) (n:Nat):List Str:=passes (λe=>wx false [] e aa) n []
theorem pP (aa:List ay):∀n,EO false [] aa (jm aa n)
 | 0=>⟨lP,λi h e=>by cases e⟩
 | n+1=>EO.pass aa (λ_ h=>h) (pP aa n)
def E4 (aa:List ay){n:Nat}(hn:(hd aa).length<=n):∀ru∈aa,dN false [] (jm aa n) ru=jm aa n:=by
 have key:∀n,(jm aa (n+1)=jm aa n/\∀ru∈aa,dN false [] (jm aa n) ru=jm aa n)\/n < (jm aa (n+1)).length:=by
  intro n
  induction n with
  | zero=>exact qV false [] aa []
  | succ n ih =>
   rcases ih with ⟨a,b⟩ | c
   .left;rw [show jm aa (n+1+1)=wx false [] (jm aa (n+1)) aa from rfl,a];exact⟨a,b⟩
   rcases qV false [] aa (jm aa (n+1)) with h | h
   .exact .inl h
   right;have h2:(jm aa (n+1)).length < (jm aa (n+1+1)).length:=h;omega
 rcases key n with ⟨_,b⟩ | c
 .exact b
 have e1:=pP aa (n+1);have:=g_ _ (hd aa) e1.nd (λx hx=>Lj.mpr (e1.sub x hx));omega
def HG (aa:List ay){n:Nat}(hn:(hd aa).length<=n)(x:Str):x∈jm aa n↔Em aa x:=by
 constructor
 .intro hx;obtain⟨i,hi⟩:=d7 hx;clear hx
  induction i using Nat.strongRecOn generalizing x with
  | ind i ih =>
   obtain⟨bf,a,b⟩:=(pP aa n).ord i x hi;refine .mk a λp hp=>?_;rcases b p hp with c | ⟨c,_⟩
   .obtain⟨j,hj⟩:=d7 c;have lj:=(bo.mp hj).1;rw [c_] at lj;rw [so ∅] at hj;exact ih j ∅ p hj
   cases c
 intro hx
 induction hx with
 | @mk ru hr hp ih =>
  have:=E4 aa hn _ hr;unfold dN at this;refine uB λc=>?_;rw [az] at this
  .have:=congrArg List.length this;rw [b9] at this;simp at this
  refine lW.mpr ⟨fM.mpr λp hp=>?_,by simpa using c⟩;rw [cM (ih p hp)];rfl
def gP (aa:List ay) (k j:Nat)(n z:Str):Prop:=∃ru,aa[k]?=some ru/\ru.1=n/\ru.2[j]?=some z/\z∈hd aa/\∀i x,ru.2[i]?=some x->i≠j->Em aa x
def He {b:Str->Bool}{zs:List Str}{j:Nat}(h:∀i x,zs[i]?=some x->i≠j->b x=true):vh b zs j=true:=by
 unfold vh xV;have one:∀l:List Nat,l.Nodup->(∀i∈l,i=j)->l=[]\/l=[j]:=λl nd al=>by
  match l,nd,al with
  | [],_,_=>exact .inl rfl
  | [a],_,al=>exact .inr (by rw [al a bX])
  | a::b::r,nd,al =>
   have e1:=al a bX;have e2:=al b (bS _ bX);exact absurd (e1.trans e2.symm ▸ bX:a∈b::r) (jr.mp nd).1
 rw [Bool.or_eq_true];rcases one ((List.range zs.length).filter λj=>!(zs[j]?.elim true b)) (List.nodup_range.sublist List.filter_sublist) (λi hi=>by
  obtain⟨h1,h2⟩:=gL.mp hi;have li:=lM.mp h1;refine uB λne=>?_;rw [cZ li] at h2;have h3:=h i _ (cZ li) ne;have XX:(!b (zs[i]'li))=true:=h2;rw [h3] at XX;cases XX) with e | e
 .left;rw [e];exact cM rfl
 right;rw [e];exact cM rfl
def Ep {b:Str->Bool}{zs:List Str}{i j:Nat}{x:Str}(h:vh b zs j=true)(e:zs[i]?=some x)(n:i≠j):b x=true:=wM h e n
def AN {aa:List ay}{aR:List (Str×Nat)}(em:pD aa aR)(ec:lI aa aa.length aR){n:Str}{k j:Nat}:H_ aa (hd aa) (λz=>decide (z∈aR.map (·.1))) n k j↔∃z,gP aa k j n z:=by
 constructor
 .rintro⟨ru,z,e1,e2,e3,e4,e5⟩;exact⟨z,ru,e1,e2,e3,e4,λi x ex ne=>q8 em x (d6 (Ep e5 ex ne))⟩
 rintro⟨z,ru,e1,e2,e3,e4,e5⟩;exact⟨ru,z,e1,e2,e3,e4,He λi x ex ne=>cM (vx ec (e5 i x ex ne))⟩
def nu.way {aa:List ay}{st:Str->List (Nat×Nat)}(h:nu aa st){n:Str}(hn:n∈hd aa){e:Nat×Nat}:e∈st n↔∃z,gP aa e.1 e.2 n z:=by
 obtain⟨aR,em,ec,hits⟩:=h;exact(hits n e.1 e.2 hn).trans (AN em ec)
def gP.uniq {aa:List ay}{k j:Nat}{n z:Str}(h:gP aa k j n z){ru:ay}{y:Str}(e1:aa[k]?=some ru)(e2:ru.2[j]?=some y):ru.1=n/\y=z/\z∈hd aa:=by
 obtain⟨jW,a,b,c,d,_⟩:=h;rw [e1] at a;cases a;rw [e2] at c;cases c;exact⟨b,rfl,d⟩
theorem vK.hd {aa:List ay}{st:Str->List (Nat×Nat)}(hs:nu aa st){a z:Str}{ps:List (Nat×Nat)}(h:vK aa st a ps z)(ha:a∈hd aa):z∈eX.hd aa:=by
 induction h with
 | nil=>exact ha
 | snoc _ he e1 e2 ih =>
  obtain⟨z',w⟩:=(hs.way ih).mp he;obtain⟨_,e,m⟩:=w.uniq e1 e2;rw [e];exact m
def vK.nil_eq {aa:List ay}{st:Str->List (Nat×Nat)}{a z:Str}{ps:List (Nat×Nat)}(h:vK aa st a ps z)(e:ps=[]):z=a:=by
 cases h with
 | nil=>rfl
 | snoc _ _ _ _=>simp at e
def vK.at_ {aa:List ay}{st:Str->List (Nat×Nat)}(hs:nu aa st){a z:Str}{ps:List (Nat×Nat)}(h:vK aa st a ps z)(ha:a∈eX.hd aa):∀(i:Nat)(e:Nat×Nat),ps[i]?=some e ->
  ∃ru y,aa[e.1]?=some ru/\ru.2[e.2]?=some y/\gP aa e.1 e.2 ru.1 y/\(i=0->ru.1=a)/\(∀i' e',i=i'+1->ps[i']?=some e'->∃jW,aa[e'.1]?=some jW/\jW.2[e'.2]?=some ru.1)/\(i+1=ps.length->y=z):=by
 induction h with
 | nil=>intro i e h;simp at h
 | @snoc ps y z e0 fJ hc he e1 e2 ih =>
  intro i e hi;by_cases c:i < ps.length
  .rw [jh c] at hi;obtain⟨ru,y',a1,a2,a3,a4,a5,a6⟩:=ih i e hi;refine⟨ru,y',a1,a2,a3,a4,λi' e' q1 q2=>a5 i' e' q1 ?_,λq=>?_⟩
   .rw [jh ∅] at q2;exact q2
   rw [b9] at q;simp at q;omega
  have li:=(bo.mp hi).1;rw [b9] at li;simp at li;have ei:i=ps.length:=by omega
  subst ei;rw [oF (aI _),Nat.sub_self] at hi;cases hi;have hy:=hc.hd hs ha;obtain⟨z',w⟩:=(hs.way hy).mp he;obtain⟨b1,b2,_⟩:=w.uniq e1 e2;refine⟨fJ,z,e1,e2,by rw [b1,b2];exact w,λq=>?_,λi' e' q1 q2=>?_,λ_=>rfl⟩
  .rw [b1];exact hc.nil_eq (List.eq_nil_of_length_eq_zero q)
  rw [jh ∅] at q2;obtain⟨ru,y',a1,a2,_,_,_,a6⟩:=ih i' e' q2;refine⟨ru,a1,?_⟩;rw [a2,a6 ∅,b1]
theorem ny.at_ {aa:List ay}{ps:List (Nat×Nat)}(h:ny aa ps) (i:Nat)(e e':Nat×Nat)(he:ps[i]?=some e)(tE:(if i=0 then ps[ps.length - 1]? else ps[i - 1]?)=some e') :
  ∃ru y jW,aa[e.1]?=some ru/\ru.2[e.2]?=some y/\gP aa e.1 e.2 ru.1 y/\aa[e'.1]?=some jW/\jW.2[e'.2]?=some ru.1:=by
 obtain⟨st,n,hs,hn,hc,ne,_⟩:=h;have l0:=List.length_pos_iff.mpr ne;obtain⟨ru,y,a1,a2,a3,a4,a5,_⟩:=hc.at_ hs hn i e he;cases i with
 | zero =>
  rw [az rfl] at tE;obtain⟨jW,y',b1,b2,_,_,_,b6⟩:=hc.at_ hs hn _ e' tE;refine⟨ru,y,jW,a1,a2,a3,b1,?_⟩;rw [b2,b6 ∅,a4 rfl]
 | succ i =>
  rw [aA ∅,Nat.add_sub_cancel] at tE;obtain⟨jW,b1,b2⟩:=a5 i e' rfl tE;exact⟨ru,y,jW,a1,a2,a3,b1,b2⟩
def YW (aa:List ay) (L:List Str)(n:Str):Prop:=∃z k j,z∈L/\gP aa k j n z
open Classical in
noncomputable def eD (aa:List ay) (ns:List Str):Nat->List Str
 | 0=>ns
 | i+1=>(eD aa ns i).filter λn=>decide (YW aa (eD aa ns i) n)
theorem wN (rk:Str->Nat):∀l:List Str,l≠[]->∃m∈l,∀x∈l,rk m<=rk x
 | [a],_=>⟨a,bX,λx hx=>by rw [bE.mp hx];exact aI _⟩
 | a::b::r,_=>by
  obtain⟨m,hm,h⟩:=wN rk (b::r) (by simp);by_cases c:rk a<=rk m
  .refine⟨a,bX,λx hx=>?_⟩;rcases bN.mp hx with e | e
   .rw [e];exact aI _
   exact cC c (h x e)
  refine⟨m,bS _ hm,λx hx=>?_⟩;rcases bN.mp hx with e | e
  .rw [e];omega
  exact h x e
def gK.way {aa:List ay}{rk:Str->Nat}(nl:gK aa rk){k j:Nat}{n z:Str}(h:gP aa k j n z):rk z < rk n:=by
 obtain⟨aR,em,ec⟩:=zI (aa:=aa) (hd aa).length [] .nil (by simp);obtain⟨ru,e1,e2,e3,_⟩:=id h;exact nl aR em ec n k j ((AN em ec).mpr ⟨z,h⟩) ru z e1 e3
open Classical in
def By {aa:List ay}{rk:Str->Nat}(nl:gK aa rk) (ns:List Str):eD aa ns ns.length=[]:=by
 have key:∀i,(eD aa ns i).length<=ns.length - i:=by
  intro i
  induction i with
  | zero=>exact aI _
  | succ i ih =>
   by_cases c:eD aa ns i=[]
   .have:eD aa ns (i+1)=[]:=by
     show (eD aa ns i).filter _=[];rw [c];rfl
    rw [this];exact fR _
   obtain⟨m,hm,h⟩:=wN rk _ c;have:=m_ (p:=λn=>decide (YW aa (eD aa ns i) n)) (q:=λ_=>true) (λ_ _=>rfl) hm rfl (ff λ⟨z,k,j,hz,hw⟩=>by
    have:=nl.way hw;have:=h z hz;omega)
   have e:(eD aa ns i).filter (λ_=>true)=eD aa ns i:=List.filter_eq_self.mpr λ_ _=>rfl;rw [e] at this;have:(eD aa ns (i+1)).length < (eD aa ns i).length:=this;omega
 have:=key ns.length;exact List.eq_nil_of_length_eq_zero ∅
def vK.Mu {aa:List ay}{st:Str->List (Nat×Nat)}{a z:Str}{ps:List (Nat×Nat)}(h:vK aa st a ps z)(ne:ps≠[]):gJ aa st a z:=by
 induction h with
 | nil=>exact absurd rfl ne
 | @snoc ps y z e ru hc he e1 e2 ih =>
  by_cases c:ps=[]
  .have:=hc.nil_eq c;subst this;exact .one ⟨e,he,ru,e1,e2⟩
  exact .more (ih c) ⟨e,he,ru,e1,e2⟩
def gJ.first {aa:List ay}{st:Str->List (Nat×Nat)}{a b:Str}(h:gJ aa st a b):∃y,Ng aa st a y/\(y=b\/gJ aa st y b):=by
 induction h with
 | one s=>exact⟨_,s,.inl rfl⟩
 | more _ s ih =>
  obtain⟨y,s1,h1⟩:=ih;refine⟨y,s1,.inr ?_⟩;rcases h1 with e | e
  .subst e;exact .one s
  exact .more e s
open Classical in
def Bx {aa:List ay}{ps:List (Nat×Nat)}(h:ny aa ps){ns:List Str}(kC:∀x∈hd aa,x∈ns) (i:Nat):eD aa ns i≠[]:=by
 obtain⟨st,n,hs,hn,hc,ne,_⟩:=h;have nn:=hc.Mu ne;have UG:∀{x y:Str},x∈hd aa->Ng aa st x y->y∈hd aa/\∃k j,gP aa k j x y:=λ{x y} hx ⟨e,he,ru,e1,e2⟩=>by
  obtain⟨z',w⟩:=(hs.way hx).mp he;obtain⟨b1,b2,b3⟩:=w.uniq e1 e2;rw [b2];exact⟨b3,e.1,e.2,w⟩
 have XM:∀{x:Str},gJ aa st n x->x∈hd aa:=λ{x} r=>by
  induction r with
  | one s=>exact(UG hn s).1
  | more _ s ih=>exact(UG ih s).1
 have key:∀i x,gJ aa st n x->gJ aa st x n->x∈eD aa ns i:=by
  intro i
  induction i with
  | zero=>exact λx r _=>kC x (XM r)
  | succ i ih =>
   intro x r1 r2;refine gL.mpr ⟨ih x r1 r2,cM ?_⟩;obtain⟨y,s1,h1⟩:=r2.first;obtain⟨hy,k,j,w⟩:=UG (XM r1) s1;refine⟨y,k,j,ih y (.more r1 s1) ?_,w⟩;rcases h1 with e | e
   .rw [e];exact nn
   exact e
 exact λz=>by
  have:=key i n nn nn;rw [z] at this;cases this
end eX
namespace L2
open PySem
def jY (h:Str) (zs:List Str):ME (.str h) (zs.map V.str)=decide (h∈zs):=by
 have:ME (.str h) (zs.map V.str)=true↔h∈zs:=by
  unfold ME;rw [List.any_eq_true];constructor
  .rintro⟨x,h1,h2⟩;obtain⟨z,hz,rfl⟩:=cU.mp h1;have:z=h:=by simpa [FX] using h2
   rw [<-this];exact hz
  intro hm;exact⟨.str h,cU.mpr ⟨h,hm,rfl⟩,by simp [FX]⟩
 by_cases c:h∈zs
 .rw [cM c];exact this.mpr c
 rw [ff c];cases e:ME (.str h) (zs.map V.str) with
 | false=>rfl
 | true=>exact absurd (this.mp e) c
def gU (zs:List Str):(zs.map V.str).all kI=true:=by
 rw [fM];intro x hx;obtain⟨z,_,rfl⟩:=cU.mp hx;rfl
section
variable {K:aV}{H:Hp}{p D:Addr}{zs:List Str}{σ:St}{x:Str}{js:List (Nat×Str)}{te:TE}{Qp:Hp->Prop}
def oQ (rest:St)(pr:Str->Bool)(hc:df [x] js σ=none::rest)(hp:a9 K H p (zs.map V.str))(hz:zs.length<=1000)(hD:H D=none)
  (T6:∀z∈zs,∀(H':Hp)(Qy:VK),aC H H'->Qy (.bl (pr z)) H'->te (some (.str z)::rest) H' Qy)
  (q:∀H2,aC H H2->H2 D=some (.lst ((zs.map pr).map V.bl))->Qp H2) :
  ∃W:Nat->Nat->List V->St->Hp->Prop,(∃m,W 0 m [] (df [x] js σ) (upd H D (.lst []))) /\
 ∀i m ys σ' H,W i m ys σ' H->((oW K p).stop i H/\Qp H)\/((oW K p).go i H/\∃m',m' < m/\∀x H',(oW K p).kR i H x H'->du 0 x σ' H' λσ2 H2=>g6 σ2 H2 λb H3 =>
  if b=true then te σ2 H3 λy H4=>H4 D=some (.lst ys)/\ys.length < sizeLine/\W (i+1) m' (ys++[y]) σ2 (upd H4 D (.lst (ys++[y]))) else W (i+1) m' ys σ2 H3):=by
 refine gW (xs:=zs.map V.str) (λi ys σ2 H2=>ys=((zs.take i).map pr).map V.bl/\(∃y0,σ2=y0::rest)/\aC H H2/\H2 D=some (.lst ys))
  ⟨rfl,⟨none,hc⟩,ah hD _,ae⟩ (λi ys σ2 H2 _ h=>?_) (λi v ys σ2 H2 ex h=>?_) (λys σ2 H2 h=>?_)
 .obtain⟨_,_,sm,_⟩:=h;exact sm.tup hp
 .obtain⟨rfl,⟨y0,rfl⟩,sm,hd⟩:=h;rw [aZ] at ex;obtain⟨z,ez,rfl⟩:=cf.mp ex;have li:=(bo.mp ez).1;refine goN (vq (T6 z (cb ez) _ _ sm ⟨hd,bQ (by rw [aB,aB,c_];omega),?_,⟨_,rfl⟩,λb o hb=>?_,ae⟩))
  .rw [cV,ez,bI,bI];rfl
  rw [ai (λz=>by rw [z,hD] at hb;cases hb)];exact sm b o hb
 obtain⟨rfl,_,sm,hd⟩:=h;rw [aB,cE] at hd;exact q H2 sm hd
end
theorem all_map (zs:List Str)(pr:Str->Bool):(zs.map pr).all id=zs.all pr:=by
 rw [List.all_map];rfl
def zN {x:Str}{K:aV}{H:Hp}{p D:Addr}{zs:List Str}{σ:St}{js:List (Nat×Str)}{cs:List (Option V)}{tif:TT}{Qp:Hp->Prop}(f:Str->Bool)(hσ:df [x] js σ=none::cs)(hp:aG K H p (zs.map V.str))(hz:zs.length<=1000)(hD:H D=none)
  (ht:∀z∈zs,∀H2 Q,aC H H2->Q (f z) H2->tif (some (.str z)::cs) H2 Q)(q:∀H2,aC H H2->H2 D=some (.lst ((zs.filter f).map V.str))->Qp H2) :
  ∃W:Nat->Nat->List V->St->Hp->Prop,(∃m,W 0 m [] (df [x] js σ) (upd H D (.lst []))) /\
 ∀i m ys σ' H,W i m ys σ' H->((iS K p).stop i H/\Qp H)\/((iS K p).go i H/\∃m',m' < m/\∀x H',(iS K p).kR i H x H'->du 0 x σ' H' λσ2 H2=>tif σ2 H2 λb H3 =>
  if b=true then fk 0 σ2 H3 λy H4=>H4 D=some (.lst ys)/\ys.length < sizeLine/\W (i+1) m' (ys++[y]) σ2 (upd H4 D (.lst (ys++[y]))) else W (i+1) m' ys σ2 H3):=by
 refine bR (xs:=zs.map V.str) (λi ys σ2 H5=>ys=((zs.take i).filter f).map V.str/\(∃y0,σ2=y0::cs)/\aC H H5/\H5 D=some (.lst ys)) ⟨rfl,⟨none,hσ⟩,ah hD _,ae⟩ (λi ys σ2 H5 _ h=>h.2.2.1.seq hp) (λi x ys σ2 H5 ex h=>?_) (λys σ2 H5 h=>?_)
 .obtain⟨rfl,⟨y0,rfl⟩,s5,e5⟩:=h;rw [aZ] at ex;obtain⟨z,ez,rfl⟩:=cf.mp ex;have li:=(bo.mp ez).1;have lf:((zs.take i).filter f).length<=1000:=cC (kn _ _) (by rw [c_];omega);have tk:(zs.take (i+1)).filter f=(zs.take i).filter f++if f z=true then [z] else []:=by
   rw [cV,ez,oC]
   congr 1
   show List.filter f [z]=_;rw [ki];rfl
  refine goN ?_;refine ht z (cb ez) H5 _ s5 ?_;refine dJ (λc=>?_) (λc=>?_)
  .refine⟨_,rfl,e5,bQ (by rw [aB];omega),by rw [tk,az c,bI];rfl,⟨_,rfl⟩,λb o hb=>?_,ae⟩;rw [ai (λz=>by rw [z,hD] at hb;cases hb)];exact s5 b o hb
  exact⟨by rw [tk,aA c,fV],⟨_,rfl⟩,s5,e5⟩
 obtain⟨rfl,_,s5,e5⟩:=h;rw [aB,cE] at e5;exact q H5 s5 e5
def xj (xs:List V) (j:Nat):gC xs none (some (j:Int))=xs.take j:=by
 have e2:=HT.i4 xs.length xs.length j;unfold gC;rw [HT.Ds,e2,List.drop_zero,Nat.sub_zero];by_cases h:j<=xs.length
 .rw [Nat.min_eq_left h]
 rw [Nat.min_eq_right ∅,sk (aI _),sk ∅]
def xn (xs:List V) (j:Nat):gC xs (some (j:Int)) none=xs.drop j:=by
 have e2:=HT.i4 xs.length 0 j;have e1:HT.dA xs.length xs.length none=xs.length:=rfl;unfold gC;rw [e1,e2];by_cases h:j<=xs.length
 .rw [Nat.min_eq_left h,sk (by rw [jd];omega)]
 rw [Nat.min_eq_right ∅,List.drop_of_length_le (aI _),List.drop_of_length_le ∅];exact List.take_nil
end L2
namespace eX
open PySem L2 M11
abbrev u0:Stmt:=top 47
abbrev yA:Stmt:=top 48
abbrev uW:Stmt:=top 49
abbrev uX:Stmt:=top 50
section
def v_ (K:aV):Sp:=λvs H Q _=>∃(R N:Addr)(rs:List Addr)(aa:List ay) (ns:List Str),vs=[.ref R,.ref N]/\aG K H R (rs.map V.ref)/\bJ K H rs aa/\aa.length < 64/\(∀ru∈aa,ru.2.length<=8)/\aG K H N (ns.map V.str)/\ns.length<=8 /\
 ∀(D:Addr)(H':Hp),H D=none->aC H H'->H' D=some (.lst ((jm aa ns.length).map V.str))->Q (.ref D) H'
def jI:aH ["_law_rules_here","_law_names","_law_empty_here","_law_again","_law_head","_law_parts"] ["_law_rules_here","_law_names"] (av u0):=iw rfl rfl rfl rfl nofun
def BO (F:gX K "_law_empty" "_law_empty" u0 f fd)(T:Txt mg):ba P w K mg base fc 1 f fd ["_law_rules_here","_law_names"] (v_ K):=by
 refine F.ok jI (λvs H Q E h=>?_) (λdw A outer s H vs Q E hr h=>?_)
 .obtain⟨R,N,rs,aa,ns,rfl,_⟩:=h;rfl
 obtain⟨R,N,rs,aa,ns,rfl,hR,cS,a8,h8,hN,Xr,q⟩:=h;refine⟨_,aj (aF (i:=2) jI.nd rfl (Or.inr rfl) (cK ak))
  (aj (b_ cD rfl (bx (pv 1)) (aw (i:=3) jI.nd rfl (bM rfl))
   (ao (b_ cD rfl (bx (pv 0)) (i5 (n:=2) K rfl (aE (aw (i:=4) jI.nd rfl (bM rfl)) (aE (aw (i:=5) jI.nd rfl (bM rfl)) cu)))
    (ao (cN (PW.pt (u5 (cx mH (pv 4) (pv 2) rfl) (pI (eY (aN (j3 rfl) rfl T.all boot_all (af
      (bK ["_law_part"] [(2,"_law_empty_here")] rfl (g9 (pv 5)) (bh rfl rfl) nofun rfl nofun
       (λ_ _ _ _ _=>aw (i:=0) (show (["_law_part","_law_empty_here"]:List Str).Nodup by decide +kernel) rfl (bM rfl)) (λ_ _ _ _ _=>bW)
       (λ_ _ _ _ _=>i6 (kW K) (pv 0) (pv 1) rfl)) ak))))))
     (ao (cP (iK jf jw jx cT (pv 2) (af (pv 4) ak)))) bw)))))
  (ao (bu (pv 2)))),?_⟩
 nofun
 have ll:=bF cS;refine⟨xM,λL hL=>?_⟩;have s2:=ah hL (.lst []);have fL:H L=none:=hL;have e2:upd H L (.lst []) L=some (.lst []):=ae;generalize upd H L (.lst [])=H2 at s2 e2
 ac_rfl
 let sf:rP:=λi σ H3=>∃(es:List Str)(y3 y4 y5:Option V),σ=[br R,br N,br L,y3,y4,y5]/\aC H H3/\H3 L=some (.lst (es.map V.str))/\es=jm aa i
 refine⟨_,rfl,N,rfl,⟨_,s2.seq hN⟩,dX (xs:=ns.map V.str) sf ⟨[],_,_,_,rfl,s2,e2,rfl⟩ ?_ ?_ ?_⟩
 .rintro i σ H3 _ ⟨es,y3,y4,y5,rfl,s3,_⟩;exact s3.seq hN
 .intro i x σ H3 ex wW
  ac_nf0
  obtain⟨es,y3,y4,y5,rfl,s3,HI,he⟩:=wW;refine goN ?_
  ac_nf
  let zX:rP:=λj σ H4=>∃(vw:List Str)(y4 y5:Option V),σ=[br R,br N,br L,some x,y4,y5]/\aC H H4/\H4 L=some (.lst (vw.map V.str))/\vw=wx false [] es (aa.take j)
  refine⟨_,rfl,R,rfl,⟨_,s3.seq hR⟩,dX (xs:=rs.map V.ref) zX ⟨es,_,_,rfl,s3,HI,rfl⟩ ?_ ?_ ?_⟩
  .rintro j σ H4 _ ⟨vw,y4,y5,rfl,s4,_⟩;exact s4.seq hR
  .intro j x2 σ H4 AZ wW
   ac_nf0
   obtain⟨vw,y4,y5,rfl,s4,HH,tE⟩:=wW;rw [aZ] at AZ;obtain⟨r,er,rfl⟩:=cf.mp AZ;obtain⟨ru,e1,p,v1,v2⟩:=cS.get er;have gG:=h8 ru (cb e1);have eo:EO false [] aa vw:=by
    rw [tE,he];exact EO.pass (aa.take j) (λr h=>lY h) (pP aa i)
   have les:vw.length<=64:=by
    have:=g_ _ _ eo.nd eo.sub;rw [aB] at this;omega
   have pe:wx false [] es (aa.take (j+1))=dN false [] vw ru:=by
    rw [tE,cV,e1];unfold wx;rw [List.foldl_append];rfl
   refine⟨r,_,rfl,s4.tup v1,rfl,_,_,rfl,_,_,rfl,rfl,?_⟩
   ac_nf
   refine⟨_,rfl,_,rfl,L,_,rfl,.inl (aG.of HH),rfl,gU _,_,rfl,?_⟩;rw [jY];show if (!decide (ru.1∈vw))=true then _ else _;refine dJ (λc2=>?_) (λc2=>?_)
   .refine⟨_,rfl,p,rfl,⟨_,s4.tup v2⟩,λD2 iP=>oQ (zs:=ru.2) [br L] (λz=>decide (z∈vw) || (false && !decide (z∈([]:List Str)))) rfl (s4.tup v2) ∅ iP (λz _ H5 Qy s5 hq=>?_) λH5 s5 HJ=>?_⟩
    .rw [Bool.false_and,Bool.or_false] at hq;refine⟨_,rfl,_,rfl,L,_,rfl,.inl (aG.of (s5 _ _ HH)),rfl,gU _,?_⟩;rw [jY];exact hq
    refine⟨D2,_,rfl,aG.of HJ,_,rfl,?_⟩;rw [all_map];have xO:=s4.trans s5;have I0:=s5 _ _ HH;refine dJ (λc=>?_) (λc=>?_)
    .refine⟨_,rfl,.inl ⟨rfl,_,aG.of I0⟩,_,rfl,L,_,_,rfl,rfl,I0,bQ (by rw [aB];omega),?_⟩;refine⟨vw++[ru.1],_,_,rfl,λb o hb=>?_,by rw [ae,bI];rfl,?_⟩
     .rw [ai (λz=>by rw [z,fL] at hb;cases hb)];exact xO b o hb
     rw [pe];unfold dN;rw [c,nH,az c2]
    refine⟨vw,_,_,rfl,xO,I0,?_⟩;rw [pe];unfold dN;rw [aA (λz=>c (lW.mp z).1)]
   refine⟨vw,_,_,rfl,s4,HH,?_⟩;rw [pe];unfold dN;rw [aA (λz=>c2 (lW.mp z).2)]
  rintro σ H4 ⟨vw,y4,y5,rfl,s4,HH,tE⟩;rw [aB,ll,cE] at tE;exact⟨vw,_,_,_,rfl,s4,HH,by rw [tE,he];rfl⟩
 rintro σ H3 ⟨es,y3,y4,y5,rfl,s3,HI,he⟩;rw [aB] at he;exact⟨_,rfl,q L H3 fL s3 (by rw [<-he];exact HI)⟩
def vS (ns es bf:List Str) (j:Nat):Bool:=match bf[j]? with
 | none=>false
 | some z=>decide (z∈ns) && (bf.take j++bf.drop (j+1)).all λp=>decide (p∈es)
def qg {aa:List ay}{ns es:List Str}(kC:∀x,x∈ns↔x∈hd aa)(EJ:∀x,x∈es↔Em aa x){k j:Nat}{ru:ay}(e:aa[k]?=some ru):vS ns es ru.2 j=true↔∃z,gP aa k j ru.1 z:=by
 unfold vS;cases ez:ru.2[j]? with
 | none =>
  constructor
  .intro h;cases h
  rintro⟨z,jW,e1,e2,e3,_⟩;rw [e] at e1;cases e1;rw [ez] at e3;cases e3
 | some z =>
  show (decide (z∈ns) && (ru.2.take j++ru.2.drop (j+1)).all λp=>decide (p∈es))=true↔_;rw [jt,decide_eq_true_iff,fM];constructor
  .rintro⟨h1,h2⟩;refine⟨z,ru,e,rfl,ez,(kC z).mp h1,λi x ex ne=>(EJ x).mp (d6 (h2 x ?_))⟩;by_cases c:i < j
   .exact lX _ (cb (by rw [so c];exact ex))
   refine fN _ (cb (i:=i - (j+1)) ?_);rw [List.getElem?_drop,show j+1+(i - (j+1))=i by omega];exact ex
  rintro⟨z',jW,e1,e2,e3,e4,e5⟩;rw [e] at e1;cases e1;rw [ez] at e3;cases e3;refine⟨(kC z).mpr e4,λx hx=>cM ((EJ x).mpr ?_)⟩;rcases bq.mp hx with h | h
  .obtain⟨i,hi⟩:=d7 h;have li:=(bo.mp hi).1;rw [c_] at li;rw [so ∅] at hi;exact e5 i x hi ∅
  obtain⟨i,hi⟩:=d7 h;rw [List.getElem?_drop] at hi;exact e5 (j+1+i) x hi ∅
def uK (K:aV):Sp:=λvs H Q _=>∃(R N E:Addr)(rs:List Addr)(aa:List ay) (ns es:List Str) (k j:Nat)(ru:ay),vs=[.ref R,.ref N,.ref E,.int (k:Int),.int (j:Int)]/\aG K H R (rs.map V.ref)/\bJ K H rs aa/\aa[k]?=some ru/\ru.2.length<=8/\aG K H N (ns.map V.str)/\aG K H E (es.map V.str) /\
 ∀H',aC H H'->Q (.bl (vS ns es ru.2 j)) H'
def Ax:aH ["_law_rules_here","_law_names","_law_empty_here","_law_number","_law_place","_law_parts"] ["_law_rules_here","_law_names","_law_empty_here","_law_number","_law_place"] (av yA):=iw rfl rfl rfl rfl nofun
def Ee (F:gX K "_law_is_way" "_law_is_way" yA f fd)(T:Txt mg):ba P w K mg base fc 1 f fd ["_law_rules_here","_law_names","_law_empty_here","_law_number","_law_place"] (uK K):=by
 refine F.ok Ax (λvs H Q E h=>?_) (λdw A outer s H vs Q E hr h=>?_)
 .obtain⟨R,N,E,rs,aa,ns,es,k,j,ru,rfl,_⟩:=h;rfl
 obtain⟨R,N,E,rs,aa,ns,es,k,j,ru,rfl,hR,cS,er,h8,hN,hE,q⟩:=h;refine⟨_,aj (aF (i:=5) Ax.nd rfl (bM rfl) (aP bL (aP bz (pv 0) (pv 3) (λ_ _=>rfl)) aq (λ_ _=>rfl)))
  (aj (cN (PW.pt (mw (gH (qw AI mI aq (pv 4) (aN aQ rfl T.len d5 (af (pv 5) ak)))) (kU (cx mH (aP bL (pv 5) (pv 4) (λ_ _=>rfl)) (pv 1) rfl)))) (ao (bu fg)) bw)
  (ao (bu (aN (j3 rfl) rfl T.all boot_all (af
   (bK ["_law_part"] [(2,"_law_empty_here")] rfl (g9 (aX G1 (dW Au (pv 5) ic (dB (pv 4))) (dW Au (pv 5) (dB (aX dH (pv 4) aq)) ic))) (bh rfl rfl) nofun rfl nofun
    (λ_ _ _ _ _=>aw (i:=0) (show (["_law_part","_law_empty_here"]:List Str).Nodup by decide +kernel) rfl (bM rfl)) (λ_ _ _ _ _=>bW)
    (λ_ _ _ _ _=>i6 (kW K) (pv 0) (pv 1) rfl)) ak))))),?_⟩
 dsimp only [zL];obtain⟨r,FV,p,v1,v2⟩:=Paired.at_ cS k ru er;have L1:ir (rs.map V.ref) (k:Int)=some (.ref r):=bj (by rw [aZ,FV];rfl);refine⟨_,rfl,_,rfl,R,_,_,_,rfl,rfl,hR,L1,r,_,_,_,rfl,rfl,v1,rfl,?_⟩;refine⟨_,rfl,_,_,rfl,rfl,_,rfl,?_⟩;refine dJ (λ_=>?_) (λc=>absurd (cM ∅) c);refine⟨_,rfl,p,_,rfl,.inr v2,_,_,rfl,rfl,_,rfl,?_⟩;rw [aB];have LU:(ru.2.map V.str).take j=(ru.2.take j).map V.str:=jC.symm;have VB:(ru.2.map V.str).drop (j+1)=(ru.2.drop (j+1)).map V.str:=iW.symm;by_cases lj:j < ru.2.length
 .rw [cM (show ((j:Nat):Int) < ((ru.2.length:Nat):Int) by omega)];refine hJ ?_;obtain⟨z,ez⟩:∃z,ru.2[j]?=some z:=⟨_,cZ lj⟩;have LZ:ir (ru.2.map V.str) (j:Int)=some (.str z):=bj (by rw [aZ,ez];rfl);have eW:vS ns es ru.2 j=(decide (z∈ns) && (ru.2.take j++ru.2.drop (j+1)).all λp=>decide (p∈es)):=by
   unfold vS;rw [ez]
  refine⟨_,rfl,_,rfl,p,_,_,_,rfl,rfl,v2,LZ,_,rfl,N,_,rfl,.inl hN,rfl,gU _,_,rfl,?_⟩;rw [jY];refine dJ (λc=>?_) (λc=>?_)
  .have c':decide (z∈ns)=false:=by simpa using c
   rw [c',Bool.false_and] at eW;have:=q H (λ_ _ h=>h);rw [eW] at this;exact this
  have c':decide (z∈ns)=true:=by simpa using c
  rw [c',nH] at eW;refine⟨_,rfl,_,rfl,_,rfl,p,_,rfl,v2,λp1 H1 s1 e1=>?_⟩;rw [xj,LU] at e1;refine⟨_,rfl,_,rfl,_,_,rfl,rfl,_,rfl,p,_,rfl,s1.tup v2,λp2 H2 s2 e2=>?_⟩;rw [show (j:Int)+1=((j+1:Nat):Int) from rfl,xn,VB] at e2;refine⟨p1,p2,_,_,rfl,rfl,s2.tup e1,e2,fits (by rw [aB,aB,c_,jd];omega),λp3 H3 s3 e3=>?_⟩;rw [<-bI] at e3;have xP:=(s1.trans s2).trans s3;refine⟨p3,rfl,⟨_,e3⟩,λD2 iP=>oQ (zs:=ru.2.take j++ru.2.drop (j+1)) [br E] (λz=>decide (z∈es)) rfl e3 (by rw [b9,c_,jd];omega) iP (λz _ H5 Qy s5 hq=>?_) λH5 s5 HJ=>?_⟩
  .refine⟨_,rfl,_,rfl,E,_,rfl,.inl (s5.seq (xP.seq hE)),rfl,gU _,?_⟩;rw [jY];exact hq
  refine⟨D2,_,rfl,aG.of HJ,?_⟩;rw [all_map];have:=q H5 (xP.trans s5);rw [eW] at this;exact this
 rw [ff (show ¬((j:Nat):Int) < ((ru.2.length:Nat):Int) by omega)];refine rV ?_;have eW:vS ns es ru.2 j=false:=by
  unfold vS;rw [uu ∅]
 have:=q H (λ_ _ h=>h);rw [eW] at this;exact this
end
end eX
namespace L2
open PySem
def zQ {α:Type}{xs:List α}{k:Nat}{v:α}(h:(if k=0 then xs[xs.length - 1]? else xs[k - 1]?)=some v):ir xs ((k:Int) - 1)=some v:=by
 cases k with
 | zero =>
  rw [az rfl] at h;have hj:=(bo.mp h).1;unfold ir FK;rw [aA ∅,az ∅];show xs[(((0:Nat):Int) - 1+(xs.length:Int)).toNat]?=some v;rw [show (((0:Nat):Int) - 1+(xs.length:Int)).toNat=xs.length - 1 by omega];exact h
 | succ k =>
  rw [aA ∅,Nat.add_sub_cancel] at h;rw [show ((k+1:Nat):Int) - 1=(k:Int) by omega];exact bj h
end L2
namespace eX
open PySem L2 M11
section
def vZ (K:aV):Sp:=λvs H Q _=>∃(R N E:Addr)(rs:List Addr)(aa:List ay) (ns es:List Str),vs=[.ref R,.ref N,.ref E]/\aG K H R (rs.map V.ref)/\bJ K H rs aa/\aa.length < 64/\(∀ru∈aa,ru.2.length<=8)/\aG K H N (ns.map V.str)/\ns.length<=8/\aG K H E (es.map V.str) /\
 (∀x,x∈ns↔x∈hd aa)/\(∀x,x∈es↔Em aa x)/\∀H',aC H H'->Q (.bl (!(eD aa ns ns.length).isEmpty)) H'
def fO:aH ["_law_rules_here","_law_names","_law_empty_here","_law_left","_law_again","_law_kept","_law_number","_law_head","_law_parts","_law_place"] ["_law_rules_here","_law_names","_law_empty_here"] (av uW):=iw rfl rfl rfl rfl nofun
def Qm (aa:List ay) (L:List Str) (m:Nat)(x:Str):Prop:=∃k j z,k < m/\z∈L/\gP aa k j x z
open Classical in
def BK (F:gX K "_law_loops" "_law_loops" uW f fd)(T:Txt mg)(GW:aK P w K mg base 1 "_law_is_way" ["_law_rules_here","_law_names","_law_empty_here","_law_number","_law_place"] (uK K)):ba P w K mg base fc 2 f fd ["_law_rules_here","_law_names","_law_empty_here"] (vZ K):=by
 refine F.ok fO (λvs H Q E h=>?_) (λdw A outer s H vs Q E hr h=>?_)
 .obtain⟨R,N,E,rs,aa,ns,es,rfl,_⟩:=h;rfl
 obtain⟨R,N,E,rs,aa,ns,es,rfl,hR,cS,a8,h8,hN,Xr,hE,kC,EJ,q⟩:=h;have hu:=Nat.lt_of_succ_lt (fX hr);refine⟨_,aj (aF (i:=3) fO.nd rfl (bM rfl) (bc dO rfl T.lst eI (af (pv 1) ak)))
  (aj (b_ cD rfl (bx (pv 1)) (aw (i:=4) fO.nd rfl (bM rfl))
   (aj (aF (i:=5) fO.nd rfl (Or.inr rfl) (cK ak))
   (aj (b_ cD rfl (fw rfl T.Bu (af (aN aQ rfl T.len d5 (af (pv 0) ak)) ak)) (aw (i:=6) fO.nd rfl (bM rfl))
    (aj (yM (aP bz (pv 0) (pv 6) (λ_ _=>rfl)) (eZ rfl (aE (aw (i:=7) fO.nd rfl (bM rfl)) (aE (aw (i:=8) fO.nd rfl (bM rfl)) cu))))
    (ao (b_ cD rfl (fw rfl T.Bu (af (aN aQ rfl T.len d5 (af (pv 8) ak)) ak)) (aw (i:=9) fO.nd rfl (bM rfl))
     (ao (cN (PW.pt (u5 (cx sQ (aP bL (pv 8) (pv 9) (λ_ _=>rfl)) (pv 3) rfl) (pI (eY (bU GW hr rfl (af (pv 0) (af (pv 1) (af (pv 2) (af (pv 6) (af (pv 9) ak))))))))))
      (ao (cP (iK jf jw jx cT (pv 5) (af (pv 7) ak)))) bw))))))
   (ao (gi (iy:=3) ["_law_name"] [(5,"_law_kept")] fO.nd rfl rfl rfl (bx (pv 3)) (bh rfl rfl) nofun rfl nofun
    (λ_ _ _ _ _=>aw (i:=0) (show (["_law_name","_law_kept"]:List Str).Nodup by decide +kernel) rfl (bM rfl)) (λ_ _ _ _ _=>ie (cx (kW K) (pv 0) (pv 1) rfl)) (λ_ _ _ _ _=>pv 0))))))
  (ao (bu (i6 (BA hu) (pv 3) (cK ak) (dq _))))),?_⟩
 nofun
 have ll:=bF cS;refine⟨_,rfl,N,_,rfl,.inl hN,λL0 UU=>?_⟩;have s1:=ah UU (.lst (ns.map V.str));have e1:upd H L0 (.lst (ns.map V.str)) L0=some (.lst (ns.map V.str)):=ae;generalize upd H L0 (.lst (ns.map V.str))=H1 at s1 e1
 ac_rfl
 let sf:rP:=λi σ H3=>∃(L:Addr)(y4 y5 y6 y7 y8 y9:Option V),σ=[br R,br N,br E,br L,y4,y5,y6,y7,y8,y9]/\aC H H3/\H3 L=some (.lst ((eD aa ns i).map V.str))/\(eD aa ns i).length<=8
 refine⟨_,rfl,N,rfl,⟨_,s1.seq hN⟩,dX (xs:=ns.map V.str) sf ⟨L0,_,_,_,_,_,_,rfl,s1,e1,Xr⟩ ?_ ?_ ?_⟩
 .rintro i σ H3 _ ⟨L,y4,y5,y6,y7,y8,y9,rfl,s3,_⟩;exact s3.seq hN
 .intro i x σ H3 ex wW
  ac_nf0
  obtain⟨L,y4,y5,y6,y7,y8,y9,rfl,s3,HI,lp⟩:=wW;refine goN ?_
  ac_nf
  refine⟨xM,λD hD=>?_⟩;have s4:=s3.trans (ah hD (.lst []));have HH:=ah hD (.lst []) _ _ HI;have nL:L≠D:=au HI hD;have fD:H D=none:=s3.free hD;have Rt:upd H3 D (.lst []) D=some (.lst []):=ae;generalize upd H3 D (.lst [])=H4 at s4 HH Rt
  ac_rfl
  refine⟨_,rfl,R,_,rfl,.inl (s4.seq hR),_,rfl,by rw [aB];omega,by rw [aB];omega,?_⟩;rw [aB,ll,iD]
  let zX:rP:=λm σ H5=>∃(ks:List Str)(y6 y7 y8 y9:Option V),σ=[br R,br N,br E,br L,some x,br D,y6,y7,y8,y9]/\aC H H5/\H5 L=some (.lst ((eD aa ns i).map V.str))/\H5 D=some (.lst (ks.map V.str))/\ks.length<=8 * m/\∀x,x∈ks↔Qm aa (eD aa ns i) m x
  refine gb (n:=aa.length) zX ⟨[],_,_,_,_,rfl,s4,HH,Rt,by simp,λx=>⟨λh=>(by cases h),λ⟨k,j,z,h,_⟩=>by omega⟩⟩ ?_ ?_
  .intro m σ H5 hm wW
   ac_nf0
   obtain⟨ks,y6,y7,y8,y9,rfl,s5,I0,HJ,lk,hk⟩:=wW;rw [show (0:Int)+(m:Int)=((m:Nat):Int) by omega];refine goN ?_;obtain⟨ru,er⟩:∃ru,aa[m]?=some ru:=⟨_,cZ hm⟩;obtain⟨r,FV,p,v1,v2⟩:=Paired.at_ cS m ru er;have L1:ir (rs.map V.ref) (m:Int)=some (.ref r):=bj (by rw [aZ,FV];rfl);have gG:=h8 ru (cb er)
   ac_nf
   refine⟨_,rfl,_,rfl,R,_,_,_,rfl,rfl,s5.seq hR,L1,r,_,rfl,s5.tup v1,rfl,_,_,rfl,_,_,rfl,rfl,?_⟩
   ac_rfl
   refine⟨_,rfl,p,_,rfl,.inr (s5.tup v2),_,rfl,by rw [aB];omega,by rw [aB];omega,?_⟩;rw [aB,iD]
   let Qn:rP:=λj σ H6=>∃(ks:List Str)(y9:Option V),σ=[br R,br N,br E,br L,some x,br D,some (.int (m:Int)),some (.str ru.1),br p,y9]/\aC H H6/\H6 L=some (.lst ((eD aa ns i).map V.str))/\H6 D=some (.lst (ks.map V.str))/\ks.length<=8 * m+j/\∀x,x∈ks↔(Qm aa (eD aa ns i) m x\/∃j' z,j' < j/\z∈eD aa ns i/\gP aa m j' x z)
   refine gb (n:=ru.2.length) Qn ⟨ks,_,rfl,s5,I0,HJ,∅,λx=>⟨λh=>.inl ((hk x).mp h),λh=>h.elim (hk x).mpr λ⟨j',z,h,_⟩=>by omega⟩⟩ ?_ ?_
   .intro j σ H6 hj wW
    ac_nf0
    obtain⟨ks,y9,rfl,s6,M7,FZ,Tu,O5⟩:=wW;rw [show (0:Int)+(j:Int)=((j:Nat):Int) by omega];refine goN ?_;obtain⟨z,ez⟩:∃z,ru.2[j]?=some z:=⟨_,cZ hj⟩;have LZ:ir (ru.2.map V.str) (j:Int)=some (.str z):=bj (by rw [aZ,ez];rfl);have wz:∀{x z':Str},gP aa m j x z'->x=ru.1/\z'=z:=λh=>by
     obtain⟨a,b,_⟩:=h.uniq er ez;exact⟨a.symm,b.symm⟩
    have step:∀{x:Str},(∃j' z',j' < j+1/\z'∈eD aa ns i/\gP aa m j' x z')↔((∃j' z',j' < j/\z'∈eD aa ns i/\gP aa m j' x z')\/(x=ru.1/\z∈eD aa ns i/\∃z',gP aa m j ru.1 z')):=λ{x}=>by
     constructor
     .rintro⟨j',z',l,a,b⟩;by_cases c:j'=j
      .subst c;obtain⟨c1,c2⟩:=wz b;exact .inr ⟨c1,c2 ▸ a,z',c1 ▸ b⟩
      exact .inl ⟨j',z',∅,a,b⟩
     rintro(⟨j',z',l,a,b⟩ | ⟨c1,a,z',b⟩)
     .exact⟨j',z',∅,a,b⟩
     obtain⟨_,c2⟩:=wz b;exact⟨j,z,∅,a,c1 ▸ c2 ▸ b⟩
    refine⟨_,rfl,_,rfl,p,_,_,_,rfl,rfl,s6.tup v2,LZ,_,rfl,L,_,rfl,.inl (aG.of M7),rfl,gU _,_,rfl,?_⟩;rw [jY];show if decide (z∈eD aa ns i)=true then _ else _;refine dJ (λc=>?_) (λc=>?_)
    .have c':=d6 c;refine⟨_,rfl,_,rfl,_,rfl,_,rfl,_,rfl,R,N,E,rs,aa,ns,es,m,j,ru,rfl,s6.seq hR,cS.same s6,er,gG,s6.seq hN,s6.seq hE,λH7 s7=>?_⟩;refine⟨_,rfl,?_⟩;have Bt:=s6.trans s7;refine dJ (λc2=>?_) (λc2=>?_)
     .have w2:=(qg kC EJ er).mp c2;have PK:=s7 _ _ FZ;refine⟨_,rfl,.inl ⟨rfl,_,aG.of PK⟩,_,rfl,D,_,_,rfl,rfl,PK,bQ (by rw [aB];omega),?_⟩;refine⟨ks++[ru.1],_,rfl,λb o hb=>?_,by rw [ai nL];exact s7 _ _ M7,by rw [ae,bI];rfl,by rw [b9];simp;omega,λx=>?_⟩
      .rw [ai (λz=>by rw [z,fD] at hb;cases hb)];exact Bt b o hb
      rw [bq,O5,bE,step,or_assoc];exact or_congr_right (or_congr_right ⟨λh=>⟨h,c',w2⟩,λh=>h.1⟩)
     refine⟨ks,_,rfl,Bt,s7 _ _ M7,s7 _ _ FZ,∅,λx=>?_⟩;rw [O5,step];refine or_congr_right ⟨λh=>.inl h,λh=>h.elim id λaT=>?_⟩;obtain⟨_,_,w⟩:=aT;exact absurd ((qg kC EJ er).mpr w) c2
    refine⟨ks,_,rfl,s6,M7,FZ,∅,λx=>?_⟩;rw [O5,step];refine or_congr_right ⟨λh=>.inl h,λh=>h.elim id λaT=>?_⟩;obtain⟨_,a,_⟩:=aT;exact absurd (cM a) c
   rintro σ H6 ⟨ks,y9,rfl,s6,M7,FZ,Tu,O5⟩;refine⟨ks,_,_,_,_,rfl,s6,M7,FZ,∅,λx=>?_⟩;rw [O5];constructor
   .rintro(⟨k,j,z,a,b,c⟩ | ⟨j,z,a,b,c⟩)
    .exact⟨k,j,z,∅,b,c⟩
    exact⟨m,j,z,∅,b,c⟩
   rintro⟨k,j,z,a,b,c⟩;by_cases ck:k=m
   .subst ck;refine .inr ⟨j,z,?_,b,c⟩;obtain⟨jW,e1,_,e3,_⟩:=c;rw [er] at e1;cases e1;exact(bo.mp e3).1
   exact .inl ⟨k,j,z,∅,b,c⟩
  rintro σ H5 ⟨ks,y6,y7,y8,y9,rfl,s5,I0,HJ,lk,hk⟩;refine⟨_,rfl,L,rfl,⟨_,aG.of I0⟩,λD6 MT=>zN (λz=>decide (z∈ks)) rfl (aG.of I0) ∅ MT (λz _ H6 Q6 s6 hq=>?_) λH6 s6 FZ=>?_⟩
  .refine⟨_,rfl,_,rfl,D,_,rfl,.inl (aG.of (s6 _ _ HJ)),rfl,gU _,_,rfl,?_⟩;rw [jY];exact hq
  have ef:(eD aa ns i).filter (λz=>decide (z∈ks))=eD aa ns (i+1):=List.filter_congr λz _=>decide_eq_decide.mpr ((hk z).trans ⟨λ⟨k,j,y,_,b,c⟩=>⟨y,k,j,b,c⟩,λ⟨y,k,j,b,c⟩=>⟨k,j,y,by
   obtain⟨jW,e1,_⟩:=c;exact(bo.mp e1).1,b,c⟩⟩)
  rw [ef] at FZ;refine⟨D6,_,_,_,_,_,_,rfl,s5.trans s6,FZ,?_⟩;have:(eD aa ns (i+1)).length<=(eD aa ns i).length:=kn _ _;omega
 rintro σ H3 ⟨L,y4,y5,y6,y7,y8,y9,rfl,s3,HI,lp⟩;rw [aB] at HI;refine⟨_,rfl,xM,λD8 Ls=>?_⟩;have s8:=ah Ls (.lst []);refine⟨L,D8,_,rfl,rfl,aG.of (s8 _ _ HI),aG.of ae,?_⟩;rw [show ((eD aa ns ns.length).map V.str).isEmpty=(eD aa ns ns.length).isEmpty by cases eD aa ns ns.length <;> rfl]
 exact q _ (s3.trans s8)
def v8 (K:aV):Sp:=λvs H Q _=>∃(S R N E:Addr)(rs ts:List Addr)(aa:List ay) (ns es:List Str)(ps:List (Nat×Nat)),vs=[.ref S,.ref R,.ref N,.ref E]/\aG K H S (ts.map V.ref)/\Qf K H ts ps/\aG K H R (rs.map V.ref)/\bJ K H rs aa/\aa.length < 64/\(∀ru∈aa,ru.2.length<=8)/\aG K H N (ns.map V.str)/\aG K H E (es.map V.str) /\
 (∀x,x∈ns↔x∈hd aa)/\(∀x,x∈es↔Em aa x)/\ny aa ps/\∀H',aC H H'->Q (.bl true) H'
def iI:aH ["_law_steps","_law_rules_here","_law_names","_law_empty_here","_law_k","_law_step","_law_number","_law_place"] ["_law_steps","_law_rules_here","_law_names","_law_empty_here"] (av uX):=iw rfl rfl rfl rfl nofun
def BM (F:gX K "_law_is_loop" "_law_is_loop" uX f fd)(T:Txt mg)(GH:aK P w K mg base 1 "_law_whole" ["_law_found"] Ah)(GW:aK P w K mg base 1 "_law_is_way" ["_law_rules_here","_law_names","_law_empty_here","_law_number","_law_place"] (uK K)):ba P w K mg base fc 2 f fd ["_law_steps","_law_rules_here","_law_names","_law_empty_here"] (v8 K):=by
 refine F.ok iI (λvs H Q E h=>?_) (λdw A outer s H vs Q E hr h=>?_)
 .obtain⟨S,R,N,E,rs,ts,aa,ns,es,ps,rfl,_⟩:=h;rfl
 obtain⟨S,R,N,E,rs,ts,aa,ns,es,ps,rfl,hS,hP,hR,cS,a8,h8,hN,hE,kC,EJ,cy,q⟩:=h;refine⟨_,aj (cN (PW.pt (mw (gH (eY (aN vD rfl T.IK oG (af (pv 0) (af (mF (v:=.ty "list") rfl T.lst eI rfl) ak))))) (kU (gH (qw AI AI aq (aN aQ rfl T.len d5 (af (pv 0) ak)) aq))))) (ao (bu fg)) bw)
  (aj (b_ cD rfl (fw rfl T.Bu (af (aN aQ rfl T.len d5 (af (pv 0) ak)) ak)) (aw (i:=4) iI.nd rfl (bM rfl))
   (aj (aF (i:=5) iI.nd rfl (bM rfl) (aP bz (pv 0) (pv 4) (λ_ _=>rfl)))
   (aj (cN (PW.pt (mw (gH (eY (aN jR rfl T.IK oG (af (pv 5) (af (mF (v:=.ty "tuple") rfl T.tup qe rfl) ak)))))
     (mw (cx Iz (aN aQ rfl T.len d5 (af (pv 5) ak)) aq (dq _))
     (mw (gH (eY (bU GH hr rfl (af (aP bL (pv 5) aq (λ_ _=>rfl)) ak))))
     (kU (gH (eY (bU GH hr rfl (af (aP bL (pv 5) aq (λ_ _=>rfl)) ak))))))))) (ao (bu fg)) bw)
   (ao (cN (PW.pt (mw (gH (qw AI mI aq (aP bL (pv 5) aq (λ_ _=>rfl)) (aN aQ rfl T.len d5 (af (pv 1) ak))))
     (kU (gH (eY (bU GW hr rfl (af (pv 1) (af (pv 2) (af (pv 3) (af (aP bL (pv 5) aq (λ_ _=>rfl)) (af (aP bL (pv 5) aq (λ_ _=>rfl)) ak)))))))))))
    (ao (bu fg)) bw)))))
  (aj (b_ cD rfl (fw rfl T.Bu (af (aN aQ rfl T.len d5 (af (pv 0) ak)) ak)) (aw (i:=4) iI.nd rfl (bM rfl))
   (aj (yM (aP bz (pv 0) (aX yR (pv 4) aq) (λ_ _=>rfl)) (eZ rfl (aE (aw (i:=6) iI.nd rfl (bM rfl)) (aE (aw (i:=7) iI.nd rfl (bM rfl)) cu))))
   (ao (cN (cx Iz (aP bL (aP bL (aP bz (pv 1) (pv 6) (λ_ _=>rfl)) aq (λ_ _=>rfl)) (pv 7) (λ_ _=>rfl)) (aP bL (aP bz (pv 1) (aP bL (aP bz (pv 0) (pv 4) (λ_ _=>rfl)) aq (λ_ _=>rfl)) (λ_ _=>rfl)) aq (λ_ _=>rfl)) (dq _)) (ao (bu fg)) bw))))
  (ao (bu fg)))),?_⟩
 nofun
 have Oo:=bF hP;have aaj:(hd aa).length < 64:=by
  have:=gk (aa.map (·.1)) [];rw [iC,aB] at this;show (pA [] (aa.map (·.1))).length < 64;omega
 have Tp:1<=ps.length/\ps.length < 64:=by
  obtain⟨st,n,_,_,_,ne,l⟩:=id cy;exact⟨List.length_pos_iff.mpr ne,∅⟩
 refine⟨_,rfl,S,_,"list",true,rfl,hS,qK,true,rfl,?_⟩;refine hJ ?_;refine⟨_,rfl,S,_,rfl,.inl hS,_,_,rfl,rfl,_,rfl,?_⟩;rw [aB];refine dJ (λ_=>?_) (λc=>absurd (cM ∅) c);refine⟨_,_,rfl,rfl,_,rfl,?_⟩;rw [cM ∅];refine hJ ?_
 ac_rfl
 refine⟨_,rfl,S,_,rfl,.inl hS,_,rfl,by rw [aB];omega,by rw [aB];omega,?_⟩;rw [aB,Oo,iD]
 let sf:rP:=λi σ H1=>∃(y4 y5 y6 y7:Option V),σ=[br S,br R,br N,br E,y4,y5,y6,y7]/\aC H H1
 refine gb (n:=ps.length) sf ⟨_,_,_,_,rfl,λ_ _ h=>h⟩ ?_ ?_
 .intro i σ H1 hi wW
  ac_nf0
  obtain⟨y4,y5,y6,y7,rfl,s1⟩:=wW;rw [show (0:Int)+(i:Int)=((i:Nat):Int) by omega];refine goN ?_;obtain⟨⟨k,j⟩,FY⟩:∃e,ps[i]?=some e:=⟨_,cZ hi⟩;obtain⟨t,et,vt⟩:=Paired.at_ hP i (k,j) FY;have V0:ir (ts.map V.ref) (i:Int)=some (.ref t):=bj (by rw [aZ,et];rfl);obtain⟨e',tE⟩:∃e',(if i=0 then ps[ps.length - 1]? else ps[i - 1]?)=some e':=by
   by_cases c:i=0
   .rw [az c];exact⟨_,cZ ∅⟩
   rw [aA c];exact⟨_,cZ ∅⟩
  obtain⟨ru,y,_,er,ey,wy,_⟩:=cy.at_ i (k,j) e' FY tE;have gG:=h8 ru (cb er);have lk:=(bo.mp er).1;have ll:=bF cS;have wb:vS ns es ru.2 j=true:=(qg kC EJ er).mpr ⟨y,wy⟩;have Jv:=s1.tup vt;refine⟨_,rfl,_,rfl,S,_,_,_,rfl,rfl,s1.seq hS,V0,?_⟩
  ac_nf
  refine⟨_,rfl,.ref t,"tuple","tuple",true,rfl,.tup Jv,qK,true,rfl,?_⟩;refine hJ ?_;refine⟨_,rfl,t,_,rfl,.inr Jv,rfl,_,rfl,?_⟩;refine hJ ?_;refine⟨_,rfl,t,_,_,_,rfl,rfl,Jv,rfl,(k:Int),rfl,true,rfl,?_⟩;refine hJ ?_;refine⟨_,rfl,t,_,_,_,rfl,rfl,Jv,rfl,(j:Int),rfl,true,rfl,?_⟩;refine hJ ?_;refine⟨_,rfl,t,_,_,_,rfl,rfl,Jv,rfl,_,_,rfl,rfl,_,rfl,?_⟩;refine dJ (λ_=>?_) (λc=>absurd (cM ∅) c);refine⟨_,rfl,R,_,rfl,.inl (s1.seq hR),_,_,rfl,rfl,_,rfl,?_⟩;rw [aB,ll,cM (by dsimp only at lk;omega)];refine hJ ?_;refine⟨_,rfl,_,rfl,_,rfl,_,rfl,t,_,_,_,rfl,rfl,Jv,rfl,_,rfl,t,_,_,_,rfl,rfl,Jv,rfl,R,N,E,rs,aa,ns,es,k,j,ru,rfl,s1.seq hR,cS.same s1,er,gG,s1.seq hN,s1.seq hE,λH2 s2=>?_⟩;rw [wb];refine⟨true,rfl,?_⟩;refine hJ ?_;exact⟨_,_,_,_,rfl,s1.trans s2⟩
 rintro σ H1 ⟨y4,y5,y6,y7,rfl,s1⟩
 ac_rfl
 refine⟨_,rfl,S,_,rfl,.inl (s1.seq hS),_,rfl,by rw [aB];omega,by rw [aB];omega,?_⟩;rw [aB,Oo,iD]
 let zX:rP:=λi σ H2=>∃(y4 y5 y6 y7:Option V),σ=[br S,br R,br N,br E,y4,y5,y6,y7]/\aC H H2
 refine gb (n:=ps.length) zX ⟨_,_,_,_,rfl,s1⟩ ?_ ?_
 .intro i σ H2 hi wW
  ac_nf0
  obtain⟨y4,y5,y6,y7,rfl,s2⟩:=wW;rw [show (0:Int)+(i:Int)=((i:Nat):Int) by omega];refine goN ?_;obtain⟨⟨k,j⟩,FY⟩:∃e,ps[i]?=some e:=⟨_,cZ hi⟩;obtain⟨t,et,vt⟩:=Paired.at_ hP i (k,j) FY;have V0:ir (ts.map V.ref) (i:Int)=some (.ref t):=bj (by rw [aZ,et];rfl);obtain⟨⟨k',j'⟩,tE,t',Rc,Y3⟩:∃e',(if i=0 then ps[ps.length - 1]? else ps[i - 1]?)=some e'/\∃t',(if i=0 then (ts.map V.ref)[(ts.map V.ref).length - 1]? else (ts.map V.ref)[i - 1]?)=some (.ref t')/\a9 K H t' [.int (e'.1:Int),.int (e'.2:Int)]:=by
   by_cases c:i=0
   .rw [az c,az c,aB,Oo];have e0:ps[ps.length - 1]?=some (ps[ps.length - 1]'∅):=cZ ∅;obtain⟨t',a,b⟩:=Paired.at_ hP _ _ e0;exact⟨_,e0,t',by rw [aZ,a];rfl,b⟩
   rw [aA c,aA c];have e0:ps[i - 1]?=some (ps[i - 1]'∅):=cZ ∅;obtain⟨t',a,b⟩:=Paired.at_ hP _ _ e0;exact⟨_,e0,t',by rw [aZ,a];rfl,b⟩
  obtain⟨ru,y,jW,er,ey,wy,A0,ey'⟩:=cy.at_ i (k,j) (k',j') FY tE;obtain⟨r,ar,p,v1,v2⟩:=Paired.at_ cS k ru er;obtain⟨r',ar',p',RQ,Np⟩:=Paired.at_ cS k' jW A0;have L1:ir (rs.map V.ref) (k:Int)=some (.ref r):=bj (by rw [aZ,ar];rfl);have V1:ir (rs.map V.ref) (k':Int)=some (.ref r'):=bj (by rw [aZ,ar'];rfl);have VZ:ir (jW.2.map V.str) (j':Int)=some (.str ru.1):=bj (by rw [aZ,ey'];rfl)
  ac_nf
  refine⟨_,rfl,_,rfl,_,_,rfl,rfl,S,_,_,_,rfl,rfl,s2.seq hS,zQ Rc,t',_,rfl,s2.tup Y3,rfl,_,_,rfl,_,_,rfl,rfl,?_⟩
  ac_rfl
  refine⟨_,rfl,_,rfl,R,_,_,_,rfl,rfl,s2.seq hR,V1,r',_,_,_,rfl,rfl,s2.tup RQ,rfl,_,rfl,p',_,_,_,rfl,rfl,s2.tup Np,VZ,?_⟩;refine⟨_,rfl,_,rfl,_,rfl,S,_,_,_,rfl,rfl,s2.seq hS,V0,t,_,_,_,rfl,rfl,s2.tup vt,rfl,R,_,_,_,rfl,rfl,s2.seq hR,L1,r,_,_,_,rfl,rfl,s2.tup v1,rfl,?_⟩;refine⟨rfl,_,rfl,?_⟩;rw [cM rfl];refine hJ ?_;exact⟨_,_,_,_,rfl,s2⟩
 rintro σ H2 ⟨y4,y5,y6,y7,rfl,s2⟩;exact q H2 s2
end
open PySem L2 M11 PySem.W
section
def oA (P:Program)(w:World)(K:aV)(mg:Str->Option Value)(base:Heap) (k:Nat)(x:Str) (ps:List Str)(sp:Sp):Prop :=
 ∃f fd,ba P w K mg base (kK P w) k f fd ps sp/\Binds K fd ps []/\PySem.W.keepIn K (.ref f)=true/\mg x=some (.ref f)
theorem oA.mono {j k:Nat}{x:Str}{ps:List Str}{sp:Sp}(c:oA P w K mg base j x ps sp)(h:j<=k):oA P w K mg base k x ps sp :=
 let ⟨f,fd,a,b⟩:=c;⟨f,fd,a.mono h,b⟩
def GY {N:List Str}{qual:Str}{scope:Scope}{g:Addr}{cd:Value}{A:Around}{outer:List Env}{s₀:Shared}{H₀:Hp}{E:XK}{k:Nat}{x:Str}{ps:List Str}{sp:Sp}{e:Expr}{es:List Expr}{t:TA}{p pos:Pos}(c:oA P w K mg base k x ps sp)
  (hr:di k (eQ (kK P w) P w K mg base N qual scope g cd A outer s₀ H₀ E).A)(hg:Gl (eQ (kK P w) P w K mg base N qual scope g cd A outer s₀ H₀ E) x)(ha:PA (eQ (kK P w) P w K mg base N qual scope g cd A outer s₀ H₀ E) (e::es) t)
  (qP:(x == ("__debug__":Str))=false:=by decide)(he:starEach (e::es) (eQ (kK P w) P w K mg base N qual scope g cd A outer s₀ H₀ E).env=(false,eval e (eQ (kK P w) P w K mg base N qual scope g cd A outer s₀ H₀ E).env)::starEach es (eQ (kK P w) P w K mg base N qual scope g cd A outer s₀ H₀ E).env:=by rfl)
  (nA:(backTo pos (starEach es (eQ (kK P w) P w K mg base N qual scope g cd A outer s₀ H₀ E).env)).any (·.1)=false:=by rfl) :
  PE (eQ (kK P w) P w K mg base N qual scope g cd A outer s₀ H₀ E) (.Call (.Name x p) (e::es) [] pos) (C8 sp [] E t):=by
 obtain⟨f,fd,G,b,kp,m⟩:=c;exact AG G hr hg m kp b .nil (N7 λ_ _ _ z=>z) ha qP he nA
def zY.Su {x qual:Str}{st:Stmt}{f:Addr}{fd:FuncData}{N ps:List Str}{k:Nat}{sp:Sp}(F:zY K x qual st f fd)(S:aH N ps (av st))(len:∀vs H Q E,sp vs H Q E->vs.length=ps.length)
  (gB:∀(dw:Value)(A:Around)(outer:List Env)(s:Shared)(H:Hp)(vs:List V)(Q:VK)(E:XK),di k (A.deeper (PyProof.Rows.envOfC qual (av st) s.heap.objs.size f dw))->sp vs H Q E ->
   ∃t,vO (eQ (kK P w) P w K mg base N qual (av st) f dw A outer s H E) (bT st) t/\t { nx:=λ_ H'=>Q .dI H',rt:=Q } (start N vs) H):ba P w K mg base (kK P w) (k+1) f fd ps sp:=by
 obtain⟨oc,od,kV,doc,pm,an,dw,ct,u9,T,o,n,rfl,lk,qR,_⟩:=F.ex;refine wZ lk qR S len λA outer s H vs Q E hr tq=>?_;obtain⟨t,h,q⟩:=gB dw A outer s H vs Q E hr tq;exact⟨t,h,q⟩
def v9 (K:aV)(Cg T1 T2 T3 CE CU CL:Addr):Sp:=λvs H Q E=>∃(H0:Hp)(g gx R:Addr)(sv:V)(rs ss:List Addr)(aa str:List ay)(fJ:ay),vs=[.ref g,.ref R,sv]/\aC H0 H/\H0 g=none/\H g=some (.ins Cg gx [])/\aG K H0 R (rs.map V.ref)/\bJ K H0 rs aa/\aa.length < 64/\(∀ru∈aa,ru.2.length<=8)/\aa[0]?=some fJ/\(∀h∈hd aa,rD h) /\
 StrIn K H0 sv ss str/\str.length<=1000/\(∀ru∈str,ru.2.length<=8)/\(str.flatMap (·.2)).Nodup/\Ie aa/\CD T1 T2 T3 H0 /\
 ∀H',oV T1 T2 T3 H0 H'->∀gz,cI M11.bl aa (ph aa) gz->eh M11.bl aa gz ->
  (∀bt ms rk,fJ.1∈ms->(∀x∈ms,zT aa fJ.1 x)->ou aa aa.length ms->(∀h∈hd aa,∃n,gz h=some n)->(∀h∈hd aa,h∈ms)->gK aa rk->YY H0 H' Cg g rs ss bt->Q .dI H') /\
  (∀m dx,(hd aa).filter (λh=>(gz h).isNone)≠[]->H' dx=some (.xd [("names",.ref m)])->H' m=some (.lst (((hd aa).filter λh=>(gz h).isNone).map V.str))->E (.ref CE) (some dx) H') /\
  (∀ms m dx,fJ.1∈ms->(∀x∈ms,zT aa fJ.1 x)->ou aa aa.length ms->(∀h∈hd aa,∃n,gz h=some n)->(hd aa).filter (λh=>!decide (h∈ms))≠[]->H' dx=some (.xd [("names",.ref m)])->H' m=some (.lst (((hd aa).filter λh=>!decide (h∈ms)).map V.str))->E (.ref CU) (some dx) H') /\
  (∀ms m dx ts ps,fJ.1∈ms->(∀x∈ms,zT aa fJ.1 x)->ou aa aa.length ms->(∀h∈hd aa,∃n,gz h=some n)->(∀h∈hd aa,h∈ms)->H' dx=some (.xd [("steps",.ref m)])->H' m=some (.lst (ts.map V.ref))->Qf K H' ts ps->ny aa ps->E (.ref CL) (some dx) H')
def BN {Cg C C3 T1 T2 T3 CE CU CL fB fL:Addr}{X8 X5:FuncData}(F:zY K "__init__" "Grammar.__init__" uZ f fd)(T:Txt mg)(G:GC K Cg)(GR:oA P w K mg base 6 "refuse_faults" ["rules","strengths"] (nX K T1 T2 CE CU CL))(GS:aK P w K mg base 6 "standings_by_part" ["rules"] (Ij K))
  (FB:ba P w K mg base fc 5 fB X8 ["self","rules"] (Ar K C))(MB:Mk K C fB)(BB:Binds K X8 ["self","rules"] [])(mB:mg "BeginTable"=some (.ref C))
  (FL:ba P w K mg base fc 5 fL X5 ["self","rules","begin_table"] (Ap K C C3 T1 T3))(ML:Mk K C3 fL)(BL:Binds K X5 ["self","rules","begin_table"] [])(mL:mg "LeastTrees"=some (.ref C3)):ba P w K mg base (kK P w) 7 f fd ["self","rules","strengths"] (v9 K Cg T1 T2 T3 CE CU CL):=by
 refine F.Su Gr (λvs H Q E h=>?_) (λdw A outer s H vs Q E hr h=>?_)
 .obtain⟨H0,g,gx,R,sv,rs,ss,aa,str,fJ,rfl,_⟩:=h;rfl
 obtain⟨H0,g,gx,R,sv,rs,ss,aa,str,fJ,rfl,s0,f0,eg,hR,cS,a8,h8,wR,QV,jn,T7,Ua,T_,bd,UR,q⟩:=h;refine⟨_,aj (fP (pv 0) (bc dO rfl T.lst eI (af (pv 1) ak)) rfl)
  (aj (jX (fP (pv 0) (wu (fq (Kq (pv 2))) (cK ak) (bc dO rfl T.lst eI (af (pv 2) ak))) rfl))
  (aj (cP (GY GR hr rfl (af (dZ (pv 0) rfl) (af (dZ (pv 0) rfl) ak))))
  (aj (fP (pv 0) (bU GS hr rfl (af (dZ (pv 0) rfl) ak)) rfl)
  (aj (fP (pv 0) (AF MB FB hr rfl mB BB .nil qB (af (dZ (pv 0) rfl) ak)) rfl)
  (ao (fP (pv 0) (AF ML FL hr rfl mL BL .nil qB (af (dZ (pv 0) rfl) (af (dZ (pv 0) rfl) ak))) rfl)))))),?_⟩
 refine⟨_,rfl,R,_,rfl,.inl (s0.seq hR),λR2 FR=>?_⟩;have Vf:=ah FR (.lst (rs.map V.ref)) _ _ eg;have qZ:upd H R2 (.lst (rs.map V.ref)) R2=some (.lst (rs.map V.ref)):=ae;have WJ:=s0.trans (ah FR (.lst (rs.map V.ref)));generalize upd H R2 (.lst (rs.map V.ref))=H1 at Vf qZ WJ;refine⟨_,rfl,g,Cg,gx,[],rfl,Vf,G.cls,G.a1,(by show 0 < 1000;decide),?_⟩;generalize mM:dD "rules" (.ref R2) []=rW;have FV:upd H1 g (.ins Cg gx rW) R2=some (.lst (rs.map V.ref)):=by rw [ai (λz=>by rw [z,Vf] at qZ;cases qZ)];exact qZ
 have Kd:aC H0 (upd H1 g (.ins Cg gx rW)):=λc o hc=>by rw [ai (λz=>by rw [z,f0] at hc;cases hc)];exact WJ c o hc
 have Rl:upd H1 g (.ins Cg gx rW) g=some (.ins Cg gx rW):=ae;generalize upd H1 g (.ins Cg gx rW)=H2 at FV Kd Rl;refine⟨λσ H3=>σ=[br g,br R,some sv]/\∃S2 fs,aC H0 H3/\H3 g=some (.ins Cg gx fs)/\fs=dD "strengths" (.ref S2) rW/\H3 R2=some (.lst (rs.map V.ref))/\H3 S2=some (.lst (ss.map V.ref))/\H0 S2=none,?_,?_⟩
 .have fin:∀S2,H2 S2=none->(λH3=>∃S2 fs,aC H0 H3/\H3 g=some (.ins Cg gx fs)/\fs=dD "strengths" (.ref S2) rW/\H3 R2=some (.lst (rs.map V.ref))/\H3 S2=some (.lst (ss.map V.ref))/\H0 S2=none) (upd (upd H2 S2 (.lst (ss.map V.ref))) g (.ins Cg gx (dD "strengths" (.ref S2) rW)))/\upd H2 S2 (.lst (ss.map V.ref)) g=some (.ins Cg gx rW):=λS2 IS=>by
   have sl:=ah IS (.lst (ss.map V.ref));have eS:upd H2 S2 (.lst (ss.map V.ref)) S2=some (.lst (ss.map V.ref)):=ae;have PF:=sl _ _ Rl;refine⟨⟨S2,_,λc o hc=>?_,ae,rfl,?_,?_,Kd.free IS⟩,PF⟩
   .rw [ai (λz=>by rw [z,f0] at hc;cases hc)];exact sl _ _ (Kd c o hc)
   .rw [ai (λz=>by rw [z,Rl] at FV;cases FV)];exact sl _ _ FV
   rw [ai (λz=>by rw [z,Rl] at IS;cases IS)];exact eS
  rcases jn with ⟨rfl,rfl,rfl⟩ | ⟨S,rfl,hS,MM⟩
  .refine⟨_,rfl,_,rfl,?_⟩;refine rV ?_;refine⟨xM,λS2 IS=>?_⟩;obtain⟨x1,x2⟩:=fin S2 IS;exact⟨_,rfl,g,Cg,gx,rW,rfl,x2,G.cls,G.a2,(by rw [<-mM];show 1 < 1000;decide),rfl,x1⟩
  refine⟨_,rfl,_,rfl,?_⟩;refine hJ ?_;refine⟨_,rfl,S,_,rfl,.inl (Kd.seq hS),λS2 IS=>?_⟩;obtain⟨x1,x2⟩:=fin S2 IS;exact⟨_,rfl,g,Cg,gx,rW,rfl,x2,G.cls,G.a2,(by rw [<-mM];show 1 < 1000;decide),rfl,x1⟩
 rintro σ H3 ⟨rfl,S2,EV,xP,PF,o9,Yh,Ye,fS2⟩;have Oq:EV.lookup ("rules":Str)=some (.ref R2):=by rw [o9,<-mM];rfl
 have QP:EV.lookup ("strengths":Str)=some (.ref S2):=by rw [o9,<-mM];rfl
 have T8:bJ K H3 ss str:=by
  rcases jn with ⟨_,rfl,rfl⟩ | ⟨S,_,_,MM⟩
  .exact .nil
  exact MM.same xP
 have xN:=UR.same xP;refine⟨_,rfl,g,Cg,gx,EV,_,rfl,PF,G.cls,G.a1,Oq,_,rfl,g,Cg,gx,EV,_,rfl,PF,G.cls,G.a2,QP,R2,S2,rs,ss,aa,str,fJ,rfl,aG.of Yh,cS.same xP,∅,h8,wR,QV,aG.of Ye,T8,T7,Ua,T_,bd,xN.t1,xN.t2,xN.IC,λH4 J_ WA Wy gq NM seq=>⟨λms rk vX Mv Oi hl La nl=>?_,λm dx a E6 em=>(q H4 (λc o n1 n2 _ hc=>J_ c o n1 n2 (xP c o hc)) gq NM seq).2.1 m dx a E6 em,λms m dx a1 a2 a3 a4 a5 E6 em=>(q H4 (λc o n1 n2 _ hc=>J_ c o n1 n2 (xP c o hc)) gq NM seq).2.2.1 ms m dx a1 a2 a3 a4 a5 E6 em,λms m dx ts ps a1 a2 a3 a4 a5 E6 em pp cy=>(q H4 (λc o n1 n2 _ hc=>J_ c o n1 n2 (xP c o hc)) gq NM seq).2.2.2 ms m dx ts ps a1 a2 a3 a4 a5 E6 em pp cy⟩⟩;obtain⟨b,gd⟩:=Hy bd wR NM hl Mv La nl;have Hh:=Kp.of2 J_ xN.t1 xN.t2;have t4:CD T1 T2 T3 H4:=⟨WA,Wy,Tab.s2 xN.t3 J_ xN.t1 xN.t2 xN.IB.symm xN.IA.symm,xN.IC,xN.IB,xN.IA⟩;have S04:oV T1 T2 T3 H0 H4:=λc o n1 n2 _ hc=>J_ c o n1 n2 (xP c o hc);have Yk:=Hh _ _ PF (λ_ z=>by cases z);have Yg:=Hh.lst Yh;have es4:=Hh.lst Ye;have OS:bJ K H4 rs aa:=Hh.aa (cS.same xP);clear WA Wy J_ xN;refine⟨_,rfl,g,Cg,gx,EV,_,rfl,Yk,G.cls,G.a1,Oq,R2,rs,aa,rfl,aG.of Yg,OS,∅,h8,λds H5 fds xO=>?_⟩;have M5:=xO _ _ Yk;have er5:=xO _ _ Yg;have es5:=xO _ _ es4;have Ud:=OS.same xO;have t5:=t4.same xO;have S05:oV T1 T2 T3 H0 H5:=λc o n1 n2 n3 hc=>xO _ _ (S04 c o n1 n2 n3 hc);refine⟨_,rfl,g,Cg,gx,EV,rfl,M5,G.cls,G.a4,(by rw [o9,<-mM];show 2 < 1000;decide),?_⟩;generalize vo:dD "standings" (.ref ds) EV=xT;have SG:∀{Hx:Hp}{fx fy:List (Str×V)},Hx g=some (.ins Cg gx fx)->oV T1 T2 T3 H0 Hx->oV T1 T2 T3 H0 (upd Hx g (.ins Cg gx fy)):=λ{Hx fx fy} hg hs c o n1 n2 n3 hc=>by
  rw [ai (λz=>by rw [z,f0] at hc;cases hc)];exact hs c o n1 n2 n3 hc
 have MA:∀{Hx:Hp}{fx fy:List (Str×V)}{b:Addr}{xs:List V},Hx g=some (.ins Cg gx fx)->Hx b=some (.lst xs)->upd Hx g (.ins Cg gx fy) b=some (.lst xs):=λ{Hx fx fy b xs} hg hb=>by
  rw [ai (λz=>by rw [z,hg] at hb;cases hb)];exact hb
 have YR:=SG (fy:=xT) M5 S05;have U_:=MA (fy:=xT) M5 er5;have Yd:=MA (fy:=xT) M5 es5;have K4:bJ K (upd H5 g (.ins Cg gx xT)) rs aa:=Ud.keep λ_ _ z=>gw M5 z;have t6:CD T1 T2 T3 (upd H5 g (.ins Cg gx xT)):=t5.Gd M5;have PD:upd H5 g (.ins Cg gx xT) g=some (.ins Cg gx xT):=ae;generalize upd H5 g (.ins Cg gx xT)=H6 at YR U_ Yd K4 t6 PD;have Tu:xT.lookup ("rules":Str)=some (.ref R2):=by rw [<-vo,o9,<-mM];rfl
 refine⟨_,rfl,g,Cg,gx,xT,_,rfl,PD,G.cls,G.a1,Tu,λx dx hx MQ SR=>?_⟩;have sx:aC H6 (upd (upd H6 dx (.own x)) x (.ins C dx [])):=(ah MQ _).trans (ah (by rw [ai SR.symm];exact hx) _);refine⟨H6,x,dx,R2,rs,aa,rfl,sx,hx,ae,aG.of U_,K4,∅,h8,λe d bg kE aR ps cw H7 S7 m7 emp _ _ beg _=>⟨rfl,?_⟩⟩;have M4:=S7.sm _ _ PD;have er7:=S7.sm _ _ U_;have es7:=S7.sm _ _ Yd;have t7:=t6.same S7.sm;have Uc:=K4.same S7.sm;have S07:oV T1 T2 T3 H0 H7:=λc o n1 n2 n3 hc=>S7.sm _ _ (YR c o n1 n2 n3 hc);refine⟨_,rfl,g,Cg,gx,xT,rfl,M4,G.cls,G.a3,(by rw [<-vo,o9,<-mM];show 3 < 1000;decide),?_⟩;generalize zy:dD "begin_table" (.ref x) xT=zC;have YQ:=SG (fy:=zC) M4 S07;have U9:=MA (fy:=zC) M4 er7;have Yc:=MA (fy:=zC) M4 es7;have OR:bJ K (upd H7 g (.ins Cg gx zC)) rs aa:=Uc.keep λ_ _ z=>gw M4 z;have t8:CD T1 T2 T3 (upd H7 g (.ins Cg gx zC)):=t7.Gd M4;have Rk:upd H7 g (.ins Cg gx zC) g=some (.ins Cg gx zC):=ae;have B8:si K C (upd H6 g (.ins Cg gx zC)) (upd H7 g (.ins Cg gx zC)) x e d bg kE aR ps cw:=S7.Gd PD (λz=>by rw [z,PD] at hx;cases hx);generalize upd H7 g (.ins Cg gx zC)=H8 at YQ U9 Yc OR t8 Rk B8;have Tt:zC.lookup ("rules":Str)=some (.ref R2):=by rw [<-zy,<-vo,o9,<-mM];rfl
 have lb8:zC.lookup ("begin_table":Str)=some (.ref x):=by rw [<-zy,<-vo,o9,<-mM];rfl
 refine⟨_,rfl,g,Cg,gx,zC,_,rfl,Rk,G.cls,G.a1,Tt,_,rfl,g,Cg,gx,zC,_,rfl,Rk,G.cls,G.a3,lb8,λy dy hy hdy Z0=>?_⟩;have sy:aC H8 (upd (upd H8 dy (.own y)) y (.ins C3 dy [])):=(ah hdy _).trans (ah (by rw [ai Z0.symm];exact hy) _);have KN:=beg.len ∅ h8;refine⟨H8,_,y,dy,R2,x,e,d,bg,rs,aa,kE,aR,ps,cw,rfl,sy,hy,ae,aG.of U9,OR,a8,h8,gd.least,B8,emp,KN,t8.t1,t8.t3,t8.IB,λH9 Se R8 Zj=>⟨rfl,?_⟩⟩;have KO:=Kp.of2 Se t8.t1 t8.t3;have Rj:=KO _ _ Rk (λ_ z=>by cases z);have er9:=KO.lst U9;have es9:=KO.lst Yc;have t9:CD T1 T2 T3 H9:=⟨R8,Tab.s2 t8.t2 Se t8.t1 t8.t3 t8.IC.symm t8.IA,Zj,t8.IC,t8.IB,t8.IA⟩;have S09:oV T1 T2 T3 H0 H9:=λc o n1 n2 n3 hc=>Se _ _ n1 n3 (YQ c o n1 n2 n3 hc);refine⟨_,rfl,g,Cg,gx,zC,rfl,Rj,G.cls,G.a5,(by rw [<-zy,<-vo,o9,<-mM];show 4 < 1000;decide),?_⟩;exact(q _ (SG Rj S09) gq NM seq).1 x ms rk vX Mv Oi hl La nl ⟨gx,_,R2,S2,ae,by rw [<-zy,<-vo,o9,<-mM];rfl,by rw [<-zy,<-vo,o9,<-mM];rfl,by rw [<-zy,<-vo,o9,<-mM];rfl,by rw [<-zy,<-vo,o9,<-mM];rfl,MA Rj er9,MA Rj es9,s0.free FR,fS2⟩
end
end eX
namespace L2
open PySem PySem.Spec PyProof.Rows PySem.W
section
variable {X:Cx}{k km:Nat}{f fm C W:Addr}{fd X1:FuncData}{WM:List Str}{QC:Sp}{m y:Str}{i:Nat}{py mp:Pos}{pl:Sem Bool}{ps:List Str}{sp:Sp}{ds:List Value}{dvs:List V}{x Cn n:Str}{a:Expr}{as:List Expr}{t:TA}{j:Nat}{b₀:Stmt}{Ac:List Stmt}{tb:TS}{p cp ap np hp pos apos:Pos}
def JC (K:Frag)(C:Addr)(sp:Sp)(dvs:List V)(m:Str)(QC:Sp)(W:Addr) (i j:Nat)(t:TA)(tb:TS):TS:=λD σ H=>t σ H λvs H1=>∀x dx,H1 x=none->H1 dx=none->dx≠x ->
 sp (.ref x::(vs++dvs)) (upd (upd H1 dx (.own x)) x (.ins C dx [])) (λv H2=>v=.dI/\∃dx fs,H2 x=some (.ins C dx fs)/\fs.lookup m=none/\QC [.ref x] H2 (λv3 H3=>D.nx (σ.set i (some v3)) H3) λ_ _ _=>False) λcls dx H'=>exmOne K cls (.ref W)=some true /\
  ∀ea,H' ea=some (rX ea cls dx)->tb { nx:=λσ' H''=>(∃v,σ'[j]?=some v)/\D.nx (σ'.set j none) H'',rt:=λ_ _=>False } (σ.set j (some (.ref ea))) H'
def DC (jn:X.stack=X.env::X.outer)(hfm:X.env.frame=some X.env.locals)(Xg:∀e s,¬X.xe e s)(M:Mk X.K C f)(F:ba X.prog X.w X.K X.mg X.base (kK X.prog X.w) k f fd ps sp)(hr:di (k+1) X.A)(hg:Gl X x)(hm:X.mg x=some (.ref C))
  (hb:Binds X.K fd ps ds)(hd:aS dvs ds)(ha:PA X (a::as) t)(hN:X.N.Nodup)(hgC:Gl X Cn)(hmC:X.mg Cn=some (.ref W))(hj:X.N[j]?=some n)(hn:X.env.scope.names.lookup n=some .local)
  (c:Bi X.K C)(Xu:Meth X.K C m fm)(Fm:ba X.prog X.w X.K X.mg X.base fc km fm X1 WM QC)(hrm:di km X.A)(UL:Binds X.K X1 WM [])(hi:X.N[i]?=some y)(hy:Loc X.env.scope y)(hsu:∀ea,vO (X.hold ea) (b₀::Ac) tb)
  (qP:(x == ("__debug__":Str))=false:=by decide)(hdC:(Cn == ("__debug__":Str))=false:=by decide)(he:starEach (a::as) X.env=(false,eval a X.env)::starEach as X.env:=by rfl)(nA:(backTo cp (starEach as X.env)).any (·.1)=false:=by rfl)
  (hs:swapsWith (.Call (.Attribute (.Call (.Name x p) (a::as) [] cp) m apos) [] [] mp) (some (.Name y py)) ap.line X.env=pure false:=by rfl)(hf:X.fn y=true\/X.env.scope.names.lookup y=some .local:=by first | exact .inl rfl | exact .inr rfl | assumption)
  (ht:eval (.Call (.Attribute (.Call (.Name x p) (a::as) [] cp) m apos) [] [] mp) X.env=(do
   let ov <-eval (.Call (.Name x p) (a::as) [] cp) X.env
   standAt apos.atName
   let (f,first) <-holding [ov] (getMethod ov m pl)
   callWith mp f first (backTo mp (starEach [] X.env)) (backToKw mp (keywordEach [] X.env))):=by rfl) :
  PS X (.Try [.Assign [.Name y py] (.Call (.Attribute (.Call (.Name x p) (a::as) [] cp) m apos) [] [] mp) ap] [.ExceptHandler (some (.Name Cn np)) (some n) (b₀::Ac) hp] [] [] pos) (JC X.K C sp dvs m QC W i j t tb):=by
 intro ag s σ H D I h;refine wpAny_Try_except (wpAny_execs_cons (wpAny_Assign_Name ?_ hs));refine PySem.W.methodCall_KW (pl:=pl) ?_ ht;refine lS (i9 I hg hm ?_ qP);refine callWith_K (h₀:=X.base) I.ok.mod.KQ M.kp (cv (ha cp ag s σ H _ I h) (λus s1 aT=>?_) λe s' z=>absurd z (Xg e s')) he nA;obtain⟨vs,H1,I1,r,q⟩:=aT;refine⟨I1.jj,?_⟩;have hq:=q (s1.heap.objs.size+1) s1.heap.objs.size (I1.bH.fresh (gZ _)) (I1.bH.fresh (aI _)) (bB (lR _));have I2:=Inv.made (C:=C) I1;have r2:aS (V.ref (s1.heap.objs.size+1)::(vs++dvs)) (Value.ref (s1.heap.objs.size+1)::(us++ds)):=.cons rfl (r.append hd);have hl:(Value.ref (s1.heap.objs.size+1)::us++ds).length=ps.length:=by
  have e:=r2.length;rw [F.len _ _ _ _ hq] at e;exact e.symm
 refine hX (wK (f:=f) I1.jj M.makes M.init (beq_iff_eq.mp M.fn) (iV (F.run _ X.stack _ _ ⟨Value.ref (s1.heap.objs.size+1)::us,[]⟩ (Value.ref (s1.heap.objs.size+1)::(us++ds)) _ _ _ (hr.make C us [])
  (I2.E2.make C us []) (hb _ (Value.ref (s1.heap.objs.size+1)::us) I2.jj hl) r2 hq) λr' s' z=>?_))
 cases r' with
 | ok fl =>
  cases fl with
  | next=>exact False.elim z
  | brk=>exact False.elim z
  | cont=>exact False.elim z
  | ret u =>
   obtain⟨v,H',I3,rv,ev,Vw,EV,e3,l3,q3⟩:=I2.after z;subst ev;refine⟨rv,lC I3 e3 c Xu l3 ?_⟩;refine PySem.W.callWith_K0 (first:=[.ref (s1.heap.objs.size+1)]) I3.jj Xu.kp (cv (yI (E:=λ_ _ _=>False) (ds:=[]) (dvs:=[]) (us:=[.ref (s1.heap.objs.size+1)]) (vs:=[.ref (s1.heap.objs.size+1)]) Fm hrm UL .nil qB I3 (.cons rfl .nil) q3) (λu4 s4 aT=>?_) λe s' z=>absurd z (Xg e s'));obtain⟨v4,H4,I4,r4,q4⟩:=aT;exact iG I4 hN hi hy r4 (λs5 I5=>nJ (nJ ⟨_,H4,I5,q4⟩)) hf
 | error e =>
  obtain⟨ea,cls,dx,H',rfl,os,bare,un,bH,⟨T0,vN,t1,t2,t3,t4⟩,hex,q⟩:=z;have J:=I2.A7 (ch:=[]) os un bH bare (λb z=>absurd z (by simp));have fr:X.A.frames=some (X.env::X.outer):=by rw [<-jn];exact I.ok.frames
  have Ii:=J.stack;rw [jn] at Ii;refine sS fr Ii hfm vN λh1 T m1 lT F1=>lD (fs:=px X.stack) F1 λh2 m2 F2=>?_;rw [<-jn] at m1;have nT:=J.bH.fresh lT;have J1:=J.moved (cs:=[T0]) m1 t2 F1 (λb hb=>by obtain rfl:b=T0:=(by simpa using hb);exact⟨t1,I2.away t3⟩);have J2:=J1.moved (cs:=[T]) (m2.mono λb hb=>bS _ hb) t2 F2 (λb hb=>by obtain rfl:b=T:=(by simpa using hb);exact⟨nT,J.away lT⟩);refine wpAny_handleBy_cons (codeAny_handlers_test (i9 (X:=X.hold ea) (J2.hold ea) hgC hmC ?_ hdC)) (by intro z;cases z);have lk:Looks (model X.prog X.w) h2 (typeOf (.ref ea)) cls:=by
   obtain⟨oe,_,_,_,he,hc,_⟩:=F2;rw [<-hc];exact(Looks.ld he).andThen .now
  refine Looks.here (s:={ { { s' with heap:=h1 } with heap:=h2 } with heap:=h2 }) (exm_one J2.jj lk hex) ?_;refine codeAny_handlers_suite_as (lD (fs:=px X.stack) F2 λh3 m3 F3=>?_);have J3:=J2.moved (cs:=[T]) (m3.mono λb hb=>bS _ hb) t2 F3 (λb hb=>by obtain rfl:b=T:=(by simpa using hb);exact⟨nT,J.away lT⟩);refine iG (X:=X.hold ea) (v:=.ref ea) (J3.hold ea) hN hj (.inl hn) rfl (λs4 I4=>?_) (.inr hn);refine cv (hsu ea ag s4 _ H' _ I4 (q ea t2)) (λfl s5 z=>?_) λ_ _ z=>False.elim z;cases fl with
  | brk=>obtain⟨_,_,_,z⟩:=z;exact False.elim z
  | cont=>obtain⟨_,_,_,z⟩:=z;exact False.elim z
  | ret u=>obtain⟨_,_,_,_,_,z⟩:=z;exact False.elim z
  | next =>
   obtain⟨σ5,H5,I5,⟨v5,e5⟩,q5⟩:=z;have K5:Inv X ag σ5 H5 s5:=Inv.Jy (ok:=I.ok) I5;refine ax (wpAny_bindName (iG (v:=.dI) K5 hN hj (.inl hn) rfl (λs6 I6=>?_) (.inr hn)));unfold unbindBehindTheSuite;refine wpAny_onRaise (Bj (v:=.dI) I6 hN hj hn ?_ λs7 I7=>?_)
   .exact uz (bo.mp e5).1
   rw [List.set_set] at I7;exact⟨_,H5,I7,q5⟩
end
inductive Me (K:Frag)(H:Hp):V->Value->Prop
 | exc {ea C dx:Addr}{fs:List (Str×V)}:Nc H ea C dx fs->XG K C->Me K H (.ref ea) (.ref C)
 | dI:Me K H .dI (.type "NoneType")
def nj {X:Cx}:fA X (.builtin "isinstance") (λxs H Q=>∃x T c u b,xs=[x,c]/\Me X.K H x T/\(∀u',RelV c u'->u'=u)/\kitOne X.K T u=some b/\Q (.bl b) H):=by
 intro ag s σ H xs us Q I r h;obtain⟨x,T,c,u,b,rfl,io,hc,e,q⟩:=h;obtain⟨u1,u2,rfl,r1,r2⟩:=vals2 r;cases hc _ r2;cases io with
 | @exc ea C dx fs xo G =>
  cases (show u1=Value.ref ea from r1);obtain⟨ox,od,J,_⟩:=xo.inst I;exact kia_one (Ex G) I.jj ⟨ox,od,J⟩ e (λz=>nomatch z) λtk=>⟨.bl b,H,I.tok _,rfl,q⟩
 | dI =>
  cases (show u1=Value.none from r1);exact kia_one kitx_none I.jj True.intro e (λz=>nomatch z) λtk=>⟨.bl b,H,I.tok _,rfl,q⟩
end L2
namespace eX
open PySem L2 M11 PySem.W
abbrev JU:Stmt:=top 51
structure YV (K:Frag)(mg:Str->Option Value)(CE CU CL:Addr):Prop where
 mE:mg "Endless"=some (.ref CE)
 mU:mg "Unmet"=some (.ref CU)
 mL:mg "Loop"=some (.ref CL)
 mV:mg "ValueError"=none
 xL:XG K CL
 lV:kitOne K (.ref CL) (.type "ValueError")=some true
 lE:kitOne K (.ref CL) (.ref CE)=some false
 lU:kitOne K (.ref CL) (.ref CU)=some false
 aL:cX K CL "steps"
def B7 {K:Frag}{t:Value}:kitOne K t t=some true:=by unfold kitOne;rw [az (qa t)]
section
variable {P:Program}{w:World}{K:aV}{mg:Str->Option Value}{base:Heap}{f CE CU CL W:Addr}{fd:FuncData}
def Ao (K:aV)(T1 T2 T3:Addr):Sp:=λvs H Q _=>∃(a:Addr)(ns:List Int),vs=[.ref a]/\aG K H a (ns.map V.int)/\ns.length<=63/\CD T1 T2 T3 H/\∀H',Q (.bl true) H'
def kx:aH ["_law_script","_law_pool_here","_law_cell","_law_names","_law_rules_here","_law_empty_here","_law_caught","_law_start","e"] ["_law_script"] (av JU):=iw rfl rfl rfl rfl nofun
def Fb (ns:List Int):∃o6:List Int,gC (ns.map V.int) (some 2) (some 22)=o6.map V.int/\o6.length<=22:=by
 refine⟨(ns.drop (HT.dA (ns.map V.int).length 0 (some 2))).take (HT.dA (ns.map V.int).length (ns.map V.int).length (some 22) - HT.dA (ns.map V.int).length 0 (some 2)),by unfold gC;rw [<-iW,<-jC],?_⟩;have e2:HT.dA (ns.map V.int).length (ns.map V.int).length (some 22)=min 22 (ns.map V.int).length:=HT.i4 _ _ 22;rw [c_,e2];omega
def Fe:bootBuiltins "ValueError"=some (.type "ValueError"):=by decide +kernel
def Kw {Cg T1 T2 T3 fG fS:Addr}{X6 X4:FuncData}(F:gX K "law" "law" JU f fd)(T:Txt mg)(L:YV K mg CE CU CL)(YZ:aK P w K mg base 8 "_law_cell_at" ["_law_script","_law_k"] (Di K))(GP:aK P w K mg base 8 "_law_pool" ["_law_cell","_law_many"] Df)
  (GR:aK P w K mg base 8 "_law_rules" ["_law_cell","_law_names","_law_words","_law_cells"] (Al K))(GE:aK P w K mg base 8 "_law_empty" ["_law_rules_here","_law_names"] (v_ K))(GL:aK P w K mg base 8 "_law_loops" ["_law_rules_here","_law_names","_law_empty_here"] (vZ K))
  (GI:aK P w K mg base 8 "_law_is_loop" ["_law_steps","_law_rules_here","_law_names","_law_empty_here"] (v8 K))(G:GC K Cg)(MG:Mk K Cg fG)(FG:ba P w K mg base (kK P w) 7 fG X6 ["self","rules","strengths"] (v9 K Cg T1 T2 T3 CE CU CL))(B1:Binds K X6 ["self","rules","strengths"] [.none])(mG:mg "Grammar"=some (.ref Cg))
  (mS:Meth K Cg "start" fS)(FS:ba P w K mg base fc 8 fS X4 ["self"] (Ak K Cg))(BS:Binds K X4 ["self"] [])(mW:mg "WrightError"=some (.ref W))(xL:exmOne K (.ref CL) (.ref W)=some true) :
  ba P w K mg base fc 9 f fd ["_law_script"] (Ao K T1 T2 T3):=by
 refine F.ok kx (λvs H Q E h=>?_) (λdw A outer s H vs Q E hr h=>?_)
 .obtain⟨a,ns,rfl,_⟩:=h;rfl
 obtain⟨a,VC,rfl,hS,h63,hT,q⟩:=h;refine⟨_,(aj (aF (i:=1) kx.nd rfl (bM rfl) (bU GP hr rfl (af (bU YZ hr rfl (af (pv 0) (af aq ak))) (af aq ak))))
  (aj (aF (i:=2) kx.nd rfl (bM rfl) (bU YZ hr rfl (af (pv 0) (af aq ak))))
  (aj (aF (i:=3) kx.nd rfl (bM rfl) (dW hZ (pv 1) ic (dB (aX dH aq (aX dG (pv 2) aq)))))
  (aj (aF (i:=4) kx.nd rfl (bM rfl) (bU GR hr rfl (af (aX gR (pv 2) aq) (af (pv 3) (af (dW hZ (pv 1) (dB aq) ic) (af (dW hZ (pv 0) (dB aq) (dB aq)) ak))))))
  (aj (aF (i:=5) kx.nd rfl (bM rfl) (bU GE hr rfl (af (pv 4) (af (pv 3) ak))))
  (aj (aF (i:=6) kx.nd rfl (bM rfl) yP)
  (aj (aF (i:=7) kx.nd rfl (bM rfl) yP)
  (aj (jX (DC (i:=7) (j:=8) (dvs:=[.dI]) rfl rfl (λ_ _ z=>z) MG FG hr rfl mG B1 (.cons rfl .nil) (af (bc dO rfl T.lst eI (af (pv 4) ak)) ak) kx.nd rfl mW rfl rfl G.cls mS FS hr BS rfl (bM rfl) (λea=>ao (aF (i:=6) kx.nd rfl (bM rfl) (pv 8)))))
  (aj (cN (gH (eY (bU GL hr rfl (af (pv 4) (af (pv 3) (af (pv 5) ak)))))) (ao (bu (DR (i6 Ks (pv 6) yP (dq _)) (DM (i6 wA (pv 7) (aP bz (pv 3) aq (λ_ _=>rfl)) (dq _)))))) bw)
  (aj (cN (PW.pt (mw (gH (eY (aN nj rfl T.IK oG (af (pv 6) (af (pJ (v:=.ref CL) rfl L.mL rfl) ak))))) (kU (gH (eY (aN nj rfl T.IK oG (af (pv 6) (af (mF (v:=.ty "ValueError") rfl L.mV Fe rfl) ak)))))))) (ao (bu fg)) bw)
  (aj (cN (PW.pt (mw (eY (aN nj rfl T.IK oG (af (pv 6) (af (pJ (v:=.ref CE) rfl L.mE rfl) ak)))) (kU (eY (aN nj rfl T.IK oG (af (pv 6) (af (pJ (v:=.ref CU) rfl L.mU rfl) ak))))))) (ao (bu fg)) bw)
  (ao (bu (bU GI hr rfl (af (GO (pv 6) rfl) (af (pv 4) (af (pv 3) (af (pv 5) ak)))))))))))))))))),?_⟩
 nofun
 refine⟨_,rfl,a,VC,0,rfl,hS,∅,λn0=>?_⟩;refine⟨n0,8,rfl,nofun,λPl zs H1 hPf s1 US QT Xf K0=>?_⟩
 ac_rfl
 refine⟨_,rfl,a,VC,1,rfl,s1.seq hS,∅,λc=>?_⟩
 ac_rfl
 refine⟨_,rfl,_,rfl,_,_,rfl,rfl,(by show (0:Int) < 4;decide),_,_,rfl,rfl,_,rfl,Pl,_,rfl,aG.of US,λN hN=>?_⟩;have Yw:(1:Int)+c % 4=(((1+c % 4).toNat:Nat):Int):=by omega
 rw [Yw,xj,<-jC];have lm:1<=(1+c % 4).toNat/\(1+c % 4).toNat<=4:=by omega
 generalize (1+c % 4).toNat=m at lm;have s2:=s1.trans (ah hN (.lst ((zs.take m).map V.str)));have eN:upd H1 N (.lst ((zs.take m).map V.str)) N=some (.lst ((zs.take m).map V.str)):=ae;have Vq:=ah hN (.lst ((zs.take m).map V.str)) _ _ US;generalize upd H1 N (.lst ((zs.take m).map V.str))=H2 at s2 eN Vq
 ac_rfl
 refine⟨_,rfl,_,_,rfl,rfl,⟨nofun,nofun⟩,_,rfl,_,rfl,4,rfl,Pl,_,rfl,aG.of Vq,λW0 UP=>?_⟩;rw [show gC (zs.map V.str) (some 4) none=(zs.map V.str).drop 4 from xn _ 4,<-iW];have s3:=s2.trans (ah UP (.lst ((zs.drop 4).map V.str)));have Vt:=ah UP (.lst ((zs.drop 4).map V.str)) _ _ eN;have Vp:upd H2 W0 (.lst ((zs.drop 4).map V.str)) W0=some (.lst ((zs.drop 4).map V.str)):=ae;generalize upd H2 W0 (.lst ((zs.drop 4).map V.str))=H3 at s3 Vt Vp;refine⟨_,rfl,2,rfl,22,rfl,a,_,rfl,s3.seq hS,λC4 Q9=>?_⟩;obtain⟨cs,Yn,lcs⟩:=Fb VC;rw [Yn];have s4:=s3.trans (ah Q9 (.lst (cs.map V.int)));have Rr:=ah Q9 (.lst (cs.map V.int)) _ _ Vt;have Vo:=ah Q9 (.lst (cs.map V.int)) _ _ Vp;have Vu:upd H3 C4 (.lst (cs.map V.int)) C4=some (.lst (cs.map V.int)):=ae;generalize upd H3 C4 (.lst (cs.map V.int))=H4 at s4 Rr Vo Vu;have lns:(zs.take m).length=m:=by rw [c_];omega
 have dj:∀x∈zs.take m,x∉zs.drop 4:=λx h1 h2=>by
  have h1':x∈zs.take 4:=by
   have e:zs.take m=(zs.take 4).take m:=by rw [List.take_take,Nat.min_eq_left ∅]
   rw [e] at h1;exact lY h1
  have nd:=K0;rw [<-uv 4 zs] at nd;exact(je.mp nd).2.2 x h1' x h2 rfl
 refine⟨c / 4,N,W0,C4,zs.take m,zs.drop 4,cs,rfl,Rr,Vo,aG.of Vu,by rw [jd];omega,∅,∅,K0.sublist (List.take_sublist _ _),dj,∅,λR rs aa H5 s5 eR rl md a8 h8=>?_⟩;have Ms:=s4.trans s5;have Rq:=s5 _ _ Rr;generalize kC:zs.take m=ns at Rq md lns;have OY:∀x,x∈ns↔x∈hd aa:=λx=>md.head.symm;have W4:∀x∈hd aa,rD x:=λx hx=>by
  have:=(OY x).mpr hx;rw [<-kC] at this;exact Xf x (lY this)
 clear Vo Vu Rr Q9 Yn lcs Vt Vp UP eN Vq hN dj Yw
 ac_rfl
 refine⟨_,rfl,_,rfl,R,N,rs,aa,ns,rfl,aG.of eR,rl,a8,h8,aG.of Rq,∅,λD6 H6 f6 s6 e6=>?_⟩;have Pa:(hd aa).length<=ns.length:=g_ _ _ (lF _ lP) λx hx=>(OY x).mpr hx;have EJ:∀x,x∈jm aa ns.length↔Em aa x:=HG aa Pa;generalize jm aa ns.length=es at e6 EJ;have Iv:=Ms.trans s6;have Vs:=s6 _ _ Rq;have Rp:=s6 _ _ eR;have WL:=rl.same s6;obtain⟨n1,Xs⟩:∃n1,ns[0]?=some n1:=⟨_,cZ ∅⟩;obtain⟨pp,wR,_⟩:=md.first 0 n1 Xs;have t6:=hT.same Iv
 ac_rfl
 ac_rfl
 ac_rfl
 refine⟨λσ H9=>∃v7 v6:V,σ=[br a,br Pl,some (.int c),br N,br R,br D6,some v6,some v7,none]/\H9 R=some (.lst (rs.map V.ref))/\bJ K H9 rs aa/\H9 N=some (.lst (ns.map V.str))/\H9 D6=some (.lst (es.map V.str)) /\
  ((v6=.dI/\v7=.str n1/\∃rk,gK aa rk)\/∃ea dx S9 ts ps,v6=.ref ea/\Nc H9 ea CL dx [("steps",.ref S9)]/\H9 S9=some (.lst (ts.map V.ref))/\Qf K H9 ts ps/\ny aa ps),?_,?_⟩
 .refine⟨_,rfl,R,_,rfl,.inl (aG.of Rp),λR7 hR7=>?_⟩;have s7:=ah hR7 (.lst (rs.map V.ref));have e7:upd H6 R7 (.lst (rs.map V.ref)) R7=some (.lst (rs.map V.ref)):=ae;generalize upd H6 R7 (.lst (rs.map V.ref))=H7 at s7 e7;have t7:=t6.same s7;have QI:=WL.same s7;intro x dx hx MQ SR;refine⟨H7,x,dx,R7,.dI,rs,[],aa,[],(n1,pp),rfl,(ah MQ _).trans (ah (by rw [ai SR.symm];exact hx) _),hx,ae,aG.of e7,QI,a8,h8,wR,W4,.inl ⟨rfl,rfl,rfl⟩,by simp,λru h=>(by cases h),by simp,md.bd,t7,λH8 s8 gz st se=>?_⟩;have k8:=Kp.ZL s8 t7;have hl:=md.least gz st se;refine⟨λbt ms rk a1 a2 a3 a4 a5 a6 gv=>⟨rfl,?_⟩,λm2 d2 b1 b2 b3=>?_,λms m2 d2 a1 a2 a3 a4 b1 b2 b3=>?_,λms m2 d2 ts ps a1 a2 a3 a4 a5 b2 b3 b4 b5=>⟨xL,λea Cd=>?_⟩⟩
  .obtain⟨gx,fs,R2,S2,eg,g1,g2,g3,g4,_⟩:=id gv;exact⟨gx,fs,eg,g4,H7,x,bt,rs,[],aa,(n1,pp),rfl,gv,k8.aa QI,wR,_,_,rfl,k8.lst (s7 _ _ Rp),k8.aa QI,k8.lst (s7 _ _ Vs),k8.lst (s7 _ _ e6),.inl ⟨rfl,rfl,rk,a6⟩⟩
  .refine absurd (xY.mpr λh hh=>?_) b1;obtain⟨n,e,_⟩:=hl h hh;rw [e];exact cW
  .refine absurd (xY.mpr λh hh=>?_) b1;rw [cM (md.met (n1,pp) ms wR a1 a3 h hh)]
   decide
  exact⟨_,rfl,⟨_,rfl⟩,_,_,rfl,k8.lst (s7 _ _ Rp),k8.aa QI,k8.lst (s7 _ _ Vs),k8.lst (s7 _ _ e6),.inr ⟨ea,d2,m2,ts,ps,rfl,⟨Cd,b2⟩,b3,b4,b5⟩⟩
 rintro σ H9 ⟨v7,v6,rfl,Ys,WK,Vr,Yu,hv⟩;clear t6 WL Rp Vs e6 Iv Ms Rq eR rl W4 s6 s5 s4 s3 s2 s1 Xf K0 US hPf
 ac_rfl
 refine⟨_,rfl,_,rfl,_,rfl,R,N,D6,rs,aa,ns,es,rfl,aG.of Ys,WK,a8,h8,aG.of Vr,∅,aG.of Yu,OY,EJ,λvP mr=>?_⟩;refine⟨_,rfl,?_⟩;rcases hv with ⟨rfl,rfl,rk,nl⟩ | ⟨ea,dx,S9,ts,ps,rfl,xo,eS,pr,cy⟩
 .rw [By nl ns];refine rV ?_;refine⟨_,rfl,rfl,_,rfl,?_⟩;refine rV ?_;refine⟨_,rfl,_,rfl,N,_,_,_,rfl,rfl,aG.of (mr _ _ Vr),bj (j:=0) (by rw [aZ,Xs];rfl),rfl,?_⟩;rw [cM rfl];exact q _
 have ZD:=Bx cy (λx hx=>(OY x).mpr hx) ns.length;rw [show (eD aa ns ns.length).isEmpty=false by
  cases hp:eD aa ns ns.length with
  | nil=>exact absurd hp ZD
  | cons a b=>rfl]
 refine hJ ?_;have CW:Nc vP ea CL dx [("steps",.ref S9)]:=⟨mr _ _ xo.1,mr _ _ xo.2⟩;refine⟨_,rfl,.ref ea,.ref CL,.ref CL,.ref CL,true,rfl,.exc CW L.xL,λ_ z=>z,B7,true,rfl,?_⟩;refine hJ ?_;refine⟨_,rfl,.ref ea,.ref CL,.ty "ValueError",.type "ValueError",true,rfl,.exc CW L.xL,λ_ z=>z,L.lV,true,rfl,?_⟩;refine hJ ?_;refine⟨_,rfl,.ref ea,.ref CL,.ref CE,.ref CE,false,rfl,.exc CW L.xL,λ_ z=>z,L.lE,false,rfl,?_⟩;refine hJ ?_;refine⟨_,rfl,.ref ea,.ref CL,.ref CU,.ref CU,false,rfl,.exc CW L.xL,λ_ z=>z,L.lU,false,rfl,?_⟩;refine hJ ?_;exact⟨_,rfl,ea,CL,dx,_,.ref S9,rfl,CW,L.xL,L.aL,rfl,_,rfl,_,rfl,_,rfl,S9,R,N,D6,rs,ts,aa,ns,es,ps,rfl,aG.of (mr _ _ eS),Paired.eF pr λ_ _ z=>mr.tup z,aG.of (mr _ _ Ys),WK.same mr,a8,h8,aG.of (mr _ _ Vr),aG.of (mr _ _ Yu),OY,EJ,cy,λBg _=>q _⟩
end
def sg (K:Frag)(nm fld:Str)(C W f:Addr):Prop:=(nsIn K mainGlobals nm,Ga K C f Cy "ValueError.__new__",keepIn K (.ref C),(clsIn K C).map (λcd=>(cd.mro,cd.hasDict)),findIn K (.ref C) "__setattr__",takerIn K C fld,(K.lookup f).map (·.cls),exmOne K (.ref C) (.ref W),hasDictIn K C)=(some (some (.ref C)),true,true,some (.ref C::.ref W::Cy,true),some (some (.builtin "object.__setattr__")),some none,some (.type "function"),some true,true) /\
 (findIn K (.ref C) "__getattribute__",findIn K (.ref C) "__getattr__",mroIn K C (.type "BaseException"),mroIn K C (.type "object"),findIn K (.ref C) "__class__",kitCls K (.ref C) (.ref C),findIn K (.ref C) fld,findIn K (.ref C) "__init__")=(some (some (.builtin "BaseException.__getattribute__")),some none,some true,some true,some (some (.builtin "object.__class__")),some true,some none,some (some (.ref f)))
def CV (K:Frag)(W:Addr):Prop:=(specialIn K (.ref W) "__getattribute__",readsIn K W (.type "type"),findCls K (.ref W) (.type "type") "__init__",handedIn (.builtin "ValueError.__init__"),nsIn K mainGlobals "WrightError",nsIn K mainGlobals "ValueError",specialIn K (.builtin "object.__class__") "__get__",takesIn K (.builtin "object.__class__"))=(some (some (.builtin "type.__getattribute__")),true,some (.val (.builtin "ValueError.__init__")),true,some (some (.ref W)),some none,some (some (.builtin "getset_descriptor.__get__")),some true)
def RC (K:Frag)(CE CU CL:Addr):Prop:=(kitOne K (.ref CL) (.type "ValueError"),kitOne K (.ref CL) (.ref CE),kitOne K (.ref CL) (.ref CU))=(some true,some false,some false)
section
variable {K:Frag}{nm fld:Str}{C W f CE CU CL fE fU fL:Addr}{mg:Str->Option Value}{h:Heap}
def Va (a:(nsIn K mainGlobals nm,Ga K C f Cy "ValueError.__new__",keepIn K (.ref C),(clsIn K C).map (λcd=>(cd.mro,cd.hasDict)),findIn K (.ref C) "__setattr__",takerIn K C fld,(K.lookup f).map (·.cls),exmOne K (.ref C) (.ref W),hasDictIn K C)=(some (some (.ref C)),true,true,some (.ref C::.ref W::Cy,true),some (some (.builtin "object.__setattr__")),some none,some (.type "function"),some true,true))
 (b:(findIn K (.ref C) "__getattribute__",findIn K (.ref C) "__getattr__",mroIn K C (.type "BaseException"),mroIn K C (.type "object"),findIn K (.ref C) "__class__",kitCls K (.ref C) (.ref C),findIn K (.ref C) fld,findIn K (.ref C) "__init__")=(some (some (.builtin "BaseException.__getattribute__")),some none,some true,some true,some (some (.builtin "object.__class__")),some true,some none,some (some (.ref f)))):sg K nm fld C W f:=⟨a,b⟩
def eqW (a:(specialIn K (.ref W) "__getattribute__",readsIn K W (.type "type"),findCls K (.ref W) (.type "type") "__init__",handedIn (.builtin "ValueError.__init__"),nsIn K mainGlobals "WrightError",nsIn K mainGlobals "ValueError",specialIn K (.builtin "object.__class__") "__get__",takesIn K (.builtin "object.__class__"))=(some (some (.builtin "type.__getattribute__")),true,some (.val (.builtin "ValueError.__init__")),true,some (some (.ref W)),some none,some (some (.builtin "getset_descriptor.__get__")),some true)):CV K W:=a
def eqK (a:(kitOne K (.ref CL) (.type "ValueError"),kitOne K (.ref CL) (.ref CE),kitOne K (.ref CL) (.ref CU))=(some true,some false,some false)):RC K CE CU CL:=a
def sg.np (e:sg K nm fld C W f)(w:CV K W)(X:K.In h)(G:h.Ns mainGlobals mg):Nd K mg nm fld C W f:=by
 obtain⟨a,b⟩:=e;unfold CV at w;simp only [iB] at a b w;obtain⟨cd,h1,h2⟩:=cf.mp a.2.2.2.1;injection h2 with h2 h3;obtain⟨oI,o1,o2⟩:=cf.mp a.2.2.2.2.2.2.1;exact⟨a.2.1,a.2.2.1,mg_of X G a.1,mg_of X G w.2.2.2.2.1,⟨cd,h1,a.2.2.2.2.1,λself=>by rw [h2];rfl,by rw [h2];rfl,h3⟩,a.2.2.2.2.2.1,⟨w.1,⟨_,w.2.1,w.2.2.1⟩,w.2.2.2.1⟩,⟨oI,o1,o2⟩⟩
def sg.xg (e:sg K nm fld C W f)(w:CV K W):XG K C:=by
 obtain⟨a,b⟩:=e;unfold CV at w;simp only [iB] at a b w;exact⟨a.2.2.2.2.2.2.2.2,b.1,b.2.1,b.2.2.1,b.2.2.2.1,b.2.2.2.2.1,w.2.2.2.2.2.2.1,w.2.2.2.2.2.2.2,b.2.2.2.2.2.1⟩
def sg.na (e:sg K nm fld C W f):cX K C fld:=by
 obtain⟨a,b⟩:=e;simp only [iB] at b;exact b.2.2.2.2.2.2.1
def sg.xm (e:sg K nm fld C W f):exmOne K (.ref C) (.ref W)=some true:=by
 obtain⟨a,b⟩:=e;simp only [iB] at a;exact a.2.2.2.2.2.2.2.1
def sg.ns (e:sg K nm fld C W f)(X:K.In h)(G:h.Ns mainGlobals mg):mg nm=some (.ref C):=by
 obtain⟨a,b⟩:=e;simp only [iB] at a;exact mg_of X G a.1
theorem sg.at_ {g:Addr}(e:sg K nm fld C W f)(m:Meth K C "__init__" g):g=f:=by
 obtain⟨a,b⟩:=e;simp only [iB] at b;have:=m.at_.symm.trans b.2.2.2.2.2.2.2;injection this with this;injection this with this;injection this
def sg.rz {P:Program}{w:World}{base:Heap}{st:Stmt}{qual:Str}{g:Addr}{gd:FuncData}(e:sg K nm fld C W f)(ew:CV K W)(X:K.In h)(G:h.Ns mainGlobals mg)(F:gX K "__init__" qual st g gd)(m:Meth K C "__init__" g)(B:Binds K gd ["self",fld] [])
  (o:Nd K mg nm fld C W g->ba P w K mg base fc 1 g gd ["self",fld] (l_ K C fld)):Qe P w K mg base nm fld C:=by
 cases e.at_ m;have n:=e.np ew X G;exact⟨W,_,gd,n,o n,B⟩
def CV.mW (ew:CV K W)(X:K.In h)(G:h.Ns mainGlobals mg):mg "WrightError"=some (.ref W):=by
 unfold CV at ew;simp only [iB] at ew;exact mg_of X G ew.2.2.2.2.1
def lxE (eE:sg K "Endless" "names" CE W fE)(eU:sg K "Unmet" "names" CU W fU)(eL:sg K "Loop" "steps" CL W fL)(ew:CV K W)(ek:RC K CE CU CL)(X:K.In h)(G:h.Ns mainGlobals mg):YV K mg CE CU CL:=by
 have U7:=ew;unfold CV at U7;unfold RC at ek;simp only [iB] at U7 ek;exact⟨eE.ns X G,eU.ns X G,eL.ns X G,mg_none_of X G U7.2.2.2.2.2.1,eL.xg ew,ek.1,ek.2.1,ek.2.2,eL.na⟩
end
end eX
namespace L2
open PySem
def ye {C:List Value->Prop}(h:∀a,C [a]):∀us:List Value,us.length=1->C us
 | [a],_=>h a
def FC {C:List Value->Prop}(h:∀a b,C [a,b]):∀us:List Value,us.length=2->C us
 | [a,b],_=>h a b
def Mm {C:List Value->Prop}(h:∀a b c,C [a,b,c]):∀us:List Value,us.length=3->C us
 | [a,b,c],_=>h a b c
def RR {C:List Value->Prop}(h:∀a b c d,C [a,b,c,d]):∀us:List Value,us.length=4->C us
 | [a,b,c,d],_=>h a b c d
def Y7 {C:List Value->Prop}(h:∀a b c d e,C [a,b,c,d,e]):∀us:List Value,us.length=5->C us
 | [a,b,c,d,e],_=>h a b c d e
def e_ (K:aV)(x:Str)(st:Stmt):Prop:=∃(g:Addr)(oc:Value)(od an:Option Addr)(sl:Array (Option Value))(kV dc pm cd ct:Value),PySem.W.nsIn K mainGlobals x=some (some (.ref g)) /\
 K.lookup g=some ⟨oc,od,.func (PySem.W.fnOf x x (cY st) (bT st) (av st) .none kV dc pm an cd ct),sl⟩/\PySem.W.codeIn K cd x=true/\PySem.W.keepIn K (.ref g)=true
def e_.get {K:aV}{h:Heap}{mg:Str->Option Value}{x:Str}{st:Stmt}(X:K.In h)(G:h.Ns mainGlobals mg)(H:e_ K x st):∃g gd,gX K x x st g gd/\mg x=some (.ref g):=by
 obtain⟨g,oc,od,an,sl,kV,dc,pm,cd,ct,a,l,c,k⟩:=H;exact⟨g,_,EU (st:=st) l c k,nI X G a⟩
def CH (K:aV)(x:Str)(st:Stmt)(T:Addr):Prop:=∃(g:Addr)(oc:Value)(od an:Option Addr)(sl:Array (Option Value))(kV dc pm:Value)(c:Addr)(ct:Value),PySem.W.nsIn K mainGlobals x=some (some (.ref g)) /\
 K.lookup g=some ⟨oc,od,.func (PySem.W.fnOf x x (cY st) (bT st) (av st) .none kV dc pm an (.ref c) ct),sl⟩/\PySem.W.codeIn K (.ref c) x=true/\PySem.W.codeHdIn K c T=true/\PySem.W.keepIn K (.ref g)=true
def CH.get {K:aV}{h:Heap}{mg:Str->Option Value}{x:Str}{st:Stmt}{T:Addr}(X:K.In h)(G:h.Ns mainGlobals mg)(H:CH K x st T):∃g gd,xH K x x st g gd T/\mg x=some (.ref g):=by
 obtain⟨g,oc,od,an,sl,kV,dc,pm,c,ct,a,l,d,e,k⟩:=H;exact⟨g,_,⟨⟨oc,od,kV,dc,pm,an,c,ct,sl,rfl,l,d,e⟩,k⟩,nI X G a⟩
def xH.binds {K:aV}{x qual:Str}{st:Stmt}{f T:Addr}{fd:FuncData}{ps:List Str}(F:xH K x qual st f fd T)
  (h:∀(kV doc pm:Value)(an:Option Addr)(dw ct:Value)(us:List Value),us.length=ps.length->bindArgs (PySem.W.fnOf x qual (cY st) (bT st) (av st) .none kV doc pm an dw ct) ⟨us,[]⟩=pure (ps.zip us)):Binds K fd ps []:=by
 obtain⟨oc,od,kV,doc,pm,an,c,ct,u9,rfl,lk,qR,_⟩:=F.ex;exact .all (h kV doc pm an (.ref c) ct)
def rF (K:aV)(C:Addr)(m qual:Str)(st:Stmt):Prop:=∃(g:Addr)(oc:Value)(od an:Option Addr)(sl:Array (Option Value))(kV dc pm cd ct:Value),PySem.W.findIn K (.ref C) m=some (some (.ref g)) /\
 K.lookup g=some ⟨oc,od,.func (PySem.W.fnOf m qual (cY st) (bT st) (av st) .none kV dc pm an cd ct),sl⟩/\PySem.W.codeIn K cd qual=true/\PySem.W.keepIn K (.ref g)=true/\PySem.W.isFn K (.ref g)=true
def rF.get {K:aV}{C:Addr}{m qual:Str}{st:Stmt}(H:rF K C m qual st):∃g gd,gX K m qual st g gd/\Meth K C m g:=by
 obtain⟨g,oc,od,an,sl,kV,dc,pm,cd,ct,a,l,c,k,i⟩:=H;exact⟨g,_,EU (st:=st) l c k,⟨a,i,k⟩⟩
def e_.c {K:aV}{h:Heap}{mg:Str->Option Value}{x:Str}{st:Stmt}{P:Program}{w:World}{base:Heap}{k:Nat}{ps:List Str}{sp:Sp}(H:e_ K x st)(X:K.In h)(G:h.Ns mainGlobals mg)
  (b:∀(kV doc pm:Value)(an:Option Addr)(dw ct:Value)(us:List Value),us.length=ps.length->bindArgs (PySem.W.fnOf x x (cY st) (bT st) (av st) .none kV doc pm an dw ct) ⟨us,[]⟩=pure (ps.zip us))
  (o:∀{f:Addr}{fd:FuncData},gX K x x st f fd->mg x=some (.ref f)->Binds K fd ps []->ba P w K mg base fc k f fd ps sp):aK P w K mg base k x ps sp:=by
 obtain⟨f,fd,F,m⟩:=H.get X G;have B:=F.binds b;exact⟨f,fd,o F m B,B,F.kp,m⟩
def hD {K:aV}{x:Str}{st:Stmt}(g c:Addr)(pm:Value)(h:(PySem.W.nsIn K mainGlobals x,K.lookup g,PySem.W.codeIn K (.ref c) x,PySem.W.keepIn K (.ref g))=(some (some (.ref g)),some ⟨.type "function",none,.func (PySem.W.fnOf x x (cY st) (bT st) (av st) .none .none .none pm none (.ref c) .none),#[]⟩,true,true)):e_ K x st:=by
 simp only [iB] at h;exact⟨g,_,_,_,_,_,_,_,_,_,h.1,h.2.1,h.2.2.1,h.2.2.2⟩
def hC {K:aV}{x:Str}{st:Stmt}{T:Addr}(g c:Addr)(pm:Value)(h:(PySem.W.nsIn K mainGlobals x,K.lookup g,PySem.W.codeIn K (.ref c) x,PySem.W.codeHdIn K c T,PySem.W.keepIn K (.ref g))=(some (some (.ref g)),some ⟨.type "function",none,.func (PySem.W.fnOf x x (cY st) (bT st) (av st) .none .none .none pm none (.ref c) .none),#[]⟩,true,true,true)):CH K x st T:=by
 simp only [iB] at h;exact⟨g,_,_,_,_,_,_,_,c,_,h.1,h.2.1,h.2.2.1,h.2.2.2.1,h.2.2.2.2⟩
def hM {K:aV}{C:Addr}{m qual:Str}{st:Stmt}(g c:Addr)(pm:Value)(h:(PySem.W.findIn K (.ref C) m,K.lookup g,PySem.W.codeIn K (.ref c) qual,PySem.W.keepIn K (.ref g),PySem.W.isFn K (.ref g))=(some (some (.ref g)),some ⟨.type "function",none,.func (PySem.W.fnOf m qual (cY st) (bT st) (av st) .none .none .none pm none (.ref c) .none),#[]⟩,true,true,true)):rF K C m qual st:=by
 simp only [iB] at h;exact⟨g,_,_,_,_,_,_,_,_,_,h.1,h.2.1,h.2.2.1,h.2.2.2.1,h.2.2.2.2⟩
end L2
namespace eX
open PySem L2 M11
def Mf (K:aV)(C:Addr)(m qual:Str)(st:Stmt):Prop:=∃(g:Addr)(oc:Value)(od an:Option Addr)(sl:Array (Option Value))(kV dc pm cd ct:Value)(T:Addr)(o:Obj) (n:Nat),PySem.W.findIn K (.ref C) m=some (some (.ref g)) /\
 K.lookup g=some ⟨oc,od,.func (PySem.W.fnOf m qual (cY st) (bT st) (av st) (.ref T) kV dc pm an cd ct),sl⟩/\PySem.W.codeIn K cd qual=true/\K.lookup T=some o/\o.data=.seq #[.none] n/\PySem.W.keepIn K (.ref g)=true/\PySem.W.isFn K (.ref g)=true
def Mf.get {K:aV}{C:Addr}{m qual:Str}{st:Stmt}(H:Mf K C m qual st):∃g gd,zY K m qual st g gd/\PySem.W.findIn K (.ref C) m=some (some (.ref g))/\PySem.W.isFn K (.ref g)=true:=by
 obtain⟨g,oc,od,an,sl,kV,dc,pm,cd,ct,T,o,n,a,l,c,t,d,k,i⟩:=H;exact⟨g,_,⟨⟨oc,od,kV,dc,pm,an,cd,ct,sl,T,o,n,rfl,l,c,t,d⟩,k⟩,a,i⟩
structure Top (K:aV)(C Cg C3 T1 T2 T3 CE CU CL W fE fU fL:Addr)(tm:Tok):Prop where
 xE:sg K "Endless" "names" CE W fE
 xU:sg K "Unmet" "names" CU W fU
 xL:sg K "Loop" "steps" CL W fL
 xW:CV K W
 xK:RC K CE CU CL
 mXE:rF K CE "__init__" "Endless.__init__" qp
 mXU:rF K CU "__init__" "Unmet.__init__" yq
 mXL:rF K CL "__init__" "Loop.__init__" yy
 nB:PySem.W.nsIn K mainGlobals "BeginTable"=some (some (.ref C))
 nG:PySem.W.nsIn K mainGlobals "Grammar"=some (some (.ref Cg))
 nL:PySem.W.nsIn K mainGlobals "LeastTrees"=some (some (.ref C3))
 nM:PySem.W.nsIn K mainGlobals "MOST_RULES"=some (some (.int 60 tm))
 F_:PySem.W.nsIn K mainGlobals "sorted"=some none
 h0:e_ K "heads_of" yB
 h1:e_ K "numbers_by_name" Dq
 h2:e_ K "standings_by_part" JS
 h3:e_ K "rule_size" n5
 h4:e_ K "empty_by_name" qr
 h5:e_ K "words_in" yo
 h6:e_ K "found_empties" qt
 h7:e_ K "first_places" uV
 h8:e_ K "way_back" JR
 h9:e_ K "steps_with_like_rows" yt
 h10:e_ K "find_loop" Dr
 h11:e_ K "refuse_twice" yr
 h12:e_ K "names_met" JT
 h13:e_ K "_law_cell_at" Du
 h14:e_ K "_law_stream" uT
 UZ:e_ K "_law_pool" Dp
 h16:e_ K "_law_whole" yp
 h17:e_ K "_law_digits" JW
 h18:e_ K "_law_first" yC
 h19:e_ K "_law_rule" Dn
 h20:e_ K "_law_rules" yw
 h21:e_ K "_law_empty" u0
 h22:e_ K "_law_is_way" yA
 h23:e_ K "_law_loops" uW
 h24:e_ K "_law_is_loop" uX
 Us:e_ K "law" JU
 T9:e_ K "settled_sizes" ml
 Ue:e_ K "refuse_faults" uU
 hL:CH K "least_sizes" qo T1
 hG:CH K "greatest_empty_sizes" uY T2
 hLB:CH K "least_by_part" mq T3
 mL1:rF K C3 "__init__" "LeastTrees.__init__" yz
 mB1:rF K C "__init__" "BeginTable.__init__" yE
 mB2:rF K C "find_begins" "BeginTable.find_begins" Dt
 mB3:rF K C "words_of_part" "BeginTable.words_of_part" yx
 mG1:Mf K Cg "__init__" "Grammar.__init__" uZ
 mG2:rF K Cg "start" "Grammar.start" yu
 ZG:PySem.W.plainGet K C Str.empty=true
 hdB:PySem.W.hasDictIn K C=true
 ZC:PySem.W.plainOver K C=true
 Zs:PySem.W.findIn K (.ref C) "__setattr__"=some (some (.builtin "object.__setattr__"))
 Z_:PySem.W.makesIn K C=true
 kpB:PySem.W.keepIn K (.ref C)=true
 ZF:PySem.W.plainGet K Cg Str.empty=true
 hdG:PySem.W.hasDictIn K Cg=true
 ZA:PySem.W.plainOver K Cg=true
 Zr:PySem.W.findIn K (.ref Cg) "__setattr__"=some (some (.builtin "object.__setattr__"))
 Z9:PySem.W.makesIn K Cg=true
 kpG:PySem.W.keepIn K (.ref Cg)=true
 ZE:PySem.W.plainGet K C3 Str.empty=true
 hdL:PySem.W.hasDictIn K C3=true
 Zz:PySem.W.plainOver K C3=true
 Zq:PySem.W.findIn K (.ref C3) "__setattr__"=some (some (.builtin "object.__setattr__"))
 Z8:PySem.W.makesIn K C3=true
 kpL:PySem.W.keepIn K (.ref C3)=true
 zS:PySem.W.findIn K (.ref C) "empties"=some none
 Fs:PySem.W.findIn K (.ref C) "empty"=some none
 CC:PySem.W.findIn K (.ref C) "begins"=some none
 CB:PySem.W.findIn K (.ref C) "firsts"=some none
 Fn:PySem.W.findIn K (.ref C3) "rules"=some none
 Fp:PySem.W.findIn K (.ref C3) "empty"=some none
 Fo:PySem.W.findIn K (.ref C3) "least"=some none
 CA:PySem.W.findIn K (.ref C3) "hollow"=some none
 r9:PySem.W.findIn K (.ref C3) "beginnings"=some none
 Fq:PySem.W.findIn K (.ref Cg) "rules"=some none
 vH:PySem.W.findIn K (.ref Cg) "strengths"=some none
 rB:PySem.W.findIn K (.ref Cg) "begin_table"=some none
 vI:PySem.W.findIn K (.ref Cg) "standings"=some none
 rA:PySem.W.findIn K (.ref Cg) "small_trees"=some none
 RI:PySem.W.nsIn K mainGlobals "len"=some none
 Jq:PySem.W.nsIn K mainGlobals "range"=some none
 vR:PySem.W.nsIn K mainGlobals "isinstance"=some none
 Jo:PySem.W.nsIn K mainGlobals "tuple"=some none
 Nk:PySem.W.nsIn K mainGlobals "list"=some none
 Nl:PySem.W.nsIn K mainGlobals "dict"=some none
 RM:PySem.W.nsIn K mainGlobals "all"=some none
 RK:PySem.W.nsIn K mainGlobals "any"=some none
 RF:PySem.W.nsIn K mainGlobals "str"=some none
 RJ:PySem.W.nsIn K mainGlobals "int"=some none
 Nm:PySem.W.nsIn K mainGlobals "bool"=some none
 yd:PySem.W.nsIn K mainGlobals "enumerate"=some none
 RD:PySem.W.nsIn K mainGlobals "sum"=some none
 RH:PySem.W.nsIn K mainGlobals "max"=some none
 RG:PySem.W.nsIn K mainGlobals "min"=some none
def all_mk {l:PySem.W.OpenLaw}{w:World}{K:aV}{h:Heap}{mg:Str->Option Value}{fa C Cg C3 T1 T2 T3 CE CU CL W fE fU fL:Addr}{tm:Tok}(X:K.In h)(G:h.Ns mainGlobals mg)(hfa:mg "law"=some (.ref fa))(tp:Top K C Cg C3 T1 T2 T3 CE CU CL W fE fU fL tm) :
  ∃fd:FuncData,(∀(s:Shared)(v:Value),BindsTo s fd ⟨[v],[]⟩ [("_law_script",v)])/\∀base:Heap,K.In base->base.Ns mainGlobals mg->rJ mg base->ba l.prog w K mg base fc 9 fa fd ["_law_script"] (Ao K T1 T2 T3):=by
 have T:Txt mg:=⟨gN X G tp.RI,gN X G tp.Jq,gN X G tp.vR,gN X G tp.Jo,gN X G tp.Nk,gN X G tp.Nl,gN X G tp.RM,gN X G tp.RK,gN X G tp.RF,gN X G tp.RJ,gN X G tp.Nm,gN X G tp.yd,gN X G tp.RD,gN X G tp.RH,gN X G tp.RG⟩;obtain⟨IZ,I_,xI,IE⟩:=tp.T9.get X G;have Je:=xI.binds (ps:=["rules","sizes","better"]) λ_ _ _ _ _ _=>by exact Mm λ_ _ _=>rfl
 obtain⟨Pt,PQ,FA,Oj⟩:=tp.Ue.get X G;have P2:=FA.binds (ps:=["rules","strengths"]) λ_ _ _ _ _ _=>by exact FC λ_ _=>rfl
 obtain⟨f_L,d_L,Wh,m_L⟩:=tp.hL.get X G;have b_L:=Wh.binds (ps:=["rules"]) λ_ _ _ _ _ _=>by exact ye λ_=>rfl
 obtain⟨f_G,d_G,Wi,m_G⟩:=tp.hG.get X G;have b_G:=Wi.binds (ps:=["rules"]) λ_ _ _ _ _ _=>by exact ye λ_=>rfl
 obtain⟨U3,Vy,Mj,Tg⟩:=tp.hLB.get X G;have VR:=Mj.binds (ps:=["rules"]) λ_ _ _ _ _ _=>by exact ye λ_=>rfl
 obtain⟨aan,aau,Mi,Tf⟩:=tp.mXE.get;have VQ:=Mi.binds (ps:=["self","names"]) λ_ _ _ _ _ _ us hl=>match us,hl with | [_,_],_=>rfl
 obtain⟨aal,aas,Mg,Td⟩:=tp.mXU.get;have VO:=Mg.binds (ps:=["self","names"]) λ_ _ _ _ _ _ us hl=>match us,hl with | [_,_],_=>rfl
 obtain⟨aam,aat,Mh,Te⟩:=tp.mXL.get;have VP:=Mh.binds (ps:=["self","steps"]) λ_ _ _ _ _ _ us hl=>match us,hl with | [_,_],_=>rfl
 obtain⟨U6,aaA,Qw,Om⟩:=tp.mB1.get;have VX:=Qw.binds (ps:=["self","rules"]) λ_ _ _ _ _ _=>by exact FC λ_ _=>rfl
 obtain⟨aaq,aaz,Qv,Tn⟩:=tp.mB2.get;have VW:=Qv.binds (ps:=["self","number","rule"]) λ_ _ _ _ _ _=>by exact Mm λ_ _ _=>rfl
 obtain⟨aap,aay,Qu,Tj⟩:=tp.mB3.get;have VU:=Qu.binds (ps:=["self","part"]) λ_ _ _ _ _ _=>by exact FC λ_ _=>rfl
 obtain⟨U4,aav,Qr,Ol⟩:=tp.mL1.get;have VS:=Qr.binds (ps:=["self","rules","begin_table"]) λ_ _ _ _ _ _=>by exact Mm λ_ _ _=>rfl
 obtain⟨aao,aaw,Qs,Th⟩:=tp.mG2.get;have VT:=Qs.binds (ps:=["self"]) λ_ _ _ _ _ _=>by exact ye λ_=>rfl
 obtain⟨U5,aax,Qt,Ti,TM⟩:=tp.mG1.get;have cB:BC K C:=⟨⟨tp.ZG,tp.hdB,tp.ZC,tp.Zs⟩,tp.zS,tp.Fs,tp.CC,tp.CB⟩;have cG:GC K Cg:=⟨⟨tp.ZF,tp.hdG,tp.ZA,tp.Zr⟩,tp.Fq,tp.vH,tp.rB,tp.vI,tp.rA⟩;have cL:LC K C3:=⟨⟨tp.ZE,tp.hdL,tp.Zz,tp.Zq⟩,tp.Fn,tp.Fp,tp.Fo,tp.CA,tp.r9⟩;have kL:Mk K C3 U4:=⟨tp.Z8,Ol.at_,Ol.fn,tp.kpL⟩;have kB:Mk K C U6:=⟨tp.Z_,Om.at_,Om.fn,tp.kpB⟩;have kG:Mk K Cg U5:=⟨tp.Z9,Ti,TM,tp.kpG⟩;obtain⟨f9,d9,F9,m9⟩:=tp.Us.get X G;have e:=hfa.symm.trans m9;cases e;obtain⟨oc,od,kV,doc,pm,an,dw,ct,u9,eL,lk,qR⟩:=F9.ex;refine⟨d9,λs v=>?_,λbase _ _ Pn=>?_⟩
 .rw [eL];exact .of_eq rfl
 have c0:=tp.h0.c (P:=l.prog) (w:=w) (base:=base) X G (λ_ _ _ _ _ _=>by exact ye λ_=>rfl) λF m B=>Ef F T;have c1:=tp.h1.c (P:=l.prog) (w:=w) (base:=base) X G (λ_ _ _ _ _ _=>by exact ye λ_=>rfl) λF m B=>G6 F T c0;have c2:=tp.h2.c (P:=l.prog) (w:=w) (base:=base) X G (λ_ _ _ _ _ _=>by exact ye λ_=>rfl) λF m B=>Ku F T;have c3:=tp.h3.c (P:=l.prog) (w:=w) (base:=base) X G (λ_ _ _ _ _ _=>by exact FC λ_ _=>rfl) λF m B=>wB F T;have c4:=tp.h4.c (P:=l.prog) (w:=w) (base:=base) X G (λ_ _ _ _ _ _=>by exact FC λ_ _=>rfl) λF m B=>yY F T;have c5:=tp.h5.c (P:=l.prog) (w:=w) (base:=base) X G (λ_ _ _ _ _ _=>by exact ye λ_=>rfl) λF m B=>DU F T;have c6:=tp.h6.c (P:=l.prog) (w:=w) (base:=base) X G (λ_ _ _ _ _ _=>by exact ye λ_=>rfl) λF m B=>yZ F T;have c7:=tp.h7.c (P:=l.prog) (w:=w) (base:=base) X G (λ_ _ _ _ _ _=>by exact FC λ_ _=>rfl) λF m B=>BJ F T;have c8:=tp.h8.c (P:=l.prog) (w:=w) (base:=base) X G (λ_ _ _ _ _ _=>by exact Mm λ_ _ _=>rfl) λF m B=>G3 F T;have c9:=tp.h9.c (P:=l.prog) (w:=w) (base:=base) X G (λ_ _ _ _ _ _=>by exact ye λ_=>rfl) λF m B=>DY F T c6 c0;have c10:=tp.h10.c (P:=l.prog) (w:=w) (base:=base) X G (λ_ _ _ _ _ _=>by exact ye λ_=>rfl) λF m B=>Eb F T c9 c8;have c11:=tp.h11.c (P:=l.prog) (w:=w) (base:=base) X G (λ_ _ _ _ _ _=>by exact ye λ_=>rfl) λF m B=>DW F T;have c12:=tp.h12.c (P:=l.prog) (w:=w) (base:=base) X G (λ_ _ _ _ _ _=>by exact ye λ_=>rfl) λF m B=>Kv F T;have Jc:=tp.h13.c (P:=l.prog) (w:=w) (base:=base) X G (λ_ _ _ _ _ _=>by exact FC λ_ _=>rfl) λF m B=>G8 F T;have VI:=tp.h14.c (P:=l.prog) (w:=w) (base:=base) X G (λ_ _ _ _ _ _=>by exact FC λ_ _=>rfl) λF m B=>BH F T;have VH:=tp.UZ.c (P:=l.prog) (w:=w) (base:=base) X G (λ_ _ _ _ _ _=>by exact FC λ_ _=>rfl) λF m B=>G5 F T (VI.mono nofun);have c16:=tp.h16.c (P:=l.prog) (w:=w) (base:=base) X G (λ_ _ _ _ _ _=>by exact ye λ_=>rfl) λF m B=>DV F T;have c17:=tp.h17.c (P:=l.prog) (w:=w) (base:=base) X G (λ_ _ _ _ _ _=>by exact ye λ_=>rfl) λF m B=>Kx F T (VI.mono nofun);have c18:=tp.h18.c (P:=l.prog) (w:=w) (base:=base) X G (λ_ _ _ _ _ _=>by exact RR λ_ _ _ _=>rfl) λF m B=>Eh F T;have c19:=tp.h19.c (P:=l.prog) (w:=w) (base:=base) X G (λ_ _ _ _ _ _=>by exact Mm λ_ _ _=>rfl) λF m B=>G4 F T;have c20:=tp.h20.c (P:=l.prog) (w:=w) (base:=base) X G (λ_ _ _ _ _ _=>by exact RR λ_ _ _ _=>rfl) λF m B=>D0 F T (VI.mono nofun) (c18.mono nofun) (c19.mono nofun) (c17.mono nofun);have c21:=tp.h21.c (P:=l.prog) (w:=w) (base:=base) X G (λ_ _ _ _ _ _=>by exact FC λ_ _=>rfl) λF m B=>BO F T;have YD:=tp.h22.c (P:=l.prog) (w:=w) (base:=base) X G (λ_ _ _ _ _ _=>by exact Y7 λ_ _ _ _ _=>rfl) λF m B=>Ee F T;have c23:=tp.h23.c (P:=l.prog) (w:=w) (base:=base) X G (λ_ _ _ _ _ _=>by exact Mm λ_ _ _=>rfl) λF m B=>BK F T (YD.mono nofun);have c24:=tp.h24.c (P:=l.prog) (w:=w) (base:=base) X G (λ_ _ _ _ _ _=>by exact RR λ_ _ _ _=>rfl) λF m B=>BM F T (c16.mono nofun) (YD.mono nofun);have VE:aK l.prog w K mg base 2 "settled_sizes" ["rules","sizes","better"] (g7 K xQ qH.1 qH.2.1 qH.2.2.1 M11.bl):=⟨IZ,I_,yT xI T,Je,xI.kp,IE⟩;have VF:aK l.prog w K mg base 2 "settled_sizes" ["rules","sizes","better"] (g7 K IF zk.1 zk.2.1 zk.2.2.1 M11.bg):=⟨IZ,I_,yU xI T,Je,xI.kp,IE⟩;have YC:aK l.prog w K mg base 3 "least_sizes" ["rules"] (pG K T1):=⟨f_L,d_L,Ed Wh T Pn c5 VE,b_L,Wh.kp,m_L⟩;have c_G:aK l.prog w K mg base 3 "greatest_empty_sizes" ["rules"] (uL K T2):=⟨f_G,d_G,Eg Wi Pn VF,b_G,Wi.kp,m_G⟩;have PX:oA l.prog w K mg base 4 "refuse_faults" ["rules","strengths"] (nX K T1 T2 CE CU CL):=⟨Pt,PQ,yV FA T (nI X G tp.nM) (tp.xE.rz tp.xW X G Mi Tf VQ (yX Mi T)) (tp.xU.rz tp.xW X G Mg Td VO (BG Mg T)) (tp.xL.rz tp.xW X G Mh Te VP (Ea Mh T)) c11 YC c0 c12 c10 c_G,P2,FA.kp,Oj⟩;have VG:aK l.prog w K mg base 4 "least_by_part" ["rules"] (nY K T1 T3):=⟨U3,Vy,yW Mj T Pn (gN X G tp.F_) (c0.mono nofun) YC (c1.mono nofun) (c3.mono nofun),VR,Mj.kp,Tg⟩;have SA:=D_ (P:=l.prog) (w:=w) (base:=base) Qu T cB;have SD:=G7 Qv T cB c7 SA Tj VU;have SE:=Ei Qw T cB c6 c0 SD Tn VW;have Sx:=Ec Qr T cB cL VG (c4.mono nofun);have Sz:=BN Qt T cG (PX.mono nofun) (c2.mono nofun) (SE.mono nofun) kB VX (nI X G tp.nB) Sx kL VS (nI X G tp.nL);have Sy:=DZ (P:=l.prog) (w:=w) (mg:=mg) (base:=base) Qs cG;exact Kw F9 T (lxE tp.xE tp.xU tp.xL tp.xW tp.xK X G) (Jc.mono nofun) (VH.mono nofun) (c20.mono nofun) (c21.mono nofun) (c23.mono nofun) (c24.mono nofun) cG kG (Sz.mono nofun) (EM Qt) (nI X G tp.nG) Th (Sy.mono nofun) VT (tp.xW.mW X G) tp.xL.xm
def walk {l:PySem.W.OpenLaw}{q:Program}{loose:List Str}{XP:(Str->Option Value)->Heap->Prop}{YP:World->Heap->Prop}{d:DefRec}{K:Params->aV}(T1 T2 T3 c1 c2 c3:Addr)(IC:T1≠T2)(IB:T1≠T3)(IA:T2≠T3)(hn:l.most=some 63)(Li:d.params.defaults=[])
  (hY:∀(w:World)(h:Heap),YP w h->(K w.params).In h/\∀T∈[T3,T2,T1],h.get? T=some (PySem.W.tabObj #[]))
  (hK1:∀w:World,(K w.params).lookup T1=none)(hK2:∀w:World,(K w.params).lookup T2=none)(hK3:∀w:World,(K w.params).lookup T3=none)(hC1:∀w:World,PySem.W.codeHdIn (K w.params) c1 T1=true)(hC2:∀w:World,PySem.W.codeHdIn (K w.params) c2 T2=true)(hC3:∀w:World,PySem.W.codeHdIn (K w.params) c3 T3=true)
  (F:∀(w:World)(mg:Str->Option Value)(fa:Addr)(h:Heap),(K w.params).In h->h.Ns mainGlobals mg->mg d.name=some (.ref fa) ->
   ∃fd:FuncData,(∀(s:Shared)(u:Value),BindsTo s fd ⟨[u],[]⟩ [("_law_script",u)])/\∀base:Heap,(K w.params).In base->base.Ns mainGlobals mg->rJ mg base->ba l.prog w (K w.params) mg base fc 9 fa fd ["_law_script"] (Ao (K w.params) T1 T2 T3)) :
  PySem.W.WalkO q loose XP YP l.row.toRowW d [] (λf vs=>PySem.call f vs) :=
 L2.CZ (n:=63) (k:=9) (x := "_law_script") (CX:=λ_=>fc) (sp:=λw=>Ao (K w.params) T1 T2 T3) hn nofun Li ⟨rfl,nofun,nofun,rfl⟩ hY (λw T hT=>by
  rcases bN.mp hT with e | hT
  .subst e;exact⟨hK3 w,c3,hC3 w⟩
  rcases bN.mp hT with e | hT
  .subst e;exact⟨hK2 w,c2,hC2 w⟩
  rw [bE.mp hT];exact⟨hK1 w,c1,hC1 w⟩) F (λ_ H a ns hl _ hT hS=>⟨a,ns,rfl,hS,hl,⟨⟨#[],hT T1 (by simp),by trivial,.inl rfl⟩,⟨#[],hT T2 (by simp),by trivial,.inl rfl⟩,⟨#[],hT T3 (by simp),by trivial,.inl rfl⟩,IC,IB,IA⟩,λ_=>rfl⟩) λ_ _ _ _ _ z=>z
end eX
set_option maxHeartbeats 0
end
namespace HD
open PySem PySem.W L2
def RT (P:Params):eX.Top (K P) 105 367 338 248 253 282 170 189 208 119 167 186 205 534:=⟨eX.Va (nofun) (nofun),
 eX.Va (nofun) (nofun),
 eX.Va (nofun) (nofun),
 eX.eqW (nofun),
 eX.eqK (nofun),
 hM 167 166 HD.m3 (nofun),
 hM 186 185 HD.m3 (nofun),
 hM 205 204 HD.m3 (nofun),nofun,nofun,nofun,nofun,nofun,
 hD 26 25 HD.m1 (nofun),
 hD 36 35 HD.m1 (nofun),
 hD 43 42 HD.m1 (nofun),
 hD 290 289 HD.m7 (nofun),
 hD 295 294 HD.m7 (nofun),
 hD 31 30 HD.m1 (nofun),
 hD 48 47 HD.m2 (nofun),
 hD 55 54 HD.m2 (nofun),
 hD 246 245 HD.m4 (nofun),
 hD 239 238 HD.m4 (nofun),
 hD 234 233 HD.m4 (nofun),
 hD 275 274 HD.m6 (nofun),
 hD 280 279 HD.m6 (nofun),
 hD 378 377 HD.m9 (nofun),
 hD 392 391 HD.m9 (nofun),
 hD 397 396 HD.m9 (nofun),
 hD 385 384 HD.m9 (nofun),
 hD 402 401 HD.m9 (nofun),
 hD 407 406 HD.m9 (nofun),
 hD 412 411 HD.m9 (nofun),
 hD 417 416 HD.m9 (nofun),
 hD 422 421 HD.m9 (nofun),
 hD 427 426 HD.m9 (nofun),
 hD 432 431 HD.m9 (nofun),
 hD 439 438 HD.m9 (nofun),
 hD 446 445 HD.m9 (nofun),
 hD 263 262 HD.m5 (nofun),
 hD 268 267 HD.m6 (nofun),
 hC 251 250 HD.m5 (nofun),
 hC 258 257 HD.m5 (nofun),
 hC 285 284 HD.m7 (nofun),
 hM 307 306 HD.m7 (nofun),
 hM 67 66 HD.m2 (nofun),
 hM 74 73 HD.m2 (nofun),
 hM 81 80 HD.m2 (nofun),
 ⟨357,.type "function",none,none,#[],.none,.none,.str "wright.grammars" 645,.ref 356,.none,350,⟨.type "tuple",none,.seq #[.none] 0,#[]⟩,0,nofun,nofun,nofun,nofun,rfl,nofun,nofun⟩,
 hM 364 363 HD.m8 (nofun),nofun,nofun,nofun,nofun,nofun,nofun,nofun,nofun,nofun,nofun,nofun,nofun,nofun,nofun,nofun,nofun,nofun,nofun,nofun,nofun,nofun,nofun,nofun,nofun,nofun,nofun,nofun,nofun,nofun,nofun,nofun,nofun,nofun,nofun,nofun,nofun,nofun,nofun,nofun,nofun,nofun,nofun,nofun,nofun,nofun,nofun,nofun⟩
end HD
theorem PySem.Challenge.cw_wright_k13_loops_holds : PySem.Challenge.rw_wright_k13_loops.Holds := by
 refine HD.hold ?_ ?hw
 case hw=>w_witness2
 refine eX.walk (l:=PySem.Challenge.rw_wright_k13_loops) (K:=HD.K) 248 253 282 250 257 284 nofun nofun nofun rfl HD.ZI (λw h Y=>⟨PySem.W.km_in_of Y,PySem.W.km_tabs_of Y⟩) (λw=>by kernel_rfl) (λw=>by kernel_rfl) (λw=>by kernel_rfl) (λw=>by kernel_rfl) (λw=>by kernel_rfl) (λw=>by kernel_rfl) ?F;intro w mg fa h KX G Lb;exact eX.all_mk KX G Lb (HD.RT w.params)
