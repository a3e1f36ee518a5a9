import PyProof.Rows.All
import Wide.All
import OpenK.AllK
import Wide.FinOn
import Lean
import PyProof.EqAt
import PyProof.EqKinds
import PyProof.TupleCall
import KE.KNestM
import PyProof.IsiH_list
import PyProof.RaisesAny
import KE.KDictOf
import PyProof.CollectWalk
import PyProof.CompFree
import KE.KDictList
import PyProof.NeKinds
import PyProof.ConsumeWalk
import PyProof.StrBlockI
import PyProof.EnumFor
import PyProof.TupleIter
import PyProof.EnumMake
import KE.KLam
import PyProof.DictUpdate
import PyProof.SeqI3
import PyProof.DictWalks
import PyProof.ConsumeS
import PyProof.Rows.CallKwBuiltin
import KE.KTryMore
import PyProof.InstStoreFacts
import PyProof.ExcInit
import PyProof.ExcClass3
import PyProof.ExcBaseAll.ValueError
import PyProof.FString
import PyProof.RulesAs
import PyProof.RulesDel
import PyProof.ExcAttrAll.ValueError
import PyProof.ReprRoads
import PyProof.StrLawsRepr
import KE.KDictLaws
import PyProof.AutoListH
import PyProof.ZipIter
import PyProof.ListNew
import KE.KRevSl
import PyProof.StrOps
import PyProof.StrOps2
import KE.KSortKey
import PyProof.WalkInts
import PyProof.Conv_int_bool
import PySem.Challenge.RW_wright_k12_endless_and_unmet
set_option Elab.async false
set_option linter.all false
set_option maxRecDepth 100000
local macro_rules | `(tactic| omega) => `(tactic| first | lia | omega (config := {}))
local macro_rules | `(∅) => `(by omega)
local macro_rules | `(nofun) => `(by first | decide +kernel | kernel_rfl)
def bM:=@Or.inl
abbrev aT:=PySem.W.Frag
def pL:0<=PySem.sizeLine:=by decide
def Ip:1<=PySem.sizeLine:=by decide
def ou:2<=PySem.sizeLine:=by decide
def W_:4<=PySem.sizeLine:=by decide
def az.{u,v}:=@List.length_map.{u,v}
def ba.{u}:=@List.getElem?_eq_some_iff.{u}
def bj:=@PySem.Heap.get?_push_of_some
def ax:=@PySem.wpAny_bind
def bR.{u,v}:=@Option.map_eq_some_iff.{u,v}
def bh.{u,v}:=@List.getElem?_map.{u,v}
def br.{u,v}:=@List.map_append.{u,v}
def cm.{u}:=@List.mem_singleton.{u}
def cR.{u}:=@List.mem_of_getElem?.{u}
def cC.{u}:=@List.length_append.{u}
def bJ.{u}:=@List.mem_cons_of_mem.{u}
def aH:=@Nat.le_refl
def aP:=@PySem.Heap.lt_size
def bI.{u}:=@List.size_toArray.{u}
def bZ.{u}:=@List.mem_cons_self.{u}
def aK:=@PySem.wpAny_pure
def cJ:=@PySem.Heap.get?_push_size
def dJ.{u}:=@List.getElem?_eq_getElem.{u}
def cu.{u}:=@List.take_add_one.{u}
def a_:=@Nat.ne_of_lt
def bw.{u,v}:=@List.map_cons.{u,v}
def cb.{u}:=@List.take_length.{u}
def cT:=@Bool.false_ne_true
def bC.{u}:=@List.mem_cons.{u}
def bF:=@PySem.Paired.length
def cq.{u}:=@List.mem_append.{u}
def aw.{u}:=@if_pos.{u}
def ay.{u}:=@if_neg.{u}
def dA:=@Nat.lt_of_lt_of_le
def cS:=@PySem.PassesOwn.never
def eZ.{u}:=@List.mem_append_right.{u}
def dw.{u}:=@List.length_cons.{u}
def b_.{u,v}:=@List.mem_map.{u,v}
def dI.{u}:=@List.length_take.{u}
def fV:=@PySem.Heap.get?_update_other
def fq.{u}:=@List.getElem?_of_mem.{u}
def cz:=@Nat.le_trans
def eh:=@of_decide_eq_true
def dO:=@decide_eq_true
def bY:=@PySem.wpAny_mono
def eY.{u}:=@List.all_eq_true.{u}
def eM:=@decide_eq_false
def gu:=@PySem.W.mg_none_of
def iN:=@PySem.F.plainAttrs_list
def eX.{u}:=@List.append_nil.{u}
def i7:=@PySem.F.type_list_append
def i6:=@PySem.F.slot_list_append
def i5.{u}:=@Option.isSome_iff_exists.{u}
def iM.{u}:=@List.length_filter_le.{u}
def fS.{u}:=@List.mem_filter.{u}
def iL.{u,v}:=@List.mem_map_of_mem.{u,v}
def i4.{u}:=@List.mem_append_left.{u}
def i3.{u}:=@beq_eq_false_iff_ne.{u}
def gP.{u}:=@Option.some.inj.{u}
def gO.{u}:=@List.length_nil.{u}
def fR:=@PySem.wpAny_holding
def iK.{u}:=@List.nodup_append.{u}
def nW.{u}:=@List.getElem?_append_left.{u}
def eW:=@PySem.Paired.snoc
def pz.{u}:=@List.getElem?_append_right.{u}
def kS:=@PySem.Heap.get?_update_self
def rL.{u}:=@List.take_append_of_le_length.{u}
def iZ.{u}:=@List.filter_cons.{u}
def nV.{u}:=@List.length_singleton.{u}
def rK:=@PyProof.Rows.boot_isinstance
def hU.{u,v}:=@Prod.mk.injEq.{u,v}
def gr:=@Nat.zero_le
def hJ:=@Nat.lt_irrefl
def kR.{u}:=@List.filter_append.{u}
def nS:=@Bool.and_eq_true_iff
def jQ:=@Bool.and_eq_true
def kQ:=@PySem.wpAny_Call_Name_kw
def nR:=@PySem.Around.under_plainId
def jP.{u}:=@List.nodup_cons.{u}
def g_.{u,v,w}:=@List.map_map.{u,v,w}
def jO:=@Bool.eq_iff_iff
def gF:=@PySem.wpAny_field
def kP:=@Nat.lt_succ_self
def px.{u}:=@List.mem_iff_getElem.{u}
def nQ.{u}:=@List.append_assoc.{u}
def kO:=@PySem.F.plain_min_loop
def ph:=@PySem.codeAny_call_builtin
def du.{u}:=@Ne.symm.{u}
def nP:=@PySem.wpAny_truthy_bool
def iY:=@Nat.ne_of_gt
def pd:=@Nat.lt_of_le_of_lt
def kN:=@PySem.boot_len
def kM.{u}:=@List.nodup_nil.{u}
def gN:=@PySem.wpAny_call
def rJ.{u}:=@List.mem_of_mem_take.{u}
def jN:=@PySem.plainId_quiet
def vv.{u}:=@List.getElem?_take_of_lt.{u}
def kK:=@PySem.wpAny_tryCatch
def iX:=@Nat.le_succ
def kJ.{u}:=@List.sum_cons.{u}
def iW:=@Int.le_refl
def pb:=@PySem.wpAny_pyIter_list
def o_:=@PySem.wpAny_newObj_type
def nO:=@PySem.codeAny_builtin
def o9.{u}:=@beq_self_eq_true.{u}
def jc:=@List.mem_range
def mI.{u,v}:=@List.map_singleton.{u,v}
def gG:=@PySem.sizeLine_eq
def um:=@PyProof.Rows.callWith_type1
def jb:=@PySem.wpAny_seqItems
def mH.{u,v}:=@Option.isSome_map.{u,v}
def mF:=@Int.toNat_natCast
def mD:=@Bool.eq_false_iff
def mz:=@PySem.tupleKind_room_in1
def uk:=@PySem.F.excBase_ValueError
def mx:=@PySem.Calls.spliced_cons
def uj.{u}:=@Array.getElem?_eq_some_iff.{u}
def j5:=@PySem.wpAny_passesOwn
def iw:=@PySem.codeAny_mono
def mw.{u,v}:=@List.mem_flatMap.{u,v}
def mv.{u,v}:=@List.getElem_map.{u,v}
def ja:=@PySem.strLen_append
def pJ:=@PySem.mem_of_lookup
def i_:=@Nat.lt_trans
def i9:=@Nat.le_of_lt
def i8.{u,v}:=@List.map_nil.{u,v}
def ui:=@PySem.F.slot_tuple_iterator_next
def mr.{u}:=@List.nil_append.{u}
def mq.{u}:=@List.find?_cons.{u}
def j4:=@PySem.Heap.size_push
def uh.{u}:=@List.getElem?_set_self.{u}
def ug.{u}:=@List.filter_eq_nil_iff.{u}
def uf:=@PySem.F.slot_list_getattribute
def pI.{u,v}:=@List.foldl_append.{u,v}
def pH:=@PySem.wpAny_setField_rec
def ue:=@PySem.wpAny_loadPart'
def uc:=@PySem.wpAny_getItem_str_slice
def ml:=@PySem.wpAny_execs_nil
def ub:=@PySem.wpAny_callSpecial?_slot
def pG:=@PySem.Obj.data_mapFields
def j3:=@Nat.zero_add
def pF.{u}:=@List.length_drop.{u}
def pE.{u}:=@List.cons_append.{u}
def ua.{u}:=@Classical.not_forall.{u}
def t_:=@PySem.Calls.callWith_builtin
def pD:=@PySem.wpAny_loadPart_at
def mj:=@PySem.W.mg_of
def mi:=@PySem.wpAny_setField
def jZ:=@PySem.wpAny_typeOf
def tZ:=@PySem.wpAny_pyNext_list_end
def jY.{u,v}:=@Sum.inr.inj.{u,v}
def tY.{u}:=@Option.some_ne_none.{u}
def pC.{u,v}:=@Option.map_some.{u,v}
def tX:=@PySem.F.slot_enumerate_next
def tW.{u}:=@Array.toList_append.{u}
def xw.{u}:=@List.getD_eq_getElem?_getD.{u}
def tV:=@PySem.wpAny_loadName_local
def tU.{u,v}:=@List.mem_filterMap.{u,v}
def tT:=@PySem.Heap.get?_none_of_le
def tS:=@PySem.Calls.evalArgs_plain
def tR.{u}:=@Array.append_empty.{u}
def mh:=@PySem.wpAny_attempt
def xu:=@PySem.F.slot_dict_update
def tQ:=@Nat.lt_succ_of_lt
def tP:=@List.length_range
def tO:=@Bool.not_eq_true'
def xt:=@PySem.F.plainAttrs_dict
def xq:=@PyProof.Rows.boot_tuple
def pB.{u}:=@List.any_cons.{u}
def pA:=@Bool.true_and
def tN:=@PySem.wpAny_pyIter_tuple
def tM.{u}:=@List.getElem_mem.{u}
def tL.{u}:=@List.getElem_inj.{u}
def xp.{u}:=@List.length_pos_of_mem.{u}
namespace L2
open PySem PySem.Spec PyProof.Rows
abbrev aF:=Sum Int Str
def qj:aF->Value->Bool
 | .inl k,v=>Value.isInt k v
 | .inr x,v=>Value.isStrOf x v
def RZ (w:World):aF->Int
 | .inl k=>hashInt k
 | .inr x=>hashStr w x
def cK:∀{k:aF}{v:Value},qj k v=true->(∃i t,k=Sum.inl i/\v=Value.int i t)\/(∃x t,k=Sum.inr x/\v=Value.str x t)
 | .inl i,v,h=>by
  obtain⟨t,e⟩:=Value.isInt_shape (k:=i) (v:=v) h;exact .inl ⟨i,t,rfl,e⟩
 | .inr x,v,h=>by
  obtain⟨t,e⟩:=Value.isStrOf_shape (x:=x) (v:=v) h;exact .inr ⟨x,t,rfl,e⟩
def Ba (i:Int)(t:Tok):qj (.inl i) (.int i t)=true:=by simp [qj,Value.isInt]
def A_ (x:Str)(t:Tok):qj (.inr x) (.str x t)=true:=by simp [qj,Value.isStrOf]
def JA (a b:Int):decide ((Sum.inl a:aF)=Sum.inl b)=(a == b):=by
 by_cases e:a=b
 .subst e;simp
 have h:¬(Sum.inl a:aF)=Sum.inl b:=λq=>e (Sum.inl.inj q);rw [eM h];exact(i3.mpr e).symm
def Jx (a b:Str):decide ((Sum.inr a:aF)=Sum.inr b)=decide (a=b):=by
 by_cases e:a=b
 .subst e;simp
 have h:¬(Sum.inr a:aF)=Sum.inr b:=λq=>e (jY q);rw [eM h,eM e]
def Jz (a:Int)(b:Str):decide ((Sum.inl a:aF)=Sum.inr b)=false:=eM (λq=>nomatch q)
def Jy (a:Str) (b:Int):decide ((Sum.inr a:aF)=Sum.inl b)=false:=eM (λq=>nomatch q)
def aS (prog:Program)(w:World):PySem.KeyKind prog w aF where
 is:=qj
 hash:=RZ w
 inj:=λv a b ha hb=>by
  rcases cK ha with ⟨i,t,rfl,rfl⟩ | ⟨x,t,rfl,rfl⟩
  .rcases cK hb with ⟨j,u,rfl,e⟩ | ⟨y,u,rfl,e⟩
   .injection e with e1 _;rw [e1]
   exact nomatch e
  rcases cK hb with ⟨j,u,rfl,e⟩ | ⟨y,u,rfl,e⟩
  .exact nomatch e
  injection e with e1 _;rw [e1]
 byValue:=λk v h=>by
  rcases cK h with ⟨i,t,rfl,rfl⟩ | ⟨x,t,rfl,rfl⟩ <;> rfl
 pyHash:=λhv h=>by
  rcases cK hv with ⟨i,t,rfl,rfl⟩ | ⟨x,t,rfl,rfl⟩
  .exact wpAny_pyHash_int h
  exact wpAny_pyHash_str h
 eqBool:=λhu hv h=>by
  rcases cK hu with ⟨i,t,rfl,rfl⟩ | ⟨x,t,rfl,rfl⟩
  .rcases cK hv with ⟨j,u,rfl,rfl⟩ | ⟨y,u,rfl,rfl⟩
   .rw [JA] at h;exact wpAny_eqBool_int h
   rw [Jz] at h;exact SeqAt.EqAt.int_str i t y u _ _ _ _ h
  rcases cK hv with ⟨j,u,rfl,rfl⟩ | ⟨y,u,rfl,rfl⟩
  .rw [Jy] at h;exact SeqAt.EqAt.str_int x t j u _ _ _ _ h
  rw [Jx] at h;exact wpAny_eqBool_str h
 «strs»:=λk x t v h=>by
  rcases cK h with ⟨i,u,rfl,e⟩ | ⟨y,u,rfl,e⟩
  .exact nomatch e
  injection e with e1 _;subst e1;cases v <;> rfl
def vV (prog:Program)(w:World) (i:Int)(t:Tok):(aS prog w).is (.inl i) (.int i t)=true:=Ba i t
def vU (prog:Program)(w:World)(x:Str)(t:Tok):(aS prog w).is (.inr x) (.str x t)=true:=A_ x t
inductive V where
 | cU | bl (b:Bool) | int (i:Int) | str (x:Str) | zg (b:Array UInt8) | Km (b:UInt64) | ref (a:Addr) | ty (n:String)
 deriving DecidableEq
def RelV:V->Value->Prop
 | .cU,u=>u=Value.none
 | .bl b,u=>u=Value.bool b
 | .int i,u=>∃t,u=Value.int i t
 | .str x,u=>∃t,u=Value.str x t
 | .zg b,u=>∃t,u=Value.bytes b t
 | .Km b,u=>∃t,u=Value.float b t
 | .ref a,u=>u=Value.ref a
 | .ty n,u=>u=Value.type n
abbrev aO:List V->List Value->Prop:=Paired RelV
theorem aO.length {xs:List V}{us:List Value}(r:aO xs us):xs.length=us.length:=bF r
theorem aO.get:∀{xs:List V}{us:List Value}{i:Nat}{x:V},aO xs us->xs[i]?=some x->∃u,us[i]?=some u/\RelV x u
 | _,_,_,_,.nil,e=>by simp at e
 | _,_,0,_,.cons r _,e=>by simp at e;subst e;exact⟨_,rfl,r⟩
 | _,_,i+1,x,.cons _ t,e=>by
  obtain⟨u,h1,h2⟩:=aO.get (i:=i) (x:=x) t (by simpa using e);exact⟨u,by simpa using h1,h2⟩
theorem aO.set {x:V}{u:Value}(r:RelV x u):∀{xs:List V}{us:List Value}(i:Nat),aO xs us->aO (xs.set i x) (us.set i u)
 | _,_,_,.nil=>.nil
 | _,_,0,.cons _ t=>.cons r t
 | _,_,i+1,.cons q t=>.cons q (aO.set r i t)
theorem aO.append:∀{xs ys:List V}{us ws:List Value},aO xs us->aO ys ws->aO (xs++ys) (us++ws)
 | _,_,_,_,.nil,s=>s
 | _,_,_,_,.cons r t,s=>.cons r (aO.append t s)
theorem aO.take:∀{xs:List V}{us:List Value}(n:Nat),aO xs us->aO (xs.take n) (us.take n)
 | _,_,0,_=>.nil
 | _,_,_+1,.nil=>.nil
 | _,_,n+1,.cons r t=>.cons r (aO.take n t)
theorem aO.drop:∀{xs:List V}{us:List Value}(n:Nat),aO xs us->aO (xs.drop n) (us.drop n)
 | _,_,0,r=>r
 | _,_,_+1,.nil=>.nil
 | _,_,n+1,.cons _ t=>aO.drop n t
def aO.none_of:∀{xs:List V}{us:List Value}{i:Nat},aO xs us->xs[i]?=none->us[i]?=none:=λ{xs us i} r e=>by
 have h1:=r.length;have h2:xs.length<=i:=List.getElem?_eq_none_iff.mp e;exact List.getElem?_eq_none_iff.mpr ∅
def gL:Option V->Option Value->Prop
 | some v,some u=>RelV v u
 | none,none=>True
 | _,_=>False
def KV {κ:Type}:List (κ×V)->List (κ×Value)->Prop:=Paired λ(p:κ×V)(q:κ×Value)=>p.1=q.1/\RelV p.2 q.2
def kV:aF->V
 | .inl i=>.int i
 | .inr x=>.str x
inductive HO where
 | lst (xs:List V)
 | tup (xs:List V)
 | dK (kvs:List (aF×V)) | dT (kvs:List (List aF×V))
 | set (S:Int->Bool) (n:Nat)
 | ins (C dx:Addr)(fs:List (Str×V))
 | own (x:Addr)
 | xd (fs:List (Str×V))
 | met (f x:Addr)
 | Hg (lo hi:Int)
 | iV (o:Obj)(u:HO)
 | q9 (ps:Array Value)
 | ext (φ:Heap->Prop)
abbrev Hp:=Addr->Option HO
def upd (H:Hp)(a:Addr)(o:HO):Hp:=λb=>if b=a then some o else H b
def ae {H:Hp}{a:Addr}{o:HO}:upd H a o a=some o:=by unfold upd;rw [aw rfl]
def ai {H:Hp}{a b:Addr}{o:HO}(h:b≠a):upd H a o b=H b:=by unfold upd;rw [ay h]
def ix {H:Hp}{a:Addr}{o u:HO}:upd (upd H a o) a u=upd H a u:=by
 funext b;unfold upd;split <;> rfl
def MT {H:Hp}{a b:Addr}{o u:HO}(h:H a=some o)(h':H b=some u)(d:o≠u):a≠b:=by
 intro e;subst e;rw [h] at h';exact d (gP h')
def ao {H:Hp}{a b:Addr}{o:HO}(h:H a=some o)(h':H b=none):a≠b:=by
 intro e;subst e;rw [h] at h';cases h'
section
variable (P:Program)(w:World)
def bE (H:Hp)(h:Heap)(a:Addr):HO->Prop
 | .lst xs=>xs.length<=sizeLine/\∃(aL:List Value) (n:Nat),aO xs aL/\h.get? a=some { cls:=.type "list",data:=.seq aL.toArray n }
 | .tup xs=>xs.length<=sizeLine/\∃aL:List Value,aO xs aL/\IsTup h a aL.toArray
 | .dK kvs=>kvs.length<=sizeLine/\(a == sysModules)=false/\∃vs,KV kvs vs/\h.DictOf (aS P w) a vs
 | .dT kvs=>kvs.length<=sizeLine/\(a == sysModules)=false/\∃xs:List (List aF×Addr×Value),
   Paired (λ(p:List aF×V)(q:List aF×Addr×Value)=>p.1=q.1/\H q.2.1=some (.tup (p.1.map kV))/\RelV p.2 q.2.2) kvs xs /\
   ∃o es ep,h.get? a=some o/\o.ExactDict/\o.data=.dict es ep/\es.toList=xs.map (entryOfKey (tupleKind (aS P w)))/\(xs.map (·.1)).Nodup
 | .set S n=>h.SetOf (intKind P w) a S n
 | .ins C dx fs=>H dx=some (.own a)/\fs.length<=1000/\dx≠a/\h.get? a=some (PySem.W.instObj C dx) /\
   ∃mA,h.Ns1 dx mA/\(∀f,gL (fs.lookup f) (mA f))/\PySem.Within mA (fs.map (·.1))
 | .own _=>∃o,h.get? a=some o
 | .xd fs=>∃mA,h.Ns1 a mA/\∀f,gL (fs.lookup f) (mA f)
 | .Hg lo hi=>∃t u v,h.get? a=some { cls:=.type "range",data:=.fields #[.int lo t,.int hi u,.int 1 v] }
 | .iV o u=>h.get? a=some o/\bE H h a u
 | .q9 ps=>h.get? a=some { cls:=.none,data:=.fields ps }
 | .met f x=>h.get? a=some (PySem.W.methodObj (.ref f) (.ref x))
 | .ext φ=>φ h/\(∃o,h.get? a=some o)/\∀h1 h2:Heap,φ h1->(∀o,h1.get? a=some o->h2.get? a=some o)->φ h2
def jM (H:Hp)(h:Heap):Prop:=∀a o,H a=some o->bE P w H h a o
end
section
variable {P:Program}{w:World}{H H':Hp}{h h':Heap}{a:Addr}{o:HO}
theorem bE.lt (x:bE P w H h a o):a < h.objs.size:=by
 cases o with
 | lst xs=>obtain⟨_,_,_,_,e⟩:=x;exact aP e
 | tup xs=>obtain⟨_,_,_,p⟩:=x;exact p.lt
 | dK kvs=>obtain⟨_,_,_,_,o,_,_,e,_⟩:=x;exact aP e
 | dT kvs=>obtain⟨_,_,_,_,o,_,_,e,_⟩:=x;exact aP e
 | set S n=>obtain⟨o,_,_,_,e,_⟩:=x;exact aP e
 | ins C dx fs=>obtain⟨_,_,_,e,_⟩:=x;exact aP e
 | own y=>obtain⟨_,e⟩:=x;exact aP e
 | xd fs=>obtain⟨_,⟨_,_,_,e,_⟩,_⟩:=x;exact aP e
 | Hg lo hi=>obtain⟨_,_,_,e⟩:=x;exact aP e
 | iV ob u=>obtain⟨e,_⟩:=x;exact aP e
 | q9 ps=>exact aP (show h.get? a=some _ from x)
 | met f y=>exact aP (show h.get? a=some _ from x)
 | ext φ=>obtain⟨_,⟨_,e⟩,_⟩:=x;exact aP e
theorem Paired.d_ {α β:Type}{F G:α->β->Prop}:∀{l₁:List α}{l₂:List β},Paired F l₁ l₂->(∀a b,F a b->G a b)->Paired G l₁ l₂
 | _,_,.nil,_=>.nil
 | _,_,.cons r t,f=>.cons (f _ _ r) (Paired.d_ t f)
def bE.gZ (x:bE P w H h a o)(k:∀b u,(b=a\/H b=some (.own a))->h.get? b=some u->h'.get? b=some u)
  (ho:∀b,H b=some (.own a)->H' b=some (.own a))(ht:∀b xs,H b=some (.tup xs)->H' b=some (.tup xs)):bE P w H' h' a o:=by
 induction o with
 | lst xs=>obtain⟨z,aL,n,r,e⟩:=x;exact⟨z,aL,n,r,k _ _ (.inl rfl) e⟩
 | tup xs=>obtain⟨z,aL,r,ob,e,c⟩:=x;exact⟨z,aL,r,ob,k _ _ (.inl rfl) e,c⟩
 | dK kvs=>obtain⟨z,y,vs,r,ob,es,ep,e,c⟩:=x;exact⟨z,y,vs,r,ob,es,ep,k _ _ (.inl rfl) e,c⟩
 | dT kvs =>
  obtain⟨z,y,xs,r,ob,es,ep,e,c⟩:=x;exact⟨z,y,xs,Paired.d_ r λp q z=>⟨z.1,ht _ _ z.2.1,z.2.2⟩,ob,es,ep,k _ _ (.inl rfl) e,c⟩
 | set S n=>obtain⟨ob,es,ep,t,e,c⟩:=x;exact⟨ob,es,ep,t,k _ _ (.inl rfl) e,c⟩
 | ins C dx fs =>
  obtain⟨d,z,ne,e,mA,⟨od,es,ep,e2,c⟩,r⟩:=x;exact⟨ho _ d,z,ne,k _ _ (.inl rfl) e,mA,⟨od,es,ep,k _ _ (.inr d) e2,c⟩,r⟩
 | own y=>obtain⟨ob,e⟩:=x;exact⟨ob,k _ _ (.inl rfl) e⟩
 | xd fs=>obtain⟨mA,⟨od,es,ep,e,c⟩,r⟩:=x;exact⟨mA,⟨od,es,ep,k _ _ (.inl rfl) e,c⟩,r⟩
 | Hg lo hi=>obtain⟨t,u,v,e⟩:=x;exact⟨t,u,v,k _ _ (.inl rfl) e⟩
 | iV ob u ih=>obtain⟨e,q⟩:=x;exact⟨k _ _ (.inl rfl) e,ih q⟩
 | q9 ps =>
  have e:h.get? a=some { cls:=.none,data:=.fields ps }:=x;show h'.get? a=some { cls:=.none,data:=.fields ps };exact k a _ (.inl rfl) e
 | met f y =>
  have e:h.get? a=some (PySem.W.methodObj (.ref f) (.ref y)):=x;show h'.get? a=some (PySem.W.methodObj (.ref f) (.ref y));exact k a _ (.inl rfl) e
 | ext φ=>obtain⟨p,⟨o,e⟩,st⟩:=x;exact⟨st _ _ p λo q=>k _ _ (.inl rfl) q,⟨o,k _ _ (.inl rfl) e⟩,st⟩
theorem jM.lt (x:jM P w H h)(e:H a=some o):a < h.objs.size:=(x a o e).lt
def jM.fresh (x:jM P w H h)(e:h.objs.size<=a):H a=none:=by
 cases q:H a with
 | none=>rfl
 | some u=>exact absurd (dA (x.lt q) e) (hJ _)
def jM.kept (x:jM P w H h)(k:∀b u,h.get? b=some u->h'.get? b=some u):jM P w H h':=λa o e =>
 (x a o e).gZ (λb u _ q=>k b u q) (λ_ q=>q) λ_ _ q=>q
def jM.laid (x:jM P w H h)(k:∀b u,h.get? b=some u->h'.get? b=some u)(hp:h.objs.size<=a)(new:bE P w (upd H a o) h' a o):jM P w (upd H a o) h':=λb u e=>by
 have hn:=x.fresh hp;by_cases hb:b=a
 .subst hb;rw [ae] at e;cases e;exact new
 rw [ai hb] at e;exact(x b u e).gZ (λc v _ q=>k c v q) (λc q=>by rw [ai (ao q hn)];exact q) λc xs q=>by rw [ai (ao q hn)];exact q
end
def Rd (H:Hp)(a:Addr)(u:HO):Prop:=H a=some u\/∃o,H a=some (.iV o u)
def Rd.of {H:Hp}{a:Addr}{u:HO}(h:H a=some u):Rd H a u:=.inl h
def Rd.ok {P:Program}{w:World}{H:Hp}{h:Heap}{a:Addr}{u:HO}(r:Rd H a u)(x:jM P w H h):bE P w H h a u:=by
 rcases r with r | ⟨o,r⟩
 .exact x a u r
 obtain⟨_,q⟩:=x a _ r;exact q
def OV:Option HO->Prop
 | some (.lst _)=>True
 | some (.dK _)=>True
 | some (.dT _)=>True
 | some (.set _ _)=>True
 | some (.ins _ _ _)=>True
 | some (.ext _)=>True
 | _=>False
section
variable {P:Program}{w:World}{H:Hp}{h h':Heap}{x e:Addr}{o':HO}
def jM.write (ok:jM P w H h)(mu:OV (H x))(he:e=x\/H e=some (.own x))(k:∀b u,b≠e->h.get? b=some u->h'.get? b=some u)(Ll:∃u,h'.get? e=some u)
  (new:bE P w (upd H x o') h' x o'):jM P w (upd H x o') h':=λb u q=>by
 have MO:∀c y,H c=some (.own y)->c≠x:=λc y r z=>by subst z;rw [r] at mu;exact mu
 have Rj:∀c xs,H c=some (.tup xs)->c≠x:=λc xs r z=>by subst z;rw [r] at mu;exact mu
 by_cases hb:b=x
 .subst hb;rw [ae] at q;cases q;exact new
 rw [ai hb] at q;by_cases JX:b=e
 .have q':H b=some (.own x):=by
   rcases he with z | z
   .exact absurd (JX.trans z) hb
   rw [JX];exact z
  rw [q] at q';cases q';obtain⟨v,hv⟩:=Ll;exact⟨v,by rw [JX];exact hv⟩
 refine(ok b u q).gZ (λc v hc r=>k c v ?_ r) (λc r=>by rw [ai (MO c b r)];exact r) λc xs r=>by rw [ai (Rj c xs r)];exact r
 rcases hc with rfl | hc
 .exact JX
 rintro rfl;rcases he with z | z
 .exact MO c b hc z
 rw [hc] at z;cases z;exact hb rfl
end
structure Un (fs ex:List Addr)(H H':Hp)(h h':Heap):Prop where
 keep:∀b o,h.get? b=some o->H b=none->b∉fs->b∉ex->h'.get? b=some o
 slot:∀b o,h.get? b=some o->H b=none->b∈fs->b∉ex->∃sl,h'.get? b=some { o with slots:=sl }
 free:∀b o,h.get? b=some o->H b=none->b∉ex->H' b=none
 there:∀b o,h.get? b=some o->b∉ex->∃o',h'.get? b=some o'
 j6:∀b xs,H b=some (.tup xs)->H' b=some (.tup xs)
 jq:∀b o u,H b=some (.iV o u)->H' b=some (.iV o u)
 jG:∀b ps,H b=some (.q9 ps)->∃more,H' b=some (.q9 (ps++more))
section
variable {fs E7 ex Wi:List Addr}{H H1 H2:Hp}{h h1 h2 h':Heap}{a x e:Addr}{o:HO}
def Un.any (u:Un fs ex H H1 h h1){b:Addr}{ob:Obj}(q:h.get? b=some ob)(n:H b=none)(hx:b∉ex):∃sl,h1.get? b=some { ob with slots:=sl }:=by
 by_cases hb:b∈fs
 .exact u.slot b ob q n hb hx
 exact⟨ob.slots,u.keep b ob q n hb hx⟩
def Un.trans (a:Un fs ex H H1 h h1)(b:Un fs ex H1 H2 h1 h2):Un fs ex H H2 h h2 where
 keep:=λc ob q n hc hx=>b.keep c ob (a.keep c ob q n hc hx) (a.free c ob q n hx) hc hx
 slot:=λc ob q n hc hx=>by
  obtain⟨sl,e1⟩:=a.slot c ob q n hc hx;obtain⟨QQ,e2⟩:=b.slot c _ e1 (a.free c ob q n hx) hc hx;exact⟨QQ,e2⟩
 free:=λc ob q n hx=>by
  obtain⟨o',e1⟩:=a.there c ob q hx;exact b.free c o' e1 (a.free c ob q n hx) hx
 there:=λc ob q hx=>by
  obtain⟨o',e1⟩:=a.there c ob q hx;exact b.there c o' e1 hx
 j6:=λc xs q=>b.j6 c xs (a.j6 c xs q)
 jq:=λc ob xs q=>b.jq c ob xs (a.jq c ob xs q)
 jG:=λc ps q=>by
  obtain⟨m1,e1⟩:=a.jG c ps q;obtain⟨m2,e2⟩:=b.jG c _ e1;exact⟨m1++m2,by rw [e2,Array.append_assoc]⟩
def Un.kept (k:∀b u,h.get? b=some u->h'.get? b=some u):Un fs ex H H h h' :=
 ⟨λb ob q _ _ _=>k b ob q,λb ob q _ _ _=>⟨ob.slots,k b ob q⟩,λ_ _ _ n _=>n,λb ob q _=>⟨ob,k b ob q⟩,λ_ _ q=>q,λ_ _ _ q=>q,λ_ ps q=>⟨#[],by rw [q];simp⟩⟩
def Un.refl:Un fs ex H H h h:=Un.kept λ_ _ q=>q
def Un.laid (k:∀b u,h.get? b=some u->h'.get? b=some u)(hp:h.objs.size<=a)(hn:H a=none):Un fs ex H (upd H a o) h h' where
 keep:=λb u q _ _ _=>k b u q
 slot:=λb u q _ _ _=>⟨u.slots,k b u q⟩
 free:=λb u q n _=>by rw [ai (a_ (dA (aP q) hp))];exact n
 there:=λb u q _=>⟨u,k b u q⟩
 j6:=λb xs q=>by rw [ai (ao q hn)];exact q
 jq:=λb u xs q=>by rw [ai (ao q hn)];exact q
 jG:=λb ps q=>⟨#[],by rw [ai (ao q hn),q];simp⟩
def Un.write (mu:OV (H x))(he:e=x\/H e=some (.own x))(k:∀b u,b≠e->h.get? b=some u->h'.get? b=some u)(Ll:∃u,h'.get? e=some u):Un fs ex H (upd H x o) h h':=by
 have hx:∀b,H b=none->b≠x:=λb n z=>by subst z;rw [n] at mu;exact mu
 have hb:∀b,H b=none->b≠e:=λb n z=>by
  subst z;rcases he with r | r
  .exact hx b n r
  rw [n] at r;cases r
 have hm:∀b u,H b=some u->¬OV (some u)->b≠x:=λb u q nm z=>by subst z;rw [q] at mu;exact nm mu
 refine⟨λb u q n _ _=>k b u (hb b n) q,λb u q n _ _=>⟨u.slots,k b u (hb b n) q⟩,λb u q n _=>by rw [ai (hx b n)];exact n,λb u q _=>?_,
  λb xs q=>by rw [ai (hm b _ q λz=>z)];exact q,λb u xs q=>by rw [ai (hm b _ q λz=>z)];exact q,λb ps q=>⟨#[],by rw [ai (hm b _ q λz=>z),q];simp⟩⟩
 by_cases JX:b=e
 .subst JX;exact Ll
 exact⟨u,k b u JX q⟩
def Un.mono (u:Un fs ex H H1 h h1)(hs:∀b∈fs,b∈E7)(hx:∀b∈ex,b∈Wi):Un E7 Wi H H1 h h1 :=
 ⟨λb ob q n hb he=>u.keep b ob q n (λz=>hb (hs b z)) λz=>he (hx b z),λ_ _ q n _ he=>u.any q n λz=>he (hx _ z),λb ob q n he=>u.free b ob q n λz=>he (hx b z),λb ob q he=>u.there b ob q λz=>he (hx b z),u.j6,u.jq,u.jG⟩
end
def ES (h:Heap)(H:Hp):List Addr:=(List.range h.objs.size).filter λa=>(H a).isSome
def kq (h:Heap)(H:Hp):Heap:=PySem.W.hideAll h (ES h H)
def sO (h:Heap)(H:Hp):(kq h H).objs.size=h.objs.size:=PySem.W.hideAll_size _ _
def wc {h:Heap}{H:Hp}{b:Addr}{o:Obj}(e:h.get? b=some o)(n:H b=none):(kq h H).get? b=some o :=
 PySem.W.hideAll_get _ e λhm=>by
  have q:(H b).isSome=true:=(fS.mp hm).2;rw [n] at q;simp at q
def z7 {h:Heap}{H:Hp}{b:Addr}{o:Obj}(e:(kq h H).get? b=some o):h.get? b=some o/\H b=none:=by
 have e':h.get? b=some o:=PySem.W.of_hideAll (ES h H) e;refine⟨e',?_⟩;cases q:H b with
 | none=>rfl
 | some x =>
  have hm:b∈ES h H:=fS.mpr ⟨jc.mpr (aP e'),by simp [q]⟩;have z:(kq h H).get? b=none:=PySem.W.hideAll_none (ES h H) hm;rw [z] at e;cases e
def GK (g h:Heap)(L:Addr):List (Addr×Obj):=(List.range h.objs.size).filterMap λa=>if a=L\/(g.get? a).isSome=true then none else (h.get? a).map λo=>(a,o)
def rest (g h:Heap)(L d:Addr):List (Addr×Obj):=(GK g h L).filter λp=>decide (p.1≠d)
structure Mod (K:aT)(mg:Str->Option Value)(base:Heap):Prop where
 Jw:K.In base
 glob:base.Ns mainGlobals mg
 blt:∃mb,base.Ns builtinsNs mb/\∀x:Str,x ≠ "__name__" -> mb x=bootBuiltins x
 nolimit:base.NoLimit
structure Cx where
 prog:Program
 w:World
 K:aT
 mg:Str->Option Value
 base:Heap
 A:Around
 N:List Str
 s₀:Shared
 H₀:Hp
 env:Env
 outer:List Env
 stack:List Env
 ex:List Addr
 fn:Str->Bool
 calm:Bool
 pn:List (Addr×Obj)
 xe:Value->Shared->Prop
def oF (l:List Env):List Addr:=l.filterMap (·.frame)
abbrev Cx.fs (X:Cx):List Addr:=oF X.outer
def Qe (sc:Scope)(x:Str):Prop:=sc.names.lookup x=some .local\/sc.names.lookup x=some .cell\/sc.names.lookup x=some .free
def Loc (sc:Scope)(x:Str):Prop:=sc.names.lookup x=some .local\/sc.names.lookup x=some .cell
def Look (env:Env)(h:Heap)(m:Str->Option Value)(x:Str)(u:Value):Prop :=
 (env.kindOf x=some .local/\m x=some u)\/((env.kindOf x=some .cell\/env.kindOf x=some .free)/\∃c,env.cells.lookup x=some c/\h.IsCell c (some u))
structure Cx.Ok (X:Cx):Prop where
 mod:Mod X.K X.mg X.base
 kind:X.env.scope.kind=.function
 glob:X.env.globals=mainGlobals
 blt:X.env.builtins=builtinsNs
 above:X.s₀.heap.objs.size<=X.env.locals
 inj:∀x y c,X.env.cells.lookup x=some c->X.env.cells.lookup y=some c->x=y
 has:∀x,(X.env.kindOf x=some .cell\/X.env.kindOf x=some .free)->∃c,X.env.cells.lookup x=some c
 LK:∀x c,X.fn x=true->X.env.cells.lookup x=some c->X.s₀.heap.objs.size<=c
 hd:X.calm=true->X.A.handled=none
 frames:X.A.frames=some X.stack
 G8:X.stack=X.outer\/(X.stack=X.env::X.outer/\X.env.frame=some X.env.locals)
 Kn:∀b∈X.ex,b≠X.env.locals/\∀x c,X.env.cells.lookup x=some c->c≠b
 bs:∀b o,X.base.get? b=some o->X.s₀.heap.get? b=some o/\X.H₀ b=none
 Eu:X.base.objs.size<=X.s₀.heap.objs.size
 AZ:∀b o,X.base.get? b=some o->b∉X.ex
 yT:∀b∈X.ex,b∉X.fs
 lS:X.s₀.heap.FunFrames X.base X.outer
 Gr:∀b∈X.fs,X.H₀ b=none
structure Inv (X:Cx)(af:List (Addr×Obj))(σ:List (Option V))(H:Hp)(s:Shared):Prop where
 ok:X.Ok
 os:s.os=X.s₀.os
 bare:AllBare s.gens
 base:Un X.fs X.ex X.H₀ H X.s₀.heap s.heap
 loc:∃m,s.heap.Ns X.env.locals m/\∀(i:Nat)(x:Str)(v:V),X.N[i]?=some x->σ[i]?=some (some v)->Qe X.env.scope x->∃u,RelV v u/\Look X.env s.heap m x u
 cell:∀x c,X.env.cells.lookup x=some c->∃v,s.heap.IsCell c v
 free:H X.env.locals=none
 ik:∀x c,X.env.cells.lookup x=some c->H c=none
 pin:∀p∈X.pn++af,s.heap.get? p.1=some p.2/\H p.1=none/\p.1≠X.env.locals/\p.1∉X.fs/\∀v,p.2.data≠.cell v
 bo:jM X.prog X.w H s.heap
 len:σ.length=X.N.length
section
variable {X:Cx}{af:List (Addr×Obj)}{σ:List (Option V)}{H H':Hp}{s:Shared}{h':Heap}
def Cx.Ok.Rn (ok:X.Ok){b:Addr}{o:Obj}(e:X.base.get? b=some o):b∉X.fs:=λhb=>by
 have:=(ok.lS.mem hb).1;rw [e] at this;cases this
theorem Inv.bs (I:Inv X af σ H s):∀b o,X.base.get? b=some o->s.heap.get? b=some o/\H b=none:=λb o e =>
 ⟨I.base.keep b o (I.ok.bs b o e).1 (I.ok.bs b o e).2 (I.ok.Rn e) (I.ok.AZ b o e),I.base.free b o (I.ok.bs b o e).1 (I.ok.bs b o e).2 (I.ok.AZ b o e)⟩
def Inv.bk (I:Inv X af σ H s):∀b o,X.base.get? b=some o->s.heap.get? b=some o:=λb o e=>(I.bs b o e).1
theorem Inv.mod (I:Inv X af σ H s):Mod X.K X.mg X.base:=I.ok.mod
def Inv.jI (I:Inv X af σ H s):X.K.In s.heap:=I.ok.mod.Jw.keeps I.bk
theorem Inv.nolimit (I:Inv X af σ H s):s.heap.NoLimit:=I.ok.mod.nolimit.keeps I.bk
def Inv.fr (I:Inv X af σ H s):∃m,Fr X.base X.env.locals s.heap m :=
 let ⟨m,hn,_⟩:=I.loc
 ⟨m,hn,I.bk,cz I.ok.Eu I.ok.above⟩
theorem Inv.lt (I:Inv X af σ H s):X.env.locals < s.heap.objs.size:=let ⟨_,hn,_⟩:=I.loc;hn.lt
def Inv.sz (I:Inv X af σ H s):X.s₀.heap.objs.size<=s.heap.objs.size:=cz I.ok.above (i9 I.lt)
def Inv.Rm (I:Inv X af σ H s){a:Addr}(h:s.heap.objs.size<=a):a∉X.fs:=λhb=>by
 obtain⟨_,o,ho,_⟩:=I.ok.lS.mem hb;exact absurd (dA (aP ho) (cz I.sz h)) (hJ _)
def Inv.HX (I:Inv X af σ H s):∀x c,X.env.cells.lookup x=some c->c≠X.env.locals:=λx c e z=>by
 obtain⟨v,o,ho,hd⟩:=I.cell x c e;obtain⟨m,⟨o',es,ep,Ga,Bi,_⟩,_⟩:=I.loc;rw [z,Ga] at ho;cases ho;rw [Bi] at hd;cases hd
theorem Inv.lS (I:Inv X af σ H s):s.heap.FunFrames X.base X.outer:=by
 have all:∀(l:List Env),(∀b∈oF l,b∈X.fs)->X.s₀.heap.FunFrames X.base l->s.heap.FunFrames X.base l:=by
  intro l
  induction l with
  | nil=>intro _ _;trivial
  | cons env r ih =>
   intro hs hl;obtain⟨hk,⟨L,o,hf,hn,ho,hd⟩,hr⟩:=hl;have hL:L∈X.fs:=hs L (by unfold oF;rw [List.filterMap_cons,hf];exact bZ);obtain⟨sl,e⟩:=I.base.slot L o ho (I.ok.Gr L hL) hL λz=>I.ok.yT L z hL;exact⟨hk,⟨L,_,hf,hn,e,hd⟩,ih (λb hb=>hs b (by unfold oF;rw [List.filterMap_cons,hf];exact bJ _ hb)) hr⟩
 exact all X.outer (λ_ hb=>hb) I.ok.lS
theorem Inv.stack (I:Inv X af σ H s):s.heap.FunFrames X.base X.stack:=by
 rcases I.ok.G8 with e | ⟨e,hf⟩
 .rw [e];exact I.lS
 rw [e];obtain⟨m,hn,_⟩:=I.loc;refine .cons (by rw [I.ok.kind];decide) hf hn ?_ I.lS;exact tT (cz I.ok.Eu I.ok.above)
def Inv.uu (I:Inv X af σ H s):∀b∈oF X.stack,b∈X.env.locals::X.fs:=λb hb=>by
 rcases I.ok.G8 with e | ⟨e,hf⟩
 .rw [e] at hb;exact bJ _ hb
 rw [e] at hb;unfold oF at hb;rw [List.filterMap_cons,hf] at hb;exact hb
def Inv.oP (I:Inv X af σ H s):∀b∈oF X.stack,H b=none:=λb hb=>by
 rcases bC.mp (I.uu b hb) with e | hb
 .rw [e];exact I.free
 obtain⟨_,o,ho,_⟩:=I.ok.lS.mem hb;exact I.base.free b o ho (I.ok.Gr b hb) λz=>I.ok.yT b z hb
def Inv.step {g':Array GenState}{t':Nat}{d':Drawn}{ch:List Addr}(I:Inv X af σ H s)
  (E5:∀b∈ch,(b∈X.ex\/X.s₀.heap.objs.size<=b)/\b≠X.env.locals/\(∀x c,X.env.cells.lookup x=some c->c≠b)/\∀p∈X.pn++af,p.1≠b)
  (keep:∀b o,b≠X.env.locals->b∉X.fs->b∉ch->s.heap.get? b=some o->H b=none->h'.get? b=some o)
  (slot:∀b o,b≠X.env.locals->b∈X.fs->b∉ch->s.heap.get? b=some o->H b=none->∃sl,h'.get? b=some { o with slots:=sl })(free:∀b o,b∉ch->s.heap.get? b=some o->H b=none->H' b=none)
  (there:∀b o,b∉ch->s.heap.get? b=some o->∃o',h'.get? b=some o')
  (j6:∀b xs,H b=some (.tup xs)->H' b=some (.tup xs))(jq:∀b o u,H b=some (.iV o u)->H' b=some (.iV o u))(jG:∀b ps,H b=some (.q9 ps)->∃more,H' b=some (.q9 (ps++more)))
  (ns:∀m,s.heap.Ns X.env.locals m->h'.Ns X.env.locals m)(bo:jM X.prog X.w H' h')(hg:AllBare g') :
  Inv X af σ H' { s with heap:=h',gens:=g',drawn:=d',toks:=t' }:=by
 have Vk:∀b o,X.s₀.heap.get? b=some o->b≠X.env.locals:=λb o e=>a_ (dA (aP e) I.ok.above);have K_:∀b o,X.s₀.heap.get? b=some o->b∉X.ex->b∉ch:=λb o e hx hb=>by
  rcases (E5 b hb).1 with z | z
  .exact hx z
  exact absurd (dA (aP e) z) (hJ _)
 have cellK:∀x c,X.env.cells.lookup x=some c->∀v,s.heap.IsCell c v->h'.IsCell c v:=λx c e v ⟨o,ho,hd⟩=>by
  have MU:c∉ch:=λz=>(E5 c z).2.2.1 x c e rfl;by_cases hc:c∈X.fs
  .obtain⟨sl,q⟩:=slot c o (I.HX x c e) hc MU ho (I.ik x c e);exact⟨_,q,hd⟩
  exact⟨o,keep c o (I.HX x c e) hc MU ho (I.ik x c e),hd⟩
 refine⟨I.ok,I.os,hg,⟨λb o e n hb hx=>?_,λb o e n hb hx=>?_,λb o e n hx=>?_,λb o e hx=>?_,λb xs e=>j6 b xs (I.base.j6 b xs e),λb o xs e=>jq b o xs (I.base.jq b o xs e),λb ps e=>?_⟩,?_,λx c e=>?_,?_,λx c e=>?_,λp hp=>?_,bo,I.len⟩
 .exact keep b o (Vk b o e) hb (K_ b o e hx) (I.base.keep b o e n hb hx) (I.base.free b o e n hx)
 .obtain⟨sl,e1⟩:=I.base.slot b o e n hb hx;obtain⟨QQ,e2⟩:=slot b _ (Vk b o e) hb (K_ b o e hx) e1 (I.base.free b o e n hx);exact⟨QQ,e2⟩
 .obtain⟨o',e1⟩:=I.base.there b o e hx;exact free b o' (K_ b o e hx) e1 (I.base.free b o e n hx)
 .obtain⟨o',e1⟩:=I.base.there b o e hx;exact there b o' (K_ b o e hx) e1
 .obtain⟨m1,e1⟩:=I.base.jG b ps e;obtain⟨m2,e2⟩:=jG b _ e1;exact⟨m1++m2,by rw [e2,Array.append_assoc]⟩
 .obtain⟨m,hn,hl⟩:=I.loc;refine⟨m,ns m hn,λi x v e1 e2 e3=>?_⟩;obtain⟨u,r,l⟩:=hl i x v e1 e2 e3;refine⟨u,r,?_⟩;rcases l with l | ⟨k,c,e,z⟩
  .exact .inl l
  exact .inr ⟨k,c,e,cellK x c e _ z⟩
 .obtain⟨v,z⟩:=I.cell x c e;exact⟨v,cellK x c e v z⟩
 .obtain⟨m,⟨o,_,_,ho,_⟩,_⟩:=I.loc;exact free _ o (λz=>(E5 _ z).2.1 rfl) ho I.free
 .obtain⟨v,o,ho,hd⟩:=I.cell x c e;exact free c o (λz=>(E5 c z).2.2.1 x c e rfl) ho (I.ik x c e)
 obtain⟨e,n,ne,nf,d⟩:=I.pin p hp;have MU:p.1∉ch:=λz=>(E5 p.1 z).2.2.2 p hp rfl;exact⟨keep p.1 p.2 ne nf MU e n,free p.1 p.2 MU e n,ne,nf,d⟩
def Inv.un {t':Nat}(I:Inv X af σ H s)(u:Un X.fs [] H H' s.heap h')(bo:jM X.prog X.w H' h'):Inv X af σ H' { s with heap:=h',toks:=t' }:=by
 obtain⟨m,⟨o,es,ep,ho,r⟩,_⟩:=id I.loc;obtain⟨sl,hL⟩:=u.any ho I.free (by simp);exact I.step (g':=s.gens) (d':=s.drawn) (ch:=[]) (λ_ z=>nomatch z) (λb o _ hb _ e n=>u.keep b o e n hb (by simp)) (λb o _ hb _ e n=>u.slot b o e n hb (by simp)) (λb o _ e n=>u.free b o e n (by simp)) (λb o _ e=>u.there b o e (by simp)) u.j6 u.jq u.jG (λm' hm=>by
  obtain⟨o',qE,TH,Ga,r'⟩:=hm;rw [ho] at Ga;cases Ga;exact⟨_,qE,TH,hL,r'⟩) bo I.bare
def Inv.call {g':Array GenState}{t':Nat}{d':Drawn}{ch:List Addr}(I:Inv X af σ H s)(u:Un (oF X.stack) ch H H' s.heap h')(bo:jM X.prog X.w H' h')(hg:AllBare g')
  (E5:∀b∈ch,(b∈X.ex\/X.s₀.heap.objs.size<=b)/\b≠X.env.locals/\(∀x c,X.env.cells.lookup x=some c->c≠b)/\∀p∈X.pn++af,p.1≠b) :
  Inv X af σ H' { s with heap:=h',gens:=g',drawn:=d',toks:=t' }:=by
 obtain⟨m,⟨o,es,ep,ho,r⟩,_⟩:=id I.loc;obtain⟨sl,hL⟩:=u.any ho I.free λz=>(E5 _ z).2.1 rfl;exact I.step (ch:=ch) E5 (λb o hL hb hc e n=>u.keep b o e n (λz=>(bC.mp (I.uu b z)).elim hL hb) hc) (λb o _ _ hc e n=>u.any e n hc) (λb o hc e n=>u.free b o e n hc) (λb o hc e=>u.there b o e hc) u.j6 u.jq u.jG (λm' hm=>by
  obtain⟨o',qE,TH,Ga,r'⟩:=hm;rw [ho] at Ga;cases Ga;exact⟨_,qE,TH,hL,r'⟩) bo hg
def Inv.turned {t':Nat}{it:Addr}(I:Inv X af σ H s)(k:∀b o,b≠it->s.heap.get? b=some o->h'.get? b=some o)(hn:H it=none)(hL:it≠X.env.locals)
  (h1:it∈X.ex\/X.s₀.heap.objs.size<=it)(h2:∀x c,X.env.cells.lookup x=some c->c≠it)(h3:∀p∈X.pn++af,p.1≠it):Inv X af σ H { s with heap:=h',toks:=t' }:=by
 have Vj:∀b u,H b=some u->b≠it:=λb u e z=>by rw [z,hn] at e;cases e
 refine I.step (g':=s.gens) (d':=s.drawn) (ch:=[it]) (λb hb=>?_) (λb o _ _ hc e _=>k b o (λz=>hc (by simp [z])) e) (λb o _ _ hc e _=>⟨o.slots,k b o (λz=>hc (by simp [z])) e⟩) (λ_ _ _ _ n=>n)
  (λb o hc e=>⟨o,k b o (λz=>hc (by simp [z])) e⟩) (λ_ _ e=>e) (λ_ _ _ e=>e) (λb ps e=>⟨#[],by rw [e];simp⟩) (λm hm=>?_) (λb u e=>?_) I.bare
 .have e:b=it:=by simpa using hb
  subst e;exact⟨h1,hL,h2,h3⟩
 .obtain⟨o,es,ep,ho,r⟩:=hm;exact⟨o,es,ep,k _ o (du hL) ho,r⟩
 refine(I.bo b u e).gZ (λc v hc q=>k c v ?_ q) (λ_ q=>q) λ_ _ q=>q;rcases hc with z | z
 .rw [z];exact Vj b u e
 exact Vj c _ z
def Inv.tok (I:Inv X af σ H s) (t:Nat):Inv X af σ H { s with toks:=t }:=I.un (h':=s.heap) (t':=t) Un.refl I.bo
theorem Inv.kept {t':Nat}(I:Inv X af σ H s)(k:∀b u,s.heap.get? b=some u->h'.get? b=some u):Inv X af σ H { s with heap:=h',toks:=t' }:=I.un (Un.kept k) (I.bo.kept k)
theorem Inv.laid {a:Addr}{o:HO}{t':Nat}(I:Inv X af σ H s)(k:∀b u,s.heap.get? b=some u->h'.get? b=some u)(hp:s.heap.objs.size<=a)(new:bE X.prog X.w (upd H a o) h' a o) :
  Inv X af σ (upd H a o) { s with heap:=h',toks:=t' }:=I.un (Un.laid k hp (I.bo.fresh hp)) (I.bo.laid k hp new)
theorem Inv.write {x e:Addr}{o:HO}{t':Nat}(I:Inv X af σ H s)(mu:OV (H x))(he:e=x\/H e=some (.own x))(k:∀b u,b≠e->s.heap.get? b=some u->h'.get? b=some u)(Ll:∃u,h'.get? e=some u)
  (new:bE X.prog X.w (upd H x o) h' x o):Inv X af σ (upd H x o) { s with heap:=h',toks:=t' }:=I.un (Un.write mu he k Ll) (I.bo.write mu he k Ll new)
def Inv.zU {iO:List (Addr×Obj)}(I:Inv X af σ H s)(h:∀p∈iO,s.heap.get? p.1=some p.2/\H p.1=none/\p.1≠X.env.locals/\p.1∉X.fs/\∀v,p.2.data≠.cell v):Inv X iO σ H s :=
 ⟨I.ok,I.os,I.bare,I.base,I.loc,I.cell,I.free,I.ik,λp hp=>(cq.mp hp).elim (λz=>I.pin p (i4 _ z)) (h p),I.bo,I.len⟩
def qd {N:List Str}(hN:N.Nodup){i j:Nat}{x:Str}(a:N[i]?=some x)(b:N[j]?=some x):i=j:=by
 obtain⟨h1,e1⟩:=ba.mp a;obtain⟨h2,e2⟩:=ba.mp b;exact(tL hN).mp (e1.trans e2.symm)
def rR {M:Model}{A:Around}{E:Value->Shared->Prop}{i:Nat}{x:Str}{v:V}{u:Value}{Q:Unit->Shared->Prop}(I:Inv X af σ H s)(hN:X.N.Nodup)(hi:X.N[i]?=some x)(hx:Loc X.env.scope x)(r:RelV v u)
  (h:∀s',Inv X af (σ.set i (some v)) H s'->(∃a,Heap.SameBut a s.heap s'.heap/\(a=X.env.locals\/X.env.cells.lookup x=some a))->Q () s')(hf:X.fn x=true\/X.env.scope.names.lookup x=some .local:=by first | exact .inl rfl | exact .inr rfl | assumption):wpAny M A (storeName X.env x u) Q E s:=by
 obtain⟨m,hn,hl⟩:=id I.loc;have SU:(X.env.scope.kind == .class || (X.env.scope.kind == .module && X.env.locals != X.env.globals))=false:=by rw [I.ok.kind];rfl
 have VU:i < σ.length:=by rw [I.len];exact(ba.mp hi).1
 have HX:=I.HX;have tracked:∀{a:Addr}{h':Heap},(∃o,s.heap.get? a=some o/\H a=none)->Heap.SameBut a s.heap h'->jM X.prog X.w H h':=λ{a h'} ha hs b ob e=>by
  obtain⟨_,_,lM⟩:=ha;refine(I.bo b ob e).gZ (λc w' hc q=>(hs.2 c ?_).trans q) (λ_ q=>q) λ_ _ q=>q;rintro rfl;rcases hc with rfl | hc
  .rw [lM] at e;cases e
  rw [lM] at hc;cases hc
 rcases hx with hk | hk
 .refine wpAny_storeName_local hk hn (λh' JL hs=>?_) SU;obtain⟨oL,_,_,Zm,_⟩:=id hn;refine h _ ⟨I.ok,I.os,I.bare,⟨λb o e n hb hx=>?_,λb o e n hb hx=>?_,I.base.free,λb o e hx=>?_,I.base.j6,I.base.jq,I.base.jG⟩,⟨_,JL,λj y v' e1 e2 e3=>?_⟩,λy c e=>?_,I.free,I.ik,λp hp=>?_,tracked ⟨oL,Zm,I.free⟩ hs,by simpa using I.len⟩ ⟨_,hs,.inl rfl⟩
  .exact(hs.2 b (a_ (dA (aP e) I.ok.above))).trans (I.base.keep b o e n hb hx)
  .obtain⟨sl,e1⟩:=I.base.slot b o e n hb hx;exact⟨sl,(hs.2 b (a_ (dA (aP e) I.ok.above))).trans e1⟩
  .obtain⟨o',e1⟩:=I.base.there b o e hx;exact⟨o',(hs.2 b (a_ (dA (aP e) I.ok.above))).trans e1⟩
  .by_cases hj:j=i
   .subst hj;rw [hi] at e1;cases e1;rw [uh VU] at e2;cases e2;exact⟨u,r,.inl ⟨hk,by simp⟩⟩
   rw [List.getElem?_set_ne (du hj)] at e2;obtain⟨u',r',q⟩:=hl j y v' e1 e2 e3;refine⟨u',r',?_⟩;rcases q with ⟨k,e⟩ | ⟨k,c,e,z⟩
   .refine .inl ⟨k,?_⟩;have:y≠x:=λe=>hj (qd hN e1 (e ▸ hi));simp [this,e]
   exact .inr ⟨k,c,e,z.sameBut hs (HX y c e)⟩
  .obtain⟨w',z⟩:=I.cell y c e;exact⟨w',z.sameBut hs (HX y c e)⟩
  obtain⟨e,n,ne,nf,d⟩:=I.pin p hp;exact⟨(hs.2 p.1 ne).trans e,n,ne,nf,d⟩
 have SI:X.fn x=true:=by
  rcases hf with z | z
  .exact z
  rw [z] at hk;cases hk
 obtain⟨c,hc⟩:=I.ok.has x (.inl hk);obtain⟨w',z⟩:=I.cell x c hc;refine wpAny_storeName_cell I.ok.kind hk hc z (λh' jJ hs=>?_);obtain⟨oc,w_,Sq⟩:=id z;refine h { s with heap:=h' } ⟨I.ok,I.os,I.bare,⟨λb o e n hb hx=>?_,λb o e n hb hx=>?_,I.base.free,λb o e hx=>?_,I.base.j6,I.base.jq,I.base.jG⟩,⟨m,hn.sameBut hs (du (HX x c hc)),λj y v' e1 e2 e3=>?_⟩,λy c' e=>?_,I.free,I.ik,λp hp=>?_,tracked ⟨oc,w_,I.ik x c hc⟩ hs,by simpa using I.len⟩ ⟨c,hs,.inr hc⟩
 .exact(hs.2 b (a_ (dA (aP e) (I.ok.LK x c SI hc)))).trans (I.base.keep b o e n hb hx)
 .obtain⟨sl,e1⟩:=I.base.slot b o e n hb hx;exact⟨sl,(hs.2 b (a_ (dA (aP e) (I.ok.LK x c SI hc)))).trans e1⟩
 .obtain⟨o',e1⟩:=I.base.there b o e hx;exact⟨o',(hs.2 b (a_ (dA (aP e) (I.ok.LK x c SI hc)))).trans e1⟩
 .by_cases hj:j=i
  .subst hj;rw [hi] at e1;cases e1;rw [uh VU] at e2;cases e2;exact⟨u,r,.inr ⟨.inl hk,c,hc,jJ⟩⟩
  rw [List.getElem?_set_ne (du hj)] at e2;obtain⟨u',r',q⟩:=hl j y v' e1 e2 e3;refine⟨u',r',?_⟩;rcases q with q | ⟨k,c',e,z'⟩
  .exact .inl q
  refine .inr ⟨k,c',e,z'.sameBut hs ?_⟩;rintro rfl;exact hj (qd hN e1 (I.ok.inj _ _ _ e hc ▸ hi))
 .by_cases HE:c'=c
  .subst HE;exact⟨_,jJ⟩
  obtain⟨w2,z2⟩:=I.cell y c' e;exact⟨w2,z2.sameBut hs HE⟩
 obtain⟨e,n,ne,nf,d⟩:=I.pin p hp;refine⟨(hs.2 p.1 ?_).trans e,n,ne,nf,d⟩;intro q;rw [q,w_] at e;have q':oc=p.2:=gP e;exact d w' (by rw [<-q'];exact Sq)
def jf {M:Model}{A:Around}{E:Value->Shared->Prop}{i:Nat}{x:Str}{v:V}{u:Value}{Q:Unit->Shared->Prop}(I:Inv X af σ H s)(hN:X.N.Nodup)(hi:X.N[i]?=some x)(hx:Loc X.env.scope x)(r:RelV v u)
  (h:∀s',Inv X af (σ.set i (some v)) H s'->Q () s')(hf:X.fn x=true\/X.env.scope.names.lookup x=some .local:=by first | exact .inl rfl | exact .inr rfl | assumption):wpAny M A (storeName X.env x u) Q E s :=
 rR I hN hi hx r (λs' I' _=>h s' I') hf
def Inv.An {s':Shared}{ch:List Addr}(I:Inv X af σ H s)(ho:s'.os=s.os)(u:Un (oF X.stack) ch H H' s.heap s'.heap)(bo:jM X.prog X.w H' s'.heap)(hg:AllBare s'.gens)
  (E5:∀b∈ch,(b∈X.ex\/X.s₀.heap.objs.size<=b)/\b≠X.env.locals/\(∀x c,X.env.cells.lookup x=some c->c≠b)/\∀p∈X.pn++af,p.1≠b):Inv X af σ H' s':=by
 obtain⟨h',g',d',t',o'⟩:=s';have e:o'=s.os:=ho;subst e;exact I.call (g':=g') (t':=t') (d':=d') u bo hg E5
end
abbrev XK:=Value->Option Addr->Hp->Prop
abbrev St:=List (Option V)
abbrev bu (a:Addr):Option V:=some (.ref a)
abbrev VK:=V->Hp->Prop
abbrev TE:=St->Hp->VK->Prop
abbrev TT:=St->Hp->(Bool->Hp->Prop)->Prop
abbrev TA:=St->Hp->(List V->Hp->Prop)->Prop
structure Ends where
 nx:St->Hp->Prop
 rt:VK
 bk:St->Hp->Prop:=λ_ _=>False
 ct:St->Hp->Prop:=λ_ _=>False
abbrev TS:=Ends->St->Hp->Prop
def EP (X:Cx)(af:List (Addr×Obj))(σ:St)(Q:VK)(u:Value)(s':Shared):Prop:=∃v H',Inv X af σ H' s'/\RelV v u/\Q v H'
def TP (X:Cx)(af:List (Addr×Obj))(σ:St)(Q:Bool->Hp->Prop)(b:Bool)(s':Shared):Prop:=∃H',Inv X af σ H' s'/\Q b H'
def AP (X:Cx)(af:List (Addr×Obj))(σ:St)(Q:List V->Hp->Prop)(us:List Value)(s':Shared):Prop:=∃vs H',Inv X af σ H' s'/\aO vs us/\Q vs H'
def SP (X:Cx)(af:List (Addr×Obj))(D:Ends)(f:Flow)(s':Shared):Prop :=
 match f with
 | .next=>∃σ' H',Inv X af σ' H' s'/\D.nx σ' H'
 | .brk=>∃σ' H',Inv X af σ' H' s'/\D.bk σ' H'
 | .cont=>∃σ' H',Inv X af σ' H' s'/\D.ct σ' H'
 | .ret u=>∃v σ' H',Inv X af σ' H' s'/\RelV v u/\D.rt v H'
def PE (X:Cx)(e:Expr)(t:TE):Prop :=
 ∀(af:List (Addr×Obj))(s:Shared)(σ:St)(H:Hp)(Q:VK),Inv X af σ H s->t σ H Q->wpAny (model X.prog X.w) X.A (eval e X.env) (EP X af σ Q) X.xe s
def PT (X:Cx)(e:Expr)(t:TT):Prop :=
 ∀(af:List (Addr×Obj))(s:Shared)(σ:St)(H:Hp)(Q:Bool->Hp->Prop),Inv X af σ H s->t σ H Q->wpAny (model X.prog X.w) X.A (isTrue e X.env (eval e X.env)) (TP X af σ Q) X.xe s
def PW (X:Cx)(e:Expr)(t:TT):Prop :=
 ∀(whole:Sem Value)(af:List (Addr×Obj))(s:Shared)(σ:St)(H:Hp)(Q:Bool->Hp->Prop),Inv X af σ H s->t σ H Q->wpAny (model X.prog X.w) X.A (isTrue e X.env whole) (TP X af σ Q) X.xe s
def PW.pt {X:Cx}{e:Expr}{t:TT}(h:PW X e t):PT X e t:=h _
def PA (X:Cx)(es:List Expr)(t:TA):Prop :=
 ∀(pos:Pos)(af:List (Addr×Obj))(s:Shared)(σ:St)(H:Hp)(Q:List V->Hp->Prop),Inv X af σ H s->t σ H Q->wpAny (model X.prog X.w) X.A (spliced (backTo pos (starEach es X.env))) (AP X af σ Q) X.xe s
def PS (X:Cx)(st:Stmt)(t:TS):Prop :=
 ∀(af:List (Addr×Obj))(s:Shared)(σ:St)(H:Hp)(D:Ends),Inv X af σ H s->t D σ H->wpAny (model X.prog X.w) X.A (exec st X.env) (SP X af D) X.xe s
def vo (X:Cx)(st:List Stmt)(t:TS):Prop :=
 ∀(af:List (Addr×Obj))(s:Shared)(σ:St)(H:Hp)(D:Ends),Inv X af σ H s->t D σ H->wpAny (model X.prog X.w) X.A (execs st X.env) (SP X af D) X.xe s
def b8 {α:Type}{t:Sem α}{Q Q':α->Shared->Prop}{M:Model}{A:Around}{E:Value->Shared->Prop}{s:Shared}(h:wpAny M A t Q E s)(hQ:∀a s,Q a s->Q' a s):wpAny M A t Q' E s:=bY h hQ λ_ _ x=>x
section
variable {X:Cx}
def bin {a b:Expr}{ta tb:TE}(ha:PE X a ta)(hb:PE X b tb){af:List (Addr×Obj)}{s:Shared}{σ:St}{H:Hp}{R:V->V->Hp->Prop}(I:Inv X af σ H s)(h:ta σ H λx H1=>tb σ H1 λy H2=>R x y H2)
  {α:Type}{Q:α->Shared->Prop}{f:Value->Value->Sem α}
  (hf:∀v u s2 x y H2,Inv X af σ H2 s2->RelV x v->RelV y u->R x y H2->wpAny (model X.prog X.w) X.A (f v u) Q X.xe s2) :
  wpAny (model X.prog X.w) X.A (eval a X.env) (λv s₁=>wpAny (model X.prog X.w) X.A (eval b X.env) (λu s₂=>wpAny (model X.prog X.w) X.A (f v u) Q X.xe s₂) X.xe s₁) X.xe s:=by
 refine b8 (ha af s σ H _ I h) λv s1 aR=>?_;obtain⟨x,H1,I1,r1,q1⟩:=aR;refine b8 (hb af s1 σ H1 _ I1 q1) λu s2 aR=>?_;obtain⟨y,H2,I2,r2,q2⟩:=aR;exact hf v u s2 x y H2 I2 r1 r2 q2
inductive OJ (o:Option (Option V))(R:V->Prop):Prop
|mk(v:V)(e:o=some (some v))(q:R v)
inductive XB (x:V)(R:Bool->Prop):Prop
|mk(c:Bool)(e:x=.bl c)(q:R c)
inductive Uz (x:V)(R:Int->Prop):Prop
|mk(i:Int)(e:x=.int i)(q:R i)
inductive WV (x y:V)(R:Int->Int->Prop):Prop
|mk(i j:Int)(e:x=.int i)(e2:y=.int j)(q:R i j)
inductive WU (x y:V)(C:Int->Int->Prop)(R:Int->Int->Prop):Prop
|mk(i j:Int)(e:x=.int i)(e2:y=.int j)(c:C i j)(q:R i j)
inductive Ic (vs:List V)(R:V->List V->Prop):Prop
|mk(v:V)(r:List V)(e:vs=v::r)(q:R v r)
inductive OK (v:V)(S:Addr->List V->Prop) (n:Nat)(R:List V->Prop):Prop
|mk(a:Addr)(xs:List V)(e:v=.ref a)(s:S a xs)(l:xs.length=n)(q:R xs)
inductive Qd (x:V)(S:Addr->Prop)(R:Addr->Prop):Prop
|mk(a:Addr)(e:x=.ref a)(s:S a)(q:R a)
inductive WQ (x:V)(S:Addr->List V->Prop)(R:List V->Prop):Prop
|mk(a:Addr)(xs:List V)(e:x=.ref a)(s:S a xs)(q:R xs)
inductive WZ (S:Addr->List V->Prop)(x y:V)(R:List V->List V->Prop):Prop
|mk(a b:Addr)(xs ys:List V)(e:x=.ref a)(e2:y=.ref b)(s:S a xs)(s2:S b ys)(z:xs.length+ys.length<=sizeLine)(q:R xs ys)
inductive WS (vs:List V)(R:Int->Prop):Prop
|mk(j:Int)(e:vs=[.int j])(l:-(2 ^ 62)<=j)(u:j < 2 ^ 62)(q:R j)
inductive UA (vs:List V)(S:Addr->List V->Prop)(R:Addr->Prop):Prop
|mk(a:Addr)(xs:List V)(e:vs=[.ref a])(s:S a xs)(q:R a)
inductive KN (xs:List V)(S:Addr->List V->Prop)(R:List V->Prop):Prop
|mk(p:Addr)(ys:List V)(e:xs=[.ref p])(s:S p ys)(q:R ys)
def e_ (i:Nat):TE:=λσ H Q=>OJ σ[i]? λv=>Q v H
def tC (v:V):TE:=λ_ H Q=>Q v H
def Jd {i:Nat}{x:Str}{pos:Pos}(hN:X.N[i]?=some x)(hv:Qe X.env.scope x)(hd:(x == ("__debug__":Str))=false:=by decide)(qv:(x == ("__classdict__":Str))=false:=by decide):PE X (.Name x pos) (e_ i):=by
 intro af s σ H Q I h;obtain⟨v,e,h⟩:=h;obtain⟨m,hn,hl⟩:=I.loc;obtain⟨u,r,l⟩:=hl i x v hN e hv;have fin:EP X af σ Q u s:=⟨v,H,I,r,h⟩;rcases l with ⟨hk,hm⟩ | ⟨hk,c,hc,ij⟩
 .exact wpAny_Name (tV I.ok.kind hk hn hm fin) hd
 rcases hk with hk | hk
 .exact wpAny_Name (wpAny_loadName_cell I.ok.kind hk hc ij fin) hd
 exact wpAny_Name (wpAny_loadName_free I.ok.kind hk hc ij fin qv) hd
def aA {i j pos}:PE X (.Constant (.int i) j pos) (tC (.int i)):=λ_ _ _ H _ I h=>wpAny_Constant_int ⟨.int i,H,I.tok _,⟨_,rfl⟩,h⟩
def gw {b j pos}:PE X (.Constant (.bool b) j pos) (tC (.bl b)):=λ_ _ _ H _ I h=>Constant_bool ⟨.bl b,H,I,rfl,h⟩
def C2 {j pos}:PE X (.Constant .none j pos) (tC .cU):=λ_ _ _ H _ I h=>Constant_none ⟨.cU,H,I,rfl,h⟩
def C0 {x j pos}:PE X (.Constant (.str x) j pos) (tC (.str x)):=λ_ _ _ H _ I h=>Calls.Constant_str ⟨.str x,H,I.tok _,⟨_,rfl⟩,h⟩
def Gl (X:Cx)(x:Str):Prop:=X.env.kindOf x=some .globalImplicit
def iF {E:Value->Shared->Prop}{af:List (Addr×Obj)}{s:Shared}{σ:St}{H:Hp}{x:Str}{u:Value}{pos:Pos}{Q:Value->Shared->Prop}(I:Inv X af σ H s)(hg:Gl X x)(hm:X.mg x=some u)(h:Q u s)
  (hd:(x == ("__debug__":Str))=false:=by decide):wpAny (model X.prog X.w) X.A (eval (.Name x pos) X.env) Q E s :=
 Calls.Name_function_global I.ok.kind hg (Calls.loadGlobal_global (by rw [I.ok.glob];exact I.mod.glob.keeps I.bk) hm h) hd
def iG {E:Value->Shared->Prop}{af:List (Addr×Obj)}{s:Shared}{σ:St}{H:Hp}{x:Str}{u:Value}{pos:Pos}{Q:Value->Shared->Prop}(I:Inv X af σ H s)(hg:Gl X x)(hm:X.mg x=none)(hv:bootBuiltins x=some u)(h:Q u s)
  (hn:x ≠ "__name__" := by decide)(hd:(x == ("__debug__":Str))=false:=by decide):wpAny (model X.prog X.w) X.A (eval (.Name x pos) X.env) Q E s:=by
 obtain⟨mb,h1,h2⟩:=I.mod.blt;exact Calls.Name_function_global I.ok.kind hg (Calls.loadGlobal_builtin (by rw [I.ok.glob];exact I.mod.glob.keeps I.bk) hm (by rw [I.ok.blt];exact h1.keeps I.bk) ((h2 x hn).trans hv) h) hd
def lH {x:Str}{v:V}{u:Value}{pos:Pos}(hg:Gl X x)(hm:X.mg x=some u)(r:RelV v u)(hd:(x == ("__debug__":Str))=false:=by decide):PE X (.Name x pos) (tC v) :=
 λ_ _ _ H _ I h=>iF I hg hm ⟨v,H,I,r,h⟩ hd
def z5 {x:Str}{v:V}{u:Value}{pos:Pos}(hg:Gl X x)(hm:X.mg x=none)(hv:bootBuiltins x=some u)(r:RelV v u)(hn:x ≠ "__name__" := by decide)(hd:(x == ("__debug__":Str))=false:=by decide):PE X (.Name x pos) (tC v) :=
 λ_ _ _ H _ I h=>iG I hg hm hv ⟨v,H,I,r,h⟩ hn hd
variable {a b:Expr}{ta tb:TE}{pos:Pos}
def PC (X:Cx)(op:CmpOp)(a b:Expr)(t:TE):Prop :=
 ∀(af:List (Addr×Obj))(s:Shared)(σ:St)(H:Hp)(Q:VK),Inv X af σ H s->t σ H Q ->
  wpAny (model X.prog X.w) X.A (eval a X.env) (λv s₁=>wpAny (model X.prog X.w) X.A (eval b X.env) (λu s₂=>wpAny (model X.prog X.w) X.A (compareOp op v u) (EP X af σ Q) X.xe s₂) X.xe s₁) X.xe s
def vS (b:Expr){op:CmpOp}(h:op≠.In)(h2:op≠.NotIn):behindInMarks op b=false:=by
 have e1:(op == CmpOp.In)=false:=by cases op <;> first | rfl | exact absurd rfl h
 have e2:(op == CmpOp.NotIn)=false:=by cases op <;> first | rfl | exact absurd rfl h2
 cases b <;> simp [behindInMarks,e1,e2]
def QG (ta:TE):TE:=λσ H Q=>ta σ H λx H1=>Q (.bl (decide (x=.cU))) H1
def RelV.Dw {x:V}{v:Value}(r:RelV x v):(v == Value.none)=decide (x=.cU):=by
 cases x with
 | cU=>cases r;rfl
 | bl _=>cases r;rfl
 | int _=>obtain⟨t,rfl⟩:=r;rfl
 | str _=>obtain⟨t,rfl⟩:=r;rfl
 | zg _=>obtain⟨t,rfl⟩:=r;rfl
 | Km _=>obtain⟨t,rfl⟩:=r;rfl
 | ref _=>cases r;rfl
 | ty _=>cases r;rfl
def Jf {j pos'}(ha:PE X a ta):PC X .Is a (.Constant .none j pos') (QG ta):=by
 intro af s σ H Q I h;refine b8 (ha af s σ H _ I h) λv s1 aR=>?_;obtain⟨x,H1,I1,r1,q1⟩:=aR;exact Constant_none (is_none_gen ⟨.bl _,H1,I1,by rw [r1.Dw];rfl,q1⟩)
def tB (t:TE):TT:=λσ H Q=>t σ H λx H1=>XB x λc=>Q c H1
def C7 {op:CmpOp}{t:TE}(h:PC X op a b t)(h1:behindInMarks op b=false:=by first | exact vS _ nofun nofun | rfl):PE X (.Compare a [op] [b] pos) t:=λaf s σ H Q I hw=>wpAny_Compare1 (h af s σ H Q I hw) h1
def eI {op:CmpOp}{t:TE}(h:PC X op a b t)(h1:behindInMarks op b=false:=by first | exact vS _ nofun nofun | rfl):PT X (.Compare a [op] [b] pos) (tB t):=by
 intro af s σ H Q I hw;refine wpAny_isTrue_Compare1 (b8 (h af s σ H _ I hw) λv s1 h1=>b8 h1 λu s2 h2=>b8 h2 λc s3 aR=>?_) h1;obtain⟨x,H1,I1,r1,q1⟩:=aR;obtain⟨d,rfl,q⟩:=q1;cases r1;exact nP ⟨H1,I1,q⟩
def ji {e:Expr}{t:TE}(h:PE X e t)(he:∀whole,isTrue e X.env whole=(do let v <-whole;standAt e.pos;holding [v] (truthy v)):=by intro _;rfl):PT X e (tB t):=by
 intro af s σ H Q I hw;refine isTrue_plain (b8 (h af s σ H _ I hw) λv s1 aR=>?_) (he _);obtain⟨x,H1,I1,r1,q1⟩:=aR;obtain⟨d,rfl,q⟩:=q1;cases r1;exact nP ⟨H1,I1,q⟩
variable {tA O9:TT}{rest:List Expr}
def QL (t u:TT):TT:=λσ H Q=>t σ H λc H1=>if c=true then u σ H1 Q else Q false H1
def Xm (t u:TT):TT:=λσ H Q=>t σ H λc H1=>if c=true then Q true H1 else u σ H1 Q
def QE (t:TT):TT:=λσ H Q=>t σ H λc H1=>Q (!c) H1
def oW (ha:PT X a tA):PW X (.BoolOp .And [a] pos) tA:=by
 intro wh af s σ H Q I h;refine isTrue_and (b8 (ha af s σ H Q I h) λc s1 e=>?_);cases c with
 | true=>exact isTrue_and_nil e
 | false=>exact e
def x_ (ha:PT X a tA):PW X (.BoolOp .Or [a] pos) tA:=by
 intro wh af s σ H Q I h;refine isTrue_or (b8 (ha af s σ H Q I h) λc s1 e=>?_);cases c with
 | false=>exact isTrue_or_nil e
 | true=>exact e
def uI (ha:PT X a tA)(hb:PW X (.BoolOp .And (b::rest) pos) O9):PW X (.BoolOp .And (a::b::rest) pos) (QL tA O9):=by
 intro wh af s σ H Q I h;refine isTrue_and (b8 (ha af s σ H _ I h) λc s1 aR=>?_);obtain⟨H1,I1,q1⟩:=aR;cases c with
 | true=>exact hb wh af s1 σ H1 Q I1 q1
 | false=>exact⟨H1,I1,q1⟩
def zS (ha:PT X a tA)(hb:PW X (.BoolOp .Or (b::rest) pos) O9):PW X (.BoolOp .Or (a::b::rest) pos) (Xm tA O9):=by
 intro wh af s σ H Q I h;refine isTrue_or (b8 (ha af s σ H _ I h) λc s1 aR=>?_);obtain⟨H1,I1,q1⟩:=aR;cases c with
 | true=>exact⟨H1,I1,q1⟩
 | false=>exact hb wh af s1 σ H1 Q I1 q1
def yb (ha:PT X a tA):PT X (.UnaryOp .Not a pos) (QE tA):=by
 intro af s σ H Q I h;exact isTrue_not (ha af s σ H (λc H1=>Q (!c) H1) I h)
def Mm (ta tb:TE):TE:=λσ H Q=>ta σ H λx H1=>XB x λc=>if c=true then tb σ H1 Q else Q (.bl false) H1
def QD (ta tb:TE):TE:=λσ H Q=>ta σ H λx H1=>XB x λc=>if c=true then Q (.bl true) H1 else tb σ H1 Q
def ye {op}{t:TE}(h:PE X a t):PE X (.BoolOp op [a] pos) t:=λaf s σ H Q I hw=>BoolOp_one (h af s σ H Q I hw)
def Je (ha:PE X a ta)(hb:PE X (.BoolOp .And (b::rest) pos) tb):PE X (.BoolOp .And (a::b::rest) pos) (Mm ta tb):=by
 intro af s σ H Q I h;refine BoolOp_and (b8 (ha af s σ H _ I h) λv s1 aR=>?_);obtain⟨x,H1,I1,r1,q1⟩:=aR;obtain⟨c,rfl,q1⟩:=q1;cases r1;refine nP ?_;cases c with
 | true=>exact hb af s1 σ H1 Q I1 q1
 | false=>exact⟨.bl false,H1,I1,rfl,q1⟩
def Hk (ha:PE X a ta)(hb:PE X (.BoolOp .Or (b::rest) pos) tb):PE X (.BoolOp .Or (a::b::rest) pos) (QD ta tb):=by
 intro af s σ H Q I h;refine BoolOp_or (b8 (ha af s σ H _ I h) λv s1 aR=>?_);obtain⟨x,H1,I1,r1,q1⟩:=aR;obtain⟨c,rfl,q1⟩:=q1;cases r1;refine nP ?_;cases c with
 | false=>exact hb af s1 σ H1 Q I1 q1
 | true=>exact⟨.bl true,H1,I1,rfl,q1⟩
def Xo (t:TT)(ta tb:TE):TE:=λσ H Q=>t σ H λc H1=>if c=true then ta σ H1 Q else tb σ H1 Q
def vO {c:Expr}(hc:PT X c tA)(ha:PE X a ta)(hb:PE X b tb):PE X (.IfExp c a b pos) (Xo tA ta tb):=by
 intro af s σ H Q I h;refine wpAny_IfExp (b8 (hc af s σ H _ I h) λd s1 aR=>?_);obtain⟨H1,I1,q1⟩:=aR;cases d with
 | true=>exact ha af s1 σ H1 Q I1 q1
 | false=>exact hb af s1 σ H1 Q I1 q1
end
def aD (K:aT)(H:Hp)(a:Addr)(xs:List V):Prop :=
 Rd H a (.lst xs) \/
  ∃(o:Obj)(aL:Array Value) (n:Nat),K.lookup a=some o/\o.cls=.type "list" /\ o.dict=none/\o.data=.seq aL n/\aL.size<=sizeLine/\aO xs aL.toList
def aX (K:aT)(H:Hp)(a:Addr)(xs:List V):Prop :=
 Rd H a (.tup xs) \/
  ∃(o:Obj)(aL:Array Value) (n:Nat),K.lookup a=some o/\o.cls=.type "tuple" /\ o.data=.seq aL n/\aL.size<=sizeLine/\aO xs aL.toList
def Uw:Value->Option V
 | .none=>some .cU
 | .bool b=>some (.bl b)
 | .int i _=>some (.int i)
 | .str x _=>some (.str x)
 | .bytes b _=>some (.zg b)
 | .float b _=>some (.Km b)
 | .ref a=>some (.ref a)
 | .type n=>some (.ty n)
 | _=>none
def RelV.abs {x:V}{u:Value}(r:RelV x u):Uw u=some x:=by
 cases x with
 | cU=>cases r;rfl
 | bl _=>cases r;rfl
 | int _=>obtain⟨t,rfl⟩:=r;rfl
 | str _=>obtain⟨t,rfl⟩:=r;rfl
 | zg _=>obtain⟨t,rfl⟩:=r;rfl
 | Km _=>obtain⟨t,rfl⟩:=r;rfl
 | ref _=>cases r;rfl
 | ty _=>cases r;rfl
def RelV.inj {x y:V}{u:Value}(r:RelV x u)(q:RelV y u):x=y:=gP (r.abs.symm.trans q.abs)
theorem aO.inj:∀{xs ys:List V}{us:List Value},aO xs us->aO ys us->xs=ys
 | _,_,_,.nil,.nil=>rfl
 | _,_,_,.cons r t,.cons r' t'=>by rw [r.inj r',aO.inj t t']
section
variable {X:Cx}{af:List (Addr×Obj)}{σ:St}{H:Hp}{s:Shared}{a:Addr}{xs ys:List V}
def aD.of {K:aT}(h:H a=some (.lst xs)):aD K H a xs:=.inl (.inl h)
def aX.of {K:aT}(h:H a=some (.tup xs)):aX K H a xs:=.inl (.inl h)
def Inv.list (I:Inv X af σ H s)(h:aD X.K H a xs):∃aL:List Value,aO xs aL/\PlainL s.heap a aL.toArray/\xs.length<=sizeLine:=by
 rcases h with h | ⟨o,aL,n,hk,hc,hd,hs,hz,r⟩
 .obtain⟨z,aL,n,r,e⟩:=h.ok I.bo;exact⟨aL,r,⟨_,n,e,rfl,rfl,rfl⟩,z⟩
 refine⟨aL.toList,r,⟨o,n,I.jI a o hk,hc,hd,by simpa using hs⟩,?_⟩;have e:=r.length;simp only [Array.length_toList] at e;omega
def Inv.tuple (I:Inv X af σ H s)(h:aX X.K H a xs):∃aL:List Value,aO xs aL/\IsTup s.heap a aL.toArray/\xs.length<=sizeLine:=by
 rcases h with h | ⟨o,aL,n,hk,hc,hs,hz,r⟩
 .obtain⟨z,aL,r,p⟩:=h.ok I.bo;exact⟨aL,r,p,z⟩
 refine⟨aL.toList,r,⟨o,I.jI a o hk,hc,n,by simpa using hs⟩,?_⟩;have e:=r.length;simp only [Array.length_toList] at e;omega
def Inv.qh (I:Inv X af σ H s)(h:aD X.K H a xs)(h':aD X.K H a ys):xs=ys:=by
 obtain⟨aL,r,⟨o,n,e,_,_,d⟩,_⟩:=I.list h;obtain⟨lL,r',⟨o',n',e',_,_,d'⟩,_⟩:=I.list h';rw [e] at e';cases e';rw [d] at d';injection d' with d1 _;have:aL=lL:=by simpa using congrArg Array.toList d1
 subst this;exact r.inj r'
def Inv.rO (I:Inv X af σ H s)(h:aX X.K H a xs)(h':aX X.K H a ys):xs=ys:=by
 obtain⟨aL,r,⟨o,e,_,n,d⟩,_⟩:=I.tuple h;obtain⟨lL,r',⟨o',e',_,n',d'⟩,_⟩:=I.tuple h';rw [e] at e';cases e';rw [d] at d';injection d' with d1 _;have:aL=lL:=by simpa using congrArg Array.toList d1
 subst this;exact r.inj r'
end
abbrev Cx.ow (X:Cx)(E:Value->Shared->Prop):Cx:={ X with xe:=E }
abbrev Cx.AY (X:Cx):Cx:=X.ow λ_ _=>False
theorem Cx.Ok.ow {X:Cx}(ok:X.Ok)(E:Value->Shared->Prop):(X.ow E).Ok :=
 ⟨ok.mod,ok.kind,ok.glob,ok.blt,ok.above,ok.inj,ok.has,ok.LK,ok.hd,ok.frames,ok.G8,ok.Kn,ok.bs,ok.Eu,ok.AZ,ok.yT,ok.lS,ok.Gr⟩
def Cx.Ok.gY {X:Cx}{E:Value->Shared->Prop}(ok:(X.ow E).Ok):X.Ok :=
 ⟨ok.mod,ok.kind,ok.glob,ok.blt,ok.above,ok.inj,ok.has,ok.LK,ok.hd,ok.frames,ok.G8,ok.Kn,ok.bs,ok.Eu,ok.AZ,ok.yT,ok.lS,ok.Gr⟩
section
variable {X:Cx}{af:List (Addr×Obj)}{σ:St}{H:Hp}{s:Shared}{E:Value->Shared->Prop}
theorem Inv.ow (I:Inv X af σ H s)(E:Value->Shared->Prop):Inv (X.ow E) af σ H s:=⟨I.ok.ow E,I.os,I.bare,I.base,I.loc,I.cell,I.free,I.ik,I.pin,I.bo,I.len⟩
theorem Inv.gY (I:Inv (X.ow E) af σ H s):Inv X af σ H s:=⟨I.ok.gY,I.os,I.bare,I.base,I.loc,I.cell,I.free,I.ik,I.pin,I.bo,I.len⟩
theorem SP.gY {D:Ends}{f:Flow}{s':Shared}(h:SP (X.ow E) af D f s'):SP X af D f s':=by
 cases f with
 | next=>obtain⟨σ',H',I,q⟩:=h;exact⟨σ',H',I.gY,q⟩
 | brk=>obtain⟨σ',H',I,q⟩:=h;exact⟨σ',H',I.gY,q⟩
 | cont=>obtain⟨σ',H',I,q⟩:=h;exact⟨σ',H',I.gY,q⟩
 | ret u=>obtain⟨v,σ',H',I,r,q⟩:=h;exact⟨v,σ',H',I.gY,r,q⟩
theorem PE.AY {e:Expr}{t:TE}(h:PE X.AY e t):PE X e t:=λaf s σ H Q I hw =>
 bY (h af s σ H Q (I.ow _) hw) (λ_ _ ⟨v,H',I',r,q⟩=>⟨v,H',I'.gY,r,q⟩) λ_ _ z=>False.elim z
theorem PT.AY {e:Expr}{t:TT}(h:PT X.AY e t):PT X e t:=λaf s σ H Q I hw =>
 bY (h af s σ H Q (I.ow _) hw) (λ_ _ ⟨H',I',q⟩=>⟨H',I'.gY,q⟩) λ_ _ z=>False.elim z
theorem vo.AY {st:List Stmt}{t:TS}(h:vo X.AY st t):vo X st t:=λaf s σ H D I hw =>
 bY (h af s σ H D (I.ow _) hw) (λ_ _ q=>q.gY) λ_ _ z=>False.elim z
end
section
variable {X:Cx}{st:Stmt}{rest:List Stmt}{t u:TS}{e:Expr}{te:TE}{pos:Pos}
def L1:TS:=λD σ H=>D.nx σ H
def ID (t u:TS):TS:=λD σ H=>t { D with nx:=u D } σ H
def bx:vo X [] L1:=λ_ _ σ H _ I h=>ml ⟨σ,H,I,h⟩
def aj (h1:PS X st t)(h2:vo X rest u):vo X (st::rest) (ID t u):=by
 intro af s σ H D I h;refine wpAny_execs_cons (b8 (h1 af s σ H { D with nx:=u D } I h) λf s1 q=>?_);cases f with
 | next =>
  obtain⟨σ',H',I',q⟩:=q;exact h2 af s1 σ' H' D I' q
 | ret v=>exact q
 | brk=>exact q
 | cont=>exact q
def aq (h1:PS X st t):vo X [st] t:=by
 intro af s σ H D I h;refine wpAny_execs_cons (b8 (h1 af s σ H D I h) λf s1 q=>?_);cases f with
 | next=>exact ml q
 | ret v=>exact q
 | brk=>exact q
 | cont=>exact q
def IH:TS:=λD σ H=>D.bk σ H
def CV:PS X (.Break pos) IH:=λ_ _ σ H _ I h=>wpAny_Break ⟨σ,H,I,h⟩
def Inv.quiet {af:List (Addr×Obj)}{σ:St}{H:Hp}{s:Shared}(I:Inv X af σ H s):interactive X.env=false:=by simp [interactive,I.ok.kind]
def Mg (te:TE):TS:=λD σ H=>te σ H λ_ H1=>D.nx σ H1
def cD (he:PE X e te)(hs:swapsWith e none pos.line X.env=pure false:=by rfl):PS X (.Expr e pos) (Mg te):=by
 intro af s σ H D I h;refine wpAny_Expr_any (b8 (he af s σ H _ I h) λv s1 aR=>?_) I.quiet hs;obtain⟨x,H1,I1,r1,q1⟩:=aR;exact⟨σ,H1,I1,q1⟩
def QC (te:TE):TS:=λD σ H=>te σ H D.rt
def bO (he:PE X e te):PS X (.Return (some e) pos) (QC te):=by
 intro af s σ H D I h;refine wpAny_Return_some (b8 (he af s σ H _ I h) λv s1 aR=>?_);obtain⟨x,H1,I1,r1,q1⟩:=aR;exact⟨x,σ,H1,I1,r1,q1⟩
def QH (c:TT)(t u:TS):TS:=λD σ H=>c σ H λb H1=>if b=true then t D σ H1 else u D σ H1
def de {c:Expr}{a b:List Stmt}{tc:TT}(hc:PT X c tc)(ha:vo X a t)(hb:vo X b u):PS X (.If c a b pos) (QH tc t u):=by
 intro af s σ H D I h;refine wpAny_If (b8 (hc af s σ H _ I h) λd s1 aR=>?_);obtain⟨H1,I1,q1⟩:=aR;cases d with
 | true=>exact ha af s1 σ H1 D I1 q1
 | false=>exact hb af s1 σ H1 D I1 q1
def IE:TS:=λ_ _ _=>False
def p6:PS X st IE:=λ_ _ _ _ _ _ h=>h.elim
end
abbrev TG:=V->St->Hp->(St->Hp->Prop)->Prop
abbrev Ig:=List V->St->Hp->(St->Hp->Prop)->Prop
def PG (X:Cx)(target:Expr)(t:TG):Prop :=
 ∀(af:List (Addr×Obj))(s:Shared)(σ:St)(H:Hp)(v:V)(u:Value)(Q:St->Hp->Prop),Inv X af σ H s->RelV v u->t v σ H Q ->
  wpAny (model X.prog X.w) X.A (assign target X.env u) (λ_ s'=>∃σ' H',Inv X af σ' H' s'/\Q σ' H') X.xe s
def OS (X:Cx)(ts:List Expr)(t:Ig):Prop :=
 ∀(af:List (Addr×Obj))(s:Shared)(σ:St)(H:Hp)(vs:List V)(us:List Value)(Q:St->Hp->Prop),Inv X af σ H s->aO vs us->t vs σ H Q ->
  wpAny (model X.prog X.w) X.A (assignInOrder ((assignEach ts X.env).map (·.2)) us) (λ_ s'=>∃σ' H',Inv X af σ' H' s'/\Q σ' H') X.xe s
abbrev KO:=V->V->V->Hp->(Hp->Prop)->Prop
def OR (X:Cx)(t:KO):Prop :=
 ∀(af:List (Addr×Obj))(s:Shared)(σ:St)(H:Hp)(o i v:V)(ov iv u:Value)(Q:Hp->Prop),Inv X af σ H s->RelV o ov->RelV i iv->RelV v u->t o i v H Q ->
  wpAny (model X.prog X.w) X.A (setItem ov iv u) (λ_ s'=>∃H',Inv X af σ H' s'/\Q H') X.xe s
abbrev Qf:=V->V->Hp->VK->Prop
def W6 (X:Cx)(op:Operator)(t:Qf):Prop :=
 ∀(af:List (Addr×Obj))(s:Shared)(σ:St)(H:Hp)(x y:V)(v u:Value)(Q:VK),Inv X af σ H s->RelV x v->RelV y u->t x y H Q ->
  wpAny (model X.prog X.w) X.A (inplaceOp op v u) (EP X af σ Q) X.xe s
section
variable {X:Cx}{pos:Pos}
def cY (i:Nat):TG:=λv σ H Q=>Q (σ.set i (some v)) H
def ar {i:Nat}{x:Str}(hN:X.N.Nodup)(hi:X.N[i]?=some x)(hx:Loc X.env.scope x)(hf:X.fn x=true\/X.env.scope.names.lookup x=some .local:=by first | exact .inl rfl | exact .inr rfl | assumption):PG X (.Name x pos) (cY i):=by
 intro af s σ H v u Q I r h;exact wpAny_assign_Name (jf I hN hi hx r (λs' I'=>⟨_,H,I',h⟩) hf)
def DZ:Ig:=λvs σ H Q=>vs=[]/\Q σ H
def jo (t:TG)(u:Ig):Ig:=λvs σ H Q=>Ic vs λv r=>t v σ H λσ' H'=>u r σ' H' Q
def bW:OS X [] DZ:=by
 intro af s σ H vs us Q I r h;obtain⟨e,h⟩:=h;subst e;cases r;exact assignInOrder_nil ⟨σ,H,I,h⟩
def aC {e:Expr}{es:List Expr}{t:TG}{u:Ig}(h1:PG X e t)(h2:OS X es u)
  (hs:(assignEach (e::es) X.env).map (·.2)=assign e X.env::(assignEach es X.env).map (·.2):=by rfl):OS X (e::es) (jo t u):=by
 intro af s σ H vs us Q I r h;obtain⟨v,vr,e1,h⟩:=h;subst e1;cases r with
 | cons r rr =>
  rw [hs];refine assignInOrder_cons (b8 (h1 af s σ H _ _ _ I r h) λ_ s1 aR=>?_);obtain⟨σ1,H1,I1,q1⟩:=aR;exact h2 af s1 σ1 H1 _ _ Q I1 rr q1
def Bm (K:aT) (n:Nat)(t:Ig):TG:=λv σ H Q=>OK v (aX K H) n λxs=>t xs σ H Q
def eJ {es:List Expr}{k:Nat}{t:Ig}{n:Nat}(hc:X.calm=true)(h:OS X es t)
  (hn:(assignEach es X.env).length=n:=by rfl)(iU:(assignEach es X.env).findIdx? (·.1)=none:=by rfl):PG X (.Tuple es k pos) (Bm X.K n t):=by
 intro af s σ H v u Q I r hw;obtain⟨a,xs,e1,hq,hl,hw⟩:=hw;subst e1;cases r;obtain⟨aL,rv,ht,hz⟩:=I.tuple hq;refine assign_Tuple_tuple (I.ok.hd hc) ht (by simp [hn,<-hl,rv.length]) iU λh' hx=>?_;have I1:Inv X af σ H { s with heap:=h' }:=I.kept (t':=s.toks) λb o e=>hx b o (a_ (aP e)) e;exact h af _ σ H xs _ Q I1 (by simpa using rv) hw
def Ti (to ti:TE)(t:KO):TG:=λv σ H Q=>to σ H λo H1=>ti σ H1 λi H2=>t o i v H2 λH3=>Q σ H3
def Jc {o i:Expr}{to ti:TE}{t:KO}(ho:PE X o to)(hi:PE X i ti)(hs:OR X t)
  (ha:∀v,assign (.Subscript o i pos) X.env v=(do
   let ov <-holding [v] (eval o X.env)
   let iv <-holding [v,ov] (eval i X.env)
   standAt pos
   holding [v,ov,iv] (setItem ov iv v)
   release [v,ov,iv] []):=by intro _;rfl):PG X (.Subscript o i pos) (Ti to ti t):=by
 intro af s σ H v u Q I r h;rw [ha];refine ax (fR (b8 (ho af s σ H _ I h) λov s1 aR=>?_));obtain⟨x,H1,I1,r1,q1⟩:=aR;refine ax (fR (b8 (hi af s1 σ H1 _ I1 q1) λiv s2 aR=>?_));obtain⟨y,H2,I2,r2,q2⟩:=aR;refine ax (wpAny_standAt (ax (fR (b8 (hs af s2 σ H2 x y v ov iv u _ I2 r1 r2 r q2) λ_ s3 aR=>?_))));obtain⟨H3,I3,q3⟩:=aR;exact wpAny_release ⟨σ,H3,I3,q3⟩
def II (te:TE)(g:TG):TS:=λD σ H=>te σ H λx H1=>g x σ H1 D.nx
def CW {tg e:Expr}{te:TE}{g:TG}(he:PE X e te)(hg:PG X tg g)(hs:swapsWithSole [tg] e pos.line X.env=pure false:=by rfl)(hw:swappedStores [tg] e X.env=pure none:=by rfl)
  (h1:(assignEach [tg] X.env).map (·.2)=[assign tg X.env]:=by rfl):PS X (.Assign [tg] e pos) (II te g):=by
 intro af s σ H D I h;refine wpAny_Assign_stores (b8 (he af s σ H _ I h) λv s1 aR=>?_) hs hw;obtain⟨x,H1,I1,r1,q1⟩:=aR;rw [h1];exact b8 (hg af s1 σ H1 x v _ I1 r1 q1) λ_ s2 q=>q
def aI {i:Nat}{x:Str}{e:Expr}{te:TE}{pos':Pos}(hN:X.N.Nodup)(hi:X.N[i]?=some x)(hx:Loc X.env.scope x)(he:PE X e te)(hs:swapsWith e (some (.Name x pos')) pos.line X.env=pure false:=by rfl)(hf:X.fn x=true\/X.env.scope.names.lookup x=some .local:=by first | exact .inl rfl | exact .inr rfl | assumption) :
  PS X (.Assign [.Name x pos'] e pos) (II te (cY i)):=by
 intro af s σ H D I h;refine wpAny_Assign_Name (b8 (he af s σ H _ I h) λv s1 aR=>?_) hs;obtain⟨y,H1,I1,r1,q1⟩:=aR;exact jf I1 hN hi hx r1 (λs2 I2=>⟨_,H1,I2,q1⟩) hf
def QK (i:Nat)(te:TE)(ti:Qf):TS:=λD σ H=>∃x,σ[i]?=some (some x)/\te σ H λy H1=>ti x y H1 λz H2=>D.nx (σ.set i (some z)) H2
def Ja {i:Nat}{x:Str}{e:Expr}{te:TE}{op:Operator}{ti:Qf}{pos':Pos}(hN:X.N.Nodup)(hi:X.N[i]?=some x)(hx:Loc X.env.scope x)(he:PE X e te)(ho:W6 X op ti)(hf:X.fn x=true\/X.env.scope.names.lookup x=some .local:=by first | exact .inl rfl | exact .inr rfl | assumption) :
  PS X (.AugAssign (.Name x pos') op e pos) (QK i te ti):=by
 intro af s σ H D I h;obtain⟨v,e1,h⟩:=h;obtain⟨m,hn,hl⟩:=I.loc;have Xd:Qe X.env.scope x:=by rcases hx with k | k;exact .inl k;exact .inr (.inl k)
 obtain⟨u,r,l⟩:=hl i x v hi e1 Xd;refine wpAny_AugAssign_Name ?_;have go:wpAny (model X.prog X.w) X.A (eval e X.env) (λw s₂=>wpAny (model X.prog X.w) X.A (inplaceOp op u w) (λr s₃=>wpAny (model X.prog X.w) X.A (storeName X.env x r) (λ_=>SP X af D .next) X.xe s₃) X.xe s₂) X.xe s:=by
  refine b8 (he af s σ H _ I h) λw s1 aR=>?_;obtain⟨y,H1,I1,r1,q1⟩:=aR;refine b8 (ho af s1 σ H1 v y u w _ I1 r r1 q1) λz s2 aR=>?_;obtain⟨zv,H2,I2,r2,q2⟩:=aR;exact jf I2 hN hi hx r2 (λs3 I3=>⟨_,H2,I3,q2⟩) hf
 rcases l with ⟨hk,hm⟩ | ⟨hk,c,hc,ij⟩
 .exact tV I.ok.kind hk hn hm go
 rcases hk with hk | hk
 .exact wpAny_loadName_cell I.ok.kind hk hc ij go
 rcases hx with k | k
 .have:X.env.scope.names.lookup x=some .free:=hk;rw [k] at this;cases this
 have:X.env.scope.names.lookup x=some .free:=hk;rw [k] at this;cases this
def YY (f:Int->Int->Int):Qf:=λx y H Q=>∃i j,x=.int i/\y=.int j/\Q (.int (f i j)) H
def JB:W6 X .Add (YY λi j=>i+j):=by
 intro af s σ H x y v u Q I r1 r2 h;obtain⟨i,j,e1,e2,q⟩:=h;subst e1;subst e2;obtain⟨t,rfl⟩:=r1;obtain⟨t',rfl⟩:=r2;exact iadd_int ⟨.int _,H,I.tok _,⟨_,rfl⟩,q⟩
end
section
variable {X:Cx}{pos:Pos}
def IB (c:TT)(tb:TS):TS:=λD σ H=>∃W:Nat->St->Hp->Prop,(∃m,W m σ H)/\∀m σ H,W m σ H ->
 c σ H λb H1=>if b=true then ∃N:St->Hp->Prop,(∀σ' H',N σ' H'->∃m',m' < m/\W m' σ' H')/\tb { D with nx:=N,ct:=N,bk:=D.nx } σ H1 else D.nx σ H1
def jj {c:Expr}{body:List Stmt}{tc:TT}{tb:TS}(hp:PassesOwn (model X.prog X.w) X.A X.env X.xe)(hc:PT X c tc)(hb:vo X body tb):PS X (.While c body [] pos) (IB tc tb):=by
 intro af s σ H D I h;obtain⟨W,⟨m0,w0⟩,turn⟩:=h;refine wpAny_While (codeAny_whileLoop (λn s'=>∃σ' H',Inv X af σ' H' s'/\W n σ' H') ?_ m0 ⟨σ,H,I,w0⟩);rintro n s1 ⟨σ1,H1,I1,w1⟩;refine j5 hp (b8 (hc af s1 σ1 H1 _ I1 (turn n σ1 H1 w1)) λb s2 aR=>?_);obtain⟨H2,I2,q2⟩:=aR;cases b with
 | true =>
  obtain⟨N,hN,q2⟩:=q2;rw [aw rfl];refine j5 hp (b8 (hb af s2 σ1 H2 _ I2 q2) λf s3 q3=>?_);cases f with
  | next =>
   obtain⟨σ3,H3,I3,n3⟩:=q3;obtain⟨m',hm,w3⟩:=hN σ3 H3 n3;exact⟨m',hm,σ3,H3,I3,w3⟩
  | cont =>
   obtain⟨σ3,H3,I3,n3⟩:=q3;obtain⟨m',hm,w3⟩:=hN σ3 H3 n3;exact⟨m',hm,σ3,H3,I3,w3⟩
  | brk=>exact q3
  | ret v=>exact q3
 | false =>
  rw [ay cT];exact ml ⟨σ1,H2,I2,q2⟩
end
structure It where
 go:Nat->Hp->Prop
 kA:Nat->Hp->V->Hp->Prop
 stop:Nat->Hp->Prop
def vh (X:Cx)(af:List (Addr×Obj))(H:Hp)(b:Addr):Prop :=
 H b=none/\b≠X.env.locals/\b∉X.fs/\(b∈X.ex\/X.s₀.heap.objs.size<=b)/\(∀x c,X.env.cells.lookup x=some c->c≠b)/\∀p∈X.pn++af,p.1≠b
def Inv.u0 {X:Cx}{af:List (Addr×Obj)}{σ:St}{H H':Hp}{s:Shared}{b:Addr}(I:Inv X af σ H s)(hb:s.heap.objs.size<=b)(hn:H' b=none):vh X af H' b:=by
 refine⟨hn,iY (dA I.lt hb),I.Rm hb,.inr (cz I.sz hb),λx c e z=>?_,λp hp z=>?_⟩
 .obtain⟨v,q⟩:=I.cell x c e;exact absurd (dA q.lt (by rw [z];exact hb)) (hJ _)
 exact absurd (dA (aP (I.pin p hp).1) (by rw [z];exact hb)) (hJ _)
structure Turn (P:Program)(w:World)(K:aT)(tg:Expr)(J:It)(fp:List Addr)(it:Addr)(tn:Nat->Heap->Prop):Prop where
 mem:it∈fp
 obj:∀i h,tn i h->∀b∈fp,∃o,h.get? b=some o/\∀v,o.data≠.cell v
 keep:∀i h h',tn i h->(∀b∈fp,∀o,h.get? b=some o->h'.get? b=some o)->tn i h'
 item:∀(X:Cx),X.prog=P->X.w=w->X.K=K->X.calm=true->∀(i:Nat)(af:List (Addr×Obj))(s:Shared)(σ:St)(H:Hp)(E:Value->Shared->Prop),Inv X af σ H s->(∀b∈fp,vh X af H b)->tn i s.heap->J.go i H ->
  wpAny (model P w) X.A (pyNext (.ref it)) (λr s1=>∃u,r=some u /\
   wpAny (model P w) X.A (letOwnedTupleGo tg (.ref it) u) (λ_ s2=>∃x H',Inv X af σ H' s2/\RelV x u/\J.kA i H x H'/\tn (i+1) s2.heap/\∀b∈fp,H' b=none) E s1) E s
 done:∀(X:Cx),X.prog=P->X.w=w->X.K=K->X.calm=true->∀(i:Nat)(af:List (Addr×Obj))(s:Shared)(σ:St)(H:Hp)(E:Value->Shared->Prop),Inv X af σ H s->(∀b∈fp,vh X af H b)->tn i s.heap->J.stop i H ->
  wpAny (model P w) X.A (pyNext (.ref it)) (λr s1=>r=none/\Inv X af σ H s1) E s
 self:∀(A:Around) (i:Nat)(s:Shared)(Q:Value->Shared->Prop)(E:Value->Shared->Prop),tn i s.heap->Q (.ref it) s->wpAny (model P w) A (pyIter (.ref it)) Q E s
abbrev TI:=St->Hp->(It->Hp->Prop)->Prop
def W7 (X:Cx)(af:List (Addr×Obj))(σ:St)(tg:Expr)(R:It->Hp->Prop)(Pu:Value)(s2:Shared):Prop :=
 ∃(it:Addr)(fp:List Addr)(tn:Nat->Heap->Prop)(J:It)(H':Hp),Pu=.ref it/\Inv X af σ H' s2/\Turn X.prog X.w X.K tg J fp it tn/\tn 0 s2.heap/\(∀b∈fp,vh X af H' b)/\R J H'
def PI (X:Cx)(tg iter:Expr)(wi:TI):Prop :=
 ∀(af:List (Addr×Obj))(s:Shared)(σ:St)(H:Hp)(R:It->Hp->Prop),Inv X af σ H s->wi σ H R ->
  wpAny (model X.prog X.w) X.A (eval iter X.env) (λv s1=>wpAny (model X.prog X.w) X.A (pyIter v) (W7 X af σ tg R) X.xe s1) X.xe s
def Ac {M:Model}{A:Around}{E:Value->Shared->Prop}{s:Shared}{tg:Expr}{it:Addr}{u:Value}{o:Obj}{n:String}{vs:Array Value}{Q:Unit->Shared->Prop}(ho:s.heap.get? it=some o)(hc:o.cls=.type n)(hd:o.data=.fields vs)
  (hn:["enumerate","zip","dict_itemiterator","dict_reverseitemiterator","odict_iterator","itertools.zip_longest","itertools.pairwise"].contains n=false)(hQ:Q () s):wpAny M A (letOwnedTupleGo tg (.ref it) u) Q E s:=by
 unfold letOwnedTupleGo;cases tg <;> first
  | exact aK hQ
  | (cases u <;> first
    | exact aK hQ
    | (refine ax (wpAny_load ho ?_)
       rw [hc,hd];show wpAny M A (if (["enumerate","zip","dict_itemiterator","dict_reverseitemiterator","odict_iterator","itertools.zip_longest","itertools.pairwise"].contains n && vs[0]? == some (rawInt _))=true then _ else _) Q E s;rw [ay (by intro h;rw [hn,Bool.false_and] at h;cases h)];exact aK hQ))
def iS (K:aT)(a:Addr):It :=
 ⟨λi H=>∃xs x,aD K H a xs/\xs[i]?=some x,λi H x H'=>H'=H/\∀xs,aD K H a xs->xs[i]?=some x,λi H=>∃xs,aD K H a xs/\xs.length<=i⟩
def ma (K:aT)(a:Addr):It :=
 ⟨λi H=>∃xs x,aX K H a xs/\xs[i]?=some x,λi H x H'=>H'=H/\∀xs,aX K H a xs->xs[i]?=some x,λi H=>∃xs,aX K H a xs/\xs.length<=i⟩
def LQ (lo:Int) (n:Nat):It:=⟨λi _=>i < n,λi H x H'=>H'=H/\x=.int (lo+i),λi _=>n<=i⟩
def AB {P:Program}{w:World}{K:aT}{tg:Expr}(a it:Addr):Turn P w K tg (iS K a) [it] it (λi h=>h.IsListIter it a i) where
 mem:=by simp
 obj:=λi h st b hb=>by
  have e:b=it:=by simpa using hb
  subst e;obtain⟨o,e,c,d⟩:=st;exact⟨o,e,λv z=>by rw [d] at z;cases z⟩
 keep:=λi h h' st k=>st.at λo e=>k it (by simp) o e
 item:=by
  intro X hP hw hK hc i af s σ H E I hf st hg;subst hP hw hK;obtain⟨xs,x,hq,hx⟩:=hg;obtain⟨aL,rv,p,hz⟩:=I.list hq;obtain⟨u,hu,ru⟩:=rv.get hx;obtain⟨f0,f1,f2,f3,f4,f5⟩:=hf it (by simp);refine wpAny_pyNext_list_item st p.isList (x:=u) (by simpa using hu) λh' rf sb=>?_;have I1:Inv X af σ H { s with heap:=h' }:=I.turned (t':=s.toks) (λb o hb e=>(sb.2 b hb).trans e) f0 f1 f3 f4 f5;obtain⟨o,e,c,d⟩:=id rf;exact⟨u,rfl,Ac (s:={ s with heap:=h' }) e c d nofun ⟨x,H,I1,ru,⟨rfl,λys hy=>by rw [I.qh hy hq];exact hx⟩,rf,λb hb=>(hf b hb).1⟩⟩
 done:=by
  intro X hP hw hK hc i af s σ H E I hf st hg;subst hP hw hK;obtain⟨xs,hq,hx⟩:=hg;obtain⟨aL,rv,p,hz⟩:=I.list hq;obtain⟨f0,f1,f2,f3,f4,f5⟩:=hf it (by simp);have hl:=rv.length;exact tZ (I.ok.hd hc) st p.isList (by simp;omega) λh' eb=>⟨rfl,I.turned (t':=s.toks) (λb o hb e=>eb b o hb e) f0 f1 f3 f4 f5⟩
 self:=λ_ _ _ _ _ st h=>wpAny_pyIter_listiter st h
def xy {P:Program}{w:World}{K:aT}{tg:Expr}(a it:Addr):Turn P w K tg (ma K a) [it] it (λi h=>h.IsTupleIter it a i) where
 mem:=by simp
 obj:=λi h st b hb=>by
  have e:b=it:=by simpa using hb
  subst e;obtain⟨o,e,c,d⟩:=st;exact⟨o,e,λv z=>by rw [d] at z;cases z⟩
 keep:=λi h h' st k=>st.at λo e=>k it (by simp) o e
 item:=by
  intro X hP hw hK hc i af s σ H E I hf st hg;subst hP hw hK;obtain⟨xs,x,hq,hx⟩:=hg;obtain⟨aL,rv,p,hz⟩:=I.tuple hq;obtain⟨u,hu,ru⟩:=rv.get hx;obtain⟨f0,f1,f2,f3,f4,f5⟩:=hf it (by simp);refine wpAny_pyNext_tuple_item st (show s.heap.IsTuple a aL.toArray from p) (x:=u) (by simpa using hu) λh' rf sb=>?_;have I1:Inv X af σ H { s with heap:=h' }:=I.turned (t':=s.toks) (λb o hb e=>(sb.2 b hb).trans e) f0 f1 f3 f4 f5;obtain⟨o,e,c,d⟩:=id rf;exact⟨u,rfl,Ac (s:={ s with heap:=h' }) e c d nofun ⟨x,H,I1,ru,⟨rfl,λys hy=>by rw [I.rO hy hq];exact hx⟩,rf,λb hb=>(hf b hb).1⟩⟩
 done:=by
  intro X hP hw hK hc i af s σ H E I hf st hg;subst hP hw hK;obtain⟨xs,hq,hx⟩:=hg;obtain⟨aL,rv,p,hz⟩:=I.tuple hq;obtain⟨f0,f1,f2,f3,f4,f5⟩:=hf it (by simp);have hl:=rv.length;exact wpAny_pyNext_tuple_end (I.ok.hd hc) st (show s.heap.IsTuple a aL.toArray from p) (by simp;omega) λh' eb=>⟨rfl,I.turned (t':=s.toks) (λb o hb e=>eb b o hb e) f0 f1 f3 f4 f5⟩
 self:=λ_ _ _ _ _ st h=>wpAny_pyIter_tupleiter st h
def xA {P:Program}{w:World}{K:aT}{tg:Expr}(it:Addr) (lo:Int) (n:Nat):Turn P w K tg (LQ lo n) [it] it (λi h=>IsRangeIter h it (lo+(i:Nat) * 1) ((n:Int) - (i:Nat)) 1) where
 mem:=by simp
 obj:=λi h st b hb=>by
  have e:b=it:=by simpa using hb
  subst e;exact⟨_,st,λv z=>by
   have z':Data.fields _=Data.cell v:=z;cases z'⟩
 keep:=λi h h' st k=>k it (by simp) _ st
 item:=by
  intro X hP hw hK hc i af s σ H E I hf st hg;subst hP hw hK;obtain⟨f0,f1,f2,f3,f4,f5⟩:=hf it (by simp);have W:=Walks.range (prog:=X.prog) (w:=X.w) (I.ok.hd hc) it lo 1 n;refine W.item i s _ _ hg st λv h' tk hv rf kk=>?_;obtain⟨t,rfl⟩:=hv;have I1:Inv X af σ H { s with heap:=h',toks:=tk }:=I.turned (λb o hb e=>kk b o (by simpa using hb) e) f0 f1 f3 f4 f5;refine⟨_,rfl,Ac (s:={ s with heap:=h',toks:=tk }) (n := "range_iterator") rf rfl rfl nofun ⟨.int (lo+i),H,I1,⟨t,?_⟩,⟨rfl,rfl⟩,rf,λb hb=>(hf b hb).1⟩⟩;rw [Int.mul_one]
 done:=by
  intro X hP hw hK hc i af s σ H E I hf st hg;subst hP hw hK;obtain⟨f0,f1,f2,f3,f4,f5⟩:=hf it (by simp);exact wpAny_pyNext_range_end (I.ok.hd hc) st (by have:n<=i:=hg;omega) λh' eb=>⟨rfl,I.turned (t':=s.toks) (λb o hb e=>eb b o hb e) f0 f1 f3 f4 f5⟩
 self:=λ_ _ _ _ _ st h=>wpAny_pyIter_rangeiter st h
section
variable {X:Cx}{tg:Expr}
def Ng (K:aT)(tl:TE):TI:=λσ H R=>tl σ H λx H1=>Qd x (λa=>∃xs,aD K H1 a xs) λa=>R (iS K a) H1
def R3 (K:aT)(tl:TE):TI:=λσ H R=>tl σ H λx H1=>Qd x (λa=>∃xs,aX K H1 a xs) λa=>R (ma K a) H1
def a8 {l:Expr}{tl:TE}(hl:PE X l tl):PI X tg l (Ng X.K tl):=by
 intro af s σ H R I h;refine b8 (hl af s σ H _ I h) λv s1 aR=>?_;obtain⟨x,H1,I1,r1,q1⟩:=aR;obtain⟨a,e,⟨xs,hq⟩,q⟩:=q1;subst e;cases r1;obtain⟨aL,rv,p,hz⟩:=I1.list hq;refine pb p.isList ?_;refine⟨s1.heap.objs.size,[s1.heap.objs.size],_,_,H1,rfl,I1.kept (t':=s1.toks) λb o e=>bj _ e,AB a _,⟨_,cJ _ rfl,rfl,rfl⟩,λb hb=>?_,q⟩;have e:b=s1.heap.objs.size:=by simpa using hb
 subst e;exact I1.u0 (aH _) (I1.bo.fresh (aH _))
def gJ {l:Expr}{tl:TE}(hl:PE X l tl):PI X tg l (R3 X.K tl):=by
 intro af s σ H R I h;refine b8 (hl af s σ H _ I h) λv s1 aR=>?_;obtain⟨x,H1,I1,r1,q1⟩:=aR;obtain⟨a,e,⟨xs,hq⟩,q⟩:=q1;subst e;cases r1;obtain⟨aL,rv,p,hz⟩:=I1.tuple hq;refine tN (show s1.heap.IsTuple a aL.toArray from p) ?_;refine⟨s1.heap.objs.size,[s1.heap.objs.size],_,_,H1,rfl,I1.kept (t':=s1.toks) λb o e=>bj _ e,xy a _,⟨_,cJ _ rfl,rfl,rfl⟩,λb hb=>?_,q⟩;have e:b=s1.heap.objs.size:=by simpa using hb
 subst e;exact I1.u0 (aH _) (I1.bo.fresh (aH _))
def CQ {af:List (Addr×Obj)}{σ:St}{H:Hp}{s:Shared}{R:It->Hp->Prop}{E:Value->Shared->Prop}{lo hi:Int}{t u v:Tok}{tk:Nat}(I:Inv X af σ H s)(h1:-(2 ^ 62)<=lo)(h2:lo < 2 ^ 62)(h3:-(2 ^ 62)<=hi)(h4:hi < 2 ^ 62)
  (q:R (LQ lo (hi - lo).toNat) H):wpAny (model X.prog X.w) X.A (pyIter (.ref s.heap.objs.size)) (W7 X af σ tg R) E { s with heap:=s.heap.push { cls:=.type "range",data:=.fields #[.int lo t,.int hi u,.int 1 v] },toks:=tk }:=by
 refine wpAny_pyIter_range (IsRange.new ..) (small_one h1 h2 h3 h4) ?_;have I1:Inv X af σ H { s with heap:=s.heap.push { cls:=.type "range",data:=.fields #[.int lo t,.int hi u,.int 1 v] },toks:=tk }:=I.kept λb o e=>bj _ e;refine⟨(s.heap.push { cls:=.type "range",data:=.fields #[.int lo t,.int hi u,.int 1 v] }).objs.size,[(s.heap.push { cls:=.type "range",data:=.fields #[.int lo t,.int hi u,.int 1 v] }).objs.size],_,_,H,rfl,
  I1.kept (t':=tk) λb o e=>bj _ e,xA _ lo (hi - lo).toNat,?_,λb hb=>?_,q⟩
 .have e1:lo+((0:Nat):Int) * 1=lo:=by simp
  have e2:(((hi - lo).toNat:Nat):Int) - ((0:Nat):Int)=Builtin.Range.rangeSize lo hi 1:=by rw [rangeSize_one];split <;> omega
  show IsRangeIter _ _ (lo+((0:Nat):Int) * 1) ((((hi - lo).toNat:Nat):Int) - ((0:Nat):Int)) 1;rw [e1,e2];exact cJ _ rfl
 have e:b=(s.heap.push { cls:=.type "range",data:=.fields #[.int lo t,.int hi u,.int 1 v] }).objs.size:=by simpa using hb
 subst e;exact I1.u0 (aH _) (I1.bo.fresh (aH _))
def Nf (ta:TA):TI:=λσ H R=>ta σ H λvs H1=>WS vs λj=>R (LQ 0 j.toNat) H1
def mT {a:Expr}{ta:TA}{p pos:Pos}(hg:Gl X "range")(hm:X.mg "range"=none)(ha:PA X [a] ta)(hs:starEach [a] X.env=[(false,eval a X.env)]:=by rfl):PI X tg (.Call (.Name "range" p) [a] [] pos) (Nf ta):=by
 intro af s σ H R I h;refine Call_ (iG I hg hm boot_range (um (b8 (ha pos af s σ H _ I h) λus s1 aR=>?_) hs rfl));obtain⟨vs,H1,I1,r1,q1⟩:=aR;obtain⟨j,e,q1,q2,q⟩:=q1;subst e;cases r1 with
 | cons r rr =>
  cases rr;obtain⟨t,rfl⟩:=r;exact call_range_1 (CQ I1 ∅ ∅ q1 q2 (by simpa using q))
def QI (wi:TI)(g:TG)(tb:TS):TS:=λD σ H=>wi σ H λJ H1=>∃W:Nat->Nat->St->Hp->Prop,(∃m,W 0 m σ H1)/\∀i m σ H,W i m σ H ->
 (J.stop i H/\D.nx σ H)\/(J.go i H/\∃N:St->Hp->Prop,(∀σ' H',N σ' H'->∃m',m' < m/\W (i+1) m' σ' H')/\∀x H',J.kA i H x H'->g x σ H' λσ2 H2=>tb { D with nx:=N,ct:=N,bk:=D.nx } σ2 H2)
def mS (fp:List Addr)(h:Heap):List (Addr×Obj):=fp.filterMap λb=>(h.get? b).map λo=>(b,o)
def fA {fp:List Addr}{h:Heap}{b:Addr}{o:Obj}(hb:b∈fp)(e:h.get? b=some o):(b,o)∈mS fp h:=tU.mpr ⟨b,hb,by rw [e];rfl⟩
def AW {fp:List Addr}{h:Heap}{p:Addr×Obj}(hp:p∈mS fp h):p.1∈fp/\h.get? p.1=some p.2:=by
 obtain⟨b,hb,e⟩:=tU.mp hp;cases q:h.get? b with
 | none=>rw [q] at e;cases e
 | some o =>
  rw [q] at e;have e':(b,o)=p:=gP e;subst e';exact⟨hb,q⟩
def Inv.pinned {af:List (Addr×Obj)}{σ:St}{H:Hp}{s:Shared}{fp:List Addr}(I:Inv X af σ H s)(hf:∀b∈fp,vh X af H b)(ho:∀b∈fp,∃o,s.heap.get? b=some o/\∀v,o.data≠.cell v):Inv X (af++mS fp s.heap) σ H s :=
 I.zU λp hp=>(cq.mp hp).elim (λz=>I.pin p (eZ _ z)) λz=>by
  obtain⟨hb,e⟩:=AW z;obtain⟨f0,f1,f2,_⟩:=hf p.1 hb;obtain⟨o,e',d⟩:=ho p.1 hb;rw [e] at e';cases e';exact⟨e,f0,f1,f2,d⟩
def Inv.jd {af pl:List (Addr×Obj)}{σ:St}{H:Hp}{s:Shared}(I:Inv X (af++pl) σ H s):Inv X af σ H s:=I.zU λp hp=>I.pin p (eZ _ (i4 _ hp))
def cx {iter:Expr}{body:List Stmt}{wi:TI}{g:TG}{tb:TS}{pos:Pos}(hp:PassesOwn (model X.prog X.w) X.A X.env X.xe)(hc:X.calm=true)(hi:PI X tg iter wi)(hg:PG X tg g)(hb:vo X body tb)
  (hs:∀x,foldedSetIterable iter X.env x=pure x:=by intro _;rfl):PS X (.For tg iter body [] pos) (QI wi g tb):=by
 intro af s σ H D I h;refine wpAny_For (b8 (hi af s σ H _ I h) λv s1 h1=>b8 h1 λPu s2 h2=>?_) hs;obtain⟨it,fp,tn,J,H2,e,I2,T,ET,f2,W,⟨m0,w0⟩,turn⟩:=h2;subst e;have pS:∀{H':Hp},(∀b∈fp,H' b=none)->∀b∈fp,vh X af H' b:=λhn b hb=>⟨hn b hb,(f2 b hb).2⟩;refine codeAny_forLoop_any (λn s'=>∃i σ' H',Inv X af σ' H' s'/\tn i s'.heap/\(∀b∈fp,H' b=none)/\W i n σ' H') ?_ m0 ⟨0,σ,H2,I2,ET,λb hb=>(f2 b hb).1,w0⟩;rintro n s3 ⟨i,σ3,H3,I3,Mq,Wb,w3⟩;rcases turn i n σ3 H3 w3 with ⟨stop,qn⟩ | ⟨go,N,hN,step⟩
 .refine j5 hp (b8 (T.done X rfl rfl rfl hc i af s3 σ3 H3 X.xe I3 (pS Wb) Mq stop) λr s4 ⟨hr,I4⟩=>?_);subst hr;exact ml ⟨σ3,H3,I4,qn⟩
 refine j5 hp (b8 (T.item X rfl rfl rfl hc i af s3 σ3 H3 X.xe I3 (pS Wb) Mq go) λr s4 ⟨u,hr,h4⟩=>?_);subst hr;refine j5 hp (b8 h4 λ_ s5 aR=>?_);obtain⟨x,H5,I5,r5,y5,vD,N9⟩:=aR;have I5':=I5.pinned (pS N9) (T.obj _ _ vD);refine j5 hp (b8 (hg _ s5 σ3 H5 x u _ I5' r5 (step x H5 y5)) λ_ s6 aR=>?_);obtain⟨σ6,H6,I6,q6⟩:=aR;refine j5 hp (b8 (hb _ s6 σ6 H6 _ I6 q6) λf s7 q7=>?_);have again:∀{σ7:St}{H7:Hp},Inv X (af++mS fp s5.heap) σ7 H7 s7->N σ7 H7->∃m,m < n/\∃i σ' H',Inv X af σ' H' s7/\tn i s7.heap/\(∀b∈fp,H' b=none)/\W i m σ' H':=λ{σ7 H7} I7 n7=>by
  obtain⟨m',hm,w7⟩:=hN σ7 H7 n7;refine⟨m',hm,i+1,σ7,H7,I7.jd,T.keep _ _ _ vD λb hb o e=>(I7.pin (b,o) (eZ _ (eZ _ (fA hb e)))).1,λb hb=>?_,w7⟩;obtain⟨o,e,d⟩:=T.obj _ _ vD b hb;exact(I7.pin (b,o) (eZ _ (eZ _ (fA hb e)))).2.1
 cases f with
 | next=>obtain⟨σ7,H7,I7,n7⟩:=q7;exact again I7 n7
 | cont=>obtain⟨σ7,H7,I7,n7⟩:=q7;exact again I7 n7
 | brk=>obtain⟨σ7,H7,I7,q7⟩:=q7;exact⟨σ7,H7,I7.jd,q7⟩
 | ret v=>obtain⟨x7,σ7,H7,I7,r7,q7⟩:=q7;exact⟨x7,σ7,H7,I7.jd,r7,q7⟩
end
def dG {K:aT}{a:Addr}{xs:List V}{g:TG}{tb:TS}{D:Ends}{σ:St}{H:Hp}(Pv:Nat->St->Hp->Prop)(h0:Pv 0 σ H)(hl:∀i σ H,i<=xs.length->Pv i σ H->aD K H a xs)
  (hs:∀i x σ H,xs[i]?=some x->Pv i σ H->g x σ H λσ2 H2=>tb { D with nx:=Pv (i+1),ct:=Pv (i+1),bk:=D.nx } σ2 H2)(hd:∀σ H,Pv xs.length σ H->D.nx σ H) :
  ∃W:Nat->Nat->St->Hp->Prop,(∃m,W 0 m σ H)/\∀i m σ H,W i m σ H ->
   ((iS K a).stop i H/\D.nx σ H)\/((iS K a).go i H/\∃N:St->Hp->Prop,(∀σ' H',N σ' H'->∃m',m' < m/\W (i+1) m' σ' H')/\∀x H',(iS K a).kA i H x H'->g x σ H' λσ2 H2=>tb { D with nx:=N,ct:=N,bk:=D.nx } σ2 H2):=by
 refine⟨λi m σ H=>m=xs.length - i/\i<=xs.length/\Pv i σ H,⟨xs.length,by simp,gr _,h0⟩,?_⟩;rintro i m σ H ⟨rfl,hi,p⟩;have q:=hl i σ H hi p;by_cases iu:i < xs.length
 .refine .inr ⟨⟨xs,xs[i],q,by simp [iu]⟩,Pv (i+1),λσ' H' p'=>⟨xs.length - (i+1),∅,rfl,iu,p'⟩,λx H' y=>?_⟩;obtain⟨e,y⟩:=y;subst e;exact hs i x σ _ (y xs q) p
 have e:i=xs.length:=by omega
 subst e;exact .inl ⟨⟨xs,q,aH _⟩,hd σ H p⟩
def Af {K:aT}{a:Addr}{xs:List V}{g:TG}{tb:TS}{D:Ends}{σ:St}{H:Hp}(Pv:Nat->St->Hp->Prop)(h0:Pv 0 σ H)(hl:∀i σ H,i<=xs.length->Pv i σ H->aX K H a xs)
  (hs:∀i x σ H,xs[i]?=some x->Pv i σ H->g x σ H λσ2 H2=>tb { D with nx:=Pv (i+1),ct:=Pv (i+1),bk:=D.nx } σ2 H2)(hd:∀σ H,Pv xs.length σ H->D.nx σ H) :
  ∃W:Nat->Nat->St->Hp->Prop,(∃m,W 0 m σ H)/\∀i m σ H,W i m σ H ->
   ((ma K a).stop i H/\D.nx σ H)\/((ma K a).go i H/\∃N:St->Hp->Prop,(∀σ' H',N σ' H'->∃m',m' < m/\W (i+1) m' σ' H')/\∀x H',(ma K a).kA i H x H'->g x σ H' λσ2 H2=>tb { D with nx:=N,ct:=N,bk:=D.nx } σ2 H2):=by
 refine⟨λi m σ H=>m=xs.length - i/\i<=xs.length/\Pv i σ H,⟨xs.length,by simp,gr _,h0⟩,?_⟩;rintro i m σ H ⟨rfl,hi,p⟩;have q:=hl i σ H hi p;by_cases iu:i < xs.length
 .refine .inr ⟨⟨xs,xs[i],q,by simp [iu]⟩,Pv (i+1),λσ' H' p'=>⟨xs.length - (i+1),∅,rfl,iu,p'⟩,λx H' y=>?_⟩;obtain⟨e,y⟩:=y;subst e;exact hs i x σ _ (y xs q) p
 have e:i=xs.length:=by omega
 subst e;exact .inl ⟨⟨xs,q,aH _⟩,hd σ H p⟩
def nr {lo:Int}{n:Nat}{g:TG}{tb:TS}{D:Ends}{σ:St}{H:Hp}(Pv:Nat->St->Hp->Prop)(h0:Pv 0 σ H)
  (hs:∀i σ H,i < n->Pv i σ H->g (.int (lo+i)) σ H λσ2 H2=>tb { D with nx:=Pv (i+1),ct:=Pv (i+1),bk:=D.nx } σ2 H2)(hd:∀σ H,Pv n σ H->D.nx σ H) :
  ∃W:Nat->Nat->St->Hp->Prop,(∃m,W 0 m σ H)/\∀i m σ H,W i m σ H ->
   ((LQ lo n).stop i H/\D.nx σ H)\/((LQ lo n).go i H/\∃N:St->Hp->Prop,(∀σ' H',N σ' H'->∃m',m' < m/\W (i+1) m' σ' H')/\∀x H',(LQ lo n).kA i H x H'->g x σ H' λσ2 H2=>tb { D with nx:=N,ct:=N,bk:=D.nx } σ2 H2):=by
 refine⟨λi m σ H=>m=n - i/\i<=n/\Pv i σ H,⟨n,by simp,gr _,h0⟩,?_⟩;rintro i m σ H ⟨rfl,hi,p⟩;by_cases iu:i < n
 .refine .inr ⟨iu,Pv (i+1),λσ' H' p'=>⟨n - (i+1),∅,rfl,iu,p'⟩,λx H' y=>?_⟩;obtain⟨e,y⟩:=y;subst e y;exact hs i σ _ iu p
 have e:i=n:=by omega
 subst e;exact .inl ⟨aH _,hd σ H p⟩
abbrev R2:=V->V->Hp->VK->Prop
def ky (X:Cx)(f:Value->Value->Sem Value)(r:R2):Prop :=
 ∀(af:List (Addr×Obj))(s:Shared)(σ:St)(H:Hp)(x y:V)(v u:Value)(Q:VK),Inv X af σ H s->RelV x v->RelV y u->r x y H Q ->
  wpAny (model X.prog X.w) X.A (f v u) (EP X af σ Q) X.xe s
def UC (X:Cx)(f:Value->Sem Value)(r:V->Hp->VK->Prop):Prop :=
 ∀(af:List (Addr×Obj))(s:Shared)(σ:St)(H:Hp)(x:V)(v:Value)(Q:VK),Inv X af σ H s->RelV x v->r x H Q ->
  wpAny (model X.prog X.w) X.A (f v) (EP X af σ Q) X.xe s
def fj (X:Cx)(f:Value)(r:List V->Hp->VK->Prop):Prop :=
 ∀(af:List (Addr×Obj))(s:Shared)(σ:St)(H:Hp)(xs:List V)(us:List Value)(Q:VK),Inv X af σ H s->aO xs us->r xs H Q ->
  wpAny (model X.prog X.w) X.A (call f us) (EP X af σ Q) X.xe s
def UD (X:Cx)(r:V->Hp->(Bool->Hp->Prop)->Prop):Prop :=
 ∀(af:List (Addr×Obj))(s:Shared)(σ:St)(H:Hp)(x:V)(v:Value)(Q:Bool->Hp->Prop),Inv X af σ H s->RelV x v->r x H Q ->
  wpAny (model X.prog X.w) X.A (truthy v) (TP X af σ Q) X.xe s
def O8 (r:R2)(ta tb:TE):TE:=λσ H Q=>ta σ H λx H1=>tb σ H1 λy H2=>r x y H2 Q
def Xj (r:V->Hp->VK->Prop)(ta:TE):TE:=λσ H Q=>ta σ H λx H1=>r x H1 Q
def rI (C:Int->Int->Prop)(g:Int->Int->V):R2:=λx y H Q=>WU x y C λi j=>Q (g i j) H
def K8 (g:Int->Int->V):R2:=λx y H Q=>WV x y λi j=>Q (g i j) H
def rU (g:Int->V):V->Hp->VK->Prop:=λx H Q=>Uz x λi=>Q (g i) H
section
variable {X:Cx}{a b c:Expr}{ta tb tc:TE}{pos:Pos}
def KH (ha:PE X a ta)(hb:PE X b tb){af:List (Addr×Obj)}{s:Shared}{σ:St}{H:Hp}{R:V->V->Hp->Prop}(I:Inv X af σ H s)
  (h:ta σ H λx H1=>tb σ H1 λy H2=>R x y H2){Q:Value->Shared->Prop}{f:Value->Value->Sem Value}
  (hf:∀v u s2 x y H2,Inv X af σ H2 s2->RelV x v->RelV y u->R x y H2->wpAny (model X.prog X.w) X.A (f v u) Q X.xe s2) :
  wpAny (model X.prog X.w) X.A (eval a X.env) (λv s₁=>wpAny (model X.prog X.w) X.A (eval b X.env) (λu s₂=>wpAny (model X.prog X.w) X.A (f v u) Q X.xe s₂) X.xe s₁) X.xe s:=by
 refine b8 (ha af s σ H _ I h) λv s1 aR=>?_;obtain⟨x,H1,I1,r1,q1⟩:=aR;refine b8 (hb af s1 σ H1 _ I1 q1) λu s2 aR=>?_;obtain⟨y,H2,I2,r2,q2⟩:=aR;exact hf v u s2 x y H2 I2 r1 r2 q2
def bK {op:Operator}{r:R2}(ho:ky X (binaryOp op) r)(ha:PE X a ta)(hb:PE X b tb):PE X (.BinOp a op b pos) (O8 r ta tb):=by
 intro af s σ H Q I h;exact wpAny_BinOp (KH ha hb I h λv u s2 x y H2 I2 rx ry q=>ho af s2 σ H2 x y v u Q I2 rx ry q)
def Hj {op:UnaryOp}{r:V->Hp->VK->Prop}(ho:UC X (unaryOp op) r)(ha:PE X a ta):PE X (.UnaryOp op a pos) (Xj r ta):=by
 intro af s σ H Q I h;refine UnaryOp_ (b8 (ha af s σ H _ I h) λv s1 aR=>?_);obtain⟨x,H1,I1,r1,q1⟩:=aR;exact ho af s1 σ H1 x v Q I1 r1 q1
def Q8 {f:Value->Value->Sem Value}{C:Int->Int->Prop}{g:Int->Int->Int}
  (rule:∀(i j:Int)(t u:Tok)(s:Shared)(Q:Value->Shared->Prop)(E:Value->Shared->Prop),C i j->Q (.int (g i j) s.toks) { s with toks:=s.toks+1 }->wpAny (model X.prog X.w) X.A (f (.int i t) (.int j u)) Q E s) :
  ky X f (rI C λi j=>.int (g i j)):=by
 intro af s σ H x y v u Q I rx ry h;obtain⟨i,j,rfl,rfl,hc,q⟩:=h;obtain⟨t,rfl⟩:=rx;obtain⟨t',rfl⟩:=ry;exact rule i j t t' s _ _ hc ⟨.int (g i j),H,I.tok _,⟨_,rfl⟩,q⟩
def MK {f:Value->Value->Sem Value}{g:Int->Int->Int}
  (rule:∀(i j:Int)(t u:Tok)(s:Shared)(Q:Value->Shared->Prop)(E:Value->Shared->Prop),Q (.int (g i j) s.toks) { s with toks:=s.toks+1 }->wpAny (model X.prog X.w) X.A (f (.int i t) (.int j u)) Q E s) :
  ky X f (K8 λi j=>.int (g i j)):=by
 intro af s σ H x y v u Q I rx ry h;obtain⟨i,j,rfl,rfl,q⟩:=h;obtain⟨t,rfl⟩:=rx;obtain⟨t',rfl⟩:=ry;exact rule i j t t' s _ _ ⟨.int (g i j),H,I.tok _,⟨_,rfl⟩,q⟩
def MM {f:Value->Value->Sem Value}{g:Int->Int->Bool}
  (rule:∀(i j:Int)(t u:Tok)(s:Shared)(Q:Value->Shared->Prop)(E:Value->Shared->Prop),Q (.bool (g i j)) s->wpAny (model X.prog X.w) X.A (f (.int i t) (.int j u)) Q E s) :
  ky X f (K8 λi j=>.bl (g i j)):=by
 intro af s σ H x y v u Q I rx ry h;obtain⟨i,j,rfl,rfl,q⟩:=h;obtain⟨t,rfl⟩:=rx;obtain⟨t',rfl⟩:=ry;exact rule i j t t' s _ _ ⟨.bl (g i j),H,I,rfl,q⟩
def UP (i j:Int):Prop:=0 < j/\j < 1073741824
def K2 (i j:Int):Prop:=(-(2 ^ 64) < i/\i < 2 ^ 64)\/(-(2 ^ 64) < j/\j < 2 ^ 64)
def K2.ok {i j:Int}(h:K2 i j):IntMulOk i j:=by
 rcases h with ⟨h1,h2⟩ | ⟨h1,h2⟩
 .exact .of_left (intBits_le_64 h1 h2)
 exact .of_right (intBits_le_64 h1 h2)
def eK:ky X (binaryOp .Add) (K8 λi j=>.int (i+j)):=MK λ_ _ _ _ _ _ _ q=>add_int q
def C_:ky X (binaryOp .Sub) (K8 λi j=>.int (i - j)):=MK λ_ _ _ _ _ _ _ q=>sub_int q
def yh:ky X (binaryOp .Mult) (rI K2 λi j=>.int (i * j)):=Q8 λ_ _ _ _ _ _ _ hc q=>mul_int q hc.ok
def lI:ky X (binaryOp .FloorDiv) (rI UP λi j=>.int (i / j)):=Q8 λi j _ _ _ _ _ hc q=>by
 have h1:(0:Int) < j:=hc.1;have h2:j < 1073741824:=hc.2;exact floordiv_int ∅ (by rw [Int.fdiv_eq_ediv_of_nonneg i ∅];exact q) (.inl (PyProof.noPylong_small ∅))
def gk:ky X (binaryOp .Mod) (rI (λ_ j=>0 < j) λi j=>.int (i % j)):=Q8 λi j _ _ _ _ _ hc q=>by
 have h1:(0:Int) < j:=hc;exact mod_int' ∅ (by rw [Int.fmod_eq_emod_of_nonneg i ∅];exact q)
def Xf {f:Value->Sem Value}{g:Int->Int}
  (rule:∀(i:Int)(t:Tok)(s:Shared)(Q:Value->Shared->Prop)(E:Value->Shared->Prop),Q (.int (g i) s.toks) { s with toks:=s.toks+1 }->wpAny (model X.prog X.w) X.A (f (.int i t)) Q E s) :
  UC X f (rU λi=>.int (g i)):=by
 intro af s σ H x v Q I rx h;obtain⟨i,rfl,q⟩:=h;obtain⟨t,rfl⟩:=rx;exact rule i t s _ _ ⟨.int (g i),H,I.tok _,⟨_,rfl⟩,q⟩
def Cb:UC X (unaryOp .USub) (rU λi=>.int (-i)):=Xf λ_ _ _ _ _ q=>neg_int q
end
def Mu:V->V->Bool
 | .cU,.cU=>true | .cU,.int _=>true | .int _,.cU=>true | .cU,.bl _=>true | .bl _,.cU=>true | .cU,.str _=>true | .str _,.cU=>true
 | .int _,.int _=>true | .bl _,.bl _=>true | .str _,.str _=>true | .zg _,.zg _=>true
 | .int _,.str _=>true | .str _,.int _=>true | .bl _,.str _=>true | .str _,.bl _=>true
 | _,_=>false
def XI:R2:=λx y H Q=>Mu x y=true/\Q (.bl (decide (x=y))) H
def XH:R2:=λx y H Q=>Mu x y=true/\Q (.bl (!decide (x=y))) H
def Aj {i j:Int}:decide (V.int i=V.int j)=(i == j):=by
 rw [jO];simp
def Ep {i j:Bool}:decide (V.bl i=V.bl j)=(i == j):=by
 rw [jO];simp
def Ai {i j:Str}:decide (V.str i=V.str j)=(i == j):=by
 rw [jO];simp
def Ak {i j:Array UInt8}:decide (V.zg i=V.zg j)=(i.toList == j.toList):=by
 rw [jO];cases i;cases j;simp
section
variable {X:Cx}{a b c:Expr}{ta tb tc:TE}{pos:Pos}
def bG {af:List (Addr×Obj)}{σ:St}{H:Hp}{s:Shared}{Q:VK}{k k':Bool}(I:Inv X af σ H s)(q:Q (.bl k) H)(e:k=k'):EP X af σ Q (.bool k') s:=by
 subst e;exact⟨.bl k,H,I,rfl,q⟩
def Dd:ky X (compareOp .Eq) XI:=by
 intro af s σ H x y v u Q I rx ry h;obtain⟨hs,q⟩:=h;cases x with
 | cU =>
  cases rx;cases y with
  | cU=>cases ry;exact PySem.EqNone.eq_none_none (bG I q (by simp))
  | bl j=>cases ry;exact PySem.EqNone.eq_none_bool (bG I q (by simp))
  | int j=>obtain⟨t',rfl⟩:=ry;exact PySem.EqNone.eq_none_int (bG I q (by simp))
  | str j=>obtain⟨t',rfl⟩:=ry;exact PySem.EqNone.eq_none_str (bG I q (by simp))
  | _=>exact absurd (show false=true from hs) cT
 | bl i =>
  cases rx;cases y with
  | cU=>cases ry;exact PySem.EqNone.eq_bool_none (bG I q (by simp))
  | bl j=>cases ry;exact eq_bool (bG I q Ep)
  | str j=>obtain⟨t',rfl⟩:=ry;exact PySem.EqMixed.eq_bool_str (bG I q (by simp))
  | _=>exact absurd (show false=true from hs) cT
 | int i =>
  obtain⟨t,rfl⟩:=rx;cases y with
  | cU=>cases ry;exact PySem.EqNone.eq_int_none (bG I q (by simp))
  | int j=>obtain⟨t',rfl⟩:=ry;exact eq_int (bG I q Aj)
  | str j=>obtain⟨t',rfl⟩:=ry;exact PySem.EqMixed.eq_int_str (bG I q (by simp))
  | _=>exact absurd (show false=true from hs) cT
 | str i =>
  obtain⟨t,rfl⟩:=rx;cases y with
  | cU=>cases ry;exact PySem.EqNone.eq_str_none (bG I q (by simp))
  | bl j=>cases ry;exact PySem.EqMixed.eq_str_bool (bG I q (by simp))
  | int j=>obtain⟨t',rfl⟩:=ry;exact PySem.EqMixed.eq_str_int (bG I q (by simp))
  | str j=>obtain⟨t',rfl⟩:=ry;exact eq_str (bG I q Ai)
  | _=>exact absurd (show false=true from hs) cT
 | zg i =>
  obtain⟨t,rfl⟩:=rx;cases y with
  | zg j=>obtain⟨t',rfl⟩:=ry;exact PySem.W.eq_bytes (bG I q Ak)
  | _=>exact absurd (show false=true from hs) cT
 | _=>cases y <;> exact absurd (show false=true from hs) cT
def Hl:ky X (compareOp .NotEq) XH:=by
 intro af s σ H x y v u Q I rx ry h;obtain⟨hs,q⟩:=h;cases x with
 | cU =>
  cases rx;cases y with
  | cU=>cases ry;exact PySem.EqNone.ne_none_none (bG I q (by simp))
  | bl j=>cases ry;exact PySem.EqNone.ne_none_bool (bG I q (by simp))
  | int j=>obtain⟨t',rfl⟩:=ry;exact PySem.EqNone.ne_none_int (bG I q (by simp))
  | str j=>obtain⟨t',rfl⟩:=ry;exact PySem.EqNone.ne_none_str (bG I q (by simp))
  | _=>exact absurd (show false=true from hs) cT
 | bl i =>
  cases rx;cases y with
  | cU=>cases ry;exact PySem.EqNone.ne_bool_none (bG I q (by simp))
  | bl j=>cases ry;exact ne_bool (bG I q (congrArg not Ep))
  | str j=>obtain⟨t',rfl⟩:=ry;exact PySem.EqMixed.ne_bool_str (bG I q (by simp))
  | _=>exact absurd (show false=true from hs) cT
 | int i =>
  obtain⟨t,rfl⟩:=rx;cases y with
  | cU=>cases ry;exact PySem.EqNone.ne_int_none (bG I q (by simp))
  | int j=>obtain⟨t',rfl⟩:=ry;exact ne_int (bG I q (congrArg not Aj))
  | str j=>obtain⟨t',rfl⟩:=ry;exact PySem.EqMixed.ne_int_str (bG I q (by simp))
  | _=>exact absurd (show false=true from hs) cT
 | str i =>
  obtain⟨t,rfl⟩:=rx;cases y with
  | cU=>cases ry;exact PySem.EqNone.ne_str_none (bG I q (by simp))
  | bl j=>cases ry;exact PySem.EqMixed.ne_str_bool (bG I q (by simp))
  | int j=>obtain⟨t',rfl⟩:=ry;exact PySem.EqMixed.ne_str_int (bG I q (by simp))
  | str j=>obtain⟨t',rfl⟩:=ry;exact ne_str (bG I q (congrArg not Ai))
  | _=>exact absurd (show false=true from hs) cT
 | zg i =>
  obtain⟨t,rfl⟩:=rx;cases y with
  | zg j=>obtain⟨t',rfl⟩:=ry;exact PySem.W.ne_bytes (bG I q (congrArg not Ak))
  | _=>exact absurd (show false=true from hs) cT
 | _=>cases y <;> exact absurd (show false=true from hs) cT
def sk:ky X (compareOp .Lt) (K8 λi j=>.bl (decide (i < j))):=MM λ_ _ _ _ _ _ _ q=>lt_int q
def Dc:ky X (compareOp .Gt) (K8 λi j=>.bl (decide (j < i))):=MM λ_ _ _ _ _ _ _ q=>gt_int q
def Jh:ky X (compareOp .Is) (λx y H Q=>y=.cU/\Q (.bl (decide (x=.cU))) H):=by
 intro af s σ H x y v u Q I rx ry h;obtain⟨rfl,q⟩:=h;cases ry;refine is_none_gen (bG I q ?_);cases x <;> first
  | (cases rx;rfl)
  | (obtain⟨t,rfl⟩:=rx;rfl)
def ky.or {f:Value->Value->Sem Value}{r r':R2}(h:ky X f r)(h':ky X f r'):ky X f (λx y H Q=>r x y H Q\/r' x y H Q):=by
 intro af s σ H x y v u Q I rx ry q;rcases q with q | q
 .exact h af s σ H x y v u Q I rx ry q
 exact h' af s σ H x y v u Q I rx ry q
def cE (b:Expr){op:CmpOp}(h:op≠.In:=by decide)(h2:op≠.NotIn:=by decide):behindInMarks op b=false:=by
 have e1:(op == CmpOp.In)=false:=by cases op <;> first | rfl | exact absurd rfl h
 have e2:(op == CmpOp.NotIn)=false:=by cases op <;> first | rfl | exact absurd rfl h2
 cases b <;> simp [behindInMarks,e1,e2]
def fP {op:CmpOp}{r:R2}(ho:ky X (compareOp op) r)(ha:PE X a ta)(hb:PE X b tb)(hm:behindInMarks op b=false):PE X (.Compare a [op] [b] pos) (O8 r ta tb):=by
 intro af s σ H Q I h;exact wpAny_Compare1 (KH ha hb I h λv u s2 x y H2 I2 rx ry q=>ho af s2 σ H2 x y v u Q I2 rx ry q) hm
def LZ (t:TE):TT:=λσ H Q=>t σ H λx H'=>XB x λk=>Q k H'
def bT {op:CmpOp}{r:R2}(ho:ky X (compareOp op) r)(ha:PE X a ta)(hb:PE X b tb)(hm:behindInMarks op b=false):PT X (.Compare a [op] [b] pos) (LZ (O8 r ta tb)):=by
 intro af s σ H Q I h;refine wpAny_isTrue_Compare1 (b8 (ha af s σ H _ I h) λv s1 ⟨x,H1,I1,r1,q1⟩=>b8 (hb af s1 σ H1 _ I1 q1) λu s2 ⟨y,H2,I2,r2,q2⟩ =>
  b8 (ho af s2 σ H2 x y v u _ I2 r1 r2 q2) λc s3 ⟨z,H3,I3,r3,k,e,q3⟩=>?_) hm
 subst e;cases r3;exact nP ⟨H3,I3,q3⟩
def EH (K:aT)(x:V)(H:Hp)(k:Bool):Prop :=
 match x with
 | .cU=>k=false
 | .bl b=>k=b
 | .int i=>k=(i != 0)
 | .str y=>y.length<=sizeLine/\k=((y.length:Int) != 0)
 | .zg y=>y.size<=sizeLine/\k=((y.size:Int) != 0)
 | .ref p=>(∃xs,aD K H p xs/\k=!xs.isEmpty)\/(∃xs,aX K H p xs/\k=!xs.isEmpty)\/∃kvs,H p=some (.dK kvs)/\k=!kvs.isEmpty
 | _=>False
def yH {κ:Type}{kvs:List (κ×V)}{vs:List (κ×Value)}(r:KV kvs vs):(!vs.isEmpty)=!kvs.isEmpty:=by
 cases r <;> rfl
def qo {xs:List V}{aL:List Value}(r:aO xs aL):(!aL.toArray.isEmpty)=!xs.isEmpty:=by
 cases r <;> simp
def kb:(sizeLine:Nat) < 2 ^ 63:=by rw [gG];decide
def IA:UD X (λx H Q=>∃k,EH X.K x H k/\Q k H):=by
 intro af s σ H x v Q I rx h;obtain⟨k,e,q⟩:=h;have hl:=kb;have hs:sizeLine=16777216:=gG;cases x with
 | cU =>
  cases rx;have e':k=false:=e;subst e';exact truthy_none ⟨H,I,q⟩
 | bl b =>
  cases rx;have e':k=b:=e;subst e';exact nP ⟨H,I,q⟩
 | int i =>
  obtain⟨t,rfl⟩:=rx;have e':k=(i != 0):=e;subst e';exact PySem.P.truthy_int ⟨H,I,q⟩
 | str y =>
  obtain⟨t,rfl⟩:=rx;obtain⟨hy,e'⟩:y.length<=sizeLine/\k=((y.length:Int) != 0):=e;subst e';exact PySem.P.truthy_str ∅ ⟨H,I.tok _,q⟩
 | zg y =>
  obtain⟨t,rfl⟩:=rx;obtain⟨hy,e'⟩:y.size<=sizeLine/\k=((y.size:Int) != 0):=e;subst e';exact PySem.W.truthy_bytes ∅ ⟨H,I.tok _,q⟩
 | ref p =>
  cases rx;have e':(∃xs,aD X.K H p xs/\k=!xs.isEmpty)\/(∃xs,aX X.K H p xs/\k=!xs.isEmpty)\/∃kvs,H p=some (.dK kvs)/\k=!kvs.isEmpty:=e;rcases e' with ⟨xs,hx,e'⟩ | ⟨xs,hx,e'⟩ | ⟨kvs,hx,e'⟩
  .subst e';obtain⟨aL,r,pl,hz⟩:=I.list hx;have aZ:=r.length;exact wpAny_truthy_list pl.isList (by simp only [bI];omega) ⟨H,I.tok _,by rw [qo r];exact q⟩
  .subst e';obtain⟨aL,r,pl,hz⟩:=I.tuple hx;have aZ:=r.length;exact truthy_tuple pl (by simp only [bI];omega) ⟨H,I.tok _,by rw [qo r];exact q⟩
  subst e';obtain⟨hz,hS,vs,r,m⟩:kvs.length<=sizeLine/\(p == sysModules)=false/\∃vs,KV kvs vs/\s.heap.DictOf (aS X.prog X.w) p vs:=I.bo p _ hx;have aZ:kvs.length=vs.length:=bF r;exact wpAny_truthy_dict hS m ∅ ⟨H,I.tok _,by rw [yH r];exact q⟩
 | _=>exact(show False from e).elim
def hW (ha:PE X a ta)(he:∀whole,isTrue a X.env whole=(do let v <-whole;standAt a.pos;holding [v] (truthy v))) :
  PT X a (λσ H Q=>ta σ H λx H'=>∃k,EH X.K x H' k/\Q k H'):=by
 intro af s σ H Q I h;refine isTrue_plain (b8 (ha af s σ H _ I h) λv s1 aR=>?_) (he _);obtain⟨x,H1,I1,r1,q1⟩:=aR;exact IA af s1 σ H1 x v Q I1 r1 q1
def qc:ky X (binaryOp .Add) (λx y H Q=>∃i j,x=.str i/\y=.str j/\i.length+j.length<=sizeLine/\Q (.str (i++j)) H):=by
 intro af s σ H x y v u Q I rx ry h;obtain⟨i,j,rfl,rfl,hz,q⟩:=h;obtain⟨t,rfl⟩:=rx;obtain⟨t',rfl⟩:=ry;exact add_str (λt' tk=>⟨.str (i++j),H,I.tok _,⟨_,rfl⟩,q⟩) hz
def vals1 {x:V}{us:List Value}(r:aO [x] us):∃u,us=[u]/\RelV x u:=by
 cases r with
 | cons r1 r2=>cases r2;exact⟨_,rfl,r1⟩
def vals2 {x y:V}{us:List Value}(r:aO [x,y] us):∃u w',us=[u,w']/\RelV x u/\RelV y w':=by
 cases r with
 | cons r1 r2 =>
  cases r2 with
  | cons r3 r4=>cases r4;exact⟨_,_,rfl,r1,r3⟩
def BA (hc:X.calm=true):fj X (.builtin "max") (λxs H Q=>∃i j,xs=[.int i,.int j]/\Q (.int (if j > i then j else i)) H):=by
 intro af s σ H xs us Q I r h;obtain⟨i,j,rfl,q⟩:=h;obtain⟨u,w',rfl,⟨t,rfl⟩,⟨t',rfl⟩⟩:=vals2 r;refine max_two_ints (I.ok.hd hc) λh' tk k=>⟨_,H,I.kept k,?_,q⟩;by_cases hj:j > i
 .rw [aw hj,aw hj];exact⟨_,rfl⟩
 rw [ay hj,ay hj];exact⟨_,rfl⟩
end
structure zj (h:Heap)(x dx C:Addr)(mA:Str->Option Value):Prop where
 obj:h.get? x=some (PySem.W.instObj C dx)
 ns:h.Ns1 dx mA
 ne:dx≠x
def sC {h:Heap}{dx:Addr}{mA:Str->Option Value}(n:h.Ns1 dx mA):∃od,h.get? dx=some od/\∀name,PySem.W.lookIn name od=some (mA name):=by
 obtain⟨o,es,ep,ho,hd,hk,_,hm⟩:=n;refine⟨o,ho,λname=>?_⟩;have e:=hm name;unfold nsFind findBy at e;rw [<-Array.find?_toList] at e;unfold PySem.W.lookIn;rw [hd];dsimp only
 split
 .rename_i y q
  rw [q] at e;exact congrArg some e
 rename_i q
 rw [q] at e;have a:es.toList.any (·.refKey)=false:=by
  rw [List.any_eq_false];intro y hy;obtain⟨z,t,SA⟩:=hk y (Array.mem_toList_iff.mp hy);simp [DictEntry.refKey,SA]
 have a':¬es.toList.any (·.refKey)=true:=by rw [a];exact cT
 rw [ay a'];exact congrArg some e
def zj.look {h:Heap}{x dx C:Addr}{mA:Str->Option Value}(I:zj h x dx C mA):∃od,PySem.W.InstAt h x (PySem.W.instObj C dx) C (some od)/\∀name,PySem.W.lookIn name od=some (mA name) :=
 let ⟨od,ho,hl⟩:=sC I.ns
 ⟨od,⟨I.obj,rfl,rfl,ho⟩,hl⟩
section
variable {prog:Program}{w:World}{A:Around}{E:Value->Shared->Prop}{s:Shared}{K:aT}{x dx C f:Addr}{mA:Str->Option Value}{name:Str}{v:Value}
def get_map {expr:Bool}{Q:Value->Shared->Prop}(X:K.In s.heap)(I:zj s.heap x dx C mA)(hg:PySem.W.plainGet K C name=true)(hh:PySem.W.hasDictIn K C=true)
  (ha:PySem.W.findIn K (.ref C) name=some none)(hv:mA name=some v)(Y7:PySem.W.handedIn v=true)(h:Q v { s with toks:=s.toks+1 }) :
  wpAny (model prog w) A (getAttr (.ref x) name expr) Q E s:=by
 obtain⟨od,J,hl⟩:=I.look;exact PySem.W.get_value X J (PySem.W.plainGet_of hg).1 (PySem.W.findObj_own hh ha rfl (by rw [hl,hv])) Y7 h
def DW {pl:Sem Bool}{Q:Value×List Value->Shared->Prop}(X:K.In s.heap)(I:zj s.heap x dx C mA)(hg:PySem.W.plainGet K C name=true)
  (hf:PySem.W.findIn K (.ref C) name=some (some (.ref f)))(ht:PySem.W.isFn K (.ref f)=true)(hv:mA name=none)(h:Q (.ref f,[.ref x]) s) :
  wpAny (model prog w) A (getMethod (.ref x) name pl) Q E s:=by
 obtain⟨od,J,hl⟩:=I.look;exact PySem.W.method_fn X J (PySem.W.plainGet_of hg).1 (PySem.W.plainGet_of hg).2 hf (beq_iff_eq.mp ht) (by show (PySem.W.lookIn name od).map (·.isSome)=some false;rw [hl,hv];rfl) h
def Fm {ns:List Str}{Q:Unit->Shared->Prop}(X:K.In s.heap)(I:zj s.heap x dx C mA)
  (hs:PySem.W.findIn K (.ref C) "__setattr__"=some (some (.builtin "object.__setattr__")))(hp:PySem.W.plainOver K C=true)(ht:PySem.W.takerIn K C name=some none)(hh:PySem.W.hasDictIn K C=true)
  (hw:PySem.Within mA ns)(hsz:ns.length<=sizeLine)
  (h:∀h',zj h' x dx C (λy=>if y=name then some v else mA y)->Heap.SameBut dx s.heap h'->Q () { s with heap:=h',toks:=s.toks+2 }) :
  wpAny (model prog w) A (setAttr (.ref x) name v) Q E s:=by
 obtain⟨od,J,hl⟩:=I.look;refine PySem.W.set_plain X J hs (PySem.W.osa_open (s:={ s with toks:=s.toks+1 }) (r:=none) X J hp ht λb=>?_);obtain⟨cd,hc,Bi⟩:=PySem.W.any_some hh;have hx:s.heap.get? x=some ⟨.ref C,some dx,.plain,#[]⟩:=I.obj;refine ax (aK (ax (ax (wpAny_loadPart hx (ax (PySem.W.Looks.here (s:={ s with toks:=s.toks+1 }) (PySem.W.looks_clsIn X hc) ?_))))));rw [Bi];refine aK (a:=some dx) (ax (aK (ax ?_)));refine wpAny_nsSet1 (s:={ s with toks:=s.toks+1 }) I.ns λh' Bd Nu=>?_;obtain⟨oD,esD,epD,Ss,SQ,SV⟩:=Bd.count (PySem.Within.cons name v hw);refine ax (wpAny_lookBehind Ss (by rw [SQ];exact pastItsLine_dict (cz SV (by rw [dw];omega))) ?_);exact aK (h _ ⟨(Nu.2 _ (du I.ne)).trans I.obj,Bd,I.ne⟩ Nu)
def v7 {R:Result->Shared->Prop}{vs:List Value}{kw:List (Str×Value)}(X:K.In s.heap)(hm:PySem.W.makesIn K C=true)
  (hi:PySem.W.findIn K (.ref C) "__init__"=some (some (.ref f)))(hf:PySem.W.typeIn K (.ref f)=some (.type "function"))
  (h:codeAny (model prog w) (A.under (.builtin "type.__call__" ⟨.ref C::vs,kw⟩)) (.call (.ref f) ⟨.ref (s.heap.objs.size+1)::vs,kw⟩) (PySem.W.InitBack (s.heap.objs.size+1) R)
   { s with heap:=(s.heap.push PySem.W.emptyDict).push (PySem.W.instObj C s.heap.objs.size) }) :
  codeAny (model prog w) A (.call (.ref C) ⟨vs,kw⟩) R s:=by
 obtain⟨hh,g,d,t,os⟩:=s;exact PySem.W.make_core (PySem.W.makes_of X hm) (PySem.W.looks_findIn X hi) (λself=>PySem.W.bind_fn X self hf) (.inl rfl) h
end
def c_ (f:Str)(v:V):List (Str×V)->List (Str×V)
 | []=>[(f,v)]
 | (g,x)::r=>if g=f then (g,v)::r else (g,x)::c_ f v r
theorem oh (f g:Str)(v:V):∀fs:List (Str×V),(c_ f v fs).lookup g=if g=f then some v else fs.lookup g
 | []=>by
  show List.lookup g [(f,v)]=_;by_cases h:g=f
  .have hb:(g == f)=true:=beq_iff_eq.mpr h;simp only [List.lookup,hb,aw h]
  have hb:(g == f)=false:=i3.mpr h;simp only [List.lookup,hb,ay h]
 | (k,x)::r=>by
  have ih:=oh f g v r;rw [show c_ f v ((k,x)::r)=(if k=f then (k,v)::r else (k,x)::c_ f v r) from rfl];by_cases hk:k=f
  .rw [aw hk];by_cases h:g=k
   .have hb:(g == k)=true:=beq_iff_eq.mpr h;simp only [List.lookup,hb,aw (h.trans hk)]
   have hb:(g == k)=false:=i3.mpr h;simp only [List.lookup,hb,ay (λe:g=f=>h (e.trans hk.symm))]
  rw [ay hk];by_cases h:g=k
  .have hb:(g == k)=true:=beq_iff_eq.mpr h;simp only [List.lookup,hb,ay (λe:g=f=>hk (h.symm.trans e))]
  have hb:(g == k)=false:=i3.mpr h;simp only [List.lookup,hb];exact ih
theorem mZ (f:Str)(v:V):∀fs:List (Str×V),f∈(c_ f v fs).map (·.1)/\∀g,g∈fs.map (·.1)->g∈(c_ f v fs).map (·.1)
 | []=>⟨by simp [c_],λg h=>by simp at h⟩
 | (k,x)::r=>by
  obtain⟨i1,i2⟩:=mZ f v r;rw [show c_ f v ((k,x)::r)=(if k=f then (k,v)::r else (k,x)::c_ f v r) from rfl];by_cases hk:k=f
  .rw [aw hk];subst hk;exact⟨by simp,λg h=>by simpa using h⟩
  rw [ay hk];refine⟨?_,λg h=>?_⟩
  .rw [bw];exact bJ _ i1
  rw [bw] at h ⊢;rcases bC.mp h with e | e
  .exact bC.mpr (.inl e)
  exact bJ _ (i2 g e)
theorem oj (f:Str)(v:V):∀fs:List (Str×V),(c_ f v fs).length<=fs.length+1
 | []=>by simp [c_]
 | (k,x)::r=>by
  have ih:=oj f v r;rw [show c_ f v ((k,x)::r)=(if k=f then (k,v)::r else (k,x)::c_ f v r) from rfl];by_cases hk:k=f
  .rw [aw hk,dw,dw];omega
  rw [ay hk,dw,dw];omega
def gL.some_of {v:V}{o:Option Value}(r:gL (some v) o):∃u,o=some u/\RelV v u:=by
 cases o with
 | none=>exact(show False from r).elim
 | some u=>exact⟨u,rfl,r⟩
def gL.none_of {o:Option Value}(r:gL none o):o=none:=by
 cases o with
 | none=>rfl
 | some u=>exact(show False from r).elim
def sP {v:V}{u:Value}(r:RelV v u):PySem.W.handedIn u=true:=by
 cases v with
 | cU=>cases (show u=Value.none from r);rfl
 | bl b=>cases (show u=Value.bool b from r);rfl
 | int i=>obtain⟨t,e⟩:=(show ∃t,u=Value.int i t from r);cases e;rfl
 | str x=>obtain⟨t,e⟩:=(show ∃t,u=Value.str x t from r);cases e;rfl
 | zg b=>obtain⟨t,e⟩:=(show ∃t,u=Value.bytes b t from r);cases e;rfl
 | Km b=>obtain⟨t,e⟩:=(show ∃t,u=Value.float b t from r);cases e;rfl
 | ref a=>cases (show u=Value.ref a from r);rfl
 | ty n=>cases (show u=Value.type n from r);rfl
section
variable {P:Program}{w:World}{H H':Hp}{h h':Heap}{a C dx:Addr}{fs E7:List (Str×V)}
def uW (bo:jM P w H h)(e:H a=some (.ins C dx fs)):∃mA,zj h a dx C mA/\(∀f,gL (fs.lookup f) (mA f))/\PySem.Within mA (fs.map (·.1))/\fs.length<=1000/\H dx=some (.own a):=by
 obtain⟨d,z,ne,ob,mA,n,r,q⟩:=(show bE P w H h a (.ins C dx fs) from bo a _ e);exact⟨mA,⟨ob,n,ne⟩,r,q,z,d⟩
end
structure BQ (K:aT)(C:Addr):Prop where
 pg:PySem.W.plainGet K C Str.empty=true
 hd:PySem.W.hasDictIn K C=true
 po:PySem.W.plainOver K C=true
 sa:PySem.W.findIn K (.ref C) "__setattr__"=some (some (.builtin "object.__setattr__"))
def BQ.get {K:aT}{C:Addr}(c:BQ K C)(f:Str):PySem.W.plainGet K C f=true:=c.pg
def cI (K:aT)(C:Addr)(f:Str):Prop:=PySem.W.findIn K (.ref C) f=some none
def cI.LW {K:aT}{C:Addr}{f:Str}(n:cI K C f):PySem.W.takerIn K C f=some none:=by
 unfold PySem.W.takerIn;rw [show PySem.W.findIn K (.ref C) f=some none from n];rfl
structure Con (K:aT)(C:Addr)(f:Str)(v:V)(u:Value):Prop where
 at_:PySem.W.findIn K (.ref C) f=some (some u)
 rel:RelV v u
 get:PySem.W.specialIn K u "__get__"=some none
 cp:PySem.W.copiedNames.contains f=false
structure Meth (K:aT)(C:Addr)(m:Str)(f:Addr):Prop where
 at_:PySem.W.findIn K (.ref C) m=some (some (.ref f))
 fn:PySem.W.isFn K (.ref f)=true
 kp:PySem.W.keepIn K (.ref f)=true
section
variable {X:Cx}{af:List (Addr×Obj)}{σ:St}{H:Hp}{s:Shared}{a C dx:Addr}{fs:List (Str×V)}{f:Str}{v:V}{A:Around}{E:Value->Shared->Prop}
def yO {b:Bool}{Q:Value->Shared->Prop}(I:Inv X af σ H s)(e:H a=some (.ins C dx fs))(c:BQ X.K C)(n:cI X.K C f)(l:fs.lookup f=some v)
  (h:∀u s',Inv X af σ H s'->RelV v u->Q u s'):wpAny (model X.prog X.w) A (getAttr (.ref a) f b) Q E s:=by
 obtain⟨mA,O,r,_,_,_⟩:=uW I.bo e;obtain⟨u,hu,ru⟩:=gL.some_of (v:=v) (o:=mA f) (by rw [<-l];exact r f);exact get_map I.jI O (c.get f) c.hd n hu (sP ru) (h u _ (I.tok _) ru)
def qx {m:Str}{g:Addr}{pl:Sem Bool}{Q:Value×List Value->Shared->Prop}(I:Inv X af σ H s)(e:H a=some (.ins C dx fs))(c:BQ X.K C)(k:Meth X.K C m g)(l:fs.lookup m=none)
  (h:Q (.ref g,[.ref a]) s):wpAny (model X.prog X.w) A (getMethod (.ref a) m pl) Q E s:=by
 obtain⟨mA,O,r,_,_,_⟩:=uW I.bo e;have hn:mA m=none:=gL.none_of (by rw [<-l];exact r m);exact DW I.jI O (c.get m) k.at_ k.fn hn h
def xF {y:V}{u:Value}{Q:Unit->Shared->Prop}(I:Inv X af σ H s)(e:H a=some (.ins C dx fs))(c:BQ X.K C)(n:cI X.K C f)(hl:fs.length < 1000)(ry:RelV y u)
  (h:∀s',Inv X af σ (upd H a (.ins C dx (c_ f y fs))) s'->Q () s'):wpAny (model X.prog X.w) A (setAttr (.ref a) f u) Q E s:=by
 obtain⟨mA,O,r,wi,_,ho⟩:=uW I.bo e;have hz:(fs.map (·.1)).length<=sizeLine:=by rw [az,gG];omega
 refine Fm I.jI O c.sa c.po n.LW c.hd wi hz λh' O' sb=>h _ ?_;have hd:∃o,h'.get? dx=some o:=let ⟨o,_,_,e',_⟩:=O'.ns;⟨o,e'⟩;refine I.write (x:=a) (e:=dx) (by rw [e];exact True.intro) (.inr ho) (λb q hb z=>(sb.2 b hb).trans z) hd ?_;refine⟨by rw [ai O.ne];exact ho,?_,O.ne,O'.obj,_,O'.ns,λg=>?_,λg hg=>?_⟩
 .have:=oj f y fs;omega
 .show gL ((c_ f y fs).lookup g) (if g=f then some u else mA g);rw [oh];by_cases q:g=f
  .rw [aw q,aw q];exact ry
  rw [ay q,ay q];exact r g
 by_cases q:g=f
 .rw [q];exact(mZ f y fs).1
 refine(mZ f y fs).2 g (wi g λz=>hg ?_);show (if g=f then some u else mA g)=none;rw [ay q];exact z
def Inv.made (I:Inv X af σ H s):Inv X af σ (upd (upd H s.heap.objs.size (.own (s.heap.objs.size+1))) (s.heap.objs.size+1) (.ins C s.heap.objs.size []))
  { s with heap:=(s.heap.push PySem.W.emptyDict).push (PySem.W.instObj C s.heap.objs.size) }:=by
 have e1:(s.heap.push PySem.W.emptyDict).get? s.heap.objs.size=some PySem.W.emptyDict:=cJ s.heap rfl;have e2:((s.heap.push PySem.W.emptyDict).push (PySem.W.instObj C s.heap.objs.size)).get? (s.heap.objs.size+1)=some (PySem.W.instObj C s.heap.objs.size):=by
  have:=cJ (s.heap.push PySem.W.emptyDict) (o:=PySem.W.instObj C s.heap.objs.size) rfl;rwa [j4] at this
 have e3:(s.heap.push PySem.W.emptyDict).Ns s.heap.objs.size (λ_=>none):=⟨PySem.W.emptyDict,#[],_,e1,rfl,(λe he=>absurd he (by simp)),λ_=>rfl⟩;have I1:=I.laid (a:=s.heap.objs.size) (o:=.own (s.heap.objs.size+1)) (h':=s.heap.push PySem.W.emptyDict) (t':=s.toks) (λb u q=>bj _ q) (aH _) ⟨_,e1⟩;refine I1.laid (a:=s.heap.objs.size+1) (o:=.ins C s.heap.objs.size []) (t':=s.toks) (λb u q=>bj _ q) (Nat.le_of_eq (j4 _ _)) ?_;have ne:s.heap.objs.size≠s.heap.objs.size+1:=a_ (kP _);refine⟨by rw [ai ne,ae],gr _,ne,e2,λ_=>none,(Heap.Ns1.of_empty e3).at λo q=>bj _ q,λ_=>True.intro,λy hy=>absurd rfl hy⟩
def Aq {prog:Program}{w:World}{env:Env}{e:Expr}{f:Str}{pos:Pos}{s:Shared}{Q:Value->Shared->Prop}(hb:attributeBase e f env (eval e env)=eval e env)
  (h:wpAny (model prog w) A (eval e env) (λo s₁=>wpAny (model prog w) A (getAttr o f true) Q E s₁) E s):wpAny (model prog w) A (eval (.Attribute e f pos) env) Q E s :=
 Attribute_any_ h (by rw [arm_eval_Attribute,hb])
end
inductive OL (K:aT)(H:Hp)(f:Str)(x:V)(R:V->Prop):Prop
|mk(a C dx:Addr)(fs:List (Str×V))(v:V)(e:x=.ref a)(h:H a=some (.ins C dx fs))(c:BQ K C)(n:cI K C f)(l:fs.lookup f=some v)(q:R v)
inductive WR (K:aT)(H:Hp)(f:Str)(x:V)(R:Addr->Addr->Addr->List (Str×V)->Prop):Prop
|mk(a C dx:Addr)(fs:List (Str×V))(e:x=.ref a)(h:H a=some (.ins C dx fs))(c:BQ K C)(n:cI K C f)(l:fs.length < 1000)(q:R a C dx fs)
def QJ (K:aT)(ta:TE)(f:Str):TE:=λσ H Q=>ta σ H λx H1=>OL K H1 f x λv=>Q v H1
def QS (K:aT)(ta tv:TE)(f:Str):TS:=λD σ H=>tv σ H λy H1=>ta σ H1 λx H2=>WR K H2 f x λa C dx fs=>D.nx σ (upd H2 a (.ins C dx (c_ f y fs)))
section
variable {X:Cx}{o e value:Expr}{f:Str}{pos pos' uq:Pos}{ta tv:TE}
def dS (he:PE X e ta)(hb:attributeBase e f X.env (eval e X.env)=eval e X.env):PE X (.Attribute e f pos) (QJ X.K ta f):=by
 intro af s σ H Q I h;refine Aq hb (b8 (he af s σ H _ I h) λu s1 aR=>?_);obtain⟨x,H1,I1,rx,a,C,dx,fs,v,ex,ea,c,n,l,q⟩:=aR;subst ex;obtain rfl:u=Value.ref a:=rx;exact yO I1 ea c n l λu' s2 I2 ru=>⟨v,H1,I2,ru,q⟩
def ff (ha:PE X o ta)(hv:PE X value tv)(hs:swapsWith value (some (.Attribute o f pos')) pos.line X.env=pure false):PS X (.Assign [.Attribute o f pos'] value pos) (QS X.K ta tv f):=by
 intro af s σ H D I h;refine plainObj_wpAny_Assign_Attribute (b8 (hv af s σ H _ I h) λu s1 aR=>?_) hs;obtain⟨y,H1,I1,ry,q⟩:=aR;refine b8 (ha af s1 σ H1 _ I1 q) λov s2 aR=>?_;obtain⟨x,H2,I2,rx,a,C,dx,fs,ex,ea,c,n,l,q2⟩:=aR;subst ex;obtain rfl:ov=Value.ref a:=rx;exact xF I2 ea c n l ry λs3 I3=>⟨σ,_,I3,q2⟩
def Hq {pl:Sem Bool}{m:Str}{apos:Pos}{args:List Expr}{af:List (Addr×Obj)}{s:Shared}{σ:St}{H:Hp}{Q:Value->Shared->Prop}{te:TE}(he:PE X e te)(I:Inv X af σ H s)
  (h:te σ H λx H1=>∃a C dx fs g,x=.ref a/\H1 a=some (.ins C dx fs)/\BQ X.K C/\Meth X.K C m g/\fs.lookup m=none /\
   ∀s1,Inv X af σ H1 s1->wpAny (model X.prog X.w) X.A (callWith pos (.ref g) [.ref a] (backTo pos (starEach args X.env)) (backToKw pos (keywordEach [] X.env))) Q X.xe s1)
  (ht:eval (.Call (.Attribute e m apos) args [] pos) X.env=(do
   let ov <-eval e X.env
   standAt apos.atName
   let (f,first) <-holding [ov] (getMethod ov m pl)
   callWith pos f first (backTo pos (starEach args X.env)) (backToKw pos (keywordEach [] X.env)))) :
  wpAny (model X.prog X.w) X.A (eval (.Call (.Attribute e m apos) args [] pos) X.env) Q X.xe s:=by
 refine PySem.W.methodCall_KW (pl:=pl) (b8 (he af s σ H _ I h) λu s1 aR=>?_) ht;obtain⟨x,H1,I1,rx,a,C,dx,fs,g,ex,ea,c,k,l,q⟩:=aR;subst ex;obtain rfl:u=Value.ref a:=rx;exact qx I1 ea c k l (q s1 I1)
end
section
variable {X:Cx}{af:List (Addr×Obj)}{σ:St}{H:Hp}{s:Shared}{A:Around}{E:Value->Shared->Prop}{Q:Value->Shared->Prop}{c:Value}{b:Bool}
inductive qS (K:aT)(H:Hp):V->Value->Prop where
 | cU:qS K H .cU (.type "NoneType")
 | bl (x:Bool):qS K H (.bl x) (.type "bool")
 | int (i:Int):qS K H (.int i) (.type "int")
 | str (x:Str):qS K H (.str x) (.type "str")
 | Km (x:UInt64):qS K H (.Km x) (.type "float")
 | lst {a:Addr}{xs:List V}(e:H a=some (.lst xs)):qS K H (.ref a) (.type "list")
 | iV {a:Addr}{o:Obj}{xs:List V}(e:H a=some (.iV o (.lst xs))):qS K H (.ref a) (.type "list")
 | tup {a:Addr}{xs:List V}(e:H a=some (.tup xs)):qS K H (.ref a) (.type "tuple")
 | dK {a:Addr}{kvs:List (aF×V)}(e:H a=some (.dK kvs)):qS K H (.ref a) (.type "dict")
 | dT {a:Addr}{kvs:List (List aF×V)}(e:H a=some (.dT kvs)):qS K H (.ref a) (.type "dict")
 | ins {a C dx:Addr}{fs:List (Str×V)}(e:H a=some (.ins C dx fs))(cl:BQ K C)(ha:PySem.W.findIn K (.ref C) "__class__"=some (some (.builtin "object.__class__")))
   (hn:PySem.W.specialIn K (.builtin "object.__class__") "__get__"=some (some (.builtin "getset_descriptor.__get__")))(htk:PySem.W.takesIn K (.builtin "object.__class__")=some true)
   (hm:PySem.W.mroIn K C (.type "object")=some true):qS K H (.ref a) (.ref C)
end
structure cX (k:Nat)(A:Around):Prop where
 hd:A.handled=none
 dp:A.depth+3 * k+5 < recursionLimit
 un:A.units+16 * k+200 < cLine
 gd:A.guards=some []
def cX.mono {j k:Nat}{A:Around}(r:cX k A)(h:j<=k):cX j A:=⟨r.hd,by have:=r.dp;omega,by have:=r.un;omega,r.gd⟩
theorem cX.deeper {k:Nat}{A:Around}(r:cX (k+1) A)(env:Env):cX k (A.deeper env) :=
 ⟨r.hd,by have:=r.dp;show A.depth+1+3 * k+5 < _;omega,by have:=r.un;show A.units+3+16 * k+200 < _;omega,r.gd⟩
theorem cX.in1 {k:Nat}{A:Around}(r:cX (k+1) A):cX k A.in1 :=
 ⟨r.hd,by have:=r.dp;show A.depth+3 * k+5 < _;omega,by have:=r.un;show A.units+1+16 * k+200 < _;omega,r.gd⟩
def yA {A:Around}{C:Addr}{us:List Value}{kw:List (Str×Value)}:(A.under (.builtin "type.__call__" ⟨.ref C::us,kw⟩)).depth=A.depth+1:=by
 first | rfl | simp [Around.under,Code.weight,Code.isCreation,Code.isGuard,Code.isCaller,Code.frames,Code.isFrame,guardIds]
def yz {A:Around}{C:Addr}{us:List Value}{kw:List (Str×Value)}:(A.under (.builtin "type.__call__" ⟨.ref C::us,kw⟩)).units=A.units+1:=by
 first | rfl | simp [Around.under,Code.cUnits,Code.frames,Code.isFrame]
def v8 {A:Around}{C:Addr}{us:List Value}{kw:List (Str×Value)}:(A.under (.builtin "type.__call__" ⟨.ref C::us,kw⟩)).guards=A.guards:=by
 first | rfl | simp [Around.under,Code.guards,Code.isGuard,guardIds,pushGuards]
def cX.make {k:Nat}{A:Around}(r:cX (k+1) A)(C:Addr)(us:List Value)(kw:List (Str×Value)):cX k (A.under (.builtin "type.__call__" ⟨.ref C::us,kw⟩)) :=
 ⟨r.hd,by have:=r.dp;rw [yA];omega,by have:=r.un;rw [yz];omega,by rw [v8];exact r.gd⟩
theorem cX.depth {k:Nat}{A:Around}(r:cX k A):A.depth < recursionLimit:=by have:=r.dp;omega
theorem cX.units {k:Nat}{A:Around}(r:cX k A):A.units+64 < cLine:=by have:=r.un;omega
def pP:TA:=λ_ H Q=>Q [] H
def fc (ta:TE)(tr:TA):TA:=λσ H Q=>ta σ H λx H1=>tr σ H1 λxs H2=>Q (x::xs) H2
section
variable {X:Cx}{e:Expr}{es:List Expr}{te:TE}{t:TA}{pos:Pos}
def ak:PA X [] pP:=λ_ _ _ _ H Q I h=>Calls.spliced_nil ⟨[],H,I,.nil,h⟩
def ah (ha:PE X e te)(hr:PA X es t)(hs:starEach (e::es) X.env=(false,eval e X.env)::starEach es X.env:=by rfl):PA X (e::es) (fc te t):=by
 intro pos af s σ H Q I h;rw [hs];show wpAny _ _ (spliced ((false,eval e X.env)::backTo pos (starEach es X.env))) _ _ s;refine mx (b8 (ha af s σ H _ I h) λu s1 aR=>?_);obtain⟨x,H1,I1,r1,q1⟩:=aR;refine b8 (hr pos af s1 σ H1 _ I1 q1) λus s2 aR=>?_;obtain⟨xs,H2,I2,r2,q2⟩:=aR;exact⟨x::xs,H2,I2,.cons r1 r2,q2⟩
def rb (t:TA):TE:=λσ H Q=>t σ H λxs H1=>xs.length<=sizeLine/\∀p,H1 p=none->Q (.ref p) (upd H1 p (.tup xs))
def Md (t:TA):TE:=λσ H Q=>t σ H λxs H1=>xs.length<=sizeLine/\∀p,H1 p=none->Q (.ref p) (upd H1 p (.lst xs))
def cy {x1}(h:PA X es t):PE X (.Tuple es x1 pos) (rb t):=by
 intro af s σ H Q I hq;refine wpAny_Tuple_spliced (b8 (h pos af s σ H _ I hq) λus s1 aR=>?_);obtain⟨xs,H1,I1,r,z,q⟩:=aR;refine⟨by rw [<-r.length];exact z,?_⟩;have hf:H1 s1.heap.objs.size=none:=I1.bo.fresh (aH _);refine⟨.ref s1.heap.objs.size,upd H1 s1.heap.objs.size (.tup xs),I1.laid (t':=s1.toks) (λb u e=>bj _ e) (aH _) ?_,rfl,q _ hf⟩;exact⟨z,us,r,⟨_,cJ _ rfl,rfl,_,rfl⟩⟩
def bQ (h:PA X es t):PE X (.List es pos) (Md t):=by
 intro af s σ H Q I hq;refine wpAny_List_spliced (b8 (h pos af s σ H _ I hq) λus s1 aR=>?_);obtain⟨xs,H1,I1,r,z,q⟩:=aR;refine⟨by rw [<-r.length];exact z,?_⟩;have hf:H1 s1.heap.objs.size=none:=I1.bo.fresh (aH _);refine⟨.ref s1.heap.objs.size,upd H1 s1.heap.objs.size (.lst xs),I1.laid (t':=s1.toks) (λb u e=>bj _ e) (aH _) ?_,rfl,q _ hf⟩;exact⟨z,us,0,r,cJ _ rfl⟩
end
abbrev Sp:=List V->Hp->VK->XK->Prop
abbrev tJ:=List Env->Hp->Shared->XK->Value->Shared->Prop
structure oK (P:Program)(w:World)(K:aT)(mg:Str->Option Value)(base:Heap)(A:Around)(outer:List Env)(s:Shared)(H:Hp):Prop where
 frames:A.frames=some outer
 mod:Mod K mg base
 bs:∀b o,base.get? b=some o->s.heap.get? b=some o/\H b=none
 Eu:base.objs.size<=s.heap.objs.size
 lS:s.heap.FunFrames base outer
 Gr:∀b∈oF outer,H b=none
 bo:jM P w H s.heap
 bare:AllBare s.gens
def CE (outer:List Env)(P:Program)(w:World)(H:Hp)(s:Shared)(Q:VK)(u:Value)(s':Shared):Prop :=
 ∃v H',s'.os=s.os/\AllBare s'.gens/\Un (oF outer) [] H H' s.heap s'.heap/\jM P w H' s'.heap/\RelV v u/\Q v H'
def CR (CX:tJ)(outer:List Env)(P:Program)(w:World)(H:Hp)(s:Shared)(Q:VK)(E:XK)(r:Result)(s':Shared):Prop :=
 match r with
 | .ok (.ret u)=>CE outer P w H s Q u s'
 | .ok _=>False
 | .error e=>CX outer H s E e s'
structure bf (P:Program)(w:World)(K:aT)(mg:Str->Option Value)(base:Heap)(CX:tJ) (k:Nat)(f:Addr)(fd:FuncData) (ps:List Str)(sp:Sp):Prop where
 len:∀vs H Q E,sp vs H Q E->vs.length=ps.length
 run:∀(A:Around)(outer:List Env)(s:Shared)(H:Hp)(args:Args)(us:List Value)(vs:List V)(Q:VK)(E:XK),cX k A->oK P w K mg base A outer s H->BindsTo s fd args (ps.zip us)->aO vs us->sp vs H Q E ->
  codeAny (model P w) A (.call (.ref f) args) (CR CX outer P w H s Q E) s
theorem bf.mono {P:Program}{w:World}{K:aT}{mg:Str->Option Value}{base:Heap}{CX:tJ}{j k:Nat}{f:Addr}{fd:FuncData}{ps:List Str}{sp:Sp}(F:bf P w K mg base CX j f fd ps sp)(h:j<=k) :
  bf P w K mg base CX k f fd ps sp:=⟨F.len,λA outer s H args us vs Q E hr=>F.run A outer s H args us vs Q E (hr.mono h)⟩
def bf.imp {P:Program}{w:World}{K:aT}{mg:Str->Option Value}{base:Heap}{CX:tJ}{k:Nat}{f:Addr}{fd:FuncData}{ps:List Str}{sp Ms:Sp}(F:bf P w K mg base CX k f fd ps sp)
  (h:∀vs H Q E,Ms vs H Q E->sp vs H Q E):bf P w K mg base CX k f fd ps Ms :=
 ⟨λvs H Q E q=>F.len vs H Q E (h _ _ _ _ q),λA outer s H args us vs Q E hr he hb hv hs=>F.run A outer s H args us vs Q E hr he hb hv (h _ _ _ _ hs)⟩
def oK.make {P:Program}{w:World}{K:aT}{mg:Str->Option Value}{base:Heap}{A:Around}{outer:List Env}{s:Shared}{H:Hp}(e:oK P w K mg base A outer s H)(C:Addr)(us:List Value)(kw:List (Str×Value)) :
  oK P w K mg base (A.under (.builtin "type.__call__" ⟨.ref C::us,kw⟩)) outer s H:=⟨by first | exact e.frames | (simpa [Around.under,Code.envs,Code.isFrame,pushEnvs] using e.frames),e.mod,e.bs,e.Eu,e.lS,e.Gr,e.bo,e.bare⟩
theorem oK.in1 {P:Program}{w:World}{K:aT}{mg:Str->Option Value}{base:Heap}{A:Around}{outer:List Env}{s:Shared}{H:Hp}(e:oK P w K mg base A outer s H) :
  oK P w K mg base A.in1 outer s H:=⟨e.frames,e.mod,e.bs,e.Eu,e.lS,e.Gr,e.bo,e.bare⟩
section
variable {X:Cx}{af:List (Addr×Obj)}{σ:St}{H:Hp}{s s':Shared}
def Inv.Eg (I:Inv X af σ H s):oK X.prog X.w X.K X.mg X.base X.A X.stack s H :=
 ⟨I.ok.frames,I.ok.mod,I.bs,cz I.ok.Eu I.sz,I.stack,I.oP,I.bo,I.bare⟩
def Inv.after {Q:VK}{u:Value}(I:Inv X af σ H s)(h:CE X.stack X.prog X.w H s Q u s'):EP X af σ Q u s':=by
 obtain⟨v,H',os,bare,un,bo,r,q⟩:=h;obtain⟨hh,g,d,t,XS⟩:=s';obtain rfl:XS=s.os:=os;exact⟨v,H',I.call (h':=hh) (g':=g) (d':=d) (t':=t) (ch:=[]) un bo bare (λb z=>absurd z (by simp)),r,q⟩
end
def Ci (sp:Sp)(dvs:List V)(E:XK)(t:TA):TE:=λσ H Q=>t σ H λvs H1=>sp (vs++dvs) H1 Q E
def Mb (C:Addr)(m:Str)(sp:Sp)(dvs:List V)(E:XK)(ta:TE)(t:TA):TE:=λσ H Q=>ta σ H λx H1=>∃a dx fs,x=.ref a/\H1 a=some (.ins C dx fs)/\fs.lookup m=none /\
 t σ H1 λvs H2=>sp (x::(vs++dvs)) H2 Q E
def Mc (C:Addr)(sp:Sp)(dvs:List V)(E:XK)(t:TA):TE:=λσ H Q=>t σ H λvs H1=>∀x dx,H1 x=none->H1 dx=none->dx≠x ->
 sp (.ref x::(vs++dvs)) (upd (upd H1 dx (.own x)) x (.ins C dx [])) (λv H2=>v=.cU/\Q (.ref x) H2) E
def Binds (K:aT)(fd:FuncData) (ps:List Str)(ds:List Value):Prop :=
 ∀(s:Shared)(us:List Value),K.In s.heap->(us++ds).length=ps.length->BindsTo s fd ⟨us,[]⟩ (ps.zip (us++ds))
def Binds.all {K:aT}{fd:FuncData}{ps:List Str}(h:∀us:List Value,us.length=ps.length->bindArgs fd ⟨us,[]⟩=pure (ps.zip us)):Binds K fd ps []:=λs us _ hl=>by
 rw [eX] at hl ⊢;exact .of_eq (h us hl)
def Passes (CX:tJ)(X:Cx)(E:XK):Prop:=∀(af:List (Addr×Obj))(σ:St)(H:Hp)(s:Shared)(e:Value)(s':Shared),Inv X af σ H s->CX X.stack H s E e s'->X.xe e s'
section
variable {X:Cx}{CX:tJ}{k:Nat}{f C:Addr}{fd:FuncData}{ps:List Str}{sp:Sp}{dvs:List V}{ds:List Value}{E:XK}{x m:Str}{p pos apos:Pos}{e o:Expr}{es:List Expr}{ta:TE}{t:TA}
def CK {af:List (Addr×Obj)}{σ:St}{H:Hp}{s:Shared}{Q:VK}{us:List Value}{vs:List V}(F:bf X.prog X.w X.K X.mg X.base CX k f fd ps sp)(hr:cX k X.A)(hb:Binds X.K fd ps ds)(hd:aO dvs ds)(hx:Passes CX X E)
  (I:Inv X af σ H s)(r:aO vs us)(h:sp (vs++dvs) H Q E):wpAny (model X.prog X.w) X.A (call (.ref f) us) (EP X af σ Q) X.xe s:=by
 have r2:aO (vs++dvs) (us++ds):=r.append hd;have hl:(us++ds).length=ps.length:=by rw [<-r2.length];exact F.len _ _ _ _ h
 refine gN (iw (F.run X.A X.stack s H ⟨us,[]⟩ (us++ds) (vs++dvs) Q E hr I.Eg (hb s us I.jI hl) r2 h) λr s' hq=>?_);cases r with
 | error e=>exact hx af σ H s e s' I hq
 | ok fl =>
  cases fl with
  | ret u=>exact I.after hq
  | next=>exact False.elim hq
  | brk=>exact False.elim hq
  | cont=>exact False.elim hq
def zZ (F:bf X.prog X.w X.K X.mg X.base CX k f fd ps sp)(hr:cX k X.A)(hg:Gl X x)(hm:X.mg x=some (.ref f))(hk:PySem.W.keepIn X.K (.ref f)=true)(hb:Binds X.K fd ps ds)(hd:aO dvs ds)(hx:Passes CX X E)
  (ha:PA X (e::es) t)(qr:(x == ("__debug__":Str))=false:=by decide)(he:starEach (e::es) X.env=(false,eval e X.env)::starEach es X.env:=by rfl)(ni:(backTo pos (starEach es X.env)).any (·.1)=false:=by rfl) :
  PE X (.Call (.Name x p) (e::es) [] pos) (Ci sp dvs E t):=by
 intro af s σ H Q I h;refine kQ (iF I hg hm ?_ qr);refine PySem.W.callWith_K (h₀:=X.base) I.ok.mod.Jw hk (b8 (ha pos af s σ H _ I h) λus s1 aR=>?_) he ni;obtain⟨vs,H1,I1,r,q⟩:=aR;refine⟨I1.jI,?_⟩;exact CK F hr hb hd hx I1 r q
def zX {pl:Sem Bool}(he:PE X o ta)(c:BQ X.K C)(hm:Meth X.K C m f)(F:bf X.prog X.w X.K X.mg X.base CX k f fd ps sp)(hr:cX k X.A)(hb:Binds X.K fd ps ds)(hd:aO dvs ds)(hx:Passes CX X E)(ha:PA X (e::es) t)
  (iU:starEach (e::es) X.env=(false,eval e X.env)::starEach es X.env:=by rfl)(ni:(backTo pos (starEach es X.env)).any (·.1)=false:=by rfl)
  (ht:eval (.Call (.Attribute o m apos) (e::es) [] pos) X.env=(do
   let ov <-eval o X.env
   standAt apos.atName
   let (f,first) <-holding [ov] (getMethod ov m pl)
   callWith pos f first (backTo pos (starEach (e::es) X.env)) (backToKw pos (keywordEach [] X.env))):=by rfl) :
  PE X (.Call (.Attribute o m apos) (e::es) [] pos) (Mb C m sp dvs E ta t):=by
 intro af s σ H Q I h;refine PySem.W.methodCall_KW (pl:=pl) (b8 (he af s σ H _ I h) λu s1 aR=>?_) ht;obtain⟨x,H1,I1,rx,a,dx,fs,ex,ea,l,q⟩:=aR;subst ex;obtain rfl:u=Value.ref a:=rx;refine qx I1 ea c hm l ?_;refine PySem.W.callWith_K (first:=[.ref a]) (h₀:=X.base) I.ok.mod.Jw hm.kp (b8 (ha pos af s1 σ H1 _ I1 q) λus s2 aR=>?_) iU ni;obtain⟨vs,H2,I2,r,q2⟩:=aR;refine⟨I2.jI,?_⟩;exact CK (us:=.ref a::us) (vs:=.ref a::vs) F hr hb hd hx I2 (.cons rfl r) q2
structure Mk (K:aT)(C f:Addr):Prop where
 makes:PySem.W.makesIn K C=true
 init:PySem.W.findIn K (.ref C) "__init__"=some (some (.ref f))
 fn:PySem.W.isFn K (.ref f)=true
 kp:PySem.W.keepIn K (.ref C)=true
def CJ {af:List (Addr×Obj)}{σ:St}{H:Hp}{s:Shared}{Q:VK}{us:List Value}{vs:List V}(M:Mk X.K C f)(F:bf X.prog X.w X.K X.mg X.base CX k f fd ps sp)(hr:cX (k+1) X.A)(hb:Binds X.K fd ps ds)(hd:aO dvs ds)
  (hx:Passes CX X E)(I:Inv X af σ H s)(r:aO vs us)
  (h:∀x dx,H x=none->H dx=none->dx≠x->sp (.ref x::(vs++dvs)) (upd (upd H dx (.own x)) x (.ins C dx [])) (λv H2=>v=.cU/\Q (.ref x) H2) E) :
  wpAny (model X.prog X.w) X.A (call (.ref C) us) (EP X af σ Q) X.xe s:=by
 have hq:=h (s.heap.objs.size+1) s.heap.objs.size (I.bo.fresh (iX _)) (I.bo.fresh (aH _)) (a_ (kP _));have I2:=Inv.made (C:=C) I;have r2:aO (V.ref (s.heap.objs.size+1)::(vs++dvs)) (Value.ref (s.heap.objs.size+1)::(us++ds)):=.cons rfl (r.append hd);have hl:(Value.ref (s.heap.objs.size+1)::us++ds).length=ps.length:=by
  have e:=r2.length;rw [F.len _ _ _ _ hq] at e;exact e.symm
 refine gN (v7 (f:=f) I.jI M.makes M.init (beq_iff_eq.mp M.fn) (iw (F.run _ X.stack _ _ ⟨Value.ref (s.heap.objs.size+1)::us,[]⟩ (Value.ref (s.heap.objs.size+1)::(us++ds)) _ _ E (hr.make C us [])
  (I2.Eg.make C us []) (hb _ (Value.ref (s.heap.objs.size+1)::us) I2.jI hl) r2 hq) λr s' Nz=>?_))
 cases r with
 | error e=>exact hx af σ _ _ e s' I2 Nz
 | ok fl =>
  cases fl with
  | ret u =>
   obtain⟨v,H',I3,rv,ev,q3⟩:=I2.after Nz;subst ev;exact⟨rv,⟨V.ref (s.heap.objs.size+1),H',I3,rfl,q3⟩⟩
  | next=>exact False.elim Nz
  | brk=>exact False.elim Nz
  | cont=>exact False.elim Nz
def zY (M:Mk X.K C f)(F:bf X.prog X.w X.K X.mg X.base CX k f fd ps sp)(hr:cX (k+1) X.A)(hg:Gl X x)(hm:X.mg x=some (.ref C))(hb:Binds X.K fd ps ds)(hd:aO dvs ds)(hx:Passes CX X E)
  (ha:PA X (e::es) t)(qr:(x == ("__debug__":Str))=false:=by decide)(he:starEach (e::es) X.env=(false,eval e X.env)::starEach es X.env:=by rfl)(ni:(backTo pos (starEach es X.env)).any (·.1)=false:=by rfl) :
  PE X (.Call (.Name x p) (e::es) [] pos) (Mc C sp dvs E t):=by
 intro af s σ H Q I h;refine kQ (iF I hg hm ?_ qr);refine PySem.W.callWith_K (h₀:=X.base) I.ok.mod.Jw M.kp (b8 (ha pos af s σ H _ I h) λus s1 aR=>?_) he ni;obtain⟨vs,H1,I1,r,q⟩:=aR;refine⟨I1.jI,?_⟩;exact CJ M F hr hb hd hx I1 r q
end
section
variable {X:Cx}{CX:tJ}{k:Nat}{f C:Addr}{fd:FuncData}{ps ks:List Str}{sp:Sp}{E:XK}{x m:Str}{p pos apos YR:Pos}{e o:Expr}{es:List Expr}{kws:List Keyword}{te ta:TE}{t tk:TA}{nm:Option Str}
structure UH (K:aT)(fd:FuncData) (ps ks:List Str)(g:List Value->List Value->List Value)(gV:List V->List V->List V):Prop where
 to:∀(s:Shared)(us ws:List Value),K.In s.heap->(g us ws).length=ps.length->BindsTo s fd ⟨us,ks.zip ws⟩ (ps.zip (g us ws))
 rel:∀{vs:List V}{us:List Value}{zs:List V}{ws:List Value},aO vs us->aO zs ws->aO (gV vs zs) (g us ws)
variable {g:List Value->List Value->List Value}{gV:List V->List V->List V}
end
structure aJ (N P:List Str)(sc:Scope):Prop where
 kind:sc.kind=.function
 co:sc.isCoroutine=false
 gen:sc.isGenerator=false
 nd:N.Nodup
 pre:N.take P.length=P
 par:∀x∈P,sc.names.lookup x=some .local\/sc.names.lookup x=some .cell
 Jl:∀y∈sc.names,y.2≠.free
def ju {N P:List Str}{sc:Scope}(a:sc.kind=.function)(b:sc.isCoroutine=false)(c:sc.isGenerator=false)(d:N.take P.length=P)(e:N.Nodup/\(∀x∈P,sc.names.lookup x=some .local\/sc.names.lookup x=some .cell)/\∀y∈sc.names,y.2≠.free):aJ N P sc:=⟨a,b,c,e.1,d,e.2.1,e.2.2⟩
theorem tq {kindOf:Str->Option NameKind}{x:Str}:∀{binds:List (Str×Value)}{m:Str->Option Value},(∀v,(x,v)∉binds)->bindL kindOf binds m x=m x
 | [],_,_=>rfl
 | (n,v)::r,m,h=>by
  unfold bindL;rw [tq λw hw=>h w (bJ _ hw)]
  split
  .have:x≠n:=by rintro rfl;exact h v bZ
   simp [this]
  rfl
theorem tE {kindOf:Str->Option NameKind}{x:Str}:∀{binds:List (Str×Value)}{m:Str->Option Value},(∀v,(x,v)∉binds)->bindC kindOf binds m x=m x
 | [],_,_=>rfl
 | (n,v)::r,m,h=>by
  unfold bindC;rw [tE λw hw=>h w (bJ _ hw)]
  split
  .rfl
  have:x≠n:=by rintro rfl;exact h v bZ
  simp [this]
theorem tD {kindOf:Str->Option NameKind}{x:Str}{v:Value}:∀{P:List Str}{vs:List Value}{i:Nat}{m:Str->Option Value},P.Nodup->P[i]?=some x->vs[i]?=some v->kindOf x=some .local ->
  bindL kindOf (P.zip vs) m x=some v
 | [],_,_,_,_,h,_,_=>by simp at h
 | _::_,[],_,_,_,_,h,_=>by simp at h
 | p::P,w::vs,0,m,nd,h1,h2,hk=>by
  simp at h1 h2;subst h1;subst h2;show bindL kindOf ((p,w)::P.zip vs) m p=_;unfold bindL;rw [tq λv hv=>(jP.mp nd).1 (List.of_mem_zip hv).1,aw hk];simp
 | p::P,w::vs,i+1,m,nd,h1,h2,hk=>by
  show bindL kindOf ((p,w)::P.zip vs) m x=_;unfold bindL;exact tD (i:=i) (jP.mp nd).2 (by simpa using h1) (by simpa using h2) hk
theorem tF {kindOf:Str->Option NameKind}{x:Str}{v:Value}:∀{P:List Str}{vs:List Value}{i:Nat}{m:Str->Option Value},P.Nodup->P[i]?=some x->vs[i]?=some v->kindOf x≠some .local ->
  bindC kindOf (P.zip vs) m x=some v
 | [],_,_,_,_,h,_,_=>by simp at h
 | _::_,[],_,_,_,_,h,_=>by simp at h
 | p::P,w::vs,0,m,nd,h1,h2,hk=>by
  simp at h1 h2;subst h1;subst h2;show bindC kindOf ((p,w)::P.zip vs) m p=_;unfold bindC;rw [tE λv hv=>(jP.mp nd).1 (List.of_mem_zip hv).1,ay hk];simp
 | p::P,w::vs,i+1,m,nd,h1,h2,hk=>by
  show bindC kindOf ((p,w)::P.zip vs) m x=_;unfold bindC;exact tF (i:=i) (jP.mp nd).2 (by simpa using h1) (by simpa using h2) hk
def start (N:List Str)(vs:List V):St:=vs.map some++List.replicate (N.length - vs.length) none
def d6 (CX:tJ)(P:Program)(w:World)(K:aT)(mg:Str->Option Value)(base:Heap) (N:List Str)(qual:Str)(scope:Scope)(f:Addr)(cd:Value)(A:Around)(outer:List Env)(s:Shared)(H:Hp)(E:XK):Cx where
 prog:=P
 w:=w
 K:=K
 mg:=mg
 base:=base
 A:=A.deeper (envOfC qual scope s.heap.objs.size f cd)
 N:=N
 s₀:=s
 H₀:=H
 env:=envOfC qual scope s.heap.objs.size f cd
 outer:=outer
 stack:=envOfC qual scope s.heap.objs.size f cd::outer
 ex:=[]
 calm:=true
 fn:=λ_=>true
 pn:=[]
 xe:=λe s'=>wpAny (model P w) (A.deeper (envOfC qual scope s.heap.objs.size f cd)) (leaving (envOfC qual scope s.heap.objs.size f cd) e) (λ_ CI=>CX outer H s E e CI) (λe' CI=>CX outer H s E e' CI) s'
def wO {sc:Scope}{n:Nat}{x:Str}(h:sc.names.lookup x=some .cell):∃c,(cellsFrom n sc.names []).lookup x=some c:=by
 have q:=PySem.W.cellsFrom_some sc.names n [] (.inl h);exact i5.mp q
def sI {CX:tJ}{P:Program}{w:World}{K:aT}{mg:Str->Option Value}{base:Heap}{N ps:List Str}{qual:Str}{scope:Scope}{f:Addr}{cd:Value}{A:Around}{outer:List Env}{s s1:Shared}{H:Hp}{E:XK}{us:List Value}{vs:List V}
  (S:aJ N ps scope)(hd:A.handled=none)(e0:oK P w K mg base A outer s H)(hl:vs.length=ps.length)(r:aO vs us)
  (x:InCallC s s.heap.objs.size (bindL (envOfC qual scope s.heap.objs.size f cd).kindOf (ps.zip us) λ_=>none) (cellsFrom (s.heap.objs.size+1) scope.names []) (bindC (envOfC qual scope s.heap.objs.size f cd).kindOf (ps.zip us) λ_=>none) s1) :
  Inv (d6 CX P w K mg base N qual scope f cd A outer s H E) [] (start N vs) H s1:=by
 have ni:ps.length<=N.length:=by have:=congrArg List.length S.pre;rw [dI] at this;omega
 obtain⟨h1,tk,rfl,hk⟩:=x.done;have MQ:∀b:Addr,b∉(d6 CX P w K mg base N qual scope f cd A outer s H E).ex:=λb z=>absurd (show b∈([]:List Addr) from z) (by simp);refine⟨⟨e0.mod,S.kind,rfl,rfl,aH _,λy z c h1 h2=>?_,λy hy=>?_,λy c _ h=>?_,λ_=>hd,Around.frames_deeper e0.frames,.inr ⟨rfl,rfl⟩,λb z=>absurd z (MQ b),e0.bs,e0.Eu,λb _ _=>MQ b,λb z=>absurd z (MQ b),e0.lS,e0.Gr⟩,
  rfl,e0.bare,Un.kept hk,⟨_,x.toInCall.ns,λi y v h1 h2 h3=>?_⟩,λy c h=>⟨_,x.cell y c h⟩,e0.bo.fresh (aH _),λy c h=>?_,λp hp=>absurd (show p∈([]:List (Addr×Obj)) from hp) (by simp),e0.bo.kept hk,?_⟩
 .exact name_of_addr x.apart (pJ h1) (pJ h2)
 .have hy:scope.names.lookup y=some .cell\/scope.names.lookup y=some .free:=hy;rcases hy with hy | hy
  .exact wO hy
  exact absurd rfl (S.Jl _ (pJ hy))
 .exact i9 (x.above y c (pJ h))
 .have hi:i < vs.length:=by
   unfold start at h2;by_cases hi:i < vs.length
   .exact hi
   rw [pz (by simpa using hi)] at h2;rw [List.getElem?_replicate] at h2
   split at h2 <;> cases h2
  have ha:vs[i]?=some v:=by
   unfold start at h2;rw [nW (by simpa using hi),bh] at h2;cases e:vs[i]? with
   | none=>rw [e] at h2;cases h2
   | some a=>rw [e] at h2;cases h2;rfl
  obtain⟨u,hu,rv⟩:=r.get ha;have hp:ps[i]?=some y:=by
   rw [<-S.pre,vv ∅];exact h1
  have Vm:ps.Nodup:=by rw [<-S.pre];exact S.nd.sublist (List.take_sublist _ _)
  refine⟨u,rv,?_⟩;rcases S.par y (cR hp) with k | k
  .exact .inl ⟨k,tD Vm hp hu k⟩
  obtain⟨c,e⟩:=wO (n:=s.heap.objs.size+1) k;refine .inr ⟨.inl k,c,e,?_⟩;have q:=x.cell y c e;rw [tF Vm hp hu (by show scope.names.lookup y≠_;rw [k];decide)] at q;exact q
 .exact e0.bo.fresh (i9 (x.above y c (pJ h)))
 unfold start;show _=N.length;rw [cC,az,List.length_replicate];omega
def wq {CX:tJ}{P:Program}{w:World}{K:aT}{mg:Str->Option Value}{base:Heap}{k:Nat}{f:Addr}{name qual:Str}{params:Arguments}{body:List Stmt}{scope:Scope}{dV kV doc pm dr ct oc:Value}{an od:Option Addr}
  {uM:Array (Option Value)}{N ps:List Str}{sp:Sp}(lk:K.lookup f=some ⟨oc,od,.func (PySem.W.fnOf name qual params body scope dV kV doc pm an dr ct),uM⟩)(qv:PySem.W.codeIn K dr qual=true)(S:aJ N ps scope)
  (len:∀vs H Q E,sp vs H Q E->vs.length=ps.length)
  (gb:∀(A:Around)(outer:List Env)(s:Shared)(H:Hp)(vs:List V)(Q:VK)(E:XK),cX k (A.deeper (envOfC qual scope s.heap.objs.size f dr))->sp vs H Q E ->
   ∃t,vo (d6 CX P w K mg base N qual scope f dr A outer s H E) body t/\t { nx:=λ_ H'=>Q .cU H',rt:=Q } (start N vs) H) :
  bf P w K mg base CX (k+1) f (PySem.W.fnOf name qual params body scope dV kV doc pm an dr ct) ps sp:=by
 refine⟨len,λA outer s H args us vs Q E hr e0 hb r sM=>?_⟩;have hl:=len _ _ _ _ sM;have KX:K.In s.heap:=e0.mod.Jw.keeps λb o e=>(e0.bs b o e).1;have lim:s.heap.NoLimit:=e0.mod.nolimit.keeps λb o e=>(e0.bs b o e).1;have ig:∀y∈ps.zip us,scope.names.lookup y.1=some .local\/(scope.names.lookup y.1=some .cell/\((cellsFrom (s.heap.objs.size+1) scope.names []).lookup y.1).isSome=true):=λ⟨n,v⟩ hy=>by
  rcases S.par n (List.of_mem_zip hy).1 with q | q
  .exact .inl q
  exact .inr ⟨q,PySem.W.cellsFrom_some _ _ _ (.inl q)⟩
 refine codeAny_call_function hr.depth (KX _ _ lk) rfl S.co S.gen rfl (PySem.W.codeRec_of KX qv) (hb _ _ _ _ ?_);refine wpAny_newFunctionEnv_cells S.kind ig λenv he s1 x=>?_;subst he;refine⟨lim.keeps x.toInCall.keep,codeAny_func ?_⟩;obtain⟨t,ht,hq⟩:=gb A outer s H vs Q E (hr.deeper _) sM;have I:Inv (d6 CX P w K mg base N qual scope f dr A outer s H E) [] (start N vs) H s1:=sI S hr.hd e0 hl r x;refine bY (ht [] s1 (start N vs) H _ I hq) (λfl s' hs=>?_) λe s' hs=>hs;have fin:∀{σ':St}{H':Hp}{v:V}{u:Value},Inv (d6 CX P w K mg base N qual scope f dr A outer s H E) [] σ' H' s'->RelV v u->Q v H'->CE outer P w H s Q u s' :=
  λ{σ' H' v u} J rv q=>⟨v,H',J.os,J.bare,J.base,J.bo,rv,q⟩
 cases fl with
 | ret u =>
  obtain⟨v,σ',H',J,rv,q⟩:=hs;exact fin J rv q
 | next =>
  obtain⟨σ',H',J,q⟩:=hs;exact fin (v:=V.cU) (u:=Value.none) J rfl q
 | brk =>
  obtain⟨_,_,_,q⟩:=hs;exact False.elim q
 | cont =>
  obtain⟨_,_,_,q⟩:=hs;exact False.elim q
section
variable {X:Cx}{x:Str}{p pos:Pos}{e:Expr}{es:List Expr}{t:TA}{id T:String}{r:List V->Hp->VK->Prop}
def UY (r:List V->Hp->VK->Prop)(t:TA):TE:=λσ H Q=>t σ H λvs H1=>r vs H1 Q
def bL (hc:fj X (.builtin id) r)(hg:Gl X x)(hm:X.mg x=none)(hv:bootBuiltins x=some (.builtin id))(ha:PA X (e::es) t)(hn:x ≠ "__name__" := by decide)(qr:(x == ("__debug__":Str))=false:=by decide)
  (he:starEach (e::es) X.env=(false,eval e X.env)::starEach es X.env:=by rfl)(ni:(backTo pos (starEach es X.env)).any (·.1)=false:=by rfl):PE X (.Call (.Name x p) (e::es) [] pos) (UY r t):=by
 intro af s σ H Q I h;refine kQ (iG I hg hm hv ?_ hn qr);refine PyProof.Rows.callWith_builtin1 (b8 (ha pos af s σ H _ I h) λus s1 aR=>?_) he ni;obtain⟨vs,H1,I1,r1,q1⟩:=aR;exact hc af s1 σ H1 vs us Q I1 r1 q1
def aY (hc:fj X (.type T) r)(hg:Gl X x)(hm:X.mg x=none)(hv:bootBuiltins x=some (.type T))(ha:PA X (e::es) t)(hn:x ≠ "__name__" := by decide)(qr:(x == ("__debug__":Str))=false:=by decide)
  (he:starEach (e::es) X.env=(false,eval e X.env)::starEach es X.env:=by rfl)(ni:(backTo pos (starEach es X.env)).any (·.1)=false:=by rfl):PE X (.Call (.Name x p) (e::es) [] pos) (UY r t):=by
 intro af s σ H Q I h;refine kQ (iG I hg hm hv ?_ hn qr);refine um (b8 (ha pos af s σ H _ I h) λus s1 aR=>?_) he ni;obtain⟨vs,H1,I1,r1,q1⟩:=aR;exact hc af s1 σ H1 vs us Q I1 r1 q1
end
end L2
namespace HT
open PySem PyProof.Rows
section
open PySem.SeqAt
open PySem.AutoSeq1 (wpAny_loadPart')
open PySem.MeetsSeq PySem.MeetsSeq2 PySem.MeetsSeq3
end
section
variable {prog:Program}{w:World}{A:Around}{E:Value->Shared->Prop}{s:Shared}
def kC (n d:Nat):Option Int->Nat
 | none=>d
 | some v=>if v < 0 then (v+(n:Int)).toNat else min v.toNat n
def oV (n d k:Nat):kC n d (some (k:Int))=min k n:=by
 show (if (k:Int) < 0 then ((k:Int)+(n:Int)).toNat else min (k:Int).toNat n)=min k n;rw [ay ∅,mF]
end
end HT
namespace L2
open PySem PySem.Spec PyProof.Rows
abbrev TO:=St->Hp->(Option Int->Hp->Prop)->Prop
def PO (X:Cx)(e:Option Expr)(t:TO):Prop :=
 ∀(af:List (Addr×Obj))(s:Shared)(σ:St)(H:Hp)(Q:Option Int->Hp->Prop),Inv X af σ H s->t σ H Q ->
  wpAny (model X.prog X.w) X.A (evalPart e X.env) (λu s'=>∃o H',Inv X af σ H' s'/\IsPart u o/\Q o H') X.xe s
def Fl:TO:=λ_ H Q=>Q none H
def L0 (t:TE):TO:=λσ H Q=>t σ H λx H1=>Uz x λi=>Q (some i) H1
def intsAre_of {ns:List Int}:∀{us:List Value},aO (ns.map V.int) us->IntsAre us ns:=by
 induction ns with
 | nil=>intro us r;rw [i8] at r;cases r;exact .nil
 | cons n ns ih =>
  intro us r;rw [bw] at r;cases r with
  | cons r1 r2 =>
   obtain⟨t,e⟩:=r1;subst e;exact .cons n t (ih r2)
section
variable {X:Cx}{e:Expr}{te:TE}{lo hi:Option Expr}{tl th:TO}{pos p2:Pos}
def zT:PO X none Fl:=by
 intro af s σ H Q I h;rw [evalPart_none];exact aK ⟨none,H,I,.none,h⟩
def fN (h:PE X e te):PO X (some e) (L0 te):=by
 intro af s σ H Q I hw;rw [evalPart_some];refine b8 (h af s σ H _ I hw) λu s1 aR=>?_;obtain⟨x,H1,I1,r1,q1⟩:=aR;obtain⟨i,rfl,q⟩:=q1;obtain⟨t,rfl⟩:=r1;exact⟨some i,H1,I1,.int i t,q⟩
def KQ (X:Cx)(r:V->Option Int->Option Int->Hp->VK->Prop):Prop :=
 ∀(af:List (Addr×Obj))(s:Shared)(σ:St)(H:Hp)(x:V)(v vl vu:Value)(lo hi:Option Int)(sl:Addr)(Q:VK),Inv X af σ H s->RelV x v->s.heap.IsSliceOf sl vl vu .none->IsPart vl lo->IsPart vu hi->r x lo hi H Q ->
  ∃T id,typeLookup (.type T) "__getitem__"=pure (some (.builtin id))/\s.TypeIs v T/\wpAny (model X.prog X.w) X.A (getItem v (.ref sl)) (EP X af σ Q) X.xe s
def KQ.or {r r':V->Option Int->Option Int->Hp->VK->Prop}(h:KQ X r)(h':KQ X r'):KQ X (λx lo hi H Q=>r x lo hi H Q\/r' x lo hi H Q):=by
 intro af s σ H x v vl vu lo hi sl Q I rx hs pl pu q;rcases q with q | q
 .exact h af s σ H x v vl vu lo hi sl Q I rx hs pl pu q
 exact h' af s σ H x v vl vu lo hi sl Q I rx hs pl pu q
def Xk (r:V->Option Int->Option Int->Hp->VK->Prop)(te:TE)(tl th:TO):TE:=λσ H Q=>te σ H λx H1=>tl σ H1 λl H2=>th σ H2 λu H3=>r x l u H3 Q
def hX {r:V->Option Int->Option Int->Hp->VK->Prop}(hr:KQ X r)(he:PE X e te)(hl:PO X lo tl)(hu:PO X hi th):PE X (.Subscript e (.Slice lo hi none p2) pos) (Xk r te tl th):=by
 intro af s σ H Q I h;refine Subscript_ (b8 (he af s σ H _ I h) λv s1 aR=>?_);obtain⟨x,H1,I1,r1,q1⟩:=aR;refine wpAny_Slice (b8 (hl af s1 σ H1 _ I1 q1) λvl s2 aR=>?_);obtain⟨l,H2,I2,pl,q2⟩:=aR;refine b8 (hu af s2 σ H2 _ I2 q2) λvu s3 aR=>?_;obtain⟨u,H3,I3,pu,q3⟩:=aR;rw [evalPart_none];refine aK ?_;have I4:Inv X af σ H3 { s3 with heap:=s3.heap.push { cls:=.type "slice",data:=.fields #[vl,vu,.none] } }:=I3.kept (t':=s3.toks) λb ob q=>bj _ q;obtain⟨T,id,hT,ht,hg⟩:=hr af { s3 with heap:=s3.heap.push { cls:=.type "slice",data:=.fields #[vl,vu,.none] } } σ H3 x v vl vu l u s3.heap.objs.size Q I4 r1 (Heap.IsSliceOf.new ..) pl pu q3;show wpAny (model X.prog X.w) X.A (subscriptTail e (.Slice lo hi none p2) v (.ref s3.heap.objs.size)) (EP X af σ Q) X.xe { s3 with heap:=s3.heap.push { cls:=.type "slice",data:=.fields #[vl,vu,.none] } };exact tail_any (ops:=[.ref s3.heap.objs.size,v]) ht hT hg (by with_unfolding_all rfl)
def oH (xs:List V)(lo hi:Option Int):List V:=(xs.drop (HT.kC xs.length 0 lo)).take (HT.kC xs.length xs.length hi - HT.kC xs.length 0 lo)
def wD (xs:List V)(lo hi:Option Int):(oH xs lo hi).length<=xs.length:=by
 unfold oH;rw [dI,pF];omega
end
def F6 (n:Nat) (i:Int):Option Nat:=if 0<=i then (if i < n then some i.toNat else none) else if -(n:Int)<=i then some (i+n).toNat else none
def rC {α:Type}(xs:List α) (i:Int):Option α:=(F6 xs.length i).bind λj=>xs[j]?
def z_ {n:Nat}{i:Int}{j:Nat}(h:F6 n i=some j):seqIndex? i n=some j/\j < n/\-(n:Int)<=i/\i < n:=by
 unfold F6 at h;by_cases h0:0<=i
 .rw [aw h0] at h;by_cases h1:i < n
  .rw [aw h1] at h;have e:i.toNat=j:=gP h;exact⟨by rw [seqIndex_of h0 h1,e],∅,∅,h1⟩
  rw [ay h1] at h;cases h
 rw [ay h0] at h;by_cases h1:-(n:Int)<=i
 .rw [aw h1] at h;have e:(i+n).toNat=j:=gP h;exact⟨by rw [seqIndex_neg ∅ h1,e],∅,h1,∅⟩
 rw [ay h1] at h;cases h
def va {α:Type}{xs:List α}{i:Int}{v:α}(h:rC xs i=some v):∃j,seqIndex? i xs.length=some j/\xs[j]?=some v/\j < xs.length/\-(xs.length:Int)<=i/\i < xs.length:=by
 unfold rC at h;cases e:F6 xs.length i with
 | none=>rw [e] at h;cases h
 | some j =>
  rw [e] at h;obtain⟨h1,h2,h3,h4⟩:=z_ e;exact⟨j,h1,h,h2,h3,h4⟩
def dq {α:Type}{xs:List α}{j:Nat}{v:α}(h:xs[j]?=some v):rC xs (j:Int)=some v:=by
 have hj:j < xs.length:=(ba.mp h).1;have e:F6 xs.length (j:Int)=some j:=by
  unfold F6;rw [aw ∅,aw ∅];simp
 unfold rC;rw [e];exact h
def GU (b:Expr):Prop:=∀o i,subscripted b false o i=operate [o,i] (getItem o i)
def GX (X:Cx)(r:R2):Prop :=
 ∀(value slice:Expr)(af:List (Addr×Obj))(s:Shared)(σ:St)(H:Hp)(x y:V)(v u:Value)(Q:VK),Inv X af σ H s->RelV x v->RelV y u->r x y H Q ->
  subscripted slice false v u=operate [v,u] (getItem v u)->wpAny (model X.prog X.w) X.A (subscriptTail value slice v u) (EP X af σ Q) X.xe s
def OW (X:Cx)(id:String)(r:V->List V->Hp->VK->Prop):Prop :=
 ∀(af:List (Addr×Obj))(s:Shared)(σ:St)(H:Hp)(x:V)(xs:List V)(v:Value)(us:List Value)(Q:VK),Inv X af σ H s->RelV x v->aO xs us->r x xs H Q ->
  wpAny (model X.prog X.w) X.A (call (.builtin id) (v::us)) (EP X af σ Q) X.xe s
section
variable {X:Cx}{a b:Expr}{ta tb:TE}{pos:Pos}
def GX.or {r r':R2}(h:GX X r)(h':GX X r'):GX X (λx y H Q=>r x y H Q\/r' x y H Q):=by
 intro value slice af s σ H x y v u Q I rx ry q hs;rcases q with q | q
 .exact h value slice af s σ H x y v u Q I rx ry q hs
 exact h' value slice af s σ H x y v u Q I rx ry q hs
def OW.or {id:String}{r r':V->List V->Hp->VK->Prop}(h:OW X id r)(h':OW X id r'):OW X id (λx xs H Q=>r x xs H Q\/r' x xs H Q):=by
 intro af s σ H x xs v us Q I rx rs q;rcases q with q | q
 .exact h af s σ H x xs v us Q I rx rs q
 exact h' af s σ H x xs v us Q I rx rs q
def bz {r:R2}(hr:GX X r)(ha:PE X a ta)(hb:PE X b tb)(hs:GU b):PE X (.Subscript a b pos) (O8 r ta tb):=by
 intro af s σ H Q I h;exact Subscript_ (KH ha hb I h λv u s2 x y H2 I2 rx ry q=>hr a b af s2 σ H2 x y v u Q I2 rx ry q (hs _ _))
inductive Uy (S:Addr->List V->Prop)(x y:V)(R:V->Prop):Prop
|mk(p:Addr)(xs:List V) (i:Int)(v:V)(e:x=.ref p)(e2:y=.int i)(s:S p xs)(a:rC xs i=some v)(q:R v)
def MC (K:aT):R2:=λx y H Q=>Uy (aD K H) x y λv=>Q v H
def QZ (K:aT):R2:=λx y H Q=>Uy (aX K H) x y λv=>Q v H
def Q0:R2:=λx y H Q=>∃z i c,x=.str z/\y=.int i/\z.length<=sizeLine/\rC z.cps.toList i=some c/\Q (.str ⟨#[c]⟩) H
def cH:GX X (MC X.K):=by
 intro value slice af s σ H x y v u Q I rx ry h hs;obtain⟨p,xs,i,z,rfl,rfl,hq,he,q⟩:=h;cases rx;obtain⟨t,rfl⟩:=ry;obtain⟨aL,r,pl,hz⟩:=I.list hq;obtain⟨j,h1,h2,h3,h4,h5⟩:=va he;obtain⟨w,ew,x8⟩:=r.get h2;have hl:=r.length;have hn:=kb;have fin:EP X af σ Q w s:=⟨z,H,I,x8,q⟩;by_cases h0:0<=i
 .have hj:i.toNat=j:=by
   rw [seqIndex_of h0 h5] at h1;exact gP h1
  exact item_listR pl.isList h0 ∅ (by rw [hj];simpa using ew) fin hs
 have hj:(i+(aL.toArray.size:Int)).toNat=j:=by
  rw [seqIndex_neg ∅ h4] at h1;rw [bI,<-hl];exact gP h1
 exact subscriptTail_builtinR (x:=w) pl.isList.typeIs slot_list_getitem.lookup
  (wpAny_getItem_list_neg (Q:=λr s'=>r=w/\EP X af σ Q r s') pl.isList ∅ (by rw [bI] <;> omega) ∅ (by rw [hj];simpa using ew) ⟨rfl,fin⟩) hs
def cO:GX X (QZ X.K):=by
 intro value slice af s σ H x y v u Q I rx ry h hs;obtain⟨p,xs,i,z,rfl,rfl,hq,he,q⟩:=h;cases rx;obtain⟨t,rfl⟩:=ry;obtain⟨aL,r,pl,hz⟩:=I.tuple hq;obtain⟨j,h1,h2,h3,h4,h5⟩:=va he;obtain⟨w,ew,x8⟩:=r.get h2;have hl:=r.length;have hn:=kb;have fin:EP X af σ Q w s:=⟨z,H,I,x8,q⟩;exact subscriptTail_builtinR (x:=w) pl.typeIs slot_tuple_getitem.lookup
  (getItem_tuple (j:=j) (Q:=λr s'=>r=w/\EP X af σ Q r s') pl ∅ ∅ (by rw [bI,<-hl];exact h1) (by simpa using ew) ⟨rfl,fin⟩) hs
def DK:GX X Q0:=by
 intro value slice af s σ H x y v u Q I rx ry h hs;obtain⟨z,i,c,rfl,rfl,hz,he,q⟩:=h;obtain⟨t,rfl⟩:=rx;obtain⟨t',rfl⟩:=ry;obtain⟨j,h1,h2,h3,h4,h5⟩:=va he;have hl:z.cps.toList.length=z.length:=by simp [Str.length]
 rw [hl] at h1 h4 h5;have hn:=kb;exact tail_any (typeIs_str s z t) slot_str_getitem.lookup (getItem_str (c:=c) (by
  have e1:decide (i < -(2 ^ 63:Int))=false:=eM ∅;have e2:decide (i≥2 ^ 63)=false:=eM ∅;rw [e1,e2,Bool.or_false]) (by rw [h1];simpa using h2) ⟨.str ⟨#[c]⟩,H,I.tok _,⟨_,rfl⟩,q⟩) hs
def yy (aL:List Value) (n j:Nat)(u:Value):Obj.mapSeq (·.setIfInBounds j u) { cls:=.type "list",data:=.seq aL.toArray n }={ cls:=.type "list",data:=.seq (aL.set j u).toArray n }:=by
 simp [Obj.mapSeq]
theorem Inv.lst {af:List (Addr×Obj)}{σ:St}{H:Hp}{s:Shared}{p:Addr}{xs:List V}(I:Inv X af σ H s)(h:H p=some (.lst xs)) :
  ∃(aL:List Value) (n:Nat),aO xs aL/\s.heap.get? p=some { cls:=.type "list",data:=.seq aL.toArray n }/\xs.length<=sizeLine:=by
 obtain⟨z,aL,n,r,e⟩:=I.bo p _ h;exact⟨aL,n,r,e,z⟩
def Inv.Jq {af:List (Addr×Obj)}{σ:St}{H:Hp}{s:Shared}{p:Addr}{xs ys:List V}{aL lL:List Value}{n n':Nat}{f:Obj->Obj}(I:Inv X af σ H s)(h:H p=some (.lst xs))
  (ho:s.heap.get? p=some { cls:=.type "list",data:=.seq aL.toArray n })(hf:f { cls:=.type "list",data:=.seq aL.toArray n }={ cls:=.type "list",data:=.seq lL.toArray n' })(r:aO ys lL)(hz:ys.length<=sizeLine) (t:Nat) :
  Inv X af σ (upd H p (.lst ys)) { s with heap:=s.heap.update p f,toks:=t }:=by
 have e:(s.heap.update p f).get? p=some { cls:=.type "list",data:=.seq lL.toArray n' }:=by
  rw [kS f ho (by rw [hf] <;> rfl),hf]
 refine I.write (x:=p) (e:=p) (by rw [h];trivial) (.inl rfl) (λb u hb q=>(fV _ _ (du hb)).trans q) ⟨_,e⟩ ?_;exact⟨hz,lL,n',r,e⟩
def MA:V->V->V->Hp->(Hp->Prop)->Prop:=λo i v H Q=>∃p xs k j,o=.ref p/\i=.int k/\H p=some (.lst xs)/\F6 xs.length k=some j/\Q (upd H p (.lst (xs.set j v)))
def set_list:OR X MA:=by
 intro af s σ H o i v ov iv u Q I ro ri rv h;obtain⟨p,xs,k,j,rfl,rfl,hp,hj,q⟩:=h;cases ro;obtain⟨t,rfl⟩:=ri;obtain⟨aL,n,r,ho,hz⟩:=I.lst hp;obtain⟨h1,h2,h3,h4⟩:=z_ hj;have hl:=r.length;have hn:=kb;have I':Inv X af σ (upd H p (.lst (xs.set j v))) { s with heap:=s.heap.update p (Obj.mapSeq (·.setIfInBounds j u)) } :=
  I.Jq hp ho (yy aL n j u) (r.set rv j) (by rw [List.length_set];exact hz) s.toks
 by_cases h0:0<=k
 .have hk:k.toNat=j:=by
   rw [seqIndex_of h0 h4] at h1;exact gP h1
  exact PySem.W.ki_setAt ho h0 ∅ (by rw [bI,<-hl];exact h4) (by rw [hk];exact⟨_,I',q⟩)
 have hk:(k+(aL.toArray.size:Int)).toNat=j:=by
  rw [seqIndex_neg ∅ h3] at h1;rw [bI,<-hl];exact gP h1
 exact PySem.W.ki_setBack ho ∅ (by rw [bI,<-hl];exact h3) ∅ (by rw [hk];exact⟨_,I',q⟩)
def uy (lo hi:Option Int) (n:Nat):(sliceBounds lo hi none n).1=((HT.kC n 0 lo:Nat):Int)/\(sliceBounds lo hi none n).2.1=((HT.kC n n hi:Nat):Int)/\(sliceBounds lo hi none n).2.2=1:=by
 refine⟨?_,?_,rfl⟩
 .cases lo with
  | none=>simp [sliceBounds,HT.kC]
  | some i =>
   simp only [sliceBounds,HT.kC,Option.getD_none,show (1:Int) > 0 by decide,if_true];by_cases h:i < 0
   .simp only [h,if_true] <;> omega
   simp only [h,if_false] <;> omega
 cases hi with
 | none=>simp [sliceBounds,HT.kC]
 | some i =>
  simp only [sliceBounds,HT.kC,Option.getD_none,show (1:Int) > 0 by decide,if_true];by_cases h:i < 0
  .simp only [h,if_true] <;> omega
  simp only [h,if_false] <;> omega
def rh (aL:List Value)(lo hi:Option Int):slicePick aL.toArray lo hi none=((aL.drop (HT.kC aL.length 0 lo)).take (HT.kC aL.length aL.length hi - HT.kC aL.length 0 lo)).toArray:=by
 obtain⟨h1,h2,h3⟩:=uy lo hi aL.toArray.size;unfold slicePick;rw [h1,h2,h3];simp only [sliceRange_one,pick_run,bI] <;> rfl
def QX (K:aT):V->Option Int->Option Int->Hp->VK->Prop:=λx lo hi H Q=>WQ x (aD K H) λxs=>∀p,H p=none->Q (.ref p) (upd H p (.lst (oH xs lo hi)))
def oS:KQ X (QX X.K):=by
 intro af s σ H x v vl vu lo hi sl Q I rx hs pl pu h;obtain⟨a,xs,rfl,hx,q⟩:=h;cases rx;obtain⟨aL,r,ht,hz⟩:=I.list hx;have aZ:=r.length;refine⟨"list",_,slot_list_getitem.lookup,ht.isList.typeIs,?_⟩;refine wpAny_getItem_list_slice ht.isList hs pl pu .none (by simp) ?_ (by rw [bI] <;> omega)
 rw [rh,<-aZ];refine⟨.ref s.heap.objs.size,_,I.laid (t':=s.toks) (o:=.lst (oH xs lo hi)) (λb ob q=>bj _ q) (aH _) ?_,rfl,q _ (I.bo.fresh (aH _))⟩;exact⟨cz (wD xs lo hi) hz,_,0,(r.drop (HT.kC xs.length 0 lo)).take (HT.kC xs.length xs.length hi - HT.kC xs.length 0 lo),cJ _ rfl⟩
def jt:V->Bool
 | .cU=>true
 | .bl _=>true
 | .int _=>true
 | .str _=>true
 | _=>false
def Ed:V->V->Bool
 | .cU,.cU=>true
 | .bl a,.bl b=>a == b
 | .bl a,.int b=>(if a then 1 else 0) == b
 | .int a,.bl b=>a == (if b then 1 else 0)
 | .int a,.int b=>a == b
 | .str a,.str b=>a == b
 | _,_=>false
def Ef {A:Around}{s:Shared}{y x:V}{u v:Value}(ry:RelV y u)(rx:RelV x v)(fy:jt y=true)(fx:jt x=true):SeqAt.EqAt A s u v (Ed y x):=by
 cases y with
 | cU =>
  cases ry;cases x with
  | cU=>cases rx;exact SeqAt.EqAt.same _
  | bl b=>cases rx;exact SeqAt.EqAt.none_bool b
  | int b=>obtain⟨t,rfl⟩:=rx;exact SeqAt.EqAt.none_int b t
  | str b=>obtain⟨t,rfl⟩:=rx;exact SeqAt.EqAt.none_str b t
  | _=>exact absurd (show false=true from fx) cT
 | bl a =>
  cases ry;cases x with
  | cU=>cases rx;exact SeqAt.EqAt.bool_none a
  | bl b=>cases rx;exact SeqAt.EqAt.bool_bool a b
  | int b=>obtain⟨t,rfl⟩:=rx;exact SeqAt.EqAt.bool_int a b t
  | str b=>obtain⟨t,rfl⟩:=rx;exact SeqAt.EqAt.bool_str a b t
  | _=>exact absurd (show false=true from fx) cT
 | int a =>
  obtain⟨t',rfl⟩:=ry;cases x with
  | cU=>cases rx;exact SeqAt.EqAt.int_none a t'
  | bl b=>cases rx;exact SeqAt.EqAt.int_bool a t' b
  | int b=>obtain⟨t,rfl⟩:=rx;exact SeqAt.EqAt.int_int a t' b t
  | str b=>obtain⟨t,rfl⟩:=rx;exact SeqAt.EqAt.int_str a t' b t
  | _=>exact absurd (show false=true from fx) cT
 | str a =>
  obtain⟨t',rfl⟩:=ry;cases x with
  | cU=>cases rx;exact SeqAt.EqAt.str_none a t'
  | bl b=>cases rx;exact SeqAt.EqAt.str_bool a t' b
  | int b=>obtain⟨t,rfl⟩:=rx;exact SeqAt.EqAt.str_int a t' b t
  | str b=>obtain⟨t,rfl⟩:=rx;exact SeqAt.EqAt.str_str a t' b t
  | _=>exact absurd (show false=true from fx) cT
 | _=>exact absurd (show false=true from fy) cT
def yW (x:V)(u:Value):Bool:=match u with
 | .none=>Ed .cU x
 | .bool b=>Ed (.bl b) x
 | .int i _=>Ed (.int i) x
 | .str z _=>Ed (.str z) x
 | _=>false
def Ee {x y:V}{u:Value}(r:RelV y u)(f:jt y=true):yW x u=Ed y x:=by
 cases y with
 | cU=>cases r;rfl
 | bl b=>cases r;rfl
 | int i=>obtain⟨t,rfl⟩:=r;rfl
 | str z=>obtain⟨t,rfl⟩:=r;rfl
 | _=>exact absurd (show false=true from f) cT
theorem lZ {x:V}:∀{xs:List V}{us:List Value},aO xs us->xs.all jt=true->us.any (yW x)=xs.any λy=>Ed y x
 | _,_,.nil,_=>rfl
 | y::xs,u::us,.cons r t,f=>by
  rw [List.all_cons,jQ] at f;rw [pB,pB,Ee r f.1,lZ t f.2]
theorem jk {A:Around}{s:Shared}{x:V}{v:Value}(rx:RelV x v)(fx:jt x=true):∀{xs:List V}{us:List Value},aO xs us->xs.all jt=true->∀u∈us,SeqAt.EqAt A s u v (yW x u)
 | _,_,.nil,_=>λu hu=>by cases hu
 | y::xs,u::us,.cons r t,f=>λu' hu=>by
  rw [List.all_cons,jQ] at f;rcases bC.mp hu with rfl | hu
  .rw [Ee r f.1];exact Ef r rx f.1 fx
  exact jk rx fx t f.2 u' hu
def Ld (x:V)(xs:List V):Bool:=xs.any λy=>Ed y x
inductive WT (S:Addr->List V->Prop)(x y:V)(R:List V->Prop):Prop
|mk(p:Addr)(xs:List V)(e:y=.ref p)(s:S p xs)(f:jt x=true)(g:xs.all jt=true)(q:R xs)
def Ph (K:aT)(neg:Bool):R2:=λx y H Q=>WT (λp xs=>aD K H p xs\/aX K H p xs) x y λxs=>Q (.bl (if neg then !Ld x xs else Ld x xs)) H
def so:ky X (compareOp .In) (Ph X.K false):=by
 intro af s σ H x y v u Q I rx ry h;obtain⟨p,xs,rfl,hq,fx,fs,q⟩:=h;cases ry;rcases hq with hq | hq
 .obtain⟨aL,r,pl,hz⟩:=I.list hq;refine SeqAt.in_listAt (yW x) pl.isList (λw hw=>jk rx fx r fs w (by simpa using hw)) ⟨.bl _,H,I,rfl,?_⟩;rw [show aL.toArray.any (yW x)=aL.any (yW x) by simp,lZ r fs];exact q
 obtain⟨aL,r,pl,hz⟩:=I.tuple hq;refine SeqAt.in_tupleAt (yW x) pl (λw hw=>jk rx fx r fs w (by simpa using hw)) ⟨.bl _,H,I,rfl,?_⟩;rw [show aL.toArray.any (yW x)=aL.any (yW x) by simp,lZ r fs];exact q
def iB:ky X (compareOp .NotIn) (Ph X.K true):=by
 intro af s σ H x y v u Q I rx ry h;obtain⟨p,xs,rfl,hq,fx,fs,q⟩:=h;cases ry;rcases hq with hq | hq
 .obtain⟨aL,r,pl,hz⟩:=I.list hq;refine SeqAt.notIn_listAt (yW x) pl.isList (λw hw=>jk rx fx r fs w (by simpa using hw)) ⟨.bl _,H,I,rfl,?_⟩;rw [show aL.toArray.any (yW x)=aL.any (yW x) by simp,lZ r fs];exact q
 obtain⟨aL,r,pl,hz⟩:=I.tuple hq;refine SeqAt.notIn_tupleAt (yW x) pl (λw hw=>jk rx fx r fs w (by simpa using hw)) ⟨.bl _,H,I,rfl,?_⟩;rw [show aL.toArray.any (yW x)=aL.any (yW x) by simp,lZ r fs];exact q
def d8:fj X (.builtin "len") (λxs H Q=>KN xs (λp ys=>aD X.K H p ys\/aX X.K H p ys) λys=>Q (.int ys.length) H):=by
 intro af s σ H xs us Q I r h;obtain⟨p,ys,rfl,hq,q⟩:=h;obtain⟨u,rfl,rx⟩:=vals1 r;cases rx;have hn:=kb;rcases hq with hq | hq
 .obtain⟨aL,r',pl,hz⟩:=I.list hq;have aZ:=r'.length;exact Calls.call_len_list pl.isList (by simp only [bI] <;> omega) ⟨.int ys.length,H,I.tok _,⟨s.toks+1,by rw [bI,aZ]⟩,q⟩
 obtain⟨aL,r',pl,hz⟩:=I.tuple hq;have aZ:=r'.length;exact len_tuple pl (by simp only [bI] <;> omega) ⟨.int ys.length,H,I.tok _,⟨s.toks+1,by rw [bI,aZ]⟩,q⟩
def fj.or {f:Value}{r r':List V->Hp->VK->Prop}(h:fj X f r)(h':fj X f r'):fj X f (λxs H Q=>r xs H Q\/r' xs H Q):=by
 intro af s σ H xs us Q I rs q;rcases q with q | q
 .exact h af s σ H xs us Q I rs q
 exact h' af s σ H xs us Q I rs q
def d7:fj X (.type "list") (λxs H Q=>KN xs (λp ys=>aD X.K H p ys\/aX X.K H p ys) λys=>∀l,H l=none->Q (.ref l) (upd H l (.lst ys))):=by
 intro af s σ H xs us Q I r h;obtain⟨p,ys,rfl,hq,q⟩:=h;obtain⟨u,rfl,rx⟩:=vals1 r;cases rx;have fin:∀(aL:List Value),aO ys aL->ys.length<=sizeLine->∀(h':Heap) (c':Nat),(∀b o',s.heap.get? b=some o'->h'.get? b=some o') ->
   h'.get? s.heap.objs.size=some { cls:=.type "list",dict:=none,data:=.seq aL.toArray c',slots:=#[] }->EP X af σ Q (.ref s.heap.objs.size) { s with heap:=h' }:=λaL r' hz h' c' kp e =>
  ⟨.ref s.heap.objs.size,_,I.laid (t':=s.toks) kp (aH _) (show bE X.prog X.w _ h' _ (.lst ys) from ⟨hz,aL,c',r',e⟩),rfl,q _ (I.bo.fresh (aH _))⟩
 rcases hq with hq | hq
 .obtain⟨aL,r',pl,hz⟩:=I.list hq;have aZ:=r'.length;obtain⟨o,ho,hc,n,hd⟩:=pl.isList;exact call_list_seq p (.inl rfl) ho hc hd (λh' c' kp e=>fin aL r' hz h' c' kp e) (by simp only [bI] <;> omega)
 obtain⟨aL,r',pl,hz⟩:=I.tuple hq;have aZ:=r'.length;obtain⟨o,ho,hc,n,hd⟩:=pl;exact call_list_seq p (.inr rfl) ho hc hd (λh' c' kp e=>fin aL r' hz h' c' kp e) (by simp only [bI] <;> omega)
def g8:fj X (.type "tuple") (λxs H Q=>∃p ys,xs=[.ref p]/\((aD X.K H p ys/\∀l,H l=none->Q (.ref l) (upd H l (.tup ys)))\/(aX X.K H p ys/\Q (.ref p) H))):=by
 intro af s σ H xs us Q I r h;obtain⟨p,ys,rfl,h⟩:=h;obtain⟨u,rfl,rx⟩:=vals1 r;cases rx;rcases h with ⟨hq,q⟩ | ⟨hq,q⟩
 .obtain⟨aL,r',pl,hz⟩:=I.list hq;have aZ:=r'.length;refine call_tuple_list pl.isList (λh' kp=>?_) (by simp only [bI] <;> omega)
  have I1:Inv X af σ H { s with heap:=h' }:=I.kept (t':=s.toks) kp;have I2:Inv X af σ (upd H h'.objs.size (.tup ys)) { s with heap:=h'.push { cls:=.type "tuple",data:=.seq aL.toArray } } :=
   I1.laid (t':=s.toks) (λb o e=>bj _ e) (aH _) (show bE X.prog X.w _ _ _ (.tup ys) from ⟨hz,aL,r',IsTup.new _ _⟩)
  exact⟨.ref h'.objs.size,_,I2,rfl,q _ (I1.bo.fresh (aH _))⟩
 obtain⟨aL,r',pl,hz⟩:=I.tuple hq;exact call_tuple_same pl ⟨.ref p,H,I,rfl,q⟩
def UU (K:aT)(T:String)(x:V)(H:Hp):Prop:=match x with
 | .str _=>T = "str"
 | .int _=>T = "int"
 | .ref p=>(T = "list" /\ ∃xs,aD K H p xs)\/(T = "tuple" /\ ∃o,K.lookup p=some o/\o.cls=.type "tuple" /\ o.dict=none) \/
   (T = "dict" /\ ((∃kvs,H p=some (.dK kvs))\/∃kvs,H p=some (.dT kvs)))\/(T = "set" /\ ∃S n,H p=some (.set S n))
 | _=>False
def Iz {af:List (Addr×Obj)}{σ:St}{H:Hp}{s:Shared}{T:String}{x:V}{v:Value}(I:Inv X af σ H s)(r:RelV x v)(ty:UU X.K T x H) :
  s.TypeIs v T/\∀a,v=.ref a->∃ob,s.heap.get? a=some ob/\ob.dict=none:=by
 cases x with
 | str z =>
  obtain⟨t,rfl⟩:=r;cases (show T = "str" from ty);exact⟨typeIs_str s z t,λ_ e=>nomatch e⟩
 | int i =>
  obtain⟨t,rfl⟩:=r;cases (show T = "int" from ty);exact⟨typeIs_int s i t,λ_ e=>nomatch e⟩
 | ref p =>
  cases r;rcases ty with ⟨rfl,xs,hq⟩ | ⟨rfl,o,hk,hc,hd⟩ | ⟨rfl,hk⟩ | ⟨rfl,S,n,hk⟩
  .obtain⟨aL,_,pl,_⟩:=I.list hq;refine⟨pl.isList.typeIs,λa e=>?_⟩;cases e;obtain⟨o,n,e,c,hd,_⟩:=pl;exact⟨o,e,hd⟩
  .refine⟨⟨o,I.jI p o hk,hc⟩,λa e=>?_⟩;cases e;exact⟨o,I.jI _ o hk,hd⟩
  .have z:∃o,s.heap.get? p=some o/\o.ExactDict:=by
    rcases hk with ⟨kvs,hk⟩ | ⟨kvs,hk⟩
    .obtain⟨_,_,_,_,o,_,_,e,ex,_⟩:=I.bo p _ hk;exact⟨o,e,ex⟩
    obtain⟨_,_,_,_,o,_,_,e,ex,_⟩:=I.bo p _ hk;exact⟨o,e,ex⟩
   obtain⟨o,e,ex⟩:=z;refine⟨⟨o,e,ex.1⟩,λa e2=>?_⟩;cases e2;exact⟨o,e,ex.2.1⟩
  obtain⟨o,_,_,_,e,ex,_⟩:=I.bo p _ hk;refine⟨⟨o,e,ex.1⟩,λa e2=>?_⟩;cases e2;exact⟨o,e,ex.2.1⟩
 | _=>exact False.elim ty
def Xp (K:aT)(T:String)(r:V->List V->Hp->VK->Prop)(to:TE)(t:TA):TE:=λσ H Q=>to σ H λx H1=>UU K T x H1/\t σ H1 λxs H2=>r x xs H2 Q
variable {o e:Expr}{es:List Expr}{to:TE}{t:TA}{name:Str}{apos gh:Pos}{T id:String}{r:V->List V->Hp->VK->Prop}
def hZ (pa:PlainAttrs T)(slot:Slot T name id)(Y9:typeOf (.builtin id)=pure (.type "method_descriptor"))(hm:OW X id r)(ho:PE X o to)(ha:PA X (e::es) t)
  (NY:attributeBase o name X.env (eval o X.env)=eval o X.env:=by rfl)
  (SJ:((backTo gh (starEach (e::es) X.env)).all (λx=>!x.1) && (backToKw gh (keywordEach [] X.env)).all (λx=>x.1.isSome)
   && decide ((e::es).length+([]:List Keyword).length+(if ([]:List Keyword).isEmpty then 0 else 1) < 30))=true:=by rfl)
  (NK:(apos.endLine == gh.line)=true:=by rfl)(hs:starEach (e::es) X.env=(false,eval e X.env)::starEach es X.env:=by rfl)(JJ:(backTo gh (starEach es X.env)).any (·.1)=false:=by rfl) :
  PE X (.Call (.Attribute o name apos) (e::es) [] gh) (Xp X.K T r to t):=by
 intro af s σ H Q I h;refine wpAny_Call_method_late NY SJ NK rfl (b8 (ho af s σ H _ I h) λv s1 aR=>?_);obtain⟨x,H1,I1,r1,ty,q1⟩:=aR;obtain⟨h1,h2⟩:=Iz I1 r1 ty;refine⟨T,id,pa,slot,Y9,h1,h2,?_⟩;have hA:=ha gh af s1 σ H1 _ I1 q1;rw [hs] at hA ⊢;refine t_ (by show (false || (backTo gh (starEach es X.env)).any (·.1))=false;rw [JJ] <;> rfl) (tS ?_)
 refine b8 hA λus s2 aR=>?_;obtain⟨vs,H2,I2,r2,q2⟩:=aR;exact hm af s2 σ H2 x vs v us Q I2 r1 r2 q2
end
def UG (X:Cx)(id:String)(r:V->List V->Hp->VK->Prop):Prop :=
 ∀(af:List (Addr×Obj))(s:Shared)(σ:St)(H:Hp)(x:V)(xs:List V)(v:Value)(us:List Value)(Q:VK),Inv X af σ H s->RelV x v->aO xs us->r x xs H Q ->
  wpAny (model X.prog X.w) X.A (call (.builtin id) (v::us)) (EP X af σ Q) X.xe s
def aO.one:∀{x:V}{us:List Value},aO [x] us->∃u,us=[u]/\RelV x u
 | _,_,.cons r .nil=>⟨_,rfl,r⟩
def aO.two:∀{x y:V}{us:List Value},aO [x,y] us->∃u v,us=[u,v]/\RelV x u/\RelV y v
 | _,_,_,.cons r (.cons q .nil)=>⟨_,_,rfl,r,q⟩
def aO.zero:∀{us:List Value},aO [] us->us=[]
 | _,.nil=>rfl
theorem aO.reverse {xs:List V}{us:List Value}(h:aO xs us):aO xs.reverse us.reverse:=by
 induction h with
 | nil=>exact .nil
 | cons r t ih=>rw [List.reverse_cons,List.reverse_cons];exact aO.append ih (.cons r .nil)
section
variable {X:Cx}{af:List (Addr×Obj)}{σ:St}{H:Hp}{s:Shared}{l b:Addr}{xs ys zs:List V}
def Inv.M3 {aL lL:List Value}{n:Nat}{f:Array Value->Array Value}{t':Nat}(I:Inv X af σ H s)(hH:H l=some (.lst xs))
  (e:s.heap.get? l=some { cls:=.type "list",data:=.seq aL.toArray n })(hf:f aL.toArray=lL.toArray)(hv:aO ys lL)(hz:ys.length<=sizeLine) :
  Inv X af σ (upd H l (.lst ys)) { s with heap:=s.heap.update l (Obj.mapSeq f),toks:=t' }:=by
 have q:=PySem.IsL.update e f;rw [hf] at q;refine I.write (x:=l) (e:=l) (by rw [hH];exact trivial) (.inl rfl) (λb' u hb hu=>(fV s.heap (Obj.mapSeq f) (du hb)).trans hu) ⟨_,q⟩ ?_;exact⟨hz,lL,_,hv,q⟩
def Inv.RM {aL:List Value}{t':Nat}(I:Inv X af σ H s)(hv:aO ys aL)(hz:ys.length<=sizeLine) :
  Inv X af σ (upd H s.heap.objs.size (.lst ys)) { s with heap:=s.heap.push { cls:=.type "list",data:=.seq aL.toArray },toks:=t' } :=
 I.laid (λ_ _ q=>bj _ q) (aH _) ⟨hz,aL,0,hv,cJ _ rfl⟩
theorem Inv.fresh (I:Inv X af σ H s):H s.heap.objs.size=none:=I.bo.fresh (aH _)
def Inv.Dz (I:Inv X af σ H s)(hH:H l=some (.lst xs)):xs.length<=sizeLine/\∃(aL:List Value) (n:Nat),aO xs aL/\xs.length=aL.length/\s.heap.get? l=some { cls:=.type "list",data:=.seq aL.toArray n }:=by
 obtain⟨z,aL,n,r,e⟩:=I.bo l _ hH;exact⟨z,aL,n,r,r.length,e⟩
def Dv {n:Nat}(h:n<=sizeLine):Builtin.List.listTooLong n=false:=by
 unfold Builtin.List.listTooLong;exact eM ∅
end
section
variable {X:Cx}
inductive OM (H:Hp)(x:V)(vs:List V)(R:Addr->List V->V->Prop):Prop
|mk(l:Addr)(xs:List V)(y:V)(e:x=.ref l)(e2:vs=[y])(h:H l=some (.lst xs))(z:xs.length < sizeLine)(q:R l xs y)
def Fz:V->List V->Hp->VK->Prop:=λx vs H Q=>OM H x vs λl xs y=>Q .cU (upd H l (.lst (xs++[y])))
def cN:UG X "list.append" Fz:=by
 intro af s σ H x vs v us Q I rx rv h;obtain⟨l,xs,y,rfl,rfl,hH,hz,q⟩:=h;cases rx;obtain⟨u,rfl,ru⟩:=rv.one;obtain⟨z,aL,n,r,hl,e⟩:=I.Dz hH;refine call_meets F.slot_list_append ⟨_,e,rfl⟩ F.entry_list_append (F.args_list_append_2 _ _) (PySem.list_append l aL.toArray n u (by rw [bI];omega)) ⟨e,?_⟩;refine⟨.cU,_,I.M3 (lL:=aL++[u]) hH e (by simp) (r.append (.cons ru .nil)) ?_,rfl,q⟩;rw [cC,nV];omega
def Fy:V->List V->Hp->VK->Prop:=λx vs H Q=>∃l b xs zs,x=.ref l/\vs=[.ref b]/\H l=some (.lst xs)/\H b=some (.lst zs)/\xs.length+zs.length<=sizeLine/\Q .cU (upd H l (.lst (xs++zs)))
def A0:UG X "list.extend" Fy:=by
 intro af s σ H x vs v us Q I rx rv h;obtain⟨l,b,xs,zs,rfl,rfl,hH,hB,hz,q⟩:=h;cases rx;obtain⟨u,rfl,ru⟩:=rv.one;cases ru;obtain⟨z,aL,n,r,hl,e⟩:=I.Dz hH;obtain⟨z2,gB,n2,r2,om,e2⟩:=I.Dz hB;have hsz:aL.toArray.size+gB.toArray.size<=sizeLine:=by rw [bI,bI];omega
 have NJ:¬(!aL.toArray.isEmpty && Builtin.List.listTooLong (aL.toArray.size+gB.toArray.size))=true:=by
  rw [Dv hsz,Bool.and_false];exact cT
 refine call_meets F.slot_list_extend ⟨_,e,rfl⟩ F.entry_list_extend (F.args_list_extend_2 _ _)
  (AutoSeq1.list_extend_list_list_0 l aL.toArray n b gB.toArray n2 NJ (by rw [bI];omega) ∅) ⟨e,e2,?_⟩
 refine⟨.cU,_,I.M3 (lL:=aL++gB) hH e (by simp) (r.append r2) ?_,rfl,q⟩;rw [cC];omega
def Q2:R2:=λx y H Q=>WZ (λl xs=>H l=some (.lst xs)) x y λxs zs=>∀p,H p=none->Q (.ref p) (upd H p (.lst (xs++zs)))
def De:ky X (binaryOp .Add) Q2:=by
 intro af s σ H x y v u Q I rx ry h;obtain⟨l,b,xs,zs,rfl,rfl,hH,hB,hz,q⟩:=h;cases rx;cases ry;obtain⟨z,aL,n,r,hl,e⟩:=I.Dz hH;obtain⟨z2,gB,n2,r2,om,e2⟩:=I.Dz hB;refine PySem.P.add_list e e2 ?_ (by rw [bI,bI];omega);have ea:aL.toArray++gB.toArray=(aL++gB).toArray:=by simp
 rw [ea];exact⟨.ref _,_,I.RM (t':=s.toks) (r.append r2) (by rw [cC];omega),rfl,q _ I.fresh⟩
end
section
variable {prog:Program}{w:World}{A:Around}{E:Value->Shared->Prop}{s:Shared}
set_option maxRecDepth 100000 in
end
section
variable {X:Cx}
end
end L2
namespace Fe
open PySem PySem.W PySem.Calls PyProof.Rows
def oA {P:Params}{h:Heap}:∀(ns:List Int)(vs:List Value),WellAll P h vs (ns.map WData.int)->IntsAre vs ns:=by
 intro ns
 induction ns with
 | nil =>
  intro vs w;rw [i8] at w;cases w;exact .nil
 | cons n ns ih =>
  intro vs w;rw [bw] at w;cases w with
  | cons a b =>
   cases a;exact .cons _ _ (ih _ b)
def AI {l:OpenLaw}{n:Nat}(hn:l.most=some n){P:Params}{h:Heap}{args:List WData}{vals:List Value}
  (F8:l.row.toRowW.claim.pre args=true)(JD:WellAll P h vals args) :
  ∃a vs ns,vals=[Value.ref a]/\args=[WData.list (ns.map WData.int)]/\h.get? a=some { cls:=.type "list",data:=.seq vs.toArray }/\IntsAre vs ns/\ns.length<=n:=by
 have Zi:WShape.hasAll [] args [.list .int]=true:=(pre_splitW F8).1;have hc:l.pre.holds [] { args:=args }=true:=(pre_splitW F8).2;obtain⟨d,r,rfl,h1,h2⟩:=hasAllW_cons Zi;obtain rfl:=hasAllW_nil h2;obtain⟨xs,rfl,h3⟩:=hasW_list h1;obtain⟨ns,rfl⟩:=items_int h3;have aZ:ns.length<=n:=by
  unfold OpenLaw.pre at hc;have h4:(WTm.not (.lt (.lit (.int (n:Int))) (.len (.arg 0)))).holds [] { args:=[.list (ns.map .int)] }=true:=by
   have h4:=(holds_andW hc).1;rw [hn] at h4;exact h4
  have h5:=condW_of h4 (w_not (w_lt w_lit (w_len_list (w_arg rfl))));rw [az] at h5;refine Nat.le_of_not_lt λq=>?_;have q':(n:Int) < ((ns.length:Nat):Int):=by omega
  first
   | (rw [dO q'] at h5;exact absurd h5 nofun)
   | (simp at h5;omega)
 cases JD with
 | cons w1 w2 =>
  cases w2;cases w1 with
  | list ho oE=>exact⟨_,_,ns,rfl,rfl,ho,oA ns _ oE,aZ⟩
def AM (l:OpenLaw)(args:List WData):l.row.toRowW.claim.post args (.bool true) args=true :=
 postW_of (r:=l.row.toRowW) (X:=(true == true))
  (show WShape.has [] (.bool true) .bool=true by first | rfl | decide | simp [WShape.has,WShape.arms,WShape.armsAll])
  (show (WTm.eq .res (.lit (.bool true))).value [] { args:=args,res:=some (.bool true),after:=args }=some (.bool (true == true)) from w_eq_bool (w_res rfl) w_lit) rfl
def oq {l:OpenLaw}{n:Nat}{q:Program}{loose:List Str}{XP:(Str->Option Value)->Heap->Prop}{YP:World->Heap->Prop}{d:DefRec}
  (hn:l.most=some n)(JU:d.params.defaults=[])
  (call:∀(w:World)(s₀ s₁:Shared)(mg mb:Str->Option Value)(fa:Addr)(o:Obj)(pm cd doc:Value)(a:Addr)(vs:List Value)(ns:List Int),
   Ground q loose [] XP w s₀ mg mb s₁.heap->YP w s₁.heap ->
   s₁.heap.get? fa=some o->o.data=.func (docDef d.name d.params d.body d.scope pm cd doc)->s₁.heap.CodeRec cd d.name->mg d.name=some (.ref fa) ->
   s₁.heap.get? a=some { cls:=.type "list",data:=.seq vs.toArray }->IntsAre vs ns->ns.length<=n->s₁.gens=#[] ->
   codeAny (model l.prog w) callerA (.call (.ref fa) ⟨[.ref a],[]⟩) (λr s'=>r=.ok (.ret (.bool true))/\OldK s₁.heap s'.heap/\s'.os=s₁.os/\AllBare s'.gens) s₁) :
  WalkO q loose XP YP l.row.toRowW d [] (λf vs=>PySem.call f vs):=by
 intro w s₀ s₁ mg mb G Y fa o pm cd doc dV kV ho hd qv hD JN hg args vals as F8 Zr hrd JD hlo;obtain rfl:dV=.none:=Dflts.none hD JU;obtain rfl:kV=.none:=Dflts.noKw hD;obtain⟨a,vs,ns,rfl,rfl,DO,hints,aZ⟩:=AI hn F8 JD;refine enter_call (iw (call w s₀ s₁ mg mb fa o pm cd doc a vs ns G Y ho (fd_plain hd) qv JN DO hints aZ hg) λr s' hq=>?_);obtain⟨rfl,h2,h3,h4⟩:=hq;exact⟨.inl ⟨.bool true,.bool true,[],rfl,λ_=>rfl,.bool true,AM l _,λ_=>⟨List.Pairwise.nil,λ_ hm=>(nomatch hm)⟩⟩,h2,h3,h4⟩
section
variable {prog:Program}{w:World}{A:Around}{E:Value->Shared->Prop}{s:Shared}{K:Frag}
def qe (h:Heap):Heap:={ h with objs:=#[] }
def j8 (h:Heap)(b:Addr):(qe h).get? b=none:=by
 cases e:(qe h).get? b with
 | none=>rfl
 | some o=>exact absurd (aP e) (Nat.not_lt_zero _)
def ledger (h:Heap)(L d:Addr):List (Addr×Obj):=(List.range h.objs.size).filterMap λa=>if a=L\/a=d then none else (h.get? a).map λo=>(a,o)
def iD {h:Heap}{L d a:Addr}{o:Obj}:(a,o)∈ledger h L d↔a≠L/\a≠d/\h.get? a=some o:=by
 unfold ledger;rw [tU];constructor
 .rintro⟨b,_,e⟩
  split at e
  .cases e
  rename_i hb
  obtain⟨o',ho,e'⟩:=bR.mp e;cases e';exact⟨λq=>hb (.inl q),λq=>hb (.inr q),ho⟩
 rintro⟨n1,n2,ho⟩;refine⟨a,jc.mpr (aP ho),?_⟩;rw [ay (show ¬(a=L\/a=d) from λq=>q.elim n1 n2),ho] <;> rfl
def vT {h:Heap}{L d:Addr}{od:Obj}(JK:d≠L)(ho:h.get? d=some od):News (qe h) L h ([]++(d,od)::ledger h L d):=by
 rintro⟨a,o⟩ hp;rcases bC.mp hp with e | hp
 .cases e;exact⟨ho,JK,j8 _ _⟩
 obtain⟨n1,n2,e⟩:=iD.mp hp;exact⟨e,n1,j8 _ _⟩
def Ki {h:Heap}{L:Addr}{m:Str->Option Value}(n:h.Ns L m):Fr (qe h) L h m :=
 ⟨n,λb o e=>(by rw [j8] at e;cases e),gr _⟩
end
end Fe
namespace L2
open PySem PySem.Spec PyProof.Rows
theorem mJ:∀{vs:List Value}{ns:List Int},IntsAre vs ns->aO (ns.map V.int) vs
 | _,_,.nil=>.nil
 | _,_,.cons n t h=>.cons ⟨t,rfl⟩ (mJ h)
def KR (H:Hp):Prop:=∀b,H b=none\/∃o xs,H b=some (.iV o (.lst xs))
def DF {P:Program}{w:World}{K:aT}{mg mb:Str->Option Value}{CX:tJ}{k:Nat}{fa a:Addr}{fd:FuncData}{x:Str}{sp:Sp}{s₁:Shared}{vs:List Value}{ns:List Int}
  (KX:K.In s₁.heap)(sN:s₁.heap.Ns mainGlobals mg)(hb:s₁.heap.Ns builtinsNs mb)(JY:∀x:Str,x ≠ "__name__" -> mb x=bootBuiltins x)(JO:s₁.heap.NoLimit)(hg:s₁.gens=#[])
  (ha:s₁.heap.get? a=some { cls:=.type "list",data:=.seq vs.toArray })(hi:IntsAre vs ns)(hl:ns.length<=sizeLine)(hr:cX k callerA)
  (F:∀base:Heap,K.In base->base.Ns mainGlobals mg->bf P w K mg base CX k fa fd [x] sp)(lP:∀(s:Shared)(u:Value),BindsTo s fd ⟨[u],[]⟩ [(x,u)])
  (sM:∀H:Hp,KR H->aD K H a (ns.map V.int)->sp [.ref a] H (λv _=>v=.bl true) λ_ _ _=>False)
  (Ke:∀H e s',CX [] H s₁ (λ_ _ _=>False) e s'->False) :
  codeAny (model P w) callerA (.call (.ref fa) ⟨[.ref a],[]⟩) (λr s'=>r=.ok (.ret (.bool true))/\OldK s₁.heap s'.heap/\s'.os=s₁.os/\AllBare s'.gens) s₁:=by
 have rv:=mJ hi;have Jt:=hi.length;have core:∀H:Hp,KR H->aD K H a (ns.map V.int)->jM P w H s₁.heap->(∀b,H b≠none->b=a)->(H a≠none->K.lookup a=none) ->
   codeAny (model P w) callerA (.call (.ref fa) ⟨[.ref a],[]⟩) (λr s'=>r=.ok (.ret (.bool true))/\OldK s₁.heap s'.heap/\s'.os=s₁.os/\AllBare s'.gens) s₁:=by
  intro H hO hS bo hA hK;have jE:∀{b:Addr}{o:Obj},s₁.heap.get? b=some o->H b=none->(kq s₁.heap H).get? b=some o:=λe n=>wc e n;have MQ:∀{b:Addr}{o:Obj}{es:Array DictEntry}{ep:Nat},s₁.heap.get? b=some o->o.data=.dict es ep->H b=none:=λ{b o es ep} e d=>by
   cases q:H b with
   | none=>rfl
   | some u =>
    have e':b=a:=hA b (by rw [q];simp);subst e';rw [ha] at e;cases e;have d':Data.seq vs.toArray _=Data.dict es ep:=d;cases d'
  have FR:∀{b:Addr}{m:Str->Option Value},s₁.heap.Ns b m->(kq s₁.heap H).Ns b m:=λ{b m} ⟨o,es,ep,e,d,r⟩=>⟨o,es,ep,jE e (MQ e d),d,r⟩;have N2:K.In (kq s₁.heap H):=λb o e=>jE (KX b o e) (by
   cases q:H b with
   | none=>rfl
   | some u =>
    have e':b=a:=hA b (by rw [q];simp);subst e';rw [hK (by rw [q];simp)] at e;cases e)
  have hM:Mod K mg (kq s₁.heap H):=⟨N2,FR sN,⟨mb,FR hb,JY⟩,let ⟨mc,h1,h2⟩:=JO;⟨mc,FR h1,h2⟩⟩;have e0:oK P w K mg (kq s₁.heap H) callerA [] s₁ H:=⟨rfl,hM,λb o e=>z7 e,Nat.le_of_eq (sO _ _),trivial,λb hb=>absurd (show b∈([]:List Addr) from hb) (by simp),bo,.of_eq hg⟩;refine iw ((F _ N2 (FR sN)).run callerA [] s₁ H ⟨[.ref a],[]⟩ [.ref a] [.ref a] _ _ hr e0 (lP s₁ (.ref a)) (.cons rfl .nil) (sM H hO hS)) λr s' h=>?_;cases r with
  | error e=>exact(Ke H e s' h).elim
  | ok fl =>
   cases fl with
   | next=>exact False.elim h
   | brk=>exact False.elim h
   | cont=>exact False.elim h
   | ret u =>
    obtain⟨v,H',os,bare,un,F_,r',q⟩:=h;have q':v=.bl true:=q;subst q';obtain rfl:u=Value.bool true:=r';refine⟨rfl,OldK.of_keep λb o e=>?_,os,bare⟩;cases q:H b with
    | none=>exact un.keep b o e q (by intro z;exact absurd (show b∈([]:List Addr) from z) (by simp)) (by simp)
    | some u =>
     rcases hO b with z | ⟨ob,xs,z⟩
     .rw [q] at z;cases z
     have z2:=un.jq b ob _ z;obtain⟨e1,_⟩:=bo b _ z;obtain⟨e2,_⟩:=F_ b _ z2;rw [e] at e1;cases e1;exact e2
 cases hk:K.lookup a with
 | some o =>
  have e:=KX a o hk;rw [ha] at e;cases e;refine core (λ_=>none) (λ_=>.inl rfl) (.inr ⟨_,vs.toArray,_,hk,rfl,rfl,rfl,by rw [bI,Jt];exact hl,by simpa using rv⟩) (λb u z=>by have z':(none:Option HO)=some u:=z;cases z') (λb z=>absurd rfl z) λz=>absurd rfl z
 | none =>
  refine core (λb=>if b=a then some (.iV { cls:=.type "list",data:=.seq vs.toArray } (.lst (ns.map V.int))) else none) (λb=>?_) (.inl (.inr ⟨{ cls:=.type "list",data:=.seq vs.toArray },aw rfl⟩)) (λb u z=>?_) (λb z=>?_) λ_=>hk
  .by_cases hb:b=a
   .exact .inr ⟨_,_,aw hb⟩
   exact .inl (ay hb)
  .by_cases hb:b=a
   .have z':=(aw hb).symm.trans z;cases z';subst hb;exact⟨ha,by rw [az];exact hl,vs,_,rv,ha⟩
   have z':=(ay hb).symm.trans z;cases z'
  by_cases hb:b=a
  .exact hb
  exact absurd (ay hb) z
abbrev KOf {K:aT}{h:Heap}(_:K.In h):aT:=K
def O6 {l:PySem.W.OpenLaw}{n k:Nat}{q:Program}{loose:List Str}{XP:(Str->Option Value)->Heap->Prop}{YP:World->Heap->Prop}{d:DefRec}{K:Params->aT}{CX:World->tJ}{sp:World->Sp}{x:Str}
  (hn:l.most=some n)(Bd:n<=sizeLine)(JU:d.params.defaults=[])(hr:cX k callerA)
  (hY:∀(w:World)(h:Heap),YP w h->(K w.params).In h)
  (F:∀(w:World)(mg:Str->Option Value)(fa:Addr)(h:Heap),(K w.params).In h->h.Ns mainGlobals mg->mg d.name=some (.ref fa) ->
   ∃fd:FuncData,(∀(s:Shared)(u:Value),BindsTo s fd ⟨[u],[]⟩ [(x,u)]) /\
    ∀base:Heap,(K w.params).In base->base.Ns mainGlobals mg->bf l.prog w (K w.params) mg base (CX w) k fa fd [x] (sp w))
  (sM:∀(w:World)(H:Hp)(a:Addr)(ns:List Int),ns.length<=n->KR H->aD (K w.params) H a (ns.map V.int)->sp w [.ref a] H (λv _=>v=.bl true) λ_ _ _=>False)
  (Ke:∀(w:World)(H:Hp)(s:Shared)(e:Value)(s':Shared),CX w [] H s (λ_ _ _=>False) e s'->False) :
  PySem.W.WalkO q loose XP YP l.row.toRowW d [] (λf vs=>PySem.call f vs):=by
 refine Fe.oq hn JU λw s₀ s₁ mg mb fa o pm cd doc a vs ns G Y ho hd qv JN DO hints aZ hg=>?_;have KX:=hY w _ Y;obtain⟨fd,hb,hF⟩:=F w mg fa _ KX G.T.g JN;exact DF KX G.T.g G.T.b G.T.builtins G.T.nolimit hg DO hints (cz aZ Bd) hr hF hb (λH hO hS=>sM w H a ns aZ hO hS) λH e s'=>Ke w H s₁ e s'
def cP (s:Stmt):Arguments:=match s with
 | .FunctionDef _ a _ _ _ _ _ _ _ _=>a
 | _=>{ posonlyargs:=[],args:=[],vararg:=none,kwonlyargs:=[],kw_defaults:=[],kwarg:=none,defaults:=[] }
def bB (s:Stmt):List Stmt:=match s with
 | .FunctionDef _ _ b _ _ _ _ _ _ _=>b
 | _=>[]
def au (s:Stmt):Scope:=match s with
 | .FunctionDef _ _ _ _ _ _ sc _ _ _=>sc
 | _=>{ kind:=.function,names:=[],isGenerator:=false,isCoroutine:=false }
abbrev fk:tJ:=λ_ _ _ _ _ _=>False
abbrev E0:XK:=λ_ _ _=>False
def sf {X:Cx}:Passes fk X E0:=λ_ _ _ _ _ _ _ h=>h.elim
structure iq (K:aT)(x qual:Str)(st:Stmt)(f:Addr)(fd:FuncData):Prop where
 ex:∃(oc:Value)(od:Option Addr)(kV doc pm:Value)(an:Option Addr)(dr ct:Value)(uM:Array (Option Value)),
  fd=PySem.W.fnOf x qual (cP st) (bB st) (au st) .none kV doc pm an dr ct/\K.lookup f=some ⟨oc,od,.func fd,uM⟩/\PySem.W.codeIn K dr qual=true
 kp:PySem.W.keepIn K (.ref f)=true
section
variable {P:Program}{w:World}{K:aT}{mg:Str->Option Value}{base:Heap}
def iq.ok {x qual:Str}{st:Stmt}{f:Addr}{fd:FuncData}{N ps:List Str}{k:Nat}{sp:Sp}(F:iq K x qual st f fd)(S:aJ N ps (au st))(len:∀vs H Q E,sp vs H Q E->vs.length=ps.length)
  (gb:∀(dr:Value)(A:Around)(outer:List Env)(s:Shared)(H:Hp)(vs:List V)(Q:VK)(E:XK),cX k (A.deeper (envOfC qual (au st) s.heap.objs.size f dr))->sp vs H Q E ->
   ∃t,vo (d6 fk P w K mg base N qual (au st) f dr A outer s H E).AY (bB st) t/\t { nx:=λ_ H'=>Q .cU H',rt:=Q } (start N vs) H):bf P w K mg base fk (k+1) f fd ps sp:=by
 obtain⟨oc,od,kV,doc,pm,an,dr,ct,uM,rfl,lk,qv⟩:=F.ex;refine wq lk qv S len λA outer s H vs Q E hr sM=>?_;obtain⟨t,h,q⟩:=gb dr A outer s H vs Q E hr sM;exact⟨t,h.AY,q⟩
def iq.binds {x qual:Str}{st:Stmt}{f:Addr}{fd:FuncData}{ps:List Str}(F:iq K x qual st f fd)
  (h:∀(kV doc pm:Value)(an:Option Addr)(dr ct:Value)(us:List Value),us.length=ps.length->bindArgs (PySem.W.fnOf x qual (cP st) (bB st) (au st) .none kV doc pm an dr ct) ⟨us,[]⟩=pure (ps.zip us)):Binds K fd ps []:=by
 obtain⟨oc,od,kV,doc,pm,an,dr,ct,uM,rfl,lk,qv⟩:=F.ex;exact .all (h kV doc pm an dr ct)
def D0 {x qual:Str}{st:Stmt}{f:Addr}{oc:Value}{od an:Option Addr}{uM:Array (Option Value)}{kV doc pm dr ct:Value}(l:K.lookup f=some ⟨oc,od,.func (PySem.W.fnOf x qual (cP st) (bB st) (au st) .none kV doc pm an dr ct),uM⟩)
  (c:PySem.W.codeIn K dr qual=true)(k:PySem.W.keepIn K (.ref f)=true):iq K x qual st f (PySem.W.fnOf x qual (cP st) (bB st) (au st) .none kV doc pm an dr ct):=⟨⟨oc,od,kV,doc,pm,an,dr,ct,uM,rfl,l,c⟩,k⟩
end
def f_ {A:Around}{k:Nat}(hr:cX k A):A.units+1 < cLine:=pd (Nat.add_le_add_left (by decide:1<=64) _) hr.units
section
variable {X:Cx}
def pv (i:Nat){x:Str}{pos:Pos}(hN:X.N[i]?=some x:=by rfl)(hv:Qe X.env.scope x:=by first | exact Or.inl rfl | exact Or.inr (bM rfl) | exact Or.inr (Or.inr rfl))(hd:(x == ("__debug__":Str))=false:=by decide)
  (qv:(x == ("__classdict__":Str))=false:=by decide):PE X (.Name x pos) (e_ i):=Jd hN hv hd qv
end
def gM {A B:Prop}(h:B):if false=true then A else B:=by
 rw [ay cT];exact h
def qm {A B:Prop}(h:A):if true=true then A else B:=by
 rw [aw rfl];exact h
def dW {c A B:Prop} [Decidable c] (h1:c->A)(h2:¬c->B):if c then A else B:=by
 by_cases h:c
 .rw [aw h];exact h1 h
 rw [ay h];exact h2 h
def aB (H H':Hp):Prop:=∀b o,H b=some o->H' b=some o
def aB.refl (H:Hp):aB H H:=λ_ _ h=>h
def aB.trans {H H1 H2:Hp}(a:aB H H1)(b:aB H1 H2):aB H H2:=λc o h=>b c o (a c o h)
def aB.free {H H':Hp}(e:aB H H'){l:Addr}(h:H' l=Option.none):H l=Option.none:=by
 cases q:H l with
 | none=>rfl
 | some o =>
  rw [e l o q] at h;cases h
def aB.seq {K:aT}{H H':Hp}{a:Addr}{xs:List V}(e:aB H H')(h:aD K H a xs):aD K H' a xs:=by
 rcases h with (h | ⟨o,h⟩) | h
 .exact .inl (.inl (e _ _ h))
 .exact .inl (.inr ⟨o,e _ _ h⟩)
 exact .inr h
end L2
namespace HD
open PySem PySem.W
def CM (st:SharedT->Thread->Option (SharedT×Thread))(ok:Thread->Bool):Nat->SharedT->Thread->Option SharedT
 | 0,_,_=>none
 | n+1,s,t=>match through t with
  | true=>some s
  | false=>match ok t with
   | false=>none
   | true=>match st s t with
    | some (s',t')=>CM st ok n s' t'
    | none=>none
theorem zP {tb:String->Option Builtin}{p:Program}{w:World}{n₀:Nat}{ann:Option Value}:∀{n:Nat}{s s':SharedT}{t:Thread},CM (stepT (denote tb) p w) (stepOk n₀ ann) n s t=some s'->topRun tb p w n₀ ann n s.abs t=some s'.abs
 | 0,_,_,_,h=>by cases h
 | n+1,s,s',t,h=>by
  unfold CM at h;unfold topRun;cases he:through t with
  | true=>rw [he] at h;cases h;rfl
  | false =>
   rw [he] at h;cases hk:stepOk n₀ ann t with
   | false=>rw [hk] at h;cases h
   | true =>
    rw [hk] at h;cases hs:stepT (denote tb) p w s t with
    | none=>rw [hs] at h;cases h
    | some r=>obtain⟨s₂,t₂⟩:=r;rw [hs] at h;rw [stepT_spec hs];exact zP h
def Ve:List Obj->Nat->BT->BT
 | [],_,t=>t
 | o::r,i,t=>Ve r (i+1) (t.ins i o)
noncomputable def Ao (P:Params):BT:=Ve (boot_heap P).objs.toList 0 .nil
def BE (P:Params):absHeap (Ao P) 11 {}=boot_heap P:=by kernel_rfl
def Kk {β:Type}:Obj->(Obj->β)->β
 | ⟨c,d,t,s⟩,k=>k ⟨c,d,t,s⟩
def o6 {β:Type}:List Obj->(List Obj->β)->β
 | [],k=>k []
 | x::r,k=>Kk x λy=>o6 r λys=>k (y::ys)
theorem qy {β:Type}:∀(l:List Obj)(k:List Obj->β),o6 l k=k l
 | [],_=>rfl
 | ⟨c,d,t,s⟩::r,k=>by
  show o6 r (λys=>k (⟨c,d,t,s⟩::ys))=_;rw [qy r]
def DA (p q:Program) (loose:List Str)(Xt:Shared->Bool){α:Type}(Yf:Shared->α)(g0:Bool)(h₀:Heap)(s:Shared) :=
 ((staticsOk (importedModules p.main.body) h₀ s.heap && namesBound p s.heap && gensDone s && laidKept h₀ s.heap),openSeen q loose (importedModules p.main.body) Xt g0 s,Yf s)
def Cv {β:Type}(f:Shared->β)(s:SharedT):β:=o6 (s.tree.list s.n) λl=>f ⟨⟨l.toArray,s.life⟩,s.gens,s.drawn,s.toks,s.os⟩
def Cu {β:Type}(f:Shared->β)(s:SharedT):Cv f s=f s.abs:=qy _ _
def M7 {p q:Program}{loose:List Str}{Xt:Shared->Bool}{α:Type}{Yf:Shared->α}{Ya:World->α}{N:Nat}{g0:Bool}{ann:Option Value}{M:Nat}
  (C9:∀w:World,(fencedOpening treeTable p w N).map (λs=>(s.heap,s.gens,s.drawn,s.toks))=some (boot_heap w.params,Array.mk [],boot_drawn,boot_toks))
  (size:∀w:World,((boot_heap w.params).isNs mainGlobals && (Array.mk []:Array GenState).size == 0,(boot_heap w.params).objs.size,(boot_heap w.params).nsMap mainGlobals "__annotations__")=(true,11,ann))
  (run:∀(w:World)(os:OsState),(CM (stepT (denote treeTable) p w) (stepOk 11 ann) M ⟨Ao w.params,11,{},Array.mk [],boot_drawn,boot_toks,os⟩ (topStub p)).map (Cv (DA p q loose Xt Yf g0 (boot_heap w.params)))=some (true,openGood q loose,Ya w))
  (le:Nat.ble M N=true):LeftO p q loose Xt Yf Ya N g0:=λw=>by
 obtain⟨⟨h,gs,d,k,os⟩,e,e'⟩:=bR.mp (C9 w);obtain⟨rfl,rfl,rfl,rfl⟩:h=boot_heap w.params/\gs=Array.mk []/\d=boot_drawn/\k=boot_toks:=by simpa using e'
 obtain⟨z1,z2,z3⟩:_/\_/\_:=by simpa only [hU] using size w
 obtain⟨s',r0,l0⟩:=bR.mp (run w os);rw [Cu] at l0;obtain⟨l1,l2,l3⟩:_/\_/\_:=by simpa only [DA,hU] using l0
 have r:=zP r0;have ea:SharedT.abs ⟨Ao w.params,11,{},Array.mk [],boot_drawn,boot_toks,os⟩=⟨boot_heap w.params,Array.mk [],boot_drawn,boot_toks,os⟩:=by
  unfold SharedT.abs;rw [BE]
 rw [ea] at r;have r:=topRun_mono (N - M) _ _ _ _ r;rw [show M+(N - M)=N by have:=Nat.le_of_ble_eq_true le;omega] at r;have t:topFrom treeTable p w N ⟨boot_heap w.params,Array.mk [],boot_drawn,boot_toks,os⟩=some s'.abs:=by
  unfold topFrom;dsimp only;rw [z1,z2,z3,r];show (match staticsOk (importedModules p.main.body) (boot_heap w.params) s'.abs.heap && namesBound p s'.abs.heap && gensDone s'.abs && laidKept (boot_heap w.params) s'.abs.heap with | true=>_ | false=>_)=_
  rw [l1]
 unfold openEnds;rw [e];show (topFrom treeTable p w N _).map _=_;rw [t];exact congrArg some (Prod.ext l2 l3)
end HD
set_option maxHeartbeats 0
namespace HD
open PySem PySem.W L2 PySem.Challenge
def dE (P:Params)(x:Str)(t:Tok)(v:Value):DictEntry:=⟨PyData.keyHash P x,.str x t,v⟩
def top (p:Program) (i:Nat):Stmt:=p.main.body.getD i (.Pass ⟨0,0,0,0⟩)
def ib (p:Program) (i j:Nat):Stmt:=match top p i with
 | .ClassDef _ _ _ body _ _ _ _ _ _ _=>body.getD j (.Pass ⟨0,0,0,0⟩)
 | _=>.Pass ⟨0,0,0,0⟩
def posOf (s:Stmt):Pos:=match s with
 | .FunctionDef _ _ _ _ _ _ _ _ _ p=>p
 | _=>⟨0,0,0,0⟩
def cF (a:Addr)(n q:Str)(i:Nat)(l m:Int)(x y:Addr)(u v s t:Value)(z:Int)(w:Nat):Addr×Obj:=(a,⟨.type "code",none,.fields #[.str n i,.str q (i+1),.str "/claim/cut.py" (i+2),.int l 0,.int m 0,.int 0 0,.int 0 0,.int 3 0,.ref x,.bool true,.int 181 0,.ref y,u,v,s,t,.int z 0,.int l 0,.str "/claim/cut.py" w],#[]⟩)
def fF (a:Addr)(n q:Str)(s:Stmt)(m:Value):Addr×Obj:=(a,⟨.type "function",none,.func (fnOf n q (cP s) (bB s) (au s) .none .none .none m none (.ref (a-1)) .none),#[]⟩)
def dR (P:Params)(x:Str)(t:Tok)(a:Addr):DictEntry:=dE P x t (.ref a)
def m0:Value:=.str "__main__" 164
def m1:Value:=.str "wright.rules" 194
def m2:Value:=.str "wright.begin_tables" 226
def m3:Value:=.str "wright.errors" 320
def m4:Value:=.str "wright.loops" 481
def m5:Value:=.str "wright.tree_sizes" 511
def m6:Value:=.str "wright.grammar_faults" 532
def m7:Value:=.str "wright.least_trees" 559
def m8:Value:=.str "wright.grammars" 645
def m9:Value:=.str "law_wright_k12_endless_and_unmet" 688
noncomputable def K' (p:Program)(P:Params):Frag:=[
 (2,⟨.none,none,.dict #[] 0,#[]⟩),
 (3,⟨.type "dict",none,.dict #[dE P "__name__" 165 (.str "law_wright_k12_endless_and_unmet" 688),dE P "__doc__" 166 (.none),dE P "__package__" 167 (.none),dE P "__loader__" 168 (.builtin "__main__.__loader__#opaque"),dE P "__spec__" 169 (.none),dR P "__annotations__" 170 6,dR P "__builtins__" 171 4,dE P "__file__" 173 (.str "/claim/cut.py" 172),dE P "__cached__" 174 (.none),dR P "_wall" 193 21,dR P "heads_of" 201 26,dR P "words_in" 207 31,dR P "numbers_by_name" 213 36,dR P "standings_by_part" 225 43,dR P "found_empties" 233 48,dR P "first_places" 244 55,dR P "BeginTable" 319 105,dR P "WrightError" 339 119,dR P "NoRules" 355 132,dR P "Twice" 380 151,dR P "Endless" 405 170,dR P "Unmet" 430 189,dR P "Loop" 455 208,dR P "Vast" 480 227,dR P "find_loop" 488 234,dR P "steps_with_like_rows" 494 239,dR P "way_back" 510 246,dR P "least_sizes" 518 251,dR P "greatest_empty_sizes" 525 258,dR P "settled_sizes" 531 263,dE P "MOST_RULES" 535 (.int (60) 534),dR P "refuse_faults" 541 268,dR P "refuse_twice" 552 275,dR P "names_met" 558 280,dR P "least_by_part" 566 285,dR P "rule_size" 572 290,dR P "empty_by_name" 578 295,dR P "LeastTrees" 644 338,dR P "Grammar" 687 367,dR P "_law_cell_at" 697 378,dR P "_law_stream" 708 385,dR P "_law_pool" 714 390,dR P "_law_rule" 720 395,dR P "_law_lacks" 726 400,dR P "_law_told" 735 407,dR P "law" 741 412] 46,#[]⟩),
 (cF 20 "_wall" "_wall" 187 1 1 15 16 .none (.ref 17) (.ref 18) (.ref 19) 191 192),
 (fF 21 "_wall" "_wall" (top p 0) m0),
 (cF 25 "heads_of" "heads_of" 196 5 1 22 23 .none .none .none (.ref 24) 199 200),
 (fF 26 "heads_of" "heads_of" (top p 2) m1),
 (cF 30 "words_in" "words_in" 202 7 1 27 28 .none .none .none (.ref 29) 205 206),
 (fF 31 "words_in" "words_in" (top p 3) m1),
 (cF 35 "numbers_by_name" "numbers_by_name" 208 15 1 32 33 .none .none .none (.ref 34) 211 212),
 (fF 36 "numbers_by_name" "numbers_by_name" (top p 4) m1),
 (cF 42 "standings_by_part" "standings_by_part" 214 20 1 37 38 .none (.ref 39) (.ref 40) (.ref 41) 223 224),
 (fF 43 "standings_by_part" "standings_by_part" (top p 5) m1),
 (cF 47 "found_empties" "found_empties" 228 27 1 44 45 .none .none .none (.ref 46) 231 232),
 (fF 48 "found_empties" "found_empties" (top p 7) m2),
 (cF 54 "first_places" "first_places" 234 38 2 49 50 .none (.ref 51) (.ref 52) (.ref 53) 242 243),
 (fF 55 "first_places" "first_places" (top p 8) m2),
 (cF 66 "__init__" "BeginTable.__init__" 257 47 2 63 64 .none .none .none (.ref 65) 260 261),
 (fF 67 "__init__" "BeginTable.__init__" (ib p 9 0) m2),
 (cF 73 "find_begins" "BeginTable.find_begins" 263 58 3 68 69 .none (.ref 70) (.ref 71) (.ref 72) 272 273),
 (fF 74 "find_begins" "BeginTable.find_begins" (ib p 9 1) m2),
 (cF 80 "words_of_part" "BeginTable.words_of_part" 275 66 2 75 76 .none (.ref 77) (.ref 78) (.ref 79) 280 281),
 (fF 81 "words_of_part" "BeginTable.words_of_part" (ib p 9 2) m2),
 (cF 87 "first_words" "BeginTable.first_words" 283 69 2 82 83 .none (.ref 84) (.ref 85) (.ref 86) 288 289),
 (fF 88 "first_words" "BeginTable.first_words" (ib p 9 3) m2),
 (cF 94 "all_empty" "BeginTable.all_empty" 291 72 2 89 90 .none (.ref 91) (.ref 92) (.ref 93) 296 297),
 (fF 95 "all_empty" "BeginTable.all_empty" (ib p 9 4) m2),
 (cF 101 "words_of_parts" "BeginTable.words_of_parts" 299 75 3 96 97 .none (.ref 98) (.ref 99) (.ref 100) 305 306),
 (fF 102 "words_of_parts" "BeginTable.words_of_parts" (ib p 9 5) m2),
 (104,⟨.type "dict",none,.dict #[dE P "__module__" 252 (.str "wright.begin_tables" 226),dE P "__firstlineno__" 256 (.int (45) 255),dR P "__init__" 262 67,dR P "find_begins" 274 74,dR P "words_of_part" 282 81,dR P "first_words" 290 88,dR P "all_empty" 298 95,dR P "words_of_parts" 307 102,dR P "__static_attributes__" 312 103,dR P "__dict__" 314 106,dR P "__weakref__" 316 107,dE P "__doc__" 317 (.none)] 4,#[]⟩),
 (105,⟨.type "type",none,.cls ⟨"BeginTable",[.type "object"],[.ref 105,.type "object"],104,"BeginTable",true,[],[],false,none,false⟩,#[none,none,some (.str "BeginTable" 245),some (.str "BeginTable" 253),some (.builtin "object.__new__"),some (.bool true)]⟩),
 (106,⟨.type "getset_descriptor",none,.fields #[.str "__dict__" 313,.ref 105,.builtin "function.__dict__",.builtin "function.__dict__#set"],#[]⟩),
 (107,⟨.type "getset_descriptor",none,.fields #[.str "__weakref__" 315,.ref 105,.builtin "ExceptionGroup.__weakref__",.none],#[]⟩),
 (118,⟨.type "dict",none,.dict #[dE P "__module__" 329 (.str "wright.errors" 320),dE P "__firstlineno__" 333 (.int (78) 332),dR P "__static_attributes__" 334 117,dR P "__weakref__" 336 120,dE P "__doc__" 337 (.none)] 3,#[]⟩),
 (119,⟨.type "type",none,.cls ⟨"WrightError",[.type "ValueError"],[.ref 119,.type "ValueError",.type "Exception",.type "BaseException",.type "object"],118,"WrightError",true,[],[.ref 132,.ref 151,.ref 170,.ref 189,.ref 208,.ref 227],false,none,false⟩,#[some (.ref 110),none,some (.str "WrightError" 322),some (.str "WrightError" 330),some (.builtin "ValueError.__new__"),some (.bool true)]⟩),
 (120,⟨.type "getset_descriptor",none,.fields #[.str "__weakref__" 335,.ref 119,.builtin "ExceptionGroup.__weakref__",.none],#[]⟩),
 (131,⟨.type "dict",none,.dict #[dE P "__module__" 347 (.str "wright.errors" 320),dE P "__firstlineno__" 351 (.int (80) 350),dR P "__static_attributes__" 352 130,dE P "__doc__" 353 (.none)] 2,#[]⟩),
 (132,⟨.type "type",none,.cls ⟨"NoRules",[.ref 119],[.ref 132,.ref 119,.type "ValueError",.type "Exception",.type "BaseException",.type "object"],131,"NoRules",true,[],[],false,none,false⟩,#[some (.ref 123),none,some (.str "NoRules" 340),some (.str "NoRules" 348),some (.builtin "ValueError.__new__"),some (.bool true)]⟩),
 (cF 147 "__init__" "Twice.__init__" 368 84 2 142 143 .none (.ref 144) (.ref 145) (.ref 146) 373 374),
 (fF 148 "__init__" "Twice.__init__" (ib p 13 0) m3),
 (150,⟨.type "dict",none,.dict #[dE P "__module__" 363 (.str "wright.errors" 320),dE P "__firstlineno__" 367 (.int (82) 366),dR P "__init__" 375 148,dR P "__static_attributes__" 377 149,dE P "__doc__" 378 (.none)] 2,#[]⟩),
 (151,⟨.type "type",none,.cls ⟨"Twice",[.ref 119],[.ref 151,.ref 119,.type "ValueError",.type "Exception",.type "BaseException",.type "object"],150,"Twice",true,[],[],false,none,false⟩,#[some (.ref 135),none,some (.str "Twice" 356),some (.str "Twice" 364),some (.builtin "ValueError.__new__"),some (.bool true)]⟩),
 (cF 166 "__init__" "Endless.__init__" 393 89 2 161 162 .none (.ref 163) (.ref 164) (.ref 165) 398 399),
 (fF 167 "__init__" "Endless.__init__" (ib p 14 0) m3),
 (169,⟨.type "dict",none,.dict #[dE P "__module__" 388 (.str "wright.errors" 320),dE P "__firstlineno__" 392 (.int (87) 391),dR P "__init__" 400 167,dR P "__static_attributes__" 402 168,dE P "__doc__" 403 (.none)] 2,#[]⟩),
 (170,⟨.type "type",none,.cls ⟨"Endless",[.ref 119],[.ref 170,.ref 119,.type "ValueError",.type "Exception",.type "BaseException",.type "object"],169,"Endless",true,[],[],false,none,false⟩,#[some (.ref 154),none,some (.str "Endless" 381),some (.str "Endless" 389),some (.builtin "ValueError.__new__"),some (.bool true)]⟩),
 (cF 185 "__init__" "Unmet.__init__" 418 94 2 180 181 .none (.ref 182) (.ref 183) (.ref 184) 423 424),
 (fF 186 "__init__" "Unmet.__init__" (ib p 15 0) m3),
 (188,⟨.type "dict",none,.dict #[dE P "__module__" 413 (.str "wright.errors" 320),dE P "__firstlineno__" 417 (.int (92) 416),dR P "__init__" 425 186,dR P "__static_attributes__" 427 187,dE P "__doc__" 428 (.none)] 2,#[]⟩),
 (189,⟨.type "type",none,.cls ⟨"Unmet",[.ref 119],[.ref 189,.ref 119,.type "ValueError",.type "Exception",.type "BaseException",.type "object"],188,"Unmet",true,[],[],false,none,false⟩,#[some (.ref 173),none,some (.str "Unmet" 406),some (.str "Unmet" 414),some (.builtin "ValueError.__new__"),some (.bool true)]⟩),
 (cF 204 "__init__" "Loop.__init__" 443 99 2 199 200 .none (.ref 201) (.ref 202) (.ref 203) 448 449),
 (fF 205 "__init__" "Loop.__init__" (ib p 16 0) m3),
 (207,⟨.type "dict",none,.dict #[dE P "__module__" 438 (.str "wright.errors" 320),dE P "__firstlineno__" 442 (.int (97) 441),dR P "__init__" 450 205,dR P "__static_attributes__" 452 206,dE P "__doc__" 453 (.none)] 2,#[]⟩),
 (208,⟨.type "type",none,.cls ⟨"Loop",[.ref 119],[.ref 208,.ref 119,.type "ValueError",.type "Exception",.type "BaseException",.type "object"],207,"Loop",true,[],[],false,none,false⟩,#[some (.ref 192),none,some (.str "Loop" 431),some (.str "Loop" 439),some (.builtin "ValueError.__new__"),some (.bool true)]⟩),
 (cF 223 "__init__" "Vast.__init__" 468 104 2 218 219 .none (.ref 220) (.ref 221) (.ref 222) 473 474),
 (fF 224 "__init__" "Vast.__init__" (ib p 17 0) m3),
 (226,⟨.type "dict",none,.dict #[dE P "__module__" 463 (.str "wright.errors" 320),dE P "__firstlineno__" 467 (.int (102) 466),dR P "__init__" 475 224,dR P "__static_attributes__" 477 225,dE P "__doc__" 478 (.none)] 2,#[]⟩),
 (227,⟨.type "type",none,.cls ⟨"Vast",[.ref 119],[.ref 227,.ref 119,.type "ValueError",.type "Exception",.type "BaseException",.type "object"],226,"Vast",true,[],[],false,none,false⟩,#[some (.ref 211),none,some (.str "Vast" 456),some (.str "Vast" 464),some (.builtin "ValueError.__new__"),some (.bool true)]⟩),
 (cF 233 "find_loop" "find_loop" 483 108 1 230 231 .none .none .none (.ref 232) 486 487),
 (fF 234 "find_loop" "find_loop" (top p 19) m4),
 (cF 238 "steps_with_like_rows" "steps_with_like_rows" 489 112 1 235 236 .none .none .none (.ref 237) 492 493),
 (fF 239 "steps_with_like_rows" "steps_with_like_rows" (top p 20) m4),
 (cF 245 "way_back" "way_back" 495 121 3 240 241 .none (.ref 242) (.ref 243) (.ref 244) 508 509),
 (fF 246 "way_back" "way_back" (top p 21) m4),
 (cF 250 "least_sizes" "least_sizes" 513 137 1 247 248 .none .none .none (.ref 249) 516 517),
 (fF 251 "least_sizes" "least_sizes" (top p 23) m5),
 (cF 257 "greatest_empty_sizes" "greatest_empty_sizes" 519 139 1 252 253 .none (.ref 254) (.ref 255) (.ref 256) 523 524),
 (fF 258 "greatest_empty_sizes" "greatest_empty_sizes" (top p 24) m5),
 (cF 262 "settled_sizes" "settled_sizes" 526 141 3 259 260 .none .none .none (.ref 261) 529 530),
 (fF 263 "settled_sizes" "settled_sizes" (top p 25) m5),
 (cF 267 "refuse_faults" "refuse_faults" 536 154 2 264 265 .none .none .none (.ref 266) 539 540),
 (fF 268 "refuse_faults" "refuse_faults" (top p 28) m6),
 (cF 274 "refuse_twice" "refuse_twice" 542 173 1 269 270 .none (.ref 271) (.ref 272) (.ref 273) 550 551),
 (fF 275 "refuse_twice" "refuse_twice" (top p 29) m6),
 (cF 279 "names_met" "names_met" 553 180 1 276 277 .none .none .none (.ref 278) 556 557),
 (fF 280 "names_met" "names_met" (top p 30) m6),
 (cF 284 "least_by_part" "least_by_part" 561 190 1 281 282 .none .none .none (.ref 283) 564 565),
 (fF 285 "least_by_part" "least_by_part" (top p 32) m7),
 (cF 289 "rule_size" "rule_size" 567 198 2 286 287 .none .none .none (.ref 288) 570 571),
 (fF 290 "rule_size" "rule_size" (top p 33) m7),
 (cF 294 "empty_by_name" "empty_by_name" 573 200 2 291 292 .none .none .none (.ref 293) 576 577),
 (fF 295 "empty_by_name" "empty_by_name" (top p 34) m7),
 (cF 306 "__init__" "LeastTrees.__init__" 591 207 3 303 304 .none .none .none (.ref 305) 594 595),
 (fF 307 "__init__" "LeastTrees.__init__" (ib p 35 0) m7),
 (cF 313 "least_of" "LeastTrees.least_of" 597 214 2 308 309 .none (.ref 310) (.ref 311) (.ref 312) 602 603),
 (fF 314 "least_of" "LeastTrees.least_of" (ib p 35 1) m7),
 (cF 320 "hollow_of" "LeastTrees.hollow_of" 605 217 2 315 316 .none (.ref 317) (.ref 318) (.ref 319) 610 611),
 (fF 321 "hollow_of" "LeastTrees.hollow_of" (ib p 35 2) m7),
 (cF 327 "begun_place" "LeastTrees.begun_place" 613 220 3 322 323 .none (.ref 324) (.ref 325) (.ref 326) 619 620),
 (fF 328 "begun_place" "LeastTrees.begun_place" (ib p 35 3) m7),
 (cF 334 "begun_of" "LeastTrees.begun_of" 622 223 4 329 330 .none (.ref 331) (.ref 332) (.ref 333) 629 630),
 (fF 335 "begun_of" "LeastTrees.begun_of" (ib p 35 4) m7),
 (337,⟨.type "dict",none,.dict #[dE P "__module__" 586 (.str "wright.least_trees" 559),dE P "__firstlineno__" 590 (.int (205) 589),dR P "__init__" 596 307,dR P "least_of" 604 314,dR P "hollow_of" 612 321,dR P "begun_place" 621 328,dR P "begun_of" 631 335,dR P "__static_attributes__" 637 336,dR P "__dict__" 639 339,dR P "__weakref__" 641 340,dE P "__doc__" 642 (.none)] 4,#[]⟩),
 (338,⟨.type "type",none,.cls ⟨"LeastTrees",[.type "object"],[.ref 338,.type "object"],337,"LeastTrees",true,[],[],false,none,false⟩,#[none,none,some (.str "LeastTrees" 579),some (.str "LeastTrees" 587),some (.builtin "object.__new__"),some (.bool true)]⟩),
 (339,⟨.type "getset_descriptor",none,.fields #[.str "__dict__" 638,.ref 338,.builtin "function.__dict__",.builtin "function.__dict__#set"],#[]⟩),
 (340,⟨.type "getset_descriptor",none,.fields #[.str "__weakref__" 640,.ref 338,.builtin "ExceptionGroup.__weakref__",.none],#[]⟩),
 (350,⟨.type "tuple",none,.seq #[.none] 0,#[]⟩),
 (cF 356 "__init__" "Grammar.__init__" 659 228 3 351 352 .none (.ref 353) (.ref 354) (.ref 355) 665 666),
 (357,⟨.type "function",none,.func (fnOf "__init__" "Grammar.__init__" (cP (ib p 37 0)) (bB (ib p 37 0)) (au (ib p 37 0)) (.ref 350) (.none) (.none) (.str "wright.grammars" 645) (none) (.ref 356) (.none)),#[]⟩),
 (cF 363 "start" "Grammar.start" 668 236 1 358 359 .none (.ref 360) (.ref 361) (.ref 362) 672 673),
 (fF 364 "start" "Grammar.start" (ib p 37 1) m8),
 (366,⟨.type "dict",none,.dict #[dE P "__module__" 654 (.str "wright.grammars" 645),dE P "__firstlineno__" 658 (.int (226) 657),dR P "__init__" 667 357,dR P "start" 674 364,dR P "__static_attributes__" 680 365,dR P "__dict__" 682 368,dR P "__weakref__" 684 369,dE P "__doc__" 685 (.none)] 4,#[]⟩),
 (367,⟨.type "type",none,.cls ⟨"Grammar",[.type "object"],[.ref 367,.type "object"],366,"Grammar",true,[],[],false,none,false⟩,#[none,none,some (.str "Grammar" 647),some (.str "Grammar" 655),some (.builtin "object.__new__"),some (.bool true)]⟩),
 (368,⟨.type "getset_descriptor",none,.fields #[.str "__dict__" 681,.ref 367,.builtin "function.__dict__",.builtin "function.__dict__#set"],#[]⟩),
 (369,⟨.type "getset_descriptor",none,.fields #[.str "__weakref__" 683,.ref 367,.builtin "ExceptionGroup.__weakref__",.none],#[]⟩),
 (cF 377 "_law_cell_at" "_law_cell_at" 690 239 2 372 373 .none (.ref 374) (.ref 375) (.ref 376) 695 696),
 (fF 378 "_law_cell_at" "_law_cell_at" (top p 39) m9),
 (cF 384 "_law_stream" "_law_stream" 698 243 2 379 380 .none (.ref 381) (.ref 382) (.ref 383) 706 707),
 (fF 385 "_law_stream" "_law_stream" (top p 40) m9),
 (cF 389 "_law_pool" "_law_pool" 709 250 2 386 387 .none .none .none (.ref 388) 712 713),
 (fF 390 "_law_pool" "_law_pool" (top p 41) m9),
 (cF 394 "_law_rule" "_law_rule" 715 262 2 391 392 .none .none .none (.ref 393) 718 719),
 (fF 395 "_law_rule" "_law_rule" (top p 42) m9),
 (cF 399 "_law_lacks" "_law_lacks" 721 271 1 396 397 .none .none .none (.ref 398) 724 725),
 (fF 400 "_law_lacks" "_law_lacks" (top p 43) m9),
 (cF 406 "_law_told" "_law_told" 727 285 1 401 402 .none (.ref 403) (.ref 404) (.ref 405) 733 734),
 (fF 407 "_law_told" "_law_told" (top p 44) m9),
 (cF 411 "law" "law" 736 292 1 408 409 .none .none .none (.ref 410) 739 740),
 (fF 412 "law" "law" (top p 45) m9)]
def as:List Addr:=[2,3,20,21,25,26,30,31,35,36,42,43,47,48,54,55,66,67,73,74,80,81,87,88,94,95,101,102,104,105,106,107,118,119,120,131,132,147,148,150,151,166,167,169,170,185,186,188,189,204,205,207,208,223,224,226,227,233,234,238,239,245,246,250,251,257,258,262,263,267,268,274,275,279,280,284,285,289,290,294,295,306,307,313,314,320,321,327,328,334,335,337,338,339,340,350,356,357,363,364,366,367,368,369,377,378,384,385,389,390,394,395,399,400,406,407,411,412]
def q' (p:Program):Program:=view p [0,2,3,4,5,7,8,9,11,12,13,14,15,16,17,19,20,21,23,24,25,27,28,29,30,32,33,34,35,37,39,40,41,42,43,44,45]
abbrev loose:List Str:=[]
abbrev steps:Nat:=3467
abbrev bound:Nat:=7914
abbrev A9:OpenLaw:=rw_wright_k12_endless_and_unmet
noncomputable abbrev K (P:Params):Frag:=K' pw_wright_k12_endless_and_unmet P
theorem OH (P:Params):as=(K P).map (·.1):=by kernel_rfl
noncomputable abbrev hook:Hook:=kmHook K as OH [282,253,248]
def pre (h:A9.row.wellSaid=true->A9.row.Holds):A9.Holds:=by
 o_law
 exact h (by assumption)
abbrev Xt:Shared->Bool:=λs=>xlAt (q' pw_wright_k12_endless_and_unmet) [] s && recOk (RowW.records (OpenRow.toRowW (OpenLaw.row rw_wright_k12_endless_and_unmet))) s
def run (w:World)(os:OsState):(CM (stepT (denote treeTable) pw_wright_k12_endless_and_unmet w) (stepOk 11 (some (.ref 6))) steps ⟨Ao w.params,11,{},Array.mk [],boot_drawn,boot_toks,os⟩ (topStub pw_wright_k12_endless_and_unmet)).map
  (Cv (DA pw_wright_k12_endless_and_unmet (q' pw_wright_k12_endless_and_unmet) loose Xt (Hook.obs hook) true (boot_heap w.params)))=some (true,openGood (q' pw_wright_k12_endless_and_unmet) loose,Hook.val hook w):=by
 rw [PySem.W.Fast.te10156331382660048174,PySem.W.Fast.te11892475500146522536,PySem.W.Fast.te14364793385576792824,PySem.W.Fast.te6613529449190102663,PySem.W.Fast.te678963904056306183]
 kernel_rfl
theorem size (w:World):((boot_heap w.params).isNs mainGlobals && (Array.mk []:Array GenState).size == 0,(boot_heap w.params).objs.size,(boot_heap w.params).nsMap mainGlobals "__annotations__")=(true,11,some (.ref 6)):=by kernel_rfl
def C9:∀w:World,(fencedOpening treeTable pw_wright_k12_endless_and_unmet w bound).map (λs=>(s.heap,s.gens,s.drawn,s.toks))=some (boot_heap w.params,Array.mk [],boot_drawn,boot_toks) :=
 boot_open (nofun) nofun (λs=>by kernel_rfl)
def left:LeftO (OpenRow.toRowW A9.row).prog (q' pw_wright_k12_endless_and_unmet) loose Xt (Hook.obs hook) (Hook.val hook) bound:=M7 C9 size run nofun
def jl:DefRec:={ name := "law",params:=cP (top pw_wright_k12_endless_and_unmet 45),body:=bB (top pw_wright_k12_endless_and_unmet 45),scope:=au (top pw_wright_k12_endless_and_unmet 45),pos:=posOf (top pw_wright_k12_endless_and_unmet 45) }
def Ra:defOf (q' pw_wright_k12_endless_and_unmet) A9.row.name=some (jl,[]):=by kernel_rfl
def Q_:A9.row.prog.theDef A9.row.name=some (jl.params,jl.body,jl.scope):=by kernel_rfl
def XW:kwWritten? jl.params.kwonlyargs jl.params.kw_defaults=some []:=by kernel_rfl
def XU:(chainsOk (q' pw_wright_k12_endless_and_unmet) && opensWell A9.row.prog && (frees A9.row.toRowW && A9.row.within.isEmpty))=true:=by kernel_rfl
def XT:jl.params.defaults=[]:=by kernel_rfl
def hold (h:WalkO (q' pw_wright_k12_endless_and_unmet) loose (XL (q' pw_wright_k12_endless_and_unmet) []) (Hook.says hook) A9.row.toRowW jl [] λf vs=>PySem.call f vs)(hw:A9.row.toRowW.promised):A9.Holds :=
 pre λQR=>holds_open (q:=q' pw_wright_k12_endless_and_unmet) (loose:=loose) (Xt:=Xt) (XP:=XL (q' pw_wright_k12_endless_and_unmet) []) (Yf:=Hook.obs hook) (Ya:=Hook.val hook) (YP:=Hook.says hook) (N:=bound) left (Hook.of hook) (Hook.keeps hook) (λs e=>xl_of s (nS.mp e).1) XL.keeps Ra Q_ XW (λs e=>recFacts_of (nS.mp e).2) rfl QR XU ⟨rfl,rfl,rfl,rfl,rfl,nofun⟩ hw h
end HD
set_option maxHeartbeats 4000000
namespace L2
open PySem PySem.Spec PyProof.Rows
abbrev vp:=Nat->St->Hp->Prop
def Er {CX:tJ}{P:Program}{w:World}{K:aT}{mg:Str->Option Value}{base:Heap}{N:List Str}{qual:Str}{scope:Scope}{f:Addr}{cd:Value}{A:Around}{outer:List Env}{s:Shared}{H:Hp}{E:XK}:(d6 CX P w K mg base N qual scope f cd A outer s H E).AY.K=K:=rfl
def RR {t:TS}{D:Ends}{σ:St}{H:Hp}(h:let E:=D;t E σ H):t D σ H:=h
def RP {t u:TS}{D:Ends}{σ:St}{H:Hp}(h:let E:={ D with nx:=u D };t E σ H):ID t u D σ H:=h
def M5 {t u:TS}{D:Ends}{σ:St}{H:Hp}(h:let E:=D;let F:={ E with nx:=u E };t F σ H):ID t u D σ H:=h
def RQ {g:TG}{x:V}{σ:St}{H:Hp}{t:TS}{D:Ends}(h:let E:=D;g x σ H λσ2 H2=>t E σ2 H2):g x σ H λσ2 H2=>t D σ2 H2:=h
end L2
local macro_rules | `(tactic| nofun) => `(tactic| (dsimp only [L2.Er];refine L2.RP ?_;intro _))
local macro_rules | `(tactic| ac_rfl) => `(tactic| (refine L2.M5 ?_;intro _ _))
local macro_rules | `(tactic| ac_nf0) => `(tactic| (refine L2.RQ ?_;intro _))
local macro_rules | `(tactic| ac_nf) => `(tactic| (refine L2.RR ?_;intro _))
namespace L2
open PySem PySem.Spec PyProof.Rows
section
variable {κ:Type} [DecidableEq κ]
def aV (kvs:List (κ×V))(k:κ):Option V:=(kvs.find? λkv=>decide (kv.1=k)).map (·.2)
def bc (kvs:List (κ×V))(k:κ)(v:V):List (κ×V) :=
 if (kvs.any λkv=>decide (kv.1=k))=true then kvs.map (λkv=>if kv.1=k then (kv.1,v) else kv) else kvs++[(k,v)]
def HV (kvs:List (κ×V))(k:κ):List (κ×V):=kvs.filter λkv=>decide (kv.1≠k)
def dB {p:κ×V}{r:List (κ×V)}{k:κ}(e:p.1=k):aV (p::r) k=some p.2:=by simp [aV,mq,e]
def dC {p:κ×V}{r:List (κ×V)}{k:κ}(e:¬p.1=k):aV (p::r) k=aV r k:=by simp [aV,mq,e]
theorem hV (k:κ):∀kvs:List (κ×V),(kvs.any λkv=>decide (kv.1=k))=(aV kvs k).isSome
 | []=>rfl
 | p::r=>by
  rw [pB];by_cases e:p.1=k
  .simp only [dB e,dO e,Bool.true_or,Option.isSome_some]
  rw [dC e,eM e,Bool.false_or];exact hV k r
theorem vy (k j:κ)(y:V):∀kvs:List (κ×V),aV (kvs.map λkv=>if kv.1=k then (kv.1,y) else kv) j=(aV kvs j).map λx=>if j=k then y else x
 | []=>rfl
 | p::r=>by
  have ih:=vy k j y r;rw [bw];by_cases h:p.1=k
  .rw [aw h];by_cases e:p.1=j
   .rw [dB (p:=(p.1,y)) e,dB e,pC,aw (e.symm.trans h)]
   rw [dC (p:=(p.1,y)) e,dC e,ih]
  rw [ay h];by_cases e:p.1=j
  .rw [dB (p:=p) e,dB e,pC,ay (λz=>h (e.trans z))]
  rw [dC (p:=p) e,dC e,ih]
theorem rM (k j:κ)(y:V):∀kvs:List (κ×V),aV kvs k=none->aV (kvs++[(k,y)]) j=if j=k then some y else aV kvs j
 | [],_=>by
  by_cases e:k=j
  .rw [aw e.symm];exact dB (p:=(k,y)) e
  rw [ay (λz=>e z.symm)];exact dC (p:=(k,y)) e
 | p::r,hn=>by
  rw [pE];have hk:¬p.1=k:=λz=>by rw [dB z] at hn;cases hn
  rw [dC hk] at hn;have ih:=rM k j y r hn;by_cases e:p.1=j
  .rw [dB e,dB e,ay (λz=>hk (e.trans z))]
  rw [dC e,dC e,ih]
def vx (kvs:List (κ×V))(k j:κ)(y:V):aV (bc kvs k y) j=if j=k then some y else aV kvs j:=by
 unfold bc;by_cases a:(kvs.any λkv=>decide (kv.1=k))=true
 .rw [aw a,vy];rw [hV] at a;by_cases e:j=k
  .obtain⟨x,hx⟩:=i5.mp a;rw [aw e,e,hx,pC,aw rfl]
  rw [ay e];cases aV kvs j with
  | none=>rfl
  | some x=>rw [pC,ay e]
 rw [ay a];refine rM k j y kvs ?_;rw [hV] at a;cases q:aV kvs k with
 | none=>rfl
 | some x=>rw [q] at a;exact(a rfl).elim
def dU (kvs:List (κ×V))(k:κ)(v:V):(bc kvs k v).length<=kvs.length+1:=by
 unfold bc
 split
 .rw [az];omega
 rw [cC,dw,gO];omega
def vL {kvs:List (κ×V)}{k:κ}(v:V)(h:aV kvs k=none):bc kvs k v=kvs++[(k,v)]:=by
 unfold bc;rw [hV,h];exact ay nofun
def gL.ie {o:Option V}{u:Option Value}(r:gL o u):o.isSome=u.isSome:=by
 cases o with
 | none=>cases u with
  | none=>rfl
  | some _=>exact(show False from r).elim
 | some _=>cases u with
  | none=>exact(show False from r).elim
  | some _=>rfl
theorem gL.getD {o:Option V}{u:Option Value}{d:V}{d':Value}(r:gL o u)(rd:RelV d d'):RelV (o.getD d) (u.getD d'):=by
 cases o with
 | none=>cases u with
  | none=>exact rd
  | some _=>exact(show False from r).elim
 | some _=>cases u with
  | none=>exact(show False from r).elim
  | some _=>exact r
def KV.val {kvs:List (κ×V)}{vs:List (κ×Value)}(r:KV kvs vs)(k:κ):gL (aV kvs k) (valueAt vs k):=by
 unfold KV at r
 induction r with
 | nil=>exact True.intro
 | @cons p q ps qs h t ih =>
  obtain⟨h1,h2⟩:=h;by_cases e:p.1=k
  .have e':q.1=k:=h1.symm.trans e;have b:valueAt (q::qs) k=some q.2:=by simp [valueAt,mq,e']
   rw [dB e,b];exact h2
  have e':¬q.1=k:=λz=>e (h1.trans z);have b:valueAt (q::qs) k=valueAt qs k:=by simp [valueAt,mq,e']
  rw [dC e,b];exact ih
theorem KV.any {kvs:List (κ×V)}{vs:List (κ×Value)}(r:KV kvs vs)(k:κ):(kvs.any λkv=>decide (kv.1=k))=vs.any λkv=>decide (kv.1=k):=by
 unfold KV at r
 induction r with
 | nil=>rfl
 | cons h t ih=>rw [pB,pB,ih,h.1]
def KV.I_ {kvs:List (κ×V)}{vs:List (κ×Value)}(r:KV kvs vs)(k:κ){y:V}{u:Value}(ry:RelV y u) :
  KV (kvs.map λkv=>if kv.1=k then (kv.1,y) else kv) (vs.map λkv=>if kv.1=k then (kv.1,u) else kv):=by
 unfold KV at r ⊢
 induction r with
 | nil=>exact .nil
 | @cons p q ps qs h t ih =>
  rw [bw,bw];refine .cons ?_ ih;obtain⟨h1,h2⟩:=h;by_cases e:p.1=k
  .rw [aw e,aw (h1.symm.trans e)];exact⟨h1,ry⟩
  rw [ay e,ay (λz=>e (h1.trans z))];exact⟨h1,h2⟩
def KV.put {kvs:List (κ×V)}{vs:List (κ×Value)}(r:KV kvs vs)(k:κ){y:V}{u:Value}(ry:RelV y u):KV (bc kvs k y) (stored vs k u):=by
 unfold bc stored;rw [r.any k];by_cases e:(vs.any λkv=>decide (kv.1=k))=true
 .rw [aw e,aw e];exact r.I_ k ry
 rw [ay e,ay e];exact eW r ⟨rfl,ry⟩
def KV.drop {kvs:List (κ×V)}{vs:List (κ×Value)}(r:KV kvs vs)(k:κ):KV (HV kvs k) (without vs k):=by
 unfold KV at r ⊢;unfold HV without
 induction r with
 | nil=>exact .nil
 | @cons p q ps qs h t ih =>
  obtain⟨h1,h2⟩:=h;rw [iZ,iZ];by_cases e:p.1=k
  .have a:¬decide (p.1≠k)=true:=by simp [e]
   have b:¬decide (q.1≠k)=true:=by simp [h1.symm.trans e]
   rw [ay a,ay b];exact ih
  have e':¬q.1=k:=λz=>e (h1.trans z);have a:decide (p.1≠k)=true:=by simp [e]
  have b:decide (q.1≠k)=true:=by simp [e']
  rw [aw a,aw b];exact .cons ⟨h1,h2⟩ ih
def KV.keys {kvs:List (κ×V)}{vs:List (κ×Value)}(r:KV kvs vs):kvs.map (·.1)=vs.map (·.1):=by
 unfold KV at r
 induction r with
 | nil=>rfl
 | cons h t ih=>rw [bw,bw,ih,h.1]
theorem KV.length {kvs:List (κ×V)}{vs:List (κ×Value)}(r:KV kvs vs):kvs.length=vs.length:=bF r
end
def jU {P:Program}{w:World}{k:aF}{u:Value}(r:RelV (kV k) u):(aS P w).is k u=true:=by
 cases k with
 | inl i=>obtain⟨t,e⟩:=(show ∃t,u=Value.int i t from r);subst e;exact vV P w i t
 | inr x=>obtain⟨t,e⟩:=(show ∃t,u=Value.str x t from r);subst e;exact vU P w x t
theorem sH {P:Program}{w:World}:∀{ks:List aF}{us:List Value},aO (ks.map kV) us->ItemsAre (aS P w) ks us
 | [],_,r=>by rw [i8] at r;cases r;exact .nil
 | k::ks,_,r=>by
  rw [bw] at r;cases r with
  | cons h t=>exact .cons (jU h) (sH t)
abbrev KT (H:Hp):List (List aF×V)->List (List aF×Addr×Value)->Prop:=Paired λp q=>p.1=q.1/\H q.2.1=some (.tup (p.1.map kV))/\RelV p.2 q.2.2
def KT.val {H:Hp}{kvs:List (List aF×V)}{xs:List (List aF×Addr×Value)}(r:KT H kvs xs)(k:List aF):gL (aV kvs k) ((atKey xs k).map (·.2)):=by
 induction r with
 | nil=>exact True.intro
 | @cons p q ps qs h t ih =>
  obtain⟨h1,_,h2⟩:=h;by_cases e:p.1=k
  .have e':q.1=k:=h1.symm.trans e;have b:atKey (q::qs) k=some q.2:=by simp [atKey,mq,e']
   rw [dB e,b];exact h2
  have e':¬q.1=k:=λz=>e (h1.trans z);have b:atKey (q::qs) k=atKey qs k:=by simp [atKey,mq,e']
  rw [dC e,b];exact ih
def KT.I_ {H:Hp}{kvs:List (List aF×V)}{xs:List (List aF×Addr×Value)}(r:KT H kvs xs)(k:List aF){y:V}{u:Value}(ry:RelV y u) :
  KT H (kvs.map λkv=>if kv.1=k then (kv.1,y) else kv) (xs.map (putAt k u)):=by
 induction r with
 | nil=>exact .nil
 | @cons p q ps qs h t ih =>
  rw [bw,bw];refine .cons ?_ ih;obtain⟨h1,h2,h3⟩:=h;unfold putAt;by_cases e:p.1=k
  .rw [aw e,aw (h1.symm.trans e)];exact⟨h1,h2,ry⟩
  rw [ay e,ay (λz=>e (h1.trans z))];exact⟨h1,h2,h3⟩
def KT.put {H:Hp}{kvs:List (List aF×V)}{xs:List (List aF×Addr×Value)}(r:KT H kvs xs)(k:List aF){b:Addr}{y:V}{u:Value}(hb:H b=some (.tup (k.map kV)))(ry:RelV y u) :
  KT H (bc kvs k y) (storedH xs k b u):=by
 have e:(kvs.any λkv=>decide (kv.1=k))=(atKey xs k).isSome:=by
  rw [hV,(r.val k).ie,mH]
 unfold bc storedH;rw [e];by_cases q:(atKey xs k).isSome=true
 .rw [aw q,aw q];exact r.I_ k ry
 rw [ay q,ay q];exact eW r ⟨rfl,hb,ry⟩
def KT.keeps {H H':Hp}{kvs:List (List aF×V)}{xs:List (List aF×Addr×Value)}(r:KT H kvs xs)(ht:∀b ys,H b=some (.tup ys)->H' b=some (.tup ys)):KT H' kvs xs :=
 Paired.d_ r λ_ _ z=>⟨z.1,ht _ _ z.2.1,z.2.2⟩
section
variable {P:Program}{w:World}{H:Hp}{h:Heap}{a:Addr}
def Hh {u:HO}(ok:jM P w H h)(e:Rd H a u):bE P w H h a u:=e.ok ok
def lY {kvs:List (aF×V)}(ok:jM P w H h)(e:Rd H a (.dK kvs)):kvs.length<=sizeLine/\(a == sysModules)=false/\∃vs,KV kvs vs/\h.DictOf (aS P w) a vs :=
 show bE P w H h a (.dK kvs) from Hh ok e
def wA {kvs:List (aF×V)}(ok:jM P w H h)(e:H a=some (.dK kvs)):kvs.length<=sizeLine/\(a == sysModules)=false/\∃vs,KV kvs vs/\h.DictOf (aS P w) a vs:=lY ok (.inl e)
def kn {ks:List aF}(ok:jM P w H h)(e:H a=some (.tup (ks.map kV))):(tupleKind (aS P w)).is h ks a:=by
 obtain⟨_,aL,r,o,h1,h2,n,h3⟩:=(show bE P w H h a (.tup (ks.map kV)) from ok a _ e);exact⟨o,aL.toArray,n,h1,h2,h3,by simpa using sH r⟩
def qG {kvs:List (List aF×V)}(ok:jM P w H h)(e:Rd H a (.dT kvs)):kvs.length<=sizeLine/\(a == sysModules)=false /\
  ∃xs,KT H kvs xs/\h.DictOfH (tupleKind (aS P w)) a xs:=by
 obtain⟨z,y,xs,r,o,es,ep,h1,h2,h3,h4,h5⟩:=(show bE P w H h a (.dT kvs) from Hh ok e);refine⟨z,y,xs,r,o,es,ep,h1,h2,h3,h4,λx hx=>?_,h5⟩;have all:∀{l:List (List aF×V)}{m:List (List aF×Addr×Value)},KT H l m->∀x∈m,(tupleKind (aS P w)).is h x.1 x.2.1:=by
  intro l m q
  induction q with
  | nil=>intro x hx;exact nomatch hx
  | @cons p q ps qs hq t ih =>
   intro x hx;rcases bC.mp hx with e | hx
   .subst e;exact kn ok (by rw [<-hq.1];exact hq.2.1)
   exact ih x hx
 exact all r x hx
def Ow {kvs:List (List aF×V)}(ok:jM P w H h)(e:H a=some (.dT kvs)):kvs.length<=sizeLine/\(a == sysModules)=false /\
  ∃xs,KT H kvs xs/\h.DictOfH (tupleKind (aS P w)) a xs:=qG ok (.inl e)
end
def bV (H:Hp)(a:Addr)(y:V)(r:Option V):Prop :=
 (∃kvs k,Rd H a (.dK kvs)/\y=kV k/\r=aV kvs k)\/∃kvs k b,Rd H a (.dT kvs)/\y=.ref b/\H b=some (.tup (k.map kV))/\r=aV kvs k
def nJ (H:Hp)(a:Addr)(y v:V)(H':Hp):Prop :=
 (∃kvs k,H a=some (.dK kvs)/\y=kV k/\kvs.length < sizeLine/\H'=upd H a (.dK (bc kvs k v))) \/
 ∃kvs k b,H a=some (.dT kvs)/\y=.ref b/\H b=some (.tup (k.map kV))/\kvs.length < sizeLine/\H'=upd H a (.dT (bc kvs k v))
theorem bV.k {H:Hp}{a:Addr}{kvs:List (aF×V)}{k:aF}(e:H a=some (.dK kvs)):bV H a (kV k) (aV kvs k):=.inl ⟨kvs,k,.inl e,rfl,rfl⟩
def bV.t {H:Hp}{a b:Addr}{kvs:List (List aF×V)}{k:List aF}(e:H a=some (.dT kvs))(eb:H b=some (.tup (k.map kV))):bV H a (.ref b) (aV kvs k):=.inr ⟨kvs,k,b,.inl e,rfl,eb,rfl⟩
theorem nJ.k {H:Hp}{a:Addr}{kvs:List (aF×V)}{k:aF}{v:V}(e:H a=some (.dK kvs))(hl:kvs.length < sizeLine):nJ H a (kV k) v (upd H a (.dK (bc kvs k v))):=.inl ⟨kvs,k,e,rfl,hl,rfl⟩
def nJ.t {H:Hp}{a b:Addr}{kvs:List (List aF×V)}{k:List aF}{v:V}(e:H a=some (.dT kvs))(eb:H b=some (.tup (k.map kV)))(hl:kvs.length < sizeLine) :
  nJ H a (.ref b) v (upd H a (.dT (bc kvs k v))):=.inr ⟨kvs,k,b,e,rfl,eb,hl,rfl⟩
section
variable {X:Cx}{af:List (Addr×Obj)}{σ:St}{H:Hp}{s:Shared}{a:Addr}{y v:V}{u r:Value}{o:Option V}{A:Around}{E:Value->Shared->Prop}
def Inv.big (I:Inv X af σ H s):sysModules < s.heap.objs.size:=by
 have h:mainGlobals < s.heap.objs.size:=(I.mod.glob.keeps I.bk).lt;exact i_ nofun h
def Bu {Q:Value->Shared->Prop}(hu:A.units+1 < cLine)(I:Inv X af σ H s)(g:bV H a y (some v))(ry:RelV y u)(h:∀w' s',Inv X af σ H s'->RelV v w'->Q w' s') :
  wpAny (model X.prog X.w) A (getItem (.ref a) u) Q E s:=by
 rcases g with ⟨kvs,k,e,ey,l⟩ | ⟨kvs,k,b,e,ey,eb,l⟩
 .subst ey;obtain⟨z,hd,vs,rel,dd⟩:=lY I.bo e;obtain⟨w',hw,x8⟩:=gL.some_of (v:=v) (o:=valueAt vs k) (by rw [l];exact rel.val k);exact wpAny_getItem_of (jU ry) dd.mapOf hw (h w' _ (I.tok _) x8)
 subst ey;cases (show u=Value.ref b from ry);obtain⟨z,hd,xs,rel,dd⟩:=qG I.bo e;obtain⟨w',hw,x8⟩:=gL.some_of (v:=v) (o:=(atKey xs k).map (·.2)) (by rw [l];exact rel.val k);obtain⟨p,hp,yK⟩:=bR.mp hw;refine wpAny_getItem_heap (mz hu) (kn I.bo eb) dd hp ?_;rw [yK];exact h w' _ (I.tok _) x8
def T6 {Q:Value->Shared->Prop}(hu:A.units+1 < cLine)(I:Inv X af σ H s)(g:bV H a y o)(ry:RelV y u)(h:∀s',Inv X af σ H s'->Q (.bool o.isSome) s') :
  wpAny (model X.prog X.w) A (compareOp .In u (.ref a)) Q E s:=by
 rcases g with ⟨kvs,k,e,ey,l⟩ | ⟨kvs,k,b,e,ey,eb,l⟩
 .subst ey;obtain⟨z,hd,vs,rel,dd⟩:=lY I.bo e;refine wpAny_in_of (jU ry) hd dd.mapOf ?_;rw [<-(rel.val k).ie,<-l];exact h _ (I.tok _)
 subst ey;cases (show u=Value.ref b from ry);obtain⟨z,hd,xs,rel,dd⟩:=qG I.bo e;refine wpAny_in_heap (mz hu) (kn I.bo eb) hd dd ?_;have q:=(rel.val k).ie;rw [mH] at q;rw [<-q,<-l];exact h _ (I.tok _)
def GA {Q:Value->Shared->Prop}(hu:A.units+1 < cLine)(I:Inv X af σ H s)(g:bV H a y o)(ry:RelV y u)(h:∀s',Inv X af σ H s'->Q (.bool (!o.isSome)) s') :
  wpAny (model X.prog X.w) A (compareOp .NotIn u (.ref a)) Q E s:=by
 rcases g with ⟨kvs,k,e,ey,l⟩ | ⟨kvs,k,b,e,ey,eb,l⟩
 .subst ey;obtain⟨z,hd,vs,rel,dd⟩:=lY I.bo e;refine wpAny_notIn_of (jU ry) hd dd.mapOf ?_;rw [<-(rel.val k).ie,<-l];exact h _ (I.tok _)
 subst ey;cases (show u=Value.ref b from ry);obtain⟨z,hd,xs,rel,dd⟩:=qG I.bo e;refine wpAny_notIn_heap (mz hu) (kn I.bo eb) hd dd ?_;have q:=(rel.val k).ie;rw [mH] at q;rw [<-q,<-l];exact h _ (I.tok _)
def o7 {h':Heap}{t':Nat}{ob:HO}(I:Inv X af σ H s)(mu:OV (H a))(hs:Heap.SameBut a s.heap h')(he:∃q,h'.get? a=some q)(new:bE X.prog X.w (upd H a ob) h' a ob) :
  Inv X af σ (upd H a ob) { s with heap:=h',toks:=t' } :=
 I.write (x:=a) (e:=a) mu (.inl rfl) (λb q hb z=>(hs.2 b hb).trans z) he new
def qH {P:Program}{w:World}{H':Hp}{h':Heap}{kvs:List (aF×V)}{vs:List (aF×Value)}(z:kvs.length<=sizeLine)(hd:(a == sysModules)=false)(rel:KV kvs vs)(dd:h'.DictOf (aS P w) a vs) :
  bE P w H' h' a (.dK kvs):=⟨z,hd,vs,rel,dd⟩
def Bt {H':Hp}{Q:Unit->Shared->Prop}(hu:A.units+1 < cLine)(I:Inv X af σ H s)(g:nJ H a y v H')(ry:RelV y u)(rv:RelV v r)(h:∀s',Inv X af σ H' s'->Q () s') :
  wpAny (model X.prog X.w) A (setItem (.ref a) u r) Q E s:=by
 rcases g with ⟨kvs,k,e,ey,l,eH⟩ | ⟨kvs,k,b,e,ey,eb,l,eH⟩
 .subst ey eH;obtain⟨z,hd,vs,rel,dd⟩:=wA I.bo e;have hz:vs.length<=sizeLine:=by rw [<-rel.length];exact z
  have hl:(bc kvs k v).length<=sizeLine:=by have:=dU kvs k v;omega
  refine wpAny_setItem_pairs (hsz:=hz) (jU ry) dd λh' E9 hs=>h _ ?_;have he:∃q,h'.get? a=some q:=let ⟨q,_,_,hq,_⟩:=E9;⟨q,hq⟩;exact o7 I (by rw [e];exact True.intro) hs he (qH hl hd (rel.put k rv) E9)
 subst ey eH;cases (show u=Value.ref b from ry);obtain⟨z,hd,xs,rel,dd⟩:=Ow I.bo e;have hz:xs.length<=sizeLine:=by rw [<-bF rel];exact z
 have hl:(bc kvs k v).length<=sizeLine:=by have:=dU kvs k v;omega
 refine wpAny_setItem_heap (hsz:=hz) (mz hu) (kn I.bo eb) dd λh' E9 hs=>h _ ?_;obtain⟨q,es,ep,hq,h2,h3,h4,_,h5⟩:=E9;refine o7 I (by rw [e];exact True.intro) hs ⟨q,hq⟩ ⟨hl,hd,_,(rel.put k eb rv).keeps λc ys ec=>?_,q,es,ep,hq,h2,h3,h4,h5⟩;rw [ai (MT ec e (λz=>nomatch z))];exact ec
end
section
variable {X:Cx}{af:List (Addr×Obj)}{σ:St}{H:Hp}{s:Shared}{a:Addr}{kvs:List (aF×V)}{k:aF}{u:Value}{A:Around}{E:Value->Shared->Prop}
def Oy {Q:Value->Shared->Prop}(I:Inv X af σ H s)(e:Rd H a (.dK kvs))(h:∀t s',Inv X af σ H s'->Q (.int kvs.length t) s'):wpAny (model X.prog X.w) A (call (.builtin "len") [.ref a]) Q E s:=by
 obtain⟨z,hd,vs,rel,dd⟩:=lY I.bo e;refine call_len_dict hd dd (by rw [<-rel.length];rw [gG] at z;omega) ?_;rw [<-rel.length];exact h _ _ (I.tok _)
end
def OU (i:Expr):Prop:=∀ov iv,subscripted i false ov iv=operate [ov,iv] (getItem ov iv)
def zx {prog:Program}{w:World}{A:Around}{E:Value->Shared->Prop}{s:Shared}{env:Env}{value slice:Expr}{pos:Pos}{T id:String}{Q:Value->Shared->Prop}
  (hl:typeLookup (.type T) "__getitem__"=pure (some (.builtin id)))(hs:OU slice)
  (h:wpAny (model prog w) A (eval value env) (λo s₁=>wpAny (model prog w) A (eval slice env) (λi s₂=>s₂.TypeIs o T/\wpAny (model prog w) A (getItem o i) Q E s₂) E s₁) E s) :
  wpAny (model prog w) A (eval (.Subscript value slice pos) env) Q E s:=by
 refine Subscript_ (bY h (λo s₁ h₁=>bY h₁ (λi s₂ h₂=>?_) λ_ _ x=>x) λ_ _ x=>x);obtain⟨hT,h₂⟩:=h₂;unfold subscriptTail;refine ax ?_;rw [getitemInPython_of_ne hT.not_modules];refine ax (wpAny_specialOf hT hl ?_);have fin:wpAny (model prog w) A (subscripted slice false o i) (λr s₃=>wpAny (model prog w) A (letTemporaryGo value o r >>= λ_=>pure r) Q E s₃) E s₂:=by
  rw [hs o i];exact wpAny_operating (bY h₂ (λr s₃ h₃=>ax (wpAny_letTemporaryGo (aK h₃))) λ_ _ x=>x)
 first
  | exact aK (ax fin)
  | exact ax (aK (ax fin))
  | exact ax fin
def wC {X:Cx}{af:List (Addr×Obj)}{σ:St}{H:Hp}{s:Shared}{a:Addr}{y:V}{o:Option V}(I:Inv X af σ H s)(g:bV H a y o):s.TypeIs (.ref a) "dict" := by
 rcases g with ⟨kvs,k,e,_,_⟩ | ⟨kvs,k,b,e,_,_,_⟩
 .obtain⟨_,_,vs,_,dd⟩:=lY I.bo e;exact dd.typeIs
 obtain⟨_,_,xs,_,dd⟩:=qG I.bo e;exact dd.typeIs
inductive WW (x:V)(S:Addr->Hp->Prop)(R:Hp->Prop):Prop
|mk(a:Addr)(H4:Hp)(e:x=.ref a)(s:S a H4)(q:R H4)
inductive WX (S:Option V->Prop)(R:Option V->Prop):Prop
|mk(o:Option V)(s:S o)(q:R o)
inductive WY (x:V)(S:Addr->V->Prop)(R:V->Prop):Prop
|mk(a:Addr)(v:V)(e:x=.ref a)(s:S a v)(q:R v)
inductive UB (x:V)(S:Addr->Option V->Prop)(R:Option V->Prop):Prop
|mk(a:Addr)(o:Option V)(e:x=.ref a)(s:S a o)(q:R o)
def zt (td ty:TE):TE:=λσ H Q=>td σ H λx H1=>ty σ H1 λy H2=>WY x (λa v=>bV H2 a y (some v)) λv=>Q v H2
def Mj (ty td:TE):TE:=λσ H Q=>ty σ H λy H1=>td σ H1 λx H2=>UB x (λa o=>bV H2 a y o) λo=>Q (.bl o.isSome) H2
def zr (ty td:TE):TE:=λσ H Q=>ty σ H λy H1=>td σ H1 λx H2=>UB x (λa o=>bV H2 a y o) λo=>Q (.bl (!o.isSome)) H2
def Mw (td ty tv:TE):TS:=λD σ H=>tv σ H λv H1=>td σ H1 λx H2=>ty σ H2 λy H3=>WW x (λa H4=>nJ H3 a y v H4) λH4=>D.nx σ H4
section
variable {X:Cx}{o i e value:Expr}{pos pos' uq:Pos}{td ty tv:TE}
def dY (hu:X.A.units+1 < cLine)(ho:PE X o td)(hi:PE X i ty)(hs:OU i):PE X (.Subscript o i pos) (zt td ty):=by
 intro af s σ H Q I h;refine zx PySem.F.slot_dict_getitem.lookup hs (b8 (ho af s σ H _ I h) λu s1 aR=>?_);obtain⟨x,H1,I1,rx,q1⟩:=aR;refine b8 (hi af s1 σ H1 _ I1 q1) λiv s2 aR=>?_;obtain⟨y,H2,I2,ry,a,v,ex,g,q2⟩:=aR;subst ex;obtain rfl:u=Value.ref a:=rx;exact⟨wC I2 g,Bu hu I2 g ry λw' s3 I3 x8=>⟨v,H2,I3,x8,q2⟩⟩
def mX (hu:X.A.units+1 < cLine)(hi:PE X i ty)(ho:PE X o td):PC X .In i o (Mj ty td):=by
 intro af s σ H Q I h;refine b8 (hi af s σ H _ I h) λiv s1 aR=>?_;obtain⟨y,H1,I1,ry,q1⟩:=aR;refine b8 (ho af s1 σ H1 _ I1 q1) λu s2 aR=>?_;obtain⟨x,H2,I2,rx,a,ov,ex,g,q2⟩:=aR;subst ex;obtain rfl:u=Value.ref a:=rx;exact T6 hu I2 g ry λs3 I3=>⟨.bl ov.isSome,H2,I3,rfl,q2⟩
def dH (hu:X.A.units+1 < cLine)(hi:PE X i ty)(ho:PE X o td):PC X .NotIn i o (zr ty td):=by
 intro af s σ H Q I h;refine b8 (hi af s σ H _ I h) λiv s1 aR=>?_;obtain⟨y,H1,I1,ry,q1⟩:=aR;refine b8 (ho af s1 σ H1 _ I1 q1) λu s2 aR=>?_;obtain⟨x,H2,I2,rx,a,ov,ex,g,q2⟩:=aR;subst ex;obtain rfl:u=Value.ref a:=rx;exact GA hu I2 g ry λs3 I3=>⟨.bl (!ov.isSome),H2,I3,rfl,q2⟩
def gT (hu:X.A.units+1 < cLine)(ho:PE X o td)(hi:PE X i ty)(hv:PE X value tv)(hs:swapsWith value (some (.Subscript o i pos')) pos.line X.env=pure false) :
  PS X (.Assign [.Subscript o i pos'] value pos) (Mw td ty tv):=by
 intro af s σ H D I h;refine wpAny_Assign_Subscript (b8 (hv af s σ H _ I h) λr s1 aR=>?_) hs;obtain⟨v,H1,I1,rv,q1⟩:=aR;refine b8 (ho af s1 σ H1 _ I1 q1) λu s2 aR=>?_;obtain⟨x,H2,I2,rx,q2⟩:=aR;refine b8 (hi af s2 σ H2 _ I2 q2) λiv s3 aR=>?_;obtain⟨y,H3,I3,ry,a,H4,ex,g,q3⟩:=aR;subst ex;obtain rfl:u=Value.ref a:=rx;exact Bt hu I3 g ry rv λs4 I4=>⟨σ,H4,I4,q3⟩
end
def wB {P:Program}{w:World}{H:Hp}(h:Heap)(hb:sysModules < h.objs.size):bE P w H (h.push { cls:=.type "dict",data:=.dict #[] }) h.objs.size (.dK []) :=
 ⟨gr _,i3.mpr (du (a_ hb)),[],.nil,Heap.DictOf.new h⟩
def Ce:TE:=λ_ H Q=>∀p,H p=none->Q (.ref p) (upd H p (.dK []))
section
variable {X:Cx}{pos:Pos}
def fZ:PE X (.Dict [] [] pos) Ce:=λaf s σ H Q I h =>
 wpAny_Dict_empty ⟨.ref s.heap.objs.size,_,I.laid (a:=s.heap.objs.size) (o:=.dK []) (t':=s.toks) (λ_ _ q=>bj _ q) (aH _) (wB s.heap I.big),rfl,h _ (I.bo.fresh (aH _))⟩
end
def xC:List (TE×TE)->St->Hp->(List (V×V)->Hp->Prop)->Prop
 | [],_,H,Q=>Q [] H
 | (tk,tv)::r,σ,H,Q=>tk σ H λx H1=>tv σ H1 λy H2=>xC r σ H2 λps H3=>Q ((x,y)::ps) H3
abbrev VV:List (V×V)->List (Value×Value)->Prop:=Paired λp q=>RelV p.1 q.1/\RelV p.2 q.2
def Qh (X:Cx)(pos:Pos)(keys:List (Option Expr))(values:List Expr)(Fj:List (TE×TE)):Prop :=
 ∀(af:List (Addr×Obj))(s:Shared)(σ:St)(H:Hp)(Q:List (V×V)->Hp->Prop),Inv X af σ H s->xC Fj σ H Q ->
  wpAny (model X.prog X.w) X.A (evalPairs (pairTrees keys values X.env pos)) (λvs s'=>∃ps H',Inv X af σ H' s'/\VV ps vs/\Q ps H') X.xe s
def FC {X:Cx}{pos:Pos}:Qh X pos [] [] []:=λaf s σ H Q I h=>pairTrees_nil_walk ⟨[],H,I,.nil,h⟩
def CZ {X:Cx}{pos:Pos}{k v:Expr}{ks:List (Option Expr)}{vs:List Expr}{tk tv:TE}{Fj:List (TE×TE)}(hk:PE X k tk)(hv:PE X v tv)(hr:Qh X pos ks vs Fj) :
  Qh X pos (some k::ks) (v::vs) ((tk,tv)::Fj):=λaf s σ H Q I h =>
 pairTrees_cons_walk (b8 (hk af s σ H _ I h) λu s1 ⟨x,H1,I1,rx,q1⟩=>b8 (hv af s1 σ H1 _ I1 q1) λw2 s2 ⟨y,H2,I2,ry,q2⟩ =>
  b8 (hr af s2 σ H2 _ I2 q2) λws s3 ⟨ps,H3,I3,rel,q3⟩=>⟨(x,y)::ps,H3,I3,.cons ⟨rx,ry⟩ rel,q3⟩)
def j_ (kvs more:List (aF×V)):List (aF×V):=more.foldl (λa7 kv=>bc a7 kv.1 kv.2) kvs
def KV.merge:∀{more:List (aF×V)}{rs:List (aF×Value)}{kvs:List (aF×V)}{vs:List (aF×Value)},KV more rs->KV kvs vs->KV (j_ kvs more) (merged vs rs):=by
 intro more rs kvs vs r;unfold KV at r
 induction r generalizing kvs vs with
 | nil=>intro q;exact q
 | @cons p q ps qs h t ih =>
  intro r0;have e:KV (bc kvs p.1 p.2) (stored vs q.1 q.2):=by
   have:=r0.put p.1 h.2;rw [<-h.1];exact this
  exact ih e
theorem jT:∀(more kvs:List (aF×V)),(j_ kvs more).length<=kvs.length+more.length
 | [],kvs=>by show kvs.length<=kvs.length+0;omega
 | p::r,kvs=>by
  have h1:=jT r (bc kvs p.1 p.2);have h2:=dU kvs p.1 p.2;show (j_ (bc kvs p.1 p.2) r).length<=_;rw [dw];omega
theorem qO {P:Program}{w:World}:∀{kvs:List (aF×V)}{ws:List (Value×Value)},VV (kvs.map λkv=>(kV kv.1,kv.2)) ws->∃rs,Carries (aS P w) ws rs/\KV kvs rs
 | [],_,r=>by rw [i8] at r;cases r;exact⟨[],True.intro,.nil⟩
 | p::kvs,_,r=>by
  rw [bw] at r;cases r with
  | @cons a b as bs h t =>
   obtain⟨rs,c,q⟩:=qO (P:=P) (w:=w) t;obtain⟨b1,b2⟩:=b;exact⟨(p.1,b2)::rs,⟨jU h.1,rfl,c⟩,.cons ⟨rfl,h.2⟩ q⟩
def Mh (Fj:List (TE×TE)):TE:=λσ H Q=>∀p,H p=none->xC Fj σ (upd H p (.dK [])) λps H2=>H2 p=some (.dK [])/\∃kvs:List (aF×V),ps=kvs.map (λkv=>(kV kv.1,kv.2))/\kvs.length<=15/\Q (.ref p) (upd H2 p (.dK (j_ [] kvs)))
def FI {X:Cx}{pos:Pos}{keys:List (Option Expr)}{values:List Expr}{Fj:List (TE×TE)}(h:Qh X pos keys values Fj)(oE:keys.all (·.isSome)=true)(hl:keys.length=values.length)(h0:keys≠[])
  (Th:keys.length<=15):PE X (.Dict keys values pos) (Mh Fj):=by
 intro af s σ H Q I q;have hn:=I.bo.fresh (aH s.heap.objs.size);have I1:=I.laid (a:=s.heap.objs.size) (o:=.dK []) (h':=s.heap.push { cls:=.type "dict",data:=.dict #[] }) (t':=s.toks) (λ_ _ q=>bj _ q) (aH _) (wB s.heap I.big);refine wpAny_Dict_walk (knd:=aS X.prog X.w) oE hl h0 Th (b8 (h af _ σ _ _ I1 (q _ hn)) λws s2 aR=>?_);obtain⟨ps,H2,I2,rel,e,kvs,ep,lk,q2⟩:=aR;subst ep;obtain⟨rs,c,rk⟩:=qO (P:=X.prog) (w:=X.w) rel;obtain⟨z,hd,vs0,r0,dd⟩:=wA I2.bo e;cases r0;refine⟨rs,c,dd,λh' E9 hs=>⟨.ref s.heap.objs.size,_,?_,rfl,q2⟩⟩;have hz:(j_ [] kvs).length<=sizeLine:=by
  have h1:=jT kvs [];rw [gO] at h1;rw [gG];omega
 have he:∃q,h'.get? s.heap.objs.size=some q:=let ⟨q,_,_,hq,_⟩:=E9;⟨q,hq⟩;exact o7 I2 (by rw [e];exact True.intro) hs he (qH hz hd (rk.merge .nil) E9)
structure M1 (X:Cx)(o:Expr)(m:Str)(apos:Pos)(e:Expr)(gh:Pos):Prop where
 base:attributeBase o m X.env (eval o X.env)=eval o X.env
 HL:((backTo gh (starEach [e] X.env)).all (λx=>!x.1) && (backToKw gh (keywordEach [] X.env)).all (λx=>x.1.isSome)
  && decide (([e]:List Expr).length+([]:List Keyword).length+(if ([]:List Keyword).isEmpty then 0 else 1) < 30))=true
 line:(apos.endLine == gh.line)=true
 trees:backTo gh (starEach [e] X.env)=[(false,eval e X.env)]
structure M2 (X:Cx)(o:Expr)(m:Str)(apos:Pos)(e f:Expr)(gh:Pos):Prop where
 base:attributeBase o m X.env (eval o X.env)=eval o X.env
 HL:((backTo gh (starEach [e,f] X.env)).all (λx=>!x.1) && (backToKw gh (keywordEach [] X.env)).all (λx=>x.1.isSome)
  && decide (([e,f]:List Expr).length+([]:List Keyword).length+(if ([]:List Keyword).isEmpty then 0 else 1) < 30))=true
 line:(apos.endLine == gh.line)=true
 trees:backTo gh (starEach [e,f] X.env)=[(false,eval e X.env),(false,eval f X.env)]
def Qi (H:Hp)(a:Addr):Prop:=(∃kvs,Rd H a (.dK kvs))\/∃kvs,Rd H a (.dT kvs)
def yI {X:Cx}{af:List (Addr×Obj)}{σ:St}{H:Hp}{s:Shared}{a:Addr}(I:Inv X af σ H s)(d:Qi H a) :
  s.TypeIs (.ref a) "dict" /\ (∀b,Value.ref a=.ref b->∃ob,s.heap.get? b=some ob/\ob.dict=none)/\(a == sysModules)=false:=by
 rcases d with ⟨kvs,e⟩ | ⟨kvs,e⟩
 .obtain⟨_,hd,vs,_,dd⟩:=lY I.bo e;refine⟨dd.typeIs,λb q=>?_,hd⟩;cases q;obtain⟨ob,_,_,h1,h2,_⟩:=dd;exact⟨ob,h1,h2.2.1⟩
 obtain⟨_,hd,xs,_,dd⟩:=qG I.bo e;refine⟨dd.typeIs,λb q=>?_,hd⟩;cases q;obtain⟨ob,_,_,h1,h2,_⟩:=dd;exact⟨ob,h1,h2.2.1⟩
section
variable {X:Cx}{af:List (Addr×Obj)}{σ:St}{H:Hp}{s:Shared}{a:Addr}{y d:V}{u r:Value}{o:Option V}{A:Around}{E:Value->Shared->Prop}
def Ky {Q:Value->Shared->Prop}(hu:A.units+1 < cLine)(I:Inv X af σ H s)(g:bV H a y o)(ry:RelV y u)(rd:RelV d r)(h:∀w' s',Inv X af σ H s'->RelV (o.getD d) w'->Q w' s') :
  wpAny (model X.prog X.w) A (call (.builtin "dict.get") [.ref a,u,r]) Q E s:=by
 rcases g with ⟨kvs,k,e,ey,l⟩ | ⟨kvs,k,b,e,ey,eb,l⟩
 .subst ey;obtain⟨z,hd,vs,rel,dd⟩:=lY I.bo e;refine call_meetsIn PySem.F.slot_dict_get dd.typeIs PySem.F.entry_dict_get (PySem.F.args_dict_get_3 _ _ _) (meets_dict_get_default (aS X.prog X.w) a (jU ry) hd r) ⟨_,dd.mapOf,h _ _ (I.tok _) ?_⟩;rw [l];exact(rel.val k).getD rd
 subst ey;cases (show u=Value.ref b from ry);obtain⟨z,hd,xs,rel,dd⟩:=qG I.bo e;refine call_meetsIn PySem.F.slot_dict_get dd.typeIs PySem.F.entry_dict_get (PySem.F.args_dict_get_3 _ _ _) (meetsH_dict_get_default (tupleKind (aS X.prog X.w)) a b hd r) ⟨mz hu,k,xs,kn I.bo eb,dd,h _ _ (I.tok _) ?_⟩;rw [l];exact(rel.val k).getD rd
end
def IG (td ty tx:TE):TE:=λσ H Q=>td σ H λx H1=>Qd x (Qi H1) λa=>ty σ H1 λy H2=>tx σ H2 λz H3=>WX (bV H3 a y) λo=>Q (o.getD z) H3
section
variable {X:Cx}{o e f:Expr}{apos gh:Pos}{td ty tx:TE}
def C6 (hu:X.A.units+1 < cLine)(ho:PE X o td)(he:PE X e ty)(hf:PE X f tx)(m:M2 X o "get" apos e f gh):PE X (.Call (.Attribute o "get" apos) [e,f] [] gh) (IG td ty tx):=by
 intro af s σ H Q I h;refine wpAny_Call_method m.base m.HL m.line xt PySem.F.slot_dict_get PySem.F.type_dict_get (b8 (ho af s σ H _ I h) λu s1 aR=>?_);obtain⟨x,H1,I1,rx,a,ex,d,q1⟩:=aR;subst ex;obtain rfl:u=Value.ref a:=rx;obtain⟨t1,t2,_⟩:=yI I1 d;refine⟨t1,t2,?_⟩;rw [m.trees];refine t_ rfl (tS (mx (b8 (he af s1 σ H1 _ I1 q1) λiv s2 ⟨y,H2,I2,ry,q2⟩ =>
  mx (b8 (hf af s2 σ H2 _ I2 q2) λfv s3 ⟨z,H3,I3,rz,ov,g,q3⟩=>Calls.spliced_nil ?_))))
 exact Ky hu I3 g ry rz λw' s4 I4 x8=>⟨_,H3,I4,x8,q3⟩
end
section
variable {X:Cx}{af:List (Addr×Obj)}{σ:St}{H:Hp}{s:Shared}{a:Addr}{kvs:List (aF×V)}{A:Around}{E:Value->Shared->Prop}
end
section
variable {X:Cx}{af:List (Addr×Obj)}{σ:St}{H:Hp}{s:Shared}{a:Addr}{y:V}{u:Value}{A:Around}{E:Value->Shared->Prop}
end
open PySem
def uR:typeLookup (.type "list") "keys"=pure none:=by rw [typeLookup_type,builtinLookup_eq_fast];kernel_rfl
def uS:typeLookup (.type "list") "__getattr__"=pure none:=by rw [typeLookup_type,builtinLookup_eq_fast];kernel_rfl
section
variable {prog:Program}{w:World}{A:Around}{E:Value->Shared->Prop}{h:Heap}{g:Array GenState}{d:Drawn}{t:Nat}{os:OsState}{a:Addr}{o:Obj}
def Cm:isSubtype (.type "AttributeError") (.type "AttributeError")=pure true:=by rw [isSubtype_type];kernel_rfl
def Jg {m:Str}{tk:Tok}:ownMembersOf (.type "AttributeError") [.str m tk]=#[unsetMember,unsetMember]:=by kernel_rfl
def Eb {m:Str}{tk:Tok}:firstArgMember (.type "AttributeError") [.str m tk]=pure .none:=by kernel_rfl
def x9 {α:Type}{self:Value}{name msg:Str}{Q:α->Shared->Prop}(hm:msg.length<=sizeLine)(hh:A.handled=none)
  (hq:∀h' t' e oe,(∀b o,h.get? b=some o->h'.get? b=some o)->h'.get? e=some oe->oe.cls=.type "AttributeError" -> E (.ref e) ⟨h',g,d,t',os⟩) :
  wpAny (model prog w) A (raiseAttrError self name msg) Q E ⟨h,g,d,t,os⟩:=by
 have f1:=Cm;unfold raiseAttrError newExc;refine ax (wpAny_mkStr ?_ hm);have fe:=Eb (m:=msg) (tk:=t);rw [Jg]
 repeat (any_goals (first | assumption | wp_step))
 unfold raiseNew;refine ax (wpAny_handled ?_);rw [hh];refine ax (aK ?_);refine wpAny_throw ?_;refine hq _ _ _ _ (λb o q=>?_) (kS _ (cJ _ rfl) rfl) rfl;have lt:=aP q;rw [fV _ _ (by rw [j4];exact iY (tQ lt))];exact bj _ (bj _ q)
def yG {tk:Tok}{aL:Array Value}{n:Nat}{Q:Fin->Shared->Prop}(hx:h.get? a=some { cls:=.type "list",data:=.seq aL n })(hh:A.handled=none)
  (hq:∀h' t' e oe,(∀b o,h.get? b=some o->h'.get? b=some o)->h'.get? e=some oe->oe.cls=.type "AttributeError" -> E (.ref e) ⟨h',g,d,t',os⟩) :
  wpAny (model prog w) A (Builtin.«object.__getattribute__» ⟨[.ref a,.str "keys" tk],[]⟩) Q E ⟨h,g,d,t,os⟩:=by
 have hT:(⟨h,g,d,t,os⟩:Shared).TypeIs (.ref a) "list" := ⟨_,hx,rfl⟩;have f4:=uR
 repeat (any_goals (first | assumption | wp_step))
 exact x9 nofun hh hq
def m_ {aL:Array Value}{n:Nat}{Q:Option Value->Shared->Prop}(hx:h.get? a=some { cls:=.type "list",data:=.seq aL n })(hh:A.handled=none)
  (hq:∀h' t',(∀b o,h.get? b=some o->h'.get? b=some o)->Q none ⟨h',g,d,t',os⟩):wpAny (model prog w) A (getAttr? (.ref a) "keys") Q E ⟨h,g,d,t,os⟩:=by
 have hT:∀t',(⟨h,g,d,t',os⟩:Shared).TypeIs (.ref a) "list" := λt'=>⟨_,hx,rfl⟩;have f1:=Cm;have f2:=uf.lookup;have f3:=uf.bind (.ref a);have f4:=uS;unfold getAttr? getAttrBy? getAttrBy;refine ax (wpAny_mkText (ax (mh (fR (ax (jZ (hT _) ?_))))));rw [f2];refine ax (aK ?_);show wpAny _ _ (getAttrByItsOwn _ _ _ _ _ _) _ _ _;unfold getAttrByItsOwn;refine ax (aK (a:=none) (ax (mh (fR ?_))));show wpAny _ _ (boundAndCalled _ _ _) _ _ _;unfold boundAndCalled;rw [f3];refine ax (aK (gN (ph uf.plain F.entry_list_ga (uf.check _ _ _ _ _ _ _ _ (hT _) (F.args_list_getattribute_2 _ _) (yG hx hh λh' t' e oe k ee ec=>?_)))));have te:(⟨h',g,d,t',os⟩:Shared).TypeIs (.ref e) "AttributeError" := ⟨oe,ee,ec⟩;show wpAny _ _ (getattributeRaised _ _ _ _ _ _ _) _ _ _;unfold getattributeRaised;refine ax (wpAny_isInstance te f1 ?_);rw [aw rfl];show wpAny _ _ (typeLookup _ _ >>= _) _ _ _;rw [f4];refine ax (aK ?_);show wpAny _ _ (throw _) _ _ _;refine wpAny_throw ?_;refine ax (wpAny_isInstance te f1 ?_);rw [aw rfl];exact aK (hq h' t' k)
end
def dX:plainId "dict.update.loop"=true:=by decide +kernel
def jC:entryFor table "dict.update.loop"=some Builtin.«dict.update.loop»:=entryFor_of_tree (nofun)
section
variable {prog:Program}{w:World}{K:Type} [DecidableEq K] {knd:KeyKind prog w K}{A:Around}{E:Value->Shared->Prop}
def kx (knd:KeyKind prog w K)(h:Heap)(u:Value)(kv:K×Value):Prop :=
 ∃t key n o,u=.ref t/\knd.is kv.1 key=true/\h.get? t=some o/\o.cls=.type "tuple" /\ o.data=.seq #[key,kv.2] n
def kx.keep {h h':Heap}{u:Value}{kv:K×Value}(p:kx knd h u kv)(k:∀b o,o.cls=.type "tuple" -> h.get? b=some o->h'.get? b=some o):kx knd h' u kv :=
 let ⟨t,key,n,o,a,b,c,d,e⟩:=p;⟨t,key,n,o,a,b,k t o d c,d,e⟩
def En {R:Result->Shared->Prop}{d it l:Addr}{items:Array Value}(hh:A.handled=none):∀(more:List (K×Value)) (i:Nat)(s:Shared)(kvs:List (K×Value)) (j:Int)(tk:Tok),items.size=i+more.length ->
  s.heap.DictOf knd d kvs->s.heap.IsListIter it l i->s.heap.IsList l items->(∀m kv,more[m]?=some kv->∃u,items[i+m]?=some u/\kx knd s.heap u kv)->kvs.length+more.length<=sizeLine ->
  (∀h' t',h'.DictOf knd d (more.foldl (λa p=>stored a p.1 p.2) kvs)->(∀b o,b≠d->b≠it->s.heap.get? b=some o->h'.get? b=some o)->R (.ok (.ret .none)) { s with heap:=h',toks:=t' }) ->
  codeAny (model prog w) A (.builtin "dict.update.loop" ⟨[.ref d,.ref it,.int j tk,.none],[]⟩) R s:=by
 intro more
 induction more with
 | nil =>
  intro i s kvs j tk hi hd hit hl hp hz hR;refine nO jC ?_;rw [nR dX _];unfold Builtin.«dict.update.loop»;have hs:items[i]?=none:=Array.getElem?_eq_none (by rw [hi];exact aH _);refine ax (tZ hh hit hl hs λh1 eb=>?_);have nd:d≠it:=λz=>by
   obtain⟨o,_,_,q,_,c,_⟩:=hd;obtain⟨o',q',_,c'⟩:=hit;rw [z,q'] at q;cases q;rw [c'] at c;cases c
  show wpAny _ _ (Builtin.Dict.addKeywords d [] >>= _) _ _ _;exact ax (aK (aK (hR h1 s.toks (hd.extBut eb nd) λb o n1 n2 q=>eb b o n2 q)))
 | cons kv more ih =>
  intro i s kvs j tk hi hd hit hl hp hz hR;refine nO jC ?_;rw [nR dX _];unfold Builtin.«dict.update.loop»;obtain⟨u,hu,t,key,n,o,rfl,hk,ho,hc,Aa⟩:=hp 0 kv rfl;refine ax (wpAny_pyNext_list_item hit hl hu λh1 R0 sb=>?_);have nd:d≠it:=λz=>by
   obtain⟨o,_,_,q,_,c,_⟩:=hd;obtain⟨o',q',_,c'⟩:=hit;rw [z,q'] at q;cases q;rw [c'] at c;cases c
  have n2:∀b o,(o.cls=.type "tuple" \/ o.cls=.type "list")->s.heap.get? b=some o->b≠d/\b≠it:=by
   intro b o c q;constructor
   .intro z;obtain⟨o',q',c'⟩:=hd.typeIs;rw [z,q'] at q;cases q;rw [c'] at c;rcases c with c | c <;> exact absurd c nofun
   intro z;obtain⟨o',q',c',_⟩:=hit;rw [z,q'] at q;cases q;rw [c'] at c;rcases c with c | c <;> exact absurd c nofun
  have nt:∀b o,o.cls=.type "tuple" -> s.heap.get? b=some o->b≠d/\b≠it:=λb o c q=>n2 b o (.inl c) q;have nl:l≠d/\l≠it:=by
   obtain⟨o,q,c,_⟩:=hl;exact n2 l o (.inr c) q
  have ND:h1.get? t=some o:=(sb.2 t (nt t o hc ho).2).trans ho;have NV:h1.DictOf knd d kvs:=hd.sameBut sb nd;refine ax (fR (ax (kK ?_)));unfold Builtin.Dict.pairItems;refine ax (jZ (T := "tuple") ⟨o,ND,hc⟩ ?_);rw [aw nofun];refine ax (jb ND Aa (aK ?_));show wpAny _ _ (holding [key,kv.2] (dictSet d key kv.2)) _ _ _;rw [dw] at hz hi;refine fR (wpAny_dictSet_pairs (s:={ s with heap:=h1 }) hk NV (λh2 hd2 Mv=>?_) ∅);have kk:∀b o,b≠d->b≠it->s.heap.get? b=some o->h2.get? b=some o:=λb o n1 n2 q=>(Mv.2 b n1).trans ((sb.2 b n2).trans q);have ln:(stored kvs kv.1 kv.2).length<=kvs.length+1:=by
   unfold stored
   split
   .simp
   simp
  refine aK ⟨jN dX _,ih (i+1) _ _ _ _ ∅ hd2 (R0.at λo q=>(Mv.2 it (du nd)).trans q) (hl.at λo q=>kk l o nl.1 nl.2 q) (λm RV e=>?_) ∅ λh3 t3 gi k3=>?_⟩
  .obtain⟨u',e1,e2⟩:=hp (m+1) RV e;exact⟨u',by rw [<-e1];congr 1;omega,e2.keep λb o c q=>kk b o (nt b o c q).1 (nt b o c q).2 q⟩
  exact hR h3 t3 gi λb o n1 n2 q=>k3 b o n1 n2 (kk b o n1 n2 q)
def xD:(Value.type "list" != Value.type "dict")=true:=by decide
def qP {s:Shared}{l:Addr}{items:Array Value}{n:Nat}{more:List (K×Value)}{Q:Value->Shared->Prop}(knd:KeyKind prog w K)(hh:A.handled=none)(hx:s.heap.get? l=some { cls:=.type "list",data:=.seq items n })
  (hi:items.size=more.length)(hp:∀(m:Nat) kv,more[m]?=some kv->∃u,items[m]?=some u/\kx knd s.heap u kv)(hz:more.length<=sizeLine)
  (h:∀h' t',h'.DictOf knd s.heap.objs.size (more.foldl (λa p=>stored a p.1 p.2) [])->(∀b o,s.heap.get? b=some o->h'.get? b=some o)->Q (.ref s.heap.objs.size) { s with heap:=h',toks:=t' }) :
  wpAny (model prog w) A (call (.type "dict") [.ref l]) Q E s:=by
 refine callType_codes (Q₁:=λobj s₁=>obj=.ref s.heap.objs.size/\s₁={ s with heap:=s.heap.push { cls:=.type "dict",data:=.dict #[] } }) F.kt_called_dict (F.kt_typeCall_dict_1 _) F.entry_dict_init (kt_code_dict_new _ ⟨rfl,rfl⟩) ?_;rintro obj s₁ ⟨rfl,rfl⟩;have yx:(s.heap.push { cls:=.type "dict",data:=.dict #[] }).DictOf knd s.heap.objs.size []:=Heap.DictOf.new s.heap;have l0:=bj { cls:=.type "dict",data:=.dict #[] } hx;refine⟨yx.typeIs,F.args_dict_init_2 _ _,?_⟩;unfold Builtin.«dict.__init__» Builtin.Dict.selfAndRest;refine ax (ax (wpAny_notOrdered_dict yx.typeIs (aK ?_)));show wpAny _ _ (Builtin.Dict.updateFrom "dict.__init__" s.heap.objs.size (.ref l) [] .none) _ _ _;unfold Builtin.Dict.updateFrom;refine ax (jZ (T := "list") ⟨_,l0,rfl⟩ ?_);rw [aw xD];refine ax (m_ l0 hh λh1 t1 k1=>?_);refine ax (wpAny_rule ?_);have l1:=k1 _ _ l0;refine ax (pb ⟨_,l1,rfl,_,rfl⟩ ?_);have k2:∀b o,s.heap.get? b=some o->(h1.push { cls:=.type "list_iterator",data:=.fields #[.ref l,.int 0 0] }).get? b=some o:=λb o q=>bj _ (k1 _ _ (bj _ q));refine aK ⟨jN dX _,En (knd:=knd) (A:=A.in1) (l:=l) (items:=items) (show A.in1.handled=none from hh) more 0 _ [] _ _ (by rw [hi,j3]) ?_ ⟨_,cJ _ rfl,rfl,rfl⟩ ⟨_,k2 _ _ hx,rfl,n,rfl⟩ (λm kv e=>?_) (by simpa using hz) λh' t' hd k3=>?_⟩
 .obtain⟨o,es,ep,q,r⟩:=yx;exact⟨o,es,ep,bj _ (k1 _ _ q),r⟩
 .obtain⟨u,e1,e2⟩:=hp m kv e;exact⟨u,by rw [j3];exact e1,e2.keep λb o _ q=>k2 b o q⟩
 refine⟨rfl,h h' t' hd λb o q=>k3 b o (a_ (aP q)) ?_ (k2 b o q)⟩;have:=aP (k1 _ _ (bj { cls:=.type "dict",data:=.dict #[] } q));exact a_ this
end
def BO (X:Cx)(ifs:List Expr)(t:TT):Prop :=
 ∀(af:List (Addr×Obj))(s:Shared)(σ:St)(H:Hp)(Q:Bool->Hp->Prop),Inv X af σ H s->t σ H Q ->
  wpAny (model X.prog X.w) X.A (forIn ifs true λc r=>if r=true then do let ok <-isTrue c X.env (eval c X.env);pure (ForInStep.yield ok) else pure (ForInStep.yield r)) (TP X af σ Q) X.xe s
def gQ:TT:=λ_ H Q=>Q true H
def b9 {X:Cx}:BO X [] gQ:=λ_ _ _ H _ I h=>wpAny_tests_nil ⟨H,I,h⟩
def fO {X:Cx}{c:Expr}{t:TT}(h:PT X c t):BO X [c] t:=λaf s σ H Q I hw=>wpAny_tests_one (h af s σ H Q I hw)
def oo {prog:Program}{w:World}{A:Around}{R:Result->Shared->Prop}{s:Shared}{elt target iter:Expr}{ifs:List Expr}{scope:Scope}{pos:Pos}{it a7:Value}{env:Env}(I:Nat->Shared->Prop)
  (turn:∀n s,I n s->wpAny (model prog w) A (pyNext it) (λr s₁=>match r with
   | none=>R (.ok .next) s₁
   | some v=>wpAny (model prog w) A (letOwnedTupleGo target it v) (λ_ s₁=>wpAny (model prog w) A (assign target env v) (λ_ s₂ =>
     wpAny (model prog w) A (forIn ifs true λc r=>if r=true then do let ok <-isTrue c env (eval c env);pure (ForInStep.yield ok) else pure (ForInStep.yield r)) (λok s₃ =>
      if ok=true then wpAny (model prog w) A (eval elt env) (λx s₄ =>
       wpAny (model prog w) A (call (.builtin "list.append") [a7,x]) (λ_ s₅=>∃m,m < n/\I m s₅) (λ_ _=>False) s₄) (λ_ _=>False) s₃
      else ∃m,m < n/\I m s₃) (λ_ _=>False) s₂) (λ_ _=>False) s₁) (λ_ _=>False) s₁) (λ_ _=>False) s)
  (n:Nat)(h:I n s) :
  codeAny (model prog w) A (.compLoop (.ListComp elt [⟨target,iter,ifs,0⟩] scope pos) 0 it a7 env) R s:=by
 refine codeAny_loop rfl I (λn s hI=>?_) n h;show wpAny _ A ((compTurn (.ListComp elt [⟨target,iter,ifs,0⟩] scope pos) 0 it a7 env).onRaise (λx=>do noteFrame x env;theTreesLotGoes x)) _ _ s;refine wpAny_noted ?_;rw [compTurn_list];refine ax (wpAny_standAt (ax (bY (turn n s hI) (λr s₁ h₁=>?_) λ_ _ h'=>h'.elim)));cases r with
 | none=>exact aK h₁
 | some v =>
  refine ax (bY h₁ (λ_ s₂ h₂=>?_) λ_ _ h'=>h'.elim);refine ax (bY h₂ (λ_ s₂ h₂=>ax (bY h₂ (λok s₃ h₃=>?_) λ_ _ h'=>h'.elim)) λ_ _ h'=>h'.elim);cases ok with
  | false=>exact aK ⟨rfl,h₃⟩
  | true =>
   exact ax (ax (bY h₃ (λx s₄ h₄=>ax (bY h₄ (λ_ s₅ h₅=>aK (aK ⟨rfl,h₅⟩)) λ_ _ h'=>h'.elim)) λ_ _ h'=>h'.elim))
inductive wY (K:aT)(H:Hp):V->String->Prop where
 | bl (x:Bool):wY K H (.bl x) "bool"
 | int (i:Int):wY K H (.int i) "int"
 | str (x:Str):wY K H (.str x) "str"
 | tup {a:Addr}{xs:List V}(e:aX K H a xs):wY K H (.ref a) "tuple"
inductive XIs (K:aT)(H:Hp)(xs:List V)(R:Bool->Prop):Prop
|mk(x:V)(T n:String)(b:Bool)(e:xs=[x,.ty n])(c:wY K H x T)(k:PySem.W.kitOne K (.type T) (.type n)=some b)(q:R b)
def AL {X:Cx}{a:Expr}{ta:TE}(K:aT)(ha:PE X a ta)(he:∀whole,isTrue a X.env whole=(do let v <-whole;standAt a.pos;holding [v] (truthy v)))(hK:X.K=K:=by rfl) :
  PT X a (λσ H Q=>ta σ H λx H'=>∃k,EH K x H' k/\Q k H'):=by
 subst hK;exact hW ha he
def h_ {X:Cx}(hu:X.A.units < cLine):ky X (compareOp .Eq) (λx y H Q=>∃a b xs,x=.ref a/\y=.ref b/\aD X.K H a xs/\aD X.K H b []/\Q (.bl (xs.isEmpty)) H):=by
 intro af s σ H x y v u Q I rx ry h;obtain⟨a,b,xs,rfl,rfl,ha,hb,q⟩:=h;cases rx;cases ry;obtain⟨aL,r,pl,hz⟩:=I.list ha;obtain⟨gB,r2,AN,R8⟩:=I.list hb;have e2:gB=[]:=aO.zero r2;subst e2;have aZ:=r.length;cases xs with
 | nil =>
  have e:aL=[]:=aO.zero r;subst e;refine SeqAt.eq_listAt (e:=λ_=>true) pl.isList AN.isList rfl hu (λj h1 _=>absurd h1 (by simp)) ⟨.bl true,H,I,rfl,q⟩
 | cons y ys =>
  refine SeqAt.eq_list_lengthsAt pl.isList AN.isList ?_ hu ⟨.bl false,H,I,rfl,q⟩;rw [bI,bI,<-aZ];simp
structure G3 (env:Env)(scope:Scope)(cl:List (Str×Addr)):Prop where
 eq:closureFor scope env=pure cl
 sub:∀y c,cl.lookup y=some c->env.cells.lookup y=some c
 all:∀y,(y,NameKind.free)∈scope.names->∃c,cl.lookup y=some c
def iE {y n:Str}{c:Addr}{l:List (Str×Addr)}:((n,c)::l).lookup y=if y=n then some c else l.lookup y:=by
 by_cases h:y=n
 .rw [aw h];simp [List.lookup,h]
 rw [ay h];simp [List.lookup,i3.mpr h]
def u6 {env:Env}{scope:Scope}(h:∀y,(y,NameKind.free)∈scope.names->∃c,env.cells.lookup y=some c):∃cl,G3 env scope cl:=by
 have go:∀(names:List (Str×NameKind))(a7:List (Str×Addr)),(∀y,(y,NameKind.free)∈names->∃c,env.cells.lookup y=some c)->(∀y c,a7.lookup y=some c->env.cells.lookup y=some c) ->
   ∃cl,(forIn names a7 λ(x:Str×NameKind)(cs:List (Str×Addr))=>(if x.2 == .free then do let c <-cellOf env x.1;pure (ForInStep.yield ((x.1,c)::cs)) else pure (ForInStep.yield cs):Sem (ForInStep (List (Str×Addr)))))=pure cl /\
    (∀y c,cl.lookup y=some c->env.cells.lookup y=some c)/\(∀y,(y,NameKind.free)∈names->∃c,cl.lookup y=some c)/\∀y c,a7.lookup y=some c->∃c',cl.lookup y=some c':=by
  intro names
  induction names with
  | nil=>intro a7 _ hs;exact⟨a7,rfl,hs,λy hy=>absurd hy (by simp),λy c e=>⟨c,e⟩⟩
  | cons x r ih =>
   intro a7 hf hs;obtain⟨n,k⟩:=x;rw [List.forIn_cons];by_cases hk:k=.free
   .subst hk;obtain⟨c0,e0⟩:=hf n bZ;obtain⟨cl,e1,e2,e3,e4⟩:=ih ((n,c0)::a7) (λy hy=>hf y (bJ _ hy)) (λy c e=>by
     rw [iE] at e;by_cases z:y=n
     .rw [aw z] at e;cases e;rw [z];exact e0
     rw [ay z] at e;exact hs y c e)
    refine⟨cl,?_,e2,λy hy=>?_,λy c e=>?_⟩
    .rw [<-e1];have:cellOf env n=pure c0:=by unfold cellOf;rw [e0]
     simp only [this];rfl
    .rcases bC.mp hy with z | z
     .cases z;exact e4 n c0 (by rw [iE,aw rfl])
     exact e3 y z
    by_cases z:y=n
    .exact e4 y c0 (by rw [iE,aw z])
    exact e4 y c (by rw [iE,ay z];exact e)
   obtain⟨cl,e1,e2,e3,e4⟩:=ih a7 (λy hy=>hf y (bJ _ hy)) hs;refine⟨cl,?_,e2,λy hy=>?_,e4⟩
   .rw [<-e1];have:(k == NameKind.free)=false:=by simpa using hk
    simp only [this];rfl
   rcases bC.mp hy with z | z
   .cases z;exact absurd rfl hk
   exact e3 y z
 obtain⟨cl,e1,e2,e3,_⟩:=go scope.names [] h (λy c e=>by simp at e);refine⟨cl,?_,e2,e3⟩;unfold closureFor;exact Eq.trans (congrArg (λt:Sem (List (Str×Addr))=>t >>= λcs=>pure cs) e1) rfl
def uH {scope:Scope}{env:Env}{y:Str}(hk:env.scope.kind=.function)(hy:scope.names.lookup y=some .free)(he:env.kindOf y=some .cell):(relabel scope env).names.lookup y=some .cell:=by
 have go:∀l:List (Str×NameKind),l.lookup y=some .free->(l.map λ(x:Str×NameKind)=>if (x.2 == NameKind.free && env.scope.kind == .function && env.kindOf x.1 == some .cell) then (x.1,NameKind.cell) else (x.1,x.2)).lookup y=some .cell:=by
  intro l
  induction l with
  | nil=>intro z;cases z
  | cons x r ih =>
   obtain⟨n,k⟩:=x;intro hy;rw [bw];by_cases z:y=n
   .subst z;simp [List.lookup] at hy;subst hy;simp [List.lookup,hk,he]
   have zb:(y == n)=false:=i3.mpr z;simp only [List.lookup,zb] at hy;have:=ih hy;dsimp only
   split <;> simp only [List.lookup,zb] <;> exact this
 exact go _ hy
theorem uQ {α:Type}{y:Str}{v:α}:∀{l:List (Str×α)},l.lookup y=some v->(y,v)∈l
 | [],h=>by cases h
 | (n,u)::r,h=>by
  by_cases z:y=n
  .subst z;simp [List.lookup] at h;subst h;exact bZ
  have zb:(y == n)=false:=i3.mpr z;simp only [List.lookup,zb] at h;exact bJ _ (uQ h)
def lh {scope:Scope}{env:Env}{y:Str}{k:NameKind}(h:(relabel scope env).names.lookup y=some k)(hk:k=.cell\/k=.free)(hc:∀z∈scope.names,z.2≠.cell):(y,NameKind.free)∈scope.names:=by
 have m:=uQ h;unfold relabel at m;obtain⟨⟨n,k'⟩,m1,m2⟩:=b_.mp m;dsimp only at m2
 split at m2
 .rename_i q
  cases m2;simp at q;obtain⟨⟨q,_⟩,_⟩:=q;subst q;exact m1
 cases m2;rcases hk with hk | hk
 .exact absurd hk (hc _ m1)
 rw [<-hk];exact m1
def qI (X:Cx)(scope:Scope)(cl:List (Str×Addr))(C:Addr)(s1:Shared)(H1:Hp) (N:List Str)(fp:List Addr):Cx :=
 { X with N:=N,s₀:=s1,H₀:=H1,env:=compEnvC scope cl C X.env,outer:=X.stack,stack:=X.stack,ex:=fp,fn:=λ_=>false,pn:=[],xe:=λ_ _=>False }
structure G4 (X:Cx)(scope:Scope)(js:List (Nat×Str)):Prop where
 at_:∀p∈js,X.N[p.1]?=some p.2/\X.env.scope.names.lookup p.2=some .cell/\scope.names.lookup p.2=some .free
 all:∀y,(y,NameKind.free)∈scope.names->X.env.scope.names.lookup y=some .cell
def cZ (ts:List Str)(js:List (Nat×Str))(σ:St):St:=ts.map (λ_=>none)++js.map λp=>(σ[p.1]?).join
def sJ {X:Cx}{af:List (Addr×Obj)}{σ:St}{H:Hp}{s1 s4:Shared}{scope:Scope}{ts:List Str}{js:List (Nat×Str)}{cl:List (Str×Addr)}{fp:List Addr}{C:Addr}{m:Str->Option Value}
  (I:Inv X af σ H s1)(hf:∀b∈fp,vh X af H b)(DS:∀b∈fp,b < s1.heap.objs.size)(ig:scope.kind=.function)(ij:∀y∈scope.names,y.2≠.cell)(cp:G4 X scope js)(kF:G3 X.env scope cl)
  (hC:s1.heap.objs.size < C)(ho:s4.os=s1.os)(hg:s4.gens=s1.gens)(old:∀b o,s1.heap.get? b=some o->s4.heap.get? b=some o)(hn:s4.heap.Ns C m)
  (hD:s4.heap.get? s1.heap.objs.size=some { cls:=.type "list",data:=.seq ([]:List Value).toArray 0 }) :
  Inv (qI X scope cl C s1 H (ts++js.map (·.2)) fp) [] (cZ ts js σ) (upd H s1.heap.objs.size (.lst [])) s4:=by
 have xk:X.env.scope.kind=.function:=I.ok.kind;have has:∀y,((relabel scope X.env).names.lookup y=some .cell\/(relabel scope X.env).names.lookup y=some .free)->∃c,cl.lookup y=some c:=λy hy=>kF.all y (by
  rcases hy with hy | hy
  .exact lh hy (.inl rfl) ij
  exact lh hy (.inr rfl) ij)
 have lt:∀y c,cl.lookup y=some c->c < s1.heap.objs.size:=λy c e=>by
  obtain⟨v,o,ho,_⟩:=I.cell y c (kF.sub y c e);exact aP ho
 refine⟨⟨I.ok.mod,ig,I.ok.glob,I.ok.blt,i9 hC,λy z c h1 h2=>I.ok.inj y z c (kF.sub _ _ h1) (kF.sub _ _ h2),has,λy c h _=>absurd (show false=true from h) cT,I.ok.hd,I.ok.frames,.inl rfl,
   λb hb=>⟨a_ (i_ (DS b hb) hC),λy c h=>(hf b hb).2.2.2.2.1 y c (kF.sub _ _ h)⟩,I.bs,cz I.ok.Eu I.sz,λb o e hb=>?_,λb hb=>?_,I.stack,I.oP⟩,
  ho,?_,Un.laid old (aH _) I.fresh,⟨m,hn,λi y v e1 e2 _=>?_⟩,λy c h=>?_,?_,λy c h=>?_,λp hp=>absurd (show p∈([]:List (Addr×Obj)) from hp) (by simp),I.bo.laid old (aH _) ?_,?_⟩
 .obtain⟨_,_,_,h4,_⟩:=hf b hb;rcases h4 with h4 | h4
  .exact I.ok.AZ b o e h4
  exact absurd (dA (aP (I.ok.bs b o e).1) h4) (hJ _)
 .intro uZ;obtain⟨_,h2,h3,_⟩:=hf b hb;rcases bC.mp (I.uu b uZ) with z | z
  .exact h2 z
  exact h3 z
 .rw [hg];exact I.bare
 .have Gy:(ts++js.map (·.2))[i]?=some y:=e1;have Br:(ts.map (λ_=>(none:Option V))++js.map λp=>(σ[p.1]?).join)[i]?=some (some v):=e2;by_cases hi:i < ts.length
  .rw [nW (by simpa using hi)] at Br;simp [hi] at Br
  rw [pz ∅] at Gy;rw [pz (by simpa using Nat.le_of_not_lt hi)] at Br;rw [az] at Br;rw [bh] at Gy Br;cases hj:js[i - ts.length]? with
  | none=>rw [hj] at Gy;cases Gy
  | some p =>
   rw [hj] at Gy Br;simp only [pC,Option.some.injEq] at Gy Br;obtain⟨a1,a2,a3⟩:=cp.at_ p (cR hj);subst Gy;have es:σ[p.1]?=some (some v):=by
    cases q:σ[p.1]? with
    | none=>rw [q] at Br;cases Br
    | some z=>rw [q] at Br;exact congrArg some Br
   obtain⟨m0,VO,lk⟩:=I.loc;obtain⟨u,ru,l⟩:=lk p.1 p.2 v a1 es (.inr (.inl a2));rcases l with l | ⟨_,c,ec,o,hc,hd⟩
   .have l1:X.env.scope.names.lookup p.2=some .local:=l.1;rw [a2] at l1;cases l1
   obtain⟨c',P7⟩:=kF.all p.2 (uQ a3);have e3:=kF.sub _ _ P7;rw [ec] at e3;cases e3;exact⟨u,ru,.inr ⟨.inl (uH xk a3 a2),c,P7,o,old _ _ hc,hd⟩⟩
 .obtain⟨v,o,h1,h2⟩:=I.cell y c (kF.sub y c h);exact⟨v,o,old _ _ h1,h2⟩
 .show upd H s1.heap.objs.size (.lst []) C=none;rw [ai (iY hC)];exact I.bo.fresh (i9 hC)
 .show upd H s1.heap.objs.size (.lst []) c=none;rw [ai (a_ (lt y c h))];exact I.ik y c (kF.sub y c h)
 .exact⟨by show 0<=sizeLine;decide,[],0,.nil,hD⟩
 show (cZ ts js σ).length=(ts++js.map (·.2)).length;simp [cZ]
def Cf (wi:TI) (ts:List Str)(js:List (Nat×Str))(g:TG)(tif:TT)(te:TE):TE:=λσ H Q=>wi σ H λJ H1=>∀D,H1 D=none->∃W:Nat->Nat->List V->St->Hp->Prop,(∃m,W 0 m [] (cZ ts js σ) (upd H1 D (.lst []))) /\
 ∀i m ys σ' H,W i m ys σ' H->(J.stop i H/\Q (.ref D) H)\/(J.go i H/\∃m',m' < m/\∀x H',J.kA i H x H'->g x σ' H' λσ2 H2=>tif σ2 H2 λb H3 =>
  if b=true then te σ2 H3 λy H4=>H4 D=some (.lst ys)/\ys.length < sizeLine/\W (i+1) m' (ys++[y]) σ2 (upd H4 D (.lst (ys++[y]))) else W (i+1) m' ys σ2 H3)
def bq {X:Cx}{elt iter tg:Expr}{ifs:List Expr}{scope:Scope}{pos:Pos}{wi:TI}{g:TG}{tif:TT}{te:TE}(ts:List Str)(js:List (Nat×Str))(hc:X.calm=true)(hi:PI X tg iter wi)
  (cp:G4 X scope js)(ij:∀y∈scope.names,y.2≠.cell)(ig:scope.kind=.function)
  (yM:∀y∈scope.names,y.2=.local->scope.names.lookup y.1=some .local)
  (hg:∀cl C s1 H1 fp,PG (qI X scope cl C s1 H1 (ts++js.map (·.2)) fp) tg g)
  (SE:∀cl C s1 H1 fp,BO (qI X scope cl C s1 H1 (ts++js.map (·.2)) fp) ifs tif)(he:∀cl C s1 H1 fp,PE (qI X scope cl C s1 H1 (ts++js.map (·.2)) fp) elt te)
  (hs:∀x,foldedSetIterable iter X.env x=pure x:=by intro _;rfl) :
  PE X (.ListComp elt [⟨tg,iter,ifs,0⟩] scope pos) (Cf wi ts js g tif te):=by
 intro af s σ H Q I h;rw [eval_ListComp];obtain⟨cl,kF⟩:=u6 (env:=X.env) (scope:=scope) λy hy=>I.ok.has y (.inl (cp.all y hy));refine wpAny_comprehension_free (use:=none) rfl hs kF.eq ig yM (b8 (hi af s σ H _ I h) λv s1 h1=>b8 h1 λPu s2 h2=>?_);obtain⟨it,fp,tn,J,H2,e,I2,T,ET,f2,h2⟩:=h2;subst e;obtain⟨W,⟨m0,w0⟩,turn⟩:=h2 s2.heap.objs.size I2.fresh;have DS:∀b∈fp,b < s2.heap.objs.size:=λb hb=>by obtain⟨o,e,_⟩:=T.obj _ _ ET b hb;exact aP e
 refine o_ (wpAny_newFunctionEnv ij (by intro y hy;simp at hy) (λh₁ yL uX=>?_) ig);dsimp only at yL uX ⊢;generalize Ka:s2.heap.push { cls:=.type "list",dict:=none,data:=.seq ([]:List Value).toArray }=G2 at yL uX ⊢;have Gm:G2.objs.size=s2.heap.objs.size+1:=by rw [<-Ka,j4]
 have Te:s2.heap.objs.size≠G2.objs.size:=by rw [Gm];exact a_ (kP _)
 have old:∀b o,s2.heap.get? b=some o->h₁.get? b=some o:=λb o e =>
  uX.extBut b o (by rw [Gm];exact a_ (tQ (aP e))) (bj _ (Ka ▸ bj _ e))
 have Bk:h₁.get? s2.heap.objs.size=some { cls:=.type "list",data:=.seq ([]:List Value).toArray 0 }:=uX.extBut _ _ Te (bj _ (Ka ▸ cJ _ rfl));generalize lQ:qI X scope cl G2.objs.size s2 H2 (ts++js.map (·.2)) fp=X2;have I4:Inv X2 [] (cZ ts js σ) (upd H2 s2.heap.objs.size (.lst [])) { s2 with heap:=h₁,toks:=s2.toks+([]:List (Str×Value)).length }:=by
  rw [<-lQ];exact sJ I2 f2 DS ig ij cp kF (by rw [Gm];exact kP _) rfl rfl old yL Bk
 have x1:X2.prog=X.prog:=by rw [<-lQ];rfl
 have x2:X2.w=X.w:=by rw [<-lQ];rfl
 have x3:X2.K=X.K:=by rw [<-lQ];rfl
 have x4:X2.calm=true:=by rw [<-lQ];exact hc
 have x5:X2.A=X.A:=by rw [<-lQ];rfl
 have x6:X2.env=compEnvC scope cl G2.objs.size X.env:=by rw [<-lQ];rfl
 have x7:X2.xe=λ_ _=>False:=by rw [<-lQ];rfl
 have SH:PG X2 tg g:=by rw [<-lQ];exact hg _ _ _ _ _
 have JQ:BO X2 ifs tif:=by rw [<-lQ];exact SE _ _ _ _ _
 have E4:PE X2 elt te:=by rw [<-lQ];exact he _ _ _ _ _
 have Mp:tn 0 h₁:=T.keep _ _ _ ET λb _ o e=>old b o e;have pS:∀{H':Hp}{iO:List (Addr×Obj)},(∀b∈fp,H' b=none)->(∀p∈iO,p.1∉fp)->∀b∈fp,vh X2 iO H' b:=λ{H' iO} hn hp b hb=>by
  have o4:=I4.ok;subst lQ;exact⟨hn b hb,(o4.Kn b hb).1,o4.yT b hb,.inl hb,(o4.Kn b hb).2,λp nj=>by
   have yK:p∈([]:List (Addr×Obj))++iO:=nj;rw [mr] at yK;intro z;exact hp p yK (by rw [z];exact hb)⟩
 have fin:∀{s':Shared}{σ':St}{H':Hp},Inv X2 [] σ' H' s'->Q (.ref s2.heap.objs.size) H' ->
   compPost (model X.prog X.w) X.A X.xe none (EP X af σ Q) (.ref s2.heap.objs.size) G2.objs.size (.ok .next) s':=λ{s' σ' H'} J' q=>by
  subst lQ;obtain⟨m',JL,_⟩:=J'.loc;refine⟨m',JL,λh' Lk=>?_⟩;have u:Un (oF X.stack) fp H2 H' s2.heap s'.heap:=J'.base;have nC:∀b o,s2.heap.get? b=some o->b≠G2.objs.size:=λb o e=>by rw [Gm];exact a_ (tQ (aP e))
  have u':Un (oF X.stack) fp H2 H' s2.heap h':=⟨λb o e n hb hx=>(Lk.2 b (nC b o e)).trans (u.keep b o e n hb hx),λb o e n hb hx=>by
    obtain⟨sl,z⟩:=u.slot b o e n hb hx;exact⟨sl,(Lk.2 b (nC b o e)).trans z⟩,u.free,λb o e hx=>by
    obtain⟨o',z⟩:=u.there b o e hx;exact⟨o',(Lk.2 b (nC b o e)).trans z⟩,u.j6,u.jq,u.jG⟩
  have bo:jM X.prog X.w H' h':=λb ob e=>by
   refine(J'.bo b ob e).gZ (λc w' jJ q'=>(Lk.2 c ?_).trans q') (λ_ q=>q) λ_ _ q=>q;intro z;have fr:H' G2.objs.size=none:=J'.free;rcases jJ with z' | z'
   .rw [<-z'] at e;rw [z,fr] at e;cases e
   rw [z,fr] at z';cases z'
  have I5:Inv X af σ H' { s' with heap:=h' }:=I2.An (s':={ s' with heap:=h' }) J'.os u' bo J'.bare λb hb=>by
   obtain⟨_,f1,_,f3,f4,f5⟩:=f2 b hb;exact⟨f3,f1,f4,f5⟩
  exact⟨.ref s2.heap.objs.size,H',I5,rfl,q⟩
 have loop:∀s₃:Shared,s₃={ s2 with heap:=h₁,toks:=s2.toks+([]:List (Str×Value)).length } ->
   codeAny (model X.prog X.w) X.A (.compLoop (.ListComp elt [⟨tg,iter,ifs,0⟩] scope pos) 0 (.ref it) (.ref s2.heap.objs.size) (compEnvC scope cl G2.objs.size X.env))
    (compPost (model X.prog X.w) X.A X.xe none (EP X af σ Q) (.ref s2.heap.objs.size) G2.objs.size) s₃:=by
  rintro s₃ rfl;subst lQ;refine oo (λn s'=>∃i ys σ' H',Inv (qI X scope cl G2.objs.size s2 H2 (ts++js.map (·.2)) fp) [] σ' H' s'/\tn i s'.heap/\(∀b∈fp,H' b=none)/\W i n ys σ' H') ?_ m0
   ⟨0,[],_,_,I4,Mp,λb hb=>by rw [ai (a_ (DS b hb))];exact(f2 b hb).1,w0⟩
  rintro n s' ⟨i,ys,σ0,H',J',rf,N_,w'⟩;rcases turn i n ys σ0 H' w' with ⟨stop,q⟩ | ⟨go,m',hm,step⟩
  .refine bY (T.done (qI X scope cl G2.objs.size s2 H2 (ts++js.map (·.2)) fp) rfl rfl rfl hc i [] s' _ H' (λ_ _=>False) J' (pS N_ (by simp)) rf stop) (λr s4 ⟨hr,J4⟩=>?_) λ_ _ z=>z;subst hr;exact fin J4 q
  refine bY (T.item (qI X scope cl G2.objs.size s2 H2 (ts++js.map (·.2)) fp) rfl rfl rfl hc i [] s' _ H' (λ_ _=>False) J' (pS N_ (by simp)) rf go) (λr s4 ⟨u,hr,h4⟩=>?_) λ_ _ z=>z;subst hr;refine bY h4 (λ_ s5 aR=>?_) λ_ _ z=>z;obtain⟨xv,H5,J5,r5,y5,vD,N9⟩:=aR;have UI:=J5.pinned (pS N9 (by simp)) (T.obj _ _ vD);have back:∀{s7:Shared}{σ7:St}{H7:Hp},Inv (qI X scope cl G2.objs.size s2 H2 (ts++js.map (·.2)) fp) ([]++mS fp s5.heap) σ7 H7 s7->Inv (qI X scope cl G2.objs.size s2 H2 (ts++js.map (·.2)) fp) [] σ7 H7 s7/\tn (i+1) s7.heap/\∀b∈fp,H7 b=none:=λ{s7 σ7 H7} J7=>by
   refine⟨J7.jd,T.keep _ _ _ vD λb hb o e=>(J7.pin (b,o) (eZ _ (eZ _ (fA hb e)))).1,λb hb=>?_⟩;obtain⟨o,e,d⟩:=T.obj _ _ vD b hb;exact(J7.pin (b,o) (eZ _ (eZ _ (fA hb e)))).2.1
  show wpAny _ _ (assign tg (qI X scope cl G2.objs.size s2 H2 (ts++js.map (·.2)) fp).env u) _ _ s5;refine bY (SH _ s5 _ H5 xv u _ UI r5 (step xv H5 y5)) (λ_ s6 aR=>?_) λ_ _ z=>z;obtain⟨σ6,H6,J6,q6⟩:=aR;refine bY (JQ _ s6 _ H6 _ J6 q6) (λb s7 aR=>?_) λ_ _ z=>z;obtain⟨H7,J7,q7⟩:=aR;cases b with
  | false =>
   rw [ay cT] at q7 ⊢;obtain⟨J8,QO,Tn⟩:=back J7;exact⟨m',hm,i+1,ys,σ6,H7,J8,QO,Tn,q7⟩
  | true =>
   rw [aw rfl] at q7 ⊢;refine bY (E4 _ s7 _ H7 _ J7 q7) (λyv s8 aR=>?_) λ_ _ z=>z;obtain⟨y,H8,J8,r8,Lp,R6,w8⟩:=aR;refine bY (cN (X:=qI X scope cl G2.objs.size s2 H2 (ts++js.map (·.2)) fp) _ s8 _ H8 (.ref s2.heap.objs.size) [y] (.ref s2.heap.objs.size) [yv] (λv H'=>W (i+1) m' (ys++[y]) σ6 H') J8 rfl (.cons r8 .nil) ⟨s2.heap.objs.size,ys,y,rfl,rfl,Lp,R6,w8⟩)
    (λ_ s9 ⟨_,H9,J9,_,w9⟩=>?_) λ_ _ z=>z
   obtain⟨UJ,IJ,Kj⟩:=back J9;exact⟨m',hm,i+1,ys++[y],σ6,H9,UJ,IJ,Kj,w9⟩
 exact codeAny_compStart_list (loop _ rfl) (T.self _ _ _ _ _ Mp (loop _ rfl))
def OY (K:aT)(a:Addr):It :=
 ⟨λi H=>∃xs x,aD K H a xs/\xs[i]?=some x,λi H x H'=>∃t y,x=.ref t/\H t=none/\H'=upd H t (.tup [.int (i:Int),y])/\∀xs,aD K H a xs->xs[i]?=some y,λi H=>∃xs,aD K H a xs/\xs.length<=i⟩
def AD {P:Program}{w:World}{K:aT}{elts:List Expr}{k:Nat}{uq:Pos}(a e it:Addr)(NQ:e≠it) :
  Turn P w K (.Tuple elts k uq) (OY K a) [e,it] e (λi h=>(∃old,IsEnum h e it i old)/\h.IsListIter it a i) where
 mem:=by simp
 obj:=λi h st b hb=>by
  obtain⟨⟨old,he⟩,o,e1,c,d⟩:=st;rcases bC.mp hb with rfl | hb
  .exact⟨_,he,λv z=>by cases z⟩
  obtain rfl:b=it:=by simpa using hb
  exact⟨o,e1,λv z=>by rw [d] at z;cases z⟩
 keep:=λi h h' st k=>⟨⟨st.1.choose,k e (by simp) _ st.1.choose_spec⟩,st.2.at λo q=>k it (by simp) o q⟩
 item:=by
  intro X hP hw hK hc i af s σ H E I hf st hg;subst hP hw hK;obtain⟨xs,x,hq,hx⟩:=hg;obtain⟨aL,rv,p,hz⟩:=I.list hq;obtain⟨u,hu,ru⟩:=rv.get hx;obtain⟨⟨old,he⟩,hit⟩:=st;refine wpAny_pyNext_enum_item he hit p.isList (x:=u) (by simpa using hu) NQ λh1 ho JP hT hsz hk=>?_;refine⟨_,rfl,wpAny_letOwnedTupleGo_enum ho λh2 SN sb=>?_⟩;have ne:s.heap.objs.size≠e:=iY (aP he);have kk:∀b o,b≠e->b≠it->s.heap.get? b=some o->h2.get? b=some o:=λb o n1 n2 q=>(sb.2 b n1).trans (hk b o n1 n2 q);have T2:h2.get? s.heap.objs.size=some { cls:=.type "tuple",data:=.seq #[.int i s.toks,u] }:=(sb.2 _ ne).trans hT;have fe:=hf e (by simp);have fi:=hf it (by simp);have fT:H s.heap.objs.size=none:=I.bo.fresh (aH _);have tr:∀b v,H b=some v->b≠e/\b≠it:=λb v q=>⟨λz=>(by rw [z,fe.1] at q;cases q),λz=>(by rw [z,fi.1] at q;cases q)⟩;have nc:∀b,b∉[e,it]->b≠e/\b≠it:=λb z=>⟨λq=>z (by simp [q]),λq=>z (by simp [q])⟩;have lt:∀b o,s.heap.get? b=some o->b≠s.heap.objs.size:=λb o q=>a_ (aP q);have I2:Inv X af σ (upd H s.heap.objs.size (.tup [.int (i:Int),x])) { s with heap:=h2,toks:=s.toks+1 }:=by
   refine I.call (g':=s.gens) (t':=s.toks+1) (d':=s.drawn) (ch:=[e,it]) ⟨λb o q _ _ c=>kk b o (nc b c).1 (nc b c).2 q,λb o q _ _ c=>⟨o.slots,kk b o (nc b c).1 (nc b c).2 q⟩,
    λb o q n _=>by rw [ai (lt b o q)];exact n,λb o q c=>⟨o,kk b o (nc b c).1 (nc b c).2 q⟩,λb ys q=>by rw [ai (ao q fT)];exact q,λb o v q=>by rw [ai (ao q fT)];exact q,
    λb ps q=>⟨#[],by rw [ai (ao q fT),q];simp⟩⟩ (λb v q=>?_) I.bare (λb hb=>?_)
   .by_cases hb:b=s.heap.objs.size
    .subst hb;rw [ae] at q;cases q;exact⟨by show 2<=sizeLine;decide,[.int i s.toks,u],.cons ⟨_,rfl⟩ (.cons ru .nil),_,T2,rfl,_,rfl⟩
    rw [ai hb] at q;refine(I.bo b v q).gZ (λc o jJ z=>?_) (λc q'=>by rw [ai (ao q' fT)];exact q') λc ys q'=>by rw [ai (ao q' fT)];exact q'
    rcases jJ with rfl | jJ
    .exact kk c o (tr c _ q).1 (tr c _ q).2 z
    exact kk c o (tr c _ jJ).1 (tr c _ jJ).2 z
   rcases bC.mp hb with rfl | hb
   .exact⟨fe.2.2.2.1,fe.2.1,fe.2.2.2.2.1,fe.2.2.2.2.2⟩
   obtain rfl:b=it:=by simpa using hb
   exact⟨fi.2.2.2.1,fi.2.1,fi.2.2.2.2.1,fi.2.2.2.2.2⟩
  refine⟨.ref s.heap.objs.size,_,I2,rfl,⟨_,x,rfl,fT,rfl,λys hy=>by rw [I.qh hy hq];exact hx⟩,⟨⟨_,SN⟩,JP.at λo q=>(sb.2 it NQ.symm).trans q⟩,λb hb=>?_⟩;have uZ:H b=none/\∃o,s.heap.get? b=some o:=by
   rcases bC.mp hb with rfl | hb
   .exact⟨fe.1,_,he⟩
   obtain rfl:b=it:=by simpa using hb
   obtain⟨o,q,_⟩:=hit;exact⟨fi.1,o,q⟩
  obtain⟨n,o,q⟩:=uZ;rw [ai (lt b o q)];exact n
 done:=by
  intro X hP hw hK hc i af s σ H E I hf st hg;subst hP hw hK;obtain⟨xs,hq,hx⟩:=hg;obtain⟨aL,rv,p,hz⟩:=I.list hq;obtain⟨⟨old,he⟩,hit⟩:=st;obtain⟨f0,f1,f2,f3,f4,f5⟩:=hf it (by simp);have hl:=rv.length;exact wpAny_pyNext_enum_end (I.ok.hd hc) he hit p.isList (by simp;omega) λh' eb=>⟨rfl,I.turned (t':=s.toks) (λb o hb e=>eb b o hb e) f0 f1 f3 f4 f5⟩
 self:=λ_ _ _ _ _ st h=>wpAny_pyIter_enum st.1.choose_spec h
def s_:bootBuiltins "enumerate"=some (.type "enumerate"):=by decide +kernel
def Nh (K:aT)(ta:TA):TI:=λσ H R=>ta σ H λvs H1=>UA vs (aD K H1) λa=>R (OY K a) H1
def lG {X:Cx}{elts:List Expr}{k:Nat}{uq:Pos}{l:Expr}{ta:TA}{p pos:Pos}(hg:Gl X "enumerate")(hm:X.mg "enumerate"=none)(ha:PA X [l] ta)(hs:starEach [l] X.env=[(false,eval l X.env)]:=by rfl) :
  PI X (.Tuple elts k uq) (.Call (.Name "enumerate" p) [l] [] pos) (Nh X.K ta):=by
 intro af s σ H R I h;refine Call_ (iG I hg hm s_ (um (b8 (ha pos af s σ H _ I h) λus s1 aR=>?_) hs rfl));obtain⟨vs,H1,I1,r1,q1⟩:=aR;obtain⟨a,xs,e,hq,q⟩:=q1;subst e;obtain⟨u,rfl,rx⟩:=r1.one;cases rx;obtain⟨aL,rv,pl,hz⟩:=I1.list hq;refine call_enumerate_list pl.isList λh1 he hit hsz hk=>wpAny_pyIter_enum he ?_;refine⟨s1.heap.objs.size+1,[s1.heap.objs.size+1,s1.heap.objs.size],_,_,H1,rfl,I1.kept (t':=s1.toks) λb o e=>hk b o e,AD a _ _ (iY (kP _)),⟨⟨_,he⟩,hit⟩,λb hb=>?_,q⟩;rcases bC.mp hb with rfl | hb
 .exact I1.u0 (iX _) (I1.bo.fresh (iX _))
 obtain rfl:b=s1.heap.objs.size:=by simpa using hb
 exact I1.u0 (aH _) (I1.bo.fresh (aH _))
def cA (kvs a7:List (aF×V)):List (aF×V):=kvs.foldl (λa p=>bc a p.1 p.2) a7
theorem qC:∀{kvs:List (aF×V)}{vs:List (aF×Value)}{a7:List (aF×V)}{EB:List (aF×Value)},KV kvs vs->KV a7 EB->KV (cA kvs a7) (vs.foldl (λa p=>stored a p.1 p.2) EB)
 | _,_,_,_,.nil,h=>h
 | _,_,_,_,.cons (a:=p) (b:=q) r t,h=>by
  obtain⟨e,rv⟩:=r;show KV (cA _ (bc _ p.1 p.2)) (List.foldl _ (stored _ q.1 q.2) _);rw [<-e];exact qC t (h.put p.1 rv)
theorem qD:∀(kvs a7:List (aF×V)),(cA kvs a7).length<=a7.length+kvs.length
 | [],a7=>by simp [cA]
 | p::r,a7=>by
  have:=qD r (bc a7 p.1 p.2);have:=dU a7 p.1 p.2;show (cA r (bc a7 p.1 p.2)).length<=_;rw [dw];omega
section
variable {X:Cx}{af:List (Addr×Obj)}{σ:St}{H:Hp}{s:Shared}
theorem pairs_at (I:Inv X af σ H s):∀{ts:List Addr}{kvs:List (aF×V)}{aL:List Value},Paired (λt kv=>aX X.K H t [kV kv.1,kv.2]) ts kvs->aO (ts.map V.ref) aL ->
  ∃vs:List (aF×Value),KV kvs vs/\Paired (λu kv=>kx (aS X.prog X.w) s.heap u kv) aL vs
 | [],_,_,.nil,r=>by
  rw [i8] at r;cases r;exact⟨[],.nil,.nil⟩
 | t::ts,kv::kvs,_,.cons h p,r=>by
  rw [bw] at r;cases r with
  | cons r1 r2 =>
   obtain⟨vs,e1,e2⟩:=pairs_at I p r2;obtain⟨aL,rv,⟨o,h1,h2,n,h3⟩,_⟩:=I.tuple h;obtain⟨u1,u2,rfl,q1,q2⟩:=vals2 rv;exact⟨(kv.1,u2)::vs,.cons ⟨rfl,q2⟩ e1,.cons ⟨t,u1,n,o,r1,jU q1,h1,h2,h3⟩ e2⟩
theorem Paired.at_ {α β:Type}{F:α->β->Prop}:∀{xs:List α}{ys:List β},Paired F xs ys->∀(m:Nat)(y:β),ys[m]?=some y->∃x,xs[m]?=some x/\F x y
 | _,_,.nil,m,y,e=>by cases m <;> cases e
 | _,_,.cons h t,0,y,e=>by cases e;exact⟨_,rfl,h⟩
 | _,_,.cons h t,m+1,y,e=>Paired.at_ t m y e
def dj (hc:X.calm=true):fj X (.type "dict") (λxs H Q=>∃a ts kvs,xs=[.ref a]/\H a=some (.lst (ts.map V.ref))/\Paired (λt kv=>aX X.K H t [kV kv.1,kv.2]) ts kvs/\∀d,H d=none->Q (.ref d) (upd H d (.dK (cA kvs [])))):=by
 intro af s σ H xs us Q I r h;obtain⟨a,ts,kvs,rfl,e,p,q⟩:=h;obtain⟨u,rfl,rx⟩:=vals1 r;cases (show u=Value.ref a from rx);obtain⟨z,aL,n,rv,ho⟩:=(show bE X.prog X.w H s.heap a (.lst _) from I.bo a _ e);obtain⟨vs,r1,r2⟩:=pairs_at I p rv;have l1:=bF r2;have l2:=r1.length;have l3:=bF p;rw [az] at z;refine qP (aS X.prog X.w) (I.ok.hd hc) ho (by simpa using l1) (λm kv em=>?_) ∅ λh' t' hd kk=>?_
 .obtain⟨u,e1,e2⟩:=Paired.at_ r2 m kv em;exact⟨u,by simpa using e1,e2⟩
 have new:bE X.prog X.w (upd H s.heap.objs.size (.dK (cA kvs []))) h' s.heap.objs.size (.dK (cA kvs [])):=by
  refine qH ?_ ?_ (qC r1 .nil) hd
  .have:=qD kvs [];simp at this;omega
  have:=I.big;exact i3.mpr (iY this)
 exact⟨.ref s.heap.objs.size,_,I.laid (t':=t') kk (aH _) new,rfl,q _ (I.bo.fresh (aH _))⟩
theorem si {α β:Type}{F:α->β->Prop}:∀{xs:List α}{ys:List β},xs.length=ys.length->(∀(j:Nat) x y,xs[j]?=some x->ys[j]?=some y->F x y)->Paired F xs ys
 | [],[],_,_=>.nil
 | [],_::_,e,_=>by cases e
 | _::_,[],e,_=>by cases e
 | x::xs,y::ys,e,h=>.cons (h 0 x y rfl rfl) (si (Nat.succ.inj e) λj a b e1 e2=>h (j+1) a b e1 e2)
def Hz {P:Program}{w:World}{k:aF}{u:Value}(h:(aS P w).is k u=true):RelV (kV k) u:=by
 rcases cK (show qj k u=true from h) with ⟨i,t,rfl,rfl⟩ | ⟨x,t,rfl,rfl⟩
 .exact⟨t,rfl⟩
 exact⟨t,rfl⟩
def ku (hc:X.calm=true):fj X (.type "list") (λxs H Q=>∃a kvs,xs=[.ref a]/\H a=some (.dK kvs)/\∀D,H D=none->Q (.ref D) (upd H D (.lst (kvs.map λp=>kV p.1)))):=by
 intro af s σ H xs us Q I r h;obtain⟨a,kvs,rfl,e,q⟩:=h;obtain⟨u,rfl,rx⟩:=vals1 r;cases (show u=Value.ref a from rx);obtain⟨z,hs,vs,rel,dd⟩:=wA I.bo e;obtain⟨o,es,ep,d1,d2,d3,d4⟩:=dd;have l1:=rel.length;refine PySem.W.kdl_call (PySem.W.kdl_dict (knd:=aS X.prog X.w) (kvs:=vs) (ep:=ep) hs) (I.ok.hd hc) ⟨o,es,d1,d2,d3,d4⟩ ∅ λh' tk a7 c kk hD Bk=>?_;have keys:=rel.keys;have vals:aO (kvs.map λp=>kV p.1) a7.toList:=by
  refine si (by have h1:=Bk.1;simp only [az,Array.length_toList];omega) λj x y e1 e2=>?_;rw [Array.getElem?_toList] at e2;obtain⟨k,v,e3,e4⟩:=Bk.2 j y e2;rw [bh] at e1;obtain⟨p,e5,rfl⟩:=bR.mp e1;have e6:(kvs.map (·.1))[j]?=some p.1:=by rw [bh,e5];rfl
  rw [keys,bh,e3] at e6;cases e6;exact Hz e4
 have new:bE X.prog X.w (upd H s.heap.objs.size (.lst (kvs.map λp=>kV p.1))) h' s.heap.objs.size (.lst (kvs.map λp=>kV p.1)):=⟨by rw [az];exact z,a7.toList,c,vals,by simpa using hD⟩;exact⟨.ref s.heap.objs.size,_,I.laid (t':=tk) kk (aH _) new,rfl,q _ (I.bo.fresh (aH _))⟩
end
def jw (v:V):Prop:=jt v=true\/∃r,v=.ref r
def Ec {x:V}(h:jt x=true):Ed x x=true:=by
 cases x with
 | cU=>rfl
 | bl b=>exact o9 b
 | int i=>exact o9 i
 | str z=>exact o9 z
 | _=>cases h
def yV {A:Around}{s:Shared}{x:V}{u v:Value}(h:jw x)(ru:RelV x u)(rv:RelV x v):SeqAt.EqAt A s u v true:=by
 rcases h with h | ⟨r,rfl⟩
 .have q:=Ef (A:=A) (s:=s) ru rv h h;rw [Ec h] at q;exact q
 cases (show u=Value.ref r from ru);cases (show v=Value.ref r from rv);exact .same _
def ql {A:Around}{s:Shared}{xs:List V}{aL gB:List Value}(r:aO xs aL)(r2:aO xs gB)(hx:∀v∈xs,jw v) (j:Nat)(h1:j < aL.toArray.size)(h2:j < gB.toArray.size) :
  SeqAt.EqAt A s aL.toArray[j] gB.toArray[j] true:=by
 have l1:=r.length;have k1:j < aL.length:=by simpa using h1
 have k2:j < gB.length:=by simpa using h2
 have g1:xs[j]?=some (xs[j]'∅):=dJ ∅;obtain⟨u1,e1,q1⟩:=r.get g1;obtain⟨u2,e2,q2⟩:=r2.get g1;have f1:aL.toArray[j]=u1:=by
  have:=(ba.mp e1).2;simpa using this
 have f2:gB.toArray[j]=u2:=by
  have:=(ba.mp e2).2;simpa using this
 rw [f1,f2];exact yV (hx _ (tM _)) q1 q2
def Hi (K:aT)(b:Bool):V->V->Hp->VK->Prop:=λx y H Q=>∃p q xs,x=.ref p/\y=.ref q/\aD K H p xs/\aD K H q xs/\(∀v∈xs,jw v)/\Q (.bl b) H
def yj {X:Cx}(hu:X.A.units < cLine):ky X (compareOp .Eq) (Hi X.K true):=by
 intro af s σ H x y v u Q I rx ry h;obtain⟨a,b,xs,rfl,rfl,ha,hb,hx,q⟩:=h;cases rx;cases ry;obtain⟨aL,r,pl,hz⟩:=I.list ha;obtain⟨gB,r2,AN,R8⟩:=I.list hb;have l1:=r.length;have l2:=r2.length;refine SeqAt.eq_listAt (e:=λ_=>true) pl.isList AN.isList (by simp only [bI];omega) hu (λj h1 h2=>ql r r2 hx j h1 h2) ?_;have e:((List.range aL.toArray.size).all λ_=>true)=true:=by simp
 rw [e];exact⟨.bl true,H,I,rfl,q⟩
def yg {X:Cx}(hu:X.A.units < cLine):ky X (compareOp .NotEq) (Hi X.K false):=by
 intro af s σ H x y v u Q I rx ry h;obtain⟨a,b,xs,rfl,rfl,ha,hb,hx,q⟩:=h;cases rx;cases ry;obtain⟨aL,r,pl,hz⟩:=I.list ha;obtain⟨gB,r2,AN,R8⟩:=I.list hb;have l1:=r.length;have l2:=r2.length;refine SeqAt.RcNeAt.lists (e:=λ_=>true) pl.isList AN.isList (by simp only [bI];omega) hu (λj h1 h2=>ql r r2 hx j h1 h2) X.prog X.w X.xe _ ?_;have e:(!(List.range aL.toArray.size).all λ_=>true)=false:=by simp
 rw [e];exact⟨.bl false,H,I,rfl,q⟩
theorem zy:∀{ts:List Str}{aL:List Value},aO (ts.map V.str) aL->StrsAre aL ts
 | [],_,r=>by rw [i8] at r;cases r;exact .nil
 | z::ts,_,r=>by
  rw [bw] at r;cases r with
  | cons h t =>
   obtain⟨tk,e⟩:=(show ∃tk,_=Value.str z tk from h);subst e;exact .cons z tk (zy t)
def rJoin (K:aT):V->List V->Hp->VK->Prop:=λx vs H Q=>∃z a ts,x=.str z/\vs=[.ref a]/\aD K H a (ts.map V.str)/\(ts.map (·.length)).sum+ts.length * z.length<=16777216/\Q (.str (Txt.join z ts)) H
def FU {X:Cx}:UG X "str.join" (rJoin X.K):=by
 intro af s σ H x vs v us Q I rx rv h;obtain⟨z,a,ts,rfl,rfl,hq,hz,q⟩:=h;obtain⟨t,rfl⟩:=rx;obtain⟨u,rfl,ru⟩:=rv.one;cases (show u=Value.ref a from ru);obtain⟨aL,r,pl,_⟩:=I.list hq;exact join_list pl.isList (by simpa using zy r) hz λt' k=>⟨.str _,H,I.tok _,⟨_,rfl⟩,q⟩
section
variable {K:aT}{a D:Addr}{xs:List V}{ts:List Str}{js:List (Nat×Str)}{g:TG}{tif:TT}{te:TE}{R:Hp->Prop}{σ:St}{H:Hp}
def bH (Pv:Nat->List V->St->Hp->Prop)(h0:Pv 0 [] (cZ ts js σ) (upd H D (.lst [])))(hl:∀i ys σ H,i<=xs.length->Pv i ys σ H->aD K H a xs)
  (hs:∀i x ys σ H,xs[i]?=some x->Pv i ys σ H->g x σ H λσ2 H2=>tif σ2 H2 λb H3=>if b=true then te σ2 H3 λy H4=>H4 D=some (.lst ys)/\ys.length < sizeLine/\Pv (i+1) (ys++[y]) σ2 (upd H4 D (.lst (ys++[y]))) else Pv (i+1) ys σ2 H3)
  (hd:∀ys σ H,Pv xs.length ys σ H->R H) :
  ∃W:Nat->Nat->List V->St->Hp->Prop,(∃m,W 0 m [] (cZ ts js σ) (upd H D (.lst []))) /\
 ∀i m ys σ' H,W i m ys σ' H->((iS K a).stop i H/\R H)\/((iS K a).go i H/\∃m',m' < m/\∀x H',(iS K a).kA i H x H'->g x σ' H' λσ2 H2=>tif σ2 H2 λb H3 =>
  if b=true then te σ2 H3 λy H4=>H4 D=some (.lst ys)/\ys.length < sizeLine/\W (i+1) m' (ys++[y]) σ2 (upd H4 D (.lst (ys++[y]))) else W (i+1) m' ys σ2 H3):=by
 refine⟨λi m ys σ H=>m=xs.length - i/\i<=xs.length/\Pv i ys σ H,⟨xs.length,by simp,gr _,h0⟩,?_⟩;rintro i m ys σ' H ⟨rfl,hi,p⟩;have q:=hl i ys σ' H hi p;by_cases iu:i < xs.length
 .refine .inr ⟨⟨xs,xs[i],q,by simp [iu]⟩,xs.length - (i+1),∅,λx H' y=>?_⟩;obtain⟨e,y⟩:=y;subst e;have z:=hs i x ys σ' _ (y xs q) p;have h1:(i+1<=xs.length)=True:=eq_true iu;simp only [h1,true_and];exact z
 have e:i=xs.length:=by omega
 subst e;exact .inl ⟨⟨xs,q,aH _⟩,hd ys σ' H p⟩
end
def u9 {X:Cx}:fj X (.builtin "isinstance") (λxs H Q=>∃a ys n b,xs=[.ref a,.ty n]/\aD X.K H a ys/\PySem.W.kitOne X.K (.type "list") (.type n)=some b/\Q (.bl b) H):=by
 intro af s σ H xs us Q I r h;obtain⟨a,ys,n,b,rfl,hq,e,q⟩:=h;obtain⟨u,w',rfl,rx,rn⟩:=vals2 r;cases (show u=Value.ref a from rx);cases (show w'=Value.type n from rn);obtain⟨aL,_,pl,_⟩:=I.list hq;obtain⟨o,h1,h2,_⟩:=pl.isList;exact PySem.W.kia_one PySem.W.kitx_list I.jI ⟨o,h1,h2⟩ e (λz=>nomatch z) λtk=>⟨.bl b,H,I.tok _,rfl,q⟩
def Ml (t:TS):TS:=λD σ H=>∃R:St->Hp->Prop,t { D with nx:=R } σ H/\∀σ' H',R σ' H'->D.nx σ' H'
def lB {X:Cx}{st:Stmt}{t:TS}(h:PS X st t):PS X st (Ml t):=by
 intro af s σ H D I ⟨R,q,m⟩;refine b8 (h af s σ H _ I q) λf s1 z=>?_;cases f with
 | next=>obtain⟨σ',H',I',r⟩:=z;exact⟨σ',H',I',m _ _ r⟩
 | ret v=>exact z
 | brk=>exact z
 | cont=>exact z
def aM (P:Program)(w:World)(K:aT)(mg:Str->Option Value)(base:Heap) (k:Nat)(x:Str) (ps:List Str)(sp:Sp):Prop :=
 ∃f fd,bf P w K mg base fk k f fd ps sp/\Binds K fd ps []/\PySem.W.keepIn K (.ref f)=true/\mg x=some (.ref f)
theorem aM.mono {P:Program}{w:World}{K:aT}{mg:Str->Option Value}{base:Heap}{j k:Nat}{x:Str}{ps:List Str}{sp:Sp}(c:aM P w K mg base j x ps sp)(h:j<=k):aM P w K mg base k x ps sp :=
 let ⟨f,fd,a,b⟩:=c;⟨f,fd,a.mono h,b⟩
def cv {X:Cx}{k:Nat}{x:Str}{ps:List Str}{sp:Sp}{e:Expr}{es:List Expr}{t:TA}{p pos:Pos}(c:aM X.prog X.w X.K X.mg X.base k x ps sp)(hr:cX k X.A)(hg:Gl X x)(ha:PA X (e::es) t)
  (qr:(x == ("__debug__":Str))=false:=by decide)(he:starEach (e::es) X.env=(false,eval e X.env)::starEach es X.env:=by rfl)(ni:(backTo pos (starEach es X.env)).any (·.1)=false:=by rfl) :
  PE X (.Call (.Name x p) (e::es) [] pos) (Ci sp [] E0 t):=by
 obtain⟨f,fd,G,b,kp,m⟩:=c;exact zZ G hr hg m kp b .nil sf ha qr he ni
def fits {n:Nat}(h:n<=1000000):n<=sizeLine:=cz h nofun
def bA {n:Nat}(h:n<=1000000):n < sizeLine:=pd h nofun
def ag {H:Hp}{p:Addr}(h:H p=none)(o:HO):aB H (upd H p o):=λb u q=>by rw [ai (ao q h)];exact q
def aB.tup {K:aT}{H H':Hp}{a:Addr}{xs:List V}(e:aB H H')(h:aX K H a xs):aX K H' a xs:=by
 rcases h with (h | ⟨o,h⟩) | h
 .exact .inl (.inl (e _ _ h))
 .exact .inl (.inr ⟨o,e _ _ h⟩)
 exact .inr h
def nA {X:Cx}(hc:X.calm=true):fj X (.builtin "all") (λxs H Q=>∃(a:Addr)(bs:List Bool),xs=[.ref a]/\aD X.K H a (bs.map V.bl)/\Q (.bl (bs.all id)) H):=by
 intro af s σ H xs us Q I r h;obtain⟨a,bs,rfl,hq,q⟩:=h;obtain⟨u,rfl,rx⟩:=vals1 r;cases (show u=Value.ref a from rx);obtain⟨aL,rv,pl,hz⟩:=I.list hq;obtain⟨o,h1,h2,m,h3⟩:=id pl.isList;have la:a < s.heap.objs.size:=aP h1;have ln:=rv.length;rw [az] at ln;have YX:∀(i:Nat) v,aL.toArray[i]?=some v->v=.bool (bs.getD i true):=λi v e=>by
  have e':aL[i]?=some v:=by simpa using e
  obtain⟨x,e2,e3⟩:=Paired.at_ rv i v e';rw [bh] at e2;obtain⟨b,e4,rfl⟩:=bR.mp e2;rw [xw,e4];exact e3
 refine call_all_walk (pb pl.isList ?_);refine⟨s.heap.objs.size,_,_,_,_,_,λi=>bs.getD i true,rfl,Walks.list (A:=X.A.in1) (show X.A.in1.handled=none from I.ok.hd hc) s.heap.objs.size a (a_ la) aL.toArray,⟨⟨_,cJ _ rfl,rfl,rfl⟩,⟨o,bj _ h1,h2,m,h3⟩⟩,?_,λh' tk kk=>?_⟩
 .intro i v s1 Q1 E1 hP ZZ;rw [YX i v hP];exact nP ZZ
 have e:((List.range aL.toArray.size).all λi=>bs.getD i true)=bs.all id:=by
  rw [bI,<-ln,jO,eY,eY];constructor
  .intro h b hb;obtain⟨i,hi,e⟩:=px.mp hb;have:=h i (jc.mpr hi);rw [xw,dJ hi,e] at this;exact this
  intro h i hi;have VW:=jc.mp hi;rw [xw,dJ VW];exact h _ (tM VW)
 rw [e];exact⟨.bl _,H,I.kept (t':=tk) λb o' e'=>kk b o' (by simp;exact a_ (aP e')) (bj _ e'),rfl,q⟩
section
variable {prog:Program}{w:World}{A:Around}{E:Value->Shared->Prop}{s:Shared}
def yw {it l:Addr}{i:Nat}{items:Array Value}{x:Value}{Q:Value->Shared->Prop}(hit:s.heap.IsTupleIter it l i)(hl:s.heap.IsTuple l items)(hx:items[i]?=some x)
  (hQ:∀h',h'.IsTupleIter it l (i+1)->Heap.SameBut it s.heap h'->Q x { s with heap:=h' }):wpAny (model prog w) A (Builtin.SmallTypes.nextOf (.ref it)) Q E s:=by
 obtain⟨o,ho,hc,hd⟩:=id hit;obtain⟨ol,So,_,nl,SO⟩:=hl;unfold Builtin.SmallTypes.nextOf;refine ax (ub (name:=Str.ofString "__next__") hit.typeIs ui (wpAny_call_entry ui hit.typeIs F.entry_tuple_iterator_next ?_ (F.args_tuple_iterator_next_1 _)));show wpAny _ _ (field (.ref it) 0 >>= λv=>_) _ _ s;refine ax (gF ho hd (x:=.ref l) (by rfl) ?_);show wpAny _ _ (if (Value.ref l == .none)=true then _ else _) _ _ s;rw [ay (by exact cT)];show wpAny _ _ (field (.ref it) 1 >>= λv=>_) _ _ s;refine ax (gF ho hd (x:=.int i 0) (by rfl) ?_);show wpAny _ _ (seqItems? (.ref l) >>= λv=>_) _ _ s;refine ax (jb So SO (by
  simp only [mF,hx];refine ax (mi ho hd (by simp) (aK ⟨x,rfl,aK (hQ _ ⟨_,kS _ ho (Obj.isFreed_of_fields (pG hd _)),(Obj.cls_mapFields ..).trans hc,?_⟩ (Heap.SameBut.update ..))⟩));rw [pG hd];simp [rawInt]))
def yX {e it l:Addr}{i:Nat}{items:Array Value}{x old:Value}{Q:Option Value->Shared->Prop}(he:IsEnum s.heap e it i old)(hit:s.heap.IsTupleIter it l i)(hl:s.heap.IsTuple l items)(hx:items[i]?=some x)(JK:e≠it)
  (hQ:∀h',IsEnumOut h' e it ((i:Int)+1) x s.heap.objs.size->h'.IsTupleIter it l (i+1)->h'.get? s.heap.objs.size=some { cls:=.type "tuple",data:=.seq #[.int i s.toks,x] } ->
   (∀b o,b≠e->b≠it->s.heap.get? b=some o->h'.get? b=some o)->Q (some (.ref s.heap.objs.size)) { s with heap:=h',toks:=s.toks+1 }) :
  wpAny (model prog w) A (pyNext (.ref e)) Q E s:=by
 have hT:s.TypeIs (.ref e) "enumerate" := ⟨_,he,rfl⟩;unfold pyNext;refine ax (mh (ub (name:=Str.ofString "__next__") hT tX (wpAny_call_entry tX hT F.entry_enumerate_next ?_ (F.args_enumerate_next_1 _))));obtain⟨hp,g,d,tk,os⟩:=s;show wpAny _ _ (field (.ref e) 2 >>= λv=>_) _ _ _;refine ax (gF he rfl (x:=.ref it) (by rfl) (ax (yw hit hl hx λh₁ SD Nr=>?_)));replace Nr:Heap.SameBut it hp h₁:=Nr;have SM:IsEnum h₁ e it i old:=(Nr.2 e JK).trans he;show wpAny _ _ (field (.ref e) 3 >>= λv=>_) _ _ ⟨h₁,g,d,tk,os⟩;refine ax (gF SM rfl (x:=rawInt i) (by rfl) ?_);show wpAny _ _ (field (.ref e) 4 >>= λv=>_) _ _ ⟨h₁,g,d,tk,os⟩;refine ax (gF SM rfl (x:=.none) (by rfl) ?_);show wpAny _ _ (mkInt i >>= λv=>_) _ _ ⟨h₁,g,d,tk,os⟩;refine ax (wpAny_mkInt ?_);show wpAny _ _ (setField (.ref e) 3 (rawInt ((i:Int)+1)) >>= λv=>_) _ _ ⟨h₁,g,d,tk+1,os⟩;refine ax (pH SM (by simp) λh₂ f₂ Zf=>?_);have ZI:IsEnum h₂ e it ((i:Int)+1) old:=f₂;have k₂:Heap.SameBut e h₁ h₂:=Zf;show wpAny _ _ (setField (.ref e) 4 .none >>= λv=>_) _ _ ⟨h₂,g,d,tk+1,os⟩;refine ax (pH ZI (by simp) λh₃ f₃ Ze=>?_);have ZH:IsEnum h₃ e it ((i:Int)+1) old:=f₃;have k₃:Heap.SameBut e h₂ h₃:=Ze;show wpAny _ _ (newTuple [.int i tk,x] >>= λv=>_) _ _ ⟨h₃,g,d,tk+1,os⟩;refine ax (wpAny_newTuple ?_);have PL:IsEnum (h₃.push { cls:=.type "tuple",data:=.seq #[.int i tk,x] }) e it ((i:Int)+1) old:=bj _ ZH;have hsz:h₃.objs.size=hp.objs.size:=by rw [k₃.1,k₂.1,Nr.1]
 have PM:e < hp.objs.size:=aP he;have VH:(h₃.push { cls:=.type "tuple",data:=.seq #[.int i tk,x] }).get? hp.objs.size=some { cls:=.type "tuple",data:=.seq #[.int i tk,x] }:=by rw [<-hsz];exact cJ _ rfl
 have VR:∀b o,b≠e->b≠it->hp.get? b=some o->(h₃.push { cls:=.type "tuple",data:=.seq #[.int i tk,x] }).get? b=some o:=λb o n1 n2 hb=>bj _ (k₃.extBut b o n1 (k₂.extBut b o n1 (Nr.extBut b o n2 hb)));have NM:(h₃.push { cls:=.type "tuple",data:=.seq #[.int i tk,x] }).IsTupleIter it l (i+1):=SD.at λo q=>bj _ (k₃.extBut it o (du JK) (k₂.extBut it o (du JK) q));generalize h₃.push { cls:=.type "tuple",data:=.seq #[.int i tk,x] }=h₄ at PL VH VR NM ⊢;rw [hsz];show wpAny _ _ (Builtin.SmallTypes.ownedTupleIsFree (.ref e) >>= λv=>_) _ _ ⟨h₄,g,d,tk+1,os⟩;refine ax (by
  unfold Builtin.SmallTypes.ownedTupleIsFree;refine ax (gF PL rfl (x:=.none) (by rfl) (aK (by
   simp only [if_true];refine ax (wpAny_rule (ax (gF PL rfl (x:=old) (by rfl) (ax (pH PL (by simp) λh₅ f₅ Zd=>?_)))));have ZG:IsEnum h₅ e it ((i:Int)+1) x:=f₅;have k₅:Heap.SameBut e h₄ h₅:=Zd;show wpAny _ _ (Builtin.SmallTypes.ownedTupleHandOut (.ref e) (.ref hp.objs.size) >>= λv=>_) _ _ ⟨h₅,g,d,tk+1,os⟩;refine ax (by
    unfold Builtin.SmallTypes.ownedTupleHandOut;refine ax (pH ZG (by simp) λh₆ f₆ Zc=>?_);have ZF:IsEnumOut h₆ e it ((i:Int)+1) x hp.objs.size:=f₆;have k₆:Heap.SameBut e h₅ h₆:=Zc;refine pH ZF (by simp) λh₇ f₇ Zb=>?_;have ZE:IsEnumOut h₇ e it ((i:Int)+1) x hp.objs.size:=f₇;have k₇:Heap.SameBut e h₆ h₇:=Zb;have up:∀b o,b≠e->h₄.get? b=some o->h₇.get? b=some o:=λb o n q=>k₇.extBut b o n (k₆.extBut b o n (k₅.extBut b o n q));exact ax (wpAny_letGo (aK ⟨_,rfl,aK (hQ h₇ ZE (NM.at λo q=>up it o (du JK) q) (up _ _ (iY PM) VH) λb o n1 n2 q=>up b o n1 (VR b o n1 n2 q))⟩)))))))
def qf {it l:Addr}{i:Nat}{items:Array Value}{Q:Value->Shared->Prop}(hh:A.handled=none)(hit:s.heap.IsTupleIter it l i)(hl:s.heap.IsTuple l items)(hx:items[i]?=none)
  (hE:∀h' e,Heap.ExtBut it s.heap h'->(∃o,h'.get? e=some o/\o.cls=.type "StopIteration")->E (.ref e) { s with heap:=h' }):wpAny (model prog w) A (Builtin.SmallTypes.nextOf (.ref it)) Q E s:=by
 obtain⟨o,ho,hc,hd⟩:=id hit;obtain⟨ol,So,_,nl,SO⟩:=hl;unfold Builtin.SmallTypes.nextOf;refine ax (ub (name:=Str.ofString "__next__") hit.typeIs ui (wpAny_call_entry ui hit.typeIs F.entry_tuple_iterator_next ?_ (F.args_tuple_iterator_next_1 _)));show wpAny _ _ (field (.ref it) 0 >>= λv=>_) _ _ s;refine ax (gF ho hd (x:=.ref l) (by rfl) ?_);show wpAny _ _ (if (Value.ref l == .none)=true then _ else _) _ _ s;rw [ay (by exact cT)];show wpAny _ _ (field (.ref it) 1 >>= λv=>_) _ _ s;refine ax (gF ho hd (x:=.int i 0) (by rfl) ?_);show wpAny _ _ (seqItems? (.ref l) >>= λv=>_) _ _ s;refine ax (jb So SO ?_);simp only [mF,hx];refine ax (wpAny_rule (ax (mi ho hd (by simp) (ax ?_))));simp only [newExc,newTuple];refine ax (o_ ?_ (by size_fits));refine ax (m:=firstArgMember _ _) (wpAny_of_eq (a:=Value.none) (by first | rfl | (simp only [firstArgMember];rfl)) ?_)
 refine o_ ?_ (by size_fits);simp only [raiseNew];refine ax (wpAny_handled ?_)
 first | rw [show A.in1.handled=none from hh] | rw [hh]
 refine ax (aK (wpAny_throw (hE _ _ (((Heap.SameBut.update ..).extBut.push _).push _) ⟨_,cJ _ rfl,rfl⟩)))
def Bo {e it l:Addr}{i:Nat}{items:Array Value}{old:Value}{Q:Option Value->Shared->Prop}(hh:A.handled=none)(he:IsEnum s.heap e it i old)(hit:s.heap.IsTupleIter it l i)(hl:s.heap.IsTuple l items)(hx:items[i]?=none)
  (hQ:∀h',Heap.ExtBut it s.heap h'->Q none { s with heap:=h' }):wpAny (model prog w) A (pyNext (.ref e)) Q E s:=by
 have hT:s.TypeIs (.ref e) "enumerate" := ⟨_,he,rfl⟩;unfold pyNext;refine ax (mh (ub (name:=Str.ofString "__next__") hT tX (wpAny_call_entry tX hT F.entry_enumerate_next ?_ (F.args_enumerate_next_1 _))));show wpAny _ _ (field (.ref e) 2 >>= λv=>_) _ _ _;refine ax (gF he rfl (x:=.ref it) (by rfl) (ax (qf hh hit hl hx λh' x E4 Lg=>?_)));obtain⟨o,ho,hc⟩:=Lg;exact ax (wpAny_isInstance (T := "StopIteration") (b:=true) ⟨o,ho,hc⟩ isSubtype_stop (aK (hQ _ E4)))
end
def v3 (l:Addr)(items:Array Value) (n:Nat)(Al:Option Addr)(sl:Array (Option Value)) :
  Meets (Builtin.«enumerate.__new__» ⟨[.type "enumerate",.ref l],[]⟩) (λ_ R s=>s.heap.get? l=some { cls:=.type "tuple",dict:=Al,data:=.seq items n,slots:=sl } /\
   R (.ok (.ret (.ref (s.heap.push { cls:=.type "tuple_iterator",data:=.fields #[.ref l,.int 0 0] }).objs.size)))
    { s with heap:=(s.heap.push { cls:=.type "tuple_iterator",data:=.fields #[.ref l,.int 0 0] }).push { cls:=.type "enumerate",data:=.fields #[.none,.bool false,.ref s.heap.objs.size,rawInt 0,.none,.none] } }) :=
 .of_wp λprog w A R s h=>by
  obtain⟨hp,g,d,tk,os⟩:=s;obtain⟨hl,h⟩:=h;have Bb:=sub_enumerate;have hT:Heap.IsTuple (Shared.heap ⟨hp,g,d,tk,os⟩) l items:=⟨_,hl,rfl,n,rfl⟩
  wp_walk using ue hl
  refine wpAny_stack_any λst=>aK ?_;split
  .rename_i c _ _ _ _ _
   cases (c == Value.type "enumerate")
   .wp_walk using ue hl,tN hT;exact⟨_,rfl,h⟩
   wp_walk using ue hl,tN hT;exact⟨_,rfl,h⟩
  wp_walk using ue hl,tN hT;exact⟨_,rfl,h⟩
section
variable {prog:Program}{w:World}{A:Around}{E:Value->Shared->Prop}{s:Shared}
def zf {l:Addr}{items:Array Value}{Q:Value->Shared->Prop}(hL:s.heap.IsTuple l items)
  (h:∀h',IsEnum h' (s.heap.objs.size+1) s.heap.objs.size 0 .none->h'.IsTupleIter s.heap.objs.size l 0->(∀b o,s.heap.get? b=some o->h'.get? b=some o)->Q (.ref (s.heap.objs.size+1)) { s with heap:=h' }) :
  wpAny (model prog w) A (call (.type "enumerate") [.ref l]) Q E s:=by
 obtain⟨⟨c,Al,dt,sl⟩,hl,hc,n,hd⟩:=hL;replace hc:c=.type "tuple" := hc;replace hd:dt=.seq items n:=hd;subst hc hd;refine callType_new F.called_enumerate nofun (F.typeCall_enumerate_1 _) (F.newCall_enumerate_1 _) (λobj=>F.args_object_init_2 obj _) F.entry_enumerate_new (v3 l items n Al sl) ⟨hl,?_⟩;have hz:(s.heap.push { cls:=.type "tuple_iterator",data:=.fields #[.ref l,.int 0 0] }).objs.size=s.heap.objs.size+1:=j4 ..;show _/\_;rw [hz];have he:IsEnum ((s.heap.push { cls:=.type "tuple_iterator",data:=.fields #[.ref l,.int 0 0] }).push { cls:=.type "enumerate",data:=.fields #[.none,.bool false,.ref s.heap.objs.size,rawInt 0,.none,.none] }) (s.heap.objs.size+1) s.heap.objs.size 0 .none:=by
  have:=cJ (s.heap.push { cls:=.type "tuple_iterator",data:=.fields #[.ref l,.int 0 0] }) (o:={ cls:=.type "enumerate",data:=.fields #[.none,.bool false,.ref s.heap.objs.size,rawInt 0,.none,.none] }) rfl;rw [hz] at this;exact this
 exact⟨⟨_,he,rfl⟩,h _ he ⟨_,bj _ (cJ _ rfl),rfl,rfl⟩ λb o x=>bj _ (bj _ x)⟩
end
def qU (K:aT)(a:Addr):It :=
 ⟨λi H=>∃xs x,aX K H a xs/\xs[i]?=some x,λi H x H'=>∃t y,x=.ref t/\H t=none/\H'=upd H t (.tup [.int (i:Int),y])/\∀xs,aX K H a xs->xs[i]?=some y,λi H=>∃xs,aX K H a xs/\xs.length<=i⟩
def xB {P:Program}{w:World}{K:aT}{elts:List Expr}{k:Nat}{uq:Pos}(a e it:Addr)(NQ:e≠it) :
  Turn P w K (.Tuple elts k uq) (qU K a) [e,it] e (λi h=>(∃old,IsEnum h e it i old)/\h.IsTupleIter it a i) where
 mem:=by simp
 obj:=λi h st b hb=>by
  obtain⟨⟨old,he⟩,o,e1,c,d⟩:=st;rcases bC.mp hb with rfl | hb
  .exact⟨_,he,λv z=>by cases z⟩
  obtain rfl:b=it:=by simpa using hb
  exact⟨o,e1,λv z=>by rw [d] at z;cases z⟩
 keep:=λi h h' st k=>⟨⟨st.1.choose,k e (by simp) _ st.1.choose_spec⟩,st.2.at λo q=>k it (by simp) o q⟩
 item:=by
  intro X hP hw hK hc i af s σ H E I hf st hg;subst hP hw hK;obtain⟨xs,x,hq,hx⟩:=hg;obtain⟨aL,rv,p,hz⟩:=I.tuple hq;obtain⟨u,hu,ru⟩:=rv.get hx;obtain⟨⟨old,he⟩,hit⟩:=st;refine yX he hit (show s.heap.IsTuple a aL.toArray from p) (x:=u) (by simpa using hu) NQ λh1 ho JP hT hk=>?_;refine⟨_,rfl,wpAny_letOwnedTupleGo_enum ho λh2 SN sb=>?_⟩;have ne:s.heap.objs.size≠e:=iY (aP he);have kk:∀b o,b≠e->b≠it->s.heap.get? b=some o->h2.get? b=some o:=λb o n1 n2 q=>(sb.2 b n1).trans (hk b o n1 n2 q);have T2:h2.get? s.heap.objs.size=some { cls:=.type "tuple",data:=.seq #[.int i s.toks,u] }:=(sb.2 _ ne).trans hT;have fe:=hf e (by simp);have fi:=hf it (by simp);have fT:H s.heap.objs.size=none:=I.bo.fresh (aH _);have tr:∀b v,H b=some v->b≠e/\b≠it:=λb v q=>⟨λz=>(by rw [z,fe.1] at q;cases q),λz=>(by rw [z,fi.1] at q;cases q)⟩;have nc:∀b,b∉[e,it]->b≠e/\b≠it:=λb z=>⟨λq=>z (by simp [q]),λq=>z (by simp [q])⟩;have lt:∀b o,s.heap.get? b=some o->b≠s.heap.objs.size:=λb o q=>a_ (aP q);have I2:Inv X af σ (upd H s.heap.objs.size (.tup [.int (i:Int),x])) { s with heap:=h2,toks:=s.toks+1 }:=by
   refine I.call (g':=s.gens) (t':=s.toks+1) (d':=s.drawn) (ch:=[e,it]) ⟨λb o q _ _ c=>kk b o (nc b c).1 (nc b c).2 q,λb o q _ _ c=>⟨o.slots,kk b o (nc b c).1 (nc b c).2 q⟩,
    λb o q n _=>by rw [ai (lt b o q)];exact n,λb o q c=>⟨o,kk b o (nc b c).1 (nc b c).2 q⟩,λb ys q=>by rw [ai (ao q fT)];exact q,λb o v q=>by rw [ai (ao q fT)];exact q,
    λb ps q=>⟨#[],by rw [ai (ao q fT),q];simp⟩⟩ (λb v q=>?_) I.bare (λb hb=>?_)
   .by_cases hb:b=s.heap.objs.size
    .subst hb;rw [ae] at q;cases q;exact⟨by show 2<=sizeLine;decide,[.int i s.toks,u],.cons ⟨_,rfl⟩ (.cons ru .nil),_,T2,rfl,_,rfl⟩
    rw [ai hb] at q;refine(I.bo b v q).gZ (λc o jJ z=>?_) (λc q'=>by rw [ai (ao q' fT)];exact q') λc ys q'=>by rw [ai (ao q' fT)];exact q'
    rcases jJ with rfl | jJ
    .exact kk c o (tr c _ q).1 (tr c _ q).2 z
    exact kk c o (tr c _ jJ).1 (tr c _ jJ).2 z
   rcases bC.mp hb with rfl | hb
   .exact⟨fe.2.2.2.1,fe.2.1,fe.2.2.2.2.1,fe.2.2.2.2.2⟩
   obtain rfl:b=it:=by simpa using hb
   exact⟨fi.2.2.2.1,fi.2.1,fi.2.2.2.2.1,fi.2.2.2.2.2⟩
  refine⟨.ref s.heap.objs.size,_,I2,rfl,⟨_,x,rfl,fT,rfl,λys hy=>by rw [I.rO hy hq];exact hx⟩,⟨⟨_,SN⟩,JP.at λo q=>(sb.2 it NQ.symm).trans q⟩,λb hb=>?_⟩;have uZ:H b=none/\∃o,s.heap.get? b=some o:=by
   rcases bC.mp hb with rfl | hb
   .exact⟨fe.1,_,he⟩
   obtain rfl:b=it:=by simpa using hb
   obtain⟨o,q,_⟩:=hit;exact⟨fi.1,o,q⟩
  obtain⟨n,o,q⟩:=uZ;rw [ai (lt b o q)];exact n
 done:=by
  intro X hP hw hK hc i af s σ H E I hf st hg;subst hP hw hK;obtain⟨xs,hq,hx⟩:=hg;obtain⟨aL,rv,p,hz⟩:=I.tuple hq;obtain⟨⟨old,he⟩,hit⟩:=st;obtain⟨f0,f1,f2,f3,f4,f5⟩:=hf it (by simp);have hl:=rv.length;exact Bo (I.ok.hd hc) he hit (show s.heap.IsTuple a aL.toArray from p) (by simp;omega) λh' eb=>⟨rfl,I.turned (t':=s.toks) (λb o hb e=>eb b o hb e) f0 f1 f3 f4 f5⟩
 self:=λ_ _ _ _ _ st h=>wpAny_pyIter_enum st.1.choose_spec h
def JC (K:aT)(ta:TA):TI:=λσ H R=>ta σ H λvs H1=>UA vs (aX K H1) λa=>R (qU K a) H1
def lF {X:Cx}{elts:List Expr}{k:Nat}{uq:Pos}{l:Expr}{ta:TA}{p pos:Pos}(hg:Gl X "enumerate")(hm:X.mg "enumerate"=none)(ha:PA X [l] ta)(hs:starEach [l] X.env=[(false,eval l X.env)]:=by rfl) :
  PI X (.Tuple elts k uq) (.Call (.Name "enumerate" p) [l] [] pos) (JC X.K ta):=by
 intro af s σ H R I h;refine Call_ (iG I hg hm s_ (um (b8 (ha pos af s σ H _ I h) λus s1 aR=>?_) hs rfl));obtain⟨vs,H1,I1,r1,q1⟩:=aR;obtain⟨a,xs,e,hq,q⟩:=q1;subst e;obtain⟨u,rfl,rx⟩:=r1.one;cases rx;obtain⟨aL,rv,pl,hz⟩:=I1.tuple hq;refine zf (show s1.heap.IsTuple a aL.toArray from pl) λh1 he hit hk=>wpAny_pyIter_enum he ?_;refine⟨s1.heap.objs.size+1,[s1.heap.objs.size+1,s1.heap.objs.size],_,_,H1,rfl,I1.kept (t':=s1.toks) λb o e=>hk b o e,xB a _ _ (iY (kP _)),⟨⟨_,he⟩,hit⟩,λb hb=>?_,q⟩;rcases bC.mp hb with rfl | hb
 .exact I1.u0 (iX _) (I1.bo.fresh (iX _))
 obtain rfl:b=s1.heap.objs.size:=by simpa using hb
 exact I1.u0 (aH _) (I1.bo.fresh (aH _))
open PySem PySem.Spec PyProof.Rows PySem.W
def iR (c':Addr)(qual:Str):HO:=.ext λh=>h.CodeRec (.ref c') qual
def mY (f:Addr)(o:Obj):HO:=.ext λh=>h.get? f=some o
def wM {P:Program}{w:World}{H:Hp}{h:Heap}{c':Addr}{qual:Str}(hr:h.CodeRec (.ref c') qual):bE P w H h c' (iR c' qual):=by
 obtain⟨c2,oc,vs,t,e,w_,hd,hv⟩:=id hr;cases e;exact⟨hr,⟨oc,w_⟩,λh1 h2 ⟨c3,XY,Xb,t3,e3,Sr,gi,Lh⟩ k=>by cases e3;exact⟨_,XY,Xb,t3,rfl,k _ Sr,gi,Lh⟩⟩
def oZ {P:Program}{w:World}{H:Hp}{h:Heap}{f:Addr}{o:Obj}(e:h.get? f=some o):bE P w H h f (mY f o):=⟨e,⟨o,e⟩,λ_ _ q k=>k _ q⟩
def Tab (T:Addr)(pos:Pos)(qual:Str)(H:Hp):Prop :=
 ∃ps,H T=some (.q9 ps)/\TriplesOk ps.toList/\(codeAmong pos ps.toList=none\/∃c',codeAmong pos ps.toList=some (.ref c')/\H c'=some (iR c' qual))
def eF (T:Addr)(H H':Hp):Prop:=∀b o,b≠T->H b=some o->H' b=some o
def qZ (mg:Str->Option Value)(base:Heap):Prop :=
 ∃bm o,mg "__builtins__"=some (.ref bm)/\bm≠builtinsNs/\bm≠mainGlobals/\base.get? bm=some o/\o.cls=.type "module" /\ o.dict=some builtinsNs/\o.data=.plain
theorem iz {a b:Int}{ta tb:Tok}{c:Value}:∀l:List Value,TriplesOk l->TriplesOk (l++[.int a ta,.int b tb,c])
 | [],_=>trivial
 | [x],h=>by cases x <;> exact h.elim
 | [x,y],h=>by cases x <;> cases y <;> exact h.elim
 | x::y::z::r,h=>by
  cases x with
  | int i ti =>
   cases y with
   | int j tj=>exact iz r h
   | _=>exact h.elim
  | _=>exact h.elim
section
variable {X:Cx}{params:Arguments}{body:Expr}{scope:Scope}{pos:Pos}{c T:Addr}
abbrev kc (X:Cx)(params:Arguments)(body:Expr)(scope:Scope)(c':Addr)(eQ:Value):Obj:=kla_obj "<lambda>" (X.env.qual ++ "<lambda>") params body scope [] ((X.mg "__name__").getD .none) c' eQ
def QF (X:Cx)(params:Arguments)(body:Expr)(scope:Scope)(pos:Pos)(T:Addr):TE:=λσ H Q=>Tab T pos (X.env.qual ++ "<lambda>") H /\
 ∀f c' eQ H',eF T H H'->Tab T pos (X.env.qual ++ "<lambda>") H'->H f=none->H' f=some (mY f (kc X params body scope c' eQ))->H' c'=some (iR c' (X.env.qual ++ "<lambda>"))->Q (.ref f) H'
def C4 (qt:X.env.code=.ref c)(hC:codeHdIn X.K c T=true)(hB:qZ X.mg X.base)(lM:∀y∈scope.names,y.2≠.free)(DT:defaultsOf params X.env=([],[]):=by rfl):PE X (.Lambda params body scope pos) (QF X params body scope pos T):=by
 intro af s σ H Q I h;obtain⟨⟨ps,hT,ht,DU⟩,q⟩:=h;refine kla_eval DT ?_;have J0:s.heap.get? T=some (tabObj ps):=(show bE X.prog X.w H s.heap T (.q9 ps) from I.bo T _ hT);have hg:=I.mod.glob.keeps I.bk;have C:=codeHd_of_K I.jI hC;obtain⟨bm,ob,b1,b2,b3,b4,b5,b6,b7⟩:=hB;have Ut:=I.bk _ _ b4;have Rx:bm≠T:=λz=>by
  have:=(I.bs _ _ b4).2;rw [z,hT] at this;cases this
 have Rr:mainGlobals≠T:=λz=>by
  obtain⟨o,es,ep,e,d,_⟩:=hg;rw [z,J0] at e;cases e;cases d
 have N7:s.heap.BuiltinsAt X.mg T:=⟨bm,ob,b1,b2,b3,Rx,Ut,b5,b6,b7⟩;have ES:∀b v,H b=some v->b < s.heap.objs.size:=λb v e=>I.bo.lt e;rcases DU with NF | ⟨c',hf,jJ⟩
 .refine kla_makeFunction (closureFor_none lM) I.ok.glob hg qt C J0 ht NF Rr N7 λc' eQ h' tk hx JS iu DN Nm=>?_;have ZT:∃oc,h'.get? c'=some oc:=by
   obtain⟨c2,oc,vs,t,e,w_,_⟩:=DN;cases e;exact⟨oc,w_⟩
  have qp:h'.objs.size > s.heap.objs.size:=pd JS iu;have keep:∀b o,b≠T->s.heap.get? b=some o->(h'.push (kc X params body scope c' eQ)).get? b=some o:=λb o n e=>bj _ (hx b o n e)
  let H':Hp:=upd (upd (upd H T (.q9 (ps++#[rawInt pos.line,rawInt pos.col,.ref c']))) c' (iR c' (X.env.qual ++ "<lambda>"))) h'.objs.size (mY h'.objs.size (kc X params body scope c' eQ))
  have yB:∀b v,H b=some v->b≠c'/\b≠h'.objs.size:=λb v e=>⟨a_ (dA (ES b v e) JS),a_ (i_ (ES b v e) qp)⟩;have Rw:c'≠h'.objs.size:=a_ iu;have MV:=yB T _ hT;have eT:H' T=some (.q9 (ps++#[rawInt pos.line,rawInt pos.col,.ref c'])):=by
   show upd (upd (upd H T _) c' _) h'.objs.size _ T=_;rw [ai MV.2,ai MV.1,ae]
  have ec:H' c'=some (iR c' (X.env.qual ++ "<lambda>")):=by
   show upd (upd (upd H T _) c' _) h'.objs.size _ c'=_;rw [ai Rw,ae]
  have ef:H' h'.objs.size=some (mY h'.objs.size (kc X params body scope c' eQ)):=ae;have eo:∀b,b≠T->b≠c'->b≠h'.objs.size->H' b=H b:=λb n1 n2 n3=>by
   show upd (upd (upd H T _) c' _) h'.objs.size _ b=_;rw [ai n3,ai n2,ai n1]
  have sT:eF T H H':=λb o n e=>by rw [eo b n (yB b o e).1 (yB b o e).2];exact e
  have I2:Inv X af σ H' { s with heap:=h'.push (kc X params body scope c' eQ),toks:=tk }:=by
   refine I.call (g':=s.gens) (t':=tk) (d':=s.drawn) (ch:=[]) ⟨λb o e n _ _=>keep b o (λz=>by rw [z,hT] at n;cases n) e,λb o e n _ _=>⟨o.slots,keep b o (λz=>by rw [z,hT] at n;cases n) e⟩,λb o e n _=>?_,λb o e _=>?_,λb xs e=>?_,λb o u e=>?_,λb Q4 e=>?_⟩ (λb v e=>?_) I.bare (λb hb=>nomatch hb)
   .have lb:=aP e;rw [eo b (λz=>by rw [z,hT] at n;cases n) (a_ (dA lb JS)) (a_ (i_ lb qp))];exact n
   .by_cases z:b=T
    .exact⟨_,by rw [z];exact bj _ Nm⟩
    exact⟨o,keep b o z e⟩
   .exact sT b _ (λz=>by rw [z,hT] at e;cases e) e
   .exact sT b _ (λz=>by rw [z,hT] at e;cases e) e
   .by_cases z:b=T
    .subst z;rw [hT] at e;cases e;exact⟨_,eT⟩
    exact⟨#[],by rw [tR];exact sT b _ z e⟩
   by_cases z1:b=h'.objs.size
   .subst z1;rw [ef] at e;cases e;exact oZ (cJ _ rfl)
   by_cases z2:b=c'
   .subst z2;rw [ec] at e;cases e;refine wM ?_;obtain⟨c2,oc,vs,t,e',w_,hd,hv⟩:=DN;cases e';exact⟨_,oc,vs,t,rfl,bj _ w_,hd,hv⟩
   by_cases z3:b=T
   .subst z3;rw [eT] at e;cases e;exact bj _ Nm
   rw [eo b z3 z2 z1] at e;refine(I.bo b v e).gZ (λd o Bi e'=>?_) (λd e'=>sT d _ (λz=>by rw [z,hT] at e';cases e') e') λd ys e'=>sT d _ (λz=>by rw [z,hT] at e';cases e') e';rcases Bi with rfl | Bi
   .exact keep d o z3 e'
   exact keep d o (λz=>by rw [z,hT] at Bi;cases Bi) e'
  have fresh:H h'.objs.size=none:=I.bo.fresh (i9 qp);exact⟨.ref h'.objs.size,H',I2,rfl,q _ c' eQ H' sT ⟨_,eT,by rw [tW];exact iz _ ht,.inr ⟨c',by rw [tW];exact codeAmong_snoc _ ht NF,ec⟩⟩ fresh ef ec⟩
 refine kla_makeFunctionHit (closureFor_none lM) I.ok.glob hg qt C J0 ht hf N7 λeQ h' tk hk hsz=>?_;have keep:∀b o,s.heap.get? b=some o->(h'.push (kc X params body scope c' eQ)).get? b=some o:=λb o e=>bj _ (hk b o e);have fresh:H h'.objs.size=none:=I.bo.fresh hsz;refine⟨.ref h'.objs.size,_,I.laid (a:=h'.objs.size) (o:=mY h'.objs.size (kc X params body scope c' eQ)) (t':=tk) keep hsz (oZ (cJ _ rfl)),rfl,?_⟩;refine q _ c' eQ _ (λb o _ e=>by rw [ai (ao e fresh)];exact e) ⟨ps,by rw [ai (ao hT fresh)];exact hT,ht,.inr ⟨c',hf,by rw [ai (ao jJ fresh)];exact jJ⟩⟩ fresh ae (by rw [ai (ao jJ fresh)];exact jJ)
end
section
variable {P:Program}{w:World}{K:Frag}{mg:Str->Option Value}{base:Heap}{f c':Addr}{q:Str}{params:Arguments}{body:Expr}{scope:Scope}{pm eQ:Value}{N ps:List Str}{k:Nat}{te:TE}
def FZ (S:aJ N ps scope)(lP:∀us:List Value,us.length=ps.length->bindArgs (kla_fn "<lambda>" q params body scope [] pm (.ref c') eQ) ⟨us,[]⟩=pure (ps.zip us))
  (gb:∀(A:Around)(outer:List Env)(s:Shared)(H:Hp),PE (d6 fk P w K mg base N q scope f (.ref c') A outer s H λ_ _ _=>False) body te)
  (A:Around)(outer:List Env)(s:Shared)(H:Hp)(us:List Value)(vs:List V)(Q:VK)(hr:cX (k+1) A)(e0:oK P w K mg base A outer s H)(hf:H f=some (mY f (kla_obj "<lambda>" q params body scope [] pm c' eQ)))
  (hc:H c'=some (iR c' q))(rv:aO vs us)(hl:vs.length=ps.length)(h:te (start N vs) H Q):codeAny (model P w) A (.call (.ref f) ⟨us,[]⟩) (CR fk outer P w H s Q λ_ _ _=>False) s:=by
 obtain⟨ef,_⟩:=e0.bo f _ hf;obtain⟨ec,_⟩:=e0.bo c' _ hc;have lu:us.length=ps.length:=by rw [<-rv.length];exact hl
 have lim:s.heap.NoLimit:=e0.mod.nolimit.keeps λb o e=>(e0.bs b o e).1;have ig:∀y∈ps.zip us,scope.names.lookup y.1=some .local\/(scope.names.lookup y.1=some .cell/\((cellsFrom (s.heap.objs.size+1) scope.names []).lookup y.1).isSome=true):=λ⟨n,v⟩ hy=>by
  rcases S.par n (List.of_mem_zip hy).1 with z | z
  .exact .inl z
  exact .inr ⟨z,cellsFrom_some _ _ _ (.inl z)⟩
 refine kla_callFunE hr.depth ef rfl S.co S.gen rfl ec ?_;rw [lP us lu];refine aK (wpAny_newFunctionEnv_cells S.kind ig λenv he s1 x=>?_);subst he;refine⟨lim.keeps x.toInCall.keep,kla_codeExpr ?_⟩;have I:Inv (d6 fk P w K mg base N q scope f (.ref c') A outer s H λ_ _ _=>False) [] (start N vs) H s1:=sI S hr.hd e0 hl rv x;refine bY (gb A outer s H [] s1 (start N vs) H _ I h) (λv s' aR=>?_) λe s' z=>z;obtain⟨y,H',J,r,z⟩:=aR;exact⟨y,H',J.os,J.bare,J.base,J.bo,r,z⟩
end
section
variable {X:Cx}{i:Nat}{x:Str}{e:Expr}{es:List Expr}{t:TA}{p pos:Pos}{q:Str}{params:Arguments}{body:Expr}{scope:Scope}{N ps:List Str}{k:Nat}{te:TE}
def Cd (i:Nat)(q:Str)(params:Arguments)(body:Expr)(scope:Scope) (N ps:List Str)(t:TA)(te:TE):TE:=λσ H Q=>∃f pm c' eQ,σ[i]?=some (some (.ref f)) /\
 t σ H λvs H1=>H1 f=some (mY f (kla_obj "<lambda>" q params body scope [] pm c' eQ))/\H1 c'=some (iR c' q)/\vs.length=ps.length/\te (start N vs) H1 Q
def yf (hN:X.N[i]?=some x)(hx:X.env.scope.names.lookup x=some .local)(S:aJ N ps scope)(hr:cX (k+1) X.A)
  (lP:∀(pm eQ:Value)(c':Addr)(us:List Value),us.length=ps.length->bindArgs (kla_fn "<lambda>" q params body scope [] pm (.ref c') eQ) ⟨us,[]⟩=pure (ps.zip us))
  (gb:∀(f c':Addr)(A:Around)(outer:List Env)(s:Shared)(H:Hp),PE (d6 fk X.prog X.w X.K X.mg X.base N q scope f (.ref c') A outer s H λ_ _ _=>False) body te)(ha:PA X (e::es) t)
  (qr:(x == ("__debug__":Str))=false:=by decide)(he:starEach (e::es) X.env=(false,eval e X.env)::starEach es X.env:=by rfl)(ni:(backTo pos (starEach es X.env)).any (·.1)=false:=by rfl) :
  PE X (.Call (.Name x p) (e::es) [] pos) (Cd i q params body scope N ps t te):=by
 intro af s σ H Q I h;obtain⟨f,pm,c',eQ,hσ,h⟩:=h;obtain⟨m,hn,hl⟩:=I.loc;obtain⟨u,ru,lk⟩:=hl i x (.ref f) hN hσ (.inl hx);cases (show u=Value.ref f from ru);have hm:m x=some (.ref f):=by
  rcases lk with l | ⟨l,_⟩
  .exact l.2
  have l':X.env.scope.names.lookup x=some .cell\/X.env.scope.names.lookup x=some .free:=l;rw [hx] at l';rcases l' with l' | l' <;> cases l'
 refine kQ (wpAny_Name (tV I.ok.kind hx hn hm ?_) qr);refine callWith_def (o:=kla_obj "<lambda>" q params body scope [] pm c' eQ) rfl (b8 (ha pos af s σ H _ I h) λus s1 aR=>?_) he;obtain⟨vs,H1,I1,r,z1,z2,z3,z4⟩:=aR;obtain⟨ef,_⟩:=I1.bo f _ z1;refine⟨ef,gN (iw (FZ (k:=k) S (λus hl=>lP pm eQ c' us hl) (gb f c') X.A X.stack s1 H1 us vs Q hr I1.Eg z1 z2 r z3 z4) λr' s' z=>?_)⟩;cases r' with
 | error e=>exact z.elim
 | ok fl =>
  cases fl with
  | ret u=>exact I1.after z
  | next=>exact z.elim
  | brk=>exact z.elim
  | cont=>exact z.elim
end
def EK (ts:List Addr)(H:Hp):Prop:=∀b,H b=none\/(∃o xs,H b=some (.iV o (.lst xs)))\/(b∈ts/\H b=some (.q9 #[]))
def A8 {P:Program}{w:World}{K:Frag}{mg mb:Str->Option Value}{CX:tJ}{k:Nat}{fa a:Addr}{fd:FuncData}{x:Str}{sp:Sp}{s₁:Shared}{vs:List Value}{ns:List Int}{ts:List Addr}
  (KX:K.In s₁.heap)(sN:s₁.heap.Ns mainGlobals mg)(hb:s₁.heap.Ns builtinsNs mb)(JY:∀x:Str,x ≠ "__name__" -> mb x=bootBuiltins x)(JO:s₁.heap.NoLimit)
  (ZU:∃bm ob,mg "__builtins__"=some (.ref bm)/\bm≠builtinsNs/\s₁.heap.get? bm=some ob/\ob.cls=.type "module" /\ ob.dict=some builtinsNs/\ob.data=.plain)(hg:s₁.gens=#[])
  (JE:∀T∈ts,s₁.heap.get? T=some (tabObj #[])/\K.lookup T=none/\∃c,codeHdIn K c T=true)
  (ha:s₁.heap.get? a=some { cls:=.type "list",data:=.seq vs.toArray })(hi:IntsAre vs ns)(hl:ns.length<=sizeLine)(hr:cX k callerA)
  (F:∀base:Heap,K.In base->base.Ns mainGlobals mg->qZ mg base->bf P w K mg base CX k fa fd [x] sp)(lP:∀(s:Shared)(u:Value),BindsTo s fd ⟨[u],[]⟩ [(x,u)])
  (sM:∀H:Hp,EK ts H->(∀T∈ts,H T=some (.q9 #[]))->aD K H a (ns.map V.int)->sp [.ref a] H (λv _=>v=.bl true) λ_ _ _=>False)
  (Ke:∀H e s',CX [] H s₁ (λ_ _ _=>False) e s'->False) :
  codeAny (model P w) callerA (.call (.ref fa) ⟨[.ref a],[]⟩) (λr s'=>r=.ok (.ret (.bool true))/\OldK s₁.heap s'.heap/\s'.os=s₁.os/\AllBare s'.gens) s₁:=by
 have rv:=mJ hi;have Jt:=hi.length;have core:∀H:Hp,EK ts H->(∀T∈ts,H T=some (.q9 #[]))->aD K H a (ns.map V.int)->jM P w H s₁.heap->(∀b,H b≠none->b=a\/b∈ts)->(H a≠none->K.lookup a=none) ->
   codeAny (model P w) callerA (.call (.ref fa) ⟨[.ref a],[]⟩) (λr s'=>r=.ok (.ret (.bool true))/\OldK s₁.heap s'.heap/\s'.os=s₁.os/\AllBare s'.gens) s₁:=by
  intro H hO hT hS bo hA hK;have jE:∀{b:Addr}{o:Obj},s₁.heap.get? b=some o->H b=none->(kq s₁.heap H).get? b=some o:=λe n=>wc e n;have off:∀{b:Addr}{o:Obj},s₁.heap.get? b=some o->(∀aL n,o.data≠.seq aL n)->(∀fs,o.data≠.fields fs)->H b=none:=λ{b o} e d1 d2=>by
   cases q:H b with
   | none=>rfl
   | some u =>
    rcases hA b (by rw [q];simp) with e' | e'
    .subst e';rw [ha] at e;cases e;exact(d1 _ _ rfl).elim
    rw [(JE b e').1] at e;cases e;exact(d2 _ rfl).elim
  have FR:∀{b:Addr}{m:Str->Option Value},s₁.heap.Ns b m->(kq s₁.heap H).Ns b m:=λ{b m} ⟨o,es,ep,e,d,r⟩=>⟨o,es,ep,jE e (off e (λ_ _ z=>by rw [d] at z;cases z) λ_ z=>by rw [d] at z;cases z),d,r⟩;have N2:K.In (kq s₁.heap H):=λb o e=>jE (KX b o e) (by
   cases q:H b with
   | none=>rfl
   | some u =>
    rcases hA b (by rw [q];simp) with e' | e'
    .subst e';rw [hK (by rw [q];simp)] at e;cases e
    rw [(JE b e').2.1] at e;cases e)
  have hM:Mod K mg (kq s₁.heap H):=⟨N2,FR sN,⟨mb,FR hb,JY⟩,let ⟨mc,h1,h2⟩:=JO;⟨mc,FR h1,h2⟩⟩;have N6:qZ mg (kq s₁.heap H):=by
   obtain⟨bm,ob,b1,b2,b3,b4,b5,b6⟩:=ZU;refine⟨bm,ob,b1,b2,λz=>?_,jE b3 (off b3 (λ_ _ z=>by rw [b6] at z;cases z) λ_ z=>by rw [b6] at z;cases z),b4,b5,b6⟩;obtain⟨o,es,ep,e,d,_⟩:=sN;rw [<-z,b3] at e;cases e;rw [b6] at d;cases d
  have e0:oK P w K mg (kq s₁.heap H) callerA [] s₁ H:=⟨rfl,hM,λb o e=>z7 e,Nat.le_of_eq (sO _ _),trivial,λb hb=>absurd (show b∈([]:List Addr) from hb) (by simp),bo,.of_eq hg⟩;refine iw ((F _ N2 (FR sN) N6).run callerA [] s₁ H ⟨[.ref a],[]⟩ [.ref a] [.ref a] _ _ hr e0 (lP s₁ (.ref a)) (.cons rfl .nil) (sM H hO hT hS)) λr s' h=>?_;cases r with
  | error e=>exact(Ke H e s' h).elim
  | ok fl =>
   cases fl with
   | next=>exact False.elim h
   | brk=>exact False.elim h
   | cont=>exact False.elim h
   | ret u =>
    obtain⟨v,H',os,bare,un,F_,r',q⟩:=h;have q':v=.bl true:=q;subst q';obtain rfl:u=Value.bool true:=r';have each:∀b o,s₁.heap.get? b=some o->asItWas s₁.heap s'.heap b o/\∃o',s'.heap.get? b=some o':=λb o e=>by
     cases q:H b with
     | none =>
      have z:=un.keep b o e q (by intro z;exact absurd (show b∈([]:List Addr) from z) (by simp)) (by simp);exact⟨.inl z,o,z⟩
     | some u =>
      rcases hO b with z | ⟨ob,xs,z⟩ | ⟨uZ,z⟩
      .rw [q] at z;cases z
      .have z2:=un.jq b ob _ z;obtain⟨e1,_⟩:=bo b _ z;obtain⟨e2,_⟩:=F_ b _ z2;rw [e] at e1;cases e1;exact⟨.inl e2,_,e2⟩
      obtain⟨more,z2⟩:=un.jG b _ z;have e2:s'.heap.get? b=some (tabObj (#[]++more)):=F_ b _ z2;rw [(JE b uZ).1] at e;cases e;obtain⟨c,hc⟩:=(JE b uZ).2.2;obtain⟨oc,Xc,file,tf,flags,tg,inF,text,tt,d1,d2,d3,d4,_⟩:=codeHd_of_K KX hc;exact⟨.inr (.inl ⟨⟨c,oc,Xc,d1,d2,d3,d4⟩,rfl,#[],more,rfl,e2⟩),_,e2⟩
    exact⟨rfl,⟨λb o e=>(each b o e).1,λb o e=>(each b o e).2⟩,os,bare⟩
 have na:a∉ts:=λz=>by
  have:=(JE a z).1;rw [ha] at this;cases this
 cases hk:K.lookup a with
 | some o =>
  have e:=KX a o hk;rw [ha] at e;cases e;refine core (λb=>if b∈ts then some (.q9 #[]) else none) (λb=>?_) (λT h=>aw h) (.inr ⟨_,vs.toArray,_,hk,rfl,rfl,rfl,by rw [bI,Jt];exact hl,by simpa using rv⟩) (λb u z=>?_) (λb z=>?_) λz=>absurd (ay na) z
  .by_cases h:b∈ts
   .exact .inr (.inr ⟨h,aw h⟩)
   exact .inl (ay h)
  .by_cases h:b∈ts
   .have z':=(aw h).symm.trans z;cases z';exact(JE b h).1
   have z':=(ay h).symm.trans z;cases z'
  by_cases h:b∈ts
  .exact .inr h
  exact absurd (ay h) z
 | none =>
  refine core (λb=>if b=a then some (.iV { cls:=.type "list",data:=.seq vs.toArray } (.lst (ns.map V.int))) else if b∈ts then some (.q9 #[]) else none) (λb=>?_) (λT h=>?_) (.inl (.inr ⟨{ cls:=.type "list",data:=.seq vs.toArray },aw rfl⟩)) (λb u z=>?_) (λb z=>?_) λ_=>hk
  .by_cases hb:b=a
   .exact .inr (.inl ⟨_,_,aw hb⟩)
   by_cases h:b∈ts
   .exact .inr (.inr ⟨h,(ay hb).trans (aw h)⟩)
   exact .inl ((ay hb).trans (ay h))
  .exact(ay (λz:T=a=>na (z ▸ h))).trans (aw h)
  .by_cases hb:b=a
   .have z':=(aw hb).symm.trans z;cases z';subst hb;exact⟨ha,by rw [az];exact hl,vs,_,rv,ha⟩
   by_cases h:b∈ts
   .have z':=((ay hb).trans (aw h)).symm.trans z;cases z';exact(JE b h).1
   have z':=((ay hb).trans (ay h)).symm.trans z;cases z'
  by_cases hb:b=a
  .exact .inl hb
  by_cases h:b∈ts
  .exact .inr h
  exact absurd ((ay hb).trans (ay h)) z
def B_ {l:OpenLaw}{n k:Nat}{q:Program}{loose:List Str}{XP:(Str->Option Value)->Heap->Prop}{YP:World->Heap->Prop}{d:DefRec}{K:Params->Frag}{CX:World->tJ}{sp:World->Sp}{x:Str}{ts:List Addr}
  (hn:l.most=some n)(Bd:n<=sizeLine)(JU:d.params.defaults=[])(hr:cX k callerA)
  (hY:∀(w:World)(h:Heap),YP w h->(K w.params).In h/\∀T∈ts,h.get? T=some (tabObj #[]))
  (hK:∀w:World,∀T∈ts,(K w.params).lookup T=none/\∃c,codeHdIn (K w.params) c T=true)
  (F:∀(w:World)(mg:Str->Option Value)(fa:Addr)(h:Heap),(K w.params).In h->h.Ns mainGlobals mg->mg d.name=some (.ref fa) ->
   ∃fd:FuncData,(∀(s:Shared)(u:Value),BindsTo s fd ⟨[u],[]⟩ [(x,u)]) /\
    ∀base:Heap,(K w.params).In base->base.Ns mainGlobals mg->qZ mg base->bf l.prog w (K w.params) mg base (CX w) k fa fd [x] (sp w))
  (sM:∀(w:World)(H:Hp)(a:Addr)(ns:List Int),ns.length<=n->EK ts H->(∀T∈ts,H T=some (.q9 #[]))->aD (K w.params) H a (ns.map V.int)->sp w [.ref a] H (λv _=>v=.bl true) λ_ _ _=>False)
  (Ke:∀(w:World)(H:Hp)(s:Shared)(e:Value)(s':Shared),CX w [] H s (λ_ _ _=>False) e s'->False) :
  WalkO q loose XP YP l.row.toRowW d [] (λf vs=>PySem.call f vs):=by
 refine Fe.oq hn JU λw s₀ s₁ mg mb fa o pm cd doc a vs ns G Y ho hd qv JN DO hints aZ hg=>?_;obtain⟨KX,TX⟩:=hY w _ Y;obtain⟨fd,hb,hF⟩:=F w mg fa _ KX G.T.g JN;exact A8 KX G.T.g G.T.b G.T.builtins G.T.nolimit G.T.bmain hg (λT hT=>⟨TX T hT,hK w T hT⟩) DO hints (cz aZ Bd) hr hF hb (λH hO hT hS=>sM w H a ns aZ hO hT hS) λH e s'=>Ke w H s₁ e s'
def a9 {X:Cx}{scope:Scope}{js:List (Nat×Str)}(h:(js.all λp=>X.N[p.1]? == some p.2 && X.env.scope.names.lookup p.2 == some .cell && scope.names.lookup p.2 == some .free)=true)
  (h2:(scope.names.all λy=>y.2 != .free || X.env.scope.names.lookup y.1 == some .cell)=true):G4 X scope js:=by
 refine⟨λp hp=>?_,λy hy=>?_⟩
 .have:=eY.mp h p hp;simp only [jQ,beq_iff_eq] at this;exact⟨this.1.1,this.1.2,this.2⟩
 have:=eY.mp h2 _ hy;simpa using this
def wm {σ:St}{H:Hp}{A B:Hp->Prop}(h:A H):gQ σ H λb H3=>if b=true then A H3 else B H3:=by
 show if true=true then A H else B H;exact qm h
def goN {i:Nat}{v:V}{σ:St}{H:Hp}{Q:St->Hp->Prop}(h:Q (σ.set i (some v)) H):cY i v σ H Q:=h
def nZ (x y:Str):(x++y).length=x.length+y.length:=by
 show (x.cps++y.cps).size=_;rw [Array.size_append];rfl
def Es (ns:List Int)(lo hi:Option Int):∃j7:List Int,oH (ns.map V.int) lo hi=j7.map V.int/\(∀n∈j7,n∈ns)/\j7.length<=ns.length :=
 ⟨(ns.drop (HT.kC (ns.map V.int).length 0 lo)).take (HT.kC (ns.map V.int).length (ns.map V.int).length hi - HT.kC (ns.map V.int).length 0 lo),by unfold oH;rw [<-List.map_drop,<-List.map_take],λn hn=>List.mem_of_mem_drop (rJ hn),by rw [dI,pF];omega⟩
def v9 {X:Cx}(K:aT)(hK:X.K=K:=by rfl):GX X (MC K):=by
 subst hK;exact cH
def gU {X:Cx}{es:List Expr}{k:Nat}{t:Ig}{n:Nat}{pos:Pos}(K:aT)(hc:X.calm=true)(h:OS X es t)(hK:X.K=K:=by rfl)
  (hn:(assignEach es X.env).length=n:=by rfl)(iU:(assignEach es X.env).findIdx? (·.1)=none:=by rfl):PG X (.Tuple es k pos) (Bm K n t):=by
 subst hK;exact eJ hc h hn iU
end L2
section
variable {P:PySem.Program}{w:PySem.World}{K:aT}{mg:PySem.Str->Option PySem.Value}{base:PySem.Heap}{f:PySem.Addr}{fd:PySem.FuncData}
namespace eG
open PySem L2
def top (i:Nat):Stmt:=PySem.Challenge.pw_wright_k12_endless_and_unmet.main.body.getD i (.Pass ⟨0,0,0,0⟩)
abbrev xT:Stmt:=top 2
abbrev xI:Stmt:=top 3
abbrev pY:Stmt:=top 7
abbrev uD:Stmt:=top 8
abbrev xV:Stmt:=top 9
abbrev CB:Stmt:=top 19
abbrev xO:Stmt:=top 20
abbrev IP:Stmt:=top 21
abbrev pV:Stmt:=top 23
abbrev uF:Stmt:=top 24
abbrev k_:Stmt:=top 25
abbrev uC:Stmt:=top 28
abbrev xM:Stmt:=top 29
abbrev IS:Stmt:=top 30
abbrev CC:Stmt:=top 37
abbrev CA:Stmt:=top 4
abbrev IQ:Stmt:=top 5
abbrev lg:Stmt:=top 32
abbrev mQ:Stmt:=top 33
abbrev pX:Stmt:=top 34
abbrev XE:Stmt:=top 35
structure Txt (mg:Str->Option Value):Prop where
 len:mg "len"=none
 Hg:mg "range"=none
 Lb:mg "isinstance"=none
 tup:mg "tuple"=none
 lst:mg "list"=none
 Al:mg "dict"=none
 all:mg "all"=none
 any:mg "any"=none
 str:mg "str"=none
 int:mg "int"=none
 boo:mg "bool"=none
 Gv:mg "enumerate"=none
 sum:mg "sum"=none
 max:mg "max"=none
 min:mg "min"=none
section
def boot_all:bootBuiltins "all"=some (.builtin "all"):=by decide +kernel
def eB:bootBuiltins "list"=some (.type "list"):=by decide +kernel
def eC:bootBuiltins "dict"=some (.type "dict"):=by decide +kernel
end
end eG
namespace L2
open PySem
def aW {K:aT}{H:Hp}{D a:Addr}{xs ys:List V}{o:HO}(hD:H D=some (.lst ys))(h:aX K H a xs):aX K (upd H D o) a xs:=by
 rcases h with (h | ⟨u,h⟩) | h
 .exact .inl (.inl (by rw [ai (λz=>by rw [z,hD] at h;cases h)];exact h))
 .exact .inl (.inr ⟨u,by rw [ai (λz=>by rw [z,hD] at h;cases h)];exact h⟩)
 exact .inr h
def vc (kvs:List (aF×V))(k:aF):(kvs.any λkv=>decide (kv.1=k))=true↔k∈kvs.map (·.1):=by
 rw [List.any_eq_true,b_];constructor
 .rintro⟨x,h1,h2⟩;exact⟨x,h1,eh h2⟩
 rintro⟨x,h1,h2⟩;exact⟨x,h1,dO h2⟩
def ya {kvs:List (aF×V)}{k:aF}{v:V}(h:k∈kvs.map (·.1)):(bc kvs k v).map (·.1)=kvs.map (·.1):=by
 unfold bc;rw [aw ((vc kvs k).mpr h),g_];refine List.map_congr_left λx hx=>?_;show (if x.1=k then (x.1,v) else x).1=x.1
 split <;> rfl
def gA {kvs:List (aF×V)}{k:aF}{v:V}(h:¬k∈kvs.map (·.1)):(bc kvs k v).map (·.1)=kvs.map (·.1)++[k]:=by
 unfold bc;rw [ay (λz=>h ((vc kvs k).mp z)),br];rfl
def dM (kvs:List (aF×V))(k:aF):(aV kvs k).isSome=true↔k∈kvs.map (·.1):=by
 rw [<-hV];exact vc kvs k
theorem cf {α β γ:Type}{F:α->β->Prop}{G:α->γ->Prop}{φ:β->γ}:∀{xs:List α}{ys:List β},Paired F xs ys->(∀a b,F a b->G a (φ b))->Paired G xs (ys.map φ)
 | _,_,.nil,_=>.nil
 | _,_,.cons h t,k=>.cons (k _ _ h) (cf t k)
def cw {z:Str}{l:List Str}:(Sum.inr z:aF)∈l.map Sum.inr↔z∈l:=by
 rw [b_];constructor
 .rintro⟨x,h1,h2⟩;rw [<-jY h2];exact h1
 intro h;exact⟨z,h,rfl⟩
end L2
namespace M11
abbrev av:=PySem.Str×List PySem.Str
def fh (a:List PySem.Str)(h:PySem.Str):List PySem.Str:=if h∈a then a else a++[h]
def jK (a7 hs:List PySem.Str):List PySem.Str:=hs.foldl fh a7
def addW (aN a:List PySem.Str)(p:PySem.Str):List PySem.Str:=if p∈aN then a else fh a p
def pM (aN a7 ps:List PySem.Str):List PySem.Str:=ps.foldl (addW aN) a7
def Lc (aa:List av)(name:PySem.Str) (k:Nat):Bool:=decide ((aa[k]?.map (·.1))=some name)
def nums (aa:List av)(name:PySem.Str) (i:Nat):List Int:=((List.range i).filter (Lc aa name)).map λk:Nat=>(k:Int)
def AX (aa:List av)(name:PySem.Str) (i:Nat):nums aa name (i+1)=nums aa name i++(if Lc aa name i=true then [(i:Int)] else []):=by
 unfold nums;rw [List.range_succ,kR,br]
 congr 1
 by_cases h:Lc aa name i=true
 .rw [aw h];simp [h]
 rw [ay h];simp [h]
def vQ (aa:List av)(name:PySem.Str) (i:Nat):(nums aa name i).length<=i:=by
 unfold nums;rw [az];have:=iM (Lc aa name) (List.range i);rw [tP] at this;exact this
def wU (a:List PySem.Str)(h:PySem.Str):(fh a h).length<=a.length+1:=by
 unfold fh;split <;> simp
theorem fg:∀(hs a7:List PySem.Str),(jK a7 hs).length<=a7.length+hs.length
 | [],a7=>by simp [jK]
 | h::r,a7=>by
  have:=fg r (fh a7 h);have:=wU a7 h;show (jK (fh a7 h) r).length<=_;rw [dw];omega
def EA (aN a:List PySem.Str)(p:PySem.Str):(addW aN a p).length<=a.length+1:=by
 unfold addW;split
 .omega
 exact wU a p
theorem uo (aN:List PySem.Str):∀(ps a7:List PySem.Str),(pM aN a7 ps).length<=a7.length+ps.length
 | [],a7=>by simp [pM]
 | p::r,a7=>by
  have:=uo aN r (addW aN a7 p);have:=EA aN a7 p;show (pM aN (addW aN a7 p) r).length<=_;rw [dw];omega
end M11
namespace eG
open PySem L2 M11
def jm {a7:List (aF×V)}{as:List Str}(e:a7.map (·.1)=as.map Sum.inr)(h:Str){v:V}:(bc a7 (Sum.inr h) v).map (·.1)=(fh as h).map Sum.inr:=by
 unfold fh;by_cases q:h∈as
 .rw [aw q,ya (by rw [e];exact cw.mpr q),e]
 rw [ay q,gA (by rw [e];exact λz=>q (cw.mp z)),e,br];rfl
theorem lK:∀(hs:List Str)(a7:List (aF×V)) (as:List Str),a7.map (·.1)=as.map Sum.inr->(cA (hs.map λh=>((Sum.inr h:aF),V.bl true)) a7).map (·.1)=(jK as hs).map Sum.inr
 | [],a7,as,e=>e
 | h::r,a7,as,e=>by
  refine lK r (bc a7 (Sum.inr h) (.bl true)) (fh as h) ?_;exact jm e h
def keys_str {kvs:List (aF×V)}{zs:List Str}(e:kvs.map (·.1)=zs.map Sum.inr):(kvs.map λp=>kV p.1)=zs.map V.str:=by
 have e2:(kvs.map λp=>kV p.1)=(kvs.map (·.1)).map kV:=by rw [g_];rfl
 rw [e2,e,g_];rfl
section
def Aw (K:aT)(H:Hp)(r:Addr)(ru:av):Prop:=∃p,aX K H r [.str ru.1,.ref p]/\aX K H p (ru.2.map V.str)
def bN (K:aT)(H:Hp)(rs:List Addr)(aa:List av):Prop:=Paired (λr ru=>Aw K H r ru) rs aa
def bN.keep {H H':Hp}{rs:List Addr}{aa:List av}(h:bN K H rs aa)(k:∀a xs,aX K H a xs->aX K H' a xs):bN K H' rs aa:=Paired.d_ h λr ru ⟨p,a,b⟩=>⟨p,k _ _ a,k _ _ b⟩
def bN.same {H H':Hp}{rs:List Addr}{aa:List av}(h:bN K H rs aa)(s:aB H H'):bN K H' rs aa:=h.keep λ_ _ z=>s.tup z
def bN.get {H:Hp}{rs:List Addr}{aa:List av}(h:bN K H rs aa){i:Nat}{r:Addr}(e:rs[i]?=some r):∃ru,aa[i]?=some ru/\Aw K H r ru:=by
 have l:=bF h;have li:=(ba.mp e).1;have e2:aa[i]?=some (aa[i]'∅):=dJ ∅;obtain⟨x,e3,e4⟩:=Paired.at_ h i _ e2;rw [e] at e3;cases e3;exact⟨_,e2,e4⟩
def qK {H:Hp}{R D:Addr}{rs:List Addr}{aa:List av}{σ:St}{Qp:Hp->Prop}(hR:aD K H R (rs.map V.ref))(df:bN K H rs aa)(aZ:aa.length<=1000)(hD:H D=none)
  (q:∀ts H2,aB H H2->H2 D=some (.lst (ts.map V.ref))->Paired (λt h=>aX K H2 t [.str h,.bl true]) ts (aa.map (·.1))->Qp H2) :
  ∃W:Nat->Nat->List V->St->Hp->Prop,(∃m,W 0 m [] (cZ ["head","parts"] [] σ) (upd H D (.lst []))) /\
 ∀i m ys σ' H,W i m ys σ' H->((iS K R).stop i H/\Qp H)\/((iS K R).go i H/\∃m',m' < m/\∀x H',(iS K R).kA i H x H'->Bm K 2 (jo (cY 0) (jo (cY 1) DZ)) x σ' H' λσ2 H2=>gQ σ2 H2 λb H3 =>
  if b=true then rb (fc (e_ 0) (fc (tC (.bl true)) pP)) σ2 H3 λy H4=>H4 D=some (.lst ys)/\ys.length < sizeLine/\W (i+1) m' (ys++[y]) σ2 (upd H4 D (.lst (ys++[y]))) else W (i+1) m' ys σ2 H3):=by
 have ll:=bF df;refine bH (xs:=rs.map V.ref) (λi ys σ2 H2=>∃ts:List Addr,ys=ts.map V.ref/\ts.length=i/\Paired (λt h=>aX K H2 t [.str h,.bl true]) ts ((aa.take i).map (·.1))/\(∃y0 y1,σ2=[y0,y1])/\aB H H2/\H2 D=some (.lst ys))
  ⟨[],rfl,rfl,.nil,⟨none,none,rfl⟩,ag hD _,ae⟩ (λi ys σ2 H2 _ h=>?_) (λi x ys σ2 H2 ex h=>?_) (λys σ2 H2 h=>?_)
 .obtain⟨_,_,_,_,_,sm,_⟩:=h;exact sm.seq hR
 .obtain⟨ts,rfl,ht,hp,⟨y0,y1,rfl⟩,sm,hd⟩:=h;rw [bh] at ex;obtain⟨r,er,rfl⟩:=bR.mp ex;obtain⟨ru,e1,p,v1,v2⟩:=df.get er;have li:=(ba.mp e1).1;refine⟨r,_,rfl,sm.tup v1,rfl,_,_,rfl,_,_,rfl,rfl,?_⟩;refine wm ?_;refine⟨_,rfl,ou,λt iP=>⟨?_,bA (by rw [az];omega),ts++[t],?_,?_,?_,⟨_,_,rfl⟩,?_,ae⟩⟩
  .rw [ai (ao hd iP)];exact hd
  .rw [br];rfl
  .rw [cC,ht];rfl
  .rw [cu,e1,br];have gi:upd H2 t (.tup [.str ru.1,.bl true]) D=some (.lst (ts.map V.ref)):=by rw [ai (ao hd iP)];exact hd
   exact eW (Paired.d_ hp λt' h' z=>aW gi ((ag iP _).tup z)) (aW gi (aX.of ae))
  intro b o hb;rw [ai (λz=>by rw [z,hD] at hb;cases hb)];exact ag iP _ _ _ (sm b o hb)
 obtain⟨ts,rfl,ht,hp,_,sm,hd⟩:=h;rw [az,ll,cb] at hp;exact q ts H2 sm hd hp
def jy (K:aT):Sp:=λvs H Q _=>∃(R:Addr)(rs:List Addr)(aa:List av),vs=[.ref R]/\aD K H R (rs.map V.ref)/\bN K H rs aa/\aa.length<=1000 /\
 ∀D H',H D=none->aB H H'->H' D=some (.lst ((jK [] (aa.map (·.1))).map V.str))->Q (.ref D) H'
def Fs:aJ ["rules"] ["rules"] (au xT):=ju rfl rfl rfl rfl nofun
def Ds (F:iq K "heads_of" "heads_of" xT f fd)(T:Txt mg):bf P w K mg base fk 1 f fd ["rules"] (jy K):=by
 refine F.ok Fs (λvs H Q E h=>?_) (λdr A outer s H vs Q E hr h=>?_)
 .obtain⟨R,rs,aa,rfl,_⟩:=h;rfl
 obtain⟨R,rs,aa,rfl,hR,df,aZ,q⟩:=h;refine⟨_,aq (bO (aY (ku rfl) rfl T.lst eB (ah (aY (dj rfl) rfl T.Al eC (ah
  (bq ["head","parts"] [] rfl (a8 (pv 0)) (a9 rfl rfl) nofun rfl nofun
   (λ_ _ _ _ _=>gU (n:=2) K rfl (aC (ar (i:=0) (show (["head","parts"]:List Str).Nodup by decide +kernel) rfl (bM rfl)) (aC (ar (i:=1) (show (["head","parts"]:List Str).Nodup by decide +kernel) rfl (bM rfl)) bW))) (λ_ _ _ _ _=>b9)
   (λ_ _ _ _ _=>cy (ah (pv 0) (ah gw ak)))) ak)) ak))),?_⟩
 dsimp only [Er];refine⟨_,rfl,R,rfl,⟨_,hR⟩,λD hD=>qK hR df aZ hD λts H2 sm hd hp=>?_⟩;have kp:Paired (λt (kv:aF×V)=>aX K H2 t [kV kv.1,kv.2]) ts ((aa.map (·.1)).map λh=>((Sum.inr h:aF),V.bl true)):=cf hp λ_ _ z=>z;refine⟨D,ts,_,rfl,hd,kp,λd hd2=>?_⟩;refine⟨d,_,rfl,ae,λD2 iQ=>?_⟩;rw [keys_str (lK (aa.map (·.1)) [] [] rfl)];have nd:D2≠d:=λz=>by rw [z,ae] at iQ;cases iQ
 exact q D2 _ (sm.free (by rw [ai nd] at iQ;exact iQ)) (sm.trans ((ag hd2 _).trans (ag iQ _))) ae
theorem il:∀(aa:List av) (n:Nat),aa.length<=n->(∀ru∈aa,ru.2.length<=8)->(aa.flatMap (·.2)).length<=8 * n
 | [],n,_,_=>by simp
 | ru::r,n,hl,h=>by
  rw [dw] at hl;have:=il r (n - 1) ∅ λx hx=>h x (bJ _ hx);have:=h ru bZ;rw [List.flatMap_cons,cC];omega
def hd (aa:List av):List Str:=jK [] (aa.map (·.1))
def zA (K:aT):Sp:=λvs H Q _=>∃(R:Addr)(rs:List Addr)(aa:List av),vs=[.ref R]/\aD K H R (rs.map V.ref)/\bN K H rs aa/\aa.length<=1000/\(∀ru∈aa,ru.2.length<=8) /\
 ∀D H',H D=none->aB H H'->H' D=some (.lst ((pM (hd aa) [] (aa.flatMap (·.2))).map V.str))->Q (.ref D) H'
def jz:aJ ["rules","heads","words","head","parts","part"] ["rules"] (au xI):=ju rfl rfl rfl rfl nofun
def Df (F:iq K "words_in" "words_in" xI f fd)(T:Txt mg):bf P w K mg base fk 1 f fd ["rules"] (zA K):=by
 refine F.ok jz (λvs H Q E h=>?_) (λdr A outer s H vs Q E hr h=>?_)
 .obtain⟨R,rs,aa,rfl,_⟩:=h;rfl
 obtain⟨R,rs,aa,rfl,hR,df,aZ,h8,q⟩:=h;have hu:=f_ hr;refine⟨_,aj (aI (i:=1) jz.nd rfl (bM rfl) (aY (dj rfl) rfl T.Al eC (ah
  (bq ["head","parts"] [] rfl (a8 (pv 0)) (a9 rfl rfl) nofun rfl nofun
   (λ_ _ _ _ _=>gU (n:=2) K rfl (aC (ar (i:=0) (show (["head","parts"]:List Str).Nodup by decide +kernel) rfl (bM rfl)) (aC (ar (i:=1) (show (["head","parts"]:List Str).Nodup by decide +kernel) rfl (bM rfl)) bW))) (λ_ _ _ _ _=>b9)
   (λ_ _ _ _ _=>cy (ah (pv 0) (ah gw ak)))) ak)))
  (aj (aI (i:=2) jz.nd rfl (bM rfl) fZ)
  (aj (cx cS rfl (a8 (pv 0)) (eJ rfl (aC (ar (i:=3) jz.nd rfl (bM rfl)) (aC (ar (i:=4) jz.nd rfl (bM rfl)) bW)))
   (aq (cx cS rfl (gJ (pv 4)) (ar (i:=5) jz.nd rfl (bM rfl))
    (aq (de (eI (dH hu (pv 5) (pv 1))) (aq (gT hu (pv 2) (pv 5) gw rfl)) bx)))))
  (aq (bO (aY (ku rfl) rfl T.lst eB (ah (pv 2) ak)))))),?_⟩
 nofun
 refine⟨_,rfl,R,rfl,⟨_,hR⟩,λD hD=>qK hR df aZ hD λts H2 sm hd2 hp=>?_⟩;have kp:Paired (λt (kv:aF×V)=>aX K H2 t [kV kv.1,kv.2]) ts ((aa.map (·.1)).map λh=>((Sum.inr h:aF),V.bl true)):=cf hp λ_ _ z=>z;refine⟨D,ts,_,rfl,hd2,kp,λd ZN=>?_⟩;have Hv:(cA ((aa.map (·.1)).map λh=>((Sum.inr h:aF),V.bl true)) []).map (·.1)=(hd aa).map Sum.inr:=lK (aa.map (·.1)) [] [] rfl;generalize cA ((aa.map (·.1)).map λh=>((Sum.inr h:aF),V.bl true)) []=kH at Hv ⊢;have zM:=sm.trans (ag ZN (.dK kH));have gi:upd H2 d (.dK kH) d=some (.dK kH):=ae;generalize upd H2 d (.dK kH)=H3 at zM gi;intro e he;have ZM:∀o,upd H3 e o d=some (.dK kH):=λo=>by rw [ai (ao gi he)];exact gi
 have zL:∀o,aB H (upd H3 e o):=λo=>zM.trans (ag he o);have ll:=bF df
 let wV:vp:=λi σ H5=>∃(kvs:List (aF×V))(y3 y4 y5:Option V),σ=[bu R,bu d,bu e,y3,y4,y5]/\H5=upd H3 e (.dK kvs) /\
  kvs.map (·.1)=(pM (hd aa) [] ((aa.take i).flatMap (·.2))).map Sum.inr
 refine⟨_,rfl,R,rfl,⟨_,(zL _).seq hR⟩,dG (xs:=rs.map V.ref) wV ⟨[],none,none,none,rfl,rfl,rfl⟩ ?_ ?_ ?_⟩
 .rintro i σ H5 _ ⟨kvs,y3,y4,y5,rfl,rfl,_⟩;exact(zL _).seq hR
 .rintro i x σ H5 ex ⟨kvs,y3,y4,y5,rfl,rfl,hk⟩
  ac_nf0
  rw [bh] at ex;obtain⟨r,er,rfl⟩:=bR.mp ex;obtain⟨ru,e1,p,v1,v2⟩:=df.get er;have li:=(ba.mp e1).1;have Ls:=h8 ru (cR e1);have eT:(aa.take (i+1)).flatMap (·.2)=(aa.take i).flatMap (·.2)++ru.2:=by
   rw [cu,e1,List.flatMap_append];simp
  have lA:((aa.take i).flatMap (·.2)).length<=8 * i:=il (aa.take i) i (by rw [dI];omega) λru ft=>h8 ru (rJ ft);refine⟨r,_,rfl,(zL _).tup v1,rfl,_,_,rfl,_,_,rfl,rfl,?_⟩
  let EL:vp:=λj σ H6=>∃(kvs:List (aF×V))(y5:Option V),σ=[bu R,bu d,bu e,some (.str ru.1),bu p,y5]/\H6=upd H3 e (.dK kvs) /\
   kvs.map (·.1)=(pM (hd aa) [] ((aa.take i).flatMap (·.2)++ru.2.take j)).map Sum.inr
  refine⟨_,rfl,p,rfl,⟨_,(zL _).tup v2⟩,Af (xs:=ru.2.map V.str) EL ⟨kvs,_,rfl,rfl,by rw [List.take_zero,eX];exact hk⟩ ?_ ?_ ?_⟩
  .rintro j σ H6 _ ⟨kvs,y5,rfl,rfl,_⟩;exact(zL _).tup v2
  .rintro j x σ H6 yU ⟨kvs,y5,rfl,rfl,Bf⟩
   ac_nf0
   rw [bh] at yU;obtain⟨z,ez,rfl⟩:=bR.mp yU;have lj:=(ba.mp ez).1;have eS:pM (hd aa) [] ((aa.take i).flatMap (·.2)++ru.2.take (j+1))=addW (hd aa) (pM (hd aa) [] ((aa.take i).flatMap (·.2)++ru.2.take j)) z:=by
    rw [cu,ez,<-nQ];exact pI
   have lk:kvs.length<=8 * i+8:=by
    have h1:kvs.length=(pM (hd aa) [] ((aa.take i).flatMap (·.2)++ru.2.take j)).length:=by
     have:=congrArg List.length Bf;rw [az,az] at this;exact this
    have h2:=uo (hd aa) ((aa.take i).flatMap (·.2)++ru.2.take j) [];rw [cC,dI] at h2;simp only [gO] at h2;omega
   have mem:(aV kH (Sum.inr z)).isSome=true↔z∈hd aa:=by rw [dM,Hv];exact cw
   refine⟨_,rfl,_,rfl,d,_,rfl,bV.k (k:=Sum.inr z) (ZM _),_,rfl,?_⟩;refine dW (λc=>?_) (λc=>?_)
   .have nm:z∉hd aa:=λh=>by rw [mem.mpr h] at c;exact absurd c nofun
    refine⟨_,rfl,_,rfl,e,_,rfl,nJ.k (k:=Sum.inr z) ae (bA ∅),?_⟩;refine⟨bc kvs (Sum.inr z) (.bl true),_,rfl,by rw [ix],?_⟩;rw [eS];unfold addW;rw [ay nm];exact jm Bf z
   have im:z∈hd aa:=mem.mp (by
    cases h:(aV kH (Sum.inr z)).isSome with
    | true=>rfl
    | false=>exact absurd (by rw [h];rfl) c)
   refine⟨kvs,_,rfl,rfl,?_⟩;rw [eS];unfold addW;rw [aw im];exact Bf
  rintro σ H6 ⟨kvs,y5,rfl,rfl,Bf⟩;rw [az,cb,<-eT] at Bf;exact⟨kvs,_,_,_,rfl,rfl,Bf⟩
 rintro σ H5 ⟨kvs,y3,y4,y5,rfl,rfl,hk⟩;rw [az,ll,cb] at hk;refine⟨_,rfl,e,_,rfl,ae,λD2 iQ=>?_⟩;rw [keys_str hk];exact q D2 _ ((zL _).free iQ) ((zL _).trans (ag iQ _)) ae
end
end eG
namespace L2
open PySem
section
variable {K:aT}{a D:Addr}{xs:List V}{ts:List Str}{js:List (Nat×Str)}{g:TG}{tif:TT}{te:TE}{R:Hp->Prop}{σ:St}{H:Hp}
def fC (Pv:Nat->List V->St->Hp->Prop)(h0:Pv 0 [] (cZ ts js σ) (upd H D (.lst [])))(hl:∀i ys σ H,i<=xs.length->Pv i ys σ H->aX K H a xs)
  (hs:∀i x ys σ H,xs[i]?=some x->Pv i ys σ H->g x σ H λσ2 H2=>tif σ2 H2 λb H3=>if b=true then te σ2 H3 λy H4=>H4 D=some (.lst ys)/\ys.length < sizeLine/\Pv (i+1) (ys++[y]) σ2 (upd H4 D (.lst (ys++[y]))) else Pv (i+1) ys σ2 H3)
  (hd:∀ys σ H,Pv xs.length ys σ H->R H) :
  ∃W:Nat->Nat->List V->St->Hp->Prop,(∃m,W 0 m [] (cZ ts js σ) (upd H D (.lst []))) /\
 ∀i m ys σ' H,W i m ys σ' H->((ma K a).stop i H/\R H)\/((ma K a).go i H/\∃m',m' < m/\∀x H',(ma K a).kA i H x H'->g x σ' H' λσ2 H2=>tif σ2 H2 λb H3 =>
  if b=true then te σ2 H3 λy H4=>H4 D=some (.lst ys)/\ys.length < sizeLine/\W (i+1) m' (ys++[y]) σ2 (upd H4 D (.lst (ys++[y]))) else W (i+1) m' ys σ2 H3):=by
 refine⟨λi m ys σ H=>m=xs.length - i/\i<=xs.length/\Pv i ys σ H,⟨xs.length,by simp,gr _,h0⟩,?_⟩;rintro i m ys σ' H ⟨rfl,hi,p⟩;have q:=hl i ys σ' H hi p;by_cases iu:i < xs.length
 .refine .inr ⟨⟨xs,xs[i],q,by simp [iu]⟩,xs.length - (i+1),∅,λx H' y=>?_⟩;obtain⟨e,y⟩:=y;subst e;have z:=hs i x ys σ' _ (y xs q) p;have h1:(i+1<=xs.length)=True:=eq_true iu;simp only [h1,true_and];exact z
 have e:i=xs.length:=by omega
 subst e;exact .inl ⟨⟨xs,q,aH _⟩,hd ys σ' H p⟩
def wL (Pv:Nat->List V->St->Hp->Prop)(h0:Pv 0 [] (cZ ts js σ) (upd H D (.lst [])))(hl:∀i ys σ H,i<=xs.length->Pv i ys σ H->aX K H a xs)
  (hs:∀i x ys σ H t,xs[i]?=some x->Pv i ys σ H->H t=none->g (.ref t) σ (upd H t (.tup [.int (i:Int),x])) λσ2 H2=>tif σ2 H2 λb H3=>if b=true then te σ2 H3 λy H4=>H4 D=some (.lst ys)/\ys.length < sizeLine/\Pv (i+1) (ys++[y]) σ2 (upd H4 D (.lst (ys++[y]))) else Pv (i+1) ys σ2 H3)
  (hd:∀ys σ H,Pv xs.length ys σ H->R H) :
  ∃W:Nat->Nat->List V->St->Hp->Prop,(∃m,W 0 m [] (cZ ts js σ) (upd H D (.lst []))) /\
 ∀i m ys σ' H,W i m ys σ' H->((qU K a).stop i H/\R H)\/((qU K a).go i H/\∃m',m' < m/\∀x H',(qU K a).kA i H x H'->g x σ' H' λσ2 H2=>tif σ2 H2 λb H3 =>
  if b=true then te σ2 H3 λy H4=>H4 D=some (.lst ys)/\ys.length < sizeLine/\W (i+1) m' (ys++[y]) σ2 (upd H4 D (.lst (ys++[y]))) else W (i+1) m' ys σ2 H3):=by
 refine⟨λi m ys σ H=>m=xs.length - i/\i<=xs.length/\Pv i ys σ H,⟨xs.length,by simp,gr _,h0⟩,?_⟩;rintro i m ys σ' H ⟨rfl,hi,p⟩;have q:=hl i ys σ' H hi p;by_cases iu:i < xs.length
 .refine .inr ⟨⟨xs,xs[i],q,by simp [iu]⟩,xs.length - (i+1),∅,λx H' y=>?_⟩;obtain⟨t,y0,rfl,ht,rfl,y⟩:=y;have z:=hs i y0 ys σ' _ t (y xs q) p ht;have h1:(i+1<=xs.length)=True:=eq_true iu;simp only [h1,true_and];exact z
 have e:i=xs.length:=by omega
 subst e;exact .inl ⟨⟨xs,q,aH _⟩,hd ys σ' H p⟩
end
def jr {K:aT}{a:Addr}{xs:List V}{g:TG}{tb:TS}{D:Ends}{σ:St}{H:Hp}(Pv:Nat->St->Hp->Prop)(h0:Pv 0 σ H)(hl:∀i σ H,i<=xs.length->Pv i σ H->aD K H a xs)
  (hs:∀i x σ H t,xs[i]?=some x->Pv i σ H->H t=none->g (.ref t) σ (upd H t (.tup [.int (i:Int),x])) λσ2 H2=>tb { D with nx:=Pv (i+1),ct:=Pv (i+1),bk:=D.nx } σ2 H2)(hd:∀σ H,Pv xs.length σ H->D.nx σ H) :
  ∃W:Nat->Nat->St->Hp->Prop,(∃m,W 0 m σ H)/\∀i m σ H,W i m σ H ->
   ((OY K a).stop i H/\D.nx σ H)\/((OY K a).go i H/\∃N:St->Hp->Prop,(∀σ' H',N σ' H'->∃m',m' < m/\W (i+1) m' σ' H')/\∀x H',(OY K a).kA i H x H'->g x σ H' λσ2 H2=>tb { D with nx:=N,ct:=N,bk:=D.nx } σ2 H2):=by
 refine⟨λi m σ H=>m=xs.length - i/\i<=xs.length/\Pv i σ H,⟨xs.length,by simp,gr _,h0⟩,?_⟩;rintro i m σ H ⟨rfl,hi,p⟩;have q:=hl i σ H hi p;by_cases iu:i < xs.length
 .refine .inr ⟨⟨xs,xs[i],q,by simp [iu]⟩,Pv (i+1),λσ' H' p'=>⟨xs.length - (i+1),∅,rfl,iu,p'⟩,λx H' y=>?_⟩;obtain⟨t,y0,rfl,ht,rfl,y⟩:=y;exact hs i y0 σ _ t (y xs q) p ht
 have e:i=xs.length:=by omega
 subst e;exact .inl ⟨⟨xs,q,aH _⟩,hd σ H p⟩
def nu {K:aT}{a:Addr}{xs:List V}{g:TG}{tb:TS}{D:Ends}{σ:St}{H:Hp}(Pv:Nat->St->Hp->Prop)(h0:Pv 0 σ H)(hl:∀i σ H,i<=xs.length->Pv i σ H->aX K H a xs)
  (hs:∀i x σ H t,xs[i]?=some x->Pv i σ H->H t=none->g (.ref t) σ (upd H t (.tup [.int (i:Int),x])) λσ2 H2=>tb { D with nx:=Pv (i+1),ct:=Pv (i+1),bk:=D.nx } σ2 H2)(hd:∀σ H,Pv xs.length σ H->D.nx σ H) :
  ∃W:Nat->Nat->St->Hp->Prop,(∃m,W 0 m σ H)/\∀i m σ H,W i m σ H ->
   ((qU K a).stop i H/\D.nx σ H)\/((qU K a).go i H/\∃N:St->Hp->Prop,(∀σ' H',N σ' H'->∃m',m' < m/\W (i+1) m' σ' H')/\∀x H',(qU K a).kA i H x H'->g x σ H' λσ2 H2=>tb { D with nx:=N,ct:=N,bk:=D.nx } σ2 H2):=by
 refine⟨λi m σ H=>m=xs.length - i/\i<=xs.length/\Pv i σ H,⟨xs.length,by simp,gr _,h0⟩,?_⟩;rintro i m σ H ⟨rfl,hi,p⟩;have q:=hl i σ H hi p;by_cases iu:i < xs.length
 .refine .inr ⟨⟨xs,xs[i],q,by simp [iu]⟩,Pv (i+1),λσ' H' p'=>⟨xs.length - (i+1),∅,rfl,iu,p'⟩,λx H' y=>?_⟩;obtain⟨t,y0,rfl,ht,rfl,y⟩:=y;exact hs i y0 σ _ t (y xs q) p ht
 have e:i=xs.length:=by omega
 subst e;exact .inl ⟨⟨xs,q,aH _⟩,hd σ H p⟩
def sX {K:aT}{H:Hp}{p D d:Addr}{zs:List Str}{kvs:List (aF×V)}{σ:St}{js:List (Nat×Str)}{Qp:Hp->Prop}(hσ:cZ ["part"] js σ=[none,bu d])(hp:aX K H p (zs.map V.str))(hz:zs.length<=1000)
  (hd:H d=some (.dK kvs))(hD:H D=none)(q:∀H2,aB H H2->H2 D=some (.lst ((zs.map λz=>(aV kvs (Sum.inr z)).isSome).map V.bl))->Qp H2) :
  ∃W:Nat->Nat->List V->St->Hp->Prop,(∃m,W 0 m [] (cZ ["part"] js σ) (upd H D (.lst []))) /\
 ∀i m ys σ' H,W i m ys σ' H->((ma K p).stop i H/\Qp H)\/((ma K p).go i H/\∃m',m' < m/\∀x H',(ma K p).kA i H x H'->cY 0 x σ' H' λσ2 H2=>gQ σ2 H2 λb H3 =>
  if b=true then Mj (e_ 0) (e_ 1) σ2 H3 λy H4=>H4 D=some (.lst ys)/\ys.length < sizeLine/\W (i+1) m' (ys++[y]) σ2 (upd H4 D (.lst (ys++[y]))) else W (i+1) m' ys σ2 H3):=by
 refine fC (xs:=zs.map V.str) (λi ys σ2 H2=>ys=(((zs.take i).map λz=>(aV kvs (Sum.inr z)).isSome).map V.bl)/\(∃y0,σ2=[y0,bu d])/\aB H H2/\H2 D=some (.lst ys))
  ⟨rfl,⟨none,hσ⟩,ag hD _,ae⟩ (λi ys σ2 H2 _ h=>h.2.2.1.tup hp) (λi x ys σ2 H2 ex h=>?_) (λys σ2 H2 h=>?_)
 .obtain⟨rfl,⟨y0,rfl⟩,sm,hd2⟩:=h;rw [bh] at ex;obtain⟨z,ez,rfl⟩:=bR.mp ex;have li:=(ba.mp ez).1;refine goN (wm ?_);refine⟨_,rfl,_,rfl,d,_,rfl,bV.k (k:=Sum.inr z) (sm _ _ hd),hd2,bA (by rw [az,az,dI];omega),?_,⟨_,rfl⟩,?_,ae⟩
  .rw [cu,ez,br,br];rfl
  intro b o hb;rw [ai (λz=>by rw [z,hD] at hb;cases hb)];exact sm b o hb
 obtain⟨rfl,_,sm,hd2⟩:=h;rw [az,cb] at hd2;exact q H2 sm hd2
def dQ {K:aT}{H:Hp}{D a:Addr}{xs:List V}{ys:List (aF×V)}{o:HO}(hD:H D=some (.dK ys))(h:aX K H a xs):aX K (upd H D o) a xs:=by
 rcases h with (h | ⟨u,h⟩) | h
 .exact .inl (.inl (by rw [ai (λz=>by rw [z,hD] at h;cases h)];exact h))
 .exact .inl (.inr ⟨u,by rw [ai (λz=>by rw [z,hD] at h;cases h)];exact h⟩)
 exact .inr h
theorem dZ {α:Type} [DecidableEq α]:∀(l m:List α),l.Nodup->(∀x∈l,x∈m)->l.length<=m.length
 | [],m,_,_=>gr _
 | a::l,m,hn,h=>by
  have hm:=h a bZ;have:=dZ l (m.erase a) (jP.mp hn).2 λx hx=>(List.mem_erase_of_ne (λz:x=a=>(jP.mp hn).1 (by rw [<-z];exact hx))).mpr (h x (bJ _ hx));rw [List.length_erase_of_mem hm] at this;have:=xp hm;rw [dw];omega
end L2
namespace M11
open PySem L2
inductive qX (aa:List av):List (Str×Nat)->Prop
 | nil:qX aa []
 | snoc {aQ:List (Str×Nat)}{k:Nat}{ru:av}:qX aa aQ->aa[k]?=some ru->ru.1∉aQ.map (·.1)->(∀p∈ru.2,p∈aQ.map (·.1))->qX aa (aQ++[(ru.1,k)])
def nI (aa:List av) (n:Nat)(aQ:List (Str×Nat)):Prop:=∀ru∈aa.take n,(∀p∈ru.2,p∈aQ.map (·.1))->ru.1∈aQ.map (·.1)
def qX.nd {aa:List av}{aQ:List (Str×Nat)}(h:qX aa aQ):(aQ.map (·.1)).Nodup:=by
 induction h with
 | nil=>exact kM
 | snoc h e n p ih =>
  rw [br];refine iK.mpr ⟨ih,by simp,λa ha b hb=>?_⟩;rw [mI,cm] at hb;exact λz=>n (by rw [<-hb,<-z];exact ha)
def qX.head {aa:List av}{aQ:List (Str×Nat)}(h:qX aa aQ):∀x∈aQ.map (·.1),x∈aa.map (·.1):=by
 induction h with
 | nil=>simp
 | snoc h e n p ih =>
  intro x hx;rw [br] at hx;rcases cq.mp hx with hx | hx
  .exact ih x hx
  rw [mI,cm] at hx;rw [hx];exact iL (cR e)
def qX.len {aa:List av}{aQ:List (Str×Nat)}(h:qX aa aQ):aQ.length<=aa.length:=by
 have:=dZ _ _ h.nd h.head;rw [az,az] at this;exact this
end M11
namespace eG
open PySem L2 M11
section
def nF (K:aT)(H:Hp)(ts:List Addr)(aQ:List (Str×Nat)):Prop:=Paired (λt (e:Str×Nat)=>aX K H t [.str e.1,.int (e.2:Int)]) ts aQ
def nF.keep {H H':Hp}{ts:List Addr}{aQ:List (Str×Nat)}(h:nF K H ts aQ)(k:∀a xs,aX K H a xs->aX K H' a xs):nF K H' ts aQ:=Paired.d_ h λt e z=>k _ _ z
structure Ax (K:aT)(aa:List av)(H H5:Hp)(D d:Addr)(ts:List Addr)(aQ:List (Str×Nat))(kvs:List (aF×V)):Prop where
 sm:aB H H5
 hD:H5 D=some (.lst (ts.map V.ref))
 hd:H5 d=some (.dK kvs)
 keys:kvs.map (·.1)=(aQ.map (·.1)).map Sum.inr
 ev:nF K H5 ts aQ
 emp:qX aa aQ
def Ax.same {aa:List av}{H H5 H6:Hp}{D d:Addr}{ts:List Addr}{aQ:List (Str×Nat)}{kvs:List (aF×V)}(h:Ax K aa H H5 D d ts aQ kvs)(s:aB H5 H6):Ax K aa H H6 D d ts aQ kvs :=
 ⟨h.sm.trans s,s _ _ h.hD,s _ _ h.hd,h.keys,h.ev.keep λ_ _ z=>s.tup z,h.emp⟩
def Ax.mem {aa:List av}{H H5:Hp}{D d:Addr}{ts:List Addr}{aQ:List (Str×Nat)}{kvs:List (aF×V)}(h:Ax K aa H H5 D d ts aQ kvs)(z:Str):(aV kvs (Sum.inr z)).isSome=true↔z∈aQ.map (·.1):=by
 rw [dM,h.keys];exact cw
def Ax.len {aa:List av}{H H5:Hp}{D d:Addr}{ts:List Addr}{aQ:List (Str×Nat)}{kvs:List (aF×V)}(h:Ax K aa H H5 D d ts aQ kvs):ts.length=aQ.length/\kvs.length=aQ.length:=by
 refine⟨bF h.ev,?_⟩;have:=congrArg List.length h.keys;simpa using this
def Ax.more {aa:List av}{H H5:Hp}{D d t:Addr}{ts:List Addr}{aQ:List (Str×Nat)}{kvs:List (aF×V)}(h:Ax K aa H H5 D d ts aQ kvs)(fD:H D=none)(fd:H d=none){k:Nat}{ru:av}(e:aa[k]?=some ru)
  (n:ru.1∉aQ.map (·.1))(p:∀x∈ru.2,x∈aQ.map (·.1))(ht:upd H5 d (.dK (bc kvs (Sum.inr ru.1) (.bl true))) t=none) :
  Ax K aa H (upd (upd (upd H5 d (.dK (bc kvs (Sum.inr ru.1) (.bl true)))) t (.tup [.str ru.1,.int (k:Int)])) D (.lst (ts.map V.ref++[.ref t]))) D d (ts++[t]) (aQ++[(ru.1,k)]) (bc kvs (Sum.inr ru.1) (.bl true)):=by
 have Vp:D≠d:=λz=>by have:=h.hD;rw [z,h.hd] at this;cases this
 have nt:t≠d:=λz=>by rw [z,ae] at ht;cases ht
 have Np:H5 t=none:=by rw [ai nt] at ht;exact ht
 have Yi:D≠t:=λz=>by rw [<-z,h.hD] at Np;cases Np
 have iQ:upd (upd H5 d (.dK (bc kvs (Sum.inr ru.1) (.bl true)))) t (.tup [.str ru.1,.int (k:Int)]) D=some (.lst (ts.map V.ref)):=by rw [ai Yi,ai Vp];exact h.hD
 have kp:∀a xs,aX K H5 a xs->aX K (upd (upd (upd H5 d (.dK (bc kvs (Sum.inr ru.1) (.bl true)))) t (.tup [.str ru.1,.int (k:Int)])) D (.lst (ts.map V.ref++[.ref t]))) a xs:=λa xs z =>
  aW iQ ((ag ht _).tup (dQ h.hd z))
 refine⟨λb o hb=>?_,by rw [ae,br];rfl,by rw [ai Vp.symm,ai nt.symm,ae],?_,eW (h.ev.keep kp) (aW iQ (aX.of ae)),.snoc h.emp e n p⟩
 .have:=h.sm b o hb;rw [ai (λz=>by rw [z,fD] at hb;cases hb),ai (λz=>by rw [z,Np] at this;cases this),ai (λz=>by rw [z,fd] at hb;cases hb)];exact this
 rw [gA (by rw [h.keys];exact λz=>n (cw.mp z)),h.keys,br,br];rfl
def mP (K:aT):Sp:=λvs H Q _=>∃(R:Addr)(rs:List Addr)(aa:List av),vs=[.ref R]/\aD K H R (rs.map V.ref)/\bN K H rs aa/\aa.length<=1000/\(∀ru∈aa,ru.2.length<=8) /\
 ∀D ts aQ H',H D=none->aB H H'->H' D=some (.lst (ts.map V.ref))->nF K H' ts aQ->qX aa aQ->nI aa aa.length aQ->Q (.ref D) H'
def fw:aJ ["rules","told","empty","many","number","rule"] ["rules"] (au pY):=ju rfl rfl rfl rfl nofun
def yr (F:iq K "found_empties" "found_empties" pY f fd)(T:Txt mg):bf P w K mg base fk 1 f fd ["rules"] (mP K):=by
 refine F.ok fw (λvs H Q E h=>?_) (λdr A outer s H vs Q E hr h=>?_)
 .obtain⟨R,rs,aa,rfl,_⟩:=h;rfl
 obtain⟨R,rs,aa,rfl,hR,df,aZ,h8,q⟩:=h;have hu:=f_ hr;refine⟨_,aj (aI (i:=1) fw.nd rfl (bM rfl) (bQ ak))
  (aj (aI (i:=2) fw.nd rfl (Or.inr rfl) fZ)
  (aj (aI (i:=3) fw.nd rfl (bM rfl) (Hj Cb aA))
  (aj (jj cS (bT sk (pv 3) (bL d8 rfl T.len kN (ah (pv 1) ak)) (cE _))
   (aj (aI (i:=3) fw.nd rfl (bM rfl) (bL d8 rfl T.len kN (ah (pv 1) ak)))
   (aq (cx cS rfl (lG rfl T.Gv (ah (pv 0) ak)) (eJ rfl (aC (ar (i:=4) fw.nd rfl (bM rfl)) (aC (ar (i:=5) fw.nd rfl (bM rfl)) bW)))
    (aq (de (PW.pt (uI (eI (dH hu (bz cO (pv 5) aA (λ_ _=>rfl)) (pv 2)))
      (oW (ji (bL (nA rfl) rfl T.all boot_all (ah (bq ["part"] [(2,"empty")] rfl (gJ (bz cO (pv 5) aA (λ_ _=>rfl))) (a9 rfl rfl) nofun rfl nofun
       (λ_ _ _ _ _=>ar (i:=0) (show (["part","empty"]:List Str).Nodup by decide +kernel) rfl (bM rfl)) (λ_ _ _ _ _=>b9) (λ_ _ _ _ _=>C7 (mX hu (pv 0) (pv 1)))) ak))))))
     (aj (gT hu (pv 2) (bz cO (pv 5) aA (λ_ _=>rfl)) gw rfl)
     (aq (cD (hZ iN i6 i7 cN (pv 1) (ah (cy (ah (bz cO (pv 5) aA (λ_ _=>rfl)) (ah (pv 4) ak))) ak))))) bx))))))
  (aq (bO (pv 1)))))),?_⟩
 nofun
 refine⟨pL,λD hD d hd=>?_⟩;have Vn:d≠D:=λz=>by rw [z,ae] at hd;cases hd
 have oC:H d=none:=by rw [ai Vn] at hd;exact hd
 have e0:Ax K aa H (upd (upd H D (.lst [])) d (.dK [])) D d [] [] []:=⟨(ag hD _).trans (ag hd _),by rw [ai Vn.symm,ae];rfl,ae,rfl,.nil,.nil⟩;generalize upd (upd H D (.lst [])) d (.dK [])=H0 at e0;refine⟨1,rfl,?_⟩;refine⟨λm σ H5=>∃(ts:List Addr)(aQ:List (Str×Nat))(kvs:List (aF×V)) (many:Int)(y4 y5:Option V),σ=[bu R,bu D,bu d,some (.int many),y4,y5]/\Ax K aa H H5 D d ts aQ kvs/\-1<=many/\many<=aQ.length/\(many=aQ.length->nI aa aa.length aQ)/\(m:Int)=aa.length+1 - many,
  ⟨aa.length+2,[],[],[],-1,none,none,rfl,e0,∅,by simp,by simp,by simp;omega⟩,?_⟩
 rintro m σ H5 ⟨ts,aQ,kvs,many,y4,y5,rfl,S,b1,b2,cl,em⟩;obtain⟨lt,lk⟩:=S.len;refine⟨_,rfl,_,rfl,D,_,rfl,.inl (aD.of S.hD),_,_,rfl,rfl,_,rfl,?_⟩;refine dW (λc=>?_) (λc=>?_)
 .have c':=eh c;rw [az,lt] at c';refine⟨λσ H5=>∃(jR:List Addr)(gC:List (Str×Nat))(d5:List (aF×V))(y4 y5:Option V),σ=[bu R,bu D,bu d,some (.int (aQ.length:Int)),y4,y5]/\Ax K aa H H5 D d jR gC d5/\aQ.length<=gC.length/\(gC.length=aQ.length->nI aa aa.length gC),?_,?_⟩
  .rintro σ H6 ⟨jR,gC,d5,y4,y5,rfl,S2,l2,c2⟩;have:=S2.emp.len;exact⟨(aa.length+1 - aQ.length:Int).toNat,∅,jR,gC,d5,_,_,_,rfl,S2,∅,∅,λz=>c2 ∅,∅⟩
  refine⟨_,rfl,D,_,rfl,.inl (aD.of S.hD),?_⟩;rw [az,lt];refine⟨_,rfl,R,_,rfl,S.sm.seq hR,?_⟩;refine jr (xs:=rs.map V.ref) (λi σ H6=>∃(jR:List Addr)(gC:List (Str×Nat))(d5:List (aF×V))(y4 y5:Option V),σ=[bu R,bu D,bu d,some (.int (aQ.length:Int)),y4,y5]/\Ax K aa H H6 D d jR gC d5/\aQ.length<=gC.length/\(gC.length=aQ.length->nI aa i gC))
   ⟨ts,aQ,kvs,_,_,rfl,S,aH _,λ_ ru ft=>by simp at ft⟩ ?_ ?_ ?_
  .rintro i σ H6 _ ⟨jR,gC,d5,y4,y5,rfl,S2,_⟩;exact S2.sm.seq hR
  .rintro i x σ H6 t ex ⟨jR,gC,d5,y4,y5,rfl,S2,l2,c2⟩ ht
   ac_nf0
   rw [bh] at ex;obtain⟨r,er,rfl⟩:=bR.mp ex;obtain⟨ru,e1,p,v1,v2⟩:=df.get er;have Ls:=h8 ru (cR e1);have S3:=S2.same (ag ht (.tup [.int (i:Int),.ref r]));have Lh:aX K (upd H6 t (.tup [.int (i:Int),.ref r])) t [.int (i:Int),.ref r]:=aX.of ae;generalize upd H6 t (.tup [.int (i:Int),.ref r])=H7 at S3 Lh;obtain⟨lt2,Pr⟩:=S3.len;have el2:=S3.emp.len;have tk:aa.take (i+1)=aa.take i++[ru]:=by rw [cu,e1];rfl
   have gZ:(¬((∀p∈ru.2,p∈gC.map (·.1))/\ru.1∉gC.map (·.1)))->(gC.length=aQ.length->nI aa (i+1) gC):=λhn z w5 wa hp=>by
    rw [tk] at wa;rcases cq.mp wa with h | h
    .exact c2 z w5 h hp
    rw [cm.mp h] at hp ⊢;exact Classical.byContradiction λhc=>hn ⟨hp,hc⟩
   refine⟨t,_,rfl,Lh,rfl,_,_,rfl,_,_,rfl,rfl,?_⟩;refine⟨_,rfl,r,_,_,_,rfl,rfl,S3.sm.tup v1,rfl,?_⟩;refine⟨_,rfl,d,_,rfl,bV.k (k:=Sum.inr ru.1) S3.hd,_,rfl,?_⟩;refine dW (λc3=>?_) (λc3=>?_)
   .have nm:ru.1∉gC.map (·.1):=λh=>by rw [(S3.mem _).mpr h] at c3;exact absurd c3 nofun
    refine⟨_,rfl,r,_,_,_,rfl,rfl,S3.sm.tup v1,rfl,p,rfl,⟨_,S3.sm.tup v2⟩,λD2 iQ=>sX rfl (S3.sm.tup v2) ∅ S3.hd iQ λH8 K4 NT=>?_⟩;have S4:=S3.same K4;refine⟨D2,_,rfl,aD.of NT,_,rfl,?_⟩;refine dW (λc4=>?_) (λc4=>?_)
    .have al:∀x∈ru.2,x∈gC.map (·.1):=λx hx=>(S4.mem x).mp (eY.mp c4 _ (iL hx));refine⟨_,rfl,_,rfl,r,_,_,_,rfl,rfl,S4.sm.tup v1,rfl,d,_,rfl,nJ.k (k:=Sum.inr ru.1) S4.hd (bA ∅),?_⟩;have Xe:aX K (upd H8 d (.dK (bc d5 (Sum.inr ru.1) (.bl true)))) r [.str ru.1,.ref p]:=dQ S4.hd (S4.sm.tup v1);have Kb:upd H8 d (.dK (bc d5 (Sum.inr ru.1) (.bl true))) D=some (.lst (jR.map V.ref)):=by rw [ai (λz=>by have:=S4.hD;rw [z,S4.hd] at this;cases this)];exact S4.hD
     refine⟨_,rfl,.inl ⟨rfl,_,aD.of Kb⟩,_,rfl,r,_,_,_,rfl,rfl,Xe,rfl,_,rfl,ou,λt2 iP=>?_⟩;refine⟨D,_,_,rfl,rfl,(by rw [ai (ao Kb iP)];exact Kb),bA (by rw [az];omega),?_⟩;have S5:=S4.more hD oC e1 nm al iP;exact⟨jR++[t2],gC++[(ru.1,i)],_,_,_,rfl,S5,by rw [cC];omega,λz=>by rw [cC] at z;simp at z;omega⟩
    refine⟨jR,gC,d5,_,_,rfl,S4,l2,gZ λ⟨ha,_⟩=>c4 (eY.mpr λb hb=>?_)⟩;obtain⟨x,hx,rfl⟩:=b_.mp hb;exact(S4.mem x).mpr (ha x hx)
   refine⟨jR,gC,d5,_,_,rfl,S3,l2,gZ λ⟨_,hn⟩=>c3 ?_⟩;cases hq:(aV d5 (Sum.inr ru.1)).isSome with
   | true=>exact absurd ((S3.mem _).mp hq) hn
   | false=>rfl
  rintro σ H6 ⟨jR,gC,d5,y4,y5,rfl,S2,l2,c2⟩;rw [az,bF df] at c2;exact⟨jR,gC,d5,_,_,rfl,S2,l2,c2⟩
 have c':=of_decide_eq_false (mD.mpr c);rw [az,lt] at c';exact⟨_,rfl,q D ts aQ H5 hD S.sm S.hD S.ev S.emp (cl ∅)⟩
end
end eG
namespace M11
open PySem L2
def Bn (b:Str->Bool):List Str->Nat
 | []=>0
 | z::r=>if b z=true then Bn b r+1 else 1
theorem Ae (b:Str->Bool):∀zs:List Str,(∀z∈zs,b z=true)->Bn b zs=zs.length
 | [],_=>rfl
 | z::r,h=>by
  unfold Bn;rw [aw (h z bZ),Ae b r λx hx=>h x (bJ _ hx)];rfl
theorem Ea (b:Str->Bool):∀(zs:List Str) (i:Nat)(z:Str),(∀x∈zs.take i,b x=true)->zs[i]?=some z->¬b z=true->Bn b zs=i+1
 | y::r,0,z,_,e,n=>by
  cases e;unfold Bn;rw [ay n]
 | y::r,i+1,z,h,e,n=>by
  unfold Bn;rw [aw (h y (by rw [List.take_succ_cons];exact bZ)),Ea b r i z (λx hx=>h x (by rw [List.take_succ_cons];exact bJ _ hx)) e n]
theorem D_ (b:Str->Bool):∀zs:List Str,Bn b zs<=zs.length
 | []=>aH _
 | z::r=>by
  have:=D_ b r;unfold Bn;rw [dw]
  split <;> omega
def cnt (n:Nat):List V:=(List.range n).map λk:Nat=>V.int (k:Int)
end M11
namespace eG
open PySem L2 M11
section
def zB (K:aT):Sp:=λvs H Q _=>∃(R:Addr)(rs:List Addr)(aa:List av),vs=[.ref R]/\aD K H R (rs.map V.ref)/\bN K H rs aa/\aa.length<=1000/\(∀ru∈aa,ru.2.length<=8)/\(aa.flatMap (·.2)).Nodup /\
 ∀H',aB H H'->Q .cU H'
def kY:aJ ["strengths","met","way","words","word"] ["strengths"] (au xM):=ju rfl rfl rfl rfl nofun
def Dg (F:iq K "refuse_twice" "refuse_twice" xM f fd)(T:Txt mg):bf P w K mg base fk 1 f fd ["strengths"] (zB K):=by
 refine F.ok kY (λvs H Q E h=>?_) (λdr A outer s H vs Q E hr h=>?_)
 .obtain⟨R,rs,aa,rfl,_⟩:=h;rfl
 obtain⟨R,rs,aa,rfl,hR,df,aZ,h8,Pz,q⟩:=h;have hu:=f_ hr;refine⟨_,aj (aI (i:=1) kY.nd rfl (bM rfl) fZ)
  (aq (cx cS rfl (a8 (pv 0)) (eJ rfl (aC (ar (i:=2) kY.nd rfl (bM rfl)) (aC (ar (i:=3) kY.nd rfl (bM rfl)) bW)))
   (aq (cx cS rfl (gJ (pv 3)) (ar (i:=4) kY.nd rfl (bM rfl))
    (aj (de (eI (mX hu (pv 4) (pv 1))) (aq p6) bx) (aq (gT hu (pv 1) (pv 4) gw rfl))))))),?_⟩
 nofun
 intro e he;have zL:∀o,aB H (upd H e o):=λo=>ag he o;have ll:=bF df
 let wV:vp:=λi σ H5=>∃(kvs:List (aF×V))(y3 y4 y5:Option V),σ=[bu R,bu e,y3,y4,y5]/\H5=upd H e (.dK kvs) /\
  kvs.map (·.1)=((aa.take i).flatMap (·.2)).map Sum.inr
 refine⟨_,rfl,R,rfl,⟨_,(zL _).seq hR⟩,dG (xs:=rs.map V.ref) wV ⟨[],none,none,none,rfl,rfl,rfl⟩ ?_ ?_ ?_⟩
 .rintro i σ H5 _ ⟨kvs,y3,y4,y5,rfl,rfl,_⟩;exact(zL _).seq hR
 .rintro i x σ H5 ex ⟨kvs,y3,y4,y5,rfl,rfl,hk⟩
  ac_nf0
  rw [bh] at ex;obtain⟨r,er,rfl⟩:=bR.mp ex;obtain⟨ru,e1,p,v1,v2⟩:=df.get er;have li:=(ba.mp e1).1;have Ls:=h8 ru (cR e1);have eT:(aa.take (i+1)).flatMap (·.2)=(aa.take i).flatMap (·.2)++ru.2:=by
   rw [cu,e1,List.flatMap_append];simp
  have lA:((aa.take i).flatMap (·.2)).length<=8 * i:=il (aa.take i) i (by rw [dI];omega) λru ft=>h8 ru (rJ ft);have Dy:((aa.take i).flatMap (·.2)++ru.2).Nodup:=by
   have e2:aa.flatMap (·.2)=((aa.take i).flatMap (·.2)++ru.2)++(aa.drop (i+1)).flatMap (·.2):=by
    rw [<-eT,<-List.flatMap_append,List.take_append_drop]
   rw [e2] at Pz;exact(iK.mp Pz).1
  refine⟨r,_,rfl,(zL _).tup v1,rfl,_,_,rfl,_,_,rfl,rfl,?_⟩
  let EL:vp:=λj σ H6=>∃(kvs:List (aF×V))(y5:Option V),σ=[bu R,bu e,some (.str ru.1),bu p,y5]/\H6=upd H e (.dK kvs) /\
   kvs.map (·.1)=((aa.take i).flatMap (·.2)++ru.2.take j).map Sum.inr
  refine⟨_,rfl,p,rfl,⟨_,(zL _).tup v2⟩,Af (xs:=ru.2.map V.str) EL ⟨kvs,_,rfl,rfl,by rw [List.take_zero,eX];exact hk⟩ ?_ ?_ ?_⟩
  .rintro j σ H6 _ ⟨kvs,y5,rfl,rfl,_⟩;exact(zL _).tup v2
  .rintro j x σ H6 yU ⟨kvs,y5,rfl,rfl,Bf⟩
   ac_nf0
   rw [bh] at yU;obtain⟨z,ez,rfl⟩:=bR.mp yU;have lj:=(ba.mp ez).1;have eS:ru.2.take (j+1)=ru.2.take j++[z]:=by rw [cu,ez];rfl
   have lk:kvs.length<=8 * i+8:=by
    have h1:=congrArg List.length Bf;rw [az,az,cC,dI] at h1;omega
   have nz:z∉(aa.take i).flatMap (·.2)++ru.2.take j:=λhz=>by
    have e3:(aa.take i).flatMap (·.2)++ru.2=((aa.take i).flatMap (·.2)++ru.2.take j)++([z]++ru.2.drop (j+1)):=by
     rw [nQ,<-nQ (ru.2.take j),<-eS,List.take_append_drop]
    rw [e3] at Dy;exact(iK.mp Dy).2.2 z hz z (by simp) rfl
   have nk:¬(Sum.inr z:aF)∈kvs.map (·.1):=by rw [Bf];exact λh=>nz (cw.mp h)
   refine⟨_,rfl,_,rfl,e,_,rfl,bV.k (k:=Sum.inr z) ae,_,rfl,?_⟩;refine dW (λc=>absurd ((dM kvs _).mp c) nk) (λ_=>?_);refine⟨_,rfl,_,rfl,e,_,rfl,nJ.k (k:=Sum.inr z) ae (bA ∅),?_⟩;refine⟨bc kvs (Sum.inr z) (.bl true),_,rfl,by rw [ix],?_⟩;rw [gA nk,Bf,eS,<-nQ];simp only [br,bw,i8]
  rintro σ H6 ⟨kvs,y5,rfl,rfl,Bf⟩;rw [az,cb,<-eT] at Bf;exact⟨kvs,_,_,_,rfl,rfl,Bf⟩
 rintro σ H5 ⟨kvs,y3,y4,y5,rfl,rfl,hk⟩;exact q _ (zL _)
def vE (K:aT):Sp:=λvs H Q _=>∃(p d:Addr) (zs:List Str)(kvs:List (aF×V)),vs=[.ref p,.ref d]/\aX K H p (zs.map V.str)/\zs.length<=1000/\H d=some (.dK kvs) /\
 ∀D H',H D=none->aB H H'->H' D=some (.lst (cnt (Bn (λz=>(aV kvs (Sum.inr z)).isSome) zs)))->Q (.ref D) H'
def k8:aJ ["parts","empty","places","place","part"] ["parts","empty"] (au uD):=ju rfl rfl rfl rfl nofun
def AU (F:iq K "first_places" "first_places" uD f fd)(T:Txt mg):bf P w K mg base fk 1 f fd ["parts","empty"] (vE K):=by
 refine F.ok k8 (λvs H Q E h=>?_) (λdr A outer s H vs Q E hr h=>?_)
 .obtain⟨p,d,zs,kvs,rfl,_⟩:=h;rfl
 obtain⟨p,d,zs,kvs,rfl,hp,hz,hd,q⟩:=h;have hu:=f_ hr;refine⟨_,aj (aI (i:=2) k8.nd rfl (bM rfl) (bQ ak))
  (aj (cx cS rfl (lF rfl T.Gv (ah (pv 0) ak)) (eJ rfl (aC (ar (i:=3) k8.nd rfl (bM rfl)) (aC (ar (i:=4) k8.nd rfl (bM rfl)) bW)))
   (aj (cD (hZ iN i6 i7 cN (pv 2) (ah (pv 3) ak)))
   (aq (de (eI (dH hu (pv 4) (pv 1))) (aq CV) bx))))
  (aq (bO (pv 2)))),?_⟩
 nofun
 refine⟨pL,λD hD=>?_⟩;have up1:∀n,cnt n++[V.int (n:Int)]=cnt (n+1):=λn=>by
  unfold cnt;rw [List.range_succ,br];rfl
 refine⟨_,rfl,p,_,rfl,(ag hD _).tup hp,?_⟩
 let UK:vp:=λi σ H5=>∃(y3 y4:Option V),σ=[bu p,bu d,bu D,y3,y4]/\aB H H5/\H5 D=some (.lst (cnt i))/\∀z∈zs.take i,(aV kvs (Sum.inr z)).isSome=true
 refine nu (xs:=zs.map V.str) UK
  ⟨none,none,rfl,ag hD _,ae,by simp⟩ ?_ ?_ ?_
 .rintro i σ H5 _ ⟨y3,y4,rfl,sm,_⟩;exact sm.tup hp
 .rintro i x σ H5 t ex ⟨y3,y4,rfl,sm,NU,oE⟩ ht
  ac_nf0
  rw [bh] at ex;obtain⟨z,ez,rfl⟩:=bR.mp ex;have li:=(ba.mp ez).1;have ux:=sm.trans (ag ht (.tup [.int (i:Int),.str z]));have iQ:upd H5 t (.tup [.int (i:Int),.str z]) D=some (.lst (cnt i)):=by rw [ai (ao NU ht)];exact NU
  have hv:aX K (upd H5 t (.tup [.int (i:Int),.str z])) t [.int (i:Int),.str z]:=aX.of ae;generalize upd H5 t (.tup [.int (i:Int),.str z])=H6 at ux iQ hv;have zM:aB H (upd H6 D (.lst (cnt i++[V.int (i:Int)]))):=λb o hb=>by
   rw [ai (λz=>by rw [z,hD] at hb;cases hb)];exact ux b o hb
  refine⟨t,_,rfl,hv,rfl,_,_,rfl,_,_,rfl,rfl,?_⟩;refine⟨_,rfl,.inl ⟨rfl,_,aD.of iQ⟩,_,rfl,D,_,_,rfl,rfl,iQ,bA (by unfold cnt;rw [az,tP];omega),?_⟩;refine⟨_,rfl,_,rfl,d,_,rfl,bV.k (k:=Sum.inr z) (zM _ _ hd),_,rfl,?_⟩;refine dW (λc=>?_) (λc=>?_)
  .refine⟨_,rfl,q D _ hD zM ?_⟩;rw [ae,up1,Ea _ zs i z oE ez (λh=>by rw [h] at c;exact absurd c nofun)]
  refine⟨_,_,rfl,zM,by rw [ae,up1],λx hx=>?_⟩;rw [cu,ez] at hx;rcases cq.mp hx with h | h
  .exact oE x h
  rw [Option.toList_some,cm] at h;subst h;cases hq:(aV kvs (Sum.inr x)).isSome with
  | true=>rfl
  | false=>exact absurd (by rw [hq];rfl) c
 rintro σ H5 ⟨y3,y4,rfl,sm,NU,oE⟩;rw [az] at NU oE;rw [cb] at oE;exact⟨_,rfl,q D _ hD sm (by rw [Ae _ zs oE];exact NU)⟩
end
end eG
namespace L2
open PySem
section
variable {prog:Program}{w:World}{K:Type} [DecidableEq K] {knd:KeyKind prog w K}{A:Around}{E:Value->Shared->Prop}
def rA {s:Shared}{d l:Addr}{items:Array Value}{n:Nat}{kvs more:List (K×Value)}{Q:Value->Shared->Prop}(hh:A.handled=none)(oC:s.heap.DictOf knd d kvs)(hx:s.heap.get? l=some { cls:=.type "list",data:=.seq items n })
  (hi:items.size=more.length)(hp:∀(m:Nat) kv,more[m]?=some kv->∃u,items[m]?=some u/\kx knd s.heap u kv)(hz:kvs.length+more.length<=sizeLine)
  (h:∀h' t',h'.DictOf knd d (more.foldl (λa p=>stored a p.1 p.2) kvs)->(∀b o,b≠d->s.heap.get? b=some o->h'.get? b=some o)->Q .none { s with heap:=h',toks:=t' }) :
  wpAny (model prog w) A (call (.builtin "dict.update") [.ref d,.ref l]) Q E s:=by
 refine gN (ph xu.plain PySem.F.entry_dict_update (xu.check _ _ _ _ _ _ _ _ oC.typeIs (PySem.F.args_dict_update_2 _ _) ?_));unfold Builtin.«dict.update»;refine ax ?_;unfold Builtin.Dict.selfAndRest;refine ax (wpAny_notOrdered_dict oC.typeIs ?_);show wpAny _ _ (pure (d,[Value.ref l])) _ _ s;refine aK ?_;show wpAny _ _ (Builtin.Dict.updateFrom "dict.update" d (.ref l) [] .none) _ _ s;unfold Builtin.Dict.updateFrom;refine ax (jZ (T := "list") ⟨_,hx,rfl⟩ ?_);rw [aw xD];refine ax (m_ hx hh λh1 t1 k1=>?_);refine ax (wpAny_rule ?_);have l1:=k1 _ _ hx;refine ax (pb ⟨_,l1,rfl,_,rfl⟩ ?_);have k2:∀b o,s.heap.get? b=some o->(h1.push { cls:=.type "list_iterator",data:=.fields #[.ref l,.int 0 0] }).get? b=some o:=λb o q=>bj _ (k1 _ _ q);refine aK ⟨jN dX _,En (knd:=knd) (A:=A) (l:=l) (items:=items) hh more 0 _ kvs _ _ (by rw [hi,j3]) ?_ ⟨_,cJ _ rfl,rfl,rfl⟩ ⟨_,k2 _ _ hx,rfl,n,rfl⟩ (λm kv e=>?_) hz λh' t' hd k3=>?_⟩
 .obtain⟨o,es,ep,q,r⟩:=oC;exact⟨o,es,ep,k2 _ _ q,r⟩
 .obtain⟨u,e1,e2⟩:=hp m kv e;exact⟨u,by rw [j3];exact e1,e2.keep λb o _ q=>k2 b o q⟩
 exact h h' t' hd λb o n q=>k3 b o n (a_ (aP (k1 _ _ q))) (k2 b o q)
end
section
variable {X:Cx}{o e:Expr}{apos gh:Pos}{td ty:TE}
def Mi (K:aT)(td ty:TE):TE:=λσ H Q=>td σ H λx H1=>∃a,x=.ref a/\Qi H1 a/\ty σ H1 λy H2=>∃l ts kvs more,y=.ref l/\H2 a=some (.dK kvs)/\H2 l=some (.lst (ts.map V.ref)) /\
 Paired (λt kv=>aX K H2 t [kV kv.1,kv.2]) ts more/\kvs.length+more.length<=sizeLine/\Q .cU (upd H2 a (.dK (cA more kvs)))
def FH (hc:X.calm=true)(ho:PE X o td)(he:PE X e ty)(m:M1 X o "update" apos e gh):PE X (.Call (.Attribute o "update" apos) [e] [] gh) (Mi X.K td ty):=by
 intro af s σ H Q I h;refine wpAny_Call_method m.base m.HL m.line xt xu PySem.F.type_dict_update (b8 (ho af s σ H _ I h) λu s1 aR=>?_);obtain⟨x,H1,I1,rx,a,ex,d,q1⟩:=aR;subst ex;obtain rfl:u=Value.ref a:=rx;obtain⟨t1,t2,_⟩:=yI I1 d;refine⟨t1,t2,?_⟩;rw [m.trees];refine t_ rfl (tS (mx (b8 (he af s1 σ H1 _ I1 q1) λiv s2 aR=>?_)));obtain⟨y,H2,I2,ry,l,ts,kvs,more,ey,ea,el,p,hz,q2⟩:=aR;refine Calls.spliced_nil ?_;subst ey;cases (show iv=Value.ref l from ry);obtain⟨z,VI,vs,rel,dd⟩:=wA I2.bo ea;obtain⟨z2,aL,n,rv,hl⟩:=(show bE X.prog X.w H2 s2.heap l (.lst _) from I2.bo l _ el);obtain⟨ms,r1,r2⟩:=pairs_at I2 p rv;have l1:=bF r2;have l2:=r1.length;have l3:=bF p;refine rA (I2.ok.hd hc) dd hl (by simpa using l1) (λm kv em=>?_) (by rw [<-rel.length,<-l2];exact hz) λh' t' hd kk=>?_
 .obtain⟨u,e1,e2⟩:=Paired.at_ r2 m kv em;exact⟨u,by simpa using e1,e2⟩
 have hn:(cA more kvs).length<=sizeLine:=cz (qD more kvs) hz;have he:∃q,h'.get? a=some q:=let ⟨q,_,_,hq,_⟩:=hd;⟨q,hq⟩;exact⟨.cU,_,I2.write (x:=a) (e:=a) (by rw [ea];exact True.intro) (.inl rfl) (λb q hb z=>kk b q hb z) he (qH hn VI (qC r1 rel) hd),rfl,q2⟩
def sZ {X:Cx}:fj X (.builtin "len") (λxs H Q=>∃a kvs,xs=[.ref a]/\H a=some (.dK kvs)/\Q (.int kvs.length) H):=by
 intro af s σ H xs us Q I r h;obtain⟨a,kvs,rfl,e,q⟩:=h;obtain⟨u,rfl,rx⟩:=vals1 r;cases (show u=Value.ref a from rx);exact Oy I (.inl e) λt s' I'=>⟨.int _,H,I',⟨_,rfl⟩,q⟩
end
theorem v_:∀{us:List Value}{ns:List Int},PyProof.Rows.IntsAre us ns->∀ys:List (Int×Tok),us=ys.map (λp=>Value.int p.1 p.2)->ys.map (·.1)=ns
 | _,_,.nil,ys,e=>by
  cases ys with
  | nil=>rfl
  | cons _ _=>cases e
 | _,_,.cons n t h,ys,e=>by
  cases ys with
  | nil=>cases e
  | cons y r =>
   rw [bw] at e;injection e with e1 e2;injection e1 with e3 e4;rw [bw,v_ h r e2,e3]
def sY {X:Cx}(hc:X.calm=true):fj X (.builtin "sum") (λxs H Q=>∃a ns,xs=[.ref a]/\aD X.K H a (List.map V.int ns)/\Q (.int ns.sum) H):=by
 intro af s σ H xs us Q I r h;obtain⟨a,ns,rfl,hq,q⟩:=h;obtain⟨u,rfl,rx⟩:=vals1 r;cases rx;obtain⟨aL,rv,pl,hz⟩:=I.list hq;have hi:=intsAre_of rv;have oE:AllInts aL.toArray:=hi.allInts;obtain⟨xs,e⟩:=oE.items;have hl:=pl.isList;rw [e] at hl;refine sum_intListG (I.ok.hd hc) hl λh' tk t' hk=>⟨.int _,H,I.kept hk,⟨_,rfl⟩,?_⟩;have e5:xs.toList.map (·.1)=ns:=v_ hi xs.toList (by
  have:=congrArg Array.toList e;simpa [intItems] using this)
 have e6:preSum (numAt xs) xs.size=ns.sum:=by
  rw [preSum_eq,e5,List.take_of_length_le (by rw [<-e5];simp)]
 rw [e6];exact q
def wF {K:aT}{H:Hp}{p D:Addr}{zs:List Str}{σ:St}{v:V}{x:Str}{Qp:Hp->Prop}(hp:aX K H p (zs.map V.str))(hz:zs.length<=1000)(hD:H D=none)
  (q:∀ts H2,aB H H2->H2 D=some (.lst (ts.map V.ref))->Paired (λt h=>aX K H2 t [.str h,v]) ts zs->Qp H2) :
  ∃W:Nat->Nat->List V->St->Hp->Prop,(∃m,W 0 m [] (cZ [x] [] σ) (upd H D (.lst []))) /\
 ∀i m ys σ' H,W i m ys σ' H->((ma K p).stop i H/\Qp H)\/((ma K p).go i H/\∃m',m' < m/\∀x H',(ma K p).kA i H x H'->cY 0 x σ' H' λσ2 H2=>gQ σ2 H2 λb H3 =>
  if b=true then rb (fc (e_ 0) (fc (tC v) pP)) σ2 H3 λy H4=>H4 D=some (.lst ys)/\ys.length < sizeLine/\W (i+1) m' (ys++[y]) σ2 (upd H4 D (.lst (ys++[y]))) else W (i+1) m' ys σ2 H3):=by
 refine fC (xs:=zs.map V.str) (λi ys σ2 H2=>∃ts:List Addr,ys=ts.map V.ref/\ts.length=i/\Paired (λt h=>aX K H2 t [.str h,v]) ts (zs.take i)/\(∃y0,σ2=[y0])/\aB H H2/\H2 D=some (.lst ys))
  ⟨[],rfl,rfl,.nil,⟨none,rfl⟩,ag hD _,ae⟩ (λi ys σ2 H2 _ h=>?_) (λi x ys σ2 H2 ex h=>?_) (λys σ2 H2 h=>?_)
 .obtain⟨_,_,_,_,_,sm,_⟩:=h;exact sm.tup hp
 .obtain⟨ts,rfl,ht,jn,⟨y0,rfl⟩,sm,hd⟩:=h;rw [bh] at ex;obtain⟨z,ez,rfl⟩:=bR.mp ex;have li:=(ba.mp ez).1;refine goN (wm ?_);refine⟨_,rfl,ou,λt iP=>⟨?_,bA (by rw [az];omega),ts++[t],?_,?_,?_,⟨_,rfl⟩,?_,ae⟩⟩
  .rw [ai (ao hd iP)];exact hd
  .rw [br];rfl
  .rw [cC,ht];rfl
  .rw [cu,ez];have gi:upd H2 t (.tup [.str z,v]) D=some (.lst (ts.map V.ref)):=by rw [ai (ao hd iP)];exact hd
   exact eW (Paired.d_ jn λt' h' z=>aW gi ((ag iP _).tup z)) (aW gi (aX.of ae))
  intro b o hb;rw [ai (λz=>by rw [z,hD] at hb;cases hb)];exact ag iP _ _ _ (sm b o hb)
 obtain⟨ts,rfl,ht,jn,_,sm,hd⟩:=h;rw [az,cb] at jn;exact q ts H2 sm hd jn
end L2
namespace M11
open PySem L2
def l7 (a:List Str)(h x:Str):x∈fh a h↔x∈a\/x=h:=by
 unfold fh;split
 .constructor
  .exact .inl
  rintro(z | rfl) <;> assumption
 simp
def As {a:List Str}(h:Str)(n:a.Nodup):(fh a h).Nodup:=by
 unfold fh;split
 .exact n
 rename_i q
 refine iK.mpr ⟨n,by simp,λx hx y hy=>?_⟩;rw [cm.mp hy];exact λz=>q (z ▸ hx)
def Au (a:List Str)(h:Str):a.length<=(fh a h).length:=by
 unfold fh;split <;> simp
def GO {a:List Str}{h:Str}(e:(fh a h).length=a.length):fh a h=a:=by
 unfold fh at e ⊢;split
 .rfl
 rename_i q
 rw [ay q,cC] at e;simp at e
theorem dN:∀(hs a7:List Str)(x:Str),x∈jK a7 hs↔x∈a7\/x∈hs
 | [],a7,x=>by simp [jK]
 | h::r,a7,x=>by
  show x∈jK (fh a7 h) r↔_;rw [dN r,l7,bC,or_assoc]
theorem ny:∀(hs:List Str){a7:List Str},a7.Nodup->(jK a7 hs).Nodup
 | [],_,n=>n
 | h::r,_,n=>ny r (As h n)
theorem zc:∀(hs a7:List Str),a7.length<=(jK a7 hs).length
 | [],_=>aH _
 | h::r,a7=>cz (Au a7 h) (zc r _)
theorem Eo:∀(hs a7:List Str),(jK a7 hs).length=a7.length->jK a7 hs=a7
 | [],_,_=>rfl
 | h::r,a7,e=>by
  have h1:=Au a7 h;have h2:=zc r (fh a7 h);have e':(jK (fh a7 h) r).length=a7.length:=e;show jK (fh a7 h) r=a7;rw [Eo r _ ∅];exact GO ∅
inductive qT (aa:List av)(s:Str):Str->Prop
 | start:qT aa s s
 | step {ru:av}{x:Str}:qT aa s ru.1->ru∈aa->x∈ru.2->qT aa s x
def jx (aa:List av) (n:Nat) (ms:List Str):Prop:=∀ru∈aa.take n,ru.1∈ms->∀x∈ru.2,x∈ms
def qT.among {aa:List av}{s x:Str}(h:qT aa s x):x∈s::aa.flatMap (·.2):=by
 cases h with
 | start=>exact bZ
 | step _ h1 h2=>exact bJ _ (mw.mpr ⟨_,h1,h2⟩)
end M11
namespace eG
open PySem L2 M11
section
def G_ (K:aT):Sp:=λvs H Q _=>∃(R:Addr)(rs:List Addr)(aa:List av)(cW:av),vs=[.ref R]/\aD K H R (rs.map V.ref)/\bN K H rs aa/\aa[0]?=some cW/\aa.length<=1000/\(∀ru∈aa,ru.2.length<=8) /\
 ∀d kvs ms H',H d=none->aB H H'->H' d=some (.dK kvs)->kvs.map (·.1)=ms.map Sum.inr->cW.1∈ms->(∀x∈ms,qT aa cW.1 x)->jx aa aa.length ms->Q (.ref d) H'
def rX:aJ ["rules","met","many","head","parts"] ["rules"] (au IS):=ju rfl rfl rfl rfl nofun
structure LP (K:aT)(aa:List av)(s0:Str)(H H5:Hp)(d:Addr) (ms:List Str)(kvs:List (aF×V)):Prop where
 sm:aB H H5
 hd:H5 d=some (.dK kvs)
 keys:kvs.map (·.1)=ms.map Sum.inr
 nd:ms.Nodup
 st:s0∈ms
 Pg:∀x∈ms,qT aa s0 x
def LP.len {aa:List av}{s0:Str}{H H5:Hp}{d:Addr}{ms:List Str}{kvs:List (aF×V)}(h:LP K aa s0 H H5 d ms kvs)(hl:aa.length<=1000)(h8:∀ru∈aa,ru.2.length<=8):kvs.length=ms.length/\ms.length<=8001:=by
 refine⟨?_,?_⟩
 .have:=congrArg List.length h.keys;simpa using this
 have h1:=dZ ms _ h.nd λx hx=>(h.Pg x hx).among;have h2:=il aa 1000 hl h8;rw [dw] at h1;omega
def Jj (F:iq K "names_met" "names_met" IS f fd)(T:Txt mg):bf P w K mg base fk 1 f fd ["rules"] (G_ K):=by
 refine F.ok rX (λvs H Q E h=>?_) (λdr A outer s H vs Q E hr h=>?_)
 .obtain⟨R,rs,aa,cW,rfl,_⟩:=h;rfl
 obtain⟨R,rs,aa,cW,rfl,hR,df,vk,aZ,h8,q⟩:=h;have hu:=f_ hr;refine⟨_,aj (aI (i:=1) rX.nd rfl (bM rfl) (FI (CZ (bz cO (bz cH (pv 0) aA (λ_ _=>rfl)) aA (λ_ _=>rfl)) gw FC) rfl rfl (by simp) (show 1<=15 by decide)))
  (aj (aI (i:=2) rX.nd rfl (bM rfl) aA)
  (aj (jj cS (bT sk (pv 2) (bL sZ rfl T.len kN (ah (pv 1) ak)) (cE _))
   (aj (aI (i:=2) rX.nd rfl (bM rfl) (bL sZ rfl T.len kN (ah (pv 1) ak)))
   (aq (cx cS rfl (a8 (pv 0)) (eJ rfl (aC (ar (i:=3) rX.nd rfl (bM rfl)) (aC (ar (i:=4) rX.nd rfl (bM rfl)) bW)))
    (aq (de (eI (mX hu (pv 3) (pv 1)))
     (aq (cD (FH rfl (pv 1) (bq ["part"] [] rfl (gJ (pv 4)) (a9 rfl rfl) nofun rfl nofun
       (λ_ _ _ _ _=>ar (i:=0) (show (["part"]:List Str).Nodup by decide +kernel) rfl (bM rfl)) (λ_ _ _ _ _=>b9) (λ_ _ _ _ _=>cy (ah (pv 0) (ah gw ak)))) ⟨rfl,rfl,rfl,rfl⟩))) bx))))))
  (aq (bO (pv 1))))),?_⟩
 nofun
 intro d hd;have ll:=bF df;have l0:=(ba.mp vk).1;obtain⟨r0,PY⟩:∃r,rs[0]?=some r:=⟨rs[0]'∅,dJ ∅⟩;obtain⟨XF,e0,p0,w1,w2⟩:=df.get PY;rw [vk] at e0;cases e0;have Pb:=ag hd (.dK []);refine⟨_,rfl,R,_,_,.ref r0,rfl,rfl,Pb.seq hR,?_,r0,_,_,_,rfl,rfl,Pb.tup w1,rfl,?_⟩
 .have e7:(rs.map V.ref)[0]?=some (.ref r0):=by rw [bh,PY];rfl
  exact dq (j:=0) e7
 refine⟨ae,[((Sum.inr cW.1:aF),.bl true)],rfl,(by show 1<=15;decide),?_⟩;have S0:LP K aa cW.1 H (upd (upd H d (.dK [])) d (.dK (j_ [] [((Sum.inr cW.1:aF),.bl true)]))) d [cW.1] [((Sum.inr cW.1:aF),.bl true)]:=by
  rw [ix];exact⟨ag hd _,ae,rfl,by simp,by simp,λx hx=>by rw [cm.mp hx];exact .start⟩
 generalize upd (upd H d (.dK [])) d (.dK (j_ [] [((Sum.inr cW.1:aF),.bl true)]))=H0 at S0;refine⟨λm σ H5=>∃(ms:List Str)(kvs:List (aF×V)) (many:Int)(y3 y4:Option V),σ=[bu R,bu d,some (.int many),y3,y4]/\LP K aa cW.1 H H5 d ms kvs/\0<=many/\many<=ms.length/\(many=ms.length->jx aa aa.length ms)/\(m:Int)=8002 - many,
  ⟨8002,[cW.1],_,0,none,none,rfl,S0,∅,by simp,by simp,∅⟩,?_⟩
 rintro m σ H5 ⟨ms,kvs,many,y3,y4,rfl,S,b1,b2,cl,em⟩;obtain⟨lk,lm⟩:=S.len aZ h8;refine⟨_,rfl,_,rfl,d,_,rfl,S.hd,_,_,rfl,rfl,_,rfl,?_⟩;refine dW (λc=>?_) (λc=>?_)
 .have c':=eh c;rw [lk] at c';refine⟨λσ H5=>∃(oX:List Str)(d5:List (aF×V))(y3 y4:Option V),σ=[bu R,bu d,some (.int (ms.length:Int)),y3,y4]/\LP K aa cW.1 H H5 d oX d5/\ms.length<=oX.length/\(oX.length=ms.length->jx aa aa.length oX),?_,?_⟩
  .rintro σ H6 ⟨oX,d5,y3,y4,rfl,S2,l2,c2⟩;exact⟨(8002 - ms.length:Int).toNat,∅,oX,d5,_,_,_,rfl,S2,∅,∅,λz=>c2 ∅,∅⟩
  refine⟨_,rfl,d,_,rfl,S.hd,?_⟩;rw [lk];refine⟨_,rfl,R,rfl,⟨_,S.sm.seq hR⟩,?_⟩;refine dG (xs:=rs.map V.ref) (λi σ H6=>∃(oX:List Str)(d5:List (aF×V))(y3 y4:Option V),σ=[bu R,bu d,some (.int (ms.length:Int)),y3,y4]/\LP K aa cW.1 H H6 d oX d5/\ms.length<=oX.length/\(oX.length=ms.length->jx aa i oX))
   ⟨ms,kvs,_,_,rfl,S,aH _,λ_ ru ft=>by simp at ft⟩ ?_ ?_ ?_
  .rintro i σ H6 _ ⟨oX,d5,y3,y4,rfl,S2,_⟩;exact S2.sm.seq hR
  .rintro i x σ H6 ex ⟨oX,d5,y3,y4,rfl,S2,l2,c2⟩
   ac_nf0
   rw [bh] at ex;obtain⟨r,er,rfl⟩:=bR.mp ex;obtain⟨ru,e1,p,v1,v2⟩:=df.get er;have Ls:=h8 ru (cR e1);have tk:aa.take (i+1)=aa.take i++[ru]:=by rw [cu,e1];rfl
   obtain⟨Pr,YH⟩:=S2.len aZ h8;have mem:(aV d5 (Sum.inr ru.1)).isSome=true↔ru.1∈oX:=by rw [dM,S2.keys];exact cw
   refine⟨r,_,rfl,S2.sm.tup v1,rfl,_,_,rfl,_,_,rfl,rfl,?_⟩;refine⟨_,rfl,_,rfl,d,_,rfl,bV.k (k:=Sum.inr ru.1) S2.hd,_,rfl,?_⟩;refine dW (λc3=>?_) (λc3=>?_)
   .have im:=mem.mp c3;refine⟨_,rfl,d,rfl,.inl ⟨_,.inl S2.hd⟩,_,rfl,p,rfl,⟨_,S2.sm.tup v2⟩,λD2 iQ=>wF (S2.sm.tup v2) ∅ iQ λts H8 K4 NT VM=>?_⟩;have kp:Paired (λt (kv:aF×V)=>aX K H8 t [kV kv.1,kv.2]) ts (ru.2.map λh=>((Sum.inr h:aF),V.bl true)):=cf VM λ_ _ z=>z;refine⟨D2,ts,d5,_,rfl,K4 _ _ S2.hd,NT,kp,fits (by rw [az];omega),?_⟩;have ZL:=zc ru.2 oX;refine⟨jK oX ru.2,cA (ru.2.map λh=>((Sum.inr h:aF),V.bl true)) d5,_,_,rfl,⟨λb o hb=>?_,ae,lK ru.2 d5 oX S2.keys,ny ru.2 S2.nd,(dN ru.2 oX _).mpr (.inl S2.st),λx hx=>?_⟩,∅,λz w5 wa hh=>?_⟩
    .rw [ai (λz=>by rw [z,hd] at hb;cases hb)];exact K4 _ _ (S2.sm b o hb)
    .rcases (dN ru.2 oX x).mp hx with h | h
     .exact S2.Pg x h
     exact .step (S2.Pg _ im) (cR e1) h
    have e9:=Eo ru.2 oX ∅;rw [e9] at hh ⊢;rw [tk] at wa;rcases cq.mp wa with h | h
    .exact c2 ∅ w5 h hh
    rw [cm.mp h];intro x hx;rw [<-e9];exact(dN ru.2 oX x).mpr (.inr hx)
   refine⟨oX,d5,_,_,rfl,S2,l2,λz w5 wa hh=>?_⟩;rw [tk] at wa;rcases cq.mp wa with h | h
   .exact c2 z w5 h hh
   rw [cm.mp h] at hh;exact absurd (mem.mpr hh) c3
  rintro σ H6 ⟨oX,d5,y3,y4,rfl,S2,l2,c2⟩;rw [az,ll] at c2;exact⟨oX,d5,_,_,rfl,S2,l2,c2⟩
 have c':=of_decide_eq_false (mD.mpr c);rw [lk] at c';exact⟨_,rfl,q d kvs ms H5 hd S.sm S.hd S.keys S.st S.Pg (cl ∅)⟩
end
end eG
namespace M11
open PySem L2
abbrev G:=Str->Option Int
def cM (g:G)(h:Str) (n:Int):G:=λz=>if z=h then some n else g z
def aG (g:G)(ru:av):Int:=1+(ru.2.map λp=>(g p).getD 0).sum
def ip (g:G)(ru:av):Bool:=ru.2.all λp=>(g p).isSome
def bD (bt:Int->Int->Bool)(g:G)(ru:av):Bool:=ip g ru && (!(g ru.1).isSome || bt (aG g ru) ((g ru.1).getD 0))
def sstep (bt:Int->Int->Bool)(a:G×Bool)(ru:av):G×Bool:=if bD bt a.1 ru=true then (cM a.1 ru.1 (aG a.1 ru),true) else a
def rg (bt:Int->Int->Bool)(aa:List av)(g:G):G×Bool:=aa.foldl (sstep bt) (g,false)
inductive bU (bt:Int->Int->Bool)(aa:List av):G->G->Prop
 | refl {g:G}:bU bt aa g g
 | step {g g1:G}{ru:av}:bU bt aa g g1->ru∈aa->bD bt g1 ru=true->bU bt aa g (cM g1 ru.1 (aG g1 ru))
def cQ (bt:Int->Int->Bool)(aa:List av)(g:G):Prop:=∀ru∈aa,bD bt g ru=false
def nH (bt:Int->Int->Bool)(aa:List av):Nat->G->Prop
 | 0,g=>(rg bt aa g).2=false
 | n+1,g=>(rg bt aa g).2=false\/nH bt aa n (rg bt aa g).1
def bU.trans {bt:Int->Int->Bool}{aa:List av}{g g1 g2:G}(h:bU bt aa g g1)(k:bU bt aa g1 g2):bU bt aa g g2:=by
 induction k with
 | refl=>exact h
 | step _ a b ih=>exact .step ih a b
theorem qz (bt:Int->Int->Bool)(aa:List av):∀(l:List av)(a:G×Bool),(∀ru∈l,ru∈aa)->bU bt aa a.1 (l.foldl (sstep bt) a).1
 | [],a,_=>.refl
 | ru::l,a,h=>by
  have ih:=qz bt aa l (sstep bt a ru) λx hx=>h x (bJ _ hx);refine bU.trans ?_ ih;unfold sstep;by_cases c:bD bt a.1 ru=true
  .rw [aw c];exact .step .refl (h ru bZ) c
  rw [ay c];exact .refl
theorem sQ (bt:Int->Int->Bool):∀(l:List av)(a:G×Bool),a.2=true->(l.foldl (sstep bt) a).2=true
 | [],a,h=>h
 | ru::l,a,h=>by
  refine sQ bt l (sstep bt a ru) ?_;unfold sstep
  split
  .rfl
  exact h
theorem qB (bt:Int->Int->Bool):∀(l:List av)(a:G×Bool),(l.foldl (sstep bt) a).2=false->(l.foldl (sstep bt) a).1=a.1/\∀ru∈l,bD bt a.1 ru=false
 | [],a,_=>⟨rfl,λ_ h=>nomatch h⟩
 | ru::l,a,h=>by
  by_cases c:bD bt a.1 ru=true
  .have e:sstep bt a ru=(cM a.1 ru.1 (aG a.1 ru),true):=aw c;have h':(l.foldl (sstep bt) (sstep bt a ru)).2=false:=h;rw [e,sQ bt l _ rfl] at h';cases h'
  have e:sstep bt a ru=a:=ay c;have h':(l.foldl (sstep bt) (sstep bt a ru)).2=false:=h;rw [e] at h';obtain⟨i1,i2⟩:=qB bt l a h';refine⟨by rw [List.foldl_cons,e];exact i1,λw5 hr=>?_⟩;rcases bC.mp hr with z | z
  .rw [z];exact mD.mpr c
  exact i2 w5 z
end M11
namespace L2
open PySem M11
def eF.tup {K:aT}{H H':Hp}{d a:Addr}{kvs:List (aF×V)}{xs:List V}(s:eF d H H')(hd:H d=some (.dK kvs))(h:aX K H a xs):aX K H' a xs:=by
 rcases h with (h | ⟨u,h⟩) | h
 .exact .inl (.inl (s _ _ (λz=>by rw [z,hd] at h;cases h) h))
 .exact .inl (.inr ⟨u,s _ _ (λz=>by rw [z,hd] at h;cases h) h⟩)
 exact .inr h
def eF.seq {K:aT}{H H':Hp}{d a:Addr}{kvs:List (aF×V)}{xs:List V}(s:eF d H H')(hd:H d=some (.dK kvs))(h:aD K H a xs):aD K H' a xs:=by
 rcases h with (h | ⟨u,h⟩) | h
 .exact .inl (.inl (s _ _ (λz=>by rw [z,hd] at h;cases h) h))
 .exact .inl (.inr ⟨u,s _ _ (λz=>by rw [z,hd] at h;cases h) h⟩)
 exact .inr h
def Bx {K:aT}{H:Hp}{p D d:Addr}{zs:List Str}{kvs:List (aF×V)}{g:G}{σ:St}{js:List (Nat×Str)}{Qp:Hp->Prop}(hσ:cZ ["part"] js σ=[none,bu d])(hp:aX K H p (zs.map V.str))(hz:zs.length<=1000)
  (hd:H d=some (.dK kvs))(hv:∀z,aV kvs (Sum.inr z)=(g z).map V.int)(ha:∀z∈zs,(g z).isSome=true)(hD:H D=none)(q:∀H2,aB H H2->H2 D=some (.lst ((zs.map λz=>(g z).getD 0).map V.int))->Qp H2) :
  ∃W:Nat->Nat->List V->St->Hp->Prop,(∃m,W 0 m [] (cZ ["part"] js σ) (upd H D (.lst []))) /\
 ∀i m ys σ' H,W i m ys σ' H->((ma K p).stop i H/\Qp H)\/((ma K p).go i H/\∃m',m' < m/\∀x H',(ma K p).kA i H x H'->cY 0 x σ' H' λσ2 H2=>gQ σ2 H2 λb H3 =>
  if b=true then zt (e_ 1) (e_ 0) σ2 H3 λy H4=>H4 D=some (.lst ys)/\ys.length < sizeLine/\W (i+1) m' (ys++[y]) σ2 (upd H4 D (.lst (ys++[y]))) else W (i+1) m' ys σ2 H3):=by
 refine fC (xs:=zs.map V.str) (λi ys σ2 H2=>ys=(((zs.take i).map λz=>(g z).getD 0).map V.int)/\(∃y0,σ2=[y0,bu d])/\aB H H2/\H2 D=some (.lst ys))
  ⟨rfl,⟨none,hσ⟩,ag hD _,ae⟩ (λi ys σ2 H2 _ h=>h.2.2.1.tup hp) (λi x ys σ2 H2 ex h=>?_) (λys σ2 H2 h=>?_)
 .obtain⟨rfl,⟨y0,rfl⟩,sm,hd2⟩:=h;rw [bh] at ex;obtain⟨z,ez,rfl⟩:=bR.mp ex;have li:=(ba.mp ez).1;obtain⟨n,en⟩:=i5.mp (ha z (cR ez));have hg:bV H2 d (.str z) (some (.int n)):=by
   have:=bV.k (k:=Sum.inr z) (sm _ _ hd);rw [hv,en] at this;exact this
  refine goN (wm ?_);refine⟨_,rfl,_,rfl,d,_,rfl,hg,hd2,bA (by rw [az,az,dI];omega),?_,⟨_,rfl⟩,?_,ae⟩
  .rw [cu,ez,br,br];show _=_++[V.int ((g z).getD 0)];rw [en];rfl
  intro b o hb;rw [ai (λz=>by rw [z,hD] at hb;cases hb)];exact sm b o hb
 obtain⟨rfl,_,sm,hd2⟩:=h;rw [az,cb] at hd2;exact q H2 sm hd2
end L2
namespace eG
open PySem L2 M11
section
def gH (K:aT)(q:Str)(params:Arguments)(body:Expr)(scope:Scope)(bt:Int->Int->Bool):Sp:=λvs H Q _=>∃(R:Addr)(rs:List Addr)(aa:List av)(d fl c':Addr)(pm eQ:Value)(kvs:List (aF×V)) (ks:List Str)(g:G),
 vs=[.ref R,.ref d,.ref fl]/\aD K H R (rs.map V.ref)/\bN K H rs aa/\aa.length<=1000/\(∀ru∈aa,ru.2.length<=8)/\H d=some (.dK kvs)/\kvs.map (·.1)=ks.map Sum.inr/\ks.Nodup/\ks.length<=10000 /\
 (∀z,aV kvs (Sum.inr z)=(g z).map V.int)/\(∃n,nH bt aa n g)/\H fl=some (mY fl (PySem.W.kla_obj "<lambda>" q params body scope [] pm c' eQ))/\H c'=some (iR c' q) /\
 ∀(kj:List (aF×V)) (Nd:List Str)(g':G)(H':Hp),eF d H H'->H' d=some (.dK kj)->kj.map (·.1)=Nd.map Sum.inr->(∀z,aV kj (Sum.inr z)=(g' z).map V.int)->bU bt aa g g'->cQ bt aa g'->kj.length<=20000->Q (.ref d) H'
def gI:aJ ["rules","sizes","better","changed","head","parts","size"] ["rules","sizes","better"] (au k_):=ju rfl rfl rfl rfl nofun
structure B2 (K:aT)(aa:List av) (EZ:List Str)(H H5:Hp)(d:Addr)(kvs:List (aF×V)) (ks:List Str)(g:G):Prop where
 sm:eF d H H5
 hd:H5 d=some (.dK kvs)
 keys:kvs.map (·.1)=ks.map Sum.inr
 nd:ks.Nodup
 sub:∀x∈ks,x∈EZ++aa.map (·.1)
 val:∀z,aV kvs (Sum.inr z)=(g z).map V.int
def B2.len {aa:List av}{EZ:List Str}{H H5:Hp}{d:Addr}{kvs:List (aF×V)}{ks:List Str}{g:G}(h:B2 K aa EZ H H5 d kvs ks g):kvs.length<=EZ.length+aa.length:=by
 have h1:=congrArg List.length h.keys;have h2:=dZ ks _ h.nd h.sub;rw [cC,az] at h2;rw [az,az] at h1;omega
def B2.same {aa:List av}{EZ:List Str}{H H5 H6:Hp}{d:Addr}{kvs:List (aF×V)}{ks:List Str}{g:G}(h:B2 K aa EZ H H5 d kvs ks g)(s:aB H5 H6):B2 K aa EZ H H6 d kvs ks g :=
 ⟨λb o n e=>s _ _ (h.sm b o n e),s _ _ h.hd,h.keys,h.nd,h.sub,h.val⟩
def B2.put {aa:List av}{EZ:List Str}{H H5:Hp}{d:Addr}{kvs:List (aF×V)}{ks:List Str}{g:G}(h:B2 K aa EZ H H5 d kvs ks g){ru:av}(hr:ru∈aa) (n:Int) :
  B2 K aa EZ H (upd H5 d (.dK (bc kvs (Sum.inr ru.1) (.int n)))) d (bc kvs (Sum.inr ru.1) (.int n)) (fh ks ru.1) (cM g ru.1 n):=by
 refine⟨λb o nb e=>by rw [ai nb];exact h.sm b o nb e,ae,jm h.keys ru.1,As ru.1 h.nd,λx hx=>?_,λz=>?_⟩
 .rcases (l7 ks ru.1 x).mp hx with z | z
  .exact h.sub x z
  rw [z];exact eZ _ (iL hr)
 rw [vx];unfold cM;by_cases c:z=ru.1
 .rw [aw c,aw (by rw [c])];rfl
 rw [ay c,ay (λe=>c (jY e)),h.val]
def sq (F:iq K "settled_sizes" "settled_sizes" k_ f fd)(T:Txt mg){q:Str}{params:Arguments}{body:Expr}{scope:Scope}{bt:Int->Int->Bool}{te:TE}(S:aJ ["size","known"] ["size","known"] scope)
  (lP:∀(pm eQ:Value)(c':Addr)(us:List Value),us.length=(["size","known"]:List Str).length->bindArgs (PySem.W.kla_fn "<lambda>" q params body scope [] pm (.ref c') eQ) ⟨us,[]⟩=pure ((["size","known"]:List Str).zip us))
  (gb:∀(f c':Addr)(A:Around)(outer:List Env)(s:Shared)(H:Hp),PE (d6 fk P w K mg base ["size","known"] q scope f (.ref c') A outer s H λ_ _ _=>False) body te)
  (Sd:∀a b H Q,Q (.bl (bt a b)) H->te [some (.int a),some (.int b)] H Q):bf P w K mg base fk 2 f fd ["rules","sizes","better"] (gH K q params body scope bt):=by
 refine F.ok gI (λvs H Q E h=>?_) (λdr A outer s H vs Q E hr h=>?_)
 .obtain⟨R,rs,aa,d,fl,c',pm,eQ,kvs,ks,g,rfl,_⟩:=h;rfl
 obtain⟨R,rs,aa,d,fl,c',pm,eQ,kvs,ks,g,rfl,hR,df,aZ,h8,hd,hk,Pz,hkl,hv,⟨n0,VO⟩,DS,jJ,qq⟩:=h;have hu:=f_ hr;refine⟨_,aj (aI (i:=3) gI.nd rfl (bM rfl) gw)
  (aj (jj cS (ji (pv 3))
   (aj (aI (i:=3) gI.nd rfl (bM rfl) gw)
   (aq (cx cS rfl (a8 (pv 0)) (eJ rfl (aC (ar (i:=4) gI.nd rfl (bM rfl)) (aC (ar (i:=5) gI.nd rfl (bM rfl)) bW)))
    (aq (de (ji (bL (nA rfl) rfl T.all boot_all (ah (bq ["part"] [(1,"sizes")] rfl (gJ (pv 5)) (a9 rfl rfl) nofun rfl nofun
       (λ_ _ _ _ _=>ar (i:=0) (show (["part","sizes"]:List Str).Nodup by decide +kernel) rfl (bM rfl)) (λ_ _ _ _ _=>b9) (λ_ _ _ _ _=>C7 (mX hu (pv 0) (pv 1)))) ak)))
     (aj (aI (i:=6) gI.nd rfl (bM rfl) (bK eK aA (bL (sY rfl) rfl T.sum PyProof.Rows.boot_sum (ah (bq ["part"] [(1,"sizes")] rfl (gJ (pv 5)) (a9 rfl rfl) nofun rfl nofun
       (λ_ _ _ _ _=>ar (i:=0) (show (["part","sizes"]:List Str).Nodup by decide +kernel) rfl (bM rfl)) (λ_ _ _ _ _=>b9) (λ_ _ _ _ _=>dY hu (pv 1) (pv 0) (λ_ _=>rfl))) ak))))
     (aq (de (PW.pt (zS (eI (dH hu (pv 4) (pv 1))) (x_ (ji (yf (i:=2) (k:=0) rfl rfl S hr lP gb (ah (pv 6) (ah (dY hu (pv 1) (pv 4) (λ_ _=>rfl)) ak)))))))
      (aj (gT hu (pv 1) (pv 4) (pv 6) rfl) (aq (aI (i:=3) gI.nd rfl (bM rfl) gw))) bx))) bx))))))
  (aq (bO (pv 1)))),?_⟩
 nofun
 have ll:=bF df;have S0:B2 K aa ks H H d kvs ks g:=⟨λ_ _ _ e=>e,hd,hk,Pz,λx hx=>i4 _ hx,hv⟩;refine⟨λm σ H5=>∃(d5:List (aF×V)) (Pt:List Str)(g2:G)(ch:Bool)(y4 y5 y6:Option V),σ=[bu R,bu d,bu fl,some (.bl ch),y4,y5,y6]/\B2 K aa ks H H5 d d5 Pt g2/\bU bt aa g g2 /\
  ((ch=true/\∃n,m=n+1/\nH bt aa n g2)\/(ch=false/\cQ bt aa g2)),⟨n0+1,kvs,ks,g,true,none,none,none,rfl,S0,.refl,.inl ⟨rfl,n0,rfl,VO⟩⟩,?_⟩
 rintro m σ H5 ⟨d5,Pt,g2,ch,y4,y5,y6,rfl,S2,ET,cs⟩;refine⟨_,rfl,ch,rfl,?_⟩;refine dW (λc=>?_) (λc=>?_)
 .rcases cs with ⟨_,n,em,en⟩ | ⟨c',_⟩
  case inr=>rw [c'] at c;cases c
  refine⟨λσ H6=>∃(ki:List (aF×V)) (BU:List Str)(g3:G)(wN:Bool)(y4 y5 y6:Option V),σ=[bu R,bu d,bu fl,some (.bl wN),y4,y5,y6]/\B2 K aa ks H H6 d ki BU g3/\(g3,wN)=rg bt aa g2,?_,?_⟩
  .rintro σ H6 ⟨ki,BU,g3,wN,y4,y5,y6,rfl,S3,e3⟩;have T5:g3=(rg bt aa g2).1:=congrArg Prod.fst e3;have Kw:wN=(rg bt aa g2).2:=congrArg Prod.snd e3;have Mq:bU bt aa g g3:=by
    rw [T5];exact ET.trans (qz bt aa aa (g2,false) λ_ h=>h)
   cases h3:wN with
   | false =>
    rw [h3] at Kw;obtain⟨f1,f2⟩:=qB bt aa (g2,false) Kw.symm;refine⟨0,∅,ki,BU,g3,false,_,_,_,rfl,S3,Mq,.inr ⟨rfl,?_⟩⟩;have e33:g3=g2:=T5.trans f1;rw [e33];exact f2
   | true =>
    rw [h3] at Kw;cases n with
    | zero=>rw [show (rg bt aa g2).2=false from en] at Kw;cases Kw
    | succ n' =>
     rcases en with en | en
     .rw [en] at Kw;cases Kw
     exact⟨n'+1,∅,ki,BU,g3,true,_,_,_,rfl,S3,Mq,.inl ⟨rfl,n',rfl,by rw [T5];exact en⟩⟩
  refine⟨_,rfl,R,rfl,⟨_,S2.sm.seq hd hR⟩,?_⟩;refine dG (xs:=rs.map V.ref) (λi σ H6=>∃(ki:List (aF×V)) (BU:List Str)(g3:G)(wN:Bool)(y4 y5 y6:Option V),σ=[bu R,bu d,bu fl,some (.bl wN),y4,y5,y6]/\B2 K aa ks H H6 d ki BU g3/\(g3,wN)=(aa.take i).foldl (sstep bt) (g2,false))
   ⟨d5,Pt,g2,false,_,_,_,rfl,S2,rfl⟩ ?_ ?_ ?_
  .rintro i σ H6 _ ⟨ki,BU,g3,wN,y4,y5,y6,rfl,S3,_⟩;exact S3.sm.seq hd hR
  .rintro i x σ H6 ex ⟨ki,BU,g3,wN,y4,y5,y6,rfl,S3,e3⟩;rw [bh] at ex;obtain⟨r,er,rfl⟩:=bR.mp ex;obtain⟨ru,e1,p,v1,v2⟩:=df.get er;have nq:=cR e1;have Ls:=h8 ru nq;have fo:(aa.take (i+1)).foldl (sstep bt) (g2,false)=sstep bt (g3,wN) ru:=by
    rw [cu,e1,pI,<-e3];rfl
   rw [fo];have Qx:=S3.sm.tup hd v2;refine⟨r,_,rfl,S3.sm.tup hd v1,rfl,_,_,rfl,_,_,rfl,rfl,?_⟩;refine⟨_,rfl,p,rfl,⟨_,Qx⟩,λD2 iQ=>sX rfl Qx ∅ S3.hd iQ λH7 U6 ZS=>?_⟩;have S4:=S3.same U6;have v4:=U6.tup Qx;have eb:(ru.2.map λz=>(aV ki (Sum.inr z)).isSome).all id=ip g3 ru:=by
    unfold ip;rw [List.all_map];refine List.all_congr rfl λz=>?_;show (aV ki (Sum.inr z)).isSome=_;rw [S3.val,mH]
   refine⟨D2,_,rfl,aD.of ZS,_,rfl,?_⟩;rw [eb];refine dW (λc4=>?_) (λc4=>?_)
   .have al:∀z∈ru.2,(g3 z).isSome=true:=λz hz=>eY.mp c4 z hz;refine⟨_,rfl,p,rfl,⟨_,v4⟩,λD3 HJ=>Bx (g:=g3) rfl v4 ∅ S4.hd S4.val al HJ λH8 K4 NT=>?_⟩;have S5:=S4.same K4;have esz:1+(ru.2.map λz=>(g3 z).getD 0).sum=aG g3 ru:=rfl;refine⟨D3,_,rfl,aD.of NT,_,_,rfl,rfl,?_⟩;have mem:(aV ki (Sum.inr ru.1)).isSome=(g3 ru.1).isSome:=by rw [S5.val,mH]
    have fl5:=S5.sm fl _ (λz=>by rw [z,hd] at DS;cases DS) DS;have c5':=S5.sm c' _ (λz=>by rw [z,hd] at jJ;cases jJ) jJ;have l5:=S5.len;refine⟨_,rfl,_,rfl,d,_,rfl,bV.k (k:=Sum.inr ru.1) S5.hd,_,rfl,?_⟩;refine dW (λc5=>?_) (λc5=>?_)
    .have fr:bD bt g3 ru=true:=by
      unfold bD;rw [<-mem,c4,c5];rfl
     refine⟨_,rfl,_,rfl,_,rfl,d,_,rfl,nJ.k (k:=Sum.inr ru.1) S5.hd (bA ∅),?_⟩;exact⟨_,_,cM g3 ru.1 (aG g3 ru),true,_,_,_,rfl,S5.put nq (aG g3 ru),(aw fr).symm⟩
    have YW:(g3 ru.1).isSome=true:=by
     rw [mem] at c5;cases hq:(g3 ru.1).isSome with
     | true=>rfl
     | false=>rw [hq] at c5;exact absurd rfl c5
    obtain⟨k,ek⟩:=i5.mp YW;have hg:bV H8 d (.str ru.1) (some (.int k)):=by
     have:=bV.k (k:=Sum.inr ru.1) S5.hd;rw [S5.val,ek] at this;exact this
    refine⟨fl,pm,c',eQ,rfl,_,rfl,_,rfl,_,rfl,d,_,rfl,hg,fl5,c5',rfl,Sd (aG g3 ru) k _ _ ⟨_,rfl,?_⟩⟩;refine dW (λc6=>?_) (λc6=>?_)
    .have fr:bD bt g3 ru=true:=by
      unfold bD;rw [c4,ek];show (true && (false || bt (aG g3 ru) k))=true
      rw [c6];rfl
     refine⟨_,rfl,_,rfl,_,rfl,d,_,rfl,nJ.k (k:=Sum.inr ru.1) S5.hd (bA ∅),?_⟩;exact⟨_,_,cM g3 ru.1 (aG g3 ru),true,_,_,_,rfl,S5.put nq (aG g3 ru),(aw fr).symm⟩
    have fr:¬bD bt g3 ru=true:=by
     unfold bD;rw [c4,ek];show ¬(true && (false || bt (aG g3 ru) k))=true
     rw [mD.mpr c6];exact nofun
    exact⟨ki,BU,g3,wN,_,_,_,rfl,S5,(ay fr).symm⟩
   have e5:sstep bt (g3,wN) ru=(g3,wN):=ay (λz=>c4 (by unfold bD at z;exact(nS.mp z).1));exact⟨ki,BU,g3,wN,_,_,_,rfl,S4,e5.symm⟩
  rintro σ H6 ⟨ki,BU,g3,wN,y4,y5,y6,rfl,S3,e3⟩;rw [az,ll,cb] at e3;exact⟨ki,BU,g3,wN,_,_,_,rfl,S3,e3⟩
 rcases cs with ⟨c',_⟩ | ⟨_,se⟩
 .rw [c'] at c;exact absurd rfl c
 exact⟨_,rfl,qq d5 Pt g2 H5 S2.sm S2.hd S2.keys S2.val ET se (by have:=S2.len;omega)⟩
end
end eG
namespace M11
open PySem L2
theorem fold_lt {bt:Int->Int->Bool}{aa:List av}{J:G->Prop}{r:G->G->Prop}(tr:∀a b c,r a b->r b c->r a c)
  (iU:∀g ru,J g->ru∈aa->bD bt g ru=true->J (cM g ru.1 (aG g ru))/\r (cM g ru.1 (aG g ru)) g) :
  ∀(l:List av)(a:G×Bool),(∀ru∈l,ru∈aa)->J a.1->J (l.foldl (sstep bt) a).1/\(l.foldl (sstep bt) a=a\/r (l.foldl (sstep bt) a).1 a.1)
 | [],a,_,j=>⟨j,.inl rfl⟩
 | ru::l,a,h,j=>by
  by_cases c:bD bt a.1 ru=true
  .have e:sstep bt a ru=(cM a.1 ru.1 (aG a.1 ru),true):=aw c;obtain⟨j1,r1⟩:=iU a.1 ru j (h ru bZ) c;obtain⟨j2,r2⟩:=fold_lt tr iU l (cM a.1 ru.1 (aG a.1 ru),true) (λx hx=>h x (bJ _ hx)) j1;rw [List.foldl_cons,e];refine⟨j2,.inr ?_⟩;rcases r2 with r2 | r2
   .rw [r2];exact r1
   exact tr _ _ _ r2 r1
  have e:sstep bt a ru=a:=ay c;rw [List.foldl_cons,e];exact fold_lt tr iU l a (λx hx=>h x (bJ _ hx)) j
def wx {bt:Int->Int->Bool}{aa:List av}{J:G->Prop}{r:G->G->Prop}(tr:∀a b c,r a b->r b c->r a c)
  (iU:∀g ru,J g->ru∈aa->bD bt g ru=true->J (cM g ru.1 (aG g ru))/\r (cM g ru.1 (aG g ru)) g){g:G}(h:Acc r g)(j:J g):∃n,nH bt aa n g:=by
 induction h with
 | intro g _ ih =>
  cases c:(rg bt aa g).2 with
  | false=>exact⟨0,c⟩
  | true =>
   obtain⟨j2,r2⟩:=fold_lt tr iU aa (g,false) (λ_ h=>h) j;have r3:r (rg bt aa g).1 g:=by
    rcases r2 with r2 | r2
    .have e:(rg bt aa g)=(g,false):=r2;rw [e] at c;cases c
    exact r2
   obtain⟨n,hn⟩:=ih _ r3 j2;exact⟨n+1,.inr hn⟩
def bU.keep {bt:Int->Int->Bool}{aa:List av}{J:G->Prop}(iU:∀g ru,J g->ru∈aa->bD bt g ru=true->J (cM g ru.1 (aG g ru))){g g':G}(h:bU bt aa g g')(j:J g):J g':=by
 induction h with
 | refl=>exact j
 | step _ a b ih=>exact iU _ _ ih a b
def dP (f:Str->Nat) (hs:List Str):Nat:=(hs.map f).sum
theorem vB {f k:Str->Nat}:∀{hs:List Str},(∀x∈hs,f x<=k x)->dP f hs<=dP k hs
 | [],_=>aH _
 | h::r,q=>by
  have h1:=q h bZ;have h2:=vB (hs:=r) λx hx=>q x (bJ _ hx);show f h+dP f r<=k h+dP k r;omega
theorem kT {f k:Str->Nat}:∀{hs:List Str}{h:Str},(∀x∈hs,f x<=k x)->h∈hs->f h < k h->dP f hs < dP k hs
 | a::r,h,q,m,l=>by
  have h1:=q a bZ;have h2:∀x∈r,f x<=k x:=λx hx=>q x (bJ _ hx);show f a+dP f r < k a+dP k r;rcases bC.mp m with z | z
  .have:=vB h2;rw [z] at l;omega
  have:=kT h2 z l;omega
theorem iA (g:G)(J:∀z n,g z=some n->(0:Int)<=n):∀ps:List Str,0<=(ps.map λp=>(g p).getD 0).sum
 | []=>by simp
 | p::r=>by
  have h1:=iA g J r;have h2:0<=(g p).getD 0:=by
   cases e:g p with
   | none=>exact iW _
   | some n=>exact J p n e
  rw [bw,kJ];omega
def NN (g:G):Prop:=∀z n,g z=some n->(0:Int)<=n
def uN {g:G}(j:NN g)(ru:av):NN (cM g ru.1 (aG g ru)):=λz n e=>by
 unfold cM at e;by_cases c:z=ru.1
 .rw [aw c] at e;cases e;have:=iA g j ru.2;unfold aG;omega
 rw [ay c] at e;exact j z n e
def bl (a b:Int):Bool:=decide (a < b)
def bg (a b:Int):Bool:=decide (a > b)
def yE (hs:List Str)(g' g:G):Prop :=
 dP (λh=>if (g' h).isSome then 0 else 1) hs < dP (λh=>if (g h).isSome then 0 else 1) hs \/
 (dP (λh=>if (g' h).isSome then 0 else 1) hs=dP (λh=>if (g h).isSome then 0 else 1) hs/\dP (λh=>((g' h).getD 0).toNat) hs < dP (λh=>((g h).getD 0).toNat) hs)
def FX (hs:List Str)(g:G):Acc (yE hs) g:=by
 have wf:=(Prod.lex (β:=Nat) (α:=Nat) ⟨(· < ·),Nat.lt_wfRel.wf⟩ ⟨(· < ·),Nat.lt_wfRel.wf⟩).wf;have key:∀p:Nat×Nat,∀g:G,(dP (λh=>if (g h).isSome then 0 else 1) hs,dP (λh=>((g h).getD 0).toNat) hs)=p->Acc (yE hs) g:=λp=>by
  induction p using wf.induction with
  | _ p ih =>
   intro g e;refine⟨g,λg' r=>ih _ ?_ g' rfl⟩;rw [<-e];rcases r with r | ⟨r1,r2⟩
   .exact Prod.Lex.left _ _ r
   show Prod.Lex _ _ (dP (λh=>if (g' h).isSome then 0 else 1) hs,_) _;rw [r1];exact Prod.Lex.right _ r2
 exact key _ g rfl
def Js (hs:List Str)(a b c:G)(h:yE hs a b)(k:yE hs b c):yE hs a c:=by
 unfold yE at *;omega
def DE {aa:List av}(g:G)(ru:av)(j:NN g)(m:ru∈aa)(f:bD bl g ru=true):NN (cM g ru.1 (aG g ru))/\yE (aa.map (·.1)) (cM g ru.1 (aG g ru)) g:=by
 refine⟨uN j ru,?_⟩;have hm:ru.1∈aa.map (·.1):=iL m;have nn:=uN j ru;have zh:cM g ru.1 (aG g ru) ru.1=some (aG g ru):=aw rfl;have ne:∀z,z≠ru.1->cM g ru.1 (aG g ru) z=g z:=λz n=>ay n;unfold bD at f;have f2:=(nS.mp f).2;cases e:g ru.1 with
 | none =>
  refine .inl (kT (λx _=>?_) hm ?_)
  .by_cases c:x=ru.1
   .show (if (cM g ru.1 (aG g ru) x).isSome then 0 else 1)<=_;rw [c,zh];exact gr _
   show (if (cM g ru.1 (aG g ru) x).isSome then 0 else 1)<=_;rw [ne x c];exact aH _
  show (if (cM g ru.1 (aG g ru) ru.1).isSome then 0 else 1) < (if (g ru.1).isSome then 0 else 1);rw [zh,e];show 0 < 1;exact Nat.one_pos
 | some k =>
  rw [e] at f2;have lt:aG g ru < k:=eh (by simpa [bl] using f2);have h0:=nn ru.1 _ zh;refine .inr ⟨?_,kT (λx _=>?_) hm ?_⟩
  .unfold dP
   congr 1
   refine List.map_congr_left λx _=>?_;by_cases c:x=ru.1
   .show (if (cM g ru.1 (aG g ru) x).isSome then 0 else 1)=(if (g x).isSome then 0 else 1);rw [c,zh,e];rfl
   show (if (cM g ru.1 (aG g ru) x).isSome then 0 else 1)=(if (g x).isSome then 0 else 1);rw [ne x c]
  .by_cases c:x=ru.1
   .show ((cM g ru.1 (aG g ru) x).getD 0).toNat<=((g x).getD 0).toNat;rw [c,zh,e];show (aG g ru).toNat<=k.toNat;omega
   show ((cM g ru.1 (aG g ru) x).getD 0).toNat<=((g x).getD 0).toNat;rw [ne x c];exact aH _
  show ((cM g ru.1 (aG g ru) ru.1).getD 0).toNat < ((g ru.1).getD 0).toNat;rw [zh,e];show (aG g ru).toNat < k.toNat;omega
def yF (aa:List av)(g:G)(j:NN g):∃n,nH bl aa n g:=wx (Js (aa.map (·.1))) (λg ru=>DE g ru) (FX _ g) j
inductive Em (aa:List av):Str->Prop
 | mk {ru:av}:ru∈aa->(∀p∈ru.2,Em aa p)->Em aa ru.1
def qY (aa:List av)(b:Str->Int):Prop:=(∀z,0<=b z)/\∀ru∈aa,(∀p∈ru.2,Em aa p)->1+(ru.2.map b).sum<=b ru.1
def GJ (aa:List av)(b:Str->Int)(g:G):Prop:=∀z n,g z=some n->0<=n/\n<=b z/\Em aa z
theorem zw {aa:List av}{b:Str->Int}{g:G}(j:GJ aa b g)(hb:∀z,0<=b z):∀ps:List Str,(ps.map λp=>(g p).getD 0).sum<=(ps.map b).sum
 | []=>by simp
 | p::r=>by
  have h1:=zw j hb r;have h2:(g p).getD 0<=b p:=by
   cases e:g p with
   | none=>exact hb p
   | some n=>exact(j p n e).2.1
  rw [bw,kJ,bw,kJ];omega
def gm (b:Str->Int)(g:G)(h:Str):Nat:=if (g h).isSome then (b h - (g h).getD 0).toNat else (b h).toNat+1
def qw {aa:List av}{b:Str->Int}(B:qY aa b)(g:G)(ru:av)(j:GJ aa b g)(m:ru∈aa)(f:bD bg g ru=true) :
  GJ aa b (cM g ru.1 (aG g ru))/\dP (gm b (cM g ru.1 (aG g ru))) (aa.map (·.1)) < dP (gm b g) (aa.map (·.1)):=by
 have hm:ru.1∈aa.map (·.1):=iL m;have zh:cM g ru.1 (aG g ru) ru.1=some (aG g ru):=aw rfl;have ne:∀z,z≠ru.1->cM g ru.1 (aG g ru) z=g z:=λz n=>ay n;unfold bD at f;obtain⟨f1,f2⟩:=nS.mp f;have em:∀p∈ru.2,Em aa p:=λp hp=>by
  obtain⟨n,en⟩:=i5.mp (eY.mp f1 p hp);exact(j p n en).2.2
 have bd:=B.2 ru m em;have sb:=zw j B.1 ru.2;have s0:=iA g (λz n e=>(j z n e).1) ru.2;have sz:0<=aG g ru/\aG g ru<=b ru.1:=by unfold aG;omega
 refine⟨λz n e=>?_,kT (λx _=>?_) hm ?_⟩
 .by_cases c:z=ru.1
  .rw [c,zh] at e;cases e;rw [c];exact⟨sz.1,sz.2,.mk m em⟩
  rw [ne z c] at e;exact j z n e
 .by_cases c:x=ru.1
  .rw [c];unfold gm;rw [zh];show (b ru.1 - aG g ru).toNat<=_;cases e:g ru.1 with
   | none=>show _<=(b ru.1).toNat+1;omega
   | some k =>
    rw [e] at f2;have lt:aG g ru > k:=eh (by simpa [bg] using f2);show _<=(b ru.1 - k).toNat;omega
  unfold gm;rw [ne x c];exact aH _
 unfold gm;rw [zh];show (b ru.1 - aG g ru).toNat < _;cases e:g ru.1 with
 | none=>show _ < (b ru.1).toNat+1;omega
 | some k =>
  rw [e] at f2;have lt:aG g ru > k:=eh (by simpa [bg] using f2);show _ < (b ru.1 - k).toNat;omega
def yN {aa:List av}{b:Str->Int}(B:qY aa b)(g:G)(j:GJ aa b g):∃n,nH bg aa n g :=
 wx (r:=λg' g=>dP (gm b g') (aa.map (·.1)) < dP (gm b g) (aa.map (·.1))) (λ_ _ _ h k=>i_ h k) (qw B) ((InvImage.wf (λg:G=>dP (gm b g) (aa.map λx:av=>x.1)) Nat.lt_wfRel.wf).apply g) j
def wk {aa:List av}{b:Str->Int}(B:qY aa b){g g':G}(h:bU bg aa g g')(j:GJ aa b g):GJ aa b g':=h.keep (λg ru a m f=>(qw B g ru a m f).1) j
end M11
namespace L2
open PySem
def wG {K:aT}{H:Hp}{p D:Addr}{zs:List Str}{σ:St}{v:V}{x:Str}{Qp:Hp->Prop}(hp:aD K H p (zs.map V.str))(hz:zs.length<=10000)(hD:H D=none)
  (q:∀ts H2,aB H H2->H2 D=some (.lst (ts.map V.ref))->Paired (λt h=>aX K H2 t [.str h,v]) ts zs->Qp H2) :
  ∃W:Nat->Nat->List V->St->Hp->Prop,(∃m,W 0 m [] (cZ [x] [] σ) (upd H D (.lst []))) /\
 ∀i m ys σ' H,W i m ys σ' H->((iS K p).stop i H/\Qp H)\/((iS K p).go i H/\∃m',m' < m/\∀x H',(iS K p).kA i H x H'->cY 0 x σ' H' λσ2 H2=>gQ σ2 H2 λb H3 =>
  if b=true then rb (fc (e_ 0) (fc (tC v) pP)) σ2 H3 λy H4=>H4 D=some (.lst ys)/\ys.length < sizeLine/\W (i+1) m' (ys++[y]) σ2 (upd H4 D (.lst (ys++[y]))) else W (i+1) m' ys σ2 H3):=by
 refine bH (xs:=zs.map V.str) (λi ys σ2 H2=>∃ts:List Addr,ys=ts.map V.ref/\ts.length=i/\Paired (λt h=>aX K H2 t [.str h,v]) ts (zs.take i)/\(∃y0,σ2=[y0])/\aB H H2/\H2 D=some (.lst ys))
  ⟨[],rfl,rfl,.nil,⟨none,rfl⟩,ag hD _,ae⟩ (λi ys σ2 H2 _ h=>?_) (λi x ys σ2 H2 ex h=>?_) (λys σ2 H2 h=>?_)
 .obtain⟨_,_,_,_,_,sm,_⟩:=h;exact sm.seq hp
 .obtain⟨ts,rfl,ht,jn,⟨y0,rfl⟩,sm,hd⟩:=h;rw [bh] at ex;obtain⟨z,ez,rfl⟩:=bR.mp ex;have li:=(ba.mp ez).1;refine goN (wm ?_);refine⟨_,rfl,ou,λt iP=>⟨?_,bA (by rw [az];omega),ts++[t],?_,?_,?_,⟨_,rfl⟩,?_,ae⟩⟩
  .rw [ai (ao hd iP)];exact hd
  .rw [br];rfl
  .rw [cC,ht];rfl
  .rw [cu,ez];have gi:upd H2 t (.tup [.str z,v]) D=some (.lst (ts.map V.ref)):=by rw [ai (ao hd iP)];exact hd
   exact eW (Paired.d_ jn λt' h' z=>aW gi ((ag iP _).tup z)) (aW gi (aX.of ae))
  intro b o hb;rw [ai (λz=>by rw [z,hD] at hb;cases hb)];exact ag iP _ _ _ (sm b o hb)
 obtain⟨ts,rfl,ht,jn,_,sm,hd⟩:=h;rw [az,cb] at jn;exact q ts H2 sm hd jn
def Tab.same {T:Addr}{pos:Pos}{qual:Str}{H H':Hp}(h:Tab T pos qual H)(s:aB H H'):Tab T pos qual H':=by
 obtain⟨ps,a,b,c⟩:=h;refine⟨ps,s _ _ a,b,c.imp id ?_⟩;rintro⟨c',e,g⟩;exact⟨c',e,s _ _ g⟩
def Tab.Hc {T d:Addr}{pos:Pos}{qual:Str}{H H':Hp}{kvs:List (aF×V)}(h:Tab T pos qual H)(s:eF d H H')(hd:H d=some (.dK kvs)):Tab T pos qual H':=by
 obtain⟨ps,a,b,c⟩:=h;refine⟨ps,s _ _ (λz=>by rw [z,hd] at a;cases a) a,b,c.imp id ?_⟩;rintro⟨c',e,g⟩;exact⟨c',e,s _ _ (λz=>by rw [z,hd] at g;cases g) g⟩
structure wW (K:aT)(x qual:Str)(st:Stmt)(f:Addr)(fd:FuncData)(T:Addr):Prop where
 ex:∃(oc:Value)(od:Option Addr)(kV doc pm:Value)(an:Option Addr)(c:Addr)(ct:Value)(uM:Array (Option Value)),
  fd=PySem.W.fnOf x qual (cP st) (bB st) (au st) .none kV doc pm an (.ref c) ct/\K.lookup f=some ⟨oc,od,.func fd,uM⟩/\PySem.W.codeIn K (.ref c) qual=true/\PySem.W.codeHdIn K c T=true
 kp:PySem.W.keepIn K (.ref f)=true
def wW.ok {P:Program}{w:World}{K:aT}{mg:Str->Option Value}{base:Heap}{x qual:Str}{st:Stmt}{f:Addr}{fd:FuncData}{T:Addr}{N ps:List Str}{k:Nat}{sp:Sp}(F:wW K x qual st f fd T)(S:aJ N ps (au st))(len:∀vs H Q E,sp vs H Q E->vs.length=ps.length)
  (gb:∀(c:Addr)(A:Around)(outer:List Env)(s:Shared)(H:Hp)(vs:List V)(Q:VK)(E:XK),PySem.W.codeHdIn K c T=true->cX k (A.deeper (PyProof.Rows.envOfC qual (au st) s.heap.objs.size f (.ref c)))->sp vs H Q E ->
   ∃t,vo (d6 fk P w K mg base N qual (au st) f (.ref c) A outer s H E).AY (bB st) t/\t { nx:=λ_ H'=>Q .cU H',rt:=Q } (start N vs) H):bf P w K mg base fk (k+1) f fd ps sp:=by
 obtain⟨oc,od,kV,doc,pm,an,c,ct,uM,rfl,lk,qv,hC⟩:=F.ex;refine wq lk qv S len λA outer s H vs Q E hr sM=>?_;obtain⟨t,h,q⟩:=gb c A outer s H vs Q E hC hr sM;exact⟨t,h.AY,q⟩
theorem sG {v:V}:∀(hs:List Str)(a7:List (aF×V)) (as:List Str),a7.map (·.1)=as.map Sum.inr->(cA (hs.map λh=>((Sum.inr h:aF),v)) a7).map (·.1)=(M11.jK as hs).map Sum.inr
 | [],a7,as,e=>e
 | h::r,a7,as,e=>sG r (bc a7 (Sum.inr h) v) (M11.fh as h) (eG.jm e h)
theorem pN {v:V}:∀(hs:List Str)(a7:List (aF×V))(z:Str),aV (cA (hs.map λh=>((Sum.inr h:aF),v)) a7) (Sum.inr z)=if z∈hs then some v else aV a7 (Sum.inr z)
 | [],a7,z=>by simp [cA]
 | h::r,a7,z=>by
  have ih:=pN (v:=v) r (bc a7 (Sum.inr h) v) z;show aV (cA (r.map λh=>((Sum.inr h:aF),v)) (bc a7 (Sum.inr h) v)) (Sum.inr z)=_;rw [ih,vx];by_cases c:z∈r
  .rw [aw c,aw (bJ _ c)]
  rw [ay c];by_cases c2:z=h
  .rw [aw (by rw [c2]),aw (by rw [c2];exact bZ)]
  rw [ay (λe=>c2 (jY e)),ay (λe=>(bC.mp e).elim c2 c)]
end L2
namespace eG
open PySem L2 M11
def M8:List Stmt->Arguments×Expr×Scope×Pos
 | [.Return (some (.Call _ [_,_,.Lambda p b s pos] _ _)) _]=>(p,b,s,pos)
 | _=>(⟨[],[],none,[],[],none,[]⟩,.Constant .none 0 ⟨0,0,0,0⟩,au pV,⟨0,0,0,0⟩)
abbrev qg:=M8 (bB pV)
abbrev yD:=M8 (bB uF)
abbrev w6:Str := "least_sizes" ++ ".<locals>." ++ "<lambda>"
abbrev Ht:Str := "greatest_empty_sizes" ++ ".<locals>." ++ "<lambda>"
def IK:aJ ["size","known"] ["size","known"] qg.2.2.1:=ju rfl rfl rfl rfl nofun
def IL:aJ ["size","known"] ["size","known"] yD.2.2.1:=ju rfl rfl rfl rfl nofun
section
def yk (F:iq K "settled_sizes" "settled_sizes" k_ f fd)(T:Txt mg):bf P w K mg base fk 2 f fd ["rules","sizes","better"] (gH K w6 qg.1 qg.2.1 qg.2.2.1 M11.bl) :=
 sq F T IK (λpm eQ c' us hl=>match us,hl with | [_,_],_=>rfl) (λ_ _ _ _ _ _=>fP sk (pv 0) (pv 1) (cE _)) (λa b H Q h=>⟨_,rfl,_,rfl,_,_,rfl,rfl,h⟩)
def yl (F:iq K "settled_sizes" "settled_sizes" k_ f fd)(T:Txt mg):bf P w K mg base fk 2 f fd ["rules","sizes","better"] (gH K Ht yD.1 yD.2.1 yD.2.2.1 M11.bg) :=
 sq F T IL (λpm eQ c' us hl=>match us,hl with | [_,_],_=>rfl) (λ_ _ _ _ _ _=>fP Dc (pv 0) (pv 1) (cE _)) (λa b H Q h=>⟨_,rfl,_,rfl,_,_,rfl,rfl,h⟩)
def jB (aa:List av):G:=λz=>if z∈pM (hd aa) [] (aa.flatMap (·.2)) then some 0 else none
def oQ (K:aT)(T1:Addr):Sp:=λvs H Q _=>∃(R:Addr)(rs:List Addr)(aa:List av),vs=[.ref R]/\aD K H R (rs.map V.ref)/\bN K H rs aa/\aa.length<=1000/\(∀ru∈aa,ru.2.length<=8)/\Tab T1 qg.2.2.2 w6 H /\
 ∀(d:Addr)(kvs:List (aF×V)) (ks:List Str)(g:G)(H':Hp),H d=none->eF T1 H H'->Tab T1 qg.2.2.2 w6 H'->H' d=some (.dK kvs)->kvs.map (·.1)=ks.map Sum.inr->(∀z,aV kvs (Sum.inr z)=(g z).map V.int)->bU M11.bl aa (jB aa) g->cQ M11.bl aa g->kvs.length<=20000->Q (.ref d) H'
def Fp:aJ ["rules"] ["rules"] (au pV):=ju rfl rfl rfl rfl nofun
def Dq {T1:Addr}(F:wW K "least_sizes" "least_sizes" pV f fd T1)(T:Txt mg)(hB:qZ mg base)(GW:aM P w K mg base 1 "words_in" ["rules"] (zA K))
  (GS:aM P w K mg base 2 "settled_sizes" ["rules","sizes","better"] (gH K w6 qg.1 qg.2.1 qg.2.2.1 M11.bl)):bf P w K mg base fk 3 f fd ["rules"] (oQ K T1):=by
 refine F.ok Fp (λvs H Q E h=>?_) (λc A outer s H vs Q E hC hr h=>?_)
 .obtain⟨R,rs,aa,rfl,_⟩:=h;rfl
 obtain⟨R,rs,aa,rfl,hR,df,aZ,h8,hT,q⟩:=h;refine⟨_,aq (bO (cv GS hr rfl (ah (pv 0) (ah (aY (dj rfl) rfl T.Al eC (ah
  (bq ["word"] [] rfl (a8 (cv (GW.mono (by decide:1<=2)) hr rfl (ah (pv 0) ak))) (a9 rfl rfl) nofun rfl nofun
   (λ_ _ _ _ _=>ar (i:=0) (show (["word"]:List Str).Nodup by decide +kernel) rfl (bM rfl)) (λ_ _ _ _ _=>b9)
   (λ_ _ _ _ _=>cy (ah (pv 0) (ah aA ak)))) ak)) (ah (C4 (T:=T1) rfl hC hB nofun) ak))))),?_⟩
 dsimp only [Er];refine⟨_,rfl,_,rfl,R,rs,aa,rfl,hR,df,aZ,h8,λD1 H1 f1 s1 e1=>?_⟩;have lw:(pM (hd aa) [] (aa.flatMap (·.2))).length<=8000:=by
  have h1:=uo (hd aa) (aa.flatMap (·.2)) [];have h2:=il aa 1000 aZ h8;simp only [gO] at h1;omega
 refine⟨D1,rfl,⟨_,aD.of e1⟩,λD2 iQ=>wG (aD.of e1) ∅ iQ λts H2 s2 e2 p2=>?_⟩;have kp:Paired (λt (kv:aF×V)=>aX K H2 t [kV kv.1,kv.2]) ts ((pM (hd aa) [] (aa.flatMap (·.2))).map λh=>((Sum.inr h:aF),V.int 0)):=cf p2 λ_ _ z=>z;refine⟨D2,ts,_,rfl,e2,kp,λd hd2=>?_⟩;have k1:=sG (v:=.int 0) (pM (hd aa) [] (aa.flatMap (·.2))) [] [] rfl;have k2:∀z,aV (cA ((pM (hd aa) [] (aa.flatMap (·.2))).map λh=>((Sum.inr h:aF),V.int 0)) []) (Sum.inr z)=(jB aa z).map V.int:=λz=>by
  rw [pN];unfold jB
  split <;> rfl
 have lk:=fg (pM (hd aa) [] (aa.flatMap (·.2))) [];simp only [gO] at lk;generalize cA ((pM (hd aa) [] (aa.flatMap (·.2))).map λh=>((Sum.inr h:aF),V.int 0)) []=Nc at k1 k2;have s3:=(s1.trans s2).trans (ag hd2 (.dK Nc));have e3:upd H2 d (.dK Nc) d=some (.dK Nc):=ae;have vm:H d=none:=(s1.trans s2).free hd2;generalize upd H2 d (.dK Nc)=H3 at s3 e3;refine⟨hT.same s3,λfl c' eQ H4 s4 t4 ffl e4 TU=>?_⟩;have nT:d≠T1:=λz=>by
  obtain⟨ps,a,_⟩:=hT.same s3;rw [<-z,e3] at a;cases a
 have q_:=s4 d _ nT e3;have Ry:∀{a xs},aX K H a xs->aX K H4 a xs:=λ{a xs} h=>by
  obtain⟨ps,b,_⟩:=hT;rcases h with (h | ⟨u,h⟩) | h
  .exact .inl (.inl (s4 _ _ (λz=>by rw [z,b] at h;cases h) (s3 _ _ h)))
  .exact .inl (.inr ⟨u,s4 _ _ (λz=>by rw [z,b] at h;cases h) (s3 _ _ h)⟩)
  exact .inr h
 have Rz:∀{a xs},aD K H a xs->aD K H4 a xs:=λ{a xs} h=>by
  obtain⟨ps,b,_⟩:=hT;rcases h with (h | ⟨u,h⟩) | h
  .exact .inl (.inl (s4 _ _ (λz=>by rw [z,b] at h;cases h) (s3 _ _ h)))
  .exact .inl (.inr ⟨u,s4 _ _ (λz=>by rw [z,b] at h;cases h) (s3 _ _ h)⟩)
  exact .inr h
 refine⟨R,rs,aa,d,fl,c',_,eQ,Nc,_,jB aa,rfl,Rz hR,df.keep λ_ _ z=>Ry z,aZ,h8,q_,k1,ny _ kM,∅,k2,yF aa _ λz n e=>?_,e4,TU,λkj Nd g' H5 s5 e5 k5 v5 st se Vt=>?_⟩
 .unfold jB at e
  split at e
  .cases e;exact iW _
  cases e
 refine q d kj Nd g' H5 vm (λb o n hb=>s5 b o (λz=>?_) (s4 b o n (s3 b o hb))) (t4.Hc s5 q_) e5 k5 v5 st se Vt;rw [z,vm] at hb;cases hb
def uv (K:aT)(T2:Addr):Sp:=λvs H Q _=>∃(R:Addr)(rs:List Addr)(aa:List av)(b:Str->Int),vs=[.ref R]/\aD K H R (rs.map V.ref)/\bN K H rs aa/\aa.length<=1000/\(∀ru∈aa,ru.2.length<=8)/\qY aa b/\Tab T2 yD.2.2.2 Ht H /\
 ∀(d:Addr)(kvs:List (aF×V)) (ks:List Str)(g:G)(H':Hp),H d=none->eF T2 H H'->Tab T2 yD.2.2.2 Ht H'->H' d=some (.dK kvs)->kvs.map (·.1)=ks.map Sum.inr->(∀z,aV kvs (Sum.inr z)=(g z).map V.int)->GJ aa b g->bU M11.bg aa (λ_=>none) g->cQ M11.bg aa g->Q (.ref d) H'
def Ft:aJ ["rules"] ["rules"] (au uF):=ju rfl rfl rfl rfl nofun
def Dt {T2:Addr}(F:wW K "greatest_empty_sizes" "greatest_empty_sizes" uF f fd T2)(hB:qZ mg base)
  (GS:aM P w K mg base 2 "settled_sizes" ["rules","sizes","better"] (gH K Ht yD.1 yD.2.1 yD.2.2.1 M11.bg)):bf P w K mg base fk 3 f fd ["rules"] (uv K T2):=by
 refine F.ok Ft (λvs H Q E h=>?_) (λc A outer s H vs Q E hC hr h=>?_)
 .obtain⟨R,rs,aa,b,rfl,_⟩:=h;rfl
 obtain⟨R,rs,aa,b,rfl,hR,df,aZ,h8,V9,hT,q⟩:=h;refine⟨_,aq (bO (cv GS hr rfl (ah (pv 0) (ah fZ (ah (C4 (T:=T2) rfl hC hB nofun) ak))))),?_⟩;refine⟨_,rfl,λd vm=>?_⟩;have s3:=ag vm (.dK []);have e3:upd H d (.dK []) d=some (.dK []):=ae;generalize upd H d (.dK [])=H3 at s3 e3;refine⟨hT.same s3,λfl c' eQ H4 s4 t4 ffl e4 TU=>?_⟩;have nT:d≠T2:=λz=>by
  obtain⟨ps,a,_⟩:=hT.same s3;rw [<-z,e3] at a;cases a
 have q_:=s4 d _ nT e3;have Ry:∀{a xs},aX K H a xs->aX K H4 a xs:=λ{a xs} h=>by
  obtain⟨ps,b,_⟩:=hT;rcases h with (h | ⟨u,h⟩) | h
  .exact .inl (.inl (s4 _ _ (λz=>by rw [z,b] at h;cases h) (s3 _ _ h)))
  .exact .inl (.inr ⟨u,s4 _ _ (λz=>by rw [z,b] at h;cases h) (s3 _ _ h)⟩)
  exact .inr h
 have Rz:∀{a xs},aD K H a xs->aD K H4 a xs:=λ{a xs} h=>by
  obtain⟨ps,b,_⟩:=hT;rcases h with (h | ⟨u,h⟩) | h
  .exact .inl (.inl (s4 _ _ (λz=>by rw [z,b] at h;cases h) (s3 _ _ h)))
  .exact .inl (.inr ⟨u,s4 _ _ (λz=>by rw [z,b] at h;cases h) (s3 _ _ h)⟩)
  exact .inr h
 have j0:GJ aa b (λ_=>none):=λz n e=>nomatch e;refine⟨R,rs,aa,d,fl,c',_,eQ,[],[],λ_=>none,rfl,Rz hR,df.keep λ_ _ z=>Ry z,aZ,h8,q_,rfl,kM,gr _,λ_=>rfl,yN V9 _ j0,e4,TU,λkj Nd g' H5 s5 e5 k5 v5 st se Vt=>?_⟩;refine q d kj Nd g' H5 vm (λb o n hb=>s5 b o (λz=>?_) (s4 b o n (s3 b o hb))) (t4.Hc s5 q_) e5 k5 v5 (wk V9 st j0) st se;rw [z,vm] at hb;cases hb
end
end eG
namespace L2
open PySem PySem.Spec PyProof.Rows
def Kr (o:Obj):Nat:=match o.data with
 | .dict _ ep=>ep
 | _=>0
def OZ (d:Addr)(o:Obj)(kvs:List (aF×V)):It :=
 ⟨λi H=>H d=some (.iV o (.dK kvs))/\i < kvs.length,λi H x H'=>H'=H/\∃kv,kvs[i]?=some kv/\x=kV kv.1,λi H=>H d=some (.iV o (.dK kvs))/\kvs.length<=i⟩
def yR {X:Cx}{af:List (Addr×Obj)}{σ:St}{H:Hp}{s:Shared}{d:Addr}{o:Obj}{kvs:List (aF×V)}(I:Inv X af σ H s)(e:H d=some (.iV o (.dK kvs))) :
  (d == sysModules)=false/\∃vs,KV kvs vs/\s.heap.DictAt (aS X.prog X.w) d vs (Kr o):=by
 obtain⟨ho,hz,hs,vs,r,o',es,ep,h1,h2,h3,h4⟩:=(show bE X.prog X.w H s.heap d (.iV o (.dK kvs)) from I.bo d _ e);rw [ho] at h1;cases h1;refine⟨hs,vs,r,o,es,ho,h2,?_,h4⟩;unfold Kr;rw [h3]
def AE {P:Program}{w:World}{K:aT}{tg:Expr}(d it:Addr)(o:Obj)(kvs:List (aF×V)):Turn P w K tg (OZ d o kvs) [it] it (λi h=>h.IsKeyIter it d i kvs.length (Kr o)) where
 mem:=by simp
 obj:=λi h st b hb=>by
  have e:b=it:=by simpa using hb
  subst e;obtain⟨o,e,c,d⟩:=st;exact⟨o,e,λv z=>by rw [d] at z;cases z⟩
 keep:=λi h h' st k=>let ⟨o,e,r⟩:=st;⟨o,k it (by simp) o e,r⟩
 item:=by
  intro X hP hw hK hc i af s σ H E I hf st hg;subst hP hw hK;obtain⟨hq,hi⟩:=hg;obtain⟨hs,vs,r,da⟩:=yR I hq;have l:=r.length;obtain⟨kv,P1⟩:∃kv,kvs[i]?=some kv:=⟨kvs[i],dJ hi⟩;obtain⟨q,eq⟩:∃q,vs[i]?=some q:=⟨vs[i]'∅,dJ ∅⟩;have ek:kv.1=q.1:=by
   have:=congrArg (λl:List aF=>l[i]?) r.keys;simp only [bh,P1,eq] at this;exact gP this
  obtain⟨f0,f1,f2,f3,f4,f5⟩:=hf it (by simp);rw [l] at st;refine wpAny_pyNext_dict_item (k:=q.1) (v:=q.2) st da eq λkey h' hk rf sb=>?_;have I1:Inv X af σ H { s with heap:=h' }:=I.turned (t':=s.toks) (λb o hb e=>(sb.2 b hb).trans e) f0 f1 f3 f4 f5;obtain⟨o2,e,c,dd⟩:=id rf;rw [<-l] at rf;exact⟨key,rfl,Ac (s:={ s with heap:=h' }) e c dd nofun ⟨kV kv.1,H,I1,by rw [ek];exact Hz hk,⟨rfl,kv,P1,rfl⟩,rf,λb hb=>(hf b hb).1⟩⟩
 done:=by
  intro X hP hw hK hc i af s σ H E I hf st hg;subst hP hw hK;obtain⟨hq,hi⟩:=hg;obtain⟨hs,vs,r,da⟩:=yR I hq;have l:=r.length;obtain⟨f0,f1,f2,f3,f4,f5⟩:=hf it (by simp);rw [l] at st;exact wpAny_pyNext_dict_end (I.ok.hd hc) st da (List.getElem?_eq_none ∅) λh' eb=>⟨rfl,I.turned (t':=s.toks) (λb o hb e=>eb b o hb e) f0 f1 f3 f4 f5⟩
 self:=λ_ _ _ _ _ st h=>wpAny_pyIter_keyiter st h
def Ni (tl:TE):TI:=λσ H R=>tl σ H λx H1=>∃d kvs,x=.ref d/\H1 d=some (.dK kvs)/\∀o,R (OZ d o kvs) (upd H1 d (.iV o (.dK kvs)))
def zV {X:Cx}{tg l:Expr}{tl:TE}(hl:PE X l tl):PI X tg l (Ni tl):=by
 intro af s σ H R I h;refine b8 (hl af s σ H _ I h) λv s1 aR=>?_;obtain⟨x,H1,I1,r1,q1⟩:=aR;obtain⟨d,kvs,e,hd,q⟩:=q1;subst e;cases r1;obtain⟨hz,hs,vs,r,o,es,ep,h1,h2⟩:=(show bE X.prog X.w H1 s1.heap d (.dK kvs) from I1.bo d _ hd);have I2:Inv X af σ (upd H1 d (.iV o (.dK kvs))) { s1 with heap:=s1.heap,toks:=s1.toks }:=I1.write (x:=d) (e:=d) (by rw [hd];exact True.intro) (.inl rfl) (λb u _ e=>e) ⟨o,h1⟩ ⟨h1,hz,hs,vs,r,o,es,ep,h1,h2⟩;have e2:upd H1 d (.iV o (.dK kvs)) d=some (.iV o (.dK kvs)):=ae;obtain⟨_,UT,r2,da⟩:=yR I2 e2;have q2:=q o;generalize upd H1 d (.iV o (.dK kvs))=H2 at I2 e2 q2;refine wpAny_pyIter_dict hs da ?_;refine⟨s1.heap.objs.size,[s1.heap.objs.size],_,_,H2,rfl,I2.kept (t':=s1.toks) λb o e=>bj _ e,AE d _ o kvs,⟨_,cJ _ rfl,rfl,by rw [r2.length];rfl⟩,λb hb=>?_,q2⟩;have e:b=s1.heap.objs.size:=by simpa using hb
 subst e;exact I2.u0 (aH _) (I2.bo.fresh (aH _))
section
variable {d D:Addr}{o:Obj}{kvs:List (aF×V)}{ts:List Str}{js:List (Nat×Str)}{g:TG}{tif:TT}{te:TE}{R:Hp->Prop}{σ:St}{H:Hp}
def qN (Pv:Nat->List V->St->Hp->Prop)(h0:Pv 0 [] (cZ ts js σ) (upd H D (.lst [])))(hl:∀i ys σ H,i<=kvs.length->Pv i ys σ H->H d=some (.iV o (.dK kvs)))
  (hs:∀i kv ys σ H,kvs[i]?=some kv->Pv i ys σ H->g (kV kv.1) σ H λσ2 H2=>tif σ2 H2 λb H3=>if b=true then te σ2 H3 λy H4=>H4 D=some (.lst ys)/\ys.length < sizeLine/\Pv (i+1) (ys++[y]) σ2 (upd H4 D (.lst (ys++[y]))) else Pv (i+1) ys σ2 H3)
  (hd:∀ys σ H,Pv kvs.length ys σ H->R H) :
  ∃W:Nat->Nat->List V->St->Hp->Prop,(∃m,W 0 m [] (cZ ts js σ) (upd H D (.lst []))) /\
 ∀i m ys σ' H,W i m ys σ' H->((OZ d o kvs).stop i H/\R H)\/((OZ d o kvs).go i H/\∃m',m' < m/\∀x H',(OZ d o kvs).kA i H x H'->g x σ' H' λσ2 H2=>tif σ2 H2 λb H3 =>
  if b=true then te σ2 H3 λy H4=>H4 D=some (.lst ys)/\ys.length < sizeLine/\W (i+1) m' (ys++[y]) σ2 (upd H4 D (.lst (ys++[y]))) else W (i+1) m' ys σ2 H3):=by
 refine⟨λi m ys σ H=>m=kvs.length - i/\i<=kvs.length/\Pv i ys σ H,⟨kvs.length,by simp,gr _,h0⟩,?_⟩;rintro i m ys σ' H ⟨rfl,hi,p⟩;have q:=hl i ys σ' H hi p;by_cases iu:i < kvs.length
 .refine .inr ⟨⟨q,iu⟩,kvs.length - (i+1),∅,λx H' y=>?_⟩;obtain⟨e,kv,P1,rfl⟩:=y;subst e;have z:=hs i kv ys σ' _ P1 p;have h1:(i+1<=kvs.length)=True:=eq_true iu;simp only [h1,true_and];exact z
 have e:i=kvs.length:=by omega
 subst e;exact .inl ⟨⟨q,aH _⟩,hd ys σ' H p⟩
end
def sU {A:Around}{s:Shared}{l b:Addr}{ys xs:List Int}{aL gB:List Value}(r:aO (ys.map V.int) aL)(r2:aO (xs.map V.int) gB)(hl:s.heap.IsList l aL.toArray)(hb:s.heap.IsList b gB.toArray)(ne:l≠b)(hu:A.units < cLine) :
  SeqAt.EqAt A s (.ref l) (.ref b) (decide (ys=xs)):=by
 have l1:=r.length;have l2:=r2.length;rw [az] at l1 l2;by_cases aZ:ys.length=xs.length
 .have h:=SeqAt.RcAt.lists (A:=A) (e:=λj=>decide (ys[j]?=xs[j]?)) hl hb (by simp only [bI];omega) hu λj h1 h2=>?_
  .have e:((List.range aL.toArray.size).all λj=>decide (ys[j]?=xs[j]?))=decide (ys=xs):=by
    rw [jO,eY,decide_eq_true_iff];constructor
    .intro h;refine List.ext_getElem? λj=>?_;by_cases c:j < ys.length
     .exact eh (h j (jc.mpr (by simp only [bI];omega)))
     rw [List.getElem?_eq_none ∅,List.getElem?_eq_none ∅]
    intro h j _;rw [h];exact dO rfl
   rw [e] at h;exact .of_refs ne h
  have k1:j < aL.length:=by simpa using h1
  have k2:j < gB.length:=by simpa using h2
  have e1:ys[j]?=some (ys[j]'∅):=dJ ∅;have e2:xs[j]?=some (xs[j]'∅):=dJ ∅;obtain⟨u1,f1,q1⟩:=r.get (show (ys.map V.int)[j]?=some (.int (ys[j]'∅)) by rw [bh,e1];rfl);obtain⟨u2,f2,q2⟩:=r2.get (show (xs.map V.int)[j]?=some (.int (xs[j]'∅)) by rw [bh,e2];rfl);have g1:aL.toArray[j]=u1:=by
   have:=(ba.mp f1).2;simpa using this
  have g2:gB.toArray[j]=u2:=by
   have:=(ba.mp f2).2;simpa using this
  rw [g1,g2,e1,e2];obtain⟨t1,rfl⟩:=q1;obtain⟨t2,rfl⟩:=q2;have:=SeqAt.EqAt.int_int (A:=A.in1) (s:=s) (ys[j]'∅) t1 (xs[j]'∅) t2;have e3:(ys[j]'∅ == xs[j]'∅)=decide (some (ys[j]'∅)=some (xs[j]'∅)):=by
   rw [jO,beq_iff_eq,decide_eq_true_iff,Option.some.injEq]
  rw [e3] at this;exact this
 have h:=SeqAt.RcAt.lists_lengths (A:=A) hl hb (by simp only [bI,bne_iff_ne];omega) hu;rw [eM (λz=>aZ (by rw [z]))];exact .of_refs ne h
def AQ {X:Cx}(hu:X.A.units+1 < cLine):ky X (compareOp .In) (λx y H Q=>∃t a l1 l2 xs ys zs,x=.ref a/\y=.ref t/\aX X.K H t [.ref l1,.ref l2]/\aD X.K H a (List.map V.int xs)/\aD X.K H l1 (List.map V.int ys)/\aD X.K H l2 (List.map V.int zs)/\l1≠a/\l2≠a /\
  Q (.bl (decide (ys=xs) || decide (zs=xs))) H):=by
 intro af s σ H x y v u Q I rx ry h;obtain⟨t,a,l1,l2,xs,ys,zs,rfl,rfl,ht,ha,h1,h2,n1,n2,q⟩:=h;cases rx;cases ry;obtain⟨aL,r,pl,hz⟩:=I.tuple ht;obtain⟨u1,u2,rfl,q1,q2⟩:=vals2 r;cases (show u1=Value.ref l1 from q1);cases (show u2=Value.ref l2 from q2);obtain⟨xa,ra,pa,za⟩:=I.list ha;obtain⟨x1,r1,p1,z1⟩:=I.list h1;obtain⟨x2,r2,p2,z2⟩:=I.list h2;have e1:=sU (A:=X.A.in1) (s:=s) r1 ra p1.isList pa.isList n1 hu;have e2:=sU (A:=X.A.in1) (s:=s) r2 ra p2.isList pa.isList n2 hu;refine SeqAt.in_tupleAt (λy=>if y == .ref l1 then decide (ys=xs) else decide (zs=xs)) (show s.heap.IsTuple t #[.ref l1,.ref l2] from pl) (λy hy=>?_) ?_
 .have Y2:y=.ref l1\/y=.ref l2:=by simpa using hy
  by_cases c:y=.ref l1
  .subst c;rw [aw (o9 _)];exact e1
  rcases Y2 with z | z
  .exact absurd z c
  subst z;rw [ay (λq=>c (eq_of_beq q))];exact e2
 refine⟨.bl (decide (ys=xs) || decide (zs=xs)),H,I,?_,q⟩
 show Value.bool _=Value.bool _
 congr 1
 by_cases c:l2=l1
 .subst c;have e3:=I.qh h1 h2;have e4:ys=zs:=by
   have:=congrArg (List.map λv:V=>match v with | .int n=>n | _=>0) e3
   simpa [g_,Function.comp_def] using this
  subst e4;simp
 simp [c]
end L2
namespace M11
open PySem L2
def yS (b:Str->Bool) (zs:List Str) (i:Nat):List Int:=((List.range i).filter λj=>!(zs[j]?.elim true b)).map λj:Nat=>(j:Int)
def wt (b:Str->Bool) (zs:List Str) (i:Nat){z:Str}(e:zs[i]?=some z):yS b zs (i+1)=yS b zs i++(if b z=true then [] else [(i:Int)]):=by
 unfold yS;rw [List.range_succ,kR,br]
 congr 1
 by_cases h:b z=true
 .rw [aw h];simp [e,h]
 rw [ay h];simp [e,h]
def Gs (b:Str->Bool) (zs:List Str) (i:Nat):(yS b zs i).length<=i:=by
 unfold yS;rw [az];have:=iM (λj=>!(zs[j]?.elim true b)) (List.range i);rw [tP] at this;exact this
def A4 (b:Str->Bool) (zs:List Str) (j:Nat):Bool:=decide ([]=yS b zs zs.length) || decide ([(j:Int)]=yS b zs zs.length)
def KU (aa:List av) (names:List Str)(b:Str->Bool)(n:Str) (k j:Nat):Prop:=∃ru z,aa[k]?=some ru/\ru.1=n/\ru.2[j]?=some z/\z∈names/\A4 b ru.2 j=true
end M11
namespace L2
open PySem M11
def ir (p:Str×Addr):aF×V:=(Sum.inr p.1,.ref p.2)
theorem lW:∀(ps a7:List (aF×V)),((a7++ps).map (·.1)).Nodup->cA ps a7=a7++ps
 | [],a7,_=>by simp [cA]
 | p::r,a7,h=>by
  have n:aV a7 p.1=none:=by
   cases e:aV a7 p.1 with
   | none=>rfl
   | some v =>
    have hm:=(dM a7 p.1).mp (by rw [e];rfl);rw [br,bw] at h;exact absurd rfl ((iK.mp h).2.2 p.1 hm p.1 bZ)
  show cA r (bc a7 p.1 p.2)=_;rw [vL p.2 n,lW r (a7++[(p.1,p.2)]) (by rw [nQ];exact h),nQ];rfl
theorem fu:∀(ps:List (Str×Addr)),(ps.map (·.1)).Nodup->∀p∈ps,aV (ps.map ir) (Sum.inr p.1)=some (.ref p.2)
 | q::r,h,p,hp=>by
  rw [bw] at h ⊢;rcases bC.mp hp with z | z
  .rw [z];exact dB rfl
  rw [dC,fu r (jP.mp h).2 p z];intro e;have e':q.1=p.1:=jY e;exact(jP.mp h).1 (by rw [e'];exact iL z)
def lJ (ps:List (Str×Addr)):(ps.map ir).map (·.1)=(ps.map (·.1)).map Sum.inr:=by
 rw [g_,g_];rfl
def qM {K:aT}{H:Hp}{p D:Addr}{zs:List Str}{σ:St}{x:Str}{Qp:Hp->Prop}(hp:aD K H p (zs.map V.str))(hz:zs.length<=10000)(hD:H D=none)
  (q:∀ts (ps:List (Str×Addr)) H2,aB H H2->H2 D=some (.lst (ts.map V.ref))->ps.map (·.1)=zs->Paired (λt (p:Str×Addr)=>aX K H2 t [.str p.1,.ref p.2]) ts ps->(∀p∈ps,H2 p.2=some (.lst [])/\H p.2=none/\p.2≠D)->(ps.map (·.2)).Nodup->Qp H2) :
  ∃W:Nat->Nat->List V->St->Hp->Prop,(∃m,W 0 m [] (cZ [x] [] σ) (upd H D (.lst []))) /\
 ∀i m ys σ' H,W i m ys σ' H->((iS K p).stop i H/\Qp H)\/((iS K p).go i H/\∃m',m' < m/\∀x H',(iS K p).kA i H x H'->cY 0 x σ' H' λσ2 H2=>gQ σ2 H2 λb H3 =>
  if b=true then rb (fc (e_ 0) (fc (Md pP) pP)) σ2 H3 λy H4=>H4 D=some (.lst ys)/\ys.length < sizeLine/\W (i+1) m' (ys++[y]) σ2 (upd H4 D (.lst (ys++[y]))) else W (i+1) m' ys σ2 H3):=by
 refine bH (xs:=zs.map V.str) (λi ys σ2 H2=>∃(ts:List Addr)(ps:List (Str×Addr)),ys=ts.map V.ref/\ts.length=i/\ps.map (·.1)=zs.take i/\Paired (λt (p:Str×Addr)=>aX K H2 t [.str p.1,.ref p.2]) ts ps /\
   (∀p∈ps,H2 p.2=some (.lst [])/\H p.2=none/\p.2≠D)/\(ps.map (·.2)).Nodup/\(∃y0,σ2=[y0])/\aB H H2/\H2 D=some (.lst ys))
  ⟨[],[],rfl,rfl,rfl,.nil,by simp,by simp,⟨none,rfl⟩,ag hD _,ae⟩ (λi ys σ2 H2 _ h=>?_) (λi x ys σ2 H2 ex h=>?_) (λys σ2 H2 h=>?_)
 .obtain⟨_,_,_,_,_,_,_,_,_,sm,_⟩:=h;exact sm.seq hp
 .obtain⟨ts,ps,rfl,ht,hm,jn,hl,hn,⟨y0,rfl⟩,sm,hd⟩:=h;rw [bh] at ex;obtain⟨z,ez,rfl⟩:=bR.mp ex;have li:=(ba.mp ez).1;refine goN (wm ?_);refine⟨_,rfl,pL,λl om=>⟨ou,λt iP=>?_⟩⟩;have MR:l≠D:=(ao hd om).symm;have nt:t≠l:=λe=>by rw [e,ae] at iP;cases iP
  have Nq:H2 t=none:=by rw [ai nt] at iP;exact iP
  have X4:t≠D:=(ao hd Nq).symm;have ux:aB H2 (upd (upd H2 l (.lst [])) t (.tup [.str z,.ref l])):=(ag om _).trans (ag iP _);have gi:=ux _ _ hd;have el:upd (upd H2 l (.lst [])) t (.tup [.str z,.ref l]) l=some (.lst []):=by rw [ai nt.symm,ae]
  have et:aX K (upd (upd H2 l (.lst [])) t (.tup [.str z,.ref l])) t [.str z,.ref l]:=aX.of ae;generalize upd (upd H2 l (.lst [])) t (.tup [.str z,.ref l])=H4 at ux gi el et;refine⟨gi,bA (by rw [az];omega),ts++[t],ps++[(z,l)],by rw [br];rfl,by rw [cC,ht];rfl,by rw [br,hm,cu,ez];rfl,?_,?_,?_,⟨_,rfl⟩,?_,ae⟩
  .exact eW (Paired.d_ jn λt' h' z=>aW gi (ux.tup z)) (aW gi et)
  .intro p' nj;rcases cq.mp nj with h | h
   .obtain⟨a1,a2,a3⟩:=hl p' h;exact⟨by rw [ai a3];exact ux _ _ a1,a2,a3⟩
   rw [cm.mp h];exact⟨by rw [ai MR];exact el,sm.free om,MR⟩
  .rw [br];refine iK.mpr ⟨hn,by simp,λa ha b hb e=>?_⟩;rw [mI,cm] at hb;obtain⟨p',nj,rfl⟩:=b_.mp ha;have:=(hl p' nj).1;rw [e,hb] at this;rw [show H2 l=none from om] at this;cases this
  intro b o hb;rw [ai (λz=>by rw [z,hD] at hb;cases hb)];exact ux _ _ (sm b o hb)
 obtain⟨ts,ps,rfl,ht,hm,jn,hl,hn,_,sm,hd⟩:=h;rw [az,cb] at hm;exact q ts ps H2 sm hd hm jn hl hn
def wJ {K:aT}{H:Hp}{p D d:Addr}{zs:List Str}{kvs:List (aF×V)}{σ:St}{js:List (Nat×Str)}{Qp:Hp->Prop}(hσ:cZ ["place","part"] js σ=[none,none,bu d])(hp:aX K H p (zs.map V.str))(hz:zs.length<=1000)
  (hd:H d=some (.dK kvs))(hD:H D=none)(q:∀H2,aB H H2->H2 D=some (.lst ((yS (λz=>(aV kvs (Sum.inr z)).isSome) zs zs.length).map V.int))->Qp H2) :
  ∃W:Nat->Nat->List V->St->Hp->Prop,(∃m,W 0 m [] (cZ ["place","part"] js σ) (upd H D (.lst []))) /\
 ∀i m ys σ' H,W i m ys σ' H->((qU K p).stop i H/\Qp H)\/((qU K p).go i H/\∃m',m' < m/\∀x H',(qU K p).kA i H x H'->Bm K 2 (jo (cY 0) (jo (cY 1) DZ)) x σ' H' λσ2 H2=>tB (zr (e_ 1) (e_ 2)) σ2 H2 λb H3 =>
  if b=true then e_ 0 σ2 H3 λy H4=>H4 D=some (.lst ys)/\ys.length < sizeLine/\W (i+1) m' (ys++[y]) σ2 (upd H4 D (.lst (ys++[y]))) else W (i+1) m' ys σ2 H3):=by
 refine wL (xs:=zs.map V.str) (λi ys σ2 H2=>ys=(yS (λz=>(aV kvs (Sum.inr z)).isSome) zs i).map V.int/\(∃y0 y1,σ2=[y0,y1,bu d])/\aB H H2/\H2 D=some (.lst ys))
  ⟨rfl,⟨none,none,hσ⟩,ag hD _,ae⟩ (λi ys σ2 H2 _ h=>h.2.2.1.tup hp) (λi x ys σ2 H2 t ex h ht=>?_) (λys σ2 H2 h=>?_)
 .obtain⟨rfl,⟨y0,y1,rfl⟩,sm,hd2⟩:=h;rw [bh] at ex;obtain⟨z,ez,rfl⟩:=bR.mp ex;have li:=(ba.mp ez).1;have ux:=sm.trans (ag ht (.tup [.int (i:Int),.str z]));have gi:upd H2 t (.tup [.int (i:Int),.str z]) D=some (.lst ((yS (λz=>(aV kvs (Sum.inr z)).isSome) zs i).map V.int)):=by rw [ai (ao hd2 ht)];exact hd2
  have hv:aX K (upd H2 t (.tup [.int (i:Int),.str z])) t [.int (i:Int),.str z]:=aX.of ae;generalize upd H2 t (.tup [.int (i:Int),.str z])=H3 at ux gi hv;have fl:=Gs (λz=>(aV kvs (Sum.inr z)).isSome) zs i;refine⟨t,_,rfl,hv,rfl,_,_,rfl,_,_,rfl,rfl,?_⟩;refine⟨_,rfl,_,rfl,d,_,rfl,bV.k (k:=Sum.inr z) (ux _ _ hd),_,rfl,?_⟩;refine dW (λc=>?_) (λc=>?_)
  .refine⟨_,rfl,gi,bA (by rw [az];omega),?_,⟨_,_,rfl⟩,?_,ae⟩
   .rw [wt _ zs i ez,ay (λe=>by rw [e] at c;exact absurd c nofun),br];rfl
   intro b o hb;rw [ai (λz=>by rw [z,hD] at hb;cases hb)];exact ux b o hb
  refine⟨?_,⟨_,_,rfl⟩,ux,gi⟩;rw [wt _ zs i ez,aw,eX];cases hq:(aV kvs (Sum.inr z)).isSome with
  | true=>rfl
  | false=>exact absurd (by rw [hq];rfl) c
 obtain⟨rfl,_,sm,hd2⟩:=h;rw [az] at hd2;exact q H2 sm hd2
open PySem PySem.Spec PyProof.Rows
def gS {X:Cx}{elt iter tg:Expr}{iy:Nat}{y:Str}{py Mr:Pos}{ifs:List Expr}{scope:Scope}{pos:Pos}{wi:TI}{g:TG}{tif:TT}{te:TE}(ts:List Str)(js:List (Nat×Str))(hN:X.N.Nodup)(Zu:X.N[iy]?=some y)(hy:X.env.scope.names.lookup y=some .local)(hc:X.calm=true)(hi:PI X tg iter wi)
  (cp:G4 X scope js)(ij:∀y∈scope.names,y.2≠.cell)(ig:scope.kind=.function)
  (yM:∀y∈scope.names,y.2=.local->scope.names.lookup y.1=some .local)
  (hg:∀cl C s1 H1 fp,PG (qI X scope cl C s1 H1 (ts++js.map (·.2)) fp) tg g)
  (SE:∀cl C s1 H1 fp,BO (qI X scope cl C s1 H1 (ts++js.map (·.2)) fp) ifs tif)(he:∀cl C s1 H1 fp,PE (qI X scope cl C s1 H1 (ts++js.map (·.2)) fp) elt te)
  (Zg:swapsWith (.ListComp elt [⟨tg,iter,ifs,0⟩] scope pos) (some (.Name y py)) Mr.line X.env=pure true:=by rfl)(hs:∀x,foldedSetIterable iter X.env x=pure x:=by intro _;rfl) :
  PS X (.Assign [.Name y py] (.ListComp elt [⟨tg,iter,ifs,0⟩] scope pos) Mr) (II (Cf wi ts js g tif te) (cY iy)):=by
 intro af s σ H DD I h;rw [exec_Assign_Name_used _ _ _ _ Zg];refine ax (wpAny_standAt (ax ?_));show wpAny _ _ (do let _ <-comprehension (.ListComp elt [⟨tg,iter,ifs,0⟩] scope pos) scope X.env _ (newList []) false (eval iter X.env) (some (assign (.Name y py) X.env))) _ _ s;obtain⟨cl,kF⟩:=u6 (env:=X.env) (scope:=scope) λy hy=>I.ok.has y (.inl (cp.all y hy));refine ax (bY (wpAny_comprehension_free (use:=some (assign (.Name y py) X.env)) (Q:=λ_ s'=>SP X af DD .next s') rfl hs kF.eq ig yM (b8 (hi af s σ H _ I h) λv s1 h1=>b8 h1 λPu s2 h2=>?_)) (λ_ s' hq=>aK (aK hq)) λ_ _ e=>e);obtain⟨it,fp,tn,J,H2,e,I2,T,ET,f2,h2⟩:=h2;subst e;obtain⟨W,⟨m0,w0⟩,turn⟩:=h2 s2.heap.objs.size I2.fresh;have DS:∀b∈fp,b < s2.heap.objs.size:=λb hb=>by obtain⟨o,e,_⟩:=T.obj _ _ ET b hb;exact aP e
 refine o_ (wpAny_newFunctionEnv ij (by intro y hy;simp at hy) (λh₁ yL uX=>?_) ig);dsimp only at yL uX ⊢;generalize Ka:s2.heap.push { cls:=.type "list",dict:=none,data:=.seq ([]:List Value).toArray }=G2 at yL uX ⊢;have Gm:G2.objs.size=s2.heap.objs.size+1:=by rw [<-Ka,j4]
 have Te:s2.heap.objs.size≠G2.objs.size:=by rw [Gm];exact a_ (kP _)
 have old:∀b o,s2.heap.get? b=some o->h₁.get? b=some o:=λb o e =>
  uX.extBut b o (by rw [Gm];exact a_ (tQ (aP e))) (bj _ (Ka ▸ bj _ e))
 have Bk:h₁.get? s2.heap.objs.size=some { cls:=.type "list",data:=.seq ([]:List Value).toArray 0 }:=uX.extBut _ _ Te (bj _ (Ka ▸ cJ _ rfl));generalize lQ:qI X scope cl G2.objs.size s2 H2 (ts++js.map (·.2)) fp=X2;have I4:Inv X2 [] (cZ ts js σ) (upd H2 s2.heap.objs.size (.lst [])) { s2 with heap:=h₁,toks:=s2.toks+([]:List (Str×Value)).length }:=by
  rw [<-lQ];exact sJ I2 f2 DS ig ij cp kF (by rw [Gm];exact kP _) rfl rfl old yL Bk
 have x1:X2.prog=X.prog:=by rw [<-lQ];rfl
 have x2:X2.w=X.w:=by rw [<-lQ];rfl
 have x3:X2.K=X.K:=by rw [<-lQ];rfl
 have x4:X2.calm=true:=by rw [<-lQ];exact hc
 have x5:X2.A=X.A:=by rw [<-lQ];rfl
 have x6:X2.env=compEnvC scope cl G2.objs.size X.env:=by rw [<-lQ];rfl
 have x7:X2.xe=λ_ _=>False:=by rw [<-lQ];rfl
 have SH:PG X2 tg g:=by rw [<-lQ];exact hg _ _ _ _ _
 have JQ:BO X2 ifs tif:=by rw [<-lQ];exact SE _ _ _ _ _
 have E4:PE X2 elt te:=by rw [<-lQ];exact he _ _ _ _ _
 have Mp:tn 0 h₁:=T.keep _ _ _ ET λb _ o e=>old b o e;have pS:∀{H':Hp}{iO:List (Addr×Obj)},(∀b∈fp,H' b=none)->(∀p∈iO,p.1∉fp)->∀b∈fp,vh X2 iO H' b:=λ{H' iO} hn hp b hb=>by
  have o4:=I4.ok;subst lQ;exact⟨hn b hb,(o4.Kn b hb).1,o4.yT b hb,.inl hb,(o4.Kn b hb).2,λp nj=>by
   have yK:p∈([]:List (Addr×Obj))++iO:=nj;rw [mr] at yK;intro z;exact hp p yK (by rw [z];exact hb)⟩
 have fin:∀{s':Shared}{σ':St}{H':Hp},Inv X2 [] σ' H' s'->DD.nx (σ.set iy (some (.ref s2.heap.objs.size))) H' ->
   compPost (model X.prog X.w) X.A X.xe (some (assign (.Name y py) X.env)) (λ_ s'=>SP X af DD .next s') (.ref s2.heap.objs.size) G2.objs.size (.ok .next) s':=λ{s' σ' H'} J' q=>by
  subst lQ;obtain⟨m',JL,_⟩:=J'.loc;have I5:Inv X af σ H' s':=I2.An (s':=s') J'.os J'.base J'.bo J'.bare λb hb=>by
   obtain⟨_,f1,_,f3,f4,f5⟩:=f2 b hb;exact⟨f3,f1,f4,f5⟩
  obtain⟨f0,f1,_,f3,f4,f5⟩:=I2.u0 (H':=H') (b:=G2.objs.size) (by rw [Gm];exact iX _) J'.free;show wpAny _ _ (assign (.Name y py) X.env (.ref s2.heap.objs.size)) _ _ s';refine wpAny_assign_Name (rR I5 hN Zu (.inl hy) (v:=.ref s2.heap.objs.size) rfl (λCI I6 aR=>?_) (.inr hy));obtain⟨a,sb,ha⟩:=aR;have Ym:G2.objs.size≠a:=by
   rcases ha with ha | ha
   .rw [ha];exact f1
   exact(f4 _ _ ha).symm
  refine⟨m',JL.sameBut sb Ym,λh' Lk=>?_⟩;exact⟨_,H',I6.turned (t':=CI.toks) (λb o hb e=>(Lk.2 b hb).trans e) f0 f1 f3 f4 f5,q⟩
 have loop:∀s₃:Shared,s₃={ s2 with heap:=h₁,toks:=s2.toks+([]:List (Str×Value)).length } ->
   codeAny (model X.prog X.w) X.A (.compLoop (.ListComp elt [⟨tg,iter,ifs,0⟩] scope pos) 0 (.ref it) (.ref s2.heap.objs.size) (compEnvC scope cl G2.objs.size X.env))
    (compPost (model X.prog X.w) X.A X.xe (some (assign (.Name y py) X.env)) (λ_ s'=>SP X af DD .next s') (.ref s2.heap.objs.size) G2.objs.size) s₃:=by
  rintro s₃ rfl;subst lQ;refine oo (λn s'=>∃i ys σ' H',Inv (qI X scope cl G2.objs.size s2 H2 (ts++js.map (·.2)) fp) [] σ' H' s'/\tn i s'.heap/\(∀b∈fp,H' b=none)/\W i n ys σ' H') ?_ m0
   ⟨0,[],_,_,I4,Mp,λb hb=>by rw [ai (a_ (DS b hb))];exact(f2 b hb).1,w0⟩
  rintro n s' ⟨i,ys,σ0,H',J',rf,N_,w'⟩;rcases turn i n ys σ0 H' w' with ⟨stop,q⟩ | ⟨go,m',hm,step⟩
  .refine bY (T.done (qI X scope cl G2.objs.size s2 H2 (ts++js.map (·.2)) fp) rfl rfl rfl hc i [] s' _ H' (λ_ _=>False) J' (pS N_ (by simp)) rf stop) (λr s4 ⟨hr,J4⟩=>?_) λ_ _ z=>z;subst hr;exact fin J4 q
  refine bY (T.item (qI X scope cl G2.objs.size s2 H2 (ts++js.map (·.2)) fp) rfl rfl rfl hc i [] s' _ H' (λ_ _=>False) J' (pS N_ (by simp)) rf go) (λr s4 ⟨u,hr,h4⟩=>?_) λ_ _ z=>z;subst hr;refine bY h4 (λ_ s5 aR=>?_) λ_ _ z=>z;obtain⟨xv,H5,J5,r5,y5,vD,N9⟩:=aR;have UI:=J5.pinned (pS N9 (by simp)) (T.obj _ _ vD);have back:∀{s7:Shared}{σ7:St}{H7:Hp},Inv (qI X scope cl G2.objs.size s2 H2 (ts++js.map (·.2)) fp) ([]++mS fp s5.heap) σ7 H7 s7->Inv (qI X scope cl G2.objs.size s2 H2 (ts++js.map (·.2)) fp) [] σ7 H7 s7/\tn (i+1) s7.heap/\∀b∈fp,H7 b=none:=λ{s7 σ7 H7} J7=>by
   refine⟨J7.jd,T.keep _ _ _ vD λb hb o e=>(J7.pin (b,o) (eZ _ (eZ _ (fA hb e)))).1,λb hb=>?_⟩;obtain⟨o,e,d⟩:=T.obj _ _ vD b hb;exact(J7.pin (b,o) (eZ _ (eZ _ (fA hb e)))).2.1
  show wpAny _ _ (assign tg (qI X scope cl G2.objs.size s2 H2 (ts++js.map (·.2)) fp).env u) _ _ s5;refine bY (SH _ s5 _ H5 xv u _ UI r5 (step xv H5 y5)) (λ_ s6 aR=>?_) λ_ _ z=>z;obtain⟨σ6,H6,J6,q6⟩:=aR;refine bY (JQ _ s6 _ H6 _ J6 q6) (λb s7 aR=>?_) λ_ _ z=>z;obtain⟨H7,J7,q7⟩:=aR;cases b with
  | false =>
   rw [ay cT] at q7 ⊢;obtain⟨J8,QO,Tn⟩:=back J7;exact⟨m',hm,i+1,ys,σ6,H7,J8,QO,Tn,q7⟩
  | true =>
   rw [aw rfl] at q7 ⊢;refine bY (E4 _ s7 _ H7 _ J7 q7) (λyv s8 aR=>?_) λ_ _ z=>z;obtain⟨y,H8,J8,r8,Lp,R6,w8⟩:=aR;refine bY (cN (X:=qI X scope cl G2.objs.size s2 H2 (ts++js.map (·.2)) fp) _ s8 _ H8 (.ref s2.heap.objs.size) [y] (.ref s2.heap.objs.size) [yv] (λv H'=>W (i+1) m' (ys++[y]) σ6 H') J8 rfl (.cons r8 .nil) ⟨s2.heap.objs.size,ys,y,rfl,rfl,Lp,R6,w8⟩)
    (λ_ s9 ⟨_,H9,J9,_,w9⟩=>?_) λ_ _ z=>z
   obtain⟨UJ,IJ,Kj⟩:=back J9;exact⟨m',hm,i+1,ys++[y],σ6,H9,UJ,IJ,Kj,w9⟩
 exact codeAny_compStart_list (loop _ rfl) (T.self _ _ _ _ _ Mp (loop _ rfl))
end L2
namespace eG
open PySem L2 M11
section
def uP {l:List Str}(h:l.Nodup):(l.map (Sum.inr:Str->aF)).Nodup:=List.Pairwise.map _ (λa b ZX e=>ZX (jY e)) h
structure BZ (K:aT)(ps:List (Str×Addr))(st:Str->List (Nat×Nat))(H:Hp)(d:Addr):Prop where
 hd:Rd H d (.dK (ps.map ir))
 n1:(ps.map (·.1)).Nodup
 n2:(ps.map (·.2)).Nodup
 lst:∀p∈ps,∃ts,H p.2=some (.lst (ts.map V.ref))/\Paired (λt (e:Nat×Nat)=>aX K H t [.int (e.1:Int),.int (e.2:Int)]) ts (st p.1)
def Rd.same {H H':Hp}{a:Addr}{u:HO}(h:Rd H a u)(s:aB H H'):Rd H' a u:=h.elim (λz=>.inl (s _ _ z)) λ⟨o,z⟩=>.inr ⟨o,s _ _ z⟩
theorem BZ.same {ps:List (Str×Addr)}{st:Str->List (Nat×Nat)}{H H':Hp}{d:Addr}(h:BZ K ps st H d)(s:aB H H'):BZ K ps st H' d :=
 ⟨Rd.same h.hd s,h.n1,h.n2,λp hp=>let ⟨ts,a,b⟩:=h.lst p hp;⟨ts,s _ _ a,Paired.d_ b λ_ _ z=>s.tup z⟩⟩
def tH (st:Str->List (Nat×Nat))(n:Str)(e:Nat×Nat):Str->List (Nat×Nat):=λz=>if z=n then st z++[e] else st z
def BZ.more {ps:List (Str×Addr)}{st:Str->List (Nat×Nat)}{H:Hp}{d:Addr}(h:BZ K ps st H d){p:Str×Addr}(hp:p∈ps){ts:List Addr}{t:Addr}{e:Nat×Nat}(a:H p.2=some (.lst (ts.map V.ref)))
  (b:Paired (λt (e:Nat×Nat)=>aX K H t [.int (e.1:Int),.int (e.2:Int)]) ts (st p.1))(c:aX K H t [.int (e.1:Int),.int (e.2:Int)]) :
  BZ K ps (tH st p.1 e) (upd H p.2 (.lst (ts.map V.ref++[.ref t]))) d:=by
 have nd:d≠p.2:=λz=>by
  rcases h.hd with q | ⟨o,q⟩
  .rw [z,a] at q;cases q
  rw [z,a] at q;cases q
 refine⟨?_,h.n1,h.n2,λp' nj=>?_⟩
 .rcases h.hd with q | ⟨o,q⟩
  .exact .inl (by rw [ai nd];exact q)
  exact .inr ⟨o,by rw [ai nd];exact q⟩
 by_cases z:p'=p
 .rw [z];refine⟨ts++[t],by rw [ae,br];rfl,?_⟩;have e1:tH st p.1 e p.1=st p.1++[e]:=aw rfl;rw [e1];exact eW (Paired.d_ b λ_ _ z=>aW a z) (aW a c)
 have n1:p'.1≠p.1:=λq=>z (by
  have w1:=fu ps h.n1 p' nj;have w2:=fu ps h.n1 p hp;rw [q,w2] at w1;injection w1 with w3;injection w3 with w4;exact Prod.ext q w4.symm)
 have n2:p'.2≠p.2:=λq=>by
  obtain⟨i,hi,ei⟩:=px.mp nj;obtain⟨j,hj,ej⟩:=px.mp hp;have Bg:i=j:=by
   refine(tL (xs:=ps.map (·.2)) (h₀:=by simpa using hi) (h₁:=by simpa using hj) h.n2).mp ?_;rw [mv,mv,ei,ej];exact q
  subst Bg;exact z (ei.symm.trans ej)
 obtain⟨K3,a',b'⟩:=h.lst p' nj;refine⟨K3,by rw [ai n2];exact a',?_⟩;have e1:tH st p.1 e p'.1=st p'.1:=ay n1;rw [e1];exact Paired.d_ b' λ_ _ z=>aW a z
def zD (K:aT):Sp:=λvs H Q _=>∃(R:Addr)(rs:List Addr)(aa:List av),vs=[.ref R]/\aD K H R (rs.map V.ref)/\bN K H rs aa/\aa.length<=1000/\(∀ru∈aa,ru.2.length<=8) /\
 ∀(d:Addr)(ps:List (Str×Addr))(st:Str->List (Nat×Nat))(aQ:List (Str×Nat))(H':Hp),H d=none->aB H H'->H' d=some (.dK (ps.map ir))->BZ K ps st H' d->ps.map (·.1)=hd aa->(∀p∈ps,H p.2=none)->qX aa aQ->nI aa aa.length aQ ->
  (∀n k j,n∈hd aa->((k,j)∈st n↔KU aa (hd aa) (λz=>decide (z∈aQ.map (·.1))) n k j))->Q (.ref d) H'
def gR:aJ ["rules","empty","steps","number","rule","place","part","filled"] ["rules"] (au xO):=ju rfl rfl rfl rfl nofun
def Dj (F:iq K "steps_with_like_rows" "steps_with_like_rows" xO f fd)(T:Txt mg)(GE:aM P w K mg base 1 "found_empties" ["rules"] (mP K))(GH:aM P w K mg base 1 "heads_of" ["rules"] (jy K)):bf P w K mg base fk 2 f fd ["rules"] (zD K):=by
 refine F.ok gR (λvs H Q E h=>?_) (λdr A outer s H vs Q E hr h=>?_)
 .obtain⟨R,rs,aa,rfl,_⟩:=h;rfl
 obtain⟨R,rs,aa,rfl,hR,df,aZ,h8,q⟩:=h;have hu:=f_ hr;refine⟨_,aj (aI (i:=1) gR.nd rfl (Or.inr rfl) (aY (dj rfl) rfl T.Al eC (ah (cv GE hr rfl (ah (pv 0) ak)) ak)))
  (aj (aI (i:=2) gR.nd rfl (bM rfl) (aY (dj rfl) rfl T.Al eC (ah
   (bq ["name"] [] rfl (a8 (cv GH hr rfl (ah (pv 0) ak))) (a9 rfl rfl) nofun rfl nofun
    (λ_ _ _ _ _=>ar (i:=0) (show (["name"]:List Str).Nodup by decide +kernel) rfl (bM rfl)) (λ_ _ _ _ _=>b9)
    (λ_ _ _ _ _=>cy (ah (pv 0) (ah (bQ ak) ak)))) ak)))
  (aj (cx cS rfl (lG rfl T.Gv (ah (pv 0) ak)) (eJ rfl (aC (ar (i:=3) gR.nd rfl (bM rfl)) (aC (ar (i:=4) gR.nd rfl (bM rfl)) bW)))
   (aj (gS (iy:=7) ["place","part"] [(1,"empty")] gR.nd rfl rfl rfl (lF rfl T.Gv (ah (bz cO (pv 4) aA (λ_ _=>rfl)) ak)) (a9 rfl rfl) nofun rfl nofun
    (λ_ _ _ _ _=>gU (n:=2) K rfl (aC (ar (i:=0) (show (["place","part","empty"]:List Str).Nodup by decide +kernel) rfl (bM rfl)) (aC (ar (i:=1) (show (["place","part","empty"]:List Str).Nodup by decide +kernel) rfl (bM rfl)) bW)))
    (λ_ _ _ _ _=>fO (eI (dH hu (pv 1) (pv 2)))) (λ_ _ _ _ _=>pv 0))
   (aq (cx cS rfl (lF rfl T.Gv (ah (bz cO (pv 4) aA (λ_ _=>rfl)) ak)) (eJ rfl (aC (ar (i:=5) gR.nd rfl (bM rfl)) (aC (ar (i:=6) gR.nd rfl (bM rfl)) bW)))
    (aq (de (PW.pt (uI (eI (mX hu (pv 6) (pv 2))) (oW (bT (AQ hu) (pv 7) (cy (ah (bQ ak) (ah (bQ (ah (pv 5) ak)) ak))) rfl))))
     (aq (cD (hZ iN i6 i7 cN (dY hu (pv 2) (bz cO (pv 4) aA (λ_ _=>rfl)) (λ_ _=>rfl)) (ah (cy (ah (pv 3) (ah (pv 5) ak))) ak)))) bx)))))
   )
  (aq (bO (pv 2))))),?_⟩
 nofun
 have ll:=bF df;refine⟨_,rfl,R,rs,aa,rfl,hR,df,aZ,h8,λD1 AF aQ H1 f1 s1 e1 w1 emp Bp=>?_⟩;have RX:Paired (λt (kv:aF×V)=>aX K H1 t [kV kv.1,kv.2]) AF (aQ.map λp=>((Sum.inr p.1:aF),V.int (p.2:Int))):=cf w1 λ_ _ z=>z;refine⟨D1,AF,_,rfl,e1,RX,λe he=>?_⟩;have ekE:cA (aQ.map λp=>((Sum.inr p.1:aF),V.int (p.2:Int))) []=aQ.map λp=>((Sum.inr p.1:aF),V.int (p.2:Int)):=lW _ [] (by
  rw [mr,g_];have:=uP emp.nd;rw [g_] at this;exact this)
 rw [ekE];have A3:∀z,(aV (aQ.map λp=>((Sum.inr p.1:aF),V.int (p.2:Int))) (Sum.inr z)).isSome=decide (z∈aQ.map (·.1)):=λz=>by
  rw [jO,dM,decide_eq_true_iff,g_];have:(aQ.map λp:Str×Nat=>(Sum.inr p.1:aF))=(aQ.map (·.1)).map Sum.inr:=by rw [g_];rfl
  show _∈(aQ.map λp:Str×Nat=>(Sum.inr p.1:aF))↔_;rw [this];exact cw
 generalize (aQ.map λp=>((Sum.inr p.1:aF),V.int (p.2:Int)))=kE at A3 ⊢;have s2:=s1.trans (ag he (.dK kE));have e2:upd H1 e (.dK kE) e=some (.dK kE):=ae;generalize upd H1 e (.dK kE)=H2 at s2 e2;refine⟨_,rfl,R,rs,aa,rfl,s2.seq hR,df.same s2,aZ,λD2 H3 f3 s3 e3=>?_⟩;have A5:=fg (aa.map (·.1)) [];simp only [gO,az] at A5;refine⟨D2,rfl,⟨_,aD.of e3⟩,λD3 HJ=>qM (aD.of e3) ∅ HJ λts ps H4 s4 e4 m4 p4 l4 n4=>?_⟩;have n1:(ps.map (·.1)).Nodup:=by rw [m4];exact ny _ kM
 have DG:Paired (λt (kv:aF×V)=>aX K H4 t [kV kv.1,kv.2]) ts (ps.map ir):=cf p4 λ_ _ z=>z;refine⟨D3,ts,_,rfl,e4,DG,λd oC=>?_⟩;have Og:cA (ps.map ir) []=ps.map ir:=lW _ [] (by
  rw [mr,lJ];exact uP n1)
 rw [Og];have s5:=((s2.trans s3).trans s4).trans (ag oC (.dK (ps.map ir)));have vH:=ag oC (.dK (ps.map ir));have e5:upd H4 d (.dK (ps.map ir)) d=some (.dK (ps.map ir)):=ae;have Ol:=vH _ _ (s4 _ _ (s3 _ _ e2));have vm:H d=none:=((s2.trans s3).trans s4).free oC;have S5:BZ K ps (λ_=>[]) (upd H4 d (.dK (ps.map ir))) d:=⟨.inl e5,n1,n4,λp hp=>⟨[],vH _ _ (l4 p hp).1,.nil⟩⟩;have Lw:∀p∈ps,H p.2=none:=λp hp=>(s2.trans s3).free (l4 p hp).2.1;generalize upd H4 d (.dK (ps.map ir))=H5 at s5 e5 Ol S5;clear vH;have eb:(λz=>(aV kE (Sum.inr z)).isSome)=λz=>decide (z∈aQ.map (·.1)):=funext A3;refine⟨_,rfl,R,_,rfl,s5.seq hR,?_⟩
 let wV:vp:=λi σ H6=>∃(st:Str->List (Nat×Nat))(y3 y4 y5 y6 y7:Option V),σ=[bu R,bu e,bu d,y3,y4,y5,y6,y7]/\aB H H6/\H6 e=some (.dK kE)/\H6 d=some (.dK (ps.map ir))/\BZ K ps st H6 d /\
  (∀n,(st n).length<=8 * i)/\∀n k j,n∈hd aa->((k,j)∈st n↔k < i/\KU aa (hd aa) (λz=>decide (z∈aQ.map (·.1))) n k j)
 refine jr (xs:=rs.map V.ref) wV
  ⟨λ_=>[],none,none,none,none,none,rfl,s5,Ol,e5,S5,by simp,by simp⟩ ?_ ?_ ?_
 .rintro i σ H6 _ ⟨st,y3,y4,y5,y6,y7,rfl,s6,_⟩;exact s6.seq hR
 .rintro i x σ H6 t ex ⟨st,y3,y4,y5,y6,y7,rfl,s6,Bq,TR,S6,l6,c6⟩ ht
  ac_nf0
  rw [bh] at ex;obtain⟨r,er,rfl⟩:=bR.mp ex;obtain⟨ru,qF,p,v1,v2⟩:=df.get er;have nq:=cR qF;have Ls:=h8 ru nq;have li:=(ba.mp qF).1;have EV:=ag ht (.tup [.int (i:Int),.ref r]);have HB:aX K (upd H6 t (.tup [.int (i:Int),.ref r])) t [.int (i:Int),.ref r]:=aX.of ae;have s7:=s6.trans EV;have BX:=EV _ _ Bq;have Wz:=EV _ _ TR;have S7:=S6.same EV;generalize upd H6 t (.tup [.int (i:Int),.ref r])=H7 at HB s7 BX Wz S7;refine⟨t,_,rfl,HB,rfl,_,_,rfl,_,_,rfl,rfl,?_⟩;refine⟨_,rfl,r,_,_,_,rfl,rfl,s7.tup v1,rfl,p,_,rfl,s7.tup v2,λD5 Lr=>wJ rfl (s7.tup v2) ∅ BX Lr λH8 K6 e8=>?_⟩;rw [eb] at e8;have s8:=s7.trans K6;have Oj:=K6 _ _ BX;have ed8:=K6 _ _ Wz;have S8:=S7.same K6;have Yl:∀p∈ps,p.2≠D5:=λp hp z=>by
   obtain⟨K3,a,_⟩:=S7.lst p hp;rw [z,Lr] at a;cases a
  obtain⟨pn,wb,xj⟩:∃pn∈ps,pn.1=ru.1:=by
   have:ru.1∈ps.map (·.1):=by rw [m4];exact(dN _ _ _).mpr (.inr (iL nq))
   obtain⟨pn,a,b⟩:=b_.mp this;exact⟨pn,a,b⟩
  refine⟨_,rfl,r,_,_,_,rfl,rfl,s8.tup v1,rfl,p,_,rfl,s8.tup v2,?_⟩
  let EL:vp:=λj σ H9=>∃(st:Str->List (Nat×Nat))(y5 y6:Option V),σ=[bu R,bu e,bu d,some (.int (i:Int)),bu r,y5,y6,bu D5]/\aB H H9/\H9 e=some (.dK kE)/\H9 d=some (.dK (ps.map ir))/\BZ K ps st H9 d /\
   H9 D5=some (.lst ((yS (λz=>decide (z∈aQ.map (·.1))) ru.2 ru.2.length).map V.int))/\(∀n,(st n).length<=8 * i+j)/\∀n k j',n∈hd aa->((k,j')∈st n↔(k < i\/(k=i/\j' < j))/\KU aa (hd aa) (λz=>decide (z∈aQ.map (·.1))) n k j')
  refine nu (xs:=ru.2.map V.str) EL
   ⟨st,_,_,rfl,s8,Oj,ed8,S8,e8,λn=>l6 n,λn k j' hn=>by rw [c6 n k j' hn];simp⟩ ?_ ?_ ?_
  .rintro j σ H9 _ ⟨st,y5,y6,rfl,s9,_⟩;exact s9.tup v2
  .rintro j x σ H9 t2 yU ⟨st,y5,y6,rfl,s9,HQ,TQ,S9,e9,l9,c9⟩ iP
   ac_nf0
   rw [bh] at yU;obtain⟨z,ez,rfl⟩:=bR.mp yU;have lj:=(ba.mp ez).1;have vG:=ag iP (.tup [.int (j:Int),.str z]);have DM:aX K (upd H9 t2 (.tup [.int (j:Int),.str z])) t2 [.int (j:Int),.str z]:=aX.of ae;have n8:=s9.trans vG;have nv:=vG _ _ HQ;have oG:=vG _ _ TQ;have y_:=vG _ _ e9;have Ih:=S9.same vG;generalize upd H9 t2 (.tup [.int (j:Int),.str z])=vf at DM n8 nv oG y_ Ih;have mem:(aV (ps.map ir) (Sum.inr z)).isSome=true↔z∈hd aa:=by rw [dM,lJ,m4];exact cw
   have gZ:¬(z∈hd aa/\A4 (λz=>decide (z∈aQ.map (·.1))) ru.2 j=true)->∀n k j',n∈hd aa->((k,j')∈st n↔(k < i\/(k=i/\j' < j+1))/\KU aa (hd aa) (λz=>decide (z∈aQ.map (·.1))) n k j'):=λhn n k j' Su=>by
    rw [c9 n k j' Su];constructor
    .rintro⟨h1,h3⟩;exact⟨∅,h3⟩
    rintro⟨h1,h3⟩;refine⟨?_,h3⟩;by_cases c:k=i/\j'=j
    .obtain⟨w5,z',a1,a2,a3,a4,a5⟩:=h3;rw [c.1,qF] at a1;cases a1;rw [c.2] at a5;rw [c.2,ez] at a3;cases a3;exact absurd ⟨a4,a5⟩ hn
    omega
   have Vw:∀n,(st n).length<=8 * i+(j+1):=λn=>by have:=l9 n;omega
   refine⟨t2,_,rfl,DM,rfl,_,_,rfl,_,_,rfl,rfl,?_⟩;refine⟨_,rfl,_,rfl,d,_,rfl,bV.k (k:=Sum.inr z) oG,_,rfl,?_⟩;refine dW (λc=>?_) (λc=>?_)
   .have hz:=mem.mp c;refine⟨_,rfl,pL,λl1 VQ=>?_⟩;have vi:=ag VQ (.lst []);have xl:upd vf l1 (.lst []) l1=some (.lst []):=ae;have X_:l1≠D5:=(ao y_ VQ).symm;generalize upd vf l1 (.lst [])=xn at vi xl;refine⟨_,rfl,Ip,λl2 om=>?_⟩;have CG:=ag om (.lst [.int (j:Int)]);have El:upd xn l2 (.lst [.int (j:Int)]) l2=some (.lst [.int (j:Int)]):=ae;have Rq:l2≠D5:=(ao (vi _ _ y_) om).symm;generalize upd xn l2 (.lst [.int (j:Int)])=qV at CG El;refine⟨ou,λt3 Nq=>?_⟩;have EW:=ag Nq (.tup [.ref l1,.ref l2]);have HU:aX K (upd qV t3 (.tup [.ref l1,.ref l2])) t3 [.ref l1,.ref l2]:=aX.of ae;generalize upd qV t3 (.tup [.ref l1,.ref l2])=tI at EW HU;have oz:=(vi.trans CG).trans EW;refine⟨t3,D5,l1,l2,_,[],[(j:Int)],rfl,rfl,HU,aD.of (oz _ _ y_),aD.of (EW _ _ (CG _ _ xl)),aD.of (EW _ _ El),X_,Rq,_,rfl,?_⟩;have EI:=Ih.same oz;have IZ:=n8.trans oz;refine dW (λc2=>?_) (λc2=>?_)
    .obtain⟨UW,an,bn⟩:=EI.lst pn wb;have vn:=fu ps n1 pn wb;rw [xj] at vn;have hg:bV tI d (.str ru.1) (some (.ref pn.2)):=by
      have:=bV.k (k:=Sum.inr ru.1) (oz _ _ oG);rw [vn] at this;exact this
     have ltn:=bF bn;have l9n:=l9 pn.1;refine⟨_,rfl,_,rfl,r,_,_,_,rfl,rfl,IZ.tup v1,rfl,d,_,rfl,hg,.inl ⟨rfl,_,aD.of an⟩,_,rfl,_,rfl,ou,λt4 yJ=>?_⟩;have pZ:=ag yJ (.tup [.int (i:Int),.int (j:Int)]);have HS:aX K (upd tI t4 (.tup [.int (i:Int),.int (j:Int)])) t4 [.int (i:Int),.int (j:Int)]:=aX.of ae;generalize upd tI t4 (.tup [.int (i:Int),.int (j:Int)])=UL at pZ HS;have OO:=EI.same pZ;have GI:=pZ _ _ an;have Ug:=Paired.d_ bn λt' (e':Nat×Nat)(z:aX K tI t' [.int (e'.1:Int),.int (e'.2:Int)])=>pZ.tup z;refine⟨pn.2,_,_,rfl,rfl,GI,bA (by rw [az];omega),?_⟩;have UE:=OO.more (e:=(i,j)) wb GI Ug HS;have ne1:e≠pn.2:=λz=>by have:=pZ _ _ (oz _ _ nv);rw [z,GI] at this;cases this
     have ne2:d≠pn.2:=λz=>by have:=pZ _ _ (oz _ _ oG);rw [z,GI] at this;cases this
     refine⟨tH st pn.1 (i,j),_,_,rfl,λb o hb=>?_,by rw [ai ne1];exact pZ _ _ (oz _ _ nv),by rw [ai ne2];exact pZ _ _ (oz _ _ oG),UE,by rw [ai (Yl pn wb).symm];exact pZ _ _ (oz _ _ y_),λn=>?_,λn k j' Su=>?_⟩
     .rw [ai (λz=>by rw [z,Lw pn wb] at hb;cases hb)];exact pZ _ _ (IZ b o hb)
     .have:=l9 n;unfold tH
      split
      .rw [cC];simp;omega
      omega
     have hit:KU aa (hd aa) (λz=>decide (z∈aQ.map (·.1))) ru.1 i j:=⟨ru,z,qF,rfl,ez,hz,c2⟩;have H_:=c9 n k j' Su;unfold tH;by_cases cn:n=pn.1
     .rw [aw cn,cq,cm,H_];constructor
      .rintro(⟨h1,h3⟩ | h1)
       .exact⟨∅,h3⟩
       cases h1;exact⟨∅,by rw [cn,xj];exact hit⟩
      rintro⟨h1,h3⟩;by_cases cc:k=i/\j'=j
      .exact .inr (by rw [cc.1,cc.2])
      exact .inl ⟨∅,h3⟩
     rw [ay cn,H_];constructor
     .rintro⟨h1,h3⟩;exact⟨∅,h3⟩
     rintro⟨h1,h3⟩;refine⟨?_,h3⟩;by_cases cc:k=i/\j'=j
     .obtain⟨w5,z',a1,a2,_⟩:=h3;rw [cc.1,qF] at a1;cases a1;exact absurd (a2.symm.trans xj.symm) cn
     omega
    exact⟨st,_,_,rfl,IZ,oz _ _ nv,oz _ _ oG,EI,oz _ _ y_,Vw,gZ λ⟨_,h⟩=>c2 h⟩
   exact⟨st,_,_,rfl,n8,nv,oG,Ih,y_,Vw,gZ λ⟨h,_⟩=>c (mem.mpr h)⟩
  rintro σ H9 ⟨st,y5,y6,rfl,s9,HQ,TQ,S9,e9,l9,c9⟩;rw [az] at l9 c9;refine⟨st,_,_,_,_,_,rfl,s9,HQ,TQ,S9,λn=>?_,λn k j' hn=>?_⟩
  .have:=l9 n;omega
  rw [c9 n k j' hn];constructor
  .rintro⟨h1 | ⟨h1,h2⟩,h3⟩
   .exact⟨∅,h3⟩
   exact⟨∅,h3⟩
  rintro⟨h1,h3⟩;refine⟨?_,h3⟩;by_cases c:k < i
  .exact .inl c
  refine .inr ⟨∅,?_⟩;obtain⟨w5,z',a1,_,a3,_⟩:=h3;have:k=i:=by omega
  rw [this,qF] at a1;cases a1;exact(ba.mp a3).1
 rintro σ H6 ⟨st,y3,y4,y5,y6,y7,rfl,s6,Bq,TR,S6,l6,c6⟩;rw [az,ll] at c6;refine⟨_,rfl,q d ps st aQ H6 vm s6 TR S6 m4 Lw emp Bp λn k j hn=>?_⟩;rw [c6 n k j hn];constructor
 .exact λh=>h.2
 intro h;obtain⟨w5,_,a1,_⟩:=id h;exact⟨(ba.mp a1).1,h⟩
end
end eG
namespace L2
open PySem
def bV.r {H:Hp}{a:Addr}{kvs:List (aF×V)}{k:aF}(e:Rd H a (.dK kvs)):bV H a (kV k) (aV kvs k):=.inl ⟨kvs,k,e,rfl,rfl⟩
end L2
namespace eG
open PySem L2 M11
section
structure Ie (K:aT) (names:List Str)(rk:Str->Nat)(name:Str)(H H5:Hp)(D m:Addr)(g9:List Addr)(fK:List (Str×Addr)) (ms:List Str)(kvs:List (aF×V)):Prop where
 sm:aB H H5
 hD:H5 D=some (.lst (g9.map V.ref))
 hm:H5 m=some (.dK kvs)
 keys:kvs.map (·.1)=ms.map Sum.inr
 nd:ms.Nodup
 sub:∀x∈ms,x∈names
 wl:fK.length=ms.length+1
 wv:Paired (λt (e:Str×Addr)=>aX K H5 t [.str e.1,.ref e.2]) g9 fK
 we:∀e∈fK,e.1∈names/\rk e.1<=rk name/\∃xs,H5 e.2=some (.lst xs)/\xs.length<=fK.length/\e.2≠D
def Ie.same {names:List Str}{rk:Str->Nat}{name:Str}{H H5 H6:Hp}{D m:Addr}{g9:List Addr}{fK:List (Str×Addr)}{ms:List Str}{kvs:List (aF×V)}(h:Ie K names rk name H H5 D m g9 fK ms kvs)(s:aB H5 H6):Ie K names rk name H H6 D m g9 fK ms kvs :=
 ⟨h.sm.trans s,s _ _ h.hD,s _ _ h.hm,h.keys,h.nd,h.sub,h.wl,Paired.d_ h.wv λ_ _ z=>s.tup z,λe he=>let ⟨a,b,xs,c,d⟩:=h.we e he;⟨a,b,xs,s _ _ c,d⟩⟩
def Ie.len {names:List Str}{rk:Str->Nat}{name:Str}{H H5:Hp}{D m:Addr}{g9:List Addr}{fK:List (Str×Addr)}{ms:List Str}{kvs:List (aF×V)}(h:Ie K names rk name H H5 D m g9 fK ms kvs):g9.length=fK.length/\kvs.length=ms.length/\ms.length<=names.length:=by
 refine⟨bF h.wv,?_,dZ _ _ h.nd h.sub⟩;have:=congrArg List.length h.keys;simpa using this
def Ie.more {names:List Str}{rk:Str->Nat}{name z:Str}{H H5 H9:Hp}{D m t c:Addr}{g9:List Addr}{fK:List (Str×Addr)}{ms:List Str}{kvs:List (aF×V)}{xs:List V}(h:Ie K names rk name H H5 D m g9 fK ms kvs)(fD:H D=none)(fm:H m=none)
  (hz:z∈names)(hr:rk z<=rk name)(hn:z∉ms)(s:aB (upd H5 m (.dK (bc kvs (Sum.inr z) (.bl true)))) H9)(ht:aX K H9 t [.str z,.ref c])(hc:H9 c=some (.lst xs))(hx:xs.length<=fK.length+1)(nc:c≠D) :
  Ie K names rk name H (upd H9 D (.lst (g9.map V.ref++[.ref t]))) D m (g9++[t]) (fK++[(z,c)]) (ms++[z]) (bc kvs (Sum.inr z) (.bl true)):=by
 have Jn:D≠m:=λe=>by have:=h.hD;rw [e,h.hm] at this;cases this
 have xf:H9 D=some (.lst (g9.map V.ref)):=s _ _ (by rw [ai Jn];exact h.hD);have Sw:H9 m=some (.dK (bc kvs (Sum.inr z) (.bl true))):=s _ _ ae;refine⟨λb o hb=>?_,by rw [ae,br];rfl,by rw [ai Jn.symm];exact Sw,?_,?_,?_,?_,?_,?_⟩
 .rw [ai (λe=>by rw [e,fD] at hb;cases hb)];exact s _ _ (by rw [ai (λe=>by rw [e,fm] at hb;cases hb)];exact h.sm b o hb)
 .rw [gA (by rw [h.keys];exact λe=>hn (cw.mp e)),h.keys,br];rfl
 .refine iK.mpr ⟨h.nd,by simp,λa ha b hb e=>?_⟩;rw [cm.mp hb] at e;exact hn (e ▸ ha)
 .intro x Lg;rcases cq.mp Lg with e | e
  .exact h.sub x e
  rw [cm.mp e];exact hz
 .rw [cC,cC,h.wl];rfl
 .exact eW (Paired.d_ h.wv λ_ _ e=>aW xf (s.tup (dQ h.hm e))) (aW xf ht)
 intro e he;rw [cC];rcases cq.mp he with e' | e'
 .obtain⟨a,b,ys,c1,d1,n1⟩:=h.we e e';exact⟨a,b,ys,by rw [ai n1];exact s _ _ (by rw [ai (λq=>by rw [q,h.hm] at c1;cases c1)];exact c1),∅,n1⟩
 rw [cm.mp e'];exact⟨hz,hr,xs,by rw [ai nc];exact hc,hx,nc⟩
def kX:aJ ["rules","steps","name","ways","met","at","way","number","place","part"] ["rules","steps","name"] (au IP):=ju rfl rfl rfl rfl nofun
end
end eG
namespace L2
open PySem PySem.Spec PyProof.Rows
section
variable {prog:Program}{w:World}{A:Around}{E:Value->Shared->Prop}{s:Shared}
def ot (a b c:Value):argsOk "min" ⟨[a],[("key",b),("default",c)]⟩:=by unfold argsOk;kernel_rfl
def rB {l:Addr}{kf dv:Value}{Q:Value->Shared->Prop}(hh:A.handled=none)(hl:s.heap.IsList l #[])(h:∀h' tk,(∀b o,s.heap.get? b=some o->h'.get? b=some o)->Q dv { s with heap:=h',toks:=tk }) :
  wpAny (model prog w) A (call (.builtin "min") [.ref l] [("key",kf),("default",dv)]) Q E s:=by
 have jV:(toString "min" ++ toString ".loop":String) = "min.loop" := by decide
 refine gN (ph F.plain_min F.entry_min ?_);have core:wpAny (model prog w) A.in1 (Builtin.«min» ⟨[.ref l],[("key",kf),("default",dv)]⟩) (λfin s'=>match fin with
   | .done f=>(match (Except.ok f:Result) with | .ok (.ret v)=>Q v s' | .ok _=>False | .error e=>E e s')
   | .again c'=>c'.quiet=true/\codeAny (model prog w) A c' (λr s'=>match r with | .ok (.ret v)=>Q v s' | .ok _=>False | .error e=>E e s') s') E s:=by
  show wpAny _ A.in1 (Builtin.Builtins.bindParams "min" ["key","default"] 0 ⟨[],[("key",kf),("default",dv)]⟩ >>= _) _ _ s;refine ax (wpAny_of_eq (show Builtin.Builtins.bindParams "min" ["key","default"] 0 ⟨[],[("key",kf),("default",dv)]⟩=pure [some kf,some dv] from rfl) ?_);refine ax (aK ?_);refine ax (pb hl ?_);refine ax (o_ ?_);rw [jV];obtain⟨ol,h1,h2⟩:=id hl;generalize hG:s.heap.push { cls:=.type "list_iterator",data:=.fields #[.ref l,.int 0 0] }=G;have k1:∀b o,s.heap.get? b=some o->G.get? b=some o:=λb o e=>by rw [<-hG];exact bj _ e
  have hi:G.get? s.heap.objs.size=some { cls:=.type "list_iterator",data:=.fields #[.ref l,.int 0 0] }:=by rw [<-hG];exact cJ _ rfl
  refine aK ⟨jN kO _,nO F.entry_min_loop ?_⟩;rw [nR kO _];show wpAny _ A.in1 (seqItems? (.ref G.objs.size) >>= _) _ _ _;refine ax (jb (cJ _ rfl) rfl ?_);show wpAny _ A.in1 (tryCatch (pyNext (.ref s.heap.objs.size)) _ >>= _) _ _ _;refine ax (kK (tZ (show A.in1.handled=none from hh) ⟨_,bj _ hi,rfl,rfl⟩ ⟨ol,bj _ (k1 _ _ h1),h2⟩ (by simp) λh' eb=>?_));refine ax (wpAny_rule (aK ?_));exact h h' _ λb o e=>eb b o (a_ (aP e)) (bj _ (k1 b o e))
 simp only [checkBuiltinCall,F.kind_min];cases JF:Manifest.signature? "min" with
 | none=>exact aK core
 | some sig =>
  have SY:Bind.checkArgs "min" sig ⟨[.ref l],[("key",kf),("default",dv)]⟩=pure ():=by have:=ot (.ref l) kf dv;simpa only [argsOk,JF] using this
  simp only [SY];exact aK core
end
open PySem
end L2
namespace eG
open PySem L2 M11
section
def iJ (aa:List av)(rk:Str->Nat):Prop:=∀aQ,qX aa aQ->nI aa aa.length aQ->∀n k j,KU aa (hd aa) (λz=>decide (z∈aQ.map (·.1))) n k j->∀ru z,aa[k]?=some ru->ru.2[j]?=some z->rk z < rk n
def xH:aJ ["rules","steps","loops"] ["rules"] (au CB):=ju rfl rfl rfl rfl nofun
end
end eG
namespace L2
open PySem
def zo {K:aT}{T:Addr}{pos:Pos}{qu:Str}{H H':Hp}{a:Addr}{xs:List V}(s:eF T H H')(t:Tab T pos qu H)(h:aX K H a xs):aX K H' a xs:=by
 obtain⟨ps,b,_⟩:=t;rcases h with (h | ⟨u,h⟩) | h
 .exact .inl (.inl (s _ _ (λz=>by rw [z,b] at h;cases h) h))
 .exact .inl (.inr ⟨u,s _ _ (λz=>by rw [z,b] at h;cases h) h⟩)
 exact .inr h
def zO {K:aT}{T:Addr}{pos:Pos}{qu:Str}{H H':Hp}{a:Addr}{xs:List V}(s:eF T H H')(t:Tab T pos qu H)(h:aD K H a xs):aD K H' a xs:=by
 obtain⟨ps,b,_⟩:=t;rcases h with (h | ⟨u,h⟩) | h
 .exact .inl (.inl (s _ _ (λz=>by rw [z,b] at h;cases h) h))
 .exact .inl (.inr ⟨u,s _ _ (λz=>by rw [z,b] at h;cases h) h⟩)
 exact .inr h
def zq {T T':Addr}{pos pos':Pos}{qu EX:Str}{H H':Hp}(s:eF T H H')(t:Tab T pos qu H)(h:Tab T' pos' EX H)(n:T'≠T):Tab T' pos' EX H':=by
 obtain⟨ps,b,_⟩:=t;obtain⟨Q4,a,o,c⟩:=h;refine⟨Q4,s _ _ n a,o,c.imp id ?_⟩;rintro⟨c',e,g⟩;exact⟨c',e,s _ _ (λz=>by rw [z,b] at g;cases g) g⟩
def Et {K:aT}{H:Hp}{p D:Addr}{zs:List Str}{σ:St}{js:List (Nat×Str)}{cs:List (Option V)}{tif:TT}{te:TE}{Qp:Hp->Prop}(hσ:cZ ["name"] js σ=none::cs)(hp:aD K H p (zs.map V.str))(hD:H D=none)
  (ht:∀z∈zs,∀H2 Q,aB H H2->Q false H2->tif (some (.str z)::cs) H2 Q)(q:∀H2,aB H H2->H2 D=some (.lst [])->Qp H2) :
  ∃W:Nat->Nat->List V->St->Hp->Prop,(∃m,W 0 m [] (cZ ["name"] js σ) (upd H D (.lst []))) /\
 ∀i m ys σ' H,W i m ys σ' H->((iS K p).stop i H/\Qp H)\/((iS K p).go i H/\∃m',m' < m/\∀x H',(iS K p).kA i H x H'->cY 0 x σ' H' λσ2 H2=>tif σ2 H2 λb H3 =>
  if b=true then te σ2 H3 λy H4=>H4 D=some (.lst ys)/\ys.length < sizeLine/\W (i+1) m' (ys++[y]) σ2 (upd H4 D (.lst (ys++[y]))) else W (i+1) m' ys σ2 H3):=by
 refine bH (xs:=zs.map V.str) (λi ys σ2 H5=>ys=[]/\(∃y0,σ2=y0::cs)/\aB H H5/\H5 D=some (.lst [])) ⟨rfl,⟨none,hσ⟩,ag hD _,ae⟩ (λi ys σ2 H5 _ h=>h.2.2.1.seq hp) (λi x ys σ2 H5 ex h=>?_) (λys σ2 H5 h=>?_)
 .obtain⟨rfl,⟨y0,rfl⟩,s5,e5⟩:=h;rw [bh] at ex;obtain⟨z,ez,rfl⟩:=bR.mp ex;refine goN ?_;refine ht z (cR ez) H5 _ s5 ?_;refine gM ?_;exact⟨rfl,⟨_,rfl⟩,s5,e5⟩
 obtain⟨rfl,_,s5,e5⟩:=h;exact q H5 s5 e5
end L2
namespace eG
open PySem L2 M11
section
structure Good (aa:List av)(rk:Str->Nat)(b:Str->Int):Prop where
 least:∀g,bU M11.bl aa (jB aa) g->cQ M11.bl aa g->∀h∈hd aa,∃n,g h=some n/\n<=60
 met:∀cW ms,aa[0]?=some cW->cW.1∈ms->jx aa aa.length ms->∀h∈hd aa,h∈ms
 loop:iJ aa rk
 OC:qY aa b
 most:∀h∈hd aa,b h<=60
def jW (T1 T2:Addr)(H H':Hp):Prop:=∀b o,b≠T1->b≠T2->H b=some o->H' b=some o
def fY:aJ ["rules","strengths","least","endless","met","unmet","steps","greatest","vast"] ["rules","strengths"] (au uC):=ju rfl rfl rfl rfl nofun
end
end eG
namespace M11
open PySem L2
abbrev Be:=Str×Str×Nat×Nat
def vj (bX:List Be):List (Str×Str):=bX.map λb=>(b.1,b.2.1)
def lR (bX:List Be)(n:Str):List Str:=(bX.filter λb=>decide (b.1=n)).map (·.2.1)
def oy (names:List Str)(bX:List Be)(z:Str):List Str:=if z∈names then lR bX z else [z]
inductive vq (aa:List av) (names:List Str)(b:Str->Bool):List Be->Prop
 | nil:vq aa names b []
 | snoc {bX:List Be}{k j:Nat}{ru:av}{z w:Str}:vq aa names b bX->aa[k]?=some ru->ru.2[j]?=some z->j < Bn b ru.2->w∈oy names bX z->(ru.1,w)∉vj bX->vq aa names b (bX++[(ru.1,w,k,j)])
def yP {bX:List Be}{n w:Str}:w∈lR bX n↔(n,w)∈vj bX:=by
 unfold lR vj;rw [b_,b_];constructor
 .rintro⟨b,hb,rfl⟩;obtain⟨h1,h2⟩:=fS.mp hb;exact⟨b,h1,by rw [eh h2]⟩
 rintro⟨b,hb,e⟩;cases e;exact⟨b,fS.mpr ⟨hb,dO rfl⟩,rfl⟩
def Ad (bX:List Be)(b:Be)(n:Str):lR (bX++[b]) n=lR bX n++(if b.1=n then [b.2.1] else []):=by
 unfold lR;rw [kR,br];by_cases c:b.1=n
 .rw [aw c];simp [c]
 rw [ay c];simp [c]
end M11
namespace eG
open PySem L2 M11
def GB:Stmt->List Stmt
 | .ClassDef _ _ _ b _ _ _ _ _ _ _=>b
 | _=>[]
abbrev Hs (st:Stmt) (i:Nat):Stmt:=(GB st).getD i (.Pass ⟨0,0,0,0⟩)
abbrev xX:Stmt:=Hs xV 0
abbrev CD:Stmt:=Hs xV 1
abbrev xP:Stmt:=Hs xV 2
abbrev uG:Stmt:=Hs CC 0
section
structure BC (K:aT)(C:Addr):Prop where
 cls:BQ K C
 a1:cI K C "empties"
 a2:cI K C "empty"
 a3:cI K C "begins"
 a4:cI K C "firsts"
structure rH (K:aT)(C:Addr)(H0 H:Hp)(a e d bg:Addr)(kE:List (aF×V))(aQ:List (Str×Nat))(ps:List (Str×Addr))(bX:List Be):Prop where
 sm:aB H0 H
 ia:∃dx fs,H a=some (.ins C dx fs)/\fs.lookup ("empty":Str)=some (.ref e)/\fs.lookup ("begins":Str)=some (.ref bg)/\fs.lookup ("firsts":Str)=some (.ref d)/\fs.lookup ("find_begins":Str)=none/\fs.lookup ("words_of_part":Str)=none
 he:H e=some (.dK kE)
 hd:H d=some (.dK (ps.map ir))
 n1:(ps.map (·.1)).Nodup
 n2:(ps.map (·.2)).Nodup
 dk:∀p∈ps,(∃kvs,H p.2=some (.dK kvs)/\kvs.map (·.1)=(lR bX p.1).map Sum.inr)/\H0 p.2=none/\p.2≠e/\p.2≠d
 lb:∃ts,H bg=some (.lst (ts.map V.ref))/\Paired (λt (b:Be)=>aX K H t [.str b.1,.str b.2.1,.int (b.2.2.1:Int),.int (b.2.2.2:Int)]) ts bX
 fb:H0 bg=none
 em:∃e1 ts,(∃dx fs,H a=some (.ins C dx fs)/\fs.lookup ("empties":Str)=some (.ref e1))/\H e1=some (.lst (ts.map V.ref))/\nF K H ts aQ/\e1≠bg
def rH.same {C:Addr}{H0 H H':Hp}{a e d bg:Addr}{kE:List (aF×V)}{aQ:List (Str×Nat)}{ps:List (Str×Addr)}{bX:List Be}(h:rH K C H0 H a e d bg kE aQ ps bX)(s:aB H H'):rH K C H0 H' a e d bg kE aQ ps bX:=by
 refine⟨h.sm.trans s,?_,s _ _ h.he,s _ _ h.hd,h.n1,h.n2,λp hp=>?_,?_,h.fb,?_⟩
 .obtain⟨dx,fs,q,r⟩:=h.ia;exact⟨dx,fs,s _ _ q,r⟩
 .obtain⟨⟨kvs,q,r⟩,t⟩:=h.dk p hp;exact⟨⟨kvs,s _ _ q,r⟩,t⟩
 .obtain⟨ts,q,r⟩:=h.lb;exact⟨ts,s _ _ q,Paired.d_ r λ_ _ z=>s.tup z⟩
 obtain⟨e1,ts,⟨dx,fs,q1,q2⟩,q3,q4,q5⟩:=h.em;exact⟨e1,ts,⟨dx,fs,s _ _ q1,q2⟩,s _ _ q3,q4.keep λ_ _ z=>s.tup z,q5⟩
def zF (K:aT)(C:Addr):Sp:=λvs H Q _=>∃(H0:Hp)(a e d bg:Addr)(kE:List (aF×V))(aQ:List (Str×Nat))(ps:List (Str×Addr))(bX:List Be)(z:Str),vs=[.ref a,.str z]/\rH K C H0 H a e d bg kE aQ ps bX /\
 ∀(D:Addr)(H':Hp),H D=none->aB H H'->H' D=some (.lst ((oy (ps.map (·.1)) bX z).map V.str))->Q (.ref D) H'
def Fn:aJ ["self","part"] ["self","part"] (au xP):=ju rfl rfl rfl rfl nofun
def Dl {C:Addr}(F:iq K "words_of_part" "BeginTable.words_of_part" xP f fd)(T:Txt mg)(B:BC K C):bf P w K mg base fk 1 f fd ["self","part"] (zF K C):=by
 refine F.ok Fn (λvs H Q E h=>?_) (λdr A outer s H vs Q E hr h=>?_)
 .obtain⟨H0,a,e,d,bg,kE,aQ,ps,bX,z,rfl,_⟩:=h;rfl
 obtain⟨H0,a,e,d,bg,kE,aQ,ps,bX,z,rfl,S,q⟩:=h;have hu:=f_ hr;obtain⟨dx,fs,ea,f1,f2,f3,f4,f5⟩:=S.ia;refine⟨_,aq (bO (vO (eI (mX hu (pv 1) (dS (pv 0) rfl))) (aY (ku rfl) rfl T.lst eB (ah (dY hu (dS (pv 0) rfl) (pv 1) (λ_ _=>rfl)) ak)) (bQ (ah (pv 1) ak)))),?_⟩;dsimp only [Er];have mem:(aV (ps.map ir) (Sum.inr z)).isSome=true↔z∈ps.map (·.1):=by rw [dM,lJ];exact cw
 refine⟨_,rfl,_,rfl,a,C,dx,fs,_,rfl,ea,B.cls,B.a4,f3,d,_,rfl,bV.k (k:=Sum.inr z) S.hd,_,rfl,?_⟩;refine dW (λc=>?_) (λc=>?_)
 .have hz:=mem.mp c;obtain⟨p,hp,ep⟩:=b_.mp hz;obtain⟨⟨kvs,hk,kk⟩,_⟩:=S.dk p hp;have vn:=fu ps S.n1 p hp;rw [ep] at vn;have hg:bV H d (.str z) (some (.ref p.2)):=by
   have:=bV.k (k:=Sum.inr z) S.hd;rw [vn] at this;exact this
  refine⟨_,rfl,a,C,dx,fs,_,rfl,ea,B.cls,B.a4,f3,_,rfl,d,_,rfl,hg,p.2,kvs,rfl,hk,λD hD=>?_⟩;refine q D _ hD (ag hD _) ?_;rw [ae,keys_str kk,ep];unfold oy;rw [aw hz]
 refine⟨_,rfl,Ip,λD hD=>?_⟩;refine q D _ hD (ag hD _) ?_;rw [ae];unfold oy;rw [ay (λh=>c (mem.mpr h))];rfl
end
end eG
namespace L2
open PySem PySem.Spec PyProof.Rows
def Bs (o:Obj)(f:Array Value->Array Value):(o.mapFields f).dict=o.dict:=by
 obtain⟨c,d,dt,sl⟩:=o;cases dt <;> rfl
def qW (h:Heap)(e:Addr)(cls:Value)(dx:Option Addr)(T:Addr)(fl:Value):Prop :=
 ∃oe vs oT ts,h.get? e=some oe/\oe.cls=cls/\oe.dict=dx/\oe.data=.fields vs/\vs[1]?=some (.ref T)/\T≠e/\h.get? T=some oT/\oT.data=.fields ts/\ts[3]?=some fl
structure Moved (fs as:List Addr)(h h':Heap):Prop where
 keep:∀b o,b∉as->b∉fs->h.get? b=some o->h'.get? b=some o
 slot:∀b o,b∉as->h.get? b=some o->∃sl,h'.get? b=some { o with slots:=sl }
def Moved.refl {fs as:List Addr}{h:Heap}:Moved fs as h h:=⟨λ_ _ _ _ e=>e,λ_ o _ e=>⟨o.slots,e⟩⟩
def Moved.trans {fs as:List Addr}{h h1 h2:Heap}(a:Moved fs as h h1)(b:Moved fs as h1 h2):Moved fs as h h2 :=
 ⟨λc o n f e=>b.keep c o n f (a.keep c o n f e),λc o n e=>by
  obtain⟨s1,e1⟩:=a.slot c o n e;obtain⟨s2,e2⟩:=b.slot c _ n e1;exact⟨s2,e2⟩⟩
def Moved.mono {fs as WO:List Addr}{h h1:Heap}(a:Moved fs as h h1)(s:∀b∈as,b∈WO):Moved fs WO h h1 :=
 ⟨λc o n f e=>a.keep c o (λz=>n (s c z)) f e,λc o n e=>a.slot c o (λz=>n (s c z)) e⟩
section
variable {M:Model}{A:Around}{E:Value->Shared->Prop}{s:Shared}{base:Heap}{env:Env}{outer:List Env}{L e:Addr}
def kr {cls fl:Value}{dx:Option Addr}{T:Addr}{fs:List Addr}{Q:Unit->Shared->Prop}(F:qW s.heap e cls dx T fl)
  (hq:∀h',Moved fs [T] s.heap h'->qW h' e cls dx T .none->Q () { s with heap:=h' }):wpAny M A (setFlight (.ref e) none) Q E s:=by
 obtain⟨oe,vs,oT,ts,he,hc,hx,hd,h1,ne,hT,JV,h3⟩:=F;have sz:3 < ts.size:=(uj.mp h3).1;unfold setFlight;refine ax (gF he hd h1 ?_);rw [aw (by simp)];refine mi hT JV sz (hq _ ⟨λb o n _ q=>?_,λb o n q=>⟨o.slots,?_⟩⟩ ⟨oe,vs,_,_,?_,hc,hx,hd,h1,ne,kS _ hT (Obj.isFreed_of_fields (pG JV _)),pG JV _,?_⟩)
 .rw [fV _ _ (λz:T=b=>n (by simp [z]))];exact q
 .rw [fV _ _ (λz:T=b=>n (by simp [z]))];exact q
 .rw [fV _ _ ne];exact he
 simp [sz]
def vR {oe:Obj}{vs:Array Value}{oC:Value}{hn:Bool}{Q:Unit->Shared->Prop}(Ge:A.frames=some (env::outer))(hl:s.heap.FunFrames base (env::outer))(hf:env.frame=some L)
  (he:s.heap.get? e=some oe)(hd:oe.data=.fields vs)(sz:1 < vs.size)
  (hq:∀h' T,Moved (oF (env::outer)) [e] s.heap h'->s.heap.objs.size<=T->qW h' e oe.cls oe.dict T (rawInt L)->Q () { s with heap:=h' }) :
  wpAny M A (do
   let a <-frameOf env
   let pl <-entryPlaceOf L hn
   let b <-EntryCells.newEntry oC a .none (rawInt L) .none pl
   setField (.ref e) 1 b) Q E s:=by
 have efr:e∉oF (env::outer):=λz=>by
  obtain⟨_,o,ho,nf⟩:=hl.mem z;rw [he] at ho;cases ho;exact nf vs hd
 refine ax (wpAny_frameOf_fun Ge hl hf λh1 x1=>ax (wpAny_entryPlaceOf λpl ni=>?_));unfold EntryCells.newEntry newFields;refine ax (o_ ?_ (ni.sizeOk5 _ _ _ _ _));have e1:h1.get? e=some oe:=(x1.2.1 e efr).trans he;have ne:h1.objs.size≠e:=iY (aP e1);have Px:h1.objs.size=s.heap.objs.size:=x1.1;have dF:=pG hd (·.setIfInBounds 1 (Value.ref h1.objs.size));have old:∀(o₂:Obj)(b:Addr)(o:Obj),b≠e->h1.get? b=some o->((h1.push o₂).update e (Obj.mapFields (·.setIfInBounds 1 (Value.ref h1.objs.size)))).get? b=some o:=λo₂ b o nb q=>by
  rw [fV _ _ (du nb)];exact bj _ q
 have tb:∀o₂:Obj,o₂.isFreed=false->((h1.push o₂).update e (Obj.mapFields (·.setIfInBounds 1 (Value.ref h1.objs.size)))).get? h1.objs.size=some o₂:=λo₂ nf=>by
  rw [fV _ _ (du ne)];exact cJ h1 nf
 refine mi (bj _ e1) hd sz (hq _ h1.objs.size ⟨λb o n f q=>?_,λb o n q=>?_⟩ ?_ ⟨_,_,_,_,kS _ (bj _ e1) (Obj.isFreed_of_fields dF),Obj.cls_mapFields _ _,Bs _ _,dF,by simp [sz],ne,tb _ rfl,rfl,?_⟩)
 .exact old _ b o (λz=>n (by simp [z])) ((x1.2.1 b f).trans q)
 .obtain⟨sl,q1⟩:=x1.2.2 b o q;exact⟨sl,old _ b _ (λz=>n (by simp [z])) q1⟩
 .exact Nat.le_of_eq Px.symm
 first
  | (simp;done)
  | (rcases ni with rfl | ⟨_,_,_,_,_,_,_,rfl⟩ <;> simp)
def yu {oe:Obj}{vs:Array Value}{Q:Unit->Shared->Prop}(Ge:A.frames=some (env::outer))(hl:s.heap.FunFrames base (env::outer))(hf:env.frame=some L)
  (he:s.heap.get? e=some oe)(hd:oe.data=.fields vs)(h1:vs[1]?=some .none)
  (hq:∀h' T,Moved (oF (env::outer)) [e] s.heap h'->s.heap.objs.size<=T->qW h' e oe.cls oe.dict T (rawInt L)->Q () { s with heap:=h' }):wpAny M A (noteFrame (.ref e) env) Q E s:=by
 unfold noteFrame;simp only [hf];refine ax (gF he hd h1 ?_);rw [ay nofun];exact vR Ge hl hf he hd (uj.mp h1).1 hq
def sr {cls:Value}{dx:Option Addr}{T0:Addr}{Q:Unit->Shared->Prop}(Ge:A.frames=some (env::outer))(hl:s.heap.FunFrames base (env::outer))(hf:env.frame=some L)
  (F:qW s.heap e cls dx T0 .none)
  (hq:∀h' T,Moved (oF (env::outer)) [e,T0] s.heap h'->s.heap.objs.size<=T->qW h' e cls dx T (rawInt L)->Q () { s with heap:=h' }):wpAny M A (noteFrame (.ref e) env) Q E s:=by
 obtain⟨oe,vs,oT,ts,he,hc,hx,hd,h1,ne,hT,JV,h3⟩:=F;subst hc hx;unfold noteFrame;simp only [hf];refine ax (gF he hd h1 ?_);rw [aw (by simp)];refine ax (gF hT JV h3 ?_);rw [ay (by simp [rawInt])];refine ax (mi hT JV (uj.mp h3).1 ?_);have Pn:∀b,b≠T0->(s.heap.update T0 (Obj.mapFields (·.setIfInBounds 3 Value.none))).get? b=s.heap.get? b:=λb n=>fV _ _ (du n);have nT:∀b o,s.heap.get? b=some o->(∀vs,o.data≠.fields vs)->b≠T0:=λb o q nf z=>by
  rw [z,hT] at q;cases q;exact nf ts JV
 refine vR Ge (hl.of_keeps λb o q nf=>⟨o,(Pn b (nT b o q nf)).trans q,rfl⟩) hf ((Pn e (du ne)).trans he) hd (uj.mp h1).1 λh' T m nw fd=>?_;refine hq h' T ⟨λb o n f q=>m.keep b o (λz=>n (by simp at z;simp [z])) f ((Pn b λz=>n (by simp [z])).trans q),λb o n q=>m.slot b o (λz=>n (by simp at z;simp [z])) ((Pn b λz=>n (by simp [z])).trans q)⟩ ?_ fd;rw [Heap.size_after_update] at nw;exact nw
end
def rq (ea:Addr)(cls:Value)(dx:Option Addr):HO:=.ext λh=>∃oe vs,h.get? ea=some oe/\oe.cls=cls/\oe.dict=dx/\oe.data=.fields vs
def Ah {P:Program}{w:World}{H:Hp}{h:Heap}{ea:Addr}{cls:Value}{dx:Option Addr}{oe:Obj}{vs:Array Value}(e:h.get? ea=some oe)(c:oe.cls=cls)(d:oe.dict=dx)(f:oe.data=.fields vs) :
  bE P w H h ea (rq ea cls dx) :=
 ⟨⟨oe,vs,e,c,d,f⟩,⟨oe,e⟩,λ_ _ ⟨o,ws,q,r⟩ k=>⟨o,ws,k o q,r⟩⟩
def qW.ok {P:Program}{w:World}{H:Hp}{h:Heap}{ea T:Addr}{cls fl:Value}{dx:Option Addr}(F:qW h ea cls dx T fl):bE P w H h ea (rq ea cls dx):=by
 obtain⟨oe,vs,_,_,he,hc,hx,hd,_⟩:=F;exact Ah he hc hx hd
def Ii (h0:Heap)(H:Hp)(h:Heap)(ea:Addr)(cls:Value)(dx:Option Addr):Prop :=
 ∃T,qW h ea cls dx T .none/\H T=none/\H ea=some (rq ea cls dx)/\h0.objs.size<=T/\h0.objs.size<=ea
def jX (P:Program)(w:World):tJ:=λouter H s E e s' =>
 ∃ea cls dx H',e=.ref ea/\s'.os=s.os/\AllBare s'.gens/\Un (oF outer) [] H H' s.heap s'.heap/\jM P w H' s'.heap/\Ii s.heap H' s'.heap ea cls dx/\E cls dx H'
section
variable {X:Cx}{af:List (Addr×Obj)}{σ:St}{H:Hp}{s:Shared}{M:Model}{A:Around}{E':Value->Shared->Prop}{E:XK}{ea:Addr}{cls:Value}{dx:Option Addr}
def sE {as:List Addr}(J:Inv X af σ H s)(iU:X.stack=X.env::X.outer)(hex:X.ex=[])
  (hn:∀Q:Unit->Shared->Prop,(∀h' T,Moved (oF X.stack) as s.heap h'->s.heap.objs.size<=T->qW h' ea cls dx T (rawInt X.env.locals)->Q () { s with heap:=h' })->wpAny M A (noteFrame (.ref ea) X.env) Q E' s)
  (has:∀b∈as,(H b=none\/b=ea)/\X.s₀.heap.objs.size<=b)(wj:H ea=some (rq ea cls dx)/\X.s₀.heap.objs.size<=ea)(hE:E cls dx H) :
  wpAny M A (leaving X.env (.ref ea)) (λ_ CI=>jX X.prog X.w X.outer X.H₀ X.s₀ E (.ref ea) CI) E' s:=by
 unfold leaving;refine ax (hn _ λh1 T m1 lT F1=>kr (fs:=oF X.stack) F1 λh2 m2 F2=>?_);have nT:s.heap.get? T=none:=tT lT;have Wa:H T=none:=J.bo.fresh lT;have mm:Moved (oF X.stack) (T::as) s.heap h2:=(m1.mono λb hb=>bJ _ hb).trans (m2.mono λb hb=>by simp at hb;simp [hb]);have U9:X.s₀.heap.objs.size<=T:=cz J.sz lT;have old:∀b o,X.s₀.heap.get? b=some o->b∉T::as:=λb o q z=>by
  rcases bC.mp z with z | z
  .rw [z,tT U9] at q;cases q
  rw [tT (has b z).2] at q;cases q
 have base:Un X.fs [] X.H₀ H X.s₀.heap s.heap:=by have u:=J.base;rw [hex] at u;exact u
 refine⟨ea,cls,dx,H,rfl,J.os,J.bare,⟨?_,?_,base.free,?_,base.j6,base.jq,base.jG⟩,?_,⟨T,F2,Wa,wj.1,U9,wj.2⟩,hE⟩
 .intro b o q n f x;refine mm.keep b o (old b o q) (λz=>?_) (base.keep b o q n f x);rcases bC.mp (J.uu b z) with z | z
  .exact absurd (dA (aP q) (z ▸ J.ok.above)) (hJ _)
  exact f z
 .intro b o q n f x;obtain⟨sl,q1⟩:=base.slot b o q n f x;obtain⟨s2,q2⟩:=mm.slot b _ (old b o q) q1;exact⟨s2,q2⟩
 .intro b o q x;obtain⟨o',q1⟩:=base.there b o q x;obtain⟨s2,q2⟩:=mm.slot b _ (old b o q) q1;exact⟨_,q2⟩
 intro a o q;by_cases ha:a=ea
 .subst ha;rw [wj.1] at q;cases q;exact F2.ok
 have tr:∀b,H b≠none->b≠ea->b∉T::as/\b∉oF X.stack:=λb n ne=>⟨λz=>by
  rcases bC.mp z with z | z
  .exact n (z ▸ Wa)
  rcases (has b z).1 with y | y
  .exact n y
  exact ne y,λz=>n (J.oP b z)⟩
 refine(J.bo a o q).gZ (λb u hb e=>?_) (λ_ z=>z) λ_ _ z=>z;have uZ:H b≠none/\b≠ea:=by
  rcases hb with rfl | hb
  .exact⟨by rw [q];exact tY _,ha⟩
  refine⟨by rw [hb];exact tY _,λz=>?_⟩;rw [z,wj.1] at hb;cases hb
 exact mm.keep b u (tr b uZ.1 uZ.2).1 (tr b uZ.1 uZ.2).2 e
def A6 (J:Inv X af σ H s)(Ge:A.frames=some (X.env::X.outer))(iU:X.stack=X.env::X.outer)(hf:X.env.frame=some X.env.locals)(hex:X.ex=[])(F:Ii X.s₀.heap H s.heap ea cls dx)(hE:E cls dx H) :
  wpAny M A (leaving X.env (.ref ea)) (λ_ CI=>jX X.prog X.w X.outer X.H₀ X.s₀ E (.ref ea) CI) E' s:=by
 obtain⟨T,fd,t1,t2,t3,t4⟩:=F;refine sE (as:=[ea,T]) J iU hex (λQ k=>?_) (λb hb=>?_) ⟨t2,t4⟩ hE
 .have hl:=J.stack;rw [iU] at hl k;exact sr Ge hl hf fd k
 rcases bC.mp hb with rfl | hb
 .exact⟨.inr rfl,t4⟩
 obtain rfl:b=T:=by simpa using hb
 exact⟨.inl t1,t3⟩
def uT {oe:Obj}{vs:Array Value}(J:Inv X af σ H s)(Ge:A.frames=some (X.env::X.outer))(iU:X.stack=X.env::X.outer)(hf:X.env.frame=some X.env.locals)(hex:X.ex=[])
  (he:s.heap.get? ea=some oe)(hd:oe.data=.fields vs)(h1:vs[1]?=some .none)(wj:H ea=some (rq ea oe.cls oe.dict)/\X.s₀.heap.objs.size<=ea)(hE:E oe.cls oe.dict H) :
  wpAny M A (leaving X.env (.ref ea)) (λ_ CI=>jX X.prog X.w X.outer X.H₀ X.s₀ E (.ref ea) CI) E' s:=by
 refine sE (as:=[ea]) J iU hex (λQ k=>?_) (λb hb=>?_) wj hE
 .have hl:=J.stack;rw [iU] at hl k;exact yu Ge hl hf he hd h1 k
 obtain rfl:b=ea:=by simpa using hb
 exact⟨.inr rfl,wj.2⟩
end
section
variable {P:Program}{w:World}{K:aT}{mg:Str->Option Value}{base:Heap}{N:List Str}{qual:Str}{scope:Scope}{f:Addr}{cd:Value}{A:Around}{outer:List Env}{s:Shared}{H:Hp}{E E':XK}
def MJ (hE:∀c d H',E' c d H'->E c d H'):Passes (jX P w) (d6 (jX P w) P w K mg base N qual scope f cd A outer s H E) E':=by
 rintro af σ H1 s1 e s' I ⟨ea,cls,dx,H',rfl,os,bare,un,bo,⟨T,fd,t1,t2,t3,t4⟩,q⟩;have J:=I.An (ch:=[]) os un bo bare (λb z=>absurd z (by simp));have up:s.heap.objs.size<=s1.heap.objs.size:=I.sz;refine bY (A6 (E:=E) J I.ok.frames rfl rfl rfl ⟨T,fd,t1,t2,cz up t3,cz up t4⟩ (hE _ _ _ q)) (λ_ _ z=>z) λ_ _ z=>z
end
open PySem PySem.Spec PyProof.Rows PySem.W PySem.Builtin PySem.Builtin.ObjectAttr
section
variable {prog:Program}{w:World}{A:Around}{E:Value->Shared->Prop}{K:Frag}{C x:Addr}{s:Shared}{cd:ClassData}
structure XC (K:Frag)(C:Addr)(cd:ClassData):Prop where
 cls:clsIn K C=some cd
 sa:findIn K (.ref C) "__setattr__"=some (some (.builtin "object.__setattr__"))
 pass:∀self:Value,refuseLoop self "__setattr__" cd.mro=pure ()
 obj:cd.mro.contains (.type "object")=true
 dict:cd.hasDict=true
def Qu {name:Str}{v:Value}{vs:Array Value}{sl:Array (Option Value)}{Q:Unit->Shared->Prop}(X:K.In s.heap)(c:XC K C cd)(ht:takerIn K C name=some none)
  (hx:s.heap.get? x=some ⟨.ref C,none,.fields vs,sl⟩)
  (h:∀h',(∀b o,b≠x->s.heap.get? b=some o->h'.get? b=some o)->h'.get? x=some ⟨.ref C,some s.heap.objs.size,.fields vs,sl⟩->h'.Ns1 s.heap.objs.size (λy=>if y=name then some v else none) ->
   Q () { s with heap:=h',toks:=s.toks+2 }):wpAny (model prog w) A (setAttr (.ref x) name v) Q E s:=by
 have I:InstAt s.heap x ⟨.ref C,none,.fields vs,sl⟩ C none:=⟨hx,rfl,rfl,trivial⟩;have SF:=PySem.F.store_object;have ne:cd.mro.isEmpty=false:=by
  cases q:cd.mro with
  | nil=>have:=c.obj;rw [q] at this;cases this
  | cons _ _=>rfl
 have sub:Looks (model prog w) s.heap (isInstance (.ref x) (.type "object")) true:=I.type.andThen (looks_mroIn X (by unfold mroIn;rw [c.cls,Option.bind_some,ay (by rw [ne];decide),c.obj]));refine set_plain X I c.sa ?_;refine ph SF.slot.plain SF.entry (@check_slot (model prog w) _ _ { s with toks:=s.toks+1 } _ "object" "__setattr__" (.ref x) [.str name s.toks,v] [] _ SF.kind SF.split sub (SF.args (.ref x) _ v) ?_);obtain⟨attr,ha,hr⟩:=Option.bind_eq_some_iff.mp ht;have mro:Looks (model prog w) s.heap (mroOf (.ref C)) cd.mro:=(looks_clsIn X c.cls).andThen .now;have tk:Looks (model prog w) s.heap (storeTaker? attr) none:=by
  cases attr with
  | none=>exact .now
  | some a =>
   obtain⟨b,hb,z⟩:=bR.mp hr;refine(looks_takesIn X hb).andThen ?_;cases b with
   | true=>cases z
   | false=>exact .now
 rw [osa_eq,refuse_eq];refine ax (ax (Looks.here (s:={ s with toks:=s.toks+1 }) I.type (ax (Looks.here (s:={ s with toks:=s.toks+1 }) mro ?_))));rw [c.pass];refine aK (ax (Looks.here (s:={ s with toks:=s.toks+1 }) I.type (ax (Looks.here (s:={ s with toks:=s.toks+1 }) (looks_findIn X ha) (ax (Looks.here (s:={ s with toks:=s.toks+1 }) tk ?_))))));have e1:=bj (h:=s.heap) { cls:=.type "dict",data:=.dict #[] } hx;have nx:x≠s.heap.objs.size:=a_ (aP hx);have e2:=kS (λo:Obj=>{ o with dict:=some s.heap.objs.size }) e1 rfl;have e3:((s.heap.push { cls:=.type "dict",data:=.dict #[] }).update x (λo:Obj=>{ o with dict:=some s.heap.objs.size })).get? s.heap.objs.size=some { cls:=.type "dict",data:=.dict #[] }:=by
  rw [fV _ _ nx];exact cJ _ rfl
 have n0:((s.heap.push { cls:=.type "dict",data:=.dict #[] }).update x (λo:Obj=>{ o with dict:=some s.heap.objs.size })).Ns s.heap.objs.size (λ_=>none):=⟨_,#[],_,e3,rfl,λe he=>absurd he (by simp),λ_=>rfl⟩;dsimp only;unfold storeInOwnDict;refine ax (aK (ax ?_));unfold ownDictForStores instanceDict;refine ax (wpAny_loadPart hx (ax (Looks.here (s:={ s with toks:=s.toks+1 }) (looks_clsIn X c.cls) ?_)));rw [c.dict];refine ax (wpAny_alloc (ax (wpAny_update e1 (aK ?_))));show wpAny _ _ (storeInDict s.heap.objs.size (.str name s.toks) name v) _ _ _;unfold storeInDict newKeyGuard;refine ax (aK (ax (wpAny_nsSet1 (Heap.Ns1.of_empty n0) λh' n1 sb=>?_)));obtain⟨oD,es,ep,Ss,SQ,SV⟩:=n1.count (Within.cons name v Within.nil);refine ax (wpAny_lookBehind Ss (by rw [SQ];exact pastItsLine_dict (cz SV (by rw [gG];show (1:Nat)<=_;decide))) ?_);refine aK (h h' (λb o nb q=>?_) ((sb.2 x nx).trans e2) n1);refine(sb.2 b (a_ (aP q))).trans ?_;rw [fV _ _ (du nb)];exact bj _ q
end
open PySem PySem.Spec PyProof.Rows PySem.W
abbrev newObj (C:Addr)(dx:Option Addr)(a0:Value):Obj:={ cls:=.ref C,dict:=dx,data:=.fields #[a0,.none,.none,.none,.bool false,.none] }
abbrev iI (rest:List Value):Obj:={ cls:=.type "tuple",data:=.seq rest.toArray }
section
variable {prog:Program}{w:World}{A:Around}{E:Value->Shared->Prop}{h:Heap}{g:Array GenState}{d:Drawn}{t:Nat}{os:OsState}
variable {nm qn:Str}{C N:Addr}{bs bm o8:List Value}{oB:Bool}{sn:List Str}{sub:List Value}{ab:Bool}{col:Option Bool}{dd:Option Addr}{k0 k1 k2 k3 k5:Option Value}{B newId gp:String}
 {mN:Str->Option Value}{rest:List Value}{fI:Addr}{oI:Obj}
def FV (F:ExcBaseFacts B newId gp o8)(T:OwnTail h o8 bm){Q:Fin->Shared->Prop}(hC:h.get? C=some (excClassObj nm qn C N bs bm oB sn sub ab col dd k0 k1 k2 k3 k5 newId))(hn:h.Ns N mN)
  (hi:mN "__init__"=some (.ref fI))(hf:h.get? fI=some oI)(Gf:oI.cls=.type "function")(hz:rest.length<=sizeLine)
  (hq:wpAny (model prog w) A (call (.ref fI) (.ref (h.objs.size+1)::rest)) (λr s'=>r=.none/\Q (.done (.ret (.ref (h.objs.size+1)))) s') E ⟨(h.push (iI rest)).push (newObj C none (.ref h.objs.size)),g,d,t,os⟩) :
  wpAny (model prog w) A (Builtin.«type.__call__» ⟨.ref C::rest,[]⟩) Q E ⟨h,g,d,t,os⟩:=by
 repeat (first
  | with_reducible refine pD hC ?_
  | with_reducible refine wpAny_madeBy_exc hC ?_
  | wp_step)
 refine codeAny_call_builtin_code (Code.quiet_builtin _ F.quiet) (wpAny_check_new_subT F T hC (codeAny_exc_new_subT F T hC ?_ hz));show wpAny _ _ _ _ _ _;have up:∀b o,h.get? b=some o->((h.push (iI rest)).push (newObj C none (.ref h.objs.size))).get? b=some o:=λb o e=>bj _ (bj _ e);have c1:=up _ _ hC;have f1:=up _ _ hf;have n1:=hn.keeps up;have g1:((h.push (iI rest)).push (newObj C none (.ref h.objs.size))).get? (h.objs.size+1)=some (newObj C none (.ref h.objs.size)):=by heap_get
 have me:(Value.ref C::bm).contains (.ref C)=true:=by simp
 unfold isInstance
 repeat (first
  | with_reducible refine pD g1 ?_
  | (with_reducible refine wpAny_isSubtype_exc c1 ?_;rw [me])
  | wp_step)
 show wpAny _ _ (typeLookup (.ref C) _) _ _ _;refine wpAny_typeLookup_tail c1 n1 (T.keeps up) F.mroIs F.init.lookup ?_;rw [hi];refine fR (ax ?_);unfold bindSpecial;refine ax (jZ (T := "function") ⟨_,f1,Gf⟩ ?_);rw [aw nofun];refine aK (ax (bY hq (λr s' z=>?_) λ_ _ z=>z));obtain⟨rfl,z⟩:=z
 wp_walk
 exact z
def Jo (F:ExcBaseFacts B newId gp o8)(T:OwnTail h o8 bm){Q:Value->Shared->Prop}(hC:h.get? C=some (excClassObj nm qn C N bs bm oB sn sub ab col dd k0 k1 k2 k3 k5 newId))(hn:h.Ns N mN)
  (hi:mN "__init__"=some (.ref fI))(hf:h.get? fI=some oI)(Gf:oI.cls=.type "function")(hz:rest.length<=sizeLine)
  (hq:wpAny (model prog w) (A.under (.builtin "type.__call__" ⟨.ref C::rest,[]⟩)) (call (.ref fI) (.ref (h.objs.size+1)::rest)) (λr s'=>r=.none/\Q (.ref (h.objs.size+1)) s') E
   ⟨(h.push (iI rest)).push (newObj C none (.ref h.objs.size)),g,d,t,os⟩) :
  wpAny (model prog w) A (call (.ref C) rest) Q E ⟨h,g,d,t,os⟩:=by
 have a1:=tc_lookup;have a2:=tc_bind (.ref C);have a3:(⟨h,g,d,t,os⟩:Shared).TypeIs (.ref C) "type" := ⟨_,hC,rfl⟩;refine gN (codeAny_of_tree ?_);show wpAny _ _ (callAny (.ref C) _) _ _ _
 repeat (any_goals (first
  | assumption
  | with_reducible refine pD hC ?_
  | wp_step))
 exact⟨rfl,codeAny_call_builtin_at (Code.quiet_builtin _ nofun) entry_typeCall (wpAny_check_type_call_sub hC (FV F T hC hn hi hf Gf hz hq))⟩
end
def Fg (K:Frag)(C fI:Addr)(o8:List Value)(newId:String):Bool:=match K.lookup C with
 | some ⟨.type "type",_,.cls c,sl⟩=>(match c.mro,sl.toList with
  | .ref D::bm,[_,_,_,_,some (.builtin n),_]=>D == C && n == newId && !c.hasDel && tailIn K o8 bm && nsOkIn K c.ns && (nsIn K c.ns "__init__" == some (some (.ref fI)))
  | _,_=>false)
 | _=>false
def yt {K:Frag}{h:Heap}{N:Addr}{m:Str->Option Value}{n:Str}{v:Value}(X:K.In h)(G:h.Ns N m)(e:nsIn K N n=some (some v)):m n=some v:=by
 obtain⟨o,es,ep,ho,hd,_,hf⟩:=G;unfold nsIn at e
 split at e
 .rename_i c d qE n' sl q
  have:=X _ _ q;rw [ho] at this;cases this;cases hd
  split at e
  .rename_i en he
   cases e;rw [<-hf];unfold nsFind findBy;rw [<-Array.find?_toList,he];rfl
  split at e <;> cases e
 cases e
def Iu {K:Frag}{h:Heap}{C fI:Addr}{o8:List Value}{newId:String}(X:K.In h)(q:Fg K C fI o8 newId=true) :
  ∃nm qn N bs bm oB sn sub ab col dd k0 k1 k2 k3 k5 mN,h.get? C=some (excClassObj nm qn C N bs bm oB sn sub ab col dd k0 k1 k2 k3 k5 newId)/\h.Ns N mN/\mN "__init__"=some (.ref fI)/\OwnTail h o8 bm:=by
 unfold Fg at q
 split at q
 .rename_i dd c sl ho
  split at q
  .rename_i D bm k0 k1 k2 k3 n k5 hm hs
   simp only [jQ,beq_iff_eq,tO] at q;obtain⟨⟨⟨⟨⟨rfl,rfl⟩,NS⟩,ht⟩,bo⟩,Gb⟩:=q;obtain⟨nm,bs,mro,ns,qn,hd,sn,sub,ab,col,del⟩:=c;dsimp only at hm NS bo Gb;subst hm NS;have Lj:sl=#[k0,k1,k2,k3,some (.builtin n),k5]:=by
    obtain⟨l⟩:=sl;simp only at hs;rw [hs]
   subst Lj;have hN:h.Ns ns (h.nsMap ns):=.of_isNs (isNs_of_in X bo);exact⟨nm,qn,ns,bs,bm,hd,sn,sub,ab,col,dd,k0,k1,k2,k3,k5,_,X _ _ ho,hN,yt X hN Gb,tail_of_in X ht⟩
  cases q
 cases q
def newX (ea C:Addr)(dx:Option Addr):HO:=.ext λh=>∃a0:Addr,h.get? ea=some (newObj C dx (.ref a0))
def uO {P:Program}{w:World}{H:Hp}{h:Heap}{ea C:Addr}{dx:Option Addr}{a0:Addr}(e:h.get? ea=some (newObj C dx (.ref a0))):bE P w H h ea (newX ea C dx) :=
 ⟨⟨a0,e⟩,⟨_,e⟩,λ_ _ ⟨a,q⟩ k=>⟨a,k _ q⟩⟩
section
variable {X:Cx}{af:List (Addr×Obj)}{σ:St}{H:Hp}{s:Shared}{h':Heap}{ea C:Addr}{dx:Option Addr}
theorem Inv.newX (I:Inv X af σ H s)(e:H ea=some (newX ea C dx)):∃a0:Addr,s.heap.get? ea=some (newObj C dx (.ref a0)):=(I.bo ea _ e).1
def Inv.Ko {o:HO}{φ:Heap->Prop}{n:Option HO}{t':Nat}(I:Inv X af σ H s)(e:H ea=some (.ext φ))(k:∀b u,b≠ea->s.heap.get? b=some u->h'.get? b=some u)(hz:∃u,h'.get? ea=some u)
  (JK:ea≠s.heap.objs.size)
  (Ra:∀H',bE X.prog X.w H' h' ea o)(Q_:∀m,n=some m->∀H',bE X.prog X.w H' h' s.heap.objs.size m) :
  Inv X af σ (upd (match n with | some m=>upd H s.heap.objs.size m | none=>H) ea o) { s with heap:=h',toks:=t' }:=by
 have fr:H s.heap.objs.size=none:=I.bo.fresh (aH _);have other:∀b,b≠ea->b≠s.heap.objs.size->upd (match n with | some m=>upd H s.heap.objs.size m | none=>H) ea o b=H b:=λb n1 n2=>by
  rw [ai n1];cases n with
  | none=>rfl
  | some m=>exact ai n2
 have K9:∀b u,H b=some u->(∀ψ,u≠.ext ψ)->b≠ea:=λb u q d z=>by
  rw [z,e] at q;cases q;exact d _ rfl
 have MN:∀b u,H b=some u->b≠s.heap.objs.size:=λb u q z=>by
  rw [z,fr] at q;cases q
 refine I.un ⟨λb u q n1 _ _=>?_,λb u q n1 _ _=>⟨u.slots,?_⟩,λb u q n1 _=>?_,λb u q _=>?_,λb xs q=>?_,λb u v q=>?_,λb ps q=>⟨#[],?_⟩⟩ λa u q=>?_
 .exact k b u (λz=>by rw [z,e] at n1;cases n1) q
 .exact k b u (λz=>by rw [z,e] at n1;cases n1) q
 .rw [other b (λz=>by rw [z,e] at n1;cases n1) (a_ (aP q))];exact n1
 .by_cases z:b=ea
  .rw [z];exact hz
  exact⟨u,k b u z q⟩
 .rw [other b (K9 b _ q (λ_ z=>by cases z)) (MN b _ q)];exact q
 .rw [other b (K9 b _ q (λ_ z=>by cases z)) (MN b _ q)];exact q
 .rw [other b (K9 b _ q (λ_ z=>by cases z)) (MN b _ q),tR];exact q
 by_cases z:a=ea
 .subst z;rw [ae] at q;cases q;exact Ra _
 by_cases z2:a=s.heap.objs.size
 .subst z2;rw [ai z] at q;cases n with
  | none=>dsimp only at q;rw [fr] at q;cases q
  | some m =>
   dsimp only at q;rw [ae] at q;cases q;exact Q_ _ rfl _
 rw [other a z z2] at q;refine(I.bo a u q).gZ (λb v hb r=>k b v ?_ r) (λb r=>?_) λb xs r=>?_
 .rcases hb with rfl | hb
  .exact z
  exact K9 b _ hb (λ_ y=>by cases y)
 .rw [other b (K9 b _ r (λ_ y=>by cases y)) (MN b _ r)];exact r
 rw [other b (K9 b _ r (λ_ y=>by cases y)) (MN b _ r)];exact r
end
section
variable {X:Cx}
end
def Iw {H:Hp}{a:Addr}{o:HO}(h:H a=some o):upd H a o=H:=by
 funext b
 by_cases z:b=a
 .rw [z,ae,h]
 exact ai z
section
variable {X:Cx}
def XD (K:Frag)(ta tv:TE)(f:Str):TS:=λD σ H=>tv σ H λy H1=>ta σ H1 λv H2=>∃ea C cd,v=.ref ea/\H2 ea=some (newX ea C none)/\XC K C cd/\takerIn K C f=some none /\
 ∀dx,H2 dx=none->dx≠ea->D.nx σ (upd (upd H2 dx (.xd [(f,y)])) ea (newX ea C (some dx)))
def uJ {o value:Expr}{f:Str}{pos pos':Pos}{ta tv:TE}(ha:PE X o ta)(hv:PE X value tv)(hs:swapsWith value (some (.Attribute o f pos')) pos.line X.env=pure false):PS X (.Assign [.Attribute o f pos'] value pos) (XD X.K ta tv f):=by
 intro af s σ H D I h;refine plainObj_wpAny_Assign_Attribute (b8 (hv af s σ H _ I h) λu s1 aR=>?_) hs;obtain⟨y,H1,I1,ry,q⟩:=aR;refine b8 (ha af s1 σ H1 _ I1 q) λov s2 aR=>?_;obtain⟨v,H2,I2,rx,ea,C,cd,ev,eH,c,t,q2⟩:=aR;subst ev;obtain rfl:ov=Value.ref ea:=rx;obtain⟨a0,e0⟩:=I2.newX eH;have lt:ea≠s2.heap.objs.size:=a_ (aP e0);refine Qu I2.jI c t e0 λh' k e1 n1=>⟨σ,_,?_,q2 s2.heap.objs.size (I2.bo.fresh (aH _)) (du lt)⟩;refine I2.Ko (n:=some (.xd [(f,y)])) (o:=newX ea C (some s2.heap.objs.size)) eH k ⟨_,e1⟩ lt (λH'=>uO e1) λm em H'=>?_;cases em;refine⟨_,n1,λg=>?_⟩;by_cases z:g=f
 .subst z;show gL (List.lookup g [(g,y)]) (if g=g then some u else none);rw [aw rfl];simp only [List.lookup,o9];exact ry
 show gL (List.lookup g [(f,y)]) (if g=f then some u else none);rw [ay z];have zb:(g == f)=false:=by simpa using z
 simp only [List.lookup,zb];trivial
structure BI (K:Frag)(W:Addr)(gp:String):Prop where
 ga:specialIn K (.ref W) "__getattribute__"=some (some (.builtin "type.__getattribute__"))
 rd:∃mc,readsIn K W mc=true/\findCls K (.ref W) mc "__init__"=some (.val (.builtin gp))
 hd:handedIn (.builtin gp)=true
def Xq (K:Frag)(o8:List Value)(newId:String)(t:TA):TE:=λσ H Q=>t σ H λvs H1=>∃ea C fI dx y,vs=[.ref ea,y]/\H1 ea=some (newX ea C dx)/\Fg K C fI o8 newId=true/\Q .cU H1
def qa {Wn:Str}{W:Addr}{e1:Expr}{es:List Expr}{p apos pos:Pos}{t:TA}{B newId gp:String}{o8:List Value}{pl:Sem Bool}(F:ExcBaseFacts B newId gp o8)(b:BI X.K W gp)(hg:Gl X Wn)(hm:X.mg Wn=some (.ref W))
  (ha:PA X (e1::es) t)(qr:(Wn == ("__debug__":Str))=false:=by decide)
  (he:starEach (e1::es) X.env=(false,eval e1 X.env)::starEach es X.env:=by rfl)(ni:(backTo pos (starEach es X.env)).any (·.1)=false:=by rfl)
  (ht:eval (.Call (.Attribute (.Name Wn p) "__init__" apos) (e1::es) [] pos) X.env=(do
   let ov <-eval (.Name Wn p) X.env
   standAt apos.atName
   let (f,first) <-holding [ov] (getMethod ov "__init__" pl)
   callWith pos f first (backTo pos (starEach (e1::es) X.env)) (backToKw pos (keywordEach [] X.env))):=by rfl) :
  PE X (.Call (.Attribute (.Name Wn p) "__init__" apos) (e1::es) [] pos) (Xq X.K o8 newId t):=by
 intro af s σ H Q I h;refine methodCall_KW (pl:=pl) (iF I hg hm ?_ qr) ht;obtain⟨mc,r1,r2⟩:=b.rd;refine method_cls I.jI b.ga (cls_value I.jI r1 r2 b.hd ?_);refine PyProof.Rows.callWith_builtin1 (b8 (ha pos af _ σ H _ (I.tok _) h) λus s1 aR=>?_) he ni;obtain⟨vs,H1,I1,r1,ea,C,fI,dx,y,ev,eH,hx,q⟩:=aR;subst ev;obtain⟨a0,e0⟩:=I1.newX eH;obtain⟨nm,qn,N,bs,bm,oB,sn,sub,ab,col,dd,k0,k1,k2,k3,k5,mN,hC,_,_,T⟩:=Iu I1.jI hx;obtain⟨u,u2,rfl,ra,ry⟩:=vals2 r1;have ra:u=Value.ref ea:=ra;subst ra;obtain⟨hp,g,d,tk,os⟩:=s1;refine gN (ph F.init.plain F.initEntry (wpAny_check_init_subT F T hC e0 rfl ?_));have sz:([u2]:List Value).length<=sizeLine:=by rw [gG];show (1:Nat)<=_;decide
 refine ax (wpAny_newTuple ?_ sz);have g1:=bj (h:=hp) { cls:=.type "tuple",data:=.seq #[u2] } e0;have ne:ea≠hp.objs.size:=a_ (aP e0);have g2:=kS (Obj.mapFields (·.setIfInBounds 0 (Value.ref hp.objs.size))) g1 rfl;have J:=I1.Ko (n:=none) (o:=newX ea C dx) (t':=tk) (h':=(hp.push { cls:=.type "tuple",data:=.seq #[u2] }).update ea (Obj.mapFields (·.setIfInBounds 0 (Value.ref hp.objs.size)))) eH
  (λc o nc q=>by rw [fV _ _ (du nc)];exact bj _ q) ⟨_,g2⟩ ne (λH'=>uO g2) (λm em=>by cases em)
 dsimp only at J;rw [Iw eH] at J;refine ax ?_;unfold Builtin.BaseException.bexcPut;refine ax (gF g1 rfl (x:=.ref a0) rfl (ax (mi g1 rfl (show 0 < 6 by decide) ?_)));refine wpAny_letGo (aK ?_);exact⟨.cU,H1,J,rfl,q⟩
def Xn (X:Cx)(C:Addr)(sp:Sp)(E:XK)(t:TA):TE:=λσ H Q=>t σ H λvs H1=>∀ea,H1 ea=none->X.s₀.heap.objs.size<=ea->sp (.ref ea::vs) (upd H1 ea (newX ea C none)) (λv H2=>v=.cU/\Q (.ref ea) H2) E
def I9 {CX:tJ}{k:Nat}{C fI:Addr}{fd:FuncData}{ps:List Str}{sp:Sp}{E:XK}{B newId gp:String}{o8:List Value}{oI:Obj}{af:List (Addr×Obj)}{σ:St}{H:Hp}{s:Shared}{Q:VK}{us:List Value}{vs:List V}
  (F:ExcBaseFacts B newId gp o8)(hx:Fg X.K C fI o8 newId=true)(lk:X.K.lookup fI=some oI)(Gf:oI.cls=.type "function")(G:bf X.prog X.w X.K X.mg X.base CX k fI fd ps sp)(NA:ps.length<=1000)(hr:cX (k+1) X.A)
  (hb:Binds X.K fd ps [])(hp:Passes CX X E)(I:Inv X af σ H s)(r:aO vs us)
  (h:∀ea,H ea=none->X.s₀.heap.objs.size<=ea->sp (.ref ea::vs) (upd H ea (newX ea C none)) (λv H2=>v=.cU/\Q (.ref ea) H2) E):wpAny (model X.prog X.w) X.A (call (.ref C) us) (EP X af σ Q) X.xe s:=by
 have q:=h (s.heap.objs.size+1) (I.bo.fresh (iX _)) (cz I.sz (iX _));have r2:aO (V.ref (s.heap.objs.size+1)::vs) (Value.ref (s.heap.objs.size+1)::us):=.cons rfl r;have len:=G.len _ _ _ _ q;have l2:(Value.ref (s.heap.objs.size+1)::us++[]).length=ps.length:=by
  rw [eX,<-r2.length];exact len
 have lu:us.length<=sizeLine:=by
  rw [gG];simp only [eX,dw] at l2;omega
 obtain⟨nm,qn,N,bs,bm,oB,sn,sub,ab,col,dd,k0,k1,k2,k3,k5,mN,hC,hN,hi,T⟩:=Iu I.jI hx;have e1:((s.heap.push (iI us)).push (newObj C none (.ref s.heap.objs.size))).get? (s.heap.objs.size+1)=some (newObj C none (.ref s.heap.objs.size)):=by
  have z:=cJ (s.heap.push (iI us)) (o:=newObj C none (.ref s.heap.objs.size)) rfl;rwa [j4] at z
 have I2:=I.laid (a:=s.heap.objs.size+1) (o:=newX (s.heap.objs.size+1) C none) (t':=s.toks) (h':=(s.heap.push (iI us)).push (newObj C none (.ref s.heap.objs.size)))
  (λb u z=>bj _ (bj _ z)) (iX _) (uO e1)
 obtain⟨hh,g,d,tk,os⟩:=s;refine Jo F T hC hN hi (I.jI _ _ lk) Gf lu ?_;have b2:=hb _ (Value.ref (hh.objs.size+1)::us) I2.jI l2;rw [eX] at b2;refine gN (iw (G.run _ X.stack _ _ ⟨Value.ref (hh.objs.size+1)::us,[]⟩ _ _ _ E (hr.make C us []) (I2.Eg.make C us []) b2 r2 q) λr s' z=>?_);cases r with
 | error e=>exact hp af σ _ _ e s' I2 z
 | ok fl =>
  cases fl with
  | ret u =>
   obtain⟨v,H',I3,rv,ev,q3⟩:=I2.after z;subst ev;exact⟨rv,⟨V.ref (hh.objs.size+1),H',I3,rfl,q3⟩⟩
  | next=>exact False.elim z
  | brk=>exact False.elim z
  | cont=>exact False.elim z
def MI {CX:tJ}{k:Nat}{C fI:Addr}{fd:FuncData}{ps:List Str}{sp:Sp}{E:XK}{B newId gp:String}{o8:List Value}{oI:Obj}{x:Str}{e:Expr}{es:List Expr}{p pos:Pos}{t:TA}
  (F:ExcBaseFacts B newId gp o8)(hx:Fg X.K C fI o8 newId=true)(lk:X.K.lookup fI=some oI)(Gf:oI.cls=.type "function")(Zs:keepIn X.K (.ref C)=true)(G:bf X.prog X.w X.K X.mg X.base CX k fI fd ps sp)(NA:ps.length<=1000)(hr:cX (k+1) X.A)
  (hg:Gl X x)(hm:X.mg x=some (.ref C))(hb:Binds X.K fd ps [])(hp:Passes CX X E)
  (ha:PA X (e::es) t)(qr:(x == ("__debug__":Str))=false:=by decide)(he:starEach (e::es) X.env=(false,eval e X.env)::starEach es X.env:=by rfl)(ni:(backTo pos (starEach es X.env)).any (·.1)=false:=by rfl) :
  PE X (.Call (.Name x p) (e::es) [] pos) (Xn X C sp E t):=by
 intro af s σ H Q I h;refine kQ (iF I hg hm ?_ qr);refine callWith_K (h₀:=X.base) I.ok.mod.Jw Zs (b8 (ha pos af s σ H _ I h) λus s1 aR=>?_) he ni;obtain⟨vs,H1,I1,r,q⟩:=aR;refine⟨I1.jI,?_⟩;exact I9 F hx lk Gf G NA hr hb hp I1 r q
end
section
variable {M:Model}{A:Around}{E:Value->Shared->Prop}{s:Shared}{env:Env}
variable {nm qn:Str}{C N:Addr}{bs bm:List Value}{oB:Bool}{sn:List Str}{sub:List Value}{ab:Bool}{col:Option Bool}{dd:Option Addr}{k0 k1 k2 k3 k5:Option Value}{newId:String}
def CS {x:Sem Value}{Q:Flow->Shared->Prop}(hh:A.handled=none)
  (h:wpAny M A x (λv s₁=>∃(ea a0 C:Addr)(dx:Option Addr),v=.ref ea/\s₁.heap.get? ea=some (newObj C dx (.ref a0))/\(∃nm qn N bs bm oB sn sub ab col dd k0 k1 k2 k3 k5 newId,s₁.heap.get? C=some (excClassObj nm qn C N bs bm oB sn sub ab col dd k0 k1 k2 k3 k5 newId) /\
   bm.contains (.type "BaseException")=true)/\E (.ref ea) s₁) E s):wpAny M A (raiseStmt env (some x) none) Q E s:=by
 unfold raiseStmt;refine ax (bY h (λv s₁ z=>?_) λ_ _ z=>z);obtain⟨ea,a0,C,dx,rfl,he,⟨nm,qn,N,bs,bm,oB,sn,sub,ab,col,dd,k0,k1,k2,k3,k5,newId,hC,hb⟩,hE⟩:=z;have me:(Value.ref C::bm).contains (.type "BaseException")=true:=by rw [List.contains_cons,hb,Bool.or_true]
 obtain⟨hp,g,d,tk,os⟩:=s₁
 repeat (first
  | with_reducible refine pD he ?_
  | with_reducible refine pD hC ?_
  | (with_reducible refine wpAny_isSubtype_exc hC ?_;rw [me])
  | wp_step)
 exact wpAny_raiseNew_none hh hE
end
section
variable {P:Program}{w:World}{K:Frag}{mg:Str->Option Value}{base:Heap}{N:List Str}{qual:Str}{scope:Scope}{f:Addr}{cd:Value}{A:Around}{outer:List Env}{s₀:Shared}{H₀:Hp}{E:XK}
def Xl (X:Cx)(E:XK)(te:TE):TS:=λ_ σ H=>te σ H λv H1=>∃ea C dx fI o8 newId,v=.ref ea/\H1 ea=some (newX ea C dx)/\X.s₀.heap.objs.size<=ea/\Fg X.K C fI o8 newId=true/\o8.contains (.type "BaseException")=true /\
 E (.ref C) dx (upd H1 ea (rq ea (.ref C) dx))
def CT {e:Expr}{te:TE}{pos:Pos}(he:PE (d6 (jX P w) P w K mg base N qual scope f cd A outer s₀ H₀ E) e te) :
  PS (d6 (jX P w) P w K mg base N qual scope f cd A outer s₀ H₀ E) (.Raise (some e) none pos) (Xl (d6 (jX P w) P w K mg base N qual scope f cd A outer s₀ H₀ E) E te):=by
 intro af s σ H D I h;rw [arm_exec_Raise];refine ax (wpAny_standAt (CS (I.ok.hd rfl) (ax (b8 (he af s σ H _ I h) λv s1 aR=>?_))));obtain⟨y,H1,I1,ry,ea,C,dx,fI,o8,newId,ev,eH,new,hx,hb,q⟩:=aR;refine ax (wpAny_standAt (aK ?_));subst ev;obtain rfl:v=Value.ref ea:=ry;obtain⟨a0,e0⟩:=I1.newX eH;obtain⟨nm,qn,Nn,bs,bm,oB,sn,sub,ab,col,dd,k0,k1,k2,k3,k5,mN,hC,hN,hi,T⟩:=Iu I1.jI hx;refine⟨ea,a0,C,dx,rfl,e0,⟨nm,qn,Nn,bs,bm,oB,sn,sub,ab,col,dd,k0,k1,k2,k3,k5,newId,hC,T.hasType hb⟩,?_⟩;have J:=I1.Ko (n:=none) (o:=rq ea (.ref C) dx) (t':=s1.toks) (h':=s1.heap) eH (λ_ _ _ z=>z) ⟨_,e0⟩ (a_ (aP e0)) (λH'=>Ah e0 rfl rfl rfl) (λm em=>by cases em);exact bY (uT (E:=E) J I.ok.frames rfl rfl rfl e0 rfl rfl ⟨ae,new⟩ q) (λ_ _ z=>z) λ_ _ z=>z
end
section
variable {X:Cx}{af:List (Addr×Obj)}{σ:St}{H:Hp}{s:Shared}{h':Heap}{ea:Addr}{cls fl:Value}{dx:Option Addr}{T:Addr}
def Inv.moved {cs:List Addr}(J:Inv X af σ H s)(mm:Moved (oF X.stack) (ea::cs) s.heap h')(wj:H ea=some (rq ea cls dx))(F:qW h' ea cls dx T fl)
  (SR:∀b∈cs,H b=none/\X.s₀.heap.objs.size<=b/\b≠X.env.locals/\(∀x c,X.env.cells.lookup x=some c->c≠b)/\∀p∈X.pn++af,p.1≠b):Inv X af σ H { s with heap:=h' }:=by
 have ne:∀b,H b=none->b≠ea:=λb n z=>by rw [z,wj] at n;cases n
 have Po:∀b,b≠ea->b∉cs->b∉ea::cs:=λb n m z=>(bC.mp z).elim n m;refine J.call (ch:=cs) ⟨λb o q n f c=>mm.keep b o (Po b (ne b n) c) f q,λb o q n _ c=>mm.slot b o (Po b (ne b n) c) q,λb o q n _=>n,λb o q c=>?_,λ_ _ q=>q,λ_ _ _ q=>q,λb ps q=>⟨#[],by rw [tR];exact q⟩⟩ ?_ J.bare
  λb hb=>⟨.inr (SR b hb).2.1,(SR b hb).2.2⟩
 .by_cases z:b=ea
  .obtain⟨oe,_,_,_,he,_⟩:=F;exact⟨oe,z ▸ he⟩
  obtain⟨sl,q1⟩:=mm.slot b o (Po b z c) q;exact⟨_,q1⟩
 intro a o q;by_cases ha:a=ea
 .subst ha;rw [wj] at q;cases q;exact F.ok
 refine(J.bo a o q).gZ (λb u hb e=>?_) (λ_ z=>z) λ_ _ z=>z;have uZ:H b≠none/\b≠ea:=by
  rcases hb with rfl | hb
  .exact⟨by rw [q];exact tY _,ha⟩
  refine⟨by rw [hb];exact tY _,λz=>?_⟩;rw [z,wj] at hb;cases hb
 exact mm.keep b u (Po b uZ.2 λz=>uZ.1 (SR b z).1) (λz=>uZ.1 (J.oP b z)) e
def AA {M:Model}{A:Around}{E:Value->Shared->Prop}{j:Nat}{n:Str}{v:V}{Q:Unit->Shared->Prop}(I:Inv X af σ H s)(hN:X.N.Nodup)(hj:X.N[j]?=some n)(hl:X.env.scope.names.lookup n=some .local)
  (hv:σ[j]?=some (some v))(h:∀s',Inv X af (σ.set j none) H s'->Q () s'):wpAny M A (unbindName X.env n) Q E s:=by
 obtain⟨m,hn,lk⟩:=id I.loc;obtain⟨u,_,l⟩:=lk j n v hj hv (.inl hl);have hk:X.env.kindOf n=some .local:=hl;have mn:m n=some u:=by
  rcases l with l | ⟨l,_⟩
  .exact l.2
  rw [hk] at l;rcases l with l | l <;> cases l
 have hc:(X.env.scope.kind == .class || (X.env.scope.kind == .module && X.env.locals != X.env.globals))=false:=by rw [I.ok.kind];rfl
 refine wpAny_unbindName_local hk hn mn hc λh' w' JL hs=>?_;have nl:∀b o,X.s₀.heap.get? b=some o->b≠X.env.locals:=λb o e=>a_ (dA (aP e) I.ok.above);have cellK:∀y c,X.env.cells.lookup y=some c->∀z,s.heap.IsCell c z->h'.IsCell c z:=λy c e z ⟨o,ho,hd⟩=>⟨o,(hs.2 c (I.HX y c e)).trans ho,hd⟩;refine h _ ⟨I.ok,I.os,I.bare,⟨λb o e n' hb hx=>?_,λb o e n' hb hx=>?_,I.base.free,λb o e hx=>?_,I.base.j6,I.base.jq,I.base.jG⟩,⟨_,JL,λi y v' e1 e2 e3=>?_⟩,λy c e=>?_,I.free,I.ik,λp hp=>?_,λb ob e=>?_,by simpa using I.len⟩
 .exact(hs.2 b (nl b o e)).trans (I.base.keep b o e n' hb hx)
 .obtain⟨sl,q⟩:=I.base.slot b o e n' hb hx;exact⟨sl,(hs.2 b (nl b o e)).trans q⟩
 .obtain⟨o',q⟩:=I.base.there b o e hx;exact⟨o',(hs.2 b (nl b o e)).trans q⟩
 .by_cases Bg:i=j
  .subst Bg;have lt:i < σ.length:=(ba.mp hv).1;rw [uh lt] at e2;cases e2
  rw [List.getElem?_set_ne (λz=>Bg z.symm)] at e2;have yn:y≠n:=λz=>Bg (qd hN (z ▸ e1) hj);obtain⟨u',ru,l'⟩:=lk i y v' e1 e2 e3;refine⟨u',ru,?_⟩;rcases l' with l' | ⟨k',c,ec,z⟩
  .exact .inl ⟨l'.1,by show (if y=n then w' else m y)=_;rw [ay yn];exact l'.2⟩
  exact .inr ⟨k',c,ec,cellK y c ec _ z⟩
 .obtain⟨z,q⟩:=I.cell y c e;exact⟨z,cellK y c e z q⟩
 .obtain⟨e,n',ne,nf,d⟩:=I.pin p hp;exact⟨(hs.2 p.1 ne).trans e,n',ne,nf,d⟩
 refine(I.bo b ob e).gZ (λc w'' jJ q=>(hs.2 c λz=>?_).trans q) (λ_ q=>q) λ_ _ q=>q;have fr:=I.free;rw [<-z] at fr;rcases jJ with y | y
 .rw [<-y,fr] at e;cases e
 rw [fr] at y;cases y
def Inv.away {b:Addr}(I:Inv X af σ H s)(lb:s.heap.objs.size<=b):X.s₀.heap.objs.size<=b/\b≠X.env.locals/\(∀x c,X.env.cells.lookup x=some c->c≠b)/\∀p∈X.pn++af,p.1≠b:=by
 have lt:∀{c:Addr}{o:Obj},s.heap.get? c=some o->c≠b:=λe z=>absurd (dA (aP e) (z ▸ lb)) (hJ _);refine⟨cz I.sz lb,λz=>absurd (dA I.lt (z ▸ lb)) (hJ _),λx c ec=>?_,λp hp=>lt (I.pin p hp).1⟩;obtain⟨v,o,ho,_⟩:=I.cell x c ec;exact lt ho
abbrev Cx.hold (X:Cx)(ea:Addr):Cx:={ X with A:=X.A.mark (some (.ref ea)),calm:=false,xe:=λ_ _=>False }
theorem Inv.hold (I:Inv X af σ H s)(ea:Addr):Inv (X.hold ea) af σ H s :=
 ⟨⟨I.ok.mod,I.ok.kind,I.ok.glob,I.ok.blt,I.ok.above,I.ok.inj,I.ok.has,I.ok.LK,(λz=>by cases z),I.ok.frames,I.ok.G8,I.ok.Kn,I.ok.bs,I.ok.Eu,I.ok.AZ,I.ok.yT,I.ok.lS,I.ok.Gr⟩,
  I.os,I.bare,I.base,I.loc,I.cell,I.free,I.ik,I.pin,I.bo,I.len⟩
def Inv.Iy {ok:X.Ok}(I:Inv (X.hold ea) af σ H s):Inv X af σ H s:=⟨ok,I.os,I.bare,I.base,I.loc,I.cell,I.free,I.ik,I.pin,I.bo,I.len⟩
end
section
variable {X:Cx}{k:Nat}{f W:Addr}{fd:FuncData}{ps:List Str}{sp:Sp}{y fn Cn n:Str}{a:Expr}{as:List Expr}{t:TA}{i j:Nat}{b₀:Stmt}{Ck:List Stmt}{tb:TS}{p py cp ap np hp pos:Pos}
end
structure XG (K:Frag)(C:Addr):Prop where
 dict:hasDictIn K C=true
 ga:findIn K (.ref C) "__getattribute__"=some (some (.builtin "BaseException.__getattribute__"))
 gt:findIn K (.ref C) "__getattr__"=some none
 be:mroIn K C (.type "BaseException")=some true
 ob:mroIn K C (.type "object")=some true
 ca:findIn K (.ref C) "__class__"=some (some (.builtin "object.__class__"))
 cg:specialIn K (.builtin "object.__class__") "__get__"=some (some (.builtin "getset_descriptor.__get__"))
 ct:takesIn K (.builtin "object.__class__")=some true
 me:kitCls K (.ref C) (.ref C)=some true
section
variable {prog:Program}{w:World}{A:Around}{E:Value->Shared->Prop}{s:Shared}{K:Frag}{x C:Addr}{ox:Obj}{od:Option Obj}{name:Str}{v:Value}{tk:Tok}
def md (prog:Program)(w:World)(s:Shared)(x:Addr)(name:Str)(tk:Tok)(v:Value):Prop :=
 ∀(A':Around)(E':Value->Shared->Prop)(Q':Fin->Shared->Prop),Q' (.done (.ret v)) s->wpAny (model prog w) A' (Builtin.«object.__getattribute__» ⟨[.ref x,.str name tk],[]⟩) Q' E' s
def DX (X:K.In s.heap)(I:InstAt s.heap x ox C od)(hf:findObj K C od name=some (.value v)):md prog w s x name tk v:=by
 intro A' E' Q' q;obtain⟨h0,g0,d0,t0,Q5⟩:=s;have b0:=I.type (M:=model prog w);have b1:=looks_find (M:=model prog w) X I hf;unfold Builtin.«object.__getattribute__»
 repeat lk
 exact q
def DY (X:K.In s.heap)(I:InstAt s.heap x ox C od)(hf:findObj K C od name=some (.bind (.builtin "getset_descriptor.__get__") (.builtin "object.__class__")))(hm:mroIn K C (.type "object")=some true):md prog w s x name tk (.ref C):=by
 intro A' E' Q' q;obtain⟨h0,g0,d0,t0,Q5⟩:=s;have b0:=I.type (M:=model prog w);have b1:=looks_find (M:=model prog w) X I hf;unfold Builtin.«object.__getattribute__»;refine ax (aK (ax (aK (ax (b0.at (ax (b1.at ?_)))))));show wpAny _ _ (holding [_] (call _ [_,_,_]) >>= ret) _ _ _;refine ax (fR (gN (class_get X I hm ?_)));exact aK q
set_option maxHeartbeats 400000 in
def G6 {fill expr:Bool}{Q:Value->Shared->Prop}(X:K.In s.heap)(G:XG K C)(I:InstAt s.heap x ox C od)(t:md prog w s x name tk v)(hv:handedIn v=true)(q:Q v s) :
  wpAny (model prog w) A (getAttrBy (.ref x) (.str name tk) fill expr) Q E s:=by
 obtain⟨h0,g0,d0,t0,Q5⟩:=s;have b0:=I.type (M:=model prog w);have b1:=looks_findIn (M:=model prog w) X G.ga;have b2:=looks_findIn (M:=model prog w) X G.gt;have b3:Looks (model prog w) h0 (isInstance (.ref x) (.type "BaseException")) true:=b0.andThen (looks_mroIn X G.be);have n0:(Value.builtin "BaseException.__getattribute__" == Value.builtin "object.__getattribute__")=false:=by decide +kernel
 have n1:(onTheHeap (Value.ref C) && Value.builtin "BaseException.__getattribute__" == Value.builtin "object.__getattribute__")=false:=by rw [n0,Bool.and_false]
 have n2:(expr && onTheHeap (Value.builtin "BaseException.__getattribute__"))=false:=by cases expr <;> rfl
 unfold getAttrBy;refine fR (ax (b0.at (ax (b1.at ?_))));show wpAny _ _ (if (onTheHeap (Value.ref C) && Value.builtin "BaseException.__getattribute__" == Value.builtin "object.__getattribute__")=true then _ else _) _ _ _;rw [ay (by rw [n1];exact cT)];unfold getAttrByItsOwn;refine ax ?_;show wpAny _ _ (typeLookup (.ref C) "__getattr__") _ _ _;refine b2.at ?_;refine ax (mh (fR ?_));unfold callGetattribute;rw [ay (by rw [n2];exact cT)];unfold boundAndCalled;rw [PySem.F.attr_ValueError.ga.bind (.ref x)];refine ax (aK ?_);show wpAny _ _ (call _ _) _ _ _;refine gN ?_;show codeAny _ _ (.call (.builtin "BaseException.__getattribute__") ⟨[.ref x,.str name tk],[]⟩) _ _;refine ph PySem.F.attr_ValueError.ga.plain PySem.F.entry_bexc_ga ?_;refine @check_slot (model prog w) _ _ ⟨h0,g0,d0,t0,Q5⟩ "BaseException.__getattribute__" "BaseException" "__getattribute__" (.ref x) [.str name tk] [] _ nofun nofun b3 (PySem.F.args_bexc_ga _ _) ?_;refine t _ _ _ ?_;exact handed_on hv q
def Iq {expr:Bool}{Q:Value->Shared->Prop}(X:K.In s.heap)(G:XG K C)(I:InstAt s.heap x ox C od)(t:md prog w { s with toks:=s.toks+1 } x name s.toks v)(hv:handedIn v=true)(q:Q v { s with toks:=s.toks+1 }) :
  wpAny (model prog w) A (getAttr (.ref x) name expr) Q E s:=by
 unfold getAttr;exact ax (wpAny_mkText (G6 (s:={ s with toks:=s.toks+1 }) X G I t hv q))
def Ir {Q:Option Value->Shared->Prop}(X:K.In s.heap)(G:XG K C)(I:InstAt s.heap x ox C od)(t:md prog w { s with toks:=s.toks+1 } x name s.toks v)(hv:handedIn v=true)(q:Q (some v) { s with toks:=s.toks+1 }) :
  wpAny (model prog w) A (getAttr? (.ref x) name) Q E s:=by
 unfold getAttr? getAttrBy?;exact ax (wpAny_mkText (ax (mh (G6 (s:={ s with toks:=s.toks+1 }) X G I t hv (aK q)))))
def DI (G:XG K C):KitX K (.ref x) (.ref C) (λh=>∃ox od,InstAt h x ox C (some od)) where
 ty:=λ_ _ _ ⟨_,_,I⟩=>I.type
 it:=λM h X _=>(kit_cls (M:=M) X G.me).2.1
 ne:=λh tp dd aL n sl X Sb=>by
  obtain⟨cd,hc,_⟩:=any_some G.dict;cases e:(Value.ref C == .ref tp) with
  | false=>rfl
  | true =>
   exfalso;have e2:=Value.ref.inj (beq_iff_eq.mp e);rw [<-e2] at Sb;unfold clsIn at hc
   split at hc
   .next ho=>rw [X _ _ ho] at Sb;cases Sb
   cases hc
 ca:=λ{prog w A E Q s} X ⟨ox,od,I⟩ k=>by
  obtain⟨cd,hc,_⟩:=any_some G.dict;exact Ir X G I (DY (s:={ s with toks:=s.toks+1 }) X I (findObj_data (by rw [hc];rfl) G.ca G.cg G.ct) G.ob) rfl k
end
section
variable {X:Cx}{af:List (Addr×Obj)}{σ:St}{H:Hp}{s:Shared}{ea C dx:Addr}{fs:List (Str×V)}
def E_ (H:Hp)(ea C dx:Addr)(fs:List (Str×V)):Prop:=H ea=some (rq ea (.ref C) (some dx))/\H dx=some (.xd fs)
def E_.inst (I:Inv X af σ H s)(e:E_ H ea C dx fs):∃ox od,InstAt s.heap ea ox C (some od)/\∃mA:Str->Option Value,(∀f,gL (fs.lookup f) (mA f))/\∀name,lookIn name od=some (mA name):=by
 obtain⟨⟨oe,vs,e1,c1,d1,f1⟩,_⟩:=I.bo _ _ e.1;obtain⟨mA,n1,r1⟩:=(show bE _ _ _ _ dx (.xd fs) from I.bo _ _ e.2);obtain⟨od,ho,hl⟩:=sC n1;refine⟨oe,od,⟨e1,c1,?_,?_⟩,mA,r1,hl⟩
 .unfold notCls;rw [f1]
 rw [d1];exact ho
def Xi (K:Frag)(ta:TE)(f:Str):TE:=λσ H Q=>ta σ H λx H1=>∃ea C dx fs v,x=.ref ea/\E_ H1 ea C dx fs/\XG K C/\cI K C f/\fs.lookup f=some v/\Q v H1
def zW {e:Expr}{ta:TE}{f:Str}{pos:Pos}(he:PE X e ta)(hb:attributeBase e f X.env (eval e X.env)=eval e X.env):PE X (.Attribute e f pos) (Xi X.K ta f):=by
 intro af s σ H Q I h;refine Aq hb (b8 (he af s σ H _ I h) λu s1 aR=>?_);obtain⟨x,H1,I1,rx,ea,C,dx,fs,v,ex,xo,G,n,l,q⟩:=aR;subst ex;obtain rfl:u=Value.ref ea:=rx;obtain⟨ox,od,J,mA,ra,hl⟩:=xo.inst I1;obtain⟨u',hu,ru⟩:=gL.some_of (v:=v) (o:=mA f) (by rw [<-l];exact ra f);exact Iq I1.jI G J (DX (s:={ s1 with toks:=s1.toks+1 }) I1.jI J (findObj_own G.dict n rfl (by rw [hl,hu]))) (sP ru) ⟨v,H1,I1.tok _,ru,q⟩
end
def l8 (z:Str):Prop:=z.length<=1000/\∀c∈z.cps.toList,c < 16 ^ 8
theorem jS:∀zs:List Str,PyData.showableAll (zs.map PyData.str)=true
 | []=>by simp [PyData.showableAll]
 | z::r=>by simp [PyData.showableAll,PyData.showable,jS r]
theorem nY:∀zs:List Str,PyData.hasDictAll (zs.map PyData.str)=false
 | []=>by simp [PyData.hasDictAll]
 | z::r=>by simp [PyData.hasDictAll,PyData.hasDict,nY r]
theorem pQ:∀zs:List Str,PyData.depthAll (zs.map PyData.str)=0
 | []=>by simp [PyData.depthAll]
 | z::r=>by simp [PyData.depthAll,PyData.depth,pQ r]
theorem nX:∀(ts:List Str) (k:Nat)(a7:Str),(textFrom k a7 ts).length<=a7.length+piled ts
 | [],_,a7=>Nat.le_add_right _ _
 | t::r,k,a7=>by
  have ih:=nX r (k+1) (a7++(if k > 0 then "\x2c\x20" else "":String)++t);have e:(a7++(if k > 0 then "\x2c\x20" else "":String)++t).length=a7.length+(if k > 0 then 2 else 0)+t.length:=by
   rw [ja,ja]
   split <;> rfl
  rw [e] at ih;rw [piled_cons];have d:(if k > 0 then 2 else 0:Nat)<=2:=by split <;> omega
  show (textFrom (k+1) _ r).length<=_;omega
def oi (ts:List Str):(listText ts).length<=2+piled ts:=by
 unfold listText;rw [ja];have:=nX ts 0 "[";have e1:("[":Str).length=1:=rfl;have e2:("]":Str).length=1:=rfl;rw [e1] at this;rw [e2];omega
theorem p_:∀(zs:List Str),(∀z∈zs,l8 z)->piled (PyData.shownAll (zs.map PyData.str))<=10004 * zs.length
 | [],_=>by simp [PyData.shownAll,piled_nil]
 | z::r,h=>by
  have ih:=p_ r λx hx=>h x (bJ _ hx);obtain⟨h1,h2⟩:=h z bZ;have h3:=PySem.StrLaws.reprText_len z h2;rw [bw,dw];show piled (PyData.shown (.str z)::PyData.shownAll (r.map PyData.str))<=_;rw [piled_cons];have e:PyData.shown (.str z)=reprText z:=by simp [PyData.shown]
  rw [e];omega
section
variable {K:aT}{H:Hp}
mutual
def jL (K:aT)(H:Hp):PyData->V->Prop
 | .str x,v=>v=.str x
 | .int i,v=>v=.int i
 | .list xs,v=>∃a ys,v=.ref a/\aD K H a ys/\kI K H xs ys
 | .tuple xs,v=>∃a ys,v=.ref a/\aX K H a ys/\kI K H xs ys
 | _,_=>False
def kI (K:aT)(H:Hp):List PyData->List V->Prop
 | [],ys=>ys=[]
 | d::ds,ys=>∃y r,ys=y::r/\jL K H d y/\kI K H ds r
end
end
section
variable {X:Cx}{af:List (Addr×Obj)}{σ:St}{H:Hp}{s:Shared}
mutual
theorem rZ (I:Inv X af σ H s):∀(d:PyData)(v:V)(u:Value),jL X.K H d v->RelV v u->∃as,Reads s.heap u d as
 | .str x,v,u,h,r=>by
  cases (show v=.str x by simpa [jL] using h);obtain⟨t,rfl⟩:=(show ∃t,u=Value.str x t from r);exact⟨_,.str x t⟩
 | .int i,v,u,h,r=>by
  cases (show v=.int i by simpa [jL] using h);obtain⟨t,rfl⟩:=(show ∃t,u=Value.int i t from r);exact⟨_,.int i t⟩
 | .list xs,v,u,h,r=>by
  obtain⟨a,ys,rfl,hq,ha⟩:=(show ∃a ys,v=.ref a/\aD X.K H a ys/\kI X.K H xs ys by simpa [jL] using h);cases (show u=Value.ref a from r);obtain⟨aL,rv,⟨o,n,eo,c,_,d⟩,_⟩:=I.list hq;obtain⟨as,ra⟩:=mR I xs ys aL ha rv;exact⟨_,Reads.list eo c d (by simpa using ra)⟩
 | .tuple xs,v,u,h,r=>by
  obtain⟨a,ys,rfl,hq,ha⟩:=(show ∃a ys,v=.ref a/\aX X.K H a ys/\kI X.K H xs ys by simpa [jL] using h);cases (show u=Value.ref a from r);obtain⟨aL,rv,⟨o,ho,hc,n,hd⟩,_⟩:=I.tuple hq;obtain⟨as,ra⟩:=mR I xs ys aL ha rv;exact⟨_,Reads.tuple ho hc hd (by simpa using ra)⟩
 | .none,v,u,h,r=>absurd h (by simp [jL])
 | .bool _,v,u,h,r=>absurd h (by simp [jL])
 | .dict _,v,u,h,r=>absurd h (by simp [jL])
theorem mR (I:Inv X af σ H s):∀(ds:List PyData)(ys:List V)(us:List Value),kI X.K H ds ys->aO ys us->∃as,ReadsAll s.heap us ds as
 | [],ys,us,h,r=>by
  cases (show ys=[] by simpa [kI] using h);cases r;exact⟨_,.nil⟩
 | d::ds,ys,us,h,r=>by
  obtain⟨y,r2,rfl,h1,h2⟩:=(show ∃y r,ys=y::r/\jL X.K H d y/\kI X.K H ds r by simpa [kI] using h);cases r with
  | cons a b =>
   obtain⟨as,q1⟩:=rZ I d _ _ h1 a;obtain⟨bs,q2⟩:=mR I ds _ _ h2 b;exact⟨_,.cons q1 q2⟩
end
end
section
variable {X:Cx}
structure EJ (d:PyData):Prop where
 sh:d.showable=true
 nd:d.hasDict=false
 dp:d.depth<=8
 ln:d.shown.length<=10005002
def Mf (K:aT)(t:TE):TE:=λσ H Q=>t σ H λv H1=>∃a d,v=.ref a/\jL K H1 d v/\EJ d/\∀y,Q (.str y) H1
def uK {e:Expr}{te:TE}{a:Str}{j:Nat}{p1 p2 pos:Pos}(hg:X.A.guards=some [])(hu:X.A.units+8 < cLine)(he:PE X e te)(ha:a.length<=1000) :
  PE X (.JoinedStr [.Constant (.str a) j p1,.FormattedValue e 114 none p2] pos) (Mf X.K te):=by
 intro af s σ H Q I h;refine wpAny_JoinedStr ?_;show wpAny _ _ (eval _ X.env) _ _ _;refine Calls.Constant_str ⟨a,_,rfl,?_,?_⟩
 .show (Str.empty++a).length<=sizeLine;rw [ja,gG];show 0+a.length<=_;omega
 have l0:(Str.empty++a).length=a.length:=by rw [ja];exact j3 _
 show wpAny _ _ (eval _ X.env) _ _ _;refine wpAny_FormattedValue_repr (b8 (he af _ σ H _ (I.tok _) h) λu s1 aR=>?_);obtain⟨v,H1,I1,rv,l,d,ev,hd,ok,q⟩:=aR;obtain⟨as,rd⟩:=rZ I1 d v u hd rv;subst ev;cases (show u=Value.ref l from rv);have lz:=ok.ln;have Vq:d.shown.length<=sizeLine:=by rw [gG];omega
 refine pyReprObj_of_reads rd ok.sh (PyData.noDict_hsm ok.nd) hg (by have:=ok.dp;omega) (λ_ _ z=>z) (λh' u tk hk=>?_) Vq;have fin:(Str.empty++a++d.shown).length<=sizeLine:=by
  rw [ja,l0,gG];omega
 refine wpAny_formatField_str ⟨_,_,rfl,fin,?_⟩ ⟨_,_,rfl,fin,?_⟩ Vq
 .exact⟨fin,.str _,H1,I1.kept (t':=_) hk,⟨_,rfl⟩,q _⟩
 exact⟨fin,.str _,H1,I1.kept (t':=_) hk,⟨_,rfl⟩,q _⟩
end
theorem vK {K:aT}{H:Hp}:∀zs:List Str,kI K H (zs.map PyData.str) (zs.map V.str)
 | []=>by simp [kI]
 | z::r=>by
  have:∃y s,V.str z::r.map V.str=y::s/\jL K H (.str z) y/\kI K H (r.map PyData.str) s:=⟨_,_,rfl,by simp [jL],vK r⟩;rw [bw,bw,kI];exact this
def rY {zs:List Str}(hl:zs.length<=1000)(hz:∀z∈zs,l8 z):EJ (.list (zs.map PyData.str)):=by
 refine⟨by simp [PyData.showable,jS],by simp [PyData.hasDict,nY],by simp [PyData.depth,pQ],?_⟩;have h1:=oi (PyData.shownAll (zs.map PyData.str));have h2:=p_ zs hz;have e:(PyData.list (zs.map PyData.str)).shown=listText (PyData.shownAll (zs.map PyData.str)):=by simp [PyData.shown]
 rw [e];omega
def vI {K:aT}{H:Hp}{a:Addr}{zs:List Str}(h:aD K H a (zs.map V.str)):jL K H (.list (zs.map PyData.str)) (.ref a):=by
 have:∃b ys,V.ref a=.ref b/\aD K H b ys/\kI K H (zs.map PyData.str) ys:=⟨a,_,rfl,h,vK zs⟩;simpa [jL] using this
def sV (p:Nat×Nat):PyData:=.tuple [.int (p.1:Int),.int (p.2:Int)]
theorem lC:∀ps:List (Nat×Nat),(∀p∈ps,p.1<=1000/\p.2<=1000)->PyData.showableAll (ps.map sV)=true
 | [],_=>by simp [PyData.showableAll]
 | p::r,h=>by
  have l:∀n:Nat,n<=1000->((n:Int).natAbs.log2 < 1920):=λn hn=>by
   rw [Int.natAbs_natCast];by_cases z:n=0
   .subst z;decide
   exact(Nat.log2_lt z).mpr (pd hn (dA (show 1000 < 2 ^ 10 by decide) (Nat.pow_le_pow_right nofun nofun)))
  obtain⟨h1,h2⟩:=h p bZ;have i1:=l p.1 h1;have i2:=l p.2 h2;rw [Int.natAbs_natCast] at i1 i2;simp [PyData.showableAll,PyData.showable,sV,lC r (λx hx=>h x (bJ _ hx)),i1,i2]
theorem p8:∀ps:List (Nat×Nat),PyData.hasDictAll (ps.map sV)=false
 | []=>by simp [PyData.hasDictAll]
 | p::r=>by simp [PyData.hasDictAll,PyData.hasDict,sV,p8 r]
theorem r9:∀ps:List (Nat×Nat),PyData.depthAll (ps.map sV)<=1
 | []=>by simp [PyData.depthAll]
 | p::r=>by
  have:=r9 r;simp only [bw,PyData.depthAll,sV,PyData.depth];omega
def Jb {p:Nat×Nat}(h:p.1<=1000/\p.2<=1000):(sV p).shown.length<=100:=by
 have l:∀n:Nat,n<=1000->(Str.ofString (toString (n:Int))).length<=11:=λn hn=>by
  rw [PySem.ofString_length];exact int_text_length_le10 (k:=10) nofun (by rw [Int.natAbs_natCast];exact pd hn nofun)
 have e:(sV p).shown=tupleText [Str.ofString (toString (p.1:Int)),Str.ofString (toString (p.2:Int))]:=by simp [PyData.shown,PyData.shownAll,sV]
 rw [e];unfold tupleText;rw [ja,ja];have j:=join_length_add [Str.ofString (toString (p.1:Int)),Str.ofString (toString (p.2:Int))] (by simp);rw [piled_cons,piled_cons,piled_nil] at j;have h1:=l p.1 h.1;have h2:=l p.2 h.2;have e1:(("(":String):Str).length=1:=rfl;have e2:(((if [Str.ofString (toString (p.1:Int)),Str.ofString (toString (p.2:Int))].length == 1 then ",)" else ")":String):Str)).length<=2:=by split <;> decide
 rw [e1];omega
theorem r_:∀(ps:List (Nat×Nat)),(∀p∈ps,p.1<=1000/\p.2<=1000)->piled (PyData.shownAll (ps.map sV))<=102 * ps.length
 | [],_=>by simp [PyData.shownAll,piled_nil]
 | p::r,h=>by
  have ih:=r_ r λx hx=>h x (bJ _ hx);have h3:=Jb (h p bZ);rw [bw,dw];show piled (PyData.shown (sV p)::PyData.shownAll (r.map sV))<=_;rw [piled_cons];omega
def CN {ps:List (Nat×Nat)}(hl:ps.length<=1000)(hp:∀p∈ps,p.1<=1000/\p.2<=1000):EJ (.list (ps.map sV)):=by
 refine⟨by simp [PyData.showable,lC ps hp],by simp [PyData.hasDict,p8],by have:=r9 ps;simp only [PyData.depth];omega,?_⟩;have h1:=oi (PyData.shownAll (ps.map sV));have h2:=r_ ps hp;have e:(PyData.list (ps.map sV)).shown=listText (PyData.shownAll (ps.map sV)):=by simp [PyData.shown]
 rw [e];omega
theorem zR {K:aT}{H:Hp}:∀{ts:List Addr}{ps:List (Nat×Nat)},Paired (λt (p:Nat×Nat)=>aX K H t [.int (p.1:Int),.int (p.2:Int)]) ts ps->kI K H (ps.map sV) (ts.map V.ref)
 | [],[],_=>by simp [kI]
 | t::ts,p::ps,.cons a b=>by
  rw [bw,bw,kI];refine⟨_,_,rfl,?_,zR b⟩;have:∃b ys,V.ref t=.ref b/\aX K H b ys/\kI K H [.int (p.1:Int),.int (p.2:Int)] ys:=⟨t,_,rfl,a,by simp [kI,jL]⟩;rw [sV,jL];exact this
def Fw {K:aT}{H:Hp}{a:Addr}{ts:List Addr}{ps:List (Nat×Nat)}(h:aD K H a (ts.map V.ref))(hp:Paired (λt (p:Nat×Nat)=>aX K H t [.int (p.1:Int),.int (p.2:Int)]) ts ps):jL K H (.list (ps.map sV)) (.ref a):=by
 have:∃b ys,V.ref a=.ref b/\aD K H b ys/\kI K H (ps.map sV) ys:=⟨a,_,rfl,h,zR hp⟩;rw [jL];exact this
section
variable {X:Cx}{k:Nat}{f C W:Addr}{fd:FuncData}{ps:List Str}{sp:Sp}{ds:List Value}{dvs:List V}{x Cn n:Str}{a:Expr}{as:List Expr}{t:TA}{j:Nat}{b₀:Stmt}{Ck:List Stmt}{tb:TS}{p cp ap np hp pos:Pos}
def LY (K:Frag)(C:Addr)(sp:Sp)(dvs:List V)(W:Addr) (j:Nat)(t:TA)(tb:TS):TS:=λD σ H=>t σ H λvs H1=>∀x dx,H1 x=none->H1 dx=none->dx≠x ->
 sp (.ref x::(vs++dvs)) (upd (upd H1 dx (.own x)) x (.ins C dx [])) (λv H2=>v=.cU/\D.nx σ H2) λcls dx H'=>exmOne K cls (.ref W)=some true /\
  ∀ea,H' ea=some (rq ea cls dx)->tb { nx:=λσ' H''=>(∃v,σ'[j]?=some v)/\D.nx (σ'.set j none) H'',rt:=λ_ _=>False } (σ.set j (some (.ref ea))) H'
def FA (iU:X.stack=X.env::X.outer)(Zz:X.env.frame=some X.env.locals)(Y3:∀e s,¬X.xe e s)(M:Mk X.K C f)(F:bf X.prog X.w X.K X.mg X.base (jX X.prog X.w) k f fd ps sp)(hr:cX (k+1) X.A)(hg:Gl X x)(hm:X.mg x=some (.ref C))
  (hb:Binds X.K fd ps ds)(hd:aO dvs ds)(ha:PA X (a::as) t)(hN:X.N.Nodup)(Zx:Gl X Cn)(Zo:X.mg Cn=some (.ref W))(hj:X.N[j]?=some n)(hn:X.env.scope.names.lookup n=some .local)
  (Zh:∀ea,vo (X.hold ea) (b₀::Ck) tb)
  (qr:(x == ("__debug__":Str))=false:=by decide)(ZQ:(Cn == ("__debug__":Str))=false:=by decide)(he:starEach (a::as) X.env=(false,eval a X.env)::starEach as X.env:=by rfl)(ni:(backTo cp (starEach as X.env)).any (·.1)=false:=by rfl)
  (hs:swapsWith (.Call (.Name x p) (a::as) [] cp) none ap.line X.env=pure false:=by rfl) :
  PS X (.Try [.Expr (.Call (.Name x p) (a::as) [] cp) ap] [.ExceptHandler (some (.Name Cn np)) (some n) (b₀::Ck) hp] [] [] pos) (LY X.K C sp dvs W j t tb):=by
 intro af s σ H D I h;refine wpAny_Try_except (wpAny_execs_cons (wpAny_Expr_any ?_ I.quiet hs));refine kQ (iF I hg hm ?_ qr);refine callWith_K (h₀:=X.base) I.ok.mod.Jw M.kp (bY (ha cp af s σ H _ I h) (λus s1 aR=>?_) λe s' z=>absurd z (Y3 e s')) he ni;obtain⟨vs,H1,I1,r,q⟩:=aR;refine⟨I1.jI,?_⟩;have hq:=q (s1.heap.objs.size+1) s1.heap.objs.size (I1.bo.fresh (iX _)) (I1.bo.fresh (aH _)) (a_ (kP _));have I2:=Inv.made (C:=C) I1;have r2:aO (V.ref (s1.heap.objs.size+1)::(vs++dvs)) (Value.ref (s1.heap.objs.size+1)::(us++ds)):=.cons rfl (r.append hd);have hl:(Value.ref (s1.heap.objs.size+1)::us++ds).length=ps.length:=by
  have e:=r2.length;rw [F.len _ _ _ _ hq] at e;exact e.symm
 refine gN (v7 (f:=f) I1.jI M.makes M.init (beq_iff_eq.mp M.fn) (iw (F.run _ X.stack _ _ ⟨Value.ref (s1.heap.objs.size+1)::us,[]⟩ (Value.ref (s1.heap.objs.size+1)::(us++ds)) _ _ _ (hr.make C us [])
  (I2.Eg.make C us []) (hb _ (Value.ref (s1.heap.objs.size+1)::us) I2.jI hl) r2 hq) λr' s' z=>?_))
 cases r' with
 | ok fl =>
  cases fl with
  | next=>exact False.elim z
  | brk=>exact False.elim z
  | cont=>exact False.elim z
  | ret u =>
   obtain⟨v,H',I3,rv,ev,q3⟩:=I2.after z;subst ev;exact⟨rv,ml (ml ⟨_,H',I3,q3⟩)⟩
 | error e =>
  obtain⟨ea,cls,dx,H',rfl,os,bare,un,bo,⟨T0,vm,t1,t2,t3,t4⟩,hex,q⟩:=z;have J:=I2.An (ch:=[]) os un bo bare (λb z=>absurd z (by simp));have fr:X.A.frames=some (X.env::X.outer):=by rw [<-iU];exact I.ok.frames
  have G8:=J.stack;rw [iU] at G8;refine sr fr G8 Zz vm λh1 T m1 lT F1=>kr (fs:=oF X.stack) F1 λh2 m2 F2=>?_;rw [<-iU] at m1;have nT:=J.bo.fresh lT;have J1:=J.moved (cs:=[T0]) m1 t2 F1 (λb hb=>by obtain rfl:b=T0:=(by simpa using hb);exact⟨t1,I2.away t3⟩);have J2:=J1.moved (cs:=[T]) (m2.mono λb hb=>bJ _ hb) t2 F2 (λb hb=>by obtain rfl:b=T:=(by simpa using hb);exact⟨nT,J.away lT⟩);refine wpAny_handleBy_cons (codeAny_handlers_test (iF (X:=X.hold ea) (J2.hold ea) Zx Zo ?_ ZQ)) (by intro z;cases z);have lk:Looks (model X.prog X.w) h2 (typeOf (.ref ea)) cls:=by
   obtain⟨oe,_,_,_,he,hc,_⟩:=F2;rw [<-hc];exact(Looks.ld he).andThen .now
  refine Looks.here (s:={ { { s' with heap:=h1 } with heap:=h2 } with heap:=h2 }) (exm_one J2.jI lk hex) ?_;refine codeAny_handlers_suite_as (kr (fs:=oF X.stack) F2 λh3 m3 F3=>?_);have J3:=J2.moved (cs:=[T]) (m3.mono λb hb=>bJ _ hb) t2 F3 (λb hb=>by obtain rfl:b=T:=(by simpa using hb);exact⟨nT,J.away lT⟩);refine jf (X:=X.hold ea) (v:=.ref ea) (J3.hold ea) hN hj (.inl hn) rfl (λs4 I4=>?_) (.inr hn);refine bY (Zh ea af s4 _ H' _ I4 (q ea t2)) (λfl s5 z=>?_) λ_ _ z=>False.elim z;cases fl with
  | brk=>obtain⟨_,_,_,z⟩:=z;exact False.elim z
  | cont=>obtain⟨_,_,_,z⟩:=z;exact False.elim z
  | ret u=>obtain⟨_,_,_,_,_,z⟩:=z;exact False.elim z
  | next =>
   obtain⟨σ5,H5,I5,⟨v5,e5⟩,q5⟩:=z;have K5:Inv X af σ5 H5 s5:=Inv.Iy (ok:=I.ok) I5;refine ax (wpAny_bindName (jf (v:=.cU) K5 hN hj (.inl hn) rfl (λs6 I6=>?_) (.inr hn)));unfold unbindBehindTheSuite;refine wpAny_onRaise (AA (v:=.cU) I6 hN hj hn ?_ λs7 I7=>?_)
   .exact uh (ba.mp e5).1
   rw [List.set_set] at I7;exact⟨_,H5,I7,q5⟩
end
end L2
namespace eG
open PySem L2 M11 PySem.W
abbrev pW:Stmt:=Hs (top 14) 0
abbrev xJ:Stmt:=Hs (top 15) 0
abbrev xQ:Stmt:=Hs (top 16) 0
abbrev BG:List Value:=[.type "ValueError",.type "Exception",.type "BaseException",.type "object"]
structure LL (K:Frag)(mg:Str->Option Value)(nm fld:Str)(C W fI:Addr):Prop where
 x:Fg K C fI BG "ValueError.__new__"=true
 kp:keepIn K (.ref C)=true
 mC:mg nm=some (.ref C)
 mW:mg "WrightError"=some (.ref W)
 xc:∃cd,XC K C cd
 tk:takerIn K C fld=some none
 bi:BI K W "ValueError.__init__"
 fn:∃oI,K.lookup fI=some oI/\oI.cls=.type "function"
section
variable {P:Program}{w:World}{K:aT}{mg:Str->Option Value}{base:Heap}{f C W:Addr}{fd:FuncData}
def Ca {A:Around}{k n:Nat}(hr:cX k A)(h:n<=16 * k+200):A.units+n < cLine:=by have:=hr.un;omega
def kW (K:Frag)(C:Addr)(fld:Str):Sp:=λvs H Q _=>∃(ea l:Addr)(xs:List V)(d:PyData),vs=[.ref ea,.ref l]/\aD K H l xs/\jL K H d (.ref l)/\EJ d/\H ea=some (newX ea C none) /\
 ∀m dx,H m=none->dx≠m->H dx=none->dx≠ea->Q .cU (upd (upd (upd H m (.lst xs)) dx (.xd [(fld,.ref m)])) ea (newX ea C (some dx)))
def AJ:aJ ["self","names"] ["self","names"] (au pW):=ju rfl rfl rfl rfl nofun
def yp (F:iq K "__init__" "Endless.__init__" pW f fd)(T:Txt mg)(N:LL K mg "Endless" "names" C W f):bf P w K mg base fk 1 f fd ["self","names"] (kW K C "names"):=by
 refine F.ok AJ (λvs H Q E h=>?_) (λdr A outer s H vs Q E hr h=>?_)
 .obtain⟨ea,l,xs,d,rfl,_⟩:=h;rfl
 obtain⟨ea,l,xs,d,rfl,hl,hd,ok,eH,q⟩:=h;refine⟨_,aj (cD (qa uk N.bi rfl N.mW (ah (pv 0) (ah (uK hr.gd (Ca (n:=8) hr nofun) (pv 1) nofun) ak))))
  (aq (uJ (pv 0) (aY d7 rfl T.lst eB (ah (pv 1) ak)) rfl)),?_⟩
 obtain⟨cd,xc⟩:=N.xc;refine⟨_,rfl,_,rfl,l,d,rfl,hd,ok,λy=>⟨ea,C,f,none,_,rfl,eH,N.x,?_⟩⟩;refine⟨_,rfl,l,_,rfl,.inl hl,λm hm=>?_⟩;have nm:ea≠m:=λz=>by rw [<-z,eH] at hm;cases hm
 exact⟨_,rfl,ea,C,cd,rfl,(by rw [ai nm];exact eH),xc,N.tk,λdx h1 h2=>q m dx hm (λz=>by rw [z,ae] at h1;cases h1) (by rw [ai (λz=>by rw [z,ae] at h1;cases h1)] at h1;exact h1) h2⟩
def Cw:aJ ["self","names"] ["self","names"] (au xJ):=ju rfl rfl rfl rfl nofun
def AR (F:iq K "__init__" "Unmet.__init__" xJ f fd)(T:Txt mg)(N:LL K mg "Unmet" "names" C W f):bf P w K mg base fk 1 f fd ["self","names"] (kW K C "names"):=by
 refine F.ok Cw (λvs H Q E h=>?_) (λdr A outer s H vs Q E hr h=>?_)
 .obtain⟨ea,l,xs,d,rfl,_⟩:=h;rfl
 obtain⟨ea,l,xs,d,rfl,hl,hd,ok,eH,q⟩:=h;refine⟨_,aj (cD (qa uk N.bi rfl N.mW (ah (pv 0) (ah (uK hr.gd (Ca (n:=8) hr nofun) (pv 1) nofun) ak))))
  (aq (uJ (pv 0) (aY d7 rfl T.lst eB (ah (pv 1) ak)) rfl)),?_⟩
 obtain⟨cd,xc⟩:=N.xc;refine⟨_,rfl,_,rfl,l,d,rfl,hd,ok,λy=>⟨ea,C,f,none,_,rfl,eH,N.x,?_⟩⟩;refine⟨_,rfl,l,_,rfl,.inl hl,λm hm=>?_⟩;have nm:ea≠m:=λz=>by rw [<-z,eH] at hm;cases hm
 exact⟨_,rfl,ea,C,cd,rfl,(by rw [ai nm];exact eH),xc,N.tk,λdx h1 h2=>q m dx hm (λz=>by rw [z,ae] at h1;cases h1) (by rw [ai (λz=>by rw [z,ae] at h1;cases h1)] at h1;exact h1) h2⟩
def Fo:aJ ["self","steps"] ["self","steps"] (au xQ):=ju rfl rfl rfl rfl nofun
def Dm (F:iq K "__init__" "Loop.__init__" xQ f fd)(T:Txt mg)(N:LL K mg "Loop" "steps" C W f):bf P w K mg base fk 1 f fd ["self","steps"] (kW K C "steps"):=by
 refine F.ok Fo (λvs H Q E h=>?_) (λdr A outer s H vs Q E hr h=>?_)
 .obtain⟨ea,l,xs,d,rfl,_⟩:=h;rfl
 obtain⟨ea,l,xs,d,rfl,hl,hd,ok,eH,q⟩:=h;refine⟨_,aj (cD (qa uk N.bi rfl N.mW (ah (pv 0) (ah (uK hr.gd (Ca (n:=8) hr nofun) (pv 1) nofun) ak))))
  (aq (uJ (pv 0) (aY d7 rfl T.lst eB (ah (pv 1) ak)) rfl)),?_⟩
 obtain⟨cd,xc⟩:=N.xc;refine⟨_,rfl,_,rfl,l,d,rfl,hd,ok,λy=>⟨ea,C,f,none,_,rfl,eH,N.x,?_⟩⟩;refine⟨_,rfl,l,_,rfl,.inl hl,λm hm=>?_⟩;have nm:ea≠m:=λz=>by rw [<-z,eH] at hm;cases hm
 exact⟨_,rfl,ea,C,cd,rfl,(by rw [ai nm];exact eH),xc,N.tk,λdx h1 h2=>q m dx hm (λz=>by rw [z,ae] at h1;cases h1) (by rw [ai (λz=>by rw [z,ae] at h1;cases h1)] at h1;exact h1) h2⟩
end
end eG
namespace L2
open PySem PySem.Spec PyProof.Rows PySem.W
def L_ (te:TE):TE:=λσ H Q=>∃R:VK,te σ H R/\∀v H1,R v H1->Q v H1
def PE.mono {X:Cx}{e:Expr}{te:TE}(h:PE X e te):PE X e (L_ te):=λaf s σ H Q I ⟨R,q,m⟩=>b8 (h af s σ H R I q) λu s1 ⟨x,H1,I1,r1,q1⟩=>⟨x,H1,I1,r1,m _ _ q1⟩
section
variable {P:Program}{w:World}{K:Frag}{mg:Str->Option Value}{base:Heap}{CX:tJ}{k:Nat}{f:Addr}{fd:FuncData}{ps:List Str}{sp Ms:Sp}
def bf.ex (G:bf P w K mg base fk k f fd ps sp):bf P w K mg base CX k f fd ps sp :=
 ⟨G.len,λA outer s H args us vs Q E hr he hb hv hs=>iw (G.run A outer s H args us vs Q E hr he hb hv hs) λr s' z=>by
  cases r with
  | error e=>exact False.elim z
  | ok fl=>cases fl <;> exact z⟩
def bf.or (G:bf P w K mg base CX k f fd ps sp)(G':bf P w K mg base CX k f fd ps Ms):bf P w K mg base CX k f fd ps (λvs H Q E=>sp vs H Q E\/Ms vs H Q E) :=
 ⟨λvs H Q E h=>h.elim (G.len vs H Q E) (G'.len vs H Q E),λA outer s H args us vs Q E hr he hb hv hs=>hs.elim (G.run A outer s H args us vs Q E hr he hb hv) (G'.run A outer s H args us vs Q E hr he hb hv)⟩
end
mutual
theorem vJ {K:aT}{H H':Hp}(s:aB H H'):∀{d:PyData}{v:V},jL K H d v->jL K H' d v
 | .str x,v,h=>by simpa [jL] using h
 | .int i,v,h=>by simpa [jL] using h
 | .list xs,v,h=>by
  obtain⟨a,ys,e,hq,ha⟩:=(show ∃a ys,v=.ref a/\aD K H a ys/\kI K H xs ys by simpa [jL] using h);have:∃a ys,v=.ref a/\aD K H' a ys/\kI K H' xs ys:=⟨a,ys,e,s.seq hq,p5 s ha⟩;rw [jL];exact this
 | .tuple xs,v,h=>by
  obtain⟨a,ys,e,hq,ha⟩:=(show ∃a ys,v=.ref a/\aX K H a ys/\kI K H xs ys by simpa [jL] using h);have:∃a ys,v=.ref a/\aX K H' a ys/\kI K H' xs ys:=⟨a,ys,e,s.tup hq,p5 s ha⟩;rw [jL];exact this
 | .none,v,h=>absurd h (by simp [jL])
 | .bool _,v,h=>absurd h (by simp [jL])
 | .dict _,v,h=>absurd h (by simp [jL])
theorem p5 {K:aT}{H H':Hp}(s:aB H H'):∀{ds:List PyData}{ys:List V},kI K H ds ys->kI K H' ds ys
 | [],ys,h=>by simpa [kI] using h
 | d::ds,ys,h=>by
  obtain⟨y,r,e,h1,h2⟩:=(show ∃y r,ys=y::r/\jL K H d y/\kI K H ds r by simpa [kI] using h);rw [kI];exact⟨y,r,e,vJ s h1,p5 s h2⟩
end
end L2
namespace eG
open PySem L2 M11 PySem.W
def OP (P:Program)(w:World)(K:Frag)(mg:Str->Option Value)(base:Heap)(nm fld:Str)(C:Addr):Prop :=
 ∃W fI fd,LL K mg nm fld C W fI/\bf P w K mg base fk 1 fI fd ["self",fld] (kW K C fld)/\Binds K fd ["self",fld] []
def ON (C:Addr)(fld:Str)(H:Hp)(E:XK)(xs:List V):Prop:=∀m dx H',aB H H'->H' dx=some (.xd [(fld,.ref m)])->H' m=some (.lst xs)->E (.ref C) (some dx) H'
section
variable {P:Program}{w:World}{K:Frag}{mg:Str->Option Value}{base:Heap}{N:List Str}{qual:Str}{scope:Scope}{f C:Addr}{cd:Value}{A:Around}{outer:List Env}{s₀:Shared}{H₀:Hp}{E:XK}
def QB (K:Frag)(C:Addr)(fld:Str)(E:XK)(te:TE):TS:=λ_ σ H=>te σ H λv H1=>∃l xs d,v=.ref l/\aD K H1 l xs/\jL K H1 d (.ref l)/\EJ d/\ON C fld H1 E xs
def yc {nm fld:Str}{e:Expr}{te:TE}{p cp pos:Pos}(R:OP P w K mg base nm fld C)(hr:cX 2 (d6 (jX P w) P w K mg base N qual scope f cd A outer s₀ H₀ E).A)(hg:Gl (d6 (jX P w) P w K mg base N qual scope f cd A outer s₀ H₀ E) nm)
  (he:PE (d6 (jX P w) P w K mg base N qual scope f cd A outer s₀ H₀ E) e te)(qr:(nm == ("__debug__":Str))=false:=by decide)(iU:starEach [e] (d6 (jX P w) P w K mg base N qual scope f cd A outer s₀ H₀ E).env=(false,eval e (d6 (jX P w) P w K mg base N qual scope f cd A outer s₀ H₀ E).env)::starEach [] (d6 (jX P w) P w K mg base N qual scope f cd A outer s₀ H₀ E).env:=by rfl) :
  PS (d6 (jX P w) P w K mg base N qual scope f cd A outer s₀ H₀ E) (.Raise (some (.Call (.Name nm p) [e] [] cp)) none pos) (QB K C fld E te):=by
 obtain⟨W,fI,fd,Nn,G,b⟩:=R;obtain⟨oI,lk,Gf⟩:=Nn.fn;have raise:=CT (pos:=pos) (MI (p:=p) (pos:=cp) uk Nn.x lk Gf Nn.kp G (by show 2<=1000;decide) hr hg Nn.mC b sf (ah he.mono ak iU) qr iU rfl);intro af s σ H D I h;refine raise af s σ H D I ⟨_,h,λv H1 aR=>?_⟩;obtain⟨l,xs,d,ev,hq,hd,ok,q⟩:=aR;subst ev;intro ea h1 h2;have ka:=ag h1 (newX ea C none);refine⟨ea,l,xs,d,rfl,ka.seq hq,?_,ok,ae,λm dx hm X6 Lm Ru=>⟨rfl,ea,C,some dx,fI,BG,_,rfl,ae,h2,Nn.x,nofun,?_⟩⟩
 .exact vJ ka hd
 have Ro:m≠ea:=λz=>by rw [z,ae] at hm;cases hm
 have NH:H1 m=none:=by rw [ai Ro] at hm;exact hm
 have NV:H1 dx=none:=by rw [ai Ru] at Lm;exact Lm
 refine q m dx _ (λc o e=>?_) ?_ ?_
 .have n1:c≠ea:=ao e h1;have n2:c≠dx:=ao e NV;have n3:c≠m:=ao e NH;rw [ai n1,ai n1,ai n2,ai n3,ai n1];exact e
 .rw [ai Ru,ai Ru,ae]
 rw [ai Ro,ai Ro,ai (du X6),ae]
end
end eG
namespace L2
open PySem
def sW {K:aT}{H:Hp}{p D:Addr}{zs:List Str}{σ:St}{js:List (Nat×Str)}{cs:List (Option V)}{tif:TT}{Qp:Hp->Prop}(f:Str->Bool)(hσ:cZ ["name"] js σ=none::cs)(hp:aD K H p (zs.map V.str))(hz:zs.length<=1000)(hD:H D=none)
  (ht:∀z∈zs,∀H2 Q,aB H H2->Q (f z) H2->tif (some (.str z)::cs) H2 Q)(q:∀H2,aB H H2->H2 D=some (.lst ((zs.filter f).map V.str))->Qp H2) :
  ∃W:Nat->Nat->List V->St->Hp->Prop,(∃m,W 0 m [] (cZ ["name"] js σ) (upd H D (.lst []))) /\
 ∀i m ys σ' H,W i m ys σ' H->((iS K p).stop i H/\Qp H)\/((iS K p).go i H/\∃m',m' < m/\∀x H',(iS K p).kA i H x H'->cY 0 x σ' H' λσ2 H2=>tif σ2 H2 λb H3 =>
  if b=true then e_ 0 σ2 H3 λy H4=>H4 D=some (.lst ys)/\ys.length < sizeLine/\W (i+1) m' (ys++[y]) σ2 (upd H4 D (.lst (ys++[y]))) else W (i+1) m' ys σ2 H3):=by
 refine bH (xs:=zs.map V.str) (λi ys σ2 H5=>ys=((zs.take i).filter f).map V.str/\(∃y0,σ2=y0::cs)/\aB H H5/\H5 D=some (.lst ys)) ⟨rfl,⟨none,hσ⟩,ag hD _,ae⟩ (λi ys σ2 H5 _ h=>h.2.2.1.seq hp) (λi x ys σ2 H5 ex h=>?_) (λys σ2 H5 h=>?_)
 .obtain⟨rfl,⟨y0,rfl⟩,s5,e5⟩:=h;rw [bh] at ex;obtain⟨z,ez,rfl⟩:=bR.mp ex;have li:=(ba.mp ez).1;have lf:((zs.take i).filter f).length<=1000:=cz (iM _ _) (by rw [dI];omega);have tk:(zs.take (i+1)).filter f=(zs.take i).filter f++if f z=true then [z] else []:=by
   rw [cu,ez,kR]
   congr 1
   show List.filter f [z]=_;rw [iZ];rfl
  refine goN ?_;refine ht z (cR ez) H5 _ s5 ?_;refine dW (λc=>?_) (λc=>?_)
  .refine⟨_,rfl,e5,bA (by rw [az];omega),by rw [tk,aw c,br];rfl,⟨_,rfl⟩,λb o hb=>?_,ae⟩;rw [ai (λz=>by rw [z,hD] at hb;cases hb)];exact s5 b o hb
  exact⟨by rw [tk,ay c,eX],⟨_,rfl⟩,s5,e5⟩
 obtain⟨rfl,_,s5,e5⟩:=h;rw [az,cb] at e5;exact q H5 s5 e5
end L2
namespace eG
open PySem L2 M11 PySem.W
section
def Q9 {x qual:Str}{st:Stmt}{N ps:List Str}{k:Nat}{sp:Sp}(F:iq K x qual st f fd)(S:aJ N ps (au st))(len:∀vs H Q E,sp vs H Q E->vs.length=ps.length)
  (gb:∀(dr:Value)(A:Around)(outer:List Env)(s:Shared)(H:Hp)(vs:List V)(Q:VK)(E:XK),cX k (A.deeper (PyProof.Rows.envOfC qual (au st) s.heap.objs.size f dr))->sp vs H Q E ->
   ∃t,vo (d6 (jX P w) P w K mg base N qual (au st) f dr A outer s H E) (bB st) t/\t { nx:=λ_ H'=>Q .cU H',rt:=Q } (start N vs) H):bf P w K mg base (jX P w) (k+1) f fd ps sp:=by
 obtain⟨oc,od,kV,doc,pm,an,dr,ct,uM,rfl,lk,qv⟩:=F.ex;exact wq lk qv S len λA outer s H vs Q E hr sM=>gb dr A outer s H vs Q E hr sM
def zG (K:aT):Sp:=λvs H Q _=>∃(R:Addr)(rs:List Addr)(aa:List av),vs=[.ref R]/\aD K H R (rs.map V.ref)/\bN K H rs aa/\aa.length<=1000/\(∀ru∈aa,ru.2.length<=8) /\
 ∀D H',H D=none->aB H H'->(∀rk,iJ aa rk->H' D=some (.lst [])->Q (.ref D) H')/\∀(t:Addr)(ts:List Addr)(ps:List (Nat×Nat)),H' D=some (.lst ((t::ts).map V.ref))->Paired (λt (p:Nat×Nat)=>aX K H' t [.int (p.1:Int),.int (p.2:Int)]) (t::ts) ps->(∀p∈ps,p.1<=1000/\p.2<=1000)->ps.length<=1000->Q (.ref D) H'
structure BR (aa:List av):Prop where
 least:∀g,bU M11.bl aa (jB aa) g->cQ M11.bl aa g->∀h n,g h=some n->h∈hd aa->n<=60
 great:∀rk,iJ aa rk->∃b,qY aa b/\∀h∈hd aa,b h<=60
def mK (K:aT)(T1 T2 CE CU CL:Addr):Sp:=λvs H Q E=>∃(R S:Addr)(rs ss:List Addr)(aa str:List av)(cW:av),vs=[.ref R,.ref S]/\aD K H R (rs.map V.ref)/\bN K H rs aa/\aa.length<=1000/\(∀ru∈aa,ru.2.length<=8)/\aa[0]?=some cW/\(∀h∈hd aa,l8 h) /\
 aD K H S (ss.map V.ref)/\bN K H ss str/\str.length<=1000/\(∀ru∈str,ru.2.length<=8)/\(str.flatMap (·.2)).Nodup/\BR aa/\Tab T1 qg.2.2.2 w6 H/\Tab T2 yD.2.2.2 Ht H/\T1≠T2 /\
 ∀H',jW T1 T2 H H'->Tab T1 qg.2.2.2 w6 H'->Tab T2 yD.2.2.2 Ht H'->∀g,bU M11.bl aa (jB aa) g->cQ M11.bl aa g ->
  (∀ms rk,cW.1∈ms->(∀x∈ms,qT aa cW.1 x)->jx aa aa.length ms->(∀h∈hd aa,∃n,g h=some n)->(∀h∈hd aa,h∈ms)->iJ aa rk->Q .cU H') /\
  (∀m dx,(hd aa).filter (λh=>(g h).isNone)≠[]->H' dx=some (.xd [("names",.ref m)])->H' m=some (.lst (((hd aa).filter λh=>(g h).isNone).map V.str))->E (.ref CE) (some dx) H') /\
  (∀ms m dx,cW.1∈ms->(∀x∈ms,qT aa cW.1 x)->jx aa aa.length ms->(∀h∈hd aa,∃n,g h=some n)->(hd aa).filter (λh=>!decide (h∈ms))≠[]->H' dx=some (.xd [("names",.ref m)])->H' m=some (.lst (((hd aa).filter λh=>!decide (h∈ms)).map V.str))->E (.ref CU) (some dx) H') /\
  (∀ms m dx xs,cW.1∈ms->(∀x∈ms,qT aa cW.1 x)->jx aa aa.length ms->(∀h∈hd aa,∃n,g h=some n)->(∀h∈hd aa,h∈ms)->H' dx=some (.xd [("steps",.ref m)])->H' m=some (.lst xs)->E (.ref CL) (some dx) H')
def ym {T1 T2 CE CU CL:Addr}{tm:Tok}(F:iq K "refuse_faults" "refuse_faults" uC f fd)(T:Txt mg)(hM:mg "MOST_RULES"=some (.int 60 tm))(RE:OP P w K mg base "Endless" "names" CE)(RU:OP P w K mg base "Unmet" "names" CU)(RL:OP P w K mg base "Loop" "steps" CL)(GT:aM P w K mg base 1 "refuse_twice" ["strengths"] (zB K))(GL:aM P w K mg base 3 "least_sizes" ["rules"] (oQ K T1))
  (GH:aM P w K mg base 1 "heads_of" ["rules"] (jy K))(GM:aM P w K mg base 1 "names_met" ["rules"] (G_ K))(GF:aM P w K mg base 3 "find_loop" ["rules"] (zG K))(GG:aM P w K mg base 3 "greatest_empty_sizes" ["rules"] (uv K T2)) :
  bf P w K mg base (jX P w) 4 f fd ["rules","strengths"] (mK K T1 T2 CE CU CL):=by
 refine Q9 F fY (λvs H Q E h=>?_) (λdr A outer s H vs Q E hr h=>?_)
 .obtain⟨R,S,rs,ss,aa,str,cW,rfl,_⟩:=h;rfl
 obtain⟨R,S,rs,ss,aa,str,cW,rfl,hR,df,aZ,h8,vk,Li,hS,Lj,Se,Si,Sh,bd,Gg,PQ,nT,q⟩:=h;have hu:=f_ hr;refine⟨_,aj (de (yb (hW (pv 0) (λ_=>rfl))) (aq p6) bx)
  (aj (cD (cv (GT.mono (by decide:1<=3)) hr rfl (ah (pv 1) ak)))
  (aj (aI (i:=2) fY.nd rfl (Or.inr rfl) (cv GL hr rfl (ah (pv 0) ak)))
  (aj (gS (iy:=3) ["name"] [(2,"least")] fY.nd rfl rfl rfl (a8 (cv (GH.mono (by decide:1<=3)) hr rfl (ah (pv 0) ak))) (a9 rfl rfl) nofun rfl nofun
   (λ_ _ _ _ _=>ar (i:=0) (show (["name","least"]:List Str).Nodup by decide +kernel) rfl (bM rfl)) (λ_ _ _ _ _=>fO (eI (dH hu (pv 0) (pv 1)))) (λ_ _ _ _ _=>pv 0))
  (aj (de (hW (pv 3) (λ_=>rfl)) (aq (yc RE (hr.mono nofun) rfl (pv 3))) bx)
  (aj (aI (i:=4) fY.nd rfl (Or.inr rfl) (cv (GM.mono (by decide:1<=3)) hr rfl (ah (pv 0) ak)))
  (aj (gS (iy:=5) ["name"] [(4,"met")] fY.nd rfl rfl rfl (a8 (cv (GH.mono (by decide:1<=3)) hr rfl (ah (pv 0) ak))) (a9 rfl rfl) nofun rfl nofun
   (λ_ _ _ _ _=>ar (i:=0) (show (["name","met"]:List Str).Nodup by decide +kernel) rfl (bM rfl)) (λ_ _ _ _ _=>fO (eI (dH hu (pv 0) (pv 1)))) (λ_ _ _ _ _=>pv 0))
  (aj (de (hW (pv 5) (λ_=>rfl)) (aq (yc RU (hr.mono nofun) rfl (pv 5))) bx)
  (aj (aI (i:=6) fY.nd rfl (bM rfl) (cv GF hr rfl (ah (pv 0) ak)))
  (aj (de (hW (pv 6) (λ_=>rfl)) (aq (yc RL (hr.mono nofun) rfl (pv 6))) bx)
  (aj (aI (i:=7) fY.nd rfl (Or.inr rfl) (cv GG hr rfl (ah (pv 0) ak)))
  (aj (gS (iy:=8) ["name"] [(2,"least"),(7,"greatest")] fY.nd rfl rfl rfl (a8 (cv (GH.mono (by decide:1<=3)) hr rfl (ah (pv 0) ak))) (a9 rfl rfl) nofun rfl nofun
   (λ_ _ _ _ _=>ar (i:=0) (show (["name","least","greatest"]:List Str).Nodup by decide +kernel) rfl (bM rfl)) (λ_ _ _ _ _=>fO (bT Dc (bL (BA rfl) rfl T.max PyProof.Rows.boot_max (ah (dY hu (pv 1) (pv 0) (λ_ _=>rfl)) (ah (C6 hu (pv 2) (pv 0) aA ⟨rfl,rfl,rfl,rfl⟩) ak))) (lH (v:=.int 60) rfl hM ⟨tm,rfl⟩) (cE _))) (λ_ _ _ _ _=>pv 0))
  (aq (de (hW (pv 8) (λ_=>rfl)) (aq p6) bx))))))))))))),?_⟩
 have ll:=bF df;have A5:(hd aa).length<=1000:=by
  have:=fg (aa.map (·.1)) [];rw [gO,az] at this;show (jK [] (aa.map (·.1))).length<=1000;omega
 have eR:(rs.map V.ref).isEmpty=false:=by
  have l0:=(ba.mp vk).1;cases rs with
  | nil=>simp at ll;omega
  | cons a r=>rfl
 refine⟨_,rfl,true,.inl ⟨_,hR,by rw [eR];rfl⟩,?_⟩;refine gM ?_;refine⟨_,rfl,S,ss,str,rfl,hS,Lj,Se,Si,Sh,λH1 s1=>?_⟩;have O_:=Gg.same s1;have Xw:=PQ.same s1;refine⟨_,rfl,R,rs,aa,rfl,s1.seq hR,df.same s1,aZ,h8,O_,λdl kl ksl gl H2 fl s2 U3 el kkl vl QN sel _=>?_⟩;have Gh:=zO s2 O_ (s1.seq hR);have Bc:=(df.same s1).keep λ_ _ z=>zo s2 O_ z;have U1:=zq s2 O_ Xw nT.symm;have W5:jW T1 T2 H H2:=λb o n1 _ hb=>s2 b o n1 (s1 b o hb);have out:∀H',aB H2 H'->_:=λH' s'=>q H' (λb o n1 n2 hb=>s' b o (W5 b o n1 n2 hb)) (U3.same s') (U1.same s') gl QN sel;refine⟨_,rfl,R,rs,aa,rfl,Gh,Bc,aZ,λD3 H3 f3 s3 e3=>⟨D3,rfl,⟨_,aD.of e3⟩,λD4 Tf=>sW (λz=>(gl z).isNone) rfl (aD.of e3) A5 Tf (λz hz H' Q' s' hQ=>?_) λH4 s4 e4=>?_⟩⟩
 .have hg:bV H' dl (.str z) ((gl z).map V.int):=by
   have:=bV.k (k:=Sum.inr z) (s' _ _ (s3 _ _ el));rw [vl] at this;exact this
  refine⟨_,rfl,_,rfl,dl,_,rfl,hg,_,rfl,?_⟩;rw [show (!((gl z).map V.int).isSome)=(gl z).isNone by cases gl z <;> rfl]
  exact hQ
 have Hf:=s3.trans s4;have e4:H4 D4=some (.lst (((hd aa).filter λh=>(gl h).isNone).map V.str)):=e4;cases hf:(hd aa).filter (λh=>(gl h).isNone) with
 | cons e0 er =>
  rw [hf] at e4;refine⟨_,rfl,true,.inl ⟨_,aD.of e4,rfl⟩,?_⟩;refine qm ?_;have sub:∀z∈e0::er,z∈hd aa:=λz hz=>by rw [<-hf] at hz;exact(fS.mp hz).1
  have ln:(e0::er).length<=1000:=by rw [<-hf];exact cz (iM _ _) A5
  exact⟨_,rfl,D4,_,_,rfl,aD.of e4,vI (aD.of e4),rY ln (λz hz=>Li z (sub z hz)),λm dx H' s' Ek em=>(out H' (Hf.trans s')).2.1 m dx (by rw [hf];exact λy=>by cases y) Ek (by rw [hf];exact em)⟩
 | nil =>
 rw [hf] at e4;have hl:∀h∈hd aa,∃n,gl h=some n:=λh hh=>by
  cases e:gl h with
  | some n=>exact⟨n,rfl⟩
  | none =>
   have:h∈(hd aa).filter (λh=>(gl h).isNone):=fS.mpr ⟨hh,by rw [e];rfl⟩;rw [hf] at this;cases this
 refine⟨_,rfl,false,.inl ⟨[],aD.of e4,rfl⟩,?_⟩;refine gM ?_;refine⟨_,rfl,R,rs,aa,cW,rfl,Hf.seq Gh,Bc.same Hf,vk,aZ,h8,λdm km ms H5 f5 s5 em YV vD K7 MX=>?_⟩;have QU:=Hf.trans s5;refine⟨_,rfl,R,rs,aa,rfl,QU.seq Gh,Bc.same QU,aZ,λD6 H6 f6 s6 e6=>⟨D6,rfl,⟨_,aD.of e6⟩,λD7 N3=>sW (λz=>!decide (z∈ms)) rfl (aD.of e6) A5 N3 (λz hz H' Q' s' hQ=>?_) λH7 s7 e7=>?_⟩⟩
 .refine⟨_,rfl,_,rfl,dm,_,rfl,bV.k (k:=Sum.inr z) (s' _ _ (s6 _ _ em)),_,rfl,?_⟩;rw [show (aV km (Sum.inr z)).isSome=decide (z∈ms) by rw [jO,dM,YV,decide_eq_true_iff];exact cw];exact hQ
 have Mz:=(QU.trans s6).trans s7;have e7:H7 D7=some (.lst (((hd aa).filter λh=>!decide (h∈ms)).map V.str)):=e7;cases Bh:(hd aa).filter (λh=>!decide (h∈ms)) with
 | cons e0 er =>
  rw [Bh] at e7;refine⟨_,rfl,true,.inl ⟨_,aD.of e7,rfl⟩,?_⟩;refine qm ?_;have sub:∀z∈e0::er,z∈hd aa:=λz hz=>by rw [<-Bh] at hz;exact(fS.mp hz).1
  have ln:(e0::er).length<=1000:=by rw [<-Bh];exact cz (iM _ _) A5
  exact⟨_,rfl,D7,_,_,rfl,aD.of e7,vI (aD.of e7),rY ln (λz hz=>Li z (sub z hz)),λm dx H' s' Ek TK=>(out H' (Mz.trans s')).2.2.1 ms m dx vD K7 MX hl (by rw [Bh];exact λy=>by cases y) Ek (by rw [Bh];exact TK)⟩
 | nil =>
 rw [Bh] at e7;have JM:∀h∈hd aa,h∈ms:=λh hh=>Classical.byContradiction λn=>by
  have:h∈(hd aa).filter (λh=>!decide (h∈ms)):=fS.mpr ⟨hh,by rw [eM n];rfl⟩;rw [Bh] at this;cases this
 refine⟨_,rfl,false,.inl ⟨[],aD.of e7,rfl⟩,?_⟩;refine gM ?_;refine⟨_,rfl,R,rs,aa,rfl,Mz.seq Gh,Bc.same Mz,aZ,h8,λD8 H8 f8 s8=>⟨λrk nl e8=>?_,λt ts ps e8 pp bp lp=>?_⟩⟩
 .refine⟨_,rfl,false,.inl ⟨[],aD.of e8,rfl⟩,?_⟩;refine gM ?_;have He:=Mz.trans s8;have Xx:=U3.same He;have Mn:=U1.same He;obtain⟨b,OC,most⟩:=bd.great rk nl;refine⟨_,rfl,R,rs,aa,b,rfl,He.seq Gh,Bc.same He,aZ,h8,OC,Mn,λdg kg ksg gg H9 f9 s9 Xv eg kkg vg jg _ _=>?_⟩;have ZY:=zO s9 Mn (He.seq Gh);have Sj:=(Bc.same He).keep λ_ _ z=>zo s9 Mn z;have QM:=zq s9 Mn Xx nT;have Wv:=He _ _ el;have el9:=s9 _ _ (λz=>by obtain⟨ps,a,_⟩:=Mn;rw [<-z,Wv] at a;cases a) Wv;refine⟨_,rfl,R,rs,aa,rfl,ZY,Sj,aZ,λIj vf f10 n8 y_=>⟨Ij,rfl,⟨_,aD.of y_⟩,λFd Bl=>Et rfl (aD.of y_) Bl (λz hz H' Q' s' hQ=>?_) λxn vi xl=>?_⟩⟩
  .obtain⟨n,en⟩:=hl z hz;have Zn:=bd.least gl QN sel z n en hz;have Gd:bV H' dl (.str z) (some (.int n)):=by
    have:=bV.k (k:=Sum.inr z) (s' _ _ (n8 _ _ el9));rw [vl,en] at this;exact this
   have Wy:=s' _ _ (n8 _ _ eg);obtain⟨v,Y6,hv2⟩:∃v:Int,((gg z).map V.int).getD (.int 0)=.int v/\v<=60:=by
    cases e:gg z with
    | none=>exact⟨0,rfl,nofun⟩
    | some v=>exact⟨v,rfl,Int.le_trans (jg z v e).2.1 (most z hz)⟩
   have SG:bV H' dg (.str z) ((gg z).map V.int):=by
    have:=bV.k (k:=Sum.inr z) Wy;rw [vg] at this;exact this
   refine⟨_,rfl,_,rfl,dl,_,rfl,Gd,_,rfl,dg,rfl,.inl ⟨_,.inl Wy⟩,_,rfl,_,SG,?_⟩;rw [Y6];refine⟨n,v,rfl,_,_,rfl,rfl,_,rfl,?_⟩;rw [eM (by split <;> omega)]
   exact hQ
  refine⟨_,rfl,false,.inl ⟨[],aD.of xl,rfl⟩,?_⟩;refine gM ?_;have IU:=n8.trans vi;exact(q xn (λc o n1 n2 hc=>IU c o (s9 c o n2 (He c o (W5 c o n1 n2 hc)))) (QM.same IU) (Xv.same IU) gl QN sel).1 ms rk vD K7 MX hl JM nl
 refine⟨_,rfl,true,.inl ⟨_,aD.of e8,rfl⟩,?_⟩;refine qm ?_;exact⟨_,rfl,D8,_,_,rfl,aD.of e8,Fw (aD.of e8) pp,CN lp bp,λm dx H' s' Ek TK=>(out H' ((Mz.trans s8).trans s')).2.2.2 ms m dx _ vD K7 MX hl JM Ek TK⟩
end
open PySem L2 M11
def rV {g:G}{h:Str}{n:Int}{z:Str}(e:(g z).isSome=true):(cM g h n z).isSome=true:=by
 unfold cM
 split
 .rfl
 exact e
def vC {bt:Int->Int->Bool}{aa:List av}{g0 g:G}(st:bU bt aa g0 g){z:Str}(e:(g0 z).isSome=true):(g z).isSome=true:=by
 induction st with
 | refl=>exact e
 | step _ _ _ ih=>exact rV ih
def n5 {bt:Int->Int->Bool}{aa:List av}{g:G}(se:cQ bt aa g){ru:av}(h:ru∈aa)(p:∀x∈ru.2,(g x).isSome=true):(g ru.1).isSome=true:=by
 have f:=se ru h;cases e:g ru.1 with
 | some n=>rfl
 | none =>
  unfold bD at f;have a:ip g ru=true:=eY.mpr p;rw [a,e] at f;cases f
def AH {bt:Int->Int->Bool}{aa:List av}{g0 g g':G}(st:bU bt aa g0 g)(se:cQ bt aa g')(h0:∀z,(g0 z).isSome=true->(g' z).isSome=true):∀z,(g z).isSome=true->(g' z).isSome=true:=by
 induction st with
 | refl=>exact h0
 | @step g1 ru QP ft fr ih =>
  intro z hz;unfold cM at hz
  split at hz
  .rename_i c
   have:z=ru.1:=by simpa using c
   rw [this];refine n5 se ft λx hx=>ih x ?_;unfold bD at fr;rw [jQ] at fr;exact eY.mp fr.1 x hx
  exact ih z hz
def CP {aa:List av}{s:Str}{ms:List Str}(h0:s∈ms)(mc:jx aa aa.length ms){x:Str}(h:qT aa s x):x∈ms:=by
 induction h with
 | start=>exact h0
 | step _ h1 h2 ih=>exact mc _ (by rw [cb];exact h1) ih _ h2
def Gp {aa:List av}{cW:av}{g:G}{ms:List Str}{rk:Str->Nat}(bd:BR aa)(vk:aa[0]?=some cW)(st:bU M11.bl aa (jB aa) g)(hl:∀h∈hd aa,∃n,g h=some n)(rc:∀x∈ms,qT aa cW.1 x)(JM:∀h∈hd aa,h∈ms)(nl:iJ aa rk):∃b,Good aa rk b:=by
 obtain⟨b,OC,most⟩:=bd.great rk nl;refine⟨b,λg' rf U8 h hh=>?_,λru og e h0 mc h hh=>?_,nl,OC,most⟩
 .obtain⟨n,en⟩:=hl h hh;have:=AH st U8 (λz hz=>vC rf hz) h (by rw [en];rfl);obtain⟨n',Wu⟩:=i5.mp this;exact⟨n',Wu,bd.least g' rf U8 h n' Wu hh⟩
 rw [vk] at e;cases e;exact CP h0 mc (rc h (JM h hh))
structure O5 (aa:List av)(g:G) (L:List Str):Prop where
 nd:L.Nodup
 hd:∀h∈L,∃ru∈aa,ru.1=h
 has:∀h∈L,(g h).isSome=true
 ord:∀i h,L[i]?=some h->∃ru∈aa,ru.1=h/\∀p∈ru.2,(jB aa p).isSome=true\/p∈L.take i
 all:∀z,(g z).isSome=true->(jB aa z).isSome=true\/z∈L
def AG {bt:Int->Int->Bool}{aa:List av}{g0 g:G}(e:g0=jB aa)(st:bU bt aa g0 g):∃L,O5 aa g L:=by
 induction st with
 | refl=>exact⟨[],kM,λh hh=>(by cases hh),λh hh=>(by cases hh),λi h hh=>(by cases hh),λz hz=>.inl (by rw [<-e];exact hz)⟩
 | @step g1 ru QP ft fr ih =>
  obtain⟨L,F⟩:=ih;have al:∀p∈ru.2,(g1 p).isSome=true:=by
   unfold bD at fr;rw [jQ] at fr;exact λp hp=>eY.mp fr.1 p hp
  have up:∀z,(g1 z).isSome=true->(cM g1 ru.1 (aG g1 ru) z).isSome=true:=λz hz=>rV hz;have dn:∀z,(cM g1 ru.1 (aG g1 ru) z).isSome=true->z=ru.1\/(g1 z).isSome=true:=λz hz=>by
   unfold cM at hz
   split at hz
   .exact .inl (by assumption)
   exact .inr hz
  by_cases c:ru.1∈L
  .refine⟨L,F.nd,F.hd,λh hh=>up h (F.has h hh),F.ord,λz hz=>?_⟩;rcases dn z hz with q | q
   .rw [q];exact .inr c
   exact F.all z q
  refine⟨L++[ru.1],Dx F.nd c,λh hh=>?_,λh hh=>?_,λi h hi=>?_,λz hz=>?_⟩
  .rcases cq.mp hh with q | q
   .exact F.hd h q
   exact⟨ru,ft,(cm.mp q).symm⟩
  .rcases cq.mp hh with q | q
   .exact up h (F.has h q)
   rw [cm.mp q];unfold cM;rw [aw rfl];rfl
  .by_cases l:i < L.length
   .rw [nW l] at hi;rw [rL ∅];exact F.ord i h hi
   have li:=(ba.mp hi).1;rw [cC,nV] at li;have:i=L.length:=by omega
   subst this;rw [pz (aH _),Nat.sub_self] at hi;cases hi;rw [rL (aH _),cb];exact⟨ru,ft,rfl,λp hp=>F.all p (al p hp)⟩
  rcases dn z hz with q | q
  .exact .inr (eZ _ (by rw [q];exact cm.mpr rfl))
  exact(F.all z q).imp id λy=>i4 _ y
where
 Dx {l:List Str}{x:Str}(h:l.Nodup)(n:x∉l):(l++[x]).Nodup:=iK.mpr ⟨h,by simp,λa ha b hb z=>n (by rw [<-cm.mp hb,<-z];exact ha)⟩
def B3:Nat->Int
 | 0=>1
 | n+1=>1+3 * B3 n
theorem nN:∀n,1<=B3 n
 | 0=>by decide
 | n+1=>by have:=nN n;show 1<=1+3 * B3 n;omega
def Ay:∀{m n:Nat},m<=n->B3 m<=B3 n:=by
 intro m n h
 induction h with
 | refl=>exact iW _
 | step _ ih=>have:=nN m;refine Int.le_trans ih ?_;rename_i k _;have:=nN k;show B3 k<=1+3 * B3 k;omega
theorem oO (g:G) (M:Int)(hM:0<=M):∀(ps:List Str) (n:Nat),ps.length<=n->(∀p∈ps,(g p).getD 0<=M)->(ps.map λp=>(g p).getD 0).sum<=n * M
 | [],n,_,_=>by show (0:Int)<=_;exact Int.mul_nonneg ∅ hM
 | p::r,0,h,_=>by simp at h
 | p::r,n+1,h,hp=>by
  have ih:=oO g M hM r n (by simpa using h) λx hx=>hp x (bJ _ hx);have h1:=hp p bZ;rw [bw,kJ];have e:((n+1:Nat):Int) * M=(n:Int) * M+M:=by rw [Int.natCast_succ,Int.add_mul,Int.one_mul]
  omega
theorem sF {aa:List av}{g:G}{L:List Str}(F:O5 aa g L)(se:cQ M11.bl aa g)(h3:∀ru∈aa,ru.2.length<=3)(h0:∀z,(jB aa z).isSome=true->g z=some 0):∀(k i:Nat)(h:Str),i < k->L[i]?=some h->∀n,g h=some n->n<=B3 i
 | 0,i,h,l,_,_,_=>by omega
 | k+1,i,h,l,e,n,en=>by
  obtain⟨ru,ft,e1,hp⟩:=F.ord i h e;have val:∀p∈ru.2,∃v,g p=some v/\(v<=0\/∃j,j < i/\v<=B3 j):=λp jn=>by
   rcases hp p jn with q | q
   .exact⟨0,h0 p q,.inl (iW _)⟩
   obtain⟨v,ev⟩:=i5.mp (F.has p (rJ q));obtain⟨j,hj⟩:=fq q;have lj:=(ba.mp hj).1;rw [dI] at lj;rw [vv ∅] at hj;exact⟨v,ev,.inr ⟨j,∅,sF F se h3 h0 k j p ∅ hj v ev⟩⟩
  have f:=se ru ft;have a:ip g ru=true:=eY.mpr λp jn=>by obtain⟨v,ev,_⟩:=val p jn;rw [ev];rfl
  unfold bD at f;rw [a,e1,en] at f;have f2:M11.bl (aG g ru) n=false:=by simpa using f
  have Vi:n<=aG g ru:=by
   unfold M11.bl at f2;have:=of_decide_eq_false f2;omega
  cases i with
  | zero =>
   have z:=oO g 0 (iW _) ru.2 3 (h3 ru ft) λp jn=>by
    obtain⟨v,ev,q⟩:=val p jn;rw [ev];rcases q with q | ⟨j,l,_⟩
    .exact q
    omega
   unfold aG at Vi;show n<=1;omega
  | succ i =>
   have b1:=nN i;have z:=oO g (B3 i) ∅ ru.2 3 (h3 ru ft) λp jn=>by
    obtain⟨v,ev,q⟩:=val p jn;rw [ev];show v<=B3 i;rcases q with q | ⟨j,l,q⟩
    .omega
    exact Int.le_trans q (Ay ∅)
   unfold aG at Vi;show n<=1+3 * B3 i;omega
section
def rH.more {C:Addr}{H0 H H2:Hp}{a e d bg t:Addr}{kE kvs:List (aF×V)}{aQ:List (Str×Nat)}{ps:List (Str×Addr)}{bX:List Be}{p:Str×Addr}{wd:Str}{k j:Nat}{ts:List Addr}(h:rH K C H0 H a e d bg kE aQ ps bX)(hp:p∈ps)(hk:H p.2=some (.dK kvs))(kk:kvs.map (·.1)=(lR bX p.1).map Sum.inr)
  (hn:(p.1,wd)∉vj bX)(hb:H bg=some (.lst (ts.map V.ref)))(Ln:Paired (λt (b:Be)=>aX K H t [.str b.1,.str b.2.1,.int (b.2.2.1:Int),.int (b.2.2.2:Int)]) ts bX)
  (s:aB (upd H p.2 (.dK (bc kvs (Sum.inr wd) (.bl true)))) H2)(ht:aX K H2 t [.str p.1,.str wd,.int (k:Int),.int (j:Int)]) :
  rH K C H0 (upd H2 bg (.lst (ts.map V.ref++[.ref t]))) a e d bg kE aQ ps (bX++[(p.1,wd,k,j)]):=by
 have Pp:bg≠p.2:=λz=>by rw [z,hk] at hb;cases hb
 have JZ:H2 bg=some (.lst (ts.map V.ref)):=s _ _ (by rw [ai Pp];exact hb);obtain⟨_,fp,Vg,Vh⟩:=h.dk p hp;have up:∀c o,c≠bg->c≠p.2->H c=some o->upd H2 bg (.lst (ts.map V.ref++[.ref t])) c=some o:=λc o n1 n2 q=>by
  rw [ai n1];exact s _ _ (by rw [ai n2];exact q)
 refine⟨λc o hc=>up c o (λz=>by rw [z,h.fb] at hc;cases hc) (λz=>by rw [z,fp] at hc;cases hc) (h.sm c o hc),?_,up _ _ (λz=>by have:=h.he;rw [z,hb] at this;cases this) Vg.symm h.he,up _ _ (λz=>by have:=h.hd;rw [z,hb] at this;cases this) Vh.symm h.hd,h.n1,h.n2,λp' nj=>?_,⟨ts++[t],by rw [ae,br];rfl,?_⟩,h.fb,?_⟩
 .obtain⟨dx,fs,q,r⟩:=h.ia;exact⟨dx,fs,up _ _ (λz=>by rw [z,hb] at q;cases q) (λz=>by rw [z,hk] at q;cases q) q,r⟩
 .obtain⟨⟨kj,q,r⟩,t'⟩:=h.dk p' nj;refine⟨?_,t'⟩;by_cases z:p'=p
  .rw [z];refine⟨bc kvs (Sum.inr wd) (.bl true),by rw [ai Pp.symm];exact s _ _ ae,?_⟩;rw [gA (by rw [kk];exact λq=>hn (yP.mp (cw.mp q))),kk,Ad,aw rfl,br];rfl
  have n1:p'.1≠p.1:=λq'=>z (by
   have w1:=fu ps h.n1 p' nj;have w2:=fu ps h.n1 p hp;rw [q',w2] at w1;injection w1 with w3;injection w3 with w4;exact Prod.ext q' w4.symm)
  have n2:p'.2≠p.2:=λq'=>by
   obtain⟨i,hi,ei⟩:=px.mp nj;obtain⟨j',hj,ej⟩:=px.mp hp;have Bg:i=j':=by
    refine(tL (xs:=ps.map (·.2)) (h₀:=by simpa using hi) (h₁:=by simpa using hj) h.n2).mp ?_;rw [mv,mv,ei,ej];exact q'
   subst Bg;exact z (ei.symm.trans ej)
  refine⟨kj,up _ _ (λz=>by rw [z,hb] at q;cases q) n2 q,?_⟩;rw [r,Ad,ay (λq'=>n1 q'.symm),eX]
 .exact eW (Paired.d_ Ln λ_ _ z=>aW JZ (s.tup (dQ hk z))) (aW JZ ht)
 obtain⟨e1,te,⟨dx,fs,q1,q2⟩,q3,q4,q5⟩:=h.em;exact⟨e1,te,⟨dx,fs,up _ _ (λz=>by rw [z,hb] at q1;cases q1) (λz=>by rw [z,hk] at q1;cases q1) q1,q2⟩,up _ _ q5 (λz=>by rw [z,hk] at q3;cases q3) q3,q4.keep λ_ _ z=>aW JZ (s.tup (dQ hk z)),q5⟩
def Kh (l m:List Be)(n:Str):lR (l++m) n=lR l n++lR m n:=by
 unfold lR;rw [kR,br]
def Fh {names:List Str}(l m:List Be){z x:Str}(h:x∈oy names l z):x∈oy names (l++m) z:=by
 unfold oy at h ⊢
 split
 .rename_i c
  rw [aw c] at h;rw [Kh];exact i4 _ h
 rename_i c
 rw [ay c] at h;exact h
def Kg (bX:List Be)(n:Str):(lR bX n).length<=bX.length:=by
 unfold lR;rw [az];exact iM _ _
def KA {n i:Nat}(h:i < n):(cnt n)[i]?=some (.int (i:Int)):=by
 unfold cnt;rw [bh,List.getElem?_range h];rfl
def Am (n:Nat):(cnt n).length=n:=by unfold cnt;rw [az,tP]
def Cr (K:aT)(C:Addr):Sp:=λvs H Q _=>∃(H0:Hp)(a e d bg r:Addr)(kE:List (aF×V))(aQ:List (Str×Nat))(ps:List (Str×Addr))(bX:List Be) (k:Nat)(ru:av)(aa:List av),vs=[.ref a,.int (k:Int),.ref r]/\rH K C H0 H a e d bg kE aQ ps bX/\Aw K H0 r ru/\aa[k]?=some ru/\ru.2.length<=8 /\
 ru.1∈ps.map (·.1)/\(∀u_:List Be,vq aa (ps.map (·.1)) (λz=>(aV kE (Sum.inr z)).isSome) u_->u_.length<=900000)/\vq aa (ps.map (·.1)) (λz=>(aV kE (Sum.inr z)).isSome) bX /\
 ∀(u_:List Be)(H':Hp),rH K C H0 H' a e d bg kE aQ ps u_->vq aa (ps.map (·.1)) (λz=>(aV kE (Sum.inr z)).isSome) u_->bX.length<=u_.length->(u_.length=bX.length->u_=bX/\∀j z,j < Bn (λz=>(aV kE (Sum.inr z)).isSome) ru.2->ru.2[j]?=some z->∀wd∈oy (ps.map (·.1)) bX z,(ru.1,wd)∈vj bX)->Q .cU H'
def uA:aJ ["self","number","rule","own","place","word"] ["self","number","rule"] (au CD):=ju rfl rfl rfl rfl nofun
def FP {C fW:Addr}{Wc:FuncData}(F:iq K "find_begins" "BeginTable.find_begins" CD f fd)(T:Txt mg)(B:BC K C)(GP:aM P w K mg base 1 "first_places" ["parts","empty"] (vE K))(FW:bf P w K mg base fk 1 fW Wc ["self","part"] (zF K C))(MW:Meth K C "words_of_part" fW)(BW:Binds K Wc ["self","part"] []) :
  bf P w K mg base fk 2 f fd ["self","number","rule"] (Cr K C):=by
 refine F.ok uA (λvs H Q E h=>?_) (λdr A outer s H vs Q E hr h=>?_)
 .obtain⟨H0,a,e,d,bg,r,kE,aQ,ps,bX,k,ru,aa,rfl,_⟩:=h;rfl
 obtain⟨H0,a,e,d,bg,r,kE,aQ,ps,bX,k,ru,aa,rfl,S,⟨p,v1,v2⟩,er,h8,hh,ZV,SX,q⟩:=h;have hu:=f_ hr;refine⟨_,aj (aI (i:=3) uA.nd rfl (bM rfl) (dY hu (dS (pv 0) rfl) (bz cO (pv 2) aA (λ_ _=>rfl)) (λ_ _=>rfl)))
  (aq (cx cS rfl (a8 (cv GP hr rfl (ah (bz cO (pv 2) aA (λ_ _=>rfl)) (ah (dS (pv 0) rfl) ak)))) (ar (i:=4) uA.nd rfl (bM rfl))
   (aq (cx cS rfl (a8 (zX (pv 0) B.cls MW FW hr BW .nil sf (ah (bz cO (bz cO (pv 2) aA (λ_ _=>rfl)) (pv 4) (λ_ _=>rfl)) ak))) (ar (i:=5) uA.nd rfl (bM rfl))
    (aq (de (eI (dH hu (pv 5) (pv 3)))
     (aj (gT hu (pv 3) (pv 5) gw rfl)
     (aq (cD (hZ iN i6 i7 cN (dS (pv 0) rfl) (ah (cy (ah (bz cO (pv 2) aA (λ_ _=>rfl)) (ah (pv 5) (ah (pv 1) (ah (pv 4) ak))))) ak))))) bx)))))),?_⟩
 nofun
 obtain⟨pn,wb,xj⟩:=b_.mp hh;have vn:=fu ps S.n1 pn wb;rw [xj] at vn;obtain⟨dx,fs,ea,f1,f2,f3,f4,f5⟩:=S.ia;have hg:bV H d (.str ru.1) (some (.ref pn.2)):=by
  have:=bV.k (k:=Sum.inr ru.1) S.hd;rw [vn] at this;exact this
 refine⟨_,rfl,a,C,dx,fs,_,rfl,ea,B.cls,B.a4,f3,_,rfl,r,_,_,_,rfl,rfl,S.sm.tup v1,rfl,d,_,rfl,hg,?_⟩;refine⟨_,rfl,r,_,_,_,rfl,rfl,S.sm.tup v1,rfl,_,rfl,a,C,dx,fs,_,rfl,ea,B.cls,B.a2,f1,p,e,ru.2,kE,rfl,S.sm.tup v2,∅,S.he,λD5 H5 f6 s5 e5=>⟨D5,rfl,⟨_,aD.of e5⟩,?_⟩⟩;obtain⟨ts0,ZW,_⟩:=S.lb;have Yj:D5≠bg:=λz=>by rw [z,ZW] at f6;cases f6
 have fle:=D_ (λz=>(aV kE (Sum.inr z)).isSome) ru.2;generalize hb:(λz=>(aV kE (Sum.inr z)).isSome)=b at *;generalize hn:Bn b ru.2=n at *
 let wV:vp:=λi σ H6=>∃(di:List Be)(y4 y5:Option V),σ=[bu a,some (.int (k:Int)),bu r,some (.ref pn.2),y4,y5]/\rH K C H0 H6 a e d bg kE aQ ps di/\H6 D5=some (.lst (cnt n))/\vq aa (ps.map (·.1)) b di/\bX.length<=di.length /\
  (di.length=bX.length->di=bX/\∀j z,j < i->ru.2[j]?=some z->∀wd∈oy (ps.map (·.1)) bX z,(ru.1,wd)∈vj bX)
 refine dG (xs:=cnt n) wV ⟨bX,none,none,rfl,S.same s5,e5,SX,aH _,λ_=>⟨rfl,λj z hj=>by omega⟩⟩ ?_ ?_ ?_
 .rintro i σ H6 _ ⟨di,y4,y5,rfl,S2,e6,_⟩;exact aD.of e6
 .intro i x σ H6 ex Gi
  ac_nf0
  obtain⟨di,y4,y5,rfl,S2,e6,Uh,l2,c2⟩:=Gi;have li:i < n:=by have:=(ba.mp ex).1;rw [Am] at this;exact this
  rw [KA li] at ex;cases ex;have lz:i < ru.2.length:=by omega
  obtain⟨z,ez⟩:∃z,ru.2[i]?=some z:=⟨ru.2[i],dJ lz⟩;have Uu:rC (ru.2.map V.str) (i:Int)=some (.str z):=dq (by rw [bh,ez];rfl);obtain⟨Qa,rp,Om,g1,g2,g3,g4,g5⟩:=S2.ia;refine goN ?_
  ac_nf
  refine⟨_,rfl,a,Qa,rp,rfl,Om,g5,_,rfl,r,_,_,_,rfl,rfl,S2.sm.tup v1,rfl,_,rfl,p,_,_,_,rfl,rfl,S2.sm.tup v2,Uu,H0,a,e,d,bg,kE,aQ,ps,di,z,rfl,S2,λD6 H7 f7 s7 e7=>⟨D6,rfl,⟨_,aD.of e7⟩,?_⟩⟩;obtain⟨jR,JZ,_⟩:=S2.lb;have Yk:D6≠bg:=λz=>by rw [z,JZ] at f7;cases f7
  generalize VD:oy (ps.map (·.1)) di z=ws at *
  let EL:vp:=λm σ H8=>∃(l:List Be)(y5:Option V),σ=[bu a,some (.int (k:Int)),bu r,some (.ref pn.2),some (.int (i:Int)),y5]/\rH K C H0 H8 a e d bg kE aQ ps (di++l)/\H8 D5=some (.lst (cnt n))/\H8 D6=some (.lst (ws.map V.str))/\vq aa (ps.map (·.1)) b (di++l) /\
   (l=[]->∀wd∈ws.take m,(ru.1,wd)∈vj di)
  refine dG (xs:=ws.map V.str) EL ⟨[],_,rfl,by rw [eX];exact S2.same s7,s7 _ _ e6,e7,by rw [eX];exact Uh,λ_ wd h=>by simp at h⟩ ?_ ?_ ?_
  .rintro m σ H8 _ ⟨l,y5,rfl,S3,e8,e9,_⟩;exact aD.of e9
  .intro m x σ H8 ex Gi
   ac_nf0
   obtain⟨l,y5,rfl,S3,e8,e9,OD,c3⟩:=Gi;rw [bh] at ex;obtain⟨wd,ew,rfl⟩:=bR.mp ex;obtain⟨⟨kvs,hk,kk⟩,fp,Vg,Vh⟩:=S3.dk pn wb;obtain⟨UX,PN,NX⟩:=S3.lb;have lim:=ZV _ OD;have ltk:kvs.length<=900000:=by
    have h1:=congrArg List.length kk;rw [az,az] at h1;have:=Kg (di++l) pn.1;omega
   have ltt:=bF NX;have mem:(aV kvs (Sum.inr wd)).isSome=true↔(ru.1,wd)∈vj (di++l):=by rw [dM,kk,cw,yP,xj]
   refine goN ?_
   ac_nf
   refine⟨_,rfl,_,rfl,pn.2,_,rfl,bV.k (k:=Sum.inr wd) hk,_,rfl,?_⟩;refine dW (λc=>?_) (λc=>?_)
   .have nm:(ru.1,wd)∉vj (di++l):=λh=>by rw [mem.mpr h] at c;exact absurd c nofun
    refine⟨_,rfl,_,rfl,_,_,rfl,nJ.k (k:=Sum.inr wd) hk (bA ∅),?_⟩;obtain⟨WI,E6,TV,k1,k2,k3,k4,k5⟩:=S3.ia;have Yh:a≠pn.2:=λz=>by rw [z,hk] at TV;cases TV
    have Pp:bg≠pn.2:=λz=>by rw [z,hk] at PN;cases PN
    have Kv:upd H8 pn.2 (.dK (bc kvs (Sum.inr wd) (.bl true))) a=some (.ins C WI E6):=by rw [ai Yh];exact TV
    have V3:upd H8 pn.2 (.dK (bc kvs (Sum.inr wd) (.bl true))) bg=some (.lst (UX.map V.ref)):=by rw [ai Pp];exact PN
    refine⟨_,rfl,a,C,WI,E6,_,rfl,Kv,B.cls,B.a3,k2,.inl ⟨rfl,_,aD.of V3⟩,_,rfl,r,_,_,_,rfl,rfl,dQ hk (S3.sm.tup v1),rfl,_,rfl,_,rfl,_,rfl,W_,λt4 yJ=>?_⟩;have s4:=ag yJ (.tup [.str ru.1,.str wd,.int (k:Int),.int (i:Int)]);have e4:aX K (upd (upd H8 pn.2 (.dK (bc kvs (Sum.inr wd) (.bl true)))) t4 (.tup [.str ru.1,.str wd,.int (k:Int),.int (i:Int)])) t4 [.str ru.1,.str wd,.int (k:Int),.int (i:Int)]:=aX.of ae;generalize upd (upd H8 pn.2 (.dK (bc kvs (Sum.inr wd) (.bl true)))) t4 (.tup [.str ru.1,.str wd,.int (k:Int),.int (i:Int)])=H9 at s4 e4;refine⟨bg,_,_,rfl,rfl,s4 _ _ V3,bA (by rw [az];omega),?_⟩;have X7:(pn.1,wd)∉vj (di++l):=by rw [xj];exact nm
    have S4:=S3.more (k:=k) (j:=i) wb hk kk X7 PN NX s4 (by rw [xj];exact e4);have Hy:∀D ys,H8 D=some (.lst ys)->D≠bg->upd H9 bg (.lst (UX.map V.ref++[.ref t4])) D=some (.lst ys):=λD ys hD nb=>by
     rw [ai nb];exact s4 _ _ (by rw [ai (λz=>by rw [z,hk] at hD;cases hD)];exact hD)
    rw [nQ,xj] at S4;refine⟨l++[(ru.1,wd,k,i)],_,rfl,S4,Hy _ _ e8 Yj,Hy _ _ e9 Yk,?_,λh=>by simp at h⟩;rw [<-nQ];refine .snoc OD er ez (by rw [hn];exact li) (Fh di l (by rw [VD];exact cR ew)) nm
   refine⟨l,_,rfl,S3,e8,e9,OD,λhl x hx=>?_⟩;rw [cu,ew] at hx;rcases cq.mp hx with h | h
   .exact c3 hl x h
   rw [Option.toList_some,cm] at h;subst h;have hm:(ru.1,x)∈vj (di++l):=mem.mp (by
    cases hq:(aV kvs (Sum.inr x)).isSome with
    | true=>rfl
    | false=>exact absurd (by rw [hq];rfl) c)
   rw [hl,eX] at hm;exact hm
  rintro σ H8 ⟨l,y5,rfl,S3,e8,e9,OD,c3⟩;rw [az,cb] at c3;refine⟨di++l,_,_,rfl,S3,e8,OD,by rw [cC];omega,λNL=>?_⟩;rw [cC] at NL;have PH:l=[]:=List.length_eq_zero_iff.mp ∅;obtain⟨JY,kF⟩:=c2 ∅;rw [PH,eX];refine⟨JY,λj z' hj E8 wd VF=>?_⟩;by_cases cj:j < i
  .exact kF j z' cj E8 wd VF
  have:j=i:=by omega
  subst this;rw [ez] at E8;cases E8;have:=c3 PH wd (by rw [<-VD,JY];exact VF);rw [JY] at this;exact this
 rintro σ H6 ⟨di,y4,y5,rfl,S2,e6,Uh,l2,c2⟩;rw [Am] at c2;exact q di H6 S2 Uh l2 c2
end
end eG
namespace L2
open PySem M11
def wI {K:aT}{H:Hp}{p D:Addr}{zs:List Str}{σ:St}{x:Str}{Qp:Hp->Prop}(hp:aD K H p (zs.map V.str))(hz:zs.length<=10000)(hD:H D=none)
  (q:∀ts (ps:List (Str×Addr)) H2,aB H H2->H2 D=some (.lst (ts.map V.ref))->ps.map (·.1)=zs->Paired (λt (p:Str×Addr)=>aX K H2 t [.str p.1,.ref p.2]) ts ps->(∀p∈ps,H2 p.2=some (.dK [])/\H p.2=none/\p.2≠D)->(ps.map (·.2)).Nodup->Qp H2) :
  ∃W:Nat->Nat->List V->St->Hp->Prop,(∃m,W 0 m [] (cZ [x] [] σ) (upd H D (.lst []))) /\
 ∀i m ys σ' H,W i m ys σ' H->((iS K p).stop i H/\Qp H)\/((iS K p).go i H/\∃m',m' < m/\∀x H',(iS K p).kA i H x H'->cY 0 x σ' H' λσ2 H2=>gQ σ2 H2 λb H3 =>
  if b=true then rb (fc (e_ 0) (fc (Ce) pP)) σ2 H3 λy H4=>H4 D=some (.lst ys)/\ys.length < sizeLine/\W (i+1) m' (ys++[y]) σ2 (upd H4 D (.lst (ys++[y]))) else W (i+1) m' ys σ2 H3):=by
 refine bH (xs:=zs.map V.str) (λi ys σ2 H2=>∃(ts:List Addr)(ps:List (Str×Addr)),ys=ts.map V.ref/\ts.length=i/\ps.map (·.1)=zs.take i/\Paired (λt (p:Str×Addr)=>aX K H2 t [.str p.1,.ref p.2]) ts ps /\
   (∀p∈ps,H2 p.2=some (.dK [])/\H p.2=none/\p.2≠D)/\(ps.map (·.2)).Nodup/\(∃y0,σ2=[y0])/\aB H H2/\H2 D=some (.lst ys))
  ⟨[],[],rfl,rfl,rfl,.nil,by simp,by simp,⟨none,rfl⟩,ag hD _,ae⟩ (λi ys σ2 H2 _ h=>?_) (λi x ys σ2 H2 ex h=>?_) (λys σ2 H2 h=>?_)
 .obtain⟨_,_,_,_,_,_,_,_,_,sm,_⟩:=h;exact sm.seq hp
 .obtain⟨ts,ps,rfl,ht,hm,jn,hl,hn,⟨y0,rfl⟩,sm,hd⟩:=h;rw [bh] at ex;obtain⟨z,ez,rfl⟩:=bR.mp ex;have li:=(ba.mp ez).1;refine goN (wm ?_);refine⟨_,rfl,λl om=>⟨ou,λt iP=>?_⟩⟩;have MR:l≠D:=(ao hd om).symm;have nt:t≠l:=λe=>by rw [e,ae] at iP;cases iP
  have Nq:H2 t=none:=by rw [ai nt] at iP;exact iP
  have X4:t≠D:=(ao hd Nq).symm;have ux:aB H2 (upd (upd H2 l (.dK [])) t (.tup [.str z,.ref l])):=(ag om _).trans (ag iP _);have gi:=ux _ _ hd;have el:upd (upd H2 l (.dK [])) t (.tup [.str z,.ref l]) l=some (.dK []):=by rw [ai nt.symm,ae]
  have et:aX K (upd (upd H2 l (.dK [])) t (.tup [.str z,.ref l])) t [.str z,.ref l]:=aX.of ae;generalize upd (upd H2 l (.dK [])) t (.tup [.str z,.ref l])=H4 at ux gi el et;refine⟨gi,bA (by rw [az];omega),ts++[t],ps++[(z,l)],by rw [br];rfl,by rw [cC,ht];rfl,by rw [br,hm,cu,ez];rfl,?_,?_,?_,⟨_,rfl⟩,?_,ae⟩
  .exact eW (Paired.d_ jn λt' h' z=>aW gi (ux.tup z)) (aW gi et)
  .intro p' nj;rcases cq.mp nj with h | h
   .obtain⟨a1,a2,a3⟩:=hl p' h;exact⟨by rw [ai a3];exact ux _ _ a1,a2,a3⟩
   rw [cm.mp h];exact⟨by rw [ai MR];exact el,sm.free om,MR⟩
  .rw [br];refine iK.mpr ⟨hn,by simp,λa ha b hb e=>?_⟩;rw [mI,cm] at hb;obtain⟨p',nj,rfl⟩:=b_.mp ha;have:=(hl p' nj).1;rw [e,hb] at this;rw [show H2 l=none from om] at this;cases this
  intro b o hb;rw [ai (λz=>by rw [z,hD] at hb;cases hb)];exact ux _ _ (sm b o hb)
 obtain⟨ts,ps,rfl,ht,hm,jn,hl,hn,_,sm,hd⟩:=h;rw [az,cb] at hm;exact q ts ps H2 sm hd hm jn hl hn
def fX {K:aT}{H:Hp}{D a C dx:Addr}{xs:List V}{fs:List (Str×V)}{o:HO}(hD:H D=some (.ins C dx fs))(h:aX K H a xs):aX K (upd H D o) a xs:=by
 rcases h with (h | ⟨u,h⟩) | h
 .exact .inl (.inl (by rw [ai (λz=>by rw [z,hD] at h;cases h)];exact h))
 .exact .inl (.inr ⟨u,by rw [ai (λz=>by rw [z,hD] at h;cases h)];exact h⟩)
 exact .inr h
def wH {K:aT}{H:Hp}{R D:Addr}{rs:List Addr}{es:List (Str×Nat)}{σ:St}{x1 x2:Str}{Qp:Hp->Prop}(hR:aD K H R (rs.map V.ref))(df:Paired (λt (e:Str×Nat)=>aX K H t [.str e.1,.int (e.2:Int)]) rs es)(aZ:es.length<=1000)(hD:H D=none)
  (q:∀ts H2,aB H H2->H2 D=some (.lst (ts.map V.ref))->Paired (λt h=>aX K H2 t [.str h,.bl true]) ts (es.map (·.1))->Qp H2) :
  ∃W:Nat->Nat->List V->St->Hp->Prop,(∃m,W 0 m [] (cZ [x1,x2] [] σ) (upd H D (.lst []))) /\
 ∀i m ys σ' H,W i m ys σ' H->((iS K R).stop i H/\Qp H)\/((iS K R).go i H/\∃m',m' < m/\∀x H',(iS K R).kA i H x H'->Bm K 2 (jo (cY 0) (jo (cY 1) DZ)) x σ' H' λσ2 H2=>gQ σ2 H2 λb H3 =>
  if b=true then rb (fc (e_ 0) (fc (tC (.bl true)) pP)) σ2 H3 λy H4=>H4 D=some (.lst ys)/\ys.length < sizeLine/\W (i+1) m' (ys++[y]) σ2 (upd H4 D (.lst (ys++[y]))) else W (i+1) m' ys σ2 H3):=by
 have ll:=bF df;refine bH (xs:=rs.map V.ref) (λi ys σ2 H2=>∃ts:List Addr,ys=ts.map V.ref/\ts.length=i/\Paired (λt h=>aX K H2 t [.str h,.bl true]) ts ((es.take i).map (·.1))/\(∃y0 y1,σ2=[y0,y1])/\aB H H2/\H2 D=some (.lst ys))
  ⟨[],rfl,rfl,.nil,⟨none,none,rfl⟩,ag hD _,ae⟩ (λi ys σ2 H2 _ h=>?_) (λi x ys σ2 H2 ex h=>?_) (λys σ2 H2 h=>?_)
 .obtain⟨_,_,_,_,_,sm,_⟩:=h;exact sm.seq hR
 .obtain⟨ts,rfl,ht,hp,⟨y0,y1,rfl⟩,sm,hd⟩:=h;rw [bh] at ex;obtain⟨r,er,rfl⟩:=bR.mp ex;have lr:=(ba.mp er).1;obtain⟨ru,e1⟩:∃ru,es[i]?=some ru:=⟨es[i]'∅,dJ ∅⟩;obtain⟨r',BV,v1⟩:=Paired.at_ df i ru e1;rw [er] at BV;cases BV;have li:=(ba.mp e1).1;refine⟨r,_,rfl,sm.tup v1,rfl,_,_,rfl,_,_,rfl,rfl,?_⟩;refine wm ?_;refine⟨_,rfl,ou,λt iP=>⟨?_,bA (by rw [az];omega),ts++[t],?_,?_,?_,⟨_,_,rfl⟩,?_,ae⟩⟩
  .rw [ai (ao hd iP)];exact hd
  .rw [br];rfl
  .rw [cC,ht];rfl
  .rw [cu,e1,br];have gi:upd H2 t (.tup [.str ru.1,.bl true]) D=some (.lst (ts.map V.ref)):=by rw [ai (ao hd iP)];exact hd
   exact eW (Paired.d_ hp λt' h' z=>aW gi ((ag iP _).tup z)) (aW gi (aX.of ae))
  intro b o hb;rw [ai (λz=>by rw [z,hD] at hb;cases hb)];exact ag iP _ _ _ (sm b o hb)
 obtain⟨ts,rfl,ht,hp,_,sm,hd⟩:=h;rw [az,ll,cb] at hp;exact q ts H2 sm hd hp
end L2
namespace M11
open PySem L2
def vq.sub {aa:List av}{names:List Str}{b:Str->Bool}{bX:List Be}(h:vq aa names b bX):∀q∈vj bX,q.1∈aa.map (·.1)/\q.2∈aa.flatMap (·.2):=by
 induction h with
 | nil=>intro q hq;cases hq
 | @snoc bX k j ru z wd hb er ez _ hw _ ih =>
  intro q hq;unfold vj at hq;rw [br] at hq;rcases cq.mp hq with hq | hq
  .exact ih q hq
  rw [mI,cm] at hq;rw [hq];have hm:=cR er;refine⟨iL hm,?_⟩;unfold oy at hw
  split at hw
  .exact(ih (z,wd) (yP.mp hw)).2
  rw [cm.mp hw];exact mw.mpr ⟨ru,hm,cR ez⟩
def vq.nd {aa:List av}{names:List Str}{b:Str->Bool}{bX:List Be}(h:vq aa names b bX):(vj bX).Nodup:=by
 induction h with
 | nil=>exact kM
 | @snoc bX k j ru z wd hb er ez _ hw hn ih =>
  unfold vj;rw [br];refine iK.mpr ⟨ih,by simp,λx hx y hy e=>?_⟩;rw [mI,cm] at hy;rw [e,hy] at hx;exact hn hx
theorem vM (m:List Str):∀l:List Str,(l.flatMap λn=>m.map λwd=>(n,wd)).length=l.length * m.length
 | []=>by simp
 | n::l=>by
  rw [List.flatMap_cons,cC,vM m l,az,dw,Nat.add_mul];omega
def vq.len {aa:List av}{names:List Str}{b:Str->Bool}{bX:List Be}(h:vq aa names b bX)(hl:aa.length<=100)(h8:∀ru∈aa,ru.2.length<=8):bX.length<=80000:=by
 have h1:=dZ (vj bX) ((aa.map (·.1)).flatMap λn=>(aa.flatMap (·.2)).map λwd=>(n,wd)) h.nd λq hq=>by
  obtain⟨a,c⟩:=h.sub q hq;exact mw.mpr ⟨q.1,a,b_.mpr ⟨q.2,c,rfl⟩⟩
 rw [vM] at h1;have h2:=eG.il aa 100 hl h8;unfold vj at h1;rw [az,az] at h1;have h3:aa.length * (aa.flatMap (·.2)).length<=100 * 800:=Nat.mul_le_mul hl h2;omega
def G5 (aa:List av) (names:List Str)(b:Str->Bool) (n:Nat)(bX:List Be):Prop:=∀k ru,k < n->aa[k]?=some ru->∀j z,j < Bn b ru.2->ru.2[j]?=some z->∀wd∈oy names bX z,(ru.1,wd)∈vj bX
end M11
namespace eG
open PySem L2 M11
section
def zK (K:aT)(C:Addr):Sp:=λvs H Q _=>∃(H0:Hp)(a dx R:Addr)(rs:List Addr)(aa:List av),vs=[.ref a,.ref R]/\aB H0 H/\H0 a=none/\H a=some (.ins C dx [])/\aD K H0 R (rs.map V.ref)/\bN K H0 rs aa/\aa.length<=100/\(∀ru∈aa,ru.2.length<=8) /\
 ∀(e d bg:Addr)(kE:List (aF×V))(aQ:List (Str×Nat))(ps:List (Str×Addr))(bX:List Be)(H':Hp),rH K C H0 H' a e d bg kE aQ ps bX->ps.map (·.1)=hd aa->qX aa aQ->nI aa aa.length aQ->(∀z,(aV kE (Sum.inr z)).isSome=decide (z∈aQ.map (·.1))) ->
  vq aa (hd aa) (λz=>decide (z∈aQ.map (·.1))) bX->G5 aa (hd aa) (λz=>decide (z∈aQ.map (·.1))) aa.length bX->Q .cU H'
def k9:aJ ["self","rules","number","many","rule"] ["self","rules"] (au xX):=ju rfl rfl rfl rfl nofun
def Du {C fF:Addr}{Wf:FuncData}(F:iq K "__init__" "BeginTable.__init__" xX f fd)(T:Txt mg)(B:BC K C)(GE:aM P w K mg base 1 "found_empties" ["rules"] (mP K))(GH:aM P w K mg base 1 "heads_of" ["rules"] (jy K))
  (FF:bf P w K mg base fk 2 fF Wf ["self","number","rule"] (Cr K C))(MF:Meth K C "find_begins" fF)(BF:Binds K Wf ["self","number","rule"] []):bf P w K mg base fk 3 f fd ["self","rules"] (zK K C):=by
 refine F.ok k9 (λvs H Q E h=>?_) (λdr A outer s H vs Q E hr h=>?_)
 .obtain⟨H0,a,dx,R,rs,aa,rfl,_⟩:=h;rfl
 obtain⟨H0,a,dx,R,rs,aa,rfl,s0,f0,ea,hR,df,aZ,h8,q⟩:=h;refine⟨_,aj (ff (pv 0) (cv (GE.mono (by decide:1<=2)) hr rfl (ah (pv 1) ak)) rfl)
  (aj (ff (pv 0) (aY (dj rfl) rfl T.Al eC (ah (bq ["name","number"] [] rfl (a8 (dS (pv 0) rfl)) (a9 rfl rfl) nofun rfl nofun
   (λ_ _ _ _ _=>gU (n:=2) K rfl (aC (ar (i:=0) (show (["name","number"]:List Str).Nodup by decide +kernel) rfl (bM rfl)) (aC (ar (i:=1) (show (["name","number"]:List Str).Nodup by decide +kernel) rfl (bM rfl)) bW))) (λ_ _ _ _ _=>b9)
   (λ_ _ _ _ _=>cy (ah (pv 0) (ah gw ak)))) ak)) rfl)
  (aj (ff (pv 0) (bQ ak) rfl)
  (aj (ff (pv 0) (aY (dj rfl) rfl T.Al eC (ah (bq ["name"] [] rfl (a8 (cv (GH.mono (by decide:1<=2)) hr rfl (ah (pv 1) ak))) (a9 rfl rfl) nofun rfl nofun
   (λ_ _ _ _ _=>ar (i:=0) (show (["name"]:List Str).Nodup by decide +kernel) rfl (bM rfl)) (λ_ _ _ _ _=>b9)
   (λ_ _ _ _ _=>cy (ah (pv 0) (ah fZ ak)))) ak)) rfl)
  (aj (aI (i:=3) k9.nd rfl (bM rfl) (Hj Cb aA))
  (aq (jj cS (bT sk (pv 3) (bL d8 rfl T.len kN (ah (dS (pv 0) rfl) ak)) (cE _))
   (aj (aI (i:=3) k9.nd rfl (bM rfl) (bL d8 rfl T.len kN (ah (dS (pv 0) rfl) ak)))
   (aq (cx cS rfl (lG rfl T.Gv (ah (pv 1) ak)) (eJ rfl (aC (ar (i:=2) k9.nd rfl (bM rfl)) (aC (ar (i:=4) k9.nd rfl (bM rfl)) bW)))
    (aq (cD (zX (pv 0) B.cls MF FF hr BF .nil sf (ah (pv 2) (ah (pv 4) ak)))))))))))))),?_⟩
 nofun
 have ll:=bF df;refine⟨_,rfl,R,rs,aa,rfl,s0.seq hR,df.same s0,∅,h8,λD1 AF aQ H1 f1 s1 e1 w1 emp Bp=>?_⟩;have TY:=s1 _ _ ea;refine⟨_,rfl,a,C,dx,[],rfl,TY,B.cls,B.a1,(by show 0 < 1000;decide),?_⟩;have e2:upd H1 a (.ins C dx (c_ "empties" (.ref D1) [])) D1=some (.lst (AF.map V.ref)):=by rw [ai (λz=>by rw [z,TY] at e1;cases e1)];exact e1
 have w2:nF K (upd H1 a (.ins C dx (c_ "empties" (.ref D1) []))) AF aQ:=w1.keep λ_ _ z=>fX TY z;have I8:aB H0 (upd H1 a (.ins C dx (c_ "empties" (.ref D1) []))):=λc o hc=>by rw [ai (λz=>by rw [z,f0] at hc;cases hc)];exact s1 _ _ (s0 c o hc)
 have Om:upd H1 a (.ins C dx (c_ "empties" (.ref D1) [])) a=some (.ins C dx (c_ "empties" (.ref D1) [])):=ae;generalize upd H1 a (.ins C dx (c_ "empties" (.ref D1) []))=H2 at e2 w2 I8 Om;have lets:=emp.len;refine⟨_,rfl,a,C,dx,_,_,rfl,Om,B.cls,B.a1,rfl,D1,rfl,⟨_,aD.of e2⟩,λD2 iQ=>wH (aD.of e2) w2 ∅ iQ λjR H3 s3 e3 p3=>?_⟩;have kp:Paired (λt (kv:aF×V)=>aX K H3 t [kV kv.1,kv.2]) jR ((aQ.map (·.1)).map λh=>((Sum.inr h:aF),V.bl true)):=cf p3 λ_ _ z=>z;refine⟨D2,jR,_,rfl,e3,kp,λe he=>?_⟩;have A3:∀z,(aV (cA ((aQ.map (·.1)).map λh=>((Sum.inr h:aF),V.bl true)) []) (Sum.inr z)).isSome=decide (z∈aQ.map (·.1)):=λz=>by
  rw [pN];by_cases c:z∈aQ.map (·.1)
  .rw [aw c,dO c];rfl
  rw [ay c,eM c];rfl
 generalize cA ((aQ.map (·.1)).map λh=>((Sum.inr h:aF),V.bl true)) []=kE at A3;have Va:=(I8.trans s3).trans (ag he (.dK kE));have Kv:=ag he (.dK kE) _ _ (s3 _ _ Om);have P6:upd H3 e (.dK kE) e=some (.dK kE):=ae;have Hf:aB H2 (upd H3 e (.dK kE)):=s3.trans (ag he (.dK kE));generalize upd H3 e (.dK kE)=H4 at Va Kv P6 Hf;have T9:=Hf _ _ e2;have Xa:nF K H4 AF aQ:=w2.keep λ_ _ z=>Hf.tup z;refine⟨_,rfl,a,C,dx,_,rfl,Kv,B.cls,B.a2,(by show 1 < 1000;decide),?_⟩;generalize SK:c_ "empty" (.ref e) (c_ "empties" (.ref D1) [])=HK;have Ol:upd H4 a (.ins C dx HK) e=some (.dK kE):=by rw [ai (λz=>by rw [z,Kv] at P6;cases P6)];exact P6
 have QV:aB H0 (upd H4 a (.ins C dx HK)):=λc o hc=>by rw [ai (λz=>by rw [z,f0] at hc;cases hc)];exact Va c o hc
 have WD:upd H4 a (.ins C dx HK) a=some (.ins C dx HK):=ae;have T8:upd H4 a (.ins C dx HK) D1=some (.lst (AF.map V.ref)):=by rw [ai (λz=>by rw [z,Kv] at T9;cases T9)];exact T9
 have US:nF K (upd H4 a (.ins C dx HK)) AF aQ:=Xa.keep λ_ _ z=>fX Kv z;generalize upd H4 a (.ins C dx HK)=H5 at Ol QV WD T8 US;refine⟨pL,λbg JW=>?_⟩;have fbg:H0 bg=none:=QV.free JW;have P8:upd H5 bg (.lst []) bg=some (.lst []):=ae;have U_:=QV.trans (ag JW (.lst []));have Bq:=ag JW (.lst []) _ _ Ol;have LD:=ag JW (.lst []) _ _ WD;have RA:D1≠bg:=ao T8 JW;have Qb:=ag JW (.lst []) _ _ T8;have UR:nF K (upd H5 bg (.lst [])) AF aQ:=US.keep λ_ _ z=>(ag JW (.lst [])).tup z;generalize upd H5 bg (.lst [])=H6 at P8 U_ Bq LD Qb UR;refine⟨_,rfl,a,C,dx,_,rfl,LD,B.cls,B.a3,(by rw [<-SK];show 2 < 1000;decide),?_⟩;generalize VX:c_ "begins" (.ref bg) HK=Gq;have BX:upd H6 a (.ins C dx Gq) e=some (.dK kE):=by rw [ai (λz=>by rw [z,LD] at Bq;cases Bq)];exact Bq
 have WB:upd H6 a (.ins C dx Gq) bg=some (.lst []):=by rw [ai (λz=>by rw [z,LD] at P8;cases P8)];exact P8
 have I0:aB H0 (upd H6 a (.ins C dx Gq)):=λc o hc=>by rw [ai (λz=>by rw [z,f0] at hc;cases hc)];exact U_ c o hc
 have WC:upd H6 a (.ins C dx Gq) a=some (.ins C dx Gq):=ae;have WK:upd H6 a (.ins C dx Gq) D1=some (.lst (AF.map V.ref)):=by rw [ai (λz=>by rw [z,LD] at Qb;cases Qb)];exact Qb
 have UQ:nF K (upd H6 a (.ins C dx Gq)) AF aQ:=UR.keep λ_ _ z=>fX LD z;generalize upd H6 a (.ins C dx Gq)=H7 at BX WB I0 WC WK UQ;refine⟨_,rfl,R,rs,aa,rfl,I0.seq hR,df.same I0,∅,λD4 H8 f8 s8 e8=>?_⟩;have A5:=fg (aa.map (·.1)) [];simp only [gO,az] at A5;refine⟨D4,rfl,⟨_,aD.of e8⟩,λD5 Lr=>wI (aD.of e8) ∅ Lr λts ps H9 s9 e9 m9 p9 l9 n9=>?_⟩;have n1:(ps.map (·.1)).Nodup:=by rw [m9];exact ny _ kM
 have DG:Paired (λt (kv:aF×V)=>aX K H9 t [kV kv.1,kv.2]) ts (ps.map ir):=cf p9 λ_ _ z=>z;refine⟨D5,ts,_,rfl,e9,DG,λd oC=>?_⟩;have Og:cA (ps.map ir) []=ps.map ir:=lW _ [] (by
  rw [mr,lJ];exact uP n1)
 rw [Og];have K6:=s8.trans s9;have sd:=ag oC (.dK (ps.map ir));have xY:=K6.trans sd;have oG:upd H9 d (.dK (ps.map ir)) d=some (.dK (ps.map ir)):=ae;have Jr:∀p∈ps,upd H9 d (.dK (ps.map ir)) p.2=some (.dK [])/\p.2≠d:=λp hp=>⟨sd _ _ (l9 p hp).1,λz=>by have:=(l9 p hp).1;rw [z,oC] at this;cases this⟩;generalize upd H9 d (.dK (ps.map ir))=vf at xY oG Jr;have yZ:=xY _ _ WC;have nv:=xY _ _ BX;have Ku:=xY _ _ WB;have QW:=I0.trans xY;have Kz:=xY _ _ WK;have Qw:nF K vf AF aQ:=UQ.keep λ_ _ z=>xY.tup z;refine⟨_,rfl,a,C,dx,_,rfl,yZ,B.cls,B.a4,(by rw [<-VX,<-SK];show 3 < 1000;decide),?_⟩;have fp:∀p∈ps,H0 p.2=none/\p.2≠e:=λp hp=>by
  have V_:H8 p.2=none:=(l9 p hp).2.1;refine⟨(I0.trans s8).free V_,λz=>?_⟩;have:=s8 _ _ BX;rw [<-z,V_] at this;cases this
 have Zy:∃fs,c_ "firsts" (.ref d) Gq=fs/\fs.lookup ("empty":Str)=some (.ref e)/\fs.lookup ("begins":Str)=some (.ref bg)/\fs.lookup ("firsts":Str)=some (.ref d)/\fs.lookup ("find_begins":Str)=none/\fs.lookup ("words_of_part":Str)=none/\fs.lookup ("empties":Str)=some (.ref D1):=by
  refine⟨_,rfl,?_⟩;rw [<-VX,<-SK];refine⟨?_,?_,?_,?_,?_,?_⟩ <;> rfl
 obtain⟨fs,efs,k1,k2,k3,k4,k5,k6⟩:=Zy;rw [efs];have B4:rH K C H0 (upd vf a (.ins C dx fs)) a e d bg kE aQ ps []:=by
  refine⟨λc o hc=>by rw [ai (λz=>by rw [z,f0] at hc;cases hc)];exact QW c o hc,⟨dx,fs,ae,k1,k2,k3,k4,k5⟩,?_,?_,n1,n9,λp hp=>⟨⟨[],?_,rfl⟩,(fp p hp).1,(fp p hp).2,(Jr p hp).2⟩,⟨[],?_,.nil⟩,fbg,⟨D1,AF,⟨dx,fs,ae,k6⟩,by rw [ai (λz=>by rw [z,yZ] at Kz;cases Kz)];exact Kz,Qw.keep λ_ _ z=>fX yZ z,RA⟩⟩
  .rw [ai (λz=>by rw [z,yZ] at nv;cases nv)];exact nv
  .rw [ai (λz=>by rw [z,yZ] at oG;cases oG)];exact oG
  .have:=(Jr p hp).1;rw [ai (λz=>by rw [z,yZ] at this;cases this)];exact this
  rw [ai (λz=>by rw [z,yZ] at Ku;cases Ku)];exact Ku
 generalize upd vf a (.ins C dx fs)=xn at B4;have eb:(λz=>(aV kE (Sum.inr z)).isSome)=λz=>decide (z∈aQ.map (·.1)):=funext A3;refine⟨1,rfl,?_⟩;refine⟨λmm σ qV=>∃(bX:List Be) (many:Int)(y2 y4:Option V),σ=[bu a,bu R,y2,some (.int many),y4]/\rH K C H0 qV a e d bg kE aQ ps bX/\vq aa (hd aa) (λz=>decide (z∈aQ.map (·.1))) bX/\-1<=many/\many<=bX.length /\
  (many=bX.length->G5 aa (hd aa) (λz=>decide (z∈aQ.map (·.1))) aa.length bX)/\(mm:Int)=80001 - many,⟨80002,[],-1,none,none,rfl,B4,.nil,∅,by simp,by simp,∅⟩,?_⟩
 rintro mm σ qV ⟨bX,many,y2,y4,rfl,Fb,KJ,b1,b2,cl,em⟩;obtain⟨Qa,rp,q1,q2,q3,q4,q5,q6⟩:=Fb.ia;obtain⟨tb,V4,JZ⟩:=Fb.lb;have lb:=bF JZ;have Ju:=KJ.len aZ h8;refine⟨_,rfl,_,rfl,a,C,Qa,rp,_,rfl,q1,B.cls,B.a3,q3,bg,_,rfl,.inl (aD.of V4),_,_,rfl,rfl,_,rfl,?_⟩;refine dW (λc=>?_) (λc=>?_)
 .have c':=eh c;rw [az,lb] at c';refine⟨λσ tI=>∃(di:List Be)(y2 y4:Option V),σ=[bu a,bu R,y2,some (.int (bX.length:Int)),y4]/\rH K C H0 tI a e d bg kE aQ ps di/\vq aa (hd aa) (λz=>decide (z∈aQ.map (·.1))) di/\bX.length<=di.length /\
   (di.length=bX.length->di=bX/\G5 aa (hd aa) (λz=>decide (z∈aQ.map (·.1))) aa.length bX),?_,?_⟩
  .rintro σ tI ⟨di,y2,y4,rfl,EI,BH,RS,HZ⟩;have:=BH.len aZ h8;refine⟨(80001 - bX.length:Int).toNat,∅,di,_,_,_,rfl,EI,BH,∅,∅,λz=>?_,∅⟩;obtain⟨Gy,Br⟩:=HZ ∅;rw [Gy];exact Br
  refine⟨_,rfl,a,C,Qa,rp,_,rfl,q1,B.cls,B.a3,q3,bg,_,rfl,.inl (aD.of V4),?_⟩;rw [az,lb];refine⟨_,rfl,R,_,rfl,Fb.sm.seq hR,?_⟩;refine jr (xs:=rs.map V.ref) (λi σ tI=>∃(di:List Be)(y2 y4:Option V),σ=[bu a,bu R,y2,some (.int (bX.length:Int)),y4]/\rH K C H0 tI a e d bg kE aQ ps di/\vq aa (hd aa) (λz=>decide (z∈aQ.map (·.1))) di/\bX.length<=di.length /\
   (di.length=bX.length->di=bX/\G5 aa (hd aa) (λz=>decide (z∈aQ.map (·.1))) i bX)) ⟨bX,_,_,rfl,Fb,KJ,aH _,λ_=>⟨rfl,λk ru hk=>by omega⟩⟩ ?_ ?_ ?_
  .rintro i σ tI _ ⟨di,y2,y4,rfl,EI,_⟩;exact EI.sm.seq hR
  .rintro i x σ tI t ex ⟨di,y2,y4,rfl,EI,BH,RS,HZ⟩ ht
   ac_nf0
   rw [bh] at ex;obtain⟨r,er,rfl⟩:=bR.mp ex;obtain⟨ru,qF,rv⟩:=df.get er;have nq:=cR qF;have OO:=EI.same (ag ht (.tup [.int (i:Int),.ref r]));have Nl:aX K (upd tI t (.tup [.int (i:Int),.ref r])) t [.int (i:Int),.ref r]:=aX.of ae;generalize upd tI t (.tup [.int (i:Int),.ref r])=UL at OO Nl;obtain⟨dx4,Lv,r1,r2,r3,r4,r5,r6⟩:=OO.ia;refine⟨t,_,rfl,Nl,rfl,_,_,rfl,_,_,rfl,rfl,?_⟩;refine⟨_,rfl,a,dx4,Lv,rfl,r1,r5,_,rfl,_,rfl,H0,a,e,d,bg,r,kE,aQ,ps,di,i,ru,aa,rfl,OO,rv,qF,h8 ru nq,by rw [m9];exact(dN _ _ _).mpr (.inr (iL nq)),?_,?_,?_⟩
   .intro u_ uZ;have:=uZ.len aZ h8;omega
   .rw [m9,eb];exact BH
   rw [m9,eb];intro Uj H15 UE Ui l15 Ue;refine⟨Uj,_,_,rfl,UE,Ui,∅,λhl3=>?_⟩;obtain⟨x1,x2⟩:=HZ ∅;obtain⟨x3,x4⟩:=Ue ∅;refine⟨x3.trans x1,λk w5 hk Tz j z hj ez wd hw=>?_⟩;by_cases ck:k < i
   .exact x2 k w5 ck Tz j z hj ez wd hw
   have:k=i:=by omega
   subst this;rw [qF] at Tz;cases Tz;rw [<-x1] at hw ⊢;exact x4 j z hj ez wd hw
  rintro σ tI ⟨di,y2,y4,rfl,EI,BH,RS,HZ⟩;rw [az,ll] at HZ;exact⟨di,_,_,rfl,EI,BH,RS,HZ⟩
 have c':=of_decide_eq_false (mD.mpr c);rw [az,lb] at c';exact q e d bg kE aQ ps bX qV Fb m9 emp Bp A3 KJ (cl ∅)
end
end eG
namespace L2
open PySem PySem.W
section
variable {X:Cx}{af:List (Addr×Obj)}{σ:St}{H:Hp}{s:Shared}{a:Addr}{kvs:List (aF×V)}{k:aF}{u:Value}{A:Around}{E:Value->Shared->Prop}
def Kx {z:V}{r:Value}{Q:Value->Shared->Prop}(I:Inv X af σ H s)(e:H a=some (.dK kvs))(hl:kvs.length < sizeLine)(ry:RelV (kV k) u)(rz:RelV z r)
  (h1:∀v w' s',aV kvs k=some v->Inv X af σ H s'->RelV v w'->Q w' s')(h2:aV kvs k=none->∀s',Inv X af σ (upd H a (.dK (bc kvs k z))) s'->Q r s') :
  wpAny (model X.prog X.w) A (call (.builtin "dict.setdefault") [.ref a,u,r]) Q E s:=by
 obtain⟨zl,hd,vs,rel,dd⟩:=wA I.bo e;refine call_meetsIn PySem.F.slot_dict_setdefault dd.typeIs PySem.F.entry_dict_setdefault (PySem.F.args_dict_setdefault_3 _ _ _) (kt_meets_setdefault (aS X.prog X.w) a (jU ry) hd r)
  ⟨vs,dd,by rw [<-rel.length];exact zl,λv hv=>?_,λhn h' E9 hs=>?_⟩
 .have rv:=rel.val k;rw [hv] at rv;cases e2:aV kvs k with
  | none=>rw [e2] at rv;cases rv
  | some x=>rw [e2] at rv;exact h1 x v _ e2 (I.tok _) rv
 have Bd:aV kvs k=none:=by
  have rv:=rel.val k;rw [hn] at rv;cases e2:aV kvs k with
  | none=>rfl
  | some x=>rw [e2] at rv;cases rv
 have he:∃q,h'.get? a=some q:=let ⟨q,_,_,hq,_⟩:=E9;⟨q,hq⟩;exact h2 Bd _ (o7 I (by rw [e];exact True.intro) hs he (qH (by have:=dU kvs k z;omega) hd (rel.put k rz) E9))
end
section
variable {X:Cx}{o e f:Expr}{apos gh:Pos}{td ty tx:TE}
def IF (td ty tx:TE):TE:=λσ H Q=>td σ H λx H1=>∃a,x=.ref a/\Qi H1 a/\ty σ H1 λy H2=>tx σ H2 λz H3=>∃kvs k,H3 a=some (.dK kvs)/\y=kV k/\kvs.length < sizeLine /\
 (∀v,aV kvs k=some v->Q v H3)/\(aV kvs k=none->Q z (upd H3 a (.dK (bc kvs k z))))
def C5 (ho:PE X o td)(he:PE X e ty)(hf:PE X f tx)(m:M2 X o "setdefault" apos e f gh):PE X (.Call (.Attribute o "setdefault" apos) [e,f] [] gh) (IF td ty tx):=by
 intro af s σ H Q I h;refine wpAny_Call_method m.base m.HL m.line xt PySem.F.slot_dict_setdefault PySem.F.type_dict_setdefault (b8 (ho af s σ H _ I h) λu s1 aR=>?_);obtain⟨x,H1,I1,rx,a,ex,d,q1⟩:=aR;subst ex;obtain rfl:u=Value.ref a:=rx;obtain⟨t1,t2,_⟩:=yI I1 d;refine⟨t1,t2,?_⟩;rw [m.trees];refine t_ rfl (tS (mx (b8 (he af s1 σ H1 _ I1 q1) λiv s2 ⟨y,H2,I2,ry,q2⟩ =>
  mx (b8 (hf af s2 σ H2 _ I2 q2) λfv s3 ⟨z,H3,I3,rz,kvs,k,ea,ey,hl,q3,q4⟩=>Calls.spliced_nil ?_))))
 subst ey;exact Kx I3 ea hl ry rz (λv w' s4 l I4 x8=>⟨v,_,I4,x8,q3 v l⟩) λl s4 I4=>⟨z,_,I4,rz,q4 l⟩
end
end L2
namespace eG
open PySem L2 M11
section
def MD {ps:List (Str×Addr)}(n1:(ps.map (·.1)).Nodup)(n2:(ps.map (·.2)).Nodup){p p':Str×Addr}(hp:p∈ps)(nj:p'∈ps)(z:p'≠p):p'.1≠p.1/\p'.2≠p.2:=by
 refine⟨λq=>z ?_,λq=>z ?_⟩
 .have w1:=fu ps n1 p' nj;have w2:=fu ps n1 p hp;rw [q,w2] at w1;injection w1 with w3;injection w3 with w4;exact Prod.ext q w4.symm
 obtain⟨i,hi,ei⟩:=px.mp nj;obtain⟨j,hj,ej⟩:=px.mp hp;have Bg:i=j:=by
  refine(tL (xs:=ps.map (·.2)) (h₀:=by simpa using hi) (h₁:=by simpa using hj) n2).mp ?_;rw [mv,mv,ei,ej];exact q
 subst Bg;exact ei.symm.trans ej
structure Fc (ps:List (Str×Addr))(st:Str->List Int)(H:Hp)(d:Addr):Prop where
 hd:H d=some (.dK (ps.map ir))
 n1:(ps.map (·.1)).Nodup
 n2:(ps.map (·.2)).Nodup
 lst:∀p∈ps,H p.2=some (.lst ((st p.1).map V.int))
def Fc.same {ps:List (Str×Addr)}{st:Str->List Int}{H H':Hp}{d:Addr}(h:Fc ps st H d)(s:aB H H'):Fc ps st H' d:=⟨s _ _ h.hd,h.n1,h.n2,λp hp=>s _ _ (h.lst p hp)⟩
def Ar (st:Str->List Int)(n:Str) (k:Int):Str->List Int:=λz=>if z=n then st z++[k] else st z
def Fc.more {ps:List (Str×Addr)}{st:Str->List Int}{H:Hp}{d:Addr}(h:Fc ps st H d){p:Str×Addr}(hp:p∈ps) (k:Int):Fc ps (Ar st p.1 k) (upd H p.2 (.lst ((st p.1).map V.int++[.int k]))) d:=by
 have a:=h.lst p hp;have nd:d≠p.2:=λz=>by have:=h.hd;rw [z,a] at this;cases this
 refine⟨by rw [ai nd];exact h.hd,h.n1,h.n2,λp' nj=>?_⟩;by_cases z:p'=p
 .rw [z,ae];have e1:Ar st p.1 k p.1=st p.1++[k]:=aw rfl;rw [e1,br];rfl
 obtain⟨a1,a2⟩:=MD h.n1 h.n2 hp nj z;have e1:Ar st p.1 k p'.1=st p'.1:=ay a1;rw [ai a2,e1];exact h.lst p' nj
def Cq (K:aT):Sp:=λvs H Q _=>∃(R:Addr)(rs:List Addr)(aa:List av),vs=[.ref R]/\aD K H R (rs.map V.ref)/\bN K H rs aa/\aa.length<=1000 /\
 ∀(d:Addr)(ps:List (Str×Addr))(H':Hp),H d=none->aB H H'->Fc ps (λn=>nums aa n aa.length) H' d->ps.map (·.1)=hd aa->(∀p∈ps,H p.2=none)->Q (.ref d) H'
def uz:aJ ["rules","numbers","number","rule"] ["rules"] (au CA):=ju rfl rfl rfl rfl nofun
def FO (F:iq K "numbers_by_name" "numbers_by_name" CA f fd)(T:Txt mg)(GH:aM P w K mg base 1 "heads_of" ["rules"] (jy K)):bf P w K mg base fk 2 f fd ["rules"] (Cq K):=by
 refine F.ok uz (λvs H Q E h=>?_) (λdr A outer s H vs Q E hr h=>?_)
 .obtain⟨R,rs,aa,rfl,_⟩:=h;rfl
 obtain⟨R,rs,aa,rfl,hR,df,aZ,q⟩:=h;have hu:=f_ hr;refine⟨_,aj (aI (i:=1) uz.nd rfl (bM rfl) (aY (dj rfl) rfl T.Al eC (ah
   (bq ["name"] [] rfl (a8 (cv GH hr rfl (ah (pv 0) ak))) (a9 rfl rfl) nofun rfl nofun
    (λ_ _ _ _ _=>ar (i:=0) (show (["name"]:List Str).Nodup by decide +kernel) rfl (bM rfl)) (λ_ _ _ _ _=>b9)
    (λ_ _ _ _ _=>cy (ah (pv 0) (ah (bQ ak) ak)))) ak)))
  (aj (cx cS rfl (lG rfl T.Gv (ah (pv 0) ak)) (eJ rfl (aC (ar (i:=2) uz.nd rfl (bM rfl)) (aC (ar (i:=3) uz.nd rfl (bM rfl)) bW)))
   (aq (cD (hZ iN i6 i7 cN (dY hu (pv 1) (bz cO (pv 3) aA (λ_ _=>rfl)) (λ_ _=>rfl)) (ah (pv 2) ak)))))
  (aq (bO (pv 1)))),?_⟩
 nofun
 have ll:=bF df;refine⟨_,rfl,R,rs,aa,rfl,hR,df,aZ,λD2 H3 f3 s3 e3=>?_⟩;have A5:=fg (aa.map (·.1)) [];simp only [gO,az] at A5;refine⟨D2,rfl,⟨_,aD.of e3⟩,λD3 HJ=>qM (aD.of e3) ∅ HJ λts ps H4 s4 e4 m4 p4 l4 n4=>?_⟩;have n1:(ps.map (·.1)).Nodup:=by rw [m4];exact ny _ kM
 have DG:Paired (λt (kv:aF×V)=>aX K H4 t [kV kv.1,kv.2]) ts (ps.map ir):=cf p4 λ_ _ z=>z;refine⟨D3,ts,_,rfl,e4,DG,λd oC=>?_⟩;have Og:cA (ps.map ir) []=ps.map ir:=lW _ [] (by
  rw [mr,lJ];exact uP n1)
 rw [Og];have s5:=(s3.trans s4).trans (ag oC (.dK (ps.map ir)));have vH:=ag oC (.dK (ps.map ir));have vm:H d=none:=(s3.trans s4).free oC;have S5:Fc ps (λn=>nums aa n 0) (upd H4 d (.dK (ps.map ir))) d:=⟨ae,n1,n4,λp hp=>vH _ _ (l4 p hp).1⟩;have Lw:∀p∈ps,H p.2=none:=λp hp=>s3.free (l4 p hp).2.1;generalize upd H4 d (.dK (ps.map ir))=H5 at s5 S5;clear vH;refine⟨_,rfl,R,_,rfl,s5.seq hR,?_⟩
 let wV:vp:=λi σ H6=>∃(y2 y3:Option V),σ=[bu R,bu d,y2,y3]/\aB H H6/\Fc ps (λn=>nums aa n i) H6 d
 refine jr (xs:=rs.map V.ref) wV ⟨none,none,rfl,s5,S5⟩ ?_ ?_ ?_
 .rintro i σ H6 _ ⟨y2,y3,rfl,s6,_⟩;exact s6.seq hR
 .rintro i x σ H6 t ex ⟨y2,y3,rfl,s6,S6⟩ ht
  ac_nf0
  rw [bh] at ex;obtain⟨r,er,rfl⟩:=bR.mp ex;obtain⟨ru,qF,p,v1,v2⟩:=df.get er;have nq:=cR qF;have li:=(ba.mp qF).1;have EV:=ag ht (.tup [.int (i:Int),.ref r]);have HB:aX K (upd H6 t (.tup [.int (i:Int),.ref r])) t [.int (i:Int),.ref r]:=aX.of ae;have s7:=s6.trans EV;have S7:=S6.same EV;generalize upd H6 t (.tup [.int (i:Int),.ref r])=H7 at HB s7 S7;obtain⟨pn,wb,xj⟩:∃pn∈ps,pn.1=ru.1:=by
   have:ru.1∈ps.map (·.1):=by rw [m4];exact(dN _ _ _).mpr (.inr (iL nq))
   obtain⟨pn,a,b⟩:=b_.mp this;exact⟨pn,a,b⟩
  have an:=S7.lst pn wb;have vn:=fu ps n1 pn wb;rw [xj] at vn;have hg:bV H7 d (.str ru.1) (some (.ref pn.2)):=by
   have:=bV.k (k:=Sum.inr ru.1) S7.hd;rw [vn] at this;exact this
  have ln:=vQ aa pn.1 i;refine⟨t,_,rfl,HB,rfl,_,_,rfl,_,_,rfl,rfl,?_⟩;refine⟨_,rfl,_,rfl,r,_,_,_,rfl,rfl,s7.tup v1,rfl,d,_,rfl,hg,.inl ⟨rfl,_,aD.of an⟩,_,rfl,pn.2,_,_,rfl,rfl,an,bA (by rw [az];omega),?_⟩;have S8:=S7.more wb (i:Int);refine⟨_,_,rfl,λb o hb=>by rw [ai (λz=>by rw [z,Lw pn wb] at hb;cases hb)];exact s7 b o hb,S8.hd,S8.n1,S8.n2,λp' nj=>?_⟩;have:=S8.lst p' nj;rw [this]
  congr 3
  unfold Ar;rw [AX];by_cases c:p'.1=pn.1
  .rw [aw c,aw];unfold Lc;rw [qF,c,xj];simp
  rw [ay c,ay,eX];unfold Lc;rw [qF];intro z;have z2:=eh z;injection z2 with z3;exact c (by rw [xj];exact z3.symm)
 rintro σ H6 ⟨y2,y3,rfl,s6,S6⟩;rw [az,ll] at S6;exact⟨_,rfl,q d ps H6 vm s6 S6 m4 Lw⟩
def G9 (K:aT):Sp:=λvs H Q _=>∃(R:Addr)(rs:List Addr)(aa:List av),vs=[.ref R]/\aD K H R (rs.map V.ref)/\bN K H rs aa/\aa.length<=1000/\(∀ru∈aa,ru.2.length<=8) /\
 ∀(d:Addr)(H':Hp),H d=none->aB H H'->Q (.ref d) H'
structure B0 (H0 H:Hp)(d:Addr)(kvs:List (aF×V)) (n:Nat):Prop where
 hd:H d=some (.dK kvs)
 ln:kvs.length<=n
 lst:∀kv∈kvs,∃a xs,kv.2=.ref a/\H a=some (.lst xs)/\H0 a=none/\xs.length<=n
def B0.same {H0 H H':Hp}{d:Addr}{kvs:List (aF×V)}{n:Nat}(h:B0 H0 H d kvs n)(s:aB H H'):B0 H0 H' d kvs n:=⟨s _ _ h.hd,h.ln,λkv hk=>let ⟨a,xs,e1,e2,e3,e4⟩:=h.lst kv hk;⟨a,xs,e1,s _ _ e2,e3,e4⟩⟩
def B0.more {H0 H:Hp}{d a:Addr}{kvs:List (aF×V)}{n:Nat}{xs:List V}{y:V}(h:B0 H0 H d kvs (n+1))(ha:H a=some (.lst xs))(lx:xs.length<=n)(l2:∀kv∈kvs,∃a xs,kv.2=.ref a/\H a=some (.lst xs)/\H0 a=none/\xs.length<=n):B0 H0 (upd H a (.lst (xs++[y]))) d kvs (n+1):=by
 have nd:d≠a:=λz=>by have:=h.hd;rw [z,ha] at this;cases this
 refine⟨by rw [ai nd];exact h.hd,h.ln,λkv hk=>?_⟩;obtain⟨b,ys,e1,e2,e3,e4⟩:=l2 kv hk;by_cases c:b=a
 .exact⟨b,xs++[y],e1,by rw [c,ae],e3,by rw [cC];simp;omega⟩
 exact⟨b,ys,e1,by rw [ai c];exact e2,e3,∅⟩
def Iv {kvs:List (aF×V)}{k:aF}{v:V}(h:aV kvs k=some v):∃kv∈kvs,kv.2=v:=by
 unfold aV at h;obtain⟨kv,e1,e2⟩:=bR.mp h;exact⟨kv,List.mem_of_find?_eq_some e1,e2⟩
def rW:aJ ["rules","standings","number","rule","place","part"] ["rules"] (au IQ):=ju rfl rfl rfl rfl nofun
def Ji (F:iq K "standings_by_part" "standings_by_part" IQ f fd)(T:Txt mg):bf P w K mg base fk 1 f fd ["rules"] (G9 K):=by
 refine F.ok rW (λvs H Q E h=>?_) (λdr A outer s H vs Q E hr h=>?_)
 .obtain⟨R,rs,aa,rfl,_⟩:=h;rfl
 obtain⟨R,rs,aa,rfl,hR,df,aZ,h8,q⟩:=h;have hu:=f_ hr;refine⟨_,aj (aI (i:=1) rW.nd rfl (bM rfl) fZ)
  (aj (cx cS rfl (lG rfl T.Gv (ah (pv 0) ak)) (eJ rfl (aC (ar (i:=2) rW.nd rfl (bM rfl)) (aC (ar (i:=3) rW.nd rfl (bM rfl)) bW)))
   (aq (cx cS rfl (lF rfl T.Gv (ah (bz cO (pv 3) aA (λ_ _=>rfl)) ak)) (eJ rfl (aC (ar (i:=4) rW.nd rfl (bM rfl)) (aC (ar (i:=5) rW.nd rfl (bM rfl)) bW)))
    (aq (cD (hZ iN i6 i7 cN (C5 (pv 1) (pv 5) (bQ ak) ⟨rfl,rfl,rfl,rfl⟩) (ah (cy (ah (pv 2) (ah (pv 4) ak))) ak)))))))
  (aq (bO (pv 1)))),?_⟩
 nofun
 have ll:=bF df;intro d oC;have s1:=ag oC (.dK []);have S1:B0 H (upd H d (.dK [])) d [] (8 * 0):=⟨ae,aH _,λkv hk=>by cases hk⟩;generalize upd H d (.dK [])=H1 at s1 S1;refine⟨_,rfl,R,_,rfl,s1.seq hR,?_⟩
 let EL:vp:=λi σ H6=>∃(kvs:List (aF×V))(y2 y3 y4 y5:Option V),σ=[bu R,bu d,y2,y3,y4,y5]/\aB H H6/\B0 H H6 d kvs (8 * i)
 refine jr (xs:=rs.map V.ref) EL ⟨[],none,none,none,none,rfl,s1,S1⟩ ?_ ?_ ?_
 .rintro i σ H6 _ ⟨kvs,y2,y3,y4,y5,rfl,s6,_⟩;exact s6.seq hR
 .rintro i x σ H6 t ex ⟨kvs,y2,y3,y4,y5,rfl,s6,S6⟩ ht
  ac_nf0
  rw [bh] at ex;obtain⟨r,er,rfl⟩:=bR.mp ex;obtain⟨ru,qF,p,v1,v2⟩:=df.get er;have nq:=cR qF;have Ls:=h8 ru nq;have li:=(ba.mp qF).1;have EV:=ag ht (.tup [.int (i:Int),.ref r]);have HB:aX K (upd H6 t (.tup [.int (i:Int),.ref r])) t [.int (i:Int),.ref r]:=aX.of ae;have s7:=s6.trans EV;have S7:=S6.same EV;generalize upd H6 t (.tup [.int (i:Int),.ref r])=H7 at HB s7 S7;refine⟨t,_,rfl,HB,rfl,_,_,rfl,_,_,rfl,rfl,?_⟩;refine⟨_,rfl,r,_,_,_,rfl,rfl,s7.tup v1,rfl,p,_,rfl,s7.tup v2,?_⟩
  let UK:vp:=λj σ H9=>∃(kvs:List (aF×V))(y4 y5:Option V),σ=[bu R,bu d,some (.int (i:Int)),bu r,y4,y5]/\aB H H9/\B0 H H9 d kvs (8 * i+j)
  refine nu (xs:=ru.2.map V.str) UK ⟨kvs,_,_,rfl,s7,S7⟩ ?_ ?_ ?_
  .rintro j σ H9 _ ⟨kvs,y4,y5,rfl,s9,_⟩;exact s9.tup v2
  .rintro j x σ H9 t2 yU ⟨kvs,y4,y5,rfl,s9,S9⟩ iP
   ac_nf0
   rw [bh] at yU;obtain⟨z,ez,rfl⟩:=bR.mp yU;have lj:=(ba.mp ez).1;have vG:=ag iP (.tup [.int (j:Int),.str z]);have DM:aX K (upd H9 t2 (.tup [.int (j:Int),.str z])) t2 [.int (j:Int),.str z]:=aX.of ae;have n8:=s9.trans vG;have Ih:=S9.same vG;generalize upd H9 t2 (.tup [.int (j:Int),.str z])=vf at DM n8 Ih;refine⟨t2,_,rfl,DM,rfl,_,_,rfl,_,_,rfl,rfl,?_⟩;have lk:=Ih.ln;refine⟨_,rfl,d,rfl,.inl ⟨kvs,.inl Ih.hd⟩,_,rfl,pL,λl hl=>?_⟩;have vi:=ag hl (.lst []);have xl:upd vf l (.lst []) l=some (.lst []):=ae;have fl:H l=none:=n8.free hl;have B4:=Ih.same vi;have sA:=n8.trans vi;generalize upd vf l (.lst [])=xn at vi xl B4 sA;have fin:∀(a:Addr)(xs:List V)(kj:List (aF×V))(qV:Hp),qV a=some (.lst xs)->H a=none->xs.length<=8 * i+j->B0 H qV d kj (8 * i+j+1)->(∀kv∈kj,∃a xs,kv.2=.ref a/\qV a=some (.lst xs)/\H a=none/\xs.length<=8 * i+j)->aB H qV ->
     ∀t4,qV t4=none->xs.length < sizeLine/\∃(kvs:List (aF×V))(y4 y5:Option V),[some (V.ref R),bu d,some (.int (i:Int)),bu r,some (.int (j:Int)),some (.str z)]=[bu R,bu d,some (.int (i:Int)),bu r,y4,y5]/\aB H (upd (upd qV t4 (.tup [.int (i:Int),.int (j:Int)])) a (.lst (xs++[.ref t4])))/\B0 H (upd (upd qV t4 (.tup [.int (i:Int),.int (j:Int)])) a (.lst (xs++[.ref t4]))) d kvs (8 * i+(j+1)) :=
    λa xs kj qV ea fa lx Fb M_ CG t4 yJ=>by
     have pZ:=ag yJ (.tup [.int (i:Int),.int (j:Int)]);refine⟨bA ∅,kj,_,_,rfl,λb o hb=>by rw [ai (λz=>by rw [z,fa] at hb;cases hb)];exact pZ _ _ (CG b o hb),?_⟩;exact(Fb.same pZ).more (pZ _ _ ea) lx λkv hk=>let ⟨b,ys,e1,e2,e3,e4⟩:=M_ kv hk;⟨b,ys,e1,pZ _ _ e2,e3,e4⟩
   refine⟨kvs,Sum.inr z,B4.hd,rfl,bA ∅,λv hv=>?_,λhn=>?_⟩
   .obtain⟨kv,hk,ek⟩:=Iv hv;obtain⟨a,xs,e1,e2,e3,e4⟩:=B4.lst kv hk;rw [e1] at ek;subst ek;refine⟨.inl ⟨rfl,_,aD.of e2⟩,_,rfl,_,rfl,ou,λt4 yJ=>?_⟩;obtain⟨g1,g2⟩:=fin a xs kvs xn e2 e3 e4 ⟨B4.hd,∅,λkv hk=>let ⟨b,ys,e1,e2,e3,e4⟩:=B4.lst kv hk;⟨b,ys,e1,e2,e3,∅⟩⟩ B4.lst sA t4 yJ;exact⟨a,_,_,rfl,rfl,ag yJ _ _ _ e2,g1,g2⟩
   have nd:d≠l:=λz=>by have:=B4.hd;rw [z,xl] at this;cases this
   have El:upd xn d (.dK (bc kvs (Sum.inr z) (.ref l))) l=some (.lst []):=by rw [ai nd.symm];exact xl
   have vm:H d=none:=oC;have CG:aB H (upd xn d (.dK (bc kvs (Sum.inr z) (.ref l)))):=λb o hb=>by rw [ai (λz=>by rw [z,vm] at hb;cases hb)];exact sA b o hb
   have M_:∀kv∈bc kvs (Sum.inr z) (.ref l),∃a xs,kv.2=.ref a/\upd xn d (.dK (bc kvs (Sum.inr z) (.ref l))) a=some (.lst xs)/\H a=none/\xs.length<=8 * i+j:=λkv hk=>by
    rw [vL _ hn] at hk;rcases cq.mp hk with h | h
    .obtain⟨b,ys,e1,e2,e3,e4⟩:=B4.lst kv h;exact⟨b,ys,e1,by rw [ai (λz=>by rw [z,B4.hd] at e2;cases e2)];exact e2,e3,e4⟩
    rw [cm.mp h];exact⟨l,[],rfl,El,fl,by simp⟩
   have lp:=dU kvs (Sum.inr z:aF) (.ref l);have Fb:B0 H (upd xn d (.dK (bc kvs (Sum.inr z) (.ref l)))) d (bc kvs (Sum.inr z) (.ref l)) (8 * i+j+1):=⟨ae,∅,λkv hk=>let ⟨b,ys,e1,e2,e3,e4⟩:=M_ kv hk;⟨b,ys,e1,e2,e3,∅⟩⟩;generalize upd xn d (.dK (bc kvs (Sum.inr z) (.ref l)))=qV at El CG M_ Fb;refine⟨.inl ⟨rfl,_,aD.of El⟩,_,rfl,_,rfl,ou,λt4 yJ=>?_⟩;obtain⟨g1,g2⟩:=fin l [] _ qV El fl (by simp) Fb M_ CG t4 yJ;exact⟨l,_,_,rfl,rfl,ag yJ _ _ _ El,g1,g2⟩
  rintro σ H9 ⟨kvs,y4,y5,rfl,s9,S9⟩;rw [az] at S9;refine⟨kvs,_,_,_,_,rfl,s9,S9.hd,by have:=S9.ln;omega,λkv hk=>let ⟨b,ys,e1,e2,e3,e4⟩:=S9.lst kv hk;⟨b,ys,e1,e2,e3,∅⟩⟩
 rintro σ H6 ⟨kvs,y2,y3,y4,y5,rfl,s6,S6⟩;exact⟨_,rfl,q d H6 oC s6⟩
end
end eG
namespace L2
open PySem PySem.Spec PyProof.Rows
def BS (z:Str)(lo hi:Option Int):Str:=if ((slicePicked z (lo.map λi=>(i,0)) (hi.map λi=>(i,0)) none).length == z.length)=true then z else ⟨((slicePicked z (lo.map λi=>(i,0)) (hi.map λi=>(i,0)) none).filterMap (z.cps[·]?)).toArray⟩
def Ct (z:Str)(lo hi:Option Int):(BS z lo hi).length<=z.length:=by
 unfold BS
 split
 .exact aH _
 show (List.toArray _).size<=_;rw [bI];exact cz (List.length_filterMap_le _ _) (show (slicePicked z _ _ none).length<=z.length from by unfold slicePicked;exact sliceIndices_le _ _ _)
def QY:V->Option Int->Option Int->Hp->VK->Prop:=λx lo hi H Q=>∃z:Str,x=.str z/\z.length<=sizeLine/\Q (.str (BS z lo hi)) H
def oR {X:Cx}{af:List (Addr×Obj)}{s:Shared}{σ:St}{H:Hp}{Q:VK}{z:Str}{t:Tok}(I:Inv X af σ H s)(hz:z.length<=sizeLine)(l u:Option (Int×Tok))(q:Q (.str (BS z (l.map (·.1)) (u.map (·.1)))) H) :
  (sliceMade z t l u none).post (EP X af σ Q) s:=by
 have e:slicePicked z ((l.map (·.1)).map λi=>(i,(0:Tok))) ((u.map (·.1)).map λi=>(i,(0:Tok))) none=slicePicked z l u none:=by
  cases l <;> cases u <;> rfl
 unfold BS at q;rw [e] at q;unfold sliceMade;by_cases c:((slicePicked z l u none).length == z.length)=true
 .rw [aw c] at q;rw [aw (by rw [c];rfl)];exact⟨.str z,H,I,⟨_,rfl⟩,q⟩
 rw [ay c] at q;rw [ay (by rw [mD.mpr c];decide)];have le:((slicePicked z l u none).filterMap (z.cps[·]?)).length<=z.length:=cz (List.length_filterMap_le _ _) (show (slicePicked z l u none).length<=z.length from by unfold slicePicked;exact sliceIndices_le _ _ _);refine⟨?_,.str _,H,I.tok _,⟨_,rfl⟩,q⟩;show (List.toArray _).size<=sizeLine;rw [bI];exact cz le hz
def zN {X:Cx}:KQ X QY:=by
 intro af s σ H x v vl vu lo hi sl Q I rx hs pl pu h;obtain⟨z,rfl,hz,q⟩:=h;obtain⟨t,rfl⟩:=rx;refine⟨"str",_,F.slot_str_getitem.lookup,typeIs_str s z t,?_⟩;cases pl with
 | none =>
  cases pu with
  | none=>exact uc (l:=none) (u:=none) (st:=none) hs rfl (oR I hz none none q)
  | int j tu=>exact uc (l:=none) (u:=some (j,tu)) (st:=none) hs rfl (oR I hz none (some (j,tu)) q)
 | int i ti =>
  cases pu with
  | none=>exact uc (l:=some (i,ti)) (u:=none) (st:=none) hs rfl (oR I hz (some (i,ti)) none q)
  | int j tu=>exact uc (l:=some (i,ti)) (u:=some (j,tu)) (st:=none) hs rfl (oR I hz (some (i,ti)) (some (j,tu)) q)
open PySem
def yi {X:Cx}(K:aT)(hK:X.K=K:=by rfl):ky X (compareOp .In) (Ph K false):=by
 subst hK;exact so
def sj {X:Cx}(hu:X.A.units < cLine):ky X (compareOp .NotEq) (λx y H Q=>∃a b xs,x=.ref a/\y=.ref b/\aD X.K H a xs/\aD X.K H b []/\Q (.bl (!xs.isEmpty)) H):=by
 intro af s σ H x y v u Q I rx ry h;obtain⟨a,b,xs,rfl,rfl,ha,hb,q⟩:=h;cases rx;cases ry;obtain⟨aL,r,pl,hz⟩:=I.list ha;obtain⟨gB,r2,AN,R8⟩:=I.list hb;have e2:gB=[]:=aO.zero r2;subst e2;have aZ:=r.length;cases xs with
 | nil =>
  have e:aL=[]:=aO.zero r;subst e;exact SeqAt.RcNeAt.lists (e:=λ_=>true) pl.isList AN.isList rfl hu (λj h1 _=>absurd h1 (by simp)) X.prog X.w X.xe _ ⟨.bl false,H,I,rfl,q⟩
 | cons y ys =>
  refine SeqAt.RcNeAt.lists_lengths pl.isList AN.isList ?_ hu X.prog X.w X.xe _ ⟨.bl true,H,I,rfl,q⟩;rw [bI,bI,<-aZ];simp
def UO (K:aT)(H:Hp):Nat->V->V->Prop
 | 0,x,y=>x=y/\jw x
 | n+1,x,y=>(x=y/\jw x)\/∃a b xs ys,x=.ref a/\y=.ref b/\((aD K H a xs/\aD K H b ys)\/(aX K H a xs/\aX K H b ys))/\Paired (UO K H n) xs ys
def UO.self {K:aT}{H:Hp}{x:V}(h:jw x):∀n,UO K H n x x
 | 0=>⟨rfl,h⟩
 | _+1=>.inl ⟨rfl,h⟩
section
variable {prog:Program}{w:World}{A:Around}{E:Value->Shared->Prop}{s:Shared}
abbrev EM (h:Heap)(z:Addr)(f0 f1:Value)(TI TO:Addr):Prop:=h.get? z=some { cls:=.type "zip",data:=.fields #[f0,f1,.bool false,.ref TI,.ref TO] }
end
structure Ux (h:Heap)(z TI TO i1 i2 l1 l2:Addr)(xs ys:Array Value) (i:Nat):Prop where
 hz:∃f0 f1,EM h z f0 f1 TI TO/\(f0=.none\/∃T:Nat,f0=rawInt T)
 hI:IsPair h TI (.ref i1) (.ref i2)
 hO:∃a b,IsPair h TO a b
 h1:h.IsTupleIter i1 l1 i
 h2:h.IsTupleIter i2 l2 i
 t1:h.IsTuple l1 xs
 t2:h.IsTuple l2 ys
def vA {h h':Heap}{l:Addr}{xs:Array Value}(t:h.IsTuple l xs)(k:∀o,h.get? l=some o->h'.get? l=some o):h'.IsTuple l xs:=by
 obtain⟨o,a,b,c⟩:=t;exact⟨o,k o a,b,c⟩
def tK (h:Heap) (N:Nat)(xs ys a7:Array Value):Prop:=∃Ts:List Nat,a7.toList=Ts.map Value.ref/\Ts.Pairwise (· < ·)/\∀(j T:Nat),Ts[j]?=some T->N<=T/\∃x y:Value,IsPair h T x y/\xs[j]?=some x/\ys[j]?=some y
def tK.keep {h h':Heap}{N:Nat}{xs ys a7:Array Value}(a:tK h N xs ys a7)(k:∀(T:Nat) o,N<=T->h.get? T=some o->h'.get? T=some o):tK h' N xs ys a7:=by
 obtain⟨Ts,e1,e2,e3⟩:=a;refine⟨Ts,e1,e2,λj T hj=>?_⟩;obtain⟨l,x,y,p,q⟩:=e3 j T hj;exact⟨l,x,y,k T _ l p,q⟩
def tK.more {h:Heap}{N T0:Nat}{xs ys a7:Array Value}{x y:Value}(a:tK h N xs ys a7)(lt:∀(Ts:List Nat),a7.toList=Ts.map Value.ref->∀T∈Ts,T < T0)(hN:N<=T0)(p:IsPair h T0 x y)(hx:xs[a7.size]?=some x)(hy:ys[a7.size]?=some y):tK h N xs ys (a7.push (.ref T0)):=by
 obtain⟨Ts,e1,e2,e3⟩:=a;have el:Ts.length=a7.size:=by
  have:=congrArg List.length e1;rw [az] at this;rw [<-this];simp
 refine⟨Ts++[T0],by rw [Array.toList_push,e1,br];rfl,List.pairwise_append.mpr ⟨e2,by simp,λT hT b hb=>by rw [cm.mp hb];exact lt Ts e1 T hT⟩,λj T hj=>?_⟩;by_cases c:j < Ts.length
 .rw [nW c] at hj;exact e3 j T hj
 rw [pz ∅] at hj;have c2:j - Ts.length=0:=by
  have:=(ba.mp hj).1;simp at this;omega
 rw [c2] at hj;cases hj;have:j=a7.size:=by omega
 rw [this];exact⟨hN,x,y,p,hx,hy⟩
def Ux.keep {h h':Heap}{z TI TO i1 i2 l1 l2:Addr}{xs ys:Array Value}{i:Nat}(st:Ux h z TI TO i1 i2 l1 l2 xs ys i)(k:∀b o,h.get? b=some o->h'.get? b=some o):Ux h' z TI TO i1 i2 l1 l2 xs ys i:=by
 obtain⟨⟨f0,f1,a,b⟩,hI,⟨c,d,hO⟩,h1,h2,t1,t2⟩:=st;exact⟨⟨f0,f1,k _ _ a,b⟩,k _ _ hI,⟨c,d,k _ _ hO⟩,h1.at λo q=>k _ _ q,h2.at λo q=>k _ _ q,vA t1 λo q=>k _ _ q,vA t2 λo q=>k _ _ q⟩
end L2
namespace HT
open PySem PyProof.Rows
section
variable {prog:Program}{w:World}{A:Around}{E:Value->Shared->Prop}{s:Shared}
end
end HT
namespace L2
open PySem PySem.Spec PyProof.Rows
open PySem
section
variable {prog:Program}{w:World}{A:Around}{E:Value->Shared->Prop}{s:Shared}
end
structure ZTn (h:Heap)(z TI TO i1 i2 l1 l2:Addr) (i:Nat):Prop where
 hz:∃f0 f1,EM h z f0 f1 TI TO/\(f0=.none\/∃T:Nat,f0=rawInt T)
 hI:IsPair h TI (.ref i1) (.ref i2)
 hO:∃a b,IsPair h TO a b
 h1:h.IsTupleIter i1 l1 i
 h2:h.IsTupleIter i2 l2 i
end L2
namespace HT
open PySem PySem.Spec PyProof.Rows
section
variable {prog:Program}{w:World}{A:Around}{E:Value->Shared->Prop}{s:Shared}
end
end HT
namespace L2
open PySem PySem.Spec PyProof.Rows
theorem lt_trans:∀a b c:List Nat,ltCps b a=false->ltCps c b=false->ltCps c a=false
 | [],b,[],_,_=>ltCps.eq_1
 | [],b,_::_,_,_=>ltCps.eq_3 _ _
 | x::r,[],c,h,_=>by rw [ltCps.eq_2] at h;cases h
 | x::r,y::t,[],_,k=>by rw [ltCps.eq_2] at k;cases k
 | x::r,y::t,z::u,h,k=>by
  rw [ltCps.eq_4,Bool.or_eq_false_iff,decide_eq_false_iff_not] at h k ⊢;refine⟨∅,?_⟩;by_cases e:z=x
  .have e1:y=x:=by omega
   subst e;subst e1;have h2:=h.2;have k2:=k.2;rw [o9,pA] at h2 k2 ⊢;exact lt_trans r t u h2 k2
  rw [i3.mpr e,Bool.false_and]
section
variable {prog:Program}{w:World}{A:Around}{E:Value->Shared->Prop}{s:Shared}
end
open PySem PySem.W PyProof.Rows
section
variable {n:Nat}{lt:Nat->Nat->Bool}{cmp:Nat->Nat->(Bool->Shared->Prop)->Shared->Prop}{s:Shared}
structure GV (n:Nat)(lt:Nat->Nat->Bool):Prop where
 trans:∀a b c,a < n->b < n->c < n->lt b a=false->lt c b=false->lt c a=false
 Uv:∀a b,a < n->b < n->lt a b=true->lt b a=false
structure LO (n:Nat)(p:Array Nat):Prop where
 pm:p.Perm (List.range n).toArray
theorem LO.size {p:Array Nat}(h:LO n p):p.size=n:=by
 have:=h.pm.size_eq;simpa using this
def LO.HA {p:Array Nat}(h:LO n p){i:Nat}(hi:i < n):p.getD i 0 < n:=by
 have hs:=h.size;have e:p.getD i 0=p[i]'∅:=by simp [Array.getD,hs,hi]
 rw [e];have:p[i]'∅∈(List.range n).toArray:=h.pm.mem_iff.mp (Array.getElem_mem _);simpa using this
abbrev at_ (p:Array Nat) (i:Nat):Nat:=p.getD i 0
def KP (lt:Nat->Nat->Bool)(p:Array Nat) (k:Nat):Prop:=∀i j,i<=j->j < k->lt (at_ p j) (at_ p i)=false
def KS (lt:Nat->Nat->Bool)(p:Array Nat) (k:Nat):Prop:=∀i j,i<=j->j < k->lt (at_ p i) (at_ p j)=false
def GV.VB (o:GV n lt){a:Nat}(h:a < n):lt a a=false:=by
 cases e:lt a a with
 | false=>rfl
 | true=>rw [<-o.Uv a a h h e,e]
def KP.more {p:Array Nat}{m:Nat}(o:GV n lt)(P:LO n p)(h:KP lt p m)(hm:1<=m)(hn:m < n)(c:lt (at_ p m) (at_ p (m - 1))=false):KP lt p (m+1):=by
 intro i j Bg hj;by_cases e:j=m
 .subst e;by_cases e2:i=j
  .subst e2;exact o.VB (P.HA hn)
  exact o.trans _ (at_ p (j - 1)) _ (P.HA ∅) (P.HA ∅) (P.HA hn) (h i (j - 1) ∅ ∅) c
 exact h i j Bg ∅
def KS.more {p:Array Nat}{m:Nat}(o:GV n lt)(P:LO n p)(h:KS lt p m)(hm:1<=m)(hn:m < n)(c:lt (at_ p (m - 1)) (at_ p m)=false):KS lt p (m+1):=by
 intro i j Bg hj;by_cases e:j=m
 .subst e;by_cases e2:i=j
  .subst e2;exact o.VB (P.HA hn)
  exact o.trans _ (at_ p (j - 1)) _ (P.HA hn) (P.HA ∅) (P.HA ∅) c (h i (j - 1) ∅ ∅)
 exact h i j Bg ∅
end
def Inv.M9 {X:Cx}{af:List (Addr×Obj)}{σ:St}{H:Hp}{s:Shared}{h':Heap}{a:Addr}{o:HO}{t':Nat}(I:Inv X af σ H s)(k:∀b u,b≠X.env.locals->s.heap.get? b=some u->h'.get? b=some u)
  (ns:∀m,s.heap.Ns X.env.locals m->h'.Ns X.env.locals m)(hp:s.heap.get? a=none)(hn:H a=none)(new:bE X.prog X.w (upd H a o) h' a o):Inv X af σ (upd H a o) { s with heap:=h',toks:=t' }:=by
 have ne:∀b u,s.heap.get? b=some u->b≠a:=λb u q z=>by rw [z,hp] at q;cases q
 refine I.step (g':=s.gens) (d':=s.drawn) (ch:=[]) (λ_ z=>nomatch z) (λb u hb _ _ e _=>k b u hb e) (λb u hb _ _ e _=>⟨u.slots,k b u hb e⟩) (λb u _ e n=>by rw [ai (ne b u e)];exact n)
  (λb u _ e=>?_) (λb xs q=>by rw [ai (ao q hn)];exact q) (λb u xs q=>by rw [ai (ao q hn)];exact q) (λb ps q=>⟨#[],by rw [ai (ao q hn),q];simp⟩) ns (λb u e=>?_) I.bare
 .by_cases hb:b=X.env.locals
  .obtain⟨m,hm,_⟩:=I.loc;obtain⟨o',_,_,Ga,_⟩:=ns m hm;exact⟨o',by rw [hb];exact Ga⟩
  exact⟨u,k b u hb e⟩
 by_cases hb:b=a
 .subst hb;rw [ae] at e;cases e;exact new
 rw [ai hb] at e;refine(I.bo b u e).gZ (λc v hc q=>k c v ?_ q) (λc q=>by rw [ai (ao q hn)];exact q) λc xs q=>by rw [ai (ao q hn)];exact q
 rintro rfl;rcases hc with rfl | hc
 .rw [I.free] at e;cases e
 rw [I.free] at hc;cases hc
def Di {P:Program}{w:World}{H:Hp}{h:Heap}{a:Addr}{o:HO}(x:bE P w H h a o):∃u,h.get? a=some u:=by
 cases o with
 | lst xs=>obtain⟨_,_,_,_,e⟩:=x;exact⟨_,e⟩
 | tup xs=>obtain⟨_,_,_,ob,e,_⟩:=x;exact⟨_,e⟩
 | dK kvs=>obtain⟨_,_,_,_,o,_,_,e,_⟩:=x;exact⟨_,e⟩
 | dT kvs=>obtain⟨_,_,_,_,o,_,_,e,_⟩:=x;exact⟨_,e⟩
 | set S n=>obtain⟨o,_,_,_,e,_⟩:=x;exact⟨_,e⟩
 | ins C dx fs=>obtain⟨_,_,_,e,_⟩:=x;exact⟨_,e⟩
 | own y=>obtain⟨_,e⟩:=x;exact⟨_,e⟩
 | xd fs=>obtain⟨_,⟨_,_,_,e,_⟩,_⟩:=x;exact⟨_,e⟩
 | Hg lo hi=>obtain⟨_,_,_,e⟩:=x;exact⟨_,e⟩
 | iV ob u=>obtain⟨e,_⟩:=x;exact⟨_,e⟩
 | q9 ps=>exact⟨_,(show h.get? a=some _ from x)⟩
 | met f y=>exact⟨_,(show h.get? a=some _ from x)⟩
 | ext φ=>obtain⟨_,⟨_,e⟩,_⟩:=x;exact⟨_,e⟩
open PySem PySem.Spec PyProof.Rows PySem.W
section
variable {P:Program}{w:World}{A:Around}{E:Value->Shared->Prop}{s:Shared}
def DJ {f c' c d:Addr}{q:Str}{params:Arguments}{scope:Scope}{cl:List (Str×Addr)}{pm eQ:Value}{p1 p2 p3:Pos}{xs xh:Str}{vs:List (aF×Value)}{z:Str}{t:Tok}{u:Value}{oc:Obj}{Q:Value->Shared->Prop}
  (Nv:A.depth < recursionLimit)(nl:s.heap.NoLimit)(hf:s.heap.get? f=some (kla_obj "<lambda>" q params (.Subscript (.Name xs p1) (.Name xh p2) p3) scope cl pm c' eQ))(hc:s.heap.CodeRec (.ref c') q)
  (hb:∀us:List Value,us.length=1->bindArgs (kla_fn "<lambda>" q params (.Subscript (.Name xs p1) (.Name xh p2) p3) scope cl pm (.ref c') eQ) ⟨us,[]⟩=pure ([xh].zip us))
  (hk:scope.kind=.function)(SS:scope.isCoroutine=false)(JR:scope.isGenerator=false)(Sv:∀x∈scope.names,x.2≠.cell)(hh:scope.names.lookup xh=some .local)(hs:scope.names.lookup xs=some .free)
  (kF:cl.lookup xs=some c)(ho:s.heap.get? c=some oc)(w_:oc.data=.cell (some (.ref d)))(dd:s.heap.DictOf (aS P w) d vs)(hv:valueAt vs (Sum.inr z)=some u)
  (d1:(xs == ("__debug__":Str))=false)(d2:(xh == ("__debug__":Str))=false)(d3:(xs == ("__classdict__":Str))=false)
  (h:∀h' tk,(∀b o,s.heap.get? b=some o->h'.get? b=some o)->Q u { s with heap:=h',toks:=tk }):wpAny (model P w) A (call (.ref f) [.str z t]) Q E s:=by
 refine gN (kla_callFunE Nv hf rfl SS JR rfl hc ?_);rw [hb [.str z t] rfl];refine aK (wpAny_newFunctionEnv Sv (λx hx=>?_) (λh₁ sN VJ=>⟨nl.fresh _ VJ,?_⟩) hk)
 .have:x=(xh,Value.str z t):=by simpa using hx
  rw [this];exact hh
 show codeAny _ _ (.expr (.Subscript (.Name xs p1) (.Name xh p2) p3) (envX q scope s.heap.objs.size f (.ref c') cl)) _ _;have k1:∀b o,s.heap.get? b=some o->h₁.get? b=some o:=λb o e=>VJ.extBut b o (a_ (aP e)) (bj _ e);refine kla_codeExpr (zx PySem.F.slot_dict_getitem.lookup (λ_ _=>rfl) ?_);refine wpAny_Name (wpAny_loadName_free hk hs kF ⟨oc,k1 _ _ ho,w_⟩ ?_ d3) d1;refine wpAny_Name (tV hk hh sN (show ([(xh,Value.str z t)]:List (Str×Value)).reverse.lookup xh=some (.str z t) by simp [List.lookup]) ?_) d2;have WJ:h₁.DictOf (aS P w) d vs:=by
  obtain⟨o,es,ep,g,r⟩:=dd;exact⟨o,es,ep,k1 _ _ g,r⟩
 refine⟨WJ.typeIs,wpAny_getItem_of (jU (k:=Sum.inr z) ⟨t,rfl⟩) WJ.mapOf hv ?_⟩;exact h h₁ _ k1
end
section
variable {X:Cx}{params:Arguments}{body:Expr}{scope:Scope}{pos:Pos}{c T:Addr}
abbrev gW (X:Cx)(params:Arguments)(body:Expr)(scope:Scope)(cl:List (Str×Addr))(c':Addr)(eQ:Value):Obj:=kla_obj "<lambda>" (X.env.qual ++ "<lambda>") params body scope cl ((X.mg "__name__").getD .none) c' eQ
def Me (X:Cx)(params:Arguments)(body:Expr)(scope:Scope)(pos:Pos)(T:Addr):TE:=λσ H Q=>Tab T pos (X.env.qual ++ "<lambda>") H /\
 ∀f c' eQ cl H',G3 X.env scope cl->eF T H H'->Tab T pos (X.env.qual ++ "<lambda>") H'->H f=none->H' f=some (mY f (gW X params body scope cl c' eQ))->H' c'=some (iR c' (X.env.qual ++ "<lambda>"))->Q (.ref f) H'
def FE (qt:X.env.code=.ref c)(hC:codeHdIn X.K c T=true)(hB:qZ X.mg X.base)(lM:∀y,(y,NameKind.free)∈scope.names->X.env.scope.names.lookup y=some .cell)(DT:defaultsOf params X.env=([],[]):=by rfl):PE X (.Lambda params body scope pos) (Me X params body scope pos T):=by
 intro af s σ H Q I h;obtain⟨⟨ps,hT,ht,DU⟩,q⟩:=h;refine kla_eval DT ?_;obtain⟨cl,kF⟩:=u6 (env:=X.env) (scope:=scope) λy hy=>I.ok.has y (.inl (lM y hy));have J0:s.heap.get? T=some (tabObj ps):=(show bE X.prog X.w H s.heap T (.q9 ps) from I.bo T _ hT);have hg:=I.mod.glob.keeps I.bk;have C:=codeHd_of_K I.jI hC;obtain⟨bm,ob,b1,b2,b3,b4,b5,b6,b7⟩:=hB;have Ut:=I.bk _ _ b4;have Rx:bm≠T:=λz=>by
  have:=(I.bs _ _ b4).2;rw [z,hT] at this;cases this
 have Rr:mainGlobals≠T:=λz=>by
  obtain⟨o,es,ep,e,d,_⟩:=hg;rw [z,J0] at e;cases e;cases d
 have N7:s.heap.BuiltinsAt X.mg T:=⟨bm,ob,b1,b2,b3,Rx,Ut,b5,b6,b7⟩;have ES:∀b v,H b=some v->b < s.heap.objs.size:=λb v e=>I.bo.lt e;rcases DU with NF | ⟨c',hf,jJ⟩
 .refine kla_makeFunction kF.eq I.ok.glob hg qt C J0 ht NF Rr N7 λc' eQ h' tk hx JS iu DN Nm=>?_;have ZT:∃oc,h'.get? c'=some oc:=by
   obtain⟨c2,oc,vs,t,e,w_,_⟩:=DN;cases e;exact⟨oc,w_⟩
  have qp:h'.objs.size > s.heap.objs.size:=pd JS iu;have keep:∀b o,b≠T->s.heap.get? b=some o->(h'.push (gW X params body scope cl c' eQ)).get? b=some o:=λb o n e=>bj _ (hx b o n e)
  let H':Hp:=upd (upd (upd H T (.q9 (ps++#[rawInt pos.line,rawInt pos.col,.ref c']))) c' (iR c' (X.env.qual ++ "<lambda>"))) h'.objs.size (mY h'.objs.size (gW X params body scope cl c' eQ))
  have yB:∀b v,H b=some v->b≠c'/\b≠h'.objs.size:=λb v e=>⟨a_ (dA (ES b v e) JS),a_ (i_ (ES b v e) qp)⟩;have Rw:c'≠h'.objs.size:=a_ iu;have MV:=yB T _ hT;have eT:H' T=some (.q9 (ps++#[rawInt pos.line,rawInt pos.col,.ref c'])):=by
   show upd (upd (upd H T _) c' _) h'.objs.size _ T=_;rw [ai MV.2,ai MV.1,ae]
  have ec:H' c'=some (iR c' (X.env.qual ++ "<lambda>")):=by
   show upd (upd (upd H T _) c' _) h'.objs.size _ c'=_;rw [ai Rw,ae]
  have ef:H' h'.objs.size=some (mY h'.objs.size (gW X params body scope cl c' eQ)):=ae;have eo:∀b,b≠T->b≠c'->b≠h'.objs.size->H' b=H b:=λb n1 n2 n3=>by
   show upd (upd (upd H T _) c' _) h'.objs.size _ b=_;rw [ai n3,ai n2,ai n1]
  have sT:eF T H H':=λb o n e=>by rw [eo b n (yB b o e).1 (yB b o e).2];exact e
  have I2:Inv X af σ H' { s with heap:=h'.push (gW X params body scope cl c' eQ),toks:=tk }:=by
   refine I.call (g':=s.gens) (t':=tk) (d':=s.drawn) (ch:=[]) ⟨λb o e n _ _=>keep b o (λz=>by rw [z,hT] at n;cases n) e,λb o e n _ _=>⟨o.slots,keep b o (λz=>by rw [z,hT] at n;cases n) e⟩,λb o e n _=>?_,λb o e _=>?_,λb xs e=>?_,λb o u e=>?_,λb Q4 e=>?_⟩ (λb v e=>?_) I.bare (λb hb=>nomatch hb)
   .have lb:=aP e;rw [eo b (λz=>by rw [z,hT] at n;cases n) (a_ (dA lb JS)) (a_ (i_ lb qp))];exact n
   .by_cases z:b=T
    .exact⟨_,by rw [z];exact bj _ Nm⟩
    exact⟨o,keep b o z e⟩
   .exact sT b _ (λz=>by rw [z,hT] at e;cases e) e
   .exact sT b _ (λz=>by rw [z,hT] at e;cases e) e
   .by_cases z:b=T
    .subst z;rw [hT] at e;cases e;exact⟨_,eT⟩
    exact⟨#[],by rw [tR];exact sT b _ z e⟩
   by_cases z1:b=h'.objs.size
   .subst z1;rw [ef] at e;cases e;exact oZ (cJ _ rfl)
   by_cases z2:b=c'
   .subst z2;rw [ec] at e;cases e;refine wM ?_;obtain⟨c2,oc,vs,t,e',w_,hd,hv⟩:=DN;cases e';exact⟨_,oc,vs,t,rfl,bj _ w_,hd,hv⟩
   by_cases z3:b=T
   .subst z3;rw [eT] at e;cases e;exact bj _ Nm
   rw [eo b z3 z2 z1] at e;refine(I.bo b v e).gZ (λd o Bi e'=>?_) (λd e'=>sT d _ (λz=>by rw [z,hT] at e';cases e') e') λd ys e'=>sT d _ (λz=>by rw [z,hT] at e';cases e') e';rcases Bi with rfl | Bi
   .exact keep d o z3 e'
   exact keep d o (λz=>by rw [z,hT] at Bi;cases Bi) e'
  have fresh:H h'.objs.size=none:=I.bo.fresh (i9 qp);exact⟨.ref h'.objs.size,H',I2,rfl,q _ c' eQ cl H' kF sT ⟨_,eT,by rw [tW];exact iz _ ht,.inr ⟨c',by rw [tW];exact codeAmong_snoc _ ht NF,ec⟩⟩ fresh ef ec⟩
 refine kla_makeFunctionHit kF.eq I.ok.glob hg qt C J0 ht hf N7 λeQ h' tk hk hsz=>?_;have keep:∀b o,s.heap.get? b=some o->(h'.push (gW X params body scope cl c' eQ)).get? b=some o:=λb o e=>bj _ (hk b o e);have fresh:H h'.objs.size=none:=I.bo.fresh hsz;refine⟨.ref h'.objs.size,_,I.laid (a:=h'.objs.size) (o:=mY h'.objs.size (gW X params body scope cl c' eQ)) (t':=tk) keep hsz (oZ (cJ _ rfl)),rfl,?_⟩;refine q _ c' eQ cl _ kF (λb o _ e=>by rw [ai (ao e fresh)];exact e) ⟨ps,by rw [ai (ao hT fresh)];exact hT,ht,.inr ⟨c',hf,by rw [ai (ao jJ fresh)];exact jJ⟩⟩ fresh ae (by rw [ai (ao jJ fresh)];exact jJ)
end
theorem zz:∀{zs:List Str}{aL:List Value},aO (zs.map V.str) aL->∀(i:Nat)(v:Value),aL[i]?=some v->∃z t,zs[i]?=some z/\v=.str z t
 | [],[],_,i,v,h=>by simp at h
 | z::r,u::aL,h,i,v,hi=>by
  cases h with
  | cons a b =>
   cases i with
   | zero =>
    cases hi;obtain⟨t,e⟩:=(show ∃t,u=Value.str z t from a);exact⟨z,t,rfl,e⟩
   | succ i=>exact zz b i v hi
theorem rP:∀(ps:List (Str×Tok)),aO ((ps.map (·.1)).map V.str) (ps.map λp=>Value.str p.1 p.2)
 | []=>.nil
 | p::r=>.cons ⟨p.2,rfl⟩ (rP r)
theorem rQ:∀{zs:List Str}{aL:List Value},aO (zs.map V.str) aL->∃ps:List (Str×Tok),ps.map (·.1)=zs/\aL=ps.map λp=>Value.str p.1 p.2
 | [],[],_=>⟨[],rfl,rfl⟩
 | z::r,u::aL,h=>by
  cases h with
  | cons a b =>
   obtain⟨t,e⟩:=(show ∃t,u=Value.str z t from a);obtain⟨ps,e1,e2⟩:=rQ b;exact⟨(z,t)::ps,by rw [bw,e1],by rw [bw,e2,e]⟩
def yd {α β:Type}{f:α->β}{l m:List β}(h:l.Perm m):∀ps:List α,m=ps.map f->∃qs:List α,l=qs.map f/\qs.Perm ps:=by
 induction h with
 | nil =>
  intro ps e;cases ps with
  | nil=>exact⟨[],rfl,.nil⟩
  | cons p r=>cases e
 | cons x h ih =>
  intro ps e;cases ps with
  | nil=>cases e
  | cons p r =>
   rw [bw] at e;injection e with e1 e2;obtain⟨qs,a,b⟩:=ih r e2;exact⟨p::qs,by rw [bw,a,e1],b.cons p⟩
 | swap x y l =>
  intro ps e
  match ps,e with
  | [],e=>cases e
  | [_],e=>cases e
  | p::p2::r,e =>
   rw [bw,bw] at e;injection e with e1 e2;injection e2 with e3 e4;exact⟨p2::p::r,by rw [bw,bw,e1,e3,e4],.swap p p2 r⟩
 | trans h1 h2 i1 i2 =>
  intro ps e;obtain⟨qs,a,b⟩:=i2 ps e;obtain⟨rs,c,d⟩:=i1 qs a;exact⟨rs,c,d.trans b⟩
def C8 {g:Str->Int}{ps:List (Str×Tok)}{out:List Value}(h:KskOut false ((ps.map (·.1)).map g) (ps.map λp=>Value.str p.1 p.2) out) :
  ∃qs:List (Str×Tok),out=qs.map (λp=>Value.str p.1 p.2)/\(qs.map (·.1)).Perm (ps.map (·.1))/\(qs.map (·.1)).Pairwise λx y=>g x<=g y:=by
 obtain⟨rs,h1,h2,h3⟩:=h;have ez:((ps.map (·.1)).map g).zip (ps.map λp=>Value.str p.1 p.2)=ps.map λp=>(g p.1,Value.str p.1 p.2):=by
  rw [g_,List.zip_map,List.zip_eq_zipWith]
  induction ps with
  | nil=>rfl
  | cons p r ih=>simp_all
 rw [ez] at h1;obtain⟨qs,q1,q2⟩:∃qs:List (Str×Tok),rs=qs.map (λp=>(g p.1,Value.str p.1 p.2))/\qs.Perm ps:=by
  exact yd h1 ps rfl
 subst q1;refine⟨qs,by rw [h2,g_];rfl,q2.map _,?_⟩;rw [List.pairwise_map] at h3 ⊢;exact h3.imp λh=>by simpa using h
section
variable {X:Cx}{i:Nat}{xs xh:Str}{params:Arguments}{scope:Scope}{p pos yC kp p1 p2 p3:Pos}{e:Expr}{ta:TA}{c T:Addr}{k:Nat}
abbrev Ap (xs xh:Str)(p1 p2 p3:Pos):Expr:=.Subscript (.Name xs p1) (.Name xh p2) p3
def IC (X:Cx) (i:Nat)(yC:Pos)(T:Addr)(ta:TA):TE:=λσ H Q=>ta σ H λvs H1=>Tab T yC (X.env.qual ++ "<lambda>") H1/\∃(a:Addr) (zs:List Str)(d:Addr)(kvs:List (aF×V))(g:Str->Int),vs=[.ref a]/\aD X.K H1 a (zs.map V.str)/\zs.length < 64/\σ[i]?=some (some (.ref d))/\Rd H1 d (.dK kvs) /\
 (∀z∈zs,aV kvs (Sum.inr z)=some (.int (g z)))/\∀(l:Addr) (Im:List Str)(H':Hp),eF T H1 H'->Tab T yC (X.env.qual ++ "<lambda>") H'->H1 l=none->Im.Perm zs->Im.Pairwise (λx y=>g x<=g y)->H' l=some (.lst (Im.map V.str))->Q (.ref l) H'
def C1 (hr:cX (k+1) X.A)(qt:X.env.code=.ref c)(hC:codeHdIn X.K c T=true)(hB:qZ X.mg X.base)(hg:Gl X "sorted")(hm:X.mg "sorted"=none)(ha:PA X [e] ta)
  (hN:X.N[i]?=some xs)(hx:X.env.scope.names.lookup xs=some .cell)(lM:∀y,(y,NameKind.free)∈scope.names->X.env.scope.names.lookup y=some .cell)
  (hb:∀(q:Str)(cl:List (Str×Addr))(pm eQ:Value)(c':Addr)(us:List Value),us.length=1->bindArgs (kla_fn "<lambda>" q params (Ap xs xh p1 p2 p3) scope cl pm (.ref c') eQ) ⟨us,[]⟩=pure ([xh].zip us))
  (hk:scope.kind=.function)(SS:scope.isCoroutine=false)(JR:scope.isGenerator=false)(Sv:∀x∈scope.names,x.2≠.cell)(hh:scope.names.lookup xh=some .local)(hs:scope.names.lookup xs=some .free)
  (d1:(xs == ("__debug__":Str))=false:=by decide)(d2:(xh == ("__debug__":Str))=false:=by decide)(d3:(xs == ("__classdict__":Str))=false:=by decide)
  (DT:defaultsOf params X.env=([],[]):=by rfl)
  (he:backTo pos (starEach [e] X.env)=(false,eval e X.env)::backTo pos (starEach [] X.env):=by rfl)(hp:(backTo pos (starEach [e] X.env)).any (·.1)=false:=by rfl) :
  PE X (.Call (.Name "sorted" p) [e] [⟨some "key",.Lambda params (Ap xs xh p1 p2 p3) scope yC,kp⟩] pos) (IC X i yC T ta):=by
 intro af s σ H Q I h;refine kQ (iG I hg hm boot_sorted ?_);refine callWith_kw (b8 (ha pos af s σ H _ I h) λus s1 aR=>?_) he hp rfl rfl;obtain⟨vs,H1,I1,r1,Gg,a,zs,d,kvs,g,ev,hq,Z9,hσ,hd,hv,q1⟩:=aR;subst ev;have low:=FE (X:=X) (params:=params) (body:=Ap xs xh p1 p2 p3) (scope:=scope) (pos:=yC) (c:=c) (T:=T) qt hC hB lM DT af s1 σ H1
  (λfv H2=>∃f c' eQ cl,fv=.ref f/\G3 X.env scope cl/\eF T H1 H2/\Tab T yC (X.env.qual ++ "<lambda>") H2/\H2 f=some (mY f (gW X params (Ap xs xh p1 p2 p3) scope cl c' eQ))/\H2 c'=some (iR c' (X.env.qual ++ "<lambda>"))) I1
  ⟨Gg,λf c' eQ cl H' a1 a2 a3 a4 a5 a6=>⟨f,c',eQ,cl,rfl,a1,a2,a3,a5,a6⟩⟩
 refine kws_cons (b8 low λu2 s2 aR=>?_);obtain⟨fv,H2,I2,r2,f,c',eQ,cl,ef,kF,st,PQ,hf,jJ⟩:=aR;refine kws_nil ?_;subst ef;cases (show u2=Value.ref f from r2);obtain⟨u,rfl,rx⟩:=vals1 r1;cases (show u=Value.ref a from rx);obtain⟨pt,eT,_⟩:=id Gg;have Zl:aD X.K H2 a (zs.map V.str):=by
  rcases hq with (h | ⟨o,h⟩) | h
  .exact .inl (.inl (st _ _ (λz=>by rw [z,eT] at h;cases h) h))
  .exact .inl (.inr ⟨o,st _ _ (λz=>by rw [z,eT] at h;cases h) h⟩)
  exact .inr h
 have hd2:Rd H2 d (.dK kvs):=by
  rcases hd with h | ⟨o,h⟩
  .exact .inl (st _ _ (λz=>by rw [z,eT] at h;cases h) h)
  exact .inr ⟨o,st _ _ (λz=>by rw [z,eT] at h;cases h) h⟩
 obtain⟨aL,rv,pl,hz⟩:=I2.list Zl;obtain⟨pzs,ez,ei⟩:=rQ rv;have AN:=pl.isList;obtain⟨oa,ga,ca,na,da⟩:=id AN;obtain⟨m,sN,lk⟩:=id I2.loc;have FT:∀b o,H2 b=some o->b≠X.env.locals:=λb o hb z=>by rw [z,I2.free] at hb;cases hb
 have MP:d≠X.env.locals:=by
  rcases hd2 with h | ⟨o,h⟩
  .exact FT d _ h
  exact FT d _ h
 have Yc:a≠X.env.locals:=λz=>by
  obtain⟨o,es,ep,ho,Aa,_⟩:=sN;rw [<-z,ga] at ho;cases ho;rw [da] at Aa;cases Aa
 obtain⟨ud,rd,YK⟩:=lk i xs (.ref d) hN hσ (.inr (.inl hx));cases (show ud=Value.ref d from rd);obtain⟨cc,ecc,oc,NC,NB⟩:∃cc,X.env.cells.lookup xs=some cc/\s2.heap.IsCell cc (some (.ref d)):=by
  rcases YK with ⟨l,_⟩ | ⟨_,c2,e2,h2⟩
  .have l':X.env.scope.names.lookup xs=some .local:=l;rw [hx] at l';cases l'
  exact⟨c2,e2,h2⟩
 obtain⟨cc',WA⟩:=kF.all xs (uQ hs);have e3:=kF.sub _ _ WA;rw [ecc] at e3;cases e3;have K_:cc≠X.env.locals:=λz=>by
  obtain⟨o,es,ep,ho,Aa,_⟩:=sN;rw [<-z,NC] at ho;cases ho;rw [NB] at Aa;cases Aa
 obtain⟨gf,_⟩:=I2.bo f _ hf;obtain⟨gc,_⟩:=I2.bo c' _ jJ;obtain⟨zl,VI,dvs,rel,dd⟩:=lY I2.bo hd2;obtain⟨m0,F0⟩:=I2.fr;refine ksk_sorted (kz:=zs.map g) (f:=.ref f) (b:=false) (vs:=aL) (h₀:=Fe.qe s2.heap) (L:=X.env.locals) (m:=m) (news:=(a,oa)::Fe.ledger s2.heap X.env.locals a) (Fe.Ki sN) (Fe.vT Yc ga) AN (by rw [az,<-rv.length,az]) (by rw [<-rv.length,az];exact Z9)
  (ksk_s1 _ _) (λx=>ksk_l1 _ _) (λx=>ksk_t1 f x) (λj v kk hj VS yK tk own F N=>?_) λD h' tk out cnt F' N' lt' ko=>?_
 .obtain⟨z,t,P2,rfl⟩:=zz rv j v hj;rw [bh,P2] at VS;cases VS;have keep:∀b u,b≠X.env.locals->s2.heap.get? b=some u->yK.get? b=some u:=λb u nb hb=>by
   by_cases e:b=a
   .subst e;rw [ga] at hb;cases hb;exact(N (b,oa) (by simp)).1
   exact(N (b,u) (i4 _ (bJ _ (Fe.iD.mpr ⟨nb,e,hb⟩)))).1
  have Y5:=hv z (cR P2);obtain⟨w',hw,x8⟩:=gL.some_of (v:=.int (g z)) (o:=valueAt dvs (Sum.inr z)) (by rw [<-Y5];exact rel.val (Sum.inr z));obtain⟨tw,rfl⟩:=(show ∃t,w'=Value.int (g z) t from x8);have dd2:yK.DictOf (aS X.prog X.w) d dvs:=by
   obtain⟨o,es,ep,g1,r⟩:=dd;exact⟨o,es,ep,keep _ _ MP g1,r⟩
  have gc2:yK.CodeRec (.ref c') (X.env.qual ++ "<lambda>"):=by
   obtain⟨c2,XZ,UT,t2,e2,w_,gi,Lh⟩:=gc;cases e2;exact⟨_,XZ,UT,t2,rfl,keep _ _ (FT c' _ jJ) w_,gi,Lh⟩
  have nl:yK.NoLimit:=I2.mod.nolimit.keeps λb o e=>keep b o (a_ (dA (aP e) F0.above)) (I2.bk b o e);exact DJ (s:={ s2 with heap:=yK,toks:=tk }) (A:=X.A.in1.in1) hr.depth nl (keep _ _ (FT f _ hf) gf) gc2 (λus hl=>hb _ _ _ _ _ us hl) hk SS JR Sv hh hs WA (keep _ _ K_ NC) NB dd2 hw d1 d2 d3
   λh3 tk3 Vy=>KskEnd.intro (F.kept Vy) (N.grown Vy) λp hp=>hp
 have keep:∀b u,b≠X.env.locals->s2.heap.get? b=some u->h'.get? b=some u:=λb u nb hb=>by
  by_cases e:b=a
  .subst e;rw [ga] at hb;cases hb;exact(N' (b,oa) (by simp)).1
  exact(N' (b,u) (bJ _ (bJ _ (Fe.iD.mpr ⟨nb,e,hb⟩)))).1
 have hD:s2.heap.get? D=none:=by
  cases e:s2.heap.get? D with
  | none=>rfl
  | some o =>
   exfalso;have nD:D≠X.env.locals:=(N' (D,_) bZ).2.1;by_cases ea:D=a
   .have:=lt' (a,oa) bZ;rw [ea] at this;exact absurd this (hJ _)
   exact absurd (lt' (D,o) (bJ _ (Fe.iD.mpr ⟨nD,ea,e⟩))) (hJ _)
 have fD:H2 D=none:=by
  cases e:H2 D with
  | none=>rfl
  | some u =>
   obtain⟨ob,g⟩:=Di (I2.bo D u e);rw [hD] at g;cases g
 have fD1:H1 D=none:=by
  cases e:H1 D with
  | none=>rfl
  | some u =>
   by_cases z:D=T
   .obtain⟨pt2,eT2,_⟩:=PQ;rw [z,eT2] at fD;cases fD
   rw [st _ _ z e] at fD;cases fD
 rw [ei,<-ez] at ko;obtain⟨qs,eo,pe,ps⟩:=C8 ko;rw [ez] at pe;have gD:=(N' (D,_) bZ).1;have lq:qs.length=zs.length:=by have:=pe.length_eq;rw [az] at this;exact this
 have sl:=ag fD (.lst ((qs.map (·.1)).map V.str));refine⟨.ref D,_,I2.M9 (t':=tk) keep (λm' hm=>?_) hD fD (show bE X.prog X.w _ _ _ (.lst ((qs.map (·.1)).map V.str)) from ⟨by rw [az,az];exact fits ∅,qs.map (λp=>Value.str p.1 p.2),cnt,rP qs,by rw [<-eo];simpa using gD⟩),rfl,q1 D (qs.map (·.1)) _ (λb o n hb=>sl _ _ (st b o n hb)) ?_ fD1 pe ps ae⟩
 .have:=F'.ns;have e:m'=m:=by
   obtain⟨o,es,ep,ho,Aa,_,hf⟩:=hm;obtain⟨o2,es2,ep2,VN,NR,_,Bh⟩:=sN;rw [ho] at VN;cases VN;rw [Aa] at NR;cases NR
   funext x
   rw [<-hf x,<-Bh x]
  rw [e];exact this
 obtain⟨Pj,b1,b2,b3⟩:=PQ;refine⟨Pj,sl _ _ b1,b2,b3.imp id λaR=>?_⟩;obtain⟨c3,e3,g3⟩:=aR;exact⟨c3,e3,sl _ _ g3⟩
end
open PySem M11
def zd {K:aT}{H:Hp}{p D d:Addr}{zs:List Str}{kvs:List (aF×V)}{g:G}{σ:St}{js:List (Nat×Str)}{Qp:Hp->Prop}(hσ:cZ ["part"] js σ=[none,bu d])(hp:aX K H p (zs.map V.str))(hz:zs.length<=1000)
  (hd:Rd H d (.dK kvs))(hv:∀z,aV kvs (Sum.inr z)=(g z).map V.int)(ha:∀z∈zs,(g z).isSome=true)(hD:H D=none)(q:∀H2,aB H H2->H2 D=some (.lst ((zs.map λz=>(g z).getD 0).map V.int))->Qp H2) :
  ∃W:Nat->Nat->List V->St->Hp->Prop,(∃m,W 0 m [] (cZ ["part"] js σ) (upd H D (.lst []))) /\
 ∀i m ys σ' H,W i m ys σ' H->((ma K p).stop i H/\Qp H)\/((ma K p).go i H/\∃m',m' < m/\∀x H',(ma K p).kA i H x H'->cY 0 x σ' H' λσ2 H2=>gQ σ2 H2 λb H3 =>
  if b=true then zt (e_ 1) (e_ 0) σ2 H3 λy H4=>H4 D=some (.lst ys)/\ys.length < sizeLine/\W (i+1) m' (ys++[y]) σ2 (upd H4 D (.lst (ys++[y]))) else W (i+1) m' ys σ2 H3):=by
 refine fC (xs:=zs.map V.str) (λi ys σ2 H2=>ys=(((zs.take i).map λz=>(g z).getD 0).map V.int)/\(∃y0,σ2=[y0,bu d])/\aB H H2/\H2 D=some (.lst ys))
  ⟨rfl,⟨none,hσ⟩,ag hD _,ae⟩ (λi ys σ2 H2 _ h=>h.2.2.1.tup hp) (λi x ys σ2 H2 ex h=>?_) (λys σ2 H2 h=>?_)
 .obtain⟨rfl,⟨y0,rfl⟩,sm,hd2⟩:=h;rw [bh] at ex;obtain⟨z,ez,rfl⟩:=bR.mp ex;have li:=(ba.mp ez).1;obtain⟨n,en⟩:=i5.mp (ha z (cR ez));have hg:bV H2 d (.str z) (some (.int n)):=by
   have:=bV.r (k:=Sum.inr z) (eG.Rd.same hd sm);rw [hv,en] at this;exact this
  refine goN (wm ?_);refine⟨_,rfl,_,rfl,d,_,rfl,hg,hd2,bA (by rw [az,az,dI];omega),?_,⟨_,rfl⟩,?_,ae⟩
  .rw [cu,ez,br,br];show _=_++[V.int ((g z).getD 0)];rw [en];rfl
  intro b o hb;rw [ai (λz=>by rw [z,hD] at hb;cases hb)];exact sm b o hb
 obtain⟨rfl,_,sm,hd2⟩:=h;rw [az,cb] at hd2;exact q H2 sm hd2
end L2
namespace eG
open PySem L2 M11
section
def pU (K:aT):Sp:=λvs H Q _=>∃(d r:Addr)(kvs:List (aF×V))(g:G)(ru:av),vs=[.ref d,.ref r]/\Rd H d (.dK kvs)/\(∀z,aV kvs (Sum.inr z)=(g z).map V.int)/\Aw K H r ru/\ru.2.length<=8/\(∀z∈ru.2,(g z).isSome=true)/\∀H',aB H H'->Q (.int (aG g ru)) H'
def xG:aJ ["sizes","rule"] ["sizes","rule"] (au mQ):=ju rfl rfl rfl rfl nofun
def vP (F:iq K "rule_size" "rule_size" mQ f fd)(T:Txt mg):bf P w K mg base fk 1 f fd ["sizes","rule"] (pU K):=by
 refine F.ok xG (λvs H Q E h=>?_) (λdr A outer s H vs Q E hr h=>?_)
 .obtain⟨d,r,kvs,g,ru,rfl,_⟩:=h;rfl
 obtain⟨d,r,kvs,g,ru,rfl,hd,hv,⟨p,v1,v2⟩,h8,al,q⟩:=h;have hu:=f_ hr;refine⟨_,aq (bO (bK eK aA (bL (sY rfl) rfl T.sum PyProof.Rows.boot_sum (ah (bq ["part"] [(0,"sizes")] rfl (gJ (bz cO (pv 1) aA (λ_ _=>rfl))) (a9 rfl rfl) nofun rfl nofun
   (λ_ _ _ _ _=>ar (i:=0) (show (["part","sizes"]:List Str).Nodup by decide +kernel) rfl (bM rfl)) (λ_ _ _ _ _=>b9) (λ_ _ _ _ _=>dY hu (pv 1) (pv 0) (λ_ _=>rfl))) ak)))),?_⟩
 dsimp only [Er];refine⟨_,rfl,r,_,_,_,rfl,rfl,v1,rfl,p,rfl,⟨_,v2⟩,λD hD=>zd (g:=g) rfl v2 ∅ hd hv al hD λH2 s2 e2=>?_⟩;refine⟨D,_,rfl,aD.of e2,_,_,rfl,rfl,?_⟩;exact q H2 s2
end
end eG
namespace M11
open PySem
def qX.at_ {aa:List av}{aQ:List (Str×Nat)}(h:qX aa aQ):∀(i:Nat)(x:Str) (k:Nat),aQ[i]?=some (x,k)->∃dD,aa[k]?=some (x,dD)/\∀p∈dD,p∈(aQ.take i).map (·.1):=by
 induction h with
 | nil=>intro i x k e;simp at e
 | @snoc aQ k2 ru h e n p ih =>
  intro i x k ei;by_cases hi:i < aQ.length
  .rw [nW hi] at ei;obtain⟨dD,a,b⟩:=ih i x k ei;exact⟨dD,a,λq hq=>by rw [rL (i9 hi)];exact b q hq⟩
  have li:=(ba.mp ei).1;rw [cC,nV] at li;have e2:i=aQ.length:=by omega
  subst e2;rw [pz (aH _),Nat.sub_self] at ei;cases ei;exact⟨ru.2,e,λq hq=>by rw [List.take_left'];exact p q hq;rfl⟩
end M11
namespace eG
open PySem L2 M11
section
def qJ {H:Hp}{p D d:Addr}{zs:List Str}{kvs:List (aF×V)}{σ:St}{js:List (Nat×Str)}{Qp:Hp->Prop}(hσ:cZ ["part"] js σ=[none,bu d])(hp:aX K H p (zs.map V.str))(hz:zs.length<=1000)
  (hd:H d=some (.dK kvs))(ha:∀z∈zs,(Sum.inr z:aF)∈kvs.map (·.1))(hD:H D=none)(q:∀ys H2,ys.length=zs.length->aB H H2->H2 D=some (.lst ys)->Qp H2) :
  ∃W:Nat->Nat->List V->St->Hp->Prop,(∃m,W 0 m [] (cZ ["part"] js σ) (upd H D (.lst []))) /\
 ∀i m ys σ' H,W i m ys σ' H->((ma K p).stop i H/\Qp H)\/((ma K p).go i H/\∃m',m' < m/\∀x H',(ma K p).kA i H x H'->cY 0 x σ' H' λσ2 H2=>gQ σ2 H2 λb H3 =>
  if b=true then zt (e_ 1) (e_ 0) σ2 H3 λy H4=>H4 D=some (.lst ys)/\ys.length < sizeLine/\W (i+1) m' (ys++[y]) σ2 (upd H4 D (.lst (ys++[y]))) else W (i+1) m' ys σ2 H3):=by
 refine fC (xs:=zs.map V.str) (λi ys σ2 H2=>ys.length=i/\(∃y0,σ2=[y0,bu d])/\aB H H2/\H2 D=some (.lst ys))
  ⟨rfl,⟨none,hσ⟩,ag hD _,ae⟩ (λi ys σ2 H2 _ h=>h.2.2.1.tup hp) (λi x ys σ2 H2 ex h=>?_) (λys σ2 H2 h=>?_)
 .obtain⟨rfl,⟨y0,rfl⟩,sm,hd2⟩:=h;rw [bh] at ex;obtain⟨z,ez,rfl⟩:=bR.mp ex;have li:=(ba.mp ez).1;obtain⟨v,ev⟩:=i5.mp ((dM kvs (Sum.inr z)).mpr (ha z (cR ez)));have hg:bV H2 d (.str z) (some v):=by
   have:=bV.k (k:=Sum.inr z) (sm _ _ hd);rw [ev] at this;exact this
  refine goN (wm ?_);refine⟨_,rfl,_,rfl,d,_,rfl,hg,hd2,bA ∅,by rw [cC];rfl,⟨_,rfl⟩,?_,ae⟩;intro b o hb;rw [ai (λz=>by rw [z,hD] at hb;cases hb)];exact sm b o hb
 obtain⟨e,_,sm,hd2⟩:=h;rw [az] at e;exact q ys H2 e sm hd2
def rT (K:aT):Sp:=λvs H Q _=>∃(R D:Addr)(rs ts:List Addr)(aa:List av)(aQ:List (Str×Nat)),vs=[.ref R,.ref D]/\aD K H R (rs.map V.ref)/\bN K H rs aa/\aa.length<=1000/\(∀ru∈aa,ru.2.length<=8)/\aD K H D (ts.map V.ref)/\nF K H ts aQ/\qX aa aQ/\aQ.length<=1000 /\
 ∀(d:Addr)(kvs:List (aF×V))(H':Hp),H d=none->aB H H'->H' d=some (.dK kvs)->kvs.map (·.1)=(aQ.map (·.1)).map Sum.inr->Q (.ref d) H'
def jA:aJ ["rules","empties","trees","name","number"] ["rules","empties"] (au pX):=ju rfl rfl rfl rfl nofun
def yq (F:iq K "empty_by_name" "empty_by_name" pX f fd)(T:Txt mg):bf P w K mg base fk 1 f fd ["rules","empties"] (rT K):=by
 refine F.ok jA (λvs H Q E h=>?_) (λdr A outer s H vs Q E hr h=>?_)
 .obtain⟨R,D,rs,ts,aa,aQ,rfl,_⟩:=h;rfl
 obtain⟨R,D,rs,ts,aa,aQ,rfl,hR,df,aZ,h8,hD,VZ,NO,PM,q⟩:=h;have hu:=f_ hr;refine⟨_,aj (aI (i:=2) jA.nd rfl (Or.inr rfl) fZ)
  (aj (cx cS rfl (a8 (pv 1)) (gU (n:=2) K rfl (aC (ar (i:=3) jA.nd rfl (bM rfl)) (aC (ar (i:=4) jA.nd rfl (bM rfl)) bW)))
   (aq (gT hu (pv 2) (pv 3) (cy (ah (pv 4) (ah (aY g8 rfl T.tup xq (ah (bq ["part"] [(2,"trees")] rfl (gJ (bz cO (bz cH (pv 0) (pv 4) (λ_ _=>rfl)) aA (λ_ _=>rfl))) (a9 rfl rfl) nofun rfl nofun
    (λ_ _ _ _ _=>ar (i:=0) (show (["part","trees"]:List Str).Nodup by decide +kernel) rfl (bM rfl)) (λ_ _ _ _ _=>b9) (λ_ _ _ _ _=>dY hu (pv 1) (pv 0) (λ_ _=>rfl))) ak)) ak))) rfl)))
  (aq (bO (pv 2)))),?_⟩
 nofun
 refine λd vm=>?_;have s1:=ag vm (.dK []);have e1:upd H d (.dK []) d=some (.dK []):=ae;generalize upd H d (.dK [])=H1 at s1 e1;refine goN ?_
 ac_rfl
 have lt:=bF VZ;have ll:=bF df;have nd:=NO.nd
 let wV:vp:=λi σ H3=>∃(kvs:List (aF×V))(y3 y4:Option V),σ=[bu R,bu D,bu d,y3,y4]/\aB H H3/\H3 d=some (.dK kvs)/\kvs.map (·.1)=((aQ.take i).map (·.1)).map Sum.inr
 refine⟨_,rfl,D,rfl,⟨_,s1.seq hD⟩,dG (xs:=ts.map V.ref) wV ⟨[],_,_,rfl,s1,e1,rfl⟩ ?_ ?_ ?_⟩
 .rintro i σ H3 _ ⟨kvs,y3,y4,rfl,s3,_⟩;exact s3.seq hD
 .rintro i x σ H3 ex ⟨kvs,y3,y4,rfl,s3,ed,ek⟩
  ac_nf0
  rw [bh] at ex;obtain⟨t,et,rfl⟩:=bR.mp ex;have li:=(ba.mp et).1;obtain⟨e,ee⟩:∃e,aQ[i]?=some e:=⟨aQ[i]'∅,dJ ∅⟩;obtain⟨t',Wl,vt⟩:=Paired.at_ VZ i e ee;rw [et] at Wl;cases Wl;obtain⟨x,k⟩:=e;obtain⟨dD,hk,NA⟩:=NO.at_ i x k ee;obtain⟨r,er,p,v1,v2⟩:=Paired.at_ df k _ hk;have OF:rC (rs.map V.ref) (k:Int)=some (.ref r):=dq (by rw [bh,er];rfl);have VM:dD.length<=8:=h8 _ (cR hk);refine⟨t,_,rfl,s3.tup vt,rfl,_,_,rfl,_,_,rfl,rfl,?_⟩;refine⟨_,rfl,_,rfl,_,rfl,R,_,_,_,rfl,rfl,s3.seq hR,OF,r,_,_,_,rfl,rfl,s3.tup v1,rfl,p,rfl,⟨_,s3.tup v2⟩,λD2 iQ=>qJ (zs:=dD) rfl (s3.tup v2) ∅ ed (λz hz=>by rw [ek];exact cw.mpr (NA z hz)) iQ λys H4 ly s4 e4=>?_⟩;refine⟨D2,ys,rfl,.inl ⟨aD.of e4,λt2 Tj=>⟨ou,λDy Kl=>?_⟩⟩⟩;have k5:=(ag Tj (.tup ys)).trans (ag Kl (.tup [.int (k:Int),.ref t2]));generalize upd (upd H4 t2 (.tup ys)) Dy (.tup [.int (k:Int),.ref t2])=H5 at k5;have ed5:=k5 _ _ (s4 _ _ ed);have lkv:kvs.length=i:=by
   have:=congrArg List.length ek;rw [az,az,az,dI] at this;omega
  have nx:x∉(aQ.take i).map (·.1):=λz=>by
   obtain⟨e2,m2,q2⟩:=b_.mp z;obtain⟨j,hj⟩:=fq m2;rw [List.getElem?_take] at hj
   split at hj
   .rename_i VT
    have a1:(aQ.map (·.1))[j]?=some x:=by rw [bh,hj];exact congrArg some q2
    have a2:(aQ.map (·.1))[i]?=some x:=by rw [bh,ee];rfl
    have:=(List.getElem?_inj (by rw [az];omega) nd).mp (a1.trans a2.symm);omega
   cases hj
  refine⟨_,rfl,_,rfl,d,_,rfl,.inl ⟨kvs,Sum.inr x,ed5,rfl,bA ∅,rfl⟩,?_⟩;refine⟨_,_,_,rfl,λb o hb=>?_,ae,?_⟩
  .rw [ai (λz=>by rw [z,vm] at hb;cases hb)];exact k5 _ _ (s4 _ _ (s3 b o hb))
  rw [gA (by rw [ek];exact λz=>nx (cw.mp z)),ek,cu,ee,br,br];rfl
 rintro σ H3 ⟨kvs,y3,y4,rfl,s3,ed,ek⟩;rw [az,lt,cb] at ek;exact⟨_,rfl,q d kvs H3 vm s3 ed ek⟩
end
end eG
namespace M11
open PySem
def Le (g' g:G):Prop:=∀z n,g z=some n->∃m,g' z=some m/\m<=n
def wu {g:G}{ru:av}(f:bD bl g ru=true):ip g ru=true/\∀n,g ru.1=some n->aG g ru < n:=by
 unfold bD at f;rw [jQ] at f;refine⟨f.1,λn e=>?_⟩;have:=f.2;rw [e] at this;have:(!(some n:Option Int).isSome || bl (aG g ru) n)=true:=this
 simpa [bl] using this
def le_step {g:G}{ru:av}(f:bD bl g ru=true):Le (cM g ru.1 (aG g ru)) g:=λz n e=>by
 unfold cM;by_cases c:z=ru.1
 .rw [aw c];subst c;exact⟨_,rfl,Int.le_of_lt ((wu f).2 n e)⟩
 rw [ay c];exact⟨n,e,iW _⟩
theorem Cj {g g':G}(h:Le g' g):∀ps:List Str,(∀p∈ps,(g p).isSome=true)->(∀p∈ps,(g' p).isSome=true)/\(ps.map λp=>(g' p).getD 0).sum<=(ps.map λp=>(g p).getD 0).sum
 | [],_=>⟨λp hp=>(by cases hp),iW _⟩
 | p::r,a=>by
  obtain⟨h1,h2⟩:=Cj h r λq hq=>a q (bJ _ hq);obtain⟨n,en⟩:=i5.mp (a p bZ);obtain⟨m,em,lm⟩:=h p n en;refine⟨λq hq=>?_,?_⟩
  .rcases bC.mp hq with rfl | hq
   .rw [em];rfl
   exact h1 q hq
  rw [bw,bw,kJ,kJ,en,em];show m+_<=n+_;omega
def tG {g:G}{ru:av}:ip g ru=true↔∀p∈ru.2,(g p).isSome=true:=by
 unfold ip;rw [eY]
def size_le {g g':G}{ru:av}(h:Le g' g)(a:ip g ru=true):ip g' ru=true/\aG g' ru<=aG g ru:=by
 obtain⟨h1,h2⟩:=Cj h ru.2 (tG.mp a);exact⟨tG.mpr h1,by unfold aG;omega⟩
def LM (aa:List av) (hs:List Str)(g:G):Prop:=∀h n,g h=some n->h∉hs\/∃ru∈aa,ru.1=h/\ip g ru=true/\aG g ru<=n
def B9 {aa:List av}{hs:List Str}(g:G)(ru:av)(j:LM aa hs g)(m:ru∈aa)(f:bD bl g ru=true):LM aa hs (cM g ru.1 (aG g ru)):=λh n e=>by
 have le:=le_step f;by_cases c:h=ru.1
 .have e2:n=aG g ru:=by
   unfold cM at e;rw [aw c] at e;exact(gP e).symm
  obtain⟨a1,a2⟩:=size_le le (wu f).1;exact .inr ⟨ru,m,c.symm,a1,∅⟩
 have e2:g h=some n:=by
  unfold cM at e;rw [ay c] at e;exact e
 rcases j h n e2 with h1 | ⟨Pf,m2,q2,a2,l2⟩
 .exact .inl h1
 obtain⟨b1,b2⟩:=size_le le a2;exact .inr ⟨Pf,m2,q2,b1,∅⟩
def A7 {aa:List av}{hs:List Str}{g0 g:G}(j0:LM aa hs g0)(st:bU bl aa g0 g)(se:cQ bl aa g){h:Str}{n:Int}(hh:h∈hs)(e:g h=some n):∃ru∈aa,ru.1=h/\ip g ru=true/\aG g ru=n:=by
 have j:LM aa hs g:=bU.keep (J:=LM aa hs) (λg ru j m f=>B9 g ru j m f) st j0;rcases j h n e with z | ⟨ru,m,q,a,l⟩
 .exact absurd hh z
 refine⟨ru,m,q,a,?_⟩;have f:=se ru m;unfold bD at f;rw [a,q,e] at f;have f:(true && (!(some n:Option Int).isSome || bl (aG g ru) n))=false:=f
 have f2:¬aG g ru < n:=by simpa [bl] using f
 omega
theorem z6 {g:G}(nn:NN g):∀(ps:List Str)(p:Str) (m:Int),p∈ps->g p=some m->m<=(ps.map λp=>(g p).getD 0).sum
 | q::r,p,m,hp,e=>by
  rw [bw,kJ];have h1:=iA g nn r;rcases bC.mp hp with rfl | hp
  .rw [e];show m<=m+_;omega
  have h2:=z6 nn r p m hp e;have h3:0<=(g q).getD 0:=by
   cases eq:g q with
   | none=>exact iW _
   | some n=>exact nn q n eq
  omega
def AO {g:G}(nn:NN g){ru:av}{p:Str}{m:Int}(hp:p∈ru.2)(e:g p=some m):m < aG g ru:=by
 have:=z6 nn ru.2 p m hp e;unfold aG;omega
theorem oM:∀(aN ps a7:List Str),(∀z∈a7,z∉aN)->∀z∈pM aN a7 ps,z∉aN
 | _,[],a7,h=>h
 | aN,p::r,a7,h=>by
  show ∀z∈pM aN (addW aN a7 p) r,z∉aN;refine oM aN r _ ?_;unfold addW
  split
  .exact h
  rename_i hp
  unfold fh
  split
  .exact h
  intro z hz;rcases cq.mp hz with hz | hz
  .exact h z hz
  rw [cm.mp hz];exact hp
def uw {g:Str->Int}{zs:List Str}(h:zs.Pairwise λx y=>g x<=g y){i:Nat}{x p:Str}(e:zs[i]?=some x)(hp:p∈zs)(l:g p < g x):p∈zs.take i:=by
 obtain⟨j,ej⟩:=fq hp;obtain⟨li,ei⟩:=ba.mp e;obtain⟨lj,ej2⟩:=ba.mp ej;have VT:j < i:=by
  rcases Nat.lt_trichotomy j i with h1 | h1 | h1
  .exact h1
  .subst h1;rw [e] at ej;cases ej;omega
  have:=List.pairwise_iff_getElem.mp h i j li lj h1;rw [ei,ej2] at this;omega
 rw [List.mem_iff_getElem?];exact⟨j,by rw [List.getElem?_take,aw VT];exact ej⟩
end M11
namespace eG
open PySem L2 M11
def Qv (aa:List av):LM aa (hd aa) (jB aa):=λh n e=>by
 unfold jB at e;by_cases c:h∈pM (hd aa) [] (aa.flatMap (·.2))
 .exact .inl (oM _ _ [] (λz hz=>by cases hz) h c)
 rw [ay c] at e;cases e
def X5 (aa:List av):NN (jB aa):=λh n e=>by
 unfold jB at e;by_cases c:h∈pM (hd aa) [] (aa.flatMap (·.2))
 .rw [aw c] at e;cases e;exact iW _
 rw [ay c] at e;cases e
def Jm {aa:List av}{g:G}(st:bU M11.bl aa (jB aa) g):NN g:=bU.keep (J:=NN) (λg ru j m f=>uN j ru) st (X5 aa)
theorem oN (aN:List Str):∀(ps a7:List Str)(x:Str),(x∈a7\/(x∈ps/\x∉aN))->x∈pM aN a7 ps
 | [],a7,x,h=>by
  rcases h with h | ⟨h,_⟩
  .exact h
  cases h
 | p::r,a7,x,h=>by
  show x∈pM aN (addW aN a7 p) r;apply oN aN r;unfold addW;by_cases c:p∈aN
  .rw [aw c];rcases h with h | ⟨h,n⟩
   .exact .inl h
   rcases bC.mp h with z | z
   .exact absurd (z ▸ c) n
   exact .inr ⟨z,n⟩
  rw [ay c];rcases h with h | ⟨h,n⟩
  .exact .inl ((l7 _ _ _).mpr (.inl h))
  rcases bC.mp h with z | z
  .exact .inl ((l7 _ _ _).mpr (.inr z))
  exact .inr ⟨z,n⟩
def MH:List Stmt->Pos
 | [_,_,_,.For _ (.Call _ _ [⟨_,.Lambda _ _ _ pos,_⟩] _) _ _ _,_]=>pos
 | _=>⟨0,0,0,0⟩
abbrev posB:Pos:=MH (bB lg)
abbrev EY:Str := "least_by_part" ++ ".<locals>." ++ "<lambda>"
section
def mM (K:aT)(T1 T3:Addr):Sp:=λvs H Q _=>∃(R:Addr)(rs:List Addr)(aa:List av),vs=[.ref R]/\aD K H R (rs.map V.ref)/\bN K H rs aa/\aa.length < 64/\(∀ru∈aa,ru.2.length<=8)/\(∀g,bU M11.bl aa (jB aa) g->cQ M11.bl aa g->∀h∈hd aa,∃n,g h=some n/\n<=60)/\Tab T1 qg.2.2.2 w6 H/\Tab T3 posB EY H/\T1≠T3 /\
 ∀(d:Addr)(kvs:List (aF×V))(H':Hp),H d=none->jW T1 T3 H H'->Tab T1 qg.2.2.2 w6 H'->Tab T3 posB EY H'->H' d=some (.dK kvs)->(∀z,z∈hd aa->(Sum.inr z:aF)∈kvs.map (·.1))->Q (.ref d) H'
structure LB (K:aT)(rs:List Addr)(aa:List av)(o5:List (aF×V))(ps:List (Str×Addr))(R dz dn T1 T3:Addr)(H5:Hp):Prop where
 hR:aD K H5 R (rs.map V.ref)
 df:bN K H5 rs aa
 nm:Fc ps (λn=>nums aa n aa.length) H5 dn
 rz:Rd H5 dz (.dK o5)
 t1:Tab T1 qg.2.2.2 w6 H5
 t3:Tab T3 posB EY H5
theorem LB.same {rs:List Addr}{aa:List av}{o5:List (aF×V)}{ps:List (Str×Addr)}{R dz dn T1 T3:Addr}{H5 H6:Hp}(h:LB K rs aa o5 ps R dz dn T1 T3 H5)(s:aB H5 H6):LB K rs aa o5 ps R dz dn T1 T3 H6 :=
 ⟨s.seq h.hR,h.df.same s,h.nm.same s,eG.Rd.same h.rz s,h.t1.same s,h.t3.same s⟩
def LB.Hw {rs:List Addr}{aa:List av}{o5:List (aF×V)}{ps:List (Str×Addr)}{R dz dn T1 T3 d:Addr}{H5 H6:Hp}{kv:List (aF×V)}(h:LB K rs aa o5 ps R dz dn T1 T3 H5)(e:H5 d=some (.dK kv))(n1:dn≠d)(n2:dz≠d)(s:eF d H5 H6):LB K rs aa o5 ps R dz dn T1 T3 H6:=by
 have tk:∀a xs,aX K H5 a xs->aX K H6 a xs:=λa xs z=>by
  rcases z with (z | ⟨u,z⟩) | z
  .exact .inl (.inl (s _ _ (λy=>by rw [y,e] at z;cases z) z))
  .exact .inl (.inr ⟨u,s _ _ (λy=>by rw [y,e] at z;cases z) z⟩)
  exact .inr z
 have tb:∀{T':Addr}{pos':Pos}{EX:Str},Tab T' pos' EX H5->Tab T' pos' EX H6:=λ{T' pos' EX} ⟨p,a,b,cc⟩=>⟨p,s _ _ (λy=>by rw [y,e] at a;cases a) a,b,cc.imp id λ⟨c',e1,e2⟩=>⟨c',e1,s _ _ (λy=>by rw [y,e] at e2;cases e2) e2⟩⟩;refine⟨?_,h.df.keep tk,⟨s _ _ n1 h.nm.hd,h.nm.n1,h.nm.n2,λp hp=>s _ _ (λy=>by have a:=h.nm.lst p hp;rw [y,e] at a;cases a) (h.nm.lst p hp)⟩,?_,tb h.t1,tb h.t3⟩
 .rcases h.hR with (z | ⟨u,z⟩) | z
  .exact .inl (.inl (s _ _ (λy=>by rw [y,e] at z;cases z) z))
  .exact .inl (.inr ⟨u,s _ _ (λy=>by rw [y,e] at z;cases z) z⟩)
  exact .inr z
 rcases h.rz with z | ⟨u,z⟩
 .exact .inl (s _ _ n2 z)
 exact .inr ⟨u,s _ _ n2 z⟩
def LB.Mt {rs:List Addr}{aa:List av}{o5:List (aF×V)}{ps:List (Str×Addr)}{R dz dn T1 T3:Addr}{H5 H6:Hp}(h:LB K rs aa o5 ps R dz dn T1 T3 H5)(nT:T1≠T3)(s:eF T3 H5 H6)(t:Tab T3 posB EY H6):LB K rs aa o5 ps R dz dn T1 T3 H6:=by
 obtain⟨pt,eT,_⟩:=id h.t3;refine⟨zO s h.t3 h.hR,h.df.keep λ_ _ z=>zo s h.t3 z,⟨s _ _ (λy=>by have a:=h.nm.hd;rw [y,eT] at a;cases a) h.nm.hd,h.nm.n1,h.nm.n2,λp hp=>s _ _ (λy=>by have a:=h.nm.lst p hp;rw [y,eT] at a;cases a) (h.nm.lst p hp)⟩,?_,zq s h.t3 h.t1 nT,t⟩;rcases h.rz with z | ⟨u,z⟩
 .exact .inl (s _ _ (λy=>by rw [y,eT] at z;cases z) z)
 exact .inr ⟨u,s _ _ (λy=>by rw [y,eT] at z;cases z) z⟩
theorem ng:∀(hs:List Str)(a7:List (aF×V)) (as:List Str),a7.map (·.1)=as.map Sum.inr->(cA (hs.map λh=>((Sum.inr h:aF),V.str h)) a7).map (·.1)=(M11.jK as hs).map Sum.inr
 | [],a7,as,e=>e
 | h::r,a7,as,e=>ng r (bc a7 (Sum.inr h) (.str h)) (M11.fh as h) (eG.jm e h)
def gE:aJ ["rules","numbers","trees","name","least","sizes"] ["rules"] (au lg):=ju rfl rfl rfl rfl nofun
def yo {T1 T3:Addr}(F:wW K "least_by_part" "least_by_part" lg f fd T3)(T:Txt mg)(hB:qZ mg base)(hS:mg "sorted"=none)(GH:aM P w K mg base 3 "heads_of" ["rules"] (jy K))(GL:aM P w K mg base 3 "least_sizes" ["rules"] (oQ K T1))(GN:aM P w K mg base 3 "numbers_by_name" ["rules"] (Cq K))(GZ:aM P w K mg base 3 "rule_size" ["sizes","rule"] (pU K)):bf P w K mg base fk 4 f fd ["rules"] (mM K T1 T3):=by
 refine F.ok gE (λvs H Q E h=>?_) (λc A outer s H vs Q E hC hr h=>?_)
 .obtain⟨R,rs,aa,rfl,_⟩:=h;rfl
 obtain⟨R,rs,aa,rfl,hR,df,aZ,h8,DQ,Gg,S_,nT,q⟩:=h;have hu:=f_ hr;refine⟨_,aj (aI (i:=5) gE.nd rfl (Or.inr rfl) (cv GL hr rfl (ah (pv 0) ak)))
  (aj (aI (i:=1) gE.nd rfl (Or.inr rfl) (cv GN hr rfl (ah (pv 0) ak)))
  (aj (aI (i:=2) gE.nd rfl (Or.inr rfl) (aY (dj rfl) rfl T.Al eC (ah (bq ["part"] [(1,"numbers")] rfl (zV (pv 5)) (a9 rfl rfl) nofun rfl nofun
    (λ_ _ _ _ _=>ar (i:=0) (show (["part","numbers"]:List Str).Nodup by decide +kernel) rfl (bM rfl)) (λ_ _ _ _ _=>fO (eI (dH hu (pv 0) (pv 1)))) (λ_ _ _ _ _=>cy (ah (pv 0) (ah (pv 0) ak)))) ak)))
  (aj (cx cS rfl (a8 (C1 (i:=5) (T:=T3) hr rfl hC hB rfl hS (ah (cv GH hr rfl (ah (pv 0) ak)) ak) rfl rfl (λy hy=>by
    rcases bC.mp hy with h | h
    .cases h
    rcases bC.mp h with h | h
    .cases h;rfl
    cases h) (λq cl pm eQ c' us hl=>match us,hl with | [_],_=>rfl) rfl rfl rfl nofun rfl rfl)) (ar (i:=3) gE.nd rfl (Or.inr rfl))
   (aj (gS (iy:=4) ["number"] [(5,"sizes"),(0,"rules"),(3,"name")] gE.nd rfl rfl rfl (a8 (dY hu (pv 1) (pv 3) (λ_ _=>rfl))) (a9 rfl rfl) nofun rfl nofun
    (λ_ _ _ _ _=>ar (i:=0) (show (["number","sizes","rules","name"]:List Str).Nodup by decide +kernel) rfl (bM rfl)) (λ_ _ _ _ _=>fO (bT Dd (cv GZ hr rfl (ah (pv 1) (ah (bz (v9 K) (pv 2) (pv 0) (λ_ _=>rfl)) ak))) (dY hu (pv 1) (pv 3) (λ_ _=>rfl)) (cE _))) (λ_ _ _ _ _=>pv 0))
   (aq (gT hu (pv 2) (pv 3) (cy (ah (bz cH (pv 4) aA (λ_ _=>rfl)) (ah (aY g8 rfl T.tup xq (ah (bq ["part"] [(2,"trees")] rfl (gJ (bz cO (bz cH (pv 0) (bz cH (pv 4) aA (λ_ _=>rfl)) (λ_ _=>rfl)) aA (λ_ _=>rfl))) (a9 rfl rfl) nofun rfl nofun
    (λ_ _ _ _ _=>ar (i:=0) (show (["part","trees"]:List Str).Nodup by decide +kernel) rfl (bM rfl)) (λ_ _ _ _ _=>b9) (λ_ _ _ _ _=>dY hu (pv 1) (pv 0) (λ_ _=>rfl))) ak)) ak))) rfl))))
  (aq (bO (pv 2)))))),?_⟩
 nofun
 refine⟨_,rfl,R,rs,aa,rfl,hR,df,∅,h8,Gg,λdz o5 Hu g H1 fz s1 t1 ez kz vz Pa U7 lz=>?_⟩;refine goN ?_
 ac_rfl
 have V6:=zO s1 Gg hR;have Ny:=df.keep λ_ _ z=>zo s1 Gg z;have UZ:=zq s1 Gg S_ (du nT);refine⟨_,rfl,R,rs,aa,rfl,V6,Ny,∅,λdn ps H2 fn s2 nm pk pf=>?_⟩;refine goN ?_
 ac_rfl
 have Lx:=s2 _ _ ez;refine⟨_,rfl,dz,o5,rfl,Lx,λo D hD=>?_⟩;have Rk:∀p∈ps,p.2≠dz:=λp hp z=>by
  have a:=nm.lst p hp;rw [z,Lx] at a;cases a
 have Yd:dn≠dz:=λz=>by rw [z,ez] at fn;cases fn
 have X1:T1≠dz:=λz=>by
  obtain⟨p,a,_⟩:=t1;rw [z,ez] at a;cases a
 have X0:T3≠dz:=λz=>by
  obtain⟨p,a,_⟩:=UZ;rw [z,ez] at a;cases a
 have LX:∀{T':Addr}{pos':Pos}{EX:Str},T'≠dz->Tab T' pos' EX H2->Tab T' pos' EX (upd H2 dz (.iV o (.dK o5))):=λ{T' pos' EX} n ⟨p,a,b,cc⟩=>⟨p,by rw [ai n];exact a,b,cc.imp id λ⟨c',e1,e2⟩=>⟨c',e1,by rw [ai (λz=>by rw [z,Lx] at e2;cases e2)];exact e2⟩⟩;have L3:LB K rs aa o5 ps R dz dn T1 T3 (upd H2 dz (.iV o (.dK o5))):=by
  refine⟨?_,(Ny.same s2).keep λ_ _ z=>dQ Lx z,⟨by rw [ai Yd];exact nm.hd,nm.n1,nm.n2,λp hp=>by rw [ai (Rk p hp)];exact nm.lst p hp⟩,.inr ⟨o,ae⟩,LX X1 (t1.same s2),LX X0 (UZ.same s2)⟩;rcases s2.seq V6 with (h | ⟨u,h⟩) | h
  .exact .inl (.inl (by rw [ai (λz=>by rw [z,Lx] at h;cases h)];exact h))
  .exact .inl (.inr ⟨u,by rw [ai (λz=>by rw [z,Lx] at h;cases h)];exact h⟩)
  exact .inr h
 have e3:upd H2 dz (.iV o (.dK o5)) dz=some (.iV o (.dK o5)):=ae;have AK:jW T1 T3 H (upd H2 dz (.iV o (.dK o5))):=λb u n1 n3 hb=>by
  rw [ai (λz=>by rw [z,fz] at hb;cases hb)];exact s2 _ _ (s1 b u n1 hb)
 generalize upd H2 dz (.iV o (.dK o5))=H3 at hD L3 e3 AK ⊢;have YI:o5.length=Hu.length:=by
  have:=congrArg List.length kz;rwa [az,az] at this
 refine qN (λi ys σ2 H4=>∃ts:List Addr,ys=ts.map V.ref/\(∃y0,σ2=[y0,bu dn])/\aB H3 H4/\H4 D=some (.lst ys)/\ts.length<=i/\Paired (λt h=>aX K H4 t [.str h,.str h]) ts ((Hu.take i).filter λz=>!decide (z∈hd aa)))
  ⟨[],rfl,⟨none,rfl⟩,ag hD _,ae,aH _,.nil⟩ (λi ys σ2 H4 _ h=>?_) (λi kv ys σ2 H4 ex h=>?_) (λys σ2 H4 h=>?_)
 .obtain⟨_,_,_,sm,_⟩:=h;exact sm _ _ e3
 .obtain⟨ts,rfl,⟨y0,rfl⟩,sm,e4,YD,pt⟩:=h;obtain⟨z,ezz,ekz⟩:∃z,Hu[i]?=some z/\kv.1=Sum.inr z:=by
   have a1:(o5.map (·.1))[i]?=some kv.1:=by rw [bh,ex];rfl
   rw [kz,bh] at a1;obtain⟨z,a2,a3⟩:=bR.mp a1;exact⟨z,a2,a3.symm⟩
  rw [ekz];have L4:=L3.same sm;have Gb:(aV (ps.map ir) (Sum.inr z)).isSome=decide (z∈hd aa):=by
   rw [jO,dM,decide_eq_true_iff,<-pk];rw [g_];constructor
   .intro h;obtain⟨p,hp,e⟩:=b_.mp h;exact b_.mpr ⟨p,hp,jY e⟩
   intro h;obtain⟨p,hp,e⟩:=b_.mp h;exact b_.mpr ⟨p,hp,congrArg Sum.inr e⟩
  refine goN ?_;refine⟨_,rfl,_,rfl,dn,_,rfl,bV.k (k:=Sum.inr z) L4.nm.hd,_,rfl,?_⟩;rw [Gb];have Od:((Hu.take (i+1)).filter λz=>!decide (z∈hd aa))=((Hu.take i).filter λz=>!decide (z∈hd aa))++(if (!decide (z∈hd aa))=true then [z] else []):=by
   rw [cu,ezz,kR]
   congr 1
   by_cases c:z∈hd aa <;> simp [c]
  refine dW (λcc=>?_) (λcc=>?_)
  .refine⟨_,rfl,_,rfl,ou,λt ht=>?_⟩;have k5:=ag ht (.tup [kV (Sum.inr z),kV (Sum.inr z)]);have v5:aX K (upd H4 t (.tup [kV (Sum.inr z),kV (Sum.inr z)])) t [.str z,.str z]:=aX.of ae;generalize upd H4 t (.tup [kV (Sum.inr z),kV (Sum.inr z)])=H5 at k5 v5;have li:=(ba.mp ex).1;have e5:=k5 _ _ e4;refine⟨e5,bA (by rw [az];omega),ts++[t],by rw [br];rfl,⟨_,rfl⟩,λb u hb=>?_,ae,by rw [cC,nV];omega,?_⟩
   .rw [ai (λz=>by rw [z,hD] at hb;cases hb)];exact k5 _ _ (sm b u hb)
   rw [Od,aw cc];exact eW (Paired.d_ pt λ_ _ z=>aW e5 (k5.tup z)) (aW e5 v5)
  refine⟨ts,rfl,⟨_,rfl⟩,sm,e4,∅,?_⟩;rw [Od,ay cc,eX];exact pt
 obtain⟨ts,rfl,_,s4,e4,YD,pt⟩:=h;rw [YI,cb] at pt;have VE:∀z,z∉hd aa->(g z).isSome=true->z∈Hu.filter λz=>!decide (z∈hd aa):=λz hz gz=>by
  refine fS.mpr ⟨?_,by simpa using hz⟩;have a1:(aV o5 (Sum.inr z)).isSome=true:=by rw [vz,mH];exact gz
  rw [dM,kz] at a1;exact cw.mp a1
 have YB:(Hu.filter λz=>!decide (z∈hd aa)).length<=20000:=cz (iM _ _) ∅;generalize Hu.filter (λz=>!decide (z∈hd aa))=ws at pt VE YB;have kp:Paired (λt (kv:aF×V)=>aX K H4 t [kV kv.1,kv.2]) ts (ws.map λh=>((Sum.inr h:aF),V.str h)):=cf pt λ_ _ z=>z;refine⟨D,ts,_,rfl,e4,kp,λdt Aa=>?_⟩;have kt:∀z∈ws,(Sum.inr z:aF)∈(cA (ws.map λh=>((Sum.inr h:aF),V.str h)) []).map (·.1):=λz hz=>by
  rw [ng ws [] [] rfl];exact cw.mpr ((dN ws [] z).mpr (.inr hz))
 have YJ:(cA (ws.map λh=>((Sum.inr h:aF),V.str h)) []).length<=20000:=by
  have a:=congrArg List.length (ng ws [] [] rfl);rw [az,az] at a;have:=fg ws [];simp only [gO] at this;omega
 generalize cA (ws.map λh=>((Sum.inr h:aF),V.str h)) []=Nb at kt YJ;have s5:=s4.trans (ag Aa (.dK Nb));have e5:upd H4 dt (.dK Nb) dt=some (.dK Nb):=ae;have HM:H3 dt=none:=s4.free Aa;generalize upd H4 dt (.dK Nb)=H5 at s5 e5;have L5:=L3.same s5;refine goN ?_
 ac_rfl
 refine⟨_,rfl,R,rs,aa,rfl,L5.hR,L5.df,∅,λDH H6 fH s6 eH=>?_⟩;have L6:=L5.same s6;have A5:=fg (aa.map (·.1)) [];simp only [gO,az] at A5;have gz:∀z∈hd aa,∃n,g z=some n:=λz hz=>by
  obtain⟨n,e,_⟩:=DQ g Pa U7 z hz;exact⟨n,e⟩
 refine⟨L6.t3,DH,hd aa,dz,o5,λz=>(g z).getD 0,rfl,aD.of eH,by unfold hd;omega,rfl,L6.rz,λz hz=>by obtain⟨n,e⟩:=gz z hz;rw [vz,e];show _=some (V.int ((g z).getD 0));rw [e];rfl,λl Im H7 s7 Xs fl pe pw el=>?_⟩;have L7:=L6.Mt nT s7 Xs;have Rv:dt≠T3:=λz=>by
  obtain⟨p,a,_⟩:=L5.t3;rw [<-z,e5] at a;cases a
 have e7:=s7 _ _ Rv (s6 _ _ e5);have Vl:dn≠dt:=λz=>by have a:=L3.nm.hd;rw [z,HM] at a;cases a
 have Vf:dz≠dt:=λz=>by rw [<-z,e3] at HM;cases HM
 have I0:jW T1 T3 H H7:=λb u n1 n3 hb=>s7 _ _ n3 (s6 _ _ (s5 _ _ (AK b u n1 n3 hb)));have Rp:l≠dt:=λz=>by rw [z,s6 _ _ e5] at fl;cases fl
 have nn:=Jm Pa;have hlz:Im.length < 64:=by rw [pe.length_eq];unfold hd;omega
 have OI:∀ru∈aa,∀p∈ru.2,(g p).isSome=true:=λru ft p hp=>by
  by_cases hh:p∈hd aa
  .obtain⟨n,e⟩:=gz p hh;rw [e];rfl
  have j0:∃n,jB aa p=some n:=⟨0,aw (oN _ _ [] p (.inr ⟨mw.mpr ⟨ru,ft,hp⟩,hh⟩))⟩;have:∃n,g p=some n:=bU.keep (J:=λg=>∃n,g p=some n) (λg ru ⟨n,e⟩ m f=>by obtain⟨k,a,_⟩:=le_step f p n e;exact⟨k,a⟩) Pa j0;obtain⟨n,e⟩:=this;rw [e];rfl
 have ll:=bF df
 let wV:vp:=λi σ H8=>∃(kvs:List (aF×V))(y3 y4:Option V),σ=[bu R,bu dn,bu dt,y3,y4,bu dz]/\eF dt H7 H8/\H8 dt=some (.dK kvs)/\kvs.length<=20000+i/\(∀z∈ws,(Sum.inr z:aF)∈kvs.map (·.1))/\(∀z∈Im.take i,(Sum.inr z:aF)∈kvs.map (·.1))
 refine⟨l,rfl,⟨_,aD.of el⟩,dG (xs:=Im.map V.str) wV ⟨Nb,_,_,rfl,λ_ _ _ h=>h,e7,∅,kt,λz hz=>by cases hz⟩ ?_ ?_ ?_⟩
 .rintro i σ H8 _ ⟨kvs,y3,y4,rfl,s8,_⟩;exact aD.of (s8 _ _ Rp el)
 .rintro i x σ H8 ex ⟨kvs,y3,y4,rfl,s8,e8,RO,RT,Na⟩
  ac_nf0
  rw [bh] at ex;obtain⟨z,PV,rfl⟩:=bR.mp ex;have li:=(ba.mp PV).1;have hz:z∈hd aa:=pe.mem_iff.mp (cR PV);obtain⟨n,TM⟩:=gz z hz;have L8:=L7.Hw e7 Vl Vf s8;obtain⟨p,hp,Sn⟩:=b_.mp (show z∈ps.map (·.1) by rw [pk];exact hz);refine goN ?_
  ac_rfl
  have Zw:bV H8 dn (.str z) (some (.ref p.2)):=by
   have:=bV.k (k:=Sum.inr z) L8.nm.hd;rw [<-Sn,fu ps L8.nm.n1 p hp] at this;rw [Sn] at this;exact this
  have PF:=L8.nm.lst p hp;have PF:H8 p.2=some (.lst ((nums aa z aa.length).map V.int)):=by rw [<-Sn];exact PF
  have numOf:∀(m:Nat) (v:Int),(nums aa z aa.length)[m]?=some v->∃(j:Nat)(ru:av),v=(j:Int)/\aa[j]?=some ru/\ru.1=z:=λm v e=>by
   unfold nums at e;rw [bh] at e;obtain⟨j,e1,rfl⟩:=bR.mp e;have hj:=(fS.mp (cR e1)).2;have hj:(aa[j]?.map (·.1))=some z:=eh hj;obtain⟨ru,e2,e3⟩:=bR.mp hj;exact⟨j,ru,rfl,e2,e3⟩
  have X9:=vQ aa z aa.length
  let good:Int->Bool:=λv=>match aa[v.toNat]? with | some ru=>decide (aG g ru=n) | none=>false
  have wit:∃v∈nums aa z aa.length,good v=true:=by
   obtain⟨ru,ft,q1,_,q3⟩:=A7 (Qv aa) Pa U7 hz TM;obtain⟨j,ej⟩:=fq ft;have lj:=(ba.mp ej).1;refine⟨(j:Int),b_.mpr ⟨j,fS.mpr ⟨jc.mpr lj,dO (by rw [ej];exact congrArg some q1)⟩,rfl⟩,?_⟩;show (match aa[(j:Int).toNat]? with | some ru=>decide (aG g ru=n) | none=>false)=true
   rw [mF,ej];exact dO q3
  refine⟨_,rfl,_,rfl,dn,_,rfl,Zw,p.2,rfl,⟨_,aD.of PF⟩,λD9 xf=>bH (xs:=(nums aa z aa.length).map V.int) (λm ys σ2 H9=>ys=(((nums aa z aa.length).take m).filter good).map V.int/\(∃y0,σ2=[y0,bu dz,bu R,some (.str z)])/\aB H8 H9/\H9 D9=some (.lst ys))
   ⟨rfl,⟨none,rfl⟩,ag xf _,ae⟩ (λm ys σ2 H9 _ h=>?_) (λm x ys σ2 H9 em h=>?_) (λys σ2 H9 h=>?_)⟩
  .obtain⟨_,_,sm,_⟩:=h;exact aD.of (sm _ _ PF)
  .obtain⟨rfl,⟨y0,rfl⟩,sm,e9⟩:=h;rw [bh] at em;obtain⟨v,ev,rfl⟩:=bR.mp em;have lm:=(ba.mp ev).1;obtain⟨j,ru,rfl,ej,P2⟩:=numOf m v ev;have L9:=L8.same sm;obtain⟨r,er,rv⟩:=Paired.at_ L9.df j ru ej;have OF:rC (rs.map V.ref) (j:Int)=some (.ref r):=dq (by rw [bh,er];rfl);have gj:good (j:Int)=decide (V.int (aG g ru)=V.int n):=by
    show (match aa[(j:Int).toNat]? with | some ru=>decide (aG g ru=n) | none=>false)=_
    rw [mF,ej];show decide (aG g ru=n)=_;by_cases c:aG g ru=n
    .rw [dO c,dO (congrArg V.int c)]
    rw [eM c,eM (λy=>c (by injection y))]
   refine goN ?_;refine⟨_,rfl,_,rfl,_,rfl,R,_,_,_,rfl,rfl,L9.hR,OF,dz,r,o5,g,ru,rfl,L9.rz,vz,rv,h8 ru (cR ej),OI ru (cR ej),λvf n8=>?_⟩;have Zv:bV vf dz (.str z) (some (.int n)):=by
    have:=bV.r (k:=Sum.inr z) (L9.same n8).rz;rw [vz,TM] at this;exact this
   refine⟨_,rfl,_,rfl,dz,_,rfl,Zv,rfl,_,rfl,?_⟩;rw [<-gj];have Od:((nums aa z aa.length).take (m+1)).filter good=((nums aa z aa.length).take m).filter good++(if good (j:Int)=true then [(j:Int)] else []):=by
    rw [cu,ev,kR]
    congr 1
    show List.filter good [(j:Int)]=_;by_cases c:good (j:Int)=true
    .rw [aw c,iZ,aw c,List.filter_nil]
    rw [ay c,iZ,ay c,List.filter_nil]
   have lf:(((nums aa z aa.length).take m).filter good).length<=1000:=cz (iM _ _) (by rw [dI];omega);refine dW (λcc=>?_) (λcc=>?_)
   .refine⟨_,rfl,n8 _ _ e9,bA (by rw [az];omega),by rw [Od,aw cc,br];rfl,⟨_,rfl⟩,λb u hb=>?_,ae⟩;rw [ai (λz=>by rw [z,xf] at hb;cases hb)];exact n8 _ _ (sm b u hb)
   exact⟨by rw [Od,ay cc,eX],⟨_,rfl⟩,sm.trans n8,n8 _ _ e9⟩
  obtain⟨rfl,_,s9,e9⟩:=h;rw [az,cb] at e9;refine goN ?_
  ac_rfl
  have L9:=L8.same s9;cases hf:(nums aa z aa.length).filter good with
  | nil =>
   obtain⟨v,hv,gv⟩:=wit;have:v∈(nums aa z aa.length).filter good:=fS.mpr ⟨hv,gv⟩;rw [hf] at this;cases this
  | cons v0 vr =>
   rw [hf] at e9;have NI:v0∈(nums aa z aa.length).filter good:=by rw [hf];exact bZ
   obtain⟨NH,PJ⟩:=fS.mp NI;obtain⟨m0,em0⟩:=fq NH;obtain⟨j,ru,rfl,ej,P2⟩:=numOf m0 v0 em0;have hsz:aG g ru=n:=by
    have PJ:(match aa[(j:Int).toNat]? with | some ru=>decide (aG g ru=n) | none=>false)=true:=PJ
    rw [mF,ej] at PJ;exact eh PJ
   have ft:=cR ej;obtain⟨r,er,pp,v1,v2⟩:=Paired.at_ L9.df j ru ej;have OF:rC (rs.map V.ref) (j:Int)=some (.ref r):=dq (by rw [bh,er];rfl);have zh:rC (V.int (j:Int)::vr.map V.int) 0=some (.int (j:Int)):=dq (j:=0) rfl;have e9:H9 D9=some (.lst (V.int (j:Int)::vr.map V.int)):=e9;have e89:=s9 _ _ e8;have r8:=h8 ru ft;have RY:∀p∈ru.2,(Sum.inr p:aF)∈kvs.map (·.1):=λy hy=>by
    obtain⟨my,ey⟩:=i5.mp (OI ru ft y hy);by_cases hh:y∈hd aa
    .refine Na y (uw pw PV (pe.mem_iff.mpr hh) ?_);show (g y).getD 0 < (g z).getD 0;rw [ey,TM];show my < n;rw [<-hsz];exact AO nn hy ey
    exact RT y (VE y hh (by rw [ey];rfl))
   refine⟨_,rfl,D9,_,_,_,rfl,rfl,aD.of e9,zh,_,rfl,_,rfl,D9,_,_,_,rfl,rfl,aD.of e9,zh,R,_,_,_,rfl,rfl,L9.hR,OF,r,_,_,_,rfl,rfl,v1,rfl,pp,rfl,⟨_,v2⟩,λIj Gk=>qJ (zs:=ru.2) rfl v2 ∅ e89 RY Gk λys vf ly n8 y_=>?_⟩;refine⟨Ij,ys,rfl,.inl ⟨aD.of y_,λt2 Tj=>⟨ou,λDy Kl=>?_⟩⟩⟩;have Vz:=(ag Tj (.tup ys)).trans (ag Kl (.tup [.int (j:Int),.ref t2]));generalize upd (upd vf t2 (.tup ys)) Dy (.tup [.int (j:Int),.ref t2])=xn at Vz;have Mx:=(s9.trans n8).trans Vz;have xl:=Mx _ _ e8;refine⟨_,rfl,_,rfl,dt,_,rfl,.inl ⟨kvs,Sum.inr z,xl,rfl,bA ∅,rfl⟩,?_⟩;have DG:∀y:aF,(y∈kvs.map (·.1)\/y=Sum.inr z)->y∈(bc kvs (Sum.inr z) (.ref Dy)).map (·.1):=λy hy=>by
    by_cases hk:(Sum.inr z:aF)∈kvs.map (·.1)
    .rw [ya hk];rcases hy with hy | rfl
     .exact hy
     exact hk
    rw [gA hk];rcases hy with hy | rfl
    .exact i4 _ hy
    exact eZ _ bZ
   have YE:(bc kvs (Sum.inr z) (.ref Dy)).length<=kvs.length+1:=by
    have a:=congrArg List.length (Eq.refl ((bc kvs (Sum.inr z) (.ref Dy)).map (·.1)));by_cases hk:(Sum.inr z:aF)∈kvs.map (·.1)
    .have b:=congrArg List.length (ya (v:=.ref Dy) hk);rw [az,az] at b;omega
    have b:=congrArg List.length (gA (v:=.ref Dy) hk);rw [az,cC,az,nV] at b;omega
   refine⟨_,_,_,rfl,λb u nb hb=>?_,ae,∅,λy hy=>DG _ (.inl (RT y hy)),λy hy=>?_⟩
   .rw [ai nb];exact Mx _ _ (s8 b u nb hb)
   rw [cu,PV] at hy;rcases cq.mp hy with hy | hy
   .exact DG _ (.inl (Na y hy))
   exact DG _ (.inr (by rw [cm.mp (show y∈[z] from hy)]))
 rintro σ H8 ⟨kvs,y3,y4,rfl,s8,e8,RO,RT,Na⟩;rw [az,cb] at Na;have L8:=L7.Hw e7 Vl Vf s8;refine⟨_,rfl,q dt kvs H8 ?_ (λb u n1 n3 hb=>?_) L8.t1 L8.t3 e8 λz hz=>Na z (pe.mem_iff.mpr hz)⟩
 .cases c:H dt with
  | none=>rfl
  | some u =>
   by_cases h1:dt=T1
   .obtain⟨pp,a,_⟩:=L3.t1;rw [<-h1,HM] at a;cases a
   rw [AK dt u h1 Rv c] at HM;cases HM
 refine s8 _ _ (λz=>?_) (I0 b u n1 n3 hb);rw [z] at hb;rw [AK dt u (λy=>n1 (z.trans y)) Rv hb] at HM;cases HM
end
end eG
namespace L2
open PySem PySem.Spec PyProof.Rows
section
variable {prog:Program}{w:World}{A:Around}{E:Value->Shared->Prop}
def ur {h h':Heap}{ks:List aF}{a:Addr}(p:(tupleKind (aS prog w)).is h ks a)(k:∀b o,o.cls=.type "tuple" -> h.get? b=some o->h'.get? b=some o):(tupleKind (aS prog w)).is h' ks a :=
 let ⟨o,aL,n,h1,h2,h3,h4⟩:=p;⟨o,aL,n,k a o h2 h1,h2,h3,h4⟩
def u5 {h h':Heap}{d:Addr}{xs:List (List aF×Addr×Value)}(hd:h.DictOfH (tupleKind (aS prog w)) d xs)(kd:∀o,h.get? d=some o->h'.get? d=some o)(k:∀b o,o.cls=.type "tuple" -> h.get? b=some o->h'.get? b=some o) :
  h'.DictOfH (tupleKind (aS prog w)) d xs :=
 let ⟨o,es,ep,q,c,dd,e,is,n⟩:=hd;⟨o,es,ep,kd o q,c,dd,e,λx hx=>ur (is x hx) k,n⟩
def jF (prog:Program)(w:World)(h:Heap)(u:Value)(kv:List aF×Addr×Value):Prop :=
 ∃t n o,u=.ref t/\(tupleKind (aS prog w)).is h kv.1 kv.2.1/\h.get? t=some o/\o.cls=.type "tuple" /\ o.data=.seq #[.ref kv.2.1,kv.2.2] n
def jF.keep {h h':Heap}{u:Value}{kv:List aF×Addr×Value}(p:jF prog w h u kv)(k:∀b o,o.cls=.type "tuple" -> h.get? b=some o->h'.get? b=some o):jF prog w h' u kv :=
 let ⟨t,n,o,a,b,c,d,e⟩:=p;⟨t,n,o,a,ur b k,k t o d c,d,e⟩
def Ag (more xs:List (List aF×Addr×Value)):List (List aF×Addr×Value):=more.foldl (λa p=>storedH a p.1 p.2.1 p.2.2) xs
def Gz {R:Result->Shared->Prop}{d it l:Addr}{items:Array Value}(hh:A.handled=none)(hu:A.units+1 < cLine):∀(more:List (List aF×Addr×Value)) (i:Nat)(s:Shared)(kvs:List (List aF×Addr×Value)) (j:Int)(tk:Tok),items.size=i+more.length ->
  s.heap.DictOfH (tupleKind (aS prog w)) d kvs->s.heap.IsListIter it l i->s.heap.IsList l items->(∀m kv,more[m]?=some kv->∃u,items[i+m]?=some u/\jF prog w s.heap u kv)->kvs.length+more.length<=sizeLine ->
  (∀h' t',h'.DictOfH (tupleKind (aS prog w)) d (Ag more kvs)->(∀b o,b≠d->b≠it->s.heap.get? b=some o->h'.get? b=some o)->R (.ok (.ret .none)) { s with heap:=h',toks:=t' }) ->
  codeAny (model prog w) A (.builtin "dict.update.loop" ⟨[.ref d,.ref it,.int j tk,.none],[]⟩) R s:=by
 intro more
 induction more with
 | nil =>
  intro i s kvs j tk hi hd hit hl hp hz hR;refine nO jC ?_;rw [nR dX _];unfold Builtin.«dict.update.loop»;have hs:items[i]?=none:=Array.getElem?_eq_none (by rw [hi];exact aH _);refine ax (tZ hh hit hl hs λh1 eb=>?_);have nd:d≠it:=λz=>by
   obtain⟨o,_,_,q,_,c,_⟩:=hd;obtain⟨o',q',_,c'⟩:=hit;rw [z,q'] at q;cases q;rw [c'] at c;cases c
  have nt:∀b o,o.cls=.type "tuple" -> s.heap.get? b=some o->b≠it:=λb o c q z=>by
   obtain⟨o',q',c',_⟩:=hit;rw [z,q'] at q;cases q;rw [c'] at c;exact absurd c nofun
  show wpAny _ _ (Builtin.Dict.addKeywords d [] >>= _) _ _ _;exact ax (aK (aK (hR h1 s.toks (u5 hd (λo q=>eb d o nd q) λb o c q=>eb b o (nt b o c q) q) λb o n1 n2 q=>eb b o n2 q)))
 | cons kv more ih =>
  intro i s kvs j tk hi hd hit hl hp hz hR;refine nO jC ?_;rw [nR dX _];unfold Builtin.«dict.update.loop»;obtain⟨u,Y8,t,n,o,rfl,hk,ho,hc,Aa⟩:=hp 0 kv rfl;refine ax (wpAny_pyNext_list_item hit hl Y8 λh1 R0 sb=>?_);have nd:d≠it:=λz=>by
   obtain⟨o,_,_,q,_,c,_⟩:=hd;obtain⟨o',q',_,c'⟩:=hit;rw [z,q'] at q;cases q;rw [c'] at c;cases c
  have n2:∀b o,(o.cls=.type "tuple" \/ o.cls=.type "list")->s.heap.get? b=some o->b≠d/\b≠it:=by
   intro b o c q;constructor
   .intro z;obtain⟨o',q',c'⟩:=hd.typeIs;rw [z,q'] at q;cases q;rw [c'] at c;rcases c with c | c <;> exact absurd c nofun
   intro z;obtain⟨o',q',c',_⟩:=hit;rw [z,q'] at q;cases q;rw [c'] at c;rcases c with c | c <;> exact absurd c nofun
  have nt:∀b o,o.cls=.type "tuple" -> s.heap.get? b=some o->b≠d/\b≠it:=λb o c q=>n2 b o (.inl c) q;have nl:l≠d/\l≠it:=by
   obtain⟨o,q,c,_⟩:=hl;exact n2 l o (.inr c) q
  have RW:∀b o,o.cls=.type "tuple" -> s.heap.get? b=some o->h1.get? b=some o:=λb o c q=>(sb.2 b (nt b o c q).2).trans q;have ND:h1.get? t=some o:=RW t o hc ho;have NV:h1.DictOfH (tupleKind (aS prog w)) d kvs:=u5 hd (λo q=>(sb.2 d nd).trans q) RW;refine ax (fR (ax (kK ?_)));unfold Builtin.Dict.pairItems;refine ax (jZ (T := "tuple") ⟨o,ND,hc⟩ ?_);rw [aw nofun];refine ax (jb ND Aa (aK ?_));show wpAny _ _ (holding [.ref kv.2.1,kv.2.2] (dictSet d (.ref kv.2.1) kv.2.2)) _ _ _;rw [dw] at hz hi;refine fR (wpAny_dictSet_heap (s:={ s with heap:=h1 }) (mz hu) (ur hk RW) NV (λh2 hd2 Mv=>?_) ∅);have kk:∀b o,b≠d->b≠it->s.heap.get? b=some o->h2.get? b=some o:=λb o n1 n2 q=>(Mv.2 b n1).trans ((sb.2 b n2).trans q);have ln:(storedH kvs kv.1 kv.2.1 kv.2.2).length<=kvs.length+1:=by
   unfold storedH
   split
   .simp
   simp
  refine aK ⟨jN dX _,ih (i+1) _ _ _ _ ∅ hd2 (R0.at λo q=>(Mv.2 it (du nd)).trans q) (hl.at λo q=>kk l o nl.1 nl.2 q) (λm RV e=>?_) ∅ λh3 t3 gi k3=>?_⟩
  .obtain⟨u',e1,e2⟩:=hp (m+1) RV e;exact⟨u',by rw [<-e1];congr 1;omega,e2.keep λb o c q=>kk b o (nt b o c q).1 (nt b o c q).2 q⟩
  exact hR h3 t3 gi λb o n1 n2 q=>k3 b o n1 n2 (kk b o n1 n2 q)
def oJ {s:Shared}{l:Addr}{items:Array Value}{n:Nat}{more:List (List aF×Addr×Value)}{Q:Value->Shared->Prop}(hh:A.handled=none)(hu:A.units+2 < cLine)(hx:s.heap.get? l=some { cls:=.type "list",data:=.seq items n })
  (hi:items.size=more.length)(hp:∀(m:Nat) kv,more[m]?=some kv->∃u,items[m]?=some u/\jF prog w s.heap u kv)(hz:more.length<=sizeLine)
  (h:∀h' t',h'.DictOfH (tupleKind (aS prog w)) s.heap.objs.size (Ag more [])->(∀b o,s.heap.get? b=some o->h'.get? b=some o)->Q (.ref s.heap.objs.size) { s with heap:=h',toks:=t' }) :
  wpAny (model prog w) A (call (.type "dict") [.ref l]) Q E s:=by
 refine callType_codes (Q₁:=λobj s₁=>obj=.ref s.heap.objs.size/\s₁={ s with heap:=s.heap.push { cls:=.type "dict",data:=.dict #[] } }) F.kt_called_dict (F.kt_typeCall_dict_1 _) F.entry_dict_init (kt_code_dict_new _ ⟨rfl,rfl⟩) ?_;rintro obj s₁ ⟨rfl,rfl⟩;have yx:(s.heap.push { cls:=.type "dict",data:=.dict #[] }).DictOfH (tupleKind (aS prog w)) s.heap.objs.size []:=Heap.DictOfH.new s.heap;have l0:=bj { cls:=.type "dict",data:=.dict #[] } hx;refine⟨yx.typeIs,F.args_dict_init_2 _ _,?_⟩;unfold Builtin.«dict.__init__» Builtin.Dict.selfAndRest;refine ax (ax (wpAny_notOrdered_dict yx.typeIs (aK ?_)));show wpAny _ _ (Builtin.Dict.updateFrom "dict.__init__" s.heap.objs.size (.ref l) [] .none) _ _ _;unfold Builtin.Dict.updateFrom;refine ax (jZ (T := "list") ⟨_,l0,rfl⟩ ?_);rw [aw xD];refine ax (m_ l0 hh λh1 t1 k1=>?_);refine ax (wpAny_rule ?_);have l1:=k1 _ _ l0;refine ax (pb ⟨_,l1,rfl,_,rfl⟩ ?_);have k2:∀b o,s.heap.get? b=some o->(h1.push { cls:=.type "list_iterator",data:=.fields #[.ref l,.int 0 0] }).get? b=some o:=λb o q=>bj _ (k1 _ _ (bj _ q));refine aK ⟨jN dX _,Gz (A:=A.in1) (l:=l) (items:=items) (show A.in1.handled=none from hh) (show A.in1.units+1 < cLine by rw [Around.in1_units];omega) more 0 _ [] _ _ (by rw [hi,j3]) ?_ ⟨_,cJ _ rfl,rfl,rfl⟩ ⟨_,k2 _ _ hx,rfl,n,rfl⟩ (λm kv e=>?_) (by simpa using hz) λh' t' hd k3=>?_⟩
 .exact u5 yx (λo q=>bj _ (k1 _ _ q)) λb o _ q=>bj _ (k1 _ _ q)
 .obtain⟨u,e1,e2⟩:=hp m kv e;exact⟨u,by rw [j3];exact e1,e2.keep λb o _ q=>k2 b o q⟩
 refine⟨rfl,h h' t' hd λb o q=>k3 b o (a_ (aP q)) ?_ (k2 b o q)⟩;have:=aP (k1 _ _ (bj { cls:=.type "dict",data:=.dict #[] } q));exact a_ this
end
def lX (kvs a7:List (List aF×V)):List (List aF×V):=kvs.foldl (λa p=>bc a p.1 p.2) a7
theorem sR {H:Hp}:∀{kvs:List (List aF×V)}{vs:List (List aF×Addr×Value)}{a7:List (List aF×V)}{EB:List (List aF×Addr×Value)},KT H kvs vs->KT H a7 EB->KT H (lX kvs a7) (Ag vs EB)
 | _,_,_,_,.nil,h=>h
 | _,_,_,_,.cons (a:=p) (b:=q) r t,h=>by
  obtain⟨e,hb,rv⟩:=r;show KT H (lX _ (bc _ p.1 p.2)) (Ag _ (storedH _ q.1 q.2.1 q.2.2));rw [<-e];exact sR t (h.put p.1 hb rv)
theorem sS:∀(kvs a7:List (List aF×V)),(lX kvs a7).length<=a7.length+kvs.length
 | [],a7=>by simp [lX]
 | p::r,a7=>by
  have:=sS r (bc a7 p.1 p.2);have:=dU a7 p.1 p.2;show (lX r (bc a7 p.1 p.2)).length<=_;rw [dw];omega
section
variable {X:Cx}{af:List (Addr×Obj)}{σ:St}{H:Hp}{s:Shared}
abbrev LN (K:aT)(H:Hp)(t:Addr)(kv:List aF×V):Prop:=∃b,aX K H t [.ref b,kv.2]/\H b=some (.tup (kv.1.map kV))
theorem sg (I:Inv X af σ H s):∀{ts:List Addr}{kvs:List (List aF×V)}{aL:List Value},Paired (LN X.K H) ts kvs->aO (ts.map V.ref) aL ->
  ∃vs:List (List aF×Addr×Value),KT H kvs vs/\Paired (λu kv=>jF X.prog X.w s.heap u kv) aL vs
 | [],_,_,.nil,r=>by
  rw [i8] at r;cases r;exact⟨[],.nil,.nil⟩
 | t::ts,kv::kvs,_,.cons h p,r=>by
  rw [bw] at r;cases r with
  | cons r1 r2 =>
   obtain⟨vs,e1,e2⟩:=sg I p r2;obtain⟨b,h0,hb⟩:=h;obtain⟨aL,rv,⟨o,h1,h2,n,h3⟩,_⟩:=I.tuple h0;obtain⟨u1,u2,rfl,q1,q2⟩:=vals2 rv;cases (show u1=Value.ref b from q1);exact⟨(kv.1,b,u2)::vs,.cons ⟨rfl,hb,q2⟩ e1,.cons ⟨t,n,o,r1,kn I.bo hb,h1,h2,h3⟩ e2⟩
def wQ (hc:X.calm=true)(hu:X.A.units+2 < cLine):fj X (.type "dict") (λxs H Q=>∃a ts kvs,xs=[.ref a]/\H a=some (.lst (ts.map V.ref))/\Paired (LN X.K H) ts kvs/\∀d,H d=none->Q (.ref d) (upd H d (.dT (lX kvs [])))):=by
 intro af s σ H xs us Q I r h;obtain⟨a,ts,kvs,rfl,e,p,q⟩:=h;obtain⟨u,rfl,rx⟩:=vals1 r;cases (show u=Value.ref a from rx);obtain⟨z,aL,n,rv,ho⟩:=(show bE X.prog X.w H s.heap a (.lst _) from I.bo a _ e);obtain⟨vs,r1,r2⟩:=sg I p rv;have l1:=bF r2;have l2:=bF r1;have l3:=bF p;rw [az] at z;refine oJ (I.ok.hd hc) hu ho (by simpa using l1) (λm kv em=>?_) ∅ λh' t' hd kk=>?_
 .obtain⟨u,e1,e2⟩:=Paired.at_ r2 m kv em;exact⟨u,by simpa using e1,e2⟩
 have fr:=I.bo.fresh (aH s.heap.objs.size);have new:bE X.prog X.w (upd H s.heap.objs.size (.dT (lX kvs []))) h' s.heap.objs.size (.dT (lX kvs [])):=by
  obtain⟨o,es,ep,hq,h2,h3,h4,_,h5⟩:=hd;refine⟨?_,?_,_,(sR r1 .nil).keeps λc ys ec=>?_,o,es,ep,hq,h2,h3,h4,h5⟩
  .have:=sS kvs [];simp at this;omega
  .have:=I.big;exact i3.mpr (iY this)
  rw [ai (ao ec fr)];exact ec
 exact⟨.ref s.heap.objs.size,_,I.laid (t':=t') kk (aH _) new,rfl,q _ fr⟩
end
open PySem M11
def Bz {K:aT}{H:Hp}{bg D:Addr}{ts:List Addr}{bX:List Be}{σ:St}{x1 x2 x3 x4:Str}{Qp:Hp->Prop}(hb:aD K H bg (ts.map V.ref))(Ln:Paired (λt (b:Be)=>aX K H t [.str b.1,.str b.2.1,.int (b.2.2.1:Int),.int (b.2.2.2:Int)]) ts bX)(aZ:bX.length<=900000)(hD:H D=none)
  (q:∀us H2,aB H H2->H2 D=some (.lst (us.map V.ref))->Paired (λu (b:Be)=>∃v,LN K H2 u ([Sum.inr b.1,Sum.inr b.2.1],.ref v)) us bX->Qp H2) :
  ∃W:Nat->Nat->List V->St->Hp->Prop,(∃m,W 0 m [] (cZ [x1,x2,x3,x4] [] σ) (upd H D (.lst []))) /\
 ∀i m ys σ' H,W i m ys σ' H->((iS K bg).stop i H/\Qp H)\/((iS K bg).go i H/\∃m',m' < m/\∀x H',(iS K bg).kA i H x H'->Bm K 4 (jo (cY 0) (jo (cY 1) (jo (cY 2) (jo (cY 3) DZ)))) x σ' H' λσ2 H2=>gQ σ2 H2 λb H3 =>
  if b=true then rb (fc (rb (fc (e_ 0) (fc (e_ 1) pP))) (fc (rb (fc (e_ 2) (fc (e_ 3) pP))) pP)) σ2 H3 λy H4=>H4 D=some (.lst ys)/\ys.length < sizeLine/\W (i+1) m' (ys++[y]) σ2 (upd H4 D (.lst (ys++[y]))) else W (i+1) m' ys σ2 H3):=by
 have ll:=bF Ln;refine bH (xs:=ts.map V.ref) (λi ys σ2 H2=>∃us:List Addr,ys=us.map V.ref/\us.length=i/\Paired (λu (b:Be)=>∃v,LN K H2 u ([Sum.inr b.1,Sum.inr b.2.1],.ref v)) us (bX.take i)/\(∃y0 y1 y2 y3,σ2=[y0,y1,y2,y3])/\aB H H2/\H2 D=some (.lst ys))
  ⟨[],rfl,rfl,.nil,⟨none,none,none,none,rfl⟩,ag hD _,ae⟩ (λi ys σ2 H2 _ h=>?_) (λi x ys σ2 H2 ex h=>?_) (λys σ2 H2 h=>?_)
 .obtain⟨_,_,_,_,_,sm,_⟩:=h;exact sm.seq hb
 .obtain⟨us,rfl,hu,hp,⟨y0,y1,y2,y3,rfl⟩,sm,hd⟩:=h;rw [bh] at ex;obtain⟨r,er,rfl⟩:=bR.mp ex;have lr:=(ba.mp er).1;obtain⟨b,e1⟩:∃b,bX[i]?=some b:=⟨bX[i]'∅,dJ ∅⟩;obtain⟨r',BV,v1⟩:=Paired.at_ Ln i b e1;rw [er] at BV;cases BV;have li:=(ba.mp e1).1;refine⟨r,_,rfl,sm.tup v1,rfl,_,_,rfl,_,_,rfl,_,_,rfl,_,_,rfl,rfl,?_⟩;refine wm ?_;refine⟨_,rfl,_,rfl,ou,λk hk=>⟨_,rfl,_,rfl,ou,λv hv=>⟨ou,λu VG=>?_⟩⟩⟩;have s3:=(ag hk (.tup [V.str b.1,V.str b.2.1])).trans ((ag hv (.tup [V.int (b.2.2.1:Int),V.int (b.2.2.2:Int)])).trans (ag VG (.tup [.ref k,.ref v])));have ek:=((ag hv (.tup [V.int (b.2.2.1:Int),V.int (b.2.2.2:Int)])).trans (ag VG (.tup [.ref k,.ref v]))) k _ ae;have eu:aX K (upd (upd (upd H2 k (.tup [V.str b.1,V.str b.2.1])) v (.tup [V.int (b.2.2.1:Int),V.int (b.2.2.2:Int)])) u (.tup [.ref k,.ref v])) u [.ref k,.ref v]:=aX.of ae;generalize upd (upd (upd H2 k (.tup [V.str b.1,V.str b.2.1])) v (.tup [V.int (b.2.2.1:Int),V.int (b.2.2.2:Int)])) u (.tup [.ref k,.ref v])=H4 at s3 ek eu;have q_:=s3 _ _ hd;refine⟨q_,bA (by rw [az];omega),us++[u],by rw [br];rfl,by rw [cC,hu];rfl,?_,⟨_,_,_,_,rfl⟩,?_,ae⟩
  .rw [cu,e1];have kD:k≠D:=λz=>by rw [z,q_] at ek;cases ek
   refine eW (Paired.d_ hp λu' b' aR=>?_) ⟨v,k,aW q_ eu,by rw [ai kD];exact ek⟩;obtain⟨v',bb,p1,p2⟩:=aR;exact⟨v',bb,aW q_ (s3.tup p1),by rw [ai (λz=>by rw [z,hd] at p2;cases p2)];exact s3 _ _ p2⟩
  intro c o hc;rw [ai (λz=>by rw [z,hD] at hc;cases hc)];exact s3 _ _ (sm c o hc)
 obtain⟨us,rfl,hu,hp,_,sm,hd⟩:=h;rw [az,ll,cb] at hp;exact q us H2 sm hd hp
theorem CY {K:aT}{H:Hp}:∀{us:List Addr}{bX:List Be},Paired (λu (b:Be)=>∃v,LN K H u ([Sum.inr b.1,Sum.inr b.2.1],.ref v)) us bX->∃kvs,Paired (LN K H) us kvs
 | _,_,.nil=>⟨[],.nil⟩
 | _,_,.cons ⟨v,h⟩ t=>let ⟨kvs,p⟩:=CY t;⟨_::kvs,.cons h p⟩
end L2
namespace eG
open PySem L2 M11
def Tab.s2 {T T1 T2:Addr}{p p1 p2:Pos}{q q1 q2:Str}{H H':Hp}(h:Tab T p q H)(s:jW T1 T2 H H')(t1:Tab T1 p1 q1 H)(t2:Tab T2 p2 q2 H)(n1:T≠T1)(n2:T≠T2):Tab T p q H':=by
 obtain⟨ps,a,b,c⟩:=h;obtain⟨Pj,b1,_⟩:=t1;obtain⟨ME,b2,_⟩:=t2;refine⟨ps,s _ _ n1 n2 a,b,c.imp id ?_⟩;rintro⟨c',e,g⟩;exact⟨c',e,s _ _ (λz=>by rw [z,b1] at g;cases g) (λz=>by rw [z,b2] at g;cases g) g⟩
def je {T a C dx:Addr}{pos:Pos}{qu:Str}{H:Hp}{fs:List (Str×V)}{o:HO}(h:Tab T pos qu H)(ha:H a=some (.ins C dx fs)):Tab T pos qu (upd H a o):=by
 obtain⟨ps,p,r,c⟩:=h;refine⟨ps,by rw [ai (λz=>by rw [z,ha] at p;cases p)];exact p,r,c.imp id ?_⟩;rintro⟨c',e,g⟩;exact⟨c',e,by rw [ai (λz=>by rw [z,ha] at g;cases g)];exact g⟩
def Kp (H H':Hp):Prop:=∀b o,H b=some o->(∀ps,o≠.q9 ps)->H' b=some o
def Kp.trans {H H1 H2:Hp}(a:Kp H H1)(b:Kp H1 H2):Kp H H2:=λc o h n=>b c o (a c o h n) n
def Kp.of {H H':Hp}(s:aB H H'):Kp H H':=λb o h _=>s b o h
def Kp.of2 {T1 T2:Addr}{p1 p2:Pos}{q1 q2:Str}{H H':Hp}(s:jW T1 T2 H H')(t1:Tab T1 p1 q1 H)(t2:Tab T2 p2 q2 H):Kp H H':=λc o hc hn=>by
 obtain⟨Pj,b1,_⟩:=t1;obtain⟨ME,b2,_⟩:=t2;exact s c o (λz=>by rw [z,b1] at hc;cases hc;exact hn _ rfl) (λz=>by rw [z,b2] at hc;cases hc;exact hn _ rfl) hc
section
theorem Kp.lst {H H':Hp}(k:Kp H H'){a:Addr}{xs:List V}(h:H a=some (.lst xs)):H' a=some (.lst xs):=k a _ h (λ_ z=>by cases z)
def Kp.tup {H H':Hp}(k:Kp H H'){a:Addr}{xs:List V}(h:aX K H a xs):aX K H' a xs:=by
 rcases h with (h | ⟨u,h⟩) | h
 .exact .inl (.inl (k _ _ h (λ_ z=>by cases z)))
 .exact .inl (.inr ⟨u,k _ _ h (λ_ z=>by cases z)⟩)
 exact .inr h
def Kp.seq {H H':Hp}(k:Kp H H'){a:Addr}{xs:List V}(h:aD K H a xs):aD K H' a xs:=by
 rcases h with (h | ⟨u,h⟩) | h
 .exact .inl (.inl (k _ _ h (λ_ z=>by cases z)))
 .exact .inl (.inr ⟨u,k _ _ h (λ_ z=>by cases z)⟩)
 exact .inr h
theorem Kp.aa {H H':Hp}(k:Kp H H'){rs:List Addr}{aa:List av}(h:bN K H rs aa):bN K H' rs aa:=h.keep λ_ _ z=>k.tup z
abbrev xS:Stmt:=Hs XE 0
structure LC (K:aT)(C:Addr):Prop where
 cls:BQ K C
 a1:cI K C "rules"
 a2:cI K C "empty"
 a3:cI K C "least"
 a4:cI K C "hollow"
 a5:cI K C "beginnings"
structure B6 (C3 T1 T3:Addr)(H0 H:Hp)(a dx:Addr)(fs:List (Str×V)):Prop where
 sm:jW T1 T3 H0 H
 ia:H a=some (.ins C3 dx fs)
 fa:H0 a=none
 t1:Tab T1 qg.2.2.2 w6 H
 t3:Tab T3 posB EY H
 o1:Tab T1 qg.2.2.2 w6 H0
 o3:Tab T3 posB EY H0
def B6.kp {C3 T1 T3 a dx:Addr}{H0 H:Hp}{fs:List (Str×V)}(h:B6 C3 T1 T3 H0 H a dx fs):Kp H0 H:=Kp.of2 h.sm h.o1 h.o3
def B6.set {C3 T1 T3 a dx:Addr}{H0 H:Hp}{fs:List (Str×V)}(h:B6 C3 T1 T3 H0 H a dx fs)(E7:List (Str×V)):B6 C3 T1 T3 H0 (upd H a (.ins C3 dx E7)) a dx E7 :=
 ⟨λb o n1 n3 hb=>by rw [ai (λz=>by rw [z,h.fa] at hb;cases hb)];exact h.sm b o n1 n3 hb,ae,h.fa,je h.t1 h.ia,je h.t3 h.ia,h.o1,h.o3⟩
def B6.next {C3 T1 T3 a dx:Addr}{H0 H H':Hp}{fs:List (Str×V)}(h:B6 C3 T1 T3 H0 H a dx fs)(s:aB H H'):B6 C3 T1 T3 H0 H' a dx fs :=
 ⟨λb o n1 n3 hb=>s _ _ (h.sm b o n1 n3 hb),s _ _ h.ia,h.fa,h.t1.same s,h.t3.same s,h.o1,h.o3⟩
def B6.MS {C3 T1 T3 a dx:Addr}{H0 H H':Hp}{fs:List (Str×V)}(h:B6 C3 T1 T3 H0 H a dx fs)(s:jW T1 T3 H H')(t1:Tab T1 qg.2.2.2 w6 H')(t3:Tab T3 posB EY H'):B6 C3 T1 T3 H0 H' a dx fs :=
 ⟨λb o n1 n3 hb=>s _ _ n1 n3 (h.sm b o n1 n3 hb),Kp.of2 s h.t1 h.t3 _ _ h.ia (λ_ z=>by cases z),h.fa,t1,t3,h.o1,h.o3⟩
def zJ (K:aT)(C C3 T1 T3:Addr):Sp:=λvs H Q _=>∃(H0 Hb:Hp)(a dx R x e d bg:Addr)(rs:List Addr)(aa:List av)(kE:List (aF×V))(aQ:List (Str×Nat))(ps:List (Str×Addr))(bX:List Be),vs=[.ref a,.ref R,.ref x]/\aB H0 H/\H0 a=none/\H a=some (.ins C3 dx [])/\aD K H0 R (rs.map V.ref)/\bN K H0 rs aa /\
 aa.length < 64/\(∀ru∈aa,ru.2.length<=8)/\(∀g,bU M11.bl aa (jB aa) g->cQ M11.bl aa g->∀h∈hd aa,∃n,g h=some n/\n<=60)/\rH K C Hb H0 x e d bg kE aQ ps bX/\qX aa aQ/\bX.length<=80000/\Tab T1 qg.2.2.2 w6 H0/\Tab T3 posB EY H0/\T1≠T3 /\
 ∀H',jW T1 T3 H0 H'->Tab T1 qg.2.2.2 w6 H'->Tab T3 posB EY H'->Q .cU H'
def Fq:aJ ["self","rules","begin_table"] ["self","rules","begin_table"] (au xS):=ju rfl rfl rfl rfl nofun
def Dp {C C3 T1 T3:Addr}(F:iq K "__init__" "LeastTrees.__init__" xS f fd)(T:Txt mg)(B:BC K C)(L:LC K C3)(GL:aM P w K mg base 4 "least_by_part" ["rules"] (mM K T1 T3))(GE:aM P w K mg base 4 "empty_by_name" ["rules","empties"] (rT K)) :
  bf P w K mg base fk 5 f fd ["self","rules","begin_table"] (zJ K C C3 T1 T3):=by
 refine F.ok Fq (λvs H Q E h=>?_) (λdr A outer s H vs Q E hr h=>?_)
 .obtain⟨H0,Hb,a,dx,R,x,e,d,bg,rs,aa,kE,aQ,ps,bX,rfl,_⟩:=h;rfl
 obtain⟨H0,Hb,a,dx,R,x,e,d,bg,rs,aa,kE,aQ,ps,bX,rfl,s0,f0,ea,hR,df,aZ,h8,DQ,S,emp,Ju,t1,t3,nT,q⟩:=h;have hu:=pd (Nat.add_le_add_left (by decide:2<=64) _) hr.units;refine⟨_,aj (ff (pv 0) (pv 1) rfl)
  (aj (ff (pv 0) (dS (pv 2) rfl) rfl)
  (aj (ff (pv 0) (cv GL hr rfl (ah (pv 1) ak)) rfl)
  (aj (ff (pv 0) (cv GE hr rfl (ah (pv 1) (ah (dS (pv 2) rfl) ak))) rfl)
  (aq (ff (pv 0) (aY (wQ rfl hu) rfl T.Al eC (ah (bq ["name","word","number","place"] [] rfl (a8 (dS (pv 2) rfl)) (a9 rfl rfl) nofun rfl nofun
   (λ_ _ _ _ _=>gU (n:=4) K rfl (aC (ar (i:=0) (show (["name","word","number","place"]:List Str).Nodup by decide +kernel) rfl (bM rfl)) (aC (ar (i:=1) (show (["name","word","number","place"]:List Str).Nodup by decide +kernel) rfl (bM rfl)) (aC (ar (i:=2) (show (["name","word","number","place"]:List Str).Nodup by decide +kernel) rfl (bM rfl)) (aC (ar (i:=3) (show (["name","word","number","place"]:List Str).Nodup by decide +kernel) rfl (bM rfl)) bW))))) (λ_ _ _ _ _=>b9)
   (λ_ _ _ _ _=>cy (ah (cy (ah (pv 0) (ah (pv 1) ak))) (ah (cy (ah (pv 2) (ah (pv 3) ak))) ak)))) ak)) rfl))))),?_⟩
 nofun
 have S0:B6 C3 T1 T3 H0 H a dx []:=⟨λb o _ _ hb=>s0 b o hb,ea,f0,t1.same s0,t3.same s0,t1,t3⟩;obtain⟨e1,te,⟨LJ,Lu,PX,YM⟩,ee1,evb,_⟩:=S.em;obtain⟨aag,aaa,Ob,l1,l2,_⟩:=S.ia;rw [PX] at Ob;cases Ob;obtain⟨tb,ebg,Ln⟩:=S.lb;have lets:=emp.len;refine⟨_,rfl,_,rfl,a,C3,dx,[],rfl,S0.ia,L.cls,L.a1,(by show 0 < 1000;decide),?_⟩;have S1:=S0.set (c_ "rules" (.ref R) []);generalize PK:c_ "rules" (.ref R) []=PU at S1;generalize upd H a (.ins C3 dx PU)=H1 at S1;have x1:H1 x=some (.ins C LJ Lu):=S1.kp _ _ PX (λ_ z=>by cases z);refine⟨_,rfl,x,C,LJ,Lu,_,rfl,x1,B.cls,B.a2,l1,_,rfl,a,C3,dx,PU,rfl,S1.ia,L.cls,L.a2,(by rw [<-PK];show 1 < 1000;decide),?_⟩;have S2:=S1.set (c_ "empty" (.ref e) PU);generalize Bh:c_ "empty" (.ref e) PU=rp at S2;generalize upd H1 a (.ins C3 dx rp)=H2 at S2;refine⟨_,rfl,R,rs,aa,rfl,S2.kp.seq hR,S2.kp.aa df,aZ,h8,DQ,S2.t1,S2.t3,nT,λdl kl H3 fdl s3 wZ Xu edl kdl=>?_⟩;have S3:=S2.MS s3 wZ Xu;refine⟨_,rfl,a,C3,dx,rp,rfl,S3.ia,L.cls,L.a3,(by rw [<-Bh,<-PK];show 2 < 1000;decide),?_⟩;have S4:=S3.set (c_ "least" (.ref dl) rp);generalize VY:c_ "least" (.ref dl) rp=Lv at S4;generalize upd H3 a (.ins C3 dx Lv)=H4 at S4;have x4:H4 x=some (.ins C LJ Lu):=S4.kp _ _ PX (λ_ z=>by cases z);refine⟨_,rfl,_,rfl,x,C,LJ,Lu,_,rfl,x4,B.cls,B.a1,YM,R,e1,rs,te,aa,aQ,rfl,S4.kp.seq hR,S4.kp.aa df,∅,h8,aD.of (S4.kp.lst ee1),evb.keep λ_ _ z=>S4.kp.tup z,emp,∅,λdh kh H5 fdh s5 edh kdh=>?_⟩;have S5:=S4.next s5;refine⟨_,rfl,a,C3,dx,Lv,rfl,S5.ia,L.cls,L.a4,(by rw [<-VY,<-Bh,<-PK];show 3 < 1000;decide),?_⟩;have S6:=S5.set (c_ "hollow" (.ref dh) Lv);generalize ZC:c_ "hollow" (.ref dh) Lv=xi at S6;generalize upd H5 a (.ins C3 dx xi)=H6 at S6;have x6:H6 x=some (.ins C LJ Lu):=S6.kp _ _ PX (λ_ z=>by cases z);have b6:=S6.kp.lst ebg;have v6:Paired (λt (b:Be)=>aX K H6 t [.str b.1,.str b.2.1,.int (b.2.2.1:Int),.int (b.2.2.2:Int)]) tb bX:=Paired.d_ Ln λ_ _ z=>S6.kp.tup z;refine⟨_,rfl,x,C,LJ,Lu,_,rfl,x6,B.cls,B.a3,l2,bg,rfl,⟨_,aD.of b6⟩,λD7 N3=>Bz (aD.of b6) v6 ∅ N3 λus H7 s7 e7 p7=>?_⟩;obtain⟨kvs,pk⟩:=CY p7;refine⟨D7,us,kvs,rfl,e7,pk,λdb qr=>?_⟩;have S8:=(S6.next s7).next (ag qr (.dT (lX kvs [])));refine⟨_,rfl,a,C3,dx,xi,rfl,S8.ia,L.cls,L.a5,(by rw [<-ZC,<-VY,<-Bh,<-PK];show 4 < 1000;decide),?_⟩;have S9:=S8.set (c_ "beginnings" (.ref db) xi);exact q _ S9.sm S9.t1 S9.t3
structure zm (K:aT)(x qual:Str)(st:Stmt)(f:Addr)(fd:FuncData):Prop where
 ex:∃(oc:Value)(od:Option Addr)(kV doc pm:Value)(an:Option Addr)(dr ct:Value)(uM:Array (Option Value))(T:Addr)(o:Obj) (n:Nat),
  fd=PySem.W.fnOf x qual (cP st) (bB st) (au st) (.ref T) kV doc pm an dr ct/\K.lookup f=some ⟨oc,od,.func fd,uM⟩/\PySem.W.codeIn K dr qual=true/\K.lookup T=some o/\o.data=.seq #[.none] n
 kp:PySem.W.keepIn K (.ref f)=true
def zm.ok {x qual:Str}{st:Stmt}{f:Addr}{fd:FuncData}{N ps:List Str}{k:Nat}{sp:Sp}(F:zm K x qual st f fd)(S:aJ N ps (au st))(len:∀vs H Q E,sp vs H Q E->vs.length=ps.length)
  (gb:∀(dr:Value)(A:Around)(outer:List Env)(s:Shared)(H:Hp)(vs:List V)(Q:VK)(E:XK),cX k (A.deeper (PyProof.Rows.envOfC qual (au st) s.heap.objs.size f dr))->sp vs H Q E ->
   ∃t,vo (d6 fk P w K mg base N qual (au st) f dr A outer s H E).AY (bB st) t/\t { nx:=λ_ H'=>Q .cU H',rt:=Q } (start N vs) H):bf P w K mg base fk (k+1) f fd ps sp:=by
 obtain⟨oc,od,kV,doc,pm,an,dr,ct,uM,T,o,n,rfl,lk,qv,_⟩:=F.ex;refine wq lk qv S len λA outer s H vs Q E hr sM=>?_;obtain⟨t,h,q⟩:=gb dr A outer s H vs Q E hr sM;exact⟨t,h.AY,q⟩
def DV {f:Addr}{fd:FuncData}(F:zm K "__init__" "Grammar.__init__" uG f fd):Binds K fd ["self","rules","strengths"] [.none]:=by
 obtain⟨oc,od,kV,doc,pm,an,dr,ct,uM,T,o,n,rfl,lk,qv,lT,dT⟩:=F.ex;intro s us KI hl;have om:us.length=2:=by
  have:(us++[Value.none]).length=3:=hl;rw [cC] at this;exact Nat.succ.inj this
 match us,om with
 | [u1,u2],_=>exact BindsTo.of_defaults rfl (KI T o lT) dT rfl rfl
structure GC (K:aT)(C:Addr):Prop where
 cls:BQ K C
 a1:cI K C "rules"
 a2:cI K C "strengths"
 a3:cI K C "begin_table"
 a4:cI K C "standings"
 a5:cI K C "small_trees"
def StrIn (K:aT)(H:Hp)(sv:V)(ss:List Addr)(str:List av):Prop:=(sv=.cU/\ss=[]/\str=[])\/∃S,sv=.ref S/\aD K H S (ss.map V.ref)/\bN K H ss str
def l_ (T1 T2 T3:Addr)(H H':Hp):Prop:=∀b o,b≠T1->b≠T2->b≠T3->H b=some o->H' b=some o
structure Av (T1 T2 T3:Addr)(H:Hp):Prop where
 t1:Tab T1 qg.2.2.2 w6 H
 t2:Tab T2 yD.2.2.2 Ht H
 t3:Tab T3 posB EY H
 Ho:T1≠T2
 Hn:T1≠T3
 Hm:T2≠T3
theorem Av.same {T1 T2 T3:Addr}{H H':Hp}(h:Av T1 T2 T3 H)(s:aB H H'):Av T1 T2 T3 H':=⟨h.t1.same s,h.t2.same s,h.t3.same s,h.Ho,h.Hn,h.Hm⟩
def Av.Fi {T1 T2 T3 a C dx:Addr}{H:Hp}{fs:List (Str×V)}{o:HO}(h:Av T1 T2 T3 H)(ha:H a=some (.ins C dx fs)):Av T1 T2 T3 (upd H a o):=⟨je h.t1 ha,je h.t2 ha,je h.t3 ha,h.Ho,h.Hn,h.Hm⟩
def Kp.XX {T1 T2 T3:Addr}{H H':Hp}(s:l_ T1 T2 T3 H H')(t:Av T1 T2 T3 H):Kp H H':=λc o hc hn=>by
 obtain⟨Pj,b1,_⟩:=t.t1;obtain⟨ME,b2,_⟩:=t.t2;obtain⟨ps3,b3,_⟩:=t.t3;exact s c o (λz=>by rw [z,b1] at hc;cases hc;exact hn _ rfl) (λz=>by rw [z,b2] at hc;cases hc;exact hn _ rfl) (λz=>by rw [z,b3] at hc;cases hc;exact hn _ rfl) hc
def rH.Fi {C:Addr}{H0 H:Hp}{a e d bg:Addr}{kE:List (aF×V)}{aQ:List (Str×Nat)}{ps:List (Str×Addr)}{bX:List Be}{g Cg gx:Addr}{fs E7:List (Str×V)}(h:rH K C H0 H a e d bg kE aQ ps bX)(hg:H0 g=some (.ins Cg gx fs))(na:a≠g) :
  rH K C (upd H0 g (.ins Cg gx E7)) (upd H g (.ins Cg gx E7)) a e d bg kE aQ ps bX:=by
 have Gd:=h.sm _ _ hg;have up:∀c o,c≠g->H c=some o->upd H g (.ins Cg gx E7) c=some o:=λc o n q=>by rw [ai n];exact q
 refine⟨λc o hc=>?_,?_,up _ _ (λz=>by have:=h.he;rw [z,Gd] at this;cases this) h.he,up _ _ (λz=>by have:=h.hd;rw [z,Gd] at this;cases this) h.hd,h.n1,h.n2,λp hp=>?_,?_,?_,?_⟩
 .by_cases z:c=g
  .rw [z,ae] at hc ⊢;exact hc
  rw [ai z] at hc ⊢;exact h.sm _ _ hc
 .obtain⟨dx,fs,q,r⟩:=h.ia;exact⟨dx,fs,up _ _ na q,r⟩
 .obtain⟨⟨kvs,q,r⟩,t1,t2⟩:=h.dk p hp;exact⟨⟨kvs,up _ _ (λz=>by rw [z,Gd] at q;cases q) q,r⟩,by rw [ai (λz=>by rw [z,hg] at t1;cases t1)];exact t1,t2⟩
 .obtain⟨ts,q,r⟩:=h.lb;exact⟨ts,up _ _ (λz=>by rw [z,Gd] at q;cases q) q,Paired.d_ r λ_ _ z=>fX Gd z⟩
 .have t1:=h.fb;rw [ai (λz=>by rw [z,hg] at t1;cases t1)];exact t1
 obtain⟨e1,ts,⟨dx,fs,q1,q2⟩,q3,q4,q5⟩:=h.em;exact⟨e1,ts,⟨dx,fs,up _ _ na q1,q2⟩,up _ _ (λz=>by rw [z,Gd] at q3;cases q3) q3,q4.keep λ_ _ z=>fX Gd z,q5⟩
def Fu:aJ ["self","rules","strengths"] ["self","rules","strengths"] (au uG):=ju rfl rfl rfl rfl nofun
end
def F5:List Str->Str->Nat
 | [],_=>0
 | a::r,x=>if a=x then 0 else F5 r x+1
theorem uU:∀(l:List Str)(x:Str),x∈l->l[F5 l x]?=some x
 | [],x,h=>by cases h
 | a::r,x,h=>by
  unfold F5;by_cases c:a=x
  .rw [aw c];exact congrArg some c
  rw [ay c];rcases bC.mp h with e | e
  .exact absurd e.symm c
  rw [List.getElem?_cons_succ];exact uU r x e
theorem qk:∀(l:List Str)(x:Str) (i:Nat),x∈l.take i->F5 l x < i
 | [],x,i,h=>by simp at h
 | a::r,x,0,h=>by simp at h
 | a::r,x,i+1,h=>by
  unfold F5;by_cases c:a=x
  .rw [aw c];omega
  rw [ay c];rw [List.take_succ_cons] at h;rcases bC.mp h with e | e
  .exact absurd e.symm c
  have:=qk r x i e;omega
def zp {l:List Str}{x:Str}{i:Nat}(h:x∈l.take i):∃j,j < i/\l[j]?=some x:=by
 obtain⟨j,hj⟩:=fq h;have lj:=(ba.mp hj).1;rw [dI] at lj;rw [vv ∅] at hj;exact⟨j,∅,hj⟩
def Ab {aa:List av}{ru:av}(h:ru∈aa):ru.1∈hd aa:=(dN _ _ _).mpr (.inr (iL h))
def Of {aa:List av}{x:Str}(h:Em aa x):x∈hd aa:=by
 cases h with
 | mk h _=>exact Ab h
def u4 {aa:List av}{aQ:List (Str×Nat)}(h:qX aa aQ):∀y∈aQ.map (·.1),Em aa y:=by
 induction h with
 | nil=>intro y hy;cases hy
 | @snoc aQ k ru _ e _ p ih =>
  intro y hy;rw [br] at hy;rcases cq.mp hy with h | h
  .exact ih y h
  rw [cm.mp h];exact .mk (cR e) λq hq=>ih q (p q hq)
def DB {b:Str->Bool}{zs:List Str}{i j:Nat}{x:Str}(h:A4 b zs j=true)(e:zs[i]?=some x)(n:i≠j):b x=true:=by
 cases hb:b x with
 | true=>rfl
 | false =>
  have li:=(ba.mp e).1;have m:((i:Nat):Int)∈yS b zs zs.length:=by
   unfold yS;exact b_.mpr ⟨i,fS.mpr ⟨jc.mpr li,by rw [e];show (!(b x))=true;rw [hb];rfl⟩,rfl⟩
  unfold A4 at h;rcases Bool.or_eq_true_iff.mp h with h | h
  .rw [<-eh h] at m;cases m
  rw [<-eh h] at m;have:=cm.mp m;omega
theorem zu {f:Str->Int}{c:Int}:∀(ps:List Str),(∀x∈ps,f x<=c)->(ps.map f).sum<=ps.length * c
 | [],_=>by simp
 | p::r,h=>by
  have h1:=zu r λx hx=>h x (bJ _ hx);have h2:=h p bZ;rw [bw,kJ,dw];have:((r.length+1:Nat):Int) * c=(r.length:Int) * c+c:=by rw [Int.natCast_add,Int.add_mul];omega
  omega
structure OT (aa:List av) (ns E M Pl:List Str):Prop where
 n3:ns.length<=3
 sN:∀ru∈aa,ru.1∈ns
 p3:∀ru∈aa,ru.2.length<=3
 eN:E.Nodup
 eNs:∀x∈E,x∈ns
 eO:∀(i:Nat)(h:Str),E[i]?=some h->∃dD,(h,dD)∈aa/\∀p∈dD,p∈E.take i\/p∉hd aa
 eA:∀h∈hd aa,h∈E
 mO:∀(i:Nat)(h:Str),M[i]?=some h->(∃cW,aa[0]?=some cW/\h=cW.1)\/∃ru∈aa,ru.1∈M.take i/\h∈ru.2
 mA:∀h∈hd aa,h∈M
 lN:Pl.Nodup
 YQ:∀x∈Pl,x∈ns
 lO:∀(i:Nat)(h:Str),Pl[i]?=some h->∀ru∈aa,ru.1=h->∀(j:Nat)(z:Str),ru.2[j]?=some z->z∈hd aa->(∀(k:Nat)(y:Str),k≠j->ru.2[k]?=some y->Em aa y)->z∈Pl.take i
 lA:∀h∈hd aa,h∈Pl
def b3:Nat->Int
 | 0=>1
 | 1=>4
 | _=>13
def c3:Nat->Int
 | 0=>0
 | 1=>1
 | _=>4
def Ib {i j:Nat}(hi:i < 3)(h:j < i):b3 j<=c3 i:=by
 have:∀i:Nat,i < 3->∀j:Nat,j < i->b3 j<=c3 i:=by decide
 exact this i hi j h
def OB {i:Nat}:1+3 * c3 i=b3 i:=by
 match i with
 | 0=>rfl
 | 1=>rfl
 | _+2=>rfl
def HY {i:Nat}:0<=c3 i:=by
 match i with
 | 0=>decide
 | 1=>decide
 | _+2=>exact(by decide:(0:Int)<=4)
def Ey {i:Nat}:0<=b3 i/\b3 i<=60:=by
 match i with
 | 0=>decide
 | 1=>decide
 | _+2=>exact(by decide:(0:Int)<=13/\(13:Int)<=60)
def Ha {f:Str->Int}{i:Nat}{ps:List Str}(h3:ps.length<=3)(h:∀x∈ps,f x<=c3 i):1+(ps.map f).sum<=b3 i:=by
 have h1:=zu ps h;have h2:(ps.length:Int) * c3 i<=3 * c3 i:=Int.mul_le_mul_of_nonneg_right ∅ HY;have:=@OB i;omega
def bP (Pl:List Str)(x:Str):Int:=if x∈Pl then b3 (F5 Pl x) else 0
def OT.good {aa:List av}{ns E M Pl:List Str}(O:OT aa ns E M Pl):Good aa (F5 Pl) (bP Pl) where
 least g st se:=by
  have YN:E.length<=3:=cz (dZ E ns O.eN O.eNs) O.n3;have bS:∀x,x∉hd aa->∀ru∈aa,x∈ru.2->g x=some 0:=by
   intro x nn ru ft hm;refine bU.keep (J:=λg=>g x=some 0) (λg Pf j h2 _=>?_) st ?_
   .show cM g Pf.1 _ x=some 0;unfold cM;have:x≠Pf.1:=λz=>nn (z ▸ Ab h2);rw [ay this];exact j
   show jB aa x=some 0;unfold jB;rw [aw (oN _ _ _ _ (.inr ⟨mw.mpr ⟨ru,ft,hm⟩,nn⟩))]
  have key:∀(n i:Nat),i < n->∀h:Str,E[i]?=some h->∃m,g h=some m/\m<=b3 i:=by
   intro n
   induction n with
   | zero=>intro i hi;omega
   | succ n ih =>
    intro i hi h e;have li:=(ba.mp e).1;obtain⟨ps,hm,hp⟩:=O.eO i h e;have hv:∀p∈ps,∃m,g p=some m/\m<=c3 i:=λp VL=>by
     rcases hp p VL with h1 | h1
     .obtain⟨j,lj,ej⟩:=zp h1;obtain⟨m,e1,e2⟩:=ih j ∅ p ej;exact⟨m,e1,Int.le_trans e2 (Ib ∅ lj)⟩
     exact⟨0,bS p h1 _ hm VL,HY⟩
    have hs:=se _ hm;unfold bD at hs;have a1:ip g (h,ps)=true:=eY.mpr λp hp=>by obtain⟨m,e1,_⟩:=hv p hp;show (g p).isSome=true;rw [e1];rfl
    have s0:aG g (h,ps)<=b3 i:=by
     unfold aG;exact Ha (O.p3 _ hm) λp hp=>by obtain⟨m,e1,e2⟩:=hv p hp;show (g p).getD 0<=_;rw [e1];exact e2
    rw [a1,pA] at hs;cases gn:g h with
    | none=>rw [show g (h,ps).1=none from gn] at hs;cases hs
    | some m =>
     rw [show g (h,ps).1=some m from gn] at hs;refine⟨m,rfl,?_⟩;have:¬aG g (h,ps) < m:=by simpa [M11.bl] using hs
     omega
  intro h hh;obtain⟨i,hi⟩:=fq (O.eA h hh);obtain⟨m,e1,e2⟩:=key (i+1) i ∅ h hi;exact⟨m,e1,Int.le_trans e2 Ey.2⟩
 met cW ms e0 h0 mc:=by
  have key:∀(n i:Nat),i < n->∀h:Str,M[i]?=some h->h∈ms:=by
   intro n
   induction n with
   | zero=>intro i hi;omega
   | succ n ih =>
    intro i hi h e;rcases O.mO i h e with ⟨r0,e1,e2⟩ | ⟨ru,ft,h1,h2⟩
    .rw [e0] at e1;cases e1;rw [e2];exact h0
    obtain⟨j,lj,ej⟩:=zp h1;exact mc ru (by rw [cb];exact ft) (ih j ∅ _ ej) h h2
  intro h hh;obtain⟨i,hi⟩:=fq (O.mA h hh);exact key (i+1) i ∅ h hi
 loop:=by
  rintro aQ emp Bp n k j ⟨cW,z0,e1,e2,e3,e4,e5⟩ ru z er ez;rw [er] at e1;obtain rfl:ru=cW:=gP e1;rw [ez] at e3;obtain rfl:z=z0:=gP e3;have ft:=cR er;have hn:n∈Pl:=O.lA n (e2 ▸ Ab ft);refine qk Pl z _ (O.lO _ n (uU Pl n hn) ru ft e2 j z ez e4 λk' y nk ey=>?_);have:=DB e5 ey nk;exact u4 emp y (eh this)
 OC:=by
  refine⟨λz=>?_,λru ft V1=>?_⟩
  .unfold bP
   split
   .exact Ey.1
   decide
  have hn:ru.1∈Pl:=O.lA _ (Ab ft);have li:=(ba.mp (uU Pl ru.1 hn)).1;have YN:Pl.length<=3:=cz (dZ Pl ns O.lN O.YQ) O.n3;have e:bP Pl ru.1=b3 (F5 Pl ru.1):=aw hn;rw [e];refine Ha (O.p3 ru ft) λp hp=>?_;obtain⟨j,ej⟩:=fq hp;have ht:=O.lO _ ru.1 (uU Pl ru.1 hn) ru ft rfl j p ej (Of (V1 p hp)) λk' y _ ey=>V1 y (cR ey);have e2:bP Pl p=b3 (F5 Pl p):=aw (rJ ht);rw [e2];exact Ib ∅ (qk Pl p _ ht)
 most h hh:=by
  unfold bP
  split
  .exact Ey.2
  decide
end eG
namespace M11
open PySem
def cV (bS:Bool) (aN e:List Str)(ru:av):List Str:=if ((ru.2.all λp=>decide (p∈e) || (bS && !decide (p∈aN))) && !decide (ru.1∈e))=true then e++[ru.1] else e
def qb (bS:Bool) (aN e:List Str)(aa:List av):List Str:=aa.foldl (cV bS aN) e
def passes {α:Type}(f:α->α):Nat->α->α
 | 0,a=>a
 | n+1,a=>f (passes f n a)
structure EO (bS:Bool) (aN:List Str)(aa:List av) (e:List Str):Prop where
 nd:e.Nodup
 ord:∀(i:Nat)(h:Str),e[i]?=some h->∃dD,(h,dD)∈aa/\∀p∈dD,p∈e.take i\/(bS=true/\p∉aN)
def EO.step {bS:Bool}{aN:List Str}{aa:List av}{e:List Str}(h:EO bS aN aa e){ru:av}(hr:ru∈aa):EO bS aN aa (cV bS aN e ru):=by
 unfold cV
 split
 .rename_i c
  obtain⟨c1,c2⟩:=nS.mp c;have c2':ru.1∉e:=by simpa using c2
  refine⟨iK.mpr ⟨h.nd,by simp,λa ha b hb z=>c2' (by rw [<-cm.mp hb,<-z];exact ha)⟩,λi x hx=>?_⟩;by_cases l:i < e.length
  .rw [nW l] at hx;obtain⟨dD,a,b⟩:=h.ord i x hx;refine⟨dD,a,λp hp=>?_⟩;rw [rL ∅];exact b p hp
  have li:=(ba.mp hx).1;rw [cC,nV] at li;have:i=e.length:=by omega
  subst this;rw [pz (aH _),Nat.sub_self] at hx;cases hx;refine⟨ru.2,hr,λp hp=>?_⟩;rw [rL (aH _),cb];have:=eY.mp c1 p hp;simp only [Bool.or_eq_true,decide_eq_true_eq,jQ,tO,decide_eq_false_iff_not] at this;exact this
 exact h
theorem EO.pass {bS:Bool}{aN:List Str}{aa:List av}:∀(rs:List av){e:List Str},(∀ru∈rs,ru∈aa)->EO bS aN aa e->EO bS aN aa (rs.foldl (cV bS aN) e)
 | [],_,_,h=>h
 | ru::rs,_,hs,h=>EO.pass rs (λr hr=>hs r (bJ _ hr)) (h.step (hs ru bZ))
def rS (bS:Bool) (aN e:List Str)(ru:av):cV bS aN e ru=e\/e.length < (cV bS aN e ru).length:=by
 unfold cV
 split
 .right;simp
 left;rfl
theorem wo (bS:Bool) (aN:List Str):∀(rs:List av) (e:List Str),e.length<=(rs.foldl (cV bS aN) e).length
 | [],_=>aH _
 | ru::rs,e=>by
  have h1:=wo bS aN rs (cV bS aN e ru);have h2:=rS bS aN e ru;show _<=(rs.foldl (cV bS aN) (cV bS aN e ru)).length;rcases h2 with h | h
  .rw [h] at h1 ⊢;exact h1
  omega
theorem qA (bS:Bool) (aN:List Str):∀(rs:List av) (e:List Str),(rs.foldl (cV bS aN) e=e/\∀ru∈rs,cV bS aN e ru=e)\/e.length < (rs.foldl (cV bS aN) e).length
 | [],_=>.inl ⟨rfl,λ_ h=>by cases h⟩
 | ru::rs,e=>by
  show (rs.foldl (cV bS aN) (cV bS aN e ru)=e/\_)\/_ < (rs.foldl (cV bS aN) (cV bS aN e ru)).length;rcases rS bS aN e ru with h | h
  .rw [h];rcases qA bS aN rs e with ⟨a,b⟩ | c
   .refine .inl ⟨a,λr hr=>?_⟩;rcases bC.mp hr with rfl | hr
    .exact h
    exact b r hr
   exact .inr c
  right;have:=wo bS aN rs (cV bS aN e ru);omega
theorem iC:∀(l m:List Str),l.Nodup->(∀z∈l,z∈m)->l.length<=m.length
 | [],m,_,_=>gr _
 | x::r,m,hn,hs=>by
  have hx:=hs x bZ;have Bd:=jP.mp hn;have:=iC r (m.erase x) Bd.2 λz hz=>(List.mem_erase_of_ne (λe=>Bd.1 (by rw [<-e];exact hz))).mpr (hs z (bJ _ hz));rw [List.length_erase_of_mem hx] at this;have:0 < m.length:=xp hx;rw [dw];omega
def EO.sub {bS:Bool}{aN:List Str}{aa:List av}{e:List Str}(h:EO bS aN aa e):∀x∈e,x∈aa.map (·.1):=λx hx=>by
 obtain⟨i,hi⟩:=fq hx;obtain⟨dD,a,_⟩:=h.ord i x hi;exact b_.mpr ⟨_,a,rfl⟩
end M11
namespace eG
open PySem L2 M11
def pR {bt:Int->Int->Bool}{aa:List av}{g0 g:G}(e:g0=jB aa)(st:bU bt aa g0 g){z:Str}(hz:(jB aa z).isSome=true):g z=some 0:=by
 have hw:z∈pM (hd aa) [] (aa.flatMap (·.2)):=by
  unfold jB at hz
  split at hz
  .assumption
  cases hz
 have nh:=oM (hd aa) _ [] (λ_ y=>by cases y) z hw
 induction st with
 | refl =>
  rw [e];unfold jB;rw [aw hw]
 | @step g1 ru QP ft fr ih =>
  unfold cM;rw [ay]
  .exact ih
  intro y;apply nh;rw [y];show ru.1∈jK [] (aa.map (·.1));rw [dN];exact .inr (b_.mpr ⟨ru,ft,rfl⟩)
def FY {aa:List av}(h3:∀ru∈aa,ru.2.length<=3){A:List Str}(hA:A.length<=4)(hh:∀ru∈aa,ru.1∈A):∀g,bU M11.bl aa (jB aa) g->cQ M11.bl aa g->∀h n,g h=some n->h∈hd aa->n<=60:=λg st se h n en hm=>by
 obtain⟨L,F⟩:=AG rfl st;have ll:L.length<=4:=cz (iC L A F.nd λz hz=>by obtain⟨ru,hr,e⟩:=F.hd z hz;rw [<-e];exact hh ru hr) hA;rcases F.all h (by rw [en];rfl) with q | q
 .have:=pR rfl st q;rw [en] at this;cases this
  decide
 obtain⟨i,hi⟩:=fq q;have li:=(ba.mp hi).1;have b:=sF F se h3 (λz hz=>pR rfl st hz) (i+1) i h ∅ hi n en;have:B3 i<=B3 3:=Ay ∅;have e3:B3 3=40:=rfl;omega
theorem Ej {aa:List av}:∀(n:Nat)(aQ:List (Str×Nat)),qX aa aQ->(hd aa).length<=aQ.length+n->∃Gu,qX aa Gu/\nI aa aa.length Gu
 | n,aQ,h,l=>by
  by_cases c:nI aa aa.length aQ
  .exact⟨aQ,h,c⟩
  unfold nI at c;obtain⟨ru,c⟩:=ua.mp c;obtain⟨hr,c⟩:=ua.mp c;obtain⟨hp,hn⟩:=ua.mp c;rw [cb] at hr;obtain⟨k,hk⟩:=fq hr;have h2:=qX.snoc h hk hn hp;have l2:(aQ++[(ru.1,k)]).length<=(hd aa).length:=by
   have:=iC _ (hd aa) h2.nd λz hz=>by
    have e:=u4 h2 z hz;cases e with
    | mk ft _ =>
     show _∈jK [] (aa.map (·.1));rw [dN];exact .inr (b_.mpr ⟨_,ft,rfl⟩)
   rw [az] at this;exact this
  rw [cC,nV] at l2;cases n with
  | zero=>omega
  | succ n=>exact Ej n _ h2 (by rw [cC,nV];omega)
def zQ (A:List Str)(rk:Str->Nat)(z:Str):Nat:=(A.filter λh=>decide (rk h < rk z)).length
theorem lV {α:Type}{p q:α->Bool}(pq:∀x,p x=true->q x=true):∀{l:List α}{x:α},x∈l->q x=true->p x=false->(l.filter p).length < (l.filter q).length
 | y::r,x,h,hq,hp=>by
  have le:∀l:List α,(l.filter p).length<=(l.filter q).length:=λl=>by
   induction l with
   | nil=>exact aH _
   | cons a t ih =>
    rw [iZ,iZ];cases ca:p a with
    | true=>rw [pq a ca];simpa using ih
    | false=>cases q a <;> simp <;> omega
  rw [iZ,iZ];rcases bC.mp h with e | e
  .rw [<-e,hq,hp];have:=le r;simp;omega
  have ih:=lV pq e hq hp;cases ca:p y with
  | true=>rw [pq y ca];simpa using ih
  | false=>cases q y <;> simp <;> omega
def CO {A:List Str}{rk:Str->Nat}{p h:Str}(hp:p∈A)(l:rk p < rk h):zQ A rk p < zQ A rk h :=
 lV (λx hx=>dO (i_ (eh hx) l)) hp (dO l) (eM (hJ _))
def Fv {A:List Str}{rk:Str->Nat}{h:Str}(hh:h∈A):zQ A rk h < A.length:=by
 have:=lV (p:=λx=>decide (rk x < rk h)) (q:=λ_=>true) (λ_ _=>rfl) hh rfl (eM (hJ _));have e:A.filter (λ_=>true)=A:=List.filter_eq_self.mpr λ_ _=>rfl;rw [e] at this;exact this
def Ks {aa:List av}{z:Str}(e:Em aa z):z∈hd aa:=by
 cases e with
 | mk hr _ =>
  show _∈jK [] (aa.map (·.1));rw [dN];exact .inr (b_.mpr ⟨_,hr,rfl⟩)
def yY {aa:List av}{aQ:List (Str×Nat)}(ec:nI aa aa.length aQ){z:Str}(e:Em aa z):z∈aQ.map (·.1):=by
 induction e with
 | mk hr _ ih=>exact ec _ (by rw [cb];exact hr) ih
def DC {b:Str->Bool}{zs:List Str}(h:∀z∈zs,b z=true) (j:Nat):A4 b zs j=true:=by
 have e:yS b zs zs.length=[]:=by
  unfold yS;rw [List.map_eq_nil_iff,ug];intro i hi;have li:=jc.mp hi;rw [dJ li];show ¬(!b (zs[i]'li))=true;rw [h _ (tM _)]
  decide
 unfold A4;rw [e];rfl
open Classical in
def Gn {aa:List av}(h3:∀ru∈aa,ru.2.length<=3){A:List Str}(hA:A.length<=4)(hh:∀ru∈aa,ru.1∈A)(rk:Str->Nat)(nl:iJ aa rk):∃b,qY aa b/\∀h∈hd aa,b h<=60:=by
 obtain⟨aQ,em,ec⟩:=Ej (aa:=aa) (hd aa).length [] .nil (by simp);have TJ:∀{z:Str},Em aa z->z∈A:=λe=>by
  cases e with
  | mk hr _=>exact hh _ hr
 have b0:∀z,0<=(if Em aa z then B3 (zQ A rk z) else 0):=λz=>by
  split
  .have:=nN (zQ A rk z);omega
  exact iW _
 refine⟨λz=>if Em aa z then B3 (zQ A rk z) else 0,⟨b0,λru ft hp=>?_⟩,λh hm=>?_⟩
 .have e1:Em aa ru.1:=.mk ft hp;obtain⟨k,hk⟩:=fq ft;have lt:∀p∈ru.2,rk p < rk ru.1:=λp jn=>by
   obtain⟨j,hj⟩:=fq jn;exact nl aQ em ec ru.1 k j ⟨ru,p,hk,rfl,hj,Ks (hp p jn),DC (λz hz=>dO (yY ec (hp z hz))) j⟩ ru p hk hj
  show 1+(ru.2.map λz=>if Em aa z then B3 (zQ A rk z) else 0).sum<=if Em aa ru.1 then B3 (zQ A rk ru.1) else 0;rw [aw e1];cases hr:zQ A rk ru.1 with
  | zero =>
   have:ru.2=[]:=List.eq_nil_iff_forall_not_mem.mpr λp jn=>by
    have:=CO (TJ (hp p jn)) (lt p jn);omega
   rw [this];exact iW _
  | succ r =>
   have s:=oO (λz=>some (if Em aa z then B3 (zQ A rk z) else 0)) (B3 r) (by have:=nN r;omega) ru.2 3 (h3 ru ft) λp jn=>by
    show (if Em aa p then B3 (zQ A rk p) else 0)<=B3 r;rw [aw (hp p jn)];have:=CO (TJ (hp p jn)) (lt p jn);exact Ay ∅
   have s2:(ru.2.map λz=>if Em aa z then B3 (zQ A rk z) else 0).sum<=3 * B3 r:=s;show _<=1+3 * B3 r;omega
 show (if Em aa h then B3 (zQ A rk h) else 0)<=60
 split
 .rename_i e
  have:=Fv (rk:=rk) (TJ e);have u:B3 (zQ A rk h)<=B3 3:=Ay ∅;have e3:B3 3=40:=rfl;omega
 decide
def GD {aa:List av}(h3:∀ru∈aa,ru.2.length<=3){A:List Str}(hA:A.length<=4)(hh:∀ru∈aa,ru.1∈A):BR aa:=⟨FY h3 hA hh,λrk nl=>Gn h3 hA hh rk nl⟩
end eG
namespace L2
open PySem PySem.Spec PyProof.Rows
section
variable {prog:Program}{w:World}{A:Around}{R:Result->Shared->Prop}{I:Addr}{fp wr:List Addr}{n:Nat}{P:Nat->Value->Prop}{St:Nat->Heap->Prop}
def Sub (h0 h:Heap):Prop:=∀b o,h0.get? b=some o->h.get? b=some o
def zk (prog:Program)(w:World)(A:Around)(h0:Heap)(P:Nat->Value->Prop)(ns:Nat->Int):Prop:=∀i v (s:Shared)(Q:Value->Shared->Prop)(E:Value->Shared->Prop),P i v->Sub h0 s.heap->(∀tk Xh,Q (.int (ns i) Xh) { s with toks:=tk })->wpAny (model prog w) A (call (.builtin "len") [v]) Q E s
def KC {A:Around}{a b:Int}{t u:Tok}{s:Shared}{Q:Value->Shared->Prop}{E:Value->Shared->Prop}(h:Q (.bool (decide (a < b))) s):wpAny (model prog w) A (richCompare .Lt (.int a t) (.int b u)) Q E s :=
 CmpOf.ints_lt (P:=λi v=>∃t,v=.int (if i=0 then a else b) t) (λi=>if i=0 then a else b) (λi v z=>z) 0 1 _ _ s Q E ⟨t,rfl⟩ ⟨u,rfl⟩ h
def A1 {h0:Heap}{dv:Value}(W:Walks prog w A.in1 I fp wr n P St)(ns:Nat->Int)(hk:zk prog w A.in1 h0 P ns)(S:Addr)(Lo:S∉fp)(Nk:∀b∈wr,h0.get? b=none)(HH:h0.get? S=none) :
  ∀(k j:Nat)(s:Shared)(vb:Value)(tb:Tok) (c:Nat),n - (j+1)=k->j+1<=n->St (j+1) s.heap->P (argBest (λi j=>decide (ns i < ns j)) j) vb->Sub h0 s.heap ->
  s.heap.get? S=some { cls:=.type "list",dict:=none,data:=.seq #[vb,.int (ns (argBest (λi j=>decide (ns i < ns j)) j)) tb] c,slots:=#[] } ->
  (∀v h' tk,P (argBest (λi j=>decide (ns i < ns j)) (n - 1)) v->Sub h0 h'->R (.ok (.ret v)) { s with heap:=h',toks:=tk }) ->
  codeAny (model prog w) A (.builtin "min.loop" ⟨[.ref I,.builtin "len",.ref S],[("default",dv)]⟩) R s:=by
 have PR:S∉wr:=λh=>Lo (W.sub _ h);have jV:(toString "min" ++ toString ".loop":String) = "min.loop" := by decide
 intro k
 induction k with
 | zero =>
  intro j s vb tb c Zt hj iU Td Bb hS hR;have Gb:j+1=n:=by omega
  refine nO F.entry_min_loop ?_;rw [nR kO _];show wpAny _ A.in1 (seqItems? (.ref S) >>= _) _ _ s;refine ax (jb hS rfl ?_);show wpAny _ A.in1 (tryCatch (pyNext (.ref I)) _ >>= _) _ _ s;refine ax (kK (W.done s _ _ (Gb ▸ iU) λh' tk HC=>?_));have HI:=HC S _ PR hS;show wpAny _ A.in1 (updateSeq S (λ_=>#[]) >>= _) _ _ _;refine ax ?_;refine wpAny_updateSeq HI rfl (ax (wpAny_letGo (aK ?_)));refine hR vb _ tk (by rw [<-Gb];exact Td) λb o e=>(fV _ _ (λz:S=b=>by rw [z,e] at HH;cases HH)).trans (HC b o (λz=>by rw [Nk b z] at e;cases e) (Bb b o e))
 | succ k ih =>
  intro j s vb tb c Zt hj iU Td Bb hS hR;have iu:j+1 < n:=by omega
  refine nO F.entry_min_loop ?_;rw [nR kO _];show wpAny _ A.in1 (seqItems? (.ref S) >>= _) _ _ s;refine ax (jb hS rfl ?_);show wpAny _ A.in1 (tryCatch (pyNext (.ref I)) _ >>= _) _ _ s;refine ax (kK (W.item (j+1) s _ _ iu iU λv h' tk hP F7 HC=>?_));have HI:=HC S _ PR hS;have sL:Sub h0 h':=λb o e=>HC b o (λz=>by rw [Nk b z] at e;cases e) (Bb b o e);show wpAny _ A.in1 (tryCatch (holding [v] (call (.builtin "len") [v])) _ >>= _) _ _ _;refine ax (kK (fR (hk (j+1) v _ _ _ hP sL λXg tv=>?_)));show wpAny _ A.in1 (tryCatch (holding [v,.int (ns (j+1)) tv] (richCompare .Lt (.int (ns (j+1)) tv) (.int (ns (argBest (λi j=>decide (ns i < ns j)) j)) tb) >>= _)) _ >>= _) _ _ _;refine ax (kK (fR (ax (KC ?_))));refine ax (fR (nP ?_));refine ax (wpAny_letGo (aK ?_));cases hb:decide (ns (j+1) < ns (argBest (λi j=>decide (ns i < ns j)) j)) with
  | true =>
   have ea:argBest (λi j=>decide (ns i < ns j)) (j+1)=j+1:=by simp only [argBest,hb,if_true]
   simp only [if_true];refine ax ?_;refine wpAny_updateSeq HI rfl (ax (wpAny_letGo ?_));rw [jV];refine aK ⟨jN kO _,ih (j+1) _ v tv _ ∅ iu (W.frame _ _ _ F7 λb SW o e=>?_) (by rw [ea];exact hP) (λb o e=>?_) (by rw [ea];exact kS _ HI rfl)
    λv' N8 Cc N1 DP=>?_⟩
   .exact(fV _ _ (λh:S=b=>Lo (by rw [h];exact SW))).trans e
   .exact(fV _ _ (λz:S=b=>by rw [z,e] at HH;cases HH)).trans (sL b o e)
   exact hR v' N8 Cc N1 DP
  | false =>
   have ea:argBest (λi j=>decide (ns i < ns j)) (j+1)=argBest (λi j=>decide (ns i < ns j)) j:=by simp only [argBest,hb,Bool.false_eq_true,if_false]
   simp only [Bool.false_eq_true,if_false];refine ax (wpAny_letGo ?_);rw [jV];refine aK ⟨jN kO _,ih (j+1) _ vb tb c ∅ iu F7 (by rw [ea];exact Td) sL (by rw [ea];exact HI) λv' N8 Cc N1 DP=>?_⟩;exact hR v' N8 Cc N1 DP
def A2 {h0:Heap}{dv:Value}(W:Walks prog w A.in1 I fp wr n P St)(ns:Nat->Int)(hk:zk prog w A.in1 h0 P ns)(S:Addr)(Lo:S∉fp)(Nk:∀b∈wr,h0.get? b=none)(HH:h0.get? S=none)(hn:0 < n){s:Shared}{c:Nat}(iU:St 0 s.heap)(Bb:Sub h0 s.heap)
  (hS:s.heap.get? S=some { cls:=.type "list",dict:=none,data:=.seq #[] c,slots:=#[] })
  (hR:∀v h' tk,P (argBest (λi j=>decide (ns i < ns j)) (n - 1)) v->Sub h0 h'->R (.ok (.ret v)) { s with heap:=h',toks:=tk }) :
  codeAny (model prog w) A (.builtin "min.loop" ⟨[.ref I,.builtin "len",.ref S],[("default",dv)]⟩) R s:=by
 have PR:S∉wr:=λh=>Lo (W.sub _ h);have jV:(toString "min" ++ toString ".loop":String) = "min.loop" := by decide
 refine nO F.entry_min_loop ?_;rw [nR kO _];show wpAny _ A.in1 (seqItems? (.ref S) >>= _) _ _ s;refine ax (jb hS rfl ?_);show wpAny _ A.in1 (tryCatch (pyNext (.ref I)) _ >>= _) _ _ s;refine ax (kK (W.item 0 s _ _ hn iU λv h' tk hP F7 HC=>?_));have HI:=HC S _ PR hS;have sL:Sub h0 h':=λb o e=>HC b o (λz=>by rw [Nk b z] at e;cases e) (Bb b o e);show wpAny _ A.in1 (tryCatch (holding [v] (call (.builtin "len") [v])) _ >>= _) _ _ _;refine ax (kK (fR (hk 0 v _ _ _ hP sL λXg tv=>?_)));show wpAny _ A.in1 (updateSeq S (λ_=>#[v,.int (ns 0) tv]) >>= _) _ _ _;refine ax ?_;refine wpAny_updateSeq HI rfl ?_;rw [jV];refine aK ⟨jN kO _,A1 W ns hk S Lo Nk HH _ 0 _ v tv _ rfl hn (W.frame _ _ _ F7 λb SW o e=>?_) hP (λb o e=>?_) (kS _ HI rfl) λv' N8 Cc N1 DP=>?_⟩
 .exact(fV _ _ (λh:S=b=>Lo (by rw [h];exact SW))).trans e
 .exact(fV _ _ (λz:S=b=>by rw [z,e] at HH;cases HH)).trans (sL b o e)
 exact hR v' N8 Cc N1 DP
end
section
variable {prog:Program}{w:World}{A:Around}{E:Value->Shared->Prop}{s:Shared}
def u7 {l:Addr}{items:Array Value}{dv:Value}{ns:Nat->Int}{Q:Value->Shared->Prop}(hh:A.handled=none)(hl:s.heap.IsList l items)(hk:zk prog w A.in1 s.heap (λi v=>items[i]?=some v) ns)(hn:0 < items.size)
  (h:∀v h' tk,items[argBest (λi j=>decide (ns i < ns j)) (items.size - 1)]?=some v->Sub s.heap h'->Q v { s with heap:=h',toks:=tk }) :
  wpAny (model prog w) A (call (.builtin "min") [.ref l] [("key",.builtin "len"),("default",dv)]) Q E s:=by
 have jV:(toString "min" ++ toString ".loop":String) = "min.loop" := by decide
 refine gN (ph F.plain_min F.entry_min ?_);have core:wpAny (model prog w) A.in1 (Builtin.«min» ⟨[.ref l],[("key",.builtin "len"),("default",dv)]⟩) (λfin s'=>match fin with
   | .done f=>(match (Except.ok f:Result) with | .ok (.ret v)=>Q v s' | .ok _=>False | .error e=>E e s')
   | .again c'=>c'.quiet=true/\codeAny (model prog w) A c' (λr s'=>match r with | .ok (.ret v)=>Q v s' | .ok _=>False | .error e=>E e s') s') E s:=by
  show wpAny _ A.in1 (Builtin.Builtins.bindParams "min" ["key","default"] 0 ⟨[],[("key",.builtin "len"),("default",dv)]⟩ >>= _) _ _ s;refine ax (wpAny_of_eq (show Builtin.Builtins.bindParams "min" ["key","default"] 0 ⟨[],[("key",.builtin "len"),("default",dv)]⟩=pure [some (.builtin "len"),some dv] from rfl) ?_);refine ax (aK ?_);refine ax (pb hl ?_);refine ax (o_ ?_);rw [jV];obtain⟨ol,h1,h2⟩:=id hl;have Vs:=aP h1;have nz:∀{h:Heap}{a:Addr},h.objs.size<=a->h.get? a=none:=λ{h a} le=>by
   cases e:h.get? a with
   | none=>rfl
   | some o=>exact absurd (aP e) (Nat.not_lt.mpr le)
  have U4:∀(h:Heap)(o:Obj),(h.push o).objs.size=h.objs.size+1:=λh o=>by simp [Heap.push]
  refine aK ⟨jN kO _,A2 (Walks.list (show A.in1.handled=none from hh) s.heap.objs.size l (a_ Vs) items) ns hk _ ?_ ?_ ?_ hn ⟨?_,?_⟩ ?_ (cJ _ rfl) λv h' tk hP hs=>h v h' tk hP hs⟩
  .intro z;rw [U4] at z;rcases bC.mp z with e | e
   .exact absurd e (Nat.succ_ne_self _)
   have:=cm.mp e;have t2:s.heap.objs.size+1=l:=this;exact Nat.not_lt.mpr (iX _) (show s.heap.objs.size+1 < s.heap.objs.size by rw [t2];exact Vs)
  .intro b hb;rw [cm.mp hb];exact nz (aH _)
  .exact nz (by rw [U4];omega)
  .exact⟨_,bj _ (cJ _ rfl),rfl,rfl⟩
  .exact⟨ol,bj _ (bj _ h1),h2⟩
  exact λb o e=>bj _ (bj _ e)
 simp only [checkBuiltinCall,F.kind_min];cases JF:Manifest.signature? "min" with
 | none=>exact aK core
 | some sig =>
  have SY:Bind.checkArgs "min" sig ⟨[.ref l],[("key",.builtin "len"),("default",dv)]⟩=pure ():=by have:=ot (.ref l) (.builtin "len") dv;simpa only [argsOk,JF] using this
  simp only [SY];exact aK core
end
def qi (q8:List (List V)) (i:Nat):Int:=((q8[i]?.getD []).length:Int)
def Ex (q8:List (List V)):Nat:=argBest (λi j=>decide (qi q8 i < qi q8 j)) (q8.length - 1)
def Ma (K:aT)(t:TA)(td:TE):TE:=λσ H Q=>t σ H λvs H1=>td σ H1 λdv H2=>∃a ls q8,vs=[.ref a]/\aD K H2 a (ls.map V.ref)/\Paired (λl xs=>aD K H2 l xs) ls q8/\(ls=[]->Q dv H2)/\∀l,ls[Ex q8]?=some l->Q (.ref l) H2
def FD {X:Cx}{p pos lp RX DG:Pos}{e e2:Expr}{t:TA}{td:TE}(hc:X.calm=true)(hg:Gl X "min")(hm:X.mg "min"=none)(SG:Gl X "len")(Zp:X.mg "len"=none)(ha:PA X [e] t)(hd:PE X e2 td)
  (he:backTo pos (starEach [e] X.env)=(false,eval e X.env)::backTo pos (starEach [] X.env):=by rfl)(hp:(backTo pos (starEach [e] X.env)).any (·.1)=false:=by rfl) :
  PE X (.Call (.Name "min" p) [e] [⟨some "key",.Name "len" lp,RX⟩,⟨some "default",e2,DG⟩] pos) (Ma X.K t td):=by
 intro af s σ H Q I h;refine kQ (iG I hg hm boot_min ?_);refine callWith_kw (b8 (ha pos af s σ H _ I h) λus s1 aR=>?_) he hp rfl rfl;obtain⟨vs,H1,I1,r1,q1⟩:=aR;refine kws_cons (iG I1 SG Zp kN (kws_cons (b8 (hd af s1 σ H1 _ I1 q1) λu2 s2 aR=>?_)));obtain⟨dv,H2,I2,r2,a,ls,q8,ev,hs,hx,q0,q⟩:=aR;refine kws_nil ?_;subst ev;obtain⟨u,rfl,rx⟩:=vals1 r1;cases (show u=Value.ref a from rx);obtain⟨aL,rv,pl,hz⟩:=I2.list hs;cases Sx:ls with
 | nil =>
  rw [Sx] at rv;cases rv;exact rB (I2.ok.hd hc) pl.isList λh' tk kk=>⟨dv,H2,I2.kept (t':=tk) kk,r2,q0 Sx⟩
 | cons l0 lr =>
  have hn:=kb;have lx:=bF hx;have li:=rv.length;rw [az] at li;have l1:0 < ls.length:=by rw [Sx];simp
  refine u7 (ns:=qi q8) (I2.ok.hd hc) pl.isList (λi v s3 Q3 E3 ev sub hQ=>?_) (by rw [bI];omega) (λv h' tk ev sub=>?_)
  .replace ev:aL.toArray[i]?=some v:=ev;rw [List.getElem?_toArray] at ev;obtain⟨x,ex,rx⟩:=Paired.at_ rv _ _ ev;rw [bh] at ex;obtain⟨l,el,rfl⟩:=bR.mp ex;cases (show v=Value.ref l from rx);have lli:=(ba.mp el).1;obtain⟨xs,Wh⟩:∃xs,q8[i]?=some xs:=⟨_,dJ ∅⟩;obtain⟨l',Kt,xb⟩:=Paired.at_ hx i xs Wh;rw [el] at Kt;cases Kt;obtain⟨VA,rj,pj,hj⟩:=I2.list xb;have lj:=rj.length;refine Calls.call_len_list (items:=VA.toArray) (pj.isList.at λo e=>sub _ o e) (by simp only [bI] <;> omega) ?_
   have:qi q8 i=(VA.toArray.size:Int):=by
    unfold qi;rw [Wh,bI];show (xs.length:Int)=_;omega
   rw [<-this];exact hQ _ _
  rw [bI,List.getElem?_toArray] at ev;have eb:argBest (λi j=>decide (qi q8 i < qi q8 j)) (aL.length - 1)=Ex q8:=by
   unfold Ex;rw [show aL.length=q8.length by omega]
  rw [eb] at ev;obtain⟨x,ex,rx⟩:=Paired.at_ rv _ _ ev;rw [bh] at ex;obtain⟨l,el,rfl⟩:=bR.mp ex;exact⟨.ref l,H2,I2.kept (t':=tk) sub,rx,q l el⟩
end L2
namespace eG
open PySem L2 M11
section
def Qg (aa:List av)(st:Str->List (Nat×Nat))(n z:Str):Prop:=∃e∈st n,∃ru,aa[e.1]?=some ru/\ru.2[e.2]?=some z
inductive iT (aa:List av)(st:Str->List (Nat×Nat))(n:Str):Str->Prop
 | one {z:Str}:Qg aa st n z->iT aa st n z
 | more {y z:Str}:iT aa st n y->Qg aa st y z->iT aa st n z
def B5 (K:aT)(H:Hp)(l:Addr) (n:Nat):Prop:=∃(ts:List Addr)(ps:List (Nat×Nat)),H l=some (.lst (ts.map V.ref))/\Paired (λt (p:Nat×Nat)=>aX K H t [.int (p.1:Int),.int (p.2:Int)]) ts ps/\(∀p∈ps,p.1<=1000/\p.2<=1000)/\ts.length<=n
def BN (K:aT)(H:Hp)(l:Addr):Prop:=∃(t:Addr)(ts:List Addr)(ps:List (Nat×Nat)),H l=some (.lst ((t::ts).map V.ref))/\Paired (λt (p:Nat×Nat)=>aX K H t [.int (p.1:Int),.int (p.2:Int)]) (t::ts) ps/\(∀p∈ps,p.1<=1000/\p.2<=1000)/\ps.length<=1000
def W8 (aa:List av) (names:List Str)(st:Str->List (Nat×Nat)):Prop:=∀n∈names,∀e∈st n,∃ru z,aa[e.1]?=some ru/\ru.2[e.2]?=some z/\z∈names
def Co (K:aT):Sp:=λvs H Q _=>∃(R d:Addr)(rs:List Addr)(aa:List av)(ps:List (Str×Addr))(st:Str->List (Nat×Nat))(name:Str),vs=[.ref R,.ref d,.str name]/\aD K H R (rs.map V.ref)/\bN K H rs aa/\aa.length<=1000/\(∀ru∈aa,ru.2.length<=8) /\
 BZ K ps st H d/\ps.length<=1000/\name∈ps.map (·.1)/\W8 aa (ps.map (·.1)) st/\∀(D:Addr)(H':Hp),H D=none->aB H H'->(¬iT aa st name name->H' D=some (.lst [])->Q (.ref D) H')/\(BN K H' D->Q (.ref D) H')
structure GQ (K:aT) (names:List Str)(name:Str)(H H5:Hp)(D m:Addr)(g9:List Addr)(fK:List (Str×Addr)) (ms:List Str)(kvs:List (aF×V)):Prop where
 sm:aB H H5
 hD:H5 D=some (.lst (g9.map V.ref))
 hm:H5 m=some (.dK kvs)
 keys:kvs.map (·.1)=ms.map Sum.inr
 nd:(name::ms).Nodup
 sub:∀x∈name::ms,x∈names
 wl:fK.map (·.1)=name::ms
 wv:Paired (λt (e:Str×Addr)=>aX K H5 t [.str e.1,.ref e.2]) g9 fK
 we:∀i e,fK[i]?=some e->B5 K H5 e.2 i/\e.2≠D
def GQ.len {names:List Str}{name:Str}{H H5:Hp}{D m:Addr}{g9:List Addr}{fK:List (Str×Addr)}{ms:List Str}{kvs:List (aF×V)}(h:GQ K names name H H5 D m g9 fK ms kvs):g9.length=fK.length/\kvs.length=ms.length/\fK.length=ms.length+1/\fK.length<=names.length:=by
 have a:=congrArg List.length h.keys;have b:=congrArg List.length h.wl;have c:=dZ _ _ h.nd h.sub;simp only [az,dw] at a b c;exact⟨bF h.wv,a,b,∅⟩
def B5.same {H H':Hp}{l:Addr}{n:Nat}(h:B5 K H l n)(s:aB H H'):B5 K H' l n:=let ⟨ts,ps,a,b,c,d⟩:=h;⟨ts,ps,s _ _ a,Paired.d_ b λ_ _ z=>s.tup z,c,d⟩
def BN.same {H H':Hp}{l:Addr}(h:BN K H l)(s:aB H H'):BN K H' l:=let ⟨t,ts,ps,a,b,c,d⟩:=h;⟨t,ts,ps,s _ _ a,Paired.d_ b λ_ _ z=>s.tup z,c,d⟩
def B5.LV {H:Hp}{l D:Addr}{n:Nat}{xs ys:List V}(h:B5 K H l n)(hD:H D=some (.lst xs))(ne:l≠D):B5 K (upd H D (.lst ys)) l n:=let ⟨ts,ps,a,b,c,d⟩:=h;⟨ts,ps,by rw [ai ne];exact a,Paired.d_ b λ_ _ z=>aW hD z,c,d⟩
def B5.Qz {H:Hp}{l D:Addr}{n:Nat}{xs ys:List (aF×V)}(h:B5 K H l n)(hD:H D=some (.dK xs)):B5 K (upd H D (.dK ys)) l n:=let ⟨ts,ps,a,b,c,d⟩:=h;⟨ts,ps,by rw [ai (λz=>by rw [z,hD] at a;cases a)];exact a,Paired.d_ b λ_ _ z=>dQ hD z,c,d⟩
def GQ.more {names:List Str}{name z:Str}{H H5 H9:Hp}{D m t c:Addr}{g9:List Addr}{fK:List (Str×Addr)}{ms:List Str}{kvs:List (aF×V)}(h:GQ K names name H H5 D m g9 fK ms kvs)(fD:H D=none)(fm:H m=none)
  (hz:z∈names)(hn:z∉ms)(Bd:z≠name)(s:aB (upd H5 m (.dK (bc kvs (Sum.inr z) (.bl true)))) H9)(ht:aX K H9 t [.str z,.ref c])(hc:B5 K H9 c fK.length)(nc:c≠D) :
  GQ K names name H (upd H9 D (.lst (g9.map V.ref++[.ref t]))) D m (g9++[t]) (fK++[(z,c)]) (ms++[z]) (bc kvs (Sum.inr z) (.bl true)):=by
 have Jn:D≠m:=λe=>by have:=h.hD;rw [e,h.hm] at this;cases this
 have xf:H9 D=some (.lst (g9.map V.ref)):=s _ _ (by rw [ai Jn];exact h.hD);have Sw:H9 m=some (.dK (bc kvs (Sum.inr z) (.bl true))):=s _ _ ae;refine⟨λb o hb=>?_,by rw [ae,br];rfl,by rw [ai Jn.symm];exact Sw,?_,?_,?_,?_,?_,?_⟩
 .rw [ai (λe=>by rw [e,fD] at hb;cases hb)];exact s _ _ (by rw [ai (λe=>by rw [e,fm] at hb;cases hb)];exact h.sm b o hb)
 .rw [gA (by rw [h.keys];exact λe=>hn (cw.mp e)),h.keys,br];rfl
 .rw [<-pE];refine iK.mpr ⟨h.nd,by simp,λa ha b hb e=>?_⟩;rw [cm.mp hb] at e;subst e;rcases bC.mp ha with x | x
  .exact Bd x
  exact hn x
 .intro x Lg;rw [<-pE] at Lg;rcases cq.mp Lg with e | e
  .exact h.sub x e
  rw [cm.mp e];exact hz
 .rw [br,h.wl];rfl
 .exact eW (Paired.d_ h.wv λ_ _ e=>aW xf (s.tup (dQ h.hm e))) (aW xf ht)
 intro i e he;rw [List.getElem?_append] at he
 split at he
 .obtain⟨a,b⟩:=h.we i e he;exact⟨((a.Qz h.hm).same s).LV xf b,b⟩
 have li:=(ba.mp he).1;have i0:i - fK.length=0:=by simp at li;omega
 rw [i0] at he;simp at he;subst he;have:i=fK.length:=by omega
 rw [this];exact⟨hc.LV xf nc,nc⟩
def Ik (aa:List av)(st:Str->List (Nat×Nat))(name:Str) (ms:List Str) (at_:Nat):Prop:=∀n∈(name::ms).take at_,∀z,Qg aa st n z->z∈ms
def Ik.more {aa:List av}{st:Str->List (Nat×Nat)}{name x:Str}{ms:List Str}{at_:Nat}(h:Ik aa st name ms at_)(le:at_<=ms.length+1):Ik aa st name (ms++[x]) at_:=λn hn z hz=>by
 rw [<-pE,rL (by simpa using le)] at hn;exact i4 _ (h n hn z hz)
def Ik.all {aa:List av}{st:Str->List (Nat×Nat)}{name:Str}{ms:List Str}{at_:Nat}(h:Ik aa st name ms at_)(ge:ms.length+1<=at_)(nd:(name::ms).Nodup):¬iT aa st name name:=by
 have tk:(name::ms).take at_=name::ms:=List.take_of_length_le (by simpa using ge);have:∀z,iT aa st name z->z∈ms:=λz hz=>by
  induction hz with
  | one s=>exact h name (by rw [tk];exact bZ) _ s
  | more _ s ih=>exact h _ (by rw [tk];exact bJ _ ih) _ s
 exact λz=>(jP.mp nd).1 (this name z)
def FK (F:iq K "way_back" "way_back" IP f fd)(T:Txt mg):bf P w K mg base fk 1 f fd ["rules","steps","name"] (Co K):=by
 refine F.ok kX (λvs H Q E h=>?_) (λdr A outer s H vs Q E hr h=>?_)
 .obtain⟨R,d,rs,aa,ps,st,name,rfl,_⟩:=h;rfl
 obtain⟨R,d,rs,aa,ps,st,name,rfl,hR,df,aZ,h8,S,NA,jV,Gb,q⟩:=h;have hu:=f_ hr;refine⟨_,aj (aI (i:=3) kX.nd rfl (bM rfl) (bQ (ah (cy (ah (pv 2) (ah (bQ ak) ak))) ak)))
  (aj (aI (i:=4) kX.nd rfl (bM rfl) fZ)
  (aj (aI (i:=5) kX.nd rfl (bM rfl) aA)
  (aj (jj cS (bT sk (pv 5) (bL d8 rfl T.len kN (ah (pv 3) ak)) (cE _))
   (aj (aI (i:=6) kX.nd rfl (bM rfl) (bz cO (bz cH (pv 3) (pv 5) (λ_ _=>rfl)) aA (λ_ _=>rfl)))
   (aj (cx cS rfl (a8 (dY hu (pv 1) (bz cO (bz cH (pv 3) (pv 5) (λ_ _=>rfl)) aA (λ_ _=>rfl)) (λ_ _=>rfl))) (eJ rfl (aC (ar (i:=7) kX.nd rfl (bM rfl)) (aC (ar (i:=8) kX.nd rfl (bM rfl)) bW)))
    (aj (aI (i:=9) kX.nd rfl (bM rfl) (bz cO (bz cO (bz cH (pv 0) (pv 7) (λ_ _=>rfl)) aA (λ_ _=>rfl)) (pv 8) (λ_ _=>rfl)))
    (aj (de (bT Dd (pv 9) (pv 2) (cE _)) (aq (bO (bK De (pv 6) (bQ (ah (cy (ah (pv 7) (ah (pv 8) ak))) ak))))) bx)
    (aq (de (eI (dH hu (pv 9) (pv 4)))
     (aj (gT hu (pv 4) (pv 9) gw rfl) (aq (cD (hZ iN i6 i7 cN (pv 3) (ah (cy (ah (pv 9) (ah (bK De (pv 6) (bQ (ah (cy (ah (pv 7) (ah (pv 8) ak))) ak))) ak))) ak))))) bx)))))
   (aq (Ja (i:=5) kX.nd rfl (bM rfl) aA JB)))))
  (aq (bO (bQ ak)))))),?_⟩
 nofun
 have ni:(ps.map (·.1)).length=ps.length:=az _;refine⟨_,rfl,pL,λl0 PH=>?_⟩;have s1:=ag PH (.lst []);have e1:upd H l0 (.lst []) l0=some (.lst []):=ae;generalize upd H l0 (.lst [])=H1 at s1 e1;refine⟨ou,λt0 Za=>?_⟩;have s2:=ag Za (.tup [.str name,.ref l0]);have e2:aX K (upd H1 t0 (.tup [.str name,.ref l0])) t0 [.str name,.ref l0]:=aX.of ae;generalize upd H1 t0 (.tup [.str name,.ref l0])=H2 at s2 e2;refine⟨Ip,λD hD=>?_⟩;have s3:=ag hD (.lst [.ref t0]);have e3:upd H2 D (.lst [.ref t0]) D=some (.lst ([t0].map V.ref)):=ae;have Yb:l0≠D:=ao (s2 _ _ e1) hD;generalize upd H2 D (.lst [.ref t0])=H3 at s3 e3;intro m hm;have s4:=ag hm (.dK []);have e4:upd H3 m (.dK []) m=some (.dK []):=ae;generalize upd H3 m (.dK [])=H4 at s4 e4;have fD:H D=none:=(s1.trans s2).free hD;have fm:H m=none:=((s1.trans s2).trans s3).free hm;have W0:GQ K (ps.map (·.1)) name H H4 D m [t0] [(name,l0)] [] []:=⟨((s1.trans s2).trans s3).trans s4,s4 _ _ e3,e4,rfl,by simp,by simpa using jV,rfl,.cons ((s3.trans s4).tup e2) .nil,λi e he=>by
  have li:=(ba.mp he).1;have i0:i=0:=by simp at li;omega
  rw [i0] at he;simp at he;subst he;exact⟨⟨[],[],s4 _ _ (s3 _ _ (s2 _ _ e1)),.nil,by simp,by simp⟩,Yb⟩⟩
 refine⟨λmm σ H5=>∃(g9:List Addr)(fK:List (Str×Addr)) (ms:List Str)(kvs:List (aF×V)) (at_:Nat)(y6 y7 y8 y9:Option V),σ=[bu R,bu d,some (.str name),bu D,bu m,some (.int (at_:Int)),y6,y7,y8,y9]/\GQ K (ps.map (·.1)) name H H5 D m g9 fK ms kvs /\
  Ik aa st name ms at_/\at_<=fK.length/\mm=1002 - at_,⟨1002,[t0],[(name,l0)],[],[],0,none,none,none,none,rfl,W0,λn hn=>by simp at hn,by simp,rfl⟩,?_⟩
 rintro mm σ H5 ⟨g9,fK,ms,kvs,at_,y6,y7,y8,y9,rfl,W,kF,V5,rfl⟩;obtain⟨lw,lk,YC,lm⟩:=W.len;refine⟨_,rfl,_,rfl,D,_,rfl,.inl (aD.of W.hD),_,_,rfl,rfl,_,rfl,?_⟩;refine dW (λc=>?_) (λc=>?_)
 .have c':=eh c;rw [az,lw] at c';have iu:at_ < fK.length:=by omega
  obtain⟨n,l,en⟩:∃n l,fK[at_]?=some (n,l):=⟨(fK[at_]).1,(fK[at_]).2,dJ iu⟩;obtain⟨t1,et1,Pw⟩:=Paired.at_ W.wv at_ (n,l) en;have WN:rC (g9.map V.ref) (at_:Int)=some (.ref t1):=dq (by rw [bh,et1];rfl);have Wt:(name::ms)[at_]?=some n:=by rw [<-W.wl,bh,en];rfl
  have hn:n∈ps.map (·.1):=W.sub n (cR Wt);obtain⟨pn,wb,xj⟩:=b_.mp hn;have vn:=fu ps S.n1 pn wb;rw [xj] at vn;obtain⟨UW,an,bn⟩:=S.lst pn wb;rw [xj] at bn;refine⟨λσ H5=>∃(g9:List Addr)(fK:List (Str×Addr)) (ms:List Str)(kvs:List (aF×V))(y6 y7 y8 y9:Option V),σ=[bu R,bu d,some (.str name),bu D,bu m,some (.int ((at_+1:Nat):Int)),y6,y7,y8,y9]/\GQ K (ps.map (·.1)) name H H5 D m g9 fK ms kvs/\Ik aa st name ms (at_+1)/\at_+1<=fK.length,?_,?_⟩
  .rintro σ H6 ⟨g9,fK,ms,kvs,y6,y7,y8,y9,rfl,W2,c2,h2⟩;exact⟨1002 - (at_+1),∅,g9,fK,ms,kvs,at_+1,_,_,_,_,rfl,W2,c2,h2,rfl⟩
  refine⟨_,rfl,_,rfl,D,_,_,_,rfl,rfl,aD.of W.hD,WN,t1,_,_,_,rfl,rfl,Pw,rfl,?_⟩;have hg:bV H5 d (.str n) (some (.ref pn.2)):=by
   have:=bV.r (k:=Sum.inr n) (Rd.same S.hd W.sm);rw [vn] at this;exact this
  refine⟨_,rfl,_,rfl,_,rfl,D,_,_,_,rfl,rfl,aD.of W.hD,WN,t1,_,_,_,rfl,rfl,Pw,rfl,d,_,rfl,hg,pn.2,rfl,⟨_,aD.of (W.sm _ _ an)⟩,?_⟩
  let wV:vp:=λi σ H6=>∃(g9:List Addr)(fK:List (Str×Addr)) (ms:List Str)(kvs:List (aF×V))(y7 y8 y9:Option V),σ=[bu R,bu d,some (.str name),bu D,bu m,some (.int (at_:Int)),bu l,y7,y8,y9]/\GQ K (ps.map (·.1)) name H H6 D m g9 fK ms kvs /\
   Ik aa st name ms at_/\(∀e∈(st n).take i,∀ru z,aa[e.1]?=some ru->ru.2[e.2]?=some z->z∈ms)/\at_+1<=fK.length/\fK[at_]?=some (n,l)/\(name::ms)[at_]?=some n
  refine dG (xs:=UW.map V.ref) wV ⟨g9,fK,ms,kvs,_,_,_,rfl,W,kF,(λe he=>by simp at he),iu,en,Wt⟩ ?_ ?_ ?_
  .rintro i σ H6 _ ⟨g9,fK,ms,kvs,y7,y8,y9,rfl,W2,_⟩;exact aD.of (W2.sm _ _ an)
  .rintro i x σ H6 ex ⟨g9,fK,ms,kvs,y7,y8,y9,rfl,W2,c2,ci,h2,PZ,Gw⟩
   ac_nf0
   rw [bh] at ex;obtain⟨ti,Wk,rfl⟩:=bR.mp ex;have Vv:=bF bn;have lti:=(ba.mp Wk).1;obtain⟨⟨k,j⟩,TL⟩:∃e,(st n)[i]?=some e:=⟨(st n)[i]'∅,dJ ∅⟩;obtain⟨ti',Oe,Y_⟩:=Paired.at_ bn i (k,j) TL;rw [Wk] at Oe;cases Oe;obtain⟨ru,z,er,ez,hz⟩:=Gb n hn (k,j) (cR TL);have M4:k<=1000:=by have:=(ba.mp er).1;omega
   have Vu:j<=1000:=by
    have a:=(ba.mp ez).1;have b:=h8 ru (cR er);omega
   have cin:∀{og:List Str},(∀x∈ms,x∈og)->z∈og->∀e∈(st n).take (i+1),∀ru z,aa[e.1]?=some ru->ru.2[e.2]?=some z->z∈og:=λ{og} sb R_ e he w5 z' BV E8=>by
    rw [cu,TL] at he;rcases cq.mp he with h | h
    .exact sb _ (ci e h w5 z' BV E8)
    cases (cm.mp h:e=(k,j));rw [er] at BV;cases BV;rw [ez] at E8;cases E8;exact R_
   obtain⟨r,Ly,p,v1,v2⟩:=Paired.at_ df k ru er;have atr:rC (rs.map V.ref) (k:Int)=some (.ref r):=dq (by rw [bh,Ly];rfl);have Uu:rC (ru.2.map V.str) (j:Int)=some (.str z):=dq (by rw [bh,ez];rfl);obtain⟨lw2,Pr,Vr,YH⟩:=W2.len;refine⟨ti,_,rfl,W2.sm.tup Y_,rfl,_,_,rfl,_,_,rfl,rfl,?_⟩;refine⟨_,rfl,_,rfl,R,_,_,_,rfl,rfl,W2.sm.seq hR,atr,r,_,_,_,rfl,rfl,W2.sm.tup v1,rfl,_,rfl,p,_,_,_,rfl,rfl,W2.sm.tup v2,Uu,?_⟩;refine⟨_,rfl,_,rfl,rfl,_,rfl,?_⟩;obtain⟨⟨jR,ME,om,Pm,Vd,AN⟩,Rq⟩:=W2.we at_ (n,l) PZ;dsimp only at om Pm Rq;have YF:=bF Pm;refine dW (λc=>?_) (λc=>?_)
   .refine⟨_,rfl,_,rfl,_,rfl,ou,λt4 yJ=>?_⟩;have My:=ag yJ (.tup [.int (k:Int),.int (j:Int)]);have Ov:aX K (upd H6 t4 (.tup [.int (k:Int),.int (j:Int)])) t4 [.int (k:Int),.int (j:Int)]:=aX.of ae;generalize upd H6 t4 (.tup [.int (k:Int),.int (j:Int)])=H7 at My Ov;refine⟨Ip,λl4 Sz=>?_⟩;have IW:=ag Sz (.lst [.ref t4]);have Ou:upd H7 l4 (.lst [.ref t4]) l4=some (.lst [.ref t4]):=ae;generalize upd H7 l4 (.lst [.ref t4])=H8 at IW Ou;have IX:=My.trans IW;refine⟨l,l4,jR.map V.ref,[.ref t4],rfl,rfl,IX _ _ om,Ou,fits (by simp;omega),λc0 NW=>?_⟩;have IV:=ag NW (.lst (jR.map V.ref++[.ref t4]));have LI:upd H8 c0 (.lst (jR.map V.ref++[.ref t4])) c0=some (.lst ((jR++[t4]).map V.ref)):=by rw [ae,br];rfl
    generalize upd H8 c0 (.lst (jR.map V.ref++[.ref t4]))=H9 at IV LI;have sA:=IX.trans IV;refine(q c0 H9 ((W2.sm.trans IX).free NW) (W2.sm.trans sA)).2 ?_;have Pk:=eW (Paired.d_ Pm λ_ _ z=>sA.tup z) (b:=(k,j)) ((IW.trans IV).tup Ov);obtain⟨t',K3,e'⟩:∃t' K3,jR++[t4]=t'::K3:=by cases jR with
     | nil=>exact⟨_,_,rfl⟩
     | cons a b=>exact⟨_,_,rfl⟩
    rw [e'] at LI Pk;refine⟨t',K3,ME++[(k,j)],LI,Pk,λp hp=>?_,by rw [cC];simp;omega⟩;rcases cq.mp hp with h | h
    .exact Vd p h
    rw [cm.mp h];exact⟨M4,Vu⟩
   have nz:z≠name:=λe=>by rw [e] at c;exact absurd (dO rfl) c
   have mem:(aV kvs (Sum.inr z)).isSome=true↔z∈ms:=by rw [dM,W2.keys];exact cw
   refine⟨_,rfl,_,rfl,m,_,rfl,bV.k (k:=Sum.inr z) W2.hm,_,rfl,?_⟩;refine dW (λc=>?_) (λc=>?_)
   .have nm:z∉ms:=λh=>by rw [mem.mpr h] at c;exact absurd c nofun
    refine⟨_,rfl,_,rfl,m,_,rfl,nJ.k (k:=Sum.inr z) W2.hm (bA ∅),?_⟩;have Jn:D≠m:=λe=>by have:=W2.hD;rw [e,W2.hm] at this;cases this
    have X8:l≠m:=λe=>by rw [e,W2.hm] at om;cases om
    have Kb:upd H6 m (.dK (bc kvs (Sum.inr z) (.bl true))) D=some (.lst (g9.map V.ref)):=by rw [ai Jn];exact W2.hD
    have Zq:upd H6 m (.dK (bc kvs (Sum.inr z) (.bl true))) l=some (.lst (jR.map V.ref)):=by rw [ai X8];exact om
    refine⟨_,rfl,.inl ⟨rfl,_,aD.of Kb⟩,_,rfl,_,rfl,_,rfl,_,rfl,ou,λt4 yJ=>?_⟩;have My:=ag yJ (.tup [.int (k:Int),.int (j:Int)]);have Ov:aX K (upd (upd H6 m (.dK (bc kvs (Sum.inr z) (.bl true)))) t4 (.tup [.int (k:Int),.int (j:Int)])) t4 [.int (k:Int),.int (j:Int)]:=aX.of ae;generalize upd (upd H6 m (.dK (bc kvs (Sum.inr z) (.bl true)))) t4 (.tup [.int (k:Int),.int (j:Int)])=H7 at My Ov;refine⟨Ip,λl4 Sz=>?_⟩;have IW:=ag Sz (.lst [.ref t4]);have Ou:upd H7 l4 (.lst [.ref t4]) l4=some (.lst [.ref t4]):=ae;generalize upd H7 l4 (.lst [.ref t4])=H8 at IW Ou;have IX:=My.trans IW;refine⟨l,l4,jR.map V.ref,[.ref t4],rfl,rfl,IX _ _ Zq,Ou,fits (by simp;omega),λc0 NW=>?_⟩;have IV:=ag NW (.lst (jR.map V.ref++[.ref t4]));have LI:upd H8 c0 (.lst (jR.map V.ref++[.ref t4])) c0=some (.lst ((jR++[t4]).map V.ref)):=by rw [ae,br];rfl
    have Yg:c0≠D:=(ao (IX _ _ Kb) NW).symm;generalize upd H8 c0 (.lst (jR.map V.ref++[.ref t4]))=H9 at IV LI;refine⟨ou,λt5 Np=>?_⟩;have Pc:=ag Np (.tup [.str z,.ref c0]);have WH:aX K (upd H9 t5 (.tup [.str z,.ref c0])) t5 [.str z,.ref c0]:=aX.of ae;generalize upd H9 t5 (.tup [.str z,.ref c0])=vf at Pc WH;have sA:=(IX.trans IV).trans Pc;refine⟨D,_,_,rfl,rfl,sA _ _ Kb,bA (by rw [az];omega),?_⟩;have Pk:=eW (Paired.d_ Pm λ_ _ z=>sA.tup (dQ W2.hm z)) (b:=(k,j)) (((IW.trans IV).trans Pc).tup Ov);have hP:B5 K vf c0 fK.length:=⟨jR++[t4],ME++[(k,j)],Pc _ _ LI,Pk,λp hp=>by
     rcases cq.mp hp with h | h
     .exact Vd p h
     rw [cm.mp h];exact⟨M4,Vu⟩,by rw [cC];simp;omega⟩
    exact⟨g9++[t5],fK++[(z,c0)],ms++[z],_,_,_,_,rfl,W2.more fD fm hz nm nz sA WH hP Yg,c2.more ∅,cin (λx hx=>i4 _ hx) (eZ _ (cm.mpr rfl)),by rw [cC];omega,by rw [nW ∅];exact PZ,by rw [<-pE,nW (by simp;omega)];exact Gw⟩
   have Nj:z∈ms:=mem.mp (by cases e:(aV kvs (Sum.inr z)).isSome with
    | true=>rfl
    | false=>rw [e] at c;exact absurd rfl c)
   exact⟨g9,fK,ms,kvs,_,_,_,rfl,W2,c2,cin (λ_ hx=>hx) Nj,h2,PZ,Gw⟩
  rintro σ H6 ⟨g9,fK,ms,kvs,y7,y8,y9,rfl,W2,c2,ci,h2,PZ,Gw⟩;refine⟨_,rfl,_,_,rfl,rfl,g9,fK,ms,kvs,_,_,_,_,rfl,W2,λx hx z hz=>?_,h2⟩;rw [cu,Gw] at hx;rcases cq.mp hx with h | h
  .exact c2 x h z hz
  cases (cm.mp h:x=n);obtain⟨e,he,ru,e1,e2⟩:=hz;have Vv:=bF bn;exact ci e (by rw [az,Vv,cb];exact he) ru z e1 e2
 have c':=c;rw [decide_eq_true_iff] at c';rw [az,lw] at c';exact⟨pL,λD9 xf=>(q D9 _ (W.sm.free xf) (W.sm.trans (ag xf _))).1 (kF.all ∅ W.nd) ae⟩
end
def iT.trans {aa:List av}{st:Str->List (Nat×Nat)}{a b c:Str}(h:iT aa st a b)(g:iT aa st b c):iT aa st a c:=by
 induction g with
 | one s=>exact .more h s
 | more _ s ih=>exact .more ih s
open Classical in
def Fx {aa:List av}{st:Str->List (Nat×Nat)}{aQ:List (Str×Nat)}(em:qX aa aQ)(ec:nI aa aa.length aQ)(hits:∀n k j,n∈hd aa->((k,j)∈st n↔KU aa (hd aa) (λz=>decide (z∈aQ.map (·.1))) n k j))(no:∀n∈hd aa,¬iT aa st n n) :
  iJ aa λn=>((hd aa).filter λx=>decide (iT aa st n x)).length:=by
 intro Gu em' P7 n k j hit ru z er ez;have ef:(λz=>decide (z∈Gu.map (·.1)))=λz=>decide (z∈aQ.map (·.1)):=funext λz=>decide_eq_decide.mpr ⟨λh=>yY ec (u4 em' z h),λh=>yY P7 (u4 em z h)⟩;rw [ef] at hit;obtain⟨w5,z',BV,en,E8,hz,_⟩:=id hit;rw [er] at BV;cases BV;rw [ez] at E8;cases E8;have hn:n∈hd aa:=by
  show n∈jK [] (aa.map (·.1));rw [dN];exact .inr (b_.mpr ⟨ru,cR er,en⟩)
 have U5:Qg aa st n z:=⟨(k,j),(hits n k j hn).mpr hit,ru,er,ez⟩;exact lV (p:=λx=>decide (iT aa st z x)) (q:=λx=>decide (iT aa st n x)) (λx hx=>dO ((iT.one U5).trans (eh hx))) hz (dO (.one U5)) (eM (no z hz))
def By {K:aT}{H:Hp}{p D:Addr}{ls:List Addr}{σ:St}{x:Str}{Qp:Hp->Prop}(hp:H p=some (.lst (ls.map V.ref)))(hl:∀l∈ls,H l=some (.lst [])\/BN K H l)(hn:ls.length<=1000)(hD:H D=none)
  (q:∀H2 ks,aB H H2->H2 D=some (.lst (ks.map V.ref))->(∀l∈ks,l∈ls/\BN K H l)->(ks=[]->∀l∈ls,H l=some (.lst []))->Qp H2) :
  ∃W:Nat->Nat->List V->St->Hp->Prop,(∃m,W 0 m [] (cZ [x] [] σ) (upd H D (.lst []))) /\
 ∀i m ys σ' H,W i m ys σ' H->((iS K p).stop i H/\Qp H)\/((iS K p).go i H/\∃m',m' < m/\∀x H',(iS K p).kA i H x H'->cY 0 x σ' H' λσ2 H2=>e_ 0 σ2 H2 λx H'=>∃k,EH K x H' k/\(λb H3 =>
  if b=true then e_ 0 σ2 H3 λy H4=>H4 D=some (.lst ys)/\ys.length < sizeLine/\W (i+1) m' (ys++[y]) σ2 (upd H4 D (.lst (ys++[y]))) else W (i+1) m' ys σ2 H3) k H'):=by
 refine bH (tif:=λσ H Q=>e_ 0 σ H λx H'=>∃k,EH K x H' k/\Q k H') (xs:=ls.map V.ref) (λi ys σ2 H5=>(∃ks:List Addr,ys=ks.map V.ref/\ks.length<=i/\(∀l∈ks,l∈ls/\BN K H l)/\(ks=[]->∀l∈ls.take i,H l=some (.lst [])))/\(∃y0,σ2=[y0])/\aB H H5/\H5 D=some (.lst ys))
  ⟨⟨[],rfl,by simp,by simp,λ_ l hl=>by simp at hl⟩,⟨none,rfl⟩,ag hD _,ae⟩ (λi ys σ2 H5 _ h=>aD.of (h.2.2.1 _ _ hp)) (λi x ys σ2 H5 ex h=>?_) (λys σ2 H5 h=>?_)
 .obtain⟨⟨ks,rfl,hk,hm,he⟩,⟨y0,rfl⟩,s5,e5⟩:=h;rw [bh] at ex;obtain⟨l,el,rfl⟩:=bR.mp ex;have li:=(ba.mp el).1;have PB:=cR el;refine goN ?_;rcases hl l PB with hl | hl
  .refine⟨_,rfl,false,.inl ⟨[],aD.of (s5 _ _ hl),rfl⟩,?_⟩;refine gM ?_;refine⟨⟨ks,rfl,∅,hm,λz l' xb=>?_⟩,⟨_,rfl⟩,s5,e5⟩;rw [cu,el] at xb;rcases cq.mp xb with h | h
   .exact he z l' h
   cases (cm.mp h:l'=l);exact hl
  obtain⟨t,ts,ps,a,b,c,d⟩:=id hl;refine⟨_,rfl,true,.inl ⟨_,aD.of (s5 _ _ a),rfl⟩,?_⟩;refine qm ?_;refine⟨_,rfl,e5,bA (by rw [az];omega),⟨ks++[l],by rw [br];rfl,by rw [cC];simp;omega,λl' xb=>?_,λz=>by simp at z⟩,⟨_,rfl⟩,λb o hb=>?_,ae⟩
  .rcases cq.mp xb with h | h
   .exact hm l' h
   rw [cm.mp h];exact⟨PB,hl⟩
  rw [ai (λz=>by rw [z,hD] at hb;cases hb)];exact s5 b o hb
 obtain⟨⟨ks,rfl,hk,hm,he⟩,_,s5,e5⟩:=h;refine q H5 ks s5 e5 hm λz l xb=>he z l ?_;rw [az,cb];exact xb
section
def Dn (F:iq K "find_loop" "find_loop" CB f fd)(T:Txt mg)(GS:aM P w K mg base 2 "steps_with_like_rows" ["rules"] (zD K))(GW:aM P w K mg base 1 "way_back" ["rules","steps","name"] (Co K)):bf P w K mg base fk 3 f fd ["rules"] (zG K):=by
 refine F.ok xH (λvs H Q E h=>?_) (λdr A outer s H vs Q E hr h=>?_)
 .obtain⟨R,rs,aa,rfl,_⟩:=h;rfl
 obtain⟨R,rs,aa,rfl,hR,df,aZ,h8,q⟩:=h;refine⟨_,aj (aI (i:=1) xH.nd rfl (Or.inr rfl) (cv GS hr rfl (ah (pv 0) ak)))
  (aj (gS (iy:=2) ["name"] [(0,"rules"),(1,"steps")] xH.nd rfl rfl rfl (zV (pv 1)) (a9 rfl rfl) nofun rfl nofun
   (λ_ _ _ _ _=>ar (i:=0) (show (["name","rules","steps"]:List Str).Nodup by decide +kernel) rfl (bM rfl)) (λ_ _ _ _ _=>b9)
   (λ_ _ _ _ _=>cv (GW.mono (by decide:1<=2)) hr rfl (ah (pv 1) (ah (pv 2) (ah (pv 0) ak)))))
  (aq (bO (FD rfl rfl T.min rfl T.len (ah (bq ["loop"] [] rfl (a8 (pv 2)) (a9 rfl rfl) nofun rfl nofun
   (λ_ _ _ _ _=>ar (i:=0) (show (["loop"]:List Str).Nodup by decide +kernel) rfl (bM rfl)) (λ_ _ _ _ _=>fO (AL K (pv 0) (λ_=>rfl))) (λ_ _ _ _ _=>pv 0)) ak) (bQ ak))))),?_⟩
 nofun
 refine⟨_,rfl,R,rs,aa,rfl,hR,df,aZ,h8,λd ps st aQ H1 fd1 s1 e1 S1 m1 Lw emp Bp hits=>?_⟩;have YG:ps.length<=1000:=by
  have h1:=congrArg List.length m1;have h2:=fg (aa.map (·.1)) [];simp only [gO,az] at h2;rw [az] at h1;have h3:(hd aa).length=(jK [] (aa.map (·.1))).length:=rfl;omega
 have ZK:W8 aa (ps.map (·.1)) st:=λn hn e he=>by
  rw [m1] at hn ⊢;have hit:=(hits n e.1 e.2 hn).mp he;obtain⟨ru,z,er,_,ez,hz,_⟩:=id hit;exact⟨ru,z,er,ez,hz⟩
 refine⟨_,rfl,d,_,rfl,e1,λo D hD=>?_⟩;have Rk:∀p∈ps,p.2≠d:=λp hp z=>by
  obtain⟨ts,a,_⟩:=S1.lst p hp;rw [z,e1] at a;cases a
 have s2:aB H (upd H1 d (.iV o (.dK (ps.map ir)))):=λb u hb=>by
  rw [ai (λz=>by rw [z,fd1] at hb;cases hb)];exact s1 b u hb
 have S2:BZ K ps st (upd H1 d (.iV o (.dK (ps.map ir)))) d:=⟨.inr ⟨o,ae⟩,S1.n1,S1.n2,λp hp=>by
  obtain⟨ts,a,b⟩:=S1.lst p hp;exact⟨ts,by rw [ai (Rk p hp)];exact a,Paired.d_ b λ_ _ z=>dQ e1 z⟩⟩
 have e2:upd H1 d (.iV o (.dK (ps.map ir))) d=some (.iV o (.dK (ps.map ir))):=ae;generalize upd H1 d (.iV o (.dK (ps.map ir)))=H2 at hD s2 S2 e2 ⊢;refine qN (λi ys σ2 H3=>∃ls:List Addr,ys=ls.map V.ref/\Paired (λl n=>H2 l=none/\l≠D/\((H3 l=some (.lst [])/\¬iT aa st n n)\/BN K H3 l)) ls ((ps.map (·.1)).take i)/\(∃y0,σ2=[y0,bu R,bu d])/\aB H2 H3/\H3 D=some (.lst ys))
  ⟨[],rfl,.nil,⟨none,rfl⟩,ag hD _,ae⟩ (λi ys σ2 H3 _ h=>?_) (λi kv ys σ2 H3 ex h=>?_) (λys σ2 H3 h=>?_)
 .obtain⟨_,_,_,_,sm,_⟩:=h;exact sm _ _ e2
 .obtain⟨ls,rfl,hl,⟨y0,rfl⟩,sm,gi⟩:=h;rw [bh] at ex;obtain⟨p,ep,rfl⟩:=bR.mp ex;have hp:=cR ep;have li:=(ba.mp ep).1;have RN:=bF hl;rw [dI] at RN;refine goN (wm ?_);have s3:=s2.trans sm;have fin:∀D4 H4,H3 D4=none->aB H3 H4->((H4 D4=some (.lst [])/\¬iT aa st p.1 p.1)\/BN K H4 D4)->H4 D=some (.lst (ls.map V.ref))/\(ls.map V.ref).length < sizeLine/\∃La:List Addr,ls.map V.ref++[V.ref D4]=La.map V.ref/\Paired (λl n=>H2 l=none/\l≠D/\((upd H4 D (.lst (ls.map V.ref++[.ref D4])) l=some (.lst [])/\¬iT aa st n n)\/BN K (upd H4 D (.lst (ls.map V.ref++[.ref D4]))) l)) La ((ps.map (·.1)).take (i+1))/\aB H2 (upd H4 D (.lst (ls.map V.ref++[.ref D4]))):=λD4 H4 f4 s4 e4=>by
   have q_:=s4 _ _ gi;have RB:D4≠D:=λz=>by rw [z,gi] at f4;cases f4
   have pn:∀{l:Addr},l≠D->BN K H4 l->BN K (upd H4 D (.lst (ls.map V.ref++[.ref D4]))) l:=λne ⟨t,ts,ps,a,b,c,d⟩=>⟨t,ts,ps,by rw [ai ne];exact a,Paired.d_ b λ_ _ z=>aW q_ z,c,d⟩;refine⟨q_,bA (by rw [az];omega),ls++[D4],by rw [br];rfl,?_,λb u hb=>?_⟩
   .rw [cu,bh,ep];refine eW (Paired.d_ hl λl n aR=>?_) ⟨?_,RB,e4.elim (λ⟨c1,c2⟩=>.inl ⟨by rw [ai RB];exact c1,c2⟩) λc=>.inr (pn RB c)⟩;obtain⟨a,b,c⟩:=aR;refine⟨a,b,c.elim (λaR=>?_) λc=>.inr (pn b (c.same s4))⟩;obtain⟨c1,c2⟩:=aR;exact .inl ⟨by rw [ai b];exact s4 _ _ c1,c2⟩;exact sm.free f4
   rw [ai (λz=>by rw [z,hD] at hb;cases hb)];exact s4 _ _ (sm b u hb)
  refine⟨_,rfl,_,rfl,_,rfl,R,d,rs,aa,ps,st,p.1,rfl,s3.seq hR,df.same s3,aZ,h8,S2.same sm,YG,iL hp,ZK,λD4 H4 f4 s4=>⟨λno e4=>?_,λe4=>?_⟩⟩
  .obtain⟨a,b,La,c1,c2,c3⟩:=fin D4 H4 f4 s4 (.inl ⟨e4,no⟩);exact⟨a,b,La,c1,c2,⟨_,rfl⟩,c3,ae⟩
  obtain⟨a,b,La,c1,c2,c3⟩:=fin D4 H4 f4 s4 (.inr e4);exact⟨a,b,La,c1,c2,⟨_,rfl⟩,c3,ae⟩
 obtain⟨ls,rfl,hl,_,sm,gi⟩:=h;have s3:=s2.trans sm;rw [az,show ps.length=(ps.map (·.1)).length from (az _).symm,cb] at hl;have RN:=bF hl;rw [az] at RN;have each:∀l∈ls,H2 l=none/\(H3 l=some (.lst [])\/BN K H3 l):=λl hm=>by
  obtain⟨i,ei⟩:=fq hm;have li:=(ba.mp ei).1;obtain⟨l',Kt,a,b,c⟩:=Paired.at_ hl i _ (dJ (by rw [az];omega));rw [ei] at Kt;cases Kt;exact⟨a,c.elim (λc=>.inl c.1) .inr⟩
 refine⟨_,rfl,D,rfl,⟨_,aD.of gi⟩,λD5 Lr=>?_⟩;refine By gi (λl xb=>(each l xb).2) ∅ Lr λH5 ks s5 e5 hk ke=>?_;refine⟨pL,λD6 Lq=>?_⟩;have s6:=ag Lq (.lst []);have e6:upd H5 D6 (.lst []) D6=some (.lst []):=ae;generalize upd H5 D6 (.lst [])=H6 at s6 e6;have Pe:=s5.trans s6;obtain⟨q8,Sa⟩:∃q8:List (List V),Paired (λl xs=>aD K H6 l xs) ks q8:=by
  have:∀l∈ks,∃xs,aD K H6 l xs:=λl xb=>by
   obtain⟨t,ts,ps,a,_⟩:=(hk l xb).2;exact⟨_,aD.of (Pe _ _ a)⟩
  clear hk ke e5
  induction ks with
  | nil=>exact⟨[],.nil⟩
  | cons a b ih =>
   obtain⟨xs,hx⟩:=this a bZ;obtain⟨q8,Sa⟩:=ih λl xb=>this l (bJ _ xb);exact⟨xs::q8,.cons hx Sa⟩
 refine⟨D5,ks,q8,rfl,aD.of (s6 _ _ e5),Sa,λk0=>?_,λl xb=>?_⟩
 .refine(q D6 H6 ((s3.trans s5).free Lq) (s3.trans Pe)).1 _ (Fx emp Bp hits λn hn=>?_) e6;rw [<-m1] at hn;obtain⟨i,ei⟩:=fq hn;obtain⟨l',Kt,a,b,c⟩:=Paired.at_ hl i n ei;rcases c with c | c
  .exact c.2
  have:=ke k0 l' (cR Kt);obtain⟨t,ts,ps,c1,_⟩:=c;rw [this] at c1;cases c1
 have hm:=cR xb;obtain⟨NH,pn⟩:=hk l hm;obtain⟨t,ts,pp,a,b,c,d⟩:=pn.same Pe;exact(q l H6 (s2.free (each l NH).1) (s3.trans Pe)).2 t ts pp a b c d
end
abbrev CF:Stmt:=top 39
abbrev uB:Stmt:=top 40
abbrev Cz:Stmt:=top 41
section
def Cs (K:aT):Sp:=λvs H Q _=>∃(a:Addr)(ns:List Int) (k:Nat),vs=[.ref a,.int (k:Int)]/\aD K H a (ns.map V.int)/\ns.length<=1000/\∀n:Int,Q (.int n) H
def IM:aJ ["_law_script","_law_k"] ["_law_script","_law_k"] (au CF):=ju rfl rfl rfl rfl nofun
def FQ (F:iq K "_law_cell_at" "_law_cell_at" CF f fd)(T:Txt mg):bf P w K mg base fk 1 f fd ["_law_script","_law_k"] (Cs K):=by
 refine F.ok IM (λvs H Q E h=>?_) (λdr A outer s H vs Q E hr h=>?_)
 .obtain⟨a,ns,k,rfl,_⟩:=h;rfl
 obtain⟨a,ns,k,rfl,hS,hn,q⟩:=h;refine⟨_,aj (de (bT sk (pv 1) (bL d8 rfl T.len kN (ah (pv 0) ak)) (cE _)) (aq (bO (bz cH (pv 0) (pv 1) (λ_ _=>rfl)))) bx) (aq (bO aA)),?_⟩;refine⟨_,rfl,_,rfl,a,_,rfl,.inl hS,_,_,rfl,rfl,_,rfl,?_⟩;refine dW (λcc=>?_) (λ_=>q 0);have lt:=eh cc;rw [az] at lt;have lt':k < ns.length:=by omega
 refine⟨_,rfl,_,rfl,a,_,_,.int ns[k],rfl,rfl,hS,dq (by rw [bh,dJ lt'];rfl),q _⟩
def pT:Sp:=λvs H Q _=>∃(c:Int) (m:Nat),vs=[.int c,.int (m:Int)]/\m<=100/\∀D ns H',H D=none->aB H H'->H' D=some (.lst (List.map V.int ns))->ns.length=m->(∀n∈ns,(0:Int)<=n/\n < 4294967311)->Q (.ref D) H'
def jh:aJ ["_law_cell","_law_many","_law_found","_law_number","_law_k"] ["_law_cell","_law_many"] (au uB):=ju rfl rfl rfl rfl nofun
def T_ (xs:List V):oH xs (some 1) none=xs.drop 1:=by
 have e1:HT.kC xs.length 0 (some 1)=min 1 xs.length:=HT.oV _ _ 1;have e2:HT.kC xs.length xs.length none=xs.length:=rfl;unfold oH;rw [e1,e2];cases xs with
 | nil=>rfl
 | cons x r=>simp
def AS (F:iq K "_law_stream" "_law_stream" uB f fd)(T:Txt mg):bf P w K mg base fk 1 f fd ["_law_cell","_law_many"] pT:=by
 refine F.ok jh (λvs H Q E h=>?_) (λdr A outer s H vs Q E hr h=>?_)
 .obtain⟨c,m,rfl,_⟩:=h;rfl
 obtain⟨c,m,rfl,hm,q⟩:=h;refine⟨_,aj (aI (i:=2) jh.nd rfl (bM rfl) (bQ ak))
  (aj (aI (i:=3) jh.nd rfl (bM rfl) (bK eK (bK gk (pv 0) aA) aA))
  (aj (cx cS rfl (mT rfl T.Hg (ah (bK eK (pv 1) aA) ak)) (ar (i:=4) jh.nd rfl (bM rfl))
   (aj (aI (i:=3) jh.nd rfl (bM rfl) (bK gk (bK eK (bK eK (bK yh (pv 3) (pv 3)) (bK yh aA (pv 3))) (pv 4)) aA))
   (aq (cD (hZ iN i6 i7 cN (pv 2) (ah (pv 3) ak))))))
  (aq (bO (hX oS (pv 2) (fN aA) zT))))),?_⟩
 refine⟨pL,λl hl=>?_⟩;refine⟨_,rfl,_,_,rfl,rfl,(by show (0:Int) < 4294967311;decide),_,_,rfl,rfl,?_⟩;refine⟨_,rfl,_,_,rfl,rfl,_,rfl,∅,∅,?_⟩;have e0:((m:Int)+1).toNat=m+1:=by omega
 rw [e0];have Y4:(0:Int)<=c % 4294967311+48271/\c % 4294967311+48271 < 8589934592:=by omega
 refine nr (n:=m+1) (λi σ H2=>∃(x:Int)(ns:List Int)(kk:Option V),σ=[some (.int c),some (.int (m:Int)),bu l,some (.int x),kk]/\H2=upd H l (.lst (ns.map V.int))/\ns.length=i/\((0:Int)<=x/\x < 8589934592)/\∀n∈ns,(0:Int)<=n/\n < 4294967311)
  ⟨c % 4294967311+48271,[],none,rfl,rfl,rfl,Y4,by simp⟩ ?_ ?_
 .rintro i σ H2 hi ⟨x,ns,kk,rfl,rfl,om,hx,sN⟩;refine⟨_,rfl,_,rfl,_,_,rfl,rfl,.inl ⟨∅,∅⟩,_,rfl,_,_,rfl,rfl,.inl ⟨nofun,nofun⟩,_,_,rfl,rfl,_,rfl,_,_,rfl,rfl,_,_,rfl,rfl,(by show (0:Int) < 4294967311;decide),?_⟩;have hy:(0:Int)<=(x * x+69621 * x+(0+(i:Int))) % 4294967311/\(x * x+69621 * x+(0+(i:Int))) % 4294967311 < 4294967311:=by omega
  refine⟨_,rfl,.inl ⟨rfl,_,aD.of ae⟩,_,rfl,l,_,_,rfl,rfl,ae,bA (by rw [az];omega),?_⟩;refine⟨(x * x+69621 * x+(0+(i:Int))) % 4294967311,ns++[(x * x+69621 * x+(0+(i:Int))) % 4294967311],_,rfl,by rw [ix,br];rfl,by rw [cC,om];rfl,⟨hy.1,∅⟩,λn hn=>?_⟩;rcases cq.mp hn with h | h
  .exact sN n h
  rw [cm.mp h];exact hy
 rintro σ H2 ⟨x,ns,kk,rfl,rfl,om,hx,sN⟩;refine⟨_,rfl,1,rfl,l,_,rfl,aD.of ae,λp hp=>?_⟩;rw [T_];have ni:p≠l:=λz=>by rw [z,ae] at hp;cases hp
 refine q p (ns.drop 1) _ (by rw [ai ni] at hp;exact hp) ((ag hl _).trans (ag hp _)) (by rw [ae,List.map_drop]) (by rw [pF,om];omega) λn hn=>sN n (List.mem_of_mem_drop hn)
def pK:Str := "!\"#$&'()*+,-./0123456789:;<=>?@ABCDEFGHIJKLMNOPQRSTUVWXYZ[\\]^_`abcdefghijklmnopqrstuvwxyz{|}~"
def M6:pK.cps.toList.length=93:=by decide +kernel
def OG (n:Int):∃c,rC pK.cps.toList (n % 93)=some c:=by
 have h:(n % 93).toNat < pK.cps.toList.length:=by rw [M6];omega
 refine⟨pK.cps.toList[(n % 93).toNat],?_⟩;have e:n % 93=(((n % 93).toNat:Nat):Int):=by omega
 have:=dq (dJ h);rw [<-e] at this;exact this
def rE (z:Str):Prop:=∀c∈z.cps.toList,c∈pK.cps.toList
def rE.lt {z:Str}(h:rE z):∀c∈z.cps.toList,c < 16 ^ 8:=λc hc=>(show ∀c∈pK.cps.toList,c < 16 ^ 8 by decide +kernel) c (h c hc)
def rE.app {x y:Str}(h:rE x)(g:rE y):rE (x++y):=λc hc=>by
 have e:(x++y).cps.toList=x.cps.toList++y.cps.toList:=by show (x.cps++y.cps).toList=_;simp
 rw [e] at hc;exact(cq.mp hc).elim (h c) (g c)
def rE.one {cc:Nat}{i:Int}(h:rC pK.cps.toList i=some cc):rE ⟨#[cc]⟩:=λc hc=>by
 have:c=cc:=by simpa using hc
 subst this;unfold rC at h;obtain⟨j,_,e⟩:=Option.bind_eq_some_iff.mp h;exact cR e
theorem rE.BS {z:Str}(h:rE z)(lo hi:Option Int):rE (BS z lo hi):=by
 unfold L2.BS
 split
 .exact h
 intro c hc;have hc:c∈(List.filterMap (z.cps[·]?) (slicePicked z (lo.map λi=>(i,0)) (hi.map λi=>(i,0)) none)):=by simpa using hc
 obtain⟨k,_,e⟩:=tU.mp hc;exact h c (by rw [Array.mem_toList_iff];exact Array.mem_of_getElem? e)
theorem rE.join {zs:List Str}(h:∀z∈zs,rE z):rE (Txt.join (Str.ofString "") zs):=by
 have e2:Txt.join (Str.ofString "") zs=Str.join (Str.ofString "") zs:=StrLaws.glued_eq_join _ _;rw [e2];have e0:rE (Str.ofString ""):=λc hc=>by rw [show (Str.ofString "").cps.toList=[] from rfl] at hc;cases hc
 clear e2
 induction zs with
 | nil=>exact λc hc=>by simp [Str.join,Str.empty] at hc
 | cons x r ih =>
  cases r with
  | nil=>exact h x bZ
  | cons y t =>
   show rE (x++Str.ofString "" ++ Str.join (Str.ofString "") (y::t));exact((h x bZ).app e0).app (ih λz hz=>h z (bJ _ hz))
def Cp:Sp:=λvs H Q _=>∃(c:Int),vs=[.int c,.int 6]/\∀D zs H',H D=none->aB H H'->H' D=some (.lst (List.map V.str zs))->zs.length=6->(∀z∈zs,l8 z)->Q (.ref D) H'
def g6:aJ ["_law_cell","_law_many","_law_signs","_law_draws","_law_size","_law_at","_law_base","_law_found","_law_k","_law_sign","_law_end"] ["_law_cell","_law_many"] (au Cz):=ju rfl rfl rfl rfl nofun
def FN (F:iq K "_law_pool" "_law_pool" Cz f fd)(T:Txt mg)(GS:aM P w K mg base 1 "_law_stream" ["_law_cell","_law_many"] pT):bf P w K mg base fk 2 f fd ["_law_cell","_law_many"] Cp:=by
 refine F.ok g6 (λvs H Q E h=>?_) (λdr A outer s H vs Q E hr h=>?_)
 .obtain⟨c,rfl,_⟩:=h;rfl
 obtain⟨c,rfl,q⟩:=h;refine⟨_,aj (aI (i:=2) g6.nd rfl (Or.inr rfl) C0)
  (aj (aI (i:=3) g6.nd rfl (bM rfl) (cv GS hr rfl (ah (pv 0) (ah aA ak))))
  (aj (aI (i:=4) g6.nd rfl (bM rfl) (bK eK aA (bK gk (bz cH (pv 3) aA (λ_ _=>rfl)) aA)))
  (aj (aI (i:=5) g6.nd rfl (bM rfl) (bK gk (bz cH (pv 3) aA (λ_ _=>rfl)) (pv 4)))
  (aj (aI (i:=6) g6.nd rfl (bM rfl) (hZ PySem.F.plainAttrs_str PySem.F.slot_str_join PySem.F.type_str_join FU C0
   (ah (bq ["_law_draw"] [(2,"_law_signs")] rfl (a8 (hX oS (pv 3) (fN aA) (fN (bK eK aA (pv 4))))) (a9 rfl rfl) nofun rfl nofun
    (λ_ _ _ _ _=>ar (i:=0) (show (["_law_draw","_law_signs"]:List Str).Nodup by decide +kernel) rfl (bM rfl)) (λ_ _ _ _ _=>b9) (λ_ _ _ _ _=>bz DK (pv 1) (bK gk (pv 0) aA) (λ_ _=>rfl))) ak)))
  (aj (aI (i:=7) g6.nd rfl (bM rfl) (bQ ak))
  (aj (cx cS rfl (mT rfl T.Hg (ah (pv 1) ak)) (ar (i:=8) g6.nd rfl (bM rfl))
   (aj (aI (i:=9) g6.nd rfl (bM rfl) (bz DK (pv 2) (bK gk (bK eK (bz cH (pv 3) (bK eK aA (pv 5)) (λ_ _=>rfl)) (bK yh aA (pv 8))) aA) (λ_ _=>rfl)))
   (aj (aI (i:=10) g6.nd rfl (bM rfl) (bK eK (bK eK (pv 5) aA) (bK gk (bK lI (bz cH (pv 3) aA (λ_ _=>rfl)) (bK eK (pv 8) aA)) aA)))
   (aq (cD (hZ iN i6 i7 cN (pv 7)
    (ah (bK qc (bK qc (hX zN (pv 6) zT (fN (pv 5))) (pv 9)) (hX zN (pv 6) (fN (bK eK (pv 5) aA)) (fN (pv 10)))) ak)))))))
  (aq (bO (pv 7))))))))),?_⟩
 refine⟨_,rfl,c,16,rfl,nofun,λD ns H1 ZD s1 hD aZ sN=>?_⟩;have Kf:∀i:Nat,i < 16->∃x:Int,(0:Int)<=x/\x < 4294967311/\rC (ns.map V.int) (i:Int)=some (.int x):=λi hi=>by
  have lt:i < ns.length:=by omega
  obtain⟨a1,a2⟩:=sN ns[i] (tM lt);exact⟨ns[i],a1,a2,dq (by rw [bh,dJ lt];rfl)⟩
 obtain⟨n0,a0,b0,g0⟩:=Kf 0 nofun;obtain⟨n1,a1,b1,g1⟩:=Kf 1 nofun;refine⟨_,rfl,D,_,_,.int n0,rfl,rfl,aD.of hD,g0,_,_,rfl,rfl,(by show (0:Int) < 14;decide),_,_,rfl,rfl,?_⟩;refine⟨_,rfl,D,_,_,.int n1,rfl,rfl,aD.of hD,g1,_,rfl,_,_,rfl,rfl,(by show (0:Int) < 1+n0 % 14;omega),?_⟩;have V5:(0:Int)<=n1 % (1+n0 % 14)/\n1 % (1+n0 % 14) < 14:=by
  have h1:(0:Int) < 1+n0 % 14:=by omega
  have h2:=Int.emod_nonneg n1 (Int.ne_of_gt h1);have h3:=Int.emod_lt_of_pos n1 h1;omega
 refine⟨rfl,_,rfl,2,rfl,_,rfl,_,_,rfl,rfl,_,rfl,D,_,rfl,aD.of hD,λc1 HF=>?_⟩;obtain⟨j7,e1,_,l1⟩:=Es ns (some 2) (some (2+(1+n0 % 14)));rw [e1];have s2:=s1.trans (ag HF (.lst (j7.map V.int)));have N5:upd H1 c1 (.lst (j7.map V.int)) D=some (.lst (ns.map V.int)):=by rw [ai (ao hD HF)];exact hD
 have Bj:upd H1 c1 (.lst (j7.map V.int)) c1=some (.lst (j7.map V.int)):=ae;generalize upd H1 c1 (.lst (j7.map V.int))=H2 at s2 N5 Bj;refine⟨c1,rfl,⟨_,aD.of Bj⟩,λD2 iQ=>bH (xs:=j7.map V.int) (λi ys σ2 H3=>∃zs:List Str,ys=zs.map V.str/\zs.length=i/\(∀z∈zs,z.length=1)/\(∀z∈zs,rE z)/\(∃y,σ2=[y,some (.str pK)])/\aB H2 H3/\H3 D2=some (.lst ys))
  ⟨[],rfl,rfl,by simp,by simp,⟨none,rfl⟩,ag iQ _,ae⟩ (λi ys σ2 H3 _ h=>?_) (λi x ys σ2 H3 ex h=>?_) (λys σ2 H3 h=>?_)⟩
 .obtain⟨_,_,_,_,_,_,sm,_⟩:=h;exact aD.of (sm _ _ Bj)
 .obtain⟨zs,rfl,hz,Lf,R4,⟨y,rfl⟩,sm,gi⟩:=h;rw [bh] at ex;obtain⟨n,en,rfl⟩:=bR.mp ex;obtain⟨cc,HE⟩:=OG n;have li:i < j7.length:=(ba.mp en).1;refine goN ?_;refine wm ?_;refine⟨_,rfl,_,rfl,_,_,rfl,rfl,(by show (0:Int) < 93;decide),pK,_,cc,rfl,rfl,nofun,HE,gi,bA (by rw [az];omega),zs++[⟨#[cc]⟩],?_,?_,?_,?_,⟨_,rfl⟩,?_,?_⟩
  .rw [br];rfl
  .rw [cC,hz];rfl
  .intro z Nj;rcases cq.mp Nj with h | h
   .exact Lf z h
   rw [cm.mp h];rfl
  .intro z Nj;rcases cq.mp Nj with h | h
   .exact R4 z h
   rw [cm.mp h];exact rE.one HE
  .intro b o hb;rw [ai (λz=>by rw [z,iQ] at hb;cases hb)];exact sm b o hb
  rw [ae]
 obtain⟨zs,rfl,hz,Lf,R4,⟨y,rfl⟩,sm,gi⟩:=h;have Nt:∀l:List Str,(∀z∈l,z.length=1)->(l.map (·.length)).sum=l.length:=by
  intro l
  induction l with
  | nil=>intro _;rfl
  | cons z r ih=>intro h;rw [bw,kJ,ih (λz hz=>h z (bJ _ hz)),h z bZ,dw];omega
 rw [az] at hz;refine⟨_,D2,zs,rfl,rfl,aD.of gi,?_,?_⟩
 .have e0:(Str.ofString "").length=0:=rfl;rw [Nt zs Lf,e0];omega
 have hb:(Txt.join (Str.ofString "") zs).length<=16:=by
  have h1:=StrLaws.join_length_le (Str.ofString "") zs;have e0:(Str.ofString "").length=0:=rfl;rw [Nt zs Lf,e0] at h1;have e2:Txt.join (Str.ofString "") zs=Str.join (Str.ofString "") zs:=StrLaws.glued_eq_join _ _;rw [e2];omega
 have hS:rE (Txt.join (Str.ofString "") zs):=rE.join R4;generalize Txt.join (Str.ofString "") zs=KL at hb hS ⊢;have HJ:=sm _ _ N5;have s3:=s2.trans sm;clear sm gi iQ Bj;refine⟨pL,λl hl=>?_⟩;refine⟨_,rfl,6,rfl,nofun,nofun,?_⟩;obtain⟨k1,ek1⟩:=Int.eq_ofNat_of_zero_le V5.1;obtain⟨n2,a2,b2,g2⟩:=Kf (2+k1) ∅;have V8:∀o,upd H3 l o D=some (.lst (ns.map V.int)):=λo=>by rw [ai (ao HJ hl)];exact HJ
 refine nr (n:=6) (λi σ H4=>∃(ws:List Str)(k2 k3 k4:Option V),σ=[some (.int c),some (.int 6),some (.str pK),bu D,some (.int (1+n0 % 14)),some (.int (n1 % (1+n0 % 14))),some (.str KL),bu l,k2,k3,k4] /\
  H4=upd H3 l (.lst (ws.map V.str))/\ws.length=i/\∀z∈ws,l8 z) ⟨[],none,none,none,rfl,rfl,rfl,by simp⟩ ?_ ?_
 .rintro i σ H4 hi ⟨ws,k2,k3,k4,rfl,rfl,hw,JD⟩;obtain⟨cc,HE⟩:=OG (n2+5 * (0+(i:Int)));refine⟨_,rfl,_,rfl,_,rfl,_,_,rfl,rfl,D,_,_,.int n2,rfl,rfl,aD.of (V8 _),?_,_,rfl,_,_,rfl,rfl,.inl ⟨nofun,nofun⟩,_,_,rfl,rfl,_,_,rfl,rfl,(by show (0:Int) < 93;decide),pK,_,cc,rfl,rfl,nofun,HE,?_⟩
  .rw [ek1];have e:(2:Int)+(k1:Int)=((2+k1:Nat):Int):=by omega
   rw [e];exact g2
  refine⟨_,rfl,_,_,rfl,rfl,_,rfl,D,_,_,.int n1,rfl,rfl,aD.of (V8 _),g1,_,rfl,_,_,rfl,rfl,_,_,rfl,rfl,⟨by show (0:Int) < 0+(i:Int)+2;omega,by show (0:Int)+(i:Int)+2 < 1073741824;omega⟩,_,_,rfl,rfl,(by show (0:Int) < 15;decide),_,_,rfl,rfl,?_⟩;refine⟨_,rfl,.inl ⟨rfl,_,aD.of ae⟩,?_⟩;refine⟨_,rfl,_,rfl,_,rfl,KL,rfl,fits ∅,?_⟩;have R9:=Ct KL none (some (n1 % (1+n0 % 14)));have Px:=hS.BS none (some (n1 % (1+n0 % 14)));generalize BS KL none (some (n1 % (1+n0 % 14)))=z1 at R9 Px ⊢;refine⟨_,rfl,_,_,rfl,rfl,fits (by show z1.length+1<=_;omega),?_⟩;refine⟨_,rfl,_,rfl,_,_,rfl,rfl,_,rfl,_,rfl,_,rfl,KL,rfl,fits ∅,?_⟩;have R7:=Ct KL (some (n1 % (1+n0 % 14)+1)) (some (n1 % (1+n0 % 14)+1+n1 / (0+(i:Int)+2) % 15));have Nu:=hS.BS (some (n1 % (1+n0 % 14)+1)) (some (n1 % (1+n0 % 14)+1+n1 / (0+(i:Int)+2) % 15));generalize BS KL (some (n1 % (1+n0 % 14)+1)) (some (n1 % (1+n0 % 14)+1+n1 / (0+(i:Int)+2) % 15))=z2 at R7 Nu ⊢;have Vx:(z1++(⟨#[cc]⟩:Str)).length=z1.length+1:=nZ _ _;refine⟨_,_,rfl,rfl,fits (by rw [Vx];omega),?_⟩;refine⟨l,_,_,rfl,rfl,ae,bA (by rw [az];omega),?_⟩;refine⟨ws++[z1++⟨#[cc]⟩++z2],_,_,_,rfl,by rw [ix,br];rfl,by rw [cC,hw];rfl,λz R_=>?_⟩;rcases cq.mp R_ with h | h
  .exact JD z h
  rw [cm.mp h];exact⟨by rw [nZ,Vx];omega,((Px.app (rE.one HE)).app Nu).lt⟩
 rintro σ H4 ⟨ws,k2,k3,k4,rfl,rfl,hw,JD⟩;exact⟨_,rfl,q l ws _ (s3.free hl) (s3.trans (ag hl _)) ae hw JD⟩
end
abbrev Cy:Stmt:=top 42
def DL {n k:Nat}(h:k < n):F6 n (k:Int)=some k:=by
 unfold F6;rw [aw ∅,aw ∅];simp
def wR {ns:List Int}{k:Nat}(h:k < ns.length):rC (ns.map V.int) (k:Int)=some (.int ns[k]):=dq (by rw [bh,dJ h];rfl)
def Bv (ns:List Int)(h:ns.length=5)(hi:Option Int):∃j7:List Int,oH (ns.map V.int) (some 2) hi=j7.map V.int/\j7.length<=3:=by
 refine⟨(ns.drop (HT.kC (ns.map V.int).length 0 (some 2))).take (HT.kC (ns.map V.int).length (ns.map V.int).length hi - HT.kC (ns.map V.int).length 0 (some 2)),by unfold oH;rw [<-List.map_drop,<-List.map_take],?_⟩;have e1:HT.kC (ns.map V.int).length 0 (some 2)=min 2 (ns.map V.int).length:=HT.oV _ _ 2;rw [dI,pF,e1,az];omega
def Ez {zs:List Str}{m:Nat}(h:m<=zs.length)(hm:0 < m) (n:Int):∃z∈zs.take m,rC (zs.map V.str) (n % (m:Int))=some (.str z):=by
 have a:=Int.emod_nonneg n (show (m:Int)≠0 by omega);have b:=Int.emod_lt_of_pos n (show (0:Int) < m by omega);have h1:(n % (m:Int)).toNat < zs.length:=by omega
 refine⟨zs[(n % (m:Int)).toNat],?_,?_⟩
 .refine cR (i:=(n % (m:Int)).toNat) ?_;rw [vv ∅,dJ h1]
 have e:n % (m:Int)=(((n % (m:Int)).toNat:Nat):Int):=by omega
 have:=dq (xs:=zs.map V.str) (by rw [bh,dJ h1];rfl:(zs.map V.str)[(n % (m:Int)).toNat]?=some (.str zs[(n % (m:Int)).toNat]));rw [<-e] at this;exact this
section
def zE (K:aT):Sp:=λvs H Q _=>∃(c:Int)(p:Addr) (zs:List Str),vs=[.int c,.ref p]/\aD K H p (zs.map V.str)/\zs.length=6 /\
 ∀R p2 h (dD:List Str) H',aB H H'->H' R=some (.tup [.str h,.ref p2])->H' p2=some (.tup (dD.map V.str))->dD.length<=3->h∈zs.take 4->Q (.ref R) H'
def kZ:aJ ["_law_cell","_law_pool_here","_law_digits","_law_k"] ["_law_cell","_law_pool_here"] (au Cy):=ju rfl rfl rfl rfl nofun
def Dk (F:iq K "_law_rule" "_law_rule" Cy f fd)(T:Txt mg)(GS:aM P w K mg base 1 "_law_stream" ["_law_cell","_law_many"] pT):bf P w K mg base fk 2 f fd ["_law_cell","_law_pool_here"] (zE K):=by
 refine F.ok kZ (λvs H Q E h=>?_) (λdr A outer s H vs Q E hr h=>?_)
 .obtain⟨c,p,zs,rfl,_⟩:=h;rfl
 obtain⟨c,p,zs,rfl,hp,h6,q⟩:=h;refine⟨_,aj (gS (iy:=2) ["_law_draw"] [] kZ.nd rfl rfl rfl (a8 (cv GS hr rfl (ah (bK lI (pv 0) aA) (ah aA ak)))) (a9 rfl rfl) nofun rfl nofun
   (λ_ _ _ _ _=>ar (i:=0) (show (["_law_draw"]:List Str).Nodup by decide +kernel) rfl (bM rfl)) (λ_ _ _ _ _=>b9) (λ_ _ _ _ _=>bK lI (pv 0) aA))
  (aj (lB (de (bT Dd (bK gk (pv 0) aA) aA (cE _))
   (aj (aI (i:=0) kZ.nd rfl (bM rfl) (bK lI (pv 0) aA))
   (aq (cx cS rfl (mT rfl T.Hg (ah aA ak)) (ar (i:=3) kZ.nd rfl (bM rfl))
    (aq (de (bT Dc (pv 0) aA (cE _))
     (aj (CW (bK gk (bK C_ (pv 0) aA) aA) (Jc (pv 2) (pv 3) set_list))
     (aq (aI (i:=0) kZ.nd rfl (bM rfl) (bK lI (bK C_ (pv 0) aA) aA)))) bx))))) bx))
  (aq (bO (cy (ah (bz cH (pv 1) (bK gk (bz cH (pv 2) aA (λ_ _=>rfl)) aA) (λ_ _=>rfl))
   (ah (aY g8 rfl T.tup xq (ah
    (bq ["_law_digit"] [(1,"_law_pool_here")] rfl (a8 (hX oS (pv 2) (fN aA) (fN (bK eK aA (bK gk (bz cH (pv 2) aA (λ_ _=>rfl)) aA))))) (a9 rfl rfl) nofun rfl nofun
     (λ_ _ _ _ _=>ar (i:=0) (show (["_law_digit","_law_pool_here"]:List Str).Nodup by decide +kernel) rfl (bM rfl)) (λ_ _ _ _ _=>b9) (λ_ _ _ _ _=>bz (v9 K) (pv 1) (bK gk (pv 0) aA) (λ_ _=>rfl))) ak)) ak)))))),?_⟩
 refine⟨_,rfl,_,_,rfl,rfl,⟨nofun,nofun⟩,c / 2,5,rfl,nofun,λD1 ns H1 ZD s1 N5 aZ _=>⟨D1,rfl,⟨_,aD.of N5⟩,λD hD=>?_⟩⟩;refine bH (xs:=ns.map V.int) (λi ys σ2 H3=>∃ms:List Int,ys=ms.map V.int/\ms.length=i/\(∃y,σ2=[y])/\aB H1 H3/\H3 D=some (.lst ys))
  ⟨[],rfl,rfl,⟨none,rfl⟩,ag hD _,ae⟩ (λi ys σ2 H3 _ h=>?_) (λi x ys σ2 H3 ex h=>?_) (λys σ2 H3 h=>?_)
 .obtain⟨_,_,_,_,sm,_⟩:=h;exact aD.of (sm _ _ N5)
 .obtain⟨ms,rfl,hm,⟨y,rfl⟩,sm,gi⟩:=h;rw [bh] at ex;obtain⟨n,en,rfl⟩:=bR.mp ex;have li:i < ns.length:=(ba.mp en).1;refine goN ?_;refine wm ?_;refine⟨_,rfl,_,_,rfl,rfl,⟨nofun,nofun⟩,gi,bA (by rw [az];omega),ms++[n / 16],by rw [br];rfl,by rw [cC,hm];rfl,⟨_,rfl⟩,λb o hb=>?_,ae⟩;rw [ai (λz=>by rw [z,hD] at hb;cases hb)];exact sm b o hb
 obtain⟨RC,rfl,NI,_,Pb,oC⟩:=h;rw [az,aZ] at NI;have s3:=s1.trans Pb;have fD:=s1.free hD;refine⟨λσ H2=>∃(c2:Int)(ms:List Int)(k2:Option V),σ=[some (.int c2),bu p,bu D,k2]/\H2=upd H3 D (.lst (ms.map V.int))/\ms.length=5,?_,?_⟩
 .refine⟨_,rfl,_,_,rfl,rfl,(by show (0:Int) < 2;decide),rfl,_,rfl,?_⟩;refine dW (λ_=>?_) (λ_=>?_)
  .refine⟨_,rfl,_,_,rfl,rfl,⟨nofun,nofun⟩,5,rfl,nofun,nofun,?_⟩;refine nr (n:=5) (λi σ H2=>∃(c2:Int)(ms:List Int)(k2:Option V),σ=[some (.int c2),bu p,bu D,k2]/\H2=upd H3 D (.lst (ms.map V.int))/\ms.length=5) ⟨_,RC,none,rfl,?_,NI⟩ ?_ ?_
   .funext b
    by_cases h:b=D
    .rw [h,ae];exact oC
    rw [ai h]
   .rintro i σ H2 hi ⟨c2,ms,k2,rfl,rfl,hm⟩;have e0:(0:Int)+(i:Int)=((i:Nat):Int):=by omega
    rw [e0];have lt:i < ms.length:=by omega
    refine⟨_,rfl,_,_,rfl,rfl,_,rfl,?_⟩;refine dW (λ_=>?_) (λ_=>?_)
    .refine⟨_,rfl,_,_,rfl,rfl,_,_,rfl,rfl,(by show (0:Int) < 16;decide),_,rfl,_,rfl,D,_,_,i,rfl,rfl,ae,DL (by rw [az];exact lt),?_⟩;refine⟨_,rfl,_,_,rfl,rfl,_,_,rfl,rfl,⟨nofun,nofun⟩,?_⟩;exact⟨_,_,_,rfl,by rw [ix,<-List.map_set],by rw [List.length_set];exact hm⟩
    exact⟨_,_,_,rfl,rfl,hm⟩
   exact λσ H2 z=>z
  have e:H3=upd H3 D (.lst (RC.map V.int)):=by
   funext b
   by_cases h:b=D
   .rw [h,ae];exact oC
   rw [ai h]
  exact⟨c,RC,none,rfl,e,NI⟩
 rintro σ H2 ⟨c2,ms,k2,rfl,rfl,hm⟩;have sm:aB H (upd H3 D (.lst (ms.map V.int))):=λb o hb=>by rw [ai (ao hb fD)];exact s3 _ _ hb
 have iQ:upd H3 D (.lst (ms.map V.int)) D=some (.lst (ms.map V.int)):=ae;generalize upd H3 D (.lst (ms.map V.int))=H2 at sm iQ;have yK:=sm.seq hp;obtain⟨z0,Y0,Y1⟩:=Ez (zs:=zs) (m:=4) ∅ nofun (ms[0]'∅);refine⟨_,rfl,_,rfl,D,_,_,_,rfl,rfl,aD.of iQ,wR (k:=0) ∅,_,_,rfl,rfl,(by show (0:Int) < 4;decide),p,_,_,_,rfl,rfl,yK,Y1,?_⟩;refine⟨_,rfl,2,rfl,_,rfl,D,_,_,_,rfl,rfl,aD.of iQ,wR (k:=1) ∅,_,_,rfl,rfl,(by show (0:Int) < 4;decide),_,_,rfl,rfl,_,rfl,D,_,rfl,aD.of iQ,λc1 HF=>?_⟩;obtain⟨j7,e1,l1⟩:=Bv ms hm (some ((2:Int)+(ms[1]'∅) % 4));rw [e1];have zM:=sm.trans (ag HF (.lst (j7.map V.int)));have Bj:upd H2 c1 (.lst (j7.map V.int)) c1=some (.lst (j7.map V.int)):=ae;generalize upd H2 c1 (.lst (j7.map V.int))=H3 at zM Bj;refine⟨c1,rfl,⟨_,aD.of Bj⟩,λE2 V7=>bH (xs:=j7.map V.int) (λi ys σ2 H4=>∃ws:List Str,ys=ws.map V.str/\ws.length=i/\(∃y,σ2=[y,bu p])/\aB H3 H4/\H4 E2=some (.lst ys))
  ⟨[],rfl,rfl,⟨none,rfl⟩,ag V7 _,ae⟩ (λi ys σ2 H4 _ h=>?_) (λi x ys σ2 H4 ex h=>?_) (λys σ2 H4 h=>?_)⟩
 .obtain⟨_,_,_,_,EU,_⟩:=h;exact aD.of (EU _ _ Bj)
 .obtain⟨ws,rfl,hw,⟨y,rfl⟩,EU,q_⟩:=h;rw [bh] at ex;obtain⟨n,en,rfl⟩:=bR.mp ex;obtain⟨z1,_,Lf⟩:=Ez (zs:=zs) (m:=6) ∅ nofun n;have li:i < j7.length:=(ba.mp en).1;refine goN ?_;refine wm ?_;refine⟨_,rfl,_,rfl,_,_,rfl,rfl,(by show (0:Int) < 6;decide),p,_,_,_,rfl,rfl,EU.seq (zM.seq hp),Lf,q_,bA (by rw [az];omega),ws++[z1],?_,?_,⟨_,rfl⟩,?_,?_⟩
  .rw [br];rfl
  .rw [cC,hw];rfl
  .intro b o hb;rw [ai (λz=>by rw [z,V7] at hb;cases hb)];exact EU b o hb
  rw [ae]
 obtain⟨ws,rfl,hw,⟨y,rfl⟩,EU,q_⟩:=h;rw [az] at hw;refine⟨E2,_,rfl,.inl ⟨aD.of q_,λt1 Pw=>⟨ou,λR hR=>?_⟩⟩⟩;have X3:t1≠R:=λz=>by rw [<-z,ae] at hR;cases hR
 exact q R t1 z0 ws _ (zM.trans (EU.trans ((ag Pw _).trans (ag hR _)))) ae (by rw [ai X3,ae]) ∅ Y0
end
def uY {aa:List av}{x:Str}:x∈hd aa↔x∈aa.map (·.1):=by
 show x∈jK [] (aa.map (·.1))↔_;rw [dN];simp
def g7 (aa:List av) (n:Nat):List Str:=passes (λe=>qb true (hd aa) e aa) n []
theorem u3 (aa:List av):∀n,EO true (hd aa) aa (g7 aa n)
 | 0=>⟨kM,λi h e=>by cases e⟩
 | n+1=>EO.pass aa (λ_ h=>h) (u3 aa n)
def Ei (aa:List av){n:Nat}(hn:(hd aa).length<=n):∀ru∈aa,cV true (hd aa) (g7 aa n) ru=g7 aa n:=by
 have key:∀n,(g7 aa (n+1)=g7 aa n/\∀ru∈aa,cV true (hd aa) (g7 aa n) ru=g7 aa n)\/n < (g7 aa (n+1)).length:=by
  intro n
  induction n with
  | zero=>exact qA true (hd aa) aa []
  | succ n ih =>
   rcases ih with ⟨a,b⟩ | c
   .left;rw [show g7 aa (n+1+1)=qb true (hd aa) (g7 aa (n+1)) aa from rfl,a];exact⟨a,b⟩
   rcases qA true (hd aa) aa (g7 aa (n+1)) with h | h
   .exact .inl h
   right;have h2:(g7 aa (n+1)).length < (g7 aa (n+1+1)).length:=h;omega
 rcases key n with ⟨_,b⟩ | c
 .exact b
 have e1:=u3 aa (n+1);have:=iC _ (hd aa) e1.nd (λx hx=>uY.mpr (e1.sub x hx));omega
def wz {aa:List av}{n:Nat}(hn:(hd aa).length<=n){ru:av}(hr:ru∈aa)(h:∀p∈ru.2,p∈g7 aa n\/p∉hd aa):ru.1∈g7 aa n:=by
 have:=Ei aa hn ru hr;unfold cV at this;by_cases c:ru.1∈g7 aa n
 .exact c
 rw [aw] at this
 .have:=congrArg List.length this;rw [cC] at this;simp at this
 refine nS.mpr ⟨eY.mpr λp hp=>?_,by simpa using c⟩;simp only [Bool.or_eq_true,decide_eq_true_eq,jQ,tO,decide_eq_false_iff_not];exact(h p hp).imp id λz=>⟨trivial,z⟩
def Eh {aa:List av}{g:G}(st:bU M11.bl aa (jB aa) g)(se:cQ M11.bl aa g){h:Str}(hh:h∈hd aa):(g h).isNone=!decide (h∈g7 aa (hd aa).length):=by
 have snd:∀(i:Nat)(x:Str),(g7 aa (hd aa).length)[i]?=some x->(g x).isSome=true:=λi=>by
  induction i using Nat.strongRecOn with
  | ind i ih =>
   intro x hx;obtain⟨dD,a,b⟩:=(u3 aa _).ord i x hx;refine n5 se a λp hp=>?_;rcases b p hp with c | ⟨_,c⟩
   .obtain⟨j,hj⟩:=fq c;have lj:=(ba.mp hj).1;rw [dI] at lj;rw [vv ∅] at hj;exact ih j ∅ p hj
   refine vC st ?_;unfold jB;rw [aw (oN _ _ [] p (.inr ⟨mw.mpr ⟨_,a,hp⟩,c⟩))];rfl
 have cpl:∀z,(g z).isSome=true->z∈g7 aa (hd aa).length\/z∉hd aa:=by
  clear se snd
  induction st with
  | refl =>
   intro z hz;right;unfold jB at hz
   split at hz
   .rename_i c
    exact oM _ _ [] (λy hy=>by cases hy) z c
   cases hz
  | @step g1 ru QP ft fr ih =>
   intro z hz;unfold cM at hz
   split at hz
   .rename_i c
    left;rw [c];refine wz (aH _) ft λp hp=>ih p ?_;unfold bD at fr;rw [jQ] at fr;exact eY.mp fr.1 p hp
   exact ih z hz
 cases e:g h with
 | none =>
  symm
  simp only [Option.isNone_none,tO,decide_eq_false_iff_not];intro c;obtain⟨i,hi⟩:=fq c;have:=snd i h hi;rw [e] at this;cases this
 | some n =>
  symm
  simp only [Option.isNone_some,Bool.not_eq_false',decide_eq_true_eq];exact(cpl h (by rw [e];rfl)).resolve_right λc=>c hh
def gK (M:List Str)(ru:av):List Str:=if ru.1∈M then M++ru.2.filter (λp=>!decide (p∈M)) else M
def jH (aa:List av)(s:Str) (n:Nat):List Str:=passes (λM=>aa.foldl gK M) n [s]
def z9 {M:List Str}{ru:av}{x:Str}(h:x∈M):x∈gK M ru:=by
 unfold gK
 split
 .exact i4 _ h
 exact h
theorem oY:∀(rs:List av){M:List Str}{x:Str},x∈M->x∈rs.foldl gK M
 | [],_,_,h=>h
 | _::rs,_,_,h=>oY rs (z9 h)
theorem vZ:∀(rs:List av){M:List Str}{ru:av},ru∈rs->ru.1∈M->∀p∈ru.2,p∈rs.foldl gK M
 | r::rs,M,ru,hr,h,p,hp=>by
  show p∈rs.foldl gK (gK M r);rcases bC.mp hr with e | e
  .subst e;refine oY rs ?_;unfold gK;rw [aw h];by_cases c:p∈M
   .exact i4 _ c
   exact eZ _ (fS.mpr ⟨hp,by simpa using c⟩)
  exact vZ rs e (z9 h) p hp
theorem vY {aa:List av}{s:Str}:∀(rs:List av){M:List Str},(∀ru∈rs,ru∈aa)->(∀x∈M,qT aa s x)->∀x∈rs.foldl gK M,qT aa s x
 | [],_,_,h=>h
 | r::rs,M,hs,h=>vY rs (λru hr=>hs ru (bJ _ hr)) λx hx=>by
  unfold gK at hx
  split at hx
  .rename_i c
   rcases cq.mp hx with e | e
   .exact h x e
   exact .step (h _ c) (hs r bZ) (fS.mp e).1
  exact h x hx
theorem vW {aa:List av}{s:Str}:∀n,∀x∈jH aa s n,qT aa s x
 | 0=>λx hx=>by rw [cm.mp hx];exact .start
 | n+1=>vY aa (λ_ h=>h) (vW n)
theorem j9 {aa:List av}{s:Str}:∀n,s∈jH aa s n
 | 0=>cm.mpr rfl
 | n+1=>oY aa (j9 n)
def W9 (aa:List av) (M:List Str):Prop:=∀ru∈aa,ru.1∈M->∀p∈ru.2,p∈M
theorem su:∀(rs:List av){M:List Str},(∀ru∈rs,ru.1∈M->∀p∈ru.2,p∈M)->rs.foldl gK M=M
 | [],_,_=>rfl
 | r::rs,M,h=>by
  have e:gK M r=M:=by
   unfold gK
   split
   .rename_i c
    rw [ug.mpr λp hp=>by simpa using h r bZ c p hp,eX]
   rfl
  show rs.foldl gK (gK M r)=M;rw [e];exact su rs λru hr=>h ru (bJ _ hr)
def vX {aa:List av}{s:Str}(hs:s∈hd aa):W9 aa (jH aa s (hd aa).length):=by
 have key:∀n,W9 aa (jH aa s n)\/n < ((hd aa).filter λx=>decide (x∈jH aa s n)).length:=by
  intro n
  induction n with
  | zero =>
   right;have:s∈(hd aa).filter λx=>decide (x∈jH aa s 0):=fS.mpr ⟨hs,dO (j9 0)⟩;exact xp this
  | succ n ih =>
   rcases ih with c | c
   .left;rw [show jH aa s (n+1)=jH aa s n from su aa c];exact c
   by_cases e:∀h∈hd aa,h∈jH aa s (n+1)->h∈jH aa s n
   .left;intro ru ft hm p hp;exact vZ aa ft (e ru.1 (uY.mpr (b_.mpr ⟨ru,ft,rfl⟩)) hm) p hp
   right;obtain⟨h,e⟩:=ua.mp e;obtain⟨e1,e⟩:=Classical.not_imp.mp e;obtain⟨e2,e3⟩:=Classical.not_imp.mp e;have:=lV (p:=λx=>decide (x∈jH aa s n)) (q:=λx=>decide (x∈jH aa s (n+1))) (λx hx=>dO (oY aa (eh hx))) e1 (dO e2) (eM e3);omega
 rcases key (hd aa).length with c | c
 .exact c
 have:=iM (λx=>decide (x∈jH aa s (hd aa).length)) (hd aa);omega
def Jp {aa:List av}{s:Str}(hs:s∈hd aa){ms:List Str}(h0:s∈ms)(rc:∀x∈ms,qT aa s x)(mc:jx aa aa.length ms)(h:Str):decide (h∈ms)=decide (h∈jH aa s (hd aa).length):=by
 refine decide_eq_decide.mpr ⟨λhm=>?_,λhm=>CP h0 mc (vW _ h hm)⟩;have:=rc h hm;clear hm
 induction this with
 | start=>exact j9 _
 | step _ h1 h2 ih=>exact vX hs _ h1 ih _ h2
end eG
namespace L2
open PySem
def fQ {X:Cx}(K:aT)(hK:X.K=K:=by rfl):ky X (compareOp .NotIn) (Ph K true):=by
 subst hK;exact iB
def gX (h:Str) (zs:List Str):Ld (.str h) (zs.map V.str)=decide (h∈zs):=by
 have:Ld (.str h) (zs.map V.str)=true↔h∈zs:=by
  unfold Ld;rw [List.any_eq_true];constructor
  .rintro⟨x,h1,h2⟩;obtain⟨z,hz,rfl⟩:=b_.mp h1;have:z=h:=by simpa [Ed] using h2
   rw [<-this];exact hz
  intro hm;exact⟨.str h,b_.mpr ⟨h,hm,rfl⟩,by simp [Ed]⟩
 by_cases c:h∈zs
 .rw [dO c];exact this.mpr c
 rw [eM c];cases e:Ld (.str h) (zs.map V.str) with
 | false=>rfl
 | true=>exact absurd (this.mp e) c
def eP (zs:List Str):(zs.map V.str).all jt=true:=by
 rw [eY];intro x hx;obtain⟨z,_,rfl⟩:=b_.mp hx;rfl
section
variable {K:aT}{H:Hp}{p D:Addr}{zs:List Str}{σ:St}{x:Str}{js:List (Nat×Str)}{te:TE}{Qp:Hp->Prop}
def wK (rest:St)(pr:Str->Bool)(hc:cZ [x] js σ=none::rest)(hp:aX K H p (zs.map V.str))(hz:zs.length<=1000)(hD:H D=none)
  (Sd:∀z∈zs,∀(H':Hp)(Qy:VK),aB H H'->Qy (.bl (pr z)) H'->te (some (.str z)::rest) H' Qy)
  (q:∀H2,aB H H2->H2 D=some (.lst ((zs.map pr).map V.bl))->Qp H2) :
  ∃W:Nat->Nat->List V->St->Hp->Prop,(∃m,W 0 m [] (cZ [x] js σ) (upd H D (.lst []))) /\
 ∀i m ys σ' H,W i m ys σ' H->((ma K p).stop i H/\Qp H)\/((ma K p).go i H/\∃m',m' < m/\∀x H',(ma K p).kA i H x H'->cY 0 x σ' H' λσ2 H2=>gQ σ2 H2 λb H3 =>
  if b=true then te σ2 H3 λy H4=>H4 D=some (.lst ys)/\ys.length < sizeLine/\W (i+1) m' (ys++[y]) σ2 (upd H4 D (.lst (ys++[y]))) else W (i+1) m' ys σ2 H3):=by
 refine fC (xs:=zs.map V.str) (λi ys σ2 H2=>ys=((zs.take i).map pr).map V.bl/\(∃y0,σ2=y0::rest)/\aB H H2/\H2 D=some (.lst ys))
  ⟨rfl,⟨none,hc⟩,ag hD _,ae⟩ (λi ys σ2 H2 _ h=>?_) (λi v ys σ2 H2 ex h=>?_) (λys σ2 H2 h=>?_)
 .obtain⟨_,_,sm,_⟩:=h;exact sm.tup hp
 .obtain⟨rfl,⟨y0,rfl⟩,sm,hd⟩:=h;rw [bh] at ex;obtain⟨z,ez,rfl⟩:=bR.mp ex;have li:=(ba.mp ez).1;refine goN (wm (Sd z (cR ez) _ _ sm ⟨hd,bA (by rw [az,az,dI];omega),?_,⟨_,rfl⟩,λb o hb=>?_,ae⟩))
  .rw [cu,ez,br,br];rfl
  rw [ai (λz=>by rw [z,hD] at hb;cases hb)];exact sm b o hb
 obtain⟨rfl,_,sm,hd⟩:=h;rw [az,cb] at hd;exact q H2 sm hd
end
theorem all_map (zs:List Str)(pr:Str->Bool):(zs.map pr).all id=zs.all pr:=by
 rw [List.all_map];rfl
def qL {x:Str}{K:aT}{H:Hp}{p D:Addr}{zs:List Str}{σ:St}{js:List (Nat×Str)}{cs:List (Option V)}{tif:TT}{Qp:Hp->Prop}(f:Str->Bool)(hσ:cZ [x] js σ=none::cs)(hp:aD K H p (zs.map V.str))(hz:zs.length<=1000)(hD:H D=none)
  (ht:∀z∈zs,∀H2 Q,aB H H2->Q (f z) H2->tif (some (.str z)::cs) H2 Q)(q:∀H2,aB H H2->H2 D=some (.lst ((zs.filter f).map V.str))->Qp H2) :
  ∃W:Nat->Nat->List V->St->Hp->Prop,(∃m,W 0 m [] (cZ [x] js σ) (upd H D (.lst []))) /\
 ∀i m ys σ' H,W i m ys σ' H->((iS K p).stop i H/\Qp H)\/((iS K p).go i H/\∃m',m' < m/\∀x H',(iS K p).kA i H x H'->cY 0 x σ' H' λσ2 H2=>tif σ2 H2 λb H3 =>
  if b=true then e_ 0 σ2 H3 λy H4=>H4 D=some (.lst ys)/\ys.length < sizeLine/\W (i+1) m' (ys++[y]) σ2 (upd H4 D (.lst (ys++[y]))) else W (i+1) m' ys σ2 H3):=by
 refine bH (xs:=zs.map V.str) (λi ys σ2 H5=>ys=((zs.take i).filter f).map V.str/\(∃y0,σ2=y0::cs)/\aB H H5/\H5 D=some (.lst ys)) ⟨rfl,⟨none,hσ⟩,ag hD _,ae⟩ (λi ys σ2 H5 _ h=>h.2.2.1.seq hp) (λi x ys σ2 H5 ex h=>?_) (λys σ2 H5 h=>?_)
 .obtain⟨rfl,⟨y0,rfl⟩,s5,e5⟩:=h;rw [bh] at ex;obtain⟨z,ez,rfl⟩:=bR.mp ex;have li:=(ba.mp ez).1;have lf:((zs.take i).filter f).length<=1000:=cz (iM _ _) (by rw [dI];omega);have tk:(zs.take (i+1)).filter f=(zs.take i).filter f++if f z=true then [z] else []:=by
   rw [cu,ez,kR]
   congr 1
   show List.filter f [z]=_;rw [iZ];rfl
  refine goN ?_;refine ht z (cR ez) H5 _ s5 ?_;refine dW (λc=>?_) (λc=>?_)
  .refine⟨_,rfl,e5,bA (by rw [az];omega),by rw [tk,aw c,br];rfl,⟨_,rfl⟩,λb o hb=>?_,ae⟩;rw [ai (λz=>by rw [z,hD] at hb;cases hb)];exact s5 b o hb
  exact⟨by rw [tk,ay c,eX],⟨_,rfl⟩,s5,e5⟩
 obtain⟨rfl,_,s5,e5⟩:=h;rw [az,cb] at e5;exact q H5 s5 e5
def ze {x:Str}{K:aT}{H:Hp}{p D:Addr}{zs:List Str}{σ:St}{js:List (Nat×Str)}{cs:List (Option V)}{tif:TT}{Qp:Hp->Prop}(f:Str->Bool)(hσ:cZ [x] js σ=none::cs)(hp:aX K H p (zs.map V.str))(hz:zs.length<=1000)(hD:H D=none)
  (ht:∀z∈zs,∀H2 Q,aB H H2->Q (f z) H2->tif (some (.str z)::cs) H2 Q)(q:∀H2,aB H H2->H2 D=some (.lst ((zs.filter f).map V.str))->Qp H2) :
  ∃W:Nat->Nat->List V->St->Hp->Prop,(∃m,W 0 m [] (cZ [x] js σ) (upd H D (.lst []))) /\
 ∀i m ys σ' H,W i m ys σ' H->((ma K p).stop i H/\Qp H)\/((ma K p).go i H/\∃m',m' < m/\∀x H',(ma K p).kA i H x H'->cY 0 x σ' H' λσ2 H2=>tif σ2 H2 λb H3 =>
  if b=true then e_ 0 σ2 H3 λy H4=>H4 D=some (.lst ys)/\ys.length < sizeLine/\W (i+1) m' (ys++[y]) σ2 (upd H4 D (.lst (ys++[y]))) else W (i+1) m' ys σ2 H3):=by
 refine fC (xs:=zs.map V.str) (λi ys σ2 H5=>ys=((zs.take i).filter f).map V.str/\(∃y0,σ2=y0::cs)/\aB H H5/\H5 D=some (.lst ys)) ⟨rfl,⟨none,hσ⟩,ag hD _,ae⟩ (λi ys σ2 H5 _ h=>h.2.2.1.tup hp) (λi x ys σ2 H5 ex h=>?_) (λys σ2 H5 h=>?_)
 .obtain⟨rfl,⟨y0,rfl⟩,s5,e5⟩:=h;rw [bh] at ex;obtain⟨z,ez,rfl⟩:=bR.mp ex;have li:=(ba.mp ez).1;have lf:((zs.take i).filter f).length<=1000:=cz (iM _ _) (by rw [dI];omega);have tk:(zs.take (i+1)).filter f=(zs.take i).filter f++if f z=true then [z] else []:=by
   rw [cu,ez,kR]
   congr 1
   show List.filter f [z]=_;rw [iZ];rfl
  refine goN ?_;refine ht z (cR ez) H5 _ s5 ?_;refine dW (λc=>?_) (λc=>?_)
  .refine⟨_,rfl,e5,bA (by rw [az];omega),by rw [tk,aw c,br];rfl,⟨_,rfl⟩,λb o hb=>?_,ae⟩;rw [ai (λz=>by rw [z,hD] at hb;cases hb)];exact s5 b o hb
  exact⟨by rw [tk,ay c,eX],⟨_,rfl⟩,s5,e5⟩
 obtain⟨rfl,_,s5,e5⟩:=h;rw [az,cb] at e5;exact q H5 s5 e5
end L2
namespace eG
open PySem L2 M11
abbrev xR:Stmt:=top 43
section
def jD (aa:List av):List Str:=(hd aa).filter λh=>!decide (h∈g7 aa (hd aa).length)
def rN (aa:List av)(s:Str):List Str:=(hd aa).filter λh=>!decide (h∈jH aa s (hd aa).length)
def zI (K:aT):Sp:=λvs H Q _=>∃(R:Addr)(rs:List Addr)(aa:List av)(cW:av),vs=[.ref R]/\aD K H R (rs.map V.ref)/\bN K H rs aa/\aa.length<=8/\(∀ru∈aa,ru.2.length<=3)/\aa[0]?=some cW /\
 ∀(t e u:Addr)(H':Hp),aB H H'->H' t=some (.tup [.ref e,.ref u])->H' e=some (.lst ((jD aa).map V.str))->H' u=some (.lst ((rN aa cW.1).map V.str))->Q (.ref t) H'
def gy:aJ ["_law_rules","_law_heads","_law_head","_law_parts","_law_ended","_law_met","_law_again"] ["_law_rules"] (au xR):=ju rfl rfl rfl rfl nofun
def Dr (F:iq K "_law_lacks" "_law_lacks" xR f fd)(T:Txt mg):bf P w K mg base fk 1 f fd ["_law_rules"] (zI K):=by
 refine F.ok gy (λvs H Q E h=>?_) (λdr A outer s H vs Q E hr h=>?_)
 .obtain⟨R,rs,aa,cW,rfl,_⟩:=h;rfl
 obtain⟨R,rs,aa,cW,rfl,hR,df,aZ,h3,vk,q⟩:=h;refine⟨_,aj (aI (i:=1) gy.nd rfl (Or.inr rfl) (bQ ak))
  (aj (cx cS rfl (a8 (pv 0)) (gU (n:=2) K rfl (aC (ar (i:=2) gy.nd rfl (bM rfl)) (aC (ar (i:=3) gy.nd rfl (bM rfl)) bW)))
   (aq (de (bT iB (pv 2) (pv 1) rfl) (aq (cD (hZ iN i6 i7 cN (pv 1) (ah (pv 2) ak)))) bx)))
  (aj (aI (i:=4) gy.nd rfl (Or.inr rfl) (bQ ak))
  (aj (aI (i:=5) gy.nd rfl (Or.inr rfl) (bQ (ah (bz cO (bz cH (pv 0) aA (λ_ _=>rfl)) aA (λ_ _=>rfl)) ak)))
  (aj (cx cS rfl (a8 (pv 1)) (ar (i:=6) gy.nd rfl (bM rfl))
   (aq (cx cS rfl (a8 (pv 0)) (gU (n:=2) K rfl (aC (ar (i:=2) gy.nd rfl (bM rfl)) (aC (ar (i:=3) gy.nd rfl (bM rfl)) bW)))
    (aj (lB (de (PW.pt (uI (ji (bL (nA rfl) rfl T.all boot_all (ah
      (bq ["_law_part"] [(4,"_law_ended"),(1,"_law_heads")] rfl (gJ (pv 3)) (a9 rfl rfl) nofun rfl nofun
       (λ_ _ _ _ _=>ar (i:=0) (show (["_law_part","_law_ended","_law_heads"]:List Str).Nodup by decide +kernel) rfl (bM rfl)) (λ_ _ _ _ _=>b9)
       (λ_ _ _ _ _=>Hk (fP (yi K) (pv 0) (pv 1) rfl) (ye (fP (fQ K) (pv 0) (pv 2) rfl)))) ak))) (oW (bT iB (pv 2) (pv 4) rfl))))
     (aq (cD (hZ iN i6 i7 cN (pv 4) (ah (pv 2) ak)))) bx))
    (aq (de (bT so (pv 2) (pv 5) rfl)
     (aq (cD (hZ iN PySem.F.slot_list_extend PySem.F.type_list_extend A0 (pv 5) (ah
      (bq ["_law_part"] [(5,"_law_met")] rfl (gJ (pv 3)) (a9 rfl rfl) nofun rfl nofun
       (λ_ _ _ _ _=>ar (i:=0) (show (["_law_part","_law_met"]:List Str).Nodup by decide +kernel) rfl (bM rfl)) (λ_ _ _ _ _=>fO (bT (fQ K) (pv 0) (pv 1) rfl)) (λ_ _ _ _ _=>pv 0)) ak)))) bx))))))
  (aq (bO (cy (ah
   (bq ["_law_head"] [(4,"_law_ended")] rfl (a8 (pv 1)) (a9 rfl rfl) nofun rfl nofun
    (λ_ _ _ _ _=>ar (i:=0) (show (["_law_head","_law_ended"]:List Str).Nodup by decide +kernel) rfl (bM rfl)) (λ_ _ _ _ _=>fO (bT (fQ K) (pv 0) (pv 1) rfl)) (λ_ _ _ _ _=>pv 0))
   (ah
   (bq ["_law_head"] [(5,"_law_met")] rfl (a8 (pv 1)) (a9 rfl rfl) nofun rfl nofun
    (λ_ _ _ _ _=>ar (i:=0) (show (["_law_head","_law_met"]:List Str).Nodup by decide +kernel) rfl (bM rfl)) (λ_ _ _ _ _=>fO (bT (fQ K) (pv 0) (pv 1) rfl)) (λ_ _ _ _ _=>pv 0)) ak))))))))),?_⟩
 nofun
 have ll:=bF df;refine⟨pL,λD hD=>?_⟩
 ac_rfl
 let Iz0:vp:=λi σ H1=>∃(y2 y3:Option V),σ=[bu R,bu D,y2,y3,none,none,none]/\H1=upd H D (.lst ((jK [] ((aa.take i).map (·.1))).map V.str))
 have sD:∀o,aB H (upd H D o):=λo=>ag hD o;refine⟨_,rfl,R,rfl,⟨_,(sD _).seq hR⟩,dG (xs:=rs.map V.ref) Iz0 ⟨none,none,rfl,rfl⟩ ?_ ?_ ?_⟩
 .rintro i σ H1 _ ⟨y2,y3,rfl,rfl⟩;exact(sD _).seq hR
 .intro i x σ H1 ex Gi
  ac_nf0
  obtain⟨y2,y3,rfl,rfl⟩:=Gi;rw [bh] at ex;obtain⟨r,er,rfl⟩:=bR.mp ex;obtain⟨ru,e1,p,v1,v2⟩:=df.get er;have li:=(ba.mp e1).1;have eS:jK [] ((aa.take (i+1)).map (·.1))=fh (jK [] ((aa.take i).map (·.1))) ru.1:=by
   rw [cu,e1];unfold jK;rw [br,pI];rfl
  have lD:=fg ((aa.take i).map (·.1)) [];rw [gO,az,dI] at lD;refine⟨r,_,rfl,(sD _).tup v1,rfl,_,_,rfl,_,_,rfl,rfl,?_⟩;refine⟨_,rfl,_,rfl,D,_,rfl,.inl (aD.of ae),rfl,eP _,_,rfl,?_⟩;rw [gX];refine dW (λc=>?_) (λc=>?_)
  .have nm:ru.1∉jK [] ((aa.take i).map (·.1)):=by simpa using c
   refine⟨_,rfl,.inl ⟨rfl,_,aD.of ae⟩,_,rfl,D,_,_,rfl,rfl,ae,bA (by rw [az];omega),?_⟩;refine⟨_,_,rfl,?_⟩;rw [ix,eS];unfold fh;rw [ay nm,br];rfl
  have im:ru.1∈jK [] ((aa.take i).map (·.1)):=by simpa using c
  refine⟨_,_,rfl,?_⟩;rw [eS];unfold fh;rw [aw im]
 rintro σ H1 ⟨y2,y3,rfl,rfl⟩;rw [az,ll,cb];have s1:=sD (.lst ((hd aa).map V.str));have eD:upd H D (.lst ((hd aa).map V.str)) D=some (.lst ((hd aa).map V.str)):=ae;rw [show jK [] (aa.map (·.1))=hd aa from rfl];generalize upd H D (.lst ((hd aa).map V.str))=H1 at s1 eD;have A5:(hd aa).length<=8:=by
  have:=fg (aa.map (·.1)) [];rw [gO,az] at this;show (jK [] (aa.map (·.1))).length<=8;omega
 ac_rfl
 refine⟨pL,λL hL=>?_⟩;have s2:=s1.trans (ag hL (.lst []));have T4:=ag hL (.lst []) _ _ eD;have nL:L≠D:=λz=>by rw [z,eD] at hL;cases hL
 have fL:H L=none:=s1.free hL;have e2:upd H1 L (.lst []) L=some (.lst []):=ae;generalize upd H1 L (.lst [])=H2 at s2 T4 e2
 ac_rfl
 obtain⟨r0,PY,p0,v10,v20⟩:=Paired.at_ df 0 cW vk;have zh:rC (rs.map V.ref) 0=some (.ref r0):=dq (j:=0) (by rw [bh,PY];rfl);refine⟨_,rfl,R,_,_,_,rfl,rfl,s2.seq hR,zh,r0,_,_,_,rfl,rfl,s2.tup v10,rfl,Ip,λM hM=>?_⟩;have s3:=s2.trans (ag hM (.lst [.str cW.1]));have BY:=ag hM (.lst [.str cW.1]) _ _ T4;have LG:=ag hM (.lst [.str cW.1]) _ _ e2;have nM:M≠D:=λz=>by rw [z,T4] at hM;cases hM
 have Vo:M≠L:=λz=>by rw [z,e2] at hM;cases hM
 have fM:H M=none:=s2.free hM;have LF:upd H2 M (.lst [.str cW.1]) M=some (.lst ([cW.1].map V.str)):=ae;generalize upd H2 M (.lst [.str cW.1])=H3 at s3 BY LG LF
 ac_rfl
 let wV:vp:=λi σ H3=>∃(es ms:List Str)(y2 y3 y6:Option V),σ=[bu R,bu D,y2,y3,bu L,bu M,y6]/\aB H H3/\H3 D=some (.lst ((hd aa).map V.str))/\H3 L=some (.lst (es.map V.str))/\H3 M=some (.lst (ms.map V.str))/\es=g7 aa i/\ms=jH aa cW.1 i/\es.length<=8 * i/\ms.length<=1+24 * i
 refine⟨_,rfl,D,rfl,⟨_,aD.of BY⟩,dG (xs:=(hd aa).map V.str) wV ⟨[],[cW.1],_,_,_,rfl,s3,BY,LG,LF,rfl,rfl,by simp,by simp⟩ ?_ ?_ ?_⟩
 .rintro i σ H3 _ ⟨es,ms,y2,y3,y6,rfl,s3,BY,_⟩;exact aD.of BY
 .intro i x σ H3 ex Gi
  ac_nf0
  obtain⟨es,ms,y2,y3,y6,rfl,s3,BY,LG,LF,he,hm,PM,PB⟩:=Gi;have li:=(ba.mp ex).1;rw [az] at li;refine goN ?_
  ac_nf
  let EL:vp:=λj σ H4=>∃(qE og:List Str)(y2 y3:Option V),σ=[bu R,bu D,y2,y3,bu L,bu M,some x]/\aB H H4/\H4 D=some (.lst ((hd aa).map V.str))/\H4 L=some (.lst (qE.map V.str))/\H4 M=some (.lst (og.map V.str))/\qE=qb true (hd aa) es (aa.take j)/\og=(aa.take j).foldl gK ms/\qE.length<=8 * i+j/\og.length<=1+24 * i+3 * j
  refine⟨_,rfl,R,rfl,⟨_,s3.seq hR⟩,dG (xs:=rs.map V.ref) EL ⟨es,ms,_,_,rfl,s3,BY,LG,LF,rfl,rfl,∅,∅⟩ ?_ ?_ ?_⟩
  .rintro j σ H4 _ ⟨qE,og,y2,y3,rfl,s4,_⟩;exact s4.seq hR
  .intro j x2 σ H4 yU Gi
   ac_nf0
   obtain⟨qE,og,y2,y3,rfl,s4,LH,P9,Ot,E4,PD,NP,NG⟩:=Gi;have lj:=(ba.mp yU).1;rw [az] at lj;rw [bh] at yU;obtain⟨r,er,rfl⟩:=bR.mp yU;obtain⟨ru,e1,p,v1,v2⟩:=df.get er;have ft:=h3 ru (cR e1);have pe:qb true (hd aa) es (aa.take (j+1))=cV true (hd aa) qE ru:=by
    rw [E4,cu,e1];unfold qb;rw [pI];rfl
   have pm:(aa.take (j+1)).foldl gK ms=gK og ru:=by
    rw [PD,cu,e1,pI];rfl
   refine⟨r,_,rfl,s4.tup v1,rfl,_,_,rfl,_,_,rfl,rfl,?_⟩
   ac_nf
   refine⟨λσ H5=>σ=[bu R,bu D,some (.str ru.1),bu p,bu L,bu M,some x]/\aB H H5/\H5 D=some (.lst ((hd aa).map V.str))/\H5 L=some (.lst ((qb true (hd aa) es (aa.take (j+1))).map V.str))/\H5 M=some (.lst (og.map V.str))/\(qb true (hd aa) es (aa.take (j+1))).length<=8 * i+(j+1),?_,?_⟩
   .refine⟨_,rfl,p,rfl,⟨_,s4.tup v2⟩,λD2 iQ=>wK (zs:=ru.2) [bu L,bu D] (λz=>decide (z∈qE) || (true && !decide (z∈hd aa))) rfl (s4.tup v2) ∅ iQ (λz _ H5 Qy s5 hq=>?_) λH5 s5 P_=>?_⟩
    .refine⟨_,rfl,_,rfl,L,_,rfl,.inl (aD.of (s5 _ _ P9)),rfl,eP _,?_⟩;refine⟨_,rfl,?_⟩;rw [gX];show if decide (z∈qE)=true then _ else _;refine dW (λc=>?_) (λc=>?_)
     .rw [c] at hq;exact hq
     have c':decide (z∈qE)=false:=by simpa using c
     rw [c',Bool.false_or,pA] at hq;refine⟨_,rfl,_,rfl,D,_,rfl,.inl (aD.of (s5 _ _ LH)),rfl,eP _,?_⟩;rw [gX];exact hq
    refine⟨D2,_,rfl,aD.of P_,_,rfl,?_⟩;rw [all_map];have vH:=s4.trans s5;have HR:=s5 _ _ P9;refine dW (λc=>?_) (λc=>?_)
    .refine⟨_,rfl,_,rfl,L,_,rfl,.inl (aD.of HR),rfl,eP _,_,rfl,?_⟩;rw [gX];show if (!decide (ru.1∈qE))=true then _ else _;refine dW (λc2=>?_) (λc2=>?_)
     .refine⟨_,rfl,.inl ⟨rfl,_,aD.of HR⟩,_,rfl,L,_,_,rfl,rfl,HR,bA (by rw [az];omega),?_⟩;have HP:cV true (hd aa) qE ru=qE++[ru.1]:=by
       unfold cV;rw [c,pA,aw c2]
      refine⟨rfl,λb o hb=>?_,by rw [ai (du nL)];exact s5 _ _ LH,by rw [ae,pe,HP,br];rfl,by rw [ai Vo];exact s5 _ _ Ot,by rw [pe,HP,cC];simp;omega⟩;rw [ai (λz=>by rw [z,fL] at hb;cases hb)];exact vH b o hb
     have HP:cV true (hd aa) qE ru=qE:=by
      unfold cV;rw [c,pA,ay c2]
     exact⟨rfl,vH,s5 _ _ LH,by rw [pe,HP];exact HR,s5 _ _ Ot,by rw [pe,HP];omega⟩
    have HP:cV true (hd aa) qE ru=qE:=by
     unfold cV;rw [ay (λz=>c (nS.mp z).1)]
    exact⟨rfl,vH,s5 _ _ LH,by rw [pe,HP];exact HR,s5 _ _ Ot,by rw [pe,HP];omega⟩
   rintro σ H5 ⟨rfl,s5,P_,HR,Oq,VP⟩;refine⟨_,rfl,_,rfl,M,_,rfl,.inl (aD.of Oq),rfl,eP _,_,rfl,?_⟩;rw [gX];show if decide (ru.1∈og)=true then _ else _;refine dW (λc=>?_) (λc=>?_)
   .have c':ru.1∈og:=eh c;have P0:gK og ru=og++ru.2.filter (λp=>!decide (p∈og)):=by
     unfold gK;rw [aw c']
    refine⟨_,rfl,.inl ⟨rfl,_,aD.of Oq⟩,_,rfl,p,rfl,⟨_,s5.tup v2⟩,λD6 Lq=>ze (λz=>!decide (z∈og)) rfl (s5.tup v2) ∅ Lq (λz _ H6 Q6 s6 hq=>?_) λH6 s6 TZ=>?_⟩
    .refine⟨_,rfl,_,rfl,M,_,rfl,.inl (aD.of (s6 _ _ Oq)),rfl,eP _,_,rfl,?_⟩;rw [gX];exact hq
    have eM6:=s6 _ _ Oq;have lf:(ru.2.filter λp=>!decide (p∈og)).length<=ru.2.length:=iM _ _;refine⟨M,D6,_,_,rfl,rfl,eM6,TZ,fits (by rw [az,az];omega),?_⟩;refine⟨_,gK og ru,_,_,rfl,λb o hb=>?_,by rw [ai (du nM)];exact s6 _ _ P_,by rw [ai (du Vo)];exact s6 _ _ HR,by rw [ae,P0,br],rfl,pm.symm,VP,by rw [P0,cC];omega⟩;rw [ai (λz=>by rw [z,fM] at hb;cases hb)];exact s6 b o (s5 b o hb)
   have P0:gK og ru=og:=by
    unfold gK;rw [ay (λz=>c (dO z))]
   exact⟨_,og,_,_,rfl,s5,P_,HR,Oq,rfl,by rw [pm,P0],VP,∅⟩
  rintro σ H4 ⟨qE,og,y2,y3,rfl,s4,LH,P9,Ot,E4,PD,NP,NG⟩;rw [az,ll] at NP NG;rw [az,ll,cb] at E4 PD;exact⟨qE,og,_,_,_,rfl,s4,LH,P9,Ot,by rw [E4,he];rfl,by rw [PD,hm];rfl,∅,∅⟩
 rintro σ H3 ⟨es,ms,y2,y3,y6,rfl,s3,BY,LG,LF,he,hm,PM,PB⟩;rw [az] at he hm;refine⟨_,rfl,D,rfl,⟨_,aD.of BY⟩,λD6 Lq=>qL (λz=>!decide (z∈es)) rfl (aD.of BY) ∅ Lq (λz _ H6 Q6 s6 hq=>?_) λH6 s6 TZ=>?_⟩
 .refine⟨_,rfl,_,rfl,L,_,rfl,.inl (aD.of (s6 _ _ LG)),rfl,eP _,_,rfl,?_⟩;rw [gX];exact hq
 refine⟨_,rfl,D,rfl,⟨_,aD.of (s6 _ _ BY)⟩,λD7 N3=>qL (λz=>!decide (z∈ms)) rfl (aD.of (s6 _ _ BY)) ∅ N3 (λz _ H7 Q7 s7 hq=>?_) λH7 s7 eD7=>?_⟩
 .refine⟨_,rfl,_,rfl,M,_,rfl,.inl (aD.of (s7 _ _ (s6 _ _ LF))),rfl,eP _,_,rfl,?_⟩;rw [gX];exact hq
 refine⟨ou,λt ht=>?_⟩;have s8:=ag ht (.tup [.ref D6,.ref D7]);refine q t D6 D7 _ (((s3.trans s6).trans s7).trans s8) ae ?_ ?_
 .unfold jD;rw [<-he];exact s8 _ _ (s7 _ _ TZ)
 unfold rN;rw [<-hm];exact s8 _ _ eD7
end
open PySem L2 M11 PySem.W
section
def nK (P:Program)(w:World)(K:aT)(mg:Str->Option Value)(base:Heap) (k:Nat)(x:Str) (ps:List Str)(sp:Sp):Prop :=
 ∃f fd,bf P w K mg base (jX P w) k f fd ps sp/\Binds K fd ps []/\PySem.W.keepIn K (.ref f)=true/\mg x=some (.ref f)
theorem nK.mono {j k:Nat}{x:Str}{ps:List Str}{sp:Sp}(c:nK P w K mg base j x ps sp)(h:j<=k):nK P w K mg base k x ps sp :=
 let ⟨f,fd,a,b⟩:=c;⟨f,fd,a.mono h,b⟩
def FJ {N:List Str}{qual:Str}{scope:Scope}{g:Addr}{cd:Value}{A:Around}{outer:List Env}{s₀:Shared}{H₀:Hp}{E:XK}{k:Nat}{x:Str}{ps:List Str}{sp:Sp}{e:Expr}{es:List Expr}{t:TA}{p pos:Pos}(c:nK P w K mg base k x ps sp)
  (hr:cX k (d6 (jX P w) P w K mg base N qual scope g cd A outer s₀ H₀ E).A)(hg:Gl (d6 (jX P w) P w K mg base N qual scope g cd A outer s₀ H₀ E) x)(ha:PA (d6 (jX P w) P w K mg base N qual scope g cd A outer s₀ H₀ E) (e::es) t)
  (qr:(x == ("__debug__":Str))=false:=by decide)(he:starEach (e::es) (d6 (jX P w) P w K mg base N qual scope g cd A outer s₀ H₀ E).env=(false,eval e (d6 (jX P w) P w K mg base N qual scope g cd A outer s₀ H₀ E).env)::starEach es (d6 (jX P w) P w K mg base N qual scope g cd A outer s₀ H₀ E).env:=by rfl)
  (ni:(backTo pos (starEach es (d6 (jX P w) P w K mg base N qual scope g cd A outer s₀ H₀ E).env)).any (·.1)=false:=by rfl) :
  PE (d6 (jX P w) P w K mg base N qual scope g cd A outer s₀ H₀ E) (.Call (.Name x p) (e::es) [] pos) (Ci sp [] E t):=by
 obtain⟨f,fd,G,b,kp,m⟩:=c;exact zZ G hr hg m kp b .nil (MJ λ_ _ _ z=>z) ha qr he ni
def zm.Q9 {x qual:Str}{st:Stmt}{f:Addr}{fd:FuncData}{N ps:List Str}{k:Nat}{sp:Sp}(F:zm K x qual st f fd)(S:aJ N ps (au st))(len:∀vs H Q E,sp vs H Q E->vs.length=ps.length)
  (gb:∀(dr:Value)(A:Around)(outer:List Env)(s:Shared)(H:Hp)(vs:List V)(Q:VK)(E:XK),cX k (A.deeper (PyProof.Rows.envOfC qual (au st) s.heap.objs.size f dr))->sp vs H Q E ->
   ∃t,vo (d6 (jX P w) P w K mg base N qual (au st) f dr A outer s H E) (bB st) t/\t { nx:=λ_ H'=>Q .cU H',rt:=Q } (start N vs) H):bf P w K mg base (jX P w) (k+1) f fd ps sp:=by
 obtain⟨oc,od,kV,doc,pm,an,dr,ct,uM,T,o,n,rfl,lk,qv,_⟩:=F.ex;refine wq lk qv S len λA outer s H vs Q E hr sM=>?_;obtain⟨t,h,q⟩:=gb dr A outer s H vs Q E hr sM;exact⟨t,h,q⟩
def vF (K:aT)(Cg T1 T2 T3 CE CU CL:Addr):Sp:=λvs H Q E=>∃(H0:Hp)(g gx R:Addr)(sv:V)(rs ss:List Addr)(aa str:List av)(cW:av),vs=[.ref g,.ref R,sv]/\aB H0 H/\H0 g=none/\H g=some (.ins Cg gx [])/\aD K H0 R (rs.map V.ref)/\bN K H0 rs aa/\aa.length < 64/\(∀ru∈aa,ru.2.length<=8)/\aa[0]?=some cW/\(∀h∈hd aa,l8 h) /\
 StrIn K H0 sv ss str/\str.length<=1000/\(∀ru∈str,ru.2.length<=8)/\(str.flatMap (·.2)).Nodup/\BR aa/\Av T1 T2 T3 H0 /\
 ∀H',l_ T1 T2 T3 H0 H'->∀g,bU M11.bl aa (jB aa) g->cQ M11.bl aa g ->
  (∀ms rk,cW.1∈ms->(∀x∈ms,qT aa cW.1 x)->jx aa aa.length ms->(∀h∈hd aa,∃n,g h=some n)->(∀h∈hd aa,h∈ms)->iJ aa rk->Q .cU H') /\
  (∀m dx,(hd aa).filter (λh=>(g h).isNone)≠[]->H' dx=some (.xd [("names",.ref m)])->H' m=some (.lst (((hd aa).filter λh=>(g h).isNone).map V.str))->E (.ref CE) (some dx) H') /\
  (∀ms m dx,cW.1∈ms->(∀x∈ms,qT aa cW.1 x)->jx aa aa.length ms->(∀h∈hd aa,∃n,g h=some n)->(hd aa).filter (λh=>!decide (h∈ms))≠[]->H' dx=some (.xd [("names",.ref m)])->H' m=some (.lst (((hd aa).filter λh=>!decide (h∈ms)).map V.str))->E (.ref CU) (some dx) H') /\
  (∀ms m dx xs,cW.1∈ms->(∀x∈ms,qT aa cW.1 x)->jx aa aa.length ms->(∀h∈hd aa,∃n,g h=some n)->(∀h∈hd aa,h∈ms)->H' dx=some (.xd [("steps",.ref m)])->H' m=some (.lst xs)->E (.ref CL) (some dx) H')
def AV {Cg C C3 T1 T2 T3 CE CU CL fB fL:Addr}{Wg Wd:FuncData}(F:zm K "__init__" "Grammar.__init__" uG f fd)(T:Txt mg)(G:GC K Cg)(GR:nK P w K mg base 6 "refuse_faults" ["rules","strengths"] (mK K T1 T2 CE CU CL))(GS:aM P w K mg base 6 "standings_by_part" ["rules"] (G9 K))
  (FB:bf P w K mg base fk 5 fB Wg ["self","rules"] (zK K C))(MB:Mk K C fB)(BB:Binds K Wg ["self","rules"] [])(mB:mg "BeginTable"=some (.ref C))
  (FL:bf P w K mg base fk 5 fL Wd ["self","rules","begin_table"] (zJ K C C3 T1 T3))(ML:Mk K C3 fL)(BL:Binds K Wd ["self","rules","begin_table"] [])(mL:mg "LeastTrees"=some (.ref C3)):bf P w K mg base (jX P w) 7 f fd ["self","rules","strengths"] (vF K Cg T1 T2 T3 CE CU CL):=by
 refine F.Q9 Fu (λvs H Q E h=>?_) (λdr A outer s H vs Q E hr h=>?_)
 .obtain⟨H0,g,gx,R,sv,rs,ss,aa,str,cW,rfl,_⟩:=h;rfl
 obtain⟨H0,g,gx,R,sv,rs,ss,aa,str,cW,rfl,s0,f0,eg,hR,df,aZ,h8,vk,Li,iU,Se,Si,Sh,bd,S_,q⟩:=h;refine⟨_,aj (ff (pv 0) (aY d7 rfl T.lst eB (ah (pv 1) ak)) rfl)
  (aj (lB (ff (pv 0) (vO (eI (Jf (pv 2))) (bQ ak) (aY d7 rfl T.lst eB (ah (pv 2) ak))) rfl))
  (aj (cD (FJ GR hr rfl (ah (dS (pv 0) rfl) (ah (dS (pv 0) rfl) ak))))
  (aj (ff (pv 0) (cv GS hr rfl (ah (dS (pv 0) rfl) ak)) rfl)
  (aj (ff (pv 0) (zY MB FB hr rfl mB BB .nil sf (ah (dS (pv 0) rfl) ak)) rfl)
  (aq (ff (pv 0) (zY ML FL hr rfl mL BL .nil sf (ah (dS (pv 0) rfl) (ah (dS (pv 0) rfl) ak))) rfl)))))),?_⟩
 refine⟨_,rfl,R,_,rfl,.inl (s0.seq hR),λR2 Gh=>?_⟩;have TN:=ag Gh (.lst (rs.map V.ref)) _ _ eg;have qF:upd H R2 (.lst (rs.map V.ref)) R2=some (.lst (rs.map V.ref)):=ae;have Vb:=s0.trans (ag Gh (.lst (rs.map V.ref)));generalize upd H R2 (.lst (rs.map V.ref))=H1 at TN qF Vb;refine⟨_,rfl,g,Cg,gx,[],rfl,TN,G.cls,G.a1,(by show 0 < 1000;decide),?_⟩;generalize rm:c_ "rules" (.ref R2) []=rp;have Ly:upd H1 g (.ins Cg gx rp) R2=some (.lst (rs.map V.ref)):=by rw [ai (λz=>by rw [z,TN] at qF;cases qF)];exact qF
 have I8:aB H0 (upd H1 g (.ins Cg gx rp)):=λc o hc=>by rw [ai (λz=>by rw [z,f0] at hc;cases hc)];exact Vb c o hc
 have P5:upd H1 g (.ins Cg gx rp) g=some (.ins Cg gx rp):=ae;generalize upd H1 g (.ins Cg gx rp)=H2 at Ly I8 P5;refine⟨λσ H3=>σ=[bu g,bu R,some sv]/\∃S2 fs,aB H0 H3/\H3 g=some (.ins Cg gx fs)/\fs=c_ "strengths" (.ref S2) rp/\H3 R2=some (.lst (rs.map V.ref))/\H3 S2=some (.lst (ss.map V.ref))/\H0 S2=none,?_,?_⟩
 .have fin:∀S2,H2 S2=none->(λH3=>∃S2 fs,aB H0 H3/\H3 g=some (.ins Cg gx fs)/\fs=c_ "strengths" (.ref S2) rp/\H3 R2=some (.lst (rs.map V.ref))/\H3 S2=some (.lst (ss.map V.ref))/\H0 S2=none) (upd (upd H2 S2 (.lst (ss.map V.ref))) g (.ins Cg gx (c_ "strengths" (.ref S2) rp)))/\upd H2 S2 (.lst (ss.map V.ref)) g=some (.ins Cg gx rp):=λS2 HG=>by
   have sl:=ag HG (.lst (ss.map V.ref));have eS:upd H2 S2 (.lst (ss.map V.ref)) S2=some (.lst (ss.map V.ref)):=ae;have Oi:=sl _ _ P5;refine⟨⟨S2,_,λc o hc=>?_,ae,rfl,?_,?_,I8.free HG⟩,Oi⟩
   .rw [ai (λz=>by rw [z,f0] at hc;cases hc)];exact sl _ _ (I8 c o hc)
   .rw [ai (λz=>by rw [z,P5] at Ly;cases Ly)];exact sl _ _ Ly
   rw [ai (λz=>by rw [z,P5] at HG;cases HG)];exact eS
  rcases iU with ⟨rfl,rfl,rfl⟩ | ⟨S,rfl,hS,Lj⟩
  .refine⟨_,rfl,_,rfl,?_⟩;refine qm ?_;refine⟨pL,λS2 HG=>?_⟩;obtain⟨x1,x2⟩:=fin S2 HG;exact⟨_,rfl,g,Cg,gx,rp,rfl,x2,G.cls,G.a2,(by rw [<-rm];show 1 < 1000;decide),rfl,x1⟩
  refine⟨_,rfl,_,rfl,?_⟩;refine gM ?_;refine⟨_,rfl,S,_,rfl,.inl (I8.seq hS),λS2 HG=>?_⟩;obtain⟨x1,x2⟩:=fin S2 HG;exact⟨_,rfl,g,Cg,gx,rp,rfl,x2,G.cls,G.a2,(by rw [<-rm];show 1 < 1000;decide),rfl,x1⟩
 rintro σ H3 ⟨rfl,S2,E6,AK,Oi,wg,Ws,Wq,fS2⟩;have M4:E6.lookup ("rules":Str)=some (.ref R2):=by rw [wg,<-rm];rfl
 have Pr:E6.lookup ("strengths":Str)=some (.ref S2):=by rw [wg,<-rm];rfl
 have Sf:bN K H3 ss str:=by
  rcases iU with ⟨_,rfl,rfl⟩ | ⟨S,_,_,Lj⟩
  .exact .nil
  exact Lj.same AK
 have wZ:=S_.same AK;refine⟨_,rfl,g,Cg,gx,E6,_,rfl,Oi,G.cls,G.a1,M4,_,rfl,g,Cg,gx,E6,_,rfl,Oi,G.cls,G.a2,Pr,R2,S2,rs,ss,aa,str,cW,rfl,aD.of Ws,df.same AK,∅,h8,vk,Li,aD.of Wq,Sf,Se,Si,Sh,bd,wZ.t1,wZ.t2,wZ.Ho,λH4 IY U2 U0 gq Mo seq=>⟨λms rk vD K7 MX hl JM nl=>?_,λm dx a Ek em=>(q H4 (λc o n1 n2 _ hc=>IY c o n1 n2 (AK c o hc)) gq Mo seq).2.1 m dx a Ek em,λms m dx a1 a2 a3 a4 a5 Ek em=>(q H4 (λc o n1 n2 _ hc=>IY c o n1 n2 (AK c o hc)) gq Mo seq).2.2.1 ms m dx a1 a2 a3 a4 a5 Ek em,λms m dx xs a1 a2 a3 a4 a5 Ek em=>(q H4 (λc o n1 n2 _ hc=>IY c o n1 n2 (AK c o hc)) gq Mo seq).2.2.2 ms m dx xs a1 a2 a3 a4 a5 Ek em⟩⟩;obtain⟨b,gd⟩:=Gp bd vk Mo hl K7 JM nl;have F4:=Kp.of2 IY wZ.t1 wZ.t2;have t4:Av T1 T2 T3 H4:=⟨U2,U0,Tab.s2 wZ.t3 IY wZ.t1 wZ.t2 wZ.Hn.symm wZ.Hm.symm,wZ.Ho,wZ.Hn,wZ.Hm⟩;have S04:l_ T1 T2 T3 H0 H4:=λc o n1 n2 _ hc=>IY c o n1 n2 (AK c o hc);have Wx:=F4 _ _ Oi (λ_ z=>by cases z);have Wr:=F4.lst Ws;have es4:=F4.lst Wq;have Nx:bN K H4 rs aa:=F4.aa (df.same AK);clear U2 U0 IY wZ;refine⟨_,rfl,g,Cg,gx,E6,_,rfl,Wx,G.cls,G.a1,M4,R2,rs,aa,rfl,aD.of Wr,Nx,∅,h8,λds H5 fds vH=>?_⟩;have LA:=vH _ _ Wx;have er5:=vH _ _ Wr;have es5:=vH _ _ es4;have Sl:=Nx.same vH;have t5:=t4.same vH;have S05:l_ T1 T2 T3 H0 H5:=λc o n1 n2 n3 hc=>vH _ _ (S04 c o n1 n2 n3 hc);refine⟨_,rfl,g,Cg,gx,E6,rfl,LA,G.cls,G.a4,(by rw [wg,<-rm];show 2 < 1000;decide),?_⟩;generalize DR:c_ "standings" (.ref ds) E6=xi;have Ri:∀{Hx:Hp}{fx fy:List (Str×V)},Hx g=some (.ins Cg gx fx)->l_ T1 T2 T3 H0 Hx->l_ T1 T2 T3 H0 (upd Hx g (.ins Cg gx fy)):=λ{Hx fx fy} hg hs c o n1 n2 n3 hc=>by
  rw [ai (λz=>by rw [z,f0] at hc;cases hc)];exact hs c o n1 n2 n3 hc
 have Pq:∀{Hx:Hp}{fx fy:List (Str×V)}{b:Addr}{xs:List V},Hx g=some (.ins Cg gx fx)->Hx b=some (.lst xs)->upd Hx g (.ins Cg gx fy) b=some (.lst xs):=λ{Hx fx fy b xs} hg hb=>by
  rw [ai (λz=>by rw [z,hg] at hb;cases hb)];exact hb
 have W4:=Ri (fy:=xi) LA S05;have TC:=Pq (fy:=xi) LA er5;have Wo:=Pq (fy:=xi) LA es5;have JH:bN K (upd H5 g (.ins Cg gx xi)) rs aa:=Sl.keep λ_ _ z=>fX LA z;have t6:Av T1 T2 T3 (upd H5 g (.ins Cg gx xi)):=t5.Fi LA;have Oh:upd H5 g (.ins Cg gx xi) g=some (.ins Cg gx xi):=ae;generalize upd H5 g (.ins Cg gx xi)=H6 at W4 TC Wo JH t6 Oh;have YL:xi.lookup ("rules":Str)=some (.ref R2):=by rw [<-DR,wg,<-rm];rfl
 refine⟨_,rfl,g,Cg,gx,xi,_,rfl,Oh,G.cls,G.a1,YL,λx dx hx Lm Rt=>?_⟩;have sx:aB H6 (upd (upd H6 dx (.own x)) x (.ins C dx [])):=(ag Lm _).trans (ag (by rw [ai Rt.symm];exact hx) _);refine⟨H6,x,dx,R2,rs,aa,rfl,sx,hx,ae,aD.of TC,JH,∅,h8,λe d bg kE aQ ps bX H7 S7 m7 emp _ _ beg _=>⟨rfl,?_⟩⟩;have Lz:=S7.sm _ _ Oh;have er7:=S7.sm _ _ TC;have es7:=S7.sm _ _ Wo;have t7:=t6.same S7.sm;have Sk:=JH.same S7.sm;have S07:l_ T1 T2 T3 H0 H7:=λc o n1 n2 n3 hc=>S7.sm _ _ (W4 c o n1 n2 n3 hc);refine⟨_,rfl,g,Cg,gx,xi,rfl,Lz,G.cls,G.a3,(by rw [<-DR,wg,<-rm];show 3 < 1000;decide),?_⟩;generalize JT:c_ "begin_table" (.ref x) xi=yQ;have W3:=Ri (fy:=yQ) Lz S07;have TB:=Pq (fy:=yQ) Lz er7;have Wm:=Pq (fy:=yQ) Lz es7;have Nw:bN K (upd H7 g (.ins Cg gx yQ)) rs aa:=Sk.keep λ_ _ z=>fX Lz z;have t8:Av T1 T2 T3 (upd H7 g (.ins Cg gx yQ)):=t7.Fi Lz;have P4:upd H7 g (.ins Cg gx yQ) g=some (.ins Cg gx yQ):=ae;have B8:rH K C (upd H6 g (.ins Cg gx yQ)) (upd H7 g (.ins Cg gx yQ)) x e d bg kE aQ ps bX:=S7.Fi Oh (λz=>by rw [z,Oh] at hx;cases hx);generalize upd H7 g (.ins Cg gx yQ)=H8 at W3 TB Wm Nw t8 P4 B8;have RO:yQ.lookup ("rules":Str)=some (.ref R2):=by rw [<-JT,<-DR,wg,<-rm];rfl
 have YO:yQ.lookup ("begin_table":Str)=some (.ref x):=by rw [<-JT,<-DR,wg,<-rm];rfl
 refine⟨_,rfl,g,Cg,gx,yQ,_,rfl,P4,G.cls,G.a1,RO,_,rfl,g,Cg,gx,yQ,_,rfl,P4,G.cls,G.a3,YO,λy dy hy ZJ Ye=>?_⟩;have sy:aB H8 (upd (upd H8 dy (.own y)) y (.ins C3 dy [])):=(ag ZJ _).trans (ag (by rw [ai Ye.symm];exact hy) _);have Ju:=beg.len ∅ h8;refine⟨H8,_,y,dy,R2,x,e,d,bg,rs,aa,kE,aQ,ps,bX,rfl,sy,hy,ae,aD.of TB,Nw,aZ,h8,gd.least,B8,emp,Ju,t8.t1,t8.t3,t8.Hn,λH9 QT QM Xr=>⟨rfl,?_⟩⟩;have Jv:=Kp.of2 QT t8.t1 t8.t3;have Ww:=Jv _ _ P4 (λ_ z=>by cases z);have er9:=Jv.lst TB;have es9:=Jv.lst Wm;have t9:Av T1 T2 T3 H9:=⟨QM,Tab.s2 t8.t2 QT t8.t1 t8.t3 t8.Ho.symm t8.Hm,Xr,t8.Ho,t8.Hn,t8.Hm⟩;have S09:l_ T1 T2 T3 H0 H9:=λc o n1 n2 n3 hc=>QT _ _ n1 n3 (W3 c o n1 n2 n3 hc);refine⟨_,rfl,g,Cg,gx,yQ,rfl,Ww,G.cls,G.a5,(by rw [<-JT,<-DR,wg,<-rm];show 4 < 1000;decide),?_⟩;exact(q _ (Ri Ww S09) gq Mo seq).1 ms rk vD K7 MX hl JM nl
end
abbrev xN:Stmt:=top 44
section
def zC (K:aT)(T1 T2 T3 CE CU CL:Addr):Sp:=λvs H Q _=>∃(R:Addr)(rs:List Addr)(aa:List av)(cW:av),vs=[.ref R]/\aD K H R (rs.map V.ref)/\bN K H rs aa/\aa.length < 64/\(∀ru∈aa,ru.2.length<=8)/\aa[0]?=some cW/\(∀h∈hd aa,l8 h)/\BR aa/\Av T1 T2 T3 H /\
 ∀H',l_ T1 T2 T3 H H'->∀g,bU M11.bl aa (jB aa) g->cQ M11.bl aa g ->
  (∀ms rk,cW.1∈ms->(∀x∈ms,qT aa cW.1 x)->jx aa aa.length ms->(∀h∈hd aa,∃n,g h=some n)->(∀h∈hd aa,h∈ms)->iJ aa rk->Q .cU H') /\
  (∀ea m dx,(hd aa).filter (λh=>(g h).isNone)≠[]->E_ H' ea CE dx [("names",.ref m)]->H' m=some (.lst (((hd aa).filter λh=>(g h).isNone).map V.str))->Q (.ref ea) H') /\
  (∀ms ea m dx,cW.1∈ms->(∀x∈ms,qT aa cW.1 x)->jx aa aa.length ms->(∀h∈hd aa,∃n,g h=some n)->(hd aa).filter (λh=>!decide (h∈ms))≠[]->E_ H' ea CU dx [("names",.ref m)]->H' m=some (.lst (((hd aa).filter λh=>!decide (h∈ms)).map V.str))->Q (.ref ea) H') /\
  (∀ms ea m dx xs,cW.1∈ms->(∀x∈ms,qT aa cW.1 x)->jx aa aa.length ms->(∀h∈hd aa,∃n,g h=some n)->(∀h∈hd aa,h∈ms)->E_ H' ea CL dx [("steps",.ref m)]->H' m=some (.lst xs)->Q (.ref ea) H')
def oU:aJ ["_law_rules","_law_caught","e"] ["_law_rules"] (au xN):=ju rfl rfl rfl rfl nofun
def Dh {Cg T1 T2 T3 CE CU CL W fG:Addr}{We:FuncData}(F:iq K "_law_told" "_law_told" xN f fd)(MG:Mk K Cg fG)(FG:bf P w K mg base (jX P w) 7 fG We ["self","rules","strengths"] (vF K Cg T1 T2 T3 CE CU CL))(B1:Binds K We ["self","rules","strengths"] [.none])(mG:mg "Grammar"=some (.ref Cg))(mW:mg "WrightError"=some (.ref W))
  (xE:exmOne K (.ref CE) (.ref W)=some true)(xU:exmOne K (.ref CU) (.ref W)=some true)(xL:exmOne K (.ref CL) (.ref W)=some true):bf P w K mg base fk 9 f fd ["_law_rules"] (zC K T1 T2 T3 CE CU CL):=by
 refine F.ok oU (λvs H Q E h=>?_) (λdr A outer s H vs Q E hr h=>?_)
 .obtain⟨R,rs,aa,cW,rfl,_⟩:=h;rfl
 obtain⟨R,rs,aa,cW,rfl,hR,df,aZ,h8,vk,Li,bd,hT,q⟩:=h;refine⟨_,aj (aI (i:=1) oU.nd rfl (bM rfl) C2)
  (aj (FA (j:=2) (dvs:=[.cU]) rfl rfl (λ_ _ z=>z) MG FG hr rfl mG B1 (.cons rfl .nil) (ah (pv 0) ak) oU.nd rfl mW rfl rfl (λea=>aq (aI (i:=1) oU.nd rfl (bM rfl) (pv 2))))
  (aq (bO (pv 1)))),?_⟩
 refine⟨_,rfl,λx dx hx Lm Rt=>?_⟩;refine⟨H,x,dx,R,.cU,rs,[],aa,[],cW,rfl,(ag Lm _).trans (ag (by rw [ai Rt.symm];exact hx) _),hx,ae,hR,df,aZ,h8,vk,Li,.inl ⟨rfl,rfl,rfl⟩,by simp,λru h=>(by cases h),by simp,bd,hT,λH' s' g st se=>⟨λms rk a1 a2 a3 a4 a5 a6=>⟨rfl,?_⟩,λm d2 a e1 e2=>⟨xE,λea wj=>?_⟩,λms m d2 a1 a2 a3 a4 a5 e1 e2=>⟨xU,λea wj=>?_⟩,λms m d2 xs a1 a2 a3 a4 a5 e1 e2=>⟨xL,λea wj=>?_⟩⟩⟩
 .exact⟨_,rfl,(q H' s' g st se).1 ms rk a1 a2 a3 a4 a5 a6⟩
 .exact⟨_,rfl,⟨_,rfl⟩,_,rfl,(q H' s' g st se).2.1 ea m d2 a ⟨wj,e1⟩ e2⟩
 .exact⟨_,rfl,⟨_,rfl⟩,_,rfl,(q H' s' g st se).2.2.1 ms ea m d2 a1 a2 a3 a4 a5 ⟨wj,e1⟩ e2⟩
 exact⟨_,rfl,⟨_,rfl⟩,_,rfl,(q H' s' g st se).2.2.2 ms ea m d2 xs a1 a2 a3 a4 a5 ⟨wj,e1⟩ e2⟩
end
end eG
namespace L2
open PySem PySem.Spec PyProof.Rows PySem.W
inductive GY (K:Frag)(H:Hp):V->Value->Prop
 | exc {ea C dx:Addr}{fs:List (Str×V)}:E_ H ea C dx fs->XG K C->GY K H (.ref ea) (.ref C)
 | cU:GY K H .cU (.type "NoneType")
def jv {X:Cx}:fj X (.builtin "isinstance") (λxs H Q=>∃x T c u b,xs=[x,c]/\GY X.K H x T/\(∀u',RelV c u'->u'=u)/\kitOne X.K T u=some b/\Q (.bl b) H):=by
 intro af s σ H xs us Q I r h;obtain⟨x,T,c,u,b,rfl,io,hc,e,q⟩:=h;obtain⟨u1,u2,rfl,r1,r2⟩:=vals2 r;cases hc _ r2;cases io with
 | @exc ea C dx fs xo G =>
  cases (show u1=Value.ref ea from r1);obtain⟨ox,od,J,_⟩:=xo.inst I;exact kia_one (DI G) I.jI ⟨ox,od,J⟩ e (λz=>nomatch z) λtk=>⟨.bl b,H,I.tok _,rfl,q⟩
 | cU =>
  cases (show u1=Value.none from r1);exact kia_one kitx_none I.jI True.intro e (λz=>nomatch z) λtk=>⟨.bl b,H,I.tok _,rfl,q⟩
def BD {X:Cx}:fj X (.type "int") (λxs H Q=>∃b,xs=[.bl b]/\Q (.int (if b then 1 else 0)) H):=by
 intro af s σ H xs us Q I r h;obtain⟨b,rfl,q⟩:=h;obtain⟨u,rfl,rx⟩:=vals1 r;cases (show u=Value.bool b from rx);exact call_int_bool ⟨.int (if b then 1 else 0),H,I.tok _,⟨_,rfl⟩,q⟩
def vN (rs:List Addr):∀v∈rs.map V.ref,jw v:=λv hv=>by
 obtain⟨z,_,rfl⟩:=b_.mp hv;exact .inr ⟨z,rfl⟩
def n_ (zs:List Str):∀v∈zs.map V.str,jw v:=λv hv=>by
 obtain⟨z,_,rfl⟩:=b_.mp hv;exact .inl rfl
end L2
namespace eG
open PySem L2 M11 PySem.W
abbrev IT:Stmt:=top 45
structure OX (K:Frag)(mg:Str->Option Value)(CE CU CL:Addr):Prop where
 mE:mg "Endless"=some (.ref CE)
 mU:mg "Unmet"=some (.ref CU)
 mL:mg "Loop"=some (.ref CL)
 mV:mg "ValueError"=none
 xE:XG K CE
 xU:XG K CU
 xL:XG K CL
 eU:kitOne K (.ref CE) (.ref CU)=some false
 eL:kitOne K (.ref CE) (.ref CL)=some false
 eV:kitOne K (.ref CE) (.type "ValueError")=some true
 uE:kitOne K (.ref CU) (.ref CE)=some false
 uL:kitOne K (.ref CU) (.ref CL)=some false
 uV:kitOne K (.ref CU) (.type "ValueError")=some true
 lE:kitOne K (.ref CL) (.ref CE)=some false
 lU:kitOne K (.ref CL) (.ref CU)=some false
 nE:kitOne K (.type "NoneType") (.ref CE)=some false
 nU:kitOne K (.type "NoneType") (.ref CU)=some false
 aE:cI K CE "names"
 aU:cI K CU "names"
def ic {K:Frag}{t:Value}:kitOne K t t=some true:=by unfold kitOne;rw [aw (o9 t)]
inductive mf (H:Hp)(CE CU CL:Addr) (es us:List Str):V->Value->Prop
 | cU:es=[]->us=[]->mf H CE CU CL es us .cU (.type "NoneType")
 | loop {ea dx:Addr}{fs:List (Str×V)}:es=[]->us=[]->E_ H ea CL dx fs->mf H CE CU CL es us (.ref ea) (.ref CL)
 | wy {ea dx m:Addr}:es≠[]->E_ H ea CE dx [("names",.ref m)]->H m=some (.lst (es.map V.str))->mf H CE CU CL es us (.ref ea) (.ref CE)
 | G7 {ea dx m:Addr}:es=[]->us≠[]->E_ H ea CU dx [("names",.ref m)]->H m=some (.lst (us.map V.str))->mf H CE CU CL es us (.ref ea) (.ref CU)
section
variable {P:Program}{w:World}{K:aT}{mg:Str->Option Value}{base:Heap}{f CE CU CL:Addr}{fd:FuncData}{H H':Hp}{es us:List Str}{v:V}{T:Value}
def mf.same (h:mf H CE CU CL es us v T)(s:aB H H'):mf H' CE CU CL es us v T:=by
 cases h with
 | cU a b=>exact .cU a b
 | loop a b c=>exact .loop a b ⟨s _ _ c.1,s _ _ c.2⟩
 | wy a c d=>exact .wy a ⟨s _ _ c.1,s _ _ c.2⟩ (s _ _ d)
 | G7 a b c d=>exact .G7 a b ⟨s _ _ c.1,s _ _ c.2⟩ (s _ _ d)
def mf.is (L:OX K mg CE CU CL)(h:mf H CE CU CL es us v T):GY K H v T:=by
 cases h with
 | cU a b=>exact .cU
 | loop a b c=>exact .exc c L.xL
 | wy a c d=>exact .exc c L.xE
 | G7 a b c d=>exact .exc c L.xU
def mf.kE (L:OX K mg CE CU CL)(h:mf H CE CU CL es us v T):kitOne K T (.ref CE)=some (!es.isEmpty):=by
 cases h with
 | cU a b=>rw [a];exact L.nE
 | loop a b c=>rw [a];exact L.lE
 | wy a c d=>rw [ic];cases es with
  | nil=>exact absurd rfl a
  | cons x y=>rfl
 | G7 a b c d=>rw [a];exact L.uE
def mf.kU (L:OX K mg CE CU CL)(h:mf H CE CU CL es us v T):kitOne K T (.ref CU)=some (es.isEmpty && !us.isEmpty):=by
 cases h with
 | cU a b=>rw [a,b];exact L.nU
 | loop a b c=>rw [a,b];exact L.lU
 | wy a c d=>cases es with
  | nil=>exact absurd rfl a
  | cons x y=>exact L.eU
 | G7 a b c d=>rw [a,ic];cases us with
  | nil=>exact absurd rfl b
  | cons x y=>rfl
def zH (K:aT)(T1 T2 T3:Addr):Sp:=λvs H Q _=>∃(a:Addr)(ns:List Int),vs=[.ref a]/\aD K H a (ns.map V.int)/\ns.length<=63/\Av T1 T2 T3 H/\∀H',Q (.bl true) H'
def n6:aJ ["_law_script","_law_pool_here","_law_rules","_law_endless","_law_unmet","_law_handed","_law_caught"] ["_law_script"] (au IT):=ju rfl rfl rfl rfl nofun
def Bw (ns:List Int):∃j7:List Int,oH (ns.map V.int) (some 1) (some 9)=j7.map V.int/\j7.length<=8:=by
 refine⟨(ns.drop (HT.kC (ns.map V.int).length 0 (some 1))).take (HT.kC (ns.map V.int).length (ns.map V.int).length (some 9) - HT.kC (ns.map V.int).length 0 (some 1)),by unfold oH;rw [<-List.map_drop,<-List.map_take],?_⟩;have e1:HT.kC (ns.map V.int).length 0 (some 1)=min 1 (ns.map V.int).length:=HT.oV _ _ 1;have e2:HT.kC (ns.map V.int).length (ns.map V.int).length (some 9)=min 9 (ns.map V.int).length:=HT.oV _ _ 9;rw [dI,pF,e1,e2,az];omega
structure OQ (zs:List Str)(aa:List av):Prop where
 most:aa.length<=8
 HL:∀ru∈aa,ru.2.length<=3
 V2:∀ru∈aa,ru.1∈zs.take 4
def OQ.bd {zs:List Str}{aa:List av}(h:OQ zs aa):BR aa:=GD (A:=zs.take 4) h.HL (by rw [dI];omega) h.V2
def OQ.txt {zs:List Str}{aa:List av}(h:OQ zs aa)(hz:∀z∈zs,l8 z):∀x∈hd aa,l8 x:=λx hx=>by
 obtain⟨ru,ft,rfl⟩:=b_.mp (uY.mp hx);exact hz _ (rJ (h.V2 ru ft))
def iH {aa:List av}{g:G}(st:bU M11.bl aa (jB aa) g)(se:cQ M11.bl aa g):(hd aa).filter (λh=>(g h).isNone)=jD aa:=List.filter_congr λh hh=>Eh st se hh
def pO {aa:List av}{s:Str}(hs:s∈hd aa){ms:List Str}(h0:s∈ms)(rc:∀x∈ms,qT aa s x)(mc:jx aa aa.length ms):(hd aa).filter (λh=>!decide (h∈ms))=rN aa s:=List.filter_congr λh _=>by rw [Jp hs h0 rc mc h]
def nil_of {aa:List av}{g:G}(hl:∀h∈hd aa,∃n,g h=some n):(hd aa).filter (λh=>(g h).isNone)=[]:=ug.mpr λh hh=>by
 obtain⟨n,e⟩:=hl h hh;rw [e];exact cT
def z8 {aa:List av}{ms:List Str}(hm:∀h∈hd aa,h∈ms):(hd aa).filter (λh=>!decide (h∈ms))=[]:=ug.mpr λh hh=>by
 rw [dO (hm h hh)]
 decide
def Ew:bootBuiltins "ValueError"=some (.type "ValueError"):=by decide +kernel
def Jk {T1 T2 T3:Addr}(F:iq K "law" "law" IT f fd)(T:Txt mg)(L:OX K mg CE CU CL)(GC:aM P w K mg base 9 "_law_cell_at" ["_law_script","_law_k"] (Cs K))(GP:aM P w K mg base 9 "_law_pool" ["_law_cell","_law_many"] Cp)
  (GR:aM P w K mg base 9 "_law_rule" ["_law_cell","_law_pool_here"] (zE K))(GL:aM P w K mg base 9 "_law_lacks" ["_law_rules"] (zI K))(GT:aM P w K mg base 9 "_law_told" ["_law_rules"] (zC K T1 T2 T3 CE CU CL)) :
  bf P w K mg base fk 10 f fd ["_law_script"] (zH K T1 T2 T3):=by
 refine F.ok n6 (λvs H Q E h=>?_) (λdr A outer s H vs Q E hr h=>?_)
 .obtain⟨a,ns,rfl,_⟩:=h;rfl
 obtain⟨a,ns,rfl,hS,h63,hT,q⟩:=h;have hu:=Nat.lt_of_succ_lt (f_ hr);refine⟨_,(aj (aI (i:=1) n6.nd rfl (Or.inr rfl) (cv GP hr rfl (ah (cv GC hr rfl (ah (pv 0) (ah aA ak))) (ah aA ak))))
  (aj (gS (iy:=2) ["_law_cell"] [(1,"_law_pool_here")] n6.nd rfl rfl rfl (a8 (hX oS (pv 0) (fN aA) (fN aA))) (a9 rfl rfl) nofun rfl nofun
   (λ_ _ _ _ _=>ar (i:=0) (show (["_law_cell","_law_pool_here"]:List Str).Nodup by decide +kernel) rfl (bM rfl)) (λ_ _ _ _ _=>b9) (λ_ _ _ _ _=>cv GR hr rfl (ah (pv 0) (ah (pv 1) ak))))
  (aj (lB (de (bT (h_ hu) (pv 2) (bQ ak) (cE _)) (aq (aI (i:=2) n6.nd rfl (bM rfl) (bQ (ah (cv GR hr rfl (ah aA (ah (pv 1) ak))) ak)))) bx))
  (aj (CW (cv GL hr rfl (ah (pv 2) ak)) (eJ rfl (aC (ar (i:=3) n6.nd rfl (bM rfl)) (aC (ar (i:=4) n6.nd rfl (bM rfl)) bW))))
  (aj (aI (i:=5) n6.nd rfl (bM rfl) (aY d7 rfl T.lst eB (ah (pv 2) ak)))
  (aj (lB (aI (i:=6) n6.nd rfl (bM rfl) (cv GT hr rfl (ah (pv 5) ak))))
  (aj (de (PW.pt (zS (bT (yg hu) (pv 5) (pv 2) (cE _)) (x_ (bT Hl (bL jv rfl T.Lb rK (ah (pv 6) (ah (lH (v:=.ref CE) rfl L.mE rfl) ak))) (fP (sj hu) (pv 3) (bQ ak) (cE _)) (cE _))))) (aq (bO gw)) bx)
  (aj (de (bT Hl (bL jv rfl T.Lb rK (ah (pv 6) (ah (lH (v:=.ref CU) rfl L.mU rfl) ak))) (Je (fP (h_ hu) (pv 3) (bQ ak) (cE _)) (ye (fP (sj hu) (pv 4) (bQ ak) (cE _)))) (cE _)) (aq (bO gw)) bx)
  (aj (de (PW.pt (uI (bT (h_ hu) (pv 3) (bQ ak) (cE _)) (oW (bT (h_ hu) (pv 4) (bQ ak) (cE _)))))
   (aq (bO (Hk (fP Jh (pv 6) C2 (cE _)) (ye (bL jv rfl T.Lb rK (ah (pv 6) (ah (lH (v:=.ref CL) rfl L.mL rfl) ak))))))) bx)
  (aj (de (PW.pt (zS (yb (ji (bL jv rfl T.Lb rK (ah (pv 6) (ah (z5 (v:=.ty "ValueError") rfl L.mV Ew rfl) ak)))))
    (zS (ji (bL jv rfl T.Lb rK (ah (pv 6) (ah (lH (v:=.ref CL) rfl L.mL rfl) ak))))
    (x_ (yb (ji (bL u9 rfl T.Lb rK (ah (zW (pv 6) rfl) (ah (z5 (v:=.ty "list") rfl T.lst eB rfl) ak))))))))) (aq (bO gw)) bx)
  (aq (bO (fP (yj hu) (zW (pv 6) rfl) (bz cH (bQ (ah (pv 3) (ah (pv 4) ak))) (aY BD rfl T.int PyProof.Rows.boot_int (ah (fP (h_ hu) (pv 3) (bQ ak) (cE _)) ak)) (λ_ _=>rfl)) (cE _)))))))))))))),?_⟩
 nofun
 refine⟨_,rfl,a,ns,0,rfl,hS,∅,λn0=>?_⟩;refine⟨n0,rfl,λPl zs H1 Z0 s1 Tc VC YZ=>?_⟩
 ac_rfl
 refine⟨_,rfl,1,rfl,9,rfl,a,_,rfl,s1.seq hS,λc1 HF=>?_⟩;obtain⟨j7,e1,l1⟩:=Bw ns;rw [e1];have s2:=s1.trans (ag HF (.lst (j7.map V.int)));have Gj:upd H1 c1 (.lst (j7.map V.int)) Pl=some (.lst (zs.map V.str)):=by rw [ai (ao Tc HF)];exact Tc
 have Bj:upd H1 c1 (.lst (j7.map V.int)) c1=some (.lst (j7.map V.int)):=ae;generalize upd H1 c1 (.lst (j7.map V.int))=H2 at s2 Gj Bj;refine⟨c1,rfl,⟨_,aD.of Bj⟩,λRl Ta=>bH (xs:=j7.map V.int) (λi ys σ2 H3=>∃(rs:List Addr)(aa:List av),ys=rs.map V.ref/\rs.length=i/\bN K H3 rs aa/\(∀ru∈aa,ru.2.length<=3/\ru.1∈zs.take 4)/\(∃y,σ2=[y,bu Pl])/\aB H2 H3/\H3 Rl=some (.lst ys))
  ⟨[],[],rfl,rfl,.nil,by simp,⟨none,rfl⟩,ag Ta _,ae⟩ (λi ys σ2 H3 _ h=>?_) (λi x ys σ2 H3 ex h=>?_) (λys σ2 H3 h=>?_)⟩
 .obtain⟨_,_,_,_,_,_,_,sm,_⟩:=h;exact aD.of (sm _ _ Bj)
 .obtain⟨rs,aa,rfl,Py,Zk,Zj,⟨y,rfl⟩,sm,gi⟩:=h;have li:=(ba.mp ex).1;rw [az] at li;rw [bh] at ex;obtain⟨n,en,rfl⟩:=bR.mp ex;refine goN ?_;refine wm ?_;refine⟨_,rfl,_,rfl,n,Pl,zs,rfl,aD.of (sm _ _ Gj),VC,λR p2 h dD H4 EU v1 v2 h8 h4=>?_⟩;have q_:=EU _ _ gi;refine⟨q_,bA (by rw [az];omega),rs++[R],aa++[(h,dD)],?_,?_,?_,?_,⟨_,rfl⟩,?_,ae⟩
  .rw [br];rfl
  .rw [cC,Py];rfl
  .exact eW (Zk.keep λb xs z=>aW q_ (EU.tup z)) ⟨p2,aW q_ (aX.of v1),aW q_ (aX.of v2)⟩
  .intro ru ft;rcases cq.mp ft with z | z
   .exact Zj ru z
   rw [cm.mp z];exact⟨h8,h4⟩
  intro b o hb;rw [ai (λz=>by rw [z,Ta] at hb;cases hb)];exact EU _ _ (sm b o hb)
 obtain⟨rs,aa,rfl,Py,JI,Tg,_,zM,J_⟩:=h;rw [az] at Py;have N0:=zM _ _ Gj;have ll:=bF JI;have s3:=s2.trans zM;refine⟨λσ H4=>∃(R:Addr)(rs:List Addr)(aa:List av)(cW:av),σ=[bu a,bu Pl,bu R,none,none,none,none]/\aB H H4/\H4 R=some (.lst (rs.map V.ref))/\bN K H4 rs aa/\OQ zs aa/\aa[0]?=some cW,?_,?_⟩
 .refine⟨_,rfl,pL,λD4 Tf=>?_⟩;have s4:=ag Tf (.lst []);have e4:upd H3 D4 (.lst []) D4=some (.lst []):=ae;generalize upd H3 D4 (.lst [])=H4 at s4 e4;refine⟨Rl,D4,_,rfl,rfl,aD.of (s4 _ _ J_),aD.of e4,_,rfl,?_⟩;refine dW (λc=>?_) (λc=>?_)
  .refine⟨_,rfl,0,Pl,zs,rfl,aD.of (s4 _ _ N0),VC,λR p2 h dD H5 s5 v1 v2 h8 h4=>⟨Ip,λR5 Tb=>?_⟩⟩;refine⟨R5,[R],[(h,dD)],(h,dD),rfl,((s3.trans s4).trans s5).trans (ag Tb _),ae,?_,⟨by simp,λru ft=>?_,λru ft=>?_⟩,rfl⟩
   .exact .cons ⟨p2,(ag Tb _).tup (aX.of v1),(ag Tb _).tup (aX.of v2)⟩ .nil
   .rw [cm.mp ft];exact h8
   rw [cm.mp ft];exact h4
  cases aa with
  | nil =>
   have:rs=[]:=List.eq_nil_of_length_eq_zero (by simpa using ll);rw [this] at c;exact absurd rfl c
  | cons cW rr=>exact⟨Rl,rs,cW::rr,cW,rfl,s3.trans s4,s4 _ _ J_,JI.same s4,⟨∅,λru h=>(Tg ru h).1,λru h=>(Tg ru h).2⟩,rfl⟩
 rintro σ H4 ⟨R,rs,aa,cW,rfl,s4,eR,rl,rd,vk⟩;clear JI J_ N0 zM s3 Py Tg Ta Bj Gj s2 e1 l1 HF Tc s1 Z0 ll;have JG:cW.1∈hd aa:=uY.mpr (b_.mpr ⟨cW,cR vk,rfl⟩)
 ac_rfl
 refine⟨_,rfl,R,rs,aa,cW,rfl,aD.of eR,rl,rd.most,rd.HL,vk,λt e u H5 s5 et ee eu=>?_⟩;refine⟨t,_,rfl,aX.of et,rfl,_,_,rfl,_,_,rfl,rfl,?_⟩
 ac_rfl
 refine⟨_,rfl,R,_,rfl,.inl (aD.of (s5 _ _ eR)),λHd Z5=>?_⟩;have s6:=ag Z5 (.lst (rs.map V.ref));have eH:upd H5 Hd (.lst (rs.map V.ref)) Hd=some (.lst (rs.map V.ref)):=ae;generalize upd H5 Hd (.lst (rs.map V.ref))=H6 at s6 eH;have Pd:=s5.trans s6;have Oo:=Pd _ _ eR;have Bq:=s6 _ _ ee;have Oc:=s6 _ _ eu;have Vc:=rl.same Pd;have t6:=hT.same (s4.trans Pd)
 ac_rfl
 refine⟨λσ H7=>∃(v:V)(T:Value),σ=[bu a,bu Pl,bu R,bu e,bu u,bu Hd,some v]/\H7 R=some (.lst (rs.map V.ref))/\H7 Hd=some (.lst (rs.map V.ref))/\H7 e=some (.lst ((jD aa).map V.str))/\H7 u=some (.lst ((rN aa cW.1).map V.str))/\mf H7 CE CU CL (jD aa) (rN aa cW.1) v T,?_,?_⟩
 .refine⟨_,rfl,Hd,rs,aa,cW,rfl,aD.of eH,Vc,by have:=rd.most;omega,λru h=>by have:=rd.HL ru h;omega,vk,rd.txt YZ,rd.bd,t6,λH7 s7 g st se=>?_⟩;have k7:=Kp.XX s7 t6;refine⟨λms rk a1 a2 a3 a4 a5 a6=>?_,λea m dx b1 b2 b3=>?_,λms ea m dx a1 a2 a3 a4 b1 b2 b3=>?_,λms ea m dx xs a1 a2 a3 a4 a5 b2 b3=>?_⟩
  .exact⟨_,_,rfl,k7.lst Oo,k7.lst eH,k7.lst Bq,k7.lst Oc,.cU (by rw [<-iH st se];exact nil_of a4) (by rw [<-pO JG a1 a2 a3];exact z8 a5)⟩
  .rw [iH st se] at b1 b3;exact⟨_,_,rfl,k7.lst Oo,k7.lst eH,k7.lst Bq,k7.lst Oc,.wy b1 b2 b3⟩
  .rw [pO JG a1 a2 a3] at b1 b3;exact⟨_,_,rfl,k7.lst Oo,k7.lst eH,k7.lst Bq,k7.lst Oc,.G7 (by rw [<-iH st se];exact nil_of a4) b1 b2 b3⟩
  exact⟨_,_,rfl,k7.lst Oo,k7.lst eH,k7.lst Bq,k7.lst Oc,.loop (by rw [<-iH st se];exact nil_of a4) (by rw [<-pO JG a1 a2 a3];exact z8 a5) b2⟩
 rintro σ H7 ⟨v,Tv,rfl,WE,WG,BX,Tw,cg⟩;clear t6 Vc Oc Bq Oo Pd eH s6 eu ee et s5 eR rl;generalize jD aa=es at BX cg;generalize rN aa cW.1=us at Tw cg;have nb:∀b:Bool,(!decide (V.bl b=V.bl b))=false:=λb=>by rw [dO rfl];rfl
 ac_rfl
 refine⟨_,rfl,_,rfl,Hd,R,_,rfl,rfl,aD.of WG,aD.of WE,vN _,_,rfl,?_⟩;refine gM ?_;refine⟨_,rfl,v,Tv,.ref CE,.ref CE,_,rfl,cg.is L,λ_ z=>z,cg.kE L,?_⟩;refine⟨_,rfl,pL,λD8 Lp=>?_⟩;have s8:=ag Lp (.lst []);have e8:upd H7 D8 (.lst []) D8=some (.lst []):=ae;generalize upd H7 D8 (.lst [])=H8 at s8 e8;refine⟨e,D8,_,rfl,rfl,aD.of (s8 _ _ BX),aD.of e8,?_⟩;refine⟨rfl,_,rfl,?_⟩;rw [show (es.map V.str).isEmpty=es.isEmpty by cases es <;> rfl,nb]
 refine gM ?_;have Qc:=cg.same s8;have Oj:=s8 _ _ BX;have Wj:=s8 _ _ Tw;clear cg BX Tw WG WE s8 Lp
 ac_rfl
 refine⟨_,rfl,v,Tv,.ref CU,.ref CU,_,rfl,Qc.is L,λ_ z=>z,Qc.kU L,?_⟩;refine⟨_,rfl,pL,λD9 xf=>?_⟩;have s9:=ag xf (.lst []);have e9:upd H8 D9 (.lst []) D9=some (.lst []):=ae;generalize upd H8 D9 (.lst [])=H9 at s9 e9;refine⟨e,D9,_,rfl,rfl,aD.of (s9 _ _ Oj),aD.of e9,?_⟩;have Ua:=Qc.same s9;have HQ:=s9 _ _ Oj;have Tu:=s9 _ _ Wj;clear Qc Oj Wj s9 xf;refine⟨_,rfl,?_⟩;rw [show (es.map V.str).isEmpty=es.isEmpty by cases es <;> rfl]
 cases V0:es with
 | nil =>
  subst V0;refine qm ?_;refine⟨_,rfl,pL,λIj Gk=>?_⟩;have n8:=ag Gk (.lst []);have y_:upd H9 Ij (.lst []) Ij=some (.lst []):=ae;generalize upd H9 Ij (.lst [])=vf at n8 y_;refine⟨u,Ij,_,rfl,rfl,aD.of (n8 _ _ Tu),aD.of y_,?_⟩;refine⟨rfl,_,rfl,?_⟩;rw [show (us.map V.str).isEmpty=us.isEmpty by cases us <;> rfl,show (([]:List Str).isEmpty && !us.isEmpty)=!us.isEmpty from rfl,nb]
  refine gM ?_;have Oz:=Ua.same n8;have nv:=n8 _ _ HQ;have Kq:=n8 _ _ Tu;clear Ua HQ Tu n8 Gk;refine⟨_,rfl,pL,λFd Bl=>?_⟩;have vi:=ag Bl (.lst []);have xl:upd vf Fd (.lst []) Fd=some (.lst []):=ae;generalize upd vf Fd (.lst [])=xn at vi xl;refine⟨e,Fd,_,rfl,rfl,aD.of (vi _ _ nv),aD.of xl,_,rfl,?_⟩;refine qm ?_;refine⟨_,rfl,pL,λQk N4=>?_⟩;have CG:=ag N4 (.lst []);have El:upd xn Qk (.lst []) Qk=some (.lst []):=ae;generalize upd xn Qk (.lst [])=qV at CG El;have CH:=vi.trans CG;refine⟨u,Qk,_,rfl,rfl,aD.of (CH _ _ Kq),aD.of El,_,rfl,?_⟩;have KD:=Oz.same CH;have Gx:=CH _ _ nv;have Tx:=CH _ _ Kq;clear Oz nv Kq CH N4 Bl;cases KD with
  | cU a b =>
   subst b;refine qm ?_;refine⟨_,rfl,rfl,_,rfl,?_⟩;refine qm ?_;exact q _
  | loop a b c =>
   subst b;refine qm ?_;refine⟨_,rfl,rfl,_,rfl,?_⟩;refine gM ?_;exact⟨_,rfl,_,_,.ref CL,.ref CL,_,rfl,.exc c L.xL,λ_ z=>z,ic,q _⟩
  | wy a c d=>exact absurd rfl a
  | @G7 ea dx m a b c d =>
   rw [show (us.map V.str).isEmpty=false by cases us with
    | nil=>exact absurd rfl b
    | cons x y=>rfl]
   refine gM ?_;refine⟨_,rfl,.ref ea,.ref CU,.ty "ValueError",.type "ValueError",true,rfl,.exc c L.xU,λ_ z=>z,L.uV,true,rfl,?_⟩;refine gM ?_;refine⟨_,rfl,.ref ea,.ref CU,.ref CL,.ref CL,false,rfl,.exc c L.xU,λ_ z=>z,L.uL,false,rfl,?_⟩;refine gM ?_;refine⟨_,rfl,ea,CU,dx,_,.ref m,rfl,c,L.xU,L.aU,rfl,m,_,"list",true,rfl,aD.of d,ic,true,rfl,?_⟩;refine gM ?_;refine⟨_,rfl,ea,CU,dx,_,.ref m,rfl,c,L.xU,L.aU,rfl,_,rfl,_,rfl,ou,λG1 Kd=>?_⟩;have EW:=ag Kd (.lst [.ref e,.ref u]);have HU:upd qV G1 (.lst [.ref e,.ref u]) G1=some (.lst [.ref e,.ref u]):=ae;generalize upd qV G1 (.lst [.ref e,.ref u])=tI at EW HU;refine⟨_,rfl,pL,λG0 Kc=>?_⟩;have pZ:=ag Kc (.lst []);have HS:upd tI G0 (.lst []) G0=some (.lst []):=ae;generalize upd tI G0 (.lst [])=UL at pZ HS;have xZ:=EW.trans pZ;exact⟨e,G0,_,rfl,rfl,aD.of (xZ _ _ Gx),aD.of HS,_,rfl,G1,_,_,_,rfl,rfl,aD.of (pZ _ _ HU),rfl,m,u,_,rfl,rfl,aD.of (xZ _ _ d),aD.of (xZ _ _ Tx),n_ _,q _⟩
 | cons x0 xr =>
  subst V0;refine gM ?_;refine⟨rfl,_,rfl,?_⟩;rw [show ((x0::xr).isEmpty && !us.isEmpty)=false from rfl,nb];refine gM ?_;refine⟨_,rfl,pL,λFd Bl=>?_⟩;have vi:=ag Bl (.lst []);have xl:upd H9 Fd (.lst []) Fd=some (.lst []):=ae;generalize upd H9 Fd (.lst [])=qV at vi xl;refine⟨e,Fd,_,rfl,rfl,aD.of (vi _ _ HQ),aD.of xl,_,rfl,?_⟩;have KD:=Ua.same vi;have Gx:=vi _ _ HQ;cases KD with
  | cU a b=>cases a
  | loop a b c=>cases a
  | G7 a b c d=>cases a
  | @wy ea dx m a c d =>
   refine gM ?_;refine⟨_,rfl,.ref ea,.ref CE,.ty "ValueError",.type "ValueError",true,rfl,.exc c L.xE,λ_ z=>z,L.eV,true,rfl,?_⟩;refine gM ?_;refine⟨_,rfl,.ref ea,.ref CE,.ref CL,.ref CL,false,rfl,.exc c L.xE,λ_ z=>z,L.eL,false,rfl,?_⟩;refine gM ?_;refine⟨_,rfl,ea,CE,dx,_,.ref m,rfl,c,L.xE,L.aE,rfl,m,_,"list",true,rfl,aD.of d,ic,true,rfl,?_⟩;refine gM ?_;refine⟨_,rfl,ea,CE,dx,_,.ref m,rfl,c,L.xE,L.aE,rfl,_,rfl,_,rfl,ou,λG1 Kd=>?_⟩;have EW:=ag Kd (.lst [.ref e,.ref u]);have HU:upd qV G1 (.lst [.ref e,.ref u]) G1=some (.lst [.ref e,.ref u]):=ae;generalize upd qV G1 (.lst [.ref e,.ref u])=tI at EW HU;refine⟨_,rfl,pL,λG0 Kc=>?_⟩;have pZ:=ag Kc (.lst []);have HS:upd tI G0 (.lst []) G0=some (.lst []):=ae;generalize upd tI G0 (.lst [])=UL at pZ HS;have xZ:=EW.trans pZ;exact⟨e,G0,_,rfl,rfl,aD.of (xZ _ _ Gx),aD.of HS,_,rfl,G1,_,_,_,rfl,rfl,aD.of (pZ _ _ HU),rfl,m,e,_,rfl,rfl,aD.of (xZ _ _ d),aD.of (xZ _ _ Gx),n_ _,q _⟩
end
def rG (K:Frag)(nm fld:Str)(C W f:Addr):Prop:=(nsIn K mainGlobals nm,Fg K C f BG "ValueError.__new__",keepIn K (.ref C),(clsIn K C).map (λcd=>(cd.mro,cd.hasDict)),findIn K (.ref C) "__setattr__",takerIn K C fld,(K.lookup f).map (·.cls),exmOne K (.ref C) (.ref W),hasDictIn K C)=(some (some (.ref C)),true,true,some (.ref C::.ref W::BG,true),some (some (.builtin "object.__setattr__")),some none,some (.type "function"),some true,true) /\
 (findIn K (.ref C) "__getattribute__",findIn K (.ref C) "__getattr__",mroIn K C (.type "BaseException"),mroIn K C (.type "object"),findIn K (.ref C) "__class__",kitCls K (.ref C) (.ref C),findIn K (.ref C) fld,findIn K (.ref C) "__init__")=(some (some (.builtin "BaseException.__getattribute__")),some none,some true,some true,some (some (.builtin "object.__class__")),some true,some none,some (some (.ref f)))
def B7 (K:Frag)(W:Addr):Prop:=(specialIn K (.ref W) "__getattribute__",readsIn K W (.type "type"),findCls K (.ref W) (.type "type") "__init__",handedIn (.builtin "ValueError.__init__"),nsIn K mainGlobals "WrightError",nsIn K mainGlobals "ValueError",specialIn K (.builtin "object.__class__") "__get__",takesIn K (.builtin "object.__class__"))=(some (some (.builtin "type.__getattribute__")),true,some (.val (.builtin "ValueError.__init__")),true,some (some (.ref W)),some none,some (some (.builtin "getset_descriptor.__get__")),some true)
def Qj (K:Frag)(CE CU CL:Addr):Prop:=(kitOne K (.ref CE) (.ref CU),kitOne K (.ref CE) (.ref CL),kitOne K (.ref CE) (.type "ValueError"),kitOne K (.ref CU) (.ref CE),kitOne K (.ref CU) (.ref CL),kitOne K (.ref CU) (.type "ValueError"),kitOne K (.ref CL) (.ref CE),kitOne K (.ref CL) (.ref CU),kitOne K (.type "NoneType") (.ref CE),kitOne K (.type "NoneType") (.ref CU))=(some false,some false,some true,some false,some false,some true,some false,some false,some false,some false)
section
variable {K:Frag}{nm fld:Str}{C W f CE CU CL fE fU fL:Addr}{mg:Str->Option Value}{h:Heap}
def TF (a:(nsIn K mainGlobals nm,Fg K C f BG "ValueError.__new__",keepIn K (.ref C),(clsIn K C).map (λcd=>(cd.mro,cd.hasDict)),findIn K (.ref C) "__setattr__",takerIn K C fld,(K.lookup f).map (·.cls),exmOne K (.ref C) (.ref W),hasDictIn K C)=(some (some (.ref C)),true,true,some (.ref C::.ref W::BG,true),some (some (.builtin "object.__setattr__")),some none,some (.type "function"),some true,true))
 (b:(findIn K (.ref C) "__getattribute__",findIn K (.ref C) "__getattr__",mroIn K C (.type "BaseException"),mroIn K C (.type "object"),findIn K (.ref C) "__class__",kitCls K (.ref C) (.ref C),findIn K (.ref C) fld,findIn K (.ref C) "__init__")=(some (some (.builtin "BaseException.__getattribute__")),some none,some true,some true,some (some (.builtin "object.__class__")),some true,some none,some (some (.ref f)))):rG K nm fld C W f:=⟨a,b⟩
def eqW (a:(specialIn K (.ref W) "__getattribute__",readsIn K W (.type "type"),findCls K (.ref W) (.type "type") "__init__",handedIn (.builtin "ValueError.__init__"),nsIn K mainGlobals "WrightError",nsIn K mainGlobals "ValueError",specialIn K (.builtin "object.__class__") "__get__",takesIn K (.builtin "object.__class__"))=(some (some (.builtin "type.__getattribute__")),true,some (.val (.builtin "ValueError.__init__")),true,some (some (.ref W)),some none,some (some (.builtin "getset_descriptor.__get__")),some true)):B7 K W:=a
def eqK (a:(kitOne K (.ref CE) (.ref CU),kitOne K (.ref CE) (.ref CL),kitOne K (.ref CE) (.type "ValueError"),kitOne K (.ref CU) (.ref CE),kitOne K (.ref CU) (.ref CL),kitOne K (.ref CU) (.type "ValueError"),kitOne K (.ref CL) (.ref CE),kitOne K (.ref CL) (.ref CU),kitOne K (.type "NoneType") (.ref CE),kitOne K (.type "NoneType") (.ref CU))=(some false,some false,some true,some false,some false,some true,some false,some false,some false,some false)):Qj K CE CU CL:=a
def rG.np (e:rG K nm fld C W f)(w:B7 K W)(X:K.In h)(G:h.Ns mainGlobals mg):LL K mg nm fld C W f:=by
 obtain⟨a,b⟩:=e;unfold B7 at w;simp only [hU] at a b w;obtain⟨cd,h1,h2⟩:=bR.mp a.2.2.2.1;injection h2 with h2 h3;obtain⟨oI,o1,o2⟩:=bR.mp a.2.2.2.2.2.2.1;exact⟨a.2.1,a.2.2.1,mg_of X G a.1,mg_of X G w.2.2.2.2.1,⟨cd,h1,a.2.2.2.2.1,λself=>by rw [h2];rfl,by rw [h2];rfl,h3⟩,a.2.2.2.2.2.1,⟨w.1,⟨_,w.2.1,w.2.2.1⟩,w.2.2.2.1⟩,⟨oI,o1,o2⟩⟩
def rG.xg (e:rG K nm fld C W f)(w:B7 K W):XG K C:=by
 obtain⟨a,b⟩:=e;unfold B7 at w;simp only [hU] at a b w;exact⟨a.2.2.2.2.2.2.2.2,b.1,b.2.1,b.2.2.1,b.2.2.2.1,b.2.2.2.2.1,w.2.2.2.2.2.2.1,w.2.2.2.2.2.2.2,b.2.2.2.2.2.1⟩
def rG.na (e:rG K nm fld C W f):cI K C fld:=by
 obtain⟨a,b⟩:=e;simp only [hU] at b;exact b.2.2.2.2.2.2.1
def rG.xm (e:rG K nm fld C W f):exmOne K (.ref C) (.ref W)=some true:=by
 obtain⟨a,b⟩:=e;simp only [hU] at a;exact a.2.2.2.2.2.2.2.1
def rG.ns (e:rG K nm fld C W f)(X:K.In h)(G:h.Ns mainGlobals mg):mg nm=some (.ref C):=by
 obtain⟨a,b⟩:=e;simp only [hU] at a;exact mg_of X G a.1
theorem rG.at_ {g:Addr}(e:rG K nm fld C W f)(m:Meth K C "__init__" g):g=f:=by
 obtain⟨a,b⟩:=e;simp only [hU] at b;have:=m.at_.symm.trans b.2.2.2.2.2.2.2;injection this with this;injection this with this;injection this
def rG.rz {P:Program}{w:World}{base:Heap}{st:Stmt}{qual:Str}{g:Addr}{gd:FuncData}(e:rG K nm fld C W f)(ew:B7 K W)(X:K.In h)(G:h.Ns mainGlobals mg)(F:iq K "__init__" qual st g gd)(m:Meth K C "__init__" g)(B:Binds K gd ["self",fld] [])
  (o:LL K mg nm fld C W g->bf P w K mg base fk 1 g gd ["self",fld] (kW K C fld)):OP P w K mg base nm fld C:=by
 cases e.at_ m;have n:=e.np ew X G;exact⟨W,_,gd,n,o n,B⟩
def B7.mW (ew:B7 K W)(X:K.In h)(G:h.Ns mainGlobals mg):mg "WrightError"=some (.ref W):=by
 unfold B7 at ew;simp only [hU] at ew;exact mg_of X G ew.2.2.2.2.1
def YA (eE:rG K "Endless" "names" CE W fE)(eU:rG K "Unmet" "names" CU W fU)(eL:rG K "Loop" "steps" CL W fL)(ew:B7 K W)(ek:Qj K CE CU CL)(X:K.In h)(G:h.Ns mainGlobals mg):OX K mg CE CU CL:=by
 have Tt:=ew;unfold B7 at Tt;unfold Qj at ek;simp only [hU] at Tt ek;exact⟨eE.ns X G,eU.ns X G,eL.ns X G,mg_none_of X G Tt.2.2.2.2.2.1,eE.xg ew,eU.xg ew,eL.xg ew,ek.1,ek.2.1,ek.2.2.1,ek.2.2.2.1,ek.2.2.2.2.1,ek.2.2.2.2.2.1,ek.2.2.2.2.2.2.1,ek.2.2.2.2.2.2.2.1,ek.2.2.2.2.2.2.2.2.1,ek.2.2.2.2.2.2.2.2.2,eE.na,eU.na⟩
end
end eG
namespace L2
open PySem
def Az {C:List Value->Prop}(h:∀a,C [a]):∀us:List Value,us.length=1->C us
 | [a],_=>h a
def ER {C:List Value->Prop}(h:∀a b,C [a,b]):∀us:List Value,us.length=2->C us
 | [a,b],_=>h a b
def O7 {C:List Value->Prop}(h:∀a b c,C [a,b,c]):∀us:List Value,us.length=3->C us
 | [a,b,c],_=>h a b c
def fJ (K:aT)(x:Str)(st:Stmt):Prop:=∃(g:Addr)(oc:Value)(od an:Option Addr)(sl:Array (Option Value))(kV dc pm cd ct:Value),PySem.W.nsIn K mainGlobals x=some (some (.ref g)) /\
 K.lookup g=some ⟨oc,od,.func (PySem.W.fnOf x x (cP st) (bB st) (au st) .none kV dc pm an cd ct),sl⟩/\PySem.W.codeIn K cd x=true/\PySem.W.keepIn K (.ref g)=true
def fJ.get {K:aT}{h:Heap}{mg:Str->Option Value}{x:Str}{st:Stmt}(X:K.In h)(G:h.Ns mainGlobals mg)(H:fJ K x st):∃g gd,iq K x x st g gd/\mg x=some (.ref g):=by
 obtain⟨g,oc,od,an,sl,kV,dc,pm,cd,ct,a,l,c,k⟩:=H;exact⟨g,_,D0 (st:=st) l c k,mj X G a⟩
def BP (K:aT)(x:Str)(st:Stmt)(T:Addr):Prop:=∃(g:Addr)(oc:Value)(od an:Option Addr)(sl:Array (Option Value))(kV dc pm:Value)(c:Addr)(ct:Value),PySem.W.nsIn K mainGlobals x=some (some (.ref g)) /\
 K.lookup g=some ⟨oc,od,.func (PySem.W.fnOf x x (cP st) (bB st) (au st) .none kV dc pm an (.ref c) ct),sl⟩/\PySem.W.codeIn K (.ref c) x=true/\PySem.W.codeHdIn K c T=true/\PySem.W.keepIn K (.ref g)=true
def BP.get {K:aT}{h:Heap}{mg:Str->Option Value}{x:Str}{st:Stmt}{T:Addr}(X:K.In h)(G:h.Ns mainGlobals mg)(H:BP K x st T):∃g gd,wW K x x st g gd T/\mg x=some (.ref g):=by
 obtain⟨g,oc,od,an,sl,kV,dc,pm,c,ct,a,l,d,e,k⟩:=H;exact⟨g,_,⟨⟨oc,od,kV,dc,pm,an,c,ct,sl,rfl,l,d,e⟩,k⟩,mj X G a⟩
def wW.binds {K:aT}{x qual:Str}{st:Stmt}{f T:Addr}{fd:FuncData}{ps:List Str}(F:wW K x qual st f fd T)
  (h:∀(kV doc pm:Value)(an:Option Addr)(dr ct:Value)(us:List Value),us.length=ps.length->bindArgs (PySem.W.fnOf x qual (cP st) (bB st) (au st) .none kV doc pm an dr ct) ⟨us,[]⟩=pure (ps.zip us)):Binds K fd ps []:=by
 obtain⟨oc,od,kV,doc,pm,an,c,ct,uM,rfl,lk,qv,_⟩:=F.ex;exact .all (h kV doc pm an (.ref c) ct)
def rF (K:aT)(C:Addr)(m qual:Str)(st:Stmt):Prop:=∃(g:Addr)(oc:Value)(od an:Option Addr)(sl:Array (Option Value))(kV dc pm cd ct:Value),PySem.W.findIn K (.ref C) m=some (some (.ref g)) /\
 K.lookup g=some ⟨oc,od,.func (PySem.W.fnOf m qual (cP st) (bB st) (au st) .none kV dc pm an cd ct),sl⟩/\PySem.W.codeIn K cd qual=true/\PySem.W.keepIn K (.ref g)=true/\PySem.W.isFn K (.ref g)=true
def rF.get {K:aT}{C:Addr}{m qual:Str}{st:Stmt}(H:rF K C m qual st):∃g gd,iq K m qual st g gd/\Meth K C m g:=by
 obtain⟨g,oc,od,an,sl,kV,dc,pm,cd,ct,a,l,c,k,i⟩:=H;exact⟨g,_,D0 (st:=st) l c k,⟨a,i,k⟩⟩
def fJ.c {K:aT}{h:Heap}{mg:Str->Option Value}{x:Str}{st:Stmt}{P:Program}{w:World}{base:Heap}{k:Nat}{ps:List Str}{sp:Sp}(H:fJ K x st)(X:K.In h)(G:h.Ns mainGlobals mg)
  (b:∀(kV doc pm:Value)(an:Option Addr)(dr ct:Value)(us:List Value),us.length=ps.length->bindArgs (PySem.W.fnOf x x (cP st) (bB st) (au st) .none kV doc pm an dr ct) ⟨us,[]⟩=pure (ps.zip us))
  (o:∀{f:Addr}{fd:FuncData},iq K x x st f fd->mg x=some (.ref f)->Binds K fd ps []->bf P w K mg base fk k f fd ps sp):aM P w K mg base k x ps sp:=by
 obtain⟨f,fd,F,m⟩:=H.get X G;have B:=F.binds b;exact⟨f,fd,o F m B,B,F.kp,m⟩
def hD {K:aT}{x:Str}{st:Stmt}(g c:Addr)(pm:Value)(h:(PySem.W.nsIn K mainGlobals x,K.lookup g,PySem.W.codeIn K (.ref c) x,PySem.W.keepIn K (.ref g))=(some (some (.ref g)),some ⟨.type "function",none,.func (PySem.W.fnOf x x (cP st) (bB st) (au st) .none .none .none pm none (.ref c) .none),#[]⟩,true,true)):fJ K x st:=by
 simp only [hU] at h;exact⟨g,_,_,_,_,_,_,_,_,_,h.1,h.2.1,h.2.2.1,h.2.2.2⟩
def hC {K:aT}{x:Str}{st:Stmt}{T:Addr}(g c:Addr)(pm:Value)(h:(PySem.W.nsIn K mainGlobals x,K.lookup g,PySem.W.codeIn K (.ref c) x,PySem.W.codeHdIn K c T,PySem.W.keepIn K (.ref g))=(some (some (.ref g)),some ⟨.type "function",none,.func (PySem.W.fnOf x x (cP st) (bB st) (au st) .none .none .none pm none (.ref c) .none),#[]⟩,true,true,true)):BP K x st T:=by
 simp only [hU] at h;exact⟨g,_,_,_,_,_,_,_,c,_,h.1,h.2.1,h.2.2.1,h.2.2.2.1,h.2.2.2.2⟩
def hM {K:aT}{C:Addr}{m qual:Str}{st:Stmt}(g c:Addr)(pm:Value)(h:(PySem.W.findIn K (.ref C) m,K.lookup g,PySem.W.codeIn K (.ref c) qual,PySem.W.keepIn K (.ref g),PySem.W.isFn K (.ref g))=(some (some (.ref g)),some ⟨.type "function",none,.func (PySem.W.fnOf m qual (cP st) (bB st) (au st) .none .none .none pm none (.ref c) .none),#[]⟩,true,true,true)):rF K C m qual st:=by
 simp only [hU] at h;exact⟨g,_,_,_,_,_,_,_,_,_,h.1,h.2.1,h.2.2.1,h.2.2.2.1,h.2.2.2.2⟩
end L2
namespace eG
open PySem L2 M11
def KW (K:aT)(C:Addr)(m qual:Str)(st:Stmt):Prop:=∃(g:Addr)(oc:Value)(od an:Option Addr)(sl:Array (Option Value))(kV dc pm cd ct:Value)(T:Addr)(o:Obj) (n:Nat),PySem.W.findIn K (.ref C) m=some (some (.ref g)) /\
 K.lookup g=some ⟨oc,od,.func (PySem.W.fnOf m qual (cP st) (bB st) (au st) (.ref T) kV dc pm an cd ct),sl⟩/\PySem.W.codeIn K cd qual=true/\K.lookup T=some o/\o.data=.seq #[.none] n/\PySem.W.keepIn K (.ref g)=true/\PySem.W.isFn K (.ref g)=true
def KW.get {K:aT}{C:Addr}{m qual:Str}{st:Stmt}(H:KW K C m qual st):∃g gd,zm K m qual st g gd/\PySem.W.findIn K (.ref C) m=some (some (.ref g))/\PySem.W.isFn K (.ref g)=true:=by
 obtain⟨g,oc,od,an,sl,kV,dc,pm,cd,ct,T,o,n,a,l,c,t,d,k,i⟩:=H;exact⟨g,_,⟨⟨oc,od,kV,dc,pm,an,cd,ct,sl,T,o,n,rfl,l,c,t,d⟩,k⟩,a,i⟩
structure Top (K:aT)(C Cg C3 T1 T2 T3 CE CU CL W fE fU fL:Addr)(tm:Tok):Prop where
 xE:rG K "Endless" "names" CE W fE
 xU:rG K "Unmet" "names" CU W fU
 xL:rG K "Loop" "steps" CL W fL
 xW:B7 K W
 xK:Qj K CE CU CL
 Yu:rF K CE "__init__" "Endless.__init__" pW
 Ys:rF K CU "__init__" "Unmet.__init__" xJ
 Yt:rF K CL "__init__" "Loop.__init__" xQ
 NZ:fJ K "_law_told" xN
 nB:PySem.W.nsIn K mainGlobals "BeginTable"=some (some (.ref C))
 nG:PySem.W.nsIn K mainGlobals "Grammar"=some (some (.ref Cg))
 nL:PySem.W.nsIn K mainGlobals "LeastTrees"=some (some (.ref C3))
 nM:PySem.W.nsIn K mainGlobals "MOST_RULES"=some (some (.int 60 tm))
 Ff:PySem.W.nsIn K mainGlobals "sorted"=some none
 h0:fJ K "heads_of" xT
 h1:fJ K "numbers_by_name" CA
 h2:fJ K "standings_by_part" IQ
 h3:fJ K "rule_size" mQ
 h4:fJ K "empty_by_name" pX
 h5:fJ K "words_in" xI
 h6:fJ K "found_empties" pY
 h7:fJ K "first_places" uD
 h8:fJ K "way_back" IP
 h9:fJ K "steps_with_like_rows" xO
 h10:fJ K "find_loop" CB
 h11:fJ K "refuse_twice" xM
 h12:fJ K "names_met" IS
 h13:fJ K "_law_cell_at" CF
 h14:fJ K "_law_stream" uB
 Th:fJ K "_law_pool" Cz
 h16:fJ K "_law_rule" Cy
 Z_:fJ K "_law_lacks" xR
 Sy:fJ K "law" IT
 Sg:fJ K "settled_sizes" k_
 Sm:fJ K "refuse_faults" uC
 hL:BP K "least_sizes" pV T1
 hG:BP K "greatest_empty_sizes" uF T2
 Z1:BP K "least_by_part" lg T3
 Yv:rF K C3 "__init__" "LeastTrees.__init__" xS
 Yz:rF K C "__init__" "BeginTable.__init__" xX
 Yy:rF K C "find_begins" "BeginTable.find_begins" CD
 Yx:rF K C "words_of_part" "BeginTable.words_of_part" xP
 Yw:KW K Cg "__init__" "Grammar.__init__" uG
 XR:PySem.W.plainGet K C Str.empty=true
 ZR:PySem.W.hasDictIn K C=true
 XN:PySem.W.plainOver K C=true
 XA:PySem.W.findIn K (.ref C) "__setattr__"=some (some (.builtin "object.__setattr__"))
 Yp:PySem.W.makesIn K C=true
 YU:PySem.W.keepIn K (.ref C)=true
 XQ:PySem.W.plainGet K Cg Str.empty=true
 ZP:PySem.W.hasDictIn K Cg=true
 XM:PySem.W.plainOver K Cg=true
 Xz:PySem.W.findIn K (.ref Cg) "__setattr__"=some (some (.builtin "object.__setattr__"))
 Yo:PySem.W.makesIn K Cg=true
 YT:PySem.W.keepIn K (.ref Cg)=true
 XO:PySem.W.plainGet K C3 Str.empty=true
 ZO:PySem.W.hasDictIn K C3=true
 XJ:PySem.W.plainOver K C3=true
 Xy:PySem.W.findIn K (.ref C3) "__setattr__"=some (some (.builtin "object.__setattr__"))
 Yn:PySem.W.makesIn K C3=true
 YS:PySem.W.keepIn K (.ref C3)=true
 zi:PySem.W.findIn K (.ref C) "empties"=some none
 EG:PySem.W.findIn K (.ref C) "empty"=some none
 BM:PySem.W.findIn K (.ref C) "begins"=some none
 BK:PySem.W.findIn K (.ref C) "firsts"=some none
 EC:PySem.W.findIn K (.ref C3) "rules"=some none
 EE:PySem.W.findIn K (.ref C3) "empty"=some none
 ED:PySem.W.findIn K (.ref C3) "least"=some none
 BJ:PySem.W.findIn K (.ref C3) "hollow"=some none
 rD:PySem.W.findIn K (.ref C3) "beginnings"=some none
 EF:PySem.W.findIn K (.ref Cg) "rules"=some none
 vd:PySem.W.findIn K (.ref Cg) "strengths"=some none
 qR:PySem.W.findIn K (.ref Cg) "begin_table"=some none
 ve:PySem.W.findIn K (.ref Cg) "standings"=some none
 qQ:PySem.W.findIn K (.ref Cg) "small_trees"=some none
 Qq:PySem.W.nsIn K mainGlobals "len"=some none
 Io:PySem.W.nsIn K mainGlobals "range"=some none
 vw:PySem.W.nsIn K mainGlobals "isinstance"=some none
 Il:PySem.W.nsIn K mainGlobals "tuple"=some none
 LR:PySem.W.nsIn K mainGlobals "list"=some none
 LS:PySem.W.nsIn K mainGlobals "dict"=some none
 Qt:PySem.W.nsIn K mainGlobals "all"=some none
 Qs:PySem.W.nsIn K mainGlobals "any"=some none
 Qm:PySem.W.nsIn K mainGlobals "str"=some none
 Qr:PySem.W.nsIn K mainGlobals "int"=some none
 LU:PySem.W.nsIn K mainGlobals "bool"=some none
 xx:PySem.W.nsIn K mainGlobals "enumerate"=some none
 Ql:PySem.W.nsIn K mainGlobals "sum"=some none
 Qo:PySem.W.nsIn K mainGlobals "max"=some none
 Qn:PySem.W.nsIn K mainGlobals "min"=some none
def all_mk {l:PySem.W.OpenLaw}{w:World}{K:aT}{h:Heap}{mg:Str->Option Value}{fa C Cg C3 T1 T2 T3 CE CU CL W fE fU fL:Addr}{tm:Tok}(X:K.In h)(G:h.Ns mainGlobals mg)(ZA:mg "law"=some (.ref fa))(tp:Top K C Cg C3 T1 T2 T3 CE CU CL W fE fU fL tm) :
  ∃fd:FuncData,(∀(s:Shared)(v:Value),BindsTo s fd ⟨[v],[]⟩ [("_law_script",v)])/\∀base:Heap,K.In base->base.Ns mainGlobals mg->qZ mg base->bf l.prog w K mg base fk 10 fa fd ["_law_script"] (zH K T1 T2 T3):=by
 have T:Txt mg:=⟨gu X G tp.Qq,gu X G tp.Io,gu X G tp.vw,gu X G tp.Il,gu X G tp.LR,gu X G tp.LS,gu X G tp.Qt,gu X G tp.Qs,gu X G tp.Qm,gu X G tp.Qr,gu X G tp.LU,gu X G tp.xx,gu X G tp.Ql,gu X G tp.Qo,gu X G tp.Qn⟩;obtain⟨HN,HW,wX,Hr⟩:=tp.Sg.get X G;have Ia:=wX.binds (ps:=["rules","sizes","better"]) λ_ _ _ _ _ _=>by exact O7 λ_ _ _=>rfl
 obtain⟨Oa,Ox,EN,MY⟩:=tp.Sm.get X G;have OE:=EN.binds (ps:=["rules","strengths"]) λ_ _ _ _ _ _=>by exact ER λ_ _=>rfl
 obtain⟨f_L,d_L,UM,Yq⟩:=tp.hL.get X G;have b_L:=UM.binds (ps:=["rules"]) λ_ _ _ _ _ _=>by exact Az λ_=>rfl
 obtain⟨f_G,d_G,UN,Yr⟩:=tp.hG.get X G;have b_G:=UN.binds (ps:=["rules"]) λ_ _ _ _ _ _=>by exact Az λ_=>rfl
 obtain⟨To,T7,K1,RH⟩:=tp.Z1.get X G;have Uo:=K1.binds (ps:=["rules"]) λ_ _ _ _ _ _=>by exact Az λ_=>rfl
 obtain⟨aad,aaj,K0,RG⟩:=tp.Yu.get;have Um:=K0.binds (ps:=["self","names"]) λ_ _ _ _ _ _ us hl=>match us,hl with | [_,_],_=>rfl
 obtain⟨aab,aah,KY,RD⟩:=tp.Ys.get;have Uk:=KY.binds (ps:=["self","names"]) λ_ _ _ _ _ _ us hl=>match us,hl with | [_,_],_=>rfl
 obtain⟨aac,aai,KZ,RF⟩:=tp.Yt.get;have Ul:=KZ.binds (ps:=["self","steps"]) λ_ _ _ _ _ _ us hl=>match us,hl with | [_,_],_=>rfl
 obtain⟨Tr,aao,O4,M0⟩:=tp.Yz.get;have Us:=O4.binds (ps:=["self","rules"]) λ_ _ _ _ _ _=>by exact ER λ_ _=>rfl
 obtain⟨aaf,aan,O3,RK⟩:=tp.Yy.get;have Ur:=O3.binds (ps:=["self","number","rule"]) λ_ _ _ _ _ _=>by exact O7 λ_ _ _=>rfl
 obtain⟨aae,aam,O2,RJ⟩:=tp.Yx.get;have Uq:=O2.binds (ps:=["self","part"]) λ_ _ _ _ _ _=>by exact ER λ_ _=>rfl
 obtain⟨Tp,aak,O0,MZ⟩:=tp.Yv.get;have Up:=O0.binds (ps:=["self","rules","begin_table"]) λ_ _ _ _ _ _=>by exact O7 λ_ _ _=>rfl
 obtain⟨Tq,aal,O1,RI,R1⟩:=tp.Yw.get;have cB:BC K C:=⟨⟨tp.XR,tp.ZR,tp.XN,tp.XA⟩,tp.zi,tp.EG,tp.BM,tp.BK⟩;have cG:GC K Cg:=⟨⟨tp.XQ,tp.ZP,tp.XM,tp.Xz⟩,tp.EF,tp.vd,tp.qR,tp.ve,tp.qQ⟩;have cL:LC K C3:=⟨⟨tp.XO,tp.ZO,tp.XJ,tp.Xy⟩,tp.EC,tp.EE,tp.ED,tp.BJ,tp.rD⟩;have kL:Mk K C3 Tp:=⟨tp.Yn,MZ.at_,MZ.fn,tp.YS⟩;have kB:Mk K C Tr:=⟨tp.Yp,M0.at_,M0.fn,tp.YU⟩;have kG:Mk K Cg Tq:=⟨tp.Yo,RI,R1,tp.YT⟩;obtain⟨f9,d9,F9,m9⟩:=tp.Sy.get X G;have e:=ZA.symm.trans m9;cases e;obtain⟨oc,od,kV,doc,pm,an,dr,ct,uM,eL,lk,qv⟩:=F9.ex;refine⟨d9,λs v=>?_,λbase _ _ N6=>?_⟩
 .rw [eL];exact .of_eq rfl
 have c0:=tp.h0.c (P:=l.prog) (w:=w) (base:=base) X G (λ_ _ _ _ _ _=>by exact Az λ_=>rfl) λF m B=>Ds F T;have c1:=tp.h1.c (P:=l.prog) (w:=w) (base:=base) X G (λ_ _ _ _ _ _=>by exact Az λ_=>rfl) λF m B=>FO F T c0;have c2:=tp.h2.c (P:=l.prog) (w:=w) (base:=base) X G (λ_ _ _ _ _ _=>by exact Az λ_=>rfl) λF m B=>Ji F T;have c3:=tp.h3.c (P:=l.prog) (w:=w) (base:=base) X G (λ_ _ _ _ _ _=>by exact ER λ_ _=>rfl) λF m B=>vP F T;have c4:=tp.h4.c (P:=l.prog) (w:=w) (base:=base) X G (λ_ _ _ _ _ _=>by exact ER λ_ _=>rfl) λF m B=>yq F T;have c5:=tp.h5.c (P:=l.prog) (w:=w) (base:=base) X G (λ_ _ _ _ _ _=>by exact Az λ_=>rfl) λF m B=>Df F T;have c6:=tp.h6.c (P:=l.prog) (w:=w) (base:=base) X G (λ_ _ _ _ _ _=>by exact Az λ_=>rfl) λF m B=>yr F T;have c7:=tp.h7.c (P:=l.prog) (w:=w) (base:=base) X G (λ_ _ _ _ _ _=>by exact ER λ_ _=>rfl) λF m B=>AU F T;have c8:=tp.h8.c (P:=l.prog) (w:=w) (base:=base) X G (λ_ _ _ _ _ _=>by exact O7 λ_ _ _=>rfl) λF m B=>FK F T;have c9:=tp.h9.c (P:=l.prog) (w:=w) (base:=base) X G (λ_ _ _ _ _ _=>by exact Az λ_=>rfl) λF m B=>Dj F T c6 c0;have c10:=tp.h10.c (P:=l.prog) (w:=w) (base:=base) X G (λ_ _ _ _ _ _=>by exact Az λ_=>rfl) λF m B=>Dn F T c9 c8;have c11:=tp.h11.c (P:=l.prog) (w:=w) (base:=base) X G (λ_ _ _ _ _ _=>by exact Az λ_=>rfl) λF m B=>Dg F T;have c12:=tp.h12.c (P:=l.prog) (w:=w) (base:=base) X G (λ_ _ _ _ _ _=>by exact Az λ_=>rfl) λF m B=>Jj F T;have HZ:=tp.h13.c (P:=l.prog) (w:=w) (base:=base) X G (λ_ _ _ _ _ _=>by exact ER λ_ _=>rfl) λF m B=>FQ F T;have WM:=tp.h14.c (P:=l.prog) (w:=w) (base:=base) X G (λ_ _ _ _ _ _=>by exact ER λ_ _=>rfl) λF m B=>AS F T;have Ue:=tp.Th.c (P:=l.prog) (w:=w) (base:=base) X G (λ_ _ _ _ _ _=>by exact ER λ_ _=>rfl) λF m B=>FN F T (WM.mono nofun);have c16:=tp.h16.c (P:=l.prog) (w:=w) (base:=base) X G (λ_ _ _ _ _ _=>by exact ER λ_ _=>rfl) λF m B=>Dk F T (WM.mono nofun);have c17:=tp.Z_.c (P:=l.prog) (w:=w) (base:=base) X G (λ_ _ _ _ _ _=>by exact Az λ_=>rfl) λF m B=>Dr F T;have Ub:aM l.prog w K mg base 2 "settled_sizes" ["rules","sizes","better"] (gH K w6 qg.1 qg.2.1 qg.2.2.1 M11.bl):=⟨HN,HW,yk wX T,Ia,wX.kp,Hr⟩;have Uc:aM l.prog w K mg base 2 "settled_sizes" ["rules","sizes","better"] (gH K Ht yD.1 yD.2.1 yD.2.2.1 M11.bg):=⟨HN,HW,yl wX T,Ia,wX.kp,Hr⟩;have WL:aM l.prog w K mg base 3 "least_sizes" ["rules"] (oQ K T1):=⟨f_L,d_L,Dq UM T N6 c5 Ub,b_L,UM.kp,Yq⟩;have c_G:aM l.prog w K mg base 3 "greatest_empty_sizes" ["rules"] (uv K T2):=⟨f_G,d_G,Dt UN N6 Uc,b_G,UN.kp,Yr⟩;have OA:nK l.prog w K mg base 4 "refuse_faults" ["rules","strengths"] (mK K T1 T2 CE CU CL):=⟨Oa,Ox,ym EN T (mj X G tp.nM) (tp.xE.rz tp.xW X G K0 RG Um (yp K0 T)) (tp.xU.rz tp.xW X G KY RD Uk (AR KY T)) (tp.xL.rz tp.xW X G KZ RF Ul (Dm KZ T)) c11 WL c0 c12 c10 c_G,OE,EN.kp,MY⟩;have Ud:aM l.prog w K mg base 4 "least_by_part" ["rules"] (mM K T1 T3):=⟨To,T7,yo K1 T N6 (gu X G tp.Ff) (c0.mono nofun) WL (c1.mono nofun) (c3.mono nofun),Uo,K1.kp,RH⟩;have Rf:=Dl (P:=l.prog) (w:=w) (base:=base) O2 T cB;have Rg:=FP O3 T cB c7 Rf RJ Uq;have Rh:=Du O4 T cB c6 c0 Rg RK Ur;have Rb:=Dp O0 T cB cL Ud (c4.mono nofun);have Rc:=AV O1 T cG (OA.mono nofun) (c2.mono nofun) (Rh.mono nofun) kB Us (mj X G tp.nB) Rb kL Up (mj X G tp.nL);have KG:=tp.NZ.c (P:=l.prog) (w:=w) (base:=base) X G (λ_ _ _ _ _ _ us hl=>match us,hl with | [_],_=>rfl) λF m B=>Dh F kG Rc (DV O1) (mj X G tp.nG) (tp.xW.mW X G) tp.xE.xm tp.xU.xm tp.xL.xm
 exact Jk F9 T (YA tp.xE tp.xU tp.xL tp.xW tp.xK X G) (HZ.mono nofun) (Ue.mono nofun) (c16.mono nofun) (c17.mono nofun) (KG.mono nofun)
def walk {l:PySem.W.OpenLaw}{q:Program}{loose:List Str}{XP:(Str->Option Value)->Heap->Prop}{YP:World->Heap->Prop}{d:DefRec}{K:Params->aT}(T1 T2 T3 c1 c2 c3:Addr)(Ho:T1≠T2)(Hn:T1≠T3)(Hm:T2≠T3)(hn:l.most=some 63)(JU:d.params.defaults=[])
  (hY:∀(w:World)(h:Heap),YP w h->(K w.params).In h/\∀T∈[T3,T2,T1],h.get? T=some (PySem.W.tabObj #[]))
  (Z4:∀w:World,(K w.params).lookup T1=none)(Z3:∀w:World,(K w.params).lookup T2=none)(Z2:∀w:World,(K w.params).lookup T3=none)(Z8:∀w:World,PySem.W.codeHdIn (K w.params) c1 T1=true)(Z7:∀w:World,PySem.W.codeHdIn (K w.params) c2 T2=true)(Z6:∀w:World,PySem.W.codeHdIn (K w.params) c3 T3=true)
  (F:∀(w:World)(mg:Str->Option Value)(fa:Addr)(h:Heap),(K w.params).In h->h.Ns mainGlobals mg->mg d.name=some (.ref fa) ->
   ∃fd:FuncData,(∀(s:Shared)(u:Value),BindsTo s fd ⟨[u],[]⟩ [("_law_script",u)])/\∀base:Heap,(K w.params).In base->base.Ns mainGlobals mg->qZ mg base->bf l.prog w (K w.params) mg base fk 10 fa fd ["_law_script"] (zH (K w.params) T1 T2 T3)) :
  PySem.W.WalkO q loose XP YP l.row.toRowW d [] (λf vs=>PySem.call f vs) :=
 L2.B_ (n:=63) (k:=10) (x := "_law_script") (CX:=λ_=>fk) (sp:=λw=>zH (K w.params) T1 T2 T3) hn nofun JU ⟨rfl,nofun,nofun,rfl⟩ hY (λw T hT=>by
  rcases bC.mp hT with e | hT
  .subst e;exact⟨Z2 w,c3,Z6 w⟩
  rcases bC.mp hT with e | hT
  .subst e;exact⟨Z3 w,c2,Z7 w⟩
  rw [cm.mp hT];exact⟨Z4 w,c1,Z8 w⟩) F (λ_ H a ns hl _ hT hS=>⟨a,ns,rfl,hS,hl,⟨⟨#[],hT T1 (by simp),by trivial,.inl rfl⟩,⟨#[],hT T2 (by simp),by trivial,.inl rfl⟩,⟨#[],hT T3 (by simp),by trivial,.inl rfl⟩,Ho,Hn,Hm⟩,λ_=>rfl⟩) λ_ _ _ _ _ z=>z
end eG
set_option maxHeartbeats 0
end
namespace HD
open PySem PySem.W L2
def QA (P:Params):eG.Top (K P) 105 367 338 248 253 282 170 189 208 119 167 186 205 534:=⟨eG.TF (nofun) (nofun),
 eG.TF (nofun) (nofun),
 eG.TF (nofun) (nofun),
 eG.eqW (nofun),
 eG.eqK (nofun),
 hM 167 166 HD.m3 (nofun),
 hM 186 185 HD.m3 (nofun),
 hM 205 204 HD.m3 (nofun),
 hD 407 406 HD.m9 (nofun),nofun,nofun,nofun,nofun,nofun,
 hD 26 25 HD.m1 (nofun),
 hD 36 35 HD.m1 (nofun),
 hD 43 42 HD.m1 (nofun),
 hD 290 289 HD.m7 (nofun),
 hD 295 294 HD.m7 (nofun),
 hD 31 30 HD.m1 (nofun),
 hD 48 47 HD.m2 (nofun),
 hD 55 54 HD.m2 (nofun),
 hD 246 245 HD.m4 (nofun),
 hD 239 238 HD.m4 (nofun),
 hD 234 233 HD.m4 (nofun),
 hD 275 274 HD.m6 (nofun),
 hD 280 279 HD.m6 (nofun),
 hD 378 377 HD.m9 (nofun),
 hD 385 384 HD.m9 (nofun),
 hD 390 389 HD.m9 (nofun),
 hD 395 394 HD.m9 (nofun),
 hD 400 399 HD.m9 (nofun),
 hD 412 411 HD.m9 (nofun),
 hD 263 262 HD.m5 (nofun),
 hD 268 267 HD.m6 (nofun),
 hC 251 250 HD.m5 (nofun),
 hC 258 257 HD.m5 (nofun),
 hC 285 284 HD.m7 (nofun),
 hM 307 306 HD.m7 (nofun),
 hM 67 66 HD.m2 (nofun),
 hM 74 73 HD.m2 (nofun),
 hM 81 80 HD.m2 (nofun),
 ⟨357,.type "function",none,none,#[],.none,.none,.str "wright.grammars" 645,.ref 356,.none,350,⟨.type "tuple",none,.seq #[.none] 0,#[]⟩,0,nofun,nofun,nofun,nofun,rfl,nofun,nofun⟩,nofun,nofun,nofun,nofun,nofun,nofun,nofun,nofun,nofun,nofun,nofun,nofun,nofun,nofun,nofun,nofun,nofun,nofun,nofun,nofun,nofun,nofun,nofun,nofun,nofun,nofun,nofun,nofun,nofun,nofun,nofun,nofun,nofun,nofun,nofun,nofun,nofun,nofun,nofun,nofun,nofun,nofun,nofun,nofun,nofun,nofun,nofun⟩
end HD
theorem PySem.Challenge.cw_wright_k12_endless_and_unmet_holds : PySem.Challenge.rw_wright_k12_endless_and_unmet.Holds := by
 refine HD.hold ?_ ?hw
 case hw=>w_witness2
 refine eG.walk (l:=PySem.Challenge.rw_wright_k12_endless_and_unmet) (K:=HD.K) 248 253 282 250 257 284 nofun nofun nofun rfl HD.XT (λw h Y=>⟨PySem.W.km_in_of Y,PySem.W.km_tabs_of Y⟩) (λw=>by kernel_rfl) (λw=>by kernel_rfl) (λw=>by kernel_rfl) (λw=>by kernel_rfl) (λw=>by kernel_rfl) (λw=>by kernel_rfl) ?F;intro w mg fa h KX G JN;exact eG.all_mk KX G JN (HD.QA w.params)
