import PyProof.Rows.All
import Wide.All
import OpenK.AllK
import Wide.FinOn
import Lean
import PyProof.EqAt
import PyProof.EqKinds
import PyProof.TupleCall
import KE.KNestM
import PyProof.IsiH_list
import PyProof.RaisesAny
import KE.KDictOf
import PyProof.CollectWalk
import PyProof.CompFree
import KE.KDictList
import PyProof.NeKinds
import PyProof.ConsumeWalk
import PyProof.StrBlockI
import PyProof.EnumFor
import PyProof.TupleIter
import PyProof.EnumMake
import KE.KLam
import PyProof.DictUpdate
import PyProof.SeqI3
import PyProof.DictWalks
import PyProof.ConsumeS
import PyProof.Rows.CallKwBuiltin
import KE.KDictLaws
import PyProof.AutoListH
import PyProof.ZipIter
import PyProof.ListNew
import KE.KRevSl
import PyProof.StrOps
import PyProof.StrOps2
import KE.KSortKey
import PyProof.Rows.SetFrom
import PyProof.MinMaxWalk
import KE.KDictSum
import PySem.Challenge.RW_wright_k22_words_that_begin_parts
set_option Elab.async false
set_option linter.all false
set_option maxRecDepth 100000
local macro_rules | `(tactic| omega) => `(tactic| first | lia | omega (config := {}))
local macro_rules | `(∅) => `(by omega)
local macro_rules | `(nofun) => `(by first | decide +kernel | kernel_rfl)
def a_:=@Or.inl
abbrev a0:=PySem.W.Frag
def uo:0<=PySem.sizeLine:=by decide
def EB:1<=PySem.sizeLine:=by decide
def mj:2<=PySem.sizeLine:=by decide
def Kw:3<=PySem.sizeLine:=by decide
def Y6:4<=PySem.sizeLine:=by decide
def U9:5<=PySem.sizeLine:=by decide
def ar.{u,v}:=@List.length_map.{u,v}
def bh.{u}:=@List.getElem?_eq_some_iff.{u}
def ay:=@PySem.wpAny_bind
def bW:=@PySem.Heap.get?_push_of_some
def bf.{u,v}:=@List.getElem?_map.{u,v}
def b_.{u,v}:=@Option.map_eq_some_iff.{u,v}
def bB.{u}:=@List.length_append.{u}
def br.{u,v}:=@List.map_append.{u,v}
def cA.{u}:=@List.mem_of_getElem?.{u}
def cg.{u}:=@List.mem_singleton.{u}
def aD:=@PySem.wpAny_pure
def bQ.{u}:=@List.mem_cons_self.{u}
def aK:=@Nat.le_refl
def cT.{u}:=@List.getElem?_eq_getElem.{u}
def cu.{u}:=@List.mem_cons_of_mem.{u}
def cJ:=@PySem.Heap.get?_push_size
def bY.{u}:=@List.mem_append.{u}
def b8:=@PySem.PassesOwn.never
def bo:=@PySem.Heap.lt_size
def bI:=@PySem.Paired.length
def cI:=@of_decide_eq_true
def bO.{u}:=@List.mem_cons.{u}
def dD.{u}:=@List.mem_append_right.{u}
def cC.{u}:=@List.take_length.{u}
def cQ.{u}:=@List.take_add_one.{u}
def cP.{u}:=@List.size_toArray.{u}
def bE:=@Nat.ne_of_lt
def aw.{u}:=@if_pos.{u}
def ax.{u}:=@if_neg.{u}
def bN.{u,v}:=@List.mem_map.{u,v}
def dH.{u}:=@List.mem_append_left.{u}
def fX:=@PySem.F.type_list_append
def fV:=@PySem.F.slot_list_append
def dC:=@Bool.false_ne_true
def fU:=@PySem.F.plainAttrs_list
def cH.{u,v}:=@List.map_cons.{u,v}
def fS.{u}:=@List.length_singleton.{u}
def cU:=@decide_eq_true
def dG.{u}:=@List.length_cons.{u}
def fQ.{u}:=@List.getElem?_of_mem.{u}
def dP.{u}:=@List.all_eq_true.{u}
def d0.{u}:=@List.length_take.{u}
def gp:=@PySem.W.mg_none_of
def gk:=@Nat.lt_of_lt_of_le
def iB:=@Bool.and_eq_true_iff
def gi.{u}:=@Option.some.inj.{u}
def hU:=@Int.toNat_natCast
def gJ:=@decide_eq_false
def gI.{u}:=@List.mem_filter.{u}
def gH.{u}:=@List.append_nil.{u}
def iO.{u,v}:=@List.mem_map_of_mem.{u,v}
def iN.{u}:=@Array.length_toList.{u}
def eK:=@Nat.le_trans
def gT:=@PySem.boot_len
def dA:=@PySem.wpAny_mono
def iM:=@PySem.wpAny_newObj_type
def nX.{u}:=@List.getElem?_append_right.{u}
def nW.{u}:=@List.getD_eq_getElem?_getD.{u}
def qp.{u}:=@List.take_append_of_le_length.{u}
def kP.{u}:=@List.length_filter_le.{u}
def fj:=@Nat.zero_le
def i9:=@Nat.lt_succ_self
def nV.{u}:=@Option.isSome_iff_exists.{u}
def iL.{u}:=@List.nodup_cons.{u}
def jv.{u}:=@List.nodup_append.{u}
def iA.{u}:=@List.nodup_nil.{u}
def kO.{u}:=@beq_eq_false_iff_ne.{u}
def iK:=@List.mem_range
def qo.{u}:=@List.getElem?_append_left.{u}
def kn.{u}:=@List.append_assoc.{u}
def mi:=@PySem.Around.under_plainId
def ju:=@Bool.eq_iff_iff
def uM:=@PyProof.Rows.slot_tuple_getitem
def gR:=@PySem.Paired.snoc
def kj:=@PySem.wpAny_call_entry
def iz.{u,v,w}:=@List.map_map.{u,v,w}
def qm:=@PySem.wpAny_callSpecial?_slot
def ql.{u}:=@List.getElem?_eq_none.{u}
def jt:=@PySem.Heap.size_push
def i8:=@PySem.wpAny_holding
def kM.{u}:=@List.length_nil.{u}
def mh.{u,v}:=@List.mem_flatMap.{u,v}
def mf:=@Bool.and_eq_true
def nU:=@PySem.wpAny_Call_Name_kw
def kK:=@PySem.codeAny_builtin
def nR:=@Nat.lt_succ_of_lt
def nQ:=@List.length_range
def me:=@Nat.not_lt_zero
def rF.{u}:=@Array.getElem?_toList.{u}
def rE.{u}:=@List.mem_of_mem_take.{u}
def rD.{u}:=@List.mem_iff_getElem.{u}
def rC:=@PySem.Heap.get?_update_self
def kJ:=@Nat.lt_irrefl
def kI.{u}:=@List.sum_cons.{u}
def kb:=@Nat.ne_of_gt
def qk:=@PySem.Calls.spliced_cons
def xU:=@PyProof.Rows.callWith_type1
def uL.{u}:=@List.take_of_length_le.{u}
def qj.{u}:=@List.getElem_mem.{u}
def jr:=@PySem.wpAny_field
def mS.{u}:=@List.filter_append.{u}
def mR:=@PySem.Heap.SameBut.update
def jk:=@Bool.true_and
def ix:=@Int.le_refl
def iP:=@PySem.wpAny_typeOf
def jj:=@PySem.plainId_quiet
def mQ.{u,v}:=@Option.isSome_map.{u,v}
def rT.{u}:=@List.getElem?_take_of_lt.{u}
def ji:=@Nat.lt_trans
def jh:=@Nat.le_of_lt
def mP:=@PySem.wpAny_truthy_bool
def mN:=@PySem.wpAny_pyIter_list
def mM.{u}:=@beq_self_eq_true.{u}
def pF.{u}:=@List.pairwise_cons.{u}
def pE.{u,v}:=@List.map_singleton.{u,v}
def mK.{u}:=@List.nil_append.{u}
def iw:=@PySem.wpAny_rule
def pD:=@PySem.tupleKind_room_in1
def pC:=@PySem.Obj.data_mapFields
def mJ:=@PySem.wpAny_passesOwn
def jR:=@PySem.codeAny_mono
def px.{u,v}:=@List.getElem_map.{u,v}
def pq.{u}:=@List.filter_cons.{u}
def pj:=@PySem.wpAny_setState_of
def rS:=@PySem.mem_of_lookup
def fk.{u}:=@Ne.symm.{u}
def jQ:=@Nat.le_succ
def rR.{u}:=@List.take_succ_cons.{u}
def ph:=@PySem.Calls.spliced_nil
def kU:=@Int.zero_add
def wm:=@PySem.F.slot_tuple_iterator_next
def mI:=@PySem.wpAny_seqItems
def rQ:=@Nat.lt_of_le_of_lt
def pd.{u}:=@List.find?_cons.{u}
def pb:=@PySem.wpAny_askSetting
def wk:=@PySem.F.slot_list_getattribute
def kT:=@PySem.F.called_set
def wj.{u}:=@Array.getElem?_eq_none.{u}
def kR.{u,v}:=@Sum.inr.inj.{u,v}
def rP:=@Bool.eq_false_iff
def o_:=@Bool.false_and
def rO:=@PySem.wpAny_setField_rec
def wg:=@PySem.wpAny_loadPart'
def wc:=@PyProof.Rows.boot_sum
def mH.{u,v}:=@List.map_nil.{u,v}
def rN.{u}:=@List.not_mem_nil.{u}
def rM.{u}:=@List.length_drop.{u}
def wb:=@PySem.Heap.get?_update_other
def wa:=@PySem.Calls.callWith_builtin
def o9:=@PySem.W.mg_of
def o8.{u,v}:=@List.map_take.{u,v}
def o7.{u}:=@List.any_cons.{u}
def v_:=@PySem.wpAny_pyNext_list_end
def v9:=@PySem.builtinLookup_eq_fast
def rL.{u,v}:=@Option.map_some.{u,v}
def v8:=@PySem.F.slot_enumerate_next
def v7.{u}:=@Array.toList_append.{u}
def rK:=@PySem.wpAny_isInstance
def v3:=@PySem.wpAny_loadName_local
def vZ:=@PySem.codeAny_call_builtin
def o6:=@Nat.zero_add
def o5:=@Int.le_trans
def vY:=@PySem.Calls.evalArgs_plain
def oZ:=@PySem.wpAny_attempt
def rJ.{u}:=@List.drop_zero.{u}
def kQ:=@PySem.wpAny_call
def zV:=@PySem.F.slot_dict_update
def zU:=@PySem.F.args_tuple_add_2
def zT.{u}:=@List.length_erase_of_mem.{u}
def vX.{u,v}:=@List.foldl_append.{u,v}
def zS:=@PySem.F.plainAttrs_dict
def zR:=@PySem.F.entry_tuple_add
def zQ:=@PyProof.Rows.boot_tuple
def rH.{u,v}:=@Prod.mk.injEq.{u,v}
def jP.{u,v}:=@Prod.ext.{u,v}
def zP.{u}:=@List.length_eq_zero_iff.{u}
def vW:=@PySem.wpAny_pyIter_tuple
def vV.{u}:=@List.getElem_inj.{u}
def rG:=@PySem.wpAny_setField
def zO:=@PySem.F.slot_tuple_add
def zN.{u}:=@List.length_pos_of_mem.{u}
namespace L2
open PySem PySem.Spec PyProof.Rows
abbrev aM:=Sum Int Str
def sZ:aM->Value->Bool
 | .inl k,v=>Value.isInt k v
 | .inr x,v=>Value.isStrOf x v
def Ws (w:World):aM->Int
 | .inl k=>hashInt k
 | .inr x=>hashStr w x
def de:∀{k:aM}{v:Value},sZ k v=true->(∃i t,k=Sum.inl i/\v=Value.int i t)\/(∃x t,k=Sum.inr x/\v=Value.str x t)
 | .inl i,v,h=>by
  obtain⟨t,e⟩:=Value.isInt_shape (k:=i) (v:=v) h;exact .inl ⟨i,t,rfl,e⟩
 | .inr x,v,h=>by
  obtain⟨t,e⟩:=Value.isStrOf_shape (x:=x) (v:=v) h;exact .inr ⟨x,t,rfl,e⟩
def Dl (i:Int)(t:Tok):sZ (.inl i) (.int i t)=true:=by simp [sZ,Value.isInt]
def Dk (x:Str)(t:Tok):sZ (.inr x) (.str x t)=true:=by simp [sZ,Value.isStrOf]
def Nt (a b:Int):decide ((Sum.inl a:aM)=Sum.inl b)=(a == b):=by
 by_cases e:a=b
 .subst e;simp
 have h:¬(Sum.inl a:aM)=Sum.inl b:=λq=>e (Sum.inl.inj q);rw [gJ h];exact(kO.mpr e).symm
def Np (a b:Str):decide ((Sum.inr a:aM)=Sum.inr b)=decide (a=b):=by
 by_cases e:a=b
 .subst e;simp
 have h:¬(Sum.inr a:aM)=Sum.inr b:=λq=>e (kR q);rw [gJ h,gJ e]
def Nr (a:Int)(b:Str):decide ((Sum.inl a:aM)=Sum.inr b)=false:=gJ (λq=>nomatch q)
def Nq (a:Str) (b:Int):decide ((Sum.inr a:aM)=Sum.inl b)=false:=gJ (λq=>nomatch q)
def bc (prog:Program)(w:World):PySem.KeyKind prog w aM where
 is:=sZ
 hash:=Ws w
 inj:=λv a b ha hb=>by
  rcases de ha with ⟨i,t,rfl,rfl⟩ | ⟨x,t,rfl,rfl⟩
  .rcases de hb with ⟨j,u,rfl,e⟩ | ⟨y,u,rfl,e⟩
   .injection e with e1 _;rw [e1]
   exact nomatch e
  rcases de hb with ⟨j,u,rfl,e⟩ | ⟨y,u,rfl,e⟩
  .exact nomatch e
  injection e with e1 _;rw [e1]
 byValue:=λk v h=>by
  rcases de h with ⟨i,t,rfl,rfl⟩ | ⟨x,t,rfl,rfl⟩ <;> rfl
 pyHash:=λhv h=>by
  rcases de hv with ⟨i,t,rfl,rfl⟩ | ⟨x,t,rfl,rfl⟩
  .exact wpAny_pyHash_int h
  exact wpAny_pyHash_str h
 eqBool:=λhu hv h=>by
  rcases de hu with ⟨i,t,rfl,rfl⟩ | ⟨x,t,rfl,rfl⟩
  .rcases de hv with ⟨j,u,rfl,rfl⟩ | ⟨y,u,rfl,rfl⟩
   .rw [Nt] at h;exact wpAny_eqBool_int h
   rw [Nr] at h;exact SeqAt.EqAt.int_str i t y u _ _ _ _ h
  rcases de hv with ⟨j,u,rfl,rfl⟩ | ⟨y,u,rfl,rfl⟩
  .rw [Nq] at h;exact SeqAt.EqAt.str_int x t j u _ _ _ _ h
  rw [Np] at h;exact wpAny_eqBool_str h
 «strs»:=λk x t v h=>by
  rcases de h with ⟨i,u,rfl,e⟩ | ⟨y,u,rfl,e⟩
  .exact nomatch e
  injection e with e1 _;subst e1;cases v <;> rfl
def yG (prog:Program)(w:World) (i:Int)(t:Tok):(bc prog w).is (.inl i) (.int i t)=true:=Dl i t
def yF (prog:Program)(w:World)(x:Str)(t:Tok):(bc prog w).is (.inr x) (.str x t)=true:=Dk x t
inductive V where
 | gb | bl (b:Bool) | int (i:Int) | str (x:Str) | DT (b:Array UInt8) | N4 (b:UInt64) | ref (a:Addr) | ty (n:String)
 deriving DecidableEq
def RelV:V->Value->Prop
 | .gb,u=>u=Value.none
 | .bl b,u=>u=Value.bool b
 | .int i,u=>∃t,u=Value.int i t
 | .str x,u=>∃t,u=Value.str x t
 | .DT b,u=>∃t,u=Value.bytes b t
 | .N4 b,u=>∃t,u=Value.float b t
 | .ref a,u=>u=Value.ref a
 | .ty n,u=>u=Value.type n
abbrev ba:List V->List Value->Prop:=Paired RelV
theorem ba.length {xs:List V}{us:List Value}(r:ba xs us):xs.length=us.length:=bI r
theorem ba.get:∀{xs:List V}{us:List Value}{i:Nat}{x:V},ba xs us->xs[i]?=some x->∃u,us[i]?=some u/\RelV x u
 | _,_,_,_,.nil,e=>by simp at e
 | _,_,0,_,.cons r _,e=>by simp at e;subst e;exact⟨_,rfl,r⟩
 | _,_,i+1,x,.cons _ t,e=>by
  obtain⟨u,h1,h2⟩:=ba.get (i:=i) (x:=x) t (by simpa using e);exact⟨u,by simpa using h1,h2⟩
theorem ba.set {x:V}{u:Value}(r:RelV x u):∀{xs:List V}{us:List Value}(i:Nat),ba xs us->ba (xs.set i x) (us.set i u)
 | _,_,_,.nil=>.nil
 | _,_,0,.cons _ t=>.cons r t
 | _,_,i+1,.cons q t=>.cons q (ba.set r i t)
theorem ba.append:∀{xs ys:List V}{us ws:List Value},ba xs us->ba ys ws->ba (xs++ys) (us++ws)
 | _,_,_,_,.nil,s=>s
 | _,_,_,_,.cons r t,s=>.cons r (ba.append t s)
theorem ba.take:∀{xs:List V}{us:List Value}(n:Nat),ba xs us->ba (xs.take n) (us.take n)
 | _,_,0,_=>.nil
 | _,_,_+1,.nil=>.nil
 | _,_,n+1,.cons r t=>.cons r (ba.take n t)
theorem ba.drop:∀{xs:List V}{us:List Value}(n:Nat),ba xs us->ba (xs.drop n) (us.drop n)
 | _,_,0,r=>r
 | _,_,_+1,.nil=>.nil
 | _,_,n+1,.cons _ t=>ba.drop n t
def ba.none_of:∀{xs:List V}{us:List Value}{i:Nat},ba xs us->xs[i]?=none->us[i]?=none:=λ{xs us i} r e=>by
 have h1:=r.length;have h2:xs.length<=i:=List.getElem?_eq_none_iff.mp e;exact List.getElem?_eq_none_iff.mpr ∅
def ka:Option V->Option Value->Prop
 | some v,some u=>RelV v u
 | none,none=>True
 | _,_=>False
def KV {κ:Type}:List (κ×V)->List (κ×Value)->Prop:=Paired λ(p:κ×V)(q:κ×Value)=>p.1=q.1/\RelV p.2 q.2
def kV:aM->V
 | .inl i=>.int i
 | .inr x=>.str x
inductive HO where
 | lst (xs:List V)
 | tup (xs:List V)
 | dK (kvs:List (aM×V)) | dT (kvs:List (List aM×V))
 | set (S:Int->Bool) (n:Nat)
 | ins (C dx:Addr)(fs:List (Str×V))
 | own (x:Addr)
 | xd (fs:List (Str×V))
 | met (f x:Addr)
 | Fw (lo hi:Int)
 | ky (o:Obj)(u:HO)
 | ur (ps:Array Value)
 | ext (φ:Heap->Prop)
abbrev Hp:=Addr->Option HO
def upd (H:Hp)(a:Addr)(o:HO):Hp:=λb=>if b=a then some o else H b
def ae {H:Hp}{a:Addr}{o:HO}:upd H a o a=some o:=by unfold upd;rw [aw rfl]
def ak {H:Hp}{a b:Addr}{o:HO}(h:b≠a):upd H a o b=H b:=by unfold upd;rw [ax h]
def n6 {H:Hp}{a:Addr}{o u:HO}:upd (upd H a o) a u=upd H a u:=by
 funext b;unfold upd;split <;> rfl
def QN {H:Hp}{a b:Addr}{o u:HO}(h:H a=some o)(h':H b=some u)(d:o≠u):a≠b:=by
 intro e;subst e;rw [h] at h';exact d (gi h')
def aB {H:Hp}{a b:Addr}{o:HO}(h:H a=some o)(h':H b=none):a≠b:=by
 intro e;subst e;rw [h] at h';cases h'
section
variable (P:Program)(w:World)
def cK (H:Hp)(h:Heap)(a:Addr):HO->Prop
 | .lst xs=>xs.length<=sizeLine/\∃(aU:List Value) (n:Nat),ba xs aU/\h.get? a=some { cls:=.type "list",data:=.seq aU.toArray n }
 | .tup xs=>xs.length<=sizeLine/\∃aU:List Value,ba xs aU/\IsTup h a aU.toArray
 | .dK kvs=>kvs.length<=sizeLine/\(a == sysModules)=false/\∃vs,KV kvs vs/\h.DictOf (bc P w) a vs
 | .dT kvs=>kvs.length<=sizeLine/\(a == sysModules)=false/\∃xs:List (List aM×Addr×Value),
   Paired (λ(p:List aM×V)(q:List aM×Addr×Value)=>p.1=q.1/\H q.2.1=some (.tup (p.1.map kV))/\RelV p.2 q.2.2) kvs xs /\
   ∃o es ep,h.get? a=some o/\o.ExactDict/\o.data=.dict es ep/\es.toList=xs.map (entryOfKey (tupleKind (bc P w)))/\(xs.map (·.1)).Nodup
 | .set S n=>h.SetOf (intKind P w) a S n
 | .ins C dx fs=>H dx=some (.own a)/\fs.length<=1000/\dx≠a/\h.get? a=some (PySem.W.instObj C dx) /\
   ∃mA,h.Ns1 dx mA/\(∀f,ka (fs.lookup f) (mA f))/\PySem.Within mA (fs.map (·.1))
 | .own _=>∃o,h.get? a=some o
 | .xd fs=>∃mA,h.Ns1 a mA/\∀f,ka (fs.lookup f) (mA f)
 | .Fw lo hi=>∃t u v,h.get? a=some { cls:=.type "range",data:=.fields #[.int lo t,.int hi u,.int 1 v] }
 | .ky o u=>h.get? a=some o/\cK H h a u
 | .ur ps=>h.get? a=some { cls:=.none,data:=.fields ps }
 | .met f x=>h.get? a=some (PySem.W.methodObj (.ref f) (.ref x))
 | .ext φ=>φ h/\(∃o,h.get? a=some o)/\∀h1 h2:Heap,φ h1->(∀o,h1.get? a=some o->h2.get? a=some o)->φ h2
def mF (H:Hp)(h:Heap):Prop:=∀a o,H a=some o->cK P w H h a o
end
section
variable {P:Program}{w:World}{H H':Hp}{h h':Heap}{a:Addr}{o:HO}
theorem cK.lt (x:cK P w H h a o):a < h.objs.size:=by
 cases o with
 | lst xs=>obtain⟨_,_,_,_,e⟩:=x;exact bo e
 | tup xs=>obtain⟨_,_,_,p⟩:=x;exact p.lt
 | dK kvs=>obtain⟨_,_,_,_,o,_,_,e,_⟩:=x;exact bo e
 | dT kvs=>obtain⟨_,_,_,_,o,_,_,e,_⟩:=x;exact bo e
 | set S n=>obtain⟨o,_,_,_,e,_⟩:=x;exact bo e
 | ins C dx fs=>obtain⟨_,_,_,e,_⟩:=x;exact bo e
 | own y=>obtain⟨_,e⟩:=x;exact bo e
 | xd fs=>obtain⟨_,⟨_,_,_,e,_⟩,_⟩:=x;exact bo e
 | Fw lo hi=>obtain⟨_,_,_,e⟩:=x;exact bo e
 | ky ob u=>obtain⟨e,_⟩:=x;exact bo e
 | ur ps=>exact bo (show h.get? a=some _ from x)
 | met f y=>exact bo (show h.get? a=some _ from x)
 | ext φ=>obtain⟨_,⟨_,e⟩,_⟩:=x;exact bo e
theorem Paired.dY {α β:Type}{F G:α->β->Prop}:∀{l₁:List α}{l₂:List β},Paired F l₁ l₂->(∀a b,F a b->G a b)->Paired G l₁ l₂
 | _,_,.nil,_=>.nil
 | _,_,.cons r t,f=>.cons (f _ _ r) (Paired.dY t f)
def cK.kZ (x:cK P w H h a o)(k:∀b u,(b=a\/H b=some (.own a))->h.get? b=some u->h'.get? b=some u)
  (ho:∀b,H b=some (.own a)->H' b=some (.own a))(ht:∀b xs,H b=some (.tup xs)->H' b=some (.tup xs)):cK P w H' h' a o:=by
 induction o with
 | lst xs=>obtain⟨z,aU,n,r,e⟩:=x;exact⟨z,aU,n,r,k _ _ (.inl rfl) e⟩
 | tup xs=>obtain⟨z,aU,r,ob,e,c⟩:=x;exact⟨z,aU,r,ob,k _ _ (.inl rfl) e,c⟩
 | dK kvs=>obtain⟨z,y,vs,r,ob,es,ep,e,c⟩:=x;exact⟨z,y,vs,r,ob,es,ep,k _ _ (.inl rfl) e,c⟩
 | dT kvs =>
  obtain⟨z,y,xs,r,ob,es,ep,e,c⟩:=x;exact⟨z,y,xs,Paired.dY r λp q z=>⟨z.1,ht _ _ z.2.1,z.2.2⟩,ob,es,ep,k _ _ (.inl rfl) e,c⟩
 | set S n=>obtain⟨ob,es,ep,t,e,c⟩:=x;exact⟨ob,es,ep,t,k _ _ (.inl rfl) e,c⟩
 | ins C dx fs =>
  obtain⟨d,z,ne,e,mA,⟨od,es,ep,e2,c⟩,r⟩:=x;exact⟨ho _ d,z,ne,k _ _ (.inl rfl) e,mA,⟨od,es,ep,k _ _ (.inr d) e2,c⟩,r⟩
 | own y=>obtain⟨ob,e⟩:=x;exact⟨ob,k _ _ (.inl rfl) e⟩
 | xd fs=>obtain⟨mA,⟨od,es,ep,e,c⟩,r⟩:=x;exact⟨mA,⟨od,es,ep,k _ _ (.inl rfl) e,c⟩,r⟩
 | Fw lo hi=>obtain⟨t,u,v,e⟩:=x;exact⟨t,u,v,k _ _ (.inl rfl) e⟩
 | ky ob u ih=>obtain⟨e,q⟩:=x;exact⟨k _ _ (.inl rfl) e,ih q⟩
 | ur ps =>
  have e:h.get? a=some { cls:=.none,data:=.fields ps }:=x;show h'.get? a=some { cls:=.none,data:=.fields ps };exact k a _ (.inl rfl) e
 | met f y =>
  have e:h.get? a=some (PySem.W.methodObj (.ref f) (.ref y)):=x;show h'.get? a=some (PySem.W.methodObj (.ref f) (.ref y));exact k a _ (.inl rfl) e
 | ext φ=>obtain⟨p,⟨o,e⟩,st⟩:=x;exact⟨st _ _ p λo q=>k _ _ (.inl rfl) q,⟨o,k _ _ (.inl rfl) e⟩,st⟩
theorem mF.lt (x:mF P w H h)(e:H a=some o):a < h.objs.size:=(x a o e).lt
def mF.fresh (x:mF P w H h)(e:h.objs.size<=a):H a=none:=by
 cases q:H a with
 | none=>rfl
 | some u=>exact absurd (gk (x.lt q) e) (kJ _)
def mF.kept (x:mF P w H h)(k:∀b u,h.get? b=some u->h'.get? b=some u):mF P w H h':=λa o e =>
 (x a o e).kZ (λb u _ q=>k b u q) (λ_ q=>q) λ_ _ q=>q
def mF.laid (x:mF P w H h)(k:∀b u,h.get? b=some u->h'.get? b=some u)(hp:h.objs.size<=a)(new:cK P w (upd H a o) h' a o):mF P w (upd H a o) h':=λb u e=>by
 have hn:=x.fresh hp;by_cases hb:b=a
 .subst hb;rw [ae] at e;cases e;exact new
 rw [ak hb] at e;exact(x b u e).kZ (λc v _ q=>k c v q) (λc q=>by rw [ak (aB q hn)];exact q) λc xs q=>by rw [ak (aB q hn)];exact q
end
def Rd (H:Hp)(a:Addr)(u:HO):Prop:=H a=some u\/∃o,H a=some (.ky o u)
def Rd.of {H:Hp}{a:Addr}{u:HO}(h:H a=some u):Rd H a u:=.inl h
def Rd.ok {P:Program}{w:World}{H:Hp}{h:Heap}{a:Addr}{u:HO}(r:Rd H a u)(x:mF P w H h):cK P w H h a u:=by
 rcases r with r | ⟨o,r⟩
 .exact x a u r
 obtain⟨_,q⟩:=x a _ r;exact q
def Tf:Option HO->Prop
 | some (.lst _)=>True
 | some (.dK _)=>True
 | some (.dT _)=>True
 | some (.set _ _)=>True
 | some (.ins _ _ _)=>True
 | some (.ext _)=>True
 | _=>False
section
variable {P:Program}{w:World}{H:Hp}{h h':Heap}{x e:Addr}{o':HO}
def mF.write (ok:mF P w H h)(mu:Tf (H x))(he:e=x\/H e=some (.own x))(k:∀b u,b≠e->h.get? b=some u->h'.get? b=some u)(O9:∃u,h'.get? e=some u)
  (new:cK P w (upd H x o') h' x o'):mF P w (upd H x o') h':=λb u q=>by
 have QJ:∀c y,H c=some (.own y)->c≠x:=λc y r z=>by subst z;rw [r] at mu;exact mu
 have VW:∀c xs,H c=some (.tup xs)->c≠x:=λc xs r z=>by subst z;rw [r] at mu;exact mu
 by_cases hb:b=x
 .subst hb;rw [ae] at q;cases q;exact new
 rw [ak hb] at q;by_cases NQ:b=e
 .have q':H b=some (.own x):=by
   rcases he with z | z
   .exact absurd (NQ.trans z) hb
   rw [NQ];exact z
  rw [q] at q';cases q';obtain⟨v,hv⟩:=O9;exact⟨v,by rw [NQ];exact hv⟩
 refine(ok b u q).kZ (λc v hc r=>k c v ?_ r) (λc r=>by rw [ak (QJ c b r)];exact r) λc xs r=>by rw [ak (VW c xs r)];exact r
 rcases hc with rfl | hc
 .exact NQ
 rintro rfl;rcases he with z | z
 .exact QJ c b hc z
 rw [hc] at z;cases z;exact hb rfl
end
structure Un (fs ex:List Addr)(H H':Hp)(h h':Heap):Prop where
 keep:∀b o,h.get? b=some o->H b=none->b∉fs->b∉ex->h'.get? b=some o
 slot:∀b o,h.get? b=some o->H b=none->b∈fs->b∉ex->∃sl,h'.get? b=some { o with slots:=sl }
 free:∀b o,h.get? b=some o->H b=none->b∉ex->H' b=none
 there:∀b o,h.get? b=some o->b∉ex->∃o',h'.get? b=some o'
 pK:∀b xs,H b=some (.tup xs)->H' b=some (.tup xs)
 nF:∀b o u,H b=some (.ky o u)->H' b=some (.ky o u)
 n8:∀b ps,H b=some (.ur ps)->∃more,H' b=some (.ur (ps++more))
section
variable {fs Ir ex ex':List Addr}{H H1 H2:Hp}{h h1 h2 h':Heap}{a x e:Addr}{o:HO}
def Un.any (u:Un fs ex H H1 h h1){b:Addr}{ob:Obj}(q:h.get? b=some ob)(n:H b=none)(hx:b∉ex):∃sl,h1.get? b=some { ob with slots:=sl }:=by
 by_cases hb:b∈fs
 .exact u.slot b ob q n hb hx
 exact⟨ob.slots,u.keep b ob q n hb hx⟩
def Un.trans (a:Un fs ex H H1 h h1)(b:Un fs ex H1 H2 h1 h2):Un fs ex H H2 h h2 where
 keep:=λc ob q n hc hx=>b.keep c ob (a.keep c ob q n hc hx) (a.free c ob q n hx) hc hx
 slot:=λc ob q n hc hx=>by
  obtain⟨sl,e1⟩:=a.slot c ob q n hc hx;obtain⟨Vw,e2⟩:=b.slot c _ e1 (a.free c ob q n hx) hc hx;exact⟨Vw,e2⟩
 free:=λc ob q n hx=>by
  obtain⟨o',e1⟩:=a.there c ob q hx;exact b.free c o' e1 (a.free c ob q n hx) hx
 there:=λc ob q hx=>by
  obtain⟨o',e1⟩:=a.there c ob q hx;exact b.there c o' e1 hx
 pK:=λc xs q=>b.pK c xs (a.pK c xs q)
 nF:=λc ob xs q=>b.nF c ob xs (a.nF c ob xs q)
 n8:=λc ps q=>by
  obtain⟨m1,e1⟩:=a.n8 c ps q;obtain⟨m2,e2⟩:=b.n8 c _ e1;exact⟨m1++m2,by rw [e2,Array.append_assoc]⟩
def Un.kept (k:∀b u,h.get? b=some u->h'.get? b=some u):Un fs ex H H h h' :=
 ⟨λb ob q _ _ _=>k b ob q,λb ob q _ _ _=>⟨ob.slots,k b ob q⟩,λ_ _ _ n _=>n,λb ob q _=>⟨ob,k b ob q⟩,λ_ _ q=>q,λ_ _ _ q=>q,λ_ ps q=>⟨#[],by rw [q];simp⟩⟩
def Un.refl:Un fs ex H H h h:=Un.kept λ_ _ q=>q
def Un.laid (k:∀b u,h.get? b=some u->h'.get? b=some u)(hp:h.objs.size<=a)(hn:H a=none):Un fs ex H (upd H a o) h h' where
 keep:=λb u q _ _ _=>k b u q
 slot:=λb u q _ _ _=>⟨u.slots,k b u q⟩
 free:=λb u q n _=>by rw [ak (bE (gk (bo q) hp))];exact n
 there:=λb u q _=>⟨u,k b u q⟩
 pK:=λb xs q=>by rw [ak (aB q hn)];exact q
 nF:=λb u xs q=>by rw [ak (aB q hn)];exact q
 n8:=λb ps q=>⟨#[],by rw [ak (aB q hn),q];simp⟩
def Un.write (mu:Tf (H x))(he:e=x\/H e=some (.own x))(k:∀b u,b≠e->h.get? b=some u->h'.get? b=some u)(O9:∃u,h'.get? e=some u):Un fs ex H (upd H x o) h h':=by
 have hx:∀b,H b=none->b≠x:=λb n z=>by subst z;rw [n] at mu;exact mu
 have hb:∀b,H b=none->b≠e:=λb n z=>by
  subst z;rcases he with r | r
  .exact hx b n r
  rw [n] at r;cases r
 have hm:∀b u,H b=some u->¬Tf (some u)->b≠x:=λb u q nm z=>by subst z;rw [q] at mu;exact nm mu
 refine⟨λb u q n _ _=>k b u (hb b n) q,λb u q n _ _=>⟨u.slots,k b u (hb b n) q⟩,λb u q n _=>by rw [ak (hx b n)];exact n,λb u q _=>?_,
  λb xs q=>by rw [ak (hm b _ q λz=>z)];exact q,λb u xs q=>by rw [ak (hm b _ q λz=>z)];exact q,λb ps q=>⟨#[],by rw [ak (hm b _ q λz=>z),q];simp⟩⟩
 by_cases NQ:b=e
 .subst NQ;exact O9
 exact⟨u,k b u NQ q⟩
def Un.mono (u:Un fs ex H H1 h h1)(hs:∀b∈fs,b∈Ir)(hx:∀b∈ex,b∈ex'):Un Ir ex' H H1 h h1 :=
 ⟨λb ob q n hb he=>u.keep b ob q n (λz=>hb (hs b z)) λz=>he (hx b z),λ_ _ q n _ he=>u.any q n λz=>he (hx _ z),λb ob q n he=>u.free b ob q n λz=>he (hx b z),λb ob q he=>u.there b ob q λz=>he (hx b z),u.pK,u.nF,u.n8⟩
end
def H_ (h:Heap)(H:Hp):List Addr:=(List.range h.objs.size).filter λa=>(H a).isSome
def nu (h:Heap)(H:Hp):Heap:=PySem.W.hideAll h (H_ h H)
def vk (h:Heap)(H:Hp):(nu h H).objs.size=h.objs.size:=PySem.W.hideAll_size _ _
def yP {h:Heap}{H:Hp}{b:Addr}{o:Obj}(e:h.get? b=some o)(n:H b=none):(nu h H).get? b=some o :=
 PySem.W.hideAll_get _ e λhm=>by
  have q:(H b).isSome=true:=(gI.mp hm).2;rw [n] at q;simp at q
def Cd {h:Heap}{H:Hp}{b:Addr}{o:Obj}(e:(nu h H).get? b=some o):h.get? b=some o/\H b=none:=by
 have e':h.get? b=some o:=PySem.W.of_hideAll (H_ h H) e;refine⟨e',?_⟩;cases q:H b with
 | none=>rfl
 | some x =>
  have hm:b∈H_ h H:=gI.mpr ⟨iK.mpr (bo e'),by simp [q]⟩;have z:(nu h H).get? b=none:=PySem.W.hideAll_none (H_ h H) hm;rw [z] at e;cases e
def Kk (g h:Heap)(L:Addr):List (Addr×Obj):=(List.range h.objs.size).filterMap λa=>if a=L\/(g.get? a).isSome=true then none else (h.get? a).map λo=>(a,o)
def rest (g h:Heap)(L d:Addr):List (Addr×Obj):=(Kk g h L).filter λp=>decide (p.1≠d)
structure Mod (K:a0)(mg:Str->Option Value)(base:Heap):Prop where
 Rb:K.In base
 glob:base.Ns mainGlobals mg
 blt:∃mb,base.Ns builtinsNs mb/\∀x:Str,x ≠ "__name__" -> mb x=bootBuiltins x
 nolimit:base.NoLimit
structure Cx where
 prog:Program
 w:World
 K:a0
 mg:Str->Option Value
 base:Heap
 A:Around
 N:List Str
 s₀:Shared
 H₀:Hp
 env:Env
 outer:List Env
 stack:List Env
 ex:List Addr
 fn:Str->Bool
 calm:Bool
 pn:List (Addr×Obj)
 xe:Value->Shared->Prop
def Dy (l:List Env):List Addr:=l.filterMap (·.frame)
abbrev Cx.fs (X:Cx):List Addr:=Dy X.outer
def UW (sc:Scope)(x:Str):Prop:=sc.names.lookup x=some .local\/sc.names.lookup x=some .cell\/sc.names.lookup x=some .free
def Loc (sc:Scope)(x:Str):Prop:=sc.names.lookup x=some .local\/sc.names.lookup x=some .cell
def Look (env:Env)(h:Heap)(m:Str->Option Value)(x:Str)(u:Value):Prop :=
 (env.kindOf x=some .local/\m x=some u)\/((env.kindOf x=some .cell\/env.kindOf x=some .free)/\∃c,env.cells.lookup x=some c/\h.IsCell c (some u))
structure Cx.Ok (X:Cx):Prop where
 mod:Mod X.K X.mg X.base
 kind:X.env.scope.kind=.function
 glob:X.env.globals=mainGlobals
 blt:X.env.builtins=builtinsNs
 above:X.s₀.heap.objs.size<=X.env.locals
 inj:∀x y c,X.env.cells.lookup x=some c->X.env.cells.lookup y=some c->x=y
 has:∀x,(X.env.kindOf x=some .cell\/X.env.kindOf x=some .free)->∃c,X.env.cells.lookup x=some c
 SG:∀x c,X.fn x=true->X.env.cells.lookup x=some c->X.s₀.heap.objs.size<=c
 hd:X.calm=true->X.A.handled=none
 frames:X.A.frames=some X.stack
 TJ:X.stack=X.outer\/(X.stack=X.env::X.outer/\X.env.frame=some X.env.locals)
 Pj:∀b∈X.ex,b≠X.env.locals/\∀x c,X.env.cells.lookup x=some c->c≠b
 bs:∀b o,X.base.get? b=some o->X.s₀.heap.get? b=some o/\X.H₀ b=none
 IA:X.base.objs.size<=X.s₀.heap.objs.size
 Gb:∀b o,X.base.get? b=some o->b∉X.ex
 DE:∀b∈X.ex,b∉X.fs
 qc:X.s₀.heap.FunFrames X.base X.outer
 Lv:∀b∈X.fs,X.H₀ b=none
structure Inv (X:Cx)(ag:List (Addr×Obj))(σ:List (Option V))(H:Hp)(s:Shared):Prop where
 ok:X.Ok
 os:s.os=X.s₀.os
 bare:AllBare s.gens
 base:Un X.fs X.ex X.H₀ H X.s₀.heap s.heap
 loc:∃m,s.heap.Ns X.env.locals m/\∀(i:Nat)(x:Str)(v:V),X.N[i]?=some x->σ[i]?=some (some v)->UW X.env.scope x->∃u,RelV v u/\Look X.env s.heap m x u
 cell:∀x c,X.env.cells.lookup x=some c->∃v,s.heap.IsCell c v
 free:H X.env.locals=none
 lF:∀x c,X.env.cells.lookup x=some c->H c=none
 pin:∀p∈X.pn++ag,s.heap.get? p.1=some p.2/\H p.1=none/\p.1≠X.env.locals/\p.1∉X.fs/\∀v,p.2.data≠.cell v
 cw:mF X.prog X.w H s.heap
 len:σ.length=X.N.length
section
variable {X:Cx}{ag:List (Addr×Obj)}{σ:List (Option V)}{H H':Hp}{s:Shared}{h':Heap}
def Cx.Ok.VZ (ok:X.Ok){b:Addr}{o:Obj}(e:X.base.get? b=some o):b∉X.fs:=λhb=>by
 have:=(ok.qc.mem hb).1;rw [e] at this;cases this
theorem Inv.bs (I:Inv X ag σ H s):∀b o,X.base.get? b=some o->s.heap.get? b=some o/\H b=none:=λb o e =>
 ⟨I.base.keep b o (I.ok.bs b o e).1 (I.ok.bs b o e).2 (I.ok.VZ e) (I.ok.Gb b o e),I.base.free b o (I.ok.bs b o e).1 (I.ok.bs b o e).2 (I.ok.Gb b o e)⟩
def Inv.bk (I:Inv X ag σ H s):∀b o,X.base.get? b=some o->s.heap.get? b=some o:=λb o e=>(I.bs b o e).1
theorem Inv.mod (I:Inv X ag σ H s):Mod X.K X.mg X.base:=I.ok.mod
def Inv.zI (I:Inv X ag σ H s):X.K.In s.heap:=I.ok.mod.Rb.keeps I.bk
theorem Inv.nolimit (I:Inv X ag σ H s):s.heap.NoLimit:=I.ok.mod.nolimit.keeps I.bk
def Inv.fr (I:Inv X ag σ H s):∃m,Fr X.base X.env.locals s.heap m :=
 let ⟨m,hn,_⟩:=I.loc
 ⟨m,hn,I.bk,eK I.ok.IA I.ok.above⟩
theorem Inv.lt (I:Inv X ag σ H s):X.env.locals < s.heap.objs.size:=let ⟨_,hn,_⟩:=I.loc;hn.lt
def Inv.sz (I:Inv X ag σ H s):X.s₀.heap.objs.size<=s.heap.objs.size:=eK I.ok.above (jh I.lt)
def Inv.VY (I:Inv X ag σ H s){a:Addr}(h:s.heap.objs.size<=a):a∉X.fs:=λhb=>by
 obtain⟨_,o,ho,_⟩:=I.ok.qc.mem hb;exact absurd (gk (bo ho) (eK I.sz h)) (kJ _)
def Inv.Ot (I:Inv X ag σ H s):∀x c,X.env.cells.lookup x=some c->c≠X.env.locals:=λx c e z=>by
 obtain⟨v,o,ho,hd⟩:=I.cell x c e;obtain⟨m,⟨o',es,ep,GO,Ds,_⟩,_⟩:=I.loc;rw [z,GO] at ho;cases ho;rw [Ds] at hd;cases hd
theorem Inv.qc (I:Inv X ag σ H s):s.heap.FunFrames X.base X.outer:=by
 have all:∀(l:List Env),(∀b∈Dy l,b∈X.fs)->X.s₀.heap.FunFrames X.base l->s.heap.FunFrames X.base l:=by
  intro l
  induction l with
  | nil=>intro _ _;trivial
  | cons env r ih =>
   intro hs hl;obtain⟨hk,⟨L,o,hf,hn,ho,hd⟩,hr⟩:=hl;have hL:L∈X.fs:=hs L (by unfold Dy;rw [List.filterMap_cons,hf];exact bQ);obtain⟨sl,e⟩:=I.base.slot L o ho (I.ok.Lv L hL) hL λz=>I.ok.DE L z hL;exact⟨hk,⟨L,_,hf,hn,e,hd⟩,ih (λb hb=>hs b (by unfold Dy;rw [List.filterMap_cons,hf];exact cu _ hb)) hr⟩
 exact all X.outer (λ_ hb=>hb) I.ok.qc
theorem Inv.stack (I:Inv X ag σ H s):s.heap.FunFrames X.base X.stack:=by
 rcases I.ok.TJ with e | ⟨e,hf⟩
 .rw [e];exact I.qc
 rw [e];obtain⟨m,hn,_⟩:=I.loc;refine .cons (by rw [I.ok.kind];decide) hf hn ?_ I.qc;exact Heap.get?_none_of_le (eK I.ok.IA I.ok.above)
def Inv.z7 (I:Inv X ag σ H s):∀b∈Dy X.stack,b∈X.env.locals::X.fs:=λb hb=>by
 rcases I.ok.TJ with e | ⟨e,hf⟩
 .rw [e] at hb;exact cu _ hb
 rw [e] at hb;unfold Dy at hb;rw [List.filterMap_cons,hf] at hb;exact hb
def Inv.BM (I:Inv X ag σ H s):∀b∈Dy X.stack,H b=none:=λb hb=>by
 rcases bO.mp (I.z7 b hb) with e | hb
 .rw [e];exact I.free
 obtain⟨_,o,ho,_⟩:=I.ok.qc.mem hb;exact I.base.free b o ho (I.ok.Lv b hb) λz=>I.ok.DE b z hb
def Inv.step {g':Array GenState}{t':Nat}{d':Drawn}{ch:List Addr}(I:Inv X ag σ H s)
  (Il:∀b∈ch,(b∈X.ex\/X.s₀.heap.objs.size<=b)/\b≠X.env.locals/\(∀x c,X.env.cells.lookup x=some c->c≠b)/\∀p∈X.pn++ag,p.1≠b)
  (keep:∀b o,b≠X.env.locals->b∉X.fs->b∉ch->s.heap.get? b=some o->H b=none->h'.get? b=some o)
  (slot:∀b o,b≠X.env.locals->b∈X.fs->b∉ch->s.heap.get? b=some o->H b=none->∃sl,h'.get? b=some { o with slots:=sl })(free:∀b o,b∉ch->s.heap.get? b=some o->H b=none->H' b=none)
  (there:∀b o,b∉ch->s.heap.get? b=some o->∃o',h'.get? b=some o')
  (pK:∀b xs,H b=some (.tup xs)->H' b=some (.tup xs))(nF:∀b o u,H b=some (.ky o u)->H' b=some (.ky o u))(n8:∀b ps,H b=some (.ur ps)->∃more,H' b=some (.ur (ps++more)))
  (ns:∀m,s.heap.Ns X.env.locals m->h'.Ns X.env.locals m)(cw:mF X.prog X.w H' h')(hg:AllBare g') :
  Inv X ag σ H' { s with heap:=h',gens:=g',drawn:=d',toks:=t' }:=by
 have ZK:∀b o,X.s₀.heap.get? b=some o->b≠X.env.locals:=λb o e=>bE (gk (bo e) I.ok.above);have OV:∀b o,X.s₀.heap.get? b=some o->b∉X.ex->b∉ch:=λb o e hx hb=>by
  rcases (Il b hb).1 with z | z
  .exact hx z
  exact absurd (gk (bo e) z) (kJ _)
 have cellK:∀x c,X.env.cells.lookup x=some c->∀v,s.heap.IsCell c v->h'.IsCell c v:=λx c e v ⟨o,ho,hd⟩=>by
  have QO:c∉ch:=λz=>(Il c z).2.2.1 x c e rfl;by_cases hc:c∈X.fs
  .obtain⟨sl,q⟩:=slot c o (I.Ot x c e) hc QO ho (I.lF x c e);exact⟨_,q,hd⟩
  exact⟨o,keep c o (I.Ot x c e) hc QO ho (I.lF x c e),hd⟩
 refine⟨I.ok,I.os,hg,⟨λb o e n hb hx=>?_,λb o e n hb hx=>?_,λb o e n hx=>?_,λb o e hx=>?_,λb xs e=>pK b xs (I.base.pK b xs e),λb o xs e=>nF b o xs (I.base.nF b o xs e),λb ps e=>?_⟩,?_,λx c e=>?_,?_,λx c e=>?_,λp hp=>?_,cw,I.len⟩
 .exact keep b o (ZK b o e) hb (OV b o e hx) (I.base.keep b o e n hb hx) (I.base.free b o e n hx)
 .obtain⟨sl,e1⟩:=I.base.slot b o e n hb hx;obtain⟨Vw,e2⟩:=slot b _ (ZK b o e) hb (OV b o e hx) e1 (I.base.free b o e n hx);exact⟨Vw,e2⟩
 .obtain⟨o',e1⟩:=I.base.there b o e hx;exact free b o' (OV b o e hx) e1 (I.base.free b o e n hx)
 .obtain⟨o',e1⟩:=I.base.there b o e hx;exact there b o' (OV b o e hx) e1
 .obtain⟨m1,e1⟩:=I.base.n8 b ps e;obtain⟨m2,e2⟩:=n8 b _ e1;exact⟨m1++m2,by rw [e2,Array.append_assoc]⟩
 .obtain⟨m,hn,hl⟩:=I.loc;refine⟨m,ns m hn,λi x v e1 e2 e3=>?_⟩;obtain⟨u,r,l⟩:=hl i x v e1 e2 e3;refine⟨u,r,?_⟩;rcases l with l | ⟨k,c,e,z⟩
  .exact .inl l
  exact .inr ⟨k,c,e,cellK x c e _ z⟩
 .obtain⟨v,z⟩:=I.cell x c e;exact⟨v,cellK x c e v z⟩
 .obtain⟨m,⟨o,_,_,ho,_⟩,_⟩:=I.loc;exact free _ o (λz=>(Il _ z).2.1 rfl) ho I.free
 .obtain⟨v,o,ho,hd⟩:=I.cell x c e;exact free c o (λz=>(Il c z).2.2.1 x c e rfl) ho (I.lF x c e)
 obtain⟨e,n,ne,nf,d⟩:=I.pin p hp;have QO:p.1∉ch:=λz=>(Il p.1 z).2.2.2 p hp rfl;exact⟨keep p.1 p.2 ne nf QO e n,free p.1 p.2 QO e n,ne,nf,d⟩
def Inv.un {t':Nat}(I:Inv X ag σ H s)(u:Un X.fs [] H H' s.heap h')(cw:mF X.prog X.w H' h'):Inv X ag σ H' { s with heap:=h',toks:=t' }:=by
 obtain⟨m,⟨o,es,ep,ho,r⟩,_⟩:=id I.loc;obtain⟨sl,hL⟩:=u.any ho I.free (by simp);exact I.step (g':=s.gens) (d':=s.drawn) (ch:=[]) (λ_ z=>nomatch z) (λb o _ hb _ e n=>u.keep b o e n hb (by simp)) (λb o _ hb _ e n=>u.slot b o e n hb (by simp)) (λb o _ e n=>u.free b o e n (by simp)) (λb o _ e=>u.there b o e (by simp)) u.pK u.nF u.n8 (λm' hm=>by
  obtain⟨o',l8,XT,GO,r'⟩:=hm;rw [ho] at GO;cases GO;exact⟨_,l8,XT,hL,r'⟩) cw I.bare
def Inv.call {g':Array GenState}{t':Nat}{d':Drawn}{ch:List Addr}(I:Inv X ag σ H s)(u:Un (Dy X.stack) ch H H' s.heap h')(cw:mF X.prog X.w H' h')(hg:AllBare g')
  (Il:∀b∈ch,(b∈X.ex\/X.s₀.heap.objs.size<=b)/\b≠X.env.locals/\(∀x c,X.env.cells.lookup x=some c->c≠b)/\∀p∈X.pn++ag,p.1≠b) :
  Inv X ag σ H' { s with heap:=h',gens:=g',drawn:=d',toks:=t' }:=by
 obtain⟨m,⟨o,es,ep,ho,r⟩,_⟩:=id I.loc;obtain⟨sl,hL⟩:=u.any ho I.free λz=>(Il _ z).2.1 rfl;exact I.step (ch:=ch) Il (λb o hL hb hc e n=>u.keep b o e n (λz=>(bO.mp (I.z7 b z)).elim hL hb) hc) (λb o _ _ hc e n=>u.any e n hc) (λb o hc e n=>u.free b o e n hc) (λb o hc e=>u.there b o e hc) u.pK u.nF u.n8 (λm' hm=>by
  obtain⟨o',l8,XT,GO,r'⟩:=hm;rw [ho] at GO;cases GO;exact⟨_,l8,XT,hL,r'⟩) cw hg
def Inv.turned {t':Nat}{it:Addr}(I:Inv X ag σ H s)(k:∀b o,b≠it->s.heap.get? b=some o->h'.get? b=some o)(hn:H it=none)(hL:it≠X.env.locals)
  (h1:it∈X.ex\/X.s₀.heap.objs.size<=it)(h2:∀x c,X.env.cells.lookup x=some c->c≠it)(h3:∀p∈X.pn++ag,p.1≠it):Inv X ag σ H { s with heap:=h',toks:=t' }:=by
 have ZI:∀b u,H b=some u->b≠it:=λb u e z=>by rw [z,hn] at e;cases e
 refine I.step (g':=s.gens) (d':=s.drawn) (ch:=[it]) (λb hb=>?_) (λb o _ _ hc e _=>k b o (λz=>hc (by simp [z])) e) (λb o _ _ hc e _=>⟨o.slots,k b o (λz=>hc (by simp [z])) e⟩) (λ_ _ _ _ n=>n)
  (λb o hc e=>⟨o,k b o (λz=>hc (by simp [z])) e⟩) (λ_ _ e=>e) (λ_ _ _ e=>e) (λb ps e=>⟨#[],by rw [e];simp⟩) (λm hm=>?_) (λb u e=>?_) I.bare
 .have e:b=it:=by simpa using hb
  subst e;exact⟨h1,hL,h2,h3⟩
 .obtain⟨o,es,ep,ho,r⟩:=hm;exact⟨o,es,ep,k _ o (fk hL) ho,r⟩
 refine(I.cw b u e).kZ (λc v hc q=>k c v ?_ q) (λ_ q=>q) λ_ _ q=>q;rcases hc with z | z
 .rw [z];exact ZI b u e
 exact ZI c _ z
def Inv.tok (I:Inv X ag σ H s) (t:Nat):Inv X ag σ H { s with toks:=t }:=I.un (h':=s.heap) (t':=t) Un.refl I.cw
theorem Inv.kept {t':Nat}(I:Inv X ag σ H s)(k:∀b u,s.heap.get? b=some u->h'.get? b=some u):Inv X ag σ H { s with heap:=h',toks:=t' }:=I.un (Un.kept k) (I.cw.kept k)
theorem Inv.laid {a:Addr}{o:HO}{t':Nat}(I:Inv X ag σ H s)(k:∀b u,s.heap.get? b=some u->h'.get? b=some u)(hp:s.heap.objs.size<=a)(new:cK X.prog X.w (upd H a o) h' a o) :
  Inv X ag σ (upd H a o) { s with heap:=h',toks:=t' }:=I.un (Un.laid k hp (I.cw.fresh hp)) (I.cw.laid k hp new)
theorem Inv.write {x e:Addr}{o:HO}{t':Nat}(I:Inv X ag σ H s)(mu:Tf (H x))(he:e=x\/H e=some (.own x))(k:∀b u,b≠e->s.heap.get? b=some u->h'.get? b=some u)(O9:∃u,h'.get? e=some u)
  (new:cK X.prog X.w (upd H x o) h' x o):Inv X ag σ (upd H x o) { s with heap:=h',toks:=t' }:=I.un (Un.write mu he k O9) (I.cw.write mu he k O9 new)
def Inv.B7 {kr:List (Addr×Obj)}(I:Inv X ag σ H s)(h:∀p∈kr,s.heap.get? p.1=some p.2/\H p.1=none/\p.1≠X.env.locals/\p.1∉X.fs/\∀v,p.2.data≠.cell v):Inv X kr σ H s :=
 ⟨I.ok,I.os,I.bare,I.base,I.loc,I.cell,I.free,I.lF,λp hp=>(bY.mp hp).elim (λz=>I.pin p (dH _ z)) (h p),I.cw,I.len⟩
def yB {N:List Str}(hN:N.Nodup){i j:Nat}{x:Str}(a:N[i]?=some x)(b:N[j]?=some x):i=j:=by
 obtain⟨h1,e1⟩:=bh.mp a;obtain⟨h2,e2⟩:=bh.mp b;exact(vV hN).mp (e1.trans e2.symm)
def uS {M:Model}{A:Around}{E:Value->Shared->Prop}{i:Nat}{x:Str}{v:V}{u:Value}{Q:Unit->Shared->Prop}(I:Inv X ag σ H s)(hN:X.N.Nodup)(hi:X.N[i]?=some x)(hx:Loc X.env.scope x)(r:RelV v u)
  (h:∀s',Inv X ag (σ.set i (some v)) H s'->(∃a,Heap.SameBut a s.heap s'.heap/\(a=X.env.locals\/X.env.cells.lookup x=some a))->Q () s')(hf:X.fn x=true\/X.env.scope.names.lookup x=some .local:=by first | exact .inl rfl | exact .inr rfl | assumption):wpAny M A (storeName X.env x u) Q E s:=by
 obtain⟨m,hn,hl⟩:=id I.loc;have Xm:(X.env.scope.kind == .class || (X.env.scope.kind == .module && X.env.locals != X.env.globals))=false:=by rw [I.ok.kind];rfl
 have hiσ:i < σ.length:=by rw [I.len];exact(bh.mp hi).1
 have Ot:=I.Ot;have tracked:∀{a:Addr}{h':Heap},(∃o,s.heap.get? a=some o/\H a=none)->Heap.SameBut a s.heap h'->mF X.prog X.w H h':=λ{a h'} ha hs b ob e=>by
  obtain⟨_,_,oH⟩:=ha;refine(I.cw b ob e).kZ (λc w' hc q=>(hs.2 c ?_).trans q) (λ_ q=>q) λ_ _ q=>q;rintro rfl;rcases hc with rfl | hc
  .rw [oH] at e;cases e
  rw [oH] at hc;cases hc
 rcases hx with hk | hk
 .refine wpAny_storeName_local hk hn (λh' GX hs=>?_) Xm;obtain⟨oL,_,_,JL,_⟩:=id hn;refine h _ ⟨I.ok,I.os,I.bare,⟨λb o e n hb hx=>?_,λb o e n hb hx=>?_,I.base.free,λb o e hx=>?_,I.base.pK,I.base.nF,I.base.n8⟩,⟨_,GX,λj y v' e1 e2 e3=>?_⟩,λy c e=>?_,I.free,I.lF,λp hp=>?_,tracked ⟨oL,JL,I.free⟩ hs,by simpa using I.len⟩ ⟨_,hs,.inl rfl⟩
  .exact(hs.2 b (bE (gk (bo e) I.ok.above))).trans (I.base.keep b o e n hb hx)
  .obtain⟨sl,e1⟩:=I.base.slot b o e n hb hx;exact⟨sl,(hs.2 b (bE (gk (bo e) I.ok.above))).trans e1⟩
  .obtain⟨o',e1⟩:=I.base.there b o e hx;exact⟨o',(hs.2 b (bE (gk (bo e) I.ok.above))).trans e1⟩
  .by_cases hj:j=i
   .subst hj;rw [hi] at e1;cases e1;rw [List.getElem?_set_self hiσ] at e2;cases e2;exact⟨u,r,.inl ⟨hk,by simp⟩⟩
   rw [List.getElem?_set_ne (fk hj)] at e2;obtain⟨u',r',q⟩:=hl j y v' e1 e2 e3;refine⟨u',r',?_⟩;rcases q with ⟨k,e⟩ | ⟨k,c,e,z⟩
   .refine .inl ⟨k,?_⟩;have:y≠x:=λe=>hj (yB hN e1 (e ▸ hi));simp [this,e]
   exact .inr ⟨k,c,e,z.sameBut hs (Ot y c e)⟩
  .obtain⟨w',z⟩:=I.cell y c e;exact⟨w',z.sameBut hs (Ot y c e)⟩
  obtain⟨e,n,ne,nf,d⟩:=I.pin p hp;exact⟨(hs.2 p.1 ne).trans e,n,ne,nf,d⟩
 have Xe:X.fn x=true:=by
  rcases hf with z | z
  .exact z
  rw [z] at hk;cases hk
 obtain⟨c,hc⟩:=I.ok.has x (.inl hk);obtain⟨w',z⟩:=I.cell x c hc;refine wpAny_storeName_cell I.ok.kind hk hc z (λh' nv hs=>?_);obtain⟨oc,zJ,W3⟩:=id z;refine h { s with heap:=h' } ⟨I.ok,I.os,I.bare,⟨λb o e n hb hx=>?_,λb o e n hb hx=>?_,I.base.free,λb o e hx=>?_,I.base.pK,I.base.nF,I.base.n8⟩,⟨m,hn.sameBut hs (fk (Ot x c hc)),λj y v' e1 e2 e3=>?_⟩,λy c' e=>?_,I.free,I.lF,λp hp=>?_,tracked ⟨oc,zJ,I.lF x c hc⟩ hs,by simpa using I.len⟩ ⟨c,hs,.inr hc⟩
 .exact(hs.2 b (bE (gk (bo e) (I.ok.SG x c Xe hc)))).trans (I.base.keep b o e n hb hx)
 .obtain⟨sl,e1⟩:=I.base.slot b o e n hb hx;exact⟨sl,(hs.2 b (bE (gk (bo e) (I.ok.SG x c Xe hc)))).trans e1⟩
 .obtain⟨o',e1⟩:=I.base.there b o e hx;exact⟨o',(hs.2 b (bE (gk (bo e) (I.ok.SG x c Xe hc)))).trans e1⟩
 .by_cases hj:j=i
  .subst hj;rw [hi] at e1;cases e1;rw [List.getElem?_set_self hiσ] at e2;cases e2;exact⟨u,r,.inr ⟨.inl hk,c,hc,nv⟩⟩
  rw [List.getElem?_set_ne (fk hj)] at e2;obtain⟨u',r',q⟩:=hl j y v' e1 e2 e3;refine⟨u',r',?_⟩;rcases q with q | ⟨k,c',e,z'⟩
  .exact .inl q
  refine .inr ⟨k,c',e,z'.sameBut hs ?_⟩;rintro rfl;exact hj (yB hN e1 (I.ok.inj _ _ _ e hc ▸ hi))
 .by_cases RX:c'=c
  .subst RX;exact⟨_,nv⟩
  obtain⟨w2,z2⟩:=I.cell y c' e;exact⟨w2,z2.sameBut hs RX⟩
 obtain⟨e,n,ne,nf,d⟩:=I.pin p hp;refine⟨(hs.2 p.1 ?_).trans e,n,ne,nf,d⟩;intro q;rw [q,zJ] at e;have q':oc=p.2:=gi e;exact d w' (by rw [<-q'];exact W3)
def si {M:Model}{A:Around}{E:Value->Shared->Prop}{i:Nat}{x:Str}{v:V}{u:Value}{Q:Unit->Shared->Prop}(I:Inv X ag σ H s)(hN:X.N.Nodup)(hi:X.N[i]?=some x)(hx:Loc X.env.scope x)(r:RelV v u)
  (h:∀s',Inv X ag (σ.set i (some v)) H s'->Q () s')(hf:X.fn x=true\/X.env.scope.names.lookup x=some .local:=by first | exact .inl rfl | exact .inr rfl | assumption):wpAny M A (storeName X.env x u) Q E s :=
 uS I hN hi hx r (λs' I' _=>h s' I') hf
def Inv.LK {s':Shared}{ch:List Addr}(I:Inv X ag σ H s)(ho:s'.os=s.os)(u:Un (Dy X.stack) ch H H' s.heap s'.heap)(cw:mF X.prog X.w H' s'.heap)(hg:AllBare s'.gens)
  (Il:∀b∈ch,(b∈X.ex\/X.s₀.heap.objs.size<=b)/\b≠X.env.locals/\(∀x c,X.env.cells.lookup x=some c->c≠b)/\∀p∈X.pn++ag,p.1≠b):Inv X ag σ H' s':=by
 obtain⟨h',g',d',t',o'⟩:=s';have e:o'=s.os:=ho;subst e;exact I.call (g':=g') (t':=t') (d':=d') u cw hg Il
end
abbrev XK:=Value->Option Addr->Hp->Prop
abbrev St:=List (Option V)
abbrev aF (a:Addr):Option V:=some (.ref a)
abbrev VK:=V->Hp->Prop
abbrev TE:=St->Hp->VK->Prop
abbrev TT:=St->Hp->(Bool->Hp->Prop)->Prop
abbrev TA:=St->Hp->(List V->Hp->Prop)->Prop
structure Ends where
 nx:St->Hp->Prop
 rt:VK
 bk:St->Hp->Prop:=λ_ _=>False
 ct:St->Hp->Prop:=λ_ _=>False
abbrev TS:=Ends->St->Hp->Prop
def EP (X:Cx)(ag:List (Addr×Obj))(σ:St)(Q:VK)(u:Value)(s':Shared):Prop:=∃v H',Inv X ag σ H' s'/\RelV v u/\Q v H'
def TP (X:Cx)(ag:List (Addr×Obj))(σ:St)(Q:Bool->Hp->Prop)(b:Bool)(s':Shared):Prop:=∃H',Inv X ag σ H' s'/\Q b H'
def AP (X:Cx)(ag:List (Addr×Obj))(σ:St)(Q:List V->Hp->Prop)(us:List Value)(s':Shared):Prop:=∃vs H',Inv X ag σ H' s'/\ba vs us/\Q vs H'
def SP (X:Cx)(ag:List (Addr×Obj))(D:Ends)(f:Flow)(s':Shared):Prop :=
 match f with
 | .next=>∃σ' H',Inv X ag σ' H' s'/\D.nx σ' H'
 | .brk=>∃σ' H',Inv X ag σ' H' s'/\D.bk σ' H'
 | .cont=>∃σ' H',Inv X ag σ' H' s'/\D.ct σ' H'
 | .ret u=>∃v σ' H',Inv X ag σ' H' s'/\RelV v u/\D.rt v H'
def PE (X:Cx)(e:Expr)(t:TE):Prop :=
 ∀(ag:List (Addr×Obj))(s:Shared)(σ:St)(H:Hp)(Q:VK),Inv X ag σ H s->t σ H Q->wpAny (model X.prog X.w) X.A (eval e X.env) (EP X ag σ Q) X.xe s
def PT (X:Cx)(e:Expr)(t:TT):Prop :=
 ∀(ag:List (Addr×Obj))(s:Shared)(σ:St)(H:Hp)(Q:Bool->Hp->Prop),Inv X ag σ H s->t σ H Q->wpAny (model X.prog X.w) X.A (isTrue e X.env (eval e X.env)) (TP X ag σ Q) X.xe s
def PW (X:Cx)(e:Expr)(t:TT):Prop :=
 ∀(whole:Sem Value)(ag:List (Addr×Obj))(s:Shared)(σ:St)(H:Hp)(Q:Bool->Hp->Prop),Inv X ag σ H s->t σ H Q->wpAny (model X.prog X.w) X.A (isTrue e X.env whole) (TP X ag σ Q) X.xe s
def PW.pt {X:Cx}{e:Expr}{t:TT}(h:PW X e t):PT X e t:=h _
def PA (X:Cx)(es:List Expr)(t:TA):Prop :=
 ∀(pos:Pos)(ag:List (Addr×Obj))(s:Shared)(σ:St)(H:Hp)(Q:List V->Hp->Prop),Inv X ag σ H s->t σ H Q->wpAny (model X.prog X.w) X.A (spliced (backTo pos (starEach es X.env))) (AP X ag σ Q) X.xe s
def PS (X:Cx)(st:Stmt)(t:TS):Prop :=
 ∀(ag:List (Addr×Obj))(s:Shared)(σ:St)(H:Hp)(D:Ends),Inv X ag σ H s->t D σ H->wpAny (model X.prog X.w) X.A (exec st X.env) (SP X ag D) X.xe s
def Bp (X:Cx)(st:List Stmt)(t:TS):Prop :=
 ∀(ag:List (Addr×Obj))(s:Shared)(σ:St)(H:Hp)(D:Ends),Inv X ag σ H s->t D σ H->wpAny (model X.prog X.w) X.A (execs st X.env) (SP X ag D) X.xe s
def df {α:Type}{t:Sem α}{Q Q':α->Shared->Prop}{M:Model}{A:Around}{E:Value->Shared->Prop}{s:Shared}(h:wpAny M A t Q E s)(hQ:∀a s,Q a s->Q' a s):wpAny M A t Q' E s:=dA h hQ λ_ _ x=>x
section
variable {X:Cx}
def bin {a b:Expr}{ta tb:TE}(ha:PE X a ta)(hb:PE X b tb){ag:List (Addr×Obj)}{s:Shared}{σ:St}{H:Hp}{R:V->V->Hp->Prop}(I:Inv X ag σ H s)(h:ta σ H λx H1=>tb σ H1 λy H2=>R x y H2)
  {α:Type}{Q:α->Shared->Prop}{f:Value->Value->Sem α}
  (hf:∀v u s2 x y H2,Inv X ag σ H2 s2->RelV x v->RelV y u->R x y H2->wpAny (model X.prog X.w) X.A (f v u) Q X.xe s2) :
  wpAny (model X.prog X.w) X.A (eval a X.env) (λv s₁=>wpAny (model X.prog X.w) X.A (eval b X.env) (λu s₂=>wpAny (model X.prog X.w) X.A (f v u) Q X.xe s₂) X.xe s₁) X.xe s:=by
 refine df (ha ag s σ H _ I h) λv s1 bL=>?_;obtain⟨x,H1,I1,r1,q1⟩:=bL;refine df (hb ag s1 σ H1 _ I1 q1) λu s2 bL=>?_;obtain⟨y,H2,I2,r2,q2⟩:=bL;exact hf v u s2 x y H2 I2 r1 r2 q2
inductive SW (o:Option (Option V))(R:V->Prop):Prop
|mk(v:V)(e:o=some (some v))(q:R v)
inductive XB (x:V)(R:Bool->Prop):Prop
|mk(c:Bool)(e:x=.bl c)(q:R c)
inductive YO (x:V)(R:Int->Prop):Prop
|mk(i:Int)(e:x=.int i)(q:R i)
inductive XI0 (x y:V)(R:Int->Int->Prop):Prop
|mk(i j:Int)(e:x=.int i)(e2:y=.int j)(q:R i j)
inductive XI2 (x y:V)(C:Int->Int->Prop)(R:Int->Int->Prop):Prop
|mk(i j:Int)(e:x=.int i)(e2:y=.int j)(c:C i j)(q:R i j)
inductive LQ (vs:List V)(R:V->List V->Prop):Prop
|mk(v:V)(r:List V)(e:vs=v::r)(q:R v r)
inductive SX (v:V)(S:Addr->List V->Prop) (n:Nat)(R:List V->Prop):Prop
|mk(a:Addr)(xs:List V)(e:v=.ref a)(s:S a xs)(l:xs.length=n)(q:R xs)
inductive UU (x:V)(S:Addr->Prop)(R:Addr->Prop):Prop
|mk(a:Addr)(e:x=.ref a)(s:S a)(q:R a)
inductive YN (x:V)(S:Addr->List V->Prop)(R:List V->Prop):Prop
|mk(a:Addr)(xs:List V)(e:x=.ref a)(s:S a xs)(q:R xs)
inductive YS (S:Addr->List V->Prop)(x y:V)(R:List V->List V->Prop):Prop
|mk(a b:Addr)(xs ys:List V)(e:x=.ref a)(e2:y=.ref b)(s:S a xs)(s2:S b ys)(z:xs.length+ys.length<=sizeLine)(q:R xs ys)
inductive XRg (vs:List V)(R:Int->Prop):Prop
|mk(j:Int)(e:vs=[.int j])(l:-(2 ^ 62)<=j)(u:j < 2 ^ 62)(q:R j)
inductive YQ (vs:List V)(S:Addr->List V->Prop)(R:Addr->Prop):Prop
|mk(a:Addr)(xs:List V)(e:vs=[.ref a])(s:S a xs)(q:R a)
inductive OB (xs:List V)(S:Addr->List V->Prop)(R:List V->Prop):Prop
|mk(p:Addr)(ys:List V)(e:xs=[.ref p])(s:S p ys)(q:R ys)
def gO (i:Nat):TE:=λσ H Q=>SW σ[i]? λv=>Q v H
def tC (v:V):TE:=λ_ H Q=>Q v H
def MU {i:Nat}{x:Str}{pos:Pos}(hN:X.N[i]?=some x)(hv:UW X.env.scope x)(hd:(x == ("__debug__":Str))=false:=by decide)(xr:(x == ("__classdict__":Str))=false:=by decide):PE X (.Name x pos) (gO i):=by
 intro ag s σ H Q I h;obtain⟨v,e,h⟩:=h;obtain⟨m,hn,hl⟩:=I.loc;obtain⟨u,r,l⟩:=hl i x v hN e hv;have fin:EP X ag σ Q u s:=⟨v,H,I,r,h⟩;rcases l with ⟨hk,hm⟩ | ⟨hk,c,hc,jG⟩
 .exact wpAny_Name (v3 I.ok.kind hk hn hm fin) hd
 rcases hk with hk | hk
 .exact wpAny_Name (wpAny_loadName_cell I.ok.kind hk hc jG fin) hd
 exact wpAny_Name (wpAny_loadName_free I.ok.kind hk hc jG fin xr) hd
def av {i j pos}:PE X (.Constant (.int i) j pos) (tC (.int i)):=λ_ _ _ H _ I h=>wpAny_Constant_int ⟨.int i,H,I.tok _,⟨_,rfl⟩,h⟩
def gq {b j pos}:PE X (.Constant (.bool b) j pos) (tC (.bl b)):=λ_ _ _ H _ I h=>Constant_bool ⟨.bl b,H,I,rfl,h⟩
def bw {x j pos}:PE X (.Constant (.str x) j pos) (tC (.str x)):=λ_ _ _ H _ I h=>Calls.Constant_str ⟨.str x,H,I.tok _,⟨_,rfl⟩,h⟩
def Gl (X:Cx)(x:Str):Prop:=X.env.kindOf x=some .globalImplicit
def xl {E:Value->Shared->Prop}{ag:List (Addr×Obj)}{s:Shared}{σ:St}{H:Hp}{x:Str}{u:Value}{pos:Pos}{Q:Value->Shared->Prop}(I:Inv X ag σ H s)(hg:Gl X x)(hm:X.mg x=some u)(h:Q u s)
  (hd:(x == ("__debug__":Str))=false:=by decide):wpAny (model X.prog X.w) X.A (eval (.Name x pos) X.env) Q E s :=
 Calls.Name_function_global I.ok.kind hg (Calls.loadGlobal_global (by rw [I.ok.glob];exact I.mod.glob.keeps I.bk) hm h) hd
def iW {E:Value->Shared->Prop}{ag:List (Addr×Obj)}{s:Shared}{σ:St}{H:Hp}{x:Str}{u:Value}{pos:Pos}{Q:Value->Shared->Prop}(I:Inv X ag σ H s)(hg:Gl X x)(hm:X.mg x=none)(hv:bootBuiltins x=some u)(h:Q u s)
  (hn:x ≠ "__name__" := by decide)(hd:(x == ("__debug__":Str))=false:=by decide):wpAny (model X.prog X.w) X.A (eval (.Name x pos) X.env) Q E s:=by
 obtain⟨mb,h1,h2⟩:=I.mod.blt;exact Calls.Name_function_global I.ok.kind hg (Calls.loadGlobal_builtin (by rw [I.ok.glob];exact I.mod.glob.keeps I.bk) hm (by rw [I.ok.blt];exact h1.keeps I.bk) ((h2 x hn).trans hv) h) hd
def Je {x:Str}{v:V}{u:Value}{pos:Pos}(hg:Gl X x)(hm:X.mg x=some u)(r:RelV v u)(hd:(x == ("__debug__":Str))=false:=by decide):PE X (.Name x pos) (tC v) :=
 λ_ _ _ H _ I h=>xl I hg hm ⟨v,H,I,r,h⟩ hd
def Ji {x:Str}{v:V}{u:Value}{pos:Pos}(hg:Gl X x)(hm:X.mg x=none)(hv:bootBuiltins x=some u)(r:RelV v u)(hn:x ≠ "__name__" := by decide)(hd:(x == ("__debug__":Str))=false:=by decide):PE X (.Name x pos) (tC v) :=
 λ_ _ _ H _ I h=>iW I hg hm hv ⟨v,H,I,r,h⟩ hn hd
variable {a b:Expr}{ta tb:TE}{pos:Pos}
def PC (X:Cx)(op:CmpOp)(a b:Expr)(t:TE):Prop :=
 ∀(ag:List (Addr×Obj))(s:Shared)(σ:St)(H:Hp)(Q:VK),Inv X ag σ H s->t σ H Q ->
  wpAny (model X.prog X.w) X.A (eval a X.env) (λv s₁=>wpAny (model X.prog X.w) X.A (eval b X.env) (λu s₂=>wpAny (model X.prog X.w) X.A (compareOp op v u) (EP X ag σ Q) X.xe s₂) X.xe s₁) X.xe s
def yC (b:Expr){op:CmpOp}(h:op≠.In)(h2:op≠.NotIn):behindInMarks op b=false:=by
 have e1:(op == CmpOp.In)=false:=by cases op <;> first | rfl | exact absurd rfl h
 have e2:(op == CmpOp.NotIn)=false:=by cases op <;> first | rfl | exact absurd rfl h2
 cases b <;> simp [behindInMarks,e1,e2]
def Vo (ta:TE):TE:=λσ H Q=>ta σ H λx H1=>Q (.bl (decide (x=.gb))) H1
def RelV.Ga {x:V}{v:Value}(r:RelV x v):(v == Value.none)=decide (x=.gb):=by
 cases x with
 | gb=>cases r;rfl
 | bl _=>cases r;rfl
 | int _=>obtain⟨t,rfl⟩:=r;rfl
 | str _=>obtain⟨t,rfl⟩:=r;rfl
 | DT _=>obtain⟨t,rfl⟩:=r;rfl
 | N4 _=>obtain⟨t,rfl⟩:=r;rfl
 | ref _=>cases r;rfl
 | ty _=>cases r;rfl
def MV {j pos'}(ha:PE X a ta):PC X .Is a (.Constant .none j pos') (Vo ta):=by
 intro ag s σ H Q I h;refine df (ha ag s σ H _ I h) λv s1 bL=>?_;obtain⟨x,H1,I1,r1,q1⟩:=bL;exact Constant_none (is_none_gen ⟨.bl _,H1,I1,by rw [r1.Ga];rfl,q1⟩)
def tB (t:TE):TT:=λσ H Q=>t σ H λx H1=>XB x λc=>Q c H1
def sP {op:CmpOp}{t:TE}(h:PC X op a b t)(h1:behindInMarks op b=false:=by first | exact yC _ nofun nofun | rfl):PE X (.Compare a [op] [b] pos) t:=λag s σ H Q I hw=>wpAny_Compare1 (h ag s σ H Q I hw) h1
def f_ {op:CmpOp}{t:TE}(h:PC X op a b t)(h1:behindInMarks op b=false:=by first | exact yC _ nofun nofun | rfl):PT X (.Compare a [op] [b] pos) (tB t):=by
 intro ag s σ H Q I hw;refine wpAny_isTrue_Compare1 (df (h ag s σ H _ I hw) λv s1 h1=>df h1 λu s2 h2=>df h2 λc s3 bL=>?_) h1;obtain⟨x,H1,I1,r1,q1⟩:=bL;obtain⟨d,rfl,q⟩:=q1;cases r1;exact mP ⟨H1,I1,q⟩
def gX {e:Expr}{t:TE}(h:PE X e t)(he:∀whole,isTrue e X.env whole=(do let v <-whole;standAt e.pos;holding [v] (truthy v)):=by intro _;rfl):PT X e (tB t):=by
 intro ag s σ H Q I hw;refine isTrue_plain (df (h ag s σ H _ I hw) λv s1 bL=>?_) (he _);obtain⟨x,H1,I1,r1,q1⟩:=bL;obtain⟨d,rfl,q⟩:=q1;cases r1;exact mP ⟨H1,I1,q⟩
variable {tA TC:TT}{rest:List Expr}
def Vs (t u:TT):TT:=λσ H Q=>t σ H λc H1=>if c=true then u σ H1 Q else Q false H1
def tOr (t u:TT):TT:=λσ H Q=>t σ H λc H1=>if c=true then Q true H1 else u σ H1 Q
def Vm (t:TT):TT:=λσ H Q=>t σ H λc H1=>Q (!c) H1
def jX (ha:PT X a tA):PW X (.BoolOp .And [a] pos) tA:=by
 intro wh ag s σ H Q I h;refine isTrue_and (df (ha ag s σ H Q I h) λc s1 e=>?_);cases c with
 | true=>exact isTrue_and_nil e
 | false=>exact e
def Fy (ha:PT X a tA):PW X (.BoolOp .Or [a] pos) tA:=by
 intro wh ag s σ H Q I h;refine isTrue_or (df (ha ag s σ H Q I h) λc s1 e=>?_);cases c with
 | false=>exact isTrue_or_nil e
 | true=>exact e
def mY (ha:PT X a tA)(hb:PW X (.BoolOp .And (b::rest) pos) TC):PW X (.BoolOp .And (a::b::rest) pos) (Vs tA TC):=by
 intro wh ag s σ H Q I h;refine isTrue_and (df (ha ag s σ H _ I h) λc s1 bL=>?_);obtain⟨H1,I1,q1⟩:=bL;cases c with
 | true=>exact hb wh ag s1 σ H1 Q I1 q1
 | false=>exact⟨H1,I1,q1⟩
def KR (ha:PT X a tA)(hb:PW X (.BoolOp .Or (b::rest) pos) TC):PW X (.BoolOp .Or (a::b::rest) pos) (tOr tA TC):=by
 intro wh ag s σ H Q I h;refine isTrue_or (df (ha ag s σ H _ I h) λc s1 bL=>?_);obtain⟨H1,I1,q1⟩:=bL;cases c with
 | true=>exact⟨H1,I1,q1⟩
 | false=>exact hb wh ag s1 σ H1 Q I1 q1
def Fz (ha:PT X a tA):PT X (.UnaryOp .Not a pos) (Vm tA):=by
 intro ag s σ H Q I h;exact isTrue_not (ha ag s σ H (λc H1=>Q (!c) H1) I h)
def Qh (ta tb:TE):TE:=λσ H Q=>ta σ H λx H1=>XB x λc=>if c=true then tb σ H1 Q else Q (.bl false) H1
def Vl (ta tb:TE):TE:=λσ H Q=>ta σ H λx H1=>XB x λc=>if c=true then Q (.bl true) H1 else tb σ H1 Q
def pU {op}{t:TE}(h:PE X a t):PE X (.BoolOp op [a] pos) t:=λag s σ H Q I hw=>BoolOp_one (h ag s σ H Q I hw)
def sQ (ha:PE X a ta)(hb:PE X (.BoolOp .And (b::rest) pos) tb):PE X (.BoolOp .And (a::b::rest) pos) (Qh ta tb):=by
 intro ag s σ H Q I h;refine BoolOp_and (df (ha ag s σ H _ I h) λv s1 bL=>?_);obtain⟨x,H1,I1,r1,q1⟩:=bL;obtain⟨c,rfl,q1⟩:=q1;cases r1;refine mP ?_;cases c with
 | true=>exact hb ag s1 σ H1 Q I1 q1
 | false=>exact⟨.bl false,H1,I1,rfl,q1⟩
def KU (ha:PE X a ta)(hb:PE X (.BoolOp .Or (b::rest) pos) tb):PE X (.BoolOp .Or (a::b::rest) pos) (Vl ta tb):=by
 intro ag s σ H Q I h;refine BoolOp_or (df (ha ag s σ H _ I h) λv s1 bL=>?_);obtain⟨x,H1,I1,r1,q1⟩:=bL;obtain⟨c,rfl,q1⟩:=q1;cases r1;refine mP ?_;cases c with
 | false=>exact hb ag s1 σ H1 Q I1 q1
 | true=>exact⟨.bl true,H1,I1,rfl,q1⟩
def tIf (t:TT)(ta tb:TE):TE:=λσ H Q=>t σ H λc H1=>if c=true then ta σ H1 Q else tb σ H1 Q
def yu {c:Expr}(hc:PT X c tA)(ha:PE X a ta)(hb:PE X b tb):PE X (.IfExp c a b pos) (tIf tA ta tb):=by
 intro ag s σ H Q I h;refine wpAny_IfExp (df (hc ag s σ H _ I h) λd s1 bL=>?_);obtain⟨H1,I1,q1⟩:=bL;cases d with
 | true=>exact ha ag s1 σ H1 Q I1 q1
 | false=>exact hb ag s1 σ H1 Q I1 q1
end
def aI (K:a0)(H:Hp)(a:Addr)(xs:List V):Prop :=
 Rd H a (.lst xs) \/
  ∃(o:Obj)(aU:Array Value) (n:Nat),K.lookup a=some o/\o.cls=.type "list" /\ o.dict=none/\o.data=.seq aU n/\aU.size<=sizeLine/\ba xs aU.toList
def aT (K:a0)(H:Hp)(a:Addr)(xs:List V):Prop :=
 Rd H a (.tup xs) \/
  ∃(o:Obj)(aU:Array Value) (n:Nat),K.lookup a=some o/\o.cls=.type "tuple" /\ o.data=.seq aU n/\aU.size<=sizeLine/\ba xs aU.toList
def YL:Value->Option V
 | .none=>some .gb
 | .bool b=>some (.bl b)
 | .int i _=>some (.int i)
 | .str x _=>some (.str x)
 | .bytes b _=>some (.DT b)
 | .float b _=>some (.N4 b)
 | .ref a=>some (.ref a)
 | .type n=>some (.ty n)
 | _=>none
def RelV.abs {x:V}{u:Value}(r:RelV x u):YL u=some x:=by
 cases x with
 | gb=>cases r;rfl
 | bl _=>cases r;rfl
 | int _=>obtain⟨t,rfl⟩:=r;rfl
 | str _=>obtain⟨t,rfl⟩:=r;rfl
 | DT _=>obtain⟨t,rfl⟩:=r;rfl
 | N4 _=>obtain⟨t,rfl⟩:=r;rfl
 | ref _=>cases r;rfl
 | ty _=>cases r;rfl
def RelV.inj {x y:V}{u:Value}(r:RelV x u)(q:RelV y u):x=y:=gi (r.abs.symm.trans q.abs)
theorem ba.inj:∀{xs ys:List V}{us:List Value},ba xs us->ba ys us->xs=ys
 | _,_,_,.nil,.nil=>rfl
 | _,_,_,.cons r t,.cons r' t'=>by rw [r.inj r',ba.inj t t']
section
variable {X:Cx}{ag:List (Addr×Obj)}{σ:St}{H:Hp}{s:Shared}{a:Addr}{xs ys:List V}
def aI.of {K:a0}(h:H a=some (.lst xs)):aI K H a xs:=.inl (.inl h)
def aT.of {K:a0}(h:H a=some (.tup xs)):aT K H a xs:=.inl (.inl h)
def Inv.list (I:Inv X ag σ H s)(h:aI X.K H a xs):∃aU:List Value,ba xs aU/\PlainL s.heap a aU.toArray/\xs.length<=sizeLine:=by
 rcases h with h | ⟨o,aU,n,hk,hc,hd,hs,hz,r⟩
 .obtain⟨z,aU,n,r,e⟩:=h.ok I.cw;exact⟨aU,r,⟨_,n,e,rfl,rfl,rfl⟩,z⟩
 refine⟨aU.toList,r,⟨o,n,I.zI a o hk,hc,hd,by simpa using hs⟩,?_⟩;have e:=r.length;simp only [iN] at e;omega
def Inv.tuple (I:Inv X ag σ H s)(h:aT X.K H a xs):∃aU:List Value,ba xs aU/\IsTup s.heap a aU.toArray/\xs.length<=sizeLine:=by
 rcases h with h | ⟨o,aU,n,hk,hc,hs,hz,r⟩
 .obtain⟨z,aU,r,p⟩:=h.ok I.cw;exact⟨aU,r,p,z⟩
 refine⟨aU.toList,r,⟨o,I.zI a o hk,hc,n,by simpa using hs⟩,?_⟩;have e:=r.length;simp only [iN] at e;omega
def Inv.sY (I:Inv X ag σ H s)(h:aI X.K H a xs)(h':aI X.K H a ys):xs=ys:=by
 obtain⟨aU,r,⟨o,n,e,_,_,d⟩,_⟩:=I.list h;obtain⟨xn,r',⟨o',n',e',_,_,d'⟩,_⟩:=I.list h';rw [e] at e';cases e';rw [d] at d';injection d' with d1 _;have:aU=xn:=by simpa using congrArg Array.toList d1
 subst this;exact r.inj r'
def Inv.jx (I:Inv X ag σ H s)(h:aT X.K H a xs)(h':aT X.K H a ys):xs=ys:=by
 obtain⟨aU,r,⟨o,e,_,n,d⟩,_⟩:=I.tuple h;obtain⟨xn,r',⟨o',e',_,n',d'⟩,_⟩:=I.tuple h';rw [e] at e';cases e';rw [d] at d';injection d' with d1 _;have:aU=xn:=by simpa using congrArg Array.toList d1
 subst this;exact r.inj r'
end
abbrev Cx.qG (X:Cx)(E:Value->Shared->Prop):Cx:={ X with xe:=E }
abbrev Cx.C_ (X:Cx):Cx:=X.qG λ_ _=>False
theorem Cx.Ok.qG {X:Cx}(ok:X.Ok)(E:Value->Shared->Prop):(X.qG E).Ok :=
 ⟨ok.mod,ok.kind,ok.glob,ok.blt,ok.above,ok.inj,ok.has,ok.SG,ok.hd,ok.frames,ok.TJ,ok.Pj,ok.bs,ok.IA,ok.Gb,ok.DE,ok.qc,ok.Lv⟩
def Cx.Ok.jl {X:Cx}{E:Value->Shared->Prop}(ok:(X.qG E).Ok):X.Ok :=
 ⟨ok.mod,ok.kind,ok.glob,ok.blt,ok.above,ok.inj,ok.has,ok.SG,ok.hd,ok.frames,ok.TJ,ok.Pj,ok.bs,ok.IA,ok.Gb,ok.DE,ok.qc,ok.Lv⟩
section
variable {X:Cx}{ag:List (Addr×Obj)}{σ:St}{H:Hp}{s:Shared}{E:Value->Shared->Prop}
theorem Inv.qG (I:Inv X ag σ H s)(E:Value->Shared->Prop):Inv (X.qG E) ag σ H s:=⟨I.ok.qG E,I.os,I.bare,I.base,I.loc,I.cell,I.free,I.lF,I.pin,I.cw,I.len⟩
theorem Inv.jl (I:Inv (X.qG E) ag σ H s):Inv X ag σ H s:=⟨I.ok.jl,I.os,I.bare,I.base,I.loc,I.cell,I.free,I.lF,I.pin,I.cw,I.len⟩
theorem SP.jl {D:Ends}{f:Flow}{s':Shared}(h:SP (X.qG E) ag D f s'):SP X ag D f s':=by
 cases f with
 | next=>obtain⟨σ',H',I,q⟩:=h;exact⟨σ',H',I.jl,q⟩
 | brk=>obtain⟨σ',H',I,q⟩:=h;exact⟨σ',H',I.jl,q⟩
 | cont=>obtain⟨σ',H',I,q⟩:=h;exact⟨σ',H',I.jl,q⟩
 | ret u=>obtain⟨v,σ',H',I,r,q⟩:=h;exact⟨v,σ',H',I.jl,r,q⟩
theorem PE.C_ {e:Expr}{t:TE}(h:PE X.C_ e t):PE X e t:=λag s σ H Q I hw =>
 dA (h ag s σ H Q (I.qG _) hw) (λ_ _ ⟨v,H',I',r,q⟩=>⟨v,H',I'.jl,r,q⟩) λ_ _ z=>False.elim z
theorem PT.C_ {e:Expr}{t:TT}(h:PT X.C_ e t):PT X e t:=λag s σ H Q I hw =>
 dA (h ag s σ H Q (I.qG _) hw) (λ_ _ ⟨H',I',q⟩=>⟨H',I'.jl,q⟩) λ_ _ z=>False.elim z
theorem Bp.C_ {st:List Stmt}{t:TS}(h:Bp X.C_ st t):Bp X st t:=λag s σ H D I hw =>
 dA (h ag s σ H D (I.qG _) hw) (λ_ _ q=>q.jl) λ_ _ z=>False.elim z
end
section
variable {X:Cx}{st:Stmt}{rest:List Stmt}{t u:TS}{e:Expr}{te:TE}{pos:Pos}
def P5:TS:=λD σ H=>D.nx σ H
def Mh (t u:TS):TS:=λD σ H=>t { D with nx:=u D } σ H
def aZ:Bp X [] P5:=λ_ _ σ H _ I h=>wpAny_execs_nil ⟨σ,H,I,h⟩
def ai (h1:PS X st t)(h2:Bp X rest u):Bp X (st::rest) (Mh t u):=by
 intro ag s σ H D I h;refine wpAny_execs_cons (df (h1 ag s σ H { D with nx:=u D } I h) λf s1 q=>?_);cases f with
 | next =>
  obtain⟨σ',H',I',q⟩:=q;exact h2 ag s1 σ' H' D I' q
 | ret v=>exact q
 | brk=>exact q
 | cont=>exact q
def ao (h1:PS X st t):Bp X [st] t:=by
 intro ag s σ H D I h;refine wpAny_execs_cons (df (h1 ag s σ H D I h) λf s1 q=>?_);cases f with
 | next=>exact wpAny_execs_nil q
 | ret v=>exact q
 | brk=>exact q
 | cont=>exact q
def Ml:TS:=λD σ H=>D.bk σ H
def yq:PS X (.Break pos) Ml:=λ_ _ σ H _ I h=>wpAny_Break ⟨σ,H,I,h⟩
def Inv.quiet {ag:List (Addr×Obj)}{σ:St}{H:Hp}{s:Shared}(I:Inv X ag σ H s):interactive X.env=false:=by simp [interactive,I.ok.kind]
def Qb (te:TE):TS:=λD σ H=>te σ H λ_ H1=>D.nx σ H1
def cv (he:PE X e te)(hs:swapsWith e none pos.line X.env=pure false:=by rfl):PS X (.Expr e pos) (Qb te):=by
 intro ag s σ H D I h;refine wpAny_Expr_any (df (he ag s σ H _ I h) λv s1 bL=>?_) I.quiet hs;obtain⟨x,H1,I1,r1,q1⟩:=bL;exact⟨σ,H1,I1,q1⟩
def Vk (te:TE):TS:=λD σ H=>te σ H D.rt
def bC (he:PE X e te):PS X (.Return (some e) pos) (Vk te):=by
 intro ag s σ H D I h;refine wpAny_Return_some (df (he ag s σ H _ I h) λv s1 bL=>?_);obtain⟨x,H1,I1,r1,q1⟩:=bL;exact⟨x,σ,H1,I1,r1,q1⟩
def Vp (c:TT)(t u:TS):TS:=λD σ H=>c σ H λb H1=>if b=true then t D σ H1 else u D σ H1
def cy {c:Expr}{a b:List Stmt}{tc:TT}(hc:PT X c tc)(ha:Bp X a t)(hb:Bp X b u):PS X (.If c a b pos) (Vp tc t u):=by
 intro ag s σ H D I h;refine wpAny_If (df (hc ag s σ H _ I h) λd s1 bL=>?_);obtain⟨H1,I1,q1⟩:=bL;cases d with
 | true=>exact ha ag s1 σ H1 D I1 q1
 | false=>exact hb ag s1 σ H1 D I1 q1
def Mi:TS:=λ_ _ _=>False
def iT:PS X st Mi:=λ_ _ _ _ _ _ h=>h.elim
end
abbrev TG:=V->St->Hp->(St->Hp->Prop)->Prop
abbrev LR:=List V->St->Hp->(St->Hp->Prop)->Prop
def PG (X:Cx)(target:Expr)(t:TG):Prop :=
 ∀(ag:List (Addr×Obj))(s:Shared)(σ:St)(H:Hp)(v:V)(u:Value)(Q:St->Hp->Prop),Inv X ag σ H s->RelV v u->t v σ H Q ->
  wpAny (model X.prog X.w) X.A (assign target X.env u) (λ_ s'=>∃σ' H',Inv X ag σ' H' s'/\Q σ' H') X.xe s
def Tb (X:Cx)(ts:List Expr)(t:LR):Prop :=
 ∀(ag:List (Addr×Obj))(s:Shared)(σ:St)(H:Hp)(vs:List V)(us:List Value)(Q:St->Hp->Prop),Inv X ag σ H s->ba vs us->t vs σ H Q ->
  wpAny (model X.prog X.w) X.A (assignInOrder ((assignEach ts X.env).map (·.2)) us) (λ_ s'=>∃σ' H',Inv X ag σ' H' s'/\Q σ' H') X.xe s
abbrev UX:=V->V->Hp->VK->Prop
def PIp (X:Cx)(op:Operator)(t:UX):Prop :=
 ∀(ag:List (Addr×Obj))(s:Shared)(σ:St)(H:Hp)(x y:V)(v u:Value)(Q:VK),Inv X ag σ H s->RelV x v->RelV y u->t x y H Q ->
  wpAny (model X.prog X.w) X.A (inplaceOp op v u) (EP X ag σ Q) X.xe s
section
variable {X:Cx}{pos:Pos}
def di (i:Nat):TG:=λv σ H Q=>Q (σ.set i (some v)) H
def aq {i:Nat}{x:Str}(hN:X.N.Nodup)(hi:X.N[i]?=some x)(hx:Loc X.env.scope x)(hf:X.fn x=true\/X.env.scope.names.lookup x=some .local:=by first | exact .inl rfl | exact .inr rfl | assumption):PG X (.Name x pos) (di i):=by
 intro ag s σ H v u Q I r h;exact wpAny_assign_Name (si I hN hi hx r (λs' I'=>⟨_,H,I',h⟩) hf)
def A5:LR:=λvs σ H Q=>vs=[]/\Q σ H
def iX (t:TG)(u:LR):LR:=λvs σ H Q=>LQ vs λv r=>t v σ H λσ' H'=>u r σ' H' Q
def bz:Tb X [] A5:=by
 intro ag s σ H vs us Q I r h;obtain⟨e,h⟩:=h;subst e;cases r;exact assignInOrder_nil ⟨σ,H,I,h⟩
def az {e:Expr}{es:List Expr}{t:TG}{u:LR}(h1:PG X e t)(h2:Tb X es u)
  (hs:(assignEach (e::es) X.env).map (·.2)=assign e X.env::(assignEach es X.env).map (·.2):=by rfl):Tb X (e::es) (iX t u):=by
 intro ag s σ H vs us Q I r h;obtain⟨v,vr,e1,h⟩:=h;subst e1;cases r with
 | cons r rr =>
  rw [hs];refine assignInOrder_cons (df (h1 ag s σ H _ _ _ I r h) λ_ s1 bL=>?_);obtain⟨σ1,H1,I1,q1⟩:=bL;exact h2 ag s1 σ1 H1 _ _ Q I1 rr q1
def yT (K:a0) (n:Nat)(t:LR):TG:=λv σ H Q=>SX v (aT K H) n λxs=>t xs σ H Q
def ft {es:List Expr}{k:Nat}{t:LR}{n:Nat}(hc:X.calm=true)(h:Tb X es t)
  (hn:(assignEach es X.env).length=n:=by rfl)(nO:(assignEach es X.env).findIdx? (·.1)=none:=by rfl):PG X (.Tuple es k pos) (yT X.K n t):=by
 intro ag s σ H v u Q I r hw;obtain⟨a,xs,e1,hq,hl,hw⟩:=hw;subst e1;cases r;obtain⟨aU,rv,ht,hz⟩:=I.tuple hq;refine assign_Tuple_tuple (I.ok.hd hc) ht (by simp [hn,<-hl,rv.length]) nO λh' hx=>?_;have I1:Inv X ag σ H { s with heap:=h' }:=I.kept (t':=s.toks) λb o e=>hx b o (bE (bo e)) e;exact h ag _ σ H xs _ Q I1 (by simpa using rv) hw
def Qg (te:TE)(g:TG):TS:=λD σ H=>te σ H λx H1=>g x σ H1 D.nx
def aC {i:Nat}{x:Str}{e:Expr}{te:TE}{pos':Pos}(hN:X.N.Nodup)(hi:X.N[i]?=some x)(hx:Loc X.env.scope x)(he:PE X e te)(hs:swapsWith e (some (.Name x pos')) pos.line X.env=pure false:=by rfl)(hf:X.fn x=true\/X.env.scope.names.lookup x=some .local:=by first | exact .inl rfl | exact .inr rfl | assumption) :
  PS X (.Assign [.Name x pos'] e pos) (Qg te (di i)):=by
 intro ag s σ H D I h;refine wpAny_Assign_Name (df (he ag s σ H _ I h) λv s1 bL=>?_) hs;obtain⟨y,H1,I1,r1,q1⟩:=bL;exact si I1 hN hi hx r1 (λs2 I2=>⟨_,H1,I2,q1⟩) hf
def Vr (i:Nat)(te:TE)(ti:UX):TS:=λD σ H=>∃x,σ[i]?=some (some x)/\te σ H λy H1=>ti x y H1 λz H2=>D.nx (σ.set i (some z)) H2
def MT {i:Nat}{x:Str}{e:Expr}{te:TE}{op:Operator}{ti:UX}{pos':Pos}(hN:X.N.Nodup)(hi:X.N[i]?=some x)(hx:Loc X.env.scope x)(he:PE X e te)(ho:PIp X op ti)(hf:X.fn x=true\/X.env.scope.names.lookup x=some .local:=by first | exact .inl rfl | exact .inr rfl | assumption) :
  PS X (.AugAssign (.Name x pos') op e pos) (Vr i te ti):=by
 intro ag s σ H D I h;obtain⟨v,e1,h⟩:=h;obtain⟨m,hn,hl⟩:=I.loc;have vis:UW X.env.scope x:=by rcases hx with k | k;exact .inl k;exact .inr (.inl k)
 obtain⟨u,r,l⟩:=hl i x v hi e1 vis;refine wpAny_AugAssign_Name ?_;have go:wpAny (model X.prog X.w) X.A (eval e X.env) (λw s₂=>wpAny (model X.prog X.w) X.A (inplaceOp op u w) (λr s₃=>wpAny (model X.prog X.w) X.A (storeName X.env x r) (λ_=>SP X ag D .next) X.xe s₃) X.xe s₂) X.xe s:=by
  refine df (he ag s σ H _ I h) λw s1 bL=>?_;obtain⟨y,H1,I1,r1,q1⟩:=bL;refine df (ho ag s1 σ H1 v y u w _ I1 r r1 q1) λz s2 bL=>?_;obtain⟨zv,H2,I2,r2,q2⟩:=bL;exact si I2 hN hi hx r2 (λs3 I3=>⟨_,H2,I3,q2⟩) hf
 rcases l with ⟨hk,hm⟩ | ⟨hk,c,hc,jG⟩
 .exact v3 I.ok.kind hk hn hm go
 rcases hk with hk | hk
 .exact wpAny_loadName_cell I.ok.kind hk hc jG go
 rcases hx with k | k
 .have:X.env.scope.names.lookup x=some .free:=hk;rw [k] at this;cases this
 have:X.env.scope.names.lookup x=some .free:=hk;rw [k] at this;cases this
def ipI (f:Int->Int->Int):UX:=λx y H Q=>∃i j,x=.int i/\y=.int j/\Q (.int (f i j)) H
def Nv:PIp X .Add (ipI λi j=>i+j):=by
 intro ag s σ H x y v u Q I r1 r2 h;obtain⟨i,j,e1,e2,q⟩:=h;subst e1;subst e2;obtain⟨t,rfl⟩:=r1;obtain⟨t',rfl⟩:=r2;exact iadd_int ⟨.int _,H,I.tok _,⟨_,rfl⟩,q⟩
end
section
variable {X:Cx}{pos:Pos}
def Mf (c:TT)(tb:TS):TS:=λD σ H=>∃W:Nat->St->Hp->Prop,(∃m,W m σ H)/\∀m σ H,W m σ H ->
 c σ H λb H1=>if b=true then ∃N:St->Hp->Prop,(∀σ' H',N σ' H'->∃m',m' < m/\W m' σ' H')/\tb { D with nx:=N,ct:=N,bk:=D.nx } σ H1 else D.nx σ H1
def jB {c:Expr}{body:List Stmt}{tc:TT}{tb:TS}(hp:PassesOwn (model X.prog X.w) X.A X.env X.xe)(hc:PT X c tc)(hb:Bp X body tb):PS X (.While c body [] pos) (Mf tc tb):=by
 intro ag s σ H D I h;obtain⟨W,⟨m0,w0⟩,turn⟩:=h;refine wpAny_While (codeAny_whileLoop (λn s'=>∃σ' H',Inv X ag σ' H' s'/\W n σ' H') ?_ m0 ⟨σ,H,I,w0⟩);rintro n s1 ⟨σ1,H1,I1,w1⟩;refine mJ hp (df (hc ag s1 σ1 H1 _ I1 (turn n σ1 H1 w1)) λb s2 bL=>?_);obtain⟨H2,I2,q2⟩:=bL;cases b with
 | true =>
  obtain⟨N,hN,q2⟩:=q2;rw [aw rfl];refine mJ hp (df (hb ag s2 σ1 H2 _ I2 q2) λf s3 q3=>?_);cases f with
  | next =>
   obtain⟨σ3,H3,I3,n3⟩:=q3;obtain⟨m',hm,w3⟩:=hN σ3 H3 n3;exact⟨m',hm,σ3,H3,I3,w3⟩
  | cont =>
   obtain⟨σ3,H3,I3,n3⟩:=q3;obtain⟨m',hm,w3⟩:=hN σ3 H3 n3;exact⟨m',hm,σ3,H3,I3,w3⟩
  | brk=>exact q3
  | ret v=>exact q3
 | false =>
  rw [ax dC];exact wpAny_execs_nil ⟨σ1,H2,I2,q2⟩
end
structure It where
 go:Nat->Hp->Prop
 mT:Nat->Hp->V->Hp->Prop
 stop:Nat->Hp->Prop
def xS (X:Cx)(ag:List (Addr×Obj))(H:Hp)(b:Addr):Prop :=
 H b=none/\b≠X.env.locals/\b∉X.fs/\(b∈X.ex\/X.s₀.heap.objs.size<=b)/\(∀x c,X.env.cells.lookup x=some c->c≠b)/\∀p∈X.pn++ag,p.1≠b
def Inv.xu {X:Cx}{ag:List (Addr×Obj)}{σ:St}{H H':Hp}{s:Shared}{b:Addr}(I:Inv X ag σ H s)(hb:s.heap.objs.size<=b)(hn:H' b=none):xS X ag H' b:=by
 refine⟨hn,kb (gk I.lt hb),I.VY hb,.inr (eK I.sz hb),λx c e z=>?_,λp hp z=>?_⟩
 .obtain⟨v,q⟩:=I.cell x c e;exact absurd (gk q.lt (by rw [z];exact hb)) (kJ _)
 exact absurd (gk (bo (I.pin p hp).1) (by rw [z];exact hb)) (kJ _)
structure Turn (P:Program)(w:World)(K:a0)(tg:Expr)(J:It)(fp:List Addr)(it:Addr)(tn:Nat->Heap->Prop):Prop where
 mem:it∈fp
 obj:∀i h,tn i h->∀b∈fp,∃o,h.get? b=some o/\∀v,o.data≠.cell v
 keep:∀i h h',tn i h->(∀b∈fp,∀o,h.get? b=some o->h'.get? b=some o)->tn i h'
 item:∀(X:Cx),X.prog=P->X.w=w->X.K=K->X.calm=true->∀(i:Nat)(ag:List (Addr×Obj))(s:Shared)(σ:St)(H:Hp)(E:Value->Shared->Prop),Inv X ag σ H s->(∀b∈fp,xS X ag H b)->tn i s.heap->J.go i H ->
  wpAny (model P w) X.A (pyNext (.ref it)) (λr s1=>∃u,r=some u /\
   wpAny (model P w) X.A (letOwnedTupleGo tg (.ref it) u) (λ_ s2=>∃x H',Inv X ag σ H' s2/\RelV x u/\J.mT i H x H'/\tn (i+1) s2.heap/\∀b∈fp,H' b=none) E s1) E s
 done:∀(X:Cx),X.prog=P->X.w=w->X.K=K->X.calm=true->∀(i:Nat)(ag:List (Addr×Obj))(s:Shared)(σ:St)(H:Hp)(E:Value->Shared->Prop),Inv X ag σ H s->(∀b∈fp,xS X ag H b)->tn i s.heap->J.stop i H ->
  wpAny (model P w) X.A (pyNext (.ref it)) (λr s1=>r=none/\Inv X ag σ H s1) E s
 self:∀(A:Around) (i:Nat)(s:Shared)(Q:Value->Shared->Prop)(E:Value->Shared->Prop),tn i s.heap->Q (.ref it) s->wpAny (model P w) A (pyIter (.ref it)) Q E s
abbrev TI:=St->Hp->(It->Hp->Prop)->Prop
def PIE (X:Cx)(ag:List (Addr×Obj))(σ:St)(tg:Expr)(R:It->Hp->Prop)(T9:Value)(s2:Shared):Prop :=
 ∃(it:Addr)(fp:List Addr)(tn:Nat->Heap->Prop)(J:It)(H':Hp),T9=.ref it/\Inv X ag σ H' s2/\Turn X.prog X.w X.K tg J fp it tn/\tn 0 s2.heap/\(∀b∈fp,xS X ag H' b)/\R J H'
def PI (X:Cx)(tg iter:Expr)(wi:TI):Prop :=
 ∀(ag:List (Addr×Obj))(s:Shared)(σ:St)(H:Hp)(R:It->Hp->Prop),Inv X ag σ H s->wi σ H R ->
  wpAny (model X.prog X.w) X.A (eval iter X.env) (λv s1=>wpAny (model X.prog X.w) X.A (pyIter v) (PIE X ag σ tg R) X.xe s1) X.xe s
def Cp {M:Model}{A:Around}{E:Value->Shared->Prop}{s:Shared}{tg:Expr}{it:Addr}{u:Value}{o:Obj}{n:String}{vs:Array Value}{Q:Unit->Shared->Prop}(ho:s.heap.get? it=some o)(hc:o.cls=.type n)(hd:o.data=.fields vs)
  (hn:["enumerate","zip","dict_itemiterator","dict_reverseitemiterator","odict_iterator","itertools.zip_longest","itertools.pairwise"].contains n=false)(hQ:Q () s):wpAny M A (letOwnedTupleGo tg (.ref it) u) Q E s:=by
 unfold letOwnedTupleGo;cases tg <;> first
  | exact aD hQ
  | (cases u <;> first
    | exact aD hQ
    | (refine ay (wpAny_load ho ?_)
       rw [hc,hd];show wpAny M A (if (["enumerate","zip","dict_itemiterator","dict_reverseitemiterator","odict_iterator","itertools.zip_longest","itertools.pairwise"].contains n && vs[0]? == some (rawInt _))=true then _ else _) Q E s;rw [ax (by intro h;rw [hn,o_] at h;cases h)];exact aD hQ))
def jN (K:a0)(a:Addr):It :=
 ⟨λi H=>∃xs x,aI K H a xs/\xs[i]?=some x,λi H x H'=>H'=H/\∀xs,aI K H a xs->xs[i]?=some x,λi H=>∃xs,aI K H a xs/\xs.length<=i⟩
def oV (K:a0)(a:Addr):It :=
 ⟨λi H=>∃xs x,aT K H a xs/\xs[i]?=some x,λi H x H'=>H'=H/\∀xs,aT K H a xs->xs[i]?=some x,λi H=>∃xs,aT K H a xs/\xs.length<=i⟩
def PH (lo:Int) (n:Nat):It:=⟨λi _=>i < n,λi H x H'=>H'=H/\x=.int (lo+i),λi _=>n<=i⟩
def CL {P:Program}{w:World}{K:a0}{tg:Expr}(a it:Addr):Turn P w K tg (jN K a) [it] it (λi h=>h.IsListIter it a i) where
 mem:=by simp
 obj:=λi h st b hb=>by
  have e:b=it:=by simpa using hb
  subst e;obtain⟨o,e,c,d⟩:=st;exact⟨o,e,λv z=>by rw [d] at z;cases z⟩
 keep:=λi h h' st k=>st.at λo e=>k it (by simp) o e
 item:=by
  intro X hP hw hK hc i ag s σ H E I hf st hg;subst hP hw hK;obtain⟨xs,x,hq,hx⟩:=hg;obtain⟨aU,rv,p,hz⟩:=I.list hq;obtain⟨u,hu,ru⟩:=rv.get hx;obtain⟨f0,f1,f2,f3,f4,f5⟩:=hf it (by simp);refine wpAny_pyNext_list_item st p.isList (x:=u) (by simpa using hu) λh' qR sb=>?_;have I1:Inv X ag σ H { s with heap:=h' }:=I.turned (t':=s.toks) (λb o hb e=>(sb.2 b hb).trans e) f0 f1 f3 f4 f5;obtain⟨o,e,c,d⟩:=id qR;exact⟨u,rfl,Cp (s:={ s with heap:=h' }) e c d nofun ⟨x,H,I1,ru,⟨rfl,λys hy=>by rw [I.sY hy hq];exact hx⟩,qR,λb hb=>(hf b hb).1⟩⟩
 done:=by
  intro X hP hw hK hc i ag s σ H E I hf st hg;subst hP hw hK;obtain⟨xs,hq,hx⟩:=hg;obtain⟨aU,rv,p,hz⟩:=I.list hq;obtain⟨f0,f1,f2,f3,f4,f5⟩:=hf it (by simp);have hl:=rv.length;exact v_ (I.ok.hd hc) st p.isList (by simp;omega) λh' eb=>⟨rfl,I.turned (t':=s.toks) (λb o hb e=>eb b o hb e) f0 f1 f3 f4 f5⟩
 self:=λ_ _ _ _ _ st h=>wpAny_pyIter_listiter st h
def zX {P:Program}{w:World}{K:a0}{tg:Expr}(a it:Addr):Turn P w K tg (oV K a) [it] it (λi h=>h.IsTupleIter it a i) where
 mem:=by simp
 obj:=λi h st b hb=>by
  have e:b=it:=by simpa using hb
  subst e;obtain⟨o,e,c,d⟩:=st;exact⟨o,e,λv z=>by rw [d] at z;cases z⟩
 keep:=λi h h' st k=>st.at λo e=>k it (by simp) o e
 item:=by
  intro X hP hw hK hc i ag s σ H E I hf st hg;subst hP hw hK;obtain⟨xs,x,hq,hx⟩:=hg;obtain⟨aU,rv,p,hz⟩:=I.tuple hq;obtain⟨u,hu,ru⟩:=rv.get hx;obtain⟨f0,f1,f2,f3,f4,f5⟩:=hf it (by simp);refine wpAny_pyNext_tuple_item st (show s.heap.IsTuple a aU.toArray from p) (x:=u) (by simpa using hu) λh' qR sb=>?_;have I1:Inv X ag σ H { s with heap:=h' }:=I.turned (t':=s.toks) (λb o hb e=>(sb.2 b hb).trans e) f0 f1 f3 f4 f5;obtain⟨o,e,c,d⟩:=id qR;exact⟨u,rfl,Cp (s:={ s with heap:=h' }) e c d nofun ⟨x,H,I1,ru,⟨rfl,λys hy=>by rw [I.jx hy hq];exact hx⟩,qR,λb hb=>(hf b hb).1⟩⟩
 done:=by
  intro X hP hw hK hc i ag s σ H E I hf st hg;subst hP hw hK;obtain⟨xs,hq,hx⟩:=hg;obtain⟨aU,rv,p,hz⟩:=I.tuple hq;obtain⟨f0,f1,f2,f3,f4,f5⟩:=hf it (by simp);have hl:=rv.length;exact wpAny_pyNext_tuple_end (I.ok.hd hc) st (show s.heap.IsTuple a aU.toArray from p) (by simp;omega) λh' eb=>⟨rfl,I.turned (t':=s.toks) (λb o hb e=>eb b o hb e) f0 f1 f3 f4 f5⟩
 self:=λ_ _ _ _ _ st h=>wpAny_pyIter_tupleiter st h
def zY {P:Program}{w:World}{K:a0}{tg:Expr}(it:Addr) (lo:Int) (n:Nat):Turn P w K tg (PH lo n) [it] it (λi h=>IsRangeIter h it (lo+(i:Nat) * 1) ((n:Int) - (i:Nat)) 1) where
 mem:=by simp
 obj:=λi h st b hb=>by
  have e:b=it:=by simpa using hb
  subst e;exact⟨_,st,λv z=>by
   have z':Data.fields _=Data.cell v:=z;cases z'⟩
 keep:=λi h h' st k=>k it (by simp) _ st
 item:=by
  intro X hP hw hK hc i ag s σ H E I hf st hg;subst hP hw hK;obtain⟨f0,f1,f2,f3,f4,f5⟩:=hf it (by simp);have W:=Walks.range (prog:=X.prog) (w:=X.w) (I.ok.hd hc) it lo 1 n;refine W.item i s _ _ hg st λv h' tk hv qR kk=>?_;obtain⟨t,rfl⟩:=hv;have I1:Inv X ag σ H { s with heap:=h',toks:=tk }:=I.turned (λb o hb e=>kk b o (by simpa using hb) e) f0 f1 f3 f4 f5;refine⟨_,rfl,Cp (s:={ s with heap:=h',toks:=tk }) (n := "range_iterator") qR rfl rfl nofun ⟨.int (lo+i),H,I1,⟨t,?_⟩,⟨rfl,rfl⟩,qR,λb hb=>(hf b hb).1⟩⟩;rw [Int.mul_one]
 done:=by
  intro X hP hw hK hc i ag s σ H E I hf st hg;subst hP hw hK;obtain⟨f0,f1,f2,f3,f4,f5⟩:=hf it (by simp);exact wpAny_pyNext_range_end (I.ok.hd hc) st (by have:n<=i:=hg;omega) λh' eb=>⟨rfl,I.turned (t':=s.toks) (λb o hb e=>eb b o hb e) f0 f1 f3 f4 f5⟩
 self:=λ_ _ _ _ _ st h=>wpAny_pyIter_rangeiter st h
section
variable {X:Cx}{tg:Expr}
def Ri (K:a0)(tl:TE):TI:=λσ H R=>tl σ H λx H1=>UU x (λa=>∃xs,aI K H1 a xs) λa=>R (jN K a) H1
def Wy (K:a0)(tl:TE):TI:=λσ H R=>tl σ H λx H1=>UU x (λa=>∃xs,aT K H1 a xs) λa=>R (oV K a) H1
def aP {l:Expr}{tl:TE}(hl:PE X l tl):PI X tg l (Ri X.K tl):=by
 intro ag s σ H R I h;refine df (hl ag s σ H _ I h) λv s1 bL=>?_;obtain⟨x,H1,I1,r1,q1⟩:=bL;obtain⟨a,e,⟨xs,hq⟩,q⟩:=q1;subst e;cases r1;obtain⟨aU,rv,p,hz⟩:=I1.list hq;refine mN p.isList ?_;refine⟨s1.heap.objs.size,[s1.heap.objs.size],_,_,H1,rfl,I1.kept (t':=s1.toks) λb o e=>bW _ e,CL a _,⟨_,cJ _ rfl,rfl,rfl⟩,λb hb=>?_,q⟩;have e:b=s1.heap.objs.size:=by simpa using hb
 subst e;exact I1.xu (aK _) (I1.cw.fresh (aK _))
def d7 {l:Expr}{tl:TE}(hl:PE X l tl):PI X tg l (Wy X.K tl):=by
 intro ag s σ H R I h;refine df (hl ag s σ H _ I h) λv s1 bL=>?_;obtain⟨x,H1,I1,r1,q1⟩:=bL;obtain⟨a,e,⟨xs,hq⟩,q⟩:=q1;subst e;cases r1;obtain⟨aU,rv,p,hz⟩:=I1.tuple hq;refine vW (show s1.heap.IsTuple a aU.toArray from p) ?_;refine⟨s1.heap.objs.size,[s1.heap.objs.size],_,_,H1,rfl,I1.kept (t':=s1.toks) λb o e=>bW _ e,zX a _,⟨_,cJ _ rfl,rfl,rfl⟩,λb hb=>?_,q⟩;have e:b=s1.heap.objs.size:=by simpa using hb
 subst e;exact I1.xu (aK _) (I1.cw.fresh (aK _))
def Fx {ag:List (Addr×Obj)}{σ:St}{H:Hp}{s:Shared}{R:It->Hp->Prop}{E:Value->Shared->Prop}{lo hi:Int}{t u v:Tok}{tk:Nat}(I:Inv X ag σ H s)(h1:-(2 ^ 62)<=lo)(h2:lo < 2 ^ 62)(h3:-(2 ^ 62)<=hi)(h4:hi < 2 ^ 62)
  (q:R (PH lo (hi - lo).toNat) H):wpAny (model X.prog X.w) X.A (pyIter (.ref s.heap.objs.size)) (PIE X ag σ tg R) E { s with heap:=s.heap.push { cls:=.type "range",data:=.fields #[.int lo t,.int hi u,.int 1 v] },toks:=tk }:=by
 refine wpAny_pyIter_range (IsRange.new ..) (small_one h1 h2 h3 h4) ?_;have I1:Inv X ag σ H { s with heap:=s.heap.push { cls:=.type "range",data:=.fields #[.int lo t,.int hi u,.int 1 v] },toks:=tk }:=I.kept λb o e=>bW _ e;refine⟨(s.heap.push { cls:=.type "range",data:=.fields #[.int lo t,.int hi u,.int 1 v] }).objs.size,[(s.heap.push { cls:=.type "range",data:=.fields #[.int lo t,.int hi u,.int 1 v] }).objs.size],_,_,H,rfl,
  I1.kept (t':=tk) λb o e=>bW _ e,zY _ lo (hi - lo).toNat,?_,λb hb=>?_,q⟩
 .have e1:lo+((0:Nat):Int) * 1=lo:=by simp
  have e2:(((hi - lo).toNat:Nat):Int) - ((0:Nat):Int)=Builtin.Range.rangeSize lo hi 1:=by rw [rangeSize_one];split <;> omega
  show IsRangeIter _ _ (lo+((0:Nat):Int) * 1) ((((hi - lo).toNat:Nat):Int) - ((0:Nat):Int)) 1;rw [e1,e2];exact cJ _ rfl
 have e:b=(s.heap.push { cls:=.type "range",data:=.fields #[.int lo t,.int hi u,.int 1 v] }).objs.size:=by simpa using hb
 subst e;exact I1.xu (aK _) (I1.cw.fresh (aK _))
def Rh (ta:TA):TI:=λσ H R=>ta σ H λvs H1=>XRg vs λj=>R (PH 0 j.toNat) H1
def iI {a:Expr}{ta:TA}{p pos:Pos}(hg:Gl X "range")(hm:X.mg "range"=none)(ha:PA X [a] ta)(hs:starEach [a] X.env=[(false,eval a X.env)]:=by rfl):PI X tg (.Call (.Name "range" p) [a] [] pos) (Rh ta):=by
 intro ag s σ H R I h;refine Call_ (iW I hg hm boot_range (xU (df (ha pos ag s σ H _ I h) λus s1 bL=>?_) hs rfl));obtain⟨vs,H1,I1,r1,q1⟩:=bL;obtain⟨j,e,q1,q2,q⟩:=q1;subst e;cases r1 with
 | cons r rr =>
  cases rr;obtain⟨t,rfl⟩:=r;exact call_range_1 (Fx I1 ∅ ∅ q1 q2 (by simpa using q))
def Vq (wi:TI)(g:TG)(tb:TS):TS:=λD σ H=>wi σ H λJ H1=>∃W:Nat->Nat->St->Hp->Prop,(∃m,W 0 m σ H1)/\∀i m σ H,W i m σ H ->
 (J.stop i H/\D.nx σ H)\/(J.go i H/\∃N:St->Hp->Prop,(∀σ' H',N σ' H'->∃m',m' < m/\W (i+1) m' σ' H')/\∀x H',J.mT i H x H'->g x σ H' λσ2 H2=>tb { D with nx:=N,ct:=N,bk:=D.nx } σ2 H2)
def pT (fp:List Addr)(h:Heap):List (Addr×Obj):=fp.filterMap λb=>(h.get? b).map λo=>(b,o)
def ic {fp:List Addr}{h:Heap}{b:Addr}{o:Obj}(hb:b∈fp)(e:h.get? b=some o):(b,o)∈pT fp h:=List.mem_filterMap.mpr ⟨b,hb,by rw [e];rfl⟩
def C8 {fp:List Addr}{h:Heap}{p:Addr×Obj}(hp:p∈pT fp h):p.1∈fp/\h.get? p.1=some p.2:=by
 obtain⟨b,hb,e⟩:=List.mem_filterMap.mp hp;cases q:h.get? b with
 | none=>rw [q] at e;cases e
 | some o =>
  rw [q] at e;have e':(b,o)=p:=gi e;subst e';exact⟨hb,q⟩
def Inv.pinned {ag:List (Addr×Obj)}{σ:St}{H:Hp}{s:Shared}{fp:List Addr}(I:Inv X ag σ H s)(hf:∀b∈fp,xS X ag H b)(ho:∀b∈fp,∃o,s.heap.get? b=some o/\∀v,o.data≠.cell v):Inv X (ag++pT fp s.heap) σ H s :=
 I.B7 λp hp=>(bY.mp hp).elim (λz=>I.pin p (dD _ z)) λz=>by
  obtain⟨hb,e⟩:=C8 z;obtain⟨f0,f1,f2,_⟩:=hf p.1 hb;obtain⟨o,e',d⟩:=ho p.1 hb;rw [e] at e';cases e';exact⟨e,f0,f1,f2,d⟩
def Inv.kW {ag pl:List (Addr×Obj)}{σ:St}{H:Hp}{s:Shared}(I:Inv X (ag++pl) σ H s):Inv X ag σ H s:=I.B7 λp hp=>I.pin p (dD _ (dH _ hp))
def bD {iter:Expr}{body:List Stmt}{wi:TI}{g:TG}{tb:TS}{pos:Pos}(hp:PassesOwn (model X.prog X.w) X.A X.env X.xe)(hc:X.calm=true)(hi:PI X tg iter wi)(hg:PG X tg g)(hb:Bp X body tb)
  (hs:∀x,foldedSetIterable iter X.env x=pure x:=by intro _;rfl):PS X (.For tg iter body [] pos) (Vq wi g tb):=by
 intro ag s σ H D I h;refine wpAny_For (df (hi ag s σ H _ I h) λv s1 h1=>df h1 λT9 s2 h2=>?_) hs;obtain⟨it,fp,tn,J,H2,e,I2,T,Ej,f2,W,⟨m0,w0⟩,turn⟩:=h2;subst e;have sj:∀{H':Hp},(∀b∈fp,H' b=none)->∀b∈fp,xS X ag H' b:=λhn b hb=>⟨hn b hb,(f2 b hb).2⟩;refine codeAny_forLoop_any (λn s'=>∃i σ' H',Inv X ag σ' H' s'/\tn i s'.heap/\(∀b∈fp,H' b=none)/\W i n σ' H') ?_ m0 ⟨0,σ,H2,I2,Ej,λb hb=>(f2 b hb).1,w0⟩;rintro n s3 ⟨i,σ3,H3,I3,Qj,fr3,w3⟩;rcases turn i n σ3 H3 w3 with ⟨stop,qn⟩ | ⟨go,N,hN,step⟩
 .refine mJ hp (df (T.done X rfl rfl rfl hc i ag s3 σ3 H3 X.xe I3 (sj fr3) Qj stop) λr s4 ⟨hr,I4⟩=>?_);subst hr;exact wpAny_execs_nil ⟨σ3,H3,I4,qn⟩
 refine mJ hp (df (T.item X rfl rfl rfl hc i ag s3 σ3 H3 X.xe I3 (sj fr3) Qj go) λr s4 ⟨u,hr,h4⟩=>?_);subst hr;refine mJ hp (df h4 λ_ s5 bL=>?_);obtain⟨x,H5,I5,r5,y5,CP,Sb⟩:=bL;have I5':=I5.pinned (sj Sb) (T.obj _ _ CP);refine mJ hp (df (hg _ s5 σ3 H5 x u _ I5' r5 (step x H5 y5)) λ_ s6 bL=>?_);obtain⟨σ6,H6,I6,q6⟩:=bL;refine mJ hp (df (hb _ s6 σ6 H6 _ I6 q6) λf s7 q7=>?_);have again:∀{σ7:St}{H7:Hp},Inv X (ag++pT fp s5.heap) σ7 H7 s7->N σ7 H7->∃m,m < n/\∃i σ' H',Inv X ag σ' H' s7/\tn i s7.heap/\(∀b∈fp,H' b=none)/\W i m σ' H':=λ{σ7 H7} I7 n7=>by
  obtain⟨m',hm,w7⟩:=hN σ7 H7 n7;refine⟨m',hm,i+1,σ7,H7,I7.kW,T.keep _ _ _ CP λb hb o e=>(I7.pin (b,o) (dD _ (dD _ (ic hb e)))).1,λb hb=>?_,w7⟩;obtain⟨o,e,d⟩:=T.obj _ _ CP b hb;exact(I7.pin (b,o) (dD _ (dD _ (ic hb e)))).2.1
 cases f with
 | next=>obtain⟨σ7,H7,I7,n7⟩:=q7;exact again I7 n7
 | cont=>obtain⟨σ7,H7,I7,n7⟩:=q7;exact again I7 n7
 | brk=>obtain⟨σ7,H7,I7,q7⟩:=q7;exact⟨σ7,H7,I7.kW,q7⟩
 | ret v=>obtain⟨x7,σ7,H7,I7,r7,q7⟩:=q7;exact⟨x7,σ7,H7,I7.kW,r7,q7⟩
end
def bZ {K:a0}{a:Addr}{xs:List V}{g:TG}{tb:TS}{D:Ends}{σ:St}{H:Hp}(Pv:Nat->St->Hp->Prop)(h0:Pv 0 σ H)(hl:∀i σ H,i<=xs.length->Pv i σ H->aI K H a xs)
  (hs:∀i x σ H,xs[i]?=some x->Pv i σ H->g x σ H λσ2 H2=>tb { D with nx:=Pv (i+1),ct:=Pv (i+1),bk:=D.nx } σ2 H2)(hd:∀σ H,Pv xs.length σ H->D.nx σ H) :
  ∃W:Nat->Nat->St->Hp->Prop,(∃m,W 0 m σ H)/\∀i m σ H,W i m σ H ->
   ((jN K a).stop i H/\D.nx σ H)\/((jN K a).go i H/\∃N:St->Hp->Prop,(∀σ' H',N σ' H'->∃m',m' < m/\W (i+1) m' σ' H')/\∀x H',(jN K a).mT i H x H'->g x σ H' λσ2 H2=>tb { D with nx:=N,ct:=N,bk:=D.nx } σ2 H2):=by
 refine⟨λi m σ H=>m=xs.length - i/\i<=xs.length/\Pv i σ H,⟨xs.length,by simp,fj _,h0⟩,?_⟩;rintro i m σ H ⟨rfl,hi,p⟩;have q:=hl i σ H hi p;by_cases j8:i < xs.length
 .refine .inr ⟨⟨xs,xs[i],q,by simp [j8]⟩,Pv (i+1),λσ' H' p'=>⟨xs.length - (i+1),∅,rfl,j8,p'⟩,λx H' y=>?_⟩;obtain⟨e,y⟩:=y;subst e;exact hs i x σ _ (y xs q) p
 have e:i=xs.length:=by omega
 subst e;exact .inl ⟨⟨xs,q,aK _⟩,hd σ H p⟩
def xy {K:a0}{a:Addr}{xs:List V}{g:TG}{tb:TS}{D:Ends}{σ:St}{H:Hp}(Pv:Nat->St->Hp->Prop)(h0:Pv 0 σ H)(hl:∀i σ H,i<=xs.length->Pv i σ H->aT K H a xs)
  (hs:∀i x σ H,xs[i]?=some x->Pv i σ H->g x σ H λσ2 H2=>tb { D with nx:=Pv (i+1),ct:=Pv (i+1),bk:=D.nx } σ2 H2)(hd:∀σ H,Pv xs.length σ H->D.nx σ H) :
  ∃W:Nat->Nat->St->Hp->Prop,(∃m,W 0 m σ H)/\∀i m σ H,W i m σ H ->
   ((oV K a).stop i H/\D.nx σ H)\/((oV K a).go i H/\∃N:St->Hp->Prop,(∀σ' H',N σ' H'->∃m',m' < m/\W (i+1) m' σ' H')/\∀x H',(oV K a).mT i H x H'->g x σ H' λσ2 H2=>tb { D with nx:=N,ct:=N,bk:=D.nx } σ2 H2):=by
 refine⟨λi m σ H=>m=xs.length - i/\i<=xs.length/\Pv i σ H,⟨xs.length,by simp,fj _,h0⟩,?_⟩;rintro i m σ H ⟨rfl,hi,p⟩;have q:=hl i σ H hi p;by_cases j8:i < xs.length
 .refine .inr ⟨⟨xs,xs[i],q,by simp [j8]⟩,Pv (i+1),λσ' H' p'=>⟨xs.length - (i+1),∅,rfl,j8,p'⟩,λx H' y=>?_⟩;obtain⟨e,y⟩:=y;subst e;exact hs i x σ _ (y xs q) p
 have e:i=xs.length:=by omega
 subst e;exact .inl ⟨⟨xs,q,aK _⟩,hd σ H p⟩
def iJ {lo:Int}{n:Nat}{g:TG}{tb:TS}{D:Ends}{σ:St}{H:Hp}(Pv:Nat->St->Hp->Prop)(h0:Pv 0 σ H)
  (hs:∀i σ H,i < n->Pv i σ H->g (.int (lo+i)) σ H λσ2 H2=>tb { D with nx:=Pv (i+1),ct:=Pv (i+1),bk:=D.nx } σ2 H2)(hd:∀σ H,Pv n σ H->D.nx σ H) :
  ∃W:Nat->Nat->St->Hp->Prop,(∃m,W 0 m σ H)/\∀i m σ H,W i m σ H ->
   ((PH lo n).stop i H/\D.nx σ H)\/((PH lo n).go i H/\∃N:St->Hp->Prop,(∀σ' H',N σ' H'->∃m',m' < m/\W (i+1) m' σ' H')/\∀x H',(PH lo n).mT i H x H'->g x σ H' λσ2 H2=>tb { D with nx:=N,ct:=N,bk:=D.nx } σ2 H2):=by
 refine⟨λi m σ H=>m=n - i/\i<=n/\Pv i σ H,⟨n,by simp,fj _,h0⟩,?_⟩;rintro i m σ H ⟨rfl,hi,p⟩;by_cases j8:i < n
 .refine .inr ⟨j8,Pv (i+1),λσ' H' p'=>⟨n - (i+1),∅,rfl,j8,p'⟩,λx H' y=>?_⟩;obtain⟨e,y⟩:=y;subst e y;exact hs i σ _ j8 p
 have e:i=n:=by omega
 subst e;exact .inl ⟨aK _,hd σ H p⟩
abbrev R2:=V->V->Hp->VK->Prop
def l_ (X:Cx)(f:Value->Value->Sem Value)(r:R2):Prop :=
 ∀(ag:List (Addr×Obj))(s:Shared)(σ:St)(H:Hp)(x y:V)(v u:Value)(Q:VK),Inv X ag σ H s->RelV x v->RelV y u->r x y H Q ->
  wpAny (model X.prog X.w) X.A (f v u) (EP X ag σ Q) X.xe s
def YT (X:Cx)(f:Value->Sem Value)(r:V->Hp->VK->Prop):Prop :=
 ∀(ag:List (Addr×Obj))(s:Shared)(σ:St)(H:Hp)(x:V)(v:Value)(Q:VK),Inv X ag σ H s->RelV x v->r x H Q ->
  wpAny (model X.prog X.w) X.A (f v) (EP X ag σ Q) X.xe s
def gN (X:Cx)(f:Value)(r:List V->Hp->VK->Prop):Prop :=
 ∀(ag:List (Addr×Obj))(s:Shared)(σ:St)(H:Hp)(xs:List V)(us:List Value)(Q:VK),Inv X ag σ H s->ba xs us->r xs H Q ->
  wpAny (model X.prog X.w) X.A (call f us) (EP X ag σ Q) X.xe s
def YU (X:Cx)(r:V->Hp->(Bool->Hp->Prop)->Prop):Prop :=
 ∀(ag:List (Addr×Obj))(s:Shared)(σ:St)(H:Hp)(x:V)(v:Value)(Q:Bool->Hp->Prop),Inv X ag σ H s->RelV x v->r x H Q ->
  wpAny (model X.prog X.w) X.A (truthy v) (TP X ag σ Q) X.xe s
def TB (r:R2)(ta tb:TE):TE:=λσ H Q=>ta σ H λx H1=>tb σ H1 λy H2=>r x y H2 Q
def tUn (r:V->Hp->VK->Prop)(ta:TE):TE:=λσ H Q=>ta σ H λx H1=>r x H1 Q
def rI (C:Int->Int->Prop)(g:Int->Int->V):R2:=λx y H Q=>XI2 x y C λi j=>Q (g i j) H
def MS (g:Int->Int->V):R2:=λx y H Q=>XI0 x y λi j=>Q (g i j) H
def rU (g:Int->V):V->Hp->VK->Prop:=λx H Q=>YO x λi=>Q (g i) H
section
variable {X:Cx}{a b c:Expr}{ta tb tc:TE}{pos:Pos}
def Ow (ha:PE X a ta)(hb:PE X b tb){ag:List (Addr×Obj)}{s:Shared}{σ:St}{H:Hp}{R:V->V->Hp->Prop}(I:Inv X ag σ H s)
  (h:ta σ H λx H1=>tb σ H1 λy H2=>R x y H2){Q:Value->Shared->Prop}{f:Value->Value->Sem Value}
  (hf:∀v u s2 x y H2,Inv X ag σ H2 s2->RelV x v->RelV y u->R x y H2->wpAny (model X.prog X.w) X.A (f v u) Q X.xe s2) :
  wpAny (model X.prog X.w) X.A (eval a X.env) (λv s₁=>wpAny (model X.prog X.w) X.A (eval b X.env) (λu s₂=>wpAny (model X.prog X.w) X.A (f v u) Q X.xe s₂) X.xe s₁) X.xe s:=by
 refine df (ha ag s σ H _ I h) λv s1 bL=>?_;obtain⟨x,H1,I1,r1,q1⟩:=bL;refine df (hb ag s1 σ H1 _ I1 q1) λu s2 bL=>?_;obtain⟨y,H2,I2,r2,q2⟩:=bL;exact hf v u s2 x y H2 I2 r1 r2 q2
def aL {op:Operator}{r:R2}(ho:l_ X (binaryOp op) r)(ha:PE X a ta)(hb:PE X b tb):PE X (.BinOp a op b pos) (TB r ta tb):=by
 intro ag s σ H Q I h;exact wpAny_BinOp (Ow ha hb I h λv u s2 x y H2 I2 rx ry q=>ho ag s2 σ H2 x y v u Q I2 rx ry q)
def u4 {op:UnaryOp}{r:V->Hp->VK->Prop}(ho:YT X (unaryOp op) r)(ha:PE X a ta):PE X (.UnaryOp op a pos) (tUn r ta):=by
 intro ag s σ H Q I h;refine UnaryOp_ (df (ha ag s σ H _ I h) λv s1 bL=>?_);obtain⟨x,H1,I1,r1,q1⟩:=bL;exact ho ag s1 σ H1 x v Q I1 r1 q1
def VP {f:Value->Value->Sem Value}{C:Int->Int->Prop}{g:Int->Int->Int}
  (rule:∀(i j:Int)(t u:Tok)(s:Shared)(Q:Value->Shared->Prop)(E:Value->Shared->Prop),C i j->Q (.int (g i j) s.toks) { s with toks:=s.toks+1 }->wpAny (model X.prog X.w) X.A (f (.int i t) (.int j u)) Q E s) :
  l_ X f (rI C λi j=>.int (g i j)):=by
 intro ag s σ H x y v u Q I rx ry h;obtain⟨i,j,rfl,rfl,hc,q⟩:=h;obtain⟨t,rfl⟩:=rx;obtain⟨t',rfl⟩:=ry;exact rule i j t t' s _ _ hc ⟨.int (g i j),H,I.tok _,⟨_,rfl⟩,q⟩
def QH {f:Value->Value->Sem Value}{g:Int->Int->Int}
  (rule:∀(i j:Int)(t u:Tok)(s:Shared)(Q:Value->Shared->Prop)(E:Value->Shared->Prop),Q (.int (g i j) s.toks) { s with toks:=s.toks+1 }->wpAny (model X.prog X.w) X.A (f (.int i t) (.int j u)) Q E s) :
  l_ X f (MS λi j=>.int (g i j)):=by
 intro ag s σ H x y v u Q I rx ry h;obtain⟨i,j,rfl,rfl,q⟩:=h;obtain⟨t,rfl⟩:=rx;obtain⟨t',rfl⟩:=ry;exact rule i j t t' s _ _ ⟨.int (g i j),H,I.tok _,⟨_,rfl⟩,q⟩
def M4 {f:Value->Value->Sem Value}{g:Int->Int->Bool}
  (rule:∀(i j:Int)(t u:Tok)(s:Shared)(Q:Value->Shared->Prop)(E:Value->Shared->Prop),Q (.bool (g i j)) s->wpAny (model X.prog X.w) X.A (f (.int i t) (.int j u)) Q E s) :
  l_ X f (MS λi j=>.bl (g i j)):=by
 intro ag s σ H x y v u Q I rx ry h;obtain⟨i,j,rfl,rfl,q⟩:=h;obtain⟨t,rfl⟩:=rx;obtain⟨t',rfl⟩:=ry;exact rule i j t t' s _ _ ⟨.bl (g i j),H,I,rfl,q⟩
def Y4 (i j:Int):Prop:=0 < j/\j < 1073741824
def OO (i j:Int):Prop:=(-(2 ^ 64) < i/\i < 2 ^ 64)\/(-(2 ^ 64) < j/\j < 2 ^ 64)
def OO.ok {i j:Int}(h:OO i j):IntMulOk i j:=by
 rcases h with ⟨h1,h2⟩ | ⟨h1,h2⟩
 .exact .of_left (intBits_le_64 h1 h2)
 exact .of_right (intBits_le_64 h1 h2)
def d_:l_ X (binaryOp .Add) (MS λi j=>.int (i+j)):=QH λ_ _ _ _ _ _ _ q=>add_int q
def FO:l_ X (binaryOp .Sub) (MS λi j=>.int (i - j)):=QH λ_ _ _ _ _ _ _ q=>sub_int q
def MZ:l_ X (binaryOp .Mult) (rI OO λi j=>.int (i * j)):=VP λ_ _ _ _ _ _ _ hc q=>mul_int q hc.ok
def cW:l_ X (binaryOp .FloorDiv) (rI Y4 λi j=>.int (i / j)):=VP λi j _ _ _ _ _ hc q=>by
 have h1:(0:Int) < j:=hc.1;have h2:j < 1073741824:=hc.2;exact floordiv_int ∅ (by rw [Int.fdiv_eq_ediv_of_nonneg i ∅];exact q) (.inl (PyProof.noPylong_small ∅))
def cS:l_ X (binaryOp .Mod) (rI (λ_ j=>0 < j) λi j=>.int (i % j)):=VP λi j _ _ _ _ _ hc q=>by
 have h1:(0:Int) < j:=hc;exact mod_int' ∅ (by rw [Int.fmod_eq_emod_of_nonneg i ∅];exact q)
def unI {f:Value->Sem Value}{g:Int->Int}
  (rule:∀(i:Int)(t:Tok)(s:Shared)(Q:Value->Shared->Prop)(E:Value->Shared->Prop),Q (.int (g i) s.toks) { s with toks:=s.toks+1 }->wpAny (model X.prog X.w) X.A (f (.int i t)) Q E s) :
  YT X f (rU λi=>.int (g i)):=by
 intro ag s σ H x v Q I rx h;obtain⟨i,rfl,q⟩:=h;obtain⟨t,rfl⟩:=rx;exact rule i t s _ _ ⟨.int (g i),H,I.tok _,⟨_,rfl⟩,q⟩
def pJ:YT X (unaryOp .USub) (rU λi=>.int (-i)):=unI λ_ _ _ _ _ q=>neg_int q
end
def Vy:V->V->Bool
 | .gb,.gb=>true | .gb,.int _=>true | .int _,.gb=>true | .gb,.bl _=>true | .bl _,.gb=>true | .gb,.str _=>true | .str _,.gb=>true
 | .int _,.int _=>true | .bl _,.bl _=>true | .str _,.str _=>true | .DT _,.DT _=>true
 | .int _,.str _=>true | .str _,.int _=>true | .bl _,.str _=>true | .str _,.bl _=>true
 | _,_=>false
def rEq:R2:=λx y H Q=>Vy x y=true/\Q (.bl (decide (x=y))) H
def Kb {i j:Int}:decide (V.int i=V.int j)=(i == j):=by
 rw [ju];simp
def Ol {i j:Bool}:decide (V.bl i=V.bl j)=(i == j):=by
 rw [ju];simp
def Ka {i j:Str}:decide (V.str i=V.str j)=(i == j):=by
 rw [ju];simp
def Kc {i j:Array UInt8}:decide (V.DT i=V.DT j)=(i.toList == j.toList):=by
 rw [ju];cases i;cases j;simp
section
variable {X:Cx}{a b c:Expr}{ta tb tc:TE}{pos:Pos}
def gF {ag:List (Addr×Obj)}{σ:St}{H:Hp}{s:Shared}{Q:VK}{k k':Bool}(I:Inv X ag σ H s)(q:Q (.bl k) H)(e:k=k'):EP X ag σ Q (.bool k') s:=by
 subst e;exact⟨.bl k,H,I,rfl,q⟩
def jc:l_ X (compareOp .Eq) rEq:=by
 intro ag s σ H x y v u Q I rx ry h;obtain⟨hs,q⟩:=h;cases x with
 | gb =>
  cases rx;cases y with
  | gb=>cases ry;exact PySem.EqNone.eq_none_none (gF I q (by simp))
  | bl j=>cases ry;exact PySem.EqNone.eq_none_bool (gF I q (by simp))
  | int j=>obtain⟨t',rfl⟩:=ry;exact PySem.EqNone.eq_none_int (gF I q (by simp))
  | str j=>obtain⟨t',rfl⟩:=ry;exact PySem.EqNone.eq_none_str (gF I q (by simp))
  | _=>exact absurd (show false=true from hs) dC
 | bl i =>
  cases rx;cases y with
  | gb=>cases ry;exact PySem.EqNone.eq_bool_none (gF I q (by simp))
  | bl j=>cases ry;exact eq_bool (gF I q Ol)
  | str j=>obtain⟨t',rfl⟩:=ry;exact PySem.EqMixed.eq_bool_str (gF I q (by simp))
  | _=>exact absurd (show false=true from hs) dC
 | int i =>
  obtain⟨t,rfl⟩:=rx;cases y with
  | gb=>cases ry;exact PySem.EqNone.eq_int_none (gF I q (by simp))
  | int j=>obtain⟨t',rfl⟩:=ry;exact eq_int (gF I q Kb)
  | str j=>obtain⟨t',rfl⟩:=ry;exact PySem.EqMixed.eq_int_str (gF I q (by simp))
  | _=>exact absurd (show false=true from hs) dC
 | str i =>
  obtain⟨t,rfl⟩:=rx;cases y with
  | gb=>cases ry;exact PySem.EqNone.eq_str_none (gF I q (by simp))
  | bl j=>cases ry;exact PySem.EqMixed.eq_str_bool (gF I q (by simp))
  | int j=>obtain⟨t',rfl⟩:=ry;exact PySem.EqMixed.eq_str_int (gF I q (by simp))
  | str j=>obtain⟨t',rfl⟩:=ry;exact eq_str (gF I q Ka)
  | _=>exact absurd (show false=true from hs) dC
 | DT i =>
  obtain⟨t,rfl⟩:=rx;cases y with
  | DT j=>obtain⟨t',rfl⟩:=ry;exact PySem.W.eq_bytes (gF I q Kc)
  | _=>exact absurd (show false=true from hs) dC
 | _=>cases y <;> exact absurd (show false=true from hs) dC
def qv:l_ X (compareOp .Lt) (MS λi j=>.bl (decide (i < j))):=M4 λ_ _ _ _ _ _ _ q=>lt_int q
def KW:l_ X (compareOp .LtE) (MS λi j=>.bl (decide (i<=j))):=M4 λ_ _ _ _ _ _ _ q=>le_int q
def FQ:l_ X (compareOp .Gt) (MS λi j=>.bl (decide (j < i))):=M4 λ_ _ _ _ _ _ _ q=>gt_int q
def l_.or {f:Value->Value->Sem Value}{r r':R2}(h:l_ X f r)(h':l_ X f r'):l_ X f (λx y H Q=>r x y H Q\/r' x y H Q):=by
 intro ag s σ H x y v u Q I rx ry q;rcases q with q | q
 .exact h ag s σ H x y v u Q I rx ry q
 exact h' ag s σ H x y v u Q I rx ry q
def cM (b:Expr){op:CmpOp}(h:op≠.In:=by decide)(h2:op≠.NotIn:=by decide):behindInMarks op b=false:=by
 have e1:(op == CmpOp.In)=false:=by cases op <;> first | rfl | exact absurd rfl h
 have e2:(op == CmpOp.NotIn)=false:=by cases op <;> first | rfl | exact absurd rfl h2
 cases b <;> simp [behindInMarks,e1,e2]
def fc {op:CmpOp}{r:R2}(ho:l_ X (compareOp op) r)(ha:PE X a ta)(hb:PE X b tb)(hm:behindInMarks op b=false):PE X (.Compare a [op] [b] pos) (TB r ta tb):=by
 intro ag s σ H Q I h;exact wpAny_Compare1 (Ow ha hb I h λv u s2 x y H2 I2 rx ry q=>ho ag s2 σ H2 x y v u Q I2 rx ry q) hm
def PZ (t:TE):TT:=λσ H Q=>t σ H λx H'=>XB x λk=>Q k H'
def bu {op:CmpOp}{r:R2}(ho:l_ X (compareOp op) r)(ha:PE X a ta)(hb:PE X b tb)(hm:behindInMarks op b=false):PT X (.Compare a [op] [b] pos) (PZ (TB r ta tb)):=by
 intro ag s σ H Q I h;refine wpAny_isTrue_Compare1 (df (ha ag s σ H _ I h) λv s1 ⟨x,H1,I1,r1,q1⟩=>df (hb ag s1 σ H1 _ I1 q1) λu s2 ⟨y,H2,I2,r2,q2⟩ =>
  df (ho ag s2 σ H2 x y v u _ I2 r1 r2 q2) λc s3 ⟨z,H3,I3,r3,k,e,q3⟩=>?_) hm
 subst e;cases r3;exact mP ⟨H3,I3,q3⟩
def HN (K:a0)(x:V)(H:Hp)(k:Bool):Prop :=
 match x with
 | .gb=>k=false
 | .bl b=>k=b
 | .int i=>k=(i != 0)
 | .str y=>y.length<=sizeLine/\k=((y.length:Int) != 0)
 | .DT y=>y.size<=sizeLine/\k=((y.size:Int) != 0)
 | .ref p=>(∃xs,aI K H p xs/\k=!xs.isEmpty)\/(∃xs,aT K H p xs/\k=!xs.isEmpty)\/∃kvs,H p=some (.dK kvs)/\k=!kvs.isEmpty
 | _=>False
def AV {κ:Type}{kvs:List (κ×V)}{vs:List (κ×Value)}(r:KV kvs vs):(!vs.isEmpty)=!kvs.isEmpty:=by
 cases r <;> rfl
def tq {xs:List V}{aU:List Value}(r:ba xs aU):(!aU.toArray.isEmpty)=!xs.isEmpty:=by
 cases r <;> simp
def xi:(sizeLine:Nat) < 2 ^ 63:=by rw [sizeLine_eq];decide
def Me:YU X (λx H Q=>∃k,HN X.K x H k/\Q k H):=by
 intro ag s σ H x v Q I rx h;obtain⟨k,e,q⟩:=h;have hl:=xi;have hs:sizeLine=16777216:=sizeLine_eq;cases x with
 | gb =>
  cases rx;have e':k=false:=e;subst e';exact truthy_none ⟨H,I,q⟩
 | bl b =>
  cases rx;have e':k=b:=e;subst e';exact mP ⟨H,I,q⟩
 | int i =>
  obtain⟨t,rfl⟩:=rx;have e':k=(i != 0):=e;subst e';exact PySem.P.truthy_int ⟨H,I,q⟩
 | str y =>
  obtain⟨t,rfl⟩:=rx;obtain⟨hy,e'⟩:y.length<=sizeLine/\k=((y.length:Int) != 0):=e;subst e';exact PySem.P.truthy_str ∅ ⟨H,I.tok _,q⟩
 | DT y =>
  obtain⟨t,rfl⟩:=rx;obtain⟨hy,e'⟩:y.size<=sizeLine/\k=((y.size:Int) != 0):=e;subst e';exact PySem.W.truthy_bytes ∅ ⟨H,I.tok _,q⟩
 | ref p =>
  cases rx;have e':(∃xs,aI X.K H p xs/\k=!xs.isEmpty)\/(∃xs,aT X.K H p xs/\k=!xs.isEmpty)\/∃kvs,H p=some (.dK kvs)/\k=!kvs.isEmpty:=e;rcases e' with ⟨xs,hx,e'⟩ | ⟨xs,hx,e'⟩ | ⟨kvs,hx,e'⟩
  .subst e';obtain⟨aU,r,pl,hz⟩:=I.list hx;have bM:=r.length;exact wpAny_truthy_list pl.isList (by simp only [cP];omega) ⟨H,I.tok _,by rw [tq r];exact q⟩
  .subst e';obtain⟨aU,r,pl,hz⟩:=I.tuple hx;have bM:=r.length;exact truthy_tuple pl (by simp only [cP];omega) ⟨H,I.tok _,by rw [tq r];exact q⟩
  subst e';obtain⟨hz,hS,vs,r,m⟩:kvs.length<=sizeLine/\(p == sysModules)=false/\∃vs,KV kvs vs/\s.heap.DictOf (bc X.prog X.w) p vs:=I.cw p _ hx;have bM:kvs.length=vs.length:=bI r;exact wpAny_truthy_dict hS m ∅ ⟨H,I.tok _,by rw [AV r];exact q⟩
 | _=>exact(show False from e).elim
def jA (ha:PE X a ta)(he:∀whole,isTrue a X.env whole=(do let v <-whole;standAt a.pos;holding [v] (truthy v))) :
  PT X a (λσ H Q=>ta σ H λx H'=>∃k,HN X.K x H' k/\Q k H'):=by
 intro ag s σ H Q I h;refine isTrue_plain (df (ha ag s σ H _ I h) λv s1 bL=>?_) (he _);obtain⟨x,H1,I1,r1,q1⟩:=bL;exact Me ag s1 σ H1 x v Q I1 r1 q1
def fw:l_ X (binaryOp .Add) (λx y H Q=>∃i j,x=.str i/\y=.str j/\i.length+j.length<=sizeLine/\Q (.str (i++j)) H):=by
 intro ag s σ H x y v u Q I rx ry h;obtain⟨i,j,rfl,rfl,hz,q⟩:=h;obtain⟨t,rfl⟩:=rx;obtain⟨t',rfl⟩:=ry;exact add_str (λt' tk=>⟨.str (i++j),H,I.tok _,⟨_,rfl⟩,q⟩) hz
def vals1 {x:V}{us:List Value}(r:ba [x] us):∃u,us=[u]/\RelV x u:=by
 cases r with
 | cons r1 r2=>cases r2;exact⟨_,rfl,r1⟩
def vals2 {x y:V}{us:List Value}(r:ba [x,y] us):∃u w',us=[u,w']/\RelV x u/\RelV y w':=by
 cases r with
 | cons r1 r2 =>
  cases r2 with
  | cons r3 r4=>cases r4;exact⟨_,_,rfl,r1,r3⟩
def vJ (hc:X.calm=true):gN X (.builtin "max") (λxs H Q=>∃i j,xs=[.int i,.int j]/\Q (.int (if j > i then j else i)) H):=by
 intro ag s σ H xs us Q I r h;obtain⟨i,j,rfl,q⟩:=h;obtain⟨u,w',rfl,⟨t,rfl⟩,⟨t',rfl⟩⟩:=vals2 r;refine max_two_ints (I.ok.hd hc) λh' tk k=>⟨_,H,I.kept k,?_,q⟩;by_cases hj:j > i
 .rw [aw hj,aw hj];exact⟨_,rfl⟩
 rw [ax hj,ax hj];exact⟨_,rfl⟩
def DR (hc:X.calm=true):gN X (.builtin "min") (λxs H Q=>∃i j,xs=[.int i,.int j]/\Q (.int (if j < i then j else i)) H):=by
 intro ag s σ H xs us Q I r h;obtain⟨i,j,rfl,q⟩:=h;obtain⟨u,w',rfl,⟨t,rfl⟩,⟨t',rfl⟩⟩:=vals2 r;refine min_two_ints (I.ok.hd hc) λh' tk k=>⟨_,H,I.kept k,?_,q⟩;by_cases hj:j < i
 .rw [aw hj,aw hj];exact⟨_,rfl⟩
 rw [ax hj,ax hj];exact⟨_,rfl⟩
def eG:gN X (.type "str") (λxs H Q=>∃i,xs=[.int i]/\i.natAbs.log2 < 1920/\Q (.str (toString i)) H):=by
 intro ag s σ H xs us Q I r h;obtain⟨i,rfl,hz,q⟩:=h;obtain⟨u,rfl,t,rfl⟩:=vals1 r;exact PySem.P.str_of_int hz ⟨.str _,H,I.tok _,⟨_,rfl⟩,q⟩
end
structure Bq (h:Heap)(x dx C:Addr)(mA:Str->Option Value):Prop where
 obj:h.get? x=some (PySem.W.instObj C dx)
 ns:h.Ns1 dx mA
 ne:dx≠x
def Dd {h:Heap}{dx:Addr}{mA:Str->Option Value}(n:h.Ns1 dx mA):∃od,h.get? dx=some od/\∀name,PySem.W.lookIn name od=some (mA name):=by
 obtain⟨o,es,ep,ho,hd,hk,_,hm⟩:=n;refine⟨o,ho,λname=>?_⟩;have e:=hm name;unfold nsFind findBy at e;rw [<-Array.find?_toList] at e;unfold PySem.W.lookIn;rw [hd];dsimp only
 split
 .rename_i y q
  rw [q] at e;exact congrArg some e
 rename_i q
 rw [q] at e;have a:es.toList.any (·.refKey)=false:=by
  rw [List.any_eq_false];intro y hy;obtain⟨z,t,JN⟩:=hk y (Array.mem_toList_iff.mp hy);simp [DictEntry.refKey,JN]
 have a':¬es.toList.any (·.refKey)=true:=by rw [a];exact dC
 rw [ax a'];exact congrArg some e
def Bq.look {h:Heap}{x dx C:Addr}{mA:Str->Option Value}(I:Bq h x dx C mA):∃od,PySem.W.InstAt h x (PySem.W.instObj C dx) C (some od)/\∀name,PySem.W.lookIn name od=some (mA name) :=
 let ⟨od,ho,hl⟩:=Dd I.ns
 ⟨od,⟨I.obj,rfl,rfl,ho⟩,hl⟩
section
variable {prog:Program}{w:World}{A:Around}{E:Value->Shared->Prop}{s:Shared}{K:a0}{x dx C f:Addr}{mA:Str->Option Value}{name:Str}{v:Value}
def get_map {expr:Bool}{Q:Value->Shared->Prop}(X:K.In s.heap)(I:Bq s.heap x dx C mA)(hg:PySem.W.plainGet K C name=true)(hh:PySem.W.hasDictIn K C=true)
  (ha:PySem.W.findIn K (.ref C) name=some none)(hv:mA name=some v)(hv':PySem.W.handedIn v=true)(h:Q v { s with toks:=s.toks+1 }) :
  wpAny (model prog w) A (getAttr (.ref x) name expr) Q E s:=by
 obtain⟨od,J,hl⟩:=I.look;exact PySem.W.get_value X J (PySem.W.plainGet_of hg).1 (PySem.W.findObj_own hh ha rfl (by rw [hl,hv])) hv' h
def G8 {pl:Sem Bool}{Q:Value×List Value->Shared->Prop}(X:K.In s.heap)(I:Bq s.heap x dx C mA)(hg:PySem.W.plainGet K C name=true)
  (hf:PySem.W.findIn K (.ref C) name=some (some (.ref f)))(ht:PySem.W.isFn K (.ref f)=true)(hv:mA name=none)(h:Q (.ref f,[.ref x]) s) :
  wpAny (model prog w) A (getMethod (.ref x) name pl) Q E s:=by
 obtain⟨od,J,hl⟩:=I.look;exact PySem.W.method_fn X J (PySem.W.plainGet_of hg).1 (PySem.W.plainGet_of hg).2 hf (beq_iff_eq.mp ht) (by show (PySem.W.lookIn name od).map (·.isSome)=some false;rw [hl,hv];rfl) h
def IP {ns:List Str}{Q:Unit->Shared->Prop}(X:K.In s.heap)(I:Bq s.heap x dx C mA)
  (hs:PySem.W.findIn K (.ref C) "__setattr__"=some (some (.builtin "object.__setattr__")))(hp:PySem.W.plainOver K C=true)(ht:PySem.W.takerIn K C name=some none)(hh:PySem.W.hasDictIn K C=true)
  (hw:PySem.Within mA ns)(hsz:ns.length<=sizeLine)
  (h:∀h',Bq h' x dx C (λy=>if y=name then some v else mA y)->Heap.SameBut dx s.heap h'->Q () { s with heap:=h',toks:=s.toks+2 }) :
  wpAny (model prog w) A (setAttr (.ref x) name v) Q E s:=by
 obtain⟨od,J,hl⟩:=I.look;refine PySem.W.set_plain X J hs (PySem.W.osa_open (s:={ s with toks:=s.toks+1 }) (r:=none) X J hp ht λb=>?_);obtain⟨cd,hc,Ds⟩:=PySem.W.any_some hh;have hx:s.heap.get? x=some ⟨.ref C,some dx,.plain,#[]⟩:=I.obj;refine ay (aD (ay (ay (wpAny_loadPart hx (ay (PySem.W.Looks.here (s:={ s with toks:=s.toks+1 }) (PySem.W.looks_clsIn X hc) ?_))))));rw [Ds];refine aD (a:=some dx) (ay (aD (ay ?_)));refine wpAny_nsSet1 (s:={ s with toks:=s.toks+1 }) I.ns λh' GU hs2=>?_;obtain⟨oD,esD,epD,hoD,hdD,hcD⟩:=GU.count (PySem.Within.cons name v hw);refine ay (wpAny_lookBehind hoD (by rw [hdD];exact pastItsLine_dict (eK hcD (by rw [dG];omega))) ?_);exact aD (h _ ⟨(hs2.2 _ (fk I.ne)).trans I.obj,GU,I.ne⟩ hs2)
def Gi {R:Result->Shared->Prop}{vs:List Value}{kw:List (Str×Value)}(X:K.In s.heap)(hm:PySem.W.makesIn K C=true)
  (hi:PySem.W.findIn K (.ref C) "__init__"=some (some (.ref f)))(hf:PySem.W.typeIn K (.ref f)=some (.type "function"))
  (h:codeAny (model prog w) (A.under (.builtin "type.__call__" ⟨.ref C::vs,kw⟩)) (.call (.ref f) ⟨.ref (s.heap.objs.size+1)::vs,kw⟩) (PySem.W.InitBack (s.heap.objs.size+1) R)
   { s with heap:=(s.heap.push PySem.W.emptyDict).push (PySem.W.instObj C s.heap.objs.size) }) :
  codeAny (model prog w) A (.call (.ref C) ⟨vs,kw⟩) R s:=by
 obtain⟨hh,g,d,t,os⟩:=s;exact PySem.W.make_core (PySem.W.makes_of X hm) (PySem.W.looks_findIn X hi) (λself=>PySem.W.bind_fn X self hf) (.inl rfl) h
end
def dQ (f:Str)(v:V):List (Str×V)->List (Str×V)
 | []=>[(f,v)]
 | (g,x)::r=>if g=f then (g,v)::r else (g,x)::dQ f v r
theorem qx (f g:Str)(v:V):∀fs:List (Str×V),(dQ f v fs).lookup g=if g=f then some v else fs.lookup g
 | []=>by
  show List.lookup g [(f,v)]=_;by_cases h:g=f
  .have hb:(g == f)=true:=beq_iff_eq.mpr h;simp only [List.lookup,hb,aw h]
  have hb:(g == f)=false:=kO.mpr h;simp only [List.lookup,hb,ax h]
 | (k,x)::r=>by
  have ih:=qx f g v r;rw [show dQ f v ((k,x)::r)=(if k=f then (k,v)::r else (k,x)::dQ f v r) from rfl];by_cases hk:k=f
  .rw [aw hk];by_cases h:g=k
   .have hb:(g == k)=true:=beq_iff_eq.mpr h;simp only [List.lookup,hb,aw (h.trans hk)]
   have hb:(g == k)=false:=kO.mpr h;simp only [List.lookup,hb,ax (λe:g=f=>h (e.trans hk.symm))]
  rw [ax hk];by_cases h:g=k
  .have hb:(g == k)=true:=beq_iff_eq.mpr h;simp only [List.lookup,hb,ax (λe:g=f=>hk (h.symm.trans e))]
  have hb:(g == k)=false:=kO.mpr h;simp only [List.lookup,hb];exact ih
theorem pW (f:Str)(v:V):∀fs:List (Str×V),f∈(dQ f v fs).map (·.1)/\∀g,g∈fs.map (·.1)->g∈(dQ f v fs).map (·.1)
 | []=>⟨by simp [dQ],λg h=>by simp at h⟩
 | (k,x)::r=>by
  obtain⟨i1,i2⟩:=pW f v r;rw [show dQ f v ((k,x)::r)=(if k=f then (k,v)::r else (k,x)::dQ f v r) from rfl];by_cases hk:k=f
  .rw [aw hk];subst hk;exact⟨by simp,λg h=>by simpa using h⟩
  rw [ax hk];refine⟨?_,λg h=>?_⟩
  .rw [cH];exact cu _ i1
  rw [cH] at h ⊢;rcases bO.mp h with e | e
  .exact bO.mpr (.inl e)
  exact cu _ (i2 g e)
theorem qy (f:Str)(v:V):∀fs:List (Str×V),(dQ f v fs).length<=fs.length+1
 | []=>by simp [dQ]
 | (k,x)::r=>by
  have ih:=qy f v r;rw [show dQ f v ((k,x)::r)=(if k=f then (k,v)::r else (k,x)::dQ f v r) from rfl];by_cases hk:k=f
  .rw [aw hk,dG,dG];omega
  rw [ax hk,dG,dG];omega
def ka.some_of {v:V}{o:Option Value}(r:ka (some v) o):∃u,o=some u/\RelV v u:=by
 cases o with
 | none=>exact(show False from r).elim
 | some u=>exact⟨u,rfl,r⟩
def ka.none_of {o:Option Value}(r:ka none o):o=none:=by
 cases o with
 | none=>rfl
 | some u=>exact(show False from r).elim
def Du {v:V}{u:Value}(r:RelV v u):PySem.W.handedIn u=true:=by
 cases v with
 | gb=>cases (show u=Value.none from r);rfl
 | bl b=>cases (show u=Value.bool b from r);rfl
 | int i=>obtain⟨t,e⟩:=(show ∃t,u=Value.int i t from r);cases e;rfl
 | str x=>obtain⟨t,e⟩:=(show ∃t,u=Value.str x t from r);cases e;rfl
 | DT b=>obtain⟨t,e⟩:=(show ∃t,u=Value.bytes b t from r);cases e;rfl
 | N4 b=>obtain⟨t,e⟩:=(show ∃t,u=Value.float b t from r);cases e;rfl
 | ref a=>cases (show u=Value.ref a from r);rfl
 | ty n=>cases (show u=Value.type n from r);rfl
section
variable {P:Program}{w:World}{H H':Hp}{h h':Heap}{a C dx:Addr}{fs Ir:List (Str×V)}
def xo (cw:mF P w H h)(e:H a=some (.ins C dx fs)):∃mA,Bq h a dx C mA/\(∀f,ka (fs.lookup f) (mA f))/\PySem.Within mA (fs.map (·.1))/\fs.length<=1000/\H dx=some (.own a):=by
 obtain⟨d,z,ne,ob,mA,n,r,q⟩:=(show cK P w H h a (.ins C dx fs) from cw a _ e);exact⟨mA,⟨ob,n,ne⟩,r,q,z,d⟩
end
structure Eh (K:a0)(C:Addr):Prop where
 pg:PySem.W.plainGet K C Str.empty=true
 hd:PySem.W.hasDictIn K C=true
 po:PySem.W.plainOver K C=true
 sa:PySem.W.findIn K (.ref C) "__setattr__"=some (some (.builtin "object.__setattr__"))
def Eh.get {K:a0}{C:Addr}(c:Eh K C)(f:Str):PySem.W.plainGet K C f=true:=c.pg
def dX (K:a0)(C:Addr)(f:Str):Prop:=PySem.W.findIn K (.ref C) f=some none
def dX.PX {K:a0}{C:Addr}{f:Str}(n:dX K C f):PySem.W.takerIn K C f=some none:=by
 unfold PySem.W.takerIn;rw [show PySem.W.findIn K (.ref C) f=some none from n];rfl
structure Con (K:a0)(C:Addr)(f:Str)(v:V)(u:Value):Prop where
 at_:PySem.W.findIn K (.ref C) f=some (some u)
 rel:RelV v u
 get:PySem.W.specialIn K u "__get__"=some none
 cp:PySem.W.copiedNames.contains f=false
structure Meth (K:a0)(C:Addr)(m:Str)(f:Addr):Prop where
 at_:PySem.W.findIn K (.ref C) m=some (some (.ref f))
 fn:PySem.W.isFn K (.ref f)=true
 kp:PySem.W.keepIn K (.ref f)=true
section
variable {X:Cx}{ag:List (Addr×Obj)}{σ:St}{H:Hp}{s:Shared}{a C dx:Addr}{fs:List (Str×V)}{f:Str}{v:V}{A:Around}{E:Value->Shared->Prop}
def A4 {b:Bool}{Q:Value->Shared->Prop}(I:Inv X ag σ H s)(e:H a=some (.ins C dx fs))(c:Eh X.K C)(n:dX X.K C f)(l:fs.lookup f=some v)
  (h:∀u s',Inv X ag σ H s'->RelV v u->Q u s'):wpAny (model X.prog X.w) A (getAttr (.ref a) f b) Q E s:=by
 obtain⟨mA,O,r,_,_,_⟩:=xo I.cw e;obtain⟨u,hu,ru⟩:=ka.some_of (v:=v) (o:=mA f) (by rw [<-l];exact r f);exact get_map I.zI O (c.get f) c.hd n hu (Du ru) (h u _ (I.tok _) ru)
def tH {m:Str}{g:Addr}{pl:Sem Bool}{Q:Value×List Value->Shared->Prop}(I:Inv X ag σ H s)(e:H a=some (.ins C dx fs))(c:Eh X.K C)(k:Meth X.K C m g)(l:fs.lookup m=none)
  (h:Q (.ref g,[.ref a]) s):wpAny (model X.prog X.w) A (getMethod (.ref a) m pl) Q E s:=by
 obtain⟨mA,O,r,_,_,_⟩:=xo I.cw e;have hn:mA m=none:=ka.none_of (by rw [<-l];exact r m);exact G8 I.zI O (c.get m) k.at_ k.fn hn h
def Aa {y:V}{u:Value}{Q:Unit->Shared->Prop}(I:Inv X ag σ H s)(e:H a=some (.ins C dx fs))(c:Eh X.K C)(n:dX X.K C f)(hl:fs.length < 1000)(ry:RelV y u)
  (h:∀s',Inv X ag σ (upd H a (.ins C dx (dQ f y fs))) s'->Q () s'):wpAny (model X.prog X.w) A (setAttr (.ref a) f u) Q E s:=by
 obtain⟨mA,O,r,wi,_,ho⟩:=xo I.cw e;have hz:(fs.map (·.1)).length<=sizeLine:=by rw [ar,sizeLine_eq];omega
 refine IP I.zI O c.sa c.po n.PX c.hd wi hz λh' O' sb=>h _ ?_;have hd:∃o,h'.get? dx=some o:=let ⟨o,_,_,e',_⟩:=O'.ns;⟨o,e'⟩;refine I.write (x:=a) (e:=dx) (by rw [e];exact True.intro) (.inr ho) (λb q hb z=>(sb.2 b hb).trans z) hd ?_;refine⟨by rw [ak O.ne];exact ho,?_,O.ne,O'.obj,_,O'.ns,λg=>?_,λg hg=>?_⟩
 .have:=qy f y fs;omega
 .show ka ((dQ f y fs).lookup g) (if g=f then some u else mA g);rw [qx];by_cases q:g=f
  .rw [aw q,aw q];exact ry
  rw [ax q,ax q];exact r g
 by_cases q:g=f
 .rw [q];exact(pW f y fs).1
 refine(pW f y fs).2 g (wi g λz=>hg ?_);show (if g=f then some u else mA g)=none;rw [ax q];exact z
def Inv.made (I:Inv X ag σ H s):Inv X ag σ (upd (upd H s.heap.objs.size (.own (s.heap.objs.size+1))) (s.heap.objs.size+1) (.ins C s.heap.objs.size []))
  { s with heap:=(s.heap.push PySem.W.emptyDict).push (PySem.W.instObj C s.heap.objs.size) }:=by
 have e1:(s.heap.push PySem.W.emptyDict).get? s.heap.objs.size=some PySem.W.emptyDict:=cJ s.heap rfl;have e2:((s.heap.push PySem.W.emptyDict).push (PySem.W.instObj C s.heap.objs.size)).get? (s.heap.objs.size+1)=some (PySem.W.instObj C s.heap.objs.size):=by
  have:=cJ (s.heap.push PySem.W.emptyDict) (o:=PySem.W.instObj C s.heap.objs.size) rfl;rwa [jt] at this
 have e3:(s.heap.push PySem.W.emptyDict).Ns s.heap.objs.size (λ_=>none):=⟨PySem.W.emptyDict,#[],_,e1,rfl,(λe he=>absurd he (by simp)),λ_=>rfl⟩;have I1:=I.laid (a:=s.heap.objs.size) (o:=.own (s.heap.objs.size+1)) (h':=s.heap.push PySem.W.emptyDict) (t':=s.toks) (λb u q=>bW _ q) (aK _) ⟨_,e1⟩;refine I1.laid (a:=s.heap.objs.size+1) (o:=.ins C s.heap.objs.size []) (t':=s.toks) (λb u q=>bW _ q) (Nat.le_of_eq (jt _ _)) ?_;have ne:s.heap.objs.size≠s.heap.objs.size+1:=bE (i9 _);refine⟨by rw [ak ne,ae],fj _,ne,e2,λ_=>none,(Heap.Ns1.of_empty e3).at λo q=>bW _ q,λ_=>True.intro,λy hy=>absurd rfl hy⟩
def Kh {prog:Program}{w:World}{env:Env}{e:Expr}{f:Str}{pos:Pos}{s:Shared}{Q:Value->Shared->Prop}(hb:attributeBase e f env (eval e env)=eval e env)
  (h:wpAny (model prog w) A (eval e env) (λo s₁=>wpAny (model prog w) A (getAttr o f true) Q E s₁) E s):wpAny (model prog w) A (eval (.Attribute e f pos) env) Q E s :=
 Attribute_any_ h (by rw [arm_eval_Attribute,hb])
end
inductive SY (K:a0)(H:Hp)(f:Str)(x:V)(R:V->Prop):Prop
|mk(a C dx:Addr)(fs:List (Str×V))(v:V)(e:x=.ref a)(h:H a=some (.ins C dx fs))(c:Eh K C)(n:dX K C f)(l:fs.lookup f=some v)(q:R v)
inductive XSf (K:a0)(H:Hp)(f:Str)(x:V)(R:Addr->Addr->Addr->List (Str×V)->Prop):Prop
|mk(a C dx:Addr)(fs:List (Str×V))(e:x=.ref a)(h:H a=some (.ins C dx fs))(c:Eh K C)(n:dX K C f)(l:fs.length < 1000)(q:R a C dx fs)
def Qa (K:a0)(ta:TE)(f:Str):TE:=λσ H Q=>ta σ H λx H1=>SY K H1 f x λv=>Q v H1
def VA (K:a0)(ta tv:TE)(f:Str):TS:=λD σ H=>tv σ H λy H1=>ta σ H1 λx H2=>XSf K H2 f x λa C dx fs=>D.nx σ (upd H2 a (.ins C dx (dQ f y fs)))
section
variable {X:Cx}{o e value:Expr}{f:Str}{pos pos' wu:Pos}{ta tv:TE}
def dU (he:PE X e ta)(hb:attributeBase e f X.env (eval e X.env)=eval e X.env):PE X (.Attribute e f pos) (Qa X.K ta f):=by
 intro ag s σ H Q I h;refine Kh hb (df (he ag s σ H _ I h) λu s1 bL=>?_);obtain⟨x,H1,I1,rx,a,C,dx,fs,v,ex,ea,c,n,l,q⟩:=bL;subst ex;obtain rfl:u=Value.ref a:=rx;exact A4 I1 ea c n l λu' s2 I2 ru=>⟨v,H1,I2,ru,q⟩
def gY (ha:PE X o ta)(hv:PE X value tv)(hs:swapsWith value (some (.Attribute o f pos')) pos.line X.env=pure false):PS X (.Assign [.Attribute o f pos'] value pos) (VA X.K ta tv f):=by
 intro ag s σ H D I h;refine plainObj_wpAny_Assign_Attribute (df (hv ag s σ H _ I h) λu s1 bL=>?_) hs;obtain⟨y,H1,I1,ry,q⟩:=bL;refine df (ha ag s1 σ H1 _ I1 q) λov s2 bL=>?_;obtain⟨x,H2,I2,rx,a,C,dx,fs,ex,ea,c,n,l,q2⟩:=bL;subst ex;obtain rfl:ov=Value.ref a:=rx;exact Aa I2 ea c n l ry λs3 I3=>⟨σ,_,I3,q2⟩
def K2 {pl:Sem Bool}{m:Str}{apos:Pos}{args:List Expr}{ag:List (Addr×Obj)}{s:Shared}{σ:St}{H:Hp}{Q:Value->Shared->Prop}{te:TE}(he:PE X e te)(I:Inv X ag σ H s)
  (h:te σ H λx H1=>∃a C dx fs g,x=.ref a/\H1 a=some (.ins C dx fs)/\Eh X.K C/\Meth X.K C m g/\fs.lookup m=none /\
   ∀s1,Inv X ag σ H1 s1->wpAny (model X.prog X.w) X.A (callWith pos (.ref g) [.ref a] (backTo pos (starEach args X.env)) (backToKw pos (keywordEach [] X.env))) Q X.xe s1)
  (ht:eval (.Call (.Attribute e m apos) args [] pos) X.env=(do
   let ov <-eval e X.env
   standAt apos.atName
   let (f,first) <-holding [ov] (getMethod ov m pl)
   callWith pos f first (backTo pos (starEach args X.env)) (backToKw pos (keywordEach [] X.env)))) :
  wpAny (model X.prog X.w) X.A (eval (.Call (.Attribute e m apos) args [] pos) X.env) Q X.xe s:=by
 refine PySem.W.methodCall_KW (pl:=pl) (df (he ag s σ H _ I h) λu s1 bL=>?_) ht;obtain⟨x,H1,I1,rx,a,C,dx,fs,g,ex,ea,c,k,l,q⟩:=bL;subst ex;obtain rfl:u=Value.ref a:=rx;exact tH I1 ea c k l (q s1 I1)
end
section
variable {X:Cx}{ag:List (Addr×Obj)}{σ:St}{H:Hp}{s:Shared}{A:Around}{E:Value->Shared->Prop}{Q:Value->Shared->Prop}{c:Value}{b:Bool}
inductive ug (K:a0)(H:Hp):V->Value->Prop where
 | gb:ug K H .gb (.type "NoneType")
 | bl (x:Bool):ug K H (.bl x) (.type "bool")
 | int (i:Int):ug K H (.int i) (.type "int")
 | str (x:Str):ug K H (.str x) (.type "str")
 | N4 (x:UInt64):ug K H (.N4 x) (.type "float")
 | lst {a:Addr}{xs:List V}(e:H a=some (.lst xs)):ug K H (.ref a) (.type "list")
 | ky {a:Addr}{o:Obj}{xs:List V}(e:H a=some (.ky o (.lst xs))):ug K H (.ref a) (.type "list")
 | tup {a:Addr}{xs:List V}(e:H a=some (.tup xs)):ug K H (.ref a) (.type "tuple")
 | dK {a:Addr}{kvs:List (aM×V)}(e:H a=some (.dK kvs)):ug K H (.ref a) (.type "dict")
 | dT {a:Addr}{kvs:List (List aM×V)}(e:H a=some (.dT kvs)):ug K H (.ref a) (.type "dict")
 | ins {a C dx:Addr}{fs:List (Str×V)}(e:H a=some (.ins C dx fs))(cl:Eh K C)(ha:PySem.W.findIn K (.ref C) "__class__"=some (some (.builtin "object.__class__")))
   (hn:PySem.W.specialIn K (.builtin "object.__class__") "__get__"=some (some (.builtin "getset_descriptor.__get__")))(htk:PySem.W.takesIn K (.builtin "object.__class__")=some true)
   (hm:PySem.W.mroIn K C (.type "object")=some true):ug K H (.ref a) (.ref C)
end
structure fI (k:Nat)(A:Around):Prop where
 hd:A.handled=none
 dp:A.depth+3 * k+5 < recursionLimit
 un:A.units+16 * k+200 < cLine
def fI.mono {j k:Nat}{A:Around}(r:fI k A)(h:j<=k):fI j A:=⟨r.hd,by have:=r.dp;omega,by have:=r.un;omega⟩
theorem fI.deeper {k:Nat}{A:Around}(r:fI (k+1) A)(env:Env):fI k (A.deeper env) :=
 ⟨r.hd,by have:=r.dp;show A.depth+1+3 * k+5 < _;omega,by have:=r.un;show A.units+3+16 * k+200 < _;omega⟩
theorem fI.in1 {k:Nat}{A:Around}(r:fI (k+1) A):fI k A.in1 :=
 ⟨r.hd,by have:=r.dp;show A.depth+3 * k+5 < _;omega,by have:=r.un;show A.units+1+16 * k+200 < _;omega⟩
def AL {A:Around}{C:Addr}{us:List Value}{kw:List (Str×Value)}:(A.under (.builtin "type.__call__" ⟨.ref C::us,kw⟩)).depth=A.depth+1:=by
 first | rfl | simp [Around.under,Code.weight,Code.isCreation,Code.isGuard,Code.isCaller,Code.frames,Code.isFrame,guardIds]
def AK {A:Around}{C:Addr}{us:List Value}{kw:List (Str×Value)}:(A.under (.builtin "type.__call__" ⟨.ref C::us,kw⟩)).units=A.units+1:=by
 first | rfl | simp [Around.under,Code.cUnits,Code.frames,Code.isFrame]
def fI.make {k:Nat}{A:Around}(r:fI (k+1) A)(C:Addr)(us:List Value)(kw:List (Str×Value)):fI k (A.under (.builtin "type.__call__" ⟨.ref C::us,kw⟩)) :=
 ⟨r.hd,by have:=r.dp;rw [AL];omega,by have:=r.un;rw [AK];omega⟩
theorem fI.depth {k:Nat}{A:Around}(r:fI k A):A.depth < recursionLimit:=by have:=r.dp;omega
theorem fI.units {k:Nat}{A:Around}(r:fI k A):A.units+64 < cLine:=by have:=r.un;omega
def sf:TA:=λ_ H Q=>Q [] H
def gU (ta:TE)(tr:TA):TA:=λσ H Q=>ta σ H λx H1=>tr σ H1 λxs H2=>Q (x::xs) H2
section
variable {X:Cx}{e:Expr}{es:List Expr}{te:TE}{t:TA}{pos:Pos}
def aj:PA X [] sf:=λ_ _ _ _ H Q I h=>ph ⟨[],H,I,.nil,h⟩
def ab (ha:PE X e te)(hr:PA X es t)(hs:starEach (e::es) X.env=(false,eval e X.env)::starEach es X.env:=by rfl):PA X (e::es) (gU te t):=by
 intro pos ag s σ H Q I h;rw [hs];show wpAny _ _ (spliced ((false,eval e X.env)::backTo pos (starEach es X.env))) _ _ s;refine qk (df (ha ag s σ H _ I h) λu s1 bL=>?_);obtain⟨x,H1,I1,r1,q1⟩:=bL;refine df (hr pos ag s1 σ H1 _ I1 q1) λus s2 bL=>?_;obtain⟨xs,H2,I2,r2,q2⟩:=bL;exact⟨x::xs,H2,I2,.cons r1 r2,q2⟩
def uz (t:TA):TE:=λσ H Q=>t σ H λxs H1=>xs.length<=sizeLine/\∀p,H1 p=none->Q (.ref p) (upd H1 p (.tup xs))
def P9 (t:TA):TE:=λσ H Q=>t σ H λxs H1=>xs.length<=sizeLine/\∀p,H1 p=none->Q (.ref p) (upd H1 p (.lst xs))
def bU {x1}(h:PA X es t):PE X (.Tuple es x1 pos) (uz t):=by
 intro ag s σ H Q I hq;refine wpAny_Tuple_spliced (df (h pos ag s σ H _ I hq) λus s1 bL=>?_);obtain⟨xs,H1,I1,r,z,q⟩:=bL;refine⟨by rw [<-r.length];exact z,?_⟩;have hf:H1 s1.heap.objs.size=none:=I1.cw.fresh (aK _);refine⟨.ref s1.heap.objs.size,upd H1 s1.heap.objs.size (.tup xs),I1.laid (t':=s1.toks) (λb u e=>bW _ e) (aK _) ?_,rfl,q _ hf⟩;exact⟨z,us,r,⟨_,cJ _ rfl,rfl,_,rfl⟩⟩
def bJ (h:PA X es t):PE X (.List es pos) (P9 t):=by
 intro ag s σ H Q I hq;refine wpAny_List_spliced (df (h pos ag s σ H _ I hq) λus s1 bL=>?_);obtain⟨xs,H1,I1,r,z,q⟩:=bL;refine⟨by rw [<-r.length];exact z,?_⟩;have hf:H1 s1.heap.objs.size=none:=I1.cw.fresh (aK _);refine⟨.ref s1.heap.objs.size,upd H1 s1.heap.objs.size (.lst xs),I1.laid (t':=s1.toks) (λb u e=>bW _ e) (aK _) ?_,rfl,q _ hf⟩;exact⟨z,us,0,r,cJ _ rfl⟩
end
abbrev Sp:=List V->Hp->VK->XK->Prop
abbrev zD:=List Env->Hp->Shared->XK->Value->Shared->Prop
structure qN (P:Program)(w:World)(K:a0)(mg:Str->Option Value)(base:Heap)(A:Around)(outer:List Env)(s:Shared)(H:Hp):Prop where
 frames:A.frames=some outer
 mod:Mod K mg base
 bs:∀b o,base.get? b=some o->s.heap.get? b=some o/\H b=none
 IA:base.objs.size<=s.heap.objs.size
 qc:s.heap.FunFrames base outer
 Lv:∀b∈Dy outer,H b=none
 cw:mF P w H s.heap
 bare:AllBare s.gens
def CE (outer:List Env)(P:Program)(w:World)(H:Hp)(s:Shared)(Q:VK)(u:Value)(s':Shared):Prop :=
 ∃v H',s'.os=s.os/\AllBare s'.gens/\Un (Dy outer) [] H H' s.heap s'.heap/\mF P w H' s'.heap/\RelV v u/\Q v H'
def CR (CX:zD)(outer:List Env)(P:Program)(w:World)(H:Hp)(s:Shared)(Q:VK)(E:XK)(r:Result)(s':Shared):Prop :=
 match r with
 | .ok (.ret u)=>CE outer P w H s Q u s'
 | .ok _=>False
 | .error e=>CX outer H s E e s'
structure bR (P:Program)(w:World)(K:a0)(mg:Str->Option Value)(base:Heap)(CX:zD) (k:Nat)(f:Addr)(fd:FuncData) (ps:List Str)(sp:Sp):Prop where
 len:∀vs H Q E,sp vs H Q E->vs.length=ps.length
 run:∀(A:Around)(outer:List Env)(s:Shared)(H:Hp)(args:Args)(us:List Value)(vs:List V)(Q:VK)(E:XK),fI k A->qN P w K mg base A outer s H->BindsTo s fd args (ps.zip us)->ba vs us->sp vs H Q E ->
  codeAny (model P w) A (.call (.ref f) args) (CR CX outer P w H s Q E) s
theorem bR.mono {P:Program}{w:World}{K:a0}{mg:Str->Option Value}{base:Heap}{CX:zD}{j k:Nat}{f:Addr}{fd:FuncData}{ps:List Str}{sp:Sp}(F:bR P w K mg base CX j f fd ps sp)(h:j<=k) :
  bR P w K mg base CX k f fd ps sp:=⟨F.len,λA outer s H args us vs Q E hr=>F.run A outer s H args us vs Q E (hr.mono h)⟩
def bR.imp {P:Program}{w:World}{K:a0}{mg:Str->Option Value}{base:Heap}{CX:zD}{k:Nat}{f:Addr}{fd:FuncData}{ps:List Str}{sp Zk:Sp}(F:bR P w K mg base CX k f fd ps sp)
  (h:∀vs H Q E,Zk vs H Q E->sp vs H Q E):bR P w K mg base CX k f fd ps Zk :=
 ⟨λvs H Q E q=>F.len vs H Q E (h _ _ _ _ q),λA outer s H args us vs Q E hr he hb hv hs=>F.run A outer s H args us vs Q E hr he hb hv (h _ _ _ _ hs)⟩
def qN.make {P:Program}{w:World}{K:a0}{mg:Str->Option Value}{base:Heap}{A:Around}{outer:List Env}{s:Shared}{H:Hp}(e:qN P w K mg base A outer s H)(C:Addr)(us:List Value)(kw:List (Str×Value)) :
  qN P w K mg base (A.under (.builtin "type.__call__" ⟨.ref C::us,kw⟩)) outer s H:=⟨by first | exact e.frames | (simpa [Around.under,Code.envs,Code.isFrame,pushEnvs] using e.frames),e.mod,e.bs,e.IA,e.qc,e.Lv,e.cw,e.bare⟩
theorem qN.in1 {P:Program}{w:World}{K:a0}{mg:Str->Option Value}{base:Heap}{A:Around}{outer:List Env}{s:Shared}{H:Hp}(e:qN P w K mg base A outer s H) :
  qN P w K mg base A.in1 outer s H:=⟨e.frames,e.mod,e.bs,e.IA,e.qc,e.Lv,e.cw,e.bare⟩
section
variable {X:Cx}{ag:List (Addr×Obj)}{σ:St}{H:Hp}{s s':Shared}
def Inv.Ob (I:Inv X ag σ H s):qN X.prog X.w X.K X.mg X.base X.A X.stack s H :=
 ⟨I.ok.frames,I.ok.mod,I.bs,eK I.ok.IA I.sz,I.stack,I.BM,I.cw,I.bare⟩
def Inv.after {Q:VK}{u:Value}(I:Inv X ag σ H s)(h:CE X.stack X.prog X.w H s Q u s'):EP X ag σ Q u s':=by
 obtain⟨v,H',os,bare,un,cw,r,q⟩:=h;obtain⟨hh,g,d,t,QG⟩:=s';obtain rfl:QG=s.os:=os;exact⟨v,H',I.call (h':=hh) (g':=g) (d':=d) (t':=t) (ch:=[]) un cw bare (λb z=>absurd z (by simp)),r,q⟩
end
def Ky (sp:Sp)(dvs:List V)(E:XK)(t:TA):TE:=λσ H Q=>t σ H λvs H1=>sp (vs++dvs) H1 Q E
def P7 (C:Addr)(m:Str)(sp:Sp)(dvs:List V)(E:XK)(ta:TE)(t:TA):TE:=λσ H Q=>ta σ H λx H1=>∃a dx fs,x=.ref a/\H1 a=some (.ins C dx fs)/\fs.lookup m=none /\
 t σ H1 λvs H2=>sp (x::(vs++dvs)) H2 Q E
def P8 (C:Addr)(sp:Sp)(dvs:List V)(E:XK)(t:TA):TE:=λσ H Q=>t σ H λvs H1=>∀x dx,H1 x=none->H1 dx=none->dx≠x ->
 sp (.ref x::(vs++dvs)) (upd (upd H1 dx (.own x)) x (.ins C dx [])) (λv H2=>v=.gb/\Q (.ref x) H2) E
def Binds (K:a0)(fd:FuncData) (ps:List Str)(ds:List Value):Prop :=
 ∀(s:Shared)(us:List Value),K.In s.heap->(us++ds).length=ps.length->BindsTo s fd ⟨us,[]⟩ (ps.zip (us++ds))
def Binds.all {K:a0}{fd:FuncData}{ps:List Str}(h:∀us:List Value,us.length=ps.length->bindArgs fd ⟨us,[]⟩=pure (ps.zip us)):Binds K fd ps []:=λs us _ hl=>by
 rw [gH] at hl ⊢;exact .of_eq (h us hl)
def Passes (CX:zD)(X:Cx)(E:XK):Prop:=∀(ag:List (Addr×Obj))(σ:St)(H:Hp)(s:Shared)(e:Value)(s':Shared),Inv X ag σ H s->CX X.stack H s E e s'->X.xe e s'
section
variable {X:Cx}{CX:zD}{k:Nat}{f C:Addr}{fd:FuncData}{ps:List Str}{sp:Sp}{dvs:List V}{ds:List Value}{E:XK}{x m:Str}{p pos apos:Pos}{e o:Expr}{es:List Expr}{ta:TE}{t:TA}
def Ft {ag:List (Addr×Obj)}{σ:St}{H:Hp}{s:Shared}{Q:VK}{us:List Value}{vs:List V}(F:bR X.prog X.w X.K X.mg X.base CX k f fd ps sp)(hr:fI k X.A)(hb:Binds X.K fd ps ds)(hd:ba dvs ds)(hx:Passes CX X E)
  (I:Inv X ag σ H s)(r:ba vs us)(h:sp (vs++dvs) H Q E):wpAny (model X.prog X.w) X.A (call (.ref f) us) (EP X ag σ Q) X.xe s:=by
 have r2:ba (vs++dvs) (us++ds):=r.append hd;have hl:(us++ds).length=ps.length:=by rw [<-r2.length];exact F.len _ _ _ _ h
 refine kQ (jR (F.run X.A X.stack s H ⟨us,[]⟩ (us++ds) (vs++dvs) Q E hr I.Ob (hb s us I.zI hl) r2 h) λr s' hq=>?_);cases r with
 | error e=>exact hx ag σ H s e s' I hq
 | ok fl =>
  cases fl with
  | ret u=>exact I.after hq
  | next=>exact False.elim hq
  | brk=>exact False.elim hq
  | cont=>exact False.elim hq
def Jh (F:bR X.prog X.w X.K X.mg X.base CX k f fd ps sp)(hr:fI k X.A)(hg:Gl X x)(hm:X.mg x=some (.ref f))(hk:PySem.W.keepIn X.K (.ref f)=true)(hb:Binds X.K fd ps ds)(hd:ba dvs ds)(hx:Passes CX X E)
  (ha:PA X (e::es) t)(Dr:(x == ("__debug__":Str))=false:=by decide)(he:starEach (e::es) X.env=(false,eval e X.env)::starEach es X.env:=by rfl)(vj:(backTo pos (starEach es X.env)).any (·.1)=false:=by rfl) :
  PE X (.Call (.Name x p) (e::es) [] pos) (Ky sp dvs E t):=by
 intro ag s σ H Q I h;refine nU (xl I hg hm ?_ Dr);refine PySem.W.callWith_K (h₀:=X.base) I.ok.mod.Rb hk (df (ha pos ag s σ H _ I h) λus s1 bL=>?_) he vj;obtain⟨vs,H1,I1,r,q⟩:=bL;refine⟨I1.zI,?_⟩;exact Ft F hr hb hd hx I1 r q
def lV {pl:Sem Bool}(he:PE X o ta)(c:Eh X.K C)(hm:Meth X.K C m f)(F:bR X.prog X.w X.K X.mg X.base CX k f fd ps sp)(hr:fI k X.A)(hb:Binds X.K fd ps ds)(hd:ba dvs ds)(hx:Passes CX X E)(ha:PA X (e::es) t)
  (nO:starEach (e::es) X.env=(false,eval e X.env)::starEach es X.env:=by rfl)(vj:(backTo pos (starEach es X.env)).any (·.1)=false:=by rfl)
  (ht:eval (.Call (.Attribute o m apos) (e::es) [] pos) X.env=(do
   let ov <-eval o X.env
   standAt apos.atName
   let (f,first) <-holding [ov] (getMethod ov m pl)
   callWith pos f first (backTo pos (starEach (e::es) X.env)) (backToKw pos (keywordEach [] X.env))):=by rfl) :
  PE X (.Call (.Attribute o m apos) (e::es) [] pos) (P7 C m sp dvs E ta t):=by
 intro ag s σ H Q I h;refine PySem.W.methodCall_KW (pl:=pl) (df (he ag s σ H _ I h) λu s1 bL=>?_) ht;obtain⟨x,H1,I1,rx,a,dx,fs,ex,ea,l,q⟩:=bL;subst ex;obtain rfl:u=Value.ref a:=rx;refine tH I1 ea c hm l ?_;refine PySem.W.callWith_K (first:=[.ref a]) (h₀:=X.base) I.ok.mod.Rb hm.kp (df (ha pos ag s1 σ H1 _ I1 q) λus s2 bL=>?_) nO vj;obtain⟨vs,H2,I2,r,q2⟩:=bL;refine⟨I2.zI,?_⟩;exact Ft (us:=.ref a::us) (vs:=.ref a::vs) F hr hb hd hx I2 (.cons rfl r) q2
structure Mk (K:a0)(C f:Addr):Prop where
 makes:PySem.W.makesIn K C=true
 init:PySem.W.findIn K (.ref C) "__init__"=some (some (.ref f))
 fn:PySem.W.isFn K (.ref f)=true
 kp:PySem.W.keepIn K (.ref C)=true
def Fs {ag:List (Addr×Obj)}{σ:St}{H:Hp}{s:Shared}{Q:VK}{us:List Value}{vs:List V}(M:Mk X.K C f)(F:bR X.prog X.w X.K X.mg X.base CX k f fd ps sp)(hr:fI (k+1) X.A)(hb:Binds X.K fd ps ds)(hd:ba dvs ds)
  (hx:Passes CX X E)(I:Inv X ag σ H s)(r:ba vs us)
  (h:∀x dx,H x=none->H dx=none->dx≠x->sp (.ref x::(vs++dvs)) (upd (upd H dx (.own x)) x (.ins C dx [])) (λv H2=>v=.gb/\Q (.ref x) H2) E) :
  wpAny (model X.prog X.w) X.A (call (.ref C) us) (EP X ag σ Q) X.xe s:=by
 have hq:=h (s.heap.objs.size+1) s.heap.objs.size (I.cw.fresh (jQ _)) (I.cw.fresh (aK _)) (bE (i9 _));have I2:=Inv.made (C:=C) I;have r2:ba (V.ref (s.heap.objs.size+1)::(vs++dvs)) (Value.ref (s.heap.objs.size+1)::(us++ds)):=.cons rfl (r.append hd);have hl:(Value.ref (s.heap.objs.size+1)::us++ds).length=ps.length:=by
  have e:=r2.length;rw [F.len _ _ _ _ hq] at e;exact e.symm
 refine kQ (Gi (f:=f) I.zI M.makes M.init (beq_iff_eq.mp M.fn) (jR (F.run _ X.stack _ _ ⟨Value.ref (s.heap.objs.size+1)::us,[]⟩ (Value.ref (s.heap.objs.size+1)::(us++ds)) _ _ E (hr.make C us [])
  (I2.Ob.make C us []) (hb _ (Value.ref (s.heap.objs.size+1)::us) I2.zI hl) r2 hq) λr s' RC=>?_))
 cases r with
 | error e=>exact hx ag σ _ _ e s' I2 RC
 | ok fl =>
  cases fl with
  | ret u =>
   obtain⟨v,H',I3,rv,ev,q3⟩:=I2.after RC;subst ev;exact⟨rv,⟨V.ref (s.heap.objs.size+1),H',I3,rfl,q3⟩⟩
  | next=>exact False.elim RC
  | brk=>exact False.elim RC
  | cont=>exact False.elim RC
def wX (M:Mk X.K C f)(F:bR X.prog X.w X.K X.mg X.base CX k f fd ps sp)(hr:fI (k+1) X.A)(hg:Gl X x)(hm:X.mg x=some (.ref C))(hb:Binds X.K fd ps ds)(hd:ba dvs ds)(hx:Passes CX X E)
  (ha:PA X (e::es) t)(Dr:(x == ("__debug__":Str))=false:=by decide)(he:starEach (e::es) X.env=(false,eval e X.env)::starEach es X.env:=by rfl)(vj:(backTo pos (starEach es X.env)).any (·.1)=false:=by rfl) :
  PE X (.Call (.Name x p) (e::es) [] pos) (P8 C sp dvs E t):=by
 intro ag s σ H Q I h;refine nU (xl I hg hm ?_ Dr);refine PySem.W.callWith_K (h₀:=X.base) I.ok.mod.Rb M.kp (df (ha pos ag s σ H _ I h) λus s1 bL=>?_) he vj;obtain⟨vs,H1,I1,r,q⟩:=bL;refine⟨I1.zI,?_⟩;exact Fs M F hr hb hd hx I1 r q
end
section
variable {X:Cx}{CX:zD}{k:Nat}{f C:Addr}{fd:FuncData}{ps ks:List Str}{sp:Sp}{E:XK}{x m:Str}{p pos apos aah:Pos}{e o:Expr}{es:List Expr}{kws:List Keyword}{te ta:TE}{t tk:TA}{nm:Option Str}
structure YX (K:a0)(fd:FuncData) (ps ks:List Str)(g:List Value->List Value->List Value)(gV:List V->List V->List V):Prop where
 to:∀(s:Shared)(us ws:List Value),K.In s.heap->(g us ws).length=ps.length->BindsTo s fd ⟨us,ks.zip ws⟩ (ps.zip (g us ws))
 rel:∀{vs:List V}{us:List Value}{zs:List V}{ws:List Value},ba vs us->ba zs ws->ba (gV vs zs) (g us ws)
variable {g:List Value->List Value->List Value}{gV:List V->List V->List V}
end
structure aN (N P:List Str)(sc:Scope):Prop where
 kind:sc.kind=.function
 co:sc.isCoroutine=false
 gen:sc.isGenerator=false
 nd:N.Nodup
 pre:N.take P.length=P
 par:∀x∈P,sc.names.lookup x=some .local\/sc.names.lookup x=some .cell
 Na:∀y∈sc.names,y.2≠.free
def je {N P:List Str}{sc:Scope}(a:sc.kind=.function)(b:sc.isCoroutine=false)(c:sc.isGenerator=false)(d:N.take P.length=P)(e:N.Nodup/\(∀x∈P,sc.names.lookup x=some .local\/sc.names.lookup x=some .cell)/\∀y∈sc.names,y.2≠.free):aN N P sc:=⟨a,b,c,e.1,d,e.2.1,e.2.2⟩
theorem vM {kindOf:Str->Option NameKind}{x:Str}:∀{binds:List (Str×Value)}{m:Str->Option Value},(∀v,(x,v)∉binds)->bindL kindOf binds m x=m x
 | [],_,_=>rfl
 | (n,v)::r,m,h=>by
  unfold bindL;rw [vM λw hw=>h w (cu _ hw)]
  split
  .have:x≠n:=by rintro rfl;exact h v bQ
   simp [this]
  rfl
theorem vO {kindOf:Str->Option NameKind}{x:Str}:∀{binds:List (Str×Value)}{m:Str->Option Value},(∀v,(x,v)∉binds)->bindC kindOf binds m x=m x
 | [],_,_=>rfl
 | (n,v)::r,m,h=>by
  unfold bindC;rw [vO λw hw=>h w (cu _ hw)]
  split
  .rfl
  have:x≠n:=by rintro rfl;exact h v bQ
  simp [this]
theorem vN {kindOf:Str->Option NameKind}{x:Str}{v:Value}:∀{P:List Str}{vs:List Value}{i:Nat}{m:Str->Option Value},P.Nodup->P[i]?=some x->vs[i]?=some v->kindOf x=some .local ->
  bindL kindOf (P.zip vs) m x=some v
 | [],_,_,_,_,h,_,_=>by simp at h
 | _::_,[],_,_,_,_,h,_=>by simp at h
 | p::P,w::vs,0,m,nd,h1,h2,hk=>by
  simp at h1 h2;subst h1;subst h2;show bindL kindOf ((p,w)::P.zip vs) m p=_;unfold bindL;rw [vM λv hv=>(iL.mp nd).1 (List.of_mem_zip hv).1,aw hk];simp
 | p::P,w::vs,i+1,m,nd,h1,h2,hk=>by
  show bindL kindOf ((p,w)::P.zip vs) m x=_;unfold bindL;exact vN (i:=i) (iL.mp nd).2 (by simpa using h1) (by simpa using h2) hk
theorem vP {kindOf:Str->Option NameKind}{x:Str}{v:Value}:∀{P:List Str}{vs:List Value}{i:Nat}{m:Str->Option Value},P.Nodup->P[i]?=some x->vs[i]?=some v->kindOf x≠some .local ->
  bindC kindOf (P.zip vs) m x=some v
 | [],_,_,_,_,h,_,_=>by simp at h
 | _::_,[],_,_,_,_,h,_=>by simp at h
 | p::P,w::vs,0,m,nd,h1,h2,hk=>by
  simp at h1 h2;subst h1;subst h2;show bindC kindOf ((p,w)::P.zip vs) m p=_;unfold bindC;rw [vO λv hv=>(iL.mp nd).1 (List.of_mem_zip hv).1,ax hk];simp
 | p::P,w::vs,i+1,m,nd,h1,h2,hk=>by
  show bindC kindOf ((p,w)::P.zip vs) m x=_;unfold bindC;exact vP (i:=i) (iL.mp nd).2 (by simpa using h1) (by simpa using h2) hk
def start (N:List Str)(vs:List V):St:=vs.map some++List.replicate (N.length - vs.length) none
def qg (CX:zD)(P:Program)(w:World)(K:a0)(mg:Str->Option Value)(base:Heap) (N:List Str)(qual:Str)(scope:Scope)(f:Addr)(cd:Value)(A:Around)(outer:List Env)(s:Shared)(H:Hp)(E:XK):Cx where
 prog:=P
 w:=w
 K:=K
 mg:=mg
 base:=base
 A:=A.deeper (envOfC qual scope s.heap.objs.size f cd)
 N:=N
 s₀:=s
 H₀:=H
 env:=envOfC qual scope s.heap.objs.size f cd
 outer:=outer
 stack:=envOfC qual scope s.heap.objs.size f cd::outer
 ex:=[]
 calm:=true
 fn:=λ_=>true
 pn:=[]
 xe:=λe s'=>wpAny (model P w) (A.deeper (envOfC qual scope s.heap.objs.size f cd)) (leaving (envOfC qual scope s.heap.objs.size f cd) e) (λ_ MH=>CX outer H s E e MH) (λe' MH=>CX outer H s E e' MH) s'
def zq {sc:Scope}{n:Nat}{x:Str}(h:sc.names.lookup x=some .cell):∃c,(cellsFrom n sc.names []).lookup x=some c:=by
 have q:=PySem.W.cellsFrom_some sc.names n [] (.inl h);exact nV.mp q
def vh {CX:zD}{P:Program}{w:World}{K:a0}{mg:Str->Option Value}{base:Heap}{N ps:List Str}{qual:Str}{scope:Scope}{f:Addr}{cd:Value}{A:Around}{outer:List Env}{s s1:Shared}{H:Hp}{E:XK}{us:List Value}{vs:List V}
  (S:aN N ps scope)(hd:A.handled=none)(e0:qN P w K mg base A outer s H)(hl:vs.length=ps.length)(r:ba vs us)
  (x:InCallC s s.heap.objs.size (bindL (envOfC qual scope s.heap.objs.size f cd).kindOf (ps.zip us) λ_=>none) (cellsFrom (s.heap.objs.size+1) scope.names []) (bindC (envOfC qual scope s.heap.objs.size f cd).kindOf (ps.zip us) λ_=>none) s1) :
  Inv (qg CX P w K mg base N qual scope f cd A outer s H E) [] (start N vs) H s1:=by
 have vj:ps.length<=N.length:=by have:=congrArg List.length S.pre;rw [d0] at this;omega
 obtain⟨h1,tk,rfl,hk⟩:=x.done;have QL:∀b:Addr,b∉(qg CX P w K mg base N qual scope f cd A outer s H E).ex:=λb z=>absurd (show b∈([]:List Addr) from z) (by simp);refine⟨⟨e0.mod,S.kind,rfl,rfl,aK _,λy z c h1 h2=>?_,λy hy=>?_,λy c _ h=>?_,λ_=>hd,Around.frames_deeper e0.frames,.inr ⟨rfl,rfl⟩,λb z=>absurd z (QL b),e0.bs,e0.IA,λb _ _=>QL b,λb z=>absurd z (QL b),e0.qc,e0.Lv⟩,
  rfl,e0.bare,Un.kept hk,⟨_,x.toInCall.ns,λi y v h1 h2 h3=>?_⟩,λy c h=>⟨_,x.cell y c h⟩,e0.cw.fresh (aK _),λy c h=>?_,λp hp=>absurd (show p∈([]:List (Addr×Obj)) from hp) (by simp),e0.cw.kept hk,?_⟩
 .exact name_of_addr x.apart (rS h1) (rS h2)
 .have hy:scope.names.lookup y=some .cell\/scope.names.lookup y=some .free:=hy;rcases hy with hy | hy
  .exact zq hy
  exact absurd rfl (S.Na _ (rS hy))
 .exact jh (x.above y c (rS h))
 .have hi:i < vs.length:=by
   unfold start at h2;by_cases hi:i < vs.length
   .exact hi
   rw [nX (by simpa using hi)] at h2;rw [List.getElem?_replicate] at h2
   split at h2 <;> cases h2
  have ha:vs[i]?=some v:=by
   unfold start at h2;rw [qo (by simpa using hi),bf] at h2;cases e:vs[i]? with
   | none=>rw [e] at h2;cases h2
   | some a=>rw [e] at h2;cases h2;rfl
  obtain⟨u,hu,rv⟩:=r.get ha;have hp:ps[i]?=some y:=by
   rw [<-S.pre,rT ∅];exact h1
  have ZM:ps.Nodup:=by rw [<-S.pre];exact S.nd.sublist (List.take_sublist _ _)
  refine⟨u,rv,?_⟩;rcases S.par y (cA hp) with k | k
  .exact .inl ⟨k,vN ZM hp hu k⟩
  obtain⟨c,e⟩:=zq (n:=s.heap.objs.size+1) k;refine .inr ⟨.inl k,c,e,?_⟩;have q:=x.cell y c e;rw [vP ZM hp hu (by show scope.names.lookup y≠_;rw [k];decide)] at q;exact q
 .exact e0.cw.fresh (jh (x.above y c (rS h)))
 unfold start;show _=N.length;rw [bB,ar,List.length_replicate];omega
def Hc {CX:zD}{P:Program}{w:World}{K:a0}{mg:Str->Option Value}{base:Heap}{k:Nat}{f:Addr}{name qual:Str}{params:Arguments}{body:List Stmt}{scope:Scope}{dV kV doc pm eJ ct oc:Value}{an od:Option Addr}
  {wY:Array (Option Value)}{N ps:List Str}{sp:Sp}(lk:K.lookup f=some ⟨oc,od,.func (PySem.W.fnOf name qual params body scope dV kV doc pm an eJ ct),wY⟩)(xr:PySem.W.codeIn K eJ qual=true)(S:aN N ps scope)
  (len:∀vs H Q E,sp vs H Q E->vs.length=ps.length)
  (jH:∀(A:Around)(outer:List Env)(s:Shared)(H:Hp)(vs:List V)(Q:VK)(E:XK),fI k (A.deeper (envOfC qual scope s.heap.objs.size f eJ))->sp vs H Q E ->
   ∃t,Bp (qg CX P w K mg base N qual scope f eJ A outer s H E) body t/\t { nx:=λ_ H'=>Q .gb H',rt:=Q } (start N vs) H) :
  bR P w K mg base CX (k+1) f (PySem.W.fnOf name qual params body scope dV kV doc pm an eJ ct) ps sp:=by
 refine⟨len,λA outer s H args us vs Q E hr e0 hb r uv=>?_⟩;have hl:=len _ _ _ _ uv;have KX:K.In s.heap:=e0.mod.Rb.keeps λb o e=>(e0.bs b o e).1;have lim:s.heap.NoLimit:=e0.mod.nolimit.keeps λb o e=>(e0.bs b o e).1;have jF:∀y∈ps.zip us,scope.names.lookup y.1=some .local\/(scope.names.lookup y.1=some .cell/\((cellsFrom (s.heap.objs.size+1) scope.names []).lookup y.1).isSome=true):=λ⟨n,v⟩ hy=>by
  rcases S.par n (List.of_mem_zip hy).1 with q | q
  .exact .inl q
  exact .inr ⟨q,PySem.W.cellsFrom_some _ _ _ (.inl q)⟩
 refine codeAny_call_function hr.depth (KX _ _ lk) rfl S.co S.gen rfl (PySem.W.codeRec_of KX xr) (hb _ _ _ _ ?_);refine wpAny_newFunctionEnv_cells S.kind jF λenv he s1 x=>?_;subst he;refine⟨lim.keeps x.toInCall.keep,codeAny_func ?_⟩;obtain⟨t,ht,hq⟩:=jH A outer s H vs Q E (hr.deeper _) uv;have I:Inv (qg CX P w K mg base N qual scope f eJ A outer s H E) [] (start N vs) H s1:=vh S hr.hd e0 hl r x;refine dA (ht [] s1 (start N vs) H _ I hq) (λfl s' hs=>?_) λe s' hs=>hs;have fin:∀{σ':St}{H':Hp}{v:V}{u:Value},Inv (qg CX P w K mg base N qual scope f eJ A outer s H E) [] σ' H' s'->RelV v u->Q v H'->CE outer P w H s Q u s' :=
  λ{σ' H' v u} J rv q=>⟨v,H',J.os,J.bare,J.base,J.cw,rv,q⟩
 cases fl with
 | ret u =>
  obtain⟨v,σ',H',J,rv,q⟩:=hs;exact fin J rv q
 | next =>
  obtain⟨σ',H',J,q⟩:=hs;exact fin (v:=V.gb) (u:=Value.none) J rfl q
 | brk =>
  obtain⟨_,_,_,q⟩:=hs;exact False.elim q
 | cont =>
  obtain⟨_,_,_,q⟩:=hs;exact False.elim q
section
variable {X:Cx}{x:Str}{p pos:Pos}{e:Expr}{es:List Expr}{t:TA}{id T:String}{r:List V->Hp->VK->Prop}
def Zg (r:List V->Hp->VK->Prop)(t:TA):TE:=λσ H Q=>t σ H λvs H1=>r vs H1 Q
def aR (hc:gN X (.builtin id) r)(hg:Gl X x)(hm:X.mg x=none)(hv:bootBuiltins x=some (.builtin id))(ha:PA X (e::es) t)(hn:x ≠ "__name__" := by decide)(Dr:(x == ("__debug__":Str))=false:=by decide)
  (he:starEach (e::es) X.env=(false,eval e X.env)::starEach es X.env:=by rfl)(vj:(backTo pos (starEach es X.env)).any (·.1)=false:=by rfl):PE X (.Call (.Name x p) (e::es) [] pos) (Zg r t):=by
 intro ag s σ H Q I h;refine nU (iW I hg hm hv ?_ hn Dr);refine PyProof.Rows.callWith_builtin1 (df (ha pos ag s σ H _ I h) λus s1 bL=>?_) he vj;obtain⟨vs,H1,I1,r1,q1⟩:=bL;exact hc ag s1 σ H1 vs us Q I1 r1 q1
def a7 (hc:gN X (.type T) r)(hg:Gl X x)(hm:X.mg x=none)(hv:bootBuiltins x=some (.type T))(ha:PA X (e::es) t)(hn:x ≠ "__name__" := by decide)(Dr:(x == ("__debug__":Str))=false:=by decide)
  (he:starEach (e::es) X.env=(false,eval e X.env)::starEach es X.env:=by rfl)(vj:(backTo pos (starEach es X.env)).any (·.1)=false:=by rfl):PE X (.Call (.Name x p) (e::es) [] pos) (Zg r t):=by
 intro ag s σ H Q I h;refine nU (iW I hg hm hv ?_ hn Dr);refine xU (df (ha pos ag s σ H _ I h) λus s1 bL=>?_) he vj;obtain⟨vs,H1,I1,r1,q1⟩:=bL;exact hc ag s1 σ H1 vs us Q I1 r1 q1
end
end L2
namespace HT
open PySem PyProof.Rows
section
open PySem.SeqAt
open PySem.AutoSeq1 (wpAny_loadPart')
open PySem.MeetsSeq PySem.MeetsSeq2 PySem.MeetsSeq3
end
section
variable {prog:Program}{w:World}{A:Around}{E:Value->Shared->Prop}{s:Shared}
def Kg {t b:Addr}{vs ws:List Value}{Q:Value->Shared->Prop}(ht:IsTup s.heap t vs.toArray)(hb:IsTup s.heap b ws.toArray)(hv:vs≠[])
  (h1:ws=[]->Q (.ref t) s)(h2:ws≠[]->Q (.ref s.heap.objs.size) { s with heap:=s.heap.push { cls:=.type "tuple",data:=.seq (vs++ws).toArray } })
  (hsz:vs.length+ws.length<=sizeLine):wpAny (model prog w) A (binaryOp .Add (.ref t) (.ref b)) Q E s:=by
 obtain⟨⟨cls,dd,data,sl⟩,ho,hc,n,hd⟩:=id ht;obtain⟨⟨Yr,Pu,data2,TK⟩,AX,RY,n2,hd2⟩:=id hb;simp only at hc hd RY hd2;subst hc hd RY hd2;have e:vs.toArray++ws.toArray=(vs++ws).toArray:=by simp
 by_cases hw:ws=[]
 .exact concat_meets ⟨_,ho,rfl⟩ ⟨_,AX,rfl⟩ noFill_tuple_add seq_tuple_add zO zR (zU _ _)
   (tuple_addW1 t b vs.toArray ws.toArray n n2 dd Pu sl TK (by simpa using hv) (by simp [hw])) ⟨ho,AX,h1 hw⟩
 refine concat_meets ⟨_,ho,rfl⟩ ⟨_,AX,rfl⟩ noFill_tuple_add seq_tuple_add zO zR (zU _ _)
  (tuple_addW2 t b vs.toArray ws.toArray n n2 dd Pu sl TK (by simpa using hv) (by simpa using hw) (by rw [cP,cP];exact hsz)) ⟨ho,AX,?_⟩
 rw [e];exact h2 hw
def fh (n d:Nat):Option Int->Nat
 | none=>d
 | some v=>if v < 0 then (v+(n:Int)).toNat else min v.toNat n
def oy (n d:Nat):fh n d none=d:=rfl
def qY (n d k:Nat):fh n d (some (k:Int))=min k n:=by
 show (if (k:Int) < 0 then ((k:Int)+(n:Int)).toNat else min (k:Int).toNat n)=min k n;rw [ax ∅,hU]
def Mx (n d:Nat)(hd:d<=n)(o:Option Int):fh n d o<=n:=by
 cases o with
 | none=>exact hd
 | some v =>
  show (if v < 0 then (v+(n:Int)).toNat else min v.toNat n)<=n;by_cases hv:v < 0
  .rw [aw hv];omega
  rw [ax hv];exact Nat.min_le_right _ _
def Cw (v:Int) (n d:Nat):(if v < 0 then max (v+(n:Int)) 0 else min v (n:Int))=((fh n d (some v):Nat):Int):=by
 show (if v < 0 then max (v+(n:Int)) 0 else min v (n:Int))=(((if v < 0 then (v+(n:Int)).toNat else min v.toNat n):Nat):Int);by_cases hv:v < 0
 .simp only [aw hv];omega
 simp only [ax hv];omega
def Bn (lo hi:Option Int) (n:Nat):Builtin.Slice.sliceAdjust lo hi 1 (n:Int)=(((fh n 0 lo:Nat):Int),((fh n n hi:Nat):Int)):=by
 have h1:¬((1:Int) < 0):=by omega
 unfold Builtin.Slice.sliceAdjust;simp only [h1,if_false];refine jP ?_ ?_
 .cases lo with
  | none=>rfl
  | some v=>exact Cw v n 0
 cases hi with
 | none=>rfl
 | some v=>exact Cw v n n
def Av (i j:Nat):Builtin.Slice.slicePlaces (i:Int) (j:Int) 1=j - i:=by
 unfold Builtin.Slice.slicePlaces;have h1:(1:Int) > 0:=by omega
 simp only [h1,if_true,Int.ediv_one]
 split <;> omega
def sE {v:Value}{o:Option Int}{Q:Option Int->Shared->Prop}(p:IsPart v o)(h:Q o s):wpAny (model prog w) A (Builtin.Slice.slicePartIndex v) Q E s:=by
 cases p with
 | none=>exact slicePart_none h
 | int i t=>exact slicePart_int h
def jy {sl:Addr}{vl vu:Value}{lo hi:Option Int}{n:Nat}{Q:Int×Int×Nat->Shared->Prop}(hs:s.heap.IsSliceOf sl vl vu .none)(pl:IsPart vl lo)(pu:IsPart vu hi)
  (h:Q (((fh n 0 lo:Nat):Int),1,fh n n hi - fh n 0 lo) s):wpAny (model prog w) A (Builtin.Slice.sliceApplied (.ref sl) (pure (n:Int))) Q E s:=by
 obtain⟨os,ND,Up,A2⟩:=id hs;unfold Builtin.Slice.sliceApplied Builtin.Slice.sliceFields;refine ay (ay (jr ND A2 (x:=vl) rfl (ay (jr ND A2 (x:=vu) rfl (ay (jr ND A2 (x:=.none) rfl (aD ?_)))))));refine ay (slicePart_none ?_);show wpAny _ _ (if ((1:Int) == 0)=true then _ else _) _ _ s;rw [ax nofun];refine ay (sE pl (ay (sE pu (ay (aD ?_)))));show wpAny _ _ (match Builtin.Slice.sliceAdjust lo hi 1 (n:Int) with | (lo,hi)=>pure (lo,(1:Int),Builtin.Slice.slicePlaces lo hi 1)) _ _ s
 rw [Bn lo hi n];show wpAny _ _ (pure (((fh n 0 lo:Nat):Int),(1:Int),Builtin.Slice.slicePlaces ((fh n 0 lo:Nat):Int) ((fh n n hi:Nat):Int) 1)) _ _ s;rw [Av];exact aD h
def FE (xs:Array Value) (i k:Nat):((List.range k).filterMap λ(m:Nat)=>xs[((i:Int)+(m:Int) * 1).toNat]?).toArray=((xs.toList.drop i).take k).toArray:=by
 have e:(λ(m:Nat)=>xs[((i:Int)+(m:Int) * 1).toNat]?)=λm=>xs[i+m]?:=by
  funext m
  have:((i:Int)+(m:Int) * 1).toNat=i+m:=by omega
  rw [this]
 rw [e];have:=pick_run xs i k;rw [List.filterMap_map] at this;have e2:((λx=>xs[x]?) ∘ λx=>i+x)=λm=>xs[i+m]?:=rfl;rw [e2] at this;rw [this]
def oK {t sl:Addr}{items:Array Value}{vl vu:Value}{lo hi:Option Int}{Q:Value->Shared->Prop}(ht:IsTup s.heap t items)(hs:s.heap.IsSliceOf sl vl vu .none)(pl:IsPart vl lo)(pu:IsPart vu hi)
  (hw:¬(fh items.size 0 lo=0/\fh items.size items.size hi=items.size))
  (h:Q (.ref s.heap.objs.size) { s with heap:=s.heap.push { cls:=.type "tuple",data:=.seq ((items.toList.drop (fh items.size 0 lo)).take (fh items.size items.size hi - fh items.size 0 lo)).toArray } })
  (hsz:items.size<=sizeLine):wpAny (model prog w) A (getItem (.ref t) (.ref sl)) Q E s:=by
 have Ck:sizeOk (.seq ((items.toList.drop (fh items.size 0 lo)).take (fh items.size items.size hi - fh items.size 0 lo)).toArray):=by
  show ((items.toList.drop (fh items.size 0 lo)).take (fh items.size items.size hi - fh items.size 0 lo)).toArray.size<=sizeLine;rw [cP,d0,rM,iN];omega
 have hj:fh items.size items.size hi<=items.size:=Mx _ _ (aK _) hi;obtain⟨os,ND,Up,A2⟩:=id hs;have Xo:s.TypeIs (.ref sl) "slice" := ⟨os,ND,Up⟩;unfold getItem
 try with_reducible refine i8 ?_
 first | refine ay (aD ?_) | skip
 refine ay (wpAny_sequenceKey ht.typeIs nofun ?_);refine ay (qm (name:=Str.ofString "__getitem__") ht.typeIs uM
  (kj uM ht.typeIs entry_tuple_getitem ?_ (args_tuple_getitem _ _)))
 show wpAny _ _ (Builtin.Tuple.tupleItemsOf (.ref t) >>= _) _ _ s;refine ay (tupleItemsOf_ ht ?_);refine ay (iP Xo ?_);rw [aw nofun];refine ay (jy hs pl pu ?_);have hno:¬((((fh items.size 0 lo:Nat):Int) == 0 && (1:Int) == 1 && (fh items.size items.size hi - fh items.size 0 lo) == items.size)=true):=by
  intro q;rw [mf,mf] at q;have q1:((fh items.size 0 lo:Nat):Int)=0:=eq_of_beq q.1.1;have q2:fh items.size items.size hi - fh items.size 0 lo=items.size:=eq_of_beq q.2;exact hw ⟨∅,∅⟩
 show wpAny _ _ (if (((fh items.size 0 lo:Nat):Int) == 0 && (1:Int) == 1 && (fh items.size items.size hi - fh items.size 0 lo) == items.size)=true then _ else _) _ _ s;rw [ax hno,FE]
 first
  | exact ay (m:=Builtin.Tuple.tupleExact _) (iM (aD ⟨_,rfl,aD h⟩) Ck)
  | exact ay (m:=Builtin.Tuple.tupleExact _) (iM (ay (aD (aD ⟨_,rfl,aD h⟩))) Ck)
  | exact ay (ay (m:=Builtin.Tuple.tupleExact _) (iM (aD (aD ⟨_,rfl,aD h⟩)) Ck))
  | exact ay (ay (m:=Builtin.Tuple.tupleExact _) (iM (aD ⟨_,rfl,aD h⟩) Ck))
end
end HT
namespace L2
open PySem PySem.Spec PyProof.Rows
abbrev TO:=St->Hp->(Option Int->Hp->Prop)->Prop
def PO (X:Cx)(e:Option Expr)(t:TO):Prop :=
 ∀(ag:List (Addr×Obj))(s:Shared)(σ:St)(H:Hp)(Q:Option Int->Hp->Prop),Inv X ag σ H s->t σ H Q ->
  wpAny (model X.prog X.w) X.A (evalPart e X.env) (λu s'=>∃o H',Inv X ag σ H' s'/\IsPart u o/\Q o H') X.xe s
def IM:TO:=λ_ H Q=>Q none H
def P4 (t:TE):TO:=λσ H Q=>t σ H λx H1=>YO x λi=>Q (some i) H1
def intsAre_of {ns:List Int}:∀{us:List Value},ba (ns.map V.int) us->IntsAre us ns:=by
 induction ns with
 | nil=>intro us r;rw [mH] at r;cases r;exact .nil
 | cons n ns ih =>
  intro us r;rw [cH] at r;cases r with
  | cons r1 r2 =>
   obtain⟨t,e⟩:=r1;subst e;exact .cons n t (ih r2)
section
variable {X:Cx}{e:Expr}{te:TE}{lo hi:Option Expr}{tl th:TO}{pos p2:Pos}
def jb:PO X none IM:=by
 intro ag s σ H Q I h;rw [evalPart_none];exact aD ⟨none,H,I,.none,h⟩
def ij (h:PE X e te):PO X (some e) (P4 te):=by
 intro ag s σ H Q I hw;rw [evalPart_some];refine df (h ag s σ H _ I hw) λu s1 bL=>?_;obtain⟨x,H1,I1,r1,q1⟩:=bL;obtain⟨i,rfl,q⟩:=q1;obtain⟨t,rfl⟩:=r1;exact⟨some i,H1,I1,.int i t,q⟩
def LS (X:Cx)(r:V->Option Int->Option Int->Hp->VK->Prop):Prop :=
 ∀(ag:List (Addr×Obj))(s:Shared)(σ:St)(H:Hp)(x:V)(v vl vu:Value)(lo hi:Option Int)(sl:Addr)(Q:VK),Inv X ag σ H s->RelV x v->s.heap.IsSliceOf sl vl vu .none->IsPart vl lo->IsPart vu hi->r x lo hi H Q ->
  ∃T id,typeLookup (.type T) "__getitem__"=pure (some (.builtin id))/\s.TypeIs v T/\wpAny (model X.prog X.w) X.A (getItem v (.ref sl)) (EP X ag σ Q) X.xe s
def LS.or {r r':V->Option Int->Option Int->Hp->VK->Prop}(h:LS X r)(h':LS X r'):LS X (λx lo hi H Q=>r x lo hi H Q\/r' x lo hi H Q):=by
 intro ag s σ H x v vl vu lo hi sl Q I rx hs pl pu q;rcases q with q | q
 .exact h ag s σ H x v vl vu lo hi sl Q I rx hs pl pu q
 exact h' ag s σ H x v vl vu lo hi sl Q I rx hs pl pu q
def tSl (r:V->Option Int->Option Int->Hp->VK->Prop)(te:TE)(tl th:TO):TE:=λσ H Q=>te σ H λx H1=>tl σ H1 λl H2=>th σ H2 λu H3=>r x l u H3 Q
def gZ {r:V->Option Int->Option Int->Hp->VK->Prop}(hr:LS X r)(he:PE X e te)(hl:PO X lo tl)(hu:PO X hi th):PE X (.Subscript e (.Slice lo hi none p2) pos) (tSl r te tl th):=by
 intro ag s σ H Q I h;refine Subscript_ (df (he ag s σ H _ I h) λv s1 bL=>?_);obtain⟨x,H1,I1,r1,q1⟩:=bL;refine wpAny_Slice (df (hl ag s1 σ H1 _ I1 q1) λvl s2 bL=>?_);obtain⟨l,H2,I2,pl,q2⟩:=bL;refine df (hu ag s2 σ H2 _ I2 q2) λvu s3 bL=>?_;obtain⟨u,H3,I3,pu,q3⟩:=bL;rw [evalPart_none];refine aD ?_;have I4:Inv X ag σ H3 { s3 with heap:=s3.heap.push { cls:=.type "slice",data:=.fields #[vl,vu,.none] } }:=I3.kept (t':=s3.toks) λb ob q=>bW _ q;obtain⟨T,id,hT,ht,hg⟩:=hr ag { s3 with heap:=s3.heap.push { cls:=.type "slice",data:=.fields #[vl,vu,.none] } } σ H3 x v vl vu l u s3.heap.objs.size Q I4 r1 (Heap.IsSliceOf.new ..) pl pu q3;show wpAny (model X.prog X.w) X.A (subscriptTail e (.Slice lo hi none p2) v (.ref s3.heap.objs.size)) (EP X ag σ Q) X.xe { s3 with heap:=s3.heap.push { cls:=.type "slice",data:=.fields #[vl,vu,.none] } };exact tail_any (ops:=[.ref s3.heap.objs.size,v]) ht hT hg (by with_unfolding_all rfl)
def ie (xs:List V)(lo hi:Option Int):List V:=(xs.drop (HT.fh xs.length 0 lo)).take (HT.fh xs.length xs.length hi - HT.fh xs.length 0 lo)
def qA (xs:List V)(lo hi:Option Int):(ie xs lo hi).length<=xs.length:=by
 unfold ie;rw [d0,rM];omega
def VH (K:a0):V->Option Int->Option Int->Hp->VK->Prop:=λx lo hi H Q=>∃a xs,x=.ref a/\aT K H a xs /\
 ¬(HT.fh xs.length 0 lo=0/\HT.fh xs.length xs.length hi=xs.length)/\∀p,H p=none->Q (.ref p) (upd H p (.tup (ie xs lo hi)))
def Mo:LS X (VH X.K):=by
 intro ag s σ H x v vl vu lo hi sl Q I rx hs pl pu h;obtain⟨a,xs,rfl,hx,hw,q⟩:=h;cases rx;obtain⟨aU,r,ht,hz⟩:=I.tuple hx;have bM:aU.toArray.size=xs.length:=by rw [cP];exact r.length.symm
 refine⟨"tuple",_,uM.lookup,ht.typeIs,?_⟩;refine HT.oK ht hs pl pu (by rw [bM];exact hw) ?_ (by rw [bM];exact hz);rw [bM];refine⟨.ref s.heap.objs.size,_,I.laid (t':=s.toks) (o:=.tup (ie xs lo hi)) (λb ob q=>bW _ q) (aK _) ?_,rfl,q _ (I.cw.fresh (aK _))⟩;exact⟨eK (qA xs lo hi) hz,_,(r.drop (HT.fh xs.length 0 lo)).take (HT.fh xs.length xs.length hi - HT.fh xs.length 0 lo),IsTup.new _ _⟩
def QB (K:a0):R2:=λx y H Q=>∃a b xs ys,x=.ref a/\y=.ref b/\aT K H a xs/\aT K H b ys/\xs≠[]/\xs.length+ys.length<=sizeLine /\
 (ys=[]->Q (.ref a) H)/\(ys≠[]->∀p,H p=none->Q (.ref p) (upd H p (.tup (xs++ys))))
def ba.qZ {xs:List V}{us:List Value}(r:ba xs us):us=[]↔xs=[]:=by
 cases r with
 | nil=>simp
 | cons _ _=>simp
def Jk:l_ X (binaryOp .Add) (QB X.K):=by
 intro ag s σ H x y v u Q I rx ry h;obtain⟨a,b,xs,ys,rfl,rfl,ha,hb,hx,hz,q1,q2⟩:=h;cases rx;cases ry;obtain⟨aU,r1,p1,_⟩:=I.tuple ha;obtain⟨gr,r2,p2,_⟩:=I.tuple hb;refine HT.Kg p1 p2 (λz=>hx (r1.qZ.mp z)) (λz=>⟨.ref a,H,I,rfl,q1 (r2.qZ.mp z)⟩) (λz=>?_) (by rw [<-r1.length,<-r2.length];exact hz);refine⟨.ref s.heap.objs.size,_,I.laid (t':=s.toks) (o:=.tup (xs++ys)) (λb ob q=>bW _ q) (aK _) ?_,rfl,q2 (λw=>z (r2.qZ.mpr w)) _ (I.cw.fresh (aK _))⟩;exact⟨by rw [bB];exact hz,_,r1.append r2,IsTup.new _ _⟩
end
def OZ (n:Nat) (i:Int):Option Nat:=if 0<=i then (if i < n then some i.toNat else none) else if -(n:Int)<=i then some (i+n).toNat else none
def ux {α:Type}(xs:List α) (i:Int):Option α:=(OZ xs.length i).bind λj=>xs[j]?
def JH {n:Nat}{i:Int}{j:Nat}(h:OZ n i=some j):seqIndex? i n=some j/\j < n/\-(n:Int)<=i/\i < n:=by
 unfold OZ at h;by_cases h0:0<=i
 .rw [aw h0] at h;by_cases h1:i < n
  .rw [aw h1] at h;have e:i.toNat=j:=gi h;exact⟨by rw [seqIndex_of h0 h1,e],∅,∅,h1⟩
  rw [ax h1] at h;cases h
 rw [ax h0] at h;by_cases h1:-(n:Int)<=i
 .rw [aw h1] at h;have e:(i+n).toNat=j:=gi h;exact⟨by rw [seqIndex_neg ∅ h1,e],∅,h1,∅⟩
 rw [ax h1] at h;cases h
def CA {α:Type}{xs:List α}{i:Int}{v:α}(h:ux xs i=some v):∃j,seqIndex? i xs.length=some j/\xs[j]?=some v/\j < xs.length/\-(xs.length:Int)<=i/\i < xs.length:=by
 unfold ux at h;cases e:OZ xs.length i with
 | none=>rw [e] at h;cases h
 | some j =>
  rw [e] at h;obtain⟨h1,h2,h3,h4⟩:=JH e;exact⟨j,h1,h,h2,h3,h4⟩
def dO {α:Type}{xs:List α}{j:Nat}{v:α}(h:xs[j]?=some v):ux xs (j:Int)=some v:=by
 have hj:j < xs.length:=(bh.mp h).1;have e:OZ xs.length (j:Int)=some j:=by
  unfold OZ;rw [aw ∅,aw ∅];simp
 unfold ux;rw [e];exact h
def Ko (b:Expr):Prop:=∀o i,subscripted b false o i=operate [o,i] (getItem o i)
def IE (X:Cx)(r:R2):Prop :=
 ∀(value slice:Expr)(ag:List (Addr×Obj))(s:Shared)(σ:St)(H:Hp)(x y:V)(v u:Value)(Q:VK),Inv X ag σ H s->RelV x v->RelV y u->r x y H Q ->
  subscripted slice false v u=operate [v,u] (getItem v u)->wpAny (model X.prog X.w) X.A (subscriptTail value slice v u) (EP X ag σ Q) X.xe s
def Tg (X:Cx)(id:String)(r:V->List V->Hp->VK->Prop):Prop :=
 ∀(ag:List (Addr×Obj))(s:Shared)(σ:St)(H:Hp)(x:V)(xs:List V)(v:Value)(us:List Value)(Q:VK),Inv X ag σ H s->RelV x v->ba xs us->r x xs H Q ->
  wpAny (model X.prog X.w) X.A (call (.builtin id) (v::us)) (EP X ag σ Q) X.xe s
section
variable {X:Cx}{a b:Expr}{ta tb:TE}{pos:Pos}
def IE.or {r r':R2}(h:IE X r)(h':IE X r'):IE X (λx y H Q=>r x y H Q\/r' x y H Q):=by
 intro value slice ag s σ H x y v u Q I rx ry q hs;rcases q with q | q
 .exact h value slice ag s σ H x y v u Q I rx ry q hs
 exact h' value slice ag s σ H x y v u Q I rx ry q hs
def Tg.or {id:String}{r r':V->List V->Hp->VK->Prop}(h:Tg X id r)(h':Tg X id r'):Tg X id (λx xs H Q=>r x xs H Q\/r' x xs H Q):=by
 intro ag s σ H x xs v us Q I rx rs q;rcases q with q | q
 .exact h ag s σ H x xs v us Q I rx rs q
 exact h' ag s σ H x xs v us Q I rx rs q
def b9 {r:R2}(hr:IE X r)(ha:PE X a ta)(hb:PE X b tb)(hs:Ko b):PE X (.Subscript a b pos) (TB r ta tb):=by
 intro ag s σ H Q I h;exact Subscript_ (Ow ha hb I h λv u s2 x y H2 I2 rx ry q=>hr a b ag s2 σ H2 x y v u Q I2 rx ry q (hs _ _))
inductive UT (S:Addr->List V->Prop)(x y:V)(R:V->Prop):Prop
|mk(p:Addr)(xs:List V) (i:Int)(v:V)(e:x=.ref p)(e2:y=.int i)(s:S p xs)(a:ux xs i=some v)(q:R v)
def Qz (K:a0):R2:=λx y H Q=>UT (aI K H) x y λv=>Q v H
def Qx (K:a0):R2:=λx y H Q=>UT (aT K H) x y λv=>Q v H
def cX:IE X (Qz X.K):=by
 intro value slice ag s σ H x y v u Q I rx ry h hs;obtain⟨p,xs,i,z,rfl,rfl,hq,he,q⟩:=h;cases rx;obtain⟨t,rfl⟩:=ry;obtain⟨aU,r,pl,hz⟩:=I.list hq;obtain⟨j,h1,h2,h3,h4,h5⟩:=CA he;obtain⟨w,ew,Aq⟩:=r.get h2;have hl:=r.length;have hn:=xi;have fin:EP X ag σ Q w s:=⟨z,H,I,Aq,q⟩;by_cases h0:0<=i
 .have hj:i.toNat=j:=by
   rw [seqIndex_of h0 h5] at h1;exact gi h1
  exact item_listR pl.isList h0 ∅ (by rw [hj];simpa using ew) fin hs
 have hj:(i+(aU.toArray.size:Int)).toNat=j:=by
  rw [seqIndex_neg ∅ h4] at h1;rw [cP,<-hl];exact gi h1
 exact subscriptTail_builtinR (x:=w) pl.isList.typeIs slot_list_getitem.lookup
  (wpAny_getItem_list_neg (Q:=λr s'=>r=w/\EP X ag σ Q r s') pl.isList ∅ (by rw [cP] <;> omega) ∅ (by rw [hj];simpa using ew) ⟨rfl,fin⟩) hs
def cN:IE X (Qx X.K):=by
 intro value slice ag s σ H x y v u Q I rx ry h hs;obtain⟨p,xs,i,z,rfl,rfl,hq,he,q⟩:=h;cases rx;obtain⟨t,rfl⟩:=ry;obtain⟨aU,r,pl,hz⟩:=I.tuple hq;obtain⟨j,h1,h2,h3,h4,h5⟩:=CA he;obtain⟨w,ew,Aq⟩:=r.get h2;have hl:=r.length;have hn:=xi;have fin:EP X ag σ Q w s:=⟨z,H,I,Aq,q⟩;exact subscriptTail_builtinR (x:=w) pl.typeIs slot_tuple_getitem.lookup
  (getItem_tuple (j:=j) (Q:=λr s'=>r=w/\EP X ag σ Q r s') pl ∅ ∅ (by rw [cP,<-hl];exact h1) (by simpa using ew) ⟨rfl,fin⟩) hs
theorem Inv.lst {ag:List (Addr×Obj)}{σ:St}{H:Hp}{s:Shared}{p:Addr}{xs:List V}(I:Inv X ag σ H s)(h:H p=some (.lst xs)) :
  ∃(aU:List Value) (n:Nat),ba xs aU/\s.heap.get? p=some { cls:=.type "list",data:=.seq aU.toArray n }/\xs.length<=sizeLine:=by
 obtain⟨z,aU,n,r,e⟩:=I.cw p _ h;exact⟨aU,n,r,e,z⟩
def wD (lo hi:Option Int) (n:Nat):(sliceBounds lo hi none n).1=((HT.fh n 0 lo:Nat):Int)/\(sliceBounds lo hi none n).2.1=((HT.fh n n hi:Nat):Int)/\(sliceBounds lo hi none n).2.2=1:=by
 refine⟨?_,?_,rfl⟩
 .cases lo with
  | none=>simp [sliceBounds,HT.fh]
  | some i =>
   simp only [sliceBounds,HT.fh,Option.getD_none,show (1:Int) > 0 by decide,if_true];by_cases h:i < 0
   .simp only [h,if_true] <;> omega
   simp only [h,if_false] <;> omega
 cases hi with
 | none=>simp [sliceBounds,HT.fh]
 | some i =>
  simp only [sliceBounds,HT.fh,Option.getD_none,show (1:Int) > 0 by decide,if_true];by_cases h:i < 0
  .simp only [h,if_true] <;> omega
  simp only [h,if_false] <;> omega
def uB (aU:List Value)(lo hi:Option Int):slicePick aU.toArray lo hi none=((aU.drop (HT.fh aU.length 0 lo)).take (HT.fh aU.length aU.length hi - HT.fh aU.length 0 lo)).toArray:=by
 obtain⟨h1,h2,h3⟩:=wD lo hi aU.toArray.size;unfold slicePick;rw [h1,h2,h3];simp only [sliceRange_one,pick_run,cP] <;> rfl
def VI (K:a0):V->Option Int->Option Int->Hp->VK->Prop:=λx lo hi H Q=>YN x (aI K H) λxs=>∀p,H p=none->Q (.ref p) (upd H p (.lst (ie xs lo hi)))
def qU:LS X (VI X.K):=by
 intro ag s σ H x v vl vu lo hi sl Q I rx hs pl pu h;obtain⟨a,xs,rfl,hx,q⟩:=h;cases rx;obtain⟨aU,r,ht,hz⟩:=I.list hx;have bM:=r.length;refine⟨"list",_,slot_list_getitem.lookup,ht.isList.typeIs,?_⟩;refine wpAny_getItem_list_slice ht.isList hs pl pu .none (by simp) ?_ (by rw [cP] <;> omega)
 rw [uB,<-bM];refine⟨.ref s.heap.objs.size,_,I.laid (t':=s.toks) (o:=.lst (ie xs lo hi)) (λb ob q=>bW _ q) (aK _) ?_,rfl,q _ (I.cw.fresh (aK _))⟩;exact⟨eK (qA xs lo hi) hz,_,0,(r.drop (HT.fh xs.length 0 lo)).take (HT.fh xs.length xs.length hi - HT.fh xs.length 0 lo),cJ _ rfl⟩
def jL:V->Bool
 | .gb=>true
 | .bl _=>true
 | .int _=>true
 | .str _=>true
 | _=>false
def vA:V->V->Bool
 | .gb,.gb=>true
 | .bl a,.bl b=>a == b
 | .bl a,.int b=>(if a then 1 else 0) == b
 | .int a,.bl b=>a == (if b then 1 else 0)
 | .int a,.int b=>a == b
 | .str a,.str b=>a == b
 | _,_=>false
def Bc {A:Around}{s:Shared}{y x:V}{u v:Value}(ry:RelV y u)(rx:RelV x v)(fy:jL y=true)(fx:jL x=true):SeqAt.EqAt A s u v (vA y x):=by
 cases y with
 | gb =>
  cases ry;cases x with
  | gb=>cases rx;exact SeqAt.EqAt.same _
  | bl b=>cases rx;exact SeqAt.EqAt.none_bool b
  | int b=>obtain⟨t,rfl⟩:=rx;exact SeqAt.EqAt.none_int b t
  | str b=>obtain⟨t,rfl⟩:=rx;exact SeqAt.EqAt.none_str b t
  | _=>exact absurd (show false=true from fx) dC
 | bl a =>
  cases ry;cases x with
  | gb=>cases rx;exact SeqAt.EqAt.bool_none a
  | bl b=>cases rx;exact SeqAt.EqAt.bool_bool a b
  | int b=>obtain⟨t,rfl⟩:=rx;exact SeqAt.EqAt.bool_int a b t
  | str b=>obtain⟨t,rfl⟩:=rx;exact SeqAt.EqAt.bool_str a b t
  | _=>exact absurd (show false=true from fx) dC
 | int a =>
  obtain⟨t',rfl⟩:=ry;cases x with
  | gb=>cases rx;exact SeqAt.EqAt.int_none a t'
  | bl b=>cases rx;exact SeqAt.EqAt.int_bool a t' b
  | int b=>obtain⟨t,rfl⟩:=rx;exact SeqAt.EqAt.int_int a t' b t
  | str b=>obtain⟨t,rfl⟩:=rx;exact SeqAt.EqAt.int_str a t' b t
  | _=>exact absurd (show false=true from fx) dC
 | str a =>
  obtain⟨t',rfl⟩:=ry;cases x with
  | gb=>cases rx;exact SeqAt.EqAt.str_none a t'
  | bl b=>cases rx;exact SeqAt.EqAt.str_bool a t' b
  | int b=>obtain⟨t,rfl⟩:=rx;exact SeqAt.EqAt.str_int a t' b t
  | str b=>obtain⟨t,rfl⟩:=rx;exact SeqAt.EqAt.str_str a t' b t
  | _=>exact absurd (show false=true from fx) dC
 | _=>exact absurd (show false=true from fy) dC
def Bb (x:V)(u:Value):Bool:=match u with
 | .none=>vA .gb x
 | .bool b=>vA (.bl b) x
 | .int i _=>vA (.int i) x
 | .str z _=>vA (.str z) x
 | _=>false
def Hf {x y:V}{u:Value}(r:RelV y u)(f:jL y=true):Bb x u=vA y x:=by
 cases y with
 | gb=>cases r;rfl
 | bl b=>cases r;rfl
 | int i=>obtain⟨t,rfl⟩:=r;rfl
 | str z=>obtain⟨t,rfl⟩:=r;rfl
 | _=>exact absurd (show false=true from f) dC
theorem oR {x:V}:∀{xs:List V}{us:List Value},ba xs us->xs.all jL=true->us.any (Bb x)=xs.any λy=>vA y x
 | _,_,.nil,_=>rfl
 | y::xs,u::us,.cons r t,f=>by
  rw [List.all_cons,mf] at f;rw [o7,o7,Hf r f.1,oR t f.2]
theorem lB {A:Around}{s:Shared}{x:V}{v:Value}(rx:RelV x v)(fx:jL x=true):∀{xs:List V}{us:List Value},ba xs us->xs.all jL=true->∀u∈us,SeqAt.EqAt A s u v (Bb x u)
 | _,_,.nil,_=>λu hu=>by cases hu
 | y::xs,u::us,.cons r t,f=>λu' hu=>by
  rw [List.all_cons,mf] at f;rcases bO.mp hu with rfl | hu
  .rw [Hf r f.1];exact Bc r rx f.1 fx
  exact lB rx fx t f.2 u' hu
def Nw (x:V)(xs:List V):Bool:=xs.any λy=>vA y x
inductive XIn (S:Addr->List V->Prop)(x y:V)(R:List V->Prop):Prop
|mk(p:Addr)(xs:List V)(e:y=.ref p)(s:S p xs)(f:jL x=true)(g:xs.all jL=true)(q:R xs)
def TY (K:a0)(neg:Bool):R2:=λx y H Q=>XIn (λp xs=>aI K H p xs\/aT K H p xs) x y λxs=>Q (.bl (if neg then !Nw x xs else Nw x xs)) H
def jC:l_ X (compareOp .In) (TY X.K false):=by
 intro ag s σ H x y v u Q I rx ry h;obtain⟨p,xs,rfl,hq,fx,fs,q⟩:=h;cases ry;rcases hq with hq | hq
 .obtain⟨aU,r,pl,hz⟩:=I.list hq;refine SeqAt.in_listAt (Bb x) pl.isList (λw hw=>lB rx fx r fs w (by simpa using hw)) ⟨.bl _,H,I,rfl,?_⟩;rw [show aU.toArray.any (Bb x)=aU.any (Bb x) by simp,oR r fs];exact q
 obtain⟨aU,r,pl,hz⟩:=I.tuple hq;refine SeqAt.in_tupleAt (Bb x) pl (λw hw=>lB rx fx r fs w (by simpa using hw)) ⟨.bl _,H,I,rfl,?_⟩;rw [show aU.toArray.any (Bb x)=aU.any (Bb x) by simp,oR r fs];exact q
def iD:l_ X (compareOp .NotIn) (TY X.K true):=by
 intro ag s σ H x y v u Q I rx ry h;obtain⟨p,xs,rfl,hq,fx,fs,q⟩:=h;cases ry;rcases hq with hq | hq
 .obtain⟨aU,r,pl,hz⟩:=I.list hq;refine SeqAt.notIn_listAt (Bb x) pl.isList (λw hw=>lB rx fx r fs w (by simpa using hw)) ⟨.bl _,H,I,rfl,?_⟩;rw [show aU.toArray.any (Bb x)=aU.any (Bb x) by simp,oR r fs];exact q
 obtain⟨aU,r,pl,hz⟩:=I.tuple hq;refine SeqAt.notIn_tupleAt (Bb x) pl (λw hw=>lB rx fx r fs w (by simpa using hw)) ⟨.bl _,H,I,rfl,?_⟩;rw [show aU.toArray.any (Bb x)=aU.any (Bb x) by simp,oR r fs];exact q
def bH:gN X (.builtin "len") (λxs H Q=>OB xs (λp ys=>aI X.K H p ys\/aT X.K H p ys) λys=>Q (.int ys.length) H):=by
 intro ag s σ H xs us Q I r h;obtain⟨p,ys,rfl,hq,q⟩:=h;obtain⟨u,rfl,rx⟩:=vals1 r;cases rx;have hn:=xi;rcases hq with hq | hq
 .obtain⟨aU,r',pl,hz⟩:=I.list hq;have bM:=r'.length;exact Calls.call_len_list pl.isList (by simp only [cP] <;> omega) ⟨.int ys.length,H,I.tok _,⟨s.toks+1,by rw [cP,bM]⟩,q⟩
 obtain⟨aU,r',pl,hz⟩:=I.tuple hq;have bM:=r'.length;exact len_tuple pl (by simp only [cP] <;> omega) ⟨.int ys.length,H,I.tok _,⟨s.toks+1,by rw [cP,bM]⟩,q⟩
def gN.or {f:Value}{r r':List V->Hp->VK->Prop}(h:gN X f r)(h':gN X f r'):gN X f (λxs H Q=>r xs H Q\/r' xs H Q):=by
 intro ag s σ H xs us Q I rs q;rcases q with q | q
 .exact h ag s σ H xs us Q I rs q
 exact h' ag s σ H xs us Q I rs q
def g9:gN X (.type "list") (λxs H Q=>OB xs (λp ys=>aI X.K H p ys\/aT X.K H p ys) λys=>∀l,H l=none->Q (.ref l) (upd H l (.lst ys))):=by
 intro ag s σ H xs us Q I r h;obtain⟨p,ys,rfl,hq,q⟩:=h;obtain⟨u,rfl,rx⟩:=vals1 r;cases rx;have fin:∀(aU:List Value),ba ys aU->ys.length<=sizeLine->∀(h':Heap) (c':Nat),(∀b o',s.heap.get? b=some o'->h'.get? b=some o') ->
   h'.get? s.heap.objs.size=some { cls:=.type "list",dict:=none,data:=.seq aU.toArray c',slots:=#[] }->EP X ag σ Q (.ref s.heap.objs.size) { s with heap:=h' }:=λaU r' hz h' c' kp e =>
  ⟨.ref s.heap.objs.size,_,I.laid (t':=s.toks) kp (aK _) (show cK X.prog X.w _ h' _ (.lst ys) from ⟨hz,aU,c',r',e⟩),rfl,q _ (I.cw.fresh (aK _))⟩
 rcases hq with hq | hq
 .obtain⟨aU,r',pl,hz⟩:=I.list hq;have bM:=r'.length;obtain⟨o,ho,hc,n,hd⟩:=pl.isList;exact call_list_seq p (.inl rfl) ho hc hd (λh' c' kp e=>fin aU r' hz h' c' kp e) (by simp only [cP] <;> omega)
 obtain⟨aU,r',pl,hz⟩:=I.tuple hq;have bM:=r'.length;obtain⟨o,ho,hc,n,hd⟩:=pl;exact call_list_seq p (.inr rfl) ho hc hd (λh' c' kp e=>fin aU r' hz h' c' kp e) (by simp only [cP] <;> omega)
def jo:gN X (.type "tuple") (λxs H Q=>∃p ys,xs=[.ref p]/\((aI X.K H p ys/\∀l,H l=none->Q (.ref l) (upd H l (.tup ys)))\/(aT X.K H p ys/\Q (.ref p) H))):=by
 intro ag s σ H xs us Q I r h;obtain⟨p,ys,rfl,h⟩:=h;obtain⟨u,rfl,rx⟩:=vals1 r;cases rx;rcases h with ⟨hq,q⟩ | ⟨hq,q⟩
 .obtain⟨aU,r',pl,hz⟩:=I.list hq;have bM:=r'.length;refine call_tuple_list pl.isList (λh' kp=>?_) (by simp only [cP] <;> omega)
  have I1:Inv X ag σ H { s with heap:=h' }:=I.kept (t':=s.toks) kp;have I2:Inv X ag σ (upd H h'.objs.size (.tup ys)) { s with heap:=h'.push { cls:=.type "tuple",data:=.seq aU.toArray } } :=
   I1.laid (t':=s.toks) (λb o e=>bW _ e) (aK _) (show cK X.prog X.w _ _ _ (.tup ys) from ⟨hz,aU,r',IsTup.new _ _⟩)
  exact⟨.ref h'.objs.size,_,I2,rfl,q _ (I1.cw.fresh (aK _))⟩
 obtain⟨aU,r',pl,hz⟩:=I.tuple hq;exact call_tuple_same pl ⟨.ref p,H,I,rfl,q⟩
def Za (K:a0)(T:String)(x:V)(H:Hp):Prop:=match x with
 | .str _=>T = "str"
 | .int _=>T = "int"
 | .ref p=>(T = "list" /\ ∃xs,aI K H p xs)\/(T = "tuple" /\ ∃o,K.lookup p=some o/\o.cls=.type "tuple" /\ o.dict=none) \/
   (T = "dict" /\ ((∃kvs,H p=some (.dK kvs))\/∃kvs,H p=some (.dT kvs)))\/(T = "set" /\ ∃S n,H p=some (.set S n))
 | _=>False
def Md {ag:List (Addr×Obj)}{σ:St}{H:Hp}{s:Shared}{T:String}{x:V}{v:Value}(I:Inv X ag σ H s)(r:RelV x v)(ty:Za X.K T x H) :
  s.TypeIs v T/\∀a,v=.ref a->∃ob,s.heap.get? a=some ob/\ob.dict=none:=by
 cases x with
 | str z =>
  obtain⟨t,rfl⟩:=r;cases (show T = "str" from ty);exact⟨typeIs_str s z t,λ_ e=>nomatch e⟩
 | int i =>
  obtain⟨t,rfl⟩:=r;cases (show T = "int" from ty);exact⟨typeIs_int s i t,λ_ e=>nomatch e⟩
 | ref p =>
  cases r;rcases ty with ⟨rfl,xs,hq⟩ | ⟨rfl,o,hk,hc,hd⟩ | ⟨rfl,hk⟩ | ⟨rfl,S,n,hk⟩
  .obtain⟨aU,_,pl,_⟩:=I.list hq;refine⟨pl.isList.typeIs,λa e=>?_⟩;cases e;obtain⟨o,n,e,c,hd,_⟩:=pl;exact⟨o,e,hd⟩
  .refine⟨⟨o,I.zI p o hk,hc⟩,λa e=>?_⟩;cases e;exact⟨o,I.zI _ o hk,hd⟩
  .have z:∃o,s.heap.get? p=some o/\o.ExactDict:=by
    rcases hk with ⟨kvs,hk⟩ | ⟨kvs,hk⟩
    .obtain⟨_,_,_,_,o,_,_,e,ex,_⟩:=I.cw p _ hk;exact⟨o,e,ex⟩
    obtain⟨_,_,_,_,o,_,_,e,ex,_⟩:=I.cw p _ hk;exact⟨o,e,ex⟩
   obtain⟨o,e,ex⟩:=z;refine⟨⟨o,e,ex.1⟩,λa e2=>?_⟩;cases e2;exact⟨o,e,ex.2.1⟩
  obtain⟨o,_,_,_,e,ex,_⟩:=I.cw p _ hk;refine⟨⟨o,e,ex.1⟩,λa e2=>?_⟩;cases e2;exact⟨o,e,ex.2.1⟩
 | _=>exact False.elim ty
def tBM (K:a0)(T:String)(r:V->List V->Hp->VK->Prop)(to:TE)(t:TA):TE:=λσ H Q=>to σ H λx H1=>Za K T x H1/\t σ H1 λxs H2=>r x xs H2 Q
variable {o e:Expr}{es:List Expr}{to:TE}{t:TA}{name:Str}{apos iu:Pos}{T id:String}{r:V->List V->Hp->VK->Prop}
def fY (pa:PlainAttrs T)(slot:Slot T name id)(hty:typeOf (.builtin id)=pure (.type "method_descriptor"))(hm:Tg X id r)(ho:PE X o to)(ha:PA X (e::es) t)
  (R6:attributeBase o name X.env (eval o X.env)=eval o X.env:=by rfl)
  (Xf:((backTo iu (starEach (e::es) X.env)).all (λx=>!x.1) && (backToKw iu (keywordEach [] X.env)).all (λx=>x.1.isSome)
   && decide ((e::es).length+([]:List Keyword).length+(if ([]:List Keyword).isEmpty then 0 else 1) < 30))=true:=by rfl)
  (RI:(apos.endLine == iu.line)=true:=by rfl)(hs:starEach (e::es) X.env=(false,eval e X.env)::starEach es X.env:=by rfl)(NC:(backTo iu (starEach es X.env)).any (·.1)=false:=by rfl) :
  PE X (.Call (.Attribute o name apos) (e::es) [] iu) (tBM X.K T r to t):=by
 intro ag s σ H Q I h;refine wpAny_Call_method_late R6 Xf RI rfl (df (ho ag s σ H _ I h) λv s1 bL=>?_);obtain⟨x,H1,I1,r1,ty,q1⟩:=bL;obtain⟨h1,h2⟩:=Md I1 r1 ty;refine⟨T,id,pa,slot,hty,h1,h2,?_⟩;have hA:=ha iu ag s1 σ H1 _ I1 q1;rw [hs] at hA ⊢;refine wa (by show (false || (backTo iu (starEach es X.env)).any (·.1))=false;rw [NC] <;> rfl) (vY ?_)
 refine df hA λus s2 bL=>?_;obtain⟨vs,H2,I2,r2,q2⟩:=bL;exact hm ag s2 σ H2 x vs v us Q I2 r1 r2 q2
end
def MtM (X:Cx)(id:String)(r:V->List V->Hp->VK->Prop):Prop :=
 ∀(ag:List (Addr×Obj))(s:Shared)(σ:St)(H:Hp)(x:V)(xs:List V)(v:Value)(us:List Value)(Q:VK),Inv X ag σ H s->RelV x v->ba xs us->r x xs H Q ->
  wpAny (model X.prog X.w) X.A (call (.builtin id) (v::us)) (EP X ag σ Q) X.xe s
def ba.one:∀{x:V}{us:List Value},ba [x] us->∃u,us=[u]/\RelV x u
 | _,_,.cons r .nil=>⟨_,rfl,r⟩
def ba.two:∀{x y:V}{us:List Value},ba [x,y] us->∃u v,us=[u,v]/\RelV x u/\RelV y v
 | _,_,_,.cons r (.cons q .nil)=>⟨_,_,rfl,r,q⟩
def ba.zero:∀{us:List Value},ba [] us->us=[]
 | _,.nil=>rfl
theorem ba.eraseIdx:∀{xs:List V}{us:List Value}(i:Nat),ba xs us->ba (xs.eraseIdx i) (us.eraseIdx i)
 | _,_,_,.nil=>.nil
 | _,_,0,.cons _ t=>t
 | _,_,i+1,.cons r t=>.cons r (ba.eraseIdx i t)
theorem ba.reverse {xs:List V}{us:List Value}(h:ba xs us):ba xs.reverse us.reverse:=by
 induction h with
 | nil=>exact .nil
 | cons r t ih=>rw [List.reverse_cons,List.reverse_cons];exact ba.append ih (.cons r .nil)
section
variable {X:Cx}{ag:List (Addr×Obj)}{σ:St}{H:Hp}{s:Shared}{l b:Addr}{xs ys zs:List V}
def Inv.QZ {aU xn:List Value}{n:Nat}{f:Array Value->Array Value}{t':Nat}(I:Inv X ag σ H s)(hH:H l=some (.lst xs))
  (e:s.heap.get? l=some { cls:=.type "list",data:=.seq aU.toArray n })(hf:f aU.toArray=xn.toArray)(hv:ba ys xn)(hz:ys.length<=sizeLine) :
  Inv X ag σ (upd H l (.lst ys)) { s with heap:=s.heap.update l (Obj.mapSeq f),toks:=t' }:=by
 have q:=PySem.IsL.update e f;rw [hf] at q;refine I.write (x:=l) (e:=l) (by rw [hH];exact trivial) (.inl rfl) (λb' u hb hu=>(wb s.heap (Obj.mapSeq f) (fk hb)).trans hu) ⟨_,q⟩ ?_;exact⟨hz,xn,_,hv,q⟩
def Inv.Wf {aU:List Value}{t':Nat}(I:Inv X ag σ H s)(hv:ba ys aU)(hz:ys.length<=sizeLine) :
  Inv X ag σ (upd H s.heap.objs.size (.lst ys)) { s with heap:=s.heap.push { cls:=.type "list",data:=.seq aU.toArray },toks:=t' } :=
 I.laid (λ_ _ q=>bW _ q) (aK _) ⟨hz,aU,0,hv,cJ _ rfl⟩
theorem Inv.fresh (I:Inv X ag σ H s):H s.heap.objs.size=none:=I.cw.fresh (aK _)
def Inv.Gj (I:Inv X ag σ H s)(hH:H l=some (.lst xs)):xs.length<=sizeLine/\∃(aU:List Value) (n:Nat),ba xs aU/\xs.length=aU.length/\s.heap.get? l=some { cls:=.type "list",data:=.seq aU.toArray n }:=by
 obtain⟨z,aU,n,r,e⟩:=I.cw l _ hH;exact⟨z,aU,n,r,r.length,e⟩
def F_ {n:Nat}(h:n<=sizeLine):Builtin.List.listTooLong n=false:=by
 unfold Builtin.List.listTooLong;exact gJ ∅
end
section
variable {X:Cx}
inductive S_ (H:Hp)(x:V)(vs:List V)(R:Addr->List V->V->Prop):Prop
|mk(l:Addr)(xs:List V)(y:V)(e:x=.ref l)(e2:vs=[y])(h:H l=some (.lst xs))(z:xs.length < sizeLine)(q:R l xs y)
def I9:V->List V->Hp->VK->Prop:=λx vs H Q=>S_ H x vs λl xs y=>Q .gb (upd H l (.lst (xs++[y])))
def bA:MtM X "list.append" I9:=by
 intro ag s σ H x vs v us Q I rx rv h;obtain⟨l,xs,y,rfl,rfl,hH,hz,q⟩:=h;cases rx;obtain⟨u,rfl,ru⟩:=rv.one;obtain⟨z,aU,n,r,hl,e⟩:=I.Gj hH;refine call_meets F.slot_list_append ⟨_,e,rfl⟩ F.entry_list_append (F.args_list_append_2 _ _) (PySem.list_append l aU.toArray n u (by rw [cP];omega)) ⟨e,?_⟩;refine⟨.gb,_,I.QZ (xn:=aU++[u]) hH e (by simp) (r.append (.cons ru .nil)) ?_,rfl,q⟩;rw [bB,fS];omega
def I8:V->List V->Hp->VK->Prop:=λx vs H Q=>∃l b xs zs,x=.ref l/\vs=[.ref b]/\H l=some (.lst xs)/\H b=some (.lst zs)/\xs.length+zs.length<=sizeLine/\Q .gb (upd H l (.lst (xs++zs)))
def OW:MtM X "list.extend" I8:=by
 intro ag s σ H x vs v us Q I rx rv h;obtain⟨l,b,xs,zs,rfl,rfl,hH,hB,hz,q⟩:=h;cases rx;obtain⟨u,rfl,ru⟩:=rv.one;cases ru;obtain⟨z,aU,n,r,hl,e⟩:=I.Gj hH;obtain⟨z2,gr,n2,r2,uD,e2⟩:=I.Gj hB;have hsz:aU.toArray.size+gr.toArray.size<=sizeLine:=by rw [cP,cP];omega
 have RH:¬(!aU.toArray.isEmpty && Builtin.List.listTooLong (aU.toArray.size+gr.toArray.size))=true:=by
  rw [F_ hsz,Bool.and_false];exact dC
 refine call_meets F.slot_list_extend ⟨_,e,rfl⟩ F.entry_list_extend (F.args_list_extend_2 _ _)
  (AutoSeq1.list_extend_list_list_0 l aU.toArray n b gr.toArray n2 RH (by rw [cP];omega) ∅) ⟨e,e2,?_⟩
 refine⟨.gb,_,I.QZ (xn:=aU++gr) hH e (by simp) (r.append r2) ?_,rfl,q⟩;rw [bB];omega
def VL:R2:=λx y H Q=>YS (λl xs=>H l=some (.lst xs)) x y λxs zs=>∀p,H p=none->Q (.ref p) (upd H p (.lst (xs++zs)))
def iV:l_ X (binaryOp .Add) VL:=by
 intro ag s σ H x y v u Q I rx ry h;obtain⟨l,b,xs,zs,rfl,rfl,hH,hB,hz,q⟩:=h;cases rx;cases ry;obtain⟨z,aU,n,r,hl,e⟩:=I.Gj hH;obtain⟨z2,gr,n2,r2,uD,e2⟩:=I.Gj hB;refine PySem.P.add_list e e2 ?_ (by rw [cP,cP];omega);have ea:aU.toArray++gr.toArray=(aU++gr).toArray:=by simp
 rw [ea];exact⟨.ref _,_,I.Wf (t':=s.toks) (r.append r2) (by rw [bB];omega),rfl,q _ I.fresh⟩
end
section
variable {prog:Program}{w:World}{A:Around}{E:Value->Shared->Prop}{s:Shared}
set_option maxRecDepth 100000 in
end
section
variable {X:Cx}
end
end L2
namespace IF
open PySem PySem.W PySem.Calls PyProof.Rows
def qI {P:Params}{h:Heap}:∀(ns:List Int)(vs:List Value),WellAll P h vs (ns.map WData.int)->IntsAre vs ns:=by
 intro ns
 induction ns with
 | nil =>
  intro vs w;rw [mH] at w;cases w;exact .nil
 | cons n ns ih =>
  intro vs w;rw [cH] at w;cases w with
  | cons a b =>
   cases a;exact .cons _ _ (ih _ b)
def CS {l:OpenLaw}{n:Nat}(hn:l.most=some n){P:Params}{h:Heap}{args:List WData}{vals:List Value}
  (JJ:l.row.toRowW.claim.pre args=true)(WC:WellAll P h vals args) :
  ∃a vs ns,vals=[Value.ref a]/\args=[WData.list (ns.map WData.int)]/\h.get? a=some { cls:=.type "list",data:=.seq vs.toArray }/\IntsAre vs ns/\ns.length<=n:=by
 have Ub:WShape.hasAll [] args [.list .int]=true:=(pre_splitW JJ).1;have hc:l.pre.holds [] { args:=args }=true:=(pre_splitW JJ).2;obtain⟨d,r,rfl,h1,h2⟩:=hasAllW_cons Ub;obtain rfl:=hasAllW_nil h2;obtain⟨xs,rfl,h3⟩:=hasW_list h1;obtain⟨ns,rfl⟩:=items_int h3;have bM:ns.length<=n:=by
  unfold OpenLaw.pre at hc;have h4:(WTm.not (.lt (.lit (.int (n:Int))) (.len (.arg 0)))).holds [] { args:=[.list (ns.map .int)] }=true:=by
   have h4:=(holds_andW hc).1;rw [hn] at h4;exact h4
  have h5:=condW_of h4 (w_not (w_lt w_lit (w_len_list (w_arg rfl))));rw [ar] at h5;refine Nat.le_of_not_lt λq=>?_;have q':(n:Int) < ((ns.length:Nat):Int):=by omega
  first
   | (rw [cU q'] at h5;exact absurd h5 nofun)
   | (simp at h5;omega)
 cases WC with
 | cons w1 w2 =>
  cases w2;cases w1 with
  | list ho j9=>exact⟨_,_,ns,rfl,rfl,ho,qI ns _ j9,bM⟩
def CY (l:OpenLaw)(args:List WData):l.row.toRowW.claim.post args (.bool true) args=true :=
 postW_of (r:=l.row.toRowW) (X:=(true == true))
  (show WShape.has [] (.bool true) .bool=true by first | rfl | decide | simp [WShape.has,WShape.arms,WShape.armsAll])
  (show (WTm.eq .res (.lit (.bool true))).value [] { args:=args,res:=some (.bool true),after:=args }=some (.bool (true == true)) from w_eq_bool (w_res rfl) w_lit) rfl
def qC {l:OpenLaw}{n:Nat}{q:Program}{loose:List Str}{XP:(Str->Option Value)->Heap->Prop}{YP:World->Heap->Prop}{d:DefRec}
  (hn:l.most=some n)(NO:d.params.defaults=[])
  (call:∀(w:World)(s₀ s₁:Shared)(mg mb:Str->Option Value)(fa:Addr)(o:Obj)(pm cd doc:Value)(a:Addr)(vs:List Value)(ns:List Int),
   Ground q loose [] XP w s₀ mg mb s₁.heap->YP w s₁.heap ->
   s₁.heap.get? fa=some o->o.data=.func (docDef d.name d.params d.body d.scope pm cd doc)->s₁.heap.CodeRec cd d.name->mg d.name=some (.ref fa) ->
   s₁.heap.get? a=some { cls:=.type "list",data:=.seq vs.toArray }->IntsAre vs ns->ns.length<=n->s₁.gens=#[] ->
   codeAny (model l.prog w) callerA (.call (.ref fa) ⟨[.ref a],[]⟩) (λr s'=>r=.ok (.ret (.bool true))/\OldK s₁.heap s'.heap/\s'.os=s₁.os/\AllBare s'.gens) s₁) :
  WalkO q loose XP YP l.row.toRowW d [] (λf vs=>PySem.call f vs):=by
 intro w s₀ s₁ mg mb G Y fa o pm cd doc dV kV ho hd xr hD NH hg args vals as JJ aam hrd WC hlo;obtain rfl:dV=.none:=Dflts.none hD NO;obtain rfl:kV=.none:=Dflts.noKw hD;obtain⟨a,vs,ns,rfl,rfl,GK,hints,bM⟩:=CS hn JJ WC;refine enter_call (jR (call w s₀ s₁ mg mb fa o pm cd doc a vs ns G Y ho (fd_plain hd) xr NH GK hints bM hg) λr s' hq=>?_);obtain⟨rfl,h2,h3,h4⟩:=hq;exact⟨.inl ⟨.bool true,.bool true,[],rfl,λ_=>rfl,.bool true,CY l _,λ_=>⟨List.Pairwise.nil,λ_ hm=>(nomatch hm)⟩⟩,h2,h3,h4⟩
section
variable {prog:Program}{w:World}{A:Around}{E:Value->Shared->Prop}{s:Shared}{K:Frag}
def sS (h:Heap):Heap:={ h with objs:=#[] }
def mZ (h:Heap)(b:Addr):(sS h).get? b=none:=by
 cases e:(sS h).get? b with
 | none=>rfl
 | some o=>exact absurd (bo e) (me _)
def ledger (h:Heap)(L d:Addr):List (Addr×Obj):=(List.range h.objs.size).filterMap λa=>if a=L\/a=d then none else (h.get? a).map λo=>(a,o)
def j4 {h:Heap}{L d a:Addr}{o:Obj}:(a,o)∈ledger h L d↔a≠L/\a≠d/\h.get? a=some o:=by
 unfold ledger;rw [List.mem_filterMap];constructor
 .rintro⟨b,_,e⟩
  split at e
  .cases e
  rename_i hb
  obtain⟨o',ho,e'⟩:=b_.mp e;cases e';exact⟨λq=>hb (.inl q),λq=>hb (.inr q),ho⟩
 rintro⟨n1,n2,ho⟩;refine⟨a,iK.mpr (bo ho),?_⟩;rw [ax (show ¬(a=L\/a=d) from λq=>q.elim n1 n2),ho] <;> rfl
def yE {h:Heap}{L d:Addr}{od:Obj}(Eo:d≠L)(ho:h.get? d=some od):News (sS h) L h ([]++(d,od)::ledger h L d):=by
 rintro⟨a,o⟩ hp;rcases bO.mp hp with e | hp
 .cases e;exact⟨ho,Eo,mZ _ _⟩
 obtain⟨n1,n2,e⟩:=j4.mp hp;exact⟨e,n1,mZ _ _⟩
def N0 {h:Heap}{L:Addr}{m:Str->Option Value}(n:h.Ns L m):Fr (sS h) L h m :=
 ⟨n,λb o e=>(by rw [mZ] at e;cases e),fj _⟩
end
end IF
namespace L2
open PySem PySem.Spec PyProof.Rows
theorem pI:∀{vs:List Value}{ns:List Int},IntsAre vs ns->ba (ns.map V.int) vs
 | _,_,.nil=>.nil
 | _,_,.cons n t h=>.cons ⟨t,rfl⟩ (pI h)
def OG (H:Hp):Prop:=∀b,H b=none\/∃o xs,H b=some (.ky o (.lst xs))
def Gp {P:Program}{w:World}{K:a0}{mg mb:Str->Option Value}{CX:zD}{k:Nat}{fa a:Addr}{fd:FuncData}{x:Str}{sp:Sp}{s₁:Shared}{vs:List Value}{ns:List Int}
  (KX:K.In s₁.heap)(rh:s₁.heap.Ns mainGlobals mg)(hb:s₁.heap.Ns builtinsNs mb)(NR:∀x:Str,x ≠ "__name__" -> mb x=bootBuiltins x)(NI:s₁.heap.NoLimit)(hg:s₁.gens=#[])
  (ha:s₁.heap.get? a=some { cls:=.type "list",data:=.seq vs.toArray })(hi:IntsAre vs ns)(hl:ns.length<=sizeLine)(hr:fI k callerA)
  (F:∀base:Heap,K.In base->base.Ns mainGlobals mg->bR P w K mg base CX k fa fd [x] sp)(oI:∀(s:Shared)(u:Value),BindsTo s fd ⟨[u],[]⟩ [(x,u)])
  (uv:∀H:Hp,OG H->aI K H a (ns.map V.int)->sp [.ref a] H (λv _=>v=.bl true) λ_ _ _=>False)
  (NX:∀H e s',CX [] H s₁ (λ_ _ _=>False) e s'->False) :
  codeAny (model P w) callerA (.call (.ref fa) ⟨[.ref a],[]⟩) (λr s'=>r=.ok (.ret (.bool true))/\OldK s₁.heap s'.heap/\s'.os=s₁.os/\AllBare s'.gens) s₁:=by
 have rv:=pI hi;have Nk:=hi.length;have core:∀H:Hp,OG H->aI K H a (ns.map V.int)->mF P w H s₁.heap->(∀b,H b≠none->b=a)->(H a≠none->K.lookup a=none) ->
   codeAny (model P w) callerA (.call (.ref fa) ⟨[.ref a],[]⟩) (λr s'=>r=.ok (.ret (.bool true))/\OldK s₁.heap s'.heap/\s'.os=s₁.os/\AllBare s'.gens) s₁:=by
  intro H hO hS cw hA hK;have lY:∀{b:Addr}{o:Obj},s₁.heap.get? b=some o->H b=none->(nu s₁.heap H).get? b=some o:=λe n=>yP e n;have QL:∀{b:Addr}{o:Obj}{es:Array DictEntry}{ep:Nat},s₁.heap.get? b=some o->o.data=.dict es ep->H b=none:=λ{b o es ep} e d=>by
   cases q:H b with
   | none=>rfl
   | some u =>
    have e':b=a:=hA b (by rw [q];simp);subst e';rw [ha] at e;cases e;have d':Data.seq vs.toArray _=Data.dict es ep:=d;cases d'
  have Jv:∀{b:Addr}{m:Str->Option Value},s₁.heap.Ns b m->(nu s₁.heap H).Ns b m:=λ{b m} ⟨o,es,ep,e,d,r⟩=>⟨o,es,ep,lY e (QL e d),d,r⟩;have R9:K.In (nu s₁.heap H):=λb o e=>lY (KX b o e) (by
   cases q:H b with
   | none=>rfl
   | some u =>
    have e':b=a:=hA b (by rw [q];simp);subst e';rw [hK (by rw [q];simp)] at e;cases e)
  have hM:Mod K mg (nu s₁.heap H):=⟨R9,Jv rh,⟨mb,Jv hb,NR⟩,let ⟨mc,h1,h2⟩:=NI;⟨mc,Jv h1,h2⟩⟩;have e0:qN P w K mg (nu s₁.heap H) callerA [] s₁ H:=⟨rfl,hM,λb o e=>Cd e,Nat.le_of_eq (vk _ _),trivial,λb hb=>absurd (show b∈([]:List Addr) from hb) (by simp),cw,.of_eq hg⟩;refine jR ((F _ R9 (Jv rh)).run callerA [] s₁ H ⟨[.ref a],[]⟩ [.ref a] [.ref a] _ _ hr e0 (oI s₁ (.ref a)) (.cons rfl .nil) (uv H hO hS)) λr s' h=>?_;cases r with
  | error e=>exact(NX H e s' h).elim
  | ok fl =>
   cases fl with
   | next=>exact False.elim h
   | brk=>exact False.elim h
   | cont=>exact False.elim h
   | ret u =>
    obtain⟨v,H',os,bare,un,JK,r',q⟩:=h;have q':v=.bl true:=q;subst q';obtain rfl:u=Value.bool true:=r';refine⟨rfl,OldK.of_keep λb o e=>?_,os,bare⟩;cases q:H b with
    | none=>exact un.keep b o e q (by intro z;exact absurd (show b∈([]:List Addr) from z) (by simp)) (by simp)
    | some u =>
     rcases hO b with z | ⟨ob,xs,z⟩
     .rw [q] at z;cases z
     have z2:=un.nF b ob _ z;obtain⟨e1,_⟩:=cw b _ z;obtain⟨e2,_⟩:=JK b _ z2;rw [e] at e1;cases e1;exact e2
 cases hk:K.lookup a with
 | some o =>
  have e:=KX a o hk;rw [ha] at e;cases e;refine core (λ_=>none) (λ_=>.inl rfl) (.inr ⟨_,vs.toArray,_,hk,rfl,rfl,rfl,by rw [cP,Nk];exact hl,by simpa using rv⟩) (λb u z=>by have z':(none:Option HO)=some u:=z;cases z') (λb z=>absurd rfl z) λz=>absurd rfl z
 | none =>
  refine core (λb=>if b=a then some (.ky { cls:=.type "list",data:=.seq vs.toArray } (.lst (ns.map V.int))) else none) (λb=>?_) (.inl (.inr ⟨{ cls:=.type "list",data:=.seq vs.toArray },aw rfl⟩)) (λb u z=>?_) (λb z=>?_) λ_=>hk
  .by_cases hb:b=a
   .exact .inr ⟨_,_,aw hb⟩
   exact .inl (ax hb)
  .by_cases hb:b=a
   .have z':=(aw hb).symm.trans z;cases z';subst hb;exact⟨ha,by rw [ar];exact hl,vs,_,rv,ha⟩
   have z':=(ax hb).symm.trans z;cases z'
  by_cases hb:b=a
  .exact hb
  exact absurd (ax hb) z
abbrev KOf {K:a0}{h:Heap}(_:K.In h):a0:=K
def Tx {l:PySem.W.OpenLaw}{n k:Nat}{q:Program}{loose:List Str}{XP:(Str->Option Value)->Heap->Prop}{YP:World->Heap->Prop}{d:DefRec}{K:Params->a0}{CX:World->zD}{sp:World->Sp}{x:Str}
  (hn:l.most=some n)(GU:n<=sizeLine)(NO:d.params.defaults=[])(hr:fI k callerA)
  (hY:∀(w:World)(h:Heap),YP w h->(K w.params).In h)
  (F:∀(w:World)(mg:Str->Option Value)(fa:Addr)(h:Heap),(K w.params).In h->h.Ns mainGlobals mg->mg d.name=some (.ref fa) ->
   ∃fd:FuncData,(∀(s:Shared)(u:Value),BindsTo s fd ⟨[u],[]⟩ [(x,u)]) /\
    ∀base:Heap,(K w.params).In base->base.Ns mainGlobals mg->bR l.prog w (K w.params) mg base (CX w) k fa fd [x] (sp w))
  (uv:∀(w:World)(H:Hp)(a:Addr)(ns:List Int),ns.length<=n->OG H->aI (K w.params) H a (ns.map V.int)->sp w [.ref a] H (λv _=>v=.bl true) λ_ _ _=>False)
  (NX:∀(w:World)(H:Hp)(s:Shared)(e:Value)(s':Shared),CX w [] H s (λ_ _ _=>False) e s'->False) :
  PySem.W.WalkO q loose XP YP l.row.toRowW d [] (λf vs=>PySem.call f vs):=by
 refine IF.qC hn NO λw s₀ s₁ mg mb fa o pm cd doc a vs ns G Y ho hd xr NH GK hints bM hg=>?_;have KX:=hY w _ Y;obtain⟨fd,hb,hF⟩:=F w mg fa _ KX G.T.g NH;exact Gp KX G.T.g G.T.b G.T.builtins G.T.nolimit hg GK hints (eK bM GU) hr hF hb (λH hO hS=>uv w H a ns bM hO hS) λH e s'=>NX w H s₁ e s'
def du (s:Stmt):Arguments:=match s with
 | .FunctionDef _ a _ _ _ _ _ _ _ _=>a
 | _=>{ posonlyargs:=[],args:=[],vararg:=none,kwonlyargs:=[],kw_defaults:=[],kwarg:=none,defaults:=[] }
def cE (s:Stmt):List Stmt:=match s with
 | .FunctionDef _ _ b _ _ _ _ _ _ _=>b
 | _=>[]
def aA (s:Stmt):Scope:=match s with
 | .FunctionDef _ _ _ _ _ _ sc _ _ _=>sc
 | _=>{ kind:=.function,names:=[],isGenerator:=false,isCoroutine:=false }
abbrev fK:zD:=λ_ _ _ _ _ _=>False
abbrev E0:XK:=λ_ _ _=>False
def mq {X:Cx}:Passes fK X E0:=λ_ _ _ _ _ _ _ h=>h.elim
structure iG (K:a0)(x qual:Str)(st:Stmt)(f:Addr)(fd:FuncData):Prop where
 ex:∃(oc:Value)(od:Option Addr)(kV doc pm:Value)(an:Option Addr)(eJ ct:Value)(wY:Array (Option Value)),
  fd=PySem.W.fnOf x qual (du st) (cE st) (aA st) .none kV doc pm an eJ ct/\K.lookup f=some ⟨oc,od,.func fd,wY⟩/\PySem.W.codeIn K eJ qual=true
 kp:PySem.W.keepIn K (.ref f)=true
section
variable {P:Program}{w:World}{K:a0}{mg:Str->Option Value}{base:Heap}
def iG.ok {x qual:Str}{st:Stmt}{f:Addr}{fd:FuncData}{N ps:List Str}{k:Nat}{sp:Sp}(F:iG K x qual st f fd)(S:aN N ps (aA st))(len:∀vs H Q E,sp vs H Q E->vs.length=ps.length)
  (jH:∀(eJ:Value)(A:Around)(outer:List Env)(s:Shared)(H:Hp)(vs:List V)(Q:VK)(E:XK),fI k (A.deeper (envOfC qual (aA st) s.heap.objs.size f eJ))->sp vs H Q E ->
   ∃t,Bp (qg fK P w K mg base N qual (aA st) f eJ A outer s H E).C_ (cE st) t/\t { nx:=λ_ H'=>Q .gb H',rt:=Q } (start N vs) H):bR P w K mg base fK (k+1) f fd ps sp:=by
 obtain⟨oc,od,kV,doc,pm,an,eJ,ct,wY,rfl,lk,xr⟩:=F.ex;refine Hc lk xr S len λA outer s H vs Q E hr uv=>?_;obtain⟨t,h,q⟩:=jH eJ A outer s H vs Q E hr uv;exact⟨t,h.C_,q⟩
def iG.binds {x qual:Str}{st:Stmt}{f:Addr}{fd:FuncData}{ps:List Str}(F:iG K x qual st f fd)
  (h:∀(kV doc pm:Value)(an:Option Addr)(eJ ct:Value)(us:List Value),us.length=ps.length->bindArgs (PySem.W.fnOf x qual (du st) (cE st) (aA st) .none kV doc pm an eJ ct) ⟨us,[]⟩=pure (ps.zip us)):Binds K fd ps []:=by
 obtain⟨oc,od,kV,doc,pm,an,eJ,ct,wY,rfl,lk,xr⟩:=F.ex;exact .all (h kV doc pm an eJ ct)
def G_ {x qual:Str}{st:Stmt}{f:Addr}{oc:Value}{od an:Option Addr}{wY:Array (Option Value)}{kV doc pm eJ ct:Value}(l:K.lookup f=some ⟨oc,od,.func (PySem.W.fnOf x qual (du st) (cE st) (aA st) .none kV doc pm an eJ ct),wY⟩)
  (c:PySem.W.codeIn K eJ qual=true)(k:PySem.W.keepIn K (.ref f)=true):iG K x qual st f (PySem.W.fnOf x qual (du st) (cE st) (aA st) .none kV doc pm an eJ ct):=⟨⟨oc,od,kV,doc,pm,an,eJ,ct,wY,rfl,l,c⟩,k⟩
end
def ff {A:Around}{k:Nat}(hr:fI k A):A.units+1 < cLine:=rQ (Nat.add_le_add_left (by decide:1<=64) _) hr.units
section
variable {X:Cx}
def pv (i:Nat){x:Str}{pos:Pos}(hN:X.N[i]?=some x:=by rfl)(hv:UW X.env.scope x:=by first | exact Or.inl rfl | exact Or.inr (a_ rfl) | exact Or.inr (Or.inr rfl))(hd:(x == ("__debug__":Str))=false:=by decide)
  (xr:(x == ("__classdict__":Str))=false:=by decide):PE X (.Name x pos) (gO i):=MU hN hv hd xr
end
def l7 {A B:Prop}(h:B):if false=true then A else B:=by
 rw [ax dC];exact h
def Nu {A B:Prop}(h:A):if true=true then A else B:=by
 rw [aw rfl];exact h
def cx {c A B:Prop} [Decidable c] (h1:c->A)(h2:¬c->B):if c then A else B:=by
 by_cases h:c
 .rw [aw h];exact h1 h
 rw [ax h];exact h2 h
def aE (H H':Hp):Prop:=∀b o,H b=some o->H' b=some o
def aE.refl (H:Hp):aE H H:=λ_ _ h=>h
def aE.trans {H H1 H2:Hp}(a:aE H H1)(b:aE H1 H2):aE H H2:=λc o h=>b c o (a c o h)
def aE.free {H H':Hp}(e:aE H H'){l:Addr}(h:H' l=Option.none):H l=Option.none:=by
 cases q:H l with
 | none=>rfl
 | some o =>
  rw [e l o q] at h;cases h
def aE.seq {K:a0}{H H':Hp}{a:Addr}{xs:List V}(e:aE H H')(h:aI K H a xs):aI K H' a xs:=by
 rcases h with (h | ⟨o,h⟩) | h
 .exact .inl (.inl (e _ _ h))
 .exact .inl (.inr ⟨o,e _ _ h⟩)
 exact .inr h
end L2
namespace HD
open PySem PySem.W
def Fu (st:SharedT->Thread->Option (SharedT×Thread))(ok:Thread->Bool):Nat->SharedT->Thread->Option SharedT
 | 0,_,_=>none
 | n+1,s,t=>match through t with
  | true=>some s
  | false=>match ok t with
   | false=>none
   | true=>match st s t with
    | some (s',t')=>Fu st ok n s' t'
    | none=>none
theorem B5 {tb:String->Option Builtin}{p:Program}{w:World}{n₀:Nat}{ann:Option Value}:∀{n:Nat}{s s':SharedT}{t:Thread},Fu (stepT (denote tb) p w) (stepOk n₀ ann) n s t=some s'->topRun tb p w n₀ ann n s.abs t=some s'.abs
 | 0,_,_,_,h=>by cases h
 | n+1,s,s',t,h=>by
  unfold Fu at h;unfold topRun;cases he:through t with
  | true=>rw [he] at h;cases h;rfl
  | false =>
   rw [he] at h;cases hk:stepOk n₀ ann t with
   | false=>rw [hk] at h;cases h
   | true =>
    rw [hk] at h;cases hs:stepT (denote tb) p w s t with
    | none=>rw [hs] at h;cases h
    | some r=>obtain⟨s₂,t₂⟩:=r;rw [hs] at h;rw [stepT_spec hs];exact B5 h
def ZD:List Obj->Nat->BT->BT
 | [],_,t=>t
 | o::r,i,t=>ZD r (i+1) (t.ins i o)
noncomputable def Cy (P:Params):BT:=ZD (boot_heap P).objs.toList 0 .nil
def DW (P:Params):absHeap (Cy P) 11 {}=boot_heap P:=by kernel_rfl
def N2 {β:Type}:Obj->(Obj->β)->β
 | ⟨c,d,t,s⟩,k=>k ⟨c,d,t,s⟩
def ro {β:Type}:List Obj->(List Obj->β)->β
 | [],k=>k []
 | x::r,k=>N2 x λy=>ro r λys=>k (y::ys)
theorem tJ {β:Type}:∀(l:List Obj)(k:List Obj->β),ro l k=k l
 | [],_=>rfl
 | ⟨c,d,t,s⟩::r,k=>by
  show ro r (λys=>k (⟨c,d,t,s⟩::ys))=_;rw [tJ r]
def Gm (p q:Program) (loose:List Str)(Xt:Shared->Bool){α:Type}(Yf:Shared->α)(g0:Bool)(h₀:Heap)(s:Shared) :=
 ((staticsOk (importedModules p.main.body) h₀ s.heap && namesBound p s.heap && gensDone s && laidKept h₀ s.heap),openSeen q loose (importedModules p.main.body) Xt g0 s,Yf s)
def E7 {β:Type}(f:Shared->β)(s:SharedT):β:=ro (s.tree.list s.n) λl=>f ⟨⟨l.toArray,s.life⟩,s.gens,s.drawn,s.toks,s.os⟩
def E6 {β:Type}(f:Shared->β)(s:SharedT):E7 f s=f s.abs:=tJ _ _
def Q3 {p q:Program}{loose:List Str}{Xt:Shared->Bool}{α:Type}{Yf:Shared->α}{Ya:World->α}{N:Nat}{g0:Bool}{ann:Option Value}{M:Nat}
  (FN:∀w:World,(fencedOpening treeTable p w N).map (λs=>(s.heap,s.gens,s.drawn,s.toks))=some (boot_heap w.params,Array.mk [],boot_drawn,boot_toks))
  (size:∀w:World,((boot_heap w.params).isNs mainGlobals && (Array.mk []:Array GenState).size == 0,(boot_heap w.params).objs.size,(boot_heap w.params).nsMap mainGlobals "__annotations__")=(true,11,ann))
  (run:∀(w:World)(os:OsState),(Fu (stepT (denote treeTable) p w) (stepOk 11 ann) M ⟨Cy w.params,11,{},Array.mk [],boot_drawn,boot_toks,os⟩ (topStub p)).map (E7 (Gm p q loose Xt Yf g0 (boot_heap w.params)))=some (true,openGood q loose,Ya w))
  (le:Nat.ble M N=true):LeftO p q loose Xt Yf Ya N g0:=λw=>by
 obtain⟨⟨h,gs,d,k,os⟩,e,e'⟩:=b_.mp (FN w);obtain⟨rfl,rfl,rfl,rfl⟩:h=boot_heap w.params/\gs=Array.mk []/\d=boot_drawn/\k=boot_toks:=by simpa using e'
 obtain⟨z1,z2,z3⟩:_/\_/\_:=by simpa only [rH] using size w
 obtain⟨s',r0,l0⟩:=b_.mp (run w os);rw [E6] at l0;obtain⟨l1,l2,l3⟩:_/\_/\_:=by simpa only [Gm,rH] using l0
 have r:=B5 r0;have ea:SharedT.abs ⟨Cy w.params,11,{},Array.mk [],boot_drawn,boot_toks,os⟩=⟨boot_heap w.params,Array.mk [],boot_drawn,boot_toks,os⟩:=by
  unfold SharedT.abs;rw [DW]
 rw [ea] at r;have r:=topRun_mono (N - M) _ _ _ _ r;rw [show M+(N - M)=N by have:=Nat.le_of_ble_eq_true le;omega] at r;have t:topFrom treeTable p w N ⟨boot_heap w.params,Array.mk [],boot_drawn,boot_toks,os⟩=some s'.abs:=by
  unfold topFrom;dsimp only;rw [z1,z2,z3,r];show (match staticsOk (importedModules p.main.body) (boot_heap w.params) s'.abs.heap && namesBound p s'.abs.heap && gensDone s'.abs && laidKept (boot_heap w.params) s'.abs.heap with | true=>_ | false=>_)=_
  rw [l1]
 unfold openEnds;rw [e];show (topFrom treeTable p w N _).map _=_;rw [t];exact congrArg some (jP l2 l3)
end HD
set_option maxHeartbeats 0
namespace HD
open PySem PySem.W L2 PySem.Challenge
def dE (P:Params)(x:Str)(t:Tok)(v:Value):DictEntry:=⟨PyData.keyHash P x,.str x t,v⟩
def top (p:Program) (i:Nat):Stmt:=p.main.body.getD i (.Pass ⟨0,0,0,0⟩)
def jD (p:Program) (i j:Nat):Stmt:=match top p i with
 | .ClassDef _ _ _ body _ _ _ _ _ _ _=>body.getD j (.Pass ⟨0,0,0,0⟩)
 | _=>.Pass ⟨0,0,0,0⟩
def posOf (s:Stmt):Pos:=match s with
 | .FunctionDef _ _ _ _ _ _ _ _ _ p=>p
 | _=>⟨0,0,0,0⟩
def cF (a:Addr)(n q:Str)(i:Nat)(l m:Int)(x y:Addr)(u v s t:Value)(z:Int)(w:Nat):Addr×Obj:=(a,⟨.type "code",none,.fields #[.str n i,.str q (i+1),.str "/claim/cut.py" (i+2),.int l 0,.int m 0,.int 0 0,.int 0 0,.int 3 0,.ref x,.bool true,.int 181 0,.ref y,u,v,s,t,.int z 0,.int l 0,.str "/claim/cut.py" w],#[]⟩)
def fF (a:Addr)(n q:Str)(s:Stmt)(m:Value):Addr×Obj:=(a,⟨.type "function",none,.func (fnOf n q (du s) (cE s) (aA s) .none .none .none m none (.ref (a-1)) .none),#[]⟩)
def dR (P:Params)(x:Str)(t:Tok)(a:Addr):DictEntry:=dE P x t (.ref a)
def m0:Value:=.str "__main__" 164
def m1:Value:=.str "wright.begins" 194
def m2:Value:=.str "wright.rules" 205
def m3:Value:=.str "wright.begin_tables" 237
def m4:Value:=.str "wright.errors" 333
def m5:Value:=.str "wright.loops" 494
def m6:Value:=.str "wright.tree_sizes" 524
def m7:Value:=.str "wright.grammar_faults" 545
def m8:Value:=.str "wright.least_trees" 572
def m9:Value:=.str "wright.grammars" 658
def oX:Value:=.str "law_wright_k22_words_that_begin_parts" 701
noncomputable def K' (p:Program)(P:Params):Frag:=[
 (2,⟨.none,none,.dict #[] 0,#[]⟩),
 (3,⟨.type "dict",none,.dict #[dE P "__name__" 165 (.str "law_wright_k22_words_that_begin_parts" 701),dE P "__doc__" 166 (.none),dE P "__package__" 167 (.none),dE P "__loader__" 168 (.builtin "__main__.__loader__#opaque"),dE P "__spec__" 169 (.none),dR P "__annotations__" 170 6,dR P "__builtins__" 171 4,dE P "__file__" 173 (.str "/claim/cut.py" 172),dE P "__cached__" 174 (.none),dR P "_wall" 193 21,dR P "begin_words" 204 28,dR P "heads_of" 212 33,dR P "words_in" 218 38,dR P "numbers_by_name" 224 43,dR P "standings_by_part" 236 50,dR P "found_empties" 244 55,dR P "first_places" 255 62,dR P "BeginTable" 332 110,dR P "WrightError" 352 124,dR P "NoRules" 368 137,dR P "Twice" 393 156,dR P "Endless" 418 175,dR P "Unmet" 443 194,dR P "Loop" 468 213,dR P "Vast" 493 232,dR P "find_loop" 501 239,dR P "steps_with_like_rows" 507 244,dR P "way_back" 523 251,dR P "least_sizes" 531 256,dR P "greatest_empty_sizes" 538 263,dR P "settled_sizes" 544 268,dE P "MOST_RULES" 548 (.int (60) 547),dR P "refuse_faults" 554 273,dR P "refuse_twice" 565 280,dR P "names_met" 571 285,dR P "least_by_part" 579 290,dR P "rule_size" 585 295,dR P "empty_by_name" 591 300,dR P "LeastTrees" 657 343,dR P "Grammar" 700 372,dR P "_law_cell_at" 710 383,dR P "_law_names" 716 388,dR P "_law_words" 723 395,dR P "_law_digits" 735 402,dR P "_law_skeleton" 749 409,dR P "_law_more" 765 416,dR P "_law_ended" 771 421,dR P "_law_not_vast" 777 426,dR P "_law_good" 783 431,dR P "_law_grammar" 797 438,dR P "_law_begins" 803 443,dR P "_law_deep" 814 450,dR P "_law_due" 820 455,dR P "law" 838 462] 54,#[]⟩),
 (cF 20 "_wall" "_wall" 187 1 1 15 16 .none (.ref 17) (.ref 18) (.ref 19) 191 192),
 (fF 21 "_wall" "_wall" (top p 0) m0),
 (cF 27 "begin_words" "begin_words" 196 5 3 22 23 .none (.ref 24) (.ref 25) (.ref 26) 202 203),
 (fF 28 "begin_words" "begin_words" (top p 2) m1),
 (cF 32 "heads_of" "heads_of" 207 8 1 29 30 .none .none .none (.ref 31) 210 211),
 (fF 33 "heads_of" "heads_of" (top p 4) m2),
 (cF 37 "words_in" "words_in" 213 10 1 34 35 .none .none .none (.ref 36) 216 217),
 (fF 38 "words_in" "words_in" (top p 5) m2),
 (cF 42 "numbers_by_name" "numbers_by_name" 219 18 1 39 40 .none .none .none (.ref 41) 222 223),
 (fF 43 "numbers_by_name" "numbers_by_name" (top p 6) m2),
 (cF 49 "standings_by_part" "standings_by_part" 225 23 1 44 45 .none (.ref 46) (.ref 47) (.ref 48) 234 235),
 (fF 50 "standings_by_part" "standings_by_part" (top p 7) m2),
 (cF 54 "found_empties" "found_empties" 239 30 1 51 52 .none .none .none (.ref 53) 242 243),
 (fF 55 "found_empties" "found_empties" (top p 9) m3),
 (cF 61 "first_places" "first_places" 245 41 2 56 57 .none (.ref 58) (.ref 59) (.ref 60) 253 254),
 (fF 62 "first_places" "first_places" (top p 10) m3),
 (cF 73 "__init__" "BeginTable.__init__" 268 50 2 70 71 .none .none .none (.ref 72) 271 272),
 (fF 74 "__init__" "BeginTable.__init__" (jD p 11 0) m3),
 (cF 80 "find_begins" "BeginTable.find_begins" 274 61 3 75 76 .none (.ref 77) (.ref 78) (.ref 79) 283 284),
 (fF 81 "find_begins" "BeginTable.find_begins" (jD p 11 1) m3),
 (cF 87 "words_of_part" "BeginTable.words_of_part" 286 69 2 82 83 .none (.ref 84) (.ref 85) (.ref 86) 291 292),
 (fF 88 "words_of_part" "BeginTable.words_of_part" (jD p 11 2) m3),
 (cF 94 "first_words" "BeginTable.first_words" 294 72 2 89 90 .none (.ref 91) (.ref 92) (.ref 93) 302 303),
 (fF 95 "first_words" "BeginTable.first_words" (jD p 11 3) m3),
 (cF 99 "all_empty" "BeginTable.all_empty" 305 79 2 96 97 .none .none .none (.ref 98) 308 309),
 (fF 100 "all_empty" "BeginTable.all_empty" (jD p 11 4) m3),
 (cF 106 "words_of_parts" "BeginTable.words_of_parts" 311 82 3 101 102 .none (.ref 103) (.ref 104) (.ref 105) 318 319),
 (fF 107 "words_of_parts" "BeginTable.words_of_parts" (jD p 11 5) m3),
 (109,⟨.type "dict",none,.dict #[dE P "__module__" 263 (.str "wright.begin_tables" 237),dE P "__firstlineno__" 267 (.int (48) 266),dR P "__init__" 273 74,dR P "find_begins" 285 81,dR P "words_of_part" 293 88,dR P "first_words" 304 95,dR P "all_empty" 310 100,dR P "words_of_parts" 320 107,dR P "__static_attributes__" 325 108,dR P "__dict__" 327 111,dR P "__weakref__" 329 112,dE P "__doc__" 330 (.none)] 4,#[]⟩),
 (110,⟨.type "type",none,.cls ⟨"BeginTable",[.type "object"],[.ref 110,.type "object"],109,"BeginTable",true,[],[],false,none,false⟩,#[none,none,some (.str "BeginTable" 256),some (.str "BeginTable" 264),some (.builtin "object.__new__"),some (.bool true)]⟩),
 (111,⟨.type "getset_descriptor",none,.fields #[.str "__dict__" 326,.ref 110,.builtin "function.__dict__",.builtin "function.__dict__#set"],#[]⟩),
 (112,⟨.type "getset_descriptor",none,.fields #[.str "__weakref__" 328,.ref 110,.builtin "ExceptionGroup.__weakref__",.none],#[]⟩),
 (123,⟨.type "dict",none,.dict #[dE P "__module__" 342 (.str "wright.errors" 333),dE P "__firstlineno__" 346 (.int (88) 345),dR P "__static_attributes__" 347 122,dR P "__weakref__" 349 125,dE P "__doc__" 350 (.none)] 3,#[]⟩),
 (124,⟨.type "type",none,.cls ⟨"WrightError",[.type "ValueError"],[.ref 124,.type "ValueError",.type "Exception",.type "BaseException",.type "object"],123,"WrightError",true,[],[.ref 137,.ref 156,.ref 175,.ref 194,.ref 213,.ref 232],false,none,false⟩,#[some (.ref 115),none,some (.str "WrightError" 335),some (.str "WrightError" 343),some (.builtin "ValueError.__new__"),some (.bool true)]⟩),
 (125,⟨.type "getset_descriptor",none,.fields #[.str "__weakref__" 348,.ref 124,.builtin "ExceptionGroup.__weakref__",.none],#[]⟩),
 (136,⟨.type "dict",none,.dict #[dE P "__module__" 360 (.str "wright.errors" 333),dE P "__firstlineno__" 364 (.int (90) 363),dR P "__static_attributes__" 365 135,dE P "__doc__" 366 (.none)] 2,#[]⟩),
 (137,⟨.type "type",none,.cls ⟨"NoRules",[.ref 124],[.ref 137,.ref 124,.type "ValueError",.type "Exception",.type "BaseException",.type "object"],136,"NoRules",true,[],[],false,none,false⟩,#[some (.ref 128),none,some (.str "NoRules" 353),some (.str "NoRules" 361),some (.builtin "ValueError.__new__"),some (.bool true)]⟩),
 (cF 152 "__init__" "Twice.__init__" 381 94 2 147 148 .none (.ref 149) (.ref 150) (.ref 151) 386 387),
 (fF 153 "__init__" "Twice.__init__" (jD p 15 0) m4),
 (155,⟨.type "dict",none,.dict #[dE P "__module__" 376 (.str "wright.errors" 333),dE P "__firstlineno__" 380 (.int (92) 379),dR P "__init__" 388 153,dR P "__static_attributes__" 390 154,dE P "__doc__" 391 (.none)] 2,#[]⟩),
 (156,⟨.type "type",none,.cls ⟨"Twice",[.ref 124],[.ref 156,.ref 124,.type "ValueError",.type "Exception",.type "BaseException",.type "object"],155,"Twice",true,[],[],false,none,false⟩,#[some (.ref 140),none,some (.str "Twice" 369),some (.str "Twice" 377),some (.builtin "ValueError.__new__"),some (.bool true)]⟩),
 (cF 171 "__init__" "Endless.__init__" 406 99 2 166 167 .none (.ref 168) (.ref 169) (.ref 170) 411 412),
 (fF 172 "__init__" "Endless.__init__" (jD p 16 0) m4),
 (174,⟨.type "dict",none,.dict #[dE P "__module__" 401 (.str "wright.errors" 333),dE P "__firstlineno__" 405 (.int (97) 404),dR P "__init__" 413 172,dR P "__static_attributes__" 415 173,dE P "__doc__" 416 (.none)] 2,#[]⟩),
 (175,⟨.type "type",none,.cls ⟨"Endless",[.ref 124],[.ref 175,.ref 124,.type "ValueError",.type "Exception",.type "BaseException",.type "object"],174,"Endless",true,[],[],false,none,false⟩,#[some (.ref 159),none,some (.str "Endless" 394),some (.str "Endless" 402),some (.builtin "ValueError.__new__"),some (.bool true)]⟩),
 (cF 190 "__init__" "Unmet.__init__" 431 104 2 185 186 .none (.ref 187) (.ref 188) (.ref 189) 436 437),
 (fF 191 "__init__" "Unmet.__init__" (jD p 17 0) m4),
 (193,⟨.type "dict",none,.dict #[dE P "__module__" 426 (.str "wright.errors" 333),dE P "__firstlineno__" 430 (.int (102) 429),dR P "__init__" 438 191,dR P "__static_attributes__" 440 192,dE P "__doc__" 441 (.none)] 2,#[]⟩),
 (194,⟨.type "type",none,.cls ⟨"Unmet",[.ref 124],[.ref 194,.ref 124,.type "ValueError",.type "Exception",.type "BaseException",.type "object"],193,"Unmet",true,[],[],false,none,false⟩,#[some (.ref 178),none,some (.str "Unmet" 419),some (.str "Unmet" 427),some (.builtin "ValueError.__new__"),some (.bool true)]⟩),
 (cF 209 "__init__" "Loop.__init__" 456 109 2 204 205 .none (.ref 206) (.ref 207) (.ref 208) 461 462),
 (fF 210 "__init__" "Loop.__init__" (jD p 18 0) m4),
 (212,⟨.type "dict",none,.dict #[dE P "__module__" 451 (.str "wright.errors" 333),dE P "__firstlineno__" 455 (.int (107) 454),dR P "__init__" 463 210,dR P "__static_attributes__" 465 211,dE P "__doc__" 466 (.none)] 2,#[]⟩),
 (213,⟨.type "type",none,.cls ⟨"Loop",[.ref 124],[.ref 213,.ref 124,.type "ValueError",.type "Exception",.type "BaseException",.type "object"],212,"Loop",true,[],[],false,none,false⟩,#[some (.ref 197),none,some (.str "Loop" 444),some (.str "Loop" 452),some (.builtin "ValueError.__new__"),some (.bool true)]⟩),
 (cF 228 "__init__" "Vast.__init__" 481 114 2 223 224 .none (.ref 225) (.ref 226) (.ref 227) 486 487),
 (fF 229 "__init__" "Vast.__init__" (jD p 19 0) m4),
 (231,⟨.type "dict",none,.dict #[dE P "__module__" 476 (.str "wright.errors" 333),dE P "__firstlineno__" 480 (.int (112) 479),dR P "__init__" 488 229,dR P "__static_attributes__" 490 230,dE P "__doc__" 491 (.none)] 2,#[]⟩),
 (232,⟨.type "type",none,.cls ⟨"Vast",[.ref 124],[.ref 232,.ref 124,.type "ValueError",.type "Exception",.type "BaseException",.type "object"],231,"Vast",true,[],[],false,none,false⟩,#[some (.ref 216),none,some (.str "Vast" 469),some (.str "Vast" 477),some (.builtin "ValueError.__new__"),some (.bool true)]⟩),
 (cF 238 "find_loop" "find_loop" 496 118 1 235 236 .none .none .none (.ref 237) 499 500),
 (fF 239 "find_loop" "find_loop" (top p 21) m5),
 (cF 243 "steps_with_like_rows" "steps_with_like_rows" 502 122 1 240 241 .none .none .none (.ref 242) 505 506),
 (fF 244 "steps_with_like_rows" "steps_with_like_rows" (top p 22) m5),
 (cF 250 "way_back" "way_back" 508 131 3 245 246 .none (.ref 247) (.ref 248) (.ref 249) 521 522),
 (fF 251 "way_back" "way_back" (top p 23) m5),
 (cF 255 "least_sizes" "least_sizes" 526 147 1 252 253 .none .none .none (.ref 254) 529 530),
 (fF 256 "least_sizes" "least_sizes" (top p 25) m6),
 (cF 262 "greatest_empty_sizes" "greatest_empty_sizes" 532 149 1 257 258 .none (.ref 259) (.ref 260) (.ref 261) 536 537),
 (fF 263 "greatest_empty_sizes" "greatest_empty_sizes" (top p 26) m6),
 (cF 267 "settled_sizes" "settled_sizes" 539 151 3 264 265 .none .none .none (.ref 266) 542 543),
 (fF 268 "settled_sizes" "settled_sizes" (top p 27) m6),
 (cF 272 "refuse_faults" "refuse_faults" 549 164 2 269 270 .none .none .none (.ref 271) 552 553),
 (fF 273 "refuse_faults" "refuse_faults" (top p 30) m7),
 (cF 279 "refuse_twice" "refuse_twice" 555 183 1 274 275 .none (.ref 276) (.ref 277) (.ref 278) 563 564),
 (fF 280 "refuse_twice" "refuse_twice" (top p 31) m7),
 (cF 284 "names_met" "names_met" 566 190 1 281 282 .none .none .none (.ref 283) 569 570),
 (fF 285 "names_met" "names_met" (top p 32) m7),
 (cF 289 "least_by_part" "least_by_part" 574 200 1 286 287 .none .none .none (.ref 288) 577 578),
 (fF 290 "least_by_part" "least_by_part" (top p 34) m8),
 (cF 294 "rule_size" "rule_size" 580 208 2 291 292 .none .none .none (.ref 293) 583 584),
 (fF 295 "rule_size" "rule_size" (top p 35) m8),
 (cF 299 "empty_by_name" "empty_by_name" 586 210 2 296 297 .none .none .none (.ref 298) 589 590),
 (fF 300 "empty_by_name" "empty_by_name" (top p 36) m8),
 (cF 311 "__init__" "LeastTrees.__init__" 604 217 3 308 309 .none .none .none (.ref 310) 607 608),
 (fF 312 "__init__" "LeastTrees.__init__" (jD p 37 0) m8),
 (cF 318 "least_of" "LeastTrees.least_of" 610 224 2 313 314 .none (.ref 315) (.ref 316) (.ref 317) 615 616),
 (fF 319 "least_of" "LeastTrees.least_of" (jD p 37 1) m8),
 (cF 325 "hollow_of" "LeastTrees.hollow_of" 618 227 2 320 321 .none (.ref 322) (.ref 323) (.ref 324) 623 624),
 (fF 326 "hollow_of" "LeastTrees.hollow_of" (jD p 37 2) m8),
 (cF 332 "begun_place" "LeastTrees.begun_place" 626 230 3 327 328 .none (.ref 329) (.ref 330) (.ref 331) 632 633),
 (fF 333 "begun_place" "LeastTrees.begun_place" (jD p 37 3) m8),
 (cF 339 "begun_of" "LeastTrees.begun_of" 635 233 4 334 335 .none (.ref 336) (.ref 337) (.ref 338) 642 643),
 (fF 340 "begun_of" "LeastTrees.begun_of" (jD p 37 4) m8),
 (342,⟨.type "dict",none,.dict #[dE P "__module__" 599 (.str "wright.least_trees" 572),dE P "__firstlineno__" 603 (.int (215) 602),dR P "__init__" 609 312,dR P "least_of" 617 319,dR P "hollow_of" 625 326,dR P "begun_place" 634 333,dR P "begun_of" 644 340,dR P "__static_attributes__" 650 341,dR P "__dict__" 652 344,dR P "__weakref__" 654 345,dE P "__doc__" 655 (.none)] 4,#[]⟩),
 (343,⟨.type "type",none,.cls ⟨"LeastTrees",[.type "object"],[.ref 343,.type "object"],342,"LeastTrees",true,[],[],false,none,false⟩,#[none,none,some (.str "LeastTrees" 592),some (.str "LeastTrees" 600),some (.builtin "object.__new__"),some (.bool true)]⟩),
 (344,⟨.type "getset_descriptor",none,.fields #[.str "__dict__" 651,.ref 343,.builtin "function.__dict__",.builtin "function.__dict__#set"],#[]⟩),
 (345,⟨.type "getset_descriptor",none,.fields #[.str "__weakref__" 653,.ref 343,.builtin "ExceptionGroup.__weakref__",.none],#[]⟩),
 (355,⟨.type "tuple",none,.seq #[.none] 0,#[]⟩),
 (cF 361 "__init__" "Grammar.__init__" 672 238 3 356 357 .none (.ref 358) (.ref 359) (.ref 360) 678 679),
 (362,⟨.type "function",none,.func (fnOf "__init__" "Grammar.__init__" (du (jD p 39 0)) (cE (jD p 39 0)) (aA (jD p 39 0)) (.ref 355) (.none) (.none) (.str "wright.grammars" 658) (none) (.ref 361) (.none)),#[]⟩),
 (cF 368 "start" "Grammar.start" 681 246 1 363 364 .none (.ref 365) (.ref 366) (.ref 367) 685 686),
 (fF 369 "start" "Grammar.start" (jD p 39 1) m9),
 (371,⟨.type "dict",none,.dict #[dE P "__module__" 667 (.str "wright.grammars" 658),dE P "__firstlineno__" 671 (.int (236) 670),dR P "__init__" 680 362,dR P "start" 687 369,dR P "__static_attributes__" 693 370,dR P "__dict__" 695 373,dR P "__weakref__" 697 374,dE P "__doc__" 698 (.none)] 4,#[]⟩),
 (372,⟨.type "type",none,.cls ⟨"Grammar",[.type "object"],[.ref 372,.type "object"],371,"Grammar",true,[],[],false,none,false⟩,#[none,none,some (.str "Grammar" 660),some (.str "Grammar" 668),some (.builtin "object.__new__"),some (.bool true)]⟩),
 (373,⟨.type "getset_descriptor",none,.fields #[.str "__dict__" 694,.ref 372,.builtin "function.__dict__",.builtin "function.__dict__#set"],#[]⟩),
 (374,⟨.type "getset_descriptor",none,.fields #[.str "__weakref__" 696,.ref 372,.builtin "ExceptionGroup.__weakref__",.none],#[]⟩),
 (cF 382 "_law_cell_at" "_law_cell_at" 703 249 2 377 378 .none (.ref 379) (.ref 380) (.ref 381) 708 709),
 (fF 383 "_law_cell_at" "_law_cell_at" (top p 41) oX),
 (cF 387 "_law_names" "_law_names" 711 253 1 384 385 .none .none .none (.ref 386) 714 715),
 (fF 388 "_law_names" "_law_names" (top p 42) oX),
 (cF 394 "_law_words" "_law_words" 717 259 1 389 390 .none (.ref 391) (.ref 392) (.ref 393) 721 722),
 (fF 395 "_law_words" "_law_words" (top p 43) oX),
 (cF 401 "_law_digits" "_law_digits" 724 261 3 396 397 .none (.ref 398) (.ref 399) (.ref 400) 733 734),
 (fF 402 "_law_digits" "_law_digits" (top p 44) oX),
 (cF 408 "_law_skeleton" "_law_skeleton" 736 272 4 403 404 .none (.ref 405) (.ref 406) (.ref 407) 747 748),
 (fF 409 "_law_skeleton" "_law_skeleton" (top p 45) oX),
 (cF 415 "_law_more" "_law_more" 750 283 5 410 411 .none (.ref 412) (.ref 413) (.ref 414) 763 764),
 (fF 416 "_law_more" "_law_more" (top p 46) oX),
 (cF 420 "_law_ended" "_law_ended" 766 293 2 417 418 .none .none .none (.ref 419) 769 770),
 (fF 421 "_law_ended" "_law_ended" (top p 47) oX),
 (cF 425 "_law_not_vast" "_law_not_vast" 772 302 2 422 423 .none .none .none (.ref 424) 775 776),
 (fF 426 "_law_not_vast" "_law_not_vast" (top p 48) oX),
 (cF 430 "_law_good" "_law_good" 778 315 1 427 428 .none .none .none (.ref 429) 781 782),
 (fF 431 "_law_good" "_law_good" (top p 49) oX),
 (cF 437 "_law_grammar" "_law_grammar" 784 337 2 432 433 .none (.ref 434) (.ref 435) (.ref 436) 795 796),
 (fF 438 "_law_grammar" "_law_grammar" (top p 50) oX),
 (cF 442 "_law_begins" "_law_begins" 798 350 1 439 440 .none .none .none (.ref 441) 801 802),
 (fF 443 "_law_begins" "_law_begins" (top p 51) oX),
 (cF 449 "_law_deep" "_law_deep" 804 365 1 444 445 .none (.ref 446) (.ref 447) (.ref 448) 812 813),
 (fF 450 "_law_deep" "_law_deep" (top p 52) oX),
 (cF 454 "_law_due" "_law_due" 815 380 4 451 452 .none .none .none (.ref 453) 818 819),
 (fF 455 "_law_due" "_law_due" (top p 53) oX),
 (cF 461 "law" "law" 821 391 1 456 457 .none (.ref 458) (.ref 459) (.ref 460) 836 837),
 (fF 462 "law" "law" (top p 54) oX)]
def as:List Addr:=[2,3,20,21,27,28,32,33,37,38,42,43,49,50,54,55,61,62,73,74,80,81,87,88,94,95,99,100,106,107,109,110,111,112,123,124,125,136,137,152,153,155,156,171,172,174,175,190,191,193,194,209,210,212,213,228,229,231,232,238,239,243,244,250,251,255,256,262,263,267,268,272,273,279,280,284,285,289,290,294,295,299,300,311,312,318,319,325,326,332,333,339,340,342,343,344,345,355,361,362,368,369,371,372,373,374,382,383,387,388,394,395,401,402,408,409,415,416,420,421,425,426,430,431,437,438,442,443,449,450,454,455,461,462]
def q' (p:Program):Program:=view p [0,2,4,5,6,7,9,10,11,13,14,15,16,17,18,19,21,22,23,25,26,27,29,30,31,32,34,35,36,37,39,41,42,43,44,45,46,47,48,49,50,51,52,53,54]
abbrev loose:List Str:=[]
abbrev steps:Nat:=3741
abbrev bound:Nat:=8462
abbrev Di:OpenLaw:=rw_wright_k22_words_that_begin_parts
noncomputable abbrev K (P:Params):Frag:=K' pw_wright_k22_words_that_begin_parts P
theorem SS (P:Params):as=(K P).map (·.1):=by kernel_rfl
noncomputable abbrev hook:Hook:=kmHook K as SS [287,258,253]
def pre (h:Di.row.wellSaid=true->Di.row.Holds):Di.Holds:=by
 o_law
 exact h (by assumption)
abbrev Xt:Shared->Bool:=λs=>xlAt (q' pw_wright_k22_words_that_begin_parts) [] s && recOk (RowW.records (OpenRow.toRowW (OpenLaw.row rw_wright_k22_words_that_begin_parts))) s
def run (w:World)(os:OsState):(Fu (stepT (denote treeTable) pw_wright_k22_words_that_begin_parts w) (stepOk 11 (some (.ref 6))) steps ⟨Cy w.params,11,{},Array.mk [],boot_drawn,boot_toks,os⟩ (topStub pw_wright_k22_words_that_begin_parts)).map
  (E7 (Gm pw_wright_k22_words_that_begin_parts (q' pw_wright_k22_words_that_begin_parts) loose Xt (Hook.obs hook) true (boot_heap w.params)))=some (true,openGood (q' pw_wright_k22_words_that_begin_parts) loose,Hook.val hook w):=by
 rw [PySem.W.Fast.te10156331382660048174,PySem.W.Fast.te11892475500146522536,PySem.W.Fast.te14364793385576792824,PySem.W.Fast.te6613529449190102663,PySem.W.Fast.te12069265591013425223]
 kernel_rfl
theorem size (w:World):((boot_heap w.params).isNs mainGlobals && (Array.mk []:Array GenState).size == 0,(boot_heap w.params).objs.size,(boot_heap w.params).nsMap mainGlobals "__annotations__")=(true,11,some (.ref 6)):=by kernel_rfl
def FN:∀w:World,(fencedOpening treeTable pw_wright_k22_words_that_begin_parts w bound).map (λs=>(s.heap,s.gens,s.drawn,s.toks))=some (boot_heap w.params,Array.mk [],boot_drawn,boot_toks) :=
 boot_open (nofun) nofun (λs=>by kernel_rfl)
def left:LeftO (OpenRow.toRowW Di.row).prog (q' pw_wright_k22_words_that_begin_parts) loose Xt (Hook.obs hook) (Hook.val hook) bound:=Q3 FN size run nofun
def lC:DefRec:={ name := "law",params:=du (top pw_wright_k22_words_that_begin_parts 54),body:=cE (top pw_wright_k22_words_that_begin_parts 54),scope:=aA (top pw_wright_k22_words_that_begin_parts 54),pos:=posOf (top pw_wright_k22_words_that_begin_parts 54) }
def ok1:defOf (q' pw_wright_k22_words_that_begin_parts) Di.row.name=some (lC,[]):=by kernel_rfl
def ok2:Di.row.prog.theDef Di.row.name=some (lC.params,lC.body,lC.scope):=by kernel_rfl
def ok3:kwWritten? lC.params.kwonlyargs lC.params.kw_defaults=some []:=by kernel_rfl
def ok4:(chainsOk (q' pw_wright_k22_words_that_begin_parts) && opensWell Di.row.prog && (frees Di.row.toRowW && Di.row.within.isEmpty))=true:=by kernel_rfl
def ok5:lC.params.defaults=[]:=by kernel_rfl
def hold (h:WalkO (q' pw_wright_k22_words_that_begin_parts) loose (XL (q' pw_wright_k22_words_that_begin_parts) []) (Hook.says hook) Di.row.toRowW lC [] λf vs=>PySem.call f vs)(hw:Di.row.toRowW.promised):Di.Holds :=
 pre λVz=>holds_open (q:=q' pw_wright_k22_words_that_begin_parts) (loose:=loose) (Xt:=Xt) (XP:=XL (q' pw_wright_k22_words_that_begin_parts) []) (Yf:=Hook.obs hook) (Ya:=Hook.val hook) (YP:=Hook.says hook) (N:=bound) left (Hook.of hook) (Hook.keeps hook) (λs e=>xl_of s (iB.mp e).1) XL.keeps ok1 ok2 ok3 (λs e=>recFacts_of (iB.mp e).2) rfl Vz ok4 ⟨rfl,rfl,rfl,rfl,rfl,nofun⟩ hw h
end HD
set_option maxHeartbeats 4000000
namespace L2
open PySem PySem.Spec PyProof.Rows
abbrev rB:=Nat->St->Hp->Prop
def Ho {CX:zD}{P:Program}{w:World}{K:a0}{mg:Str->Option Value}{base:Heap}{N:List Str}{qual:Str}{scope:Scope}{f:Addr}{cd:Value}{A:Around}{outer:List Env}{s:Shared}{H:Hp}{E:XK}:(qg CX P w K mg base N qual scope f cd A outer s H E).C_.K=K:=rfl
def Wi {t:TS}{D:Ends}{σ:St}{H:Hp}(h:let E:=D;t E σ H):t D σ H:=h
def Wg {t u:TS}{D:Ends}{σ:St}{H:Hp}(h:let E:={ D with nx:=u D };t E σ H):Mh t u D σ H:=h
def Q2 {t u:TS}{D:Ends}{σ:St}{H:Hp}(h:let E:=D;let F:={ E with nx:=u E };t F σ H):Mh t u D σ H:=h
def Wh {g:TG}{x:V}{σ:St}{H:Hp}{t:TS}{D:Ends}(h:let E:=D;g x σ H λσ2 H2=>t E σ2 H2):g x σ H λσ2 H2=>t D σ2 H2:=h
end L2
local macro_rules | `(tactic| nofun) => `(tactic| (dsimp only [L2.Ho];refine L2.Wg ?_;intro _))
local macro_rules | `(tactic| ac_rfl) => `(tactic| (refine L2.Q2 ?_;intro _ _))
local macro_rules | `(tactic| ac_nf0) => `(tactic| (refine L2.Wh ?_;intro _))
local macro_rules | `(tactic| ac_nf) => `(tactic| (refine L2.Wi ?_;intro _))
set_option maxHeartbeats 0
namespace L2
open PySem PySem.Spec PyProof.Rows
section
variable {κ:Type} [DecidableEq κ]
def bj (kvs:List (κ×V))(k:κ):Option V:=(kvs.find? λkv=>decide (kv.1=k)).map (·.2)
def bX (kvs:List (κ×V))(k:κ)(v:V):List (κ×V) :=
 if (kvs.any λkv=>decide (kv.1=k))=true then kvs.map (λkv=>if kv.1=k then (kv.1,v) else kv) else kvs++[(k,v)]
def LG (kvs:List (κ×V))(k:κ):List (κ×V):=kvs.filter λkv=>decide (kv.1≠k)
def eQ {p:κ×V}{r:List (κ×V)}{k:κ}(e:p.1=k):bj (p::r) k=some p.2:=by simp [bj,pd,e]
def eU {p:κ×V}{r:List (κ×V)}{k:κ}(e:¬p.1=k):bj (p::r) k=bj r k:=by simp [bj,pd,e]
theorem jw (k:κ):∀kvs:List (κ×V),(kvs.any λkv=>decide (kv.1=k))=(bj kvs k).isSome
 | []=>rfl
 | p::r=>by
  rw [o7];by_cases e:p.1=k
  .simp only [eQ e,cU e,Bool.true_or,Option.isSome_some]
  rw [eU e,gJ e,Bool.false_or];exact jw k r
theorem xX (k j:κ)(y:V):∀kvs:List (κ×V),bj (kvs.map λkv=>if kv.1=k then (kv.1,y) else kv) j=(bj kvs j).map λx=>if j=k then y else x
 | []=>rfl
 | p::r=>by
  have ih:=xX k j y r;rw [cH];by_cases h:p.1=k
  .rw [aw h];by_cases e:p.1=j
   .rw [eQ (p:=(p.1,y)) e,eQ e,rL,aw (e.symm.trans h)]
   rw [eU (p:=(p.1,y)) e,eU e,ih]
  rw [ax h];by_cases e:p.1=j
  .rw [eQ (p:=p) e,eQ e,rL,ax (λz=>h (e.trans z))]
  rw [eU (p:=p) e,eU e,ih]
theorem uO (k j:κ)(y:V):∀kvs:List (κ×V),bj kvs k=none->bj (kvs++[(k,y)]) j=if j=k then some y else bj kvs j
 | [],_=>by
  by_cases e:k=j
  .rw [aw e.symm];exact eQ (p:=(k,y)) e
  rw [ax (λz=>e z.symm)];exact eU (p:=(k,y)) e
 | p::r,hn=>by
  rw [List.cons_append];have hk:¬p.1=k:=λz=>by rw [eQ z] at hn;cases hn
  rw [eU hk] at hn;have ih:=uO k j y r hn;by_cases e:p.1=j
  .rw [eQ e,eQ e,ax (λz=>hk (e.trans z))]
  rw [eU e,eU e,ih]
def rZ (kvs:List (κ×V))(k j:κ)(y:V):bj (bX kvs k y) j=if j=k then some y else bj kvs j:=by
 unfold bX;by_cases a:(kvs.any λkv=>decide (kv.1=k))=true
 .rw [aw a,xX];rw [jw] at a;by_cases e:j=k
  .obtain⟨x,hx⟩:=nV.mp a;rw [aw e,e,hx,rL,aw rfl]
  rw [ax e];cases bj kvs j with
  | none=>rfl
  | some x=>rw [rL,ax e]
 rw [ax a];refine uO k j y kvs ?_;rw [jw] at a;cases q:bj kvs k with
 | none=>rfl
 | some x=>rw [q] at a;exact(a rfl).elim
def fC (kvs:List (κ×V))(k:κ)(v:V):(bX kvs k v).length<=kvs.length+1:=by
 unfold bX
 split
 .rw [ar];omega
 rw [bB,dG,kM];omega
def yp {kvs:List (κ×V)}{k:κ}(v:V)(h:bj kvs k=none):bX kvs k v=kvs++[(k,v)]:=by
 unfold bX;rw [jw,h];exact ax nofun
def ka.jE {o:Option V}{u:Option Value}(r:ka o u):o.isSome=u.isSome:=by
 cases o with
 | none=>cases u with
  | none=>rfl
  | some _=>exact(show False from r).elim
 | some _=>cases u with
  | none=>exact(show False from r).elim
  | some _=>rfl
theorem ka.getD {o:Option V}{u:Option Value}{d:V}{d':Value}(r:ka o u)(rd:RelV d d'):RelV (o.getD d) (u.getD d'):=by
 cases o with
 | none=>cases u with
  | none=>exact rd
  | some _=>exact(show False from r).elim
 | some _=>cases u with
  | none=>exact(show False from r).elim
  | some _=>exact r
def KV.val {kvs:List (κ×V)}{vs:List (κ×Value)}(r:KV kvs vs)(k:κ):ka (bj kvs k) (valueAt vs k):=by
 unfold KV at r
 induction r with
 | nil=>exact True.intro
 | @cons p q ps qs h t ih =>
  obtain⟨h1,h2⟩:=h;by_cases e:p.1=k
  .have e':q.1=k:=h1.symm.trans e;have b:valueAt (q::qs) k=some q.2:=by simp [valueAt,pd,e']
   rw [eQ e,b];exact h2
  have e':¬q.1=k:=λz=>e (h1.trans z);have b:valueAt (q::qs) k=valueAt qs k:=by simp [valueAt,pd,e']
  rw [eU e,b];exact ih
theorem KV.any {kvs:List (κ×V)}{vs:List (κ×Value)}(r:KV kvs vs)(k:κ):(kvs.any λkv=>decide (kv.1=k))=vs.any λkv=>decide (kv.1=k):=by
 unfold KV at r
 induction r with
 | nil=>rfl
 | cons h t ih=>rw [o7,o7,ih,h.1]
def KV.MR {kvs:List (κ×V)}{vs:List (κ×Value)}(r:KV kvs vs)(k:κ){y:V}{u:Value}(ry:RelV y u) :
  KV (kvs.map λkv=>if kv.1=k then (kv.1,y) else kv) (vs.map λkv=>if kv.1=k then (kv.1,u) else kv):=by
 unfold KV at r ⊢
 induction r with
 | nil=>exact .nil
 | @cons p q ps qs h t ih =>
  rw [cH,cH];refine .cons ?_ ih;obtain⟨h1,h2⟩:=h;by_cases e:p.1=k
  .rw [aw e,aw (h1.symm.trans e)];exact⟨h1,ry⟩
  rw [ax e,ax (λz=>e (h1.trans z))];exact⟨h1,h2⟩
def KV.put {kvs:List (κ×V)}{vs:List (κ×Value)}(r:KV kvs vs)(k:κ){y:V}{u:Value}(ry:RelV y u):KV (bX kvs k y) (stored vs k u):=by
 unfold bX stored;rw [r.any k];by_cases e:(vs.any λkv=>decide (kv.1=k))=true
 .rw [aw e,aw e];exact r.MR k ry
 rw [ax e,ax e];exact gR r ⟨rfl,ry⟩
def KV.drop {kvs:List (κ×V)}{vs:List (κ×Value)}(r:KV kvs vs)(k:κ):KV (LG kvs k) (without vs k):=by
 unfold KV at r ⊢;unfold LG without
 induction r with
 | nil=>exact .nil
 | @cons p q ps qs h t ih =>
  obtain⟨h1,h2⟩:=h;rw [pq,pq];by_cases e:p.1=k
  .have a:¬decide (p.1≠k)=true:=by simp [e]
   have b:¬decide (q.1≠k)=true:=by simp [h1.symm.trans e]
   rw [ax a,ax b];exact ih
  have e':¬q.1=k:=λz=>e (h1.trans z);have a:decide (p.1≠k)=true:=by simp [e]
  have b:decide (q.1≠k)=true:=by simp [e']
  rw [aw a,aw b];exact .cons ⟨h1,h2⟩ ih
def KV.keys {kvs:List (κ×V)}{vs:List (κ×Value)}(r:KV kvs vs):kvs.map (·.1)=vs.map (·.1):=by
 unfold KV at r
 induction r with
 | nil=>rfl
 | cons h t ih=>rw [cH,cH,ih,h.1]
theorem KV.length {kvs:List (κ×V)}{vs:List (κ×Value)}(r:KV kvs vs):kvs.length=vs.length:=bI r
end
def mw {P:Program}{w:World}{k:aM}{u:Value}(r:RelV (kV k) u):(bc P w).is k u=true:=by
 cases k with
 | inl i=>obtain⟨t,e⟩:=(show ∃t,u=Value.int i t from r);subst e;exact yG P w i t
 | inr x=>obtain⟨t,e⟩:=(show ∃t,u=Value.str x t from r);subst e;exact yF P w x t
theorem vf {P:Program}{w:World}:∀{ks:List aM}{us:List Value},ba (ks.map kV) us->ItemsAre (bc P w) ks us
 | [],_,r=>by rw [mH] at r;cases r;exact .nil
 | k::ks,_,r=>by
  rw [cH] at r;cases r with
  | cons h t=>exact .cons (mw h) (vf t)
abbrev KT (H:Hp):List (List aM×V)->List (List aM×Addr×Value)->Prop:=Paired λp q=>p.1=q.1/\H q.2.1=some (.tup (p.1.map kV))/\RelV p.2 q.2.2
def KT.val {H:Hp}{kvs:List (List aM×V)}{xs:List (List aM×Addr×Value)}(r:KT H kvs xs)(k:List aM):ka (bj kvs k) ((atKey xs k).map (·.2)):=by
 induction r with
 | nil=>exact True.intro
 | @cons p q ps qs h t ih =>
  obtain⟨h1,_,h2⟩:=h;by_cases e:p.1=k
  .have e':q.1=k:=h1.symm.trans e;have b:atKey (q::qs) k=some q.2:=by simp [atKey,pd,e']
   rw [eQ e,b];exact h2
  have e':¬q.1=k:=λz=>e (h1.trans z);have b:atKey (q::qs) k=atKey qs k:=by simp [atKey,pd,e']
  rw [eU e,b];exact ih
def KT.MR {H:Hp}{kvs:List (List aM×V)}{xs:List (List aM×Addr×Value)}(r:KT H kvs xs)(k:List aM){y:V}{u:Value}(ry:RelV y u) :
  KT H (kvs.map λkv=>if kv.1=k then (kv.1,y) else kv) (xs.map (putAt k u)):=by
 induction r with
 | nil=>exact .nil
 | @cons p q ps qs h t ih =>
  rw [cH,cH];refine .cons ?_ ih;obtain⟨h1,h2,h3⟩:=h;unfold putAt;by_cases e:p.1=k
  .rw [aw e,aw (h1.symm.trans e)];exact⟨h1,h2,ry⟩
  rw [ax e,ax (λz=>e (h1.trans z))];exact⟨h1,h2,h3⟩
def KT.put {H:Hp}{kvs:List (List aM×V)}{xs:List (List aM×Addr×Value)}(r:KT H kvs xs)(k:List aM){b:Addr}{y:V}{u:Value}(hb:H b=some (.tup (k.map kV)))(ry:RelV y u) :
  KT H (bX kvs k y) (storedH xs k b u):=by
 have e:(kvs.any λkv=>decide (kv.1=k))=(atKey xs k).isSome:=by
  rw [jw,(r.val k).jE,mQ]
 unfold bX storedH;rw [e];by_cases q:(atKey xs k).isSome=true
 .rw [aw q,aw q];exact r.MR k ry
 rw [ax q,ax q];exact gR r ⟨rfl,hb,ry⟩
def KT.keeps {H H':Hp}{kvs:List (List aM×V)}{xs:List (List aM×Addr×Value)}(r:KT H kvs xs)(ht:∀b ys,H b=some (.tup ys)->H' b=some (.tup ys)):KT H' kvs xs :=
 Paired.dY r λ_ _ z=>⟨z.1,ht _ _ z.2.1,z.2.2⟩
section
variable {P:Program}{w:World}{H:Hp}{h:Heap}{a:Addr}
def KP {u:HO}(ok:mF P w H h)(e:Rd H a u):cK P w H h a u:=e.ok ok
def oQ {kvs:List (aM×V)}(ok:mF P w H h)(e:Rd H a (.dK kvs)):kvs.length<=sizeLine/\(a == sysModules)=false/\∃vs,KV kvs vs/\h.DictOf (bc P w) a vs :=
 show cK P w H h a (.dK kvs) from KP ok e
def vF {kvs:List (aM×V)}(ok:mF P w H h)(e:H a=some (.dK kvs)):kvs.length<=sizeLine/\(a == sysModules)=false/\∃vs,KV kvs vs/\h.DictOf (bc P w) a vs:=oQ ok (.inl e)
def nq {ks:List aM}(ok:mF P w H h)(e:H a=some (.tup (ks.map kV))):(tupleKind (bc P w)).is h ks a:=by
 obtain⟨_,aU,r,o,h1,h2,n,h3⟩:=(show cK P w H h a (.tup (ks.map kV)) from ok a _ e);exact⟨o,aU.toArray,n,h1,h2,h3,by simpa using vf r⟩
def tT {kvs:List (List aM×V)}(ok:mF P w H h)(e:Rd H a (.dT kvs)):kvs.length<=sizeLine/\(a == sysModules)=false /\
  ∃xs,KT H kvs xs/\h.DictOfH (tupleKind (bc P w)) a xs:=by
 obtain⟨z,y,xs,r,o,es,ep,h1,h2,h3,h4,h5⟩:=(show cK P w H h a (.dT kvs) from KP ok e);refine⟨z,y,xs,r,o,es,ep,h1,h2,h3,h4,λx hx=>?_,h5⟩;have all:∀{l:List (List aM×V)}{m:List (List aM×Addr×Value)},KT H l m->∀x∈m,(tupleKind (bc P w)).is h x.1 x.2.1:=by
  intro l m q
  induction q with
  | nil=>intro x hx;exact nomatch hx
  | @cons p q ps qs hq t ih =>
   intro x hx;rcases bO.mp hx with e | hx
   .subst e;exact nq ok (by rw [<-hq.1];exact hq.2.1)
   exact ih x hx
 exact all r x hx
def Sy {kvs:List (List aM×V)}(ok:mF P w H h)(e:H a=some (.dT kvs)):kvs.length<=sizeLine/\(a == sysModules)=false /\
  ∃xs,KT H kvs xs/\h.DictOfH (tupleKind (bc P w)) a xs:=tT ok (.inl e)
end
def cD (H:Hp)(a:Addr)(y:V)(r:Option V):Prop :=
 (∃kvs k,Rd H a (.dK kvs)/\y=kV k/\r=bj kvs k)\/∃kvs k b,Rd H a (.dT kvs)/\y=.ref b/\H b=some (.tup (k.map kV))/\r=bj kvs k
def lK (H:Hp)(a:Addr)(y v:V)(H':Hp):Prop :=
 (∃kvs k,H a=some (.dK kvs)/\y=kV k/\kvs.length < sizeLine/\H'=upd H a (.dK (bX kvs k v))) \/
 ∃kvs k b,H a=some (.dT kvs)/\y=.ref b/\H b=some (.tup (k.map kV))/\kvs.length < sizeLine/\H'=upd H a (.dT (bX kvs k v))
theorem cD.k {H:Hp}{a:Addr}{kvs:List (aM×V)}{k:aM}(e:H a=some (.dK kvs)):cD H a (kV k) (bj kvs k):=.inl ⟨kvs,k,.inl e,rfl,rfl⟩
def cD.t {H:Hp}{a b:Addr}{kvs:List (List aM×V)}{k:List aM}(e:H a=some (.dT kvs))(eb:H b=some (.tup (k.map kV))):cD H a (.ref b) (bj kvs k):=.inr ⟨kvs,k,b,.inl e,rfl,eb,rfl⟩
theorem lK.k {H:Hp}{a:Addr}{kvs:List (aM×V)}{k:aM}{v:V}(e:H a=some (.dK kvs))(hl:kvs.length < sizeLine):lK H a (kV k) v (upd H a (.dK (bX kvs k v))):=.inl ⟨kvs,k,e,rfl,hl,rfl⟩
def lK.t {H:Hp}{a b:Addr}{kvs:List (List aM×V)}{k:List aM}{v:V}(e:H a=some (.dT kvs))(eb:H b=some (.tup (k.map kV)))(hl:kvs.length < sizeLine) :
  lK H a (.ref b) v (upd H a (.dT (bX kvs k v))):=.inr ⟨kvs,k,b,e,rfl,eb,hl,rfl⟩
section
variable {X:Cx}{ag:List (Addr×Obj)}{σ:St}{H:Hp}{s:Shared}{a:Addr}{y v:V}{u r:Value}{o:Option V}{A:Around}{E:Value->Shared->Prop}
def Inv.big (I:Inv X ag σ H s):sysModules < s.heap.objs.size:=by
 have h:mainGlobals < s.heap.objs.size:=(I.mod.glob.keeps I.bk).lt;exact ji nofun h
def DM {Q:Value->Shared->Prop}(hu:A.units+1 < cLine)(I:Inv X ag σ H s)(g:cD H a y (some v))(ry:RelV y u)(h:∀w' s',Inv X ag σ H s'->RelV v w'->Q w' s') :
  wpAny (model X.prog X.w) A (getItem (.ref a) u) Q E s:=by
 rcases g with ⟨kvs,k,e,ey,l⟩ | ⟨kvs,k,b,e,ey,eb,l⟩
 .subst ey;obtain⟨z,hd,vs,rel,dd⟩:=oQ I.cw e;obtain⟨w',hw,Aq⟩:=ka.some_of (v:=v) (o:=valueAt vs k) (by rw [l];exact rel.val k);exact wpAny_getItem_of (mw ry) dd.mapOf hw (h w' _ (I.tok _) Aq)
 subst ey;cases (show u=Value.ref b from ry);obtain⟨z,hd,xs,rel,dd⟩:=tT I.cw e;obtain⟨w',hw,Aq⟩:=ka.some_of (v:=v) (o:=(atKey xs k).map (·.2)) (by rw [l];exact rel.val k);obtain⟨p,hp,tD⟩:=b_.mp hw;refine wpAny_getItem_heap (pD hu) (nq I.cw eb) dd hp ?_;rw [tD];exact h w' _ (I.tok _) Aq
def Ym {Q:Value->Shared->Prop}(hu:A.units+1 < cLine)(I:Inv X ag σ H s)(g:cD H a y o)(ry:RelV y u)(h:∀s',Inv X ag σ H s'->Q (.bool o.isSome) s') :
  wpAny (model X.prog X.w) A (compareOp .In u (.ref a)) Q E s:=by
 rcases g with ⟨kvs,k,e,ey,l⟩ | ⟨kvs,k,b,e,ey,eb,l⟩
 .subst ey;obtain⟨z,hd,vs,rel,dd⟩:=oQ I.cw e;refine wpAny_in_of (mw ry) hd dd.mapOf ?_;rw [<-(rel.val k).jE,<-l];exact h _ (I.tok _)
 subst ey;cases (show u=Value.ref b from ry);obtain⟨z,hd,xs,rel,dd⟩:=tT I.cw e;refine wpAny_in_heap (pD hu) (nq I.cw eb) hd dd ?_;have q:=(rel.val k).jE;rw [mQ] at q;rw [<-q,<-l];exact h _ (I.tok _)
def Kd {Q:Value->Shared->Prop}(hu:A.units+1 < cLine)(I:Inv X ag σ H s)(g:cD H a y o)(ry:RelV y u)(h:∀s',Inv X ag σ H s'->Q (.bool (!o.isSome)) s') :
  wpAny (model X.prog X.w) A (compareOp .NotIn u (.ref a)) Q E s:=by
 rcases g with ⟨kvs,k,e,ey,l⟩ | ⟨kvs,k,b,e,ey,eb,l⟩
 .subst ey;obtain⟨z,hd,vs,rel,dd⟩:=oQ I.cw e;refine wpAny_notIn_of (mw ry) hd dd.mapOf ?_;rw [<-(rel.val k).jE,<-l];exact h _ (I.tok _)
 subst ey;cases (show u=Value.ref b from ry);obtain⟨z,hd,xs,rel,dd⟩:=tT I.cw e;refine wpAny_notIn_heap (pD hu) (nq I.cw eb) hd dd ?_;have q:=(rel.val k).jE;rw [mQ] at q;rw [<-q,<-l];exact h _ (I.tok _)
def rq {h':Heap}{t':Nat}{ob:HO}(I:Inv X ag σ H s)(mu:Tf (H a))(hs:Heap.SameBut a s.heap h')(he:∃q,h'.get? a=some q)(new:cK X.prog X.w (upd H a ob) h' a ob) :
  Inv X ag σ (upd H a ob) { s with heap:=h',toks:=t' } :=
 I.write (x:=a) (e:=a) mu (.inl rfl) (λb q hb z=>(hs.2 b hb).trans z) he new
def tU {P:Program}{w:World}{H':Hp}{h':Heap}{kvs:List (aM×V)}{vs:List (aM×Value)}(z:kvs.length<=sizeLine)(hd:(a == sysModules)=false)(rel:KV kvs vs)(dd:h'.DictOf (bc P w) a vs) :
  cK P w H' h' a (.dK kvs):=⟨z,hd,vs,rel,dd⟩
def DL {H':Hp}{Q:Unit->Shared->Prop}(hu:A.units+1 < cLine)(I:Inv X ag σ H s)(g:lK H a y v H')(ry:RelV y u)(rv:RelV v r)(h:∀s',Inv X ag σ H' s'->Q () s') :
  wpAny (model X.prog X.w) A (setItem (.ref a) u r) Q E s:=by
 rcases g with ⟨kvs,k,e,ey,l,eH⟩ | ⟨kvs,k,b,e,ey,eb,l,eH⟩
 .subst ey eH;obtain⟨z,hd,vs,rel,dd⟩:=vF I.cw e;have hz:vs.length<=sizeLine:=by rw [<-rel.length];exact z
  have hl:(bX kvs k v).length<=sizeLine:=by have:=fC kvs k v;omega
  refine wpAny_setItem_pairs (hsz:=hz) (mw ry) dd λh' Iz hs=>h _ ?_;have he:∃q,h'.get? a=some q:=let ⟨q,_,_,hq,_⟩:=Iz;⟨q,hq⟩;exact rq I (by rw [e];exact True.intro) hs he (tU hl hd (rel.put k rv) Iz)
 subst ey eH;cases (show u=Value.ref b from ry);obtain⟨z,hd,xs,rel,dd⟩:=Sy I.cw e;have hz:xs.length<=sizeLine:=by rw [<-bI rel];exact z
 have hl:(bX kvs k v).length<=sizeLine:=by have:=fC kvs k v;omega
 refine wpAny_setItem_heap (hsz:=hz) (pD hu) (nq I.cw eb) dd λh' Iz hs=>h _ ?_;obtain⟨q,es,ep,hq,h2,h3,h4,_,h5⟩:=Iz;refine rq I (by rw [e];exact True.intro) hs ⟨q,hq⟩ ⟨hl,hd,_,(rel.put k eb rv).keeps λc ys ec=>?_,q,es,ep,hq,h2,h3,h4,h5⟩;rw [ak (QN ec e (λz=>nomatch z))];exact ec
end
section
variable {X:Cx}{ag:List (Addr×Obj)}{σ:St}{H:Hp}{s:Shared}{a:Addr}{kvs:List (aM×V)}{k:aM}{u:Value}{A:Around}{E:Value->Shared->Prop}
def SE {Q:Value->Shared->Prop}(I:Inv X ag σ H s)(e:Rd H a (.dK kvs))(h:∀t s',Inv X ag σ H s'->Q (.int kvs.length t) s'):wpAny (model X.prog X.w) A (call (.builtin "len") [.ref a]) Q E s:=by
 obtain⟨z,hd,vs,rel,dd⟩:=oQ I.cw e;refine call_len_dict hd dd (by rw [<-rel.length];rw [sizeLine_eq] at z;omega) ?_;rw [<-rel.length];exact h _ _ (I.tok _)
end
def Td (i:Expr):Prop:=∀ov iv,subscripted i false ov iv=operate [ov,iv] (getItem ov iv)
def BI {prog:Program}{w:World}{A:Around}{E:Value->Shared->Prop}{s:Shared}{env:Env}{value slice:Expr}{pos:Pos}{T id:String}{Q:Value->Shared->Prop}
  (hl:typeLookup (.type T) "__getitem__"=pure (some (.builtin id)))(hs:Td slice)
  (h:wpAny (model prog w) A (eval value env) (λo s₁=>wpAny (model prog w) A (eval slice env) (λi s₂=>s₂.TypeIs o T/\wpAny (model prog w) A (getItem o i) Q E s₂) E s₁) E s) :
  wpAny (model prog w) A (eval (.Subscript value slice pos) env) Q E s:=by
 refine Subscript_ (dA h (λo s₁ h₁=>dA h₁ (λi s₂ h₂=>?_) λ_ _ x=>x) λ_ _ x=>x);obtain⟨hT,h₂⟩:=h₂;unfold subscriptTail;refine ay ?_;rw [getitemInPython_of_ne hT.not_modules];refine ay (wpAny_specialOf hT hl ?_);have fin:wpAny (model prog w) A (subscripted slice false o i) (λr s₃=>wpAny (model prog w) A (letTemporaryGo value o r >>= λ_=>pure r) Q E s₃) E s₂:=by
  rw [hs o i];exact wpAny_operating (dA h₂ (λr s₃ h₃=>ay (wpAny_letTemporaryGo (aD h₃))) λ_ _ x=>x)
 first
  | exact aD (ay fin)
  | exact ay (aD (ay fin))
  | exact ay fin
def yZ {X:Cx}{ag:List (Addr×Obj)}{σ:St}{H:Hp}{s:Shared}{a:Addr}{y:V}{o:Option V}(I:Inv X ag σ H s)(g:cD H a y o):s.TypeIs (.ref a) "dict" := by
 rcases g with ⟨kvs,k,e,_,_⟩ | ⟨kvs,k,b,e,_,_,_⟩
 .obtain⟨_,_,vs,_,dd⟩:=oQ I.cw e;exact dd.typeIs
 obtain⟨_,_,xs,_,dd⟩:=tT I.cw e;exact dd.typeIs
inductive XDp (x:V)(S:Addr->Hp->Prop)(R:Hp->Prop):Prop
|mk(a:Addr)(H4:Hp)(e:x=.ref a)(s:S a H4)(q:R H4)
inductive XDo (S:Option V->Prop)(R:Option V->Prop):Prop
|mk(o:Option V)(s:S o)(q:R o)
inductive XDg (x:V)(S:Addr->V->Prop)(R:V->Prop):Prop
|mk(a:Addr)(v:V)(e:x=.ref a)(s:S a v)(q:R v)
inductive YR (x:V)(S:Addr->Option V->Prop)(R:Option V->Prop):Prop
|mk(a:Addr)(o:Option V)(e:x=.ref a)(s:S a o)(q:R o)
def BD (td ty:TE):TE:=λσ H Q=>td σ H λx H1=>ty σ H1 λy H2=>XDg x (λa v=>cD H2 a y (some v)) λv=>Q v H2
def Qe (ty td:TE):TE:=λσ H Q=>ty σ H λy H1=>td σ H1 λx H2=>YR x (λa o=>cD H2 a y o) λo=>Q (.bl o.isSome) H2
def Bz (ty td:TE):TE:=λσ H Q=>ty σ H λy H1=>td σ H1 λx H2=>YR x (λa o=>cD H2 a y o) λo=>Q (.bl (!o.isSome)) H2
def Qs (td ty tv:TE):TS:=λD σ H=>tv σ H λv H1=>td σ H1 λx H2=>ty σ H2 λy H3=>XDp x (λa H4=>lK H3 a y v H4) λH4=>D.nx σ H4
section
variable {X:Cx}{o i e value:Expr}{pos pos' wu:Pos}{td ty tv:TE}
def fO (hu:X.A.units+1 < cLine)(ho:PE X o td)(hi:PE X i ty)(hs:Td i):PE X (.Subscript o i pos) (BD td ty):=by
 intro ag s σ H Q I h;refine BI PySem.F.slot_dict_getitem.lookup hs (df (ho ag s σ H _ I h) λu s1 bL=>?_);obtain⟨x,H1,I1,rx,q1⟩:=bL;refine df (hi ag s1 σ H1 _ I1 q1) λiv s2 bL=>?_;obtain⟨y,H2,I2,ry,a,v,ex,g,q2⟩:=bL;subst ex;obtain rfl:u=Value.ref a:=rx;exact⟨yZ I2 g,DM hu I2 g ry λw' s3 I3 Aq=>⟨v,H2,I3,Aq,q2⟩⟩
def jY (hu:X.A.units+1 < cLine)(hi:PE X i ty)(ho:PE X o td):PC X .In i o (Qe ty td):=by
 intro ag s σ H Q I h;refine df (hi ag s σ H _ I h) λiv s1 bL=>?_;obtain⟨y,H1,I1,ry,q1⟩:=bL;refine df (ho ag s1 σ H1 _ I1 q1) λu s2 bL=>?_;obtain⟨x,H2,I2,rx,a,ov,ex,g,q2⟩:=bL;subst ex;obtain rfl:u=Value.ref a:=rx;exact Ym hu I2 g ry λs3 I3=>⟨.bl ov.isSome,H2,I3,rfl,q2⟩
def dW (hu:X.A.units+1 < cLine)(hi:PE X i ty)(ho:PE X o td):PC X .NotIn i o (Bz ty td):=by
 intro ag s σ H Q I h;refine df (hi ag s σ H _ I h) λiv s1 bL=>?_;obtain⟨y,H1,I1,ry,q1⟩:=bL;refine df (ho ag s1 σ H1 _ I1 q1) λu s2 bL=>?_;obtain⟨x,H2,I2,rx,a,ov,ex,g,q2⟩:=bL;subst ex;obtain rfl:u=Value.ref a:=rx;exact Kd hu I2 g ry λs3 I3=>⟨.bl (!ov.isSome),H2,I3,rfl,q2⟩
def gB (hu:X.A.units+1 < cLine)(ho:PE X o td)(hi:PE X i ty)(hv:PE X value tv)(hs:swapsWith value (some (.Subscript o i pos')) pos.line X.env=pure false) :
  PS X (.Assign [.Subscript o i pos'] value pos) (Qs td ty tv):=by
 intro ag s σ H D I h;refine wpAny_Assign_Subscript (df (hv ag s σ H _ I h) λr s1 bL=>?_) hs;obtain⟨v,H1,I1,rv,q1⟩:=bL;refine df (ho ag s1 σ H1 _ I1 q1) λu s2 bL=>?_;obtain⟨x,H2,I2,rx,q2⟩:=bL;refine df (hi ag s2 σ H2 _ I2 q2) λiv s3 bL=>?_;obtain⟨y,H3,I3,ry,a,H4,ex,g,q3⟩:=bL;subst ex;obtain rfl:u=Value.ref a:=rx;exact DL hu I3 g ry rv λs4 I4=>⟨σ,H4,I4,q3⟩
end
def yY {P:Program}{w:World}{H:Hp}(h:Heap)(hb:sysModules < h.objs.size):cK P w H (h.push { cls:=.type "dict",data:=.dict #[] }) h.objs.size (.dK []) :=
 ⟨fj _,kO.mpr (fk (bE hb)),[],.nil,Heap.DictOf.new h⟩
def EL:TE:=λ_ H Q=>∀p,H p=none->Q (.ref p) (upd H p (.dK []))
section
variable {X:Cx}{pos:Pos}
def fu:PE X (.Dict [] [] pos) EL:=λag s σ H Q I h =>
 wpAny_Dict_empty ⟨.ref s.heap.objs.size,_,I.laid (a:=s.heap.objs.size) (o:=.dK []) (t':=s.toks) (λ_ _ q=>bW _ q) (aK _) (yY s.heap I.big),rfl,h _ (I.cw.fresh (aK _))⟩
end
def z5:List (TE×TE)->St->Hp->(List (V×V)->Hp->Prop)->Prop
 | [],_,H,Q=>Q [] H
 | (tk,tv)::r,σ,H,Q=>tk σ H λx H1=>tv σ H1 λy H2=>z5 r σ H2 λps H3=>Q ((x,y)::ps) H3
abbrev VV:List (V×V)->List (Value×Value)->Prop:=Paired λp q=>RelV p.1 q.1/\RelV p.2 q.2
def UY (X:Cx)(pos:Pos)(keys:List (Option Expr))(values:List Expr)(IL:List (TE×TE)):Prop :=
 ∀(ag:List (Addr×Obj))(s:Shared)(σ:St)(H:Hp)(Q:List (V×V)->Hp->Prop),Inv X ag σ H s->z5 IL σ H Q ->
  wpAny (model X.prog X.w) X.A (evalPairs (pairTrees keys values X.env pos)) (λvs s'=>∃ps H',Inv X ag σ H' s'/\VV ps vs/\Q ps H') X.xe s
def Jb {X:Cx}{pos:Pos}:UY X pos [] [] []:=λag s σ H Q I h=>pairTrees_nil_walk ⟨[],H,I,.nil,h⟩
def FD {X:Cx}{pos:Pos}{k v:Expr}{ks:List (Option Expr)}{vs:List Expr}{tk tv:TE}{IL:List (TE×TE)}(hk:PE X k tk)(hv:PE X v tv)(hr:UY X pos ks vs IL) :
  UY X pos (some k::ks) (v::vs) ((tk,tv)::IL):=λag s σ H Q I h =>
 pairTrees_cons_walk (df (hk ag s σ H _ I h) λu s1 ⟨x,H1,I1,rx,q1⟩=>df (hv ag s1 σ H1 _ I1 q1) λw2 s2 ⟨y,H2,I2,ry,q2⟩ =>
  df (hr ag s2 σ H2 _ I2 q2) λws s3 ⟨ps,H3,I3,rel,q3⟩=>⟨(x,y)::ps,H3,I3,.cons ⟨rx,ry⟩ rel,q3⟩)
def ng (kvs more:List (aM×V)):List (aM×V):=more.foldl (λbS kv=>bX bS kv.1 kv.2) kvs
def KV.merge:∀{more:List (aM×V)}{rs:List (aM×Value)}{kvs:List (aM×V)}{vs:List (aM×Value)},KV more rs->KV kvs vs->KV (ng kvs more) (merged vs rs):=by
 intro more rs kvs vs r;unfold KV at r
 induction r generalizing kvs vs with
 | nil=>intro q;exact q
 | @cons p q ps qs h t ih =>
  intro r0;have e:KV (bX kvs p.1 p.2) (stored vs q.1 q.2):=by
   have:=r0.put p.1 h.2;rw [<-h.1];exact this
  exact ih e
theorem mr:∀(more kvs:List (aM×V)),(ng kvs more).length<=kvs.length+more.length
 | [],kvs=>by show kvs.length<=kvs.length+0;omega
 | p::r,kvs=>by
  have h1:=mr r (bX kvs p.1 p.2);have h2:=fC kvs p.1 p.2;show (ng (bX kvs p.1 p.2) r).length<=_;rw [dG];omega
theorem ua {P:Program}{w:World}:∀{kvs:List (aM×V)}{ws:List (Value×Value)},VV (kvs.map λkv=>(kV kv.1,kv.2)) ws->∃rs,Carries (bc P w) ws rs/\KV kvs rs
 | [],_,r=>by rw [mH] at r;cases r;exact⟨[],True.intro,.nil⟩
 | p::kvs,_,r=>by
  rw [cH] at r;cases r with
  | @cons a b as bs h t =>
   obtain⟨rs,c,q⟩:=ua (P:=P) (w:=w) t;obtain⟨b1,b2⟩:=b;exact⟨(p.1,b2)::rs,⟨mw h.1,rfl,c⟩,.cons ⟨rfl,h.2⟩ q⟩
def Qc (IL:List (TE×TE)):TE:=λσ H Q=>∀p,H p=none->z5 IL σ (upd H p (.dK [])) λps H2=>H2 p=some (.dK [])/\∃kvs:List (aM×V),ps=kvs.map (λkv=>(kV kv.1,kv.2))/\kvs.length<=15/\Q (.ref p) (upd H2 p (.dK (ng [] kvs)))
def Jg {X:Cx}{pos:Pos}{keys:List (Option Expr)}{values:List Expr}{IL:List (TE×TE)}(h:UY X pos keys values IL)(j9:keys.all (·.isSome)=true)(hl:keys.length=values.length)(h0:keys≠[])
  (XE:keys.length<=15):PE X (.Dict keys values pos) (Qc IL):=by
 intro ag s σ H Q I q;have hn:=I.cw.fresh (aK s.heap.objs.size);have I1:=I.laid (a:=s.heap.objs.size) (o:=.dK []) (h':=s.heap.push { cls:=.type "dict",data:=.dict #[] }) (t':=s.toks) (λ_ _ q=>bW _ q) (aK _) (yY s.heap I.big);refine wpAny_Dict_walk (knd:=bc X.prog X.w) j9 hl h0 XE (df (h ag _ σ _ _ I1 (q _ hn)) λws s2 bL=>?_);obtain⟨ps,H2,I2,rel,e,kvs,ep,lk,q2⟩:=bL;subst ep;obtain⟨rs,c,rk⟩:=ua (P:=X.prog) (w:=X.w) rel;obtain⟨z,hd,vs0,r0,dd⟩:=vF I2.cw e;cases r0;refine⟨rs,c,dd,λh' Iz hs=>⟨.ref s.heap.objs.size,_,?_,rfl,q2⟩⟩;have hz:(ng [] kvs).length<=sizeLine:=by
  have h1:=mr kvs [];rw [kM] at h1;rw [sizeLine_eq];omega
 have he:∃q,h'.get? s.heap.objs.size=some q:=let ⟨q,_,_,hq,_⟩:=Iz;⟨q,hq⟩;exact rq I2 (by rw [e];exact True.intro) hs he (tU hz hd (rk.merge .nil) Iz)
structure M1 (X:Cx)(o:Expr)(m:Str)(apos:Pos)(e:Expr)(iu:Pos):Prop where
 base:attributeBase o m X.env (eval o X.env)=eval o X.env
 oY:((backTo iu (starEach [e] X.env)).all (λx=>!x.1) && (backToKw iu (keywordEach [] X.env)).all (λx=>x.1.isSome)
  && decide (([e]:List Expr).length+([]:List Keyword).length+(if ([]:List Keyword).isEmpty then 0 else 1) < 30))=true
 line:(apos.endLine == iu.line)=true
 trees:backTo iu (starEach [e] X.env)=[(false,eval e X.env)]
structure M2 (X:Cx)(o:Expr)(m:Str)(apos:Pos)(e f:Expr)(iu:Pos):Prop where
 base:attributeBase o m X.env (eval o X.env)=eval o X.env
 oY:((backTo iu (starEach [e,f] X.env)).all (λx=>!x.1) && (backToKw iu (keywordEach [] X.env)).all (λx=>x.1.isSome)
  && decide (([e,f]:List Expr).length+([]:List Keyword).length+(if ([]:List Keyword).isEmpty then 0 else 1) < 30))=true
 line:(apos.endLine == iu.line)=true
 trees:backTo iu (starEach [e,f] X.env)=[(false,eval e X.env),(false,eval f X.env)]
def U0 (H:Hp)(a:Addr):Prop:=(∃kvs,Rd H a (.dK kvs))\/∃kvs,Rd H a (.dT kvs)
def AW {X:Cx}{ag:List (Addr×Obj)}{σ:St}{H:Hp}{s:Shared}{a:Addr}(I:Inv X ag σ H s)(d:U0 H a) :
  s.TypeIs (.ref a) "dict" /\ (∀b,Value.ref a=.ref b->∃ob,s.heap.get? b=some ob/\ob.dict=none)/\(a == sysModules)=false:=by
 rcases d with ⟨kvs,e⟩ | ⟨kvs,e⟩
 .obtain⟨_,hd,vs,_,dd⟩:=oQ I.cw e;refine⟨dd.typeIs,λb q=>?_,hd⟩;cases q;obtain⟨ob,_,_,h1,h2,_⟩:=dd;exact⟨ob,h1,h2.2.1⟩
 obtain⟨_,hd,xs,_,dd⟩:=tT I.cw e;refine⟨dd.typeIs,λb q=>?_,hd⟩;cases q;obtain⟨ob,_,_,h1,h2,_⟩:=dd;exact⟨ob,h1,h2.2.1⟩
section
variable {X:Cx}{ag:List (Addr×Obj)}{σ:St}{H:Hp}{s:Shared}{a:Addr}{y d:V}{u r:Value}{o:Option V}{A:Around}{E:Value->Shared->Prop}
def Oo {Q:Value->Shared->Prop}(hu:A.units+1 < cLine)(I:Inv X ag σ H s)(g:cD H a y o)(ry:RelV y u)(rd:RelV d r)(h:∀w' s',Inv X ag σ H s'->RelV (o.getD d) w'->Q w' s') :
  wpAny (model X.prog X.w) A (call (.builtin "dict.get") [.ref a,u,r]) Q E s:=by
 rcases g with ⟨kvs,k,e,ey,l⟩ | ⟨kvs,k,b,e,ey,eb,l⟩
 .subst ey;obtain⟨z,hd,vs,rel,dd⟩:=oQ I.cw e;refine call_meetsIn PySem.F.slot_dict_get dd.typeIs PySem.F.entry_dict_get (PySem.F.args_dict_get_3 _ _ _) (meets_dict_get_default (bc X.prog X.w) a (mw ry) hd r) ⟨_,dd.mapOf,h _ _ (I.tok _) ?_⟩;rw [l];exact(rel.val k).getD rd
 subst ey;cases (show u=Value.ref b from ry);obtain⟨z,hd,xs,rel,dd⟩:=tT I.cw e;refine call_meetsIn PySem.F.slot_dict_get dd.typeIs PySem.F.entry_dict_get (PySem.F.args_dict_get_3 _ _ _) (meetsH_dict_get_default (tupleKind (bc X.prog X.w)) a b hd r) ⟨pD hu,k,xs,nq I.cw eb,dd,h _ _ (I.tok _) ?_⟩;rw [l];exact(rel.val k).getD rd
end
def EM (td ty tx:TE):TE:=λσ H Q=>td σ H λx H1=>UU x (U0 H1) λa=>ty σ H1 λy H2=>tx σ H2 λz H3=>XDo (cD H3 a y) λo=>Q (o.getD z) H3
section
variable {X:Cx}{o e f:Expr}{apos iu:Pos}{td ty tx:TE}
def iU (hu:X.A.units+1 < cLine)(ho:PE X o td)(he:PE X e ty)(hf:PE X f tx)(m:M2 X o "get" apos e f iu):PE X (.Call (.Attribute o "get" apos) [e,f] [] iu) (EM td ty tx):=by
 intro ag s σ H Q I h;refine wpAny_Call_method m.base m.oY m.line zS PySem.F.slot_dict_get PySem.F.type_dict_get (df (ho ag s σ H _ I h) λu s1 bL=>?_);obtain⟨x,H1,I1,rx,a,ex,d,q1⟩:=bL;subst ex;obtain rfl:u=Value.ref a:=rx;obtain⟨t1,t2,_⟩:=AW I1 d;refine⟨t1,t2,?_⟩;rw [m.trees];refine wa rfl (vY (qk (df (he ag s1 σ H1 _ I1 q1) λiv s2 ⟨y,H2,I2,ry,q2⟩ =>
  qk (df (hf ag s2 σ H2 _ I2 q2) λfv s3 ⟨z,H3,I3,rz,ov,g,q3⟩=>ph ?_))))
 exact Oo hu I3 g ry rz λw' s4 I4 Aq=>⟨_,H3,I4,Aq,q3⟩
end
section
variable {X:Cx}{ag:List (Addr×Obj)}{σ:St}{H:Hp}{s:Shared}{a:Addr}{kvs:List (aM×V)}{A:Around}{E:Value->Shared->Prop}
end
section
variable {X:Cx}{ag:List (Addr×Obj)}{σ:St}{H:Hp}{s:Shared}{a:Addr}{y:V}{u:Value}{A:Around}{E:Value->Shared->Prop}
end
end L2
set_option maxHeartbeats 4000000
namespace L2
open PySem
def xf:typeLookup (.type "list") "keys"=pure none:=by rw [typeLookup_type,v9];kernel_rfl
def xg:typeLookup (.type "list") "__getattr__"=pure none:=by rw [typeLookup_type,v9];kernel_rfl
section
variable {prog:Program}{w:World}{A:Around}{E:Value->Shared->Prop}{h:Heap}{g:Array GenState}{d:Drawn}{t:Nat}{os:OsState}{a:Addr}{o:Obj}
def ES:isSubtype (.type "AttributeError") (.type "AttributeError")=pure true:=by rw [isSubtype_type];kernel_rfl
def MX {m:Str}{tk:Tok}:ownMembersOf (.type "AttributeError") [.str m tk]=#[unsetMember,unsetMember]:=by kernel_rfl
def Hd {m:Str}{tk:Tok}:firstArgMember (.type "AttributeError") [.str m tk]=pure .none:=by kernel_rfl
def As {α:Type}{self:Value}{name msg:Str}{Q:α->Shared->Prop}(hm:msg.length<=sizeLine)(hh:A.handled=none)
  (hq:∀h' t' e oe,(∀b o,h.get? b=some o->h'.get? b=some o)->h'.get? e=some oe->oe.cls=.type "AttributeError" -> E (.ref e) ⟨h',g,d,t',os⟩) :
  wpAny (model prog w) A (raiseAttrError self name msg) Q E ⟨h,g,d,t,os⟩:=by
 have f1:=ES;unfold raiseAttrError newExc;refine ay (wpAny_mkStr ?_ hm);have fe:=Hd (m:=msg) (tk:=t);rw [MX]
 repeat (any_goals (first | assumption | wp_step))
 unfold raiseNew;refine ay (wpAny_handled ?_);rw [hh];refine ay (aD ?_);refine wpAny_throw ?_;refine hq _ _ _ _ (λb o q=>?_) (rC _ (cJ _ rfl) rfl) rfl;have lt:=bo q;rw [wb _ _ (by rw [jt];exact kb (nR lt))];exact bW _ (bW _ q)
def AU {tk:Tok}{aU:Array Value}{n:Nat}{Q:Fin->Shared->Prop}(hx:h.get? a=some { cls:=.type "list",data:=.seq aU n })(hh:A.handled=none)
  (hq:∀h' t' e oe,(∀b o,h.get? b=some o->h'.get? b=some o)->h'.get? e=some oe->oe.cls=.type "AttributeError" -> E (.ref e) ⟨h',g,d,t',os⟩) :
  wpAny (model prog w) A (Builtin.«object.__getattribute__» ⟨[.ref a,.str "keys" tk],[]⟩) Q E ⟨h,g,d,t,os⟩:=by
 have hT:(⟨h,g,d,t,os⟩:Shared).TypeIs (.ref a) "list" := ⟨_,hx,rfl⟩;have f4:=xf
 repeat (any_goals (first | assumption | wp_step))
 exact As nofun hh hq
def pX {aU:Array Value}{n:Nat}{Q:Option Value->Shared->Prop}(hx:h.get? a=some { cls:=.type "list",data:=.seq aU n })(hh:A.handled=none)
  (hq:∀h' t',(∀b o,h.get? b=some o->h'.get? b=some o)->Q none ⟨h',g,d,t',os⟩):wpAny (model prog w) A (getAttr? (.ref a) "keys") Q E ⟨h,g,d,t,os⟩:=by
 have hT:∀t',(⟨h,g,d,t',os⟩:Shared).TypeIs (.ref a) "list" := λt'=>⟨_,hx,rfl⟩;have f1:=ES;have f2:=wk.lookup;have f3:=wk.bind (.ref a);have f4:=xg;unfold getAttr? getAttrBy? getAttrBy;refine ay (wpAny_mkText (ay (oZ (i8 (ay (iP (hT _) ?_))))));rw [f2];refine ay (aD ?_);show wpAny _ _ (getAttrByItsOwn _ _ _ _ _ _) _ _ _;unfold getAttrByItsOwn;refine ay (aD (a:=none) (ay (oZ (i8 ?_))));show wpAny _ _ (boundAndCalled _ _ _) _ _ _;unfold boundAndCalled;rw [f3];refine ay (aD (kQ (vZ wk.plain F.entry_list_ga (wk.check _ _ _ _ _ _ _ _ (hT _) (F.args_list_getattribute_2 _ _) (AU hx hh λh' t' e oe k ee ec=>?_)))));have te:(⟨h',g,d,t',os⟩:Shared).TypeIs (.ref e) "AttributeError" := ⟨oe,ee,ec⟩;show wpAny _ _ (getattributeRaised _ _ _ _ _ _ _) _ _ _;unfold getattributeRaised;refine ay (rK te f1 ?_);rw [aw rfl];show wpAny _ _ (typeLookup _ _ >>= _) _ _ _;rw [f4];refine ay (aD ?_);show wpAny _ _ (throw _) _ _ _;refine wpAny_throw ?_;refine ay (rK te f1 ?_);rw [aw rfl];exact aD (hq h' t' k)
end
def fM:plainId "dict.update.loop"=true:=by decide +kernel
def lW:entryFor table "dict.update.loop"=some Builtin.«dict.update.loop»:=entryFor_of_tree (nofun)
section
variable {prog:Program}{w:World}{K:Type} [DecidableEq K] {knd:KeyKind prog w K}{A:Around}{E:Value->Shared->Prop}
def nK (knd:KeyKind prog w K)(h:Heap)(u:Value)(kv:K×Value):Prop :=
 ∃t key n o,u=.ref t/\knd.is kv.1 key=true/\h.get? t=some o/\o.cls=.type "tuple" /\ o.data=.seq #[key,kv.2] n
def nK.keep {h h':Heap}{u:Value}{kv:K×Value}(p:nK knd h u kv)(k:∀b o,o.cls=.type "tuple" -> h.get? b=some o->h'.get? b=some o):nK knd h' u kv :=
 let ⟨t,key,n,o,a,b,c,d,e⟩:=p;⟨t,key,n,o,a,b,k t o d c,d,e⟩
def Hj {R:Result->Shared->Prop}{d it l:Addr}{items:Array Value}(hh:A.handled=none):∀(more:List (K×Value)) (i:Nat)(s:Shared)(kvs:List (K×Value)) (j:Int)(tk:Tok),items.size=i+more.length ->
  s.heap.DictOf knd d kvs->s.heap.IsListIter it l i->s.heap.IsList l items->(∀m kv,more[m]?=some kv->∃u,items[i+m]?=some u/\nK knd s.heap u kv)->kvs.length+more.length<=sizeLine ->
  (∀h' t',h'.DictOf knd d (more.foldl (λa p=>stored a p.1 p.2) kvs)->(∀b o,b≠d->b≠it->s.heap.get? b=some o->h'.get? b=some o)->R (.ok (.ret .none)) { s with heap:=h',toks:=t' }) ->
  codeAny (model prog w) A (.builtin "dict.update.loop" ⟨[.ref d,.ref it,.int j tk,.none],[]⟩) R s:=by
 intro more
 induction more with
 | nil =>
  intro i s kvs j tk hi hd hit hl hp hz hR;refine kK lW ?_;rw [mi fM _];unfold Builtin.«dict.update.loop»;have hs:items[i]?=none:=wj (by rw [hi];exact aK _);refine ay (v_ hh hit hl hs λh1 eb=>?_);have nd:d≠it:=λz=>by
   obtain⟨o,_,_,q,_,c,_⟩:=hd;obtain⟨o',q',_,c'⟩:=hit;rw [z,q'] at q;cases q;rw [c'] at c;cases c
  show wpAny _ _ (Builtin.Dict.addKeywords d [] >>= _) _ _ _;exact ay (aD (aD (hR h1 s.toks (hd.extBut eb nd) λb o n1 n2 q=>eb b o n2 q)))
 | cons kv more ih =>
  intro i s kvs j tk hi hd hit hl hp hz hR;refine kK lW ?_;rw [mi fM _];unfold Builtin.«dict.update.loop»;obtain⟨u,hu,t,key,n,o,rfl,hk,ho,hc,Cn⟩:=hp 0 kv rfl;refine ay (wpAny_pyNext_list_item hit hl hu λh1 Wv sb=>?_);have nd:d≠it:=λz=>by
   obtain⟨o,_,_,q,_,c,_⟩:=hd;obtain⟨o',q',_,c'⟩:=hit;rw [z,q'] at q;cases q;rw [c'] at c;cases c
  have n2:∀b o,(o.cls=.type "tuple" \/ o.cls=.type "list")->s.heap.get? b=some o->b≠d/\b≠it:=by
   intro b o c q;constructor
   .intro z;obtain⟨o',q',c'⟩:=hd.typeIs;rw [z,q'] at q;cases q;rw [c'] at c;rcases c with c | c <;> exact absurd c nofun
   intro z;obtain⟨o',q',c',_⟩:=hit;rw [z,q'] at q;cases q;rw [c'] at c;rcases c with c | c <;> exact absurd c nofun
  have nt:∀b o,o.cls=.type "tuple" -> s.heap.get? b=some o->b≠d/\b≠it:=λb o c q=>n2 b o (.inl c) q;have nl:l≠d/\l≠it:=by
   obtain⟨o,q,c,_⟩:=hl;exact n2 l o (.inr c) q
  have El:h1.get? t=some o:=(sb.2 t (nt t o hc ho).2).trans ho;have Lo:h1.DictOf knd d kvs:=hd.sameBut sb nd;refine ay (i8 (ay (wpAny_tryCatch ?_)));unfold Builtin.Dict.pairItems;refine ay (iP (T := "tuple") ⟨o,El,hc⟩ ?_);rw [aw nofun];refine ay (mI El Cn (aD ?_));show wpAny _ _ (holding [key,kv.2] (dictSet d key kv.2)) _ _ _;rw [dG] at hz hi;refine i8 (wpAny_dictSet_pairs (s:={ s with heap:=h1 }) hk Lo (λh2 hd2 Qr=>?_) ∅);have kk:∀b o,b≠d->b≠it->s.heap.get? b=some o->h2.get? b=some o:=λb o n1 n2 q=>(Qr.2 b n1).trans ((sb.2 b n2).trans q);have ln:(stored kvs kv.1 kv.2).length<=kvs.length+1:=by
   unfold stored
   split
   .simp
   simp
  refine aD ⟨jj fM _,ih (i+1) _ _ _ _ ∅ hd2 (Wv.at λo q=>(Qr.2 it (fk nd)).trans q) (hl.at λo q=>kk l o nl.1 nl.2 q) (λm Wl e=>?_) ∅ λh3 t3 jn k3=>?_⟩
  .obtain⟨u',e1,e2⟩:=hp (m+1) Wl e;exact⟨u',by rw [<-e1];congr 1;omega,e2.keep λb o c q=>kk b o (nt b o c q).1 (nt b o c q).2 q⟩
  exact hR h3 t3 jn λb o n1 n2 q=>k3 b o n1 n2 (kk b o n1 n2 q)
def z6:(Value.type "list" != Value.type "dict")=true:=by decide
def uc {s:Shared}{l:Addr}{items:Array Value}{n:Nat}{more:List (K×Value)}{Q:Value->Shared->Prop}(knd:KeyKind prog w K)(hh:A.handled=none)(hx:s.heap.get? l=some { cls:=.type "list",data:=.seq items n })
  (hi:items.size=more.length)(hp:∀(m:Nat) kv,more[m]?=some kv->∃u,items[m]?=some u/\nK knd s.heap u kv)(hz:more.length<=sizeLine)
  (h:∀h' t',h'.DictOf knd s.heap.objs.size (more.foldl (λa p=>stored a p.1 p.2) [])->(∀b o,s.heap.get? b=some o->h'.get? b=some o)->Q (.ref s.heap.objs.size) { s with heap:=h',toks:=t' }) :
  wpAny (model prog w) A (call (.type "dict") [.ref l]) Q E s:=by
 refine callType_codes (Q₁:=λobj s₁=>obj=.ref s.heap.objs.size/\s₁={ s with heap:=s.heap.push { cls:=.type "dict",data:=.dict #[] } }) F.kt_called_dict (F.kt_typeCall_dict_1 _) F.entry_dict_init (kt_code_dict_new _ ⟨rfl,rfl⟩) ?_;rintro obj s₁ ⟨rfl,rfl⟩;have AI:(s.heap.push { cls:=.type "dict",data:=.dict #[] }).DictOf knd s.heap.objs.size []:=Heap.DictOf.new s.heap;have l0:=bW { cls:=.type "dict",data:=.dict #[] } hx;refine⟨AI.typeIs,F.args_dict_init_2 _ _,?_⟩;unfold Builtin.«dict.__init__» Builtin.Dict.selfAndRest;refine ay (ay (wpAny_notOrdered_dict AI.typeIs (aD ?_)));show wpAny _ _ (Builtin.Dict.updateFrom "dict.__init__" s.heap.objs.size (.ref l) [] .none) _ _ _;unfold Builtin.Dict.updateFrom;refine ay (iP (T := "list") ⟨_,l0,rfl⟩ ?_);rw [aw z6];refine ay (pX l0 hh λh1 t1 k1=>?_);refine ay (iw ?_);have l1:=k1 _ _ l0;refine ay (mN ⟨_,l1,rfl,_,rfl⟩ ?_);have k2:∀b o,s.heap.get? b=some o->(h1.push { cls:=.type "list_iterator",data:=.fields #[.ref l,.int 0 0] }).get? b=some o:=λb o q=>bW _ (k1 _ _ (bW _ q));refine aD ⟨jj fM _,Hj (knd:=knd) (A:=A.in1) (l:=l) (items:=items) (show A.in1.handled=none from hh) more 0 _ [] _ _ (by rw [hi,o6]) ?_ ⟨_,cJ _ rfl,rfl,rfl⟩ ⟨_,k2 _ _ hx,rfl,n,rfl⟩ (λm kv e=>?_) (by simpa using hz) λh' t' hd k3=>?_⟩
 .obtain⟨o,es,ep,q,r⟩:=AI;exact⟨o,es,ep,bW _ (k1 _ _ q),r⟩
 .obtain⟨u,e1,e2⟩:=hp m kv e;exact⟨u,by rw [o6];exact e1,e2.keep λb o _ q=>k2 b o q⟩
 refine⟨rfl,h h' t' hd λb o q=>k3 b o (bE (bo q)) ?_ (k2 b o q)⟩;have:=bo (k1 _ _ (bW { cls:=.type "dict",data:=.dict #[] } q));exact bE this
end
open PySem PySem.Spec PyProof.Rows
def Eb (X:Cx)(ifs:List Expr)(t:TT):Prop :=
 ∀(ag:List (Addr×Obj))(s:Shared)(σ:St)(H:Hp)(Q:Bool->Hp->Prop),Inv X ag σ H s->t σ H Q ->
  wpAny (model X.prog X.w) X.A (forIn ifs true λc r=>if r=true then do let ok <-isTrue c X.env (eval c X.env);pure (ForInStep.yield ok) else pure (ForInStep.yield r)) (TP X ag σ Q) X.xe s
def hV:TT:=λ_ H Q=>Q true H
def bF {X:Cx}:Eb X [] hV:=λ_ _ _ H _ I h=>wpAny_tests_nil ⟨H,I,h⟩
def gC {X:Cx}{c:Expr}{t:TT}(h:PT X c t):Eb X [c] t:=λag s σ H Q I hw=>wpAny_tests_one (h ag s σ H Q I hw)
def qB {prog:Program}{w:World}{A:Around}{R:Result->Shared->Prop}{s:Shared}{elt target iter:Expr}{ifs:List Expr}{scope:Scope}{pos:Pos}{it bS:Value}{env:Env}(I:Nat->Shared->Prop)
  (turn:∀n s,I n s->wpAny (model prog w) A (pyNext it) (λr s₁=>match r with
   | none=>R (.ok .next) s₁
   | some v=>wpAny (model prog w) A (letOwnedTupleGo target it v) (λ_ s₁=>wpAny (model prog w) A (assign target env v) (λ_ s₂ =>
     wpAny (model prog w) A (forIn ifs true λc r=>if r=true then do let ok <-isTrue c env (eval c env);pure (ForInStep.yield ok) else pure (ForInStep.yield r)) (λok s₃ =>
      if ok=true then wpAny (model prog w) A (eval elt env) (λx s₄ =>
       wpAny (model prog w) A (call (.builtin "list.append") [bS,x]) (λ_ s₅=>∃m,m < n/\I m s₅) (λ_ _=>False) s₄) (λ_ _=>False) s₃
      else ∃m,m < n/\I m s₃) (λ_ _=>False) s₂) (λ_ _=>False) s₁) (λ_ _=>False) s₁) (λ_ _=>False) s)
  (n:Nat)(h:I n s) :
  codeAny (model prog w) A (.compLoop (.ListComp elt [⟨target,iter,ifs,0⟩] scope pos) 0 it bS env) R s:=by
 refine codeAny_loop rfl I (λn s hI=>?_) n h;show wpAny _ A ((compTurn (.ListComp elt [⟨target,iter,ifs,0⟩] scope pos) 0 it bS env).onRaise (λx=>do noteFrame x env;theTreesLotGoes x)) _ _ s;refine wpAny_noted ?_;rw [compTurn_list];refine ay (wpAny_standAt (ay (dA (turn n s hI) (λr s₁ h₁=>?_) λ_ _ h'=>h'.elim)));cases r with
 | none=>exact aD h₁
 | some v =>
  refine ay (dA h₁ (λ_ s₂ h₂=>?_) λ_ _ h'=>h'.elim);refine ay (dA h₂ (λ_ s₂ h₂=>ay (dA h₂ (λok s₃ h₃=>?_) λ_ _ h'=>h'.elim)) λ_ _ h'=>h'.elim);cases ok with
  | false=>exact aD ⟨rfl,h₃⟩
  | true =>
   exact ay (ay (dA h₃ (λx s₄ h₄=>ay (dA h₄ (λ_ s₅ h₅=>aD (aD ⟨rfl,h₅⟩)) λ_ _ h'=>h'.elim)) λ_ _ h'=>h'.elim))
inductive zC (K:a0)(H:Hp):V->String->Prop where
 | bl (x:Bool):zC K H (.bl x) "bool"
 | int (i:Int):zC K H (.int i) "int"
 | str (x:Str):zC K H (.str x) "str"
 | tup {a:Addr}{xs:List V}(e:aT K H a xs):zC K H (.ref a) "tuple"
inductive XIs (K:a0)(H:Hp)(xs:List V)(R:Bool->Prop):Prop
|mk(x:V)(T n:String)(b:Bool)(e:xs=[x,.ty n])(c:zC K H x T)(k:PySem.W.kitOne K (.type T) (.type n)=some b)(q:R b)
def CW {X:Cx}{a:Expr}{ta:TE}(K:a0)(ha:PE X a ta)(he:∀whole,isTrue a X.env whole=(do let v <-whole;standAt a.pos;holding [v] (truthy v)))(hK:X.K=K:=by rfl) :
  PT X a (λσ H Q=>ta σ H λx H'=>∃k,HN K x H' k/\Q k H'):=by
 subst hK;exact jA ha he
structure Ku (env:Env)(scope:Scope)(cl:List (Str×Addr)):Prop where
 eq:closureFor scope env=pure cl
 sub:∀y c,cl.lookup y=some c->env.cells.lookup y=some c
 all:∀y,(y,NameKind.free)∈scope.names->∃c,cl.lookup y=some c
def j5 {y n:Str}{c:Addr}{l:List (Str×Addr)}:((n,c)::l).lookup y=if y=n then some c else l.lookup y:=by
 by_cases h:y=n
 .rw [aw h];simp [List.lookup,h]
 rw [ax h];simp [List.lookup,kO.mpr h]
def xG {env:Env}{scope:Scope}(h:∀y,(y,NameKind.free)∈scope.names->∃c,env.cells.lookup y=some c):∃cl,Ku env scope cl:=by
 have go:∀(names:List (Str×NameKind))(bS:List (Str×Addr)),(∀y,(y,NameKind.free)∈names->∃c,env.cells.lookup y=some c)->(∀y c,bS.lookup y=some c->env.cells.lookup y=some c) ->
   ∃cl,(forIn names bS λ(x:Str×NameKind)(cs:List (Str×Addr))=>(if x.2 == .free then do let c <-cellOf env x.1;pure (ForInStep.yield ((x.1,c)::cs)) else pure (ForInStep.yield cs):Sem (ForInStep (List (Str×Addr)))))=pure cl /\
    (∀y c,cl.lookup y=some c->env.cells.lookup y=some c)/\(∀y,(y,NameKind.free)∈names->∃c,cl.lookup y=some c)/\∀y c,bS.lookup y=some c->∃c',cl.lookup y=some c':=by
  intro names
  induction names with
  | nil=>intro bS _ hs;exact⟨bS,rfl,hs,λy hy=>absurd hy (by simp),λy c e=>⟨c,e⟩⟩
  | cons x r ih =>
   intro bS hf hs;obtain⟨n,k⟩:=x;rw [List.forIn_cons];by_cases hk:k=.free
   .subst hk;obtain⟨c0,e0⟩:=hf n bQ;obtain⟨cl,e1,e2,e3,e4⟩:=ih ((n,c0)::bS) (λy hy=>hf y (cu _ hy)) (λy c e=>by
     rw [j5] at e;by_cases z:y=n
     .rw [aw z] at e;cases e;rw [z];exact e0
     rw [ax z] at e;exact hs y c e)
    refine⟨cl,?_,e2,λy hy=>?_,λy c e=>?_⟩
    .rw [<-e1];have:cellOf env n=pure c0:=by unfold cellOf;rw [e0]
     simp only [this];rfl
    .rcases bO.mp hy with z | z
     .cases z;exact e4 n c0 (by rw [j5,aw rfl])
     exact e3 y z
    by_cases z:y=n
    .exact e4 y c0 (by rw [j5,aw z])
    exact e4 y c (by rw [j5,ax z];exact e)
   obtain⟨cl,e1,e2,e3,e4⟩:=ih bS (λy hy=>hf y (cu _ hy)) hs;refine⟨cl,?_,e2,λy hy=>?_,e4⟩
   .rw [<-e1];have:(k == NameKind.free)=false:=by simpa using hk
    simp only [this];rfl
   rcases bO.mp hy with z | z
   .cases z;exact absurd rfl hk
   exact e3 y z
 obtain⟨cl,e1,e2,e3,_⟩:=go scope.names [] h (λy c e=>by simp at e);refine⟨cl,?_,e2,e3⟩;unfold closureFor;exact Eq.trans (congrArg (λt:Sem (List (Str×Addr))=>t >>= λcs=>pure cs) e1) rfl
def wW {scope:Scope}{env:Env}{y:Str}(hk:env.scope.kind=.function)(hy:scope.names.lookup y=some .free)(he:env.kindOf y=some .cell):(relabel scope env).names.lookup y=some .cell:=by
 have go:∀l:List (Str×NameKind),l.lookup y=some .free->(l.map λ(x:Str×NameKind)=>if (x.2 == NameKind.free && env.scope.kind == .function && env.kindOf x.1 == some .cell) then (x.1,NameKind.cell) else (x.1,x.2)).lookup y=some .cell:=by
  intro l
  induction l with
  | nil=>intro z;cases z
  | cons x r ih =>
   obtain⟨n,k⟩:=x;intro hy;rw [cH];by_cases z:y=n
   .subst z;simp [List.lookup] at hy;subst hy;simp [List.lookup,hk,he]
   have zb:(y == n)=false:=kO.mpr z;simp only [List.lookup,zb] at hy;have:=ih hy;dsimp only
   split <;> simp only [List.lookup,zb] <;> exact this
 exact go _ hy
theorem xc {α:Type}{y:Str}{v:α}:∀{l:List (Str×α)},l.lookup y=some v->(y,v)∈l
 | [],h=>by cases h
 | (n,u)::r,h=>by
  by_cases z:y=n
  .subst z;simp [List.lookup] at h;subst h;exact bQ
  have zb:(y == n)=false:=kO.mpr z;simp only [List.lookup,zb] at h;exact cu _ (xc h)
def oz {scope:Scope}{env:Env}{y:Str}{k:NameKind}(h:(relabel scope env).names.lookup y=some k)(hk:k=.cell\/k=.free)(hc:∀z∈scope.names,z.2≠.cell):(y,NameKind.free)∈scope.names:=by
 have m:=xc h;unfold relabel at m;obtain⟨⟨n,k'⟩,m1,m2⟩:=bN.mp m;dsimp only at m2
 split at m2
 .rename_i q
  cases m2;simp at q;obtain⟨⟨q,_⟩,_⟩:=q;subst q;exact m1
 cases m2;rcases hk with hk | hk
 .exact absurd hk (hc _ m1)
 rw [<-hk];exact m1
def tV (X:Cx)(scope:Scope)(cl:List (Str×Addr))(C:Addr)(s1:Shared)(H1:Hp) (N:List Str)(fp:List Addr):Cx :=
 { X with N:=N,s₀:=s1,H₀:=H1,env:=compEnvC scope cl C X.env,outer:=X.stack,stack:=X.stack,ex:=fp,fn:=λ_=>false,pn:=[],xe:=λ_ _=>False }
structure Kv (X:Cx)(scope:Scope)(js:List (Nat×Str)):Prop where
 at_:∀p∈js,X.N[p.1]?=some p.2/\X.env.scope.names.lookup p.2=some .cell/\scope.names.lookup p.2=some .free
 all:∀y,(y,NameKind.free)∈scope.names->X.env.scope.names.lookup y=some .cell
def dN (ts:List Str)(js:List (Nat×Str))(σ:St):St:=ts.map (λ_=>none)++js.map λp=>(σ[p.1]?).join
def vi {X:Cx}{ag:List (Addr×Obj)}{σ:St}{H:Hp}{s1 s4:Shared}{scope:Scope}{ts:List Str}{js:List (Nat×Str)}{cl:List (Str×Addr)}{fp:List Addr}{C:Addr}{m:Str->Option Value}
  (I:Inv X ag σ H s1)(hf:∀b∈fp,xS X ag H b)(G1:∀b∈fp,b < s1.heap.objs.size)(jF:scope.kind=.function)(jG:∀y∈scope.names,y.2≠.cell)(cp:Kv X scope js)(mz:Ku X.env scope cl)
  (hC:s1.heap.objs.size < C)(ho:s4.os=s1.os)(hg:s4.gens=s1.gens)(old:∀b o,s1.heap.get? b=some o->s4.heap.get? b=some o)(hn:s4.heap.Ns C m)
  (hD:s4.heap.get? s1.heap.objs.size=some { cls:=.type "list",data:=.seq ([]:List Value).toArray 0 }) :
  Inv (tV X scope cl C s1 H (ts++js.map (·.2)) fp) [] (dN ts js σ) (upd H s1.heap.objs.size (.lst [])) s4:=by
 have xk:X.env.scope.kind=.function:=I.ok.kind;have has:∀y,((relabel scope X.env).names.lookup y=some .cell\/(relabel scope X.env).names.lookup y=some .free)->∃c,cl.lookup y=some c:=λy hy=>mz.all y (by
  rcases hy with hy | hy
  .exact oz hy (.inl rfl) jG
  exact oz hy (.inr rfl) jG)
 have lt:∀y c,cl.lookup y=some c->c < s1.heap.objs.size:=λy c e=>by
  obtain⟨v,o,ho,_⟩:=I.cell y c (mz.sub y c e);exact bo ho
 refine⟨⟨I.ok.mod,jF,I.ok.glob,I.ok.blt,jh hC,λy z c h1 h2=>I.ok.inj y z c (mz.sub _ _ h1) (mz.sub _ _ h2),has,λy c h _=>absurd (show false=true from h) dC,I.ok.hd,I.ok.frames,.inl rfl,
   λb hb=>⟨bE (ji (G1 b hb) hC),λy c h=>(hf b hb).2.2.2.2.1 y c (mz.sub _ _ h)⟩,I.bs,eK I.ok.IA I.sz,λb o e hb=>?_,λb hb=>?_,I.stack,I.BM⟩,
  ho,?_,Un.laid old (aK _) I.fresh,⟨m,hn,λi y v e1 e2 _=>?_⟩,λy c h=>?_,?_,λy c h=>?_,λp hp=>absurd (show p∈([]:List (Addr×Obj)) from hp) (by simp),I.cw.laid old (aK _) ?_,?_⟩
 .obtain⟨_,_,_,h4,_⟩:=hf b hb;rcases h4 with h4 | h4
  .exact I.ok.Gb b o e h4
  exact absurd (gk (bo (I.ok.bs b o e).1) h4) (kJ _)
 .intro Im;obtain⟨_,h2,h3,_⟩:=hf b hb;rcases bO.mp (I.z7 b Im) with z | z
  .exact h2 z
  exact h3 z
 .rw [hg];exact I.bare
 .have J1:(ts++js.map (·.2))[i]?=some y:=e1;have DK:(ts.map (λ_=>(none:Option V))++js.map λp=>(σ[p.1]?).join)[i]?=some (some v):=e2;by_cases hi:i < ts.length
  .rw [qo (by simpa using hi)] at DK;simp [hi] at DK
  rw [nX ∅] at J1;rw [nX (by simpa using Nat.le_of_not_lt hi)] at DK;rw [ar] at DK;rw [bf] at J1 DK;cases hj:js[i - ts.length]? with
  | none=>rw [hj] at J1;cases J1
  | some p =>
   rw [hj] at J1 DK;simp only [rL,Option.some.injEq] at J1 DK;obtain⟨a1,a2,a3⟩:=cp.at_ p (cA hj);subst J1;have es:σ[p.1]?=some (some v):=by
    cases q:σ[p.1]? with
    | none=>rw [q] at DK;cases DK
    | some z=>rw [q] at DK;exact congrArg some DK
   obtain⟨m0,Ue,lk⟩:=I.loc;obtain⟨u,ru,l⟩:=lk p.1 p.2 v a1 es (.inr (.inl a2));rcases l with l | ⟨_,c,ec,o,hc,hd⟩
   .have l1:X.env.scope.names.lookup p.2=some .local:=l.1;rw [a2] at l1;cases l1
   obtain⟨c',ec'⟩:=mz.all p.2 (xc a3);have e3:=mz.sub _ _ ec';rw [ec] at e3;cases e3;exact⟨u,ru,.inr ⟨.inl (wW xk a3 a2),c,ec',o,old _ _ hc,hd⟩⟩
 .obtain⟨v,o,h1,h2⟩:=I.cell y c (mz.sub y c h);exact⟨v,o,old _ _ h1,h2⟩
 .show upd H s1.heap.objs.size (.lst []) C=none;rw [ak (kb hC)];exact I.cw.fresh (jh hC)
 .show upd H s1.heap.objs.size (.lst []) c=none;rw [ak (bE (lt y c h))];exact I.lF y c (mz.sub y c h)
 .exact⟨by show 0<=sizeLine;decide,[],0,.nil,hD⟩
 show (dN ts js σ).length=(ts++js.map (·.2)).length;simp [dN]
def EN (wi:TI) (ts:List Str)(js:List (Nat×Str))(g:TG)(tif:TT)(te:TE):TE:=λσ H Q=>wi σ H λJ H1=>∀D,H1 D=none->∃W:Nat->Nat->List V->St->Hp->Prop,(∃m,W 0 m [] (dN ts js σ) (upd H1 D (.lst []))) /\
 ∀i m ys σ' H,W i m ys σ' H->(J.stop i H/\Q (.ref D) H)\/(J.go i H/\∃m',m' < m/\∀x H',J.mT i H x H'->g x σ' H' λσ2 H2=>tif σ2 H2 λb H3 =>
  if b=true then te σ2 H3 λy H4=>H4 D=some (.lst ys)/\ys.length < sizeLine/\W (i+1) m' (ys++[y]) σ2 (upd H4 D (.lst (ys++[y]))) else W (i+1) m' ys σ2 H3)
def aV {X:Cx}{elt iter tg:Expr}{ifs:List Expr}{scope:Scope}{pos:Pos}{wi:TI}{g:TG}{tif:TT}{te:TE}(ts:List Str)(js:List (Nat×Str))(hc:X.calm=true)(hi:PI X tg iter wi)
  (cp:Kv X scope js)(jG:∀y∈scope.names,y.2≠.cell)(jF:scope.kind=.function)
  (AZ:∀y∈scope.names,y.2=.local->scope.names.lookup y.1=some .local)
  (hg:∀cl C s1 H1 fp,PG (tV X scope cl C s1 H1 (ts++js.map (·.2)) fp) tg g)
  (Xc:∀cl C s1 H1 fp,Eb (tV X scope cl C s1 H1 (ts++js.map (·.2)) fp) ifs tif)(he:∀cl C s1 H1 fp,PE (tV X scope cl C s1 H1 (ts++js.map (·.2)) fp) elt te)
  (hs:∀x,foldedSetIterable iter X.env x=pure x:=by intro _;rfl) :
  PE X (.ListComp elt [⟨tg,iter,ifs,0⟩] scope pos) (EN wi ts js g tif te):=by
 intro ag s σ H Q I h;rw [eval_ListComp];obtain⟨cl,mz⟩:=xG (env:=X.env) (scope:=scope) λy hy=>I.ok.has y (.inl (cp.all y hy));refine wpAny_comprehension_free (use:=none) rfl hs mz.eq jF AZ (df (hi ag s σ H _ I h) λv s1 h1=>df h1 λT9 s2 h2=>?_);obtain⟨it,fp,tn,J,H2,e,I2,T,Ej,f2,h2⟩:=h2;subst e;obtain⟨W,⟨m0,w0⟩,turn⟩:=h2 s2.heap.objs.size I2.fresh;have G1:∀b∈fp,b < s2.heap.objs.size:=λb hb=>by obtain⟨o,e,_⟩:=T.obj _ _ Ej b hb;exact bo e
 refine iM (wpAny_newFunctionEnv jG (by intro y hy;simp at hy) (λh₁ AY xp=>?_) jF);dsimp only at AY xp ⊢;generalize NU:s2.heap.push { cls:=.type "list",dict:=none,data:=.seq ([]:List Value).toArray }=G2 at AY xp ⊢;have JT:G2.objs.size=s2.heap.objs.size+1:=by rw [<-NU,jt]
 have Pc:s2.heap.objs.size≠G2.objs.size:=by rw [JT];exact bE (i9 _)
 have old:∀b o,s2.heap.get? b=some o->h₁.get? b=some o:=λb o e =>
  xp.extBut b o (by rw [JT];exact bE (nR (bo e))) (bW _ (NU ▸ bW _ e))
 have qb:h₁.get? s2.heap.objs.size=some { cls:=.type "list",data:=.seq ([]:List Value).toArray 0 }:=xp.extBut _ _ Pc (bW _ (NU ▸ cJ _ rfl));generalize oJ:tV X scope cl G2.objs.size s2 H2 (ts++js.map (·.2)) fp=X2;have I4:Inv X2 [] (dN ts js σ) (upd H2 s2.heap.objs.size (.lst [])) { s2 with heap:=h₁,toks:=s2.toks+([]:List (Str×Value)).length }:=by
  rw [<-oJ];exact vi I2 f2 G1 jF jG cp mz (by rw [JT];exact i9 _) rfl rfl old AY qb
 have x1:X2.prog=X.prog:=by rw [<-oJ];rfl
 have x2:X2.w=X.w:=by rw [<-oJ];rfl
 have x3:X2.K=X.K:=by rw [<-oJ];rfl
 have x4:X2.calm=true:=by rw [<-oJ];exact hc
 have x5:X2.A=X.A:=by rw [<-oJ];rfl
 have x6:X2.env=compEnvC scope cl G2.objs.size X.env:=by rw [<-oJ];rfl
 have x7:X2.xe=λ_ _=>False:=by rw [<-oJ];rfl
 have Xd:PG X2 tg g:=by rw [<-oJ];exact hg _ _ _ _ _
 have NK:Eb X2 ifs tif:=by rw [<-oJ];exact Xc _ _ _ _ _
 have Ik:PE X2 elt te:=by rw [<-oJ];exact he _ _ _ _ _
 have Mm:tn 0 h₁:=T.keep _ _ _ Ej λb _ o e=>old b o e;have sj:∀{H':Hp}{kr:List (Addr×Obj)},(∀b∈fp,H' b=none)->(∀p∈kr,p.1∉fp)->∀b∈fp,xS X2 kr H' b:=λ{H' kr} hn hp b hb=>by
  have o4:=I4.ok;subst oJ;exact⟨hn b hb,(o4.Pj b hb).1,o4.DE b hb,.inl hb,(o4.Pj b hb).2,λp p_=>by
   have tD:p∈([]:List (Addr×Obj))++kr:=p_;rw [mK] at tD;intro z;exact hp p tD (by rw [z];exact hb)⟩
 have fin:∀{s':Shared}{σ':St}{H':Hp},Inv X2 [] σ' H' s'->Q (.ref s2.heap.objs.size) H' ->
   compPost (model X.prog X.w) X.A X.xe none (EP X ag σ Q) (.ref s2.heap.objs.size) G2.objs.size (.ok .next) s':=λ{s' σ' H'} J' q=>by
  subst oJ;obtain⟨m',GX,_⟩:=J'.loc;refine⟨m',GX,λh' O4=>?_⟩;have u:Un (Dy X.stack) fp H2 H' s2.heap s'.heap:=J'.base;have nC:∀b o,s2.heap.get? b=some o->b≠G2.objs.size:=λb o e=>by rw [JT];exact bE (nR (bo e))
  have u':Un (Dy X.stack) fp H2 H' s2.heap h':=⟨λb o e n hb hx=>(O4.2 b (nC b o e)).trans (u.keep b o e n hb hx),λb o e n hb hx=>by
    obtain⟨sl,z⟩:=u.slot b o e n hb hx;exact⟨sl,(O4.2 b (nC b o e)).trans z⟩,u.free,λb o e hx=>by
    obtain⟨o',z⟩:=u.there b o e hx;exact⟨o',(O4.2 b (nC b o e)).trans z⟩,u.pK,u.nF,u.n8⟩
  have cw:mF X.prog X.w H' h':=λb ob e=>by
   refine(J'.cw b ob e).kZ (λc w' nv q'=>(O4.2 c ?_).trans q') (λ_ q=>q) λ_ _ q=>q;intro z;have fr:H' G2.objs.size=none:=J'.free;rcases nv with z' | z'
   .rw [<-z'] at e;rw [z,fr] at e;cases e
   rw [z,fr] at z';cases z'
  have I5:Inv X ag σ H' { s' with heap:=h' }:=I2.LK (s':={ s' with heap:=h' }) J'.os u' cw J'.bare λb hb=>by
   obtain⟨_,f1,_,f3,f4,f5⟩:=f2 b hb;exact⟨f3,f1,f4,f5⟩
  exact⟨.ref s2.heap.objs.size,H',I5,rfl,q⟩
 have loop:∀s₃:Shared,s₃={ s2 with heap:=h₁,toks:=s2.toks+([]:List (Str×Value)).length } ->
   codeAny (model X.prog X.w) X.A (.compLoop (.ListComp elt [⟨tg,iter,ifs,0⟩] scope pos) 0 (.ref it) (.ref s2.heap.objs.size) (compEnvC scope cl G2.objs.size X.env))
    (compPost (model X.prog X.w) X.A X.xe none (EP X ag σ Q) (.ref s2.heap.objs.size) G2.objs.size) s₃:=by
  rintro s₃ rfl;subst oJ;refine qB (λn s'=>∃i ys σ' H',Inv (tV X scope cl G2.objs.size s2 H2 (ts++js.map (·.2)) fp) [] σ' H' s'/\tn i s'.heap/\(∀b∈fp,H' b=none)/\W i n ys σ' H') ?_ m0
   ⟨0,[],_,_,I4,Mm,λb hb=>by rw [ak (bE (G1 b hb))];exact(f2 b hb).1,w0⟩
  rintro n s' ⟨i,ys,σ0,H',J',qR,Sd,w'⟩;rcases turn i n ys σ0 H' w' with ⟨stop,q⟩ | ⟨go,m',hm,step⟩
  .refine dA (T.done (tV X scope cl G2.objs.size s2 H2 (ts++js.map (·.2)) fp) rfl rfl rfl hc i [] s' _ H' (λ_ _=>False) J' (sj Sd (by simp)) qR stop) (λr s4 ⟨hr,J4⟩=>?_) λ_ _ z=>z;subst hr;exact fin J4 q
  refine dA (T.item (tV X scope cl G2.objs.size s2 H2 (ts++js.map (·.2)) fp) rfl rfl rfl hc i [] s' _ H' (λ_ _=>False) J' (sj Sd (by simp)) qR go) (λr s4 ⟨u,hr,h4⟩=>?_) λ_ _ z=>z;subst hr;refine dA h4 (λ_ s5 bL=>?_) λ_ _ z=>z;obtain⟨xv,H5,J5,r5,y5,CP,Sb⟩:=bL;have YY:=J5.pinned (sj Sb (by simp)) (T.obj _ _ CP);have back:∀{s7:Shared}{σ7:St}{H7:Hp},Inv (tV X scope cl G2.objs.size s2 H2 (ts++js.map (·.2)) fp) ([]++pT fp s5.heap) σ7 H7 s7->Inv (tV X scope cl G2.objs.size s2 H2 (ts++js.map (·.2)) fp) [] σ7 H7 s7/\tn (i+1) s7.heap/\∀b∈fp,H7 b=none:=λ{s7 σ7 H7} J7=>by
   refine⟨J7.kW,T.keep _ _ _ CP λb hb o e=>(J7.pin (b,o) (dD _ (dD _ (ic hb e)))).1,λb hb=>?_⟩;obtain⟨o,e,d⟩:=T.obj _ _ CP b hb;exact(J7.pin (b,o) (dD _ (dD _ (ic hb e)))).2.1
  show wpAny _ _ (assign tg (tV X scope cl G2.objs.size s2 H2 (ts++js.map (·.2)) fp).env u) _ _ s5;refine dA (Xd _ s5 _ H5 xv u _ YY r5 (step xv H5 y5)) (λ_ s6 bL=>?_) λ_ _ z=>z;obtain⟨σ6,H6,J6,q6⟩:=bL;refine dA (NK _ s6 _ H6 _ J6 q6) (λb s7 bL=>?_) λ_ _ z=>z;obtain⟨H7,J7,q7⟩:=bL;cases b with
  | false =>
   rw [ax dC] at q7 ⊢;obtain⟨J8,Vv,XG⟩:=back J7;exact⟨m',hm,i+1,ys,σ6,H7,J8,Vv,XG,q7⟩
  | true =>
   rw [aw rfl] at q7 ⊢;refine dA (Ik _ s7 _ H7 _ J7 q7) (λyv s8 bL=>?_) λ_ _ z=>z;obtain⟨y,H8,J8,r8,Xw,Wz,w8⟩:=bL;refine dA (bA (X:=tV X scope cl G2.objs.size s2 H2 (ts++js.map (·.2)) fp) _ s8 _ H8 (.ref s2.heap.objs.size) [y] (.ref s2.heap.objs.size) [yv] (λv H'=>W (i+1) m' (ys++[y]) σ6 H') J8 rfl (.cons r8 .nil) ⟨s2.heap.objs.size,ys,y,rfl,rfl,Xw,Wz,w8⟩)
    (λ_ s9 ⟨_,H9,J9,_,w9⟩=>?_) λ_ _ z=>z
   obtain⟨YZ,Mn,N1⟩:=back J9;exact⟨m',hm,i+1,ys++[y],σ6,H9,YZ,Mn,N1,w9⟩
 exact codeAny_compStart_list (loop _ rfl) (T.self _ _ _ _ _ Mm (loop _ rfl))
def Th (K:a0)(a:Addr):It :=
 ⟨λi H=>∃xs x,aI K H a xs/\xs[i]?=some x,λi H x H'=>∃t y,x=.ref t/\H t=none/\H'=upd H t (.tup [.int (i:Int),y])/\∀xs,aI K H a xs->xs[i]?=some y,λi H=>∃xs,aI K H a xs/\xs.length<=i⟩
def CM {P:Program}{w:World}{K:a0}{elts:List Expr}{k:Nat}{wu:Pos}(a e it:Addr)(RR:e≠it) :
  Turn P w K (.Tuple elts k wu) (Th K a) [e,it] e (λi h=>(∃old,IsEnum h e it i old)/\h.IsListIter it a i) where
 mem:=by simp
 obj:=λi h st b hb=>by
  obtain⟨⟨old,he⟩,o,e1,c,d⟩:=st;rcases bO.mp hb with rfl | hb
  .exact⟨_,he,λv z=>by cases z⟩
  obtain rfl:b=it:=by simpa using hb
  exact⟨o,e1,λv z=>by rw [d] at z;cases z⟩
 keep:=λi h h' st k=>⟨⟨st.1.choose,k e (by simp) _ st.1.choose_spec⟩,st.2.at λo q=>k it (by simp) o q⟩
 item:=by
  intro X hP hw hK hc i ag s σ H E I hf st hg;subst hP hw hK;obtain⟨xs,x,hq,hx⟩:=hg;obtain⟨aU,rv,p,hz⟩:=I.list hq;obtain⟨u,hu,ru⟩:=rv.get hx;obtain⟨⟨old,he⟩,hit⟩:=st;refine wpAny_pyNext_enum_item he hit p.isList (x:=u) (by simpa using hu) RR λh1 ho NJ hT hsz hk=>?_;refine⟨_,rfl,wpAny_letOwnedTupleGo_enum ho λh2 RS sb=>?_⟩;have ne:s.heap.objs.size≠e:=kb (bo he);have kk:∀b o,b≠e->b≠it->s.heap.get? b=some o->h2.get? b=some o:=λb o n1 n2 q=>(sb.2 b n1).trans (hk b o n1 n2 q);have T2:h2.get? s.heap.objs.size=some { cls:=.type "tuple",data:=.seq #[.int i s.toks,u] }:=(sb.2 _ ne).trans hT;have fe:=hf e (by simp);have fi:=hf it (by simp);have fT:H s.heap.objs.size=none:=I.cw.fresh (aK _);have tr:∀b v,H b=some v->b≠e/\b≠it:=λb v q=>⟨λz=>(by rw [z,fe.1] at q;cases q),λz=>(by rw [z,fi.1] at q;cases q)⟩;have nc:∀b,b∉[e,it]->b≠e/\b≠it:=λb z=>⟨λq=>z (by simp [q]),λq=>z (by simp [q])⟩;have lt:∀b o,s.heap.get? b=some o->b≠s.heap.objs.size:=λb o q=>bE (bo q);have I2:Inv X ag σ (upd H s.heap.objs.size (.tup [.int (i:Int),x])) { s with heap:=h2,toks:=s.toks+1 }:=by
   refine I.call (g':=s.gens) (t':=s.toks+1) (d':=s.drawn) (ch:=[e,it]) ⟨λb o q _ _ c=>kk b o (nc b c).1 (nc b c).2 q,λb o q _ _ c=>⟨o.slots,kk b o (nc b c).1 (nc b c).2 q⟩,
    λb o q n _=>by rw [ak (lt b o q)];exact n,λb o q c=>⟨o,kk b o (nc b c).1 (nc b c).2 q⟩,λb ys q=>by rw [ak (aB q fT)];exact q,λb o v q=>by rw [ak (aB q fT)];exact q,
    λb ps q=>⟨#[],by rw [ak (aB q fT),q];simp⟩⟩ (λb v q=>?_) I.bare (λb hb=>?_)
   .by_cases hb:b=s.heap.objs.size
    .subst hb;rw [ae] at q;cases q;exact⟨by show 2<=sizeLine;decide,[.int i s.toks,u],.cons ⟨_,rfl⟩ (.cons ru .nil),_,T2,rfl,_,rfl⟩
    rw [ak hb] at q;refine(I.cw b v q).kZ (λc o nv z=>?_) (λc q'=>by rw [ak (aB q' fT)];exact q') λc ys q'=>by rw [ak (aB q' fT)];exact q'
    rcases nv with rfl | nv
    .exact kk c o (tr c _ q).1 (tr c _ q).2 z
    exact kk c o (tr c _ nv).1 (tr c _ nv).2 z
   rcases bO.mp hb with rfl | hb
   .exact⟨fe.2.2.2.1,fe.2.1,fe.2.2.2.2.1,fe.2.2.2.2.2⟩
   obtain rfl:b=it:=by simpa using hb
   exact⟨fi.2.2.2.1,fi.2.1,fi.2.2.2.2.1,fi.2.2.2.2.2⟩
  refine⟨.ref s.heap.objs.size,_,I2,rfl,⟨_,x,rfl,fT,rfl,λys hy=>by rw [I.sY hy hq];exact hx⟩,⟨⟨_,RS⟩,NJ.at λo q=>(sb.2 it RR.symm).trans q⟩,λb hb=>?_⟩;have Im:H b=none/\∃o,s.heap.get? b=some o:=by
   rcases bO.mp hb with rfl | hb
   .exact⟨fe.1,_,he⟩
   obtain rfl:b=it:=by simpa using hb
   obtain⟨o,q,_⟩:=hit;exact⟨fi.1,o,q⟩
  obtain⟨n,o,q⟩:=Im;rw [ak (lt b o q)];exact n
 done:=by
  intro X hP hw hK hc i ag s σ H E I hf st hg;subst hP hw hK;obtain⟨xs,hq,hx⟩:=hg;obtain⟨aU,rv,p,hz⟩:=I.list hq;obtain⟨⟨old,he⟩,hit⟩:=st;obtain⟨f0,f1,f2,f3,f4,f5⟩:=hf it (by simp);have hl:=rv.length;exact wpAny_pyNext_enum_end (I.ok.hd hc) he hit p.isList (by simp;omega) λh' eb=>⟨rfl,I.turned (t':=s.toks) (λb o hb e=>eb b o hb e) f0 f1 f3 f4 f5⟩
 self:=λ_ _ _ _ _ st h=>wpAny_pyIter_enum st.1.choose_spec h
def vL:bootBuiltins "enumerate"=some (.type "enumerate"):=by decide +kernel
def Rj (K:a0)(ta:TA):TI:=λσ H R=>ta σ H λvs H1=>YQ vs (aI K H1) λa=>R (Th K a) H1
def lU {X:Cx}{elts:List Expr}{k:Nat}{wu:Pos}{l:Expr}{ta:TA}{p pos:Pos}(hg:Gl X "enumerate")(hm:X.mg "enumerate"=none)(ha:PA X [l] ta)(hs:starEach [l] X.env=[(false,eval l X.env)]:=by rfl) :
  PI X (.Tuple elts k wu) (.Call (.Name "enumerate" p) [l] [] pos) (Rj X.K ta):=by
 intro ag s σ H R I h;refine Call_ (iW I hg hm vL (xU (df (ha pos ag s σ H _ I h) λus s1 bL=>?_) hs rfl));obtain⟨vs,H1,I1,r1,q1⟩:=bL;obtain⟨a,xs,e,hq,q⟩:=q1;subst e;obtain⟨u,rfl,rx⟩:=r1.one;cases rx;obtain⟨aU,rv,pl,hz⟩:=I1.list hq;refine call_enumerate_list pl.isList λh1 he hit hsz hk=>wpAny_pyIter_enum he ?_;refine⟨s1.heap.objs.size+1,[s1.heap.objs.size+1,s1.heap.objs.size],_,_,H1,rfl,I1.kept (t':=s1.toks) λb o e=>hk b o e,CM a _ _ (kb (i9 _)),⟨⟨_,he⟩,hit⟩,λb hb=>?_,q⟩;rcases bO.mp hb with rfl | hb
 .exact I1.xu (jQ _) (I1.cw.fresh (jQ _))
 obtain rfl:b=s1.heap.objs.size:=by simpa using hb
 exact I1.xu (aK _) (I1.cw.fresh (aK _))
def cZ (kvs bS:List (aM×V)):List (aM×V):=kvs.foldl (λa p=>bX a p.1 p.2) bS
theorem tN:∀{kvs:List (aM×V)}{vs:List (aM×Value)}{bS:List (aM×V)}{Hw:List (aM×Value)},KV kvs vs->KV bS Hw->KV (cZ kvs bS) (vs.foldl (λa p=>stored a p.1 p.2) Hw)
 | _,_,_,_,.nil,h=>h
 | _,_,_,_,.cons (a:=p) (b:=q) r t,h=>by
  obtain⟨e,rv⟩:=r;show KV (cZ _ (bX _ p.1 p.2)) (List.foldl _ (stored _ q.1 q.2) _);rw [<-e];exact tN t (h.put p.1 rv)
theorem tO:∀(kvs bS:List (aM×V)),(cZ kvs bS).length<=bS.length+kvs.length
 | [],bS=>by simp [cZ]
 | p::r,bS=>by
  have:=tO r (bX bS p.1 p.2);have:=fC bS p.1 p.2;show (cZ r (bX bS p.1 p.2)).length<=_;rw [dG];omega
section
variable {X:Cx}{ag:List (Addr×Obj)}{σ:St}{H:Hp}{s:Shared}
theorem pairs_at (I:Inv X ag σ H s):∀{ts:List Addr}{kvs:List (aM×V)}{aU:List Value},Paired (λt kv=>aT X.K H t [kV kv.1,kv.2]) ts kvs->ba (ts.map V.ref) aU ->
  ∃vs:List (aM×Value),KV kvs vs/\Paired (λu kv=>nK (bc X.prog X.w) s.heap u kv) aU vs
 | [],_,_,.nil,r=>by
  rw [mH] at r;cases r;exact⟨[],.nil,.nil⟩
 | t::ts,kv::kvs,_,.cons h p,r=>by
  rw [cH] at r;cases r with
  | cons r1 r2 =>
   obtain⟨vs,e1,e2⟩:=pairs_at I p r2;obtain⟨aU,rv,⟨o,h1,h2,n,h3⟩,_⟩:=I.tuple h;obtain⟨u1,u2,rfl,q1,q2⟩:=vals2 rv;exact⟨(kv.1,u2)::vs,.cons ⟨rfl,q2⟩ e1,.cons ⟨t,u1,n,o,r1,mw q1,h1,h2,h3⟩ e2⟩
theorem Paired.at_ {α β:Type}{F:α->β->Prop}:∀{xs:List α}{ys:List β},Paired F xs ys->∀(m:Nat)(y:β),ys[m]?=some y->∃x,xs[m]?=some x/\F x y
 | _,_,.nil,m,y,e=>by cases m <;> cases e
 | _,_,.cons h t,0,y,e=>by cases e;exact⟨_,rfl,h⟩
 | _,_,.cons h t,m+1,y,e=>Paired.at_ t m y e
def eI (hc:X.calm=true):gN X (.type "dict") (λxs H Q=>∃a ts kvs,xs=[.ref a]/\H a=some (.lst (ts.map V.ref))/\Paired (λt kv=>aT X.K H t [kV kv.1,kv.2]) ts kvs/\∀d,H d=none->Q (.ref d) (upd H d (.dK (cZ kvs [])))):=by
 intro ag s σ H xs us Q I r h;obtain⟨a,ts,kvs,rfl,e,p,q⟩:=h;obtain⟨u,rfl,rx⟩:=vals1 r;cases (show u=Value.ref a from rx);obtain⟨z,aU,n,rv,ho⟩:=(show cK X.prog X.w H s.heap a (.lst _) from I.cw a _ e);obtain⟨vs,r1,r2⟩:=pairs_at I p rv;have l1:=bI r2;have l2:=r1.length;have l3:=bI p;rw [ar] at z;refine uc (bc X.prog X.w) (I.ok.hd hc) ho (by simpa using l1) (λm kv em=>?_) ∅ λh' t' hd kk=>?_
 .obtain⟨u,e1,e2⟩:=Paired.at_ r2 m kv em;exact⟨u,by simpa using e1,e2⟩
 have new:cK X.prog X.w (upd H s.heap.objs.size (.dK (cZ kvs []))) h' s.heap.objs.size (.dK (cZ kvs [])):=by
  refine tU ?_ ?_ (tN r1 .nil) hd
  .have:=tO kvs [];simp at this;omega
  have:=I.big;exact kO.mpr (kb this)
 exact⟨.ref s.heap.objs.size,_,I.laid (t':=t') kk (aK _) new,rfl,q _ (I.cw.fresh (aK _))⟩
theorem u9 {α β:Type}{F:α->β->Prop}:∀{xs:List α}{ys:List β},xs.length=ys.length->(∀(j:Nat) x y,xs[j]?=some x->ys[j]?=some y->F x y)->Paired F xs ys
 | [],[],_,_=>.nil
 | [],_::_,e,_=>by cases e
 | _::_,[],e,_=>by cases e
 | x::xs,y::ys,e,h=>.cons (h 0 x y rfl rfl) (u9 (Nat.succ.inj e) λj a b e1 e2=>h (j+1) a b e1 e2)
def Gx {P:Program}{w:World}{k:aM}{u:Value}(h:(bc P w).is k u=true):RelV (kV k) u:=by
 rcases de (show sZ k u=true from h) with ⟨i,t,rfl,rfl⟩ | ⟨x,t,rfl,rfl⟩
 .exact⟨t,rfl⟩
 exact⟨t,rfl⟩
def nJ (hc:X.calm=true):gN X (.type "list") (λxs H Q=>∃a kvs,xs=[.ref a]/\H a=some (.dK kvs)/\∀D,H D=none->Q (.ref D) (upd H D (.lst (kvs.map λp=>kV p.1)))):=by
 intro ag s σ H xs us Q I r h;obtain⟨a,kvs,rfl,e,q⟩:=h;obtain⟨u,rfl,rx⟩:=vals1 r;cases (show u=Value.ref a from rx);obtain⟨z,hs,vs,rel,dd⟩:=vF I.cw e;obtain⟨o,es,ep,d1,d2,d3,d4⟩:=dd;have l1:=rel.length;refine PySem.W.kdl_call (PySem.W.kdl_dict (knd:=bc X.prog X.w) (kvs:=vs) (ep:=ep) hs) (I.ok.hd hc) ⟨o,es,d1,d2,d3,d4⟩ ∅ λh' tk bS c kk hD qb=>?_;have keys:=rel.keys;have vals:ba (kvs.map λp=>kV p.1) bS.toList:=by
  refine u9 (by have h1:=qb.1;simp only [ar,iN];omega) λj x y e1 e2=>?_;rw [rF] at e2;obtain⟨k,v,e3,e4⟩:=qb.2 j y e2;rw [bf] at e1;obtain⟨p,e5,rfl⟩:=b_.mp e1;have e6:(kvs.map (·.1))[j]?=some p.1:=by rw [bf,e5];rfl
  rw [keys,bf,e3] at e6;cases e6;exact Gx e4
 have new:cK X.prog X.w (upd H s.heap.objs.size (.lst (kvs.map λp=>kV p.1))) h' s.heap.objs.size (.lst (kvs.map λp=>kV p.1)):=⟨by rw [ar];exact z,bS.toList,c,vals,by simpa using hD⟩;exact⟨.ref s.heap.objs.size,_,I.laid (t':=tk) kk (aK _) new,rfl,q _ (I.cw.fresh (aK _))⟩
end
def qh (v:V):Prop:=jL v=true\/∃r,v=.ref r
def He {x:V}(h:jL x=true):vA x x=true:=by
 cases x with
 | gb=>rfl
 | bl b=>exact mM b
 | int i=>exact mM i
 | str z=>exact mM z
 | _=>cases h
def Ba {A:Around}{s:Shared}{x:V}{u v:Value}(h:qh x)(ru:RelV x u)(rv:RelV x v):SeqAt.EqAt A s u v true:=by
 rcases h with h | ⟨r,rfl⟩
 .have q:=Bc (A:=A) (s:=s) ru rv h h;rw [He h] at q;exact q
 cases (show u=Value.ref r from ru);cases (show v=Value.ref r from rv);exact .same _
def s_ {A:Around}{s:Shared}{xs:List V}{aU gr:List Value}(r:ba xs aU)(r2:ba xs gr)(hx:∀v∈xs,qh v) (j:Nat)(h1:j < aU.toArray.size)(h2:j < gr.toArray.size) :
  SeqAt.EqAt A s aU.toArray[j] gr.toArray[j] true:=by
 have l1:=r.length;have k1:j < aU.length:=by simpa using h1
 have k2:j < gr.length:=by simpa using h2
 have g1:xs[j]?=some (xs[j]'∅):=cT ∅;obtain⟨u1,e1,q1⟩:=r.get g1;obtain⟨u2,e2,q2⟩:=r2.get g1;have f1:aU.toArray[j]=u1:=by
  have:=(bh.mp e1).2;simpa using this
 have f2:gr.toArray[j]=u2:=by
  have:=(bh.mp e2).2;simpa using this
 rw [f1,f2];exact Ba (hx _ (qj _)) q1 q2
def KQ (K:a0)(b:Bool):V->V->Hp->VK->Prop:=λx y H Q=>∃p q xs,x=.ref p/\y=.ref q/\aI K H p xs/\aI K H q xs/\(∀v∈xs,qh v)/\Q (.bl b) H
def M3 {X:Cx}(hu:X.A.units < cLine):l_ X (compareOp .Eq) (KQ X.K true):=by
 intro ag s σ H x y v u Q I rx ry h;obtain⟨a,b,xs,rfl,rfl,ha,hb,hx,q⟩:=h;cases rx;cases ry;obtain⟨aU,r,pl,hz⟩:=I.list ha;obtain⟨gr,r2,KS,Z_⟩:=I.list hb;have l1:=r.length;have l2:=r2.length;refine SeqAt.eq_listAt (e:=λ_=>true) pl.isList KS.isList (by simp only [cP];omega) hu (λj h1 h2=>s_ r r2 hx j h1 h2) ?_;have e:((List.range aU.toArray.size).all λ_=>true)=true:=by simp
 rw [e];exact⟨.bl true,H,I,rfl,q⟩
def Az {X:Cx}(hu:X.A.units < cLine):l_ X (compareOp .NotEq) (KQ X.K false):=by
 intro ag s σ H x y v u Q I rx ry h;obtain⟨a,b,xs,rfl,rfl,ha,hb,hx,q⟩:=h;cases rx;cases ry;obtain⟨aU,r,pl,hz⟩:=I.list ha;obtain⟨gr,r2,KS,Z_⟩:=I.list hb;have l1:=r.length;have l2:=r2.length;refine SeqAt.RcNeAt.lists (e:=λ_=>true) pl.isList KS.isList (by simp only [cP];omega) hu (λj h1 h2=>s_ r r2 hx j h1 h2) X.prog X.w X.xe _ ?_;have e:(!(List.range aU.toArray.size).all λ_=>true)=false:=by simp
 rw [e];exact⟨.bl false,H,I,rfl,q⟩
section
variable {K:a0}{a D:Addr}{xs:List V}{ts:List Str}{js:List (Nat×Str)}{g:TG}{tif:TT}{te:TE}{R:Hp->Prop}{σ:St}{H:Hp}
def cq (Pv:Nat->List V->St->Hp->Prop)(h0:Pv 0 [] (dN ts js σ) (upd H D (.lst [])))(hl:∀i ys σ H,i<=xs.length->Pv i ys σ H->aI K H a xs)
  (hs:∀i x ys σ H,xs[i]?=some x->Pv i ys σ H->g x σ H λσ2 H2=>tif σ2 H2 λb H3=>if b=true then te σ2 H3 λy H4=>H4 D=some (.lst ys)/\ys.length < sizeLine/\Pv (i+1) (ys++[y]) σ2 (upd H4 D (.lst (ys++[y]))) else Pv (i+1) ys σ2 H3)
  (hd:∀ys σ H,Pv xs.length ys σ H->R H) :
  ∃W:Nat->Nat->List V->St->Hp->Prop,(∃m,W 0 m [] (dN ts js σ) (upd H D (.lst []))) /\
 ∀i m ys σ' H,W i m ys σ' H->((jN K a).stop i H/\R H)\/((jN K a).go i H/\∃m',m' < m/\∀x H',(jN K a).mT i H x H'->g x σ' H' λσ2 H2=>tif σ2 H2 λb H3 =>
  if b=true then te σ2 H3 λy H4=>H4 D=some (.lst ys)/\ys.length < sizeLine/\W (i+1) m' (ys++[y]) σ2 (upd H4 D (.lst (ys++[y]))) else W (i+1) m' ys σ2 H3):=by
 refine⟨λi m ys σ H=>m=xs.length - i/\i<=xs.length/\Pv i ys σ H,⟨xs.length,by simp,fj _,h0⟩,?_⟩;rintro i m ys σ' H ⟨rfl,hi,p⟩;have q:=hl i ys σ' H hi p;by_cases j8:i < xs.length
 .refine .inr ⟨⟨xs,xs[i],q,by simp [j8]⟩,xs.length - (i+1),∅,λx H' y=>?_⟩;obtain⟨e,y⟩:=y;subst e;have z:=hs i x ys σ' _ (y xs q) p;have h1:(i+1<=xs.length)=True:=eq_true j8;simp only [h1,true_and];exact z
 have e:i=xs.length:=by omega
 subst e;exact .inl ⟨⟨xs,q,aK _⟩,hd ys σ' H p⟩
end
def xI {X:Cx}:gN X (.builtin "isinstance") (λxs H Q=>∃a ys n b,xs=[.ref a,.ty n]/\aI X.K H a ys/\PySem.W.kitOne X.K (.type "list") (.type n)=some b/\Q (.bl b) H):=by
 intro ag s σ H xs us Q I r h;obtain⟨a,ys,n,b,rfl,hq,e,q⟩:=h;obtain⟨u,w',rfl,rx,rn⟩:=vals2 r;cases (show u=Value.ref a from rx);cases (show w'=Value.type n from rn);obtain⟨aU,_,pl,_⟩:=I.list hq;obtain⟨o,h1,h2,_⟩:=pl.isList;exact PySem.W.kia_one PySem.W.kitx_list I.zI ⟨o,h1,h2⟩ e (λz=>nomatch z) λtk=>⟨.bl b,H,I.tok _,rfl,q⟩
def yL {K:a0}{t:Value}:PySem.W.kitOne K t t=some true:=by unfold PySem.W.kitOne;rw [aw (mM t)]
def Qf (t:TS):TS:=λD σ H=>∃R:St->Hp->Prop,t { D with nx:=R } σ H/\∀σ' H',R σ' H'->D.nx σ' H'
def e_ {X:Cx}{st:Stmt}{t:TS}(h:PS X st t):PS X st (Qf t):=by
 intro ag s σ H D I ⟨R,q,m⟩;refine df (h ag s σ H _ I q) λf s1 z=>?_;cases f with
 | next=>obtain⟨σ',H',I',r⟩:=z;exact⟨σ',H',I',m _ _ r⟩
 | ret v=>exact z
 | brk=>exact z
 | cont=>exact z
def aG (P:Program)(w:World)(K:a0)(mg:Str->Option Value)(base:Heap) (k:Nat)(x:Str) (ps:List Str)(sp:Sp):Prop :=
 ∃f fd,bR P w K mg base fK k f fd ps sp/\Binds K fd ps []/\PySem.W.keepIn K (.ref f)=true/\mg x=some (.ref f)
theorem aG.mono {P:Program}{w:World}{K:a0}{mg:Str->Option Value}{base:Heap}{j k:Nat}{x:Str}{ps:List Str}{sp:Sp}(c:aG P w K mg base j x ps sp)(h:j<=k):aG P w K mg base k x ps sp :=
 let ⟨f,fd,a,b⟩:=c;⟨f,fd,a.mono h,b⟩
def bK {X:Cx}{k:Nat}{x:Str}{ps:List Str}{sp:Sp}{e:Expr}{es:List Expr}{t:TA}{p pos:Pos}(c:aG X.prog X.w X.K X.mg X.base k x ps sp)(hr:fI k X.A)(hg:Gl X x)(ha:PA X (e::es) t)
  (Dr:(x == ("__debug__":Str))=false:=by decide)(he:starEach (e::es) X.env=(false,eval e X.env)::starEach es X.env:=by rfl)(vj:(backTo pos (starEach es X.env)).any (·.1)=false:=by rfl) :
  PE X (.Call (.Name x p) (e::es) [] pos) (Ky sp [] E0 t):=by
 obtain⟨f,fd,G,b,kp,m⟩:=c;exact Jh G hr hg m kp b .nil mq ha Dr he vj
def fits {n:Nat}(h:n<=1000000):n<=sizeLine:=eK h nofun
def bq {n:Nat}(h:n<=1000000):n < sizeLine:=rQ h nofun
def af {H:Hp}{p:Addr}(h:H p=none)(o:HO):aE H (upd H p o):=λb u q=>by rw [ak (aB q h)];exact q
def aE.tup {K:a0}{H H':Hp}{a:Addr}{xs:List V}(e:aE H H')(h:aT K H a xs):aT K H' a xs:=by
 rcases h with (h | ⟨o,h⟩) | h
 .exact .inl (.inl (e _ _ h))
 .exact .inl (.inr ⟨o,e _ _ h⟩)
 exact .inr h
def dF {X:Cx}(hc:X.calm=true):gN X (.builtin "all") (λxs H Q=>∃(a:Addr)(bs:List Bool),xs=[.ref a]/\aI X.K H a (bs.map V.bl)/\Q (.bl (bs.all id)) H):=by
 intro ag s σ H xs us Q I r h;obtain⟨a,bs,rfl,hq,q⟩:=h;obtain⟨u,rfl,rx⟩:=vals1 r;cases (show u=Value.ref a from rx);obtain⟨aU,rv,pl,hz⟩:=I.list hq;obtain⟨o,h1,h2,m,h3⟩:=id pl.isList;have la:a < s.heap.objs.size:=bo h1;have ln:=rv.length;rw [ar] at ln;have isB:∀(i:Nat) v,aU.toArray[i]?=some v->v=.bool (bs.getD i true):=λi v e=>by
  have e':aU[i]?=some v:=by simpa using e
  obtain⟨x,e2,e3⟩:=Paired.at_ rv i v e';rw [bf] at e2;obtain⟨b,e4,rfl⟩:=b_.mp e2;rw [nW,e4];exact e3
 refine call_all_walk (mN pl.isList ?_);refine⟨s.heap.objs.size,_,_,_,_,_,λi=>bs.getD i true,rfl,Walks.list (A:=X.A.in1) (show X.A.in1.handled=none from I.ok.hd hc) s.heap.objs.size a (bE la) aU.toArray,⟨⟨_,cJ _ rfl,rfl,rfl⟩,⟨o,bW _ h1,h2,m,h3⟩⟩,?_,λh' tk kk=>?_⟩
 .intro i v s1 Q1 E1 hP hQ1;rw [isB i v hP];exact mP hQ1
 have e:((List.range aU.toArray.size).all λi=>bs.getD i true)=bs.all id:=by
  rw [cP,<-ln,ju,dP,dP];constructor
  .intro h b hb;obtain⟨i,hi,e⟩:=rD.mp hb;have:=h i (iK.mpr hi);rw [nW,cT hi,e] at this;exact this
  intro h i hi;have hi':=iK.mp hi;rw [nW,cT hi'];exact h _ (qj hi')
 rw [e];exact⟨.bl _,H,I.kept (t':=tk) λb o' e'=>kk b o' (by simp;exact bE (bo e')) (bW _ e'),rfl,q⟩
section
variable {prog:Program}{w:World}{A:Around}{E:Value->Shared->Prop}{s:Shared}
def AH {it l:Addr}{i:Nat}{items:Array Value}{x:Value}{Q:Value->Shared->Prop}(hit:s.heap.IsTupleIter it l i)(hl:s.heap.IsTuple l items)(hx:items[i]?=some x)
  (hQ:∀h',h'.IsTupleIter it l (i+1)->Heap.SameBut it s.heap h'->Q x { s with heap:=h' }):wpAny (model prog w) A (Builtin.SmallTypes.nextOf (.ref it)) Q E s:=by
 obtain⟨o,ho,hc,hd⟩:=id hit;obtain⟨ol,O8,_,nl,yQ⟩:=hl;unfold Builtin.SmallTypes.nextOf;refine ay (qm (name:=Str.ofString "__next__") hit.typeIs wm (kj wm hit.typeIs F.entry_tuple_iterator_next ?_ (F.args_tuple_iterator_next_1 _)));show wpAny _ _ (field (.ref it) 0 >>= λv=>_) _ _ s;refine ay (jr ho hd (x:=.ref l) (by rfl) ?_);show wpAny _ _ (if (Value.ref l == .none)=true then _ else _) _ _ s;rw [ax (by exact dC)];show wpAny _ _ (field (.ref it) 1 >>= λv=>_) _ _ s;refine ay (jr ho hd (x:=.int i 0) (by rfl) ?_);show wpAny _ _ (seqItems? (.ref l) >>= λv=>_) _ _ s;refine ay (mI O8 yQ (by
  simp only [hU,hx];refine ay (rG ho hd (by simp) (aD ⟨x,rfl,aD (hQ _ ⟨_,rC _ ho (Obj.isFreed_of_fields (pC hd _)),(Obj.cls_mapFields ..).trans hc,?_⟩ (mR ..))⟩));rw [pC hd];simp [rawInt]))
def Bd {e it l:Addr}{i:Nat}{items:Array Value}{x old:Value}{Q:Option Value->Shared->Prop}(he:IsEnum s.heap e it i old)(hit:s.heap.IsTupleIter it l i)(hl:s.heap.IsTuple l items)(hx:items[i]?=some x)(Eo:e≠it)
  (hQ:∀h',IsEnumOut h' e it ((i:Int)+1) x s.heap.objs.size->h'.IsTupleIter it l (i+1)->h'.get? s.heap.objs.size=some { cls:=.type "tuple",data:=.seq #[.int i s.toks,x] } ->
   (∀b o,b≠e->b≠it->s.heap.get? b=some o->h'.get? b=some o)->Q (some (.ref s.heap.objs.size)) { s with heap:=h',toks:=s.toks+1 }) :
  wpAny (model prog w) A (pyNext (.ref e)) Q E s:=by
 have hT:s.TypeIs (.ref e) "enumerate" := ⟨_,he,rfl⟩;unfold pyNext;refine ay (oZ (qm (name:=Str.ofString "__next__") hT v8 (kj v8 hT F.entry_enumerate_next ?_ (F.args_enumerate_next_1 _))));obtain⟨hp,g,d,tk,os⟩:=s;show wpAny _ _ (field (.ref e) 2 >>= λv=>_) _ _ _;refine ay (jr he rfl (x:=.ref it) (by rfl) (ay (AH hit hl hx λh₁ W_ Rv=>?_)));replace Rv:Heap.SameBut it hp h₁:=Rv;have Xh:IsEnum h₁ e it i old:=(Rv.2 e Eo).trans he;show wpAny _ _ (field (.ref e) 3 >>= λv=>_) _ _ ⟨h₁,g,d,tk,os⟩;refine ay (jr Xh rfl (x:=rawInt i) (by rfl) ?_);show wpAny _ _ (field (.ref e) 4 >>= λv=>_) _ _ ⟨h₁,g,d,tk,os⟩;refine ay (jr Xh rfl (x:=.none) (by rfl) ?_);show wpAny _ _ (mkInt i >>= λv=>_) _ _ ⟨h₁,g,d,tk,os⟩;refine ay (wpAny_mkInt ?_);show wpAny _ _ (setField (.ref e) 3 (rawInt ((i:Int)+1)) >>= λv=>_) _ _ ⟨h₁,g,d,tk+1,os⟩;refine ay (rO Xh (by simp) λh₂ f₂ hs₂=>?_);have he₂:IsEnum h₂ e it ((i:Int)+1) old:=f₂;have k₂:Heap.SameBut e h₁ h₂:=hs₂;show wpAny _ _ (setField (.ref e) 4 .none >>= λv=>_) _ _ ⟨h₂,g,d,tk+1,os⟩;refine ay (rO he₂ (by simp) λh₃ f₃ hs₃=>?_);have he₃:IsEnum h₃ e it ((i:Int)+1) old:=f₃;have k₃:Heap.SameBut e h₂ h₃:=hs₃;show wpAny _ _ (newTuple [.int i tk,x] >>= λv=>_) _ _ ⟨h₃,g,d,tk+1,os⟩;refine ay (wpAny_newTuple ?_);have Uo:IsEnum (h₃.push { cls:=.type "tuple",data:=.seq #[.int i tk,x] }) e it ((i:Int)+1) old:=bW _ he₃;have hsz:h₃.objs.size=hp.objs.size:=by rw [k₃.1,k₂.1,Rv.1]
 have Dq:e < hp.objs.size:=bo he;have ht₄:(h₃.push { cls:=.type "tuple",data:=.seq #[.int i tk,x] }).get? hp.objs.size=some { cls:=.type "tuple",data:=.seq #[.int i tk,x] }:=by rw [<-hsz];exact cJ _ rfl
 have hk₄:∀b o,b≠e->b≠it->hp.get? b=some o->(h₃.push { cls:=.type "tuple",data:=.seq #[.int i tk,x] }).get? b=some o:=λb o n1 n2 hb=>bW _ (k₃.extBut b o n1 (k₂.extBut b o n1 (Rv.extBut b o n2 hb)));have RM:(h₃.push { cls:=.type "tuple",data:=.seq #[.int i tk,x] }).IsTupleIter it l (i+1):=W_.at λo q=>bW _ (k₃.extBut it o (fk Eo) (k₂.extBut it o (fk Eo) q));generalize h₃.push { cls:=.type "tuple",data:=.seq #[.int i tk,x] }=h₄ at Uo ht₄ hk₄ RM ⊢;rw [hsz];show wpAny _ _ (Builtin.SmallTypes.ownedTupleIsFree (.ref e) >>= λv=>_) _ _ ⟨h₄,g,d,tk+1,os⟩;refine ay (by
  unfold Builtin.SmallTypes.ownedTupleIsFree;refine ay (jr Uo rfl (x:=.none) (by rfl) (aD (by
   simp only [if_true];refine ay (iw (ay (jr Uo rfl (x:=old) (by rfl) (ay (rO Uo (by simp) λh₅ f₅ hs₅=>?_)))));have he₅:IsEnum h₅ e it ((i:Int)+1) x:=f₅;have k₅:Heap.SameBut e h₄ h₅:=hs₅;show wpAny _ _ (Builtin.SmallTypes.ownedTupleHandOut (.ref e) (.ref hp.objs.size) >>= λv=>_) _ _ ⟨h₅,g,d,tk+1,os⟩;refine ay (by
    unfold Builtin.SmallTypes.ownedTupleHandOut;refine ay (rO he₅ (by simp) λh₆ f₆ hs₆=>?_);have he₆:IsEnumOut h₆ e it ((i:Int)+1) x hp.objs.size:=f₆;have k₆:Heap.SameBut e h₅ h₆:=hs₆;refine rO he₆ (by simp) λh₇ f₇ hs₇=>?_;have he₇:IsEnumOut h₇ e it ((i:Int)+1) x hp.objs.size:=f₇;have k₇:Heap.SameBut e h₆ h₇:=hs₇;have up:∀b o,b≠e->h₄.get? b=some o->h₇.get? b=some o:=λb o n q=>k₇.extBut b o n (k₆.extBut b o n (k₅.extBut b o n q));exact ay (wpAny_letGo (aD ⟨_,rfl,aD (hQ h₇ he₇ (RM.at λo q=>up it o (fk Eo) q) (up _ _ (kb Dq) ht₄) λb o n1 n2 q=>up b o n1 (hk₄ b o n1 n2 q))⟩)))))))
def sU {it l:Addr}{i:Nat}{items:Array Value}{Q:Value->Shared->Prop}(hh:A.handled=none)(hit:s.heap.IsTupleIter it l i)(hl:s.heap.IsTuple l items)(hx:items[i]?=none)
  (hE:∀h' e,Heap.ExtBut it s.heap h'->(∃o,h'.get? e=some o/\o.cls=.type "StopIteration")->E (.ref e) { s with heap:=h' }):wpAny (model prog w) A (Builtin.SmallTypes.nextOf (.ref it)) Q E s:=by
 obtain⟨o,ho,hc,hd⟩:=id hit;obtain⟨ol,O8,_,nl,yQ⟩:=hl;unfold Builtin.SmallTypes.nextOf;refine ay (qm (name:=Str.ofString "__next__") hit.typeIs wm (kj wm hit.typeIs F.entry_tuple_iterator_next ?_ (F.args_tuple_iterator_next_1 _)));show wpAny _ _ (field (.ref it) 0 >>= λv=>_) _ _ s;refine ay (jr ho hd (x:=.ref l) (by rfl) ?_);show wpAny _ _ (if (Value.ref l == .none)=true then _ else _) _ _ s;rw [ax (by exact dC)];show wpAny _ _ (field (.ref it) 1 >>= λv=>_) _ _ s;refine ay (jr ho hd (x:=.int i 0) (by rfl) ?_);show wpAny _ _ (seqItems? (.ref l) >>= λv=>_) _ _ s;refine ay (mI O8 yQ ?_);simp only [hU,hx];refine ay (iw (ay (rG ho hd (by simp) (ay ?_))));simp only [newExc,newTuple];refine ay (iM ?_ (by size_fits));refine ay (m:=firstArgMember _ _) (wpAny_of_eq (a:=Value.none) (by first | rfl | (simp only [firstArgMember];rfl)) ?_)
 refine iM ?_ (by size_fits);simp only [raiseNew];refine ay (wpAny_handled ?_)
 first | rw [show A.in1.handled=none from hh] | rw [hh]
 refine ay (aD (wpAny_throw (hE _ _ (((mR ..).extBut.push _).push _) ⟨_,cJ _ rfl,rfl⟩)))
def DF {e it l:Addr}{i:Nat}{items:Array Value}{old:Value}{Q:Option Value->Shared->Prop}(hh:A.handled=none)(he:IsEnum s.heap e it i old)(hit:s.heap.IsTupleIter it l i)(hl:s.heap.IsTuple l items)(hx:items[i]?=none)
  (hQ:∀h',Heap.ExtBut it s.heap h'->Q none { s with heap:=h' }):wpAny (model prog w) A (pyNext (.ref e)) Q E s:=by
 have hT:s.TypeIs (.ref e) "enumerate" := ⟨_,he,rfl⟩;unfold pyNext;refine ay (oZ (qm (name:=Str.ofString "__next__") hT v8 (kj v8 hT F.entry_enumerate_next ?_ (F.args_enumerate_next_1 _))));show wpAny _ _ (field (.ref e) 2 >>= λv=>_) _ _ _;refine ay (jr he rfl (x:=.ref it) (by rfl) (ay (sU hh hit hl hx λh' x Ik WB=>?_)));obtain⟨o,ho,hc⟩:=WB;exact ay (rK (T := "StopIteration") (b:=true) ⟨o,ho,hc⟩ isSubtype_stop (aD (hQ _ Ik)))
end
def yI (l:Addr)(items:Array Value) (n:Nat)(Cv:Option Addr)(sl:Array (Option Value)) :
  Meets (Builtin.«enumerate.__new__» ⟨[.type "enumerate",.ref l],[]⟩) (λ_ R s=>s.heap.get? l=some { cls:=.type "tuple",dict:=Cv,data:=.seq items n,slots:=sl } /\
   R (.ok (.ret (.ref (s.heap.push { cls:=.type "tuple_iterator",data:=.fields #[.ref l,.int 0 0] }).objs.size)))
    { s with heap:=(s.heap.push { cls:=.type "tuple_iterator",data:=.fields #[.ref l,.int 0 0] }).push { cls:=.type "enumerate",data:=.fields #[.none,.bool false,.ref s.heap.objs.size,rawInt 0,.none,.none] } }) :=
 .of_wp λprog w A R s h=>by
  obtain⟨hp,g,d,tk,os⟩:=s;obtain⟨hl,h⟩:=h;have Rw:=sub_enumerate;have hT:Heap.IsTuple (Shared.heap ⟨hp,g,d,tk,os⟩) l items:=⟨_,hl,rfl,n,rfl⟩
  wp_walk using wg hl
  refine wpAny_stack_any λst=>aD ?_;split
  .rename_i c _ _ _ _ _
   cases (c == Value.type "enumerate")
   .wp_walk using wg hl,vW hT;exact⟨_,rfl,h⟩
   wp_walk using wg hl,vW hT;exact⟨_,rfl,h⟩
  wp_walk using wg hl,vW hT;exact⟨_,rfl,h⟩
section
variable {prog:Program}{w:World}{A:Around}{E:Value->Shared->Prop}{s:Shared}
def Bk {l:Addr}{items:Array Value}{Q:Value->Shared->Prop}(hL:s.heap.IsTuple l items)
  (h:∀h',IsEnum h' (s.heap.objs.size+1) s.heap.objs.size 0 .none->h'.IsTupleIter s.heap.objs.size l 0->(∀b o,s.heap.get? b=some o->h'.get? b=some o)->Q (.ref (s.heap.objs.size+1)) { s with heap:=h' }) :
  wpAny (model prog w) A (call (.type "enumerate") [.ref l]) Q E s:=by
 obtain⟨⟨c,Cv,dt,sl⟩,hl,hc,n,hd⟩:=hL;replace hc:c=.type "tuple" := hc;replace hd:dt=.seq items n:=hd;subst hc hd;refine callType_new F.called_enumerate nofun (F.typeCall_enumerate_1 _) (F.newCall_enumerate_1 _) (λobj=>F.args_object_init_2 obj _) F.entry_enumerate_new (yI l items n Cv sl) ⟨hl,?_⟩;have hz:(s.heap.push { cls:=.type "tuple_iterator",data:=.fields #[.ref l,.int 0 0] }).objs.size=s.heap.objs.size+1:=jt ..;show _/\_;rw [hz];have he:IsEnum ((s.heap.push { cls:=.type "tuple_iterator",data:=.fields #[.ref l,.int 0 0] }).push { cls:=.type "enumerate",data:=.fields #[.none,.bool false,.ref s.heap.objs.size,rawInt 0,.none,.none] }) (s.heap.objs.size+1) s.heap.objs.size 0 .none:=by
  have:=cJ (s.heap.push { cls:=.type "tuple_iterator",data:=.fields #[.ref l,.int 0 0] }) (o:={ cls:=.type "enumerate",data:=.fields #[.none,.bool false,.ref s.heap.objs.size,rawInt 0,.none,.none] }) rfl;rw [hz] at this;exact this
 exact⟨⟨_,he,rfl⟩,h _ he ⟨_,bW _ (cJ _ rfl),rfl,rfl⟩ λb o x=>bW _ (bW _ x)⟩
end
def ui (K:a0)(a:Addr):It :=
 ⟨λi H=>∃xs x,aT K H a xs/\xs[i]?=some x,λi H x H'=>∃t y,x=.ref t/\H t=none/\H'=upd H t (.tup [.int (i:Int),y])/\∀xs,aT K H a xs->xs[i]?=some y,λi H=>∃xs,aT K H a xs/\xs.length<=i⟩
def zZ {P:Program}{w:World}{K:a0}{elts:List Expr}{k:Nat}{wu:Pos}(a e it:Addr)(RR:e≠it) :
  Turn P w K (.Tuple elts k wu) (ui K a) [e,it] e (λi h=>(∃old,IsEnum h e it i old)/\h.IsTupleIter it a i) where
 mem:=by simp
 obj:=λi h st b hb=>by
  obtain⟨⟨old,he⟩,o,e1,c,d⟩:=st;rcases bO.mp hb with rfl | hb
  .exact⟨_,he,λv z=>by cases z⟩
  obtain rfl:b=it:=by simpa using hb
  exact⟨o,e1,λv z=>by rw [d] at z;cases z⟩
 keep:=λi h h' st k=>⟨⟨st.1.choose,k e (by simp) _ st.1.choose_spec⟩,st.2.at λo q=>k it (by simp) o q⟩
 item:=by
  intro X hP hw hK hc i ag s σ H E I hf st hg;subst hP hw hK;obtain⟨xs,x,hq,hx⟩:=hg;obtain⟨aU,rv,p,hz⟩:=I.tuple hq;obtain⟨u,hu,ru⟩:=rv.get hx;obtain⟨⟨old,he⟩,hit⟩:=st;refine Bd he hit (show s.heap.IsTuple a aU.toArray from p) (x:=u) (by simpa using hu) RR λh1 ho NJ hT hk=>?_;refine⟨_,rfl,wpAny_letOwnedTupleGo_enum ho λh2 RS sb=>?_⟩;have ne:s.heap.objs.size≠e:=kb (bo he);have kk:∀b o,b≠e->b≠it->s.heap.get? b=some o->h2.get? b=some o:=λb o n1 n2 q=>(sb.2 b n1).trans (hk b o n1 n2 q);have T2:h2.get? s.heap.objs.size=some { cls:=.type "tuple",data:=.seq #[.int i s.toks,u] }:=(sb.2 _ ne).trans hT;have fe:=hf e (by simp);have fi:=hf it (by simp);have fT:H s.heap.objs.size=none:=I.cw.fresh (aK _);have tr:∀b v,H b=some v->b≠e/\b≠it:=λb v q=>⟨λz=>(by rw [z,fe.1] at q;cases q),λz=>(by rw [z,fi.1] at q;cases q)⟩;have nc:∀b,b∉[e,it]->b≠e/\b≠it:=λb z=>⟨λq=>z (by simp [q]),λq=>z (by simp [q])⟩;have lt:∀b o,s.heap.get? b=some o->b≠s.heap.objs.size:=λb o q=>bE (bo q);have I2:Inv X ag σ (upd H s.heap.objs.size (.tup [.int (i:Int),x])) { s with heap:=h2,toks:=s.toks+1 }:=by
   refine I.call (g':=s.gens) (t':=s.toks+1) (d':=s.drawn) (ch:=[e,it]) ⟨λb o q _ _ c=>kk b o (nc b c).1 (nc b c).2 q,λb o q _ _ c=>⟨o.slots,kk b o (nc b c).1 (nc b c).2 q⟩,
    λb o q n _=>by rw [ak (lt b o q)];exact n,λb o q c=>⟨o,kk b o (nc b c).1 (nc b c).2 q⟩,λb ys q=>by rw [ak (aB q fT)];exact q,λb o v q=>by rw [ak (aB q fT)];exact q,
    λb ps q=>⟨#[],by rw [ak (aB q fT),q];simp⟩⟩ (λb v q=>?_) I.bare (λb hb=>?_)
   .by_cases hb:b=s.heap.objs.size
    .subst hb;rw [ae] at q;cases q;exact⟨by show 2<=sizeLine;decide,[.int i s.toks,u],.cons ⟨_,rfl⟩ (.cons ru .nil),_,T2,rfl,_,rfl⟩
    rw [ak hb] at q;refine(I.cw b v q).kZ (λc o nv z=>?_) (λc q'=>by rw [ak (aB q' fT)];exact q') λc ys q'=>by rw [ak (aB q' fT)];exact q'
    rcases nv with rfl | nv
    .exact kk c o (tr c _ q).1 (tr c _ q).2 z
    exact kk c o (tr c _ nv).1 (tr c _ nv).2 z
   rcases bO.mp hb with rfl | hb
   .exact⟨fe.2.2.2.1,fe.2.1,fe.2.2.2.2.1,fe.2.2.2.2.2⟩
   obtain rfl:b=it:=by simpa using hb
   exact⟨fi.2.2.2.1,fi.2.1,fi.2.2.2.2.1,fi.2.2.2.2.2⟩
  refine⟨.ref s.heap.objs.size,_,I2,rfl,⟨_,x,rfl,fT,rfl,λys hy=>by rw [I.jx hy hq];exact hx⟩,⟨⟨_,RS⟩,NJ.at λo q=>(sb.2 it RR.symm).trans q⟩,λb hb=>?_⟩;have Im:H b=none/\∃o,s.heap.get? b=some o:=by
   rcases bO.mp hb with rfl | hb
   .exact⟨fe.1,_,he⟩
   obtain rfl:b=it:=by simpa using hb
   obtain⟨o,q,_⟩:=hit;exact⟨fi.1,o,q⟩
  obtain⟨n,o,q⟩:=Im;rw [ak (lt b o q)];exact n
 done:=by
  intro X hP hw hK hc i ag s σ H E I hf st hg;subst hP hw hK;obtain⟨xs,hq,hx⟩:=hg;obtain⟨aU,rv,p,hz⟩:=I.tuple hq;obtain⟨⟨old,he⟩,hit⟩:=st;obtain⟨f0,f1,f2,f3,f4,f5⟩:=hf it (by simp);have hl:=rv.length;exact DF (I.ok.hd hc) he hit (show s.heap.IsTuple a aU.toArray from p) (by simp;omega) λh' eb=>⟨rfl,I.turned (t':=s.toks) (λb o hb e=>eb b o hb e) f0 f1 f3 f4 f5⟩
 self:=λ_ _ _ _ _ st h=>wpAny_pyIter_enum st.1.choose_spec h
def Nx (K:a0)(ta:TA):TI:=λσ H R=>ta σ H λvs H1=>YQ vs (aT K H1) λa=>R (ui K a) H1
def oA {X:Cx}{elts:List Expr}{k:Nat}{wu:Pos}{l:Expr}{ta:TA}{p pos:Pos}(hg:Gl X "enumerate")(hm:X.mg "enumerate"=none)(ha:PA X [l] ta)(hs:starEach [l] X.env=[(false,eval l X.env)]:=by rfl) :
  PI X (.Tuple elts k wu) (.Call (.Name "enumerate" p) [l] [] pos) (Nx X.K ta):=by
 intro ag s σ H R I h;refine Call_ (iW I hg hm vL (xU (df (ha pos ag s σ H _ I h) λus s1 bL=>?_) hs rfl));obtain⟨vs,H1,I1,r1,q1⟩:=bL;obtain⟨a,xs,e,hq,q⟩:=q1;subst e;obtain⟨u,rfl,rx⟩:=r1.one;cases rx;obtain⟨aU,rv,pl,hz⟩:=I1.tuple hq;refine Bk (show s1.heap.IsTuple a aU.toArray from pl) λh1 he hit hk=>wpAny_pyIter_enum he ?_;refine⟨s1.heap.objs.size+1,[s1.heap.objs.size+1,s1.heap.objs.size],_,_,H1,rfl,I1.kept (t':=s1.toks) λb o e=>hk b o e,zZ a _ _ (kb (i9 _)),⟨⟨_,he⟩,hit⟩,λb hb=>?_,q⟩;rcases bO.mp hb with rfl | hb
 .exact I1.xu (jQ _) (I1.cw.fresh (jQ _))
 obtain rfl:b=s1.heap.objs.size:=by simpa using hb
 exact I1.xu (aK _) (I1.cw.fresh (aK _))
open PySem PySem.Spec PyProof.Rows PySem.W
def ku (c':Addr)(qual:Str):HO:=.ext λh=>h.CodeRec (.ref c') qual
def pV (f:Addr)(o:Obj):HO:=.ext λh=>h.get? f=some o
def zo {P:Program}{w:World}{H:Hp}{h:Heap}{c':Addr}{qual:Str}(hr:h.CodeRec (.ref c') qual):cK P w H h c' (ku c' qual):=by
 obtain⟨c2,oc,vs,t,e,zJ,hd,hv⟩:=id hr;cases e;exact⟨hr,⟨oc,zJ⟩,λh1 h2 ⟨c3,oc3,vs3,t3,e3,W4,jn,O2⟩ k=>by cases e3;exact⟨_,oc3,vs3,t3,rfl,k _ W4,jn,O2⟩⟩
def q_ {P:Program}{w:World}{H:Hp}{h:Heap}{f:Addr}{o:Obj}(e:h.get? f=some o):cK P w H h f (pV f o):=⟨e,⟨o,e⟩,λ_ _ q k=>k _ q⟩
def Tab (T:Addr)(pos:Pos)(qual:Str)(H:Hp):Prop :=
 ∃ps,H T=some (.ur ps)/\TriplesOk ps.toList/\(codeAmong pos ps.toList=none\/∃c',codeAmong pos ps.toList=some (.ref c')/\H c'=some (ku c' qual))
def gA (T:Addr)(H H':Hp):Prop:=∀b o,b≠T->H b=some o->H' b=some o
def um (mg:Str->Option Value)(base:Heap):Prop :=
 ∃bm o,mg "__builtins__"=some (.ref bm)/\bm≠builtinsNs/\bm≠mainGlobals/\base.get? bm=some o/\o.cls=.type "module" /\ o.dict=some builtinsNs/\o.data=.plain
theorem jS {a b:Int}{ta tb:Tok}{c:Value}:∀l:List Value,TriplesOk l->TriplesOk (l++[.int a ta,.int b tb,c])
 | [],_=>trivial
 | [x],h=>by cases x <;> exact h.elim
 | [x,y],h=>by cases x <;> cases y <;> exact h.elim
 | x::y::z::r,h=>by
  cases x with
  | int i ti =>
   cases y with
   | int j tj=>exact jS r h
   | _=>exact h.elim
  | _=>exact h.elim
section
variable {X:Cx}{params:Arguments}{body:Expr}{scope:Scope}{pos:Pos}{c T:Addr}
abbrev nh (X:Cx)(params:Arguments)(body:Expr)(scope:Scope)(c':Addr)(gQ:Value):Obj:=kla_obj "<lambda>" (X.env.qual ++ "<lambda>") params body scope [] ((X.mg "__name__").getD .none) c' gQ
def Vn (X:Cx)(params:Arguments)(body:Expr)(scope:Scope)(pos:Pos)(T:Addr):TE:=λσ H Q=>Tab T pos (X.env.qual ++ "<lambda>") H /\
 ∀f c' gQ H',gA T H H'->Tab T pos (X.env.qual ++ "<lambda>") H'->H f=none->H' f=some (pV f (nh X params body scope c' gQ))->H' c'=some (ku c' (X.env.qual ++ "<lambda>"))->Q (.ref f) H'
def FI (tF:X.env.code=.ref c)(hC:codeHdIn X.K c T=true)(hB:um X.mg X.base)(oH:∀y∈scope.names,y.2≠.free)(G4:defaultsOf params X.env=([],[]):=by rfl):PE X (.Lambda params body scope pos) (Vn X params body scope pos T):=by
 intro ag s σ H Q I h;obtain⟨⟨ps,hT,ht,G6⟩,q⟩:=h;refine kla_eval G4 ?_;have NS:s.heap.get? T=some (tabObj ps):=(show cK X.prog X.w H s.heap T (.ur ps) from I.cw T _ hT);have hg:=I.mod.glob.keeps I.bk;have C:=codeHd_of_K I.zI hC;obtain⟨bm,ob,b1,b2,b3,b4,b5,b6,b7⟩:=hB;have YH:=I.bk _ _ b4;have V7:bm≠T:=λz=>by
  have:=(I.bs _ _ b4).2;rw [z,hT] at this;cases this
 have V2:mainGlobals≠T:=λz=>by
  obtain⟨o,es,ep,e,d,_⟩:=hg;rw [z,NS] at e;cases e;cases d
 have Sa:s.heap.BuiltinsAt X.mg T:=⟨bm,ob,b1,b2,b3,V7,YH,b5,b6,b7⟩;have H_:∀b v,H b=some v->b < s.heap.objs.size:=λb v e=>I.cw.lt e;rcases G6 with RG | ⟨c',hf,nv⟩
 .refine kla_makeFunction (closureFor_none oH) I.ok.glob hg tF C NS ht RG V2 Sa λc' gQ h' tk hx NM j8 GI Rt=>?_;have hcr:∃oc,h'.get? c'=some oc:=by
   obtain⟨c2,oc,vs,t,e,zJ,_⟩:=GI;cases e;exact⟨oc,zJ⟩
  have tE:h'.objs.size > s.heap.objs.size:=rQ NM j8;have keep:∀b o,b≠T->s.heap.get? b=some o->(h'.push (nh X params body scope c' gQ)).get? b=some o:=λb o n e=>bW _ (hx b o n e)
  let H':Hp:=upd (upd (upd H T (.ur (ps++#[rawInt pos.line,rawInt pos.col,.ref c']))) c' (ku c' (X.env.qual ++ "<lambda>"))) h'.objs.size (pV h'.objs.size (nh X params body scope c' gQ))
  have AM:∀b v,H b=some v->b≠c'/\b≠h'.objs.size:=λb v e=>⟨bE (gk (H_ b v e) NM),bE (ji (H_ b v e) tE)⟩;have V6:c'≠h'.objs.size:=bE j8;have QP:=AM T _ hT;have eT:H' T=some (.ur (ps++#[rawInt pos.line,rawInt pos.col,.ref c'])):=by
   show upd (upd (upd H T _) c' _) h'.objs.size _ T=_;rw [ak QP.2,ak QP.1,ae]
  have ec:H' c'=some (ku c' (X.env.qual ++ "<lambda>")):=by
   show upd (upd (upd H T _) c' _) h'.objs.size _ c'=_;rw [ak V6,ae]
  have ef:H' h'.objs.size=some (pV h'.objs.size (nh X params body scope c' gQ)):=ae;have eo:∀b,b≠T->b≠c'->b≠h'.objs.size->H' b=H b:=λb n1 n2 n3=>by
   show upd (upd (upd H T _) c' _) h'.objs.size _ b=_;rw [ak n3,ak n2,ak n1]
  have sT:gA T H H':=λb o n e=>by rw [eo b n (AM b o e).1 (AM b o e).2];exact e
  have I2:Inv X ag σ H' { s with heap:=h'.push (nh X params body scope c' gQ),toks:=tk }:=by
   refine I.call (g':=s.gens) (t':=tk) (d':=s.drawn) (ch:=[]) ⟨λb o e n _ _=>keep b o (λz=>by rw [z,hT] at n;cases n) e,λb o e n _ _=>⟨o.slots,keep b o (λz=>by rw [z,hT] at n;cases n) e⟩,λb o e n _=>?_,λb o e _=>?_,λb xs e=>?_,λb o u e=>?_,λb VM e=>?_⟩ (λb v e=>?_) I.bare (λb hb=>nomatch hb)
   .have lb:=bo e;rw [eo b (λz=>by rw [z,hT] at n;cases n) (bE (gk lb NM)) (bE (ji lb tE))];exact n
   .by_cases z:b=T
    .exact⟨_,by rw [z];exact bW _ Rt⟩
    exact⟨o,keep b o z e⟩
   .exact sT b _ (λz=>by rw [z,hT] at e;cases e) e
   .exact sT b _ (λz=>by rw [z,hT] at e;cases e) e
   .by_cases z:b=T
    .subst z;rw [hT] at e;cases e;exact⟨_,eT⟩
    exact⟨#[],by rw [Array.append_empty];exact sT b _ z e⟩
   by_cases z1:b=h'.objs.size
   .subst z1;rw [ef] at e;cases e;exact q_ (cJ _ rfl)
   by_cases z2:b=c'
   .subst z2;rw [ec] at e;cases e;refine zo ?_;obtain⟨c2,oc,vs,t,e',zJ,hd,hv⟩:=GI;cases e';exact⟨_,oc,vs,t,rfl,bW _ zJ,hd,hv⟩
   by_cases z3:b=T
   .subst z3;rw [eT] at e;cases e;exact bW _ Rt
   rw [eo b z3 z2 z1] at e;refine(I.cw b v e).kZ (λd o Ds e'=>?_) (λd e'=>sT d _ (λz=>by rw [z,hT] at e';cases e') e') λd ys e'=>sT d _ (λz=>by rw [z,hT] at e';cases e') e';rcases Ds with rfl | Ds
   .exact keep d o z3 e'
   exact keep d o (λz=>by rw [z,hT] at Ds;cases Ds) e'
  have fresh:H h'.objs.size=none:=I.cw.fresh (jh tE);exact⟨.ref h'.objs.size,H',I2,rfl,q _ c' gQ H' sT ⟨_,eT,by rw [v7];exact jS _ ht,.inr ⟨c',by rw [v7];exact codeAmong_snoc _ ht RG,ec⟩⟩ fresh ef ec⟩
 refine kla_makeFunctionHit (closureFor_none oH) I.ok.glob hg tF C NS ht hf Sa λgQ h' tk hk hsz=>?_;have keep:∀b o,s.heap.get? b=some o->(h'.push (nh X params body scope c' gQ)).get? b=some o:=λb o e=>bW _ (hk b o e);have fresh:H h'.objs.size=none:=I.cw.fresh hsz;refine⟨.ref h'.objs.size,_,I.laid (a:=h'.objs.size) (o:=pV h'.objs.size (nh X params body scope c' gQ)) (t':=tk) keep hsz (q_ (cJ _ rfl)),rfl,?_⟩;refine q _ c' gQ _ (λb o _ e=>by rw [ak (aB e fresh)];exact e) ⟨ps,by rw [ak (aB hT fresh)];exact hT,ht,.inr ⟨c',hf,by rw [ak (aB nv fresh)];exact nv⟩⟩ fresh ae (by rw [ak (aB nv fresh)];exact nv)
end
section
variable {P:Program}{w:World}{K:Frag}{mg:Str->Option Value}{base:Heap}{f c':Addr}{q:Str}{params:Arguments}{body:Expr}{scope:Scope}{pm gQ:Value}{N ps:List Str}{k:Nat}{te:TE}
def JC (S:aN N ps scope)(oI:∀us:List Value,us.length=ps.length->bindArgs (kla_fn "<lambda>" q params body scope [] pm (.ref c') gQ) ⟨us,[]⟩=pure (ps.zip us))
  (jH:∀(A:Around)(outer:List Env)(s:Shared)(H:Hp),PE (qg fK P w K mg base N q scope f (.ref c') A outer s H λ_ _ _=>False) body te)
  (A:Around)(outer:List Env)(s:Shared)(H:Hp)(us:List Value)(vs:List V)(Q:VK)(hr:fI (k+1) A)(e0:qN P w K mg base A outer s H)(hf:H f=some (pV f (kla_obj "<lambda>" q params body scope [] pm c' gQ)))
  (hc:H c'=some (ku c' q))(rv:ba vs us)(hl:vs.length=ps.length)(h:te (start N vs) H Q):codeAny (model P w) A (.call (.ref f) ⟨us,[]⟩) (CR fK outer P w H s Q λ_ _ _=>False) s:=by
 obtain⟨ef,_⟩:=e0.cw f _ hf;obtain⟨ec,_⟩:=e0.cw c' _ hc;have lu:us.length=ps.length:=by rw [<-rv.length];exact hl
 have lim:s.heap.NoLimit:=e0.mod.nolimit.keeps λb o e=>(e0.bs b o e).1;have jF:∀y∈ps.zip us,scope.names.lookup y.1=some .local\/(scope.names.lookup y.1=some .cell/\((cellsFrom (s.heap.objs.size+1) scope.names []).lookup y.1).isSome=true):=λ⟨n,v⟩ hy=>by
  rcases S.par n (List.of_mem_zip hy).1 with z | z
  .exact .inl z
  exact .inr ⟨z,cellsFrom_some _ _ _ (.inl z)⟩
 refine kla_callFunE hr.depth ef rfl S.co S.gen rfl ec ?_;rw [oI us lu];refine aD (wpAny_newFunctionEnv_cells S.kind jF λenv he s1 x=>?_);subst he;refine⟨lim.keeps x.toInCall.keep,kla_codeExpr ?_⟩;have I:Inv (qg fK P w K mg base N q scope f (.ref c') A outer s H λ_ _ _=>False) [] (start N vs) H s1:=vh S hr.hd e0 hl rv x;refine dA (jH A outer s H [] s1 (start N vs) H _ I h) (λv s' bL=>?_) λe s' z=>z;obtain⟨y,H',J,r,z⟩:=bL;exact⟨y,H',J.os,J.bare,J.base,J.cw,r,z⟩
end
section
variable {X:Cx}{i:Nat}{x:Str}{e:Expr}{es:List Expr}{t:TA}{p pos:Pos}{q:Str}{params:Arguments}{body:Expr}{scope:Scope}{N ps:List Str}{k:Nat}{te:TE}
def EK (i:Nat)(q:Str)(params:Arguments)(body:Expr)(scope:Scope) (N ps:List Str)(t:TA)(te:TE):TE:=λσ H Q=>∃f pm c' gQ,σ[i]?=some (some (.ref f)) /\
 t σ H λvs H1=>H1 f=some (pV f (kla_obj "<lambda>" q params body scope [] pm c' gQ))/\H1 c'=some (ku c' q)/\vs.length=ps.length/\te (start N vs) H1 Q
def Ax (hN:X.N[i]?=some x)(hx:X.env.scope.names.lookup x=some .local)(S:aN N ps scope)(hr:fI (k+1) X.A)
  (oI:∀(pm gQ:Value)(c':Addr)(us:List Value),us.length=ps.length->bindArgs (kla_fn "<lambda>" q params body scope [] pm (.ref c') gQ) ⟨us,[]⟩=pure (ps.zip us))
  (jH:∀(f c':Addr)(A:Around)(outer:List Env)(s:Shared)(H:Hp),PE (qg fK X.prog X.w X.K X.mg X.base N q scope f (.ref c') A outer s H λ_ _ _=>False) body te)(ha:PA X (e::es) t)
  (Dr:(x == ("__debug__":Str))=false:=by decide)(he:starEach (e::es) X.env=(false,eval e X.env)::starEach es X.env:=by rfl)(vj:(backTo pos (starEach es X.env)).any (·.1)=false:=by rfl) :
  PE X (.Call (.Name x p) (e::es) [] pos) (EK i q params body scope N ps t te):=by
 intro ag s σ H Q I h;obtain⟨f,pm,c',gQ,hσ,h⟩:=h;obtain⟨m,hn,hl⟩:=I.loc;obtain⟨u,ru,lk⟩:=hl i x (.ref f) hN hσ (.inl hx);cases (show u=Value.ref f from ru);have hm:m x=some (.ref f):=by
  rcases lk with l | ⟨l,_⟩
  .exact l.2
  have l':X.env.scope.names.lookup x=some .cell\/X.env.scope.names.lookup x=some .free:=l;rw [hx] at l';rcases l' with l' | l' <;> cases l'
 refine nU (wpAny_Name (v3 I.ok.kind hx hn hm ?_) Dr);refine callWith_def (o:=kla_obj "<lambda>" q params body scope [] pm c' gQ) rfl (df (ha pos ag s σ H _ I h) λus s1 bL=>?_) he;obtain⟨vs,H1,I1,r,z1,z2,z3,z4⟩:=bL;obtain⟨ef,_⟩:=I1.cw f _ z1;refine⟨ef,kQ (jR (JC (k:=k) S (λus hl=>oI pm gQ c' us hl) (jH f c') X.A X.stack s1 H1 us vs Q hr I1.Ob z1 z2 r z3 z4) λr' s' z=>?_)⟩;cases r' with
 | error e=>exact z.elim
 | ok fl =>
  cases fl with
  | ret u=>exact I1.after z
  | next=>exact z.elim
  | brk=>exact z.elim
  | cont=>exact z.elim
end
def HR (ts:List Addr)(H:Hp):Prop:=∀b,H b=none\/(∃o xs,H b=some (.ky o (.lst xs)))\/(b∈ts/\H b=some (.ur #[]))
def Dg {P:Program}{w:World}{K:Frag}{mg mb:Str->Option Value}{CX:zD}{k:Nat}{fa a:Addr}{fd:FuncData}{x:Str}{sp:Sp}{s₁:Shared}{vs:List Value}{ns:List Int}{ts:List Addr}
  (KX:K.In s₁.heap)(rh:s₁.heap.Ns mainGlobals mg)(hb:s₁.heap.Ns builtinsNs mb)(NR:∀x:Str,x ≠ "__name__" -> mb x=bootBuiltins x)(NI:s₁.heap.NoLimit)
  (hbm:∃bm ob,mg "__builtins__"=some (.ref bm)/\bm≠builtinsNs/\s₁.heap.get? bm=some ob/\ob.cls=.type "module" /\ ob.dict=some builtinsNs/\ob.data=.plain)(hg:s₁.gens=#[])
  (Nz:∀T∈ts,s₁.heap.get? T=some (tabObj #[])/\K.lookup T=none/\∃c,codeHdIn K c T=true)
  (ha:s₁.heap.get? a=some { cls:=.type "list",data:=.seq vs.toArray })(hi:IntsAre vs ns)(hl:ns.length<=sizeLine)(hr:fI k callerA)
  (F:∀base:Heap,K.In base->base.Ns mainGlobals mg->um mg base->bR P w K mg base CX k fa fd [x] sp)(oI:∀(s:Shared)(u:Value),BindsTo s fd ⟨[u],[]⟩ [(x,u)])
  (uv:∀H:Hp,HR ts H->(∀T∈ts,H T=some (.ur #[]))->aI K H a (ns.map V.int)->sp [.ref a] H (λv _=>v=.bl true) λ_ _ _=>False)
  (NX:∀H e s',CX [] H s₁ (λ_ _ _=>False) e s'->False) :
  codeAny (model P w) callerA (.call (.ref fa) ⟨[.ref a],[]⟩) (λr s'=>r=.ok (.ret (.bool true))/\OldK s₁.heap s'.heap/\s'.os=s₁.os/\AllBare s'.gens) s₁:=by
 have rv:=pI hi;have Nk:=hi.length;have core:∀H:Hp,HR ts H->(∀T∈ts,H T=some (.ur #[]))->aI K H a (ns.map V.int)->mF P w H s₁.heap->(∀b,H b≠none->b=a\/b∈ts)->(H a≠none->K.lookup a=none) ->
   codeAny (model P w) callerA (.call (.ref fa) ⟨[.ref a],[]⟩) (λr s'=>r=.ok (.ret (.bool true))/\OldK s₁.heap s'.heap/\s'.os=s₁.os/\AllBare s'.gens) s₁:=by
  intro H hO hT hS cw hA hK;have lY:∀{b:Addr}{o:Obj},s₁.heap.get? b=some o->H b=none->(nu s₁.heap H).get? b=some o:=λe n=>yP e n;have off:∀{b:Addr}{o:Obj},s₁.heap.get? b=some o->(∀aU n,o.data≠.seq aU n)->(∀fs,o.data≠.fields fs)->H b=none:=λ{b o} e d1 d2=>by
   cases q:H b with
   | none=>rfl
   | some u =>
    rcases hA b (by rw [q];simp) with e' | e'
    .subst e';rw [ha] at e;cases e;exact(d1 _ _ rfl).elim
    rw [(Nz b e').1] at e;cases e;exact(d2 _ rfl).elim
  have Jv:∀{b:Addr}{m:Str->Option Value},s₁.heap.Ns b m->(nu s₁.heap H).Ns b m:=λ{b m} ⟨o,es,ep,e,d,r⟩=>⟨o,es,ep,lY e (off e (λ_ _ z=>by rw [d] at z;cases z) λ_ z=>by rw [d] at z;cases z),d,r⟩;have R9:K.In (nu s₁.heap H):=λb o e=>lY (KX b o e) (by
   cases q:H b with
   | none=>rfl
   | some u =>
    rcases hA b (by rw [q];simp) with e' | e'
    .subst e';rw [hK (by rw [q];simp)] at e;cases e
    rw [(Nz b e').2.1] at e;cases e)
  have hM:Mod K mg (nu s₁.heap H):=⟨R9,Jv rh,⟨mb,Jv hb,NR⟩,let ⟨mc,h1,h2⟩:=NI;⟨mc,Jv h1,h2⟩⟩;have R_:um mg (nu s₁.heap H):=by
   obtain⟨bm,ob,b1,b2,b3,b4,b5,b6⟩:=hbm;refine⟨bm,ob,b1,b2,λz=>?_,lY b3 (off b3 (λ_ _ z=>by rw [b6] at z;cases z) λ_ z=>by rw [b6] at z;cases z),b4,b5,b6⟩;obtain⟨o,es,ep,e,d,_⟩:=rh;rw [<-z,b3] at e;cases e;rw [b6] at d;cases d
  have e0:qN P w K mg (nu s₁.heap H) callerA [] s₁ H:=⟨rfl,hM,λb o e=>Cd e,Nat.le_of_eq (vk _ _),trivial,λb hb=>absurd (show b∈([]:List Addr) from hb) (by simp),cw,.of_eq hg⟩;refine jR ((F _ R9 (Jv rh) R_).run callerA [] s₁ H ⟨[.ref a],[]⟩ [.ref a] [.ref a] _ _ hr e0 (oI s₁ (.ref a)) (.cons rfl .nil) (uv H hO hT hS)) λr s' h=>?_;cases r with
  | error e=>exact(NX H e s' h).elim
  | ok fl =>
   cases fl with
   | next=>exact False.elim h
   | brk=>exact False.elim h
   | cont=>exact False.elim h
   | ret u =>
    obtain⟨v,H',os,bare,un,JK,r',q⟩:=h;have q':v=.bl true:=q;subst q';obtain rfl:u=Value.bool true:=r';have each:∀b o,s₁.heap.get? b=some o->asItWas s₁.heap s'.heap b o/\∃o',s'.heap.get? b=some o':=λb o e=>by
     cases q:H b with
     | none =>
      have z:=un.keep b o e q (by intro z;exact absurd (show b∈([]:List Addr) from z) (by simp)) (by simp);exact⟨.inl z,o,z⟩
     | some u =>
      rcases hO b with z | ⟨ob,xs,z⟩ | ⟨Im,z⟩
      .rw [q] at z;cases z
      .have z2:=un.nF b ob _ z;obtain⟨e1,_⟩:=cw b _ z;obtain⟨e2,_⟩:=JK b _ z2;rw [e] at e1;cases e1;exact⟨.inl e2,_,e2⟩
      obtain⟨more,z2⟩:=un.n8 b _ z;have e2:s'.heap.get? b=some (tabObj (#[]++more)):=JK b _ z2;rw [(Nz b Im).1] at e;cases e;obtain⟨c,hc⟩:=(Nz b Im).2.2;obtain⟨oc,vs',file,tf,flags,tg,inF,text,tt,d1,d2,d3,d4,_⟩:=codeHd_of_K KX hc;exact⟨.inr (.inl ⟨⟨c,oc,vs',d1,d2,d3,d4⟩,rfl,#[],more,rfl,e2⟩),_,e2⟩
    exact⟨rfl,⟨λb o e=>(each b o e).1,λb o e=>(each b o e).2⟩,os,bare⟩
 have na:a∉ts:=λz=>by
  have:=(Nz a z).1;rw [ha] at this;cases this
 cases hk:K.lookup a with
 | some o =>
  have e:=KX a o hk;rw [ha] at e;cases e;refine core (λb=>if b∈ts then some (.ur #[]) else none) (λb=>?_) (λT h=>aw h) (.inr ⟨_,vs.toArray,_,hk,rfl,rfl,rfl,by rw [cP,Nk];exact hl,by simpa using rv⟩) (λb u z=>?_) (λb z=>?_) λz=>absurd (ax na) z
  .by_cases h:b∈ts
   .exact .inr (.inr ⟨h,aw h⟩)
   exact .inl (ax h)
  .by_cases h:b∈ts
   .have z':=(aw h).symm.trans z;cases z';exact(Nz b h).1
   have z':=(ax h).symm.trans z;cases z'
  by_cases h:b∈ts
  .exact .inr h
  exact absurd (ax h) z
 | none =>
  refine core (λb=>if b=a then some (.ky { cls:=.type "list",data:=.seq vs.toArray } (.lst (ns.map V.int))) else if b∈ts then some (.ur #[]) else none) (λb=>?_) (λT h=>?_) (.inl (.inr ⟨{ cls:=.type "list",data:=.seq vs.toArray },aw rfl⟩)) (λb u z=>?_) (λb z=>?_) λ_=>hk
  .by_cases hb:b=a
   .exact .inr (.inl ⟨_,_,aw hb⟩)
   by_cases h:b∈ts
   .exact .inr (.inr ⟨h,(ax hb).trans (aw h)⟩)
   exact .inl ((ax hb).trans (ax h))
  .exact(ax (λz:T=a=>na (z ▸ h))).trans (aw h)
  .by_cases hb:b=a
   .have z':=(aw hb).symm.trans z;cases z';subst hb;exact⟨ha,by rw [ar];exact hl,vs,_,rv,ha⟩
   by_cases h:b∈ts
   .have z':=((ax hb).trans (aw h)).symm.trans z;cases z';exact(Nz b h).1
   have z':=((ax hb).trans (ax h)).symm.trans z;cases z'
  by_cases hb:b=a
  .exact .inl hb
  by_cases h:b∈ts
  .exact .inr h
  exact absurd ((ax hb).trans (ax h)) z
def EF {l:OpenLaw}{n k:Nat}{q:Program}{loose:List Str}{XP:(Str->Option Value)->Heap->Prop}{YP:World->Heap->Prop}{d:DefRec}{K:Params->Frag}{CX:World->zD}{sp:World->Sp}{x:Str}{ts:List Addr}
  (hn:l.most=some n)(GU:n<=sizeLine)(NO:d.params.defaults=[])(hr:fI k callerA)
  (hY:∀(w:World)(h:Heap),YP w h->(K w.params).In h/\∀T∈ts,h.get? T=some (tabObj #[]))
  (hK:∀w:World,∀T∈ts,(K w.params).lookup T=none/\∃c,codeHdIn (K w.params) c T=true)
  (F:∀(w:World)(mg:Str->Option Value)(fa:Addr)(h:Heap),(K w.params).In h->h.Ns mainGlobals mg->mg d.name=some (.ref fa) ->
   ∃fd:FuncData,(∀(s:Shared)(u:Value),BindsTo s fd ⟨[u],[]⟩ [(x,u)]) /\
    ∀base:Heap,(K w.params).In base->base.Ns mainGlobals mg->um mg base->bR l.prog w (K w.params) mg base (CX w) k fa fd [x] (sp w))
  (uv:∀(w:World)(H:Hp)(a:Addr)(ns:List Int),ns.length<=n->HR ts H->(∀T∈ts,H T=some (.ur #[]))->aI (K w.params) H a (ns.map V.int)->sp w [.ref a] H (λv _=>v=.bl true) λ_ _ _=>False)
  (NX:∀(w:World)(H:Hp)(s:Shared)(e:Value)(s':Shared),CX w [] H s (λ_ _ _=>False) e s'->False) :
  WalkO q loose XP YP l.row.toRowW d [] (λf vs=>PySem.call f vs):=by
 refine IF.qC hn NO λw s₀ s₁ mg mb fa o pm cd doc a vs ns G Y ho hd xr NH GK hints bM hg=>?_;obtain⟨KX,TX⟩:=hY w _ Y;obtain⟨fd,hb,hF⟩:=F w mg fa _ KX G.T.g NH;exact Dg KX G.T.g G.T.b G.T.builtins G.T.nolimit G.T.bmain hg (λT hT=>⟨TX T hT,hK w T hT⟩) GK hints (eK bM GU) hr hF hb (λH hO hT hS=>uv w H a ns bM hO hT hS) λH e s'=>NX w H s₁ e s'
def aS {X:Cx}{scope:Scope}{js:List (Nat×Str)}(h:(js.all λp=>X.N[p.1]? == some p.2 && X.env.scope.names.lookup p.2 == some .cell && scope.names.lookup p.2 == some .free)=true)
  (h2:(scope.names.all λy=>y.2 != .free || X.env.scope.names.lookup y.1 == some .cell)=true):Kv X scope js:=by
 refine⟨λp hp=>?_,λy hy=>?_⟩
 .have:=dP.mp h p hp;simp only [mf,beq_iff_eq] at this;exact⟨this.1.1,this.1.2,this.2⟩
 have:=dP.mp h2 _ hy;simpa using this
def yS {σ:St}{H:Hp}{A B:Hp->Prop}(h:A H):hV σ H λb H3=>if b=true then A H3 else B H3:=by
 show if true=true then A H else B H;exact Nu h
def goN {i:Nat}{v:V}{σ:St}{H:Hp}{Q:St->Hp->Prop}(h:Q (σ.set i (some v)) H):di i v σ H Q:=h
def Gu {X:Cx}(K:a0)(hK:X.K=K:=by rfl):IE X (Qz K):=by
 subst hK;exact cX
def JG {X:Cx}(K:a0)(hK:X.K=K:=by rfl):IE X (Qx K):=by
 subst hK;exact cN
def dq {X:Cx}{es:List Expr}{k:Nat}{t:LR}{n:Nat}{pos:Pos}(K:a0)(hc:X.calm=true)(h:Tb X es t)(hK:X.K=K:=by rfl)
  (hn:(assignEach es X.env).length=n:=by rfl)(nO:(assignEach es X.env).findIdx? (·.1)=none:=by rfl):PG X (.Tuple es k pos) (yT K n t):=by
 subst hK;exact ft hc h hn nO
end L2
section
variable {P:PySem.Program}{w:PySem.World}{K:a0}{mg:PySem.Str->Option PySem.Value}{base:PySem.Heap}{f:PySem.Addr}{fd:PySem.FuncData}
namespace ig
open PySem L2
def top (i:Nat):Stmt:=PySem.Challenge.pw_wright_k22_words_that_begin_parts.main.body.getD i (.Pass ⟨0,0,0,0⟩)
abbrev Ak:Stmt:=top 4
abbrev Ae:Stmt:=top 5
abbrev sN:Stmt:=top 9
abbrev qX:Stmt:=top 10
abbrev pR:Stmt:=top 11
abbrev Ff:Stmt:=top 21
abbrev Ag:Stmt:=top 22
abbrev Mt:Stmt:=top 23
abbrev sL:Stmt:=top 25
abbrev wL:Stmt:=top 26
abbrev ou:Stmt:=top 27
abbrev wK:Stmt:=top 30
abbrev Af:Stmt:=top 31
abbrev Mv:Stmt:=top 32
abbrev Fg:Stmt:=top 39
abbrev Fb:Stmt:=top 6
abbrev Mu:Stmt:=top 7
abbrev ox:Stmt:=top 34
abbrev pQ:Stmt:=top 35
abbrev sM:Stmt:=top 36
abbrev sLT:Stmt:=top 37
structure Txt (mg:Str->Option Value):Prop where
 len:mg "len"=none
 Fw:mg "range"=none
 isi:mg "isinstance"=none
 tup:mg "tuple"=none
 lst:mg "list"=none
 Cv:mg "dict"=none
 all:mg "all"=none
 any:mg "any"=none
 str:mg "str"=none
 int:mg "int"=none
 boo:mg "bool"=none
 Iu:mg "enumerate"=none
 sum:mg "sum"=none
 max:mg "max"=none
 min:mg "min"=none
section
def boot_all:bootBuiltins "all"=some (.builtin "all"):=by decide +kernel
def g_:bootBuiltins "list"=some (.type "list"):=by decide +kernel
def i4:bootBuiltins "str"=some (.type "str"):=by decide +kernel
def gu:bootBuiltins "dict"=some (.type "dict"):=by decide +kernel
end
end ig
namespace L2
open PySem
def aY {K:a0}{H:Hp}{D a:Addr}{xs ys:List V}{o:HO}(hD:H D=some (.lst ys))(h:aT K H a xs):aT K (upd H D o) a xs:=by
 rcases h with (h | ⟨u,h⟩) | h
 .exact .inl (.inl (by rw [ak (λz=>by rw [z,hD] at h;cases h)];exact h))
 .exact .inl (.inr ⟨u,by rw [ak (λz=>by rw [z,hD] at h;cases h)];exact h⟩)
 exact .inr h
def xK (kvs:List (aM×V))(k:aM):(kvs.any λkv=>decide (kv.1=k))=true↔k∈kvs.map (·.1):=by
 rw [List.any_eq_true,bN];constructor
 .rintro⟨x,h1,h2⟩;exact⟨x,h1,cI h2⟩
 rintro⟨x,h1,h2⟩;exact⟨x,h1,cU h2⟩
def Au {kvs:List (aM×V)}{k:aM}{v:V}(h:k∈kvs.map (·.1)):(bX kvs k v).map (·.1)=kvs.map (·.1):=by
 unfold bX;rw [aw ((xK kvs k).mpr h),iz];refine List.map_congr_left λx hx=>?_;show (if x.1=k then (x.1,v) else x).1=x.1
 split <;> rfl
def ja {kvs:List (aM×V)}{k:aM}{v:V}(h:¬k∈kvs.map (·.1)):(bX kvs k v).map (·.1)=kvs.map (·.1)++[k]:=by
 unfold bX;rw [ax (λz=>h ((xK kvs k).mp z)),br];rfl
def eZ (kvs:List (aM×V))(k:aM):(bj kvs k).isSome=true↔k∈kvs.map (·.1):=by
 rw [<-jw];exact xK kvs k
theorem cV {α β γ:Type}{F:α->β->Prop}{G:α->γ->Prop}{φ:β->γ}:∀{xs:List α}{ys:List β},Paired F xs ys->(∀a b,F a b->G a (φ b))->Paired G xs (ys.map φ)
 | _,_,.nil,_=>.nil
 | _,_,.cons h t,k=>.cons (k _ _ h) (cV t k)
def c_ {z:Str}{l:List Str}:(Sum.inr z:aM)∈l.map Sum.inr↔z∈l:=by
 rw [bN];constructor
 .rintro⟨x,h1,h2⟩;rw [<-kR h2];exact h1
 intro h;exact⟨z,h,rfl⟩
end L2
namespace M11
abbrev au:=PySem.Str×List PySem.Str
def gG (a:List PySem.Str)(h:PySem.Str):List PySem.Str:=if h∈a then a else a++[h]
def xF (bS hs:List PySem.Str):List PySem.Str:=hs.foldl gG bS
def addW (a8 a:List PySem.Str)(p:PySem.Str):List PySem.Str:=if p∈a8 then a else gG a p
def uq (a8 bS ps:List PySem.Str):List PySem.Str:=ps.foldl (addW a8) bS
def O0 (aa:List au)(name:PySem.Str) (k:Nat):Bool:=decide ((aa[k]?.map (·.1))=some name)
def nums (aa:List au)(name:PySem.Str) (i:Nat):List Int:=((List.range i).filter (O0 aa name)).map λk:Nat=>(k:Int)
def C9 (aa:List au)(name:PySem.Str) (i:Nat):nums aa name (i+1)=nums aa name i++(if O0 aa name i=true then [(i:Int)] else []):=by
 unfold nums;rw [List.range_succ,mS,br]
 congr 1
 by_cases h:O0 aa name i=true
 .rw [aw h];simp [h]
 rw [ax h];simp [h]
def yA (aa:List au)(name:PySem.Str) (i:Nat):(nums aa name i).length<=i:=by
 unfold nums;rw [ar];have:=kP (O0 aa name) (List.range i);rw [nQ] at this;exact this
def oU (a:List PySem.Str)(h:PySem.Str):(gG a h).length<=a.length+1:=by
 unfold gG;split <;> simp
theorem jf:∀(hs bS:List PySem.Str),(xF bS hs).length<=bS.length+hs.length
 | [],bS=>by simp [xF]
 | h::r,bS=>by
  have:=jf r (gG bS h);have:=oU bS h;show (xF (gG bS h) r).length<=_;rw [dG];omega
def Hv (a8 a:List PySem.Str)(p:PySem.Str):(addW a8 a p).length<=a.length+1:=by
 unfold addW;split
 .omega
 exact oU a p
theorem nZ (a8:List PySem.Str):∀(ps bS:List PySem.Str),(uq a8 bS ps).length<=bS.length+ps.length
 | [],bS=>by simp [uq]
 | p::r,bS=>by
  have:=nZ a8 r (addW a8 bS p);have:=Hv a8 bS p;show (uq a8 (addW a8 bS p) r).length<=_;rw [dG];omega
end M11
namespace ig
open PySem L2 M11
def ir {bS:List (aM×V)}{as:List Str}(e:bS.map (·.1)=as.map Sum.inr)(h:Str){v:V}:(bX bS (Sum.inr h) v).map (·.1)=(gG as h).map Sum.inr:=by
 unfold gG;by_cases q:h∈as
 .rw [aw q,Au (by rw [e];exact c_.mpr q),e]
 rw [ax q,ja (by rw [e];exact λz=>q (c_.mp z)),e,br];rfl
theorem oF:∀(hs:List Str)(bS:List (aM×V)) (as:List Str),bS.map (·.1)=as.map Sum.inr->(cZ (hs.map λh=>((Sum.inr h:aM),V.bl true)) bS).map (·.1)=(xF as hs).map Sum.inr
 | [],bS,as,e=>e
 | h::r,bS,as,e=>by
  refine oF r (bX bS (Sum.inr h) (.bl true)) (gG as h) ?_;exact ir e h
def keys_str {kvs:List (aM×V)}{zs:List Str}(e:kvs.map (·.1)=zs.map Sum.inr):(kvs.map λp=>kV p.1)=zs.map V.str:=by
 have e2:(kvs.map λp=>kV p.1)=(kvs.map (·.1)).map kV:=by rw [iz];rfl
 rw [e2,e,iz];rfl
section
def CG (K:a0)(H:Hp)(r:Addr)(ru:au):Prop:=∃p,aT K H r [.str ru.1,.ref p]/\aT K H p (ru.2.map V.str)
def bT (K:a0)(H:Hp)(rs:List Addr)(aa:List au):Prop:=Paired (λr ru=>CG K H r ru) rs aa
def bT.keep {H H':Hp}{rs:List Addr}{aa:List au}(h:bT K H rs aa)(k:∀a xs,aT K H a xs->aT K H' a xs):bT K H' rs aa:=Paired.dY h λr ru ⟨p,a,b⟩=>⟨p,k _ _ a,k _ _ b⟩
def bT.same {H H':Hp}{rs:List Addr}{aa:List au}(h:bT K H rs aa)(s:aE H H'):bT K H' rs aa:=h.keep λ_ _ z=>s.tup z
def bT.get {H:Hp}{rs:List Addr}{aa:List au}(h:bT K H rs aa){i:Nat}{r:Addr}(e:rs[i]?=some r):∃ru,aa[i]?=some ru/\CG K H r ru:=by
 have l:=bI h;have li:=(bh.mp e).1;have e2:aa[i]?=some (aa[i]'∅):=cT ∅;obtain⟨x,e3,e4⟩:=Paired.at_ h i _ e2;rw [e] at e3;cases e3;exact⟨_,e2,e4⟩
def tY {H:Hp}{R D:Addr}{rs:List Addr}{aa:List au}{σ:St}{Qp:Hp->Prop}(hR:aI K H R (rs.map V.ref))(cY:bT K H rs aa)(bM:aa.length<=1000)(hD:H D=none)
  (q:∀ts H2,aE H H2->H2 D=some (.lst (ts.map V.ref))->Paired (λt h=>aT K H2 t [.str h,.bl true]) ts (aa.map (·.1))->Qp H2) :
  ∃W:Nat->Nat->List V->St->Hp->Prop,(∃m,W 0 m [] (dN ["head","parts"] [] σ) (upd H D (.lst []))) /\
 ∀i m ys σ' H,W i m ys σ' H->((jN K R).stop i H/\Qp H)\/((jN K R).go i H/\∃m',m' < m/\∀x H',(jN K R).mT i H x H'->yT K 2 (iX (di 0) (iX (di 1) A5)) x σ' H' λσ2 H2=>hV σ2 H2 λb H3 =>
  if b=true then uz (gU (gO 0) (gU (tC (.bl true)) sf)) σ2 H3 λy H4=>H4 D=some (.lst ys)/\ys.length < sizeLine/\W (i+1) m' (ys++[y]) σ2 (upd H4 D (.lst (ys++[y]))) else W (i+1) m' ys σ2 H3):=by
 have ll:=bI cY;refine cq (xs:=rs.map V.ref) (λi ys σ2 H2=>∃ts:List Addr,ys=ts.map V.ref/\ts.length=i/\Paired (λt h=>aT K H2 t [.str h,.bl true]) ts ((aa.take i).map (·.1))/\(∃y0 y1,σ2=[y0,y1])/\aE H H2/\H2 D=some (.lst ys))
  ⟨[],rfl,rfl,.nil,⟨none,none,rfl⟩,af hD _,ae⟩ (λi ys σ2 H2 _ h=>?_) (λi x ys σ2 H2 ex h=>?_) (λys σ2 H2 h=>?_)
 .obtain⟨_,_,_,_,_,sm,_⟩:=h;exact sm.seq hR
 .obtain⟨ts,rfl,ht,hp,⟨y0,y1,rfl⟩,sm,hd⟩:=h;rw [bf] at ex;obtain⟨r,er,rfl⟩:=b_.mp ex;obtain⟨ru,e1,p,v1,v2⟩:=cY.get er;have li:=(bh.mp e1).1;refine⟨r,_,rfl,sm.tup v1,rfl,_,_,rfl,_,_,rfl,rfl,?_⟩;refine yS ?_;refine⟨_,rfl,mj,λt jq=>⟨?_,bq (by rw [ar];omega),ts++[t],?_,?_,?_,⟨_,_,rfl⟩,?_,ae⟩⟩
  .rw [ak (aB hd jq)];exact hd
  .rw [br];rfl
  .rw [bB,ht];rfl
  .rw [cQ,e1,br];have jn:upd H2 t (.tup [.str ru.1,.bl true]) D=some (.lst (ts.map V.ref)):=by rw [ak (aB hd jq)];exact hd
   exact gR (Paired.dY hp λt' h' z=>aY jn ((af jq _).tup z)) (aY jn (aT.of ae))
  intro b o hb;rw [ak (λz=>by rw [z,hD] at hb;cases hb)];exact af jq _ _ _ (sm b o hb)
 obtain⟨ts,rfl,ht,hp,_,sm,hd⟩:=h;rw [ar,ll,cC] at hp;exact q ts H2 sm hd hp
def lP (K:a0):Sp:=λvs H Q _=>∃(R:Addr)(rs:List Addr)(aa:List au),vs=[.ref R]/\aI K H R (rs.map V.ref)/\bT K H rs aa/\aa.length<=1000 /\
 ∀D H',H D=none->aE H H'->H' D=some (.lst ((xF [] (aa.map (·.1))).map V.str))->Q (.ref D) H'
def IU:aN ["rules"] ["rules"] (aA Ak):=je rfl rfl rfl rfl nofun
def F1 (F:iG K "heads_of" "heads_of" Ak f fd)(T:Txt mg):bR P w K mg base fK 1 f fd ["rules"] (lP K):=by
 refine F.ok IU (λvs H Q E h=>?_) (λeJ A outer s H vs Q E hr h=>?_)
 .obtain⟨R,rs,aa,rfl,_⟩:=h;rfl
 obtain⟨R,rs,aa,rfl,hR,cY,bM,q⟩:=h;refine⟨_,ao (bC (a7 (nJ rfl) rfl T.lst g_ (ab (a7 (eI rfl) rfl T.Cv gu (ab
  (aV ["head","parts"] [] rfl (aP (pv 0)) (aS rfl rfl) nofun rfl nofun
   (λ_ _ _ _ _=>dq (n:=2) K rfl (az (aq (i:=0) (show (["head","parts"]:List Str).Nodup by decide +kernel) rfl (a_ rfl)) (az (aq (i:=1) (show (["head","parts"]:List Str).Nodup by decide +kernel) rfl (a_ rfl)) bz))) (λ_ _ _ _ _=>bF)
   (λ_ _ _ _ _=>bU (ab (pv 0) (ab gq aj)))) aj)) aj))),?_⟩
 dsimp only [Ho];refine⟨_,rfl,R,rfl,⟨_,hR⟩,λD hD=>tY hR cY bM hD λts H2 sm hd hp=>?_⟩;have kp:Paired (λt (kv:aM×V)=>aT K H2 t [kV kv.1,kv.2]) ts ((aa.map (·.1)).map λh=>((Sum.inr h:aM),V.bl true)):=cV hp λ_ _ z=>z;refine⟨D,ts,_,rfl,hd,kp,λd hd2=>?_⟩;refine⟨d,_,rfl,ae,λD2 jI=>?_⟩;rw [keys_str (oF (aa.map (·.1)) [] [] rfl)];have nd:D2≠d:=λz=>by rw [z,ae] at jI;cases jI
 exact q D2 _ (sm.free (by rw [ak nd] at jI;exact jI)) (sm.trans ((af hd2 _).trans (af jI _))) ae
theorem jK:∀(aa:List au) (n:Nat),aa.length<=n->(∀ru∈aa,ru.2.length<=8)->(aa.flatMap (·.2)).length<=8 * n
 | [],n,_,_=>by simp
 | ru::r,n,hl,h=>by
  rw [dG] at hl;have:=jK r (n - 1) ∅ λx hx=>h x (cu _ hx);have:=h ru bQ;rw [List.flatMap_cons,bB];omega
def hd (aa:List au):List Str:=xF [] (aa.map (·.1))
def BN (K:a0):Sp:=λvs H Q _=>∃(R:Addr)(rs:List Addr)(aa:List au),vs=[.ref R]/\aI K H R (rs.map V.ref)/\bT K H rs aa/\aa.length<=1000/\(∀ru∈aa,ru.2.length<=8) /\
 ∀D H',H D=none->aE H H'->H' D=some (.lst ((uq (hd aa) [] (aa.flatMap (·.2))).map V.str))->Q (.ref D) H'
def lQ:aN ["rules","heads","words","head","parts","part"] ["rules"] (aA Ae):=je rfl rfl rfl rfl nofun
def FR (F:iG K "words_in" "words_in" Ae f fd)(T:Txt mg):bR P w K mg base fK 1 f fd ["rules"] (BN K):=by
 refine F.ok lQ (λvs H Q E h=>?_) (λeJ A outer s H vs Q E hr h=>?_)
 .obtain⟨R,rs,aa,rfl,_⟩:=h;rfl
 obtain⟨R,rs,aa,rfl,hR,cY,bM,h8,q⟩:=h;have hu:=ff hr;refine⟨_,ai (aC (i:=1) lQ.nd rfl (a_ rfl) (a7 (eI rfl) rfl T.Cv gu (ab
  (aV ["head","parts"] [] rfl (aP (pv 0)) (aS rfl rfl) nofun rfl nofun
   (λ_ _ _ _ _=>dq (n:=2) K rfl (az (aq (i:=0) (show (["head","parts"]:List Str).Nodup by decide +kernel) rfl (a_ rfl)) (az (aq (i:=1) (show (["head","parts"]:List Str).Nodup by decide +kernel) rfl (a_ rfl)) bz))) (λ_ _ _ _ _=>bF)
   (λ_ _ _ _ _=>bU (ab (pv 0) (ab gq aj)))) aj)))
  (ai (aC (i:=2) lQ.nd rfl (a_ rfl) fu)
  (ai (bD b8 rfl (aP (pv 0)) (ft rfl (az (aq (i:=3) lQ.nd rfl (a_ rfl)) (az (aq (i:=4) lQ.nd rfl (a_ rfl)) bz)))
   (ao (bD b8 rfl (d7 (pv 4)) (aq (i:=5) lQ.nd rfl (a_ rfl))
    (ao (cy (f_ (dW hu (pv 5) (pv 1))) (ao (gB hu (pv 2) (pv 5) gq rfl)) aZ)))))
  (ao (bC (a7 (nJ rfl) rfl T.lst g_ (ab (pv 2) aj)))))),?_⟩
 nofun
 refine⟨_,rfl,R,rfl,⟨_,hR⟩,λD hD=>tY hR cY bM hD λts H2 sm hd2 hp=>?_⟩;have kp:Paired (λt (kv:aM×V)=>aT K H2 t [kV kv.1,kv.2]) ts ((aa.map (·.1)).map λh=>((Sum.inr h:aM),V.bl true)):=cV hp λ_ _ z=>z;refine⟨D,ts,_,rfl,hd2,kp,λd hdd=>?_⟩;have K9:(cZ ((aa.map (·.1)).map λh=>((Sum.inr h:aM),V.bl true)) []).map (·.1)=(hd aa).map Sum.inr:=oF (aa.map (·.1)) [] [] rfl;generalize cZ ((aa.map (·.1)).map λh=>((Sum.inr h:aM),V.bl true)) []=kH at K9 ⊢;have Ia:=sm.trans (af hdd (.dK kH));have jn:upd H2 d (.dK kH) d=some (.dK kH):=ae;generalize upd H2 d (.dK kH)=H3 at Ia jn;intro e he;have hde:∀o,upd H3 e o d=some (.dK kH):=λo=>by rw [ak (aB jn he)];exact jn
 have B2:∀o,aE H (upd H3 e o):=λo=>Ia.trans (af he o);have ll:=bI cY
 let xR:rB:=λi σ H5=>∃(kvs:List (aM×V))(y3 y4 y5:Option V),σ=[aF R,aF d,aF e,y3,y4,y5]/\H5=upd H3 e (.dK kvs) /\
  kvs.map (·.1)=(uq (hd aa) [] ((aa.take i).flatMap (·.2))).map Sum.inr
 refine⟨_,rfl,R,rfl,⟨_,(B2 _).seq hR⟩,bZ (xs:=rs.map V.ref) xR ⟨[],none,none,none,rfl,rfl,rfl⟩ ?_ ?_ ?_⟩
 .rintro i σ H5 _ ⟨kvs,y3,y4,y5,rfl,rfl,_⟩;exact(B2 _).seq hR
 .rintro i x σ H5 ex ⟨kvs,y3,y4,y5,rfl,rfl,hk⟩
  ac_nf0
  rw [bf] at ex;obtain⟨r,er,rfl⟩:=b_.mp ex;obtain⟨ru,e1,p,v1,v2⟩:=cY.get er;have li:=(bh.mp e1).1;have NY:=h8 ru (cA e1);have eT:(aa.take (i+1)).flatMap (·.2)=(aa.take i).flatMap (·.2)++ru.2:=by
   rw [cQ,e1,List.flatMap_append];simp
  have lA:((aa.take i).flatMap (·.2)).length<=8 * i:=jK (aa.take i) i (by rw [d0];omega) λru fZ=>h8 ru (rE fZ);refine⟨r,_,rfl,(B2 _).tup v1,rfl,_,_,rfl,_,_,rfl,rfl,?_⟩
  let Ed:rB:=λj σ H6=>∃(kvs:List (aM×V))(y5:Option V),σ=[aF R,aF d,aF e,some (.str ru.1),aF p,y5]/\H6=upd H3 e (.dK kvs) /\
   kvs.map (·.1)=(uq (hd aa) [] ((aa.take i).flatMap (·.2)++ru.2.take j)).map Sum.inr
  refine⟨_,rfl,p,rfl,⟨_,(B2 _).tup v2⟩,xy (xs:=ru.2.map V.str) Ed ⟨kvs,_,rfl,rfl,by rw [List.take_zero,gH];exact hk⟩ ?_ ?_ ?_⟩
  .rintro j σ H6 _ ⟨kvs,y5,rfl,rfl,_⟩;exact(B2 _).tup v2
  .rintro j x σ H6 jM ⟨kvs,y5,rfl,rfl,A0⟩
   ac_nf0
   rw [bf] at jM;obtain⟨z,ez,rfl⟩:=b_.mp jM;have lj:=(bh.mp ez).1;have eS:uq (hd aa) [] ((aa.take i).flatMap (·.2)++ru.2.take (j+1))=addW (hd aa) (uq (hd aa) [] ((aa.take i).flatMap (·.2)++ru.2.take j)) z:=by
    rw [cQ,ez,<-kn];exact vX
   have lk:kvs.length<=8 * i+8:=by
    have h1:kvs.length=(uq (hd aa) [] ((aa.take i).flatMap (·.2)++ru.2.take j)).length:=by
     have:=congrArg List.length A0;rw [ar,ar] at this;exact this
    have h2:=nZ (hd aa) ((aa.take i).flatMap (·.2)++ru.2.take j) [];rw [bB,d0] at h2;simp only [kM] at h2;omega
   have mem:(bj kH (Sum.inr z)).isSome=true↔z∈hd aa:=by rw [eZ,K9];exact c_
   refine⟨_,rfl,_,rfl,d,_,rfl,cD.k (k:=Sum.inr z) (hde _),_,rfl,?_⟩;refine cx (λc=>?_) (λc=>?_)
   .have nm:z∉hd aa:=λh=>by rw [mem.mpr h] at c;exact absurd c nofun
    refine⟨_,rfl,_,rfl,e,_,rfl,lK.k (k:=Sum.inr z) ae (bq ∅),?_⟩;refine⟨bX kvs (Sum.inr z) (.bl true),_,rfl,by rw [n6],?_⟩;rw [eS];unfold addW;rw [ax nm];exact ir A0 z
   have im:z∈hd aa:=mem.mp (by
    cases h:(bj kH (Sum.inr z)).isSome with
    | true=>rfl
    | false=>exact absurd (by rw [h];rfl) c)
   refine⟨kvs,_,rfl,rfl,?_⟩;rw [eS];unfold addW;rw [aw im];exact A0
  rintro σ H6 ⟨kvs,y5,rfl,rfl,A0⟩;rw [ar,cC,<-eT] at A0;exact⟨kvs,_,_,_,rfl,rfl,A0⟩
 rintro σ H5 ⟨kvs,y3,y4,y5,rfl,rfl,hk⟩;rw [ar,ll,cC] at hk;refine⟨_,rfl,e,_,rfl,ae,λD2 jI=>?_⟩;rw [keys_str hk];exact q D2 _ ((B2 _).free jI) ((B2 _).trans (af jI _)) ae
end
end ig
namespace L2
open PySem
section
variable {K:a0}{a D:Addr}{xs:List V}{ts:List Str}{js:List (Nat×Str)}{g:TG}{tif:TT}{te:TE}{R:Hp->Prop}{σ:St}{H:Hp}
def gM (Pv:Nat->List V->St->Hp->Prop)(h0:Pv 0 [] (dN ts js σ) (upd H D (.lst [])))(hl:∀i ys σ H,i<=xs.length->Pv i ys σ H->aT K H a xs)
  (hs:∀i x ys σ H,xs[i]?=some x->Pv i ys σ H->g x σ H λσ2 H2=>tif σ2 H2 λb H3=>if b=true then te σ2 H3 λy H4=>H4 D=some (.lst ys)/\ys.length < sizeLine/\Pv (i+1) (ys++[y]) σ2 (upd H4 D (.lst (ys++[y]))) else Pv (i+1) ys σ2 H3)
  (hd:∀ys σ H,Pv xs.length ys σ H->R H) :
  ∃W:Nat->Nat->List V->St->Hp->Prop,(∃m,W 0 m [] (dN ts js σ) (upd H D (.lst []))) /\
 ∀i m ys σ' H,W i m ys σ' H->((oV K a).stop i H/\R H)\/((oV K a).go i H/\∃m',m' < m/\∀x H',(oV K a).mT i H x H'->g x σ' H' λσ2 H2=>tif σ2 H2 λb H3 =>
  if b=true then te σ2 H3 λy H4=>H4 D=some (.lst ys)/\ys.length < sizeLine/\W (i+1) m' (ys++[y]) σ2 (upd H4 D (.lst (ys++[y]))) else W (i+1) m' ys σ2 H3):=by
 refine⟨λi m ys σ H=>m=xs.length - i/\i<=xs.length/\Pv i ys σ H,⟨xs.length,by simp,fj _,h0⟩,?_⟩;rintro i m ys σ' H ⟨rfl,hi,p⟩;have q:=hl i ys σ' H hi p;by_cases j8:i < xs.length
 .refine .inr ⟨⟨xs,xs[i],q,by simp [j8]⟩,xs.length - (i+1),∅,λx H' y=>?_⟩;obtain⟨e,y⟩:=y;subst e;have z:=hs i x ys σ' _ (y xs q) p;have h1:(i+1<=xs.length)=True:=eq_true j8;simp only [h1,true_and];exact z
 have e:i=xs.length:=by omega
 subst e;exact .inl ⟨⟨xs,q,aK _⟩,hd ys σ' H p⟩
def zj (Pv:Nat->List V->St->Hp->Prop)(h0:Pv 0 [] (dN ts js σ) (upd H D (.lst [])))(hl:∀i ys σ H,i<=xs.length->Pv i ys σ H->aT K H a xs)
  (hs:∀i x ys σ H t,xs[i]?=some x->Pv i ys σ H->H t=none->g (.ref t) σ (upd H t (.tup [.int (i:Int),x])) λσ2 H2=>tif σ2 H2 λb H3=>if b=true then te σ2 H3 λy H4=>H4 D=some (.lst ys)/\ys.length < sizeLine/\Pv (i+1) (ys++[y]) σ2 (upd H4 D (.lst (ys++[y]))) else Pv (i+1) ys σ2 H3)
  (hd:∀ys σ H,Pv xs.length ys σ H->R H) :
  ∃W:Nat->Nat->List V->St->Hp->Prop,(∃m,W 0 m [] (dN ts js σ) (upd H D (.lst []))) /\
 ∀i m ys σ' H,W i m ys σ' H->((ui K a).stop i H/\R H)\/((ui K a).go i H/\∃m',m' < m/\∀x H',(ui K a).mT i H x H'->g x σ' H' λσ2 H2=>tif σ2 H2 λb H3 =>
  if b=true then te σ2 H3 λy H4=>H4 D=some (.lst ys)/\ys.length < sizeLine/\W (i+1) m' (ys++[y]) σ2 (upd H4 D (.lst (ys++[y]))) else W (i+1) m' ys σ2 H3):=by
 refine⟨λi m ys σ H=>m=xs.length - i/\i<=xs.length/\Pv i ys σ H,⟨xs.length,by simp,fj _,h0⟩,?_⟩;rintro i m ys σ' H ⟨rfl,hi,p⟩;have q:=hl i ys σ' H hi p;by_cases j8:i < xs.length
 .refine .inr ⟨⟨xs,xs[i],q,by simp [j8]⟩,xs.length - (i+1),∅,λx H' y=>?_⟩;obtain⟨t,y0,rfl,ht,rfl,y⟩:=y;have z:=hs i y0 ys σ' _ t (y xs q) p ht;have h1:(i+1<=xs.length)=True:=eq_true j8;simp only [h1,true_and];exact z
 have e:i=xs.length:=by omega
 subst e;exact .inl ⟨⟨xs,q,aK _⟩,hd ys σ' H p⟩
end
def jJ {K:a0}{a:Addr}{xs:List V}{g:TG}{tb:TS}{D:Ends}{σ:St}{H:Hp}(Pv:Nat->St->Hp->Prop)(h0:Pv 0 σ H)(hl:∀i σ H,i<=xs.length->Pv i σ H->aI K H a xs)
  (hs:∀i x σ H t,xs[i]?=some x->Pv i σ H->H t=none->g (.ref t) σ (upd H t (.tup [.int (i:Int),x])) λσ2 H2=>tb { D with nx:=Pv (i+1),ct:=Pv (i+1),bk:=D.nx } σ2 H2)(hd:∀σ H,Pv xs.length σ H->D.nx σ H) :
  ∃W:Nat->Nat->St->Hp->Prop,(∃m,W 0 m σ H)/\∀i m σ H,W i m σ H ->
   ((Th K a).stop i H/\D.nx σ H)\/((Th K a).go i H/\∃N:St->Hp->Prop,(∀σ' H',N σ' H'->∃m',m' < m/\W (i+1) m' σ' H')/\∀x H',(Th K a).mT i H x H'->g x σ H' λσ2 H2=>tb { D with nx:=N,ct:=N,bk:=D.nx } σ2 H2):=by
 refine⟨λi m σ H=>m=xs.length - i/\i<=xs.length/\Pv i σ H,⟨xs.length,by simp,fj _,h0⟩,?_⟩;rintro i m σ H ⟨rfl,hi,p⟩;have q:=hl i σ H hi p;by_cases j8:i < xs.length
 .refine .inr ⟨⟨xs,xs[i],q,by simp [j8]⟩,Pv (i+1),λσ' H' p'=>⟨xs.length - (i+1),∅,rfl,j8,p'⟩,λx H' y=>?_⟩;obtain⟨t,y0,rfl,ht,rfl,y⟩:=y;exact hs i y0 σ _ t (y xs q) p ht
 have e:i=xs.length:=by omega
 subst e;exact .inl ⟨⟨xs,q,aK _⟩,hd σ H p⟩
def qd {K:a0}{a:Addr}{xs:List V}{g:TG}{tb:TS}{D:Ends}{σ:St}{H:Hp}(Pv:Nat->St->Hp->Prop)(h0:Pv 0 σ H)(hl:∀i σ H,i<=xs.length->Pv i σ H->aT K H a xs)
  (hs:∀i x σ H t,xs[i]?=some x->Pv i σ H->H t=none->g (.ref t) σ (upd H t (.tup [.int (i:Int),x])) λσ2 H2=>tb { D with nx:=Pv (i+1),ct:=Pv (i+1),bk:=D.nx } σ2 H2)(hd:∀σ H,Pv xs.length σ H->D.nx σ H) :
  ∃W:Nat->Nat->St->Hp->Prop,(∃m,W 0 m σ H)/\∀i m σ H,W i m σ H ->
   ((ui K a).stop i H/\D.nx σ H)\/((ui K a).go i H/\∃N:St->Hp->Prop,(∀σ' H',N σ' H'->∃m',m' < m/\W (i+1) m' σ' H')/\∀x H',(ui K a).mT i H x H'->g x σ H' λσ2 H2=>tb { D with nx:=N,ct:=N,bk:=D.nx } σ2 H2):=by
 refine⟨λi m σ H=>m=xs.length - i/\i<=xs.length/\Pv i σ H,⟨xs.length,by simp,fj _,h0⟩,?_⟩;rintro i m σ H ⟨rfl,hi,p⟩;have q:=hl i σ H hi p;by_cases j8:i < xs.length
 .refine .inr ⟨⟨xs,xs[i],q,by simp [j8]⟩,Pv (i+1),λσ' H' p'=>⟨xs.length - (i+1),∅,rfl,j8,p'⟩,λx H' y=>?_⟩;obtain⟨t,y0,rfl,ht,rfl,y⟩:=y;exact hs i y0 σ _ t (y xs q) p ht
 have e:i=xs.length:=by omega
 subst e;exact .inl ⟨⟨xs,q,aK _⟩,hd σ H p⟩
def vH {K:a0}{H:Hp}{p D d:Addr}{zs:List Str}{kvs:List (aM×V)}{σ:St}{js:List (Nat×Str)}{Qp:Hp->Prop}(hσ:dN ["part"] js σ=[none,aF d])(hp:aT K H p (zs.map V.str))(hz:zs.length<=1000)
  (hd:H d=some (.dK kvs))(hD:H D=none)(q:∀H2,aE H H2->H2 D=some (.lst ((zs.map λz=>(bj kvs (Sum.inr z)).isSome).map V.bl))->Qp H2) :
  ∃W:Nat->Nat->List V->St->Hp->Prop,(∃m,W 0 m [] (dN ["part"] js σ) (upd H D (.lst []))) /\
 ∀i m ys σ' H,W i m ys σ' H->((oV K p).stop i H/\Qp H)\/((oV K p).go i H/\∃m',m' < m/\∀x H',(oV K p).mT i H x H'->di 0 x σ' H' λσ2 H2=>hV σ2 H2 λb H3 =>
  if b=true then Qe (gO 0) (gO 1) σ2 H3 λy H4=>H4 D=some (.lst ys)/\ys.length < sizeLine/\W (i+1) m' (ys++[y]) σ2 (upd H4 D (.lst (ys++[y]))) else W (i+1) m' ys σ2 H3):=by
 refine gM (xs:=zs.map V.str) (λi ys σ2 H2=>ys=(((zs.take i).map λz=>(bj kvs (Sum.inr z)).isSome).map V.bl)/\(∃y0,σ2=[y0,aF d])/\aE H H2/\H2 D=some (.lst ys))
  ⟨rfl,⟨none,hσ⟩,af hD _,ae⟩ (λi ys σ2 H2 _ h=>h.2.2.1.tup hp) (λi x ys σ2 H2 ex h=>?_) (λys σ2 H2 h=>?_)
 .obtain⟨rfl,⟨y0,rfl⟩,sm,hd2⟩:=h;rw [bf] at ex;obtain⟨z,ez,rfl⟩:=b_.mp ex;have li:=(bh.mp ez).1;refine goN (yS ?_);refine⟨_,rfl,_,rfl,d,_,rfl,cD.k (k:=Sum.inr z) (sm _ _ hd),hd2,bq (by rw [ar,ar,d0];omega),?_,⟨_,rfl⟩,?_,ae⟩
  .rw [cQ,ez,br,br];rfl
  intro b o hb;rw [ak (λz=>by rw [z,hD] at hb;cases hb)];exact sm b o hb
 obtain⟨rfl,_,sm,hd2⟩:=h;rw [ar,cC] at hd2;exact q H2 sm hd2
def il {K:a0}{H:Hp}{D a:Addr}{xs:List V}{ys:List (aM×V)}{o:HO}(hD:H D=some (.dK ys))(h:aT K H a xs):aT K (upd H D o) a xs:=by
 rcases h with (h | ⟨u,h⟩) | h
 .exact .inl (.inl (by rw [ak (λz=>by rw [z,hD] at h;cases h)];exact h))
 .exact .inl (.inr ⟨u,by rw [ak (λz=>by rw [z,hD] at h;cases h)];exact h⟩)
 exact .inr h
theorem gK {α:Type} [DecidableEq α]:∀(l m:List α),l.Nodup->(∀x∈l,x∈m)->l.length<=m.length
 | [],m,_,_=>fj _
 | a::l,m,hn,h=>by
  have hm:=h a bQ;have:=gK l (m.erase a) (iL.mp hn).2 λx hx=>(List.mem_erase_of_ne (λz:x=a=>(iL.mp hn).1 (by rw [<-z];exact hx))).mpr (h x (cu _ hx));rw [zT hm] at this;have:=zN hm;rw [dG];omega
end L2
namespace M11
open PySem L2
inductive uj (aa:List au):List (Str×Nat)->Prop
 | nil:uj aa []
 | snoc {aQ:List (Str×Nat)}{k:Nat}{ru:au}:uj aa aQ->aa[k]?=some ru->ru.1∉aQ.map (·.1)->(∀p∈ru.2,p∈aQ.map (·.1))->uj aa (aQ++[(ru.1,k)])
def qO (aa:List au) (n:Nat)(aQ:List (Str×Nat)):Prop:=∀ru∈aa.take n,(∀p∈ru.2,p∈aQ.map (·.1))->ru.1∈aQ.map (·.1)
def uj.nd {aa:List au}{aQ:List (Str×Nat)}(h:uj aa aQ):(aQ.map (·.1)).Nodup:=by
 induction h with
 | nil=>exact iA
 | snoc h e n p ih =>
  rw [br];refine jv.mpr ⟨ih,by simp,λa ha b hb=>?_⟩;rw [pE,cg] at hb;exact λz=>n (by rw [<-hb,<-z];exact ha)
def uj.head {aa:List au}{aQ:List (Str×Nat)}(h:uj aa aQ):∀x∈aQ.map (·.1),x∈aa.map (·.1):=by
 induction h with
 | nil=>simp
 | snoc h e n p ih =>
  intro x hx;rw [br] at hx;rcases bY.mp hx with hx | hx
  .exact ih x hx
  rw [pE,cg] at hx;rw [hx];exact iO (cA e)
def uj.len {aa:List au}{aQ:List (Str×Nat)}(h:uj aa aQ):aQ.length<=aa.length:=by
 have:=gK _ _ h.nd h.head;rw [ar,ar] at this;exact this
end M11
namespace ig
open PySem L2 M11
section
def oW (K:a0)(H:Hp)(ts:List Addr)(aQ:List (Str×Nat)):Prop:=Paired (λt (e:Str×Nat)=>aT K H t [.str e.1,.int (e.2:Int)]) ts aQ
def oW.keep {H H':Hp}{ts:List Addr}{aQ:List (Str×Nat)}(h:oW K H ts aQ)(k:∀a xs,aT K H a xs->aT K H' a xs):oW K H' ts aQ:=Paired.dY h λt e z=>k _ _ z
structure CJ (K:a0)(aa:List au)(H H5:Hp)(D d:Addr)(ts:List Addr)(aQ:List (Str×Nat))(kvs:List (aM×V)):Prop where
 sm:aE H H5
 hD:H5 D=some (.lst (ts.map V.ref))
 hd:H5 d=some (.dK kvs)
 keys:kvs.map (·.1)=(aQ.map (·.1)).map Sum.inr
 ev:oW K H5 ts aQ
 emp:uj aa aQ
def CJ.same {aa:List au}{H H5 H6:Hp}{D d:Addr}{ts:List Addr}{aQ:List (Str×Nat)}{kvs:List (aM×V)}(h:CJ K aa H H5 D d ts aQ kvs)(s:aE H5 H6):CJ K aa H H6 D d ts aQ kvs :=
 ⟨h.sm.trans s,s _ _ h.hD,s _ _ h.hd,h.keys,h.ev.keep λ_ _ z=>s.tup z,h.emp⟩
def CJ.mem {aa:List au}{H H5:Hp}{D d:Addr}{ts:List Addr}{aQ:List (Str×Nat)}{kvs:List (aM×V)}(h:CJ K aa H H5 D d ts aQ kvs)(z:Str):(bj kvs (Sum.inr z)).isSome=true↔z∈aQ.map (·.1):=by
 rw [eZ,h.keys];exact c_
def CJ.len {aa:List au}{H H5:Hp}{D d:Addr}{ts:List Addr}{aQ:List (Str×Nat)}{kvs:List (aM×V)}(h:CJ K aa H H5 D d ts aQ kvs):ts.length=aQ.length/\kvs.length=aQ.length:=by
 refine⟨bI h.ev,?_⟩;have:=congrArg List.length h.keys;simpa using this
def CJ.more {aa:List au}{H H5:Hp}{D d t:Addr}{ts:List Addr}{aQ:List (Str×Nat)}{kvs:List (aM×V)}(h:CJ K aa H H5 D d ts aQ kvs)(fD:H D=none)(fd:H d=none){k:Nat}{ru:au}(e:aa[k]?=some ru)
  (n:ru.1∉aQ.map (·.1))(p:∀x∈ru.2,x∈aQ.map (·.1))(ht:upd H5 d (.dK (bX kvs (Sum.inr ru.1) (.bl true))) t=none) :
  CJ K aa H (upd (upd (upd H5 d (.dK (bX kvs (Sum.inr ru.1) (.bl true)))) t (.tup [.str ru.1,.int (k:Int)])) D (.lst (ts.map V.ref++[.ref t]))) D d (ts++[t]) (aQ++[(ru.1,k)]) (bX kvs (Sum.inr ru.1) (.bl true)):=by
 have ZQ:D≠d:=λz=>by have:=h.hD;rw [z,h.hd] at this;cases this
 have nt:t≠d:=λz=>by rw [z,ae] at ht;cases ht
 have Ru:H5 t=none:=by rw [ak nt] at ht;exact ht
 have nDt:D≠t:=λz=>by rw [<-z,h.hD] at Ru;cases Ru
 have jI:upd (upd H5 d (.dK (bX kvs (Sum.inr ru.1) (.bl true)))) t (.tup [.str ru.1,.int (k:Int)]) D=some (.lst (ts.map V.ref)):=by rw [ak nDt,ak ZQ];exact h.hD
 have kp:∀a xs,aT K H5 a xs->aT K (upd (upd (upd H5 d (.dK (bX kvs (Sum.inr ru.1) (.bl true)))) t (.tup [.str ru.1,.int (k:Int)])) D (.lst (ts.map V.ref++[.ref t]))) a xs:=λa xs z =>
  aY jI ((af ht _).tup (il h.hd z))
 refine⟨λb o hb=>?_,by rw [ae,br];rfl,by rw [ak ZQ.symm,ak nt.symm,ae],?_,gR (h.ev.keep kp) (aY jI (aT.of ae)),.snoc h.emp e n p⟩
 .have:=h.sm b o hb;rw [ak (λz=>by rw [z,fD] at hb;cases hb),ak (λz=>by rw [z,Ru] at this;cases this),ak (λz=>by rw [z,fd] at hb;cases hb)];exact this
 rw [ja (by rw [h.keys];exact λz=>n (c_.mp z)),h.keys,br,br];rfl
def pM (K:a0):Sp:=λvs H Q _=>∃(R:Addr)(rs:List Addr)(aa:List au),vs=[.ref R]/\aI K H R (rs.map V.ref)/\bT K H rs aa/\aa.length<=1000/\(∀ru∈aa,ru.2.length<=8) /\
 ∀D ts aQ H',H D=none->aE H H'->H' D=some (.lst (ts.map V.ref))->oW K H' ts aQ->uj aa aQ->qO aa aa.length aQ->Q (.ref D) H'
def ib:aN ["rules","told","empty","many","number","rule"] ["rules"] (aA sN):=je rfl rfl rfl rfl nofun
def AG (F:iG K "found_empties" "found_empties" sN f fd)(T:Txt mg):bR P w K mg base fK 1 f fd ["rules"] (pM K):=by
 refine F.ok ib (λvs H Q E h=>?_) (λeJ A outer s H vs Q E hr h=>?_)
 .obtain⟨R,rs,aa,rfl,_⟩:=h;rfl
 obtain⟨R,rs,aa,rfl,hR,cY,bM,h8,q⟩:=h;have hu:=ff hr;refine⟨_,ai (aC (i:=1) ib.nd rfl (a_ rfl) (bJ aj))
  (ai (aC (i:=2) ib.nd rfl (Or.inr rfl) fu)
  (ai (aC (i:=3) ib.nd rfl (a_ rfl) (u4 pJ av))
  (ai (jB b8 (bu qv (pv 3) (aR bH rfl T.len gT (ab (pv 1) aj)) (cM _))
   (ai (aC (i:=3) ib.nd rfl (a_ rfl) (aR bH rfl T.len gT (ab (pv 1) aj)))
   (ao (bD b8 rfl (lU rfl T.Iu (ab (pv 0) aj)) (ft rfl (az (aq (i:=4) ib.nd rfl (a_ rfl)) (az (aq (i:=5) ib.nd rfl (a_ rfl)) bz)))
    (ao (cy (PW.pt (mY (f_ (dW hu (b9 cN (pv 5) av (λ_ _=>rfl)) (pv 2)))
      (jX (gX (aR (dF rfl) rfl T.all boot_all (ab (aV ["part"] [(2,"empty")] rfl (d7 (b9 cN (pv 5) av (λ_ _=>rfl))) (aS rfl rfl) nofun rfl nofun
       (λ_ _ _ _ _=>aq (i:=0) (show (["part","empty"]:List Str).Nodup by decide +kernel) rfl (a_ rfl)) (λ_ _ _ _ _=>bF) (λ_ _ _ _ _=>sP (jY hu (pv 0) (pv 1)))) aj))))))
     (ai (gB hu (pv 2) (b9 cN (pv 5) av (λ_ _=>rfl)) gq rfl)
     (ao (cv (fY fU fV fX bA (pv 1) (ab (bU (ab (b9 cN (pv 5) av (λ_ _=>rfl)) (ab (pv 4) aj))) aj))))) aZ))))))
  (ao (bC (pv 1)))))),?_⟩
 nofun
 refine⟨uo,λD hD d hd=>?_⟩;have ZN:d≠D:=λz=>by rw [z,ae] at hd;cases hd
 have vo:H d=none:=by rw [ak ZN] at hd;exact hd
 have e0:CJ K aa H (upd (upd H D (.lst [])) d (.dK [])) D d [] [] []:=⟨(af hD _).trans (af hd _),by rw [ak ZN.symm,ae];rfl,ae,rfl,.nil,.nil⟩;generalize upd (upd H D (.lst [])) d (.dK [])=H0 at e0;refine⟨1,rfl,?_⟩;refine⟨λm σ H5=>∃(ts:List Addr)(aQ:List (Str×Nat))(kvs:List (aM×V)) (many:Int)(y4 y5:Option V),σ=[aF R,aF D,aF d,some (.int many),y4,y5]/\CJ K aa H H5 D d ts aQ kvs/\-1<=many/\many<=aQ.length/\(many=aQ.length->qO aa aa.length aQ)/\(m:Int)=aa.length+1 - many,
  ⟨aa.length+2,[],[],[],-1,none,none,rfl,e0,∅,by simp,by simp,by simp;omega⟩,?_⟩
 rintro m σ H5 ⟨ts,aQ,kvs,many,y4,y5,rfl,S,b1,b2,cl,em⟩;obtain⟨lt,lk⟩:=S.len;refine⟨_,rfl,_,rfl,D,_,rfl,.inl (aI.of S.hD),_,_,rfl,rfl,_,rfl,?_⟩;refine cx (λc=>?_) (λc=>?_)
 .have c':=cI c;rw [ar,lt] at c';refine⟨λσ H5=>∃(x_:List Addr)(iE:List (Str×Nat))(fg:List (aM×V))(y4 y5:Option V),σ=[aF R,aF D,aF d,some (.int (aQ.length:Int)),y4,y5]/\CJ K aa H H5 D d x_ iE fg/\aQ.length<=iE.length/\(iE.length=aQ.length->qO aa aa.length iE),?_,?_⟩
  .rintro σ H6 ⟨x_,iE,fg,y4,y5,rfl,S2,l2,c2⟩;have:=S2.emp.len;exact⟨(aa.length+1 - aQ.length:Int).toNat,∅,x_,iE,fg,_,_,_,rfl,S2,∅,∅,λz=>c2 ∅,∅⟩
  refine⟨_,rfl,D,_,rfl,.inl (aI.of S.hD),?_⟩;rw [ar,lt];refine⟨_,rfl,R,_,rfl,S.sm.seq hR,?_⟩;refine jJ (xs:=rs.map V.ref) (λi σ H6=>∃(x_:List Addr)(iE:List (Str×Nat))(fg:List (aM×V))(y4 y5:Option V),σ=[aF R,aF D,aF d,some (.int (aQ.length:Int)),y4,y5]/\CJ K aa H H6 D d x_ iE fg/\aQ.length<=iE.length/\(iE.length=aQ.length->qO aa i iE))
   ⟨ts,aQ,kvs,_,_,rfl,S,aK _,λ_ ru fZ=>by simp at fZ⟩ ?_ ?_ ?_
  .rintro i σ H6 _ ⟨x_,iE,fg,y4,y5,rfl,S2,_⟩;exact S2.sm.seq hR
  .rintro i x σ H6 t ex ⟨x_,iE,fg,y4,y5,rfl,S2,l2,c2⟩ ht
   ac_nf0
   rw [bf] at ex;obtain⟨r,er,rfl⟩:=b_.mp ex;obtain⟨ru,e1,p,v1,v2⟩:=cY.get er;have NY:=h8 ru (cA e1);have S3:=S2.same (af ht (.tup [.int (i:Int),.ref r]));have O2:aT K (upd H6 t (.tup [.int (i:Int),.ref r])) t [.int (i:Int),.ref r]:=aT.of ae;generalize upd H6 t (.tup [.int (i:Int),.ref r])=H7 at S3 O2;obtain⟨lt2,T7⟩:=S3.len;have el2:=S3.emp.len;have tk:aa.take (i+1)=aa.take i++[ru]:=by rw [cQ,e1];rfl
   have kZ:(¬((∀p∈ru.2,p∈iE.map (·.1))/\ru.1∉iE.map (·.1)))->(iE.length=aQ.length->qO aa (i+1) iE):=λhn z Ar tu hp=>by
    rw [tk] at tu;rcases bY.mp tu with h | h
    .exact c2 z Ar h hp
    rw [cg.mp h] at hp ⊢;exact Classical.byContradiction λhc=>hn ⟨hp,hc⟩
   refine⟨t,_,rfl,O2,rfl,_,_,rfl,_,_,rfl,rfl,?_⟩;refine⟨_,rfl,r,_,_,_,rfl,rfl,S3.sm.tup v1,rfl,?_⟩;refine⟨_,rfl,d,_,rfl,cD.k (k:=Sum.inr ru.1) S3.hd,_,rfl,?_⟩;refine cx (λc3=>?_) (λc3=>?_)
   .have nm:ru.1∉iE.map (·.1):=λh=>by rw [(S3.mem _).mpr h] at c3;exact absurd c3 nofun
    refine⟨_,rfl,r,_,_,_,rfl,rfl,S3.sm.tup v1,rfl,p,rfl,⟨_,S3.sm.tup v2⟩,λD2 jI=>vH rfl (S3.sm.tup v2) ∅ S3.hd jI λH8 OQ RV=>?_⟩;have S4:=S3.same OQ;refine⟨D2,_,rfl,aI.of RV,_,rfl,?_⟩;refine cx (λc4=>?_) (λc4=>?_)
    .have al:∀x∈ru.2,x∈iE.map (·.1):=λx hx=>(S4.mem x).mp (dP.mp c4 _ (iO hx));refine⟨_,rfl,_,rfl,r,_,_,_,rfl,rfl,S4.sm.tup v1,rfl,d,_,rfl,lK.k (k:=Sum.inr ru.1) S4.hd (bq ∅),?_⟩;have v1':aT K (upd H8 d (.dK (bX fg (Sum.inr ru.1) (.bl true)))) r [.str ru.1,.ref p]:=il S4.hd (S4.sm.tup v1);have NV:upd H8 d (.dK (bX fg (Sum.inr ru.1) (.bl true))) D=some (.lst (x_.map V.ref)):=by rw [ak (λz=>by have:=S4.hD;rw [z,S4.hd] at this;cases this)];exact S4.hD
     refine⟨_,rfl,.inl ⟨rfl,_,aI.of NV⟩,_,rfl,r,_,_,_,rfl,rfl,v1',rfl,_,rfl,mj,λt2 jq=>?_⟩;refine⟨D,_,_,rfl,rfl,(by rw [ak (aB NV jq)];exact NV),bq (by rw [ar];omega),?_⟩;have S5:=S4.more hD vo e1 nm al jq;exact⟨x_++[t2],iE++[(ru.1,i)],_,_,_,rfl,S5,by rw [bB];omega,λz=>by rw [bB] at z;simp at z;omega⟩
    refine⟨x_,iE,fg,_,_,rfl,S4,l2,kZ λ⟨ha,_⟩=>c4 (dP.mpr λb hb=>?_)⟩;obtain⟨x,hx,rfl⟩:=bN.mp hb;exact(S4.mem x).mpr (ha x hx)
   refine⟨x_,iE,fg,_,_,rfl,S3,l2,kZ λ⟨_,hn⟩=>c3 ?_⟩;cases hq:(bj fg (Sum.inr ru.1)).isSome with
   | true=>exact absurd ((S3.mem _).mp hq) hn
   | false=>rfl
  rintro σ H6 ⟨x_,iE,fg,y4,y5,rfl,S2,l2,c2⟩;rw [ar,bI cY] at c2;exact⟨x_,iE,fg,_,_,rfl,S2,l2,c2⟩
 have c':=of_decide_eq_false (rP.mpr c);rw [ar,lt] at c';exact⟨_,rfl,q D ts aQ H5 hD S.sm S.hD S.ev S.emp (cl ∅)⟩
end
end ig
namespace M11
open PySem L2
def uw (b:Str->Bool):List Str->Nat
 | []=>0
 | z::r=>if b z=true then uw b r+1 else 1
theorem xx (b:Str->Bool):∀zs:List Str,(∀z∈zs,b z=true)->uw b zs=zs.length
 | [],_=>rfl
 | z::r,h=>by
  unfold uw;rw [aw (h z bQ),xx b r λx hx=>h x (cu _ hx)];rfl
theorem A9 (b:Str->Bool):∀(zs:List Str) (i:Nat)(z:Str),(∀x∈zs.take i,b x=true)->zs[i]?=some z->¬b z=true->uw b zs=i+1
 | y::r,0,z,_,e,n=>by
  cases e;unfold uw;rw [ax n]
 | y::r,i+1,z,h,e,n=>by
  unfold uw;rw [aw (h y (by rw [rR];exact bQ)),A9 b r i z (λx hx=>h x (by rw [rR];exact cu _ hx)) e n]
theorem A8 (b:Str->Bool):∀zs:List Str,uw b zs<=zs.length
 | []=>aK _
 | z::r=>by
  have:=A8 b r;unfold uw;rw [dG]
  split <;> omega
def cnt (n:Nat):List V:=(List.range n).map λk:Nat=>V.int (k:Int)
end M11
namespace ig
open PySem L2 M11
section
def BO (K:a0):Sp:=λvs H Q _=>∃(R:Addr)(rs:List Addr)(aa:List au),vs=[.ref R]/\aI K H R (rs.map V.ref)/\bT K H rs aa/\aa.length<=1000/\(∀ru∈aa,ru.2.length<=8)/\(aa.flatMap (·.2)).Nodup /\
 ∀H',aE H H'->Q .gb H'
def oq:aN ["strengths","met","way","words","word"] ["strengths"] (aA Af):=je rfl rfl rfl rfl nofun
def FT (F:iG K "refuse_twice" "refuse_twice" Af f fd)(T:Txt mg):bR P w K mg base fK 1 f fd ["strengths"] (BO K):=by
 refine F.ok oq (λvs H Q E h=>?_) (λeJ A outer s H vs Q E hr h=>?_)
 .obtain⟨R,rs,aa,rfl,_⟩:=h;rfl
 obtain⟨R,rs,aa,rfl,hR,cY,bM,h8,Ud,q⟩:=h;have hu:=ff hr;refine⟨_,ai (aC (i:=1) oq.nd rfl (a_ rfl) fu)
  (ao (bD b8 rfl (aP (pv 0)) (ft rfl (az (aq (i:=2) oq.nd rfl (a_ rfl)) (az (aq (i:=3) oq.nd rfl (a_ rfl)) bz)))
   (ao (bD b8 rfl (d7 (pv 3)) (aq (i:=4) oq.nd rfl (a_ rfl))
    (ai (cy (f_ (jY hu (pv 4) (pv 1))) (ao iT) aZ) (ao (gB hu (pv 1) (pv 4) gq rfl))))))),?_⟩
 nofun
 intro e he;have B2:∀o,aE H (upd H e o):=λo=>af he o;have ll:=bI cY
 let xR:rB:=λi σ H5=>∃(kvs:List (aM×V))(y3 y4 y5:Option V),σ=[aF R,aF e,y3,y4,y5]/\H5=upd H e (.dK kvs) /\
  kvs.map (·.1)=((aa.take i).flatMap (·.2)).map Sum.inr
 refine⟨_,rfl,R,rfl,⟨_,(B2 _).seq hR⟩,bZ (xs:=rs.map V.ref) xR ⟨[],none,none,none,rfl,rfl,rfl⟩ ?_ ?_ ?_⟩
 .rintro i σ H5 _ ⟨kvs,y3,y4,y5,rfl,rfl,_⟩;exact(B2 _).seq hR
 .rintro i x σ H5 ex ⟨kvs,y3,y4,y5,rfl,rfl,hk⟩
  ac_nf0
  rw [bf] at ex;obtain⟨r,er,rfl⟩:=b_.mp ex;obtain⟨ru,e1,p,v1,v2⟩:=cY.get er;have li:=(bh.mp e1).1;have NY:=h8 ru (cA e1);have eT:(aa.take (i+1)).flatMap (·.2)=(aa.take i).flatMap (·.2)++ru.2:=by
   rw [cQ,e1,List.flatMap_append];simp
  have lA:((aa.take i).flatMap (·.2)).length<=8 * i:=jK (aa.take i) i (by rw [d0];omega) λru fZ=>h8 ru (rE fZ);have vc:((aa.take i).flatMap (·.2)++ru.2).Nodup:=by
   have e2:aa.flatMap (·.2)=((aa.take i).flatMap (·.2)++ru.2)++(aa.drop (i+1)).flatMap (·.2):=by
    rw [<-eT,<-List.flatMap_append,List.take_append_drop]
   rw [e2] at Ud;exact(jv.mp Ud).1
  refine⟨r,_,rfl,(B2 _).tup v1,rfl,_,_,rfl,_,_,rfl,rfl,?_⟩
  let Ed:rB:=λj σ H6=>∃(kvs:List (aM×V))(y5:Option V),σ=[aF R,aF e,some (.str ru.1),aF p,y5]/\H6=upd H e (.dK kvs) /\
   kvs.map (·.1)=((aa.take i).flatMap (·.2)++ru.2.take j).map Sum.inr
  refine⟨_,rfl,p,rfl,⟨_,(B2 _).tup v2⟩,xy (xs:=ru.2.map V.str) Ed ⟨kvs,_,rfl,rfl,by rw [List.take_zero,gH];exact hk⟩ ?_ ?_ ?_⟩
  .rintro j σ H6 _ ⟨kvs,y5,rfl,rfl,_⟩;exact(B2 _).tup v2
  .rintro j x σ H6 jM ⟨kvs,y5,rfl,rfl,A0⟩
   ac_nf0
   rw [bf] at jM;obtain⟨z,ez,rfl⟩:=b_.mp jM;have lj:=(bh.mp ez).1;have eS:ru.2.take (j+1)=ru.2.take j++[z]:=by rw [cQ,ez];rfl
   have lk:kvs.length<=8 * i+8:=by
    have h1:=congrArg List.length A0;rw [ar,ar,bB,d0] at h1;omega
   have nz:z∉(aa.take i).flatMap (·.2)++ru.2.take j:=λhz=>by
    have e3:(aa.take i).flatMap (·.2)++ru.2=((aa.take i).flatMap (·.2)++ru.2.take j)++([z]++ru.2.drop (j+1)):=by
     rw [kn,<-kn (ru.2.take j),<-eS,List.take_append_drop]
    rw [e3] at vc;exact(jv.mp vc).2.2 z hz z (by simp) rfl
   have nk:¬(Sum.inr z:aM)∈kvs.map (·.1):=by rw [A0];exact λh=>nz (c_.mp h)
   refine⟨_,rfl,_,rfl,e,_,rfl,cD.k (k:=Sum.inr z) ae,_,rfl,?_⟩;refine cx (λc=>absurd ((eZ kvs _).mp c) nk) (λ_=>?_);refine⟨_,rfl,_,rfl,e,_,rfl,lK.k (k:=Sum.inr z) ae (bq ∅),?_⟩;refine⟨bX kvs (Sum.inr z) (.bl true),_,rfl,by rw [n6],?_⟩;rw [ja nk,A0,eS,<-kn];simp only [br,cH,mH]
  rintro σ H6 ⟨kvs,y5,rfl,rfl,A0⟩;rw [ar,cC,<-eT] at A0;exact⟨kvs,_,_,_,rfl,rfl,A0⟩
 rintro σ H5 ⟨kvs,y3,y4,y5,rfl,rfl,hk⟩;exact q _ (B2 _)
def yf (K:a0):Sp:=λvs H Q _=>∃(p d:Addr) (zs:List Str)(kvs:List (aM×V)),vs=[.ref p,.ref d]/\aT K H p (zs.map V.str)/\zs.length<=1000/\H d=some (.dK kvs) /\
 ∀D H',H D=none->aE H H'->H' D=some (.lst (cnt (uw (λz=>(bj kvs (Sum.inr z)).isSome) zs)))->Q (.ref D) H'
def iq:aN ["parts","empty","places","place","part"] ["parts","empty"] (aA qX):=je rfl rfl rfl rfl nofun
def C5 (F:iG K "first_places" "first_places" qX f fd)(T:Txt mg):bR P w K mg base fK 1 f fd ["parts","empty"] (yf K):=by
 refine F.ok iq (λvs H Q E h=>?_) (λeJ A outer s H vs Q E hr h=>?_)
 .obtain⟨p,d,zs,kvs,rfl,_⟩:=h;rfl
 obtain⟨p,d,zs,kvs,rfl,hp,hz,hd,q⟩:=h;have hu:=ff hr;refine⟨_,ai (aC (i:=2) iq.nd rfl (a_ rfl) (bJ aj))
  (ai (bD b8 rfl (oA rfl T.Iu (ab (pv 0) aj)) (ft rfl (az (aq (i:=3) iq.nd rfl (a_ rfl)) (az (aq (i:=4) iq.nd rfl (a_ rfl)) bz)))
   (ai (cv (fY fU fV fX bA (pv 2) (ab (pv 3) aj)))
   (ao (cy (f_ (dW hu (pv 4) (pv 1))) (ao yq) aZ))))
  (ao (bC (pv 2)))),?_⟩
 nofun
 refine⟨uo,λD hD=>?_⟩;have up1:∀n,cnt n++[V.int (n:Int)]=cnt (n+1):=λn=>by
  unfold cnt;rw [List.range_succ,br];rfl
 refine⟨_,rfl,p,_,rfl,(af hD _).tup hp,?_⟩
 let OI:rB:=λi σ H5=>∃(y3 y4:Option V),σ=[aF p,aF d,aF D,y3,y4]/\aE H H5/\H5 D=some (.lst (cnt i))/\∀z∈zs.take i,(bj kvs (Sum.inr z)).isSome=true
 refine qd (xs:=zs.map V.str) OI
  ⟨none,none,rfl,af hD _,ae,by simp⟩ ?_ ?_ ?_
 .rintro i σ H5 _ ⟨y3,y4,rfl,sm,_⟩;exact sm.tup hp
 .rintro i x σ H5 t ex ⟨y3,y4,rfl,sm,G5,j9⟩ ht
  ac_nf0
  rw [bf] at ex;obtain⟨z,ez,rfl⟩:=b_.mp ex;have li:=(bh.mp ez).1;have uu:=sm.trans (af ht (.tup [.int (i:Int),.str z]));have jI:upd H5 t (.tup [.int (i:Int),.str z]) D=some (.lst (cnt i)):=by rw [ak (aB G5 ht)];exact G5
  have hv:aT K (upd H5 t (.tup [.int (i:Int),.str z])) t [.int (i:Int),.str z]:=aT.of ae;generalize upd H5 t (.tup [.int (i:Int),.str z])=H6 at uu jI hv;have Ia:aE H (upd H6 D (.lst (cnt i++[V.int (i:Int)]))):=λb o hb=>by
   rw [ak (λz=>by rw [z,hD] at hb;cases hb)];exact uu b o hb
  refine⟨t,_,rfl,hv,rfl,_,_,rfl,_,_,rfl,rfl,?_⟩;refine⟨_,rfl,.inl ⟨rfl,_,aI.of jI⟩,_,rfl,D,_,_,rfl,rfl,jI,bq (by unfold cnt;rw [ar,nQ];omega),?_⟩;refine⟨_,rfl,_,rfl,d,_,rfl,cD.k (k:=Sum.inr z) (Ia _ _ hd),_,rfl,?_⟩;refine cx (λc=>?_) (λc=>?_)
  .refine⟨_,rfl,q D _ hD Ia ?_⟩;rw [ae,up1,A9 _ zs i z j9 ez (λh=>by rw [h] at c;exact absurd c nofun)]
  refine⟨_,_,rfl,Ia,by rw [ae,up1],λx hx=>?_⟩;rw [cQ,ez] at hx;rcases bY.mp hx with h | h
  .exact j9 x h
  rw [Option.toList_some,cg] at h;subst h;cases hq:(bj kvs (Sum.inr x)).isSome with
  | true=>rfl
  | false=>exact absurd (by rw [hq];rfl) c
 rintro σ H5 ⟨y3,y4,rfl,sm,G5,j9⟩;rw [ar] at G5 j9;rw [cC] at j9;exact⟨_,rfl,q D _ hD sm (by rw [xx _ zs j9];exact G5)⟩
end
end ig
namespace L2
open PySem
section
variable {prog:Program}{w:World}{K:Type} [DecidableEq K] {knd:KeyKind prog w K}{A:Around}{E:Value->Shared->Prop}
def uF {s:Shared}{d l:Addr}{items:Array Value}{n:Nat}{kvs more:List (K×Value)}{Q:Value->Shared->Prop}(hh:A.handled=none)(vo:s.heap.DictOf knd d kvs)(hx:s.heap.get? l=some { cls:=.type "list",data:=.seq items n })
  (hi:items.size=more.length)(hp:∀(m:Nat) kv,more[m]?=some kv->∃u,items[m]?=some u/\nK knd s.heap u kv)(hz:kvs.length+more.length<=sizeLine)
  (h:∀h' t',h'.DictOf knd d (more.foldl (λa p=>stored a p.1 p.2) kvs)->(∀b o,b≠d->s.heap.get? b=some o->h'.get? b=some o)->Q .none { s with heap:=h',toks:=t' }) :
  wpAny (model prog w) A (call (.builtin "dict.update") [.ref d,.ref l]) Q E s:=by
 refine kQ (vZ zV.plain PySem.F.entry_dict_update (zV.check _ _ _ _ _ _ _ _ vo.typeIs (PySem.F.args_dict_update_2 _ _) ?_));unfold Builtin.«dict.update»;refine ay ?_;unfold Builtin.Dict.selfAndRest;refine ay (wpAny_notOrdered_dict vo.typeIs ?_);show wpAny _ _ (pure (d,[Value.ref l])) _ _ s;refine aD ?_;show wpAny _ _ (Builtin.Dict.updateFrom "dict.update" d (.ref l) [] .none) _ _ s;unfold Builtin.Dict.updateFrom;refine ay (iP (T := "list") ⟨_,hx,rfl⟩ ?_);rw [aw z6];refine ay (pX hx hh λh1 t1 k1=>?_);refine ay (iw ?_);have l1:=k1 _ _ hx;refine ay (mN ⟨_,l1,rfl,_,rfl⟩ ?_);have k2:∀b o,s.heap.get? b=some o->(h1.push { cls:=.type "list_iterator",data:=.fields #[.ref l,.int 0 0] }).get? b=some o:=λb o q=>bW _ (k1 _ _ q);refine aD ⟨jj fM _,Hj (knd:=knd) (A:=A) (l:=l) (items:=items) hh more 0 _ kvs _ _ (by rw [hi,o6]) ?_ ⟨_,cJ _ rfl,rfl,rfl⟩ ⟨_,k2 _ _ hx,rfl,n,rfl⟩ (λm kv e=>?_) hz λh' t' hd k3=>?_⟩
 .obtain⟨o,es,ep,q,r⟩:=vo;exact⟨o,es,ep,k2 _ _ q,r⟩
 .obtain⟨u,e1,e2⟩:=hp m kv e;exact⟨u,by rw [o6];exact e1,e2.keep λb o _ q=>k2 b o q⟩
 exact h h' t' hd λb o n q=>k3 b o n (bE (bo (k1 _ _ q))) (k2 b o q)
end
section
variable {X:Cx}{o e:Expr}{apos iu:Pos}{td ty:TE}
def Qd (K:a0)(td ty:TE):TE:=λσ H Q=>td σ H λx H1=>∃a,x=.ref a/\U0 H1 a/\ty σ H1 λy H2=>∃l ts kvs more,y=.ref l/\H2 a=some (.dK kvs)/\H2 l=some (.lst (ts.map V.ref)) /\
 Paired (λt kv=>aT K H2 t [kV kv.1,kv.2]) ts more/\kvs.length+more.length<=sizeLine/\Q .gb (upd H2 a (.dK (cZ more kvs)))
def Jf (hc:X.calm=true)(ho:PE X o td)(he:PE X e ty)(m:M1 X o "update" apos e iu):PE X (.Call (.Attribute o "update" apos) [e] [] iu) (Qd X.K td ty):=by
 intro ag s σ H Q I h;refine wpAny_Call_method m.base m.oY m.line zS zV PySem.F.type_dict_update (df (ho ag s σ H _ I h) λu s1 bL=>?_);obtain⟨x,H1,I1,rx,a,ex,d,q1⟩:=bL;subst ex;obtain rfl:u=Value.ref a:=rx;obtain⟨t1,t2,_⟩:=AW I1 d;refine⟨t1,t2,?_⟩;rw [m.trees];refine wa rfl (vY (qk (df (he ag s1 σ H1 _ I1 q1) λiv s2 bL=>?_)));obtain⟨y,H2,I2,ry,l,ts,kvs,more,ey,ea,el,p,hz,q2⟩:=bL;refine ph ?_;subst ey;cases (show iv=Value.ref l from ry);obtain⟨z,qJ,vs,rel,dd⟩:=vF I2.cw ea;obtain⟨z2,aU,n,rv,hl⟩:=(show cK X.prog X.w H2 s2.heap l (.lst _) from I2.cw l _ el);obtain⟨ms,r1,r2⟩:=pairs_at I2 p rv;have l1:=bI r2;have l2:=r1.length;have l3:=bI p;refine uF (I2.ok.hd hc) dd hl (by simpa using l1) (λm kv em=>?_) (by rw [<-rel.length,<-l2];exact hz) λh' t' hd kk=>?_
 .obtain⟨u,e1,e2⟩:=Paired.at_ r2 m kv em;exact⟨u,by simpa using e1,e2⟩
 have hn:(cZ more kvs).length<=sizeLine:=eK (tO more kvs) hz;have he:∃q,h'.get? a=some q:=let ⟨q,_,_,hq,_⟩:=hd;⟨q,hq⟩;exact⟨.gb,_,I2.write (x:=a) (e:=a) (by rw [ea];exact True.intro) (.inl rfl) (λb q hb z=>kk b q hb z) he (tU hn qJ (tN r1 rel) hd),rfl,q2⟩
def vK {X:Cx}:gN X (.builtin "len") (λxs H Q=>∃a kvs,xs=[.ref a]/\H a=some (.dK kvs)/\Q (.int kvs.length) H):=by
 intro ag s σ H xs us Q I r h;obtain⟨a,kvs,rfl,e,q⟩:=h;obtain⟨u,rfl,rx⟩:=vals1 r;cases (show u=Value.ref a from rx);exact SE I (.inl e) λt s' I'=>⟨.int _,H,I',⟨_,rfl⟩,q⟩
end
theorem yM:∀{us:List Value}{ns:List Int},PyProof.Rows.IntsAre us ns->∀ys:List (Int×Tok),us=ys.map (λp=>Value.int p.1 p.2)->ys.map (·.1)=ns
 | _,_,.nil,ys,e=>by
  cases ys with
  | nil=>rfl
  | cons _ _=>cases e
 | _,_,.cons n t h,ys,e=>by
  cases ys with
  | nil=>cases e
  | cons y r =>
   rw [cH] at e;injection e with e1 e2;injection e1 with e3 e4;rw [cH,yM h r e2,e3]
def lX {X:Cx}(hc:X.calm=true):gN X (.builtin "sum") (λxs H Q=>∃a ns,xs=[.ref a]/\aI X.K H a (List.map V.int ns)/\Q (.int ns.sum) H):=by
 intro ag s σ H xs us Q I r h;obtain⟨a,ns,rfl,hq,q⟩:=h;obtain⟨u,rfl,rx⟩:=vals1 r;cases rx;obtain⟨aU,rv,pl,hz⟩:=I.list hq;have hi:=intsAre_of rv;have j9:AllInts aU.toArray:=hi.allInts;obtain⟨xs,e⟩:=j9.items;have hl:=pl.isList;rw [e] at hl;refine sum_intListG (I.ok.hd hc) hl λh' tk t' hk=>⟨.int _,H,I.kept hk,⟨_,rfl⟩,?_⟩;have e5:xs.toList.map (·.1)=ns:=yM hi xs.toList (by
  have:=congrArg Array.toList e;simpa [intItems] using this)
 have e6:preSum (numAt xs) xs.size=ns.sum:=by
  rw [preSum_eq,e5,uL (by rw [<-e5];simp)]
 rw [e6];exact q
def zc {K:a0}{H:Hp}{p D:Addr}{zs:List Str}{σ:St}{v:V}{x:Str}{Qp:Hp->Prop}(hp:aT K H p (zs.map V.str))(hz:zs.length<=1000)(hD:H D=none)
  (q:∀ts H2,aE H H2->H2 D=some (.lst (ts.map V.ref))->Paired (λt h=>aT K H2 t [.str h,v]) ts zs->Qp H2) :
  ∃W:Nat->Nat->List V->St->Hp->Prop,(∃m,W 0 m [] (dN [x] [] σ) (upd H D (.lst []))) /\
 ∀i m ys σ' H,W i m ys σ' H->((oV K p).stop i H/\Qp H)\/((oV K p).go i H/\∃m',m' < m/\∀x H',(oV K p).mT i H x H'->di 0 x σ' H' λσ2 H2=>hV σ2 H2 λb H3 =>
  if b=true then uz (gU (gO 0) (gU (tC v) sf)) σ2 H3 λy H4=>H4 D=some (.lst ys)/\ys.length < sizeLine/\W (i+1) m' (ys++[y]) σ2 (upd H4 D (.lst (ys++[y]))) else W (i+1) m' ys σ2 H3):=by
 refine gM (xs:=zs.map V.str) (λi ys σ2 H2=>∃ts:List Addr,ys=ts.map V.ref/\ts.length=i/\Paired (λt h=>aT K H2 t [.str h,v]) ts (zs.take i)/\(∃y0,σ2=[y0])/\aE H H2/\H2 D=some (.lst ys))
  ⟨[],rfl,rfl,.nil,⟨none,rfl⟩,af hD _,ae⟩ (λi ys σ2 H2 _ h=>?_) (λi x ys σ2 H2 ex h=>?_) (λys σ2 H2 h=>?_)
 .obtain⟨_,_,_,_,_,sm,_⟩:=h;exact sm.tup hp
 .obtain⟨ts,rfl,ht,j7,⟨y0,rfl⟩,sm,hd⟩:=h;rw [bf] at ex;obtain⟨z,ez,rfl⟩:=b_.mp ex;have li:=(bh.mp ez).1;refine goN (yS ?_);refine⟨_,rfl,mj,λt jq=>⟨?_,bq (by rw [ar];omega),ts++[t],?_,?_,?_,⟨_,rfl⟩,?_,ae⟩⟩
  .rw [ak (aB hd jq)];exact hd
  .rw [br];rfl
  .rw [bB,ht];rfl
  .rw [cQ,ez];have jn:upd H2 t (.tup [.str z,v]) D=some (.lst (ts.map V.ref)):=by rw [ak (aB hd jq)];exact hd
   exact gR (Paired.dY j7 λt' h' z=>aY jn ((af jq _).tup z)) (aY jn (aT.of ae))
  intro b o hb;rw [ak (λz=>by rw [z,hD] at hb;cases hb)];exact af jq _ _ _ (sm b o hb)
 obtain⟨ts,rfl,ht,j7,_,sm,hd⟩:=h;rw [ar,cC] at j7;exact q ts H2 sm hd j7
end L2
namespace M11
open PySem L2
def i5 (a:List Str)(h x:Str):x∈gG a h↔x∈a\/x=h:=by
 unfold gG;split
 .constructor
  .exact .inl
  rintro(z | rfl) <;> assumption
 simp
def oS {a:List Str}(h:Str)(n:a.Nodup):(gG a h).Nodup:=by
 unfold gG;split
 .exact n
 rename_i q
 refine jv.mpr ⟨n,by simp,λx hx y hy=>?_⟩;rw [cg.mp hy];exact λz=>q (z ▸ hx)
def CD (a:List Str)(h:Str):a.length<=(gG a h).length:=by
 unfold gG;split <;> simp
def Km {a:List Str}{h:Str}(e:(gG a h).length=a.length):gG a h=a:=by
 unfold gG at e ⊢;split
 .rfl
 rename_i q
 rw [ax q,bB] at e;simp at e
theorem ik:∀(hs bS:List Str)(x:Str),x∈xF bS hs↔x∈bS\/x∈hs
 | [],bS,x=>by simp [xF]
 | h::r,bS,x=>by
  show x∈xF (gG bS h) r↔_;rw [ik r,i5,bO,or_assoc]
theorem qf:∀(hs:List Str){bS:List Str},bS.Nodup->(xF bS hs).Nodup
 | [],_,n=>n
 | h::r,_,n=>qf r (oS h n)
theorem Bh:∀(hs bS:List Str),bS.length<=(xF bS hs).length
 | [],_=>aK _
 | h::r,bS=>eK (CD bS h) (Bh r _)
theorem Hk:∀(hs bS:List Str),(xF bS hs).length=bS.length->xF bS hs=bS
 | [],_,_=>rfl
 | h::r,bS,e=>by
  have h1:=CD bS h;have h2:=Bh r (gG bS h);have e':(xF (gG bS h) r).length=bS.length:=e;show xF (gG bS h) r=bS;rw [Hk r _ ∅];exact Km ∅
inductive OE (aa:List au)(s:Str):Str->Prop
 | start:OE aa s s
 | step {ru:au}{x:Str}:OE aa s ru.1->ru∈aa->x∈ru.2->OE aa s x
def Ec (aa:List au) (n:Nat) (ms:List Str):Prop:=∀ru∈aa.take n,ru.1∈ms->∀x∈ru.2,x∈ms
def OE.among {aa:List au}{s x:Str}(h:OE aa s x):x∈s::aa.flatMap (·.2):=by
 cases h with
 | start=>exact bQ
 | step _ h1 h2=>exact cu _ (mh.mpr ⟨_,h1,h2⟩)
end M11
namespace ig
open PySem L2 M11
section
def KC (K:a0):Sp:=λvs H Q _=>∃(R:Addr)(rs:List Addr)(aa:List au)(hX:au),vs=[.ref R]/\aI K H R (rs.map V.ref)/\bT K H rs aa/\aa[0]?=some hX/\aa.length<=1000/\(∀ru∈aa,ru.2.length<=8) /\
 ∀d kvs ms H',H d=none->aE H H'->H' d=some (.dK kvs)->kvs.map (·.1)=ms.map Sum.inr->hX.1∈ms->(∀x∈ms,OE aa hX.1 x)->Ec aa aa.length ms->Q (.ref d) H'
def uX:aN ["rules","met","many","head","parts"] ["rules"] (aA Mv):=je rfl rfl rfl rfl nofun
structure PB (K:a0)(aa:List au)(s0:Str)(H H5:Hp)(d:Addr) (ms:List Str)(kvs:List (aM×V)):Prop where
 sm:aE H H5
 hd:H5 d=some (.dK kvs)
 keys:kvs.map (·.1)=ms.map Sum.inr
 nd:ms.Nodup
 st:s0∈ms
 TV:∀x∈ms,OE aa s0 x
def PB.len {aa:List au}{s0:Str}{H H5:Hp}{d:Addr}{ms:List Str}{kvs:List (aM×V)}(h:PB K aa s0 H H5 d ms kvs)(hl:aa.length<=1000)(h8:∀ru∈aa,ru.2.length<=8):kvs.length=ms.length/\ms.length<=8001:=by
 refine⟨?_,?_⟩
 .have:=congrArg List.length h.keys;simpa using this
 have h1:=gK ms _ h.nd λx hx=>(h.TV x hx).among;have h2:=jK aa 1000 hl h8;rw [dG] at h1;omega
def M7 (F:iG K "names_met" "names_met" Mv f fd)(T:Txt mg):bR P w K mg base fK 1 f fd ["rules"] (KC K):=by
 refine F.ok uX (λvs H Q E h=>?_) (λeJ A outer s H vs Q E hr h=>?_)
 .obtain⟨R,rs,aa,hX,rfl,_⟩:=h;rfl
 obtain⟨R,rs,aa,hX,rfl,hR,cY,O5,bM,h8,q⟩:=h;have hu:=ff hr;refine⟨_,ai (aC (i:=1) uX.nd rfl (a_ rfl) (Jg (FD (b9 cN (b9 cX (pv 0) av (λ_ _=>rfl)) av (λ_ _=>rfl)) gq Jb) rfl rfl (by simp) (show 1<=15 by decide)))
  (ai (aC (i:=2) uX.nd rfl (a_ rfl) av)
  (ai (jB b8 (bu qv (pv 2) (aR vK rfl T.len gT (ab (pv 1) aj)) (cM _))
   (ai (aC (i:=2) uX.nd rfl (a_ rfl) (aR vK rfl T.len gT (ab (pv 1) aj)))
   (ao (bD b8 rfl (aP (pv 0)) (ft rfl (az (aq (i:=3) uX.nd rfl (a_ rfl)) (az (aq (i:=4) uX.nd rfl (a_ rfl)) bz)))
    (ao (cy (f_ (jY hu (pv 3) (pv 1)))
     (ao (cv (Jf rfl (pv 1) (aV ["part"] [] rfl (d7 (pv 4)) (aS rfl rfl) nofun rfl nofun
       (λ_ _ _ _ _=>aq (i:=0) (show (["part"]:List Str).Nodup by decide +kernel) rfl (a_ rfl)) (λ_ _ _ _ _=>bF) (λ_ _ _ _ _=>bU (ab (pv 0) (ab gq aj)))) ⟨rfl,rfl,rfl,rfl⟩))) aZ))))))
  (ao (bC (pv 1))))),?_⟩
 nofun
 intro d hd;have ll:=bI cY;have l0:=(bh.mp O5).1;obtain⟨r0,er0⟩:∃r,rs[0]?=some r:=⟨rs[0]'∅,cT ∅⟩;obtain⟨aab,e0,p0,w1,w2⟩:=cY.get er0;rw [O5] at e0;cases e0;have Zm:=af hd (.dK []);refine⟨_,rfl,R,_,_,.ref r0,rfl,rfl,Zm.seq hR,?_,r0,_,_,_,rfl,rfl,Zm.tup w1,rfl,?_⟩
 .have e7:(rs.map V.ref)[0]?=some (.ref r0):=by rw [bf,er0];rfl
  exact dO (j:=0) e7
 refine⟨ae,[((Sum.inr hX.1:aM),.bl true)],rfl,(by show 1<=15;decide),?_⟩;have S0:PB K aa hX.1 H (upd (upd H d (.dK [])) d (.dK (ng [] [((Sum.inr hX.1:aM),.bl true)]))) d [hX.1] [((Sum.inr hX.1:aM),.bl true)]:=by
  rw [n6];exact⟨af hd _,ae,rfl,by simp,by simp,λx hx=>by rw [cg.mp hx];exact .start⟩
 generalize upd (upd H d (.dK [])) d (.dK (ng [] [((Sum.inr hX.1:aM),.bl true)]))=H0 at S0;refine⟨λm σ H5=>∃(ms:List Str)(kvs:List (aM×V)) (many:Int)(y3 y4:Option V),σ=[aF R,aF d,some (.int many),y3,y4]/\PB K aa hX.1 H H5 d ms kvs/\0<=many/\many<=ms.length/\(many=ms.length->Ec aa aa.length ms)/\(m:Int)=8002 - many,
  ⟨8002,[hX.1],_,0,none,none,rfl,S0,∅,by simp,by simp,∅⟩,?_⟩
 rintro m σ H5 ⟨ms,kvs,many,y3,y4,rfl,S,b1,b2,cl,em⟩;obtain⟨lk,lm⟩:=S.len bM h8;refine⟨_,rfl,_,rfl,d,_,rfl,S.hd,_,_,rfl,rfl,_,rfl,?_⟩;refine cx (λc=>?_) (λc=>?_)
 .have c':=cI c;rw [lk] at c';refine⟨λσ H5=>∃(q0:List Str)(fg:List (aM×V))(y3 y4:Option V),σ=[aF R,aF d,some (.int (ms.length:Int)),y3,y4]/\PB K aa hX.1 H H5 d q0 fg/\ms.length<=q0.length/\(q0.length=ms.length->Ec aa aa.length q0),?_,?_⟩
  .rintro σ H6 ⟨q0,fg,y3,y4,rfl,S2,l2,c2⟩;exact⟨(8002 - ms.length:Int).toNat,∅,q0,fg,_,_,_,rfl,S2,∅,∅,λz=>c2 ∅,∅⟩
  refine⟨_,rfl,d,_,rfl,S.hd,?_⟩;rw [lk];refine⟨_,rfl,R,rfl,⟨_,S.sm.seq hR⟩,?_⟩;refine bZ (xs:=rs.map V.ref) (λi σ H6=>∃(q0:List Str)(fg:List (aM×V))(y3 y4:Option V),σ=[aF R,aF d,some (.int (ms.length:Int)),y3,y4]/\PB K aa hX.1 H H6 d q0 fg/\ms.length<=q0.length/\(q0.length=ms.length->Ec aa i q0))
   ⟨ms,kvs,_,_,rfl,S,aK _,λ_ ru fZ=>by simp at fZ⟩ ?_ ?_ ?_
  .rintro i σ H6 _ ⟨q0,fg,y3,y4,rfl,S2,_⟩;exact S2.sm.seq hR
  .rintro i x σ H6 ex ⟨q0,fg,y3,y4,rfl,S2,l2,c2⟩
   ac_nf0
   rw [bf] at ex;obtain⟨r,er,rfl⟩:=b_.mp ex;obtain⟨ru,e1,p,v1,v2⟩:=cY.get er;have NY:=h8 ru (cA e1);have tk:aa.take (i+1)=aa.take i++[ru]:=by rw [cQ,e1];rfl
   obtain⟨T7,lm2⟩:=S2.len bM h8;have mem:(bj fg (Sum.inr ru.1)).isSome=true↔ru.1∈q0:=by rw [eZ,S2.keys];exact c_
   refine⟨r,_,rfl,S2.sm.tup v1,rfl,_,_,rfl,_,_,rfl,rfl,?_⟩;refine⟨_,rfl,_,rfl,d,_,rfl,cD.k (k:=Sum.inr ru.1) S2.hd,_,rfl,?_⟩;refine cx (λc3=>?_) (λc3=>?_)
   .have im:=mem.mp c3;refine⟨_,rfl,d,rfl,.inl ⟨_,.inl S2.hd⟩,_,rfl,p,rfl,⟨_,S2.sm.tup v2⟩,λD2 jI=>zc (S2.sm.tup v2) ∅ jI λts H8 OQ RV hp8=>?_⟩;have kp:Paired (λt (kv:aM×V)=>aT K H8 t [kV kv.1,kv.2]) ts (ru.2.map λh=>((Sum.inr h:aM),V.bl true)):=cV hp8 λ_ _ z=>z;refine⟨D2,ts,fg,_,rfl,OQ _ _ S2.hd,RV,kp,fits (by rw [ar];omega),?_⟩;have aan:=Bh ru.2 q0;refine⟨xF q0 ru.2,cZ (ru.2.map λh=>((Sum.inr h:aM),V.bl true)) fg,_,_,rfl,⟨λb o hb=>?_,ae,oF ru.2 fg q0 S2.keys,qf ru.2 S2.nd,(ik ru.2 q0 _).mpr (.inl S2.st),λx hx=>?_⟩,∅,λz Ar tu hh=>?_⟩
    .rw [ak (λz=>by rw [z,hd] at hb;cases hb)];exact OQ _ _ (S2.sm b o hb)
    .rcases (ik ru.2 q0 x).mp hx with h | h
     .exact S2.TV x h
     exact .step (S2.TV _ im) (cA e1) h
    have e9:=Hk ru.2 q0 ∅;rw [e9] at hh ⊢;rw [tk] at tu;rcases bY.mp tu with h | h
    .exact c2 ∅ Ar h hh
    rw [cg.mp h];intro x hx;rw [<-e9];exact(ik ru.2 q0 x).mpr (.inr hx)
   refine⟨q0,fg,_,_,rfl,S2,l2,λz Ar tu hh=>?_⟩;rw [tk] at tu;rcases bY.mp tu with h | h
   .exact c2 z Ar h hh
   rw [cg.mp h] at hh;exact absurd (mem.mpr hh) c3
  rintro σ H6 ⟨q0,fg,y3,y4,rfl,S2,l2,c2⟩;rw [ar,ll] at c2;exact⟨q0,fg,_,_,rfl,S2,l2,c2⟩
 have c':=of_decide_eq_false (rP.mpr c);rw [lk] at c';exact⟨_,rfl,q d kvs ms H5 hd S.sm S.hd S.keys S.st S.TV (cl ∅)⟩
end
end ig
namespace M11
open PySem L2
abbrev G:=Str->Option Int
def dw (g:G)(h:Str) (n:Int):G:=λz=>if z=h then some n else g z
def aH (g:G)(ru:au):Int:=1+(ru.2.map λp=>(g p).getD 0).sum
def kx (g:G)(ru:au):Bool:=ru.2.all λp=>(g p).isSome
def cO (bt:Int->Int->Bool)(g:G)(ru:au):Bool:=kx g ru && (!(g ru.1).isSome || bt (aH g ru) ((g ru.1).getD 0))
def sstep (bt:Int->Int->Bool)(a:G×Bool)(ru:au):G×Bool:=if cO bt a.1 ru=true then (dw a.1 ru.1 (aH a.1 ru),true) else a
def uA (bt:Int->Int->Bool)(aa:List au)(g:G):G×Bool:=aa.foldl (sstep bt) (g,false)
inductive dM (bt:Int->Int->Bool)(aa:List au):G->G->Prop
 | refl {g:G}:dM bt aa g g
 | step {g g1:G}{ru:au}:dM bt aa g g1->ru∈aa->cO bt g1 ru=true->dM bt aa g (dw g1 ru.1 (aH g1 ru))
def iF (bt:Int->Int->Bool)(aa:List au)(g:G):Prop:=∀ru∈aa,cO bt g ru=false
def qi (bt:Int->Int->Bool)(aa:List au):Nat->G->Prop
 | 0,g=>(uA bt aa g).2=false
 | n+1,g=>(uA bt aa g).2=false\/qi bt aa n (uA bt aa g).1
def dM.trans {bt:Int->Int->Bool}{aa:List au}{g g1 g2:G}(h:dM bt aa g g1)(k:dM bt aa g1 g2):dM bt aa g g2:=by
 induction k with
 | refl=>exact h
 | step _ a b ih=>exact .step ih a b
theorem tK (bt:Int->Int->Bool)(aa:List au):∀(l:List au)(a:G×Bool),(∀ru∈l,ru∈aa)->dM bt aa a.1 (l.foldl (sstep bt) a).1
 | [],a,_=>.refl
 | ru::l,a,h=>by
  have ih:=tK bt aa l (sstep bt a ru) λx hx=>h x (cu _ hx);refine dM.trans ?_ ih;unfold sstep;by_cases c:cO bt a.1 ru=true
  .rw [aw c];exact .step .refl (h ru bQ) c
  rw [ax c];exact .refl
theorem vv (bt:Int->Int->Bool):∀(l:List au)(a:G×Bool),a.2=true->(l.foldl (sstep bt) a).2=true
 | [],a,h=>h
 | ru::l,a,h=>by
  refine vv bt l (sstep bt a ru) ?_;unfold sstep
  split
  .rfl
  exact h
theorem tM (bt:Int->Int->Bool):∀(l:List au)(a:G×Bool),(l.foldl (sstep bt) a).2=false->(l.foldl (sstep bt) a).1=a.1/\∀ru∈l,cO bt a.1 ru=false
 | [],a,_=>⟨rfl,λ_ h=>nomatch h⟩
 | ru::l,a,h=>by
  by_cases c:cO bt a.1 ru=true
  .have e:sstep bt a ru=(dw a.1 ru.1 (aH a.1 ru),true):=aw c;have h':(l.foldl (sstep bt) (sstep bt a ru)).2=false:=h;rw [e,vv bt l _ rfl] at h';cases h'
  have e:sstep bt a ru=a:=ax c;have h':(l.foldl (sstep bt) (sstep bt a ru)).2=false:=h;rw [e] at h';obtain⟨i1,i2⟩:=tM bt l a h';refine⟨by rw [List.foldl_cons,e];exact i1,λAr hr=>?_⟩;rcases bO.mp hr with z | z
  .rw [z];exact rP.mpr c
  exact i2 Ar z
end M11
namespace L2
open PySem M11
def gA.tup {K:a0}{H H':Hp}{d a:Addr}{kvs:List (aM×V)}{xs:List V}(s:gA d H H')(hd:H d=some (.dK kvs))(h:aT K H a xs):aT K H' a xs:=by
 rcases h with (h | ⟨u,h⟩) | h
 .exact .inl (.inl (s _ _ (λz=>by rw [z,hd] at h;cases h) h))
 .exact .inl (.inr ⟨u,s _ _ (λz=>by rw [z,hd] at h;cases h) h⟩)
 exact .inr h
def gA.seq {K:a0}{H H':Hp}{d a:Addr}{kvs:List (aM×V)}{xs:List V}(s:gA d H H')(hd:H d=some (.dK kvs))(h:aI K H a xs):aI K H' a xs:=by
 rcases h with (h | ⟨u,h⟩) | h
 .exact .inl (.inl (s _ _ (λz=>by rw [z,hd] at h;cases h) h))
 .exact .inl (.inr ⟨u,s _ _ (λz=>by rw [z,hd] at h;cases h) h⟩)
 exact .inr h
def DO {K:a0}{H:Hp}{p D d:Addr}{zs:List Str}{kvs:List (aM×V)}{g:G}{σ:St}{js:List (Nat×Str)}{Qp:Hp->Prop}(hσ:dN ["part"] js σ=[none,aF d])(hp:aT K H p (zs.map V.str))(hz:zs.length<=1000)
  (hd:H d=some (.dK kvs))(hv:∀z,bj kvs (Sum.inr z)=(g z).map V.int)(ha:∀z∈zs,(g z).isSome=true)(hD:H D=none)(q:∀H2,aE H H2->H2 D=some (.lst ((zs.map λz=>(g z).getD 0).map V.int))->Qp H2) :
  ∃W:Nat->Nat->List V->St->Hp->Prop,(∃m,W 0 m [] (dN ["part"] js σ) (upd H D (.lst []))) /\
 ∀i m ys σ' H,W i m ys σ' H->((oV K p).stop i H/\Qp H)\/((oV K p).go i H/\∃m',m' < m/\∀x H',(oV K p).mT i H x H'->di 0 x σ' H' λσ2 H2=>hV σ2 H2 λb H3 =>
  if b=true then BD (gO 1) (gO 0) σ2 H3 λy H4=>H4 D=some (.lst ys)/\ys.length < sizeLine/\W (i+1) m' (ys++[y]) σ2 (upd H4 D (.lst (ys++[y]))) else W (i+1) m' ys σ2 H3):=by
 refine gM (xs:=zs.map V.str) (λi ys σ2 H2=>ys=(((zs.take i).map λz=>(g z).getD 0).map V.int)/\(∃y0,σ2=[y0,aF d])/\aE H H2/\H2 D=some (.lst ys))
  ⟨rfl,⟨none,hσ⟩,af hD _,ae⟩ (λi ys σ2 H2 _ h=>h.2.2.1.tup hp) (λi x ys σ2 H2 ex h=>?_) (λys σ2 H2 h=>?_)
 .obtain⟨rfl,⟨y0,rfl⟩,sm,hd2⟩:=h;rw [bf] at ex;obtain⟨z,ez,rfl⟩:=b_.mp ex;have li:=(bh.mp ez).1;obtain⟨n,en⟩:=nV.mp (ha z (cA ez));have hg:cD H2 d (.str z) (some (.int n)):=by
   have:=cD.k (k:=Sum.inr z) (sm _ _ hd);rw [hv,en] at this;exact this
  refine goN (yS ?_);refine⟨_,rfl,_,rfl,d,_,rfl,hg,hd2,bq (by rw [ar,ar,d0];omega),?_,⟨_,rfl⟩,?_,ae⟩
  .rw [cQ,ez,br,br];show _=_++[V.int ((g z).getD 0)];rw [en];rfl
  intro b o hb;rw [ak (λz=>by rw [z,hD] at hb;cases hb)];exact sm b o hb
 obtain⟨rfl,_,sm,hd2⟩:=h;rw [ar,cC] at hd2;exact q H2 sm hd2
end L2
namespace ig
open PySem L2 M11
section
def iQ (K:a0)(q:Str)(params:Arguments)(body:Expr)(scope:Scope)(bt:Int->Int->Bool):Sp:=λvs H Q _=>∃(R:Addr)(rs:List Addr)(aa:List au)(d fl c':Addr)(pm gQ:Value)(kvs:List (aM×V)) (ks:List Str)(g:G),
 vs=[.ref R,.ref d,.ref fl]/\aI K H R (rs.map V.ref)/\bT K H rs aa/\aa.length<=1000/\(∀ru∈aa,ru.2.length<=8)/\H d=some (.dK kvs)/\kvs.map (·.1)=ks.map Sum.inr/\ks.Nodup/\ks.length<=10000 /\
 (∀z,bj kvs (Sum.inr z)=(g z).map V.int)/\(∃n,qi bt aa n g)/\H fl=some (pV fl (PySem.W.kla_obj "<lambda>" q params body scope [] pm c' gQ))/\H c'=some (ku c' q) /\
 ∀(nj:List (aM×V)) (Q8:List Str)(g':G)(H':Hp),gA d H H'->H' d=some (.dK nj)->nj.map (·.1)=Q8.map Sum.inr->(∀z,bj nj (Sum.inr z)=(g' z).map V.int)->dM bt aa g g'->iF bt aa g'->nj.length<=20000->Q (.ref d) H'
def iR:aN ["rules","sizes","better","changed","head","parts","size"] ["rules","sizes","better"] (aA ou):=je rfl rfl rfl rfl nofun
structure xT (K:a0)(aa:List au) (Ig:List Str)(H H5:Hp)(d:Addr)(kvs:List (aM×V)) (ks:List Str)(g:G):Prop where
 sm:gA d H H5
 hd:H5 d=some (.dK kvs)
 keys:kvs.map (·.1)=ks.map Sum.inr
 nd:ks.Nodup
 sub:∀x∈ks,x∈Ig++aa.map (·.1)
 val:∀z,bj kvs (Sum.inr z)=(g z).map V.int
def xT.len {aa:List au}{Ig:List Str}{H H5:Hp}{d:Addr}{kvs:List (aM×V)}{ks:List Str}{g:G}(h:xT K aa Ig H H5 d kvs ks g):kvs.length<=Ig.length+aa.length:=by
 have h1:=congrArg List.length h.keys;have h2:=gK ks _ h.nd h.sub;rw [bB,ar] at h2;rw [ar,ar] at h1;omega
def xT.same {aa:List au}{Ig:List Str}{H H5 H6:Hp}{d:Addr}{kvs:List (aM×V)}{ks:List Str}{g:G}(h:xT K aa Ig H H5 d kvs ks g)(s:aE H5 H6):xT K aa Ig H H6 d kvs ks g :=
 ⟨λb o n e=>s _ _ (h.sm b o n e),s _ _ h.hd,h.keys,h.nd,h.sub,h.val⟩
def xT.put {aa:List au}{Ig:List Str}{H H5:Hp}{d:Addr}{kvs:List (aM×V)}{ks:List Str}{g:G}(h:xT K aa Ig H H5 d kvs ks g){ru:au}(hr:ru∈aa) (n:Int) :
  xT K aa Ig H (upd H5 d (.dK (bX kvs (Sum.inr ru.1) (.int n)))) d (bX kvs (Sum.inr ru.1) (.int n)) (gG ks ru.1) (dw g ru.1 n):=by
 refine⟨λb o nb e=>by rw [ak nb];exact h.sm b o nb e,ae,ir h.keys ru.1,oS ru.1 h.nd,λx hx=>?_,λz=>?_⟩
 .rcases (i5 ks ru.1 x).mp hx with z | z
  .exact h.sub x z
  rw [z];exact dD _ (iO hr)
 rw [rZ];unfold dw;by_cases c:z=ru.1
 .rw [aw c,aw (by rw [c])];rfl
 rw [ax c,ax (λe=>c (kR e)),h.val]
def vb (F:iG K "settled_sizes" "settled_sizes" ou f fd)(T:Txt mg){q:Str}{params:Arguments}{body:Expr}{scope:Scope}{bt:Int->Int->Bool}{te:TE}(S:aN ["size","known"] ["size","known"] scope)
  (oI:∀(pm gQ:Value)(c':Addr)(us:List Value),us.length=(["size","known"]:List Str).length->bindArgs (PySem.W.kla_fn "<lambda>" q params body scope [] pm (.ref c') gQ) ⟨us,[]⟩=pure ((["size","known"]:List Str).zip us))
  (jH:∀(f c':Addr)(A:Around)(outer:List Env)(s:Shared)(H:Hp),PE (qg fK P w K mg base ["size","known"] q scope f (.ref c') A outer s H λ_ _ _=>False) body te)
  (Rr:∀a b H Q,Q (.bl (bt a b)) H->te [some (.int a),some (.int b)] H Q):bR P w K mg base fK 2 f fd ["rules","sizes","better"] (iQ K q params body scope bt):=by
 refine F.ok iR (λvs H Q E h=>?_) (λeJ A outer s H vs Q E hr h=>?_)
 .obtain⟨R,rs,aa,d,fl,c',pm,gQ,kvs,ks,g,rfl,_⟩:=h;rfl
 obtain⟨R,rs,aa,d,fl,c',pm,gQ,kvs,ks,g,rfl,hR,cY,bM,h8,hd,hk,Ud,hkl,hv,⟨n0,Ue⟩,G1,nv,qq⟩:=h;have hu:=ff hr;refine⟨_,ai (aC (i:=3) iR.nd rfl (a_ rfl) gq)
  (ai (jB b8 (gX (pv 3))
   (ai (aC (i:=3) iR.nd rfl (a_ rfl) gq)
   (ao (bD b8 rfl (aP (pv 0)) (ft rfl (az (aq (i:=4) iR.nd rfl (a_ rfl)) (az (aq (i:=5) iR.nd rfl (a_ rfl)) bz)))
    (ao (cy (gX (aR (dF rfl) rfl T.all boot_all (ab (aV ["part"] [(1,"sizes")] rfl (d7 (pv 5)) (aS rfl rfl) nofun rfl nofun
       (λ_ _ _ _ _=>aq (i:=0) (show (["part","sizes"]:List Str).Nodup by decide +kernel) rfl (a_ rfl)) (λ_ _ _ _ _=>bF) (λ_ _ _ _ _=>sP (jY hu (pv 0) (pv 1)))) aj)))
     (ai (aC (i:=6) iR.nd rfl (a_ rfl) (aL d_ av (aR (lX rfl) rfl T.sum wc (ab (aV ["part"] [(1,"sizes")] rfl (d7 (pv 5)) (aS rfl rfl) nofun rfl nofun
       (λ_ _ _ _ _=>aq (i:=0) (show (["part","sizes"]:List Str).Nodup by decide +kernel) rfl (a_ rfl)) (λ_ _ _ _ _=>bF) (λ_ _ _ _ _=>fO hu (pv 1) (pv 0) (λ_ _=>rfl))) aj))))
     (ao (cy (PW.pt (KR (f_ (dW hu (pv 4) (pv 1))) (Fy (gX (Ax (i:=2) (k:=0) rfl rfl S hr oI jH (ab (pv 6) (ab (fO hu (pv 1) (pv 4) (λ_ _=>rfl)) aj)))))))
      (ai (gB hu (pv 1) (pv 4) (pv 6) rfl) (ao (aC (i:=3) iR.nd rfl (a_ rfl) gq))) aZ))) aZ))))))
  (ao (bC (pv 1)))),?_⟩
 nofun
 have ll:=bI cY;have S0:xT K aa ks H H d kvs ks g:=⟨λ_ _ _ e=>e,hd,hk,Ud,λx hx=>dH _ hx,hv⟩;refine⟨λm σ H5=>∃(fg:List (aM×V)) (xm:List Str)(g2:G)(ch:Bool)(y4 y5 y6:Option V),σ=[aF R,aF d,aF fl,some (.bl ch),y4,y5,y6]/\xT K aa ks H H5 d fg xm g2/\dM bt aa g g2 /\
  ((ch=true/\∃n,m=n+1/\qi bt aa n g2)\/(ch=false/\iF bt aa g2)),⟨n0+1,kvs,ks,g,true,none,none,none,rfl,S0,.refl,.inl ⟨rfl,n0,rfl,Ue⟩⟩,?_⟩
 rintro m σ H5 ⟨fg,xm,g2,ch,y4,y5,y6,rfl,S2,Ej,cs⟩;refine⟨_,rfl,ch,rfl,?_⟩;refine cx (λc=>?_) (λc=>?_)
 .rcases cs with ⟨_,n,em,en⟩ | ⟨c',_⟩
  case inr=>rw [c'] at c;cases c
  refine⟨λσ H6=>∃(ni:List (aM×V)) (Ek:List Str)(g3:G)(zp:Bool)(y4 y5 y6:Option V),σ=[aF R,aF d,aF fl,some (.bl zp),y4,y5,y6]/\xT K aa ks H H6 d ni Ek g3/\(g3,zp)=uA bt aa g2,?_,?_⟩
  .rintro σ H6 ⟨ni,Ek,g3,zp,y4,y5,y6,rfl,S3,e3⟩;have Yl:g3=(uA bt aa g2).1:=congrArg Prod.fst e3;have Oi:zp=(uA bt aa g2).2:=congrArg Prod.snd e3;have Qj:dM bt aa g g3:=by
    rw [Yl];exact Ej.trans (tK bt aa aa (g2,false) λ_ h=>h)
   cases h3:zp with
   | false =>
    rw [h3] at Oi;obtain⟨f1,f2⟩:=tM bt aa (g2,false) Oi.symm;refine⟨0,∅,ni,Ek,g3,false,_,_,_,rfl,S3,Qj,.inr ⟨rfl,?_⟩⟩;have e33:g3=g2:=Yl.trans f1;rw [e33];exact f2
   | true =>
    rw [h3] at Oi;cases n with
    | zero=>rw [show (uA bt aa g2).2=false from en] at Oi;cases Oi
    | succ n' =>
     rcases en with en | en
     .rw [en] at Oi;cases Oi
     exact⟨n'+1,∅,ni,Ek,g3,true,_,_,_,rfl,S3,Qj,.inl ⟨rfl,n',rfl,by rw [Yl];exact en⟩⟩
  refine⟨_,rfl,R,rfl,⟨_,S2.sm.seq hd hR⟩,?_⟩;refine bZ (xs:=rs.map V.ref) (λi σ H6=>∃(ni:List (aM×V)) (Ek:List Str)(g3:G)(zp:Bool)(y4 y5 y6:Option V),σ=[aF R,aF d,aF fl,some (.bl zp),y4,y5,y6]/\xT K aa ks H H6 d ni Ek g3/\(g3,zp)=(aa.take i).foldl (sstep bt) (g2,false))
   ⟨fg,xm,g2,false,_,_,_,rfl,S2,rfl⟩ ?_ ?_ ?_
  .rintro i σ H6 _ ⟨ni,Ek,g3,zp,y4,y5,y6,rfl,S3,_⟩;exact S3.sm.seq hd hR
  .rintro i x σ H6 ex ⟨ni,Ek,g3,zp,y4,y5,y6,rfl,S3,e3⟩;rw [bf] at ex;obtain⟨r,er,rfl⟩:=b_.mp ex;obtain⟨ru,e1,p,v1,v2⟩:=cY.get er;have qa:=cA e1;have NY:=h8 ru qa;have fo:(aa.take (i+1)).foldl (sstep bt) (g2,false)=sstep bt (g3,zp) ru:=by
    rw [cQ,e1,vX,<-e3];rfl
   rw [fo];have Vh:=S3.sm.tup hd v2;refine⟨r,_,rfl,S3.sm.tup hd v1,rfl,_,_,rfl,_,_,rfl,rfl,?_⟩;refine⟨_,rfl,p,rfl,⟨_,Vh⟩,λD2 jI=>vH rfl Vh ∅ S3.hd jI λH7 Zl hd7=>?_⟩;have S4:=S3.same Zl;have v4:=Zl.tup Vh;have eb:(ru.2.map λz=>(bj ni (Sum.inr z)).isSome).all id=kx g3 ru:=by
    unfold kx;rw [List.all_map];refine List.all_congr rfl λz=>?_;show (bj ni (Sum.inr z)).isSome=_;rw [S3.val,mQ]
   refine⟨D2,_,rfl,aI.of hd7,_,rfl,?_⟩;rw [eb];refine cx (λc4=>?_) (λc4=>?_)
   .have al:∀z∈ru.2,(g3 z).isSome=true:=λz hz=>dP.mp c4 z hz;refine⟨_,rfl,p,rfl,⟨_,v4⟩,λD3 NW=>DO (g:=g3) rfl v4 ∅ S4.hd S4.val al NW λH8 OQ RV=>?_⟩;have S5:=S4.same OQ;have esz:1+(ru.2.map λz=>(g3 z).getD 0).sum=aH g3 ru:=rfl;refine⟨D3,_,rfl,aI.of RV,_,_,rfl,rfl,?_⟩;have mem:(bj ni (Sum.inr ru.1)).isSome=(g3 ru.1).isSome:=by rw [S5.val,mQ]
    have fl5:=S5.sm fl _ (λz=>by rw [z,hd] at G1;cases G1) G1;have c5':=S5.sm c' _ (λz=>by rw [z,hd] at nv;cases nv) nv;have l5:=S5.len;refine⟨_,rfl,_,rfl,d,_,rfl,cD.k (k:=Sum.inr ru.1) S5.hd,_,rfl,?_⟩;refine cx (λc5=>?_) (λc5=>?_)
    .have fr:cO bt g3 ru=true:=by
      unfold cO;rw [<-mem,c4,c5];rfl
     refine⟨_,rfl,_,rfl,_,rfl,d,_,rfl,lK.k (k:=Sum.inr ru.1) S5.hd (bq ∅),?_⟩;exact⟨_,_,dw g3 ru.1 (aH g3 ru),true,_,_,_,rfl,S5.put qa (aH g3 ru),(aw fr).symm⟩
    have isS:(g3 ru.1).isSome=true:=by
     rw [mem] at c5;cases hq:(g3 ru.1).isSome with
     | true=>rfl
     | false=>rw [hq] at c5;exact absurd rfl c5
    obtain⟨k,ek⟩:=nV.mp isS;have hg:cD H8 d (.str ru.1) (some (.int k)):=by
     have:=cD.k (k:=Sum.inr ru.1) S5.hd;rw [S5.val,ek] at this;exact this
    refine⟨fl,pm,c',gQ,rfl,_,rfl,_,rfl,_,rfl,d,_,rfl,hg,fl5,c5',rfl,Rr (aH g3 ru) k _ _ ⟨_,rfl,?_⟩⟩;refine cx (λc6=>?_) (λc6=>?_)
    .have fr:cO bt g3 ru=true:=by
      unfold cO;rw [c4,ek];show (true && (false || bt (aH g3 ru) k))=true
      rw [c6];rfl
     refine⟨_,rfl,_,rfl,_,rfl,d,_,rfl,lK.k (k:=Sum.inr ru.1) S5.hd (bq ∅),?_⟩;exact⟨_,_,dw g3 ru.1 (aH g3 ru),true,_,_,_,rfl,S5.put qa (aH g3 ru),(aw fr).symm⟩
    have fr:¬cO bt g3 ru=true:=by
     unfold cO;rw [c4,ek];show ¬(true && (false || bt (aH g3 ru) k))=true
     rw [rP.mpr c6];exact nofun
    exact⟨ni,Ek,g3,zp,_,_,_,rfl,S5,(ax fr).symm⟩
   have e5:sstep bt (g3,zp) ru=(g3,zp):=ax (λz=>c4 (by unfold cO at z;exact(iB.mp z).1));exact⟨ni,Ek,g3,zp,_,_,_,rfl,S4,e5.symm⟩
  rintro σ H6 ⟨ni,Ek,g3,zp,y4,y5,y6,rfl,S3,e3⟩;rw [ar,ll,cC] at e3;exact⟨ni,Ek,g3,zp,_,_,_,rfl,S3,e3⟩
 rcases cs with ⟨c',_⟩ | ⟨_,se⟩
 .rw [c'] at c;exact absurd rfl c
 exact⟨_,rfl,qq fg xm g2 H5 S2.sm S2.hd S2.keys S2.val Ej se (by have:=S2.len;omega)⟩
end
end ig
namespace M11
open PySem L2
theorem fold_lt {bt:Int->Int->Bool}{aa:List au}{J:G->Prop}{r:G->G->Prop}(tr:∀a b c,r a b->r b c->r a c)
  (nO:∀g ru,J g->ru∈aa->cO bt g ru=true->J (dw g ru.1 (aH g ru))/\r (dw g ru.1 (aH g ru)) g) :
  ∀(l:List au)(a:G×Bool),(∀ru∈l,ru∈aa)->J a.1->J (l.foldl (sstep bt) a).1/\(l.foldl (sstep bt) a=a\/r (l.foldl (sstep bt) a).1 a.1)
 | [],a,_,j=>⟨j,.inl rfl⟩
 | ru::l,a,h,j=>by
  by_cases c:cO bt a.1 ru=true
  .have e:sstep bt a ru=(dw a.1 ru.1 (aH a.1 ru),true):=aw c;obtain⟨j1,r1⟩:=nO a.1 ru j (h ru bQ) c;obtain⟨j2,r2⟩:=fold_lt tr nO l (dw a.1 ru.1 (aH a.1 ru),true) (λx hx=>h x (cu _ hx)) j1;rw [List.foldl_cons,e];refine⟨j2,.inr ?_⟩;rcases r2 with r2 | r2
   .rw [r2];exact r1
   exact tr _ _ _ r2 r1
  have e:sstep bt a ru=a:=ax c;rw [List.foldl_cons,e];exact fold_lt tr nO l a (λx hx=>h x (cu _ hx)) j
def yX {bt:Int->Int->Bool}{aa:List au}{J:G->Prop}{r:G->G->Prop}(tr:∀a b c,r a b->r b c->r a c)
  (nO:∀g ru,J g->ru∈aa->cO bt g ru=true->J (dw g ru.1 (aH g ru))/\r (dw g ru.1 (aH g ru)) g){g:G}(h:Acc r g)(j:J g):∃n,qi bt aa n g:=by
 induction h with
 | intro g _ ih =>
  cases c:(uA bt aa g).2 with
  | false=>exact⟨0,c⟩
  | true =>
   obtain⟨j2,r2⟩:=fold_lt tr nO aa (g,false) (λ_ h=>h) j;have r3:r (uA bt aa g).1 g:=by
    rcases r2 with r2 | r2
    .have e:(uA bt aa g)=(g,false):=r2;rw [e] at c;cases c
    exact r2
   obtain⟨n,hn⟩:=ih _ r3 j2;exact⟨n+1,.inr hn⟩
def dM.keep {bt:Int->Int->Bool}{aa:List au}{J:G->Prop}(nO:∀g ru,J g->ru∈aa->cO bt g ru=true->J (dw g ru.1 (aH g ru))){g g':G}(h:dM bt aa g g')(j:J g):J g':=by
 induction h with
 | refl=>exact j
 | step _ a b ih=>exact nO _ _ ih a b
def fq (f:Str->Nat) (hs:List Str):Nat:=(hs.map f).sum
theorem ya {f k:Str->Nat}:∀{hs:List Str},(∀x∈hs,f x<=k x)->fq f hs<=fq k hs
 | [],_=>aK _
 | h::r,q=>by
  have h1:=q h bQ;have h2:=ya (hs:=r) λx hx=>q x (cu _ hx);show f h+fq f r<=k h+fq k r;omega
theorem oh {f k:Str->Nat}:∀{hs:List Str}{h:Str},(∀x∈hs,f x<=k x)->h∈hs->f h < k h->fq f hs < fq k hs
 | a::r,h,q,m,l=>by
  have h1:=q a bQ;have h2:∀x∈r,f x<=k x:=λx hx=>q x (cu _ hx);show f a+fq f r < k a+fq k r;rcases bO.mp m with z | z
  .have:=ya h2;rw [z] at l;omega
  have:=oh h2 z l;omega
theorem jT (g:G)(J:∀z n,g z=some n->(0:Int)<=n):∀ps:List Str,0<=(ps.map λp=>(g p).getD 0).sum
 | []=>by simp
 | p::r=>by
  have h1:=jT g J r;have h2:0<=(g p).getD 0:=by
   cases e:g p with
   | none=>exact ix _
   | some n=>exact J p n e
  rw [cH,kI];omega
def NN (g:G):Prop:=∀z n,g z=some n->(0:Int)<=n
def w5 {g:G}(j:NN g)(ru:au):NN (dw g ru.1 (aH g ru)):=λz n e=>by
 unfold dw at e;by_cases c:z=ru.1
 .rw [aw c] at e;cases e;have:=jT g j ru.2;unfold aH;omega
 rw [ax c] at e;exact j z n e
def bl (a b:Int):Bool:=decide (a < b)
def bg (a b:Int):Bool:=decide (a > b)
def AQ (hs:List Str)(g' g:G):Prop :=
 fq (λh=>if (g' h).isSome then 0 else 1) hs < fq (λh=>if (g h).isSome then 0 else 1) hs \/
 (fq (λh=>if (g' h).isSome then 0 else 1) hs=fq (λh=>if (g h).isSome then 0 else 1) hs/\fq (λh=>((g' h).getD 0).toNat) hs < fq (λh=>((g h).getD 0).toNat) hs)
def JB (hs:List Str)(g:G):Acc (AQ hs) g:=by
 have wf:=(Prod.lex (β:=Nat) (α:=Nat) ⟨(· < ·),Nat.lt_wfRel.wf⟩ ⟨(· < ·),Nat.lt_wfRel.wf⟩).wf;have key:∀p:Nat×Nat,∀g:G,(fq (λh=>if (g h).isSome then 0 else 1) hs,fq (λh=>((g h).getD 0).toNat) hs)=p->Acc (AQ hs) g:=λp=>by
  induction p using wf.induction with
  | _ p ih =>
   intro g e;refine⟨g,λg' r=>ih _ ?_ g' rfl⟩;rw [<-e];rcases r with r | ⟨r1,r2⟩
   .exact Prod.Lex.left _ _ r
   show Prod.Lex _ _ (fq (λh=>if (g' h).isSome then 0 else 1) hs,_) _;rw [r1];exact Prod.Lex.right _ r2
 exact key _ g rfl
def Nj (hs:List Str)(a b c:G)(h:AQ hs a b)(k:AQ hs b c):AQ hs a c:=by
 unfold AQ at *;omega
def Gn {aa:List au}(g:G)(ru:au)(j:NN g)(m:ru∈aa)(f:cO bl g ru=true):NN (dw g ru.1 (aH g ru))/\AQ (aa.map (·.1)) (dw g ru.1 (aH g ru)) g:=by
 refine⟨w5 j ru,?_⟩;have hm:ru.1∈aa.map (·.1):=iO m;have nn:=w5 j ru;have DZ:dw g ru.1 (aH g ru) ru.1=some (aH g ru):=aw rfl;have ne:∀z,z≠ru.1->dw g ru.1 (aH g ru) z=g z:=λz n=>ax n;unfold cO at f;have f2:=(iB.mp f).2;cases e:g ru.1 with
 | none =>
  refine .inl (oh (λx _=>?_) hm ?_)
  .by_cases c:x=ru.1
   .show (if (dw g ru.1 (aH g ru) x).isSome then 0 else 1)<=_;rw [c,DZ];exact fj _
   show (if (dw g ru.1 (aH g ru) x).isSome then 0 else 1)<=_;rw [ne x c];exact aK _
  show (if (dw g ru.1 (aH g ru) ru.1).isSome then 0 else 1) < (if (g ru.1).isSome then 0 else 1);rw [DZ,e];show 0 < 1;exact Nat.one_pos
 | some k =>
  rw [e] at f2;have lt:aH g ru < k:=cI (by simpa [bl] using f2);have h0:=nn ru.1 _ DZ;refine .inr ⟨?_,oh (λx _=>?_) hm ?_⟩
  .unfold fq
   congr 1
   refine List.map_congr_left λx _=>?_;by_cases c:x=ru.1
   .show (if (dw g ru.1 (aH g ru) x).isSome then 0 else 1)=(if (g x).isSome then 0 else 1);rw [c,DZ,e];rfl
   show (if (dw g ru.1 (aH g ru) x).isSome then 0 else 1)=(if (g x).isSome then 0 else 1);rw [ne x c]
  .by_cases c:x=ru.1
   .show ((dw g ru.1 (aH g ru) x).getD 0).toNat<=((g x).getD 0).toNat;rw [c,DZ,e];show (aH g ru).toNat<=k.toNat;omega
   show ((dw g ru.1 (aH g ru) x).getD 0).toNat<=((g x).getD 0).toNat;rw [ne x c];exact aK _
  show ((dw g ru.1 (aH g ru) ru.1).getD 0).toNat < ((g ru.1).getD 0).toNat;rw [DZ,e];show (aH g ru).toNat < k.toNat;omega
def AR (aa:List au)(g:G)(j:NN g):∃n,qi bl aa n g:=yX (Nj (aa.map (·.1))) (λg ru=>Gn g ru) (JB _ g) j
inductive Em (aa:List au):Str->Prop
 | mk {ru:au}:ru∈aa->(∀p∈ru.2,Em aa p)->Em aa ru.1
def uk (aa:List au)(b:Str->Int):Prop:=(∀z,0<=b z)/\∀ru∈aa,(∀p∈ru.2,Em aa p)->1+(ru.2.map b).sum<=b ru.1
def GJ (aa:List au)(b:Str->Int)(g:G):Prop:=∀z n,g z=some n->0<=n/\n<=b z/\Em aa z
theorem BH {aa:List au}{b:Str->Int}{g:G}(j:GJ aa b g)(hb:∀z,0<=b z):∀ps:List Str,(ps.map λp=>(g p).getD 0).sum<=(ps.map b).sum
 | []=>by simp
 | p::r=>by
  have h1:=BH j hb r;have h2:(g p).getD 0<=b p:=by
   cases e:g p with
   | none=>exact hb p
   | some n=>exact(j p n e).2.1
  rw [cH,kI,cH,kI];omega
def gm (b:Str->Int)(g:G)(h:Str):Nat:=if (g h).isSome then (b h - (g h).getD 0).toNat else (b h).toNat+1
def tG {aa:List au}{b:Str->Int}(B:uk aa b)(g:G)(ru:au)(j:GJ aa b g)(m:ru∈aa)(f:cO bg g ru=true) :
  GJ aa b (dw g ru.1 (aH g ru))/\fq (gm b (dw g ru.1 (aH g ru))) (aa.map (·.1)) < fq (gm b g) (aa.map (·.1)):=by
 have hm:ru.1∈aa.map (·.1):=iO m;have DZ:dw g ru.1 (aH g ru) ru.1=some (aH g ru):=aw rfl;have ne:∀z,z≠ru.1->dw g ru.1 (aH g ru) z=g z:=λz n=>ax n;unfold cO at f;obtain⟨f1,f2⟩:=iB.mp f;have em:∀p∈ru.2,Em aa p:=λp hp=>by
  obtain⟨n,en⟩:=nV.mp (dP.mp f1 p hp);exact(j p n en).2.2
 have bd:=B.2 ru m em;have sb:=BH j B.1 ru.2;have s0:=jT g (λz n e=>(j z n e).1) ru.2;have sz:0<=aH g ru/\aH g ru<=b ru.1:=by unfold aH;omega
 refine⟨λz n e=>?_,oh (λx _=>?_) hm ?_⟩
 .by_cases c:z=ru.1
  .rw [c,DZ] at e;cases e;rw [c];exact⟨sz.1,sz.2,.mk m em⟩
  rw [ne z c] at e;exact j z n e
 .by_cases c:x=ru.1
  .rw [c];unfold gm;rw [DZ];show (b ru.1 - aH g ru).toNat<=_;cases e:g ru.1 with
   | none=>show _<=(b ru.1).toNat+1;omega
   | some k =>
    rw [e] at f2;have lt:aH g ru > k:=cI (by simpa [bg] using f2);show _<=(b ru.1 - k).toNat;omega
  unfold gm;rw [ne x c];exact aK _
 unfold gm;rw [DZ];show (b ru.1 - aH g ru).toNat < _;cases e:g ru.1 with
 | none=>show _ < (b ru.1).toNat+1;omega
 | some k =>
  rw [e] at f2;have lt:aH g ru > k:=cI (by simpa [bg] using f2);show _ < (b ru.1 - k).toNat;omega
def A3 {aa:List au}{b:Str->Int}(B:uk aa b)(g:G)(j:GJ aa b g):∃n,qi bg aa n g :=
 yX (r:=λg' g=>fq (gm b g') (aa.map (·.1)) < fq (gm b g) (aa.map (·.1))) (λ_ _ _ h k=>ji h k) (tG B) ((InvImage.wf (λg:G=>fq (gm b g) (aa.map λx:au=>x.1)) Nat.lt_wfRel.wf).apply g) j
def yR {aa:List au}{b:Str->Int}(B:uk aa b){g g':G}(h:dM bg aa g g')(j:GJ aa b g):GJ aa b g':=h.keep (λg ru a m f=>(tG B g ru a m f).1) j
end M11
namespace L2
open PySem
def zd {K:a0}{H:Hp}{p D:Addr}{zs:List Str}{σ:St}{v:V}{x:Str}{Qp:Hp->Prop}(hp:aI K H p (zs.map V.str))(hz:zs.length<=10000)(hD:H D=none)
  (q:∀ts H2,aE H H2->H2 D=some (.lst (ts.map V.ref))->Paired (λt h=>aT K H2 t [.str h,v]) ts zs->Qp H2) :
  ∃W:Nat->Nat->List V->St->Hp->Prop,(∃m,W 0 m [] (dN [x] [] σ) (upd H D (.lst []))) /\
 ∀i m ys σ' H,W i m ys σ' H->((jN K p).stop i H/\Qp H)\/((jN K p).go i H/\∃m',m' < m/\∀x H',(jN K p).mT i H x H'->di 0 x σ' H' λσ2 H2=>hV σ2 H2 λb H3 =>
  if b=true then uz (gU (gO 0) (gU (tC v) sf)) σ2 H3 λy H4=>H4 D=some (.lst ys)/\ys.length < sizeLine/\W (i+1) m' (ys++[y]) σ2 (upd H4 D (.lst (ys++[y]))) else W (i+1) m' ys σ2 H3):=by
 refine cq (xs:=zs.map V.str) (λi ys σ2 H2=>∃ts:List Addr,ys=ts.map V.ref/\ts.length=i/\Paired (λt h=>aT K H2 t [.str h,v]) ts (zs.take i)/\(∃y0,σ2=[y0])/\aE H H2/\H2 D=some (.lst ys))
  ⟨[],rfl,rfl,.nil,⟨none,rfl⟩,af hD _,ae⟩ (λi ys σ2 H2 _ h=>?_) (λi x ys σ2 H2 ex h=>?_) (λys σ2 H2 h=>?_)
 .obtain⟨_,_,_,_,_,sm,_⟩:=h;exact sm.seq hp
 .obtain⟨ts,rfl,ht,j7,⟨y0,rfl⟩,sm,hd⟩:=h;rw [bf] at ex;obtain⟨z,ez,rfl⟩:=b_.mp ex;have li:=(bh.mp ez).1;refine goN (yS ?_);refine⟨_,rfl,mj,λt jq=>⟨?_,bq (by rw [ar];omega),ts++[t],?_,?_,?_,⟨_,rfl⟩,?_,ae⟩⟩
  .rw [ak (aB hd jq)];exact hd
  .rw [br];rfl
  .rw [bB,ht];rfl
  .rw [cQ,ez];have jn:upd H2 t (.tup [.str z,v]) D=some (.lst (ts.map V.ref)):=by rw [ak (aB hd jq)];exact hd
   exact gR (Paired.dY j7 λt' h' z=>aY jn ((af jq _).tup z)) (aY jn (aT.of ae))
  intro b o hb;rw [ak (λz=>by rw [z,hD] at hb;cases hb)];exact af jq _ _ _ (sm b o hb)
 obtain⟨ts,rfl,ht,j7,_,sm,hd⟩:=h;rw [ar,cC] at j7;exact q ts H2 sm hd j7
def Tab.same {T:Addr}{pos:Pos}{qual:Str}{H H':Hp}(h:Tab T pos qual H)(s:aE H H'):Tab T pos qual H':=by
 obtain⟨ps,a,b,c⟩:=h;refine⟨ps,s _ _ a,b,c.imp id ?_⟩;rintro⟨c',e,g⟩;exact⟨c',e,s _ _ g⟩
def Tab.KH {T d:Addr}{pos:Pos}{qual:Str}{H H':Hp}{kvs:List (aM×V)}(h:Tab T pos qual H)(s:gA d H H')(hd:H d=some (.dK kvs)):Tab T pos qual H':=by
 obtain⟨ps,a,b,c⟩:=h;refine⟨ps,s _ _ (λz=>by rw [z,hd] at a;cases a) a,b,c.imp id ?_⟩;rintro⟨c',e,g⟩;exact⟨c',e,s _ _ (λz=>by rw [z,hd] at g;cases g) g⟩
structure zz (K:a0)(x qual:Str)(st:Stmt)(f:Addr)(fd:FuncData)(T:Addr):Prop where
 ex:∃(oc:Value)(od:Option Addr)(kV doc pm:Value)(an:Option Addr)(c:Addr)(ct:Value)(wY:Array (Option Value)),
  fd=PySem.W.fnOf x qual (du st) (cE st) (aA st) .none kV doc pm an (.ref c) ct/\K.lookup f=some ⟨oc,od,.func fd,wY⟩/\PySem.W.codeIn K (.ref c) qual=true/\PySem.W.codeHdIn K c T=true
 kp:PySem.W.keepIn K (.ref f)=true
def zz.ok {P:Program}{w:World}{K:a0}{mg:Str->Option Value}{base:Heap}{x qual:Str}{st:Stmt}{f:Addr}{fd:FuncData}{T:Addr}{N ps:List Str}{k:Nat}{sp:Sp}(F:zz K x qual st f fd T)(S:aN N ps (aA st))(len:∀vs H Q E,sp vs H Q E->vs.length=ps.length)
  (jH:∀(c:Addr)(A:Around)(outer:List Env)(s:Shared)(H:Hp)(vs:List V)(Q:VK)(E:XK),PySem.W.codeHdIn K c T=true->fI k (A.deeper (PyProof.Rows.envOfC qual (aA st) s.heap.objs.size f (.ref c)))->sp vs H Q E ->
   ∃t,Bp (qg fK P w K mg base N qual (aA st) f (.ref c) A outer s H E).C_ (cE st) t/\t { nx:=λ_ H'=>Q .gb H',rt:=Q } (start N vs) H):bR P w K mg base fK (k+1) f fd ps sp:=by
 obtain⟨oc,od,kV,doc,pm,an,c,ct,wY,rfl,lk,xr,hC⟩:=F.ex;refine Hc lk xr S len λA outer s H vs Q E hr uv=>?_;obtain⟨t,h,q⟩:=jH c A outer s H vs Q E hC hr uv;exact⟨t,h.C_,q⟩
theorem ve {v:V}:∀(hs:List Str)(bS:List (aM×V)) (as:List Str),bS.map (·.1)=as.map Sum.inr->(cZ (hs.map λh=>((Sum.inr h:aM),v)) bS).map (·.1)=(M11.xF as hs).map Sum.inr
 | [],bS,as,e=>e
 | h::r,bS,as,e=>ve r (bX bS (Sum.inr h) v) (M11.gG as h) (ig.ir e h)
theorem rY {v:V}:∀(hs:List Str)(bS:List (aM×V))(z:Str),bj (cZ (hs.map λh=>((Sum.inr h:aM),v)) bS) (Sum.inr z)=if z∈hs then some v else bj bS (Sum.inr z)
 | [],bS,z=>by simp [cZ]
 | h::r,bS,z=>by
  have ih:=rY (v:=v) r (bX bS (Sum.inr h) v) z;show bj (cZ (r.map λh=>((Sum.inr h:aM),v)) (bX bS (Sum.inr h) v)) (Sum.inr z)=_;rw [ih,rZ];by_cases c:z∈r
  .rw [aw c,aw (cu _ c)]
  rw [ax c];by_cases c2:z=h
  .rw [aw (by rw [c2]),aw (by rw [c2];exact bQ)]
  rw [ax (λe=>c2 (kR e)),ax (λe=>(bO.mp e).elim c2 c)]
end L2
namespace ig
open PySem L2 M11
def Q4:List Stmt->Arguments×Expr×Scope×Pos
 | [.Return (some (.Call _ [_,_,.Lambda p b s pos] _ _)) _]=>(p,b,s,pos)
 | _=>(⟨[],[],none,[],[],none,[]⟩,.Constant .none 0 ⟨0,0,0,0⟩,aA sL,⟨0,0,0,0⟩)
abbrev sX:=Q4 (cE sL)
abbrev AO:=Q4 (cE wL)
abbrev zH:Str := "least_sizes" ++ ".<locals>." ++ "<lambda>"
abbrev K5:Str := "greatest_empty_sizes" ++ ".<locals>." ++ "<lambda>"
def Mp:aN ["size","known"] ["size","known"] sX.2.2.1:=je rfl rfl rfl rfl nofun
def Mq:aN ["size","known"] ["size","known"] AO.2.2.1:=je rfl rfl rfl rfl nofun
section
def AA (F:iG K "settled_sizes" "settled_sizes" ou f fd)(T:Txt mg):bR P w K mg base fK 2 f fd ["rules","sizes","better"] (iQ K zH sX.1 sX.2.1 sX.2.2.1 M11.bl) :=
 vb F T Mp (λpm gQ c' us hl=>match us,hl with | [_,_],_=>rfl) (λ_ _ _ _ _ _=>fc qv (pv 0) (pv 1) (cM _)) (λa b H Q h=>⟨_,rfl,_,rfl,_,_,rfl,rfl,h⟩)
def AB (F:iG K "settled_sizes" "settled_sizes" ou f fd)(T:Txt mg):bR P w K mg base fK 2 f fd ["rules","sizes","better"] (iQ K K5 AO.1 AO.2.1 AO.2.2.1 M11.bg) :=
 vb F T Mq (λpm gQ c' us hl=>match us,hl with | [_,_],_=>rfl) (λ_ _ _ _ _ _=>fc FQ (pv 0) (pv 1) (cM _)) (λa b H Q h=>⟨_,rfl,_,rfl,_,_,rfl,rfl,h⟩)
def xt (aa:List au):G:=λz=>if z∈uq (hd aa) [] (aa.flatMap (·.2)) then some 0 else none
def qS (K:a0)(T1:Addr):Sp:=λvs H Q _=>∃(R:Addr)(rs:List Addr)(aa:List au),vs=[.ref R]/\aI K H R (rs.map V.ref)/\bT K H rs aa/\aa.length<=1000/\(∀ru∈aa,ru.2.length<=8)/\Tab T1 sX.2.2.2 zH H /\
 ∀(d:Addr)(kvs:List (aM×V)) (ks:List Str)(g:G)(H':Hp),H d=none->gA T1 H H'->Tab T1 sX.2.2.2 zH H'->H' d=some (.dK kvs)->kvs.map (·.1)=ks.map Sum.inr->(∀z,bj kvs (Sum.inr z)=(g z).map V.int)->dM M11.bl aa (xt aa) g->iF M11.bl aa g->kvs.length<=20000->Q (.ref d) H'
def IS:aN ["rules"] ["rules"] (aA sL):=je rfl rfl rfl rfl nofun
def FZ {T1:Addr}(F:zz K "least_sizes" "least_sizes" sL f fd T1)(T:Txt mg)(hB:um mg base)(GW:aG P w K mg base 1 "words_in" ["rules"] (BN K))
  (GS:aG P w K mg base 2 "settled_sizes" ["rules","sizes","better"] (iQ K zH sX.1 sX.2.1 sX.2.2.1 M11.bl)):bR P w K mg base fK 3 f fd ["rules"] (qS K T1):=by
 refine F.ok IS (λvs H Q E h=>?_) (λc A outer s H vs Q E hC hr h=>?_)
 .obtain⟨R,rs,aa,rfl,_⟩:=h;rfl
 obtain⟨R,rs,aa,rfl,hR,cY,bM,h8,hT,q⟩:=h;refine⟨_,ao (bC (bK GS hr rfl (ab (pv 0) (ab (a7 (eI rfl) rfl T.Cv gu (ab
  (aV ["word"] [] rfl (aP (bK (GW.mono (by decide:1<=2)) hr rfl (ab (pv 0) aj))) (aS rfl rfl) nofun rfl nofun
   (λ_ _ _ _ _=>aq (i:=0) (show (["word"]:List Str).Nodup by decide +kernel) rfl (a_ rfl)) (λ_ _ _ _ _=>bF)
   (λ_ _ _ _ _=>bU (ab (pv 0) (ab av aj)))) aj)) (ab (FI (T:=T1) rfl hC hB nofun) aj))))),?_⟩
 dsimp only [Ho];refine⟨_,rfl,_,rfl,R,rs,aa,rfl,hR,cY,bM,h8,λD1 H1 f1 s1 e1=>?_⟩;have lw:(uq (hd aa) [] (aa.flatMap (·.2))).length<=8000:=by
  have h1:=nZ (hd aa) (aa.flatMap (·.2)) [];have h2:=jK aa 1000 bM h8;simp only [kM] at h1;omega
 refine⟨D1,rfl,⟨_,aI.of e1⟩,λD2 jI=>zd (aI.of e1) ∅ jI λts H2 s2 e2 p2=>?_⟩;have kp:Paired (λt (kv:aM×V)=>aT K H2 t [kV kv.1,kv.2]) ts ((uq (hd aa) [] (aa.flatMap (·.2))).map λh=>((Sum.inr h:aM),V.int 0)):=cV p2 λ_ _ z=>z;refine⟨D2,ts,_,rfl,e2,kp,λd hd2=>?_⟩;have k1:=ve (v:=.int 0) (uq (hd aa) [] (aa.flatMap (·.2))) [] [] rfl;have k2:∀z,bj (cZ ((uq (hd aa) [] (aa.flatMap (·.2))).map λh=>((Sum.inr h:aM),V.int 0)) []) (Sum.inr z)=(xt aa z).map V.int:=λz=>by
  rw [rY];unfold xt
  split <;> rfl
 have lk:=jf (uq (hd aa) [] (aa.flatMap (·.2))) [];simp only [kM] at lk;generalize cZ ((uq (hd aa) [] (aa.flatMap (·.2))).map λh=>((Sum.inr h:aM),V.int 0)) []=Q7 at k1 k2;have s3:=(s1.trans s2).trans (af hd2 (.dK Q7));have e3:upd H2 d (.dK Q7) d=some (.dK Q7):=ae;have zL:H d=none:=(s1.trans s2).free hd2;generalize upd H2 d (.dK Q7)=H3 at s3 e3;refine⟨hT.same s3,λfl c' gQ H4 s4 t4 ffl e4 X4=>?_⟩;have nT:d≠T1:=λz=>by
  obtain⟨ps,a,_⟩:=hT.same s3;rw [<-z,e3] at a;cases a
 have Co:=s4 d _ nT e3;have V8:∀{a xs},aT K H a xs->aT K H4 a xs:=λ{a xs} h=>by
  obtain⟨ps,b,_⟩:=hT;rcases h with (h | ⟨u,h⟩) | h
  .exact .inl (.inl (s4 _ _ (λz=>by rw [z,b] at h;cases h) (s3 _ _ h)))
  .exact .inl (.inr ⟨u,s4 _ _ (λz=>by rw [z,b] at h;cases h) (s3 _ _ h)⟩)
  exact .inr h
 have V9:∀{a xs},aI K H a xs->aI K H4 a xs:=λ{a xs} h=>by
  obtain⟨ps,b,_⟩:=hT;rcases h with (h | ⟨u,h⟩) | h
  .exact .inl (.inl (s4 _ _ (λz=>by rw [z,b] at h;cases h) (s3 _ _ h)))
  .exact .inl (.inr ⟨u,s4 _ _ (λz=>by rw [z,b] at h;cases h) (s3 _ _ h)⟩)
  exact .inr h
 refine⟨R,rs,aa,d,fl,c',_,gQ,Q7,_,xt aa,rfl,V9 hR,cY.keep λ_ _ z=>V8 z,bM,h8,Co,k1,qf _ iA,∅,k2,AR aa _ λz n e=>?_,e4,X4,λnj Q8 g' H5 s5 e5 k5 v5 st se ZX=>?_⟩
 .unfold xt at e
  split at e
  .cases e;exact ix _
  cases e
 refine q d nj Q8 g' H5 zL (λb o n hb=>s5 b o (λz=>?_) (s4 b o n (s3 b o hb))) (t4.KH s5 Co) e5 k5 v5 st se ZX;rw [z,zL] at hb;cases hb
def wB (K:a0)(T2:Addr):Sp:=λvs H Q _=>∃(R:Addr)(rs:List Addr)(aa:List au)(b:Str->Int),vs=[.ref R]/\aI K H R (rs.map V.ref)/\bT K H rs aa/\aa.length<=1000/\(∀ru∈aa,ru.2.length<=8)/\uk aa b/\Tab T2 AO.2.2.2 K5 H /\
 ∀(d:Addr)(kvs:List (aM×V)) (ks:List Str)(g:G)(H':Hp),H d=none->gA T2 H H'->Tab T2 AO.2.2.2 K5 H'->H' d=some (.dK kvs)->kvs.map (·.1)=ks.map Sum.inr->(∀z,bj kvs (Sum.inr z)=(g z).map V.int)->GJ aa b g->dM M11.bg aa (λ_=>none) g->iF M11.bg aa g->Q (.ref d) H'
def IV:aN ["rules"] ["rules"] (aA wL):=je rfl rfl rfl rfl nofun
def F2 {T2:Addr}(F:zz K "greatest_empty_sizes" "greatest_empty_sizes" wL f fd T2)(hB:um mg base)
  (GS:aG P w K mg base 2 "settled_sizes" ["rules","sizes","better"] (iQ K K5 AO.1 AO.2.1 AO.2.2.1 M11.bg)):bR P w K mg base fK 3 f fd ["rules"] (wB K T2):=by
 refine F.ok IV (λvs H Q E h=>?_) (λc A outer s H vs Q E hC hr h=>?_)
 .obtain⟨R,rs,aa,b,rfl,_⟩:=h;rfl
 obtain⟨R,rs,aa,b,rfl,hR,cY,bM,h8,hBd,hT,q⟩:=h;refine⟨_,ao (bC (bK GS hr rfl (ab (pv 0) (ab fu (ab (FI (T:=T2) rfl hC hB nofun) aj))))),?_⟩;refine⟨_,rfl,λd zL=>?_⟩;have s3:=af zL (.dK []);have e3:upd H d (.dK []) d=some (.dK []):=ae;generalize upd H d (.dK [])=H3 at s3 e3;refine⟨hT.same s3,λfl c' gQ H4 s4 t4 ffl e4 X4=>?_⟩;have nT:d≠T2:=λz=>by
  obtain⟨ps,a,_⟩:=hT.same s3;rw [<-z,e3] at a;cases a
 have Co:=s4 d _ nT e3;have V8:∀{a xs},aT K H a xs->aT K H4 a xs:=λ{a xs} h=>by
  obtain⟨ps,b,_⟩:=hT;rcases h with (h | ⟨u,h⟩) | h
  .exact .inl (.inl (s4 _ _ (λz=>by rw [z,b] at h;cases h) (s3 _ _ h)))
  .exact .inl (.inr ⟨u,s4 _ _ (λz=>by rw [z,b] at h;cases h) (s3 _ _ h)⟩)
  exact .inr h
 have V9:∀{a xs},aI K H a xs->aI K H4 a xs:=λ{a xs} h=>by
  obtain⟨ps,b,_⟩:=hT;rcases h with (h | ⟨u,h⟩) | h
  .exact .inl (.inl (s4 _ _ (λz=>by rw [z,b] at h;cases h) (s3 _ _ h)))
  .exact .inl (.inr ⟨u,s4 _ _ (λz=>by rw [z,b] at h;cases h) (s3 _ _ h)⟩)
  exact .inr h
 have j0:GJ aa b (λ_=>none):=λz n e=>nomatch e;refine⟨R,rs,aa,d,fl,c',_,gQ,[],[],λ_=>none,rfl,V9 hR,cY.keep λ_ _ z=>V8 z,bM,h8,Co,rfl,iA,fj _,λ_=>rfl,A3 hBd _ j0,e4,X4,λnj Q8 g' H5 s5 e5 k5 v5 st se ZX=>?_⟩;refine q d nj Q8 g' H5 zL (λb o n hb=>s5 b o (λz=>?_) (s4 b o n (s3 b o hb))) (t4.KH s5 Co) e5 k5 v5 (yR hBd st j0) st se;rw [z,zL] at hb;cases hb
end
end ig
namespace L2
open PySem PySem.Spec PyProof.Rows
def N_ (o:Obj):Nat:=match o.data with
 | .dict _ ep=>ep
 | _=>0
def Ti (d:Addr)(o:Obj)(kvs:List (aM×V)):It :=
 ⟨λi H=>H d=some (.ky o (.dK kvs))/\i < kvs.length,λi H x H'=>H'=H/\∃kv,kvs[i]?=some kv/\x=kV kv.1,λi H=>H d=some (.ky o (.dK kvs))/\kvs.length<=i⟩
def A7 {X:Cx}{ag:List (Addr×Obj)}{σ:St}{H:Hp}{s:Shared}{d:Addr}{o:Obj}{kvs:List (aM×V)}(I:Inv X ag σ H s)(e:H d=some (.ky o (.dK kvs))) :
  (d == sysModules)=false/\∃vs,KV kvs vs/\s.heap.DictAt (bc X.prog X.w) d vs (N_ o):=by
 obtain⟨ho,hz,hs,vs,r,o',es,ep,h1,h2,h3,h4⟩:=(show cK X.prog X.w H s.heap d (.ky o (.dK kvs)) from I.cw d _ e);rw [ho] at h1;cases h1;refine⟨hs,vs,r,o,es,ho,h2,?_,h4⟩;unfold N_;rw [h3]
def CN {P:Program}{w:World}{K:a0}{tg:Expr}(d it:Addr)(o:Obj)(kvs:List (aM×V)):Turn P w K tg (Ti d o kvs) [it] it (λi h=>h.IsKeyIter it d i kvs.length (N_ o)) where
 mem:=by simp
 obj:=λi h st b hb=>by
  have e:b=it:=by simpa using hb
  subst e;obtain⟨o,e,c,d⟩:=st;exact⟨o,e,λv z=>by rw [d] at z;cases z⟩
 keep:=λi h h' st k=>let ⟨o,e,r⟩:=st;⟨o,k it (by simp) o e,r⟩
 item:=by
  intro X hP hw hK hc i ag s σ H E I hf st hg;subst hP hw hK;obtain⟨hq,hi⟩:=hg;obtain⟨hs,vs,r,da⟩:=A7 I hq;have l:=r.length;obtain⟨kv,UD⟩:∃kv,kvs[i]?=some kv:=⟨kvs[i],cT hi⟩;obtain⟨q,eq⟩:∃q,vs[i]?=some q:=⟨vs[i]'∅,cT ∅⟩;have ek:kv.1=q.1:=by
   have:=congrArg (λl:List aM=>l[i]?) r.keys;simp only [bf,UD,eq] at this;exact gi this
  obtain⟨f0,f1,f2,f3,f4,f5⟩:=hf it (by simp);rw [l] at st;refine wpAny_pyNext_dict_item (k:=q.1) (v:=q.2) st da eq λkey h' hk qR sb=>?_;have I1:Inv X ag σ H { s with heap:=h' }:=I.turned (t':=s.toks) (λb o hb e=>(sb.2 b hb).trans e) f0 f1 f3 f4 f5;obtain⟨o2,e,c,dd⟩:=id qR;rw [<-l] at qR;exact⟨key,rfl,Cp (s:={ s with heap:=h' }) e c dd nofun ⟨kV kv.1,H,I1,by rw [ek];exact Gx hk,⟨rfl,kv,UD,rfl⟩,qR,λb hb=>(hf b hb).1⟩⟩
 done:=by
  intro X hP hw hK hc i ag s σ H E I hf st hg;subst hP hw hK;obtain⟨hq,hi⟩:=hg;obtain⟨hs,vs,r,da⟩:=A7 I hq;have l:=r.length;obtain⟨f0,f1,f2,f3,f4,f5⟩:=hf it (by simp);rw [l] at st;exact wpAny_pyNext_dict_end (I.ok.hd hc) st da (ql ∅) λh' eb=>⟨rfl,I.turned (t':=s.toks) (λb o hb e=>eb b o hb e) f0 f1 f3 f4 f5⟩
 self:=λ_ _ _ _ _ st h=>wpAny_pyIter_keyiter st h
def Rk (tl:TE):TI:=λσ H R=>tl σ H λx H1=>∃d kvs,x=.ref d/\H1 d=some (.dK kvs)/\∀o,R (Ti d o kvs) (upd H1 d (.ky o (.dK kvs)))
def B_ {X:Cx}{tg l:Expr}{tl:TE}(hl:PE X l tl):PI X tg l (Rk tl):=by
 intro ag s σ H R I h;refine df (hl ag s σ H _ I h) λv s1 bL=>?_;obtain⟨x,H1,I1,r1,q1⟩:=bL;obtain⟨d,kvs,e,hd,q⟩:=q1;subst e;cases r1;obtain⟨hz,hs,vs,r,o,es,ep,h1,h2⟩:=(show cK X.prog X.w H1 s1.heap d (.dK kvs) from I1.cw d _ hd);have I2:Inv X ag σ (upd H1 d (.ky o (.dK kvs))) { s1 with heap:=s1.heap,toks:=s1.toks }:=I1.write (x:=d) (e:=d) (by rw [hd];exact True.intro) (.inl rfl) (λb u _ e=>e) ⟨o,h1⟩ ⟨h1,hz,hs,vs,r,o,es,ep,h1,h2⟩;have e2:upd H1 d (.ky o (.dK kvs)) d=some (.ky o (.dK kvs)):=ae;obtain⟨_,Mb,r2,da⟩:=A7 I2 e2;have q2:=q o;generalize upd H1 d (.ky o (.dK kvs))=H2 at I2 e2 q2;refine wpAny_pyIter_dict hs da ?_;refine⟨s1.heap.objs.size,[s1.heap.objs.size],_,_,H2,rfl,I2.kept (t':=s1.toks) λb o e=>bW _ e,CN d _ o kvs,⟨_,cJ _ rfl,rfl,by rw [r2.length];rfl⟩,λb hb=>?_,q2⟩;have e:b=s1.heap.objs.size:=by simpa using hb
 subst e;exact I2.xu (aK _) (I2.cw.fresh (aK _))
section
variable {d D:Addr}{o:Obj}{kvs:List (aM×V)}{ts:List Str}{js:List (Nat×Str)}{g:TG}{tif:TT}{te:TE}{R:Hp->Prop}{σ:St}{H:Hp}
def t_ (Pv:Nat->List V->St->Hp->Prop)(h0:Pv 0 [] (dN ts js σ) (upd H D (.lst [])))(hl:∀i ys σ H,i<=kvs.length->Pv i ys σ H->H d=some (.ky o (.dK kvs)))
  (hs:∀i kv ys σ H,kvs[i]?=some kv->Pv i ys σ H->g (kV kv.1) σ H λσ2 H2=>tif σ2 H2 λb H3=>if b=true then te σ2 H3 λy H4=>H4 D=some (.lst ys)/\ys.length < sizeLine/\Pv (i+1) (ys++[y]) σ2 (upd H4 D (.lst (ys++[y]))) else Pv (i+1) ys σ2 H3)
  (hd:∀ys σ H,Pv kvs.length ys σ H->R H) :
  ∃W:Nat->Nat->List V->St->Hp->Prop,(∃m,W 0 m [] (dN ts js σ) (upd H D (.lst []))) /\
 ∀i m ys σ' H,W i m ys σ' H->((Ti d o kvs).stop i H/\R H)\/((Ti d o kvs).go i H/\∃m',m' < m/\∀x H',(Ti d o kvs).mT i H x H'->g x σ' H' λσ2 H2=>tif σ2 H2 λb H3 =>
  if b=true then te σ2 H3 λy H4=>H4 D=some (.lst ys)/\ys.length < sizeLine/\W (i+1) m' (ys++[y]) σ2 (upd H4 D (.lst (ys++[y]))) else W (i+1) m' ys σ2 H3):=by
 refine⟨λi m ys σ H=>m=kvs.length - i/\i<=kvs.length/\Pv i ys σ H,⟨kvs.length,by simp,fj _,h0⟩,?_⟩;rintro i m ys σ' H ⟨rfl,hi,p⟩;have q:=hl i ys σ' H hi p;by_cases j8:i < kvs.length
 .refine .inr ⟨⟨q,j8⟩,kvs.length - (i+1),∅,λx H' y=>?_⟩;obtain⟨e,kv,UD,rfl⟩:=y;subst e;have z:=hs i kv ys σ' _ UD p;have h1:(i+1<=kvs.length)=True:=eq_true j8;simp only [h1,true_and];exact z
 have e:i=kvs.length:=by omega
 subst e;exact .inl ⟨⟨q,aK _⟩,hd ys σ' H p⟩
end
def vC {A:Around}{s:Shared}{l b:Addr}{ys xs:List Int}{aU gr:List Value}(r:ba (ys.map V.int) aU)(r2:ba (xs.map V.int) gr)(hl:s.heap.IsList l aU.toArray)(hb:s.heap.IsList b gr.toArray)(ne:l≠b)(hu:A.units < cLine) :
  SeqAt.EqAt A s (.ref l) (.ref b) (decide (ys=xs)):=by
 have l1:=r.length;have l2:=r2.length;rw [ar] at l1 l2;by_cases bM:ys.length=xs.length
 .have h:=SeqAt.RcAt.lists (A:=A) (e:=λj=>decide (ys[j]?=xs[j]?)) hl hb (by simp only [cP];omega) hu λj h1 h2=>?_
  .have e:((List.range aU.toArray.size).all λj=>decide (ys[j]?=xs[j]?))=decide (ys=xs):=by
    rw [ju,dP,decide_eq_true_iff];constructor
    .intro h;refine List.ext_getElem? λj=>?_;by_cases c:j < ys.length
     .exact cI (h j (iK.mpr (by simp only [cP];omega)))
     rw [ql ∅,ql ∅]
    intro h j _;rw [h];exact cU rfl
   rw [e] at h;exact .of_refs ne h
  have k1:j < aU.length:=by simpa using h1
  have k2:j < gr.length:=by simpa using h2
  have e1:ys[j]?=some (ys[j]'∅):=cT ∅;have e2:xs[j]?=some (xs[j]'∅):=cT ∅;obtain⟨u1,f1,q1⟩:=r.get (show (ys.map V.int)[j]?=some (.int (ys[j]'∅)) by rw [bf,e1];rfl);obtain⟨u2,f2,q2⟩:=r2.get (show (xs.map V.int)[j]?=some (.int (xs[j]'∅)) by rw [bf,e2];rfl);have g1:aU.toArray[j]=u1:=by
   have:=(bh.mp f1).2;simpa using this
  have g2:gr.toArray[j]=u2:=by
   have:=(bh.mp f2).2;simpa using this
  rw [g1,g2,e1,e2];obtain⟨t1,rfl⟩:=q1;obtain⟨t2,rfl⟩:=q2;have:=SeqAt.EqAt.int_int (A:=A.in1) (s:=s) (ys[j]'∅) t1 (xs[j]'∅) t2;have e3:(ys[j]'∅ == xs[j]'∅)=decide (some (ys[j]'∅)=some (xs[j]'∅)):=by
   rw [ju,beq_iff_eq,decide_eq_true_iff,Option.some.injEq]
  rw [e3] at this;exact this
 have h:=SeqAt.RcAt.lists_lengths (A:=A) hl hb (by simp only [cP,bne_iff_ne];omega) hu;rw [gJ (λz=>bM (by rw [z]))];exact .of_refs ne h
def C1 {X:Cx}(hu:X.A.units+1 < cLine):l_ X (compareOp .In) (λx y H Q=>∃t a l1 l2 xs ys zs,x=.ref a/\y=.ref t/\aT X.K H t [.ref l1,.ref l2]/\aI X.K H a (List.map V.int xs)/\aI X.K H l1 (List.map V.int ys)/\aI X.K H l2 (List.map V.int zs)/\l1≠a/\l2≠a /\
  Q (.bl (decide (ys=xs) || decide (zs=xs))) H):=by
 intro ag s σ H x y v u Q I rx ry h;obtain⟨t,a,l1,l2,xs,ys,zs,rfl,rfl,ht,ha,h1,h2,n1,n2,q⟩:=h;cases rx;cases ry;obtain⟨aU,r,pl,hz⟩:=I.tuple ht;obtain⟨u1,u2,rfl,q1,q2⟩:=vals2 r;cases (show u1=Value.ref l1 from q1);cases (show u2=Value.ref l2 from q2);obtain⟨xa,ra,pa,za⟩:=I.list ha;obtain⟨x1,r1,p1,z1⟩:=I.list h1;obtain⟨x2,r2,p2,z2⟩:=I.list h2;have e1:=vC (A:=X.A.in1) (s:=s) r1 ra p1.isList pa.isList n1 hu;have e2:=vC (A:=X.A.in1) (s:=s) r2 ra p2.isList pa.isList n2 hu;refine SeqAt.in_tupleAt (λy=>if y == .ref l1 then decide (ys=xs) else decide (zs=xs)) (show s.heap.IsTuple t #[.ref l1,.ref l2] from pl) (λy hy=>?_) ?_
 .have hy':y=.ref l1\/y=.ref l2:=by simpa using hy
  by_cases c:y=.ref l1
  .subst c;rw [aw (mM _)];exact e1
  rcases hy' with z | z
  .exact absurd z c
  subst z;rw [ax (λq=>c (eq_of_beq q))];exact e2
 refine⟨.bl (decide (ys=xs) || decide (zs=xs)),H,I,?_,q⟩
 show Value.bool _=Value.bool _
 congr 1
 by_cases c:l2=l1
 .subst c;have e3:=I.sY h1 h2;have e4:ys=zs:=by
   have:=congrArg (List.map λv:V=>match v with | .int n=>n | _=>0) e3
   simpa [iz,Function.comp_def] using this
  subst e4;simp
 simp [c]
end L2
namespace M11
open PySem L2
def Dz (b:Str->Bool) (zs:List Str) (i:Nat):List Int:=((List.range i).filter λj=>!(zs[j]?.elim true b)).map λj:Nat=>(j:Int)
def yV (b:Str->Bool) (zs:List Str) (i:Nat){z:Str}(e:zs[i]?=some z):Dz b zs (i+1)=Dz b zs i++(if b z=true then [] else [(i:Int)]):=by
 unfold Dz;rw [List.range_succ,mS,br]
 congr 1
 by_cases h:b z=true
 .rw [aw h];simp [e,h]
 rw [ax h];simp [e,h]
def JW (b:Str->Bool) (zs:List Str) (i:Nat):(Dz b zs i).length<=i:=by
 unfold Dz;rw [ar];have:=kP (λj=>!(zs[j]?.elim true b)) (List.range i);rw [nQ] at this;exact this
def JA (b:Str->Bool) (zs:List Str) (j:Nat):Bool:=decide ([]=Dz b zs zs.length) || decide ([(j:Int)]=Dz b zs zs.length)
def PJ (aa:List au) (names:List Str)(b:Str->Bool)(n:Str) (k j:Nat):Prop:=∃ru z,aa[k]?=some ru/\ru.1=n/\ru.2[j]?=some z/\z∈names/\JA b ru.2 j=true
end M11
namespace L2
open PySem M11
def jO (p:Str×Addr):aM×V:=(Sum.inr p.1,.ref p.2)
theorem oO:∀(ps bS:List (aM×V)),((bS++ps).map (·.1)).Nodup->cZ ps bS=bS++ps
 | [],bS,_=>by simp [cZ]
 | p::r,bS,h=>by
  have n:bj bS p.1=none:=by
   cases e:bj bS p.1 with
   | none=>rfl
   | some v =>
    have hm:=(eZ bS p.1).mp (by rw [e];rfl);rw [br,cH] at h;exact absurd rfl ((jv.mp h).2.2 p.1 hm p.1 bQ)
  show cZ r (bX bS p.1 p.2)=_;rw [yp p.2 n,oO r (bS++[(p.1,p.2)]) (by rw [kn];exact h),kn];rfl
theorem h_:∀(ps:List (Str×Addr)),(ps.map (·.1)).Nodup->∀p∈ps,bj (ps.map jO) (Sum.inr p.1)=some (.ref p.2)
 | q::r,h,p,hp=>by
  rw [cH] at h ⊢;rcases bO.mp hp with z | z
  .rw [z];exact eQ rfl
  rw [eU,h_ r (iL.mp h).2 p z];intro e;have e':q.1=p.1:=kR e;exact(iL.mp h).1 (by rw [e'];exact iO z)
def oE (ps:List (Str×Addr)):(ps.map jO).map (·.1)=(ps.map (·.1)).map Sum.inr:=by
 rw [iz,iz];rfl
def tZ {K:a0}{H:Hp}{p D:Addr}{zs:List Str}{σ:St}{x:Str}{Qp:Hp->Prop}(hp:aI K H p (zs.map V.str))(hz:zs.length<=10000)(hD:H D=none)
  (q:∀ts (ps:List (Str×Addr)) H2,aE H H2->H2 D=some (.lst (ts.map V.ref))->ps.map (·.1)=zs->Paired (λt (p:Str×Addr)=>aT K H2 t [.str p.1,.ref p.2]) ts ps->(∀p∈ps,H2 p.2=some (.lst [])/\H p.2=none/\p.2≠D)->(ps.map (·.2)).Nodup->Qp H2) :
  ∃W:Nat->Nat->List V->St->Hp->Prop,(∃m,W 0 m [] (dN [x] [] σ) (upd H D (.lst []))) /\
 ∀i m ys σ' H,W i m ys σ' H->((jN K p).stop i H/\Qp H)\/((jN K p).go i H/\∃m',m' < m/\∀x H',(jN K p).mT i H x H'->di 0 x σ' H' λσ2 H2=>hV σ2 H2 λb H3 =>
  if b=true then uz (gU (gO 0) (gU (P9 sf) sf)) σ2 H3 λy H4=>H4 D=some (.lst ys)/\ys.length < sizeLine/\W (i+1) m' (ys++[y]) σ2 (upd H4 D (.lst (ys++[y]))) else W (i+1) m' ys σ2 H3):=by
 refine cq (xs:=zs.map V.str) (λi ys σ2 H2=>∃(ts:List Addr)(ps:List (Str×Addr)),ys=ts.map V.ref/\ts.length=i/\ps.map (·.1)=zs.take i/\Paired (λt (p:Str×Addr)=>aT K H2 t [.str p.1,.ref p.2]) ts ps /\
   (∀p∈ps,H2 p.2=some (.lst [])/\H p.2=none/\p.2≠D)/\(ps.map (·.2)).Nodup/\(∃y0,σ2=[y0])/\aE H H2/\H2 D=some (.lst ys))
  ⟨[],[],rfl,rfl,rfl,.nil,by simp,by simp,⟨none,rfl⟩,af hD _,ae⟩ (λi ys σ2 H2 _ h=>?_) (λi x ys σ2 H2 ex h=>?_) (λys σ2 H2 h=>?_)
 .obtain⟨_,_,_,_,_,_,_,_,_,sm,_⟩:=h;exact sm.seq hp
 .obtain⟨ts,ps,rfl,ht,hm,j7,hl,hn,⟨y0,rfl⟩,sm,hd⟩:=h;rw [bf] at ex;obtain⟨z,ez,rfl⟩:=b_.mp ex;have li:=(bh.mp ez).1;refine goN (yS ?_);refine⟨_,rfl,uo,λl uD=>⟨mj,λt jq=>?_⟩⟩;have Nd:l≠D:=(aB hd uD).symm;have nt:t≠l:=λe=>by rw [e,ae] at jq;cases jq
  have Lj:H2 t=none:=by rw [ak nt] at jq;exact jq
  have ntD:t≠D:=(aB hd Lj).symm;have uu:aE H2 (upd (upd H2 l (.lst [])) t (.tup [.str z,.ref l])):=(af uD _).trans (af jq _);have jn:=uu _ _ hd;have el:upd (upd H2 l (.lst [])) t (.tup [.str z,.ref l]) l=some (.lst []):=by rw [ak nt.symm,ae]
  have et:aT K (upd (upd H2 l (.lst [])) t (.tup [.str z,.ref l])) t [.str z,.ref l]:=aT.of ae;generalize upd (upd H2 l (.lst [])) t (.tup [.str z,.ref l])=H4 at uu jn el et;refine⟨jn,bq (by rw [ar];omega),ts++[t],ps++[(z,l)],by rw [br];rfl,by rw [bB,ht];rfl,by rw [br,hm,cQ,ez];rfl,?_,?_,?_,⟨_,rfl⟩,?_,ae⟩
  .exact gR (Paired.dY j7 λt' h' z=>aY jn (uu.tup z)) (aY jn et)
  .intro p' p_;rcases bY.mp p_ with h | h
   .obtain⟨a1,a2,a3⟩:=hl p' h;exact⟨by rw [ak a3];exact uu _ _ a1,a2,a3⟩
   rw [cg.mp h];exact⟨by rw [ak Nd];exact el,sm.free uD,Nd⟩
  .rw [br];refine jv.mpr ⟨hn,by simp,λa ha b hb e=>?_⟩;rw [pE,cg] at hb;obtain⟨p',p_,rfl⟩:=bN.mp ha;have:=(hl p' p_).1;rw [e,hb] at this;rw [show H2 l=none from uD] at this;cases this
  intro b o hb;rw [ak (λz=>by rw [z,hD] at hb;cases hb)];exact uu _ _ (sm b o hb)
 obtain⟨ts,ps,rfl,ht,hm,j7,hl,hn,_,sm,hd⟩:=h;rw [ar,cC] at hm;exact q ts ps H2 sm hd hm j7 hl hn
def zh {K:a0}{H:Hp}{p D d:Addr}{zs:List Str}{kvs:List (aM×V)}{σ:St}{js:List (Nat×Str)}{Qp:Hp->Prop}(hσ:dN ["place","part"] js σ=[none,none,aF d])(hp:aT K H p (zs.map V.str))(hz:zs.length<=1000)
  (hd:H d=some (.dK kvs))(hD:H D=none)(q:∀H2,aE H H2->H2 D=some (.lst ((Dz (λz=>(bj kvs (Sum.inr z)).isSome) zs zs.length).map V.int))->Qp H2) :
  ∃W:Nat->Nat->List V->St->Hp->Prop,(∃m,W 0 m [] (dN ["place","part"] js σ) (upd H D (.lst []))) /\
 ∀i m ys σ' H,W i m ys σ' H->((ui K p).stop i H/\Qp H)\/((ui K p).go i H/\∃m',m' < m/\∀x H',(ui K p).mT i H x H'->yT K 2 (iX (di 0) (iX (di 1) A5)) x σ' H' λσ2 H2=>tB (Bz (gO 1) (gO 2)) σ2 H2 λb H3 =>
  if b=true then gO 0 σ2 H3 λy H4=>H4 D=some (.lst ys)/\ys.length < sizeLine/\W (i+1) m' (ys++[y]) σ2 (upd H4 D (.lst (ys++[y]))) else W (i+1) m' ys σ2 H3):=by
 refine zj (xs:=zs.map V.str) (λi ys σ2 H2=>ys=(Dz (λz=>(bj kvs (Sum.inr z)).isSome) zs i).map V.int/\(∃y0 y1,σ2=[y0,y1,aF d])/\aE H H2/\H2 D=some (.lst ys))
  ⟨rfl,⟨none,none,hσ⟩,af hD _,ae⟩ (λi ys σ2 H2 _ h=>h.2.2.1.tup hp) (λi x ys σ2 H2 t ex h ht=>?_) (λys σ2 H2 h=>?_)
 .obtain⟨rfl,⟨y0,y1,rfl⟩,sm,hd2⟩:=h;rw [bf] at ex;obtain⟨z,ez,rfl⟩:=b_.mp ex;have li:=(bh.mp ez).1;have uu:=sm.trans (af ht (.tup [.int (i:Int),.str z]));have jn:upd H2 t (.tup [.int (i:Int),.str z]) D=some (.lst ((Dz (λz=>(bj kvs (Sum.inr z)).isSome) zs i).map V.int)):=by rw [ak (aB hd2 ht)];exact hd2
  have hv:aT K (upd H2 t (.tup [.int (i:Int),.str z])) t [.int (i:Int),.str z]:=aT.of ae;generalize upd H2 t (.tup [.int (i:Int),.str z])=H3 at uu jn hv;have fl:=JW (λz=>(bj kvs (Sum.inr z)).isSome) zs i;refine⟨t,_,rfl,hv,rfl,_,_,rfl,_,_,rfl,rfl,?_⟩;refine⟨_,rfl,_,rfl,d,_,rfl,cD.k (k:=Sum.inr z) (uu _ _ hd),_,rfl,?_⟩;refine cx (λc=>?_) (λc=>?_)
  .refine⟨_,rfl,jn,bq (by rw [ar];omega),?_,⟨_,_,rfl⟩,?_,ae⟩
   .rw [yV _ zs i ez,ax (λe=>by rw [e] at c;exact absurd c nofun),br];rfl
   intro b o hb;rw [ak (λz=>by rw [z,hD] at hb;cases hb)];exact uu b o hb
  refine⟨?_,⟨_,_,rfl⟩,uu,jn⟩;rw [yV _ zs i ez,aw,gH];cases hq:(bj kvs (Sum.inr z)).isSome with
  | true=>rfl
  | false=>exact absurd (by rw [hq];rfl) c
 obtain⟨rfl,_,sm,hd2⟩:=h;rw [ar] at hd2;exact q H2 sm hd2
open PySem PySem.Spec PyProof.Rows
def iC {X:Cx}{elt iter tg:Expr}{iy:Nat}{y:Str}{py Qk:Pos}{ifs:List Expr}{scope:Scope}{pos:Pos}{wi:TI}{g:TG}{tif:TT}{te:TE}(ts:List Str)(js:List (Nat×Str))(hN:X.N.Nodup)(hiy:X.N[iy]?=some y)(hy:X.env.scope.names.lookup y=some .local)(hc:X.calm=true)(hi:PI X tg iter wi)
  (cp:Kv X scope js)(jG:∀y∈scope.names,y.2≠.cell)(jF:scope.kind=.function)
  (AZ:∀y∈scope.names,y.2=.local->scope.names.lookup y.1=some .local)
  (hg:∀cl C s1 H1 fp,PG (tV X scope cl C s1 H1 (ts++js.map (·.2)) fp) tg g)
  (Xc:∀cl C s1 H1 fp,Eb (tV X scope cl C s1 H1 (ts++js.map (·.2)) fp) ifs tif)(he:∀cl C s1 H1 fp,PE (tV X scope cl C s1 H1 (ts++js.map (·.2)) fp) elt te)
  (hsw:swapsWith (.ListComp elt [⟨tg,iter,ifs,0⟩] scope pos) (some (.Name y py)) Qk.line X.env=pure true:=by rfl)(hs:∀x,foldedSetIterable iter X.env x=pure x:=by intro _;rfl) :
  PS X (.Assign [.Name y py] (.ListComp elt [⟨tg,iter,ifs,0⟩] scope pos) Qk) (Qg (EN wi ts js g tif te) (di iy)):=by
 intro ag s σ H DD I h;rw [exec_Assign_Name_used _ _ _ _ hsw];refine ay (wpAny_standAt (ay ?_));show wpAny _ _ (do let _ <-comprehension (.ListComp elt [⟨tg,iter,ifs,0⟩] scope pos) scope X.env _ (newList []) false (eval iter X.env) (some (assign (.Name y py) X.env))) _ _ s;obtain⟨cl,mz⟩:=xG (env:=X.env) (scope:=scope) λy hy=>I.ok.has y (.inl (cp.all y hy));refine ay (dA (wpAny_comprehension_free (use:=some (assign (.Name y py) X.env)) (Q:=λ_ s'=>SP X ag DD .next s') rfl hs mz.eq jF AZ (df (hi ag s σ H _ I h) λv s1 h1=>df h1 λT9 s2 h2=>?_)) (λ_ s' hq=>aD (aD hq)) λ_ _ e=>e);obtain⟨it,fp,tn,J,H2,e,I2,T,Ej,f2,h2⟩:=h2;subst e;obtain⟨W,⟨m0,w0⟩,turn⟩:=h2 s2.heap.objs.size I2.fresh;have G1:∀b∈fp,b < s2.heap.objs.size:=λb hb=>by obtain⟨o,e,_⟩:=T.obj _ _ Ej b hb;exact bo e
 refine iM (wpAny_newFunctionEnv jG (by intro y hy;simp at hy) (λh₁ AY xp=>?_) jF);dsimp only at AY xp ⊢;generalize NU:s2.heap.push { cls:=.type "list",dict:=none,data:=.seq ([]:List Value).toArray }=G2 at AY xp ⊢;have JT:G2.objs.size=s2.heap.objs.size+1:=by rw [<-NU,jt]
 have Pc:s2.heap.objs.size≠G2.objs.size:=by rw [JT];exact bE (i9 _)
 have old:∀b o,s2.heap.get? b=some o->h₁.get? b=some o:=λb o e =>
  xp.extBut b o (by rw [JT];exact bE (nR (bo e))) (bW _ (NU ▸ bW _ e))
 have qb:h₁.get? s2.heap.objs.size=some { cls:=.type "list",data:=.seq ([]:List Value).toArray 0 }:=xp.extBut _ _ Pc (bW _ (NU ▸ cJ _ rfl));generalize oJ:tV X scope cl G2.objs.size s2 H2 (ts++js.map (·.2)) fp=X2;have I4:Inv X2 [] (dN ts js σ) (upd H2 s2.heap.objs.size (.lst [])) { s2 with heap:=h₁,toks:=s2.toks+([]:List (Str×Value)).length }:=by
  rw [<-oJ];exact vi I2 f2 G1 jF jG cp mz (by rw [JT];exact i9 _) rfl rfl old AY qb
 have x1:X2.prog=X.prog:=by rw [<-oJ];rfl
 have x2:X2.w=X.w:=by rw [<-oJ];rfl
 have x3:X2.K=X.K:=by rw [<-oJ];rfl
 have x4:X2.calm=true:=by rw [<-oJ];exact hc
 have x5:X2.A=X.A:=by rw [<-oJ];rfl
 have x6:X2.env=compEnvC scope cl G2.objs.size X.env:=by rw [<-oJ];rfl
 have x7:X2.xe=λ_ _=>False:=by rw [<-oJ];rfl
 have Xd:PG X2 tg g:=by rw [<-oJ];exact hg _ _ _ _ _
 have NK:Eb X2 ifs tif:=by rw [<-oJ];exact Xc _ _ _ _ _
 have Ik:PE X2 elt te:=by rw [<-oJ];exact he _ _ _ _ _
 have Mm:tn 0 h₁:=T.keep _ _ _ Ej λb _ o e=>old b o e;have sj:∀{H':Hp}{kr:List (Addr×Obj)},(∀b∈fp,H' b=none)->(∀p∈kr,p.1∉fp)->∀b∈fp,xS X2 kr H' b:=λ{H' kr} hn hp b hb=>by
  have o4:=I4.ok;subst oJ;exact⟨hn b hb,(o4.Pj b hb).1,o4.DE b hb,.inl hb,(o4.Pj b hb).2,λp p_=>by
   have tD:p∈([]:List (Addr×Obj))++kr:=p_;rw [mK] at tD;intro z;exact hp p tD (by rw [z];exact hb)⟩
 have fin:∀{s':Shared}{σ':St}{H':Hp},Inv X2 [] σ' H' s'->DD.nx (σ.set iy (some (.ref s2.heap.objs.size))) H' ->
   compPost (model X.prog X.w) X.A X.xe (some (assign (.Name y py) X.env)) (λ_ s'=>SP X ag DD .next s') (.ref s2.heap.objs.size) G2.objs.size (.ok .next) s':=λ{s' σ' H'} J' q=>by
  subst oJ;obtain⟨m',GX,_⟩:=J'.loc;have I5:Inv X ag σ H' s':=I2.LK (s':=s') J'.os J'.base J'.cw J'.bare λb hb=>by
   obtain⟨_,f1,_,f3,f4,f5⟩:=f2 b hb;exact⟨f3,f1,f4,f5⟩
  obtain⟨f0,f1,_,f3,f4,f5⟩:=I2.xu (H':=H') (b:=G2.objs.size) (by rw [JT];exact jQ _) J'.free;show wpAny _ _ (assign (.Name y py) X.env (.ref s2.heap.objs.size)) _ _ s';refine wpAny_assign_Name (uS I5 hN hiy (.inl hy) (v:=.ref s2.heap.objs.size) rfl (λMH I6 bL=>?_) (.inr hy));obtain⟨a,sb,ha⟩:=bL;have nCa:G2.objs.size≠a:=by
   rcases ha with ha | ha
   .rw [ha];exact f1
   exact(f4 _ _ ha).symm
  refine⟨m',GX.sameBut sb nCa,λh' O4=>?_⟩;exact⟨_,H',I6.turned (t':=MH.toks) (λb o hb e=>(O4.2 b hb).trans e) f0 f1 f3 f4 f5,q⟩
 have loop:∀s₃:Shared,s₃={ s2 with heap:=h₁,toks:=s2.toks+([]:List (Str×Value)).length } ->
   codeAny (model X.prog X.w) X.A (.compLoop (.ListComp elt [⟨tg,iter,ifs,0⟩] scope pos) 0 (.ref it) (.ref s2.heap.objs.size) (compEnvC scope cl G2.objs.size X.env))
    (compPost (model X.prog X.w) X.A X.xe (some (assign (.Name y py) X.env)) (λ_ s'=>SP X ag DD .next s') (.ref s2.heap.objs.size) G2.objs.size) s₃:=by
  rintro s₃ rfl;subst oJ;refine qB (λn s'=>∃i ys σ' H',Inv (tV X scope cl G2.objs.size s2 H2 (ts++js.map (·.2)) fp) [] σ' H' s'/\tn i s'.heap/\(∀b∈fp,H' b=none)/\W i n ys σ' H') ?_ m0
   ⟨0,[],_,_,I4,Mm,λb hb=>by rw [ak (bE (G1 b hb))];exact(f2 b hb).1,w0⟩
  rintro n s' ⟨i,ys,σ0,H',J',qR,Sd,w'⟩;rcases turn i n ys σ0 H' w' with ⟨stop,q⟩ | ⟨go,m',hm,step⟩
  .refine dA (T.done (tV X scope cl G2.objs.size s2 H2 (ts++js.map (·.2)) fp) rfl rfl rfl hc i [] s' _ H' (λ_ _=>False) J' (sj Sd (by simp)) qR stop) (λr s4 ⟨hr,J4⟩=>?_) λ_ _ z=>z;subst hr;exact fin J4 q
  refine dA (T.item (tV X scope cl G2.objs.size s2 H2 (ts++js.map (·.2)) fp) rfl rfl rfl hc i [] s' _ H' (λ_ _=>False) J' (sj Sd (by simp)) qR go) (λr s4 ⟨u,hr,h4⟩=>?_) λ_ _ z=>z;subst hr;refine dA h4 (λ_ s5 bL=>?_) λ_ _ z=>z;obtain⟨xv,H5,J5,r5,y5,CP,Sb⟩:=bL;have YY:=J5.pinned (sj Sb (by simp)) (T.obj _ _ CP);have back:∀{s7:Shared}{σ7:St}{H7:Hp},Inv (tV X scope cl G2.objs.size s2 H2 (ts++js.map (·.2)) fp) ([]++pT fp s5.heap) σ7 H7 s7->Inv (tV X scope cl G2.objs.size s2 H2 (ts++js.map (·.2)) fp) [] σ7 H7 s7/\tn (i+1) s7.heap/\∀b∈fp,H7 b=none:=λ{s7 σ7 H7} J7=>by
   refine⟨J7.kW,T.keep _ _ _ CP λb hb o e=>(J7.pin (b,o) (dD _ (dD _ (ic hb e)))).1,λb hb=>?_⟩;obtain⟨o,e,d⟩:=T.obj _ _ CP b hb;exact(J7.pin (b,o) (dD _ (dD _ (ic hb e)))).2.1
  show wpAny _ _ (assign tg (tV X scope cl G2.objs.size s2 H2 (ts++js.map (·.2)) fp).env u) _ _ s5;refine dA (Xd _ s5 _ H5 xv u _ YY r5 (step xv H5 y5)) (λ_ s6 bL=>?_) λ_ _ z=>z;obtain⟨σ6,H6,J6,q6⟩:=bL;refine dA (NK _ s6 _ H6 _ J6 q6) (λb s7 bL=>?_) λ_ _ z=>z;obtain⟨H7,J7,q7⟩:=bL;cases b with
  | false =>
   rw [ax dC] at q7 ⊢;obtain⟨J8,Vv,XG⟩:=back J7;exact⟨m',hm,i+1,ys,σ6,H7,J8,Vv,XG,q7⟩
  | true =>
   rw [aw rfl] at q7 ⊢;refine dA (Ik _ s7 _ H7 _ J7 q7) (λyv s8 bL=>?_) λ_ _ z=>z;obtain⟨y,H8,J8,r8,Xw,Wz,w8⟩:=bL;refine dA (bA (X:=tV X scope cl G2.objs.size s2 H2 (ts++js.map (·.2)) fp) _ s8 _ H8 (.ref s2.heap.objs.size) [y] (.ref s2.heap.objs.size) [yv] (λv H'=>W (i+1) m' (ys++[y]) σ6 H') J8 rfl (.cons r8 .nil) ⟨s2.heap.objs.size,ys,y,rfl,rfl,Xw,Wz,w8⟩)
    (λ_ s9 ⟨_,H9,J9,_,w9⟩=>?_) λ_ _ z=>z
   obtain⟨YZ,Mn,N1⟩:=back J9;exact⟨m',hm,i+1,ys++[y],σ6,H9,YZ,Mn,N1,w9⟩
 exact codeAny_compStart_list (loop _ rfl) (T.self _ _ _ _ _ Mm (loop _ rfl))
end L2
namespace ig
open PySem L2 M11
section
def xb {l:List Str}(h:l.Nodup):(l.map (Sum.inr:Str->aM)).Nodup:=List.Pairwise.map _ (λa b hab e=>hab (kR e)) h
structure Ew (K:a0)(ps:List (Str×Addr))(st:Str->List (Nat×Nat))(H:Hp)(d:Addr):Prop where
 hd:Rd H d (.dK (ps.map jO))
 n1:(ps.map (·.1)).Nodup
 n2:(ps.map (·.2)).Nodup
 lst:∀p∈ps,∃ts,H p.2=some (.lst (ts.map V.ref))/\Paired (λt (e:Nat×Nat)=>aT K H t [.int (e.1:Int),.int (e.2:Int)]) ts (st p.1)
def Rd.same {H H':Hp}{a:Addr}{u:HO}(h:Rd H a u)(s:aE H H'):Rd H' a u:=h.elim (λz=>.inl (s _ _ z)) λ⟨o,z⟩=>.inr ⟨o,s _ _ z⟩
theorem Ew.same {ps:List (Str×Addr)}{st:Str->List (Nat×Nat)}{H H':Hp}{d:Addr}(h:Ew K ps st H d)(s:aE H H'):Ew K ps st H' d :=
 ⟨Rd.same h.hd s,h.n1,h.n2,λp hp=>let ⟨ts,a,b⟩:=h.lst p hp;⟨ts,s _ _ a,Paired.dY b λ_ _ z=>s.tup z⟩⟩
def vT (st:Str->List (Nat×Nat))(n:Str)(e:Nat×Nat):Str->List (Nat×Nat):=λz=>if z=n then st z++[e] else st z
def Ew.more {ps:List (Str×Addr)}{st:Str->List (Nat×Nat)}{H:Hp}{d:Addr}(h:Ew K ps st H d){p:Str×Addr}(hp:p∈ps){ts:List Addr}{t:Addr}{e:Nat×Nat}(a:H p.2=some (.lst (ts.map V.ref)))
  (b:Paired (λt (e:Nat×Nat)=>aT K H t [.int (e.1:Int),.int (e.2:Int)]) ts (st p.1))(c:aT K H t [.int (e.1:Int),.int (e.2:Int)]) :
  Ew K ps (vT st p.1 e) (upd H p.2 (.lst (ts.map V.ref++[.ref t]))) d:=by
 have nd:d≠p.2:=λz=>by
  rcases h.hd with q | ⟨o,q⟩
  .rw [z,a] at q;cases q
  rw [z,a] at q;cases q
 refine⟨?_,h.n1,h.n2,λp' p_=>?_⟩
 .rcases h.hd with q | ⟨o,q⟩
  .exact .inl (by rw [ak nd];exact q)
  exact .inr ⟨o,by rw [ak nd];exact q⟩
 by_cases z:p'=p
 .rw [z];refine⟨ts++[t],by rw [ae,br];rfl,?_⟩;have e1:vT st p.1 e p.1=st p.1++[e]:=aw rfl;rw [e1];exact gR (Paired.dY b λ_ _ z=>aY a z) (aY a c)
 have n1:p'.1≠p.1:=λq=>z (by
  have w1:=h_ ps h.n1 p' p_;have w2:=h_ ps h.n1 p hp;rw [q,w2] at w1;injection w1 with w3;injection w3 with w4;exact jP q w4.symm)
 have n2:p'.2≠p.2:=λq=>by
  obtain⟨i,hi,ei⟩:=rD.mp p_;obtain⟨j,hj,ej⟩:=rD.mp hp;have JO:i=j:=by
   refine(vV (xs:=ps.map (·.2)) (h₀:=by simpa using hi) (h₁:=by simpa using hj) h.n2).mp ?_;rw [px,px,ei,ej];exact q
  subst JO;exact z (ei.symm.trans ej)
 obtain⟨Ze,a',b'⟩:=h.lst p' p_;refine⟨Ze,by rw [ak n2];exact a',?_⟩;have e1:vT st p.1 e p'.1=st p'.1:=ax n1;rw [e1];exact Paired.dY b' λ_ _ z=>aY a z
def BQ (K:a0):Sp:=λvs H Q _=>∃(R:Addr)(rs:List Addr)(aa:List au),vs=[.ref R]/\aI K H R (rs.map V.ref)/\bT K H rs aa/\aa.length<=1000/\(∀ru∈aa,ru.2.length<=8) /\
 ∀(d:Addr)(ps:List (Str×Addr))(st:Str->List (Nat×Nat))(aQ:List (Str×Nat))(H':Hp),H d=none->aE H H'->H' d=some (.dK (ps.map jO))->Ew K ps st H' d->ps.map (·.1)=hd aa->(∀p∈ps,H p.2=none)->uj aa aQ->qO aa aa.length aQ ->
  (∀n k j,n∈hd aa->((k,j)∈st n↔PJ aa (hd aa) (λz=>decide (z∈aQ.map (·.1))) n k j))->Q (.ref d) H'
def i_:aN ["rules","empty","steps","number","rule","place","part","filled"] ["rules"] (aA Ag):=je rfl rfl rfl rfl nofun
def FU (F:iG K "steps_with_like_rows" "steps_with_like_rows" Ag f fd)(T:Txt mg)(GE:aG P w K mg base 1 "found_empties" ["rules"] (pM K))(GH:aG P w K mg base 1 "heads_of" ["rules"] (lP K)):bR P w K mg base fK 2 f fd ["rules"] (BQ K):=by
 refine F.ok i_ (λvs H Q E h=>?_) (λeJ A outer s H vs Q E hr h=>?_)
 .obtain⟨R,rs,aa,rfl,_⟩:=h;rfl
 obtain⟨R,rs,aa,rfl,hR,cY,bM,h8,q⟩:=h;have hu:=ff hr;refine⟨_,ai (aC (i:=1) i_.nd rfl (Or.inr rfl) (a7 (eI rfl) rfl T.Cv gu (ab (bK GE hr rfl (ab (pv 0) aj)) aj)))
  (ai (aC (i:=2) i_.nd rfl (a_ rfl) (a7 (eI rfl) rfl T.Cv gu (ab
   (aV ["name"] [] rfl (aP (bK GH hr rfl (ab (pv 0) aj))) (aS rfl rfl) nofun rfl nofun
    (λ_ _ _ _ _=>aq (i:=0) (show (["name"]:List Str).Nodup by decide +kernel) rfl (a_ rfl)) (λ_ _ _ _ _=>bF)
    (λ_ _ _ _ _=>bU (ab (pv 0) (ab (bJ aj) aj)))) aj)))
  (ai (bD b8 rfl (lU rfl T.Iu (ab (pv 0) aj)) (ft rfl (az (aq (i:=3) i_.nd rfl (a_ rfl)) (az (aq (i:=4) i_.nd rfl (a_ rfl)) bz)))
   (ai (iC (iy:=7) ["place","part"] [(1,"empty")] i_.nd rfl rfl rfl (oA rfl T.Iu (ab (b9 cN (pv 4) av (λ_ _=>rfl)) aj)) (aS rfl rfl) nofun rfl nofun
    (λ_ _ _ _ _=>dq (n:=2) K rfl (az (aq (i:=0) (show (["place","part","empty"]:List Str).Nodup by decide +kernel) rfl (a_ rfl)) (az (aq (i:=1) (show (["place","part","empty"]:List Str).Nodup by decide +kernel) rfl (a_ rfl)) bz)))
    (λ_ _ _ _ _=>gC (f_ (dW hu (pv 1) (pv 2)))) (λ_ _ _ _ _=>pv 0))
   (ao (bD b8 rfl (oA rfl T.Iu (ab (b9 cN (pv 4) av (λ_ _=>rfl)) aj)) (ft rfl (az (aq (i:=5) i_.nd rfl (a_ rfl)) (az (aq (i:=6) i_.nd rfl (a_ rfl)) bz)))
    (ao (cy (PW.pt (mY (f_ (jY hu (pv 6) (pv 2))) (jX (bu (C1 hu) (pv 7) (bU (ab (bJ aj) (ab (bJ (ab (pv 5) aj)) aj))) rfl))))
     (ao (cv (fY fU fV fX bA (fO hu (pv 2) (b9 cN (pv 4) av (λ_ _=>rfl)) (λ_ _=>rfl)) (ab (bU (ab (pv 3) (ab (pv 5) aj))) aj)))) aZ)))))
   )
  (ao (bC (pv 2))))),?_⟩
 nofun
 have ll:=bI cY;refine⟨_,rfl,R,rs,aa,rfl,hR,cY,bM,h8,λD1 CO aQ H1 f1 s1 e1 w1 emp lH=>?_⟩;have Wq:Paired (λt (kv:aM×V)=>aT K H1 t [kV kv.1,kv.2]) CO (aQ.map λp=>((Sum.inr p.1:aM),V.int (p.2:Int))):=cV w1 λ_ _ z=>z;refine⟨D1,CO,_,rfl,e1,Wq,λe he=>?_⟩;have ekE:cZ (aQ.map λp=>((Sum.inr p.1:aM),V.int (p.2:Int))) []=aQ.map λp=>((Sum.inr p.1:aM),V.int (p.2:Int)):=oO _ [] (by
  rw [mK,iz];have:=xb emp.nd;rw [iz] at this;exact this)
 rw [ekE];have Dc:∀z,(bj (aQ.map λp=>((Sum.inr p.1:aM),V.int (p.2:Int))) (Sum.inr z)).isSome=decide (z∈aQ.map (·.1)):=λz=>by
  rw [ju,eZ,decide_eq_true_iff,iz];have:(aQ.map λp:Str×Nat=>(Sum.inr p.1:aM))=(aQ.map (·.1)).map Sum.inr:=by rw [iz];rfl
  show _∈(aQ.map λp:Str×Nat=>(Sum.inr p.1:aM))↔_;rw [this];exact c_
 generalize (aQ.map λp=>((Sum.inr p.1:aM),V.int (p.2:Int)))=kE at Dc ⊢;have s2:=s1.trans (af he (.dK kE));have e2:upd H1 e (.dK kE) e=some (.dK kE):=ae;generalize upd H1 e (.dK kE)=H2 at s2 e2;refine⟨_,rfl,R,rs,aa,rfl,s2.seq hR,cY.same s2,bM,λD2 H3 f3 s3 e3=>?_⟩;have Ni:=jf (aa.map (·.1)) [];simp only [kM,ar] at Ni;refine⟨D2,rfl,⟨_,aI.of e3⟩,λD3 NW=>tZ (aI.of e3) ∅ NW λts ps H4 s4 e4 m4 p4 l4 n4=>?_⟩;have n1:(ps.map (·.1)).Nodup:=by rw [m4];exact qf _ iA
 have Dj:Paired (λt (kv:aM×V)=>aT K H4 t [kV kv.1,kv.2]) ts (ps.map jO):=cV p4 λ_ _ z=>z;refine⟨D3,ts,_,rfl,e4,Dj,λd vo=>?_⟩;have So:cZ (ps.map jO) []=ps.map jO:=oO _ [] (by
  rw [mK,oE];exact xb n1)
 rw [So];have s5:=((s2.trans s3).trans s4).trans (af vo (.dK (ps.map jO)));have yn:=af vo (.dK (ps.map jO));have e5:upd H4 d (.dK (ps.map jO)) d=some (.dK (ps.map jO)):=ae;have Sr:=yn _ _ (s4 _ _ (s3 _ _ e2));have zL:H d=none:=((s2.trans s3).trans s4).free vo;have S5:Ew K ps (λ_=>[]) (upd H4 d (.dK (ps.map jO))) d:=⟨.inl e5,n1,n4,λp hp=>⟨[],yn _ _ (l4 p hp).1,.nil⟩⟩;have Ph:∀p∈ps,H p.2=none:=λp hp=>(s2.trans s3).free (l4 p hp).2.1;generalize upd H4 d (.dK (ps.map jO))=H5 at s5 e5 Sr S5;clear yn;have eb:(λz=>(bj kE (Sum.inr z)).isSome)=λz=>decide (z∈aQ.map (·.1)):=funext Dc;refine⟨_,rfl,R,_,rfl,s5.seq hR,?_⟩
 let xR:rB:=λi σ H6=>∃(st:Str->List (Nat×Nat))(y3 y4 y5 y6 y7:Option V),σ=[aF R,aF e,aF d,y3,y4,y5,y6,y7]/\aE H H6/\H6 e=some (.dK kE)/\H6 d=some (.dK (ps.map jO))/\Ew K ps st H6 d /\
  (∀n,(st n).length<=8 * i)/\∀n k j,n∈hd aa->((k,j)∈st n↔k < i/\PJ aa (hd aa) (λz=>decide (z∈aQ.map (·.1))) n k j)
 refine jJ (xs:=rs.map V.ref) xR
  ⟨λ_=>[],none,none,none,none,none,rfl,s5,Sr,e5,S5,by simp,by simp⟩ ?_ ?_ ?_
 .rintro i σ H6 _ ⟨st,y3,y4,y5,y6,y7,rfl,s6,_⟩;exact s6.seq hR
 .rintro i x σ H6 t ex ⟨st,y3,y4,y5,y6,y7,rfl,s6,Od,X1,S6,l6,c6⟩ ht
  ac_nf0
  rw [bf] at ex;obtain⟨r,er,rfl⟩:=b_.mp ex;obtain⟨ru,tP,p,v1,v2⟩:=cY.get er;have qa:=cA tP;have NY:=h8 ru qa;have li:=(bh.mp tP).1;have zG:=af ht (.tup [.int (i:Int),.ref r]);have Lh:aT K (upd H6 t (.tup [.int (i:Int),.ref r])) t [.int (i:Int),.ref r]:=aT.of ae;have s7:=s6.trans zG;have Oc:=zG _ _ Od;have ed7:=zG _ _ X1;have S7:=S6.same zG;generalize upd H6 t (.tup [.int (i:Int),.ref r])=H7 at Lh s7 Oc ed7 S7;refine⟨t,_,rfl,Lh,rfl,_,_,rfl,_,_,rfl,rfl,?_⟩;refine⟨_,rfl,r,_,_,_,rfl,rfl,s7.tup v1,rfl,p,_,rfl,s7.tup v2,λD5 Pe=>zh rfl (s7.tup v2) ∅ Oc Pe λH8 OR e8=>?_⟩;rw [eb] at e8;have s8:=s7.trans OR;have ee8:=OR _ _ Oc;have ed8:=OR _ _ ed7;have S8:=S7.same OR;have nD5:∀p∈ps,p.2≠D5:=λp hp z=>by
   obtain⟨Ze,a,_⟩:=S7.lst p hp;rw [z,Pe] at a;cases a
  obtain⟨pn,yN,zM⟩:∃pn∈ps,pn.1=ru.1:=by
   have:ru.1∈ps.map (·.1):=by rw [m4];exact(ik _ _ _).mpr (.inr (iO qa))
   obtain⟨pn,a,b⟩:=bN.mp this;exact⟨pn,a,b⟩
  refine⟨_,rfl,r,_,_,_,rfl,rfl,s8.tup v1,rfl,p,_,rfl,s8.tup v2,?_⟩
  let Ed:rB:=λj σ H9=>∃(st:Str->List (Nat×Nat))(y5 y6:Option V),σ=[aF R,aF e,aF d,some (.int (i:Int)),aF r,y5,y6,aF D5]/\aE H H9/\H9 e=some (.dK kE)/\H9 d=some (.dK (ps.map jO))/\Ew K ps st H9 d /\
   H9 D5=some (.lst ((Dz (λz=>decide (z∈aQ.map (·.1))) ru.2 ru.2.length).map V.int))/\(∀n,(st n).length<=8 * i+j)/\∀n k j',n∈hd aa->((k,j')∈st n↔(k < i\/(k=i/\j' < j))/\PJ aa (hd aa) (λz=>decide (z∈aQ.map (·.1))) n k j')
  refine qd (xs:=ru.2.map V.str) Ed
   ⟨st,_,_,rfl,s8,ee8,ed8,S8,e8,λn=>l6 n,λn k j' hn=>by rw [c6 n k j' hn];simp⟩ ?_ ?_ ?_
  .rintro j σ H9 _ ⟨st,y5,y6,rfl,s9,_⟩;exact s9.tup v2
  .rintro j x σ H9 t2 jM ⟨st,y5,y6,rfl,s9,XY,X0,S9,e9,l9,c9⟩ jq
   ac_nf0
   rw [bf] at jM;obtain⟨z,ez,rfl⟩:=b_.mp jM;have lj:=(bh.mp ez).1;have ym:=af jq (.tup [.int (j:Int),.str z]);have Gz:aT K (upd H9 t2 (.tup [.int (j:Int),.str z])) t2 [.int (j:Int),.str z]:=aT.of ae;have wU:=s9.trans ym;have xD:=ym _ _ XY;have qL:=ym _ _ X0;have Es:=ym _ _ e9;have LU:=S9.same ym;generalize upd H9 t2 (.tup [.int (j:Int),.str z])=Bs at Gz wU xD qL Es LU;have mem:(bj (ps.map jO) (Sum.inr z)).isSome=true↔z∈hd aa:=by rw [eZ,oE,m4];exact c_
   have kZ:¬(z∈hd aa/\JA (λz=>decide (z∈aQ.map (·.1))) ru.2 j=true)->∀n k j',n∈hd aa->((k,j')∈st n↔(k < i\/(k=i/\j' < j+1))/\PJ aa (hd aa) (λz=>decide (z∈aQ.map (·.1))) n k j'):=λhn n k j' W5=>by
    rw [c9 n k j' W5];constructor
    .rintro⟨h1,h3⟩;exact⟨∅,h3⟩
    rintro⟨h1,h3⟩;refine⟨?_,h3⟩;by_cases c:k=i/\j'=j
    .obtain⟨Ar,z',a1,a2,a3,a4,a5⟩:=h3;rw [c.1,tP] at a1;cases a1;rw [c.2] at a5;rw [c.2,ez] at a3;cases a3;exact absurd ⟨a4,a5⟩ hn
    omega
   have Z1:∀n,(st n).length<=8 * i+(j+1):=λn=>by have:=l9 n;omega
   refine⟨t2,_,rfl,Gz,rfl,_,_,rfl,_,_,rfl,rfl,?_⟩;refine⟨_,rfl,_,rfl,d,_,rfl,cD.k (k:=Sum.inr z) qL,_,rfl,?_⟩;refine cx (λc=>?_) (λc=>?_)
   .have hz:=mem.mp c;refine⟨_,rfl,uo,λl1 RK=>?_⟩;have IZ:=af RK (.lst []);have Iy:upd Bs l1 (.lst []) l1=some (.lst []):=ae;have nl1:l1≠D5:=(aB Es RK).symm;generalize upd Bs l1 (.lst [])=Ef at IZ Iy;refine⟨_,rfl,EB,λl2 uD=>?_⟩;have KL:=af uD (.lst [.int (j:Int)]);have LF:upd Ef l2 (.lst [.int (j:Int)]) l2=some (.lst [.int (j:Int)]):=ae;have V1:l2≠D5:=(aB (IZ _ _ Es) uD).symm;generalize upd Ef l2 (.lst [.int (j:Int)])=zy at KL LF;refine⟨mj,λt3 Lj=>?_⟩;have TQ:=af Lj (.tup [.ref l1,.ref l2]);have e13:aT K (upd zy t3 (.tup [.ref l1,.ref l2])) t3 [.ref l1,.ref l2]:=aT.of ae;generalize upd zy t3 (.tup [.ref l1,.ref l2])=CH at TQ e13;have qH:=(IZ.trans KL).trans TQ;refine⟨t3,D5,l1,l2,_,[],[(j:Int)],rfl,rfl,e13,aI.of (qH _ _ Es),aI.of (TQ _ _ (KL _ _ Iy)),aI.of (TQ _ _ LF),nl1,V1,_,rfl,?_⟩;have HP:=LU.same qH;have MD:=wU.trans qH;refine cx (λc2=>?_) (λc2=>?_)
    .obtain⟨Zc,an,bn⟩:=HP.lst pn yN;have vn:=h_ ps n1 pn yN;rw [zM] at vn;have hg:cD CH d (.str ru.1) (some (.ref pn.2)):=by
      have:=cD.k (k:=Sum.inr ru.1) (qH _ _ qL);rw [vn] at this;exact this
     have ltn:=bI bn;have l9n:=l9 pn.1;refine⟨_,rfl,_,rfl,r,_,_,_,rfl,rfl,MD.tup v1,rfl,d,_,rfl,hg,.inl ⟨rfl,_,aI.of an⟩,_,rfl,_,rfl,mj,λt4 Dm=>?_⟩;have Ap:=af Dm (.tup [.int (i:Int),.int (j:Int)]);have e14:aT K (upd CH t4 (.tup [.int (i:Int),.int (j:Int)])) t4 [.int (i:Int),.int (j:Int)]:=aT.of ae;generalize upd CH t4 (.tup [.int (i:Int),.int (j:Int)])=H14 at Ap e14;have Ta:=HP.same Ap;have Ki:=Ap _ _ an;have Yy:=Paired.dY bn λt' (e':Nat×Nat)(z:aT K CH t' [.int (e'.1:Int),.int (e'.2:Int)])=>Ap.tup z;refine⟨pn.2,_,_,rfl,rfl,Ki,bq (by rw [ar];omega),?_⟩;have YV:=Ta.more (e:=(i,j)) yN Ki Yy e14;have ne1:e≠pn.2:=λz=>by have:=Ap _ _ (qH _ _ xD);rw [z,Ki] at this;cases this
     have ne2:d≠pn.2:=λz=>by have:=Ap _ _ (qH _ _ qL);rw [z,Ki] at this;cases this
     refine⟨vT st pn.1 (i,j),_,_,rfl,λb o hb=>?_,by rw [ak ne1];exact Ap _ _ (qH _ _ xD),by rw [ak ne2];exact Ap _ _ (qH _ _ qL),YV,by rw [ak (nD5 pn yN).symm];exact Ap _ _ (qH _ _ Es),λn=>?_,λn k j' W5=>?_⟩
     .rw [ak (λz=>by rw [z,Ph pn yN] at hb;cases hb)];exact Ap _ _ (MD b o hb)
     .have:=l9 n;unfold vT
      split
      .rw [bB];simp;omega
      omega
     have hit:PJ aa (hd aa) (λz=>decide (z∈aQ.map (·.1))) ru.1 i j:=⟨ru,z,tP,rfl,ez,hz,c2⟩;have LN:=c9 n k j' W5;unfold vT;by_cases cn:n=pn.1
     .rw [aw cn,bY,cg,LN];constructor
      .rintro(⟨h1,h3⟩ | h1)
       .exact⟨∅,h3⟩
       cases h1;exact⟨∅,by rw [cn,zM];exact hit⟩
      rintro⟨h1,h3⟩;by_cases cc:k=i/\j'=j
      .exact .inr (by rw [cc.1,cc.2])
      exact .inl ⟨∅,h3⟩
     rw [ax cn,LN];constructor
     .rintro⟨h1,h3⟩;exact⟨∅,h3⟩
     rintro⟨h1,h3⟩;refine⟨?_,h3⟩;by_cases cc:k=i/\j'=j
     .obtain⟨Ar,z',a1,a2,_⟩:=h3;rw [cc.1,tP] at a1;cases a1;exact absurd (a2.symm.trans zM.symm) cn
     omega
    exact⟨st,_,_,rfl,MD,qH _ _ xD,qH _ _ qL,HP,qH _ _ Es,Z1,kZ λ⟨_,h⟩=>c2 h⟩
   exact⟨st,_,_,rfl,wU,xD,qL,LU,Es,Z1,kZ λ⟨h,_⟩=>c (mem.mpr h)⟩
  rintro σ H9 ⟨st,y5,y6,rfl,s9,XY,X0,S9,e9,l9,c9⟩;rw [ar] at l9 c9;refine⟨st,_,_,_,_,_,rfl,s9,XY,X0,S9,λn=>?_,λn k j' hn=>?_⟩
  .have:=l9 n;omega
  rw [c9 n k j' hn];constructor
  .rintro⟨h1 | ⟨h1,h2⟩,h3⟩
   .exact⟨∅,h3⟩
   exact⟨∅,h3⟩
  rintro⟨h1,h3⟩;refine⟨?_,h3⟩;by_cases c:k < i
  .exact .inl c
  refine .inr ⟨∅,?_⟩;obtain⟨Ar,z',a1,_,a3,_⟩:=h3;have:k=i:=by omega
  rw [this,tP] at a1;cases a1;exact(bh.mp a3).1
 rintro σ H6 ⟨st,y3,y4,y5,y6,y7,rfl,s6,Od,X1,S6,l6,c6⟩;rw [ar,ll] at c6;refine⟨_,rfl,q d ps st aQ H6 zL s6 X1 S6 m4 Ph emp lH λn k j hn=>?_⟩;rw [c6 n k j hn];constructor
 .exact λh=>h.2
 intro h;obtain⟨Ar,_,a1,_⟩:=id h;exact⟨(bh.mp a1).1,h⟩
end
end ig
namespace L2
open PySem
def cD.r {H:Hp}{a:Addr}{kvs:List (aM×V)}{k:aM}(e:Rd H a (.dK kvs)):cD H a (kV k) (bj kvs k):=.inl ⟨kvs,k,e,rfl,rfl⟩
end L2
namespace ig
open PySem L2 M11
section
def Down (aa:List au) (names:List Str)(st:Str->List (Nat×Nat))(rk:Str->Nat):Prop:=∀n∈names,∀e∈st n,∃ru z,aa[e.1]?=some ru/\ru.2[e.2]?=some z/\z∈names/\rk z < rk n
def Kz (K:a0):Sp:=λvs H Q _=>∃(R d:Addr)(rs:List Addr)(aa:List au)(ps:List (Str×Addr))(st:Str->List (Nat×Nat))(name:Str)(rk:Str->Nat),vs=[.ref R,.ref d,.str name]/\aI K H R (rs.map V.ref)/\bT K H rs aa/\aa.length<=1000 /\
 Ew K ps st H d/\ps.length<=1000/\name∈ps.map (·.1)/\Down aa (ps.map (·.1)) st rk/\∀(D:Addr)(H':Hp),H D=none->aE H H'->H' D=some (.lst [])->Q (.ref D) H'
structure Eu (K:a0) (names:List Str)(rk:Str->Nat)(name:Str)(H H5:Hp)(D m:Addr)(mU:List Addr)(kq:List (Str×Addr)) (ms:List Str)(kvs:List (aM×V)):Prop where
 sm:aE H H5
 hD:H5 D=some (.lst (mU.map V.ref))
 hm:H5 m=some (.dK kvs)
 keys:kvs.map (·.1)=ms.map Sum.inr
 nd:ms.Nodup
 sub:∀x∈ms,x∈names
 wl:kq.length=ms.length+1
 wv:Paired (λt (e:Str×Addr)=>aT K H5 t [.str e.1,.ref e.2]) mU kq
 we:∀e∈kq,e.1∈names/\rk e.1<=rk name/\∃xs,H5 e.2=some (.lst xs)/\xs.length<=kq.length/\e.2≠D
def Eu.same {names:List Str}{rk:Str->Nat}{name:Str}{H H5 H6:Hp}{D m:Addr}{mU:List Addr}{kq:List (Str×Addr)}{ms:List Str}{kvs:List (aM×V)}(h:Eu K names rk name H H5 D m mU kq ms kvs)(s:aE H5 H6):Eu K names rk name H H6 D m mU kq ms kvs :=
 ⟨h.sm.trans s,s _ _ h.hD,s _ _ h.hm,h.keys,h.nd,h.sub,h.wl,Paired.dY h.wv λ_ _ z=>s.tup z,λe he=>let ⟨a,b,xs,c,d⟩:=h.we e he;⟨a,b,xs,s _ _ c,d⟩⟩
def Eu.len {names:List Str}{rk:Str->Nat}{name:Str}{H H5:Hp}{D m:Addr}{mU:List Addr}{kq:List (Str×Addr)}{ms:List Str}{kvs:List (aM×V)}(h:Eu K names rk name H H5 D m mU kq ms kvs):mU.length=kq.length/\kvs.length=ms.length/\ms.length<=names.length:=by
 refine⟨bI h.wv,?_,gK _ _ h.nd h.sub⟩;have:=congrArg List.length h.keys;simpa using this
def Eu.more {names:List Str}{rk:Str->Nat}{name z:Str}{H H5 H9:Hp}{D m t c:Addr}{mU:List Addr}{kq:List (Str×Addr)}{ms:List Str}{kvs:List (aM×V)}{xs:List V}(h:Eu K names rk name H H5 D m mU kq ms kvs)(fD:H D=none)(fm:H m=none)
  (hz:z∈names)(hr:rk z<=rk name)(hn:z∉ms)(s:aE (upd H5 m (.dK (bX kvs (Sum.inr z) (.bl true)))) H9)(ht:aT K H9 t [.str z,.ref c])(hc:H9 c=some (.lst xs))(hx:xs.length<=kq.length+1)(nc:c≠D) :
  Eu K names rk name H (upd H9 D (.lst (mU.map V.ref++[.ref t]))) D m (mU++[t]) (kq++[(z,c)]) (ms++[z]) (bX kvs (Sum.inr z) (.bl true)):=by
 have T6:D≠m:=λe=>by have:=h.hD;rw [e,h.hm] at this;cases this
 have vq:H9 D=some (.lst (mU.map V.ref)):=s _ _ (by rw [ak T6];exact h.hD);have hm9:H9 m=some (.dK (bX kvs (Sum.inr z) (.bl true))):=s _ _ ae;refine⟨λb o hb=>?_,by rw [ae,br];rfl,by rw [ak T6.symm];exact hm9,?_,?_,?_,?_,?_,?_⟩
 .rw [ak (λe=>by rw [e,fD] at hb;cases hb)];exact s _ _ (by rw [ak (λe=>by rw [e,fm] at hb;cases hb)];exact h.sm b o hb)
 .rw [ja (by rw [h.keys];exact λe=>hn (c_.mp e)),h.keys,br];rfl
 .refine jv.mpr ⟨h.nd,by simp,λa ha b hb e=>?_⟩;rw [cg.mp hb] at e;exact hn (e ▸ ha)
 .intro x WB;rcases bY.mp WB with e | e
  .exact h.sub x e
  rw [cg.mp e];exact hz
 .rw [bB,bB,h.wl];rfl
 .exact gR (Paired.dY h.wv λ_ _ e=>aY vq (s.tup (il h.hm e))) (aY vq ht)
 intro e he;rw [bB];rcases bY.mp he with e' | e'
 .obtain⟨a,b,ys,c1,d1,n1⟩:=h.we e e';exact⟨a,b,ys,by rw [ak n1];exact s _ _ (by rw [ak (λq=>by rw [q,h.hm] at c1;cases c1)];exact c1),∅,n1⟩
 rw [cg.mp e'];exact⟨hz,hr,xs,by rw [ak nc];exact hc,hx,nc⟩
def oo:aN ["rules","steps","name","ways","met","at","way","number","place","part"] ["rules","steps","name"] (aA Mt):=je rfl rfl rfl rfl nofun
def M5 (F:iG K "way_back" "way_back" Mt f fd)(T:Txt mg):bR P w K mg base fK 1 f fd ["rules","steps","name"] (Kz K):=by
 refine F.ok oo (λvs H Q E h=>?_) (λeJ A outer s H vs Q E hr h=>?_)
 .obtain⟨R,d,rs,aa,ps,st,name,rk,rfl,_⟩:=h;rfl
 obtain⟨R,d,rs,aa,ps,st,name,rk,rfl,hR,cY,bM,S,Ij,GQ,Xj,q⟩:=h;have hu:=ff hr;refine⟨_,ai (aC (i:=3) oo.nd rfl (a_ rfl) (bJ (ab (bU (ab (pv 2) (ab (bJ aj) aj))) aj)))
  (ai (aC (i:=4) oo.nd rfl (a_ rfl) fu)
  (ai (aC (i:=5) oo.nd rfl (a_ rfl) av)
  (ai (jB b8 (bu qv (pv 5) (aR bH rfl T.len gT (ab (pv 3) aj)) (cM _))
   (ai (aC (i:=6) oo.nd rfl (a_ rfl) (b9 cN (b9 cX (pv 3) (pv 5) (λ_ _=>rfl)) av (λ_ _=>rfl)))
   (ai (bD b8 rfl (aP (fO hu (pv 1) (b9 cN (b9 cX (pv 3) (pv 5) (λ_ _=>rfl)) av (λ_ _=>rfl)) (λ_ _=>rfl))) (ft rfl (az (aq (i:=7) oo.nd rfl (a_ rfl)) (az (aq (i:=8) oo.nd rfl (a_ rfl)) bz)))
    (ai (aC (i:=9) oo.nd rfl (a_ rfl) (b9 cN (b9 cN (b9 cX (pv 0) (pv 7) (λ_ _=>rfl)) av (λ_ _=>rfl)) (pv 8) (λ_ _=>rfl)))
    (ai (cy (bu jc (pv 9) (pv 2) (cM _)) (ao iT) aZ)
    (ao (cy (f_ (dW hu (pv 9) (pv 4)))
     (ai (gB hu (pv 4) (pv 9) gq rfl) (ao (cv (fY fU fV fX bA (pv 3) (ab (bU (ab (pv 9) (ab (aL iV (pv 6) (bJ (ab (bU (ab (pv 7) (ab (pv 8) aj))) aj))) aj))) aj))))) aZ)))))
   (ao (MT (i:=5) oo.nd rfl (a_ rfl) av Nv)))))
  (ao (bC (bJ aj)))))),?_⟩
 nofun
 have vj:(ps.map (·.1)).length=ps.length:=ar _;refine⟨_,rfl,uo,λl0 Ui=>?_⟩;have s1:=af Ui (.lst []);have e1:upd H l0 (.lst []) l0=some (.lst []):=ae;generalize upd H l0 (.lst [])=H1 at s1 e1;refine⟨mj,λt0 ht0=>?_⟩;have s2:=af ht0 (.tup [.str name,.ref l0]);have e2:aT K (upd H1 t0 (.tup [.str name,.ref l0])) t0 [.str name,.ref l0]:=aT.of ae;generalize upd H1 t0 (.tup [.str name,.ref l0])=H2 at s2 e2;refine⟨EB,λD hD=>?_⟩;have s3:=af hD (.lst [.ref t0]);have e3:upd H2 D (.lst [.ref t0]) D=some (.lst ([t0].map V.ref)):=ae;have nl0:l0≠D:=aB (s2 _ _ e1) hD;generalize upd H2 D (.lst [.ref t0])=H3 at s3 e3;intro m hm;have s4:=af hm (.dK []);have e4:upd H3 m (.dK []) m=some (.dK []):=ae;generalize upd H3 m (.dK [])=H4 at s4 e4;have fD:H D=none:=(s1.trans s2).free hD;have fm:H m=none:=((s1.trans s2).trans s3).free hm;have W0:Eu K (ps.map (·.1)) rk name H H4 D m [t0] [(name,l0)] [] []:=⟨((s1.trans s2).trans s3).trans s4,s4 _ _ e3,e4,rfl,iA,by simp,rfl,.cons ((s3.trans s4).tup e2) .nil,λe he=>by
  rw [cg.mp he];exact⟨GQ,aK _,[],s4 _ _ (s3 _ _ (s2 _ _ e1)),by simp,nl0⟩⟩
 refine⟨λmm σ H5=>∃(mU:List Addr)(kq:List (Str×Addr)) (ms:List Str)(kvs:List (aM×V)) (at_:Nat)(y6 y7 y8 y9:Option V),σ=[aF R,aF d,some (.str name),aF D,aF m,some (.int (at_:Int)),y6,y7,y8,y9]/\Eu K (ps.map (·.1)) rk name H H5 D m mU kq ms kvs /\
  at_<=kq.length/\mm=1002 - at_,⟨1002,[t0],[(name,l0)],[],[],0,none,none,none,none,rfl,W0,by simp,rfl⟩,?_⟩
 rintro mm σ H5 ⟨mU,kq,ms,kvs,at_,y6,y7,y8,y9,rfl,W,hat,rfl⟩;obtain⟨lw,lk,lm⟩:=W.len;have aad:=W.wl;refine⟨_,rfl,_,rfl,D,_,rfl,.inl (aI.of W.hD),_,_,rfl,rfl,_,rfl,?_⟩;refine cx (λc=>?_) (λc=>?_)
 .have c':=cI c;rw [ar,lw] at c';have j8:at_ < kq.length:=by omega
  obtain⟨n,l,en⟩:∃n l,kq[at_]?=some (n,l):=⟨(kq[at_]).1,(kq[at_]).2,cT j8⟩;obtain⟨t1,et1,O3⟩:=Paired.at_ W.wv at_ (n,l) en;have Oz:ux (mU.map V.ref) (at_:Int)=some (.ref t1):=dO (by rw [bf,et1];rfl);obtain⟨hn,hrn,xs,hl,hxl,Nd⟩:=W.we (n,l) (cA en);dsimp only at hn hrn hl Nd;obtain⟨pn,yN,zM⟩:=bN.mp hn;have vn:=h_ ps S.n1 pn yN;rw [zM] at vn;obtain⟨Zc,an,bn⟩:=S.lst pn yN;rw [zM] at bn;refine⟨λσ H5=>∃(mU:List Addr)(kq:List (Str×Addr)) (ms:List Str)(kvs:List (aM×V))(y6 y7 y8 y9:Option V),σ=[aF R,aF d,some (.str name),aF D,aF m,some (.int ((at_+1:Nat):Int)),y6,y7,y8,y9]/\Eu K (ps.map (·.1)) rk name H H5 D m mU kq ms kvs/\at_+1<=kq.length,?_,?_⟩
  .rintro σ H6 ⟨mU,kq,ms,kvs,y6,y7,y8,y9,rfl,W2,h2⟩;exact⟨1002 - (at_+1),∅,mU,kq,ms,kvs,at_+1,_,_,_,_,rfl,W2,h2,rfl⟩
  refine⟨_,rfl,_,rfl,D,_,_,_,rfl,rfl,aI.of W.hD,Oz,t1,_,_,_,rfl,rfl,O3,rfl,?_⟩;have hg:cD H5 d (.str n) (some (.ref pn.2)):=by
   have:=cD.r (k:=Sum.inr n) (Rd.same S.hd W.sm);rw [vn] at this;exact this
  refine⟨_,rfl,_,rfl,_,rfl,D,_,_,_,rfl,rfl,aI.of W.hD,Oz,t1,_,_,_,rfl,rfl,O3,rfl,d,_,rfl,hg,pn.2,rfl,⟨_,aI.of (W.sm _ _ an)⟩,?_⟩
  let xR:rB:=λi σ H6=>∃(mU:List Addr)(kq:List (Str×Addr)) (ms:List Str)(kvs:List (aM×V))(y7 y8 y9:Option V),σ=[aF R,aF d,some (.str name),aF D,aF m,some (.int (at_:Int)),aF l,y7,y8,y9]/\Eu K (ps.map (·.1)) rk name H H6 D m mU kq ms kvs /\
   at_+1<=kq.length/\∃e∈kq,e.2=l
  refine bZ (xs:=Zc.map V.ref) xR ⟨mU,kq,ms,kvs,_,_,_,rfl,W,j8,(n,l),cA en,rfl⟩ ?_ ?_ ?_
  .rintro i σ H6 _ ⟨mU,kq,ms,kvs,y7,y8,y9,rfl,W2,_⟩;exact aI.of (W2.sm _ _ an)
  .rintro i x σ H6 ex ⟨mU,kq,ms,kvs,y7,y8,y9,rfl,W2,h2,e0,Xi,XZ⟩
   ac_nf0
   rw [bf] at ex;obtain⟨ti,eti,rfl⟩:=b_.mp ex;have lbn:=bI bn;have lti:=(bh.mp eti).1;obtain⟨⟨k,j⟩,ekj⟩:∃e,(st n)[i]?=some e:=⟨(st n)[i]'∅,cT ∅⟩;obtain⟨ti',Sk,hti⟩:=Paired.at_ bn i (k,j) ekj;rw [eti] at Sk;cases Sk;obtain⟨ru,z,er,ez,hz,hrk⟩:=Xj n hn (k,j) (cA ekj);obtain⟨r,Pk,p,v1,v2⟩:=Paired.at_ cY k ru er;have atr:ux (rs.map V.ref) (k:Int)=some (.ref r):=dO (by rw [bf,Pk];rfl);have SQ:ux (ru.2.map V.str) (j:Int)=some (.str z):=dO (by rw [bf,ez];rfl);obtain⟨lw2,T7,lm2⟩:=W2.len;have ZU:=W2.wl;refine⟨ti,_,rfl,W2.sm.tup hti,rfl,_,_,rfl,_,_,rfl,rfl,?_⟩;refine⟨_,rfl,_,rfl,R,_,_,_,rfl,rfl,W2.sm.seq hR,atr,r,_,_,_,rfl,rfl,W2.sm.tup v1,rfl,_,rfl,p,_,_,_,rfl,rfl,W2.sm.tup v2,SQ,?_⟩;refine⟨_,rfl,_,rfl,rfl,_,rfl,?_⟩;have nz:z≠name:=λe=>by rw [e] at hrk;omega
   refine cx (λc=>absurd (cI c) (λe=>nz (by injection e))) (λ_=>?_);have mem:(bj kvs (Sum.inr z)).isSome=true↔z∈ms:=by rw [eZ,W2.keys];exact c_
   refine⟨_,rfl,_,rfl,m,_,rfl,cD.k (k:=Sum.inr z) W2.hm,_,rfl,?_⟩;refine cx (λc=>?_) (λc=>?_)
   .have nm:z∉ms:=λh=>by rw [mem.mpr h] at c;exact absurd c nofun
    refine⟨_,rfl,_,rfl,m,_,rfl,lK.k (k:=Sum.inr z) W2.hm (bq ∅),?_⟩;obtain⟨_,_,Ei,uD,aai,V1⟩:=W2.we e0 Xi;rw [XZ] at uD V1;have T6:D≠m:=λe=>by have:=W2.hD;rw [e,W2.hm] at this;cases this
    have nlm:l≠m:=λe=>by rw [e,W2.hm] at uD;cases uD
    have NV:upd H6 m (.dK (bX kvs (Sum.inr z) (.bl true))) D=some (.lst (mU.map V.ref)):=by rw [ak T6];exact W2.hD
    have hlu:upd H6 m (.dK (bX kvs (Sum.inr z) (.bl true))) l=some (.lst Ei):=by rw [ak nlm];exact uD
    refine⟨_,rfl,.inl ⟨rfl,_,aI.of NV⟩,_,rfl,_,rfl,_,rfl,_,rfl,mj,λt4 Dm=>?_⟩;have Zr:=af Dm (.tup [.int (k:Int),.int (j:Int)]);generalize upd (upd H6 m (.dK (bX kvs (Sum.inr z) (.bl true)))) t4 (.tup [.int (k:Int),.int (j:Int)])=H7 at Zr;refine⟨EB,λl4 hl4=>?_⟩;have Zq:=af hl4 (.lst [.ref t4]);have e5':upd H7 l4 (.lst [.ref t4]) l4=some (.lst [.ref t4]):=ae;generalize upd H7 l4 (.lst [.ref t4])=H8 at Zq e5';have OT:=Zr.trans Zq;refine⟨l,l4,Ei,[.ref t4],rfl,rfl,OT _ _ hlu,e5',fits (by simp;omega),λc0 hc0=>?_⟩;have Zp:=af hc0 (.lst (Ei++[.ref t4]));have e6':upd H8 c0 (.lst (Ei++[.ref t4])) c0=some (.lst (Ei++[.ref t4])):=ae;have nc0:c0≠D:=(aB (OT _ _ NV) hc0).symm;generalize upd H8 c0 (.lst (Ei++[.ref t4]))=H9 at Zp e6';refine⟨mj,λt5 Ru=>?_⟩;have VD:=af Ru (.tup [.str z,.ref c0]);have e7':aT K (upd H9 t5 (.tup [.str z,.ref c0])) t5 [.str z,.ref c0]:=aT.of ae;generalize upd H9 t5 (.tup [.str z,.ref c0])=Bs at VD e7';have sA:=(OT.trans Zp).trans VD;refine⟨D,_,_,rfl,rfl,sA _ _ NV,bq (by rw [ar];omega),?_⟩;exact⟨mU++[t5],kq++[(z,c0)],ms++[z],_,_,_,_,rfl,W2.more fD fm hz ∅ nm sA e7' (VD _ _ e6') (by rw [bB];simp;omega) nc0,by rw [bB];omega,e0,dH _ Xi,XZ⟩
   exact⟨mU,kq,ms,kvs,_,_,_,rfl,W2,h2,e0,Xi,XZ⟩
  rintro σ H6 ⟨mU,kq,ms,kvs,y7,y8,y9,rfl,W2,h2,_⟩;exact⟨_,rfl,_,_,rfl,rfl,mU,kq,ms,kvs,_,_,_,_,rfl,W2,h2⟩
 refine⟨uo,λD9 vq=>q D9 _ (W.sm.free vq) (W.sm.trans (af vq _)) ae⟩
end
end ig
namespace L2
open PySem PySem.Spec PyProof.Rows
section
variable {prog:Program}{w:World}{A:Around}{E:Value->Shared->Prop}{s:Shared}
def zu (a b c:Value):argsOk "min" ⟨[a],[("key",b),("default",c)]⟩:=by unfold argsOk;kernel_rfl
def uG {l:Addr}{kf dv:Value}{Q:Value->Shared->Prop}(hh:A.handled=none)(hl:s.heap.IsList l #[])(h:∀h' tk,(∀b o,s.heap.get? b=some o->h'.get? b=some o)->Q dv { s with heap:=h',toks:=tk }) :
  wpAny (model prog w) A (call (.builtin "min") [.ref l] [("key",kf),("default",dv)]) Q E s:=by
 have GQ:(toString "min" ++ toString ".loop":String) = "min.loop" := by decide
 refine kQ (vZ F.plain_min F.entry_min ?_);have core:wpAny (model prog w) A.in1 (Builtin.«min» ⟨[.ref l],[("key",kf),("default",dv)]⟩) (λfin s'=>match fin with
   | .done f=>(match (Except.ok f:Result) with | .ok (.ret v)=>Q v s' | .ok _=>False | .error e=>E e s')
   | .again c'=>c'.quiet=true/\codeAny (model prog w) A c' (λr s'=>match r with | .ok (.ret v)=>Q v s' | .ok _=>False | .error e=>E e s') s') E s:=by
  show wpAny _ A.in1 (Builtin.Builtins.bindParams "min" ["key","default"] 0 ⟨[],[("key",kf),("default",dv)]⟩ >>= _) _ _ s;refine ay (wpAny_of_eq (show Builtin.Builtins.bindParams "min" ["key","default"] 0 ⟨[],[("key",kf),("default",dv)]⟩=pure [some kf,some dv] from rfl) ?_);refine ay (aD ?_);refine ay (mN hl ?_);refine ay (iM ?_);rw [GQ];obtain⟨ol,h1,h2⟩:=id hl;generalize hG:s.heap.push { cls:=.type "list_iterator",data:=.fields #[.ref l,.int 0 0] }=G;have k1:∀b o,s.heap.get? b=some o->G.get? b=some o:=λb o e=>by rw [<-hG];exact bW _ e
  have hi:G.get? s.heap.objs.size=some { cls:=.type "list_iterator",data:=.fields #[.ref l,.int 0 0] }:=by rw [<-hG];exact cJ _ rfl
  refine aD ⟨jj F.plain_min_loop _,kK F.entry_min_loop ?_⟩;rw [mi F.plain_min_loop _];show wpAny _ A.in1 (seqItems? (.ref G.objs.size) >>= _) _ _ _;refine ay (mI (cJ _ rfl) rfl ?_);show wpAny _ A.in1 (tryCatch (pyNext (.ref s.heap.objs.size)) _ >>= _) _ _ _;refine ay (wpAny_tryCatch (v_ (show A.in1.handled=none from hh) ⟨_,bW _ hi,rfl,rfl⟩ ⟨ol,bW _ (k1 _ _ h1),h2⟩ (by simp) λh' eb=>?_));refine ay (iw (aD ?_));exact h h' _ λb o e=>eb b o (bE (bo e)) (bW _ (k1 b o e))
 simp only [checkBuiltinCall,F.kind_min];cases WO:Manifest.signature? "min" with
 | none=>exact aD core
 | some sig =>
  have ha':Bind.checkArgs "min" sig ⟨[.ref l],[("key",kf),("default",dv)]⟩=pure ():=by have:=zu (.ref l) kf dv;simpa only [argsOk,WO] using this
  simp only [ha'];exact aD core
end
def P6 (K:a0)(t:TA)(td:TE):TE:=λσ H Q=>t σ H λvs H1=>td σ H1 λdv H2=>∃a,vs=[.ref a]/\aI K H2 a []/\Q dv H2
def Jc {X:Cx}{p pos lp Wq Dj:Pos}{e e2:Expr}{t:TA}{td:TE}(hc:X.calm=true)(hg:Gl X "min")(hm:X.mg "min"=none)(RN:Gl X "len")(Ll:X.mg "len"=none)(ha:PA X [e] t)(hd:PE X e2 td)
  (he:backTo pos (starEach [e] X.env)=(false,eval e X.env)::backTo pos (starEach [] X.env):=by rfl)(hp:(backTo pos (starEach [e] X.env)).any (·.1)=false:=by rfl) :
  PE X (.Call (.Name "min" p) [e] [⟨some "key",.Name "len" lp,Wq⟩,⟨some "default",e2,Dj⟩] pos) (P6 X.K t td):=by
 intro ag s σ H Q I h;refine nU (iW I hg hm boot_min ?_);refine callWith_kw (df (ha pos ag s σ H _ I h) λus s1 bL=>?_) he hp rfl rfl;obtain⟨vs,H1,I1,r1,q1⟩:=bL;refine kws_cons (iW I1 RN Ll gT (kws_cons (df (hd ag s1 σ H1 _ I1 q1) λu2 s2 bL=>?_)));obtain⟨dv,H2,I2,r2,a,ev,hs,q⟩:=bL;refine kws_nil ?_;subst ev;obtain⟨u,rfl,rx⟩:=vals1 r1;cases (show u=Value.ref a from rx);obtain⟨aU,rv,pl,hz⟩:=I2.list hs;cases rv;exact uG (I2.ok.hd hc) pl.isList λh' tk kk=>⟨dv,H2,I2.kept (t':=tk) kk,r2,q⟩
open PySem
def DP {K:a0}{H:Hp}{p D:Addr}{ls:List Addr}{σ:St}{x:Str}{Qp:Hp->Prop}(hp:H p=some (.lst (ls.map V.ref)))(hl:∀l∈ls,H l=some (.lst []))(hD:H D=none)(q:∀H2,aE H H2->H2 D=some (.lst [])->Qp H2) :
  ∃W:Nat->Nat->List V->St->Hp->Prop,(∃m,W 0 m [] (dN [x] [] σ) (upd H D (.lst []))) /\
 ∀i m ys σ' H,W i m ys σ' H->((jN K p).stop i H/\Qp H)\/((jN K p).go i H/\∃m',m' < m/\∀x H',(jN K p).mT i H x H'->di 0 x σ' H' λσ2 H2=>gO 0 σ2 H2 λx H'=>∃k,HN K x H' k/\(λb H3 =>
  if b=true then gO 0 σ2 H3 λy H4=>H4 D=some (.lst ys)/\ys.length < sizeLine/\W (i+1) m' (ys++[y]) σ2 (upd H4 D (.lst (ys++[y]))) else W (i+1) m' ys σ2 H3) k H'):=by
 refine cq (tif:=λσ H Q=>gO 0 σ H λx H'=>∃k,HN K x H' k/\Q k H') (xs:=ls.map V.ref) (λi ys σ2 H5=>ys=[]/\(∃y0,σ2=[y0])/\aE H H5/\H5 D=some (.lst [])) ⟨rfl,⟨none,rfl⟩,af hD _,ae⟩ (λi ys σ2 H5 _ h=>aI.of (h.2.2.1 _ _ hp)) (λi x ys σ2 H5 ex h=>?_) (λys σ2 H5 h=>?_)
 .obtain⟨rfl,⟨y0,rfl⟩,s5,e5⟩:=h;rw [bf] at ex;obtain⟨l,el,rfl⟩:=b_.mp ex;refine goN ?_;refine⟨_,rfl,false,.inl ⟨[],aI.of (s5 _ _ (hl l (cA el))),rfl⟩,?_⟩;refine l7 ?_;exact⟨rfl,⟨_,rfl⟩,s5,e5⟩
 obtain⟨rfl,_,s5,e5⟩:=h;exact q H5 s5 e5
end L2
namespace ig
open PySem L2 M11
section
def Br (aa:List au)(rk:Str->Nat):Prop:=∀aQ,uj aa aQ->qO aa aa.length aQ->∀n k j,PJ aa (hd aa) (λz=>decide (z∈aQ.map (·.1))) n k j->∀ru z,aa[k]?=some ru->ru.2[j]?=some z->rk z < rk n
def EX (K:a0):Sp:=λvs H Q _=>∃(R:Addr)(rs:List Addr)(aa:List au)(rk:Str->Nat),vs=[.ref R]/\aI K H R (rs.map V.ref)/\bT K H rs aa/\aa.length<=1000/\(∀ru∈aa,ru.2.length<=8)/\Br aa rk /\
 ∀(D:Addr)(H':Hp),H D=none->aE H H'->H' D=some (.lst [])->Q (.ref D) H'
def Ac:aN ["rules","steps","loops"] ["rules"] (aA Ff):=je rfl rfl rfl rfl nofun
def Jp (F:iG K "find_loop" "find_loop" Ff f fd)(T:Txt mg)(GS:aG P w K mg base 2 "steps_with_like_rows" ["rules"] (BQ K))(GW:aG P w K mg base 1 "way_back" ["rules","steps","name"] (Kz K)):bR P w K mg base fK 3 f fd ["rules"] (EX K):=by
 refine F.ok Ac (λvs H Q E h=>?_) (λeJ A outer s H vs Q E hr h=>?_)
 .obtain⟨R,rs,aa,rk,rfl,_⟩:=h;rfl
 obtain⟨R,rs,aa,rk,rfl,hR,cY,bM,h8,hnl,q⟩:=h;refine⟨_,ai (aC (i:=1) Ac.nd rfl (Or.inr rfl) (bK GS hr rfl (ab (pv 0) aj)))
  (ai (iC (iy:=2) ["name"] [(0,"rules"),(1,"steps")] Ac.nd rfl rfl rfl (B_ (pv 1)) (aS rfl rfl) nofun rfl nofun
   (λ_ _ _ _ _=>aq (i:=0) (show (["name","rules","steps"]:List Str).Nodup by decide +kernel) rfl (a_ rfl)) (λ_ _ _ _ _=>bF)
   (λ_ _ _ _ _=>bK (GW.mono (by decide:1<=2)) hr rfl (ab (pv 1) (ab (pv 2) (ab (pv 0) aj)))))
  (ao (bC (Jc rfl rfl T.min rfl T.len (ab (aV ["loop"] [] rfl (aP (pv 2)) (aS rfl rfl) nofun rfl nofun
   (λ_ _ _ _ _=>aq (i:=0) (show (["loop"]:List Str).Nodup by decide +kernel) rfl (a_ rfl)) (λ_ _ _ _ _=>gC (CW K (pv 0) (λ_=>rfl))) (λ_ _ _ _ _=>pv 0)) aj) (bJ aj))))),?_⟩
 nofun
 refine⟨_,rfl,R,rs,aa,rfl,hR,cY,bM,h8,λd ps st aQ H1 fd1 s1 e1 S1 m1 Ph emp lH hits=>?_⟩;have lps:ps.length<=1000:=by
  have h1:=congrArg List.length m1;have h2:=jf (aa.map (·.1)) [];simp only [kM,ar] at h2;rw [ar] at h1;have h3:(hd aa).length=(xF [] (aa.map (·.1))).length:=rfl;omega
 have Xj:Down aa (ps.map (·.1)) st rk:=λn hn e he=>by
  rw [m1] at hn ⊢;have hit:=(hits n e.1 e.2 hn).mp he;obtain⟨ru,z,er,_,ez,hz,_⟩:=id hit;exact⟨ru,z,er,ez,hz,hnl aQ emp lH n e.1 e.2 hit ru z er ez⟩
 refine⟨_,rfl,d,_,rfl,e1,λo D hD=>?_⟩;have VX:∀p∈ps,p.2≠d:=λp hp z=>by
  obtain⟨ts,a,_⟩:=S1.lst p hp;rw [z,e1] at a;cases a
 have s2:aE H (upd H1 d (.ky o (.dK (ps.map jO)))):=λb u hb=>by
  rw [ak (λz=>by rw [z,fd1] at hb;cases hb)];exact s1 b u hb
 have S2:Ew K ps st (upd H1 d (.ky o (.dK (ps.map jO)))) d:=⟨.inr ⟨o,ae⟩,S1.n1,S1.n2,λp hp=>by
  obtain⟨ts,a,b⟩:=S1.lst p hp;exact⟨ts,by rw [ak (VX p hp)];exact a,Paired.dY b λ_ _ z=>il e1 z⟩⟩
 have e2:upd H1 d (.ky o (.dK (ps.map jO))) d=some (.ky o (.dK (ps.map jO))):=ae;generalize upd H1 d (.ky o (.dK (ps.map jO)))=H2 at hD s2 S2 e2 ⊢;refine t_ (λi ys σ2 H3=>∃ls:List Addr,ys=ls.map V.ref/\ls.length=i/\(∀l∈ls,H3 l=some (.lst [])/\l≠D)/\(∃y0,σ2=[y0,aF R,aF d])/\aE H2 H3/\H3 D=some (.lst ys))
  ⟨[],rfl,rfl,by simp,⟨none,rfl⟩,af hD _,ae⟩ (λi ys σ2 H3 _ h=>?_) (λi kv ys σ2 H3 ex h=>?_) (λys σ2 H3 h=>?_)
 .obtain⟨_,_,_,_,_,sm,_⟩:=h;exact sm _ _ e2
 .obtain⟨ls,rfl,hls,hl,⟨y0,rfl⟩,sm,jn⟩:=h;rw [bf] at ex;obtain⟨p,ep,rfl⟩:=b_.mp ex;have hp:=cA ep;have li:=(bh.mp ep).1;refine goN (yS ?_);have s3:=s2.trans sm;refine⟨_,rfl,_,rfl,_,rfl,R,d,rs,aa,ps,st,p.1,rk,rfl,s3.seq hR,cY.same s3,bM,S2.same sm,lps,iO hp,Xj,λD4 H4 f4 s4 e4=>?_⟩;have Co:=s4 _ _ jn;have ZR:D4≠D:=λz=>by rw [z,jn] at f4;cases f4
  refine⟨Co,bq (by rw [ar];omega),ls++[D4],by rw [br];rfl,by rw [bB,hls];rfl,λl W9=>?_,⟨_,rfl⟩,λb u hb=>?_,ae⟩
  .rcases bY.mp W9 with h | h
   .obtain⟨a1,a2⟩:=hl l h;exact⟨by rw [ak a2];exact s4 _ _ a1,a2⟩
   rw [cg.mp h];exact⟨by rw [ak ZR];exact e4,ZR⟩
  rw [ak (λz=>by rw [z,hD] at hb;cases hb)];exact s4 _ _ (sm b u hb)
 obtain⟨ls,rfl,hls,hl,_,sm,jn⟩:=h;have s3:=s2.trans sm;refine⟨_,rfl,D,rfl,⟨_,aI.of jn⟩,λD5 Pe=>?_⟩;refine DP jn (λl W9=>(hl l W9).1) Pe λH5 s5 e5=>?_;refine⟨uo,λD6 Xy=>⟨D5,rfl,aI.of (af Xy _ _ _ e5),?_⟩⟩;exact q D6 _ ((s3.trans s5).free Xy) ((s3.trans s5).trans (af Xy _)) ae
end
end ig
namespace L2
open PySem
def Bx {K:a0}{T:Addr}{pos:Pos}{qu:Str}{H H':Hp}{a:Addr}{xs:List V}(s:gA T H H')(t:Tab T pos qu H)(h:aT K H a xs):aT K H' a xs:=by
 obtain⟨ps,b,_⟩:=t;rcases h with (h | ⟨u,h⟩) | h
 .exact .inl (.inl (s _ _ (λz=>by rw [z,b] at h;cases h) h))
 .exact .inl (.inr ⟨u,s _ _ (λz=>by rw [z,b] at h;cases h) h⟩)
 exact .inr h
def B3 {K:a0}{T:Addr}{pos:Pos}{qu:Str}{H H':Hp}{a:Addr}{xs:List V}(s:gA T H H')(t:Tab T pos qu H)(h:aI K H a xs):aI K H' a xs:=by
 obtain⟨ps,b,_⟩:=t;rcases h with (h | ⟨u,h⟩) | h
 .exact .inl (.inl (s _ _ (λz=>by rw [z,b] at h;cases h) h))
 .exact .inl (.inr ⟨u,s _ _ (λz=>by rw [z,b] at h;cases h) h⟩)
 exact .inr h
def By {T T':Addr}{pos pos':Pos}{qu Ib:Str}{H H':Hp}(s:gA T H H')(t:Tab T pos qu H)(h:Tab T' pos' Ib H)(n:T'≠T):Tab T' pos' Ib H':=by
 obtain⟨ps,b,_⟩:=t;obtain⟨VM,a,o,c⟩:=h;refine⟨VM,s _ _ n a,o,c.imp id ?_⟩;rintro⟨c',e,g⟩;exact⟨c',e,s _ _ (λz=>by rw [z,b] at g;cases g) g⟩
def tX {K:a0}{H:Hp}{p D:Addr}{zs:List Str}{σ:St}{js:List (Nat×Str)}{cs:List (Option V)}{tif:TT}{te:TE}{Qp:Hp->Prop}(hσ:dN ["name"] js σ=none::cs)(hp:aI K H p (zs.map V.str))(hD:H D=none)
  (ht:∀z∈zs,∀H2 Q,aE H H2->Q false H2->tif (some (.str z)::cs) H2 Q)(q:∀H2,aE H H2->H2 D=some (.lst [])->Qp H2) :
  ∃W:Nat->Nat->List V->St->Hp->Prop,(∃m,W 0 m [] (dN ["name"] js σ) (upd H D (.lst []))) /\
 ∀i m ys σ' H,W i m ys σ' H->((jN K p).stop i H/\Qp H)\/((jN K p).go i H/\∃m',m' < m/\∀x H',(jN K p).mT i H x H'->di 0 x σ' H' λσ2 H2=>tif σ2 H2 λb H3 =>
  if b=true then te σ2 H3 λy H4=>H4 D=some (.lst ys)/\ys.length < sizeLine/\W (i+1) m' (ys++[y]) σ2 (upd H4 D (.lst (ys++[y]))) else W (i+1) m' ys σ2 H3):=by
 refine cq (xs:=zs.map V.str) (λi ys σ2 H5=>ys=[]/\(∃y0,σ2=y0::cs)/\aE H H5/\H5 D=some (.lst [])) ⟨rfl,⟨none,hσ⟩,af hD _,ae⟩ (λi ys σ2 H5 _ h=>h.2.2.1.seq hp) (λi x ys σ2 H5 ex h=>?_) (λys σ2 H5 h=>?_)
 .obtain⟨rfl,⟨y0,rfl⟩,s5,e5⟩:=h;rw [bf] at ex;obtain⟨z,ez,rfl⟩:=b_.mp ex;refine goN ?_;refine ht z (cA ez) H5 _ s5 ?_;refine l7 ?_;exact⟨rfl,⟨_,rfl⟩,s5,e5⟩
 obtain⟨rfl,_,s5,e5⟩:=h;exact q H5 s5 e5
end L2
namespace ig
open PySem L2 M11
section
structure Good (aa:List au)(rk:Str->Nat)(b:Str->Int):Prop where
 least:∀g,dM M11.bl aa (xt aa) g->iF M11.bl aa g->∀h∈hd aa,∃n,g h=some n/\n<=60
 met:∀hX ms,aa[0]?=some hX->hX.1∈ms->Ec aa aa.length ms->∀h∈hd aa,h∈ms
 loop:Br aa rk
 bnd:uk aa b
 most:∀h∈hd aa,b h<=60
def mD (T1 T2:Addr)(H H':Hp):Prop:=∀b o,b≠T1->b≠T2->H b=some o->H' b=some o
def sr (K:a0)(T1 T2:Addr):Sp:=λvs H Q _=>∃(R S:Addr)(rs ss:List Addr)(aa str:List au)(rk:Str->Nat)(b:Str->Int),vs=[.ref R,.ref S]/\aI K H R (rs.map V.ref)/\bT K H rs aa/\aa.length<=1000/\(∀ru∈aa,ru.2.length<=8)/\aa≠[] /\
 aI K H S (ss.map V.ref)/\bT K H ss str/\str.length<=1000/\(∀ru∈str,ru.2.length<=8)/\(str.flatMap (·.2)).Nodup/\Good aa rk b/\Tab T1 sX.2.2.2 zH H/\Tab T2 AO.2.2.2 K5 H/\T1≠T2 /\
 ∀H',mD T1 T2 H H'->Tab T1 sX.2.2.2 zH H'->Tab T2 AO.2.2.2 K5 H'->Q .gb H'
def ip:aN ["rules","strengths","least","endless","met","unmet","steps","greatest","vast"] ["rules","strengths"] (aA wK):=je rfl rfl rfl rfl nofun
def C4 {T1 T2:Addr}{tm:Tok}(F:iG K "refuse_faults" "refuse_faults" wK f fd)(T:Txt mg)(hM:mg "MOST_RULES"=some (.int 60 tm))(GT:aG P w K mg base 1 "refuse_twice" ["strengths"] (BO K))(GL:aG P w K mg base 3 "least_sizes" ["rules"] (qS K T1))
  (GH:aG P w K mg base 1 "heads_of" ["rules"] (lP K))(GM:aG P w K mg base 1 "names_met" ["rules"] (KC K))(GF:aG P w K mg base 3 "find_loop" ["rules"] (EX K))(GG:aG P w K mg base 3 "greatest_empty_sizes" ["rules"] (wB K T2)) :
  bR P w K mg base fK 4 f fd ["rules","strengths"] (sr K T1 T2):=by
 refine F.ok ip (λvs H Q E h=>?_) (λeJ A outer s H vs Q E hr h=>?_)
 .obtain⟨R,S,rs,ss,aa,str,rk,b,rfl,_⟩:=h;rfl
 obtain⟨R,S,rs,ss,aa,str,rk,b,rfl,hR,cY,bM,h8,Eo,hS,Ua,WL,WT,WR,gd,JS,Us,nT,q⟩:=h;have hu:=ff hr;refine⟨_,ai (cy (Fz (jA (pv 0) (λ_=>rfl))) (ao iT) aZ)
  (ai (cv (bK (GT.mono (by decide:1<=3)) hr rfl (ab (pv 1) aj)))
  (ai (aC (i:=2) ip.nd rfl (Or.inr rfl) (bK GL hr rfl (ab (pv 0) aj)))
  (ai (iC (iy:=3) ["name"] [(2,"least")] ip.nd rfl rfl rfl (aP (bK (GH.mono (by decide:1<=3)) hr rfl (ab (pv 0) aj))) (aS rfl rfl) nofun rfl nofun
   (λ_ _ _ _ _=>aq (i:=0) (show (["name","least"]:List Str).Nodup by decide +kernel) rfl (a_ rfl)) (λ_ _ _ _ _=>gC (f_ (dW hu (pv 0) (pv 1)))) (λ_ _ _ _ _=>pv 0))
  (ai (cy (jA (pv 3) (λ_=>rfl)) (ao iT) aZ)
  (ai (aC (i:=4) ip.nd rfl (Or.inr rfl) (bK (GM.mono (by decide:1<=3)) hr rfl (ab (pv 0) aj)))
  (ai (iC (iy:=5) ["name"] [(4,"met")] ip.nd rfl rfl rfl (aP (bK (GH.mono (by decide:1<=3)) hr rfl (ab (pv 0) aj))) (aS rfl rfl) nofun rfl nofun
   (λ_ _ _ _ _=>aq (i:=0) (show (["name","met"]:List Str).Nodup by decide +kernel) rfl (a_ rfl)) (λ_ _ _ _ _=>gC (f_ (dW hu (pv 0) (pv 1)))) (λ_ _ _ _ _=>pv 0))
  (ai (cy (jA (pv 5) (λ_=>rfl)) (ao iT) aZ)
  (ai (aC (i:=6) ip.nd rfl (a_ rfl) (bK GF hr rfl (ab (pv 0) aj)))
  (ai (cy (jA (pv 6) (λ_=>rfl)) (ao iT) aZ)
  (ai (aC (i:=7) ip.nd rfl (Or.inr rfl) (bK GG hr rfl (ab (pv 0) aj)))
  (ai (iC (iy:=8) ["name"] [(2,"least"),(7,"greatest")] ip.nd rfl rfl rfl (aP (bK (GH.mono (by decide:1<=3)) hr rfl (ab (pv 0) aj))) (aS rfl rfl) nofun rfl nofun
   (λ_ _ _ _ _=>aq (i:=0) (show (["name","least","greatest"]:List Str).Nodup by decide +kernel) rfl (a_ rfl)) (λ_ _ _ _ _=>gC (bu FQ (aR (vJ rfl) rfl T.max PyProof.Rows.boot_max (ab (fO hu (pv 1) (pv 0) (λ_ _=>rfl)) (ab (iU hu (pv 2) (pv 0) av ⟨rfl,rfl,rfl,rfl⟩) aj))) (Je (v:=.int 60) rfl hM ⟨tm,rfl⟩) (cM _))) (λ_ _ _ _ _=>pv 0))
  (ao (cy (jA (pv 8) (λ_=>rfl)) (ao iT) aZ))))))))))))),?_⟩
 nofun
 have ll:=bI cY;obtain⟨hX,O5⟩:∃hX,aa[0]?=some hX:=by
  cases aa with
  | nil=>exact absurd rfl Eo
  | cons a r=>exact⟨a,rfl⟩
 have eR:(rs.map V.ref).isEmpty=false:=by
  have l0:=(bh.mp O5).1;cases rs with
  | nil=>simp at ll;omega
  | cons a r=>rfl
 refine⟨_,rfl,true,.inl ⟨_,hR,by rw [eR];rfl⟩,?_⟩;refine l7 ?_;refine⟨_,rfl,S,ss,str,rfl,hS,Ua,WL,WT,WR,λH1 s1=>?_⟩;have TF:=JS.same s1;have t21:=Us.same s1;refine⟨_,rfl,R,rs,aa,rfl,s1.seq hR,cY.same s1,bM,h8,TF,λdl kl ksl gl H2 fl s2 t12 el kkl vl stl sel _=>?_⟩;have Ip:=B3 s2 TF (s1.seq hR);have Dn:=(cY.same s1).keep λ_ _ z=>Bx s2 TF z;have t22:=By s2 TF t21 nT.symm;have hl:=gd.least gl stl sel;have S02:mD T1 T2 H H2:=λb o n1 _ hb=>s2 b o n1 (s1 b o hb);refine⟨_,rfl,R,rs,aa,rfl,Ip,Dn,bM,λD3 H3 f3 s3 e3=>⟨D3,rfl,⟨_,aI.of e3⟩,λD4 hD4=>tX rfl (aI.of e3) hD4 (λz hz H' Q' s' hQ=>?_) λH4 s4 e4=>?_⟩⟩
 .obtain⟨n,en,_⟩:=hl z hz;have hg:cD H' dl (.str z) (some (.int n)):=by
   have:=cD.k (k:=Sum.inr z) (s' _ _ (s3 _ _ el));rw [vl,en] at this;exact this
  exact⟨_,rfl,_,rfl,dl,_,rfl,hg,_,rfl,hQ⟩
 refine⟨_,rfl,false,.inl ⟨[],aI.of e4,rfl⟩,?_⟩;refine l7 ?_;have MC:=s3.trans s4;refine⟨_,rfl,R,rs,aa,hX,rfl,MC.seq Ip,Dn.same MC,O5,bM,h8,λdm km ms H5 f5 s5 em kkm CP _ mc5=>?_⟩;have VF:=MC.trans s5;refine⟨_,rfl,R,rs,aa,rfl,VF.seq Ip,Dn.same VF,bM,λD6 H6 f6 s6 e6=>⟨D6,rfl,⟨_,aI.of e6⟩,λD7 Xx=>tX rfl (aI.of e6) Xx (λz hz H' Q' s' hQ=>?_) λH7 s7 e7=>?_⟩⟩
 .have hm:=gd.met hX ms O5 CP mc5 z hz;have hv:(bj km (Sum.inr z)).isSome=true:=by rw [eZ,kkm];exact c_.mpr hm
  refine⟨_,rfl,_,rfl,dm,_,rfl,cD.k (k:=Sum.inr z) (s' _ _ (s6 _ _ em)),_,rfl,?_⟩;rw [hv];exact hQ
 refine⟨_,rfl,false,.inl ⟨[],aI.of e7,rfl⟩,?_⟩;refine l7 ?_;have VE:=(VF.trans s6).trans s7;refine⟨_,rfl,R,rs,aa,rk,rfl,VE.seq Ip,Dn.same VE,bM,h8,gd.loop,λD8 H8 f8 s8 e8=>?_⟩;refine⟨_,rfl,false,.inl ⟨[],aI.of e8,rfl⟩,?_⟩;refine l7 ?_;have KJ:=VE.trans s8;have t18:=t12.same KJ;have Qi:=t22.same KJ;refine⟨_,rfl,R,rs,aa,b,rfl,KJ.seq Ip,Dn.same KJ,bM,h8,gd.bnd,Qi,λdg kg ksg gg H9 f9 s9 t29 eg kkg vg jg _ _=>?_⟩;have hR9:=B3 s9 Qi (KJ.seq Ip);have WU:=(Dn.same KJ).keep λ_ _ z=>Bx s9 Qi z;have Vt:=By s9 Qi t18 nT;have el8:=KJ _ _ el;have el9:=s9 _ _ (λz=>by obtain⟨ps,a,_⟩:=Qi;rw [<-z,el8] at a;cases a) el8;refine⟨_,rfl,R,rs,aa,rfl,hR9,WU,bM,λY3 Bs f10 wU Es=>⟨Y3,rfl,⟨_,aI.of Es⟩,λD11 Xz=>tX rfl (aI.of Es) Xz (λz hz H' Q' s' hQ=>?_) λEf IZ Iy=>?_⟩⟩
 .obtain⟨n,en,aak⟩:=hl z hz;have JP:cD H' dl (.str z) (some (.int n)):=by
   have:=cD.k (k:=Sum.inr z) (s' _ _ (wU _ _ el9));rw [vl,en] at this;exact this
  have eg':=s' _ _ (wU _ _ eg);obtain⟨v,hv1,hv2⟩:∃v:Int,((gg z).map V.int).getD (.int 0)=.int v/\v<=60:=by
   cases e:gg z with
   | none=>exact⟨0,rfl,nofun⟩
   | some v=>exact⟨v,rfl,o5 (jg z v e).2.1 (gd.most z hz)⟩
  have RN:cD H' dg (.str z) ((gg z).map V.int):=by
   have:=cD.k (k:=Sum.inr z) eg';rw [vg] at this;exact this
  refine⟨_,rfl,_,rfl,dl,_,rfl,JP,_,rfl,dg,rfl,.inl ⟨_,.inl eg'⟩,_,rfl,_,RN,?_⟩;rw [hv1];refine⟨n,v,rfl,_,_,rfl,rfl,_,rfl,?_⟩;rw [gJ (by split <;> omega)]
  exact hQ
 refine⟨_,rfl,false,.inl ⟨[],aI.of Iy,rfl⟩,?_⟩;refine l7 ?_;have Mz:=wU.trans IZ;exact q Ef (λc o n1 n2 hc=>Mz c o (s9 c o n2 (KJ c o (S02 c o n1 n2 hc)))) (Vt.same Mz) (t29.same Mz)
end
end ig
namespace M11
open PySem L2
abbrev Be:=Str×Str×Nat×Nat
def aX (a9:List Be):List (Str×Str):=a9.map λb=>(b.1,b.2.1)
def oN (a9:List Be)(n:Str):List Str:=(a9.filter λb=>decide (b.1=n)).map (·.2.1)
def i7 (names:List Str)(a9:List Be)(z:Str):List Str:=if z∈names then oN a9 z else [z]
inductive uy (aa:List au) (names:List Str)(b:Str->Bool):List Be->Prop
 | nil:uy aa names b []
 | snoc {a9:List Be}{k j:Nat}{ru:au}{z w:Str}:uy aa names b a9->aa[k]?=some ru->ru.2[j]?=some z->j < uw b ru.2->w∈i7 names a9 z->(ru.1,w)∉aX a9->uy aa names b (a9++[(ru.1,w,k,j)])
def ny {a9:List Be}{n w:Str}:w∈oN a9 n↔(n,w)∈aX a9:=by
 unfold oN aX;rw [bN,bN];constructor
 .rintro⟨b,hb,rfl⟩;obtain⟨h1,h2⟩:=gI.mp hb;exact⟨b,h1,by rw [cI h2]⟩
 rintro⟨b,hb,e⟩;cases e;exact⟨b,gI.mpr ⟨hb,cU rfl⟩,rfl⟩
def Cq (a9:List Be)(b:Be)(n:Str):oN (a9++[b]) n=oN a9 n++(if b.1=n then [b.2.1] else []):=by
 unfold oN;rw [mS,br];by_cases c:b.1=n
 .rw [aw c];simp [c]
 rw [ax c];simp [c]
end M11
namespace ig
open PySem L2 M11
def Kf:Stmt->List Stmt
 | .ClassDef _ _ _ b _ _ _ _ _ _ _=>b
 | _=>[]
abbrev K4 (st:Stmt) (i:Nat):Stmt:=(Kf st).getD i (.Pass ⟨0,0,0,0⟩)
abbrev An:Stmt:=K4 pR 0
abbrev Fj:Stmt:=K4 pR 1
abbrev Ah:Stmt:=K4 pR 2
abbrev wM:Stmt:=K4 Fg 0
section
structure BC (K:a0)(C:Addr):Prop where
 cls:Eh K C
 a1:dX K C "empties"
 a2:dX K C "empty"
 a3:dX K C "begins"
 a4:dX K C "firsts"
structure nP (K:a0)(C:Addr)(H0 H:Hp)(a e d bg:Addr)(kE:List (aM×V))(aQ:List (Str×Nat))(ps:List (Str×Addr))(a9:List Be):Prop where
 sm:aE H0 H
 ia:∃dx fs,H a=some (.ins C dx fs)/\fs.lookup ("empty":Str)=some (.ref e)/\fs.lookup ("begins":Str)=some (.ref bg)/\fs.lookup ("firsts":Str)=some (.ref d)/\fs.lookup ("find_begins":Str)=none/\(fs.lookup ("words_of_part":Str)=none/\fs.lookup ("first_words":Str)=none/\fs.lookup ("all_empty":Str)=none/\fs.lookup ("words_of_parts":Str)=none)
 he:H e=some (.dK kE)
 hd:H d=some (.dK (ps.map jO))
 n1:(ps.map (·.1)).Nodup
 n2:(ps.map (·.2)).Nodup
 dk:∀p∈ps,(∃kvs,H p.2=some (.dK kvs)/\kvs.map (·.1)=(oN a9 p.1).map Sum.inr)/\H0 p.2=none/\p.2≠e/\p.2≠d
 lb:∃ts,H bg=some (.lst (ts.map V.ref))/\Paired (λt (b:Be)=>aT K H t [.str b.1,.str b.2.1,.int (b.2.2.1:Int),.int (b.2.2.2:Int)]) ts a9
 fb:H0 bg=none
 em:∃e1 ts,(∃dx fs,H a=some (.ins C dx fs)/\fs.lookup ("empties":Str)=some (.ref e1))/\H e1=some (.lst (ts.map V.ref))/\oW K H ts aQ/\e1≠bg
def nP.same {C:Addr}{H0 H H':Hp}{a e d bg:Addr}{kE:List (aM×V)}{aQ:List (Str×Nat)}{ps:List (Str×Addr)}{a9:List Be}(h:nP K C H0 H a e d bg kE aQ ps a9)(s:aE H H'):nP K C H0 H' a e d bg kE aQ ps a9:=by
 refine⟨h.sm.trans s,?_,s _ _ h.he,s _ _ h.hd,h.n1,h.n2,λp hp=>?_,?_,h.fb,?_⟩
 .obtain⟨dx,fs,q,r⟩:=h.ia;exact⟨dx,fs,s _ _ q,r⟩
 .obtain⟨⟨kvs,q,r⟩,t⟩:=h.dk p hp;exact⟨⟨kvs,s _ _ q,r⟩,t⟩
 .obtain⟨ts,q,r⟩:=h.lb;exact⟨ts,s _ _ q,Paired.dY r λ_ _ z=>s.tup z⟩
 obtain⟨e1,ts,⟨dx,fs,q1,q2⟩,q3,q4,q5⟩:=h.em;exact⟨e1,ts,⟨dx,fs,s _ _ q1,q2⟩,s _ _ q3,q4.keep λ_ _ z=>s.tup z,q5⟩
def wA (K:a0)(C:Addr):Sp:=λvs H Q _=>∃(H0:Hp)(a e d bg:Addr)(kE:List (aM×V))(aQ:List (Str×Nat))(ps:List (Str×Addr))(a9:List Be)(z:Str),vs=[.ref a,.str z]/\nP K C H0 H a e d bg kE aQ ps a9 /\
 ∀(D:Addr)(H':Hp),H D=none->aE H H'->H' D=some (.lst ((i7 (ps.map (·.1)) a9 z).map V.str))->Q (.ref D) H'
def IQ:aN ["self","part"] ["self","part"] (aA Ah):=je rfl rfl rfl rfl nofun
def FV {C:Addr}(F:iG K "words_of_part" "BeginTable.words_of_part" Ah f fd)(T:Txt mg)(B:BC K C):bR P w K mg base fK 1 f fd ["self","part"] (wA K C):=by
 refine F.ok IQ (λvs H Q E h=>?_) (λeJ A outer s H vs Q E hr h=>?_)
 .obtain⟨H0,a,e,d,bg,kE,aQ,ps,a9,z,rfl,_⟩:=h;rfl
 obtain⟨H0,a,e,d,bg,kE,aQ,ps,a9,z,rfl,S,q⟩:=h;have hu:=ff hr;obtain⟨dx,fs,ea,f1,f2,f3,f4,f5⟩:=S.ia;refine⟨_,ao (bC (yu (f_ (jY hu (pv 1) (dU (pv 0) rfl))) (a7 (nJ rfl) rfl T.lst g_ (ab (fO hu (dU (pv 0) rfl) (pv 1) (λ_ _=>rfl)) aj)) (bJ (ab (pv 1) aj)))),?_⟩;dsimp only [Ho];have mem:(bj (ps.map jO) (Sum.inr z)).isSome=true↔z∈ps.map (·.1):=by rw [eZ,oE];exact c_
 refine⟨_,rfl,_,rfl,a,C,dx,fs,_,rfl,ea,B.cls,B.a4,f3,d,_,rfl,cD.k (k:=Sum.inr z) S.hd,_,rfl,?_⟩;refine cx (λc=>?_) (λc=>?_)
 .have hz:=mem.mp c;obtain⟨p,hp,ep⟩:=bN.mp hz;obtain⟨⟨kvs,hk,kk⟩,_⟩:=S.dk p hp;have vn:=h_ ps S.n1 p hp;rw [ep] at vn;have hg:cD H d (.str z) (some (.ref p.2)):=by
   have:=cD.k (k:=Sum.inr z) S.hd;rw [vn] at this;exact this
  refine⟨_,rfl,a,C,dx,fs,_,rfl,ea,B.cls,B.a4,f3,_,rfl,d,_,rfl,hg,p.2,kvs,rfl,hk,λD hD=>?_⟩;refine q D _ hD (af hD _) ?_;rw [ae,keys_str kk,ep];unfold i7;rw [aw hz]
 refine⟨_,rfl,EB,λD hD=>?_⟩;refine q D _ hD (af hD _) ?_;rw [ae];unfold i7;rw [ax (λh=>c (mem.mpr h))];rfl
def nP.more {C:Addr}{H0 H H2:Hp}{a e d bg t:Addr}{kE kvs:List (aM×V)}{aQ:List (Str×Nat)}{ps:List (Str×Addr)}{a9:List Be}{p:Str×Addr}{wd:Str}{k j:Nat}{ts:List Addr}(h:nP K C H0 H a e d bg kE aQ ps a9)(hp:p∈ps)(hk:H p.2=some (.dK kvs))(kk:kvs.map (·.1)=(oN a9 p.1).map Sum.inr)
  (hn:(p.1,wd)∉aX a9)(hb:H bg=some (.lst (ts.map V.ref)))(Pa:Paired (λt (b:Be)=>aT K H t [.str b.1,.str b.2.1,.int (b.2.2.1:Int),.int (b.2.2.2:Int)]) ts a9)
  (s:aE (upd H p.2 (.dK (bX kvs (Sum.inr wd) (.bl true)))) H2)(ht:aT K H2 t [.str p.1,.str wd,.int (k:Int),.int (j:Int)]) :
  nP K C H0 (upd H2 bg (.lst (ts.map V.ref++[.ref t]))) a e d bg kE aQ ps (a9++[(p.1,wd,k,j)]):=by
 have T5:bg≠p.2:=λz=>by rw [z,hk] at hb;cases hb
 have JR:H2 bg=some (.lst (ts.map V.ref)):=s _ _ (by rw [ak T5];exact hb);obtain⟨_,fp,ZG,ZH⟩:=h.dk p hp;have up:∀c o,c≠bg->c≠p.2->H c=some o->upd H2 bg (.lst (ts.map V.ref++[.ref t])) c=some o:=λc o n1 n2 q=>by
  rw [ak n1];exact s _ _ (by rw [ak n2];exact q)
 refine⟨λc o hc=>up c o (λz=>by rw [z,h.fb] at hc;cases hc) (λz=>by rw [z,fp] at hc;cases hc) (h.sm c o hc),?_,up _ _ (λz=>by have:=h.he;rw [z,hb] at this;cases this) ZG.symm h.he,up _ _ (λz=>by have:=h.hd;rw [z,hb] at this;cases this) ZH.symm h.hd,h.n1,h.n2,λp' p_=>?_,⟨ts++[t],by rw [ae,br];rfl,?_⟩,h.fb,?_⟩
 .obtain⟨dx,fs,q,r⟩:=h.ia;exact⟨dx,fs,up _ _ (λz=>by rw [z,hb] at q;cases q) (λz=>by rw [z,hk] at q;cases q) q,r⟩
 .obtain⟨⟨nj,q,r⟩,t'⟩:=h.dk p' p_;refine⟨?_,t'⟩;by_cases z:p'=p
  .rw [z];refine⟨bX kvs (Sum.inr wd) (.bl true),by rw [ak T5.symm];exact s _ _ ae,?_⟩;rw [ja (by rw [kk];exact λq=>hn (ny.mp (c_.mp q))),kk,Cq,aw rfl,br];rfl
  have n1:p'.1≠p.1:=λq'=>z (by
   have w1:=h_ ps h.n1 p' p_;have w2:=h_ ps h.n1 p hp;rw [q',w2] at w1;injection w1 with w3;injection w3 with w4;exact jP q' w4.symm)
  have n2:p'.2≠p.2:=λq'=>by
   obtain⟨i,hi,ei⟩:=rD.mp p_;obtain⟨j',hj,ej⟩:=rD.mp hp;have JO:i=j':=by
    refine(vV (xs:=ps.map (·.2)) (h₀:=by simpa using hi) (h₁:=by simpa using hj) h.n2).mp ?_;rw [px,px,ei,ej];exact q'
   subst JO;exact z (ei.symm.trans ej)
  refine⟨nj,up _ _ (λz=>by rw [z,hb] at q;cases q) n2 q,?_⟩;rw [r,Cq,ax (λq'=>n1 q'.symm),gH]
 .exact gR (Paired.dY Pa λ_ _ z=>aY JR (s.tup (il hk z))) (aY JR ht)
 obtain⟨e1,te,⟨dx,fs,q1,q2⟩,q3,q4,q5⟩:=h.em;exact⟨e1,te,⟨dx,fs,up _ _ (λz=>by rw [z,hb] at q1;cases q1) (λz=>by rw [z,hk] at q1;cases q1) q1,q2⟩,up _ _ q5 (λz=>by rw [z,hk] at q3;cases q3) q3,q4.keep λ_ _ z=>aY JR (s.tup (il hk z)),q5⟩
def NZ (l m:List Be)(n:Str):oN (l++m) n=oN l n++oN m n:=by
 unfold oN;rw [mS,br]
def II {names:List Str}(l m:List Be){z x:Str}(h:x∈i7 names l z):x∈i7 names (l++m) z:=by
 unfold i7 at h ⊢
 split
 .rename_i c
  rw [aw c] at h;rw [NZ];exact dH _ h
 rename_i c
 rw [ax c] at h;exact h
def G9 (a9:List Be)(n:Str):(oN a9 n).length<=a9.length:=by
 unfold oN;rw [ar];exact kP _ _
def Hs {n i:Nat}(h:i < n):(cnt n)[i]?=some (.int (i:Int)):=by
 unfold cnt;rw [bf,List.getElem?_range h];rfl
def rA (n:Nat):(cnt n).length=n:=by unfold cnt;rw [ar,nQ]
def E2 (K:a0)(C:Addr):Sp:=λvs H Q _=>∃(H0:Hp)(a e d bg r:Addr)(kE:List (aM×V))(aQ:List (Str×Nat))(ps:List (Str×Addr))(a9:List Be) (k:Nat)(ru:au)(aa:List au),vs=[.ref a,.int (k:Int),.ref r]/\nP K C H0 H a e d bg kE aQ ps a9/\CG K H0 r ru/\aa[k]?=some ru/\ru.2.length<=8 /\
 ru.1∈ps.map (·.1)/\(∀xJ:List Be,uy aa (ps.map (·.1)) (λz=>(bj kE (Sum.inr z)).isSome) xJ->xJ.length<=900000)/\uy aa (ps.map (·.1)) (λz=>(bj kE (Sum.inr z)).isSome) a9 /\
 ∀(xJ:List Be)(H':Hp),nP K C H0 H' a e d bg kE aQ ps xJ->uy aa (ps.map (·.1)) (λz=>(bj kE (Sum.inr z)).isSome) xJ->a9.length<=xJ.length->(xJ.length=a9.length->xJ=a9/\∀j z,j < uw (λz=>(bj kE (Sum.inr z)).isSome) ru.2->ru.2[j]?=some z->∀wd∈i7 (ps.map (·.1)) a9 z,(ru.1,wd)∈aX a9)->Q .gb H'
def wH:aN ["self","number","rule","own","place","word"] ["self","number","rule"] (aA Fj):=je rfl rfl rfl rfl nofun
def Js {C fW:Addr}{Se:FuncData}(F:iG K "find_begins" "BeginTable.find_begins" Fj f fd)(T:Txt mg)(B:BC K C)(GP:aG P w K mg base 1 "first_places" ["parts","empty"] (yf K))(FW:bR P w K mg base fK 1 fW Se ["self","part"] (wA K C))(MW:Meth K C "words_of_part" fW)(BW:Binds K Se ["self","part"] []) :
  bR P w K mg base fK 2 f fd ["self","number","rule"] (E2 K C):=by
 refine F.ok wH (λvs H Q E h=>?_) (λeJ A outer s H vs Q E hr h=>?_)
 .obtain⟨H0,a,e,d,bg,r,kE,aQ,ps,a9,k,ru,aa,rfl,_⟩:=h;rfl
 obtain⟨H0,a,e,d,bg,r,kE,aQ,ps,a9,k,ru,aa,rfl,S,⟨p,v1,v2⟩,er,h8,hh,hbd,Xn,q⟩:=h;have hu:=ff hr;refine⟨_,ai (aC (i:=3) wH.nd rfl (a_ rfl) (fO hu (dU (pv 0) rfl) (b9 cN (pv 2) av (λ_ _=>rfl)) (λ_ _=>rfl)))
  (ao (bD b8 rfl (aP (bK GP hr rfl (ab (b9 cN (pv 2) av (λ_ _=>rfl)) (ab (dU (pv 0) rfl) aj)))) (aq (i:=4) wH.nd rfl (a_ rfl))
   (ao (bD b8 rfl (aP (lV (pv 0) B.cls MW FW hr BW .nil mq (ab (b9 cN (b9 cN (pv 2) av (λ_ _=>rfl)) (pv 4) (λ_ _=>rfl)) aj))) (aq (i:=5) wH.nd rfl (a_ rfl))
    (ao (cy (f_ (dW hu (pv 5) (pv 3)))
     (ai (gB hu (pv 3) (pv 5) gq rfl)
     (ao (cv (fY fU fV fX bA (dU (pv 0) rfl) (ab (bU (ab (b9 cN (pv 2) av (λ_ _=>rfl)) (ab (pv 5) (ab (pv 1) (ab (pv 4) aj))))) aj))))) aZ)))))),?_⟩
 nofun
 obtain⟨pn,yN,zM⟩:=bN.mp hh;have vn:=h_ ps S.n1 pn yN;rw [zM] at vn;obtain⟨dx,fs,ea,f1,f2,f3,f4,f5⟩:=S.ia;have hg:cD H d (.str ru.1) (some (.ref pn.2)):=by
  have:=cD.k (k:=Sum.inr ru.1) S.hd;rw [vn] at this;exact this
 refine⟨_,rfl,a,C,dx,fs,_,rfl,ea,B.cls,B.a4,f3,_,rfl,r,_,_,_,rfl,rfl,S.sm.tup v1,rfl,d,_,rfl,hg,?_⟩;refine⟨_,rfl,r,_,_,_,rfl,rfl,S.sm.tup v1,rfl,_,rfl,a,C,dx,fs,_,rfl,ea,B.cls,B.a2,f1,p,e,ru.2,kE,rfl,S.sm.tup v2,∅,S.he,λD5 H5 f6 s5 e5=>⟨D5,rfl,⟨_,aI.of e5⟩,?_⟩⟩;obtain⟨ts0,hb0,_⟩:=S.lb;have nDb:D5≠bg:=λz=>by rw [z,hb0] at f6;cases f6
 have fle:=A8 (λz=>(bj kE (Sum.inr z)).isSome) ru.2;generalize hb:(λz=>(bj kE (Sum.inr z)).isSome)=b at *;generalize hn:uw b ru.2=n at *
 let xR:rB:=λi σ H6=>∃(dZ:List Be)(y4 y5:Option V),σ=[aF a,some (.int (k:Int)),aF r,some (.ref pn.2),y4,y5]/\nP K C H0 H6 a e d bg kE aQ ps dZ/\H6 D5=some (.lst (cnt n))/\uy aa (ps.map (·.1)) b dZ/\a9.length<=dZ.length /\
  (dZ.length=a9.length->dZ=a9/\∀j z,j < i->ru.2[j]?=some z->∀wd∈i7 (ps.map (·.1)) a9 z,(ru.1,wd)∈aX a9)
 refine bZ (xs:=cnt n) xR ⟨a9,none,none,rfl,S.same s5,e5,Xn,aK _,λ_=>⟨rfl,λj z hj=>by omega⟩⟩ ?_ ?_ ?_
 .rintro i σ H6 _ ⟨dZ,y4,y5,rfl,S2,e6,_⟩;exact aI.of e6
 .intro i x σ H6 ex uE
  ac_nf0
  obtain⟨dZ,y4,y5,rfl,S2,e6,YA,l2,c2⟩:=uE;have li:i < n:=by have:=(bh.mp ex).1;rw [rA] at this;exact this
  rw [Hs li] at ex;cases ex;have lz:i < ru.2.length:=by omega
  obtain⟨z,ez⟩:∃z,ru.2[i]?=some z:=⟨ru.2[i],cT lz⟩;have SQ:ux (ru.2.map V.str) (i:Int)=some (.str z):=dO (by rw [bf,ez];rfl);obtain⟨Oj,rm,Og,g1,g2,g3,g4,g5⟩:=S2.ia;refine goN ?_
  ac_nf
  refine⟨_,rfl,a,Oj,rm,rfl,Og,g5.1,_,rfl,r,_,_,_,rfl,rfl,S2.sm.tup v1,rfl,_,rfl,p,_,_,_,rfl,rfl,S2.sm.tup v2,SQ,H0,a,e,d,bg,kE,aQ,ps,dZ,z,rfl,S2,λD6 H7 f7 s7 e7=>⟨D6,rfl,⟨_,aI.of e7⟩,?_⟩⟩;obtain⟨x_,JR,_⟩:=S2.lb;have nD6:D6≠bg:=λz=>by rw [z,JR] at f7;cases f7
  generalize Ro:i7 (ps.map (·.1)) dZ z=ws at *
  let Ed:rB:=λm σ H8=>∃(l:List Be)(y5:Option V),σ=[aF a,some (.int (k:Int)),aF r,some (.ref pn.2),some (.int (i:Int)),y5]/\nP K C H0 H8 a e d bg kE aQ ps (dZ++l)/\H8 D5=some (.lst (cnt n))/\H8 D6=some (.lst (ws.map V.str))/\uy aa (ps.map (·.1)) b (dZ++l) /\
   (l=[]->∀wd∈ws.take m,(ru.1,wd)∈aX dZ)
  refine bZ (xs:=ws.map V.str) Ed ⟨[],_,rfl,by rw [gH];exact S2.same s7,s7 _ _ e6,e7,by rw [gH];exact YA,λ_ wd h=>by simp at h⟩ ?_ ?_ ?_
  .rintro m σ H8 _ ⟨l,y5,rfl,S3,e8,e9,_⟩;exact aI.of e9
  .intro m x σ H8 ex uE
   ac_nf0
   obtain⟨l,y5,rfl,S3,e8,e9,SJ,c3⟩:=uE;rw [bf] at ex;obtain⟨wd,ew,rfl⟩:=b_.mp ex;obtain⟨⟨kvs,hk,kk⟩,fp,ZG,ZH⟩:=S3.dk pn yN;obtain⟨Zd,Ur,RZ⟩:=S3.lb;have lim:=hbd _ SJ;have ltk:kvs.length<=900000:=by
    have h1:=congrArg List.length kk;rw [ar,ar] at h1;have:=G9 (dZ++l) pn.1;omega
   have ltt:=bI RZ;have mem:(bj kvs (Sum.inr wd)).isSome=true↔(ru.1,wd)∈aX (dZ++l):=by rw [eZ,kk,c_,ny,zM]
   refine goN ?_
   ac_nf
   refine⟨_,rfl,_,rfl,pn.2,_,rfl,cD.k (k:=Sum.inr wd) hk,_,rfl,?_⟩;refine cx (λc=>?_) (λc=>?_)
   .have nm:(ru.1,wd)∉aX (dZ++l):=λh=>by rw [mem.mpr h] at c;exact absurd c nofun
    refine⟨_,rfl,_,rfl,_,_,rfl,lK.k (k:=Sum.inr wd) hk (bq ∅),?_⟩;obtain⟨dx3,Iq,X5,k1,k2,k3,k4,k5⟩:=S3.ia;have nap:a≠pn.2:=λz=>by rw [z,hk] at X5;cases X5
    have T5:bg≠pn.2:=λz=>by rw [z,hk] at Ur;cases Ur
    have Of:upd H8 pn.2 (.dK (bX kvs (Sum.inr wd) (.bl true))) a=some (.ins C dx3 Iq):=by rw [ak nap];exact X5
    have hb4:upd H8 pn.2 (.dK (bX kvs (Sum.inr wd) (.bl true))) bg=some (.lst (Zd.map V.ref)):=by rw [ak T5];exact Ur
    refine⟨_,rfl,a,C,dx3,Iq,_,rfl,Of,B.cls,B.a3,k2,.inl ⟨rfl,_,aI.of hb4⟩,_,rfl,r,_,_,_,rfl,rfl,il hk (S3.sm.tup v1),rfl,_,rfl,_,rfl,_,rfl,Y6,λt4 Dm=>?_⟩;have s4:=af Dm (.tup [.str ru.1,.str wd,.int (k:Int),.int (i:Int)]);have e4:aT K (upd (upd H8 pn.2 (.dK (bX kvs (Sum.inr wd) (.bl true)))) t4 (.tup [.str ru.1,.str wd,.int (k:Int),.int (i:Int)])) t4 [.str ru.1,.str wd,.int (k:Int),.int (i:Int)]:=aT.of ae;generalize upd (upd H8 pn.2 (.dK (bX kvs (Sum.inr wd) (.bl true)))) t4 (.tup [.str ru.1,.str wd,.int (k:Int),.int (i:Int)])=H9 at s4 e4;refine⟨bg,_,_,rfl,rfl,s4 _ _ hb4,bq (by rw [ar];omega),?_⟩;have nm':(pn.1,wd)∉aX (dZ++l):=by rw [zM];exact nm
    have S4:=S3.more (k:=k) (j:=i) yN hk kk nm' Ur RZ s4 (by rw [zM];exact e4);have Lf:∀D ys,H8 D=some (.lst ys)->D≠bg->upd H9 bg (.lst (Zd.map V.ref++[.ref t4])) D=some (.lst ys):=λD ys hD nb=>by
     rw [ak nb];exact s4 _ _ (by rw [ak (λz=>by rw [z,hk] at hD;cases hD)];exact hD)
    rw [kn,zM] at S4;refine⟨l++[(ru.1,wd,k,i)],_,rfl,S4,Lf _ _ e8 nDb,Lf _ _ e9 nD6,?_,λh=>by simp at h⟩;rw [<-kn];refine .snoc SJ er ez (by rw [hn];exact li) (II dZ l (by rw [Ro];exact cA ew)) nm
   refine⟨l,_,rfl,S3,e8,e9,SJ,λhl x hx=>?_⟩;rw [cQ,ew] at hx;rcases bY.mp hx with h | h
   .exact c3 hl x h
   rw [Option.toList_some,cg] at h;subst h;have hm:(ru.1,x)∈aX (dZ++l):=mem.mp (by
    cases hq:(bj kvs (Sum.inr x)).isSome with
    | true=>rfl
    | false=>exact absurd (by rw [hq];rfl) c)
   rw [hl,gH] at hm;exact hm
  rintro σ H8 ⟨l,y5,rfl,S3,e8,e9,SJ,c3⟩;rw [ar,cC] at c3;refine⟨dZ++l,_,_,rfl,S3,e8,SJ,by rw [bB];omega,λRJ=>?_⟩;rw [bB] at RJ;have Ui:l=[]:=zP.mp ∅;obtain⟨NR,mz⟩:=c2 ∅;rw [Ui,gH];refine⟨NR,λj z' hj XO wd hwd=>?_⟩;by_cases cj:j < i
  .exact mz j z' cj XO wd hwd
  have:j=i:=by omega
  subst this;rw [ez] at XO;cases XO;have:=c3 Ui wd (by rw [<-Ro,NR];exact hwd);rw [NR] at this;exact this
 rintro σ H6 ⟨dZ,y4,y5,rfl,S2,e6,YA,l2,c2⟩;rw [rA] at c2;exact q dZ H6 S2 YA l2 c2
end
end ig
namespace L2
open PySem M11
def zg {K:a0}{H:Hp}{p D:Addr}{zs:List Str}{σ:St}{x:Str}{Qp:Hp->Prop}(hp:aI K H p (zs.map V.str))(hz:zs.length<=10000)(hD:H D=none)
  (q:∀ts (ps:List (Str×Addr)) H2,aE H H2->H2 D=some (.lst (ts.map V.ref))->ps.map (·.1)=zs->Paired (λt (p:Str×Addr)=>aT K H2 t [.str p.1,.ref p.2]) ts ps->(∀p∈ps,H2 p.2=some (.dK [])/\H p.2=none/\p.2≠D)->(ps.map (·.2)).Nodup->Qp H2) :
  ∃W:Nat->Nat->List V->St->Hp->Prop,(∃m,W 0 m [] (dN [x] [] σ) (upd H D (.lst []))) /\
 ∀i m ys σ' H,W i m ys σ' H->((jN K p).stop i H/\Qp H)\/((jN K p).go i H/\∃m',m' < m/\∀x H',(jN K p).mT i H x H'->di 0 x σ' H' λσ2 H2=>hV σ2 H2 λb H3 =>
  if b=true then uz (gU (gO 0) (gU (EL) sf)) σ2 H3 λy H4=>H4 D=some (.lst ys)/\ys.length < sizeLine/\W (i+1) m' (ys++[y]) σ2 (upd H4 D (.lst (ys++[y]))) else W (i+1) m' ys σ2 H3):=by
 refine cq (xs:=zs.map V.str) (λi ys σ2 H2=>∃(ts:List Addr)(ps:List (Str×Addr)),ys=ts.map V.ref/\ts.length=i/\ps.map (·.1)=zs.take i/\Paired (λt (p:Str×Addr)=>aT K H2 t [.str p.1,.ref p.2]) ts ps /\
   (∀p∈ps,H2 p.2=some (.dK [])/\H p.2=none/\p.2≠D)/\(ps.map (·.2)).Nodup/\(∃y0,σ2=[y0])/\aE H H2/\H2 D=some (.lst ys))
  ⟨[],[],rfl,rfl,rfl,.nil,by simp,by simp,⟨none,rfl⟩,af hD _,ae⟩ (λi ys σ2 H2 _ h=>?_) (λi x ys σ2 H2 ex h=>?_) (λys σ2 H2 h=>?_)
 .obtain⟨_,_,_,_,_,_,_,_,_,sm,_⟩:=h;exact sm.seq hp
 .obtain⟨ts,ps,rfl,ht,hm,j7,hl,hn,⟨y0,rfl⟩,sm,hd⟩:=h;rw [bf] at ex;obtain⟨z,ez,rfl⟩:=b_.mp ex;have li:=(bh.mp ez).1;refine goN (yS ?_);refine⟨_,rfl,λl uD=>⟨mj,λt jq=>?_⟩⟩;have Nd:l≠D:=(aB hd uD).symm;have nt:t≠l:=λe=>by rw [e,ae] at jq;cases jq
  have Lj:H2 t=none:=by rw [ak nt] at jq;exact jq
  have ntD:t≠D:=(aB hd Lj).symm;have uu:aE H2 (upd (upd H2 l (.dK [])) t (.tup [.str z,.ref l])):=(af uD _).trans (af jq _);have jn:=uu _ _ hd;have el:upd (upd H2 l (.dK [])) t (.tup [.str z,.ref l]) l=some (.dK []):=by rw [ak nt.symm,ae]
  have et:aT K (upd (upd H2 l (.dK [])) t (.tup [.str z,.ref l])) t [.str z,.ref l]:=aT.of ae;generalize upd (upd H2 l (.dK [])) t (.tup [.str z,.ref l])=H4 at uu jn el et;refine⟨jn,bq (by rw [ar];omega),ts++[t],ps++[(z,l)],by rw [br];rfl,by rw [bB,ht];rfl,by rw [br,hm,cQ,ez];rfl,?_,?_,?_,⟨_,rfl⟩,?_,ae⟩
  .exact gR (Paired.dY j7 λt' h' z=>aY jn (uu.tup z)) (aY jn et)
  .intro p' p_;rcases bY.mp p_ with h | h
   .obtain⟨a1,a2,a3⟩:=hl p' h;exact⟨by rw [ak a3];exact uu _ _ a1,a2,a3⟩
   rw [cg.mp h];exact⟨by rw [ak Nd];exact el,sm.free uD,Nd⟩
  .rw [br];refine jv.mpr ⟨hn,by simp,λa ha b hb e=>?_⟩;rw [pE,cg] at hb;obtain⟨p',p_,rfl⟩:=bN.mp ha;have:=(hl p' p_).1;rw [e,hb] at this;rw [show H2 l=none from uD] at this;cases this
  intro b o hb;rw [ak (λz=>by rw [z,hD] at hb;cases hb)];exact uu _ _ (sm b o hb)
 obtain⟨ts,ps,rfl,ht,hm,j7,hl,hn,_,sm,hd⟩:=h;rw [ar,cC] at hm;exact q ts ps H2 sm hd hm j7 hl hn
def gW {K:a0}{H:Hp}{D a C dx:Addr}{xs:List V}{fs:List (Str×V)}{o:HO}(hD:H D=some (.ins C dx fs))(h:aT K H a xs):aT K (upd H D o) a xs:=by
 rcases h with (h | ⟨u,h⟩) | h
 .exact .inl (.inl (by rw [ak (λz=>by rw [z,hD] at h;cases h)];exact h))
 .exact .inl (.inr ⟨u,by rw [ak (λz=>by rw [z,hD] at h;cases h)];exact h⟩)
 exact .inr h
def ze {K:a0}{H:Hp}{R D:Addr}{rs:List Addr}{es:List (Str×Nat)}{σ:St}{x1 x2:Str}{Qp:Hp->Prop}(hR:aI K H R (rs.map V.ref))(cY:Paired (λt (e:Str×Nat)=>aT K H t [.str e.1,.int (e.2:Int)]) rs es)(bM:es.length<=1000)(hD:H D=none)
  (q:∀ts H2,aE H H2->H2 D=some (.lst (ts.map V.ref))->Paired (λt h=>aT K H2 t [.str h,.bl true]) ts (es.map (·.1))->Qp H2) :
  ∃W:Nat->Nat->List V->St->Hp->Prop,(∃m,W 0 m [] (dN [x1,x2] [] σ) (upd H D (.lst []))) /\
 ∀i m ys σ' H,W i m ys σ' H->((jN K R).stop i H/\Qp H)\/((jN K R).go i H/\∃m',m' < m/\∀x H',(jN K R).mT i H x H'->yT K 2 (iX (di 0) (iX (di 1) A5)) x σ' H' λσ2 H2=>hV σ2 H2 λb H3 =>
  if b=true then uz (gU (gO 0) (gU (tC (.bl true)) sf)) σ2 H3 λy H4=>H4 D=some (.lst ys)/\ys.length < sizeLine/\W (i+1) m' (ys++[y]) σ2 (upd H4 D (.lst (ys++[y]))) else W (i+1) m' ys σ2 H3):=by
 have ll:=bI cY;refine cq (xs:=rs.map V.ref) (λi ys σ2 H2=>∃ts:List Addr,ys=ts.map V.ref/\ts.length=i/\Paired (λt h=>aT K H2 t [.str h,.bl true]) ts ((es.take i).map (·.1))/\(∃y0 y1,σ2=[y0,y1])/\aE H H2/\H2 D=some (.lst ys))
  ⟨[],rfl,rfl,.nil,⟨none,none,rfl⟩,af hD _,ae⟩ (λi ys σ2 H2 _ h=>?_) (λi x ys σ2 H2 ex h=>?_) (λys σ2 H2 h=>?_)
 .obtain⟨_,_,_,_,_,sm,_⟩:=h;exact sm.seq hR
 .obtain⟨ts,rfl,ht,hp,⟨y0,y1,rfl⟩,sm,hd⟩:=h;rw [bf] at ex;obtain⟨r,er,rfl⟩:=b_.mp ex;have lr:=(bh.mp er).1;obtain⟨ru,e1⟩:∃ru,es[i]?=some ru:=⟨es[i]'∅,cT ∅⟩;obtain⟨r',Sl,v1⟩:=Paired.at_ cY i ru e1;rw [er] at Sl;cases Sl;have li:=(bh.mp e1).1;refine⟨r,_,rfl,sm.tup v1,rfl,_,_,rfl,_,_,rfl,rfl,?_⟩;refine yS ?_;refine⟨_,rfl,mj,λt jq=>⟨?_,bq (by rw [ar];omega),ts++[t],?_,?_,?_,⟨_,_,rfl⟩,?_,ae⟩⟩
  .rw [ak (aB hd jq)];exact hd
  .rw [br];rfl
  .rw [bB,ht];rfl
  .rw [cQ,e1,br];have jn:upd H2 t (.tup [.str ru.1,.bl true]) D=some (.lst (ts.map V.ref)):=by rw [ak (aB hd jq)];exact hd
   exact gR (Paired.dY hp λt' h' z=>aY jn ((af jq _).tup z)) (aY jn (aT.of ae))
  intro b o hb;rw [ak (λz=>by rw [z,hD] at hb;cases hb)];exact af jq _ _ _ (sm b o hb)
 obtain⟨ts,rfl,ht,hp,_,sm,hd⟩:=h;rw [ar,ll,cC] at hp;exact q ts H2 sm hd hp
end L2
namespace M11
open PySem L2
def uy.sub {aa:List au}{names:List Str}{b:Str->Bool}{a9:List Be}(h:uy aa names b a9):∀q∈aX a9,q.1∈aa.map (·.1)/\q.2∈aa.flatMap (·.2):=by
 induction h with
 | nil=>intro q hq;cases hq
 | @snoc a9 k j ru z wd hb er ez _ hw _ ih =>
  intro q hq;unfold aX at hq;rw [br] at hq;rcases bY.mp hq with hq | hq
  .exact ih q hq
  rw [pE,cg] at hq;rw [hq];have hm:=cA er;refine⟨iO hm,?_⟩;unfold i7 at hw
  split at hw
  .exact(ih (z,wd) (ny.mp hw)).2
  rw [cg.mp hw];exact mh.mpr ⟨ru,hm,cA ez⟩
def uy.nd {aa:List au}{names:List Str}{b:Str->Bool}{a9:List Be}(h:uy aa names b a9):(aX a9).Nodup:=by
 induction h with
 | nil=>exact iA
 | @snoc a9 k j ru z wd hb er ez _ hw hn ih =>
  unfold aX;rw [br];refine jv.mpr ⟨ih,by simp,λx hx y hy e=>?_⟩;rw [pE,cg] at hy;rw [e,hy] at hx;exact hn hx
theorem yr (m:List Str):∀l:List Str,(l.flatMap λn=>m.map λwd=>(n,wd)).length=l.length * m.length
 | []=>by simp
 | n::l=>by
  rw [List.flatMap_cons,bB,yr m l,ar,dG,Nat.add_mul];omega
def uy.len {aa:List au}{names:List Str}{b:Str->Bool}{a9:List Be}(h:uy aa names b a9)(hl:aa.length<=100)(h8:∀ru∈aa,ru.2.length<=8):a9.length<=80000:=by
 have h1:=gK (aX a9) ((aa.map (·.1)).flatMap λn=>(aa.flatMap (·.2)).map λwd=>(n,wd)) h.nd λq hq=>by
  obtain⟨a,c⟩:=h.sub q hq;exact mh.mpr ⟨q.1,a,bN.mpr ⟨q.2,c,rfl⟩⟩
 rw [yr] at h1;have h2:=ig.jK aa 100 hl h8;unfold aX at h1;rw [ar,ar] at h1;have h3:aa.length * (aa.flatMap (·.2)).length<=100 * 800:=Nat.mul_le_mul hl h2;omega
def zE (aa:List au) (names:List Str)(b:Str->Bool) (n:Nat)(a9:List Be):Prop:=∀k ru,k < n->aa[k]?=some ru->∀j z,j < uw b ru.2->ru.2[j]?=some z->∀wd∈i7 names a9 z,(ru.1,wd)∈aX a9
end M11
namespace ig
open PySem L2 M11
section
def BZ (K:a0)(C:Addr):Sp:=λvs H Q _=>∃(H0:Hp)(a dx R:Addr)(rs:List Addr)(aa:List au),vs=[.ref a,.ref R]/\aE H0 H/\H0 a=none/\H a=some (.ins C dx [])/\aI K H0 R (rs.map V.ref)/\bT K H0 rs aa/\aa.length<=100/\(∀ru∈aa,ru.2.length<=8) /\
 ∀(e d bg:Addr)(kE:List (aM×V))(aQ:List (Str×Nat))(ps:List (Str×Addr))(a9:List Be)(H':Hp),nP K C H0 H' a e d bg kE aQ ps a9->ps.map (·.1)=hd aa->uj aa aQ->qO aa aa.length aQ->(∀z,(bj kE (Sum.inr z)).isSome=decide (z∈aQ.map (·.1))) ->
  uy aa (hd aa) (λz=>decide (z∈aQ.map (·.1))) a9->zE aa (hd aa) (λz=>decide (z∈aQ.map (·.1))) aa.length a9->Q .gb H'
def ot:aN ["self","rules","number","many","rule"] ["self","rules"] (aA An):=je rfl rfl rfl rfl nofun
def F5 {C fF:Addr}{Sf:FuncData}(F:iG K "__init__" "BeginTable.__init__" An f fd)(T:Txt mg)(B:BC K C)(GE:aG P w K mg base 1 "found_empties" ["rules"] (pM K))(GH:aG P w K mg base 1 "heads_of" ["rules"] (lP K))
  (FF:bR P w K mg base fK 2 fF Sf ["self","number","rule"] (E2 K C))(MF:Meth K C "find_begins" fF)(BF:Binds K Sf ["self","number","rule"] []):bR P w K mg base fK 3 f fd ["self","rules"] (BZ K C):=by
 refine F.ok ot (λvs H Q E h=>?_) (λeJ A outer s H vs Q E hr h=>?_)
 .obtain⟨H0,a,dx,R,rs,aa,rfl,_⟩:=h;rfl
 obtain⟨H0,a,dx,R,rs,aa,rfl,s0,f0,ea,hR,cY,bM,h8,q⟩:=h;refine⟨_,ai (gY (pv 0) (bK (GE.mono (by decide:1<=2)) hr rfl (ab (pv 1) aj)) rfl)
  (ai (gY (pv 0) (a7 (eI rfl) rfl T.Cv gu (ab (aV ["name","number"] [] rfl (aP (dU (pv 0) rfl)) (aS rfl rfl) nofun rfl nofun
   (λ_ _ _ _ _=>dq (n:=2) K rfl (az (aq (i:=0) (show (["name","number"]:List Str).Nodup by decide +kernel) rfl (a_ rfl)) (az (aq (i:=1) (show (["name","number"]:List Str).Nodup by decide +kernel) rfl (a_ rfl)) bz))) (λ_ _ _ _ _=>bF)
   (λ_ _ _ _ _=>bU (ab (pv 0) (ab gq aj)))) aj)) rfl)
  (ai (gY (pv 0) (bJ aj) rfl)
  (ai (gY (pv 0) (a7 (eI rfl) rfl T.Cv gu (ab (aV ["name"] [] rfl (aP (bK (GH.mono (by decide:1<=2)) hr rfl (ab (pv 1) aj))) (aS rfl rfl) nofun rfl nofun
   (λ_ _ _ _ _=>aq (i:=0) (show (["name"]:List Str).Nodup by decide +kernel) rfl (a_ rfl)) (λ_ _ _ _ _=>bF)
   (λ_ _ _ _ _=>bU (ab (pv 0) (ab fu aj)))) aj)) rfl)
  (ai (aC (i:=3) ot.nd rfl (a_ rfl) (u4 pJ av))
  (ao (jB b8 (bu qv (pv 3) (aR bH rfl T.len gT (ab (dU (pv 0) rfl) aj)) (cM _))
   (ai (aC (i:=3) ot.nd rfl (a_ rfl) (aR bH rfl T.len gT (ab (dU (pv 0) rfl) aj)))
   (ao (bD b8 rfl (lU rfl T.Iu (ab (pv 1) aj)) (ft rfl (az (aq (i:=2) ot.nd rfl (a_ rfl)) (az (aq (i:=4) ot.nd rfl (a_ rfl)) bz)))
    (ao (cv (lV (pv 0) B.cls MF FF hr BF .nil mq (ab (pv 2) (ab (pv 4) aj)))))))))))))),?_⟩
 nofun
 have ll:=bI cY;refine⟨_,rfl,R,rs,aa,rfl,s0.seq hR,cY.same s0,∅,h8,λD1 CO aQ H1 f1 s1 e1 w1 emp lH=>?_⟩;have Ss:=s1 _ _ ea;refine⟨_,rfl,a,C,dx,[],rfl,Ss,B.cls,B.a1,(by show 0 < 1000;decide),?_⟩;have e2:upd H1 a (.ins C dx (dQ "empties" (.ref D1) [])) D1=some (.lst (CO.map V.ref)):=by rw [ak (λz=>by rw [z,Ss] at e1;cases e1)];exact e1
 have w2:oW K (upd H1 a (.ins C dx (dQ "empties" (.ref D1) []))) CO aQ:=w1.keep λ_ _ z=>gW Ss z;have Fq:aE H0 (upd H1 a (.ins C dx (dQ "empties" (.ref D1) []))):=λc o hc=>by rw [ak (λz=>by rw [z,f0] at hc;cases hc)];exact s1 _ _ (s0 c o hc)
 have Og:upd H1 a (.ins C dx (dQ "empties" (.ref D1) [])) a=some (.ins C dx (dQ "empties" (.ref D1) [])):=ae;generalize upd H1 a (.ins C dx (dQ "empties" (.ref D1) []))=H2 at e2 w2 Fq Og;have lets:=emp.len;refine⟨_,rfl,a,C,dx,_,_,rfl,Og,B.cls,B.a1,rfl,D1,rfl,⟨_,aI.of e2⟩,λD2 jI=>ze (aI.of e2) w2 ∅ jI λx_ H3 s3 e3 p3=>?_⟩;have kp:Paired (λt (kv:aM×V)=>aT K H3 t [kV kv.1,kv.2]) x_ ((aQ.map (·.1)).map λh=>((Sum.inr h:aM),V.bl true)):=cV p3 λ_ _ z=>z;refine⟨D2,x_,_,rfl,e3,kp,λe he=>?_⟩;have Dc:∀z,(bj (cZ ((aQ.map (·.1)).map λh=>((Sum.inr h:aM),V.bl true)) []) (Sum.inr z)).isSome=decide (z∈aQ.map (·.1)):=λz=>by
  rw [rY];by_cases c:z∈aQ.map (·.1)
  .rw [aw c,cU c];rfl
  rw [ax c,gJ c];rfl
 generalize cZ ((aQ.map (·.1)).map λh=>((Sum.inr h:aM),V.bl true)) []=kE at Dc;have yo:=(Fq.trans s3).trans (af he (.dK kE));have Of:=af he (.dK kE) _ _ (s3 _ _ Og);have UI:upd H3 e (.dK kE) e=some (.dK kE):=ae;have MC:aE H2 (upd H3 e (.dK kE)):=s3.trans (af he (.dK kE));generalize upd H3 e (.dK kE)=H4 at yo Of UI MC;have Yp:=MC _ _ e2;have wE4:oW K H4 CO aQ:=w2.keep λ_ _ z=>MC.tup z;refine⟨_,rfl,a,C,dx,_,rfl,Of,B.cls,B.a2,(by show 1 < 1000;decide),?_⟩;generalize Xg:dQ "empty" (.ref e) (dQ "empties" (.ref D1) [])=Lu;have Sr:upd H4 a (.ins C dx Lu) e=some (.dK kE):=by rw [ak (λz=>by rw [z,Of] at UI;cases UI)];exact UI
 have B4:aE H0 (upd H4 a (.ins C dx Lu)):=λc o hc=>by rw [ak (λz=>by rw [z,f0] at hc;cases hc)];exact yo c o hc
 have ea5:upd H4 a (.ins C dx Lu) a=some (.ins C dx Lu):=ae;have Yo:upd H4 a (.ins C dx Lu) D1=some (.lst (CO.map V.ref)):=by rw [ak (λz=>by rw [z,Of] at Yp;cases Yp)];exact Yp
 have Y9:oW K (upd H4 a (.ins C dx Lu)) CO aQ:=wE4.keep λ_ _ z=>gW Of z;generalize upd H4 a (.ins C dx Lu)=H5 at Sr B4 ea5 Yo Y9;refine⟨uo,λbg NP=>?_⟩;have fbg:H0 bg=none:=B4.free NP;have UJ:upd H5 bg (.lst []) bg=some (.lst []):=ae;have KN:=B4.trans (af NP (.lst []));have Od:=af NP (.lst []) _ _ Sr;have Pn:=af NP (.lst []) _ _ ea5;have V_:D1≠bg:=aB Yo NP;have UQ:=af NP (.lst []) _ _ Yo;have Y8:oW K (upd H5 bg (.lst [])) CO aQ:=Y9.keep λ_ _ z=>(af NP (.lst [])).tup z;generalize upd H5 bg (.lst [])=H6 at UJ KN Od Pn UQ Y8;refine⟨_,rfl,a,C,dx,_,rfl,Pn,B.cls,B.a3,(by rw [<-Xg];show 2 < 1000;decide),?_⟩;generalize hf7:dQ "begins" (.ref bg) Lu=JU;have Oc:upd H6 a (.ins C dx JU) e=some (.dK kE):=by rw [ak (λz=>by rw [z,Pn] at Od;cases Od)];exact Od
 have eb7:upd H6 a (.ins C dx JU) bg=some (.lst []):=by rw [ak (λz=>by rw [z,Pn] at UJ;cases UJ)];exact UJ
 have ME:aE H0 (upd H6 a (.ins C dx JU)):=λc o hc=>by rw [ak (λz=>by rw [z,f0] at hc;cases hc)];exact KN c o hc
 have ea7:upd H6 a (.ins C dx JU) a=some (.ins C dx JU):=ae;have dE7:upd H6 a (.ins C dx JU) D1=some (.lst (CO.map V.ref)):=by rw [ak (λz=>by rw [z,Pn] at UQ;cases UQ)];exact UQ
 have Y7:oW K (upd H6 a (.ins C dx JU)) CO aQ:=Y8.keep λ_ _ z=>gW Pn z;generalize upd H6 a (.ins C dx JU)=H7 at Oc eb7 ME ea7 dE7 Y7;refine⟨_,rfl,R,rs,aa,rfl,ME.seq hR,cY.same ME,∅,λD4 H8 f8 s8 e8=>?_⟩;have Ni:=jf (aa.map (·.1)) [];simp only [kM,ar] at Ni;refine⟨D4,rfl,⟨_,aI.of e8⟩,λD5 Pe=>zg (aI.of e8) ∅ Pe λts ps H9 s9 e9 m9 p9 l9 n9=>?_⟩;have n1:(ps.map (·.1)).Nodup:=by rw [m9];exact qf _ iA
 have Dj:Paired (λt (kv:aM×V)=>aT K H9 t [kV kv.1,kv.2]) ts (ps.map jO):=cV p9 λ_ _ z=>z;refine⟨D5,ts,_,rfl,e9,Dj,λd vo=>?_⟩;have So:cZ (ps.map jO) []=ps.map jO:=oO _ [] (by
  rw [mK,oE];exact xb n1)
 rw [So];have OR:=s8.trans s9;have sd:=af vo (.dK (ps.map jO));have Ao:=OR.trans sd;have qL:upd H9 d (.dK (ps.map jO)) d=some (.dK (ps.map jO)):=ae;have Nh:∀p∈ps,upd H9 d (.dK (ps.map jO)) p.2=some (.dK [])/\p.2≠d:=λp hp=>⟨sd _ _ (l9 p hp).1,λz=>by have:=(l9 p hp).1;rw [z,vo] at this;cases this⟩;generalize upd H9 d (.dK (ps.map jO))=Bs at Ao qL Nh;have Bg:=Ao _ _ ea7;have xD:=Ao _ _ Oc;have Oe:=Ao _ _ eb7;have VG:=ME.trans Ao;have Oq:=Ao _ _ dE7;have Vg:oW K Bs CO aQ:=Y7.keep λ_ _ z=>Ao.tup z;refine⟨_,rfl,a,C,dx,_,rfl,Bg,B.cls,B.a4,(by rw [<-hf7,<-Xg];show 3 < 1000;decide),?_⟩;have fp:∀p∈ps,H0 p.2=none/\p.2≠e:=λp hp=>by
  have h8':H8 p.2=none:=(l9 p hp).2.1;refine⟨(ME.trans s8).free h8',λz=>?_⟩;have:=s8 _ _ Oc;rw [<-z,h8'] at this;cases this
 have hfs:∃fs,dQ "firsts" (.ref d) JU=fs/\fs.lookup ("empty":Str)=some (.ref e)/\fs.lookup ("begins":Str)=some (.ref bg)/\fs.lookup ("firsts":Str)=some (.ref d)/\fs.lookup ("find_begins":Str)=none/\(fs.lookup ("words_of_part":Str)=none/\fs.lookup ("first_words":Str)=none/\fs.lookup ("all_empty":Str)=none/\fs.lookup ("words_of_parts":Str)=none)/\fs.lookup ("empties":Str)=some (.ref D1):=by
  refine⟨_,rfl,?_⟩;rw [<-hf7,<-Xg];refine⟨?_,?_,?_,?_,⟨?_,?_,?_,?_⟩,?_⟩ <;> rfl
 obtain⟨fs,efs,k1,k2,k3,k4,k5,k6⟩:=hfs;rw [efs];have Ez:nP K C H0 (upd Bs a (.ins C dx fs)) a e d bg kE aQ ps []:=by
  refine⟨λc o hc=>by rw [ak (λz=>by rw [z,f0] at hc;cases hc)];exact VG c o hc,⟨dx,fs,ae,k1,k2,k3,k4,k5⟩,?_,?_,n1,n9,λp hp=>⟨⟨[],?_,rfl⟩,(fp p hp).1,(fp p hp).2,(Nh p hp).2⟩,⟨[],?_,.nil⟩,fbg,⟨D1,CO,⟨dx,fs,ae,k6⟩,by rw [ak (λz=>by rw [z,Bg] at Oq;cases Oq)];exact Oq,Vg.keep λ_ _ z=>gW Bg z,V_⟩⟩
  .rw [ak (λz=>by rw [z,Bg] at xD;cases xD)];exact xD
  .rw [ak (λz=>by rw [z,Bg] at qL;cases qL)];exact qL
  .have:=(Nh p hp).1;rw [ak (λz=>by rw [z,Bg] at this;cases this)];exact this
  rw [ak (λz=>by rw [z,Bg] at Oe;cases Oe)];exact Oe
 generalize upd Bs a (.ins C dx fs)=Ef at Ez;have eb:(λz=>(bj kE (Sum.inr z)).isSome)=λz=>decide (z∈aQ.map (·.1)):=funext Dc;refine⟨1,rfl,?_⟩;refine⟨λmm σ zy=>∃(a9:List Be) (many:Int)(y2 y4:Option V),σ=[aF a,aF R,y2,some (.int many),y4]/\nP K C H0 zy a e d bg kE aQ ps a9/\uy aa (hd aa) (λz=>decide (z∈aQ.map (·.1))) a9/\-1<=many/\many<=a9.length /\
  (many=a9.length->zE aa (hd aa) (λz=>decide (z∈aQ.map (·.1))) aa.length a9)/\(mm:Int)=80001 - many,⟨80002,[],-1,none,none,rfl,Ez,.nil,∅,by simp,by simp,∅⟩,?_⟩
 rintro mm σ zy ⟨a9,many,y2,y4,rfl,IC,Ox,b1,b2,cl,em⟩;obtain⟨Oj,rm,q1,q2,q3,q4,q5,q6⟩:=IC.ia;obtain⟨tb,Dt,JR⟩:=IC.lb;have lb:=bI JR;have Nm:=Ox.len bM h8;refine⟨_,rfl,_,rfl,a,C,Oj,rm,_,rfl,q1,B.cls,B.a3,q3,bg,_,rfl,.inl (aI.of Dt),_,_,rfl,rfl,_,rfl,?_⟩;refine cx (λc=>?_) (λc=>?_)
 .have c':=cI c;rw [ar,lb] at c';refine⟨λσ CH=>∃(dZ:List Be)(y2 y4:Option V),σ=[aF a,aF R,y2,some (.int (a9.length:Int)),y4]/\nP K C H0 CH a e d bg kE aQ ps dZ/\uy aa (hd aa) (λz=>decide (z∈aQ.map (·.1))) dZ/\a9.length<=dZ.length /\
   (dZ.length=a9.length->dZ=a9/\zE aa (hd aa) (λz=>decide (z∈aQ.map (·.1))) aa.length a9),?_,?_⟩
  .rintro σ CH ⟨dZ,y2,y4,rfl,HP,DX,Wj,Et⟩;have:=DX.len bM h8;refine⟨(80001 - a9.length:Int).toNat,∅,dZ,_,_,_,rfl,HP,DX,∅,∅,λz=>?_,∅⟩;obtain⟨J1,DK⟩:=Et ∅;rw [J1];exact DK
  refine⟨_,rfl,a,C,Oj,rm,_,rfl,q1,B.cls,B.a3,q3,bg,_,rfl,.inl (aI.of Dt),?_⟩;rw [ar,lb];refine⟨_,rfl,R,_,rfl,IC.sm.seq hR,?_⟩;refine jJ (xs:=rs.map V.ref) (λi σ CH=>∃(dZ:List Be)(y2 y4:Option V),σ=[aF a,aF R,y2,some (.int (a9.length:Int)),y4]/\nP K C H0 CH a e d bg kE aQ ps dZ/\uy aa (hd aa) (λz=>decide (z∈aQ.map (·.1))) dZ/\a9.length<=dZ.length /\
   (dZ.length=a9.length->dZ=a9/\zE aa (hd aa) (λz=>decide (z∈aQ.map (·.1))) i a9)) ⟨a9,_,_,rfl,IC,Ox,aK _,λ_=>⟨rfl,λk ru hk=>by omega⟩⟩ ?_ ?_ ?_
  .rintro i σ CH _ ⟨dZ,y2,y4,rfl,HP,_⟩;exact HP.sm.seq hR
  .rintro i x σ CH t ex ⟨dZ,y2,y4,rfl,HP,DX,Wj,Et⟩ ht
   ac_nf0
   rw [bf] at ex;obtain⟨r,er,rfl⟩:=b_.mp ex;obtain⟨ru,tP,rv⟩:=cY.get er;have qa:=cA tP;have Ta:=HP.same (af ht (.tup [.int (i:Int),.ref r]));have Rp:aT K (upd CH t (.tup [.int (i:Int),.ref r])) t [.int (i:Int),.ref r]:=aT.of ae;generalize upd CH t (.tup [.int (i:Int),.ref r])=H14 at Ta Rp;obtain⟨dx4,Pf,r1,r2,r3,r4,r5,r6⟩:=Ta.ia;refine⟨t,_,rfl,Rp,rfl,_,_,rfl,_,_,rfl,rfl,?_⟩;refine⟨_,rfl,a,dx4,Pf,rfl,r1,r5,_,rfl,_,rfl,H0,a,e,d,bg,r,kE,aQ,ps,dZ,i,ru,aa,rfl,Ta,rv,tP,h8 ru qa,by rw [m9];exact(ik _ _ _).mpr (.inr (iO qa)),?_,?_,?_⟩
   .intro xJ Im;have:=Im.len bM h8;omega
   .rw [m9,eb];exact DX
   rw [m9,eb];intro YC H15 YV YB l15 Yw;refine⟨YC,_,_,rfl,YV,YB,∅,λhl3=>?_⟩;obtain⟨x1,x2⟩:=Et ∅;obtain⟨x3,x4⟩:=Yw ∅;refine⟨x3.trans x1,λk Ar hk XQ j z hj ez wd hw=>?_⟩;by_cases ck:k < i
   .exact x2 k Ar ck XQ j z hj ez wd hw
   have:k=i:=by omega
   subst this;rw [tP] at XQ;cases XQ;rw [<-x1] at hw ⊢;exact x4 j z hj ez wd hw
  rintro σ CH ⟨dZ,y2,y4,rfl,HP,DX,Wj,Et⟩;rw [ar,ll] at Et;exact⟨dZ,_,_,rfl,HP,DX,Wj,Et⟩
 have c':=of_decide_eq_false (rP.mpr c);rw [ar,lb] at c';exact q e d bg kE aQ ps a9 zy IC m9 emp lH Dc Ox (cl ∅)
end
end ig
namespace L2
open PySem PySem.W
section
variable {X:Cx}{ag:List (Addr×Obj)}{σ:St}{H:Hp}{s:Shared}{a:Addr}{kvs:List (aM×V)}{k:aM}{u:Value}{A:Around}{E:Value->Shared->Prop}
def Om {z:V}{r:Value}{Q:Value->Shared->Prop}(I:Inv X ag σ H s)(e:H a=some (.dK kvs))(hl:kvs.length < sizeLine)(ry:RelV (kV k) u)(rz:RelV z r)
  (h1:∀v w' s',bj kvs k=some v->Inv X ag σ H s'->RelV v w'->Q w' s')(h2:bj kvs k=none->∀s',Inv X ag σ (upd H a (.dK (bX kvs k z))) s'->Q r s') :
  wpAny (model X.prog X.w) A (call (.builtin "dict.setdefault") [.ref a,u,r]) Q E s:=by
 obtain⟨zl,hd,vs,rel,dd⟩:=vF I.cw e;refine call_meetsIn PySem.F.slot_dict_setdefault dd.typeIs PySem.F.entry_dict_setdefault (PySem.F.args_dict_setdefault_3 _ _ _) (kt_meets_setdefault (bc X.prog X.w) a (mw ry) hd r)
  ⟨vs,dd,by rw [<-rel.length];exact zl,λv hv=>?_,λhn h' Iz hs=>?_⟩
 .have rv:=rel.val k;rw [hv] at rv;cases e2:bj kvs k with
  | none=>rw [e2] at rv;cases rv
  | some x=>rw [e2] at rv;exact h1 x v _ e2 (I.tok _) rv
 have GU:bj kvs k=none:=by
  have rv:=rel.val k;rw [hn] at rv;cases e2:bj kvs k with
  | none=>rfl
  | some x=>rw [e2] at rv;cases rv
 have he:∃q,h'.get? a=some q:=let ⟨q,_,_,hq,_⟩:=Iz;⟨q,hq⟩;exact h2 GU _ (rq I (by rw [e];exact True.intro) hs he (tU (by have:=fC kvs k z;omega) hd (rel.put k rz) Iz))
end
section
variable {X:Cx}{o e f:Expr}{apos iu:Pos}{td ty tx:TE}
def Mj (td ty tx:TE):TE:=λσ H Q=>td σ H λx H1=>∃a,x=.ref a/\U0 H1 a/\ty σ H1 λy H2=>tx σ H2 λz H3=>∃kvs k,H3 a=some (.dK kvs)/\y=kV k/\kvs.length < sizeLine /\
 (∀v,bj kvs k=some v->Q v H3)/\(bj kvs k=none->Q z (upd H3 a (.dK (bX kvs k z))))
def FJ (ho:PE X o td)(he:PE X e ty)(hf:PE X f tx)(m:M2 X o "setdefault" apos e f iu):PE X (.Call (.Attribute o "setdefault" apos) [e,f] [] iu) (Mj td ty tx):=by
 intro ag s σ H Q I h;refine wpAny_Call_method m.base m.oY m.line zS PySem.F.slot_dict_setdefault PySem.F.type_dict_setdefault (df (ho ag s σ H _ I h) λu s1 bL=>?_);obtain⟨x,H1,I1,rx,a,ex,d,q1⟩:=bL;subst ex;obtain rfl:u=Value.ref a:=rx;obtain⟨t1,t2,_⟩:=AW I1 d;refine⟨t1,t2,?_⟩;rw [m.trees];refine wa rfl (vY (qk (df (he ag s1 σ H1 _ I1 q1) λiv s2 ⟨y,H2,I2,ry,q2⟩ =>
  qk (df (hf ag s2 σ H2 _ I2 q2) λfv s3 ⟨z,H3,I3,rz,kvs,k,ea,ey,hl,q3,q4⟩=>ph ?_))))
 subst ey;exact Om I3 ea hl ry rz (λv w' s4 l I4 Aq=>⟨v,_,I4,Aq,q3 v l⟩) λl s4 I4=>⟨z,_,I4,rz,q4 l⟩
end
end L2
namespace ig
open PySem L2 M11
section
def QD {ps:List (Str×Addr)}(n1:(ps.map (·.1)).Nodup)(n2:(ps.map (·.2)).Nodup){p p':Str×Addr}(hp:p∈ps)(p_:p'∈ps)(z:p'≠p):p'.1≠p.1/\p'.2≠p.2:=by
 refine⟨λq=>z ?_,λq=>z ?_⟩
 .have w1:=h_ ps n1 p' p_;have w2:=h_ ps n1 p hp;rw [q,w2] at w1;injection w1 with w3;injection w3 with w4;exact jP q w4.symm
 obtain⟨i,hi,ei⟩:=rD.mp p_;obtain⟨j,hj,ej⟩:=rD.mp hp;have JO:i=j:=by
  refine(vV (xs:=ps.map (·.2)) (h₀:=by simpa using hi) (h₁:=by simpa using hj) n2).mp ?_;rw [px,px,ei,ej];exact q
 subst JO;exact ei.symm.trans ej
structure ID (ps:List (Str×Addr))(st:Str->List Int)(H:Hp)(d:Addr):Prop where
 hd:H d=some (.dK (ps.map jO))
 n1:(ps.map (·.1)).Nodup
 n2:(ps.map (·.2)).Nodup
 lst:∀p∈ps,H p.2=some (.lst ((st p.1).map V.int))
def ID.same {ps:List (Str×Addr)}{st:Str->List Int}{H H':Hp}{d:Addr}(h:ID ps st H d)(s:aE H H'):ID ps st H' d:=⟨s _ _ h.hd,h.n1,h.n2,λp hp=>s _ _ (h.lst p hp)⟩
def CC (st:Str->List Int)(n:Str) (k:Int):Str->List Int:=λz=>if z=n then st z++[k] else st z
def ID.more {ps:List (Str×Addr)}{st:Str->List Int}{H:Hp}{d:Addr}(h:ID ps st H d){p:Str×Addr}(hp:p∈ps) (k:Int):ID ps (CC st p.1 k) (upd H p.2 (.lst ((st p.1).map V.int++[.int k]))) d:=by
 have a:=h.lst p hp;have nd:d≠p.2:=λz=>by have:=h.hd;rw [z,a] at this;cases this
 refine⟨by rw [ak nd];exact h.hd,h.n1,h.n2,λp' p_=>?_⟩;by_cases z:p'=p
 .rw [z,ae];have e1:CC st p.1 k p.1=st p.1++[k]:=aw rfl;rw [e1,br];rfl
 obtain⟨a1,a2⟩:=QD h.n1 h.n2 hp p_ z;have e1:CC st p.1 k p'.1=st p'.1:=ax a1;rw [ak a2,e1];exact h.lst p' p_
def EV (K:a0):Sp:=λvs H Q _=>∃(R:Addr)(rs:List Addr)(aa:List au),vs=[.ref R]/\aI K H R (rs.map V.ref)/\bT K H rs aa/\aa.length<=1000 /\
 ∀(d:Addr)(ps:List (Str×Addr))(H':Hp),H d=none->aE H H'->ID ps (λn=>nums aa n aa.length) H' d->ps.map (·.1)=hd aa->(∀p∈ps,H p.2=none)->Q (.ref d) H'
def wG:aN ["rules","numbers","number","rule"] ["rules"] (aA Fb):=je rfl rfl rfl rfl nofun
def Jn (F:iG K "numbers_by_name" "numbers_by_name" Fb f fd)(T:Txt mg)(GH:aG P w K mg base 1 "heads_of" ["rules"] (lP K)):bR P w K mg base fK 2 f fd ["rules"] (EV K):=by
 refine F.ok wG (λvs H Q E h=>?_) (λeJ A outer s H vs Q E hr h=>?_)
 .obtain⟨R,rs,aa,rfl,_⟩:=h;rfl
 obtain⟨R,rs,aa,rfl,hR,cY,bM,q⟩:=h;have hu:=ff hr;refine⟨_,ai (aC (i:=1) wG.nd rfl (a_ rfl) (a7 (eI rfl) rfl T.Cv gu (ab
   (aV ["name"] [] rfl (aP (bK GH hr rfl (ab (pv 0) aj))) (aS rfl rfl) nofun rfl nofun
    (λ_ _ _ _ _=>aq (i:=0) (show (["name"]:List Str).Nodup by decide +kernel) rfl (a_ rfl)) (λ_ _ _ _ _=>bF)
    (λ_ _ _ _ _=>bU (ab (pv 0) (ab (bJ aj) aj)))) aj)))
  (ai (bD b8 rfl (lU rfl T.Iu (ab (pv 0) aj)) (ft rfl (az (aq (i:=2) wG.nd rfl (a_ rfl)) (az (aq (i:=3) wG.nd rfl (a_ rfl)) bz)))
   (ao (cv (fY fU fV fX bA (fO hu (pv 1) (b9 cN (pv 3) av (λ_ _=>rfl)) (λ_ _=>rfl)) (ab (pv 2) aj)))))
  (ao (bC (pv 1)))),?_⟩
 nofun
 have ll:=bI cY;refine⟨_,rfl,R,rs,aa,rfl,hR,cY,bM,λD2 H3 f3 s3 e3=>?_⟩;have Ni:=jf (aa.map (·.1)) [];simp only [kM,ar] at Ni;refine⟨D2,rfl,⟨_,aI.of e3⟩,λD3 NW=>tZ (aI.of e3) ∅ NW λts ps H4 s4 e4 m4 p4 l4 n4=>?_⟩;have n1:(ps.map (·.1)).Nodup:=by rw [m4];exact qf _ iA
 have Dj:Paired (λt (kv:aM×V)=>aT K H4 t [kV kv.1,kv.2]) ts (ps.map jO):=cV p4 λ_ _ z=>z;refine⟨D3,ts,_,rfl,e4,Dj,λd vo=>?_⟩;have So:cZ (ps.map jO) []=ps.map jO:=oO _ [] (by
  rw [mK,oE];exact xb n1)
 rw [So];have s5:=(s3.trans s4).trans (af vo (.dK (ps.map jO)));have yn:=af vo (.dK (ps.map jO));have zL:H d=none:=(s3.trans s4).free vo;have S5:ID ps (λn=>nums aa n 0) (upd H4 d (.dK (ps.map jO))) d:=⟨ae,n1,n4,λp hp=>yn _ _ (l4 p hp).1⟩;have Ph:∀p∈ps,H p.2=none:=λp hp=>s3.free (l4 p hp).2.1;generalize upd H4 d (.dK (ps.map jO))=H5 at s5 S5;clear yn;refine⟨_,rfl,R,_,rfl,s5.seq hR,?_⟩
 let xR:rB:=λi σ H6=>∃(y2 y3:Option V),σ=[aF R,aF d,y2,y3]/\aE H H6/\ID ps (λn=>nums aa n i) H6 d
 refine jJ (xs:=rs.map V.ref) xR ⟨none,none,rfl,s5,S5⟩ ?_ ?_ ?_
 .rintro i σ H6 _ ⟨y2,y3,rfl,s6,_⟩;exact s6.seq hR
 .rintro i x σ H6 t ex ⟨y2,y3,rfl,s6,S6⟩ ht
  ac_nf0
  rw [bf] at ex;obtain⟨r,er,rfl⟩:=b_.mp ex;obtain⟨ru,tP,p,v1,v2⟩:=cY.get er;have qa:=cA tP;have li:=(bh.mp tP).1;have zG:=af ht (.tup [.int (i:Int),.ref r]);have Lh:aT K (upd H6 t (.tup [.int (i:Int),.ref r])) t [.int (i:Int),.ref r]:=aT.of ae;have s7:=s6.trans zG;have S7:=S6.same zG;generalize upd H6 t (.tup [.int (i:Int),.ref r])=H7 at Lh s7 S7;obtain⟨pn,yN,zM⟩:∃pn∈ps,pn.1=ru.1:=by
   have:ru.1∈ps.map (·.1):=by rw [m4];exact(ik _ _ _).mpr (.inr (iO qa))
   obtain⟨pn,a,b⟩:=bN.mp this;exact⟨pn,a,b⟩
  have an:=S7.lst pn yN;have vn:=h_ ps n1 pn yN;rw [zM] at vn;have hg:cD H7 d (.str ru.1) (some (.ref pn.2)):=by
   have:=cD.k (k:=Sum.inr ru.1) S7.hd;rw [vn] at this;exact this
  have ln:=yA aa pn.1 i;refine⟨t,_,rfl,Lh,rfl,_,_,rfl,_,_,rfl,rfl,?_⟩;refine⟨_,rfl,_,rfl,r,_,_,_,rfl,rfl,s7.tup v1,rfl,d,_,rfl,hg,.inl ⟨rfl,_,aI.of an⟩,_,rfl,pn.2,_,_,rfl,rfl,an,bq (by rw [ar];omega),?_⟩;have S8:=S7.more yN (i:Int);refine⟨_,_,rfl,λb o hb=>by rw [ak (λz=>by rw [z,Ph pn yN] at hb;cases hb)];exact s7 b o hb,S8.hd,S8.n1,S8.n2,λp' p_=>?_⟩;have:=S8.lst p' p_;rw [this]
  congr 3
  unfold CC;rw [C9];by_cases c:p'.1=pn.1
  .rw [aw c,aw];unfold O0;rw [tP,c,zM];simp
  rw [ax c,ax,gH];unfold O0;rw [tP];intro z;have z2:=cI z;injection z2 with z3;exact c (by rw [zM];exact z3.symm)
 rintro σ H6 ⟨y2,y3,rfl,s6,S6⟩;rw [ar,ll] at S6;exact⟨_,rfl,q d ps H6 zL s6 S6 m4 Ph⟩
def KA (K:a0):Sp:=λvs H Q _=>∃(R:Addr)(rs:List Addr)(aa:List au),vs=[.ref R]/\aI K H R (rs.map V.ref)/\bT K H rs aa/\aa.length<=1000/\(∀ru∈aa,ru.2.length<=8) /\
 ∀(d:Addr)(H':Hp),H d=none->aE H H'->Q (.ref d) H'
structure Ey (H0 H:Hp)(d:Addr)(kvs:List (aM×V)) (n:Nat):Prop where
 hd:H d=some (.dK kvs)
 ln:kvs.length<=n
 lst:∀kv∈kvs,∃a xs,kv.2=.ref a/\H a=some (.lst xs)/\H0 a=none/\xs.length<=n
def Ey.same {H0 H H':Hp}{d:Addr}{kvs:List (aM×V)}{n:Nat}(h:Ey H0 H d kvs n)(s:aE H H'):Ey H0 H' d kvs n:=⟨s _ _ h.hd,h.ln,λkv hk=>let ⟨a,xs,e1,e2,e3,e4⟩:=h.lst kv hk;⟨a,xs,e1,s _ _ e2,e3,e4⟩⟩
def Ey.more {H0 H:Hp}{d a:Addr}{kvs:List (aM×V)}{n:Nat}{xs:List V}{y:V}(h:Ey H0 H d kvs (n+1))(ha:H a=some (.lst xs))(lx:xs.length<=n)(l2:∀kv∈kvs,∃a xs,kv.2=.ref a/\H a=some (.lst xs)/\H0 a=none/\xs.length<=n):Ey H0 (upd H a (.lst (xs++[y]))) d kvs (n+1):=by
 have nd:d≠a:=λz=>by have:=h.hd;rw [z,ha] at this;cases this
 refine⟨by rw [ak nd];exact h.hd,h.ln,λkv hk=>?_⟩;obtain⟨b,ys,e1,e2,e3,e4⟩:=l2 kv hk;by_cases c:b=a
 .exact⟨b,xs++[y],e1,by rw [c,ae],e3,by rw [bB];simp;omega⟩
 exact⟨b,ys,e1,by rw [ak c];exact e2,e3,∅⟩
def Mc {kvs:List (aM×V)}{k:aM}{v:V}(h:bj kvs k=some v):∃kv∈kvs,kv.2=v:=by
 unfold bj at h;obtain⟨kv,e1,e2⟩:=b_.mp h;exact⟨kv,List.mem_of_find?_eq_some e1,e2⟩
def uW:aN ["rules","standings","number","rule","place","part"] ["rules"] (aA Mu):=je rfl rfl rfl rfl nofun
def M6 (F:iG K "standings_by_part" "standings_by_part" Mu f fd)(T:Txt mg):bR P w K mg base fK 1 f fd ["rules"] (KA K):=by
 refine F.ok uW (λvs H Q E h=>?_) (λeJ A outer s H vs Q E hr h=>?_)
 .obtain⟨R,rs,aa,rfl,_⟩:=h;rfl
 obtain⟨R,rs,aa,rfl,hR,cY,bM,h8,q⟩:=h;have hu:=ff hr;refine⟨_,ai (aC (i:=1) uW.nd rfl (a_ rfl) fu)
  (ai (bD b8 rfl (lU rfl T.Iu (ab (pv 0) aj)) (ft rfl (az (aq (i:=2) uW.nd rfl (a_ rfl)) (az (aq (i:=3) uW.nd rfl (a_ rfl)) bz)))
   (ao (bD b8 rfl (oA rfl T.Iu (ab (b9 cN (pv 3) av (λ_ _=>rfl)) aj)) (ft rfl (az (aq (i:=4) uW.nd rfl (a_ rfl)) (az (aq (i:=5) uW.nd rfl (a_ rfl)) bz)))
    (ao (cv (fY fU fV fX bA (FJ (pv 1) (pv 5) (bJ aj) ⟨rfl,rfl,rfl,rfl⟩) (ab (bU (ab (pv 2) (ab (pv 4) aj))) aj)))))))
  (ao (bC (pv 1)))),?_⟩
 nofun
 have ll:=bI cY;intro d vo;have s1:=af vo (.dK []);have S1:Ey H (upd H d (.dK [])) d [] (8 * 0):=⟨ae,aK _,λkv hk=>by cases hk⟩;generalize upd H d (.dK [])=H1 at s1 S1;refine⟨_,rfl,R,_,rfl,s1.seq hR,?_⟩
 let Ed:rB:=λi σ H6=>∃(kvs:List (aM×V))(y2 y3 y4 y5:Option V),σ=[aF R,aF d,y2,y3,y4,y5]/\aE H H6/\Ey H H6 d kvs (8 * i)
 refine jJ (xs:=rs.map V.ref) Ed ⟨[],none,none,none,none,rfl,s1,S1⟩ ?_ ?_ ?_
 .rintro i σ H6 _ ⟨kvs,y2,y3,y4,y5,rfl,s6,_⟩;exact s6.seq hR
 .rintro i x σ H6 t ex ⟨kvs,y2,y3,y4,y5,rfl,s6,S6⟩ ht
  ac_nf0
  rw [bf] at ex;obtain⟨r,er,rfl⟩:=b_.mp ex;obtain⟨ru,tP,p,v1,v2⟩:=cY.get er;have qa:=cA tP;have NY:=h8 ru qa;have li:=(bh.mp tP).1;have zG:=af ht (.tup [.int (i:Int),.ref r]);have Lh:aT K (upd H6 t (.tup [.int (i:Int),.ref r])) t [.int (i:Int),.ref r]:=aT.of ae;have s7:=s6.trans zG;have S7:=S6.same zG;generalize upd H6 t (.tup [.int (i:Int),.ref r])=H7 at Lh s7 S7;refine⟨t,_,rfl,Lh,rfl,_,_,rfl,_,_,rfl,rfl,?_⟩;refine⟨_,rfl,r,_,_,_,rfl,rfl,s7.tup v1,rfl,p,_,rfl,s7.tup v2,?_⟩
  let OI:rB:=λj σ H9=>∃(kvs:List (aM×V))(y4 y5:Option V),σ=[aF R,aF d,some (.int (i:Int)),aF r,y4,y5]/\aE H H9/\Ey H H9 d kvs (8 * i+j)
  refine qd (xs:=ru.2.map V.str) OI ⟨kvs,_,_,rfl,s7,S7⟩ ?_ ?_ ?_
  .rintro j σ H9 _ ⟨kvs,y4,y5,rfl,s9,_⟩;exact s9.tup v2
  .rintro j x σ H9 t2 jM ⟨kvs,y4,y5,rfl,s9,S9⟩ jq
   ac_nf0
   rw [bf] at jM;obtain⟨z,ez,rfl⟩:=b_.mp jM;have lj:=(bh.mp ez).1;have ym:=af jq (.tup [.int (j:Int),.str z]);have Gz:aT K (upd H9 t2 (.tup [.int (j:Int),.str z])) t2 [.int (j:Int),.str z]:=aT.of ae;have wU:=s9.trans ym;have LU:=S9.same ym;generalize upd H9 t2 (.tup [.int (j:Int),.str z])=Bs at Gz wU LU;refine⟨t2,_,rfl,Gz,rfl,_,_,rfl,_,_,rfl,rfl,?_⟩;have lk:=LU.ln;refine⟨_,rfl,d,rfl,.inl ⟨kvs,.inl LU.hd⟩,_,rfl,uo,λl hl=>?_⟩;have IZ:=af hl (.lst []);have Iy:upd Bs l (.lst []) l=some (.lst []):=ae;have fl:H l=none:=wU.free hl;have Ez:=LU.same IZ;have sA:=wU.trans IZ;generalize upd Bs l (.lst [])=Ef at IZ Iy Ez sA;have fin:∀(a:Addr)(xs:List V)(nj:List (aM×V))(zy:Hp),zy a=some (.lst xs)->H a=none->xs.length<=8 * i+j->Ey H zy d nj (8 * i+j+1)->(∀kv∈nj,∃a xs,kv.2=.ref a/\zy a=some (.lst xs)/\H a=none/\xs.length<=8 * i+j)->aE H zy ->
     ∀t4,zy t4=none->xs.length < sizeLine/\∃(kvs:List (aM×V))(y4 y5:Option V),[some (V.ref R),aF d,some (.int (i:Int)),aF r,some (.int (j:Int)),some (.str z)]=[aF R,aF d,some (.int (i:Int)),aF r,y4,y5]/\aE H (upd (upd zy t4 (.tup [.int (i:Int),.int (j:Int)])) a (.lst (xs++[.ref t4])))/\Ey H (upd (upd zy t4 (.tup [.int (i:Int),.int (j:Int)])) a (.lst (xs++[.ref t4]))) d kvs (8 * i+(j+1)) :=
    λa xs nj zy ea fa lx IC Ie KL t4 Dm=>by
     have Ap:=af Dm (.tup [.int (i:Int),.int (j:Int)]);refine⟨bq ∅,nj,_,_,rfl,λb o hb=>by rw [ak (λz=>by rw [z,fa] at hb;cases hb)];exact Ap _ _ (KL b o hb),?_⟩;exact(IC.same Ap).more (Ap _ _ ea) lx λkv hk=>let ⟨b,ys,e1,e2,e3,e4⟩:=Ie kv hk;⟨b,ys,e1,Ap _ _ e2,e3,e4⟩
   refine⟨kvs,Sum.inr z,Ez.hd,rfl,bq ∅,λv hv=>?_,λhn=>?_⟩
   .obtain⟨kv,hk,ek⟩:=Mc hv;obtain⟨a,xs,e1,e2,e3,e4⟩:=Ez.lst kv hk;rw [e1] at ek;subst ek;refine⟨.inl ⟨rfl,_,aI.of e2⟩,_,rfl,_,rfl,mj,λt4 Dm=>?_⟩;obtain⟨g1,g2⟩:=fin a xs kvs Ef e2 e3 e4 ⟨Ez.hd,∅,λkv hk=>let ⟨b,ys,e1,e2,e3,e4⟩:=Ez.lst kv hk;⟨b,ys,e1,e2,e3,∅⟩⟩ Ez.lst sA t4 Dm;exact⟨a,_,_,rfl,rfl,af Dm _ _ _ e2,g1,g2⟩
   have nd:d≠l:=λz=>by have:=Ez.hd;rw [z,Iy] at this;cases this
   have LF:upd Ef d (.dK (bX kvs (Sum.inr z) (.ref l))) l=some (.lst []):=by rw [ak nd.symm];exact Iy
   have zL:H d=none:=vo;have KL:aE H (upd Ef d (.dK (bX kvs (Sum.inr z) (.ref l)))):=λb o hb=>by rw [ak (λz=>by rw [z,zL] at hb;cases hb)];exact sA b o hb
   have Ie:∀kv∈bX kvs (Sum.inr z) (.ref l),∃a xs,kv.2=.ref a/\upd Ef d (.dK (bX kvs (Sum.inr z) (.ref l))) a=some (.lst xs)/\H a=none/\xs.length<=8 * i+j:=λkv hk=>by
    rw [yp _ hn] at hk;rcases bY.mp hk with h | h
    .obtain⟨b,ys,e1,e2,e3,e4⟩:=Ez.lst kv h;exact⟨b,ys,e1,by rw [ak (λz=>by rw [z,Ez.hd] at e2;cases e2)];exact e2,e3,e4⟩
    rw [cg.mp h];exact⟨l,[],rfl,LF,fl,by simp⟩
   have lp:=fC kvs (Sum.inr z:aM) (.ref l);have IC:Ey H (upd Ef d (.dK (bX kvs (Sum.inr z) (.ref l)))) d (bX kvs (Sum.inr z) (.ref l)) (8 * i+j+1):=⟨ae,∅,λkv hk=>let ⟨b,ys,e1,e2,e3,e4⟩:=Ie kv hk;⟨b,ys,e1,e2,e3,∅⟩⟩;generalize upd Ef d (.dK (bX kvs (Sum.inr z) (.ref l)))=zy at LF KL Ie IC;refine⟨.inl ⟨rfl,_,aI.of LF⟩,_,rfl,_,rfl,mj,λt4 Dm=>?_⟩;obtain⟨g1,g2⟩:=fin l [] _ zy LF fl (by simp) IC Ie KL t4 Dm;exact⟨l,_,_,rfl,rfl,af Dm _ _ _ LF,g1,g2⟩
  rintro σ H9 ⟨kvs,y4,y5,rfl,s9,S9⟩;rw [ar] at S9;refine⟨kvs,_,_,_,_,rfl,s9,S9.hd,by have:=S9.ln;omega,λkv hk=>let ⟨b,ys,e1,e2,e3,e4⟩:=S9.lst kv hk;⟨b,ys,e1,e2,e3,∅⟩⟩
 rintro σ H6 ⟨kvs,y2,y3,y4,y5,rfl,s6,S6⟩;exact⟨_,rfl,q d H6 vo s6⟩
end
end ig
namespace L2
open PySem PySem.Spec PyProof.Rows
open PySem
def d8 {X:Cx}(K:a0)(hK:X.K=K:=by rfl):l_ X (compareOp .In) (TY K false):=by
 subst hK;exact jC
def Y2 (K:a0)(H:Hp):Nat->V->V->Prop
 | 0,x,y=>x=y/\qh x
 | n+1,x,y=>(x=y/\qh x)\/∃a b xs ys,x=.ref a/\y=.ref b/\((aI K H a xs/\aI K H b ys)\/(aT K H a xs/\aT K H b ys))/\Paired (Y2 K H n) xs ys
def Y2.self {K:a0}{H:Hp}{x:V}(h:qh x):∀n,Y2 K H n x x
 | 0=>⟨rfl,h⟩
 | _+1=>.inl ⟨rfl,h⟩
section
variable {prog:Program}{w:World}{A:Around}{E:Value->Shared->Prop}{s:Shared}
abbrev HU (h:Heap)(z:Addr)(f0 f1:Value)(TI TO:Addr):Prop:=h.get? z=some { cls:=.type "zip",data:=.fields #[f0,f1,.bool false,.ref TI,.ref TO] }
end
structure YM (h:Heap)(z TI TO i1 i2 l1 l2:Addr)(xs ys:Array Value) (i:Nat):Prop where
 hz:∃f0 f1,HU h z f0 f1 TI TO/\(f0=.none\/∃T:Nat,f0=rawInt T)
 hI:IsPair h TI (.ref i1) (.ref i2)
 hO:∃a b,IsPair h TO a b
 h1:h.IsTupleIter i1 l1 i
 h2:h.IsTupleIter i2 l2 i
 t1:h.IsTuple l1 xs
 t2:h.IsTuple l2 ys
def x9 {h h':Heap}{l:Addr}{xs:Array Value}(t:h.IsTuple l xs)(k:∀o,h.get? l=some o->h'.get? l=some o):h'.IsTuple l xs:=by
 obtain⟨o,a,b,c⟩:=t;exact⟨o,k o a,b,c⟩
def vU (h:Heap) (N:Nat)(xs ys bS:Array Value):Prop:=∃Ts:List Nat,bS.toList=Ts.map Value.ref/\Ts.Pairwise (· < ·)/\∀(j T:Nat),Ts[j]?=some T->N<=T/\∃x y:Value,IsPair h T x y/\xs[j]?=some x/\ys[j]?=some y
def vU.keep {h h':Heap}{N:Nat}{xs ys bS:Array Value}(a:vU h N xs ys bS)(k:∀(T:Nat) o,N<=T->h.get? T=some o->h'.get? T=some o):vU h' N xs ys bS:=by
 obtain⟨Ts,e1,e2,e3⟩:=a;refine⟨Ts,e1,e2,λj T hj=>?_⟩;obtain⟨l,x,y,p,q⟩:=e3 j T hj;exact⟨l,x,y,k T _ l p,q⟩
def vU.more {h:Heap}{N T0:Nat}{xs ys bS:Array Value}{x y:Value}(a:vU h N xs ys bS)(lt:∀(Ts:List Nat),bS.toList=Ts.map Value.ref->∀T∈Ts,T < T0)(hN:N<=T0)(p:IsPair h T0 x y)(hx:xs[bS.size]?=some x)(hy:ys[bS.size]?=some y):vU h N xs ys (bS.push (.ref T0)):=by
 obtain⟨Ts,e1,e2,e3⟩:=a;have el:Ts.length=bS.size:=by
  have:=congrArg List.length e1;rw [ar] at this;rw [<-this];simp
 refine⟨Ts++[T0],by rw [Array.toList_push,e1,br];rfl,List.pairwise_append.mpr ⟨e2,by simp,λT hT b hb=>by rw [cg.mp hb];exact lt Ts e1 T hT⟩,λj T hj=>?_⟩;by_cases c:j < Ts.length
 .rw [qo c] at hj;exact e3 j T hj
 rw [nX ∅] at hj;have c2:j - Ts.length=0:=by
  have:=(bh.mp hj).1;simp at this;omega
 rw [c2] at hj;cases hj;have:j=bS.size:=by omega
 rw [this];exact⟨hN,x,y,p,hx,hy⟩
def YM.keep {h h':Heap}{z TI TO i1 i2 l1 l2:Addr}{xs ys:Array Value}{i:Nat}(st:YM h z TI TO i1 i2 l1 l2 xs ys i)(k:∀b o,h.get? b=some o->h'.get? b=some o):YM h' z TI TO i1 i2 l1 l2 xs ys i:=by
 obtain⟨⟨f0,f1,a,b⟩,hI,⟨c,d,hO⟩,h1,h2,t1,t2⟩:=st;exact⟨⟨f0,f1,k _ _ a,b⟩,k _ _ hI,⟨c,d,k _ _ hO⟩,h1.at λo q=>k _ _ q,h2.at λo q=>k _ _ q,x9 t1 λo q=>k _ _ q,x9 t2 λo q=>k _ _ q⟩
end L2
namespace HT
open PySem PyProof.Rows
section
variable {prog:Program}{w:World}{A:Around}{E:Value->Shared->Prop}{s:Shared}
end
end HT
namespace L2
open PySem PySem.Spec PyProof.Rows
open PySem
section
variable {prog:Program}{w:World}{A:Around}{E:Value->Shared->Prop}{s:Shared}
end
structure ZTn (h:Heap)(z TI TO i1 i2 l1 l2:Addr) (i:Nat):Prop where
 hz:∃f0 f1,HU h z f0 f1 TI TO/\(f0=.none\/∃T:Nat,f0=rawInt T)
 hI:IsPair h TI (.ref i1) (.ref i2)
 hO:∃a b,IsPair h TO a b
 h1:h.IsTupleIter i1 l1 i
 h2:h.IsTupleIter i2 l2 i
end L2
namespace HT
open PySem PySem.Spec PyProof.Rows
section
variable {prog:Program}{w:World}{A:Around}{E:Value->Shared->Prop}{s:Shared}
def oM {t sl:Addr}{items:Array Value}{vl vu:Value}{lo hi:Option Int}{Q:Value->Shared->Prop}(ht:IsTup s.heap t items)(hs:s.heap.IsSliceOf sl vl vu .none)(pl:IsPart vl lo)(pu:IsPart vu hi)
  (hw:fh items.size 0 lo=0/\fh items.size items.size hi=items.size)(h:Q (.ref t) s):wpAny (model prog w) A (getItem (.ref t) (.ref sl)) Q E s:=by
 obtain⟨os,ND,Up,A2⟩:=id hs;have Xo:s.TypeIs (.ref sl) "slice" := ⟨os,ND,Up⟩;unfold getItem
 try with_reducible refine i8 ?_
 first | refine ay (aD ?_) | skip
 refine ay (wpAny_sequenceKey ht.typeIs nofun ?_);refine ay (qm (name:=Str.ofString "__getitem__") ht.typeIs uM
  (kj uM ht.typeIs entry_tuple_getitem ?_ (args_tuple_getitem _ _)))
 show wpAny _ _ (Builtin.Tuple.tupleItemsOf (.ref t) >>= _) _ _ s;refine ay (tupleItemsOf_ ht ?_);refine ay (iP Xo ?_);rw [aw nofun];refine ay (jy hs pl pu ?_);have WA:(((fh items.size 0 lo:Nat):Int) == 0 && (1:Int) == 1 && (fh items.size items.size hi - fh items.size 0 lo) == items.size)=true:=by
  rw [hw.1,hw.2];simp
 show wpAny _ _ (if (((fh items.size 0 lo:Nat):Int) == 0 && (1:Int) == 1 && (fh items.size items.size hi - fh items.size 0 lo) == items.size)=true then _ else _) _ _ s;rw [aw WA];refine ay ?_;unfold Builtin.Tuple.tupleIsExact;refine ay (iP ht.typeIs (aD ?_));rw [aw nofun];refine ay (iw ?_);exact aD ⟨_,rfl,aD h⟩
end
end HT
namespace L2
open PySem PySem.Spec PyProof.Rows
def Qw (K:a0):V->Option Int->Option Int->Hp->VK->Prop:=λx lo hi H Q=>YN x (aT K H) λxs=>∀p H',aE H H'->aT K H' p (ie xs lo hi)->Q (.ref p) H'
def om {X:Cx}:LS X (Qw X.K):=by
 intro ag s σ H x v vl vu lo hi sl Q I rx hs pl pu h;obtain⟨a,xs,rfl,hx,q⟩:=h;by_cases hw:HT.fh xs.length 0 lo=0/\HT.fh xs.length xs.length hi=xs.length
 .have ec:ie xs lo hi=xs:=by
   unfold ie;rw [hw.1,hw.2,rJ,Nat.sub_zero,cC]
  cases rx;obtain⟨aU,r,ht,hz⟩:=I.tuple hx;have bM:aU.toArray.size=xs.length:=by rw [cP];exact r.length.symm
  refine⟨"tuple",_,uM.lookup,ht.typeIs,?_⟩;exact HT.oM ht hs pl pu (by rw [bM];exact hw) ⟨.ref a,H,I,rfl,q a H (λ_ _ h=>h) (by rw [ec];exact hx)⟩
 exact Mo ag s σ H _ v vl vu lo hi sl Q I rx hs pl pu ⟨a,xs,rfl,hx,hw,λp hp=>q p _ (af hp _) (aT.of ae)⟩
def QC (K:a0):R2:=λx y H Q=>YS (aT K H) x y λxs ys=>∀p H',aE H H'->aT K H' p (xs++ys)->Q (.ref p) H'
def wZ {X:Cx}:l_ X (binaryOp .Add) (QC X.K):=by
 intro ag s σ H x y v u Q I rx ry h;obtain⟨a,b,xs,ys,rfl,rfl,ha,hb,hz,q⟩:=h;by_cases hx:xs=[]
 .cases rx;cases ry;obtain⟨aU,r1,p1,_⟩:=I.tuple ha;obtain⟨gr,r2,p2,_⟩:=I.tuple hb;have e1:aU=[]:=r1.qZ.mpr hx;obtain⟨⟨cls,dd,data,sl⟩,ho,hc,n,hd⟩:=id p1;obtain⟨⟨Yr,Pu,data2,TK⟩,AX,RY,n2,hd2⟩:=id p2;simp only at hc hd RY hd2;subst hc hd RY hd2;exact concat_meets ⟨_,ho,rfl⟩ ⟨_,AX,rfl⟩ noFill_tuple_add seq_tuple_add zO zR (zU _ _)
   (tuple_addW0 a b aU.toArray gr.toArray n n2 dd Pu sl TK (by simp [e1])) ⟨ho,AX,.ref b,H,I,rfl,q b H (λ_ _ h=>h) (by rw [hx];exact hb)⟩
 refine Jk ag s σ H _ _ v u Q I rx ry ⟨a,b,xs,ys,rfl,rfl,ha,hb,hx,hz,λe=>q a H (λ_ _ h=>h) (by rw [e,gH];exact ha),λ_ p hp=>q p _ (af hp _) (aT.of ae)⟩
theorem yb:∀{zs:List Str}{aU:List Value},ba (zs.map V.str) aU->StrsAre aU zs
 | [],[],_=>.nil
 | z::r,u::aU,h=>by
  cases h with
  | cons a b =>
   obtain⟨t,rfl⟩:=a;exact .cons z t (yb b)
theorem pH:∀{aU:List Value}{zs:List Str},StrsAre aU zs->ba (zs.map V.str) aU
 | _,_,.nil=>.nil
 | _,_,.cons y t h=>.cons ⟨t,rfl⟩ (pH h)
theorem qw:∀a b:List Nat,ltCps a b=false->ltCps b a=false->a=b
 | [],[],_,_=>rfl
 | [],_::_,h,_=>by rw [ltCps.eq_2] at h;cases h
 | _::_,[],_,h=>by rw [ltCps.eq_2] at h;cases h
 | x::r,y::t,h,k=>by
  rw [ltCps.eq_4,Bool.or_eq_false_iff,decide_eq_false_iff_not] at h k;have e:x=y:=by omega
  subst e;have h2:=h.2;have k2:=k.2;rw [mM,jk] at h2 k2;rw [qw r t h2 k2]
theorem lt_trans:∀a b c:List Nat,ltCps b a=false->ltCps c b=false->ltCps c a=false
 | [],b,[],_,_=>ltCps.eq_1
 | [],b,_::_,_,_=>ltCps.eq_3 _ _
 | x::r,[],c,h,_=>by rw [ltCps.eq_2] at h;cases h
 | x::r,y::t,[],_,k=>by rw [ltCps.eq_2] at k;cases k
 | x::r,y::t,z::u,h,k=>by
  rw [ltCps.eq_4,Bool.or_eq_false_iff,decide_eq_false_iff_not] at h k ⊢;refine⟨∅,?_⟩;by_cases e:z=x
  .have e1:y=x:=by omega
   subst e;subst e1;have h2:=h.2;have k2:=k.2;rw [mM,jk] at h2 k2 ⊢;exact lt_trans r t u h2 k2
  rw [kO.mpr e,o_]
def OY (a b:Str):Prop:=ltCps b.cps.toList a.cps.toList=false
theorem uZ:∀(x:Str) (r:List Str),risingS x r=true->(x::r).Pairwise OY
 | x,[],_=>List.pairwise_singleton _ _
 | x,y::r,h=>by
  rw [risingS.eq_2,mf,Bool.not_eq_true'] at h;have ih:=uZ y r h.2;refine pF.mpr ⟨λz hz=>?_,ih⟩;rcases bO.mp hz with e | e
  .rw [e];exact h.1
  exact lt_trans _ _ _ h.1 ((pF.mp ih).1 z e)
def uV:∀{l:List Str},sortedS l=true->l.Pairwise OY
 | [],_=>.nil
 | x::r,h=>uZ x r h
def xj {a b:Str}(h:OY a b)(k:OY b a):a=b:=by
 have:=qw _ _ h k;cases a with
 | mk x=>cases b with
  | mk y=>rw [show x=y from (Array.toList_inj.mp this.symm)]
theorem ml:∀{l m:List Str},l.Pairwise OY->m.Pairwise OY->l.Perm m->l=m
 | [],m,_,_,p=>by rw [List.nil_perm.mp p]
 | x::r,[],_,_,p=>absurd p.length_eq (by simp)
 | x::r,y::t,h,k,p=>by
  have e:x=y:=by
   have h1:=pF.mp h;have k1:=pF.mp k;rcases bO.mp (p.mem_iff.mp (bQ (a:=x) (l:=r))) with e | e
   .exact e
   rcases bO.mp (p.mem_iff.mpr (bQ (a:=y) (l:=t))) with e2 | e2
   .exact e2.symm
   exact xj (h1.1 y e2) (k1.1 x e)
  subst e;rw [ml (pF.mp h).2 (pF.mp k).2 (List.perm_cons x |>.mp p)]
def su {l m:List Str}(h:sortedS l=true)(k:sortedS m=true)(p:l.Perm m):l=m:=ml (uV h) (uV k) p
def wV (x:Str):Nat->Str
 | 0=>Str.empty
 | 1=>x
 | _=>x++x
def Jj {X:Cx}:l_ X (binaryOp .Mult) (λa b H Q=>∃x n,a=.str x/\b=.int ((n:Nat):Int)/\n<=2/\x.length=1/\Q (.str (wV x n)) H):=by
 intro ag s σ H a b v u Q I ra rb h;obtain⟨x,n,rfl,rfl,hn,hx,q⟩:=h;obtain⟨t,rfl⟩:=ra;obtain⟨t2,rfl⟩:=rb
 match n,hn,q with
 | 0,_,q=>exact PySem.P.mul_str_none nofun nofun ⟨.str Str.empty,H,I.tok _,⟨_,rfl⟩,q⟩
 | 1,_,q =>
  refine PySem.P.mul_str nofun (λ_ h=>by simp at h) (λ_ h=>by simp at h) ?_;rw [ax nofun,aw (by rfl)];exact⟨.str x,H,I,⟨_,rfl⟩,q⟩
 | 2,_,q =>
  refine PySem.P.mul_str nofun (λ_ _=>by rw [hx];decide) (λ_ _=>by rw [hx];decide) ?_;rw [ax nofun,ax (by rw [hx];decide)];have le:(Str.mk (#[]++x.cps++x.cps)).length<=sizeLine:=by
   show (#[]++x.cps++x.cps).size<=sizeLine;rw [Array.empty_append,Array.size_append];have:x.cps.size=1:=hx;rw [this];decide
  refine⟨le,⟨.str (x++x),H,I.tok _,⟨s.toks,?_⟩,q⟩⟩;show Value.str ⟨#[]++x.cps++x.cps⟩ _=Value.str ⟨x.cps++x.cps⟩ _;rw [Array.empty_append]
section
variable {prog:Program}{w:World}{A:Around}{E:Value->Shared->Prop}{s:Shared}
end
open PySem PySem.W PyProof.Rows
section
variable {n:Nat}{lt:Nat->Nat->Bool}{cmp:Nat->Nat->(Bool->Shared->Prop)->Shared->Prop}{s:Shared}
structure Kq (n:Nat)(lt:Nat->Nat->Bool):Prop where
 trans:∀a b c,a < n->b < n->c < n->lt b a=false->lt c b=false->lt c a=false
 YK:∀a b,a < n->b < n->lt a b=true->lt b a=false
structure Pz (n:Nat)(p:Array Nat):Prop where
 pm:p.Perm (List.range n).toArray
theorem Pz.size {p:Array Nat}(h:Pz n p):p.size=n:=by
 have:=h.pm.size_eq;simpa using this
def Pz.Gy {p:Array Nat}(h:Pz n p){i:Nat}(hi:i < n):p.getD i 0 < n:=by
 have hs:=h.size;have e:p.getD i 0=p[i]'∅:=by simp [Array.getD,hs,hi]
 rw [e];have:p[i]'∅∈(List.range n).toArray:=h.pm.mem_iff.mp (Array.getElem_mem _);simpa using this
abbrev at_ (p:Array Nat) (i:Nat):Nat:=p.getD i 0
def OD (lt:Nat->Nat->Bool)(p:Array Nat) (k:Nat):Prop:=∀i j,i<=j->j < k->lt (at_ p j) (at_ p i)=false
def OH (lt:Nat->Nat->Bool)(p:Array Nat) (k:Nat):Prop:=∀i j,i<=j->j < k->lt (at_ p i) (at_ p j)=false
def Kq.Z5 (o:Kq n lt){a:Nat}(h:a < n):lt a a=false:=by
 cases e:lt a a with
 | false=>rfl
 | true=>rw [<-o.YK a a h h e,e]
def OD.more {p:Array Nat}{m:Nat}(o:Kq n lt)(P:Pz n p)(h:OD lt p m)(hm:1<=m)(hn:m < n)(c:lt (at_ p m) (at_ p (m - 1))=false):OD lt p (m+1):=by
 intro i j JO hj;by_cases e:j=m
 .subst e;by_cases e2:i=j
  .subst e2;exact o.Z5 (P.Gy hn)
  exact o.trans _ (at_ p (j - 1)) _ (P.Gy ∅) (P.Gy ∅) (P.Gy hn) (h i (j - 1) ∅ ∅) c
 exact h i j JO ∅
def OH.more {p:Array Nat}{m:Nat}(o:Kq n lt)(P:Pz n p)(h:OH lt p m)(hm:1<=m)(hn:m < n)(c:lt (at_ p (m - 1)) (at_ p m)=false):OH lt p (m+1):=by
 intro i j JO hj;by_cases e:j=m
 .subst e;by_cases e2:i=j
  .subst e2;exact o.Z5 (P.Gy hn)
  exact o.trans _ (at_ p (j - 1)) _ (P.Gy hn) (P.Gy ∅) (P.Gy ∅) c (h i (j - 1) ∅ ∅)
 exact h i j JO ∅
end
def Inv.K6 {X:Cx}{ag:List (Addr×Obj)}{σ:St}{H:Hp}{s:Shared}{h':Heap}{a:Addr}{o:HO}{t':Nat}(I:Inv X ag σ H s)(k:∀b u,b≠X.env.locals->s.heap.get? b=some u->h'.get? b=some u)
  (ns:∀m,s.heap.Ns X.env.locals m->h'.Ns X.env.locals m)(hp:s.heap.get? a=none)(hn:H a=none)(new:cK X.prog X.w (upd H a o) h' a o):Inv X ag σ (upd H a o) { s with heap:=h',toks:=t' }:=by
 have ne:∀b u,s.heap.get? b=some u->b≠a:=λb u q z=>by rw [z,hp] at q;cases q
 refine I.step (g':=s.gens) (d':=s.drawn) (ch:=[]) (λ_ z=>nomatch z) (λb u hb _ _ e _=>k b u hb e) (λb u hb _ _ e _=>⟨u.slots,k b u hb e⟩) (λb u _ e n=>by rw [ak (ne b u e)];exact n)
  (λb u _ e=>?_) (λb xs q=>by rw [ak (aB q hn)];exact q) (λb u xs q=>by rw [ak (aB q hn)];exact q) (λb ps q=>⟨#[],by rw [ak (aB q hn),q];simp⟩) ns (λb u e=>?_) I.bare
 .by_cases hb:b=X.env.locals
  .obtain⟨m,hm,_⟩:=I.loc;obtain⟨o',_,_,GO,_⟩:=ns m hm;exact⟨o',by rw [hb];exact GO⟩
  exact⟨u,k b u hb e⟩
 by_cases hb:b=a
 .subst hb;rw [ae] at e;cases e;exact new
 rw [ak hb] at e;refine(I.cw b u e).kZ (λc v hc q=>k c v ?_ q) (λc q=>by rw [ak (aB q hn)];exact q) λc xs q=>by rw [ak (aB q hn)];exact q
 rintro rfl;rcases hc with rfl | hc
 .rw [I.free] at e;cases e
 rw [I.free] at hc;cases hc
def yx {P:Program}{w:World}{H:Hp}{h:Heap}{a:Addr}{o:HO}(x:cK P w H h a o):∃u,h.get? a=some u:=by
 cases o with
 | lst xs=>obtain⟨_,_,_,_,e⟩:=x;exact⟨_,e⟩
 | tup xs=>obtain⟨_,_,_,ob,e,_⟩:=x;exact⟨_,e⟩
 | dK kvs=>obtain⟨_,_,_,_,o,_,_,e,_⟩:=x;exact⟨_,e⟩
 | dT kvs=>obtain⟨_,_,_,_,o,_,_,e,_⟩:=x;exact⟨_,e⟩
 | set S n=>obtain⟨o,_,_,_,e,_⟩:=x;exact⟨_,e⟩
 | ins C dx fs=>obtain⟨_,_,_,e,_⟩:=x;exact⟨_,e⟩
 | own y=>obtain⟨_,e⟩:=x;exact⟨_,e⟩
 | xd fs=>obtain⟨_,⟨_,_,_,e,_⟩,_⟩:=x;exact⟨_,e⟩
 | Fw lo hi=>obtain⟨_,_,_,e⟩:=x;exact⟨_,e⟩
 | ky ob u=>obtain⟨e,_⟩:=x;exact⟨_,e⟩
 | ur ps=>exact⟨_,(show h.get? a=some _ from x)⟩
 | met f y=>exact⟨_,(show h.get? a=some _ from x)⟩
 | ext φ=>obtain⟨_,⟨_,e⟩,_⟩:=x;exact⟨_,e⟩
open PySem PySem.Spec PyProof.Rows PySem.W
section
variable {P:Program}{w:World}{A:Around}{E:Value->Shared->Prop}{s:Shared}
def Gs {f c' c d:Addr}{q:Str}{params:Arguments}{scope:Scope}{cl:List (Str×Addr)}{pm gQ:Value}{p1 p2 p3:Pos}{xs xh:Str}{vs:List (aM×Value)}{z:Str}{t:Tok}{u:Value}{oc:Obj}{Q:Value->Shared->Prop}
  (Rx:A.depth < recursionLimit)(nl:s.heap.NoLimit)(hf:s.heap.get? f=some (kla_obj "<lambda>" q params (.Subscript (.Name xs p1) (.Name xh p2) p3) scope cl pm c' gQ))(hc:s.heap.CodeRec (.ref c') q)
  (hb:∀us:List Value,us.length=1->bindArgs (kla_fn "<lambda>" q params (.Subscript (.Name xs p1) (.Name xh p2) p3) scope cl pm (.ref c') gQ) ⟨us,[]⟩=pure ([xh].zip us))
  (hk:scope.kind=.function)(Xl:scope.isCoroutine=false)(NL:scope.isGenerator=false)(W6:∀x∈scope.names,x.2≠.cell)(hh:scope.names.lookup xh=some .local)(hs:scope.names.lookup xs=some .free)
  (mz:cl.lookup xs=some c)(ho:s.heap.get? c=some oc)(zJ:oc.data=.cell (some (.ref d)))(dd:s.heap.DictOf (bc P w) d vs)(hv:valueAt vs (Sum.inr z)=some u)
  (d1:(xs == ("__debug__":Str))=false)(d2:(xh == ("__debug__":Str))=false)(d3:(xs == ("__classdict__":Str))=false)
  (h:∀h' tk,(∀b o,s.heap.get? b=some o->h'.get? b=some o)->Q u { s with heap:=h',toks:=tk }):wpAny (model P w) A (call (.ref f) [.str z t]) Q E s:=by
 refine kQ (kla_callFunE Rx hf rfl Xl NL rfl hc ?_);rw [hb [.str z t] rfl];refine aD (wpAny_newFunctionEnv W6 (λx hx=>?_) (λh₁ rh JI=>⟨nl.fresh _ JI,?_⟩) hk)
 .have:x=(xh,Value.str z t):=by simpa using hx
  rw [this];exact hh
 show codeAny _ _ (.expr (.Subscript (.Name xs p1) (.Name xh p2) p3) (envX q scope s.heap.objs.size f (.ref c') cl)) _ _;have k1:∀b o,s.heap.get? b=some o->h₁.get? b=some o:=λb o e=>JI.extBut b o (bE (bo e)) (bW _ e);refine kla_codeExpr (BI PySem.F.slot_dict_getitem.lookup (λ_ _=>rfl) ?_);refine wpAny_Name (wpAny_loadName_free hk hs mz ⟨oc,k1 _ _ ho,zJ⟩ ?_ d3) d1;refine wpAny_Name (v3 hk hh rh (show ([(xh,Value.str z t)]:List (Str×Value)).reverse.lookup xh=some (.str z t) by simp [List.lookup]) ?_) d2;have dd1:h₁.DictOf (bc P w) d vs:=by
  obtain⟨o,es,ep,g,r⟩:=dd;exact⟨o,es,ep,k1 _ _ g,r⟩
 refine⟨dd1.typeIs,wpAny_getItem_of (mw (k:=Sum.inr z) ⟨t,rfl⟩) dd1.mapOf hv ?_⟩;exact h h₁ _ k1
end
section
variable {X:Cx}{params:Arguments}{body:Expr}{scope:Scope}{pos:Pos}{c T:Addr}
abbrev jd (X:Cx)(params:Arguments)(body:Expr)(scope:Scope)(cl:List (Str×Addr))(c':Addr)(gQ:Value):Obj:=kla_obj "<lambda>" (X.env.qual ++ "<lambda>") params body scope cl ((X.mg "__name__").getD .none) c' gQ
def P_ (X:Cx)(params:Arguments)(body:Expr)(scope:Scope)(pos:Pos)(T:Addr):TE:=λσ H Q=>Tab T pos (X.env.qual ++ "<lambda>") H /\
 ∀f c' gQ cl H',Ku X.env scope cl->gA T H H'->Tab T pos (X.env.qual ++ "<lambda>") H'->H f=none->H' f=some (pV f (jd X params body scope cl c' gQ))->H' c'=some (ku c' (X.env.qual ++ "<lambda>"))->Q (.ref f) H'
def Jd (tF:X.env.code=.ref c)(hC:codeHdIn X.K c T=true)(hB:um X.mg X.base)(oH:∀y,(y,NameKind.free)∈scope.names->X.env.scope.names.lookup y=some .cell)(G4:defaultsOf params X.env=([],[]):=by rfl):PE X (.Lambda params body scope pos) (P_ X params body scope pos T):=by
 intro ag s σ H Q I h;obtain⟨⟨ps,hT,ht,G6⟩,q⟩:=h;refine kla_eval G4 ?_;obtain⟨cl,mz⟩:=xG (env:=X.env) (scope:=scope) λy hy=>I.ok.has y (.inl (oH y hy));have NS:s.heap.get? T=some (tabObj ps):=(show cK X.prog X.w H s.heap T (.ur ps) from I.cw T _ hT);have hg:=I.mod.glob.keeps I.bk;have C:=codeHd_of_K I.zI hC;obtain⟨bm,ob,b1,b2,b3,b4,b5,b6,b7⟩:=hB;have YH:=I.bk _ _ b4;have V7:bm≠T:=λz=>by
  have:=(I.bs _ _ b4).2;rw [z,hT] at this;cases this
 have V2:mainGlobals≠T:=λz=>by
  obtain⟨o,es,ep,e,d,_⟩:=hg;rw [z,NS] at e;cases e;cases d
 have Sa:s.heap.BuiltinsAt X.mg T:=⟨bm,ob,b1,b2,b3,V7,YH,b5,b6,b7⟩;have H_:∀b v,H b=some v->b < s.heap.objs.size:=λb v e=>I.cw.lt e;rcases G6 with RG | ⟨c',hf,nv⟩
 .refine kla_makeFunction mz.eq I.ok.glob hg tF C NS ht RG V2 Sa λc' gQ h' tk hx NM j8 GI Rt=>?_;have hcr:∃oc,h'.get? c'=some oc:=by
   obtain⟨c2,oc,vs,t,e,zJ,_⟩:=GI;cases e;exact⟨oc,zJ⟩
  have tE:h'.objs.size > s.heap.objs.size:=rQ NM j8;have keep:∀b o,b≠T->s.heap.get? b=some o->(h'.push (jd X params body scope cl c' gQ)).get? b=some o:=λb o n e=>bW _ (hx b o n e)
  let H':Hp:=upd (upd (upd H T (.ur (ps++#[rawInt pos.line,rawInt pos.col,.ref c']))) c' (ku c' (X.env.qual ++ "<lambda>"))) h'.objs.size (pV h'.objs.size (jd X params body scope cl c' gQ))
  have AM:∀b v,H b=some v->b≠c'/\b≠h'.objs.size:=λb v e=>⟨bE (gk (H_ b v e) NM),bE (ji (H_ b v e) tE)⟩;have V6:c'≠h'.objs.size:=bE j8;have QP:=AM T _ hT;have eT:H' T=some (.ur (ps++#[rawInt pos.line,rawInt pos.col,.ref c'])):=by
   show upd (upd (upd H T _) c' _) h'.objs.size _ T=_;rw [ak QP.2,ak QP.1,ae]
  have ec:H' c'=some (ku c' (X.env.qual ++ "<lambda>")):=by
   show upd (upd (upd H T _) c' _) h'.objs.size _ c'=_;rw [ak V6,ae]
  have ef:H' h'.objs.size=some (pV h'.objs.size (jd X params body scope cl c' gQ)):=ae;have eo:∀b,b≠T->b≠c'->b≠h'.objs.size->H' b=H b:=λb n1 n2 n3=>by
   show upd (upd (upd H T _) c' _) h'.objs.size _ b=_;rw [ak n3,ak n2,ak n1]
  have sT:gA T H H':=λb o n e=>by rw [eo b n (AM b o e).1 (AM b o e).2];exact e
  have I2:Inv X ag σ H' { s with heap:=h'.push (jd X params body scope cl c' gQ),toks:=tk }:=by
   refine I.call (g':=s.gens) (t':=tk) (d':=s.drawn) (ch:=[]) ⟨λb o e n _ _=>keep b o (λz=>by rw [z,hT] at n;cases n) e,λb o e n _ _=>⟨o.slots,keep b o (λz=>by rw [z,hT] at n;cases n) e⟩,λb o e n _=>?_,λb o e _=>?_,λb xs e=>?_,λb o u e=>?_,λb VM e=>?_⟩ (λb v e=>?_) I.bare (λb hb=>nomatch hb)
   .have lb:=bo e;rw [eo b (λz=>by rw [z,hT] at n;cases n) (bE (gk lb NM)) (bE (ji lb tE))];exact n
   .by_cases z:b=T
    .exact⟨_,by rw [z];exact bW _ Rt⟩
    exact⟨o,keep b o z e⟩
   .exact sT b _ (λz=>by rw [z,hT] at e;cases e) e
   .exact sT b _ (λz=>by rw [z,hT] at e;cases e) e
   .by_cases z:b=T
    .subst z;rw [hT] at e;cases e;exact⟨_,eT⟩
    exact⟨#[],by rw [Array.append_empty];exact sT b _ z e⟩
   by_cases z1:b=h'.objs.size
   .subst z1;rw [ef] at e;cases e;exact q_ (cJ _ rfl)
   by_cases z2:b=c'
   .subst z2;rw [ec] at e;cases e;refine zo ?_;obtain⟨c2,oc,vs,t,e',zJ,hd,hv⟩:=GI;cases e';exact⟨_,oc,vs,t,rfl,bW _ zJ,hd,hv⟩
   by_cases z3:b=T
   .subst z3;rw [eT] at e;cases e;exact bW _ Rt
   rw [eo b z3 z2 z1] at e;refine(I.cw b v e).kZ (λd o Ds e'=>?_) (λd e'=>sT d _ (λz=>by rw [z,hT] at e';cases e') e') λd ys e'=>sT d _ (λz=>by rw [z,hT] at e';cases e') e';rcases Ds with rfl | Ds
   .exact keep d o z3 e'
   exact keep d o (λz=>by rw [z,hT] at Ds;cases Ds) e'
  have fresh:H h'.objs.size=none:=I.cw.fresh (jh tE);exact⟨.ref h'.objs.size,H',I2,rfl,q _ c' gQ cl H' mz sT ⟨_,eT,by rw [v7];exact jS _ ht,.inr ⟨c',by rw [v7];exact codeAmong_snoc _ ht RG,ec⟩⟩ fresh ef ec⟩
 refine kla_makeFunctionHit mz.eq I.ok.glob hg tF C NS ht hf Sa λgQ h' tk hk hsz=>?_;have keep:∀b o,s.heap.get? b=some o->(h'.push (jd X params body scope cl c' gQ)).get? b=some o:=λb o e=>bW _ (hk b o e);have fresh:H h'.objs.size=none:=I.cw.fresh hsz;refine⟨.ref h'.objs.size,_,I.laid (a:=h'.objs.size) (o:=pV h'.objs.size (jd X params body scope cl c' gQ)) (t':=tk) keep hsz (q_ (cJ _ rfl)),rfl,?_⟩;refine q _ c' gQ cl _ mz (λb o _ e=>by rw [ak (aB e fresh)];exact e) ⟨ps,by rw [ak (aB hT fresh)];exact hT,ht,.inr ⟨c',hf,by rw [ak (aB nv fresh)];exact nv⟩⟩ fresh ae (by rw [ak (aB nv fresh)];exact nv)
end
theorem BK:∀{zs:List Str}{aU:List Value},ba (zs.map V.str) aU->∀(i:Nat)(v:Value),aU[i]?=some v->∃z t,zs[i]?=some z/\v=.str z t
 | [],[],_,i,v,h=>by simp at h
 | z::r,u::aU,h,i,v,hi=>by
  cases h with
  | cons a b =>
   cases i with
   | zero =>
    cases hi;obtain⟨t,e⟩:=(show ∃t,u=Value.str z t from a);exact⟨z,t,rfl,e⟩
   | succ i=>exact BK b i v hi
theorem uP:∀(ps:List (Str×Tok)),ba ((ps.map (·.1)).map V.str) (ps.map λp=>Value.str p.1 p.2)
 | []=>.nil
 | p::r=>.cons ⟨p.2,rfl⟩ (uP r)
theorem uQ:∀{zs:List Str}{aU:List Value},ba (zs.map V.str) aU->∃ps:List (Str×Tok),ps.map (·.1)=zs/\aU=ps.map λp=>Value.str p.1 p.2
 | [],[],_=>⟨[],rfl,rfl⟩
 | z::r,u::aU,h=>by
  cases h with
  | cons a b =>
   obtain⟨t,e⟩:=(show ∃t,u=Value.str z t from a);obtain⟨ps,e1,e2⟩:=uQ b;exact⟨(z,t)::ps,by rw [cH,e1],by rw [cH,e2,e]⟩
def Aw {α β:Type}{f:α->β}{l m:List β}(h:l.Perm m):∀ps:List α,m=ps.map f->∃qs:List α,l=qs.map f/\qs.Perm ps:=by
 induction h with
 | nil =>
  intro ps e;cases ps with
  | nil=>exact⟨[],rfl,.nil⟩
  | cons p r=>cases e
 | cons x h ih =>
  intro ps e;cases ps with
  | nil=>cases e
  | cons p r =>
   rw [cH] at e;injection e with e1 e2;obtain⟨qs,a,b⟩:=ih r e2;exact⟨p::qs,by rw [cH,a,e1],b.cons p⟩
 | swap x y l =>
  intro ps e
  match ps,e with
  | [],e=>cases e
  | [_],e=>cases e
  | p::p2::r,e =>
   rw [cH,cH] at e;injection e with e1 e2;injection e2 with e3 e4;exact⟨p2::p::r,by rw [cH,cH,e1,e3,e4],.swap p p2 r⟩
 | trans h1 h2 i1 i2 =>
  intro ps e;obtain⟨qs,a,b⟩:=i2 ps e;obtain⟨rs,c,d⟩:=i1 qs a;exact⟨rs,c,d.trans b⟩
def FK {g:Str->Int}{ps:List (Str×Tok)}{out:List Value}(h:KskOut false ((ps.map (·.1)).map g) (ps.map λp=>Value.str p.1 p.2) out) :
  ∃qs:List (Str×Tok),out=qs.map (λp=>Value.str p.1 p.2)/\(qs.map (·.1)).Perm (ps.map (·.1))/\(qs.map (·.1)).Pairwise λx y=>g x<=g y:=by
 obtain⟨rs,h1,h2,h3⟩:=h;have ez:((ps.map (·.1)).map g).zip (ps.map λp=>Value.str p.1 p.2)=ps.map λp=>(g p.1,Value.str p.1 p.2):=by
  rw [iz,List.zip_map,List.zip_eq_zipWith]
  induction ps with
  | nil=>rfl
  | cons p r ih=>simp_all
 rw [ez] at h1;obtain⟨qs,q1,q2⟩:∃qs:List (Str×Tok),rs=qs.map (λp=>(g p.1,Value.str p.1 p.2))/\qs.Perm ps:=by
  exact Aw h1 ps rfl
 subst q1;refine⟨qs,by rw [h2,iz];rfl,q2.map _,?_⟩;rw [List.pairwise_map] at h3 ⊢;exact h3.imp λh=>by simpa using h
section
variable {X:Cx}{i:Nat}{xs xh:Str}{params:Arguments}{scope:Scope}{p pos AN kp p1 p2 p3:Pos}{e:Expr}{ta:TA}{c T:Addr}{k:Nat}
abbrev Cz (xs xh:Str)(p1 p2 p3:Pos):Expr:=.Subscript (.Name xs p1) (.Name xh p2) p3
def Mg (X:Cx) (i:Nat)(AN:Pos)(T:Addr)(ta:TA):TE:=λσ H Q=>ta σ H λvs H1=>Tab T AN (X.env.qual ++ "<lambda>") H1/\∃(a:Addr) (zs:List Str)(d:Addr)(kvs:List (aM×V))(g:Str->Int),vs=[.ref a]/\aI X.K H1 a (zs.map V.str)/\zs.length < 64/\σ[i]?=some (some (.ref d))/\Rd H1 d (.dK kvs) /\
 (∀z∈zs,bj kvs (Sum.inr z)=some (.int (g z)))/\∀(l:Addr) (qF:List Str)(H':Hp),gA T H1 H'->Tab T AN (X.env.qual ++ "<lambda>") H'->H1 l=none->qF.Perm zs->qF.Pairwise (λx y=>g x<=g y)->H' l=some (.lst (qF.map V.str))->Q (.ref l) H'
def FH (hr:fI (k+1) X.A)(tF:X.env.code=.ref c)(hC:codeHdIn X.K c T=true)(hB:um X.mg X.base)(hg:Gl X "sorted")(hm:X.mg "sorted"=none)(ha:PA X [e] ta)
  (hN:X.N[i]?=some xs)(hx:X.env.scope.names.lookup xs=some .cell)(oH:∀y,(y,NameKind.free)∈scope.names->X.env.scope.names.lookup y=some .cell)
  (hb:∀(q:Str)(cl:List (Str×Addr))(pm gQ:Value)(c':Addr)(us:List Value),us.length=1->bindArgs (kla_fn "<lambda>" q params (Cz xs xh p1 p2 p3) scope cl pm (.ref c') gQ) ⟨us,[]⟩=pure ([xh].zip us))
  (hk:scope.kind=.function)(Xl:scope.isCoroutine=false)(NL:scope.isGenerator=false)(W6:∀x∈scope.names,x.2≠.cell)(hh:scope.names.lookup xh=some .local)(hs:scope.names.lookup xs=some .free)
  (d1:(xs == ("__debug__":Str))=false:=by decide)(d2:(xh == ("__debug__":Str))=false:=by decide)(d3:(xs == ("__classdict__":Str))=false:=by decide)
  (G4:defaultsOf params X.env=([],[]):=by rfl)
  (he:backTo pos (starEach [e] X.env)=(false,eval e X.env)::backTo pos (starEach [] X.env):=by rfl)(hp:(backTo pos (starEach [e] X.env)).any (·.1)=false:=by rfl) :
  PE X (.Call (.Name "sorted" p) [e] [⟨some "key",.Lambda params (Cz xs xh p1 p2 p3) scope AN,kp⟩] pos) (Mg X i AN T ta):=by
 intro ag s σ H Q I h;refine nU (iW I hg hm boot_sorted ?_);refine callWith_kw (df (ha pos ag s σ H _ I h) λus s1 bL=>?_) he hp rfl rfl;obtain⟨vs,H1,I1,r1,JS,a,zs,d,kvs,g,ev,hq,Ux,hσ,hd,hv,q1⟩:=bL;subst ev;have low:=Jd (X:=X) (params:=params) (body:=Cz xs xh p1 p2 p3) (scope:=scope) (pos:=AN) (c:=c) (T:=T) tF hC hB oH G4 ag s1 σ H1
  (λfv H2=>∃f c' gQ cl,fv=.ref f/\Ku X.env scope cl/\gA T H1 H2/\Tab T AN (X.env.qual ++ "<lambda>") H2/\H2 f=some (pV f (jd X params (Cz xs xh p1 p2 p3) scope cl c' gQ))/\H2 c'=some (ku c' (X.env.qual ++ "<lambda>"))) I1
  ⟨JS,λf c' gQ cl H' a1 a2 a3 a4 a5 a6=>⟨f,c',gQ,cl,rfl,a1,a2,a3,a5,a6⟩⟩
 refine kws_cons (df low λu2 s2 bL=>?_);obtain⟨fv,H2,I2,r2,f,c',gQ,cl,ef,mz,st,Us,hf,nv⟩:=bL;refine kws_nil ?_;subst ef;cases (show u2=Value.ref f from r2);obtain⟨u,rfl,rx⟩:=vals1 r1;cases (show u=Value.ref a from rx);obtain⟨pt,eT,_⟩:=id JS;have RB:aI X.K H2 a (zs.map V.str):=by
  rcases hq with (h | ⟨o,h⟩) | h
  .exact .inl (.inl (st _ _ (λz=>by rw [z,eT] at h;cases h) h))
  .exact .inl (.inr ⟨o,st _ _ (λz=>by rw [z,eT] at h;cases h) h⟩)
  exact .inr h
 have hd2:Rd H2 d (.dK kvs):=by
  rcases hd with h | ⟨o,h⟩
  .exact .inl (st _ _ (λz=>by rw [z,eT] at h;cases h) h)
  exact .inr ⟨o,st _ _ (λz=>by rw [z,eT] at h;cases h) h⟩
 obtain⟨aU,rv,pl,hz⟩:=I2.list RB;obtain⟨pzs,ez,ei⟩:=uQ rv;have KS:=pl.isList;obtain⟨oa,ga,ca,na,da⟩:=id KS;obtain⟨m,rh,lk⟩:=id I2.loc;have Jw:∀b o,H2 b=some o->b≠X.env.locals:=λb o hb z=>by rw [z,I2.free] at hb;cases hb
 have QK:d≠X.env.locals:=by
  rcases hd2 with h | ⟨o,h⟩
  .exact Jw d _ h
  exact Jw d _ h
 have neA:a≠X.env.locals:=λz=>by
  obtain⟨o,es,ep,ho,Cn,_⟩:=rh;rw [<-z,ga] at ho;cases ho;rw [da] at Cn;cases Cn
 obtain⟨ud,rd,lkd⟩:=lk i xs (.ref d) hN hσ (.inr (.inl hx));cases (show ud=Value.ref d from rd);obtain⟨cc,ecc,oc,RF,RE⟩:∃cc,X.env.cells.lookup xs=some cc/\s2.heap.IsCell cc (some (.ref d)):=by
  rcases lkd with ⟨l,_⟩ | ⟨_,c2,e2,h2⟩
  .have l':X.env.scope.names.lookup xs=some .local:=l;rw [hx] at l';cases l'
  exact⟨c2,e2,h2⟩
 obtain⟨cc',X3⟩:=mz.all xs (xc hs);have e3:=mz.sub _ _ X3;rw [ecc] at e3;cases e3;have OV:cc≠X.env.locals:=λz=>by
  obtain⟨o,es,ep,ho,Cn,_⟩:=rh;rw [<-z,RF] at ho;cases ho;rw [RE] at Cn;cases Cn
 obtain⟨gf,_⟩:=I2.cw f _ hf;obtain⟨gc,_⟩:=I2.cw c' _ nv;obtain⟨zl,qJ,dvs,rel,dd⟩:=oQ I2.cw hd2;obtain⟨m0,F0⟩:=I2.fr;refine ksk_sorted (kz:=zs.map g) (f:=.ref f) (b:=false) (vs:=aU) (h₀:=IF.sS s2.heap) (L:=X.env.locals) (m:=m) (news:=(a,oa)::IF.ledger s2.heap X.env.locals a) (IF.N0 rh) (IF.yE neA ga) KS (by rw [ar,<-rv.length,ar]) (by rw [<-rv.length,ar];exact Ux)
  (ksk_s1 _ _) (λx=>ksk_l1 _ _) (λx=>ksk_t1 f x) (λj v kk hj hkk tD tk own F N=>?_) λD h' tk out cnt F' N' lt' ko=>?_
 .obtain⟨z,t,UE,rfl⟩:=BK rv j v hj;rw [bf,UE] at hkk;cases hkk;have keep:∀b u,b≠X.env.locals->s2.heap.get? b=some u->tD.get? b=some u:=λb u nb hb=>by
   by_cases e:b=a
   .subst e;rw [ga] at hb;cases hb;exact(N (b,oa) (by simp)).1
   exact(N (b,u) (dH _ (cu _ (IF.j4.mpr ⟨nb,e,hb⟩)))).1
  have hvz:=hv z (cA UE);obtain⟨w',hw,Aq⟩:=ka.some_of (v:=.int (g z)) (o:=valueAt dvs (Sum.inr z)) (by rw [<-hvz];exact rel.val (Sum.inr z));obtain⟨tw,rfl⟩:=(show ∃t,w'=Value.int (g z) t from Aq);have Pu:tD.DictOf (bc X.prog X.w) d dvs:=by
   obtain⟨o,es,ep,g1,r⟩:=dd;exact⟨o,es,ep,keep _ _ QK g1,r⟩
  have gc2:tD.CodeRec (.ref c') (X.env.qual ++ "<lambda>"):=by
   obtain⟨c2,oc2,Mb,t2,e2,zJ,jn,O2⟩:=gc;cases e2;exact⟨_,oc2,Mb,t2,rfl,keep _ _ (Jw c' _ nv) zJ,jn,O2⟩
  have nl:tD.NoLimit:=I2.mod.nolimit.keeps λb o e=>keep b o (bE (gk (bo e) F0.above)) (I2.bk b o e);exact Gs (s:={ s2 with heap:=tD,toks:=tk }) (A:=X.A.in1.in1) hr.depth nl (keep _ _ (Jw f _ hf) gf) gc2 (λus hl=>hb _ _ _ _ _ us hl) hk Xl NL W6 hh hs X3 (keep _ _ OV RF) RE Pu hw d1 d2 d3
   λh3 tk3 Z2=>KskEnd.intro (F.kept Z2) (N.grown Z2) λp hp=>hp
 have keep:∀b u,b≠X.env.locals->s2.heap.get? b=some u->h'.get? b=some u:=λb u nb hb=>by
  by_cases e:b=a
  .subst e;rw [ga] at hb;cases hb;exact(N' (b,oa) (by simp)).1
  exact(N' (b,u) (cu _ (cu _ (IF.j4.mpr ⟨nb,e,hb⟩)))).1
 have hD:s2.heap.get? D=none:=by
  cases e:s2.heap.get? D with
  | none=>rfl
  | some o =>
   exfalso;have nD:D≠X.env.locals:=(N' (D,_) bQ).2.1;by_cases ea:D=a
   .have:=lt' (a,oa) bQ;rw [ea] at this;exact absurd this (kJ _)
   exact absurd (lt' (D,o) (cu _ (IF.j4.mpr ⟨nD,ea,e⟩))) (kJ _)
 have fD:H2 D=none:=by
  cases e:H2 D with
  | none=>rfl
  | some u =>
   obtain⟨ob,g⟩:=yx (I2.cw D u e);rw [hD] at g;cases g
 have fD1:H1 D=none:=by
  cases e:H1 D with
  | none=>rfl
  | some u =>
   by_cases z:D=T
   .obtain⟨pt2,eT2,_⟩:=Us;rw [z,eT2] at fD;cases fD
   rw [st _ _ z e] at fD;cases fD
 rw [ei,<-ez] at ko;obtain⟨qs,eo,pe,ps⟩:=FK ko;rw [ez] at pe;have gD:=(N' (D,_) bQ).1;have lq:qs.length=zs.length:=by have:=pe.length_eq;rw [ar] at this;exact this
 have sl:=af fD (.lst ((qs.map (·.1)).map V.str));refine⟨.ref D,_,I2.K6 (t':=tk) keep (λm' hm=>?_) hD fD (show cK X.prog X.w _ _ _ (.lst ((qs.map (·.1)).map V.str)) from ⟨by rw [ar,ar];exact fits ∅,qs.map (λp=>Value.str p.1 p.2),cnt,uP qs,by rw [<-eo];simpa using gD⟩),rfl,q1 D (qs.map (·.1)) _ (λb o n hb=>sl _ _ (st b o n hb)) ?_ fD1 pe ps ae⟩
 .have:=F'.ns;have e:m'=m:=by
   obtain⟨o,es,ep,ho,Cn,_,hf⟩:=hm;obtain⟨o2,es2,Oa,AX,RT,_,RO⟩:=rh;rw [ho] at AX;cases AX;rw [Cn] at RT;cases RT
   funext x
   rw [<-hf x,<-RO x]
  rw [e];exact this
 obtain⟨TZ,b1,b2,b3⟩:=Us;refine⟨TZ,sl _ _ b1,b2,b3.imp id λbL=>?_⟩;obtain⟨c3,e3,g3⟩:=bL;exact⟨c3,e3,sl _ _ g3⟩
end
open PySem M11
def Bi {K:a0}{H:Hp}{p D d:Addr}{zs:List Str}{kvs:List (aM×V)}{g:G}{σ:St}{js:List (Nat×Str)}{Qp:Hp->Prop}(hσ:dN ["part"] js σ=[none,aF d])(hp:aT K H p (zs.map V.str))(hz:zs.length<=1000)
  (hd:Rd H d (.dK kvs))(hv:∀z,bj kvs (Sum.inr z)=(g z).map V.int)(ha:∀z∈zs,(g z).isSome=true)(hD:H D=none)(q:∀H2,aE H H2->H2 D=some (.lst ((zs.map λz=>(g z).getD 0).map V.int))->Qp H2) :
  ∃W:Nat->Nat->List V->St->Hp->Prop,(∃m,W 0 m [] (dN ["part"] js σ) (upd H D (.lst []))) /\
 ∀i m ys σ' H,W i m ys σ' H->((oV K p).stop i H/\Qp H)\/((oV K p).go i H/\∃m',m' < m/\∀x H',(oV K p).mT i H x H'->di 0 x σ' H' λσ2 H2=>hV σ2 H2 λb H3 =>
  if b=true then BD (gO 1) (gO 0) σ2 H3 λy H4=>H4 D=some (.lst ys)/\ys.length < sizeLine/\W (i+1) m' (ys++[y]) σ2 (upd H4 D (.lst (ys++[y]))) else W (i+1) m' ys σ2 H3):=by
 refine gM (xs:=zs.map V.str) (λi ys σ2 H2=>ys=(((zs.take i).map λz=>(g z).getD 0).map V.int)/\(∃y0,σ2=[y0,aF d])/\aE H H2/\H2 D=some (.lst ys))
  ⟨rfl,⟨none,hσ⟩,af hD _,ae⟩ (λi ys σ2 H2 _ h=>h.2.2.1.tup hp) (λi x ys σ2 H2 ex h=>?_) (λys σ2 H2 h=>?_)
 .obtain⟨rfl,⟨y0,rfl⟩,sm,hd2⟩:=h;rw [bf] at ex;obtain⟨z,ez,rfl⟩:=b_.mp ex;have li:=(bh.mp ez).1;obtain⟨n,en⟩:=nV.mp (ha z (cA ez));have hg:cD H2 d (.str z) (some (.int n)):=by
   have:=cD.r (k:=Sum.inr z) (ig.Rd.same hd sm);rw [hv,en] at this;exact this
  refine goN (yS ?_);refine⟨_,rfl,_,rfl,d,_,rfl,hg,hd2,bq (by rw [ar,ar,d0];omega),?_,⟨_,rfl⟩,?_,ae⟩
  .rw [cQ,ez,br,br];show _=_++[V.int ((g z).getD 0)];rw [en];rfl
  intro b o hb;rw [ak (λz=>by rw [z,hD] at hb;cases hb)];exact sm b o hb
 obtain⟨rfl,_,sm,hd2⟩:=h;rw [ar,cC] at hd2;exact q H2 sm hd2
end L2
namespace ig
open PySem L2 M11
section
def sq (K:a0):Sp:=λvs H Q _=>∃(d r:Addr)(kvs:List (aM×V))(g:G)(ru:au),vs=[.ref d,.ref r]/\Rd H d (.dK kvs)/\(∀z,bj kvs (Sum.inr z)=(g z).map V.int)/\CG K H r ru/\ru.2.length<=8/\(∀z∈ru.2,(g z).isSome=true)/\∀H',aE H H'->Q (.int (aH g ru)) H'
def Ab:aN ["sizes","rule"] ["sizes","rule"] (aA pQ):=je rfl rfl rfl rfl nofun
def yy (F:iG K "rule_size" "rule_size" pQ f fd)(T:Txt mg):bR P w K mg base fK 1 f fd ["sizes","rule"] (sq K):=by
 refine F.ok Ab (λvs H Q E h=>?_) (λeJ A outer s H vs Q E hr h=>?_)
 .obtain⟨d,r,kvs,g,ru,rfl,_⟩:=h;rfl
 obtain⟨d,r,kvs,g,ru,rfl,hd,hv,⟨p,v1,v2⟩,h8,al,q⟩:=h;have hu:=ff hr;refine⟨_,ao (bC (aL d_ av (aR (lX rfl) rfl T.sum wc (ab (aV ["part"] [(0,"sizes")] rfl (d7 (b9 cN (pv 1) av (λ_ _=>rfl))) (aS rfl rfl) nofun rfl nofun
   (λ_ _ _ _ _=>aq (i:=0) (show (["part","sizes"]:List Str).Nodup by decide +kernel) rfl (a_ rfl)) (λ_ _ _ _ _=>bF) (λ_ _ _ _ _=>fO hu (pv 1) (pv 0) (λ_ _=>rfl))) aj)))),?_⟩
 dsimp only [Ho];refine⟨_,rfl,r,_,_,_,rfl,rfl,v1,rfl,p,rfl,⟨_,v2⟩,λD hD=>Bi (g:=g) rfl v2 ∅ hd hv al hD λH2 s2 e2=>?_⟩;refine⟨D,_,rfl,aI.of e2,_,_,rfl,rfl,?_⟩;exact q H2 s2
end
end ig
namespace M11
open PySem
def uj.at_ {aa:List au}{aQ:List (Str×Nat)}(h:uj aa aQ):∀(i:Nat)(x:Str) (k:Nat),aQ[i]?=some (x,k)->∃cR,aa[k]?=some (x,cR)/\∀p∈cR,p∈(aQ.take i).map (·.1):=by
 induction h with
 | nil=>intro i x k e;simp at e
 | @snoc aQ k2 ru h e n p ih =>
  intro i x k ei;by_cases hi:i < aQ.length
  .rw [qo hi] at ei;obtain⟨cR,a,b⟩:=ih i x k ei;exact⟨cR,a,λq hq=>by rw [qp (jh hi)];exact b q hq⟩
  have li:=(bh.mp ei).1;rw [bB,fS] at li;have e2:i=aQ.length:=by omega
  subst e2;rw [nX (aK _),Nat.sub_self] at ei;cases ei;exact⟨ru.2,e,λq hq=>by rw [List.take_left'];exact p q hq;rfl⟩
end M11
namespace ig
open PySem L2 M11
section
def tW {H:Hp}{p D d:Addr}{zs:List Str}{kvs:List (aM×V)}{σ:St}{js:List (Nat×Str)}{Qp:Hp->Prop}(hσ:dN ["part"] js σ=[none,aF d])(hp:aT K H p (zs.map V.str))(hz:zs.length<=1000)
  (hd:H d=some (.dK kvs))(ha:∀z∈zs,(Sum.inr z:aM)∈kvs.map (·.1))(hD:H D=none)(q:∀ys H2,ys.length=zs.length->aE H H2->H2 D=some (.lst ys)->Qp H2) :
  ∃W:Nat->Nat->List V->St->Hp->Prop,(∃m,W 0 m [] (dN ["part"] js σ) (upd H D (.lst []))) /\
 ∀i m ys σ' H,W i m ys σ' H->((oV K p).stop i H/\Qp H)\/((oV K p).go i H/\∃m',m' < m/\∀x H',(oV K p).mT i H x H'->di 0 x σ' H' λσ2 H2=>hV σ2 H2 λb H3 =>
  if b=true then BD (gO 1) (gO 0) σ2 H3 λy H4=>H4 D=some (.lst ys)/\ys.length < sizeLine/\W (i+1) m' (ys++[y]) σ2 (upd H4 D (.lst (ys++[y]))) else W (i+1) m' ys σ2 H3):=by
 refine gM (xs:=zs.map V.str) (λi ys σ2 H2=>ys.length=i/\(∃y0,σ2=[y0,aF d])/\aE H H2/\H2 D=some (.lst ys))
  ⟨rfl,⟨none,hσ⟩,af hD _,ae⟩ (λi ys σ2 H2 _ h=>h.2.2.1.tup hp) (λi x ys σ2 H2 ex h=>?_) (λys σ2 H2 h=>?_)
 .obtain⟨rfl,⟨y0,rfl⟩,sm,hd2⟩:=h;rw [bf] at ex;obtain⟨z,ez,rfl⟩:=b_.mp ex;have li:=(bh.mp ez).1;obtain⟨v,ev⟩:=nV.mp ((eZ kvs (Sum.inr z)).mpr (ha z (cA ez)));have hg:cD H2 d (.str z) (some v):=by
   have:=cD.k (k:=Sum.inr z) (sm _ _ hd);rw [ev] at this;exact this
  refine goN (yS ?_);refine⟨_,rfl,_,rfl,d,_,rfl,hg,hd2,bq ∅,by rw [bB];rfl,⟨_,rfl⟩,?_,ae⟩;intro b o hb;rw [ak (λz=>by rw [z,hD] at hb;cases hb)];exact sm b o hb
 obtain⟨e,_,sm,hd2⟩:=h;rw [ar] at e;exact q ys H2 e sm hd2
def uU (K:a0):Sp:=λvs H Q _=>∃(R D:Addr)(rs ts:List Addr)(aa:List au)(aQ:List (Str×Nat)),vs=[.ref R,.ref D]/\aI K H R (rs.map V.ref)/\bT K H rs aa/\aa.length<=1000/\(∀ru∈aa,ru.2.length<=8)/\aI K H D (ts.map V.ref)/\oW K H ts aQ/\uj aa aQ/\aQ.length<=1000 /\
 ∀(d:Addr)(kvs:List (aM×V))(H':Hp),H d=none->aE H H'->H' d=some (.dK kvs)->kvs.map (·.1)=(aQ.map (·.1)).map Sum.inr->Q (.ref d) H'
def lR:aN ["rules","empties","trees","name","number"] ["rules","empties"] (aA sM):=je rfl rfl rfl rfl nofun
def AF (F:iG K "empty_by_name" "empty_by_name" sM f fd)(T:Txt mg):bR P w K mg base fK 1 f fd ["rules","empties"] (uU K):=by
 refine F.ok lR (λvs H Q E h=>?_) (λeJ A outer s H vs Q E hr h=>?_)
 .obtain⟨R,D,rs,ts,aa,aQ,rfl,_⟩:=h;rfl
 obtain⟨R,D,rs,ts,aa,aQ,rfl,hR,cY,bM,h8,hD,hev,RP,Dq,q⟩:=h;have hu:=ff hr;refine⟨_,ai (aC (i:=2) lR.nd rfl (Or.inr rfl) fu)
  (ai (bD b8 rfl (aP (pv 1)) (dq (n:=2) K rfl (az (aq (i:=3) lR.nd rfl (a_ rfl)) (az (aq (i:=4) lR.nd rfl (a_ rfl)) bz)))
   (ao (gB hu (pv 2) (pv 3) (bU (ab (pv 4) (ab (a7 jo rfl T.tup zQ (ab (aV ["part"] [(2,"trees")] rfl (d7 (b9 cN (b9 cX (pv 0) (pv 4) (λ_ _=>rfl)) av (λ_ _=>rfl))) (aS rfl rfl) nofun rfl nofun
    (λ_ _ _ _ _=>aq (i:=0) (show (["part","trees"]:List Str).Nodup by decide +kernel) rfl (a_ rfl)) (λ_ _ _ _ _=>bF) (λ_ _ _ _ _=>fO hu (pv 1) (pv 0) (λ_ _=>rfl))) aj)) aj))) rfl)))
  (ao (bC (pv 2)))),?_⟩
 nofun
 refine λd zL=>?_;have s1:=af zL (.dK []);have e1:upd H d (.dK []) d=some (.dK []):=ae;generalize upd H d (.dK [])=H1 at s1 e1;refine goN ?_
 ac_rfl
 have lt:=bI hev;have ll:=bI cY;have nd:=RP.nd
 let xR:rB:=λi σ H3=>∃(kvs:List (aM×V))(y3 y4:Option V),σ=[aF R,aF D,aF d,y3,y4]/\aE H H3/\H3 d=some (.dK kvs)/\kvs.map (·.1)=((aQ.take i).map (·.1)).map Sum.inr
 refine⟨_,rfl,D,rfl,⟨_,s1.seq hD⟩,bZ (xs:=ts.map V.ref) xR ⟨[],_,_,rfl,s1,e1,rfl⟩ ?_ ?_ ?_⟩
 .rintro i σ H3 _ ⟨kvs,y3,y4,rfl,s3,_⟩;exact s3.seq hD
 .rintro i x σ H3 ex ⟨kvs,y3,y4,rfl,s3,ed,ek⟩
  ac_nf0
  rw [bf] at ex;obtain⟨t,et,rfl⟩:=b_.mp ex;have li:=(bh.mp et).1;obtain⟨e,ee⟩:∃e,aQ[i]?=some e:=⟨aQ[i]'∅,cT ∅⟩;obtain⟨t',et',vt⟩:=Paired.at_ hev i e ee;rw [et] at et';cases et';obtain⟨x,k⟩:=e;obtain⟨cR,hk,Ij⟩:=RP.at_ i x k ee;obtain⟨r,er,p,v1,v2⟩:=Paired.at_ cY k _ hk;have SR:ux (rs.map V.ref) (k:Int)=some (.ref r):=dO (by rw [bf,er];rfl);have hp8:cR.length<=8:=h8 _ (cA hk);refine⟨t,_,rfl,s3.tup vt,rfl,_,_,rfl,_,_,rfl,rfl,?_⟩;refine⟨_,rfl,_,rfl,_,rfl,R,_,_,_,rfl,rfl,s3.seq hR,SR,r,_,_,_,rfl,rfl,s3.tup v1,rfl,p,rfl,⟨_,s3.tup v2⟩,λD2 jI=>tW (zs:=cR) rfl (s3.tup v2) ∅ ed (λz hz=>by rw [ek];exact c_.mpr (Ij z hz)) jI λys H4 ly s4 e4=>?_⟩;refine⟨D2,ys,rfl,.inl ⟨aI.of e4,λt2 XF=>⟨mj,λvc N3=>?_⟩⟩⟩;have k5:=(af XF (.tup ys)).trans (af N3 (.tup [.int (k:Int),.ref t2]));generalize upd (upd H4 t2 (.tup ys)) vc (.tup [.int (k:Int),.ref t2])=H5 at k5;have ed5:=k5 _ _ (s4 _ _ ed);have lkv:kvs.length=i:=by
   have:=congrArg List.length ek;rw [ar,ar,ar,d0] at this;omega
  have nx:x∉(aQ.take i).map (·.1):=λz=>by
   obtain⟨e2,m2,q2⟩:=bN.mp z;obtain⟨j,hj⟩:=fQ m2;rw [List.getElem?_take] at hj
   split at hj
   .rename_i hji
    have a1:(aQ.map (·.1))[j]?=some x:=by rw [bf,hj];exact congrArg some q2
    have a2:(aQ.map (·.1))[i]?=some x:=by rw [bf,ee];rfl
    have:=(List.getElem?_inj (by rw [ar];omega) nd).mp (a1.trans a2.symm);omega
   cases hj
  refine⟨_,rfl,_,rfl,d,_,rfl,.inl ⟨kvs,Sum.inr x,ed5,rfl,bq ∅,rfl⟩,?_⟩;refine⟨_,_,_,rfl,λb o hb=>?_,ae,?_⟩
  .rw [ak (λz=>by rw [z,zL] at hb;cases hb)];exact k5 _ _ (s4 _ _ (s3 b o hb))
  rw [ja (by rw [ek];exact λz=>nx (c_.mp z)),ek,cQ,ee,br,br];rfl
 rintro σ H3 ⟨kvs,y3,y4,rfl,s3,ed,ek⟩;rw [ar,lt,cC] at ek;exact⟨_,rfl,q d kvs H3 zL s3 ed ek⟩
end
end ig
namespace M11
open PySem
def Le (g' g:G):Prop:=∀z n,g z=some n->∃m,g' z=some m/\m<=n
def yW {g:G}{ru:au}(f:cO bl g ru=true):kx g ru=true/\∀n,g ru.1=some n->aH g ru < n:=by
 unfold cO at f;rw [mf] at f;refine⟨f.1,λn e=>?_⟩;have:=f.2;rw [e] at this;have:(!(some n:Option Int).isSome || bl (aH g ru) n)=true:=this
 simpa [bl] using this
def le_step {g:G}{ru:au}(f:cO bl g ru=true):Le (dw g ru.1 (aH g ru)) g:=λz n e=>by
 unfold dw;by_cases c:z=ru.1
 .rw [aw c];subst c;exact⟨_,rfl,Int.le_of_lt ((yW f).2 n e)⟩
 rw [ax c];exact⟨n,e,ix _⟩
theorem ER {g g':G}(h:Le g' g):∀ps:List Str,(∀p∈ps,(g p).isSome=true)->(∀p∈ps,(g' p).isSome=true)/\(ps.map λp=>(g' p).getD 0).sum<=(ps.map λp=>(g p).getD 0).sum
 | [],_=>⟨λp hp=>(by cases hp),ix _⟩
 | p::r,a=>by
  obtain⟨h1,h2⟩:=ER h r λq hq=>a q (cu _ hq);obtain⟨n,en⟩:=nV.mp (a p bQ);obtain⟨m,em,lm⟩:=h p n en;refine⟨λq hq=>?_,?_⟩
  .rcases bO.mp hq with rfl | hq
   .rw [em];rfl
   exact h1 q hq
  rw [cH,cH,kI,kI,en,em];show m+_<=n+_;omega
def vS {g:G}{ru:au}:kx g ru=true↔∀p∈ru.2,(g p).isSome=true:=by
 unfold kx;rw [dP]
def size_le {g g':G}{ru:au}(h:Le g' g)(a:kx g ru=true):kx g' ru=true/\aH g' ru<=aH g ru:=by
 obtain⟨h1,h2⟩:=ER h ru.2 (vS.mp a);exact⟨vS.mpr h1,by unfold aH;omega⟩
def Px (aa:List au) (hs:List Str)(g:G):Prop:=∀h n,g h=some n->h∉hs\/∃ru∈aa,ru.1=h/\kx g ru=true/\aH g ru<=n
def ED {aa:List au}{hs:List Str}(g:G)(ru:au)(j:Px aa hs g)(m:ru∈aa)(f:cO bl g ru=true):Px aa hs (dw g ru.1 (aH g ru)):=λh n e=>by
 have le:=le_step f;by_cases c:h=ru.1
 .have e2:n=aH g ru:=by
   unfold dw at e;rw [aw c] at e;exact(gi e).symm
  obtain⟨a1,a2⟩:=size_le le (yW f).1;exact .inr ⟨ru,m,c.symm,a1,∅⟩
 have e2:g h=some n:=by
  unfold dw at e;rw [ax c] at e;exact e
 rcases j h n e2 with h1 | ⟨I0,m2,q2,a2,l2⟩
 .exact .inl h1
 obtain⟨b1,b2⟩:=size_le le a2;exact .inr ⟨I0,m2,q2,b1,∅⟩
def Df {aa:List au}{hs:List Str}{g0 g:G}(j0:Px aa hs g0)(st:dM bl aa g0 g)(se:iF bl aa g){h:Str}{n:Int}(hh:h∈hs)(e:g h=some n):∃ru∈aa,ru.1=h/\kx g ru=true/\aH g ru=n:=by
 have j:Px aa hs g:=dM.keep (J:=Px aa hs) (λg ru j m f=>ED g ru j m f) st j0;rcases j h n e with z | ⟨ru,m,q,a,l⟩
 .exact absurd hh z
 refine⟨ru,m,q,a,?_⟩;have f:=se ru m;unfold cO at f;rw [a,q,e] at f;have f:(true && (!(some n:Option Int).isSome || bl (aH g ru) n))=false:=f
 have f2:¬aH g ru < n:=by simpa [bl] using f
 omega
theorem Cb {g:G}(nn:NN g):∀(ps:List Str)(p:Str) (m:Int),p∈ps->g p=some m->m<=(ps.map λp=>(g p).getD 0).sum
 | q::r,p,m,hp,e=>by
  rw [cH,kI];have h1:=jT g nn r;rcases bO.mp hp with rfl | hp
  .rw [e];show m<=m+_;omega
  have h2:=Cb nn r p m hp e;have h3:0<=(g q).getD 0:=by
   cases eq:g q with
   | none=>exact ix _
   | some n=>exact nn q n eq
  omega
def CZ {g:G}(nn:NN g){ru:au}{p:Str}{m:Int}(hp:p∈ru.2)(e:g p=some m):m < aH g ru:=by
 have:=Cb nn ru.2 p m hp e;unfold aH;omega
theorem Bu:∀(a8 ps bS:List Str),(∀z∈bS,z∉a8)->∀z∈uq a8 bS ps,z∉a8
 | _,[],bS,h=>h
 | a8,p::r,bS,h=>by
  show ∀z∈uq a8 (addW a8 bS p) r,z∉a8;refine Bu a8 r _ ?_;unfold addW
  split
  .exact h
  rename_i hp
  unfold gG
  split
  .exact h
  intro z hz;rcases bY.mp hz with hz | hz
  .exact h z hz
  rw [cg.mp hz];exact hp
def wC {g:Str->Int}{zs:List Str}(h:zs.Pairwise λx y=>g x<=g y){i:Nat}{x p:Str}(e:zs[i]?=some x)(hp:p∈zs)(l:g p < g x):p∈zs.take i:=by
 obtain⟨j,ej⟩:=fQ hp;obtain⟨li,ei⟩:=bh.mp e;obtain⟨lj,ej2⟩:=bh.mp ej;have hji:j < i:=by
  rcases Nat.lt_trichotomy j i with h1 | h1 | h1
  .exact h1
  .subst h1;rw [e] at ej;cases ej;omega
  have:=List.pairwise_iff_getElem.mp h i j li lj h1;rw [ei,ej2] at this;omega
 rw [List.mem_iff_getElem?];exact⟨j,by rw [List.getElem?_take,aw hji];exact ej⟩
end M11
namespace ig
open PySem L2 M11
def Vf (aa:List au):Px aa (hd aa) (xt aa):=λh n e=>by
 unfold xt at e;by_cases c:h∈uq (hd aa) [] (aa.flatMap (·.2))
 .exact .inl (Bu _ _ [] (λz hz=>by cases hz) h c)
 rw [ax c] at e;cases e
def nn0 (aa:List au):NN (xt aa):=λh n e=>by
 unfold xt at e;by_cases c:h∈uq (hd aa) [] (aa.flatMap (·.2))
 .rw [aw c] at e;cases e;exact ix _
 rw [ax c] at e;cases e
def Nb {aa:List au}{g:G}(st:dM M11.bl aa (xt aa) g):NN g:=dM.keep (J:=NN) (λg ru j m f=>w5 j ru) st (nn0 aa)
theorem qP (a8:List Str):∀(ps bS:List Str)(x:Str),(x∈bS\/(x∈ps/\x∉a8))->x∈uq a8 bS ps
 | [],bS,x,h=>by
  rcases h with h | ⟨h,_⟩
  .exact h
  cases h
 | p::r,bS,x,h=>by
  show x∈uq a8 (addW a8 bS p) r;apply qP a8 r;unfold addW;by_cases c:p∈a8
  .rw [aw c];rcases h with h | ⟨h,n⟩
   .exact .inl h
   rcases bO.mp h with z | z
   .exact absurd (z ▸ c) n
   exact .inr ⟨z,n⟩
  rw [ax c];rcases h with h | ⟨h,n⟩
  .exact .inl ((i5 _ _ _).mpr (.inl h))
  rcases bO.mp h with z | z
  .exact .inl ((i5 _ _ _).mpr (.inr z))
  exact .inr ⟨z,n⟩
def QE:List Stmt->Pos
 | [_,_,_,.For _ (.Call _ _ [⟨_,.Lambda _ _ _ pos,_⟩] _) _ _ _,_]=>pos
 | _=>⟨0,0,0,0⟩
abbrev posB:Pos:=QE (cE ox)
abbrev Ic:Str := "least_by_part" ++ ".<locals>." ++ "<lambda>"
section
def pL (K:a0)(T1 T3:Addr):Sp:=λvs H Q _=>∃(R:Addr)(rs:List Addr)(aa:List au),vs=[.ref R]/\aI K H R (rs.map V.ref)/\bT K H rs aa/\aa.length < 64/\(∀ru∈aa,ru.2.length<=8)/\(∀g,dM M11.bl aa (xt aa) g->iF M11.bl aa g->∀h∈hd aa,∃n,g h=some n/\n<=60)/\Tab T1 sX.2.2.2 zH H/\Tab T3 posB Ic H/\T1≠T3 /\
 ∀(d:Addr)(kvs:List (aM×V))(H':Hp),H d=none->mD T1 T3 H H'->Tab T1 sX.2.2.2 zH H'->Tab T3 posB Ic H'->H' d=some (.dK kvs)->(∀z,z∈hd aa->(Sum.inr z:aM)∈kvs.map (·.1))->Q (.ref d) H'
structure LB (K:a0)(rs:List Addr)(aa:List au)(rg:List (aM×V))(ps:List (Str×Addr))(R dz dn T1 T3:Addr)(H5:Hp):Prop where
 hR:aI K H5 R (rs.map V.ref)
 cY:bT K H5 rs aa
 nm:ID ps (λn=>nums aa n aa.length) H5 dn
 rz:Rd H5 dz (.dK rg)
 t1:Tab T1 sX.2.2.2 zH H5
 t3:Tab T3 posB Ic H5
theorem LB.same {rs:List Addr}{aa:List au}{rg:List (aM×V)}{ps:List (Str×Addr)}{R dz dn T1 T3:Addr}{H5 H6:Hp}(h:LB K rs aa rg ps R dz dn T1 T3 H5)(s:aE H5 H6):LB K rs aa rg ps R dz dn T1 T3 H6 :=
 ⟨s.seq h.hR,h.cY.same s,h.nm.same s,ig.Rd.same h.rz s,h.t1.same s,h.t3.same s⟩
def LB.K_ {rs:List Addr}{aa:List au}{rg:List (aM×V)}{ps:List (Str×Addr)}{R dz dn T1 T3 d:Addr}{H5 H6:Hp}{kv:List (aM×V)}(h:LB K rs aa rg ps R dz dn T1 T3 H5)(e:H5 d=some (.dK kv))(n1:dn≠d)(n2:dz≠d)(s:gA d H5 H6):LB K rs aa rg ps R dz dn T1 T3 H6:=by
 have tk:∀a xs,aT K H5 a xs->aT K H6 a xs:=λa xs z=>by
  rcases z with (z | ⟨u,z⟩) | z
  .exact .inl (.inl (s _ _ (λy=>by rw [y,e] at z;cases z) z))
  .exact .inl (.inr ⟨u,s _ _ (λy=>by rw [y,e] at z;cases z) z⟩)
  exact .inr z
 have tb:∀{T':Addr}{pos':Pos}{Ib:Str},Tab T' pos' Ib H5->Tab T' pos' Ib H6:=λ{T' pos' Ib} ⟨p,a,b,cc⟩=>⟨p,s _ _ (λy=>by rw [y,e] at a;cases a) a,b,cc.imp id λ⟨c',e1,e2⟩=>⟨c',e1,s _ _ (λy=>by rw [y,e] at e2;cases e2) e2⟩⟩;refine⟨?_,h.cY.keep tk,⟨s _ _ n1 h.nm.hd,h.nm.n1,h.nm.n2,λp hp=>s _ _ (λy=>by have a:=h.nm.lst p hp;rw [y,e] at a;cases a) (h.nm.lst p hp)⟩,?_,tb h.t1,tb h.t3⟩
 .rcases h.hR with (z | ⟨u,z⟩) | z
  .exact .inl (.inl (s _ _ (λy=>by rw [y,e] at z;cases z) z))
  .exact .inl (.inr ⟨u,s _ _ (λy=>by rw [y,e] at z;cases z) z⟩)
  exact .inr z
 rcases h.rz with z | ⟨u,z⟩
 .exact .inl (s _ _ n2 z)
 exact .inr ⟨u,s _ _ n2 z⟩
def LB.Qn {rs:List Addr}{aa:List au}{rg:List (aM×V)}{ps:List (Str×Addr)}{R dz dn T1 T3:Addr}{H5 H6:Hp}(h:LB K rs aa rg ps R dz dn T1 T3 H5)(nT:T1≠T3)(s:gA T3 H5 H6)(t:Tab T3 posB Ic H6):LB K rs aa rg ps R dz dn T1 T3 H6:=by
 obtain⟨pt,eT,_⟩:=id h.t3;refine⟨B3 s h.t3 h.hR,h.cY.keep λ_ _ z=>Bx s h.t3 z,⟨s _ _ (λy=>by have a:=h.nm.hd;rw [y,eT] at a;cases a) h.nm.hd,h.nm.n1,h.nm.n2,λp hp=>s _ _ (λy=>by have a:=h.nm.lst p hp;rw [y,eT] at a;cases a) (h.nm.lst p hp)⟩,?_,By s h.t3 h.t1 nT,t⟩;rcases h.rz with z | ⟨u,z⟩
 .exact .inl (s _ _ (λy=>by rw [y,eT] at z;cases z) z)
 exact .inr ⟨u,s _ _ (λy=>by rw [y,eT] at z;cases z) z⟩
theorem pY:∀(hs:List Str)(bS:List (aM×V)) (as:List Str),bS.map (·.1)=as.map Sum.inr->(cZ (hs.map λh=>((Sum.inr h:aM),V.str h)) bS).map (·.1)=(M11.xF as hs).map Sum.inr
 | [],bS,as,e=>e
 | h::r,bS,as,e=>pY r (bX bS (Sum.inr h) (.str h)) (M11.gG as h) (ig.ir e h)
def iH:aN ["rules","numbers","trees","name","least","sizes"] ["rules"] (aA ox):=je rfl rfl rfl rfl nofun
def AE {T1 T3:Addr}(F:zz K "least_by_part" "least_by_part" ox f fd T3)(T:Txt mg)(hB:um mg base)(hS:mg "sorted"=none)(GH:aG P w K mg base 3 "heads_of" ["rules"] (lP K))(GL:aG P w K mg base 3 "least_sizes" ["rules"] (qS K T1))(GN:aG P w K mg base 3 "numbers_by_name" ["rules"] (EV K))(GZ:aG P w K mg base 3 "rule_size" ["sizes","rule"] (sq K)):bR P w K mg base fK 4 f fd ["rules"] (pL K T1 T3):=by
 refine F.ok iH (λvs H Q E h=>?_) (λc A outer s H vs Q E hC hr h=>?_)
 .obtain⟨R,rs,aa,rfl,_⟩:=h;rfl
 obtain⟨R,rs,aa,rfl,hR,cY,bM,h8,G0,JS,Xp,nT,q⟩:=h;have hu:=ff hr;refine⟨_,ai (aC (i:=5) iH.nd rfl (Or.inr rfl) (bK GL hr rfl (ab (pv 0) aj)))
  (ai (aC (i:=1) iH.nd rfl (Or.inr rfl) (bK GN hr rfl (ab (pv 0) aj)))
  (ai (aC (i:=2) iH.nd rfl (Or.inr rfl) (a7 (eI rfl) rfl T.Cv gu (ab (aV ["part"] [(1,"numbers")] rfl (B_ (pv 5)) (aS rfl rfl) nofun rfl nofun
    (λ_ _ _ _ _=>aq (i:=0) (show (["part","numbers"]:List Str).Nodup by decide +kernel) rfl (a_ rfl)) (λ_ _ _ _ _=>gC (f_ (dW hu (pv 0) (pv 1)))) (λ_ _ _ _ _=>bU (ab (pv 0) (ab (pv 0) aj)))) aj)))
  (ai (bD b8 rfl (aP (FH (i:=5) (T:=T3) hr rfl hC hB rfl hS (ab (bK GH hr rfl (ab (pv 0) aj)) aj) rfl rfl (λy hy=>by
    rcases bO.mp hy with h | h
    .cases h
    rcases bO.mp h with h | h
    .cases h;rfl
    cases h) (λq cl pm gQ c' us hl=>match us,hl with | [_],_=>rfl) rfl rfl rfl nofun rfl rfl)) (aq (i:=3) iH.nd rfl (Or.inr rfl))
   (ai (iC (iy:=4) ["number"] [(5,"sizes"),(0,"rules"),(3,"name")] iH.nd rfl rfl rfl (aP (fO hu (pv 1) (pv 3) (λ_ _=>rfl))) (aS rfl rfl) nofun rfl nofun
    (λ_ _ _ _ _=>aq (i:=0) (show (["number","sizes","rules","name"]:List Str).Nodup by decide +kernel) rfl (a_ rfl)) (λ_ _ _ _ _=>gC (bu jc (bK GZ hr rfl (ab (pv 1) (ab (b9 (Gu K) (pv 2) (pv 0) (λ_ _=>rfl)) aj))) (fO hu (pv 1) (pv 3) (λ_ _=>rfl)) (cM _))) (λ_ _ _ _ _=>pv 0))
   (ao (gB hu (pv 2) (pv 3) (bU (ab (b9 cX (pv 4) av (λ_ _=>rfl)) (ab (a7 jo rfl T.tup zQ (ab (aV ["part"] [(2,"trees")] rfl (d7 (b9 cN (b9 cX (pv 0) (b9 cX (pv 4) av (λ_ _=>rfl)) (λ_ _=>rfl)) av (λ_ _=>rfl))) (aS rfl rfl) nofun rfl nofun
    (λ_ _ _ _ _=>aq (i:=0) (show (["part","trees"]:List Str).Nodup by decide +kernel) rfl (a_ rfl)) (λ_ _ _ _ _=>bF) (λ_ _ _ _ _=>fO hu (pv 1) (pv 0) (λ_ _=>rfl))) aj)) aj))) rfl))))
  (ao (bC (pv 2)))))),?_⟩
 nofun
 refine⟨_,rfl,R,rs,aa,rfl,hR,cY,∅,h8,JS,λdz rg K7 g H1 fz s1 t1 ez kz vz TH Zn lz=>?_⟩;refine goN ?_
 ac_rfl
 have hR1:=B3 s1 JS hR;have RA:=cY.keep λ_ _ z=>Bx s1 JS z;have Zh:=By s1 JS Xp (fk nT);refine⟨_,rfl,R,rs,aa,rfl,hR1,RA,∅,λdn ps H2 fn s2 nm pk pf=>?_⟩;refine goN ?_
 ac_rfl
 have Lz:=s2 _ _ ez;refine⟨_,rfl,dz,rg,rfl,Lz,λo D hD=>?_⟩;have VX:∀p∈ps,p.2≠dz:=λp hp z=>by
  have a:=nm.lst p hp;rw [z,Lz] at a;cases a
 have ndz:dn≠dz:=λz=>by rw [z,ez] at fn;cases fn
 have nz1:T1≠dz:=λz=>by
  obtain⟨p,a,_⟩:=t1;rw [z,ez] at a;cases a
 have nz3:T3≠dz:=λz=>by
  obtain⟨p,a,_⟩:=Zh;rw [z,ez] at a;cases a
 have PY:∀{T':Addr}{pos':Pos}{Ib:Str},T'≠dz->Tab T' pos' Ib H2->Tab T' pos' Ib (upd H2 dz (.ky o (.dK rg))):=λ{T' pos' Ib} n ⟨p,a,b,cc⟩=>⟨p,by rw [ak n];exact a,b,cc.imp id λ⟨c',e1,e2⟩=>⟨c',e1,by rw [ak (λz=>by rw [z,Lz] at e2;cases e2)];exact e2⟩⟩;have L3:LB K rs aa rg ps R dz dn T1 T3 (upd H2 dz (.ky o (.dK rg))):=by
  refine⟨?_,(RA.same s2).keep λ_ _ z=>il Lz z,⟨by rw [ak ndz];exact nm.hd,nm.n1,nm.n2,λp hp=>by rw [ak (VX p hp)];exact nm.lst p hp⟩,.inr ⟨o,ae⟩,PY nz1 (t1.same s2),PY nz3 (Zh.same s2)⟩;rcases s2.seq hR1 with (h | ⟨u,h⟩) | h
  .exact .inl (.inl (by rw [ak (λz=>by rw [z,Lz] at h;cases h)];exact h))
  .exact .inl (.inr ⟨u,by rw [ak (λz=>by rw [z,Lz] at h;cases h)];exact h⟩)
  exact .inr h
 have e3:upd H2 dz (.ky o (.dK rg)) dz=some (.ky o (.dK rg)):=ae;have CT:mD T1 T3 H (upd H2 dz (.ky o (.dK rg))):=λb u n1 n3 hb=>by
  rw [ak (λz=>by rw [z,fz] at hb;cases hb)];exact s2 _ _ (s1 b u n1 hb)
 generalize upd H2 dz (.ky o (.dK rg))=H3 at hD L3 e3 CT ⊢;have lkz:rg.length=K7.length:=by
  have:=congrArg List.length kz;rwa [ar,ar] at this
 refine t_ (λi ys σ2 H4=>∃ts:List Addr,ys=ts.map V.ref/\(∃y0,σ2=[y0,aF dn])/\aE H3 H4/\H4 D=some (.lst ys)/\ts.length<=i/\Paired (λt h=>aT K H4 t [.str h,.str h]) ts ((K7.take i).filter λz=>!decide (z∈hd aa)))
  ⟨[],rfl,⟨none,rfl⟩,af hD _,ae,aK _,.nil⟩ (λi ys σ2 H4 _ h=>?_) (λi kv ys σ2 H4 ex h=>?_) (λys σ2 H4 h=>?_)
 .obtain⟨_,_,_,sm,_⟩:=h;exact sm _ _ e3
 .obtain⟨ts,rfl,⟨y0,rfl⟩,sm,e4,lts,pt⟩:=h;obtain⟨z,ezz,ekz⟩:∃z,K7[i]?=some z/\kv.1=Sum.inr z:=by
   have a1:(rg.map (·.1))[i]?=some kv.1:=by rw [bf,ex];rfl
   rw [kz,bf] at a1;obtain⟨z,a2,a3⟩:=b_.mp a1;exact⟨z,a2,a3.symm⟩
  rw [ekz];have L4:=L3.same sm;have rj:(bj (ps.map jO) (Sum.inr z)).isSome=decide (z∈hd aa):=by
   rw [ju,eZ,decide_eq_true_iff,<-pk];rw [iz];constructor
   .intro h;obtain⟨p,hp,e⟩:=bN.mp h;exact bN.mpr ⟨p,hp,kR e⟩
   intro h;obtain⟨p,hp,e⟩:=bN.mp h;exact bN.mpr ⟨p,hp,congrArg Sum.inr e⟩
  refine goN ?_;refine⟨_,rfl,_,rfl,dn,_,rfl,cD.k (k:=Sum.inr z) L4.nm.hd,_,rfl,?_⟩;rw [rj];have Sj:((K7.take (i+1)).filter λz=>!decide (z∈hd aa))=((K7.take i).filter λz=>!decide (z∈hd aa))++(if (!decide (z∈hd aa))=true then [z] else []):=by
   rw [cQ,ezz,mS]
   congr 1
   by_cases c:z∈hd aa <;> simp [c]
  refine cx (λcc=>?_) (λcc=>?_)
  .refine⟨_,rfl,_,rfl,mj,λt ht=>?_⟩;have k5:=af ht (.tup [kV (Sum.inr z),kV (Sum.inr z)]);have v5:aT K (upd H4 t (.tup [kV (Sum.inr z),kV (Sum.inr z)])) t [.str z,.str z]:=aT.of ae;generalize upd H4 t (.tup [kV (Sum.inr z),kV (Sum.inr z)])=H5 at k5 v5;have li:=(bh.mp ex).1;have e5:=k5 _ _ e4;refine⟨e5,bq (by rw [ar];omega),ts++[t],by rw [br];rfl,⟨_,rfl⟩,λb u hb=>?_,ae,by rw [bB,fS];omega,?_⟩
   .rw [ak (λz=>by rw [z,hD] at hb;cases hb)];exact k5 _ _ (sm b u hb)
   rw [Sj,aw cc];exact gR (Paired.dY pt λ_ _ z=>aY e5 (k5.tup z)) (aY e5 v5)
  refine⟨ts,rfl,⟨_,rfl⟩,sm,e4,∅,?_⟩;rw [Sj,ax cc,gH];exact pt
 obtain⟨ts,rfl,_,s4,e4,lts,pt⟩:=h;rw [lkz,cC] at pt;have hwk:∀z,z∉hd aa->(g z).isSome=true->z∈K7.filter λz=>!decide (z∈hd aa):=λz hz gz=>by
  refine gI.mpr ⟨?_,by simpa using hz⟩;have a1:(bj rg (Sum.inr z)).isSome=true:=by rw [vz,mQ];exact gz
  rw [eZ,kz] at a1;exact c_.mp a1
 have ZT:(K7.filter λz=>!decide (z∈hd aa)).length<=20000:=eK (kP _ _) ∅;generalize K7.filter (λz=>!decide (z∈hd aa))=ws at pt hwk ZT;have kp:Paired (λt (kv:aM×V)=>aT K H4 t [kV kv.1,kv.2]) ts (ws.map λh=>((Sum.inr h:aM),V.str h)):=cV pt λ_ _ z=>z;refine⟨D,ts,_,rfl,e4,kp,λdt Cn=>?_⟩;have kt:∀z∈ws,(Sum.inr z:aM)∈(cZ (ws.map λh=>((Sum.inr h:aM),V.str h)) []).map (·.1):=λz hz=>by
  rw [pY ws [] [] rfl];exact c_.mpr ((ik ws [] z).mpr (.inr hz))
 have lkt:(cZ (ws.map λh=>((Sum.inr h:aM),V.str h)) []).length<=20000:=by
  have a:=congrArg List.length (pY ws [] [] rfl);rw [ar,ar] at a;have:=jf ws [];simp only [kM] at this;omega
 generalize cZ (ws.map λh=>((Sum.inr h:aM),V.str h)) []=Q6 at kt lkt;have s5:=s4.trans (af Cn (.dK Q6));have e5:upd H4 dt (.dK Q6) dt=some (.dK Q6):=ae;have Lw:H3 dt=none:=s4.free Cn;generalize upd H4 dt (.dK Q6)=H5 at s5 e5;have L5:=L3.same s5;refine goN ?_
 ac_rfl
 refine⟨_,rfl,R,rs,aa,rfl,L5.hR,L5.cY,∅,λDH H6 fH s6 eH=>?_⟩;have L6:=L5.same s6;have Ni:=jf (aa.map (·.1)) [];simp only [kM,ar] at Ni;have gz:∀z∈hd aa,∃n,g z=some n:=λz hz=>by
  obtain⟨n,e,_⟩:=G0 g TH Zn z hz;exact⟨n,e⟩
 refine⟨L6.t3,DH,hd aa,dz,rg,λz=>(g z).getD 0,rfl,aI.of eH,by unfold hd;omega,rfl,L6.rz,λz hz=>by obtain⟨n,e⟩:=gz z hz;rw [vz,e];show _=some (V.int ((g z).getD 0));rw [e];rfl,λl qF H7 s7 t37 fl pe pw el=>?_⟩;have L7:=L6.Qn nT s7 t37;have V5:dt≠T3:=λz=>by
  obtain⟨p,a,_⟩:=L5.t3;rw [<-z,e5] at a;cases a
 have e7:=s7 _ _ V5 (s6 _ _ e5);have ZL:dn≠dt:=λz=>by have a:=L3.nm.hd;rw [z,Lw] at a;cases a
 have ZE:dz≠dt:=λz=>by rw [<-z,e3] at Lw;cases Lw
 have ME:mD T1 T3 H H7:=λb u n1 n3 hb=>s7 _ _ n3 (s6 _ _ (s5 _ _ (CT b u n1 n3 hb)));have V0:l≠dt:=λz=>by rw [z,s6 _ _ e5] at fl;cases fl
 have nn:=Nb TH;have hlz:qF.length < 64:=by rw [pe.length_eq];unfold hd;omega
 have SV:∀ru∈aa,∀p∈ru.2,(g p).isSome=true:=λru fZ p hp=>by
  by_cases hh:p∈hd aa
  .obtain⟨n,e⟩:=gz p hh;rw [e];rfl
  have j0:∃n,xt aa p=some n:=⟨0,aw (qP _ _ [] p (.inr ⟨mh.mpr ⟨ru,fZ,hp⟩,hh⟩))⟩;have:∃n,g p=some n:=dM.keep (J:=λg=>∃n,g p=some n) (λg ru ⟨n,e⟩ m f=>by obtain⟨k,a,_⟩:=le_step f p n e;exact⟨k,a⟩) TH j0;obtain⟨n,e⟩:=this;rw [e];rfl
 have ll:=bI cY
 let xR:rB:=λi σ H8=>∃(kvs:List (aM×V))(y3 y4:Option V),σ=[aF R,aF dn,aF dt,y3,y4,aF dz]/\gA dt H7 H8/\H8 dt=some (.dK kvs)/\kvs.length<=20000+i/\(∀z∈ws,(Sum.inr z:aM)∈kvs.map (·.1))/\(∀z∈qF.take i,(Sum.inr z:aM)∈kvs.map (·.1))
 refine⟨l,rfl,⟨_,aI.of el⟩,bZ (xs:=qF.map V.str) xR ⟨Q6,_,_,rfl,λ_ _ _ h=>h,e7,∅,kt,λz hz=>by cases hz⟩ ?_ ?_ ?_⟩
 .rintro i σ H8 _ ⟨kvs,y3,y4,rfl,s8,_⟩;exact aI.of (s8 _ _ V0 el)
 .rintro i x σ H8 ex ⟨kvs,y3,y4,rfl,s8,e8,OX,Wk,Q5⟩
  ac_nf0
  rw [bf] at ex;obtain⟨z,Uy,rfl⟩:=b_.mp ex;have li:=(bh.mp Uy).1;have hz:z∈hd aa:=pe.mem_iff.mp (cA Uy);obtain⟨n,XW⟩:=gz z hz;have L8:=L7.K_ e7 ZL ZE s8;obtain⟨p,hp,WY⟩:=bN.mp (show z∈ps.map (·.1) by rw [pk];exact hz);refine goN ?_
  ac_rfl
  have hgn:cD H8 dn (.str z) (some (.ref p.2)):=by
   have:=cD.k (k:=Sum.inr z) L8.nm.hd;rw [<-WY,h_ ps L8.nm.n1 p hp] at this;rw [WY] at this;exact this
  have Ug:=L8.nm.lst p hp;have Ug:H8 p.2=some (.lst ((nums aa z aa.length).map V.int)):=by rw [<-WY];exact Ug
  have numOf:∀(m:Nat) (v:Int),(nums aa z aa.length)[m]?=some v->∃(j:Nat)(ru:au),v=(j:Int)/\aa[j]?=some ru/\ru.1=z:=λm v e=>by
   unfold nums at e;rw [bf] at e;obtain⟨j,e1,rfl⟩:=b_.mp e;have hj:=(gI.mp (cA e1)).2;have hj:(aa[j]?.map (·.1))=some z:=cI hj;obtain⟨ru,e2,e3⟩:=b_.mp hj;exact⟨j,ru,rfl,e2,e3⟩
  have aac:=yA aa z aa.length
  let good:Int->Bool:=λv=>match aa[v.toNat]? with | some ru=>decide (aH g ru=n) | none=>false
  have wit:∃v∈nums aa z aa.length,good v=true:=by
   obtain⟨ru,fZ,q1,_,q3⟩:=Df (Vf aa) TH Zn hz XW;obtain⟨j,ej⟩:=fQ fZ;have lj:=(bh.mp ej).1;refine⟨(j:Int),bN.mpr ⟨j,gI.mpr ⟨iK.mpr lj,cU (by rw [ej];exact congrArg some q1)⟩,rfl⟩,?_⟩;show (match aa[(j:Int).toNat]? with | some ru=>decide (aH g ru=n) | none=>false)=true
   rw [hU,ej];exact cU q3
  refine⟨_,rfl,_,rfl,dn,_,rfl,hgn,p.2,rfl,⟨_,aI.of Ug⟩,λD9 vq=>cq (xs:=(nums aa z aa.length).map V.int) (λm ys σ2 H9=>ys=(((nums aa z aa.length).take m).filter good).map V.int/\(∃y0,σ2=[y0,aF dz,aF R,some (.str z)])/\aE H8 H9/\H9 D9=some (.lst ys))
   ⟨rfl,⟨none,rfl⟩,af vq _,ae⟩ (λm ys σ2 H9 _ h=>?_) (λm x ys σ2 H9 em h=>?_) (λys σ2 H9 h=>?_)⟩
  .obtain⟨_,_,sm,_⟩:=h;exact aI.of (sm _ _ Ug)
  .obtain⟨rfl,⟨y0,rfl⟩,sm,e9⟩:=h;rw [bf] at em;obtain⟨v,ev,rfl⟩:=b_.mp em;have lm:=(bh.mp ev).1;obtain⟨j,ru,rfl,ej,UE⟩:=numOf m v ev;have L9:=L8.same sm;obtain⟨r,er,rv⟩:=Paired.at_ L9.cY j ru ej;have SR:ux (rs.map V.ref) (j:Int)=some (.ref r):=dO (by rw [bf,er];rfl);have gj:good (j:Int)=decide (V.int (aH g ru)=V.int n):=by
    show (match aa[(j:Int).toNat]? with | some ru=>decide (aH g ru=n) | none=>false)=_
    rw [hU,ej];show decide (aH g ru=n)=_;by_cases c:aH g ru=n
    .rw [cU c,cU (congrArg V.int c)]
    rw [gJ c,gJ (λy=>c (by injection y))]
   refine goN ?_;refine⟨_,rfl,_,rfl,_,rfl,R,_,_,_,rfl,rfl,L9.hR,SR,dz,r,rg,g,ru,rfl,L9.rz,vz,rv,h8 ru (cA ej),SV ru (cA ej),λBs wU=>?_⟩;have hgz:cD Bs dz (.str z) (some (.int n)):=by
    have:=cD.r (k:=Sum.inr z) (L9.same wU).rz;rw [vz,XW] at this;exact this
   refine⟨_,rfl,_,rfl,dz,_,rfl,hgz,rfl,_,rfl,?_⟩;rw [<-gj];have Sj:((nums aa z aa.length).take (m+1)).filter good=((nums aa z aa.length).take m).filter good++(if good (j:Int)=true then [(j:Int)] else []):=by
    rw [cQ,ev,mS]
    congr 1
    show List.filter good [(j:Int)]=_;by_cases c:good (j:Int)=true
    .rw [aw c,pq,aw c,List.filter_nil]
    rw [ax c,pq,ax c,List.filter_nil]
   have lf:(((nums aa z aa.length).take m).filter good).length<=1000:=eK (kP _ _) (by rw [d0];omega);refine cx (λcc=>?_) (λcc=>?_)
   .refine⟨_,rfl,wU _ _ e9,bq (by rw [ar];omega),by rw [Sj,aw cc,br];rfl,⟨_,rfl⟩,λb u hb=>?_,ae⟩;rw [ak (λz=>by rw [z,vq] at hb;cases hb)];exact wU _ _ (sm b u hb)
   exact⟨by rw [Sj,ax cc,gH],⟨_,rfl⟩,sm.trans wU,wU _ _ e9⟩
  obtain⟨rfl,_,s9,e9⟩:=h;rw [ar,cC] at e9;refine goN ?_
  ac_rfl
  have L9:=L8.same s9;cases hf:(nums aa z aa.length).filter good with
  | nil =>
   obtain⟨v,hv,gv⟩:=wit;have:v∈(nums aa z aa.length).filter good:=gI.mpr ⟨hv,gv⟩;rw [hf] at this;cases this
  | cons v0 vr =>
   rw [hf] at e9;have hm0:v0∈(nums aa z aa.length).filter good:=by rw [hf];exact bQ
   obtain⟨Ep,Uk⟩:=gI.mp hm0;obtain⟨m0,XU⟩:=fQ Ep;obtain⟨j,ru,rfl,ej,UE⟩:=numOf m0 v0 XU;have hsz:aH g ru=n:=by
    have Uk:(match aa[(j:Int).toNat]? with | some ru=>decide (aH g ru=n) | none=>false)=true:=Uk
    rw [hU,ej] at Uk;exact cI Uk
   have fZ:=cA ej;obtain⟨r,er,pp,v1,v2⟩:=Paired.at_ L9.cY j ru ej;have SR:ux (rs.map V.ref) (j:Int)=some (.ref r):=dO (by rw [bf,er];rfl);have DZ:ux (V.int (j:Int)::vr.map V.int) 0=some (.int (j:Int)):=dO (j:=0) rfl;have e9:H9 D9=some (.lst (V.int (j:Int)::vr.map V.int)):=e9;have e89:=s9 _ _ e8;have r8:=h8 ru fZ;have Wr:∀p∈ru.2,(Sum.inr p:aM)∈kvs.map (·.1):=λy hy=>by
    obtain⟨my,ey⟩:=nV.mp (SV ru fZ y hy);by_cases hh:y∈hd aa
    .refine Q5 y (wC pw Uy (pe.mem_iff.mpr hh) ?_);show (g y).getD 0 < (g z).getD 0;rw [ey,XW];show my < n;rw [<-hsz];exact CZ nn hy ey
    exact Wk y (hwk y hh (by rw [ey];rfl))
   refine⟨_,rfl,D9,_,_,_,rfl,rfl,aI.of e9,DZ,_,rfl,_,rfl,D9,_,_,_,rfl,rfl,aI.of e9,DZ,R,_,_,_,rfl,rfl,L9.hR,SR,r,_,_,_,rfl,rfl,v1,rfl,pp,rfl,⟨_,v2⟩,λY3 XA=>tW (zs:=ru.2) rfl v2 ∅ e89 Wr XA λys Bs ly wU Es=>?_⟩;refine⟨Y3,ys,rfl,.inl ⟨aI.of Es,λt2 XF=>⟨mj,λvc N3=>?_⟩⟩⟩;have Z4:=(af XF (.tup ys)).trans (af N3 (.tup [.int (j:Int),.ref t2]));generalize upd (upd Bs t2 (.tup ys)) vc (.tup [.int (j:Int),.ref t2])=Ef at Z4;have Qt:=(s9.trans wU).trans Z4;have Iy:=Qt _ _ e8;refine⟨_,rfl,_,rfl,dt,_,rfl,.inl ⟨kvs,Sum.inr z,Iy,rfl,bq ∅,rfl⟩,?_⟩;have Dj:∀y:aM,(y∈kvs.map (·.1)\/y=Sum.inr z)->y∈(bX kvs (Sum.inr z) (.ref vc)).map (·.1):=λy hy=>by
    by_cases hk:(Sum.inr z:aM)∈kvs.map (·.1)
    .rw [Au hk];rcases hy with hy | rfl
     .exact hy
     exact hk
    rw [ja hk];rcases hy with hy | rfl
    .exact dH _ hy
    exact dD _ bQ
   have aag:(bX kvs (Sum.inr z) (.ref vc)).length<=kvs.length+1:=by
    have a:=congrArg List.length (Eq.refl ((bX kvs (Sum.inr z) (.ref vc)).map (·.1)));by_cases hk:(Sum.inr z:aM)∈kvs.map (·.1)
    .have b:=congrArg List.length (Au (v:=.ref vc) hk);rw [ar,ar] at b;omega
    have b:=congrArg List.length (ja (v:=.ref vc) hk);rw [ar,bB,ar,fS] at b;omega
   refine⟨_,_,_,rfl,λb u nb hb=>?_,ae,∅,λy hy=>Dj _ (.inl (Wk y hy)),λy hy=>?_⟩
   .rw [ak nb];exact Qt _ _ (s8 b u nb hb)
   rw [cQ,Uy] at hy;rcases bY.mp hy with hy | hy
   .exact Dj _ (.inl (Q5 y hy))
   exact Dj _ (.inr (by rw [cg.mp (show y∈[z] from hy)]))
 rintro σ H8 ⟨kvs,y3,y4,rfl,s8,e8,OX,Wk,Q5⟩;rw [ar,cC] at Q5;have L8:=L7.K_ e7 ZL ZE s8;refine⟨_,rfl,q dt kvs H8 ?_ (λb u n1 n3 hb=>?_) L8.t1 L8.t3 e8 λz hz=>Q5 z (pe.mem_iff.mpr hz)⟩
 .cases c:H dt with
  | none=>rfl
  | some u =>
   by_cases h1:dt=T1
   .obtain⟨pp,a,_⟩:=L3.t1;rw [<-h1,Lw] at a;cases a
   rw [CT dt u h1 V5 c] at Lw;cases Lw
 refine s8 _ _ (λz=>?_) (ME b u n1 n3 hb);rw [z] at hb;rw [CT dt u (λy=>n1 (z.trans y)) V5 hb] at Lw;cases Lw
end
end ig
namespace L2
open PySem PySem.Spec PyProof.Rows
section
variable {prog:Program}{w:World}{A:Around}{E:Value->Shared->Prop}
def wy {h h':Heap}{ks:List aM}{a:Addr}(p:(tupleKind (bc prog w)).is h ks a)(k:∀b o,o.cls=.type "tuple" -> h.get? b=some o->h'.get? b=some o):(tupleKind (bc prog w)).is h' ks a :=
 let ⟨o,aU,n,h1,h2,h3,h4⟩:=p;⟨o,aU,n,k a o h2 h1,h2,h3,h4⟩
def xE {h h':Heap}{d:Addr}{xs:List (List aM×Addr×Value)}(hd:h.DictOfH (tupleKind (bc prog w)) d xs)(kd:∀o,h.get? d=some o->h'.get? d=some o)(k:∀b o,o.cls=.type "tuple" -> h.get? b=some o->h'.get? b=some o) :
  h'.DictOfH (tupleKind (bc prog w)) d xs :=
 let ⟨o,es,ep,q,c,dd,e,is,n⟩:=hd;⟨o,es,ep,kd o q,c,dd,e,λx hx=>wy (is x hx) k,n⟩
def lZ (prog:Program)(w:World)(h:Heap)(u:Value)(kv:List aM×Addr×Value):Prop :=
 ∃t n o,u=.ref t/\(tupleKind (bc prog w)).is h kv.1 kv.2.1/\h.get? t=some o/\o.cls=.type "tuple" /\ o.data=.seq #[.ref kv.2.1,kv.2.2] n
def lZ.keep {h h':Heap}{u:Value}{kv:List aM×Addr×Value}(p:lZ prog w h u kv)(k:∀b o,o.cls=.type "tuple" -> h.get? b=some o->h'.get? b=some o):lZ prog w h' u kv :=
 let ⟨t,n,o,a,b,c,d,e⟩:=p;⟨t,n,o,a,wy b k,k t o d c,d,e⟩
def Cr (more xs:List (List aM×Addr×Value)):List (List aM×Addr×Value):=more.foldl (λa p=>storedH a p.1 p.2.1 p.2.2) xs
def J2 {R:Result->Shared->Prop}{d it l:Addr}{items:Array Value}(hh:A.handled=none)(hu:A.units+1 < cLine):∀(more:List (List aM×Addr×Value)) (i:Nat)(s:Shared)(kvs:List (List aM×Addr×Value)) (j:Int)(tk:Tok),items.size=i+more.length ->
  s.heap.DictOfH (tupleKind (bc prog w)) d kvs->s.heap.IsListIter it l i->s.heap.IsList l items->(∀m kv,more[m]?=some kv->∃u,items[i+m]?=some u/\lZ prog w s.heap u kv)->kvs.length+more.length<=sizeLine ->
  (∀h' t',h'.DictOfH (tupleKind (bc prog w)) d (Cr more kvs)->(∀b o,b≠d->b≠it->s.heap.get? b=some o->h'.get? b=some o)->R (.ok (.ret .none)) { s with heap:=h',toks:=t' }) ->
  codeAny (model prog w) A (.builtin "dict.update.loop" ⟨[.ref d,.ref it,.int j tk,.none],[]⟩) R s:=by
 intro more
 induction more with
 | nil =>
  intro i s kvs j tk hi hd hit hl hp hz hR;refine kK lW ?_;rw [mi fM _];unfold Builtin.«dict.update.loop»;have hs:items[i]?=none:=wj (by rw [hi];exact aK _);refine ay (v_ hh hit hl hs λh1 eb=>?_);have nd:d≠it:=λz=>by
   obtain⟨o,_,_,q,_,c,_⟩:=hd;obtain⟨o',q',_,c'⟩:=hit;rw [z,q'] at q;cases q;rw [c'] at c;cases c
  have nt:∀b o,o.cls=.type "tuple" -> s.heap.get? b=some o->b≠it:=λb o c q z=>by
   obtain⟨o',q',c',_⟩:=hit;rw [z,q'] at q;cases q;rw [c'] at c;exact absurd c nofun
  show wpAny _ _ (Builtin.Dict.addKeywords d [] >>= _) _ _ _;exact ay (aD (aD (hR h1 s.toks (xE hd (λo q=>eb d o nd q) λb o c q=>eb b o (nt b o c q) q) λb o n1 n2 q=>eb b o n2 q)))
 | cons kv more ih =>
  intro i s kvs j tk hi hd hit hl hp hz hR;refine kK lW ?_;rw [mi fM _];unfold Builtin.«dict.update.loop»;obtain⟨u,WH,t,n,o,rfl,hk,ho,hc,Cn⟩:=hp 0 kv rfl;refine ay (wpAny_pyNext_list_item hit hl WH λh1 Wv sb=>?_);have nd:d≠it:=λz=>by
   obtain⟨o,_,_,q,_,c,_⟩:=hd;obtain⟨o',q',_,c'⟩:=hit;rw [z,q'] at q;cases q;rw [c'] at c;cases c
  have n2:∀b o,(o.cls=.type "tuple" \/ o.cls=.type "list")->s.heap.get? b=some o->b≠d/\b≠it:=by
   intro b o c q;constructor
   .intro z;obtain⟨o',q',c'⟩:=hd.typeIs;rw [z,q'] at q;cases q;rw [c'] at c;rcases c with c | c <;> exact absurd c nofun
   intro z;obtain⟨o',q',c',_⟩:=hit;rw [z,q'] at q;cases q;rw [c'] at c;rcases c with c | c <;> exact absurd c nofun
  have nt:∀b o,o.cls=.type "tuple" -> s.heap.get? b=some o->b≠d/\b≠it:=λb o c q=>n2 b o (.inl c) q;have nl:l≠d/\l≠it:=by
   obtain⟨o,q,c,_⟩:=hl;exact n2 l o (.inr c) q
  have Wm:∀b o,o.cls=.type "tuple" -> s.heap.get? b=some o->h1.get? b=some o:=λb o c q=>(sb.2 b (nt b o c q).2).trans q;have El:h1.get? t=some o:=Wm t o hc ho;have Lo:h1.DictOfH (tupleKind (bc prog w)) d kvs:=xE hd (λo q=>(sb.2 d nd).trans q) Wm;refine ay (i8 (ay (wpAny_tryCatch ?_)));unfold Builtin.Dict.pairItems;refine ay (iP (T := "tuple") ⟨o,El,hc⟩ ?_);rw [aw nofun];refine ay (mI El Cn (aD ?_));show wpAny _ _ (holding [.ref kv.2.1,kv.2.2] (dictSet d (.ref kv.2.1) kv.2.2)) _ _ _;rw [dG] at hz hi;refine i8 (wpAny_dictSet_heap (s:={ s with heap:=h1 }) (pD hu) (wy hk Wm) Lo (λh2 hd2 Qr=>?_) ∅);have kk:∀b o,b≠d->b≠it->s.heap.get? b=some o->h2.get? b=some o:=λb o n1 n2 q=>(Qr.2 b n1).trans ((sb.2 b n2).trans q);have ln:(storedH kvs kv.1 kv.2.1 kv.2.2).length<=kvs.length+1:=by
   unfold storedH
   split
   .simp
   simp
  refine aD ⟨jj fM _,ih (i+1) _ _ _ _ ∅ hd2 (Wv.at λo q=>(Qr.2 it (fk nd)).trans q) (hl.at λo q=>kk l o nl.1 nl.2 q) (λm Wl e=>?_) ∅ λh3 t3 jn k3=>?_⟩
  .obtain⟨u',e1,e2⟩:=hp (m+1) Wl e;exact⟨u',by rw [<-e1];congr 1;omega,e2.keep λb o c q=>kk b o (nt b o c q).1 (nt b o c q).2 q⟩
  exact hR h3 t3 jn λb o n1 n2 q=>k3 b o n1 n2 (kk b o n1 n2 q)
def qM {s:Shared}{l:Addr}{items:Array Value}{n:Nat}{more:List (List aM×Addr×Value)}{Q:Value->Shared->Prop}(hh:A.handled=none)(hu:A.units+2 < cLine)(hx:s.heap.get? l=some { cls:=.type "list",data:=.seq items n })
  (hi:items.size=more.length)(hp:∀(m:Nat) kv,more[m]?=some kv->∃u,items[m]?=some u/\lZ prog w s.heap u kv)(hz:more.length<=sizeLine)
  (h:∀h' t',h'.DictOfH (tupleKind (bc prog w)) s.heap.objs.size (Cr more [])->(∀b o,s.heap.get? b=some o->h'.get? b=some o)->Q (.ref s.heap.objs.size) { s with heap:=h',toks:=t' }) :
  wpAny (model prog w) A (call (.type "dict") [.ref l]) Q E s:=by
 refine callType_codes (Q₁:=λobj s₁=>obj=.ref s.heap.objs.size/\s₁={ s with heap:=s.heap.push { cls:=.type "dict",data:=.dict #[] } }) F.kt_called_dict (F.kt_typeCall_dict_1 _) F.entry_dict_init (kt_code_dict_new _ ⟨rfl,rfl⟩) ?_;rintro obj s₁ ⟨rfl,rfl⟩;have AI:(s.heap.push { cls:=.type "dict",data:=.dict #[] }).DictOfH (tupleKind (bc prog w)) s.heap.objs.size []:=Heap.DictOfH.new s.heap;have l0:=bW { cls:=.type "dict",data:=.dict #[] } hx;refine⟨AI.typeIs,F.args_dict_init_2 _ _,?_⟩;unfold Builtin.«dict.__init__» Builtin.Dict.selfAndRest;refine ay (ay (wpAny_notOrdered_dict AI.typeIs (aD ?_)));show wpAny _ _ (Builtin.Dict.updateFrom "dict.__init__" s.heap.objs.size (.ref l) [] .none) _ _ _;unfold Builtin.Dict.updateFrom;refine ay (iP (T := "list") ⟨_,l0,rfl⟩ ?_);rw [aw z6];refine ay (pX l0 hh λh1 t1 k1=>?_);refine ay (iw ?_);have l1:=k1 _ _ l0;refine ay (mN ⟨_,l1,rfl,_,rfl⟩ ?_);have k2:∀b o,s.heap.get? b=some o->(h1.push { cls:=.type "list_iterator",data:=.fields #[.ref l,.int 0 0] }).get? b=some o:=λb o q=>bW _ (k1 _ _ (bW _ q));refine aD ⟨jj fM _,J2 (A:=A.in1) (l:=l) (items:=items) (show A.in1.handled=none from hh) (show A.in1.units+1 < cLine by rw [Around.in1_units];omega) more 0 _ [] _ _ (by rw [hi,o6]) ?_ ⟨_,cJ _ rfl,rfl,rfl⟩ ⟨_,k2 _ _ hx,rfl,n,rfl⟩ (λm kv e=>?_) (by simpa using hz) λh' t' hd k3=>?_⟩
 .exact xE AI (λo q=>bW _ (k1 _ _ q)) λb o _ q=>bW _ (k1 _ _ q)
 .obtain⟨u,e1,e2⟩:=hp m kv e;exact⟨u,by rw [o6];exact e1,e2.keep λb o _ q=>k2 b o q⟩
 refine⟨rfl,h h' t' hd λb o q=>k3 b o (bE (bo q)) ?_ (k2 b o q)⟩;have:=bo (k1 _ _ (bW { cls:=.type "dict",data:=.dict #[] } q));exact bE this
end
def oP (kvs bS:List (List aM×V)):List (List aM×V):=kvs.foldl (λa p=>bX a p.1 p.2) bS
theorem vx {H:Hp}:∀{kvs:List (List aM×V)}{vs:List (List aM×Addr×Value)}{bS:List (List aM×V)}{Hw:List (List aM×Addr×Value)},KT H kvs vs->KT H bS Hw->KT H (oP kvs bS) (Cr vs Hw)
 | _,_,_,_,.nil,h=>h
 | _,_,_,_,.cons (a:=p) (b:=q) r t,h=>by
  obtain⟨e,hb,rv⟩:=r;show KT H (oP _ (bX _ p.1 p.2)) (Cr _ (storedH _ q.1 q.2.1 q.2.2));rw [<-e];exact vx t (h.put p.1 hb rv)
theorem vy:∀(kvs bS:List (List aM×V)),(oP kvs bS).length<=bS.length+kvs.length
 | [],bS=>by simp [oP]
 | p::r,bS=>by
  have:=vy r (bX bS p.1 p.2);have:=fC bS p.1 p.2;show (oP r (bX bS p.1 p.2)).length<=_;rw [dG];omega
section
variable {X:Cx}{ag:List (Addr×Obj)}{σ:St}{H:Hp}{s:Shared}
abbrev Py (K:a0)(H:Hp)(t:Addr)(kv:List aM×V):Prop:=∃b,aT K H t [.ref b,kv.2]/\H b=some (.tup (kv.1.map kV))
theorem u7 (I:Inv X ag σ H s):∀{ts:List Addr}{kvs:List (List aM×V)}{aU:List Value},Paired (Py X.K H) ts kvs->ba (ts.map V.ref) aU ->
  ∃vs:List (List aM×Addr×Value),KT H kvs vs/\Paired (λu kv=>lZ X.prog X.w s.heap u kv) aU vs
 | [],_,_,.nil,r=>by
  rw [mH] at r;cases r;exact⟨[],.nil,.nil⟩
 | t::ts,kv::kvs,_,.cons h p,r=>by
  rw [cH] at r;cases r with
  | cons r1 r2 =>
   obtain⟨vs,e1,e2⟩:=u7 I p r2;obtain⟨b,h0,hb⟩:=h;obtain⟨aU,rv,⟨o,h1,h2,n,h3⟩,_⟩:=I.tuple h0;obtain⟨u1,u2,rfl,q1,q2⟩:=vals2 rv;cases (show u1=Value.ref b from q1);exact⟨(kv.1,b,u2)::vs,.cons ⟨rfl,hb,q2⟩ e1,.cons ⟨t,n,o,r1,nq I.cw hb,h1,h2,h3⟩ e2⟩
def zr (hc:X.calm=true)(hu:X.A.units+2 < cLine):gN X (.type "dict") (λxs H Q=>∃a ts kvs,xs=[.ref a]/\H a=some (.lst (ts.map V.ref))/\Paired (Py X.K H) ts kvs/\∀d,H d=none->Q (.ref d) (upd H d (.dT (oP kvs [])))):=by
 intro ag s σ H xs us Q I r h;obtain⟨a,ts,kvs,rfl,e,p,q⟩:=h;obtain⟨u,rfl,rx⟩:=vals1 r;cases (show u=Value.ref a from rx);obtain⟨z,aU,n,rv,ho⟩:=(show cK X.prog X.w H s.heap a (.lst _) from I.cw a _ e);obtain⟨vs,r1,r2⟩:=u7 I p rv;have l1:=bI r2;have l2:=bI r1;have l3:=bI p;rw [ar] at z;refine qM (I.ok.hd hc) hu ho (by simpa using l1) (λm kv em=>?_) ∅ λh' t' hd kk=>?_
 .obtain⟨u,e1,e2⟩:=Paired.at_ r2 m kv em;exact⟨u,by simpa using e1,e2⟩
 have fr:=I.cw.fresh (aK s.heap.objs.size);have new:cK X.prog X.w (upd H s.heap.objs.size (.dT (oP kvs []))) h' s.heap.objs.size (.dT (oP kvs [])):=by
  obtain⟨o,es,ep,hq,h2,h3,h4,_,h5⟩:=hd;refine⟨?_,?_,_,(vx r1 .nil).keeps λc ys ec=>?_,o,es,ep,hq,h2,h3,h4,h5⟩
  .have:=vy kvs [];simp at this;omega
  .have:=I.big;exact kO.mpr (kb this)
  rw [ak (aB ec fr)];exact ec
 exact⟨.ref s.heap.objs.size,_,I.laid (t':=t') kk (aK _) new,rfl,q _ fr⟩
end
open PySem M11
def DQ {K:a0}{H:Hp}{bg D:Addr}{ts:List Addr}{a9:List Be}{σ:St}{x1 x2 x3 x4:Str}{Qp:Hp->Prop}(hb:aI K H bg (ts.map V.ref))(Pa:Paired (λt (b:Be)=>aT K H t [.str b.1,.str b.2.1,.int (b.2.2.1:Int),.int (b.2.2.2:Int)]) ts a9)(bM:a9.length<=900000)(hD:H D=none)
  (q:∀us H2,aE H H2->H2 D=some (.lst (us.map V.ref))->Paired (λu (b:Be)=>∃v,Py K H2 u ([Sum.inr b.1,Sum.inr b.2.1],.ref v)) us a9->Qp H2) :
  ∃W:Nat->Nat->List V->St->Hp->Prop,(∃m,W 0 m [] (dN [x1,x2,x3,x4] [] σ) (upd H D (.lst []))) /\
 ∀i m ys σ' H,W i m ys σ' H->((jN K bg).stop i H/\Qp H)\/((jN K bg).go i H/\∃m',m' < m/\∀x H',(jN K bg).mT i H x H'->yT K 4 (iX (di 0) (iX (di 1) (iX (di 2) (iX (di 3) A5)))) x σ' H' λσ2 H2=>hV σ2 H2 λb H3 =>
  if b=true then uz (gU (uz (gU (gO 0) (gU (gO 1) sf))) (gU (uz (gU (gO 2) (gU (gO 3) sf))) sf)) σ2 H3 λy H4=>H4 D=some (.lst ys)/\ys.length < sizeLine/\W (i+1) m' (ys++[y]) σ2 (upd H4 D (.lst (ys++[y]))) else W (i+1) m' ys σ2 H3):=by
 have ll:=bI Pa;refine cq (xs:=ts.map V.ref) (λi ys σ2 H2=>∃us:List Addr,ys=us.map V.ref/\us.length=i/\Paired (λu (b:Be)=>∃v,Py K H2 u ([Sum.inr b.1,Sum.inr b.2.1],.ref v)) us (a9.take i)/\(∃y0 y1 y2 y3,σ2=[y0,y1,y2,y3])/\aE H H2/\H2 D=some (.lst ys))
  ⟨[],rfl,rfl,.nil,⟨none,none,none,none,rfl⟩,af hD _,ae⟩ (λi ys σ2 H2 _ h=>?_) (λi x ys σ2 H2 ex h=>?_) (λys σ2 H2 h=>?_)
 .obtain⟨_,_,_,_,_,sm,_⟩:=h;exact sm.seq hb
 .obtain⟨us,rfl,hu,hp,⟨y0,y1,y2,y3,rfl⟩,sm,hd⟩:=h;rw [bf] at ex;obtain⟨r,er,rfl⟩:=b_.mp ex;have lr:=(bh.mp er).1;obtain⟨b,e1⟩:∃b,a9[i]?=some b:=⟨a9[i]'∅,cT ∅⟩;obtain⟨r',Sl,v1⟩:=Paired.at_ Pa i b e1;rw [er] at Sl;cases Sl;have li:=(bh.mp e1).1;refine⟨r,_,rfl,sm.tup v1,rfl,_,_,rfl,_,_,rfl,_,_,rfl,_,_,rfl,rfl,?_⟩;refine yS ?_;refine⟨_,rfl,_,rfl,mj,λk hk=>⟨_,rfl,_,rfl,mj,λv hv=>⟨mj,λu T_=>?_⟩⟩⟩;have s3:=(af hk (.tup [V.str b.1,V.str b.2.1])).trans ((af hv (.tup [V.int (b.2.2.1:Int),V.int (b.2.2.2:Int)])).trans (af T_ (.tup [.ref k,.ref v])));have ek:=((af hv (.tup [V.int (b.2.2.1:Int),V.int (b.2.2.2:Int)])).trans (af T_ (.tup [.ref k,.ref v]))) k _ ae;have eu:aT K (upd (upd (upd H2 k (.tup [V.str b.1,V.str b.2.1])) v (.tup [V.int (b.2.2.1:Int),V.int (b.2.2.2:Int)])) u (.tup [.ref k,.ref v])) u [.ref k,.ref v]:=aT.of ae;generalize upd (upd (upd H2 k (.tup [V.str b.1,V.str b.2.1])) v (.tup [V.int (b.2.2.1:Int),V.int (b.2.2.2:Int)])) u (.tup [.ref k,.ref v])=H4 at s3 ek eu;have Co:=s3 _ _ hd;refine⟨Co,bq (by rw [ar];omega),us++[u],by rw [br];rfl,by rw [bB,hu];rfl,?_,⟨_,_,_,_,rfl⟩,?_,ae⟩
  .rw [cQ,e1];have kD:k≠D:=λz=>by rw [z,Co] at ek;cases ek
   refine gR (Paired.dY hp λu' b' bL=>?_) ⟨v,k,aY Co eu,by rw [ak kD];exact ek⟩;obtain⟨v',bb,p1,p2⟩:=bL;exact⟨v',bb,aY Co (s3.tup p1),by rw [ak (λz=>by rw [z,hd] at p2;cases p2)];exact s3 _ _ p2⟩
  intro c o hc;rw [ak (λz=>by rw [z,hD] at hc;cases hc)];exact s3 _ _ (sm c o hc)
 obtain⟨us,rfl,hu,hp,_,sm,hd⟩:=h;rw [ar,ll,cC] at hp;exact q us H2 sm hd hp
theorem FC {K:a0}{H:Hp}:∀{us:List Addr}{a9:List Be},Paired (λu (b:Be)=>∃v,Py K H u ([Sum.inr b.1,Sum.inr b.2.1],.ref v)) us a9->∃kvs,Paired (Py K H) us kvs
 | _,_,.nil=>⟨[],.nil⟩
 | _,_,.cons ⟨v,h⟩ t=>let ⟨kvs,p⟩:=FC t;⟨_::kvs,.cons h p⟩
end L2
namespace ig
open PySem L2 M11
def Tab.s2 {T T1 T2:Addr}{p p1 p2:Pos}{q q1 q2:Str}{H H':Hp}(h:Tab T p q H)(s:mD T1 T2 H H')(t1:Tab T1 p1 q1 H)(t2:Tab T2 p2 q2 H)(n1:T≠T1)(n2:T≠T2):Tab T p q H':=by
 obtain⟨ps,a,b,c⟩:=h;obtain⟨TZ,b1,_⟩:=t1;obtain⟨Zw,b2,_⟩:=t2;refine⟨ps,s _ _ n1 n2 a,b,c.imp id ?_⟩;rintro⟨c',e,g⟩;exact⟨c',e,s _ _ (λz=>by rw [z,b1] at g;cases g) (λz=>by rw [z,b2] at g;cases g) g⟩
def kY {T a C dx:Addr}{pos:Pos}{qu:Str}{H:Hp}{fs:List (Str×V)}{o:HO}(h:Tab T pos qu H)(ha:H a=some (.ins C dx fs)):Tab T pos qu (upd H a o):=by
 obtain⟨ps,p,r,c⟩:=h;refine⟨ps,by rw [ak (λz=>by rw [z,ha] at p;cases p)];exact p,r,c.imp id ?_⟩;rintro⟨c',e,g⟩;exact⟨c',e,by rw [ak (λz=>by rw [z,ha] at g;cases g)];exact g⟩
def Kp (H H':Hp):Prop:=∀b o,H b=some o->(∀ps,o≠.ur ps)->H' b=some o
def Kp.trans {H H1 H2:Hp}(a:Kp H H1)(b:Kp H1 H2):Kp H H2:=λc o h n=>b c o (a c o h n) n
def Kp.of {H H':Hp}(s:aE H H'):Kp H H':=λb o h _=>s b o h
def Kp.of2 {T1 T2:Addr}{p1 p2:Pos}{q1 q2:Str}{H H':Hp}(s:mD T1 T2 H H')(t1:Tab T1 p1 q1 H)(t2:Tab T2 p2 q2 H):Kp H H':=λc o hc hn=>by
 obtain⟨TZ,b1,_⟩:=t1;obtain⟨Zw,b2,_⟩:=t2;exact s c o (λz=>by rw [z,b1] at hc;cases hc;exact hn _ rfl) (λz=>by rw [z,b2] at hc;cases hc;exact hn _ rfl) hc
section
theorem Kp.lst {H H':Hp}(k:Kp H H'){a:Addr}{xs:List V}(h:H a=some (.lst xs)):H' a=some (.lst xs):=k a _ h (λ_ z=>by cases z)
def Kp.tup {H H':Hp}(k:Kp H H'){a:Addr}{xs:List V}(h:aT K H a xs):aT K H' a xs:=by
 rcases h with (h | ⟨u,h⟩) | h
 .exact .inl (.inl (k _ _ h (λ_ z=>by cases z)))
 .exact .inl (.inr ⟨u,k _ _ h (λ_ z=>by cases z)⟩)
 exact .inr h
def Kp.seq {H H':Hp}(k:Kp H H'){a:Addr}{xs:List V}(h:aI K H a xs):aI K H' a xs:=by
 rcases h with (h | ⟨u,h⟩) | h
 .exact .inl (.inl (k _ _ h (λ_ z=>by cases z)))
 .exact .inl (.inr ⟨u,k _ _ h (λ_ z=>by cases z)⟩)
 exact .inr h
theorem Kp.aa {H H':Hp}(k:Kp H H'){rs:List Addr}{aa:List au}(h:bT K H rs aa):bT K H' rs aa:=h.keep λ_ _ z=>k.tup z
abbrev Aj:Stmt:=K4 sLT 0
structure LC (K:a0)(C:Addr):Prop where
 cls:Eh K C
 a1:dX K C "rules"
 a2:dX K C "empty"
 a3:dX K C "least"
 a4:dX K C "hollow"
 a5:dX K C "beginnings"
structure EA (C3 T1 T3:Addr)(H0 H:Hp)(a dx:Addr)(fs:List (Str×V)):Prop where
 sm:mD T1 T3 H0 H
 ia:H a=some (.ins C3 dx fs)
 fa:H0 a=none
 t1:Tab T1 sX.2.2.2 zH H
 t3:Tab T3 posB Ic H
 o1:Tab T1 sX.2.2.2 zH H0
 o3:Tab T3 posB Ic H0
def EA.kp {C3 T1 T3 a dx:Addr}{H0 H:Hp}{fs:List (Str×V)}(h:EA C3 T1 T3 H0 H a dx fs):Kp H0 H:=Kp.of2 h.sm h.o1 h.o3
def EA.set {C3 T1 T3 a dx:Addr}{H0 H:Hp}{fs:List (Str×V)}(h:EA C3 T1 T3 H0 H a dx fs)(Ir:List (Str×V)):EA C3 T1 T3 H0 (upd H a (.ins C3 dx Ir)) a dx Ir :=
 ⟨λb o n1 n3 hb=>by rw [ak (λz=>by rw [z,h.fa] at hb;cases hb)];exact h.sm b o n1 n3 hb,ae,h.fa,kY h.t1 h.ia,kY h.t3 h.ia,h.o1,h.o3⟩
def EA.next {C3 T1 T3 a dx:Addr}{H0 H H':Hp}{fs:List (Str×V)}(h:EA C3 T1 T3 H0 H a dx fs)(s:aE H H'):EA C3 T1 T3 H0 H' a dx fs :=
 ⟨λb o n1 n3 hb=>s _ _ (h.sm b o n1 n3 hb),s _ _ h.ia,h.fa,h.t1.same s,h.t3.same s,h.o1,h.o3⟩
def EA.QM {C3 T1 T3 a dx:Addr}{H0 H H':Hp}{fs:List (Str×V)}(h:EA C3 T1 T3 H0 H a dx fs)(s:mD T1 T3 H H')(t1:Tab T1 sX.2.2.2 zH H')(t3:Tab T3 posB Ic H'):EA C3 T1 T3 H0 H' a dx fs :=
 ⟨λb o n1 n3 hb=>s _ _ n1 n3 (h.sm b o n1 n3 hb),Kp.of2 s h.t1 h.t3 _ _ h.ia (λ_ z=>by cases z),h.fa,t1,t3,h.o1,h.o3⟩
def BV (K:a0)(C C3 T1 T3:Addr):Sp:=λvs H Q _=>∃(H0 Hb:Hp)(a dx R x e d bg:Addr)(rs:List Addr)(aa:List au)(kE:List (aM×V))(aQ:List (Str×Nat))(ps:List (Str×Addr))(a9:List Be),vs=[.ref a,.ref R,.ref x]/\aE H0 H/\H0 a=none/\H a=some (.ins C3 dx [])/\aI K H0 R (rs.map V.ref)/\bT K H0 rs aa /\
 aa.length < 64/\(∀ru∈aa,ru.2.length<=8)/\(∀g,dM M11.bl aa (xt aa) g->iF M11.bl aa g->∀h∈hd aa,∃n,g h=some n/\n<=60)/\nP K C Hb H0 x e d bg kE aQ ps a9/\uj aa aQ/\a9.length<=80000/\Tab T1 sX.2.2.2 zH H0/\Tab T3 posB Ic H0/\T1≠T3 /\
 ∀H',mD T1 T3 H0 H'->Tab T1 sX.2.2.2 zH H'->Tab T3 posB Ic H'->Q .gb H'
def IT:aN ["self","rules","begin_table"] ["self","rules","begin_table"] (aA Aj):=je rfl rfl rfl rfl nofun
def FY {C C3 T1 T3:Addr}(F:iG K "__init__" "LeastTrees.__init__" Aj f fd)(T:Txt mg)(B:BC K C)(L:LC K C3)(GL:aG P w K mg base 4 "least_by_part" ["rules"] (pL K T1 T3))(GE:aG P w K mg base 4 "empty_by_name" ["rules","empties"] (uU K)) :
  bR P w K mg base fK 5 f fd ["self","rules","begin_table"] (BV K C C3 T1 T3):=by
 refine F.ok IT (λvs H Q E h=>?_) (λeJ A outer s H vs Q E hr h=>?_)
 .obtain⟨H0,Hb,a,dx,R,x,e,d,bg,rs,aa,kE,aQ,ps,a9,rfl,_⟩:=h;rfl
 obtain⟨H0,Hb,a,dx,R,x,e,d,bg,rs,aa,kE,aQ,ps,a9,rfl,s0,f0,ea,hR,cY,bM,h8,G0,S,emp,Nm,t1,t3,nT,q⟩:=h;have hu:=rQ (Nat.add_le_add_left (by decide:2<=64) _) hr.units;refine⟨_,ai (gY (pv 0) (pv 1) rfl)
  (ai (gY (pv 0) (dU (pv 2) rfl) rfl)
  (ai (gY (pv 0) (bK GL hr rfl (ab (pv 1) aj)) rfl)
  (ai (gY (pv 0) (bK GE hr rfl (ab (pv 1) (ab (dU (pv 2) rfl) aj))) rfl)
  (ao (gY (pv 0) (a7 (zr rfl hu) rfl T.Cv gu (ab (aV ["name","word","number","place"] [] rfl (aP (dU (pv 2) rfl)) (aS rfl rfl) nofun rfl nofun
   (λ_ _ _ _ _=>dq (n:=4) K rfl (az (aq (i:=0) (show (["name","word","number","place"]:List Str).Nodup by decide +kernel) rfl (a_ rfl)) (az (aq (i:=1) (show (["name","word","number","place"]:List Str).Nodup by decide +kernel) rfl (a_ rfl)) (az (aq (i:=2) (show (["name","word","number","place"]:List Str).Nodup by decide +kernel) rfl (a_ rfl)) (az (aq (i:=3) (show (["name","word","number","place"]:List Str).Nodup by decide +kernel) rfl (a_ rfl)) bz))))) (λ_ _ _ _ _=>bF)
   (λ_ _ _ _ _=>bU (ab (bU (ab (pv 0) (ab (pv 1) aj))) (ab (bU (ab (pv 2) (ab (pv 3) aj))) aj)))) aj)) rfl))))),?_⟩
 nofun
 have S0:EA C3 T1 T3 H0 H a dx []:=⟨λb o _ _ hb=>s0 b o hb,ea,f0,t1.same s0,t3.same s0,t1,t3⟩;obtain⟨e1,te,⟨Pr,Ls,Uz,leb⟩,ee1,evb,_⟩:=S.em;obtain⟨aaw,aao,Sh,l1,l2,_⟩:=S.ia;rw [Uz] at Sh;cases Sh;obtain⟨tb,ebg,Pa⟩:=S.lb;have lets:=emp.len;refine⟨_,rfl,_,rfl,a,C3,dx,[],rfl,S0.ia,L.cls,L.a1,(by show 0 < 1000;decide),?_⟩;have S1:=S0.set (dQ "rules" (.ref R) []);generalize Um:dQ "rules" (.ref R) []=Pg at S1;generalize upd H a (.ins C3 dx Pg)=H1 at S1;have x1:H1 x=some (.ins C Pr Ls):=S1.kp _ _ Uz (λ_ z=>by cases z);refine⟨_,rfl,x,C,Pr,Ls,_,rfl,x1,B.cls,B.a2,l1,_,rfl,a,C3,dx,Pg,rfl,S1.ia,L.cls,L.a2,(by rw [<-Um];show 1 < 1000;decide),?_⟩;have S2:=S1.set (dQ "empty" (.ref e) Pg);generalize RO:dQ "empty" (.ref e) Pg=rm at S2;generalize upd H1 a (.ins C3 dx rm)=H2 at S2;refine⟨_,rfl,R,rs,aa,rfl,S2.kp.seq hR,S2.kp.aa cY,bM,h8,G0,S2.t1,S2.t3,nT,λdl kl H3 fdl s3 zF t33 edl kdl=>?_⟩;have S3:=S2.QM s3 zF t33;refine⟨_,rfl,a,C3,dx,rm,rfl,S3.ia,L.cls,L.a3,(by rw [<-RO,<-Um];show 2 < 1000;decide),?_⟩;have S4:=S3.set (dQ "least" (.ref dl) rm);generalize hf4:dQ "least" (.ref dl) rm=Pf at S4;generalize upd H3 a (.ins C3 dx Pf)=H4 at S4;have x4:H4 x=some (.ins C Pr Ls):=S4.kp _ _ Uz (λ_ z=>by cases z);refine⟨_,rfl,_,rfl,x,C,Pr,Ls,_,rfl,x4,B.cls,B.a1,leb,R,e1,rs,te,aa,aQ,rfl,S4.kp.seq hR,S4.kp.aa cY,∅,h8,aI.of (S4.kp.lst ee1),evb.keep λ_ _ z=>S4.kp.tup z,emp,∅,λdh kh H5 fdh s5 edh kdh=>?_⟩;have S5:=S4.next s5;refine⟨_,rfl,a,C3,dx,Pf,rfl,S5.ia,L.cls,L.a4,(by rw [<-hf4,<-RO,<-Um];show 3 < 1000;decide),?_⟩;have S6:=S5.set (dQ "hollow" (.ref dh) Pf);generalize hf6:dQ "hollow" (.ref dh) Pf=zK at S6;generalize upd H5 a (.ins C3 dx zK)=H6 at S6;have x6:H6 x=some (.ins C Pr Ls):=S6.kp _ _ Uz (λ_ z=>by cases z);have b6:=S6.kp.lst ebg;have v6:Paired (λt (b:Be)=>aT K H6 t [.str b.1,.str b.2.1,.int (b.2.2.1:Int),.int (b.2.2.2:Int)]) tb a9:=Paired.dY Pa λ_ _ z=>S6.kp.tup z;refine⟨_,rfl,x,C,Pr,Ls,_,rfl,x6,B.cls,B.a3,l2,bg,rfl,⟨_,aI.of b6⟩,λD7 Xx=>DQ (aI.of b6) v6 ∅ Xx λus H7 s7 e7 p7=>?_⟩;obtain⟨kvs,pk⟩:=FC p7;refine⟨D7,us,kvs,rfl,e7,pk,λdb Dr=>?_⟩;have S8:=(S6.next s7).next (af Dr (.dT (oP kvs [])));refine⟨_,rfl,a,C3,dx,zK,rfl,S8.ia,L.cls,L.a5,(by rw [<-hf6,<-hf4,<-RO,<-Um];show 4 < 1000;decide),?_⟩;have S9:=S8.set (dQ "beginnings" (.ref db) zK);exact q _ S9.sm S9.t1 S9.t3
structure HV (K:a0)(x qual:Str)(st:Stmt)(f:Addr)(fd:FuncData):Prop where
 ex:∃(oc:Value)(od:Option Addr)(kV doc pm:Value)(an:Option Addr)(eJ ct:Value)(wY:Array (Option Value))(T:Addr)(o:Obj) (n:Nat),
  fd=PySem.W.fnOf x qual (du st) (cE st) (aA st) (.ref T) kV doc pm an eJ ct/\K.lookup f=some ⟨oc,od,.func fd,wY⟩/\PySem.W.codeIn K eJ qual=true/\K.lookup T=some o/\o.data=.seq #[.none] n
 kp:PySem.W.keepIn K (.ref f)=true
def HV.ok {x qual:Str}{st:Stmt}{f:Addr}{fd:FuncData}{N ps:List Str}{k:Nat}{sp:Sp}(F:HV K x qual st f fd)(S:aN N ps (aA st))(len:∀vs H Q E,sp vs H Q E->vs.length=ps.length)
  (jH:∀(eJ:Value)(A:Around)(outer:List Env)(s:Shared)(H:Hp)(vs:List V)(Q:VK)(E:XK),fI k (A.deeper (PyProof.Rows.envOfC qual (aA st) s.heap.objs.size f eJ))->sp vs H Q E ->
   ∃t,Bp (qg fK P w K mg base N qual (aA st) f eJ A outer s H E).C_ (cE st) t/\t { nx:=λ_ H'=>Q .gb H',rt:=Q } (start N vs) H):bR P w K mg base fK (k+1) f fd ps sp:=by
 obtain⟨oc,od,kV,doc,pm,an,eJ,ct,wY,T,o,n,rfl,lk,xr,_⟩:=F.ex;refine Hc lk xr S len λA outer s H vs Q E hr uv=>?_;obtain⟨t,h,q⟩:=jH eJ A outer s H vs Q E hr uv;exact⟨t,h.C_,q⟩
def G7 {f:Addr}{fd:FuncData}(F:HV K "__init__" "Grammar.__init__" wM f fd):Binds K fd ["self","rules","strengths"] [.none]:=by
 obtain⟨oc,od,kV,doc,pm,an,eJ,ct,wY,T,o,n,rfl,lk,xr,lT,dT⟩:=F.ex;intro s us KI hl;have uD:us.length=2:=by
  have:(us++[Value.none]).length=3:=hl;rw [bB] at this;exact Nat.succ.inj this
 match us,uD with
 | [u1,u2],_=>exact BindsTo.of_defaults rfl (KI T o lT) dT rfl rfl
structure GC (K:a0)(C:Addr):Prop where
 cls:Eh K C
 a1:dX K C "rules"
 a2:dX K C "strengths"
 a3:dX K C "begin_table"
 a4:dX K C "standings"
 a5:dX K C "small_trees"
def StrIn (K:a0)(H:Hp)(sv:V)(ss:List Addr)(str:List au):Prop:=(sv=.gb/\ss=[]/\str=[])\/∃S,sv=.ref S/\aI K H S (ss.map V.ref)/\bT K H ss str
def U1 (H0 H:Hp)(Cg g:Addr)(rs ss:List Addr)(bt:Addr):Prop:=∃gx fs R2 S2,H g=some (.ins Cg gx fs)/\fs.lookup ("rules":Str)=some (.ref R2)/\fs.lookup ("strengths":Str)=some (.ref S2)/\fs.lookup ("begin_table":Str)=some (.ref bt)/\fs.lookup ("start":Str)=none /\
 H R2=some (.lst (rs.map V.ref))/\H S2=some (.lst (ss.map V.ref))/\H0 R2=none/\H0 S2=none
def qD (T1 T2 T3:Addr)(H H':Hp):Prop:=∀b o,b≠T1->b≠T2->b≠T3->H b=some o->H' b=some o
structure CF (T1 T2 T3:Addr)(H:Hp):Prop where
 t1:Tab T1 sX.2.2.2 zH H
 t2:Tab T2 AO.2.2.2 K5 H
 t3:Tab T3 posB Ic H
 K1:T1≠T2
 K0:T1≠T3
 KZ:T2≠T3
theorem CF.same {T1 T2 T3:Addr}{H H':Hp}(h:CF T1 T2 T3 H)(s:aE H H'):CF T1 T2 T3 H':=⟨h.t1.same s,h.t2.same s,h.t3.same s,h.K1,h.K0,h.KZ⟩
def CF.EJ {T1 T2 T3 a C dx:Addr}{H:Hp}{fs:List (Str×V)}{o:HO}(h:CF T1 T2 T3 H)(ha:H a=some (.ins C dx fs)):CF T1 T2 T3 (upd H a o):=⟨kY h.t1 ha,kY h.t2 ha,kY h.t3 ha,h.K1,h.K0,h.KZ⟩
def Kp.of3 {T1 T2 T3:Addr}{H H':Hp}(s:qD T1 T2 T3 H H')(t:CF T1 T2 T3 H):Kp H H':=λc o hc hn=>by
 obtain⟨TZ,b1,_⟩:=t.t1;obtain⟨Zw,b2,_⟩:=t.t2;obtain⟨ps3,b3,_⟩:=t.t3;exact s c o (λz=>by rw [z,b1] at hc;cases hc;exact hn _ rfl) (λz=>by rw [z,b2] at hc;cases hc;exact hn _ rfl) (λz=>by rw [z,b3] at hc;cases hc;exact hn _ rfl) hc
structure HY (K:a0)(C:Addr)(H:Hp)(a:Addr)(aa:List au)(aQ:List (Str×Nat))(a9:List Be):Prop where
 ia:∃dx fs e1 bg,H a=some (.ins C dx fs)/\fs.lookup ("empties":Str)=some (.ref e1)/\fs.lookup ("begins":Str)=some (.ref bg)/\(∃ts,H e1=some (.lst (ts.map V.ref))/\oW K H ts aQ) /\
  ∃ts,H bg=some (.lst (ts.map V.ref))/\Paired (λt (b:Be)=>aT K H t [.str b.1,.str b.2.1,.int (b.2.2.1:Int),.int (b.2.2.2:Int)]) ts a9
 emp:uj aa aQ
 lH:qO aa aa.length aQ
 Ht:uy aa (hd aa) (λz=>decide (z∈aQ.map (·.1))) a9
 zt:zE aa (hd aa) (λz=>decide (z∈aQ.map (·.1))) aa.length a9
 bs:∃e d bg kE ps,nP K C (λ_=>none) H a e d bg kE aQ ps a9/\ps.map (·.1)=hd aa/\∀z,(bj kE (Sum.inr z)).isSome=decide (z∈aQ.map (·.1))
def Bl {C a e d bg:Addr}{H0 H H':Hp}{kE:List (aM×V)}{aQ:List (Str×Nat)}{ps:List (Str×Addr)}{a9:List Be}(h:nP K C H0 H a e d bg kE aQ ps a9)(k1:∀dx fs,H a=some (.ins C dx fs)->H' a=some (.ins C dx fs))(k2:∀b xs,H b=some (.lst xs)->H' b=some (.lst xs))(k3:∀b xs,aT K H b xs->aT K H' b xs)(k4:∀b xs,H b=some (.dK xs)->H' b=some (.dK xs)):nP K C (λ_=>none) H' a e d bg kE aQ ps a9:=by
 refine⟨λ_ _ z=>(by cases z),?_,k4 _ _ h.he,k4 _ _ h.hd,h.n1,h.n2,λp hp=>?_,?_,rfl,?_⟩
 .obtain⟨dx,fs,q,r⟩:=h.ia;exact⟨dx,fs,k1 _ _ q,r⟩
 .obtain⟨⟨kvs,q,r⟩,t1,t2⟩:=h.dk p hp;exact⟨⟨kvs,k4 _ _ q,r⟩,rfl,t2⟩
 .obtain⟨ts,q,r⟩:=h.lb;exact⟨ts,k2 _ _ q,Paired.dY r λ_ _ z=>k3 _ _ z⟩
 obtain⟨e1,ts,⟨dx,fs,q1,q2⟩,q3,q4,q5⟩:=h.em;exact⟨e1,ts,⟨dx,fs,k1 _ _ q1,q2⟩,k2 _ _ q3,q4.keep k3,q5⟩
def HY.mv {C a:Addr}{H H':Hp}{aa:List au}{aQ:List (Str×Nat)}{a9:List Be}(h:HY K C H a aa aQ a9)(k1:∀dx fs,H a=some (.ins C dx fs)->H' a=some (.ins C dx fs))(k2:∀b xs,H b=some (.lst xs)->H' b=some (.lst xs))(k3:∀b xs,aT K H b xs->aT K H' b xs)(k4:∀b xs,H b=some (.dK xs)->H' b=some (.dK xs)):HY K C H' a aa aQ a9:=by
 obtain⟨dx,fs,e1,bg,q1,q2,q3,⟨t1,q4,q5⟩,t2,q6,q7⟩:=h.ia;refine⟨⟨dx,fs,e1,bg,k1 _ _ q1,q2,q3,⟨t1,k2 _ _ q4,q5.keep k3⟩,t2,k2 _ _ q6,Paired.dY q7 λ_ _ z=>k3 _ _ z⟩,h.emp,h.lH,h.Ht,h.zt,h.bs.elim λe bL=>?_⟩;obtain⟨d,bg,kE,ps,b,m,v⟩:=bL;exact⟨e,d,bg,kE,ps,Bl b k1 k2 k3 k4,m,v⟩
def HY.kp {C a:Addr}{H H':Hp}{aa:List au}{aQ:List (Str×Nat)}{a9:List Be}(h:HY K C H a aa aQ a9)(k:Kp H H'):HY K C H' a aa aQ a9:=h.mv (λ_ _ z=>k _ _ z (λ_ y=>by cases y)) (λ_ _ z=>k.lst z) (λ_ _ z=>k.tup z) λ_ _ z=>k _ _ z (λ_ y=>by cases y)
def HY.same {C a:Addr}{H H':Hp}{aa:List au}{aQ:List (Str×Nat)}{a9:List Be}(h:HY K C H a aa aQ a9)(k:aE H H'):HY K C H' a aa aQ a9:=h.kp (Kp.of k)
def Ov {C:Addr}{H0 H:Hp}{a e d bg:Addr}{kE:List (aM×V)}{aa:List au}{aQ:List (Str×Nat)}{ps:List (Str×Addr)}{a9:List Be}(h:nP K C H0 H a e d bg kE aQ ps a9)(emp:uj aa aQ)(lH:qO aa aa.length aQ)(Ht:uy aa (hd aa) (λz=>decide (z∈aQ.map (·.1))) a9)(zt:zE aa (hd aa) (λz=>decide (z∈aQ.map (·.1))) aa.length a9)(Ij:ps.map (·.1)=hd aa)(RL:∀z,(bj kE (Sum.inr z)).isSome=decide (z∈aQ.map (·.1))):HY K C H a aa aQ a9:=by
 obtain⟨dx,fs,q1,_,q3,_⟩:=h.ia;obtain⟨e1,t1,⟨Oj,rm,q4,q5⟩,q6,q7,_⟩:=h.em;obtain⟨t2,q8,q9⟩:=h.lb;rw [q1] at q4;cases q4;exact⟨⟨dx,fs,e1,bg,q1,q5,q3,⟨t1,q6,q7⟩,t2,q8,q9⟩,emp,lH,Ht,zt,e,d,bg,kE,ps,Bl h (λ_ _ z=>z) (λ_ _ z=>z) (λ_ _ z=>z) (λ_ _ z=>z),Ij,RL⟩
def BX (K:a0)(Cg C T1 T2 T3:Addr):Sp:=λvs H Q _=>∃(H0:Hp)(g gx R:Addr)(sv:V)(rs ss:List Addr)(aa str:List au)(rk:Str->Nat)(b:Str->Int),vs=[.ref g,.ref R,sv]/\aE H0 H/\H0 g=none/\H g=some (.ins Cg gx [])/\aI K H0 R (rs.map V.ref)/\bT K H0 rs aa/\aa.length < 64/\(∀ru∈aa,ru.2.length<=8)/\aa≠[] /\
 StrIn K H0 sv ss str/\str.length<=1000/\(∀ru∈str,ru.2.length<=8)/\(str.flatMap (·.2)).Nodup/\Good aa rk b/\CF T1 T2 T3 H0 /\
 ∀(bt:Addr)(H':Hp),qD T1 T2 T3 H0 H'->CF T1 T2 T3 H'->U1 H0 H' Cg g rs ss bt->(∃aQ a9,HY K C H' bt aa aQ a9)->Q .gb H'
def nP.EJ {C:Addr}{H0 H:Hp}{a e d bg:Addr}{kE:List (aM×V)}{aQ:List (Str×Nat)}{ps:List (Str×Addr)}{a9:List Be}{g Cg gx:Addr}{fs Ir:List (Str×V)}(h:nP K C H0 H a e d bg kE aQ ps a9)(hg:H0 g=some (.ins Cg gx fs))(na:a≠g) :
  nP K C (upd H0 g (.ins Cg gx Ir)) (upd H g (.ins Cg gx Ir)) a e d bg kE aQ ps a9:=by
 have JP:=h.sm _ _ hg;have up:∀c o,c≠g->H c=some o->upd H g (.ins Cg gx Ir) c=some o:=λc o n q=>by rw [ak n];exact q
 refine⟨λc o hc=>?_,?_,up _ _ (λz=>by have:=h.he;rw [z,JP] at this;cases this) h.he,up _ _ (λz=>by have:=h.hd;rw [z,JP] at this;cases this) h.hd,h.n1,h.n2,λp hp=>?_,?_,?_,?_⟩
 .by_cases z:c=g
  .rw [z,ae] at hc ⊢;exact hc
  rw [ak z] at hc ⊢;exact h.sm _ _ hc
 .obtain⟨dx,fs,q,r⟩:=h.ia;exact⟨dx,fs,up _ _ na q,r⟩
 .obtain⟨⟨kvs,q,r⟩,t1,t2⟩:=h.dk p hp;exact⟨⟨kvs,up _ _ (λz=>by rw [z,JP] at q;cases q) q,r⟩,by rw [ak (λz=>by rw [z,hg] at t1;cases t1)];exact t1,t2⟩
 .obtain⟨ts,q,r⟩:=h.lb;exact⟨ts,up _ _ (λz=>by rw [z,JP] at q;cases q) q,Paired.dY r λ_ _ z=>gW JP z⟩
 .have t1:=h.fb;rw [ak (λz=>by rw [z,hg] at t1;cases t1)];exact t1
 obtain⟨e1,ts,⟨dx,fs,q1,q2⟩,q3,q4,q5⟩:=h.em;exact⟨e1,ts,⟨dx,fs,up _ _ na q1,q2⟩,up _ _ (λz=>by rw [z,JP] at q3;cases q3) q3,q4.keep λ_ _ z=>gW JP z,q5⟩
def IW:aN ["self","rules","strengths"] ["self","rules","strengths"] (aA wM):=je rfl rfl rfl rfl nofun
def F3 {Cg C C3 T1 T2 T3 fB fL:Addr}{fdB fdL:FuncData}(F:HV K "__init__" "Grammar.__init__" wM f fd)(T:Txt mg)(G:GC K Cg)(GR:aG P w K mg base 6 "refuse_faults" ["rules","strengths"] (sr K T1 T2))(GS:aG P w K mg base 6 "standings_by_part" ["rules"] (KA K))
  (FB:bR P w K mg base fK 5 fB fdB ["self","rules"] (BZ K C))(MB:Mk K C fB)(BB:Binds K fdB ["self","rules"] [])(mB:mg "BeginTable"=some (.ref C))
  (FL:bR P w K mg base fK 5 fL fdL ["self","rules","begin_table"] (BV K C C3 T1 T3))(ML:Mk K C3 fL)(BL:Binds K fdL ["self","rules","begin_table"] [])(mL:mg "LeastTrees"=some (.ref C3)):bR P w K mg base fK 7 f fd ["self","rules","strengths"] (BX K Cg C T1 T2 T3):=by
 refine F.ok IW (λvs H Q E h=>?_) (λeJ A outer s H vs Q E hr h=>?_)
 .obtain⟨H0,g,gx,R,sv,rs,ss,aa,str,rk,b,rfl,_⟩:=h;rfl
 obtain⟨H0,g,gx,R,sv,rs,ss,aa,str,rk,b,rfl,s0,f0,eg,hR,cY,bM,h8,Eo,nO,WL,WT,WR,gd,Xp,q⟩:=h;refine⟨_,ai (gY (pv 0) (a7 g9 rfl T.lst g_ (ab (pv 1) aj)) rfl)
  (ai (e_ (gY (pv 0) (yu (f_ (MV (pv 2))) (bJ aj) (a7 g9 rfl T.lst g_ (ab (pv 2) aj))) rfl))
  (ai (cv (bK GR hr rfl (ab (dU (pv 0) rfl) (ab (dU (pv 0) rfl) aj))))
  (ai (gY (pv 0) (bK GS hr rfl (ab (dU (pv 0) rfl) aj)) rfl)
  (ai (gY (pv 0) (wX MB FB hr rfl mB BB .nil mq (ab (dU (pv 0) rfl) aj)) rfl)
  (ao (gY (pv 0) (wX ML FL hr rfl mL BL .nil mq (ab (dU (pv 0) rfl) (ab (dU (pv 0) rfl) aj))) rfl)))))),?_⟩
 nofun
 refine⟨_,rfl,R,_,rfl,.inl (s0.seq hR),λR2 Ip=>?_⟩;have XX:=af Ip (.lst (rs.map V.ref)) _ _ eg;have tP:upd H R2 (.lst (rs.map V.ref)) R2=some (.lst (rs.map V.ref)):=ae;have Zs:=s0.trans (af Ip (.lst (rs.map V.ref)));generalize upd H R2 (.lst (rs.map V.ref))=H1 at XX tP Zs;refine⟨_,rfl,g,Cg,gx,[],rfl,XX,G.cls,G.a1,(by show 0 < 1000;decide),?_⟩;generalize oG:dQ "rules" (.ref R2) []=rm;have Pk:upd H1 g (.ins Cg gx rm) R2=some (.lst (rs.map V.ref)):=by rw [ak (λz=>by rw [z,XX] at tP;cases tP)];exact tP
 have Fq:aE H0 (upd H1 g (.ins Cg gx rm)):=λc o hc=>by rw [ak (λz=>by rw [z,f0] at hc;cases hc)];exact Zs c o hc
 have UH:upd H1 g (.ins Cg gx rm) g=some (.ins Cg gx rm):=ae;generalize upd H1 g (.ins Cg gx rm)=H2 at Pk Fq UH;refine⟨λσ H3=>σ=[aF g,aF R,some sv]/\∃S2 fs,aE H0 H3/\H3 g=some (.ins Cg gx fs)/\fs=dQ "strengths" (.ref S2) rm/\H3 R2=some (.lst (rs.map V.ref))/\H3 S2=some (.lst (ss.map V.ref))/\H0 S2=none,?_,?_⟩
 .have fin:∀S2,H2 S2=none->(λH3=>∃S2 fs,aE H0 H3/\H3 g=some (.ins Cg gx fs)/\fs=dQ "strengths" (.ref S2) rm/\H3 R2=some (.lst (rs.map V.ref))/\H3 S2=some (.lst (ss.map V.ref))/\H0 S2=none) (upd (upd H2 S2 (.lst (ss.map V.ref))) g (.ins Cg gx (dQ "strengths" (.ref S2) rm)))/\upd H2 S2 (.lst (ss.map V.ref)) g=some (.ins Cg gx rm):=λS2 Io=>by
   have sl:=af Io (.lst (ss.map V.ref));have eS:upd H2 S2 (.lst (ss.map V.ref)) S2=some (.lst (ss.map V.ref)):=ae;have Sq:=sl _ _ UH;refine⟨⟨S2,_,λc o hc=>?_,ae,rfl,?_,?_,Fq.free Io⟩,Sq⟩
   .rw [ak (λz=>by rw [z,f0] at hc;cases hc)];exact sl _ _ (Fq c o hc)
   .rw [ak (λz=>by rw [z,UH] at Pk;cases Pk)];exact sl _ _ Pk
   rw [ak (λz=>by rw [z,UH] at Io;cases Io)];exact eS
  rcases nO with ⟨rfl,rfl,rfl⟩ | ⟨S,rfl,hS,Ua⟩
  .refine⟨_,rfl,_,rfl,?_⟩;refine Nu ?_;refine⟨uo,λS2 Io=>?_⟩;obtain⟨x1,x2⟩:=fin S2 Io;exact⟨_,rfl,g,Cg,gx,rm,rfl,x2,G.cls,G.a2,(by rw [<-oG];show 1 < 1000;decide),rfl,x1⟩
  refine⟨_,rfl,_,rfl,?_⟩;refine l7 ?_;refine⟨_,rfl,S,_,rfl,.inl (Fq.seq hS),λS2 Io=>?_⟩;obtain⟨x1,x2⟩:=fin S2 Io;exact⟨_,rfl,g,Cg,gx,rm,rfl,x2,G.cls,G.a2,(by rw [<-oG];show 1 < 1000;decide),rfl,x1⟩
 rintro σ H3 ⟨rfl,S2,Iq,CT,Sq,qK,er3,es3,fS2⟩;have ZW:Iq.lookup ("rules":Str)=some (.ref R2):=by rw [qK,<-oG];rfl
 have T7:Iq.lookup ("strengths":Str)=some (.ref S2):=by rw [qK,<-oG];rfl
 have WN:bT K H3 ss str:=by
  rcases nO with ⟨_,rfl,rfl⟩ | ⟨S,_,_,Ua⟩
  .exact .nil
  exact Ua.same CT
 have zF:=Xp.same CT;refine⟨_,rfl,g,Cg,gx,Iq,_,rfl,Sq,G.cls,G.a1,ZW,_,rfl,g,Cg,gx,Iq,_,rfl,Sq,G.cls,G.a2,T7,R2,S2,rs,ss,aa,str,rk,b,rfl,aI.of er3,cY.same CT,∅,h8,Eo,aI.of es3,WN,WL,WT,WR,gd,zF.t1,zF.t2,zF.K1,λH4 TN Zj Zi=>?_⟩;have JE:=Kp.of2 TN zF.t1 zF.t2;have t4:CF T1 T2 T3 H4:=⟨Zj,Zi,Tab.s2 zF.t3 TN zF.t1 zF.t2 zF.K0.symm zF.KZ.symm,zF.K1,zF.K0,zF.KZ⟩;have S04:qD T1 T2 T3 H0 H4:=λc o n1 n2 _ hc=>TN c o n1 n2 (CT c o hc);have eg4:=JE _ _ Sq (λ_ z=>by cases z);have er4:=JE.lst er3;have es4:=JE.lst es3;have Rz:bT K H4 rs aa:=JE.aa (cY.same CT);clear Zj Zi TN zF;refine⟨_,rfl,g,Cg,gx,Iq,_,rfl,eg4,G.cls,G.a1,ZW,R2,rs,aa,rfl,aI.of er4,Rz,∅,h8,λds H5 fds yn=>?_⟩;have Hh:=yn _ _ eg4;have er5:=yn _ _ er4;have es5:=yn _ _ es4;have WW:=Rz.same yn;have t5:=t4.same yn;have S05:qD T1 T2 T3 H0 H5:=λc o n1 n2 n3 hc=>yn _ _ (S04 c o n1 n2 n3 hc);refine⟨_,rfl,g,Cg,gx,Iq,rfl,Hh,G.cls,G.a4,(by rw [qK,<-oG];show 2 < 1000;decide),?_⟩;generalize xq:dQ "standings" (.ref ds) Iq=zK;have VU:∀{Hx:Hp}{fx fy:List (Str×V)},Hx g=some (.ins Cg gx fx)->qD T1 T2 T3 H0 Hx->qD T1 T2 T3 H0 (upd Hx g (.ins Cg gx fy)):=λ{Hx fx fy} hg hs c o n1 n2 n3 hc=>by
  rw [ak (λz=>by rw [z,f0] at hc;cases hc)];exact hs c o n1 n2 n3 hc
 have Ng:∀{Hx:Hp}{fx fy:List (Str×V)}{b:Addr}{xs:List V},Hx g=some (.ins Cg gx fx)->Hx b=some (.lst xs)->upd Hx g (.ins Cg gx fy) b=some (.lst xs):=λ{Hx fx fy b xs} hg hb=>by
  rw [ak (λz=>by rw [z,hg] at hb;cases hb)];exact hb
 have S06:=VU (fy:=zK) Hh S05;have XS:=Ng (fy:=zK) Hh er5;have es6:=Ng (fy:=zK) Hh es5;have NB:bT K (upd H5 g (.ins Cg gx zK)) rs aa:=WW.keep λ_ _ z=>gW Hh z;have t6:CF T1 T2 T3 (upd H5 g (.ins Cg gx zK)):=t5.EJ Hh;have Iv:upd H5 g (.ins Cg gx zK) g=some (.ins Cg gx zK):=ae;generalize upd H5 g (.ins Cg gx zK)=H6 at S06 XS es6 NB t6 Iv;have lk6:zK.lookup ("rules":Str)=some (.ref R2):=by rw [<-xq,qK,<-oG];rfl
 refine⟨_,rfl,g,Cg,gx,zK,_,rfl,Iv,G.cls,G.a1,lk6,λx dx hx hdx ndx=>?_⟩;have sx:aE H6 (upd (upd H6 dx (.own x)) x (.ins C dx [])):=(af hdx _).trans (af (by rw [ak ndx.symm];exact hx) _);refine⟨H6,x,dx,R2,rs,aa,rfl,sx,hx,ae,aI.of XS,NB,∅,h8,λe d bg kE aQ ps a9 H7 S7 m7 emp lH vE Ht zt=>⟨rfl,?_⟩⟩;have Pm:=S7.sm _ _ Iv;have er7:=S7.sm _ _ XS;have es7:=S7.sm _ _ es6;have t7:=t6.same S7.sm;have WV:=NB.same S7.sm;have S07:qD T1 T2 T3 H0 H7:=λc o n1 n2 n3 hc=>S7.sm _ _ (S06 c o n1 n2 n3 hc);refine⟨_,rfl,g,Cg,gx,zK,rfl,Pm,G.cls,G.a3,(by rw [<-xq,qK,<-oG];show 3 < 1000;decide),?_⟩;generalize A1:dQ "begin_table" (.ref x) zK=A6;have S08:=VU (fy:=A6) Pm S07;have XR:=Ng (fy:=A6) Pm er7;have es8:=Ng (fy:=A6) Pm es7;have Ry:bT K (upd H7 g (.ins Cg gx A6)) rs aa:=WV.keep λ_ _ z=>gW Pm z;have t8:CF T1 T2 T3 (upd H7 g (.ins Cg gx A6)):=t7.EJ Pm;have UG:upd H7 g (.ins Cg gx A6) g=some (.ins Cg gx A6):=ae;have B8:nP K C (upd H6 g (.ins Cg gx A6)) (upd H7 g (.ins Cg gx A6)) x e d bg kE aQ ps a9:=S7.EJ Iv (λz=>by rw [z,Iv] at hx;cases hx);generalize upd H7 g (.ins Cg gx A6)=H8 at S08 XR es8 Ry t8 UG B8;have OX:A6.lookup ("rules":Str)=some (.ref R2):=by rw [<-A1,<-xq,qK,<-oG];rfl
 have lb8:A6.lookup ("begin_table":Str)=some (.ref x):=by rw [<-A1,<-xq,qK,<-oG];rfl
 refine⟨_,rfl,g,Cg,gx,A6,_,rfl,UG,G.cls,G.a1,OX,_,rfl,g,Cg,gx,A6,_,rfl,UG,G.cls,G.a3,lb8,λy dy hy hdy ndy=>?_⟩;have sy:aE H8 (upd (upd H8 dy (.own y)) y (.ins C3 dy [])):=(af hdy _).trans (af (by rw [ak ndy.symm];exact hy) _);have Nm:=Ht.len ∅ h8;refine⟨H8,_,y,dy,R2,x,e,d,bg,rs,aa,kE,aQ,ps,a9,rfl,sy,hy,ae,aI.of XR,Ry,bM,h8,gd.least,B8,emp,Nm,t8.t1,t8.t3,t8.K0,λH9 VC Vt t39=>⟨rfl,?_⟩⟩;have JD:=Kp.of2 VC t8.t1 t8.t3;have LD:=JD _ _ UG (λ_ z=>by cases z);have er9:=JD.lst XR;have es9:=JD.lst es8;have t9:CF T1 T2 T3 H9:=⟨Vt,Tab.s2 t8.t2 VC t8.t1 t8.t3 t8.K1.symm t8.KZ,t39,t8.K1,t8.K0,t8.KZ⟩;have S09:qD T1 T2 T3 H0 H9:=λc o n1 n2 n3 hc=>VC _ _ n1 n3 (S08 c o n1 n2 n3 hc);refine⟨_,rfl,g,Cg,gx,A6,rfl,LD,G.cls,G.a5,(by rw [<-A1,<-xq,qK,<-oG];show 4 < 1000;decide),?_⟩;refine q x _ (VU LD S09) (t9.EJ LD) ⟨gx,_,R2,S2,ae,?_,?_,?_,?_,Ng LD er9,Ng LD es9,s0.free Ip,fS2⟩ ⟨aQ,a9,?_⟩
 .rw [<-A1,<-xq,qK,<-oG];rfl
 .rw [<-A1,<-xq,qK,<-oG];rfl
 .rw [<-A1,<-xq,qK,<-oG];rfl
 .rw [<-A1,<-xq,qK,<-oG];rfl
 have nxg:x≠g:=λz=>by rw [z,Iv] at hx;cases hx
 exact((Ov B8 emp lH Ht zt m7 vE).kp JD).mv (λ_ _ z=>by rw [ak nxg];exact z) (λ_ _ z=>Ng LD z) (λ_ _ z=>gW LD z) λb xs z=>by rw [ak (λy=>by rw [y,LD] at z;cases z)];exact z
end
def nN:List Str->Str->Nat
 | [],_=>0
 | a::r,x=>if a=x then 0 else nN r x+1
theorem nr:∀(l:List Str)(x:Str),x∈l->l[nN l x]?=some x
 | [],x,h=>by cases h
 | a::r,x,h=>by
  unfold nN;by_cases c:a=x
  .rw [aw c];exact congrArg some c
  rw [ax c];rcases bO.mp h with e | e
  .exact absurd e.symm c
  rw [List.getElem?_cons_succ];exact nr r x e
theorem lD:∀(l:List Str)(x:Str) (i:Nat),x∈l.take i->nN l x < i
 | [],x,i,h=>by simp at h
 | a::r,x,0,h=>by simp at h
 | a::r,x,i+1,h=>by
  unfold nN;by_cases c:a=x
  .rw [aw c];omega
  rw [ax c];rw [rR] at h;rcases bO.mp h with e | e
  .exact absurd e.symm c
  have:=lD r x i e;omega
def n_ {l:List Str}{x:Str}{i:Nat}(h:x∈l.take i):∃j,j < i/\l[j]?=some x:=by
 obtain⟨j,hj⟩:=fQ h;have lj:=(bh.mp hj).1;rw [d0] at lj;rw [rT ∅] at hj;exact⟨j,∅,hj⟩
def vm {aa:List au}{ru:au}(h:ru∈aa):ru.1∈hd aa:=(ik _ _ _).mpr (.inr (iO h))
def Ln {aa:List au}{x:Str}(h:x∈hd aa):∃ru∈aa,ru.1=x:=by
 rcases (ik _ _ _).mp h with h | h
 .cases h
 obtain⟨ru,a,b⟩:=bN.mp h;exact⟨ru,a,b⟩
def LA {aa:List au}{x:Str}(h:Em aa x):x∈hd aa:=by
 cases h with
 | mk h _=>exact vm h
def Bf {aa:List au}{aQ:List (Str×Nat)}(h:uj aa aQ):∀y∈aQ.map (·.1),Em aa y:=by
 induction h with
 | nil=>intro y hy;cases hy
 | @snoc aQ k ru _ e _ p ih =>
  intro y hy;rw [br] at hy;rcases bY.mp hy with h | h
  .exact ih y h
  rw [cg.mp h];exact .mk (cA e) λq hq=>ih q (p q hq)
def yJ {b:Str->Bool}{zs:List Str}{i j:Nat}{x:Str}(h:JA b zs j=true)(e:zs[i]?=some x)(n:i≠j):b x=true:=by
 cases hb:b x with
 | true=>rfl
 | false =>
  have li:=(bh.mp e).1;have m:((i:Nat):Int)∈Dz b zs zs.length:=by
   unfold Dz;exact bN.mpr ⟨i,gI.mpr ⟨iK.mpr li,by rw [e];show (!(b x))=true;rw [hb];rfl⟩,rfl⟩
  unfold JA at h;rcases Bool.or_eq_true_iff.mp h with h | h
  .rw [<-cI h] at m;cases m
  rw [<-cI h] at m;have:=cg.mp m;omega
theorem BE {f:Str->Int}{c:Int}:∀(ps:List Str),(∀x∈ps,f x<=c)->(ps.map f).sum<=ps.length * c
 | [],_=>by simp
 | p::r,h=>by
  have h1:=BE r λx hx=>h x (cu _ hx);have h2:=h p bQ;rw [cH,kI,dG];have:((r.length+1:Nat):Int) * c=(r.length:Int) * c+c:=by rw [Int.natCast_add,Int.add_mul];omega
  omega
structure Tc (aa:List au) (ns E M Pl:List Str):Prop where
 n3:ns.length<=3
 rh:∀ru∈aa,ru.1∈ns
 p3:∀ru∈aa,ru.2.length<=3
 eN:E.Nodup
 eNs:∀x∈E,x∈ns
 eO:∀(i:Nat)(h:Str),E[i]?=some h->∃cR,(h,cR)∈aa/\∀p∈cR,p∈E.take i\/p∉hd aa
 eA:∀h∈hd aa,h∈E
 mO:∀(i:Nat)(h:Str),M[i]?=some h->(∃hX,aa[0]?=some hX/\h=hX.1)\/∃ru∈aa,ru.1∈M.take i/\h∈ru.2
 mA:∀h∈hd aa,h∈M
 lN:Pl.Nodup
 lNs:∀x∈Pl,x∈ns
 lO:∀(i:Nat)(h:Str),Pl[i]?=some h->∀ru∈aa,ru.1=h->∀(j:Nat)(z:Str),ru.2[j]?=some z->z∈hd aa->(∀(k:Nat)(y:Str),k≠j->ru.2[k]?=some y->Em aa y)->z∈Pl.take i
 lA:∀h∈hd aa,h∈Pl
def b3:Nat->Int
 | 0=>1
 | 1=>4
 | _=>13
def c3:Nat->Int
 | 0=>0
 | 1=>1
 | _=>4
def LP {i j:Nat}(hi:i < 3)(h:j < i):b3 j<=c3 i:=by
 have:∀i:Nat,i < 3->∀j:Nat,j < i->b3 j<=c3 i:=by decide
 exact this i hi j h
def SI {i:Nat}:1+3 * c3 i=b3 i:=by
 match i with
 | 0=>rfl
 | 1=>rfl
 | _+2=>rfl
def LM {i:Nat}:0<=c3 i:=by
 match i with
 | 0=>decide
 | 1=>decide
 | _+2=>exact(by decide:(0:Int)<=4)
def Hu {i:Nat}:0<=b3 i/\b3 i<=60:=by
 match i with
 | 0=>decide
 | 1=>decide
 | _+2=>exact(by decide:(0:Int)<=13/\(13:Int)<=60)
def KG {f:Str->Int}{i:Nat}{ps:List Str}(h3:ps.length<=3)(h:∀x∈ps,f x<=c3 i):1+(ps.map f).sum<=b3 i:=by
 have h1:=BE ps h;have h2:(ps.length:Int) * c3 i<=3 * c3 i:=Int.mul_le_mul_of_nonneg_right ∅ LM;have:=@SI i;omega
def bP (Pl:List Str)(x:Str):Int:=if x∈Pl then b3 (nN Pl x) else 0
def Tc.good {aa:List au}{ns E M Pl:List Str}(O:Tc aa ns E M Pl):Good aa (nN Pl) (bP Pl) where
 least g st se:=by
  have le3:E.length<=3:=eK (gK E ns O.eN O.eNs) O.n3;have aW:∀x,x∉hd aa->∀ru∈aa,x∈ru.2->g x=some 0:=by
   intro x nn ru fZ hm;refine dM.keep (J:=λg=>g x=some 0) (λg I0 j h2 _=>?_) st ?_
   .show dw g I0.1 _ x=some 0;unfold dw;have:x≠I0.1:=λz=>nn (z ▸ vm h2);rw [ax this];exact j
   show xt aa x=some 0;unfold xt;rw [aw (qP _ _ _ _ (.inr ⟨mh.mpr ⟨ru,fZ,hm⟩,nn⟩))]
  have key:∀(n i:Nat),i < n->∀h:Str,E[i]?=some h->∃m,g h=some m/\m<=b3 i:=by
   intro n
   induction n with
   | zero=>intro i hi;omega
   | succ n ih =>
    intro i hi h e;have li:=(bh.mp e).1;obtain⟨ps,hm,hp⟩:=O.eO i h e;have hv:∀p∈ps,∃m,g p=some m/\m<=c3 i:=λp uC=>by
     rcases hp p uC with h1 | h1
     .obtain⟨j,lj,ej⟩:=n_ h1;obtain⟨m,e1,e2⟩:=ih j ∅ p ej;exact⟨m,e1,o5 e2 (LP ∅ lj)⟩
     exact⟨0,aW p h1 _ hm uC,LM⟩
    have hs:=se _ hm;unfold cO at hs;have a1:kx g (h,ps)=true:=dP.mpr λp hp=>by obtain⟨m,e1,_⟩:=hv p hp;show (g p).isSome=true;rw [e1];rfl
    have s0:aH g (h,ps)<=b3 i:=by
     unfold aH;exact KG (O.p3 _ hm) λp hp=>by obtain⟨m,e1,e2⟩:=hv p hp;show (g p).getD 0<=_;rw [e1];exact e2
    rw [a1,jk] at hs;cases gn:g h with
    | none=>rw [show g (h,ps).1=none from gn] at hs;cases hs
    | some m =>
     rw [show g (h,ps).1=some m from gn] at hs;refine⟨m,rfl,?_⟩;have:¬aH g (h,ps) < m:=by simpa [M11.bl] using hs
     omega
  intro h hh;obtain⟨i,hi⟩:=fQ (O.eA h hh);obtain⟨m,e1,e2⟩:=key (i+1) i ∅ h hi;exact⟨m,e1,o5 e2 Hu.2⟩
 met hX ms e0 h0 mc:=by
  have key:∀(n i:Nat),i < n->∀h:Str,M[i]?=some h->h∈ms:=by
   intro n
   induction n with
   | zero=>intro i hi;omega
   | succ n ih =>
    intro i hi h e;rcases O.mO i h e with ⟨r0,e1,e2⟩ | ⟨ru,fZ,h1,h2⟩
    .rw [e0] at e1;cases e1;rw [e2];exact h0
    obtain⟨j,lj,ej⟩:=n_ h1;exact mc ru (by rw [cC];exact fZ) (ih j ∅ _ ej) h h2
  intro h hh;obtain⟨i,hi⟩:=fQ (O.mA h hh);exact key (i+1) i ∅ h hi
 loop:=by
  rintro aQ emp lH n k j ⟨hX,z0,e1,e2,e3,e4,e5⟩ ru z er ez;rw [er] at e1;obtain rfl:ru=hX:=gi e1;rw [ez] at e3;obtain rfl:z=z0:=gi e3;have fZ:=cA er;have hn:n∈Pl:=O.lA n (e2 ▸ vm fZ);refine lD Pl z _ (O.lO _ n (nr Pl n hn) ru fZ e2 j z ez e4 λk' y nk ey=>?_);have:=yJ e5 ey nk;exact Bf emp y (cI this)
 bnd:=by
  refine⟨λz=>?_,λru fZ Lm=>?_⟩
  .unfold bP
   split
   .exact Hu.1
   decide
  have hn:ru.1∈Pl:=O.lA _ (vm fZ);have li:=(bh.mp (nr Pl ru.1 hn)).1;have le3:Pl.length<=3:=eK (gK Pl ns O.lN O.lNs) O.n3;have e:bP Pl ru.1=b3 (nN Pl ru.1):=aw hn;rw [e];refine KG (O.p3 ru fZ) λp hp=>?_;obtain⟨j,ej⟩:=fQ hp;have ht:=O.lO _ ru.1 (nr Pl ru.1 hn) ru fZ rfl j p ej (LA (Lm p hp)) λk' y _ ey=>Lm y (cA ey);have e2:bP Pl p=b3 (nN Pl p):=aw (rE ht);rw [e2];exact LP ∅ (lD Pl p _ ht)
 most h hh:=by
  unfold bP
  split
  .exact Hu.2
  decide
end ig
namespace M11
open PySem
def d6 (aW:Bool) (a8 e:List Str)(ru:au):List Str:=if ((ru.2.all λp=>decide (p∈e) || (aW && !decide (p∈a8))) && !decide (ru.1∈e))=true then e++[ru.1] else e
def hZ (aW:Bool) (a8 e:List Str)(aa:List au):List Str:=aa.foldl (d6 aW a8) e
def passes {α:Type}(f:α->α):Nat->α->α
 | 0,a=>a
 | n+1,a=>f (passes f n a)
def bV (aW:Bool)(aa:List au):List Str:=passes (λe=>hZ aW (aa.map (·.1)) e aa) aa.length []
structure EO (aW:Bool) (a8:List Str)(aa:List au) (e:List Str):Prop where
 nd:e.Nodup
 ord:∀(i:Nat)(h:Str),e[i]?=some h->∃cR,(h,cR)∈aa/\∀p∈cR,p∈e.take i\/(aW=true/\p∉a8)
def EO.step {aW:Bool}{a8:List Str}{aa:List au}{e:List Str}(h:EO aW a8 aa e){ru:au}(hr:ru∈aa):EO aW a8 aa (d6 aW a8 e ru):=by
 unfold d6
 split
 .rename_i c
  obtain⟨c1,c2⟩:=iB.mp c;have c2':ru.1∉e:=by simpa using c2
  refine⟨jv.mpr ⟨h.nd,by simp,λa ha b hb z=>c2' (by rw [<-cg.mp hb,<-z];exact ha)⟩,λi x hx=>?_⟩;by_cases l:i < e.length
  .rw [qo l] at hx;obtain⟨cR,a,b⟩:=h.ord i x hx;refine⟨cR,a,λp hp=>?_⟩;rw [qp ∅];exact b p hp
  have li:=(bh.mp hx).1;rw [bB,fS] at li;have:i=e.length:=by omega
  subst this;rw [nX (aK _),Nat.sub_self] at hx;cases hx;refine⟨ru.2,hr,λp hp=>?_⟩;rw [qp (aK _),cC];have:=dP.mp c1 p hp;simp only [Bool.or_eq_true,decide_eq_true_eq,mf,Bool.not_eq_true',decide_eq_false_iff_not] at this;exact this
 exact h
theorem EO.pass {aW:Bool}{a8:List Str}{aa:List au}:∀(rs:List au){e:List Str},(∀ru∈rs,ru∈aa)->EO aW a8 aa e->EO aW a8 aa (rs.foldl (d6 aW a8) e)
 | [],_,_,h=>h
 | ru::rs,_,hs,h=>EO.pass rs (λr hr=>hs r (cu _ hr)) (h.step (hs ru bQ))
def iY (aW:Bool)(aa:List au):EO aW (aa.map (·.1)) aa (bV aW aa):=by
 have:∀n,EO aW (aa.map (·.1)) aa (passes (λe=>hZ aW (aa.map (·.1)) e aa) n []):=by
  intro n
  induction n with
  | zero=>exact⟨iA,λi h e=>by cases e⟩
  | succ n ih=>exact EO.pass aa (λ_ h=>h) ih
 exact this _
def uT (aW:Bool) (a8 e:List Str)(ru:au):d6 aW a8 e ru=e\/e.length < (d6 aW a8 e ru).length:=by
 unfold d6
 split
 .right;simp
 left;rfl
theorem yU (aW:Bool) (a8:List Str):∀(rs:List au) (e:List Str),e.length<=(rs.foldl (d6 aW a8) e).length
 | [],_=>aK _
 | ru::rs,e=>by
  have h1:=yU aW a8 rs (d6 aW a8 e ru);have h2:=uT aW a8 e ru;show _<=(rs.foldl (d6 aW a8) (d6 aW a8 e ru)).length;rcases h2 with h | h
  .rw [h] at h1 ⊢;exact h1
  omega
theorem tL (aW:Bool) (a8:List Str):∀(rs:List au) (e:List Str),(rs.foldl (d6 aW a8) e=e/\∀ru∈rs,d6 aW a8 e ru=e)\/e.length < (rs.foldl (d6 aW a8) e).length
 | [],_=>.inl ⟨rfl,λ_ h=>by cases h⟩
 | ru::rs,e=>by
  show (rs.foldl (d6 aW a8) (d6 aW a8 e ru)=e/\_)\/_ < (rs.foldl (d6 aW a8) (d6 aW a8 e ru)).length;rcases uT aW a8 e ru with h | h
  .rw [h];rcases tL aW a8 rs e with ⟨a,b⟩ | c
   .refine .inl ⟨a,λr hr=>?_⟩;rcases bO.mp hr with rfl | hr
    .exact h
    exact b r hr
   exact .inr c
  right;have:=yU aW a8 rs (d6 aW a8 e ru);omega
theorem gE:∀(l m:List Str),l.Nodup->(∀z∈l,z∈m)->l.length<=m.length
 | [],m,_,_=>fj _
 | x::r,m,hn,hs=>by
  have hx:=hs x bQ;have GU:=iL.mp hn;have:=gE r (m.erase x) GU.2 λz hz=>(List.mem_erase_of_ne (λe=>GU.1 (by rw [<-e];exact hz))).mpr (hs z (cu _ hz));rw [zT hx] at this;have:0 < m.length:=zN hx;rw [dG];omega
def EO.sub {aW:Bool}{a8:List Str}{aa:List au}{e:List Str}(h:EO aW a8 aa e):∀x∈e,x∈aa.map (·.1):=λx hx=>by
 obtain⟨i,hi⟩:=fQ hx;obtain⟨cR,a,_⟩:=h.ord i x hi;exact bN.mpr ⟨_,a,rfl⟩
def DG (aW:Bool)(aa:List au):∀ru∈aa,d6 aW (aa.map (·.1)) (bV aW aa) ru=bV aW aa:=by
 have eo:∀n,EO aW (aa.map (·.1)) aa (passes (λe=>hZ aW (aa.map (·.1)) e aa) n []):=by
  intro n
  induction n with
  | zero=>exact⟨iA,λi h e=>by cases e⟩
  | succ n ih=>exact EO.pass aa (λ_ h=>h) ih
 have key:∀n,(passes (λe=>hZ aW (aa.map (·.1)) e aa) (n+1) []=passes (λe=>hZ aW (aa.map (·.1)) e aa) n []/\∀ru∈aa,d6 aW (aa.map (·.1)) (passes (λe=>hZ aW (aa.map (·.1)) e aa) n []) ru=passes (λe=>hZ aW (aa.map (·.1)) e aa) n [])\/n < (passes (λe=>hZ aW (aa.map (·.1)) e aa) (n+1) []).length:=by
  intro n
  induction n with
  | zero =>
   rcases tL aW (aa.map (·.1)) aa [] with h | h
   .exact .inl h
   exact .inr h
  | succ n ih =>
   rcases ih with ⟨a,b⟩ | c
   .left;rw [show passes (λe=>hZ aW (aa.map (·.1)) e aa) (n+1+1) []=hZ aW (aa.map (·.1)) (passes (λe=>hZ aW (aa.map (·.1)) e aa) (n+1) []) aa from rfl,a];exact⟨a,b⟩
   rcases tL aW (aa.map (·.1)) aa (passes (λe=>hZ aW (aa.map (·.1)) e aa) (n+1) []) with h | h
   .exact .inl h
   right;have h2:(passes (λe=>hZ aW (aa.map (·.1)) e aa) (n+1) []).length < (passes (λe=>hZ aW (aa.map (·.1)) e aa) (n+1+1) []).length:=h;omega
 rcases key aa.length with ⟨_,b⟩ | c
 .exact b
 have e1:=eo (aa.length+1);have:=gE _ _ e1.nd e1.sub;rw [ar] at this;omega
def xB {aW:Bool}{aa:List au}{ru:au}(hr:ru∈aa)(h:∀p∈ru.2,p∈bV aW aa\/(aW=true/\p∉aa.map (·.1))):ru.1∈bV aW aa:=by
 have:=DG aW aa ru hr;unfold d6 at this;by_cases c:ru.1∈bV aW aa
 .exact c
 rw [aw] at this
 .have:=congrArg List.length this;rw [bB] at this;simp at this
 refine iB.mpr ⟨dP.mpr λp hp=>?_,by simpa using c⟩;simp only [Bool.or_eq_true,decide_eq_true_eq,mf,Bool.not_eq_true',decide_eq_false_iff_not];exact h p hp
def tR {aa:List au}{x:Str}(h:Em aa x):x∈bV false aa:=by
 induction h with
 | mk hr _ ih=>exact xB hr λp hp=>.inl (ih p hp)
end M11
namespace ig
open PySem L2 M11
abbrev Fm:Stmt:=top 41
abbrev Ai:Stmt:=top 42
abbrev wJ:Stmt:=top 43
abbrev wQ:Stmt:=top 44
abbrev E_:Stmt:=top 45
abbrev Fe:Stmt:=top 46
abbrev Am:Stmt:=top 47
abbrev Fi:Stmt:=top 49
abbrev Fh:Stmt:=top 50
abbrev E9:Stmt:=top 48
def US {zs:List Str}{m:Int}(h:(zs.length:Int)=m)(hm:0 < m) (n:Int):∃z∈zs,ux (zs.map V.str) (n % m)=some (.str z):=by
 subst h;have h1:=Int.emod_lt_of_pos n hm;have h2:=Int.emod_nonneg n (show (zs.length:Int)≠0 by omega);have l:(n % (zs.length:Int)).toNat < zs.length:=by omega
 have e:n % (zs.length:Int)=(((n % (zs.length:Int)).toNat:Nat):Int):=by omega
 refine⟨zs[(n % (zs.length:Int)).toNat],qj l,?_⟩;have t:ux (zs.map V.str) (((n % (zs.length:Int)).toNat:Nat):Int)=some (.str zs[(n % (zs.length:Int)).toNat]):=dO (by rw [bf,cT l];rfl);rw [<-e] at t;exact t
def yt {α:Type}(i:Nat)(x y z:α):α:=match i with | 0=>x | 1=>y | _=>z
def Q0 {H:Hp}{L1 L2 L3 LL:Addr}{xs ys zs:List V}(h1:H L1=none)(h2:upd H L1 (.lst xs) L2=none)(h3:upd (upd H L1 (.lst xs)) L2 (.lst ys) L3=none)
  (h4:upd (upd (upd H L1 (.lst xs)) L2 (.lst ys)) L3 (.lst zs) LL=none):aE H (upd (upd (upd (upd H L1 (.lst xs)) L2 (.lst ys)) L3 (.lst zs)) LL (.lst [.ref L1,.ref L2,.ref L3]))/\∀i:Nat,i < 3->∃Li,ux [V.ref L1,V.ref L2,V.ref L3] (i:Int)=some (.ref Li)/\H Li=none /\
   upd (upd (upd (upd H L1 (.lst xs)) L2 (.lst ys)) L3 (.lst zs)) LL (.lst [.ref L1,.ref L2,.ref L3]) Li=some (.lst (yt i xs ys zs)):=by
 have s1:=af h1 (.lst xs);have s2:=af h2 (.lst ys);have s3:=af h3 (.lst zs);have s4:=af h4 (.lst [.ref L1,.ref L2,.ref L3]);refine⟨s1.trans (s2.trans (s3.trans s4)),λi hi=>?_⟩
 match i,hi with
 | 0,_=>exact⟨L1,rfl,h1,s4 _ _ (s3 _ _ (s2 _ _ ae))⟩
 | 1,_=>exact⟨L2,rfl,s1.free h2,s4 _ _ (s3 _ _ ae)⟩
 | 2,_=>exact⟨L3,rfl,s1.free (s2.free h3),s4 _ _ ae⟩
def Ce (i:Nat):List Str:=yt i ["s","t","u","w","v"] ["b","aa","k","bb","e"] ["a","ab","n","d","aba"]
def Tw (i:Nat):List Str:=yt i ["a","b","c"] ["ab","a","c"] ["b","+","ba"]
def Jx (i:Nat):yt i [V.str "s",V.str "t",V.str "u",V.str "w",V.str "v"] [V.str "b",V.str "aa",V.str "k",V.str "bb",V.str "e"] [V.str "a",V.str "ab",V.str "n",V.str "d",V.str "aba"]=(Ce i).map V.str:=by
 match i with
 | 0=>rfl
 | 1=>rfl
 | _+2=>rfl
def IJ (i:Nat):yt i [V.str "a",V.str "b",V.str "c"] [V.str "ab",V.str "a",V.str "c"] [V.str "b",V.str "+",V.str "ba"]=(Tw i).map V.str:=by
 match i with
 | 0=>rfl
 | 1=>rfl
 | _+2=>rfl
def Nc (i:Nat):(Ce i).length=5:=by
 match i with
 | 0=>rfl
 | 1=>rfl
 | _+2=>rfl
def Ma (i:Nat):(Tw i).length=3:=by
 match i with
 | 0=>rfl
 | 1=>rfl
 | _+2=>rfl
def Gd (i:Nat):∀z∈Ce i,z.length<=3:=by
 match i with
 | 0=>decide +kernel
 | 1=>decide +kernel
 | n+2=>exact(by decide +kernel:∀z∈Ce 2,z.length<=3)
def CU {j:Nat}(h:j < 3):(wV "y" j).length<=2:=by
 match j,h with
 | 0,_=>decide +kernel
 | 1,_=>decide +kernel
 | 2,_=>decide +kernel
section
def cellAt (ns:List Int) (k:Nat):Int:=(ns[k]?).getD 0
def pN (K:a0):Sp:=λvs H Q _=>∃(a:Addr)(ns:List Int) (k:Nat),vs=[.ref a,.int (k:Int)]/\aI K H a (ns.map V.int)/\ns.length<=1000/\∀n:Int,n=cellAt ns k->Q (.int n) H
def Mr:aN ["_law_script","_law_k"] ["_law_script","_law_k"] (aA Fm):=je rfl rfl rfl rfl nofun
def Ju (F:iG K "_law_cell_at" "_law_cell_at" Fm f fd)(T:Txt mg):bR P w K mg base fK 1 f fd ["_law_script","_law_k"] (pN K):=by
 refine F.ok Mr (λvs H Q E h=>?_) (λeJ A outer s H vs Q E hr h=>?_)
 .obtain⟨a,ns,k,rfl,_⟩:=h;rfl
 obtain⟨a,ns,k,rfl,hS,hn,q⟩:=h;refine⟨_,ai (cy (bu qv (pv 1) (aR bH rfl T.len gT (ab (pv 0) aj)) (cM _)) (ao (bC (b9 cX (pv 0) (pv 1) (λ_ _=>rfl)))) aZ) (ao (bC av)),?_⟩;refine⟨_,rfl,_,rfl,a,_,rfl,.inl hS,_,_,rfl,rfl,_,rfl,?_⟩;refine cx (λcc=>?_) (λcc=>q 0 ?_)
 rotate_left
 .have ge:¬((k:Int) < ((ns.map V.int).length:Int)):=λz=>cc (cU z);rw [ar] at ge;unfold cellAt;rw [ql ∅];rfl
 have lt:=cI cc;rw [ar] at lt;have lt':k < ns.length:=by omega
 refine⟨_,rfl,_,rfl,a,_,_,.int ns[k],rfl,rfl,hS,dO (by rw [bf,cT lt'];rfl),q _ (by unfold cellAt;rw [cT lt'];rfl)⟩
def oj:Sp:=λvs H Q _=>∃(c:Int) (m:Nat)(S:Addr) (zs:List Str),vs=[.int c,.int (m:Int),.ref S]/\m<=100/\H S=some (.lst (zs.map V.str))/\0 < zs.length/\zs.length<=1000/\∀(p:Addr) (ps:List Str)(H':Hp),aE H H'->H' p=some (.tup (ps.map V.str))->ps.length=m->(∀x∈ps,x∈zs)->Q (.ref p) H'
def jz:aN ["_law_cell","_law_many","_law_some","_law_parts","_law_seed","_law_k"] ["_law_cell","_law_many","_law_some"] (aA wQ):=je rfl rfl rfl rfl nofun
def C6 (F:iG K "_law_digits" "_law_digits" wQ f fd)(T:Txt mg):bR P w K mg base fK 1 f fd ["_law_cell","_law_many","_law_some"] oj:=by
 refine F.ok jz (λvs H Q E h=>?_) (λeJ A outer s H vs Q E hr h=>?_)
 .obtain⟨c,m,S,zs,rfl,_⟩:=h;rfl
 obtain⟨c,m,S,zs,rfl,hm,hS,hz0,hz1,q⟩:=h;refine⟨_,ai (aC (i:=3) jz.nd rfl (a_ rfl) (bJ aj))
  (ai (aC (i:=4) jz.nd rfl (a_ rfl) (aL d_ (aL cS (pv 0) av) av))
  (ai (bD b8 rfl (iI rfl T.Fw (ab (pv 1) aj)) (aq (i:=5) jz.nd rfl (a_ rfl))
   (ao (cy (bu FQ (pv 0) av (cM _))
    (ai (cv (fY fU fV fX bA (pv 3) (ab (b9 cX (pv 2) (aL cS (aL FO (pv 0) av) (aR bH rfl T.len gT (ab (pv 2) aj))) (λ_ _=>rfl)) aj)))
    (ao (aC (i:=0) jz.nd rfl (a_ rfl) (aL cW (aL FO (pv 0) av) (aR bH rfl T.len gT (ab (pv 2) aj))))))
    (ai (aC (i:=4) jz.nd rfl (a_ rfl) (aL cS (aL MZ (pv 4) av) av))
    (ao (cv (fY fU fV fX bA (pv 3) (ab (b9 cX (pv 2) (aL cS (aL cW (pv 4) av) (aR bH rfl T.len gT (ab (pv 2) aj))) (λ_ _=>rfl)) aj))))))))
  (ao (bC (a7 jo rfl T.tup zQ (ab (pv 3) aj)))))),?_⟩
 have Rn:(0:Int) < (zs.length:Int):=by omega
 refine⟨uo,λL hL=>?_⟩;have hS1:=af hL (.lst []) _ _ hS;have nS:S≠L:=λz=>by rw [z,hL] at hS;cases hS
 refine⟨_,rfl,_,_,rfl,rfl,(by show (0:Int) < 2147483647;decide),_,_,rfl,rfl,?_⟩;refine⟨_,rfl,(m:Int),rfl,∅,∅,?_⟩;rw [hU m];refine iJ (n:=m) (λi σ H2=>∃(c2 c4:Int)(k2:Option V) (ps:List Str),σ=[some (.int c2),some (.int (m:Int)),aF S,aF L,some (.int c4),k2]/\H2=upd H L (.lst (ps.map V.str))/\ps.length=i/\∀x∈ps,x∈zs) ⟨c,_,none,[],rfl,rfl,rfl,λ_ h=>(by cases h)⟩ ?_ ?_
 .rintro i σ H2 hi ⟨c2,c4,k2,ps,rfl,rfl,hp,uC⟩;have eS:upd H L (.lst (ps.map V.str)) S=some (.lst (zs.map V.str)):=by rw [ak nS];exact hS
  refine goN ?_;refine⟨_,rfl,_,_,rfl,rfl,_,rfl,?_⟩;refine cx (λ_=>?_) (λ_=>?_)
  .obtain⟨z,Rm,ez⟩:=US (zs:=zs) rfl Rn (c2 - 1);refine⟨_,rfl,.inl ⟨rfl,_,aI.of ae⟩,_,rfl,_,rfl,_,_,rfl,rfl,_,rfl,S,_,rfl,.inl (aI.of eS),_,_,rfl,rfl,(by rw [ar];exact Rn),?_⟩;rw [ar];refine⟨S,_,_,_,rfl,rfl,aI.of eS,ez,L,_,_,rfl,rfl,ae,bq (by rw [ar];omega),?_⟩;rw [n6];have eS2:upd H L (.lst (ps.map V.str++[.str z])) S=some (.lst (zs.map V.str)):=by rw [ak nS];exact hS
   refine⟨_,rfl,_,_,rfl,rfl,_,rfl,S,_,rfl,.inl (aI.of eS2),_,_,rfl,rfl,(by rw [ar];exact⟨Rn,by show (zs.length:Int) < 1073741824;omega⟩),?_⟩;rw [ar];exact⟨_,_,_,ps++[z],rfl,by rw [br];rfl,by rw [bB,hp];rfl,λx hx=>(bY.mp hx).elim (uC x) λh=>(cg.mp h) ▸ Rm⟩
  refine⟨_,rfl,_,_,rfl,rfl,.inr ⟨nofun,nofun⟩,_,_,rfl,rfl,(by show (0:Int) < 2147483647;decide),?_⟩;obtain⟨z,Rm,ez⟩:=US (zs:=zs) rfl Rn (c4 * 48271 % 2147483647 / 3);refine⟨_,rfl,.inl ⟨rfl,_,aI.of ae⟩,_,rfl,_,rfl,_,_,rfl,rfl,⟨nofun,nofun⟩,_,rfl,S,_,rfl,.inl (aI.of eS),_,_,rfl,rfl,(by rw [ar];exact Rn),?_⟩;rw [ar];refine⟨S,_,_,_,rfl,rfl,aI.of eS,ez,L,_,_,rfl,rfl,ae,bq (by rw [ar];omega),?_⟩;rw [n6];exact⟨_,_,_,ps++[z],rfl,by rw [br];rfl,by rw [bB,hp];rfl,λx hx=>(bY.mp hx).elim (uC x) λh=>(cg.mp h) ▸ Rm⟩
 rintro σ H2 ⟨c2,c4,k2,ps,rfl,rfl,hp,uC⟩;refine⟨_,rfl,L,_,rfl,.inl ⟨aI.of ae,λp tD=>?_⟩⟩;exact q p ps _ ((af hL _).trans (af tD _)) ae hp uC
def i3 (c:Int):Nat:=(c / 72 % 3).toNat
def j3 (c:Int):Nat:=(c / 3 % 3).toNat
def Lg (c:Int):i3 c < 3/\c / 72 % 3=(i3 c:Int):=by unfold i3;omega
def Rg (c:Int):j3 c < 3/\c / 3 % 3=(j3 c:Int):=by unfold j3;omega
def gh (c:Int):List Str:=Tw (i3 c)
def j_ (c:Int):(gh c).length=3:=Ma _
def T4 (i j:Nat):List Str:=(Ce i).map λz=>z++wV "y" j
def Ge {i j:Nat}(hi:i < 3)(hj:j < 3):(T4 i j).Nodup/\∀x∈T4 i j,x∉Tw i:=by
 match i,hi,j,hj with
 | 0,_,0,_=>decide +kernel
 | 0,_,1,_=>decide +kernel
 | 0,_,2,_=>decide +kernel
 | 1,_,0,_=>decide +kernel
 | 1,_,1,_=>decide +kernel
 | 1,_,2,_=>decide +kernel
 | 2,_,0,_=>decide +kernel
 | 2,_,1,_=>decide +kernel
 | 2,_,2,_=>decide +kernel
structure Te (c:Int) (nms:List Str):Prop where
 nd:nms.Nodup
 dj:∀x∈nms,x∉gh c
 one:1<=nms.length
 JX:nms.length<=5
def BR:Sp:=λvs H Q _=>∃(c:Int),vs=[.int c]/\∀(N:Addr) (nms:List Str)(H':Hp),H N=none->aE H H'->H' N=some (.lst (nms.map V.str))->Te c nms->Q (.ref N) H'
def qV:aN ["_law_cell","_law_some","_law_many"] ["_law_cell"] (aA Ai):=je rfl rfl rfl rfl nofun
def FX (F:iG K "_law_names" "_law_names" Ai f fd)(T:Txt mg):bR P w K mg base fK 1 f fd ["_law_cell"] BR:=by
 refine F.ok qV (λvs H Q E h=>?_) (λeJ A outer s H vs Q E hr h=>?_)
 .obtain⟨c,rfl,_⟩:=h;rfl
 obtain⟨c,rfl,q⟩:=h;refine⟨_,@ai _ _ _ _ _ (@aC _ _ 1 _ _ _ _ qV.nd rfl (a_ rfl) (@b9 _ _ _ _ _ _ _ cX (@bJ _ _ _ _ (@ab _ _ _ _ _ (@bJ _ _ _ _ (@ab _ _ _ _ _ (@bw _ _ _ _) (@ab _ _ _ _ _ (@bw _ _ _ _) (@ab _ _ _ _ _ (@bw _ _ _ _) (@ab _ _ _ _ _ (@bw _ _ _ _) (@ab _ _ _ _ _ (@bw _ _ _ _) (@aj _) rfl) rfl) rfl) rfl) rfl)) (@ab _ _ _ _ _ (@bJ _ _ _ _ (@ab _ _ _ _ _ (@bw _ _ _ _) (@ab _ _ _ _ _ (@bw _ _ _ _) (@ab _ _ _ _ _ (@bw _ _ _ _) (@ab _ _ _ _ _ (@bw _ _ _ _) (@ab _ _ _ _ _ (@bw _ _ _ _) (@aj _) rfl) rfl) rfl) rfl) rfl)) (@ab _ _ _ _ _ (@bJ _ _ _ _ (@ab _ _ _ _ _ (@bw _ _ _ _) (@ab _ _ _ _ _ (@bw _ _ _ _) (@ab _ _ _ _ _ (@bw _ _ _ _) (@ab _ _ _ _ _ (@bw _ _ _ _) (@ab _ _ _ _ _ (@bw _ _ _ _) (@aj _) rfl) rfl) rfl) rfl) rfl)) (@aj _) rfl) rfl) rfl)) (aL cS (aL cW (pv 0) av) av) (λ_ _=>rfl)) rfl (.inr rfl))
  (ai (aC (i:=2) qV.nd rfl (a_ rfl) (aL d_ av (aL cS (pv 0) av)))
  (ai (e_ (cy (bu jc (aL cS (aL cW (pv 0) av) av) av (cM _)) (ao (aC (i:=2) qV.nd rfl (a_ rfl) av)) aZ))
  (ao (bC (aV ["_law_name"] [(0,"_law_cell")] rfl (aP (gZ qU (pv 1) jb (ij (pv 2)))) (aS rfl rfl) nofun rfl nofun
   (λ_ _ _ _ _=>aq (i:=0) (show (["_law_name","_law_cell"]:List Str).Nodup by decide +kernel) rfl (a_ rfl)) (λ_ _ _ _ _=>bF)
   (λ_ _ _ _ _=>aL fw (pv 0) (aL Jj bw (aL cS (aL cW (pv 1) av) av)))))))),?_⟩
 obtain⟨hi,ei⟩:=Lg c;obtain⟨hj,ej⟩:=Rg c;refine⟨U9,λL1 h1=>⟨U9,λL2 h2=>⟨U9,λL3 h3=>⟨Kw,λLL R8=>?_⟩⟩⟩⟩;obtain⟨s1,p1⟩:=Q0 h1 h2 h3 R8;obtain⟨Li,a1,f1,e1⟩:=p1 (i3 c) hi;rw [Jx] at e1;refine⟨_,rfl,_,_,rfl,rfl,⟨nofun,nofun⟩,_,_,rfl,rfl,(by show (0:Int) < 3;decide),?_⟩;refine⟨LL,_,(i3 c:Int),.ref Li,rfl,congrArg V.int ei,aI.of ae,a1,?_⟩;generalize upd (upd (upd (upd H L1 _) L2 _) L3 _) LL _=H1 at s1 e1;refine⟨_,rfl,_,_,rfl,rfl,(by show (0:Int) < 3;decide),_,_,rfl,rfl,?_⟩;refine⟨λσ H2=>∃m:Nat,1<=m/\m<=5/\σ=[some (.int c),aF Li,some (.int (m:Int))]/\H1=H2,?_,?_⟩
 .obtain⟨m,Ep,Ll,em⟩:∃m:Nat,1<=m/\m<=5/\1+c % 3=(m:Int):=⟨(1+c % 3).toNat,∅,∅,∅⟩;refine⟨_,rfl,_,_,rfl,rfl,⟨nofun,nofun⟩,_,_,rfl,rfl,(by show (0:Int) < 8;decide),rfl,_,rfl,?_⟩;refine cx (λ_=>?_) (λ_=>?_)
  .exact⟨5,nofun,nofun,rfl,rfl⟩
  exact⟨m,Ep,Ll,by show [some (V.int c),some (V.ref Li),some (V.int (1+c % 3))]=_;rw [em],rfl⟩
 rintro σ H1' ⟨m,Ep,Ll,rfl,rfl⟩;refine⟨_,rfl,_,rfl,_,rfl,Li,_,rfl,aI.of e1,λM hM=>?_⟩;have cut:ie ((Ce (i3 c)).map V.str) none (some (m:Int))=((Ce (i3 c)).take m).map V.str:=by
  unfold ie;rw [show HT.fh ((Ce (i3 c)).map V.str).length 0 none=0 from rfl,HT.qY,rJ,Nat.sub_zero,o8,<-List.take_eq_take_min]
 rw [cut];have lt5:((Ce (i3 c)).take m).length=m:=by rw [d0,Nc];omega
 have Ub:∀z∈(Ce (i3 c)).take m,z.length<=3:=λz hz=>Gd (i3 c) z (rE hz);have JM:(((Ce (i3 c)).take m).map λz=>z++wV "y" (j3 c)).Nodup/\∀x∈((Ce (i3 c)).take m).map λz=>z++wV "y" (j3 c),x∉gh c:=by
  have e:(((Ce (i3 c)).take m).map λz=>z++wV "y" (j3 c))=(T4 (i3 c) (j3 c)).take m:=by unfold T4;rw [o8]
  rw [e];exact⟨(Ge hi hj).1.sublist (List.take_sublist _ _),λx hx=>(Ge hi hj).2 x (rE hx)⟩
 generalize (Ce (i3 c)).take m=zs at lt5 Ub JM;have s2:=s1.trans (af hM (.lst (zs.map V.str)));have eM:upd H1 M (.lst (zs.map V.str)) M=some (.lst (zs.map V.str)):=ae;generalize upd H1 M (.lst (zs.map V.str))=H2 at s2 eM;refine⟨M,rfl,⟨_,aI.of eM⟩,λD hD=>cq (xs:=zs.map V.str) (λk ys σ2 H3=>ys=((zs.map λz=>z++wV "y" (j3 c)).take k).map V.str/\(∃y0,σ2=[y0,some (.int c)])/\aE H2 H3/\H3 D=some (.lst ys))
    ⟨rfl,⟨none,rfl⟩,af hD _,ae⟩ (λk ys σ2 H3 _ h=>?_) (λk x ys σ2 H3 ex h=>?_) (λys σ2 H3 h=>?_)⟩
 .obtain⟨_,_,sm,_⟩:=h;exact aI.of (sm _ _ eM)
 .obtain⟨rfl,⟨y0,rfl⟩,sm,eD⟩:=h;have lk:=(bh.mp ex).1;rw [ar] at lk;rw [bf] at ex;obtain⟨z,ez,rfl⟩:=b_.mp ex;have hz:=Ub z (cA ez);have hy:=CU hj;refine goN (yS ?_);refine⟨_,rfl,_,rfl,_,_,rfl,rfl,⟨nofun,nofun⟩,_,_,rfl,rfl,(by show (0:Int) < 3;decide),?_⟩;have ly:("y":Str).length=1:=by decide +kernel
  refine⟨"y",j3 c,rfl,congrArg V.int ej,∅,ly,_,_,rfl,rfl,fits ∅,?_⟩;refine⟨eD,bq (by rw [ar,d0];omega),?_,⟨_,rfl⟩,λb o hb=>?_,ae⟩
  .have:(zs.map λz=>z++wV "y" (j3 c))[k]?=some (z++wV "y" (j3 c)):=by rw [bf,ez];rfl
   rw [cQ,this,br];rfl
  rw [ak (λz=>by rw [z,hD] at hb;cases hb)];exact sm b o hb
 obtain⟨rfl,_,sm,eD⟩:=h;rw [uL (by rw [ar,ar];exact aK _)] at eD;exact q D _ _ (s2.free hD) (s2.trans sm) eD ⟨JM.1,JM.2,by rw [ar];omega,by rw [ar];omega⟩
def ye:Sp:=λvs H Q _=>∃(c:Int),vs=[.int c]/\∀(N:Addr)(H':Hp),H N=none->aE H H'->H' N=some (.lst ((gh c).map V.str))->Q (.ref N) H'
def E8:aN ["_law_cell"] ["_law_cell"] (aA wJ):=je rfl rfl rfl rfl nofun
def C2 (F:iG K "_law_words" "_law_words" wJ f fd)(T:Txt mg):bR P w K mg base fK 1 f fd ["_law_cell"] ye:=by
 refine F.ok E8 (λvs H Q E h=>?_) (λeJ A outer s H vs Q E hr h=>?_)
 .obtain⟨c,rfl,_⟩:=h;rfl
 obtain⟨c,rfl,q⟩:=h;refine⟨_,ao (bC (@b9 _ _ _ _ _ _ _ cX (@bJ _ _ _ _ (@ab _ _ _ _ _ (@bJ _ _ _ _ (@ab _ _ _ _ _ (@bw _ _ _ _) (@ab _ _ _ _ _ (@bw _ _ _ _) (@ab _ _ _ _ _ (@bw _ _ _ _) (@aj _) rfl) rfl) rfl)) (@ab _ _ _ _ _ (@bJ _ _ _ _ (@ab _ _ _ _ _ (@bw _ _ _ _) (@ab _ _ _ _ _ (@bw _ _ _ _) (@ab _ _ _ _ _ (@bw _ _ _ _) (@aj _) rfl) rfl) rfl)) (@ab _ _ _ _ _ (@bJ _ _ _ _ (@ab _ _ _ _ _ (@bw _ _ _ _) (@ab _ _ _ _ _ (@bw _ _ _ _) (@ab _ _ _ _ _ (@bw _ _ _ _) (@aj _) rfl) rfl) rfl)) (@aj _) rfl) rfl) rfl)) (aL cS (aL cW (pv 0) av) av) (λ_ _=>rfl))),?_⟩;obtain⟨hi,ei⟩:=Lg c;refine⟨Kw,λL1 h1=>⟨Kw,λL2 h2=>⟨Kw,λL3 h3=>⟨Kw,λLL R8=>?_⟩⟩⟩⟩;obtain⟨s1,p1⟩:=Q0 h1 h2 h3 R8;obtain⟨Li,a1,f1,e1⟩:=p1 (i3 c) hi;rw [IJ] at e1;refine⟨_,rfl,_,_,rfl,rfl,⟨nofun,nofun⟩,_,_,rfl,rfl,(by show (0:Int) < 3;decide),?_⟩;refine⟨LL,_,(i3 c:Int),.ref Li,rfl,congrArg V.int ei,aI.of ae,a1,?_⟩;exact q Li _ f1 s1 e1
def EW (K:a0):Sp:=λvs H Q _=>∃(S N W:Addr)(ns:List Int) (at_ m:Nat) (nms ws:List Str),vs=[.ref S,.int (at_:Int),.ref N,.int (m:Int),.ref W]/\aI K H S (ns.map V.int)/\ns.length<=1000/\H N=some (.lst (nms.map V.str))/\H W=some (.lst (ws.map V.str))/\0 < nms.length/\nms.length<=5/\ws.length<=10/\m<=10 /\
 ∀(R:Addr)(rs:List Addr)(aa:List au)(H':Hp),H R=none->aE H H'->H' R=some (.lst (rs.map V.ref))->bT K H' rs aa->aa.length=m->(∀ru∈aa,ru.1∈nms/\ru.2.length<=6/\∀x∈ru.2,x∈nms++ws)->Q (.ref R) H'
def mW:aN ["_law_script","_law_at","_law_names_here","_law_many","_law_words_here","_law_rules","_law_some","_law_k","_law_cell","_law_size"] ["_law_script","_law_at","_law_names_here","_law_many","_law_words_here"] (aA Fe):=je rfl rfl rfl rfl nofun
def Jo (F:iG K "_law_more" "_law_more" Fe f fd)(T:Txt mg)(GC:aG P w K mg base 1 "_law_cell_at" ["_law_script","_law_k"] (pN K))(GD:aG P w K mg base 1 "_law_digits" ["_law_cell","_law_many","_law_some"] oj):bR P w K mg base fK 2 f fd ["_law_script","_law_at","_law_names_here","_law_many","_law_words_here"] (EW K):=by
 refine F.ok mW (λvs H Q E h=>?_) (λeJ A outer s H vs Q E hr h=>?_)
 .obtain⟨S,N,W,ns,at_,m,nms,ws,rfl,_⟩:=h;rfl
 obtain⟨S,N,W,ns,at_,m,nms,ws,rfl,hS,hn,hN,hW,Ue,hn1,hw1,hm,q⟩:=h;refine⟨_,ai (aC (i:=5) mW.nd rfl (a_ rfl) (bJ aj))
  (ai (aC (i:=6) mW.nd rfl (a_ rfl) (aL iV (pv 2) (pv 4)))
  (ai (bD b8 rfl (iI rfl T.Fw (ab (pv 3) aj)) (aq (i:=7) mW.nd rfl (a_ rfl))
   (ai (aC (i:=8) mW.nd rfl (a_ rfl) (bK GC hr rfl (ab (pv 0) (ab (aL d_ (pv 1) (pv 7)) aj))))
   (ai (aC (i:=9) mW.nd rfl (a_ rfl) (aL cS (aL cW (pv 8) av) av))
   (ai (e_ (cy (PW.pt (mY (bu jc (pv 7) av (cM _)) (jX (bu jc (aL cS (aL cW (pv 8) av) av) av (cM _))))) (ao (aC (i:=9) mW.nd rfl (a_ rfl) (aL d_ av (aL cS (aL cW (pv 8) av) av)))) aZ))
   (ao (cv (fY fU fV fX bA (pv 5) (ab (bU (ab (b9 cX (pv 2) (aL cS (aL cS (pv 8) av) (aR bH rfl T.len gT (ab (pv 2) aj))) (λ_ _=>rfl))
    (ab (bK GD hr rfl (ab (aL cW (pv 8) av) (ab (pv 9) (ab (pv 6) aj)))) aj))) aj))))))))
  (ao (bC (pv 5))))),?_⟩
 refine⟨uo,λL hL=>?_⟩;have s1:=af hL (.lst []);have e1:upd H L (.lst []) L=some (.lst []):=ae;generalize upd H L (.lst [])=H1 at s1 e1;refine⟨_,rfl,_,rfl,N,W,_,_,rfl,rfl,s1 _ _ hN,s1 _ _ hW,fits (by rw [ar,ar];omega),λM hM=>?_⟩;rw [<-br];have k2:=af hM (.lst ((nms++ws).map V.str));have s2:=s1.trans k2;have e2:=k2 _ _ e1;have m2:upd H1 M (.lst ((nms++ws).map V.str)) M=some (.lst ((nms++ws).map V.str)):=ae;have nM:M≠L:=λz=>by rw [z,e1] at hM;cases hM
 generalize upd H1 M (.lst ((nms++ws).map V.str))=H2 at k2 s2 e2 m2;refine⟨_,rfl,(m:Int),rfl,∅,∅,?_⟩;rw [hU m];refine iJ (n:=m) (λi σ H3=>∃(rs:List Addr)(aa:List au)(y7 y8 y9:Option V),σ=[aF S,some (.int (at_:Int)),aF N,some (.int (m:Int)),aF W,aF L,aF M,y7,y8,y9]/\aE H H3/\H3 L=some (.lst (rs.map V.ref))/\H3 M=some (.lst ((nms++ws).map V.str))/\bT K H3 rs aa/\aa.length=i/\∀ru∈aa,ru.1∈nms/\ru.2.length<=6/\∀x∈ru.2,x∈nms++ws) ⟨[],[],none,none,none,rfl,s2,e2,m2,.nil,rfl,λ_ h=>by cases h⟩ ?_ ?_
 .rintro i σ H3 hi ⟨rs,aa,y7,y8,y9,rfl,s3,eL,eM,rl,hl,hf⟩;have lr:=bI rl;refine goN ?_;refine⟨_,rfl,_,rfl,_,rfl,_,_,rfl,rfl,?_⟩;refine⟨S,ns,at_+i,(by show [V.ref S,V.int ((at_:Int)+(0+(i:Int)))]=_;congr 3;push_cast;omega),s3.seq hS,hn,λc _=>?_⟩;have hni:(0:Int) < (nms.length:Int):=by omega
  obtain⟨z,Rm,ez⟩:=US (zs:=nms) rfl hni (c % 5);refine⟨_,rfl,_,_,rfl,rfl,⟨nofun,nofun⟩,_,_,rfl,rfl,(by show (0:Int) < 4;decide),?_⟩;refine⟨λσ H4=>∃d:Nat,d<=6/\H3=H4/\σ=[aF S,some (.int (at_:Int)),aF N,some (.int (m:Int)),aF W,aF L,aF M,some (.int (0+(i:Int))),some (.int c),some (.int (d:Int))],?_,?_⟩
  .obtain⟨d,hd,Co⟩:∃d:Nat,c / 5 % 4=(d:Int)/\d<=6:=⟨(c / 5 % 4).toNat,∅,∅⟩;have no:∃d:Nat,d<=6/\H3=H3/\[some (V.ref S),some (.int (at_:Int)),aF N,some (.int (m:Int)),aF W,aF L,aF M,some (.int (0+(i:Int))),some (.int c),some (.int (c / 5 % 4))]=[some (V.ref S),some (.int (at_:Int)),aF N,some (.int (m:Int)),aF W,aF L,aF M,some (.int (0+(i:Int))),some (.int c),some (.int (d:Int))]:=⟨d,Co,rfl,by rw [hd]⟩;refine⟨_,rfl,rfl,_,rfl,?_⟩;refine cx (λ_=>?_) (λ_=>no);refine⟨_,rfl,_,_,rfl,rfl,⟨nofun,nofun⟩,_,_,rfl,rfl,(by show (0:Int) < 8;decide),rfl,_,rfl,?_⟩;refine cx (λ_=>?_) (λ_=>no);obtain⟨e,he,he6⟩:∃e:Nat,4+c / 160 % 3=(e:Int)/\e<=6:=⟨(4+c / 160 % 3).toNat,∅,∅⟩;refine⟨_,rfl,_,_,rfl,rfl,⟨nofun,nofun⟩,_,_,rfl,rfl,(by show (0:Int) < 3;decide),_,_,rfl,rfl,?_⟩;exact⟨e,he6,rfl,by rw [<-he];rfl⟩
  rintro σ H3' ⟨d,hd6,rfl,rfl⟩;refine⟨_,rfl,.inl ⟨rfl,_,aI.of eL⟩,_,rfl,_,rfl,_,_,rfl,rfl,(by show (0:Int) < 5;decide),_,rfl,N,_,rfl,.inl (aI.of (s3 _ _ hN)),_,_,rfl,rfl,(by rw [ar];exact hni),?_⟩;rw [ar];refine⟨N,_,_,_,rfl,rfl,aI.of (s3 _ _ hN),ez,?_⟩;refine⟨_,rfl,_,_,rfl,rfl,⟨nofun,nofun⟩,_,rfl,_,rfl,?_⟩;refine⟨_,d,M,nms++ws,rfl,∅,eM,by rw [bB];omega,by rw [bB];omega,λp ps H4 s4 e4 l4 uC=>⟨mj,λR hR=>?_⟩⟩;have k5:=s4.trans (af hR (.tup [.str z,.ref p]));have v1:aT K (upd H4 R (.tup [.str z,.ref p])) R [.str z,.ref p]:=aT.of ae;have v2:aT K (upd H4 R (.tup [.str z,.ref p])) p (ps.map V.str):=(af hR _).tup (aT.of e4);generalize upd H4 R (.tup [.str z,.ref p])=H5 at k5 v1 v2;have DJ:=k5 _ _ eL;refine⟨L,_,_,rfl,rfl,DJ,bq (by rw [ar];omega),?_⟩;refine⟨rs++[R],aa++[(z,ps)],_,_,_,rfl,λb o hb=>?_,by rw [ae,br];rfl,by rw [ak nM];exact k5 _ _ eM,gR (rl.keep λb xs z=>aY DJ (k5.tup z)) ⟨p,aY DJ v1,aY DJ v2⟩,by rw [bB,hl];rfl,λru fZ=>?_⟩
  .rw [ak (λz=>by rw [z,hL] at hb;cases hb)];exact k5 _ _ (s3 b o hb)
  rcases bY.mp fZ with h | h
  .exact hf ru h
  rw [cg.mp h];exact⟨Rm,by show ps.length<=6;omega,uC⟩
 rintro σ H3 ⟨rs,aa,y7,y8,y9,rfl,s3,eL,eM,rl,hl,hf⟩;exact⟨_,rfl,q L rs aa H3 hL s3 eL rl hl hf⟩
def xP (ns ws:List Str) (a:Nat) (cR:List Str):Prop :=
 (∃n' wx,ns[a+1]?=some n'/\wx≠[]/\(∀x∈wx,x∈ws)/\wx.length<=2/\(cR=wx++[n']\/cR=n'::wx))\/(ns.length<=a+1/\(∀x∈cR,x∈ws)/\cR.length<=2)
def Hq (l:List Str)(n:Str):ie ((l++[n]).map V.str) (some (-1)) none=[V.str n]:=by
 unfold ie;have h1:HT.fh ((l++[n]).map V.str).length 0 (some (-1))=l.length:=by
  rw [ar,bB,fS];show (if (-1:Int) < 0 then ((-1:Int)+((l.length+1:Nat):Int)).toNat else min (-1:Int).toNat (l.length+1))=l.length;rw [aw nofun];omega
 rw [h1,HT.oy,<-List.map_drop,List.drop_append_of_le_length (aK _),List.drop_length,mK];rw [ar,bB,fS,show l.length+1 - l.length=1 by omega];rfl
def Hr (l:List Str)(n:Str):ie ((l++[n]).map V.str) none (some (-1))=l.map V.str:=by
 unfold ie;have h1:HT.fh ((l++[n]).map V.str).length ((l++[n]).map V.str).length (some (-1))=l.length:=by
  rw [ar,bB,fS];show (if (-1:Int) < 0 then ((-1:Int)+((l.length+1:Nat):Int)).toNat else min (-1:Int).toNat (l.length+1))=l.length;rw [aw nofun];omega
 rw [h1,HT.oy,rJ,Nat.sub_zero,<-o8,qp (aK _),cC]
def EU (K:a0):Sp:=λvs H Q _=>∃(S N W:Addr)(ns:List Int) (at_:Nat) (nms ws:List Str),vs=[.ref S,.int (at_:Int),.ref N,.ref W]/\aI K H S (ns.map V.int)/\ns.length<=1000/\H N=some (.lst (nms.map V.str))/\H W=some (.lst (ws.map V.str))/\0 < nms.length/\nms.length<=5/\0 < ws.length/\ws.length<=10 /\
 ∀(R:Addr)(rs:List Addr)(aa:List au)(H':Hp),H R=none->aE H H'->H' R=some (.lst (rs.map V.ref))->bT K H' rs aa->aa.length=nms.length->(∀(j:Nat)(ru:au),aa[j]?=some ru->nms[j]?=some ru.1/\xP nms ws j ru.2)->Q (.ref R) H'
def mV:aN ["_law_script","_law_at","_law_names_here","_law_words_here","_law_rules","_law_k","_law_cell","_law_parts"] ["_law_script","_law_at","_law_names_here","_law_words_here"] (aA E_):=je rfl rfl rfl rfl nofun
def Jm (F:iG K "_law_skeleton" "_law_skeleton" E_ f fd)(T:Txt mg)(GC:aG P w K mg base 1 "_law_cell_at" ["_law_script","_law_k"] (pN K))(GD:aG P w K mg base 1 "_law_digits" ["_law_cell","_law_many","_law_some"] oj):bR P w K mg base fK 2 f fd ["_law_script","_law_at","_law_names_here","_law_words_here"] (EU K):=by
 refine F.ok mV (λvs H Q E h=>?_) (λeJ A outer s H vs Q E hr h=>?_)
 .obtain⟨S,N,W,ns,at_,nms,ws,rfl,_⟩:=h;rfl
 obtain⟨S,N,W,ns,at_,nms,ws,rfl,hS,hn,hN,hW,Ue,hn1,hw0,hw1,q⟩:=h;refine⟨_,ai (aC (i:=4) mV.nd rfl (a_ rfl) (bJ aj))
  (ai (bD b8 rfl (iI rfl T.Fw (ab (aR bH rfl T.len gT (ab (pv 2) aj)) aj)) (aq (i:=5) mV.nd rfl (a_ rfl))
   (ai (aC (i:=6) mV.nd rfl (a_ rfl) (bK GC hr rfl (ab (pv 0) (ab (aL d_ (pv 1) (pv 5)) aj))))
   (ai (aC (i:=7) mV.nd rfl (a_ rfl) (bK GD hr rfl (ab (aL cW (pv 6) av) (ab (aL cS (pv 6) av) (ab (pv 3) aj)))))
   (ai (e_ (cy (bu qv (aL d_ (pv 5) av) (aR bH rfl T.len gT (ab (pv 2) aj)) (cM _))
    (ai (aC (i:=7) mV.nd rfl (a_ rfl) (aL wZ (bK GD hr rfl (ab (aL cW (pv 6) av) (ab (aL d_ av (aL cS (pv 6) av)) (ab (pv 3) aj)))) (bU (ab (b9 cX (pv 2) (aL d_ (pv 5) av) (λ_ _=>rfl)) aj))))
    (ao (cy (bu jc (aL cS (aL cW (pv 6) av) av) av (cM _))
     (ao (aC (i:=7) mV.nd rfl (a_ rfl) (aL wZ (gZ om (pv 7) (ij (u4 pJ av)) jb) (gZ om (pv 7) jb (ij (u4 pJ av)))))) aZ))) aZ))
   (ao (cv (fY fU fV fX bA (pv 4) (ab (bU (ab (b9 cX (pv 2) (pv 5) (λ_ _=>rfl)) (ab (pv 7) aj))) aj))))))))
  (ao (bC (pv 4)))),?_⟩
 nofun
 refine⟨uo,λL hL=>?_⟩;have s1:=af hL (.lst []);have e1:upd H L (.lst []) L=some (.lst []):=ae;generalize upd H L (.lst [])=H1 at s1 e1;refine⟨_,rfl,N,_,rfl,.inl (aI.of (s1 _ _ hN)),((nms.map V.str).length:Int),rfl,by rw [ar];omega,by rw [ar];omega,?_⟩;rw [ar,hU];refine iJ (n:=nms.length) (λi σ H3=>∃(rs:List Addr)(aa:List au)(y5 y6 y7:Option V),σ=[aF S,some (.int (at_:Int)),aF N,aF W,aF L,y5,y6,y7]/\aE H H3/\H3 L=some (.lst (rs.map V.ref))/\bT K H3 rs aa/\aa.length=i/\∀(j:Nat)(ru:au),aa[j]?=some ru->nms[j]?=some ru.1/\xP nms ws j ru.2) ⟨[],[],none,none,none,rfl,s1,e1,.nil,rfl,λj ru e=>by cases e⟩ ?_ ?_
 .intro i σ H3 hi uE
  ac_nf0
  obtain⟨rs,aa,y5,y6,y7,rfl,s3,eL,rl,hl,hf⟩:=uE;have lr:=bI rl;obtain⟨nm,JM⟩:∃nm,nms[i]?=some nm:=⟨nms[i],cT hi⟩;have atn:ux (nms.map V.str) (0+(i:Int))=some (.str nm):=by
   rw [kU];exact dO (by rw [bf,JM];rfl)
  refine goN ?_
  ac_rfl
  refine⟨_,rfl,_,rfl,_,rfl,_,_,rfl,rfl,?_⟩;refine⟨S,ns,at_+i,(by show [V.ref S,V.int ((at_:Int)+(0+(i:Int)))]=_;congr 3;push_cast;omega),s3.seq hS,hn,λc _=>?_⟩;obtain⟨d,hd⟩:∃d:Nat,c % 3=(d:Int):=⟨(c % 3).toNat,∅⟩;refine⟨_,rfl,_,_,rfl,rfl,⟨nofun,nofun⟩,_,rfl,_,_,rfl,rfl,(by show (0:Int) < 3;decide),_,rfl,?_⟩;refine⟨_,d,W,ws,(by show [_,V.int (c % 3),_]=_;rw [hd]),∅,s3 _ _ hW,hw0,∅,λp ps H4 s4 e4 l4 uC=>?_⟩;have yo:=s3.trans s4;have JZ:=s4 _ _ eL;have TU:=rl.same s4;refine⟨λσ H5=>∃(p5:Addr) (cR:List Str),σ=[aF S,some (.int (at_:Int)),aF N,aF W,aF L,some (.int (0+(i:Int))),some (.int c),aF p5]/\aE H4 H5/\aT K H5 p5 (cR.map V.str)/\xP nms ws i cR,?_,?_⟩
  .refine⟨_,rfl,_,_,rfl,rfl,_,rfl,N,_,rfl,.inl (aI.of (yo _ _ hN)),_,_,rfl,rfl,_,rfl,?_⟩;refine cx (λcc=>?_) (λcc=>?_)
   .have lt:=cI cc;rw [ar] at lt;have lt':i+1 < nms.length:=by omega
    obtain⟨n',GX⟩:∃n',nms[i+1]?=some n':=⟨nms[i+1],cT lt'⟩;have YJ:ux (nms.map V.str) (0+(i:Int)+1)=some (.str n'):=by
     rw [kU,show (i:Int)+1=((i+1:Nat):Int) by push_cast;rfl];exact dO (by rw [bf,GX];rfl)
    obtain⟨d2,hd2⟩:∃d2:Nat,1+c % 2=(d2:Int):=⟨(1+c % 2).toNat,∅⟩;refine⟨_,rfl,_,_,rfl,rfl,⟨nofun,nofun⟩,_,rfl,_,_,rfl,rfl,(by show (0:Int) < 2;decide),_,_,rfl,rfl,_,rfl,?_⟩;refine⟨_,d2,W,ws,(by show [_,V.int (1+c % 2),_]=_;rw [hd2]),∅,yo _ _ hW,hw0,∅,λp6 wx H6 s6 e6 l6 hwx=>?_⟩;have KN:=yo.trans s6;refine⟨_,rfl,_,rfl,_,_,rfl,rfl,N,_,_,_,rfl,rfl,aI.of (KN _ _ hN),YJ,EB,λu hu=>?_⟩;have k7:=af hu (.tup [V.str n']);refine⟨p6,u,_,_,rfl,rfl,k7.tup (aT.of e6),aT.of ae,(by rw [ar];show wx.length+1<=sizeLine;exact fits ∅),λp8 H8 s8 e8=>?_⟩;have Yk:aT K H8 p8 ((wx++[n']).map V.str):=by rw [br];exact e8
    have OT:=s6.trans (k7.trans s8);have Tv:wx≠[]:=λz=>by rw [z] at l6;simp at l6;omega
    refine⟨_,rfl,_,_,rfl,rfl,⟨nofun,nofun⟩,_,_,rfl,rfl,(by show (0:Int) < 2;decide),rfl,_,rfl,?_⟩;refine cx (λc2=>?_) (λc2=>?_)
    .refine⟨_,rfl,_,rfl,_,rfl,p8,_,rfl,Yk,λp9 H9 s9 e9=>?_⟩;rw [Hq] at e9;refine⟨_,rfl,_,rfl,_,rfl,p8,_,rfl,s9.tup Yk,λpA HA sA eA=>?_⟩;rw [Hr] at eA;refine⟨p9,pA,_,_,rfl,rfl,sA.tup e9,eA,(by rw [ar];show 1+wx.length<=sizeLine;exact fits ∅),λpB HB sB eB=>?_⟩;exact⟨pB,n'::wx,rfl,OT.trans (s9.trans (sA.trans sB)),eB,.inl ⟨n',wx,GX,Tv,hwx,∅,.inr rfl⟩⟩
    exact⟨p8,wx++[n'],rfl,OT,Yk,.inl ⟨n',wx,GX,Tv,hwx,∅,.inl rfl⟩⟩
   have ge:¬(0+(i:Int)+1 < ((nms.map V.str).length:Int)):=λz=>cc (cU z);rw [ar] at ge;exact⟨p,ps,rfl,aE.refl _,aT.of e4,.inr ⟨∅,uC,∅⟩⟩
  rintro σ H5 ⟨p5,cR,rfl,s5,e5,sk⟩;have B4:=yo.trans s5;have DJ:=s5 _ _ JZ;refine⟨_,rfl,.inl ⟨rfl,_,aI.of DJ⟩,_,rfl,_,rfl,N,_,_,_,rfl,rfl,aI.of (B4 _ _ hN),atn,_,rfl,mj,λR hR=>?_⟩;have k6:=af hR (.tup [.str nm,.ref p5]);have v1:aT K (upd H5 R (.tup [.str nm,.ref p5])) R [.str nm,.ref p5]:=aT.of ae;have v2:=k6.tup e5;generalize upd H5 R (.tup [.str nm,.ref p5])=H6 at k6 v1 v2;have UM:=k6 _ _ DJ;refine⟨L,_,_,rfl,rfl,UM,bq (by rw [ar];omega),?_⟩;refine⟨rs++[R],aa++[(nm,cR)],_,_,_,rfl,λb o hb=>?_,by rw [ae,br];rfl,gR ((TU.same (s5.trans k6)).keep λb xs z=>aY UM z) ⟨p5,aY UM v1,aY UM v2⟩,by rw [bB,hl];rfl,λj ru e=>?_⟩
  .rw [ak (λz=>by rw [z,hL] at hb;cases hb)];exact k6 _ _ (B4 b o hb)
  by_cases cj:j < aa.length
  .rw [qo cj] at e;exact hf j ru e
  have lj:=(bh.mp e).1;rw [bB,fS] at lj;have ej:j=aa.length:=by omega
  subst ej;rw [nX (aK _),Nat.sub_self] at e;cases e;rw [hl];exact⟨JM,sk⟩
 rintro σ H3 ⟨rs,aa,y5,y6,y7,rfl,s3,eL,rl,hl,hf⟩;exact⟨_,rfl,q L rs aa H3 hL s3 eL rl hl hf⟩
end
end ig
namespace L2
open PySem
def jm {X:Cx}(K:a0)(hK:X.K=K:=by rfl):l_ X (compareOp .NotIn) (TY K true):=by
 subst hK;exact iD
def dI (h:Str) (zs:List Str):Nw (.str h) (zs.map V.str)=decide (h∈zs):=by
 have:Nw (.str h) (zs.map V.str)=true↔h∈zs:=by
  unfold Nw;rw [List.any_eq_true];constructor
  .rintro⟨x,h1,h2⟩;obtain⟨z,hz,rfl⟩:=bN.mp h1;have:z=h:=by simpa [vA] using h2
   rw [<-this];exact hz
  intro hm;exact⟨.str h,bN.mpr ⟨h,hm,rfl⟩,by simp [vA]⟩
 by_cases c:h∈zs
 .rw [cU c];exact this.mpr c
 rw [gJ c];cases e:Nw (.str h) (zs.map V.str) with
 | false=>rfl
 | true=>exact absurd (this.mp e) c
def cf (zs:List Str):(zs.map V.str).all jL=true:=by
 rw [dP];intro x hx;obtain⟨z,_,rfl⟩:=bN.mp hx;rfl
section
variable {K:a0}{H:Hp}{p D:Addr}{zs:List Str}{σ:St}{x:Str}{js:List (Nat×Str)}{te:TE}{Qp:Hp->Prop}
def gL (rest:St)(pr:Str->Bool)(hc:dN [x] js σ=none::rest)(hp:aT K H p (zs.map V.str))(hz:zs.length<=1000)(hD:H D=none)
  (Rr:∀z∈zs,∀(H':Hp)(Qy:VK),aE H H'->Qy (.bl (pr z)) H'->te (some (.str z)::rest) H' Qy)
  (q:∀H2,aE H H2->H2 D=some (.lst ((zs.map pr).map V.bl))->Qp H2) :
  ∃W:Nat->Nat->List V->St->Hp->Prop,(∃m,W 0 m [] (dN [x] js σ) (upd H D (.lst []))) /\
 ∀i m ys σ' H,W i m ys σ' H->((oV K p).stop i H/\Qp H)\/((oV K p).go i H/\∃m',m' < m/\∀x H',(oV K p).mT i H x H'->di 0 x σ' H' λσ2 H2=>hV σ2 H2 λb H3 =>
  if b=true then te σ2 H3 λy H4=>H4 D=some (.lst ys)/\ys.length < sizeLine/\W (i+1) m' (ys++[y]) σ2 (upd H4 D (.lst (ys++[y]))) else W (i+1) m' ys σ2 H3):=by
 refine gM (xs:=zs.map V.str) (λi ys σ2 H2=>ys=((zs.take i).map pr).map V.bl/\(∃y0,σ2=y0::rest)/\aE H H2/\H2 D=some (.lst ys))
  ⟨rfl,⟨none,hc⟩,af hD _,ae⟩ (λi ys σ2 H2 _ h=>?_) (λi v ys σ2 H2 ex h=>?_) (λys σ2 H2 h=>?_)
 .obtain⟨_,_,sm,_⟩:=h;exact sm.tup hp
 .obtain⟨rfl,⟨y0,rfl⟩,sm,hd⟩:=h;rw [bf] at ex;obtain⟨z,ez,rfl⟩:=b_.mp ex;have li:=(bh.mp ez).1;refine goN (yS (Rr z (cA ez) _ _ sm ⟨hd,bq (by rw [ar,ar,d0];omega),?_,⟨_,rfl⟩,λb o hb=>?_,ae⟩))
  .rw [cQ,ez,br,br];rfl
  rw [ak (λz=>by rw [z,hD] at hb;cases hb)];exact sm b o hb
 obtain⟨rfl,_,sm,hd⟩:=h;rw [ar,cC] at hd;exact q H2 sm hd
def lI (rest:St)(pr:Str->Bool)(hc:dN [x] js σ=none::rest)(hp:aI K H p (zs.map V.str))(hz:zs.length<=1000)(hD:H D=none)
  (Rr:∀z∈zs,∀(H':Hp)(Qy:VK),aE H H'->Qy (.bl (pr z)) H'->te (some (.str z)::rest) H' Qy)
  (q:∀H2,aE H H2->H2 D=some (.lst ((zs.map pr).map V.bl))->Qp H2) :
  ∃W:Nat->Nat->List V->St->Hp->Prop,(∃m,W 0 m [] (dN [x] js σ) (upd H D (.lst []))) /\
 ∀i m ys σ' H,W i m ys σ' H->((jN K p).stop i H/\Qp H)\/((jN K p).go i H/\∃m',m' < m/\∀x H',(jN K p).mT i H x H'->di 0 x σ' H' λσ2 H2=>hV σ2 H2 λb H3 =>
  if b=true then te σ2 H3 λy H4=>H4 D=some (.lst ys)/\ys.length < sizeLine/\W (i+1) m' (ys++[y]) σ2 (upd H4 D (.lst (ys++[y]))) else W (i+1) m' ys σ2 H3):=by
 refine cq (xs:=zs.map V.str) (λi ys σ2 H2=>ys=((zs.take i).map pr).map V.bl/\(∃y0,σ2=y0::rest)/\aE H H2/\H2 D=some (.lst ys))
  ⟨rfl,⟨none,hc⟩,af hD _,ae⟩ (λi ys σ2 H2 _ h=>?_) (λi v ys σ2 H2 ex h=>?_) (λys σ2 H2 h=>?_)
 .obtain⟨_,_,sm,_⟩:=h;exact sm.seq hp
 .obtain⟨rfl,⟨y0,rfl⟩,sm,hd⟩:=h;rw [bf] at ex;obtain⟨z,ez,rfl⟩:=b_.mp ex;have li:=(bh.mp ez).1;refine goN (yS (Rr z (cA ez) _ _ sm ⟨hd,bq (by rw [ar,ar,d0];omega),?_,⟨_,rfl⟩,λb o hb=>?_,ae⟩))
  .rw [cQ,ez,br,br];rfl
  rw [ak (λz=>by rw [z,hD] at hb;cases hb)];exact sm b o hb
 obtain⟨rfl,_,sm,hd⟩:=h;rw [ar,cC] at hd;exact q H2 sm hd
end
theorem all_map (zs:List Str)(pr:Str->Bool):(zs.map pr).all id=zs.all pr:=by
 rw [List.all_map];rfl
end L2
namespace ig
open PySem M11
abbrev hm (aa:List au):List Str:=aa.map (·.1)
structure Small (aa:List au):Prop where
 one:1<=aa.length
 most:aa.length<=32
 oY:∀ru∈aa,ru.2.length<=6
open PySem L2 M11
section
def iZ {H:Hp}{R D:Addr}{rs:List Addr}{aa:List au}{σ:St}{Qp:Hp->Prop}(hR:aI K H R (rs.map V.ref))(cY:bT K H rs aa)(bM:aa.length<=1000)(hD:H D=none)
  (q:∀H2,aE H H2->H2 D=some (.lst ((hm aa).map V.str))->Qp H2) :
  ∃W:Nat->Nat->List V->St->Hp->Prop,(∃m,W 0 m [] (dN ["_law_head","_law_parts"] [] σ) (upd H D (.lst []))) /\
 ∀i m ys σ' H,W i m ys σ' H->((jN K R).stop i H/\Qp H)\/((jN K R).go i H/\∃m',m' < m/\∀x H',(jN K R).mT i H x H'->yT K 2 (iX (di 0) (iX (di 1) A5)) x σ' H' λσ2 H2=>hV σ2 H2 λb H3 =>
  if b=true then gO 0 σ2 H3 λy H4=>H4 D=some (.lst ys)/\ys.length < sizeLine/\W (i+1) m' (ys++[y]) σ2 (upd H4 D (.lst (ys++[y]))) else W (i+1) m' ys σ2 H3):=by
 have ll:=bI cY;refine cq (xs:=rs.map V.ref) (λi ys σ2 H2=>ys=((hm aa).take i).map V.str/\(∃y0 y1,σ2=[y0,y1])/\aE H H2/\H2 D=some (.lst ys))
  ⟨rfl,⟨none,none,rfl⟩,af hD _,ae⟩ (λi ys σ2 H2 _ h=>?_) (λi x ys σ2 H2 ex h=>?_) (λys σ2 H2 h=>?_)
 .obtain⟨_,_,sm,_⟩:=h;exact sm.seq hR
 .obtain⟨rfl,⟨y0,y1,rfl⟩,sm,Lo⟩:=h;rw [bf] at ex;obtain⟨r,er,rfl⟩:=b_.mp ex;obtain⟨ru,e1,p,v1,v2⟩:=cY.get er;have li:=(bh.mp e1).1;refine⟨r,_,rfl,sm.tup v1,rfl,_,_,rfl,_,_,rfl,rfl,?_⟩;refine yS ?_;refine⟨_,rfl,Lo,bq (by rw [ar,d0];omega),?_,⟨_,_,rfl⟩,λb o hb=>?_,ae⟩
  .have:(hm aa)[i]?=some ru.1:=by unfold hm;rw [bf,e1];rfl
   rw [cQ,this,br];rfl
  rw [ak (λz=>by rw [z,hD] at hb;cases hb)];exact sm b o hb
 obtain⟨rfl,_,sm,Lo⟩:=h;rw [ar,ll,uL (by unfold hm;rw [ar];exact aK _)] at Lo;exact q H2 sm Lo
def qT (K:a0):Sp:=λvs H Q _=>∃(R:Addr)(rs:List Addr)(aa:List au)(b:Bool),vs=[.ref R,.bl b]/\aI K H R (rs.map V.ref)/\bT K H rs aa/\Small aa /\
 ∀(D:Addr)(H':Hp),H D=none->aE H H'->H' D=some (.lst ((bV b aa).map V.str))->(bV b aa).length<=64->Q (.ref D) H'
abbrev NE:List Str:=["_law_rules","_law_words_here","_law_head","_law_parts","_law_heads","_law_ended_here","_law_again","_law_good_here"]
def jW:aN NE ["_law_rules","_law_words_here"] (aA Am):=je rfl rfl rfl rfl nofun
def F4 (F:iG K "_law_ended" "_law_ended" Am f fd)(T:Txt mg):bR P w K mg base fK 1 f fd ["_law_rules","_law_words_here"] (qT K):=by
 refine F.ok jW (λvs H Q E h=>?_) (λeJ A outer s H vs Q E hr h=>?_)
 .obtain⟨R,rs,aa,b,rfl,_⟩:=h;rfl
 obtain⟨R,rs,aa,b,rfl,hR,cY,qJ,q⟩:=h;have WM:=qJ.one;have NA:=qJ.most;refine⟨_,ai (aC (i:=4) jW.nd rfl (Or.inr rfl) (aV ["_law_head","_law_parts"] [] rfl (aP (pv 0)) (aS rfl rfl) nofun rfl nofun
   (λ_ _ _ _ _=>dq (n:=2) K rfl (az (aq (i:=0) (show (["_law_head","_law_parts"]:List Str).Nodup by decide +kernel) rfl (a_ rfl)) (az (aq (i:=1) (show (["_law_head","_law_parts"]:List Str).Nodup by decide +kernel) rfl (a_ rfl)) bz))) (λ_ _ _ _ _=>bF)
   (λ_ _ _ _ _=>pv 0)))
  (ai (aC (i:=5) jW.nd rfl (Or.inr rfl) (bJ aj))
  (ai (bD b8 rfl (aP (pv 0)) (aq (i:=6) jW.nd rfl (a_ rfl))
   (ao (bD b8 rfl (aP (pv 0)) (dq (n:=2) K rfl (az (aq (i:=2) jW.nd rfl (a_ rfl)) (az (aq (i:=3) jW.nd rfl (a_ rfl)) bz)))
    (ai (aC (i:=7) jW.nd rfl (a_ rfl) (aR (dF rfl) rfl T.all boot_all (ab
      (aV ["_law_part"] [(5,"_law_ended_here"),(4,"_law_heads"),(1,"_law_words_here")] rfl (d7 (pv 3)) (aS rfl rfl) nofun rfl nofun
       (λ_ _ _ _ _=>aq (i:=0) (show (["_law_part","_law_ended_here","_law_heads","_law_words_here"]:List Str).Nodup by decide +kernel) rfl (a_ rfl)) (λ_ _ _ _ _=>bF)
       (λ_ _ _ _ _=>KU (fc (d8 K) (pv 0) (pv 1) rfl) (pU (sQ (pv 3) (pU (fc (jm K) (pv 0) (pv 2) rfl)))))) aj)))
    (ao (cy (PW.pt (mY (gX (pv 7)) (jX (bu iD (pv 2) (pv 5) rfl))))
     (ao (cv (fY fU fV fX bA (pv 5) (ab (pv 2) aj)))) aZ))))))
  (ao (bC (pv 5))))),?_⟩
 nofun
 refine⟨_,rfl,R,rfl,⟨_,hR⟩,λD hD=>iZ hR cY ∅ hD λH1 s1 eD=>?_⟩;refine goN ?_
 ac_rfl
 refine⟨uo,λL hL=>?_⟩;have s2:=s1.trans (af hL (.lst []));have Cu:=af hL (.lst []) _ _ eD;have nL:L≠D:=λz=>by rw [z,eD] at hL;cases hL
 have fL:H L=none:=s1.free hL;have e2:upd H1 L (.lst []) L=some (.lst []):=ae;generalize upd H1 L (.lst [])=H2 at s2 Cu e2;refine goN ?_
 ac_rfl
 have ll:=bI cY
 let xR:rB:=λi σ H3=>∃(es:List Str)(y2 y3 y6 y7:Option V),σ=[aF R,some (.bl b),y2,y3,aF D,aF L,y6,y7]/\aE H H3/\H3 D=some (.lst ((hm aa).map V.str))/\H3 L=some (.lst (es.map V.str))/\es=passes (λe=>hZ b (hm aa) e aa) i []/\es.length<=32 * i
 refine⟨_,rfl,R,rfl,⟨_,s2.seq hR⟩,bZ (xs:=rs.map V.ref) xR ⟨[],_,_,_,_,rfl,s2,Cu,e2,rfl,by simp⟩ ?_ ?_ ?_⟩
 .rintro i σ H3 _ ⟨es,y2,y3,y6,y7,rfl,s3,_⟩;exact s3.seq hR
 .intro i x σ H3 ex uE
  ac_nf0
  obtain⟨es,y2,y3,y6,y7,rfl,s3,J0,X_,he,Dq⟩:=uE;have li:=(bh.mp ex).1;rw [ar] at li;refine goN ?_
  ac_nf
  let Ed:rB:=λj σ H4=>∃(l8:List Str)(y2 y3 y7:Option V),σ=[aF R,some (.bl b),y2,y3,aF D,aF L,some x,y7]/\aE H H4/\H4 D=some (.lst ((hm aa).map V.str))/\H4 L=some (.lst (l8.map V.str))/\l8=hZ b (hm aa) es (aa.take j)/\l8.length<=32 * i+j
  refine⟨_,rfl,R,rfl,⟨_,s3.seq hR⟩,bZ (xs:=rs.map V.ref) Ed ⟨es,_,_,_,rfl,s3,J0,X_,rfl,∅⟩ ?_ ?_ ?_⟩
  .rintro j σ H4 _ ⟨l8,y2,y3,y7,rfl,s4,_⟩;exact s4.seq hR
  .intro j x2 σ H4 jM uE
   ac_nf0
   obtain⟨l8,y2,y3,y7,rfl,s4,Po,JZ,Ik,RQ⟩:=uE;have lj:=(bh.mp jM).1;rw [ar] at lj;rw [bf] at jM;obtain⟨r,er,rfl⟩:=b_.mp jM;obtain⟨ru,e1,p,v1,v2⟩:=cY.get er;have fZ:=qJ.oY ru (cA e1);refine⟨r,_,rfl,s4.tup v1,rfl,_,_,rfl,_,_,rfl,rfl,?_⟩;refine⟨_,rfl,p,rfl,⟨_,s4.tup v2⟩,λD2 jI=>gL (zs:=ru.2) [aF L,aF D,some (.bl b)] (λz=>decide (z∈l8) || (b && !decide (z∈hm aa))) rfl (s4.tup v2) ∅ jI (λz _ H5 Qy s5 hq=>?_) λH5 s5 eD5=>?_⟩
   .refine⟨_,rfl,_,rfl,L,_,rfl,.inl (aI.of (s5 _ _ JZ)),rfl,cf _,?_⟩;refine⟨_,rfl,?_⟩;rw [dI];show if decide (z∈l8)=true then _ else _;refine cx (λc=>?_) (λc=>?_)
    .rw [c] at hq;exact hq
    have c':decide (z∈l8)=false:=by simpa using c
    rw [c',Bool.false_or] at hq;refine⟨_,rfl,b,rfl,?_⟩;refine cx (λcb=>?_) (λcb=>?_)
    .rw [cb,jk] at hq;refine⟨_,rfl,_,rfl,D,_,rfl,.inl (aI.of (s5 _ _ Po)),rfl,cf _,?_⟩;rw [dI];exact hq
    have cb':b=false:=by simpa using cb
    rw [cb',o_] at hq;exact hq
   refine⟨D2,_,rfl,aI.of eD5,?_⟩;rw [all_map];refine goN ?_
   ac_rfl
   have yn:=s4.trans s5;have DJ:=s5 _ _ JZ;have pe:hZ b (hm aa) es (aa.take (j+1))=d6 b (hm aa) l8 ru:=by
    rw [Ik,cQ,e1];unfold hZ;rw [vX];rfl
   refine⟨_,rfl,_,rfl,?_⟩;refine cx (λc=>?_) (λc=>?_)
   .refine⟨_,rfl,_,rfl,L,_,rfl,.inl (aI.of DJ),rfl,cf _,_,rfl,?_⟩;rw [dI];show if (!decide (ru.1∈l8))=true then _ else _;refine cx (λc2=>?_) (λc2=>?_)
    .refine⟨_,rfl,.inl ⟨rfl,_,aI.of DJ⟩,_,rfl,L,_,_,rfl,rfl,DJ,bq (by rw [ar];omega),?_⟩;refine⟨l8++[ru.1],_,_,_,rfl,λb o hb=>?_,by rw [ak (fk nL)];exact s5 _ _ Po,by rw [ae,br];rfl,?_,by rw [bB];simp;omega⟩
     .rw [ak (λz=>by rw [z,fL] at hb;cases hb)];exact yn b o hb
     rw [pe];unfold d6;rw [c,jk,aw c2]
    refine⟨l8,_,_,_,rfl,yn,s5 _ _ Po,DJ,?_,∅⟩;rw [pe];unfold d6;rw [c,jk,ax c2]
   refine⟨l8,_,_,_,rfl,yn,s5 _ _ Po,DJ,?_,∅⟩;rw [pe];unfold d6;rw [ax (λz=>c (iB.mp z).1)]
  rintro σ H4 ⟨l8,y2,y3,y7,rfl,s4,Po,JZ,Ik,RQ⟩;rw [ar,ll] at RQ;rw [ar,ll,cC] at Ik;exact⟨l8,_,_,_,_,rfl,s4,Po,JZ,by rw [Ik,he];rfl,∅⟩
 rintro σ H3 ⟨es,y2,y3,y6,y7,rfl,s3,J0,X_,he,Dq⟩;rw [ar,ll] at he Dq;refine⟨_,rfl,?_⟩;have e:bV b aa=es:=he.symm;have l5:=gE _ _ (iY b aa).nd (iY b aa).sub;rw [ar] at l5;exact q L H3 fL s3 (by rw [e];exact X_) ∅
end
def mx {aa:List au}{x:Str}:x∈hm aa↔x∈hd aa:=by
 constructor
 .intro h;obtain⟨ru,a,b⟩:=bN.mp h;exact b ▸ vm a
 intro h;obtain⟨ru,a,b⟩:=Ln h;exact bN.mpr ⟨ru,a,b⟩
def UB (aa:List au)(h:Str) (v:Int):Prop:=∀g,dM M11.bl aa (xt aa) g->iF M11.bl aa g->∃m,g h=some m/\m<=v
def UB.le {aa:List au}{h:Str}{v u:Int}(a:UB aa h v)(l:v<=u):UB aa h u:=λg s t=>by
 obtain⟨m,e,k⟩:=a g s t;exact⟨m,e,o5 k l⟩
def Bw {aa:List au}{x:Str}(nn:x∉hd aa){ru:au}(fZ:ru∈aa)(hm:x∈ru.2):UB aa x 0:=λg st _=>by
 refine⟨0,?_,ix _⟩;refine dM.keep (J:=λg=>g x=some 0) (λg I0 j h2 _=>?_) st ?_
 .show dw g I0.1 _ x=some 0;unfold dw;have:x≠I0.1:=λz=>nn (z ▸ vm h2);rw [ax this];exact j
 show xt aa x=some 0;unfold xt;rw [aw (qP _ _ _ _ (.inr ⟨mh.mpr ⟨ru,fZ,hm⟩,nn⟩))]
theorem BG {f g:Str->Int}:∀(ps:List Str),(∀x∈ps,f x<=g x)->(ps.map f).sum<=(ps.map g).sum
 | [],_=>ix _
 | a::r,h=>by
  have h1:=h a bQ;have h2:=BG r λx hx=>h x (cu _ hx);simp only [cH,kI];omega
def wt {aa:List au}{h:Str}{ps:List Str}(hm:(h,ps)∈aa){f:Str->Int}(hf:∀p∈ps,UB aa p (f p)):UB aa h (1+(ps.map f).sum):=λg st se=>by
 have hv:∀p∈ps,∃m,g p=some m/\m<=f p:=λp hp=>hf p hp g st se;have hs:=se _ hm;unfold cO at hs;have a1:kx g (h,ps)=true:=dP.mpr λp hp=>by obtain⟨m,e1,_⟩:=hv p hp;show (g p).isSome=true;rw [e1];rfl
 have s0:aH g (h,ps)<=1+(ps.map f).sum:=by
  unfold aH;have:=BG (f:=λp=>(g p).getD 0) (g:=f) ps λp hp=>by obtain⟨m,e1,e2⟩:=hv p hp;show (g p).getD 0<=_;rw [e1];exact e2
  show 1+(ps.map λp=>(g p).getD 0).sum<=_;omega
 rw [a1,jk] at hs;cases gn:g h with
 | none=>rw [show g (h,ps).1=none from gn] at hs;cases hs
 | some m =>
  rw [show g (h,ps).1=some m from gn] at hs;refine⟨m,rfl,?_⟩;have:¬aH g (h,ps) < m:=by simpa [M11.bl] using hs
  omega
def bG (g:G)(z:Str):Int:=(g z).getD 0
def d5 (ns:List Str)(g:G)(ru:au):G:=if (ru.2.all λp=>decide (p∈ns))=true then dw g ru.1 (if aH g ru > bG g ru.1 then aH g ru else bG g ru.1) else g
def uN (ns:List Str)(aa:List au)(g:G):G:=aa.foldl (d5 ns) g
def wq (ns:List Str)(g:G)(ru:au)(x:Str):bG (d5 ns g ru) x=if (ru.2.all λp=>decide (p∈ns))=true/\x=ru.1 then (if aH g ru > bG g ru.1 then aH g ru else bG g ru.1) else bG g x:=by
 unfold d5;by_cases c:(ru.2.all λp=>decide (p∈ns))=true
 .rw [aw c];by_cases e:x=ru.1
  .rw [aw (show (ru.2.all λp=>decide (p∈ns))=true/\x=ru.1 from ⟨c,e⟩)];show (if x=ru.1 then some _ else g x).getD 0=_;rw [aw e];rfl
  rw [ax (show ¬((ru.2.all λp=>decide (p∈ns))=true/\x=ru.1) from λz=>e z.2)];show (if x=ru.1 then some _ else g x).getD 0=_;rw [ax e];rfl
 rw [ax c,ax (show ¬((ru.2.all λp=>decide (p∈ns))=true/\x=ru.1) from λz=>c z.1)]
def EG (ns:List Str)(g:G)(ru:au)(x:Str):bG g x<=bG (d5 ns g ru) x:=by
 rw [wq]
 split
 .rename_i h
  rw [h.2]
  split <;> omega
 exact ix _
theorem rV (ns:List Str):∀(rs:List au)(g:G)(x:Str),bG g x<=bG (rs.foldl (d5 ns) g) x
 | [],_,_=>ix _
 | r::rs,g,x=>o5 (EG ns g r x) (rV ns rs (d5 ns g r) x)
def yj {g g':G}{ru:au}(h:∀p∈ru.2,bG g p=bG g' p):aH g ru=aH g' ru:=by
 unfold aH;rw [show (ru.2.map λp=>(g p).getD 0)=ru.2.map λp=>(g' p).getD 0 from List.map_congr_left h]
section
variable {aa:List au}{ns cs:List Str}
def OP (aa:List au) (ns cs:List Str):Prop:=∀ru∈aa,(∀p∈ru.2,p∈ns)->ru.1∈cs/\∀p∈ru.2,nN cs p < nN cs ru.1
def Lk (aa:List au) (ns cs:List Str) (k:Nat)(g:G):Prop:=∀ru∈aa,(∀p∈ru.2,p∈ns)->nN cs ru.1 < k->aH g ru<=bG g ru.1
def OA {ru:au}(h:(ru.2.all λp=>decide (p∈ns))=true):∀p∈ru.2,p∈ns:=λp hp=>cI (dP.mp h p hp)
def lL {k:Nat}{g:G}{ru:au}(h:Lk aa ns cs k g)(hr:ru∈aa){x:Str}(hx:nN cs x < k):bG (d5 ns g ru) x=bG g x:=by
 rw [wq]
 split
 .rename_i c
  have:=h ru hr (OA c.1) (c.2 ▸ hx);rw [ax ∅,c.2]
 rfl
def xW (a:OP aa ns cs){k:Nat}{g:G}{ru:au}(h:Lk aa ns cs k g)(hr:ru∈aa):Lk aa ns cs k (d5 ns g ru):=λr2 h2 e2 l2=>by
 rw [<-yj (g:=g) λp hp=>(lL h hr (ji ((a r2 h2 e2).2 p hp) l2)).symm,lL h hr l2];exact h r2 h2 e2 l2
theorem rX (a:OP aa ns cs){k:Nat}:∀(rs:List au)(g:G),(∀ru∈rs,ru∈aa)->Lk aa ns cs k g->Lk aa ns cs k (rs.foldl (d5 ns) g)/\∀x,nN cs x < k->bG (rs.foldl (d5 ns) g) x=bG g x
 | [],_,_,h=>⟨h,λ_ _=>rfl⟩
 | r::rs,g,hs,h=>by
  have h1:=xW a h (hs r bQ);obtain⟨i1,i2⟩:=rX a rs _ (λru hr=>hs ru (cu _ hr)) h1;exact⟨i1,λx hx=>(i2 x hx).trans (lL h (hs r bQ) hx)⟩
theorem rW (a:OP aa ns cs){k:Nat}:∀(rs:List au)(g:G),(∀ru∈rs,ru∈aa)->Lk aa ns cs k g->∀ru∈rs,(∀p∈ru.2,p∈ns)->nN cs ru.1=k->aH (rs.foldl (d5 ns) g) ru<=bG (rs.foldl (d5 ns) g) ru.1
 | [],_,_,_,_,h,_,_=>(by cases h)
 | r::rs,g,hs,h,ru,fZ,hp,hk=>by
  have hr:=hs r bQ;have h1:=xW a h hr;rcases bO.mp fZ with e | e
  .subst e;have ah:=a ru hr hp;have lt:∀p∈ru.2,nN cs p < k:=λp j7=>hk ▸ ah.2 p j7;obtain⟨_,i2⟩:=rX a rs (d5 ns g ru) (λru hr=>hs ru (cu _ hr)) h1;have e1:aH (List.foldl (d5 ns) g (ru::rs)) ru=aH g ru:=yj λp j7=>(i2 p (lt p j7)).trans (lL h hr (lt p j7));rw [e1];have e2:=rV ns rs (d5 ns g ru) ru.1;have e3:=wq ns g ru ru.1;rw [aw ⟨dP.mpr λp j7=>cU (hp p j7),rfl⟩] at e3;show _<=bG (List.foldl (d5 ns) (d5 ns g ru) rs) ru.1;have e4:aH g ru<=(if aH g ru > bG g ru.1 then aH g ru else bG g ru.1):=by split <;> omega
   omega
  exact rW a rs _ (λru hr=>hs ru (cu _ hr)) h1 ru e hp hk
def EH (a:OP aa ns cs){k:Nat}{g:G}(h:Lk aa ns cs k g):Lk aa ns cs (k+1) (uN ns aa g):=λru hr hp hk=>by
 by_cases c:nN cs ru.1 < k
 .exact(rX a aa g (λ_ z=>z) h).1 ru hr hp c
 exact rW a aa g (λ_ z=>z) h ru hr hp ∅
theorem u6 (a:OP aa ns cs):∀n,Lk aa ns cs n (passes (uN ns aa) n λ_=>none)
 | 0=>λ_ _ _ h=>absurd h (me _)
 | n+1=>EH a (u6 a n)
theorem u5 (ns:List Str)(aa:List au)(x:Str):∀n,0<=bG (passes (uN ns aa) n λ_=>none) x
 | 0=>ix _
 | n+1=>o5 (u5 ns aa x n) (rV ns aa _ x)
def Gv:∀(l:List Str)(x:Str),x∈l->nN l x < l.length:=λl x h=>(bh.mp (nr l x h)).1
def EI (rh:∀x,Em aa x->x∈ns)(a:OP aa ns cs){n:Nat}(hl:cs.length<=n):uk aa (bG (passes (uN ns aa) n λ_=>none)) :=
 ⟨λz=>u5 ns aa z n,λru hr hp=>u6 a n ru hr (λp j7=>rh p (hp p j7)) (gk (Gv cs ru.1 (a ru hr λp j7=>rh p (hp p j7)).1) hl)⟩
end
def zx (aa:List au) (ms:List Str):Prop:=∀(i:Nat)(h:Str),ms[i]?=some h->(∃hX,aa[0]?=some hX/\h=hX.1)\/∃ru∈aa,ru.1∈ms.take i/\h∈ru.2
def HS (aa:List au)(ru:au) (j:Nat)(z:Str):Prop:=ru.2[j]?=some z/\z∈hm aa/\∀(k:Nat)(y:Str),k≠j->ru.2[k]?=some y->y∈bV false aa
def PlO (aa:List au) (cs:List Str):Prop:=∀(i:Nat)(h:Str),cs[i]?=some h->∀ru∈aa,ru.1=h->∀(j:Nat)(z:Str),HS aa ru j z->z∈cs.take i
structure CI (aa:List au) (ms cs:List Str):Prop where
 mo:zx aa ms
 ma:∀z∈hm aa,z∈ms
 cn:cs.Nodup
 ch:∀x∈cs,x∈hm aa
 co:PlO aa cs
 ca:∀z∈hm aa,z∈cs
 ub:∀z∈hm aa,UB aa z 60
 bd:∃b,uk aa b/\∀h∈hd aa,b h<=60
def Gh {aa:List au}{M:List Str}(O:zx aa M)(mA:∀h∈hd aa,h∈M):∀hX ms,aa[0]?=some hX->hX.1∈ms->Ec aa aa.length ms->∀h∈hd aa,h∈ms:=λhX ms e0 h0 mc=>by
 have key:∀(n i:Nat),i < n->∀h:Str,M[i]?=some h->h∈ms:=by
  intro n
  induction n with
  | zero=>intro i hi;omega
  | succ n ih =>
   intro i hi h e;rcases O i h e with ⟨r0,e1,e2⟩ | ⟨ru,fZ,h1,h2⟩
   .rw [e0] at e1;cases e1;rw [e2];exact h0
   obtain⟨j,lj,ej⟩:=n_ h1;exact mc ru (by rw [cC];exact fZ) (ih j ∅ _ ej) h h2
 intro h hh;obtain⟨i,hi⟩:=fQ (mA h hh);exact key (i+1) i ∅ h hi
def Ci {aa:List au}{rk:Str->Nat}(h:∀ru∈aa,∀(j:Nat)(z:Str),ru.2[j]?=some z->z∈hd aa->(∀(k:Nat)(y:Str),k≠j->ru.2[k]?=some y->Em aa y)->rk z < rk ru.1):Br aa rk:=by
 rintro aQ emp lH n k j ⟨hX,z0,e1,e2,e3,e4,e5⟩ ru z er ez;rw [er] at e1;obtain rfl:ru=hX:=gi e1;rw [ez] at e3;obtain rfl:z=z0:=gi e3;rw [<-e2];refine h ru (cA er) j z ez e4 λk' y nk ey=>?_;have:=yJ e5 ey nk;exact Bf emp y (cI this)
def CI.good {aa:List au}{ms cs:List Str}(g:CI aa ms cs):∃rk b,Good aa rk b:=by
 obtain⟨b,hb,hm6⟩:=g.bd;refine⟨nN cs,b,λgg st se h hh=>?_,Gh g.mo λh hh=>g.ma h (mx.mpr hh),Ci λru fZ j z ez hz Lm=>?_,hb,hm6⟩
 .exact g.ub h (mx.mpr hh) gg st se
 exact lD cs z _ (g.co _ _ (nr cs ru.1 (g.ca _ (iO fZ))) ru fZ rfl j z ⟨ez,mx.mpr hz,λk y nk ey=>tR (Lm k y nk ey)⟩)
structure U2 (aa:List au) (nms ws:List Str):Prop where
 nd:nms.Nodup
 oY:nms.length<=9
 dj:∀x∈nms,x∉ws
 first:∀hX,aa[0]?=some hX->nms[0]?=some hX.1
 A2:∀ru∈aa,ru.1∈nms
 on:∀(a:Nat)(h:Str),nms[a]?=some h->∃cR,(h,cR)∈aa/\((∃n' us vs,nms[a+1]?=some n'/\cR=us++n'::vs/\(∀p∈us,p∈ws)/\∀p∈vs,p∈ws)\/(nms.length=a+1/\∀p∈cR,p∈ws))
 sh:∀ru∈aa,(∃p∈ru.2,p∈ws)\/ru.2=[]\/∃n',nms[nN nms ru.1+1]?=some n'/\ru.2=[n']
theorem pZ:∀{l:List Str},l.Nodup->∀{a:Nat}{x:Str},l[a]?=some x->nN l x=a
 | y::l,nd,0,x,e=>by
  cases e;unfold nN;rw [aw rfl]
 | y::l,nd,a+1,x,e=>by
  have e':l[a]?=some x:=e;have ne:y≠x:=λz=>(iL.mp nd).1 (z ▸ cA e');unfold nN;rw [ax ne,pZ (iL.mp nd).2 e']
theorem og {f:Str->Int}:∀(ps:List Str),(∀x∈ps,f x=0)->(ps.map f).sum=0
 | [],_=>rfl
 | a::r,h=>by
  rw [cH,kI,h a bQ,og r λx hx=>h x (cu _ hx)];rfl
def U2.good {aa:List au}{nms ws:List Str}(c:U2 aa nms ws):∃rk b,Good aa rk b:=by
 have hN:∀x,x∈hd aa->x∈nms:=λx hx=>by
  obtain⟨ru,a,b⟩:=Ln hx;exact b ▸ c.A2 ru a
 have wN:∀x∈ws,x∉hd aa:=λx hx h=>c.dj x (hN x h) hx;have ZP:∀x∈ws,¬Em aa x:=λx hx h=>wN x hx (LA h);have ub:∀(n a:Nat)(h:Str),a+n=nms.length->nms[a]?=some h->UB aa h (n:Int):=by
  intro n
  induction n with
  | zero =>
   intro a h l e;have:=(bh.mp e).1;omega
  | succ n ih =>
   intro a h l e;obtain⟨cR,hm,hp⟩:=c.on a h e;have wd:∀p∈ws,p∈cR->UB aa p 0:=λp hpw j7=>Bw (wN p hpw) hm j7;rcases hp with ⟨n',us,vs,en,rfl,Rq,Cj⟩ | ⟨_,hw⟩
   .have GX:=ih (a+1) n' ∅ en;have ne:∀p∈ws,p≠n':=λp hp z=>c.dj n' (cA en) (z ▸ hp);have h1:=wt hm (f:=λp=>if p=n' then (n:Int) else 0) λp hp=>by
     by_cases cc:p=n'
     .rw [aw cc,cc];exact GX
     rw [ax cc];refine wd p ?_ hp;rcases bY.mp hp with q | q
     .exact Rq p q
     rcases bO.mp q with q | q
     .exact absurd q cc
     exact Cj p q
    refine h1.le ?_;rw [br,List.sum_append,cH,kI,aw rfl,og us λx hx=>ax (ne x (Rq x hx)),og vs λx hx=>ax (ne x (Cj x hx))];push_cast;omega
   have h1:=wt hm (f:=λ_=>0) λp hp=>wd p (hw p hp) hp;refine h1.le ?_;rw [og cR λ_ _=>rfl];push_cast;omega
 refine⟨λx=>nms.length - nN nms x,λx=>if x∈nms then ((nms.length - nN nms x:Nat):Int) else 0,λgg st se h hh=>?_,Gh (M:=nms) (λi h e=>?_) λh hh=>hN h hh,Ci λru fZ j z ez hz Lm=>?_,⟨λz=>?_,λru fZ Lm=>?_⟩,λh hh=>?_⟩
 .obtain⟨a,e⟩:=fQ (hN h hh);have la:=(bh.mp e).1;have:=c.oY;exact((ub (nms.length - a) a h ∅ e).le (show ((nms.length - a:Nat):Int)<=60 by omega)) gg st se
 .match i,e with
  | 0,e =>
   obtain⟨cR,hm,_⟩:=c.on 0 h e;obtain⟨k,ek⟩:=fQ hm;have l0:0 < aa.length:=by have:=(bh.mp ek).1;omega
   refine .inl ⟨aa[0],cT l0,?_⟩;have:=c.first _ (cT l0);rw [e] at this;exact gi this
  | i+1,e =>
   have li:=(bh.mp e).1;have e5:nms[i]?=some (nms[i]'∅):=cT ∅;obtain⟨cR,hm,hp⟩:=c.on i _ e5;refine .inr ⟨_,hm,?_,?_⟩
   .refine cA (i:=i) ?_;rw [rT ∅];exact e5
   rcases hp with ⟨n',us,vs,en,rfl,_⟩ | ⟨l,_⟩
   .rw [e] at en;cases en;exact dD _ bQ
   omega
 .rcases c.sh ru fZ with ⟨p,hp,hw⟩ | h | ⟨n',en,h⟩
  .exfalso;obtain⟨k,ek⟩:=fQ hp;by_cases ck:k=j
   .subst ck;rw [ez] at ek;cases ek;exact wN _ hw hz
   exact ZP p hw (Lm k p ck ek)
  .rw [h] at ez;cases ez
  rw [h] at ez;have Lz:z=n':=by
   match j,ez with
   | 0,e=>exact(gi e).symm
   | _+1,e=>cases e
  subst Lz;have i1:=pZ c.nd en;have:=(bh.mp en).1;show nms.length - nN nms z < nms.length - nN nms ru.1;omega
 .show (0:Int)<=if z∈nms then _ else 0
  split
  .omega
  exact ix _
 .have hn:=c.A2 ru fZ;show 1+(ru.2.map λx=>if x∈nms then ((nms.length - nN nms x:Nat):Int) else 0).sum<=if ru.1∈nms then ((nms.length - nN nms ru.1:Nat):Int) else 0;rw [aw hn];have li:=Gv nms ru.1 hn;rcases c.sh ru fZ with ⟨p,hp,hw⟩ | h | ⟨n',en,h⟩
  .exact absurd (Lm p hp) (ZP p hw)
  .rw [h];show 1+0<=_;omega
  rw [h];have i1:=pZ c.nd en;have:=(bh.mp en).1;rw [cH,kI,aw (cA en),i1];show 1+(_+0)<=_;omega
 show (if h∈nms then ((nms.length - nN nms h:Nat):Int) else 0)<=60;have:=c.oY
 split
 .omega
 decide
structure DS (hs:List Str)(H5:Hp)(d:Addr)(kvs:List (aM×V)) (ks:List Str)(g:G):Prop where
 hd:H5 d=some (.dK kvs)
 keys:kvs.map (·.1)=ks.map Sum.inr
 nd:ks.Nodup
 sub:∀x∈ks,x∈hs
 val:∀z,bj kvs (Sum.inr z)=(g z).map V.int
def DS.len {hs:List Str}{H5:Hp}{d:Addr}{kvs:List (aM×V)}{ks:List Str}{g:G}(h:DS hs H5 d kvs ks g):kvs.length<=hs.length:=by
 have h1:=congrArg List.length h.keys;have h2:=gE ks _ h.nd h.sub;rw [ar,ar] at h1;omega
def DS.same {hs:List Str}{H5 H6:Hp}{d:Addr}{kvs:List (aM×V)}{ks:List Str}{g:G}(h:DS hs H5 d kvs ks g)(s:aE H5 H6):DS hs H6 d kvs ks g:=⟨s _ _ h.hd,h.keys,h.nd,h.sub,h.val⟩
def DS.other {hs:List Str}{H5:Hp}{d e:Addr}{o:HO}{kvs:List (aM×V)}{ks:List Str}{g:G}(h:DS hs H5 d kvs ks g)(n:d≠e):DS hs (upd H5 e o) d kvs ks g:=⟨by rw [ak n];exact h.hd,h.keys,h.nd,h.sub,h.val⟩
def DS.get {hs:List Str}{H5:Hp}{d:Addr}{kvs:List (aM×V)}{ks:List Str}{g:G}(h:DS hs H5 d kvs ks g)(z:Str):cD H5 d (.str z) ((g z).map V.int):=by
 have:=cD.k (k:=Sum.inr z) h.hd;rw [h.val] at this;exact this
def DS.put {hs:List Str}{H5:Hp}{d:Addr}{kvs:List (aM×V)}{ks:List Str}{g:G}(h:DS hs H5 d kvs ks g){x:Str}(hr:x∈hs) (n:Int) :
  DS hs (upd H5 d (.dK (bX kvs (Sum.inr x) (.int n)))) d (bX kvs (Sum.inr x) (.int n)) (gG ks x) (dw g x n):=by
 refine⟨ae,ir h.keys x,oS x h.nd,λy hy=>?_,λz=>?_⟩
 .rcases (i5 ks x y).mp hy with z | z
  .exact h.sub y z
  rw [z];exact hr
 rw [rZ];unfold dw;by_cases c:z=x
 .rw [aw c,aw (by rw [c])];rfl
 rw [ax c,ax (λe=>c (kR e)),h.val]
def getD_map (o:Option Int) (n:Int):(o.map V.int).getD (.int n)=.int (o.getD n):=by cases o <;> rfl
def vI {K:a0}{H:Hp}{p D d:Addr}{zs hs:List Str}{kvs:List (aM×V)}{ks:List Str}{g:G}{σ:St}{js:List (Nat×Str)}{Qp:Hp->Prop}(hσ:dN ["_law_part"] js σ=[none,aF d])(hp:aT K H p (zs.map V.str))(hz:zs.length<=1000)
  (hg:DS hs H d kvs ks g)(hD:H D=none)(q:∀H2,aE H H2->H2 D=some (.lst ((zs.map λz=>(g z).getD 0).map V.int))->Qp H2) :
  ∃W:Nat->Nat->List V->St->Hp->Prop,(∃m,W 0 m [] (dN ["_law_part"] js σ) (upd H D (.lst []))) /\
 ∀i m ys σ' H,W i m ys σ' H->((oV K p).stop i H/\Qp H)\/((oV K p).go i H/\∃m',m' < m/\∀x H',(oV K p).mT i H x H'->di 0 x σ' H' λσ2 H2=>hV σ2 H2 λb H3 =>
  if b=true then EM (gO 1) (gO 0) (tC (.int 0)) σ2 H3 λy H4=>H4 D=some (.lst ys)/\ys.length < sizeLine/\W (i+1) m' (ys++[y]) σ2 (upd H4 D (.lst (ys++[y]))) else W (i+1) m' ys σ2 H3):=by
 refine gM (xs:=zs.map V.str) (λi ys σ2 H2=>ys=(((zs.take i).map λz=>(g z).getD 0).map V.int)/\(∃y0,σ2=[y0,aF d])/\aE H H2/\H2 D=some (.lst ys))
  ⟨rfl,⟨none,hσ⟩,af hD _,ae⟩ (λi ys σ2 H2 _ h=>h.2.2.1.tup hp) (λi x ys σ2 H2 ex h=>?_) (λys σ2 H2 h=>?_)
 .obtain⟨rfl,⟨y0,rfl⟩,sm,hd2⟩:=h;rw [bf] at ex;obtain⟨z,ez,rfl⟩:=b_.mp ex;have li:=(bh.mp ez).1;refine goN (yS ?_);refine⟨_,rfl,d,rfl,.inl ⟨_,.inl (sm _ _ hg.hd)⟩,_,rfl,_,(hg.same sm).get z,?_⟩;rw [getD_map];refine⟨hd2,bq (by rw [ar,ar,d0];omega),?_,⟨_,rfl⟩,?_,ae⟩
  .rw [cQ,ez,br,br];rfl
  intro b o hb;rw [ak (λz=>by rw [z,hD] at hb;cases hb)];exact sm b o hb
 obtain⟨rfl,_,sm,hd2⟩:=h;rw [ar,cC] at hd2;exact q H2 sm hd2
section
def LJ (aa:List au)(l:G):Prop:=∀z n,l z=some n->UB aa z n
def ET (K:a0):Sp:=λvs H Q _=>∃(R N:Addr)(rs:List Addr)(aa:List au) (ns:List Str),vs=[.ref R,.ref N]/\aI K H R (rs.map V.ref)/\bT K H rs aa/\Small aa/\H N=some (.lst (ns.map V.str))/\ns.length<=1000 /\
 ∀(b:Bool)(H':Hp),aE H H'->(b=true->(∀z∈hm aa,UB aa z 60)/\∀h∈hm aa,bG (passes (uN ns aa) aa.length λ_=>none) h<=60)->Q (.bl b) H'
abbrev NVs:List Str:=["_law_rules","_law_empty","_law_head","_law_parts","_law_heads","_law_greatest","_law_least","_law_again","_law_size"]
def jV:aN NVs ["_law_rules","_law_empty"] (aA E9):=je rfl rfl rfl rfl nofun
structure OC (K:a0)(aa:List au)(H H5:Hp)(D dg dl:Addr)(kg kl:List (aM×V)) (sg sl:List Str)(g l:G):Prop where
 sm:aE H H5
 eD:H5 D=some (.lst ((hm aa).map V.str))
 gs:DS (hm aa) H5 dg kg sg g
 ls:DS (hm aa) H5 dl kl sl l
 lj:LJ aa l
theorem OC.same {aa:List au}{H H5 H6:Hp}{D dg dl:Addr}{kg kl:List (aM×V)}{sg sl:List Str}{g l:G}(h:OC K aa H H5 D dg dl kg kl sg sl g l)(s:aE H5 H6):OC K aa H H6 D dg dl kg kl sg sl g l :=
 ⟨h.sm.trans s,s _ _ h.eD,h.gs.same s,h.ls.same s,h.lj⟩
def Jl (F:iG K "_law_not_vast" "_law_not_vast" E9 f fd)(T:Txt mg):bR P w K mg base fK 1 f fd ["_law_rules","_law_empty"] (ET K):=by
 refine F.ok jV (λvs H Q E h=>?_) (λeJ A outer s H vs Q E hr h=>?_)
 .obtain⟨R,N,rs,aa,ns,rfl,_⟩:=h;rfl
 obtain⟨R,N,rs,aa,ns,rfl,hR,cY,qJ,hN,hnl,q⟩:=h;have hu:=ff hr;have NA:=qJ.most;refine⟨_,ai (aC (i:=4) jV.nd rfl (Or.inr rfl) (aV ["_law_head","_law_parts"] [] rfl (aP (pv 0)) (aS rfl rfl) nofun rfl nofun
   (λ_ _ _ _ _=>dq (n:=2) K rfl (az (aq (i:=0) (show (["_law_head","_law_parts"]:List Str).Nodup by decide +kernel) rfl (a_ rfl)) (az (aq (i:=1) (show (["_law_head","_law_parts"]:List Str).Nodup by decide +kernel) rfl (a_ rfl)) bz))) (λ_ _ _ _ _=>bF)
   (λ_ _ _ _ _=>pv 0)))
  (ai (aC (i:=5) jV.nd rfl (Or.inr rfl) fu)
  (ai (aC (i:=6) jV.nd rfl (Or.inr rfl) fu)
  (ai (bD b8 rfl (aP (pv 0)) (aq (i:=7) jV.nd rfl (a_ rfl))
   (ao (bD b8 rfl (aP (pv 0)) (dq (n:=2) K rfl (az (aq (i:=2) jV.nd rfl (a_ rfl)) (az (aq (i:=3) jV.nd rfl (a_ rfl)) bz)))
    (ai (e_ (cy (gX (aR (dF rfl) rfl T.all boot_all (ab (aV ["_law_part"] [(1,"_law_empty")] rfl (d7 (pv 3)) (aS rfl rfl) nofun rfl nofun
       (λ_ _ _ _ _=>aq (i:=0) (show (["_law_part","_law_empty"]:List Str).Nodup by decide +kernel) rfl (a_ rfl)) (λ_ _ _ _ _=>bF) (λ_ _ _ _ _=>fc (d8 K) (pv 0) (pv 1) rfl)) aj)))
     (ai (aC (i:=8) jV.nd rfl (a_ rfl) (aL d_ av (aR (lX rfl) rfl T.sum wc (ab (aV ["_law_part"] [(5,"_law_greatest")] rfl (d7 (pv 3)) (aS rfl rfl) nofun rfl nofun
       (λ_ _ _ _ _=>aq (i:=0) (show (["_law_part","_law_greatest"]:List Str).Nodup by decide +kernel) rfl (a_ rfl)) (λ_ _ _ _ _=>bF) (λ_ _ _ _ _=>iU hu (pv 1) (pv 0) av ⟨rfl,rfl,rfl,rfl⟩)) aj))))
     (ao (gB hu (pv 5) (pv 2) (aR (vJ rfl) rfl T.max PyProof.Rows.boot_max (ab (iU hu (pv 5) (pv 2) av ⟨rfl,rfl,rfl,rfl⟩) (ab (pv 8) aj))) rfl))) aZ))
    (ao (cy (gX (aR (dF rfl) rfl T.all boot_all (ab (aV ["_law_part"] [(6,"_law_least"),(4,"_law_heads")] rfl (d7 (pv 3)) (aS rfl rfl) nofun rfl nofun
       (λ_ _ _ _ _=>aq (i:=0) (show (["_law_part","_law_least","_law_heads"]:List Str).Nodup by decide +kernel) rfl (a_ rfl)) (λ_ _ _ _ _=>bF)
       (λ_ _ _ _ _=>KU (sP (jY hu (pv 0) (pv 1))) (pU (fc (jm K) (pv 0) (pv 2) rfl)))) aj)))
     (ai (aC (i:=8) jV.nd rfl (a_ rfl) (aL d_ av (aR (lX rfl) rfl T.sum wc (ab (aV ["_law_part"] [(6,"_law_least")] rfl (d7 (pv 3)) (aS rfl rfl) nofun rfl nofun
       (λ_ _ _ _ _=>aq (i:=0) (show (["_law_part","_law_least"]:List Str).Nodup by decide +kernel) rfl (a_ rfl)) (λ_ _ _ _ _=>bF) (λ_ _ _ _ _=>iU hu (pv 1) (pv 0) av ⟨rfl,rfl,rfl,rfl⟩)) aj))))
     (ao (gB hu (pv 6) (pv 2) (aR (DR rfl) rfl T.min PyProof.Rows.boot_min (ab (iU hu (pv 6) (pv 2) (pv 8) ⟨rfl,rfl,rfl,rfl⟩) (ab (pv 8) aj))) rfl))) aZ))))))
  (ao (bC (aR (dF rfl) rfl T.all boot_all (ab (aV ["_law_name"] [(5,"_law_greatest"),(6,"_law_least")] rfl (aP (pv 4)) (aS rfl rfl) nofun rfl nofun
    (λ_ _ _ _ _=>aq (i:=0) (show (["_law_name","_law_greatest","_law_least"]:List Str).Nodup by decide +kernel) rfl (a_ rfl)) (λ_ _ _ _ _=>bF)
    (λ_ _ _ _ _=>sQ (fc KW (iU hu (pv 1) (pv 0) av ⟨rfl,rfl,rfl,rfl⟩) av (cM _)) (pU (fc KW (iU hu (pv 2) (pv 0) av ⟨rfl,rfl,rfl,rfl⟩) av (cM _))))) aj))))))),?_⟩
 have ll:=bI cY;have yQ:(hm aa).length=aa.length:=by unfold hm;rw [ar]
 refine⟨_,rfl,R,rfl,⟨_,hR⟩,λD hD=>iZ hR cY ∅ hD λH1 s1 eD=>?_⟩;refine goN ?_;refine λdg RU=>?_;have k2:=af RU (.dK []);have e2:upd H1 dg (.dK []) dg=some (.dK []):=ae;have fdg:H dg=none:=s1.free RU;have nDg:D≠dg:=λz=>by rw [<-z,eD] at RU;cases RU
 generalize upd H1 dg (.dK [])=H2 at k2 e2;have Cu:=k2 _ _ eD;refine λdl yQ=>?_;have k3:=af yQ (.dK []);have e3:upd H2 dl (.dK []) dl=some (.dK []):=ae;have fdl:H dl=none:=(s1.trans k2).free yQ;have nDl:D≠dl:=λz=>by rw [<-z,Cu] at yQ;cases yQ
 have ZJ:dg≠dl:=λz=>by rw [<-z,e2] at yQ;cases yQ
 generalize upd H2 dl (.dK [])=H3 at k3 e3;have S0:OC K aa H H3 D dg dl [] [] [] [] (λ_=>none) (λ_=>none):=⟨(s1.trans k2).trans k3,k3 _ _ Cu,⟨k3 _ _ e2,rfl,iA,λ_ h=>(by cases h),λ_=>rfl⟩,⟨e3,rfl,iA,λ_ h=>(by cases h),λ_=>rfl⟩,λ_ _ h=>(by cases h)⟩;clear k3 e3 k2 e2 Cu eD s1 hD RU yQ;refine⟨_,rfl,R,rfl,⟨_,S0.sm.seq hR⟩,?_⟩;refine bZ (xs:=rs.map V.ref) (λi σ H5=>∃(kg kl:List (aM×V)) (sg sl:List Str)(g l:G)(y2 y3 y7 y8:Option V),σ=[aF R,aF N,y2,y3,aF D,aF dg,aF dl,y7,y8]/\OC K aa H H5 D dg dl kg kl sg sl g l/\g=passes (uN ns aa) i λ_=>none)
  ⟨[],[],[],[],_,_,_,_,_,_,rfl,S0,rfl⟩ ?_ ?_ ?_
 .rintro i σ H5 _ ⟨kg,kl,sg,sl,g,l,y2,y3,y7,y8,rfl,S5,_⟩;exact S5.sm.seq hR
 .rintro i x σ H5 ex ⟨kg,kl,sg,sl,g,l,y2,y3,y7,y8,rfl,S5,Hh⟩;refine goN ?_;refine⟨_,rfl,R,rfl,⟨_,S5.sm.seq hR⟩,?_⟩;refine bZ (xs:=rs.map V.ref) (λj σ H6=>∃(kg kl:List (aM×V)) (sg sl:List Str)(g6 l:G)(y2 y3 y8:Option V),σ=[aF R,aF N,y2,y3,aF D,aF dg,aF dl,some x,y8]/\OC K aa H H6 D dg dl kg kl sg sl g6 l/\g6=(aa.take j).foldl (d5 ns) g)
   ⟨kg,kl,sg,sl,_,_,_,_,_,rfl,S5,rfl⟩ ?_ ?_ ?_
  .rintro j σ H6 _ ⟨kg,kl,sg,sl,g6,l,y2,y3,y8,rfl,S6,_⟩;exact S6.sm.seq hR
  .rintro j x2 σ H6 jM ⟨kg,kl,sg,sl,g6,l,y2,y3,y8,rfl,S6,Iv⟩;rw [bf] at jM;obtain⟨r,er,rfl⟩:=b_.mp jM;obtain⟨ru,e1,p,v1,v2⟩:=cY.get er;have fZ:=cA e1;have h6r:=qJ.oY ru fZ;have hh:ru.1∈hm aa:=iO fZ;have tk:(aa.take (j+1)).foldl (d5 ns) g=d5 ns g6 ru:=by rw [cQ,e1,vX,<-Iv];rfl
   refine⟨r,_,rfl,S6.sm.tup v1,rfl,_,_,rfl,_,_,rfl,rfl,?_⟩;refine⟨λσ H7=>∃(kg:List (aM×V)) (sg:List Str)(y8:Option V),σ=[aF R,aF N,some (.str ru.1),aF p,aF D,aF dg,aF dl,some x,y8]/\OC K aa H H7 D dg dl kg kl sg sl (d5 ns g6 ru) l,?_,?_⟩
   .refine⟨_,rfl,p,rfl,⟨_,S6.sm.tup v2⟩,λD9 vq=>gL (zs:=ru.2) [aF N] (λz=>decide (z∈ns)) rfl (S6.sm.tup v2) ∅ vq (λz _ HA Qy sA hq=>?_) λH9 s9 e9=>?_⟩
    .refine⟨_,rfl,_,rfl,N,_,rfl,.inl (aI.of (sA _ _ (S6.sm _ _ hN))),rfl,cf _,?_⟩;rw [dI];exact hq
    have S9:=S6.same s9;refine⟨D9,_,rfl,aI.of e9,_,rfl,?_⟩;rw [all_map];refine cx (λca=>?_) (λca=>?_)
    .refine⟨_,rfl,p,rfl,⟨_,S9.sm.tup v2⟩,λDA Pd=>vI rfl (S9.sm.tup v2) ∅ S9.gs Pd λHA sA eA=>?_⟩;have SA:=S9.same sA;refine⟨DA,_,rfl,aI.of eA,_,_,rfl,rfl,?_⟩;refine⟨_,rfl,dg,rfl,.inl ⟨_,.inl SA.gs.hd⟩,_,rfl,_,SA.gs.get ru.1,?_⟩;rw [getD_map];refine⟨_,rfl,_,_,rfl,?_⟩;have ln:=SA.gs.len;refine⟨_,rfl,_,rfl,dg,_,rfl,lK.k (k:=Sum.inr ru.1) SA.gs.hd (bq ∅),?_⟩;have ev:d5 ns g6 ru=dw g6 ru.1 (if aH g6 ru > bG g6 ru.1 then aH g6 ru else bG g6 ru.1):=by unfold d5;rw [aw ca]
     have P1:=SA.gs.put hh (if aH g6 ru > bG g6 ru.1 then aH g6 ru else bG g6 ru.1);rw [<-ev] at P1;refine⟨_,_,_,rfl,⟨λb o hb=>?_,?_,P1,SA.ls.other (fk ZJ),SA.lj⟩⟩
     .rw [ak (λz=>by rw [z,fdg] at hb;cases hb)];exact SA.sm b o hb
     rw [ak nDg];exact SA.eD
    have ev:d5 ns g6 ru=g6:=by unfold d5;rw [ax ca]
    refine⟨kg,sg,_,rfl,?_⟩;rw [ev];exact S9
   rintro σ H7 ⟨kg,sg,y8,rfl,S7⟩;generalize hg7:d5 ns g6 ru=g7 at *;refine⟨_,rfl,p,rfl,⟨_,S7.sm.tup v2⟩,λD9 vq=>gL (zs:=ru.2) [aF dl,aF D] (λz=>(l z).isSome || !decide (z∈hm aa)) rfl (S7.sm.tup v2) ∅ vq (λz _ HA Qy sA hq=>?_) λH9 s9 e9=>?_⟩
   .refine⟨_,rfl,_,rfl,dl,_,rfl,(S7.ls.same sA).get z,_,rfl,?_⟩;rw [mQ];refine cx (λc=>?_) (λc=>?_)
    .rw [c,Bool.true_or] at hq;exact hq
    have c':(l z).isSome=false:=by simpa using c
    rw [c',Bool.false_or] at hq;refine⟨_,rfl,_,rfl,D,_,rfl,.inl (aI.of (sA _ _ S7.eD)),rfl,cf _,?_⟩;rw [dI];exact hq
   have S9:=S7.same s9;refine⟨D9,_,rfl,aI.of e9,_,rfl,?_⟩;rw [all_map];refine cx (λca=>?_) (λca=>?_)
   .refine⟨_,rfl,p,rfl,⟨_,S9.sm.tup v2⟩,λDA Pd=>vI rfl (S9.sm.tup v2) ∅ S9.ls Pd λHA sA eA=>?_⟩;have SA:=S9.same sA;refine⟨DA,_,rfl,aI.of eA,_,_,rfl,rfl,?_⟩;refine⟨_,rfl,dl,rfl,.inl ⟨_,.inl SA.ls.hd⟩,_,rfl,_,rfl,_,SA.ls.get ru.1,?_⟩;rw [getD_map];refine⟨_,rfl,_,_,rfl,?_⟩;have ln:=SA.ls.len;refine⟨_,rfl,_,rfl,dl,_,rfl,lK.k (k:=Sum.inr ru.1) SA.ls.hd (bq ∅),?_⟩;have sz:UB aa ru.1 (aH l ru):=wt (h:=ru.1) (ps:=ru.2) fZ (f:=λp=>(l p).getD 0) λp hp=>by
     have:=dP.mp ca p hp;cases el:l p with
     | some n=>exact S7.lj p n el
     | none =>
      rw [el] at this;have nn:p∉hm aa:=by simpa using this
      exact Bw (λz=>nn (mx.mpr z)) fZ hp
    refine⟨kg,_,sg,_,_,_,_,_,_,rfl,⟨λb o hb=>?_,?_,SA.gs.other ZJ,SA.ls.put hh _,λz n e=>?_⟩,tk.symm⟩
    .rw [ak (λz=>by rw [z,fdl] at hb;cases hb)];exact SA.sm b o hb
    .rw [ak nDl];exact SA.eD
    unfold dw at e;by_cases c:z=ru.1
    .rw [aw c] at e;cases e;rw [c]
     split
     .exact sz
     cases el:l ru.1 with
     | none=>exact sz
     | some n=>exact S7.lj _ n el
    rw [ax c] at e;exact SA.lj z n e
   exact⟨_,_,_,_,_,_,_,_,_,rfl,S9,tk.symm⟩
  rintro σ H6 ⟨kg,kl,sg,sl,g6,l,y2,y3,y8,rfl,S6,Iv⟩;refine⟨kg,kl,sg,sl,g6,l,_,_,_,_,rfl,S6,?_⟩;rw [Iv,ar,ll,cC,Hh];rfl
 rintro σ H5 ⟨kg,kl,sg,sl,g,l,y2,y3,y7,y8,rfl,S5,Hh⟩;rw [ar,ll] at Hh;refine⟨_,rfl,D,rfl,⟨_,aI.of S5.eD⟩,λD9 vq=>lI (zs:=hm aa) [aF dg,aF dl] (λz=>decide ((g z).getD 0<=60) && decide ((l z).getD 61<=60)) rfl (aI.of S5.eD) ∅ vq (λz _ HA Qy sA hq=>?_) λH9 s9 e9=>?_⟩
 .have SA:=S5.same sA;refine⟨_,rfl,dg,rfl,.inl ⟨_,.inl SA.gs.hd⟩,_,rfl,_,SA.gs.get z,?_⟩;rw [getD_map];refine⟨_,_,rfl,rfl,_,rfl,?_⟩;refine cx (λc=>?_) (λc=>?_)
  .rw [c,jk] at hq;refine⟨_,rfl,dl,rfl,.inl ⟨_,.inl SA.ls.hd⟩,_,rfl,_,SA.ls.get z,?_⟩;rw [getD_map];exact⟨_,_,rfl,rfl,hq⟩
  have c':decide ((g z).getD 0<=60)=false:=by simpa using c
  rw [c',o_] at hq;exact hq
 refine⟨D9,_,rfl,aI.of e9,?_⟩;rw [all_map];refine q _ _ (S5.sm.trans s9) λhb=>⟨λz hz=>?_,λz hz=>?_⟩
 .have:=(iB.mp (dP.mp hb z hz)).2;have h6:=cI this;cases el:l z with
  | none=>rw [el] at h6;exact absurd h6 nofun
  | some n=>rw [el] at h6;exact(S5.lj z n el).le h6
 have:=(iB.mp (dP.mp hb z hz)).1;rw [<-Hh];exact cI this
end
def vG (zs:List Str) (j:Nat):ie (zs.map V.str) none (some (0+(j:Int)))=(zs.take j).map V.str:=by
 rw [kU];unfold ie;rw [HT.oy,HT.qY,rJ,Nat.sub_zero,ar,o8]
 conv=>rhs;rw [List.take_eq_take_min,ar]
def DN (zs:List Str) (j:Nat):ie (zs.map V.str) (some (0+(j:Int)+1)) none=(zs.drop (j+1)).map V.str:=by
 rw [kU,show (j:Int)+1=((j+1:Nat):Int) by push_cast;rfl];unfold ie;rw [HT.oy,HT.qY,ar,List.map_drop];by_cases h:j+1<=zs.length
 .rw [Nat.min_eq_left h,uL (by rw [rM,ar];exact aK _)]
 rw [Nat.min_eq_right ∅,Nat.sub_self,List.take_zero,List.drop_eq_nil_of_le (by rw [ar];omega)]
def zx.app {aa:List au}{ms zs:List Str}{ru:au}(h:zx aa ms)(hr:ru∈aa)(h1:ru.1∈ms)(h2:∀z∈zs,z∈ru.2):zx aa (ms++zs):=by
 intro i x hx;by_cases l:i < ms.length
 .rw [qo l] at hx;rcases h i x hx with a | ⟨r,a,b,c⟩
  .exact .inl a
  exact .inr ⟨r,a,by rw [qp ∅];exact b,c⟩
 rw [nX ∅] at hx;refine .inr ⟨ru,hr,?_,h2 x (cA hx)⟩;rw [List.take_append,uL ∅];exact dH _ h1
def Y5 (aa:List au)(ri:List au)(aX:List (Str×Str)):Prop:=∀ru∈ri,∀(j:Nat)(z:Str),HS aa ru j z->(ru.1,z)∈aX
structure PK (aa:List au)(aX:List (Str×Str)) (cs:List Str):Prop where
 cn:cs.Nodup
 ch:∀x∈cs,x∈hm aa
 co:∀(i:Nat)(h:Str),cs[i]?=some h->∀z,(h,z)∈aX->z∈cs.take i
def PK.add {aa:List au}{aX:List (Str×Str)}{cs:List Str}{nm:Str}(h:PK aa aX cs)(n:nm∉cs)(hh:nm∈hm aa)(a:∀z,(nm,z)∈aX->z∈cs):PK aa aX (cs++[nm]):=by
 refine⟨jv.mpr ⟨h.cn,by simp,λx hx y hy z=>n (by rw [<-cg.mp hy,<-z];exact hx)⟩,λx hx=>?_,λi x hx z hz=>?_⟩
 .rcases bY.mp hx with q | q
  .exact h.ch x q
  rw [cg.mp q];exact hh
 by_cases l:i < cs.length
 .rw [qo l] at hx;rw [qp ∅];exact h.co i x hx z hz
 have li:=(bh.mp hx).1;rw [bB,fS] at li;have:i=cs.length:=by omega
 subst this;rw [nX (aK _),Nat.sub_self] at hx;cases hx;rw [qp (aK _),cC];exact a z hz
section
def EZ (K:a0):Sp:=λvs H Q _=>∃(R:Addr)(rs:List Addr)(aa:List au),vs=[.ref R]/\aI K H R (rs.map V.ref)/\bT K H rs aa/\Small aa /\
 ∀(b:Bool)(H':Hp),aE H H'->(b=true->∃ms cs,CI aa ms cs)->Q (.bl b) H'
abbrev NG:List Str:=["_law_rules","_law_head","_law_parts","_law_heads","_law_ended_here","_law_met","_law_again","_law_empty","_law_alone","_law_k","_law_others","_law_settled","_law_name","_law_good_here"]
def eY:aN NG ["_law_rules"] (aA Fi):=je rfl rfl rfl rfl nofun
def Jr (F:iG K "_law_good" "_law_good" Fi f fd)(T:Txt mg)(GE:aG P w K mg base 1 "_law_ended" ["_law_rules","_law_words_here"] (qT K))(GV:aG P w K mg base 1 "_law_not_vast" ["_law_rules","_law_empty"] (ET K)):bR P w K mg base fK 2 f fd ["_law_rules"] (EZ K):=by
 refine F.ok eY (λvs H Q E h=>?_) (λeJ A outer s H vs Q E hr h=>?_)
 .obtain⟨R,rs,aa,rfl,_⟩:=h;rfl
 obtain⟨R,rs,aa,rfl,hR,cY,qJ,q⟩:=h;have WM:=qJ.one;have NA:=qJ.most;refine⟨_,ai (aC (i:=3) eY.nd rfl (Or.inr rfl) (aV ["_law_head","_law_parts"] [] rfl (aP (pv 0)) (aS rfl rfl) nofun rfl nofun
   (λ_ _ _ _ _=>dq (n:=2) K rfl (az (aq (i:=0) (show (["_law_head","_law_parts"]:List Str).Nodup by decide +kernel) rfl (a_ rfl)) (az (aq (i:=1) (show (["_law_head","_law_parts"]:List Str).Nodup by decide +kernel) rfl (a_ rfl)) bz))) (λ_ _ _ _ _=>bF)
   (λ_ _ _ _ _=>pv 0)))
  (ai (aC (i:=4) eY.nd rfl (Or.inr rfl) (bK GE hr rfl (ab (pv 0) (ab gq aj))))
  (ai (aC (i:=5) eY.nd rfl (Or.inr rfl) (gZ qU (pv 3) jb (ij av)))
  (ai (bD b8 rfl (aP (pv 0)) (aq (i:=6) eY.nd rfl (a_ rfl))
   (ao (bD b8 rfl (aP (pv 0)) (dq (n:=2) K rfl (az (aq (i:=1) eY.nd rfl (a_ rfl)) (az (aq (i:=2) eY.nd rfl (a_ rfl)) bz)))
    (ao (cy (bu jC (pv 1) (pv 5) rfl)
     (ao (aC (i:=5) eY.nd rfl (Or.inr rfl) (aL iV (pv 5)
      (aV ["_law_part"] [(3,"_law_heads"),(5,"_law_met")] rfl (d7 (pv 2)) (aS rfl rfl) nofun rfl nofun
       (λ_ _ _ _ _=>aq (i:=0) (show (["_law_part","_law_heads","_law_met"]:List Str).Nodup by decide +kernel) rfl (a_ rfl))
       (λ_ _ _ _ _=>gC (PW.pt (mY (bu (d8 K) (pv 0) (pv 1) rfl) (jX (bu (jm K) (pv 0) (pv 2) rfl)))))
       (λ_ _ _ _ _=>pv 0))))) aZ)))))
  (ai (aC (i:=7) eY.nd rfl (Or.inr rfl) (bK GE hr rfl (ab (pv 0) (ab gq aj))))
  (ai (aC (i:=8) eY.nd rfl (a_ rfl) (bJ aj))
  (ai (bD b8 rfl (aP (pv 0)) (dq (n:=2) K rfl (az (aq (i:=1) eY.nd rfl (a_ rfl)) (az (aq (i:=2) eY.nd rfl (a_ rfl)) bz)))
   (ao (bD b8 rfl (iI rfl T.Fw (ab (aR bH rfl T.len gT (ab (pv 2) aj)) aj)) (aq (i:=9) eY.nd rfl (a_ rfl))
    (ai (aC (i:=10) eY.nd rfl (a_ rfl) (aL wZ (gZ om (pv 2) jb (ij (pv 9))) (gZ om (pv 2) (ij (aL d_ (pv 9) av)) jb)))
    (ao (cy (PW.pt (mY (bu jC (b9 cN (pv 2) (pv 9) (λ_ _=>rfl)) (pv 3) rfl) (jX (gX (aR (dF rfl) rfl T.all boot_all (ab
      (aV ["_law_part"] [(7,"_law_empty")] rfl (d7 (pv 10)) (aS rfl rfl) nofun rfl nofun
       (λ_ _ _ _ _=>aq (i:=0) (show (["_law_part","_law_empty"]:List Str).Nodup by decide +kernel) rfl (a_ rfl)) (λ_ _ _ _ _=>bF)
       (λ_ _ _ _ _=>fc (d8 K) (pv 0) (pv 1) rfl)) aj))))))
     (ao (cv (fY fU fV fX bA (pv 8) (ab (bU (ab (pv 1) (ab (b9 cN (pv 2) (pv 9) (λ_ _=>rfl)) aj))) aj)))) aZ))))))
  (ai (aC (i:=11) eY.nd rfl (Or.inr rfl) (bJ aj))
  (ai (bD b8 rfl (aP (pv 0)) (aq (i:=6) eY.nd rfl (a_ rfl))
   (ao (bD b8 rfl (aP (pv 3)) (aq (i:=12) eY.nd rfl (Or.inr rfl))
    (ao (cy (PW.pt (mY (gX (aR (dF rfl) rfl T.all boot_all (ab
      (aV ["_law_head","_law_other"] [(11,"_law_settled"),(12,"_law_name")] rfl (aP (pv 8)) (aS rfl rfl) nofun rfl nofun
       (λ_ _ _ _ _=>dq (n:=2) K rfl (az (aq (i:=0) (show (["_law_head","_law_other","_law_settled","_law_name"]:List Str).Nodup by decide +kernel) rfl (a_ rfl)) (az (aq (i:=1) (show (["_law_head","_law_other","_law_settled","_law_name"]:List Str).Nodup by decide +kernel) rfl (a_ rfl)) bz)))
       (λ_ _ _ _ _=>gC (bu jc (pv 0) (pv 3) (cM _)))
       (λ_ _ _ _ _=>fc (d8 K) (pv 1) (pv 2) rfl)) aj))) (jX (bu iD (pv 12) (pv 11) rfl))))
     (ao (cv (fY fU fV fX bA (pv 11) (ab (pv 12) aj)))) aZ)))))
  (ai (aC (i:=13) eY.nd rfl (a_ rfl) (aR (dF rfl) rfl T.all boot_all (ab
   (aV ["_law_name"] [(4,"_law_ended_here"),(5,"_law_met"),(11,"_law_settled")] rfl (aP (pv 3)) (aS rfl rfl) nofun rfl nofun
    (λ_ _ _ _ _=>aq (i:=0) (show (["_law_name","_law_ended_here","_law_met","_law_settled"]:List Str).Nodup by decide +kernel) rfl (a_ rfl)) (λ_ _ _ _ _=>bF)
    (λ_ _ _ _ _=>sQ (fc (d8 K) (pv 0) (pv 1) rfl) (sQ (fc (d8 K) (pv 0) (pv 2) rfl) (pU (fc (d8 K) (pv 0) (pv 3) rfl))))) aj)))
  (ao (bC (sQ (pv 13) (pU (bK GV hr rfl (ab (pv 0) (ab (pv 7) aj)))))))))))))))),?_⟩
 nofun
 have ll:=bI cY;refine⟨_,rfl,R,rfl,⟨_,hR⟩,λD hD=>iZ hR cY ∅ hD λH1 s1 eD=>?_⟩;refine goN ?_
 ac_rfl
 refine⟨_,rfl,R,rs,aa,true,rfl,s1.seq hR,cY.same s1,qJ,λEn H2 fE s2 eE lE=>?_⟩;refine goN ?_
 ac_rfl
 have XU:ie ((hm aa).map V.str) none (some 1)=((hm aa).take 1).map V.str:=vG (hm aa) 1;have yQ:(hm aa).length=aa.length:=by unfold hm;rw [ar]
 refine⟨_,rfl,_,rfl,D,_,rfl,aI.of (s2 _ _ eD),λM0 Xs=>?_⟩;rw [XU];have lm0:((hm aa).take 1).length<=1:=by rw [d0];omega
 have ZS:zx aa ((hm aa).take 1):=λi h e=>by
  have li:=(bh.mp e).1;have:i=0:=by omega
  subst this;rw [rT ∅] at e;rw [bf] at e;obtain⟨r0,e0,rfl⟩:=b_.mp e;exact .inl ⟨r0,e0,rfl⟩
 generalize (hm aa).take 1=m0 at lm0 ZS;have k3:=af Xs (.lst (m0.map V.str));have s3:=(s1.trans s2).trans k3;have J0:=k3 _ _ (s2 _ _ eD);have Sx:=k3 _ _ eE;have eM3:upd H2 M0 (.lst (m0.map V.str)) M0=some (.lst (m0.map V.str)):=ae;generalize upd H2 M0 (.lst (m0.map V.str))=H3 at k3 s3 J0 Sx eM3;refine goN ?_
 ac_rfl
 let xR:rB:=λi σ H4=>∃(M:Addr) (ms:List Str)(y1 y2 y6:Option V),σ=[aF R,y1,y2,aF D,aF En,aF M,y6,none,none,none,none,none,none,none]/\aE H3 H4/\H4 M=some (.lst (ms.map V.str))/\ms.length<=8+200 * i/\zx aa ms
 refine⟨_,rfl,R,rfl,⟨_,s3.seq hR⟩,bZ (xs:=rs.map V.ref) xR ⟨M0,m0,_,_,_,rfl,λ_ _ h=>h,eM3,∅,ZS⟩ ?_ ?_ ?_⟩
 .rintro i σ H4 _ ⟨M,ms,y1,y2,y6,rfl,s4,_⟩;exact s4.seq (s3.seq hR)
 .intro i x σ H4 ex uE
  ac_nf0
  obtain⟨M,ms,y1,y2,y6,rfl,s4,eM,lM,mO⟩:=uE;have li:=(bh.mp ex).1;rw [ar] at li;refine goN ?_
  ac_nf
  let Ed:rB:=λj σ H5=>∃(M:Addr) (ms:List Str)(y1 y2:Option V),σ=[aF R,y1,y2,aF D,aF En,aF M,some x,none,none,none,none,none,none,none]/\aE H3 H5/\H5 M=some (.lst (ms.map V.str))/\ms.length<=8+200 * i+6 * j/\zx aa ms
  refine⟨_,rfl,R,rfl,⟨_,s4.seq (s3.seq hR)⟩,bZ (xs:=rs.map V.ref) Ed ⟨M,ms,_,_,rfl,s4,eM,∅,mO⟩ ?_ ?_ ?_⟩
  .rintro j σ H5 _ ⟨M,ms,y1,y2,rfl,s5,_⟩;exact s5.seq (s3.seq hR)
  .intro j x2 σ H5 jM uE
   ac_nf0
   obtain⟨M,ms,y1,y2,rfl,s5,eM,lM,mO⟩:=uE;have lj:=(bh.mp jM).1;rw [ar] at lj;rw [bf] at jM;obtain⟨r,er,rfl⟩:=b_.mp jM;obtain⟨ru,e1,p,v1,v2⟩:=cY.get er;have fZ:=qJ.oY ru (cA e1);have B4:=s3.trans s5;refine⟨r,_,rfl,B4.tup v1,rfl,_,_,rfl,_,_,rfl,rfl,?_⟩;refine⟨_,rfl,_,rfl,M,_,rfl,.inl (aI.of eM),rfl,cf _,_,rfl,?_⟩;refine cx (λc=>?_) (λc=>?_)
   .refine⟨_,rfl,_,rfl,p,rfl,⟨_,B4.tup v2⟩,λD2 jI=>gM (xs:=ru.2.map V.str) (λk ys σ2 H6=>∃zs:List Str,ys=zs.map V.str/\zs.length<=k/\(∃y0,σ2=[y0,aF D,aF M])/\aE H5 H6/\H6 D2=some (.lst ys)/\∀z∈zs,z∈ru.2)
     ⟨[],rfl,aK _,⟨none,rfl⟩,af jI _,ae,λ_ h=>(by cases h)⟩ (λk ys σ2 H6 _ h=>?_) (λk v ys σ2 H6 ex h=>?_) (λys σ2 H6 h=>?_)⟩
    .obtain⟨_,_,_,_,s6,_⟩:=h;exact s6.tup (B4.tup v2)
    .obtain⟨zs,rfl,lz,⟨y0,rfl⟩,s6,Cu,zm⟩:=h;have lk:=(bh.mp ex).1;rw [ar] at lk;rw [bf] at ex;obtain⟨z,ez,rfl⟩:=b_.mp ex;refine goN ?_;refine⟨_,rfl,_,rfl,D,_,rfl,.inl (aI.of (s6 _ _ (s5 _ _ J0))),rfl,cf _,_,rfl,?_⟩;refine cx (λc1=>?_) (λc1=>?_)
     .refine⟨_,rfl,_,rfl,M,_,rfl,.inl (aI.of (s6 _ _ eM)),rfl,cf _,_,rfl,?_⟩;refine cx (λc2=>?_) (λc2=>?_)
      .refine⟨_,rfl,Cu,bq (by rw [ar];omega),zs++[z],by rw [br];rfl,by rw [bB];simp;omega,⟨_,rfl⟩,λb o hb=>?_,ae,λy hy=>(bY.mp hy).elim (zm y) λq=>(cg.mp q) ▸ cA ez⟩;rw [ak (λz=>by rw [z,jI] at hb;cases hb)];exact s6 b o hb
      exact⟨zs,rfl,∅,⟨_,rfl⟩,s6,Cu,zm⟩
     refine l7 ?_;exact⟨zs,rfl,∅,⟨_,rfl⟩,s6,Cu,zm⟩
    obtain⟨zs,rfl,lz,_,s6,Cu,zm⟩:=h;have cm:ru.1∈ms:=cI ((dI _ _).symm.trans c);rw [ar] at lz;refine⟨M,D2,_,_,rfl,rfl,s6 _ _ eM,Cu,fits (by rw [ar,ar];omega),λM2 hM2=>?_⟩;rw [<-br];refine⟨M2,ms++zs,_,_,rfl,(s5.trans s6).trans (af hM2 _),ae,by rw [bB];omega,mO.app (cA e1) cm zm⟩
   exact⟨M,ms,_,_,rfl,s5,eM,∅,mO⟩
  rintro σ H5 ⟨M,ms,y1,y2,rfl,s5,eM,lM,mO⟩;rw [ar,ll] at lM;exact⟨M,ms,_,_,_,rfl,s5,eM,∅,mO⟩
 rintro σ H4 ⟨M,ms,y1,y2,y6,rfl,s4,eM,lM,mO⟩;have yo:=s3.trans s4;refine⟨_,rfl,R,rs,aa,false,rfl,yo.seq hR,cY.same yo,qJ,λEm H5 fEm s5 eEm lEm=>?_⟩;refine goN ?_
 ac_rfl
 refine⟨uo,λAl XD=>?_⟩;have k6:=af XD (.lst []);have s6:=(yo.trans s5).trans k6;have eD6:=k6 _ _ (s5 _ _ (s4 _ _ J0));have eE6:=k6 _ _ (s5 _ _ (s4 _ _ Sx));have eM6:=k6 _ _ (s5 _ _ eM);have Sw:=k6 _ _ eEm;have eA6:upd H5 Al (.lst []) Al=some (.lst []):=ae;have nA:∀b o,H5 b=some o->b≠Al:=λb o h z=>by rw [z,XD] at h;cases h
 have nAD:=nA _ _ (s5 _ _ (s4 _ _ J0));have nAE:=nA _ _ (s5 _ _ (s4 _ _ Sx));have nAM:=nA _ _ (s5 _ _ eM);have nAm:=nA _ _ eEm;have fAl:H Al=none:=(yo.trans s5).free XD;generalize upd H5 Al (.lst [])=H6 at k6 s6 eD6 eE6 eM6 Sw eA6;refine goN ?_
 ac_rfl
 let Kp:Hp->Prop:=λH7=>aE H H7/\H7 D=some (.lst ((hm aa).map V.str))/\H7 En=some (.lst ((bV true aa).map V.str))/\H7 M=some (.lst (ms.map V.str))/\H7 Em=some (.lst ((bV false aa).map V.str))
 have j6:∀{H7 H8:Hp},Kp H7->aE H7 H8->Kp H8:=λh s=>⟨h.1.trans s,s _ _ h.2.1,s _ _ h.2.2.1,s _ _ h.2.2.2.1,s _ _ h.2.2.2.2⟩;have Q_:∀{H7:Hp}{xs:List V},Kp H7->Kp (upd H7 Al (.lst xs)):=λh=>⟨λb o hb=>by rw [ak (λz=>by rw [z,fAl] at hb;cases hb)];exact h.1 b o hb,by rw [ak nAD];exact h.2.1,by rw [ak nAE];exact h.2.2.1,by rw [ak nAM];exact h.2.2.2.1,by rw [ak nAm];exact h.2.2.2.2⟩
 let LV:Hp->List Addr->List (Str×Str)->Prop:=λH7 as aX=>Paired (λa (pr:Str×Str)=>aT K H7 a [.str pr.1,.str pr.2]) as aX
 let OI:rB:=λi σ H7=>∃(as:List Addr)(aX:List (Str×Str))(y1 y2 y6 y9 qr:Option V),σ=[aF R,y1,y2,aF D,aF En,aF M,y6,aF Em,aF Al,y9,qr,none,none,none]/\Kp H7/\H7 Al=some (.lst (as.map V.ref))/\LV H7 as aX/\as.length<=6 * i/\Y5 aa (aa.take i) aX
 refine⟨_,rfl,R,rfl,⟨_,s6.seq hR⟩,bZ (xs:=rs.map V.ref) OI ⟨[],[],_,_,_,_,_,rfl,⟨s6,eD6,eE6,eM6,Sw⟩,eA6,.nil,by simp,λru h=>(by simp at h)⟩ ?_ ?_ ?_⟩
 .rintro i σ H7 _ ⟨as,aX,y1,y2,y6,y9,qr,rfl,kp,_⟩;exact kp.1.seq hR
 .intro i x2 σ H7 jM uE
  ac_nf0
  obtain⟨as,aX,y1,y2,y6,y9,qr,rfl,kp,eA,pA,lA,aO⟩:=uE;have lj:=(bh.mp jM).1;rw [ar] at lj;rw [bf] at jM;obtain⟨r,er,rfl⟩:=b_.mp jM;obtain⟨ru,e1,p,v1,v2⟩:=cY.get er;have fZ:=qJ.oY ru (cA e1);refine⟨r,_,rfl,kp.1.tup v1,rfl,_,_,rfl,_,_,rfl,rfl,?_⟩;refine⟨_,rfl,p,_,rfl,.inr (kp.1.tup v2),_,rfl,by rw [ar];omega,by rw [ar];omega,?_⟩;rw [ar,hU]
  let Iz4:rB:=λj σ H8=>∃(as:List Addr)(aX:List (Str×Str))(y9 qr:Option V),σ=[aF R,some (.str ru.1),aF p,aF D,aF En,aF M,y6,aF Em,aF Al,y9,qr,none,none,none]/\Kp H8/\H8 Al=some (.lst (as.map V.ref))/\LV H8 as aX/\as.length<=6 * i+j/\Y5 aa (aa.take i) aX/\∀(j2:Nat)(z2:Str),j2 < j->HS aa ru j2 z2->(ru.1,z2)∈aX
  refine iJ (n:=ru.2.length) Iz4 ⟨as,aX,_,_,rfl,kp,eA,pA,∅,aO,λj2 _ h=>by omega⟩ ?_ ?_
  .intro j σ H8 hj uE
   ac_nf0
   obtain⟨as,aX,y9,qr,rfl,kp,eA,pA,lA,aO,aJ⟩:=uE;obtain⟨z,ez⟩:∃z,ru.2[j]?=some z:=⟨ru.2[j]'∅,cT ∅⟩;have atj:ux (ru.2.map V.str) (0+(j:Int))=some (.str z):=by
    rw [kU];exact dO (by rw [bf,ez];rfl)
   have eq1:=vG ru.2 j;have eq2:=DN ru.2 j;have lq1:(ru.2.take j).length<=ru.2.length:=by rw [d0];omega
   have lq2:(ru.2.drop (j+1)).length<=ru.2.length:=by rw [rM];omega
   have MY:∀y,y∈ru.2.take j++ru.2.drop (j+1)->∃k,k≠j/\ru.2[k]?=some y:=λy hy=>by
    rcases bY.mp hy with h | h
    .obtain⟨k,lk,ek⟩:=n_ h;exact⟨k,∅,ek⟩
    obtain⟨k,ek⟩:=fQ h;rw [List.getElem?_drop] at ek;exact⟨j+1+k,∅,ek⟩
   generalize ru.2.take j=q1 at eq1 lq1 MY;generalize ru.2.drop (j+1)=q2 at eq2 lq2 MY;refine goN ?_
   ac_rfl
   refine⟨_,rfl,_,rfl,_,rfl,p,_,rfl,kp.1.tup v2,λt1 H9 s9 e9=>?_⟩;rw [eq1] at e9;refine⟨_,rfl,_,rfl,_,_,rfl,rfl,_,rfl,p,_,rfl,s9.tup (kp.1.tup v2),λt2 HA sA Iw=>?_⟩;rw [eq2] at Iw;refine⟨t1,t2,_,_,rfl,rfl,sA.tup e9,Iw,fits (by rw [ar,ar];omega),λt3 HB sB eB=>?_⟩;rw [<-br] at eB;refine goN ?_
   ac_rfl
   have Fp:=s9.trans (sA.trans sB);have K8:=j6 kp Fp;have Yj:=Fp _ _ eA;have Zy:LV HB as aX:=Paired.dY pA λa pr z=>Fp.tup z;have yD:∀{HC:Hp},aE HB HC->¬HS aa ru j z->∃(as:List Addr)(aX:List (Str×Str))(y9' Ve:Option V),[aF R,some (.str ru.1),aF p,aF D,aF En,aF M,y6,aF Em,aF Al,some (.int (0+(j:Int))),aF t3,none,none,none]=[aF R,some (.str ru.1),aF p,aF D,aF En,aF M,y6,aF Em,aF Al,y9',Ve,none,none,none]/\Kp HC/\HC Al=some (.lst (as.map V.ref))/\LV HC as aX/\as.length<=6 * i+(j+1)/\Y5 aa (aa.take i) aX/\∀(j2:Nat)(z2:Str),j2 < j+1->HS aa ru j2 z2->(ru.1,z2)∈aX:=λ{HC} sC nl=>⟨as,aX,_,_,rfl,j6 K8 sC,sC _ _ Yj,Paired.dY Zy λa pr z=>sC.tup z,∅,aO,λj2 z2 h lo=>by
    by_cases c:j2 < j
    .exact aJ j2 z2 c lo
    have:j2=j:=by omega
    subst this;have e2:=lo.1;rw [ez] at e2;cases e2;exact absurd lo nl⟩
   refine⟨_,rfl,_,rfl,p,_,_,_,rfl,rfl,K8.1.tup v2,atj,_,rfl,D,_,rfl,.inl (aI.of K8.2.1),rfl,cf _,_,rfl,?_⟩;refine cx (λc1=>?_) (λc1=>?_)
   .refine⟨_,rfl,t3,rfl,⟨_,eB⟩,λD2 jI=>gL (zs:=q1++q2) [aF Em] (λz=>decide (z∈bV false aa)) rfl eB (by rw [bB];omega) jI (λz _ H5 Qy s5 hq=>?_) λHC sC eC=>?_⟩
    .refine⟨_,rfl,_,rfl,Em,_,rfl,.inl (aI.of (s5 _ _ K8.2.2.2.2)),rfl,cf _,?_⟩;rw [dI];exact hq
    refine⟨D2,_,rfl,aI.of eC,_,rfl,?_⟩;refine cx (λc2=>?_) (λc2=>?_)
    .have Ih:=j6 K8 sC;refine⟨_,rfl,.inl ⟨rfl,_,aI.of (sC _ _ Yj)⟩,_,rfl,_,rfl,_,rfl,p,_,_,_,rfl,rfl,Ih.1.tup v2,atj,mj,λt ht=>?_⟩;have kD:=af ht (.tup [.str ru.1,.str z]);have sD:=sC.trans kD;have vD:aT K (upd HC t (.tup [.str ru.1,.str z])) t [.str ru.1,.str z]:=aT.of ae;generalize upd HC t (.tup [.str ru.1,.str z])=HD at kD sD vD;have Yi:=sD _ _ Yj;refine⟨Al,_,_,rfl,rfl,Yi,bq (by rw [ar];omega),?_⟩;exact⟨as++[t],aX++[(ru.1,z)],_,_,rfl,Q_ (j6 K8 sD),by rw [ae,br];rfl,gR (Paired.dY Zy λa pr z=>aY Yi (sD.tup z)) (aY Yi vD),by rw [bB];simp;omega,λr qz j2 z2 lo=>dH _ (aO r qz j2 z2 lo),λj2 z2 h lo=>by
      by_cases c:j2 < j
      .exact dH _ (aJ j2 z2 c lo)
      have:j2=j:=by omega
      subst this;have e2:=lo.1;rw [ez] at e2;cases e2;exact dD _ bQ⟩
    refine yD sC λlo=>c2 ?_;rw [all_map];refine dP.mpr λy hy=>cU ?_;obtain⟨k,nk,ek⟩:=MY y hy;exact lo.2.2 k y nk ek
   refine l7 ?_;exact yD (λ_ _ h=>h) λlo=>c1 ((dI _ _).trans (cU lo.2.1))
  rintro σ H8 ⟨as,aX,y9,qr,rfl,kp,eA,pA,lA,aO,aJ⟩;refine⟨as,aX,_,_,_,_,_,rfl,kp,eA,pA,∅,λr qz j2 z2 lo=>?_⟩;rw [cQ,e1] at qz;rcases bY.mp qz with h | h
  .exact aO r h j2 z2 lo
  have:r=ru:=cg.mp h;subst this;exact aJ j2 z2 (bh.mp lo.1).1 lo
 rintro σ H7 ⟨as,aX,y1,y2,y6,y9,qr,rfl,kp,eA,pA,lA,aO⟩;rw [ar,ll] at lA aO;rw [cC] at aO;refine⟨uo,λCm XC=>?_⟩;have k8:=af XC (.lst []);have Wn:=j6 kp k8;have eA8:=k8 _ _ eA;have ZA:LV (upd H7 Cm (.lst [])) as aX:=Paired.dY pA λa pr z=>k8.tup z;have eC8:upd H7 Cm (.lst []) Cm=some (.lst []):=ae;have nC:∀b o,H7 b=some o->b≠Cm:=λb o h z=>by rw [z,XC] at h;cases h
 have nCA:=nC _ _ eA;have nCD:=nC _ _ kp.2.1;have nCE:=nC _ _ kp.2.2.1;have nCM:=nC _ _ kp.2.2.2.1;have nCm:=nC _ _ kp.2.2.2.2;have fCm:H Cm=none:=kp.1.free XC;have Q9:∀{H7:Hp}{xs:List V},Kp H7->Kp (upd H7 Cm (.lst xs)):=λh=>⟨λb o hb=>by rw [ak (λz=>by rw [z,fCm] at hb;cases hb)];exact h.1 b o hb,by rw [ak nCD];exact h.2.1,by rw [ak nCE];exact h.2.2.1,by rw [ak nCM];exact h.2.2.2.1,by rw [ak nCm];exact h.2.2.2.2⟩;generalize upd H7 Cm (.lst [])=H8 at k8 Wn eA8 ZA eC8;refine goN ?_
 ac_rfl
 have lap:=bI pA
 let Iz5:rB:=λi σ H9=>∃(cs:List Str)(y1 y2 y6 y9 qr IG HZ:Option V),σ=[aF R,y1,y2,aF D,aF En,aF M,y6,aF Em,aF Al,y9,qr,aF Cm,IG,HZ]/\Kp H9/\H9 Al=some (.lst (as.map V.ref))/\LV H9 as aX/\H9 Cm=some (.lst (cs.map V.str))/\cs.length<=32 * i/\PK aa aX cs
 refine⟨_,rfl,R,rfl,⟨_,Wn.1.seq hR⟩,bZ (xs:=rs.map V.ref) Iz5 ⟨[],_,_,_,_,_,_,_,rfl,Wn,eA8,ZA,eC8,by simp,⟨by simp,λ_ h=>(by cases h),λi h e=>(by cases e)⟩⟩ ?_ ?_ ?_⟩
 .rintro i σ H9 _ ⟨cs,y1,y2,y6,y9,qr,IG,HZ,rfl,Ii,_⟩;exact Ii.1.seq hR
 .intro i x σ H9 ex uE
  ac_nf0
  obtain⟨cs,y1,y2,y6,y9,qr,IG,HZ,rfl,Ii,eA9,Zz,Yh,lC9,Ou⟩:=uE;have li:=(bh.mp ex).1;rw [ar] at li;refine goN ?_
  ac_nf
  let Iz6:rB:=λj σ HA=>∃(cs:List Str)(IG HZ:Option V),σ=[aF R,y1,y2,aF D,aF En,aF M,some x,aF Em,aF Al,y9,qr,aF Cm,IG,HZ]/\Kp HA/\HA Al=some (.lst (as.map V.ref))/\LV HA as aX/\HA Cm=some (.lst (cs.map V.str))/\cs.length<=32 * i+j/\PK aa aX cs
  refine⟨_,rfl,D,rfl,⟨_,aI.of Ii.2.1⟩,bZ (xs:=(hm aa).map V.str) Iz6 ⟨cs,_,_,rfl,Ii,eA9,Zz,Yh,∅,Ou⟩ ?_ ?_ ?_⟩
  .rintro j σ HA _ ⟨cs,IG,HZ,rfl,Ra,_⟩;exact aI.of Ra.2.1
  .intro j x2 σ HA jM uE
   ac_nf0
   obtain⟨cs,IG,HZ,rfl,Ra,Pq,QF,Pp,Z0,UR⟩:=uE;have lj:=(bh.mp jM).1;rw [ar] at lj;rw [bf] at jM;obtain⟨nm,enm,rfl⟩:=b_.mp jM;refine goN ?_;refine⟨_,rfl,Al,rfl,⟨_,aI.of Pq⟩,λD2 jI=>cq (xs:=as.map V.ref) (λk ys σ2 HB=>∃bs:List Bool,ys=bs.map V.bl/\bs.length<=k/\(∃y0 y1,σ2=[y0,y1,aF Cm,some (.str nm)])/\aE HA HB/\HB D2=some (.lst ys)/\(bs.all id=true->∀pr∈aX.take k,pr.1=nm->pr.2∈cs))
    ⟨[],rfl,aK _,⟨none,none,rfl⟩,af jI _,ae,λ_ _ h=>(by simp at h)⟩ (λk ys σ2 HB _ h=>?_) (λk v ys σ2 HB ex h=>?_) (λys σ2 HB h=>?_)⟩
   .obtain⟨_,_,_,_,sB,_⟩:=h;exact aI.of (sB _ _ Pq)
   .obtain⟨bs,rfl,lz,⟨u0,u1,rfl⟩,sB,eB,zA⟩:=h;have lk:=(bh.mp ex).1;rw [ar] at lk;rw [bf] at ex;obtain⟨a,ea,rfl⟩:=b_.mp ex;obtain⟨pr,epr⟩:∃pr,aX[k]?=some pr:=⟨aX[k]'∅,cT ∅⟩;obtain⟨a',ea',va⟩:=Paired.at_ QF k pr epr;rw [ea] at ea';cases ea';have tk:aX.take (k+1)=aX.take k++[pr]:=by rw [cQ,epr];rfl
    refine⟨a,_,rfl,sB.tup va,rfl,_,_,rfl,_,_,rfl,rfl,?_⟩;refine⟨_,rfl,_,rfl,rfl,_,rfl,?_⟩;refine cx (λc1=>?_) (λc1=>?_)
    .refine⟨_,rfl,_,rfl,Cm,_,rfl,.inl (aI.of (sB _ _ Pp)),rfl,cf _,?_⟩;rw [dI];refine⟨eB,bq (by rw [ar];omega),bs++[decide (pr.2∈cs)],by rw [br];rfl,by rw [bB];simp;omega,⟨_,_,rfl⟩,λb o hb=>?_,ae,λDx p2 tD e2=>?_⟩
     .rw [ak (λz=>by rw [z,jI] at hb;cases hb)];exact sB b o hb
     rw [List.all_append,mf] at Dx;rw [tk] at tD;rcases bY.mp tD with h | h
     .exact zA Dx.1 p2 h e2
     rw [cg.mp h];have:=Dx.2;simpa using this
    refine⟨bs,rfl,∅,⟨_,_,rfl⟩,sB,eB,λDx p2 tD e2=>?_⟩;rw [tk] at tD;rcases bY.mp tD with h | h
    .exact zA Dx p2 h e2
    have:p2=pr:=cg.mp h;rw [this] at e2;exact absurd (cU (congrArg V.str e2)) c1
   obtain⟨bs,rfl,lz,_,sC,eC,zA⟩:=h;rw [ar] at lz zA;rw [lap,cC] at zA;have Ih:=j6 Ra sC;have yD:∃(cs:List Str)(Vd Vc:Option V),[aF R,y1,y2,aF D,aF En,aF M,some x,aF Em,aF Al,y9,qr,aF Cm,some (.str nm),HZ]=[aF R,y1,y2,aF D,aF En,aF M,some x,aF Em,aF Al,y9,qr,aF Cm,Vd,Vc]/\Kp HB/\HB Al=some (.lst (as.map V.ref))/\LV HB as aX/\HB Cm=some (.lst (cs.map V.str))/\cs.length<=32 * i+(j+1)/\PK aa aX cs:=⟨cs,_,_,rfl,Ih,sC _ _ Pq,Paired.dY QF λa pr z=>sC.tup z,sC _ _ Pp,∅,UR⟩;refine⟨D2,_,rfl,aI.of eC,_,rfl,?_⟩;refine cx (λc2=>?_) (λc2=>?_)
   .refine⟨_,rfl,_,rfl,Cm,_,rfl,.inl (aI.of (sC _ _ Pp)),rfl,cf _,_,rfl,?_⟩;refine cx (λc1=>?_) (λc1=>?_)
    .have Yg:=sC _ _ Pp;have nc:nm∉cs:=λh=>by
      have c1':(!Nw (V.str nm) (cs.map V.str))=true:=c1;rw [dI,cU h] at c1';cases c1'
     refine⟨_,rfl,.inl ⟨rfl,_,aI.of Yg⟩,_,rfl,Cm,_,_,rfl,rfl,Yg,bq (by rw [ar];omega),?_⟩;exact⟨cs++[nm],_,_,rfl,Q9 Ih,by rw [ak nCA];exact sC _ _ Pq,Paired.dY QF λa pr z=>aY Yg (sC.tup z),by rw [ae,br];rfl,by rw [bB];simp;omega,UR.add nc (cA enm) λz hz=>zA c2 (nm,z) hz rfl⟩
    exact yD
   refine l7 ?_;exact yD
  rintro σ HA ⟨cs,IG,HZ,rfl,Ra,Pq,QF,Pp,Z0,UR⟩;rw [ar,yQ] at Z0;exact⟨cs,_,_,_,_,_,_,_,rfl,Ra,Pq,QF,Pp,∅,UR⟩
 rintro σ H9 ⟨cs,y1,y2,y6,y9,qr,IG,HZ,rfl,Ii,eA9,Zz,Yh,lC9,Ou⟩;refine⟨_,rfl,D,rfl,⟨_,aI.of Ii.2.1⟩,λD3 NW=>lI (zs:=hm aa) [aF En,aF M,aF Cm] (λz=>decide (z∈bV true aa) && (decide (z∈ms) && decide (z∈cs))) rfl (aI.of Ii.2.1) ∅ NW (λz _ H5 Qy s5 hq=>?_) λHC sC eC=>?_⟩
 .refine⟨_,rfl,_,rfl,En,_,rfl,.inl (aI.of (s5 _ _ Ii.2.2.1)),rfl,cf _,_,rfl,?_⟩;rw [dI];show if decide (z∈bV true aa)=true then _ else _;refine cx (λc=>?_) (λc=>?_)
  .rw [c,jk] at hq;refine⟨_,rfl,_,rfl,M,_,rfl,.inl (aI.of (s5 _ _ Ii.2.2.2.1)),rfl,cf _,_,rfl,?_⟩;rw [dI];show if decide (z∈ms)=true then _ else _;refine cx (λc=>?_) (λc=>?_)
   .rw [c,jk] at hq;refine⟨_,rfl,_,rfl,Cm,_,rfl,.inl (aI.of (s5 _ _ Yh)),rfl,cf _,?_⟩;rw [dI];exact hq
   have c':decide (z∈ms)=false:=by simpa using c
   rw [c',o_] at hq;exact hq
  have c':decide (z∈bV true aa)=false:=by simpa using c
  rw [c',o_] at hq;exact hq
 refine⟨D3,_,rfl,aI.of eC,?_⟩;rw [all_map];refine⟨_,rfl,_,rfl,?_⟩;have Ih:=j6 Ii sC;have coP:PlO aa cs:=λi h e ru fZ er j z lo=>Ou.co i h e z (er ▸ aO ru fZ j z lo);refine cx (λhb=>?_) (λhb=>q _ _ Ih.1 λh=>(by cases h));have al:=λz hz=>iB.mp (dP.mp hb z hz);have ca:∀z∈hm aa,z∈cs:=λz hz=>cI (iB.mp (al z hz).2).2;refine⟨_,rfl,_,rfl,R,Em,rs,aa,bV false aa,rfl,Ih.1.seq hR,cY.same Ih.1,qJ,Ih.2.2.2.2,∅,λb HF sF hv=>?_⟩;refine q _ _ (Ih.1.trans sF) λJR=>⟨ms,cs,?_⟩;obtain⟨v1,v2⟩:=hv JR;have ahd:OP aa (bV false aa) cs:=λru fZ hp=>by
  have hc:=ca _ (iO fZ);refine⟨hc,λp j7=>?_⟩;obtain⟨j,ej⟩:=fQ j7;exact lD cs p _ (coP _ _ (nr cs ru.1 hc) ru fZ rfl j p ⟨ej,(iY false aa).sub p (hp p j7),λk y _ ey=>hp y (cA ey)⟩)
 have lcs:=gE cs _ Ou.cn Ou.ch;refine⟨mO,λz hz=>cI (iB.mp (al z hz).2).1,Ou.cn,Ou.ch,coP,ca,v1,_,EI (λx hx=>tR hx) ahd (n:=aa.length) ∅,λh hh=>v2 h (mx.mpr hh)⟩
end
theorem qt {α β:Type}{F:α->β->Prop}:∀{xs:List α}{ys:List β}{Ei:List α}{PQ:List β},Paired F xs ys->Paired F Ei PQ->Paired F (xs++Ei) (ys++PQ)
 | _,_,_,_,.nil,h=>h
 | _,_,_,_,.cons a b,h=>.cons a (qt b h)
def E4 {aa:List au}{nms ws:List Str}(nd:nms.Nodup)(n9:nms.length<=9)(dj:∀x∈nms,x∉ws)(hl:aa.length=nms.length)
  (hs:∀(j:Nat)(ru:au),aa[j]?=some ru->nms[j]?=some ru.1/\xP nms ws j ru.2):U2 aa nms ws:=by
 refine⟨nd,n9,dj,λhX e=>(hs 0 hX e).1,λru h=>?_,λa h e=>?_,λru h=>?_⟩
 .obtain⟨a,e⟩:=fQ h;exact cA (hs a ru e).1
 .have la:=(bh.mp e).1;have e2:aa[a]?=some (aa[a]'∅):=cT ∅;obtain⟨x1,x2⟩:=hs a _ e2;rw [e] at x1;refine⟨(aa[a]'∅).2,?_,?_⟩
  .rw [show h=(aa[a]'∅).1 from gi x1];exact cA e2
  rcases x2 with ⟨n',wx,e3,_,hw,_,j7⟩ | ⟨l,hw,_⟩
  .rcases j7 with q | q
   .exact .inl ⟨n',wx,[],e3,q,hw,λ_ h=>(by cases h)⟩
   exact .inl ⟨n',[],wx,e3,q,λ_ h=>(by cases h),hw⟩
  exact .inr ⟨∅,hw⟩
 obtain⟨a,e⟩:=fQ h;rcases (hs a ru e).2 with ⟨n',wx,_,Tv,hw,_,j7⟩ | ⟨_,hw,_⟩
 .obtain⟨y,hy⟩:=List.exists_mem_of_ne_nil wx Tv;refine .inl ⟨y,?_,hw y hy⟩;rcases j7 with q | q
  .rw [q];exact dH _ hy
  rw [q];exact cu _ hy
 cases hc:ru.2 with
 | nil=>exact .inr (.inl rfl)
 | cons p r=>exact .inl ⟨p,bQ,hw p (by rw [hc];exact bQ)⟩
def Tj (nms ws:List Str)(aa:List au):Prop:=∀ru∈aa,ru.1∈nms/\ru.2.length<=6/\∀x∈ru.2,x∈nms++ws
structure Eg (c:Int)(aa:List au):Prop where
 one:1<=aa.length
 most:aa.length<=8
 ins:∃nms,Te c nms/\Tj nms (gh c) aa
 good:∃rk b,Good aa rk b
section
def EY (K:a0):Sp:=λvs H Q _=>∃(S:Addr)(ns:List Int) (at_:Nat),vs=[.ref S,.int (at_:Int)]/\aI K H S (ns.map V.int)/\ns.length<=1000 /\
 ∀(c:Int)(R:Addr)(rs:List Addr)(aa:List au)(H':Hp),c=cellAt ns at_->H R=none->aE H H'->H' R=some (.lst (rs.map V.ref))->bT K H' rs aa->Eg c aa->Q (.ref R) H'
def mX:aN ["_law_script","_law_at","_law_cell","_law_names_here","_law_words_here","_law_rules","_law_more_here","_law_free"] ["_law_script","_law_at"] (aA Fh):=je rfl rfl rfl rfl nofun
def Jq (F:iG K "_law_grammar" "_law_grammar" Fh f fd)(T:Txt mg)(GC:aG P w K mg base 2 "_law_cell_at" ["_law_script","_law_k"] (pN K))(GN:aG P w K mg base 2 "_law_names" ["_law_cell"] BR)(GW:aG P w K mg base 2 "_law_words" ["_law_cell"] ye)
  (GS:aG P w K mg base 2 "_law_skeleton" ["_law_script","_law_at","_law_names_here","_law_words_here"] (EU K))(GM:aG P w K mg base 2 "_law_more" ["_law_script","_law_at","_law_names_here","_law_many","_law_words_here"] (EW K))(GG:aG P w K mg base 2 "_law_good" ["_law_rules"] (EZ K)) :
  bR P w K mg base fK 3 f fd ["_law_script","_law_at"] (EY K):=by
 refine F.ok mX (λvs H Q E h=>?_) (λeJ A outer s H vs Q E hr h=>?_)
 .obtain⟨S,ns,at_,rfl,_⟩:=h;rfl
 obtain⟨S,ns,at_,rfl,hS,hn,q⟩:=h;refine⟨_,ai (aC (i:=2) mX.nd rfl (a_ rfl) (bK GC hr rfl (ab (pv 0) (ab (pv 1) aj))))
  (ai (aC (i:=3) mX.nd rfl (a_ rfl) (bK GN hr rfl (ab (pv 2) aj)))
  (ai (aC (i:=4) mX.nd rfl (a_ rfl) (bK GW hr rfl (ab (pv 2) aj)))
  (ai (aC (i:=5) mX.nd rfl (a_ rfl) (bK GS hr rfl (ab (pv 0) (ab (aL d_ (pv 1) av) (ab (pv 3) (ab (pv 4) aj))))))
  (ai (aC (i:=6) mX.nd rfl (a_ rfl) (bK GM hr rfl (ab (pv 0) (ab (aL d_ (pv 1) av) (ab (pv 3) (ab (aL cS (aL cW (pv 2) av) av) (ab (pv 4) aj)))))))
  (ai (e_ (cy (bu jc (aL cS (aL cW (pv 2) av) av) av (cM _))
   (ai (aC (i:=7) mX.nd rfl (a_ rfl) (bK GM hr rfl (ab (pv 0) (ab (aL d_ (pv 1) av) (ab (pv 3) (ab (aL d_ av (aL cS (aL cW (pv 2) av) av)) (ab (pv 4) aj)))))))
   (ao (cy (gX (bK GG hr rfl (ab (pv 7) aj))) (ao (bC (pv 7))) aZ))) aZ))
  (ai (cy (gX (bK GG hr rfl (ab (aL iV (pv 5) (pv 6)) aj))) (ao (bC (aL iV (pv 5) (pv 6)))) aZ)
  (ao (bC (pv 5))))))))),?_⟩
 refine⟨_,rfl,_,rfl,S,ns,at_,rfl,hS,hn,λc hc=>?_⟩;have wl:=j_ c;refine⟨_,rfl,c,rfl,λN nms H1 fN s1 eN nk=>?_⟩;have gl:1<=nms.length/\nms.length<=5:=⟨nk.one,nk.JX⟩;refine⟨_,rfl,c,rfl,λW H2 fW s2 eW=>?_⟩;have Fq:=s1.trans s2;have Sv:=s2 _ _ eN;refine⟨_,rfl,_,rfl,_,_,rfl,rfl,_,rfl,_,rfl,S,N,W,ns,at_+1,nms,gh c,(by show [V.ref S,V.int ((at_:Int)+1),V.ref N,V.ref W]=_;congr 3),Fq.seq hS,hn,Sv,eW,∅,∅,∅,∅,λR1 KO k_ H3 f3 s3 e3 Qv l3 Vx=>?_⟩;have CT:=Fq.trans s3;obtain⟨m,Ep⟩:∃m:Nat,c / 9 % 4=(m:Int):=⟨(c / 9 % 4).toNat,∅⟩;refine⟨_,rfl,_,rfl,_,_,rfl,rfl,_,rfl,_,rfl,_,_,rfl,rfl,⟨nofun,nofun⟩,_,_,rfl,rfl,(by show (0:Int) < 4;decide),_,rfl,S,N,W,ns,at_+4,m,nms,gh c,(by show [V.ref S,V.int ((at_:Int)+4),V.ref N,V.int (c / 9 % 4),V.ref W]=_;rw [Ep];congr 3),CT.seq hS,hn,s3 _ _ Sv,s3 _ _ eW,∅,∅,∅,∅,λR2 MN pS H4 f4 s4 e4 TU l4 in4=>?_⟩;have yo:=CT.trans s4;have e34:=s4 _ _ e3;have MQ:=Qv.same s4;have O1:=E4 nk.nd ∅ nk.dj l3 Vx;have in1:Tj nms (gh c) k_:=λru h=>by
  refine⟨O1.A2 ru h,?_,λx hx=>?_⟩
  .obtain⟨a,e⟩:=fQ h;rcases (Vx a ru e).2 with ⟨n',wx,_,_,_,l2,h | h⟩ | ⟨_,_,l2⟩
   .rw [h,bB];simp;omega
   .rw [h,dG];omega
   omega
  obtain⟨a,e⟩:=fQ h;rcases (Vx a ru e).2 with ⟨n',wx,en,_,hw,_,j7⟩ | ⟨_,hw,_⟩
  .have cs:x=n'\/x∈wx:=by
    rcases j7 with h | h
    .rw [h] at hx;rcases bY.mp hx with q | q
     .exact .inr q
     exact .inl (cg.mp q)
    rw [h] at hx;rcases bO.mp hx with q | q
    .exact .inl q
    exact .inr q
   rcases cs with rfl | q
   .exact dH _ (cA en)
   exact dD _ (hw x q)
  exact dD _ (hw x hx)
 have QI:∀{aa:List au}{ms cs:List Str},CI aa ms cs->1<=aa.length->aa.length<=8->Tj nms (gh c) aa->Eg c aa:=λg a b i=>⟨a,b,⟨nms,nk,i⟩,g.good⟩;have Qq:∀{aa:List au},1<=aa.length->aa.length<=8->Tj nms (gh c) aa->Small aa:=λa b i=>⟨a,∅,λru h=>(i ru h).2.1⟩;refine⟨λσ H5=>∃y7,σ=[aF S,some (.int (at_:Int)),some (.int c),aF N,aF W,aF R1,aF R2,y7]/\aE H4 H5,?_,?_⟩
 .refine⟨_,rfl,_,_,rfl,rfl,⟨nofun,nofun⟩,_,_,rfl,rfl,(by show (0:Int) < 2;decide),rfl,_,rfl,?_⟩;refine cx (λcc=>?_) (λcc=>?_)
  .have Ll:1+c / 9 % 4=((m+1:Nat):Int):=by omega
   refine⟨_,rfl,_,rfl,_,_,rfl,rfl,_,rfl,_,rfl,_,_,rfl,rfl,⟨nofun,nofun⟩,_,_,rfl,rfl,(by show (0:Int) < 4;decide),_,_,rfl,rfl,_,rfl,S,N,W,ns,at_+4,m+1,nms,gh c,(by show [V.ref S,V.int ((at_:Int)+4),V.ref N,V.int (1+c / 9 % 4),V.ref W]=_;rw [Ll];congr 3),yo.seq hS,hn,s4 _ _ (s3 _ _ Sv),s4 _ _ (s3 _ _ eW),∅,∅,∅,∅,λR3 Zt Fv H5 f5 s5 e5 MO l5 Z9=>?_⟩;have B4:=yo.trans s5;refine⟨_,rfl,R3,Zt,Fv,rfl,aI.of e5,MO,Qq ∅ ∅ Z9,λb H6 s6 hb=>⟨b,rfl,?_⟩⟩;refine cx (λc2=>?_) (λc2=>?_)
   .obtain⟨ms,cs,g⟩:=hb c2;exact⟨_,rfl,q c R3 Zt Fv H6 hc (yo.free f5) (B4.trans s6) (s6 _ _ e5) (MO.same s6) (QI g ∅ ∅ Z9)⟩
   exact⟨_,rfl,s5.trans s6⟩
  exact⟨_,rfl,aE.refl _⟩
 rintro σ H5 ⟨y7,rfl,s5⟩;have B4:=yo.trans s5;have eA:=s5 _ _ e34;have eB:=s5 _ _ e4;have aaf:=bI MQ;have aae:=bI TU;have Z8:Tj nms (gh c) (k_++pS):=λru h=>(bY.mp h).elim (in1 ru) (in4 ru);have Ie:1<=(k_++pS).length/\(k_++pS).length<=8:=by rw [bB];omega
 have TR:bT K H5 (KO++MN) (k_++pS):=qt (MQ.same s5) (TU.same s5);refine⟨_,rfl,_,rfl,R1,R2,_,_,rfl,rfl,eA,eB,fits (by rw [ar,ar];omega),λR4 hR4=>?_⟩;rw [<-br];have k6:=af hR4 (.lst ((KO++MN).map V.ref));have e6:upd H5 R4 (.lst ((KO++MN).map V.ref)) R4=some (.lst ((KO++MN).map V.ref)):=ae;generalize upd H5 R4 (.lst ((KO++MN).map V.ref))=H6 at k6 e6;have KN:=B4.trans k6;refine⟨R4,KO++MN,k_++pS,rfl,aI.of e6,TR.same k6,Qq Ie.1 Ie.2 Z8,λb H7 s7 hb=>⟨b,rfl,?_⟩⟩;have zG:=k6.trans s7;refine cx (λc2=>?_) (λc2=>?_)
 .obtain⟨ms,cs,g⟩:=hb c2;refine⟨_,rfl,_,rfl,R1,R2,_,_,rfl,rfl,zG _ _ eA,zG _ _ eB,fits (by rw [ar,ar];omega),λR5 Xr=>?_⟩;rw [<-br];exact q c R5 (KO++MN) (k_++pS) _ hc ((KN.trans s7).free Xr) ((KN.trans s7).trans (af Xr _)) ae ((TR.same zG).same (af Xr _)) (QI g Ie.1 Ie.2 Z8)
 exact⟨_,rfl,q c R1 KO k_ H7 hc (Fq.free f3) (KN.trans s7) (zG _ _ eA) ((MQ.same s5).same zG) ⟨∅,∅,⟨nms,nk,in1⟩,O1.good⟩⟩
end
abbrev Fl:Stmt:=top 52
def dS (k:Nat):Str:=toString ((k:Nat):Int)
def eN (k:Nat):Str := "e" ++ dS k
def wN (k:Nat):Str := "w" ++ dS k
def xN (k:Nat):Str := "x" ++ dS k
def w_:List Str:=(List.range 9).map eN
def wo:List Str:=(List.range 8).map wN++((List.range 8).map xN++(["n","(",")"]:List Str))
def Hn:∀k:Nat,k < 9->(dS k).length=1:=by decide +kernel
def w6:w_.Nodup:=by decide +kernel
def Gf:∀x∈w_,x∉wo:=by decide +kernel
def m_ {k:Nat}(h:k < 9):w_[k]?=some (eN k):=by unfold w_;rw [bf,List.getElem?_range h];rfl
def UL:("e8":Str)=eN 8:=by decide +kernel
def Bv {k:Nat}(h:k < 8):wN k∈wo:=dH _ (bN.mpr ⟨k,iK.mpr h,rfl⟩)
def EC {k:Nat}(h:k < 8):xN k∈wo:=dD _ (dH _ (bN.mpr ⟨k,iK.mpr h,rfl⟩))
def Ct {k:Nat}(h:k < 9):eN k∈w_:=bN.mpr ⟨k,iK.mpr h,rfl⟩
def Kt (md:Nat->Bool) (a:Nat) (ps:List Str):Prop:=ps=[eN (a+1)]\/(md a=true/\ps=[eN a,wN a,eN (a+1)])\/(md a=false/\ps=[eN (a+1),eN (a+1),xN a])
def Kt.oY {md:Nat->Bool}{a:Nat}{ps:List Str}(h:Kt md a ps):ps.length<=3:=by
 rcases h with rfl | ⟨_,rfl⟩ | ⟨_,rfl⟩
 .show 1<=3;decide
 .show 3<=3;decide
 show 3<=3;decide
def Kt.ins {md:Nat->Bool}{a:Nat}{ps:List Str}(h:Kt md a ps)(ha:a < 8):∀x∈ps,x∈w_++wo:=by
 have e0:eN a∈w_++wo:=dH _ (Ct ∅);have e1:eN (a+1)∈w_++wo:=dH _ (Ct ∅);have w1:wN a∈w_++wo:=dD _ (Bv ha);have x1:xN a∈w_++wo:=dD _ (EC ha);rcases h with rfl | ⟨_,rfl⟩ | ⟨_,rfl⟩
 .intro x hx;rw [cg.mp hx];exact e1
 .intro x hx;rcases bO.mp hx with rfl | hx
  .exact e0
  rcases bO.mp hx with rfl | hx
  .exact w1
  rw [cg.mp hx];exact e1
 intro x hx;rcases bO.mp hx with rfl | hx
 .exact e1
 rcases bO.mp hx with rfl | hx
 .exact e1
 rw [cg.mp hx];exact x1
def Kt.word {md:Nat->Bool}{a:Nat}{ps:List Str}(h:Kt md a ps)(ha:a < 8):ps=[eN (a+1)]\/∃p∈ps,p∈wo:=by
 rcases h with h | ⟨_,rfl⟩ | ⟨_,rfl⟩
 .exact .inl h
 .exact .inr ⟨wN a,cu _ bQ,Bv ha⟩
 exact .inr ⟨xN a,cu _ (cu _ bQ),EC ha⟩
structure Dp (md:Nat->Bool) (k:Nat)(aa:List au):Prop where
 sh:∀ru∈aa,∃a,a < k/\ru.1=eN a/\Kt md a ru.2
 on:∀a,a < k->(eN a,[eN (a+1)])∈aa
 first:∀hX,aa[0]?=some hX->hX.1=eN 0
 oY:aa.length<=3 * k
def vw {aa:List au}{ru:au}(h:∀hX,aa[0]?=some hX->hX.1=eN 0)(e:aa=[]->ru.1=eN 0):∀hX,(aa++[ru])[0]?=some hX->hX.1=eN 0:=λhX hr=>by
 cases aa with
 | nil=>cases hr;exact e rfl
 | cons a r=>exact h hX hr
def Dp.next {md:Nat->Bool}{k:Nat}{aa:List au}(d:Dp md k aa):Dp md (k+1) (aa++[(eN k,[eN (k+1)])]):=by
 refine⟨λru h=>?_,λa ha=>?_,vw d.first λh=>?_,by have:=d.oY;rw [bB,fS];omega⟩
 .rcases bY.mp h with h | h
  .obtain⟨a,la,z⟩:=d.sh ru h;exact⟨a,∅,z⟩
  rw [cg.mp h];exact⟨k,∅,rfl,.inl rfl⟩
 .by_cases c:a < k
  .exact dH _ (d.on a c)
  have:a=k:=by omega
  subst this;exact dD _ bQ
 cases k with
 | zero=>rfl
 | succ n=>have:=d.on 0 (Nat.succ_pos _);rw [h] at this;cases this
def Dp.more {md:Nat->Bool}{k:Nat}{aa:List au}{ps:List Str}(d:Dp md (k+1) aa)(hs:Kt md k ps)(oY:aa.length+1<=3 * (k+1)):Dp md (k+1) (aa++[(eN k,ps)]):=by
 refine⟨λru h=>?_,λa ha=>dH _ (d.on a ha),vw d.first λh=>?_,by rw [bB,fS];omega⟩
 .rcases bY.mp h with h | h
  .exact d.sh ru h
  rw [cg.mp h];exact⟨k,∅,rfl,hs⟩
 have:=d.on 0 (Nat.succ_pos _);rw [h] at this;cases this
structure lJ (aa:List au):Prop where
 one:1<=aa.length
 most:aa.length<=26
 three:∀ru∈aa,ru.1∈w_/\ru.2.length<=3/\∀x∈ru.2,x∈w_++wo
 good:∃rk b,Good aa rk b
 A2:∀a,a < 9->eN a∈hm aa
 TL:∃md:Nat->Bool,∀ru∈aa,∃a,ru.1=eN a/\((a < 8/\Kt md a ru.2)\/(a=8/\(ru.2=[]\/ru.2=(["n"]:List Str)\/ru.2=(["(","e0",")"]:List Str))))
def J3 {md:Nat->Bool}{aa more:List au}{ps:List Str}(d:Dp md 8 aa)(hp:ps=[]\/ps=(["n"]:List Str))(hm:more=[]\/more=([(("e8":Str),(["(","e0",")"]:List Str))]:List au)):lJ (aa++(("e8":Str),ps)::more):=by
 have Ww:∀ru∈(("e8":Str),ps)::more,ru.1=eN 8/\ru.2.length<=3/\(∀x∈ru.2,x∈w_++wo)/\(ru.2=[]\/∃p∈ru.2,p∈wo):=λru h=>by
  rcases bO.mp h with h | h
  .subst h;refine⟨UL,?_⟩;rcases hp with rfl | rfl
   .exact⟨nofun,λ_ h=>(by cases h),.inl rfl⟩
   exact⟨nofun,nofun,.inr ⟨"n",nofun,nofun⟩⟩
  rcases hm with rfl | rfl
  .cases h
  rw [cg.mp h];exact⟨UL,nofun,nofun,.inr ⟨"(",nofun,nofun⟩⟩
 have rj:∀ru∈aa++(("e8":Str),ps)::more,ru.1∈w_/\ru.2.length<=3/\∀x∈ru.2,x∈w_++wo:=λru h=>by
  rcases bY.mp h with h | h
  .obtain⟨a,la,e,ds⟩:=d.sh ru h;exact⟨e ▸ Ct ∅,ds.oY,ds.ins la⟩
  obtain⟨e,l3,i3,_⟩:=Ww ru h;exact⟨e ▸ Ct nofun,l3,i3⟩
 have lm:more.length<=1:=by rcases hm with rfl | rfl <;> decide
 have:=d.oY;refine⟨by rw [bB,dG];omega,by rw [bB,dG];omega,rj,(U2.good (nms:=w_) (ws:=wo) ⟨w6,nofun,Gf,λhX e=>?_,λru h=>(rj ru h).1,λa h e=>?_,λru h=>?_⟩),λa ha=>?_,⟨md,λru h=>?_⟩⟩
 .have h0:=d.on 0 nofun;cases aa with
  | nil=>cases h0
  | cons r rs=>rw [m_ nofun,d.first hX e]
 .have la:=(bh.mp e).1;have l9:w_.length=9:=by decide
  rw [m_ ∅] at e;cases e;by_cases c:a < 8
  .exact⟨[eN (a+1)],dH _ (d.on a c),.inl ⟨eN (a+1),[],[],m_ ∅,rfl,λ_ h=>(by cases h),λ_ h=>(by cases h)⟩⟩
  have:a=8:=by omega
  subst this;refine⟨ps,dD _ (by rw [<-UL];exact bQ),.inr ⟨l9,λp h=>?_⟩⟩;rcases hp with rfl | rfl
  .cases h
  rw [cg.mp h];decide +kernel
 .rcases bY.mp h with h | h
  .obtain⟨a,la,e,ds⟩:=d.sh ru h;rcases ds.word la with q | q
   .refine .inr (.inr ⟨eN (a+1),?_,q⟩);rw [e,pZ w6 (m_ ∅)];exact m_ ∅
   exact .inl q
  obtain⟨_,_,_,q⟩:=Ww ru h;exact q.elim (λz=>.inr (.inl z)) .inl
 .by_cases c:a < 8
  .exact bN.mpr ⟨_,dH _ (d.on a c),rfl⟩
  have:a=8:=by omega
  subst this;exact bN.mpr ⟨_,dD _ bQ,UL⟩
 rcases bY.mp h with h | h
 .obtain⟨a,la,e,ds⟩:=d.sh ru h;exact⟨a,e,.inl ⟨la,ds⟩⟩
 refine⟨8,(Ww ru h).1,.inr ⟨rfl,?_⟩⟩;rcases bO.mp h with h | h
 .subst h;exact hp.imp id .inl
 rcases hm with rfl | rfl
 .cases h
 rw [cg.mp h];exact .inr (.inr rfl)
structure HQ (K:a0)(H H5:Hp)(L:Addr)(rs:List Addr)(aa:List au):Prop where
 sm:aE H H5
 eL:H5 L=some (.lst (rs.map V.ref))
 rl:bT K H5 rs aa
theorem HQ.same {K:a0}{H H5 H6:Hp}{L:Addr}{rs:List Addr}{aa:List au}(h:HQ K H H5 L rs aa)(s:aE H5 H6):HQ K H H6 L rs aa:=⟨h.sm.trans s,s _ _ h.eL,h.rl.same s⟩
def HQ.app {K:a0}{H H5:Hp}{L r p:Addr}{rs:List Addr}{aa:List au}{x:Str}{ps:List Str}(h:HQ K H H5 L rs aa)(fL:H L=none)(v1:aT K H5 r [.str x,.ref p])(v2:aT K H5 p (ps.map V.str)) :
  HQ K H (upd H5 L (.lst (rs.map V.ref++[.ref r]))) L (rs++[r]) (aa++[(x,ps)]) :=
 ⟨λb o hb=>by rw [ak (λz=>by rw [z,fL] at hb;cases hb)];exact h.sm b o hb,by rw [ae,br];rfl,
  gR (Paired.dY h.rl λ_ _ ⟨q,a,b⟩=>⟨q,aY h.eL a,aY h.eL b⟩) ⟨p,aY h.eL v1,aY h.eL v2⟩⟩
section
def E3 (K:a0):Sp:=λvs H Q _=>∃(S:Addr)(ns:List Int),vs=[.ref S]/\aI K H S (ns.map V.int)/\ns.length<=1000 /\
 ∀(R:Addr)(rs:List Addr)(aa:List au)(H':Hp),H R=none->aE H H'->H' R=some (.lst (rs.map V.ref))->bT K H' rs aa->lJ aa->Q (.ref R) H'
def pO:aN ["_law_script","_law_rules","_law_k","_law_cell","_law_behind"] ["_law_script"] (aA Fl):=je rfl rfl rfl rfl nofun
def vd:∀k:Nat,k < 10->((k:Nat):Int).natAbs.log2 < 1920:=by decide +kernel
def Jt (F:iG K "_law_deep" "_law_deep" Fl f fd)(T:Txt mg)(GC:aG P w K mg base 1 "_law_cell_at" ["_law_script","_law_k"] (pN K)):bR P w K mg base fK 2 f fd ["_law_script"] (E3 K):=by
 refine F.ok pO (λvs H Q E h=>?_) (λeJ A outer s H vs Q E hr h=>?_)
 .obtain⟨S,ns,rfl,_⟩:=h;rfl
 obtain⟨S,ns,rfl,hS,hn,q⟩:=h;refine⟨_,ai (aC (i:=1) pO.nd rfl (a_ rfl) (bJ aj))
  (ai (bD b8 rfl (iI rfl T.Fw (ab av aj)) (aq (i:=2) pO.nd rfl (a_ rfl))
   (ai (aC (i:=3) pO.nd rfl (a_ rfl) (bK GC hr rfl (ab (pv 0) (ab (aL d_ av (pv 2)) aj))))
   (ai (aC (i:=4) pO.nd rfl (a_ rfl) (aL fw bw (a7 eG rfl T.str i4 (ab (aL d_ (pv 2) av) aj))))
   (ai (e_ (cv (fY fU fV fX bA (pv 1) (ab (bU (ab (aL fw bw (a7 eG rfl T.str i4 (ab (pv 2) aj))) (ab (bU (ab (pv 4) aj)) aj))) aj))))
   (ai (e_ (cy (bu jc (aL cS (pv 3) av) av (cM _))
    (ao (cv (fY fU fV fX bA (pv 1) (ab (bU (ab (aL fw bw (a7 eG rfl T.str i4 (ab (pv 2) aj))) (ab (bU (ab (aL fw bw (a7 eG rfl T.str i4 (ab (pv 2) aj))) (ab (aL fw bw (a7 eG rfl T.str i4 (ab (pv 2) aj))) (ab (pv 4) aj)))) aj))) aj)))) aZ))
   (ao (cy (bu jc (aL cS (pv 3) av) av (cM _))
    (ao (cv (fY fU fV fX bA (pv 1) (ab (bU (ab (aL fw bw (a7 eG rfl T.str i4 (ab (pv 2) aj))) (ab (bU (ab (pv 4) (ab (pv 4) (ab (aL fw bw (a7 eG rfl T.str i4 (ab (pv 2) aj))) aj)))) aj))) aj)))) aZ)))))))
  (ai (aC (i:=3) pO.nd rfl (a_ rfl) (bK GC hr rfl (ab (pv 0) (ab av aj))))
  (ai (e_ (cv (fY fU fV fX bA (pv 1) (ab (bU (ab bw (ab (b9 cX (bJ (ab (bU (ab bw aj)) (ab (bU aj) aj))) (aL cS (pv 3) av) (λ_ _=>rfl)) aj))) aj))))
  (ai (e_ (cy (bu jc (aL cS (aL cW (pv 3) av) av) av (cM _))
   (ao (cv (fY fU fV fX bA (pv 1) (ab (bU (ab bw (ab (bU (ab bw (ab bw (ab bw aj)))) aj))) aj)))) aZ))
  (ao (bC (pv 1))))))),?_⟩
 refine⟨uo,λL hL=>?_⟩;have k1:=af hL (.lst []);have e1:upd H L (.lst []) L=some (.lst []):=ae;generalize upd H L (.lst [])=H1 at k1 e1;refine⟨8,rfl,nofun,nofun,?_⟩;have md:∃md:Nat->Bool,md=λk=>decide (cellAt ns (1+k) % 3=1):=⟨_,rfl⟩;obtain⟨md,hmd⟩:=md;refine iJ (n:=8) (λk σ H5=>∃(rs:List Addr)(aa:List au)(y2 y3 y4:Option V),σ=[aF S,aF L,y2,y3,y4]/\HQ K H H5 L rs aa/\Dp md k aa) ⟨[],[],none,none,none,rfl,⟨k1,e1,.nil⟩,⟨λ_ h=>(by cases h),λ_ h=>absurd h (me _),λ_ h=>(by cases h),nofun⟩⟩ ?_ ?_
 .rintro k σ H5 hk ⟨rs,aa,y2,y3,y4,rfl,S5,D5⟩;have lS:=Hn k ∅;have lS1:=Hn (k+1) ∅;have lg:=vd k ∅;have lg1:=vd (k+1) ∅;have l1:∀z:Str,(z = "e" \/ z = "w" \/ z = "x")->z.length=1:=by
   rintro z (rfl | rfl | rfl) <;> decide +kernel
  have hz:(0:Int)+(k:Int)=((k:Nat):Int):=kU _;have hz1:((k:Nat):Int)+1=((k+1:Nat):Int):=rfl;rw [hz];refine goN ?_;refine⟨_,rfl,_,rfl,_,_,rfl,rfl,?_⟩;refine⟨S,ns,1+k,(by show [V.ref S,V.int (1+((k:Nat):Int))]=_;congr 3),S5.sm.seq hS,hn,λc RX=>?_⟩;refine⟨_,rfl,_,_,rfl,rfl,?_⟩;refine⟨_,rfl,(by show (((k:Nat):Int)+1).natAbs.log2 < 1920;exact lg1),?_⟩;refine⟨_,_,rfl,rfl,fits (by show ("e":Str).length+(dS (k+1)).length<=_;rw [l1 _ (.inl rfl)];omega),?_⟩;have XH:=D5.oY;have ll5:=bI S5.rl;have ez:∀z:Str,(z = "e" \/ z = "w" \/ z = "x")->z.length+(dS k).length<=sizeLine:=λz h=>fits (by rw [l1 z h];omega);refine⟨λσ H6=>∃(rs:List Addr)(aa:List au),σ=[aF S,aF L,some (.int ((k:Nat):Int)),some (.int c),some (.str (eN (k+1)))]/\HQ K H H6 L rs aa/\Dp md (k+1) aa/\aa.length<=3 * k+1,?_,?_⟩
  .refine⟨_,rfl,.inl ⟨rfl,_,aI.of S5.eL⟩,_,rfl,_,rfl,lg,_,_,rfl,rfl,ez "e" (.inl rfl),_,rfl,EB,λp hp=>?_⟩;have kA:=af hp (.tup [V.str (eN (k+1))]);have eA:aT K (upd H5 p (.tup [V.str (eN (k+1))])) p ([eN (k+1)].map V.str):=aT.of ae;refine⟨mj,λr qz=>?_⟩;have kB:=kA.trans (af qz (.tup [V.str (eN k),V.ref p]));have Iw:=(af qz (.tup [V.str (eN k),V.ref p])).tup eA;have eB:aT K (upd (upd H5 p (.tup [V.str (eN (k+1))])) r (.tup [V.str (eN k),V.ref p])) r [V.str (eN k),V.ref p]:=aT.of ae;have SB:=S5.same kB;refine⟨L,_,_,rfl,rfl,SB.eL,bq (by rw [ar];omega),?_⟩;exact⟨rs++[r],_,rfl,SB.app hL eB Iw,D5.next,by rw [bB,fS];omega⟩
  rintro σ H6 ⟨MM,MJ,rfl,S6,D6,aaq⟩;have ZV:=bI S6.rl;refine⟨λσ H7=>∃(rs:List Addr)(aa:List au),σ=[aF S,aF L,some (.int ((k:Nat):Int)),some (.int c),some (.str (eN (k+1)))]/\HQ K H H7 L rs aa/\Dp md (k+1) aa/\aa.length<=3 * k+2,?_,?_⟩
  .refine⟨_,rfl,_,_,rfl,rfl,(by show (0:Int) < 3;decide),rfl,_,rfl,?_⟩;refine cx (λcc=>?_) (λ_=>?_)
   .refine⟨_,rfl,.inl ⟨rfl,_,aI.of S6.eL⟩,_,rfl,_,rfl,lg,_,_,rfl,rfl,ez "e" (.inl rfl),_,rfl,_,rfl,lg,_,_,rfl,rfl,ez "e" (.inl rfl),_,rfl,_,rfl,lg,_,_,rfl,rfl,ez "w" (.inr (.inl rfl)),_,rfl,Kw,λp hp=>?_⟩;have kA:=af hp (.tup [V.str (eN k),V.str (wN k),V.str (eN (k+1))]);have eA:aT K (upd H6 p (.tup [V.str (eN k),V.str (wN k),V.str (eN (k+1))])) p ([eN k,wN k,eN (k+1)].map V.str):=aT.of ae;refine⟨mj,λr qz=>?_⟩;have kB:=kA.trans (af qz (.tup [V.str (eN k),V.ref p]));have Iw:=(af qz (.tup [V.str (eN k),V.ref p])).tup eA;have eB:aT K (upd (upd H6 p (.tup [V.str (eN k),V.str (wN k),V.str (eN (k+1))])) r (.tup [V.str (eN k),V.ref p])) r [V.str (eN k),V.ref p]:=aT.of ae;have SB:=S6.same kB;refine⟨L,_,_,rfl,rfl,SB.eL,bq (by rw [ar];omega),?_⟩;have c3:c % 3=1:=by
     have z:=cI cc;injection z
    exact⟨MM++[r],_,rfl,SB.app hL eB Iw,D6.more (.inr (.inl ⟨by rw [hmd];show decide (cellAt ns (1+k) % 3=1)=true;rw [<-RX];exact cU c3,rfl⟩)) ∅,by rw [bB,fS];omega⟩
   exact⟨MM,MJ,rfl,S6,D6,∅⟩
  rintro σ H7 ⟨OU,MI,rfl,S7,D7,aap⟩;have ll7:=bI S7.rl;refine⟨_,rfl,_,_,rfl,rfl,(by show (0:Int) < 9;decide),rfl,_,rfl,?_⟩;refine cx (λcc=>?_) (λ_=>?_)
  .refine⟨_,rfl,.inl ⟨rfl,_,aI.of S7.eL⟩,_,rfl,_,rfl,lg,_,_,rfl,rfl,ez "e" (.inl rfl),_,rfl,_,rfl,_,rfl,_,rfl,lg,_,_,rfl,rfl,ez "x" (.inr (.inr rfl)),Kw,λp hp=>?_⟩;have kA:=af hp (.tup [V.str (eN (k+1)),V.str (eN (k+1)),V.str (xN k)]);have eA:aT K (upd H7 p (.tup [V.str (eN (k+1)),V.str (eN (k+1)),V.str (xN k)])) p ([eN (k+1),eN (k+1),xN k].map V.str):=aT.of ae;refine⟨mj,λr qz=>?_⟩;have kB:=kA.trans (af qz (.tup [V.str (eN k),V.ref p]));have Iw:=(af qz (.tup [V.str (eN k),V.ref p])).tup eA;have eB:aT K (upd (upd H7 p (.tup [V.str (eN (k+1)),V.str (eN (k+1)),V.str (xN k)])) r (.tup [V.str (eN k),V.ref p])) r [V.str (eN k),V.ref p]:=aT.of ae;have SB:=S7.same kB;refine⟨L,_,_,rfl,rfl,SB.eL,bq (by rw [ar];omega),?_⟩;have c9:c % 9=5:=by
    have z:=cI cc;injection z
   exact⟨OU++[r],_,_,_,_,rfl,SB.app hL eB Iw,D7.more (.inr (.inr ⟨by rw [hmd];show decide (cellAt ns (1+k) % 3=1)=false;rw [<-RX];exact gJ ∅,rfl⟩)) ∅⟩
  exact⟨OU,MI,_,_,_,rfl,S7,D7⟩
 rintro σ H5 ⟨rs,aa,y2,y3,y4,rfl,S5,D5⟩;have XH:=D5.oY;have ll5:=bI S5.rl;refine⟨_,rfl,S,ns,9,rfl,S5.sm.seq hS,hn,λc _=>?_⟩;refine⟨λσ H6=>∃(MM:List Addr) (ps:List Str),σ=[aF S,aF L,y2,some (.int c),y4]/\HQ K H H6 L MM (aa++[(("e8":Str),ps)])/\(ps=[]\/ps=(["n"]:List Str)),?_,?_⟩
 .refine⟨_,rfl,.inl ⟨rfl,_,aI.of S5.eL⟩,EB,λt1 h1=>⟨uo,λt2 h2=>⟨mj,λLL R8=>?_⟩⟩⟩;have kA:=af h1 (.tup [V.str "n"]);have e1:aT K (upd H5 t1 (.tup [V.str "n"])) t1 ((["n"]:List Str).map V.str):=aT.of ae;have kB:=af h2 (.tup []);have e2:aT K (upd (upd H5 t1 (.tup [V.str "n"])) t2 (.tup [])) t2 (([]:List Str).map V.str):=aT.of ae;have kC:=af R8 (.lst [V.ref t1,V.ref t2]);have e3:upd (upd (upd H5 t1 (.tup [V.str "n"])) t2 (.tup [])) LL (.lst [V.ref t1,V.ref t2]) LL=some (.lst [V.ref t1,V.ref t2]):=ae;generalize upd (upd (upd H5 t1 (.tup [V.str "n"])) t2 (.tup [])) LL (.lst [V.ref t1,V.ref t2])=HC at kC e3;have s5C:=(kA.trans kB).trans kC;have e1C:=(kB.trans kC).tup e1;have e2C:=kC.tup e2;obtain⟨i,pi,ps,ei,hat,vp,Ij⟩:∃(i:Int)(pi:Addr) (ps:List Str),c % 2=i/\ux [V.ref t1,V.ref t2] i=some (.ref pi)/\aT K HC pi (ps.map V.str)/\(ps=[]\/ps=(["n"]:List Str)):=by
   obtain h | h:c % 2=0\/c % 2=1:=by omega
   .exact⟨0,t1,["n"],h,rfl,e1C,.inr rfl⟩
   exact⟨1,t2,[],h,rfl,e2C,.inl rfl⟩
  refine⟨_,rfl,_,_,rfl,rfl,(by show (0:Int) < 2;decide),?_⟩;refine⟨LL,_,i,.ref pi,rfl,congrArg V.int ei,aI.of e3,hat,?_⟩;refine⟨mj,λr qz=>?_⟩;have kD:=af qz (.tup [V.str "e8",V.ref pi]);have eD:aT K (upd HC r (.tup [V.str "e8",V.ref pi])) r [V.str "e8",V.ref pi]:=aT.of ae;have SD:=S5.same (s5C.trans kD);refine⟨L,_,_,rfl,rfl,SD.eL,bq (by rw [ar];omega),?_⟩;exact⟨rs++[r],ps,rfl,SD.app hL eD (kD.tup vp),Ij⟩
 rintro σ H6 ⟨MM,ps,rfl,S6,Ij⟩;have ZV:=bI S6.rl;rw [bB,fS] at ZV;refine⟨λσ H7=>∃(OU:List Addr)(more:List au)(y3:Option V),σ=[aF S,aF L,y2,y3,y4]/\HQ K H H7 L OU (aa++(("e8":Str),ps)::more)/\(more=[]\/more=([(("e8":Str),(["(","e0",")"]:List Str))]:List au)),?_,?_⟩
 .refine⟨_,rfl,_,_,rfl,rfl,⟨nofun,nofun⟩,_,_,rfl,rfl,(by show (0:Int) < 2;decide),rfl,_,rfl,?_⟩;refine cx (λ_=>?_) (λ_=>?_)
  .refine⟨_,rfl,.inl ⟨rfl,_,aI.of S6.eL⟩,Kw,λp hp=>?_⟩;have kA:=af hp (.tup [V.str "(",V.str "e0",V.str ")"]);have eA:aT K (upd H6 p (.tup [V.str "(",V.str "e0",V.str ")"])) p ((["(","e0",")"]:List Str).map V.str):=aT.of ae;refine⟨mj,λr qz=>?_⟩;have kB:=kA.trans (af qz (.tup [V.str "e8",V.ref p]));have Iw:=(af qz (.tup [V.str "e8",V.ref p])).tup eA;have eB:aT K (upd (upd H6 p (.tup [V.str "(",V.str "e0",V.str ")"])) r (.tup [V.str "e8",V.ref p])) r [V.str "e8",V.ref p]:=aT.of ae;have SB:=S6.same kB;refine⟨L,_,_,rfl,rfl,SB.eL,bq (by rw [ar];omega),?_⟩;have SC:=SB.app hL eB Iw;rw [kn] at SC;exact⟨MM++[r],_,_,rfl,SC,.inr rfl⟩
  exact⟨MM,[],_,rfl,S6,.inl rfl⟩
 rintro σ H7 ⟨OU,more,y3,rfl,S7,hmo⟩;exact⟨_,rfl,q L OU _ H7 hL S7.sm S7.eL S7.rl (J3 D5 Ij hmo)⟩
end
end ig
namespace L2
open PySem PySem.Spec PyProof.Rows
def N9:List V->List V->Bool
 | [],[]=>true
 | x::xs,y::ys=>vA x y && N9 xs ys
 | _,_=>false
theorem vB:∀(xs ys:List V),((List.range (min xs.length ys.length)).all (λj=>vA (xs.getD j .gb) (ys.getD j .gb)) && (xs.length == ys.length))=N9 xs ys
 | [],[]=>rfl
 | [],y::ys=>by simp [N9]
 | x::xs,[]=>by simp [N9]
 | x::xs,y::ys=>by
  have ih:=vB xs ys;show _=(vA x y && N9 xs ys);rw [<-ih,dG,dG,Nat.succ_min_succ,List.range_succ_eq_map,List.all_cons,List.all_map];simp only [Function.comp_def,List.getD_cons_zero,List.getD_cons_succ,Nat.succ_eq_add_one];rw [Bool.and_assoc]
  congr 2
  simp
def A_ {A:Around}{s:Shared}{xs ys:List V}{aU gr:List Value}(r:ba xs aU)(r2:ba ys gr)(fx:xs.all jL=true)(fy:ys.all jL=true) (j:Nat)(h1:j < aU.toArray.size)(h2:j < gr.toArray.size) :
  SeqAt.EqAt A s aU.toArray[j] gr.toArray[j] (vA (xs.getD j .gb) (ys.getD j .gb)):=by
 have l1:=r.length;have l2:=r2.length;have k1:j < aU.length:=by simpa using h1
 have k2:j < gr.length:=by simpa using h2
 have g1:xs[j]?=some (xs[j]'∅):=cT ∅;have g2:ys[j]?=some (ys[j]'∅):=cT ∅;obtain⟨u1,e1,q1⟩:=r.get g1;obtain⟨u2,e2,q2⟩:=r2.get g2;have f1:aU.toArray[j]=u1:=by
  have:=(bh.mp e1).2;simpa using this
 have f2:gr.toArray[j]=u2:=by
  have:=(bh.mp e2).2;simpa using this
 rw [f1,f2];have d1:xs.getD j .gb=xs[j]'∅:=by rw [nW,g1];rfl
 have d2:ys.getD j .gb=ys[j]'∅:=by rw [nW,g2];rfl
 rw [d1,d2];exact Bc q1 q2 (dP.mp fx _ (qj _)) (dP.mp fy _ (qj _))
def yw (t:SetTable) (n:Nat):(t.orStandIn n).led=t.led:=by
 unfold SetTable.orStandIn;by_cases h:t.fits n=true
 .rw [aw h]
 rw [ax h];rfl
def AS (t:SetTable)(es:Array (Int×Value)) (h:Int)(x:Value):(layNew t es h x).2.1.led=t.led:=by
 unfold layNew;cases e:t.freeSlot h with
 | none=>rfl
 | some q =>
  obtain⟨j,b⟩:=q;show ((t.put j).1.orStandIn _).led=t.led;rw [yw];rfl
def Gq {m f k:Nat}{led pl:Bool}{hs:Array Int}{t:SetTable}{o:Array Nat}(h:SetTable.laid m f k led pl hs=some (t,o)):t.led=led/\t.plain=pl:=by
 unfold SetTable.laid at h;simp only [Option.bind_eq_bind,Option.bind_eq_some_iff] at h;obtain⟨ow,_,h2⟩:=h;cases h2;exact⟨rfl,rfl⟩
def CV (t:SetTable)(es:Array (Int×Value)) (n:Nat):(relayAll t es n).2.1.led=t.led/\(t.plain=false->(relayAll t es n).2.1.plain=false):=by
 unfold relayAll;cases e:t.relaid (es.map (·.1)) n with
 | none=>exact⟨rfl,λ_=>rfl⟩
 | some q =>
  obtain⟨t',o⟩:=q;have h:=Gq e;dsimp only
  split
  .exact⟨h.1,λz=>h.2.trans z⟩
  exact⟨rfl,λ_=>rfl⟩
def kS:Value->Str
 | .str z _=>z
 | _ => ""
def gy (P:Program)(w:World)(h:Heap)(a:Addr)(led:Bool) (ds:List Str):Prop:=∃(o:Obj)(es:Array (Int×Value)) (ep:Nat)(t:SetTable),h.get? a=some o/\o.ExactSet/\o.data=.set es ep t/\ElemsOf (strKind P w) es.toList/\(∀e∈es.toList,∃z k,e.2=.str z k)/\(es.toList.map λe=>kS e.2).Perm ds/\t.fits es.size=true/\t.led=led/\(0 < es.size->t.plain=false)
theorem gy.size {es:Array (Int×Value)}{ds:List Str}(h:(es.toList.map λe=>kS e.2).Perm ds):es.size=ds.length:=by
 rw [<-h.length_eq,ar,iN]
def gy.at {P:Program}{w:World}{h h':Heap}{a:Addr}{led:Bool}{ds:List Str}(T:gy P w h a led ds)(k:∀o,h.get? a=some o->h'.get? a=some o):gy P w h' a led ds:=by
 obtain⟨o,es,ep,t,ho,r⟩:=T;exact⟨o,es,ep,t,k _ ho,r⟩
section
variable {P:Program}{w:World}{A:Around}{E:Value->Shared->Prop}{s:Shared}
def r_ {h:Heap}{a:Addr}{o:Obj}{es l8:Array (Int×Value)}{ep:Nat}{t t':SetTable}{led:Bool}{ds:List Str}(ho:h.get? a=some o)(hx:o.ExactSet)(hd:o.data=.set es ep t)(Dq:ElemsOf (strKind P w) l8.toList)(nO:∀e∈l8.toList,∃z k,e.2=.str z k)(hp:(l8.toList.map λe=>kS e.2).Perm ds)(hf:t'.fits l8.size=true)(hl:t'.led=led)(vj:t'.plain=false) :
  (h.update a (Obj.putSet l8 t')).get? a=some { o with data:=.set l8 (ep+1) t' }/\gy P w (h.update a (Obj.putSet l8 t')) a led ds:=by
 have g:(h.update a (Obj.putSet l8 t')).get? a=some { o with data:=.set l8 (ep+1) t' }:=by
  have q:=rC (Obj.putSet l8 t') ho (by rw [putSet_of l8 t' hd];rfl);rw [putSet_of l8 t' hd] at q;exact q
 exact⟨g,_,l8,ep+1,t',g,hx,rfl,Dq,nO,hp,hf,hl,λ_=>vj⟩
def zw {g:Bool->Sem Unit}(hg:∀(b:Bool)(s₁:Shared)(Q':Unit->Shared->Prop),Q' () s₁->wpAny (model P w) A (g b) Q' E s₁){a:Addr}{o:Obj}{es qe:Array (Int×Value)}{ep:Nat}{t t2:SetTable}{led wd:Bool}{ds:List Str}{R:Option Bool->Shared->Prop}
  (ho:s.heap.get? a=some o)(hx:o.ExactSet)(hd:o.data=.set es ep t)(G3:ElemsOf (strKind P w) qe.toList)(GA:∀e∈qe.toList,∃z k,e.2=.str z k)(O7:(qe.toList.map λe=>kS e.2).Perm ds)(Dt:qe.size < scanBound)(f2:t2.fits qe.size=true)(l2:t2.led=led)(p2:t2.plain=false)
  (q:∀h',Heap.SameBut a s.heap h'->gy P w h' a led ds->R (some true) { s with heap:=h' }) :
  wpAny (model P w) A (storeSet a qe t2 >>= λ_=>if (!wd && t2.tooFull)=true then g (relayAll t2 qe (SetTable.grown qe.size)).2.2 >>= λ_=>storeSet a (relayAll t2 qe (SetTable.grown qe.size)).1 (relayAll t2 qe (SetTable.grown qe.size)).2.1 >>= λ_=>pure (some true) else pure (some true)) R E s:=by
 refine ay (wpAny_storeSet_of ho hd ?_ (fits_of_scanBound Dt));obtain⟨El,T1⟩:=r_ (P:=P) (w:=w) ho hx hd G3 GA O7 f2 l2 p2;have Zo:=mR s.heap a (Obj.putSet qe t2)
 split
 .have rp:=relayAll_perm t2 qe (SetTable.grown qe.size);have rf:=relayAll_fits t2 qe (SetTable.grown qe.size);have rl:=CV t2 qe (SetTable.grown qe.size);generalize relayAll t2 qe (SetTable.grown qe.size)=Rl at rp rf rl ⊢;obtain⟨es2,t3,g2⟩:=Rl;dsimp only at rp rf rl ⊢;have sz2:es2.size=qe.size:=by rw [<-iN,rp.length_eq,iN]
  refine ay (hg _ _ _ ?_);refine ay (wpAny_storeSet_of El rfl ?_ (fits_of_scanBound ∅));obtain⟨_,T2⟩:=r_ (P:=P) (w:=w) (led:=led) (ds:=ds) El hx rfl (G3.perm rp) (λe he=>GA e (rp.mem_iff.mp he)) ((rp.map λe=>kS e.2).trans O7) rf (rl.1.trans l2) (rl.2 p2);exact aD (q _ (Zo.trans (mR _ a _)) T2)
 exact aD (q _ Zo T1)
def Kl {a:Addr}{led:Bool}{ds:List Str}{z:Str}{k:Tok}{Q:Bool->Shared->Prop}(T:gy P w s.heap a led ds)(hb:ds.length+1 < scanBound)
  (q:∀(b:Bool)(h':Heap),Heap.SameBut a s.heap h'->gy P w h' a led (if z∈ds then ds else ds++[z])->Q b { s with heap:=h' }):wpAny (model P w) A (setAddHashed a (.str z k) ((strKind P w).hash z)) Q E s:=by
 obtain⟨o,es,ep,t,ho,hx,hd,Dq,nO,hp,hf,hl,vj⟩:=T;have hsz:=gy.size hp;have JN:=strKind_is P w z k;have WS:(Value.str z k).scannable=true:=rfl;unfold setAddHashed setAddHashedIn;refine i8 (ay (pj ho hd hf ?_));dsimp only;rw [byScan_of WS ∅ Dq];simp only [↓reduceIte];unfold setAddByScan;refine ay (ay (iw (ay (wpAny_setScan_of JN ho hd hf Dq ?_))));have mem:∀e∈es.toList,(strKind P w).is z e.2=true↔kS e.2=z:=λe he=>by
  obtain⟨z',k',e2⟩:=nO e he;rw [e2];show Value.isStrOf z (.str z' k')=true↔z'=z;simp [Value.isStrOf]
 cases hr:List.findIdx? (λe=>(strKind P w).is z e.2) es.toList with
 | some j =>
  dsimp only;obtain⟨hj,hpj,_⟩:=List.findIdx?_eq_some_iff_getElem.mp hr;have zi:z∈ds:=hp.mem_iff.mp (bN.mpr ⟨_,qj hj,(mem _ (qj hj)).mp hpj⟩);refine aD (aD ?_);have e:s={ s with heap:=s.heap }:=by cases s;rfl
  have:=q false s.heap (Heap.SameBut.refl a s.heap) (by rw [aw zi];exact⟨o,es,ep,t,ho,hx,hd,Dq,nO,hp,hf,hl,vj⟩);rw [e];exact this
 | none =>
  dsimp only;have zn:z∉ds:=λzi=>by
   obtain⟨e,he,e2⟩:=bN.mp (hp.mem_iff.mpr zi);have:=List.findIdx?_eq_none_iff.mp hr e he;rw [(mem e he).mpr e2] at this;cases this
  rw [ax zn] at q;have uC:=layNew_perm t es ((strKind P w).hash z) (.str z k);have Ul:=layNew_fits t es ((strKind P w).hash z) (.str z k);have Uh:=AS t es ((strKind P w).hash z) (.str z k);generalize layNew t es ((strKind P w).hash z) (.str z k)=L at uC Ul Uh ⊢;obtain⟨qe,t1,wd,gv⟩:=L;dsimp only at uC Ul Uh ⊢;rw [Array.toList_push] at uC;have G3:ElemsOf (strKind P w) qe.toList:=(Dq.push JN WS).perm uC;have GA:∀e∈qe.toList,∃z k,e.2=.str z k:=λe he=>by
   rcases bY.mp (uC.mem_iff.mp he) with h | h
   .exact nO e h
   rw [cg.mp h];exact⟨z,k,rfl⟩
  have O7:(qe.toList.map λe=>kS e.2).Perm (ds++[z]):=by
   have h1:=uC.map λe=>kS e.2;rw [br] at h1;exact h1.trans (hp.append_right _)
  have WJ:=gy.size O7;rw [bB,fS] at WJ;have gw:∀(b:Bool){s₁:Shared}{Q':Unit->Shared->Prop},Q' () s₁->wpAny (model P w) A (match b with | true=>rule "set.scan.the-table-gave-way" | false=>pure ()) Q' E s₁:=λb s₁ Q' hq=>by cases b <;> first | exact aD hq | exact iw hq
  refine ay (gw _ ?_);have fin:∀h',Heap.SameBut a s.heap h'->gy P w h' a led (ds++[z])->Q true { s with heap:=h' }:=λh' b t=>q true h' b t;have Dt:qe.size < scanBound:=by omega
  split
  .refine ay ?_;rw [hashByValue_scannable 8 WS];refine aD ?_;refine zw ?_ ho hx hd G3 GA O7 Dt (SetTable.fits_plain_off Ul) (Uh.trans hl) rfl ?_
   .intro b s₁ Q' hq;cases b <;> first | exact aD hq | exact iw hq
   intro h' JI Er;dsimp only;exact aD (fin h' JI Er)
  rename_i np
  refine ay (aD ?_);simp only [↓reduceIte];refine zw ?_ ho hx hd G3 GA O7 Dt Ul (Uh.trans hl) (by simpa using np) ?_
  .intro b s₁ Q' hq;cases b <;> first | exact aD hq | exact iw hq
  intro h' JI Er;dsimp only;exact aD (fin h' JI Er)
end
def gP (val:Nat->Str):Nat->List Str
 | 0=>[]
 | i+1=>if val i∈gP val i then gP val i else gP val i++[val i]
theorem sV (val:Nat->Str):∀i,(gP val i).length<=i
 | 0=>aK _
 | i+1=>by
  have:=sV val i;show (if val i∈gP val i then gP val i else gP val i++[val i]).length<=i+1
  split
  .omega
  rw [bB,fS];omega
section
variable {P:Program}{w:World}{A:Around}{R:Result->Shared->Prop}{I:Addr}{fp wr:List Addr}{G:Array GenState->Array GenState->Prop}{n:Nat}{Pv:Nat->Value->Prop}{St:Nat->Shared->Prop}
def Gk (W:WalksS P w A.in1 I fp wr G n Pv St)(S:Addr)(Ut:S∉fp)(val:Nat->Str)(WE:∀i v,Pv i v->∃t,v=.str (val i) t)(hb:n+1 < scanBound)(led:Bool) :
  ∀(k i:Nat)(s:Shared),n - i=k->i<=n->St i s->gy P w s.heap S led (gP val i) ->
   (∀s',Moved (S::wr) G s s'->gy P w s'.heap S led (gP val n)->R (.ok (.ret .none)) s') ->
   codeAny (model P w) A (.builtin "set.update.loop" ⟨[.ref S,.ref I],[]⟩) R s:=by
 have hSw:S∉wr:=λh=>Ut (W.sub _ h);have sub:∀b∈wr,b∈S::wr:=λb hb=>cu _ hb;intro k
 induction k with
 | zero =>
  intro i s hk hi nO hS hR;obtain rfl:i=n:=by omega
  refine kK F.entry_set_update_loop ?_;rw [mi F.plain_set_update_loop _];show wpAny _ A.in1 (pyNext (.ref I) >>= _) _ _ s;refine ay (W.done s _ _ nO λs' hm=>?_);show wpAny _ A.in1 (ret Value.none) _ _ s';exact aD (hR s' (hm.mono sub) (hS.at λo e=>hm.heap S _ hSw e))
 | succ k ih =>
  intro i s hk hi nO hS hR;have j8:i < n:=by omega
  refine kK F.entry_set_update_loop ?_;rw [mi F.plain_set_update_loop _];show wpAny _ A.in1 (pyNext (.ref I) >>= _) _ _ s;refine ay (W.item i s _ _ j8 nO λv s' hP WK hm=>?_);obtain⟨t,rfl⟩:=WE i v hP;have Er:gy P w s'.heap S led (gP val i):=hS.at λo e=>hm.heap S _ hSw e;show wpAny _ A.in1 (holding [Value.str (val i) t] (setAdd S (.str (val i) t)) >>= _) _ _ s';refine ay (i8 ?_);unfold setAdd;refine i8 ?_;refine ay ((strKind P w).pyHash (k:=val i) (strKind_is _ _ _ _) ?_);have room:(gP val i).length+1 < scanBound:=by have:=sV val i;omega
  refine Kl (s:={ s' with toks:=s'.toks+1 }) Er room λb h' JI Io=>?_;refine aD ⟨jj F.plain_set_update_loop _,ih (i+1) _ ∅ j8 (W.frame _ s' _ _ WK (jQ _) λb hb o e=>?_) Io λMH W7 Xq=>?_⟩
  .rw [JI.2 b (λh:b=S=>Ut (by rw [<-h];exact hb))];exact e
  refine hR MH (Moved.trans W.gtrans ((hm.mono sub).then_heap (jQ _) λb o hb e=>?_) W7) Xq;rw [JI.2 b (λh:b=S=>hb (by rw [h];exact bQ))];exact e
end
section
variable {P:Program}{w:World}{A:Around}{E:Value->Shared->Prop}{s:Shared}
abbrev yK (w:World):Bool:=!(w.params.followText "set-order")
def E5 (a:Value){Q₁:Value->Shared->Prop}(h:Q₁ (.ref s.heap.objs.size) { s with heap:=s.heap.push { cls:=.type "set",dict:=none,data:=.set #[] 0 (.fresh 0 0 (yK w)) } }) :
  codeAny (model P w) A (.call (.builtin "set.__new__") ⟨[.type "set",a],[]⟩) (wants Q₁ E) s:=by
 refine codeAny_of_tree ?_;show wpAny _ A.in1 (do checkBuiltinCall "set.__new__" ⟨[.type "set",a],[]⟩;again (.builtin "set.__new__" ⟨[.type "set",a],[]⟩)) _ _ s;refine ay (wpAny_of_eq (F.newCall_set_1 a) (aD ⟨jj F.plain_set_new _,kK F.entry_set_new ?_⟩));rw [mi F.plain_set_new _];unfold Builtin.«set.__new__» Builtin.Frozenset.newClass;have Rw:=sub_set_self;obtain⟨hp,g,d,tk,os⟩:=s;dsimp only
 wp_walk
 refine pb (aD ?_);dsimp only;simp only [newObj];refine ay (wpAny_alloc (aD ?_));exact aD h
def x8 {h:Heap}{a:Addr}{led:Bool}(e:h.get? a=some { cls:=.type "set",dict:=none,data:=.set #[] 0 (.fresh 0 0 led) }):gy P w h a led [] :=
 ⟨_,#[],0,_,e,⟨rfl,rfl,rfl⟩,rfl,λe he=>by simp at he,λe he=>by simp at he,by simp,rfl,rfl,λz=>absurd z (kJ 0)⟩
abbrev Jy (w:World):Obj:={ cls:=.type "set",dict:=none,data:=.set #[] 0 (.fresh 0 0 (yK w)) }
def wF {l S:Addr}{items:Array Value}{val:Nat->Str}{h0:Heap}{Q:Value->Shared->Prop}(hh:A.handled=none)(hs:s.heap=h0.push (Jy w))(hS:S=h0.objs.size)(hl:h0.IsList l items)(hi:∀i v,items[i]?=some v->∃t,v=Value.str (val i) t)(hb:items.size+1 < scanBound)
  (q:∀(h':Heap) (tk:Nat),gy P w h' S (yK w) (gP val items.size)->(∀b o,b < h0.objs.size->h0.get? b=some o->h'.get? b=some o)->Q .none { s with heap:=h',toks:=tk }) :
  codeAny (model P w) A (.call (.builtin "set.__init__") ⟨[.ref S,.ref l],[]⟩) (wants Q E) s:=by
 have gS:s.heap.get? S=some (Jy w):=by rw [hs,hS];exact cJ _ rfl
 have tS:s.TypeIs (.ref S) "set" := ⟨_,gS,rfl⟩;refine jR (vZ (R:=wants Q E) kT.init.plain F.entry_set_init (check_set_init_1 tS ?_)) λr s2 h=>h;obtain⟨ol,O8,mz,nl,yQ⟩:=hl;obtain⟨oc,od,oda,wY⟩:=ol;simp only at mz yQ;subst mz;subst yQ;have hlS:l < h0.objs.size:=bo O8;have WZ:s.heap.get? l=some { cls:=.type "list",dict:=od,data:=.seq items nl,slots:=wY }:=by rw [hs];exact bW _ O8
 have n1:=F.sub_list_set;have n2:=F.sub_list_frozenset;have n3:(Value.type "list" == Value.type "dict")=false:=by decide
 have RK:s.heap.IsList l items:=⟨_,WZ,rfl,nl,rfl⟩;unfold Builtin.«set.__init__» noKeywords Builtin.Frozenset.updateFrom;generalize hPI:pyIter=PI
 wp_walk
 subst hPI;refine mN RK ?_;refine ay (wpAny_runValue ?_);have h3:A.in1.in1.handled=none:=by simp [hh]
 have sz:s.heap.objs.size=h0.objs.size+1:=by rw [hs,jt]
 have nI:l≠s.heap.objs.size:=by rw [sz];exact bE (nR hlS)
 have Ut:S∉[s.heap.objs.size,l]:=by
  rw [sz,hS];simp only [bO,cg,rN,or_false,not_or];exact⟨bE (i9 _),kb hlS⟩
 refine Gk ((Walks.list h3 _ l nI items).toS) S Ut val hi hb (yK w) (items.size - 0) 0 _ ∅ (fj _) ?nO ?hS0 ?hR
 case nO=>exact⟨⟨_,cJ _ rfl,rfl,rfl⟩,RK.push _⟩
 case hS0=>exact x8 (bW _ gS)
 intro s' hm Er;obtain⟨h',g',d',Vj,QG⟩:=s';have eg:g'=s.gens:=hm.gens;have ed:d'=s.drawn:=hm.drawn;have eo:QG=s.os:=hm.os;subst eg;subst ed;subst eo;show wpAny _ _ _ _ _ _;refine aD ?_;show wpAny _ _ (ret Value.none) _ _ _;refine aD (q h' Vj Er λb o hb e=>?_);refine hm.heap b o ?_ (bW _ (show s.heap.get? b=some o by rw [hs];exact bW _ e));rw [sz,hS];simp only [bO,cg,rN,or_false,not_or];exact⟨bE hb,bE (nR hb)⟩
def xH {l:Addr}{items:Array Value}{val:Nat->Str}{Q:Value->Shared->Prop}(hh:A.handled=none)(hl:s.heap.IsList l items)(hi:∀i v,items[i]?=some v->∃t,v=Value.str (val i) t)(hb:items.size+1 < scanBound)
  (q:∀(h':Heap) (tk:Nat),gy P w h' s.heap.objs.size (yK w) (gP val items.size)->(∀b o,b < s.heap.objs.size->s.heap.get? b=some o->h'.get? b=some o)->Q (.ref s.heap.objs.size) { s with heap:=h',toks:=tk }) :
  wpAny (model P w) A (call (.type "set") [.ref l]) Q E s:=by
 obtain⟨c,tl,aal⟩:=kT.mro;have aaa:=kT.made;have Rw:=kT.sub;refine kQ (codeAny_of_tree ?_);show wpAny _ _ (callAny (.type "set") _) _ _ _;refine aD ⟨Code.quiet_builtin _ nofun,kK F.entry_type_call ?_⟩;rw [Around.under_plain (weight_type_call_type "set" [.ref l] []) rfl];have h1:=kT.notType;have h2:=kT.canCreate;have hct:=F.typeCall_set_1 (.ref l)
 repeat (any_goals (first | assumption | wp_step))
 refine jR (E5 (.ref l) (E:=E) (Q₁:=λv s1=>v=.ref s.heap.objs.size/\s1={ s with heap:=s.heap.push (Jy w) }) ⟨rfl,rfl⟩) λr s1 hr=>?_;cases r with
 | error e=>exact hr
 | ok fl =>
  cases fl with
  | ret obj =>
   obtain⟨rfl,rfl⟩:=hr;have hT:Shared.TypeIs { s with heap:=s.heap.push (Jy w) } (.ref s.heap.objs.size) "set" := ⟨_,cJ _ rfl,rfl⟩;have hli:=kT.init.lookup;have hbi:=kT.init.bind (.ref s.heap.objs.size)
   repeat (any_goals (first | assumption | wp_step))
   refine jR (wF (h0:=s.heap) (Q:=λv s2=>v=.none/\∃h' tk,s2={ s with heap:=h',toks:=tk }/\gy P w h' s.heap.objs.size (yK w) (gP val items.size)/\∀b o,b < s.heap.objs.size->s.heap.get? b=some o->h'.get? b=some o) (E:=E) ?_ rfl rfl hl hi hb λh' tk a b=>⟨rfl,h',tk,rfl,a,b⟩) λr2 s2 qz=>?_
   .simp [hh]
   cases r2 with
   | error e=>exact qz
   | ok fl2 =>
    cases fl2 with
    | ret r =>
     obtain⟨rfl,h',tk,rfl,Er,hk'⟩:=qz
     repeat (any_goals (first | assumption | wp_step))
     exact q _ _ Er hk'
    | _=>exact qz.elim
  | _=>exact hr.elim
end
def yi (n:String)(id:String)(nm:Str)(hl:typeLookup (.type "set_iterator") nm=pure (some (.builtin id)))(hs:splitId id=some ("set_iterator",n))(h1:withoutEnding? id "#opaque"=none)(h2:withoutEnding? id "#data"=none)(h3:(Manifest.find? "set_iterator").bind (·.attrs.lookup n)=some .slot)(h4:plainId id=true):Slot "set_iterator" nm id :=
 .of hl hs h1 h2 (.inl h3) (by rw [isSubtype_type];kernel_rfl) h4
def dJ:Slot "set_iterator" "__next__" "set_iterator.__next__" := yi "__next__" _ _ (by rw [typeLookup_type,v9];kernel_rfl) nofun nofun nofun nofun nofun
def lG:entryFor table "set_iterator.__next__"=some Builtin.«set_iterator.__next__»:=entryFor_of_fast (nofun)
def xA:entryFor table "set.__iter__"=some Builtin.«frozenset.__iter__»:=entryFor_alias (id' := "frozenset.__iter__") (nofun) rfl nofun (nofun)
def mC (a:Value):argsOk "set_iterator.__next__" ⟨[a],[]⟩:=by unfold argsOk;kernel_rfl
theorem nH {α:Type}:∀(l:List α) (i:Nat)(x:α),l[i]?=some x->(x::l.eraseIdx i).Perm l
 | [],i,x,h=>by cases h
 | a::r,0,x,h=>by cases h;exact List.Perm.refl _
 | a::r,i+1,x,h=>by
  have ih:=nH r i x h;show (x::a::r.eraseIdx i).Perm (a::r);exact(List.Perm.swap a x _).trans (ih.cons a)
theorem B9 {α:Type}(next:Nat->Nat):∀(f k:Nat)(left:List α)(out:Array α),left.length=f->(pickOrder.go next f k left out).toList.Perm (out.toList++left)
 | 0,k,left,out,h=>by
  rw [zP.mp h,gH];exact List.Perm.refl _
 | f+1,k,left,out,h=>by
  have lt:next k % left.length < left.length:=Nat.mod_lt _ ∅;have e:left[next k % left.length]?=some (left[next k % left.length]):=cT lt;unfold pickOrder.go;rw [e];have ih:=B9 next f (k+1) (left.eraseIdx (next k % left.length)) (out.push left[next k % left.length]) (by rw [List.length_eraseIdx];rw [aw lt];omega);refine ih.trans ?_;rw [Array.toList_push,kn];exact(nH _ _ _ e).append_left _
def u3 {α:Type}(next:Nat->Nat)(xs:Array α):(pickOrder next xs).toList.Perm xs.toList:=by
 have:=B9 next xs.size 0 xs.toList #[] iN;exact this
section
variable {M:Model}{A:Around}{E:Value->Shared->Prop}
def L_ {s:Shared}{src:Source}{n:Nat}{Q:Nat->Shared->Prop}(h0:n≠0)(h:∀j d,j < n->Q j { s with drawn:=d }):wpAny M A (choose src n) Q E s:=λ_ _ _=>⟨h0,h _ _ (Nat.mod_lt _ (Nat.pos_of_ne_zero h0))⟩
theorem Bt {α:Type}:∀(n:Nat)(xs:List α)(s:Shared)(Q:List α->Shared->Prop),xs.length=n->(∀ys d,ys.Perm xs->Q ys { s with drawn:=d })->wpAny M A (drawOrder n xs) Q E s
 | 0,xs,s,Q,h,q=>by
  rw [zP.mp h] at q ⊢;unfold drawOrder;exact aD (q [] s.drawn (List.Perm.refl _))
 | n+1,[],s,Q,h,q=>by cases h
 | n+1,a::r,s,Q,h,q=>by
  unfold drawOrder;refine ay (L_ (by rw [h];exact Nat.succ_ne_zero _) λj d lj=>?_);have e:(a::r)[j]?=some ((a::r)[j]):=cT lj;rw [e];refine ay (Bt n ((a::r).eraseIdx j) _ _ (by rw [List.length_eraseIdx,aw lj];omega) λys d2 p=>?_);exact aD (q _ d2 ((p.cons _).trans (nH _ _ _ e)))
end
def mE (h:Heap)(I S:Addr)(fst:Value) (i n ep:Nat):Prop:=∃o,h.get? I=some o/\o.cls=.type "set_iterator" /\ o.data=.fields #[fst,.int i 0,.ref S,.int n 0,.int ep 0]
abbrev DU (w:World):Bool:=w.params.followText "set-order"
def qE (w:World)(h:Heap)(S:Addr)(es:Array (Int×Value)) (ep:Nat)(t:SetTable)(vals:List Value)(fst:Value) (i:Nat):Prop :=
 (DU w=true/\fst=.int 0 0/\vals=(pickOrder (w.params.setOrder S ep) es).toList.map (·.2)) \/
 (DU w=false/\∃(Pt:Addr)(ps:List Nat)(o:Obj) (n:Nat),fst=.ref Pt/\h.get? Pt=some o/\o.data=.seq (ps.map λp:Nat=>Value.int p 0).toArray n/\ps.Perm (List.range es.size)/\vals=ps.map λp=>(es.toList.getD p (0,.none)).2) \/
 (DU w=false/\es.size<=1/\(!t.plain && decide (1 < es.size))=false/\(!t.led && !es.isEmpty)=false/\∃k:Nat,fst=.int k 0/\vals=es.toList.map (·.2)/\(i=0->k=0)/\(i=1->∃j,t.place[0]?=some j/\k=j+1))
def range_getD (l:List (Int×Value)):((List.range l.length).map λp=>(l.getD p (0,Value.none)).2)=l.map (·.2):=by
 refine List.ext_getElem (by simp) λi h1 h2=>?_;simp at h1 h2;simp [nW,h1]
def qE.perm {w:World}{h:Heap}{S:Addr}{es:Array (Int×Value)}{ep:Nat}{t:SetTable}{vals:List Value}{fst:Value}{i:Nat}(m:qE w h S es ep t vals fst i):vals.Perm (es.toList.map (·.2)):=by
 rcases m with ⟨_,_,rfl⟩ | ⟨_,Pt,ps,o,n,_,_,_,p,rfl⟩ | ⟨_,_,_,_,k,_,rfl,_⟩
 .exact(u3 _ _).map _
 .have:=p.map λp=>(es.toList.getD p (0,Value.none)).2;rw [<-iN,range_getD] at this;exact this
 exact List.Perm.refl _
section
variable {P:Program}{w:World}{A:Around}{E:Value->Shared->Prop}{s:Shared}
def Gw {S:Addr}{o:Obj}{es:Array (Int×Value)}{ep:Nat}{t:SetTable}{Q:Value->Shared->Prop}(ho:s.heap.get? S=some o)(hx:o.ExactSet)(hd:o.data=.set es ep t)(hf:t.fits es.size=true)(hl:t.led=!DU w)(hp:0 < es.size->t.plain=false)(hb:es.size < scanBound)
  (q:∀(I:Addr)(h':Heap)(d:Drawn)(vals:List Value)(fst:Value),(∀b o,s.heap.get? b=some o->h'.get? b=some o)->s.heap.objs.size<=I->mE h' I S fst 0 es.size ep->qE w h' S es ep t vals fst 0->(∀Pt,fst=.ref Pt->Pt≠I/\s.heap.objs.size<=Pt)->Q (.ref I) { s with heap:=h',drawn:=d }) :
  wpAny (model P w) A (pyIter (.ref S)) Q E s:=by
 have tS:s.TypeIs (.ref S) "set" := ⟨o,ho,hx.1⟩;refine wpAny_pyIter_slot tS F.slot_set_iter (kj F.slot_set_iter tS xA ?_ (F.args_set_iter_1 _));show wpAny _ _ (Builtin.Frozenset.sizeOf S >>= _) _ _ s;refine ay ?_;unfold Builtin.Frozenset.sizeOf;refine ay (wpAny_setEntries_of ho hd hf (aD ?_));show wpAny _ _ (setDrawn S >>= _) _ _ s;refine ay ?_;unfold setDrawn setsByText;refine ay (pj ho hd hf ?_);dsimp only;refine ay (ay (pb (aD ?_)));refine aD ?_;show wpAny _ _ (if (!DU w && (!t.plain && decide (es.size > 1)))=true then _ else _) _ _ s;by_cases c:(!DU w && (!t.plain && decide (es.size > 1)))=true
 .rw [aw c];obtain⟨c1,c2⟩:=iB.mp c;have nb:DU w=false:=by simpa using c1
  refine ay (Bt es.size (List.range es.size) s _ nQ λys d p=>?_);refine ay ?_;simp only [newTuple];refine iM ?_ ?_
  rotate_left
  .have l1:=p.length_eq;rw [nQ] at l1;have:=fits_of_scanBound hb;show ((List.map (λi:Nat=>rawInt (i:Int)) ys).toArray).size<=sizeLine;rw [cP,ar];omega
  refine ay (wpAny_setEpoch_of (bW _ ho) hd hf ?_);refine ay (iM (aD ⟨_,rfl,"set_iterator",_,⟨_,cJ _ rfl,rfl⟩,dJ.lookup,?_⟩));refine q _ _ d (ys.map λp=>(es.toList.getD p (0,.none)).2) _ (λb o e=>bW _ (bW _ e)) ?_ ⟨_,cJ _ rfl,rfl,rfl⟩ (.inr (.inl ⟨nb,s.heap.objs.size,ys,_,_,rfl,bW _ (cJ _ rfl),rfl,p,rfl⟩)) λPt e=>?_
  .rw [jt];exact jQ _
  cases e;rw [jt];exact⟨bE (i9 _),aK _⟩
 rw [ax c];refine ay (aD ?_);refine ay (wpAny_setEpoch_of ho hd hf ?_);refine ay (iM (aD ⟨_,rfl,"set_iterator",_,⟨_,cJ _ rfl,rfl⟩,dJ.lookup,?_⟩));have go:∀vals,qE w (s.heap.push { cls:=.type "set_iterator",data:=.fields [rawInt 0,rawInt 0,Value.ref S,rawInt es.size,rawInt ep].toArray }) S es ep t vals (.int 0 0) 0->Q (.ref s.heap.objs.size) { s with heap:=s.heap.push { cls:=.type "set_iterator",data:=.fields [rawInt 0,rawInt 0,Value.ref S,rawInt es.size,rawInt ep].toArray } }:=λvals m =>
  q _ _ s.drawn vals _ (λb o e=>bW _ e) (aK _) ⟨_,cJ _ rfl,rfl,rfl⟩ m λPt e=>by cases e
 cases Uq:DU w with
 | true=>exact go _ (.inl ⟨Uq,rfl,rfl⟩)
 | false =>
  rw [Uq] at c;have c3:¬(!t.plain && decide (es.size > 1))=true:=by simpa using c
  have T8:es.size<=1:=by
   by_cases z:0 < es.size
   .rw [hp z] at c3;simp at c3;omega
   omega
  refine go _ (.inr (.inr ⟨Uq,T8,by simpa using c3,?_,0,rfl,rfl,λ_=>rfl,λz=>by cases z⟩));rw [hl,Uq];rfl
def B0 {S:Addr}{o:Obj}{es:Array (Int×Value)}{ep:Nat}{t:SetTable}{R:Option (Value×Nat)->Shared->Prop}(ho:s.heap.get? S=some o)(hd:o.data=.set es ep t)(hf:t.fits es.size=true)(bt:DU w=true) (k i:Nat)(q:R (((pickOrder (w.params.setOrder S ep) es)[i]?).map λe=>(e.2,k)) s):wpAny (model P w) A (setNext S k i ep) R E s:=by
 unfold setNext setsByText;refine ay (pj ho hd hf ?_);dsimp only;refine ay (ay (pb (aD ?_)));show wpAny _ _ (if DU w=true then _ else _) _ _ s;rw [aw bt,show (ep != ep)=false by simp,ax dC];unfold setWalk setsByText;refine ay (ay (pj ho hd hf ?_));dsimp only;refine ay (ay (pb (aD ?_)));show wpAny _ _ (if DU w=true then _ else _) _ _ s;rw [aw bt];exact ay (pb (aD (aD q)))
def yh {S:Addr}{o:Obj}{es:Array (Int×Value)}{ep:Nat}{t:SetTable}{R:Option (Value×Nat)->Shared->Prop}(ho:s.heap.get? S=some o)(hd:o.data=.set es ep t)(hf:t.fits es.size=true)(bt:DU w=false)(dr:(!t.plain && decide (1 < es.size))=false)(ld:(!t.led && !es.isEmpty)=false) (k i:Nat)
  (q:R (match es[SetTable.below t.place k]?,t.place[SetTable.below t.place k]? with | some (_,x),some j=>some (x,j+1) | _,_=>none) s):wpAny (model P w) A (setNext S k i ep) R E s:=by
 unfold setNext setsByText;refine ay (pj ho hd hf ?_);dsimp only;refine ay (ay (pb (aD ?_)));show wpAny _ _ (if DU w=true then _ else if (!t.plain && decide (es.size > 1))=true then _ else _) _ _ s;rw [bt,ax dC,show (!t.plain && decide (es.size > 1))=false from dr,ax dC];refine ay ?_;show wpAny _ _ (if (!t.led && !es.isEmpty)=true then _ else _) _ _ s;rw [ld,ax dC];exact aD (aD q)
def sI {I S:Addr}{fst:Value}{i n ep:Nat}{Q:Unit->Shared->Prop}(hit:mE s.heap I S fst i n ep)(x:Value)(q:∀h',Heap.SameBut I s.heap h'->mE h' I S x i n ep->Q () { s with heap:=h' }):wpAny (model P w) A (setField (.ref I) 0 x) Q E s:=by
 obtain⟨o,ho,hc,hd⟩:=hit;refine rG ho hd (by simp) (q _ (mR ..) ⟨_,rC _ ho (Obj.isFreed_of_fields (pC hd _)),(Obj.cls_mapFields ..).trans hc,?_⟩);rw [pC hd];simp
def sH {I S:Addr}{fst:Value}{i n ep:Nat}{Q:Unit->Shared->Prop}(hit:mE s.heap I S fst i n ep)(q:∀h',Heap.SameBut I s.heap h'->mE h' I S fst (i+1) n ep->Q () { s with heap:=h' }):wpAny (model P w) A (setField (.ref I) 1 (rawInt ((i:Int)+1))) Q E s:=by
 obtain⟨o,ho,hc,hd⟩:=hit;refine rG ho hd (by simp) (q _ (mR ..) ⟨_,rC _ ho (Obj.isFreed_of_fields (pC hd _)),(Obj.cls_mapFields ..).trans hc,?_⟩);rw [pC hd];simp [rawInt]
def vQ (j k:Nat):SetTable.below #[j] k=if j < k then 1 else 0:=by
 unfold SetTable.below;show SetTable.below.go #[j] k 1 0 1=_;unfold SetTable.below.go;simp;by_cases c:j < k
 .rw [aw c,aw c];rfl
 rw [ax c,ax c];rfl
def Gg {S I:Addr}{o:Obj}{es:Array (Int×Value)}{ep i:Nat}{t:SetTable}{vals:List Value}{fst v:Value}{Q:Option Value->Shared->Prop}(hit:mE s.heap I S fst i es.size ep)(ho:s.heap.get? S=some o)(hd:o.data=.set es ep t)(hf:t.fits es.size=true)(m:qE w s.heap S es ep t vals fst i)(nI:∀Pt,fst=.ref Pt->Pt≠I)(hv:vals[i]?=some v)
  (q:∀(h':Heap)(Ha:Value),Heap.SameBut I s.heap h'->mE h' I S Ha (i+1) es.size ep->qE w h' S es ep t vals Ha (i+1)->(∀Pt,Ha=.ref Pt->fst=.ref Pt)->Q (some v) { s with heap:=h' }) :
  wpAny (model P w) A (pyNext (.ref I)) Q E s:=by
 obtain⟨oi,NF,RW,Xk⟩:=id hit;have tI:s.TypeIs (.ref I) "set_iterator" := ⟨oi,NF,RW⟩;unfold pyNext;refine ay (oZ (qm (name:=Str.ofString "__next__") tI dJ (kj dJ tI lG ?_ (mC _))));show wpAny _ _ (fieldsOf (.ref I) >>= _) _ _ s;refine ay (wpAny_fieldsOf NF Xk ?_);show wpAny _ _ (setEntries S >>= _) _ _ s;refine ay (wpAny_setEntries_of ho hd hf ?_);have ne:((es.size:Int) != (es.size:Int))=false:=by simp
 dsimp only;rw [ne];rw [ax dC];rcases m with ⟨bt,rfl,Cj⟩ | ⟨bt,Pt,ps,po,pn,rfl,O6,Uc,pp,Cj⟩ | ⟨bt,T8,dr,ld,k,rfl,Cj,k0,k1⟩
 .dsimp only;simp only [hU];rw [Cj,bf] at hv;obtain⟨e,ee,ev⟩:=b_.mp hv;refine ay (B0 ho hd hf bt _ _ ?_);rw [<-rF,ee];refine ay (sI hit _ λh1 b1 i1=>ay (sH (s:={ s with heap:=h1 }) i1 λh2 b2 i2=>aD ⟨_,rfl,aD ?_⟩));show Q (some e.2) { s with heap:=h2 };rw [show e.2=v from ev];exact q h2 _ (b1.trans b2) i2 (.inl ⟨bt,rfl,Cj⟩) λPt z=>by cases z
 .dsimp only;simp only [hU];refine ay (mI O6 Uc ?_);dsimp only;have hv0:=hv;rw [Cj,bf] at hv;obtain⟨p,Oa,ev⟩:=b_.mp hv;have lp:p < es.size:=iK.mp (pp.mem_iff.mp (cA Oa));have e1:((ps.map λp:Nat=>Value.int p 0).toArray)[i]?=some (Value.int p 0):=by
   rw [List.getElem?_toArray,bf,Oa];rfl
  rw [e1];dsimp only;refine ay ?_;unfold setNextDrawn;simp only [hU];refine ay (pj ho hd hf ?_);dsimp only;rw [show (ep != ep)=false by simp,ax dC];have e2:es[p]?=some es[p]:=Array.getElem?_eq_getElem lp;rw [e2];have ev2:es[p].2=v:=by
   rw [<-ev,nW,rF,e2];rfl
  refine aD ?_;refine ay (sH hit λh2 b2 i2=>aD ⟨_,rfl,aD ?_⟩);show Q (some es[p].2) { s with heap:=h2 };rw [ev2];exact q h2 _ b2 i2 (.inr (.inl ⟨bt,Pt,ps,po,pn,rfl,b2.extBut Pt po (nI Pt rfl) O6,Uc,pp,Cj⟩)) λPt z=>z
 dsimp only;simp only [hU];have hv0:=hv;rw [Cj,bf,rF] at hv;obtain⟨e,ee,ev⟩:=b_.mp hv;have li:=(Array.getElem?_eq_some_iff.mp ee).1;obtain rfl:i=0:=by omega
 have sz:es.size=1:=by omega
 obtain rfl:=k0 rfl;have sp:t.place.size=1:=by
  have h1:(t.place.size == es.size && decide (t.fill<=t.mask))=true:=hf;have:=(iB.mp h1).1;rw [<-sz];simpa using this
 obtain⟨j,ej⟩:∃j,t.place=#[j]:=⟨t.place[0],Array.ext (by simp [sp]) λi h1 h2=>by
  have:i=0:=by simp at h2;exact h2
  subst this;rfl⟩
 refine ay (yh ho hd hf bt dr ld _ _ ?_);rw [ej,vQ,ax (me _),ee];obtain⟨eh,ex⟩:=e;show wpAny _ _ (setField (.ref I) 0 (rawInt ((j+1:Nat):Int)) >>= _) _ _ s;refine ay (sI hit _ λh1 b1 i1=>ay (sH (s:={ s with heap:=h1 }) i1 λh2 b2 i2=>aD ⟨_,rfl,aD ?_⟩));show Q (some ex) { s with heap:=h2 };rw [show ex=v from ev];exact q h2 _ (b1.trans b2) i2 (.inr (.inr ⟨bt,T8,dr,ld,j+1,rfl,Cj,(λz=>by cases z),λ_=>⟨j,by rw [ej];rfl,rfl⟩⟩)) λPt z=>by cases z
def wz {Q:Option Value->Shared->Prop}{F:PySem.Fin->Shared->Prop}(hh:A.handled=none)(q:∀h',(∀b o,s.heap.get? b=some o->h'.get? b=some o)->Q none { s with heap:=h' }) :
  wpAny (model P w) A.in1 (newExc (.type "StopIteration") [] >>= λx=>(raiseNew x:Sem PySem.Fin)) F (λe s'=>wpAny (model P w) A (isInstance e (Value.type "StopIteration") >>= λb=>if b=true then pure none else throw e) Q E s') s:=by
 refine ay ?_;simp only [newExc,newTuple];refine ay (iM ?_ (by size_fits));refine ay (m:=firstArgMember _ _) (wpAny_of_eq (a:=Value.none) (by first | rfl | (simp only [firstArgMember];rfl)) ?_)
 refine iM ?_ (by size_fits);simp only [raiseNew];refine ay (wpAny_handled ?_);rw [show A.in1.handled=none from hh];refine ay (aD (wpAny_throw ?_));refine ay (rK (T := "StopIteration") (b:=true) ⟨_,cJ _ rfl,rfl⟩ isSubtype_stop ?_);exact aD (q _ λb o e=>bW _ (bW _ e))
def sG {I S:Addr}{fst:Value}{i n ep:Nat}{Q:Unit->Shared->Prop}(hit:mE s.heap I S fst i n ep)(q:∀h',Heap.SameBut I s.heap h'->Q () { s with heap:=h' }):wpAny (model P w) A (setField (.ref I) 2 Value.none) Q E s:=by
 obtain⟨o,ho,hc,hd⟩:=hit;exact rG ho hd (by simp) (q _ (mR ..))
def JY {S I:Addr}{o:Obj}{es:Array (Int×Value)}{ep i:Nat}{t:SetTable}{vals:List Value}{fst:Value}{Q:Option Value->Shared->Prop}(hh:A.handled=none)(hit:mE s.heap I S fst i es.size ep)(ho:s.heap.get? S=some o)(hd:o.data=.set es ep t)(hf:t.fits es.size=true)(m:qE w s.heap S es ep t vals fst i)(hi:i=es.size)
  (q:∀(h':Heap),(∀b o,b≠I->s.heap.get? b=some o->h'.get? b=some o)->Q none { s with heap:=h' }) :
  wpAny (model P w) A (pyNext (.ref I)) Q E s:=by
 obtain⟨oi,NF,RW,Xk⟩:=id hit;have tI:s.TypeIs (.ref I) "set_iterator" := ⟨oi,NF,RW⟩;have lv:vals.length=es.size:=by rw [m.perm.length_eq,ar,iN]
 unfold pyNext;refine ay (oZ (qm (name:=Str.ofString "__next__") tI dJ (kj dJ tI lG ?_ (mC _))));show wpAny _ _ (fieldsOf (.ref I) >>= _) _ _ s;refine ay (wpAny_fieldsOf NF Xk ?_);show wpAny _ _ (setEntries S >>= _) _ _ s;refine ay (wpAny_setEntries_of ho hd hf ?_);have ne:((es.size:Int) != (es.size:Int))=false:=by simp
 dsimp only;rw [ne];rw [ax dC];rcases m with ⟨bt,rfl,Cj⟩ | ⟨bt,Pt,ps,po,pn,rfl,O6,Uc,pp,Cj⟩ | ⟨bt,T8,dr,ld,k,rfl,Cj,k0,k1⟩
 .dsimp only;simp only [hU];refine ay (B0 ho hd hf bt _ _ ?_);have e0:(pickOrder (w.params.setOrder S ep) es)[i]?=none:=by
   rw [<-rF];refine ql ?_;rw [(u3 _ _).length_eq,iN];omega
  rw [e0];exact ay (sG hit λh1 b1=>wz (s:={ s with heap:=h1 }) hh λh' k=>q h' λb o nb e=>k b o (b1.extBut b o nb e))
 .dsimp only;simp only [hU];refine ay (mI O6 Uc ?_);dsimp only;have e0:((ps.map λp:Nat=>Value.int p 0).toArray)[i]?=none:=by
   rw [List.getElem?_toArray];refine ql ?_;rw [ar,pp.length_eq,nQ];omega
  rw [e0];exact ay (sI hit _ λh0 b0 i0=>ay (sG (s:={ s with heap:=h0 }) i0 λh1 b1=>wz (s:={ s with heap:=h1 }) hh λh' k=>q h' λb o nb e=>k b o (b1.extBut b o nb (b0.extBut b o nb e))))
 dsimp only;simp only [hU];refine ay (yh ho hd hf bt dr ld _ _ ?_);have sp:t.place.size=es.size:=by
  have h1:(t.place.size == es.size && decide (t.fill<=t.mask))=true:=hf;simpa using (iB.mp h1).1
 have e0:es[SetTable.below t.place k]?=none:=by
  by_cases z:es.size=0
  .exact wj ∅
  have i1:i=1:=by omega
  obtain⟨j,ej,rfl⟩:=k1 i1;obtain⟨j',ej'⟩:∃j,t.place=#[j]:=⟨t.place[0],Array.ext (by simp;omega) λi h1 h2=>by
   have:i=0:=by simp at h2;exact h2
   subst this;rfl⟩
  rw [ej'] at ej ⊢;cases (show some j'=some j from ej);rw [vQ,aw (i9 _)];exact wj ∅
 rw [e0];exact ay (sG hit λh1 b1=>wz (s:={ s with heap:=h1 }) hh λh' k=>q h' λb o nb e=>k b o (b1.extBut b o nb e))
end
def mn:Slot "set_iterator" "__iter__" "set_iterator.__iter__" := yi "__iter__" _ _ (by rw [typeLookup_type,v9];kernel_rfl) nofun nofun nofun nofun nofun
def tQ:entryFor table "set_iterator.__iter__"=some Builtin.«dict_keyiterator.__iter__»:=entryFor_alias (id' := "dict_keyiterator.__iter__") (nofun) rfl nofun (nofun)
def uI (a:Value):argsOk "set_iterator.__iter__" ⟨[a],[]⟩:=by unfold argsOk;kernel_rfl
def JV (I S:Addr):Value->List Addr
 | .ref Pt=>[I,S,Pt]
 | _=>[I,S]
structure xT (w:World)(I S:Addr)(o:Obj)(es:Array (Int×Value)) (ep:Nat)(t:SetTable)(vals:List Value)(fp:List Addr) (i:Nat)(h:Heap)(fst:Value):Prop where
 it:mE h I S fst i es.size ep
 ho:h.get? S=some o
 md:qE w h S es ep t vals fst i
 pt:∀Pt,fst=.ref Pt->Pt∈fp/\Pt≠I
def xT.at {w:World}{I S:Addr}{o:Obj}{es:Array (Int×Value)}{ep:Nat}{t:SetTable}{vals:List Value}{fp:List Addr}{i:Nat}{h h':Heap}{fst:Value}(x:xT w I S o es ep t vals fp i h fst)(hI:I∈fp)(hS:S∈fp)(k:∀b∈fp,∀o,h.get? b=some o->h'.get? b=some o):xT w I S o es ep t vals fp i h' fst:=by
 obtain⟨⟨oi,a,b⟩,ho,md,pt⟩:=x;refine⟨⟨oi,k I hI _ a,b⟩,k S hS _ ho,?_,pt⟩;rcases md with m | ⟨bt,Pt,ps,po,pn,e,O6,r⟩ | m
 .exact .inl m
 .exact .inr (.inl ⟨bt,Pt,ps,po,pn,e,k Pt (pt Pt e).1 _ O6,r⟩)
 exact .inr (.inr m)
section
variable {P:Program}{w:World}{A:Around}{E:Value->Shared->Prop}{s:Shared}
def EE {I S:Addr}{o:Obj}{es:Array (Int×Value)}{ep:Nat}{t:SetTable}{vals:List Value}{fp:List Addr}(hh:A.handled=none)(nIS:S≠I)(hI:I∈fp)(hS:S∈fp)(hd:o.data=.set es ep t)(hf:t.fits es.size=true) :
  WalksS P w A I fp [I] (λa b=>b=a) es.size (λi v=>vals[i]?=some v) (λi s=>∃fst,xT w I S o es ep t vals fp i s.heap fst) where
 sub:=λb hb=>by rw [cg.mp hb];exact hI
 grefl:=λ_=>rfl
 gtrans:=λ_ _ _ x y=>by rw [y,x]
 frame:=λi s h' tk ⟨fst,x⟩ _ k=>⟨fst,x.at hI hS k⟩
 item:=λi s Q E hi ⟨fst,x⟩ q=>by
  have lv:vals.length=es.size:=by rw [x.md.perm.length_eq,ar,iN]
  have ev:vals[i]?=some vals[i]:=cT ∅;refine Gg x.it x.ho hd hf x.md (λPt e=>(x.pt Pt e).2) ev λh' Ha sb it md ke=>?_;refine q _ _ ev ⟨Ha,it,sb.extBut S o nIS x.ho,md,λPt e=>x.pt Pt (ke Pt e)⟩ ⟨λb o hb e=>sb.extBut b o (λz=>hb (by rw [z];exact bQ)) e,rfl,rfl,rfl,aK _⟩
 done:=λs Q E ⟨fst,x⟩ q=>by
  refine JY hh x.it x.ho hd hf x.md rfl λh' k=>q _ ⟨λb o hb e=>k b o (λz=>hb (by rw [z];exact bQ)) e,rfl,rfl,rfl,aK _⟩
 self:=λi s Q E ⟨fst,x⟩ q=>by
  obtain⟨oi,NF,RW,_⟩:=x.it;have tI:s.TypeIs (.ref I) "set_iterator" := ⟨oi,NF,RW⟩;refine wpAny_pyIter_slot tI mn (kj mn tI tQ ?_ (uI _));show wpAny _ _ (ret (.ref I)) _ _ s;exact aD ⟨_,rfl,"set_iterator",_,tI,dJ.lookup,q⟩
def Kx {α:Type}{M:Model}{c:Prop} [Decidable c] {a b:Sem α}{Q:α->Shared->Prop}(hc:c)(h:wpAny M A a Q E s):wpAny M A (if c then a else b) Q E s:=by rw [aw hc];exact h
abbrev Sn:Obj:={ cls:=.type "list",data:=.seq ([]:List Value).toArray }
theorem yc:∀{vs:List Value},(∀v∈vs,∃z k,v=.str z k)->StrsAre vs (vs.map kS)
 | [],_=>.nil
 | v::r,h=>by
  obtain⟨z,k,e⟩:=h v bQ;subst e;exact .cons z k (yc λu hu=>h u (cu _ hu))
def zk {S:Addr}{ds:List Str}{Q:List Value->Shared->Prop}(hh:A.handled=none)(T:gy P w s.heap S (yK w) ds)(hb:ds.length < scanBound)
  (q:∀(h':Heap)(d:Drawn) (tk:Nat)(vs:List Value),(∀b o,s.heap.get? b=some o->h'.get? b=some o)->s.heap.objs.size<=h'.objs.size->(∃zs,StrsAre vs zs/\zs.Perm ds)->s.toks<=tk->Q vs { s with heap:=h',drawn:=d,toks:=tk }):wpAny (model P w) A (collect (.ref S)) Q E s:=by
 obtain⟨o,es,ep,t,ho,hx,hd,Dq,nO,uC,hf,hl,vj⟩:=T;have hsz:=gy.size uC;have nS:s.heap.objs.size≠S:=kb (bo ho);unfold collect;refine ay (wpAny_runValue (kK F.entry_proto_collect ?_));rw [mi F.plain_proto_collect _];show wpAny _ A.in1 (newList [] >>= λl=>again (.builtin "list.__iadd__" ⟨[l,.ref S],[]⟩)) _ _ s;refine ay (iM ?_);refine aD ⟨jj F.plain_list_iadd _,kK F.entry_list_iadd ?_⟩;rw [mi F.plain_list_iadd _];have El:(s.heap.push Sn).get? S=some o:=bW _ ho;show wpAny _ A.in1 (Builtin.List.listExtendWith (.ref s.heap.objs.size) (.ref S) (.ref s.heap.objs.size)) _ _ _;unfold Builtin.List.listExtendWith;refine ay (iP (T := "set") ⟨o,El,hx.1⟩ ?_);have h1:Builtin.List.listSameRef (.ref s.heap.objs.size) (.ref S)=false:=by simp [Builtin.List.listSameRef,nS]
 have h2:(Value.type "set" == Value.type "list")=false:=by decide
 have h3:(Value.type "set" == Value.type "tuple")=false:=by decide
 simp only [h1,h2,h3,Bool.or_false,Bool.false_eq_true,if_false];refine ay (Gw (s:={ s with heap:=s.heap.push Sn }) El hx hd hf hl vj ∅ λI h2 d vals fst kp leI it md pt=>?_);refine ay (i8 ?_);unfold Builtin.List.listLengthHint;have AX:=kp _ _ El;refine ay (wpAny_specialOf (T := "set") ⟨o,AX,hx.1⟩ F.slot_set_len.lookup ?_);dsimp only;rw [show splitId "set.__len__"=some ("set","__len__") by decide +kernel];dsimp only;refine ay (rK (T := "set") (b:=true) ⟨o,AX,hx.1⟩ sub_set_self ?_);rw [Bool.not_true,ax dC];refine Kx nofun ?_;refine ay (iP (T := "set") ⟨o,AX,hx.1⟩ ?_);refine aD ?_;refine Kx nofun ?_;refine ay (iw ?_);have Uw:h2.get? s.heap.objs.size=some Sn:=kp _ _ (cJ _ rfl);refine ay ?_;show wpAny _ A.in1 (updateSeq s.heap.objs.size (·.push .none) >>= λ_=>updateSeq s.heap.objs.size (·.pop)) _ _ _;refine ay (wpAny_updateSeq Uw rfl ?_);have hL3:=rC (Obj.mapSeq (·.push Value.none)) Uw rfl;refine wpAny_updateSeq hL3 rfl ?_;have NT:=rC (Obj.mapSeq (·.pop)) hL3 rfl;have VO:∀b o,b≠s.heap.objs.size->h2.get? b=some o->((h2.update s.heap.objs.size (Obj.mapSeq (·.push Value.none))).update s.heap.objs.size (Obj.mapSeq (·.pop))).get? b=some o:=λb o nb e=>(wb _ _ (fk nb)).trans ((wb _ _ (fk nb)).trans e);generalize (h2.update s.heap.objs.size (Obj.mapSeq (·.push Value.none))).update s.heap.objs.size (Obj.mapSeq (·.pop))=h4 at NT VO ⊢;have Nl:s.heap.objs.size+1<=I:=by
  have:(s.heap.push Sn).objs.size<=I:=leI;rw [jt] at this;exact this
 have ZO:s.heap.objs.size≠I:=bE Nl;have nSI:S≠I:=bE (ji (bo ho) Nl);have Zv:∀Pt,fst=.ref Pt->Pt≠I/\s.heap.objs.size≠Pt:=λPt e=>⟨(pt Pt e).1,by
  have h:=(pt Pt e).2;have h':(s.heap.push Sn).objs.size<=Pt:=h;rw [jt] at h';exact bE h'⟩
 have hI:I∈JV I S fst:=by cases fst <;> simp [JV]
 have hS:S∈JV I S fst:=by cases fst <;> simp [JV]
 have hL:s.heap.objs.size∉JV I S fst:=by
  cases fst with
  | ref Pt=>simp only [JV,bO,rN,or_false,not_or];exact⟨ZO,nS,(Zv Pt rfl).2⟩
  | _=>simp only [JV,bO,rN,or_false,not_or];exact⟨ZO,nS⟩
 have Ej:xT w I S o es ep t vals (JV I S fst) 0 h2 fst:=⟨it,AX,md,λPt e=>⟨by rw [e];simp [JV],(Zv Pt e).1⟩⟩;have Mm:=Ej.at (h':=h4) hI hS λb hb o e=>VO b o (λz=>hL (by rw [<-z];exact hb)) e;have W:=EE (P:=P) (w:=w) (A:=A.in1) (vals:=vals) (by simp [hh]) nSI hI hS hd hf;refine aD ⟨jj F.plain_extend_loop _,codeAny_extend_loopS W (fits_of_scanBound ∅) _ hL _ es.size 0 _ _ _ rfl (fj _) ⟨fst,Mm⟩ NT (ItemsOf.nil _) λs' bS c' hm Er qb=>?_⟩;show wpAny _ A (load s.heap.objs.size >>= _) _ _ s';refine ay (wpAny_load Er ?_);obtain⟨h',g',d',Vj,QG⟩:=s';have eg:g'=s.gens:=hm.gens;have ed:d'=d:=hm.drawn;have eo:QG=s.os:=hm.os;subst eg;subst ed;subst eo;have lv:vals.length=es.size:=by rw [md.perm.length_eq,ar,iN]
 have ea:bS.toList=vals:=by
  refine List.ext_getElem? λj=>?_;by_cases c:j < es.size
  .have h1:bS[j]?=some (bS[j]'(by rw [qb.1];exact c)):=Array.getElem?_eq_getElem _;rw [rF,h1];exact(qb.2 j _ h1).symm
  rw [ql (by rw [iN,qb.1];omega),ql ∅]
 refine aD (q h' d' Vj bS.toList (λb o e=>?_) (jh (bo Er)) ?_ hm.toks)
 .have lb:=bo e;refine hm.heap b o ?_ (VO b o (bE lb) (kp b o (bW _ e)));simp only [bO,rN,or_false,not_or];exact⟨bE lb,bE (ji lb Nl)⟩
 rw [ea];refine⟨vals.map kS,yc λv hv=>?_,?_⟩
 .obtain⟨e,he,rfl⟩:=bN.mp (md.perm.mem_iff.mp hv);exact nO e he
 have h1:=md.perm.map kS;rw [iz] at h1;exact h1.trans uC
def z_ {S:Addr}{ds:List Str}{Q:Value->Shared->Prop}(hh:A.handled=none)(T:gy P w s.heap S (yK w) ds)(Ux:ds.length < 64)
  (q:∀(h':Heap)(d:Drawn) (tk:Nat)(l:Addr) (e:Nat)(out:Array Value) (zs:List Str),(∀b o,s.heap.get? b=some o->h'.get? b=some o)->s.heap.objs.size<=l->h'.get? l=some (seqObj "list" out e)->StrsAre out.toList zs->zs.Perm ds->sortedS zs=true->s.toks<=tk->Q (.ref l) { s with heap:=h',drawn:=d,toks:=tk }) :
  wpAny (model P w) A (call (.builtin "sorted") [.ref S]) Q E s:=by
 refine Calls.call_function_entry kind_sorted plain_sorted entry_sorted (args_sorted1 _) ?_;unfold Builtin.«sorted»;refine ay (m:=checkCount "sorted" 1 1 _) (aD ?_);refine ay (zk (by simp [hh]) T (by unfold scanBound;omega) λh1 d tk vs kp le hz Tz=>?_);obtain⟨zs,hS,pz⟩:=hz;have lz:vs.length=ds.length:=by rw [<-pz.length_eq];exact StrsAre.length hS
 refine ay (wpAny_newList ?_);have JL:(h1.push (seqObj "list" vs.toArray 0)).get? h1.objs.size=some (seqObj "list" vs.toArray 0):=cJ _ rfl;refine ay (i8 (kj slot_list_sort ⟨_,JL,rfl⟩ entry_list_sort (list_sort_treeK strKind_oneLt JL hS.keysOf (λv₁ v₂ rest e=>keyKind_strs (by rw [<-e];exact hS)) ∅ λqR a1 a2=>⟨_,rfl,?_⟩) (args_list_sort _)));obtain⟨ss,b1,b2,b3⟩:=sorted_out_str hS a1 a2;obtain⟨e,he⟩:=sortedHeap_at (out:=(arrOf qR).map (·.2)) JL;refine aD ⟨_,rfl,q _ d tk h1.objs.size e _ ss (λb o hb=>?_) le he b1 (b2.trans pz) b3 Tz⟩;have Dt:=kp b o hb;have lb:=bo Dt;rw [sortedHeap_old (bE lb) (by rw [jt];exact nR lb)];exact bW _ Dt
end
def y_ (zs:List Str):List Str:=gP (λi=>zs.getD i "") zs.length
theorem yH (val:Nat->Str)(z:Str):∀n,z∈gP val n↔∃i,i < n/\val i=z
 | 0=>⟨λh=>(by cases h),λ⟨i,h,_⟩=>absurd h (me _)⟩
 | n+1=>by
  have ih:=yH val z n;show z∈(if val n∈gP val n then gP val n else gP val n++[val n])↔_;have key:z∈(if val n∈gP val n then gP val n else gP val n++[val n])↔z∈gP val n\/z=val n:=by
   by_cases c:val n∈gP val n
   .rw [aw c];exact⟨.inl,λh=>h.elim id λe=>e ▸ c⟩
   rw [ax c,bY,cg]
  rw [key,ih];constructor
  .rintro(⟨i,h,e⟩ | e)
   .exact⟨i,nR h,e⟩
   exact⟨n,i9 _,e.symm⟩
  rintro⟨i,h,e⟩;by_cases c:i < n
  .exact .inl ⟨i,c,e⟩
  have:i=n:=by omega
  exact .inr (by rw [<-e,this])
def Hl (zs:List Str)(z:Str):z∈y_ zs↔z∈zs:=by
 unfold y_;rw [yH];constructor
 .rintro⟨i,h,e⟩;rw [nW,cT h] at e;rw [<-e];exact qj h
 intro h;obtain⟨i,hi⟩:=fQ h;exact⟨i,(bh.mp hi).1,by rw [nW,hi];rfl⟩
theorem Cf (val:Nat->Str):∀n,(gP val n).Nodup
 | 0=>iA
 | n+1=>by
  have ih:=Cf val n;show (if val n∈gP val n then gP val n else gP val n++[val n]).Nodup;by_cases c:val n∈gP val n
  .rw [aw c];exact ih
  rw [ax c,jv];refine⟨ih,by simp,λa ha b hb=>?_⟩;rw [cg.mp hb];exact λe=>c (e ▸ ha)
def J_ (zs:List Str):(y_ zs).Nodup:=Cf _ _
def Hm (zs:List Str):(y_ zs).length<=zs.length:=sV _ _
def tSS (K:a0)(te:TE):TE:=λσ H Q=>te σ H λx H1=>∃a zs,x=.ref a/\aI K H1 a (List.map V.str zs)/\zs.length < 64/\∀l qF,H1 l=none->qF.Perm (y_ zs)->sortedS qF=true->Q (.ref l) (upd H1 l (.lst (List.map V.str qF)))
theorem BJ:∀{aU:List Value}{zs:List Str},StrsAre aU zs->∀(i:Nat)(v:Value),aU[i]?=some v->∃t,v=Value.str (zs.getD i "") t
 | _,_,.nil,i,v,h=>by cases h
 | _,_,.cons z t r,0,v,h=>by cases h;exact⟨t,rfl⟩
 | _,_,.cons z t r,i+1,v,h=>BJ r i v h
def DV:bootBuiltins "set"=some (.type "set"):=by decide +kernel
theorem Inv.drawn {X:Cx}{ag:List (Addr×Obj)}{σ:List (Option V)}{H:Hp}{s:Shared}(d:Drawn)(I:Inv X ag σ H s):Inv X ag σ H { s with drawn:=d }:=⟨I.ok,I.os,I.bare,I.base,I.loc,I.cell,I.free,I.lF,I.pin,I.cw,I.len⟩
def oB {X:Cx}{e:Expr}{te:TE}{p1 p2 q1 q2:Pos}(hc:X.calm=true)(hg:Gl X "sorted")(hm:X.mg "sorted"=none)(RN:Gl X "set")(Ll:X.mg "set"=none)(he:PE X e te)
  (h1:starEach [.Call (.Name "set" p2) [e] [] q2] X.env=(false,eval (.Call (.Name "set" p2) [e] [] q2) X.env)::starEach [] X.env:=by rfl)(h2:starEach [e] X.env=(false,eval e X.env)::starEach [] X.env:=by rfl) :
  PE X (.Call (.Name "sorted" p1) [.Call (.Name "set" p2) [e] [] q2] [] q1) (tSS X.K te):=by
 intro ag s σ H Q I h;have hh:=I.ok.hd hc;refine nU (iW I hg hm boot_sorted ?_);refine PyProof.Rows.callWith_builtin1 ?_ h1 rfl;rw [h1];show wpAny _ _ (spliced ((false,eval (.Call (.Name "set" p2) [e] [] q2) X.env)::backTo q1 (starEach [] X.env))) _ _ s;refine qk ?_;refine nU (iW I RN Ll DV ?_);refine xU ?_ h2 rfl;rw [h2];show wpAny _ _ (spliced ((false,eval e X.env)::backTo q2 (starEach [] X.env))) _ _ s;refine qk (df (he ag s σ H _ I h) λu s1 bL=>?_);obtain⟨x,H1,I1,r1,q1⟩:=bL;obtain⟨a,zs,rfl,hq,Ux,q1⟩:=q1;cases (show u=Value.ref a from r1);refine ph ?_;obtain⟨aU,rv,pl,hz⟩:=I1.list hq;have sa:=yb rv;have bM:=rv.length;rw [ar] at bM;refine xH (val:=λi=>zs.getD i "") hh pl.isList (λi v hv=>?_) (by simp only [cP];unfold scanBound;omega) λh' tk T kp=>?_
 .have hv2:aU[i]?=some v:=by rw [List.getElem?_toArray] at hv;exact hv
  exact BJ sa i v hv2
 refine ph ?_;have eds:gP (λi=>zs.getD i "") aU.toArray.size=y_ zs:=by unfold y_;simp only [cP];rw [<-bM]
 rw [eds] at T;have ldd:=Hm zs;refine z_ hh T ∅ λh2 d PV l ee out ss Dj le2 RS b1 b2 b3 tk3=>?_;have JF:∀b u,s1.heap.get? b=some u->h2.get? b=some u:=λb u hb=>Dj b u (kp b u (bo hb) hb);have v:=pH b1;have lss:ss.length<=zs.length:=by rw [b2.length_eq];exact ldd
 have ZY:s1.heap.objs.size<=l:=by
  obtain⟨oT,_,_,_,hoT,_⟩:=T;exact eK (jh (bo hoT)) le2
 refine⟨.ref l,_,(I1.laid (t':=PV) JF ZY (show cK X.prog X.w _ _ _ (.lst (List.map V.str ss)) from ⟨?_,out.toList,ee,v,?_⟩)).drawn d,rfl,q1 _ ss (I1.cw.fresh ZY) b2 b3⟩
 .rw [ar];rw [ar] at hz;omega
 rw [RS]
def N8 (q pr:Str×Str):N9 [V.str q.1,V.str q.2] [V.str pr.1,V.str pr.2]=decide (q=pr):=by
 obtain⟨a,b⟩:=q;obtain⟨c,d⟩:=pr;show (vA (.str a) (.str c) && (vA (.str b) (.str d) && true))=_;have h:∀x y:Str,vA (.str x) (.str y)=decide (x=y):=λx y=>by
  show (x == y)=_;rw [ju,beq_iff_eq,decide_eq_true_iff]
 rw [h,h,Bool.and_true];by_cases e1:a=c
 .by_cases e2:b=d
  .rw [e1,e2];simp
  simp [e1,e2]
 simp [e1]
def Ja {X:Cx}{ag:List (Addr×Obj)}{σ:St}{H:Hp}{s:Shared}(A:Around)(hu:A.units < cLine)(I:Inv X ag σ H s){t a:Addr}{q pr:Str×Str}(ht:aT X.K H t [.str q.1,.str q.2])(ha:aT X.K H a [.str pr.1,.str pr.2]):SeqAt.EqAt A s (.ref t) (.ref a) (decide (q=pr)):=by
 by_cases e:t=a
 .subst e;have:=I.jx ht ha;injection this with h1 h2;injection h2 with h2 _;injection h1 with h1;injection h2 with h2;rw [cU (jP h1 h2)];exact SeqAt.EqAt.same _
 obtain⟨aU,r,pl,hz⟩:=I.tuple ht;obtain⟨gr,r2,KS,Z_⟩:=I.tuple ha;have l1:=r.length;have l2:=r2.length;refine .of_refs e ?_;rw [<-N8];have h:=SeqAt.RcAt.tuples (A:=A) (e:=λj=>vA ([V.str q.1,V.str q.2].getD j .gb) ([V.str pr.1,V.str pr.2].getD j .gb)) pl KS hu (λj h1 h2=>A_ r r2 rfl rfl j h1 h2);have e2:((List.range (min aU.toArray.size gr.toArray.size)).all (λj=>vA ([V.str q.1,V.str q.2].getD j .gb) ([V.str pr.1,V.str pr.2].getD j .gb)) && aU.toArray.size == gr.toArray.size)=N9 [V.str q.1,V.str q.2] [V.str pr.1,V.str pr.2]:=by
  rw [<-vB];simp only [cP,<-l1,<-l2]
 rw [e2] at h;exact h
open Classical in
theorem B6 {X:Cx}{ag:List (Addr×Obj)}{σ:St}{H:Hp}{s:Shared}(I:Inv X ag σ H s){pr:Str×Str}:∀{ts:List Addr}{aX:List (Str×Str)}{aU:List Value},ba (ts.map V.ref) aU->Paired (λt (q:Str×Str)=>aT X.K H t [.str q.1,.str q.2]) ts aX ->
  (∀y∈aU,∃(t:Addr)(q:Str×Str),y=.ref t/\aT X.K H t [.str q.1,.str q.2])/\(aU.any λy=>match y with | .ref t=>decide (aT X.K H t [.str pr.1,.str pr.2]) | _=>false)=decide (pr∈aX)
 | [],_,aU,r,p=>by
  cases p;cases r;exact⟨λy h=>(by cases h),by simp⟩
 | t::ts,_,aU,r,p=>by
  cases p with
  | @cons _ q _ aX h p2 =>
  cases r with
  | @cons _ u _ us hu r2 =>
  obtain⟨i1,i2⟩:=B6 I r2 p2;cases (show u=Value.ref t from hu);refine⟨λy hy=>?_,?_⟩
  .rcases bO.mp hy with e | e
   .exact⟨t,q,e,h⟩
   exact i1 y e
  rw [o7,i2];show (decide (aT X.K H t [.str pr.1,.str pr.2]) || decide (pr∈aX))=decide (pr∈q::aX)
  have e:aT X.K H t [.str pr.1,.str pr.2]↔pr=q:=⟨λz=>by
   have:=I.jx z h;injection this with h1 h2;injection h2 with h2 _;injection h1 with h1;injection h2 with h2;exact jP h1 h2,λz=>by rw [z];exact h⟩
  rw [ju,Bool.or_eq_true_iff,decide_eq_true_iff,decide_eq_true_iff,decide_eq_true_iff,bO,e]
def QA (K:a0)(neg:Bool):R2:=λx y H Q=>∃(a p:Addr)(pr:Str×Str)(ts:List Addr)(aX:List (Str×Str)),x=.ref a/\y=.ref p/\aT K H a [.str pr.1,.str pr.2]/\aI K H p (ts.map V.ref)/\Paired (λt (q:Str×Str)=>aT K H t [.str q.1,.str q.2]) ts aX/\Q (.bl (if neg then !decide (pr∈aX) else decide (pr∈aX))) H
open Classical in
def C0 {X:Cx}(hu:X.A.units+1 < cLine):l_ X (compareOp .NotIn) (QA X.K true):=by
 intro ag s σ H x y v u Q I rx ry h;obtain⟨a,p,pr,ts,aX,rfl,rfl,ha,hp,RD,q⟩:=h;cases rx;cases ry;obtain⟨aU,r,pl,hz⟩:=I.list hp;obtain⟨i1,i2⟩:=B6 I (pr:=pr) r RD;refine SeqAt.notIn_listAt (λy=>match y with | .ref t=>decide (aT X.K H t [.str pr.1,.str pr.2]) | _=>false) pl.isList (λy hy=>?_) ⟨.bl _,H,I,rfl,?_⟩
 .obtain⟨t,q2,rfl,ht⟩:=i1 y (by simpa using hy);have:=Ja X.A.in1 (by rw [Around.in1_units];exact hu) I ht ha;have e:decide (q2=pr)=decide (aT X.K H t [.str pr.1,.str pr.2]):=by
   rw [ju,decide_eq_true_iff,decide_eq_true_iff];refine⟨λz=>by rw [<-z];exact ht,λz=>?_⟩;have:=I.jx ht z;injection this with h1 h2;injection h2 with h2 _;injection h1 with h1;injection h2 with h2;exact jP h1 h2
  rw [e] at this;exact this
 rw [show aU.toArray.any (λy=>match y with | .ref t=>decide (aT X.K H t [.str pr.1,.str pr.2]) | _=>false)=aU.any (λy=>match y with | .ref t=>decide (aT X.K H t [.str pr.1,.str pr.2]) | _=>false) by simp,i2]
 exact q
open Classical in
section
variable {prog:Program}{w:World}{A:Around}{E:Value->Shared->Prop}{s:Shared}
end
end L2
namespace UZ
theorem jZ {α:Type} [DecidableEq α]:∀(l m:List α),l.Nodup->(∀z∈l,z∈m)->l.length<=m.length
 | [],m,_,_=>fj _
 | a::l,m,hn,h=>by
  have hm:=h a bQ;have:=jZ l (m.erase a) (iL.mp hn).2 λx hx=>(List.mem_erase_of_ne (λz:x=a=>(iL.mp hn).1 (by rw [<-z];exact hx))).mpr (h x (cu _ hx));rw [zT hm] at this;have:=zN hm;rw [dG];omega
end UZ
namespace L2
open PySem
def Ay {X:Cx}(K:a0)(hu:X.A.units+1 < cLine)(hK:X.K=K:=by rfl):l_ X (compareOp .NotIn) (QA K true):=by
 subst hK;exact C0 hu
end L2
namespace ig
open PySem L2 M11
abbrev wR:Stmt:=top 51
def Kr (ns:List Str)(ru:au) (pl:Nat):Prop:=∀x∈ru.2.take pl,x∈ns
inductive hJ (aa:List au) (ns:List Str)(w:Str):Str->Prop
 | word {ru:au}{pl:Nat}:ru∈aa->Kr ns ru pl->ru.2[pl]?=some w->w∉hm aa->hJ aa ns w ru.1
 | name {ru:au}{pl:Nat}{p:Str}:ru∈aa->Kr ns ru pl->ru.2[pl]?=some p->hJ aa ns w p->hJ aa ns w ru.1
def hJ.head {aa:List au}{ns:List Str}{w h:Str}(b:hJ aa ns w h):h∈hm aa:=by
 cases b with
 | word hr _ _ _=>exact bN.mpr ⟨_,hr,rfl⟩
 | name hr _ _ _=>exact bN.mpr ⟨_,hr,rfl⟩
def hJ.text {aa:List au}{ns:List Str}{w h:Str}(b:hJ aa ns w h):w∉hm aa/\∃ru∈aa,w∈ru.2:=by
 induction b with
 | word hr _ e n=>exact⟨n,_,hr,cA e⟩
 | name _ _ _ _ ih=>exact ih
def hJ.congr {aa:List au}{ns ms:List Str}{w h:Str}(c:∀x,x∈ns->x∈ms)(b:hJ aa ns w h):hJ aa ms w h:=by
 induction b with
 | word hr o e n=>exact .word hr (λx hx=>c x (o x hx)) e n
 | name hr o e _ ih=>exact .name hr (λx hx=>c x (o x hx)) e ih
def Tu (aa:List au) (ns:List Str)(P:List (Str×Str)):Prop:=∀ru∈aa,∀pl p,ru.2[pl]?=some p->Kr ns ru pl->(p∉hm aa->(ru.1,p)∈P)/\(p∈hm aa->∀w,(p,w)∈P->(ru.1,w)∈P)
def hJ.Z7 {aa:List au}{ns:List Str}{P:List (Str×Str)}(c:Tu aa ns P){w h:Str}(b:hJ aa ns w h):(h,w)∈P:=by
 induction b with
 | word hr o e n=>exact(c _ hr _ _ e o).1 n
 | name hr o e b ih=>exact(c _ hr _ _ e o).2 b.head _ ih
def Tu.of {aa:List au}{ns:List Str}{P:List (Str×Str)}(h:∀a w,(a,w)∈P↔hJ aa ns w a):Tu aa ns P:=λru hr pl p e o=>⟨λn=>(h _ _).mpr (.word hr o e n),λ_ w hw=>(h _ _).mpr (.name hr o e ((h _ _).mp hw))⟩
def HX (aa:List au) (ns:List Str)(ru:au)(P P':List (Str×Str)):Prop:=∀pl p,ru.2[pl]?=some p->Kr ns ru pl->(p∉hm aa->(ru.1,p)∈P')/\(p∈hm aa->∀w,(p,w)∈P->(ru.1,w)∈P')
def HX.mono {aa:List au}{ns:List Str}{ru:au}{P0 P P' P2:List (Str×Str)}(d:HX aa ns ru P P')(h1:∀x∈P0,x∈P)(h2:∀x∈P',x∈P2):HX aa ns ru P0 P2:=λpl p e o=>⟨λn=>h2 _ ((d pl p e o).1 n),λm w hw=>h2 _ ((d pl p e o).2 m w (h1 _ hw))⟩
def Tt (aa:List au) (ns:List Str)(ru:au)(P P':List (Str×Str)) (n:Nat):Prop:=∀pl p,pl < n->ru.2[pl]?=some p->Kr ns ru pl->(p∉hm aa->(ru.1,p)∈P')/\(p∈hm aa->∀w,(p,w)∈P->(ru.1,w)∈P')
def Kn (K:a0)(H:Hp)(t:Addr)(p:Str×Str):Prop:=aT K H t [.str p.1,.str p.2]
theorem Paired.SU {α β:Type}{F:α->β->Prop}:∀{xs:List α}{ys:List β}{Ei:List α}{PQ:List β},Paired F xs ys->Paired F Ei PQ->Paired F (xs++Ei) (ys++PQ)
 | _,_,_,_,.nil,h=>h
 | _,_,_,_,.cons a r,h=>.cons a (Paired.SU r h)
def kX {α:Type}(p:α->Bool){l:List α}{m:Nat}{q:α}(e:l[m]?=some q):(l.take (m+1)).filter p=(l.take m).filter p++if p q=true then [q] else []:=by
 rw [cQ,e,mS]
 congr 1
 by_cases cz:p q=true
 .rw [aw cz];show List.filter _ [q]=[q];rw [pq,aw cz];rfl
 rw [ax cz];show List.filter _ [q]=[];rw [pq,ax cz];rfl
def lh (aX:List (Str×Str))(h:Str) (pG:List Str):List (Str×Str):=(pG.filter λx=>!decide ((h,x)∈aX)).map λx=>(h,x)
def sW {aX:List (Str×Str)}{h:Str}{pG:List Str}{x:Str×Str}:x∈lh aX h pG↔x.1=h/\x.2∈pG/\x∉aX:=by
 unfold lh;rw [bN];constructor
 .rintro⟨y,hy,rfl⟩;obtain⟨a,b⟩:=gI.mp hy;exact⟨rfl,a,by simpa using b⟩
 rintro⟨e,a,b⟩;have ex:x=(h,x.2):=by rw [<-e]
 exact⟨x.2,gI.mpr ⟨a,by rw [<-ex,gJ b];rfl⟩,ex.symm⟩
def Jz {aX:List (Str×Str)}{h:Str}{pG:List Str}(n:aX.Nodup)(n2:pG.Nodup):(aX++lh aX h pG).Nodup:=by
 refine jv.mpr ⟨n,?_,λa ha b hb z=>(sW.mp hb).2.2 (z ▸ ha)⟩;unfold lh;have:(pG.filter λx=>!decide ((h,x)∈aX)).Nodup:=List.Nodup.sublist List.filter_sublist n2;exact List.Pairwise.map _ (λa b (c:a≠b) z=>c (by injection z)) this
def AJ {aX:List (Str×Str)}(pt:Str)(n:aX.Nodup):((aX.filter λq=>decide (q.1=pt)).map (·.2)).Nodup:=by
 have h:(aX.filter λq=>decide (q.1=pt)).Nodup:=List.Nodup.sublist List.filter_sublist n;have h2:∀q∈aX.filter (λq=>decide (q.1=pt)),q.1=pt:=λq hq=>cI (gI.mp hq).2;generalize aX.filter (λq=>decide (q.1=pt))=l at h h2
 induction l with
 | nil=>exact iA
 | cons a l ih =>
  obtain⟨n1,n3⟩:=iL.mp h;refine iL.mpr ⟨λz=>?_,ih n3 λq hq=>h2 q (.tail _ hq)⟩;obtain⟨b,hb,eb⟩:=bN.mp z;have e1:=h2 a (.head _);have e2:=h2 b (.tail _ hb);exact n1 ((jP (e1.trans e2.symm) eb.symm:a=b) ▸ hb)
structure LX (K:a0)(aa:List au) (ns:List Str)(H H5:Hp)(Dh De Lp:Addr)(us:List Addr)(aX:List (Str×Str)):Prop where
 sm:aE H H5
 eH:H5 Dh=some (.lst ((hm aa).map V.str))
 eE:H5 De=some (.lst (ns.map V.str))
 eP:H5 Lp=some (.lst (us.map V.ref))
 fP:H Lp=none
 pP:Paired (Kn K H5) us aX
 nd:aX.Nodup
 bg:∀x∈aX,hJ aa ns x.2 x.1
def Kn.same {K:a0}{H H':Hp}{t:Addr}{p:Str×Str}(s:aE H H')(h:Kn K H t p):Kn K H' t p:=s.tup h
theorem LX.same {K:a0}{aa:List au}{ns:List Str}{H H5 H6:Hp}{Dh De Lp:Addr}{us:List Addr}{aX:List (Str×Str)}(h:LX K aa ns H H5 Dh De Lp us aX)(s:aE H5 H6):LX K aa ns H H6 Dh De Lp us aX :=
 ⟨h.sm.trans s,s _ _ h.eH,s _ _ h.eE,s _ _ h.eP,h.fP,Paired.dY h.pP λ_ _ z=>z.same s,h.nd,h.bg⟩
section
def yg (K:a0):Sp:=λvs H Q _=>∃(R:Addr)(rs:List Addr)(aa:List au),vs=[.ref R]/\aI K H R (rs.map V.ref)/\bT K H rs aa/\Small aa/\(∀aX:List (Str×Str),aX.Nodup->(∀x∈aX,hJ aa (bV false aa) x.2 x.1)->aX.length<=63) /\
 ∀(D:Addr)(us:List Addr)(aX:List (Str×Str))(H':Hp),H D=none->aE H H'->H' D=some (.lst (us.map V.ref))->Paired (Kn K H') us aX->aX.Nodup->(∀x,x∈aX↔hJ aa (bV false aa) x.2 x.1)->Q (.ref D) H'
abbrev NBg:List Str:=["_law_rules","_law_heads","_law_empty","_law_pairs","_law_many","_law_head","_law_parts","_law_k","_law_words_here"]
def eV:aN NBg ["_law_rules"] (aA wR):=je rfl rfl rfl rfl nofun
def C7 (F:iG K "_law_begins" "_law_begins" wR f fd)(T:Txt mg)(GE:aG P w K mg base 1 "_law_ended" ["_law_rules","_law_words_here"] (qT K)):bR P w K mg base fK 2 f fd ["_law_rules"] (yg K):=by
 refine F.ok eV (λvs H Q E h=>?_) (λeJ A outer s H vs Q E hr h=>?_)
 .obtain⟨R,rs,aa,rfl,_⟩:=h;rfl
 obtain⟨R,rs,aa,rfl,hR,cY,qJ,oY,q⟩:=h;have hu:=ff hr;refine⟨_,ai (iC (iy:=1) ["_law_head","_law_parts"] [] eV.nd rfl rfl rfl (aP (pv 0)) (aS rfl rfl) nofun rfl nofun
   (λ_ _ _ _ _=>dq (n:=2) K rfl (az (aq (i:=0) (show (["_law_head","_law_parts"]:List Str).Nodup by decide +kernel) rfl (a_ rfl)) (az (aq (i:=1) (show (["_law_head","_law_parts"]:List Str).Nodup by decide +kernel) rfl (a_ rfl)) bz))) (λ_ _ _ _ _=>bF) (λ_ _ _ _ _=>pv 0))
  (ai (aC (i:=2) eV.nd rfl (Or.inr rfl) (bK GE hr rfl (ab (pv 0) (ab gq aj))))
  (ai (aC (i:=3) eV.nd rfl (Or.inr rfl) (bJ aj))
  (ai (aC (i:=4) eV.nd rfl (a_ rfl) (u4 pJ av))
  (ai (jB b8 (bu qv (pv 4) (aR bH rfl T.len gT (ab (pv 3) aj)) (cM _))
   (ai (aC (i:=4) eV.nd rfl (a_ rfl) (aR bH rfl T.len gT (ab (pv 3) aj)))
   (ao (bD b8 rfl (aP (pv 0)) (ft rfl (az (aq (i:=5) eV.nd rfl (Or.inr rfl)) (az (aq (i:=6) eV.nd rfl (Or.inr rfl)) bz)))
    (ao (bD b8 rfl (iI rfl T.Fw (ab (aR bH rfl T.len gT (ab (pv 6) aj)) aj)) (aq (i:=7) eV.nd rfl (Or.inr rfl))
     (ao (cy (gX (aR (dF rfl) rfl T.all boot_all (ab (aV ["_law_part"] [(2,"_law_empty")] rfl (d7 (gZ om (pv 6) jb (ij (pv 7)))) (aS rfl rfl) nofun rfl nofun
       (λ_ _ _ _ _=>aq (i:=0) (show (["_law_part","_law_empty"]:List Str).Nodup by decide +kernel) rfl (a_ rfl)) (λ_ _ _ _ _=>bF) (λ_ _ _ _ _=>fc (d8 K) (pv 0) (pv 1) rfl)) aj)))
      (ai (aC (i:=8) eV.nd rfl (a_ rfl) (bJ (ab (b9 cN (pv 6) (pv 7) (λ_ _=>rfl)) aj)))
      (ai (e_ (cy (bu jC (b9 cN (pv 6) (pv 7) (λ_ _=>rfl)) (pv 1) rfl)
       (ao (iC (iy:=8) ["_law_name","_law_word"] [(6,"_law_parts"),(7,"_law_k")] eV.nd rfl rfl rfl (aP (pv 3)) (aS rfl rfl) nofun rfl nofun
        (λ_ _ _ _ _=>dq (n:=2) K rfl (az (aq (i:=0) (show (["_law_name","_law_word","_law_parts","_law_k"]:List Str).Nodup by decide +kernel) rfl (a_ rfl)) (az (aq (i:=1) (show (["_law_name","_law_word","_law_parts","_law_k"]:List Str).Nodup by decide +kernel) rfl (a_ rfl)) bz)))
        (λ_ _ _ _ _=>gC (bu jc (pv 0) (b9 (JG K) (pv 2) (pv 3) (λ_ _=>rfl)) (cM _))) (λ_ _ _ _ _=>pv 1))) aZ))
      (ao (aC (i:=3) eV.nd rfl (Or.inr rfl) (aL iV (pv 3) (aV ["_law_word"] [(5,"_law_head"),(3,"_law_pairs")] rfl (aP (pv 8)) (aS rfl rfl) nofun rfl nofun
       (λ_ _ _ _ _=>aq (i:=0) (show (["_law_word","_law_head","_law_pairs"]:List Str).Nodup by decide +kernel) rfl (a_ rfl)) (λ_ _ _ _ _=>gC (bu (Ay K hu) (bU (ab (pv 1) (ab (pv 0) aj))) (pv 2) rfl)) (λ_ _ _ _ _=>bU (ab (pv 1) (ab (pv 0) aj))))))))) aZ))))))))
  (ao (bC (pv 3))))))),?_⟩
 have ll:=bI cY;have hn1:=qJ.one;have hn8:=qJ.most;refine⟨_,rfl,R,rfl,⟨_,hR⟩,λDh Xv=>iZ hR cY ∅ Xv λH1 s1 UO=>?_⟩;refine goN ?_;refine⟨_,rfl,R,rs,aa,false,rfl,s1.seq hR,cY.same s1,qJ,λDe H2 hDe s2 e2 l2=>?_⟩;have Cu:=s2 _ _ UO;generalize rh:bV false aa=ns at *;refine⟨uo,λL0 hL0=>?_⟩;have k3:=af hL0 (.lst []);have e3:upd H2 L0 (.lst []) L0=some (.lst []):=ae;have fL0:H L0=none:=(s1.trans s2).free hL0;generalize upd H2 L0 (.lst [])=H3 at k3 e3;have S0:LX K aa ns H H3 Dh De L0 [] []:=⟨(s1.trans s2).trans k3,k3 _ _ Cu,k3 _ _ e2,e3,fL0,.nil,iA,λ_ h=>by cases h⟩;refine⟨1,rfl,?_⟩;refine⟨λm σ H5=>∃(Lp:Addr)(us:List Addr)(aX:List (Str×Str)) (many:Int)(y5 y6 y7 y8:Option V),σ=[aF R,aF Dh,aF De,aF Lp,some (.int many),y5,y6,y7,y8]/\LX K aa ns H H5 Dh De Lp us aX/\-1<=many/\many<=aX.length/\(many=aX.length->Tu aa ns aX)/\(m:Int)=65 - many,
  ⟨66,L0,[],[],-1,none,none,none,none,rfl,S0,∅,by simp,by simp,by simp⟩,?_⟩
 rintro m σ H5 ⟨Lp,us,aX,many,y5,y6,y7,y8,rfl,S,b1,b2,cl,em⟩;have QX:=bI S.pP;refine⟨_,rfl,_,rfl,Lp,_,rfl,.inl (aI.of S.eP),_,_,rfl,rfl,_,rfl,?_⟩;refine cx (λc=>?_) (λc=>?_)
 .have c':=cI c;rw [ar,QX] at c';refine⟨λσ H6=>∃(Lp:Addr)(r9:List Addr)(ext:List (Str×Str))(y5 y6 y7 y8:Option V),σ=[aF R,aF Dh,aF De,aF Lp,some (.int (aX.length:Int)),y5,y6,y7,y8]/\LX K aa ns H H6 Dh De Lp r9 (aX++ext)/\∀ru∈aa,HX aa ns ru aX (aX++ext),?_,?_⟩
  .rintro σ H6 ⟨PF,r9,ext,y5,y6,y7,y8,rfl,S2,dd⟩;have f2:=oY _ S2.nd S2.bg;rw [bB] at f2;refine⟨(65 - aX.length:Int).toNat,∅,PF,r9,aX++ext,_,_,_,_,_,rfl,S2,∅,by rw [bB];omega,λz=>?_,∅⟩;rw [bB] at z;have:ext=[]:=List.eq_nil_of_length_eq_zero ∅;subst this;rw [gH] at dd ⊢;exact λru fZ pl p e o=>dd ru fZ pl p e o
  refine⟨_,rfl,Lp,_,rfl,.inl (aI.of S.eP),?_⟩;rw [ar,QX];refine⟨_,rfl,R,rfl,⟨_,S.sm.seq hR⟩,?_⟩;refine bZ (xs:=rs.map V.ref) (λi σ H6=>∃(Lp:Addr)(r9:List Addr)(ext:List (Str×Str))(y5 y6 y7 y8:Option V),σ=[aF R,aF Dh,aF De,aF Lp,some (.int (aX.length:Int)),y5,y6,y7,y8]/\LX K aa ns H H6 Dh De Lp r9 (aX++ext)/\∀ru∈aa.take i,HX aa ns ru aX (aX++ext))
   ⟨Lp,us,[],_,_,_,_,rfl,by rw [gH];exact S,λru fZ=>by simp at fZ⟩ ?_ ?_ ?_
  .rintro i σ H6 _ ⟨PF,r9,ext,y5,y6,y7,y8,rfl,S2,_⟩;exact S2.sm.seq hR
  .rintro i x σ H6 ex ⟨PF,r9,ext,y5,y6,y7,y8,rfl,S6,dd⟩;rw [bf] at ex;obtain⟨r,er,rfl⟩:=b_.mp ex;obtain⟨ru,e1,p,v1,v2⟩:=cY.get er;have fZ:=cA e1;have NY:=qJ.oY ru fZ;have tk:aa.take (i+1)=aa.take i++[ru]:=by rw [cQ,e1];rfl
   refine⟨r,_,rfl,S6.sm.tup v1,rfl,_,_,rfl,_,_,rfl,rfl,?_⟩;refine⟨_,rfl,p,_,rfl,.inr (S6.sm.tup v2),_,rfl,by rw [ar];omega,by rw [ar];omega,?_⟩;rw [ar,hU];refine iJ (n:=ru.2.length) (λj σ H7=>∃(Lp:Addr)(r9:List Addr)(jM:List (Str×Str))(y7 y8:Option V),σ=[aF R,aF Dh,aF De,aF Lp,some (.int (aX.length:Int)),some (.str ru.1),aF p,y7,y8]/\LX K aa ns H H7 Dh De Lp r9 (aX++(ext++jM))/\Tt aa ns ru aX (aX++(ext++jM)) j) ⟨PF,r9,[],_,_,rfl,by rw [gH];exact S6,λpl pp l=>absurd l (me _)⟩ ?_ ?_
   .rintro j σ H7 hj ⟨LW,xY,jM,y7,y8,rfl,S7,UP⟩;have Vu:∀x∈aX,x∈aX++(ext++jM):=λx hx=>dH _ hx;generalize RD:aX++(ext++jM)=sO at *;obtain⟨pt,UC⟩:∃pt,ru.2[j]?=some pt:=⟨_,cT hj⟩;have YI:ux (ru.2.map V.str) (0+(j:Int))=some (.str pt):=by
     rw [kU];exact dO (by rw [bf,UC];rfl)
    have cut:ie (ru.2.map V.str) none (some (0+(j:Int)))=(ru.2.take j).map V.str:=by
     rw [kU];unfold ie;rw [show HT.fh (ru.2.map V.str).length 0 none=0 from rfl,HT.qY,rJ,Nat.sub_zero,o8,<-List.take_eq_take_min]
    refine goN ?_;refine⟨_,rfl,_,rfl,_,rfl,p,_,rfl,S7.sm.tup v2,λp2 H8 s8 Oa=>?_⟩;rw [cut] at Oa;refine⟨p2,rfl,⟨_,Oa⟩,λD9 vq=>gL (zs:=ru.2.take j) [aF De] (λz=>decide (z∈ns)) rfl Oa (by rw [d0];omega) vq (λz _ HA Qy sA hq=>?_) λH9 s9 e9=>?_⟩
    .refine⟨_,rfl,_,rfl,De,_,rfl,.inl (aI.of (sA _ _ (s8 _ _ S7.eE))),rfl,cf _,?_⟩;rw [dI];exact hq
    have S9:=S7.same (s8.trans s9);refine⟨D9,_,rfl,aI.of e9,_,rfl,?_⟩;rw [all_map];cases ca:(ru.2.take j).all λx=>decide (x∈ns) with
    | false =>
     refine l7 ?_;refine⟨LW,xY,jM,_,_,rfl,by rw [RD];exact S9,?_⟩;rw [RD];intro pl pp l e o;by_cases cj:pl < j
     .exact UP pl pp cj e o
     have:pl=j:=by omega
     subst this;rw [dP.mpr λx hx=>cU (o x hx)] at ca;cases ca
    | true =>
     have ZC:Kr ns ru j:=λx hx=>cI (dP.mp ca x hx);refine Nu ?_;refine⟨_,rfl,_,rfl,p,_,_,_,rfl,rfl,S9.sm.tup v2,YI,EB,λDw hDw=>?_⟩;have kA:=af hDw (.lst [V.str pt]);have eA:upd H9 Dw (.lst [V.str pt]) Dw=some (.lst [V.str pt]):=ae;generalize upd H9 Dw (.lst [V.str pt])=HA at kA eA;have SA:=S9.same kA;have lf:=oY sO SA.nd SA.bg;have Wd:=bI SA.pP;refine⟨λσ HB=>∃(Dv:Addr) (pG:List Str),σ=[aF R,aF Dh,aF De,aF LW,some (.int (aX.length:Int)),some (.str ru.1),aF p,some (.int (0+(j:Int))),aF Dv]/\aE HA HB/\HB Dv=some (.lst (pG.map V.str))/\pG.Nodup/\pG.length<=64/\(pt∉hm aa->pG=[pt])/\(pt∈hm aa->∀x,x∈pG↔(pt,x)∈sO),?_,?_⟩
     .refine⟨_,rfl,_,rfl,p,_,_,_,rfl,rfl,SA.sm.tup v2,YI,_,rfl,Dh,_,rfl,.inl (aI.of SA.eH),rfl,cf _,_,rfl,?_⟩;rw [dI];refine cx (λcc=>?_) (λcc=>?_)
      .have rj:pt∈hm aa:=cI cc;refine⟨_,rfl,LW,rfl,⟨_,aI.of SA.eP⟩,λDA Pd=>cq (xs:=xY.map V.ref) (λm ys σ2 HC=>ys=(((sO.take m).filter λq=>decide (q.1=pt)).map λq=>V.str q.2)/\(∃y0 y1,σ2=[y0,y1,aF p,some (.int (0+(j:Int)))])/\aE HA HC/\HC DA=some (.lst ys)) ⟨rfl,⟨none,none,rfl⟩,af Pd _,ae⟩ (λm ys σ2 HC _ h=>?_) (λm x ys σ2 HC ex h=>?_) (λys σ2 HC h=>?_)⟩
       .obtain⟨_,_,sm,_⟩:=h;exact aI.of (sm _ _ SA.eP)
       .obtain⟨rfl,⟨y0,y1,rfl⟩,sm,eD⟩:=h;rw [bf] at ex;obtain⟨u,eu,rfl⟩:=b_.mp ex;have lm:=(bh.mp eu).1;obtain⟨qq,Sm⟩:∃qq,sO[m]?=some qq:=⟨_,cT ∅⟩;obtain⟨u',Si,vu⟩:=Paired.at_ SA.pP m qq Sm;rw [eu] at Si;cases Si;have PU:=kX (λq:Str×Str=>decide (q.1=pt)) Sm;have lfq:((sO.take m).filter λq=>decide (q.1=pt)).length<=64:=eK (kP _ _) (by rw [d0];omega);refine⟨u,_,rfl,sm.tup vu,rfl,_,_,rfl,_,_,rfl,rfl,?_⟩;refine⟨_,rfl,_,rfl,_,rfl,p,_,_,_,rfl,rfl,(SA.sm.trans sm).tup v2,YI,rfl,_,rfl,?_⟩;have dv:decide (V.str qq.1=V.str pt)=decide (qq.1=pt):=by
         by_cases c:qq.1=pt
         .rw [c,cU rfl,cU rfl]
         rw [gJ c,gJ (λz=>c (by injection z))]
        rw [dv];refine cx (λc3=>?_) (λc3=>?_)
        .refine⟨_,rfl,eD,bq (by rw [ar];omega),?_,⟨_,_,rfl⟩,λb o hb=>?_,ae⟩
         .rw [PU,aw c3,br];rfl
         rw [ak (λz=>by rw [z,Pd] at hb;cases hb)];exact sm b o hb
        exact⟨by rw [PU,ax c3,gH],⟨_,_,rfl⟩,sm,eD⟩
       obtain⟨rfl,_,sm,eD⟩:=h;rw [ar,Wd,cC] at eD;refine goN ?_;refine⟨DA,(sO.filter λq=>decide (q.1=pt)).map (·.2),rfl,sm,by rw [eD,iz];rfl,AJ pt SA.nd,by rw [ar];exact eK (kP _ _) (Nat.le_succ_of_le lf),λh=>absurd rj h,λ_ x=>?_⟩;rw [bN];constructor
       .rintro⟨q2,RB,rfl⟩;obtain⟨a1,a2⟩:=gI.mp RB;rw [<-cI a2];exact a1
       exact λhx=>⟨(pt,x),gI.mpr ⟨hx,cU rfl⟩,rfl⟩
      have nin:pt∉hm aa:=λz=>cc (cU z);exact⟨Dw,[pt],rfl,aE.refl _,eA,by simp,by simp,λ_=>rfl,λh=>absurd h nin⟩
     rintro σ HB ⟨Dv,pG,rfl,sB,eB,nw,lw,w1,w2⟩;have SB:=SA.same sB;refine⟨_,rfl,_,rfl,Dv,rfl,⟨_,aI.of eB⟩,λDC Pc=>cq (xs:=pG.map V.str) (λm ys σ2 HC=>(∃vs:List Addr,ys=vs.map V.ref/\Paired (Kn K HC) vs (lh sO ru.1 (pG.take m)))/\(∃y0,σ2=[y0,some (.str ru.1),aF LW])/\aE HB HC/\HC DC=some (.lst ys)) ⟨⟨[],rfl,.nil⟩,⟨none,rfl⟩,af Pc _,ae⟩ (λm ys σ2 HC _ h=>?_) (λm x ys σ2 HC ex h=>?_) (λys σ2 HC h=>?_)⟩
     .obtain⟨_,_,sm,_⟩:=h;exact aI.of (sm _ _ eB)
     .obtain⟨⟨vs,rfl,pv⟩,⟨y0,rfl⟩,sm,eD⟩:=h;rw [bf] at ex;obtain⟨wd,UA,rfl⟩:=b_.mp ex;have lvs:=bI pv;have lnp:(lh sO ru.1 (pG.take m)).length<=64:=by
       unfold lh;rw [ar];exact eK (kP _ _) (by rw [d0];omega)
      have Zf:lh sO ru.1 (pG.take (m+1))=lh sO ru.1 (pG.take m)++if (!decide ((ru.1,wd)∈sO))=true then [(ru.1,wd)] else []:=by
       unfold lh;rw [kX _ UA,br]
       congr 1
       split <;> rfl
      refine goN ?_;refine⟨_,rfl,_,rfl,mj,λu1 WH=>?_⟩;have kD:=af WH (.tup [V.str ru.1,V.str wd]);have eu1:aT K (upd HC u1 (.tup [V.str ru.1,V.str wd])) u1 [.str ru.1,.str wd]:=aT.of ae;generalize upd HC u1 (.tup [V.str ru.1,V.str wd])=HD at kD eu1;have SD:=SB.same (sm.trans kD);have eDD:=kD _ _ eD;refine⟨_,rfl,u1,LW,(ru.1,wd),xY,sO,rfl,rfl,eu1,aI.of SD.eP,SD.pP,_,rfl,?_⟩;show if (!decide ((ru.1,wd)∈sO))=true then _ else _;refine cx (λcc=>?_) (λcc=>?_)
      .refine⟨_,rfl,_,rfl,mj,λu2 T_=>?_⟩;have kE:=af T_ (.tup [V.str ru.1,V.str wd]);have eu2:aT K (upd HD u2 (.tup [V.str ru.1,V.str wd])) u2 [.str ru.1,.str wd]:=aT.of ae;generalize upd HD u2 (.tup [V.str ru.1,V.str wd])=HE at kE eu2;have Ye:=kE _ _ eDD;refine⟨Ye,bq (by rw [ar];omega),⟨vs++[u2],by rw [br];rfl,?_⟩,⟨_,rfl⟩,λb o hb=>?_,ae⟩
       .rw [Zf,aw cc];exact gR (Paired.dY pv λa b z=>aY Ye ((kD.trans kE).tup z)) (aY Ye eu2)
       rw [ak (λz=>by rw [z,Pc] at hb;cases hb)];exact kE _ _ (kD _ _ (sm b o hb))
      exact⟨⟨vs,rfl,by rw [Zf,ax cc,gH];exact Paired.dY pv λa b z=>kD.tup z⟩,⟨_,rfl⟩,sm.trans kD,eDD⟩
     obtain⟨⟨vs,rfl,pv⟩,_,sm,eD⟩:=h;rw [ar,cC] at pv;have SC:=SB.same sm;have lvs:=bI pv;have lnp:(lh sO ru.1 pG).length<=64:=by
      unfold lh;rw [ar];exact eK (kP _ _) lw
     refine⟨LW,DC,xY.map V.ref,vs.map V.ref,rfl,rfl,SC.eP,eD,fits (by rw [ar,ar];omega),λL4 NT=>?_⟩;have kF:=af NT (.lst (xY.map V.ref++vs.map V.ref));have eF:upd HC L4 (.lst (xY.map V.ref++vs.map V.ref)) L4=some (.lst ((xY++vs).map V.ref)):=by rw [ae,br]
     generalize upd HC L4 (.lst (xY.map V.ref++vs.map V.ref))=HF at kF eF;have SF:=SC.same kF;have bgn:∀x∈sO++lh sO ru.1 pG,hJ aa ns x.2 x.1:=λx hx=>by
      rcases bY.mp hx with h | h
      .exact SF.bg x h
      obtain⟨z1,z2,_⟩:=sW.mp h;rw [z1];by_cases hp:pt∈hm aa
      .exact .name fZ ZC UC (SF.bg _ ((w2 hp x.2).mp z2))
      have h1:=w1 hp;rw [h1] at z2;rw [cg.mp z2];exact .word fZ ZC UC hp
     have Gy:∀x∈pG,(ru.1,x)∈sO++lh sO ru.1 pG:=λx hx=>by
      by_cases hc:(ru.1,x)∈sO
      .exact dH _ hc
      exact dD _ (sW.mpr ⟨rfl,hx,hc⟩)
     have eap:aX++(ext++(jM++lh sO ru.1 pG))=sO++lh sO ru.1 pG:=by rw [<-RD];simp only [kn]
     refine⟨L4,xY++vs,jM++lh sO ru.1 pG,_,_,rfl,?_,?_⟩
     .rw [eap];exact⟨SF.sm,SF.eH,SF.eE,eF,SC.sm.free NT,Paired.SU SF.pP (Paired.dY pv λ_ _ z=>kF.tup z),Jz SF.nd nw,bgn⟩
     rw [eap];intro pl pp l e o;by_cases cj:pl < j
     .obtain⟨a1,a2⟩:=UP pl pp cj e o;exact⟨λn=>dH _ (a1 n),λh w hw=>dH _ (a2 h w hw)⟩
     have:pl=j:=by omega
     subst this;rw [UC] at e;cases e;refine⟨λn=>Gy pt ?_,λh w hw=>Gy w ((w2 h w).mpr (Vu _ hw))⟩;rw [w1 n];exact cg.mpr rfl
   rintro σ H7 ⟨LW,xY,jM,y7,y8,rfl,S7,UP⟩;refine⟨LW,xY,ext++jM,_,_,_,_,rfl,S7,λAr tu=>?_⟩;rw [tk] at tu;rcases bY.mp tu with h | h
   .exact(dd Ar h).mono (λ_ z=>z) λx hx=>by rw [<-kn];exact dH _ hx
   rw [cg.mp h];exact λpl pp e o=>UP pl pp (bh.mp e).1 e o
  rintro σ H6 ⟨PF,r9,ext,y5,y6,y7,y8,rfl,S6,dd⟩;refine⟨PF,r9,ext,_,_,_,_,rfl,S6,λru fZ=>dd ru ?_⟩;rw [ar,ll,cC];exact fZ
 have c':¬(many < (us.map V.ref).length):=λz=>c (cU z);rw [ar,QX] at c';have mz:=cl ∅;exact⟨_,rfl,q Lp us aX H5 S.fP S.sm S.eP S.pP S.nd (λx=>⟨λh=>S.bg x h,λb=>hJ.Z7 mz b⟩)⟩
end
theorem xw (b:Str->Bool):∀(zs:List Str) (j:Nat),j < uw b zs↔j < zs.length/\∀x∈zs.take j,b x=true
 | [],j=>⟨λh=>absurd h (me _),λh=>absurd h.1 (me _)⟩
 | z::r,0=>⟨λ_=>⟨Nat.succ_pos _,λ_ h=>(by cases h)⟩,λ_=>by unfold uw;split <;> omega⟩
 | z::r,j+1=>by
  have ih:=xw b r j;unfold uw;by_cases c:b z=true
  .rw [aw c,rR,dG];constructor
   .intro h;obtain⟨h1,h2⟩:=ih.mp ∅;refine⟨∅,λx hx=>?_⟩;rcases bO.mp hx with e | e
    .rw [e];exact c
    exact h2 x e
   intro h;have:=ih.mpr ⟨∅,λx hx=>h.2 x (cu _ hx)⟩;omega
  rw [ax c,rR];exact⟨λh=>by omega,λh=>absurd (h.2 z bQ) c⟩
def KY {ns:List Str}{ru:au}{j:Nat}{z:Str}(e:ru.2[j]?=some z):j < uw (λx=>decide (x∈ns)) ru.2↔Kr ns ru j:=by
 rw [xw];exact⟨λh x hx=>cI (h.2 x hx),λh=>⟨(bh.mp e).1,λx hx=>cU (h x hx)⟩⟩
section
variable {aa:List au}{ns:List Str}{a9:List Be}
def vR (h:uy aa (hd aa) (λz=>decide (z∈ns)) a9):∀x∈aX a9,hJ aa ns x.2 x.1:=by
 induction h with
 | nil=>intro x h;cases h
 | @snoc a9 k j ru z w h e1 e2 lj hw n ih =>
  intro x hx;unfold aX at hx;rw [br] at hx;rcases bY.mp hx with q | q
  .exact ih x q
  rw [cg.mp q];have o:=(KY e2).mp lj;have hr:=cA e1;unfold i7 at hw;by_cases c:z∈hd aa
  .rw [aw c] at hw;exact .name hr o e2 (ih (z,w) (ny.mp hw))
  rw [ax c] at hw;have:=cg.mp hw;subst this;exact .word hr o e2 λy=>c (mx.mp y)
def DY (c:zE aa (hd aa) (λz=>decide (z∈ns)) aa.length a9):Tu aa ns (aX a9):=λru hr pl p e o=>by
 obtain⟨k,ek⟩:=fQ hr;have lk:=(bh.mp ek).1;have cc:=c k ru lk ek pl p ((KY e).mpr o) e;unfold i7 at cc;constructor
 .intro n;rw [ax (λy=>n (mx.mpr y))] at cc;exact cc p (cg.mpr rfl)
 intro m w hw;rw [aw (mx.mp m)] at cc;exact cc w (ny.mpr hw)
end
def N5 {aa:List au}{ns A B:List Str}(hA:∀ru∈aa,ru.1∈A)(hB:∀ru∈aa,∀x∈ru.2,x∈B)(aX:List (Str×Str))(nd:aX.Nodup)(b:∀x∈aX,hJ aa ns x.2 x.1):aX.length<=A.length * B.length:=by
 have h:=UZ.jZ aX (A.flatMap λa=>B.map λw=>(a,w)) nd λx hx=>by
  have bx:=b x hx;obtain⟨_,ru,hr,hw⟩:=bx.text;obtain⟨I0,qz,e2⟩:=bN.mp bx.head;exact mh.mpr ⟨x.1,e2 ▸ hA I0 qz,bN.mpr ⟨x.2,hB ru hr _ hw,rfl⟩⟩
 have l:∀l:List Str,(l.flatMap λa=>B.map λw=>(a,w)).length=l.length * B.length:=λl=>by
  induction l with
  | nil=>simp
  | cons a r ih=>rw [List.flatMap_cons,bB,ih,ar,dG,Nat.succ_mul,Nat.add_comm]
 rw [l] at h;exact h
def Eg.N7 {c:Int}{aa:List au}(g:Eg c aa) (ns:List Str)(aX:List (Str×Str))(nd:aX.Nodup)(b:∀x∈aX,hJ aa ns x.2 x.1):aX.length<=63:=by
 obtain⟨nms,nk,i6⟩:=g.ins;have h1:=N5 (A:=nms) (B:=nms++gh c) (λru h=>(i6 ru h).1) (λru h=>(i6 ru h).2.2) aX nd b;have gl:=j_ c;have n5:=nk.JX;have h2:nms.length * (nms++gh c).length<=5 * 8:=Nat.mul_le_mul n5 (by rw [bB];omega);omega
def IB (md:Nat->Bool) (a:Nat):List Str:=((List.range 8).filter λk=>decide (a<=k)).map (λk=>if md k=true then wN k else xN k)++(["n","("]:List Str)
def PD (md:Nat->Bool):List (Str×Str):=(List.range 9).flatMap λa=>(IB md a).map λw=>(eN a,w)
def OF (md:Nat->Bool):(PD md).length=54:=rfl
def Oh {a b:Nat}(ha:a < 9)(hb:b < 9)(e:eN a=eN b):a=b:=by
 have h1:=pZ w6 (m_ ha);have h2:=pZ w6 (m_ hb);rw [e,h2] at h1;exact h1.symm
def uh {md:Nat->Bool}{a:Nat}{w:Str}(ha:a < 9)(h:w∈IB md a):(eN a,w)∈PD md:=mh.mpr ⟨a,iK.mpr ha,bN.mpr ⟨w,h,rfl⟩⟩
def xQ {md:Nat->Bool}{a:Nat}{w:Str}(ha:a < 9)(h:(eN a,w)∈PD md):w∈IB md a:=by
 obtain⟨b,hb,h2⟩:=mh.mp h;obtain⟨w2,h3,e⟩:=bN.mp h2;have e1:eN b=eN a:=congrArg Prod.fst e;have e2:w2=w:=congrArg Prod.snd e;rw [<-e2,<-Oh (iK.mp hb) ha e1];exact h3
def Bm {md:Nat->Bool}{a:Nat}{w:Str}(h:w∈IB md (a+1)):w∈IB md a:=by
 unfold IB at h ⊢;rcases bY.mp h with q | q
 .obtain⟨k,hk,e⟩:=bN.mp q;obtain⟨k1,k2⟩:=gI.mp hk;have:=cI k2;exact dH _ (bN.mpr ⟨k,gI.mpr ⟨k1,cU ∅⟩,e⟩)
 exact dD _ q
def CB {md:Nat->Bool}{a:Nat}(ha:a < 8):(if md a=true then wN a else xN a)∈IB md a :=
 dH _ (bN.mpr ⟨a,gI.mpr ⟨iK.mpr ha,cU (aK _)⟩,rfl⟩)
def Pw {a b c x:Str}{pl:Nat}(h:[a,b,c][pl]?=some x):(pl=0/\x=a)\/(pl=1/\x=b)\/(pl=2/\x=c):=by
 match pl,h with
 | 0,h=>exact .inl ⟨rfl,(gi h).symm⟩
 | 1,h=>exact .inr (.inl ⟨rfl,(gi h).symm⟩)
 | 2,h=>exact .inr (.inr ⟨rfl,(gi h).symm⟩)
 | _+3,h=>cases h
def Oz {a x:Str}{pl:Nat}(h:[a][pl]?=some x):x=a:=by
 match pl,h with
 | 0,h=>exact(gi h).symm
 | _+1,h=>cases h
def lJ.key {aa:List au}(g:lJ aa){ns:List Str}(rh:∀x∈ns,x∈hm aa):∃md:Nat->Bool,∀{w h:Str},hJ aa ns w h->(h,w)∈PD md:=by
 obtain⟨md,TL⟩:=g.TL;refine⟨md,?_⟩;have hN:∀x∈hm aa,x∈w_:=λx hx=>by
  obtain⟨ru,hr,e⟩:=bN.mp hx;exact e ▸ (g.three ru hr).1
 have PR:∀x∈wo,x∉hm aa:=λx hx h=>Gf x (hN x h) hx;have nE:∀x∈wo,x∉ns:=λx hx h=>PR x hx (rh x h);have lp:("(":Str)∈wo:=by decide +kernel
 have ln:("n":Str)∈wo:=by decide +kernel
 have Tz:∀(p q r:Str){ru:au},ru.2=[p,q,r]->Kr ns ru 1->p∈ns:=λp q r ru e o=>o p (by rw [e];exact bQ);have PV:∀(p q r:Str){ru:au},ru.2=[p,q,r]->Kr ns ru 2->p∈ns/\q∈ns:=λp q r ru e o=>⟨o p (by rw [e];exact bQ),o q (by rw [e];exact cu _ bQ)⟩;intro w h bg
 induction bg with
 | @word ru pl hr o e n =>
  obtain⟨a,ea,q⟩:=TL ru hr;rw [ea];rcases q with ⟨la,q⟩ | ⟨rfl,q⟩
  .rcases q with q | ⟨Ep,q⟩ | ⟨Ep,q⟩
   .rw [q] at e;exact absurd (g.A2 (a+1) ∅) (Oz e ▸ n)
   .rw [q] at e;rcases Pw e with ⟨_,rfl⟩ | ⟨_,rfl⟩ | ⟨_,rfl⟩
    .exact absurd (g.A2 a ∅) n
    .have:=CB (md:=md) la;rw [aw Ep] at this;exact uh ∅ this
    exact absurd (g.A2 (a+1) ∅) n
   rw [q] at e;rcases Pw e with ⟨_,rfl⟩ | ⟨_,rfl⟩ | ⟨_,rfl⟩
   .exact absurd (g.A2 (a+1) ∅) n
   .exact absurd (g.A2 (a+1) ∅) n
   have:=CB (md:=md) la;rw [ax (by rw [Ep];decide)] at this;exact uh ∅ this
  rcases q with q | q | q
  .rw [q] at e;cases e
  .rw [q] at e;rw [Oz e];exact uh nofun (dD _ bQ)
  have e':=e;rw [q] at e';rcases Pw e' with ⟨_,rfl⟩ | ⟨rfl,rfl⟩ | ⟨rfl,rfl⟩
  .exact uh nofun (dD _ (cu _ bQ))
  .exact absurd (Tz _ _ _ q o) (nE _ lp)
  exact absurd (PV _ _ _ q o).1 (nE _ lp)
 | @name ru pl p hr o e bp ih =>
  obtain⟨a,ea,q⟩:=TL ru hr;have hp:=bp.head;rw [ea];rcases q with ⟨la,q⟩ | ⟨rfl,q⟩
  .rcases q with q | ⟨Ep,q⟩ | ⟨Ep,q⟩
   .rw [q] at e;rw [Oz e] at ih;exact uh ∅ (Bm (xQ ∅ ih))
   .have e':=e;rw [q] at e';rcases Pw e' with ⟨_,rfl⟩ | ⟨_,rfl⟩ | ⟨rfl,rfl⟩
    .exact ih
    .exact absurd hp (PR _ (Bv la))
    exact absurd (PV _ _ _ q o).2 (nE _ (Bv la))
   rw [q] at e;rcases Pw e with ⟨_,rfl⟩ | ⟨_,rfl⟩ | ⟨_,rfl⟩
   .exact uh ∅ (Bm (xQ ∅ ih))
   .exact uh ∅ (Bm (xQ ∅ ih))
   exact absurd hp (PR _ (EC la))
  rcases q with q | q | q
  .rw [q] at e;cases e
  .rw [q] at e;exact absurd (Oz e ▸ hp) (PR _ ln)
  have e':=e;rw [q] at e';rcases Pw e' with ⟨_,rfl⟩ | ⟨rfl,rfl⟩ | ⟨rfl,rfl⟩
  .exact absurd hp (PR _ lp)
  .exact absurd (Tz _ _ _ q o) (nE _ lp)
  exact absurd (PV _ _ _ q o).1 (nE _ lp)
def lJ.N7 {aa:List au}(g:lJ aa){ns:List Str}(rh:∀x∈ns,x∈hm aa)(aX:List (Str×Str))(nd:aX.Nodup)(b:∀x∈aX,hJ aa ns x.2 x.1):aX.length<=63:=by
 obtain⟨md,key⟩:=g.key rh;have h:=UZ.jZ aX (PD md) nd λx hx=>key (b x hx);rw [OF] at h;omega
def jU (aX:List (Str×Str))(z:Str):List Str:=(aX.filter λq=>decide (q.1=z)).map (·.2)
def oC {aX:List (Str×Str)}{z w:Str}:w∈jU aX z↔(z,w)∈aX:=by
 unfold jU;rw [bN];constructor
 .rintro⟨q2,RB,rfl⟩;obtain⟨a1,a2⟩:=gI.mp RB;rw [<-cI a2];exact a1
 exact λhx=>⟨(z,w),gI.mpr ⟨hx,cU rfl⟩,rfl⟩
def Kj (md:Nat->Bool) (a:Nat):(IB md a).length<=10:=by
 unfold IB;rw [bB,ar];have:=kP (λk=>decide (a<=k)) (List.range 8);rw [nQ] at this;show _+2<=10;omega
def lJ.N6 {aa:List au}(g:lJ aa){ns:List Str}(rh:∀x∈ns,x∈hm aa)(aX:List (Str×Str))(nd:aX.Nodup)(b:∀x∈aX,hJ aa ns x.2 x.1)(z:Str):(jU aX z).length<=10:=by
 obtain⟨md,key⟩:=g.key rh;have V3:(jU aX z).Nodup:=AJ z nd;by_cases c:∃a,a < 9/\z=eN a
 .obtain⟨a,ha,e⟩:=c;have:=UZ.jZ (jU aX z) (IB md a) V3 λw hw=>xQ ha (e ▸ key (b (z,w) (oC.mp hw)));have:=Kj md a;omega
 cases h:jU aX z with
 | nil=>exact fj _
 | cons w r =>
  exfalso;have hw:w∈jU aX z:=by rw [h];exact bQ
  obtain⟨a,ha,h2⟩:=mh.mp (key (b (z,w) (oC.mp hw)));obtain⟨w2,_,e⟩:=bN.mp h2;exact c ⟨a,iK.mp ha,(congrArg Prod.fst e).symm⟩
def Eg.N6 {c:Int}{aa:List au}(g:Eg c aa) (ns:List Str)(aX:List (Str×Str))(nd:aX.Nodup)(b:∀x∈aX,hJ aa ns x.2 x.1)(z:Str):(jU aX z).length<=10:=by
 obtain⟨nms,nk,i6⟩:=g.ins;have V3:(jU aX z).Nodup:=AJ z nd;have h:=gE (jU aX z) (nms++gh c) V3 λw hw=>by
  obtain⟨_,ru,hr,WD⟩:=(b (z,w) (oC.mp hw)).text;exact(i6 ru hr).2.2 w WD
 have gl:=j_ c;have n5:=nk.JX;rw [bB] at h;omega
end ig
namespace L2
open PySem PySem.Spec PyProof.Rows
theorem uR:∀{vs:List Value}{ks:List Str},vs.length=ks.length->(∀(j:Nat)(v:Value),vs[j]?=some v->∃z t,ks[j]?=some z/\v=.str z t)->StrsAre vs ks
 | [],[],_,_=>.nil
 | v::vs,k::ks,hl,h=>by
  obtain⟨z,t,e1,e2⟩:=h 0 v rfl;cases e1;subst e2;exact .cons k t (uR (Nat.succ.inj hl) λj u hu=>h (j+1) u hu)
 | [],_::_,hl,_=>by cases hl
 | _::_,[],hl,_=>by cases hl
def Bj {X:Cx}(hc:X.calm=true):gN X (.builtin "sorted") (λxs H Q=>∃a kvs ks,xs=[.ref a]/\H a=some (.dK kvs)/\kvs.map (·.1)=ks.map Sum.inr/\ks.length < 64/\∀l qF,H l=none->qF.Perm ks->sortedS qF=true->Q (.ref l) (upd H l (.lst (List.map V.str qF)))):=by
 intro ag s σ H xs us Q I r h;obtain⟨a,kvs,ks,rfl,e,hk,Ux,q⟩:=h;obtain⟨u,rfl,rx⟩:=vals1 r;cases (show u=Value.ref a from rx);obtain⟨z,hs,vs,rel,dd⟩:=vF I.cw e;obtain⟨o,es,ep,d1,d2,d3,d4⟩:=dd;have l1:=rel.length;have lk:kvs.length=ks.length:=by have:=congrArg List.length hk;rw [ar,ar] at this;exact this
 refine Calls.call_function_entry kind_sorted plain_sorted entry_sorted (args_sorted1 _) ?_;unfold Builtin.«sorted»;refine ay (m:=checkCount "sorted" 1 1 _) (aD ?_);refine ay (PySem.W.kdu_collect (PySem.W.kdl_dict (knd:=bc X.prog X.w) (kvs:=vs) (ep:=ep) hs) (I.ok.hd hc) ⟨o,es,d1,d2,d3,d4⟩ ∅ λh1 tk bS kp qb=>?_);have keys:=rel.keys;have la:bS.toList.length=ks.length:=by rw [iN];have:=qb.1;omega
 have hS:StrsAre bS.toList ks:=uR la λj v hv=>by
  rw [rF] at hv;obtain⟨k,x,e3,e4⟩:=qb.2 j v hv;have e6:(kvs.map (·.1))[j]?=some k:=by rw [keys,bf,e3];rfl
  rw [hk,bf] at e6;obtain⟨z2,e7,e8⟩:=b_.mp e6;rw [<-e8] at e4;obtain⟨t,et⟩:=(show ∃t,v=.str z2 t from Gx e4);exact⟨z2,t,e7,et⟩
 generalize bS.toList=Mb at la hS;refine ay (wpAny_newList ?_);have JL:(h1.push (seqObj "list" Mb.toArray 0)).get? h1.objs.size=some (seqObj "list" Mb.toArray 0):=cJ _ rfl;refine ay (i8 (kj slot_list_sort ⟨_,JL,rfl⟩ entry_list_sort (list_sort_treeK strKind_oneLt JL hS.keysOf (λv₁ v₂ rest e=>keyKind_strs (by rw [<-e];exact hS)) ∅ λqR a1 a2=>⟨_,rfl,?_⟩) (args_list_sort _)));obtain⟨ss,b1,b2,b3⟩:=sorted_out_str hS a1 a2;obtain⟨e9,he⟩:=sortedHeap_at (out:=(arrOf qR).map (·.2)) JL;have JF:∀b u,s.heap.get? b=some u->(sortedHeap (h1.push (seqObj "list" Mb.toArray 0)) h1.objs.size Mb ((arrOf qR).map (·.2))).get? b=some u:=λb u hb=>by
  have Dt:=kp b u hb;have lb:=bo Dt;rw [sortedHeap_old (bE lb) (by rw [jt];exact nR lb)];exact bW _ Dt
 have hD:s.heap.get? h1.objs.size=none:=by
  cases e:s.heap.get? h1.objs.size with
  | none=>rfl
  | some ob=>exact absurd (bo (kp _ _ e)) (kJ _)
 have fD:H h1.objs.size=none:=by
  cases e:H h1.objs.size with
  | none=>rfl
  | some u =>
   obtain⟨ob,g⟩:=yx (I.cw _ u e);rw [hD] at g;cases g
 have v:=pH b1;refine aD ⟨_,rfl,.ref h1.objs.size,_,I.K6 (t':=tk) (λb u _ hb=>JF b u hb) (λm hm=>by obtain⟨o',a1,a2,GO,rest⟩:=hm;exact⟨o',a1,a2,JF _ _ GO,rest⟩) hD fD (show cK X.prog X.w _ _ _ (.lst (List.map V.str ss)) from ⟨?_,((arrOf qR).map (·.2)).toList,e9,v,?_⟩),rfl,q _ ss fD b2 b3⟩
 .rw [ar,b2.length_eq];exact fits ∅
 rw [he]
open PySem
def Ca {X:Cx}{e:Expr}{f:Str}{pos:Pos}{ta:TE}(K:a0)(he:PE X e ta)(hb:attributeBase e f X.env (eval e X.env)=eval e X.env)(hK:X.K=K:=by rfl):PE X (.Attribute e f pos) (Qa K ta f):=by subst hK;exact dU he hb
def Qm (a b:Sp):Sp:=λvs H Q E=>a vs H Q E\/b vs H Q E
def bR.or {P:Program}{w:World}{K:a0}{mg:Str->Option Value}{base:Heap}{CX:zD}{k:Nat}{f:Addr}{fd:FuncData}{ps:List Str}{a b:Sp}(F:bR P w K mg base CX k f fd ps a)(G:bR P w K mg base CX k f fd ps b):bR P w K mg base CX k f fd ps (Qm a b) :=
 ⟨λvs H Q E h=>h.elim (F.len vs H Q E) (G.len vs H Q E),λA outer s H args us vs Q E hr he hb hv h=>h.elim (F.run A outer s H args us vs Q E hr he hb hv) (G.run A outer s H args us vs Q E hr he hb hv)⟩
end L2
namespace ig
open PySem L2 M11
abbrev wO:Stmt:=K4 pR 3
abbrev yl:Stmt:=K4 pR 4
abbrev wI:Stmt:=K4 pR 5
abbrev Fo:Stmt:=top 2
def Ex (K:a0)(b:Bool)(H:Hp)(p:Addr)(xs:List V):Prop:=if b=true then aT K H p xs else aI K H p xs
def Ex.same {K:a0}{b:Bool}{H H':Hp}{p:Addr}{xs:List V}(s:aE H H')(h:Ex K b H p xs):Ex K b H' p xs:=by
 cases b
 .exact s.seq h
 exact s.tup h
def VJ (K:a0)(b:Bool):R2:=λx y H Q=>UT (Ex K b H) x y λv=>Q v H
def Ks (names:List Str)(a9:List Be)(b:Str->Bool) (zs:List Str)(w:Str):Prop:=∃j z,zs[j]?=some z/\j < uw b zs/\w∈i7 names a9 z
def xC (kE:List (aM×V))(z:Str):Bool:=(bj kE (Sum.inr z)).isSome
def nZ (names:List Str)(a9:List Be)(z:Str):(i7 names a9 z).length<=a9.length+1:=by
 unfold i7
 split
 .have:=G9 a9 z;omega
 show 1<=_;omega
def oU (a:List Str)(h:Str):(gG a h).length<=a.length+1:=by
 unfold gG
 split
 .omega
 rw [bB];exact aK _
section
def Wu {X:Cx}(b:Bool):IE X (VJ X.K b):=by
 cases b
 .exact cX
 exact cN
def Ql (K:a0)(b:Bool):Sp:=λvs H Q _=>∃(p d:Addr) (zs:List Str)(kvs:List (aM×V)),vs=[.ref p,.ref d]/\Ex K b H p (zs.map V.str)/\zs.length<=1000/\H d=some (.dK kvs) /\
 ∀D H',H D=none->aE H H'->H' D=some (.lst (cnt (uw (λz=>(bj kvs (Sum.inr z)).isSome) zs)))->Q (.ref D) H'
def CQ (K:a0):Sp:=λvs H Q _=>∃(p d:Addr) (zs:List Str)(kvs:List (aM×V)),vs=[.ref p,.ref d]/\aI K H p (zs.map V.str)/\zs.length<=1000/\H d=some (.dK kvs) /\
 ∀D H',H D=none->aE H H'->H' D=some (.lst (cnt (uw (λz=>(bj kvs (Sum.inr z)).isSome) zs)))->Q (.ref D) H'
def AD (F:iG K "first_places" "first_places" qX f fd)(T:Txt mg):bR P w K mg base fK 1 f fd ["parts","empty"] (CQ K):=by
 refine F.ok iq (λvs H Q E h=>?_) (λeJ A outer s H vs Q E hr h=>?_)
 .obtain⟨p,d,zs,kvs,rfl,_⟩:=h;rfl
 obtain⟨p,d,zs,kvs,rfl,hp,hz,hd,q⟩:=h;have hu:=ff hr;refine⟨_,ai (aC (i:=2) iq.nd rfl (a_ rfl) (bJ aj))
  (ai (bD b8 rfl (lU rfl T.Iu (ab (pv 0) aj)) (ft rfl (az (aq (i:=3) iq.nd rfl (a_ rfl)) (az (aq (i:=4) iq.nd rfl (a_ rfl)) bz)))
   (ai (cv (fY fU fV fX bA (pv 2) (ab (pv 3) aj)))
   (ao (cy (f_ (dW hu (pv 4) (pv 1))) (ao yq) aZ))))
  (ao (bC (pv 2)))),?_⟩
 nofun
 refine⟨uo,λD hD=>?_⟩;have up1:∀n,cnt n++[V.int (n:Int)]=cnt (n+1):=λn=>by
  unfold cnt;rw [List.range_succ,br];rfl
 refine⟨_,rfl,p,_,rfl,(af hD _).seq hp,?_⟩
 let OI:rB:=λi σ H5=>∃(y3 y4:Option V),σ=[aF p,aF d,aF D,y3,y4]/\aE H H5/\H5 D=some (.lst (cnt i))/\∀z∈zs.take i,(bj kvs (Sum.inr z)).isSome=true
 refine jJ (xs:=zs.map V.str) OI
  ⟨none,none,rfl,af hD _,ae,by simp⟩ ?_ ?_ ?_
 .rintro i σ H5 _ ⟨y3,y4,rfl,sm,_⟩;exact sm.seq hp
 .rintro i x σ H5 t ex ⟨y3,y4,rfl,sm,G5,j9⟩ ht
  ac_nf0
  rw [bf] at ex;obtain⟨z,ez,rfl⟩:=b_.mp ex;have li:=(bh.mp ez).1;have uu:=sm.trans (af ht (.tup [.int (i:Int),.str z]));have jI:upd H5 t (.tup [.int (i:Int),.str z]) D=some (.lst (cnt i)):=by rw [ak (aB G5 ht)];exact G5
  have hv:aT K (upd H5 t (.tup [.int (i:Int),.str z])) t [.int (i:Int),.str z]:=aT.of ae;generalize upd H5 t (.tup [.int (i:Int),.str z])=H6 at uu jI hv;have Ia:aE H (upd H6 D (.lst (cnt i++[V.int (i:Int)]))):=λb o hb=>by
   rw [ak (λz=>by rw [z,hD] at hb;cases hb)];exact uu b o hb
  refine⟨t,_,rfl,hv,rfl,_,_,rfl,_,_,rfl,rfl,?_⟩;refine⟨_,rfl,.inl ⟨rfl,_,aI.of jI⟩,_,rfl,D,_,_,rfl,rfl,jI,bq (by unfold cnt;rw [ar,nQ];omega),?_⟩;refine⟨_,rfl,_,rfl,d,_,rfl,cD.k (k:=Sum.inr z) (Ia _ _ hd),_,rfl,?_⟩;refine cx (λc=>?_) (λc=>?_)
  .refine⟨_,rfl,q D _ hD Ia ?_⟩;rw [ae,up1,A9 _ zs i z j9 ez (λh=>by rw [h] at c;exact absurd c nofun)]
  refine⟨_,_,rfl,Ia,by rw [ae,up1],λx hx=>?_⟩;rw [cQ,ez] at hx;rcases bY.mp hx with h | h
  .exact j9 x h
  rw [Option.toList_some,cg] at h;subst h;cases hq:(bj kvs (Sum.inr x)).isSome with
  | true=>rfl
  | false=>exact absurd (by rw [hq];rfl) c
 rintro σ H5 ⟨y3,y4,rfl,sm,G5,j9⟩;rw [ar] at G5 j9;rw [cC] at j9;exact⟨_,rfl,q D _ hD sm (by rw [xx _ zs j9];exact G5)⟩
def BY (K:a0)(C:Addr)(b:Bool):Sp:=λvs H Q _=>∃(H0:Hp)(a e d bg p:Addr)(kE:List (aM×V))(aQ:List (Str×Nat))(ps:List (Str×Addr))(a9:List Be) (zs:List Str),vs=[.ref a,.ref p]/\nP K C H0 H a e d bg kE aQ ps a9/\Ex K b H p (zs.map V.str)/\zs.length<=10/\a9.length<=63 /\
 ∀(D:Addr)(kvs:List (aM×V)) (ks:List Str)(H':Hp),H D=none->aE H H'->H' D=some (.dK kvs)->kvs.map (·.1)=ks.map Sum.inr->ks.Nodup->(∀w,w∈ks↔Ks (ps.map (·.1)) a9 (xC kE) zs w)->ks.length<=1000->Q (.ref D) H'
def qW:aN ["self","parts","words","place","word"] ["self","parts"] (aA wO):=je rfl rfl rfl rfl nofun
def yz (b:Bool){C fW:Addr}{Se:FuncData}(F:iG K "first_words" "BeginTable.first_words" wO f fd)(T:Txt mg)(B:BC K C)(GP:aG P w K mg base 1 "first_places" ["parts","empty"] (Ql K b))(FW:bR P w K mg base fK 1 fW Se ["self","part"] (wA K C))(MW:Meth K C "words_of_part" fW)(BW:Binds K Se ["self","part"] []) :
  bR P w K mg base fK 2 f fd ["self","parts"] (BY K C b):=by
 refine F.ok qW (λvs H Q E h=>?_) (λeJ A outer s H vs Q E hr h=>?_)
 .obtain⟨H0,a,e,d,bg,p,kE,aQ,ps,a9,zs,rfl,_⟩:=h;rfl
 obtain⟨H0,a,e,d,bg,p,kE,aQ,ps,a9,zs,rfl,S,hp,hz,JQ,q⟩:=h;have hu:=ff hr;refine⟨_,ai (aC (i:=2) qW.nd rfl (a_ rfl) fu)
  (ai (bD b8 rfl (aP (bK GP hr rfl (ab (pv 1) (ab (dU (pv 0) rfl) aj)))) (aq (i:=3) qW.nd rfl (a_ rfl))
   (ao (bD b8 rfl (aP (lV (pv 0) B.cls MW FW hr BW .nil mq (ab (b9 (Wu b) (pv 1) (pv 3) (λ_ _=>rfl)) aj))) (aq (i:=4) qW.nd rfl (a_ rfl))
    (ao (gB hu (pv 2) (pv 4) gq rfl)))))
  (ao (bC (pv 2)))),?_⟩
 refine λW hW=>?_;have k1:=af hW (.dK []);have e1:upd H W (.dK []) W=some (.dK []):=ae;generalize upd H W (.dK [])=H1 at k1 e1;have S1:=S.same k1;obtain⟨dx,fs,ea,f1,f2,f3,f4,f5⟩:=S1.ia;refine⟨_,rfl,_,rfl,a,C,dx,fs,_,rfl,ea,B.cls,B.a2,f1,p,e,zs,kE,rfl,(Ex.same k1 hp),∅,S1.he,λD5 H5 f6 s5 e5=>⟨D5,rfl,⟨_,aI.of e5⟩,?_⟩⟩;have nW5:D5≠W:=λz=>by rw [z,e1] at f6;cases f6
 have fle:=A8 (xC kE) zs;change H5 D5=some (.lst (cnt (uw (xC kE) zs))) at e5;generalize hn:uw (xC kE) zs=n at *;refine bZ (xs:=cnt n) (λi σ H6=>∃(kvs:List (aM×V)) (ks:List Str)(y3 y4:Option V),σ=[aF a,aF p,aF W,y3,y4]/\aE H H6/\H6 D5=some (.lst (cnt n))/\H6 W=some (.dK kvs)/\kvs.map (·.1)=ks.map Sum.inr/\ks.Nodup/\ks.length<=64 * i/\∀w,w∈ks↔∃j z,zs[j]?=some z/\j < i/\w∈i7 (ps.map (·.1)) a9 z)
  ⟨[],[],none,none,rfl,k1.trans s5,e5,s5 _ _ e1,rfl,iA,fj _,λw=>⟨λh=>(by cases h),λ⟨j,z,_,h,_⟩=>absurd h (me _)⟩⟩ ?_ ?_ ?_
 .rintro i σ H6 _ ⟨kvs,ks,y3,y4,rfl,s6,e6,_⟩;exact aI.of e6
 .rintro i x σ H6 ex ⟨kvs,ks,y3,y4,rfl,s6,e6,eW,hk,nd,lk,rj⟩;have li:i < n:=by have:=(bh.mp ex).1;rw [rA] at this;exact this
  rw [Hs li] at ex;cases ex;have lz:i < zs.length:=by omega
  obtain⟨z,ez⟩:∃z,zs[i]?=some z:=⟨zs[i],cT lz⟩;have SQ:ux (zs.map V.str) (i:Int)=some (.str z):=dO (by rw [bf,ez];rfl);have S2:=S.same s6;obtain⟨Oj,rm,Og,g1,g2,g3,g4,g5⟩:=S2.ia;refine goN ?_;refine⟨_,rfl,a,Oj,rm,rfl,Og,g5.1,_,rfl,_,rfl,p,_,_,_,rfl,rfl,(Ex.same s6 hp),SQ,H0,a,e,d,bg,kE,aQ,ps,a9,z,rfl,S2,λD6 H7 f7 s7 e7=>⟨D6,rfl,⟨_,aI.of e7⟩,?_⟩⟩;have nW6:D6≠W:=λz=>by rw [z,eW] at f7;cases f7
  have ZT:=nZ (ps.map (·.1)) a9 z;generalize Ro:i7 (ps.map (·.1)) a9 z=ws at *;refine bZ (xs:=ws.map V.str) (λm σ H8=>∃(kvs:List (aM×V)) (xm:List Str)(y4:Option V),σ=[aF a,aF p,aF W,some (.int (i:Int)),y4]/\aE H H8/\H8 D5=some (.lst (cnt n))/\H8 D6=some (.lst (ws.map V.str))/\H8 W=some (.dK kvs)/\kvs.map (·.1)=xm.map Sum.inr/\xm.Nodup/\xm.length<=64 * i+m/\∀w,w∈xm↔w∈ks\/w∈ws.take m)
   ⟨kvs,ks,_,rfl,s6.trans s7,s7 _ _ e6,e7,s7 _ _ eW,hk,nd,∅,λw=>⟨.inl,λh=>h.elim id λh=>(by simp at h)⟩⟩ ?_ ?_ ?_
  .rintro m σ H8 _ ⟨kvs,xm,y4,rfl,s8,e8,e9,_⟩;exact aI.of e9
  .rintro m x σ H8 ex ⟨kvs,xm,y4,rfl,s8,e8,e9,X6,Uj,V4,OX,GY⟩;rw [bf] at ex;obtain⟨wd,UA,rfl⟩:=b_.mp ex;have lm:=(bh.mp UA).1;have ll:kvs.length=xm.length:=by have:=congrArg List.length Uj;rw [ar,ar] at this;exact this
   refine goN ?_;refine⟨_,rfl,_,rfl,W,_,rfl,lK.k (k:=Sum.inr wd) X6 (bq ∅),?_⟩;have la:=oU xm wd;refine⟨_,gG xm wd,_,rfl,λb o hb=>?_,by rw [ak nW5];exact e8,by rw [ak nW6];exact e9,ae,ir Uj wd,oS wd V4,∅,λw=>?_⟩
   .rw [ak (λz=>by rw [z,hW] at hb;cases hb)];exact s8 b o hb
   rw [i5,GY,cQ,UA,bY];constructor
   .rintro((h | h) | h)
    .exact .inl h
    .exact .inr (.inl h)
    exact .inr (.inr (cg.mpr h))
   rintro(h | h | h)
   .exact .inl (.inl h)
   .exact .inl (.inr h)
   exact .inr (cg.mp h)
  rintro σ H8 ⟨kvs,xm,y4,rfl,s8,e8,e9,X6,Uj,V4,OX,GY⟩;rw [ar] at OX GY;rw [cC] at GY;refine⟨kvs,xm,_,_,rfl,s8,e8,X6,Uj,V4,∅,λw=>?_⟩;rw [GY,rj];constructor
  .rintro(⟨j,z2,h1,h2,h3⟩ | h)
   .exact⟨j,z2,h1,∅,h3⟩
   exact⟨i,z,ez,i9 _,Ro ▸ h⟩
  rintro⟨j,z2,h1,h2,h3⟩;by_cases c:j < i
  .exact .inl ⟨j,z2,h1,c,h3⟩
  have:j=i:=by omega
  subst this;rw [ez] at h1;cases h1;exact .inr (Ro ▸ h3)
 rintro σ H6 ⟨kvs,ks,y3,y4,rfl,s6,e6,eW,hk,nd,lk,rj⟩;rw [rA] at lk rj;refine⟨_,rfl,q W kvs ks H6 hW s6 eW hk nd (λw=>?_) ∅⟩;rw [rj];unfold Ks;rw [hn]
def z9 (K:a0)(C:Addr)(b:Bool):Sp:=λvs H Q _=>∃(H0:Hp)(a e d bg p:Addr)(kE:List (aM×V))(aQ:List (Str×Nat))(ps:List (Str×Addr))(a9:List Be) (zs:List Str),vs=[.ref a,.ref p]/\nP K C H0 H a e d bg kE aQ ps a9/\Ex K b H p (zs.map V.str)/\zs.length<=10/\∀H',aE H H'->Q (.bl (zs.all (xC kE))) H'
def IX:aN ["self","parts"] ["self","parts"] (aA yl):=je rfl rfl rfl rfl nofun
def F6 {C:Addr}(F:iG K "all_empty" "BeginTable.all_empty" yl f fd)(T:Txt mg)(B:BC K C):bR P w K mg base fK 1 f fd ["self","parts"] (z9 K C true):=by
 refine F.ok IX (λvs H Q E h=>?_) (λeJ A outer s H vs Q E hr h=>?_)
 .obtain⟨H0,a,e,d,bg,p,kE,aQ,ps,a9,zs,rfl,_⟩:=h;rfl
 obtain⟨H0,a,e,d,bg,p,kE,aQ,ps,a9,zs,rfl,S,hp,hz,q⟩:=h;have hu:=ff hr;refine⟨_,ao (bC (aR (dF rfl) rfl T.all boot_all (ab (aV ["part"] [(0,"self")] rfl (d7 (pv 1)) (aS rfl rfl) nofun rfl nofun
  (λ_ _ _ _ _=>aq (i:=0) (show (["part","self"]:List Str).Nodup by decide +kernel) rfl (a_ rfl)) (λ_ _ _ _ _=>bF) (λ_ _ _ _ _=>sP (jY hu (pv 0) (Ca K (pv 1) rfl)))) aj))),?_⟩
 refine⟨_,rfl,p,rfl,⟨_,(show aT K H p (zs.map V.str) from hp)⟩,λD9 vq=>gL (zs:=zs) [aF a] (xC kE) rfl (show aT K H p (zs.map V.str) from hp) ∅ vq (λz _ HA Qy sA hq=>?_) λH9 s9 e9=>?_⟩
 .have SA:=S.same sA;obtain⟨dx,fs,ea,f1,f2,f3,f4,f5⟩:=SA.ia;exact⟨_,rfl,_,rfl,a,C,dx,fs,_,rfl,ea,B.cls,B.a2,f1,e,_,rfl,cD.k (k:=Sum.inr z) SA.he,hq⟩
 refine⟨D9,_,rfl,aI.of e9,?_⟩;rw [all_map];exact q H9 s9
def IY:aN ["self","parts"] ["self","parts"] (aA yl):=je rfl rfl rfl rfl nofun
def F7 {C:Addr}(F:iG K "all_empty" "BeginTable.all_empty" yl f fd)(T:Txt mg)(B:BC K C):bR P w K mg base fK 1 f fd ["self","parts"] (z9 K C false):=by
 refine F.ok IY (λvs H Q E h=>?_) (λeJ A outer s H vs Q E hr h=>?_)
 .obtain⟨H0,a,e,d,bg,p,kE,aQ,ps,a9,zs,rfl,_⟩:=h;rfl
 obtain⟨H0,a,e,d,bg,p,kE,aQ,ps,a9,zs,rfl,S,hp,hz,q⟩:=h;have hu:=ff hr;refine⟨_,ao (bC (aR (dF rfl) rfl T.all boot_all (ab (aV ["part"] [(0,"self")] rfl (aP (pv 1)) (aS rfl rfl) nofun rfl nofun
  (λ_ _ _ _ _=>aq (i:=0) (show (["part","self"]:List Str).Nodup by decide +kernel) rfl (a_ rfl)) (λ_ _ _ _ _=>bF) (λ_ _ _ _ _=>sP (jY hu (pv 0) (Ca K (pv 1) rfl)))) aj))),?_⟩
 refine⟨_,rfl,p,rfl,⟨_,(show aI K H p (zs.map V.str) from hp)⟩,λD9 vq=>lI (zs:=zs) [aF a] (xC kE) rfl (show aI K H p (zs.map V.str) from hp) ∅ vq (λz _ HA Qy sA hq=>?_) λH9 s9 e9=>?_⟩
 .have SA:=S.same sA;obtain⟨dx,fs,ea,f1,f2,f3,f4,f5⟩:=SA.ia;exact⟨_,rfl,_,rfl,a,C,dx,fs,_,rfl,ea,B.cls,B.a2,f1,e,_,rfl,cD.k (k:=Sum.inr z) SA.he,hq⟩
 refine⟨D9,_,rfl,aI.of e9,?_⟩;rw [all_map];exact q H9 s9
def yd (K:a0)(C:Addr)(b:Bool):Sp:=λvs H Q _=>∃(H0:Hp)(a e d bg p:Addr)(kE:List (aM×V))(aQ:List (Str×Nat))(ps:List (Str×Addr))(a9:List Be) (zs qQ:List Str)(ah:Str),vs=[.ref a,.ref p,.str ah]/\nP K C H0 H a e d bg kE aQ ps a9/\Ex K b H p (zs.map V.str)/\zs.length<=10/\a9.length<=63/\(∀x∈aX a9,x.2∈qQ)/\(∀z∈zs,z∈qQ)/\qQ.length<=40 /\
 ∀(l:Addr) (out:List Str)(H':Hp),H l=none->aE H H'->H' l=some (.lst (out.map V.str))->PyProof.Rows.sortedS out=true->out.Nodup->(∀w,w∈out↔Ks (ps.map (·.1)) a9 (xC kE) zs w\/(w=ah/\zs.all (xC kE)=true))->out.length<=100->Q (.ref l) H'
def yk:aN ["self","parts","ahead","words"] ["self","parts","ahead"] (aA wI):=je rfl rfl rfl rfl nofun
def u_ (b:Bool){C fF fA:Addr}{Sf fdA:FuncData}(F:iG K "words_of_parts" "BeginTable.words_of_parts" wI f fd)(T:Txt mg)(R7:mg "sorted"=none)(B:BC K C)(FF:bR P w K mg base fK 2 fF Sf ["self","parts"] (BY K C b))(MF:Meth K C "first_words" fF)(BF:Binds K Sf ["self","parts"] [])
  (FA:bR P w K mg base fK 2 fA fdA ["self","parts"] (z9 K C b))(MA:Meth K C "all_empty" fA)(BA:Binds K fdA ["self","parts"] []):bR P w K mg base fK 3 f fd ["self","parts","ahead"] (yd K C b):=by
 refine F.ok yk (λvs H Q E h=>?_) (λeJ A outer s H vs Q E hr h=>?_)
 .obtain⟨H0,a,e,d,bg,p,kE,aQ,ps,a9,zs,qQ,ah,rfl,_⟩:=h;rfl
 obtain⟨H0,a,e,d,bg,p,kE,aQ,ps,a9,zs,qQ,ah,rfl,S,hp,hz,JQ,O3,jq,Lj,q⟩:=h;have hu:=ff hr;refine⟨_,ai (aC (i:=3) yk.nd rfl (a_ rfl) (lV (pv 0) B.cls MF FF hr BF .nil mq (ab (pv 1) aj)))
  (ai (e_ (cy (gX (lV (pv 0) B.cls MA FA hr BA .nil mq (ab (pv 1) aj))) (ao (gB hu (pv 3) (pv 2) gq rfl)) aZ))
  (ao (bC (aR (Bj rfl) rfl R7 PyProof.Rows.boot_sorted (ab (pv 3) aj))))),?_⟩
 obtain⟨dx,fs,ea,f1,f2,f3,f4,f5⟩:=S.ia;refine⟨_,rfl,a,dx,fs,rfl,ea,f5.2.1,_,rfl,H0,a,e,d,bg,p,kE,aQ,ps,a9,zs,rfl,S,hp,hz,JQ,λW kvs ks H1 fW s1 eW hk nd rj lk=>?_⟩;have S1:=S.same s1;obtain⟨dx1,Pg,Ss,_,_,_,_,f51⟩:=S1.ia;have tx:∀w,Ks (ps.map (·.1)) a9 (xC kE) zs w->w∈qQ:=λw ⟨j,z,h1,_,h3⟩=>by
  unfold i7 at h3;by_cases c:z∈ps.map (·.1)
  .rw [aw c] at h3;exact O3 (z,w) (ny.mp h3)
  rw [ax c] at h3;rw [cg.mp h3];exact jq z (cA h1)
 refine⟨λσ H2=>∃(kvs:List (aM×V)) (ks:List Str),σ=[aF a,aF p,some (.str ah),aF W]/\aE H H2/\H2 W=some (.dK kvs)/\kvs.map (·.1)=ks.map Sum.inr/\ks.Nodup/\∀w,w∈ks↔Ks (ps.map (·.1)) a9 (xC kE) zs w\/(w=ah/\zs.all (xC kE)=true),?_,?_⟩
 .refine⟨_,rfl,a,dx1,Pg,rfl,Ss,f51.2.2.1,_,rfl,H0,a,e,d,bg,p,kE,aQ,ps,a9,zs,rfl,S1,(Ex.same s1 hp),hz,λH2 s2=>⟨_,rfl,?_⟩⟩;have ll:kvs.length=ks.length:=by have:=congrArg List.length hk;rw [ar,ar] at this;exact this
  refine cx (λc=>?_) (λc=>?_)
  .refine⟨_,rfl,_,rfl,W,_,rfl,lK.k (k:=Sum.inr ah) (s2 _ _ eW) (bq ∅),?_⟩;refine⟨_,gG ks ah,rfl,λb o hb=>?_,ae,ir hk ah,oS ah nd,λw=>?_⟩
   .rw [ak (λz=>by rw [z,fW] at hb;cases hb)];exact s2 _ _ (s1 b o hb)
   rw [i5,rj];exact⟨λh=>h.imp id λz=>⟨z,c⟩,λh=>h.imp id λz=>z.1⟩
  refine⟨kvs,ks,rfl,s1.trans s2,s2 _ _ eW,hk,nd,λw=>?_⟩;rw [rj];exact⟨.inl,λh=>h.elim id λz=>absurd z.2 c⟩
 rintro σ H2 ⟨fg,xm,rfl,s2,eW2,A0,vc,yO⟩;have l64:=gE xm (ah::qQ) vc λz hz=>((yO z).mp hz).elim (λh=>cu _ (tx z h)) λh=>by rw [h.1];exact bQ
 rw [dG] at l64;refine⟨_,rfl,W,fg,xm,rfl,eW2,A0,∅,λl out hl pm so=>?_⟩;refine q l out _ (s2.free hl) (s2.trans (af hl _)) ae so ?_ (λw=>?_) (by rw [pm.length_eq];omega)
 .exact(pm.nodup_iff).mpr vc
 rw [pm.mem_iff,yO]
def z8 (K:a0)(Cg C:Addr)(b:Bool):Sp:=λvs H Q _=>∃(H0 Hg:Hp)(g bt e d bg p:Addr)(rs ss:List Addr)(kE:List (aM×V))(aQ:List (Str×Nat))(ps:List (Str×Addr))(a9:List Be) (zs qQ:List Str)(ah:Str),vs=[.ref g,.ref p,.str ah]/\U1 Hg H Cg g rs ss bt/\nP K C H0 H bt e d bg kE aQ ps a9/\Ex K b H p (zs.map V.str)/\zs.length<=10/\a9.length<=63/\(∀x∈aX a9,x.2∈qQ)/\(∀z∈zs,z∈qQ)/\qQ.length<=40 /\
 ∀(l:Addr) (out:List Str)(H':Hp),H l=none->aE H H'->H' l=some (.lst (out.map V.str))->PyProof.Rows.sortedS out=true->out.Nodup->(∀w,w∈out↔Ks (ps.map (·.1)) a9 (xC kE) zs w\/(w=ah/\zs.all (xC kE)=true))->out.length<=100->Q (.ref l) H'
def Ms:aN ["grammar","parts","ahead"] ["grammar","parts","ahead"] (aA Fo):=je rfl rfl rfl rfl nofun
def Cc (b:Bool){Cg C fP:Addr}{fdP:FuncData}(F:iG K "begin_words" "begin_words" Fo f fd)(T:Txt mg)(G:GC K Cg)(B:BC K C)(FP:bR P w K mg base fK 3 fP fdP ["self","parts","ahead"] (yd K C b))(MP:Meth K C "words_of_parts" fP)(BP:Binds K fdP ["self","parts","ahead"] []):bR P w K mg base fK 4 f fd ["grammar","parts","ahead"] (z8 K Cg C b):=by
 refine F.ok Ms (λvs H Q E h=>?_) (λeJ A outer s H vs Q E hr h=>?_)
 .obtain⟨H0,Hg,g,bt,e,d,bg,p,rs,ss,kE,aQ,ps,a9,zs,qQ,ah,rfl,_⟩:=h;rfl
 obtain⟨H0,Hg,g,bt,e,d,bg,p,rs,ss,kE,aQ,ps,a9,zs,qQ,ah,rfl,⟨gx,fs,R2,S2,eg,l1,l2,l3,l4,_⟩,S,hp,hz,JQ,O3,jq,Lj,q⟩:=h;refine⟨_,ao (bC (lV (dU (pv 0) rfl) B.cls MP FP hr BP .nil mq (ab (pv 1) (ab (pv 2) aj)))),?_⟩;obtain⟨dx,Ls,ea,_,_,_,_,f5⟩:=S.ia;exact⟨_,rfl,g,Cg,gx,fs,_,rfl,eg,G.cls,G.a3,l3,bt,dx,Ls,rfl,ea,f5.2.2.2,_,rfl,_,rfl,H0,bt,e,d,bg,p,kE,aQ,ps,a9,zs,qQ,ah,rfl,S,hp,hz,JQ,O3,jq,Lj,q⟩
end
end ig
namespace L2
open PySem
def Ke (xs:List V):ie xs none (some (-1))=xs.take (xs.length - 1):=by
 unfold ie;have h:HT.fh xs.length xs.length (some (-1))=xs.length - 1:=by
  unfold HT.fh;show (if (-1:Int) < 0 then ((-1:Int)+(xs.length:Int)).toNat else min (-1:Int).toNat xs.length)=_;rw [aw nofun];omega
 rw [h];rfl
end L2
namespace ig
open PySem L2 M11
abbrev My:Stmt:=top 53
def CK (aa:List au)(aX:List (Str×Str))(z:Str):List Str:=if z∈hm aa then jU aX z else [z]
def IK {aa:List au}{aX:List (Str×Str)}{z:Str}(h:(jU aX z).length<=10):(CK aa aX z).length<=10:=by
 unfold CK
 split
 .exact h
 show 1<=10;decide
section
def KD (K:a0):Sp:=λvs H Q _=>∃(R L p:Addr)(rs us:List Addr)(aa:List au)(aX:List (Str×Str)) (zs:List Str)(ah:Str),vs=[.ref R,.ref L,.ref p,.str ah]/\aI K H R (rs.map V.ref)/\bT K H rs aa/\Small aa/\aI K H L (us.map V.ref)/\Paired (Kn K H) us aX/\aX.length<=63/\(∀z,(jU aX z).length<=10)/\aT K H p (zs.map V.str)/\zs.length<=6 /\
 ∀(l:Addr) (out:List Str)(H':Hp),H l=none->aE H H'->H' l=some (.lst (out.map V.str))->PyProof.Rows.sortedS out=true->out.Nodup->(∀w,w∈out↔(∃j z,zs[j]?=some z/\(∀x∈zs.take j,x∈bV false aa)/\w∈CK aa aX z)\/(w=ah/\∀x∈zs,x∈bV false aa))->Q (.ref l) H'
def uY:aN ["_law_rules","_law_pairs","_law_parts","_law_ahead","_law_heads","_law_empty","_law_found","_law_part"] ["_law_rules","_law_pairs","_law_parts","_law_ahead"] (aA My):=je rfl rfl rfl rfl nofun
def zf {H:Hp}{R D:Addr}{rs:List Addr}{aa:List au}{σ:St}{Qp:Hp->Prop}(hR:aI K H R (rs.map V.ref))(cY:bT K H rs aa)(bM:aa.length<=1000)(hD:H D=none)
  (q:∀H2,aE H H2->H2 D=some (.lst ((hm aa).map V.str))->Qp H2) :
  ∃W:Nat->Nat->List V->St->Hp->Prop,(∃m,W 0 m [] (dN ["_law_head","_law_some"] [] σ) (upd H D (.lst []))) /\
 ∀i m ys σ' H,W i m ys σ' H->((jN K R).stop i H/\Qp H)\/((jN K R).go i H/\∃m',m' < m/\∀x H',(jN K R).mT i H x H'->yT K 2 (iX (di 0) (iX (di 1) A5)) x σ' H' λσ2 H2=>hV σ2 H2 λb H3 =>
  if b=true then gO 0 σ2 H3 λy H4=>H4 D=some (.lst ys)/\ys.length < sizeLine/\W (i+1) m' (ys++[y]) σ2 (upd H4 D (.lst (ys++[y]))) else W (i+1) m' ys σ2 H3):=iZ (σ:=σ) hR cY bM hD q
def M9 (F:iG K "_law_due" "_law_due" My f fd)(T:Txt mg)(R7:mg "sorted"=none)(hSe:mg "set"=none)(GE:aG P w K mg base 1 "_law_ended" ["_law_rules","_law_words_here"] (qT K)):bR P w K mg base fK 2 f fd ["_law_rules","_law_pairs","_law_parts","_law_ahead"] (KD K):=by
 refine F.ok uY (λvs H Q E h=>?_) (λeJ A outer s H vs Q E hr h=>?_)
 .obtain⟨R,L,p,rs,us,aa,aX,zs,ah,rfl,_⟩:=h;rfl
 obtain⟨R,L,p,rs,us,aa,aX,zs,ah,rfl,hR,cY,qJ,hL,Rq,aaj,Ny,hp,hz6,q⟩:=h;have NA:=qJ.most;refine⟨_,ai (iC (iy:=4) ["_law_head","_law_some"] [] uY.nd rfl rfl rfl (aP (pv 0)) (aS rfl rfl) nofun rfl nofun
   (λ_ _ _ _ _=>dq (n:=2) K rfl (az (aq (i:=0) (show (["_law_head","_law_some"]:List Str).Nodup by decide +kernel) rfl (a_ rfl)) (az (aq (i:=1) (show (["_law_head","_law_some"]:List Str).Nodup by decide +kernel) rfl (a_ rfl)) bz))) (λ_ _ _ _ _=>bF) (λ_ _ _ _ _=>pv 0))
  (ai (aC (i:=5) uY.nd rfl (a_ rfl) (bK GE hr rfl (ab (pv 0) (ab gq aj))))
  (ai (aC (i:=6) uY.nd rfl (a_ rfl) (bJ aj))
  (ai (bD b8 rfl (d7 (pv 2)) (aq (i:=7) uY.nd rfl (Or.inr rfl))
   (ai (cv (fY fU fV fX bA (pv 6) (ab (pv 7) aj)))
   (ai (e_ (cy (bu jC (pv 7) (pv 4) rfl) (ao (aC (i:=6) uY.nd rfl (a_ rfl) (aL iV (gZ qU (pv 6) jb (ij (u4 pJ av)))
    (aV ["_law_name","_law_word"] [(7,"_law_part")] rfl (aP (pv 1)) (aS rfl rfl) nofun rfl nofun
     (λ_ _ _ _ _=>dq (n:=2) K rfl (az (aq (i:=0) (show (["_law_name","_law_word","_law_part"]:List Str).Nodup by decide +kernel) rfl (a_ rfl)) (az (aq (i:=1) (show (["_law_name","_law_word","_law_part"]:List Str).Nodup by decide +kernel) rfl (a_ rfl)) bz)))
     (λ_ _ _ _ _=>gC (bu jc (pv 0) (pv 2) (cM _))) (λ_ _ _ _ _=>pv 1))))) aZ))
   (ao (cy (bu iD (pv 7) (pv 5) rfl) (ao (bC (oB rfl rfl R7 rfl hSe (pv 6)))) aZ)))))
  (ao (bC (oB rfl rfl R7 rfl hSe (aL iV (pv 6) (bJ (ab (pv 3) aj))))))))),?_⟩
 have QX:=bI Rq;refine⟨_,rfl,R,rfl,⟨_,hR⟩,λDh Xv=>zf hR cY ∅ Xv λH1 s1 UO=>?_⟩;refine goN ?_;refine⟨_,rfl,R,rs,aa,false,rfl,s1.seq hR,cY.same s1,qJ,λDe H2 hDe s2 e2 l2=>?_⟩;refine⟨uo,λF0 Pb=>?_⟩;have k3:=af Pb (.lst []);have e3:upd H2 F0 (.lst []) F0=some (.lst []):=ae;have fF0:H F0=none:=(s1.trans s2).free Pb;have nDF:Dh≠F0:=λz=>by rw [<-z,s2 _ _ UO] at Pb;cases Pb
 have nEF:De≠F0:=λz=>by rw [<-z,e2] at Pb;cases Pb
 generalize upd H2 F0 (.lst [])=H3 at k3 e3;have s3:=(s1.trans s2).trans k3;have J0:=k3 _ _ (s2 _ _ UO);have Sx:=k3 _ _ e2;have fin:∀(fs:List Str)(l:Addr) (qF:List Str)(Hx:Hp),aE H Hx->Hx l=none->qF.Perm (y_ fs)->PyProof.Rows.sortedS qF=true->(∀w,w∈fs↔(∃j z,zs[j]?=some z/\(∀x∈zs.take j,x∈bV false aa)/\w∈CK aa aX z)\/(w=ah/\∀x∈zs,x∈bV false aa))->Q (.ref l) (upd Hx l (.lst (qF.map V.str))):=λfs l qF Hx sx hl pm so rj=>by
  refine q l qF _ (sx.free hl) (sx.trans (af hl _)) ae so (pm.nodup_iff.mpr (J_ fs)) λw=>?_;rw [pm.mem_iff,Hl,rj]
 refine⟨_,rfl,p,rfl,⟨_,s3.tup hp⟩,?_⟩;refine xy (xs:=zs.map V.str) (λi σ H6=>∃(Fd:Addr) (fs:List Str)(y7:Option V),σ=[aF R,aF L,aF p,some (.str ah),aF Dh,aF De,aF Fd,y7]/\aE H H6/\H6 Dh=some (.lst ((hm aa).map V.str))/\H6 De=some (.lst ((bV false aa).map V.str))/\H6 Fd=some (.lst (fs.map V.str))/\H Fd=none/\Dh≠Fd/\De≠Fd/\fs.length<=10 * i/\(∀x∈zs.take i,x∈bV false aa)/\∀w,w∈fs↔∃j z,zs[j]?=some z/\j < i/\w∈CK aa aX z)
  ⟨F0,[],none,rfl,s3,J0,Sx,e3,fF0,nDF,nEF,fj _,λ_ h=>(by simp at h),λw=>⟨λh=>(by cases h),λ⟨j,z,_,h,_⟩=>absurd h (me _)⟩⟩ ?_ ?_ ?_
 .rintro i σ H6 _ ⟨Fd,fs,y7,rfl,s6,_⟩;exact s6.tup hp
 .rintro i x σ H6 ex ⟨Fd,fs,y7,rfl,s6,eD,eE,eF,fF,nD,nE,lf,Dx,rj⟩;rw [bf] at ex;obtain⟨z,ez,rfl⟩:=b_.mp ex;have li:=(bh.mp ez).1;have lw:=IK (aa:=aa) (Ny z);refine goN ?_;refine⟨_,rfl,.inl ⟨rfl,_,aI.of eF⟩,_,rfl,Fd,_,_,rfl,rfl,eF,bq (by rw [ar];omega),?_⟩;have s7:aE H (upd H6 Fd (.lst (fs.map V.str++[V.str z]))):=λb o hb=>by rw [ak (λz=>by rw [z,fF] at hb;cases hb)];exact s6 b o hb
  have UN:upd H6 Fd (.lst (fs.map V.str++[V.str z])) Dh=some (.lst ((hm aa).map V.str)):=by rw [ak nD];exact eD
  have Yd:upd H6 Fd (.lst (fs.map V.str++[V.str z])) De=some (.lst ((bV false aa).map V.str)):=by rw [ak nE];exact eE
  have Yc:upd H6 Fd (.lst (fs.map V.str++[V.str z])) Fd=some (.lst ((fs++[z]).map V.str)):=by rw [ae,br];rfl
  generalize upd H6 Fd (.lst (fs.map V.str++[V.str z]))=H7 at s7 UN Yd Yc;have QQ:∀gs:List Str,(∀w,w∈gs↔w∈fs\/w∈CK aa aX z)->∀w,w∈gs↔∃j z,zs[j]?=some z/\j < i+1/\w∈CK aa aX z:=λgs h w=>by
   rw [h,rj];constructor
   .rintro(⟨j,z2,h1,h2,h3⟩ | h)
    .exact⟨j,z2,h1,∅,h3⟩
    exact⟨i,z,ez,i9 _,h⟩
   rintro⟨j,z2,h1,h2,h3⟩;by_cases c:j < i
   .exact .inl ⟨j,z2,h1,c,h3⟩
   have:j=i:=by omega
   subst this;rw [ez] at h1;cases h1;exact .inr h3
  refine⟨λσ H8=>∃(Fd:Addr) (gs:List Str),σ=[aF R,aF L,aF p,some (.str ah),aF Dh,aF De,aF Fd,some (.str z)]/\aE H H8/\H8 Dh=some (.lst ((hm aa).map V.str))/\H8 De=some (.lst ((bV false aa).map V.str))/\H8 Fd=some (.lst (gs.map V.str))/\H Fd=none/\Dh≠Fd/\De≠Fd/\gs.length<=10 * (i+1)/\∀w,w∈gs↔w∈fs\/w∈CK aa aX z,?_,?_⟩
  .refine⟨_,rfl,_,rfl,Dh,_,rfl,.inl (aI.of UN),rfl,cf _,_,rfl,?_⟩;rw [ax dC,dI];refine cx (λcc=>?_) (λcc=>?_)
   .have hzh:z∈hm aa:=cI cc;refine⟨_,rfl,1,rfl,_,rfl,Fd,_,rfl,aI.of Yc,λFc hFc=>?_⟩;have ec:ie ((fs++[z]).map V.str) none (some (-1))=fs.map V.str:=by
     rw [Ke,ar,bB,fS,Nat.add_sub_cancel,br,qp (by rw [ar];exact aK _),uL (by rw [ar];exact aK _)]
    rw [ec];have kA:=af hFc (.lst (fs.map V.str));have eA:upd H7 Fc (.lst (fs.map V.str)) Fc=some (.lst (fs.map V.str)):=ae;generalize upd H7 Fc (.lst (fs.map V.str))=HA at kA eA;have sA:=s7.trans kA;have WG:Paired (Kn K HA) us aX:=Paired.dY Rq λ_ _ y=>sA.tup y;refine⟨_,rfl,L,rfl,⟨_,sA.seq hL⟩,λDB hDB=>cq (xs:=us.map V.ref) (λm ys σ2 HC=>ys=(((aX.take m).filter λq=>decide (q.1=z)).map λq=>V.str q.2)/\(∃y0 y1,σ2=[y0,y1,some (.str z)])/\aE HA HC/\HC DB=some (.lst ys)) ⟨rfl,⟨none,none,rfl⟩,af hDB _,ae⟩ (λm ys σ2 HC _ h=>?_) (λm x ys σ2 HC ex h=>?_) (λys σ2 HC h=>?_)⟩
    .obtain⟨_,_,sm,_⟩:=h;exact sm.seq (sA.seq hL)
    .obtain⟨rfl,⟨y0,y1,rfl⟩,sm,eB⟩:=h;rw [bf] at ex;obtain⟨u,eu,rfl⟩:=b_.mp ex;have lm:=(bh.mp eu).1;obtain⟨qq,Sm⟩:∃qq,aX[m]?=some qq:=⟨_,cT ∅⟩;obtain⟨u',Si,vu⟩:=Paired.at_ WG m qq Sm;rw [eu] at Si;cases Si;have PU:=kX (λq:Str×Str=>decide (q.1=z)) Sm;have lfq:((aX.take m).filter λq=>decide (q.1=z)).length<=64:=eK (kP _ _) (by rw [d0];omega);refine⟨u,_,rfl,sm.tup vu,rfl,_,_,rfl,_,_,rfl,rfl,?_⟩;refine⟨_,rfl,_,rfl,rfl,_,rfl,?_⟩;have dv:decide (V.str qq.1=V.str z)=decide (qq.1=z):=by
      by_cases c:qq.1=z
      .rw [c,cU rfl,cU rfl]
      rw [gJ c,gJ (λy=>c (by injection y))]
     rw [dv];refine cx (λc3=>?_) (λc3=>?_)
     .refine⟨_,rfl,eB,bq (by rw [ar];omega),?_,⟨_,_,rfl⟩,λb o hb=>?_,ae⟩
      .rw [PU,aw c3,br];rfl
      rw [ak (λy=>by rw [y,hDB] at hb;cases hb)];exact sm b o hb
     exact⟨by rw [PU,ax c3,gH],⟨_,_,rfl⟩,sm,eB⟩
    obtain⟨rfl,_,sm,eB⟩:=h;rw [ar,QX,cC] at eB;have eB2:HC DB=some (.lst ((jU aX z).map V.str)):=by rw [eB];unfold jU;rw [iz];rfl
    refine⟨Fc,DB,fs.map V.str,(jU aX z).map V.str,rfl,rfl,sm _ _ eA,eB2,fits (by rw [ar,ar];have:=Ny z;omega),λFn Lq=>?_⟩;have sC:=sA.trans sm;have kN:=af Lq (.lst (fs.map V.str++(jU aX z).map V.str));have eDC:=sm _ _ (kA _ _ UN);have eEC:=sm _ _ (kA _ _ Yd);refine⟨Fn,fs++jU aX z,rfl,sC.trans kN,kN _ _ eDC,kN _ _ eEC,by rw [ae,br],sC.free Lq,(λy=>by rw [<-y,eDC] at Lq;cases Lq),(λy=>by rw [<-y,eEC] at Lq;cases Lq),by rw [bB];have:=Ny z;omega,λw=>?_⟩;rw [bY];unfold CK;rw [aw hzh]
   have nz:z∉hm aa:=λy=>cc (cU y);refine⟨Fd,fs++[z],rfl,s7,UN,Yd,Yc,fF,nD,nE,by rw [bB,fS];omega,λw=>?_⟩;rw [bY];unfold CK;rw [ax nz]
  rintro σ H8 ⟨F8,gs,rfl,s8,eD8,eE8,eF8,fF8,nD8,nE8,lg,hg⟩;refine⟨_,rfl,_,rfl,De,_,rfl,.inl (aI.of eE8),rfl,cf _,_,rfl,?_⟩;rw [aw rfl,dI];refine cx (λcc=>?_) (λcc=>?_)
  .have ZF:z∉bV false aa:=by simpa using cc
   refine⟨_,rfl,F8,gs,rfl,aI.of eF8,∅,λl qF hl pm so=>fin gs l qF H8 s8 hl pm so λw=>?_⟩;rw [QQ gs hg];constructor
   .rintro⟨j,z2,h1,h2,h3⟩;exact .inl ⟨j,z2,h1,λx hx=>Dx x (by
     have:zs.take j=(zs.take i).take j:=by rw [List.take_take,Nat.min_eq_left ∅]
     rw [this] at hx;exact rE hx),h3⟩
   rintro(⟨j,z2,h1,h2,h3⟩ | ⟨_,h2⟩)
   .refine⟨j,z2,h1,?_,h3⟩;apply Nat.lt_of_not_le;intro hle;refine ZF (h2 z (cA (i:=i) ?_));rw [rT ∅];exact ez
   exact absurd (h2 z (cA ez)) ZF
  have hze:z∈bV false aa:=Classical.byContradiction λy=>cc (by rw [gJ y];rfl);refine⟨F8,gs,_,rfl,s8,eD8,eE8,eF8,fF8,nD8,nE8,lg,λx hx=>?_,QQ gs hg⟩;rw [cQ,ez] at hx;rcases bY.mp hx with h | h
  .exact Dx x h
  rw [cg.mp h];exact hze
 rintro σ H6 ⟨Fd,fs,y7,rfl,s6,eD,eE,eF,fF,nD,nE,lf,Dx,rj⟩;rw [ar] at lf Dx rj;rw [cC] at Dx;refine⟨_,rfl,_,rfl,EB,λLa Xu=>?_⟩;have kA:=af Xu (.lst [V.str ah]);have eA:upd H6 La (.lst [V.str ah]) La=some (.lst [V.str ah]):=ae;generalize upd H6 La (.lst [V.str ah])=HA at kA eA;refine⟨Fd,La,fs.map V.str,[V.str ah],rfl,rfl,kA _ _ eF,eA,fits (by rw [ar];show fs.length+1<=_;omega),λFn Lq=>?_⟩;have kN:=af Lq (.lst (fs.map V.str++[V.str ah]));have Sv:upd HA Fn (.lst (fs.map V.str++[V.str ah])) Fn=some (.lst ((fs++[ah]).map V.str)):=by rw [ae,br];rfl
 refine⟨Fn,fs++[ah],rfl,aI.of Sv,by rw [bB,fS];omega,λl qF hl pm so=>fin (fs++[ah]) l qF _ ((s6.trans kA).trans kN) hl pm so λw=>?_⟩;rw [bY,cg,rj];constructor
 .rintro(⟨j,z2,h1,h2,h3⟩ | h)
  .exact .inl ⟨j,z2,h1,λx hx=>Dx x (rE hx),h3⟩
  exact .inr ⟨h,Dx⟩
 rintro(⟨j,z2,h1,h2,h3⟩ | ⟨h,_⟩)
 .exact .inl ⟨j,z2,h1,(bh.mp h1).1,h3⟩
 exact .inr h
end
abbrev Mw:Stmt:=top 54
def DI {aa:List au}{x:Str}(hx:x∈bV false aa):Em aa x:=by
 have all:∀(n i:Nat)(h:Str),i < n->(bV false aa)[i]?=some h->Em aa h:=by
  intro n
  induction n with
  | zero=>intro i h l;omega
  | succ n ih =>
   intro i h l e;obtain⟨cR,a,b⟩:=(iY false aa).ord i h e;exact Em.mk (ru:=(h,cR)) a λp hp=>by
    rcases b p hp with q | q
    .obtain⟨j,lj,ej⟩:=n_ q;exact ih j p ∅ ej
    cases q.1
 obtain⟨i,e⟩:=fQ hx;exact all (i+1) i x ∅ e
def Cs {aa:List au}{aQ:List (Str×Nat)}(h:uj aa aQ)(c:qO aa aa.length aQ)(x:Str):x∈aQ.map (·.1)↔x∈bV false aa:=by
 constructor
 .exact λhx=>tR (Bf h x hx)
 intro hx;have e:=DI hx;clear hx
 induction e with
 | mk hr _ ih=>exact c _ (by rw [cC];exact hr) ih
def Lr {H0 H H':Hp}(k:Kp H H'){Cg g bt:Addr}{rs ss:List Addr}(h:U1 H0 H Cg g rs ss bt):U1 H0 H' Cg g rs ss bt:=by
 obtain⟨gx,fs,R2,S2,q1,q2,q3,q4,q5,q6,q7,q8,q9⟩:=h;exact⟨gx,fs,R2,S2,k _ _ q1 (λ_ z=>by cases z),q2,q3,q4,q5,k.lst q6,k.lst q7,q8,q9⟩
def Gr {H H':Hp}{L:Addr}{o:HO}(s:aE H H')(h:H L=none):Kp H (upd H' L o):=λb x hb _=>by
 rw [ak (λz=>by rw [z,h] at hb;cases hb)];exact s b x hb
structure YW (aa:List au):Prop where
 one:1<=aa.length
 most:aa.length<=32
 six:∀ru∈aa,ru.2.length<=6
 good:∃rk b,Good aa rk b
 oY:∀ns:List Str,(∀x∈ns,x∈hm aa)->∀aX:List (Str×Str),aX.Nodup->(∀x∈aX,hJ aa ns x.2 x.1)->aX.length<=63/\∀z,(jU aX z).length<=10
 txt:∃qQ:List Str,qQ.length<=40/\∀ru∈aa,ru.1∈qQ/\∀x∈ru.2,x∈qQ
def YW.small {aa:List au}(h:YW aa):Small aa:=⟨h.one,h.most,h.six⟩
def Yq (ns:List Int)(lo hi:Option Int):∃cs:List Int,ie (ns.map V.int) lo hi=cs.map V.int/\cs.length<=ns.length:=by
 refine⟨(ns.drop (HT.fh (ns.map V.int).length 0 lo)).take (HT.fh (ns.map V.int).length (ns.map V.int).length hi - HT.fh (ns.map V.int).length 0 lo),?_,?_⟩
 .unfold ie;rw [o8,List.map_drop]
 rw [d0,rM];omega
def Ad {aa:List au}{aQ:List (Str×Nat)}{a9:List Be}{I_:List (Str×Str)}{kE:List (aM×V)}{nms zs:List Str}{ah:Str}(emp:uj aa aQ)(lH:qO aa aa.length aQ)(Ht:uy aa (hd aa) (λz=>decide (z∈aQ.map (·.1))) a9)(zt:zE aa (hd aa) (λz=>decide (z∈aQ.map (·.1))) aa.length a9)
  (JM:nms=hd aa)(RL:∀z,(bj kE (Sum.inr z)).isSome=decide (z∈aQ.map (·.1)))(rj:∀x,x∈I_↔hJ aa (bV false aa) x.2 x.1)(w:Str) :
  (Ks nms a9 (xC kE) zs w\/(w=ah/\zs.all (xC kE)=true))↔((∃j z,zs[j]?=some z/\(∀x∈zs.take j,x∈bV false aa)/\w∈CK aa I_ z)\/(w=ah/\∀x∈zs,x∈bV false aa)):=by
 have Hi:=Cs emp lH;have bin:∀y,y∈aX a9↔y∈I_:=λy=>⟨λh=>(rj y).mpr ((vR Ht y h).congr λz hz=>(Hi z).mp hz),λh=>hJ.Z7 (DY zt) (((rj y).mp h).congr λz hz=>(Hi z).mpr hz)⟩;have eE:xC kE=λz=>decide (z∈bV false aa):=funext λz=>by
  show (bj kE (Sum.inr z)).isSome=_;rw [RL,ju,decide_eq_true_iff,decide_eq_true_iff,Hi]
 have ew:∀z,w∈i7 nms a9 z↔w∈CK aa I_ z:=λz=>by
  unfold i7 CK;by_cases c:z∈hm aa
  .rw [aw c,aw (by rw [JM];exact mx.mp c),ny,oC,bin]
  rw [ax c,ax (by rw [JM];exact λy=>c (mx.mpr y))]
 rw [eE];refine or_congr ?_ (and_congr Iff.rfl ?_)
 .unfold Ks;constructor
  .rintro⟨j,z,h1,h2,h3⟩;exact⟨j,z,h1,λx hx=>cI (((xw _ zs j).mp h2).2 x hx),(ew z).mp h3⟩
  rintro⟨j,z,h1,h2,h3⟩;exact⟨j,z,h1,(xw _ zs j).mpr ⟨(bh.mp h1).1,λx hx=>cU (h2 x hx)⟩,(ew z).mpr h3⟩
 rw [dP];exact⟨λh x hx=>cI (h x hx),λh x hx=>cU (h x hx)⟩
section
def BU (K:a0)(T1 T2 T3:Addr):Sp:=λvs H Q _=>∃(a:Addr)(ns:List Int),vs=[.ref a]/\aI K H a (ns.map V.int)/\ns.length<=63/\CF T1 T2 T3 H/\∀H',Q (.bl true) H'
def iS:aN ["_law_script","_law_rules","_law_grammar_here","_law_pairs","_law_some","_law_head","_law_parts","_law_cell","_law_ahead","_law_due_here","_law_handed","_law_found"] ["_law_script"] (aA Mw):=je rfl rfl rfl rfl nofun
def M8 {Cg C T1 T2 T3 fG:Addr}{fdG:FuncData}(F:iG K "law" "law" Mw f fd)(T:Txt mg)(R7:mg "sorted"=none)
  (GG:aG P w K mg base 8 "_law_grammar" ["_law_script","_law_at"] (EY K))(GCc:aG P w K mg base 8 "_law_cell_at" ["_law_script","_law_k"] (pN K))(GD:aG P w K mg base 8 "_law_deep" ["_law_script"] (E3 K))
  (GDi:aG P w K mg base 8 "_law_digits" ["_law_cell","_law_many","_law_some"] oj)(GDu:aG P w K mg base 8 "_law_due" ["_law_rules","_law_pairs","_law_parts","_law_ahead"] (KD K))(GB:aG P w K mg base 8 "_law_begins" ["_law_rules"] (yg K))
  (GBW:aG P w K mg base 8 "begin_words" ["grammar","parts","ahead"] (Qm (z8 K Cg C true) (z8 K Cg C false)))
  (G:GC K Cg)(MG:Mk K Cg fG)(FG:bR P w K mg base fK 7 fG fdG ["self","rules","strengths"] (BX K Cg C T1 T2 T3))(B1:Binds K fdG ["self","rules","strengths"] [.none])(mG:mg "Grammar"=some (.ref Cg)):bR P w K mg base fK 9 f fd ["_law_script"] (BU K T1 T2 T3):=by
 refine F.ok iS (λvs H Q E h=>?_) (λeJ A outer s H vs Q E hr h=>?_)
 .obtain⟨a,ns,rfl,_⟩:=h;rfl
 obtain⟨S,ns,rfl,hS,hl,hT,q⟩:=h;have hu:=ff hr;have hu0:=Nat.lt_of_succ_lt hu;refine⟨_,ai (aC (i:=1) iS.nd rfl (a_ rfl) (bK GG hr rfl (ab (pv 0) (ab av aj))))
  (ai (e_ (cy (bu jc (aL cS (aL cW (bK GCc hr rfl (ab (pv 0) (ab av aj))) av) av) av (cM _)) (ao (aC (i:=1) iS.nd rfl (a_ rfl) (bK GD hr rfl (ab (pv 0) aj)))) aZ))
  (ai (aC (i:=2) iS.nd rfl (a_ rfl) (wX (dvs:=[.gb]) MG FG hr rfl mG B1 (.cons rfl .nil) mq (ab (a7 g9 rfl T.lst g_ (ab (pv 1) aj)) aj)))
  (ai (aC (i:=3) iS.nd rfl (a_ rfl) (bK GB hr rfl (ab (pv 1) aj)))
  (ai (aC (i:=4) iS.nd rfl (a_ rfl) (bJ aj))
  (ai (bD b8 rfl (aP (pv 1)) (ft rfl (az (aq (i:=5) iS.nd rfl (a_ rfl)) (az (aq (i:=6) iS.nd rfl (a_ rfl)) bz)))
   (ao (aC (i:=4) iS.nd rfl (a_ rfl) (aL iV (aL iV (pv 4) (bJ (ab (pv 5) aj))) (a7 g9 rfl T.lst g_ (ab (pv 6) aj))))))
  (ai (bD b8 rfl (aP (aL iV (gZ qU (pv 0) (ij av) (ij av)) (bJ (ab av aj)))) (aq (i:=7) iS.nd rfl (a_ rfl))
   (ai (aC (i:=6) iS.nd rfl (a_ rfl) (bK GDi hr rfl (ab (aL cW (pv 7) av) (ab (aL cS (pv 7) av) (ab (pv 4) aj)))))
   (ai (aC (i:=8) iS.nd rfl (a_ rfl) (b9 cX (bJ (ab bw (ab bw (ab bw (ab bw aj))))) (aL cS (aL cW (pv 7) av) av) (λ_ _=>rfl)))
   (ai (aC (i:=9) iS.nd rfl (a_ rfl) (bK GDu hr rfl (ab (pv 1) (ab (pv 3) (ab (pv 6) (ab (pv 8) aj))))))
   (ao (bD b8 rfl (aP (bJ (ab (pv 6) (ab (a7 g9 rfl T.lst g_ (ab (pv 6) aj)) aj)))) (aq (i:=10) iS.nd rfl (a_ rfl))
    (ai (aC (i:=11) iS.nd rfl (a_ rfl) (bK GBW hr rfl (ab (pv 2) (ab (pv 10) (ab (pv 8) aj)))))
    (ai (cy (PW.pt (KR (Fz (gX (aR xI rfl T.isi PyProof.Rows.boot_isinstance (ab (pv 11) (ab (Ji (v:=.ty "list") rfl T.lst g_ rfl) aj))))) (Fy (bu (Az hu0) (pv 11) (pv 9) (cM _))))) (ao (bC gq)) aZ)
    (ao (cv (fY fU fV fX bA (pv 11) (ab bw aj))))))))))))
  (ao (bC gq)))))))),?_⟩
 refine⟨_,rfl,S,ns,0,rfl,hS,∅,λc R0 rs0 MK H1 hc f0 s1 eR0 Zu go=>?_⟩;refine⟨λσ H2=>∃(R:Addr)(rs:List Addr)(aa:List au),σ=[aF S,aF R,none,none,none,none,none,none,none,none,none,none]/\aE H H2/\H2 R=some (.lst (rs.map V.ref))/\bT K H2 rs aa/\YW aa,?_,?_⟩
 .refine⟨_,rfl,S,ns,0,rfl,s1.seq hS,∅,λc2 _=>?_⟩;refine⟨_,_,rfl,rfl,⟨nofun,nofun⟩,_,_,rfl,rfl,(by show (0:Int) < 16;decide),rfl,_,rfl,?_⟩;refine cx (λ_=>?_) (λ_=>?_)
  .refine⟨_,rfl,S,ns,rfl,s1.seq hS,∅,λR rs aa H2 fR s2 eR rl LH=>?_⟩;exact⟨R,rs,aa,rfl,s1.trans s2,eR,rl,⟨LH.one,by have:=LH.most;omega,λru h=>by have:=(LH.three ru h).2.1;omega,LH.good,λms hms aX nd b=>⟨LH.N7 hms aX nd b,LH.N6 hms aX nd b⟩,w_++wo,nofun,λru h=>⟨dH _ (LH.three ru h).1,(LH.three ru h).2.2⟩⟩⟩
  have g8:=go.most;obtain⟨nms,nk,i6⟩:=go.ins;have n5:=nk.JX;have gl:=j_ c;exact⟨R0,rs0,MK,rfl,s1,eR0,Zu,⟨go.one,∅,λru h=>(i6 ru h).2.1,go.good,λms _ aX nd b=>⟨go.N7 ms aX nd b,go.N6 ms aX nd b⟩,nms++gh c,by rw [bB];omega,λru h=>⟨dH _ (i6 ru h).1,(i6 ru h).2.2⟩⟩⟩
 rintro σ H2 ⟨R,rs,aa,rfl,s2,eR,rl,lw⟩;clear go Zu eR0 s1;obtain⟨rk,bb,gd⟩:=lw.good;obtain⟨qQ,QY,WI⟩:=lw.txt;have l1:=lw.one;have l32:=lw.most;have h8:∀ru∈aa,ru.2.length<=8:=λru h=>by have:=lw.six ru h;omega
 have Eo:aa≠[]:=λz=>by rw [z] at l1;cases l1
 refine⟨_,rfl,R,_,rfl,.inl (aI.of eR),λR3 hR3=>?_⟩;have k3:=af hR3 (.lst (rs.map V.ref));have X7:upd H2 R3 (.lst (rs.map V.ref)) R3=some (.lst (rs.map V.ref)):=ae;generalize upd H2 R3 (.lst (rs.map V.ref))=H3 at k3 X7;have t3:=hT.same (s2.trans k3);have Qv:=rl.same k3;have Su:=k3 _ _ eR;have hS3:=(s2.trans k3).seq hS;intro g x hg hx nx;refine⟨H3,g,x,R3,.gb,rs,[],aa,[],rk,bb,rfl,(af hx _).trans (af (by rw [ak nx.symm];exact hg) _),hg,ae,aI.of X7,Qv,∅,h8,Eo,.inl ⟨rfl,rfl,rfl⟩,by simp,λru h=>(by cases h),by simp,gd,t3,λbt H5 s5 t5 gv btv=>⟨rfl,?_⟩⟩;have Wo:=Kp.of3 s5 t3;have MO:=Wo.aa Qv;have UK:=Wo.lst Su;have hS5:=Wo.seq hS3;clear s5 t5 t3 Qv Su k3 X7 hS3;obtain⟨aQ,a9,bv⟩:=btv;obtain⟨eB,dB,Yz,kE,ps,BS,Ij,RL⟩:=bv.bs;have Hi:=Cs bv.emp bv.lH;have nsE:∀x∈aQ.map (·.1),x∈hm aa:=λx hx=>(iY false aa).sub x ((Hi x).mp hx);have bsd:=vR bv.Ht;have ZZ:a9.length<=63:=by have:=(lw.oY _ nsE (aX a9) bv.Ht.nd bsd).1;unfold aX at this;rw [ar] at this;exact this
 have Zb:∀x∈aX a9,x.2∈qQ:=λx hx=>by
  obtain⟨_,ru,qz,WD⟩:=(bsd x hx).text;exact(WI ru qz).2 _ WD
 refine⟨_,rfl,R,rs,aa,rfl,aI.of UK,MO,lw.small,λaX nd b=>(lw.oY _ (iY false aa).sub aX nd b).1,λLp us pr H6 fLp s6 eLp Zx ndp Z6=>?_⟩;obtain⟨We,lpW⟩:=lw.oY _ (iY false aa).sub pr ndp λy hy=>(Z6 y).mp hy;refine⟨uo,λM0 Xs=>?_⟩;have k7:=af Xs (.lst []);have e7:upd H6 M0 (.lst []) M0=some (.lst []):=ae;generalize upd H6 M0 (.lst [])=H7 at k7 e7;have Qu:=s6.trans k7;have ll:=bI MO;refine⟨_,rfl,R,rfl,⟨_,aI.of (Qu _ _ UK)⟩,?_⟩;refine bZ (xs:=rs.map V.ref) (λi σ H8=>∃(M:Addr) (ms:List Str)(y5 y6:Option V),σ=[aF S,aF R,aF g,aF Lp,aF M,y5,y6,none,none,none,none,none]/\aE H7 H8/\H8 M=some (.lst (ms.map V.str))/\ms.length<=10 * i/\(0 < i->0 < ms.length)/\∀z∈ms,z∈qQ)
  ⟨M0,[],none,none,rfl,aE.refl _,e7,fj _,λh=>absurd h (kJ _),λ_ h=>(by cases h)⟩ ?_ ?_ ?_
 .rintro i σ H8 _ ⟨M,ms,y5,y6,rfl,s8,_⟩;exact aI.of (s8 _ _ (Qu _ _ UK))
 .rintro i x σ H8 ex ⟨M,ms,y5,y6,rfl,s8,eM,lm,_,Xb⟩;have lix:=(bh.mp ex).1;rw [ar] at lix;rw [bf] at ex;obtain⟨r,er,rfl⟩:=b_.mp ex;obtain⟨ru,e1,p,v1,v2⟩:=MO.get er;have fZ:=cA e1;have h6r:=lw.six ru fZ;have OS:=Qu.trans s8;refine⟨r,_,rfl,OS.tup v1,rfl,_,_,rfl,_,_,rfl,rfl,?_⟩;refine⟨_,rfl,_,rfl,EB,λLa Xu=>?_⟩;have kA:=af Xu (.lst [V.str ru.1]);have eA:upd H8 La (.lst [V.str ru.1]) La=some (.lst [V.str ru.1]):=ae;generalize upd H8 La (.lst [V.str ru.1])=HA at kA eA;refine⟨M,La,ms.map V.str,[V.str ru.1],rfl,rfl,kA _ _ eM,eA,fits (by rw [ar];show ms.length+1<=_;omega),λLb hLb=>?_⟩;have kB:=af hLb (.lst (ms.map V.str++[V.str ru.1]));have eBb:upd HA Lb (.lst (ms.map V.str++[V.str ru.1])) Lb=some (.lst (ms.map V.str++[V.str ru.1])):=ae;generalize upd HA Lb (.lst (ms.map V.str++[V.str ru.1]))=HB at kB eBb;have Fp:=kA.trans kB;refine⟨_,rfl,p,_,rfl,.inr ((OS.trans Fp).tup v2),λLc Uv=>?_⟩;have kC:=af Uv (.lst (ru.2.map V.str));have eC:upd HB Lc (.lst (ru.2.map V.str)) Lc=some (.lst (ru.2.map V.str)):=ae;generalize upd HB Lc (.lst (ru.2.map V.str))=HC at kC eC;refine⟨Lb,Lc,ms.map V.str++[V.str ru.1],ru.2.map V.str,rfl,rfl,kC _ _ eBb,eC,fits (by rw [bB,ar,ar];show ms.length+1+_<=_;omega),λLd Uu=>?_⟩;refine⟨Ld,ms++[ru.1]++ru.2,_,_,rfl,((s8.trans Fp).trans kC).trans (af Uu _),by rw [ae,br,br];rfl,by rw [bB,bB,fS];omega,λ_=>by rw [bB,bB,fS];omega,λz hz=>?_⟩;rcases bY.mp hz with h | h
  .rcases bY.mp h with h | h
   .exact Xb z h
   rw [cg.mp h];exact(WI ru fZ).1
  exact(WI ru fZ).2 z h
 rintro σ H8 ⟨M,ms,y5,y6,rfl,s8,eM,lm,pm,Xb⟩;rw [ar,ll] at lm pm;have pm:=pm ∅;have OS:=Qu.trans s8;obtain⟨cs,ecs,lcs⟩:=Yq ns (some 12) (some 36);refine⟨_,rfl,_,rfl,_,rfl,S,_,rfl,OS.seq hS5,λLc Uv=>?_⟩;rw [ecs];have k9:=af Uv (.lst (cs.map V.int));have e9:upd H8 Lc (.lst (cs.map V.int)) Lc=some (.lst (cs.map V.int)):=ae;generalize upd H8 Lc (.lst (cs.map V.int))=H9 at k9 e9;refine⟨EB,λLd Uu=>?_⟩;have kA:=af Uu (.lst [V.int 0]);have eA:upd H9 Ld (.lst [V.int 0]) Ld=some (.lst [V.int 0]):=ae;generalize upd H9 Ld (.lst [V.int 0])=HA at kA eA;refine⟨Lc,Ld,cs.map V.int,[V.int 0],rfl,rfl,kA _ _ e9,eA,fits (by rw [ar];show cs.length+1<=_;omega),λLx hLx=>?_⟩;have ecx:cs.map V.int++[V.int 0]=(cs++[0]).map V.int:=by rw [br];rfl
 rw [ecx];have kB:=af hLx (.lst ((cs++[0]).map V.int));have eX:upd HA Lx (.lst ((cs++[0]).map V.int)) Lx=some (.lst ((cs++[0]).map V.int)):=ae;generalize upd HA Lx (.lst ((cs++[0]).map V.int))=HB at kB eX;have Fp:=(k9.trans kA).trans kB;have TM:=OS.trans Fp;have eMB:=Fp _ _ eM;have X9:=(k7.trans (s8.trans Fp)) _ _ eLp;have VN:Paired (Kn K HB) us pr:=Paired.dY Zx λ_ _ y=>(k7.trans (s8.trans Fp)).tup y;generalize cs++[0]=cs2 at eX;have gvB:=Lr (Kp.of TM) gv;have BSB:=BS.same TM;have eRB:=TM _ _ UK;have TR:=MO.same TM;clear OS s8 k9 kA kB e9 eA hLx Uu Uv eM eLp Zx Qu k7 e7 s6 hS5;refine⟨Lx,rfl,⟨_,aI.of eX⟩,?_⟩;refine bZ (xs:=cs2.map V.int) (λi σ HC=>∃(y5 y6 y7 y8 y9 qr IH:Option V),σ=[aF S,aF R,aF g,aF Lp,aF M,y5,y6,y7,y8,y9,qr,IH]/\Kp HB HC) ⟨_,_,_,_,_,_,_,rfl,Kp.of (aE.refl _)⟩ ?_ ?_ ?_
 .rintro i σ HC _ ⟨y5,y6,y7,y8,y9,qr,IH,rfl,kc⟩;exact kc.seq (aI.of eX)
 .rintro i x σ HC ex ⟨y5,y6,y7,y8,y9,qr,IH,rfl,kc⟩;rw [bf] at ex;obtain⟨cl,X3,rfl⟩:=b_.mp ex;obtain⟨mm,emm,lmm⟩:∃mm:Nat,cl % 6=(mm:Int)/\mm<=5:=⟨(cl % 6).toNat,∅,∅⟩;refine goN ?_;refine⟨_,rfl,_,_,rfl,rfl,⟨nofun,nofun⟩,_,rfl,_,_,rfl,rfl,(by show (0:Int) < 6;decide),_,rfl,?_⟩;refine⟨cl / 24,mm,M,ms,(by show [V.int (cl / 24),V.int (cl % 6),V.ref M]=_;rw [emm]),∅,kc.lst eMB,pm,∅,λp zs HD sD eP lzs hzs=>?_⟩;have kcD:=kc.trans (Kp.of sD);have htz:∀z∈zs,z∈qQ:=λz hz=>Xb z (hzs z hz);refine⟨Y6,λL4 NT=>?_⟩;have Wt:=af NT (.lst [V.str "",V.str "a",V.str "c",V.str "zz"]);have JZ:upd HD L4 (.lst [V.str "",V.str "a",V.str "c",V.str "zz"]) L4=some (.lst (([("":Str),"a","c","zz"]:List Str).map V.str)):=ae;generalize upd HD L4 (.lst [V.str "",V.str "a",V.str "c",V.str "zz"])=HE at Wt JZ;obtain⟨ah,_,hah⟩:=US (zs:=([("":Str),"a","c","zz"]:List Str)) (m:=4) rfl nofun (cl / 6);refine⟨_,rfl,_,_,rfl,rfl,⟨nofun,nofun⟩,_,_,rfl,rfl,(by show (0:Int) < 4;decide),L4,_,_,_,rfl,rfl,aI.of JZ,hah,?_⟩;have Rf:=kcD.trans (Kp.of Wt);have ePE:=Wt _ _ eP;refine⟨_,rfl,_,rfl,_,rfl,_,rfl,R,Lp,p,rs,us,aa,pr,zs,ah,rfl,Rf.seq (aI.of eRB),Rf.aa TR,lw.small,Rf.seq (aI.of X9),Paired.dY VN λ_ _ y=>Rf.tup y,We,lpW,aT.of ePE,∅,λD out HF fD sF eD so ndo Xa=>?_⟩;have kcF:=Rf.trans (Kp.of sF);have ePF:=sF _ _ ePE;refine⟨_,rfl,_,rfl,p,_,rfl,.inr (aT.of ePF),λp2 tD=>?_⟩;have kG:=af tD (.lst (zs.map V.str));have eP2:upd HF p2 (.lst (zs.map V.str)) p2=some (.lst (zs.map V.str)):=ae;generalize upd HF p2 (.lst (zs.map V.str))=HG at kG eP2;refine⟨mj,λL2 Uw=>?_⟩;have kH:=af Uw (.lst [V.ref p,V.ref p2]);have Yb:upd HG L2 (.lst [V.ref p,V.ref p2]) L2=some (.lst [V.ref p,V.ref p2]):=ae;generalize upd HG L2 (.lst [V.ref p,V.ref p2])=HH at kH Yb;have VB:=kG.trans kH;have ePH:=VB _ _ ePF;have X8:=kH _ _ eP2;have eDH:=VB _ _ eD;have Z3:=kcF.trans (Kp.of VB);refine⟨L2,rfl,⟨_,aI.of Yb⟩,?_⟩;refine bZ (xs:=[V.ref p,V.ref p2]) (λk σ HI=>∃(qr IH:Option V),σ=[aF S,aF R,aF g,aF Lp,aF M,y5,aF p,some (.int cl),some (.str ah),aF D,qr,IH]/\Kp HH HI) ⟨_,_,rfl,Kp.of (aE.refl _)⟩ ?_ ?_ ?_
  .rintro k σ HI _ ⟨qr,IH,rfl,ki⟩;exact ki.seq (aI.of Yb)
  .rintro k x σ HI ex ⟨qr,IH,rfl,ki⟩;have Rc:=Z3.trans ki;have gvI:=Lr Rc gvB;have BSI:nP K C (λ_=>none) HI bt eB dB Yz kE aQ ps a9:=Bl BSB (λ_ _ z=>Rc _ _ z (λ_ y=>by cases y)) (λ_ _ z=>Rc.lst z) (λ_ _ z=>Rc.tup z) λ_ _ z=>Rc _ _ z (λ_ y=>by cases y);have fin:∀(l:Addr) (sR:List Str)(H':Hp),HI l=none->aE HI H'->H' l=some (.lst (sR.map V.str))->PyProof.Rows.sortedS sR=true->sR.Nodup->(∀w,w∈sR↔Ks (ps.map (·.1)) a9 (xC kE) zs w\/(w=ah/\zs.all (xC kE)=true))->sR.length<=100->sR=out:=λl sR H' _ _ _ Qo vc yO _=>by
    refine su Qo so ((List.perm_ext_iff_of_nodup vc ndo).mpr λy=>?_);rw [yO,Xa];exact Ad bv.emp bv.lH bv.Ht bv.zt Ij RL Z6 y
   have eDI:HI D=some (.lst (out.map V.str)):=ki.lst eDH;obtain⟨O_,hx2,uv⟩:∃O_:Addr,x=.ref O_/\((aT K HI O_ (zs.map V.str))\/aI K HI O_ (zs.map V.str)):=by
    match k,ex with
    | 0,ex=>cases ex;exact⟨p,rfl,.inl (ki.tup (aT.of ePH))⟩
    | 1,ex=>cases ex;exact⟨p2,rfl,.inr (ki.seq (aI.of X8))⟩
    | _+2,ex=>cases ex
   subst hx2;refine goN ?_;refine⟨_,rfl,_,rfl,_,rfl,?_⟩;rcases uv with uv | uv
   .refine .inl ⟨(λ_=>none),H3,g,bt,eB,dB,Yz,O_,rs,[],kE,aQ,ps,a9,zs,qQ,ah,rfl,gvI,BSI,uv,∅,ZZ,Zb,htz,QY,λl sR HJ fl sJ el Qo vc yO Nn=>?_⟩;have eo:=fin l sR HJ fl sJ el Qo vc yO Nn;subst eo;refine⟨_,rfl,l,_,"list",true,rfl,aI.of el,yL,true,rfl,?_⟩;refine l7 ?_;refine⟨_,rfl,_,rfl,l,D,_,rfl,rfl,aI.of el,aI.of (sJ _ _ eDI),λv hv=>?_,_,rfl,?_⟩
    .obtain⟨z,_,rfl⟩:=bN.mp hv;exact .inl rfl
    refine l7 ?_;refine⟨_,rfl,.inl ⟨rfl,_,aI.of el⟩,l,_,_,rfl,rfl,el,bq (by rw [ar];omega),?_⟩;exact⟨_,_,rfl,ki.trans (Gr sJ fl)⟩
   refine .inr ⟨(λ_=>none),H3,g,bt,eB,dB,Yz,O_,rs,[],kE,aQ,ps,a9,zs,qQ,ah,rfl,gvI,BSI,uv,∅,ZZ,Zb,htz,QY,λl sR HJ fl sJ el Qo vc yO Nn=>?_⟩;have eo:=fin l sR HJ fl sJ el Qo vc yO Nn;subst eo;refine⟨_,rfl,l,_,"list",true,rfl,aI.of el,yL,true,rfl,?_⟩;refine l7 ?_;refine⟨_,rfl,_,rfl,l,D,_,rfl,rfl,aI.of el,aI.of (sJ _ _ eDI),λv hv=>?_,_,rfl,?_⟩
   .obtain⟨z,_,rfl⟩:=bN.mp hv;exact .inl rfl
   refine l7 ?_;refine⟨_,rfl,.inl ⟨rfl,_,aI.of el⟩,l,_,_,rfl,rfl,el,bq (by rw [ar];omega),?_⟩;exact⟨_,_,rfl,ki.trans (Gr sJ fl)⟩
  rintro σ HI ⟨qr,IH,rfl,ki⟩;exact⟨_,_,_,_,_,_,_,rfl,Z3.trans ki⟩
 rintro σ HC ⟨y5,y6,y7,y8,y9,qr,IH,rfl,kc⟩;exact q HC
end
end ig
namespace L2
open PySem
def xZ {C:List Value->Prop}(h:∀a,C [a]):∀us:List Value,us.length=1->C us
 | [a],_=>h a
def r9 {C:List Value->Prop}(h:∀a b,C [a,b]):∀us:List Value,us.length=2->C us
 | [a,b],_=>h a b
def xY {C:List Value->Prop}(h:∀a b c,C [a,b,c]):∀us:List Value,us.length=3->C us
 | [a,b,c],_=>h a b c
def Y_ {C:List Value->Prop}(h:∀a b c d,C [a,b,c,d]):∀us:List Value,us.length=4->C us
 | [a,b,c,d],_=>h a b c d
def us5 {C:List Value->Prop}(h:∀a b c d e,C [a,b,c,d,e]):∀us:List Value,us.length=5->C us
 | [a,b,c,d,e],_=>h a b c d e
def fJ (K:a0)(x:Str)(st:Stmt):Prop:=∃(g:Addr)(oc:Value)(od an:Option Addr)(sl:Array (Option Value))(kV dc pm cd ct:Value),PySem.W.nsIn K mainGlobals x=some (some (.ref g)) /\
 K.lookup g=some ⟨oc,od,.func (PySem.W.fnOf x x (du st) (cE st) (aA st) .none kV dc pm an cd ct),sl⟩/\PySem.W.codeIn K cd x=true/\PySem.W.keepIn K (.ref g)=true
def fJ.get {K:a0}{h:Heap}{mg:Str->Option Value}{x:Str}{st:Stmt}(X:K.In h)(G:h.Ns mainGlobals mg)(H:fJ K x st):∃g gd,iG K x x st g gd/\mg x=some (.ref g):=by
 obtain⟨g,oc,od,an,sl,kV,dc,pm,cd,ct,a,l,c,k⟩:=H;exact⟨g,_,G_ (st:=st) l c k,o9 X G a⟩
def Ee (K:a0)(x:Str)(st:Stmt)(T:Addr):Prop:=∃(g:Addr)(oc:Value)(od an:Option Addr)(sl:Array (Option Value))(kV dc pm:Value)(c:Addr)(ct:Value),PySem.W.nsIn K mainGlobals x=some (some (.ref g)) /\
 K.lookup g=some ⟨oc,od,.func (PySem.W.fnOf x x (du st) (cE st) (aA st) .none kV dc pm an (.ref c) ct),sl⟩/\PySem.W.codeIn K (.ref c) x=true/\PySem.W.codeHdIn K c T=true/\PySem.W.keepIn K (.ref g)=true
def Ee.get {K:a0}{h:Heap}{mg:Str->Option Value}{x:Str}{st:Stmt}{T:Addr}(X:K.In h)(G:h.Ns mainGlobals mg)(H:Ee K x st T):∃g gd,zz K x x st g gd T/\mg x=some (.ref g):=by
 obtain⟨g,oc,od,an,sl,kV,dc,pm,c,ct,a,l,d,e,k⟩:=H;exact⟨g,_,⟨⟨oc,od,kV,dc,pm,an,c,ct,sl,rfl,l,d,e⟩,k⟩,o9 X G a⟩
def zz.binds {K:a0}{x qual:Str}{st:Stmt}{f T:Addr}{fd:FuncData}{ps:List Str}(F:zz K x qual st f fd T)
  (h:∀(kV doc pm:Value)(an:Option Addr)(eJ ct:Value)(us:List Value),us.length=ps.length->bindArgs (PySem.W.fnOf x qual (du st) (cE st) (aA st) .none kV doc pm an eJ ct) ⟨us,[]⟩=pure (ps.zip us)):Binds K fd ps []:=by
 obtain⟨oc,od,kV,doc,pm,an,c,ct,wY,rfl,lk,xr,_⟩:=F.ex;exact .all (h kV doc pm an (.ref c) ct)
def uK (K:a0)(C:Addr)(m qual:Str)(st:Stmt):Prop:=∃(g:Addr)(oc:Value)(od an:Option Addr)(sl:Array (Option Value))(kV dc pm cd ct:Value),PySem.W.findIn K (.ref C) m=some (some (.ref g)) /\
 K.lookup g=some ⟨oc,od,.func (PySem.W.fnOf m qual (du st) (cE st) (aA st) .none kV dc pm an cd ct),sl⟩/\PySem.W.codeIn K cd qual=true/\PySem.W.keepIn K (.ref g)=true/\PySem.W.isFn K (.ref g)=true
def uK.get {K:a0}{C:Addr}{m qual:Str}{st:Stmt}(H:uK K C m qual st):∃g gd,iG K m qual st g gd/\Meth K C m g:=by
 obtain⟨g,oc,od,an,sl,kV,dc,pm,cd,ct,a,l,c,k,i⟩:=H;exact⟨g,_,G_ (st:=st) l c k,⟨a,i,k⟩⟩
def fJ.c {K:a0}{h:Heap}{mg:Str->Option Value}{x:Str}{st:Stmt}{P:Program}{w:World}{base:Heap}{k:Nat}{ps:List Str}{sp:Sp}(H:fJ K x st)(X:K.In h)(G:h.Ns mainGlobals mg)
  (b:∀(kV doc pm:Value)(an:Option Addr)(eJ ct:Value)(us:List Value),us.length=ps.length->bindArgs (PySem.W.fnOf x x (du st) (cE st) (aA st) .none kV doc pm an eJ ct) ⟨us,[]⟩=pure (ps.zip us))
  (o:∀{f:Addr}{fd:FuncData},iG K x x st f fd->mg x=some (.ref f)->Binds K fd ps []->bR P w K mg base fK k f fd ps sp):aG P w K mg base k x ps sp:=by
 obtain⟨f,fd,F,m⟩:=H.get X G;have B:=F.binds b;exact⟨f,fd,o F m B,B,F.kp,m⟩
def hD {K:a0}{x:Str}{st:Stmt}(g c:Addr)(pm:Value)(h:(PySem.W.nsIn K mainGlobals x,K.lookup g,PySem.W.codeIn K (.ref c) x,PySem.W.keepIn K (.ref g))=(some (some (.ref g)),some ⟨.type "function",none,.func (PySem.W.fnOf x x (du st) (cE st) (aA st) .none .none .none pm none (.ref c) .none),#[]⟩,true,true)):fJ K x st:=by
 simp only [rH] at h;exact⟨g,_,_,_,_,_,_,_,_,_,h.1,h.2.1,h.2.2.1,h.2.2.2⟩
def hC {K:a0}{x:Str}{st:Stmt}{T:Addr}(g c:Addr)(pm:Value)(h:(PySem.W.nsIn K mainGlobals x,K.lookup g,PySem.W.codeIn K (.ref c) x,PySem.W.codeHdIn K c T,PySem.W.keepIn K (.ref g))=(some (some (.ref g)),some ⟨.type "function",none,.func (PySem.W.fnOf x x (du st) (cE st) (aA st) .none .none .none pm none (.ref c) .none),#[]⟩,true,true,true)):Ee K x st T:=by
 simp only [rH] at h;exact⟨g,_,_,_,_,_,_,_,c,_,h.1,h.2.1,h.2.2.1,h.2.2.2.1,h.2.2.2.2⟩
def hM {K:a0}{C:Addr}{m qual:Str}{st:Stmt}(g c:Addr)(pm:Value)(h:(PySem.W.findIn K (.ref C) m,K.lookup g,PySem.W.codeIn K (.ref c) qual,PySem.W.keepIn K (.ref g),PySem.W.isFn K (.ref g))=(some (some (.ref g)),some ⟨.type "function",none,.func (PySem.W.fnOf m qual (du st) (cE st) (aA st) .none .none .none pm none (.ref c) .none),#[]⟩,true,true,true)):uK K C m qual st:=by
 simp only [rH] at h;exact⟨g,_,_,_,_,_,_,_,_,_,h.1,h.2.1,h.2.2.1,h.2.2.2.1,h.2.2.2.2⟩
end L2
namespace ig
open PySem L2 M11
def OJ (K:a0)(C:Addr)(m qual:Str)(st:Stmt):Prop:=∃(g:Addr)(oc:Value)(od an:Option Addr)(sl:Array (Option Value))(kV dc pm cd ct:Value)(T:Addr)(o:Obj) (n:Nat),PySem.W.findIn K (.ref C) m=some (some (.ref g)) /\
 K.lookup g=some ⟨oc,od,.func (PySem.W.fnOf m qual (du st) (cE st) (aA st) (.ref T) kV dc pm an cd ct),sl⟩/\PySem.W.codeIn K cd qual=true/\K.lookup T=some o/\o.data=.seq #[.none] n/\PySem.W.keepIn K (.ref g)=true/\PySem.W.isFn K (.ref g)=true
def OJ.get {K:a0}{C:Addr}{m qual:Str}{st:Stmt}(H:OJ K C m qual st):∃g gd,HV K m qual st g gd/\PySem.W.findIn K (.ref C) m=some (some (.ref g))/\PySem.W.isFn K (.ref g)=true:=by
 obtain⟨g,oc,od,an,sl,kV,dc,pm,cd,ct,T,o,n,a,l,c,t,d,k,i⟩:=H;exact⟨g,_,⟨⟨oc,od,kV,dc,pm,an,cd,ct,sl,T,o,n,rfl,l,c,t,d⟩,k⟩,a,i⟩
structure Top (K:a0)(C Cg C3 T1 T2 T3:Addr)(tm:Tok):Prop where
 nB:PySem.W.nsIn K mainGlobals "BeginTable"=some (some (.ref C))
 nG:PySem.W.nsIn K mainGlobals "Grammar"=some (some (.ref Cg))
 nL:PySem.W.nsIn K mainGlobals "LeastTrees"=some (some (.ref C3))
 nM:PySem.W.nsIn K mainGlobals "MOST_RULES"=some (some (.int 60 tm))
 U5:PySem.W.nsIn K mainGlobals "set"=some none
 nY:PySem.W.nsIn K mainGlobals "sorted"=some none
 h0:fJ K "heads_of" Ak
 h1:fJ K "numbers_by_name" Fb
 h2:fJ K "standings_by_part" Mu
 h3:fJ K "rule_size" pQ
 h4:fJ K "empty_by_name" sM
 h5:fJ K "words_in" Ae
 h6:fJ K "found_empties" sN
 h7:fJ K "first_places" qX
 h8:fJ K "way_back" Mt
 h9:fJ K "steps_with_like_rows" Ag
 h10:fJ K "find_loop" Ff
 h11:fJ K "refuse_twice" Af
 h12:fJ K "names_met" Mv
 h13:fJ K "_law_cell_at" Fm
 h14:fJ K "_law_digits" wQ
 XE:fJ K "_law_names" Ai
 h16:fJ K "_law_words" wJ
 h17:fJ K "_law_more" Fe
 h18:fJ K "_law_skeleton" E_
 h19:fJ K "_law_ended" Am
 h20:fJ K "_law_not_vast" E9
 h21:fJ K "_law_good" Fi
 h22:fJ K "_law_grammar" Fh
 h23:fJ K "_law_deep" Fl
 h24:fJ K "_law_begins" wR
 h25:fJ K "_law_due" My
 W8:fJ K "law" Mw
 WQ:fJ K "settled_sizes" ou
 WX:fJ K "refuse_faults" wK
 hL:Ee K "least_sizes" sL T1
 hG:Ee K "greatest_empty_sizes" wL T2
 hLB:Ee K "least_by_part" ox T3
 mL1:uK K C3 "__init__" "LeastTrees.__init__" Aj
 mB1:uK K C "__init__" "BeginTable.__init__" An
 mB2:uK K C "find_begins" "BeginTable.find_begins" Fj
 mB3:uK K C "words_of_part" "BeginTable.words_of_part" Ah
 mB4:uK K C "first_words" "BeginTable.first_words" wO
 mB5:uK K C "all_empty" "BeginTable.all_empty" yl
 mB6:uK K C "words_of_parts" "BeginTable.words_of_parts" wI
 hBW:fJ K "begin_words" Fo
 mG1:OJ K Cg "__init__" "Grammar.__init__" wM
 pgB:PySem.W.plainGet K C Str.empty=true
 hdB:PySem.W.hasDictIn K C=true
 poB:PySem.W.plainOver K C=true
 saB:PySem.W.findIn K (.ref C) "__setattr__"=some (some (.builtin "object.__setattr__"))
 mkB:PySem.W.makesIn K C=true
 K8:PySem.W.keepIn K (.ref C)=true
 pgG:PySem.W.plainGet K Cg Str.empty=true
 hdG:PySem.W.hasDictIn K Cg=true
 poG:PySem.W.plainOver K Cg=true
 saG:PySem.W.findIn K (.ref Cg) "__setattr__"=some (some (.builtin "object.__setattr__"))
 mkG:PySem.W.makesIn K Cg=true
 kpG:PySem.W.keepIn K (.ref Cg)=true
 pgL:PySem.W.plainGet K C3 Str.empty=true
 hdL:PySem.W.hasDictIn K C3=true
 poL:PySem.W.plainOver K C3=true
 saL:PySem.W.findIn K (.ref C3) "__setattr__"=some (some (.builtin "object.__setattr__"))
 mkL:PySem.W.makesIn K C3=true
 kpL:PySem.W.keepIn K (.ref C3)=true
 Bo:PySem.W.findIn K (.ref C) "empties"=some none
 HM:PySem.W.findIn K (.ref C) "empty"=some none
 Ea:PySem.W.findIn K (.ref C) "begins"=some none
 D_:PySem.W.findIn K (.ref C) "firsts"=some none
 Hy:PySem.W.findIn K (.ref C3) "rules"=some none
 HK:PySem.W.findIn K (.ref C3) "empty"=some none
 Hz:PySem.W.findIn K (.ref C3) "least"=some none
 D0:PySem.W.findIn K (.ref C3) "hollow"=some none
 uJ:PySem.W.findIn K (.ref C3) "beginnings"=some none
 HL:PySem.W.findIn K (.ref Cg) "rules"=some none
 xM:PySem.W.findIn K (.ref Cg) "strengths"=some none
 uf:PySem.W.findIn K (.ref Cg) "begin_table"=some none
 xO:PySem.W.findIn K (.ref Cg) "standings"=some none
 ue:PySem.W.findIn K (.ref Cg) "small_trees"=some none
 U8:PySem.W.nsIn K mainGlobals "len"=some none
 LZ:PySem.W.nsIn K mainGlobals "range"=some none
 xV:PySem.W.nsIn K mainGlobals "isinstance"=some none
 LY:PySem.W.nsIn K mainGlobals "tuple"=some none
 PL:PySem.W.nsIn K mainGlobals "list"=some none
 PM:PySem.W.nsIn K mainGlobals "dict"=some none
 Vb:PySem.W.nsIn K mainGlobals "all"=some none
 Va:PySem.W.nsIn K mainGlobals "any"=some none
 U4:PySem.W.nsIn K mainGlobals "str"=some none
 U_:PySem.W.nsIn K mainGlobals "int"=some none
 PN:PySem.W.nsIn K mainGlobals "bool"=some none
 zW:PySem.W.nsIn K mainGlobals "enumerate"=some none
 U3:PySem.W.nsIn K mainGlobals "sum"=some none
 U7:PySem.W.nsIn K mainGlobals "max"=some none
 U6:PySem.W.nsIn K mainGlobals "min"=some none
def all_mk {l:PySem.W.OpenLaw}{w:World}{K:a0}{h:Heap}{mg:Str->Option Value}{fa C Cg C3 T1 T2 T3:Addr}{tm:Tok}(X:K.In h)(G:h.Ns mainGlobals mg)(hfa:mg "law"=some (.ref fa))(tp:Top K C Cg C3 T1 T2 T3 tm) :
  ∃fd:FuncData,(∀(s:Shared)(v:Value),BindsTo s fd ⟨[v],[]⟩ [("_law_script",v)])/\∀base:Heap,K.In base->base.Ns mainGlobals mg->um mg base->bR l.prog w K mg base fK 9 fa fd ["_law_script"] (BU K T1 T2 T3):=by
 have T:Txt mg:=⟨gp X G tp.U8,gp X G tp.LZ,gp X G tp.xV,gp X G tp.LY,gp X G tp.PL,gp X G tp.PM,gp X G tp.Vb,gp X G tp.Va,gp X G tp.U4,gp X G tp.U_,gp X G tp.PN,gp X G tp.zW,gp X G tp.U3,gp X G tp.U7,gp X G tp.U6⟩;obtain⟨Ly,LI,zB,K3⟩:=tp.WQ.get X G;have LO:=zB.binds (ps:=["rules","sizes","better"]) λ_ _ _ _ _ _=>by exact xY λ_ _ _=>rfl
 obtain⟨Sg,Sz,HW,QR⟩:=tp.WX.get X G;have SK:=HW.binds (ps:=["rules","strengths"]) λ_ _ _ _ _ _=>by exact r9 λ_ _=>rfl
 obtain⟨f_L,d_L,Y0,m_L⟩:=tp.hL.get X G;have b_L:=Y0.binds (ps:=["rules"]) λ_ _ _ _ _ _=>by exact xZ λ_=>rfl
 obtain⟨f_G,d_G,Y1,m_G⟩:=tp.hG.get X G;have b_G:=Y1.binds (ps:=["rules"]) λ_ _ _ _ _ _=>by exact xZ λ_=>rfl
 obtain⟨XI,Yn,OK,Wa⟩:=tp.hLB.get X G;have YD:=OK.binds (ps:=["rules"]) λ_ _ _ _ _ _=>by exact xZ λ_=>rfl
 obtain⟨XN,aaE,Tr,QW⟩:=tp.mB1.get;have YG:=Tr.binds (ps:=["self","rules"]) λ_ _ _ _ _ _=>by exact r9 λ_ _=>rfl
 obtain⟨aav,aaD,Tq,Wc⟩:=tp.mB2.get;have YF:=Tq.binds (ps:=["self","number","rule"]) λ_ _ _ _ _ _=>by exact xY λ_ _ _=>rfl
 obtain⟨aau,aaC,Tp,Nf⟩:=tp.mB3.get;have Oy:=Tp.binds (ps:=["self","part"]) λ_ _ _ _ _ _=>by exact r9 λ_ _=>rfl
 obtain⟨XJ,aax,Tn,QS⟩:=tp.mL1.get;have YE:=Tn.binds (ps:=["self","rules","begin_table"]) λ_ _ _ _ _ _=>by exact xY λ_ _ _=>rfl
 obtain⟨XM,aay,To,Wb,Wx⟩:=tp.mG1.get;have cB:BC K C:=⟨⟨tp.pgB,tp.hdB,tp.poB,tp.saB⟩,tp.Bo,tp.HM,tp.Ea,tp.D_⟩;have cG:GC K Cg:=⟨⟨tp.pgG,tp.hdG,tp.poG,tp.saG⟩,tp.HL,tp.xM,tp.uf,tp.xO,tp.ue⟩;have cL:LC K C3:=⟨⟨tp.pgL,tp.hdL,tp.poL,tp.saL⟩,tp.Hy,tp.HK,tp.Hz,tp.D0,tp.uJ⟩;have kL:Mk K C3 XJ:=⟨tp.mkL,QS.at_,QS.fn,tp.kpL⟩;have kB:Mk K C XN:=⟨tp.mkB,QW.at_,QW.fn,tp.K8⟩;have kG:Mk K Cg XM:=⟨tp.mkG,Wb,Wx,tp.kpG⟩;obtain⟨f9,d9,F9,m9⟩:=tp.W8.get X G;have e:=hfa.symm.trans m9;cases e;obtain⟨oc,od,kV,doc,pm,an,eJ,ct,wY,eL,lk,xr⟩:=F9.ex;refine⟨d9,λs v=>?_,λbase _ _ R_=>?_⟩
 .rw [eL];exact .of_eq rfl
 have c0:=tp.h0.c (P:=l.prog) (w:=w) (base:=base) X G (λ_ _ _ _ _ _=>by exact xZ λ_=>rfl) λF m B=>F1 F T;have c1:=tp.h1.c (P:=l.prog) (w:=w) (base:=base) X G (λ_ _ _ _ _ _=>by exact xZ λ_=>rfl) λF m B=>Jn F T c0;have c2:=tp.h2.c (P:=l.prog) (w:=w) (base:=base) X G (λ_ _ _ _ _ _=>by exact xZ λ_=>rfl) λF m B=>M6 F T;have c3:=tp.h3.c (P:=l.prog) (w:=w) (base:=base) X G (λ_ _ _ _ _ _=>by exact r9 λ_ _=>rfl) λF m B=>yy F T;have c4:=tp.h4.c (P:=l.prog) (w:=w) (base:=base) X G (λ_ _ _ _ _ _=>by exact r9 λ_ _=>rfl) λF m B=>AF F T;have c5:=tp.h5.c (P:=l.prog) (w:=w) (base:=base) X G (λ_ _ _ _ _ _=>by exact xZ λ_=>rfl) λF m B=>FR F T;have c6:=tp.h6.c (P:=l.prog) (w:=w) (base:=base) X G (λ_ _ _ _ _ _=>by exact xZ λ_=>rfl) λF m B=>AG F T;have c7:=tp.h7.c (P:=l.prog) (w:=w) (base:=base) X G (λ_ _ _ _ _ _=>by exact r9 λ_ _=>rfl) λF m B=>C5 F T;have c8:=tp.h8.c (P:=l.prog) (w:=w) (base:=base) X G (λ_ _ _ _ _ _=>by exact xY λ_ _ _=>rfl) λF m B=>M5 F T;have c9:=tp.h9.c (P:=l.prog) (w:=w) (base:=base) X G (λ_ _ _ _ _ _=>by exact xZ λ_=>rfl) λF m B=>FU F T c6 c0;have c10:=tp.h10.c (P:=l.prog) (w:=w) (base:=base) X G (λ_ _ _ _ _ _=>by exact xZ λ_=>rfl) λF m B=>Jp F T c9 c8;have c11:=tp.h11.c (P:=l.prog) (w:=w) (base:=base) X G (λ_ _ _ _ _ _=>by exact xZ λ_=>rfl) λF m B=>FT F T;have c12:=tp.h12.c (P:=l.prog) (w:=w) (base:=base) X G (λ_ _ _ _ _ _=>by exact xZ λ_=>rfl) λF m B=>M7 F T;have Et:=tp.h13.c (P:=l.prog) (w:=w) (base:=base) X G (λ_ _ _ _ _ _=>by exact r9 λ_ _=>rfl) λF m B=>Ju F T;have Yx:=tp.h14.c (P:=l.prog) (w:=w) (base:=base) X G (λ_ _ _ _ _ _=>by exact xY λ_ _ _=>rfl) λF m B=>C6 F T;have Yw:=tp.XE.c (P:=l.prog) (w:=w) (base:=base) X G (λ_ _ _ _ _ _=>by exact xZ λ_=>rfl) λF m B=>FX F T;have c16:=tp.h16.c (P:=l.prog) (w:=w) (base:=base) X G (λ_ _ _ _ _ _=>by exact xZ λ_=>rfl) λF m B=>C2 F T;have c17:=tp.h17.c (P:=l.prog) (w:=w) (base:=base) X G (λ_ _ _ _ _ _=>by exact us5 λ_ _ _ _ _=>rfl) λF m B=>Jo F T (Et.mono nofun) (Yx.mono nofun);have c18:=tp.h18.c (P:=l.prog) (w:=w) (base:=base) X G (λ_ _ _ _ _ _=>by exact Y_ λ_ _ _ _=>rfl) λF m B=>Jm F T (Et.mono nofun) (Yx.mono nofun);have Yv:=tp.h19.c (P:=l.prog) (w:=w) (base:=base) X G (λ_ _ _ _ _ _=>by exact r9 λ_ _=>rfl) λF m B=>F4 F T;have c20:=tp.h20.c (P:=l.prog) (w:=w) (base:=base) X G (λ_ _ _ _ _ _=>by exact r9 λ_ _=>rfl) λF m B=>Jl F T;have c21:=tp.h21.c (P:=l.prog) (w:=w) (base:=base) X G (λ_ _ _ _ _ _=>by exact xZ λ_=>rfl) λF m B=>Jr F T (Yv.mono nofun) (c20.mono nofun);have c22:=tp.h22.c (P:=l.prog) (w:=w) (base:=base) X G (λ_ _ _ _ _ _=>by exact r9 λ_ _=>rfl) λF m B=>Jq F T (Et.mono nofun) (Yw.mono nofun) (c16.mono nofun) (c18.mono nofun) (c17.mono nofun) (c21.mono nofun);have c23:=tp.h23.c (P:=l.prog) (w:=w) (base:=base) X G (λ_ _ _ _ _ _=>by exact xZ λ_=>rfl) λF m B=>Jt F T (Et.mono nofun);have c24:=tp.h24.c (P:=l.prog) (w:=w) (base:=base) X G (λ_ _ _ _ _ _=>by exact xZ λ_=>rfl) λF m B=>C7 F T (Yv.mono nofun);have c25:=tp.h25.c (P:=l.prog) (w:=w) (base:=base) X G (λ_ _ _ _ _ _=>by exact Y_ λ_ _ _ _=>rfl) λF m B=>M9 F T (gp X G tp.nY) (gp X G tp.U5) (Yv.mono nofun);have Ys:aG l.prog w K mg base 2 "settled_sizes" ["rules","sizes","better"] (iQ K zH sX.1 sX.2.1 sX.2.2.1 M11.bl):=⟨Ly,LI,AA zB T,LO,zB.kp,K3⟩;have Yt:aG l.prog w K mg base 2 "settled_sizes" ["rules","sizes","better"] (iQ K K5 AO.1 AO.2.1 AO.2.2.1 M11.bg):=⟨Ly,LI,AB zB T,LO,zB.kp,K3⟩;have c_L:aG l.prog w K mg base 3 "least_sizes" ["rules"] (qS K T1):=⟨f_L,d_L,FZ Y0 T R_ c5 Ys,b_L,Y0.kp,m_L⟩;have c_G:aG l.prog w K mg base 3 "greatest_empty_sizes" ["rules"] (wB K T2):=⟨f_G,d_G,F2 Y1 R_ Yt,b_G,Y1.kp,m_G⟩;have SH:aG l.prog w K mg base 4 "refuse_faults" ["rules","strengths"] (sr K T1 T2):=⟨Sg,Sz,C4 HW T (o9 X G tp.nM) c11 c_L c0 c12 c10 c_G,SK,HW.kp,QR⟩;have Yu:aG l.prog w K mg base 4 "least_by_part" ["rules"] (pL K T1 T3):=⟨XI,Yn,AE OK T R_ (gp X G tp.nY) (c0.mono nofun) c_L (c1.mono nofun) (c3.mono nofun),YD,OK.kp,Wa⟩;have M_:=FV (P:=l.prog) (w:=w) (base:=base) Tp T cB;have VS:=Js Tq T cB c7 M_ Nf Oy;have cPL:=tp.h7.c (P:=l.prog) (w:=w) (base:=base) X G (λ_ _ _ _ _ _ us hl=>match us,hl with | [_,_],_=>rfl) λF m B=>AD F T
 obtain⟨aat,aaB,ON,QV⟩:=tp.mB4.get;have SO:=ON.binds (ps:=["self","parts"]) λ_ _ _ _ _ _ us hl=>match us,hl with | [_,_],_=>rfl
 obtain⟨aas,aaA,OM,QU⟩:=tp.mB5.get;have SN:=OM.binds (ps:=["self","parts"]) λ_ _ _ _ _ _ us hl=>match us,hl with | [_,_],_=>rfl
 obtain⟨aar,aaz,OL,QT⟩:=tp.mB6.get;have SM:=OL.binds (ps:=["self","parts","ahead"]) λ_ _ _ _ _ _ us hl=>match us,hl with | [_,_,_],_=>rfl
 have o4T:=yz true ON T cB c7 M_ Nf Oy;have o4L:=yz false ON T cB cPL M_ Nf Oy;have o5T:=F6 (P:=l.prog) (w:=w) (base:=base) OM T cB;have o5L:=F7 (P:=l.prog) (w:=w) (base:=base) OM T cB;have o6T:=u_ true OL T (gp X G tp.nY) cB o4T QV SO (o5T.mono nofun) QU SN;have o6L:=u_ false OL T (gp X G tp.nY) cB o4L QV SO (o5L.mono nofun) QU SN;have uH:=tp.hBW.c (P:=l.prog) (w:=w) (base:=base) X G (λ_ _ _ _ _ _ us hl=>match us,hl with | [_,_,_],_=>rfl) λF m B=>(Cc true F T cG cB o6T QT SM).or (Cc false F T cG cB o6L QT SM)
 have VT:=F5 Tr T cB c6 c0 VS Wc YF;have VQ:=FY Tn T cB cL Yu (c4.mono nofun);have VR:=F3 To T cG (SH.mono nofun) (c2.mono nofun) (VT.mono nofun) kB YG (o9 X G tp.nB) VQ kL YE (o9 X G tp.nL);exact M8 F9 T (gp X G tp.nY) (c22.mono nofun) (Et.mono nofun) (c23.mono nofun) (Yx.mono nofun) (c25.mono nofun) (c24.mono nofun) (uH.mono nofun) cG kG (VR.mono nofun) (G7 To) (o9 X G tp.nG)
def walk {l:PySem.W.OpenLaw}{q:Program}{loose:List Str}{XP:(Str->Option Value)->Heap->Prop}{YP:World->Heap->Prop}{d:DefRec}{K:Params->a0}(T1 T2 T3 c1 c2 c3:Addr)(K1:T1≠T2)(K0:T1≠T3)(KZ:T2≠T3)(hn:l.most=some 63)(NO:d.params.defaults=[])
  (hY:∀(w:World)(h:Heap),YP w h->(K w.params).In h/\∀T∈[T3,T2,T1],h.get? T=some (PySem.W.tabObj #[]))
  (hK1:∀w:World,(K w.params).lookup T1=none)(hK2:∀w:World,(K w.params).lookup T2=none)(hK3:∀w:World,(K w.params).lookup T3=none)(hC1:∀w:World,PySem.W.codeHdIn (K w.params) c1 T1=true)(hC2:∀w:World,PySem.W.codeHdIn (K w.params) c2 T2=true)(hC3:∀w:World,PySem.W.codeHdIn (K w.params) c3 T3=true)
  (F:∀(w:World)(mg:Str->Option Value)(fa:Addr)(h:Heap),(K w.params).In h->h.Ns mainGlobals mg->mg d.name=some (.ref fa) ->
   ∃fd:FuncData,(∀(s:Shared)(u:Value),BindsTo s fd ⟨[u],[]⟩ [("_law_script",u)])/\∀base:Heap,(K w.params).In base->base.Ns mainGlobals mg->um mg base->bR l.prog w (K w.params) mg base fK 9 fa fd ["_law_script"] (BU (K w.params) T1 T2 T3)) :
  PySem.W.WalkO q loose XP YP l.row.toRowW d [] (λf vs=>PySem.call f vs) :=
 L2.EF (n:=63) (k:=9) (x := "_law_script") (CX:=λ_=>fK) (sp:=λw=>BU (K w.params) T1 T2 T3) hn nofun NO ⟨rfl,nofun,nofun⟩ hY (λw T hT=>by
  rcases bO.mp hT with e | hT
  .subst e;exact⟨hK3 w,c3,hC3 w⟩
  rcases bO.mp hT with e | hT
  .subst e;exact⟨hK2 w,c2,hC2 w⟩
  rw [cg.mp hT];exact⟨hK1 w,c1,hC1 w⟩) F (λ_ H a ns hl _ hT hS=>⟨a,ns,rfl,hS,hl,⟨⟨#[],hT T1 (by simp),by trivial,.inl rfl⟩,⟨#[],hT T2 (by simp),by trivial,.inl rfl⟩,⟨#[],hT T3 (by simp),by trivial,.inl rfl⟩,K1,K0,KZ⟩,λ_=>rfl⟩) λ_ _ _ _ _ z=>z
end ig
set_option maxHeartbeats 0
end
namespace HD
open PySem PySem.W L2
def Vi (P:Params):ig.Top (K P) 110 372 343 253 258 287 547:=⟨nofun,nofun,nofun,nofun,nofun,nofun,
 hD 33 32 HD.m2 (nofun),
 hD 43 42 HD.m2 (nofun),
 hD 50 49 HD.m2 (nofun),
 hD 295 294 HD.m8 (nofun),
 hD 300 299 HD.m8 (nofun),
 hD 38 37 HD.m2 (nofun),
 hD 55 54 HD.m3 (nofun),
 hD 62 61 HD.m3 (nofun),
 hD 251 250 HD.m5 (nofun),
 hD 244 243 HD.m5 (nofun),
 hD 239 238 HD.m5 (nofun),
 hD 280 279 HD.m7 (nofun),
 hD 285 284 HD.m7 (nofun),
 hD 383 382 HD.oX (nofun),
 hD 402 401 HD.oX (nofun),
 hD 388 387 HD.oX (nofun),
 hD 395 394 HD.oX (nofun),
 hD 416 415 HD.oX (nofun),
 hD 409 408 HD.oX (nofun),
 hD 421 420 HD.oX (nofun),
 hD 426 425 HD.oX (nofun),
 hD 431 430 HD.oX (nofun),
 hD 438 437 HD.oX (nofun),
 hD 450 449 HD.oX (nofun),
 hD 443 442 HD.oX (nofun),
 hD 455 454 HD.oX (nofun),
 hD 462 461 HD.oX (nofun),
 hD 268 267 HD.m6 (nofun),
 hD 273 272 HD.m7 (nofun),
 hC 256 255 HD.m6 (nofun),
 hC 263 262 HD.m6 (nofun),
 hC 290 289 HD.m8 (nofun),
 hM 312 311 HD.m8 (nofun),
 hM 74 73 HD.m3 (nofun),
 hM 81 80 HD.m3 (nofun),
 hM 88 87 HD.m3 (nofun),
 hM 95 94 HD.m3 (nofun),
 hM 100 99 HD.m3 (nofun),
 hM 107 106 HD.m3 (nofun),
 hD 28 27 HD.m1 (nofun),
 ⟨362,.type "function",none,none,#[],.none,.none,.str "wright.grammars" 658,.ref 361,.none,355,⟨.type "tuple",none,.seq #[.none] 0,#[]⟩,0,nofun,nofun,nofun,nofun,rfl,nofun,nofun⟩,nofun,nofun,nofun,nofun,nofun,nofun,nofun,nofun,nofun,nofun,nofun,nofun,nofun,nofun,nofun,nofun,nofun,nofun,nofun,nofun,nofun,nofun,nofun,nofun,nofun,nofun,nofun,nofun,nofun,nofun,nofun,nofun,nofun,nofun,nofun,nofun,nofun,nofun,nofun,nofun,nofun,nofun,nofun,nofun,nofun,nofun,nofun⟩
end HD
theorem PySem.Challenge.cw_wright_k22_words_that_begin_parts_holds : PySem.Challenge.rw_wright_k22_words_that_begin_parts.Holds := by
 refine HD.hold ?_ ?hw
 case hw=>w_witness2
 refine ig.walk (l:=PySem.Challenge.rw_wright_k22_words_that_begin_parts) (K:=HD.K) 253 258 287 255 262 289 nofun nofun nofun rfl HD.ok5 (λw h Y=>⟨PySem.W.km_in_of Y,PySem.W.km_tabs_of Y⟩) (λw=>by kernel_rfl) (λw=>by kernel_rfl) (λw=>by kernel_rfl) (λw=>by kernel_rfl) (λw=>by kernel_rfl) (λw=>by kernel_rfl) ?F;intro w mg fa h KX G NH;exact ig.all_mk KX G NH (HD.Vi w.params)
