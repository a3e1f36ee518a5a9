import PyProof.Rows.All
import Wide.All
import OpenK.AllK
import Wide.FinOn
import Lean
import PyProof.EqAt
import PyProof.EqKinds
import PyProof.TupleCall
import KE.KNestM
import PyProof.IsiH_list
import PyProof.RaisesAny
import KE.KDictOf
import PyProof.CollectWalk
import PyProof.CompFree
import KE.KDictList
import PyProof.NeKinds
import PyProof.ConsumeWalk
import PyProof.StrBlockI
import PyProof.EnumFor
import PyProof.TupleIter
import PyProof.EnumMake
import KE.KLam
import PyProof.DictUpdate
import PyProof.SeqI3
import PyProof.DictWalks
import PyProof.ConsumeS
import PyProof.Rows.CallKwBuiltin
import KE.KDictLaws
import PyProof.AutoListH
import PyProof.ZipIter
import PyProof.ListNew
import KE.KRevSl
import PyProof.StrOps
import PyProof.StrOps2
import KE.KSortKey
import PySem.Challenge.RW_wright_k69_whole_deeds_and_trees
set_option Elab.async false
set_option linter.all false
set_option maxRecDepth 100000
local macro_rules | `(tactic| omega) => `(tactic| first | lia | omega (config := {}))
local macro_rules | `(∅) => `(by omega)
def bx:=@Or.inl
abbrev a9:=PySem.W.Frag
def o6:0<=PySem.sizeLine:=by decide
def vi:1<=PySem.sizeLine:=by decide
def kb:2<=PySem.sizeLine:=by decide
def JC:3<=PySem.sizeLine:=by decide
def zl4:4<=PySem.sizeLine:=by decide
def au.{u,v}:=@List.length_map.{u,v}
def bq.{u}:=@List.getElem?_eq_some_iff.{u}
def ar:=@PySem.wpAny_bind
def bI:=@PySem.Heap.get?_push_of_some
def bh.{u,v}:=@List.getElem?_map.{u,v}
def bL.{u}:=@List.length_append.{u}
def cg.{u,v}:=@Option.map_eq_some_iff.{u,v}
def cf.{u}:=@List.mem_of_getElem?.{u}
def bF.{u,v}:=@List.map_append.{u,v}
def aR:=@PySem.wpAny_pure
def b_.{u}:=@List.getElem?_eq_getElem.{u}
def aH:=@Nat.le_refl
def aY:=@PySem.Paired.length
def bU.{u}:=@List.mem_singleton.{u}
def bQ.{u}:=@List.size_toArray.{u}
def ba:=@PySem.Heap.lt_size
def dr.{u}:=@List.mem_cons_of_mem.{u}
def bZ:=@PySem.PassesOwn.never
def cV:=@PySem.Heap.get?_push_size
def bV:=@decide_eq_true
def eF:=@PySem.F.plainAttrs_list
def cU.{u}:=@List.mem_cons_self.{u}
def cR.{u}:=@List.take_add_one.{u}
def bM:=@Nat.ne_of_lt
def cA.{u}:=@List.mem_append.{u}
def cQ.{u}:=@List.take_length.{u}
def dq:=@of_decide_eq_true
def fZ:=@PySem.F.type_list_append
def fY:=@PySem.F.slot_list_append
def ax.{u}:=@if_pos.{u}
def az.{u}:=@if_neg.{u}
def dO:=@Bool.false_ne_true
def cq.{u,v}:=@List.map_cons.{u,v}
def cz.{u}:=@List.mem_cons.{u}
def fO.{u}:=@List.length_singleton.{u}
def di:=@decide_eq_false
def cS:=@PySem.boot_len
def eU:=@Nat.lt_of_lt_of_le
def fX.{u}:=@List.mem_append_right.{u}
def dN.{u}:=@List.length_take.{u}
def dM.{u}:=@List.length_cons.{u}
def cP.{u,v}:=@List.mem_map.{u,v}
def jm:=@PyProof.Rows.boot_isinstance
def hX:=@Bool.and_eq_true_iff
def iu.{u}:=@List.getElem?_of_mem.{u}
def hV:=@PySem.W.mg_none_of
def gB.{u}:=@List.all_eq_true.{u}
def mY:=@PyProof.Rows.slot_tuple_getitem
def fc:=@Nat.ne_of_gt
def lQ.{u}:=@List.getElem?_append_right.{u}
def gR.{u}:=@Option.some.inj.{u}
def jl.{u}:=@List.mem_append_left.{u}
def dG:=@PySem.wpAny_mono
def d_:=@PySem.wpAny_field
def p_.{u}:=@List.take_append_of_le_length.{u}
def fV:=@Nat.le_trans
def ir.{u}:=@List.append_nil.{u}
def iV:=@PySem.wpAny_newObj_type
def j4.{u}:=@beq_eq_false_iff_ne.{u}
def jZ.{u,v}:=@List.mem_map_of_mem.{u,v}
def mX.{u}:=@List.getElem?_append_left.{u}
def jY.{u,v}:=@List.flatMap_append.{u,v}
def mW.{u}:=@Option.isSome_iff_exists.{u}
def jX:=@PySem.wpAny_setField_rec
def iU.{u}:=@List.length_nil.{u}
def mV:=@PySem.wpAny_callSpecial?_slot
def mU.{u}:=@List.take_of_length_le.{u}
def gA:=@Nat.zero_le
def cO.{u}:=@Ne.symm.{u}
def kx:=@Nat.lt_succ_of_lt
def ku.{u}:=@List.nodup_append.{u}
def kr.{u}:=@List.append_assoc.{u}
def kn:=@Int.toNat_natCast
def kj:=@PySem.wpAny_truthy_bool
def iG:=@PySem.wpAny_holding
def gQ:=@PySem.Paired.snoc
def jk:=@PySem.wpAny_seqItems
def iF.{u,v,w}:=@List.map_map.{u,v,w}
def jj:=@PySem.Heap.size_push
def t_:=@PyProof.Rows.callWith_type1
def qR:=@PyProof.Rows.boot_tuple
def pZ.{u}:=@List.mem_of_mem_take.{u}
def mT:=@PySem.wpAny_Call_Name_kw
def pY.{u}:=@List.length_reverse.{u}
def lP:=@PySem.wpAny_call_entry
def jW.{u}:=@List.sum_cons.{u}
def lL.{u}:=@List.mem_filter.{u}
def pX:=@Nat.lt_of_le_of_lt
def mS:=@Nat.lt_succ_self
def qQ.{u}:=@List.mem_iff_getElem.{u}
def lK.{u}:=@List.nodup_nil.{u}
def mR.{u}:=@List.nodup_cons.{u}
def mQ.{u}:=@List.nil_append.{u}
def mP.{u,v,w}:=@List.forIn_cons.{u,v,w}
def mN:=@Bool.eq_iff_iff
def qP:=@PySem.Around.under_plainId
def jV:=@PySem.wpAny_typeOf
def wL.{u}:=@List.getD_eq_getElem?_getD.{u}
def pW.{u}:=@List.length_drop.{u}
def pV:=@Bool.and_eq_true
def jb:=@Bool.true_and
def o5:=@PySem.Heap.get?_update_other
def mi.{u}:=@List.reverse_cons.{u}
def rA.{u}:=@List.getElem?_take_of_lt.{u}
def oZ:=@PySem.Heap.get?_update_self
def mh:=@PySem.Calls.spliced_cons
def ja:=@Int.zero_add
def kJ:=@List.mem_range
def oY.{u,v}:=@List.map_singleton.{u,v}
def oX.{u}:=@List.filter_append.{u}
def jG:=@Nat.le_of_lt
def rq.{u}:=@List.take_append_drop.{u}
def jF.{u,v}:=@List.map_nil.{u,v}
def rp.{u}:=@List.length_filter_le.{u}
def oW.{u,v}:=@Option.isSome_map.{u,v}
def kI:=@Nat.lt_irrefl
def ro:=@PySem.Calls.callWith_builtin
def oV:=@PySem.wpAny_pyIter_tuple
def oU:=@PySem.tupleKind_room_in1
def mf:=@PySem.wpAny_passesOwn
def me:=@PySem.codeAny_builtin
def vh.{u,v}:=@List.getElem?_zip_eq_some.{u,v}
def oT.{u}:=@beq_self_eq_true.{u}
def oS.{u}:=@List.getElem_mem.{u}
def oR.{u,v}:=@List.getElem_map.{u,v}
def oQ:=@PySem.wpAny_pyIter_list
def kC:=@PySem.plainId_quiet
def rm:=@PySem.mem_of_lookup
def rj:=@Nat.add_le_add_left
def rh.{u,v}:=@List.filterMap_cons.{u,v}
def rg.{u}:=@Array.length_toList.{u}
def ky:=@Nat.sub_zero
def vf:=@PySem.F.slot_tuple_iterator_next
def rf.{u}:=@List.getElem?_drop.{u}
def oP.{u}:=@List.find?_cons.{u}
def oO:=@PySem.Around.in1_units
def i_:=@PySem.wpAny_rule
def ve:=@PySem.F.slot_list_getattribute
def q_.{u,v}:=@List.flatMap_cons.{u,v}
def q9:=@Bool.eq_false_iff
def oN.{u}:=@List.take_zero.{u}
def oM.{u}:=@List.drop_zero.{u}
def vc:=@PySem.wpAny_loadPart'
def md:=@Nat.lt_trans
def vb.{u}:=@List.getElem?_reverse.{u}
def u_.{u}:=@List.getElem?_eq_none.{u}
def q8:=@Nat.lt_add_right
def qZ.{u,v}:=@List.mem_flatMap.{u,v}
def u9.{u}:=@List.reverse_reverse.{u}
def oK:=@PySem.W.mg_of
def oJ.{u,v}:=@List.map_take.{u,v}
def qY:=@PySem.Calls.spliced_nil
def u7:=@PySem.wpAny_pyNext_list_end
def l_.{u,v}:=@Sum.inr.inj.{u,v}
def qX.{u,v}:=@Option.map_some.{u,v}
def u6:=@PySem.F.slot_enumerate_next
def u5.{u}:=@Array.toList_append.{u}
def u4:=@PySem.wpAny_loadName_local
def oI:=@Nat.zero_add
def oH:=@Nat.sub_self
def u3:=@PySem.Calls.evalArgs_plain
def oG:=@PySem.wpAny_attempt
def qW:=@Bool.false_and
def qV:=@PySem.wpAny_updateSeq
def yK:=@PySem.F.slot_dict_update
def yJ:=@PySem.F.args_tuple_add_2
def uZ:=@Nat.lt_of_succ_lt
def uY:=@List.length_range
def uX:=@PySem.F.plain_extend_loop
def yI:=@PySem.F.plainAttrs_dict
def yH:=@PySem.F.entry_tuple_add
def qU.{u,v}:=@Prod.mk.injEq.{u,v}
def oF:=@Nat.le_succ
def qT.{u}:=@List.any_cons.{u}
def oE:=@Int.le_refl
def oC:=@PySem.codeAny_mono
def uW.{u}:=@List.getElem_inj.{u}
def uV.{u}:=@List.filter_cons.{u}
def qS:=@PySem.wpAny_newTuple
def yG:=@PySem.F.slot_tuple_add
def yF.{u}:=@Array.getElem?_eq_none.{u}
namespace L2
open PySem PySem.Spec PyProof.Rows
abbrev aS:=Sum Int Str
def sg:aS->Value->Bool
 | .inl k,v=>Value.isInt k v
 | .inr x,v=>Value.isStrOf x v
def UG (w:World):aS->Int
 | .inl k=>hashInt k
 | .inr x=>hashStr w x
def dw:∀{k:aS}{v:Value},sg k v=true->(∃i t,k=Sum.inl i/\v=Value.int i t)\/(∃x t,k=Sum.inr x/\v=Value.str x t)
 | .inl i,v,h=>by
  obtain⟨t,e⟩:=Value.isInt_shape (k:=i) (v:=v) h;exact .inl ⟨i,t,rfl,e⟩
 | .inr x,v,h=>by
  obtain⟨t,e⟩:=Value.isStrOf_shape (x:=x) (v:=v) h;exact .inr ⟨x,t,rfl,e⟩
def CI (i:Int)(t:Tok):sg (.inl i) (.int i t)=true:=by simp [sg,Value.isInt]
def CH (x:Str)(t:Tok):sg (.inr x) (.str x t)=true:=by simp [sg,Value.isStrOf]
def Mg (a b:Int):decide ((Sum.inl a:aS)=Sum.inl b)=(a == b):=by
 by_cases e:a=b
 .subst e;simp
 have h:¬(Sum.inl a:aS)=Sum.inl b:=λq=>e (Sum.inl.inj q);rw [di h];exact(j4.mpr e).symm
def Md (a b:Str):decide ((Sum.inr a:aS)=Sum.inr b)=decide (a=b):=by
 by_cases e:a=b
 .subst e;simp
 have h:¬(Sum.inr a:aS)=Sum.inr b:=λq=>e (l_ q);rw [di h,di e]
def Mf (a:Int)(b:Str):decide ((Sum.inl a:aS)=Sum.inr b)=false:=di (λq=>nomatch q)
def Me (a:Str) (b:Int):decide ((Sum.inr a:aS)=Sum.inl b)=false:=di (λq=>nomatch q)
def bj (prog:Program)(w:World):PySem.KeyKind prog w aS where
 is:=sg
 hash:=UG w
 inj:=λv a b ha hb=>by
  rcases dw ha with ⟨i,t,rfl,rfl⟩ | ⟨x,t,rfl,rfl⟩
  .rcases dw hb with ⟨j,u,rfl,e⟩ | ⟨y,u,rfl,e⟩
   .injection e with e1 _;rw [e1]
   exact nomatch e
  rcases dw hb with ⟨j,u,rfl,e⟩ | ⟨y,u,rfl,e⟩
  .exact nomatch e
  injection e with e1 _;rw [e1]
 byValue:=λk v h=>by
  rcases dw h with ⟨i,t,rfl,rfl⟩ | ⟨x,t,rfl,rfl⟩ <;> rfl
 pyHash:=λhv h=>by
  rcases dw hv with ⟨i,t,rfl,rfl⟩ | ⟨x,t,rfl,rfl⟩
  .exact wpAny_pyHash_int h
  exact wpAny_pyHash_str h
 eqBool:=λhu hv h=>by
  rcases dw hu with ⟨i,t,rfl,rfl⟩ | ⟨x,t,rfl,rfl⟩
  .rcases dw hv with ⟨j,u,rfl,rfl⟩ | ⟨y,u,rfl,rfl⟩
   .rw [Mg] at h;exact wpAny_eqBool_int h
   rw [Mf] at h;exact SeqAt.EqAt.int_str i t y u _ _ _ _ h
  rcases dw hv with ⟨j,u,rfl,rfl⟩ | ⟨y,u,rfl,rfl⟩
  .rw [Me] at h;exact SeqAt.EqAt.str_int x t j u _ _ _ _ h
  rw [Md] at h;exact wpAny_eqBool_str h
 «strs»:=λk x t v h=>by
  rcases dw h with ⟨i,u,rfl,e⟩ | ⟨y,u,rfl,e⟩
  .exact nomatch e
  injection e with e1 _;subst e1;cases v <;> rfl
def xF (prog:Program)(w:World) (i:Int)(t:Tok):(bj prog w).is (.inl i) (.int i t)=true:=CI i t
def xE (prog:Program)(w:World)(x:Str)(t:Tok):(bj prog w).is (.inr x) (.str x t)=true:=CH x t
inductive V where
 | d6 | bl (b:Bool) | int (i:Int) | str (x:Str) | AB (b:Array UInt8) | MR (b:UInt64) | ref (a:Addr) | ty (n:String)
 deriving DecidableEq
def RelV:V->Value->Prop
 | .d6,u=>u=Value.none
 | .bl b,u=>u=Value.bool b
 | .int i,u=>∃t,u=Value.int i t
 | .str x,u=>∃t,u=Value.str x t
 | .AB b,u=>∃t,u=Value.bytes b t
 | .MR b,u=>∃t,u=Value.float b t
 | .ref a,u=>u=Value.ref a
 | .ty n,u=>u=Value.type n
abbrev a_:List V->List Value->Prop:=Paired RelV
theorem a_.length {xs:List V}{us:List Value}(r:a_ xs us):xs.length=us.length:=aY r
theorem a_.get:∀{xs:List V}{us:List Value}{i:Nat}{x:V},a_ xs us->xs[i]?=some x->∃u,us[i]?=some u/\RelV x u
 | _,_,_,_,.nil,e=>by simp at e
 | _,_,0,_,.cons r _,e=>by simp at e;subst e;exact⟨_,rfl,r⟩
 | _,_,i+1,x,.cons _ t,e=>by
  obtain⟨u,h1,h2⟩:=a_.get (i:=i) (x:=x) t (by simpa using e);exact⟨u,by simpa using h1,h2⟩
theorem a_.set {x:V}{u:Value}(r:RelV x u):∀{xs:List V}{us:List Value}(i:Nat),a_ xs us->a_ (xs.set i x) (us.set i u)
 | _,_,_,.nil=>.nil
 | _,_,0,.cons _ t=>.cons r t
 | _,_,i+1,.cons q t=>.cons q (a_.set r i t)
theorem a_.append:∀{xs ys:List V}{us ws:List Value},a_ xs us->a_ ys ws->a_ (xs++ys) (us++ws)
 | _,_,_,_,.nil,s=>s
 | _,_,_,_,.cons r t,s=>.cons r (a_.append t s)
theorem a_.take:∀{xs:List V}{us:List Value}(n:Nat),a_ xs us->a_ (xs.take n) (us.take n)
 | _,_,0,_=>.nil
 | _,_,_+1,.nil=>.nil
 | _,_,n+1,.cons r t=>.cons r (a_.take n t)
theorem a_.drop:∀{xs:List V}{us:List Value}(n:Nat),a_ xs us->a_ (xs.drop n) (us.drop n)
 | _,_,0,r=>r
 | _,_,_+1,.nil=>.nil
 | _,_,n+1,.cons _ t=>a_.drop n t
def a_.none_of:∀{xs:List V}{us:List Value}{i:Nat},a_ xs us->xs[i]?=none->us[i]?=none:=λ{xs us i} r e=>by
 have h1:=r.length;have h2:xs.length<=i:=List.getElem?_eq_none_iff.mp e;exact List.getElem?_eq_none_iff.mpr ∅
def jS:Option V->Option Value->Prop
 | some v,some u=>RelV v u
 | none,none=>True
 | _,_=>False
def KV {κ:Type}:List (κ×V)->List (κ×Value)->Prop:=Paired λ(p:κ×V)(q:κ×Value)=>p.1=q.1/\RelV p.2 q.2
def kV:aS->V
 | .inl i=>.int i
 | .inr x=>.str x
inductive HO where
 | lst (xs:List V)
 | tup (xs:List V)
 | dK (kvs:List (aS×V)) | dT (kvs:List (List aS×V))
 | set (S:Int->Bool) (n:Nat)
 | ins (C dx:Addr)(fs:List (Str×V))
 | own (x:Addr)
 | xd (fs:List (Str×V))
 | met (f x:Addr)
 | DE (lo hi:Int)
 | ki (o:Obj)(u:HO)
 | tK (ps:Array Value)
 | ext (φ:Heap->Prop)
abbrev Hp:=Addr->Option HO
def upd (H:Hp)(a:Addr)(o:HO):Hp:=λb=>if b=a then some o else H b
def ae {H:Hp}{a:Addr}{o:HO}:upd H a o a=some o:=by unfold upd;rw [ax rfl]
def aj {H:Hp}{a b:Addr}{o:HO}(h:b≠a):upd H a o b=H b:=by unfold upd;rw [az h]
def m_ {H:Hp}{a:Addr}{o u:HO}:upd (upd H a o) a u=upd H a u:=by
 funext b;unfold upd;split <;> rfl
def Pj {H:Hp}{a b:Addr}{o u:HO}(h:H a=some o)(h':H b=some u)(d:o≠u):a≠b:=by
 intro e;subst e;rw [h] at h';exact d (gR h')
def ay {H:Hp}{a b:Addr}{o:HO}(h:H a=some o)(h':H b=none):a≠b:=by
 intro e;subst e;rw [h] at h';cases h'
section
variable (P:Program)(w:World)
def cE (H:Hp)(h:Heap)(a:Addr):HO->Prop
 | .lst xs=>xs.length<=sizeLine/\∃(aU:List Value) (n:Nat),a_ xs aU/\h.get? a=some { cls:=.type "list",data:=.seq aU.toArray n }
 | .tup xs=>xs.length<=sizeLine/\∃aU:List Value,a_ xs aU/\IsTup h a aU.toArray
 | .dK kvs=>kvs.length<=sizeLine/\(a == sysModules)=false/\∃vs,KV kvs vs/\h.DictOf (bj P w) a vs
 | .dT kvs=>kvs.length<=sizeLine/\(a == sysModules)=false/\∃xs:List (List aS×Addr×Value),
   Paired (λ(p:List aS×V)(q:List aS×Addr×Value)=>p.1=q.1/\H q.2.1=some (.tup (p.1.map kV))/\RelV p.2 q.2.2) kvs xs /\
   ∃o es ep,h.get? a=some o/\o.ExactDict/\o.data=.dict es ep/\es.toList=xs.map (entryOfKey (tupleKind (bj P w)))/\(xs.map (·.1)).Nodup
 | .set S n=>h.SetOf (intKind P w) a S n
 | .ins C dx fs=>H dx=some (.own a)/\fs.length<=1000/\dx≠a/\h.get? a=some (PySem.W.instObj C dx) /\
   ∃mA,h.Ns1 dx mA/\(∀f,jS (fs.lookup f) (mA f))/\PySem.Within mA (fs.map (·.1))
 | .own _=>∃o,h.get? a=some o
 | .xd fs=>∃mA,h.Ns1 a mA/\∀f,jS (fs.lookup f) (mA f)
 | .DE lo hi=>∃t u v,h.get? a=some { cls:=.type "range",data:=.fields #[.int lo t,.int hi u,.int 1 v] }
 | .ki o u=>h.get? a=some o/\cE H h a u
 | .tK ps=>h.get? a=some { cls:=.none,data:=.fields ps }
 | .met f x=>h.get? a=some (PySem.W.methodObj (.ref f) (.ref x))
 | .ext φ=>φ h/\(∃o,h.get? a=some o)/\∀h1 h2:Heap,φ h1->(∀o,h1.get? a=some o->h2.get? a=some o)->φ h2
def l7 (H:Hp)(h:Heap):Prop:=∀a o,H a=some o->cE P w H h a o
end
section
variable {P:Program}{w:World}{H H':Hp}{h h':Heap}{a:Addr}{o:HO}
theorem cE.lt (x:cE P w H h a o):a < h.objs.size:=by
 cases o with
 | lst xs=>obtain⟨_,_,_,_,e⟩:=x;exact ba e
 | tup xs=>obtain⟨_,_,_,p⟩:=x;exact p.lt
 | dK kvs=>obtain⟨_,_,_,_,o,_,_,e,_⟩:=x;exact ba e
 | dT kvs=>obtain⟨_,_,_,_,o,_,_,e,_⟩:=x;exact ba e
 | set S n=>obtain⟨o,_,_,_,e,_⟩:=x;exact ba e
 | ins C dx fs=>obtain⟨_,_,_,e,_⟩:=x;exact ba e
 | own y=>obtain⟨_,e⟩:=x;exact ba e
 | xd fs=>obtain⟨_,⟨_,_,_,e,_⟩,_⟩:=x;exact ba e
 | DE lo hi=>obtain⟨_,_,_,e⟩:=x;exact ba e
 | ki ob u=>obtain⟨e,_⟩:=x;exact ba e
 | tK ps=>exact ba (show h.get? a=some _ from x)
 | met f y=>exact ba (show h.get? a=some _ from x)
 | ext φ=>obtain⟨_,⟨_,e⟩,_⟩:=x;exact ba e
theorem Paired.dI {α β:Type}{F G:α->β->Prop}:∀{l₁:List α}{l₂:List β},Paired F l₁ l₂->(∀a b,F a b->G a b)->Paired G l₁ l₂
 | _,_,.nil,_=>.nil
 | _,_,.cons r t,f=>.cons (f _ _ r) (Paired.dI t f)
def cE.j_ (x:cE P w H h a o)(k:∀b u,(b=a\/H b=some (.own a))->h.get? b=some u->h'.get? b=some u)
  (ho:∀b,H b=some (.own a)->H' b=some (.own a))(ht:∀b xs,H b=some (.tup xs)->H' b=some (.tup xs)):cE P w H' h' a o:=by
 induction o with
 | lst xs=>obtain⟨z,aU,n,r,e⟩:=x;exact⟨z,aU,n,r,k _ _ (.inl rfl) e⟩
 | tup xs=>obtain⟨z,aU,r,ob,e,c⟩:=x;exact⟨z,aU,r,ob,k _ _ (.inl rfl) e,c⟩
 | dK kvs=>obtain⟨z,y,vs,r,ob,es,ep,e,c⟩:=x;exact⟨z,y,vs,r,ob,es,ep,k _ _ (.inl rfl) e,c⟩
 | dT kvs =>
  obtain⟨z,y,xs,r,ob,es,ep,e,c⟩:=x;exact⟨z,y,xs,Paired.dI r λp q z=>⟨z.1,ht _ _ z.2.1,z.2.2⟩,ob,es,ep,k _ _ (.inl rfl) e,c⟩
 | set S n=>obtain⟨ob,es,ep,t,e,c⟩:=x;exact⟨ob,es,ep,t,k _ _ (.inl rfl) e,c⟩
 | ins C dx fs =>
  obtain⟨d,z,ne,e,mA,⟨od,es,ep,e2,c⟩,r⟩:=x;exact⟨ho _ d,z,ne,k _ _ (.inl rfl) e,mA,⟨od,es,ep,k _ _ (.inr d) e2,c⟩,r⟩
 | own y=>obtain⟨ob,e⟩:=x;exact⟨ob,k _ _ (.inl rfl) e⟩
 | xd fs=>obtain⟨mA,⟨od,es,ep,e,c⟩,r⟩:=x;exact⟨mA,⟨od,es,ep,k _ _ (.inl rfl) e,c⟩,r⟩
 | DE lo hi=>obtain⟨t,u,v,e⟩:=x;exact⟨t,u,v,k _ _ (.inl rfl) e⟩
 | ki ob u ih=>obtain⟨e,q⟩:=x;exact⟨k _ _ (.inl rfl) e,ih q⟩
 | tK ps =>
  have e:h.get? a=some { cls:=.none,data:=.fields ps }:=x;show h'.get? a=some { cls:=.none,data:=.fields ps };exact k a _ (.inl rfl) e
 | met f y =>
  have e:h.get? a=some (PySem.W.methodObj (.ref f) (.ref y)):=x;show h'.get? a=some (PySem.W.methodObj (.ref f) (.ref y));exact k a _ (.inl rfl) e
 | ext φ=>obtain⟨p,⟨o,e⟩,st⟩:=x;exact⟨st _ _ p λo q=>k _ _ (.inl rfl) q,⟨o,k _ _ (.inl rfl) e⟩,st⟩
theorem l7.lt (x:l7 P w H h)(e:H a=some o):a < h.objs.size:=(x a o e).lt
def l7.fresh (x:l7 P w H h)(e:h.objs.size<=a):H a=none:=by
 cases q:H a with
 | none=>rfl
 | some u=>exact absurd (eU (x.lt q) e) (kI _)
def l7.kept (x:l7 P w H h)(k:∀b u,h.get? b=some u->h'.get? b=some u):l7 P w H h':=λa o e =>
 (x a o e).j_ (λb u _ q=>k b u q) (λ_ q=>q) λ_ _ q=>q
def l7.laid (x:l7 P w H h)(k:∀b u,h.get? b=some u->h'.get? b=some u)(hp:h.objs.size<=a)(new:cE P w (upd H a o) h' a o):l7 P w (upd H a o) h':=λb u e=>by
 have hn:=x.fresh hp;by_cases hb:b=a
 .subst hb;rw [ae] at e;cases e;exact new
 rw [aj hb] at e;exact(x b u e).j_ (λc v _ q=>k c v q) (λc q=>by rw [aj (ay q hn)];exact q) λc xs q=>by rw [aj (ay q hn)];exact q
end
def Rd (H:Hp)(a:Addr)(u:HO):Prop:=H a=some u\/∃o,H a=some (.ki o u)
def Rd.of {H:Hp}{a:Addr}{u:HO}(h:H a=some u):Rd H a u:=.inl h
def Rd.ok {P:Program}{w:World}{H:Hp}{h:Heap}{a:Addr}{u:HO}(r:Rd H a u)(x:l7 P w H h):cE P w H h a u:=by
 rcases r with r | ⟨o,r⟩
 .exact x a u r
 obtain⟨_,q⟩:=x a _ r;exact q
def Q9:Option HO->Prop
 | some (.lst _)=>True
 | some (.dK _)=>True
 | some (.dT _)=>True
 | some (.set _ _)=>True
 | some (.ins _ _ _)=>True
 | some (.ext _)=>True
 | _=>False
section
variable {P:Program}{w:World}{H:Hp}{h h':Heap}{x e:Addr}{o':HO}
def l7.write (ok:l7 P w H h)(mu:Q9 (H x))(he:e=x\/H e=some (.own x))(k:∀b u,b≠e->h.get? b=some u->h'.get? b=some u)(NO:∃u,h'.get? e=some u)
  (new:cE P w (upd H x o') h' x o'):l7 P w (upd H x o') h':=λb u q=>by
 have Pc:∀c y,H c=some (.own y)->c≠x:=λc y r z=>by subst z;rw [r] at mu;exact mu
 have T9:∀c xs,H c=some (.tup xs)->c≠x:=λc xs r z=>by subst z;rw [r] at mu;exact mu
 by_cases hb:b=x
 .subst hb;rw [ae] at q;cases q;exact new
 rw [aj hb] at q;by_cases Mx:b=e
 .have q':H b=some (.own x):=by
   rcases he with z | z
   .exact absurd (Mx.trans z) hb
   rw [Mx];exact z
  rw [q] at q';cases q';obtain⟨v,hv⟩:=NO;exact⟨v,by rw [Mx];exact hv⟩
 refine(ok b u q).j_ (λc v hc r=>k c v ?_ r) (λc r=>by rw [aj (Pc c b r)];exact r) λc xs r=>by rw [aj (T9 c xs r)];exact r
 rcases hc with rfl | hc
 .exact Mx
 rintro rfl;rcases he with z | z
 .exact Pc c b hc z
 rw [hc] at z;cases z;exact hb rfl
end
structure Un (fs ex:List Addr)(H H':Hp)(h h':Heap):Prop where
 keep:∀b o,h.get? b=some o->H b=none->b∉fs->b∉ex->h'.get? b=some o
 slot:∀b o,h.get? b=some o->H b=none->b∈fs->b∉ex->∃sl,h'.get? b=some { o with slots:=sl }
 free:∀b o,h.get? b=some o->H b=none->b∉ex->H' b=none
 there:∀b o,h.get? b=some o->b∉ex->∃o',h'.get? b=some o'
 o8:∀b xs,H b=some (.tup xs)->H' b=some (.tup xs)
 mF:∀b o u,H b=some (.ki o u)->H' b=some (.ki o u)
 ng:∀b ps,H b=some (.tK ps)->∃more,H' b=some (.tK (ps++more))
section
variable {fs Hw ex MT:List Addr}{H H1 H2:Hp}{h h1 h2 h':Heap}{a x e:Addr}{o:HO}
def Un.any (u:Un fs ex H H1 h h1){b:Addr}{ob:Obj}(q:h.get? b=some ob)(n:H b=none)(hx:b∉ex):∃sl,h1.get? b=some { ob with slots:=sl }:=by
 by_cases hb:b∈fs
 .exact u.slot b ob q n hb hx
 exact⟨ob.slots,u.keep b ob q n hb hx⟩
def Un.trans (a:Un fs ex H H1 h h1)(b:Un fs ex H1 H2 h1 h2):Un fs ex H H2 h h2 where
 keep:=λc ob q n hc hx=>b.keep c ob (a.keep c ob q n hc hx) (a.free c ob q n hx) hc hx
 slot:=λc ob q n hc hx=>by
  obtain⟨sl,e1⟩:=a.slot c ob q n hc hx;obtain⟨To,e2⟩:=b.slot c _ e1 (a.free c ob q n hx) hc hx;exact⟨To,e2⟩
 free:=λc ob q n hx=>by
  obtain⟨o',e1⟩:=a.there c ob q hx;exact b.free c o' e1 (a.free c ob q n hx) hx
 there:=λc ob q hx=>by
  obtain⟨o',e1⟩:=a.there c ob q hx;exact b.there c o' e1 hx
 o8:=λc xs q=>b.o8 c xs (a.o8 c xs q)
 mF:=λc ob xs q=>b.mF c ob xs (a.mF c ob xs q)
 ng:=λc ps q=>by
  obtain⟨m1,e1⟩:=a.ng c ps q;obtain⟨m2,e2⟩:=b.ng c _ e1;exact⟨m1++m2,by rw [e2,Array.append_assoc]⟩
def Un.kept (k:∀b u,h.get? b=some u->h'.get? b=some u):Un fs ex H H h h' :=
 ⟨λb ob q _ _ _=>k b ob q,λb ob q _ _ _=>⟨ob.slots,k b ob q⟩,λ_ _ _ n _=>n,λb ob q _=>⟨ob,k b ob q⟩,λ_ _ q=>q,λ_ _ _ q=>q,λ_ ps q=>⟨#[],by rw [q];simp⟩⟩
def Un.refl:Un fs ex H H h h:=Un.kept λ_ _ q=>q
def Un.laid (k:∀b u,h.get? b=some u->h'.get? b=some u)(hp:h.objs.size<=a)(hn:H a=none):Un fs ex H (upd H a o) h h' where
 keep:=λb u q _ _ _=>k b u q
 slot:=λb u q _ _ _=>⟨u.slots,k b u q⟩
 free:=λb u q n _=>by rw [aj (bM (eU (ba q) hp))];exact n
 there:=λb u q _=>⟨u,k b u q⟩
 o8:=λb xs q=>by rw [aj (ay q hn)];exact q
 mF:=λb u xs q=>by rw [aj (ay q hn)];exact q
 ng:=λb ps q=>⟨#[],by rw [aj (ay q hn),q];simp⟩
def Un.write (mu:Q9 (H x))(he:e=x\/H e=some (.own x))(k:∀b u,b≠e->h.get? b=some u->h'.get? b=some u)(NO:∃u,h'.get? e=some u):Un fs ex H (upd H x o) h h':=by
 have hx:∀b,H b=none->b≠x:=λb n z=>by subst z;rw [n] at mu;exact mu
 have hb:∀b,H b=none->b≠e:=λb n z=>by
  subst z;rcases he with r | r
  .exact hx b n r
  rw [n] at r;cases r
 have hm:∀b u,H b=some u->¬Q9 (some u)->b≠x:=λb u q nm z=>by subst z;rw [q] at mu;exact nm mu
 refine⟨λb u q n _ _=>k b u (hb b n) q,λb u q n _ _=>⟨u.slots,k b u (hb b n) q⟩,λb u q n _=>by rw [aj (hx b n)];exact n,λb u q _=>?_,
  λb xs q=>by rw [aj (hm b _ q λz=>z)];exact q,λb u xs q=>by rw [aj (hm b _ q λz=>z)];exact q,λb ps q=>⟨#[],by rw [aj (hm b _ q λz=>z),q];simp⟩⟩
 by_cases Mx:b=e
 .subst Mx;exact NO
 exact⟨u,k b u Mx q⟩
def Un.mono (u:Un fs ex H H1 h h1)(hs:∀b∈fs,b∈Hw)(hx:∀b∈ex,b∈MT):Un Hw MT H H1 h h1 :=
 ⟨λb ob q n hb he=>u.keep b ob q n (λz=>hb (hs b z)) λz=>he (hx b z),λ_ _ q n _ he=>u.any q n λz=>he (hx _ z),λb ob q n he=>u.free b ob q n λz=>he (hx b z),λb ob q he=>u.there b ob q λz=>he (hx b z),u.o8,u.mF,u.ng⟩
end
def He (h:Heap)(H:Hp):List Addr:=(List.range h.objs.size).filter λa=>(H a).isSome
def mE (h:Heap)(H:Hp):Heap:=PySem.W.hideAll h (He h H)
def uz (h:Heap)(H:Hp):(mE h H).objs.size=h.objs.size:=PySem.W.hideAll_size _ _
def xK {h:Heap}{H:Hp}{b:Addr}{o:Obj}(e:h.get? b=some o)(n:H b=none):(mE h H).get? b=some o :=
 PySem.W.hideAll_get _ e λhm=>by
  have q:(H b).isSome=true:=(lL.mp hm).2;rw [n] at q;simp at q
def Bs {h:Heap}{H:Hp}{b:Addr}{o:Obj}(e:(mE h H).get? b=some o):h.get? b=some o/\H b=none:=by
 have e':h.get? b=some o:=PySem.W.of_hideAll (He h H) e;refine⟨e',?_⟩;cases q:H b with
 | none=>rfl
 | some x =>
  have hm:b∈He h H:=lL.mpr ⟨kJ.mpr (ba e'),by simp [q]⟩;have z:(mE h H).get? b=none:=PySem.W.hideAll_none (He h H) hm;rw [z] at e;cases e
def Jt (g h:Heap)(L:Addr):List (Addr×Obj):=(List.range h.objs.size).filterMap λa=>if a=L\/(g.get? a).isSome=true then none else (h.get? a).map λo=>(a,o)
def rest (g h:Heap)(L d:Addr):List (Addr×Obj):=(Jt g h L).filter λp=>decide (p.1≠d)
structure Mod (K:a9)(mg:Str->Option Value)(base:Heap):Prop where
 PL:K.In base
 glob:base.Ns mainGlobals mg
 blt:∃mb,base.Ns builtinsNs mb/\∀x:Str,x ≠ "__name__" -> mb x=bootBuiltins x
 nolimit:base.NoLimit
structure Cx where
 prog:Program
 w:World
 K:a9
 mg:Str->Option Value
 base:Heap
 A:Around
 N:List Str
 s₀:Shared
 H₀:Hp
 env:Env
 outer:List Env
 stack:List Env
 ex:List Addr
 fn:Str->Bool
 calm:Bool
 pn:List (Addr×Obj)
 xe:Value->Shared->Prop
def CZ (l:List Env):List Addr:=l.filterMap (·.frame)
abbrev Cx.fs (X:Cx):List Addr:=CZ X.outer
def Sq (sc:Scope)(x:Str):Prop:=sc.names.lookup x=some .local\/sc.names.lookup x=some .cell\/sc.names.lookup x=some .free
def Loc (sc:Scope)(x:Str):Prop:=sc.names.lookup x=some .local\/sc.names.lookup x=some .cell
def Look (env:Env)(h:Heap)(m:Str->Option Value)(x:Str)(u:Value):Prop :=
 (env.kindOf x=some .local/\m x=some u)\/((env.kindOf x=some .cell\/env.kindOf x=some .free)/\∃c,env.cells.lookup x=some c/\h.IsCell c (some u))
structure Cx.Ok (X:Cx):Prop where
 mod:Mod X.K X.mg X.base
 kind:X.env.scope.kind=.function
 glob:X.env.globals=mainGlobals
 blt:X.env.builtins=builtinsNs
 above:X.s₀.heap.objs.size<=X.env.locals
 inj:∀x y c,X.env.cells.lookup x=some c->X.env.cells.lookup y=some c->x=y
 has:∀x,(X.env.kindOf x=some .cell\/X.env.kindOf x=some .free)->∃c,X.env.cells.lookup x=some c
 QX:∀x c,X.fn x=true->X.env.cells.lookup x=some c->X.s₀.heap.objs.size<=c
 hd:X.calm=true->X.A.handled=none
 frames:X.A.frames=some X.stack
 Rr:X.stack=X.outer\/(X.stack=X.env::X.outer/\X.env.frame=some X.env.locals)
 NY:∀b∈X.ex,b≠X.env.locals/\∀x c,X.env.cells.lookup x=some c->c≠b
 bs:∀b o,X.base.get? b=some o->X.s₀.heap.get? b=some o/\X.H₀ b=none
 HL:X.base.objs.size<=X.s₀.heap.objs.size
 Fz:∀b o,X.base.get? b=some o->b∉X.ex
 C5:∀b∈X.ex,b∉X.fs
 pJ:X.s₀.heap.FunFrames X.base X.outer
 Km:∀b∈X.fs,X.H₀ b=none
structure Inv (X:Cx)(ag:List (Addr×Obj))(σ:List (Option V))(H:Hp)(s:Shared):Prop where
 ok:X.Ok
 os:s.os=X.s₀.os
 bare:AllBare s.gens
 base:Un X.fs X.ex X.H₀ H X.s₀.heap s.heap
 loc:∃m,s.heap.Ns X.env.locals m/\∀(i:Nat)(x:Str)(v:V),X.N[i]?=some x->σ[i]?=some (some v)->Sq X.env.scope x->∃u,RelV v u/\Look X.env s.heap m x u
 cell:∀x c,X.env.cells.lookup x=some c->∃v,s.heap.IsCell c v
 free:H X.env.locals=none
 lY:∀x c,X.env.cells.lookup x=some c->H c=none
 pin:∀p∈X.pn++ag,s.heap.get? p.1=some p.2/\H p.1=none/\p.1≠X.env.locals/\p.1∉X.fs/\∀v,p.2.data≠.cell v
 b0:l7 X.prog X.w H s.heap
 len:σ.length=X.N.length
section
variable {X:Cx}{ag:List (Addr×Obj)}{σ:List (Option V)}{H H':Hp}{s:Shared}{h':Heap}
def Cx.Ok.Ub (ok:X.Ok){b:Addr}{o:Obj}(e:X.base.get? b=some o):b∉X.fs:=λhb=>by
 have:=(ok.pJ.mem hb).1;rw [e] at this;cases this
theorem Inv.bs (I:Inv X ag σ H s):∀b o,X.base.get? b=some o->s.heap.get? b=some o/\H b=none:=λb o e =>
 ⟨I.base.keep b o (I.ok.bs b o e).1 (I.ok.bs b o e).2 (I.ok.Ub e) (I.ok.Fz b o e),I.base.free b o (I.ok.bs b o e).1 (I.ok.bs b o e).2 (I.ok.Fz b o e)⟩
def Inv.bk (I:Inv X ag σ H s):∀b o,X.base.get? b=some o->s.heap.get? b=some o:=λb o e=>(I.bs b o e).1
theorem Inv.mod (I:Inv X ag σ H s):Mod X.K X.mg X.base:=I.ok.mod
def Inv.v9 (I:Inv X ag σ H s):X.K.In s.heap:=I.ok.mod.PL.keeps I.bk
theorem Inv.nolimit (I:Inv X ag σ H s):s.heap.NoLimit:=I.ok.mod.nolimit.keeps I.bk
def Inv.fr (I:Inv X ag σ H s):∃m,Fr X.base X.env.locals s.heap m :=
 let ⟨m,hn,_⟩:=I.loc
 ⟨m,hn,I.bk,fV I.ok.HL I.ok.above⟩
theorem Inv.lt (I:Inv X ag σ H s):X.env.locals < s.heap.objs.size:=let ⟨_,hn,_⟩:=I.loc;hn.lt
def Inv.sz (I:Inv X ag σ H s):X.s₀.heap.objs.size<=s.heap.objs.size:=fV I.ok.above (jG I.lt)
def Inv.Ua (I:Inv X ag σ H s){a:Addr}(h:s.heap.objs.size<=a):a∉X.fs:=λhb=>by
 obtain⟨_,o,ho,_⟩:=I.ok.pJ.mem hb;exact absurd (eU (ba ho) (fV I.sz h)) (kI _)
def Inv.Nh (I:Inv X ag σ H s):∀x c,X.env.cells.lookup x=some c->c≠X.env.locals:=λx c e z=>by
 obtain⟨v,o,ho,hd⟩:=I.cell x c e;obtain⟨m,⟨o',es,ep,CP,CT,_⟩,_⟩:=I.loc;rw [z,CP] at ho;cases ho;rw [CT] at hd;cases hd
theorem Inv.pJ (I:Inv X ag σ H s):s.heap.FunFrames X.base X.outer:=by
 have all:∀(l:List Env),(∀b∈CZ l,b∈X.fs)->X.s₀.heap.FunFrames X.base l->s.heap.FunFrames X.base l:=by
  intro l
  induction l with
  | nil=>intro _ _;trivial
  | cons env r ih =>
   intro hs hl;obtain⟨hk,⟨L,o,hf,hn,ho,hd⟩,hr⟩:=hl;have hL:L∈X.fs:=hs L (by unfold CZ;rw [rh,hf];exact cU);obtain⟨sl,e⟩:=I.base.slot L o ho (I.ok.Km L hL) hL λz=>I.ok.C5 L z hL;exact⟨hk,⟨L,_,hf,hn,e,hd⟩,ih (λb hb=>hs b (by unfold CZ;rw [rh,hf];exact dr _ hb)) hr⟩
 exact all X.outer (λ_ hb=>hb) I.ok.pJ
theorem Inv.stack (I:Inv X ag σ H s):s.heap.FunFrames X.base X.stack:=by
 rcases I.ok.Rr with e | ⟨e,hf⟩
 .rw [e];exact I.pJ
 rw [e];obtain⟨m,hn,_⟩:=I.loc;refine .cons (by rw [I.ok.kind];decide) hf hn ?_ I.pJ;exact Heap.get?_none_of_le (fV I.ok.HL I.ok.above)
def Inv.yU (I:Inv X ag σ H s):∀b∈CZ X.stack,b∈X.env.locals::X.fs:=λb hb=>by
 rcases I.ok.Rr with e | ⟨e,hf⟩
 .rw [e] at hb;exact dr _ hb
 rw [e] at hb;unfold CZ at hb;rw [rh,hf] at hb;exact hb
def Inv.A1 (I:Inv X ag σ H s):∀b∈CZ X.stack,H b=none:=λb hb=>by
 rcases cz.mp (I.yU b hb) with e | hb
 .rw [e];exact I.free
 obtain⟨_,o,ho,_⟩:=I.ok.pJ.mem hb;exact I.base.free b o ho (I.ok.Km b hb) λz=>I.ok.C5 b z hb
def Inv.step {g':Array GenState}{t':Nat}{d':Drawn}{ch:List Addr}(I:Inv X ag σ H s)
  (Hr:∀b∈ch,(b∈X.ex\/X.s₀.heap.objs.size<=b)/\b≠X.env.locals/\(∀x c,X.env.cells.lookup x=some c->c≠b)/\∀p∈X.pn++ag,p.1≠b)
  (keep:∀b o,b≠X.env.locals->b∉X.fs->b∉ch->s.heap.get? b=some o->H b=none->h'.get? b=some o)
  (slot:∀b o,b≠X.env.locals->b∈X.fs->b∉ch->s.heap.get? b=some o->H b=none->∃sl,h'.get? b=some { o with slots:=sl })(free:∀b o,b∉ch->s.heap.get? b=some o->H b=none->H' b=none)
  (there:∀b o,b∉ch->s.heap.get? b=some o->∃o',h'.get? b=some o')
  (o8:∀b xs,H b=some (.tup xs)->H' b=some (.tup xs))(mF:∀b o u,H b=some (.ki o u)->H' b=some (.ki o u))(ng:∀b ps,H b=some (.tK ps)->∃more,H' b=some (.tK (ps++more)))
  (ns:∀m,s.heap.Ns X.env.locals m->h'.Ns X.env.locals m)(b0:l7 X.prog X.w H' h')(hg:AllBare g') :
  Inv X ag σ H' { s with heap:=h',gens:=g',drawn:=d',toks:=t' }:=by
 have XZ:∀b o,X.s₀.heap.get? b=some o->b≠X.env.locals:=λb o e=>bM (eU (ba e) I.ok.above);have ND:∀b o,X.s₀.heap.get? b=some o->b∉X.ex->b∉ch:=λb o e hx hb=>by
  rcases (Hr b hb).1 with z | z
  .exact hx z
  exact absurd (eU (ba e) z) (kI _)
 have cellK:∀x c,X.env.cells.lookup x=some c->∀v,s.heap.IsCell c v->h'.IsCell c v:=λx c e v ⟨o,ho,hd⟩=>by
  have Pk:c∉ch:=λz=>(Hr c z).2.2.1 x c e rfl;by_cases hc:c∈X.fs
  .obtain⟨sl,q⟩:=slot c o (I.Nh x c e) hc Pk ho (I.lY x c e);exact⟨_,q,hd⟩
  exact⟨o,keep c o (I.Nh x c e) hc Pk ho (I.lY x c e),hd⟩
 refine⟨I.ok,I.os,hg,⟨λb o e n hb hx=>?_,λb o e n hb hx=>?_,λb o e n hx=>?_,λb o e hx=>?_,λb xs e=>o8 b xs (I.base.o8 b xs e),λb o xs e=>mF b o xs (I.base.mF b o xs e),λb ps e=>?_⟩,?_,λx c e=>?_,?_,λx c e=>?_,λp hp=>?_,b0,I.len⟩
 .exact keep b o (XZ b o e) hb (ND b o e hx) (I.base.keep b o e n hb hx) (I.base.free b o e n hx)
 .obtain⟨sl,e1⟩:=I.base.slot b o e n hb hx;obtain⟨To,e2⟩:=slot b _ (XZ b o e) hb (ND b o e hx) e1 (I.base.free b o e n hx);exact⟨To,e2⟩
 .obtain⟨o',e1⟩:=I.base.there b o e hx;exact free b o' (ND b o e hx) e1 (I.base.free b o e n hx)
 .obtain⟨o',e1⟩:=I.base.there b o e hx;exact there b o' (ND b o e hx) e1
 .obtain⟨m1,e1⟩:=I.base.ng b ps e;obtain⟨m2,e2⟩:=ng b _ e1;exact⟨m1++m2,by rw [e2,Array.append_assoc]⟩
 .obtain⟨m,hn,hl⟩:=I.loc;refine⟨m,ns m hn,λi x v e1 e2 e3=>?_⟩;obtain⟨u,r,l⟩:=hl i x v e1 e2 e3;refine⟨u,r,?_⟩;rcases l with l | ⟨k,c,e,z⟩
  .exact .inl l
  exact .inr ⟨k,c,e,cellK x c e _ z⟩
 .obtain⟨v,z⟩:=I.cell x c e;exact⟨v,cellK x c e v z⟩
 .obtain⟨m,⟨o,_,_,ho,_⟩,_⟩:=I.loc;exact free _ o (λz=>(Hr _ z).2.1 rfl) ho I.free
 .obtain⟨v,o,ho,hd⟩:=I.cell x c e;exact free c o (λz=>(Hr c z).2.2.1 x c e rfl) ho (I.lY x c e)
 obtain⟨e,n,ne,nf,d⟩:=I.pin p hp;have Pk:p.1∉ch:=λz=>(Hr p.1 z).2.2.2 p hp rfl;exact⟨keep p.1 p.2 ne nf Pk e n,free p.1 p.2 Pk e n,ne,nf,d⟩
def Inv.un {t':Nat}(I:Inv X ag σ H s)(u:Un X.fs [] H H' s.heap h')(b0:l7 X.prog X.w H' h'):Inv X ag σ H' { s with heap:=h',toks:=t' }:=by
 obtain⟨m,⟨o,es,ep,ho,r⟩,_⟩:=id I.loc;obtain⟨sl,hL⟩:=u.any ho I.free (by simp);exact I.step (g':=s.gens) (d':=s.drawn) (ch:=[]) (λ_ z=>nomatch z) (λb o _ hb _ e n=>u.keep b o e n hb (by simp)) (λb o _ hb _ e n=>u.slot b o e n hb (by simp)) (λb o _ e n=>u.free b o e n (by simp)) (λb o _ e=>u.there b o e (by simp)) u.o8 u.mF u.ng (λm' hm=>by
  obtain⟨o',wo,V8,CP,r'⟩:=hm;rw [ho] at CP;cases CP;exact⟨_,wo,V8,hL,r'⟩) b0 I.bare
def Inv.call {g':Array GenState}{t':Nat}{d':Drawn}{ch:List Addr}(I:Inv X ag σ H s)(u:Un (CZ X.stack) ch H H' s.heap h')(b0:l7 X.prog X.w H' h')(hg:AllBare g')
  (Hr:∀b∈ch,(b∈X.ex\/X.s₀.heap.objs.size<=b)/\b≠X.env.locals/\(∀x c,X.env.cells.lookup x=some c->c≠b)/\∀p∈X.pn++ag,p.1≠b) :
  Inv X ag σ H' { s with heap:=h',gens:=g',drawn:=d',toks:=t' }:=by
 obtain⟨m,⟨o,es,ep,ho,r⟩,_⟩:=id I.loc;obtain⟨sl,hL⟩:=u.any ho I.free λz=>(Hr _ z).2.1 rfl;exact I.step (ch:=ch) Hr (λb o hL hb hc e n=>u.keep b o e n (λz=>(cz.mp (I.yU b z)).elim hL hb) hc) (λb o _ _ hc e n=>u.any e n hc) (λb o hc e n=>u.free b o e n hc) (λb o hc e=>u.there b o e hc) u.o8 u.mF u.ng (λm' hm=>by
  obtain⟨o',wo,V8,CP,r'⟩:=hm;rw [ho] at CP;cases CP;exact⟨_,wo,V8,hL,r'⟩) b0 hg
def Inv.turned {t':Nat}{it:Addr}(I:Inv X ag σ H s)(k:∀b o,b≠it->s.heap.get? b=some o->h'.get? b=some o)(hn:H it=none)(hL:it≠X.env.locals)
  (h1:it∈X.ex\/X.s₀.heap.objs.size<=it)(h2:∀x c,X.env.cells.lookup x=some c->c≠it)(h3:∀p∈X.pn++ag,p.1≠it):Inv X ag σ H { s with heap:=h',toks:=t' }:=by
 have XY:∀b u,H b=some u->b≠it:=λb u e z=>by rw [z,hn] at e;cases e
 refine I.step (g':=s.gens) (d':=s.drawn) (ch:=[it]) (λb hb=>?_) (λb o _ _ hc e _=>k b o (λz=>hc (by simp [z])) e) (λb o _ _ hc e _=>⟨o.slots,k b o (λz=>hc (by simp [z])) e⟩) (λ_ _ _ _ n=>n)
  (λb o hc e=>⟨o,k b o (λz=>hc (by simp [z])) e⟩) (λ_ _ e=>e) (λ_ _ _ e=>e) (λb ps e=>⟨#[],by rw [e];simp⟩) (λm hm=>?_) (λb u e=>?_) I.bare
 .have e:b=it:=by simpa using hb
  subst e;exact⟨h1,hL,h2,h3⟩
 .obtain⟨o,es,ep,ho,r⟩:=hm;exact⟨o,es,ep,k _ o (cO hL) ho,r⟩
 refine(I.b0 b u e).j_ (λc v hc q=>k c v ?_ q) (λ_ q=>q) λ_ _ q=>q;rcases hc with z | z
 .rw [z];exact XY b u e
 exact XY c _ z
def Inv.tok (I:Inv X ag σ H s) (t:Nat):Inv X ag σ H { s with toks:=t }:=I.un (h':=s.heap) (t':=t) Un.refl I.b0
theorem Inv.kept {t':Nat}(I:Inv X ag σ H s)(k:∀b u,s.heap.get? b=some u->h'.get? b=some u):Inv X ag σ H { s with heap:=h',toks:=t' }:=I.un (Un.kept k) (I.b0.kept k)
theorem Inv.laid {a:Addr}{o:HO}{t':Nat}(I:Inv X ag σ H s)(k:∀b u,s.heap.get? b=some u->h'.get? b=some u)(hp:s.heap.objs.size<=a)(new:cE X.prog X.w (upd H a o) h' a o) :
  Inv X ag σ (upd H a o) { s with heap:=h',toks:=t' }:=I.un (Un.laid k hp (I.b0.fresh hp)) (I.b0.laid k hp new)
theorem Inv.write {x e:Addr}{o:HO}{t':Nat}(I:Inv X ag σ H s)(mu:Q9 (H x))(he:e=x\/H e=some (.own x))(k:∀b u,b≠e->s.heap.get? b=some u->h'.get? b=some u)(NO:∃u,h'.get? e=some u)
  (new:cE X.prog X.w (upd H x o) h' x o):Inv X ag σ (upd H x o) { s with heap:=h',toks:=t' }:=I.un (Un.write mu he k NO) (I.b0.write mu he k NO new)
def Inv.Bn {j6:List (Addr×Obj)}(I:Inv X ag σ H s)(h:∀p∈j6,s.heap.get? p.1=some p.2/\H p.1=none/\p.1≠X.env.locals/\p.1∉X.fs/\∀v,p.2.data≠.cell v):Inv X j6 σ H s :=
 ⟨I.ok,I.os,I.bare,I.base,I.loc,I.cell,I.free,I.lY,λp hp=>(cA.mp hp).elim (λz=>I.pin p (jl _ z)) (h p),I.b0,I.len⟩
def xA {N:List Str}(hN:N.Nodup){i j:Nat}{x:Str}(a:N[i]?=some x)(b:N[j]?=some x):i=j:=by
 obtain⟨h1,e1⟩:=bq.mp a;obtain⟨h2,e2⟩:=bq.mp b;exact(uW hN).mp (e1.trans e2.symm)
def uf {M:Model}{A:Around}{E:Value->Shared->Prop}{i:Nat}{x:Str}{v:V}{u:Value}{Q:Unit->Shared->Prop}(I:Inv X ag σ H s)(hN:X.N.Nodup)(hi:X.N[i]?=some x)(hx:Loc X.env.scope x)(r:RelV v u)
  (h:∀s',Inv X ag (σ.set i (some v)) H s'->(∃a,Heap.SameBut a s.heap s'.heap/\(a=X.env.locals\/X.env.cells.lookup x=some a))->Q () s')(hf:X.fn x=true\/X.env.scope.names.lookup x=some .local:=by first | exact .inl rfl | exact .inr rfl | assumption):wpAny M A (storeName X.env x u) Q E s:=by
 obtain⟨m,hn,hl⟩:=id I.loc;have Vy:(X.env.scope.kind == .class || (X.env.scope.kind == .module && X.env.locals != X.env.globals))=false:=by rw [I.ok.kind];rfl
 have YO:i < σ.length:=by rw [I.len];exact(bq.mp hi).1
 have Nh:=I.Nh;have tracked:∀{a:Addr}{h':Heap},(∃o,s.heap.get? a=some o/\H a=none)->Heap.SameBut a s.heap h'->l7 X.prog X.w H h':=λ{a h'} ha hs b ob e=>by
  obtain⟨_,_,n_⟩:=ha;refine(I.b0 b ob e).j_ (λc w' hc q=>(hs.2 c ?_).trans q) (λ_ q=>q) λ_ _ q=>q;rintro rfl;rcases hc with rfl | hc
  .rw [n_] at e;cases e
  rw [n_] at hc;cases hc
 rcases hx with hk | hk
 .refine wpAny_storeName_local hk hn (λh' I9 hs=>?_) Vy;obtain⟨oL,_,_,hoL,_⟩:=id hn;refine h _ ⟨I.ok,I.os,I.bare,⟨λb o e n hb hx=>?_,λb o e n hb hx=>?_,I.base.free,λb o e hx=>?_,I.base.o8,I.base.mF,I.base.ng⟩,⟨_,I9,λj y v' e1 e2 e3=>?_⟩,λy c e=>?_,I.free,I.lY,λp hp=>?_,tracked ⟨oL,hoL,I.free⟩ hs,by simpa using I.len⟩ ⟨_,hs,.inl rfl⟩
  .exact(hs.2 b (bM (eU (ba e) I.ok.above))).trans (I.base.keep b o e n hb hx)
  .obtain⟨sl,e1⟩:=I.base.slot b o e n hb hx;exact⟨sl,(hs.2 b (bM (eU (ba e) I.ok.above))).trans e1⟩
  .obtain⟨o',e1⟩:=I.base.there b o e hx;exact⟨o',(hs.2 b (bM (eU (ba e) I.ok.above))).trans e1⟩
  .by_cases hj:j=i
   .subst hj;rw [hi] at e1;cases e1;rw [List.getElem?_set_self YO] at e2;cases e2;exact⟨u,r,.inl ⟨hk,by simp⟩⟩
   rw [List.getElem?_set_ne (cO hj)] at e2;obtain⟨u',r',q⟩:=hl j y v' e1 e2 e3;refine⟨u',r',?_⟩;rcases q with ⟨k,e⟩ | ⟨k,c,e,z⟩
   .refine .inl ⟨k,?_⟩;have:y≠x:=λe=>hj (xA hN e1 (e ▸ hi));simp [this,e]
   exact .inr ⟨k,c,e,z.sameBut hs (Nh y c e)⟩
  .obtain⟨w',z⟩:=I.cell y c e;exact⟨w',z.sameBut hs (Nh y c e)⟩
  obtain⟨e,n,ne,nf,d⟩:=I.pin p hp;exact⟨(hs.2 p.1 ne).trans e,n,ne,nf,d⟩
 have Vo:X.fn x=true:=by
  rcases hf with z | z
  .exact z
  rw [z] at hk;cases hk
 obtain⟨c,hc⟩:=I.ok.has x (.inl hk);obtain⟨w',z⟩:=I.cell x c hc;refine wpAny_storeName_cell I.ok.kind hk hc z (λh' lH hs=>?_);obtain⟨oc,yx,Va⟩:=id z;refine h { s with heap:=h' } ⟨I.ok,I.os,I.bare,⟨λb o e n hb hx=>?_,λb o e n hb hx=>?_,I.base.free,λb o e hx=>?_,I.base.o8,I.base.mF,I.base.ng⟩,⟨m,hn.sameBut hs (cO (Nh x c hc)),λj y v' e1 e2 e3=>?_⟩,λy c' e=>?_,I.free,I.lY,λp hp=>?_,tracked ⟨oc,yx,I.lY x c hc⟩ hs,by simpa using I.len⟩ ⟨c,hs,.inr hc⟩
 .exact(hs.2 b (bM (eU (ba e) (I.ok.QX x c Vo hc)))).trans (I.base.keep b o e n hb hx)
 .obtain⟨sl,e1⟩:=I.base.slot b o e n hb hx;exact⟨sl,(hs.2 b (bM (eU (ba e) (I.ok.QX x c Vo hc)))).trans e1⟩
 .obtain⟨o',e1⟩:=I.base.there b o e hx;exact⟨o',(hs.2 b (bM (eU (ba e) (I.ok.QX x c Vo hc)))).trans e1⟩
 .by_cases hj:j=i
  .subst hj;rw [hi] at e1;cases e1;rw [List.getElem?_set_self YO] at e2;cases e2;exact⟨u,r,.inr ⟨.inl hk,c,hc,lH⟩⟩
  rw [List.getElem?_set_ne (cO hj)] at e2;obtain⟨u',r',q⟩:=hl j y v' e1 e2 e3;refine⟨u',r',?_⟩;rcases q with q | ⟨k,c',e,z'⟩
  .exact .inl q
  refine .inr ⟨k,c',e,z'.sameBut hs ?_⟩;rintro rfl;exact hj (xA hN e1 (I.ok.inj _ _ _ e hc ▸ hi))
 .by_cases YV:c'=c
  .subst YV;exact⟨_,lH⟩
  obtain⟨w2,z2⟩:=I.cell y c' e;exact⟨w2,z2.sameBut hs YV⟩
 obtain⟨e,n,ne,nf,d⟩:=I.pin p hp;refine⟨(hs.2 p.1 ?_).trans e,n,ne,nf,d⟩;intro q;rw [q,yx] at e;have q':oc=p.2:=gR e;exact d w' (by rw [<-q'];exact Va)
def rD {M:Model}{A:Around}{E:Value->Shared->Prop}{i:Nat}{x:Str}{v:V}{u:Value}{Q:Unit->Shared->Prop}(I:Inv X ag σ H s)(hN:X.N.Nodup)(hi:X.N[i]?=some x)(hx:Loc X.env.scope x)(r:RelV v u)
  (h:∀s',Inv X ag (σ.set i (some v)) H s'->Q () s')(hf:X.fn x=true\/X.env.scope.names.lookup x=some .local:=by first | exact .inl rfl | exact .inr rfl | assumption):wpAny M A (storeName X.env x u) Q E s :=
 uf I hN hi hx r (λs' I' _=>h s' I') hf
def Inv.KL {s':Shared}{ch:List Addr}(I:Inv X ag σ H s)(ho:s'.os=s.os)(u:Un (CZ X.stack) ch H H' s.heap s'.heap)(b0:l7 X.prog X.w H' s'.heap)(hg:AllBare s'.gens)
  (Hr:∀b∈ch,(b∈X.ex\/X.s₀.heap.objs.size<=b)/\b≠X.env.locals/\(∀x c,X.env.cells.lookup x=some c->c≠b)/\∀p∈X.pn++ag,p.1≠b):Inv X ag σ H' s':=by
 obtain⟨h',g',d',t',o'⟩:=s';have e:o'=s.os:=ho;subst e;exact I.call (g':=g') (t':=t') (d':=d') u b0 hg Hr
end
abbrev XK:=Value->Option Addr->Hp->Prop
abbrev St:=List (Option V)
abbrev aP (a:Addr):Option V:=some (.ref a)
abbrev VK:=V->Hp->Prop
abbrev TE:=St->Hp->VK->Prop
abbrev TT:=St->Hp->(Bool->Hp->Prop)->Prop
abbrev TA:=St->Hp->(List V->Hp->Prop)->Prop
structure Ends where
 nx:St->Hp->Prop
 rt:VK
 bk:St->Hp->Prop:=λ_ _=>False
 ct:St->Hp->Prop:=λ_ _=>False
abbrev TS:=Ends->St->Hp->Prop
def EP (X:Cx)(ag:List (Addr×Obj))(σ:St)(Q:VK)(u:Value)(s':Shared):Prop:=∃v H',Inv X ag σ H' s'/\RelV v u/\Q v H'
def TP (X:Cx)(ag:List (Addr×Obj))(σ:St)(Q:Bool->Hp->Prop)(b:Bool)(s':Shared):Prop:=∃H',Inv X ag σ H' s'/\Q b H'
def AP (X:Cx)(ag:List (Addr×Obj))(σ:St)(Q:List V->Hp->Prop)(us:List Value)(s':Shared):Prop:=∃vs H',Inv X ag σ H' s'/\a_ vs us/\Q vs H'
def SP (X:Cx)(ag:List (Addr×Obj))(D:Ends)(f:Flow)(s':Shared):Prop :=
 match f with
 | .next=>∃σ' H',Inv X ag σ' H' s'/\D.nx σ' H'
 | .brk=>∃σ' H',Inv X ag σ' H' s'/\D.bk σ' H'
 | .cont=>∃σ' H',Inv X ag σ' H' s'/\D.ct σ' H'
 | .ret u=>∃v σ' H',Inv X ag σ' H' s'/\RelV v u/\D.rt v H'
def PE (X:Cx)(e:Expr)(t:TE):Prop :=
 ∀(ag:List (Addr×Obj))(s:Shared)(σ:St)(H:Hp)(Q:VK),Inv X ag σ H s->t σ H Q->wpAny (model X.prog X.w) X.A (eval e X.env) (EP X ag σ Q) X.xe s
def PT (X:Cx)(e:Expr)(t:TT):Prop :=
 ∀(ag:List (Addr×Obj))(s:Shared)(σ:St)(H:Hp)(Q:Bool->Hp->Prop),Inv X ag σ H s->t σ H Q->wpAny (model X.prog X.w) X.A (isTrue e X.env (eval e X.env)) (TP X ag σ Q) X.xe s
def PW (X:Cx)(e:Expr)(t:TT):Prop :=
 ∀(whole:Sem Value)(ag:List (Addr×Obj))(s:Shared)(σ:St)(H:Hp)(Q:Bool->Hp->Prop),Inv X ag σ H s->t σ H Q->wpAny (model X.prog X.w) X.A (isTrue e X.env whole) (TP X ag σ Q) X.xe s
def PW.pt {X:Cx}{e:Expr}{t:TT}(h:PW X e t):PT X e t:=h _
def PA (X:Cx)(es:List Expr)(t:TA):Prop :=
 ∀(pos:Pos)(ag:List (Addr×Obj))(s:Shared)(σ:St)(H:Hp)(Q:List V->Hp->Prop),Inv X ag σ H s->t σ H Q->wpAny (model X.prog X.w) X.A (spliced (backTo pos (starEach es X.env))) (AP X ag σ Q) X.xe s
def PS (X:Cx)(st:Stmt)(t:TS):Prop :=
 ∀(ag:List (Addr×Obj))(s:Shared)(σ:St)(H:Hp)(D:Ends),Inv X ag σ H s->t D σ H->wpAny (model X.prog X.w) X.A (exec st X.env) (SP X ag D) X.xe s
def AG (X:Cx)(st:List Stmt)(t:TS):Prop :=
 ∀(ag:List (Addr×Obj))(s:Shared)(σ:St)(H:Hp)(D:Ends),Inv X ag σ H s->t D σ H->wpAny (model X.prog X.w) X.A (execs st X.env) (SP X ag D) X.xe s
def cI {α:Type}{t:Sem α}{Q Q':α->Shared->Prop}{M:Model}{A:Around}{E:Value->Shared->Prop}{s:Shared}(h:wpAny M A t Q E s)(hQ:∀a s,Q a s->Q' a s):wpAny M A t Q' E s:=dG h hQ λ_ _ x=>x
section
variable {X:Cx}
def bin {a b:Expr}{ta tb:TE}(ha:PE X a ta)(hb:PE X b tb){ag:List (Addr×Obj)}{s:Shared}{σ:St}{H:Hp}{R:V->V->Hp->Prop}(I:Inv X ag σ H s)(h:ta σ H λx H1=>tb σ H1 λy H2=>R x y H2)
  {α:Type}{Q:α->Shared->Prop}{f:Value->Value->Sem α}
  (hf:∀v u s2 x y H2,Inv X ag σ H2 s2->RelV x v->RelV y u->R x y H2->wpAny (model X.prog X.w) X.A (f v u) Q X.xe s2) :
  wpAny (model X.prog X.w) X.A (eval a X.env) (λv s₁=>wpAny (model X.prog X.w) X.A (eval b X.env) (λu s₂=>wpAny (model X.prog X.w) X.A (f v u) Q X.xe s₂) X.xe s₁) X.xe s:=by
 refine cI (ha ag s σ H _ I h) λv s1 ⟨x,H1,I1,r1,q1⟩=>?_;refine cI (hb ag s1 σ H1 _ I1 q1) λu s2 ⟨y,H2,I2,r2,q2⟩=>?_;exact hf v u s2 x y H2 I2 r1 r2 q2
def gW (i:Nat):TE:=λσ H Q=>∃v,σ[i]?=some (some v)/\Q v H
def tC (v:V):TE:=λ_ H Q=>Q v H
def LF {i:Nat}{x:Str}{pos:Pos}(hN:X.N[i]?=some x)(hv:Sq X.env.scope x)(hd:(x == ("__debug__":Str))=false:=by decide)(wg:(x == ("__classdict__":Str))=false:=by decide):PE X (.Name x pos) (gW i):=by
 intro ag s σ H Q I h;obtain⟨v,e,h⟩:=h;obtain⟨m,hn,hl⟩:=I.loc;obtain⟨u,r,l⟩:=hl i x v hN e hv;have fin:EP X ag σ Q u s:=⟨v,H,I,r,h⟩;rcases l with ⟨hk,hm⟩ | ⟨hk,c,hc,jy⟩
 .exact wpAny_Name (u4 I.ok.kind hk hn hm fin) hd
 rcases hk with hk | hk
 .exact wpAny_Name (wpAny_loadName_cell I.ok.kind hk hc jy fin) hd
 exact wpAny_Name (wpAny_loadName_free I.ok.kind hk hc jy fin wg) hd
def ao {i j pos}:PE X (.Constant (.int i) j pos) (tC (.int i)):=λ_ _ _ H _ I h=>wpAny_Constant_int ⟨.int i,H,I.tok _,⟨_,rfl⟩,h⟩
def dH {b j pos}:PE X (.Constant (.bool b) j pos) (tC (.bl b)):=λ_ _ _ H _ I h=>Constant_bool ⟨.bl b,H,I,rfl,h⟩
def je {j pos}:PE X (.Constant .none j pos) (tC .d6):=λ_ _ _ H _ I h=>Constant_none ⟨.d6,H,I,rfl,h⟩
def bT {x j pos}:PE X (.Constant (.str x) j pos) (tC (.str x)):=λ_ _ _ H _ I h=>Calls.Constant_str ⟨.str x,H,I.tok _,⟨_,rfl⟩,h⟩
def Gl (X:Cx)(x:Str):Prop:=X.env.kindOf x=some .globalImplicit
def v8 {E:Value->Shared->Prop}{ag:List (Addr×Obj)}{s:Shared}{σ:St}{H:Hp}{x:Str}{u:Value}{pos:Pos}{Q:Value->Shared->Prop}(I:Inv X ag σ H s)(hg:Gl X x)(hm:X.mg x=some u)(h:Q u s)
  (hd:(x == ("__debug__":Str))=false:=by decide):wpAny (model X.prog X.w) X.A (eval (.Name x pos) X.env) Q E s :=
 Calls.Name_function_global I.ok.kind hg (Calls.loadGlobal_global (by rw [I.ok.glob];exact I.mod.glob.keeps I.bk) hm h) hd
def iQ {E:Value->Shared->Prop}{ag:List (Addr×Obj)}{s:Shared}{σ:St}{H:Hp}{x:Str}{u:Value}{pos:Pos}{Q:Value->Shared->Prop}(I:Inv X ag σ H s)(hg:Gl X x)(hm:X.mg x=none)(hv:bootBuiltins x=some u)(h:Q u s)
  (hn:x ≠ "__name__" := by decide)(hd:(x == ("__debug__":Str))=false:=by decide):wpAny (model X.prog X.w) X.A (eval (.Name x pos) X.env) Q E s:=by
 obtain⟨mb,h1,h2⟩:=I.mod.blt;exact Calls.Name_function_global I.ok.kind hg (Calls.loadGlobal_builtin (by rw [I.ok.glob];exact I.mod.glob.keeps I.bk) hm (by rw [I.ok.blt];exact h1.keeps I.bk) ((h2 x hn).trans hv) h) hd
def Iy {x:Str}{v:V}{u:Value}{pos:Pos}(hg:Gl X x)(hm:X.mg x=some u)(r:RelV v u)(hd:(x == ("__debug__":Str))=false:=by decide):PE X (.Name x pos) (tC v) :=
 λ_ _ _ H _ I h=>v8 I hg hm ⟨v,H,I,r,h⟩ hd
def fK {x:Str}{v:V}{u:Value}{pos:Pos}(hg:Gl X x)(hm:X.mg x=none)(hv:bootBuiltins x=some u)(r:RelV v u)(hn:x ≠ "__name__" := by decide)(hd:(x == ("__debug__":Str))=false:=by decide):PE X (.Name x pos) (tC v) :=
 λ_ _ _ H _ I h=>iQ I hg hm hv ⟨v,H,I,r,h⟩ hn hd
variable {a b:Expr}{ta tb:TE}{pos:Pos}
def PC (X:Cx)(op:CmpOp)(a b:Expr)(t:TE):Prop :=
 ∀(ag:List (Addr×Obj))(s:Shared)(σ:St)(H:Hp)(Q:VK),Inv X ag σ H s->t σ H Q ->
  wpAny (model X.prog X.w) X.A (eval a X.env) (λv s₁=>wpAny (model X.prog X.w) X.A (eval b X.env) (λu s₂=>wpAny (model X.prog X.w) X.A (compareOp op v u) (EP X ag σ Q) X.xe s₂) X.xe s₁) X.xe s
def xB (b:Expr){op:CmpOp}(h:op≠.In)(h2:op≠.NotIn):behindInMarks op b=false:=by
 have e1:(op == CmpOp.In)=false:=by cases op <;> first | rfl | exact absurd rfl h
 have e2:(op == CmpOp.NotIn)=false:=by cases op <;> first | rfl | exact absurd rfl h2
 cases b <;> simp [behindInMarks,e1,e2]
def Tb (ta:TE):TE:=λσ H Q=>ta σ H λx H1=>Q (.bl (decide (x=.d6))) H1
def OA (ta:TE):TE:=λσ H Q=>ta σ H λx H1=>Q (.bl (!decide (x=.d6))) H1
def RelV.xy {x:V}{v:Value}(r:RelV x v):(v == Value.none)=decide (x=.d6):=by
 cases x with
 | d6=>cases r;rfl
 | bl _=>cases r;rfl
 | int _=>obtain⟨t,rfl⟩:=r;rfl
 | str _=>obtain⟨t,rfl⟩:=r;rfl
 | AB _=>obtain⟨t,rfl⟩:=r;rfl
 | MR _=>obtain⟨t,rfl⟩:=r;rfl
 | ref _=>cases r;rfl
 | ty _=>cases r;rfl
def rW {j pos'}(ha:PE X a ta):PC X .Is a (.Constant .none j pos') (Tb ta):=by
 intro ag s σ H Q I h;refine cI (ha ag s σ H _ I h) λv s1 ⟨x,H1,I1,r1,q1⟩=>?_;exact Constant_none (is_none_gen ⟨.bl _,H1,I1,by rw [r1.xy];rfl,q1⟩)
def Bq {j pos'}(ha:PE X a ta):PC X .IsNot a (.Constant .none j pos') (OA ta):=by
 intro ag s σ H Q I h;refine cI (ha ag s σ H _ I h) λv s1 ⟨x,H1,I1,r1,q1⟩=>?_;exact Constant_none (isnot_none_gen ⟨.bl _,H1,I1,by rw [r1.xy];rfl,q1⟩)
def tB (t:TE):TT:=λσ H Q=>t σ H λx H1=>∃c,x=.bl c/\Q c H1
def zH {op:CmpOp}{t:TE}(h:PC X op a b t)(h1:behindInMarks op b=false:=by first | exact xB _ (by decide) (by decide) | rfl):PE X (.Compare a [op] [b] pos) t:=λag s σ H Q I hw=>wpAny_Compare1 (h ag s σ H Q I hw) h1
def cY {op:CmpOp}{t:TE}(h:PC X op a b t)(h1:behindInMarks op b=false:=by first | exact xB _ (by decide) (by decide) | rfl):PT X (.Compare a [op] [b] pos) (tB t):=by
 intro ag s σ H Q I hw;refine wpAny_isTrue_Compare1 (cI (h ag s σ H _ I hw) λv s1 h1=>cI h1 λu s2 h2=>cI h2 λc s3 ⟨x,H1,I1,r1,q1⟩=>?_) h1;obtain⟨d,rfl,q⟩:=q1;cases r1;exact kj ⟨H1,I1,q⟩
def cX {e:Expr}{t:TE}(h:PE X e t)(he:∀whole,isTrue e X.env whole=(do let v <-whole;standAt e.pos;holding [v] (truthy v)):=by intro _;rfl):PT X e (tB t):=by
 intro ag s σ H Q I hw;refine isTrue_plain (cI (h ag s σ H _ I hw) λv s1 ⟨x,H1,I1,r1,q1⟩=>?_) (he _);obtain⟨d,rfl,q⟩:=q1;cases r1;exact kj ⟨H1,I1,q⟩
variable {tA Ro:TT}{rest:List Expr}
def Th (t u:TT):TT:=λσ H Q=>t σ H λc H1=>if c=true then u σ H1 Q else Q false H1
def tOr (t u:TT):TT:=λσ H Q=>t σ H λc H1=>if c=true then Q true H1 else u σ H1 Q
def S_ (t:TT):TT:=λσ H Q=>t σ H λc H1=>Q (!c) H1
def gE (ha:PT X a tA):PW X (.BoolOp .And [a] pos) tA:=by
 intro wh ag s σ H Q I h;refine isTrue_and (cI (ha ag s σ H Q I h) λc s1 e=>?_);cases c with
 | true=>exact isTrue_and_nil e
 | false=>exact e
def ip (ha:PT X a tA):PW X (.BoolOp .Or [a] pos) tA:=by
 intro wh ag s σ H Q I h;refine isTrue_or (cI (ha ag s σ H Q I h) λc s1 e=>?_);cases c with
 | false=>exact isTrue_or_nil e
 | true=>exact e
def iJ (ha:PT X a tA)(hb:PW X (.BoolOp .And (b::rest) pos) Ro):PW X (.BoolOp .And (a::b::rest) pos) (Th tA Ro):=by
 intro wh ag s σ H Q I h;refine isTrue_and (cI (ha ag s σ H _ I h) λc s1 ⟨H1,I1,q1⟩=>?_);cases c with
 | true=>exact hb wh ag s1 σ H1 Q I1 q1
 | false=>exact⟨H1,I1,q1⟩
def jt (ha:PT X a tA)(hb:PW X (.BoolOp .Or (b::rest) pos) Ro):PW X (.BoolOp .Or (a::b::rest) pos) (tOr tA Ro):=by
 intro wh ag s σ H Q I h;refine isTrue_or (cI (ha ag s σ H _ I h) λc s1 ⟨H1,I1,q1⟩=>?_);cases c with
 | true=>exact⟨H1,I1,q1⟩
 | false=>exact hb wh ag s1 σ H1 Q I1 q1
def gi (ha:PT X a tA):PT X (.UnaryOp .Not a pos) (S_ tA):=by
 intro ag s σ H Q I h;exact isTrue_not (ha ag s σ H (λc H1=>Q (!c) H1) I h)
def ON (ta tb:TE):TE:=λσ H Q=>ta σ H λx H1=>∃c,x=.bl c/\if c=true then tb σ H1 Q else Q (.bl false) H1
def SY (ta tb:TE):TE:=λσ H Q=>ta σ H λx H1=>∃c,x=.bl c/\if c=true then Q (.bl true) H1 else tb σ H1 Q
def Oz (ta:TE):TE:=λσ H Q=>ta σ H λx H1=>∃c,x=.bl c/\Q (.bl (!c)) H1
def kQ {op}{t:TE}(h:PE X a t):PE X (.BoolOp op [a] pos) t:=λag s σ H Q I hw=>BoolOp_one (h ag s σ H Q I hw)
def jL (ha:PE X a ta)(hb:PE X (.BoolOp .And (b::rest) pos) tb):PE X (.BoolOp .And (a::b::rest) pos) (ON ta tb):=by
 intro ag s σ H Q I h;refine BoolOp_and (cI (ha ag s σ H _ I h) λv s1 ⟨x,H1,I1,r1,q1⟩=>?_);obtain⟨c,rfl,q1⟩:=q1;cases r1;refine kj ?_;cases c with
 | true=>exact hb ag s1 σ H1 Q I1 q1
 | false=>exact⟨.bl false,H1,I1,rfl,q1⟩
def O8 (ha:PE X a ta)(hb:PE X (.BoolOp .Or (b::rest) pos) tb):PE X (.BoolOp .Or (a::b::rest) pos) (SY ta tb):=by
 intro ag s σ H Q I h;refine BoolOp_or (cI (ha ag s σ H _ I h) λv s1 ⟨x,H1,I1,r1,q1⟩=>?_);obtain⟨c,rfl,q1⟩:=q1;cases r1;refine kj ?_;cases c with
 | false=>exact hb ag s1 σ H1 Q I1 q1
 | true=>exact⟨.bl true,H1,I1,rfl,q1⟩
def zF (ha:PE X a ta):PE X (.UnaryOp .Not a pos) (Oz ta):=by
 intro ag s σ H Q I h;refine UnaryOp_ (cI (ha ag s σ H _ I h) λv s1 ⟨x,H1,I1,r1,q1⟩=>?_);obtain⟨c,rfl,q1⟩:=q1;cases r1;exact not_of (kj ⟨.bl (!c),H1,I1,rfl,q1⟩)
def tIf (t:TT)(ta tb:TE):TE:=λσ H Q=>t σ H λc H1=>if c=true then ta σ H1 Q else tb σ H1 Q
def rV {c:Expr}(hc:PT X c tA)(ha:PE X a ta)(hb:PE X b tb):PE X (.IfExp c a b pos) (tIf tA ta tb):=by
 intro ag s σ H Q I h;refine wpAny_IfExp (cI (hc ag s σ H _ I h) λd s1 ⟨H1,I1,q1⟩=>?_);cases d with
 | true=>exact ha ag s1 σ H1 Q I1 q1
 | false=>exact hb ag s1 σ H1 Q I1 q1
end
def aI (K:a9)(H:Hp)(a:Addr)(xs:List V):Prop :=
 Rd H a (.lst xs) \/
  ∃(o:Obj)(aU:Array Value) (n:Nat),K.lookup a=some o/\o.cls=.type "list" /\ o.dict=none/\o.data=.seq aU n/\aU.size<=sizeLine/\a_ xs aU.toList
def aQ (K:a9)(H:Hp)(a:Addr)(xs:List V):Prop :=
 Rd H a (.tup xs) \/
  ∃(o:Obj)(aU:Array Value) (n:Nat),K.lookup a=some o/\o.cls=.type "tuple" /\ o.data=.seq aU n/\aU.size<=sizeLine/\a_ xs aU.toList
def WW:Value->Option V
 | .none=>some .d6
 | .bool b=>some (.bl b)
 | .int i _=>some (.int i)
 | .str x _=>some (.str x)
 | .bytes b _=>some (.AB b)
 | .float b _=>some (.MR b)
 | .ref a=>some (.ref a)
 | .type n=>some (.ty n)
 | _=>none
def RelV.abs {x:V}{u:Value}(r:RelV x u):WW u=some x:=by
 cases x with
 | d6=>cases r;rfl
 | bl _=>cases r;rfl
 | int _=>obtain⟨t,rfl⟩:=r;rfl
 | str _=>obtain⟨t,rfl⟩:=r;rfl
 | AB _=>obtain⟨t,rfl⟩:=r;rfl
 | MR _=>obtain⟨t,rfl⟩:=r;rfl
 | ref _=>cases r;rfl
 | ty _=>cases r;rfl
def RelV.inj {x y:V}{u:Value}(r:RelV x u)(q:RelV y u):x=y:=gR (r.abs.symm.trans q.abs)
theorem a_.inj:∀{xs ys:List V}{us:List Value},a_ xs us->a_ ys us->xs=ys
 | _,_,_,.nil,.nil=>rfl
 | _,_,_,.cons r t,.cons r' t'=>by rw [r.inj r',a_.inj t t']
section
variable {X:Cx}{ag:List (Addr×Obj)}{σ:St}{H:Hp}{s:Shared}{a:Addr}{xs ys:List V}
def aI.of {K:a9}(h:H a=some (.lst xs)):aI K H a xs:=.inl (.inl h)
def aQ.of {K:a9}(h:H a=some (.tup xs)):aQ K H a xs:=.inl (.inl h)
def Inv.list (I:Inv X ag σ H s)(h:aI X.K H a xs):∃aU:List Value,a_ xs aU/\PlainL s.heap a aU.toArray/\xs.length<=sizeLine:=by
 rcases h with h | ⟨o,aU,n,hk,hc,hd,hs,hz,r⟩
 .obtain⟨z,aU,n,r,e⟩:=h.ok I.b0;exact⟨aU,r,⟨_,n,e,rfl,rfl,rfl⟩,z⟩
 refine⟨aU.toList,r,⟨o,n,I.v9 a o hk,hc,hd,by simpa using hs⟩,?_⟩;have e:=r.length;simp only [rg] at e;omega
def Inv.tuple (I:Inv X ag σ H s)(h:aQ X.K H a xs):∃aU:List Value,a_ xs aU/\IsTup s.heap a aU.toArray/\xs.length<=sizeLine:=by
 rcases h with h | ⟨o,aU,n,hk,hc,hs,hz,r⟩
 .obtain⟨z,aU,r,p⟩:=h.ok I.b0;exact⟨aU,r,p,z⟩
 refine⟨aU.toList,r,⟨o,I.v9 a o hk,hc,n,by simpa using hs⟩,?_⟩;have e:=r.length;simp only [rg] at e;omega
def Inv.sf (I:Inv X ag σ H s)(h:aI X.K H a xs)(h':aI X.K H a ys):xs=ys:=by
 obtain⟨aU,r,⟨o,n,e,_,_,d⟩,_⟩:=I.list h;obtain⟨sj,r',⟨o',n',e',_,_,d'⟩,_⟩:=I.list h';rw [e] at e';cases e';rw [d] at d';injection d' with d1 _;have:aU=sj:=by simpa using congrArg Array.toList d1
 subst this;exact r.inj r'
def Inv.ub (I:Inv X ag σ H s)(h:aQ X.K H a xs)(h':aQ X.K H a ys):xs=ys:=by
 obtain⟨aU,r,⟨o,e,_,n,d⟩,_⟩:=I.tuple h;obtain⟨sj,r',⟨o',e',_,n',d'⟩,_⟩:=I.tuple h';rw [e] at e';cases e';rw [d] at d';injection d' with d1 _;have:aU=sj:=by simpa using congrArg Array.toList d1
 subst this;exact r.inj r'
end
abbrev Cx.ql (X:Cx)(E:Value->Shared->Prop):Cx:={ X with xe:=E }
abbrev Cx.Cy (X:Cx):Cx:=X.ql λ_ _=>False
theorem Cx.Ok.ql {X:Cx}(ok:X.Ok)(E:Value->Shared->Prop):(X.ql E).Ok :=
 ⟨ok.mod,ok.kind,ok.glob,ok.blt,ok.above,ok.inj,ok.has,ok.QX,ok.hd,ok.frames,ok.Rr,ok.NY,ok.bs,ok.HL,ok.Fz,ok.C5,ok.pJ,ok.Km⟩
def Cx.Ok.jc {X:Cx}{E:Value->Shared->Prop}(ok:(X.ql E).Ok):X.Ok :=
 ⟨ok.mod,ok.kind,ok.glob,ok.blt,ok.above,ok.inj,ok.has,ok.QX,ok.hd,ok.frames,ok.Rr,ok.NY,ok.bs,ok.HL,ok.Fz,ok.C5,ok.pJ,ok.Km⟩
section
variable {X:Cx}{ag:List (Addr×Obj)}{σ:St}{H:Hp}{s:Shared}{E:Value->Shared->Prop}
theorem Inv.ql (I:Inv X ag σ H s)(E:Value->Shared->Prop):Inv (X.ql E) ag σ H s:=⟨I.ok.ql E,I.os,I.bare,I.base,I.loc,I.cell,I.free,I.lY,I.pin,I.b0,I.len⟩
theorem Inv.jc (I:Inv (X.ql E) ag σ H s):Inv X ag σ H s:=⟨I.ok.jc,I.os,I.bare,I.base,I.loc,I.cell,I.free,I.lY,I.pin,I.b0,I.len⟩
theorem SP.jc {D:Ends}{f:Flow}{s':Shared}(h:SP (X.ql E) ag D f s'):SP X ag D f s':=by
 cases f with
 | next=>obtain⟨σ',H',I,q⟩:=h;exact⟨σ',H',I.jc,q⟩
 | brk=>obtain⟨σ',H',I,q⟩:=h;exact⟨σ',H',I.jc,q⟩
 | cont=>obtain⟨σ',H',I,q⟩:=h;exact⟨σ',H',I.jc,q⟩
 | ret u=>obtain⟨v,σ',H',I,r,q⟩:=h;exact⟨v,σ',H',I.jc,r,q⟩
theorem PE.Cy {e:Expr}{t:TE}(h:PE X.Cy e t):PE X e t:=λag s σ H Q I hw =>
 dG (h ag s σ H Q (I.ql _) hw) (λ_ _ ⟨v,H',I',r,q⟩=>⟨v,H',I'.jc,r,q⟩) λ_ _ z=>False.elim z
theorem PT.Cy {e:Expr}{t:TT}(h:PT X.Cy e t):PT X e t:=λag s σ H Q I hw =>
 dG (h ag s σ H Q (I.ql _) hw) (λ_ _ ⟨H',I',q⟩=>⟨H',I'.jc,q⟩) λ_ _ z=>False.elim z
theorem AG.Cy {st:List Stmt}{t:TS}(h:AG X.Cy st t):AG X st t:=λag s σ H D I hw =>
 dG (h ag s σ H D (I.ql _) hw) (λ_ _ q=>q.jc) λ_ _ z=>False.elim z
end
section
variable {X:Cx}{st:Stmt}{rest:List Stmt}{t u:TS}{e:Expr}{te:TE}{pos:Pos}
def OB:TS:=λD σ H=>D.nx σ H
def K8 (t u:TS):TS:=λD σ H=>t { D with nx:=u D } σ H
def aM:AG X [] OB:=λ_ _ σ H _ I h=>wpAny_execs_nil ⟨σ,H,I,h⟩
def ai (h1:PS X st t)(h2:AG X rest u):AG X (st::rest) (K8 t u):=by
 intro ag s σ H D I h;refine wpAny_execs_cons (cI (h1 ag s σ H { D with nx:=u D } I h) λf s1 q=>?_);cases f with
 | next =>
  obtain⟨σ',H',I',q⟩:=q;exact h2 ag s1 σ' H' D I' q
 | ret v=>exact q
 | brk=>exact q
 | cont=>exact q
def ak (h1:PS X st t):AG X [st] t:=by
 intro ag s σ H D I h;refine wpAny_execs_cons (cI (h1 ag s σ H D I h) λf s1 q=>?_);cases f with
 | next=>exact wpAny_execs_nil q
 | ret v=>exact q
 | brk=>exact q
 | cont=>exact q
def Lb:TS:=λD σ H=>D.bk σ H
def EW:PS X (.Break pos) Lb:=λ_ _ σ H _ I h=>wpAny_Break ⟨σ,H,I,h⟩
def Inv.quiet {ag:List (Addr×Obj)}{σ:St}{H:Hp}{s:Shared}(I:Inv X ag σ H s):interactive X.env=false:=by simp [interactive,I.ok.kind]
def OH (te:TE):TS:=λD σ H=>te σ H λ_ H1=>D.nx σ H1
def bW (he:PE X e te)(hs:swapsWith e none pos.line X.env=pure false:=by rfl):PS X (.Expr e pos) (OH te):=by
 intro ag s σ H D I h;exact wpAny_Expr_any (cI (he ag s σ H _ I h) λv s1 ⟨x,H1,I1,r1,q1⟩=>⟨σ,H1,I1,q1⟩) I.quiet hs
def SX (te:TE):TS:=λD σ H=>te σ H D.rt
def aL (he:PE X e te):PS X (.Return (some e) pos) (SX te):=by
 intro ag s σ H D I h;exact wpAny_Return_some (cI (he ag s σ H _ I h) λv s1 ⟨x,H1,I1,r1,q1⟩=>⟨x,σ,H1,I1,r1,q1⟩)
def Tc (c:TT)(t u:TS):TS:=λD σ H=>c σ H λb H1=>if b=true then t D σ H1 else u D σ H1
def bw {c:Expr}{a b:List Stmt}{tc:TT}(hc:PT X c tc)(ha:AG X a t)(hb:AG X b u):PS X (.If c a b pos) (Tc tc t u):=by
 intro ag s σ H D I h;refine wpAny_If (cI (hc ag s σ H _ I h) λd s1 ⟨H1,I1,q1⟩=>?_);cases d with
 | true=>exact ha ag s1 σ H1 D I1 q1
 | false=>exact hb ag s1 σ H1 D I1 q1
def K9:TS:=λ_ _ _=>False
def iL:PS X st K9:=λ_ _ _ _ _ _ h=>h.elim
end
abbrev TG:=V->St->Hp->(St->Hp->Prop)->Prop
abbrev KR:=List V->St->Hp->(St->Hp->Prop)->Prop
def PG (X:Cx)(target:Expr)(t:TG):Prop :=
 ∀(ag:List (Addr×Obj))(s:Shared)(σ:St)(H:Hp)(v:V)(u:Value)(Q:St->Hp->Prop),Inv X ag σ H s->RelV v u->t v σ H Q ->
  wpAny (model X.prog X.w) X.A (assign target X.env u) (λ_ s'=>∃σ' H',Inv X ag σ' H' s'/\Q σ' H') X.xe s
def Q7 (X:Cx)(ts:List Expr)(t:KR):Prop :=
 ∀(ag:List (Addr×Obj))(s:Shared)(σ:St)(H:Hp)(vs:List V)(us:List Value)(Q:St->Hp->Prop),Inv X ag σ H s->a_ vs us->t vs σ H Q ->
  wpAny (model X.prog X.w) X.A (assignInOrder ((assignEach ts X.env).map (·.2)) us) (λ_ s'=>∃σ' H',Inv X ag σ' H' s'/\Q σ' H') X.xe s
abbrev Sr:=V->V->Hp->VK->Prop
def Z_ (X:Cx)(op:Operator)(t:Sr):Prop :=
 ∀(ag:List (Addr×Obj))(s:Shared)(σ:St)(H:Hp)(x y:V)(v u:Value)(Q:VK),Inv X ag σ H s->RelV x v->RelV y u->t x y H Q ->
  wpAny (model X.prog X.w) X.A (inplaceOp op v u) (EP X ag σ Q) X.xe s
section
variable {X:Cx}{pos:Pos}
def dP (i:Nat):TG:=λv σ H Q=>Q (σ.set i (some v)) H
def aq {i:Nat}{x:Str}(hN:X.N.Nodup)(hi:X.N[i]?=some x)(hx:Loc X.env.scope x)(hf:X.fn x=true\/X.env.scope.names.lookup x=some .local:=by first | exact .inl rfl | exact .inr rfl | assumption):PG X (.Name x pos) (dP i):=by
 intro ag s σ H v u Q I r h;exact wpAny_assign_Name (rD I hN hi hx r (λs' I'=>⟨_,H,I',h⟩) hf)
def CW:KR:=λvs σ H Q=>vs=[]/\Q σ H
def jA (t:TG)(u:KR):KR:=λvs σ H Q=>∃v r,vs=v::r/\t v σ H λσ' H'=>u r σ' H' Q
def b8:Q7 X [] CW:=by
 intro ag s σ H vs us Q I r h;obtain⟨e,h⟩:=h;subst e;cases r;exact assignInOrder_nil ⟨σ,H,I,h⟩
def aE {e:Expr}{es:List Expr}{t:TG}{u:KR}(h1:PG X e t)(h2:Q7 X es u)
  (hs:(assignEach (e::es) X.env).map (·.2)=assign e X.env::(assignEach es X.env).map (·.2):=by rfl):Q7 X (e::es) (jA t u):=by
 intro ag s σ H vs us Q I r h;obtain⟨v,vr,e1,h⟩:=h;subst e1;cases r with
 | cons r rr =>
  rw [hs];refine assignInOrder_cons (cI (h1 ag s σ H _ _ _ I r h) λ_ s1 ⟨σ1,H1,I1,q1⟩=>?_);exact h2 ag s1 σ1 H1 _ _ Q I1 rr q1
def Aj (K:a9) (n:Nat)(t:KR):TG:=λv σ H Q=>∃a xs,v=.ref a/\aQ K H a xs/\xs.length=n/\t xs σ H Q
def gI {es:List Expr}{k:Nat}{t:KR}{n:Nat}(hc:X.calm=true)(h:Q7 X es t)
  (hn:(assignEach es X.env).length=n:=by rfl)(yt:(assignEach es X.env).findIdx? (·.1)=none:=by rfl):PG X (.Tuple es k pos) (Aj X.K n t):=by
 intro ag s σ H v u Q I r hw;obtain⟨a,xs,e1,hq,hl,hw⟩:=hw;subst e1;cases r;obtain⟨aU,rv,ht,hz⟩:=I.tuple hq;refine assign_Tuple_tuple (I.ok.hd hc) ht (by simp [hn,<-hl,rv.length]) yt λh' hx=>?_;have I1:Inv X ag σ H { s with heap:=h' }:=I.kept (t':=s.toks) λb o e=>hx b o (bM (ba e)) e;exact h ag _ σ H xs _ Q I1 (by simpa using rv) hw
def OM (te:TE)(g:TG):TS:=λD σ H=>te σ H λx H1=>g x σ H1 D.nx
def aA {i:Nat}{x:Str}{e:Expr}{te:TE}{pos':Pos}(hN:X.N.Nodup)(hi:X.N[i]?=some x)(hx:Loc X.env.scope x)(he:PE X e te)(hs:swapsWith e (some (.Name x pos')) pos.line X.env=pure false:=by rfl)(hf:X.fn x=true\/X.env.scope.names.lookup x=some .local:=by first | exact .inl rfl | exact .inr rfl | assumption) :
  PS X (.Assign [.Name x pos'] e pos) (OM te (dP i)):=by
 intro ag s σ H D I h;refine wpAny_Assign_Name (cI (he ag s σ H _ I h) λv s1 ⟨y,H1,I1,r1,q1⟩=>?_) hs;exact rD I1 hN hi hx r1 (λs2 I2=>⟨_,H1,I2,q1⟩) hf
def Tg (i:Nat)(te:TE)(ti:Sr):TS:=λD σ H=>∃x,σ[i]?=some (some x)/\te σ H λy H1=>ti x y H1 λz H2=>D.nx (σ.set i (some z)) H2
def LD {i:Nat}{x:Str}{e:Expr}{te:TE}{op:Operator}{ti:Sr}{pos':Pos}(hN:X.N.Nodup)(hi:X.N[i]?=some x)(hx:Loc X.env.scope x)(he:PE X e te)(ho:Z_ X op ti)(hf:X.fn x=true\/X.env.scope.names.lookup x=some .local:=by first | exact .inl rfl | exact .inr rfl | assumption) :
  PS X (.AugAssign (.Name x pos') op e pos) (Tg i te ti):=by
 intro ag s σ H D I h;obtain⟨v,e1,h⟩:=h;obtain⟨m,hn,hl⟩:=I.loc;have vis:Sq X.env.scope x:=by rcases hx with k | k;exact .inl k;exact .inr (.inl k)
 obtain⟨u,r,l⟩:=hl i x v hi e1 vis;refine wpAny_AugAssign_Name ?_;have go:wpAny (model X.prog X.w) X.A (eval e X.env) (λw s₂=>wpAny (model X.prog X.w) X.A (inplaceOp op u w) (λr s₃=>wpAny (model X.prog X.w) X.A (storeName X.env x r) (λ_=>SP X ag D .next) X.xe s₃) X.xe s₂) X.xe s:=by
  refine cI (he ag s σ H _ I h) λw s1 ⟨y,H1,I1,r1,q1⟩=>?_;refine cI (ho ag s1 σ H1 v y u w _ I1 r r1 q1) λz s2 ⟨zv,H2,I2,r2,q2⟩=>?_;exact rD I2 hN hi hx r2 (λs3 I3=>⟨_,H2,I3,q2⟩) hf
 rcases l with ⟨hk,hm⟩ | ⟨hk,c,hc,jy⟩
 .exact u4 I.ok.kind hk hn hm go
 rcases hk with hk | hk
 .exact wpAny_loadName_cell I.ok.kind hk hc jy go
 rcases hx with k | k
 .have:X.env.scope.names.lookup x=some .free:=hk;rw [k] at this;cases this
 have:X.env.scope.names.lookup x=some .free:=hk;rw [k] at this;cases this
def ipI (f:Int->Int->Int):Sr:=λx y H Q=>∃i j,x=.int i/\y=.int j/\Q (.int (f i j)) H
def Mh:Z_ X .Add (ipI λi j=>i+j):=by
 intro ag s σ H x y v u Q I r1 r2 h;obtain⟨i,j,e1,e2,q⟩:=h;subst e1;subst e2;obtain⟨t,rfl⟩:=r1;obtain⟨t',rfl⟩:=r2;exact iadd_int ⟨.int _,H,I.tok _,⟨_,rfl⟩,q⟩
end
section
variable {X:Cx}{pos:Pos}
def K6 (c:TT)(tb:TS):TS:=λD σ H=>∃W:Nat->St->Hp->Prop,(∃m,W m σ H)/\∀m σ H,W m σ H ->
 c σ H λb H1=>if b=true then ∃N:St->Hp->Prop,(∀σ' H',N σ' H'->∃m',m' < m/\W m' σ' H')/\tb { D with nx:=N,ct:=N,bk:=D.nx } σ H1 else D.nx σ H1
def iK {c:Expr}{body:List Stmt}{tc:TT}{tb:TS}(hp:PassesOwn (model X.prog X.w) X.A X.env X.xe)(hc:PT X c tc)(hb:AG X body tb):PS X (.While c body [] pos) (K6 tc tb):=by
 intro ag s σ H D I h;obtain⟨W,⟨m0,w0⟩,turn⟩:=h;refine wpAny_While (codeAny_whileLoop (λn s'=>∃σ' H',Inv X ag σ' H' s'/\W n σ' H') ?_ m0 ⟨σ,H,I,w0⟩);rintro n s1 ⟨σ1,H1,I1,w1⟩;refine mf hp (cI (hc ag s1 σ1 H1 _ I1 (turn n σ1 H1 w1)) λb s2 ⟨H2,I2,q2⟩=>?_);cases b with
 | true =>
  obtain⟨N,hN,q2⟩:=q2;rw [ax rfl];refine mf hp (cI (hb ag s2 σ1 H2 _ I2 q2) λf s3 q3=>?_);cases f with
  | next =>
   obtain⟨σ3,H3,I3,n3⟩:=q3;obtain⟨m',hm,w3⟩:=hN σ3 H3 n3;exact⟨m',hm,σ3,H3,I3,w3⟩
  | cont =>
   obtain⟨σ3,H3,I3,n3⟩:=q3;obtain⟨m',hm,w3⟩:=hN σ3 H3 n3;exact⟨m',hm,σ3,H3,I3,w3⟩
  | brk=>exact q3
  | ret v=>exact q3
 | false =>
  rw [az dO];exact wpAny_execs_nil ⟨σ1,H2,I2,q2⟩
end
structure It where
 go:Nat->Hp->Prop
 mZ:Nat->Hp->V->Hp->Prop
 stop:Nat->Hp->Prop
def wD (X:Cx)(ag:List (Addr×Obj))(H:Hp)(b:Addr):Prop :=
 H b=none/\b≠X.env.locals/\b∉X.fs/\(b∈X.ex\/X.s₀.heap.objs.size<=b)/\(∀x c,X.env.cells.lookup x=some c->c≠b)/\∀p∈X.pn++ag,p.1≠b
def Inv.wj {X:Cx}{ag:List (Addr×Obj)}{σ:St}{H H':Hp}{s:Shared}{b:Addr}(I:Inv X ag σ H s)(hb:s.heap.objs.size<=b)(hn:H' b=none):wD X ag H' b:=by
 refine⟨hn,fc (eU I.lt hb),I.Ua hb,.inr (fV I.sz hb),λx c e z=>?_,λp hp z=>?_⟩
 .obtain⟨v,q⟩:=I.cell x c e;exact absurd (eU q.lt (by rw [z];exact hb)) (kI _)
 exact absurd (eU (ba (I.pin p hp).1) (by rw [z];exact hb)) (kI _)
structure Turn (P:Program)(w:World)(K:a9)(tg:Expr)(J:It)(fp:List Addr)(it:Addr)(tn:Nat->Heap->Prop):Prop where
 mem:it∈fp
 obj:∀i h,tn i h->∀b∈fp,∃o,h.get? b=some o/\∀v,o.data≠.cell v
 keep:∀i h h',tn i h->(∀b∈fp,∀o,h.get? b=some o->h'.get? b=some o)->tn i h'
 item:∀(X:Cx),X.prog=P->X.w=w->X.K=K->X.calm=true->∀(i:Nat)(ag:List (Addr×Obj))(s:Shared)(σ:St)(H:Hp)(E:Value->Shared->Prop),Inv X ag σ H s->(∀b∈fp,wD X ag H b)->tn i s.heap->J.go i H ->
  wpAny (model P w) X.A (pyNext (.ref it)) (λr s1=>∃u,r=some u /\
   wpAny (model P w) X.A (letOwnedTupleGo tg (.ref it) u) (λ_ s2=>∃x H',Inv X ag σ H' s2/\RelV x u/\J.mZ i H x H'/\tn (i+1) s2.heap/\∀b∈fp,H' b=none) E s1) E s
 done:∀(X:Cx),X.prog=P->X.w=w->X.K=K->X.calm=true->∀(i:Nat)(ag:List (Addr×Obj))(s:Shared)(σ:St)(H:Hp)(E:Value->Shared->Prop),Inv X ag σ H s->(∀b∈fp,wD X ag H b)->tn i s.heap->J.stop i H ->
  wpAny (model P w) X.A (pyNext (.ref it)) (λr s1=>r=none/\Inv X ag σ H s1) E s
 self:∀(A:Around) (i:Nat)(s:Shared)(Q:Value->Shared->Prop)(E:Value->Shared->Prop),tn i s.heap->Q (.ref it) s->wpAny (model P w) A (pyIter (.ref it)) Q E s
abbrev TI:=St->Hp->(It->Hp->Prop)->Prop
def PIE (X:Cx)(ag:List (Addr×Obj))(σ:St)(tg:Expr)(R:It->Hp->Prop)(RG:Value)(s2:Shared):Prop :=
 ∃(it:Addr)(fp:List Addr)(tn:Nat->Heap->Prop)(J:It)(H':Hp),RG=.ref it/\Inv X ag σ H' s2/\Turn X.prog X.w X.K tg J fp it tn/\tn 0 s2.heap/\(∀b∈fp,wD X ag H' b)/\R J H'
def PI (X:Cx)(tg iter:Expr)(wi:TI):Prop :=
 ∀(ag:List (Addr×Obj))(s:Shared)(σ:St)(H:Hp)(R:It->Hp->Prop),Inv X ag σ H s->wi σ H R ->
  wpAny (model X.prog X.w) X.A (eval iter X.env) (λv s1=>wpAny (model X.prog X.w) X.A (pyIter v) (PIE X ag σ tg R) X.xe s1) X.xe s
def Bx {M:Model}{A:Around}{E:Value->Shared->Prop}{s:Shared}{tg:Expr}{it:Addr}{u:Value}{o:Obj}{n:String}{vs:Array Value}{Q:Unit->Shared->Prop}(ho:s.heap.get? it=some o)(hc:o.cls=.type n)(hd:o.data=.fields vs)
  (hn:["enumerate","zip","dict_itemiterator","dict_reverseitemiterator","odict_iterator","itertools.zip_longest","itertools.pairwise"].contains n=false)(hQ:Q () s):wpAny M A (letOwnedTupleGo tg (.ref it) u) Q E s:=by
 unfold letOwnedTupleGo;cases tg <;> first
  | exact aR hQ
  | (cases u <;> first
    | exact aR hQ
    | (refine ar (wpAny_load ho ?_)
       rw [hc,hd];show wpAny M A (if (["enumerate","zip","dict_itemiterator","dict_reverseitemiterator","odict_iterator","itertools.zip_longest","itertools.pairwise"].contains n && vs[0]? == some (rawInt _))=true then _ else _) Q E s;rw [az (by intro h;rw [hn,qW] at h;cases h)];exact aR hQ))
def j9 (K:a9)(a:Addr):It :=
 ⟨λi H=>∃xs x,aI K H a xs/\xs[i]?=some x,λi H x H'=>H'=H/\∀xs,aI K H a xs->xs[i]?=some x,λi H=>∃xs,aI K H a xs/\xs.length<=i⟩
def qk (K:a9)(a:Addr):It :=
 ⟨λi H=>∃xs x,aQ K H a xs/\xs[i]?=some x,λi H x H'=>H'=H/\∀xs,aQ K H a xs->xs[i]?=some x,λi H=>∃xs,aQ K H a xs/\xs.length<=i⟩
def Od (lo:Int) (n:Nat):It:=⟨λi _=>i < n,λi H x H'=>H'=H/\x=.int (lo+i),λi _=>n<=i⟩
def B2 {P:Program}{w:World}{K:a9}{tg:Expr}(a it:Addr):Turn P w K tg (j9 K a) [it] it (λi h=>h.IsListIter it a i) where
 mem:=by simp
 obj:=λi h st b hb=>by
  have e:b=it:=by simpa using hb
  subst e;obtain⟨o,e,c,d⟩:=st;exact⟨o,e,λv z=>by rw [d] at z;cases z⟩
 keep:=λi h h' st k=>st.at λo e=>k it (by simp) o e
 item:=by
  intro X hP hw hK hc i ag s σ H E I hf st hg;subst hP hw hK;obtain⟨xs,x,hq,hx⟩:=hg;obtain⟨aU,rv,p,hz⟩:=I.list hq;obtain⟨u,hu,ru⟩:=rv.get hx;obtain⟨f0,f1,f2,f3,f4,f5⟩:=hf it (by simp);refine wpAny_pyNext_list_item st p.isList (x:=u) (by simpa using hu) λh' wH sb=>?_;have I1:Inv X ag σ H { s with heap:=h' }:=I.turned (t':=s.toks) (λb o hb e=>(sb.2 b hb).trans e) f0 f1 f3 f4 f5;obtain⟨o,e,c,d⟩:=id wH;exact⟨u,rfl,Bx (s:={ s with heap:=h' }) e c d (by decide) ⟨x,H,I1,ru,⟨rfl,λys hy=>by rw [I.sf hy hq];exact hx⟩,wH,λb hb=>(hf b hb).1⟩⟩
 done:=by
  intro X hP hw hK hc i ag s σ H E I hf st hg;subst hP hw hK;obtain⟨xs,hq,hx⟩:=hg;obtain⟨aU,rv,p,hz⟩:=I.list hq;obtain⟨f0,f1,f2,f3,f4,f5⟩:=hf it (by simp);have hl:=rv.length;exact u7 (I.ok.hd hc) st p.isList (by simp;omega) λh' eb=>⟨rfl,I.turned (t':=s.toks) (λb o hb e=>eb b o hb e) f0 f1 f3 f4 f5⟩
 self:=λ_ _ _ _ _ st h=>wpAny_pyIter_listiter st h
def yP {P:Program}{w:World}{K:a9}{tg:Expr}(a it:Addr):Turn P w K tg (qk K a) [it] it (λi h=>h.IsTupleIter it a i) where
 mem:=by simp
 obj:=λi h st b hb=>by
  have e:b=it:=by simpa using hb
  subst e;obtain⟨o,e,c,d⟩:=st;exact⟨o,e,λv z=>by rw [d] at z;cases z⟩
 keep:=λi h h' st k=>st.at λo e=>k it (by simp) o e
 item:=by
  intro X hP hw hK hc i ag s σ H E I hf st hg;subst hP hw hK;obtain⟨xs,x,hq,hx⟩:=hg;obtain⟨aU,rv,p,hz⟩:=I.tuple hq;obtain⟨u,hu,ru⟩:=rv.get hx;obtain⟨f0,f1,f2,f3,f4,f5⟩:=hf it (by simp);refine wpAny_pyNext_tuple_item st (show s.heap.IsTuple a aU.toArray from p) (x:=u) (by simpa using hu) λh' wH sb=>?_;have I1:Inv X ag σ H { s with heap:=h' }:=I.turned (t':=s.toks) (λb o hb e=>(sb.2 b hb).trans e) f0 f1 f3 f4 f5;obtain⟨o,e,c,d⟩:=id wH;exact⟨u,rfl,Bx (s:={ s with heap:=h' }) e c d (by decide) ⟨x,H,I1,ru,⟨rfl,λys hy=>by rw [I.ub hy hq];exact hx⟩,wH,λb hb=>(hf b hb).1⟩⟩
 done:=by
  intro X hP hw hK hc i ag s σ H E I hf st hg;subst hP hw hK;obtain⟨xs,hq,hx⟩:=hg;obtain⟨aU,rv,p,hz⟩:=I.tuple hq;obtain⟨f0,f1,f2,f3,f4,f5⟩:=hf it (by simp);have hl:=rv.length;exact wpAny_pyNext_tuple_end (I.ok.hd hc) st (show s.heap.IsTuple a aU.toArray from p) (by simp;omega) λh' eb=>⟨rfl,I.turned (t':=s.toks) (λb o hb e=>eb b o hb e) f0 f1 f3 f4 f5⟩
 self:=λ_ _ _ _ _ st h=>wpAny_pyIter_tupleiter st h
def yQ {P:Program}{w:World}{K:a9}{tg:Expr}(it:Addr) (lo:Int) (n:Nat):Turn P w K tg (Od lo n) [it] it (λi h=>IsRangeIter h it (lo+(i:Nat) * 1) ((n:Int) - (i:Nat)) 1) where
 mem:=by simp
 obj:=λi h st b hb=>by
  have e:b=it:=by simpa using hb
  subst e;exact⟨_,st,λv z=>by
   have z':Data.fields _=Data.cell v:=z;cases z'⟩
 keep:=λi h h' st k=>k it (by simp) _ st
 item:=by
  intro X hP hw hK hc i ag s σ H E I hf st hg;subst hP hw hK;obtain⟨f0,f1,f2,f3,f4,f5⟩:=hf it (by simp);have W:=Walks.range (prog:=X.prog) (w:=X.w) (I.ok.hd hc) it lo 1 n;refine W.item i s _ _ hg st λv h' tk hv wH kk=>?_;obtain⟨t,rfl⟩:=hv;have I1:Inv X ag σ H { s with heap:=h',toks:=tk }:=I.turned (λb o hb e=>kk b o (by simpa using hb) e) f0 f1 f3 f4 f5;refine⟨_,rfl,Bx (s:={ s with heap:=h',toks:=tk }) (n := "range_iterator") wH rfl rfl (by decide) ⟨.int (lo+i),H,I1,⟨t,?_⟩,⟨rfl,rfl⟩,wH,λb hb=>(hf b hb).1⟩⟩;rw [Int.mul_one]
 done:=by
  intro X hP hw hK hc i ag s σ H E I hf st hg;subst hP hw hK;obtain⟨f0,f1,f2,f3,f4,f5⟩:=hf it (by simp);exact wpAny_pyNext_range_end (I.ok.hd hc) st (by have:n<=i:=hg;omega) λh' eb=>⟨rfl,I.turned (t':=s.toks) (λb o hb e=>eb b o hb e) f0 f1 f3 f4 f5⟩
 self:=λ_ _ _ _ _ st h=>wpAny_pyIter_rangeiter st h
section
variable {X:Cx}{tg:Expr}
def PN (K:a9)(tl:TE):TI:=λσ H R=>tl σ H λx H1=>∃a,x=.ref a/\(∃xs,aI K H1 a xs)/\R (j9 K a) H1
def UK (K:a9)(tl:TE):TI:=λσ H R=>tl σ H λx H1=>∃a,x=.ref a/\(∃xs,aQ K H1 a xs)/\R (qk K a) H1
def aZ {l:Expr}{tl:TE}(hl:PE X l tl):PI X tg l (PN X.K tl):=by
 intro ag s σ H R I h;refine cI (hl ag s σ H _ I h) λv s1 ⟨x,H1,I1,r1,q1⟩=>?_;obtain⟨a,e,⟨xs,hq⟩,q⟩:=q1;subst e;cases r1;obtain⟨aU,rv,p,hz⟩:=I1.list hq;refine oQ p.isList ?_;refine⟨s1.heap.objs.size,[s1.heap.objs.size],_,_,H1,rfl,I1.kept (t':=s1.toks) λb o e=>bI _ e,B2 a _,⟨_,cV _ rfl,rfl,rfl⟩,λb hb=>?_,q⟩;have e:b=s1.heap.objs.size:=by simpa using hb
 subst e;exact I1.wj (aH _) (I1.b0.fresh (aH _))
def gH {l:Expr}{tl:TE}(hl:PE X l tl):PI X tg l (UK X.K tl):=by
 intro ag s σ H R I h;refine cI (hl ag s σ H _ I h) λv s1 ⟨x,H1,I1,r1,q1⟩=>?_;obtain⟨a,e,⟨xs,hq⟩,q⟩:=q1;subst e;cases r1;obtain⟨aU,rv,p,hz⟩:=I1.tuple hq;refine oV (show s1.heap.IsTuple a aU.toArray from p) ?_;refine⟨s1.heap.objs.size,[s1.heap.objs.size],_,_,H1,rfl,I1.kept (t':=s1.toks) λb o e=>bI _ e,yP a _,⟨_,cV _ rfl,rfl,rfl⟩,λb hb=>?_,q⟩;have e:b=s1.heap.objs.size:=by simpa using hb
 subst e;exact I1.wj (aH _) (I1.b0.fresh (aH _))
def ET {ag:List (Addr×Obj)}{σ:St}{H:Hp}{s:Shared}{R:It->Hp->Prop}{E:Value->Shared->Prop}{lo hi:Int}{t u v:Tok}{tk:Nat}(I:Inv X ag σ H s)(h1:-(2 ^ 62)<=lo)(h2:lo < 2 ^ 62)(h3:-(2 ^ 62)<=hi)(h4:hi < 2 ^ 62)
  (q:R (Od lo (hi - lo).toNat) H):wpAny (model X.prog X.w) X.A (pyIter (.ref s.heap.objs.size)) (PIE X ag σ tg R) E { s with heap:=s.heap.push { cls:=.type "range",data:=.fields #[.int lo t,.int hi u,.int 1 v] },toks:=tk }:=by
 refine wpAny_pyIter_range (IsRange.new ..) (small_one h1 h2 h3 h4) ?_;have I1:Inv X ag σ H { s with heap:=s.heap.push { cls:=.type "range",data:=.fields #[.int lo t,.int hi u,.int 1 v] },toks:=tk }:=I.kept λb o e=>bI _ e;refine⟨(s.heap.push { cls:=.type "range",data:=.fields #[.int lo t,.int hi u,.int 1 v] }).objs.size,[(s.heap.push { cls:=.type "range",data:=.fields #[.int lo t,.int hi u,.int 1 v] }).objs.size],_,_,H,rfl,
  I1.kept (t':=tk) λb o e=>bI _ e,yQ _ lo (hi - lo).toNat,?_,λb hb=>?_,q⟩
 .have e1:lo+((0:Nat):Int) * 1=lo:=by simp
  have e2:(((hi - lo).toNat:Nat):Int) - ((0:Nat):Int)=Builtin.Range.rangeSize lo hi 1:=by rw [rangeSize_one];split <;> omega
  show IsRangeIter _ _ (lo+((0:Nat):Int) * 1) ((((hi - lo).toNat:Nat):Int) - ((0:Nat):Int)) 1;rw [e1,e2];exact cV _ rfl
 have e:b=(s.heap.push { cls:=.type "range",data:=.fields #[.int lo t,.int hi u,.int 1 v] }).objs.size:=by simpa using hb
 subst e;exact I1.wj (aH _) (I1.b0.fresh (aH _))
def PM (ta:TA):TI:=λσ H R=>ta σ H λvs H1=>∃j:Int,vs=[.int j]/\-(2 ^ 62)<=j/\j < 2 ^ 62/\R (Od 0 j.toNat) H1
def gY {a:Expr}{ta:TA}{p pos:Pos}(hg:Gl X "range")(hm:X.mg "range"=none)(ha:PA X [a] ta)(hs:starEach [a] X.env=[(false,eval a X.env)]:=by rfl):PI X tg (.Call (.Name "range" p) [a] [] pos) (PM ta):=by
 intro ag s σ H R I h;refine Call_ (iQ I hg hm boot_range (t_ (cI (ha pos ag s σ H _ I h) λus s1 ⟨vs,H1,I1,r1,q1⟩=>?_) hs rfl));obtain⟨j,e,q1,q2,q⟩:=q1;subst e;cases r1 with
 | cons r rr =>
  cases rr;obtain⟨t,rfl⟩:=r;exact call_range_1 (ET I1 ∅ ∅ q1 q2 (by simpa using q))
def Td (wi:TI)(g:TG)(tb:TS):TS:=λD σ H=>wi σ H λJ H1=>∃W:Nat->Nat->St->Hp->Prop,(∃m,W 0 m σ H1)/\∀i m σ H,W i m σ H ->
 (J.stop i H/\D.nx σ H)\/(J.go i H/\∃N:St->Hp->Prop,(∀σ' H',N σ' H'->∃m',m' < m/\W (i+1) m' σ' H')/\∀x H',J.mZ i H x H'->g x σ H' λσ2 H2=>tb { D with nx:=N,ct:=N,bk:=D.nx } σ2 H2)
def px (fp:List Addr)(h:Heap):List (Addr×Obj):=fp.filterMap λb=>(h.get? b).map λo=>(b,o)
def gZ {fp:List Addr}{h:Heap}{b:Addr}{o:Obj}(hb:b∈fp)(e:h.get? b=some o):(b,o)∈px fp h:=List.mem_filterMap.mpr ⟨b,hb,by rw [e];rfl⟩
def Cv {fp:List Addr}{h:Heap}{p:Addr×Obj}(hp:p∈px fp h):p.1∈fp/\h.get? p.1=some p.2:=by
 obtain⟨b,hb,e⟩:=List.mem_filterMap.mp hp;cases q:h.get? b with
 | none=>rw [q] at e;cases e
 | some o =>
  rw [q] at e;have e':(b,o)=p:=gR e;subst e';exact⟨hb,q⟩
def Inv.pinned {ag:List (Addr×Obj)}{σ:St}{H:Hp}{s:Shared}{fp:List Addr}(I:Inv X ag σ H s)(hf:∀b∈fp,wD X ag H b)(ho:∀b∈fp,∃o,s.heap.get? b=some o/\∀v,o.data≠.cell v):Inv X (ag++px fp s.heap) σ H s :=
 I.Bn λp hp=>(cA.mp hp).elim (λz=>I.pin p (fX _ z)) λz=>by
  obtain⟨hb,e⟩:=Cv z;obtain⟨f0,f1,f2,_⟩:=hf p.1 hb;obtain⟨o,e',d⟩:=ho p.1 hb;rw [e] at e';cases e';exact⟨e,f0,f1,f2,d⟩
def Inv.kM {ag pl:List (Addr×Obj)}{σ:St}{H:Hp}{s:Shared}(I:Inv X (ag++pl) σ H s):Inv X ag σ H s:=I.Bn λp hp=>I.pin p (fX _ (jl _ hp))
def bO {iter:Expr}{body:List Stmt}{wi:TI}{g:TG}{tb:TS}{pos:Pos}(hp:PassesOwn (model X.prog X.w) X.A X.env X.xe)(hc:X.calm=true)(hi:PI X tg iter wi)(hg:PG X tg g)(hb:AG X body tb)
  (hs:∀x,foldedSetIterable iter X.env x=pure x:=by intro _;rfl):PS X (.For tg iter body [] pos) (Td wi g tb):=by
 intro ag s σ H D I h;refine wpAny_For (cI (hi ag s σ H _ I h) λv s1 h1=>cI h1 λRG s2 h2=>?_) hs;obtain⟨it,fp,tn,J,H2,e,I2,T,Hf,f2,W,⟨m0,w0⟩,turn⟩:=h2;subst e;have rE:∀{H':Hp},(∀b∈fp,H' b=none)->∀b∈fp,wD X ag H' b:=λhn b hb=>⟨hn b hb,(f2 b hb).2⟩;refine codeAny_forLoop_any (λn s'=>∃i σ' H',Inv X ag σ' H' s'/\tn i s'.heap/\(∀b∈fp,H' b=none)/\W i n σ' H') ?_ m0 ⟨0,σ,H2,I2,Hf,λb hb=>(f2 b hb).1,w0⟩;rintro n s3 ⟨i,σ3,H3,I3,OQ,Y5,w3⟩;rcases turn i n σ3 H3 w3 with ⟨stop,qn⟩ | ⟨go,N,hN,step⟩
 .refine mf hp (cI (T.done X rfl rfl rfl hc i ag s3 σ3 H3 X.xe I3 (rE Y5) OQ stop) λr s4 ⟨hr,I4⟩=>?_);subst hr;exact wpAny_execs_nil ⟨σ3,H3,I4,qn⟩
 refine mf hp (cI (T.item X rfl rfl rfl hc i ag s3 σ3 H3 X.xe I3 (rE Y5) OQ go) λr s4 ⟨u,hr,h4⟩=>?_);subst hr;refine mf hp (cI h4 λ_ s5 ⟨x,H5,I5,r5,y5,B7,Qz⟩=>?_);have I5':=I5.pinned (rE Qz) (T.obj _ _ B7);refine mf hp (cI (hg _ s5 σ3 H5 x u _ I5' r5 (step x H5 y5)) λ_ s6 ⟨σ6,H6,I6,q6⟩=>?_);refine mf hp (cI (hb _ s6 σ6 H6 _ I6 q6) λf s7 q7=>?_);have again:∀{σ7:St}{H7:Hp},Inv X (ag++px fp s5.heap) σ7 H7 s7->N σ7 H7->∃m,m < n/\∃i σ' H',Inv X ag σ' H' s7/\tn i s7.heap/\(∀b∈fp,H' b=none)/\W i m σ' H':=λ{σ7 H7} I7 n7=>by
  obtain⟨m',hm,w7⟩:=hN σ7 H7 n7;refine⟨m',hm,i+1,σ7,H7,I7.kM,T.keep _ _ _ B7 λb hb o e=>(I7.pin (b,o) (fX _ (fX _ (gZ hb e)))).1,λb hb=>?_,w7⟩;obtain⟨o,e,d⟩:=T.obj _ _ B7 b hb;exact(I7.pin (b,o) (fX _ (fX _ (gZ hb e)))).2.1
 cases f with
 | next=>obtain⟨σ7,H7,I7,n7⟩:=q7;exact again I7 n7
 | cont=>obtain⟨σ7,H7,I7,n7⟩:=q7;exact again I7 n7
 | brk=>obtain⟨σ7,H7,I7,q7⟩:=q7;exact⟨σ7,H7,I7.kM,q7⟩
 | ret v=>obtain⟨x7,σ7,H7,I7,r7,q7⟩:=q7;exact⟨x7,σ7,H7,I7.kM,r7,q7⟩
end
def cC {K:a9}{a:Addr}{xs:List V}{g:TG}{tb:TS}{D:Ends}{σ:St}{H:Hp}(Pv:Nat->St->Hp->Prop)(h0:Pv 0 σ H)(hl:∀i σ H,i<=xs.length->Pv i σ H->aI K H a xs)
  (hs:∀i x σ H,xs[i]?=some x->Pv i σ H->g x σ H λσ2 H2=>tb { D with nx:=Pv (i+1),ct:=Pv (i+1),bk:=D.nx } σ2 H2)(hd:∀σ H,Pv xs.length σ H->D.nx σ H) :
  ∃W:Nat->Nat->St->Hp->Prop,(∃m,W 0 m σ H)/\∀i m σ H,W i m σ H ->
   ((j9 K a).stop i H/\D.nx σ H)\/((j9 K a).go i H/\∃N:St->Hp->Prop,(∀σ' H',N σ' H'->∃m',m' < m/\W (i+1) m' σ' H')/\∀x H',(j9 K a).mZ i H x H'->g x σ H' λσ2 H2=>tb { D with nx:=N,ct:=N,bk:=D.nx } σ2 H2):=by
 refine⟨λi m σ H=>m=xs.length - i/\i<=xs.length/\Pv i σ H,⟨xs.length,by simp,gA _,h0⟩,?_⟩;rintro i m σ H ⟨rfl,hi,p⟩;have q:=hl i σ H hi p;by_cases ke:i < xs.length
 .refine .inr ⟨⟨xs,xs[i],q,by simp [ke]⟩,Pv (i+1),λσ' H' p'=>⟨xs.length - (i+1),∅,rfl,ke,p'⟩,λx H' y=>?_⟩;obtain⟨e,y⟩:=y;subst e;exact hs i x σ _ (y xs q) p
 have e:i=xs.length:=by omega
 subst e;exact .inl ⟨⟨xs,q,aH _⟩,hd σ H p⟩
def qM {K:a9}{a:Addr}{xs:List V}{g:TG}{tb:TS}{D:Ends}{σ:St}{H:Hp}(Pv:Nat->St->Hp->Prop)(h0:Pv 0 σ H)(hl:∀i σ H,i<=xs.length->Pv i σ H->aQ K H a xs)
  (hs:∀i x σ H,xs[i]?=some x->Pv i σ H->g x σ H λσ2 H2=>tb { D with nx:=Pv (i+1),ct:=Pv (i+1),bk:=D.nx } σ2 H2)(hd:∀σ H,Pv xs.length σ H->D.nx σ H) :
  ∃W:Nat->Nat->St->Hp->Prop,(∃m,W 0 m σ H)/\∀i m σ H,W i m σ H ->
   ((qk K a).stop i H/\D.nx σ H)\/((qk K a).go i H/\∃N:St->Hp->Prop,(∀σ' H',N σ' H'->∃m',m' < m/\W (i+1) m' σ' H')/\∀x H',(qk K a).mZ i H x H'->g x σ H' λσ2 H2=>tb { D with nx:=N,ct:=N,bk:=D.nx } σ2 H2):=by
 refine⟨λi m σ H=>m=xs.length - i/\i<=xs.length/\Pv i σ H,⟨xs.length,by simp,gA _,h0⟩,?_⟩;rintro i m σ H ⟨rfl,hi,p⟩;have q:=hl i σ H hi p;by_cases ke:i < xs.length
 .refine .inr ⟨⟨xs,xs[i],q,by simp [ke]⟩,Pv (i+1),λσ' H' p'=>⟨xs.length - (i+1),∅,rfl,ke,p'⟩,λx H' y=>?_⟩;obtain⟨e,y⟩:=y;subst e;exact hs i x σ _ (y xs q) p
 have e:i=xs.length:=by omega
 subst e;exact .inl ⟨⟨xs,q,aH _⟩,hd σ H p⟩
def g7 {lo:Int}{n:Nat}{g:TG}{tb:TS}{D:Ends}{σ:St}{H:Hp}(Pv:Nat->St->Hp->Prop)(h0:Pv 0 σ H)
  (hs:∀i σ H,i < n->Pv i σ H->g (.int (lo+i)) σ H λσ2 H2=>tb { D with nx:=Pv (i+1),ct:=Pv (i+1),bk:=D.nx } σ2 H2)(hd:∀σ H,Pv n σ H->D.nx σ H) :
  ∃W:Nat->Nat->St->Hp->Prop,(∃m,W 0 m σ H)/\∀i m σ H,W i m σ H ->
   ((Od lo n).stop i H/\D.nx σ H)\/((Od lo n).go i H/\∃N:St->Hp->Prop,(∀σ' H',N σ' H'->∃m',m' < m/\W (i+1) m' σ' H')/\∀x H',(Od lo n).mZ i H x H'->g x σ H' λσ2 H2=>tb { D with nx:=N,ct:=N,bk:=D.nx } σ2 H2):=by
 refine⟨λi m σ H=>m=n - i/\i<=n/\Pv i σ H,⟨n,by simp,gA _,h0⟩,?_⟩;rintro i m σ H ⟨rfl,hi,p⟩;by_cases ke:i < n
 .refine .inr ⟨ke,Pv (i+1),λσ' H' p'=>⟨n - (i+1),∅,rfl,ke,p'⟩,λx H' y=>?_⟩;obtain⟨e,y⟩:=y;subst e y;exact hs i σ _ ke p
 have e:i=n:=by omega
 subst e;exact .inl ⟨aH _,hd σ H p⟩
abbrev R2:=V->V->Hp->VK->Prop
def ji (X:Cx)(f:Value->Value->Sem Value)(r:R2):Prop :=
 ∀(ag:List (Addr×Obj))(s:Shared)(σ:St)(H:Hp)(x y:V)(v u:Value)(Q:VK),Inv X ag σ H s->RelV x v->RelV y u->r x y H Q ->
  wpAny (model X.prog X.w) X.A (f v u) (EP X ag σ Q) X.xe s
def WX (X:Cx)(f:Value->Sem Value)(r:V->Hp->VK->Prop):Prop :=
 ∀(ag:List (Addr×Obj))(s:Shared)(σ:St)(H:Hp)(x:V)(v:Value)(Q:VK),Inv X ag σ H s->RelV x v->r x H Q ->
  wpAny (model X.prog X.w) X.A (f v) (EP X ag σ Q) X.xe s
def ik (X:Cx)(f:Value)(r:List V->Hp->VK->Prop):Prop :=
 ∀(ag:List (Addr×Obj))(s:Shared)(σ:St)(H:Hp)(xs:List V)(us:List Value)(Q:VK),Inv X ag σ H s->a_ xs us->r xs H Q ->
  wpAny (model X.prog X.w) X.A (call f us) (EP X ag σ Q) X.xe s
def WY (X:Cx)(r:V->Hp->(Bool->Hp->Prop)->Prop):Prop :=
 ∀(ag:List (Addr×Obj))(s:Shared)(σ:St)(H:Hp)(x:V)(v:Value)(Q:Bool->Hp->Prop),Inv X ag σ H s->RelV x v->r x H Q ->
  wpAny (model X.prog X.w) X.A (truthy v) (TP X ag σ Q) X.xe s
def Rn (r:R2)(ta tb:TE):TE:=λσ H Q=>ta σ H λx H1=>tb σ H1 λy H2=>r x y H2 Q
def tUn (r:V->Hp->VK->Prop)(ta:TE):TE:=λσ H Q=>ta σ H λx H1=>r x H1 Q
def rI (C:Int->Int->Prop)(g:Int->Int->V):R2:=λx y H Q=>∃i j,x=.int i/\y=.int j/\C i j/\Q (g i j) H
def Lz (g:Int->Int->V):R2:=λx y H Q=>∃i j,x=.int i/\y=.int j/\Q (g i j) H
def rU (g:Int->V):V->Hp->VK->Prop:=λx H Q=>∃i,x=.int i/\Q (g i) H
section
variable {X:Cx}{a b c:Expr}{ta tb tc:TE}{pos:Pos}
def Ni (ha:PE X a ta)(hb:PE X b tb){ag:List (Addr×Obj)}{s:Shared}{σ:St}{H:Hp}{R:V->V->Hp->Prop}(I:Inv X ag σ H s)
  (h:ta σ H λx H1=>tb σ H1 λy H2=>R x y H2){Q:Value->Shared->Prop}{f:Value->Value->Sem Value}
  (hf:∀v u s2 x y H2,Inv X ag σ H2 s2->RelV x v->RelV y u->R x y H2->wpAny (model X.prog X.w) X.A (f v u) Q X.xe s2) :
  wpAny (model X.prog X.w) X.A (eval a X.env) (λv s₁=>wpAny (model X.prog X.w) X.A (eval b X.env) (λu s₂=>wpAny (model X.prog X.w) X.A (f v u) Q X.xe s₂) X.xe s₁) X.xe s:=by
 refine cI (ha ag s σ H _ I h) λv s1 ⟨x,H1,I1,r1,q1⟩=>?_;refine cI (hb ag s1 σ H1 _ I1 q1) λu s2 ⟨y,H2,I2,r2,q2⟩=>?_;exact hf v u s2 x y H2 I2 r1 r2 q2
def aX {op:Operator}{r:R2}(ho:ji X (binaryOp op) r)(ha:PE X a ta)(hb:PE X b tb):PE X (.BinOp a op b pos) (Rn r ta tb):=by
 intro ag s σ H Q I h;exact wpAny_BinOp (Ni ha hb I h λv u s2 x y H2 I2 rx ry q=>ho ag s2 σ H2 x y v u Q I2 rx ry q)
def j7 {op:UnaryOp}{r:V->Hp->VK->Prop}(ho:WX X (unaryOp op) r)(ha:PE X a ta):PE X (.UnaryOp op a pos) (tUn r ta):=by
 intro ag s σ H Q I h;exact UnaryOp_ (cI (ha ag s σ H _ I h) λv s1 ⟨x,H1,I1,r1,q1⟩=>ho ag s1 σ H1 x v Q I1 r1 q1)
def TQ {f:Value->Value->Sem Value}{C:Int->Int->Prop}{g:Int->Int->Int}
  (rule:∀(i j:Int)(t u:Tok)(s:Shared)(Q:Value->Shared->Prop)(E:Value->Shared->Prop),C i j->Q (.int (g i j) s.toks) { s with toks:=s.toks+1 }->wpAny (model X.prog X.w) X.A (f (.int i t) (.int j u)) Q E s) :
  ji X f (rI C λi j=>.int (g i j)):=by
 intro ag s σ H x y v u Q I rx ry h;obtain⟨i,j,rfl,rfl,hc,q⟩:=h;obtain⟨t,rfl⟩:=rx;obtain⟨t',rfl⟩:=ry;exact rule i j t t' s _ _ hc ⟨.int (g i j),H,I.tok _,⟨_,rfl⟩,q⟩
def Pa {f:Value->Value->Sem Value}{g:Int->Int->Int}
  (rule:∀(i j:Int)(t u:Tok)(s:Shared)(Q:Value->Shared->Prop)(E:Value->Shared->Prop),Q (.int (g i j) s.toks) { s with toks:=s.toks+1 }->wpAny (model X.prog X.w) X.A (f (.int i t) (.int j u)) Q E s) :
  ji X f (Lz λi j=>.int (g i j)):=by
 intro ag s σ H x y v u Q I rx ry h;obtain⟨i,j,rfl,rfl,q⟩:=h;obtain⟨t,rfl⟩:=rx;obtain⟨t',rfl⟩:=ry;exact rule i j t t' s _ _ ⟨.int (g i j),H,I.tok _,⟨_,rfl⟩,q⟩
def LK {f:Value->Value->Sem Value}{g:Int->Int->Bool}
  (rule:∀(i j:Int)(t u:Tok)(s:Shared)(Q:Value->Shared->Prop)(E:Value->Shared->Prop),Q (.bool (g i j)) s->wpAny (model X.prog X.w) X.A (f (.int i t) (.int j u)) Q E s) :
  ji X f (Lz λi j=>.bl (g i j)):=by
 intro ag s σ H x y v u Q I rx ry h;obtain⟨i,j,rfl,rfl,q⟩:=h;obtain⟨t,rfl⟩:=rx;obtain⟨t',rfl⟩:=ry;exact rule i j t t' s _ _ ⟨.bl (g i j),H,I,rfl,q⟩
def W_ (i j:Int):Prop:=0 < j/\j < 1073741824
def Nv (i j:Int):Prop:=(-(2 ^ 64) < i/\i < 2 ^ 64)\/(-(2 ^ 64) < j/\j < 2 ^ 64)
def Nv.ok {i j:Int}(h:Nv i j):IntMulOk i j:=by
 rcases h with ⟨h1,h2⟩ | ⟨h1,h2⟩
 .exact .of_left (intBits_le_64 h1 h2)
 exact .of_right (intBits_le_64 h1 h2)
def gp:ji X (binaryOp .Add) (Lz λi j=>.int (i+j)):=Pa λ_ _ _ _ _ _ _ q=>add_int q
def zK:ji X (binaryOp .Sub) (Lz λi j=>.int (i - j)):=Pa λ_ _ _ _ _ _ _ q=>sub_int q
def LI:ji X (binaryOp .Mult) (rI Nv λi j=>.int (i * j)):=TQ λ_ _ _ _ _ _ _ hc q=>mul_int q hc.ok
def dS:ji X (binaryOp .FloorDiv) (rI W_ λi j=>.int (i / j)):=TQ λi j _ _ _ _ _ hc q=>by
 have h1:(0:Int) < j:=hc.1;have h2:j < 1073741824:=hc.2;exact floordiv_int ∅ (by rw [Int.fdiv_eq_ediv_of_nonneg i ∅];exact q) (.inl (PyProof.noPylong_small ∅))
def cZ:ji X (binaryOp .Mod) (rI (λ_ j=>0 < j) λi j=>.int (i % j)):=TQ λi j _ _ _ _ _ hc q=>by
 have h1:(0:Int) < j:=hc;exact mod_int' ∅ (by rw [Int.fmod_eq_emod_of_nonneg i ∅];exact q)
def unI {f:Value->Sem Value}{g:Int->Int}
  (rule:∀(i:Int)(t:Tok)(s:Shared)(Q:Value->Shared->Prop)(E:Value->Shared->Prop),Q (.int (g i) s.toks) { s with toks:=s.toks+1 }->wpAny (model X.prog X.w) X.A (f (.int i t)) Q E s) :
  WX X f (rU λi=>.int (g i)):=by
 intro ag s σ H x v Q I rx h;obtain⟨i,rfl,q⟩:=h;obtain⟨t,rfl⟩:=rx;exact rule i t s _ _ ⟨.int (g i),H,I.tok _,⟨_,rfl⟩,q⟩
def il:WX X (unaryOp .USub) (rU λi=>.int (-i)):=unI λ_ _ _ _ _ q=>neg_int q
end
def OU:V->V->Bool
 | .d6,.d6=>true | .d6,.int _=>true | .int _,.d6=>true | .d6,.bl _=>true | .bl _,.d6=>true | .d6,.str _=>true | .str _,.d6=>true
 | .int _,.int _=>true | .bl _,.bl _=>true | .str _,.str _=>true | .AB _,.AB _=>true
 | .int _,.str _=>true | .str _,.int _=>true | .bl _,.str _=>true | .str _,.bl _=>true
 | _,_=>false
def rEq:R2:=λx y H Q=>OU x y=true/\Q (.bl (decide (x=y))) H
def rNe:R2:=λx y H Q=>OU x y=true/\Q (.bl (!decide (x=y))) H
def BH {i j:Int}:decide (V.int i=V.int j)=(i == j):=by
 rw [mN];simp
def GK {i j:Bool}:decide (V.bl i=V.bl j)=(i == j):=by
 rw [mN];simp
def BG {i j:Str}:decide (V.str i=V.str j)=(i == j):=by
 rw [mN];simp
def BI {i j:Array UInt8}:decide (V.AB i=V.AB j)=(i.toList == j.toList):=by
 rw [mN];cases i;cases j;simp
section
variable {X:Cx}{a b c:Expr}{ta tb tc:TE}{pos:Pos}
def cx {ag:List (Addr×Obj)}{σ:St}{H:Hp}{s:Shared}{Q:VK}{k k':Bool}(I:Inv X ag σ H s)(q:Q (.bl k) H)(e:k=k'):EP X ag σ Q (.bool k') s:=by
 subst e;exact⟨.bl k,H,I,rfl,q⟩
def ij:ji X (compareOp .Eq) rEq:=by
 intro ag s σ H x y v u Q I rx ry h;obtain⟨hs,q⟩:=h;cases x with
 | d6 =>
  cases rx;cases y with
  | d6=>cases ry;exact PySem.EqNone.eq_none_none (cx I q (by simp))
  | bl j=>cases ry;exact PySem.EqNone.eq_none_bool (cx I q (by simp))
  | int j=>obtain⟨t',rfl⟩:=ry;exact PySem.EqNone.eq_none_int (cx I q (by simp))
  | str j=>obtain⟨t',rfl⟩:=ry;exact PySem.EqNone.eq_none_str (cx I q (by simp))
  | _=>exact absurd (show false=true from hs) dO
 | bl i =>
  cases rx;cases y with
  | d6=>cases ry;exact PySem.EqNone.eq_bool_none (cx I q (by simp))
  | bl j=>cases ry;exact eq_bool (cx I q GK)
  | str j=>obtain⟨t',rfl⟩:=ry;exact PySem.EqMixed.eq_bool_str (cx I q (by simp))
  | _=>exact absurd (show false=true from hs) dO
 | int i =>
  obtain⟨t,rfl⟩:=rx;cases y with
  | d6=>cases ry;exact PySem.EqNone.eq_int_none (cx I q (by simp))
  | int j=>obtain⟨t',rfl⟩:=ry;exact eq_int (cx I q BH)
  | str j=>obtain⟨t',rfl⟩:=ry;exact PySem.EqMixed.eq_int_str (cx I q (by simp))
  | _=>exact absurd (show false=true from hs) dO
 | str i =>
  obtain⟨t,rfl⟩:=rx;cases y with
  | d6=>cases ry;exact PySem.EqNone.eq_str_none (cx I q (by simp))
  | bl j=>cases ry;exact PySem.EqMixed.eq_str_bool (cx I q (by simp))
  | int j=>obtain⟨t',rfl⟩:=ry;exact PySem.EqMixed.eq_str_int (cx I q (by simp))
  | str j=>obtain⟨t',rfl⟩:=ry;exact eq_str (cx I q BG)
  | _=>exact absurd (show false=true from hs) dO
 | AB i =>
  obtain⟨t,rfl⟩:=rx;cases y with
  | AB j=>obtain⟨t',rfl⟩:=ry;exact PySem.W.eq_bytes (cx I q BI)
  | _=>exact absurd (show false=true from hs) dO
 | _=>cases y <;> exact absurd (show false=true from hs) dO
def uq:ji X (compareOp .NotEq) rNe:=by
 intro ag s σ H x y v u Q I rx ry h;obtain⟨hs,q⟩:=h;cases x with
 | d6 =>
  cases rx;cases y with
  | d6=>cases ry;exact PySem.EqNone.ne_none_none (cx I q (by simp))
  | bl j=>cases ry;exact PySem.EqNone.ne_none_bool (cx I q (by simp))
  | int j=>obtain⟨t',rfl⟩:=ry;exact PySem.EqNone.ne_none_int (cx I q (by simp))
  | str j=>obtain⟨t',rfl⟩:=ry;exact PySem.EqNone.ne_none_str (cx I q (by simp))
  | _=>exact absurd (show false=true from hs) dO
 | bl i =>
  cases rx;cases y with
  | d6=>cases ry;exact PySem.EqNone.ne_bool_none (cx I q (by simp))
  | bl j=>cases ry;exact ne_bool (cx I q (congrArg not GK))
  | str j=>obtain⟨t',rfl⟩:=ry;exact PySem.EqMixed.ne_bool_str (cx I q (by simp))
  | _=>exact absurd (show false=true from hs) dO
 | int i =>
  obtain⟨t,rfl⟩:=rx;cases y with
  | d6=>cases ry;exact PySem.EqNone.ne_int_none (cx I q (by simp))
  | int j=>obtain⟨t',rfl⟩:=ry;exact ne_int (cx I q (congrArg not BH))
  | str j=>obtain⟨t',rfl⟩:=ry;exact PySem.EqMixed.ne_int_str (cx I q (by simp))
  | _=>exact absurd (show false=true from hs) dO
 | str i =>
  obtain⟨t,rfl⟩:=rx;cases y with
  | d6=>cases ry;exact PySem.EqNone.ne_str_none (cx I q (by simp))
  | bl j=>cases ry;exact PySem.EqMixed.ne_str_bool (cx I q (by simp))
  | int j=>obtain⟨t',rfl⟩:=ry;exact PySem.EqMixed.ne_str_int (cx I q (by simp))
  | str j=>obtain⟨t',rfl⟩:=ry;exact ne_str (cx I q (congrArg not BG))
  | _=>exact absurd (show false=true from hs) dO
 | AB i =>
  obtain⟨t,rfl⟩:=rx;cases y with
  | AB j=>obtain⟨t',rfl⟩:=ry;exact PySem.W.ne_bytes (cx I q (congrArg not BI))
  | _=>exact absurd (show false=true from hs) dO
 | _=>cases y <;> exact absurd (show false=true from hs) dO
def nU:ji X (compareOp .Lt) (Lz λi j=>.bl (decide (i < j))):=LK λ_ _ _ _ _ _ _ q=>lt_int q
def JX:ji X (compareOp .LtE) (Lz λi j=>.bl (decide (i<=j))):=LK λ_ _ _ _ _ _ _ q=>le_int q
def rY:ji X (compareOp .Gt) (Lz λi j=>.bl (decide (j < i))):=LK λ_ _ _ _ _ _ _ q=>gt_int q
def ji.or {f:Value->Value->Sem Value}{r r':R2}(h:ji X f r)(h':ji X f r'):ji X f (λx y H Q=>r x y H Q\/r' x y H Q):=by
 intro ag s σ H x y v u Q I rx ry q;rcases q with q | q
 .exact h ag s σ H x y v u Q I rx ry q
 exact h' ag s σ H x y v u Q I rx ry q
def bu (b:Expr){op:CmpOp}(h:op≠.In:=by decide)(h2:op≠.NotIn:=by decide):behindInMarks op b=false:=by
 have e1:(op == CmpOp.In)=false:=by cases op <;> first | rfl | exact absurd rfl h
 have e2:(op == CmpOp.NotIn)=false:=by cases op <;> first | rfl | exact absurd rfl h2
 cases b <;> simp [behindInMarks,e1,e2]
def eK {op:CmpOp}{r:R2}(ho:ji X (compareOp op) r)(ha:PE X a ta)(hb:PE X b tb)(hm:behindInMarks op b=false):PE X (.Compare a [op] [b] pos) (Rn r ta tb):=by
 intro ag s σ H Q I h;exact wpAny_Compare1 (Ni ha hb I h λv u s2 x y H2 I2 rx ry q=>ho ag s2 σ H2 x y v u Q I2 rx ry q) hm
def JE (t:TE):TT:=λσ H Q=>t σ H λx H'=>∃k,x=.bl k/\Q k H'
def aV {op:CmpOp}{r:R2}(ho:ji X (compareOp op) r)(ha:PE X a ta)(hb:PE X b tb)(hm:behindInMarks op b=false):PT X (.Compare a [op] [b] pos) (JE (Rn r ta tb)):=by
 intro ag s σ H Q I h;refine wpAny_isTrue_Compare1 (cI (ha ag s σ H _ I h) λv s1 ⟨x,H1,I1,r1,q1⟩=>cI (hb ag s1 σ H1 _ I1 q1) λu s2 ⟨y,H2,I2,r2,q2⟩ =>
  cI (ho ag s2 σ H2 x y v u _ I2 r1 r2 q2) λc s3 ⟨z,H3,I3,r3,k,e,q3⟩=>?_) hm
 subst e;cases r3;exact kj ⟨H3,I3,q3⟩
def Ef (r r':R2)(ta tb tc:TE):TE:=λσ H Q=>ta σ H λx H1=>tb σ H1 λy H2=>r x y H2 λz H3=>∃k,z=.bl k /\
 (if k=true then tc σ H3 λw' H4=>r' y w' H4 Q else Q (.bl false) H3)
def E9 {op LM:CmpOp}{r r':R2}(ho:ji X (compareOp op) r)(CP:ji X (compareOp LM) r')(ha:PE X a ta)(hb:PE X b tb)(hc:PE X c tc)
  (hm:lastMarks [op,LM] [b,c]=false:=by with_unfolding_all rfl):PE X (.Compare a [op,LM] [b,c] pos) (Ef r r' ta tb tc):=by
 intro ag s σ H Q I h;refine Compare_chain (cI (ha ag s σ H _ I h) λv s1 ⟨x,H1,I1,r1,q1⟩=>chain_link (cI (hb ag s1 σ H1 _ I1 q1) λu s2 ⟨y,H2,I2,r2,q2⟩ =>
  cI (ho ag s2 σ H2 x y v u _ I2 r1 r2 q2) λd s3 ⟨z,H3,I3,r3,k,e,q3⟩=>?_)) hm
 subst e;cases r3;refine kj ?_;cases k with
 | false=>exact ite_ff ⟨.bl false,H3,I3,rfl,q3⟩
 | true=>exact ite_tt (chain_last (cI (hc ag s3 σ H3 _ I3 q3) λw' s4 ⟨z',H4,I4,r4,q4⟩=>CP ag s4 σ H4 y z' u w' Q I4 r2 r4 q4))
def EV {op LM:CmpOp}{r r':R2}(ho:ji X (compareOp op) r)(CP:ji X (compareOp LM) r')(ha:PE X a ta)(hb:PE X b tb)(hc:PE X c tc)
  (hm:lastMarks [op,LM] [b,c]=false:=by with_unfolding_all rfl):PT X (.Compare a [op,LM] [b,c] pos) (JE (Ef r r' ta tb tc)):=by
 intro ag s σ H Q I h;refine isTrue_chain (cI (ha ag s σ H _ I h) λv s1 ⟨x,H1,I1,r1,q1⟩=>test_link (cI (hb ag s1 σ H1 _ I1 q1) λu s2 ⟨y,H2,I2,r2,q2⟩ =>
  cI (ho ag s2 σ H2 x y v u _ I2 r1 r2 q2) λd s3 ⟨z,H3,I3,r3,k,e,q3⟩=>?_)) hm
 subst e;cases r3;refine kj ?_;cases k with
 | false =>
  obtain⟨k',e',q'⟩:=q3;cases e';exact ite_ff ⟨H3,I3,q'⟩
 | true =>
  refine ite_tt (test_last (cI (hc ag s3 σ H3 _ I3 q3) λw' s4 ⟨z',H4,I4,r4,q4⟩=>cI (CP ag s4 σ H4 y z' u w' _ I4 r2 r4 q4) λd' s5 ⟨z2,H5,I5,r5,k2,e2,q5⟩=>?_));subst e2;cases r5;exact kj ⟨H5,I5,q5⟩
def G6 (K:a9)(x:V)(H:Hp)(k:Bool):Prop :=
 match x with
 | .d6=>k=false
 | .bl b=>k=b
 | .int i=>k=(i != 0)
 | .str y=>y.length<=sizeLine/\k=((y.length:Int) != 0)
 | .AB y=>y.size<=sizeLine/\k=((y.size:Int) != 0)
 | .ref p=>(∃xs,aI K H p xs/\k=!xs.isEmpty)\/(∃xs,aQ K H p xs/\k=!xs.isEmpty)\/∃kvs,H p=some (.dK kvs)/\k=!kvs.isEmpty
 | _=>False
def Ab {κ:Type}{kvs:List (κ×V)}{vs:List (κ×Value)}(r:KV kvs vs):(!vs.isEmpty)=!kvs.isEmpty:=by
 cases r <;> rfl
def sq {xs:List V}{aU:List Value}(r:a_ xs aU):(!aU.toArray.isEmpty)=!xs.isEmpty:=by
 cases r <;> simp
def v7:(sizeLine:Nat) < 2 ^ 63:=by rw [sizeLine_eq];decide
def K5:WY X (λx H Q=>∃k,G6 X.K x H k/\Q k H):=by
 intro ag s σ H x v Q I rx h;obtain⟨k,e,q⟩:=h;have hl:=v7;have hs:sizeLine=16777216:=sizeLine_eq;cases x with
 | d6 =>
  cases rx;have e':k=false:=e;subst e';exact truthy_none ⟨H,I,q⟩
 | bl b =>
  cases rx;have e':k=b:=e;subst e';exact kj ⟨H,I,q⟩
 | int i =>
  obtain⟨t,rfl⟩:=rx;have e':k=(i != 0):=e;subst e';exact PySem.P.truthy_int ⟨H,I,q⟩
 | str y =>
  obtain⟨t,rfl⟩:=rx;obtain⟨hy,e'⟩:y.length<=sizeLine/\k=((y.length:Int) != 0):=e;subst e';exact PySem.P.truthy_str ∅ ⟨H,I.tok _,q⟩
 | AB y =>
  obtain⟨t,rfl⟩:=rx;obtain⟨hy,e'⟩:y.size<=sizeLine/\k=((y.size:Int) != 0):=e;subst e';exact PySem.W.truthy_bytes ∅ ⟨H,I.tok _,q⟩
 | ref p =>
  cases rx;have e':(∃xs,aI X.K H p xs/\k=!xs.isEmpty)\/(∃xs,aQ X.K H p xs/\k=!xs.isEmpty)\/∃kvs,H p=some (.dK kvs)/\k=!kvs.isEmpty:=e;rcases e' with ⟨xs,hx,e'⟩ | ⟨xs,hx,e'⟩ | ⟨kvs,hx,e'⟩
  .subst e';obtain⟨aU,r,pl,hz⟩:=I.list hx;have br:=r.length;exact wpAny_truthy_list pl.isList (by simp only [bQ];omega) ⟨H,I.tok _,by rw [sq r];exact q⟩
  .subst e';obtain⟨aU,r,pl,hz⟩:=I.tuple hx;have br:=r.length;exact truthy_tuple pl (by simp only [bQ];omega) ⟨H,I.tok _,by rw [sq r];exact q⟩
  subst e';obtain⟨hz,hS,vs,r,m⟩:kvs.length<=sizeLine/\(p == sysModules)=false/\∃vs,KV kvs vs/\s.heap.DictOf (bj X.prog X.w) p vs:=I.b0 p _ hx;have br:kvs.length=vs.length:=aY r;exact wpAny_truthy_dict hS m ∅ ⟨H,I.tok _,by rw [Ab r];exact q⟩
 | _=>exact(show False from e).elim
def gF (ha:PE X a ta)(he:∀whole,isTrue a X.env whole=(do let v <-whole;standAt a.pos;holding [v] (truthy v))) :
  PT X a (λσ H Q=>ta σ H λx H'=>∃k,G6 X.K x H' k/\Q k H'):=by
 intro ag s σ H Q I h;exact isTrue_plain (cI (ha ag s σ H _ I h) λv s1 ⟨x,H1,I1,r1,q1⟩=>K5 ag s1 σ H1 x v Q I1 r1 q1) (he _)
def zN:ji X (binaryOp .Add) (λx y H Q=>∃i j,x=.str i/\y=.str j/\i.length+j.length<=sizeLine/\Q (.str (i++j)) H):=by
 intro ag s σ H x y v u Q I rx ry h;obtain⟨i,j,rfl,rfl,hz,q⟩:=h;obtain⟨t,rfl⟩:=rx;obtain⟨t',rfl⟩:=ry;exact add_str (λt' tk=>⟨.str (i++j),H,I.tok _,⟨_,rfl⟩,q⟩) hz
def vals1 {x:V}{us:List Value}(r:a_ [x] us):∃u,us=[u]/\RelV x u:=by
 cases r with
 | cons r1 r2=>cases r2;exact⟨_,rfl,r1⟩
def vals2 {x y:V}{us:List Value}(r:a_ [x,y] us):∃u w',us=[u,w']/\RelV x u/\RelV y w':=by
 cases r with
 | cons r1 r2 =>
  cases r2 with
  | cons r3 r4=>cases r4;exact⟨_,_,rfl,r1,r3⟩
def Dn (hc:X.calm=true):ik X (.builtin "max") (λxs H Q=>∃i j,xs=[.int i,.int j]/\Q (.int (if j > i then j else i)) H):=by
 intro ag s σ H xs us Q I r h;obtain⟨i,j,rfl,q⟩:=h;obtain⟨u,w',rfl,⟨t,rfl⟩,⟨t',rfl⟩⟩:=vals2 r;refine max_two_ints (I.ok.hd hc) λh' tk k=>⟨_,H,I.kept k,?_,q⟩;by_cases hj:j > i
 .rw [ax hj,ax hj];exact⟨_,rfl⟩
 rw [az hj,az hj];exact⟨_,rfl⟩
end
structure AH (h:Heap)(x dx C:Addr)(mA:Str->Option Value):Prop where
 obj:h.get? x=some (PySem.W.instObj C dx)
 ns:h.Ns1 dx mA
 ne:dx≠x
def CC {h:Heap}{dx:Addr}{mA:Str->Option Value}(n:h.Ns1 dx mA):∃od,h.get? dx=some od/\∀name,PySem.W.lookIn name od=some (mA name):=by
 obtain⟨o,es,ep,ho,hd,hk,_,hm⟩:=n;refine⟨o,ho,λname=>?_⟩;have e:=hm name;unfold nsFind findBy at e;rw [<-Array.find?_toList] at e;unfold PySem.W.lookIn;rw [hd];dsimp only
 split
 .rename_i y q
  rw [q] at e;exact congrArg some e
 rename_i q
 rw [q] at e;have a:es.toList.any (·.refKey)=false:=by
  rw [List.any_eq_false];intro y hy;obtain⟨z,t,Vi⟩:=hk y (Array.mem_toList_iff.mp hy);simp [DictEntry.refKey,Vi]
 have a':¬es.toList.any (·.refKey)=true:=by rw [a];exact dO
 rw [az a'];exact congrArg some e
def AH.look {h:Heap}{x dx C:Addr}{mA:Str->Option Value}(I:AH h x dx C mA):∃od,PySem.W.InstAt h x (PySem.W.instObj C dx) C (some od)/\∀name,PySem.W.lookIn name od=some (mA name) :=
 let ⟨od,ho,hl⟩:=CC I.ns
 ⟨od,⟨I.obj,rfl,rfl,ho⟩,hl⟩
section
variable {prog:Program}{w:World}{A:Around}{E:Value->Shared->Prop}{s:Shared}{K:a9}{x dx C f:Addr}{mA:Str->Option Value}{name:Str}{v:Value}
def get_map {expr:Bool}{Q:Value->Shared->Prop}(X:K.In s.heap)(I:AH s.heap x dx C mA)(hg:PySem.W.plainGet K C name=true)(hh:PySem.W.hasDictIn K C=true)
  (ha:PySem.W.findIn K (.ref C) name=some none)(hv:mA name=some v)(hv':PySem.W.handedIn v=true)(h:Q v { s with toks:=s.toks+1 }) :
  wpAny (model prog w) A (getAttr (.ref x) name expr) Q E s:=by
 obtain⟨od,J,hl⟩:=I.look;exact PySem.W.get_value X J (PySem.W.plainGet_of hg).1 (PySem.W.findObj_own hh ha rfl (by rw [hl,hv])) hv' h
def Gi {pl:Sem Bool}{Q:Value×List Value->Shared->Prop}(X:K.In s.heap)(I:AH s.heap x dx C mA)(hg:PySem.W.plainGet K C name=true)
  (hf:PySem.W.findIn K (.ref C) name=some (some (.ref f)))(ht:PySem.W.isFn K (.ref f)=true)(hv:mA name=none)(h:Q (.ref f,[.ref x]) s) :
  wpAny (model prog w) A (getMethod (.ref x) name pl) Q E s:=by
 obtain⟨od,J,hl⟩:=I.look;exact PySem.W.method_fn X J (PySem.W.plainGet_of hg).1 (PySem.W.plainGet_of hg).2 hf (beq_iff_eq.mp ht) (by show (PySem.W.lookIn name od).map (·.isSome)=some false;rw [hl,hv];rfl) h
def H_ {ns:List Str}{Q:Unit->Shared->Prop}(X:K.In s.heap)(I:AH s.heap x dx C mA)
  (hs:PySem.W.findIn K (.ref C) "__setattr__"=some (some (.builtin "object.__setattr__")))(hp:PySem.W.plainOver K C=true)(ht:PySem.W.takerIn K C name=some none)(hh:PySem.W.hasDictIn K C=true)
  (hw:PySem.Within mA ns)(hsz:ns.length<=sizeLine)
  (h:∀h',AH h' x dx C (λy=>if y=name then some v else mA y)->Heap.SameBut dx s.heap h'->Q () { s with heap:=h',toks:=s.toks+2 }) :
  wpAny (model prog w) A (setAttr (.ref x) name v) Q E s:=by
 obtain⟨od,J,hl⟩:=I.look;refine PySem.W.set_plain X J hs (PySem.W.osa_open (s:={ s with toks:=s.toks+1 }) (r:=none) X J hp ht λb=>?_);obtain⟨cd,hc,CT⟩:=PySem.W.any_some hh;have hx:s.heap.get? x=some ⟨.ref C,some dx,.plain,#[]⟩:=I.obj;refine ar (aR (ar (ar (wpAny_loadPart hx (ar (PySem.W.Looks.here (s:={ s with toks:=s.toks+1 }) (PySem.W.looks_clsIn X hc) ?_))))));rw [CT];refine aR (a:=some dx) (ar (aR (ar ?_)));refine wpAny_nsSet1 (s:={ s with toks:=s.toks+1 }) I.ns λh' F7 YE=>?_;obtain⟨oD,esD,epD,hoD,hdD,hcD⟩:=F7.count (PySem.Within.cons name v hw);refine ar (wpAny_lookBehind hoD (by rw [hdD];exact pastItsLine_dict (fV hcD (by rw [dM];omega))) ?_);exact aR (h _ ⟨(YE.2 _ (cO I.ne)).trans I.obj,F7,I.ne⟩ YE)
def FH {R:Result->Shared->Prop}{vs:List Value}{kw:List (Str×Value)}(X:K.In s.heap)(hm:PySem.W.makesIn K C=true)
  (hi:PySem.W.findIn K (.ref C) "__init__"=some (some (.ref f)))(hf:PySem.W.typeIn K (.ref f)=some (.type "function"))
  (h:codeAny (model prog w) (A.under (.builtin "type.__call__" ⟨.ref C::vs,kw⟩)) (.call (.ref f) ⟨.ref (s.heap.objs.size+1)::vs,kw⟩) (PySem.W.InitBack (s.heap.objs.size+1) R)
   { s with heap:=(s.heap.push PySem.W.emptyDict).push (PySem.W.instObj C s.heap.objs.size) }) :
  codeAny (model prog w) A (.call (.ref C) ⟨vs,kw⟩) R s:=by
 obtain⟨hh,g,d,t,os⟩:=s;exact PySem.W.make_core (PySem.W.makes_of X hm) (PySem.W.looks_findIn X hi) (λself=>PySem.W.bind_fn X self hf) (.inl rfl) h
end
def dW (f:Str)(v:V):List (Str×V)->List (Str×V)
 | []=>[(f,v)]
 | (g,x)::r=>if g=f then (g,v)::r else (g,x)::dW f v r
theorem qc (f g:Str)(v:V):∀fs:List (Str×V),(dW f v fs).lookup g=if g=f then some v else fs.lookup g
 | []=>by
  show List.lookup g [(f,v)]=_;by_cases h:g=f
  .have hb:(g == f)=true:=beq_iff_eq.mpr h;simp only [List.lookup,hb,ax h]
  have hb:(g == f)=false:=j4.mpr h;simp only [List.lookup,hb,az h]
 | (k,x)::r=>by
  have ih:=qc f g v r;rw [show dW f v ((k,x)::r)=(if k=f then (k,v)::r else (k,x)::dW f v r) from rfl];by_cases hk:k=f
  .rw [ax hk];by_cases h:g=k
   .have hb:(g == k)=true:=beq_iff_eq.mpr h;simp only [List.lookup,hb,ax (h.trans hk)]
   have hb:(g == k)=false:=j4.mpr h;simp only [List.lookup,hb,az (λe:g=f=>h (e.trans hk.symm))]
  rw [az hk];by_cases h:g=k
  .have hb:(g == k)=true:=beq_iff_eq.mpr h;simp only [List.lookup,hb,az (λe:g=f=>hk (h.symm.trans e))]
  have hb:(g == k)=false:=j4.mpr h;simp only [List.lookup,hb];exact ih
theorem pE (f:Str)(v:V):∀fs:List (Str×V),f∈(dW f v fs).map (·.1)/\∀g,g∈fs.map (·.1)->g∈(dW f v fs).map (·.1)
 | []=>⟨by simp [dW],λg h=>by simp at h⟩
 | (k,x)::r=>by
  obtain⟨i1,i2⟩:=pE f v r;rw [show dW f v ((k,x)::r)=(if k=f then (k,v)::r else (k,x)::dW f v r) from rfl];by_cases hk:k=f
  .rw [ax hk];subst hk;exact⟨by simp,λg h=>by simpa using h⟩
  rw [az hk];refine⟨?_,λg h=>?_⟩
  .rw [cq];exact dr _ i1
  rw [cq] at h ⊢;rcases cz.mp h with e | e
  .exact cz.mpr (.inl e)
  exact dr _ (i2 g e)
theorem qd (f:Str)(v:V):∀fs:List (Str×V),(dW f v fs).length<=fs.length+1
 | []=>by simp [dW]
 | (k,x)::r=>by
  have ih:=qd f v r;rw [show dW f v ((k,x)::r)=(if k=f then (k,v)::r else (k,x)::dW f v r) from rfl];by_cases hk:k=f
  .rw [ax hk,dM,dM];omega
  rw [az hk,dM,dM];omega
def jS.some_of {v:V}{o:Option Value}(r:jS (some v) o):∃u,o=some u/\RelV v u:=by
 cases o with
 | none=>exact(show False from r).elim
 | some u=>exact⟨u,rfl,r⟩
def jS.none_of {o:Option Value}(r:jS none o):o=none:=by
 cases o with
 | none=>rfl
 | some u=>exact(show False from r).elim
def CV {v:V}{u:Value}(r:RelV v u):PySem.W.handedIn u=true:=by
 cases v with
 | d6=>cases (show u=Value.none from r);rfl
 | bl b=>cases (show u=Value.bool b from r);rfl
 | int i=>obtain⟨t,e⟩:=(show ∃t,u=Value.int i t from r);cases e;rfl
 | str x=>obtain⟨t,e⟩:=(show ∃t,u=Value.str x t from r);cases e;rfl
 | AB b=>obtain⟨t,e⟩:=(show ∃t,u=Value.bytes b t from r);cases e;rfl
 | MR b=>obtain⟨t,e⟩:=(show ∃t,u=Value.float b t from r);cases e;rfl
 | ref a=>cases (show u=Value.ref a from r);rfl
 | ty n=>cases (show u=Value.type n from r);rfl
section
variable {P:Program}{w:World}{H H':Hp}{h h':Heap}{a C dx:Addr}{fs Hw:List (Str×V)}
def v_ (b0:l7 P w H h)(e:H a=some (.ins C dx fs)):∃mA,AH h a dx C mA/\(∀f,jS (fs.lookup f) (mA f))/\PySem.Within mA (fs.map (·.1))/\fs.length<=1000/\H dx=some (.own a):=by
 obtain⟨d,z,ne,ob,mA,n,r,q⟩:=(show cE P w H h a (.ins C dx fs) from b0 a _ e);exact⟨mA,⟨ob,n,ne⟩,r,q,z,d⟩
end
structure Dx (K:a9)(C:Addr):Prop where
 pg:PySem.W.plainGet K C Str.empty=true
 hd:PySem.W.hasDictIn K C=true
 po:PySem.W.plainOver K C=true
 sa:PySem.W.findIn K (.ref C) "__setattr__"=some (some (.builtin "object.__setattr__"))
def Dx.get {K:a9}{C:Addr}(c:Dx K C)(f:Str):PySem.W.plainGet K C f=true:=c.pg
def d0 (K:a9)(C:Addr)(f:Str):Prop:=PySem.W.findIn K (.ref C) f=some none
def d0.Ov {K:a9}{C:Addr}{f:Str}(n:d0 K C f):PySem.W.takerIn K C f=some none:=by
 unfold PySem.W.takerIn;rw [show PySem.W.findIn K (.ref C) f=some none from n];rfl
structure Con (K:a9)(C:Addr)(f:Str)(v:V)(u:Value):Prop where
 at_:PySem.W.findIn K (.ref C) f=some (some u)
 rel:RelV v u
 get:PySem.W.specialIn K u "__get__"=some none
 cp:PySem.W.copiedNames.contains f=false
structure Meth (K:a9)(C:Addr)(m:Str)(f:Addr):Prop where
 at_:PySem.W.findIn K (.ref C) m=some (some (.ref f))
 fn:PySem.W.isFn K (.ref f)=true
 kp:PySem.W.keepIn K (.ref f)=true
section
variable {X:Cx}{ag:List (Addr×Obj)}{σ:St}{H:Hp}{s:Shared}{a C dx:Addr}{fs:List (Str×V)}{f:Str}{v:V}{A:Around}{E:Value->Shared->Prop}
def Ai {b:Bool}{Q:Value->Shared->Prop}(I:Inv X ag σ H s)(e:H a=some (.ins C dx fs))(c:Dx X.K C)(n:d0 X.K C f)(l:fs.lookup f=some v)
  (h:∀u s',Inv X ag σ H s'->RelV v u->Q u s'):wpAny (model X.prog X.w) A (getAttr (.ref a) f b) Q E s:=by
 obtain⟨mA,O,r,_,_,_⟩:=v_ I.b0 e;obtain⟨u,hu,ru⟩:=jS.some_of (v:=v) (o:=mA f) (by rw [<-l];exact r f);exact get_map I.v9 O (c.get f) c.hd n hu (CV ru) (h u _ (I.tok _) ru)
def sG {m:Str}{g:Addr}{pl:Sem Bool}{Q:Value×List Value->Shared->Prop}(I:Inv X ag σ H s)(e:H a=some (.ins C dx fs))(c:Dx X.K C)(k:Meth X.K C m g)(l:fs.lookup m=none)
  (h:Q (.ref g,[.ref a]) s):wpAny (model X.prog X.w) A (getMethod (.ref a) m pl) Q E s:=by
 obtain⟨mA,O,r,_,_,_⟩:=v_ I.b0 e;have hn:mA m=none:=jS.none_of (by rw [<-l];exact r m);exact Gi I.v9 O (c.get m) k.at_ k.fn hn h
def yV {y:V}{u:Value}{Q:Unit->Shared->Prop}(I:Inv X ag σ H s)(e:H a=some (.ins C dx fs))(c:Dx X.K C)(n:d0 X.K C f)(hl:fs.length < 1000)(ry:RelV y u)
  (h:∀s',Inv X ag σ (upd H a (.ins C dx (dW f y fs))) s'->Q () s'):wpAny (model X.prog X.w) A (setAttr (.ref a) f u) Q E s:=by
 obtain⟨mA,O,r,wi,_,ho⟩:=v_ I.b0 e;have hz:(fs.map (·.1)).length<=sizeLine:=by rw [au,sizeLine_eq];omega
 refine H_ I.v9 O c.sa c.po n.Ov c.hd wi hz λh' O' sb=>h _ ?_;have hd:∃o,h'.get? dx=some o:=let ⟨o,_,_,e',_⟩:=O'.ns;⟨o,e'⟩;refine I.write (x:=a) (e:=dx) (by rw [e];exact True.intro) (.inr ho) (λb q hb z=>(sb.2 b hb).trans z) hd ?_;refine⟨by rw [aj O.ne];exact ho,?_,O.ne,O'.obj,_,O'.ns,λg=>?_,λg hg=>?_⟩
 .have:=qd f y fs;omega
 .show jS ((dW f y fs).lookup g) (if g=f then some u else mA g);rw [qc];by_cases q:g=f
  .rw [ax q,ax q];exact ry
  rw [az q,az q];exact r g
 by_cases q:g=f
 .rw [q];exact(pE f y fs).1
 refine(pE f y fs).2 g (wi g λz=>hg ?_);show (if g=f then some u else mA g)=none;rw [az q];exact z
def Inv.made (I:Inv X ag σ H s):Inv X ag σ (upd (upd H s.heap.objs.size (.own (s.heap.objs.size+1))) (s.heap.objs.size+1) (.ins C s.heap.objs.size []))
  { s with heap:=(s.heap.push PySem.W.emptyDict).push (PySem.W.instObj C s.heap.objs.size) }:=by
 have e1:(s.heap.push PySem.W.emptyDict).get? s.heap.objs.size=some PySem.W.emptyDict:=cV s.heap rfl;have e2:((s.heap.push PySem.W.emptyDict).push (PySem.W.instObj C s.heap.objs.size)).get? (s.heap.objs.size+1)=some (PySem.W.instObj C s.heap.objs.size):=by
  have:=cV (s.heap.push PySem.W.emptyDict) (o:=PySem.W.instObj C s.heap.objs.size) rfl;rwa [jj] at this
 have e3:(s.heap.push PySem.W.emptyDict).Ns s.heap.objs.size (λ_=>none):=⟨PySem.W.emptyDict,#[],_,e1,rfl,(λe he=>absurd he (by simp)),λ_=>rfl⟩;have I1:=I.laid (a:=s.heap.objs.size) (o:=.own (s.heap.objs.size+1)) (h':=s.heap.push PySem.W.emptyDict) (t':=s.toks) (λb u q=>bI _ q) (aH _) ⟨_,e1⟩;refine I1.laid (a:=s.heap.objs.size+1) (o:=.ins C s.heap.objs.size []) (t':=s.toks) (λb u q=>bI _ q) (Nat.le_of_eq (jj _ _)) ?_;have ne:s.heap.objs.size≠s.heap.objs.size+1:=bM (mS _);refine⟨by rw [aj ne,ae],gA _,ne,e2,λ_=>none,(Heap.Ns1.of_empty e3).at λo q=>bI _ q,λ_=>True.intro,λy hy=>absurd rfl hy⟩
def Jr {prog:Program}{w:World}{env:Env}{e:Expr}{f:Str}{pos:Pos}{s:Shared}{Q:Value->Shared->Prop}(hb:attributeBase e f env (eval e env)=eval e env)
  (h:wpAny (model prog w) A (eval e env) (λo s₁=>wpAny (model prog w) A (getAttr o f true) Q E s₁) E s):wpAny (model prog w) A (eval (.Attribute e f pos) env) Q E s :=
 Attribute_any_ h (by rw [arm_eval_Attribute,hb])
end
def Te (K:a9)(ta:TE)(f:Str):TE:=λσ H Q=>ta σ H λx H1=>∃a C dx fs v,x=.ref a/\H1 a=some (.ins C dx fs)/\Dx K C/\d0 K C f/\fs.lookup f=some v/\Q v H1
def Tq (K:a9)(ta tv:TE)(f:Str):TS:=λD σ H=>tv σ H λy H1=>ta σ H1 λx H2=>∃a C dx fs,x=.ref a/\H2 a=some (.ins C dx fs)/\Dx K C/\d0 K C f/\fs.length < 1000 /\
 D.nx σ (upd H2 a (.ins C dx (dW f y fs)))
section
variable {X:Cx}{o e value:Expr}{f:Str}{pos pos' vm:Pos}{ta tv:TE}
def e_ (he:PE X e ta)(hb:attributeBase e f X.env (eval e X.env)=eval e X.env):PE X (.Attribute e f pos) (Te X.K ta f):=by
 intro ag s σ H Q I h;refine Jr hb (cI (he ag s σ H _ I h) λu s1 ⟨x,H1,I1,rx,a,C,dx,fs,v,ex,ea,c,n,l,q⟩=>?_);subst ex;obtain rfl:u=Value.ref a:=rx;exact Ai I1 ea c n l λu' s2 I2 ru=>⟨v,H1,I2,ru,q⟩
def gG (ha:PE X o ta)(hv:PE X value tv)(hs:swapsWith value (some (.Attribute o f pos')) pos.line X.env=pure false):PS X (.Assign [.Attribute o f pos'] value pos) (Tq X.K ta tv f):=by
 intro ag s σ H D I h;refine plainObj_wpAny_Assign_Attribute (cI (hv ag s σ H _ I h) λu s1 ⟨y,H1,I1,ry,q⟩=>cI (ha ag s1 σ H1 _ I1 q) λov s2 ⟨x,H2,I2,rx,a,C,dx,fs,ex,ea,c,n,l,q2⟩=>?_) hs;subst ex;obtain rfl:ov=Value.ref a:=rx;exact yV I2 ea c n l ry λs3 I3=>⟨σ,_,I3,q2⟩
def J1 {pl:Sem Bool}{m:Str}{apos:Pos}{args:List Expr}{ag:List (Addr×Obj)}{s:Shared}{σ:St}{H:Hp}{Q:Value->Shared->Prop}{te:TE}(he:PE X e te)(I:Inv X ag σ H s)
  (h:te σ H λx H1=>∃a C dx fs g,x=.ref a/\H1 a=some (.ins C dx fs)/\Dx X.K C/\Meth X.K C m g/\fs.lookup m=none /\
   ∀s1,Inv X ag σ H1 s1->wpAny (model X.prog X.w) X.A (callWith pos (.ref g) [.ref a] (backTo pos (starEach args X.env)) (backToKw pos (keywordEach [] X.env))) Q X.xe s1)
  (ht:eval (.Call (.Attribute e m apos) args [] pos) X.env=(do
   let ov <-eval e X.env
   standAt apos.atName
   let (f,first) <-holding [ov] (getMethod ov m pl)
   callWith pos f first (backTo pos (starEach args X.env)) (backToKw pos (keywordEach [] X.env)))) :
  wpAny (model X.prog X.w) X.A (eval (.Call (.Attribute e m apos) args [] pos) X.env) Q X.xe s:=by
 refine PySem.W.methodCall_KW (pl:=pl) (cI (he ag s σ H _ I h) λu s1 ⟨x,H1,I1,rx,a,C,dx,fs,g,ex,ea,c,k,l,q⟩=>?_) ht;subst ex;obtain rfl:u=Value.ref a:=rx;exact sG I1 ea c k l (q s1 I1)
end
section
variable {X:Cx}{ag:List (Addr×Obj)}{σ:St}{H:Hp}{s:Shared}{A:Around}{E:Value->Shared->Prop}{Q:Value->Shared->Prop}{c:Value}{b:Bool}
inductive tE (K:a9)(H:Hp):V->Value->Prop where
 | d6:tE K H .d6 (.type "NoneType")
 | bl (x:Bool):tE K H (.bl x) (.type "bool")
 | int (i:Int):tE K H (.int i) (.type "int")
 | str (x:Str):tE K H (.str x) (.type "str")
 | MR (x:UInt64):tE K H (.MR x) (.type "float")
 | lst {a:Addr}{xs:List V}(e:H a=some (.lst xs)):tE K H (.ref a) (.type "list")
 | ki {a:Addr}{o:Obj}{xs:List V}(e:H a=some (.ki o (.lst xs))):tE K H (.ref a) (.type "list")
 | tup {a:Addr}{xs:List V}(e:H a=some (.tup xs)):tE K H (.ref a) (.type "tuple")
 | dK {a:Addr}{kvs:List (aS×V)}(e:H a=some (.dK kvs)):tE K H (.ref a) (.type "dict")
 | dT {a:Addr}{kvs:List (List aS×V)}(e:H a=some (.dT kvs)):tE K H (.ref a) (.type "dict")
 | ins {a C dx:Addr}{fs:List (Str×V)}(e:H a=some (.ins C dx fs))(cl:Dx K C)(ha:PySem.W.findIn K (.ref C) "__class__"=some (some (.builtin "object.__class__")))
   (hn:PySem.W.specialIn K (.builtin "object.__class__") "__get__"=some (some (.builtin "getset_descriptor.__get__")))(htk:PySem.W.takesIn K (.builtin "object.__class__")=some true)
   (hm:PySem.W.mroIn K C (.type "object")=some true):tE K H (.ref a) (.ref C)
end
structure fh (k:Nat)(A:Around):Prop where
 hd:A.handled=none
 dp:A.depth+3 * k+5 < recursionLimit
 un:A.units+16 * k+200 < cLine
def fh.mono {j k:Nat}{A:Around}(r:fh k A)(h:j<=k):fh j A:=⟨r.hd,by have:=r.dp;omega,by have:=r.un;omega⟩
theorem fh.deeper {k:Nat}{A:Around}(r:fh (k+1) A)(env:Env):fh k (A.deeper env) :=
 ⟨r.hd,by have:=r.dp;show A.depth+1+3 * k+5 < _;omega,by have:=r.un;show A.units+3+16 * k+200 < _;omega⟩
theorem fh.in1 {k:Nat}{A:Around}(r:fh (k+1) A):fh k A.in1 :=
 ⟨r.hd,by have:=r.dp;show A.depth+3 * k+5 < _;omega,by have:=r.un;show A.units+1+16 * k+200 < _;omega⟩
def zZ {A:Around}{C:Addr}{us:List Value}{kw:List (Str×Value)}:(A.under (.builtin "type.__call__" ⟨.ref C::us,kw⟩)).depth=A.depth+1:=by
 first | rfl | simp [Around.under,Code.weight,Code.isCreation,Code.isGuard,Code.isCaller,Code.frames,Code.isFrame,guardIds]
def zY {A:Around}{C:Addr}{us:List Value}{kw:List (Str×Value)}:(A.under (.builtin "type.__call__" ⟨.ref C::us,kw⟩)).units=A.units+1:=by
 first | rfl | simp [Around.under,Code.cUnits,Code.frames,Code.isFrame]
def fh.make {k:Nat}{A:Around}(r:fh (k+1) A)(C:Addr)(us:List Value)(kw:List (Str×Value)):fh k (A.under (.builtin "type.__call__" ⟨.ref C::us,kw⟩)) :=
 ⟨r.hd,by have:=r.dp;rw [zZ];omega,by have:=r.un;rw [zY];omega⟩
theorem fh.depth {k:Nat}{A:Around}(r:fh k A):A.depth < recursionLimit:=by have:=r.dp;omega
theorem fh.units {k:Nat}{A:Around}(r:fh k A):A.units+64 < cLine:=by have:=r.un;omega
def rB:TA:=λ_ H Q=>Q [] H
def gC (ta:TE)(tr:TA):TA:=λσ H Q=>ta σ H λx H1=>tr σ H1 λxs H2=>Q (x::xs) H2
section
variable {X:Cx}{e:Expr}{es:List Expr}{te:TE}{t:TA}{pos:Pos}
def ah:PA X [] rB:=λ_ _ _ _ H Q I h=>qY ⟨[],H,I,.nil,h⟩
def ab (ha:PE X e te)(hr:PA X es t)(hs:starEach (e::es) X.env=(false,eval e X.env)::starEach es X.env:=by rfl):PA X (e::es) (gC te t):=by
 intro pos ag s σ H Q I h;rw [hs];show wpAny _ _ (spliced ((false,eval e X.env)::backTo pos (starEach es X.env))) _ _ s;refine mh (cI (ha ag s σ H _ I h) λu s1 ⟨x,H1,I1,r1,q1⟩=>?_);exact cI (hr pos ag s1 σ H1 _ I1 q1) λus s2 ⟨xs,H2,I2,r2,q2⟩=>⟨x::xs,H2,I2,.cons r1 r2,q2⟩
def tO (t:TA):TE:=λσ H Q=>t σ H λxs H1=>xs.length<=sizeLine/\∀p,H1 p=none->Q (.ref p) (upd H1 p (.tup xs))
def OF (t:TA):TE:=λσ H Q=>t σ H λxs H1=>xs.length<=sizeLine/\∀p,H1 p=none->Q (.ref p) (upd H1 p (.lst xs))
def bC {x1}(h:PA X es t):PE X (.Tuple es x1 pos) (tO t):=by
 intro ag s σ H Q I hq;refine wpAny_Tuple_spliced (cI (h pos ag s σ H _ I hq) λus s1 ⟨xs,H1,I1,r,z,q⟩=>⟨by rw [<-r.length];exact z,?_⟩);have hf:H1 s1.heap.objs.size=none:=I1.b0.fresh (aH _);refine⟨.ref s1.heap.objs.size,upd H1 s1.heap.objs.size (.tup xs),I1.laid (t':=s1.toks) (λb u e=>bI _ e) (aH _) ?_,rfl,q _ hf⟩;exact⟨z,us,r,⟨_,cV _ rfl,rfl,_,rfl⟩⟩
def bc (h:PA X es t):PE X (.List es pos) (OF t):=by
 intro ag s σ H Q I hq;refine wpAny_List_spliced (cI (h pos ag s σ H _ I hq) λus s1 ⟨xs,H1,I1,r,z,q⟩=>⟨by rw [<-r.length];exact z,?_⟩);have hf:H1 s1.heap.objs.size=none:=I1.b0.fresh (aH _);refine⟨.ref s1.heap.objs.size,upd H1 s1.heap.objs.size (.lst xs),I1.laid (t':=s1.toks) (λb u e=>bI _ e) (aH _) ?_,rfl,q _ hf⟩;exact⟨z,us,0,r,cV _ rfl⟩
end
abbrev Sp:=List V->Hp->VK->XK->Prop
abbrev yE:=List Env->Hp->Shared->XK->Value->Shared->Prop
structure qy (P:Program)(w:World)(K:a9)(mg:Str->Option Value)(base:Heap)(A:Around)(outer:List Env)(s:Shared)(H:Hp):Prop where
 frames:A.frames=some outer
 mod:Mod K mg base
 bs:∀b o,base.get? b=some o->s.heap.get? b=some o/\H b=none
 HL:base.objs.size<=s.heap.objs.size
 pJ:s.heap.FunFrames base outer
 Km:∀b∈CZ outer,H b=none
 b0:l7 P w H s.heap
 bare:AllBare s.gens
def CE (outer:List Env)(P:Program)(w:World)(H:Hp)(s:Shared)(Q:VK)(u:Value)(s':Shared):Prop :=
 ∃v H',s'.os=s.os/\AllBare s'.gens/\Un (CZ outer) [] H H' s.heap s'.heap/\l7 P w H' s'.heap/\RelV v u/\Q v H'
def CR (CX:yE)(outer:List Env)(P:Program)(w:World)(H:Hp)(s:Shared)(Q:VK)(E:XK)(r:Result)(s':Shared):Prop :=
 match r with
 | .ok (.ret u)=>CE outer P w H s Q u s'
 | .ok _=>False
 | .error e=>CX outer H s E e s'
structure bN (P:Program)(w:World)(K:a9)(mg:Str->Option Value)(base:Heap)(CX:yE) (k:Nat)(f:Addr)(fd:FuncData) (ps:List Str)(sp:Sp):Prop where
 len:∀vs H Q E,sp vs H Q E->vs.length=ps.length
 run:∀(A:Around)(outer:List Env)(s:Shared)(H:Hp)(args:Args)(us:List Value)(vs:List V)(Q:VK)(E:XK),fh k A->qy P w K mg base A outer s H->BindsTo s fd args (ps.zip us)->a_ vs us->sp vs H Q E ->
  codeAny (model P w) A (.call (.ref f) args) (CR CX outer P w H s Q E) s
theorem bN.mono {P:Program}{w:World}{K:a9}{mg:Str->Option Value}{base:Heap}{CX:yE}{j k:Nat}{f:Addr}{fd:FuncData}{ps:List Str}{sp:Sp}(F:bN P w K mg base CX j f fd ps sp)(h:j<=k) :
  bN P w K mg base CX k f fd ps sp:=⟨F.len,λA outer s H args us vs Q E hr=>F.run A outer s H args us vs Q E (hr.mono h)⟩
def bN.imp {P:Program}{w:World}{K:a9}{mg:Str->Option Value}{base:Heap}{CX:yE}{k:Nat}{f:Addr}{fd:FuncData}{ps:List Str}{sp Xr:Sp}(F:bN P w K mg base CX k f fd ps sp)
  (h:∀vs H Q E,Xr vs H Q E->sp vs H Q E):bN P w K mg base CX k f fd ps Xr :=
 ⟨λvs H Q E q=>F.len vs H Q E (h _ _ _ _ q),λA outer s H args us vs Q E hr he hb hv hs=>F.run A outer s H args us vs Q E hr he hb hv (h _ _ _ _ hs)⟩
def qy.make {P:Program}{w:World}{K:a9}{mg:Str->Option Value}{base:Heap}{A:Around}{outer:List Env}{s:Shared}{H:Hp}(e:qy P w K mg base A outer s H)(C:Addr)(us:List Value)(kw:List (Str×Value)) :
  qy P w K mg base (A.under (.builtin "type.__call__" ⟨.ref C::us,kw⟩)) outer s H:=⟨by first | exact e.frames | (simpa [Around.under,Code.envs,Code.isFrame,pushEnvs] using e.frames),e.mod,e.bs,e.HL,e.pJ,e.Km,e.b0,e.bare⟩
theorem qy.in1 {P:Program}{w:World}{K:a9}{mg:Str->Option Value}{base:Heap}{A:Around}{outer:List Env}{s:Shared}{H:Hp}(e:qy P w K mg base A outer s H) :
  qy P w K mg base A.in1 outer s H:=⟨e.frames,e.mod,e.bs,e.HL,e.pJ,e.Km,e.b0,e.bare⟩
section
variable {X:Cx}{ag:List (Addr×Obj)}{σ:St}{H:Hp}{s s':Shared}
def Inv.MV (I:Inv X ag σ H s):qy X.prog X.w X.K X.mg X.base X.A X.stack s H :=
 ⟨I.ok.frames,I.ok.mod,I.bs,fV I.ok.HL I.sz,I.stack,I.A1,I.b0,I.bare⟩
def Inv.after {Q:VK}{u:Value}(I:Inv X ag σ H s)(h:CE X.stack X.prog X.w H s Q u s'):EP X ag σ Q u s':=by
 obtain⟨v,H',os,bare,un,b0,r,q⟩:=h;obtain⟨hh,g,d,t,os'⟩:=s';obtain rfl:os'=s.os:=os;exact⟨v,H',I.call (h':=hh) (g':=g) (d':=d) (t':=t) (ch:=[]) un b0 bare (λb z=>absurd z (by simp)),r,q⟩
end
def JF (sp:Sp)(dvs:List V)(E:XK)(t:TA):TE:=λσ H Q=>t σ H λvs H1=>sp (vs++dvs) H1 Q E
def OD (C:Addr)(m:Str)(sp:Sp)(dvs:List V)(E:XK)(ta:TE)(t:TA):TE:=λσ H Q=>ta σ H λx H1=>∃a dx fs,x=.ref a/\H1 a=some (.ins C dx fs)/\fs.lookup m=none /\
 t σ H1 λvs H2=>sp (x::(vs++dvs)) H2 Q E
def OE (C:Addr)(sp:Sp)(dvs:List V)(E:XK)(t:TA):TE:=λσ H Q=>t σ H λvs H1=>∀x dx,H1 x=none->H1 dx=none->dx≠x ->
 sp (.ref x::(vs++dvs)) (upd (upd H1 dx (.own x)) x (.ins C dx [])) (λv H2=>v=.d6/\Q (.ref x) H2) E
def Binds (K:a9)(fd:FuncData) (ps:List Str)(ds:List Value):Prop :=
 ∀(s:Shared)(us:List Value),K.In s.heap->(us++ds).length=ps.length->BindsTo s fd ⟨us,[]⟩ (ps.zip (us++ds))
def Binds.all {K:a9}{fd:FuncData}{ps:List Str}(h:∀us:List Value,us.length=ps.length->bindArgs fd ⟨us,[]⟩=pure (ps.zip us)):Binds K fd ps []:=λs us _ hl=>by
 rw [ir] at hl ⊢;exact .of_eq (h us hl)
def Passes (CX:yE)(X:Cx)(E:XK):Prop:=∀(ag:List (Addr×Obj))(σ:St)(H:Hp)(s:Shared)(e:Value)(s':Shared),Inv X ag σ H s->CX X.stack H s E e s'->X.xe e s'
section
variable {X:Cx}{CX:yE}{k:Nat}{f C:Addr}{fd:FuncData}{ps:List Str}{sp:Sp}{dvs:List V}{ds:List Value}{E:XK}{x m:Str}{p pos apos:Pos}{e o:Expr}{es:List Expr}{ta:TE}{t:TA}
def EM {ag:List (Addr×Obj)}{σ:St}{H:Hp}{s:Shared}{Q:VK}{us:List Value}{vs:List V}(F:bN X.prog X.w X.K X.mg X.base CX k f fd ps sp)(hr:fh k X.A)(hb:Binds X.K fd ps ds)(hd:a_ dvs ds)(hx:Passes CX X E)
  (I:Inv X ag σ H s)(r:a_ vs us)(h:sp (vs++dvs) H Q E):wpAny (model X.prog X.w) X.A (call (.ref f) us) (EP X ag σ Q) X.xe s:=by
 have r2:a_ (vs++dvs) (us++ds):=r.append hd;have hl:(us++ds).length=ps.length:=by rw [<-r2.length];exact F.len _ _ _ _ h
 refine wpAny_call (oC (F.run X.A X.stack s H ⟨us,[]⟩ (us++ds) (vs++dvs) Q E hr I.MV (hb s us I.v9 hl) r2 h) λr s' hq=>?_);cases r with
 | error e=>exact hx ag σ H s e s' I hq
 | ok fl =>
  cases fl with
  | ret u=>exact I.after hq
  | next=>exact False.elim hq
  | brk=>exact False.elim hq
  | cont=>exact False.elim hq
def IB (F:bN X.prog X.w X.K X.mg X.base CX k f fd ps sp)(hr:fh k X.A)(hg:Gl X x)(hm:X.mg x=some (.ref f))(hk:PySem.W.keepIn X.K (.ref f)=true)(hb:Binds X.K fd ps ds)(hd:a_ dvs ds)(hx:Passes CX X E)
  (ha:PA X (e::es) t)(CS:(x == ("__debug__":Str))=false:=by decide)(he:starEach (e::es) X.env=(false,eval e X.env)::starEach es X.env:=by rfl)(yw:(backTo pos (starEach es X.env)).any (·.1)=false:=by rfl) :
  PE X (.Call (.Name x p) (e::es) [] pos) (JF sp dvs E t):=by
 intro ag s σ H Q I h;refine mT (v8 I hg hm ?_ CS);refine PySem.W.callWith_K (h₀:=X.base) I.ok.mod.PL hk (cI (ha pos ag s σ H _ I h) λus s1 ⟨vs,H1,I1,r,q⟩=>⟨I1.v9,?_⟩) he yw;exact EM F hr hb hd hx I1 r q
def Bp {pl:Sem Bool}(he:PE X o ta)(c:Dx X.K C)(hm:Meth X.K C m f)(F:bN X.prog X.w X.K X.mg X.base CX k f fd ps sp)(hr:fh k X.A)(hb:Binds X.K fd ps ds)(hd:a_ dvs ds)(hx:Passes CX X E)(ha:PA X (e::es) t)
  (yt:starEach (e::es) X.env=(false,eval e X.env)::starEach es X.env:=by rfl)(yw:(backTo pos (starEach es X.env)).any (·.1)=false:=by rfl)
  (ht:eval (.Call (.Attribute o m apos) (e::es) [] pos) X.env=(do
   let ov <-eval o X.env
   standAt apos.atName
   let (f,first) <-holding [ov] (getMethod ov m pl)
   callWith pos f first (backTo pos (starEach (e::es) X.env)) (backToKw pos (keywordEach [] X.env))):=by rfl) :
  PE X (.Call (.Attribute o m apos) (e::es) [] pos) (OD C m sp dvs E ta t):=by
 intro ag s σ H Q I h;refine PySem.W.methodCall_KW (pl:=pl) (cI (he ag s σ H _ I h) λu s1 ⟨x,H1,I1,rx,a,dx,fs,ex,ea,l,q⟩=>?_) ht;subst ex;obtain rfl:u=Value.ref a:=rx;refine sG I1 ea c hm l ?_;refine PySem.W.callWith_K (first:=[.ref a]) (h₀:=X.base) I.ok.mod.PL hm.kp (cI (ha pos ag s1 σ H1 _ I1 q) λus s2 ⟨vs,H2,I2,r,q2⟩=>⟨I2.v9,?_⟩) yt yw;exact EM (us:=.ref a::us) (vs:=.ref a::vs) F hr hb hd hx I2 (.cons rfl r) q2
structure Mk (K:a9)(C f:Addr):Prop where
 makes:PySem.W.makesIn K C=true
 init:PySem.W.findIn K (.ref C) "__init__"=some (some (.ref f))
 fn:PySem.W.isFn K (.ref f)=true
 kp:PySem.W.keepIn K (.ref C)=true
def EL {ag:List (Addr×Obj)}{σ:St}{H:Hp}{s:Shared}{Q:VK}{us:List Value}{vs:List V}(M:Mk X.K C f)(F:bN X.prog X.w X.K X.mg X.base CX k f fd ps sp)(hr:fh (k+1) X.A)(hb:Binds X.K fd ps ds)(hd:a_ dvs ds)
  (hx:Passes CX X E)(I:Inv X ag σ H s)(r:a_ vs us)
  (h:∀x dx,H x=none->H dx=none->dx≠x->sp (.ref x::(vs++dvs)) (upd (upd H dx (.own x)) x (.ins C dx [])) (λv H2=>v=.d6/\Q (.ref x) H2) E) :
  wpAny (model X.prog X.w) X.A (call (.ref C) us) (EP X ag σ Q) X.xe s:=by
 have hq:=h (s.heap.objs.size+1) s.heap.objs.size (I.b0.fresh (oF _)) (I.b0.fresh (aH _)) (bM (mS _));have I2:=Inv.made (C:=C) I;have r2:a_ (V.ref (s.heap.objs.size+1)::(vs++dvs)) (Value.ref (s.heap.objs.size+1)::(us++ds)):=.cons rfl (r.append hd);have hl:(Value.ref (s.heap.objs.size+1)::us++ds).length=ps.length:=by
  have e:=r2.length;rw [F.len _ _ _ _ hq] at e;exact e.symm
 refine wpAny_call (FH (f:=f) I.v9 M.makes M.init (beq_iff_eq.mp M.fn) (oC (F.run _ X.stack _ _ ⟨Value.ref (s.heap.objs.size+1)::us,[]⟩ (Value.ref (s.heap.objs.size+1)::(us++ds)) _ _ E (hr.make C us [])
  (I2.MV.make C us []) (hb _ (Value.ref (s.heap.objs.size+1)::us) I2.v9 hl) r2 hq) λr s' P9=>?_))
 cases r with
 | error e=>exact hx ag σ _ _ e s' I2 P9
 | ok fl =>
  cases fl with
  | ret u =>
   obtain⟨v,H',I3,rv,ev,q3⟩:=I2.after P9;subst ev;exact⟨rv,⟨V.ref (s.heap.objs.size+1),H',I3,rfl,q3⟩⟩
  | next=>exact False.elim P9
  | brk=>exact False.elim P9
  | cont=>exact False.elim P9
def vT (M:Mk X.K C f)(F:bN X.prog X.w X.K X.mg X.base CX k f fd ps sp)(hr:fh (k+1) X.A)(hg:Gl X x)(hm:X.mg x=some (.ref C))(hb:Binds X.K fd ps ds)(hd:a_ dvs ds)(hx:Passes CX X E)
  (ha:PA X (e::es) t)(CS:(x == ("__debug__":Str))=false:=by decide)(he:starEach (e::es) X.env=(false,eval e X.env)::starEach es X.env:=by rfl)(yw:(backTo pos (starEach es X.env)).any (·.1)=false:=by rfl) :
  PE X (.Call (.Name x p) (e::es) [] pos) (OE C sp dvs E t):=by
 intro ag s σ H Q I h;refine mT (v8 I hg hm ?_ CS);refine PySem.W.callWith_K (h₀:=X.base) I.ok.mod.PL M.kp (cI (ha pos ag s σ H _ I h) λus s1 ⟨vs,H1,I1,r,q⟩=>⟨I1.v9,?_⟩) he yw;exact EL M F hr hb hd hx I1 r q
end
section
variable {X:Cx}{CX:yE}{k:Nat}{f C:Addr}{fd:FuncData}{ps ks:List Str}{sp:Sp}{E:XK}{x m:Str}{p pos apos aag:Pos}{e o:Expr}{es:List Expr}{kws:List Keyword}{te ta:TE}{t tk:TA}{nm:Option Str}
structure W4 (K:a9)(fd:FuncData) (ps ks:List Str)(g:List Value->List Value->List Value)(gV:List V->List V->List V):Prop where
 to:∀(s:Shared)(us ws:List Value),K.In s.heap->(g us ws).length=ps.length->BindsTo s fd ⟨us,ks.zip ws⟩ (ps.zip (g us ws))
 rel:∀{vs:List V}{us:List Value}{zs:List V}{ws:List Value},a_ vs us->a_ zs ws->a_ (gV vs zs) (g us ws)
variable {g:List Value->List Value->List Value}{gV:List V->List V->List V}
end
structure aK (N P:List Str)(sc:Scope):Prop where
 kind:sc.kind=.function
 co:sc.isCoroutine=false
 gen:sc.isGenerator=false
 nd:N.Nodup
 pre:N.take P.length=P
 par:∀x∈P,sc.names.lookup x=some .local\/sc.names.lookup x=some .cell
 LW:∀y∈sc.names,y.2≠.free
def iq {N P:List Str}{sc:Scope}(a:sc.kind=.function)(b:sc.isCoroutine=false)(c:sc.isGenerator=false)(d:N.take P.length=P)(e:N.Nodup/\(∀x∈P,sc.names.lookup x=some .local\/sc.names.lookup x=some .cell)/\∀y∈sc.names,y.2≠.free):aK N P sc:=⟨a,b,c,e.1,d,e.2.1,e.2.2⟩
theorem uO {kindOf:Str->Option NameKind}{x:Str}:∀{binds:List (Str×Value)}{m:Str->Option Value},(∀v,(x,v)∉binds)->bindL kindOf binds m x=m x
 | [],_,_=>rfl
 | (n,v)::r,m,h=>by
  unfold bindL;rw [uO λw hw=>h w (dr _ hw)]
  split
  .have:x≠n:=by rintro rfl;exact h v cU
   simp [this]
  rfl
theorem uQ {kindOf:Str->Option NameKind}{x:Str}:∀{binds:List (Str×Value)}{m:Str->Option Value},(∀v,(x,v)∉binds)->bindC kindOf binds m x=m x
 | [],_,_=>rfl
 | (n,v)::r,m,h=>by
  unfold bindC;rw [uQ λw hw=>h w (dr _ hw)]
  split
  .rfl
  have:x≠n:=by rintro rfl;exact h v cU
  simp [this]
theorem uP {kindOf:Str->Option NameKind}{x:Str}{v:Value}:∀{P:List Str}{vs:List Value}{i:Nat}{m:Str->Option Value},P.Nodup->P[i]?=some x->vs[i]?=some v->kindOf x=some .local ->
  bindL kindOf (P.zip vs) m x=some v
 | [],_,_,_,_,h,_,_=>by simp at h
 | _::_,[],_,_,_,_,h,_=>by simp at h
 | p::P,w::vs,0,m,nd,h1,h2,hk=>by
  simp at h1 h2;subst h1;subst h2;show bindL kindOf ((p,w)::P.zip vs) m p=_;unfold bindL;rw [uO λv hv=>(mR.mp nd).1 (List.of_mem_zip hv).1,ax hk];simp
 | p::P,w::vs,i+1,m,nd,h1,h2,hk=>by
  show bindL kindOf ((p,w)::P.zip vs) m x=_;unfold bindL;exact uP (i:=i) (mR.mp nd).2 (by simpa using h1) (by simpa using h2) hk
theorem uR {kindOf:Str->Option NameKind}{x:Str}{v:Value}:∀{P:List Str}{vs:List Value}{i:Nat}{m:Str->Option Value},P.Nodup->P[i]?=some x->vs[i]?=some v->kindOf x≠some .local ->
  bindC kindOf (P.zip vs) m x=some v
 | [],_,_,_,_,h,_,_=>by simp at h
 | _::_,[],_,_,_,_,h,_=>by simp at h
 | p::P,w::vs,0,m,nd,h1,h2,hk=>by
  simp at h1 h2;subst h1;subst h2;show bindC kindOf ((p,w)::P.zip vs) m p=_;unfold bindC;rw [uQ λv hv=>(mR.mp nd).1 (List.of_mem_zip hv).1,az hk];simp
 | p::P,w::vs,i+1,m,nd,h1,h2,hk=>by
  show bindC kindOf ((p,w)::P.zip vs) m x=_;unfold bindC;exact uR (i:=i) (mR.mp nd).2 (by simpa using h1) (by simpa using h2) hk
def start (N:List Str)(vs:List V):St:=vs.map some++List.replicate (N.length - vs.length) none
def pP (CX:yE)(P:Program)(w:World)(K:a9)(mg:Str->Option Value)(base:Heap) (N:List Str)(qual:Str)(scope:Scope)(f:Addr)(cd:Value)(A:Around)(outer:List Env)(s:Shared)(H:Hp)(E:XK):Cx where
 prog:=P
 w:=w
 K:=K
 mg:=mg
 base:=base
 A:=A.deeper (envOfC qual scope s.heap.objs.size f cd)
 N:=N
 s₀:=s
 H₀:=H
 env:=envOfC qual scope s.heap.objs.size f cd
 outer:=outer
 stack:=envOfC qual scope s.heap.objs.size f cd::outer
 ex:=[]
 calm:=true
 fn:=λ_=>true
 pn:=[]
 xe:=λe s'=>wpAny (model P w) (A.deeper (envOfC qual scope s.heap.objs.size f cd)) (leaving (envOfC qual scope s.heap.objs.size f cd) e) (λ_ OZ=>CX outer H s E e OZ) (λe' OZ=>CX outer H s E e' OZ) s'
def yc {sc:Scope}{n:Nat}{x:Str}(h:sc.names.lookup x=some .cell):∃c,(cellsFrom n sc.names []).lookup x=some c:=by
 have q:=PySem.W.cellsFrom_some sc.names n [] (.inl h);exact mW.mp q
def ux {CX:yE}{P:Program}{w:World}{K:a9}{mg:Str->Option Value}{base:Heap}{N ps:List Str}{qual:Str}{scope:Scope}{f:Addr}{cd:Value}{A:Around}{outer:List Env}{s s1:Shared}{H:Hp}{E:XK}{us:List Value}{vs:List V}
  (S:aK N ps scope)(hd:A.handled=none)(e0:qy P w K mg base A outer s H)(hl:vs.length=ps.length)(r:a_ vs us)
  (x:InCallC s s.heap.objs.size (bindL (envOfC qual scope s.heap.objs.size f cd).kindOf (ps.zip us) λ_=>none) (cellsFrom (s.heap.objs.size+1) scope.names []) (bindC (envOfC qual scope s.heap.objs.size f cd).kindOf (ps.zip us) λ_=>none) s1) :
  Inv (pP CX P w K mg base N qual scope f cd A outer s H E) [] (start N vs) H s1:=by
 have yw:ps.length<=N.length:=by have:=congrArg List.length S.pre;rw [dN] at this;omega
 obtain⟨h1,tk,rfl,hk⟩:=x.done;have Pf:∀b:Addr,b∉(pP CX P w K mg base N qual scope f cd A outer s H E).ex:=λb z=>absurd (show b∈([]:List Addr) from z) (by simp);refine⟨⟨e0.mod,S.kind,rfl,rfl,aH _,λy z c h1 h2=>?_,λy hy=>?_,λy c _ h=>?_,λ_=>hd,Around.frames_deeper e0.frames,.inr ⟨rfl,rfl⟩,λb z=>absurd z (Pf b),e0.bs,e0.HL,λb _ _=>Pf b,λb z=>absurd z (Pf b),e0.pJ,e0.Km⟩,
  rfl,e0.bare,Un.kept hk,⟨_,x.toInCall.ns,λi y v h1 h2 h3=>?_⟩,λy c h=>⟨_,x.cell y c h⟩,e0.b0.fresh (aH _),λy c h=>?_,λp hp=>absurd (show p∈([]:List (Addr×Obj)) from hp) (by simp),e0.b0.kept hk,?_⟩
 .exact name_of_addr x.apart (rm h1) (rm h2)
 .have hy:scope.names.lookup y=some .cell\/scope.names.lookup y=some .free:=hy;rcases hy with hy | hy
  .exact yc hy
  exact absurd rfl (S.LW _ (rm hy))
 .exact jG (x.above y c (rm h))
 .have hi:i < vs.length:=by
   unfold start at h2;by_cases hi:i < vs.length
   .exact hi
   rw [lQ (by simpa using hi)] at h2;rw [List.getElem?_replicate] at h2
   split at h2 <;> cases h2
  have ha:vs[i]?=some v:=by
   unfold start at h2;rw [mX (by simpa using hi),bh] at h2;cases e:vs[i]? with
   | none=>rw [e] at h2;cases h2
   | some a=>rw [e] at h2;cases h2;rfl
  obtain⟨u,hu,rv⟩:=r.get ha;have hp:ps[i]?=some y:=by
   rw [<-S.pre,rA ∅];exact h1
  have RB:ps.Nodup:=by rw [<-S.pre];exact S.nd.sublist (List.take_sublist _ _)
  refine⟨u,rv,?_⟩;rcases S.par y (cf hp) with k | k
  .exact .inl ⟨k,uP RB hp hu k⟩
  obtain⟨c,e⟩:=yc (n:=s.heap.objs.size+1) k;refine .inr ⟨.inl k,c,e,?_⟩;have q:=x.cell y c e;rw [uR RB hp hu (by show scope.names.lookup y≠_;rw [k];decide)] at q;exact q
 .exact e0.b0.fresh (jG (x.above y c (rm h)))
 unfold start;show _=N.length;rw [bL,au,List.length_replicate];omega
def Gn {CX:yE}{P:Program}{w:World}{K:a9}{mg:Str->Option Value}{base:Heap}{k:Nat}{f:Addr}{name qual:Str}{params:Arguments}{body:List Stmt}{scope:Scope}{dV kV doc pm dU ct oc:Value}{an od:Option Addr}
  {xq:Array (Option Value)}{N ps:List Str}{sp:Sp}(lk:K.lookup f=some ⟨oc,od,.func (PySem.W.fnOf name qual params body scope dV kV doc pm an dU ct),xq⟩)(wg:PySem.W.codeIn K dU qual=true)(S:aK N ps scope)
  (len:∀vs H Q E,sp vs H Q E->vs.length=ps.length)
  (jz:∀(A:Around)(outer:List Env)(s:Shared)(H:Hp)(vs:List V)(Q:VK)(E:XK),fh k (A.deeper (envOfC qual scope s.heap.objs.size f dU))->sp vs H Q E ->
   ∃t,AG (pP CX P w K mg base N qual scope f dU A outer s H E) body t/\t { nx:=λ_ H'=>Q .d6 H',rt:=Q } (start N vs) H) :
  bN P w K mg base CX (k+1) f (PySem.W.fnOf name qual params body scope dV kV doc pm an dU ct) ps sp:=by
 refine⟨len,λA outer s H args us vs Q E hr e0 hb r yu=>?_⟩;have hl:=len _ _ _ _ yu;have KX:K.In s.heap:=e0.mod.PL.keeps λb o e=>(e0.bs b o e).1;have lim:s.heap.NoLimit:=e0.mod.nolimit.keeps λb o e=>(e0.bs b o e).1;have jx:∀y∈ps.zip us,scope.names.lookup y.1=some .local\/(scope.names.lookup y.1=some .cell/\((cellsFrom (s.heap.objs.size+1) scope.names []).lookup y.1).isSome=true):=λ⟨n,v⟩ hy=>by
  rcases S.par n (List.of_mem_zip hy).1 with q | q
  .exact .inl q
  exact .inr ⟨q,PySem.W.cellsFrom_some _ _ _ (.inl q)⟩
 refine codeAny_call_function hr.depth (KX _ _ lk) rfl S.co S.gen rfl (PySem.W.codeRec_of KX wg) (hb _ _ _ _ ?_);refine wpAny_newFunctionEnv_cells S.kind jx λenv he s1 x=>?_;subst he;refine⟨lim.keeps x.toInCall.keep,codeAny_func ?_⟩;obtain⟨t,ht,hq⟩:=jz A outer s H vs Q E (hr.deeper _) yu;have I:Inv (pP CX P w K mg base N qual scope f dU A outer s H E) [] (start N vs) H s1:=ux S hr.hd e0 hl r x;refine dG (ht [] s1 (start N vs) H _ I hq) (λfl s' hs=>?_) λe s' hs=>hs;have fin:∀{σ':St}{H':Hp}{v:V}{u:Value},Inv (pP CX P w K mg base N qual scope f dU A outer s H E) [] σ' H' s'->RelV v u->Q v H'->CE outer P w H s Q u s' :=
  λ{σ' H' v u} J rv q=>⟨v,H',J.os,J.bare,J.base,J.b0,rv,q⟩
 cases fl with
 | ret u =>
  obtain⟨v,σ',H',J,rv,q⟩:=hs;exact fin J rv q
 | next =>
  obtain⟨σ',H',J,q⟩:=hs;exact fin (v:=V.d6) (u:=Value.none) J rfl q
 | brk =>
  obtain⟨_,_,_,q⟩:=hs;exact False.elim q
 | cont =>
  obtain⟨_,_,_,q⟩:=hs;exact False.elim q
section
variable {X:Cx}{x:Str}{p pos:Pos}{e:Expr}{es:List Expr}{t:TA}{id T:String}{r:List V->Hp->VK->Prop}
def Xn (r:List V->Hp->VK->Prop)(t:TA):TE:=λσ H Q=>t σ H λvs H1=>r vs H1 Q
def aD (hc:ik X (.builtin id) r)(hg:Gl X x)(hm:X.mg x=none)(hv:bootBuiltins x=some (.builtin id))(ha:PA X (e::es) t)(hn:x ≠ "__name__" := by decide)(CS:(x == ("__debug__":Str))=false:=by decide)
  (he:starEach (e::es) X.env=(false,eval e X.env)::starEach es X.env:=by rfl)(yw:(backTo pos (starEach es X.env)).any (·.1)=false:=by rfl):PE X (.Call (.Name x p) (e::es) [] pos) (Xn r t):=by
 intro ag s σ H Q I h;refine mT (iQ I hg hm hv ?_ hn CS);exact PyProof.Rows.callWith_builtin1 (cI (ha pos ag s σ H _ I h) λus s1 ⟨vs,H1,I1,r1,q1⟩=>hc ag s1 σ H1 vs us Q I1 r1 q1) he yw
def bD (hc:ik X (.type T) r)(hg:Gl X x)(hm:X.mg x=none)(hv:bootBuiltins x=some (.type T))(ha:PA X (e::es) t)(hn:x ≠ "__name__" := by decide)(CS:(x == ("__debug__":Str))=false:=by decide)
  (he:starEach (e::es) X.env=(false,eval e X.env)::starEach es X.env:=by rfl)(yw:(backTo pos (starEach es X.env)).any (·.1)=false:=by rfl):PE X (.Call (.Name x p) (e::es) [] pos) (Xn r t):=by
 intro ag s σ H Q I h;refine mT (iQ I hg hm hv ?_ hn CS);exact t_ (cI (ha pos ag s σ H _ I h) λus s1 ⟨vs,H1,I1,r1,q1⟩=>hc ag s1 σ H1 vs us Q I1 r1 q1) he yw
end
end L2
namespace HT
open PySem PyProof.Rows
section
open PySem.SeqAt
open PySem.AutoSeq1 (wpAny_loadPart')
open PySem.MeetsSeq PySem.MeetsSeq2 PySem.MeetsSeq3
end
section
variable {prog:Program}{w:World}{A:Around}{E:Value->Shared->Prop}{s:Shared}
def Jq {t b:Addr}{vs ws:List Value}{Q:Value->Shared->Prop}(ht:IsTup s.heap t vs.toArray)(hb:IsTup s.heap b ws.toArray)(hv:vs≠[])
  (h1:ws=[]->Q (.ref t) s)(h2:ws≠[]->Q (.ref s.heap.objs.size) { s with heap:=s.heap.push { cls:=.type "tuple",data:=.seq (vs++ws).toArray } })
  (hsz:vs.length+ws.length<=sizeLine):wpAny (model prog w) A (binaryOp .Add (.ref t) (.ref b)) Q E s:=by
 obtain⟨⟨cls,dd,data,sl⟩,ho,hc,n,hd⟩:=id ht;obtain⟨⟨Ww,N7,data2,Rt⟩,Hm,Mv,n2,hd2⟩:=id hb;simp only at hc hd Mv hd2;subst hc hd Mv hd2;have e:vs.toArray++ws.toArray=(vs++ws).toArray:=by simp
 by_cases hw:ws=[]
 .exact concat_meets ⟨_,ho,rfl⟩ ⟨_,Hm,rfl⟩ noFill_tuple_add seq_tuple_add yG yH (yJ _ _)
   (tuple_addW1 t b vs.toArray ws.toArray n n2 dd N7 sl Rt (by simpa using hv) (by simp [hw])) ⟨ho,Hm,h1 hw⟩
 refine concat_meets ⟨_,ho,rfl⟩ ⟨_,Hm,rfl⟩ noFill_tuple_add seq_tuple_add yG yH (yJ _ _)
  (tuple_addW2 t b vs.toArray ws.toArray n n2 dd N7 sl Rt (by simpa using hv) (by simpa using hw) (by rw [bQ,bQ];exact hsz)) ⟨ho,Hm,?_⟩
 rw [e];exact h2 hw
def fQ (n d:Nat):Option Int->Nat
 | none=>d
 | some v=>if v < 0 then (v+(n:Int)).toNat else min v.toNat n
def ie (n d:Nat):fQ n d none=d:=rfl
def jK (n d k:Nat):fQ n d (some (k:Int))=min k n:=by
 show (if (k:Int) < 0 then ((k:Int)+(n:Int)).toNat else min (k:Int).toNat n)=min k n;rw [az ∅,kn]
def Lo (n d:Nat)(hd:d<=n)(o:Option Int):fQ n d o<=n:=by
 cases o with
 | none=>exact hd
 | some v =>
  show (if v < 0 then (v+(n:Int)).toNat else min v.toNat n)<=n;by_cases hv:v < 0
  .rw [ax hv];omega
  rw [az hv];exact Nat.min_le_right _ _
def BK (v:Int) (n d:Nat):(if v < 0 then max (v+(n:Int)) 0 else min v (n:Int))=((fQ n d (some v):Nat):Int):=by
 show (if v < 0 then max (v+(n:Int)) 0 else min v (n:Int))=(((if v < 0 then (v+(n:Int)).toNat else min v.toNat n):Nat):Int);by_cases hv:v < 0
 .simp only [ax hv];omega
 simp only [az hv];omega
def AD (lo hi:Option Int) (n:Nat):Builtin.Slice.sliceAdjust lo hi 1 (n:Int)=(((fQ n 0 lo:Nat):Int),((fQ n n hi:Nat):Int)):=by
 have h1:¬((1:Int) < 0):=by omega
 unfold Builtin.Slice.sliceAdjust;simp only [h1,if_false];refine Prod.ext ?_ ?_
 .cases lo with
  | none=>rfl
  | some v=>exact BK v n 0
 cases hi with
 | none=>rfl
 | some v=>exact BK v n n
def zD (i j:Nat):Builtin.Slice.slicePlaces (i:Int) (j:Int) 1=j - i:=by
 unfold Builtin.Slice.slicePlaces;have h1:(1:Int) > 0:=by omega
 simp only [h1,if_true,Int.ediv_one]
 split <;> omega
def rM {v:Value}{o:Option Int}{Q:Option Int->Shared->Prop}(p:IsPart v o)(h:Q o s):wpAny (model prog w) A (Builtin.Slice.slicePartIndex v) Q E s:=by
 cases p with
 | none=>exact slicePart_none h
 | int i t=>exact slicePart_int h
def jq {sl:Addr}{vl vu:Value}{lo hi:Option Int}{n:Nat}{Q:Int×Int×Nat->Shared->Prop}(hs:s.heap.IsSliceOf sl vl vu .none)(pl:IsPart vl lo)(pu:IsPart vu hi)
  (h:Q (((fQ n 0 lo:Nat):Int),1,fQ n n hi - fQ n 0 lo) s):wpAny (model prog w) A (Builtin.Slice.sliceApplied (.ref sl) (pure (n:Int))) Q E s:=by
 obtain⟨os,CO,CU,Hq⟩:=id hs;unfold Builtin.Slice.sliceApplied Builtin.Slice.sliceFields;refine ar (ar (d_ CO Hq (x:=vl) rfl (ar (d_ CO Hq (x:=vu) rfl (ar (d_ CO Hq (x:=.none) rfl (aR ?_)))))));refine ar (slicePart_none ?_);show wpAny _ _ (if ((1:Int) == 0)=true then _ else _) _ _ s;rw [az (by decide)];refine ar (rM pl (ar (rM pu (ar (aR ?_)))));show wpAny _ _ (match Builtin.Slice.sliceAdjust lo hi 1 (n:Int) with | (lo,hi)=>pure (lo,(1:Int),Builtin.Slice.slicePlaces lo hi 1)) _ _ s
 rw [AD lo hi n];show wpAny _ _ (pure (((fQ n 0 lo:Nat):Int),(1:Int),Builtin.Slice.slicePlaces ((fQ n 0 lo:Nat):Int) ((fQ n n hi:Nat):Int) 1)) _ _ s;rw [zD];exact aR h
def E3 (xs:Array Value) (i k:Nat):((List.range k).filterMap λ(m:Nat)=>xs[((i:Int)+(m:Int) * 1).toNat]?).toArray=((xs.toList.drop i).take k).toArray:=by
 have e:(λ(m:Nat)=>xs[((i:Int)+(m:Int) * 1).toNat]?)=λm=>xs[i+m]?:=by
  funext m
  have:((i:Int)+(m:Int) * 1).toNat=i+m:=by omega
  rw [this]
 rw [e];have:=pick_run xs i k;rw [List.filterMap_map] at this;have e2:((λx=>xs[x]?) ∘ λx=>i+x)=λm=>xs[i+m]?:=rfl;rw [e2] at this;rw [this]
def oj {t sl:Addr}{items:Array Value}{vl vu:Value}{lo hi:Option Int}{Q:Value->Shared->Prop}(ht:IsTup s.heap t items)(hs:s.heap.IsSliceOf sl vl vu .none)(pl:IsPart vl lo)(pu:IsPart vu hi)
  (hw:¬(fQ items.size 0 lo=0/\fQ items.size items.size hi=items.size))
  (h:Q (.ref s.heap.objs.size) { s with heap:=s.heap.push { cls:=.type "tuple",data:=.seq ((items.toList.drop (fQ items.size 0 lo)).take (fQ items.size items.size hi - fQ items.size 0 lo)).toArray } })
  (hsz:items.size<=sizeLine):wpAny (model prog w) A (getItem (.ref t) (.ref sl)) Q E s:=by
 have nZ:sizeOk (.seq ((items.toList.drop (fQ items.size 0 lo)).take (fQ items.size items.size hi - fQ items.size 0 lo)).toArray):=by
  show ((items.toList.drop (fQ items.size 0 lo)).take (fQ items.size items.size hi - fQ items.size 0 lo)).toArray.size<=sizeLine;rw [bQ,dN,pW,rg];omega
 have hj:fQ items.size items.size hi<=items.size:=Lo _ _ (aH _) hi;obtain⟨os,CO,CU,Hq⟩:=id hs;have Qq:s.TypeIs (.ref sl) "slice" := ⟨os,CO,CU⟩;unfold getItem
 try with_reducible refine iG ?_
 first | refine ar (aR ?_) | skip
 refine ar (wpAny_sequenceKey ht.typeIs (by decide) ?_);refine ar (mV (name:=Str.ofString "__getitem__") ht.typeIs mY
  (lP mY ht.typeIs entry_tuple_getitem ?_ (args_tuple_getitem _ _)))
 show wpAny _ _ (Builtin.Tuple.tupleItemsOf (.ref t) >>= _) _ _ s;refine ar (tupleItemsOf_ ht ?_);refine ar (jV Qq ?_);rw [ax (by decide)];refine ar (jq hs pl pu ?_);have hno:¬((((fQ items.size 0 lo:Nat):Int) == 0 && (1:Int) == 1 && (fQ items.size items.size hi - fQ items.size 0 lo) == items.size)=true):=by
  intro q;rw [pV,pV] at q;have q1:((fQ items.size 0 lo:Nat):Int)=0:=eq_of_beq q.1.1;have q2:fQ items.size items.size hi - fQ items.size 0 lo=items.size:=eq_of_beq q.2;exact hw ⟨∅,∅⟩
 show wpAny _ _ (if (((fQ items.size 0 lo:Nat):Int) == 0 && (1:Int) == 1 && (fQ items.size items.size hi - fQ items.size 0 lo) == items.size)=true then _ else _) _ _ s;rw [az hno,E3]
 first
  | exact ar (m:=Builtin.Tuple.tupleExact _) (iV (aR ⟨_,rfl,aR h⟩) nZ)
  | exact ar (m:=Builtin.Tuple.tupleExact _) (iV (ar (aR (aR ⟨_,rfl,aR h⟩))) nZ)
  | exact ar (ar (m:=Builtin.Tuple.tupleExact _) (iV (aR (aR ⟨_,rfl,aR h⟩)) nZ))
  | exact ar (ar (m:=Builtin.Tuple.tupleExact _) (iV (aR ⟨_,rfl,aR h⟩) nZ))
end
end HT
namespace L2
open PySem PySem.Spec PyProof.Rows
abbrev TO:=St->Hp->(Option Int->Hp->Prop)->Prop
def PO (X:Cx)(e:Option Expr)(t:TO):Prop :=
 ∀(ag:List (Addr×Obj))(s:Shared)(σ:St)(H:Hp)(Q:Option Int->Hp->Prop),Inv X ag σ H s->t σ H Q ->
  wpAny (model X.prog X.w) X.A (evalPart e X.env) (λu s'=>∃o H',Inv X ag σ H' s'/\IsPart u o/\Q o H') X.xe s
def HY:TO:=λ_ H Q=>Q none H
def Oy (t:TE):TO:=λσ H Q=>t σ H λx H1=>∃i,x=.int i/\Q (some i) H1
def intsAre_of {ns:List Int}:∀{us:List Value},a_ (ns.map V.int) us->IntsAre us ns:=by
 induction ns with
 | nil=>intro us r;rw [jF] at r;cases r;exact .nil
 | cons n ns ih =>
  intro us r;rw [cq] at r;cases r with
  | cons r1 r2 =>
   obtain⟨t,e⟩:=r1;subst e;exact .cons n t (ih r2)
section
variable {X:Cx}{e:Expr}{te:TE}{lo hi:Option Expr}{tl th:TO}{pos p2:Pos}
def gb:PO X none HY:=by
 intro ag s σ H Q I h;rw [evalPart_none];exact aR ⟨none,H,I,.none,h⟩
def dQ (h:PE X e te):PO X (some e) (Oy te):=by
 intro ag s σ H Q I hw;rw [evalPart_some];refine cI (h ag s σ H _ I hw) λu s1 ⟨x,H1,I1,r1,q1⟩=>?_;obtain⟨i,rfl,q⟩:=q1;obtain⟨t,rfl⟩:=r1;exact⟨some i,H1,I1,.int i t,q⟩
def KS (X:Cx)(r:V->Option Int->Option Int->Hp->VK->Prop):Prop :=
 ∀(ag:List (Addr×Obj))(s:Shared)(σ:St)(H:Hp)(x:V)(v vl vu:Value)(lo hi:Option Int)(sl:Addr)(Q:VK),Inv X ag σ H s->RelV x v->s.heap.IsSliceOf sl vl vu .none->IsPart vl lo->IsPart vu hi->r x lo hi H Q ->
  ∃T id,typeLookup (.type T) "__getitem__"=pure (some (.builtin id))/\s.TypeIs v T/\wpAny (model X.prog X.w) X.A (getItem v (.ref sl)) (EP X ag σ Q) X.xe s
def KS.or {r r':V->Option Int->Option Int->Hp->VK->Prop}(h:KS X r)(h':KS X r'):KS X (λx lo hi H Q=>r x lo hi H Q\/r' x lo hi H Q):=by
 intro ag s σ H x v vl vu lo hi sl Q I rx hs pl pu q;rcases q with q | q
 .exact h ag s σ H x v vl vu lo hi sl Q I rx hs pl pu q
 exact h' ag s σ H x v vl vu lo hi sl Q I rx hs pl pu q
def tSl (r:V->Option Int->Option Int->Hp->VK->Prop)(te:TE)(tl th:TO):TE:=λσ H Q=>te σ H λx H1=>tl σ H1 λl H2=>th σ H2 λu H3=>r x l u H3 Q
def dX {r:V->Option Int->Option Int->Hp->VK->Prop}(hr:KS X r)(he:PE X e te)(hl:PO X lo tl)(hu:PO X hi th):PE X (.Subscript e (.Slice lo hi none p2) pos) (tSl r te tl th):=by
 intro ag s σ H Q I h;refine Subscript_ (cI (he ag s σ H _ I h) λv s1 ⟨x,H1,I1,r1,q1⟩=>?_);refine wpAny_Slice (cI (hl ag s1 σ H1 _ I1 q1) λvl s2 ⟨l,H2,I2,pl,q2⟩=>cI (hu ag s2 σ H2 _ I2 q2) λvu s3 ⟨u,H3,I3,pu,q3⟩=>?_);rw [evalPart_none];refine aR ?_;have I4:Inv X ag σ H3 { s3 with heap:=s3.heap.push { cls:=.type "slice",data:=.fields #[vl,vu,.none] } }:=I3.kept (t':=s3.toks) λb ob q=>bI _ q;obtain⟨T,id,hT,ht,hg⟩:=hr ag { s3 with heap:=s3.heap.push { cls:=.type "slice",data:=.fields #[vl,vu,.none] } } σ H3 x v vl vu l u s3.heap.objs.size Q I4 r1 (Heap.IsSliceOf.new ..) pl pu q3;show wpAny (model X.prog X.w) X.A (subscriptTail e (.Slice lo hi none p2) v (.ref s3.heap.objs.size)) (EP X ag σ Q) X.xe { s3 with heap:=s3.heap.push { cls:=.type "slice",data:=.fields #[vl,vu,.none] } };exact tail_any (ops:=[.ref s3.heap.objs.size,v]) ht hT hg (by with_unfolding_all rfl)
def gw (xs:List V)(lo hi:Option Int):List V:=(xs.drop (HT.fQ xs.length 0 lo)).take (HT.fQ xs.length xs.length hi - HT.fQ xs.length 0 lo)
def qe (xs:List V)(lo hi:Option Int):(gw xs lo hi).length<=xs.length:=by
 unfold gw;rw [dN,pW];omega
def TC (K:a9):V->Option Int->Option Int->Hp->VK->Prop:=λx lo hi H Q=>∃a xs,x=.ref a/\aQ K H a xs /\
 ¬(HT.fQ xs.length 0 lo=0/\HT.fQ xs.length xs.length hi=xs.length)/\∀p,H p=none->Q (.ref p) (upd H p (.tup (gw xs lo hi)))
def Ld:KS X (TC X.K):=by
 intro ag s σ H x v vl vu lo hi sl Q I rx hs pl pu h;obtain⟨a,xs,rfl,hx,hw,q⟩:=h;cases rx;obtain⟨aU,r,ht,hz⟩:=I.tuple hx;have br:aU.toArray.size=xs.length:=by rw [bQ];exact r.length.symm
 refine⟨"tuple",_,mY.lookup,ht.typeIs,?_⟩;refine HT.oj ht hs pl pu (by rw [br];exact hw) ?_ (by rw [br];exact hz);rw [br];refine⟨.ref s.heap.objs.size,_,I.laid (t':=s.toks) (o:=.tup (gw xs lo hi)) (λb ob q=>bI _ q) (aH _) ?_,rfl,q _ (I.b0.fresh (aH _))⟩;exact⟨fV (qe xs lo hi) hz,_,(r.drop (HT.fQ xs.length 0 lo)).take (HT.fQ xs.length xs.length hi - HT.fQ xs.length 0 lo),IsTup.new _ _⟩
def O4 (K:a9):R2:=λx y H Q=>∃a b xs ys,x=.ref a/\y=.ref b/\aQ K H a xs/\aQ K H b ys/\xs≠[]/\xs.length+ys.length<=sizeLine /\
 (ys=[]->Q (.ref a) H)/\(ys≠[]->∀p,H p=none->Q (.ref p) (upd H p (.tup (xs++ys))))
def a_.qF {xs:List V}{us:List Value}(r:a_ xs us):us=[]↔xs=[]:=by
 cases r with
 | nil=>simp
 | cons _ _=>simp
def IE:ji X (binaryOp .Add) (O4 X.K):=by
 intro ag s σ H x y v u Q I rx ry h;obtain⟨a,b,xs,ys,rfl,rfl,ha,hb,hx,hz,q1,q2⟩:=h;cases rx;cases ry;obtain⟨aU,r1,p1,_⟩:=I.tuple ha;obtain⟨cH,r2,p2,_⟩:=I.tuple hb;refine HT.Jq p1 p2 (λz=>hx (r1.qF.mp z)) (λz=>⟨.ref a,H,I,rfl,q1 (r2.qF.mp z)⟩) (λz=>?_) (by rw [<-r1.length,<-r2.length];exact hz);refine⟨.ref s.heap.objs.size,_,I.laid (t':=s.toks) (o:=.tup (xs++ys)) (λb ob q=>bI _ q) (aH _) ?_,rfl,q2 (λw=>z (r2.qF.mpr w)) _ (I.b0.fresh (aH _))⟩;exact⟨by rw [bL];exact hz,_,r1.append r2,IsTup.new _ _⟩
end
def Ke (n:Nat) (i:Int):Option Nat:=if 0<=i then (if i < n then some i.toNat else none) else if -(n:Int)<=i then some (i+n).toNat else none
def jR {α:Type}(xs:List α) (i:Int):Option α:=(Ke xs.length i).bind λj=>xs[j]?
def IZ {n:Nat}{i:Int}{j:Nat}(h:Ke n i=some j):seqIndex? i n=some j/\j < n/\-(n:Int)<=i/\i < n:=by
 unfold Ke at h;by_cases h0:0<=i
 .rw [ax h0] at h;by_cases h1:i < n
  .rw [ax h1] at h;have e:i.toNat=j:=gR h;exact⟨by rw [seqIndex_of h0 h1,e],∅,∅,h1⟩
  rw [az h1] at h;cases h
 rw [az h0] at h;by_cases h1:-(n:Int)<=i
 .rw [ax h1] at h;have e:(i+n).toNat=j:=gR h;exact⟨by rw [seqIndex_neg ∅ h1,e],∅,h1,∅⟩
 rw [az h1] at h;cases h
def BO {α:Type}{xs:List α}{i:Int}{v:α}(h:jR xs i=some v):∃j,seqIndex? i xs.length=some j/\xs[j]?=some v/\j < xs.length/\-(xs.length:Int)<=i/\i < xs.length:=by
 unfold jR at h;cases e:Ke xs.length i with
 | none=>rw [e] at h;cases h
 | some j =>
  rw [e] at h;obtain⟨h1,h2,h3,h4⟩:=IZ e;exact⟨j,h1,h,h2,h3,h4⟩
def bS {α:Type}{xs:List α}{j:Nat}{v:α}(h:xs[j]?=some v):jR xs (j:Int)=some v:=by
 have hj:j < xs.length:=(bq.mp h).1;have e:Ke xs.length (j:Int)=some j:=by
  unfold Ke;rw [ax ∅,ax ∅];simp
 unfold jR;rw [e];exact h
def ye {α:Type}(xs:List α)(v:α):jR (xs++[v]) (-1)=some v:=by
 have hl:(xs++[v]).length=xs.length+1:=by simp
 have e:Ke (xs++[v]).length (-1)=some xs.length:=by
  unfold Ke;rw [hl,az (by decide),ax ∅]
  congr 1
  omega
 unfold jR;rw [e];show (xs++[v])[xs.length]?=some v;simp
def Jw (b:Expr):Prop:=∀o i,subscripted b false o i=operate [o,i] (getItem o i)
def Jy (X:Cx)(r:R2):Prop :=
 ∀(value slice:Expr)(ag:List (Addr×Obj))(s:Shared)(σ:St)(H:Hp)(x y:V)(v u:Value)(Q:VK),Inv X ag σ H s->RelV x v->RelV y u->r x y H Q ->
  subscripted slice false v u=operate [v,u] (getItem v u)->wpAny (model X.prog X.w) X.A (subscriptTail value slice v u) (EP X ag σ Q) X.xe s
def Ob (X:Cx)(id:String)(r:V->List V->Hp->VK->Prop):Prop :=
 ∀(ag:List (Addr×Obj))(s:Shared)(σ:St)(H:Hp)(x:V)(xs:List V)(v:Value)(us:List Value)(Q:VK),Inv X ag σ H s->RelV x v->a_ xs us->r x xs H Q ->
  wpAny (model X.prog X.w) X.A (call (.builtin id) (v::us)) (EP X ag σ Q) X.xe s
section
variable {X:Cx}{a b:Expr}{ta tb:TE}{pos:Pos}
def Jy.or {r r':R2}(h:Jy X r)(h':Jy X r'):Jy X (λx y H Q=>r x y H Q\/r' x y H Q):=by
 intro value slice ag s σ H x y v u Q I rx ry q hs;rcases q with q | q
 .exact h value slice ag s σ H x y v u Q I rx ry q hs
 exact h' value slice ag s σ H x y v u Q I rx ry q hs
def Ob.or {id:String}{r r':V->List V->Hp->VK->Prop}(h:Ob X id r)(h':Ob X id r'):Ob X id (λx xs H Q=>r x xs H Q\/r' x xs H Q):=by
 intro ag s σ H x xs v us Q I rx rs q;rcases q with q | q
 .exact h ag s σ H x xs v us Q I rx rs q
 exact h' ag s σ H x xs v us Q I rx rs q
def aF {r:R2}(hr:Jy X r)(ha:PE X a ta)(hb:PE X b tb)(hs:Jw b):PE X (.Subscript a b pos) (Rn r ta tb):=by
 intro ag s σ H Q I h;exact Subscript_ (Ni ha hb I h λv u s2 x y H2 I2 rx ry q=>hr a b ag s2 σ H2 x y v u Q I2 rx ry q (hs _ _))
def O3 (K:a9):R2:=λx y H Q=>∃p xs i v,x=.ref p/\y=.int i/\aI K H p xs/\jR xs i=some v/\Q v H
def O2 (K:a9):R2:=λx y H Q=>∃p xs i v,x=.ref p/\y=.int i/\aQ K H p xs/\jR xs i=some v/\Q v H
def bo:Jy X (O3 X.K):=by
 intro value slice ag s σ H x y v u Q I rx ry h hs;obtain⟨p,xs,i,z,rfl,rfl,hq,he,q⟩:=h;cases rx;obtain⟨t,rfl⟩:=ry;obtain⟨aU,r,pl,hz⟩:=I.list hq;obtain⟨j,h1,h2,h3,h4,h5⟩:=BO he;obtain⟨w,ew,zw⟩:=r.get h2;have hl:=r.length;have hn:=v7;have fin:EP X ag σ Q w s:=⟨z,H,I,zw,q⟩;by_cases h0:0<=i
 .have hj:i.toNat=j:=by
   rw [seqIndex_of h0 h5] at h1;exact gR h1
  exact item_listR pl.isList h0 ∅ (by rw [hj];simpa using ew) fin hs
 have hj:(i+(aU.toArray.size:Int)).toNat=j:=by
  rw [seqIndex_neg ∅ h4] at h1;rw [bQ,<-hl];exact gR h1
 exact subscriptTail_builtinR (x:=w) pl.isList.typeIs slot_list_getitem.lookup
  (wpAny_getItem_list_neg (Q:=λr s'=>r=w/\EP X ag σ Q r s') pl.isList ∅ (by rw [bQ] <;> omega) ∅ (by rw [hj];simpa using ew) ⟨rfl,fin⟩) hs
def aN:Jy X (O2 X.K):=by
 intro value slice ag s σ H x y v u Q I rx ry h hs;obtain⟨p,xs,i,z,rfl,rfl,hq,he,q⟩:=h;cases rx;obtain⟨t,rfl⟩:=ry;obtain⟨aU,r,pl,hz⟩:=I.tuple hq;obtain⟨j,h1,h2,h3,h4,h5⟩:=BO he;obtain⟨w,ew,zw⟩:=r.get h2;have hl:=r.length;have hn:=v7;have fin:EP X ag σ Q w s:=⟨z,H,I,zw,q⟩;exact subscriptTail_builtinR (x:=w) pl.typeIs slot_tuple_getitem.lookup
  (getItem_tuple (j:=j) (Q:=λr s'=>r=w/\EP X ag σ Q r s') pl ∅ ∅ (by rw [bQ,<-hl];exact h1) (by simpa using ew) ⟨rfl,fin⟩) hs
theorem Inv.lst {ag:List (Addr×Obj)}{σ:St}{H:Hp}{s:Shared}{p:Addr}{xs:List V}(I:Inv X ag σ H s)(h:H p=some (.lst xs)) :
  ∃(aU:List Value) (n:Nat),a_ xs aU/\s.heap.get? p=some { cls:=.type "list",data:=.seq aU.toArray n }/\xs.length<=sizeLine:=by
 obtain⟨z,aU,n,r,e⟩:=I.b0 p _ h;exact⟨aU,n,r,e,z⟩
def vx (lo hi:Option Int) (n:Nat):(sliceBounds lo hi none n).1=((HT.fQ n 0 lo:Nat):Int)/\(sliceBounds lo hi none n).2.1=((HT.fQ n n hi:Nat):Int)/\(sliceBounds lo hi none n).2.2=1:=by
 refine⟨?_,?_,rfl⟩
 .cases lo with
  | none=>simp [sliceBounds,HT.fQ]
  | some i =>
   simp only [sliceBounds,HT.fQ,Option.getD_none,show (1:Int) > 0 by decide,if_true];by_cases h:i < 0
   .simp only [h,if_true] <;> omega
   simp only [h,if_false] <;> omega
 cases hi with
 | none=>simp [sliceBounds,HT.fQ]
 | some i =>
  simp only [sliceBounds,HT.fQ,Option.getD_none,show (1:Int) > 0 by decide,if_true];by_cases h:i < 0
  .simp only [h,if_true] <;> omega
  simp only [h,if_false] <;> omega
def tQ (aU:List Value)(lo hi:Option Int):slicePick aU.toArray lo hi none=((aU.drop (HT.fQ aU.length 0 lo)).take (HT.fQ aU.length aU.length hi - HT.fQ aU.length 0 lo)).toArray:=by
 obtain⟨h1,h2,h3⟩:=vx lo hi aU.toArray.size;unfold slicePick;rw [h1,h2,h3];simp only [sliceRange_one,pick_run,bQ] <;> rfl
def TF (K:a9):V->Option Int->Option Int->Hp->VK->Prop:=λx lo hi H Q=>∃a xs,x=.ref a/\aI K H a xs/\∀p,H p=none->Q (.ref p) (upd H p (.lst (gw xs lo hi)))
def ix:KS X (TF X.K):=by
 intro ag s σ H x v vl vu lo hi sl Q I rx hs pl pu h;obtain⟨a,xs,rfl,hx,q⟩:=h;cases rx;obtain⟨aU,r,ht,hz⟩:=I.list hx;have br:=r.length;refine⟨"list",_,slot_list_getitem.lookup,ht.isList.typeIs,?_⟩;refine wpAny_getItem_list_slice ht.isList hs pl pu .none (by simp) ?_ (by rw [bQ] <;> omega)
 rw [tQ,<-br];refine⟨.ref s.heap.objs.size,_,I.laid (t':=s.toks) (o:=.lst (gw xs lo hi)) (λb ob q=>bI _ q) (aH _) ?_,rfl,q _ (I.b0.fresh (aH _))⟩;exact⟨fV (qe xs lo hi) hz,_,0,(r.drop (HT.fQ xs.length 0 lo)).take (HT.fQ xs.length xs.length hi - HT.fQ xs.length 0 lo),cV _ rfl⟩
def iR:V->Bool
 | .d6=>true
 | .bl _=>true
 | .int _=>true
 | .str _=>true
 | _=>false
def xR:V->V->Bool
 | .d6,.d6=>true
 | .bl a,.bl b=>a == b
 | .bl a,.int b=>(if a then 1 else 0) == b
 | .int a,.bl b=>a == (if b then 1 else 0)
 | .int a,.int b=>a == b
 | .str a,.str b=>a == b
 | _,_=>false
def As {A:Around}{s:Shared}{y x:V}{u v:Value}(ry:RelV y u)(rx:RelV x v)(fy:iR y=true)(fx:iR x=true):SeqAt.EqAt A s u v (xR y x):=by
 cases y with
 | d6 =>
  cases ry;cases x with
  | d6=>cases rx;exact SeqAt.EqAt.same _
  | bl b=>cases rx;exact SeqAt.EqAt.none_bool b
  | int b=>obtain⟨t,rfl⟩:=rx;exact SeqAt.EqAt.none_int b t
  | str b=>obtain⟨t,rfl⟩:=rx;exact SeqAt.EqAt.none_str b t
  | _=>exact absurd (show false=true from fx) dO
 | bl a =>
  cases ry;cases x with
  | d6=>cases rx;exact SeqAt.EqAt.bool_none a
  | bl b=>cases rx;exact SeqAt.EqAt.bool_bool a b
  | int b=>obtain⟨t,rfl⟩:=rx;exact SeqAt.EqAt.bool_int a b t
  | str b=>obtain⟨t,rfl⟩:=rx;exact SeqAt.EqAt.bool_str a b t
  | _=>exact absurd (show false=true from fx) dO
 | int a =>
  obtain⟨t',rfl⟩:=ry;cases x with
  | d6=>cases rx;exact SeqAt.EqAt.int_none a t'
  | bl b=>cases rx;exact SeqAt.EqAt.int_bool a t' b
  | int b=>obtain⟨t,rfl⟩:=rx;exact SeqAt.EqAt.int_int a t' b t
  | str b=>obtain⟨t,rfl⟩:=rx;exact SeqAt.EqAt.int_str a t' b t
  | _=>exact absurd (show false=true from fx) dO
 | str a =>
  obtain⟨t',rfl⟩:=ry;cases x with
  | d6=>cases rx;exact SeqAt.EqAt.str_none a t'
  | bl b=>cases rx;exact SeqAt.EqAt.str_bool a t' b
  | int b=>obtain⟨t,rfl⟩:=rx;exact SeqAt.EqAt.str_int a t' b t
  | str b=>obtain⟨t,rfl⟩:=rx;exact SeqAt.EqAt.str_str a t' b t
  | _=>exact absurd (show false=true from fx) dO
 | _=>exact absurd (show false=true from fy) dO
def Ar (x:V)(u:Value):Bool:=match u with
 | .none=>xR .d6 x
 | .bool b=>xR (.bl b) x
 | .int i _=>xR (.int i) x
 | .str z _=>xR (.str z) x
 | _=>false
def Gs {x y:V}{u:Value}(r:RelV y u)(f:iR y=true):Ar x u=xR y x:=by
 cases y with
 | d6=>cases r;rfl
 | bl b=>cases r;rfl
 | int i=>obtain⟨t,rfl⟩:=r;rfl
 | str z=>obtain⟨t,rfl⟩:=r;rfl
 | _=>exact absurd (show false=true from f) dO
theorem oz {x:V}:∀{xs:List V}{us:List Value},a_ xs us->xs.all iR=true->us.any (Ar x)=xs.any λy=>xR y x
 | _,_,.nil,_=>rfl
 | y::xs,u::us,.cons r t,f=>by
  rw [List.all_cons,pV] at f;rw [qT,qT,Gs r f.1,oz t f.2]
theorem kT {A:Around}{s:Shared}{x:V}{v:Value}(rx:RelV x v)(fx:iR x=true):∀{xs:List V}{us:List Value},a_ xs us->xs.all iR=true->∀u∈us,SeqAt.EqAt A s u v (Ar x u)
 | _,_,.nil,_=>λu hu=>by cases hu
 | y::xs,u::us,.cons r t,f=>λu' hu=>by
  rw [List.all_cons,pV] at f;rcases cz.mp hu with rfl | hu
  .rw [Gs r f.1];exact As r rx f.1 fx
  exact kT rx fx t f.2 u' hu
def Mi (x:V)(xs:List V):Bool:=xs.any λy=>xR y x
def Ry (K:a9)(neg:Bool):R2:=λx y H Q=>∃p xs,y=.ref p/\(aI K H p xs\/aQ K H p xs)/\iR x=true/\xs.all iR=true/\Q (.bl (if neg then !Mi x xs else Mi x xs)) H
def lB:ji X (compareOp .In) (Ry X.K false):=by
 intro ag s σ H x y v u Q I rx ry h;obtain⟨p,xs,rfl,hq,fx,fs,q⟩:=h;cases ry;rcases hq with hq | hq
 .obtain⟨aU,r,pl,hz⟩:=I.list hq;refine SeqAt.in_listAt (Ar x) pl.isList (λw hw=>kT rx fx r fs w (by simpa using hw)) ⟨.bl _,H,I,rfl,?_⟩;rw [show aU.toArray.any (Ar x)=aU.any (Ar x) by simp,oz r fs];exact q
 obtain⟨aU,r,pl,hz⟩:=I.tuple hq;refine SeqAt.in_tupleAt (Ar x) pl (λw hw=>kT rx fx r fs w (by simpa using hw)) ⟨.bl _,H,I,rfl,?_⟩;rw [show aU.toArray.any (Ar x)=aU.any (Ar x) by simp,oz r fs];exact q
def iA:ji X (compareOp .NotIn) (Ry X.K true):=by
 intro ag s σ H x y v u Q I rx ry h;obtain⟨p,xs,rfl,hq,fx,fs,q⟩:=h;cases ry;rcases hq with hq | hq
 .obtain⟨aU,r,pl,hz⟩:=I.list hq;refine SeqAt.notIn_listAt (Ar x) pl.isList (λw hw=>kT rx fx r fs w (by simpa using hw)) ⟨.bl _,H,I,rfl,?_⟩;rw [show aU.toArray.any (Ar x)=aU.any (Ar x) by simp,oz r fs];exact q
 obtain⟨aU,r,pl,hz⟩:=I.tuple hq;refine SeqAt.notIn_tupleAt (Ar x) pl (λw hw=>kT rx fx r fs w (by simpa using hw)) ⟨.bl _,H,I,rfl,?_⟩;rw [show aU.toArray.any (Ar x)=aU.any (Ar x) by simp,oz r fs];exact q
def aG:ik X (.builtin "len") (λxs H Q=>∃p ys,xs=[.ref p]/\(aI X.K H p ys\/aQ X.K H p ys)/\Q (.int ys.length) H):=by
 intro ag s σ H xs us Q I r h;obtain⟨p,ys,rfl,hq,q⟩:=h;obtain⟨u,rfl,rx⟩:=vals1 r;cases rx;have hn:=v7;rcases hq with hq | hq
 .obtain⟨aU,r',pl,hz⟩:=I.list hq;have br:=r'.length;exact Calls.call_len_list pl.isList (by simp only [bQ] <;> omega) ⟨.int ys.length,H,I.tok _,⟨s.toks+1,by rw [bQ,br]⟩,q⟩
 obtain⟨aU,r',pl,hz⟩:=I.tuple hq;have br:=r'.length;exact len_tuple pl (by simp only [bQ] <;> omega) ⟨.int ys.length,H,I.tok _,⟨s.toks+1,by rw [bQ,br]⟩,q⟩
def ik.or {f:Value}{r r':List V->Hp->VK->Prop}(h:ik X f r)(h':ik X f r'):ik X f (λxs H Q=>r xs H Q\/r' xs H Q):=by
 intro ag s σ H xs us Q I rs q;rcases q with q | q
 .exact h ag s σ H xs us Q I rs q
 exact h' ag s σ H xs us Q I rs q
def iC:ik X (.type "list") (λxs H Q=>∃p ys,xs=[.ref p]/\(aI X.K H p ys\/aQ X.K H p ys)/\∀l,H l=none->Q (.ref l) (upd H l (.lst ys))):=by
 intro ag s σ H xs us Q I r h;obtain⟨p,ys,rfl,hq,q⟩:=h;obtain⟨u,rfl,rx⟩:=vals1 r;cases rx;have fin:∀(aU:List Value),a_ ys aU->ys.length<=sizeLine->∀(h':Heap) (c':Nat),(∀b o',s.heap.get? b=some o'->h'.get? b=some o') ->
   h'.get? s.heap.objs.size=some { cls:=.type "list",dict:=none,data:=.seq aU.toArray c',slots:=#[] }->EP X ag σ Q (.ref s.heap.objs.size) { s with heap:=h' }:=λaU r' hz h' c' kp e =>
  ⟨.ref s.heap.objs.size,_,I.laid (t':=s.toks) kp (aH _) (show cE X.prog X.w _ h' _ (.lst ys) from ⟨hz,aU,c',r',e⟩),rfl,q _ (I.b0.fresh (aH _))⟩
 rcases hq with hq | hq
 .obtain⟨aU,r',pl,hz⟩:=I.list hq;have br:=r'.length;obtain⟨o,ho,hc,n,hd⟩:=pl.isList;exact call_list_seq p (.inl rfl) ho hc hd (λh' c' kp e=>fin aU r' hz h' c' kp e) (by simp only [bQ] <;> omega)
 obtain⟨aU,r',pl,hz⟩:=I.tuple hq;have br:=r'.length;obtain⟨o,ho,hc,n,hd⟩:=pl;exact call_list_seq p (.inr rfl) ho hc hd (λh' c' kp e=>fin aU r' hz h' c' kp e) (by simp only [bQ] <;> omega)
def f_:ik X (.type "tuple") (λxs H Q=>∃p ys,xs=[.ref p]/\((aI X.K H p ys/\∀l,H l=none->Q (.ref l) (upd H l (.tup ys)))\/(aQ X.K H p ys/\Q (.ref p) H))):=by
 intro ag s σ H xs us Q I r h;obtain⟨p,ys,rfl,h⟩:=h;obtain⟨u,rfl,rx⟩:=vals1 r;cases rx;rcases h with ⟨hq,q⟩ | ⟨hq,q⟩
 .obtain⟨aU,r',pl,hz⟩:=I.list hq;have br:=r'.length;refine call_tuple_list pl.isList (λh' kp=>?_) (by simp only [bQ] <;> omega)
  have I1:Inv X ag σ H { s with heap:=h' }:=I.kept (t':=s.toks) kp;have I2:Inv X ag σ (upd H h'.objs.size (.tup ys)) { s with heap:=h'.push { cls:=.type "tuple",data:=.seq aU.toArray } } :=
   I1.laid (t':=s.toks) (λb o e=>bI _ e) (aH _) (show cE X.prog X.w _ _ _ (.tup ys) from ⟨hz,aU,r',IsTup.new _ _⟩)
  exact⟨.ref h'.objs.size,_,I2,rfl,q _ (I1.b0.fresh (aH _))⟩
 obtain⟨aU,r',pl,hz⟩:=I.tuple hq;exact call_tuple_same pl ⟨.ref p,H,I,rfl,q⟩
def SS (K:a9)(T:String)(x:V)(H:Hp):Prop:=match x with
 | .str _=>T = "str"
 | .int _=>T = "int"
 | .ref p=>(T = "list" /\ ∃xs,aI K H p xs)\/(T = "tuple" /\ ∃o,K.lookup p=some o/\o.cls=.type "tuple" /\ o.dict=none) \/
   (T = "dict" /\ ((∃kvs,H p=some (.dK kvs))\/∃kvs,H p=some (.dT kvs)))\/(T = "set" /\ ∃S n,H p=some (.set S n))
 | _=>False
def Ea {ag:List (Addr×Obj)}{σ:St}{H:Hp}{s:Shared}{T:String}{x:V}{v:Value}(I:Inv X ag σ H s)(r:RelV x v)(ty:SS X.K T x H) :
  s.TypeIs v T/\∀a,v=.ref a->∃ob,s.heap.get? a=some ob/\ob.dict=none:=by
 cases x with
 | str z =>
  obtain⟨t,rfl⟩:=r;cases (show T = "str" from ty);exact⟨typeIs_str s z t,λ_ e=>nomatch e⟩
 | int i =>
  obtain⟨t,rfl⟩:=r;cases (show T = "int" from ty);exact⟨typeIs_int s i t,λ_ e=>nomatch e⟩
 | ref p =>
  cases r;rcases ty with ⟨rfl,xs,hq⟩ | ⟨rfl,o,hk,hc,hd⟩ | ⟨rfl,hk⟩ | ⟨rfl,S,n,hk⟩
  .obtain⟨aU,_,pl,_⟩:=I.list hq;refine⟨pl.isList.typeIs,λa e=>?_⟩;cases e;obtain⟨o,n,e,c,hd,_⟩:=pl;exact⟨o,e,hd⟩
  .refine⟨⟨o,I.v9 p o hk,hc⟩,λa e=>?_⟩;cases e;exact⟨o,I.v9 _ o hk,hd⟩
  .have z:∃o,s.heap.get? p=some o/\o.ExactDict:=by
    rcases hk with ⟨kvs,hk⟩ | ⟨kvs,hk⟩
    .obtain⟨_,_,_,_,o,_,_,e,ex,_⟩:=I.b0 p _ hk;exact⟨o,e,ex⟩
    obtain⟨_,_,_,_,o,_,_,e,ex,_⟩:=I.b0 p _ hk;exact⟨o,e,ex⟩
   obtain⟨o,e,ex⟩:=z;refine⟨⟨o,e,ex.1⟩,λa e2=>?_⟩;cases e2;exact⟨o,e,ex.2.1⟩
  obtain⟨o,_,_,_,e,ex,_⟩:=I.b0 p _ hk;refine⟨⟨o,e,ex.1⟩,λa e2=>?_⟩;cases e2;exact⟨o,e,ex.2.1⟩
 | _=>exact False.elim ty
def Tf (K:a9)(T:String)(r:V->List V->Hp->VK->Prop)(to:TE):TE:=λσ H Q=>to σ H λx H1=>SS K T x H1/\r x [] H1 Q
def tBM (K:a9)(T:String)(r:V->List V->Hp->VK->Prop)(to:TE)(t:TA):TE:=λσ H Q=>to σ H λx H1=>SS K T x H1/\t σ H1 λxs H2=>r x xs H2 Q
variable {o e:Expr}{es:List Expr}{to:TE}{t:TA}{name:Str}{apos gM:Pos}{T id:String}{r:V->List V->Hp->VK->Prop}
def zJ (pa:PlainAttrs T)(slot:Slot T name id)(UU:typeOf (.builtin id)=pure (.type "method_descriptor"))(hm:Ob X id r)(ho:PE X o to)
  (Gf:attributeBase o name X.env (eval o X.env)=eval o X.env:=by rfl)(F_:(apos.endLine == gM.line)=true:=by rfl):PE X (.Call (.Attribute o name apos) [] [] gM) (Tf X.K T r to):=by
 intro ag s σ H Q I h;refine wpAny_Call_method0_late Gf F_ (cI (ho ag s σ H _ I h) λv s1 ⟨x,H1,I1,r1,ty,q1⟩=>?_);obtain⟨h1,h2⟩:=Ea I1 r1 ty;exact⟨T,id,pa,slot,UU,h1,h2,ro rfl (PySem.evalArgs_none (hm ag s1 σ H1 x [] v [] Q I1 r1 .nil q1))⟩
def fq (pa:PlainAttrs T)(slot:Slot T name id)(UU:typeOf (.builtin id)=pure (.type "method_descriptor"))(hm:Ob X id r)(ho:PE X o to)(ha:PA X (e::es) t)
  (Gf:attributeBase o name X.env (eval o X.env)=eval o X.env:=by rfl)
  (Vp:((backTo gM (starEach (e::es) X.env)).all (λx=>!x.1) && (backToKw gM (keywordEach [] X.env)).all (λx=>x.1.isSome)
   && decide ((e::es).length+([]:List Keyword).length+(if ([]:List Keyword).isEmpty then 0 else 1) < 30))=true:=by rfl)
  (F_:(apos.endLine == gM.line)=true:=by rfl)(hs:starEach (e::es) X.env=(false,eval e X.env)::starEach es X.env:=by rfl)(Mm:(backTo gM (starEach es X.env)).any (·.1)=false:=by rfl) :
  PE X (.Call (.Attribute o name apos) (e::es) [] gM) (tBM X.K T r to t):=by
 intro ag s σ H Q I h;refine wpAny_Call_method_late Gf Vp F_ rfl (cI (ho ag s σ H _ I h) λv s1 ⟨x,H1,I1,r1,ty,q1⟩=>?_);obtain⟨h1,h2⟩:=Ea I1 r1 ty;refine⟨T,id,pa,slot,UU,h1,h2,?_⟩;have hA:=ha gM ag s1 σ H1 _ I1 q1;rw [hs] at hA ⊢;refine ro (by show (false || (backTo gM (starEach es X.env)).any (·.1))=false;rw [Mm] <;> rfl) (u3 ?_)
 exact cI hA λus s2 ⟨vs,H2,I2,r2,q2⟩=>hm ag s2 σ H2 x vs v us Q I2 r1 r2 q2
end
def Su (X:Cx)(id:String)(r:V->List V->Hp->VK->Prop):Prop :=
 ∀(ag:List (Addr×Obj))(s:Shared)(σ:St)(H:Hp)(x:V)(xs:List V)(v:Value)(us:List Value)(Q:VK),Inv X ag σ H s->RelV x v->a_ xs us->r x xs H Q ->
  wpAny (model X.prog X.w) X.A (call (.builtin id) (v::us)) (EP X ag σ Q) X.xe s
def a_.one:∀{x:V}{us:List Value},a_ [x] us->∃u,us=[u]/\RelV x u
 | _,_,.cons r .nil=>⟨_,rfl,r⟩
def a_.two:∀{x y:V}{us:List Value},a_ [x,y] us->∃u v,us=[u,v]/\RelV x u/\RelV y v
 | _,_,_,.cons r (.cons q .nil)=>⟨_,_,rfl,r,q⟩
def a_.zero:∀{us:List Value},a_ [] us->us=[]
 | _,.nil=>rfl
theorem a_.dropLast {xs:List V}{us:List Value}(h:a_ xs us):a_ xs.dropLast us.dropLast:=by
 induction h with
 | nil=>exact .nil
 | cons r t ih =>
  cases t with
  | nil=>exact .nil
  | cons q t'=>exact .cons r ih
theorem a_.eraseIdx:∀{xs:List V}{us:List Value}(i:Nat),a_ xs us->a_ (xs.eraseIdx i) (us.eraseIdx i)
 | _,_,_,.nil=>.nil
 | _,_,0,.cons _ t=>t
 | _,_,i+1,.cons r t=>.cons r (a_.eraseIdx i t)
theorem a_.reverse {xs:List V}{us:List Value}(h:a_ xs us):a_ xs.reverse us.reverse:=by
 induction h with
 | nil=>exact .nil
 | cons r t ih=>rw [mi,mi];exact a_.append ih (.cons r .nil)
def Aq {α:Type}(l:List α):l.eraseIdx (l.length - 1)=l.dropLast:=by
 induction l with
 | nil=>rfl
 | cons a r ih =>
  cases r with
  | nil=>rfl
  | cons b r =>
   have e:(a::b::r).length - 1=((b::r).length - 1)+1:=by
    have h1:(a::b::r).length=r.length+2:=rfl;have h2:(b::r).length=r.length+1:=rfl;omega
   rw [e,List.eraseIdx_cons_succ,ih]
   all_goals rfl
section
variable {X:Cx}{ag:List (Addr×Obj)}{σ:St}{H:Hp}{s:Shared}{l b:Addr}{xs ys zs:List V}
def Inv.IU {aU sj:List Value}{n:Nat}{f:Array Value->Array Value}{t':Nat}(I:Inv X ag σ H s)(hH:H l=some (.lst xs))
  (e:s.heap.get? l=some { cls:=.type "list",data:=.seq aU.toArray n })(hf:f aU.toArray=sj.toArray)(hv:a_ ys sj)(hz:ys.length<=sizeLine) :
  Inv X ag σ (upd H l (.lst ys)) { s with heap:=s.heap.update l (Obj.mapSeq f),toks:=t' }:=by
 have q:=PySem.IsL.update e f;rw [hf] at q;refine I.write (x:=l) (e:=l) (by rw [hH];exact trivial) (.inl rfl) (λb' u hb hu=>(o5 s.heap (Obj.mapSeq f) (cO hb)).trans hu) ⟨_,q⟩ ?_;exact⟨hz,sj,_,hv,q⟩
def Inv.Ut {aU:List Value}{t':Nat}(I:Inv X ag σ H s)(hv:a_ ys aU)(hz:ys.length<=sizeLine) :
  Inv X ag σ (upd H s.heap.objs.size (.lst ys)) { s with heap:=s.heap.push { cls:=.type "list",data:=.seq aU.toArray },toks:=t' } :=
 I.laid (λ_ _ q=>bI _ q) (aH _) ⟨hz,aU,0,hv,cV _ rfl⟩
theorem Inv.fresh (I:Inv X ag σ H s):H s.heap.objs.size=none:=I.b0.fresh (aH _)
def Inv.z6 (I:Inv X ag σ H s)(hH:H l=some (.lst xs)):xs.length<=sizeLine/\∃(aU:List Value) (n:Nat),a_ xs aU/\xs.length=aU.length/\s.heap.get? l=some { cls:=.type "list",data:=.seq aU.toArray n }:=by
 obtain⟨z,aU,n,r,e⟩:=I.b0 l _ hH;exact⟨z,aU,n,r,r.length,e⟩
def xx {n:Nat}(h:n<=sizeLine):Builtin.List.listTooLong n=false:=by
 unfold Builtin.List.listTooLong;exact di ∅
end
section
variable {X:Cx}
def Ip:V->List V->Hp->VK->Prop:=λx vs H Q=>∃l xs y,x=.ref l/\vs=[y]/\H l=some (.lst xs)/\xs.length < sizeLine/\Q .d6 (upd H l (.lst (xs++[y])))
def bJ:Su X "list.append" Ip:=by
 intro ag s σ H x vs v us Q I rx rv h;obtain⟨l,xs,y,rfl,rfl,hH,hz,q⟩:=h;cases rx;obtain⟨u,rfl,ru⟩:=rv.one;obtain⟨z,aU,n,r,hl,e⟩:=I.z6 hH;refine call_meets F.slot_list_append ⟨_,e,rfl⟩ F.entry_list_append (F.args_list_append_2 _ _) (PySem.list_append l aU.toArray n u (by rw [bQ];omega)) ⟨e,?_⟩;refine⟨.d6,_,I.IU (sj:=aU++[u]) hH e (by simp) (r.append (.cons ru .nil)) ?_,rfl,q⟩;rw [bL,fO];omega
def Io:V->List V->Hp->VK->Prop:=λx vs H Q=>∃l b xs zs,x=.ref l/\vs=[.ref b]/\H l=some (.lst xs)/\H b=some (.lst zs)/\xs.length+zs.length<=sizeLine/\Q .d6 (upd H l (.lst (xs++zs)))
def Cz:Su X "list.extend" Io:=by
 intro ag s σ H x vs v us Q I rx rv h;obtain⟨l,b,xs,zs,rfl,rfl,hH,hB,hz,q⟩:=h;cases rx;obtain⟨u,rfl,ru⟩:=rv.one;cases ru;obtain⟨z,aU,n,r,hl,e⟩:=I.z6 hH;obtain⟨z2,cH,n2,r2,tT,e2⟩:=I.z6 hB;have hsz:aU.toArray.size+cH.toArray.size<=sizeLine:=by rw [bQ,bQ];omega
 have F8:¬(!aU.toArray.isEmpty && Builtin.List.listTooLong (aU.toArray.size+cH.toArray.size))=true:=by
  rw [xx hsz,Bool.and_false];exact dO
 refine call_meets F.slot_list_extend ⟨_,e,rfl⟩ F.entry_list_extend (F.args_list_extend_2 _ _)
  (AutoSeq1.list_extend_list_list_0 l aU.toArray n b cH.toArray n2 F8 (by rw [bQ];omega) ∅) ⟨e,e2,?_⟩
 refine⟨.d6,_,I.IU (sj:=aU++cH) hH e (by simp) (r.append r2) ?_,rfl,q⟩;rw [bL];omega
def TH:V->List V->Hp->VK->Prop:=λx vs H Q=>∃l xs y,x=.ref l/\vs=[]/\H l=some (.lst xs)/\xs[xs.length - 1]?=some y/\Q y (upd H l (.lst xs.dropLast))
def zV:Su X "list.pop" TH:=by
 intro ag s σ H x vs v us Q I rx rv h;obtain⟨l,xs,y,rfl,rfl,hH,hy,q⟩:=h;cases rx;have hus:=rv.zero;subst hus;obtain⟨z,aU,n,r,hl,e⟩:=I.z6 hH;obtain⟨u,hu,ru⟩:=r.get hy;have UP:aU.toArray[aU.toArray.size - 1]?=some u:=by
  show aU.toArray[aU.length - 1]?=some u;rw [<-Array.getElem?_toList,<-hl];exact hu
 refine call_meets F.slot_list_pop ⟨_,e,rfl⟩ F.entry_list_pop (F.args_list_pop_1 _) (MeetsSeq.list_pop_last l aU.toArray n u UP (by rw [bQ];omega)) ⟨e,?_⟩;refine⟨y,_,I.IU (sj:=aU.dropLast) hH e ?_ r.dropLast ?_,ru,q⟩
 .show aU.toArray.eraseIdxIfInBounds (aU.toArray.size - 1)=aU.dropLast.toArray;rw [bQ,List.eraseIdxIfInBounds_toArray,Aq]
 rw [List.length_dropLast];omega
def TK:R2:=λx y H Q=>∃l b xs zs,x=.ref l/\y=.ref b/\H l=some (.lst xs)/\H b=some (.lst zs)/\xs.length+zs.length<=sizeLine/\∀p,H p=none->Q (.ref p) (upd H p (.lst (xs++zs)))
def iM:ji X (binaryOp .Add) TK:=by
 intro ag s σ H x y v u Q I rx ry h;obtain⟨l,b,xs,zs,rfl,rfl,hH,hB,hz,q⟩:=h;cases rx;cases ry;obtain⟨z,aU,n,r,hl,e⟩:=I.z6 hH;obtain⟨z2,cH,n2,r2,tT,e2⟩:=I.z6 hB;refine PySem.P.add_list e e2 ?_ (by rw [bQ,bQ];omega);have ea:aU.toArray++cH.toArray=(aU++cH).toArray:=by simp
 rw [ea];exact⟨.ref _,_,I.Ut (t':=s.toks) (r.append r2) (by rw [bL];omega),rfl,q _ I.fresh⟩
end
section
variable {prog:Program}{w:World}{A:Around}{E:Value->Shared->Prop}{s:Shared}
set_option maxRecDepth 100000 in
end
section
variable {X:Cx}
end
end L2
namespace HP
open PySem PySem.W PySem.Calls PyProof.Rows
def qp {P:Params}{h:Heap}:∀(ns:List Int)(vs:List Value),WellAll P h vs (ns.map WData.int)->IntsAre vs ns:=by
 intro ns
 induction ns with
 | nil =>
  intro vs w;rw [jF] at w;cases w;exact .nil
 | cons n ns ih =>
  intro vs w;rw [cq] at w;cases w with
  | cons a b =>
   cases a;exact .cons _ _ (ih _ b)
def B_ {l:OpenLaw}{n:Nat}(hn:l.most=some n){P:Params}{h:Heap}{args:List WData}{vals:List Value}
  (I0:l.row.toRowW.claim.pre args=true)(UR:WellAll P h vals args) :
  ∃a vs ns,vals=[Value.ref a]/\args=[WData.list (ns.map WData.int)]/\h.get? a=some { cls:=.type "list",data:=.seq vs.toArray }/\IntsAre vs ns/\ns.length<=n:=by
 have hsh:WShape.hasAll [] args [.list .int]=true:=(pre_splitW I0).1;have hc:l.pre.holds [] { args:=args }=true:=(pre_splitW I0).2;obtain⟨d,r,rfl,h1,h2⟩:=hasAllW_cons hsh;obtain rfl:=hasAllW_nil h2;obtain⟨xs,rfl,h3⟩:=hasW_list h1;obtain⟨ns,rfl⟩:=items_int h3;have br:ns.length<=n:=by
  unfold OpenLaw.pre at hc;have h4:(WTm.not (.lt (.lit (.int (n:Int))) (.len (.arg 0)))).holds [] { args:=[.list (ns.map .int)] }=true:=by
   have h4:=(holds_andW hc).1;rw [hn] at h4;exact h4
  have h5:=condW_of h4 (w_not (w_lt w_lit (w_len_list (w_arg rfl))));rw [au] at h5;refine Nat.le_of_not_lt λq=>?_;have q':(n:Int) < ((ns.length:Nat):Int):=by omega
  first
   | (rw [bV q'] at h5;exact absurd h5 (by decide))
   | (simp at h5;omega)
 cases UR with
 | cons w1 w2 =>
  cases w2;cases w1 with
  | list ho qt=>exact⟨_,_,ns,rfl,rfl,ho,qp ns _ qt,br⟩
def Cf (l:OpenLaw)(args:List WData):l.row.toRowW.claim.post args (.bool true) args=true :=
 postW_of (r:=l.row.toRowW) (X:=(true == true))
  (show WShape.has [] (.bool true) .bool=true by first | rfl | decide | simp [WShape.has,WShape.arms,WShape.armsAll])
  (show (WTm.eq .res (.lit (.bool true))).value [] { args:=args,res:=some (.bool true),after:=args }=some (.bool (true == true)) from w_eq_bool (w_res rfl) w_lit) rfl
def qi {l:OpenLaw}{n:Nat}{q:Program}{loose:List Str}{XP:(Str->Option Value)->Heap->Prop}{YP:World->Heap->Prop}{d:DefRec}
  (hn:l.most=some n)(Mt:d.params.defaults=[])
  (call:∀(w:World)(s₀ s₁:Shared)(mg mb:Str->Option Value)(fa:Addr)(o:Obj)(pm cd doc:Value)(a:Addr)(vs:List Value)(ns:List Int),
   Ground q loose [] XP w s₀ mg mb s₁.heap->YP w s₁.heap ->
   s₁.heap.get? fa=some o->o.data=.func (docDef d.name d.params d.body d.scope pm cd doc)->s₁.heap.CodeRec cd d.name->mg d.name=some (.ref fa) ->
   s₁.heap.get? a=some { cls:=.type "list",data:=.seq vs.toArray }->IntsAre vs ns->ns.length<=n->s₁.gens=#[] ->
   codeAny (model l.prog w) callerA (.call (.ref fa) ⟨[.ref a],[]⟩) (λr s'=>r=.ok (.ret (.bool true))/\OldK s₁.heap s'.heap/\s'.os=s₁.os/\AllBare s'.gens) s₁) :
  WalkO q loose XP YP l.row.toRowW d [] (λf vs=>PySem.call f vs):=by
 intro w s₀ s₁ mg mb G Y fa o pm cd doc dV kV ho hd wg hD Mn hg args vals as I0 aak hrd UR hlo;obtain rfl:dV=.none:=Dflts.none hD Mt;obtain rfl:kV=.none:=Dflts.noKw hD;obtain⟨a,vs,ns,rfl,rfl,F5,hints,br⟩:=B_ hn I0 UR;refine enter_call (oC (call w s₀ s₁ mg mb fa o pm cd doc a vs ns G Y ho (fd_plain hd) wg Mn F5 hints br hg) λr s' hq=>?_);obtain⟨rfl,h2,h3,h4⟩:=hq;exact⟨.inl ⟨.bool true,.bool true,[],rfl,λ_=>rfl,.bool true,Cf l _,λ_=>⟨List.Pairwise.nil,λ_ hm=>(nomatch hm)⟩⟩,h2,h3,h4⟩
section
variable {prog:Program}{w:World}{A:Around}{E:Value->Shared->Prop}{s:Shared}{K:Frag}
def rZ (h:Heap):Heap:={ h with objs:=#[] }
def mr (h:Heap)(b:Addr):(rZ h).get? b=none:=by
 cases e:(rZ h).get? b with
 | none=>rfl
 | some o=>exact absurd (ba e) (Nat.not_lt_zero _)
def ledger (h:Heap)(L d:Addr):List (Addr×Obj):=(List.range h.objs.size).filterMap λa=>if a=L\/a=d then none else (h.get? a).map λo=>(a,o)
def jN {h:Heap}{L d a:Addr}{o:Obj}:(a,o)∈ledger h L d↔a≠L/\a≠d/\h.get? a=some o:=by
 unfold ledger;rw [List.mem_filterMap];constructor
 .rintro⟨b,_,e⟩
  split at e
  .cases e
  rename_i hb
  obtain⟨o',ho,e'⟩:=cg.mp e;cases e';exact⟨λq=>hb (.inl q),λq=>hb (.inr q),ho⟩
 rintro⟨n1,n2,ho⟩;refine⟨a,kJ.mpr (ba ho),?_⟩;rw [az (show ¬(a=L\/a=d) from λq=>q.elim n1 n2),ho] <;> rfl
def xD {h:Heap}{L d:Addr}{od:Obj}(DK:d≠L)(ho:h.get? d=some od):News (rZ h) L h ([]++(d,od)::ledger h L d):=by
 rintro⟨a,o⟩ hp;rcases cz.mp hp with e | hp
 .cases e;exact⟨ho,DK,mr _ _⟩
 obtain⟨n1,n2,e⟩:=jN.mp hp;exact⟨e,n1,mr _ _⟩
def MN {h:Heap}{L:Addr}{m:Str->Option Value}(n:h.Ns L m):Fr (rZ h) L h m :=
 ⟨n,λb o e=>(by rw [mr] at e;cases e),gA _⟩
end
end HP
namespace L2
open PySem PySem.Spec PyProof.Rows
theorem o7:∀{vs:List Value}{ns:List Int},IntsAre vs ns->a_ (ns.map V.int) vs
 | _,_,.nil=>.nil
 | _,_,.cons n t h=>.cons ⟨t,rfl⟩ (o7 h)
def Nq (H:Hp):Prop:=∀b,H b=none\/∃o xs,H b=some (.ki o (.lst xs))
def FO {P:Program}{w:World}{K:a9}{mg mb:Str->Option Value}{CX:yE}{k:Nat}{fa a:Addr}{fd:FuncData}{x:Str}{sp:Sp}{s₁:Shared}{vs:List Value}{ns:List Int}
  (KX:K.In s₁.heap)(wI:s₁.heap.Ns mainGlobals mg)(hb:s₁.heap.Ns builtinsNs mb)(My:∀x:Str,x ≠ "__name__" -> mb x=bootBuiltins x)(Mo:s₁.heap.NoLimit)(hg:s₁.gens=#[])
  (ha:s₁.heap.get? a=some { cls:=.type "list",data:=.seq vs.toArray })(hi:IntsAre vs ns)(hl:ns.length<=sizeLine)(hr:fh k callerA)
  (F:∀base:Heap,K.In base->base.Ns mainGlobals mg->bN P w K mg base CX k fa fd [x] sp)(og:∀(s:Shared)(u:Value),BindsTo s fd ⟨[u],[]⟩ [(x,u)])
  (yu:∀H:Hp,Nq H->aI K H a (ns.map V.int)->sp [.ref a] H (λv _=>v=.bl true) λ_ _ _=>False)
  (MH:∀H e s',CX [] H s₁ (λ_ _ _=>False) e s'->False) :
  codeAny (model P w) callerA (.call (.ref fa) ⟨[.ref a],[]⟩) (λr s'=>r=.ok (.ret (.bool true))/\OldK s₁.heap s'.heap/\s'.os=s₁.os/\AllBare s'.gens) s₁:=by
 have rv:=o7 hi;have L_:=hi.length;have core:∀H:Hp,Nq H->aI K H a (ns.map V.int)->l7 P w H s₁.heap->(∀b,H b≠none->b=a)->(H a≠none->K.lookup a=none) ->
   codeAny (model P w) callerA (.call (.ref fa) ⟨[.ref a],[]⟩) (λr s'=>r=.ok (.ret (.bool true))/\OldK s₁.heap s'.heap/\s'.os=s₁.os/\AllBare s'.gens) s₁:=by
  intro H hO hS b0 hA hK;have lD:∀{b:Addr}{o:Obj},s₁.heap.get? b=some o->H b=none->(mE s₁.heap H).get? b=some o:=λe n=>xK e n;have Pf:∀{b:Addr}{o:Obj}{es:Array DictEntry}{ep:Nat},s₁.heap.get? b=some o->o.data=.dict es ep->H b=none:=λ{b o es ep} e d=>by
   cases q:H b with
   | none=>rfl
   | some u =>
    have e':b=a:=hA b (by rw [q];simp);subst e';rw [ha] at e;cases e;have d':Data.seq vs.toArray _=Data.dict es ep:=d;cases d'
  have IP:∀{b:Addr}{m:Str->Option Value},s₁.heap.Ns b m->(mE s₁.heap H).Ns b m:=λ{b m} ⟨o,es,ep,e,d,r⟩=>⟨o,es,ep,lD e (Pf e d),d,r⟩;have Qt:K.In (mE s₁.heap H):=λb o e=>lD (KX b o e) (by
   cases q:H b with
   | none=>rfl
   | some u =>
    have e':b=a:=hA b (by rw [q];simp);subst e';rw [hK (by rw [q];simp)] at e;cases e)
  have hM:Mod K mg (mE s₁.heap H):=⟨Qt,IP wI,⟨mb,IP hb,My⟩,let ⟨mc,h1,h2⟩:=Mo;⟨mc,IP h1,h2⟩⟩;have e0:qy P w K mg (mE s₁.heap H) callerA [] s₁ H:=⟨rfl,hM,λb o e=>Bs e,Nat.le_of_eq (uz _ _),trivial,λb hb=>absurd (show b∈([]:List Addr) from hb) (by simp),b0,.of_eq hg⟩;refine oC ((F _ Qt (IP wI)).run callerA [] s₁ H ⟨[.ref a],[]⟩ [.ref a] [.ref a] _ _ hr e0 (og s₁ (.ref a)) (.cons rfl .nil) (yu H hO hS)) λr s' h=>?_;cases r with
  | error e=>exact(MH H e s' h).elim
  | ok fl =>
   cases fl with
   | next=>exact False.elim h
   | brk=>exact False.elim h
   | cont=>exact False.elim h
   | ret u =>
    obtain⟨v,H',os,bare,un,I8,r',q⟩:=h;have q':v=.bl true:=q;subst q';obtain rfl:u=Value.bool true:=r';refine⟨rfl,OldK.of_keep λb o e=>?_,os,bare⟩;cases q:H b with
    | none=>exact un.keep b o e q (by intro z;exact absurd (show b∈([]:List Addr) from z) (by simp)) (by simp)
    | some u =>
     rcases hO b with z | ⟨ob,xs,z⟩
     .rw [q] at z;cases z
     have z2:=un.mF b ob _ z;obtain⟨e1,_⟩:=b0 b _ z;obtain⟨e2,_⟩:=I8 b _ z2;rw [e] at e1;cases e1;exact e2
 cases hk:K.lookup a with
 | some o =>
  have e:=KX a o hk;rw [ha] at e;cases e;refine core (λ_=>none) (λ_=>.inl rfl) (.inr ⟨_,vs.toArray,_,hk,rfl,rfl,rfl,by rw [bQ,L_];exact hl,by simpa using rv⟩) (λb u z=>by have z':(none:Option HO)=some u:=z;cases z') (λb z=>absurd rfl z) λz=>absurd rfl z
 | none =>
  refine core (λb=>if b=a then some (.ki { cls:=.type "list",data:=.seq vs.toArray } (.lst (ns.map V.int))) else none) (λb=>?_) (.inl (.inr ⟨{ cls:=.type "list",data:=.seq vs.toArray },ax rfl⟩)) (λb u z=>?_) (λb z=>?_) λ_=>hk
  .by_cases hb:b=a
   .exact .inr ⟨_,_,ax hb⟩
   exact .inl (az hb)
  .by_cases hb:b=a
   .have z':=(ax hb).symm.trans z;cases z';subst hb;exact⟨ha,by rw [au];exact hl,vs,_,rv,ha⟩
   have z':=(az hb).symm.trans z;cases z'
  by_cases hb:b=a
  .exact hb
  exact absurd (az hb) z
abbrev KOf {K:a9}{h:Heap}(_:K.In h):a9:=K
def Rl {l:PySem.W.OpenLaw}{n k:Nat}{q:Program}{loose:List Str}{XP:(Str->Option Value)->Heap->Prop}{YP:World->Heap->Prop}{d:DefRec}{K:Params->a9}{CX:World->yE}{sp:World->Sp}{x:Str}
  (hn:l.most=some n)(F7:n<=sizeLine)(Mt:d.params.defaults=[])(hr:fh k callerA)
  (hY:∀(w:World)(h:Heap),YP w h->(K w.params).In h)
  (F:∀(w:World)(mg:Str->Option Value)(fa:Addr)(h:Heap),(K w.params).In h->h.Ns mainGlobals mg->mg d.name=some (.ref fa) ->
   ∃fd:FuncData,(∀(s:Shared)(u:Value),BindsTo s fd ⟨[u],[]⟩ [(x,u)]) /\
    ∀base:Heap,(K w.params).In base->base.Ns mainGlobals mg->bN l.prog w (K w.params) mg base (CX w) k fa fd [x] (sp w))
  (yu:∀(w:World)(H:Hp)(a:Addr)(ns:List Int),ns.length<=n->Nq H->aI (K w.params) H a (ns.map V.int)->sp w [.ref a] H (λv _=>v=.bl true) λ_ _ _=>False)
  (MH:∀(w:World)(H:Hp)(s:Shared)(e:Value)(s':Shared),CX w [] H s (λ_ _ _=>False) e s'->False) :
  PySem.W.WalkO q loose XP YP l.row.toRowW d [] (λf vs=>PySem.call f vs):=by
 refine HP.qi hn Mt λw s₀ s₁ mg mb fa o pm cd doc a vs ns G Y ho hd wg Mn F5 hints br hg=>?_;have KX:=hY w _ Y;obtain⟨fd,hb,hF⟩:=F w mg fa _ KX G.T.g Mn;exact FO KX G.T.g G.T.b G.T.builtins G.T.nolimit hg F5 hints (fV br F7) hr hF hb (λH hO hS=>yu w H a ns br hO hS) λH e s'=>MH w H s₁ e s'
def dD (s:Stmt):Arguments:=match s with
 | .FunctionDef _ a _ _ _ _ _ _ _ _=>a
 | _=>{ posonlyargs:=[],args:=[],vararg:=none,kwonlyargs:=[],kw_defaults:=[],kwarg:=none,defaults:=[] }
def cw (s:Stmt):List Stmt:=match s with
 | .FunctionDef _ _ b _ _ _ _ _ _ _=>b
 | _=>[]
def av (s:Stmt):Scope:=match s with
 | .FunctionDef _ _ _ _ _ _ sc _ _ _=>sc
 | _=>{ kind:=.function,names:=[],isGenerator:=false,isCoroutine:=false }
abbrev fj:yE:=λ_ _ _ _ _ _=>False
abbrev E0:XK:=λ_ _ _=>False
def uk {X:Cx}:Passes fj X E0:=λ_ _ _ _ _ _ _ h=>h.elim
structure g9 (K:a9)(x qual:Str)(st:Stmt)(f:Addr)(fd:FuncData):Prop where
 ex:∃(oc:Value)(od:Option Addr)(kV doc pm:Value)(an:Option Addr)(dU ct:Value)(xq:Array (Option Value)),
  fd=PySem.W.fnOf x qual (dD st) (cw st) (av st) .none kV doc pm an dU ct/\K.lookup f=some ⟨oc,od,.func fd,xq⟩/\PySem.W.codeIn K dU qual=true
 kp:PySem.W.keepIn K (.ref f)=true
section
variable {P:Program}{w:World}{K:a9}{mg:Str->Option Value}{base:Heap}
def g9.ok {x qual:Str}{st:Stmt}{f:Addr}{fd:FuncData}{N ps:List Str}{k:Nat}{sp:Sp}(F:g9 K x qual st f fd)(S:aK N ps (av st))(len:∀vs H Q E,sp vs H Q E->vs.length=ps.length)
  (jz:∀(dU:Value)(A:Around)(outer:List Env)(s:Shared)(H:Hp)(vs:List V)(Q:VK)(E:XK),fh k (A.deeper (envOfC qual (av st) s.heap.objs.size f dU))->sp vs H Q E ->
   ∃t,AG (pP fj P w K mg base N qual (av st) f dU A outer s H E).Cy (cw st) t/\t { nx:=λ_ H'=>Q .d6 H',rt:=Q } (start N vs) H):bN P w K mg base fj (k+1) f fd ps sp:=by
 obtain⟨oc,od,kV,doc,pm,an,dU,ct,xq,rfl,lk,wg⟩:=F.ex;refine Gn lk wg S len λA outer s H vs Q E hr yu=>?_;obtain⟨t,h,q⟩:=jz dU A outer s H vs Q E hr yu;exact⟨t,h.Cy,q⟩
def g9.binds {x qual:Str}{st:Stmt}{f:Addr}{fd:FuncData}{ps:List Str}(F:g9 K x qual st f fd)
  (h:∀(kV doc pm:Value)(an:Option Addr)(dU ct:Value)(us:List Value),us.length=ps.length->bindArgs (PySem.W.fnOf x qual (dD st) (cw st) (av st) .none kV doc pm an dU ct) ⟨us,[]⟩=pure (ps.zip us)):Binds K fd ps []:=by
 obtain⟨oc,od,kV,doc,pm,an,dU,ct,xq,rfl,lk,wg⟩:=F.ex;exact .all (h kV doc pm an dU ct)
def Gj {x qual:Str}{st:Stmt}{f:Addr}{oc:Value}{od an:Option Addr}{xq:Array (Option Value)}{kV doc pm dU ct:Value}(l:K.lookup f=some ⟨oc,od,.func (PySem.W.fnOf x qual (dD st) (cw st) (av st) .none kV doc pm an dU ct),xq⟩)
  (c:PySem.W.codeIn K dU qual=true)(k:PySem.W.keepIn K (.ref f)=true):g9 K x qual st f (PySem.W.fnOf x qual (dD st) (cw st) (av st) .none kV doc pm an dU ct):=⟨⟨oc,od,kV,doc,pm,an,dU,ct,xq,rfl,l,c⟩,k⟩
end
def fR {A:Around}{k:Nat}(hr:fh k A):A.units+1 < cLine:=pX (rj (by decide:1<=64) _) hr.units
section
variable {X:Cx}
def pv (i:Nat){x:Str}{pos:Pos}(hN:X.N[i]?=some x:=by rfl)(hv:Sq X.env.scope x:=by first | exact Or.inl rfl | exact Or.inr (bx rfl) | exact Or.inr (Or.inr rfl))(hd:(x == ("__debug__":Str))=false:=by decide)
  (wg:(x == ("__classdict__":Str))=false:=by decide):PE X (.Name x pos) (gW i):=LF hN hv hd wg
end
def c_ {A B:Prop}(h:B):if false=true then A else B:=by
 rw [az dO];exact h
def g6 {A B:Prop}(h:A):if true=true then A else B:=by
 rw [ax rfl];exact h
def bY {c A B:Prop} [Decidable c] (h1:c->A)(h2:¬c->B):if c then A else B:=by
 by_cases h:c
 .rw [ax h];exact h1 h
 rw [az h];exact h2 h
def aC (H H':Hp):Prop:=∀b o,H b=some o->H' b=some o
def aC.refl (H:Hp):aC H H:=λ_ _ h=>h
def aC.trans {H H1 H2:Hp}(a:aC H H1)(b:aC H1 H2):aC H H2:=λc o h=>b c o (a c o h)
def aC.free {H H':Hp}(e:aC H H'){l:Addr}(h:H' l=Option.none):H l=Option.none:=by
 cases q:H l with
 | none=>rfl
 | some o =>
  rw [e l o q] at h;cases h
def aC.seq {K:a9}{H H':Hp}{a:Addr}{xs:List V}(e:aC H H')(h:aI K H a xs):aI K H' a xs:=by
 rcases h with (h | ⟨o,h⟩) | h
 .exact .inl (.inl (e _ _ h))
 .exact .inl (.inr ⟨o,e _ _ h⟩)
 exact .inr h
end L2
namespace HD
open PySem PySem.W
def EN (st:SharedT->Thread->Option (SharedT×Thread))(ok:Thread->Bool):Nat->SharedT->Thread->Option SharedT
 | 0,_,_=>none
 | n+1,s,t=>match through t with
  | true=>some s
  | false=>match ok t with
   | false=>none
   | true=>match st s t with
    | some (s',t')=>EN st ok n s' t'
    | none=>none
theorem Bl {tb:String->Option Builtin}{p:Program}{w:World}{n₀:Nat}{ann:Option Value}:∀{n:Nat}{s s':SharedT}{t:Thread},EN (stepT (denote tb) p w) (stepOk n₀ ann) n s t=some s'->topRun tb p w n₀ ann n s.abs t=some s'.abs
 | 0,_,_,_,h=>by cases h
 | n+1,s,s',t,h=>by
  unfold EN at h;unfold topRun;cases he:through t with
  | true=>rw [he] at h;cases h;rfl
  | false =>
   rw [he] at h;cases hk:stepOk n₀ ann t with
   | false=>rw [hk] at h;cases h
   | true =>
    rw [hk] at h;cases hs:stepT (denote tb) p w s t with
    | none=>rw [hs] at h;cases h
    | some r=>obtain⟨s₂,t₂⟩:=r;rw [hs] at h;rw [stepT_spec hs];exact Bl h
def xu:List Obj->Nat->BT->BT
 | [],_,t=>t
 | o::r,i,t=>xu r (i+1) (t.ins i o)
noncomputable def BM (P:Params):BT:=xu (boot_heap P).objs.toList 0 .nil
def Dp (P:Params):absHeap (BM P) 11 {}=boot_heap P:=by kernel_rfl
def MP {β:Type}:Obj->(Obj->β)->β
 | ⟨c,d,t,s⟩,k=>k ⟨c,d,t,s⟩
def qL {β:Type}:List Obj->(List Obj->β)->β
 | [],k=>k []
 | x::r,k=>MP x λy=>qL r λys=>k (y::ys)
theorem sI {β:Type}:∀(l:List Obj)(k:List Obj->β),qL l k=k l
 | [],_=>rfl
 | ⟨c,d,t,s⟩::r,k=>by
  show qL r (λys=>k (⟨c,d,t,s⟩::ys))=_;rw [sI r]
def FI (p q:Program) (loose:List Str)(Xt:Shared->Bool){α:Type}(Yf:Shared->α)(g0:Bool)(h₀:Heap)(s:Shared) :=
 ((staticsOk (importedModules p.main.body) h₀ s.heap && namesBound p s.heap && gensDone s && laidKept h₀ s.heap),openSeen q loose (importedModules p.main.body) Xt g0 s,Yf s)
def Et {β:Type}(f:Shared->β)(s:SharedT):β:=qL (s.tree.list s.n) λl=>f ⟨⟨l.toArray,s.life⟩,s.gens,s.drawn,s.toks,s.os⟩
def Es {β:Type}(f:Shared->β)(s:SharedT):Et f s=f s.abs:=sI _ _
def Pu {p q:Program}{loose:List Str}{Xt:Shared->Bool}{α:Type}{Yf:Shared->α}{Ya:World->α}{N:Nat}{g0:Bool}{ann:Option Value}{M:Nat}
  (Fb:∀w:World,(fencedOpening treeTable p w N).map (λs=>(s.heap,s.gens,s.drawn,s.toks))=some (boot_heap w.params,Array.mk [],boot_drawn,boot_toks))
  (size:∀w:World,((boot_heap w.params).isNs mainGlobals && (Array.mk []:Array GenState).size == 0,(boot_heap w.params).objs.size,(boot_heap w.params).nsMap mainGlobals "__annotations__")=(true,11,ann))
  (run:∀(w:World)(os:OsState),(EN (stepT (denote treeTable) p w) (stepOk 11 ann) M ⟨BM w.params,11,{},Array.mk [],boot_drawn,boot_toks,os⟩ (topStub p)).map (Et (FI p q loose Xt Yf g0 (boot_heap w.params)))=some (true,openGood q loose,Ya w))
  (le:Nat.ble M N=true):LeftO p q loose Xt Yf Ya N g0:=λw=>by
 obtain⟨⟨h,gs,d,k,os⟩,e,e'⟩:=cg.mp (Fb w);obtain⟨rfl,rfl,rfl,rfl⟩:h=boot_heap w.params/\gs=Array.mk []/\d=boot_drawn/\k=boot_toks:=by simpa using e'
 obtain⟨z1,z2,z3⟩:_/\_/\_:=by simpa only [qU] using size w
 obtain⟨s',r0,l0⟩:=cg.mp (run w os);rw [Es] at l0;obtain⟨l1,l2,l3⟩:_/\_/\_:=by simpa only [FI,qU] using l0
 have r:=Bl r0;have ea:SharedT.abs ⟨BM w.params,11,{},Array.mk [],boot_drawn,boot_toks,os⟩=⟨boot_heap w.params,Array.mk [],boot_drawn,boot_toks,os⟩:=by
  unfold SharedT.abs;rw [Dp]
 rw [ea] at r;have r:=topRun_mono (N - M) _ _ _ _ r;rw [show M+(N - M)=N by have:=Nat.le_of_ble_eq_true le;omega] at r;have t:topFrom treeTable p w N ⟨boot_heap w.params,Array.mk [],boot_drawn,boot_toks,os⟩=some s'.abs:=by
  unfold topFrom;dsimp only;rw [z1,z2,z3,r];show (match staticsOk (importedModules p.main.body) (boot_heap w.params) s'.abs.heap && namesBound p s'.abs.heap && gensDone s'.abs && laidKept (boot_heap w.params) s'.abs.heap with | true=>_ | false=>_)=_
  rw [l1]
 unfold openEnds;rw [e];show (topFrom treeTable p w N _).map _=_;rw [t];exact congrArg some (Prod.ext l2 l3)
end HD
set_option maxHeartbeats 0
namespace HD
open PySem PySem.W L2
def dE (P:Params)(x:Str)(t:Tok)(v:Value):DictEntry:=⟨PyData.keyHash P x,.str x t,v⟩
def top (p:Program) (i:Nat):Stmt:=p.main.body.getD i (.Pass ⟨0,0,0,0⟩)
def jv (p:Program) (i j:Nat):Stmt:=match top p i with
 | .ClassDef _ _ _ body _ _ _ _ _ _ _=>body.getD j (.Pass ⟨0,0,0,0⟩)
 | _=>.Pass ⟨0,0,0,0⟩
def posOf (s:Stmt):Pos:=match s with
 | .FunctionDef _ _ _ _ _ _ _ _ _ p=>p
 | _=>⟨0,0,0,0⟩
def cF (a:Addr)(n q:Str)(i:Nat)(l m:Int)(x y:Addr)(u v s t:Value)(z:Int)(w:Nat):Addr×Obj:=(a,⟨.type "code",none,.fields #[.str n i,.str q (i+1),.str "/claim/cut.py" (i+2),.int l 0,.int m 0,.int 0 0,.int 0 0,.int 3 0,.ref x,.bool true,.int 181 0,.ref y,u,v,s,t,.int z 0,.int l 0,.str "/claim/cut.py" w],#[]⟩)
def fF (a:Addr)(n q:Str)(s:Stmt)(m:Value):Addr×Obj:=(a,⟨.type "function",none,.func (fnOf n q (dD s) (cw s) (av s) .none .none .none m none (.ref (a-1)) .none),#[]⟩)
def dR (P:Params)(x:Str)(t:Tok)(a:Addr):DictEntry:=dE P x t (.ref a)
def m0:Value:=.str "__main__" 164
def m1:Value:=.str "wright.rules" 194
def m2:Value:=.str "wright.deed_trees" 243
def m3:Value:=.str "wright.begin_tables" 292
def m4:Value:=.str "wright.errors" 386
def m5:Value:=.str "wright.loops" 547
def m6:Value:=.str "wright.tree_sizes" 577
def m7:Value:=.str "wright.grammar_faults" 598
def m8:Value:=.str "wright.least_trees" 625
def m9:Value:=.str "wright.grammars" 711
def NF:Value:=.str "wright.trees" 754
def lV:Value:=.str "law_wright_k69_whole_deeds_and_trees" 781
noncomputable def K' (p:Program)(P:Params):Frag:=[
 (2,⟨.none,none,.dict #[] 0,#[]⟩),
 (3,⟨.type "dict",none,.dict #[dE P "__name__" 165 (.str "law_wright_k69_whole_deeds_and_trees" 781),dE P "__doc__" 166 (.none),dE P "__package__" 167 (.none),dE P "__loader__" 168 (.builtin "__main__.__loader__#opaque"),dE P "__spec__" 169 (.none),dR P "__annotations__" 170 6,dR P "__builtins__" 171 4,dE P "__file__" 173 (.str "/claim/cut.py" 172),dE P "__cached__" 174 (.none),dR P "_wall" 193 21,dR P "heads_of" 201 26,dR P "words_in" 207 31,dR P "numbers_by_name" 213 36,dR P "standings_by_part" 225 43,dR P "is_rule_of" 234 50,dR P "is_number_below" 242 57,dR P "tree_of" 250 62,dR P "do_deed" 260 69,dR P "do_step" 269 76,dR P "do_make" 281 83,dR P "is_child" 291 90,dR P "found_empties" 299 95,dR P "first_places" 310 102,dR P "BeginTable" 385 152,dR P "WrightError" 405 166,dR P "NoRules" 421 179,dR P "Twice" 446 198,dR P "Endless" 471 217,dR P "Unmet" 496 236,dR P "Loop" 521 255,dR P "Vast" 546 274,dR P "find_loop" 554 281,dR P "steps_with_like_rows" 560 286,dR P "way_back" 576 293,dR P "least_sizes" 584 298,dR P "greatest_empty_sizes" 591 305,dR P "settled_sizes" 597 310,dE P "MOST_RULES" 601 (.int (60) 600),dR P "refuse_faults" 607 315,dR P "refuse_twice" 618 322,dR P "names_met" 624 327,dR P "least_by_part" 632 332,dR P "rule_size" 638 337,dR P "empty_by_name" 644 342,dR P "LeastTrees" 710 385,dR P "Grammar" 753 414,dR P "row_of" 765 425,dR P "tree_stands" 771 430,dR P "is_top_of" 780 437,dR P "_law_cell_at" 790 444,dR P "_law_names" 796 449,dR P "_law_words" 803 456,dR P "_law_digits" 815 463,dR P "_law_skeleton" 829 470,dR P "_law_more" 844 477,dR P "_law_ended" 850 482,dR P "_law_good" 856 487,dR P "_law_grammar" 870 494,dR P "_law_whole" 877 501,dR P "_law_piled" 891 508,dR P "_law_due" 897 513,dR P "_law_deeds" 906 520,dR P "_law_can" 917 527,dR P "_law_drawn" 923 532,dR P "law" 929 537] 65,#[]⟩),
 (cF 20 "_wall" "_wall" 187 1 1 15 16 .none (.ref 17) (.ref 18) (.ref 19) 191 192),
 (fF 21 "_wall" "_wall" (top p 0) m0),
 (cF 25 "heads_of" "heads_of" 196 5 1 22 23 .none .none .none (.ref 24) 199 200),
 (fF 26 "heads_of" "heads_of" (top p 2) m1),
 (cF 30 "words_in" "words_in" 202 7 1 27 28 .none .none .none (.ref 29) 205 206),
 (fF 31 "words_in" "words_in" (top p 3) m1),
 (cF 35 "numbers_by_name" "numbers_by_name" 208 15 1 32 33 .none .none .none (.ref 34) 211 212),
 (fF 36 "numbers_by_name" "numbers_by_name" (top p 4) m1),
 (cF 42 "standings_by_part" "standings_by_part" 214 20 1 37 38 .none (.ref 39) (.ref 40) (.ref 41) 223 224),
 (fF 43 "standings_by_part" "standings_by_part" (top p 5) m1),
 (cF 49 "is_rule_of" "is_rule_of" 226 26 3 44 45 .none (.ref 46) (.ref 47) (.ref 48) 232 233),
 (fF 50 "is_rule_of" "is_rule_of" (top p 6) m1),
 (cF 56 "is_number_below" "is_number_below" 235 28 2 51 52 .none (.ref 53) (.ref 54) (.ref 55) 240 241),
 (fF 57 "is_number_below" "is_number_below" (top p 7) m1),
 (cF 61 "tree_of" "tree_of" 245 31 2 58 59 .none .none .none (.ref 60) 248 249),
 (fF 62 "tree_of" "tree_of" (top p 9) m2),
 (cF 68 "do_deed" "do_deed" 251 40 4 63 64 .none (.ref 65) (.ref 66) (.ref 67) 258 259),
 (fF 69 "do_deed" "do_deed" (top p 10) m2),
 (cF 75 "do_step" "do_step" 261 46 3 70 71 .none (.ref 72) (.ref 73) (.ref 74) 267 268),
 (fF 76 "do_step" "do_step" (top p 11) m2),
 (cF 82 "do_make" "do_make" 270 51 4 77 78 .none (.ref 79) (.ref 80) (.ref 81) 279 280),
 (fF 83 "do_make" "do_make" (top p 12) m2),
 (cF 89 "is_child" "is_child" 282 61 4 84 85 .none (.ref 86) (.ref 87) (.ref 88) 289 290),
 (fF 90 "is_child" "is_child" (top p 13) m2),
 (cF 94 "found_empties" "found_empties" 294 66 1 91 92 .none .none .none (.ref 93) 297 298),
 (fF 95 "found_empties" "found_empties" (top p 15) m3),
 (cF 101 "first_places" "first_places" 300 77 2 96 97 .none (.ref 98) (.ref 99) (.ref 100) 308 309),
 (fF 102 "first_places" "first_places" (top p 16) m3),
 (cF 113 "__init__" "BeginTable.__init__" 323 86 2 110 111 .none .none .none (.ref 112) 326 327),
 (fF 114 "__init__" "BeginTable.__init__" (jv p 17 0) m3),
 (cF 120 "find_begins" "BeginTable.find_begins" 329 97 3 115 116 .none (.ref 117) (.ref 118) (.ref 119) 338 339),
 (fF 121 "find_begins" "BeginTable.find_begins" (jv p 17 1) m3),
 (cF 127 "words_of_part" "BeginTable.words_of_part" 341 105 2 122 123 .none (.ref 124) (.ref 125) (.ref 126) 346 347),
 (fF 128 "words_of_part" "BeginTable.words_of_part" (jv p 17 2) m3),
 (cF 134 "first_words" "BeginTable.first_words" 349 108 2 129 130 .none (.ref 131) (.ref 132) (.ref 133) 354 355),
 (fF 135 "first_words" "BeginTable.first_words" (jv p 17 3) m3),
 (cF 141 "all_empty" "BeginTable.all_empty" 357 111 2 136 137 .none (.ref 138) (.ref 139) (.ref 140) 362 363),
 (fF 142 "all_empty" "BeginTable.all_empty" (jv p 17 4) m3),
 (cF 148 "words_of_parts" "BeginTable.words_of_parts" 365 114 3 143 144 .none (.ref 145) (.ref 146) (.ref 147) 371 372),
 (fF 149 "words_of_parts" "BeginTable.words_of_parts" (jv p 17 5) m3),
 (151,⟨.type "dict",none,.dict #[dE P "__module__" 318 (.str "wright.begin_tables" 292),dE P "__firstlineno__" 322 (.int (84) 321),dR P "__init__" 328 114,dR P "find_begins" 340 121,dR P "words_of_part" 348 128,dR P "first_words" 356 135,dR P "all_empty" 364 142,dR P "words_of_parts" 373 149,dR P "__static_attributes__" 378 150,dR P "__dict__" 380 153,dR P "__weakref__" 382 154,dE P "__doc__" 383 (.none)] 4,#[]⟩),
 (152,⟨.type "type",none,.cls ⟨"BeginTable",[.type "object"],[.ref 152,.type "object"],151,"BeginTable",true,[],[],false,none,false⟩,#[none,none,some (.str "BeginTable" 311),some (.str "BeginTable" 319),some (.builtin "object.__new__"),some (.bool true)]⟩),
 (153,⟨.type "getset_descriptor",none,.fields #[.str "__dict__" 379,.ref 152,.builtin "function.__dict__",.builtin "function.__dict__#set"],#[]⟩),
 (154,⟨.type "getset_descriptor",none,.fields #[.str "__weakref__" 381,.ref 152,.builtin "ExceptionGroup.__weakref__",.none],#[]⟩),
 (165,⟨.type "dict",none,.dict #[dE P "__module__" 395 (.str "wright.errors" 386),dE P "__firstlineno__" 399 (.int (117) 398),dR P "__static_attributes__" 400 164,dR P "__weakref__" 402 167,dE P "__doc__" 403 (.none)] 3,#[]⟩),
 (166,⟨.type "type",none,.cls ⟨"WrightError",[.type "ValueError"],[.ref 166,.type "ValueError",.type "Exception",.type "BaseException",.type "object"],165,"WrightError",true,[],[.ref 179,.ref 198,.ref 217,.ref 236,.ref 255,.ref 274],false,none,false⟩,#[some (.ref 157),none,some (.str "WrightError" 388),some (.str "WrightError" 396),some (.builtin "ValueError.__new__"),some (.bool true)]⟩),
 (167,⟨.type "getset_descriptor",none,.fields #[.str "__weakref__" 401,.ref 166,.builtin "ExceptionGroup.__weakref__",.none],#[]⟩),
 (178,⟨.type "dict",none,.dict #[dE P "__module__" 413 (.str "wright.errors" 386),dE P "__firstlineno__" 417 (.int (119) 416),dR P "__static_attributes__" 418 177,dE P "__doc__" 419 (.none)] 2,#[]⟩),
 (179,⟨.type "type",none,.cls ⟨"NoRules",[.ref 166],[.ref 179,.ref 166,.type "ValueError",.type "Exception",.type "BaseException",.type "object"],178,"NoRules",true,[],[],false,none,false⟩,#[some (.ref 170),none,some (.str "NoRules" 406),some (.str "NoRules" 414),some (.builtin "ValueError.__new__"),some (.bool true)]⟩),
 (cF 194 "__init__" "Twice.__init__" 434 123 2 189 190 .none (.ref 191) (.ref 192) (.ref 193) 439 440),
 (fF 195 "__init__" "Twice.__init__" (jv p 21 0) m4),
 (197,⟨.type "dict",none,.dict #[dE P "__module__" 429 (.str "wright.errors" 386),dE P "__firstlineno__" 433 (.int (121) 432),dR P "__init__" 441 195,dR P "__static_attributes__" 443 196,dE P "__doc__" 444 (.none)] 2,#[]⟩),
 (198,⟨.type "type",none,.cls ⟨"Twice",[.ref 166],[.ref 198,.ref 166,.type "ValueError",.type "Exception",.type "BaseException",.type "object"],197,"Twice",true,[],[],false,none,false⟩,#[some (.ref 182),none,some (.str "Twice" 422),some (.str "Twice" 430),some (.builtin "ValueError.__new__"),some (.bool true)]⟩),
 (cF 213 "__init__" "Endless.__init__" 459 128 2 208 209 .none (.ref 210) (.ref 211) (.ref 212) 464 465),
 (fF 214 "__init__" "Endless.__init__" (jv p 22 0) m4),
 (216,⟨.type "dict",none,.dict #[dE P "__module__" 454 (.str "wright.errors" 386),dE P "__firstlineno__" 458 (.int (126) 457),dR P "__init__" 466 214,dR P "__static_attributes__" 468 215,dE P "__doc__" 469 (.none)] 2,#[]⟩),
 (217,⟨.type "type",none,.cls ⟨"Endless",[.ref 166],[.ref 217,.ref 166,.type "ValueError",.type "Exception",.type "BaseException",.type "object"],216,"Endless",true,[],[],false,none,false⟩,#[some (.ref 201),none,some (.str "Endless" 447),some (.str "Endless" 455),some (.builtin "ValueError.__new__"),some (.bool true)]⟩),
 (cF 232 "__init__" "Unmet.__init__" 484 133 2 227 228 .none (.ref 229) (.ref 230) (.ref 231) 489 490),
 (fF 233 "__init__" "Unmet.__init__" (jv p 23 0) m4),
 (235,⟨.type "dict",none,.dict #[dE P "__module__" 479 (.str "wright.errors" 386),dE P "__firstlineno__" 483 (.int (131) 482),dR P "__init__" 491 233,dR P "__static_attributes__" 493 234,dE P "__doc__" 494 (.none)] 2,#[]⟩),
 (236,⟨.type "type",none,.cls ⟨"Unmet",[.ref 166],[.ref 236,.ref 166,.type "ValueError",.type "Exception",.type "BaseException",.type "object"],235,"Unmet",true,[],[],false,none,false⟩,#[some (.ref 220),none,some (.str "Unmet" 472),some (.str "Unmet" 480),some (.builtin "ValueError.__new__"),some (.bool true)]⟩),
 (cF 251 "__init__" "Loop.__init__" 509 138 2 246 247 .none (.ref 248) (.ref 249) (.ref 250) 514 515),
 (fF 252 "__init__" "Loop.__init__" (jv p 24 0) m4),
 (254,⟨.type "dict",none,.dict #[dE P "__module__" 504 (.str "wright.errors" 386),dE P "__firstlineno__" 508 (.int (136) 507),dR P "__init__" 516 252,dR P "__static_attributes__" 518 253,dE P "__doc__" 519 (.none)] 2,#[]⟩),
 (255,⟨.type "type",none,.cls ⟨"Loop",[.ref 166],[.ref 255,.ref 166,.type "ValueError",.type "Exception",.type "BaseException",.type "object"],254,"Loop",true,[],[],false,none,false⟩,#[some (.ref 239),none,some (.str "Loop" 497),some (.str "Loop" 505),some (.builtin "ValueError.__new__"),some (.bool true)]⟩),
 (cF 270 "__init__" "Vast.__init__" 534 143 2 265 266 .none (.ref 267) (.ref 268) (.ref 269) 539 540),
 (fF 271 "__init__" "Vast.__init__" (jv p 25 0) m4),
 (273,⟨.type "dict",none,.dict #[dE P "__module__" 529 (.str "wright.errors" 386),dE P "__firstlineno__" 533 (.int (141) 532),dR P "__init__" 541 271,dR P "__static_attributes__" 543 272,dE P "__doc__" 544 (.none)] 2,#[]⟩),
 (274,⟨.type "type",none,.cls ⟨"Vast",[.ref 166],[.ref 274,.ref 166,.type "ValueError",.type "Exception",.type "BaseException",.type "object"],273,"Vast",true,[],[],false,none,false⟩,#[some (.ref 258),none,some (.str "Vast" 522),some (.str "Vast" 530),some (.builtin "ValueError.__new__"),some (.bool true)]⟩),
 (cF 280 "find_loop" "find_loop" 549 147 1 277 278 .none .none .none (.ref 279) 552 553),
 (fF 281 "find_loop" "find_loop" (top p 27) m5),
 (cF 285 "steps_with_like_rows" "steps_with_like_rows" 555 151 1 282 283 .none .none .none (.ref 284) 558 559),
 (fF 286 "steps_with_like_rows" "steps_with_like_rows" (top p 28) m5),
 (cF 292 "way_back" "way_back" 561 160 3 287 288 .none (.ref 289) (.ref 290) (.ref 291) 574 575),
 (fF 293 "way_back" "way_back" (top p 29) m5),
 (cF 297 "least_sizes" "least_sizes" 579 176 1 294 295 .none .none .none (.ref 296) 582 583),
 (fF 298 "least_sizes" "least_sizes" (top p 31) m6),
 (cF 304 "greatest_empty_sizes" "greatest_empty_sizes" 585 178 1 299 300 .none (.ref 301) (.ref 302) (.ref 303) 589 590),
 (fF 305 "greatest_empty_sizes" "greatest_empty_sizes" (top p 32) m6),
 (cF 309 "settled_sizes" "settled_sizes" 592 180 3 306 307 .none .none .none (.ref 308) 595 596),
 (fF 310 "settled_sizes" "settled_sizes" (top p 33) m6),
 (cF 314 "refuse_faults" "refuse_faults" 602 193 2 311 312 .none .none .none (.ref 313) 605 606),
 (fF 315 "refuse_faults" "refuse_faults" (top p 36) m7),
 (cF 321 "refuse_twice" "refuse_twice" 608 212 1 316 317 .none (.ref 318) (.ref 319) (.ref 320) 616 617),
 (fF 322 "refuse_twice" "refuse_twice" (top p 37) m7),
 (cF 326 "names_met" "names_met" 619 219 1 323 324 .none .none .none (.ref 325) 622 623),
 (fF 327 "names_met" "names_met" (top p 38) m7),
 (cF 331 "least_by_part" "least_by_part" 627 229 1 328 329 .none .none .none (.ref 330) 630 631),
 (fF 332 "least_by_part" "least_by_part" (top p 40) m8),
 (cF 336 "rule_size" "rule_size" 633 237 2 333 334 .none .none .none (.ref 335) 636 637),
 (fF 337 "rule_size" "rule_size" (top p 41) m8),
 (cF 341 "empty_by_name" "empty_by_name" 639 239 2 338 339 .none .none .none (.ref 340) 642 643),
 (fF 342 "empty_by_name" "empty_by_name" (top p 42) m8),
 (cF 353 "__init__" "LeastTrees.__init__" 657 246 3 350 351 .none .none .none (.ref 352) 660 661),
 (fF 354 "__init__" "LeastTrees.__init__" (jv p 43 0) m8),
 (cF 360 "least_of" "LeastTrees.least_of" 663 253 2 355 356 .none (.ref 357) (.ref 358) (.ref 359) 668 669),
 (fF 361 "least_of" "LeastTrees.least_of" (jv p 43 1) m8),
 (cF 367 "hollow_of" "LeastTrees.hollow_of" 671 256 2 362 363 .none (.ref 364) (.ref 365) (.ref 366) 676 677),
 (fF 368 "hollow_of" "LeastTrees.hollow_of" (jv p 43 2) m8),
 (cF 374 "begun_place" "LeastTrees.begun_place" 679 259 3 369 370 .none (.ref 371) (.ref 372) (.ref 373) 685 686),
 (fF 375 "begun_place" "LeastTrees.begun_place" (jv p 43 3) m8),
 (cF 381 "begun_of" "LeastTrees.begun_of" 688 262 4 376 377 .none (.ref 378) (.ref 379) (.ref 380) 695 696),
 (fF 382 "begun_of" "LeastTrees.begun_of" (jv p 43 4) m8),
 (384,⟨.type "dict",none,.dict #[dE P "__module__" 652 (.str "wright.least_trees" 625),dE P "__firstlineno__" 656 (.int (244) 655),dR P "__init__" 662 354,dR P "least_of" 670 361,dR P "hollow_of" 678 368,dR P "begun_place" 687 375,dR P "begun_of" 697 382,dR P "__static_attributes__" 703 383,dR P "__dict__" 705 386,dR P "__weakref__" 707 387,dE P "__doc__" 708 (.none)] 4,#[]⟩),
 (385,⟨.type "type",none,.cls ⟨"LeastTrees",[.type "object"],[.ref 385,.type "object"],384,"LeastTrees",true,[],[],false,none,false⟩,#[none,none,some (.str "LeastTrees" 645),some (.str "LeastTrees" 653),some (.builtin "object.__new__"),some (.bool true)]⟩),
 (386,⟨.type "getset_descriptor",none,.fields #[.str "__dict__" 704,.ref 385,.builtin "function.__dict__",.builtin "function.__dict__#set"],#[]⟩),
 (387,⟨.type "getset_descriptor",none,.fields #[.str "__weakref__" 706,.ref 385,.builtin "ExceptionGroup.__weakref__",.none],#[]⟩),
 (397,⟨.type "tuple",none,.seq #[.none] 0,#[]⟩),
 (cF 403 "__init__" "Grammar.__init__" 725 267 3 398 399 .none (.ref 400) (.ref 401) (.ref 402) 731 732),
 (404,⟨.type "function",none,.func (fnOf "__init__" "Grammar.__init__" (dD (jv p 45 0)) (cw (jv p 45 0)) (av (jv p 45 0)) (.ref 397) (.none) (.none) (.str "wright.grammars" 711) (none) (.ref 403) (.none)),#[]⟩),
 (cF 410 "start" "Grammar.start" 734 275 1 405 406 .none (.ref 407) (.ref 408) (.ref 409) 738 739),
 (fF 411 "start" "Grammar.start" (jv p 45 1) m9),
 (413,⟨.type "dict",none,.dict #[dE P "__module__" 720 (.str "wright.grammars" 711),dE P "__firstlineno__" 724 (.int (265) 723),dR P "__init__" 733 404,dR P "start" 740 411,dR P "__static_attributes__" 746 412,dR P "__dict__" 748 415,dR P "__weakref__" 750 416,dE P "__doc__" 751 (.none)] 4,#[]⟩),
 (414,⟨.type "type",none,.cls ⟨"Grammar",[.type "object"],[.ref 414,.type "object"],413,"Grammar",true,[],[],false,none,false⟩,#[none,none,some (.str "Grammar" 713),some (.str "Grammar" 721),some (.builtin "object.__new__"),some (.bool true)]⟩),
 (415,⟨.type "getset_descriptor",none,.fields #[.str "__dict__" 747,.ref 414,.builtin "function.__dict__",.builtin "function.__dict__#set"],#[]⟩),
 (416,⟨.type "getset_descriptor",none,.fields #[.str "__weakref__" 749,.ref 414,.builtin "ExceptionGroup.__weakref__",.none],#[]⟩),
 (cF 424 "row_of" "row_of" 756 278 1 419 420 .none (.ref 421) (.ref 422) (.ref 423) 763 764),
 (fF 425 "row_of" "row_of" (top p 47) NF),
 (cF 429 "tree_stands" "tree_stands" 766 288 3 426 427 .none .none .none (.ref 428) 769 770),
 (fF 430 "tree_stands" "tree_stands" (top p 48) NF),
 (cF 436 "is_top_of" "is_top_of" 772 302 3 431 432 .none (.ref 433) (.ref 434) (.ref 435) 778 779),
 (fF 437 "is_top_of" "is_top_of" (top p 49) NF),
 (cF 443 "_law_cell_at" "_law_cell_at" 783 307 2 438 439 .none (.ref 440) (.ref 441) (.ref 442) 788 789),
 (fF 444 "_law_cell_at" "_law_cell_at" (top p 51) lV),
 (cF 448 "_law_names" "_law_names" 791 311 1 445 446 .none .none .none (.ref 447) 794 795),
 (fF 449 "_law_names" "_law_names" (top p 52) lV),
 (cF 455 "_law_words" "_law_words" 797 314 1 450 451 .none (.ref 452) (.ref 453) (.ref 454) 801 802),
 (fF 456 "_law_words" "_law_words" (top p 53) lV),
 (cF 462 "_law_digits" "_law_digits" 804 316 3 457 458 .none (.ref 459) (.ref 460) (.ref 461) 813 814),
 (fF 463 "_law_digits" "_law_digits" (top p 54) lV),
 (cF 469 "_law_skeleton" "_law_skeleton" 816 327 4 464 465 .none (.ref 466) (.ref 467) (.ref 468) 827 828),
 (fF 470 "_law_skeleton" "_law_skeleton" (top p 55) lV),
 (cF 476 "_law_more" "_law_more" 830 338 5 471 472 .none (.ref 473) (.ref 474) (.ref 475) 842 843),
 (fF 477 "_law_more" "_law_more" (top p 56) lV),
 (cF 481 "_law_ended" "_law_ended" 845 345 2 478 479 .none .none .none (.ref 480) 848 849),
 (fF 482 "_law_ended" "_law_ended" (top p 57) lV),
 (cF 486 "_law_good" "_law_good" 851 354 1 483 484 .none .none .none (.ref 485) 854 855),
 (fF 487 "_law_good" "_law_good" (top p 58) lV),
 (cF 493 "_law_grammar" "_law_grammar" 857 376 2 488 489 .none (.ref 490) (.ref 491) (.ref 492) 868 869),
 (fF 494 "_law_grammar" "_law_grammar" (top p 59) lV),
 (cF 500 "_law_whole" "_law_whole" 871 389 1 495 496 .none (.ref 497) (.ref 498) (.ref 499) 875 876),
 (fF 501 "_law_whole" "_law_whole" (top p 60) lV),
 (cF 507 "_law_piled" "_law_piled" 878 391 4 502 503 .none (.ref 504) (.ref 505) (.ref 506) 889 890),
 (fF 508 "_law_piled" "_law_piled" (top p 61) lV),
 (cF 512 "_law_due" "_law_due" 892 408 2 509 510 .none .none .none (.ref 511) 895 896),
 (fF 513 "_law_due" "_law_due" (top p 62) lV),
 (cF 519 "_law_deeds" "_law_deeds" 898 420 1 514 515 .none (.ref 516) (.ref 517) (.ref 518) 904 905),
 (fF 520 "_law_deeds" "_law_deeds" (top p 63) lV),
 (cF 526 "_law_can" "_law_can" 907 427 3 521 522 .none (.ref 523) (.ref 524) (.ref 525) 915 916),
 (fF 527 "_law_can" "_law_can" (top p 64) lV),
 (cF 531 "_law_drawn" "_law_drawn" 918 433 2 528 529 .none .none .none (.ref 530) 921 922),
 (fF 532 "_law_drawn" "_law_drawn" (top p 65) lV),
 (cF 536 "law" "law" 924 456 1 533 534 .none .none .none (.ref 535) 927 928),
 (fF 537 "law" "law" (top p 66) lV)]
def as:List Addr:=[2,3,20,21,25,26,30,31,35,36,42,43,49,50,56,57,61,62,68,69,75,76,82,83,89,90,94,95,101,102,113,114,120,121,127,128,134,135,141,142,148,149,151,152,153,154,165,166,167,178,179,194,195,197,198,213,214,216,217,232,233,235,236,251,252,254,255,270,271,273,274,280,281,285,286,292,293,297,298,304,305,309,310,314,315,321,322,326,327,331,332,336,337,341,342,353,354,360,361,367,368,374,375,381,382,384,385,386,387,397,403,404,410,411,413,414,415,416,424,425,429,430,436,437,443,444,448,449,455,456,462,463,469,470,476,477,481,482,486,487,493,494,500,501,507,508,512,513,519,520,526,527,531,532,536,537]
def q' (p:Program):Program:=view p [0,2,3,4,5,6,7,9,10,11,12,13,15,16,17,19,20,21,22,23,24,25,27,28,29,31,32,33,35,36,37,38,40,41,42,43,45,47,48,49,51,52,53,54,55,56,57,58,59,60,61,62,63,64,65,66]
abbrev loose:List Str:=[]
abbrev steps:Nat:=4079
abbrev bound:Nat:=9138
abbrev CG:OpenLaw:=PySem.Challenge.rw_wright_k69_whole_deeds_and_trees
noncomputable abbrev K (P:Params):Frag:=K' PySem.Challenge.pw_wright_k69_whole_deeds_and_trees P
theorem Q4 (P:Params):as=(K P).map (·.1):=by kernel_rfl
noncomputable abbrev hook:Hook:=kmHook K as Q4 [329,300,295]
def pre (h:CG.row.wellSaid=true->CG.row.Holds):CG.Holds:=by
 o_law
 exact h (by assumption)
abbrev Xt:Shared->Bool:=λs=>xlAt (q' PySem.Challenge.pw_wright_k69_whole_deeds_and_trees) [] s && recOk (RowW.records (OpenRow.toRowW (OpenLaw.row PySem.Challenge.rw_wright_k69_whole_deeds_and_trees))) s
def run (w:World)(os:OsState):(EN (stepT (denote treeTable) PySem.Challenge.pw_wright_k69_whole_deeds_and_trees w) (stepOk 11 (some (.ref 6))) steps ⟨BM w.params,11,{},Array.mk [],boot_drawn,boot_toks,os⟩ (topStub PySem.Challenge.pw_wright_k69_whole_deeds_and_trees)).map
  (Et (FI PySem.Challenge.pw_wright_k69_whole_deeds_and_trees (q' PySem.Challenge.pw_wright_k69_whole_deeds_and_trees) loose Xt (Hook.obs hook) true (boot_heap w.params)))=some (true,openGood (q' PySem.Challenge.pw_wright_k69_whole_deeds_and_trees) loose,Hook.val hook w):=by
 rw [PySem.W.Fast.te10156331382660048174,PySem.W.Fast.te11892475500146522536,PySem.W.Fast.te14364793385576792824,PySem.W.Fast.te6613529449190102663,PySem.W.Fast.te4721649034863554393]
 kernel_rfl
theorem size (w:World):((boot_heap w.params).isNs mainGlobals && (Array.mk []:Array GenState).size == 0,(boot_heap w.params).objs.size,(boot_heap w.params).nsMap mainGlobals "__annotations__")=(true,11,some (.ref 6)):=by kernel_rfl
def Fb:∀w:World,(fencedOpening treeTable PySem.Challenge.pw_wright_k69_whole_deeds_and_trees w bound).map (λs=>(s.heap,s.gens,s.drawn,s.toks))=some (boot_heap w.params,Array.mk [],boot_drawn,boot_toks) :=
 boot_open (by kernel_rfl) (by decide +kernel) (λs=>by kernel_rfl)
def left:LeftO (OpenRow.toRowW CG.row).prog (q' PySem.Challenge.pw_wright_k69_whole_deeds_and_trees) loose Xt (Hook.obs hook) (Hook.val hook) bound:=Pu Fb size run (by decide +kernel)
def kU:DefRec:={ name := "law",params:=dD (top PySem.Challenge.pw_wright_k69_whole_deeds_and_trees 66),body:=cw (top PySem.Challenge.pw_wright_k69_whole_deeds_and_trees 66),scope:=av (top PySem.Challenge.pw_wright_k69_whole_deeds_and_trees 66),pos:=posOf (top PySem.Challenge.pw_wright_k69_whole_deeds_and_trees 66) }
def ok1:defOf (q' PySem.Challenge.pw_wright_k69_whole_deeds_and_trees) CG.row.name=some (kU,[]):=by kernel_rfl
def ok2:CG.row.prog.theDef CG.row.name=some (kU.params,kU.body,kU.scope):=by kernel_rfl
def ok3:kwWritten? kU.params.kwonlyargs kU.params.kw_defaults=some []:=by kernel_rfl
def ok4:(chainsOk (q' PySem.Challenge.pw_wright_k69_whole_deeds_and_trees) && opensWell CG.row.prog && (frees CG.row.toRowW && CG.row.within.isEmpty))=true:=by kernel_rfl
def ok5:kU.params.defaults=[]:=by kernel_rfl
def hold (h:WalkO (q' PySem.Challenge.pw_wright_k69_whole_deeds_and_trees) loose (XL (q' PySem.Challenge.pw_wright_k69_whole_deeds_and_trees) []) (Hook.says hook) CG.row.toRowW kU [] λf vs=>PySem.call f vs)(hw:CG.row.toRowW.promised):CG.Holds :=
 pre λTp=>holds_open (q:=q' PySem.Challenge.pw_wright_k69_whole_deeds_and_trees) (loose:=loose) (Xt:=Xt) (XP:=XL (q' PySem.Challenge.pw_wright_k69_whole_deeds_and_trees) []) (Yf:=Hook.obs hook) (Ya:=Hook.val hook) (YP:=Hook.says hook) (N:=bound) left (Hook.of hook) (Hook.keeps hook) (λs e=>xl_of s (hX.mp e).1) XL.keeps ok1 ok2 ok3 (λs e=>recFacts_of (hX.mp e).2) rfl Tp ok4 ⟨rfl,rfl,rfl,rfl,rfl,by decide +kernel⟩ hw h
end HD
set_option maxHeartbeats 4000000
namespace L2
open PySem PySem.Spec PyProof.Rows
def Ax {CX:yE}{P:Program}{w:World}{K:a9}{mg:Str->Option Value}{base:Heap}{N:List Str}{qual:Str}{scope:Scope}{f:Addr}{cd:Value}{A:Around}{outer:List Env}{s:Shared}{H:Hp}{E:XK}:(pP CX P w K mg base N qual scope f cd A outer s H E).Cy.K=K:=rfl
def Ux {t:TS}{D:Ends}{σ:St}{H:Hp}(h:let E:=D;t E σ H):t D σ H:=h
def Uv {t u:TS}{D:Ends}{σ:St}{H:Hp}(h:let E:={ D with nx:=u D };t E σ H):K8 t u D σ H:=h
def Pt {t u:TS}{D:Ends}{σ:St}{H:Hp}(h:let E:=D;let F:={ E with nx:=u E };t F σ H):K8 t u D σ H:=h
def Uw {g:TG}{x:V}{σ:St}{H:Hp}{t:TS}{D:Ends}(h:let E:=D;g x σ H λσ2 H2=>t E σ2 H2):g x σ H λσ2 H2=>t D σ2 H2:=h
end L2
local macro_rules | `(tactic| nofun) => `(tactic| (dsimp only [L2.Ax];refine L2.Uv ?_;intro _))
local macro_rules | `(tactic| ac_rfl) => `(tactic| (refine L2.Pt ?_;intro _ _))
local macro_rules | `(tactic| ac_nf0) => `(tactic| (refine L2.Uw ?_;intro _))
local macro_rules | `(tactic| ac_nf) => `(tactic| (refine L2.Ux ?_;intro _))
set_option maxHeartbeats 0
namespace L2
open PySem PySem.Spec PyProof.Rows
section
variable {κ:Type} [DecidableEq κ]
def bA (kvs:List (κ×V))(k:κ):Option V:=(kvs.find? λkv=>decide (kv.1=k)).map (·.2)
def bR (kvs:List (κ×V))(k:κ)(v:V):List (κ×V) :=
 if (kvs.any λkv=>decide (kv.1=k))=true then kvs.map (λkv=>if kv.1=k then (kv.1,v) else kv) else kvs++[(k,v)]
def KD (kvs:List (κ×V))(k:κ):List (κ×V):=kvs.filter λkv=>decide (kv.1≠k)
def eV {p:κ×V}{r:List (κ×V)}{k:κ}(e:p.1=k):bA (p::r) k=some p.2:=by simp [bA,oP,e]
def eX {p:κ×V}{r:List (κ×V)}{k:κ}(e:¬p.1=k):bA (p::r) k=bA r k:=by simp [bA,oP,e]
theorem jn (k:κ):∀kvs:List (κ×V),(kvs.any λkv=>decide (kv.1=k))=(bA kvs k).isSome
 | []=>rfl
 | p::r=>by
  rw [qT];by_cases e:p.1=k
  .simp only [eV e,bV e,Bool.true_or,Option.isSome_some]
  rw [eX e,di e,Bool.false_or];exact jn k r
theorem wR (k j:κ)(y:V):∀kvs:List (κ×V),bA (kvs.map λkv=>if kv.1=k then (kv.1,y) else kv) j=(bA kvs j).map λx=>if j=k then y else x
 | []=>rfl
 | p::r=>by
  have ih:=wR k j y r;rw [cq];by_cases h:p.1=k
  .rw [ax h];by_cases e:p.1=j
   .rw [eV (p:=(p.1,y)) e,eV e,qX,ax (e.symm.trans h)]
   rw [eX (p:=(p.1,y)) e,eX e,ih]
  rw [az h];by_cases e:p.1=j
  .rw [eV (p:=p) e,eV e,qX,az (λz=>h (e.trans z))]
  rw [eX (p:=p) e,eX e,ih]
theorem ua (k j:κ)(y:V):∀kvs:List (κ×V),bA kvs k=none->bA (kvs++[(k,y)]) j=if j=k then some y else bA kvs j
 | [],_=>by
  by_cases e:k=j
  .rw [ax e.symm];exact eV (p:=(k,y)) e
  rw [az (λz=>e z.symm)];exact eX (p:=(k,y)) e
 | p::r,hn=>by
  rw [List.cons_append];have hk:¬p.1=k:=λz=>by rw [eV z] at hn;cases hn
  rw [eX hk] at hn;have ih:=ua k j y r hn;by_cases e:p.1=j
  .rw [eV e,eV e,az (λz=>hk (e.trans z))]
  rw [eX e,eX e,ih]
def wQ (kvs:List (κ×V))(k j:κ)(y:V):bA (bR kvs k y) j=if j=k then some y else bA kvs j:=by
 unfold bR;by_cases a:(kvs.any λkv=>decide (kv.1=k))=true
 .rw [ax a,wR];rw [jn] at a;by_cases e:j=k
  .obtain⟨x,hx⟩:=mW.mp a;rw [ax e,e,hx,qX,ax rfl]
  rw [az e];cases bA kvs j with
  | none=>rfl
  | some x=>rw [qX,az e]
 rw [az a];refine ua k j y kvs ?_;rw [jn] at a;cases q:bA kvs k with
 | none=>rfl
 | some x=>rw [q] at a;exact(a rfl).elim
def ft (kvs:List (κ×V))(k:κ)(v:V):(bR kvs k v).length<=kvs.length+1:=by
 unfold bR
 split
 .rw [au];omega
 rw [bL,dM,iU];omega
def xn {kvs:List (κ×V)}{k:κ}(v:V)(h:bA kvs k=none):bR kvs k v=kvs++[(k,v)]:=by
 unfold bR;rw [jn,h];exact az (by decide)
def jS.jw {o:Option V}{u:Option Value}(r:jS o u):o.isSome=u.isSome:=by
 cases o with
 | none=>cases u with
  | none=>rfl
  | some _=>exact(show False from r).elim
 | some _=>cases u with
  | none=>exact(show False from r).elim
  | some _=>rfl
theorem jS.getD {o:Option V}{u:Option Value}{d:V}{d':Value}(r:jS o u)(rd:RelV d d'):RelV (o.getD d) (u.getD d'):=by
 cases o with
 | none=>cases u with
  | none=>exact rd
  | some _=>exact(show False from r).elim
 | some _=>cases u with
  | none=>exact(show False from r).elim
  | some _=>exact r
def KV.val {kvs:List (κ×V)}{vs:List (κ×Value)}(r:KV kvs vs)(k:κ):jS (bA kvs k) (valueAt vs k):=by
 unfold KV at r
 induction r with
 | nil=>exact True.intro
 | @cons p q ps qs h t ih =>
  obtain⟨h1,h2⟩:=h;by_cases e:p.1=k
  .have e':q.1=k:=h1.symm.trans e;have b:valueAt (q::qs) k=some q.2:=by simp [valueAt,oP,e']
   rw [eV e,b];exact h2
  have e':¬q.1=k:=λz=>e (h1.trans z);have b:valueAt (q::qs) k=valueAt qs k:=by simp [valueAt,oP,e']
  rw [eX e,b];exact ih
theorem KV.any {kvs:List (κ×V)}{vs:List (κ×Value)}(r:KV kvs vs)(k:κ):(kvs.any λkv=>decide (kv.1=k))=vs.any λkv=>decide (kv.1=k):=by
 unfold KV at r
 induction r with
 | nil=>rfl
 | cons h t ih=>rw [qT,qT,ih,h.1]
def KV.Ly {kvs:List (κ×V)}{vs:List (κ×Value)}(r:KV kvs vs)(k:κ){y:V}{u:Value}(ry:RelV y u) :
  KV (kvs.map λkv=>if kv.1=k then (kv.1,y) else kv) (vs.map λkv=>if kv.1=k then (kv.1,u) else kv):=by
 unfold KV at r ⊢
 induction r with
 | nil=>exact .nil
 | @cons p q ps qs h t ih =>
  rw [cq,cq];refine .cons ?_ ih;obtain⟨h1,h2⟩:=h;by_cases e:p.1=k
  .rw [ax e,ax (h1.symm.trans e)];exact⟨h1,ry⟩
  rw [az e,az (λz=>e (h1.trans z))];exact⟨h1,h2⟩
def KV.put {kvs:List (κ×V)}{vs:List (κ×Value)}(r:KV kvs vs)(k:κ){y:V}{u:Value}(ry:RelV y u):KV (bR kvs k y) (stored vs k u):=by
 unfold bR stored;rw [r.any k];by_cases e:(vs.any λkv=>decide (kv.1=k))=true
 .rw [ax e,ax e];exact r.Ly k ry
 rw [az e,az e];exact gQ r ⟨rfl,ry⟩
def KV.drop {kvs:List (κ×V)}{vs:List (κ×Value)}(r:KV kvs vs)(k:κ):KV (KD kvs k) (without vs k):=by
 unfold KV at r ⊢;unfold KD without
 induction r with
 | nil=>exact .nil
 | @cons p q ps qs h t ih =>
  obtain⟨h1,h2⟩:=h;rw [uV,uV];by_cases e:p.1=k
  .have a:¬decide (p.1≠k)=true:=by simp [e]
   have b:¬decide (q.1≠k)=true:=by simp [h1.symm.trans e]
   rw [az a,az b];exact ih
  have e':¬q.1=k:=λz=>e (h1.trans z);have a:decide (p.1≠k)=true:=by simp [e]
  have b:decide (q.1≠k)=true:=by simp [e']
  rw [ax a,ax b];exact .cons ⟨h1,h2⟩ ih
def KV.keys {kvs:List (κ×V)}{vs:List (κ×Value)}(r:KV kvs vs):kvs.map (·.1)=vs.map (·.1):=by
 unfold KV at r
 induction r with
 | nil=>rfl
 | cons h t ih=>rw [cq,cq,ih,h.1]
theorem KV.length {kvs:List (κ×V)}{vs:List (κ×Value)}(r:KV kvs vs):kvs.length=vs.length:=aY r
end
def lX {P:Program}{w:World}{k:aS}{u:Value}(r:RelV (kV k) u):(bj P w).is k u=true:=by
 cases k with
 | inl i=>obtain⟨t,e⟩:=(show ∃t,u=Value.int i t from r);subst e;exact xF P w i t
 | inr x=>obtain⟨t,e⟩:=(show ∃t,u=Value.str x t from r);subst e;exact xE P w x t
theorem uw {P:Program}{w:World}:∀{ks:List aS}{us:List Value},a_ (ks.map kV) us->ItemsAre (bj P w) ks us
 | [],_,r=>by rw [jF] at r;cases r;exact .nil
 | k::ks,_,r=>by
  rw [cq] at r;cases r with
  | cons h t=>exact .cons (lX h) (uw t)
abbrev KT (H:Hp):List (List aS×V)->List (List aS×Addr×Value)->Prop:=Paired λp q=>p.1=q.1/\H q.2.1=some (.tup (p.1.map kV))/\RelV p.2 q.2.2
def KT.val {H:Hp}{kvs:List (List aS×V)}{xs:List (List aS×Addr×Value)}(r:KT H kvs xs)(k:List aS):jS (bA kvs k) ((atKey xs k).map (·.2)):=by
 induction r with
 | nil=>exact True.intro
 | @cons p q ps qs h t ih =>
  obtain⟨h1,_,h2⟩:=h;by_cases e:p.1=k
  .have e':q.1=k:=h1.symm.trans e;have b:atKey (q::qs) k=some q.2:=by simp [atKey,oP,e']
   rw [eV e,b];exact h2
  have e':¬q.1=k:=λz=>e (h1.trans z);have b:atKey (q::qs) k=atKey qs k:=by simp [atKey,oP,e']
  rw [eX e,b];exact ih
def KT.Ly {H:Hp}{kvs:List (List aS×V)}{xs:List (List aS×Addr×Value)}(r:KT H kvs xs)(k:List aS){y:V}{u:Value}(ry:RelV y u) :
  KT H (kvs.map λkv=>if kv.1=k then (kv.1,y) else kv) (xs.map (putAt k u)):=by
 induction r with
 | nil=>exact .nil
 | @cons p q ps qs h t ih =>
  rw [cq,cq];refine .cons ?_ ih;obtain⟨h1,h2,h3⟩:=h;unfold putAt;by_cases e:p.1=k
  .rw [ax e,ax (h1.symm.trans e)];exact⟨h1,h2,ry⟩
  rw [az e,az (λz=>e (h1.trans z))];exact⟨h1,h2,h3⟩
def KT.put {H:Hp}{kvs:List (List aS×V)}{xs:List (List aS×Addr×Value)}(r:KT H kvs xs)(k:List aS){b:Addr}{y:V}{u:Value}(hb:H b=some (.tup (k.map kV)))(ry:RelV y u) :
  KT H (bR kvs k y) (storedH xs k b u):=by
 have e:(kvs.any λkv=>decide (kv.1=k))=(atKey xs k).isSome:=by
  rw [jn,(r.val k).jw,oW]
 unfold bR storedH;rw [e];by_cases q:(atKey xs k).isSome=true
 .rw [ax q,ax q];exact r.Ly k ry
 rw [az q,az q];exact gQ r ⟨rfl,hb,ry⟩
def KT.keeps {H H':Hp}{kvs:List (List aS×V)}{xs:List (List aS×Addr×Value)}(r:KT H kvs xs)(ht:∀b ys,H b=some (.tup ys)->H' b=some (.tup ys)):KT H' kvs xs :=
 Paired.dI r λ_ _ z=>⟨z.1,ht _ _ z.2.1,z.2.2⟩
section
variable {P:Program}{w:World}{H:Hp}{h:Heap}{a:Addr}
def JR {u:HO}(ok:l7 P w H h)(e:Rd H a u):cE P w H h a u:=e.ok ok
def ow {kvs:List (aS×V)}(ok:l7 P w H h)(e:Rd H a (.dK kvs)):kvs.length<=sizeLine/\(a == sysModules)=false/\∃vs,KV kvs vs/\h.DictOf (bj P w) a vs :=
 show cE P w H h a (.dK kvs) from JR ok e
def xU {kvs:List (aS×V)}(ok:l7 P w H h)(e:H a=some (.dK kvs)):kvs.length<=sizeLine/\(a == sysModules)=false/\∃vs,KV kvs vs/\h.DictOf (bj P w) a vs:=ow ok (.inl e)
def mD {ks:List aS}(ok:l7 P w H h)(e:H a=some (.tup (ks.map kV))):(tupleKind (bj P w)).is h ks a:=by
 obtain⟨_,aU,r,o,h1,h2,n,h3⟩:=(show cE P w H h a (.tup (ks.map kV)) from ok a _ e);exact⟨o,aU.toArray,n,h1,h2,h3,by simpa using uw r⟩
def sQ {kvs:List (List aS×V)}(ok:l7 P w H h)(e:Rd H a (.dT kvs)):kvs.length<=sizeLine/\(a == sysModules)=false /\
  ∃xs,KT H kvs xs/\h.DictOfH (tupleKind (bj P w)) a xs:=by
 obtain⟨z,y,xs,r,o,es,ep,h1,h2,h3,h4,h5⟩:=(show cE P w H h a (.dT kvs) from JR ok e);refine⟨z,y,xs,r,o,es,ep,h1,h2,h3,h4,λx hx=>?_,h5⟩;have all:∀{l:List (List aS×V)}{m:List (List aS×Addr×Value)},KT H l m->∀x∈m,(tupleKind (bj P w)).is h x.1 x.2.1:=by
  intro l m q
  induction q with
  | nil=>intro x hx;exact nomatch hx
  | @cons p q ps qs hq t ih =>
   intro x hx;rcases cz.mp hx with e | hx
   .subst e;exact mD ok (by rw [<-hq.1];exact hq.2.1)
   exact ih x hx
 exact all r x hx
def QT {kvs:List (List aS×V)}(ok:l7 P w H h)(e:H a=some (.dT kvs)):kvs.length<=sizeLine/\(a == sysModules)=false /\
  ∃xs,KT H kvs xs/\h.DictOfH (tupleKind (bj P w)) a xs:=sQ ok (.inl e)
end
def cy (H:Hp)(a:Addr)(y:V)(r:Option V):Prop :=
 (∃kvs k,Rd H a (.dK kvs)/\y=kV k/\r=bA kvs k)\/∃kvs k b,Rd H a (.dT kvs)/\y=.ref b/\H b=some (.tup (k.map kV))/\r=bA kvs k
def pU (H:Hp)(a:Addr)(y v:V)(H':Hp):Prop :=
 (∃kvs k,H a=some (.dK kvs)/\y=kV k/\kvs.length < sizeLine/\H'=upd H a (.dK (bR kvs k v))) \/
 ∃kvs k b,H a=some (.dT kvs)/\y=.ref b/\H b=some (.tup (k.map kV))/\kvs.length < sizeLine/\H'=upd H a (.dT (bR kvs k v))
theorem cy.k {H:Hp}{a:Addr}{kvs:List (aS×V)}{k:aS}(e:H a=some (.dK kvs)):cy H a (kV k) (bA kvs k):=.inl ⟨kvs,k,.inl e,rfl,rfl⟩
def cy.t {H:Hp}{a b:Addr}{kvs:List (List aS×V)}{k:List aS}(e:H a=some (.dT kvs))(eb:H b=some (.tup (k.map kV))):cy H a (.ref b) (bA kvs k):=.inr ⟨kvs,k,b,.inl e,rfl,eb,rfl⟩
theorem pU.k {H:Hp}{a:Addr}{kvs:List (aS×V)}{k:aS}{v:V}(e:H a=some (.dK kvs))(hl:kvs.length < sizeLine):pU H a (kV k) v (upd H a (.dK (bR kvs k v))):=.inl ⟨kvs,k,e,rfl,hl,rfl⟩
def pU.t {H:Hp}{a b:Addr}{kvs:List (List aS×V)}{k:List aS}{v:V}(e:H a=some (.dT kvs))(eb:H b=some (.tup (k.map kV)))(hl:kvs.length < sizeLine) :
  pU H a (.ref b) v (upd H a (.dT (bR kvs k v))):=.inr ⟨kvs,k,b,e,rfl,eb,hl,rfl⟩
section
variable {X:Cx}{ag:List (Addr×Obj)}{σ:St}{H:Hp}{s:Shared}{a:Addr}{y v:V}{u r:Value}{o:Option V}{A:Around}{E:Value->Shared->Prop}
def Inv.big (I:Inv X ag σ H s):sysModules < s.heap.objs.size:=by
 have h:mainGlobals < s.heap.objs.size:=(I.mod.glob.keeps I.bk).lt;exact md (by decide) h
def Df {Q:Value->Shared->Prop}(hu:A.units+1 < cLine)(I:Inv X ag σ H s)(g:cy H a y (some v))(ry:RelV y u)(h:∀w' s',Inv X ag σ H s'->RelV v w'->Q w' s') :
  wpAny (model X.prog X.w) A (getItem (.ref a) u) Q E s:=by
 rcases g with ⟨kvs,k,e,ey,l⟩ | ⟨kvs,k,b,e,ey,eb,l⟩
 .subst ey;obtain⟨z,hd,vs,rel,dd⟩:=ow I.b0 e;obtain⟨w',hw,zw⟩:=jS.some_of (v:=v) (o:=valueAt vs k) (by rw [l];exact rel.val k);exact wpAny_getItem_of (lX ry) dd.mapOf hw (h w' _ (I.tok _) zw)
 subst ey;cases (show u=Value.ref b from ry);obtain⟨z,hd,xs,rel,dd⟩:=sQ I.b0 e;obtain⟨w',hw,zw⟩:=jS.some_of (v:=v) (o:=(atKey xs k).map (·.2)) (by rw [l];exact rel.val k);obtain⟨p,hp,oB⟩:=cg.mp hw;refine wpAny_getItem_heap (oU hu) (mD I.b0 eb) dd hp ?_;rw [oB];exact h w' _ (I.tok _) zw
def Ws {Q:Value->Shared->Prop}(hu:A.units+1 < cLine)(I:Inv X ag σ H s)(g:cy H a y o)(ry:RelV y u)(h:∀s',Inv X ag σ H s'->Q (.bool o.isSome) s') :
  wpAny (model X.prog X.w) A (compareOp .In u (.ref a)) Q E s:=by
 rcases g with ⟨kvs,k,e,ey,l⟩ | ⟨kvs,k,b,e,ey,eb,l⟩
 .subst ey;obtain⟨z,hd,vs,rel,dd⟩:=ow I.b0 e;refine wpAny_in_of (lX ry) hd dd.mapOf ?_;rw [<-(rel.val k).jw,<-l];exact h _ (I.tok _)
 subst ey;cases (show u=Value.ref b from ry);obtain⟨z,hd,xs,rel,dd⟩:=sQ I.b0 e;refine wpAny_in_heap (oU hu) (mD I.b0 eb) hd dd ?_;have q:=(rel.val k).jw;rw [oW] at q;rw [<-q,<-l];exact h _ (I.tok _)
def Jn {Q:Value->Shared->Prop}(hu:A.units+1 < cLine)(I:Inv X ag σ H s)(g:cy H a y o)(ry:RelV y u)(h:∀s',Inv X ag σ H s'->Q (.bool (!o.isSome)) s') :
  wpAny (model X.prog X.w) A (compareOp .NotIn u (.ref a)) Q E s:=by
 rcases g with ⟨kvs,k,e,ey,l⟩ | ⟨kvs,k,b,e,ey,eb,l⟩
 .subst ey;obtain⟨z,hd,vs,rel,dd⟩:=ow I.b0 e;refine wpAny_notIn_of (lX ry) hd dd.mapOf ?_;rw [<-(rel.val k).jw,<-l];exact h _ (I.tok _)
 subst ey;cases (show u=Value.ref b from ry);obtain⟨z,hd,xs,rel,dd⟩:=sQ I.b0 e;refine wpAny_notIn_heap (oU hu) (mD I.b0 eb) hd dd ?_;have q:=(rel.val k).jw;rw [oW] at q;rw [<-q,<-l];exact h _ (I.tok _)
def qO {h':Heap}{t':Nat}{ob:HO}(I:Inv X ag σ H s)(mu:Q9 (H a))(hs:Heap.SameBut a s.heap h')(he:∃q,h'.get? a=some q)(new:cE X.prog X.w (upd H a ob) h' a ob) :
  Inv X ag σ (upd H a ob) { s with heap:=h',toks:=t' } :=
 I.write (x:=a) (e:=a) mu (.inl rfl) (λb q hb z=>(hs.2 b hb).trans z) he new
def sR {P:Program}{w:World}{H':Hp}{h':Heap}{kvs:List (aS×V)}{vs:List (aS×Value)}(z:kvs.length<=sizeLine)(hd:(a == sysModules)=false)(rel:KV kvs vs)(dd:h'.DictOf (bj P w) a vs) :
  cE P w H' h' a (.dK kvs):=⟨z,hd,vs,rel,dd⟩
def De {H':Hp}{Q:Unit->Shared->Prop}(hu:A.units+1 < cLine)(I:Inv X ag σ H s)(g:pU H a y v H')(ry:RelV y u)(rv:RelV v r)(h:∀s',Inv X ag σ H' s'->Q () s') :
  wpAny (model X.prog X.w) A (setItem (.ref a) u r) Q E s:=by
 rcases g with ⟨kvs,k,e,ey,l,eH⟩ | ⟨kvs,k,b,e,ey,eb,l,eH⟩
 .subst ey eH;obtain⟨z,hd,vs,rel,dd⟩:=xU I.b0 e;have hz:vs.length<=sizeLine:=by rw [<-rel.length];exact z
  have hl:(bR kvs k v).length<=sizeLine:=by have:=ft kvs k v;omega
  refine wpAny_setItem_pairs (hsz:=hz) (lX ry) dd λh' HK hs=>h _ ?_;have he:∃q,h'.get? a=some q:=let ⟨q,_,_,hq,_⟩:=HK;⟨q,hq⟩;exact qO I (by rw [e];exact True.intro) hs he (sR hl hd (rel.put k rv) HK)
 subst ey eH;cases (show u=Value.ref b from ry);obtain⟨z,hd,xs,rel,dd⟩:=QT I.b0 e;have hz:xs.length<=sizeLine:=by rw [<-aY rel];exact z
 have hl:(bR kvs k v).length<=sizeLine:=by have:=ft kvs k v;omega
 refine wpAny_setItem_heap (hsz:=hz) (oU hu) (mD I.b0 eb) dd λh' HK hs=>h _ ?_;obtain⟨q,es,ep,hq,h2,h3,h4,_,h5⟩:=HK;refine qO I (by rw [e];exact True.intro) hs ⟨q,hq⟩ ⟨hl,hd,_,(rel.put k eb rv).keeps λc ys ec=>?_,q,es,ep,hq,h2,h3,h4,h5⟩;rw [aj (Pj ec e (λz=>nomatch z))];exact ec
end
section
variable {X:Cx}{ag:List (Addr×Obj)}{σ:St}{H:Hp}{s:Shared}{a:Addr}{kvs:List (aS×V)}{k:aS}{u:Value}{A:Around}{E:Value->Shared->Prop}
def QW {Q:Value->Shared->Prop}(I:Inv X ag σ H s)(e:Rd H a (.dK kvs))(h:∀t s',Inv X ag σ H s'->Q (.int kvs.length t) s'):wpAny (model X.prog X.w) A (call (.builtin "len") [.ref a]) Q E s:=by
 obtain⟨z,hd,vs,rel,dd⟩:=ow I.b0 e;refine call_len_dict hd dd (by rw [<-rel.length];rw [sizeLine_eq] at z;omega) ?_;rw [<-rel.length];exact h _ _ (I.tok _)
end
def Q8 (i:Expr):Prop:=∀ov iv,subscripted i false ov iv=operate [ov,iv] (getItem ov iv)
def AY {prog:Program}{w:World}{A:Around}{E:Value->Shared->Prop}{s:Shared}{env:Env}{value slice:Expr}{pos:Pos}{T id:String}{Q:Value->Shared->Prop}
  (hl:typeLookup (.type T) "__getitem__"=pure (some (.builtin id)))(hs:Q8 slice)
  (h:wpAny (model prog w) A (eval value env) (λo s₁=>wpAny (model prog w) A (eval slice env) (λi s₂=>s₂.TypeIs o T/\wpAny (model prog w) A (getItem o i) Q E s₂) E s₁) E s) :
  wpAny (model prog w) A (eval (.Subscript value slice pos) env) Q E s:=by
 refine Subscript_ (dG h (λo s₁ h₁=>dG h₁ (λi s₂ h₂=>?_) λ_ _ x=>x) λ_ _ x=>x);obtain⟨hT,h₂⟩:=h₂;unfold subscriptTail;refine ar ?_;rw [getitemInPython_of_ne hT.not_modules];refine ar (wpAny_specialOf hT hl ?_);have fin:wpAny (model prog w) A (subscripted slice false o i) (λr s₃=>wpAny (model prog w) A (letTemporaryGo value o r >>= λ_=>pure r) Q E s₃) E s₂:=by
  rw [hs o i];exact wpAny_operating (dG h₂ (λr s₃ h₃=>ar (wpAny_letTemporaryGo (aR h₃))) λ_ _ x=>x)
 first
  | exact aR (ar fin)
  | exact ar (aR (ar fin))
  | exact ar fin
def xW {X:Cx}{ag:List (Addr×Obj)}{σ:St}{H:Hp}{s:Shared}{a:Addr}{y:V}{o:Option V}(I:Inv X ag σ H s)(g:cy H a y o):s.TypeIs (.ref a) "dict" := by
 rcases g with ⟨kvs,k,e,_,_⟩ | ⟨kvs,k,b,e,_,_,_⟩
 .obtain⟨_,_,vs,_,dd⟩:=ow I.b0 e;exact dd.typeIs
 obtain⟨_,_,xs,_,dd⟩:=sQ I.b0 e;exact dd.typeIs
def AS (td ty:TE):TE:=λσ H Q=>td σ H λx H1=>ty σ H1 λy H2=>∃a v,x=.ref a/\cy H2 a y (some v)/\Q v H2
def OK (ty td:TE):TE:=λσ H Q=>ty σ H λy H1=>td σ H1 λx H2=>∃a o,x=.ref a/\cy H2 a y o/\Q (.bl o.isSome) H2
def AR (ty td:TE):TE:=λσ H Q=>ty σ H λy H1=>td σ H1 λx H2=>∃a o,x=.ref a/\cy H2 a y o/\Q (.bl (!o.isSome)) H2
def OX (td ty tv:TE):TS:=λD σ H=>tv σ H λv H1=>td σ H1 λx H2=>ty σ H2 λy H3=>∃a H4,x=.ref a/\pU H3 a y v H4/\D.nx σ H4
section
variable {X:Cx}{o i e value:Expr}{pos pos' vm:Pos}{td ty tv:TE}
def fJ (hu:X.A.units+1 < cLine)(ho:PE X o td)(hi:PE X i ty)(hs:Q8 i):PE X (.Subscript o i pos) (AS td ty):=by
 intro ag s σ H Q I h;refine AY PySem.F.slot_dict_getitem.lookup hs (cI (ho ag s σ H _ I h) λu s1 ⟨x,H1,I1,rx,q1⟩=>cI (hi ag s1 σ H1 _ I1 q1) λiv s2 ⟨y,H2,I2,ry,a,v,ex,g,q2⟩=>?_);subst ex;obtain rfl:u=Value.ref a:=rx;exact⟨xW I2 g,Df hu I2 g ry λw' s3 I3 zw=>⟨v,H2,I3,zw,q2⟩⟩
def jM (hu:X.A.units+1 < cLine)(hi:PE X i ty)(ho:PE X o td):PC X .In i o (OK ty td):=by
 intro ag s σ H Q I h;refine cI (hi ag s σ H _ I h) λiv s1 ⟨y,H1,I1,ry,q1⟩=>cI (ho ag s1 σ H1 _ I1 q1) λu s2 ⟨x,H2,I2,rx,a,ov,ex,g,q2⟩=>?_;subst ex;obtain rfl:u=Value.ref a:=rx;exact Ws hu I2 g ry λs3 I3=>⟨.bl ov.isSome,H2,I3,rfl,q2⟩
def dY (hu:X.A.units+1 < cLine)(hi:PE X i ty)(ho:PE X o td):PC X .NotIn i o (AR ty td):=by
 intro ag s σ H Q I h;refine cI (hi ag s σ H _ I h) λiv s1 ⟨y,H1,I1,ry,q1⟩=>cI (ho ag s1 σ H1 _ I1 q1) λu s2 ⟨x,H2,I2,rx,a,ov,ex,g,q2⟩=>?_;subst ex;obtain rfl:u=Value.ref a:=rx;exact Jn hu I2 g ry λs3 I3=>⟨.bl (!ov.isSome),H2,I3,rfl,q2⟩
def iZ (hu:X.A.units+1 < cLine)(ho:PE X o td)(hi:PE X i ty)(hv:PE X value tv)(hs:swapsWith value (some (.Subscript o i pos')) pos.line X.env=pure false) :
  PS X (.Assign [.Subscript o i pos'] value pos) (OX td ty tv):=by
 intro ag s σ H D I h;refine wpAny_Assign_Subscript (cI (hv ag s σ H _ I h) λr s1 ⟨v,H1,I1,rv,q1⟩=>cI (ho ag s1 σ H1 _ I1 q1) λu s2 ⟨x,H2,I2,rx,q2⟩=>cI (hi ag s2 σ H2 _ I2 q2) λiv s3 ⟨y,H3,I3,ry,a,H4,ex,g,q3⟩=>?_) hs;subst ex;obtain rfl:u=Value.ref a:=rx;exact De hu I3 g ry rv λs4 I4=>⟨σ,H4,I4,q3⟩
end
def xV {P:Program}{w:World}{H:Hp}(h:Heap)(hb:sysModules < h.objs.size):cE P w H (h.push { cls:=.type "dict",data:=.dict #[] }) h.objs.size (.dK []) :=
 ⟨gA _,j4.mpr (cO (bM hb)),[],.nil,Heap.DictOf.new h⟩
def Ed:TE:=λ_ H Q=>∀p,H p=none->Q (.ref p) (upd H p (.dK []))
section
variable {X:Cx}{pos:Pos}
def ig:PE X (.Dict [] [] pos) Ed:=λag s σ H Q I h =>
 wpAny_Dict_empty ⟨.ref s.heap.objs.size,_,I.laid (a:=s.heap.objs.size) (o:=.dK []) (t':=s.toks) (λ_ _ q=>bI _ q) (aH _) (xV s.heap I.big),rfl,h _ (I.b0.fresh (aH _))⟩
end
def yS:List (TE×TE)->St->Hp->(List (V×V)->Hp->Prop)->Prop
 | [],_,H,Q=>Q [] H
 | (tk,tv)::r,σ,H,Q=>tk σ H λx H1=>tv σ H1 λy H2=>yS r σ H2 λps H3=>Q ((x,y)::ps) H3
abbrev VV:List (V×V)->List (Value×Value)->Prop:=Paired λp q=>RelV p.1 q.1/\RelV p.2 q.2
def Ss (X:Cx)(pos:Pos)(keys:List (Option Expr))(values:List Expr)(HX:List (TE×TE)):Prop :=
 ∀(ag:List (Addr×Obj))(s:Shared)(σ:St)(H:Hp)(Q:List (V×V)->Hp->Prop),Inv X ag σ H s->yS HX σ H Q ->
  wpAny (model X.prog X.w) X.A (evalPairs (pairTrees keys values X.env pos)) (λvs s'=>∃ps H',Inv X ag σ H' s'/\VV ps vs/\Q ps H') X.xe s
def Ir {X:Cx}{pos:Pos}:Ss X pos [] [] []:=λag s σ H Q I h=>pairTrees_nil_walk ⟨[],H,I,.nil,h⟩
def EY {X:Cx}{pos:Pos}{k v:Expr}{ks:List (Option Expr)}{vs:List Expr}{tk tv:TE}{HX:List (TE×TE)}(hk:PE X k tk)(hv:PE X v tv)(hr:Ss X pos ks vs HX) :
  Ss X pos (some k::ks) (v::vs) ((tk,tv)::HX):=λag s σ H Q I h =>
 pairTrees_cons_walk (cI (hk ag s σ H _ I h) λu s1 ⟨x,H1,I1,rx,q1⟩=>cI (hv ag s1 σ H1 _ I1 q1) λw2 s2 ⟨y,H2,I2,ry,q2⟩ =>
  cI (hr ag s2 σ H2 _ I2 q2) λws s3 ⟨ps,H3,I3,rel,q3⟩=>⟨(x,y)::ps,H3,I3,.cons ⟨rx,ry⟩ rel,q3⟩)
def mv (kvs more:List (aS×V)):List (aS×V):=more.foldl (λbz kv=>bR bz kv.1 kv.2) kvs
def KV.merge:∀{more:List (aS×V)}{rs:List (aS×Value)}{kvs:List (aS×V)}{vs:List (aS×Value)},KV more rs->KV kvs vs->KV (mv kvs more) (merged vs rs):=by
 intro more rs kvs vs r;unfold KV at r
 induction r generalizing kvs vs with
 | nil=>intro q;exact q
 | @cons p q ps qs h t ih =>
  intro r0;have e:KV (bR kvs p.1 p.2) (stored vs q.1 q.2):=by
   have:=r0.put p.1 h.2;rw [<-h.1];exact this
  exact ih e
theorem lW:∀(more kvs:List (aS×V)),(mv kvs more).length<=kvs.length+more.length
 | [],kvs=>by show kvs.length<=kvs.length+0;omega
 | p::r,kvs=>by
  have h1:=lW r (bR kvs p.1 p.2);have h2:=ft kvs p.1 p.2;show (mv (bR kvs p.1 p.2) r).length<=_;rw [dM];omega
theorem s_ {P:Program}{w:World}:∀{kvs:List (aS×V)}{ws:List (Value×Value)},VV (kvs.map λkv=>(kV kv.1,kv.2)) ws->∃rs,Carries (bj P w) ws rs/\KV kvs rs
 | [],_,r=>by rw [jF] at r;cases r;exact⟨[],True.intro,.nil⟩
 | p::kvs,_,r=>by
  rw [cq] at r;cases r with
  | @cons a b as bs h t =>
   obtain⟨rs,c,q⟩:=s_ (P:=P) (w:=w) t;obtain⟨b1,b2⟩:=b;exact⟨(p.1,b2)::rs,⟨lX h.1,rfl,c⟩,.cons ⟨rfl,h.2⟩ q⟩
def OI (HX:List (TE×TE)):TE:=λσ H Q=>∀p,H p=none->yS HX σ (upd H p (.dK [])) λps H2=>H2 p=some (.dK [])/\∃kvs:List (aS×V),ps=kvs.map (λkv=>(kV kv.1,kv.2))/\kvs.length<=15/\Q (.ref p) (upd H2 p (.dK (mv [] kvs)))
def IA {X:Cx}{pos:Pos}{keys:List (Option Expr)}{values:List Expr}{HX:List (TE×TE)}(h:Ss X pos keys values HX)(qt:keys.all (·.isSome)=true)(hl:keys.length=values.length)(h0:keys≠[])
  (VT:keys.length<=15):PE X (.Dict keys values pos) (OI HX):=by
 intro ag s σ H Q I q;have hn:=I.b0.fresh (aH s.heap.objs.size);have I1:=I.laid (a:=s.heap.objs.size) (o:=.dK []) (h':=s.heap.push { cls:=.type "dict",data:=.dict #[] }) (t':=s.toks) (λ_ _ q=>bI _ q) (aH _) (xV s.heap I.big);refine wpAny_Dict_walk (knd:=bj X.prog X.w) qt hl h0 VT (cI (h ag _ σ _ _ I1 (q _ hn)) λws s2 ⟨ps,H2,I2,rel,e,kvs,ep,lk,q2⟩=>?_);subst ep;obtain⟨rs,c,rk⟩:=s_ (P:=X.prog) (w:=X.w) rel;obtain⟨z,hd,vs0,r0,dd⟩:=xU I2.b0 e;cases r0;refine⟨rs,c,dd,λh' HK hs=>⟨.ref s.heap.objs.size,_,?_,rfl,q2⟩⟩;have hz:(mv [] kvs).length<=sizeLine:=by
  have h1:=lW kvs [];rw [iU] at h1;rw [sizeLine_eq];omega
 have he:∃q,h'.get? s.heap.objs.size=some q:=let ⟨q,_,_,hq,_⟩:=HK;⟨q,hq⟩;exact qO I2 (by rw [e];exact True.intro) hs he (sR hz hd (rk.merge .nil) HK)
structure M1 (X:Cx)(o:Expr)(m:Str)(apos:Pos)(e:Expr)(gM:Pos):Prop where
 base:attributeBase o m X.env (eval o X.env)=eval o X.env
 BD:((backTo gM (starEach [e] X.env)).all (λx=>!x.1) && (backToKw gM (keywordEach [] X.env)).all (λx=>x.1.isSome)
  && decide (([e]:List Expr).length+([]:List Keyword).length+(if ([]:List Keyword).isEmpty then 0 else 1) < 30))=true
 line:(apos.endLine == gM.line)=true
 trees:backTo gM (starEach [e] X.env)=[(false,eval e X.env)]
structure M2 (X:Cx)(o:Expr)(m:Str)(apos:Pos)(e f:Expr)(gM:Pos):Prop where
 base:attributeBase o m X.env (eval o X.env)=eval o X.env
 BD:((backTo gM (starEach [e,f] X.env)).all (λx=>!x.1) && (backToKw gM (keywordEach [] X.env)).all (λx=>x.1.isSome)
  && decide (([e,f]:List Expr).length+([]:List Keyword).length+(if ([]:List Keyword).isEmpty then 0 else 1) < 30))=true
 line:(apos.endLine == gM.line)=true
 trees:backTo gM (starEach [e,f] X.env)=[(false,eval e X.env),(false,eval f X.env)]
def Sv (H:Hp)(a:Addr):Prop:=(∃kvs,Rd H a (.dK kvs))\/∃kvs,Rd H a (.dT kvs)
def Ac {X:Cx}{ag:List (Addr×Obj)}{σ:St}{H:Hp}{s:Shared}{a:Addr}(I:Inv X ag σ H s)(d:Sv H a) :
  s.TypeIs (.ref a) "dict" /\ (∀b,Value.ref a=.ref b->∃ob,s.heap.get? b=some ob/\ob.dict=none)/\(a == sysModules)=false:=by
 rcases d with ⟨kvs,e⟩ | ⟨kvs,e⟩
 .obtain⟨_,hd,vs,_,dd⟩:=ow I.b0 e;refine⟨dd.typeIs,λb q=>?_,hd⟩;cases q;obtain⟨ob,_,_,h1,h2,_⟩:=dd;exact⟨ob,h1,h2.2.1⟩
 obtain⟨_,hd,xs,_,dd⟩:=sQ I.b0 e;refine⟨dd.typeIs,λb q=>?_,hd⟩;cases q;obtain⟨ob,_,_,h1,h2,_⟩:=dd;exact⟨ob,h1,h2.2.1⟩
section
variable {X:Cx}{ag:List (Addr×Obj)}{σ:St}{H:Hp}{s:Shared}{a:Addr}{y d:V}{u r:Value}{o:Option V}{A:Around}{E:Value->Shared->Prop}
def Nd {Q:Value->Shared->Prop}(hu:A.units+1 < cLine)(I:Inv X ag σ H s)(g:cy H a y o)(ry:RelV y u)(rd:RelV d r)(h:∀w' s',Inv X ag σ H s'->RelV (o.getD d) w'->Q w' s') :
  wpAny (model X.prog X.w) A (call (.builtin "dict.get") [.ref a,u,r]) Q E s:=by
 rcases g with ⟨kvs,k,e,ey,l⟩ | ⟨kvs,k,b,e,ey,eb,l⟩
 .subst ey;obtain⟨z,hd,vs,rel,dd⟩:=ow I.b0 e;refine call_meetsIn PySem.F.slot_dict_get dd.typeIs PySem.F.entry_dict_get (PySem.F.args_dict_get_3 _ _ _) (meets_dict_get_default (bj X.prog X.w) a (lX ry) hd r) ⟨_,dd.mapOf,h _ _ (I.tok _) ?_⟩;rw [l];exact(rel.val k).getD rd
 subst ey;cases (show u=Value.ref b from ry);obtain⟨z,hd,xs,rel,dd⟩:=sQ I.b0 e;refine call_meetsIn PySem.F.slot_dict_get dd.typeIs PySem.F.entry_dict_get (PySem.F.args_dict_get_3 _ _ _) (meetsH_dict_get_default (tupleKind (bj X.prog X.w)) a b hd r) ⟨oU hu,k,xs,mD I.b0 eb,dd,h _ _ (I.tok _) ?_⟩;rw [l];exact(rel.val k).getD rd
end
def La (td ty tx:TE):TE:=λσ H Q=>td σ H λx H1=>∃a,x=.ref a/\Sv H1 a/\ty σ H1 λy H2=>tx σ H2 λz H3=>∃o,cy H3 a y o/\Q (o.getD z) H3
section
variable {X:Cx}{o e f:Expr}{apos gM:Pos}{td ty tx:TE}
def E8 (hu:X.A.units+1 < cLine)(ho:PE X o td)(he:PE X e ty)(hf:PE X f tx)(m:M2 X o "get" apos e f gM):PE X (.Call (.Attribute o "get" apos) [e,f] [] gM) (La td ty tx):=by
 intro ag s σ H Q I h;refine wpAny_Call_method m.base m.BD m.line yI PySem.F.slot_dict_get PySem.F.type_dict_get (cI (ho ag s σ H _ I h) λu s1 ⟨x,H1,I1,rx,a,ex,d,q1⟩=>?_);subst ex;obtain rfl:u=Value.ref a:=rx;obtain⟨t1,t2,_⟩:=Ac I1 d;refine⟨t1,t2,?_⟩;rw [m.trees];refine ro rfl (u3 (mh (cI (he ag s1 σ H1 _ I1 q1) λiv s2 ⟨y,H2,I2,ry,q2⟩ =>
  mh (cI (hf ag s2 σ H2 _ I2 q2) λfv s3 ⟨z,H3,I3,rz,ov,g,q3⟩=>qY ?_))))
 exact Nd hu I3 g ry rz λw' s4 I4 zw=>⟨_,H3,I4,zw,q3⟩
end
section
variable {X:Cx}{ag:List (Addr×Obj)}{σ:St}{H:Hp}{s:Shared}{a:Addr}{kvs:List (aS×V)}{A:Around}{E:Value->Shared->Prop}
end
section
variable {X:Cx}{ag:List (Addr×Obj)}{σ:St}{H:Hp}{s:Shared}{a:Addr}{y:V}{u:Value}{A:Around}{E:Value->Shared->Prop}
end
end L2
set_option maxHeartbeats 4000000
namespace L2
open PySem
def vZ:typeLookup (.type "list") "keys"=pure none:=by rw [typeLookup_type,builtinLookup_eq_fast];kernel_rfl
def v3:typeLookup (.type "list") "__getattr__"=pure none:=by rw [typeLookup_type,builtinLookup_eq_fast];kernel_rfl
section
variable {prog:Program}{w:World}{A:Around}{E:Value->Shared->Prop}{h:Heap}{g:Array GenState}{d:Drawn}{t:Nat}{os:OsState}{a:Addr}{o:Obj}
def Eh:isSubtype (.type "AttributeError") (.type "AttributeError")=pure true:=by rw [isSubtype_type];kernel_rfl
def LG {m:Str}{tk:Tok}:ownMembersOf (.type "AttributeError") [.str m tk]=#[unsetMember,unsetMember]:=by kernel_rfl
def Gp {m:Str}{tk:Tok}:firstArgMember (.type "AttributeError") [.str m tk]=pure .none:=by kernel_rfl
def zy {α:Type}{self:Value}{name msg:Str}{Q:α->Shared->Prop}(hm:msg.length<=sizeLine)(hh:A.handled=none)
  (hq:∀h' t' e oe,(∀b o,h.get? b=some o->h'.get? b=some o)->h'.get? e=some oe->oe.cls=.type "AttributeError" -> E (.ref e) ⟨h',g,d,t',os⟩) :
  wpAny (model prog w) A (raiseAttrError self name msg) Q E ⟨h,g,d,t,os⟩:=by
 have f1:=Eh;unfold raiseAttrError newExc;refine ar (wpAny_mkStr ?_ hm);have fe:=Gp (m:=msg) (tk:=t);rw [LG]
 repeat (any_goals (first | assumption | wp_step))
 unfold raiseNew;refine ar (wpAny_handled ?_);rw [hh];refine ar (aR ?_);refine wpAny_throw ?_;refine hq _ _ _ _ (λb o q=>?_) (oZ _ (cV _ rfl) rfl) rfl;have lt:=ba q;rw [o5 _ _ (by rw [jj];exact fc (kx lt))];exact bI _ (bI _ q)
def Aa {tk:Tok}{aU:Array Value}{n:Nat}{Q:Fin->Shared->Prop}(hx:h.get? a=some { cls:=.type "list",data:=.seq aU n })(hh:A.handled=none)
  (hq:∀h' t' e oe,(∀b o,h.get? b=some o->h'.get? b=some o)->h'.get? e=some oe->oe.cls=.type "AttributeError" -> E (.ref e) ⟨h',g,d,t',os⟩) :
  wpAny (model prog w) A (Builtin.«object.__getattribute__» ⟨[.ref a,.str "keys" tk],[]⟩) Q E ⟨h,g,d,t,os⟩:=by
 have hT:(⟨h,g,d,t,os⟩:Shared).TypeIs (.ref a) "list" := ⟨_,hx,rfl⟩;have f4:=vZ
 repeat (any_goals (first | assumption | wp_step))
 exact zy (by decide +kernel) hh hq
def pF {aU:Array Value}{n:Nat}{Q:Option Value->Shared->Prop}(hx:h.get? a=some { cls:=.type "list",data:=.seq aU n })(hh:A.handled=none)
  (hq:∀h' t',(∀b o,h.get? b=some o->h'.get? b=some o)->Q none ⟨h',g,d,t',os⟩):wpAny (model prog w) A (getAttr? (.ref a) "keys") Q E ⟨h,g,d,t,os⟩:=by
 have hT:∀t',(⟨h,g,d,t',os⟩:Shared).TypeIs (.ref a) "list" := λt'=>⟨_,hx,rfl⟩;have f1:=Eh;have f2:=ve.lookup;have f3:=ve.bind (.ref a);have f4:=v3;unfold getAttr? getAttrBy? getAttrBy;refine ar (wpAny_mkText (ar (oG (iG (ar (jV (hT _) ?_))))));rw [f2];refine ar (aR ?_);show wpAny _ _ (getAttrByItsOwn _ _ _ _ _ _) _ _ _;unfold getAttrByItsOwn;refine ar (aR (a:=none) (ar (oG (iG ?_))));show wpAny _ _ (boundAndCalled _ _ _) _ _ _;unfold boundAndCalled;rw [f3];refine ar (aR (wpAny_call (codeAny_call_builtin ve.plain F.entry_list_ga (ve.check _ _ _ _ _ _ _ _ (hT _) (F.args_list_getattribute_2 _ _) (Aa hx hh λh' t' e oe k ee ec=>?_)))));have te:(⟨h',g,d,t',os⟩:Shared).TypeIs (.ref e) "AttributeError" := ⟨oe,ee,ec⟩;show wpAny _ _ (getattributeRaised _ _ _ _ _ _ _) _ _ _;unfold getattributeRaised;refine ar (wpAny_isInstance te f1 ?_);rw [ax rfl];show wpAny _ _ (typeLookup _ _ >>= _) _ _ _;rw [f4];refine ar (aR ?_);show wpAny _ _ (throw _) _ _ _;refine wpAny_throw ?_;refine ar (wpAny_isInstance te f1 ?_);rw [ax rfl];exact aR (hq h' t' k)
end
def fC:plainId "dict.update.loop"=true:=by decide +kernel
def lC:entryFor table "dict.update.loop"=some Builtin.«dict.update.loop»:=entryFor_of_tree (by kernel_rfl)
section
variable {prog:Program}{w:World}{K:Type} [DecidableEq K] {knd:KeyKind prog w K}{A:Around}{E:Value->Shared->Prop}
def mK (knd:KeyKind prog w K)(h:Heap)(u:Value)(kv:K×Value):Prop :=
 ∃t key n o,u=.ref t/\knd.is kv.1 key=true/\h.get? t=some o/\o.cls=.type "tuple" /\ o.data=.seq #[key,kv.2] n
def mK.keep {h h':Heap}{u:Value}{kv:K×Value}(p:mK knd h u kv)(k:∀b o,o.cls=.type "tuple" -> h.get? b=some o->h'.get? b=some o):mK knd h' u kv :=
 let ⟨t,key,n,o,a,b,c,d,e⟩:=p;⟨t,key,n,o,a,b,k t o d c,d,e⟩
def Gx {R:Result->Shared->Prop}{d it l:Addr}{items:Array Value}(hh:A.handled=none):∀(more:List (K×Value)) (i:Nat)(s:Shared)(kvs:List (K×Value)) (j:Int)(tk:Tok),items.size=i+more.length ->
  s.heap.DictOf knd d kvs->s.heap.IsListIter it l i->s.heap.IsList l items->(∀m kv,more[m]?=some kv->∃u,items[i+m]?=some u/\mK knd s.heap u kv)->kvs.length+more.length<=sizeLine ->
  (∀h' t',h'.DictOf knd d (more.foldl (λa p=>stored a p.1 p.2) kvs)->(∀b o,b≠d->b≠it->s.heap.get? b=some o->h'.get? b=some o)->R (.ok (.ret .none)) { s with heap:=h',toks:=t' }) ->
  codeAny (model prog w) A (.builtin "dict.update.loop" ⟨[.ref d,.ref it,.int j tk,.none],[]⟩) R s:=by
 intro more
 induction more with
 | nil =>
  intro i s kvs j tk hi hd hit hl hp hz hR;refine me lC ?_;rw [qP fC _];unfold Builtin.«dict.update.loop»;have hs:items[i]?=none:=yF (by rw [hi];exact aH _);refine ar (u7 hh hit hl hs λh1 eb=>?_);have nd:d≠it:=λz=>by
   obtain⟨o,_,_,q,_,c,_⟩:=hd;obtain⟨o',q',_,c'⟩:=hit;rw [z,q'] at q;cases q;rw [c'] at c;cases c
  show wpAny _ _ (Builtin.Dict.addKeywords d [] >>= _) _ _ _;exact ar (aR (aR (hR h1 s.toks (hd.extBut eb nd) λb o n1 n2 q=>eb b o n2 q)))
 | cons kv more ih =>
  intro i s kvs j tk hi hd hit hl hp hz hR;refine me lC ?_;rw [qP fC _];unfold Builtin.«dict.update.loop»;obtain⟨u,hu,t,key,n,o,rfl,hk,ho,hc,Bw⟩:=hp 0 kv rfl;refine ar (wpAny_pyNext_list_item hit hl hu λh1 UI sb=>?_);have nd:d≠it:=λz=>by
   obtain⟨o,_,_,q,_,c,_⟩:=hd;obtain⟨o',q',_,c'⟩:=hit;rw [z,q'] at q;cases q;rw [c'] at c;cases c
  have n2:∀b o,(o.cls=.type "tuple" \/ o.cls=.type "list")->s.heap.get? b=some o->b≠d/\b≠it:=by
   intro b o c q;constructor
   .intro z;obtain⟨o',q',c'⟩:=hd.typeIs;rw [z,q'] at q;cases q;rw [c'] at c;rcases c with c | c <;> exact absurd c (by decide)
   intro z;obtain⟨o',q',c',_⟩:=hit;rw [z,q'] at q;cases q;rw [c'] at c;rcases c with c | c <;> exact absurd c (by decide)
  have nt:∀b o,o.cls=.type "tuple" -> s.heap.get? b=some o->b≠d/\b≠it:=λb o c q=>n2 b o (.inl c) q;have nl:l≠d/\l≠it:=by
   obtain⟨o,q,c,_⟩:=hl;exact n2 l o (.inr c) q
  have Qb:h1.get? t=some o:=(sb.2 t (nt t o hc ho).2).trans ho;have wJ:h1.DictOf knd d kvs:=hd.sameBut sb nd;refine ar (iG (ar (wpAny_tryCatch ?_)));unfold Builtin.Dict.pairItems;refine ar (jV (T := "tuple") ⟨o,Qb,hc⟩ ?_);rw [ax (by decide)];refine ar (jk Qb Bw (aR ?_));show wpAny _ _ (holding [key,kv.2] (dictSet d key kv.2)) _ _ _;rw [dM] at hz hi;refine iG (wpAny_dictSet_pairs (s:={ s with heap:=h1 }) hk wJ (λh2 hd2 OW=>?_) ∅);have kk:∀b o,b≠d->b≠it->s.heap.get? b=some o->h2.get? b=some o:=λb o n1 n2 q=>(OW.2 b n1).trans ((sb.2 b n2).trans q);have ln:(stored kvs kv.1 kv.2).length<=kvs.length+1:=by
   unfold stored
   split
   .simp
   simp
  refine aR ⟨kC fC _,ih (i+1) _ _ _ _ ∅ hd2 (UI.at λo q=>(OW.2 it (cO nd)).trans q) (hl.at λo q=>kk l o nl.1 nl.2 q) (λm UA e=>?_) ∅ λh3 t3 jf k3=>?_⟩
  .obtain⟨u',e1,e2⟩:=hp (m+1) UA e;exact⟨u',by rw [<-e1];congr 1;omega,e2.keep λb o c q=>kk b o (nt b o c q).1 (nt b o c q).2 q⟩
  exact hR h3 t3 jf λb o n1 n2 q=>k3 b o n1 n2 (kk b o n1 n2 q)
def yT:(Value.type "list" != Value.type "dict")=true:=by decide
def tq {s:Shared}{l:Addr}{items:Array Value}{n:Nat}{more:List (K×Value)}{Q:Value->Shared->Prop}(knd:KeyKind prog w K)(hh:A.handled=none)(hx:s.heap.get? l=some { cls:=.type "list",data:=.seq items n })
  (hi:items.size=more.length)(hp:∀(m:Nat) kv,more[m]?=some kv->∃u,items[m]?=some u/\mK knd s.heap u kv)(hz:more.length<=sizeLine)
  (h:∀h' t',h'.DictOf knd s.heap.objs.size (more.foldl (λa p=>stored a p.1 p.2) [])->(∀b o,s.heap.get? b=some o->h'.get? b=some o)->Q (.ref s.heap.objs.size) { s with heap:=h',toks:=t' }) :
  wpAny (model prog w) A (call (.type "dict") [.ref l]) Q E s:=by
 refine callType_codes (Q₁:=λobj s₁=>obj=.ref s.heap.objs.size/\s₁={ s with heap:=s.heap.push { cls:=.type "dict",data:=.dict #[] } }) F.kt_called_dict (F.kt_typeCall_dict_1 _) F.entry_dict_init (kt_code_dict_new _ ⟨rfl,rfl⟩) ?_;rintro obj s₁ ⟨rfl,rfl⟩;have zU:(s.heap.push { cls:=.type "dict",data:=.dict #[] }).DictOf knd s.heap.objs.size []:=Heap.DictOf.new s.heap;have l0:=bI { cls:=.type "dict",data:=.dict #[] } hx;refine⟨zU.typeIs,F.args_dict_init_2 _ _,?_⟩;unfold Builtin.«dict.__init__» Builtin.Dict.selfAndRest;refine ar (ar (wpAny_notOrdered_dict zU.typeIs (aR ?_)));show wpAny _ _ (Builtin.Dict.updateFrom "dict.__init__" s.heap.objs.size (.ref l) [] .none) _ _ _;unfold Builtin.Dict.updateFrom;refine ar (jV (T := "list") ⟨_,l0,rfl⟩ ?_);rw [ax yT];refine ar (pF l0 hh λh1 t1 k1=>?_);refine ar (i_ ?_);have l1:=k1 _ _ l0;refine ar (oQ ⟨_,l1,rfl,_,rfl⟩ ?_);have k2:∀b o,s.heap.get? b=some o->(h1.push { cls:=.type "list_iterator",data:=.fields #[.ref l,.int 0 0] }).get? b=some o:=λb o q=>bI _ (k1 _ _ (bI _ q));refine aR ⟨kC fC _,Gx (knd:=knd) (A:=A.in1) (l:=l) (items:=items) (show A.in1.handled=none from hh) more 0 _ [] _ _ (by rw [hi,oI]) ?_ ⟨_,cV _ rfl,rfl,rfl⟩ ⟨_,k2 _ _ hx,rfl,n,rfl⟩ (λm kv e=>?_) (by simpa using hz) λh' t' hd k3=>?_⟩
 .obtain⟨o,es,ep,q,r⟩:=zU;exact⟨o,es,ep,bI _ (k1 _ _ q),r⟩
 .obtain⟨u,e1,e2⟩:=hp m kv e;exact⟨u,by rw [oI];exact e1,e2.keep λb o _ q=>k2 b o q⟩
 refine⟨rfl,h h' t' hd λb o q=>k3 b o (bM (ba q)) ?_ (k2 b o q)⟩;have:=ba (k1 _ _ (bI { cls:=.type "dict",data:=.dict #[] } q));exact bM this
end
open PySem PySem.Spec PyProof.Rows
def Du (X:Cx)(ifs:List Expr)(t:TT):Prop :=
 ∀(ag:List (Addr×Obj))(s:Shared)(σ:St)(H:Hp)(Q:Bool->Hp->Prop),Inv X ag σ H s->t σ H Q ->
  wpAny (model X.prog X.w) X.A (forIn ifs true λc r=>if r=true then do let ok <-isTrue c X.env (eval c X.env);pure (ForInStep.yield ok) else pure (ForInStep.yield r)) (TP X ag σ Q) X.xe s
def iw:TT:=λ_ H Q=>Q true H
def bX {X:Cx}:Du X [] iw:=λ_ _ _ H _ I h=>wpAny_tests_nil ⟨H,I,h⟩
def g_ {X:Cx}{c:Expr}{t:TT}(h:PT X c t):Du X [c] t:=λag s σ H Q I hw=>wpAny_tests_one (h ag s σ H Q I hw)
def qh {prog:Program}{w:World}{A:Around}{R:Result->Shared->Prop}{s:Shared}{elt target iter:Expr}{ifs:List Expr}{scope:Scope}{pos:Pos}{it bz:Value}{env:Env}(I:Nat->Shared->Prop)
  (turn:∀n s,I n s->wpAny (model prog w) A (pyNext it) (λr s₁=>match r with
   | none=>R (.ok .next) s₁
   | some v=>wpAny (model prog w) A (letOwnedTupleGo target it v) (λ_ s₁=>wpAny (model prog w) A (assign target env v) (λ_ s₂ =>
     wpAny (model prog w) A (forIn ifs true λc r=>if r=true then do let ok <-isTrue c env (eval c env);pure (ForInStep.yield ok) else pure (ForInStep.yield r)) (λok s₃ =>
      if ok=true then wpAny (model prog w) A (eval elt env) (λx s₄ =>
       wpAny (model prog w) A (call (.builtin "list.append") [bz,x]) (λ_ s₅=>∃m,m < n/\I m s₅) (λ_ _=>False) s₄) (λ_ _=>False) s₃
      else ∃m,m < n/\I m s₃) (λ_ _=>False) s₂) (λ_ _=>False) s₁) (λ_ _=>False) s₁) (λ_ _=>False) s)
  (n:Nat)(h:I n s) :
  codeAny (model prog w) A (.compLoop (.ListComp elt [⟨target,iter,ifs,0⟩] scope pos) 0 it bz env) R s:=by
 refine codeAny_loop rfl I (λn s hI=>?_) n h;show wpAny _ A ((compTurn (.ListComp elt [⟨target,iter,ifs,0⟩] scope pos) 0 it bz env).onRaise (λx=>do noteFrame x env;theTreesLotGoes x)) _ _ s;refine wpAny_noted ?_;rw [compTurn_list];refine ar (wpAny_standAt (ar (dG (turn n s hI) (λr s₁ h₁=>?_) λ_ _ h'=>h'.elim)));cases r with
 | none=>exact aR h₁
 | some v =>
  refine ar (dG h₁ (λ_ s₂ h₂=>?_) λ_ _ h'=>h'.elim);refine ar (dG h₂ (λ_ s₂ h₂=>ar (dG h₂ (λok s₃ h₃=>?_) λ_ _ h'=>h'.elim)) λ_ _ h'=>h'.elim);cases ok with
  | false=>exact aR ⟨rfl,h₃⟩
  | true =>
   exact ar (ar (dG h₃ (λx s₄ h₄=>ar (dG h₄ (λ_ s₅ h₅=>aR (aR ⟨rfl,h₅⟩)) λ_ _ h'=>h'.elim)) λ_ _ h'=>h'.elim))
inductive ym (K:a9)(H:Hp):V->String->Prop where
 | bl (x:Bool):ym K H (.bl x) "bool"
 | int (i:Int):ym K H (.int i) "int"
 | str (x:Str):ym K H (.str x) "str"
 | tup {a:Addr}{xs:List V}(e:aQ K H a xs):ym K H (.ref a) "tuple"
def cv {X:Cx}:ik X (.builtin "isinstance") (λxs H Q=>∃x T n b,xs=[x,.ty n]/\ym X.K H x T/\PySem.W.kitOne X.K (.type T) (.type n)=some b/\Q (.bl b) H):=by
 intro ag s σ H xs us Q I r h;obtain⟨x,T,n,b,rfl,ty,e,q⟩:=h;obtain⟨u,w',rfl,rx,rn⟩:=vals2 r;cases (show w'=Value.type n from rn);have fin:∀tk,EP X ag σ Q (.bool b) { s with toks:=tk }:=λtk=>⟨.bl b,H,I.tok _,rfl,q⟩;cases ty with
 | bl y=>cases (show u=Value.bool y from rx);exact PySem.W.kia_one PySem.W.kitx_bool I.v9 True.intro e (λz=>nomatch z) fin
 | int i=>obtain⟨t,z⟩:=(show ∃t,u=Value.int i t from rx);cases z;exact PySem.W.kia_one PySem.W.kitx_int I.v9 True.intro e (λz=>nomatch z) fin
 | str y=>obtain⟨t,z⟩:=(show ∃t,u=Value.str y t from rx);cases z;exact PySem.W.kia_one PySem.W.kitx_str I.v9 True.intro e (λz=>nomatch z) fin
 | @tup a ys hq =>
  cases (show u=Value.ref a from rx);obtain⟨aU,_,⟨o,h1,h2,_⟩,_⟩:=I.tuple hq;exact PySem.W.kia_one PySem.W.kitx_tuple I.v9 ⟨o,h1,h2⟩ e (λz=>nomatch z) fin
def Ce {X:Cx}{a:Expr}{ta:TE}(K:a9)(ha:PE X a ta)(he:∀whole,isTrue a X.env whole=(do let v <-whole;standAt a.pos;holding [v] (truthy v)))(hK:X.K=K:=by rfl) :
  PT X a (λσ H Q=>ta σ H λx H'=>∃k,G6 K x H' k/\Q k H'):=by
 subst hK;exact gF ha he
structure Jz (env:Env)(scope:Scope)(cl:List (Str×Addr)):Prop where
 eq:closureFor scope env=pure cl
 sub:∀y c,cl.lookup y=some c->env.cells.lookup y=some c
 all:∀y,(y,NameKind.free)∈scope.names->∃c,cl.lookup y=some c
def jO {y n:Str}{c:Addr}{l:List (Str×Addr)}:((n,c)::l).lookup y=if y=n then some c else l.lookup y:=by
 by_cases h:y=n
 .rw [ax h];simp [List.lookup,h]
 rw [az h];simp [List.lookup,j4.mpr h]
def wy {env:Env}{scope:Scope}(h:∀y,(y,NameKind.free)∈scope.names->∃c,env.cells.lookup y=some c):∃cl,Jz env scope cl:=by
 have go:∀(names:List (Str×NameKind))(bz:List (Str×Addr)),(∀y,(y,NameKind.free)∈names->∃c,env.cells.lookup y=some c)->(∀y c,bz.lookup y=some c->env.cells.lookup y=some c) ->
   ∃cl,(forIn names bz λ(x:Str×NameKind)(cs:List (Str×Addr))=>(if x.2 == .free then do let c <-cellOf env x.1;pure (ForInStep.yield ((x.1,c)::cs)) else pure (ForInStep.yield cs):Sem (ForInStep (List (Str×Addr)))))=pure cl /\
    (∀y c,cl.lookup y=some c->env.cells.lookup y=some c)/\(∀y,(y,NameKind.free)∈names->∃c,cl.lookup y=some c)/\∀y c,bz.lookup y=some c->∃c',cl.lookup y=some c':=by
  intro names
  induction names with
  | nil=>intro bz _ hs;exact⟨bz,rfl,hs,λy hy=>absurd hy (by simp),λy c e=>⟨c,e⟩⟩
  | cons x r ih =>
   intro bz hf hs;obtain⟨n,k⟩:=x;rw [mP];by_cases hk:k=.free
   .subst hk;obtain⟨c0,e0⟩:=hf n cU;obtain⟨cl,e1,e2,e3,e4⟩:=ih ((n,c0)::bz) (λy hy=>hf y (dr _ hy)) (λy c e=>by
     rw [jO] at e;by_cases z:y=n
     .rw [ax z] at e;cases e;rw [z];exact e0
     rw [az z] at e;exact hs y c e)
    refine⟨cl,?_,e2,λy hy=>?_,λy c e=>?_⟩
    .rw [<-e1];have:cellOf env n=pure c0:=by unfold cellOf;rw [e0]
     simp only [this];rfl
    .rcases cz.mp hy with z | z
     .cases z;exact e4 n c0 (by rw [jO,ax rfl])
     exact e3 y z
    by_cases z:y=n
    .exact e4 y c0 (by rw [jO,ax z])
    exact e4 y c (by rw [jO,az z];exact e)
   obtain⟨cl,e1,e2,e3,e4⟩:=ih bz (λy hy=>hf y (dr _ hy)) hs;refine⟨cl,?_,e2,λy hy=>?_,e4⟩
   .rw [<-e1];have:(k == NameKind.free)=false:=by simpa using hk
    simp only [this];rfl
   rcases cz.mp hy with z | z
   .cases z;exact absurd rfl hk
   exact e3 y z
 obtain⟨cl,e1,e2,e3,_⟩:=go scope.names [] h (λy c e=>by simp at e);refine⟨cl,?_,e2,e3⟩;unfold closureFor;exact Eq.trans (congrArg (λt:Sem (List (Str×Addr))=>t >>= λcs=>pure cs) e1) rfl
def vS {scope:Scope}{env:Env}{y:Str}(hk:env.scope.kind=.function)(hy:scope.names.lookup y=some .free)(he:env.kindOf y=some .cell):(relabel scope env).names.lookup y=some .cell:=by
 have go:∀l:List (Str×NameKind),l.lookup y=some .free->(l.map λ(x:Str×NameKind)=>if (x.2 == NameKind.free && env.scope.kind == .function && env.kindOf x.1 == some .cell) then (x.1,NameKind.cell) else (x.1,x.2)).lookup y=some .cell:=by
  intro l
  induction l with
  | nil=>intro z;cases z
  | cons x r ih =>
   obtain⟨n,k⟩:=x;intro hy;rw [cq];by_cases z:y=n
   .subst z;simp [List.lookup] at hy;subst hy;simp [List.lookup,hk,he]
   have zb:(y == n)=false:=j4.mpr z;simp only [List.lookup,zb] at hy;have:=ih hy;dsimp only
   split <;> simp only [List.lookup,zb] <;> exact this
 exact go _ hy
theorem vY {α:Type}{y:Str}{v:α}:∀{l:List (Str×α)},l.lookup y=some v->(y,v)∈l
 | [],h=>by cases h
 | (n,u)::r,h=>by
  by_cases z:y=n
  .subst z;simp [List.lookup] at h;subst h;exact cU
  have zb:(y == n)=false:=j4.mpr z;simp only [List.lookup,zb] at h;exact dr _ (vY h)
def nI {scope:Scope}{env:Env}{y:Str}{k:NameKind}(h:(relabel scope env).names.lookup y=some k)(hk:k=.cell\/k=.free)(hc:∀z∈scope.names,z.2≠.cell):(y,NameKind.free)∈scope.names:=by
 have m:=vY h;unfold relabel at m;obtain⟨⟨n,k'⟩,m1,m2⟩:=cP.mp m;dsimp only at m2
 split at m2
 .rename_i q
  cases m2;simp at q;obtain⟨⟨q,_⟩,_⟩:=q;subst q;exact m1
 cases m2;rcases hk with hk | hk
 .exact absurd hk (hc _ m1)
 rw [<-hk];exact m1
def sU (X:Cx)(scope:Scope)(cl:List (Str×Addr))(C:Addr)(s1:Shared)(H1:Hp) (N:List Str)(fp:List Addr):Cx :=
 { X with N:=N,s₀:=s1,H₀:=H1,env:=compEnvC scope cl C X.env,outer:=X.stack,stack:=X.stack,ex:=fp,fn:=λ_=>false,pn:=[],xe:=λ_ _=>False }
structure JA (X:Cx)(scope:Scope)(js:List (Nat×Str)):Prop where
 at_:∀p∈js,X.N[p.1]?=some p.2/\X.env.scope.names.lookup p.2=some .cell/\scope.names.lookup p.2=some .free
 all:∀y,(y,NameKind.free)∈scope.names->X.env.scope.names.lookup y=some .cell
def eQ (ts:List Str)(js:List (Nat×Str))(σ:St):St:=ts.map (λ_=>none)++js.map λp=>(σ[p.1]?).join
def uy {X:Cx}{ag:List (Addr×Obj)}{σ:St}{H:Hp}{s1 s4:Shared}{scope:Scope}{ts:List Str}{js:List (Nat×Str)}{cl:List (Str×Addr)}{fp:List Addr}{C:Addr}{m:Str->Option Value}
  (I:Inv X ag σ H s1)(hf:∀b∈fp,wD X ag H b)(Gb:∀b∈fp,b < s1.heap.objs.size)(jx:scope.kind=.function)(jy:∀y∈scope.names,y.2≠.cell)(cp:JA X scope js)(pI:Jz X.env scope cl)
  (hC:s1.heap.objs.size < C)(ho:s4.os=s1.os)(hg:s4.gens=s1.gens)(old:∀b o,s1.heap.get? b=some o->s4.heap.get? b=some o)(hn:s4.heap.Ns C m)
  (hD:s4.heap.get? s1.heap.objs.size=some { cls:=.type "list",data:=.seq ([]:List Value).toArray 0 }) :
  Inv (sU X scope cl C s1 H (ts++js.map (·.2)) fp) [] (eQ ts js σ) (upd H s1.heap.objs.size (.lst [])) s4:=by
 have xk:X.env.scope.kind=.function:=I.ok.kind;have has:∀y,((relabel scope X.env).names.lookup y=some .cell\/(relabel scope X.env).names.lookup y=some .free)->∃c,cl.lookup y=some c:=λy hy=>pI.all y (by
  rcases hy with hy | hy
  .exact nI hy (.inl rfl) jy
  exact nI hy (.inr rfl) jy)
 have lt:∀y c,cl.lookup y=some c->c < s1.heap.objs.size:=λy c e=>by
  obtain⟨v,o,ho,_⟩:=I.cell y c (pI.sub y c e);exact ba ho
 refine⟨⟨I.ok.mod,jx,I.ok.glob,I.ok.blt,jG hC,λy z c h1 h2=>I.ok.inj y z c (pI.sub _ _ h1) (pI.sub _ _ h2),has,λy c h _=>absurd (show false=true from h) dO,I.ok.hd,I.ok.frames,.inl rfl,
   λb hb=>⟨bM (md (Gb b hb) hC),λy c h=>(hf b hb).2.2.2.2.1 y c (pI.sub _ _ h)⟩,I.bs,fV I.ok.HL I.sz,λb o e hb=>?_,λb hb=>?_,I.stack,I.A1⟩,
  ho,?_,Un.laid old (aH _) I.fresh,⟨m,hn,λi y v e1 e2 _=>?_⟩,λy c h=>?_,?_,λy c h=>?_,λp hp=>absurd (show p∈([]:List (Addr×Obj)) from hp) (by simp),I.b0.laid old (aH _) ?_,?_⟩
 .obtain⟨_,_,_,h4,_⟩:=hf b hb;rcases h4 with h4 | h4
  .exact I.ok.Fz b o e h4
  exact absurd (eU (ba (I.ok.bs b o e).1) h4) (kI _)
 .intro Ht;obtain⟨_,h2,h3,_⟩:=hf b hb;rcases cz.mp (I.yU b Ht) with z | z
  .exact h2 z
  exact h3 z
 .rw [hg];exact I.bare
 .have Jl:(ts++js.map (·.2))[i]?=some y:=e1;have C_:(ts.map (λ_=>(none:Option V))++js.map λp=>(σ[p.1]?).join)[i]?=some (some v):=e2;by_cases hi:i < ts.length
  .rw [mX (by simpa using hi)] at C_;simp [hi] at C_
  rw [lQ ∅] at Jl;rw [lQ (by simpa using Nat.le_of_not_lt hi)] at C_;rw [au] at C_;rw [bh] at Jl C_;cases hj:js[i - ts.length]? with
  | none=>rw [hj] at Jl;cases Jl
  | some p =>
   rw [hj] at Jl C_;simp only [qX,Option.some.injEq] at Jl C_;obtain⟨a1,a2,a3⟩:=cp.at_ p (cf hj);subst Jl;have es:σ[p.1]?=some (some v):=by
    cases q:σ[p.1]? with
    | none=>rw [q] at C_;cases C_
    | some z=>rw [q] at C_;exact congrArg some C_
   obtain⟨m0,RK,lk⟩:=I.loc;obtain⟨u,ru,l⟩:=lk p.1 p.2 v a1 es (.inr (.inl a2));rcases l with l | ⟨_,c,ec,o,hc,hd⟩
   .have l1:X.env.scope.names.lookup p.2=some .local:=l.1;rw [a2] at l1;cases l1
   obtain⟨c',Zt⟩:=pI.all p.2 (vY a3);have e3:=pI.sub _ _ Zt;rw [ec] at e3;cases e3;exact⟨u,ru,.inr ⟨.inl (vS xk a3 a2),c,Zt,o,old _ _ hc,hd⟩⟩
 .obtain⟨v,o,h1,h2⟩:=I.cell y c (pI.sub y c h);exact⟨v,o,old _ _ h1,h2⟩
 .show upd H s1.heap.objs.size (.lst []) C=none;rw [aj (fc hC)];exact I.b0.fresh (jG hC)
 .show upd H s1.heap.objs.size (.lst []) c=none;rw [aj (bM (lt y c h))];exact I.lY y c (pI.sub y c h)
 .exact⟨by show 0<=sizeLine;decide,[],0,.nil,hD⟩
 show (eQ ts js σ).length=(ts++js.map (·.2)).length;simp [eQ]
def Ee (wi:TI) (ts:List Str)(js:List (Nat×Str))(g:TG)(tif:TT)(te:TE):TE:=λσ H Q=>wi σ H λJ H1=>∀D,H1 D=none->∃W:Nat->Nat->List V->St->Hp->Prop,(∃m,W 0 m [] (eQ ts js σ) (upd H1 D (.lst []))) /\
 ∀i m ys σ' H,W i m ys σ' H->(J.stop i H/\Q (.ref D) H)\/(J.go i H/\∃m',m' < m/\∀x H',J.mZ i H x H'->g x σ' H' λσ2 H2=>tif σ2 H2 λb H3 =>
  if b=true then te σ2 H3 λy H4=>H4 D=some (.lst ys)/\ys.length < sizeLine/\W (i+1) m' (ys++[y]) σ2 (upd H4 D (.lst (ys++[y]))) else W (i+1) m' ys σ2 H3)
def bE {X:Cx}{elt iter tg:Expr}{ifs:List Expr}{scope:Scope}{pos:Pos}{wi:TI}{g:TG}{tif:TT}{te:TE}(ts:List Str)(js:List (Nat×Str))(hc:X.calm=true)(hi:PI X tg iter wi)
  (cp:JA X scope js)(jy:∀y∈scope.names,y.2≠.cell)(jx:scope.kind=.function)
  (Ae:∀y∈scope.names,y.2=.local->scope.names.lookup y.1=some .local)
  (hg:∀cl C s1 H1 fp,PG (sU X scope cl C s1 H1 (ts++js.map (·.2)) fp) tg g)
  (Vl:∀cl C s1 H1 fp,Du (sU X scope cl C s1 H1 (ts++js.map (·.2)) fp) ifs tif)(he:∀cl C s1 H1 fp,PE (sU X scope cl C s1 H1 (ts++js.map (·.2)) fp) elt te)
  (hs:∀x,foldedSetIterable iter X.env x=pure x:=by intro _;rfl) :
  PE X (.ListComp elt [⟨tg,iter,ifs,0⟩] scope pos) (Ee wi ts js g tif te):=by
 intro ag s σ H Q I h;rw [eval_ListComp];obtain⟨cl,pI⟩:=wy (env:=X.env) (scope:=scope) λy hy=>I.ok.has y (.inl (cp.all y hy));refine wpAny_comprehension_free (use:=none) rfl hs pI.eq jx Ae (cI (hi ag s σ H _ I h) λv s1 h1=>cI h1 λRG s2 h2=>?_);obtain⟨it,fp,tn,J,H2,e,I2,T,Hf,f2,h2⟩:=h2;subst e;obtain⟨W,⟨m0,w0⟩,turn⟩:=h2 s2.heap.objs.size I2.fresh;have Gb:∀b∈fp,b < s2.heap.objs.size:=λb hb=>by obtain⟨o,e,_⟩:=T.obj _ _ Hf b hb;exact ba e
 refine iV (wpAny_newFunctionEnv jy (by intro y hy;simp at hy) (λh₁ Ad wa=>?_) jx);dsimp only at Ad wa ⊢;generalize MC:s2.heap.push { cls:=.type "list",dict:=none,data:=.seq ([]:List Value).toArray }=G2 at Ad wa ⊢;have Jd:G2.objs.size=s2.heap.objs.size+1:=by rw [<-MC,jj]
 have VM:s2.heap.objs.size≠G2.objs.size:=by rw [Jd];exact bM (mS _)
 have old:∀b o,s2.heap.get? b=some o->h₁.get? b=some o:=λb o e =>
  wa.extBut b o (by rw [Jd];exact bM (kx (ba e))) (bI _ (MC ▸ bI _ e))
 have lI:h₁.get? s2.heap.objs.size=some { cls:=.type "list",data:=.seq ([]:List Value).toArray 0 }:=wa.extBut _ _ VM (bI _ (MC ▸ cV _ rfl));generalize oh:sU X scope cl G2.objs.size s2 H2 (ts++js.map (·.2)) fp=X2;have I4:Inv X2 [] (eQ ts js σ) (upd H2 s2.heap.objs.size (.lst [])) { s2 with heap:=h₁,toks:=s2.toks+([]:List (Str×Value)).length }:=by
  rw [<-oh];exact uy I2 f2 Gb jx jy cp pI (by rw [Jd];exact mS _) rfl rfl old Ad lI
 have x1:X2.prog=X.prog:=by rw [<-oh];rfl
 have x2:X2.w=X.w:=by rw [<-oh];rfl
 have x3:X2.K=X.K:=by rw [<-oh];rfl
 have x4:X2.calm=true:=by rw [<-oh];exact hc
 have x5:X2.A=X.A:=by rw [<-oh];rfl
 have x6:X2.env=compEnvC scope cl G2.objs.size X.env:=by rw [<-oh];rfl
 have x7:X2.xe=λ_ _=>False:=by rw [<-oh];rfl
 have Vn:PG X2 tg g:=by rw [<-oh];exact hg _ _ _ _ _
 have Mq:Du X2 ifs tif:=by rw [<-oh];exact Vl _ _ _ _ _
 have Ho:PE X2 elt te:=by rw [<-oh];exact he _ _ _ _ _
 have OP:tn 0 h₁:=T.keep _ _ _ Hf λb _ o e=>old b o e;have rE:∀{H':Hp}{j6:List (Addr×Obj)},(∀b∈fp,H' b=none)->(∀p∈j6,p.1∉fp)->∀b∈fp,wD X2 j6 H' b:=λ{H' j6} hn hp b hb=>by
  have o4:=I4.ok;subst oh;exact⟨hn b hb,(o4.NY b hb).1,o4.C5 b hb,.inl hb,(o4.NY b hb).2,λp n6=>by
   have oB:p∈([]:List (Addr×Obj))++j6:=n6;rw [mQ] at oB;intro z;exact hp p oB (by rw [z];exact hb)⟩
 have fin:∀{s':Shared}{σ':St}{H':Hp},Inv X2 [] σ' H' s'->Q (.ref s2.heap.objs.size) H' ->
   compPost (model X.prog X.w) X.A X.xe none (EP X ag σ Q) (.ref s2.heap.objs.size) G2.objs.size (.ok .next) s':=λ{s' σ' H'} J' q=>by
  subst oh;obtain⟨m',I9,_⟩:=J'.loc;refine⟨m',I9,λh' NM=>?_⟩;have u:Un (CZ X.stack) fp H2 H' s2.heap s'.heap:=J'.base;have nC:∀b o,s2.heap.get? b=some o->b≠G2.objs.size:=λb o e=>by rw [Jd];exact bM (kx (ba e))
  have u':Un (CZ X.stack) fp H2 H' s2.heap h':=⟨λb o e n hb hx=>(NM.2 b (nC b o e)).trans (u.keep b o e n hb hx),λb o e n hb hx=>by
    obtain⟨sl,z⟩:=u.slot b o e n hb hx;exact⟨sl,(NM.2 b (nC b o e)).trans z⟩,u.free,λb o e hx=>by
    obtain⟨o',z⟩:=u.there b o e hx;exact⟨o',(NM.2 b (nC b o e)).trans z⟩,u.o8,u.mF,u.ng⟩
  have b0:l7 X.prog X.w H' h':=λb ob e=>by
   refine(J'.b0 b ob e).j_ (λc w' lH q'=>(NM.2 c ?_).trans q') (λ_ q=>q) λ_ _ q=>q;intro z;have fr:H' G2.objs.size=none:=J'.free;rcases lH with z' | z'
   .rw [<-z'] at e;rw [z,fr] at e;cases e
   rw [z,fr] at z';cases z'
  have I5:Inv X ag σ H' { s' with heap:=h' }:=I2.KL (s':={ s' with heap:=h' }) J'.os u' b0 J'.bare λb hb=>by
   obtain⟨_,f1,_,f3,f4,f5⟩:=f2 b hb;exact⟨f3,f1,f4,f5⟩
  exact⟨.ref s2.heap.objs.size,H',I5,rfl,q⟩
 have loop:∀s₃:Shared,s₃={ s2 with heap:=h₁,toks:=s2.toks+([]:List (Str×Value)).length } ->
   codeAny (model X.prog X.w) X.A (.compLoop (.ListComp elt [⟨tg,iter,ifs,0⟩] scope pos) 0 (.ref it) (.ref s2.heap.objs.size) (compEnvC scope cl G2.objs.size X.env))
    (compPost (model X.prog X.w) X.A X.xe none (EP X ag σ Q) (.ref s2.heap.objs.size) G2.objs.size) s₃:=by
  rintro s₃ rfl;subst oh;refine qh (λn s'=>∃i ys σ' H',Inv (sU X scope cl G2.objs.size s2 H2 (ts++js.map (·.2)) fp) [] σ' H' s'/\tn i s'.heap/\(∀b∈fp,H' b=none)/\W i n ys σ' H') ?_ m0
   ⟨0,[],_,_,I4,OP,λb hb=>by rw [aj (bM (Gb b hb))];exact(f2 b hb).1,w0⟩
  rintro n s' ⟨i,ys,σ0,H',J',wH,QA,w'⟩;rcases turn i n ys σ0 H' w' with ⟨stop,q⟩ | ⟨go,m',hm,step⟩
  .refine dG (T.done (sU X scope cl G2.objs.size s2 H2 (ts++js.map (·.2)) fp) rfl rfl rfl hc i [] s' _ H' (λ_ _=>False) J' (rE QA (by simp)) wH stop) (λr s4 ⟨hr,J4⟩=>?_) λ_ _ z=>z;subst hr;exact fin J4 q
  refine dG (T.item (sU X scope cl G2.objs.size s2 H2 (ts++js.map (·.2)) fp) rfl rfl rfl hc i [] s' _ H' (λ_ _=>False) J' (rE QA (by simp)) wH go) (λr s4 ⟨u,hr,h4⟩=>?_) λ_ _ z=>z;subst hr;refine dG h4 (λ_ s5 ⟨xv,H5,J5,r5,y5,B7,Qz⟩=>?_) λ_ _ z=>z;have W5:=J5.pinned (rE Qz (by simp)) (T.obj _ _ B7);have back:∀{s7:Shared}{σ7:St}{H7:Hp},Inv (sU X scope cl G2.objs.size s2 H2 (ts++js.map (·.2)) fp) ([]++px fp s5.heap) σ7 H7 s7->Inv (sU X scope cl G2.objs.size s2 H2 (ts++js.map (·.2)) fp) [] σ7 H7 s7/\tn (i+1) s7.heap/\∀b∈fp,H7 b=none:=λ{s7 σ7 H7} J7=>by
   refine⟨J7.kM,T.keep _ _ _ B7 λb hb o e=>(J7.pin (b,o) (fX _ (fX _ (gZ hb e)))).1,λb hb=>?_⟩;obtain⟨o,e,d⟩:=T.obj _ _ B7 b hb;exact(J7.pin (b,o) (fX _ (fX _ (gZ hb e)))).2.1
  show wpAny _ _ (assign tg (sU X scope cl G2.objs.size s2 H2 (ts++js.map (·.2)) fp).env u) _ _ s5;refine dG (Vn _ s5 _ H5 xv u _ W5 r5 (step xv H5 y5)) (λ_ s6 ⟨σ6,H6,J6,q6⟩=>?_) λ_ _ z=>z;refine dG (Mq _ s6 _ H6 _ J6 q6) (λb s7 ⟨H7,J7,q7⟩=>?_) λ_ _ z=>z;cases b with
  | false =>
   rw [az dO] at q7 ⊢;obtain⟨J8,Tn,VX⟩:=back J7;exact⟨m',hm,i+1,ys,σ6,H7,J8,Tn,VX,q7⟩
  | true =>
   rw [ax rfl] at q7 ⊢;refine dG (Ho _ s7 _ H7 _ J7 q7) (λyv s8 ⟨y,H8,J8,r8,ME,UN,w8⟩=>?_) λ_ _ z=>z;refine dG (bJ (X:=sU X scope cl G2.objs.size s2 H2 (ts++js.map (·.2)) fp) _ s8 _ H8 (.ref s2.heap.objs.size) [y] (.ref s2.heap.objs.size) [yv] (λv H'=>W (i+1) m' (ys++[y]) σ6 H') J8 rfl (.cons r8 .nil) ⟨s2.heap.objs.size,ys,y,rfl,rfl,ME,UN,w8⟩)
    (λ_ s9 ⟨_,H9,J9,_,w9⟩=>?_) λ_ _ z=>z
   obtain⟨W6,Lc,MO⟩:=back J9;exact⟨m',hm,i+1,ys++[y],σ6,H9,W6,Lc,MO,w9⟩
 exact codeAny_compStart_list (loop _ rfl) (T.self _ _ _ _ _ OP (loop _ rfl))
def Q_ (K:a9)(a:Addr):It :=
 ⟨λi H=>∃xs x,aI K H a xs/\xs[i]?=some x,λi H x H'=>∃t y,x=.ref t/\H t=none/\H'=upd H t (.tup [.int (i:Int),y])/\∀xs,aI K H a xs->xs[i]?=some y,λi H=>∃xs,aI K H a xs/\xs.length<=i⟩
def B3 {P:Program}{w:World}{K:a9}{elts:List Expr}{k:Nat}{vm:Pos}(a e it:Addr)(Qj:e≠it) :
  Turn P w K (.Tuple elts k vm) (Q_ K a) [e,it] e (λi h=>(∃old,IsEnum h e it i old)/\h.IsListIter it a i) where
 mem:=by simp
 obj:=λi h st b hb=>by
  obtain⟨⟨old,he⟩,o,e1,c,d⟩:=st;rcases cz.mp hb with rfl | hb
  .exact⟨_,he,λv z=>by cases z⟩
  obtain rfl:b=it:=by simpa using hb
  exact⟨o,e1,λv z=>by rw [d] at z;cases z⟩
 keep:=λi h h' st k=>⟨⟨st.1.choose,k e (by simp) _ st.1.choose_spec⟩,st.2.at λo q=>k it (by simp) o q⟩
 item:=by
  intro X hP hw hK hc i ag s σ H E I hf st hg;subst hP hw hK;obtain⟨xs,x,hq,hx⟩:=hg;obtain⟨aU,rv,p,hz⟩:=I.list hq;obtain⟨u,hu,ru⟩:=rv.get hx;obtain⟨⟨old,he⟩,hit⟩:=st;refine wpAny_pyNext_enum_item he hit p.isList (x:=u) (by simpa using hu) Qj λh1 ho Mp hT hsz hk=>?_;refine⟨_,rfl,wpAny_letOwnedTupleGo_enum ho λh2 Vs sb=>?_⟩;have ne:s.heap.objs.size≠e:=fc (ba he);have kk:∀b o,b≠e->b≠it->s.heap.get? b=some o->h2.get? b=some o:=λb o n1 n2 q=>(sb.2 b n1).trans (hk b o n1 n2 q);have T2:h2.get? s.heap.objs.size=some { cls:=.type "tuple",data:=.seq #[.int i s.toks,u] }:=(sb.2 _ ne).trans hT;have fe:=hf e (by simp);have fi:=hf it (by simp);have fT:H s.heap.objs.size=none:=I.b0.fresh (aH _);have tr:∀b v,H b=some v->b≠e/\b≠it:=λb v q=>⟨λz=>(by rw [z,fe.1] at q;cases q),λz=>(by rw [z,fi.1] at q;cases q)⟩;have nc:∀b,b∉[e,it]->b≠e/\b≠it:=λb z=>⟨λq=>z (by simp [q]),λq=>z (by simp [q])⟩;have lt:∀b o,s.heap.get? b=some o->b≠s.heap.objs.size:=λb o q=>bM (ba q);have I2:Inv X ag σ (upd H s.heap.objs.size (.tup [.int (i:Int),x])) { s with heap:=h2,toks:=s.toks+1 }:=by
   refine I.call (g':=s.gens) (t':=s.toks+1) (d':=s.drawn) (ch:=[e,it]) ⟨λb o q _ _ c=>kk b o (nc b c).1 (nc b c).2 q,λb o q _ _ c=>⟨o.slots,kk b o (nc b c).1 (nc b c).2 q⟩,
    λb o q n _=>by rw [aj (lt b o q)];exact n,λb o q c=>⟨o,kk b o (nc b c).1 (nc b c).2 q⟩,λb ys q=>by rw [aj (ay q fT)];exact q,λb o v q=>by rw [aj (ay q fT)];exact q,
    λb ps q=>⟨#[],by rw [aj (ay q fT),q];simp⟩⟩ (λb v q=>?_) I.bare (λb hb=>?_)
   .by_cases hb:b=s.heap.objs.size
    .subst hb;rw [ae] at q;cases q;exact⟨by show 2<=sizeLine;decide,[.int i s.toks,u],.cons ⟨_,rfl⟩ (.cons ru .nil),_,T2,rfl,_,rfl⟩
    rw [aj hb] at q;refine(I.b0 b v q).j_ (λc o lH z=>?_) (λc q'=>by rw [aj (ay q' fT)];exact q') λc ys q'=>by rw [aj (ay q' fT)];exact q'
    rcases lH with rfl | lH
    .exact kk c o (tr c _ q).1 (tr c _ q).2 z
    exact kk c o (tr c _ lH).1 (tr c _ lH).2 z
   rcases cz.mp hb with rfl | hb
   .exact⟨fe.2.2.2.1,fe.2.1,fe.2.2.2.2.1,fe.2.2.2.2.2⟩
   obtain rfl:b=it:=by simpa using hb
   exact⟨fi.2.2.2.1,fi.2.1,fi.2.2.2.2.1,fi.2.2.2.2.2⟩
  refine⟨.ref s.heap.objs.size,_,I2,rfl,⟨_,x,rfl,fT,rfl,λys hy=>by rw [I.sf hy hq];exact hx⟩,⟨⟨_,Vs⟩,Mp.at λo q=>(sb.2 it Qj.symm).trans q⟩,λb hb=>?_⟩;have Ht:H b=none/\∃o,s.heap.get? b=some o:=by
   rcases cz.mp hb with rfl | hb
   .exact⟨fe.1,_,he⟩
   obtain rfl:b=it:=by simpa using hb
   obtain⟨o,q,_⟩:=hit;exact⟨fi.1,o,q⟩
  obtain⟨n,o,q⟩:=Ht;rw [aj (lt b o q)];exact n
 done:=by
  intro X hP hw hK hc i ag s σ H E I hf st hg;subst hP hw hK;obtain⟨xs,hq,hx⟩:=hg;obtain⟨aU,rv,p,hz⟩:=I.list hq;obtain⟨⟨old,he⟩,hit⟩:=st;obtain⟨f0,f1,f2,f3,f4,f5⟩:=hf it (by simp);have hl:=rv.length;exact wpAny_pyNext_enum_end (I.ok.hd hc) he hit p.isList (by simp;omega) λh' eb=>⟨rfl,I.turned (t':=s.toks) (λb o hb e=>eb b o hb e) f0 f1 f3 f4 f5⟩
 self:=λ_ _ _ _ _ st h=>wpAny_pyIter_enum st.1.choose_spec h
def uN:bootBuiltins "enumerate"=some (.type "enumerate"):=by decide +kernel
def PQ (K:a9)(ta:TA):TI:=λσ H R=>ta σ H λvs H1=>∃a xs,vs=[.ref a]/\aI K H1 a xs/\R (Q_ K a) H1
def nQ {X:Cx}{elts:List Expr}{k:Nat}{vm:Pos}{l:Expr}{ta:TA}{p pos:Pos}(hg:Gl X "enumerate")(hm:X.mg "enumerate"=none)(ha:PA X [l] ta)(hs:starEach [l] X.env=[(false,eval l X.env)]:=by rfl) :
  PI X (.Tuple elts k vm) (.Call (.Name "enumerate" p) [l] [] pos) (PQ X.K ta):=by
 intro ag s σ H R I h;refine Call_ (iQ I hg hm uN (t_ (cI (ha pos ag s σ H _ I h) λus s1 ⟨vs,H1,I1,r1,q1⟩=>?_) hs rfl));obtain⟨a,xs,e,hq,q⟩:=q1;subst e;obtain⟨u,rfl,rx⟩:=r1.one;cases rx;obtain⟨aU,rv,pl,hz⟩:=I1.list hq;refine call_enumerate_list pl.isList λh1 he hit hsz hk=>wpAny_pyIter_enum he ?_;refine⟨s1.heap.objs.size+1,[s1.heap.objs.size+1,s1.heap.objs.size],_,_,H1,rfl,I1.kept (t':=s1.toks) λb o e=>hk b o e,B3 a _ _ (fc (mS _)),⟨⟨_,he⟩,hit⟩,λb hb=>?_,q⟩;rcases cz.mp hb with rfl | hb
 .exact I1.wj (oF _) (I1.b0.fresh (oF _))
 obtain rfl:b=s1.heap.objs.size:=by simpa using hb
 exact I1.wj (aH _) (I1.b0.fresh (aH _))
def cJ (kvs bz:List (aS×V)):List (aS×V):=kvs.foldl (λa p=>bR a p.1 p.2) bz
theorem sN:∀{kvs:List (aS×V)}{vs:List (aS×Value)}{bz:List (aS×V)}{GY:List (aS×Value)},KV kvs vs->KV bz GY->KV (cJ kvs bz) (vs.foldl (λa p=>stored a p.1 p.2) GY)
 | _,_,_,_,.nil,h=>h
 | _,_,_,_,.cons (a:=p) (b:=q) r t,h=>by
  obtain⟨e,rv⟩:=r;show KV (cJ _ (bR _ p.1 p.2)) (List.foldl _ (stored _ q.1 q.2) _);rw [<-e];exact sN t (h.put p.1 rv)
theorem sO:∀(kvs bz:List (aS×V)),(cJ kvs bz).length<=bz.length+kvs.length
 | [],bz=>by simp [cJ]
 | p::r,bz=>by
  have:=sO r (bR bz p.1 p.2);have:=ft bz p.1 p.2;show (cJ r (bR bz p.1 p.2)).length<=_;rw [dM];omega
section
variable {X:Cx}{ag:List (Addr×Obj)}{σ:St}{H:Hp}{s:Shared}
theorem pairs_at (I:Inv X ag σ H s):∀{ts:List Addr}{kvs:List (aS×V)}{aU:List Value},Paired (λt kv=>aQ X.K H t [kV kv.1,kv.2]) ts kvs->a_ (ts.map V.ref) aU ->
  ∃vs:List (aS×Value),KV kvs vs/\Paired (λu kv=>mK (bj X.prog X.w) s.heap u kv) aU vs
 | [],_,_,.nil,r=>by
  rw [jF] at r;cases r;exact⟨[],.nil,.nil⟩
 | t::ts,kv::kvs,_,.cons h p,r=>by
  rw [cq] at r;cases r with
  | cons r1 r2 =>
   obtain⟨vs,e1,e2⟩:=pairs_at I p r2;obtain⟨aU,rv,⟨o,h1,h2,n,h3⟩,_⟩:=I.tuple h;obtain⟨u1,u2,rfl,q1,q2⟩:=vals2 rv;exact⟨(kv.1,u2)::vs,.cons ⟨rfl,q2⟩ e1,.cons ⟨t,u1,n,o,r1,lX q1,h1,h2,h3⟩ e2⟩
theorem Paired.at_ {α β:Type}{F:α->β->Prop}:∀{xs:List α}{ys:List β},Paired F xs ys->∀(m:Nat)(y:β),ys[m]?=some y->∃x,xs[m]?=some x/\F x y
 | _,_,.nil,m,y,e=>by cases m <;> cases e
 | _,_,.cons h t,0,y,e=>by cases e;exact⟨_,rfl,h⟩
 | _,_,.cons h t,m+1,y,e=>Paired.at_ t m y e
def dC (hc:X.calm=true):ik X (.type "dict") (λxs H Q=>∃a ts kvs,xs=[.ref a]/\H a=some (.lst (ts.map V.ref))/\Paired (λt kv=>aQ X.K H t [kV kv.1,kv.2]) ts kvs/\∀d,H d=none->Q (.ref d) (upd H d (.dK (cJ kvs [])))):=by
 intro ag s σ H xs us Q I r h;obtain⟨a,ts,kvs,rfl,e,p,q⟩:=h;obtain⟨u,rfl,rx⟩:=vals1 r;cases (show u=Value.ref a from rx);obtain⟨z,aU,n,rv,ho⟩:=(show cE X.prog X.w H s.heap a (.lst _) from I.b0 a _ e);obtain⟨vs,r1,r2⟩:=pairs_at I p rv;have l1:=aY r2;have l2:=r1.length;have l3:=aY p;rw [au] at z;refine tq (bj X.prog X.w) (I.ok.hd hc) ho (by simpa using l1) (λm kv em=>?_) ∅ λh' t' hd kk=>?_
 .obtain⟨u,e1,e2⟩:=Paired.at_ r2 m kv em;exact⟨u,by simpa using e1,e2⟩
 have new:cE X.prog X.w (upd H s.heap.objs.size (.dK (cJ kvs []))) h' s.heap.objs.size (.dK (cJ kvs [])):=by
  refine sR ?_ ?_ (sN r1 .nil) hd
  .have:=sO kvs [];simp at this;omega
  have:=I.big;exact j4.mpr (fc this)
 exact⟨.ref s.heap.objs.size,_,I.laid (t':=t') kk (aH _) new,rfl,q _ (I.b0.fresh (aH _))⟩
theorem ju {α β:Type}{F:α->β->Prop}:∀{xs:List α}{ys:List β},xs.length=ys.length->(∀(j:Nat) x y,xs[j]?=some x->ys[j]?=some y->F x y)->Paired F xs ys
 | [],[],_,_=>.nil
 | [],_::_,e,_=>by cases e
 | _::_,[],e,_=>by cases e
 | x::xs,y::ys,e,h=>.cons (h 0 x y rfl rfl) (ju (Nat.succ.inj e) λj a b e1 e2=>h (j+1) a b e1 e2)
def Kf {P:Program}{w:World}{k:aS}{u:Value}(h:(bj P w).is k u=true):RelV (kV k) u:=by
 rcases dw (show sg k u=true from h) with ⟨i,t,rfl,rfl⟩ | ⟨x,t,rfl,rfl⟩
 .exact⟨t,rfl⟩
 exact⟨t,rfl⟩
def mI (hc:X.calm=true):ik X (.type "list") (λxs H Q=>∃a kvs,xs=[.ref a]/\H a=some (.dK kvs)/\∀D,H D=none->Q (.ref D) (upd H D (.lst (kvs.map λp=>kV p.1)))):=by
 intro ag s σ H xs us Q I r h;obtain⟨a,kvs,rfl,e,q⟩:=h;obtain⟨u,rfl,rx⟩:=vals1 r;cases (show u=Value.ref a from rx);obtain⟨z,hs,vs,rel,dd⟩:=xU I.b0 e;obtain⟨o,es,ep,d1,d2,d3,d4⟩:=dd;have l1:=rel.length;refine PySem.W.kdl_call (PySem.W.kdl_dict (knd:=bj X.prog X.w) (kvs:=vs) (ep:=ep) hs) (I.ok.hd hc) ⟨o,es,d1,d2,d3,d4⟩ ∅ λh' tk bz c kk hD lI=>?_;have keys:=rel.keys;have vals:a_ (kvs.map λp=>kV p.1) bz.toList:=by
  refine ju (by have h1:=lI.1;simp only [au,rg];omega) λj x y e1 e2=>?_;rw [Array.getElem?_toList] at e2;obtain⟨k,v,e3,e4⟩:=lI.2 j y e2;rw [bh] at e1;obtain⟨p,e5,rfl⟩:=cg.mp e1;have e6:(kvs.map (·.1))[j]?=some p.1:=by rw [bh,e5];rfl
  rw [keys,bh,e3] at e6;cases e6;exact Kf e4
 have new:cE X.prog X.w (upd H s.heap.objs.size (.lst (kvs.map λp=>kV p.1))) h' s.heap.objs.size (.lst (kvs.map λp=>kV p.1)):=⟨by rw [au];exact z,bz.toList,c,vals,by simpa using hD⟩;exact⟨.ref s.heap.objs.size,_,I.laid (t':=tk) kk (aH _) new,rfl,q _ (I.b0.fresh (aH _))⟩
end
def mJ (v:V):Prop:=iR v=true\/∃r,v=.ref r
def Gr {x:V}(h:iR x=true):xR x x=true:=by
 cases x with
 | d6=>rfl
 | bl b=>exact oT b
 | int i=>exact oT i
 | str z=>exact oT z
 | _=>cases h
def mH {A:Around}{s:Shared}{x:V}{u v:Value}(h:mJ x)(ru:RelV x u)(rv:RelV x v):SeqAt.EqAt A s u v true:=by
 rcases h with h | ⟨r,rfl⟩
 .have q:=As (A:=A) (s:=s) ru rv h h;rw [Gr h] at q;exact q
 cases (show u=Value.ref r from ru);cases (show v=Value.ref r from rv);exact .same _
def so {A:Around}{s:Shared}{xs:List V}{aU cH:List Value}(r:a_ xs aU)(r2:a_ xs cH)(hx:∀v∈xs,mJ v) (j:Nat)(h1:j < aU.toArray.size)(h2:j < cH.toArray.size) :
  SeqAt.EqAt A s aU.toArray[j] cH.toArray[j] true:=by
 have l1:=r.length;have k1:j < aU.length:=by simpa using h1
 have k2:j < cH.length:=by simpa using h2
 have g1:xs[j]?=some (xs[j]'∅):=b_ ∅;obtain⟨u1,e1,q1⟩:=r.get g1;obtain⟨u2,e2,q2⟩:=r2.get g1;have f1:aU.toArray[j]=u1:=by
  have:=(bq.mp e1).2;simpa using this
 have f2:cH.toArray[j]=u2:=by
  have:=(bq.mp e2).2;simpa using this
 rw [f1,f2];exact mH (hx _ (oS _)) q1 q2
def JS (K:a9)(b:Bool):V->V->Hp->VK->Prop:=λx y H Q=>∃p q xs,x=.ref p/\y=.ref q/\aI K H p xs/\aI K H q xs/\(∀v∈xs,mJ v)/\Q (.bl b) H
def LJ {X:Cx}(hu:X.A.units < cLine):ji X (compareOp .Eq) (JS X.K true):=by
 intro ag s σ H x y v u Q I rx ry h;obtain⟨a,b,xs,rfl,rfl,ha,hb,hx,q⟩:=h;cases rx;cases ry;obtain⟨aU,r,pl,hz⟩:=I.list ha;obtain⟨cH,r2,tR,NJ⟩:=I.list hb;have l1:=r.length;have l2:=r2.length;refine SeqAt.eq_listAt (e:=λ_=>true) pl.isList tR.isList (by simp only [bQ];omega) hu (λj h1 h2=>so r r2 hx j h1 h2) ?_;have e:((List.range aU.toArray.size).all λ_=>true)=true:=by simp
 rw [e];exact⟨.bl true,H,I,rfl,q⟩
def zL {X:Cx}(hu:X.A.units < cLine):ji X (compareOp .NotEq) (JS X.K false):=by
 intro ag s σ H x y v u Q I rx ry h;obtain⟨a,b,xs,rfl,rfl,ha,hb,hx,q⟩:=h;cases rx;cases ry;obtain⟨aU,r,pl,hz⟩:=I.list ha;obtain⟨cH,r2,tR,NJ⟩:=I.list hb;have l1:=r.length;have l2:=r2.length;refine SeqAt.RcNeAt.lists (e:=λ_=>true) pl.isList tR.isList (by simp only [bQ];omega) hu (λj h1 h2=>so r r2 hx j h1 h2) X.prog X.w X.xe _ ?_;have e:(!(List.range aU.toArray.size).all λ_=>true)=false:=by simp
 rw [e];exact⟨.bl false,H,I,rfl,q⟩
section
variable {K:a9}{a D:Addr}{xs:List V}{ts:List Str}{js:List (Nat×Str)}{g:TG}{tif:TT}{te:TE}{R:Hp->Prop}{σ:St}{H:Hp}
def cD (Pv:Nat->List V->St->Hp->Prop)(h0:Pv 0 [] (eQ ts js σ) (upd H D (.lst [])))(hl:∀i ys σ H,i<=xs.length->Pv i ys σ H->aI K H a xs)
  (hs:∀i x ys σ H,xs[i]?=some x->Pv i ys σ H->g x σ H λσ2 H2=>tif σ2 H2 λb H3=>if b=true then te σ2 H3 λy H4=>H4 D=some (.lst ys)/\ys.length < sizeLine/\Pv (i+1) (ys++[y]) σ2 (upd H4 D (.lst (ys++[y]))) else Pv (i+1) ys σ2 H3)
  (hd:∀ys σ H,Pv xs.length ys σ H->R H) :
  ∃W:Nat->Nat->List V->St->Hp->Prop,(∃m,W 0 m [] (eQ ts js σ) (upd H D (.lst []))) /\
 ∀i m ys σ' H,W i m ys σ' H->((j9 K a).stop i H/\R H)\/((j9 K a).go i H/\∃m',m' < m/\∀x H',(j9 K a).mZ i H x H'->g x σ' H' λσ2 H2=>tif σ2 H2 λb H3 =>
  if b=true then te σ2 H3 λy H4=>H4 D=some (.lst ys)/\ys.length < sizeLine/\W (i+1) m' (ys++[y]) σ2 (upd H4 D (.lst (ys++[y]))) else W (i+1) m' ys σ2 H3):=by
 refine⟨λi m ys σ H=>m=xs.length - i/\i<=xs.length/\Pv i ys σ H,⟨xs.length,by simp,gA _,h0⟩,?_⟩;rintro i m ys σ' H ⟨rfl,hi,p⟩;have q:=hl i ys σ' H hi p;by_cases ke:i < xs.length
 .refine .inr ⟨⟨xs,xs[i],q,by simp [ke]⟩,xs.length - (i+1),∅,λx H' y=>?_⟩;obtain⟨e,y⟩:=y;subst e;have z:=hs i x ys σ' _ (y xs q) p;have h1:(i+1<=xs.length)=True:=eq_true ke;simp only [h1,true_and];exact z
 have e:i=xs.length:=by omega
 subst e;exact .inl ⟨⟨xs,q,aH _⟩,hd ys σ' H p⟩
end
def fu {K:a9}{t:Value}:PySem.W.kitOne K t t=some true:=by unfold PySem.W.kitOne;rw [ax (oT t)]
def OL (t:TS):TS:=λD σ H=>∃R:St->Hp->Prop,t { D with nx:=R } σ H/\∀σ' H',R σ' H'->D.nx σ' H'
def nK {X:Cx}{st:Stmt}{t:TS}(h:PS X st t):PS X st (OL t):=by
 intro ag s σ H D I ⟨R,q,m⟩;refine cI (h ag s σ H _ I q) λf s1 z=>?_;cases f with
 | next=>obtain⟨σ',H',I',r⟩:=z;exact⟨σ',H',I',m _ _ r⟩
 | ret v=>exact z
 | brk=>exact z
 | cont=>exact z
def aB (P:Program)(w:World)(K:a9)(mg:Str->Option Value)(base:Heap) (k:Nat)(x:Str) (ps:List Str)(sp:Sp):Prop :=
 ∃f fd,bN P w K mg base fj k f fd ps sp/\Binds K fd ps []/\PySem.W.keepIn K (.ref f)=true/\mg x=some (.ref f)
theorem aB.mono {P:Program}{w:World}{K:a9}{mg:Str->Option Value}{base:Heap}{j k:Nat}{x:Str}{ps:List Str}{sp:Sp}(c:aB P w K mg base j x ps sp)(h:j<=k):aB P w K mg base k x ps sp :=
 let ⟨f,fd,a,b⟩:=c;⟨f,fd,a.mono h,b⟩
def a8 {X:Cx}{k:Nat}{x:Str}{ps:List Str}{sp:Sp}{e:Expr}{es:List Expr}{t:TA}{p pos:Pos}(c:aB X.prog X.w X.K X.mg X.base k x ps sp)(hr:fh k X.A)(hg:Gl X x)(ha:PA X (e::es) t)
  (CS:(x == ("__debug__":Str))=false:=by decide)(he:starEach (e::es) X.env=(false,eval e X.env)::starEach es X.env:=by rfl)(yw:(backTo pos (starEach es X.env)).any (·.1)=false:=by rfl) :
  PE X (.Call (.Name x p) (e::es) [] pos) (JF sp [] E0 t):=by
 obtain⟨f,fd,G,b,kp,m⟩:=c;exact IB G hr hg m kp b .nil uk ha CS he yw
def fits {n:Nat}(h:n<=1000000):n<=sizeLine:=fV h (by decide)
def bK {n:Nat}(h:n<=1000000):n < sizeLine:=pX h (by decide)
def af {H:Hp}{p:Addr}(h:H p=none)(o:HO):aC H (upd H p o):=λb u q=>by rw [aj (ay q h)];exact q
def aC.tup {K:a9}{H H':Hp}{a:Addr}{xs:List V}(e:aC H H')(h:aQ K H a xs):aQ K H' a xs:=by
 rcases h with (h | ⟨o,h⟩) | h
 .exact .inl (.inl (e _ _ h))
 .exact .inl (.inr ⟨o,e _ _ h⟩)
 exact .inr h
def iE {X:Cx}(hc:X.calm=true):ik X (.builtin "all") (λxs H Q=>∃(a:Addr)(bs:List Bool),xs=[.ref a]/\aI X.K H a (bs.map V.bl)/\Q (.bl (bs.all id)) H):=by
 intro ag s σ H xs us Q I r h;obtain⟨a,bs,rfl,hq,q⟩:=h;obtain⟨u,rfl,rx⟩:=vals1 r;cases (show u=Value.ref a from rx);obtain⟨aU,rv,pl,hz⟩:=I.list hq;obtain⟨o,h1,h2,m,h3⟩:=id pl.isList;have la:a < s.heap.objs.size:=ba h1;have ln:=rv.length;rw [au] at ln;have isB:∀(i:Nat) v,aU.toArray[i]?=some v->v=.bool (bs.getD i true):=λi v e=>by
  have e':aU[i]?=some v:=by simpa using e
  obtain⟨x,e2,e3⟩:=Paired.at_ rv i v e';rw [bh] at e2;obtain⟨b,e4,rfl⟩:=cg.mp e2;rw [wL,e4];exact e3
 refine call_all_walk (oQ pl.isList ?_);refine⟨s.heap.objs.size,_,_,_,_,_,λi=>bs.getD i true,rfl,Walks.list (A:=X.A.in1) (show X.A.in1.handled=none from I.ok.hd hc) s.heap.objs.size a (bM la) aU.toArray,⟨⟨_,cV _ rfl,rfl,rfl⟩,⟨o,bI _ h1,h2,m,h3⟩⟩,?_,λh' tk kk=>?_⟩
 .intro i v s1 Q1 E1 hP hQ1;rw [isB i v hP];exact kj hQ1
 have e:((List.range aU.toArray.size).all λi=>bs.getD i true)=bs.all id:=by
  rw [bQ,<-ln,mN,gB,gB];constructor
  .intro h b hb;obtain⟨i,hi,e⟩:=qQ.mp hb;have:=h i (kJ.mpr hi);rw [wL,b_ hi,e] at this;exact this
  intro h i hi;have YQ:=kJ.mp hi;rw [wL,b_ YQ];exact h _ (oS YQ)
 rw [e];exact⟨.bl _,H,I.kept (t':=tk) λb o' e'=>kk b o' (by simp;exact bM (ba e')) (bI _ e'),rfl,q⟩
section
variable {prog:Program}{w:World}{A:Around}{E:Value->Shared->Prop}{s:Shared}
def iO {it l:Addr}{i:Nat}{items:Array Value}{x:Value}{Q:Value->Shared->Prop}(hit:s.heap.IsTupleIter it l i)(hl:s.heap.IsTuple l items)(hx:items[i]?=some x)
  (hQ:∀h',h'.IsTupleIter it l (i+1)->Heap.SameBut it s.heap h'->Q x { s with heap:=h' }):wpAny (model prog w) A (Builtin.SmallTypes.nextOf (.ref it)) Q E s:=by
 obtain⟨o,ho,hc,hd⟩:=id hit;obtain⟨ol,U_,_,nl,Ql⟩:=hl;unfold Builtin.SmallTypes.nextOf;refine ar (mV (name:=Str.ofString "__next__") hit.typeIs vf (lP vf hit.typeIs F.entry_tuple_iterator_next ?_ (F.args_tuple_iterator_next_1 _)));show wpAny _ _ (field (.ref it) 0 >>= λv=>_) _ _ s;refine ar (d_ ho hd (x:=.ref l) (by rfl) ?_);show wpAny _ _ (if (Value.ref l == .none)=true then _ else _) _ _ s;rw [az (by exact dO)];show wpAny _ _ (field (.ref it) 1 >>= λv=>_) _ _ s;refine ar (d_ ho hd (x:=.int i 0) (by rfl) ?_);show wpAny _ _ (seqItems? (.ref l) >>= λv=>_) _ _ s;refine ar (jk U_ Ql (by
  simp only [kn,hx];refine ar (wpAny_setField ho hd (by simp) (aR ⟨x,rfl,aR (hQ _ ⟨_,oZ _ ho (Obj.isFreed_of_fields (Obj.data_mapFields hd _)),(Obj.cls_mapFields ..).trans hc,?_⟩ (Heap.SameBut.update ..))⟩));rw [Obj.data_mapFields hd];simp [rawInt]))
def Au {e it l:Addr}{i:Nat}{items:Array Value}{x old:Value}{Q:Option Value->Shared->Prop}(he:IsEnum s.heap e it i old)(hit:s.heap.IsTupleIter it l i)(hl:s.heap.IsTuple l items)(hx:items[i]?=some x)(DK:e≠it)
  (hQ:∀h',IsEnumOut h' e it ((i:Int)+1) x s.heap.objs.size->h'.IsTupleIter it l (i+1)->h'.get? s.heap.objs.size=some { cls:=.type "tuple",data:=.seq #[.int i s.toks,x] } ->
   (∀b o,b≠e->b≠it->s.heap.get? b=some o->h'.get? b=some o)->Q (some (.ref s.heap.objs.size)) { s with heap:=h',toks:=s.toks+1 }) :
  wpAny (model prog w) A (pyNext (.ref e)) Q E s:=by
 have hT:s.TypeIs (.ref e) "enumerate" := ⟨_,he,rfl⟩;unfold pyNext;refine ar (oG (mV (name:=Str.ofString "__next__") hT u6 (lP u6 hT F.entry_enumerate_next ?_ (F.args_enumerate_next_1 _))));obtain⟨hp,g,d,tk,os⟩:=s;show wpAny _ _ (field (.ref e) 2 >>= λv=>_) _ _ _;refine ar (d_ he rfl (x:=.ref it) (by rfl) (ar (iO hit hl hx λh₁ Vj P2=>?_)));replace P2:Heap.SameBut it hp h₁:=P2;have Vr:IsEnum h₁ e it i old:=(P2.2 e DK).trans he;show wpAny _ _ (field (.ref e) 3 >>= λv=>_) _ _ ⟨h₁,g,d,tk,os⟩;refine ar (d_ Vr rfl (x:=rawInt i) (by rfl) ?_);show wpAny _ _ (field (.ref e) 4 >>= λv=>_) _ _ ⟨h₁,g,d,tk,os⟩;refine ar (d_ Vr rfl (x:=.none) (by rfl) ?_);show wpAny _ _ (mkInt i >>= λv=>_) _ _ ⟨h₁,g,d,tk,os⟩;refine ar (wpAny_mkInt ?_);show wpAny _ _ (setField (.ref e) 3 (rawInt ((i:Int)+1)) >>= λv=>_) _ _ ⟨h₁,g,d,tk+1,os⟩;refine ar (jX Vr (by simp) λh₂ f₂ hs₂=>?_);have he₂:IsEnum h₂ e it ((i:Int)+1) old:=f₂;have k₂:Heap.SameBut e h₁ h₂:=hs₂;show wpAny _ _ (setField (.ref e) 4 .none >>= λv=>_) _ _ ⟨h₂,g,d,tk+1,os⟩;refine ar (jX he₂ (by simp) λh₃ f₃ hs₃=>?_);have he₃:IsEnum h₃ e it ((i:Int)+1) old:=f₃;have k₃:Heap.SameBut e h₂ h₃:=hs₃;show wpAny _ _ (newTuple [.int i tk,x] >>= λv=>_) _ _ ⟨h₃,g,d,tk+1,os⟩;refine ar (qS ?_);have RP:IsEnum (h₃.push { cls:=.type "tuple",data:=.seq #[.int i tk,x] }) e it ((i:Int)+1) old:=bI _ he₃;have hsz:h₃.objs.size=hp.objs.size:=by rw [k₃.1,k₂.1,P2.1]
 have Qi:e < hp.objs.size:=ba he;have YC:(h₃.push { cls:=.type "tuple",data:=.seq #[.int i tk,x] }).get? hp.objs.size=some { cls:=.type "tuple",data:=.seq #[.int i tk,x] }:=by rw [<-hsz];exact cV _ rfl
 have YL:∀b o,b≠e->b≠it->hp.get? b=some o->(h₃.push { cls:=.type "tuple",data:=.seq #[.int i tk,x] }).get? b=some o:=λb o n1 n2 hb=>bI _ (k₃.extBut b o n1 (k₂.extBut b o n1 (P2.extBut b o n2 hb)));have Qe:(h₃.push { cls:=.type "tuple",data:=.seq #[.int i tk,x] }).IsTupleIter it l (i+1):=Vj.at λo q=>bI _ (k₃.extBut it o (cO DK) (k₂.extBut it o (cO DK) q));generalize h₃.push { cls:=.type "tuple",data:=.seq #[.int i tk,x] }=h₄ at RP YC YL Qe ⊢;rw [hsz];show wpAny _ _ (Builtin.SmallTypes.ownedTupleIsFree (.ref e) >>= λv=>_) _ _ ⟨h₄,g,d,tk+1,os⟩;refine ar (by
  unfold Builtin.SmallTypes.ownedTupleIsFree;refine ar (d_ RP rfl (x:=.none) (by rfl) (aR (by
   simp only [if_true];refine ar (i_ (ar (d_ RP rfl (x:=old) (by rfl) (ar (jX RP (by simp) λh₅ f₅ hs₅=>?_)))));have he₅:IsEnum h₅ e it ((i:Int)+1) x:=f₅;have k₅:Heap.SameBut e h₄ h₅:=hs₅;show wpAny _ _ (Builtin.SmallTypes.ownedTupleHandOut (.ref e) (.ref hp.objs.size) >>= λv=>_) _ _ ⟨h₅,g,d,tk+1,os⟩;refine ar (by
    unfold Builtin.SmallTypes.ownedTupleHandOut;refine ar (jX he₅ (by simp) λh₆ f₆ hs₆=>?_);have he₆:IsEnumOut h₆ e it ((i:Int)+1) x hp.objs.size:=f₆;have k₆:Heap.SameBut e h₅ h₆:=hs₆;refine jX he₆ (by simp) λh₇ f₇ hs₇=>?_;have he₇:IsEnumOut h₇ e it ((i:Int)+1) x hp.objs.size:=f₇;have k₇:Heap.SameBut e h₆ h₇:=hs₇;have up:∀b o,b≠e->h₄.get? b=some o->h₇.get? b=some o:=λb o n q=>k₇.extBut b o n (k₆.extBut b o n (k₅.extBut b o n q));exact ar (wpAny_letGo (aR ⟨_,rfl,aR (hQ h₇ he₇ (Qe.at λo q=>up it o (cO DK) q) (up _ _ (fc Qi) YC) λb o n1 n2 q=>up b o n1 (YL b o n1 n2 q))⟩)))))))
def iN {it l:Addr}{i:Nat}{items:Array Value}{Q:Value->Shared->Prop}(hh:A.handled=none)(hit:s.heap.IsTupleIter it l i)(hl:s.heap.IsTuple l items)(hx:items[i]?=none)
  (hE:∀h' e,Heap.ExtBut it s.heap h'->(∃o,h'.get? e=some o/\o.cls=.type "StopIteration")->E (.ref e) { s with heap:=h' }):wpAny (model prog w) A (Builtin.SmallTypes.nextOf (.ref it)) Q E s:=by
 obtain⟨o,ho,hc,hd⟩:=id hit;obtain⟨ol,U_,_,nl,Ql⟩:=hl;unfold Builtin.SmallTypes.nextOf;refine ar (mV (name:=Str.ofString "__next__") hit.typeIs vf (lP vf hit.typeIs F.entry_tuple_iterator_next ?_ (F.args_tuple_iterator_next_1 _)));show wpAny _ _ (field (.ref it) 0 >>= λv=>_) _ _ s;refine ar (d_ ho hd (x:=.ref l) (by rfl) ?_);show wpAny _ _ (if (Value.ref l == .none)=true then _ else _) _ _ s;rw [az (by exact dO)];show wpAny _ _ (field (.ref it) 1 >>= λv=>_) _ _ s;refine ar (d_ ho hd (x:=.int i 0) (by rfl) ?_);show wpAny _ _ (seqItems? (.ref l) >>= λv=>_) _ _ s;refine ar (jk U_ Ql ?_);simp only [kn,hx];refine ar (i_ (ar (wpAny_setField ho hd (by simp) (ar ?_))));simp only [newExc,newTuple];refine ar (iV ?_ (by size_fits));refine ar (m:=firstArgMember _ _) (wpAny_of_eq (a:=Value.none) (by first | rfl | (simp only [firstArgMember];rfl)) ?_)
 refine iV ?_ (by size_fits);simp only [raiseNew];refine ar (wpAny_handled ?_)
 first | rw [show A.in1.handled=none from hh] | rw [hh]
 refine ar (aR (wpAny_throw (hE _ _ (((Heap.SameBut.update ..).extBut.push _).push _) ⟨_,cV _ rfl,rfl⟩)))
def C6 {e it l:Addr}{i:Nat}{items:Array Value}{old:Value}{Q:Option Value->Shared->Prop}(hh:A.handled=none)(he:IsEnum s.heap e it i old)(hit:s.heap.IsTupleIter it l i)(hl:s.heap.IsTuple l items)(hx:items[i]?=none)
  (hQ:∀h',Heap.ExtBut it s.heap h'->Q none { s with heap:=h' }):wpAny (model prog w) A (pyNext (.ref e)) Q E s:=by
 have hT:s.TypeIs (.ref e) "enumerate" := ⟨_,he,rfl⟩;unfold pyNext;refine ar (oG (mV (name:=Str.ofString "__next__") hT u6 (lP u6 hT F.entry_enumerate_next ?_ (F.args_enumerate_next_1 _))));show wpAny _ _ (field (.ref e) 2 >>= λv=>_) _ _ _;refine ar (d_ he rfl (x:=.ref it) (by rfl) (ar (iN hh hit hl hx λh' x Ho UQ=>?_)));obtain⟨o,ho,hc⟩:=UQ;exact ar (wpAny_isInstance (T := "StopIteration") (b:=true) ⟨o,ho,hc⟩ isSubtype_stop (aR (hQ _ Ho)))
end
def xG (l:Addr)(items:Array Value) (n:Nat)(yD:Option Addr)(sl:Array (Option Value)) :
  Meets (Builtin.«enumerate.__new__» ⟨[.type "enumerate",.ref l],[]⟩) (λ_ R s=>s.heap.get? l=some { cls:=.type "tuple",dict:=yD,data:=.seq items n,slots:=sl } /\
   R (.ok (.ret (.ref (s.heap.push { cls:=.type "tuple_iterator",data:=.fields #[.ref l,.int 0 0] }).objs.size)))
    { s with heap:=(s.heap.push { cls:=.type "tuple_iterator",data:=.fields #[.ref l,.int 0 0] }).push { cls:=.type "enumerate",data:=.fields #[.none,.bool false,.ref s.heap.objs.size,rawInt 0,.none,.none] } }) :=
 .of_wp λprog w A R s h=>by
  obtain⟨hp,g,d,tk,os⟩:=s;obtain⟨hl,h⟩:=h;have aai:=sub_enumerate;have hT:Heap.IsTuple (Shared.heap ⟨hp,g,d,tk,os⟩) l items:=⟨_,hl,rfl,n,rfl⟩
  wp_walk using vc hl
  refine wpAny_stack_any λst=>aR ?_;split
  .rename_i c _ _ _ _ _
   cases (c == Value.type "enumerate")
   .wp_walk using vc hl,oV hT;exact⟨_,rfl,h⟩
   wp_walk using vc hl,oV hT;exact⟨_,rfl,h⟩
  wp_walk using vc hl,oV hT;exact⟨_,rfl,h⟩
section
variable {prog:Program}{w:World}{A:Around}{E:Value->Shared->Prop}{s:Shared}
def AA {l:Addr}{items:Array Value}{Q:Value->Shared->Prop}(hL:s.heap.IsTuple l items)
  (h:∀h',IsEnum h' (s.heap.objs.size+1) s.heap.objs.size 0 .none->h'.IsTupleIter s.heap.objs.size l 0->(∀b o,s.heap.get? b=some o->h'.get? b=some o)->Q (.ref (s.heap.objs.size+1)) { s with heap:=h' }) :
  wpAny (model prog w) A (call (.type "enumerate") [.ref l]) Q E s:=by
 obtain⟨⟨c,yD,dt,sl⟩,hl,hc,n,hd⟩:=hL;replace hc:c=.type "tuple" := hc;replace hd:dt=.seq items n:=hd;subst hc hd;refine callType_new F.called_enumerate (by decide) (F.typeCall_enumerate_1 _) (F.newCall_enumerate_1 _) (λobj=>F.args_object_init_2 obj _) F.entry_enumerate_new (xG l items n yD sl) ⟨hl,?_⟩;have hz:(s.heap.push { cls:=.type "tuple_iterator",data:=.fields #[.ref l,.int 0 0] }).objs.size=s.heap.objs.size+1:=jj ..;show _/\_;rw [hz];have he:IsEnum ((s.heap.push { cls:=.type "tuple_iterator",data:=.fields #[.ref l,.int 0 0] }).push { cls:=.type "enumerate",data:=.fields #[.none,.bool false,.ref s.heap.objs.size,rawInt 0,.none,.none] }) (s.heap.objs.size+1) s.heap.objs.size 0 .none:=by
  have:=cV (s.heap.push { cls:=.type "tuple_iterator",data:=.fields #[.ref l,.int 0 0] }) (o:={ cls:=.type "enumerate",data:=.fields #[.none,.bool false,.ref s.heap.objs.size,rawInt 0,.none,.none] }) rfl;rw [hz] at this;exact this
 exact⟨⟨_,he,rfl⟩,h _ he ⟨_,bI _ (cV _ rfl),rfl,rfl⟩ λb o x=>bI _ (bI _ x)⟩
end
def tF (K:a9)(a:Addr):It :=
 ⟨λi H=>∃xs x,aQ K H a xs/\xs[i]?=some x,λi H x H'=>∃t y,x=.ref t/\H t=none/\H'=upd H t (.tup [.int (i:Int),y])/\∀xs,aQ K H a xs->xs[i]?=some y,λi H=>∃xs,aQ K H a xs/\xs.length<=i⟩
def yR {P:Program}{w:World}{K:a9}{elts:List Expr}{k:Nat}{vm:Pos}(a e it:Addr)(Qj:e≠it) :
  Turn P w K (.Tuple elts k vm) (tF K a) [e,it] e (λi h=>(∃old,IsEnum h e it i old)/\h.IsTupleIter it a i) where
 mem:=by simp
 obj:=λi h st b hb=>by
  obtain⟨⟨old,he⟩,o,e1,c,d⟩:=st;rcases cz.mp hb with rfl | hb
  .exact⟨_,he,λv z=>by cases z⟩
  obtain rfl:b=it:=by simpa using hb
  exact⟨o,e1,λv z=>by rw [d] at z;cases z⟩
 keep:=λi h h' st k=>⟨⟨st.1.choose,k e (by simp) _ st.1.choose_spec⟩,st.2.at λo q=>k it (by simp) o q⟩
 item:=by
  intro X hP hw hK hc i ag s σ H E I hf st hg;subst hP hw hK;obtain⟨xs,x,hq,hx⟩:=hg;obtain⟨aU,rv,p,hz⟩:=I.tuple hq;obtain⟨u,hu,ru⟩:=rv.get hx;obtain⟨⟨old,he⟩,hit⟩:=st;refine Au he hit (show s.heap.IsTuple a aU.toArray from p) (x:=u) (by simpa using hu) Qj λh1 ho Mp hT hk=>?_;refine⟨_,rfl,wpAny_letOwnedTupleGo_enum ho λh2 Vs sb=>?_⟩;have ne:s.heap.objs.size≠e:=fc (ba he);have kk:∀b o,b≠e->b≠it->s.heap.get? b=some o->h2.get? b=some o:=λb o n1 n2 q=>(sb.2 b n1).trans (hk b o n1 n2 q);have T2:h2.get? s.heap.objs.size=some { cls:=.type "tuple",data:=.seq #[.int i s.toks,u] }:=(sb.2 _ ne).trans hT;have fe:=hf e (by simp);have fi:=hf it (by simp);have fT:H s.heap.objs.size=none:=I.b0.fresh (aH _);have tr:∀b v,H b=some v->b≠e/\b≠it:=λb v q=>⟨λz=>(by rw [z,fe.1] at q;cases q),λz=>(by rw [z,fi.1] at q;cases q)⟩;have nc:∀b,b∉[e,it]->b≠e/\b≠it:=λb z=>⟨λq=>z (by simp [q]),λq=>z (by simp [q])⟩;have lt:∀b o,s.heap.get? b=some o->b≠s.heap.objs.size:=λb o q=>bM (ba q);have I2:Inv X ag σ (upd H s.heap.objs.size (.tup [.int (i:Int),x])) { s with heap:=h2,toks:=s.toks+1 }:=by
   refine I.call (g':=s.gens) (t':=s.toks+1) (d':=s.drawn) (ch:=[e,it]) ⟨λb o q _ _ c=>kk b o (nc b c).1 (nc b c).2 q,λb o q _ _ c=>⟨o.slots,kk b o (nc b c).1 (nc b c).2 q⟩,
    λb o q n _=>by rw [aj (lt b o q)];exact n,λb o q c=>⟨o,kk b o (nc b c).1 (nc b c).2 q⟩,λb ys q=>by rw [aj (ay q fT)];exact q,λb o v q=>by rw [aj (ay q fT)];exact q,
    λb ps q=>⟨#[],by rw [aj (ay q fT),q];simp⟩⟩ (λb v q=>?_) I.bare (λb hb=>?_)
   .by_cases hb:b=s.heap.objs.size
    .subst hb;rw [ae] at q;cases q;exact⟨by show 2<=sizeLine;decide,[.int i s.toks,u],.cons ⟨_,rfl⟩ (.cons ru .nil),_,T2,rfl,_,rfl⟩
    rw [aj hb] at q;refine(I.b0 b v q).j_ (λc o lH z=>?_) (λc q'=>by rw [aj (ay q' fT)];exact q') λc ys q'=>by rw [aj (ay q' fT)];exact q'
    rcases lH with rfl | lH
    .exact kk c o (tr c _ q).1 (tr c _ q).2 z
    exact kk c o (tr c _ lH).1 (tr c _ lH).2 z
   rcases cz.mp hb with rfl | hb
   .exact⟨fe.2.2.2.1,fe.2.1,fe.2.2.2.2.1,fe.2.2.2.2.2⟩
   obtain rfl:b=it:=by simpa using hb
   exact⟨fi.2.2.2.1,fi.2.1,fi.2.2.2.2.1,fi.2.2.2.2.2⟩
  refine⟨.ref s.heap.objs.size,_,I2,rfl,⟨_,x,rfl,fT,rfl,λys hy=>by rw [I.ub hy hq];exact hx⟩,⟨⟨_,Vs⟩,Mp.at λo q=>(sb.2 it Qj.symm).trans q⟩,λb hb=>?_⟩;have Ht:H b=none/\∃o,s.heap.get? b=some o:=by
   rcases cz.mp hb with rfl | hb
   .exact⟨fe.1,_,he⟩
   obtain rfl:b=it:=by simpa using hb
   obtain⟨o,q,_⟩:=hit;exact⟨fi.1,o,q⟩
  obtain⟨n,o,q⟩:=Ht;rw [aj (lt b o q)];exact n
 done:=by
  intro X hP hw hK hc i ag s σ H E I hf st hg;subst hP hw hK;obtain⟨xs,hq,hx⟩:=hg;obtain⟨aU,rv,p,hz⟩:=I.tuple hq;obtain⟨⟨old,he⟩,hit⟩:=st;obtain⟨f0,f1,f2,f3,f4,f5⟩:=hf it (by simp);have hl:=rv.length;exact C6 (I.ok.hd hc) he hit (show s.heap.IsTuple a aU.toArray from p) (by simp;omega) λh' eb=>⟨rfl,I.turned (t':=s.toks) (λb o hb e=>eb b o hb e) f0 f1 f3 f4 f5⟩
 self:=λ_ _ _ _ _ st h=>wpAny_pyIter_enum st.1.choose_spec h
def Mj (K:a9)(ta:TA):TI:=λσ H R=>ta σ H λvs H1=>∃a xs,vs=[.ref a]/\aQ K H1 a xs/\R (tF K a) H1
def nO {X:Cx}{elts:List Expr}{k:Nat}{vm:Pos}{l:Expr}{ta:TA}{p pos:Pos}(hg:Gl X "enumerate")(hm:X.mg "enumerate"=none)(ha:PA X [l] ta)(hs:starEach [l] X.env=[(false,eval l X.env)]:=by rfl) :
  PI X (.Tuple elts k vm) (.Call (.Name "enumerate" p) [l] [] pos) (Mj X.K ta):=by
 intro ag s σ H R I h;refine Call_ (iQ I hg hm uN (t_ (cI (ha pos ag s σ H _ I h) λus s1 ⟨vs,H1,I1,r1,q1⟩=>?_) hs rfl));obtain⟨a,xs,e,hq,q⟩:=q1;subst e;obtain⟨u,rfl,rx⟩:=r1.one;cases rx;obtain⟨aU,rv,pl,hz⟩:=I1.tuple hq;refine AA (show s1.heap.IsTuple a aU.toArray from pl) λh1 he hit hk=>wpAny_pyIter_enum he ?_;refine⟨s1.heap.objs.size+1,[s1.heap.objs.size+1,s1.heap.objs.size],_,_,H1,rfl,I1.kept (t':=s1.toks) λb o e=>hk b o e,yR a _ _ (fc (mS _)),⟨⟨_,he⟩,hit⟩,λb hb=>?_,q⟩;rcases cz.mp hb with rfl | hb
 .exact I1.wj (oF _) (I1.b0.fresh (oF _))
 obtain rfl:b=s1.heap.objs.size:=by simpa using hb
 exact I1.wj (aH _) (I1.b0.fresh (aH _))
open PySem PySem.Spec PyProof.Rows PySem.W
def j8 (c':Addr)(qual:Str):HO:=.ext λh=>h.CodeRec (.ref c') qual
def pC (f:Addr)(o:Obj):HO:=.ext λh=>h.get? f=some o
def ya {P:Program}{w:World}{H:Hp}{h:Heap}{c':Addr}{qual:Str}(hr:h.CodeRec (.ref c') qual):cE P w H h c' (j8 c' qual):=by
 obtain⟨c2,oc,vs,t,e,yx,hd,hv⟩:=id hr;cases e;exact⟨hr,⟨oc,yx⟩,λh1 h2 ⟨c3,oc3,vs3,t3,e3,Vb,jf,NK⟩ k=>by cases e3;exact⟨_,oc3,vs3,t3,rfl,k _ Vb,jf,NK⟩⟩
def qH {P:Program}{w:World}{H:Hp}{h:Heap}{f:Addr}{o:Obj}(e:h.get? f=some o):cE P w H h f (pC f o):=⟨e,⟨o,e⟩,λ_ _ q k=>k _ q⟩
def Tab (T:Addr)(pos:Pos)(qual:Str)(H:Hp):Prop :=
 ∃ps,H T=some (.tK ps)/\TriplesOk ps.toList/\(codeAmong pos ps.toList=none\/∃c',codeAmong pos ps.toList=some (.ref c')/\H c'=some (j8 c' qual))
def dZ (T:Addr)(H H':Hp):Prop:=∀b o,b≠T->H b=some o->H' b=some o
def tH (mg:Str->Option Value)(base:Heap):Prop :=
 ∃bm o,mg "__builtins__"=some (.ref bm)/\bm≠builtinsNs/\bm≠mainGlobals/\base.get? bm=some o/\o.cls=.type "module" /\ o.dict=some builtinsNs/\o.data=.plain
theorem jH {a b:Int}{ta tb:Tok}{c:Value}:∀l:List Value,TriplesOk l->TriplesOk (l++[.int a ta,.int b tb,c])
 | [],_=>trivial
 | [x],h=>by cases x <;> exact h.elim
 | [x,y],h=>by cases x <;> cases y <;> exact h.elim
 | x::y::z::r,h=>by
  cases x with
  | int i ti =>
   cases y with
   | int j tj=>exact jH r h
   | _=>exact h.elim
  | _=>exact h.elim
section
variable {X:Cx}{params:Arguments}{body:Expr}{scope:Scope}{pos:Pos}{c T:Addr}
abbrev mx (X:Cx)(params:Arguments)(body:Expr)(scope:Scope)(c':Addr)(gy:Value):Obj:=kla_obj "<lambda>" (X.env.qual ++ "<lambda>") params body scope [] ((X.mg "__name__").getD .none) c' gy
def Ta (X:Cx)(params:Arguments)(body:Expr)(scope:Scope)(pos:Pos)(T:Addr):TE:=λσ H Q=>Tab T pos (X.env.qual ++ "<lambda>") H /\
 ∀f c' gy H',dZ T H H'->Tab T pos (X.env.qual ++ "<lambda>") H'->H f=none->H' f=some (pC f (mx X params body scope c' gy))->H' c'=some (j8 c' (X.env.qual ++ "<lambda>"))->Q (.ref f) H'
def E6 (sE:X.env.code=.ref c)(hC:codeHdIn X.K c T=true)(hB:tH X.mg X.base)(n_:∀y∈scope.names,y.2≠.free)(Gd:defaultsOf params X.env=([],[]):=by rfl):PE X (.Lambda params body scope pos) (Ta X params body scope pos T):=by
 intro ag s σ H Q I h;obtain⟨⟨ps,hT,ht,Ge⟩,q⟩:=h;refine kla_eval Gd ?_;have Mz:s.heap.get? T=some (tabObj ps):=(show cE X.prog X.w H s.heap T (.tK ps) from I.b0 T _ hT);have hg:=I.mod.glob.keeps I.bk;have C:=codeHd_of_K I.v9 hC;obtain⟨bm,ob,b1,b2,b3,b4,b5,b6,b7⟩:=hB;have WM:=I.bk _ _ b4;have Ui:bm≠T:=λz=>by
  have:=(I.bs _ _ b4).2;rw [z,hT] at this;cases this
 have Ue:mainGlobals≠T:=λz=>by
  obtain⟨o,es,ep,e,d,_⟩:=hg;rw [z,Mz] at e;cases e;cases d
 have Qx:s.heap.BuiltinsAt X.mg T:=⟨bm,ob,b1,b2,b3,Ui,WM,b5,b6,b7⟩;have He:∀b v,H b=some v->b < s.heap.objs.size:=λb v e=>I.b0.lt e;rcases Ge with Qc | ⟨c',hf,lH⟩
 .refine kla_makeFunction (closureFor_none n_) I.ok.glob hg sE C Mz ht Qc Ue Qx λc' gy h' tk hx Ms ke F2 PZ=>?_;have hcr:∃oc,h'.get? c'=some oc:=by
   obtain⟨c2,oc,vs,t,e,yx,_⟩:=F2;cases e;exact⟨oc,yx⟩
  have su:h'.objs.size > s.heap.objs.size:=pX Ms ke;have keep:∀b o,b≠T->s.heap.get? b=some o->(h'.push (mx X params body scope c' gy)).get? b=some o:=λb o n e=>bI _ (hx b o n e)
  let H':Hp:=upd (upd (upd H T (.tK (ps++#[rawInt pos.line,rawInt pos.col,.ref c']))) c' (j8 c' (X.env.qual ++ "<lambda>"))) h'.objs.size (pC h'.objs.size (mx X params body scope c' gy))
  have z5:∀b v,H b=some v->b≠c'/\b≠h'.objs.size:=λb v e=>⟨bM (eU (He b v e) Ms),bM (md (He b v e) su)⟩;have Uh:c'≠h'.objs.size:=bM ke;have Pm:=z5 T _ hT;have eT:H' T=some (.tK (ps++#[rawInt pos.line,rawInt pos.col,.ref c'])):=by
   show upd (upd (upd H T _) c' _) h'.objs.size _ T=_;rw [aj Pm.2,aj Pm.1,ae]
  have ec:H' c'=some (j8 c' (X.env.qual ++ "<lambda>")):=by
   show upd (upd (upd H T _) c' _) h'.objs.size _ c'=_;rw [aj Uh,ae]
  have ef:H' h'.objs.size=some (pC h'.objs.size (mx X params body scope c' gy)):=ae;have eo:∀b,b≠T->b≠c'->b≠h'.objs.size->H' b=H b:=λb n1 n2 n3=>by
   show upd (upd (upd H T _) c' _) h'.objs.size _ b=_;rw [aj n3,aj n2,aj n1]
  have sT:dZ T H H':=λb o n e=>by rw [eo b n (z5 b o e).1 (z5 b o e).2];exact e
  have I2:Inv X ag σ H' { s with heap:=h'.push (mx X params body scope c' gy),toks:=tk }:=by
   refine I.call (g':=s.gens) (t':=tk) (d':=s.drawn) (ch:=[]) ⟨λb o e n _ _=>keep b o (λz=>by rw [z,hT] at n;cases n) e,λb o e n _ _=>⟨o.slots,keep b o (λz=>by rw [z,hT] at n;cases n) e⟩,λb o e n _=>?_,λb o e _=>?_,λb xs e=>?_,λb o u e=>?_,λb JU e=>?_⟩ (λb v e=>?_) I.bare (λb hb=>nomatch hb)
   .have lb:=ba e;rw [eo b (λz=>by rw [z,hT] at n;cases n) (bM (eU lb Ms)) (bM (md lb su))];exact n
   .by_cases z:b=T
    .exact⟨_,by rw [z];exact bI _ PZ⟩
    exact⟨o,keep b o z e⟩
   .exact sT b _ (λz=>by rw [z,hT] at e;cases e) e
   .exact sT b _ (λz=>by rw [z,hT] at e;cases e) e
   .by_cases z:b=T
    .subst z;rw [hT] at e;cases e;exact⟨_,eT⟩
    exact⟨#[],by rw [Array.append_empty];exact sT b _ z e⟩
   by_cases z1:b=h'.objs.size
   .subst z1;rw [ef] at e;cases e;exact qH (cV _ rfl)
   by_cases z2:b=c'
   .subst z2;rw [ec] at e;cases e;refine ya ?_;obtain⟨c2,oc,vs,t,e',yx,hd,hv⟩:=F2;cases e';exact⟨_,oc,vs,t,rfl,bI _ yx,hd,hv⟩
   by_cases z3:b=T
   .subst z3;rw [eT] at e;cases e;exact bI _ PZ
   rw [eo b z3 z2 z1] at e;refine(I.b0 b v e).j_ (λd o CT e'=>?_) (λd e'=>sT d _ (λz=>by rw [z,hT] at e';cases e') e') λd ys e'=>sT d _ (λz=>by rw [z,hT] at e';cases e') e';rcases CT with rfl | CT
   .exact keep d o z3 e'
   exact keep d o (λz=>by rw [z,hT] at CT;cases CT) e'
  have fresh:H h'.objs.size=none:=I.b0.fresh (jG su);exact⟨.ref h'.objs.size,H',I2,rfl,q _ c' gy H' sT ⟨_,eT,by rw [u5];exact jH _ ht,.inr ⟨c',by rw [u5];exact codeAmong_snoc _ ht Qc,ec⟩⟩ fresh ef ec⟩
 refine kla_makeFunctionHit (closureFor_none n_) I.ok.glob hg sE C Mz ht hf Qx λgy h' tk hk hsz=>?_;have keep:∀b o,s.heap.get? b=some o->(h'.push (mx X params body scope c' gy)).get? b=some o:=λb o e=>bI _ (hk b o e);have fresh:H h'.objs.size=none:=I.b0.fresh hsz;refine⟨.ref h'.objs.size,_,I.laid (a:=h'.objs.size) (o:=pC h'.objs.size (mx X params body scope c' gy)) (t':=tk) keep hsz (qH (cV _ rfl)),rfl,?_⟩;refine q _ c' gy _ (λb o _ e=>by rw [aj (ay e fresh)];exact e) ⟨ps,by rw [aj (ay hT fresh)];exact hT,ht,.inr ⟨c',hf,by rw [aj (ay lH fresh)];exact lH⟩⟩ fresh ae (by rw [aj (ay lH fresh)];exact lH)
end
section
variable {P:Program}{w:World}{K:Frag}{mg:Str->Option Value}{base:Heap}{f c':Addr}{q:Str}{params:Arguments}{body:Expr}{scope:Scope}{pm gy:Value}{N ps:List Str}{k:Nat}{te:TE}
def IX (S:aK N ps scope)(og:∀us:List Value,us.length=ps.length->bindArgs (kla_fn "<lambda>" q params body scope [] pm (.ref c') gy) ⟨us,[]⟩=pure (ps.zip us))
  (jz:∀(A:Around)(outer:List Env)(s:Shared)(H:Hp),PE (pP fj P w K mg base N q scope f (.ref c') A outer s H λ_ _ _=>False) body te)
  (A:Around)(outer:List Env)(s:Shared)(H:Hp)(us:List Value)(vs:List V)(Q:VK)(hr:fh (k+1) A)(e0:qy P w K mg base A outer s H)(hf:H f=some (pC f (kla_obj "<lambda>" q params body scope [] pm c' gy)))
  (hc:H c'=some (j8 c' q))(rv:a_ vs us)(hl:vs.length=ps.length)(h:te (start N vs) H Q):codeAny (model P w) A (.call (.ref f) ⟨us,[]⟩) (CR fj outer P w H s Q λ_ _ _=>False) s:=by
 obtain⟨ef,_⟩:=e0.b0 f _ hf;obtain⟨ec,_⟩:=e0.b0 c' _ hc;have lu:us.length=ps.length:=by rw [<-rv.length];exact hl
 have lim:s.heap.NoLimit:=e0.mod.nolimit.keeps λb o e=>(e0.bs b o e).1;have jx:∀y∈ps.zip us,scope.names.lookup y.1=some .local\/(scope.names.lookup y.1=some .cell/\((cellsFrom (s.heap.objs.size+1) scope.names []).lookup y.1).isSome=true):=λ⟨n,v⟩ hy=>by
  rcases S.par n (List.of_mem_zip hy).1 with z | z
  .exact .inl z
  exact .inr ⟨z,cellsFrom_some _ _ _ (.inl z)⟩
 refine kla_callFunE hr.depth ef rfl S.co S.gen rfl ec ?_;rw [og us lu];refine aR (wpAny_newFunctionEnv_cells S.kind jx λenv he s1 x=>?_);subst he;refine⟨lim.keeps x.toInCall.keep,kla_codeExpr ?_⟩;have I:Inv (pP fj P w K mg base N q scope f (.ref c') A outer s H λ_ _ _=>False) [] (start N vs) H s1:=ux S hr.hd e0 hl rv x;refine dG (jz A outer s H [] s1 (start N vs) H _ I h) (λv s' ⟨y,H',J,r,z⟩=>?_) λe s' z=>z;exact⟨y,H',J.os,J.bare,J.base,J.b0,r,z⟩
end
section
variable {X:Cx}{i:Nat}{x:Str}{e:Expr}{es:List Expr}{t:TA}{p pos:Pos}{q:Str}{params:Arguments}{body:Expr}{scope:Scope}{N ps:List Str}{k:Nat}{te:TE}
def Ec (i:Nat)(q:Str)(params:Arguments)(body:Expr)(scope:Scope) (N ps:List Str)(t:TA)(te:TE):TE:=λσ H Q=>∃f pm c' gy,σ[i]?=some (some (.ref f)) /\
 t σ H λvs H1=>H1 f=some (pC f (kla_obj "<lambda>" q params body scope [] pm c' gy))/\H1 c'=some (j8 c' q)/\vs.length=ps.length/\te (start N vs) H1 Q
def zI (hN:X.N[i]?=some x)(hx:X.env.scope.names.lookup x=some .local)(S:aK N ps scope)(hr:fh (k+1) X.A)
  (og:∀(pm gy:Value)(c':Addr)(us:List Value),us.length=ps.length->bindArgs (kla_fn "<lambda>" q params body scope [] pm (.ref c') gy) ⟨us,[]⟩=pure (ps.zip us))
  (jz:∀(f c':Addr)(A:Around)(outer:List Env)(s:Shared)(H:Hp),PE (pP fj X.prog X.w X.K X.mg X.base N q scope f (.ref c') A outer s H λ_ _ _=>False) body te)(ha:PA X (e::es) t)
  (CS:(x == ("__debug__":Str))=false:=by decide)(he:starEach (e::es) X.env=(false,eval e X.env)::starEach es X.env:=by rfl)(yw:(backTo pos (starEach es X.env)).any (·.1)=false:=by rfl) :
  PE X (.Call (.Name x p) (e::es) [] pos) (Ec i q params body scope N ps t te):=by
 intro ag s σ H Q I h;obtain⟨f,pm,c',gy,hσ,h⟩:=h;obtain⟨m,hn,hl⟩:=I.loc;obtain⟨u,ru,lk⟩:=hl i x (.ref f) hN hσ (.inl hx);cases (show u=Value.ref f from ru);have hm:m x=some (.ref f):=by
  rcases lk with l | ⟨l,_⟩
  .exact l.2
  have l':X.env.scope.names.lookup x=some .cell\/X.env.scope.names.lookup x=some .free:=l;rw [hx] at l';rcases l' with l' | l' <;> cases l'
 refine mT (wpAny_Name (u4 I.ok.kind hx hn hm ?_) CS);refine callWith_def (o:=kla_obj "<lambda>" q params body scope [] pm c' gy) rfl (cI (ha pos ag s σ H _ I h) λus s1 ⟨vs,H1,I1,r,z1,z2,z3,z4⟩=>?_) he;obtain⟨ef,_⟩:=I1.b0 f _ z1;refine⟨ef,wpAny_call (oC (IX (k:=k) S (λus hl=>og pm gy c' us hl) (jz f c') X.A X.stack s1 H1 us vs Q hr I1.MV z1 z2 r z3 z4) λr' s' z=>?_)⟩;cases r' with
 | error e=>exact z.elim
 | ok fl =>
  cases fl with
  | ret u=>exact I1.after z
  | next=>exact z.elim
  | brk=>exact z.elim
  | cont=>exact z.elim
end
def G8 (ts:List Addr)(H:Hp):Prop:=∀b,H b=none\/(∃o xs,H b=some (.ki o (.lst xs)))\/(b∈ts/\H b=some (.tK #[]))
def CF {P:Program}{w:World}{K:Frag}{mg mb:Str->Option Value}{CX:yE}{k:Nat}{fa a:Addr}{fd:FuncData}{x:Str}{sp:Sp}{s₁:Shared}{vs:List Value}{ns:List Int}{ts:List Addr}
  (KX:K.In s₁.heap)(wI:s₁.heap.Ns mainGlobals mg)(hb:s₁.heap.Ns builtinsNs mb)(My:∀x:Str,x ≠ "__name__" -> mb x=bootBuiltins x)(Mo:s₁.heap.NoLimit)
  (hbm:∃bm ob,mg "__builtins__"=some (.ref bm)/\bm≠builtinsNs/\s₁.heap.get? bm=some ob/\ob.cls=.type "module" /\ ob.dict=some builtinsNs/\ob.data=.plain)(hg:s₁.gens=#[])
  (Ml:∀T∈ts,s₁.heap.get? T=some (tabObj #[])/\K.lookup T=none/\∃c,codeHdIn K c T=true)
  (ha:s₁.heap.get? a=some { cls:=.type "list",data:=.seq vs.toArray })(hi:IntsAre vs ns)(hl:ns.length<=sizeLine)(hr:fh k callerA)
  (F:∀base:Heap,K.In base->base.Ns mainGlobals mg->tH mg base->bN P w K mg base CX k fa fd [x] sp)(og:∀(s:Shared)(u:Value),BindsTo s fd ⟨[u],[]⟩ [(x,u)])
  (yu:∀H:Hp,G8 ts H->(∀T∈ts,H T=some (.tK #[]))->aI K H a (ns.map V.int)->sp [.ref a] H (λv _=>v=.bl true) λ_ _ _=>False)
  (MH:∀H e s',CX [] H s₁ (λ_ _ _=>False) e s'->False) :
  codeAny (model P w) callerA (.call (.ref fa) ⟨[.ref a],[]⟩) (λr s'=>r=.ok (.ret (.bool true))/\OldK s₁.heap s'.heap/\s'.os=s₁.os/\AllBare s'.gens) s₁:=by
 have rv:=o7 hi;have L_:=hi.length;have core:∀H:Hp,G8 ts H->(∀T∈ts,H T=some (.tK #[]))->aI K H a (ns.map V.int)->l7 P w H s₁.heap->(∀b,H b≠none->b=a\/b∈ts)->(H a≠none->K.lookup a=none) ->
   codeAny (model P w) callerA (.call (.ref fa) ⟨[.ref a],[]⟩) (λr s'=>r=.ok (.ret (.bool true))/\OldK s₁.heap s'.heap/\s'.os=s₁.os/\AllBare s'.gens) s₁:=by
  intro H hO hT hS b0 hA hK;have lD:∀{b:Addr}{o:Obj},s₁.heap.get? b=some o->H b=none->(mE s₁.heap H).get? b=some o:=λe n=>xK e n;have off:∀{b:Addr}{o:Obj},s₁.heap.get? b=some o->(∀aU n,o.data≠.seq aU n)->(∀fs,o.data≠.fields fs)->H b=none:=λ{b o} e d1 d2=>by
   cases q:H b with
   | none=>rfl
   | some u =>
    rcases hA b (by rw [q];simp) with e' | e'
    .subst e';rw [ha] at e;cases e;exact(d1 _ _ rfl).elim
    rw [(Ml b e').1] at e;cases e;exact(d2 _ rfl).elim
  have IP:∀{b:Addr}{m:Str->Option Value},s₁.heap.Ns b m->(mE s₁.heap H).Ns b m:=λ{b m} ⟨o,es,ep,e,d,r⟩=>⟨o,es,ep,lD e (off e (λ_ _ z=>by rw [d] at z;cases z) λ_ z=>by rw [d] at z;cases z),d,r⟩;have Qt:K.In (mE s₁.heap H):=λb o e=>lD (KX b o e) (by
   cases q:H b with
   | none=>rfl
   | some u =>
    rcases hA b (by rw [q];simp) with e' | e'
    .subst e';rw [hK (by rw [q];simp)] at e;cases e
    rw [(Ml b e').2.1] at e;cases e)
  have hM:Mod K mg (mE s₁.heap H):=⟨Qt,IP wI,⟨mb,IP hb,My⟩,let ⟨mc,h1,h2⟩:=Mo;⟨mc,IP h1,h2⟩⟩;have Qw:tH mg (mE s₁.heap H):=by
   obtain⟨bm,ob,b1,b2,b3,b4,b5,b6⟩:=hbm;refine⟨bm,ob,b1,b2,λz=>?_,lD b3 (off b3 (λ_ _ z=>by rw [b6] at z;cases z) λ_ z=>by rw [b6] at z;cases z),b4,b5,b6⟩;obtain⟨o,es,ep,e,d,_⟩:=wI;rw [<-z,b3] at e;cases e;rw [b6] at d;cases d
  have e0:qy P w K mg (mE s₁.heap H) callerA [] s₁ H:=⟨rfl,hM,λb o e=>Bs e,Nat.le_of_eq (uz _ _),trivial,λb hb=>absurd (show b∈([]:List Addr) from hb) (by simp),b0,.of_eq hg⟩;refine oC ((F _ Qt (IP wI) Qw).run callerA [] s₁ H ⟨[.ref a],[]⟩ [.ref a] [.ref a] _ _ hr e0 (og s₁ (.ref a)) (.cons rfl .nil) (yu H hO hT hS)) λr s' h=>?_;cases r with
  | error e=>exact(MH H e s' h).elim
  | ok fl =>
   cases fl with
   | next=>exact False.elim h
   | brk=>exact False.elim h
   | cont=>exact False.elim h
   | ret u =>
    obtain⟨v,H',os,bare,un,I8,r',q⟩:=h;have q':v=.bl true:=q;subst q';obtain rfl:u=Value.bool true:=r';have each:∀b o,s₁.heap.get? b=some o->asItWas s₁.heap s'.heap b o/\∃o',s'.heap.get? b=some o':=λb o e=>by
     cases q:H b with
     | none =>
      have z:=un.keep b o e q (by intro z;exact absurd (show b∈([]:List Addr) from z) (by simp)) (by simp);exact⟨.inl z,o,z⟩
     | some u =>
      rcases hO b with z | ⟨ob,xs,z⟩ | ⟨Ht,z⟩
      .rw [q] at z;cases z
      .have z2:=un.mF b ob _ z;obtain⟨e1,_⟩:=b0 b _ z;obtain⟨e2,_⟩:=I8 b _ z2;rw [e] at e1;cases e1;exact⟨.inl e2,_,e2⟩
      obtain⟨more,z2⟩:=un.ng b _ z;have e2:s'.heap.get? b=some (tabObj (#[]++more)):=I8 b _ z2;rw [(Ml b Ht).1] at e;cases e;obtain⟨c,hc⟩:=(Ml b Ht).2.2;obtain⟨oc,yO,file,tf,flags,tg,inF,text,tt,d1,d2,d3,d4,_⟩:=codeHd_of_K KX hc;exact⟨.inr (.inl ⟨⟨c,oc,yO,d1,d2,d3,d4⟩,rfl,#[],more,rfl,e2⟩),_,e2⟩
    exact⟨rfl,⟨λb o e=>(each b o e).1,λb o e=>(each b o e).2⟩,os,bare⟩
 have na:a∉ts:=λz=>by
  have:=(Ml a z).1;rw [ha] at this;cases this
 cases hk:K.lookup a with
 | some o =>
  have e:=KX a o hk;rw [ha] at e;cases e;refine core (λb=>if b∈ts then some (.tK #[]) else none) (λb=>?_) (λT h=>ax h) (.inr ⟨_,vs.toArray,_,hk,rfl,rfl,rfl,by rw [bQ,L_];exact hl,by simpa using rv⟩) (λb u z=>?_) (λb z=>?_) λz=>absurd (az na) z
  .by_cases h:b∈ts
   .exact .inr (.inr ⟨h,ax h⟩)
   exact .inl (az h)
  .by_cases h:b∈ts
   .have z':=(ax h).symm.trans z;cases z';exact(Ml b h).1
   have z':=(az h).symm.trans z;cases z'
  by_cases h:b∈ts
  .exact .inr h
  exact absurd (az h) z
 | none =>
  refine core (λb=>if b=a then some (.ki { cls:=.type "list",data:=.seq vs.toArray } (.lst (ns.map V.int))) else if b∈ts then some (.tK #[]) else none) (λb=>?_) (λT h=>?_) (.inl (.inr ⟨{ cls:=.type "list",data:=.seq vs.toArray },ax rfl⟩)) (λb u z=>?_) (λb z=>?_) λ_=>hk
  .by_cases hb:b=a
   .exact .inr (.inl ⟨_,_,ax hb⟩)
   by_cases h:b∈ts
   .exact .inr (.inr ⟨h,(az hb).trans (ax h)⟩)
   exact .inl ((az hb).trans (az h))
  .exact(az (λz:T=a=>na (z ▸ h))).trans (ax h)
  .by_cases hb:b=a
   .have z':=(ax hb).symm.trans z;cases z';subst hb;exact⟨ha,by rw [au];exact hl,vs,_,rv,ha⟩
   by_cases h:b∈ts
   .have z':=((az hb).trans (ax h)).symm.trans z;cases z';exact(Ml b h).1
   have z':=((az hb).trans (az h)).symm.trans z;cases z'
  by_cases hb:b=a
  .exact .inl hb
  by_cases h:b∈ts
  .exact .inr h
  exact absurd ((az hb).trans (az h)) z
def DZ {l:OpenLaw}{n k:Nat}{q:Program}{loose:List Str}{XP:(Str->Option Value)->Heap->Prop}{YP:World->Heap->Prop}{d:DefRec}{K:Params->Frag}{CX:World->yE}{sp:World->Sp}{x:Str}{ts:List Addr}
  (hn:l.most=some n)(F7:n<=sizeLine)(Mt:d.params.defaults=[])(hr:fh k callerA)
  (hY:∀(w:World)(h:Heap),YP w h->(K w.params).In h/\∀T∈ts,h.get? T=some (tabObj #[]))
  (hK:∀w:World,∀T∈ts,(K w.params).lookup T=none/\∃c,codeHdIn (K w.params) c T=true)
  (F:∀(w:World)(mg:Str->Option Value)(fa:Addr)(h:Heap),(K w.params).In h->h.Ns mainGlobals mg->mg d.name=some (.ref fa) ->
   ∃fd:FuncData,(∀(s:Shared)(u:Value),BindsTo s fd ⟨[u],[]⟩ [(x,u)]) /\
    ∀base:Heap,(K w.params).In base->base.Ns mainGlobals mg->tH mg base->bN l.prog w (K w.params) mg base (CX w) k fa fd [x] (sp w))
  (yu:∀(w:World)(H:Hp)(a:Addr)(ns:List Int),ns.length<=n->G8 ts H->(∀T∈ts,H T=some (.tK #[]))->aI (K w.params) H a (ns.map V.int)->sp w [.ref a] H (λv _=>v=.bl true) λ_ _ _=>False)
  (MH:∀(w:World)(H:Hp)(s:Shared)(e:Value)(s':Shared),CX w [] H s (λ_ _ _=>False) e s'->False) :
  WalkO q loose XP YP l.row.toRowW d [] (λf vs=>PySem.call f vs):=by
 refine HP.qi hn Mt λw s₀ s₁ mg mb fa o pm cd doc a vs ns G Y ho hd wg Mn F5 hints br hg=>?_;obtain⟨KX,TX⟩:=hY w _ Y;obtain⟨fd,hb,hF⟩:=F w mg fa _ KX G.T.g Mn;exact CF KX G.T.g G.T.b G.T.builtins G.T.nolimit G.T.bmain hg (λT hT=>⟨TX T hT,hK w T hT⟩) F5 hints (fV br F7) hr hF hb (λH hO hT hS=>yu w H a ns br hO hT hS) λH e s'=>MH w H s₁ e s'
def bp {X:Cx}{scope:Scope}{js:List (Nat×Str)}(h:(js.all λp=>X.N[p.1]? == some p.2 && X.env.scope.names.lookup p.2 == some .cell && scope.names.lookup p.2 == some .free)=true)
  (h2:(scope.names.all λy=>y.2 != .free || X.env.scope.names.lookup y.1 == some .cell)=true):JA X scope js:=by
 refine⟨λp hp=>?_,λy hy=>?_⟩
 .have:=gB.mp h p hp;simp only [pV,beq_iff_eq] at this;exact⟨this.1.1,this.1.2,this.2⟩
 have:=gB.mp h2 _ hy;simpa using this
def yy {σ:St}{H:Hp}{A B:Hp->Prop}(h:A H):iw σ H λb H3=>if b=true then A H3 else B H3:=by
 show if true=true then A H else B H;exact g6 h
def goN {i:Nat}{v:V}{σ:St}{H:Hp}{Q:St->Hp->Prop}(h:Q (σ.set i (some v)) H):dP i v σ H Q:=h
def FX {X:Cx}(K:a9)(hK:X.K=K:=by rfl):Jy X (O3 K):=by
 subst hK;exact bo
def qJ {X:Cx}(K:a9)(hK:X.K=K:=by rfl):Jy X (O2 K):=by
 subst hK;exact aN
def fI {X:Cx}{es:List Expr}{k:Nat}{t:KR}{n:Nat}{pos:Pos}(K:a9)(hc:X.calm=true)(h:Q7 X es t)(hK:X.K=K:=by rfl)
  (hn:(assignEach es X.env).length=n:=by rfl)(yt:(assignEach es X.env).findIdx? (·.1)=none:=by rfl):PG X (.Tuple es k pos) (Aj K n t):=by
 subst hK;exact gI hc h hn yt
end L2
section
variable {P:PySem.Program}{w:PySem.World}{K:a9}{mg:PySem.Str->Option PySem.Value}{base:PySem.Heap}{f:PySem.Addr}{fd:PySem.FuncData}
namespace gK
open PySem L2
def top (i:Nat):Stmt:=PySem.Challenge.pw_wright_k69_whole_deeds_and_trees.main.body.getD i (.Pass ⟨0,0,0,0⟩)
abbrev zj:Stmt:=top 2
abbrev yY:Stmt:=top 3
abbrev rS:Stmt:=top 15
abbrev vJ:Stmt:=top 16
abbrev zq:Stmt:=top 17
abbrev ED:Stmt:=top 27
abbrev zc:Stmt:=top 28
abbrev Lj:Stmt:=top 29
abbrev rP:Stmt:=top 31
abbrev vK:Stmt:=top 32
abbrev nE:Stmt:=top 33
abbrev vI:Stmt:=top 36
abbrev y_:Stmt:=top 37
abbrev Lm:Stmt:=top 38
abbrev EE:Stmt:=top 45
abbrev EB:Stmt:=top 4
abbrev Ll:Stmt:=top 5
abbrev nF:Stmt:=top 40
abbrev ph:Stmt:=top 41
abbrev rR:Stmt:=top 42
abbrev sLT:Stmt:=top 43
structure Txt (mg:Str->Option Value):Prop where
 len:mg "len"=none
 DE:mg "range"=none
 CJ:mg "isinstance"=none
 tup:mg "tuple"=none
 lst:mg "list"=none
 yD:mg "dict"=none
 all:mg "all"=none
 any:mg "any"=none
 str:mg "str"=none
 int:mg "int"=none
 Z4:mg "bool"=none
 Jh:mg "enumerate"=none
 sum:mg "sum"=none
 max:mg "max"=none
 min:mg "min"=none
section
def boot_all:bootBuiltins "all"=some (.builtin "all"):=by decide +kernel
def iT:bootBuiltins "list"=some (.type "list"):=by decide +kernel
def iS:bootBuiltins "str"=some (.type "str"):=by decide +kernel
def eY:bootBuiltins "dict"=some (.type "dict"):=by decide +kernel
def FT:PySem.W.kitOne K (.type "int") (.type "bool")=some false:=by kernel_rfl
def zB (zs:List Str):∀v∈zs.map V.str,mJ v:=λv hv=>by
 obtain⟨z,_,rfl⟩:=cP.mp hv;exact .inl rfl
end
end gK
namespace L2
open PySem
def aT {K:a9}{H:Hp}{D a:Addr}{xs ys:List V}{o:HO}(hD:H D=some (.lst ys))(h:aQ K H a xs):aQ K (upd H D o) a xs:=by
 rcases h with (h | ⟨u,h⟩) | h
 .exact .inl (.inl (by rw [aj (λz=>by rw [z,hD] at h;cases h)];exact h))
 .exact .inl (.inr ⟨u,by rw [aj (λz=>by rw [z,hD] at h;cases h)];exact h⟩)
 exact .inr h
def wA (kvs:List (aS×V))(k:aS):(kvs.any λkv=>decide (kv.1=k))=true↔k∈kvs.map (·.1):=by
 rw [List.any_eq_true,cP];constructor
 .rintro⟨x,h1,h2⟩;exact⟨x,h1,dq h2⟩
 rintro⟨x,h1,h2⟩;exact⟨x,h1,bV h2⟩
def zz {kvs:List (aS×V)}{k:aS}{v:V}(h:k∈kvs.map (·.1)):(bR kvs k v).map (·.1)=kvs.map (·.1):=by
 unfold bR;rw [ax ((wA kvs k).mpr h),iF];refine List.map_congr_left λx hx=>?_;show (if x.1=k then (x.1,v) else x).1=x.1
 split <;> rfl
def iY {kvs:List (aS×V)}{k:aS}{v:V}(h:¬k∈kvs.map (·.1)):(bR kvs k v).map (·.1)=kvs.map (·.1)++[k]:=by
 unfold bR;rw [az (λz=>h ((wA kvs k).mp z)),bF];rfl
def ff (kvs:List (aS×V))(k:aS):(bA kvs k).isSome=true↔k∈kvs.map (·.1):=by
 rw [<-jn];exact wA kvs k
theorem cu {α β γ:Type}{F:α->β->Prop}{G:α->γ->Prop}{φ:β->γ}:∀{xs:List α}{ys:List β},Paired F xs ys->(∀a b,F a b->G a (φ b))->Paired G xs (ys.map φ)
 | _,_,.nil,_=>.nil
 | _,_,.cons h t,k=>.cons (k _ _ h) (cu t k)
def df {z:Str}{l:List Str}:(Sum.inr z:aS)∈l.map Sum.inr↔z∈l:=by
 rw [cP];constructor
 .rintro⟨x,h1,h2⟩;rw [<-l_ h2];exact h1
 intro h;exact⟨z,h,rfl⟩
end L2
namespace M11
abbrev aw:=PySem.Str×List PySem.Str
def gO (a:List PySem.Str)(h:PySem.Str):List PySem.Str:=if h∈a then a else a++[h]
def tL (bz hs:List PySem.Str):List PySem.Str:=hs.foldl gO bz
def addW (bf a:List PySem.Str)(p:PySem.Str):List PySem.Str:=if p∈bf then a else gO a p
def tI (bf bz ps:List PySem.Str):List PySem.Str:=ps.foldl (addW bf) bz
def NI (aa:List aw)(name:PySem.Str) (k:Nat):Bool:=decide ((aa[k]?.map (·.1))=some name)
def nums (aa:List aw)(name:PySem.Str) (i:Nat):List Int:=((List.range i).filter (NI aa name)).map λk:Nat=>(k:Int)
def Cw (aa:List aw)(name:PySem.Str) (i:Nat):nums aa name (i+1)=nums aa name i++(if NI aa name i=true then [(i:Int)] else []):=by
 unfold nums;rw [List.range_succ,oX,bF]
 congr 1
 by_cases h:NI aa name i=true
 .rw [ax h];simp [h]
 rw [az h];simp [h]
def xw (aa:List aw)(name:PySem.Str) (i:Nat):(nums aa name i).length<=i:=by
 unfold nums;rw [au];have:=rp (NI aa name) (List.range i);rw [uY] at this;exact this
def yg (a:List PySem.Str)(h:PySem.Str):(gO a h).length<=a.length+1:=by
 unfold gO;split <;> simp
theorem hU:∀(hs bz:List PySem.Str),(tL bz hs).length<=bz.length+hs.length
 | [],bz=>by simp [tL]
 | h::r,bz=>by
  have:=hU r (gO bz h);have:=yg bz h;show (tL (gO bz h) r).length<=_;rw [dM];omega
def GX (bf a:List PySem.Str)(p:PySem.Str):(addW bf a p).length<=a.length+1:=by
 unfold addW;split
 .omega
 exact yg a p
theorem vj (bf:List PySem.Str):∀(ps bz:List PySem.Str),(tI bf bz ps).length<=bz.length+ps.length
 | [],bz=>by simp [tI]
 | p::r,bz=>by
  have:=vj bf r (addW bf bz p);have:=GX bf bz p;show (tI bf (addW bf bz p) r).length<=_;rw [dM];omega
end M11
namespace gK
open PySem L2 M11
def kW {bz:List (aS×V)}{as:List Str}(e:bz.map (·.1)=as.map Sum.inr)(h:Str){v:V}:(bR bz (Sum.inr h) v).map (·.1)=(gO as h).map Sum.inr:=by
 unfold gO;by_cases q:h∈as
 .rw [ax q,zz (by rw [e];exact df.mpr q),e]
 rw [az q,iY (by rw [e];exact λz=>q (df.mp z)),e,bF];rfl
theorem nX:∀(hs:List Str)(bz:List (aS×V)) (as:List Str),bz.map (·.1)=as.map Sum.inr->(cJ (hs.map λh=>((Sum.inr h:aS),V.bl true)) bz).map (·.1)=(tL as hs).map Sum.inr
 | [],bz,as,e=>e
 | h::r,bz,as,e=>by
  refine nX r (bR bz (Sum.inr h) (.bl true)) (gO as h) ?_;exact kW e h
def keys_str {kvs:List (aS×V)}{zs:List Str}(e:kvs.map (·.1)=zs.map Sum.inr):(kvs.map λp=>kV p.1)=zs.map V.str:=by
 have e2:(kvs.map λp=>kV p.1)=(kvs.map (·.1)).map kV:=by rw [iF];rfl
 rw [e2,e,iF];rfl
section
def BV (K:a9)(H:Hp)(r:Addr)(ru:aw):Prop:=∃p,aQ K H r [.str ru.1,.ref p]/\aQ K H p (ru.2.map V.str)
def bH (K:a9)(H:Hp)(rs:List Addr)(aa:List aw):Prop:=Paired (λr ru=>BV K H r ru) rs aa
def bH.keep {H H':Hp}{rs:List Addr}{aa:List aw}(h:bH K H rs aa)(k:∀a xs,aQ K H a xs->aQ K H' a xs):bH K H' rs aa:=Paired.dI h λr ru ⟨p,a,b⟩=>⟨p,k _ _ a,k _ _ b⟩
def bH.same {H H':Hp}{rs:List Addr}{aa:List aw}(h:bH K H rs aa)(s:aC H H'):bH K H' rs aa:=h.keep λ_ _ z=>s.tup z
def bH.get {H:Hp}{rs:List Addr}{aa:List aw}(h:bH K H rs aa){i:Nat}{r:Addr}(e:rs[i]?=some r):∃ru,aa[i]?=some ru/\BV K H r ru:=by
 have l:=aY h;have li:=(bq.mp e).1;have e2:aa[i]?=some (aa[i]'∅):=b_ ∅;obtain⟨x,e3,e4⟩:=Paired.at_ h i _ e2;rw [e] at e3;cases e3;exact⟨_,e2,e4⟩
def sX {H:Hp}{R D:Addr}{rs:List Addr}{aa:List aw}{σ:St}{Qp:Hp->Prop}(hR:aI K H R (rs.map V.ref))(b9:bH K H rs aa)(br:aa.length<=1000)(hD:H D=none)
  (q:∀ts H2,aC H H2->H2 D=some (.lst (ts.map V.ref))->Paired (λt h=>aQ K H2 t [.str h,.bl true]) ts (aa.map (·.1))->Qp H2) :
  ∃W:Nat->Nat->List V->St->Hp->Prop,(∃m,W 0 m [] (eQ ["head","parts"] [] σ) (upd H D (.lst []))) /\
 ∀i m ys σ' H,W i m ys σ' H->((j9 K R).stop i H/\Qp H)\/((j9 K R).go i H/\∃m',m' < m/\∀x H',(j9 K R).mZ i H x H'->Aj K 2 (jA (dP 0) (jA (dP 1) CW)) x σ' H' λσ2 H2=>iw σ2 H2 λb H3 =>
  if b=true then tO (gC (gW 0) (gC (tC (.bl true)) rB)) σ2 H3 λy H4=>H4 D=some (.lst ys)/\ys.length < sizeLine/\W (i+1) m' (ys++[y]) σ2 (upd H4 D (.lst (ys++[y]))) else W (i+1) m' ys σ2 H3):=by
 have ll:=aY b9;refine cD (xs:=rs.map V.ref) (λi ys σ2 H2=>∃ts:List Addr,ys=ts.map V.ref/\ts.length=i/\Paired (λt h=>aQ K H2 t [.str h,.bl true]) ts ((aa.take i).map (·.1))/\(∃y0 y1,σ2=[y0,y1])/\aC H H2/\H2 D=some (.lst ys))
  ⟨[],rfl,rfl,.nil,⟨none,none,rfl⟩,af hD _,ae⟩ (λi ys σ2 H2 _ h=>?_) (λi x ys σ2 H2 ex h=>?_) (λys σ2 H2 h=>?_)
 .obtain⟨_,_,_,_,_,sm,_⟩:=h;exact sm.seq hR
 .obtain⟨ts,rfl,ht,hp,⟨y0,y1,rfl⟩,sm,hd⟩:=h;rw [bh] at ex;obtain⟨r,er,rfl⟩:=cg.mp ex;obtain⟨ru,e1,p,v1,v2⟩:=b9.get er;have li:=(bq.mp e1).1;refine⟨r,_,rfl,sm.tup v1,rfl,_,_,rfl,_,_,rfl,rfl,?_⟩;refine yy ?_;refine⟨_,rfl,kb,λt jh=>⟨?_,bK (by rw [au];omega),ts++[t],?_,?_,?_,⟨_,_,rfl⟩,?_,ae⟩⟩
  .rw [aj (ay hd jh)];exact hd
  .rw [bF];rfl
  .rw [bL,ht];rfl
  .rw [cR,e1,bF];have jf:upd H2 t (.tup [.str ru.1,.bl true]) D=some (.lst (ts.map V.ref)):=by rw [aj (ay hd jh)];exact hd
   exact gQ (Paired.dI hp λt' h' z=>aT jf ((af jh _).tup z)) (aT jf (aQ.of ae))
  intro b o hb;rw [aj (λz=>by rw [z,hD] at hb;cases hb)];exact af jh _ _ _ (sm b o hb)
 obtain⟨ts,rfl,ht,hp,_,sm,hd⟩:=h;rw [au,ll,cQ] at hp;exact q ts H2 sm hd hp
def iW (K:a9):Sp:=λvs H Q _=>∃(R:Addr)(rs:List Addr)(aa:List aw),vs=[.ref R]/\aI K H R (rs.map V.ref)/\bH K H rs aa/\aa.length<=1000 /\
 ∀D H',H D=none->aC H H'->H' D=some (.lst ((tL [] (aa.map (·.1))).map V.str))->Q (.ref D) H'
def Ig:aK ["rules"] ["rules"] (av zj):=iq rfl rfl rfl rfl (by decide +kernel)
def Fq (F:g9 K "heads_of" "heads_of" zj f fd)(T:Txt mg):bN P w K mg base fj 1 f fd ["rules"] (iW K):=by
 refine F.ok Ig (λvs H Q E h=>?_) (λdU A outer s H vs Q E hr h=>?_)
 .obtain⟨R,rs,aa,rfl,_⟩:=h;rfl
 obtain⟨R,rs,aa,rfl,hR,b9,br,q⟩:=h;refine⟨_,ak (aL (bD (mI rfl) rfl T.lst iT (ab (bD (dC rfl) rfl T.yD eY (ab
  (bE ["head","parts"] [] rfl (aZ (pv 0)) (bp rfl rfl) (by decide +kernel) rfl (by decide +kernel)
   (λ_ _ _ _ _=>fI (n:=2) K rfl (aE (aq (i:=0) (show (["head","parts"]:List Str).Nodup by decide +kernel) rfl (bx rfl)) (aE (aq (i:=1) (show (["head","parts"]:List Str).Nodup by decide +kernel) rfl (bx rfl)) b8))) (λ_ _ _ _ _=>bX)
   (λ_ _ _ _ _=>bC (ab (pv 0) (ab dH ah)))) ah)) ah))),?_⟩
 dsimp only [Ax];refine⟨_,rfl,R,rfl,⟨_,hR⟩,λD hD=>sX hR b9 br hD λts H2 sm hd hp=>?_⟩;have kp:Paired (λt (kv:aS×V)=>aQ K H2 t [kV kv.1,kv.2]) ts ((aa.map (·.1)).map λh=>((Sum.inr h:aS),V.bl true)):=cu hp λ_ _ z=>z;refine⟨D,ts,_,rfl,hd,kp,λd hd2=>?_⟩;refine⟨d,_,rfl,ae,λD2 i8=>?_⟩;rw [keys_str (nX (aa.map (·.1)) [] [] rfl)];have nd:D2≠d:=λz=>by rw [z,ae] at i8;cases i8
 exact q D2 _ (sm.free (by rw [aj nd] at i8;exact i8)) (sm.trans ((af hd2 _).trans (af i8 _))) ae
theorem jB:∀(aa:List aw) (n:Nat),aa.length<=n->(∀ru∈aa,ru.2.length<=8)->(aa.flatMap (·.2)).length<=8 * n
 | [],n,_,_=>by simp
 | ru::r,n,hl,h=>by
  rw [dM] at hl;have:=jB r (n - 1) ∅ λx hx=>h x (dr _ hx);have:=h ru cU;rw [q_,bL];omega
def hd (aa:List aw):List Str:=tL [] (aa.map (·.1))
def A2 (K:a9):Sp:=λvs H Q _=>∃(R:Addr)(rs:List Addr)(aa:List aw),vs=[.ref R]/\aI K H R (rs.map V.ref)/\bH K H rs aa/\aa.length<=1000/\(∀ru∈aa,ru.2.length<=8) /\
 ∀D H',H D=none->aC H H'->H' D=some (.lst ((tI (hd aa) [] (aa.flatMap (·.2))).map V.str))->Q (.ref D) H'
def lg:aK ["rules","heads","words","head","parts","part"] ["rules"] (av yY):=iq rfl rfl rfl rfl (by decide +kernel)
def Fd (F:g9 K "words_in" "words_in" yY f fd)(T:Txt mg):bN P w K mg base fj 1 f fd ["rules"] (A2 K):=by
 refine F.ok lg (λvs H Q E h=>?_) (λdU A outer s H vs Q E hr h=>?_)
 .obtain⟨R,rs,aa,rfl,_⟩:=h;rfl
 obtain⟨R,rs,aa,rfl,hR,b9,br,h8,q⟩:=h;have hu:=fR hr;refine⟨_,ai (aA (i:=1) lg.nd rfl (bx rfl) (bD (dC rfl) rfl T.yD eY (ab
  (bE ["head","parts"] [] rfl (aZ (pv 0)) (bp rfl rfl) (by decide +kernel) rfl (by decide +kernel)
   (λ_ _ _ _ _=>fI (n:=2) K rfl (aE (aq (i:=0) (show (["head","parts"]:List Str).Nodup by decide +kernel) rfl (bx rfl)) (aE (aq (i:=1) (show (["head","parts"]:List Str).Nodup by decide +kernel) rfl (bx rfl)) b8))) (λ_ _ _ _ _=>bX)
   (λ_ _ _ _ _=>bC (ab (pv 0) (ab dH ah)))) ah)))
  (ai (aA (i:=2) lg.nd rfl (bx rfl) ig)
  (ai (bO bZ rfl (aZ (pv 0)) (gI rfl (aE (aq (i:=3) lg.nd rfl (bx rfl)) (aE (aq (i:=4) lg.nd rfl (bx rfl)) b8)))
   (ak (bO bZ rfl (gH (pv 4)) (aq (i:=5) lg.nd rfl (bx rfl))
    (ak (bw (cY (dY hu (pv 5) (pv 1))) (ak (iZ hu (pv 2) (pv 5) dH rfl)) aM)))))
  (ak (aL (bD (mI rfl) rfl T.lst iT (ab (pv 2) ah)))))),?_⟩
 nofun
 refine⟨_,rfl,R,rfl,⟨_,hR⟩,λD hD=>sX hR b9 br hD λts H2 sm hd2 hp=>?_⟩;have kp:Paired (λt (kv:aS×V)=>aQ K H2 t [kV kv.1,kv.2]) ts ((aa.map (·.1)).map λh=>((Sum.inr h:aS),V.bl true)):=cu hp λ_ _ z=>z;refine⟨D,ts,_,rfl,hd2,kp,λd hdd=>?_⟩;have Ka:(cJ ((aa.map (·.1)).map λh=>((Sum.inr h:aS),V.bl true)) []).map (·.1)=(hd aa).map Sum.inr:=nX (aa.map (·.1)) [] [] rfl;generalize cJ ((aa.map (·.1)).map λh=>((Sum.inr h:aS),V.bl true)) []=kH at Ka ⊢;have Nx:=sm.trans (af hdd (.dK kH));have jf:upd H2 d (.dK kH) d=some (.dK kH):=ae;generalize upd H2 d (.dK kH)=H3 at Nx jf;intro e he;have hde:∀o,upd H3 e o d=some (.dK kH):=λo=>by rw [aj (ay jf he)];exact jf
 have Bh:∀o,aC H (upd H3 e o):=λo=>Nx.trans (af he o);have ll:=aY b9;refine⟨_,rfl,R,rfl,⟨_,(Bh _).seq hR⟩,cC (xs:=rs.map V.ref) (λi σ H5=>∃(kvs:List (aS×V))(y3 y4 y5:Option V),σ=[aP R,aP d,aP e,y3,y4,y5]/\H5=upd H3 e (.dK kvs) /\
  kvs.map (·.1)=(tI (hd aa) [] ((aa.take i).flatMap (·.2))).map Sum.inr) ⟨[],none,none,none,rfl,rfl,rfl⟩ ?_ ?_ ?_⟩
 .rintro i σ H5 _ ⟨kvs,y3,y4,y5,rfl,rfl,_⟩;exact(Bh _).seq hR
 .rintro i x σ H5 ex ⟨kvs,y3,y4,y5,rfl,rfl,hk⟩
  ac_nf0
  rw [bh] at ex;obtain⟨r,er,rfl⟩:=cg.mp ex;obtain⟨ru,e1,p,v1,v2⟩:=b9.get er;have li:=(bq.mp e1).1;have NS:=h8 ru (cf e1);have eT:(aa.take (i+1)).flatMap (·.2)=(aa.take i).flatMap (·.2)++ru.2:=by
   rw [cR,e1,jY];simp
  have lA:((aa.take i).flatMap (·.2)).length<=8 * i:=jB (aa.take i) i (by rw [dN];omega) λru i7=>h8 ru (pZ i7);refine⟨r,_,rfl,(Bh _).tup v1,rfl,_,_,rfl,_,_,rfl,rfl,?_⟩;refine⟨_,rfl,p,rfl,⟨_,(Bh _).tup v2⟩,qM (xs:=ru.2.map V.str) (λj σ H6=>∃(kvs:List (aS×V))(y5:Option V),σ=[aP R,aP d,aP e,some (.str ru.1),aP p,y5]/\H6=upd H3 e (.dK kvs) /\
   kvs.map (·.1)=(tI (hd aa) [] ((aa.take i).flatMap (·.2)++ru.2.take j)).map Sum.inr) ⟨kvs,_,rfl,rfl,by rw [oN,ir];exact hk⟩ ?_ ?_ ?_⟩
  .rintro j σ H6 _ ⟨kvs,y5,rfl,rfl,_⟩;exact(Bh _).tup v2
  .rintro j x σ H6 pL ⟨kvs,y5,rfl,rfl,CQ⟩
   ac_nf0
   rw [bh] at pL;obtain⟨z,ez,rfl⟩:=cg.mp pL;have lj:=(bq.mp ez).1;have eS:tI (hd aa) [] ((aa.take i).flatMap (·.2)++ru.2.take (j+1))=addW (hd aa) (tI (hd aa) [] ((aa.take i).flatMap (·.2)++ru.2.take j)) z:=by
    rw [cR,ez,<-kr];exact List.foldl_append
   have lk:kvs.length<=8 * i+8:=by
    have h1:kvs.length=(tI (hd aa) [] ((aa.take i).flatMap (·.2)++ru.2.take j)).length:=by
     have:=congrArg List.length CQ;rw [au,au] at this;exact this
    have h2:=vj (hd aa) ((aa.take i).flatMap (·.2)++ru.2.take j) [];rw [bL,dN] at h2;simp only [iU] at h2;omega
   have mem:(bA kH (Sum.inr z)).isSome=true↔z∈hd aa:=by rw [ff,Ka];exact df
   refine⟨_,rfl,_,rfl,d,_,rfl,cy.k (k:=Sum.inr z) (hde _),_,rfl,?_⟩;refine bY (λc=>?_) (λc=>?_)
   .have nm:z∉hd aa:=λh=>by rw [mem.mpr h] at c;exact absurd c (by decide)
    refine⟨_,rfl,_,rfl,e,_,rfl,pU.k (k:=Sum.inr z) ae (bK ∅),?_⟩;refine⟨bR kvs (Sum.inr z) (.bl true),_,rfl,by rw [m_],?_⟩;rw [eS];unfold addW;rw [az nm];exact kW CQ z
   have im:z∈hd aa:=mem.mp (by
    cases h:(bA kH (Sum.inr z)).isSome with
    | true=>rfl
    | false=>exact absurd (by rw [h];rfl) c)
   refine⟨kvs,_,rfl,rfl,?_⟩;rw [eS];unfold addW;rw [ax im];exact CQ
  rintro σ H6 ⟨kvs,y5,rfl,rfl,CQ⟩;rw [au,cQ,<-eT] at CQ;exact⟨kvs,_,_,_,rfl,rfl,CQ⟩
 rintro σ H5 ⟨kvs,y3,y4,y5,rfl,rfl,hk⟩;rw [au,ll,cQ] at hk;refine⟨_,rfl,e,_,rfl,ae,λD2 i8=>?_⟩;rw [keys_str hk];exact q D2 _ ((Bh _).free i8) ((Bh _).trans (af i8 _)) ae
end
end gK
namespace L2
open PySem
section
variable {K:a9}{a D:Addr}{xs:List V}{ts:List Str}{js:List (Nat×Str)}{g:TG}{tif:TT}{te:TE}{R:Hp->Prop}{σ:St}{H:Hp}
def g8 (Pv:Nat->List V->St->Hp->Prop)(h0:Pv 0 [] (eQ ts js σ) (upd H D (.lst [])))(hl:∀i ys σ H,i<=xs.length->Pv i ys σ H->aQ K H a xs)
  (hs:∀i x ys σ H,xs[i]?=some x->Pv i ys σ H->g x σ H λσ2 H2=>tif σ2 H2 λb H3=>if b=true then te σ2 H3 λy H4=>H4 D=some (.lst ys)/\ys.length < sizeLine/\Pv (i+1) (ys++[y]) σ2 (upd H4 D (.lst (ys++[y]))) else Pv (i+1) ys σ2 H3)
  (hd:∀ys σ H,Pv xs.length ys σ H->R H) :
  ∃W:Nat->Nat->List V->St->Hp->Prop,(∃m,W 0 m [] (eQ ts js σ) (upd H D (.lst []))) /\
 ∀i m ys σ' H,W i m ys σ' H->((qk K a).stop i H/\R H)\/((qk K a).go i H/\∃m',m' < m/\∀x H',(qk K a).mZ i H x H'->g x σ' H' λσ2 H2=>tif σ2 H2 λb H3 =>
  if b=true then te σ2 H3 λy H4=>H4 D=some (.lst ys)/\ys.length < sizeLine/\W (i+1) m' (ys++[y]) σ2 (upd H4 D (.lst (ys++[y]))) else W (i+1) m' ys σ2 H3):=by
 refine⟨λi m ys σ H=>m=xs.length - i/\i<=xs.length/\Pv i ys σ H,⟨xs.length,by simp,gA _,h0⟩,?_⟩;rintro i m ys σ' H ⟨rfl,hi,p⟩;have q:=hl i ys σ' H hi p;by_cases ke:i < xs.length
 .refine .inr ⟨⟨xs,xs[i],q,by simp [ke]⟩,xs.length - (i+1),∅,λx H' y=>?_⟩;obtain⟨e,y⟩:=y;subst e;have z:=hs i x ys σ' _ (y xs q) p;have h1:(i+1<=xs.length)=True:=eq_true ke;simp only [h1,true_and];exact z
 have e:i=xs.length:=by omega
 subst e;exact .inl ⟨⟨xs,q,aH _⟩,hd ys σ' H p⟩
def x_ (Pv:Nat->List V->St->Hp->Prop)(h0:Pv 0 [] (eQ ts js σ) (upd H D (.lst [])))(hl:∀i ys σ H,i<=xs.length->Pv i ys σ H->aQ K H a xs)
  (hs:∀i x ys σ H t,xs[i]?=some x->Pv i ys σ H->H t=none->g (.ref t) σ (upd H t (.tup [.int (i:Int),x])) λσ2 H2=>tif σ2 H2 λb H3=>if b=true then te σ2 H3 λy H4=>H4 D=some (.lst ys)/\ys.length < sizeLine/\Pv (i+1) (ys++[y]) σ2 (upd H4 D (.lst (ys++[y]))) else Pv (i+1) ys σ2 H3)
  (hd:∀ys σ H,Pv xs.length ys σ H->R H) :
  ∃W:Nat->Nat->List V->St->Hp->Prop,(∃m,W 0 m [] (eQ ts js σ) (upd H D (.lst []))) /\
 ∀i m ys σ' H,W i m ys σ' H->((tF K a).stop i H/\R H)\/((tF K a).go i H/\∃m',m' < m/\∀x H',(tF K a).mZ i H x H'->g x σ' H' λσ2 H2=>tif σ2 H2 λb H3 =>
  if b=true then te σ2 H3 λy H4=>H4 D=some (.lst ys)/\ys.length < sizeLine/\W (i+1) m' (ys++[y]) σ2 (upd H4 D (.lst (ys++[y]))) else W (i+1) m' ys σ2 H3):=by
 refine⟨λi m ys σ H=>m=xs.length - i/\i<=xs.length/\Pv i ys σ H,⟨xs.length,by simp,gA _,h0⟩,?_⟩;rintro i m ys σ' H ⟨rfl,hi,p⟩;have q:=hl i ys σ' H hi p;by_cases ke:i < xs.length
 .refine .inr ⟨⟨xs,xs[i],q,by simp [ke]⟩,xs.length - (i+1),∅,λx H' y=>?_⟩;obtain⟨t,y0,rfl,ht,rfl,y⟩:=y;have z:=hs i y0 ys σ' _ t (y xs q) p ht;have h1:(i+1<=xs.length)=True:=eq_true ke;simp only [h1,true_and];exact z
 have e:i=xs.length:=by omega
 subst e;exact .inl ⟨⟨xs,q,aH _⟩,hd ys σ' H p⟩
end
def kY {K:a9}{a:Addr}{xs:List V}{g:TG}{tb:TS}{D:Ends}{σ:St}{H:Hp}(Pv:Nat->St->Hp->Prop)(h0:Pv 0 σ H)(hl:∀i σ H,i<=xs.length->Pv i σ H->aI K H a xs)
  (hs:∀i x σ H t,xs[i]?=some x->Pv i σ H->H t=none->g (.ref t) σ (upd H t (.tup [.int (i:Int),x])) λσ2 H2=>tb { D with nx:=Pv (i+1),ct:=Pv (i+1),bk:=D.nx } σ2 H2)(hd:∀σ H,Pv xs.length σ H->D.nx σ H) :
  ∃W:Nat->Nat->St->Hp->Prop,(∃m,W 0 m σ H)/\∀i m σ H,W i m σ H ->
   ((Q_ K a).stop i H/\D.nx σ H)\/((Q_ K a).go i H/\∃N:St->Hp->Prop,(∀σ' H',N σ' H'->∃m',m' < m/\W (i+1) m' σ' H')/\∀x H',(Q_ K a).mZ i H x H'->g x σ H' λσ2 H2=>tb { D with nx:=N,ct:=N,bk:=D.nx } σ2 H2):=by
 refine⟨λi m σ H=>m=xs.length - i/\i<=xs.length/\Pv i σ H,⟨xs.length,by simp,gA _,h0⟩,?_⟩;rintro i m σ H ⟨rfl,hi,p⟩;have q:=hl i σ H hi p;by_cases ke:i < xs.length
 .refine .inr ⟨⟨xs,xs[i],q,by simp [ke]⟩,Pv (i+1),λσ' H' p'=>⟨xs.length - (i+1),∅,rfl,ke,p'⟩,λx H' y=>?_⟩;obtain⟨t,y0,rfl,ht,rfl,y⟩:=y;exact hs i y0 σ _ t (y xs q) p ht
 have e:i=xs.length:=by omega
 subst e;exact .inl ⟨⟨xs,q,aH _⟩,hd σ H p⟩
def pK {K:a9}{a:Addr}{xs:List V}{g:TG}{tb:TS}{D:Ends}{σ:St}{H:Hp}(Pv:Nat->St->Hp->Prop)(h0:Pv 0 σ H)(hl:∀i σ H,i<=xs.length->Pv i σ H->aQ K H a xs)
  (hs:∀i x σ H t,xs[i]?=some x->Pv i σ H->H t=none->g (.ref t) σ (upd H t (.tup [.int (i:Int),x])) λσ2 H2=>tb { D with nx:=Pv (i+1),ct:=Pv (i+1),bk:=D.nx } σ2 H2)(hd:∀σ H,Pv xs.length σ H->D.nx σ H) :
  ∃W:Nat->Nat->St->Hp->Prop,(∃m,W 0 m σ H)/\∀i m σ H,W i m σ H ->
   ((tF K a).stop i H/\D.nx σ H)\/((tF K a).go i H/\∃N:St->Hp->Prop,(∀σ' H',N σ' H'->∃m',m' < m/\W (i+1) m' σ' H')/\∀x H',(tF K a).mZ i H x H'->g x σ H' λσ2 H2=>tb { D with nx:=N,ct:=N,bk:=D.nx } σ2 H2):=by
 refine⟨λi m σ H=>m=xs.length - i/\i<=xs.length/\Pv i σ H,⟨xs.length,by simp,gA _,h0⟩,?_⟩;rintro i m σ H ⟨rfl,hi,p⟩;have q:=hl i σ H hi p;by_cases ke:i < xs.length
 .refine .inr ⟨⟨xs,xs[i],q,by simp [ke]⟩,Pv (i+1),λσ' H' p'=>⟨xs.length - (i+1),∅,rfl,ke,p'⟩,λx H' y=>?_⟩;obtain⟨t,y0,rfl,ht,rfl,y⟩:=y;exact hs i y0 σ _ t (y xs q) p ht
 have e:i=xs.length:=by omega
 subst e;exact .inl ⟨⟨xs,q,aH _⟩,hd σ H p⟩
def uK {K:a9}{H:Hp}{p D d:Addr}{zs:List Str}{kvs:List (aS×V)}{σ:St}{js:List (Nat×Str)}{Qp:Hp->Prop}(hσ:eQ ["part"] js σ=[none,aP d])(hp:aQ K H p (zs.map V.str))(hz:zs.length<=1000)
  (hd:H d=some (.dK kvs))(hD:H D=none)(q:∀H2,aC H H2->H2 D=some (.lst ((zs.map λz=>(bA kvs (Sum.inr z)).isSome).map V.bl))->Qp H2) :
  ∃W:Nat->Nat->List V->St->Hp->Prop,(∃m,W 0 m [] (eQ ["part"] js σ) (upd H D (.lst []))) /\
 ∀i m ys σ' H,W i m ys σ' H->((qk K p).stop i H/\Qp H)\/((qk K p).go i H/\∃m',m' < m/\∀x H',(qk K p).mZ i H x H'->dP 0 x σ' H' λσ2 H2=>iw σ2 H2 λb H3 =>
  if b=true then OK (gW 0) (gW 1) σ2 H3 λy H4=>H4 D=some (.lst ys)/\ys.length < sizeLine/\W (i+1) m' (ys++[y]) σ2 (upd H4 D (.lst (ys++[y]))) else W (i+1) m' ys σ2 H3):=by
 refine g8 (xs:=zs.map V.str) (λi ys σ2 H2=>ys=(((zs.take i).map λz=>(bA kvs (Sum.inr z)).isSome).map V.bl)/\(∃y0,σ2=[y0,aP d])/\aC H H2/\H2 D=some (.lst ys))
  ⟨rfl,⟨none,hσ⟩,af hD _,ae⟩ (λi ys σ2 H2 _ h=>h.2.2.1.tup hp) (λi x ys σ2 H2 ex h=>?_) (λys σ2 H2 h=>?_)
 .obtain⟨rfl,⟨y0,rfl⟩,sm,hd2⟩:=h;rw [bh] at ex;obtain⟨z,ez,rfl⟩:=cg.mp ex;have li:=(bq.mp ez).1;refine goN (yy ?_);refine⟨_,rfl,_,rfl,d,_,rfl,cy.k (k:=Sum.inr z) (sm _ _ hd),hd2,bK (by rw [au,au,dN];omega),?_,⟨_,rfl⟩,?_,ae⟩
  .rw [cR,ez,bF,bF];rfl
  intro b o hb;rw [aj (λz=>by rw [z,hD] at hb;cases hb)];exact sm b o hb
 obtain⟨rfl,_,sm,hd2⟩:=h;rw [au,cQ] at hd2;exact q H2 sm hd2
def h_ {K:a9}{H:Hp}{D a:Addr}{xs:List V}{ys:List (aS×V)}{o:HO}(hD:H D=some (.dK ys))(h:aQ K H a xs):aQ K (upd H D o) a xs:=by
 rcases h with (h | ⟨u,h⟩) | h
 .exact .inl (.inl (by rw [aj (λz=>by rw [z,hD] at h;cases h)];exact h))
 .exact .inl (.inr ⟨u,by rw [aj (λz=>by rw [z,hD] at h;cases h)];exact h⟩)
 exact .inr h
theorem gq {α:Type} [DecidableEq α]:∀(l m:List α),l.Nodup->(∀x∈l,x∈m)->l.length<=m.length
 | [],m,_,_=>gA _
 | a::l,m,hn,h=>by
  have hm:=h a cU;have:=gq l (m.erase a) (mR.mp hn).2 λx hx=>(List.mem_erase_of_ne (λz:x=a=>(mR.mp hn).1 (by rw [<-z];exact hx))).mpr (h x (dr _ hx));rw [List.length_erase_of_mem hm] at this;have:=List.length_pos_of_mem hm;rw [dM];omega
end L2
namespace M11
open PySem L2
inductive wF (aa:List aw):List (Str×Nat)->Prop
 | nil:wF aa []
 | snoc {bB:List (Str×Nat)}{k:Nat}{ru:aw}:wF aa bB->aa[k]?=some ru->ru.1∉bB.map (·.1)->(∀p∈ru.2,p∈bB.map (·.1))->wF aa (bB++[(ru.1,k)])
def yl (aa:List aw) (n:Nat)(bB:List (Str×Nat)):Prop:=∀ru∈aa.take n,(∀p∈ru.2,p∈bB.map (·.1))->ru.1∈bB.map (·.1)
def wF.nd {aa:List aw}{bB:List (Str×Nat)}(h:wF aa bB):(bB.map (·.1)).Nodup:=by
 induction h with
 | nil=>exact lK
 | snoc h e n p ih =>
  rw [bF];refine ku.mpr ⟨ih,by simp,λa ha b hb=>?_⟩;rw [oY,bU] at hb;exact λz=>n (by rw [<-hb,<-z];exact ha)
def wF.head {aa:List aw}{bB:List (Str×Nat)}(h:wF aa bB):∀x∈bB.map (·.1),x∈aa.map (·.1):=by
 induction h with
 | nil=>simp
 | snoc h e n p ih =>
  intro x hx;rw [bF] at hx;rcases cA.mp hx with hx | hx
  .exact ih x hx
  rw [oY,bU] at hx;rw [hx];exact jZ (cf e)
def wF.len {aa:List aw}{bB:List (Str×Nat)}(h:wF aa bB):bB.length<=aa.length:=by
 have:=gq _ _ h.nd h.head;rw [au,au] at this;exact this
end M11
namespace gK
open PySem L2 M11
section
def pR (K:a9)(H:Hp)(ts:List Addr)(bB:List (Str×Nat)):Prop:=Paired (λt (e:Str×Nat)=>aQ K H t [.str e.1,.int (e.2:Int)]) ts bB
def pR.keep {H H':Hp}{ts:List Addr}{bB:List (Str×Nat)}(h:pR K H ts bB)(k:∀a xs,aQ K H a xs->aQ K H' a xs):pR K H' ts bB:=Paired.dI h λt e z=>k _ _ z
structure BZ (K:a9)(aa:List aw)(H H5:Hp)(D d:Addr)(ts:List Addr)(bB:List (Str×Nat))(kvs:List (aS×V)):Prop where
 sm:aC H H5
 hD:H5 D=some (.lst (ts.map V.ref))
 hd:H5 d=some (.dK kvs)
 keys:kvs.map (·.1)=(bB.map (·.1)).map Sum.inr
 ev:pR K H5 ts bB
 emp:wF aa bB
def BZ.same {aa:List aw}{H H5 H6:Hp}{D d:Addr}{ts:List Addr}{bB:List (Str×Nat)}{kvs:List (aS×V)}(h:BZ K aa H H5 D d ts bB kvs)(s:aC H5 H6):BZ K aa H H6 D d ts bB kvs :=
 ⟨h.sm.trans s,s _ _ h.hD,s _ _ h.hd,h.keys,h.ev.keep λ_ _ z=>s.tup z,h.emp⟩
def BZ.mem {aa:List aw}{H H5:Hp}{D d:Addr}{ts:List Addr}{bB:List (Str×Nat)}{kvs:List (aS×V)}(h:BZ K aa H H5 D d ts bB kvs)(z:Str):(bA kvs (Sum.inr z)).isSome=true↔z∈bB.map (·.1):=by
 rw [ff,h.keys];exact df
def BZ.len {aa:List aw}{H H5:Hp}{D d:Addr}{ts:List Addr}{bB:List (Str×Nat)}{kvs:List (aS×V)}(h:BZ K aa H H5 D d ts bB kvs):ts.length=bB.length/\kvs.length=bB.length:=by
 refine⟨aY h.ev,?_⟩;have:=congrArg List.length h.keys;simpa using this
def BZ.more {aa:List aw}{H H5:Hp}{D d t:Addr}{ts:List Addr}{bB:List (Str×Nat)}{kvs:List (aS×V)}(h:BZ K aa H H5 D d ts bB kvs)(fD:H D=none)(fd:H d=none){k:Nat}{ru:aw}(e:aa[k]?=some ru)
  (n:ru.1∉bB.map (·.1))(p:∀x∈ru.2,x∈bB.map (·.1))(ht:upd H5 d (.dK (bR kvs (Sum.inr ru.1) (.bl true))) t=none) :
  BZ K aa H (upd (upd (upd H5 d (.dK (bR kvs (Sum.inr ru.1) (.bl true)))) t (.tup [.str ru.1,.int (k:Int)])) D (.lst (ts.map V.ref++[.ref t]))) D d (ts++[t]) (bB++[(ru.1,k)]) (bR kvs (Sum.inr ru.1) (.bl true)):=by
 have X4:D≠d:=λz=>by have:=h.hD;rw [z,h.hd] at this;cases this
 have nt:t≠d:=λz=>by rw [z,ae] at ht;cases ht
 have P0:H5 t=none:=by rw [aj nt] at ht;exact ht
 have nDt:D≠t:=λz=>by rw [<-z,h.hD] at P0;cases P0
 have i8:upd (upd H5 d (.dK (bR kvs (Sum.inr ru.1) (.bl true)))) t (.tup [.str ru.1,.int (k:Int)]) D=some (.lst (ts.map V.ref)):=by rw [aj nDt,aj X4];exact h.hD
 have kp:∀a xs,aQ K H5 a xs->aQ K (upd (upd (upd H5 d (.dK (bR kvs (Sum.inr ru.1) (.bl true)))) t (.tup [.str ru.1,.int (k:Int)])) D (.lst (ts.map V.ref++[.ref t]))) a xs:=λa xs z =>
  aT i8 ((af ht _).tup (h_ h.hd z))
 refine⟨λb o hb=>?_,by rw [ae,bF];rfl,by rw [aj X4.symm,aj nt.symm,ae],?_,gQ (h.ev.keep kp) (aT i8 (aQ.of ae)),.snoc h.emp e n p⟩
 .have:=h.sm b o hb;rw [aj (λz=>by rw [z,fD] at hb;cases hb),aj (λz=>by rw [z,P0] at this;cases this),aj (λz=>by rw [z,fd] at hb;cases hb)];exact this
 rw [iY (by rw [h.keys];exact λz=>n (df.mp z)),h.keys,bF,bF];rfl
def o_ (K:a9):Sp:=λvs H Q _=>∃(R:Addr)(rs:List Addr)(aa:List aw),vs=[.ref R]/\aI K H R (rs.map V.ref)/\bH K H rs aa/\aa.length<=1000/\(∀ru∈aa,ru.2.length<=8) /\
 ∀D ts bB H',H D=none->aC H H'->H' D=some (.lst (ts.map V.ref))->pR K H' ts bB->wF aa bB->yl aa aa.length bB->Q (.ref D) H'
def gX:aK ["rules","told","empty","many","number","rule"] ["rules"] (av rS):=iq rfl rfl rfl rfl (by decide +kernel)
def zS (F:g9 K "found_empties" "found_empties" rS f fd)(T:Txt mg):bN P w K mg base fj 1 f fd ["rules"] (o_ K):=by
 refine F.ok gX (λvs H Q E h=>?_) (λdU A outer s H vs Q E hr h=>?_)
 .obtain⟨R,rs,aa,rfl,_⟩:=h;rfl
 obtain⟨R,rs,aa,rfl,hR,b9,br,h8,q⟩:=h;have hu:=fR hr;refine⟨_,ai (aA (i:=1) gX.nd rfl (bx rfl) (bc ah))
  (ai (aA (i:=2) gX.nd rfl (Or.inr rfl) ig)
  (ai (aA (i:=3) gX.nd rfl (bx rfl) (j7 il ao))
  (ai (iK bZ (aV nU (pv 3) (aD aG rfl T.len cS (ab (pv 1) ah)) (bu _))
   (ai (aA (i:=3) gX.nd rfl (bx rfl) (aD aG rfl T.len cS (ab (pv 1) ah)))
   (ak (bO bZ rfl (nQ rfl T.Jh (ab (pv 0) ah)) (gI rfl (aE (aq (i:=4) gX.nd rfl (bx rfl)) (aE (aq (i:=5) gX.nd rfl (bx rfl)) b8)))
    (ak (bw (PW.pt (iJ (cY (dY hu (aF aN (pv 5) ao (λ_ _=>rfl)) (pv 2)))
      (gE (cX (aD (iE rfl) rfl T.all boot_all (ab (bE ["part"] [(2,"empty")] rfl (gH (aF aN (pv 5) ao (λ_ _=>rfl))) (bp rfl rfl) (by decide +kernel) rfl (by decide +kernel)
       (λ_ _ _ _ _=>aq (i:=0) (show (["part","empty"]:List Str).Nodup by decide +kernel) rfl (bx rfl)) (λ_ _ _ _ _=>bX) (λ_ _ _ _ _=>zH (jM hu (pv 0) (pv 1)))) ah))))))
     (ai (iZ hu (pv 2) (aF aN (pv 5) ao (λ_ _=>rfl)) dH rfl)
     (ak (bW (fq eF fY fZ bJ (pv 1) (ab (bC (ab (aF aN (pv 5) ao (λ_ _=>rfl)) (ab (pv 4) ah))) ah))))) aM))))))
  (ak (aL (pv 1)))))),?_⟩
 nofun
 refine⟨o6,λD hD d hd=>?_⟩;have X1:d≠D:=λz=>by rw [z,ae] at hd;cases hd
 have qK:H d=none:=by rw [aj X1] at hd;exact hd
 have e0:BZ K aa H (upd (upd H D (.lst [])) d (.dK [])) D d [] [] []:=⟨(af hD _).trans (af hd _),by rw [aj X1.symm,ae];rfl,ae,rfl,.nil,.nil⟩;generalize upd (upd H D (.lst [])) d (.dK [])=H0 at e0;refine⟨1,rfl,?_⟩;refine⟨λm σ H5=>∃(ts:List Addr)(bB:List (Str×Nat))(kvs:List (aS×V)) (many:Int)(y4 y5:Option V),σ=[aP R,aP D,aP d,some (.int many),y4,y5]/\BZ K aa H H5 D d ts bB kvs/\-1<=many/\many<=bB.length/\(many=bB.length->yl aa aa.length bB)/\(m:Int)=aa.length+1 - many,
  ⟨aa.length+2,[],[],[],-1,none,none,rfl,e0,∅,by simp,by simp,by simp;omega⟩,?_⟩
 rintro m σ H5 ⟨ts,bB,kvs,many,y4,y5,rfl,S,b1,b2,cl,em⟩;obtain⟨lt,lk⟩:=S.len;refine⟨_,rfl,_,rfl,D,_,rfl,.inl (aI.of S.hD),_,_,rfl,rfl,_,rfl,?_⟩;refine bY (λc=>?_) (λc=>?_)
 .have c':=dq c;rw [au,lt] at c';refine⟨λσ H5=>∃(tJ:List Addr)(iB:List (Str×Nat))(fM:List (aS×V))(y4 y5:Option V),σ=[aP R,aP D,aP d,some (.int (bB.length:Int)),y4,y5]/\BZ K aa H H5 D d tJ iB fM/\bB.length<=iB.length/\(iB.length=bB.length->yl aa aa.length iB),?_,?_⟩
  .rintro σ H6 ⟨tJ,iB,fM,y4,y5,rfl,S2,l2,c2⟩;have:=S2.emp.len;exact⟨(aa.length+1 - bB.length:Int).toNat,∅,tJ,iB,fM,_,_,_,rfl,S2,∅,∅,λz=>c2 ∅,∅⟩
  refine⟨_,rfl,D,_,rfl,.inl (aI.of S.hD),?_⟩;rw [au,lt];refine⟨_,rfl,R,_,rfl,S.sm.seq hR,?_⟩;refine kY (xs:=rs.map V.ref) (λi σ H6=>∃(tJ:List Addr)(iB:List (Str×Nat))(fM:List (aS×V))(y4 y5:Option V),σ=[aP R,aP D,aP d,some (.int (bB.length:Int)),y4,y5]/\BZ K aa H H6 D d tJ iB fM/\bB.length<=iB.length/\(iB.length=bB.length->yl aa i iB))
   ⟨ts,bB,kvs,_,_,rfl,S,aH _,λ_ ru i7=>by simp at i7⟩ ?_ ?_ ?_
  .rintro i σ H6 _ ⟨tJ,iB,fM,y4,y5,rfl,S2,_⟩;exact S2.sm.seq hR
  .rintro i x σ H6 t ex ⟨tJ,iB,fM,y4,y5,rfl,S2,l2,c2⟩ ht
   ac_nf0
   rw [bh] at ex;obtain⟨r,er,rfl⟩:=cg.mp ex;obtain⟨ru,e1,p,v1,v2⟩:=b9.get er;have NS:=h8 ru (cf e1);have S3:=S2.same (af ht (.tup [.int (i:Int),.ref r]));have NK:aQ K (upd H6 t (.tup [.int (i:Int),.ref r])) t [.int (i:Int),.ref r]:=aQ.of ae;generalize upd H6 t (.tup [.int (i:Int),.ref r])=H7 at S3 NK;obtain⟨lt2,Hj⟩:=S3.len;have el2:=S3.emp.len;have tk:aa.take (i+1)=aa.take i++[ru]:=by rw [cR,e1];rfl
   have j_:(¬((∀p∈ru.2,p∈iB.map (·.1))/\ru.1∉iB.map (·.1)))->(iB.length=bB.length->yl aa (i+1) iB):=λhn z Cb xI hp=>by
    rw [tk] at xI;rcases cA.mp xI with h | h
    .exact c2 z Cb h hp
    rw [bU.mp h] at hp ⊢;exact Classical.byContradiction λhc=>hn ⟨hp,hc⟩
   refine⟨t,_,rfl,NK,rfl,_,_,rfl,_,_,rfl,rfl,?_⟩;refine⟨_,rfl,r,_,_,_,rfl,rfl,S3.sm.tup v1,rfl,?_⟩;refine⟨_,rfl,d,_,rfl,cy.k (k:=Sum.inr ru.1) S3.hd,_,rfl,?_⟩;refine bY (λc3=>?_) (λc3=>?_)
   .have nm:ru.1∉iB.map (·.1):=λh=>by rw [(S3.mem _).mpr h] at c3;exact absurd c3 (by decide)
    refine⟨_,rfl,r,_,_,_,rfl,rfl,S3.sm.tup v1,rfl,p,rfl,⟨_,S3.sm.tup v2⟩,λD2 i8=>uK rfl (S3.sm.tup v2) ∅ S3.hd i8 λH8 Nw Qm=>?_⟩;have S4:=S3.same Nw;refine⟨D2,_,rfl,aI.of Qm,_,rfl,?_⟩;refine bY (λc4=>?_) (λc4=>?_)
    .have al:∀x∈ru.2,x∈iB.map (·.1):=λx hx=>(S4.mem x).mp (gB.mp c4 _ (jZ hx));refine⟨_,rfl,_,rfl,r,_,_,_,rfl,rfl,S4.sm.tup v1,rfl,d,_,rfl,pU.k (k:=Sum.inr ru.1) S4.hd (bK ∅),?_⟩;have v1':aQ K (upd H8 d (.dK (bR fM (Sum.inr ru.1) (.bl true)))) r [.str ru.1,.ref p]:=h_ S4.hd (S4.sm.tup v1);have MD:upd H8 d (.dK (bR fM (Sum.inr ru.1) (.bl true))) D=some (.lst (tJ.map V.ref)):=by rw [aj (λz=>by have:=S4.hD;rw [z,S4.hd] at this;cases this)];exact S4.hD
     refine⟨_,rfl,.inl ⟨rfl,_,aI.of MD⟩,_,rfl,r,_,_,_,rfl,rfl,v1',rfl,_,rfl,kb,λt2 jh=>?_⟩;refine⟨D,_,_,rfl,rfl,(by rw [aj (ay MD jh)];exact MD),bK (by rw [au];omega),?_⟩;have S5:=S4.more hD qK e1 nm al jh;exact⟨tJ++[t2],iB++[(ru.1,i)],_,_,_,rfl,S5,by rw [bL];omega,λz=>by rw [bL] at z;simp at z;omega⟩
    refine⟨tJ,iB,fM,_,_,rfl,S4,l2,j_ λ⟨ha,_⟩=>c4 (gB.mpr λb hb=>?_)⟩;obtain⟨x,hx,rfl⟩:=cP.mp hb;exact(S4.mem x).mpr (ha x hx)
   refine⟨tJ,iB,fM,_,_,rfl,S3,l2,j_ λ⟨_,hn⟩=>c3 ?_⟩;cases hq:(bA fM (Sum.inr ru.1)).isSome with
   | true=>exact absurd ((S3.mem _).mp hq) hn
   | false=>rfl
  rintro σ H6 ⟨tJ,iB,fM,y4,y5,rfl,S2,l2,c2⟩;rw [au,aY b9] at c2;exact⟨tJ,iB,fM,_,_,rfl,S2,l2,c2⟩
 have c':=of_decide_eq_false (q9.mpr c);rw [au,lt] at c';exact⟨_,rfl,q D ts bB H5 hD S.sm S.hD S.ev S.emp (cl ∅)⟩
end
end gK
namespace M11
open PySem L2
def C0 (b:Str->Bool):List Str->Nat
 | []=>0
 | z::r=>if b z=true then C0 b r+1 else 1
theorem Bz (b:Str->Bool):∀zs:List Str,(∀z∈zs,b z=true)->C0 b zs=zs.length
 | [],_=>rfl
 | z::r,h=>by
  unfold C0;rw [ax (h z cU),Bz b r λx hx=>h x (dr _ hx)];rfl
theorem Gm (b:Str->Bool):∀(zs:List Str) (i:Nat)(z:Str),(∀x∈zs.take i,b x=true)->zs[i]?=some z->¬b z=true->C0 b zs=i+1
 | y::r,0,z,_,e,n=>by
  cases e;unfold C0;rw [az n]
 | y::r,i+1,z,h,e,n=>by
  unfold C0;rw [ax (h y (by rw [List.take_succ_cons];exact cU)),Gm b r i z (λx hx=>h x (by rw [List.take_succ_cons];exact dr _ hx)) e n]
theorem Gk (b:Str->Bool):∀zs:List Str,C0 b zs<=zs.length
 | []=>aH _
 | z::r=>by
  have:=Gk b r;unfold C0;rw [dM]
  split <;> omega
def cnt (n:Nat):List V:=(List.range n).map λk:Nat=>V.int (k:Int)
end M11
namespace gK
open PySem L2 M11
section
def A4 (K:a9):Sp:=λvs H Q _=>∃(R:Addr)(rs:List Addr)(aa:List aw),vs=[.ref R]/\aI K H R (rs.map V.ref)/\bH K H rs aa/\aa.length<=1000/\(∀ru∈aa,ru.2.length<=8)/\(aa.flatMap (·.2)).Nodup /\
 ∀H',aC H H'->Q .d6 H'
def nj:aK ["strengths","met","way","words","word"] ["strengths"] (av y_):=iq rfl rfl rfl rfl (by decide +kernel)
def Ff (F:g9 K "refuse_twice" "refuse_twice" y_ f fd)(T:Txt mg):bN P w K mg base fj 1 f fd ["strengths"] (A4 K):=by
 refine F.ok nj (λvs H Q E h=>?_) (λdU A outer s H vs Q E hr h=>?_)
 .obtain⟨R,rs,aa,rfl,_⟩:=h;rfl
 obtain⟨R,rs,aa,rfl,hR,b9,br,h8,Hn,q⟩:=h;have hu:=fR hr;refine⟨_,ai (aA (i:=1) nj.nd rfl (bx rfl) ig)
  (ak (bO bZ rfl (aZ (pv 0)) (gI rfl (aE (aq (i:=2) nj.nd rfl (bx rfl)) (aE (aq (i:=3) nj.nd rfl (bx rfl)) b8)))
   (ak (bO bZ rfl (gH (pv 3)) (aq (i:=4) nj.nd rfl (bx rfl))
    (ai (bw (cY (jM hu (pv 4) (pv 1))) (ak iL) aM) (ak (iZ hu (pv 1) (pv 4) dH rfl))))))),?_⟩
 nofun
 intro e he;have Bh:∀o,aC H (upd H e o):=λo=>af he o;have ll:=aY b9;refine⟨_,rfl,R,rfl,⟨_,(Bh _).seq hR⟩,cC (xs:=rs.map V.ref) (λi σ H5=>∃(kvs:List (aS×V))(y3 y4 y5:Option V),σ=[aP R,aP e,y3,y4,y5]/\H5=upd H e (.dK kvs) /\
  kvs.map (·.1)=((aa.take i).flatMap (·.2)).map Sum.inr) ⟨[],none,none,none,rfl,rfl,rfl⟩ ?_ ?_ ?_⟩
 .rintro i σ H5 _ ⟨kvs,y3,y4,y5,rfl,rfl,_⟩;exact(Bh _).seq hR
 .rintro i x σ H5 ex ⟨kvs,y3,y4,y5,rfl,rfl,hk⟩
  ac_nf0
  rw [bh] at ex;obtain⟨r,er,rfl⟩:=cg.mp ex;obtain⟨ru,e1,p,v1,v2⟩:=b9.get er;have li:=(bq.mp e1).1;have NS:=h8 ru (cf e1);have eT:(aa.take (i+1)).flatMap (·.2)=(aa.take i).flatMap (·.2)++ru.2:=by
   rw [cR,e1,jY];simp
  have lA:((aa.take i).flatMap (·.2)).length<=8 * i:=jB (aa.take i) i (by rw [dN];omega) λru i7=>h8 ru (pZ i7);have FE:((aa.take i).flatMap (·.2)++ru.2).Nodup:=by
   have e2:aa.flatMap (·.2)=((aa.take i).flatMap (·.2)++ru.2)++(aa.drop (i+1)).flatMap (·.2):=by
    rw [<-eT,<-jY,rq]
   rw [e2] at Hn;exact(ku.mp Hn).1
  refine⟨r,_,rfl,(Bh _).tup v1,rfl,_,_,rfl,_,_,rfl,rfl,?_⟩;refine⟨_,rfl,p,rfl,⟨_,(Bh _).tup v2⟩,qM (xs:=ru.2.map V.str) (λj σ H6=>∃(kvs:List (aS×V))(y5:Option V),σ=[aP R,aP e,some (.str ru.1),aP p,y5]/\H6=upd H e (.dK kvs) /\
   kvs.map (·.1)=((aa.take i).flatMap (·.2)++ru.2.take j).map Sum.inr) ⟨kvs,_,rfl,rfl,by rw [oN,ir];exact hk⟩ ?_ ?_ ?_⟩
  .rintro j σ H6 _ ⟨kvs,y5,rfl,rfl,_⟩;exact(Bh _).tup v2
  .rintro j x σ H6 pL ⟨kvs,y5,rfl,rfl,CQ⟩
   ac_nf0
   rw [bh] at pL;obtain⟨z,ez,rfl⟩:=cg.mp pL;have lj:=(bq.mp ez).1;have eS:ru.2.take (j+1)=ru.2.take j++[z]:=by rw [cR,ez];rfl
   have lk:kvs.length<=8 * i+8:=by
    have h1:=congrArg List.length CQ;rw [au,au,bL,dN] at h1;omega
   have nz:z∉(aa.take i).flatMap (·.2)++ru.2.take j:=λhz=>by
    have e3:(aa.take i).flatMap (·.2)++ru.2=((aa.take i).flatMap (·.2)++ru.2.take j)++([z]++ru.2.drop (j+1)):=by
     rw [kr,<-kr (ru.2.take j),<-eS,rq]
    rw [e3] at FE;exact(ku.mp FE).2.2 z hz z (by simp) rfl
   have nk:¬(Sum.inr z:aS)∈kvs.map (·.1):=by rw [CQ];exact λh=>nz (df.mp h)
   refine⟨_,rfl,_,rfl,e,_,rfl,cy.k (k:=Sum.inr z) ae,_,rfl,?_⟩;refine bY (λc=>absurd ((ff kvs _).mp c) nk) (λ_=>?_);refine⟨_,rfl,_,rfl,e,_,rfl,pU.k (k:=Sum.inr z) ae (bK ∅),?_⟩;refine⟨bR kvs (Sum.inr z) (.bl true),_,rfl,by rw [m_],?_⟩;rw [iY nk,CQ,eS,<-kr];simp only [bF,cq,jF]
  rintro σ H6 ⟨kvs,y5,rfl,rfl,CQ⟩;rw [au,cQ,<-eT] at CQ;exact⟨kvs,_,_,_,rfl,rfl,CQ⟩
 rintro σ H5 ⟨kvs,y3,y4,y5,rfl,rfl,hk⟩;exact q _ (Bh _)
def wY (K:a9):Sp:=λvs H Q _=>∃(p d:Addr) (zs:List Str)(kvs:List (aS×V)),vs=[.ref p,.ref d]/\aQ K H p (zs.map V.str)/\zs.length<=1000/\H d=some (.dK kvs) /\
 ∀D H',H D=none->aC H H'->H' D=some (.lst (cnt (C0 (λz=>(bA kvs (Sum.inr z)).isSome) zs)))->Q (.ref D) H'
def nr:aK ["parts","empty","places","place","part"] ["parts","empty"] (av vJ):=iq rfl rfl rfl rfl (by decide +kernel)
def Cq (F:g9 K "first_places" "first_places" vJ f fd)(T:Txt mg):bN P w K mg base fj 1 f fd ["parts","empty"] (wY K):=by
 refine F.ok nr (λvs H Q E h=>?_) (λdU A outer s H vs Q E hr h=>?_)
 .obtain⟨p,d,zs,kvs,rfl,_⟩:=h;rfl
 obtain⟨p,d,zs,kvs,rfl,hp,hz,hd,q⟩:=h;have hu:=fR hr;refine⟨_,ai (aA (i:=2) nr.nd rfl (bx rfl) (bc ah))
  (ai (bO bZ rfl (nO rfl T.Jh (ab (pv 0) ah)) (gI rfl (aE (aq (i:=3) nr.nd rfl (bx rfl)) (aE (aq (i:=4) nr.nd rfl (bx rfl)) b8)))
   (ai (bW (fq eF fY fZ bJ (pv 2) (ab (pv 3) ah)))
   (ak (bw (cY (dY hu (pv 4) (pv 1))) (ak EW) aM))))
  (ak (aL (pv 2)))),?_⟩
 nofun
 refine⟨o6,λD hD=>?_⟩;have up1:∀n,cnt n++[V.int (n:Int)]=cnt (n+1):=λn=>by
  unfold cnt;rw [List.range_succ,bF];rfl
 refine⟨_,rfl,p,_,rfl,(af hD _).tup hp,?_⟩;refine pK (xs:=zs.map V.str) (λi σ H5=>∃(y3 y4:Option V),σ=[aP p,aP d,aP D,y3,y4]/\aC H H5/\H5 D=some (.lst (cnt i))/\∀z∈zs.take i,(bA kvs (Sum.inr z)).isSome=true)
  ⟨none,none,rfl,af hD _,ae,by simp⟩ ?_ ?_ ?_
 .rintro i σ H5 _ ⟨y3,y4,rfl,sm,_⟩;exact sm.tup hp
 .rintro i x σ H5 t ex ⟨y3,y4,rfl,sm,Qn,qt⟩ ht
  ac_nf0
  rw [bh] at ex;obtain⟨z,ez,rfl⟩:=cg.mp ex;have li:=(bq.mp ez).1;have kc:=sm.trans (af ht (.tup [.int (i:Int),.str z]));have i8:upd H5 t (.tup [.int (i:Int),.str z]) D=some (.lst (cnt i)):=by rw [aj (ay Qn ht)];exact Qn
  have hv:aQ K (upd H5 t (.tup [.int (i:Int),.str z])) t [.int (i:Int),.str z]:=aQ.of ae;generalize upd H5 t (.tup [.int (i:Int),.str z])=H6 at kc i8 hv;have Nx:aC H (upd H6 D (.lst (cnt i++[V.int (i:Int)]))):=λb o hb=>by
   rw [aj (λz=>by rw [z,hD] at hb;cases hb)];exact kc b o hb
  refine⟨t,_,rfl,hv,rfl,_,_,rfl,_,_,rfl,rfl,?_⟩;refine⟨_,rfl,.inl ⟨rfl,_,aI.of i8⟩,_,rfl,D,_,_,rfl,rfl,i8,bK (by unfold cnt;rw [au,uY];omega),?_⟩;refine⟨_,rfl,_,rfl,d,_,rfl,cy.k (k:=Sum.inr z) (Nx _ _ hd),_,rfl,?_⟩;refine bY (λc=>?_) (λc=>?_)
  .refine⟨_,rfl,q D _ hD Nx ?_⟩;rw [ae,up1,Gm _ zs i z qt ez (λh=>by rw [h] at c;exact absurd c (by decide))]
  refine⟨_,_,rfl,Nx,by rw [ae,up1],λx hx=>?_⟩;rw [cR,ez] at hx;rcases cA.mp hx with h | h
  .exact qt x h
  rw [Option.toList_some,bU] at h;subst h;cases hq:(bA kvs (Sum.inr x)).isSome with
  | true=>rfl
  | false=>exact absurd (by rw [hq];rfl) c
 rintro σ H5 ⟨y3,y4,rfl,sm,Qn,qt⟩;rw [au] at Qn qt;rw [cQ] at qt;exact⟨_,rfl,q D _ hD sm (by rw [Bz _ zs qt];exact Qn)⟩
end
end gK
namespace L2
open PySem
section
variable {prog:Program}{w:World}{K:Type} [DecidableEq K] {knd:KeyKind prog w K}{A:Around}{E:Value->Shared->Prop}
def tV {s:Shared}{d l:Addr}{items:Array Value}{n:Nat}{kvs more:List (K×Value)}{Q:Value->Shared->Prop}(hh:A.handled=none)(qK:s.heap.DictOf knd d kvs)(hx:s.heap.get? l=some { cls:=.type "list",data:=.seq items n })
  (hi:items.size=more.length)(hp:∀(m:Nat) kv,more[m]?=some kv->∃u,items[m]?=some u/\mK knd s.heap u kv)(hz:kvs.length+more.length<=sizeLine)
  (h:∀h' t',h'.DictOf knd d (more.foldl (λa p=>stored a p.1 p.2) kvs)->(∀b o,b≠d->s.heap.get? b=some o->h'.get? b=some o)->Q .none { s with heap:=h',toks:=t' }) :
  wpAny (model prog w) A (call (.builtin "dict.update") [.ref d,.ref l]) Q E s:=by
 refine wpAny_call (codeAny_call_builtin yK.plain PySem.F.entry_dict_update (yK.check _ _ _ _ _ _ _ _ qK.typeIs (PySem.F.args_dict_update_2 _ _) ?_));unfold Builtin.«dict.update»;refine ar ?_;unfold Builtin.Dict.selfAndRest;refine ar (wpAny_notOrdered_dict qK.typeIs ?_);show wpAny _ _ (pure (d,[Value.ref l])) _ _ s;refine aR ?_;show wpAny _ _ (Builtin.Dict.updateFrom "dict.update" d (.ref l) [] .none) _ _ s;unfold Builtin.Dict.updateFrom;refine ar (jV (T := "list") ⟨_,hx,rfl⟩ ?_);rw [ax yT];refine ar (pF hx hh λh1 t1 k1=>?_);refine ar (i_ ?_);have l1:=k1 _ _ hx;refine ar (oQ ⟨_,l1,rfl,_,rfl⟩ ?_);have k2:∀b o,s.heap.get? b=some o->(h1.push { cls:=.type "list_iterator",data:=.fields #[.ref l,.int 0 0] }).get? b=some o:=λb o q=>bI _ (k1 _ _ q);refine aR ⟨kC fC _,Gx (knd:=knd) (A:=A) (l:=l) (items:=items) hh more 0 _ kvs _ _ (by rw [hi,oI]) ?_ ⟨_,cV _ rfl,rfl,rfl⟩ ⟨_,k2 _ _ hx,rfl,n,rfl⟩ (λm kv e=>?_) hz λh' t' hd k3=>?_⟩
 .obtain⟨o,es,ep,q,r⟩:=qK;exact⟨o,es,ep,k2 _ _ q,r⟩
 .obtain⟨u,e1,e2⟩:=hp m kv e;exact⟨u,by rw [oI];exact e1,e2.keep λb o _ q=>k2 b o q⟩
 exact h h' t' hd λb o n q=>k3 b o n (bM (ba (k1 _ _ q))) (k2 b o q)
end
section
variable {X:Cx}{o e:Expr}{apos gM:Pos}{td ty:TE}
def OJ (K:a9)(td ty:TE):TE:=λσ H Q=>td σ H λx H1=>∃a,x=.ref a/\Sv H1 a/\ty σ H1 λy H2=>∃l ts kvs more,y=.ref l/\H2 a=some (.dK kvs)/\H2 l=some (.lst (ts.map V.ref)) /\
 Paired (λt kv=>aQ K H2 t [kV kv.1,kv.2]) ts more/\kvs.length+more.length<=sizeLine/\Q .d6 (upd H2 a (.dK (cJ more kvs)))
def Iz (hc:X.calm=true)(ho:PE X o td)(he:PE X e ty)(m:M1 X o "update" apos e gM):PE X (.Call (.Attribute o "update" apos) [e] [] gM) (OJ X.K td ty):=by
 intro ag s σ H Q I h;refine wpAny_Call_method m.base m.BD m.line yI yK PySem.F.type_dict_update (cI (ho ag s σ H _ I h) λu s1 ⟨x,H1,I1,rx,a,ex,d,q1⟩=>?_);subst ex;obtain rfl:u=Value.ref a:=rx;obtain⟨t1,t2,_⟩:=Ac I1 d;refine⟨t1,t2,?_⟩;rw [m.trees];refine ro rfl (u3 (mh (cI (he ag s1 σ H1 _ I1 q1) λiv s2 ⟨y,H2,I2,ry,l,ts,kvs,more,ey,ea,el,p,hz,q2⟩=>qY ?_)));subst ey;cases (show iv=Value.ref l from ry);obtain⟨z,CL,vs,rel,dd⟩:=xU I2.b0 ea;obtain⟨z2,aU,n,rv,hl⟩:=(show cE X.prog X.w H2 s2.heap l (.lst _) from I2.b0 l _ el);obtain⟨ms,r1,r2⟩:=pairs_at I2 p rv;have l1:=aY r2;have l2:=r1.length;have l3:=aY p;refine tV (I2.ok.hd hc) dd hl (by simpa using l1) (λm kv em=>?_) (by rw [<-rel.length,<-l2];exact hz) λh' t' hd kk=>?_
 .obtain⟨u,e1,e2⟩:=Paired.at_ r2 m kv em;exact⟨u,by simpa using e1,e2⟩
 have hn:(cJ more kvs).length<=sizeLine:=fV (sO more kvs) hz;have he:∃q,h'.get? a=some q:=let ⟨q,_,_,hq,_⟩:=hd;⟨q,hq⟩;exact⟨.d6,_,I2.write (x:=a) (e:=a) (by rw [ea];exact True.intro) (.inl rfl) (λb q hb z=>kk b q hb z) he (sR hn CL (sN r1 rel) hd),rfl,q2⟩
def uM {X:Cx}:ik X (.builtin "len") (λxs H Q=>∃a kvs,xs=[.ref a]/\H a=some (.dK kvs)/\Q (.int kvs.length) H):=by
 intro ag s σ H xs us Q I r h;obtain⟨a,kvs,rfl,e,q⟩:=h;obtain⟨u,rfl,rx⟩:=vals1 r;cases (show u=Value.ref a from rx);exact QW I (.inl e) λt s' I'=>⟨.int _,H,I',⟨_,rfl⟩,q⟩
end
theorem xH:∀{us:List Value}{ns:List Int},PyProof.Rows.IntsAre us ns->∀ys:List (Int×Tok),us=ys.map (λp=>Value.int p.1 p.2)->ys.map (·.1)=ns
 | _,_,.nil,ys,e=>by
  cases ys with
  | nil=>rfl
  | cons _ _=>cases e
 | _,_,.cons n t h,ys,e=>by
  cases ys with
  | nil=>cases e
  | cons y r =>
   rw [cq] at e;injection e with e1 e2;injection e1 with e3 e4;rw [cq,xH h r e2,e3]
def uL {X:Cx}(hc:X.calm=true):ik X (.builtin "sum") (λxs H Q=>∃a ns,xs=[.ref a]/\aI X.K H a (List.map V.int ns)/\Q (.int ns.sum) H):=by
 intro ag s σ H xs us Q I r h;obtain⟨a,ns,rfl,hq,q⟩:=h;obtain⟨u,rfl,rx⟩:=vals1 r;cases rx;obtain⟨aU,rv,pl,hz⟩:=I.list hq;have hi:=intsAre_of rv;have qt:AllInts aU.toArray:=hi.allInts;obtain⟨xs,e⟩:=qt.items;have hl:=pl.isList;rw [e] at hl;refine sum_intListG (I.ok.hd hc) hl λh' tk t' hk=>⟨.int _,H,I.kept hk,⟨_,rfl⟩,?_⟩;have e5:xs.toList.map (·.1)=ns:=xH hi xs.toList (by
  have:=congrArg Array.toList e;simpa [intItems] using this)
 have e6:preSum (numAt xs) xs.size=ns.sum:=by
  rw [preSum_eq,e5,mU (by rw [<-e5];simp)]
 rw [e6];exact q
def xY {K:a9}{H:Hp}{p D:Addr}{zs:List Str}{σ:St}{v:V}{x:Str}{Qp:Hp->Prop}(hp:aQ K H p (zs.map V.str))(hz:zs.length<=1000)(hD:H D=none)
  (q:∀ts H2,aC H H2->H2 D=some (.lst (ts.map V.ref))->Paired (λt h=>aQ K H2 t [.str h,v]) ts zs->Qp H2) :
  ∃W:Nat->Nat->List V->St->Hp->Prop,(∃m,W 0 m [] (eQ [x] [] σ) (upd H D (.lst []))) /\
 ∀i m ys σ' H,W i m ys σ' H->((qk K p).stop i H/\Qp H)\/((qk K p).go i H/\∃m',m' < m/\∀x H',(qk K p).mZ i H x H'->dP 0 x σ' H' λσ2 H2=>iw σ2 H2 λb H3 =>
  if b=true then tO (gC (gW 0) (gC (tC v) rB)) σ2 H3 λy H4=>H4 D=some (.lst ys)/\ys.length < sizeLine/\W (i+1) m' (ys++[y]) σ2 (upd H4 D (.lst (ys++[y]))) else W (i+1) m' ys σ2 H3):=by
 refine g8 (xs:=zs.map V.str) (λi ys σ2 H2=>∃ts:List Addr,ys=ts.map V.ref/\ts.length=i/\Paired (λt h=>aQ K H2 t [.str h,v]) ts (zs.take i)/\(∃y0,σ2=[y0])/\aC H H2/\H2 D=some (.lst ys))
  ⟨[],rfl,rfl,.nil,⟨none,rfl⟩,af hD _,ae⟩ (λi ys σ2 H2 _ h=>?_) (λi x ys σ2 H2 ex h=>?_) (λys σ2 H2 h=>?_)
 .obtain⟨_,_,_,_,_,sm,_⟩:=h;exact sm.tup hp
 .obtain⟨ts,rfl,ht,pH,⟨y0,rfl⟩,sm,hd⟩:=h;rw [bh] at ex;obtain⟨z,ez,rfl⟩:=cg.mp ex;have li:=(bq.mp ez).1;refine goN (yy ?_);refine⟨_,rfl,kb,λt jh=>⟨?_,bK (by rw [au];omega),ts++[t],?_,?_,?_,⟨_,rfl⟩,?_,ae⟩⟩
  .rw [aj (ay hd jh)];exact hd
  .rw [bF];rfl
  .rw [bL,ht];rfl
  .rw [cR,ez];have jf:upd H2 t (.tup [.str z,v]) D=some (.lst (ts.map V.ref)):=by rw [aj (ay hd jh)];exact hd
   exact gQ (Paired.dI pH λt' h' z=>aT jf ((af jh _).tup z)) (aT jf (aQ.of ae))
  intro b o hb;rw [aj (λz=>by rw [z,hD] at hb;cases hb)];exact af jh _ _ _ (sm b o hb)
 obtain⟨ts,rfl,ht,pH,_,sm,hd⟩:=h;rw [au,cQ] at pH;exact q ts H2 sm hd pH
end L2
namespace M11
open PySem L2
def oA (a:List Str)(h x:Str):x∈gO a h↔x∈a\/x=h:=by
 unfold gO;split
 .constructor
  .exact .inl
  rintro(z | rfl) <;> assumption
 simp
def BQ {a:List Str}(h:Str)(n:a.Nodup):(gO a h).Nodup:=by
 unfold gO;split
 .exact n
 rename_i q
 refine ku.mpr ⟨n,by simp,λx hx y hy=>?_⟩;rw [bU.mp hy];exact λz=>q (z ▸ hx)
def BR (a:List Str)(h:Str):a.length<=(gO a h).length:=by
 unfold gO;split <;> simp
def Ju {a:List Str}{h:Str}(e:(gO a h).length=a.length):gO a h=a:=by
 unfold gO at e ⊢;split
 .rfl
 rename_i q
 rw [az q,bL] at e;simp at e
theorem hJ:∀(hs bz:List Str)(x:Str),x∈tL bz hs↔x∈bz\/x∈hs
 | [],bz,x=>by simp [tL]
 | h::r,bz,x=>by
  show x∈tL (gO bz h) r↔_;rw [hJ r,oA,cz,or_assoc]
theorem pO:∀(hs:List Str){bz:List Str},bz.Nodup->(tL bz hs).Nodup
 | [],_,n=>n
 | h::r,_,n=>pO r (BQ h n)
theorem Aw:∀(hs bz:List Str),bz.length<=(tL bz hs).length
 | [],_=>aH _
 | h::r,bz=>fV (BR bz h) (Aw r _)
theorem GI:∀(hs bz:List Str),(tL bz hs).length=bz.length->tL bz hs=bz
 | [],_,_=>rfl
 | h::r,bz,e=>by
  have h1:=BR bz h;have h2:=Aw r (gO bz h);have e':(tL (gO bz h) r).length=bz.length:=e;show tL (gO bz h) r=bz;rw [GI r _ ∅];exact Ju ∅
inductive Nn (aa:List aw)(s:Str):Str->Prop
 | start:Nn aa s s
 | step {ru:aw}{x:Str}:Nn aa s ru.1->ru∈aa->x∈ru.2->Nn aa s x
def G_ (aa:List aw) (n:Nat) (ms:List Str):Prop:=∀ru∈aa.take n,ru.1∈ms->∀x∈ru.2,x∈ms
def Nn.among {aa:List aw}{s x:Str}(h:Nn aa s x):x∈s::aa.flatMap (·.2):=by
 cases h with
 | start=>exact cU
 | step _ h1 h2=>exact dr _ (qZ.mpr ⟨_,h1,h2⟩)
end M11
namespace gK
open PySem L2 M11
section
def JJ (K:a9):Sp:=λvs H Q _=>∃(R:Addr)(rs:List Addr)(aa:List aw)(lR:aw),vs=[.ref R]/\aI K H R (rs.map V.ref)/\bH K H rs aa/\aa[0]?=some lR/\aa.length<=1000/\(∀ru∈aa,ru.2.length<=8) /\
 ∀d kvs ms H',H d=none->aC H H'->H' d=some (.dK kvs)->kvs.map (·.1)=ms.map Sum.inr->lR.1∈ms->(∀x∈ms,Nn aa lR.1 x)->G_ aa aa.length ms->Q (.ref d) H'
def uj:aK ["rules","met","many","head","parts"] ["rules"] (av Lm):=iq rfl rfl rfl rfl (by decide +kernel)
structure Oc (K:a9)(aa:List aw)(s0:Str)(H H5:Hp)(d:Addr) (ms:List Str)(kvs:List (aS×V)):Prop where
 sm:aC H H5
 hd:H5 d=some (.dK kvs)
 keys:kvs.map (·.1)=ms.map Sum.inr
 nd:ms.Nodup
 st:s0∈ms
 Rx:∀x∈ms,Nn aa s0 x
def Oc.len {aa:List aw}{s0:Str}{H H5:Hp}{d:Addr}{ms:List Str}{kvs:List (aS×V)}(h:Oc K aa s0 H H5 d ms kvs)(hl:aa.length<=1000)(h8:∀ru∈aa,ru.2.length<=8):kvs.length=ms.length/\ms.length<=8001:=by
 refine⟨?_,?_⟩
 .have:=congrArg List.length h.keys;simpa using this
 have h1:=gq ms _ h.nd λx hx=>(h.Rx x hx).among;have h2:=jB aa 1000 hl h8;rw [dM] at h1;omega
def LR (F:g9 K "names_met" "names_met" Lm f fd)(T:Txt mg):bN P w K mg base fj 1 f fd ["rules"] (JJ K):=by
 refine F.ok uj (λvs H Q E h=>?_) (λdU A outer s H vs Q E hr h=>?_)
 .obtain⟨R,rs,aa,lR,rfl,_⟩:=h;rfl
 obtain⟨R,rs,aa,lR,rfl,hR,b9,F3,br,h8,q⟩:=h;have hu:=fR hr;refine⟨_,ai (aA (i:=1) uj.nd rfl (bx rfl) (IA (EY (aF aN (aF bo (pv 0) ao (λ_ _=>rfl)) ao (λ_ _=>rfl)) dH Ir) rfl rfl (by simp) (show 1<=15 by decide)))
  (ai (aA (i:=2) uj.nd rfl (bx rfl) ao)
  (ai (iK bZ (aV nU (pv 2) (aD uM rfl T.len cS (ab (pv 1) ah)) (bu _))
   (ai (aA (i:=2) uj.nd rfl (bx rfl) (aD uM rfl T.len cS (ab (pv 1) ah)))
   (ak (bO bZ rfl (aZ (pv 0)) (gI rfl (aE (aq (i:=3) uj.nd rfl (bx rfl)) (aE (aq (i:=4) uj.nd rfl (bx rfl)) b8)))
    (ak (bw (cY (jM hu (pv 3) (pv 1)))
     (ak (bW (Iz rfl (pv 1) (bE ["part"] [] rfl (gH (pv 4)) (bp rfl rfl) (by decide +kernel) rfl (by decide +kernel)
       (λ_ _ _ _ _=>aq (i:=0) (show (["part"]:List Str).Nodup by decide +kernel) rfl (bx rfl)) (λ_ _ _ _ _=>bX) (λ_ _ _ _ _=>bC (ab (pv 0) (ab dH ah)))) ⟨rfl,rfl,rfl,rfl⟩))) aM))))))
  (ak (aL (pv 1))))),?_⟩
 nofun
 intro d hd;have ll:=aY b9;have l0:=(bq.mp F3).1;obtain⟨r0,Zi⟩:∃r,rs[0]?=some r:=⟨rs[0]'∅,b_ ∅⟩;obtain⟨aaa,e0,p0,w1,w2⟩:=b9.get Zi;rw [F3] at e0;cases e0;have Xu:=af hd (.dK []);refine⟨_,rfl,R,_,_,.ref r0,rfl,rfl,Xu.seq hR,?_,r0,_,_,_,rfl,rfl,Xu.tup w1,rfl,?_⟩
 .have e7:(rs.map V.ref)[0]?=some (.ref r0):=by rw [bh,Zi];rfl
  exact bS (j:=0) e7
 refine⟨ae,[((Sum.inr lR.1:aS),.bl true)],rfl,(by show 1<=15;decide),?_⟩;have S0:Oc K aa lR.1 H (upd (upd H d (.dK [])) d (.dK (mv [] [((Sum.inr lR.1:aS),.bl true)]))) d [lR.1] [((Sum.inr lR.1:aS),.bl true)]:=by
  rw [m_];exact⟨af hd _,ae,rfl,by simp,by simp,λx hx=>by rw [bU.mp hx];exact .start⟩
 generalize upd (upd H d (.dK [])) d (.dK (mv [] [((Sum.inr lR.1:aS),.bl true)]))=H0 at S0;refine⟨λm σ H5=>∃(ms:List Str)(kvs:List (aS×V)) (many:Int)(y3 y4:Option V),σ=[aP R,aP d,some (.int many),y3,y4]/\Oc K aa lR.1 H H5 d ms kvs/\0<=many/\many<=ms.length/\(many=ms.length->G_ aa aa.length ms)/\(m:Int)=8002 - many,
  ⟨8002,[lR.1],_,0,none,none,rfl,S0,∅,by simp,by simp,∅⟩,?_⟩
 rintro m σ H5 ⟨ms,kvs,many,y3,y4,rfl,S,b1,b2,cl,em⟩;obtain⟨lk,lm⟩:=S.len br h8;refine⟨_,rfl,_,rfl,d,_,rfl,S.hd,_,_,rfl,rfl,_,rfl,?_⟩;refine bY (λc=>?_) (λc=>?_)
 .have c':=dq c;rw [lk] at c';refine⟨λσ H5=>∃(qG:List Str)(fM:List (aS×V))(y3 y4:Option V),σ=[aP R,aP d,some (.int (ms.length:Int)),y3,y4]/\Oc K aa lR.1 H H5 d qG fM/\ms.length<=qG.length/\(qG.length=ms.length->G_ aa aa.length qG),?_,?_⟩
  .rintro σ H6 ⟨qG,fM,y3,y4,rfl,S2,l2,c2⟩;exact⟨(8002 - ms.length:Int).toNat,∅,qG,fM,_,_,_,rfl,S2,∅,∅,λz=>c2 ∅,∅⟩
  refine⟨_,rfl,d,_,rfl,S.hd,?_⟩;rw [lk];refine⟨_,rfl,R,rfl,⟨_,S.sm.seq hR⟩,?_⟩;refine cC (xs:=rs.map V.ref) (λi σ H6=>∃(qG:List Str)(fM:List (aS×V))(y3 y4:Option V),σ=[aP R,aP d,some (.int (ms.length:Int)),y3,y4]/\Oc K aa lR.1 H H6 d qG fM/\ms.length<=qG.length/\(qG.length=ms.length->G_ aa i qG))
   ⟨ms,kvs,_,_,rfl,S,aH _,λ_ ru i7=>by simp at i7⟩ ?_ ?_ ?_
  .rintro i σ H6 _ ⟨qG,fM,y3,y4,rfl,S2,_⟩;exact S2.sm.seq hR
  .rintro i x σ H6 ex ⟨qG,fM,y3,y4,rfl,S2,l2,c2⟩
   ac_nf0
   rw [bh] at ex;obtain⟨r,er,rfl⟩:=cg.mp ex;obtain⟨ru,e1,p,v1,v2⟩:=b9.get er;have NS:=h8 ru (cf e1);have tk:aa.take (i+1)=aa.take i++[ru]:=by rw [cR,e1];rfl
   obtain⟨Hj,lm2⟩:=S2.len br h8;have mem:(bA fM (Sum.inr ru.1)).isSome=true↔ru.1∈qG:=by rw [ff,S2.keys];exact df
   refine⟨r,_,rfl,S2.sm.tup v1,rfl,_,_,rfl,_,_,rfl,rfl,?_⟩;refine⟨_,rfl,_,rfl,d,_,rfl,cy.k (k:=Sum.inr ru.1) S2.hd,_,rfl,?_⟩;refine bY (λc3=>?_) (λc3=>?_)
   .have im:=mem.mp c3;refine⟨_,rfl,d,rfl,.inl ⟨_,.inl S2.hd⟩,_,rfl,p,rfl,⟨_,S2.sm.tup v2⟩,λD2 i8=>xY (S2.sm.tup v2) ∅ i8 λts H8 Nw Qm YG=>?_⟩;have kp:Paired (λt (kv:aS×V)=>aQ K H8 t [kV kv.1,kv.2]) ts (ru.2.map λh=>((Sum.inr h:aS),V.bl true)):=cu YG λ_ _ z=>z;refine⟨D2,ts,fM,_,rfl,Nw _ _ S2.hd,Qm,kp,fits (by rw [au];omega),?_⟩;have aal:=Aw ru.2 qG;refine⟨tL qG ru.2,cJ (ru.2.map λh=>((Sum.inr h:aS),V.bl true)) fM,_,_,rfl,⟨λb o hb=>?_,ae,nX ru.2 fM qG S2.keys,pO ru.2 S2.nd,(hJ ru.2 qG _).mpr (.inl S2.st),λx hx=>?_⟩,∅,λz Cb xI hh=>?_⟩
    .rw [aj (λz=>by rw [z,hd] at hb;cases hb)];exact Nw _ _ (S2.sm b o hb)
    .rcases (hJ ru.2 qG x).mp hx with h | h
     .exact S2.Rx x h
     exact .step (S2.Rx _ im) (cf e1) h
    have e9:=GI ru.2 qG ∅;rw [e9] at hh ⊢;rw [tk] at xI;rcases cA.mp xI with h | h
    .exact c2 ∅ Cb h hh
    rw [bU.mp h];intro x hx;rw [<-e9];exact(hJ ru.2 qG x).mpr (.inr hx)
   refine⟨qG,fM,_,_,rfl,S2,l2,λz Cb xI hh=>?_⟩;rw [tk] at xI;rcases cA.mp xI with h | h
   .exact c2 z Cb h hh
   rw [bU.mp h] at hh;exact absurd (mem.mpr hh) c3
  rintro σ H6 ⟨qG,fM,y3,y4,rfl,S2,l2,c2⟩;rw [au,ll] at c2;exact⟨qG,fM,_,_,rfl,S2,l2,c2⟩
 have c':=of_decide_eq_false (q9.mpr c);rw [lk] at c';exact⟨_,rfl,q d kvs ms H5 hd S.sm S.hd S.keys S.st S.Rx (cl ∅)⟩
end
end gK
namespace M11
open PySem L2
abbrev G:=Str->Option Int
def eJ (g:G)(h:Str) (n:Int):G:=λz=>if z=h then some n else g z
def aW (g:G)(ru:aw):Int:=1+(ru.2.map λp=>(g p).getD 0).sum
def k0 (g:G)(ru:aw):Bool:=ru.2.all λp=>(g p).isSome
def cN (bt:Int->Int->Bool)(g:G)(ru:aw):Bool:=k0 g ru && (!(g ru.1).isSome || bt (aW g ru) ((g ru.1).getD 0))
def sstep (bt:Int->Int->Bool)(a:G×Bool)(ru:aw):G×Bool:=if cN bt a.1 ru=true then (eJ a.1 ru.1 (aW a.1 ru),true) else a
def tP (bt:Int->Int->Bool)(aa:List aw)(g:G):G×Bool:=aa.foldl (sstep bt) (g,false)
inductive eI (bt:Int->Int->Bool)(aa:List aw):G->G->Prop
 | refl {g:G}:eI bt aa g g
 | step {g g1:G}{ru:aw}:eI bt aa g g1->ru∈aa->cN bt g1 ru=true->eI bt aa g (eJ g1 ru.1 (aW g1 ru))
def i9 (bt:Int->Int->Bool)(aa:List aw)(g:G):Prop:=∀ru∈aa,cN bt g ru=false
def pS (bt:Int->Int->Bool)(aa:List aw):Nat->G->Prop
 | 0,g=>(tP bt aa g).2=false
 | n+1,g=>(tP bt aa g).2=false\/pS bt aa n (tP bt aa g).1
def eI.trans {bt:Int->Int->Bool}{aa:List aw}{g g1 g2:G}(h:eI bt aa g g1)(k:eI bt aa g1 g2):eI bt aa g g2:=by
 induction k with
 | refl=>exact h
 | step _ a b ih=>exact .step ih a b
theorem sJ (bt:Int->Int->Bool)(aa:List aw):∀(l:List aw)(a:G×Bool),(∀ru∈l,ru∈aa)->eI bt aa a.1 (l.foldl (sstep bt) a).1
 | [],a,_=>.refl
 | ru::l,a,h=>by
  have ih:=sJ bt aa l (sstep bt a ru) λx hx=>h x (dr _ hx);refine eI.trans ?_ ih;unfold sstep;by_cases c:cN bt a.1 ru=true
  .rw [ax c];exact .step .refl (h ru cU) c
  rw [az c];exact .refl
theorem uC (bt:Int->Int->Bool):∀(l:List aw)(a:G×Bool),a.2=true->(l.foldl (sstep bt) a).2=true
 | [],a,h=>h
 | ru::l,a,h=>by
  refine uC bt l (sstep bt a ru) ?_;unfold sstep
  split
  .rfl
  exact h
theorem sM (bt:Int->Int->Bool):∀(l:List aw)(a:G×Bool),(l.foldl (sstep bt) a).2=false->(l.foldl (sstep bt) a).1=a.1/\∀ru∈l,cN bt a.1 ru=false
 | [],a,_=>⟨rfl,λ_ h=>nomatch h⟩
 | ru::l,a,h=>by
  by_cases c:cN bt a.1 ru=true
  .have e:sstep bt a ru=(eJ a.1 ru.1 (aW a.1 ru),true):=ax c;have h':(l.foldl (sstep bt) (sstep bt a ru)).2=false:=h;rw [e,uC bt l _ rfl] at h';cases h'
  have e:sstep bt a ru=a:=az c;have h':(l.foldl (sstep bt) (sstep bt a ru)).2=false:=h;rw [e] at h';obtain⟨i1,i2⟩:=sM bt l a h';refine⟨by rw [List.foldl_cons,e];exact i1,λCb hr=>?_⟩;rcases cz.mp hr with z | z
  .rw [z];exact q9.mpr c
  exact i2 Cb z
end M11
namespace L2
open PySem M11
def dZ.tup {K:a9}{H H':Hp}{d a:Addr}{kvs:List (aS×V)}{xs:List V}(s:dZ d H H')(hd:H d=some (.dK kvs))(h:aQ K H a xs):aQ K H' a xs:=by
 rcases h with (h | ⟨u,h⟩) | h
 .exact .inl (.inl (s _ _ (λz=>by rw [z,hd] at h;cases h) h))
 .exact .inl (.inr ⟨u,s _ _ (λz=>by rw [z,hd] at h;cases h) h⟩)
 exact .inr h
def dZ.seq {K:a9}{H H':Hp}{d a:Addr}{kvs:List (aS×V)}{xs:List V}(s:dZ d H H')(hd:H d=some (.dK kvs))(h:aI K H a xs):aI K H' a xs:=by
 rcases h with (h | ⟨u,h⟩) | h
 .exact .inl (.inl (s _ _ (λz=>by rw [z,hd] at h;cases h) h))
 .exact .inl (.inr ⟨u,s _ _ (λz=>by rw [z,hd] at h;cases h) h⟩)
 exact .inr h
def Dj {K:a9}{H:Hp}{p D d:Addr}{zs:List Str}{kvs:List (aS×V)}{g:G}{σ:St}{js:List (Nat×Str)}{Qp:Hp->Prop}(hσ:eQ ["part"] js σ=[none,aP d])(hp:aQ K H p (zs.map V.str))(hz:zs.length<=1000)
  (hd:H d=some (.dK kvs))(hv:∀z,bA kvs (Sum.inr z)=(g z).map V.int)(ha:∀z∈zs,(g z).isSome=true)(hD:H D=none)(q:∀H2,aC H H2->H2 D=some (.lst ((zs.map λz=>(g z).getD 0).map V.int))->Qp H2) :
  ∃W:Nat->Nat->List V->St->Hp->Prop,(∃m,W 0 m [] (eQ ["part"] js σ) (upd H D (.lst []))) /\
 ∀i m ys σ' H,W i m ys σ' H->((qk K p).stop i H/\Qp H)\/((qk K p).go i H/\∃m',m' < m/\∀x H',(qk K p).mZ i H x H'->dP 0 x σ' H' λσ2 H2=>iw σ2 H2 λb H3 =>
  if b=true then AS (gW 1) (gW 0) σ2 H3 λy H4=>H4 D=some (.lst ys)/\ys.length < sizeLine/\W (i+1) m' (ys++[y]) σ2 (upd H4 D (.lst (ys++[y]))) else W (i+1) m' ys σ2 H3):=by
 refine g8 (xs:=zs.map V.str) (λi ys σ2 H2=>ys=(((zs.take i).map λz=>(g z).getD 0).map V.int)/\(∃y0,σ2=[y0,aP d])/\aC H H2/\H2 D=some (.lst ys))
  ⟨rfl,⟨none,hσ⟩,af hD _,ae⟩ (λi ys σ2 H2 _ h=>h.2.2.1.tup hp) (λi x ys σ2 H2 ex h=>?_) (λys σ2 H2 h=>?_)
 .obtain⟨rfl,⟨y0,rfl⟩,sm,hd2⟩:=h;rw [bh] at ex;obtain⟨z,ez,rfl⟩:=cg.mp ex;have li:=(bq.mp ez).1;obtain⟨n,en⟩:=mW.mp (ha z (cf ez));have hg:cy H2 d (.str z) (some (.int n)):=by
   have:=cy.k (k:=Sum.inr z) (sm _ _ hd);rw [hv,en] at this;exact this
  refine goN (yy ?_);refine⟨_,rfl,_,rfl,d,_,rfl,hg,hd2,bK (by rw [au,au,dN];omega),?_,⟨_,rfl⟩,?_,ae⟩
  .rw [cR,ez,bF,bF];show _=_++[V.int ((g z).getD 0)];rw [en];rfl
  intro b o hb;rw [aj (λz=>by rw [z,hD] at hb;cases hb)];exact sm b o hb
 obtain⟨rfl,_,sm,hd2⟩:=h;rw [au,cQ] at hd2;exact q H2 sm hd2
end L2
namespace gK
open PySem L2 M11
section
def iH (K:a9)(q:Str)(params:Arguments)(body:Expr)(scope:Scope)(bt:Int->Int->Bool):Sp:=λvs H Q _=>∃(R:Addr)(rs:List Addr)(aa:List aw)(d fl c':Addr)(pm gy:Value)(kvs:List (aS×V)) (ks:List Str)(g:G),
 vs=[.ref R,.ref d,.ref fl]/\aI K H R (rs.map V.ref)/\bH K H rs aa/\aa.length<=1000/\(∀ru∈aa,ru.2.length<=8)/\H d=some (.dK kvs)/\kvs.map (·.1)=ks.map Sum.inr/\ks.Nodup/\ks.length<=10000 /\
 (∀z,bA kvs (Sum.inr z)=(g z).map V.int)/\(∃n,pS bt aa n g)/\H fl=some (pC fl (PySem.W.kla_obj "<lambda>" q params body scope [] pm c' gy))/\H c'=some (j8 c' q) /\
 ∀(mC:List (aS×V)) (PF:List Str)(g':G)(H':Hp),dZ d H H'->H' d=some (.dK mC)->mC.map (·.1)=PF.map Sum.inr->(∀z,bA mC (Sum.inr z)=(g' z).map V.int)->eI bt aa g g'->i9 bt aa g'->mC.length<=20000->Q (.ref d) H'
def iI:aK ["rules","sizes","better","changed","head","parts","size"] ["rules","sizes","better"] (av nE):=iq rfl rfl rfl rfl (by decide +kernel)
structure DR (K:a9)(aa:List aw) (Hk:List Str)(H H5:Hp)(d:Addr)(kvs:List (aS×V)) (ks:List Str)(g:G):Prop where
 sm:dZ d H H5
 hd:H5 d=some (.dK kvs)
 keys:kvs.map (·.1)=ks.map Sum.inr
 nd:ks.Nodup
 sub:∀x∈ks,x∈Hk++aa.map (·.1)
 val:∀z,bA kvs (Sum.inr z)=(g z).map V.int
def DR.len {aa:List aw}{Hk:List Str}{H H5:Hp}{d:Addr}{kvs:List (aS×V)}{ks:List Str}{g:G}(h:DR K aa Hk H H5 d kvs ks g):kvs.length<=Hk.length+aa.length:=by
 have h1:=congrArg List.length h.keys;have h2:=gq ks _ h.nd h.sub;rw [bL,au] at h2;rw [au,au] at h1;omega
def DR.same {aa:List aw}{Hk:List Str}{H H5 H6:Hp}{d:Addr}{kvs:List (aS×V)}{ks:List Str}{g:G}(h:DR K aa Hk H H5 d kvs ks g)(s:aC H5 H6):DR K aa Hk H H6 d kvs ks g :=
 ⟨λb o n e=>s _ _ (h.sm b o n e),s _ _ h.hd,h.keys,h.nd,h.sub,h.val⟩
def DR.put {aa:List aw}{Hk:List Str}{H H5:Hp}{d:Addr}{kvs:List (aS×V)}{ks:List Str}{g:G}(h:DR K aa Hk H H5 d kvs ks g){ru:aw}(hr:ru∈aa) (n:Int) :
  DR K aa Hk H (upd H5 d (.dK (bR kvs (Sum.inr ru.1) (.int n)))) d (bR kvs (Sum.inr ru.1) (.int n)) (gO ks ru.1) (eJ g ru.1 n):=by
 refine⟨λb o nb e=>by rw [aj nb];exact h.sm b o nb e,ae,kW h.keys ru.1,BQ ru.1 h.nd,λx hx=>?_,λz=>?_⟩
 .rcases (oA ks ru.1 x).mp hx with z | z
  .exact h.sub x z
  rw [z];exact fX _ (jZ hr)
 rw [wQ];unfold eJ;by_cases c:z=ru.1
 .rw [ax c,ax (by rw [c])];rfl
 rw [az c,az (λe=>c (l_ e)),h.val]
def ur (F:g9 K "settled_sizes" "settled_sizes" nE f fd)(T:Txt mg){q:Str}{params:Arguments}{body:Expr}{scope:Scope}{bt:Int->Int->Bool}{te:TE}(S:aK ["size","known"] ["size","known"] scope)
  (og:∀(pm gy:Value)(c':Addr)(us:List Value),us.length=(["size","known"]:List Str).length->bindArgs (PySem.W.kla_fn "<lambda>" q params body scope [] pm (.ref c') gy) ⟨us,[]⟩=pure ((["size","known"]:List Str).zip us))
  (jz:∀(f c':Addr)(A:Around)(outer:List Env)(s:Shared)(H:Hp),PE (pP fj P w K mg base ["size","known"] q scope f (.ref c') A outer s H λ_ _ _=>False) body te)
  (PY:∀a b H Q,Q (.bl (bt a b)) H->te [some (.int a),some (.int b)] H Q):bN P w K mg base fj 2 f fd ["rules","sizes","better"] (iH K q params body scope bt):=by
 refine F.ok iI (λvs H Q E h=>?_) (λdU A outer s H vs Q E hr h=>?_)
 .obtain⟨R,rs,aa,d,fl,c',pm,gy,kvs,ks,g,rfl,_⟩:=h;rfl
 obtain⟨R,rs,aa,d,fl,c',pm,gy,kvs,ks,g,rfl,hR,b9,br,h8,hd,hk,Hn,hkl,hv,⟨n0,RK⟩,Gb,lH,qq⟩:=h;have hu:=fR hr;refine⟨_,ai (aA (i:=3) iI.nd rfl (bx rfl) dH)
  (ai (iK bZ (cX (pv 3))
   (ai (aA (i:=3) iI.nd rfl (bx rfl) dH)
   (ak (bO bZ rfl (aZ (pv 0)) (gI rfl (aE (aq (i:=4) iI.nd rfl (bx rfl)) (aE (aq (i:=5) iI.nd rfl (bx rfl)) b8)))
    (ak (bw (cX (aD (iE rfl) rfl T.all boot_all (ab (bE ["part"] [(1,"sizes")] rfl (gH (pv 5)) (bp rfl rfl) (by decide +kernel) rfl (by decide +kernel)
       (λ_ _ _ _ _=>aq (i:=0) (show (["part","sizes"]:List Str).Nodup by decide +kernel) rfl (bx rfl)) (λ_ _ _ _ _=>bX) (λ_ _ _ _ _=>zH (jM hu (pv 0) (pv 1)))) ah)))
     (ai (aA (i:=6) iI.nd rfl (bx rfl) (aX gp ao (aD (uL rfl) rfl T.sum PyProof.Rows.boot_sum (ab (bE ["part"] [(1,"sizes")] rfl (gH (pv 5)) (bp rfl rfl) (by decide +kernel) rfl (by decide +kernel)
       (λ_ _ _ _ _=>aq (i:=0) (show (["part","sizes"]:List Str).Nodup by decide +kernel) rfl (bx rfl)) (λ_ _ _ _ _=>bX) (λ_ _ _ _ _=>fJ hu (pv 1) (pv 0) (λ_ _=>rfl))) ah))))
     (ak (bw (PW.pt (jt (cY (dY hu (pv 4) (pv 1))) (ip (cX (zI (i:=2) (k:=0) rfl rfl S hr og jz (ab (pv 6) (ab (fJ hu (pv 1) (pv 4) (λ_ _=>rfl)) ah)))))))
      (ai (iZ hu (pv 1) (pv 4) (pv 6) rfl) (ak (aA (i:=3) iI.nd rfl (bx rfl) dH))) aM))) aM))))))
  (ak (aL (pv 1)))),?_⟩
 nofun
 have ll:=aY b9;have S0:DR K aa ks H H d kvs ks g:=⟨λ_ _ _ e=>e,hd,hk,Hn,λx hx=>jl _ hx,hv⟩;refine⟨λm σ H5=>∃(fM:List (aS×V)) (RF:List Str)(g2:G)(ch:Bool)(y4 y5 y6:Option V),σ=[aP R,aP d,aP fl,some (.bl ch),y4,y5,y6]/\DR K aa ks H H5 d fM RF g2/\eI bt aa g g2 /\
  ((ch=true/\∃n,m=n+1/\pS bt aa n g2)\/(ch=false/\i9 bt aa g2)),⟨n0+1,kvs,ks,g,true,none,none,none,rfl,S0,.refl,.inl ⟨rfl,n0,rfl,RK⟩⟩,?_⟩
 rintro m σ H5 ⟨fM,RF,g2,ch,y4,y5,y6,rfl,S2,Hf,cs⟩;refine⟨_,rfl,ch,rfl,?_⟩;refine bY (λc=>?_) (λc=>?_)
 .rcases cs with ⟨_,n,em,en⟩ | ⟨c',_⟩
  case inr=>rw [c'] at c;cases c
  refine⟨λσ H6=>∃(mz:List (aS×V)) (DI:List Str)(g3:G)(yb:Bool)(y4 y5 y6:Option V),σ=[aP R,aP d,aP fl,some (.bl yb),y4,y5,y6]/\DR K aa ks H H6 d mz DI g3/\(g3,yb)=tP bt aa g2,?_,?_⟩
  .rintro σ H6 ⟨mz,DI,g3,yb,y4,y5,y6,rfl,S3,e3⟩;have Wr:g3=(tP bt aa g2).1:=congrArg Prod.fst e3;have Nb:yb=(tP bt aa g2).2:=congrArg Prod.snd e3;have OQ:eI bt aa g g3:=by
    rw [Wr];exact Hf.trans (sJ bt aa aa (g2,false) λ_ h=>h)
   cases h3:yb with
   | false =>
    rw [h3] at Nb;obtain⟨f1,f2⟩:=sM bt aa (g2,false) Nb.symm;refine⟨0,∅,mz,DI,g3,false,_,_,_,rfl,S3,OQ,.inr ⟨rfl,?_⟩⟩;have e33:g3=g2:=Wr.trans f1;rw [e33];exact f2
   | true =>
    rw [h3] at Nb;cases n with
    | zero=>rw [show (tP bt aa g2).2=false from en] at Nb;cases Nb
    | succ n' =>
     rcases en with en | en
     .rw [en] at Nb;cases Nb
     exact⟨n'+1,∅,mz,DI,g3,true,_,_,_,rfl,S3,OQ,.inl ⟨rfl,n',rfl,by rw [Wr];exact en⟩⟩
  refine⟨_,rfl,R,rfl,⟨_,S2.sm.seq hd hR⟩,?_⟩;refine cC (xs:=rs.map V.ref) (λi σ H6=>∃(mz:List (aS×V)) (DI:List Str)(g3:G)(yb:Bool)(y4 y5 y6:Option V),σ=[aP R,aP d,aP fl,some (.bl yb),y4,y5,y6]/\DR K aa ks H H6 d mz DI g3/\(g3,yb)=(aa.take i).foldl (sstep bt) (g2,false))
   ⟨fM,RF,g2,false,_,_,_,rfl,S2,rfl⟩ ?_ ?_ ?_
  .rintro i σ H6 _ ⟨mz,DI,g3,yb,y4,y5,y6,rfl,S3,_⟩;exact S3.sm.seq hd hR
  .rintro i x σ H6 ex ⟨mz,DI,g3,yb,y4,y5,y6,rfl,S3,e3⟩;rw [bh] at ex;obtain⟨r,er,rfl⟩:=cg.mp ex;obtain⟨ru,e1,p,v1,v2⟩:=b9.get er;have lG:=cf e1;have NS:=h8 ru lG;have fo:(aa.take (i+1)).foldl (sstep bt) (g2,false)=sstep bt (g3,yb) ru:=by
    rw [cR,e1,List.foldl_append,<-e3];rfl
   rw [fo];have SR:=S3.sm.tup hd v2;refine⟨r,_,rfl,S3.sm.tup hd v1,rfl,_,_,rfl,_,_,rfl,rfl,?_⟩;refine⟨_,rfl,p,rfl,⟨_,SR⟩,λD2 i8=>uK rfl SR ∅ S3.hd i8 λH7 Xs hd7=>?_⟩;have S4:=S3.same Xs;have v4:=Xs.tup SR;have eb:(ru.2.map λz=>(bA mz (Sum.inr z)).isSome).all id=k0 g3 ru:=by
    unfold k0;rw [List.all_map];refine List.all_congr rfl λz=>?_;show (bA mz (Sum.inr z)).isSome=_;rw [S3.val,oW]
   refine⟨D2,_,rfl,aI.of hd7,_,rfl,?_⟩;rw [eb];refine bY (λc4=>?_) (λc4=>?_)
   .have al:∀z∈ru.2,(g3 z).isSome=true:=λz hz=>gB.mp c4 z hz;refine⟨_,rfl,p,rfl,⟨_,v4⟩,λD3 Ag=>Dj (g:=g3) rfl v4 ∅ S4.hd S4.val al Ag λH8 Nw Qm=>?_⟩;have S5:=S4.same Nw;have esz:1+(ru.2.map λz=>(g3 z).getD 0).sum=aW g3 ru:=rfl;refine⟨D3,_,rfl,aI.of Qm,_,_,rfl,rfl,?_⟩;have mem:(bA mz (Sum.inr ru.1)).isSome=(g3 ru.1).isSome:=by rw [S5.val,oW]
    have fl5:=S5.sm fl _ (λz=>by rw [z,hd] at Gb;cases Gb) Gb;have c5':=S5.sm c' _ (λz=>by rw [z,hd] at lH;cases lH) lH;have l5:=S5.len;refine⟨_,rfl,_,rfl,d,_,rfl,cy.k (k:=Sum.inr ru.1) S5.hd,_,rfl,?_⟩;refine bY (λc5=>?_) (λc5=>?_)
    .have fr:cN bt g3 ru=true:=by
      unfold cN;rw [<-mem,c4,c5];rfl
     refine⟨_,rfl,_,rfl,_,rfl,d,_,rfl,pU.k (k:=Sum.inr ru.1) S5.hd (bK ∅),?_⟩;exact⟨_,_,eJ g3 ru.1 (aW g3 ru),true,_,_,_,rfl,S5.put lG (aW g3 ru),(ax fr).symm⟩
    have isS:(g3 ru.1).isSome=true:=by
     rw [mem] at c5;cases hq:(g3 ru.1).isSome with
     | true=>rfl
     | false=>rw [hq] at c5;exact absurd rfl c5
    obtain⟨k,ek⟩:=mW.mp isS;have hg:cy H8 d (.str ru.1) (some (.int k)):=by
     have:=cy.k (k:=Sum.inr ru.1) S5.hd;rw [S5.val,ek] at this;exact this
    refine⟨fl,pm,c',gy,rfl,_,rfl,_,rfl,_,rfl,d,_,rfl,hg,fl5,c5',rfl,PY (aW g3 ru) k _ _ ⟨_,rfl,?_⟩⟩;refine bY (λc6=>?_) (λc6=>?_)
    .have fr:cN bt g3 ru=true:=by
      unfold cN;rw [c4,ek];show (true && (false || bt (aW g3 ru) k))=true
      rw [c6];rfl
     refine⟨_,rfl,_,rfl,_,rfl,d,_,rfl,pU.k (k:=Sum.inr ru.1) S5.hd (bK ∅),?_⟩;exact⟨_,_,eJ g3 ru.1 (aW g3 ru),true,_,_,_,rfl,S5.put lG (aW g3 ru),(ax fr).symm⟩
    have fr:¬cN bt g3 ru=true:=by
     unfold cN;rw [c4,ek];show ¬(true && (false || bt (aW g3 ru) k))=true
     rw [q9.mpr c6];exact(by decide)
    exact⟨mz,DI,g3,yb,_,_,_,rfl,S5,(az fr).symm⟩
   have e5:sstep bt (g3,yb) ru=(g3,yb):=az (λz=>c4 (by unfold cN at z;exact(hX.mp z).1));exact⟨mz,DI,g3,yb,_,_,_,rfl,S4,e5.symm⟩
  rintro σ H6 ⟨mz,DI,g3,yb,y4,y5,y6,rfl,S3,e3⟩;rw [au,ll,cQ] at e3;exact⟨mz,DI,g3,yb,_,_,_,rfl,S3,e3⟩
 rcases cs with ⟨c',_⟩ | ⟨_,se⟩
 .rw [c'] at c;exact absurd rfl c
 exact⟨_,rfl,qq fM RF g2 H5 S2.sm S2.hd S2.keys S2.val Hf se (by have:=S2.len;omega)⟩
end
end gK
namespace M11
open PySem L2
theorem fold_lt {bt:Int->Int->Bool}{aa:List aw}{J:G->Prop}{r:G->G->Prop}(tr:∀a b c,r a b->r b c->r a c)
  (yt:∀g ru,J g->ru∈aa->cN bt g ru=true->J (eJ g ru.1 (aW g ru))/\r (eJ g ru.1 (aW g ru)) g) :
  ∀(l:List aw)(a:G×Bool),(∀ru∈l,ru∈aa)->J a.1->J (l.foldl (sstep bt) a).1/\(l.foldl (sstep bt) a=a\/r (l.foldl (sstep bt) a).1 a.1)
 | [],a,_,j=>⟨j,.inl rfl⟩
 | ru::l,a,h,j=>by
  by_cases c:cN bt a.1 ru=true
  .have e:sstep bt a ru=(eJ a.1 ru.1 (aW a.1 ru),true):=ax c;obtain⟨j1,r1⟩:=yt a.1 ru j (h ru cU) c;obtain⟨j2,r2⟩:=fold_lt tr yt l (eJ a.1 ru.1 (aW a.1 ru),true) (λx hx=>h x (dr _ hx)) j1;rw [List.foldl_cons,e];refine⟨j2,.inr ?_⟩;rcases r2 with r2 | r2
   .rw [r2];exact r1
   exact tr _ _ _ r2 r1
  have e:sstep bt a ru=a:=az c;rw [List.foldl_cons,e];exact fold_lt tr yt l a (λx hx=>h x (dr _ hx)) j
def xS {bt:Int->Int->Bool}{aa:List aw}{J:G->Prop}{r:G->G->Prop}(tr:∀a b c,r a b->r b c->r a c)
  (yt:∀g ru,J g->ru∈aa->cN bt g ru=true->J (eJ g ru.1 (aW g ru))/\r (eJ g ru.1 (aW g ru)) g){g:G}(h:Acc r g)(j:J g):∃n,pS bt aa n g:=by
 induction h with
 | intro g _ ih =>
  cases c:(tP bt aa g).2 with
  | false=>exact⟨0,c⟩
  | true =>
   obtain⟨j2,r2⟩:=fold_lt tr yt aa (g,false) (λ_ h=>h) j;have r3:r (tP bt aa g).1 g:=by
    rcases r2 with r2 | r2
    .have e:(tP bt aa g)=(g,false):=r2;rw [e] at c;cases c
    exact r2
   obtain⟨n,hn⟩:=ih _ r3 j2;exact⟨n+1,.inr hn⟩
def eI.keep {bt:Int->Int->Bool}{aa:List aw}{J:G->Prop}(yt:∀g ru,J g->ru∈aa->cN bt g ru=true->J (eJ g ru.1 (aW g ru))){g g':G}(h:eI bt aa g g')(j:J g):J g':=by
 induction h with
 | refl=>exact j
 | step _ a b ih=>exact yt _ _ ih a b
def fk (f:Str->Nat) (hs:List Str):Nat:=(hs.map f).sum
theorem wU {f k:Str->Nat}:∀{hs:List Str},(∀x∈hs,f x<=k x)->fk f hs<=fk k hs
 | [],_=>aH _
 | h::r,q=>by
  have h1:=q h cU;have h2:=wU (hs:=r) λx hx=>q x (dr _ hx);show f h+fk f r<=k h+fk k r;omega
theorem nh {f k:Str->Nat}:∀{hs:List Str}{h:Str},(∀x∈hs,f x<=k x)->h∈hs->f h < k h->fk f hs < fk k hs
 | a::r,h,q,m,l=>by
  have h1:=q a cU;have h2:∀x∈r,f x<=k x:=λx hx=>q x (dr _ hx);show f a+fk f r < k a+fk k r;rcases cz.mp m with z | z
  .have:=wU h2;rw [z] at l;omega
  have:=nh h2 z l;omega
theorem jI (g:G)(J:∀z n,g z=some n->(0:Int)<=n):∀ps:List Str,0<=(ps.map λp=>(g p).getD 0).sum
 | []=>by simp
 | p::r=>by
  have h1:=jI g J r;have h2:0<=(g p).getD 0:=by
   cases e:g p with
   | none=>exact oE _
   | some n=>exact J p n e
  rw [cq,jW];omega
def NN (g:G):Prop:=∀z n,g z=some n->(0:Int)<=n
def vV {g:G}(j:NN g)(ru:aw):NN (eJ g ru.1 (aW g ru)):=λz n e=>by
 unfold eJ at e;by_cases c:z=ru.1
 .rw [ax c] at e;cases e;have:=jI g j ru.2;unfold aW;omega
 rw [az c] at e;exact j z n e
def bl (a b:Int):Bool:=decide (a < b)
def bg (a b:Int):Bool:=decide (a > b)
def z9 (hs:List Str)(g' g:G):Prop :=
 fk (λh=>if (g' h).isSome then 0 else 1) hs < fk (λh=>if (g h).isSome then 0 else 1) hs \/
 (fk (λh=>if (g' h).isSome then 0 else 1) hs=fk (λh=>if (g h).isSome then 0 else 1) hs/\fk (λh=>((g' h).getD 0).toNat) hs < fk (λh=>((g h).getD 0).toNat) hs)
def IW (hs:List Str)(g:G):Acc (z9 hs) g:=by
 have wf:=(Prod.lex (β:=Nat) (α:=Nat) ⟨(· < ·),Nat.lt_wfRel.wf⟩ ⟨(· < ·),Nat.lt_wfRel.wf⟩).wf;have key:∀p:Nat×Nat,∀g:G,(fk (λh=>if (g h).isSome then 0 else 1) hs,fk (λh=>((g h).getD 0).toNat) hs)=p->Acc (z9 hs) g:=λp=>by
  induction p using wf.induction with
  | _ p ih =>
   intro g e;refine⟨g,λg' r=>ih _ ?_ g' rfl⟩;rw [<-e];rcases r with r | ⟨r1,r2⟩
   .exact Prod.Lex.left _ _ r
   show Prod.Lex _ _ (fk (λh=>if (g' h).isSome then 0 else 1) hs,_) _;rw [r1];exact Prod.Lex.right _ r2
 exact key _ g rfl
def L0 (hs:List Str)(a b c:G)(h:z9 hs a b)(k:z9 hs b c):z9 hs a c:=by
 unfold z9 at *;omega
def FN {aa:List aw}(g:G)(ru:aw)(j:NN g)(m:ru∈aa)(f:cN bl g ru=true):NN (eJ g ru.1 (aW g ru))/\z9 (aa.map (·.1)) (eJ g ru.1 (aW g ru)) g:=by
 refine⟨vV j ru,?_⟩;have hm:ru.1∈aa.map (·.1):=jZ m;have nn:=vV j ru;have tX:eJ g ru.1 (aW g ru) ru.1=some (aW g ru):=ax rfl;have ne:∀z,z≠ru.1->eJ g ru.1 (aW g ru) z=g z:=λz n=>az n;unfold cN at f;have f2:=(hX.mp f).2;cases e:g ru.1 with
 | none =>
  refine .inl (nh (λx _=>?_) hm ?_)
  .by_cases c:x=ru.1
   .show (if (eJ g ru.1 (aW g ru) x).isSome then 0 else 1)<=_;rw [c,tX];exact gA _
   show (if (eJ g ru.1 (aW g ru) x).isSome then 0 else 1)<=_;rw [ne x c];exact aH _
  show (if (eJ g ru.1 (aW g ru) ru.1).isSome then 0 else 1) < (if (g ru.1).isSome then 0 else 1);rw [tX,e];show 0 < 1;exact Nat.one_pos
 | some k =>
  rw [e] at f2;have lt:aW g ru < k:=dq (by simpa [bl] using f2);have h0:=nn ru.1 _ tX;refine .inr ⟨?_,nh (λx _=>?_) hm ?_⟩
  .unfold fk
   congr 1
   refine List.map_congr_left λx _=>?_;by_cases c:x=ru.1
   .show (if (eJ g ru.1 (aW g ru) x).isSome then 0 else 1)=(if (g x).isSome then 0 else 1);rw [c,tX,e];rfl
   show (if (eJ g ru.1 (aW g ru) x).isSome then 0 else 1)=(if (g x).isSome then 0 else 1);rw [ne x c]
  .by_cases c:x=ru.1
   .show ((eJ g ru.1 (aW g ru) x).getD 0).toNat<=((g x).getD 0).toNat;rw [c,tX,e];show (aW g ru).toNat<=k.toNat;omega
   show ((eJ g ru.1 (aW g ru) x).getD 0).toNat<=((g x).getD 0).toNat;rw [ne x c];exact aH _
  show ((eJ g ru.1 (aW g ru) ru.1).getD 0).toNat < ((g ru.1).getD 0).toNat;rw [tX,e];show (aW g ru).toNat < k.toNat;omega
def z_ (aa:List aw)(g:G)(j:NN g):∃n,pS bl aa n g:=xS (L0 (aa.map (·.1))) (λg ru=>FN g ru) (IW _ g) j
inductive Em (aa:List aw):Str->Prop
 | mk {ru:aw}:ru∈aa->(∀p∈ru.2,Em aa p)->Em aa ru.1
def yn (aa:List aw)(b:Str->Int):Prop:=(∀z,0<=b z)/\∀ru∈aa,(∀p∈ru.2,Em aa p)->1+(ru.2.map b).sum<=b ru.1
def GJ (aa:List aw)(b:Str->Int)(g:G):Prop:=∀z n,g z=some n->0<=n/\n<=b z/\Em aa z
theorem AX {aa:List aw}{b:Str->Int}{g:G}(j:GJ aa b g)(hb:∀z,0<=b z):∀ps:List Str,(ps.map λp=>(g p).getD 0).sum<=(ps.map b).sum
 | []=>by simp
 | p::r=>by
  have h1:=AX j hb r;have h2:(g p).getD 0<=b p:=by
   cases e:g p with
   | none=>exact hb p
   | some n=>exact(j p n e).2.1
  rw [cq,jW,cq,jW];omega
def gm (b:Str->Int)(g:G)(h:Str):Nat:=if (g h).isSome then (b h - (g h).getD 0).toNat else (b h).toNat+1
def sF {aa:List aw}{b:Str->Int}(B:yn aa b)(g:G)(ru:aw)(j:GJ aa b g)(m:ru∈aa)(f:cN bg g ru=true) :
  GJ aa b (eJ g ru.1 (aW g ru))/\fk (gm b (eJ g ru.1 (aW g ru))) (aa.map (·.1)) < fk (gm b g) (aa.map (·.1)):=by
 have hm:ru.1∈aa.map (·.1):=jZ m;have tX:eJ g ru.1 (aW g ru) ru.1=some (aW g ru):=ax rfl;have ne:∀z,z≠ru.1->eJ g ru.1 (aW g ru) z=g z:=λz n=>az n;unfold cN at f;obtain⟨f1,f2⟩:=hX.mp f;have em:∀p∈ru.2,Em aa p:=λp hp=>by
  obtain⟨n,en⟩:=mW.mp (gB.mp f1 p hp);exact(j p n en).2.2
 have bd:=B.2 ru m em;have sb:=AX j B.1 ru.2;have s0:=jI g (λz n e=>(j z n e).1) ru.2;have sz:0<=aW g ru/\aW g ru<=b ru.1:=by unfold aW;omega
 refine⟨λz n e=>?_,nh (λx _=>?_) hm ?_⟩
 .by_cases c:z=ru.1
  .rw [c,tX] at e;cases e;rw [c];exact⟨sz.1,sz.2,.mk m em⟩
  rw [ne z c] at e;exact j z n e
 .by_cases c:x=ru.1
  .rw [c];unfold gm;rw [tX];show (b ru.1 - aW g ru).toNat<=_;cases e:g ru.1 with
   | none=>show _<=(b ru.1).toNat+1;omega
   | some k =>
    rw [e] at f2;have lt:aW g ru > k:=dq (by simpa [bg] using f2);show _<=(b ru.1 - k).toNat;omega
  unfold gm;rw [ne x c];exact aH _
 unfold gm;rw [tX];show (b ru.1 - aW g ru).toNat < _;cases e:g ru.1 with
 | none=>show _ < (b ru.1).toNat+1;omega
 | some k =>
  rw [e] at f2;have lt:aW g ru > k:=dq (by simpa [bg] using f2);show _ < (b ru.1 - k).toNat;omega
def Ah {aa:List aw}{b:Str->Int}(B:yn aa b)(g:G)(j:GJ aa b g):∃n,pS bg aa n g :=
 xS (r:=λg' g=>fk (gm b g') (aa.map (·.1)) < fk (gm b g) (aa.map (·.1))) (λ_ _ _ h k=>md h k) (sF B) ((InvImage.wf (λg:G=>fk (gm b g) (aa.map λx:aw=>x.1)) Nat.lt_wfRel.wf).apply g) j
def xM {aa:List aw}{b:Str->Int}(B:yn aa b){g g':G}(h:eI bg aa g g')(j:GJ aa b g):GJ aa b g':=h.keep (λg ru a m f=>(sF B g ru a m f).1) j
end M11
namespace L2
open PySem
def kZ {K:a9}{H:Hp}{p D:Addr}{zs:List Str}{σ:St}{v:V}{x:Str}{Qp:Hp->Prop}(hp:aI K H p (zs.map V.str))(hz:zs.length<=10000)(hD:H D=none)
  (q:∀ts H2,aC H H2->H2 D=some (.lst (ts.map V.ref))->Paired (λt h=>aQ K H2 t [.str h,v]) ts zs->Qp H2) :
  ∃W:Nat->Nat->List V->St->Hp->Prop,(∃m,W 0 m [] (eQ [x] [] σ) (upd H D (.lst []))) /\
 ∀i m ys σ' H,W i m ys σ' H->((j9 K p).stop i H/\Qp H)\/((j9 K p).go i H/\∃m',m' < m/\∀x H',(j9 K p).mZ i H x H'->dP 0 x σ' H' λσ2 H2=>iw σ2 H2 λb H3 =>
  if b=true then tO (gC (gW 0) (gC (tC v) rB)) σ2 H3 λy H4=>H4 D=some (.lst ys)/\ys.length < sizeLine/\W (i+1) m' (ys++[y]) σ2 (upd H4 D (.lst (ys++[y]))) else W (i+1) m' ys σ2 H3):=by
 refine cD (xs:=zs.map V.str) (λi ys σ2 H2=>∃ts:List Addr,ys=ts.map V.ref/\ts.length=i/\Paired (λt h=>aQ K H2 t [.str h,v]) ts (zs.take i)/\(∃y0,σ2=[y0])/\aC H H2/\H2 D=some (.lst ys))
  ⟨[],rfl,rfl,.nil,⟨none,rfl⟩,af hD _,ae⟩ (λi ys σ2 H2 _ h=>?_) (λi x ys σ2 H2 ex h=>?_) (λys σ2 H2 h=>?_)
 .obtain⟨_,_,_,_,_,sm,_⟩:=h;exact sm.seq hp
 .obtain⟨ts,rfl,ht,pH,⟨y0,rfl⟩,sm,hd⟩:=h;rw [bh] at ex;obtain⟨z,ez,rfl⟩:=cg.mp ex;have li:=(bq.mp ez).1;refine goN (yy ?_);refine⟨_,rfl,kb,λt jh=>⟨?_,bK (by rw [au];omega),ts++[t],?_,?_,?_,⟨_,rfl⟩,?_,ae⟩⟩
  .rw [aj (ay hd jh)];exact hd
  .rw [bF];rfl
  .rw [bL,ht];rfl
  .rw [cR,ez];have jf:upd H2 t (.tup [.str z,v]) D=some (.lst (ts.map V.ref)):=by rw [aj (ay hd jh)];exact hd
   exact gQ (Paired.dI pH λt' h' z=>aT jf ((af jh _).tup z)) (aT jf (aQ.of ae))
  intro b o hb;rw [aj (λz=>by rw [z,hD] at hb;cases hb)];exact af jh _ _ _ (sm b o hb)
 obtain⟨ts,rfl,ht,pH,_,sm,hd⟩:=h;rw [au,cQ] at pH;exact q ts H2 sm hd pH
def Tab.same {T:Addr}{pos:Pos}{qual:Str}{H H':Hp}(h:Tab T pos qual H)(s:aC H H'):Tab T pos qual H':=by
 obtain⟨ps,a,b,c⟩:=h;refine⟨ps,s _ _ a,b,c.imp id ?_⟩;rintro⟨c',e,g⟩;exact⟨c',e,s _ _ g⟩
def Tab.JN {T d:Addr}{pos:Pos}{qual:Str}{H H':Hp}{kvs:List (aS×V)}(h:Tab T pos qual H)(s:dZ d H H')(hd:H d=some (.dK kvs)):Tab T pos qual H':=by
 obtain⟨ps,a,b,c⟩:=h;refine⟨ps,s _ _ (λz=>by rw [z,hd] at a;cases a) a,b,c.imp id ?_⟩;rintro⟨c',e,g⟩;exact⟨c',e,s _ _ (λz=>by rw [z,hd] at g;cases g) g⟩
structure yj (K:a9)(x qual:Str)(st:Stmt)(f:Addr)(fd:FuncData)(T:Addr):Prop where
 ex:∃(oc:Value)(od:Option Addr)(kV doc pm:Value)(an:Option Addr)(c:Addr)(ct:Value)(xq:Array (Option Value)),
  fd=PySem.W.fnOf x qual (dD st) (cw st) (av st) .none kV doc pm an (.ref c) ct/\K.lookup f=some ⟨oc,od,.func fd,xq⟩/\PySem.W.codeIn K (.ref c) qual=true/\PySem.W.codeHdIn K c T=true
 kp:PySem.W.keepIn K (.ref f)=true
def yj.ok {P:Program}{w:World}{K:a9}{mg:Str->Option Value}{base:Heap}{x qual:Str}{st:Stmt}{f:Addr}{fd:FuncData}{T:Addr}{N ps:List Str}{k:Nat}{sp:Sp}(F:yj K x qual st f fd T)(S:aK N ps (av st))(len:∀vs H Q E,sp vs H Q E->vs.length=ps.length)
  (jz:∀(c:Addr)(A:Around)(outer:List Env)(s:Shared)(H:Hp)(vs:List V)(Q:VK)(E:XK),PySem.W.codeHdIn K c T=true->fh k (A.deeper (PyProof.Rows.envOfC qual (av st) s.heap.objs.size f (.ref c)))->sp vs H Q E ->
   ∃t,AG (pP fj P w K mg base N qual (av st) f (.ref c) A outer s H E).Cy (cw st) t/\t { nx:=λ_ H'=>Q .d6 H',rt:=Q } (start N vs) H):bN P w K mg base fj (k+1) f fd ps sp:=by
 obtain⟨oc,od,kV,doc,pm,an,c,ct,xq,rfl,lk,wg,hC⟩:=F.ex;refine Gn lk wg S len λA outer s H vs Q E hr yu=>?_;obtain⟨t,h,q⟩:=jz c A outer s H vs Q E hC hr yu;exact⟨t,h.Cy,q⟩
theorem uv {v:V}:∀(hs:List Str)(bz:List (aS×V)) (as:List Str),bz.map (·.1)=as.map Sum.inr->(cJ (hs.map λh=>((Sum.inr h:aS),v)) bz).map (·.1)=(M11.tL as hs).map Sum.inr
 | [],bz,as,e=>e
 | h::r,bz,as,e=>uv r (bR bz (Sum.inr h) v) (M11.gO as h) (gK.kW e h)
theorem kK {v:V}:∀(hs:List Str)(bz:List (aS×V))(z:Str),bA (cJ (hs.map λh=>((Sum.inr h:aS),v)) bz) (Sum.inr z)=if z∈hs then some v else bA bz (Sum.inr z)
 | [],bz,z=>by simp [cJ]
 | h::r,bz,z=>by
  have ih:=kK (v:=v) r (bR bz (Sum.inr h) v) z;show bA (cJ (r.map λh=>((Sum.inr h:aS),v)) (bR bz (Sum.inr h) v)) (Sum.inr z)=_;rw [ih,wQ];by_cases c:z∈r
  .rw [ax c,ax (dr _ c)]
  rw [az c];by_cases c2:z=h
  .rw [ax (by rw [c2]),ax (by rw [c2];exact cU)]
  rw [az (λe=>c2 (l_ e)),az (λe=>(cz.mp e).elim c2 c)]
end L2
namespace gK
open PySem L2 M11
def Pw:List Stmt->Arguments×Expr×Scope×Pos
 | [.Return (some (.Call _ [_,_,.Lambda p b s pos] _ _)) _]=>(p,b,s,pos)
 | _=>(⟨[],[],none,[],[],none,[]⟩,.Constant .none 0 ⟨0,0,0,0⟩,av rP,⟨0,0,0,0⟩)
abbrev r_:=Pw (cw rP)
abbrev z8:=Pw (cw vK)
abbrev yr:Str := "least_sizes" ++ ".<locals>." ++ "<lambda>"
abbrev J3:Str := "greatest_empty_sizes" ++ ".<locals>." ++ "<lambda>"
def Lf:aK ["size","known"] ["size","known"] r_.2.2.1:=iq rfl rfl rfl rfl (by decide +kernel)
def Lg:aK ["size","known"] ["size","known"] z8.2.2.1:=iq rfl rfl rfl rfl (by decide +kernel)
section
def zO (F:g9 K "settled_sizes" "settled_sizes" nE f fd)(T:Txt mg):bN P w K mg base fj 2 f fd ["rules","sizes","better"] (iH K yr r_.1 r_.2.1 r_.2.2.1 M11.bl) :=
 ur F T Lf (λpm gy c' us hl=>match us,hl with | [_,_],_=>rfl) (λ_ _ _ _ _ _=>eK nU (pv 0) (pv 1) (bu _)) (λa b H Q h=>⟨_,rfl,_,rfl,_,_,rfl,rfl,h⟩)
def zP (F:g9 K "settled_sizes" "settled_sizes" nE f fd)(T:Txt mg):bN P w K mg base fj 2 f fd ["rules","sizes","better"] (iH K J3 z8.1 z8.2.1 z8.2.2.1 M11.bg) :=
 ur F T Lg (λpm gy c' us hl=>match us,hl with | [_,_],_=>rfl) (λ_ _ _ _ _ _=>eK rY (pv 0) (pv 1) (bu _)) (λa b H Q h=>⟨_,rfl,_,rfl,_,_,rfl,rfl,h⟩)
def yz (aa:List aw):G:=λz=>if z∈tI (hd aa) [] (aa.flatMap (·.2)) then some 0 else none
def qB (K:a9)(T1:Addr):Sp:=λvs H Q _=>∃(R:Addr)(rs:List Addr)(aa:List aw),vs=[.ref R]/\aI K H R (rs.map V.ref)/\bH K H rs aa/\aa.length<=1000/\(∀ru∈aa,ru.2.length<=8)/\Tab T1 r_.2.2.2 yr H /\
 ∀(d:Addr)(kvs:List (aS×V)) (ks:List Str)(g:G)(H':Hp),H d=none->dZ T1 H H'->Tab T1 r_.2.2.2 yr H'->H' d=some (.dK kvs)->kvs.map (·.1)=ks.map Sum.inr->(∀z,bA kvs (Sum.inr z)=(g z).map V.int)->eI M11.bl aa (yz aa) g->i9 M11.bl aa g->kvs.length<=20000->Q (.ref d) H'
def Ic:aK ["rules"] ["rules"] (av rP):=iq rfl rfl rfl rfl (by decide +kernel)
def Fp {T1:Addr}(F:yj K "least_sizes" "least_sizes" rP f fd T1)(T:Txt mg)(hB:tH mg base)(GW:aB P w K mg base 1 "words_in" ["rules"] (A2 K))
  (GS:aB P w K mg base 2 "settled_sizes" ["rules","sizes","better"] (iH K yr r_.1 r_.2.1 r_.2.2.1 M11.bl)):bN P w K mg base fj 3 f fd ["rules"] (qB K T1):=by
 refine F.ok Ic (λvs H Q E h=>?_) (λc A outer s H vs Q E hC hr h=>?_)
 .obtain⟨R,rs,aa,rfl,_⟩:=h;rfl
 obtain⟨R,rs,aa,rfl,hR,b9,br,h8,hT,q⟩:=h;refine⟨_,ak (aL (a8 GS hr rfl (ab (pv 0) (ab (bD (dC rfl) rfl T.yD eY (ab
  (bE ["word"] [] rfl (aZ (a8 (GW.mono (by decide:1<=2)) hr rfl (ab (pv 0) ah))) (bp rfl rfl) (by decide +kernel) rfl (by decide +kernel)
   (λ_ _ _ _ _=>aq (i:=0) (show (["word"]:List Str).Nodup by decide +kernel) rfl (bx rfl)) (λ_ _ _ _ _=>bX)
   (λ_ _ _ _ _=>bC (ab (pv 0) (ab ao ah)))) ah)) (ab (E6 (T:=T1) rfl hC hB (by decide +kernel)) ah))))),?_⟩
 dsimp only [Ax];refine⟨_,rfl,_,rfl,R,rs,aa,rfl,hR,b9,br,h8,λD1 H1 f1 s1 e1=>?_⟩;have lw:(tI (hd aa) [] (aa.flatMap (·.2))).length<=8000:=by
  have h1:=vj (hd aa) (aa.flatMap (·.2)) [];have h2:=jB aa 1000 br h8;simp only [iU] at h1;omega
 refine⟨D1,rfl,⟨_,aI.of e1⟩,λD2 i8=>kZ (aI.of e1) ∅ i8 λts H2 s2 e2 p2=>?_⟩;have kp:Paired (λt (kv:aS×V)=>aQ K H2 t [kV kv.1,kv.2]) ts ((tI (hd aa) [] (aa.flatMap (·.2))).map λh=>((Sum.inr h:aS),V.int 0)):=cu p2 λ_ _ z=>z;refine⟨D2,ts,_,rfl,e2,kp,λd hd2=>?_⟩;have k1:=uv (v:=.int 0) (tI (hd aa) [] (aa.flatMap (·.2))) [] [] rfl;have k2:∀z,bA (cJ ((tI (hd aa) [] (aa.flatMap (·.2))).map λh=>((Sum.inr h:aS),V.int 0)) []) (Sum.inr z)=(yz aa z).map V.int:=λz=>by
  rw [kK];unfold yz
  split <;> rfl
 have lk:=hU (tI (hd aa) [] (aa.flatMap (·.2))) [];simp only [iU] at lk;generalize cJ ((tI (hd aa) [] (aa.flatMap (·.2))).map λh=>((Sum.inr h:aS),V.int 0)) []=PD at k1 k2;have s3:=(s1.trans s2).trans (af hd2 (.dK PD));have e3:upd H2 d (.dK PD) d=some (.dK PD):=ae;have yB:H d=none:=(s1.trans s2).free hd2;generalize upd H2 d (.dK PD)=H3 at s3 e3;refine⟨hT.same s3,λfl c' gy H4 s4 t4 ffl e4 We=>?_⟩;have nT:d≠T1:=λz=>by
  obtain⟨ps,a,_⟩:=hT.same s3;rw [<-z,e3] at a;cases a
 have DL:=s4 d _ nT e3;have Uj:∀{a xs},aQ K H a xs->aQ K H4 a xs:=λ{a xs} h=>by
  obtain⟨ps,b,_⟩:=hT;rcases h with (h | ⟨u,h⟩) | h
  .exact .inl (.inl (s4 _ _ (λz=>by rw [z,b] at h;cases h) (s3 _ _ h)))
  .exact .inl (.inr ⟨u,s4 _ _ (λz=>by rw [z,b] at h;cases h) (s3 _ _ h)⟩)
  exact .inr h
 have Uk:∀{a xs},aI K H a xs->aI K H4 a xs:=λ{a xs} h=>by
  obtain⟨ps,b,_⟩:=hT;rcases h with (h | ⟨u,h⟩) | h
  .exact .inl (.inl (s4 _ _ (λz=>by rw [z,b] at h;cases h) (s3 _ _ h)))
  .exact .inl (.inr ⟨u,s4 _ _ (λz=>by rw [z,b] at h;cases h) (s3 _ _ h)⟩)
  exact .inr h
 refine⟨R,rs,aa,d,fl,c',_,gy,PD,_,yz aa,rfl,Uk hR,b9.keep λ_ _ z=>Uj z,br,h8,DL,k1,pO _ lK,∅,k2,z_ aa _ λz n e=>?_,e4,We,λmC PF g' H5 s5 e5 k5 v5 st se Yc=>?_⟩
 .unfold yz at e
  split at e
  .cases e;exact oE _
  cases e
 refine q d mC PF g' H5 yB (λb o n hb=>s5 b o (λz=>?_) (s4 b o n (s3 b o hb))) (t4.JN s5 DL) e5 k5 v5 st se Yc;rw [z,yB] at hb;cases hb
def vq (K:a9)(T2:Addr):Sp:=λvs H Q _=>∃(R:Addr)(rs:List Addr)(aa:List aw)(b:Str->Int),vs=[.ref R]/\aI K H R (rs.map V.ref)/\bH K H rs aa/\aa.length<=1000/\(∀ru∈aa,ru.2.length<=8)/\yn aa b/\Tab T2 z8.2.2.2 J3 H /\
 ∀(d:Addr)(kvs:List (aS×V)) (ks:List Str)(g:G)(H':Hp),H d=none->dZ T2 H H'->Tab T2 z8.2.2.2 J3 H'->H' d=some (.dK kvs)->kvs.map (·.1)=ks.map Sum.inr->(∀z,bA kvs (Sum.inr z)=(g z).map V.int)->GJ aa b g->eI M11.bg aa (λ_=>none) g->i9 M11.bg aa g->Q (.ref d) H'
def Ih:aK ["rules"] ["rules"] (av vK):=iq rfl rfl rfl rfl (by decide +kernel)
def Fs {T2:Addr}(F:yj K "greatest_empty_sizes" "greatest_empty_sizes" vK f fd T2)(hB:tH mg base)
  (GS:aB P w K mg base 2 "settled_sizes" ["rules","sizes","better"] (iH K J3 z8.1 z8.2.1 z8.2.2.1 M11.bg)):bN P w K mg base fj 3 f fd ["rules"] (vq K T2):=by
 refine F.ok Ih (λvs H Q E h=>?_) (λc A outer s H vs Q E hC hr h=>?_)
 .obtain⟨R,rs,aa,b,rfl,_⟩:=h;rfl
 obtain⟨R,rs,aa,b,rfl,hR,b9,br,h8,Y3,hT,q⟩:=h;refine⟨_,ak (aL (a8 GS hr rfl (ab (pv 0) (ab ig (ab (E6 (T:=T2) rfl hC hB (by decide +kernel)) ah))))),?_⟩;refine⟨_,rfl,λd yB=>?_⟩;have s3:=af yB (.dK []);have e3:upd H d (.dK []) d=some (.dK []):=ae;generalize upd H d (.dK [])=H3 at s3 e3;refine⟨hT.same s3,λfl c' gy H4 s4 t4 ffl e4 We=>?_⟩;have nT:d≠T2:=λz=>by
  obtain⟨ps,a,_⟩:=hT.same s3;rw [<-z,e3] at a;cases a
 have DL:=s4 d _ nT e3;have Uj:∀{a xs},aQ K H a xs->aQ K H4 a xs:=λ{a xs} h=>by
  obtain⟨ps,b,_⟩:=hT;rcases h with (h | ⟨u,h⟩) | h
  .exact .inl (.inl (s4 _ _ (λz=>by rw [z,b] at h;cases h) (s3 _ _ h)))
  .exact .inl (.inr ⟨u,s4 _ _ (λz=>by rw [z,b] at h;cases h) (s3 _ _ h)⟩)
  exact .inr h
 have Uk:∀{a xs},aI K H a xs->aI K H4 a xs:=λ{a xs} h=>by
  obtain⟨ps,b,_⟩:=hT;rcases h with (h | ⟨u,h⟩) | h
  .exact .inl (.inl (s4 _ _ (λz=>by rw [z,b] at h;cases h) (s3 _ _ h)))
  .exact .inl (.inr ⟨u,s4 _ _ (λz=>by rw [z,b] at h;cases h) (s3 _ _ h)⟩)
  exact .inr h
 have j0:GJ aa b (λ_=>none):=λz n e=>nomatch e;refine⟨R,rs,aa,d,fl,c',_,gy,[],[],λ_=>none,rfl,Uk hR,b9.keep λ_ _ z=>Uj z,br,h8,DL,rfl,lK,gA _,λ_=>rfl,Ah Y3 _ j0,e4,We,λmC PF g' H5 s5 e5 k5 v5 st se Yc=>?_⟩;refine q d mC PF g' H5 yB (λb o n hb=>s5 b o (λz=>?_) (s4 b o n (s3 b o hb))) (t4.JN s5 DL) e5 k5 v5 (xM Y3 st j0) st se;rw [z,yB] at hb;cases hb
end
end gK
namespace L2
open PySem PySem.Spec PyProof.Rows
def MU (o:Obj):Nat:=match o.data with
 | .dict _ ep=>ep
 | _=>0
def Ra (d:Addr)(o:Obj)(kvs:List (aS×V)):It :=
 ⟨λi H=>H d=some (.ki o (.dK kvs))/\i < kvs.length,λi H x H'=>H'=H/\∃kv,kvs[i]?=some kv/\x=kV kv.1,λi H=>H d=some (.ki o (.dK kvs))/\kvs.length<=i⟩
def Ao {X:Cx}{ag:List (Addr×Obj)}{σ:St}{H:Hp}{s:Shared}{d:Addr}{o:Obj}{kvs:List (aS×V)}(I:Inv X ag σ H s)(e:H d=some (.ki o (.dK kvs))) :
  (d == sysModules)=false/\∃vs,KV kvs vs/\s.heap.DictAt (bj X.prog X.w) d vs (MU o):=by
 obtain⟨ho,hz,hs,vs,r,o',es,ep,h1,h2,h3,h4⟩:=(show cE X.prog X.w H s.heap d (.ki o (.dK kvs)) from I.b0 d _ e);rw [ho] at h1;cases h1;refine⟨hs,vs,r,o,es,ho,h2,?_,h4⟩;unfold MU;rw [h3]
def B4 {P:Program}{w:World}{K:a9}{tg:Expr}(d it:Addr)(o:Obj)(kvs:List (aS×V)):Turn P w K tg (Ra d o kvs) [it] it (λi h=>h.IsKeyIter it d i kvs.length (MU o)) where
 mem:=by simp
 obj:=λi h st b hb=>by
  have e:b=it:=by simpa using hb
  subst e;obtain⟨o,e,c,d⟩:=st;exact⟨o,e,λv z=>by rw [d] at z;cases z⟩
 keep:=λi h h' st k=>let ⟨o,e,r⟩:=st;⟨o,k it (by simp) o e,r⟩
 item:=by
  intro X hP hw hK hc i ag s σ H E I hf st hg;subst hP hw hK;obtain⟨hq,hi⟩:=hg;obtain⟨hs,vs,r,da⟩:=Ao I hq;have l:=r.length;obtain⟨kv,R_⟩:∃kv,kvs[i]?=some kv:=⟨kvs[i],b_ hi⟩;obtain⟨q,eq⟩:∃q,vs[i]?=some q:=⟨vs[i]'∅,b_ ∅⟩;have ek:kv.1=q.1:=by
   have:=congrArg (λl:List aS=>l[i]?) r.keys;simp only [bh,R_,eq] at this;exact gR this
  obtain⟨f0,f1,f2,f3,f4,f5⟩:=hf it (by simp);rw [l] at st;refine wpAny_pyNext_dict_item (k:=q.1) (v:=q.2) st da eq λkey h' hk wH sb=>?_;have I1:Inv X ag σ H { s with heap:=h' }:=I.turned (t':=s.toks) (λb o hb e=>(sb.2 b hb).trans e) f0 f1 f3 f4 f5;obtain⟨o2,e,c,dd⟩:=id wH;rw [<-l] at wH;exact⟨key,rfl,Bx (s:={ s with heap:=h' }) e c dd (by decide) ⟨kV kv.1,H,I1,by rw [ek];exact Kf hk,⟨rfl,kv,R_,rfl⟩,wH,λb hb=>(hf b hb).1⟩⟩
 done:=by
  intro X hP hw hK hc i ag s σ H E I hf st hg;subst hP hw hK;obtain⟨hq,hi⟩:=hg;obtain⟨hs,vs,r,da⟩:=Ao I hq;have l:=r.length;obtain⟨f0,f1,f2,f3,f4,f5⟩:=hf it (by simp);rw [l] at st;exact wpAny_pyNext_dict_end (I.ok.hd hc) st da (u_ ∅) λh' eb=>⟨rfl,I.turned (t':=s.toks) (λb o hb e=>eb b o hb e) f0 f1 f3 f4 f5⟩
 self:=λ_ _ _ _ _ st h=>wpAny_pyIter_keyiter st h
def PR (tl:TE):TI:=λσ H R=>tl σ H λx H1=>∃d kvs,x=.ref d/\H1 d=some (.dK kvs)/\∀o,R (Ra d o kvs) (upd H1 d (.ki o (.dK kvs)))
def Bo {X:Cx}{tg l:Expr}{tl:TE}(hl:PE X l tl):PI X tg l (PR tl):=by
 intro ag s σ H R I h;refine cI (hl ag s σ H _ I h) λv s1 ⟨x,H1,I1,r1,q1⟩=>?_;obtain⟨d,kvs,e,hd,q⟩:=q1;subst e;cases r1;obtain⟨hz,hs,vs,r,o,es,ep,h1,h2⟩:=(show cE X.prog X.w H1 s1.heap d (.dK kvs) from I1.b0 d _ hd);have I2:Inv X ag σ (upd H1 d (.ki o (.dK kvs))) { s1 with heap:=s1.heap,toks:=s1.toks }:=I1.write (x:=d) (e:=d) (by rw [hd];exact True.intro) (.inl rfl) (λb u _ e=>e) ⟨o,h1⟩ ⟨h1,hz,hs,vs,r,o,es,ep,h1,h2⟩;have e2:upd H1 d (.ki o (.dK kvs)) d=some (.ki o (.dK kvs)):=ae;obtain⟨_,Oo,r2,da⟩:=Ao I2 e2;have q2:=q o;generalize upd H1 d (.ki o (.dK kvs))=H2 at I2 e2 q2;refine wpAny_pyIter_dict hs da ?_;refine⟨s1.heap.objs.size,[s1.heap.objs.size],_,_,H2,rfl,I2.kept (t':=s1.toks) λb o e=>bI _ e,B4 d _ o kvs,⟨_,cV _ rfl,rfl,by rw [r2.length];rfl⟩,λb hb=>?_,q2⟩;have e:b=s1.heap.objs.size:=by simpa using hb
 subst e;exact I2.wj (aH _) (I2.b0.fresh (aH _))
section
variable {d D:Addr}{o:Obj}{kvs:List (aS×V)}{ts:List Str}{js:List (Nat×Str)}{g:TG}{tif:TT}{te:TE}{R:Hp->Prop}{σ:St}{H:Hp}
def sZ (Pv:Nat->List V->St->Hp->Prop)(h0:Pv 0 [] (eQ ts js σ) (upd H D (.lst [])))(hl:∀i ys σ H,i<=kvs.length->Pv i ys σ H->H d=some (.ki o (.dK kvs)))
  (hs:∀i kv ys σ H,kvs[i]?=some kv->Pv i ys σ H->g (kV kv.1) σ H λσ2 H2=>tif σ2 H2 λb H3=>if b=true then te σ2 H3 λy H4=>H4 D=some (.lst ys)/\ys.length < sizeLine/\Pv (i+1) (ys++[y]) σ2 (upd H4 D (.lst (ys++[y]))) else Pv (i+1) ys σ2 H3)
  (hd:∀ys σ H,Pv kvs.length ys σ H->R H) :
  ∃W:Nat->Nat->List V->St->Hp->Prop,(∃m,W 0 m [] (eQ ts js σ) (upd H D (.lst []))) /\
 ∀i m ys σ' H,W i m ys σ' H->((Ra d o kvs).stop i H/\R H)\/((Ra d o kvs).go i H/\∃m',m' < m/\∀x H',(Ra d o kvs).mZ i H x H'->g x σ' H' λσ2 H2=>tif σ2 H2 λb H3 =>
  if b=true then te σ2 H3 λy H4=>H4 D=some (.lst ys)/\ys.length < sizeLine/\W (i+1) m' (ys++[y]) σ2 (upd H4 D (.lst (ys++[y]))) else W (i+1) m' ys σ2 H3):=by
 refine⟨λi m ys σ H=>m=kvs.length - i/\i<=kvs.length/\Pv i ys σ H,⟨kvs.length,by simp,gA _,h0⟩,?_⟩;rintro i m ys σ' H ⟨rfl,hi,p⟩;have q:=hl i ys σ' H hi p;by_cases ke:i < kvs.length
 .refine .inr ⟨⟨q,ke⟩,kvs.length - (i+1),∅,λx H' y=>?_⟩;obtain⟨e,kv,R_,rfl⟩:=y;subst e;have z:=hs i kv ys σ' _ R_ p;have h1:(i+1<=kvs.length)=True:=eq_true ke;simp only [h1,true_and];exact z
 have e:i=kvs.length:=by omega
 subst e;exact .inl ⟨⟨q,aH _⟩,hd ys σ' H p⟩
end
def uG {A:Around}{s:Shared}{l b:Addr}{ys xs:List Int}{aU cH:List Value}(r:a_ (ys.map V.int) aU)(r2:a_ (xs.map V.int) cH)(hl:s.heap.IsList l aU.toArray)(hb:s.heap.IsList b cH.toArray)(ne:l≠b)(hu:A.units < cLine) :
  SeqAt.EqAt A s (.ref l) (.ref b) (decide (ys=xs)):=by
 have l1:=r.length;have l2:=r2.length;rw [au] at l1 l2;by_cases br:ys.length=xs.length
 .have h:=SeqAt.RcAt.lists (A:=A) (e:=λj=>decide (ys[j]?=xs[j]?)) hl hb (by simp only [bQ];omega) hu λj h1 h2=>?_
  .have e:((List.range aU.toArray.size).all λj=>decide (ys[j]?=xs[j]?))=decide (ys=xs):=by
    rw [mN,gB,decide_eq_true_iff];constructor
    .intro h;refine List.ext_getElem? λj=>?_;by_cases c:j < ys.length
     .exact dq (h j (kJ.mpr (by simp only [bQ];omega)))
     rw [u_ ∅,u_ ∅]
    intro h j _;rw [h];exact bV rfl
   rw [e] at h;exact .of_refs ne h
  have k1:j < aU.length:=by simpa using h1
  have k2:j < cH.length:=by simpa using h2
  have e1:ys[j]?=some (ys[j]'∅):=b_ ∅;have e2:xs[j]?=some (xs[j]'∅):=b_ ∅;obtain⟨u1,f1,q1⟩:=r.get (show (ys.map V.int)[j]?=some (.int (ys[j]'∅)) by rw [bh,e1];rfl);obtain⟨u2,f2,q2⟩:=r2.get (show (xs.map V.int)[j]?=some (.int (xs[j]'∅)) by rw [bh,e2];rfl);have g1:aU.toArray[j]=u1:=by
   have:=(bq.mp f1).2;simpa using this
  have g2:cH.toArray[j]=u2:=by
   have:=(bq.mp f2).2;simpa using this
  rw [g1,g2,e1,e2];obtain⟨t1,rfl⟩:=q1;obtain⟨t2,rfl⟩:=q2;have:=SeqAt.EqAt.int_int (A:=A.in1) (s:=s) (ys[j]'∅) t1 (xs[j]'∅) t2;have e3:(ys[j]'∅ == xs[j]'∅)=decide (some (ys[j]'∅)=some (xs[j]'∅)):=by
   rw [mN,beq_iff_eq,decide_eq_true_iff,Option.some.injEq]
  rw [e3] at this;exact this
 have h:=SeqAt.RcAt.lists_lengths (A:=A) hl hb (by simp only [bQ,bne_iff_ne];omega) hu;rw [di (λz=>br (by rw [z]))];exact .of_refs ne h
def Cj {X:Cx}(hu:X.A.units+1 < cLine):ji X (compareOp .In) (λx y H Q=>∃t a l1 l2 xs ys zs,x=.ref a/\y=.ref t/\aQ X.K H t [.ref l1,.ref l2]/\aI X.K H a (List.map V.int xs)/\aI X.K H l1 (List.map V.int ys)/\aI X.K H l2 (List.map V.int zs)/\l1≠a/\l2≠a /\
  Q (.bl (decide (ys=xs) || decide (zs=xs))) H):=by
 intro ag s σ H x y v u Q I rx ry h;obtain⟨t,a,l1,l2,xs,ys,zs,rfl,rfl,ht,ha,h1,h2,n1,n2,q⟩:=h;cases rx;cases ry;obtain⟨aU,r,pl,hz⟩:=I.tuple ht;obtain⟨u1,u2,rfl,q1,q2⟩:=vals2 r;cases (show u1=Value.ref l1 from q1);cases (show u2=Value.ref l2 from q2);obtain⟨xa,ra,pa,za⟩:=I.list ha;obtain⟨x1,r1,p1,z1⟩:=I.list h1;obtain⟨x2,r2,p2,z2⟩:=I.list h2;have e1:=uG (A:=X.A.in1) (s:=s) r1 ra p1.isList pa.isList n1 hu;have e2:=uG (A:=X.A.in1) (s:=s) r2 ra p2.isList pa.isList n2 hu;refine SeqAt.in_tupleAt (λy=>if y == .ref l1 then decide (ys=xs) else decide (zs=xs)) (show s.heap.IsTuple t #[.ref l1,.ref l2] from pl) (λy hy=>?_) ?_
 .have UP:y=.ref l1\/y=.ref l2:=by simpa using hy
  by_cases c:y=.ref l1
  .subst c;rw [ax (oT _)];exact e1
  rcases UP with z | z
  .exact absurd z c
  subst z;rw [az (λq=>c (eq_of_beq q))];exact e2
 refine⟨.bl (decide (ys=xs) || decide (zs=xs)),H,I,?_,q⟩
 show Value.bool _=Value.bool _
 congr 1
 by_cases c:l2=l1
 .subst c;have e3:=I.sf h1 h2;have e4:ys=zs:=by
   have:=congrArg (List.map λv:V=>match v with | .int n=>n | _=>0) e3
   simpa [iF,Function.comp_def] using this
  subst e4;simp
 simp [c]
end L2
namespace M11
open PySem L2
def C4 (b:Str->Bool) (zs:List Str) (i:Nat):List Int:=((List.range i).filter λj=>!(zs[j]?.elim true b)).map λj:Nat=>(j:Int)
def xO (b:Str->Bool) (zs:List Str) (i:Nat){z:Str}(e:zs[i]?=some z):C4 b zs (i+1)=C4 b zs i++(if b z=true then [] else [(i:Int)]):=by
 unfold C4;rw [List.range_succ,oX,bF]
 congr 1
 by_cases h:b z=true
 .rw [ax h];simp [e,h]
 rw [az h];simp [e,h]
def Jf (b:Str->Bool) (zs:List Str) (i:Nat):(C4 b zs i).length<=i:=by
 unfold C4;rw [au];have:=rp (λj=>!(zs[j]?.elim true b)) (List.range i);rw [uY] at this;exact this
def IV (b:Str->Bool) (zs:List Str) (j:Nat):Bool:=decide ([]=C4 b zs zs.length) || decide ([(j:Int)]=C4 b zs zs.length)
def Oe (aa:List aw) (names:List Str)(b:Str->Bool)(n:Str) (k j:Nat):Prop:=∃ru z,aa[k]?=some ru/\ru.1=n/\ru.2[j]?=some z/\z∈names/\IV b ru.2 j=true
end M11
namespace L2
open PySem M11
def jE (p:Str×Addr):aS×V:=(Sum.inr p.1,.ref p.2)
theorem oq:∀(ps bz:List (aS×V)),((bz++ps).map (·.1)).Nodup->cJ ps bz=bz++ps
 | [],bz,_=>by simp [cJ]
 | p::r,bz,h=>by
  have n:bA bz p.1=none:=by
   cases e:bA bz p.1 with
   | none=>rfl
   | some v =>
    have hm:=(ff bz p.1).mp (by rw [e];rfl);rw [bF,cq] at h;exact absurd rfl ((ku.mp h).2.2 p.1 hm p.1 cU)
  show cJ r (bR bz p.1 p.2)=_;rw [xn p.2 n,oq r (bz++[(p.1,p.2)]) (by rw [kr];exact h),kr];rfl
theorem gU:∀(ps:List (Str×Addr)),(ps.map (·.1)).Nodup->∀p∈ps,bA (ps.map jE) (Sum.inr p.1)=some (.ref p.2)
 | q::r,h,p,hp=>by
  rw [cq] at h ⊢;rcases cz.mp hp with z | z
  .rw [z];exact eV rfl
  rw [eX,gU r (mR.mp h).2 p z];intro e;have e':q.1=p.1:=l_ e;exact(mR.mp h).1 (by rw [e'];exact jZ z)
def nV (ps:List (Str×Addr)):(ps.map jE).map (·.1)=(ps.map (·.1)).map Sum.inr:=by
 rw [iF,iF];rfl
def sY {K:a9}{H:Hp}{p D:Addr}{zs:List Str}{σ:St}{x:Str}{Qp:Hp->Prop}(hp:aI K H p (zs.map V.str))(hz:zs.length<=10000)(hD:H D=none)
  (q:∀ts (ps:List (Str×Addr)) H2,aC H H2->H2 D=some (.lst (ts.map V.ref))->ps.map (·.1)=zs->Paired (λt (p:Str×Addr)=>aQ K H2 t [.str p.1,.ref p.2]) ts ps->(∀p∈ps,H2 p.2=some (.lst [])/\H p.2=none/\p.2≠D)->(ps.map (·.2)).Nodup->Qp H2) :
  ∃W:Nat->Nat->List V->St->Hp->Prop,(∃m,W 0 m [] (eQ [x] [] σ) (upd H D (.lst []))) /\
 ∀i m ys σ' H,W i m ys σ' H->((j9 K p).stop i H/\Qp H)\/((j9 K p).go i H/\∃m',m' < m/\∀x H',(j9 K p).mZ i H x H'->dP 0 x σ' H' λσ2 H2=>iw σ2 H2 λb H3 =>
  if b=true then tO (gC (gW 0) (gC (OF rB) rB)) σ2 H3 λy H4=>H4 D=some (.lst ys)/\ys.length < sizeLine/\W (i+1) m' (ys++[y]) σ2 (upd H4 D (.lst (ys++[y]))) else W (i+1) m' ys σ2 H3):=by
 refine cD (xs:=zs.map V.str) (λi ys σ2 H2=>∃(ts:List Addr)(ps:List (Str×Addr)),ys=ts.map V.ref/\ts.length=i/\ps.map (·.1)=zs.take i/\Paired (λt (p:Str×Addr)=>aQ K H2 t [.str p.1,.ref p.2]) ts ps /\
   (∀p∈ps,H2 p.2=some (.lst [])/\H p.2=none/\p.2≠D)/\(ps.map (·.2)).Nodup/\(∃y0,σ2=[y0])/\aC H H2/\H2 D=some (.lst ys))
  ⟨[],[],rfl,rfl,rfl,.nil,by simp,by simp,⟨none,rfl⟩,af hD _,ae⟩ (λi ys σ2 H2 _ h=>?_) (λi x ys σ2 H2 ex h=>?_) (λys σ2 H2 h=>?_)
 .obtain⟨_,_,_,_,_,_,_,_,_,sm,_⟩:=h;exact sm.seq hp
 .obtain⟨ts,ps,rfl,ht,hm,pH,hl,hn,⟨y0,rfl⟩,sm,hd⟩:=h;rw [bh] at ex;obtain⟨z,ez,rfl⟩:=cg.mp ex;have li:=(bq.mp ez).1;refine goN (yy ?_);refine⟨_,rfl,o6,λl tT=>⟨kb,λt jh=>?_⟩⟩;have LY:l≠D:=(ay hd tT).symm;have nt:t≠l:=λe=>by rw [e,ae] at jh;cases jh
  have P1:H2 t=none:=by rw [aj nt] at jh;exact jh
  have ntD:t≠D:=(ay hd P1).symm;have kc:aC H2 (upd (upd H2 l (.lst [])) t (.tup [.str z,.ref l])):=(af tT _).trans (af jh _);have jf:=kc _ _ hd;have el:upd (upd H2 l (.lst [])) t (.tup [.str z,.ref l]) l=some (.lst []):=by rw [aj nt.symm,ae]
  have et:aQ K (upd (upd H2 l (.lst [])) t (.tup [.str z,.ref l])) t [.str z,.ref l]:=aQ.of ae;generalize upd (upd H2 l (.lst [])) t (.tup [.str z,.ref l])=H4 at kc jf el et;refine⟨jf,bK (by rw [au];omega),ts++[t],ps++[(z,l)],by rw [bF];rfl,by rw [bL,ht];rfl,by rw [bF,hm,cR,ez];rfl,?_,?_,?_,⟨_,rfl⟩,?_,ae⟩
  .exact gQ (Paired.dI pH λt' h' z=>aT jf (kc.tup z)) (aT jf et)
  .intro p' n6;rcases cA.mp n6 with h | h
   .obtain⟨a1,a2,a3⟩:=hl p' h;exact⟨by rw [aj a3];exact kc _ _ a1,a2,a3⟩
   rw [bU.mp h];exact⟨by rw [aj LY];exact el,sm.free tT,LY⟩
  .rw [bF];refine ku.mpr ⟨hn,by simp,λa ha b hb e=>?_⟩;rw [oY,bU] at hb;obtain⟨p',n6,rfl⟩:=cP.mp ha;have:=(hl p' n6).1;rw [e,hb] at this;rw [show H2 l=none from tT] at this;cases this
  intro b o hb;rw [aj (λz=>by rw [z,hD] at hb;cases hb)];exact kc _ _ (sm b o hb)
 obtain⟨ts,ps,rfl,ht,hm,pH,hl,hn,_,sm,hd⟩:=h;rw [au,cQ] at hm;exact q ts ps H2 sm hd hm pH hl hn
def x9 {K:a9}{H:Hp}{p D d:Addr}{zs:List Str}{kvs:List (aS×V)}{σ:St}{js:List (Nat×Str)}{Qp:Hp->Prop}(hσ:eQ ["place","part"] js σ=[none,none,aP d])(hp:aQ K H p (zs.map V.str))(hz:zs.length<=1000)
  (hd:H d=some (.dK kvs))(hD:H D=none)(q:∀H2,aC H H2->H2 D=some (.lst ((C4 (λz=>(bA kvs (Sum.inr z)).isSome) zs zs.length).map V.int))->Qp H2) :
  ∃W:Nat->Nat->List V->St->Hp->Prop,(∃m,W 0 m [] (eQ ["place","part"] js σ) (upd H D (.lst []))) /\
 ∀i m ys σ' H,W i m ys σ' H->((tF K p).stop i H/\Qp H)\/((tF K p).go i H/\∃m',m' < m/\∀x H',(tF K p).mZ i H x H'->Aj K 2 (jA (dP 0) (jA (dP 1) CW)) x σ' H' λσ2 H2=>tB (AR (gW 1) (gW 2)) σ2 H2 λb H3 =>
  if b=true then gW 0 σ2 H3 λy H4=>H4 D=some (.lst ys)/\ys.length < sizeLine/\W (i+1) m' (ys++[y]) σ2 (upd H4 D (.lst (ys++[y]))) else W (i+1) m' ys σ2 H3):=by
 refine x_ (xs:=zs.map V.str) (λi ys σ2 H2=>ys=(C4 (λz=>(bA kvs (Sum.inr z)).isSome) zs i).map V.int/\(∃y0 y1,σ2=[y0,y1,aP d])/\aC H H2/\H2 D=some (.lst ys))
  ⟨rfl,⟨none,none,hσ⟩,af hD _,ae⟩ (λi ys σ2 H2 _ h=>h.2.2.1.tup hp) (λi x ys σ2 H2 t ex h ht=>?_) (λys σ2 H2 h=>?_)
 .obtain⟨rfl,⟨y0,y1,rfl⟩,sm,hd2⟩:=h;rw [bh] at ex;obtain⟨z,ez,rfl⟩:=cg.mp ex;have li:=(bq.mp ez).1;have kc:=sm.trans (af ht (.tup [.int (i:Int),.str z]));have jf:upd H2 t (.tup [.int (i:Int),.str z]) D=some (.lst ((C4 (λz=>(bA kvs (Sum.inr z)).isSome) zs i).map V.int)):=by rw [aj (ay hd2 ht)];exact hd2
  have hv:aQ K (upd H2 t (.tup [.int (i:Int),.str z])) t [.int (i:Int),.str z]:=aQ.of ae;generalize upd H2 t (.tup [.int (i:Int),.str z])=H3 at kc jf hv;have fl:=Jf (λz=>(bA kvs (Sum.inr z)).isSome) zs i;refine⟨t,_,rfl,hv,rfl,_,_,rfl,_,_,rfl,rfl,?_⟩;refine⟨_,rfl,_,rfl,d,_,rfl,cy.k (k:=Sum.inr z) (kc _ _ hd),_,rfl,?_⟩;refine bY (λc=>?_) (λc=>?_)
  .refine⟨_,rfl,jf,bK (by rw [au];omega),?_,⟨_,_,rfl⟩,?_,ae⟩
   .rw [xO _ zs i ez,az (λe=>by rw [e] at c;exact absurd c (by decide)),bF];rfl
   intro b o hb;rw [aj (λz=>by rw [z,hD] at hb;cases hb)];exact kc b o hb
  refine⟨?_,⟨_,_,rfl⟩,kc,jf⟩;rw [xO _ zs i ez,ax,ir];cases hq:(bA kvs (Sum.inr z)).isSome with
  | true=>rfl
  | false=>exact absurd (by rw [hq];rfl) c
 obtain⟨rfl,_,sm,hd2⟩:=h;rw [au] at hd2;exact q H2 sm hd2
open PySem PySem.Spec PyProof.Rows
def iz {X:Cx}{elt iter tg:Expr}{iy:Nat}{y:Str}{py OR:Pos}{ifs:List Expr}{scope:Scope}{pos:Pos}{wi:TI}{g:TG}{tif:TT}{te:TE}(ts:List Str)(js:List (Nat×Str))(hN:X.N.Nodup)(hiy:X.N[iy]?=some y)(hy:X.env.scope.names.lookup y=some .local)(hc:X.calm=true)(hi:PI X tg iter wi)
  (cp:JA X scope js)(jy:∀y∈scope.names,y.2≠.cell)(jx:scope.kind=.function)
  (Ae:∀y∈scope.names,y.2=.local->scope.names.lookup y.1=some .local)
  (hg:∀cl C s1 H1 fp,PG (sU X scope cl C s1 H1 (ts++js.map (·.2)) fp) tg g)
  (Vl:∀cl C s1 H1 fp,Du (sU X scope cl C s1 H1 (ts++js.map (·.2)) fp) ifs tif)(he:∀cl C s1 H1 fp,PE (sU X scope cl C s1 H1 (ts++js.map (·.2)) fp) elt te)
  (hsw:swapsWith (.ListComp elt [⟨tg,iter,ifs,0⟩] scope pos) (some (.Name y py)) OR.line X.env=pure true:=by rfl)(hs:∀x,foldedSetIterable iter X.env x=pure x:=by intro _;rfl) :
  PS X (.Assign [.Name y py] (.ListComp elt [⟨tg,iter,ifs,0⟩] scope pos) OR) (OM (Ee wi ts js g tif te) (dP iy)):=by
 intro ag s σ H DD I h;rw [exec_Assign_Name_used _ _ _ _ hsw];refine ar (wpAny_standAt (ar ?_));show wpAny _ _ (do let _ <-comprehension (.ListComp elt [⟨tg,iter,ifs,0⟩] scope pos) scope X.env _ (newList []) false (eval iter X.env) (some (assign (.Name y py) X.env))) _ _ s;obtain⟨cl,pI⟩:=wy (env:=X.env) (scope:=scope) λy hy=>I.ok.has y (.inl (cp.all y hy));refine ar (dG (wpAny_comprehension_free (use:=some (assign (.Name y py) X.env)) (Q:=λ_ s'=>SP X ag DD .next s') rfl hs pI.eq jx Ae (cI (hi ag s σ H _ I h) λv s1 h1=>cI h1 λRG s2 h2=>?_)) (λ_ s' hq=>aR (aR hq)) λ_ _ e=>e);obtain⟨it,fp,tn,J,H2,e,I2,T,Hf,f2,h2⟩:=h2;subst e;obtain⟨W,⟨m0,w0⟩,turn⟩:=h2 s2.heap.objs.size I2.fresh;have Gb:∀b∈fp,b < s2.heap.objs.size:=λb hb=>by obtain⟨o,e,_⟩:=T.obj _ _ Hf b hb;exact ba e
 refine iV (wpAny_newFunctionEnv jy (by intro y hy;simp at hy) (λh₁ Ad wa=>?_) jx);dsimp only at Ad wa ⊢;generalize MC:s2.heap.push { cls:=.type "list",dict:=none,data:=.seq ([]:List Value).toArray }=G2 at Ad wa ⊢;have Jd:G2.objs.size=s2.heap.objs.size+1:=by rw [<-MC,jj]
 have VM:s2.heap.objs.size≠G2.objs.size:=by rw [Jd];exact bM (mS _)
 have old:∀b o,s2.heap.get? b=some o->h₁.get? b=some o:=λb o e =>
  wa.extBut b o (by rw [Jd];exact bM (kx (ba e))) (bI _ (MC ▸ bI _ e))
 have lI:h₁.get? s2.heap.objs.size=some { cls:=.type "list",data:=.seq ([]:List Value).toArray 0 }:=wa.extBut _ _ VM (bI _ (MC ▸ cV _ rfl));generalize oh:sU X scope cl G2.objs.size s2 H2 (ts++js.map (·.2)) fp=X2;have I4:Inv X2 [] (eQ ts js σ) (upd H2 s2.heap.objs.size (.lst [])) { s2 with heap:=h₁,toks:=s2.toks+([]:List (Str×Value)).length }:=by
  rw [<-oh];exact uy I2 f2 Gb jx jy cp pI (by rw [Jd];exact mS _) rfl rfl old Ad lI
 have x1:X2.prog=X.prog:=by rw [<-oh];rfl
 have x2:X2.w=X.w:=by rw [<-oh];rfl
 have x3:X2.K=X.K:=by rw [<-oh];rfl
 have x4:X2.calm=true:=by rw [<-oh];exact hc
 have x5:X2.A=X.A:=by rw [<-oh];rfl
 have x6:X2.env=compEnvC scope cl G2.objs.size X.env:=by rw [<-oh];rfl
 have x7:X2.xe=λ_ _=>False:=by rw [<-oh];rfl
 have Vn:PG X2 tg g:=by rw [<-oh];exact hg _ _ _ _ _
 have Mq:Du X2 ifs tif:=by rw [<-oh];exact Vl _ _ _ _ _
 have Ho:PE X2 elt te:=by rw [<-oh];exact he _ _ _ _ _
 have OP:tn 0 h₁:=T.keep _ _ _ Hf λb _ o e=>old b o e;have rE:∀{H':Hp}{j6:List (Addr×Obj)},(∀b∈fp,H' b=none)->(∀p∈j6,p.1∉fp)->∀b∈fp,wD X2 j6 H' b:=λ{H' j6} hn hp b hb=>by
  have o4:=I4.ok;subst oh;exact⟨hn b hb,(o4.NY b hb).1,o4.C5 b hb,.inl hb,(o4.NY b hb).2,λp n6=>by
   have oB:p∈([]:List (Addr×Obj))++j6:=n6;rw [mQ] at oB;intro z;exact hp p oB (by rw [z];exact hb)⟩
 have fin:∀{s':Shared}{σ':St}{H':Hp},Inv X2 [] σ' H' s'->DD.nx (σ.set iy (some (.ref s2.heap.objs.size))) H' ->
   compPost (model X.prog X.w) X.A X.xe (some (assign (.Name y py) X.env)) (λ_ s'=>SP X ag DD .next s') (.ref s2.heap.objs.size) G2.objs.size (.ok .next) s':=λ{s' σ' H'} J' q=>by
  subst oh;obtain⟨m',I9,_⟩:=J'.loc;have I5:Inv X ag σ H' s':=I2.KL (s':=s') J'.os J'.base J'.b0 J'.bare λb hb=>by
   obtain⟨_,f1,_,f3,f4,f5⟩:=f2 b hb;exact⟨f3,f1,f4,f5⟩
  obtain⟨f0,f1,_,f3,f4,f5⟩:=I2.wj (H':=H') (b:=G2.objs.size) (by rw [Jd];exact oF _) J'.free;show wpAny _ _ (assign (.Name y py) X.env (.ref s2.heap.objs.size)) _ _ s';refine wpAny_assign_Name (uf I5 hN hiy (.inl hy) (v:=.ref s2.heap.objs.size) rfl (λOZ I6 ⟨a,sb,ha⟩=>?_) (.inr hy));have nCa:G2.objs.size≠a:=by
   rcases ha with ha | ha
   .rw [ha];exact f1
   exact(f4 _ _ ha).symm
  refine⟨m',I9.sameBut sb nCa,λh' NM=>?_⟩;exact⟨_,H',I6.turned (t':=OZ.toks) (λb o hb e=>(NM.2 b hb).trans e) f0 f1 f3 f4 f5,q⟩
 have loop:∀s₃:Shared,s₃={ s2 with heap:=h₁,toks:=s2.toks+([]:List (Str×Value)).length } ->
   codeAny (model X.prog X.w) X.A (.compLoop (.ListComp elt [⟨tg,iter,ifs,0⟩] scope pos) 0 (.ref it) (.ref s2.heap.objs.size) (compEnvC scope cl G2.objs.size X.env))
    (compPost (model X.prog X.w) X.A X.xe (some (assign (.Name y py) X.env)) (λ_ s'=>SP X ag DD .next s') (.ref s2.heap.objs.size) G2.objs.size) s₃:=by
  rintro s₃ rfl;subst oh;refine qh (λn s'=>∃i ys σ' H',Inv (sU X scope cl G2.objs.size s2 H2 (ts++js.map (·.2)) fp) [] σ' H' s'/\tn i s'.heap/\(∀b∈fp,H' b=none)/\W i n ys σ' H') ?_ m0
   ⟨0,[],_,_,I4,OP,λb hb=>by rw [aj (bM (Gb b hb))];exact(f2 b hb).1,w0⟩
  rintro n s' ⟨i,ys,σ0,H',J',wH,QA,w'⟩;rcases turn i n ys σ0 H' w' with ⟨stop,q⟩ | ⟨go,m',hm,step⟩
  .refine dG (T.done (sU X scope cl G2.objs.size s2 H2 (ts++js.map (·.2)) fp) rfl rfl rfl hc i [] s' _ H' (λ_ _=>False) J' (rE QA (by simp)) wH stop) (λr s4 ⟨hr,J4⟩=>?_) λ_ _ z=>z;subst hr;exact fin J4 q
  refine dG (T.item (sU X scope cl G2.objs.size s2 H2 (ts++js.map (·.2)) fp) rfl rfl rfl hc i [] s' _ H' (λ_ _=>False) J' (rE QA (by simp)) wH go) (λr s4 ⟨u,hr,h4⟩=>?_) λ_ _ z=>z;subst hr;refine dG h4 (λ_ s5 ⟨xv,H5,J5,r5,y5,B7,Qz⟩=>?_) λ_ _ z=>z;have W5:=J5.pinned (rE Qz (by simp)) (T.obj _ _ B7);have back:∀{s7:Shared}{σ7:St}{H7:Hp},Inv (sU X scope cl G2.objs.size s2 H2 (ts++js.map (·.2)) fp) ([]++px fp s5.heap) σ7 H7 s7->Inv (sU X scope cl G2.objs.size s2 H2 (ts++js.map (·.2)) fp) [] σ7 H7 s7/\tn (i+1) s7.heap/\∀b∈fp,H7 b=none:=λ{s7 σ7 H7} J7=>by
   refine⟨J7.kM,T.keep _ _ _ B7 λb hb o e=>(J7.pin (b,o) (fX _ (fX _ (gZ hb e)))).1,λb hb=>?_⟩;obtain⟨o,e,d⟩:=T.obj _ _ B7 b hb;exact(J7.pin (b,o) (fX _ (fX _ (gZ hb e)))).2.1
  show wpAny _ _ (assign tg (sU X scope cl G2.objs.size s2 H2 (ts++js.map (·.2)) fp).env u) _ _ s5;refine dG (Vn _ s5 _ H5 xv u _ W5 r5 (step xv H5 y5)) (λ_ s6 ⟨σ6,H6,J6,q6⟩=>?_) λ_ _ z=>z;refine dG (Mq _ s6 _ H6 _ J6 q6) (λb s7 ⟨H7,J7,q7⟩=>?_) λ_ _ z=>z;cases b with
  | false =>
   rw [az dO] at q7 ⊢;obtain⟨J8,Tn,VX⟩:=back J7;exact⟨m',hm,i+1,ys,σ6,H7,J8,Tn,VX,q7⟩
  | true =>
   rw [ax rfl] at q7 ⊢;refine dG (Ho _ s7 _ H7 _ J7 q7) (λyv s8 ⟨y,H8,J8,r8,ME,UN,w8⟩=>?_) λ_ _ z=>z;refine dG (bJ (X:=sU X scope cl G2.objs.size s2 H2 (ts++js.map (·.2)) fp) _ s8 _ H8 (.ref s2.heap.objs.size) [y] (.ref s2.heap.objs.size) [yv] (λv H'=>W (i+1) m' (ys++[y]) σ6 H') J8 rfl (.cons r8 .nil) ⟨s2.heap.objs.size,ys,y,rfl,rfl,ME,UN,w8⟩)
    (λ_ s9 ⟨_,H9,J9,_,w9⟩=>?_) λ_ _ z=>z
   obtain⟨W6,Lc,MO⟩:=back J9;exact⟨m',hm,i+1,ys++[y],σ6,H9,W6,Lc,MO,w9⟩
 exact codeAny_compStart_list (loop _ rfl) (T.self _ _ _ _ _ OP (loop _ rfl))
end L2
namespace gK
open PySem L2 M11
section
def vX {l:List Str}(h:l.Nodup):(l.map (Sum.inr:Str->aS)).Nodup:=List.Pairwise.map _ (λa b hab e=>hab (l_ e)) h
structure DP (K:a9)(ps:List (Str×Addr))(st:Str->List (Nat×Nat))(H:Hp)(d:Addr):Prop where
 hd:Rd H d (.dK (ps.map jE))
 n1:(ps.map (·.1)).Nodup
 n2:(ps.map (·.2)).Nodup
 lst:∀p∈ps,∃ts,H p.2=some (.lst (ts.map V.ref))/\Paired (λt (e:Nat×Nat)=>aQ K H t [.int (e.1:Int),.int (e.2:Int)]) ts (st p.1)
def Rd.same {H H':Hp}{a:Addr}{u:HO}(h:Rd H a u)(s:aC H H'):Rd H' a u:=h.elim (λz=>.inl (s _ _ z)) λ⟨o,z⟩=>.inr ⟨o,s _ _ z⟩
theorem DP.same {ps:List (Str×Addr)}{st:Str->List (Nat×Nat)}{H H':Hp}{d:Addr}(h:DP K ps st H d)(s:aC H H'):DP K ps st H' d :=
 ⟨Rd.same h.hd s,h.n1,h.n2,λp hp=>let ⟨ts,a,b⟩:=h.lst p hp;⟨ts,s _ _ a,Paired.dI b λ_ _ z=>s.tup z⟩⟩
def uT (st:Str->List (Nat×Nat))(n:Str)(e:Nat×Nat):Str->List (Nat×Nat):=λz=>if z=n then st z++[e] else st z
def DP.more {ps:List (Str×Addr)}{st:Str->List (Nat×Nat)}{H:Hp}{d:Addr}(h:DP K ps st H d){p:Str×Addr}(hp:p∈ps){ts:List Addr}{t:Addr}{e:Nat×Nat}(a:H p.2=some (.lst (ts.map V.ref)))
  (b:Paired (λt (e:Nat×Nat)=>aQ K H t [.int (e.1:Int),.int (e.2:Int)]) ts (st p.1))(c:aQ K H t [.int (e.1:Int),.int (e.2:Int)]) :
  DP K ps (uT st p.1 e) (upd H p.2 (.lst (ts.map V.ref++[.ref t]))) d:=by
 have nd:d≠p.2:=λz=>by
  rcases h.hd with q | ⟨o,q⟩
  .rw [z,a] at q;cases q
  rw [z,a] at q;cases q
 refine⟨?_,h.n1,h.n2,λp' n6=>?_⟩
 .rcases h.hd with q | ⟨o,q⟩
  .exact .inl (by rw [aj nd];exact q)
  exact .inr ⟨o,by rw [aj nd];exact q⟩
 by_cases z:p'=p
 .rw [z];refine⟨ts++[t],by rw [ae,bF];rfl,?_⟩;have e1:uT st p.1 e p.1=st p.1++[e]:=ax rfl;rw [e1];exact gQ (Paired.dI b λ_ _ z=>aT a z) (aT a c)
 have n1:p'.1≠p.1:=λq=>z (by
  have w1:=gU ps h.n1 p' n6;have w2:=gU ps h.n1 p hp;rw [q,w2] at w1;injection w1 with w3;injection w3 with w4;exact Prod.ext q w4.symm)
 have n2:p'.2≠p.2:=λq=>by
  obtain⟨i,hi,ei⟩:=qQ.mp n6;obtain⟨j,hj,ej⟩:=qQ.mp hp;have I_:i=j:=by
   refine(uW (xs:=ps.map (·.2)) (h₀:=by simpa using hi) (h₁:=by simpa using hj) h.n2).mp ?_;rw [oR,oR,ei,ej];exact q
  subst I_;exact z (ei.symm.trans ej)
 obtain⟨fA,a',b'⟩:=h.lst p' n6;refine⟨fA,by rw [aj n2];exact a',?_⟩;have e1:uT st p.1 e p'.1=st p'.1:=az n1;rw [e1];exact Paired.dI b' λ_ _ z=>aT a z
def A5 (K:a9):Sp:=λvs H Q _=>∃(R:Addr)(rs:List Addr)(aa:List aw),vs=[.ref R]/\aI K H R (rs.map V.ref)/\bH K H rs aa/\aa.length<=1000/\(∀ru∈aa,ru.2.length<=8) /\
 ∀(d:Addr)(ps:List (Str×Addr))(st:Str->List (Nat×Nat))(bB:List (Str×Nat))(H':Hp),H d=none->aC H H'->H' d=some (.dK (ps.map jE))->DP K ps st H' d->ps.map (·.1)=hd aa->(∀p∈ps,H p.2=none)->wF aa bB->yl aa aa.length bB ->
  (∀n k j,n∈hd aa->((k,j)∈st n↔Oe aa (hd aa) (λz=>decide (z∈bB.map (·.1))) n k j))->Q (.ref d) H'
def iX:aK ["rules","empty","steps","number","rule","place","part","filled"] ["rules"] (av zc):=iq rfl rfl rfl rfl (by decide +kernel)
def Fh (F:g9 K "steps_with_like_rows" "steps_with_like_rows" zc f fd)(T:Txt mg)(GE:aB P w K mg base 1 "found_empties" ["rules"] (o_ K))(GH:aB P w K mg base 1 "heads_of" ["rules"] (iW K)):bN P w K mg base fj 2 f fd ["rules"] (A5 K):=by
 refine F.ok iX (λvs H Q E h=>?_) (λdU A outer s H vs Q E hr h=>?_)
 .obtain⟨R,rs,aa,rfl,_⟩:=h;rfl
 obtain⟨R,rs,aa,rfl,hR,b9,br,h8,q⟩:=h;have hu:=fR hr;refine⟨_,ai (aA (i:=1) iX.nd rfl (Or.inr rfl) (bD (dC rfl) rfl T.yD eY (ab (a8 GE hr rfl (ab (pv 0) ah)) ah)))
  (ai (aA (i:=2) iX.nd rfl (bx rfl) (bD (dC rfl) rfl T.yD eY (ab
   (bE ["name"] [] rfl (aZ (a8 GH hr rfl (ab (pv 0) ah))) (bp rfl rfl) (by decide +kernel) rfl (by decide +kernel)
    (λ_ _ _ _ _=>aq (i:=0) (show (["name"]:List Str).Nodup by decide +kernel) rfl (bx rfl)) (λ_ _ _ _ _=>bX)
    (λ_ _ _ _ _=>bC (ab (pv 0) (ab (bc ah) ah)))) ah)))
  (ai (bO bZ rfl (nQ rfl T.Jh (ab (pv 0) ah)) (gI rfl (aE (aq (i:=3) iX.nd rfl (bx rfl)) (aE (aq (i:=4) iX.nd rfl (bx rfl)) b8)))
   (ai (iz (iy:=7) ["place","part"] [(1,"empty")] iX.nd rfl rfl rfl (nO rfl T.Jh (ab (aF aN (pv 4) ao (λ_ _=>rfl)) ah)) (bp rfl rfl) (by decide +kernel) rfl (by decide +kernel)
    (λ_ _ _ _ _=>fI (n:=2) K rfl (aE (aq (i:=0) (show (["place","part","empty"]:List Str).Nodup by decide +kernel) rfl (bx rfl)) (aE (aq (i:=1) (show (["place","part","empty"]:List Str).Nodup by decide +kernel) rfl (bx rfl)) b8)))
    (λ_ _ _ _ _=>g_ (cY (dY hu (pv 1) (pv 2)))) (λ_ _ _ _ _=>pv 0))
   (ak (bO bZ rfl (nO rfl T.Jh (ab (aF aN (pv 4) ao (λ_ _=>rfl)) ah)) (gI rfl (aE (aq (i:=5) iX.nd rfl (bx rfl)) (aE (aq (i:=6) iX.nd rfl (bx rfl)) b8)))
    (ak (bw (PW.pt (iJ (cY (jM hu (pv 6) (pv 2))) (gE (aV (Cj hu) (pv 7) (bC (ab (bc ah) (ab (bc (ab (pv 5) ah)) ah))) rfl))))
     (ak (bW (fq eF fY fZ bJ (fJ hu (pv 2) (aF aN (pv 4) ao (λ_ _=>rfl)) (λ_ _=>rfl)) (ab (bC (ab (pv 3) (ab (pv 5) ah))) ah)))) aM)))))
   )
  (ak (aL (pv 2))))),?_⟩
 nofun
 have ll:=aY b9;refine⟨_,rfl,R,rs,aa,rfl,hR,b9,br,h8,λD1 B5 bB H1 f1 s1 e1 w1 emp C8=>?_⟩;have UD:Paired (λt (kv:aS×V)=>aQ K H1 t [kV kv.1,kv.2]) B5 (bB.map λp=>((Sum.inr p.1:aS),V.int (p.2:Int))):=cu w1 λ_ _ z=>z;refine⟨D1,B5,_,rfl,e1,UD,λe he=>?_⟩;have ekE:cJ (bB.map λp=>((Sum.inr p.1:aS),V.int (p.2:Int))) []=bB.map λp=>((Sum.inr p.1:aS),V.int (p.2:Int)):=oq _ [] (by
  rw [mQ,iF];have:=vX emp.nd;rw [iF] at this;exact this)
 rw [ekE];have CB:∀z,(bA (bB.map λp=>((Sum.inr p.1:aS),V.int (p.2:Int))) (Sum.inr z)).isSome=decide (z∈bB.map (·.1)):=λz=>by
  rw [mN,ff,decide_eq_true_iff,iF];have:(bB.map λp:Str×Nat=>(Sum.inr p.1:aS))=(bB.map (·.1)).map Sum.inr:=by rw [iF];rfl
  show _∈(bB.map λp:Str×Nat=>(Sum.inr p.1:aS))↔_;rw [this];exact df
 generalize (bB.map λp=>((Sum.inr p.1:aS),V.int (p.2:Int)))=kE at CB ⊢;have s2:=s1.trans (af he (.dK kE));have e2:upd H1 e (.dK kE) e=some (.dK kE):=ae;generalize upd H1 e (.dK kE)=H2 at s2 e2;refine⟨_,rfl,R,rs,aa,rfl,s2.seq hR,b9.same s2,br,λD2 H3 f3 s3 e3=>?_⟩;have FK:=hU (aa.map (·.1)) [];simp only [iU,au] at FK;refine⟨D2,rfl,⟨_,aI.of e3⟩,λD3 Ag=>sY (aI.of e3) ∅ Ag λts ps H4 s4 e4 m4 p4 l4 n4=>?_⟩;have n1:(ps.map (·.1)).Nodup:=by rw [m4];exact pO _ lK
 have FQ:Paired (λt (kv:aS×V)=>aQ K H4 t [kV kv.1,kv.2]) ts (ps.map jE):=cu p4 λ_ _ z=>z;refine⟨D3,ts,_,rfl,e4,FQ,λd qK=>?_⟩;have QI:cJ (ps.map jE) []=ps.map jE:=oq _ [] (by
  rw [mQ,nV];exact vX n1)
 rw [QI];have s5:=((s2.trans s3).trans s4).trans (af qK (.dK (ps.map jE)));have xf:=af qK (.dK (ps.map jE));have e5:upd H4 d (.dK (ps.map jE)) d=some (.dK (ps.map jE)):=ae;have QM:=xf _ _ (s4 _ _ (s3 _ _ e2));have yB:H d=none:=((s2.trans s3).trans s4).free qK;have S5:DP K ps (λ_=>[]) (upd H4 d (.dK (ps.map jE))) d:=⟨.inl e5,n1,n4,λp hp=>⟨[],xf _ _ (l4 p hp).1,.nil⟩⟩;have NV:∀p∈ps,H p.2=none:=λp hp=>(s2.trans s3).free (l4 p hp).2.1;generalize upd H4 d (.dK (ps.map jE))=H5 at s5 e5 QM S5;clear xf;have eb:(λz=>(bA kE (Sum.inr z)).isSome)=λz=>decide (z∈bB.map (·.1)):=funext CB;refine⟨_,rfl,R,_,rfl,s5.seq hR,?_⟩;refine kY (xs:=rs.map V.ref) (λi σ H6=>∃(st:Str->List (Nat×Nat))(y3 y4 y5 y6 y7:Option V),σ=[aP R,aP e,aP d,y3,y4,y5,y6,y7]/\aC H H6/\H6 e=some (.dK kE)/\H6 d=some (.dK (ps.map jE))/\DP K ps st H6 d /\
  (∀n,(st n).length<=8 * i)/\∀n k j,n∈hd aa->((k,j)∈st n↔k < i/\Oe aa (hd aa) (λz=>decide (z∈bB.map (·.1))) n k j))
  ⟨λ_=>[],none,none,none,none,none,rfl,s5,QM,e5,S5,by simp,by simp⟩ ?_ ?_ ?_
 .rintro i σ H6 _ ⟨st,y3,y4,y5,y6,y7,rfl,s6,_⟩;exact s6.seq hR
 .rintro i x σ H6 t ex ⟨st,y3,y4,y5,y6,y7,rfl,s6,MZ,Ku,S6,l6,c6⟩ ht
  ac_nf0
  rw [bh] at ex;obtain⟨r,er,rfl⟩:=cg.mp ex;obtain⟨ru,sP,p,v1,v2⟩:=b9.get er;have lG:=cf sP;have NS:=h8 ru lG;have li:=(bq.mp sP).1;have yq:=af ht (.tup [.int (i:Int),.ref r]);have Kh:aQ K (upd H6 t (.tup [.int (i:Int),.ref r])) t [.int (i:Int),.ref r]:=aQ.of ae;have s7:=s6.trans yq;have MY:=yq _ _ MZ;have Zq:=yq _ _ Ku;have S7:=S6.same yq;generalize upd H6 t (.tup [.int (i:Int),.ref r])=H7 at Kh s7 MY Zq S7;refine⟨t,_,rfl,Kh,rfl,_,_,rfl,_,_,rfl,rfl,?_⟩;refine⟨_,rfl,r,_,_,_,rfl,rfl,s7.tup v1,rfl,p,_,rfl,s7.tup v2,λD5 NR=>x9 rfl (s7.tup v2) ∅ MY NR λH8 Ny e8=>?_⟩;rw [eb] at e8;have s8:=s7.trans Ny;have ee8:=Ny _ _ MY;have Wd:=Ny _ _ Zq;have S8:=S7.same Ny;have nD5:∀p∈ps,p.2≠D5:=λp hp z=>by
   obtain⟨fA,a,_⟩:=S7.lst p hp;rw [z,NR] at a;cases a
  obtain⟨pn,xJ,yC⟩:∃pn∈ps,pn.1=ru.1:=by
   have:ru.1∈ps.map (·.1):=by rw [m4];exact(hJ _ _ _).mpr (.inr (jZ lG))
   obtain⟨pn,a,b⟩:=cP.mp this;exact⟨pn,a,b⟩
  refine⟨_,rfl,r,_,_,_,rfl,rfl,s8.tup v1,rfl,p,_,rfl,s8.tup v2,?_⟩;refine pK (xs:=ru.2.map V.str) (λj σ H9=>∃(st:Str->List (Nat×Nat))(y5 y6:Option V),σ=[aP R,aP e,aP d,some (.int (i:Int)),aP r,y5,y6,aP D5]/\aC H H9/\H9 e=some (.dK kE)/\H9 d=some (.dK (ps.map jE))/\DP K ps st H9 d /\
   H9 D5=some (.lst ((C4 (λz=>decide (z∈bB.map (·.1))) ru.2 ru.2.length).map V.int))/\(∀n,(st n).length<=8 * i+j)/\∀n k j',n∈hd aa->((k,j')∈st n↔(k < i\/(k=i/\j' < j))/\Oe aa (hd aa) (λz=>decide (z∈bB.map (·.1))) n k j'))
   ⟨st,_,_,rfl,s8,ee8,Wd,S8,e8,λn=>l6 n,λn k j' hn=>by rw [c6 n k j' hn];simp⟩ ?_ ?_ ?_
  .rintro j σ H9 _ ⟨st,y5,y6,rfl,s9,_⟩;exact s9.tup v2
  .rintro j x σ H9 t2 pL ⟨st,y5,y6,rfl,s9,Wb,M3,S9,e9,l9,c9⟩ jh
   ac_nf0
   rw [bh] at pL;obtain⟨z,ez,rfl⟩:=cg.mp pL;have lj:=(bq.mp ez).1;have xc:=af jh (.tup [.int (j:Int),.str z]);have F1:aQ K (upd H9 t2 (.tup [.int (j:Int),.str z])) t2 [.int (j:Int),.str z]:=aQ.of ae;have vR:=s9.trans xc;have wq:=xc _ _ Wb;have qv:=xc _ _ M3;have DM:=xc _ _ e9;have KU:=S9.same xc;generalize upd H9 t2 (.tup [.int (j:Int),.str z])=AK at F1 vR wq qv DM KU;have mem:(bA (ps.map jE) (Sum.inr z)).isSome=true↔z∈hd aa:=by rw [ff,nV,m4];exact df
   have j_:¬(z∈hd aa/\IV (λz=>decide (z∈bB.map (·.1))) ru.2 j=true)->∀n k j',n∈hd aa->((k,j')∈st n↔(k < i\/(k=i/\j' < j+1))/\Oe aa (hd aa) (λz=>decide (z∈bB.map (·.1))) n k j'):=λhn n k j' Vc=>by
    rw [c9 n k j' Vc];constructor
    .rintro⟨h1,h3⟩;exact⟨∅,h3⟩
    rintro⟨h1,h3⟩;refine⟨?_,h3⟩;by_cases c:k=i/\j'=j
    .obtain⟨Cb,z',a1,a2,a3,a4,a5⟩:=h3;rw [c.1,sP] at a1;cases a1;rw [c.2] at a5;rw [c.2,ez] at a3;cases a3;exact absurd ⟨a4,a5⟩ hn
    omega
   have Yh:∀n,(st n).length<=8 * i+(j+1):=λn=>by have:=l9 n;omega
   refine⟨t2,_,rfl,F1,rfl,_,_,rfl,_,_,rfl,rfl,?_⟩;refine⟨_,rfl,_,rfl,d,_,rfl,cy.k (k:=Sum.inr z) qv,_,rfl,?_⟩;refine bY (λc=>?_) (λc=>?_)
   .have hz:=mem.mp c;refine⟨_,rfl,o6,λl1 YK=>?_⟩;have Il:=af YK (.lst []);have HI:upd AK l1 (.lst []) l1=some (.lst []):=ae;have nl1:l1≠D5:=(ay DM YK).symm;generalize upd AK l1 (.lst [])=Dw at Il HI;refine⟨_,rfl,vi,λl2 tT=>?_⟩;have JP:=af tT (.lst [.int (j:Int)]);have KC:upd Dw l2 (.lst [.int (j:Int)]) l2=some (.lst [.int (j:Int)]):=ae;have Ud:l2≠D5:=(ay (Il _ _ DM) tT).symm;generalize upd Dw l2 (.lst [.int (j:Int)])=yi at JP KC;refine⟨kb,λt3 P1=>?_⟩;have Rv:=af P1 (.tup [.ref l1,.ref l2]);have ZV:aQ K (upd yi t3 (.tup [.ref l1,.ref l2])) t3 [.ref l1,.ref l2]:=aQ.of ae;generalize upd yi t3 (.tup [.ref l1,.ref l2])=BX at Rv ZV;have qo:=(Il.trans JP).trans Rv;refine⟨t3,D5,l1,l2,_,[],[(j:Int)],rfl,rfl,ZV,aI.of (qo _ _ DM),aI.of (Rv _ _ (JP _ _ HI)),aI.of (Rv _ _ KC),nl1,Ud,_,rfl,?_⟩;have G7:=KU.same qo;have Lu:=vR.trans qo;refine bY (λc2=>?_) (λc2=>?_)
    .obtain⟨Xm,an,bn⟩:=G7.lst pn xJ;have vn:=gU ps n1 pn xJ;rw [yC] at vn;have hg:cy BX d (.str ru.1) (some (.ref pn.2)):=by
      have:=cy.k (k:=Sum.inr ru.1) (qo _ _ qv);rw [vn] at this;exact this
     have ltn:=aY bn;have l9n:=l9 pn.1;refine⟨_,rfl,_,rfl,r,_,_,_,rfl,rfl,Lu.tup v1,rfl,d,_,rfl,hg,.inl ⟨rfl,_,aI.of an⟩,_,rfl,_,rfl,kb,λt4 CK=>?_⟩;have zu:=af CK (.tup [.int (i:Int),.int (j:Int)]);have ZU:aQ K (upd BX t4 (.tup [.int (i:Int),.int (j:Int)])) t4 [.int (i:Int),.int (j:Int)]:=aQ.of ae;generalize upd BX t4 (.tup [.int (i:Int),.int (j:Int)])=H14 at zu ZU;have Q6:=G7.same zu;have Js:=zu _ _ an;have WC:=Paired.dI bn λt' (e':Nat×Nat)(z:aQ K BX t' [.int (e'.1:Int),.int (e'.2:Int)])=>zu.tup z;refine⟨pn.2,_,_,rfl,rfl,Js,bK (by rw [au];omega),?_⟩;have WZ:=Q6.more (e:=(i,j)) xJ Js WC ZU;have ne1:e≠pn.2:=λz=>by have:=zu _ _ (qo _ _ wq);rw [z,Js] at this;cases this
     have ne2:d≠pn.2:=λz=>by have:=zu _ _ (qo _ _ qv);rw [z,Js] at this;cases this
     refine⟨uT st pn.1 (i,j),_,_,rfl,λb o hb=>?_,by rw [aj ne1];exact zu _ _ (qo _ _ wq),by rw [aj ne2];exact zu _ _ (qo _ _ qv),WZ,by rw [aj (nD5 pn xJ).symm];exact zu _ _ (qo _ _ DM),λn=>?_,λn k j' Vc=>?_⟩
     .rw [aj (λz=>by rw [z,NV pn xJ] at hb;cases hb)];exact zu _ _ (Lu b o hb)
     .have:=l9 n;unfold uT
      split
      .rw [bL];simp;omega
      omega
     have hit:Oe aa (hd aa) (λz=>decide (z∈bB.map (·.1))) ru.1 i j:=⟨ru,z,sP,rfl,ez,hz,c2⟩;have KO:=c9 n k j' Vc;unfold uT;by_cases cn:n=pn.1
     .rw [ax cn,cA,bU,KO];constructor
      .rintro(⟨h1,h3⟩ | h1)
       .exact⟨∅,h3⟩
       cases h1;exact⟨∅,by rw [cn,yC];exact hit⟩
      rintro⟨h1,h3⟩;by_cases cc:k=i/\j'=j
      .exact .inr (by rw [cc.1,cc.2])
      exact .inl ⟨∅,h3⟩
     rw [az cn,KO];constructor
     .rintro⟨h1,h3⟩;exact⟨∅,h3⟩
     rintro⟨h1,h3⟩;refine⟨?_,h3⟩;by_cases cc:k=i/\j'=j
     .obtain⟨Cb,z',a1,a2,_⟩:=h3;rw [cc.1,sP] at a1;cases a1;exact absurd (a2.symm.trans yC.symm) cn
     omega
    exact⟨st,_,_,rfl,Lu,qo _ _ wq,qo _ _ qv,G7,qo _ _ DM,Yh,j_ λ⟨_,h⟩=>c2 h⟩
   exact⟨st,_,_,rfl,vR,wq,qv,KU,DM,Yh,j_ λ⟨h,_⟩=>c (mem.mpr h)⟩
  rintro σ H9 ⟨st,y5,y6,rfl,s9,Wb,M3,S9,e9,l9,c9⟩;rw [au] at l9 c9;refine⟨st,_,_,_,_,_,rfl,s9,Wb,M3,S9,λn=>?_,λn k j' hn=>?_⟩
  .have:=l9 n;omega
  rw [c9 n k j' hn];constructor
  .rintro⟨h1 | ⟨h1,h2⟩,h3⟩
   .exact⟨∅,h3⟩
   exact⟨∅,h3⟩
  rintro⟨h1,h3⟩;refine⟨?_,h3⟩;by_cases c:k < i
  .exact .inl c
  refine .inr ⟨∅,?_⟩;obtain⟨Cb,z',a1,_,a3,_⟩:=h3;have:k=i:=by omega
  rw [this,sP] at a1;cases a1;exact(bq.mp a3).1
 rintro σ H6 ⟨st,y3,y4,y5,y6,y7,rfl,s6,MZ,Ku,S6,l6,c6⟩;rw [au,ll] at c6;refine⟨_,rfl,q d ps st bB H6 yB s6 Ku S6 m4 NV emp C8 λn k j hn=>?_⟩;rw [c6 n k j hn];constructor
 .exact λh=>h.2
 intro h;obtain⟨Cb,_,a1,_⟩:=id h;exact⟨(bq.mp a1).1,h⟩
end
end gK
namespace L2
open PySem
def cy.r {H:Hp}{a:Addr}{kvs:List (aS×V)}{k:aS}(e:Rd H a (.dK kvs)):cy H a (kV k) (bA kvs k):=.inl ⟨kvs,k,e,rfl,rfl⟩
end L2
namespace gK
open PySem L2 M11
section
def Down (aa:List aw) (names:List Str)(st:Str->List (Nat×Nat))(rk:Str->Nat):Prop:=∀n∈names,∀e∈st n,∃ru z,aa[e.1]?=some ru/\ru.2[e.2]?=some z/\z∈names/\rk z < rk n
def JG (K:a9):Sp:=λvs H Q _=>∃(R d:Addr)(rs:List Addr)(aa:List aw)(ps:List (Str×Addr))(st:Str->List (Nat×Nat))(name:Str)(rk:Str->Nat),vs=[.ref R,.ref d,.str name]/\aI K H R (rs.map V.ref)/\bH K H rs aa/\aa.length<=1000 /\
 DP K ps st H d/\ps.length<=1000/\name∈ps.map (·.1)/\Down aa (ps.map (·.1)) st rk/\∀(D:Addr)(H':Hp),H D=none->aC H H'->H' D=some (.lst [])->Q (.ref D) H'
structure DO (K:a9) (names:List Str)(rk:Str->Nat)(name:Str)(H H5:Hp)(D m:Addr)(mj:List Addr)(j5:List (Str×Addr)) (ms:List Str)(kvs:List (aS×V)):Prop where
 sm:aC H H5
 hD:H5 D=some (.lst (mj.map V.ref))
 hm:H5 m=some (.dK kvs)
 keys:kvs.map (·.1)=ms.map Sum.inr
 nd:ms.Nodup
 sub:∀x∈ms,x∈names
 wl:j5.length=ms.length+1
 wv:Paired (λt (e:Str×Addr)=>aQ K H5 t [.str e.1,.ref e.2]) mj j5
 we:∀e∈j5,e.1∈names/\rk e.1<=rk name/\∃xs,H5 e.2=some (.lst xs)/\xs.length<=j5.length/\e.2≠D
def DO.same {names:List Str}{rk:Str->Nat}{name:Str}{H H5 H6:Hp}{D m:Addr}{mj:List Addr}{j5:List (Str×Addr)}{ms:List Str}{kvs:List (aS×V)}(h:DO K names rk name H H5 D m mj j5 ms kvs)(s:aC H5 H6):DO K names rk name H H6 D m mj j5 ms kvs :=
 ⟨h.sm.trans s,s _ _ h.hD,s _ _ h.hm,h.keys,h.nd,h.sub,h.wl,Paired.dI h.wv λ_ _ z=>s.tup z,λe he=>let ⟨a,b,xs,c,d⟩:=h.we e he;⟨a,b,xs,s _ _ c,d⟩⟩
def DO.len {names:List Str}{rk:Str->Nat}{name:Str}{H H5:Hp}{D m:Addr}{mj:List Addr}{j5:List (Str×Addr)}{ms:List Str}{kvs:List (aS×V)}(h:DO K names rk name H H5 D m mj j5 ms kvs):mj.length=j5.length/\kvs.length=ms.length/\ms.length<=names.length:=by
 refine⟨aY h.wv,?_,gq _ _ h.nd h.sub⟩;have:=congrArg List.length h.keys;simpa using this
def DO.more {names:List Str}{rk:Str->Nat}{name z:Str}{H H5 H9:Hp}{D m t c:Addr}{mj:List Addr}{j5:List (Str×Addr)}{ms:List Str}{kvs:List (aS×V)}{xs:List V}(h:DO K names rk name H H5 D m mj j5 ms kvs)(fD:H D=none)(fm:H m=none)
  (hz:z∈names)(hr:rk z<=rk name)(hn:z∉ms)(s:aC (upd H5 m (.dK (bR kvs (Sum.inr z) (.bl true)))) H9)(ht:aQ K H9 t [.str z,.ref c])(hc:H9 c=some (.lst xs))(hx:xs.length<=j5.length+1)(nc:c≠D) :
  DO K names rk name H (upd H9 D (.lst (mj.map V.ref++[.ref t]))) D m (mj++[t]) (j5++[(z,c)]) (ms++[z]) (bR kvs (Sum.inr z) (.bl true)):=by
 have RD:D≠m:=λe=>by have:=h.hD;rw [e,h.hm] at this;cases this
 have Kk:H9 D=some (.lst (mj.map V.ref)):=s _ _ (by rw [aj RD];exact h.hD);have hm9:H9 m=some (.dK (bR kvs (Sum.inr z) (.bl true))):=s _ _ ae;refine⟨λb o hb=>?_,by rw [ae,bF];rfl,by rw [aj RD.symm];exact hm9,?_,?_,?_,?_,?_,?_⟩
 .rw [aj (λe=>by rw [e,fD] at hb;cases hb)];exact s _ _ (by rw [aj (λe=>by rw [e,fm] at hb;cases hb)];exact h.sm b o hb)
 .rw [iY (by rw [h.keys];exact λe=>hn (df.mp e)),h.keys,bF];rfl
 .refine ku.mpr ⟨h.nd,by simp,λa ha b hb e=>?_⟩;rw [bU.mp hb] at e;exact hn (e ▸ ha)
 .intro x UQ;rcases cA.mp UQ with e | e
  .exact h.sub x e
  rw [bU.mp e];exact hz
 .rw [bL,bL,h.wl];rfl
 .exact gQ (Paired.dI h.wv λ_ _ e=>aT Kk (s.tup (h_ h.hm e))) (aT Kk ht)
 intro e he;rw [bL];rcases cA.mp he with e' | e'
 .obtain⟨a,b,ys,c1,d1,n1⟩:=h.we e e';exact⟨a,b,ys,by rw [aj n1];exact s _ _ (by rw [aj (λq=>by rw [q,h.hm] at c1;cases c1)];exact c1),∅,n1⟩
 rw [bU.mp e'];exact⟨hz,hr,xs,by rw [aj nc];exact hc,hx,nc⟩
def ni:aK ["rules","steps","name","ways","met","at","way","number","place","part"] ["rules","steps","name"] (av Lj):=iq rfl rfl rfl rfl (by decide +kernel)
def LO (F:g9 K "way_back" "way_back" Lj f fd)(T:Txt mg):bN P w K mg base fj 1 f fd ["rules","steps","name"] (JG K):=by
 refine F.ok ni (λvs H Q E h=>?_) (λdU A outer s H vs Q E hr h=>?_)
 .obtain⟨R,d,rs,aa,ps,st,name,rk,rfl,_⟩:=h;rfl
 obtain⟨R,d,rs,aa,ps,st,name,rk,rfl,hR,b9,br,S,YF,F6,Vw,q⟩:=h;have hu:=fR hr;refine⟨_,ai (aA (i:=3) ni.nd rfl (bx rfl) (bc (ab (bC (ab (pv 2) (ab (bc ah) ah))) ah)))
  (ai (aA (i:=4) ni.nd rfl (bx rfl) ig)
  (ai (aA (i:=5) ni.nd rfl (bx rfl) ao)
  (ai (iK bZ (aV nU (pv 5) (aD aG rfl T.len cS (ab (pv 3) ah)) (bu _))
   (ai (aA (i:=6) ni.nd rfl (bx rfl) (aF aN (aF bo (pv 3) (pv 5) (λ_ _=>rfl)) ao (λ_ _=>rfl)))
   (ai (bO bZ rfl (aZ (fJ hu (pv 1) (aF aN (aF bo (pv 3) (pv 5) (λ_ _=>rfl)) ao (λ_ _=>rfl)) (λ_ _=>rfl))) (gI rfl (aE (aq (i:=7) ni.nd rfl (bx rfl)) (aE (aq (i:=8) ni.nd rfl (bx rfl)) b8)))
    (ai (aA (i:=9) ni.nd rfl (bx rfl) (aF aN (aF aN (aF bo (pv 0) (pv 7) (λ_ _=>rfl)) ao (λ_ _=>rfl)) (pv 8) (λ_ _=>rfl)))
    (ai (bw (aV ij (pv 9) (pv 2) (bu _)) (ak iL) aM)
    (ak (bw (cY (dY hu (pv 9) (pv 4)))
     (ai (iZ hu (pv 4) (pv 9) dH rfl) (ak (bW (fq eF fY fZ bJ (pv 3) (ab (bC (ab (pv 9) (ab (aX iM (pv 6) (bc (ab (bC (ab (pv 7) (ab (pv 8) ah))) ah))) ah))) ah))))) aM)))))
   (ak (LD (i:=5) ni.nd rfl (bx rfl) ao Mh)))))
  (ak (aL (bc ah)))))),?_⟩
 nofun
 have yw:(ps.map (·.1)).length=ps.length:=au _;refine⟨_,rfl,o6,λl0 RM=>?_⟩;have s1:=af RM (.lst []);have e1:upd H l0 (.lst []) l0=some (.lst []):=ae;generalize upd H l0 (.lst [])=H1 at s1 e1;refine⟨kb,λt0 UW=>?_⟩;have s2:=af UW (.tup [.str name,.ref l0]);have e2:aQ K (upd H1 t0 (.tup [.str name,.ref l0])) t0 [.str name,.ref l0]:=aQ.of ae;generalize upd H1 t0 (.tup [.str name,.ref l0])=H2 at s2 e2;refine⟨vi,λD hD=>?_⟩;have s3:=af hD (.lst [.ref t0]);have e3:upd H2 D (.lst [.ref t0]) D=some (.lst ([t0].map V.ref)):=ae;have nl0:l0≠D:=ay (s2 _ _ e1) hD;generalize upd H2 D (.lst [.ref t0])=H3 at s3 e3;intro m hm;have s4:=af hm (.dK []);have e4:upd H3 m (.dK []) m=some (.dK []):=ae;generalize upd H3 m (.dK [])=H4 at s4 e4;have fD:H D=none:=(s1.trans s2).free hD;have fm:H m=none:=((s1.trans s2).trans s3).free hm;have W0:DO K (ps.map (·.1)) rk name H H4 D m [t0] [(name,l0)] [] []:=⟨((s1.trans s2).trans s3).trans s4,s4 _ _ e3,e4,rfl,lK,by simp,rfl,.cons ((s3.trans s4).tup e2) .nil,λe he=>by
  rw [bU.mp he];exact⟨F6,aH _,[],s4 _ _ (s3 _ _ (s2 _ _ e1)),by simp,nl0⟩⟩
 refine⟨λmm σ H5=>∃(mj:List Addr)(j5:List (Str×Addr)) (ms:List Str)(kvs:List (aS×V)) (at_:Nat)(y6 y7 y8 y9:Option V),σ=[aP R,aP d,some (.str name),aP D,aP m,some (.int (at_:Int)),y6,y7,y8,y9]/\DO K (ps.map (·.1)) rk name H H5 D m mj j5 ms kvs /\
  at_<=j5.length/\mm=1002 - at_,⟨1002,[t0],[(name,l0)],[],[],0,none,none,none,none,rfl,W0,by simp,rfl⟩,?_⟩
 rintro mm σ H5 ⟨mj,j5,ms,kvs,at_,y6,y7,y8,y9,rfl,W,hat,rfl⟩;obtain⟨lw,lk,lm⟩:=W.len;have aac:=W.wl;refine⟨_,rfl,_,rfl,D,_,rfl,.inl (aI.of W.hD),_,_,rfl,rfl,_,rfl,?_⟩;refine bY (λc=>?_) (λc=>?_)
 .have c':=dq c;rw [au,lw] at c';have ke:at_ < j5.length:=by omega
  obtain⟨n,l,en⟩:∃n l,j5[at_]?=some (n,l):=⟨(j5[at_]).1,(j5[at_]).2,b_ ke⟩;obtain⟨t1,et1,NL⟩:=Paired.at_ W.wv at_ (n,l) en;have Z6:jR (mj.map V.ref) (at_:Int)=some (.ref t1):=bS (by rw [bh,et1];rfl);obtain⟨hn,hrn,xs,hl,hxl,LY⟩:=W.we (n,l) (cf en);dsimp only at hn hrn hl LY;obtain⟨pn,xJ,yC⟩:=cP.mp hn;have vn:=gU ps S.n1 pn xJ;rw [yC] at vn;obtain⟨Xm,an,bn⟩:=S.lst pn xJ;rw [yC] at bn;refine⟨λσ H5=>∃(mj:List Addr)(j5:List (Str×Addr)) (ms:List Str)(kvs:List (aS×V))(y6 y7 y8 y9:Option V),σ=[aP R,aP d,some (.str name),aP D,aP m,some (.int ((at_+1:Nat):Int)),y6,y7,y8,y9]/\DO K (ps.map (·.1)) rk name H H5 D m mj j5 ms kvs/\at_+1<=j5.length,?_,?_⟩
  .rintro σ H6 ⟨mj,j5,ms,kvs,y6,y7,y8,y9,rfl,W2,h2⟩;exact⟨1002 - (at_+1),∅,mj,j5,ms,kvs,at_+1,_,_,_,_,rfl,W2,h2,rfl⟩
  refine⟨_,rfl,_,rfl,D,_,_,_,rfl,rfl,aI.of W.hD,Z6,t1,_,_,_,rfl,rfl,NL,rfl,?_⟩;have hg:cy H5 d (.str n) (some (.ref pn.2)):=by
   have:=cy.r (k:=Sum.inr n) (Rd.same S.hd W.sm);rw [vn] at this;exact this
  refine⟨_,rfl,_,rfl,_,rfl,D,_,_,_,rfl,rfl,aI.of W.hD,Z6,t1,_,_,_,rfl,rfl,NL,rfl,d,_,rfl,hg,pn.2,rfl,⟨_,aI.of (W.sm _ _ an)⟩,?_⟩;refine cC (xs:=Xm.map V.ref) (λi σ H6=>∃(mj:List Addr)(j5:List (Str×Addr)) (ms:List Str)(kvs:List (aS×V))(y7 y8 y9:Option V),σ=[aP R,aP d,some (.str name),aP D,aP m,some (.int (at_:Int)),aP l,y7,y8,y9]/\DO K (ps.map (·.1)) rk name H H6 D m mj j5 ms kvs /\
   at_+1<=j5.length/\∃e∈j5,e.2=l) ⟨mj,j5,ms,kvs,_,_,_,rfl,W,ke,(n,l),cf en,rfl⟩ ?_ ?_ ?_
  .rintro i σ H6 _ ⟨mj,j5,ms,kvs,y7,y8,y9,rfl,W2,_⟩;exact aI.of (W2.sm _ _ an)
  .rintro i x σ H6 ex ⟨mj,j5,ms,kvs,y7,y8,y9,rfl,W2,h2,e0,Vt,Wc⟩
   ac_nf0
   rw [bh] at ex;obtain⟨ti,Zb,rfl⟩:=cg.mp ex;have lbn:=aY bn;have lti:=(bq.mp Zb).1;obtain⟨⟨k,j⟩,Zm⟩:∃e,(st n)[i]?=some e:=⟨(st n)[i]'∅,b_ ∅⟩;obtain⟨ti',QF,hti⟩:=Paired.at_ bn i (k,j) Zm;rw [Zb] at QF;cases QF;obtain⟨ru,z,er,ez,hz,hrk⟩:=Vw n hn (k,j) (cf Zm);obtain⟨r,Jg,p,v1,v2⟩:=Paired.at_ b9 k ru er;have atr:jR (rs.map V.ref) (k:Int)=some (.ref r):=bS (by rw [bh,Jg];rfl);have WN:jR (ru.2.map V.str) (j:Int)=some (.str z):=bS (by rw [bh,ez];rfl);obtain⟨lw2,Hj,lm2⟩:=W2.len;have X8:=W2.wl;refine⟨ti,_,rfl,W2.sm.tup hti,rfl,_,_,rfl,_,_,rfl,rfl,?_⟩;refine⟨_,rfl,_,rfl,R,_,_,_,rfl,rfl,W2.sm.seq hR,atr,r,_,_,_,rfl,rfl,W2.sm.tup v1,rfl,_,rfl,p,_,_,_,rfl,rfl,W2.sm.tup v2,WN,?_⟩;refine⟨_,rfl,_,rfl,rfl,_,rfl,?_⟩;have nz:z≠name:=λe=>by rw [e] at hrk;omega
   refine bY (λc=>absurd (dq c) (λe=>nz (by injection e))) (λ_=>?_);have mem:(bA kvs (Sum.inr z)).isSome=true↔z∈ms:=by rw [ff,W2.keys];exact df
   refine⟨_,rfl,_,rfl,m,_,rfl,cy.k (k:=Sum.inr z) W2.hm,_,rfl,?_⟩;refine bY (λc=>?_) (λc=>?_)
   .have nm:z∉ms:=λh=>by rw [mem.mpr h] at c;exact absurd c (by decide)
    refine⟨_,rfl,_,rfl,m,_,rfl,pU.k (k:=Sum.inr z) W2.hm (bK ∅),?_⟩;obtain⟨_,_,Dy,tT,aah,Ud⟩:=W2.we e0 Vt;rw [Wc] at tT Ud;have RD:D≠m:=λe=>by have:=W2.hD;rw [e,W2.hm] at this;cases this
    have nlm:l≠m:=λe=>by rw [e,W2.hm] at tT;cases tT
    have MD:upd H6 m (.dK (bR kvs (Sum.inr z) (.bl true))) D=some (.lst (mj.map V.ref)):=by rw [aj RD];exact W2.hD
    have hlu:upd H6 m (.dK (bR kvs (Sum.inr z) (.bl true))) l=some (.lst Dy):=by rw [aj nlm];exact tT
    refine⟨_,rfl,.inl ⟨rfl,_,aI.of MD⟩,_,rfl,_,rfl,_,rfl,_,rfl,kb,λt4 CK=>?_⟩;have XC:=af CK (.tup [.int (k:Int),.int (j:Int)]);generalize upd (upd H6 m (.dK (bR kvs (Sum.inr z) (.bl true)))) t4 (.tup [.int (k:Int),.int (j:Int)])=H7 at XC;refine⟨vi,λl4 hl4=>?_⟩;have XB:=af hl4 (.lst [.ref t4]);have ZT:upd H7 l4 (.lst [.ref t4]) l4=some (.lst [.ref t4]):=ae;generalize upd H7 l4 (.lst [.ref t4])=H8 at XB ZT;have NA:=XC.trans XB;refine⟨l,l4,Dy,[.ref t4],rfl,rfl,NA _ _ hlu,ZT,fits (by simp;omega),λc0 RR=>?_⟩;have Xz:=af RR (.lst (Dy++[.ref t4]));have ZS:upd H8 c0 (.lst (Dy++[.ref t4])) c0=some (.lst (Dy++[.ref t4])):=ae;have nc0:c0≠D:=(ay (NA _ _ MD) RR).symm;generalize upd H8 c0 (.lst (Dy++[.ref t4]))=H9 at Xz ZS;refine⟨kb,λt5 P0=>?_⟩;have Tv:=af P0 (.tup [.str z,.ref c0]);have ZQ:aQ K (upd H9 t5 (.tup [.str z,.ref c0])) t5 [.str z,.ref c0]:=aQ.of ae;generalize upd H9 t5 (.tup [.str z,.ref c0])=AK at Tv ZQ;have sA:=(NA.trans Xz).trans Tv;refine⟨D,_,_,rfl,rfl,sA _ _ MD,bK (by rw [au];omega),?_⟩;exact⟨mj++[t5],j5++[(z,c0)],ms++[z],_,_,_,_,rfl,W2.more fD fm hz ∅ nm sA ZQ (Tv _ _ ZS) (by rw [bL];simp;omega) nc0,by rw [bL];omega,e0,jl _ Vt,Wc⟩
   exact⟨mj,j5,ms,kvs,_,_,_,rfl,W2,h2,e0,Vt,Wc⟩
  rintro σ H6 ⟨mj,j5,ms,kvs,y7,y8,y9,rfl,W2,h2,_⟩;exact⟨_,rfl,_,_,rfl,rfl,mj,j5,ms,kvs,_,_,_,_,rfl,W2,h2⟩
 refine⟨o6,λD9 Kk=>q D9 _ (W.sm.free Kk) (W.sm.trans (af Kk _)) ae⟩
end
end gK
namespace L2
open PySem PySem.Spec PyProof.Rows
section
variable {prog:Program}{w:World}{A:Around}{E:Value->Shared->Prop}{s:Shared}
def yf (a b c:Value):argsOk "min" ⟨[a],[("key",b),("default",c)]⟩:=by unfold argsOk;kernel_rfl
def tW {l:Addr}{kf dv:Value}{Q:Value->Shared->Prop}(hh:A.handled=none)(hl:s.heap.IsList l #[])(h:∀h' tk,(∀b o,s.heap.get? b=some o->h'.get? b=some o)->Q dv { s with heap:=h',toks:=tk }) :
  wpAny (model prog w) A (call (.builtin "min") [.ref l] [("key",kf),("default",dv)]) Q E s:=by
 have F6:(toString "min" ++ toString ".loop":String) = "min.loop" := by decide
 refine wpAny_call (codeAny_call_builtin F.plain_min F.entry_min ?_);have core:wpAny (model prog w) A.in1 (Builtin.«min» ⟨[.ref l],[("key",kf),("default",dv)]⟩) (λfin s'=>match fin with
   | .done f=>(match (Except.ok f:Result) with | .ok (.ret v)=>Q v s' | .ok _=>False | .error e=>E e s')
   | .again c'=>c'.quiet=true/\codeAny (model prog w) A c' (λr s'=>match r with | .ok (.ret v)=>Q v s' | .ok _=>False | .error e=>E e s') s') E s:=by
  show wpAny _ A.in1 (Builtin.Builtins.bindParams "min" ["key","default"] 0 ⟨[],[("key",kf),("default",dv)]⟩ >>= _) _ _ s;refine ar (wpAny_of_eq (show Builtin.Builtins.bindParams "min" ["key","default"] 0 ⟨[],[("key",kf),("default",dv)]⟩=pure [some kf,some dv] from rfl) ?_);refine ar (aR ?_);refine ar (oQ hl ?_);refine ar (iV ?_);rw [F6];obtain⟨ol,h1,h2⟩:=id hl;generalize hG:s.heap.push { cls:=.type "list_iterator",data:=.fields #[.ref l,.int 0 0] }=G;have k1:∀b o,s.heap.get? b=some o->G.get? b=some o:=λb o e=>by rw [<-hG];exact bI _ e
  have hi:G.get? s.heap.objs.size=some { cls:=.type "list_iterator",data:=.fields #[.ref l,.int 0 0] }:=by rw [<-hG];exact cV _ rfl
  refine aR ⟨kC F.plain_min_loop _,me F.entry_min_loop ?_⟩;rw [qP F.plain_min_loop _];show wpAny _ A.in1 (seqItems? (.ref G.objs.size) >>= _) _ _ _;refine ar (jk (cV _ rfl) rfl ?_);show wpAny _ A.in1 (tryCatch (pyNext (.ref s.heap.objs.size)) _ >>= _) _ _ _;refine ar (wpAny_tryCatch (u7 (show A.in1.handled=none from hh) ⟨_,bI _ hi,rfl,rfl⟩ ⟨ol,bI _ (k1 _ _ h1),h2⟩ (by simp) λh' eb=>?_));refine ar (i_ (aR ?_));exact h h' _ λb o e=>eb b o (bM (ba e)) (bI _ (k1 b o e))
 simp only [checkBuiltinCall,F.kind_min];cases U1:Manifest.signature? "min" with
 | none=>exact aR core
 | some sig =>
  have VA:Bind.checkArgs "min" sig ⟨[.ref l],[("key",kf),("default",dv)]⟩=pure ():=by have:=yf (.ref l) kf dv;simpa only [argsOk,U1] using this
  simp only [VA];exact aR core
end
def OC (K:a9)(t:TA)(td:TE):TE:=λσ H Q=>t σ H λvs H1=>td σ H1 λdv H2=>∃a,vs=[.ref a]/\aI K H2 a []/\Q dv H2
def Iv {X:Cx}{p pos lp UD FQ:Pos}{e e2:Expr}{t:TA}{td:TE}(hc:X.calm=true)(hg:Gl X "min")(hm:X.mg "min"=none)(Vm:Gl X "len")(Ve:X.mg "len"=none)(ha:PA X [e] t)(hd:PE X e2 td)
  (he:backTo pos (starEach [e] X.env)=(false,eval e X.env)::backTo pos (starEach [] X.env):=by rfl)(hp:(backTo pos (starEach [e] X.env)).any (·.1)=false:=by rfl) :
  PE X (.Call (.Name "min" p) [e] [⟨some "key",.Name "len" lp,UD⟩,⟨some "default",e2,FQ⟩] pos) (OC X.K t td):=by
 intro ag s σ H Q I h;refine mT (iQ I hg hm boot_min ?_);refine callWith_kw (cI (ha pos ag s σ H _ I h) λus s1 ⟨vs,H1,I1,r1,q1⟩=>kws_cons (iQ I1 Vm Ve cS (kws_cons (cI (hd ag s1 σ H1 _ I1 q1) λu2 s2 ⟨dv,H2,I2,r2,a,ev,hs,q⟩=>kws_nil ?_)))) he hp rfl rfl;subst ev;obtain⟨u,rfl,rx⟩:=vals1 r1;cases (show u=Value.ref a from rx);obtain⟨aU,rv,pl,hz⟩:=I2.list hs;cases rv;exact tW (I2.ok.hd hc) pl.isList λh' tk kk=>⟨dv,H2,I2.kept (t':=tk) kk,r2,q⟩
open PySem
def Dk {K:a9}{H:Hp}{p D:Addr}{ls:List Addr}{σ:St}{x:Str}{Qp:Hp->Prop}(hp:H p=some (.lst (ls.map V.ref)))(hl:∀l∈ls,H l=some (.lst []))(hD:H D=none)(q:∀H2,aC H H2->H2 D=some (.lst [])->Qp H2) :
  ∃W:Nat->Nat->List V->St->Hp->Prop,(∃m,W 0 m [] (eQ [x] [] σ) (upd H D (.lst []))) /\
 ∀i m ys σ' H,W i m ys σ' H->((j9 K p).stop i H/\Qp H)\/((j9 K p).go i H/\∃m',m' < m/\∀x H',(j9 K p).mZ i H x H'->dP 0 x σ' H' λσ2 H2=>gW 0 σ2 H2 λx H'=>∃k,G6 K x H' k/\(λb H3 =>
  if b=true then gW 0 σ2 H3 λy H4=>H4 D=some (.lst ys)/\ys.length < sizeLine/\W (i+1) m' (ys++[y]) σ2 (upd H4 D (.lst (ys++[y]))) else W (i+1) m' ys σ2 H3) k H'):=by
 refine cD (tif:=λσ H Q=>gW 0 σ H λx H'=>∃k,G6 K x H' k/\Q k H') (xs:=ls.map V.ref) (λi ys σ2 H5=>ys=[]/\(∃y0,σ2=[y0])/\aC H H5/\H5 D=some (.lst [])) ⟨rfl,⟨none,rfl⟩,af hD _,ae⟩ (λi ys σ2 H5 _ h=>aI.of (h.2.2.1 _ _ hp)) (λi x ys σ2 H5 ex h=>?_) (λys σ2 H5 h=>?_)
 .obtain⟨rfl,⟨y0,rfl⟩,s5,e5⟩:=h;rw [bh] at ex;obtain⟨l,el,rfl⟩:=cg.mp ex;refine goN ?_;refine⟨_,rfl,false,.inl ⟨[],aI.of (s5 _ _ (hl l (cf el))),rfl⟩,?_⟩;refine c_ ?_;exact⟨rfl,⟨_,rfl⟩,s5,e5⟩
 obtain⟨rfl,_,s5,e5⟩:=h;exact q H5 s5 e5
end L2
namespace gK
open PySem L2 M11
section
def G9 (aa:List aw)(rk:Str->Nat):Prop:=∀bB,wF aa bB->yl aa aa.length bB->∀n k j,Oe aa (hd aa) (λz=>decide (z∈bB.map (·.1))) n k j->∀ru z,aa[k]?=some ru->ru.2[j]?=some z->rk z < rk n
def El (K:a9):Sp:=λvs H Q _=>∃(R:Addr)(rs:List Addr)(aa:List aw)(rk:Str->Nat),vs=[.ref R]/\aI K H R (rs.map V.ref)/\bH K H rs aa/\aa.length<=1000/\(∀ru∈aa,ru.2.length<=8)/\G9 aa rk /\
 ∀(D:Addr)(H':Hp),H D=none->aC H H'->H' D=some (.lst [])->Q (.ref D) H'
def yX:aK ["rules","steps","loops"] ["rules"] (av ED):=iq rfl rfl rfl rfl (by decide +kernel)
def II (F:g9 K "find_loop" "find_loop" ED f fd)(T:Txt mg)(GS:aB P w K mg base 2 "steps_with_like_rows" ["rules"] (A5 K))(GW:aB P w K mg base 1 "way_back" ["rules","steps","name"] (JG K)):bN P w K mg base fj 3 f fd ["rules"] (El K):=by
 refine F.ok yX (λvs H Q E h=>?_) (λdU A outer s H vs Q E hr h=>?_)
 .obtain⟨R,rs,aa,rk,rfl,_⟩:=h;rfl
 obtain⟨R,rs,aa,rk,rfl,hR,b9,br,h8,hnl,q⟩:=h;refine⟨_,ai (aA (i:=1) yX.nd rfl (Or.inr rfl) (a8 GS hr rfl (ab (pv 0) ah)))
  (ai (iz (iy:=2) ["name"] [(0,"rules"),(1,"steps")] yX.nd rfl rfl rfl (Bo (pv 1)) (bp rfl rfl) (by decide +kernel) rfl (by decide +kernel)
   (λ_ _ _ _ _=>aq (i:=0) (show (["name","rules","steps"]:List Str).Nodup by decide +kernel) rfl (bx rfl)) (λ_ _ _ _ _=>bX)
   (λ_ _ _ _ _=>a8 (GW.mono (by decide:1<=2)) hr rfl (ab (pv 1) (ab (pv 2) (ab (pv 0) ah)))))
  (ak (aL (Iv rfl rfl T.min rfl T.len (ab (bE ["loop"] [] rfl (aZ (pv 2)) (bp rfl rfl) (by decide +kernel) rfl (by decide +kernel)
   (λ_ _ _ _ _=>aq (i:=0) (show (["loop"]:List Str).Nodup by decide +kernel) rfl (bx rfl)) (λ_ _ _ _ _=>g_ (Ce K (pv 0) (λ_=>rfl))) (λ_ _ _ _ _=>pv 0)) ah) (bc ah))))),?_⟩
 nofun
 refine⟨_,rfl,R,rs,aa,rfl,hR,b9,br,h8,λd ps st bB H1 fd1 s1 e1 S1 m1 NV emp C8 hits=>?_⟩;have lps:ps.length<=1000:=by
  have h1:=congrArg List.length m1;have h2:=hU (aa.map (·.1)) [];simp only [iU,au] at h2;rw [au] at h1;have h3:(hd aa).length=(tL [] (aa.map (·.1))).length:=rfl;omega
 have Vw:Down aa (ps.map (·.1)) st rk:=λn hn e he=>by
  rw [m1] at hn ⊢;have hit:=(hits n e.1 e.2 hn).mp he;obtain⟨ru,z,er,_,ez,hz,_⟩:=id hit;exact⟨ru,z,er,ez,hz,hnl bB emp C8 n e.1 e.2 hit ru z er ez⟩
 refine⟨_,rfl,d,_,rfl,e1,λo D hD=>?_⟩;have T_:∀p∈ps,p.2≠d:=λp hp z=>by
  obtain⟨ts,a,_⟩:=S1.lst p hp;rw [z,e1] at a;cases a
 have s2:aC H (upd H1 d (.ki o (.dK (ps.map jE)))):=λb u hb=>by
  rw [aj (λz=>by rw [z,fd1] at hb;cases hb)];exact s1 b u hb
 have S2:DP K ps st (upd H1 d (.ki o (.dK (ps.map jE)))) d:=⟨.inr ⟨o,ae⟩,S1.n1,S1.n2,λp hp=>by
  obtain⟨ts,a,b⟩:=S1.lst p hp;exact⟨ts,by rw [aj (T_ p hp)];exact a,Paired.dI b λ_ _ z=>h_ e1 z⟩⟩
 have e2:upd H1 d (.ki o (.dK (ps.map jE))) d=some (.ki o (.dK (ps.map jE))):=ae;generalize upd H1 d (.ki o (.dK (ps.map jE)))=H2 at hD s2 S2 e2 ⊢;refine sZ (λi ys σ2 H3=>∃ls:List Addr,ys=ls.map V.ref/\ls.length=i/\(∀l∈ls,H3 l=some (.lst [])/\l≠D)/\(∃y0,σ2=[y0,aP R,aP d])/\aC H2 H3/\H3 D=some (.lst ys))
  ⟨[],rfl,rfl,by simp,⟨none,rfl⟩,af hD _,ae⟩ (λi ys σ2 H3 _ h=>?_) (λi kv ys σ2 H3 ex h=>?_) (λys σ2 H3 h=>?_)
 .obtain⟨_,_,_,_,_,sm,_⟩:=h;exact sm _ _ e2
 .obtain⟨ls,rfl,YJ,hl,⟨y0,rfl⟩,sm,jf⟩:=h;rw [bh] at ex;obtain⟨p,ep,rfl⟩:=cg.mp ex;have hp:=cf ep;have li:=(bq.mp ep).1;refine goN (yy ?_);have s3:=s2.trans sm;refine⟨_,rfl,_,rfl,_,rfl,R,d,rs,aa,ps,st,p.1,rk,rfl,s3.seq hR,b9.same s3,br,S2.same sm,lps,jZ hp,Vw,λD4 H4 f4 s4 e4=>?_⟩;have DL:=s4 _ _ jf;have X5:D4≠D:=λz=>by rw [z,jf] at f4;cases f4
  refine⟨DL,bK (by rw [au];omega),ls++[D4],by rw [bF];rfl,by rw [bL,YJ];rfl,λl Vh=>?_,⟨_,rfl⟩,λb u hb=>?_,ae⟩
  .rcases cA.mp Vh with h | h
   .obtain⟨a1,a2⟩:=hl l h;exact⟨by rw [aj a2];exact s4 _ _ a1,a2⟩
   rw [bU.mp h];exact⟨by rw [aj X5];exact e4,X5⟩
  rw [aj (λz=>by rw [z,hD] at hb;cases hb)];exact s4 _ _ (sm b u hb)
 obtain⟨ls,rfl,YJ,hl,_,sm,jf⟩:=h;have s3:=s2.trans sm;refine⟨_,rfl,D,rfl,⟨_,aI.of jf⟩,λD5 NR=>?_⟩;refine Dk jf (λl Vh=>(hl l Vh).1) NR λH5 s5 e5=>?_;refine⟨o6,λD6 VN=>⟨D5,rfl,aI.of (af VN _ _ _ e5),?_⟩⟩;exact q D6 _ ((s3.trans s5).free VN) ((s3.trans s5).trans (af VN _)) ae
end
end gK
namespace L2
open PySem
def AN {K:a9}{T:Addr}{pos:Pos}{qu:Str}{H H':Hp}{a:Addr}{xs:List V}(s:dZ T H H')(t:Tab T pos qu H)(h:aQ K H a xs):aQ K H' a xs:=by
 obtain⟨ps,b,_⟩:=t;rcases h with (h | ⟨u,h⟩) | h
 .exact .inl (.inl (s _ _ (λz=>by rw [z,b] at h;cases h) h))
 .exact .inl (.inr ⟨u,s _ _ (λz=>by rw [z,b] at h;cases h) h⟩)
 exact .inr h
def Bi {K:a9}{T:Addr}{pos:Pos}{qu:Str}{H H':Hp}{a:Addr}{xs:List V}(s:dZ T H H')(t:Tab T pos qu H)(h:aI K H a xs):aI K H' a xs:=by
 obtain⟨ps,b,_⟩:=t;rcases h with (h | ⟨u,h⟩) | h
 .exact .inl (.inl (s _ _ (λz=>by rw [z,b] at h;cases h) h))
 .exact .inl (.inr ⟨u,s _ _ (λz=>by rw [z,b] at h;cases h) h⟩)
 exact .inr h
def AQ {T T':Addr}{pos pos':Pos}{qu Hg:Str}{H H':Hp}(s:dZ T H H')(t:Tab T pos qu H)(h:Tab T' pos' Hg H)(n:T'≠T):Tab T' pos' Hg H':=by
 obtain⟨ps,b,_⟩:=t;obtain⟨JU,a,o,c⟩:=h;refine⟨JU,s _ _ n a,o,c.imp id ?_⟩;rintro⟨c',e,g⟩;exact⟨c',e,s _ _ (λz=>by rw [z,b] at g;cases g) g⟩
def sW {K:a9}{H:Hp}{p D:Addr}{zs:List Str}{σ:St}{js:List (Nat×Str)}{cs:List (Option V)}{tif:TT}{te:TE}{Qp:Hp->Prop}(hσ:eQ ["name"] js σ=none::cs)(hp:aI K H p (zs.map V.str))(hD:H D=none)
  (ht:∀z∈zs,∀H2 Q,aC H H2->Q false H2->tif (some (.str z)::cs) H2 Q)(q:∀H2,aC H H2->H2 D=some (.lst [])->Qp H2) :
  ∃W:Nat->Nat->List V->St->Hp->Prop,(∃m,W 0 m [] (eQ ["name"] js σ) (upd H D (.lst []))) /\
 ∀i m ys σ' H,W i m ys σ' H->((j9 K p).stop i H/\Qp H)\/((j9 K p).go i H/\∃m',m' < m/\∀x H',(j9 K p).mZ i H x H'->dP 0 x σ' H' λσ2 H2=>tif σ2 H2 λb H3 =>
  if b=true then te σ2 H3 λy H4=>H4 D=some (.lst ys)/\ys.length < sizeLine/\W (i+1) m' (ys++[y]) σ2 (upd H4 D (.lst (ys++[y]))) else W (i+1) m' ys σ2 H3):=by
 refine cD (xs:=zs.map V.str) (λi ys σ2 H5=>ys=[]/\(∃y0,σ2=y0::cs)/\aC H H5/\H5 D=some (.lst [])) ⟨rfl,⟨none,hσ⟩,af hD _,ae⟩ (λi ys σ2 H5 _ h=>h.2.2.1.seq hp) (λi x ys σ2 H5 ex h=>?_) (λys σ2 H5 h=>?_)
 .obtain⟨rfl,⟨y0,rfl⟩,s5,e5⟩:=h;rw [bh] at ex;obtain⟨z,ez,rfl⟩:=cg.mp ex;refine goN ?_;refine ht z (cf ez) H5 _ s5 ?_;refine c_ ?_;exact⟨rfl,⟨_,rfl⟩,s5,e5⟩
 obtain⟨rfl,_,s5,e5⟩:=h;exact q H5 s5 e5
end L2
namespace gK
open PySem L2 M11
section
structure Good (aa:List aw)(rk:Str->Nat)(b:Str->Int):Prop where
 least:∀g,eI M11.bl aa (yz aa) g->i9 M11.bl aa g->∀h∈hd aa,∃n,g h=some n/\n<=60
 met:∀lR ms,aa[0]?=some lR->lR.1∈ms->G_ aa aa.length ms->∀h∈hd aa,h∈ms
 loop:G9 aa rk
 Sn:yn aa b
 most:∀h∈hd aa,b h<=60
def lZ (T1 T2:Addr)(H H':Hp):Prop:=∀b o,b≠T1->b≠T2->H b=some o->H' b=some o
def rH (K:a9)(T1 T2:Addr):Sp:=λvs H Q _=>∃(R S:Addr)(rs ss:List Addr)(aa str:List aw)(rk:Str->Nat)(b:Str->Int),vs=[.ref R,.ref S]/\aI K H R (rs.map V.ref)/\bH K H rs aa/\aa.length<=1000/\(∀ru∈aa,ru.2.length<=8)/\aa≠[] /\
 aI K H S (ss.map V.ref)/\bH K H ss str/\str.length<=1000/\(∀ru∈str,ru.2.length<=8)/\(str.flatMap (·.2)).Nodup/\Good aa rk b/\Tab T1 r_.2.2.2 yr H/\Tab T2 z8.2.2.2 J3 H/\T1≠T2 /\
 ∀H',lZ T1 T2 H H'->Tab T1 r_.2.2.2 yr H'->Tab T2 z8.2.2.2 J3 H'->Q .d6 H'
def ic:aK ["rules","strengths","least","endless","met","unmet","steps","greatest","vast"] ["rules","strengths"] (av vI):=iq rfl rfl rfl rfl (by decide +kernel)
def Cp {T1 T2:Addr}{tm:Tok}(F:g9 K "refuse_faults" "refuse_faults" vI f fd)(T:Txt mg)(hM:mg "MOST_RULES"=some (.int 60 tm))(GT:aB P w K mg base 1 "refuse_twice" ["strengths"] (A4 K))(GL:aB P w K mg base 3 "least_sizes" ["rules"] (qB K T1))
  (GH:aB P w K mg base 1 "heads_of" ["rules"] (iW K))(GM:aB P w K mg base 1 "names_met" ["rules"] (JJ K))(GF:aB P w K mg base 3 "find_loop" ["rules"] (El K))(GG:aB P w K mg base 3 "greatest_empty_sizes" ["rules"] (vq K T2)) :
  bN P w K mg base fj 4 f fd ["rules","strengths"] (rH K T1 T2):=by
 refine F.ok ic (λvs H Q E h=>?_) (λdU A outer s H vs Q E hr h=>?_)
 .obtain⟨R,S,rs,ss,aa,str,rk,b,rfl,_⟩:=h;rfl
 obtain⟨R,S,rs,ss,aa,str,rk,b,rfl,hR,b9,br,h8,DK,hS,RI,UX,U4,U3,gd,Jb,RV,nT,q⟩:=h;have hu:=fR hr;refine⟨_,ai (bw (gi (gF (pv 0) (λ_=>rfl))) (ak iL) aM)
  (ai (bW (a8 (GT.mono (by decide:1<=3)) hr rfl (ab (pv 1) ah)))
  (ai (aA (i:=2) ic.nd rfl (Or.inr rfl) (a8 GL hr rfl (ab (pv 0) ah)))
  (ai (iz (iy:=3) ["name"] [(2,"least")] ic.nd rfl rfl rfl (aZ (a8 (GH.mono (by decide:1<=3)) hr rfl (ab (pv 0) ah))) (bp rfl rfl) (by decide +kernel) rfl (by decide +kernel)
   (λ_ _ _ _ _=>aq (i:=0) (show (["name","least"]:List Str).Nodup by decide +kernel) rfl (bx rfl)) (λ_ _ _ _ _=>g_ (cY (dY hu (pv 0) (pv 1)))) (λ_ _ _ _ _=>pv 0))
  (ai (bw (gF (pv 3) (λ_=>rfl)) (ak iL) aM)
  (ai (aA (i:=4) ic.nd rfl (Or.inr rfl) (a8 (GM.mono (by decide:1<=3)) hr rfl (ab (pv 0) ah)))
  (ai (iz (iy:=5) ["name"] [(4,"met")] ic.nd rfl rfl rfl (aZ (a8 (GH.mono (by decide:1<=3)) hr rfl (ab (pv 0) ah))) (bp rfl rfl) (by decide +kernel) rfl (by decide +kernel)
   (λ_ _ _ _ _=>aq (i:=0) (show (["name","met"]:List Str).Nodup by decide +kernel) rfl (bx rfl)) (λ_ _ _ _ _=>g_ (cY (dY hu (pv 0) (pv 1)))) (λ_ _ _ _ _=>pv 0))
  (ai (bw (gF (pv 5) (λ_=>rfl)) (ak iL) aM)
  (ai (aA (i:=6) ic.nd rfl (bx rfl) (a8 GF hr rfl (ab (pv 0) ah)))
  (ai (bw (gF (pv 6) (λ_=>rfl)) (ak iL) aM)
  (ai (aA (i:=7) ic.nd rfl (Or.inr rfl) (a8 GG hr rfl (ab (pv 0) ah)))
  (ai (iz (iy:=8) ["name"] [(2,"least"),(7,"greatest")] ic.nd rfl rfl rfl (aZ (a8 (GH.mono (by decide:1<=3)) hr rfl (ab (pv 0) ah))) (bp rfl rfl) (by decide +kernel) rfl (by decide +kernel)
   (λ_ _ _ _ _=>aq (i:=0) (show (["name","least","greatest"]:List Str).Nodup by decide +kernel) rfl (bx rfl)) (λ_ _ _ _ _=>g_ (aV rY (aD (Dn rfl) rfl T.max PyProof.Rows.boot_max (ab (fJ hu (pv 1) (pv 0) (λ_ _=>rfl)) (ab (E8 hu (pv 2) (pv 0) ao ⟨rfl,rfl,rfl,rfl⟩) ah))) (Iy (v:=.int 60) rfl hM ⟨tm,rfl⟩) (bu _))) (λ_ _ _ _ _=>pv 0))
  (ak (bw (gF (pv 8) (λ_=>rfl)) (ak iL) aM))))))))))))),?_⟩
 nofun
 have ll:=aY b9;obtain⟨lR,F3⟩:∃lR,aa[0]?=some lR:=by
  cases aa with
  | nil=>exact absurd rfl DK
  | cons a r=>exact⟨a,rfl⟩
 have eR:(rs.map V.ref).isEmpty=false:=by
  have l0:=(bq.mp F3).1;cases rs with
  | nil=>simp at ll;omega
  | cons a r=>rfl
 refine⟨_,rfl,true,.inl ⟨_,hR,by rw [eR];rfl⟩,?_⟩;refine c_ ?_;refine⟨_,rfl,S,ss,str,rfl,hS,RI,UX,U4,U3,λH1 s1=>?_⟩;have Rp:=Jb.same s1;have t21:=RV.same s1;refine⟨_,rfl,R,rs,aa,rfl,s1.seq hR,b9.same s1,br,h8,Rp,λdl kl ksl gl H2 fl s2 t12 el kkl vl stl sel _=>?_⟩;have Hu:=Bi s2 Rp (s1.seq hR);have CN:=(b9.same s1).keep λ_ _ z=>AN s2 Rp z;have t22:=AQ s2 Rp t21 nT.symm;have hl:=gd.least gl stl sel;have S02:lZ T1 T2 H H2:=λb o n1 _ hb=>s2 b o n1 (s1 b o hb);refine⟨_,rfl,R,rs,aa,rfl,Hu,CN,br,λD3 H3 f3 s3 e3=>⟨D3,rfl,⟨_,aI.of e3⟩,λD4 hD4=>sW rfl (aI.of e3) hD4 (λz hz H' Q' s' hQ=>?_) λH4 s4 e4=>?_⟩⟩
 .obtain⟨n,en,_⟩:=hl z hz;have hg:cy H' dl (.str z) (some (.int n)):=by
   have:=cy.k (k:=Sum.inr z) (s' _ _ (s3 _ _ el));rw [vl,en] at this;exact this
  exact⟨_,rfl,_,rfl,dl,_,rfl,hg,_,rfl,hQ⟩
 refine⟨_,rfl,false,.inl ⟨[],aI.of e4,rfl⟩,?_⟩;refine c_ ?_;have Ls:=s3.trans s4;refine⟨_,rfl,R,rs,aa,lR,rfl,Ls.seq Hu,CN.same Ls,F3,br,h8,λdm km ms H5 f5 s5 em kkm B7 _ mc5=>?_⟩;have Tx:=Ls.trans s5;refine⟨_,rfl,R,rs,aa,rfl,Tx.seq Hu,CN.same Tx,br,λD6 H6 f6 s6 e6=>⟨D6,rfl,⟨_,aI.of e6⟩,λD7 Qu=>sW rfl (aI.of e6) Qu (λz hz H' Q' s' hQ=>?_) λH7 s7 e7=>?_⟩⟩
 .have hm:=gd.met lR ms F3 B7 mc5 z hz;have hv:(bA km (Sum.inr z)).isSome=true:=by rw [ff,kkm];exact df.mpr hm
  refine⟨_,rfl,_,rfl,dm,_,rfl,cy.k (k:=Sum.inr z) (s' _ _ (s6 _ _ em)),_,rfl,?_⟩;rw [hv];exact hQ
 refine⟨_,rfl,false,.inl ⟨[],aI.of e7,rfl⟩,?_⟩;refine c_ ?_;have Tw:=(Tx.trans s6).trans s7;refine⟨_,rfl,R,rs,aa,rk,rfl,Tw.seq Hu,CN.same Tw,br,h8,gd.loop,λD8 H8 f8 s8 e8=>?_⟩;refine⟨_,rfl,false,.inl ⟨[],aI.of e8,rfl⟩,?_⟩;refine c_ ?_;have JO:=Tw.trans s8;have t18:=t12.same JO;have OO:=t22.same JO;refine⟨_,rfl,R,rs,aa,b,rfl,JO.seq Hu,CN.same JO,br,h8,gd.Sn,OO,λdg kg ksg gg H9 f9 s9 t29 eg kkg vg jg _ _=>?_⟩;have hR9:=Bi s9 OO (JO.seq Hu);have U5:=(CN.same JO).keep λ_ _ z=>AN s9 OO z;have Ti:=AQ s9 OO t18 nT;have Zl:=JO _ _ el;have el9:=s9 _ _ (λz=>by obtain⟨ps,a,_⟩:=OO;rw [<-z,Zl] at a;cases a) Zl;refine⟨_,rfl,R,rs,aa,rfl,hR9,U5,br,λW9 AK f10 vR DM=>⟨W9,rfl,⟨_,aI.of DM⟩,λD11 VO=>sW rfl (aI.of DM) VO (λz hz H' Q' s' hQ=>?_) λDw Il HI=>?_⟩⟩
 .obtain⟨n,en,aaj⟩:=hl z hz;have Ja:cy H' dl (.str z) (some (.int n)):=by
   have:=cy.k (k:=Sum.inr z) (s' _ _ (vR _ _ el9));rw [vl,en] at this;exact this
  have Zo:=s' _ _ (vR _ _ eg);obtain⟨v,Ki,hv2⟩:∃v:Int,((gg z).map V.int).getD (.int 0)=.int v/\v<=60:=by
   cases e:gg z with
   | none=>exact⟨0,rfl,by decide⟩
   | some v=>exact⟨v,rfl,Int.le_trans (jg z v e).2.1 (gd.most z hz)⟩
  have Vm:cy H' dg (.str z) ((gg z).map V.int):=by
   have:=cy.k (k:=Sum.inr z) Zo;rw [vg] at this;exact this
  refine⟨_,rfl,_,rfl,dl,_,rfl,Ja,_,rfl,dg,rfl,.inl ⟨_,.inl Zo⟩,_,rfl,_,Vm,?_⟩;rw [Ki];refine⟨n,v,rfl,_,_,rfl,rfl,_,rfl,?_⟩;rw [di (by split <;> omega)]
  exact hQ
 refine⟨_,rfl,false,.inl ⟨[],aI.of HI,rfl⟩,?_⟩;refine c_ ?_;have Lr:=vR.trans Il;exact q Dw (λc o n1 n2 hc=>Lr c o (s9 c o n2 (JO c o (S02 c o n1 n2 hc)))) (Ti.same Lr) (t29.same Lr)
end
end gK
namespace M11
open PySem L2
abbrev Be:=Str×Str×Nat×Nat
def gu (cK:List Be):List (Str×Str):=cK.map λb=>(b.1,b.2.1)
def oo (cK:List Be)(n:Str):List Str:=(cK.filter λb=>decide (b.1=n)).map (·.2.1)
def qm (names:List Str)(cK:List Be)(z:Str):List Str:=if z∈names then oo cK z else [z]
inductive wK (aa:List aw) (names:List Str)(b:Str->Bool):List Be->Prop
 | nil:wK aa names b []
 | snoc {cK:List Be}{k j:Nat}{ru:aw}{z w:Str}:wK aa names b cK->aa[k]?=some ru->ru.2[j]?=some z->j < C0 b ru.2->w∈qm names cK z->(ru.1,w)∉gu cK->wK aa names b (cK++[(ru.1,w,k,j)])
def Am {cK:List Be}{n w:Str}:w∈oo cK n↔(n,w)∈gu cK:=by
 unfold oo gu;rw [cP,cP];constructor
 .rintro⟨b,hb,rfl⟩;obtain⟨h1,h2⟩:=lL.mp hb;exact⟨b,h1,by rw [dq h2]⟩
 rintro⟨b,hb,e⟩;cases e;exact⟨b,lL.mpr ⟨hb,bV rfl⟩,rfl⟩
def By (cK:List Be)(b:Be)(n:Str):oo (cK++[b]) n=oo cK n++(if b.1=n then [b.2.1] else []):=by
 unfold oo;rw [oX,bF];by_cases c:b.1=n
 .rw [ax c];simp [c]
 rw [az c];simp [c]
end M11
namespace gK
open PySem L2 M11
def Jp:Stmt->List Stmt
 | .ClassDef _ _ _ b _ _ _ _ _ _ _=>b
 | _=>[]
abbrev Pq (st:Stmt) (i:Nat):Stmt:=(Jp st).getD i (.Pass ⟨0,0,0,0⟩)
abbrev zr:Stmt:=Pq zq 0
abbrev EH:Stmt:=Pq zq 1
abbrev zg:Stmt:=Pq zq 2
abbrev vL:Stmt:=Pq EE 0
section
structure BC (K:a9)(C:Addr):Prop where
 cls:Dx K C
 a1:d0 K C "empties"
 a2:d0 K C "empty"
 a3:d0 K C "begins"
 a4:d0 K C "firsts"
structure tZ (K:a9)(C:Addr)(H0 H:Hp)(a e d bg:Addr)(kE:List (aS×V))(bB:List (Str×Nat))(ps:List (Str×Addr))(cK:List Be):Prop where
 sm:aC H0 H
 ia:∃dx fs,H a=some (.ins C dx fs)/\fs.lookup ("empty":Str)=some (.ref e)/\fs.lookup ("begins":Str)=some (.ref bg)/\fs.lookup ("firsts":Str)=some (.ref d)/\fs.lookup ("find_begins":Str)=none/\fs.lookup ("words_of_part":Str)=none
 he:H e=some (.dK kE)
 hd:H d=some (.dK (ps.map jE))
 n1:(ps.map (·.1)).Nodup
 n2:(ps.map (·.2)).Nodup
 dk:∀p∈ps,(∃kvs,H p.2=some (.dK kvs)/\kvs.map (·.1)=(oo cK p.1).map Sum.inr)/\H0 p.2=none/\p.2≠e/\p.2≠d
 lb:∃ts,H bg=some (.lst (ts.map V.ref))/\Paired (λt (b:Be)=>aQ K H t [.str b.1,.str b.2.1,.int (b.2.2.1:Int),.int (b.2.2.2:Int)]) ts cK
 fb:H0 bg=none
 em:∃e1 ts,(∃dx fs,H a=some (.ins C dx fs)/\fs.lookup ("empties":Str)=some (.ref e1))/\H e1=some (.lst (ts.map V.ref))/\pR K H ts bB/\e1≠bg
def tZ.same {C:Addr}{H0 H H':Hp}{a e d bg:Addr}{kE:List (aS×V)}{bB:List (Str×Nat)}{ps:List (Str×Addr)}{cK:List Be}(h:tZ K C H0 H a e d bg kE bB ps cK)(s:aC H H'):tZ K C H0 H' a e d bg kE bB ps cK:=by
 refine⟨h.sm.trans s,?_,s _ _ h.he,s _ _ h.hd,h.n1,h.n2,λp hp=>?_,?_,h.fb,?_⟩
 .obtain⟨dx,fs,q,r⟩:=h.ia;exact⟨dx,fs,s _ _ q,r⟩
 .obtain⟨⟨kvs,q,r⟩,t⟩:=h.dk p hp;exact⟨⟨kvs,s _ _ q,r⟩,t⟩
 .obtain⟨ts,q,r⟩:=h.lb;exact⟨ts,s _ _ q,Paired.dI r λ_ _ z=>s.tup z⟩
 obtain⟨e1,ts,⟨dx,fs,q1,q2⟩,q3,q4,q5⟩:=h.em;exact⟨e1,ts,⟨dx,fs,s _ _ q1,q2⟩,s _ _ q3,q4.keep λ_ _ z=>s.tup z,q5⟩
def A8 (K:a9)(C:Addr):Sp:=λvs H Q _=>∃(H0:Hp)(a e d bg:Addr)(kE:List (aS×V))(bB:List (Str×Nat))(ps:List (Str×Addr))(cK:List Be)(z:Str),vs=[.ref a,.str z]/\tZ K C H0 H a e d bg kE bB ps cK /\
 ∀(D:Addr)(H':Hp),H D=none->aC H H'->H' D=some (.lst ((qm (ps.map (·.1)) cK z).map V.str))->Q (.ref D) H'
def Ib:aK ["self","part"] ["self","part"] (av zg):=iq rfl rfl rfl rfl (by decide +kernel)
def Fm {C:Addr}(F:g9 K "words_of_part" "BeginTable.words_of_part" zg f fd)(T:Txt mg)(B:BC K C):bN P w K mg base fj 1 f fd ["self","part"] (A8 K C):=by
 refine F.ok Ib (λvs H Q E h=>?_) (λdU A outer s H vs Q E hr h=>?_)
 .obtain⟨H0,a,e,d,bg,kE,bB,ps,cK,z,rfl,_⟩:=h;rfl
 obtain⟨H0,a,e,d,bg,kE,bB,ps,cK,z,rfl,S,q⟩:=h;have hu:=fR hr;obtain⟨dx,fs,ea,f1,f2,f3,f4,f5⟩:=S.ia;refine⟨_,ak (aL (rV (cY (jM hu (pv 1) (e_ (pv 0) rfl))) (bD (mI rfl) rfl T.lst iT (ab (fJ hu (e_ (pv 0) rfl) (pv 1) (λ_ _=>rfl)) ah)) (bc (ab (pv 1) ah)))),?_⟩;dsimp only [Ax];have mem:(bA (ps.map jE) (Sum.inr z)).isSome=true↔z∈ps.map (·.1):=by rw [ff,nV];exact df
 refine⟨_,rfl,_,rfl,a,C,dx,fs,_,rfl,ea,B.cls,B.a4,f3,d,_,rfl,cy.k (k:=Sum.inr z) S.hd,_,rfl,?_⟩;refine bY (λc=>?_) (λc=>?_)
 .have hz:=mem.mp c;obtain⟨p,hp,ep⟩:=cP.mp hz;obtain⟨⟨kvs,hk,kk⟩,_⟩:=S.dk p hp;have vn:=gU ps S.n1 p hp;rw [ep] at vn;have hg:cy H d (.str z) (some (.ref p.2)):=by
   have:=cy.k (k:=Sum.inr z) S.hd;rw [vn] at this;exact this
  refine⟨_,rfl,a,C,dx,fs,_,rfl,ea,B.cls,B.a4,f3,_,rfl,d,_,rfl,hg,p.2,kvs,rfl,hk,λD hD=>?_⟩;refine q D _ hD (af hD _) ?_;rw [ae,keys_str kk,ep];unfold qm;rw [ax hz]
 refine⟨_,rfl,vi,λD hD=>?_⟩;refine q D _ hD (af hD _) ?_;rw [ae];unfold qm;rw [az (λh=>c (mem.mpr h))];rfl
def tZ.more {C:Addr}{H0 H H2:Hp}{a e d bg t:Addr}{kE kvs:List (aS×V)}{bB:List (Str×Nat)}{ps:List (Str×Addr)}{cK:List Be}{p:Str×Addr}{wd:Str}{k j:Nat}{ts:List Addr}(h:tZ K C H0 H a e d bg kE bB ps cK)(hp:p∈ps)(hk:H p.2=some (.dK kvs))(kk:kvs.map (·.1)=(oo cK p.1).map Sum.inr)
  (hn:(p.1,wd)∉gu cK)(hb:H bg=some (.lst (ts.map V.ref)))(NQ:Paired (λt (b:Be)=>aQ K H t [.str b.1,.str b.2.1,.int (b.2.2.1:Int),.int (b.2.2.2:Int)]) ts cK)
  (s:aC (upd H p.2 (.dK (bR kvs (Sum.inr wd) (.bl true)))) H2)(ht:aQ K H2 t [.str p.1,.str wd,.int (k:Int),.int (j:Int)]) :
  tZ K C H0 (upd H2 bg (.lst (ts.map V.ref++[.ref t]))) a e d bg kE bB ps (cK++[(p.1,wd,k,j)]):=by
 have RC:bg≠p.2:=λz=>by rw [z,hk] at hb;cases hb
 have Hs:H2 bg=some (.lst (ts.map V.ref)):=s _ _ (by rw [aj RC];exact hb);obtain⟨_,fp,XW,XX⟩:=h.dk p hp;have up:∀c o,c≠bg->c≠p.2->H c=some o->upd H2 bg (.lst (ts.map V.ref++[.ref t])) c=some o:=λc o n1 n2 q=>by
  rw [aj n1];exact s _ _ (by rw [aj n2];exact q)
 refine⟨λc o hc=>up c o (λz=>by rw [z,h.fb] at hc;cases hc) (λz=>by rw [z,fp] at hc;cases hc) (h.sm c o hc),?_,up _ _ (λz=>by have:=h.he;rw [z,hb] at this;cases this) XW.symm h.he,up _ _ (λz=>by have:=h.hd;rw [z,hb] at this;cases this) XX.symm h.hd,h.n1,h.n2,λp' n6=>?_,⟨ts++[t],by rw [ae,bF];rfl,?_⟩,h.fb,?_⟩
 .obtain⟨dx,fs,q,r⟩:=h.ia;exact⟨dx,fs,up _ _ (λz=>by rw [z,hb] at q;cases q) (λz=>by rw [z,hk] at q;cases q) q,r⟩
 .obtain⟨⟨mC,q,r⟩,t'⟩:=h.dk p' n6;refine⟨?_,t'⟩;by_cases z:p'=p
  .rw [z];refine⟨bR kvs (Sum.inr wd) (.bl true),by rw [aj RC.symm];exact s _ _ ae,?_⟩;rw [iY (by rw [kk];exact λq=>hn (Am.mp (df.mp q))),kk,By,ax rfl,bF];rfl
  have n1:p'.1≠p.1:=λq'=>z (by
   have w1:=gU ps h.n1 p' n6;have w2:=gU ps h.n1 p hp;rw [q',w2] at w1;injection w1 with w3;injection w3 with w4;exact Prod.ext q' w4.symm)
  have n2:p'.2≠p.2:=λq'=>by
   obtain⟨i,hi,ei⟩:=qQ.mp n6;obtain⟨j',hj,ej⟩:=qQ.mp hp;have I_:i=j':=by
    refine(uW (xs:=ps.map (·.2)) (h₀:=by simpa using hi) (h₁:=by simpa using hj) h.n2).mp ?_;rw [oR,oR,ei,ej];exact q'
   subst I_;exact z (ei.symm.trans ej)
  refine⟨mC,up _ _ (λz=>by rw [z,hb] at q;cases q) n2 q,?_⟩;rw [r,By,az (λq'=>n1 q'.symm),ir]
 .exact gQ (Paired.dI NQ λ_ _ z=>aT Hs (s.tup (h_ hk z))) (aT Hs ht)
 obtain⟨e1,te,⟨dx,fs,q1,q2⟩,q3,q4,q5⟩:=h.em;exact⟨e1,te,⟨dx,fs,up _ _ (λz=>by rw [z,hb] at q1;cases q1) (λz=>by rw [z,hk] at q1;cases q1) q1,q2⟩,up _ _ q5 (λz=>by rw [z,hk] at q3;cases q3) q3,q4.keep λ_ _ z=>aT Hs (s.tup (h_ hk z)),q5⟩
def MM (l m:List Be)(n:Str):oo (l++m) n=oo l n++oo m n:=by
 unfold oo;rw [oX,bF]
def HV {names:List Str}(l m:List Be){z x:Str}(h:x∈qm names l z):x∈qm names (l++m) z:=by
 unfold qm at h ⊢
 split
 .rename_i c
  rw [ax c] at h;rw [MM];exact jl _ h
 rename_i c
 rw [az c] at h;exact h
def MK (cK:List Be)(n:Str):(oo cK n).length<=cK.length:=by
 unfold oo;rw [au];exact rp _ _
def Ng {n i:Nat}(h:i < n):(cnt n)[i]?=some (.int (i:Int)):=by
 unfold cnt;rw [bh,List.getElem?_range h];rfl
def BJ (n:Nat):(cnt n).length=n:=by unfold cnt;rw [au,uY]
def Er (K:a9)(C:Addr):Sp:=λvs H Q _=>∃(H0:Hp)(a e d bg r:Addr)(kE:List (aS×V))(bB:List (Str×Nat))(ps:List (Str×Addr))(cK:List Be) (k:Nat)(ru:aw)(aa:List aw),vs=[.ref a,.int (k:Int),.ref r]/\tZ K C H0 H a e d bg kE bB ps cK/\BV K H0 r ru/\aa[k]?=some ru/\ru.2.length<=8 /\
 ru.1∈ps.map (·.1)/\(∀wz:List Be,wK aa (ps.map (·.1)) (λz=>(bA kE (Sum.inr z)).isSome) wz->wz.length<=900000)/\wK aa (ps.map (·.1)) (λz=>(bA kE (Sum.inr z)).isSome) cK /\
 ∀(wz:List Be)(H':Hp),tZ K C H0 H' a e d bg kE bB ps wz->wK aa (ps.map (·.1)) (λz=>(bA kE (Sum.inr z)).isSome) wz->cK.length<=wz.length->(wz.length=cK.length->wz=cK/\∀j z,j < C0 (λz=>(bA kE (Sum.inr z)).isSome) ru.2->ru.2[j]?=some z->∀wd∈qm (ps.map (·.1)) cK z,(ru.1,wd)∈gu cK)->Q .d6 H'
def vE:aK ["self","number","rule","own","place","word"] ["self","number","rule"] (av EH):=iq rfl rfl rfl rfl (by decide +kernel)
def IL {C fW:Addr}{Y6:FuncData}(F:g9 K "find_begins" "BeginTable.find_begins" EH f fd)(T:Txt mg)(B:BC K C)(GP:aB P w K mg base 1 "first_places" ["parts","empty"] (wY K))(FW:bN P w K mg base fj 1 fW Y6 ["self","part"] (A8 K C))(MW:Meth K C "words_of_part" fW)(BW:Binds K Y6 ["self","part"] []) :
  bN P w K mg base fj 2 f fd ["self","number","rule"] (Er K C):=by
 refine F.ok vE (λvs H Q E h=>?_) (λdU A outer s H vs Q E hr h=>?_)
 .obtain⟨H0,a,e,d,bg,r,kE,bB,ps,cK,k,ru,aa,rfl,_⟩:=h;rfl
 obtain⟨H0,a,e,d,bg,r,kE,bB,ps,cK,k,ru,aa,rfl,S,⟨p,v1,v2⟩,er,h8,hh,hbd,Vz,q⟩:=h;have hu:=fR hr;refine⟨_,ai (aA (i:=3) vE.nd rfl (bx rfl) (fJ hu (e_ (pv 0) rfl) (aF aN (pv 2) ao (λ_ _=>rfl)) (λ_ _=>rfl)))
  (ak (bO bZ rfl (aZ (a8 GP hr rfl (ab (aF aN (pv 2) ao (λ_ _=>rfl)) (ab (e_ (pv 0) rfl) ah)))) (aq (i:=4) vE.nd rfl (bx rfl))
   (ak (bO bZ rfl (aZ (Bp (pv 0) B.cls MW FW hr BW .nil uk (ab (aF aN (aF aN (pv 2) ao (λ_ _=>rfl)) (pv 4) (λ_ _=>rfl)) ah))) (aq (i:=5) vE.nd rfl (bx rfl))
    (ak (bw (cY (dY hu (pv 5) (pv 3)))
     (ai (iZ hu (pv 3) (pv 5) dH rfl)
     (ak (bW (fq eF fY fZ bJ (e_ (pv 0) rfl) (ab (bC (ab (aF aN (pv 2) ao (λ_ _=>rfl)) (ab (pv 5) (ab (pv 1) (ab (pv 4) ah))))) ah))))) aM)))))),?_⟩
 nofun
 obtain⟨pn,xJ,yC⟩:=cP.mp hh;have vn:=gU ps S.n1 pn xJ;rw [yC] at vn;obtain⟨dx,fs,ea,f1,f2,f3,f4,f5⟩:=S.ia;have hg:cy H d (.str ru.1) (some (.ref pn.2)):=by
  have:=cy.k (k:=Sum.inr ru.1) S.hd;rw [vn] at this;exact this
 refine⟨_,rfl,a,C,dx,fs,_,rfl,ea,B.cls,B.a4,f3,_,rfl,r,_,_,_,rfl,rfl,S.sm.tup v1,rfl,d,_,rfl,hg,?_⟩;refine⟨_,rfl,r,_,_,_,rfl,rfl,S.sm.tup v1,rfl,_,rfl,a,C,dx,fs,_,rfl,ea,B.cls,B.a2,f1,p,e,ru.2,kE,rfl,S.sm.tup v2,∅,S.he,λD5 H5 f6 s5 e5=>⟨D5,rfl,⟨_,aI.of e5⟩,?_⟩⟩;obtain⟨ts0,hb0,_⟩:=S.lb;have nDb:D5≠bg:=λz=>by rw [z,hb0] at f6;cases f6
 have fle:=Gk (λz=>(bA kE (Sum.inr z)).isSome) ru.2;generalize hb:(λz=>(bA kE (Sum.inr z)).isSome)=b at *;generalize hn:C0 b ru.2=n at *;refine cC (xs:=cnt n) (λi σ H6=>∃(d7:List Be)(y4 y5:Option V),σ=[aP a,some (.int (k:Int)),aP r,some (.ref pn.2),y4,y5]/\tZ K C H0 H6 a e d bg kE bB ps d7/\H6 D5=some (.lst (cnt n))/\wK aa (ps.map (·.1)) b d7/\cK.length<=d7.length /\
  (d7.length=cK.length->d7=cK/\∀j z,j < i->ru.2[j]?=some z->∀wd∈qm (ps.map (·.1)) cK z,(ru.1,wd)∈gu cK)) ⟨cK,none,none,rfl,S.same s5,e5,Vz,aH _,λ_=>⟨rfl,λj z hj=>∅⟩⟩ ?_ ?_ ?_
 .rintro i σ H6 _ ⟨d7,y4,y5,rfl,S2,e6,_⟩;exact aI.of e6
 .intro i x σ H6 ex jP
  ac_nf0
  obtain⟨d7,y4,y5,rfl,S2,e6,WD,l2,c2⟩:=jP;have li:i < n:=by have:=(bq.mp ex).1;rw [BJ] at this;exact this
  rw [Ng li] at ex;cases ex;have lz:i < ru.2.length:=by omega
  obtain⟨z,ez⟩:∃z,ru.2[i]?=some z:=⟨ru.2[i],b_ lz⟩;have WN:jR (ru.2.map V.str) (i:Int)=some (.str z):=bS (by rw [bh,ez];rfl);obtain⟨Sk,tU,QP,g1,g2,g3,g4,g5⟩:=S2.ia;refine goN ?_
  ac_nf
  refine⟨_,rfl,a,Sk,tU,rfl,QP,g5,_,rfl,r,_,_,_,rfl,rfl,S2.sm.tup v1,rfl,_,rfl,p,_,_,_,rfl,rfl,S2.sm.tup v2,WN,H0,a,e,d,bg,kE,bB,ps,d7,z,rfl,S2,λD6 H7 f7 s7 e7=>⟨D6,rfl,⟨_,aI.of e7⟩,?_⟩⟩;obtain⟨tJ,Hs,_⟩:=S2.lb;have nD6:D6≠bg:=λz=>by rw [z,Hs] at f7;cases f7
  generalize Yx:qm (ps.map (·.1)) d7 z=ws at *;refine cC (xs:=ws.map V.str) (λm σ H8=>∃(l:List Be)(y5:Option V),σ=[aP a,some (.int (k:Int)),aP r,some (.ref pn.2),some (.int (i:Int)),y5]/\tZ K C H0 H8 a e d bg kE bB ps (d7++l)/\H8 D5=some (.lst (cnt n))/\H8 D6=some (.lst (ws.map V.str))/\wK aa (ps.map (·.1)) b (d7++l) /\
   (l=[]->∀wd∈ws.take m,(ru.1,wd)∈gu d7)) ⟨[],_,rfl,by rw [ir];exact S2.same s7,s7 _ _ e6,e7,by rw [ir];exact WD,λ_ wd h=>by simp at h⟩ ?_ ?_ ?_
  .rintro m σ H8 _ ⟨l,y5,rfl,S3,e8,e9,_⟩;exact aI.of e9
  .intro m x σ H8 ex jP
   ac_nf0
   obtain⟨l,y5,rfl,S3,e8,e9,Q2,c3⟩:=jP;rw [bh] at ex;obtain⟨wd,ew,rfl⟩:=cg.mp ex;obtain⟨⟨kvs,hk,kk⟩,fp,XW,XX⟩:=S3.dk pn xJ;obtain⟨Rm,RS,Qo⟩:=S3.lb;have lim:=hbd _ Q2;have ltk:kvs.length<=900000:=by
    have h1:=congrArg List.length kk;rw [au,au] at h1;have:=MK (d7++l) pn.1;omega
   have ltt:=aY Qo;have mem:(bA kvs (Sum.inr wd)).isSome=true↔(ru.1,wd)∈gu (d7++l):=by rw [ff,kk,df,Am,yC]
   refine goN ?_
   ac_nf
   refine⟨_,rfl,_,rfl,pn.2,_,rfl,cy.k (k:=Sum.inr wd) hk,_,rfl,?_⟩;refine bY (λc=>?_) (λc=>?_)
   .have nm:(ru.1,wd)∉gu (d7++l):=λh=>by rw [mem.mpr h] at c;exact absurd c (by decide)
    refine⟨_,rfl,_,rfl,_,_,rfl,pU.k (k:=Sum.inr wd) hk (bK ∅),?_⟩;obtain⟨ZW,Hv,Wf,k1,k2,k3,k4,k5⟩:=S3.ia;have nap:a≠pn.2:=λz=>by rw [z,hk] at Wf;cases Wf
    have RC:bg≠pn.2:=λz=>by rw [z,hk] at RS;cases RS
    have Gw:upd H8 pn.2 (.dK (bR kvs (Sum.inr wd) (.bl true))) a=some (.ins C ZW Hv):=by rw [aj nap];exact Wf
    have YW:upd H8 pn.2 (.dK (bR kvs (Sum.inr wd) (.bl true))) bg=some (.lst (Rm.map V.ref)):=by rw [aj RC];exact RS
    refine⟨_,rfl,a,C,ZW,Hv,_,rfl,Gw,B.cls,B.a3,k2,.inl ⟨rfl,_,aI.of YW⟩,_,rfl,r,_,_,_,rfl,rfl,h_ hk (S3.sm.tup v1),rfl,_,rfl,_,rfl,_,rfl,zl4,λt4 CK=>?_⟩;have s4:=af CK (.tup [.str ru.1,.str wd,.int (k:Int),.int (i:Int)]);have e4:aQ K (upd (upd H8 pn.2 (.dK (bR kvs (Sum.inr wd) (.bl true)))) t4 (.tup [.str ru.1,.str wd,.int (k:Int),.int (i:Int)])) t4 [.str ru.1,.str wd,.int (k:Int),.int (i:Int)]:=aQ.of ae;generalize upd (upd H8 pn.2 (.dK (bR kvs (Sum.inr wd) (.bl true)))) t4 (.tup [.str ru.1,.str wd,.int (k:Int),.int (i:Int)])=H9 at s4 e4;refine⟨bg,_,_,rfl,rfl,s4 _ _ YW,bK (by rw [au];omega),?_⟩;have nm':(pn.1,wd)∉gu (d7++l):=by rw [yC];exact nm
    have S4:=S3.more (k:=k) (j:=i) xJ hk kk nm' RS Qo s4 (by rw [yC];exact e4);have Kc:∀D ys,H8 D=some (.lst ys)->D≠bg->upd H9 bg (.lst (Rm.map V.ref++[.ref t4])) D=some (.lst ys):=λD ys hD nb=>by
     rw [aj nb];exact s4 _ _ (by rw [aj (λz=>by rw [z,hk] at hD;cases hD)];exact hD)
    rw [kr,yC] at S4;refine⟨l++[(ru.1,wd,k,i)],_,rfl,S4,Kc _ _ e8 nDb,Kc _ _ e9 nD6,?_,λh=>by simp at h⟩;rw [<-kr];refine .snoc Q2 er ez (by rw [hn];exact li) (HV d7 l (by rw [Yx];exact cf ew)) nm
   refine⟨l,_,rfl,S3,e8,e9,Q2,λhl x hx=>?_⟩;rw [cR,ew] at hx;rcases cA.mp hx with h | h
   .exact c3 hl x h
   rw [Option.toList_some,bU] at h;subst h;have hm:(ru.1,x)∈gu (d7++l):=mem.mp (by
    cases hq:(bA kvs (Sum.inr x)).isSome with
    | true=>rfl
    | false=>exact absurd (by rw [hq];rfl) c)
   rw [hl,ir] at hm;exact hm
  rintro σ H8 ⟨l,y5,rfl,S3,e8,e9,Q2,c3⟩;rw [au,cQ] at c3;refine⟨d7++l,_,_,rfl,S3,e8,Q2,by rw [bL];omega,λQd=>?_⟩;rw [bL] at Qd;have RM:l=[]:=List.length_eq_zero_iff.mp ∅;obtain⟨My,pI⟩:=c2 ∅;rw [RM,ir];refine⟨My,λj z' hj V3 wd Yz=>?_⟩;by_cases cj:j < i
  .exact pI j z' cj V3 wd Yz
  have:j=i:=by omega
  subst this;rw [ez] at V3;cases V3;have:=c3 RM wd (by rw [<-Yx,My];exact Yz);rw [My] at this;exact this
 rintro σ H6 ⟨d7,y4,y5,rfl,S2,e6,WD,l2,c2⟩;rw [BJ] at c2;exact q d7 H6 S2 WD l2 c2
end
end gK
namespace L2
open PySem M11
def x8 {K:a9}{H:Hp}{p D:Addr}{zs:List Str}{σ:St}{x:Str}{Qp:Hp->Prop}(hp:aI K H p (zs.map V.str))(hz:zs.length<=10000)(hD:H D=none)
  (q:∀ts (ps:List (Str×Addr)) H2,aC H H2->H2 D=some (.lst (ts.map V.ref))->ps.map (·.1)=zs->Paired (λt (p:Str×Addr)=>aQ K H2 t [.str p.1,.ref p.2]) ts ps->(∀p∈ps,H2 p.2=some (.dK [])/\H p.2=none/\p.2≠D)->(ps.map (·.2)).Nodup->Qp H2) :
  ∃W:Nat->Nat->List V->St->Hp->Prop,(∃m,W 0 m [] (eQ [x] [] σ) (upd H D (.lst []))) /\
 ∀i m ys σ' H,W i m ys σ' H->((j9 K p).stop i H/\Qp H)\/((j9 K p).go i H/\∃m',m' < m/\∀x H',(j9 K p).mZ i H x H'->dP 0 x σ' H' λσ2 H2=>iw σ2 H2 λb H3 =>
  if b=true then tO (gC (gW 0) (gC (Ed) rB)) σ2 H3 λy H4=>H4 D=some (.lst ys)/\ys.length < sizeLine/\W (i+1) m' (ys++[y]) σ2 (upd H4 D (.lst (ys++[y]))) else W (i+1) m' ys σ2 H3):=by
 refine cD (xs:=zs.map V.str) (λi ys σ2 H2=>∃(ts:List Addr)(ps:List (Str×Addr)),ys=ts.map V.ref/\ts.length=i/\ps.map (·.1)=zs.take i/\Paired (λt (p:Str×Addr)=>aQ K H2 t [.str p.1,.ref p.2]) ts ps /\
   (∀p∈ps,H2 p.2=some (.dK [])/\H p.2=none/\p.2≠D)/\(ps.map (·.2)).Nodup/\(∃y0,σ2=[y0])/\aC H H2/\H2 D=some (.lst ys))
  ⟨[],[],rfl,rfl,rfl,.nil,by simp,by simp,⟨none,rfl⟩,af hD _,ae⟩ (λi ys σ2 H2 _ h=>?_) (λi x ys σ2 H2 ex h=>?_) (λys σ2 H2 h=>?_)
 .obtain⟨_,_,_,_,_,_,_,_,_,sm,_⟩:=h;exact sm.seq hp
 .obtain⟨ts,ps,rfl,ht,hm,pH,hl,hn,⟨y0,rfl⟩,sm,hd⟩:=h;rw [bh] at ex;obtain⟨z,ez,rfl⟩:=cg.mp ex;have li:=(bq.mp ez).1;refine goN (yy ?_);refine⟨_,rfl,λl tT=>⟨kb,λt jh=>?_⟩⟩;have LY:l≠D:=(ay hd tT).symm;have nt:t≠l:=λe=>by rw [e,ae] at jh;cases jh
  have P1:H2 t=none:=by rw [aj nt] at jh;exact jh
  have ntD:t≠D:=(ay hd P1).symm;have kc:aC H2 (upd (upd H2 l (.dK [])) t (.tup [.str z,.ref l])):=(af tT _).trans (af jh _);have jf:=kc _ _ hd;have el:upd (upd H2 l (.dK [])) t (.tup [.str z,.ref l]) l=some (.dK []):=by rw [aj nt.symm,ae]
  have et:aQ K (upd (upd H2 l (.dK [])) t (.tup [.str z,.ref l])) t [.str z,.ref l]:=aQ.of ae;generalize upd (upd H2 l (.dK [])) t (.tup [.str z,.ref l])=H4 at kc jf el et;refine⟨jf,bK (by rw [au];omega),ts++[t],ps++[(z,l)],by rw [bF];rfl,by rw [bL,ht];rfl,by rw [bF,hm,cR,ez];rfl,?_,?_,?_,⟨_,rfl⟩,?_,ae⟩
  .exact gQ (Paired.dI pH λt' h' z=>aT jf (kc.tup z)) (aT jf et)
  .intro p' n6;rcases cA.mp n6 with h | h
   .obtain⟨a1,a2,a3⟩:=hl p' h;exact⟨by rw [aj a3];exact kc _ _ a1,a2,a3⟩
   rw [bU.mp h];exact⟨by rw [aj LY];exact el,sm.free tT,LY⟩
  .rw [bF];refine ku.mpr ⟨hn,by simp,λa ha b hb e=>?_⟩;rw [oY,bU] at hb;obtain⟨p',n6,rfl⟩:=cP.mp ha;have:=(hl p' n6).1;rw [e,hb] at this;rw [show H2 l=none from tT] at this;cases this
  intro b o hb;rw [aj (λz=>by rw [z,hD] at hb;cases hb)];exact kc _ _ (sm b o hb)
 obtain⟨ts,ps,rfl,ht,hm,pH,hl,hn,_,sm,hd⟩:=h;rw [au,cQ] at hm;exact q ts ps H2 sm hd hm pH hl hn
def ib {K:a9}{H:Hp}{D a C dx:Addr}{xs:List V}{fs:List (Str×V)}{o:HO}(hD:H D=some (.ins C dx fs))(h:aQ K H a xs):aQ K (upd H D o) a xs:=by
 rcases h with (h | ⟨u,h⟩) | h
 .exact .inl (.inl (by rw [aj (λz=>by rw [z,hD] at h;cases h)];exact h))
 .exact .inl (.inr ⟨u,by rw [aj (λz=>by rw [z,hD] at h;cases h)];exact h⟩)
 exact .inr h
def xZ {K:a9}{H:Hp}{R D:Addr}{rs:List Addr}{es:List (Str×Nat)}{σ:St}{x1 x2:Str}{Qp:Hp->Prop}(hR:aI K H R (rs.map V.ref))(b9:Paired (λt (e:Str×Nat)=>aQ K H t [.str e.1,.int (e.2:Int)]) rs es)(br:es.length<=1000)(hD:H D=none)
  (q:∀ts H2,aC H H2->H2 D=some (.lst (ts.map V.ref))->Paired (λt h=>aQ K H2 t [.str h,.bl true]) ts (es.map (·.1))->Qp H2) :
  ∃W:Nat->Nat->List V->St->Hp->Prop,(∃m,W 0 m [] (eQ [x1,x2] [] σ) (upd H D (.lst []))) /\
 ∀i m ys σ' H,W i m ys σ' H->((j9 K R).stop i H/\Qp H)\/((j9 K R).go i H/\∃m',m' < m/\∀x H',(j9 K R).mZ i H x H'->Aj K 2 (jA (dP 0) (jA (dP 1) CW)) x σ' H' λσ2 H2=>iw σ2 H2 λb H3 =>
  if b=true then tO (gC (gW 0) (gC (tC (.bl true)) rB)) σ2 H3 λy H4=>H4 D=some (.lst ys)/\ys.length < sizeLine/\W (i+1) m' (ys++[y]) σ2 (upd H4 D (.lst (ys++[y]))) else W (i+1) m' ys σ2 H3):=by
 have ll:=aY b9;refine cD (xs:=rs.map V.ref) (λi ys σ2 H2=>∃ts:List Addr,ys=ts.map V.ref/\ts.length=i/\Paired (λt h=>aQ K H2 t [.str h,.bl true]) ts ((es.take i).map (·.1))/\(∃y0 y1,σ2=[y0,y1])/\aC H H2/\H2 D=some (.lst ys))
  ⟨[],rfl,rfl,.nil,⟨none,none,rfl⟩,af hD _,ae⟩ (λi ys σ2 H2 _ h=>?_) (λi x ys σ2 H2 ex h=>?_) (λys σ2 H2 h=>?_)
 .obtain⟨_,_,_,_,_,sm,_⟩:=h;exact sm.seq hR
 .obtain⟨ts,rfl,ht,hp,⟨y0,y1,rfl⟩,sm,hd⟩:=h;rw [bh] at ex;obtain⟨r,er,rfl⟩:=cg.mp ex;have lr:=(bq.mp er).1;obtain⟨ru,e1⟩:∃ru,es[i]?=some ru:=⟨es[i]'∅,b_ ∅⟩;obtain⟨r',QG,v1⟩:=Paired.at_ b9 i ru e1;rw [er] at QG;cases QG;have li:=(bq.mp e1).1;refine⟨r,_,rfl,sm.tup v1,rfl,_,_,rfl,_,_,rfl,rfl,?_⟩;refine yy ?_;refine⟨_,rfl,kb,λt jh=>⟨?_,bK (by rw [au];omega),ts++[t],?_,?_,?_,⟨_,_,rfl⟩,?_,ae⟩⟩
  .rw [aj (ay hd jh)];exact hd
  .rw [bF];rfl
  .rw [bL,ht];rfl
  .rw [cR,e1,bF];have jf:upd H2 t (.tup [.str ru.1,.bl true]) D=some (.lst (ts.map V.ref)):=by rw [aj (ay hd jh)];exact hd
   exact gQ (Paired.dI hp λt' h' z=>aT jf ((af jh _).tup z)) (aT jf (aQ.of ae))
  intro b o hb;rw [aj (λz=>by rw [z,hD] at hb;cases hb)];exact af jh _ _ _ (sm b o hb)
 obtain⟨ts,rfl,ht,hp,_,sm,hd⟩:=h;rw [au,ll,cQ] at hp;exact q ts H2 sm hd hp
end L2
namespace M11
open PySem L2
def wK.sub {aa:List aw}{names:List Str}{b:Str->Bool}{cK:List Be}(h:wK aa names b cK):∀q∈gu cK,q.1∈aa.map (·.1)/\q.2∈aa.flatMap (·.2):=by
 induction h with
 | nil=>intro q hq;cases hq
 | @snoc cK k j ru z wd hb er ez _ hw _ ih =>
  intro q hq;unfold gu at hq;rw [bF] at hq;rcases cA.mp hq with hq | hq
  .exact ih q hq
  rw [oY,bU] at hq;rw [hq];have hm:=cf er;refine⟨jZ hm,?_⟩;unfold qm at hw
  split at hw
  .exact(ih (z,wd) (Am.mp hw)).2
  rw [bU.mp hw];exact qZ.mpr ⟨ru,hm,cf ez⟩
def wK.nd {aa:List aw}{names:List Str}{b:Str->Bool}{cK:List Be}(h:wK aa names b cK):(gu cK).Nodup:=by
 induction h with
 | nil=>exact lK
 | @snoc cK k j ru z wd hb er ez _ hw hn ih =>
  unfold gu;rw [bF];refine ku.mpr ⟨ih,by simp,λx hx y hy e=>?_⟩;rw [oY,bU] at hy;rw [e,hy] at hx;exact hn hx
theorem xo (m:List Str):∀l:List Str,(l.flatMap λn=>m.map λwd=>(n,wd)).length=l.length * m.length
 | []=>by simp
 | n::l=>by
  rw [q_,bL,xo m l,au,dM,Nat.add_mul];omega
def wK.len {aa:List aw}{names:List Str}{b:Str->Bool}{cK:List Be}(h:wK aa names b cK)(hl:aa.length<=100)(h8:∀ru∈aa,ru.2.length<=8):cK.length<=80000:=by
 have h1:=gq (gu cK) ((aa.map (·.1)).flatMap λn=>(aa.flatMap (·.2)).map λwd=>(n,wd)) h.nd λq hq=>by
  obtain⟨a,c⟩:=h.sub q hq;exact qZ.mpr ⟨q.1,a,cP.mpr ⟨q.2,c,rfl⟩⟩
 rw [xo] at h1;have h2:=gK.jB aa 100 hl h8;unfold gu at h1;rw [au,au] at h1;have h3:aa.length * (aa.flatMap (·.2)).length<=100 * 800:=Nat.mul_le_mul hl h2;omega
def JB (aa:List aw) (names:List Str)(b:Str->Bool) (n:Nat)(cK:List Be):Prop:=∀k ru,k < n->aa[k]?=some ru->∀j z,j < C0 b ru.2->ru.2[j]?=some z->∀wd∈qm names cK z,(ru.1,wd)∈gu cK
end M11
namespace gK
open PySem L2 M11
section
def Bg (K:a9)(C:Addr):Sp:=λvs H Q _=>∃(H0:Hp)(a dx R:Addr)(rs:List Addr)(aa:List aw),vs=[.ref a,.ref R]/\aC H0 H/\H0 a=none/\H a=some (.ins C dx [])/\aI K H0 R (rs.map V.ref)/\bH K H0 rs aa/\aa.length<=100/\(∀ru∈aa,ru.2.length<=8) /\
 ∀(e d bg:Addr)(kE:List (aS×V))(bB:List (Str×Nat))(ps:List (Str×Addr))(cK:List Be)(H':Hp),tZ K C H0 H' a e d bg kE bB ps cK->ps.map (·.1)=hd aa->wF aa bB->yl aa aa.length bB->(∀z,(bA kE (Sum.inr z)).isSome=decide (z∈bB.map (·.1))) ->
  wK aa (hd aa) (λz=>decide (z∈bB.map (·.1))) cK->JB aa (hd aa) (λz=>decide (z∈bB.map (·.1))) aa.length cK->Q .d6 H'
def ny:aK ["self","rules","number","many","rule"] ["self","rules"] (av zr):=iq rfl rfl rfl rfl (by decide +kernel)
def Fx {C fF:Addr}{Y9:FuncData}(F:g9 K "__init__" "BeginTable.__init__" zr f fd)(T:Txt mg)(B:BC K C)(GE:aB P w K mg base 1 "found_empties" ["rules"] (o_ K))(GH:aB P w K mg base 1 "heads_of" ["rules"] (iW K))
  (FF:bN P w K mg base fj 2 fF Y9 ["self","number","rule"] (Er K C))(MF:Meth K C "find_begins" fF)(BF:Binds K Y9 ["self","number","rule"] []):bN P w K mg base fj 3 f fd ["self","rules"] (Bg K C):=by
 refine F.ok ny (λvs H Q E h=>?_) (λdU A outer s H vs Q E hr h=>?_)
 .obtain⟨H0,a,dx,R,rs,aa,rfl,_⟩:=h;rfl
 obtain⟨H0,a,dx,R,rs,aa,rfl,s0,f0,ea,hR,b9,br,h8,q⟩:=h;refine⟨_,ai (gG (pv 0) (a8 (GE.mono (by decide:1<=2)) hr rfl (ab (pv 1) ah)) rfl)
  (ai (gG (pv 0) (bD (dC rfl) rfl T.yD eY (ab (bE ["name","number"] [] rfl (aZ (e_ (pv 0) rfl)) (bp rfl rfl) (by decide +kernel) rfl (by decide +kernel)
   (λ_ _ _ _ _=>fI (n:=2) K rfl (aE (aq (i:=0) (show (["name","number"]:List Str).Nodup by decide +kernel) rfl (bx rfl)) (aE (aq (i:=1) (show (["name","number"]:List Str).Nodup by decide +kernel) rfl (bx rfl)) b8))) (λ_ _ _ _ _=>bX)
   (λ_ _ _ _ _=>bC (ab (pv 0) (ab dH ah)))) ah)) rfl)
  (ai (gG (pv 0) (bc ah) rfl)
  (ai (gG (pv 0) (bD (dC rfl) rfl T.yD eY (ab (bE ["name"] [] rfl (aZ (a8 (GH.mono (by decide:1<=2)) hr rfl (ab (pv 1) ah))) (bp rfl rfl) (by decide +kernel) rfl (by decide +kernel)
   (λ_ _ _ _ _=>aq (i:=0) (show (["name"]:List Str).Nodup by decide +kernel) rfl (bx rfl)) (λ_ _ _ _ _=>bX)
   (λ_ _ _ _ _=>bC (ab (pv 0) (ab ig ah)))) ah)) rfl)
  (ai (aA (i:=3) ny.nd rfl (bx rfl) (j7 il ao))
  (ak (iK bZ (aV nU (pv 3) (aD aG rfl T.len cS (ab (e_ (pv 0) rfl) ah)) (bu _))
   (ai (aA (i:=3) ny.nd rfl (bx rfl) (aD aG rfl T.len cS (ab (e_ (pv 0) rfl) ah)))
   (ak (bO bZ rfl (nQ rfl T.Jh (ab (pv 1) ah)) (gI rfl (aE (aq (i:=2) ny.nd rfl (bx rfl)) (aE (aq (i:=4) ny.nd rfl (bx rfl)) b8)))
    (ak (bW (Bp (pv 0) B.cls MF FF hr BF .nil uk (ab (pv 2) (ab (pv 4) ah)))))))))))))),?_⟩
 nofun
 have ll:=aY b9;refine⟨_,rfl,R,rs,aa,rfl,s0.seq hR,b9.same s0,∅,h8,λD1 B5 bB H1 f1 s1 e1 w1 emp C8=>?_⟩;have Wg:=s1 _ _ ea;refine⟨_,rfl,a,C,dx,[],rfl,Wg,B.cls,B.a1,(by show 0 < 1000;decide),?_⟩;have e2:upd H1 a (.ins C dx (dW "empties" (.ref D1) [])) D1=some (.lst (B5.map V.ref)):=by rw [aj (λz=>by rw [z,Wg] at e1;cases e1)];exact e1
 have w2:pR K (upd H1 a (.ins C dx (dW "empties" (.ref D1) []))) B5 bB:=w1.keep λ_ _ z=>ib Wg z;have EK:aC H0 (upd H1 a (.ins C dx (dW "empties" (.ref D1) []))):=λc o hc=>by rw [aj (λz=>by rw [z,f0] at hc;cases hc)];exact s1 _ _ (s0 c o hc)
 have QP:upd H1 a (.ins C dx (dW "empties" (.ref D1) [])) a=some (.ins C dx (dW "empties" (.ref D1) [])):=ae;generalize upd H1 a (.ins C dx (dW "empties" (.ref D1) []))=H2 at e2 w2 EK QP;have lets:=emp.len;refine⟨_,rfl,a,C,dx,_,_,rfl,QP,B.cls,B.a1,rfl,D1,rfl,⟨_,aI.of e2⟩,λD2 i8=>xZ (aI.of e2) w2 ∅ i8 λtJ H3 s3 e3 p3=>?_⟩;have kp:Paired (λt (kv:aS×V)=>aQ K H3 t [kV kv.1,kv.2]) tJ ((bB.map (·.1)).map λh=>((Sum.inr h:aS),V.bl true)):=cu p3 λ_ _ z=>z;refine⟨D2,tJ,_,rfl,e3,kp,λe he=>?_⟩;have CB:∀z,(bA (cJ ((bB.map (·.1)).map λh=>((Sum.inr h:aS),V.bl true)) []) (Sum.inr z)).isSome=decide (z∈bB.map (·.1)):=λz=>by
  rw [kK];by_cases c:z∈bB.map (·.1)
  .rw [ax c,bV c];rfl
  rw [az c,di c];rfl
 generalize cJ ((bB.map (·.1)).map λh=>((Sum.inr h:aS),V.bl true)) []=kE at CB;have xi:=(EK.trans s3).trans (af he (.dK kE));have Gw:=af he (.dK kE) _ _ (s3 _ _ QP);have Se:upd H3 e (.dK kE) e=some (.dK kE):=ae;have Ls:aC H2 (upd H3 e (.dK kE)):=s3.trans (af he (.dK kE));generalize upd H3 e (.dK kE)=H4 at xi Gw Se Ls;have Wv:=Ls _ _ e2;have wE4:pR K H4 B5 bB:=w2.keep λ_ _ z=>Ls.tup z;refine⟨_,rfl,a,C,dx,_,rfl,Gw,B.cls,B.a2,(by show 1 < 1000;decide),?_⟩;generalize Vq:dW "empty" (.ref e) (dW "empties" (.ref D1) [])=Kl;have QM:upd H4 a (.ins C dx Kl) e=some (.dK kE):=by rw [aj (λz=>by rw [z,Gw] at Se;cases Se)];exact Se
 have xg:aC H0 (upd H4 a (.ins C dx Kl)):=λc o hc=>by rw [aj (λz=>by rw [z,f0] at hc;cases hc)];exact xi c o hc
 have Zw:upd H4 a (.ins C dx Kl) a=some (.ins C dx Kl):=ae;have Wu:upd H4 a (.ins C dx Kl) D1=some (.lst (B5.map V.ref)):=by rw [aj (λz=>by rw [z,Gw] at Wv;cases Wv)];exact Wv
 have Xd:pR K (upd H4 a (.ins C dx Kl)) B5 bB:=wE4.keep λ_ _ z=>ib Gw z;generalize upd H4 a (.ins C dx Kl)=H5 at QM xg Zw Wu Xd;refine⟨o6,λbg Mw=>?_⟩;have fbg:H0 bg=none:=xg.free Mw;have Sf:upd H5 bg (.lst []) bg=some (.lst []):=ae;have EJ:=xg.trans (af Mw (.lst []));have MZ:=af Mw (.lst []) _ _ QM;have N2:=af Mw (.lst []) _ _ Zw;have Um:D1≠bg:=ay Wu Mw;have Sl:=af Mw (.lst []) _ _ Wu;have Xc:pR K (upd H5 bg (.lst [])) B5 bB:=Xd.keep λ_ _ z=>(af Mw (.lst [])).tup z;generalize upd H5 bg (.lst [])=H6 at Sf EJ MZ N2 Sl Xc;refine⟨_,rfl,a,C,dx,_,rfl,N2,B.cls,B.a3,(by rw [<-Vq];show 2 < 1000;decide),?_⟩;generalize YR:dW "begins" (.ref bg) Kl=Je;have MY:upd H6 a (.ins C dx Je) e=some (.dK kE):=by rw [aj (λz=>by rw [z,N2] at MZ;cases MZ)];exact MZ
 have Zu:upd H6 a (.ins C dx Je) bg=some (.lst []):=by rw [aj (λz=>by rw [z,N2] at Sf;cases Sf)];exact Sf
 have Bk:aC H0 (upd H6 a (.ins C dx Je)):=λc o hc=>by rw [aj (λz=>by rw [z,f0] at hc;cases hc)];exact EJ c o hc
 have Zv:upd H6 a (.ins C dx Je) a=some (.ins C dx Je):=ae;have ZY:upd H6 a (.ins C dx Je) D1=some (.lst (B5.map V.ref)):=by rw [aj (λz=>by rw [z,N2] at Sl;cases Sl)];exact Sl
 have Xb:pR K (upd H6 a (.ins C dx Je)) B5 bB:=Xc.keep λ_ _ z=>ib N2 z;generalize upd H6 a (.ins C dx Je)=H7 at MY Zu Bk Zv ZY Xb;refine⟨_,rfl,R,rs,aa,rfl,Bk.seq hR,b9.same Bk,∅,λD4 H8 f8 s8 e8=>?_⟩;have FK:=hU (aa.map (·.1)) [];simp only [iU,au] at FK;refine⟨D4,rfl,⟨_,aI.of e8⟩,λD5 NR=>x8 (aI.of e8) ∅ NR λts ps H9 s9 e9 m9 p9 l9 n9=>?_⟩;have n1:(ps.map (·.1)).Nodup:=by rw [m9];exact pO _ lK
 have FQ:Paired (λt (kv:aS×V)=>aQ K H9 t [kV kv.1,kv.2]) ts (ps.map jE):=cu p9 λ_ _ z=>z;refine⟨D5,ts,_,rfl,e9,FQ,λd qK=>?_⟩;have QI:cJ (ps.map jE) []=ps.map jE:=oq _ [] (by
  rw [mQ,nV];exact vX n1)
 rw [QI];have Ny:=s8.trans s9;have sd:=af qK (.dK (ps.map jE));have zt:=Ny.trans sd;have qv:upd H9 d (.dK (ps.map jE)) d=some (.dK (ps.map jE)):=ae;have LZ:∀p∈ps,upd H9 d (.dK (ps.map jE)) p.2=some (.dK [])/\p.2≠d:=λp hp=>⟨sd _ _ (l9 p hp).1,λz=>by have:=(l9 p hp).1;rw [z,qK] at this;cases this⟩;generalize upd H9 d (.dK (ps.map jE))=AK at zt qv LZ;have Av:=zt _ _ Zv;have wq:=zt _ _ MY;have M4:=zt _ _ Zu;have Tz:=Bk.trans zt;have Nf:=zt _ _ ZY;have SN:pR K AK B5 bB:=Xb.keep λ_ _ z=>zt.tup z;refine⟨_,rfl,a,C,dx,_,rfl,Av,B.cls,B.a4,(by rw [<-YR,<-Vq];show 3 < 1000;decide),?_⟩;have fp:∀p∈ps,H0 p.2=none/\p.2≠e:=λp hp=>by
  have Y4:H8 p.2=none:=(l9 p hp).2.1;refine⟨(Bk.trans s8).free Y4,λz=>?_⟩;have:=s8 _ _ MY;rw [<-z,Y4] at this;cases this
 have hfs:∃fs,dW "firsts" (.ref d) Je=fs/\fs.lookup ("empty":Str)=some (.ref e)/\fs.lookup ("begins":Str)=some (.ref bg)/\fs.lookup ("firsts":Str)=some (.ref d)/\fs.lookup ("find_begins":Str)=none/\fs.lookup ("words_of_part":Str)=none/\fs.lookup ("empties":Str)=some (.ref D1):=by
  refine⟨_,rfl,?_⟩;rw [<-YR,<-Vq];refine⟨?_,?_,?_,?_,?_,?_⟩ <;> rfl
 obtain⟨fs,efs,k1,k2,k3,k4,k5,k6⟩:=hfs;rw [efs];have DS:tZ K C H0 (upd AK a (.ins C dx fs)) a e d bg kE bB ps []:=by
  refine⟨λc o hc=>by rw [aj (λz=>by rw [z,f0] at hc;cases hc)];exact Tz c o hc,⟨dx,fs,ae,k1,k2,k3,k4,k5⟩,?_,?_,n1,n9,λp hp=>⟨⟨[],?_,rfl⟩,(fp p hp).1,(fp p hp).2,(LZ p hp).2⟩,⟨[],?_,.nil⟩,fbg,⟨D1,B5,⟨dx,fs,ae,k6⟩,by rw [aj (λz=>by rw [z,Av] at Nf;cases Nf)];exact Nf,SN.keep λ_ _ z=>ib Av z,Um⟩⟩
  .rw [aj (λz=>by rw [z,Av] at wq;cases wq)];exact wq
  .rw [aj (λz=>by rw [z,Av] at qv;cases qv)];exact qv
  .have:=(LZ p hp).1;rw [aj (λz=>by rw [z,Av] at this;cases this)];exact this
  rw [aj (λz=>by rw [z,Av] at M4;cases M4)];exact M4
 generalize upd AK a (.ins C dx fs)=Dw at DS;have eb:(λz=>(bA kE (Sum.inr z)).isSome)=λz=>decide (z∈bB.map (·.1)):=funext CB;refine⟨1,rfl,?_⟩;refine⟨λmm σ yi=>∃(cK:List Be) (many:Int)(y2 y4:Option V),σ=[aP a,aP R,y2,some (.int many),y4]/\tZ K C H0 yi a e d bg kE bB ps cK/\wK aa (hd aa) (λz=>decide (z∈bB.map (·.1))) cK/\-1<=many/\many<=cK.length /\
  (many=cK.length->JB aa (hd aa) (λz=>decide (z∈bB.map (·.1))) aa.length cK)/\(mm:Int)=80001 - many,⟨80002,[],-1,none,none,rfl,DS,.nil,∅,by simp,by simp,∅⟩,?_⟩
 rintro mm σ yi ⟨cK,many,y2,y4,rfl,HM,Nj,b1,b2,cl,em⟩;obtain⟨Sk,tU,q1,q2,q3,q4,q5,q6⟩:=HM.ia;obtain⟨tb,RT,Hs⟩:=HM.lb;have lb:=aY Hs;have Ma:=Nj.len br h8;refine⟨_,rfl,_,rfl,a,C,Sk,tU,_,rfl,q1,B.cls,B.a3,q3,bg,_,rfl,.inl (aI.of RT),_,_,rfl,rfl,_,rfl,?_⟩;refine bY (λc=>?_) (λc=>?_)
 .have c':=dq c;rw [au,lb] at c';refine⟨λσ BX=>∃(d7:List Be)(y2 y4:Option V),σ=[aP a,aP R,y2,some (.int (cK.length:Int)),y4]/\tZ K C H0 BX a e d bg kE bB ps d7/\wK aa (hd aa) (λz=>decide (z∈bB.map (·.1))) d7/\cK.length<=d7.length /\
   (d7.length=cK.length->d7=cK/\JB aa (hd aa) (λz=>decide (z∈bB.map (·.1))) aa.length cK),?_,?_⟩
  .rintro σ BX ⟨d7,y2,y4,rfl,G7,Dq,RE,GU⟩;have:=Dq.len br h8;refine⟨(80001 - cK.length:Int).toNat,∅,d7,_,_,_,rfl,G7,Dq,∅,∅,λz=>?_,∅⟩;obtain⟨Jl,C_⟩:=GU ∅;rw [Jl];exact C_
  refine⟨_,rfl,a,C,Sk,tU,_,rfl,q1,B.cls,B.a3,q3,bg,_,rfl,.inl (aI.of RT),?_⟩;rw [au,lb];refine⟨_,rfl,R,_,rfl,HM.sm.seq hR,?_⟩;refine kY (xs:=rs.map V.ref) (λi σ BX=>∃(d7:List Be)(y2 y4:Option V),σ=[aP a,aP R,y2,some (.int (cK.length:Int)),y4]/\tZ K C H0 BX a e d bg kE bB ps d7/\wK aa (hd aa) (λz=>decide (z∈bB.map (·.1))) d7/\cK.length<=d7.length /\
   (d7.length=cK.length->d7=cK/\JB aa (hd aa) (λz=>decide (z∈bB.map (·.1))) i cK)) ⟨cK,_,_,rfl,HM,Nj,aH _,λ_=>⟨rfl,λk ru hk=>∅⟩⟩ ?_ ?_ ?_
  .rintro i σ BX _ ⟨d7,y2,y4,rfl,G7,_⟩;exact G7.sm.seq hR
  .rintro i x σ BX t ex ⟨d7,y2,y4,rfl,G7,Dq,RE,GU⟩ ht
   ac_nf0
   rw [bh] at ex;obtain⟨r,er,rfl⟩:=cg.mp ex;obtain⟨ru,sP,rv⟩:=b9.get er;have lG:=cf sP;have Q6:=G7.same (af ht (.tup [.int (i:Int),.ref r]));have PX:aQ K (upd BX t (.tup [.int (i:Int),.ref r])) t [.int (i:Int),.ref r]:=aQ.of ae;generalize upd BX t (.tup [.int (i:Int),.ref r])=H14 at Q6 PX;obtain⟨dx4,NU,r1,r2,r3,r4,r5,r6⟩:=Q6.ia;refine⟨t,_,rfl,PX,rfl,_,_,rfl,_,_,rfl,rfl,?_⟩;refine⟨_,rfl,a,dx4,NU,rfl,r1,r5,_,rfl,_,rfl,H0,a,e,d,bg,r,kE,bB,ps,d7,i,ru,aa,rfl,Q6,rv,sP,h8 ru lG,by rw [m9];exact(hJ _ _ _).mpr (.inr (jZ lG)),?_,?_,?_⟩
   .intro wz Ht;have:=Ht.len br h8;omega
   .rw [m9,eb];exact Dq
   rw [m9,eb];intro WG H15 WZ WE l15 WB;refine⟨WG,_,_,rfl,WZ,WE,∅,λhl3=>?_⟩;obtain⟨x1,x2⟩:=GU ∅;obtain⟨x3,x4⟩:=WB ∅;refine⟨x3.trans x1,λk Cb hk NZ j z hj ez wd hw=>?_⟩;by_cases ck:k < i
   .exact x2 k Cb ck NZ j z hj ez wd hw
   have:k=i:=by omega
   subst this;rw [sP] at NZ;cases NZ;rw [<-x1] at hw ⊢;exact x4 j z hj ez wd hw
  rintro σ BX ⟨d7,y2,y4,rfl,G7,Dq,RE,GU⟩;rw [au,ll] at GU;exact⟨d7,_,_,rfl,G7,Dq,RE,GU⟩
 have c':=of_decide_eq_false (q9.mpr c);rw [au,lb] at c';exact q e d bg kE bB ps cK yi HM m9 emp C8 CB Nj (cl ∅)
end
end gK
namespace L2
open PySem PySem.W
section
variable {X:Cx}{ag:List (Addr×Obj)}{σ:St}{H:Hp}{s:Shared}{a:Addr}{kvs:List (aS×V)}{k:aS}{u:Value}{A:Around}{E:Value->Shared->Prop}
def Nc {z:V}{r:Value}{Q:Value->Shared->Prop}(I:Inv X ag σ H s)(e:H a=some (.dK kvs))(hl:kvs.length < sizeLine)(ry:RelV (kV k) u)(rz:RelV z r)
  (h1:∀v w' s',bA kvs k=some v->Inv X ag σ H s'->RelV v w'->Q w' s')(h2:bA kvs k=none->∀s',Inv X ag σ (upd H a (.dK (bR kvs k z))) s'->Q r s') :
  wpAny (model X.prog X.w) A (call (.builtin "dict.setdefault") [.ref a,u,r]) Q E s:=by
 obtain⟨zl,hd,vs,rel,dd⟩:=xU I.b0 e;refine call_meetsIn PySem.F.slot_dict_setdefault dd.typeIs PySem.F.entry_dict_setdefault (PySem.F.args_dict_setdefault_3 _ _ _) (kt_meets_setdefault (bj X.prog X.w) a (lX ry) hd r)
  ⟨vs,dd,by rw [<-rel.length];exact zl,λv hv=>?_,λhn h' HK hs=>?_⟩
 .have rv:=rel.val k;rw [hv] at rv;cases e2:bA kvs k with
  | none=>rw [e2] at rv;cases rv
  | some x=>rw [e2] at rv;exact h1 x v _ e2 (I.tok _) rv
 have F7:bA kvs k=none:=by
  have rv:=rel.val k;rw [hn] at rv;cases e2:bA kvs k with
  | none=>rfl
  | some x=>rw [e2] at rv;cases rv
 have he:∃q,h'.get? a=some q:=let ⟨q,_,_,hq,_⟩:=HK;⟨q,hq⟩;exact h2 F7 _ (qO I (by rw [e];exact True.intro) hs he (sR (by have:=ft kvs k z;omega) hd (rel.put k rz) HK))
end
section
variable {X:Cx}{o e f:Expr}{apos gM:Pos}{td ty tx:TE}
def K_ (td ty tx:TE):TE:=λσ H Q=>td σ H λx H1=>∃a,x=.ref a/\Sv H1 a/\ty σ H1 λy H2=>tx σ H2 λz H3=>∃kvs k,H3 a=some (.dK kvs)/\y=kV k/\kvs.length < sizeLine /\
 (∀v,bA kvs k=some v->Q v H3)/\(bA kvs k=none->Q z (upd H3 a (.dK (bR kvs k z))))
def E7 (ho:PE X o td)(he:PE X e ty)(hf:PE X f tx)(m:M2 X o "setdefault" apos e f gM):PE X (.Call (.Attribute o "setdefault" apos) [e,f] [] gM) (K_ td ty tx):=by
 intro ag s σ H Q I h;refine wpAny_Call_method m.base m.BD m.line yI PySem.F.slot_dict_setdefault PySem.F.type_dict_setdefault (cI (ho ag s σ H _ I h) λu s1 ⟨x,H1,I1,rx,a,ex,d,q1⟩=>?_);subst ex;obtain rfl:u=Value.ref a:=rx;obtain⟨t1,t2,_⟩:=Ac I1 d;refine⟨t1,t2,?_⟩;rw [m.trees];refine ro rfl (u3 (mh (cI (he ag s1 σ H1 _ I1 q1) λiv s2 ⟨y,H2,I2,ry,q2⟩ =>
  mh (cI (hf ag s2 σ H2 _ I2 q2) λfv s3 ⟨z,H3,I3,rz,kvs,k,ea,ey,hl,q3,q4⟩=>qY ?_))))
 subst ey;exact Nc I3 ea hl ry rz (λv w' s4 l I4 zw=>⟨v,_,I4,zw,q3 v l⟩) λl s4 I4=>⟨z,_,I4,rz,q4 l⟩
end
end L2
namespace gK
open PySem L2 M11
section
def O6 {ps:List (Str×Addr)}(n1:(ps.map (·.1)).Nodup)(n2:(ps.map (·.2)).Nodup){p p':Str×Addr}(hp:p∈ps)(n6:p'∈ps)(z:p'≠p):p'.1≠p.1/\p'.2≠p.2:=by
 refine⟨λq=>z ?_,λq=>z ?_⟩
 .have w1:=gU ps n1 p' n6;have w2:=gU ps n1 p hp;rw [q,w2] at w1;injection w1 with w3;injection w3 with w4;exact Prod.ext q w4.symm
 obtain⟨i,hi,ei⟩:=qQ.mp n6;obtain⟨j,hj,ej⟩:=qQ.mp hp;have I_:i=j:=by
  refine(uW (xs:=ps.map (·.2)) (h₀:=by simpa using hi) (h₁:=by simpa using hj) n2).mp ?_;rw [oR,oR,ei,ej];exact q
 subst I_;exact ei.symm.trans ej
structure HN (ps:List (Str×Addr))(st:Str->List Int)(H:Hp)(d:Addr):Prop where
 hd:H d=some (.dK (ps.map jE))
 n1:(ps.map (·.1)).Nodup
 n2:(ps.map (·.2)).Nodup
 lst:∀p∈ps,H p.2=some (.lst ((st p.1).map V.int))
def HN.same {ps:List (Str×Addr)}{st:Str->List Int}{H H':Hp}{d:Addr}(h:HN ps st H d)(s:aC H H'):HN ps st H' d:=⟨s _ _ h.hd,h.n1,h.n2,λp hp=>s _ _ (h.lst p hp)⟩
def BP (st:Str->List Int)(n:Str) (k:Int):Str->List Int:=λz=>if z=n then st z++[k] else st z
def HN.more {ps:List (Str×Addr)}{st:Str->List Int}{H:Hp}{d:Addr}(h:HN ps st H d){p:Str×Addr}(hp:p∈ps) (k:Int):HN ps (BP st p.1 k) (upd H p.2 (.lst ((st p.1).map V.int++[.int k]))) d:=by
 have a:=h.lst p hp;have nd:d≠p.2:=λz=>by have:=h.hd;rw [z,a] at this;cases this
 refine⟨by rw [aj nd];exact h.hd,h.n1,h.n2,λp' n6=>?_⟩;by_cases z:p'=p
 .rw [z,ae];have e1:BP st p.1 k p.1=st p.1++[k]:=ax rfl;rw [e1,bF];rfl
 obtain⟨a1,a2⟩:=O6 h.n1 h.n2 hp n6 z;have e1:BP st p.1 k p'.1=st p'.1:=az a1;rw [aj a2,e1];exact h.lst p' n6
def Ej (K:a9):Sp:=λvs H Q _=>∃(R:Addr)(rs:List Addr)(aa:List aw),vs=[.ref R]/\aI K H R (rs.map V.ref)/\bH K H rs aa/\aa.length<=1000 /\
 ∀(d:Addr)(ps:List (Str×Addr))(H':Hp),H d=none->aC H H'->HN ps (λn=>nums aa n aa.length) H' d->ps.map (·.1)=hd aa->(∀p∈ps,H p.2=none)->Q (.ref d) H'
def vy:aK ["rules","numbers","number","rule"] ["rules"] (av EB):=iq rfl rfl rfl rfl (by decide +kernel)
def IG (F:g9 K "numbers_by_name" "numbers_by_name" EB f fd)(T:Txt mg)(GH:aB P w K mg base 1 "heads_of" ["rules"] (iW K)):bN P w K mg base fj 2 f fd ["rules"] (Ej K):=by
 refine F.ok vy (λvs H Q E h=>?_) (λdU A outer s H vs Q E hr h=>?_)
 .obtain⟨R,rs,aa,rfl,_⟩:=h;rfl
 obtain⟨R,rs,aa,rfl,hR,b9,br,q⟩:=h;have hu:=fR hr;refine⟨_,ai (aA (i:=1) vy.nd rfl (bx rfl) (bD (dC rfl) rfl T.yD eY (ab
   (bE ["name"] [] rfl (aZ (a8 GH hr rfl (ab (pv 0) ah))) (bp rfl rfl) (by decide +kernel) rfl (by decide +kernel)
    (λ_ _ _ _ _=>aq (i:=0) (show (["name"]:List Str).Nodup by decide +kernel) rfl (bx rfl)) (λ_ _ _ _ _=>bX)
    (λ_ _ _ _ _=>bC (ab (pv 0) (ab (bc ah) ah)))) ah)))
  (ai (bO bZ rfl (nQ rfl T.Jh (ab (pv 0) ah)) (gI rfl (aE (aq (i:=2) vy.nd rfl (bx rfl)) (aE (aq (i:=3) vy.nd rfl (bx rfl)) b8)))
   (ak (bW (fq eF fY fZ bJ (fJ hu (pv 1) (aF aN (pv 3) ao (λ_ _=>rfl)) (λ_ _=>rfl)) (ab (pv 2) ah)))))
  (ak (aL (pv 1)))),?_⟩
 nofun
 have ll:=aY b9;refine⟨_,rfl,R,rs,aa,rfl,hR,b9,br,λD2 H3 f3 s3 e3=>?_⟩;have FK:=hU (aa.map (·.1)) [];simp only [iU,au] at FK;refine⟨D2,rfl,⟨_,aI.of e3⟩,λD3 Ag=>sY (aI.of e3) ∅ Ag λts ps H4 s4 e4 m4 p4 l4 n4=>?_⟩;have n1:(ps.map (·.1)).Nodup:=by rw [m4];exact pO _ lK
 have FQ:Paired (λt (kv:aS×V)=>aQ K H4 t [kV kv.1,kv.2]) ts (ps.map jE):=cu p4 λ_ _ z=>z;refine⟨D3,ts,_,rfl,e4,FQ,λd qK=>?_⟩;have QI:cJ (ps.map jE) []=ps.map jE:=oq _ [] (by
  rw [mQ,nV];exact vX n1)
 rw [QI];have s5:=(s3.trans s4).trans (af qK (.dK (ps.map jE)));have xf:=af qK (.dK (ps.map jE));have yB:H d=none:=(s3.trans s4).free qK;have S5:HN ps (λn=>nums aa n 0) (upd H4 d (.dK (ps.map jE))) d:=⟨ae,n1,n4,λp hp=>xf _ _ (l4 p hp).1⟩;have NV:∀p∈ps,H p.2=none:=λp hp=>s3.free (l4 p hp).2.1;generalize upd H4 d (.dK (ps.map jE))=H5 at s5 S5;clear xf;refine⟨_,rfl,R,_,rfl,s5.seq hR,?_⟩;refine kY (xs:=rs.map V.ref) (λi σ H6=>∃(y2 y3:Option V),σ=[aP R,aP d,y2,y3]/\aC H H6/\HN ps (λn=>nums aa n i) H6 d) ⟨none,none,rfl,s5,S5⟩ ?_ ?_ ?_
 .rintro i σ H6 _ ⟨y2,y3,rfl,s6,_⟩;exact s6.seq hR
 .rintro i x σ H6 t ex ⟨y2,y3,rfl,s6,S6⟩ ht
  ac_nf0
  rw [bh] at ex;obtain⟨r,er,rfl⟩:=cg.mp ex;obtain⟨ru,sP,p,v1,v2⟩:=b9.get er;have lG:=cf sP;have li:=(bq.mp sP).1;have yq:=af ht (.tup [.int (i:Int),.ref r]);have Kh:aQ K (upd H6 t (.tup [.int (i:Int),.ref r])) t [.int (i:Int),.ref r]:=aQ.of ae;have s7:=s6.trans yq;have S7:=S6.same yq;generalize upd H6 t (.tup [.int (i:Int),.ref r])=H7 at Kh s7 S7;obtain⟨pn,xJ,yC⟩:∃pn∈ps,pn.1=ru.1:=by
   have:ru.1∈ps.map (·.1):=by rw [m4];exact(hJ _ _ _).mpr (.inr (jZ lG))
   obtain⟨pn,a,b⟩:=cP.mp this;exact⟨pn,a,b⟩
  have an:=S7.lst pn xJ;have vn:=gU ps n1 pn xJ;rw [yC] at vn;have hg:cy H7 d (.str ru.1) (some (.ref pn.2)):=by
   have:=cy.k (k:=Sum.inr ru.1) S7.hd;rw [vn] at this;exact this
  have ln:=xw aa pn.1 i;refine⟨t,_,rfl,Kh,rfl,_,_,rfl,_,_,rfl,rfl,?_⟩;refine⟨_,rfl,_,rfl,r,_,_,_,rfl,rfl,s7.tup v1,rfl,d,_,rfl,hg,.inl ⟨rfl,_,aI.of an⟩,_,rfl,pn.2,_,_,rfl,rfl,an,bK (by rw [au];omega),?_⟩;have S8:=S7.more xJ (i:Int);refine⟨_,_,rfl,λb o hb=>by rw [aj (λz=>by rw [z,NV pn xJ] at hb;cases hb)];exact s7 b o hb,S8.hd,S8.n1,S8.n2,λp' n6=>?_⟩;have:=S8.lst p' n6;rw [this]
  congr 3
  unfold BP;rw [Cw];by_cases c:p'.1=pn.1
  .rw [ax c,ax];unfold NI;rw [sP,c,yC];simp
  rw [az c,az,ir];unfold NI;rw [sP];intro z;have z2:=dq z;injection z2 with z3;exact c (by rw [yC];exact z3.symm)
 rintro σ H6 ⟨y2,y3,rfl,s6,S6⟩;rw [au,ll] at S6;exact⟨_,rfl,q d ps H6 yB s6 S6 m4 NV⟩
def JI (K:a9):Sp:=λvs H Q _=>∃(R:Addr)(rs:List Addr)(aa:List aw),vs=[.ref R]/\aI K H R (rs.map V.ref)/\bH K H rs aa/\aa.length<=1000/\(∀ru∈aa,ru.2.length<=8) /\
 ∀(d:Addr)(H':Hp),H d=none->aC H H'->Q (.ref d) H'
structure DQ (H0 H:Hp)(d:Addr)(kvs:List (aS×V)) (n:Nat):Prop where
 hd:H d=some (.dK kvs)
 ln:kvs.length<=n
 lst:∀kv∈kvs,∃a xs,kv.2=.ref a/\H a=some (.lst xs)/\H0 a=none/\xs.length<=n
def DQ.same {H0 H H':Hp}{d:Addr}{kvs:List (aS×V)}{n:Nat}(h:DQ H0 H d kvs n)(s:aC H H'):DQ H0 H' d kvs n:=⟨s _ _ h.hd,h.ln,λkv hk=>let ⟨a,xs,e1,e2,e3,e4⟩:=h.lst kv hk;⟨a,xs,e1,s _ _ e2,e3,e4⟩⟩
def DQ.more {H0 H:Hp}{d a:Addr}{kvs:List (aS×V)}{n:Nat}{xs:List V}{y:V}(h:DQ H0 H d kvs (n+1))(ha:H a=some (.lst xs))(lx:xs.length<=n)(l2:∀kv∈kvs,∃a xs,kv.2=.ref a/\H a=some (.lst xs)/\H0 a=none/\xs.length<=n):DQ H0 (upd H a (.lst (xs++[y]))) d kvs (n+1):=by
 have nd:d≠a:=λz=>by have:=h.hd;rw [z,ha] at this;cases this
 refine⟨by rw [aj nd];exact h.hd,h.ln,λkv hk=>?_⟩;obtain⟨b,ys,e1,e2,e3,e4⟩:=l2 kv hk;by_cases c:b=a
 .exact⟨b,xs++[y],e1,by rw [c,ae],e3,by rw [bL];simp;omega⟩
 exact⟨b,ys,e1,by rw [aj c];exact e2,e3,∅⟩
def K3 {kvs:List (aS×V)}{k:aS}{v:V}(h:bA kvs k=some v):∃kv∈kvs,kv.2=v:=by
 unfold bA at h;obtain⟨kv,e1,e2⟩:=cg.mp h;exact⟨kv,List.mem_of_find?_eq_some e1,e2⟩
def ui:aK ["rules","standings","number","rule","place","part"] ["rules"] (av Ll):=iq rfl rfl rfl rfl (by decide +kernel)
def LQ (F:g9 K "standings_by_part" "standings_by_part" Ll f fd)(T:Txt mg):bN P w K mg base fj 1 f fd ["rules"] (JI K):=by
 refine F.ok ui (λvs H Q E h=>?_) (λdU A outer s H vs Q E hr h=>?_)
 .obtain⟨R,rs,aa,rfl,_⟩:=h;rfl
 obtain⟨R,rs,aa,rfl,hR,b9,br,h8,q⟩:=h;have hu:=fR hr;refine⟨_,ai (aA (i:=1) ui.nd rfl (bx rfl) ig)
  (ai (bO bZ rfl (nQ rfl T.Jh (ab (pv 0) ah)) (gI rfl (aE (aq (i:=2) ui.nd rfl (bx rfl)) (aE (aq (i:=3) ui.nd rfl (bx rfl)) b8)))
   (ak (bO bZ rfl (nO rfl T.Jh (ab (aF aN (pv 3) ao (λ_ _=>rfl)) ah)) (gI rfl (aE (aq (i:=4) ui.nd rfl (bx rfl)) (aE (aq (i:=5) ui.nd rfl (bx rfl)) b8)))
    (ak (bW (fq eF fY fZ bJ (E7 (pv 1) (pv 5) (bc ah) ⟨rfl,rfl,rfl,rfl⟩) (ab (bC (ab (pv 2) (ab (pv 4) ah))) ah)))))))
  (ak (aL (pv 1)))),?_⟩
 nofun
 have ll:=aY b9;intro d qK;have s1:=af qK (.dK []);have S1:DQ H (upd H d (.dK [])) d [] (8 * 0):=⟨ae,aH _,λkv hk=>by cases hk⟩;generalize upd H d (.dK [])=H1 at s1 S1;refine⟨_,rfl,R,_,rfl,s1.seq hR,?_⟩;refine kY (xs:=rs.map V.ref) (λi σ H6=>∃(kvs:List (aS×V))(y2 y3 y4 y5:Option V),σ=[aP R,aP d,y2,y3,y4,y5]/\aC H H6/\DQ H H6 d kvs (8 * i)) ⟨[],none,none,none,none,rfl,s1,S1⟩ ?_ ?_ ?_
 .rintro i σ H6 _ ⟨kvs,y2,y3,y4,y5,rfl,s6,_⟩;exact s6.seq hR
 .rintro i x σ H6 t ex ⟨kvs,y2,y3,y4,y5,rfl,s6,S6⟩ ht
  ac_nf0
  rw [bh] at ex;obtain⟨r,er,rfl⟩:=cg.mp ex;obtain⟨ru,sP,p,v1,v2⟩:=b9.get er;have lG:=cf sP;have NS:=h8 ru lG;have li:=(bq.mp sP).1;have yq:=af ht (.tup [.int (i:Int),.ref r]);have Kh:aQ K (upd H6 t (.tup [.int (i:Int),.ref r])) t [.int (i:Int),.ref r]:=aQ.of ae;have s7:=s6.trans yq;have S7:=S6.same yq;generalize upd H6 t (.tup [.int (i:Int),.ref r])=H7 at Kh s7 S7;refine⟨t,_,rfl,Kh,rfl,_,_,rfl,_,_,rfl,rfl,?_⟩;refine⟨_,rfl,r,_,_,_,rfl,rfl,s7.tup v1,rfl,p,_,rfl,s7.tup v2,?_⟩;refine pK (xs:=ru.2.map V.str) (λj σ H9=>∃(kvs:List (aS×V))(y4 y5:Option V),σ=[aP R,aP d,some (.int (i:Int)),aP r,y4,y5]/\aC H H9/\DQ H H9 d kvs (8 * i+j)) ⟨kvs,_,_,rfl,s7,S7⟩ ?_ ?_ ?_
  .rintro j σ H9 _ ⟨kvs,y4,y5,rfl,s9,_⟩;exact s9.tup v2
  .rintro j x σ H9 t2 pL ⟨kvs,y4,y5,rfl,s9,S9⟩ jh
   ac_nf0
   rw [bh] at pL;obtain⟨z,ez,rfl⟩:=cg.mp pL;have lj:=(bq.mp ez).1;have xc:=af jh (.tup [.int (j:Int),.str z]);have F1:aQ K (upd H9 t2 (.tup [.int (j:Int),.str z])) t2 [.int (j:Int),.str z]:=aQ.of ae;have vR:=s9.trans xc;have KU:=S9.same xc;generalize upd H9 t2 (.tup [.int (j:Int),.str z])=AK at F1 vR KU;refine⟨t2,_,rfl,F1,rfl,_,_,rfl,_,_,rfl,rfl,?_⟩;have lk:=KU.ln;refine⟨_,rfl,d,rfl,.inl ⟨kvs,.inl KU.hd⟩,_,rfl,o6,λl hl=>?_⟩;have Il:=af hl (.lst []);have HI:upd AK l (.lst []) l=some (.lst []):=ae;have fl:H l=none:=vR.free hl;have DS:=KU.same Il;have sA:=vR.trans Il;generalize upd AK l (.lst [])=Dw at Il HI DS sA;have fin:∀(a:Addr)(xs:List V)(mC:List (aS×V))(yi:Hp),yi a=some (.lst xs)->H a=none->xs.length<=8 * i+j->DQ H yi d mC (8 * i+j+1)->(∀kv∈mC,∃a xs,kv.2=.ref a/\yi a=some (.lst xs)/\H a=none/\xs.length<=8 * i+j)->aC H yi ->
     ∀t4,yi t4=none->xs.length < sizeLine/\∃(kvs:List (aS×V))(y4 y5:Option V),[some (V.ref R),aP d,some (.int (i:Int)),aP r,some (.int (j:Int)),some (.str z)]=[aP R,aP d,some (.int (i:Int)),aP r,y4,y5]/\aC H (upd (upd yi t4 (.tup [.int (i:Int),.int (j:Int)])) a (.lst (xs++[.ref t4])))/\DQ H (upd (upd yi t4 (.tup [.int (i:Int),.int (j:Int)])) a (.lst (xs++[.ref t4]))) d kvs (8 * i+(j+1)) :=
    λa xs mC yi ea fa lx HM DG JP t4 CK=>by
     have zu:=af CK (.tup [.int (i:Int),.int (j:Int)]);refine⟨bK ∅,mC,_,_,rfl,λb o hb=>by rw [aj (λz=>by rw [z,fa] at hb;cases hb)];exact zu _ _ (JP b o hb),?_⟩;exact(HM.same zu).more (zu _ _ ea) lx λkv hk=>let ⟨b,ys,e1,e2,e3,e4⟩:=DG kv hk;⟨b,ys,e1,zu _ _ e2,e3,e4⟩
   refine⟨kvs,Sum.inr z,DS.hd,rfl,bK ∅,λv hv=>?_,λhn=>?_⟩
   .obtain⟨kv,hk,ek⟩:=K3 hv;obtain⟨a,xs,e1,e2,e3,e4⟩:=DS.lst kv hk;rw [e1] at ek;subst ek;refine⟨.inl ⟨rfl,_,aI.of e2⟩,_,rfl,_,rfl,kb,λt4 CK=>?_⟩;obtain⟨g1,g2⟩:=fin a xs kvs Dw e2 e3 e4 ⟨DS.hd,∅,λkv hk=>let ⟨b,ys,e1,e2,e3,e4⟩:=DS.lst kv hk;⟨b,ys,e1,e2,e3,∅⟩⟩ DS.lst sA t4 CK;exact⟨a,_,_,rfl,rfl,af CK _ _ _ e2,g1,g2⟩
   have nd:d≠l:=λz=>by have:=DS.hd;rw [z,HI] at this;cases this
   have KC:upd Dw d (.dK (bR kvs (Sum.inr z) (.ref l))) l=some (.lst []):=by rw [aj nd.symm];exact HI
   have yB:H d=none:=qK;have JP:aC H (upd Dw d (.dK (bR kvs (Sum.inr z) (.ref l)))):=λb o hb=>by rw [aj (λz=>by rw [z,yB] at hb;cases hb)];exact sA b o hb
   have DG:∀kv∈bR kvs (Sum.inr z) (.ref l),∃a xs,kv.2=.ref a/\upd Dw d (.dK (bR kvs (Sum.inr z) (.ref l))) a=some (.lst xs)/\H a=none/\xs.length<=8 * i+j:=λkv hk=>by
    rw [xn _ hn] at hk;rcases cA.mp hk with h | h
    .obtain⟨b,ys,e1,e2,e3,e4⟩:=DS.lst kv h;exact⟨b,ys,e1,by rw [aj (λz=>by rw [z,DS.hd] at e2;cases e2)];exact e2,e3,e4⟩
    rw [bU.mp h];exact⟨l,[],rfl,KC,fl,by simp⟩
   have lp:=ft kvs (Sum.inr z:aS) (.ref l);have HM:DQ H (upd Dw d (.dK (bR kvs (Sum.inr z) (.ref l)))) d (bR kvs (Sum.inr z) (.ref l)) (8 * i+j+1):=⟨ae,∅,λkv hk=>let ⟨b,ys,e1,e2,e3,e4⟩:=DG kv hk;⟨b,ys,e1,e2,e3,∅⟩⟩;generalize upd Dw d (.dK (bR kvs (Sum.inr z) (.ref l)))=yi at KC JP DG HM;refine⟨.inl ⟨rfl,_,aI.of KC⟩,_,rfl,_,rfl,kb,λt4 CK=>?_⟩;obtain⟨g1,g2⟩:=fin l [] _ yi KC fl (by simp) HM DG JP t4 CK;exact⟨l,_,_,rfl,rfl,af CK _ _ _ KC,g1,g2⟩
  rintro σ H9 ⟨kvs,y4,y5,rfl,s9,S9⟩;rw [au] at S9;refine⟨kvs,_,_,_,_,rfl,s9,S9.hd,by have:=S9.ln;omega,λkv hk=>let ⟨b,ys,e1,e2,e3,e4⟩:=S9.lst kv hk;⟨b,ys,e1,e2,e3,∅⟩⟩
 rintro σ H6 ⟨kvs,y2,y3,y4,y5,rfl,s6,S6⟩;exact⟨_,rfl,q d H6 qK s6⟩
end
end gK
namespace L2
open PySem PySem.Spec PyProof.Rows
open PySem
def gk {X:Cx}(K:a9)(hK:X.K=K:=by rfl):ji X (compareOp .In) (Ry K false):=by
 subst hK;exact lB
def uo {X:Cx}(hu:X.A.units < cLine):ji X (compareOp .NotEq) (λx y H Q=>∃a b xs,x=.ref a/\y=.ref b/\aI X.K H a xs/\aI X.K H b []/\Q (.bl (!xs.isEmpty)) H):=by
 intro ag s σ H x y v u Q I rx ry h;obtain⟨a,b,xs,rfl,rfl,ha,hb,q⟩:=h;cases rx;cases ry;obtain⟨aU,r,pl,hz⟩:=I.list ha;obtain⟨cH,r2,tR,NJ⟩:=I.list hb;have e2:cH=[]:=a_.zero r2;subst e2;have br:=r.length;cases xs with
 | nil =>
  have e:aU=[]:=a_.zero r;subst e;exact SeqAt.RcNeAt.lists (e:=λ_=>true) pl.isList tR.isList rfl hu (λj h1 _=>absurd h1 (by simp)) X.prog X.w X.xe _ ⟨.bl false,H,I,rfl,q⟩
 | cons y ys =>
  refine SeqAt.RcNeAt.lists_lengths pl.isList tR.isList ?_ hu X.prog X.w X.xe _ ⟨.bl true,H,I,rfl,q⟩;rw [bQ,bQ,<-br];simp
def uU (K:a9)(H:Hp):Nat->V->V->Prop
 | 0,x,y=>x=y/\mJ x
 | n+1,x,y=>(x=y/\mJ x)\/∃a b xs ys,x=.ref a/\y=.ref b/\((aI K H a xs/\aI K H b ys)\/(aQ K H a xs/\aQ K H b ys))/\Paired (uU K H n) xs ys
def uU.self {K:a9}{H:Hp}{x:V}(h:mJ x):∀n,uU K H n x x
 | 0=>⟨rfl,h⟩
 | _+1=>.inl ⟨rfl,h⟩
def jC {A:Around}{s:Shared}{F:V->V->Prop}{xs ys:List V}{aU cH:List Value}(r:a_ xs aU)(r2:a_ ys cH)(p:Paired F xs ys)(hF:∀x y u v,F x y->RelV x u->RelV y v->SeqAt.EqAt A s u v true) (j:Nat)(h1:j < aU.toArray.size)(h2:j < cH.toArray.size) :
  SeqAt.EqAt A s aU.toArray[j] cH.toArray[j] true:=by
 have l1:=r.length;have l2:=r2.length;have k1:j < aU.length:=by simpa using h1
 have k2:j < cH.length:=by simpa using h2
 have g2:ys[j]?=some (ys[j]'∅):=b_ ∅;obtain⟨x,g1,fx⟩:=Paired.at_ p j _ g2;obtain⟨u1,e1,q1⟩:=r.get g1;obtain⟨u2,e2,q2⟩:=r2.get g2;have f1:aU.toArray[j]=u1:=by
  have:=(bq.mp e1).2;simpa using this
 have f2:cH.toArray[j]=u2:=by
  have:=(bq.mp e2).2;simpa using this
 rw [f1,f2];exact hF _ _ _ _ fx q1 q2
theorem sS {X:Cx}{ag:List (Addr×Obj)}{σ:St}{H:Hp}{s:Shared}(I:Inv X ag σ H s):∀(n:Nat)(A:Around)(x y:V)(u v:Value),uU X.K H n x y->RelV x u->RelV y v->A.units+n < cLine->SeqAt.EqAt A s u v true
 | 0,A,x,y,u,v,⟨e,h⟩,ru,rv,_=>by subst e;exact mH h ru rv
 | n+1,A,x,y,u,v,.inl ⟨e,h⟩,ru,rv,_=>by subst e;exact mH h ru rv
 | n+1,A,x,y,u,v,.inr ⟨a,b,xs,ys,ex,ey,hs,p⟩,ru,rv,hu=>by
  subst ex;subst ey;cases (show u=Value.ref a from ru);cases (show v=Value.ref b from rv);by_cases e:a=b
  .subst e;exact .same _
  refine .of_refs e ?_;have lp:=aY p;rcases hs with ⟨ha,hb⟩ | ⟨ha,hb⟩
  .obtain⟨aU,r,pl,_⟩:=I.list ha;obtain⟨cH,r2,tR,_⟩:=I.list hb;have l1:=r.length;have l2:=r2.length;have q:=SeqAt.RcAt.lists (A:=A) (s:=s) (e:=λ_=>true) pl.isList tR.isList (by simp only [bQ];omega) ∅ (λj h1 h2=>jC r r2 p (λx y u v d r1 r2=>sS I n A.in1 x y u v d r1 r2 (by rw [oO];omega)) j h1 h2);have e:((List.range aU.toArray.size).all λ_=>true)=true:=by simp
   rw [e] at q;exact q
  obtain⟨aU,r,pl,_⟩:=I.tuple ha;obtain⟨cH,r2,tR,_⟩:=I.tuple hb;have l1:=r.length;have l2:=r2.length;have q:=SeqAt.RcAt.tuples (A:=A) (s:=s) (e:=λ_=>true) pl tR ∅ (λj h1 h2=>jC r r2 p (λx y u v d r1 r2=>sS I n A.in1 x y u v d r1 r2 (by rw [oO];omega)) j h1 h2);have e1:((List.range (min aU.toArray.size cH.toArray.size)).all (λ_=>true) && aU.toArray.size == cH.toArray.size)=true:=by
   have:aU.toArray.size=cH.toArray.size:=by simp only [bQ];omega
   rw [this];simp
  rw [e1] at q;exact q
def JT (K:a9)(b:Bool) (n:Nat):V->V->Hp->VK->Prop:=λx y H Q=>∃p q xs ys,x=.ref p/\y=.ref q/\aI K H p xs/\aI K H q ys/\Paired (uU K H n) xs ys/\Q (.bl b) H
def rX {X:Cx}(n:Nat)(hu:X.A.units+(n+1) < cLine):ji X (compareOp .NotEq) (JT X.K false n):=by
 intro ag s σ H x y v u Q I rx ry h;obtain⟨a,b,xs,ys,rfl,rfl,ha,hb,p,q⟩:=h;cases rx;cases ry;obtain⟨aU,r,pl,hz⟩:=I.list ha;obtain⟨cH,r2,tR,NJ⟩:=I.list hb;have l1:=r.length;have l2:=r2.length;have lp:=aY p;refine SeqAt.RcNeAt.lists (e:=λ_=>true) pl.isList tR.isList (by simp only [bQ];omega) ∅ (λj h1 h2=>jC r r2 p (λx y u v d r1 r2=>sS I n X.A.in1 x y u v d r1 r2 (by rw [oO];omega)) j h1 h2) X.prog X.w X.xe _ ?_;have e:(!(List.range aU.toArray.size).all λ_=>true)=false:=by simp
 rw [e];exact⟨.bl false,H,I,rfl,q⟩
section
variable {prog:Program}{w:World}{A:Around}{E:Value->Shared->Prop}{s:Shared}
abbrev d5 (h:Heap)(z:Addr)(f0 f1:Value)(TI TO:Addr):Prop:=h.get? z=some { cls:=.type "zip",data:=.fields #[f0,f1,.bool false,.ref TI,.ref TO] }
def qa {M:Model}{a:Addr}{Q:Option Obj->Shared->Prop}(h:Q (s.heap.get? a) s):wpAny M A (loadIfAlive a) Q E s:=by
 intro Γ p _;show Sem.wp M Γ (Sem.loadIfAlive a Sem.pure) _ _ p s;rw [Sem.wp_loadIfAlive];exact h
def B0 {z TI TO i1 i2 l1 l2:Addr}{i:Nat}{xs ys:Array Value}{x y a b f0 f1:Value}{Q:Option Value->Shared->Prop}(ap:ZipApart z TI TO i1 i2 l1 l2)(hz:d5 s.heap z f0 f1 TI TO)(hI:IsPair s.heap TI (.ref i1) (.ref i2))(hO:IsPair s.heap TO a b)
  (h1:s.heap.IsTupleIter i1 l1 i)(h2:s.heap.IsTupleIter i2 l2 i)(t1:s.heap.IsTuple l1 xs)(t2:s.heap.IsTuple l2 ys)(hx:xs[i]?=some x)(hy:ys[i]?=some y)(hf:f0=.none\/∃T:Nat,f0=rawInt T)
  (hQ:∀h' QC V2 a' b',d5 h' z QC V2 TI TO->(QC=.none\/∃T:Nat,QC=rawInt T)->IsPair h' TO a' b'->h'.IsTupleIter i1 l1 (i+1)->h'.IsTupleIter i2 l2 (i+1)->IsPair h' s.heap.objs.size x y ->
   (∀c o,c≠z->c≠TO->c≠i1->c≠i2->s.heap.get? c=some o->h'.get? c=some o)->Q (some (.ref s.heap.objs.size)) { s with heap:=h' }) :
  wpAny (model prog w) A (pyNext (.ref z)) Q E s:=by
 have hT:s.TypeIs (.ref z) "zip" := ⟨_,hz,rfl⟩;unfold pyNext;refine ar (oG (mV (name:=Str.ofString "__next__") hT F.slot_zip_next (lP F.slot_zip_next hT F.entry_zip_next ?_ (F.args_zip_next_1 _))));obtain⟨hp,g,d,tk,os⟩:=s;show wpAny _ _ (field (.ref z) 2 >>= λv=>_) _ _ _;refine ar (d_ hz rfl (x:=.bool false) (by rfl) ?_);show wpAny _ _ (field (.ref z) 3 >>= λv=>_) _ _ _;refine ar (d_ hz rfl (x:=.ref TI) (by rfl) (ar (jk hI rfl ?_)));show wpAny _ _ (Builtin.SmallTypes.ownedTupleIsFree (.ref z) >>= λv=>_) _ _ _;have free:∀(Q':Bool->Shared->Prop) E',Q' true ⟨hp,g,d,tk,os⟩->(∀h',d5 h' z f0 (.bool true) TI TO->Heap.SameBut z hp h'->Q' false ⟨h',g,d,tk,os⟩)->wpAny (model prog w) A.in1 (Builtin.SmallTypes.ownedTupleIsFree (.ref z)) Q' E' ⟨hp,g,d,tk,os⟩:=by
  intro Q' E' q1 q2;unfold Builtin.SmallTypes.ownedTupleIsFree;refine ar (d_ hz rfl (x:=f0) (by rfl) ?_);rcases hf with rfl | ⟨T,rfl⟩
  .exact aR q1
  show wpAny _ _ (loadIfAlive (T:Int).toNat >>= λv=>_) _ _ _;refine ar (qa ?_);by_cases c:(hp.get? (T:Int).toNat).isNone=true
  .show wpAny _ _ (if (hp.get? (T:Int).toNat).isNone=true then _ else _) _ _ _;rw [ax c];exact aR q1
  show wpAny _ _ (if (hp.get? (T:Int).toNat).isNone=true then _ else _) _ _ _;rw [az c];refine ar (d_ hz rfl (x:=f1) (by rfl) ?_);by_cases c2:f1=.bool true
  .subst c2;show wpAny _ _ (if (Value.bool true != Value.bool true)=true then _ else _) _ _ _;rw [az (by simp)];exact aR (q2 hp hz ⟨rfl,λ_ _=>rfl⟩)
  show wpAny _ _ (if (f1 != Value.bool true)=true then _ else _) _ _ _;rw [ax (by simpa using c2)];exact ar (jX hz (by simp) λh' f' k'=>aR (q2 h' f' k'))
 refine ar (free _ _ ?_ λh' RH sb=>?_)
 .show wpAny _ _ (rule _ >>= λ_=>_) _ _ _;refine ar (i_ (ar (d_ hz rfl (x:=.ref TO) (by rfl) ?_)));show wpAny _ _ (setField (.ref z) 0 .ellipsis >>= λ_=>_) _ _ _;refine ar (jX hz (by simp) λh₁ f₁ k₁=>?_);replace k₁:Heap.SameBut z hp h₁:=k₁;have UM:d5 h₁ z .ellipsis f1 TI TO:=f₁;have VG:IsPair h₁ TO a b:=k₁.extBut _ _ ap.TOz hO;have a₁:h₁.IsTupleIter i1 l1 i:=h1.at λo q=>k₁.extBut i1 o ap.i1z q;have b₁:h₁.IsTupleIter i2 l2 i:=h2.at λo q=>k₁.extBut i2 o ap.i2z q;have c₁:h₁.IsTuple l1 xs:=t1.extBut k₁.extBut ap.l1z;have d₁:h₁.IsTuple l2 ys:=t2.extBut k₁.extBut ap.l2z;refine ar ?_;show wpAny _ _ (forIn [(Value.ref i1,0),(Value.ref i2,1)] (none,()) _) _ _ ⟨h₁,g,d,tk,os⟩;rw [mP];refine ar (ar (wpAny_onRaise ?_));show wpAny _ _ (Builtin.SmallTypes.nextOf (.ref i1) >>= λv=>pure (some v)) _ _ _;refine ar (iO a₁ c₁ hx λh₂ a₂ k₂=>aR ?_);replace k₂:Heap.SameBut i1 h₁ h₂:=k₂;have FZ:d5 h₂ z .ellipsis f1 TI TO:=k₂.extBut _ _ (cO ap.i1z) UM;have RX:IsPair h₂ TO a b:=k₂.extBut _ _ ap.TOi1 VG;have b₂:h₂.IsTupleIter i2 l2 i:=b₁.at λo q=>k₂.extBut i2 o (cO ap.i12) q;have d₂:h₂.IsTuple l2 ys:=d₁.extBut k₂.extBut ap.l2i1;show wpAny _ _ (seqItems? (.ref TO) >>= λv=>_) _ _ ⟨h₂,g,d,tk,os⟩;refine ar (jk RX rfl ?_);show wpAny _ _ (updateSeq TO (λSK=>SK.setIfInBounds 0 x) >>= λ_=>_) _ _ _;refine ar (wpAny_updateSeq_pair RX λh₃ f₃ k₃=>ar (wpAny_letGo (aR ?_)));replace k₃:Heap.SameBut TO h₂ h₃:=k₃;have hO₃:IsPair h₃ TO x b:=f₃;have hz₃:d5 h₃ z .ellipsis f1 TI TO:=k₃.extBut _ _ (cO ap.TOz) FZ;have a₃:h₃.IsTupleIter i1 l1 (i+1):=a₂.at λo q=>k₃.extBut i1 o (cO ap.TOi1) q;have b₃:h₃.IsTupleIter i2 l2 i:=b₂.at λo q=>k₃.extBut i2 o (cO ap.TOi2) q;have d₃:h₃.IsTuple l2 ys:=d₂.extBut k₃.extBut ap.l2TO;show wpAny _ _ (forIn [(Value.ref i2,1)] (none,()) _) _ _ ⟨h₃,g,d,tk,os⟩;rw [mP];refine ar (ar (wpAny_onRaise ?_));show wpAny _ _ (Builtin.SmallTypes.nextOf (.ref i2) >>= λv=>pure (some v)) _ _ _;refine ar (iO b₃ d₃ hy λh₄ b₄ k₄=>aR ?_);replace k₄:Heap.SameBut i2 h₃ h₄:=k₄;have UL:d5 h₄ z .ellipsis f1 TI TO:=k₄.extBut _ _ (cO ap.i2z) hz₃;have RW:IsPair h₄ TO x b:=k₄.extBut _ _ ap.TOi2 hO₃;have a₄:h₄.IsTupleIter i1 l1 (i+1):=a₃.at λo q=>k₄.extBut i1 o ap.i12 q;show wpAny _ _ (seqItems? (.ref TO) >>= λv=>_) _ _ ⟨h₄,g,d,tk,os⟩;refine ar (jk RW rfl ?_);show wpAny _ _ (updateSeq TO (λSK=>SK.setIfInBounds 1 y) >>= λ_=>_) _ _ _;refine ar (wpAny_updateSeq_pair RW λh₅ f₅ k₅=>ar (wpAny_letGo (aR ?_)));replace k₅:Heap.SameBut TO h₄ h₅:=k₅;have Y1:IsPair h₅ TO x y:=f₅;have hz₅:d5 h₅ z .ellipsis f1 TI TO:=k₅.extBut _ _ (cO ap.TOz) UL;have a₅:h₅.IsTupleIter i1 l1 (i+1):=a₄.at λo q=>k₅.extBut i1 o (cO ap.TOi1) q;have b₅:h₅.IsTupleIter i2 l2 (i+1):=b₄.at λo q=>k₅.extBut i2 o (cO ap.TOi2) q;show wpAny _ _ (pure (none,())) _ _ ⟨h₅,g,d,tk,os⟩;refine aR ?_;show wpAny _ _ (seqItems? (.ref TO) >>= λv=>_) _ _ ⟨h₅,g,d,tk,os⟩;refine ar (jk Y1 rfl ?_);show wpAny _ _ (newTuple [x,y] >>= λv=>_) _ _ ⟨h₅,g,d,tk,os⟩;have hsz:h₅.objs.size=hp.objs.size:=by rw [k₅.1,k₄.1,k₃.1,k₂.1,k₁.1]
  refine ar (qS ?_);rw [hsz];have up:∀{c o},h₅.get? c=some o->(h₅.push { cls:=.type "tuple",data:=.seq #[x,y] }).get? c=some o:=λq=>bI _ q;have hN:IsPair (h₅.push { cls:=.type "tuple",data:=.seq #[x,y] }) hp.objs.size x y:=by
   show _=_;rw [<-hsz];exact cV _ rfl
  have Yu:=up hz₅;have Y0:=up Y1;have a₆:=a₅.at λo q=>up q;have b₆:=b₅.at λo q=>up q;have kk:∀c o,c≠z->c≠TO->c≠i1->c≠i2->hp.get? c=some o->(h₅.push { cls:=.type "tuple",data:=.seq #[x,y] }).get? c=some o:=λc o n1 n2 n3 n4 q=>up (k₅.extBut c o n2 (k₄.extBut c o n4 (k₃.extBut c o n2 (k₂.extBut c o n3 (k₁.extBut c o n1 q)))));have hzl:z < hp.objs.size:=ba hz;have hOl:TO < hp.objs.size:=ba hO;generalize h₅.push { cls:=.type "tuple",data:=.seq #[x,y] }=h₆ at hN Yu Y0 a₆ b₆ kk;refine ar (by
   unfold Builtin.SmallTypes.ownedTupleHandOut;refine ar (jX Yu (by simp) λh₇ f₇ k₇=>?_);have hz₇:d5 h₇ z (rawInt (hp.objs.size:Int)) f1 TI TO:=f₇;replace k₇:Heap.SameBut z h₆ h₇:=k₇;refine jX hz₇ (by simp) λh₈ f₈ k₈=>?_;have hz₈:d5 h₈ z (rawInt (hp.objs.size:Int)) (.bool false) TI TO:=f₈;replace k₈:Heap.SameBut z h₇ h₈:=k₈;have Ot:∀c o,c≠z->h₆.get? c=some o->h₈.get? c=some o:=λc o n q=>k₈.extBut c o n (k₇.extBut c o n q);exact aR ⟨_,rfl,aR (hQ h₈ _ _ _ _ hz₈ (.inr ⟨hp.objs.size,rfl⟩) (Ot _ _ ap.TOz Y0) (a₆.at λo q=>Ot _ _ ap.i1z q) (b₆.at λo q=>Ot _ _ ap.i2z q) (Ot _ _ (fc hzl) hN) λc o n1 n2 n3 n4 q=>Ot c o n1 (kk c o n1 n2 n3 n4 q))⟩)
 replace sb:Heap.SameBut z hp h':=sb;have a₁:h'.IsTupleIter i1 l1 i:=h1.at λo q=>sb.extBut i1 o ap.i1z q;have b₁:h'.IsTupleIter i2 l2 i:=h2.at λo q=>sb.extBut i2 o ap.i2z q;have c₁:h'.IsTuple l1 xs:=t1.extBut sb.extBut ap.l1z;have d₁:h'.IsTuple l2 ys:=t2.extBut sb.extBut ap.l2z;have VG:IsPair h' TO a b:=sb.extBut _ _ ap.TOz hO;show wpAny _ _ (forIn #[Value.ref i1,Value.ref i2] (none,#[]) _ >>= λv=>_) _ _ ⟨h',g,d,tk,os⟩;refine ar ?_;rw [show (#[Value.ref i1,Value.ref i2]:Array Value)=[Value.ref i1,Value.ref i2].toArray from rfl,List.forIn_toArray,mP];refine ar (ar (iG ?_));show wpAny _ _ (Builtin.SmallTypes.nextOf (.ref i1) >>= λv=>pure (some v)) _ _ _;refine ar (iO a₁ c₁ hx λh₂ a₂ k₂=>aR (aR ?_));replace k₂:Heap.SameBut i1 h' h₂:=k₂;have FZ:d5 h₂ z f0 (.bool true) TI TO:=k₂.extBut _ _ (cO ap.i1z) RH;have RX:IsPair h₂ TO a b:=k₂.extBut _ _ ap.TOi1 VG;have b₂:h₂.IsTupleIter i2 l2 i:=b₁.at λo q=>k₂.extBut i2 o (cO ap.i12) q;have d₂:h₂.IsTuple l2 ys:=d₁.extBut k₂.extBut ap.l2i1;show wpAny _ _ (forIn [Value.ref i2] (none,#[x]) _) _ _ ⟨h₂,g,d,tk,os⟩;rw [mP];refine ar (ar (iG ?_));show wpAny _ _ (Builtin.SmallTypes.nextOf (.ref i2) >>= λv=>pure (some v)) _ _ _;refine ar (iO b₂ d₂ hy λh₄ b₄ k₄=>aR (aR ?_));replace k₄:Heap.SameBut i2 h₂ h₄:=k₄;have UL:d5 h₄ z f0 (.bool true) TI TO:=k₄.extBut _ _ (cO ap.i2z) FZ;have RW:IsPair h₄ TO a b:=k₄.extBut _ _ ap.TOi2 RX;have a₄:h₄.IsTupleIter i1 l1 (i+1):=a₂.at λo q=>k₄.extBut i1 o ap.i12 q;show wpAny _ _ (pure (none,#[x,y])) _ _ ⟨h₄,g,d,tk,os⟩;refine aR ?_;show wpAny _ _ (newTuple [x,y] >>= λv=>_) _ _ ⟨h₄,g,d,tk,os⟩;have hsz:h₄.objs.size=hp.objs.size:=by rw [k₄.1,k₂.1,sb.1]
 refine ar (qS ?_);rw [hsz];have up:∀{c o},h₄.get? c=some o->(h₄.push { cls:=.type "tuple",data:=.seq #[x,y] }).get? c=some o:=λq=>bI _ q;have hN:IsPair (h₄.push { cls:=.type "tuple",data:=.seq #[x,y] }) hp.objs.size x y:=by
  show _=_;rw [<-hsz];exact cV _ rfl
 exact aR ⟨_,rfl,aR (hQ _ _ _ _ _ (up UL) hf (up RW) (a₄.at λo q=>up q) (b₄.at λo q=>up q) hN λc o n1 n2 n3 n4 q=>up (k₄.extBut c o n4 (k₂.extBut c o n3 (sb.extBut c o n1 q))))⟩
def DW {z TI TO i1 i2 l1 l2:Addr}{i:Nat}{xs:Array Value}{f0 f1:Value}{Q:Option Value->Shared->Prop}(hh:A.handled=none)(ap:ZipApart z TI TO i1 i2 l1 l2)(hz:d5 s.heap z f0 f1 TI TO)(hI:IsPair s.heap TI (.ref i1) (.ref i2))
  (h1:s.heap.IsTupleIter i1 l1 i)(t1:s.heap.IsTuple l1 xs)(hx:xs[i]?=none)(hf:f0=.none\/∃T:Nat,f0=rawInt T)
  (hQ:∀h',(∀c o,c≠z->c≠i1->s.heap.get? c=some o->h'.get? c=some o)->Q none { s with heap:=h' }):wpAny (model prog w) A (pyNext (.ref z)) Q E s:=by
 have hT:s.TypeIs (.ref z) "zip" := ⟨_,hz,rfl⟩;unfold pyNext;refine ar (oG (mV (name:=Str.ofString "__next__") hT F.slot_zip_next (lP F.slot_zip_next hT F.entry_zip_next ?_ (F.args_zip_next_1 _))));obtain⟨hp,g,d,tk,os⟩:=s;show wpAny _ _ (field (.ref z) 2 >>= λv=>_) _ _ _;refine ar (d_ hz rfl (x:=.bool false) (by rfl) ?_);show wpAny _ _ (field (.ref z) 3 >>= λv=>_) _ _ _;refine ar (d_ hz rfl (x:=.ref TI) (by rfl) (ar (jk hI rfl ?_)));show wpAny _ _ (Builtin.SmallTypes.ownedTupleIsFree (.ref z) >>= λv=>_) _ _ _;have free:∀(Q':Bool->Shared->Prop) E',Q' true ⟨hp,g,d,tk,os⟩->(∀h',d5 h' z f0 (.bool true) TI TO->Heap.SameBut z hp h'->Q' false ⟨h',g,d,tk,os⟩)->wpAny (model prog w) A.in1 (Builtin.SmallTypes.ownedTupleIsFree (.ref z)) Q' E' ⟨hp,g,d,tk,os⟩:=by
  intro Q' E' q1 q2;unfold Builtin.SmallTypes.ownedTupleIsFree;refine ar (d_ hz rfl (x:=f0) (by rfl) ?_);rcases hf with rfl | ⟨T,rfl⟩
  .exact aR q1
  show wpAny _ _ (loadIfAlive (T:Int).toNat >>= λv=>_) _ _ _;refine ar (qa ?_);by_cases c:(hp.get? (T:Int).toNat).isNone=true
  .show wpAny _ _ (if (hp.get? (T:Int).toNat).isNone=true then _ else _) _ _ _;rw [ax c];exact aR q1
  show wpAny _ _ (if (hp.get? (T:Int).toNat).isNone=true then _ else _) _ _ _;rw [az c];refine ar (d_ hz rfl (x:=f1) (by rfl) ?_);by_cases c2:f1=.bool true
  .subst c2;show wpAny _ _ (if (Value.bool true != Value.bool true)=true then _ else _) _ _ _;rw [az (by simp)];exact aR (q2 hp hz ⟨rfl,λ_ _=>rfl⟩)
  show wpAny _ _ (if (f1 != Value.bool true)=true then _ else _) _ _ _;rw [ax (by simpa using c2)];exact ar (jX hz (by simp) λh' f' k'=>aR (q2 h' f' k'))
 have stop:∀(h':Heap)(e:Addr),(∀c o,c≠z->c≠i1->hp.get? c=some o->h'.get? c=some o)->(∃o,h'.get? e=some o/\o.cls=.type "StopIteration")->wpAny (model prog w) A (match (Except.error (Value.ref e):Except Value (Option Value)) with
   | Except.ok (some v)=>pure (some v)
   | Except.ok none=>unsupported "iter:the-iterator's-class-has-lost-its-__next__-amid-the-walk"
   | Except.error e=>do
    if <-isInstance e (.type "StopIteration") then pure none else throw e) Q E ⟨h',g,d,tk,os⟩:=λh' e kk hs=>by
  obtain⟨o,ho,hc⟩:=hs;exact ar (wpAny_isInstance (T := "StopIteration") (b:=true) ⟨o,ho,hc⟩ isSubtype_stop (aR (hQ h' kk)))
 refine ar (free _ _ ?_ λh' RH sb=>?_)
 .show wpAny _ _ (rule _ >>= λ_=>_) _ _ _;refine ar (i_ (ar (d_ hz rfl (x:=.ref TO) (by rfl) ?_)));show wpAny _ _ (setField (.ref z) 0 .ellipsis >>= λ_=>_) _ _ _;refine ar (jX hz (by simp) λh₁ f₁ k₁=>?_);replace k₁:Heap.SameBut z hp h₁:=k₁;have UM:d5 h₁ z .ellipsis f1 TI TO:=f₁;have a₁:h₁.IsTupleIter i1 l1 i:=h1.at λo q=>k₁.extBut i1 o ap.i1z q;have c₁:h₁.IsTuple l1 xs:=t1.extBut k₁.extBut ap.l1z;refine ar ?_;show wpAny _ _ (forIn [(Value.ref i1,0),(Value.ref i2,1)] (none,()) _) _ _ ⟨h₁,g,d,tk,os⟩;rw [mP];refine ar (ar (wpAny_onRaise ?_));show wpAny _ _ (Builtin.SmallTypes.nextOf (.ref i1) >>= λv=>pure (some v)) _ _ _;refine ar (iN (show A.in1.handled=none from hh) a₁ c₁ hx λh₂ e k₂ hs=>?_);replace k₂:Heap.ExtBut i1 h₁ h₂:=k₂;have FZ:d5 h₂ z .ellipsis f1 TI TO:=k₂ _ _ (cO ap.i1z) UM;refine jX FZ (by simp) λh₃ f₃ k₃=>?_;replace k₃:Heap.SameBut z h₂ h₃:=k₃;refine stop h₃ e (λc o n1 n2 q=>k₃.extBut c o n1 (k₂ c o n2 (k₁.extBut c o n1 q))) ?_;obtain⟨o,ho,hc⟩:=hs;have ne:e≠z:=λy=>by
   rw [y] at ho;have:=gR (ho.symm.trans FZ);rw [this] at hc;exact absurd (show Value.type "zip"=Value.type "StopIteration" from hc) (by decide)
  exact⟨o,k₃.extBut e o ne ho,hc⟩
 replace sb:Heap.SameBut z hp h':=sb;have a₁:h'.IsTupleIter i1 l1 i:=h1.at λo q=>sb.extBut i1 o ap.i1z q;have c₁:h'.IsTuple l1 xs:=t1.extBut sb.extBut ap.l1z;show wpAny _ _ (forIn #[Value.ref i1,Value.ref i2] (none,#[]) _ >>= λv=>_) _ _ ⟨h',g,d,tk,os⟩;refine ar ?_;rw [show (#[Value.ref i1,Value.ref i2]:Array Value)=[Value.ref i1,Value.ref i2].toArray from rfl,List.forIn_toArray,mP];refine ar (ar (iG ?_));show wpAny _ _ (Builtin.SmallTypes.nextOf (.ref i1) >>= λv=>pure (some v)) _ _ _;refine ar (iN (show A.in1.handled=none from hh) a₁ c₁ hx λh₂ e k₂ hs=>?_);replace k₂:Heap.ExtBut i1 h' h₂:=k₂;exact stop h₂ e (λc o n1 n2 q=>k₂ c o n2 (sb.extBut c o n1 q)) hs
end
def zT (h:Heap)(l1 l2:Addr):Heap :=
 ((((h.push { cls:=.type "tuple_iterator",data:=.fields #[.ref l1,.int 0 0] }).push { cls:=.type "tuple_iterator",data:=.fields #[.ref l2,.int 0 0] }).push
  { cls:=.type "tuple",data:=.seq #[.ref h.objs.size,.ref (h.objs.size+1)] }).push { cls:=.type "tuple",data:=.seq #[.none,.none] }).push
  { cls:=.type "zip",data:=.fields #[.none,.bool false,.bool false,.ref (h.objs.size+2),.ref (h.objs.size+3)] }
def vW (a b:Value):Builtin.SmallTypes.newClass "zip" ⟨[.type "zip",a,b],[]⟩=pure (.type "zip",[a,b]):=by
 unfold Builtin.SmallTypes.newClass;show (isType (.type "zip") >>= λv=>_)=_;have e:isType (.type "zip")=pure true:=rfl;rw [e];show (isSubtype (.type "zip") (.type "zip") >>= λv=>_)=_;rw [sub_zip];rfl
def zX (l1 l2:Addr)(xs ys:Array Value):Meets (Builtin.«zip.__new__» ⟨[.type "zip",.ref l1,.ref l2],[]⟩) λ_ R s =>
  s.heap.IsTuple l1 xs/\s.heap.IsTuple l2 ys/\R (.ok (.ret (.ref (s.heap.objs.size+4)))) { s with heap:=zT s.heap l1 l2 }:=by
 refine Meets.of_wp λprog w A R s h=>?_;obtain⟨t1,t2,q⟩:=h;obtain⟨hp,g,d,tk,os⟩:=s;unfold Builtin.«zip.__new__»;rw [vW];refine ar (aR ?_);show wpAny _ _ (Builtin.SmallTypes.iterAll [.ref l1,.ref l2] >>= λv=>_) _ _ _;refine ar (by
  unfold Builtin.SmallTypes.iterAll;refine ar ?_;rw [mP];refine ar (ar (iG (oV t1 (aR ?_))));show wpAny _ _ (forIn [Value.ref l2] #[Value.ref hp.objs.size] _) _ _ _;rw [mP];refine ar (ar (iG (oV (t2.push _) (aR ?_))));show wpAny _ _ (pure #[Value.ref hp.objs.size,Value.ref _]) _ _ _;refine aR (aR ?_);show wpAny _ _ (newTuple [.ref hp.objs.size,.ref _] >>= λv=>_) _ _ _;refine ar (qS ?_);show wpAny _ _ (newTuple [.none,.none] >>= λv=>_) _ _ _;refine ar (qS ?_);show wpAny _ _ (newObj (.type "zip") (.fields #[.none,.bool false,.bool false,.ref _,.ref _]) >>= λv=>_) _ _ _;refine ar (iV ?_ (by size_fits));refine aR ⟨_,rfl,?_⟩;simp only [jj];exact q)
def Dm {prog:Program}{w:World}{A:Around}{E:Value->Shared->Prop}{s:Shared}{l1 l2:Addr}{xs ys:Array Value}{Q:Value->Shared->Prop}(t1:s.heap.IsTuple l1 xs)(t2:s.heap.IsTuple l2 ys)
  (hQ:Q (.ref (s.heap.objs.size+4)) { s with heap:=zT s.heap l1 l2 }):wpAny (model prog w) A (call (.type "zip") [.ref l1,.ref l2]) Q E s:=by
 refine callType_new F.called_zip rfl (F.typeCall_zip_2 _ _) (F.newCall_zip_2 _ _) (λobj=>F.args_object_init_3 _ _ _) F.entry_zip_new (zX l1 l2 xs ys) ⟨t1,t2,?_⟩;refine⟨?_,hQ⟩;refine⟨{ cls:=.type "zip",data:=.fields #[.none,.bool false,.bool false,.ref (s.heap.objs.size+2),.ref (s.heap.objs.size+3)] },?_,rfl⟩;show (zT s.heap l1 l2).get? (s.heap.objs.size+4)=_;unfold zT;have e:((((s.heap.push { cls:=.type "tuple_iterator",data:=.fields #[.ref l1,.int 0 0] }).push { cls:=.type "tuple_iterator",data:=.fields #[.ref l2,.int 0 0] }).push
  { cls:=.type "tuple",data:=.seq #[.ref s.heap.objs.size,.ref (s.heap.objs.size+1)] }).push { cls:=.type "tuple",data:=.seq #[.none,.none] }).objs.size=s.heap.objs.size+4:=by simp only [jj]
 rw [<-e];exact cV _ rfl
structure Nl (h:Heap)(z TI TO i1 i2 l1 l2:Addr)(xs ys:Array Value) (i:Nat):Prop where
 hz:∃f0 f1,d5 h z f0 f1 TI TO/\(f0=.none\/∃T:Nat,f0=rawInt T)
 hI:IsPair h TI (.ref i1) (.ref i2)
 hO:∃a b,IsPair h TO a b
 h1:h.IsTupleIter i1 l1 i
 h2:h.IsTupleIter i2 l2 i
 t1:h.IsTuple l1 xs
 t2:h.IsTuple l2 ys
def jo {h h':Heap}{l:Addr}{xs:Array Value}(t:h.IsTuple l xs)(k:∀o,h.get? l=some o->h'.get? l=some o):h'.IsTuple l xs:=by
 obtain⟨o,a,b,c⟩:=t;exact⟨o,k o a,b,c⟩
def k_ (h:Heap) (N:Nat)(xs ys bz:Array Value):Prop:=∃Ts:List Nat,bz.toList=Ts.map Value.ref/\Ts.Pairwise (· < ·)/\∀(j T:Nat),Ts[j]?=some T->N<=T/\∃x y:Value,IsPair h T x y/\xs[j]?=some x/\ys[j]?=some y
def k_.keep {h h':Heap}{N:Nat}{xs ys bz:Array Value}(a:k_ h N xs ys bz)(k:∀(T:Nat) o,N<=T->h.get? T=some o->h'.get? T=some o):k_ h' N xs ys bz:=by
 obtain⟨Ts,e1,e2,e3⟩:=a;refine⟨Ts,e1,e2,λj T hj=>?_⟩;obtain⟨l,x,y,p,q⟩:=e3 j T hj;exact⟨l,x,y,k T _ l p,q⟩
def k_.more {h:Heap}{N T0:Nat}{xs ys bz:Array Value}{x y:Value}(a:k_ h N xs ys bz)(lt:∀(Ts:List Nat),bz.toList=Ts.map Value.ref->∀T∈Ts,T < T0)(hN:N<=T0)(p:IsPair h T0 x y)(hx:xs[bz.size]?=some x)(hy:ys[bz.size]?=some y):k_ h N xs ys (bz.push (.ref T0)):=by
 obtain⟨Ts,e1,e2,e3⟩:=a;have el:Ts.length=bz.size:=by
  have:=congrArg List.length e1;rw [au] at this;rw [<-this];simp
 refine⟨Ts++[T0],by rw [Array.toList_push,e1,bF];rfl,List.pairwise_append.mpr ⟨e2,by simp,λT hT b hb=>by rw [bU.mp hb];exact lt Ts e1 T hT⟩,λj T hj=>?_⟩;by_cases c:j < Ts.length
 .rw [mX c] at hj;exact e3 j T hj
 rw [lQ ∅] at hj;have c2:j - Ts.length=0:=by
  have:=(bq.mp hj).1;simp at this;omega
 rw [c2] at hj;cases hj;have:j=bz.size:=by omega
 rw [this];exact⟨hN,x,y,p,hx,hy⟩
def DV {prog:Program}{w:World}{A:Around}{R:Result->Shared->Prop}{S z TI TO i1 i2 l1 l2:Addr}{xs ys:Array Value}{res:Value}{N n:Nat}(hh:A.handled=none)(ap:ZipApart z TI TO i1 i2 l1 l2)(ex:xs.size=n)(ey:ys.size=n)(hn:n<=1000000)
  (lz:z < N/\TI < N/\TO < N/\i1 < N/\i2 < N/\l1 < N/\l2 < N/\S < N)(nS:S≠z/\S≠TI/\S≠TO/\S≠i1/\S≠i2/\S≠l1/\S≠l2) :
  ∀(k i:Nat)(s:Shared)(bz:Array Value) (c:Nat),n - i=k->i<=n->N<=s.heap.objs.size->Nl s.heap z TI TO i1 i2 l1 l2 xs ys i->s.heap.get? S=some { cls:=.type "list",data:=.seq bz c }->bz.size=i->k_ s.heap N xs ys bz ->
   (∀(h':Heap)(AE:Array Value) (c':Nat),(∀b o,b≠S->b≠z->b≠TO->b≠i1->b≠i2->s.heap.get? b=some o->h'.get? b=some o)->h'.get? S=some { cls:=.type "list",data:=.seq AE c' }->AE.size=n->k_ h' N xs ys AE->R (.ok (.ret res)) { s with heap:=h' }) ->
   codeAny (model prog w) A (Code.builtin "list.extend.loop" ⟨[.ref S,.ref z,res],[]⟩) R s:=by
 have Ko:∀T:Nat,N<=T->T≠S/\T≠z/\T≠TO/\T≠i1/\T≠i2:=λT h=>⟨fc (eU lz.2.2.2.2.2.2.2 h),fc (eU lz.1 h),fc (eU lz.2.2.1 h),fc (eU lz.2.2.2.1 h),fc (eU lz.2.2.2.2.1 h)⟩;intro k
 induction k with
 | zero =>
  intro i s bz c hk hi hN st hS ha lI q;have e:i=n:=by omega
  subst e;refine me F.entry_extend_loop ?_;rw [qP uX];show wpAny _ _ (pyNext (.ref z) >>= λv=>_) _ _ _;obtain⟨f0,f1,hz,hf⟩:=st.hz;refine ar (DW (show A.in1.handled=none from hh) ap hz st.hI st.h1 st.t1 (by rw [yF ∅]) hf λh' kk=>?_);refine aR ?_;exact q h' bz c (λb o n1 n2 n3 n4 n5 hb=>kk b o n2 n4 hb) (kk _ _ nS.1 nS.2.2.2.1 hS) ha (lI.keep λT o l hT=>kk _ _ (Ko T l).2.1 (Ko T l).2.2.2.1 hT)
 | succ k ih =>
  intro i s bz c hk hi hN st hS ha lI q;refine me F.entry_extend_loop ?_;rw [qP uX];show wpAny _ _ (pyNext (.ref z) >>= λv=>_) _ _ _;obtain⟨f0,f1,hz,hf⟩:=st.hz;obtain⟨a,b,hO⟩:=st.hO;obtain⟨x0,hx⟩:∃x0,xs[i]?=some x0:=⟨xs[i]'∅,Array.getElem?_eq_getElem ∅⟩;obtain⟨y0,hy⟩:∃y0,ys[i]?=some y0:=⟨ys[i]'∅,Array.getElem?_eq_getElem ∅⟩;refine ar (B0 (A:=A.in1) ap hz st.hI hO st.h1 st.h2 st.t1 st.t2 hx hy hf λh' QC V2 a' b' RH hf' hO' VU VS hN' kk=>?_);show wpAny _ _ (updateSeq S (λu=>u.push (.ref s.heap.objs.size)) >>= λ_=>_) _ _ _;have YY:h'.get? S=some { cls:=.type "list",data:=.seq bz c }:=kk _ _ nS.1 nS.2.2.1 nS.2.2.2.1 nS.2.2.2.2.1 hS;have sz1:bz.size<=sizeLine:=fits ∅;have sz2:(bz.push (Value.ref s.heap.objs.size)).size<=sizeLine+1:=by rw [Array.size_push];omega
  refine ar (qV YY rfl ?_ sz1 sz2);refine aR ⟨kC uX _,?_⟩;have up:∀b o,b≠S->h'.get? b=some o->(h'.update S (Obj.mapSeq λu=>u.push (.ref s.heap.objs.size))).get? b=some o:=λb o nb hb=>by
   rw [o5 _ _ (cO nb)];exact hb
  have lt:∀b o,s.heap.get? b=some o->b≠s.heap.objs.size:=λb o hb=>bM (ba hb);obtain⟨c2,YX⟩:∃c2,(h'.update S (Obj.mapSeq λu=>u.push (.ref s.heap.objs.size))).get? S=some { cls:=.type "list",data:=.seq (bz.push (.ref s.heap.objs.size)) c2 }:=⟨_,oZ _ YY rfl⟩;have VH:=up _ _ (Ko _ hN).1 hN';generalize h'.update S (Obj.mapSeq λu=>u.push (.ref s.heap.objs.size))=h₂ at up YX VH;have st₂:Nl h₂ z TI TO i1 i2 l1 l2 xs ys (i+1):=⟨⟨QC,V2,up _ _ nS.1.symm RH,hf'⟩,up _ _ nS.2.1.symm (kk _ _ ap.TIz ap.TITO ap.TIi1 ap.TIi2 st.hI),⟨a',b',up _ _ nS.2.2.1.symm hO'⟩,
   VU.at λo q=>up _ _ nS.2.2.2.1.symm q,VS.at λo q=>up _ _ nS.2.2.2.2.1.symm q,jo st.t1 λo q=>up _ _ nS.2.2.2.2.2.1.symm (kk _ _ ap.l1z ap.l1TO ap.l1i1 ap.l1i2 q),jo st.t2 λo q=>up _ _ nS.2.2.2.2.2.2.symm (kk _ _ ap.l2z ap.l2TO ap.l2i1 ap.l2i2 q)⟩
  refine ih (i+1) ⟨h₂,s.gens,s.drawn,s.toks,s.os⟩ (bz.push (.ref s.heap.objs.size)) c2 ∅ ∅ (fV hN (jG (ba VH))) st₂ YX (by rw [Array.size_push,ha]) ?_ λh₃ AE c' k₃ e₃ s₃ a₃=>?_
  .have WV:k_ h₂ N xs ys bz:=lI.keep λT o l hT=>up _ _ (Ko T l).1 (kk _ _ (Ko T l).2.1 (Ko T l).2.2.1 (Ko T l).2.2.2.1 (Ko T l).2.2.2.2 hT);refine WV.more (λTs eT T hT=>?_) hN VH (by rw [ha];exact hx) (by rw [ha];exact hy);obtain⟨Ts',e1,_,e3⟩:=lI;have:Ts'=Ts:=by
    have e:=e1.symm.trans eT;exact List.map_inj_right (λ_ _ z=>by cases z;rfl) |>.mp e
   subst this;obtain⟨j,hj⟩:=iu hT;obtain⟨_,x,y,p,_⟩:=e3 j T hj;exact ba p
  exact q h₃ AE c' (λb o n1 n2 n3 n4 n5 hb=>k₃ b o n1 n2 n3 n4 n5 (up _ _ n1 (kk _ _ n2 n3 n4 n5 hb))) e₃ s₃ a₃
def Nl.keep {h h':Heap}{z TI TO i1 i2 l1 l2:Addr}{xs ys:Array Value}{i:Nat}(st:Nl h z TI TO i1 i2 l1 l2 xs ys i)(k:∀b o,h.get? b=some o->h'.get? b=some o):Nl h' z TI TO i1 i2 l1 l2 xs ys i:=by
 obtain⟨⟨f0,f1,a,b⟩,hI,⟨c,d,hO⟩,h1,h2,t1,t2⟩:=st;exact⟨⟨f0,f1,k _ _ a,b⟩,k _ _ hI,⟨c,d,k _ _ hO⟩,h1.at λo q=>k _ _ q,h2.at λo q=>k _ _ q,jo t1 λo q=>k _ _ q,jo t2 λo q=>k _ _ q⟩
def yL:typeLookup (.type "zip") (Str.ofString "__len__")=pure none:=by kernel_rfl
def wO:typeLookup (.type "zip") (Str.ofString "__length_hint__")=pure none:=by kernel_rfl
def Az {prog:Program}{w:World}{A:Around}{E:Value->Shared->Prop}{s:Shared}{z TI TO i1 i2 l1 l2:Addr}{xs ys:Array Value}{n:Nat}{Q:Value->Shared->Prop}(hh:A.handled=none)(ap:ZipApart z TI TO i1 i2 l1 l2)(ex:xs.size=n)(ey:ys.size=n)(hn:n<=1000000)
  (Yv:d5 s.heap z .none (.bool false) TI TO)(st:Nl s.heap z TI TO i1 i2 l1 l2 xs ys 0)(lz:z < s.heap.objs.size/\TI < s.heap.objs.size/\TO < s.heap.objs.size/\i1 < s.heap.objs.size/\i2 < s.heap.objs.size/\l1 < s.heap.objs.size/\l2 < s.heap.objs.size)
  (hQ:∀(h':Heap)(bz:Array Value) (c:Nat),(∀b o,b≠z->b≠TO->b≠i1->b≠i2->s.heap.get? b=some o->h'.get? b=some o)->h'.get? s.heap.objs.size=some { cls:=.type "list",data:=.seq bz c }->bz.size=n->k_ h' (s.heap.objs.size+1) xs ys bz->Q (.ref s.heap.objs.size) { s with heap:=h' }) :
  wpAny (model prog w) A (call (.type "list") [.ref z]) Q E s:=by
 refine callType_codes (Q₁:=λobj s₁=>obj=.ref s.heap.objs.size/\s₁={ s with heap:=s.heap.push { cls:=.type "list",data:=.seq #[] } }) F.called_list (F.typeCall_list_1 _) F.entry_list_init (code_list_new _ ⟨rfl,rfl⟩) ?_;rintro obj s₁ ⟨rfl,rfl⟩;refine⟨⟨_,cV _ rfl,rfl⟩,F.args_list_init_2 _ _,?_⟩;have hS:(s.heap.push { cls:=.type "list",data:=.seq #[] }).get? s.heap.objs.size=some { cls:=.type "list",data:=.seq #[] }:=cV _ rfl;have up:∀b o,s.heap.get? b=some o->(s.heap.push { cls:=.type "list",data:=.seq #[] }).get? b=some o:=λb o q=>bI _ q;have Hh:s.heap.objs.size < (s.heap.push { cls:=.type "list",data:=.seq #[] }).objs.size:=ba hS;generalize s.heap.push { cls:=.type "list",data:=.seq #[] }=h₁ at hS up Hh;show wpAny _ _ (Builtin.List.listItems (.ref s.heap.objs.size) >>= λv=>_) _ _ _;refine ar (by
  unfold Builtin.List.listItems;refine ar (jk hS rfl (aR ?_));show wpAny _ _ (updateSeq s.heap.objs.size (λ_=>#[]) >>= λ_=>_) _ _ _;refine ar (qV hS rfl ?_ (by decide) (by decide));refine ar (wpAny_letGo ?_);have Qr:∃c2,(h₁.update s.heap.objs.size (Obj.mapSeq λ_=>#[])).get? s.heap.objs.size=some { cls:=.type "list",data:=.seq #[] c2 }:=⟨_,oZ _ hS rfl⟩;obtain⟨c2,Qr⟩:=Qr;have Xi:∀b o,b≠s.heap.objs.size->h₁.get? b=some o->(h₁.update s.heap.objs.size (Obj.mapSeq λ_=>#[])).get? b=some o:=λb o nb q=>by rw [o5 _ _ (cO nb)];exact q
  show wpAny _ _ (Builtin.List.listExtendWith (.ref s.heap.objs.size) (.ref z) .none) _ _ _;generalize h₁.update s.heap.objs.size (Obj.mapSeq λ_=>#[])=h₂ at Qr Xi;have nz:z≠s.heap.objs.size:=bM lz.1;have ko:∀b o,s.heap.get? b=some o->h₂.get? b=some o:=λb o q=>Xi _ _ (bM (ba q)) (up _ _ q);have FZ:=ko _ _ Yv;unfold Builtin.List.listExtendWith;refine ar (jV (T := "zip") ⟨_,FZ,rfl⟩ ?_);rw [az (by
   show ¬((s.heap.objs.size == z) || (Value.type "zip" == Value.type "list") || (Value.type "zip" == Value.type "tuple"))=true
   simp [cO nz])]
  refine ar (wpAny_pyIter_zip FZ ?_);refine ar (iG ?_);unfold Builtin.List.listLengthHint;refine ar (wpAny_specialOf (T := "zip") ⟨_,FZ,rfl⟩ yL ?_);show wpAny _ _ (specialOf (.ref z) (Str.ofString "__length_hint__") >>= λv=>_) _ _ _;refine ar (wpAny_specialOf (T := "zip") ⟨_,FZ,rfl⟩ wO ?_);show wpAny _ _ (pure true) _ _ _;refine aR ?_;show wpAny _ _ (rule _ >>= λ_=>_) _ _ _;refine ar (i_ (ar ?_));unfold Builtin.List.listTouch;show wpAny _ _ (updateSeq s.heap.objs.size (λx=>x.push Value.none) >>= λ_=>_) _ _ _;refine ar (qV Qr rfl ?_ (by decide) (by decide));obtain⟨c3,VD⟩:∃c3,(h₂.update s.heap.objs.size (Obj.mapSeq λx=>x.push Value.none)).get? s.heap.objs.size=some { cls:=.type "list",data:=.seq #[Value.none] c3 }:=⟨_,oZ _ Qr rfl⟩;have Xh:∀b o,b≠s.heap.objs.size->h₂.get? b=some o->(h₂.update s.heap.objs.size (Obj.mapSeq λx=>x.push Value.none)).get? b=some o:=λb o nb q=>by rw [o5 _ _ (cO nb)];exact q
  show wpAny _ _ (updateSeq s.heap.objs.size (λx=>x.pop)) _ _ ⟨h₂.update s.heap.objs.size (Obj.mapSeq λx=>x.push Value.none),s.gens,s.drawn,s.toks,s.os⟩;generalize h₂.update s.heap.objs.size (Obj.mapSeq λx=>x.push Value.none)=h₃ at VD Xh;refine qV VD rfl ?_ (by decide) (by decide);obtain⟨c4,VC⟩:∃c4,(h₃.update s.heap.objs.size (Obj.mapSeq λx=>x.pop)).get? s.heap.objs.size=some { cls:=.type "list",data:=.seq #[] c4 }:=⟨_,oZ _ VD rfl⟩;have Xg:∀b o,b≠s.heap.objs.size->h₃.get? b=some o->(h₃.update s.heap.objs.size (Obj.mapSeq λx=>x.pop)).get? b=some o:=λb o nb q=>by rw [o5 _ _ (cO nb)];exact q
  show wpAny _ _ (again (Code.builtin "list.extend.loop" ⟨[.ref s.heap.objs.size,.ref z,.none],[]⟩)) _ _ ⟨h₃.update s.heap.objs.size (Obj.mapSeq λx=>x.pop),s.gens,s.drawn,s.toks,s.os⟩;generalize h₃.update s.heap.objs.size (Obj.mapSeq λx=>x.pop)=h₄ at VC Xg;have Yi:∀b o,s.heap.get? b=some o->h₄.get? b=some o:=λb o q=>Xg _ _ (bM (ba q)) (Xh _ _ (bM (ba q)) (ko _ _ q));refine aR ⟨kC uX _,?_⟩;have lS:=ba VC;refine DV (N:=s.heap.objs.size+1) (n:=n) (show A.in1.handled=none from hh) ap ex ey hn ⟨kx lz.1,kx lz.2.1,kx lz.2.2.1,kx lz.2.2.2.1,kx lz.2.2.2.2.1,kx lz.2.2.2.2.2.1,kx lz.2.2.2.2.2.2,mS _⟩
   ⟨fc lz.1,fc lz.2.1,fc lz.2.2.1,fc lz.2.2.2.1,fc lz.2.2.2.2.1,fc lz.2.2.2.2.2.1,fc lz.2.2.2.2.2.2⟩ (n - 0) 0 ⟨h₄,s.gens,s.drawn,s.toks,s.os⟩ #[] c4 rfl (gA _) lS (st.keep Yi) VC rfl ⟨[],rfl,.nil,λj T hj=>by simp at hj⟩ λh' AE c' k' e' s' a'=>?_
  refine⟨rfl,hQ h' AE c' (λb o n1 n2 n3 n4 q=>k' b o (bM (ba q)) n1 n2 n3 n4 (Yi _ _ q)) e' s' a'⟩)
def Inv.Px {X:Cx}{ag:List (Addr×Obj)}{σ:St}{H H':Hp}{s:Shared}{h':Heap}{t':Nat}(I:Inv X ag σ H s)(k:∀b u,s.heap.get? b=some u->h'.get? b=some u)(hold:∀b:Nat,b < s.heap.objs.size->H' b=H b)
  (new:∀(b:Nat) u,s.heap.objs.size<=b->H' b=some u->cE X.prog X.w H' h' b u):Inv X ag σ H' { s with heap:=h',toks:=t' }:=by
 have lt:∀b u,H b=some u->b < s.heap.objs.size:=λb u e=>Nat.lt_of_not_le λz=>by rw [I.b0.fresh z] at e;cases e
 refine I.un ⟨λb o e _ _ _=>k b o e,λb o e _ _ _=>⟨o.slots,k b o e⟩,λb o e n _=>?_,λb o e _=>⟨o,k b o e⟩,λb xs e=>?_,λb o u e=>?_,λb ps e=>⟨#[],?_⟩⟩ λb u e=>?_
 .rw [hold b (ba e)];exact n
 .rw [hold b (lt b _ e)];exact e
 .rw [hold b (lt b _ e)];exact e
 .rw [hold b (lt b _ e),e];simp
 by_cases c:b < s.heap.objs.size
 .rw [hold b c] at e;exact(I.b0 b u e).j_ (λc v _ q=>k c v q) (λc q=>by rw [hold c (lt c _ q)];exact q) λc xs q=>by rw [hold c (lt c _ q)];exact q
 exact new b u (Nat.le_of_not_lt c) e
def HR (h:Heap)(l1 l2:Addr):(zT h l1 l2).objs.size=h.objs.size+5:=by
 unfold zT;simp only [jj]
def yN {h:Heap}{l1 l2 b:Addr}{o:Obj}(q:h.get? b=some o):(zT h l1 l2).get? b=some o:=by
 unfold zT;exact bI _ (bI _ (bI _ (bI _ (bI _ q))))
def nJ {h:Heap}{o:Obj}{n:Nat}(e:h.objs.size=n)(f:o.isFreed=false):(h.push o).get? n=some o:=by
 rw [<-e];exact cV _ f
def DX (h:Heap)(l1 l2:Addr):d5 (zT h l1 l2) (h.objs.size+4) .none (.bool false) (h.objs.size+2) (h.objs.size+3):=by
 unfold zT;exact nJ (by simp only [jj]) rfl
def Ol {h:Heap}{l1 l2:Addr}{xs ys:Array Value}(t1:h.IsTuple l1 xs)(t2:h.IsTuple l2 ys):Nl (zT h l1 l2) (h.objs.size+4) (h.objs.size+2) (h.objs.size+3) h.objs.size (h.objs.size+1) l1 l2 xs ys 0:=by
 refine⟨⟨_,_,DX h l1 l2,.inl rfl⟩,?_,⟨.none,.none,?_⟩,⟨{ cls:=.type "tuple_iterator",data:=.fields #[.ref l1,.int 0 0] },?_,rfl,rfl⟩,⟨{ cls:=.type "tuple_iterator",data:=.fields #[.ref l2,.int 0 0] },?_,rfl,rfl⟩,jo t1 λo q=>yN q,jo t2 λo q=>yN q⟩
 .exact bI _ (bI _ (nJ (by simp only [jj]) rfl))
 .exact bI _ (nJ (by simp only [jj]) rfl)
 .exact bI _ (bI _ (bI _ (bI _ (nJ rfl rfl))))
 exact bI _ (bI _ (bI _ (nJ (by simp only [jj]) rfl)))
theorem r9 {α:Type}:∀{ts:List Nat}{ps:List α}{j T:Nat}{p:α},ts.Pairwise (· < ·)->ts[j]?=some T->ps[j]?=some p->(ts.zip ps).lookup T=some p
 | t::ts,q::ps,0,T,p,_,e1,e2=>by
  cases e1;cases e2;simp
 | t::ts,q::ps,j+1,T,p,h,e1,e2=>by
  have hp:=List.pairwise_cons.mp h;have hT:T∈ts:=cf (show ts[j]?=some T from e1);have ne:(T == t)=false:=j4.mpr (λz=>by have:=hp.1 T hT;omega);rw [List.zip_cons_cons,List.lookup_cons,ne];exact r9 hp.2 e1 e2
 | [],_,_,_,_,_,e1,_=>by simp at e1
 | _::_,[],_,_,_,_,_,e2=>by simp at e2
theorem lookup_some {α:Type}:∀{ts:List Nat}{ps:List α}{T:Nat}{p:α},(ts.zip ps).lookup T=some p->∃j:Nat,ts[j]?=some T/\ps[j]?=some p
 | t::ts,q::ps,T,p,h=>by
  rw [List.zip_cons_cons,List.lookup_cons] at h;cases c:T == t with
  | true =>
   rw [c] at h;cases h;exact⟨0,by rw [beq_iff_eq.mp c];rfl,rfl⟩
  | false =>
   rw [c] at h;obtain⟨j,a,b⟩:=lookup_some h;exact⟨j+1,a,b⟩
 | [],_,_,_,h=>by simp at h
 | _::_,[],_,_,h=>by simp at h
def Eb (K:a9)(t:TA):TE:=λσ H Q=>t σ H λvs H1=>∃l1 l2 xs ys,vs=[.ref l1,.ref l2]/\aQ K H1 l1 xs/\aQ K H1 l2 ys/\xs.length=ys.length/\xs.length<=1000000 /\
 ∀(L:Addr)(ts:List Addr)(H2:Hp),H1 L=none->aC H1 H2->H2 L=some (.lst (ts.map V.ref))->Paired (λT (p:V×V)=>aQ K H2 T [p.1,p.2]) ts (xs.zip ys)->Q (.ref L) H2
def zG {X:Cx}{a b:Expr}{t:TA}{p1 p2 TN EZ:Pos}(hc:X.calm=true)(hgL:Gl X "list")(hmL:X.mg "list"=none)(hgZ:Gl X "zip")(hmZ:X.mg "zip"=none)(ha:PA X [a,b] t)
  (YU:starEach [.Call (.Name "zip" p2) [a,b] [] EZ] X.env=[(false,eval (.Call (.Name "zip" p2) [a,b] [] EZ) X.env)]:=by rfl)(he:starEach [a,b] X.env=(false,eval a X.env)::starEach [b] X.env:=by rfl)(yw:(backTo EZ (starEach [b] X.env)).any (·.1)=false:=by rfl) :
  PE X (.Call (.Name "list" p1) [.Call (.Name "zip" p2) [a,b] [] EZ] [] TN) (Eb X.K t):=by
 intro ag s σ H Q I h;refine mT (iQ I hgL hmL (by decide +kernel:bootBuiltins "list"=some (.type "list")) ?_ (by decide) (by decide));refine t_ ?_ YU rfl;rw [YU];show wpAny _ _ (spliced ((false,_)::[])) _ _ s;refine mh ?_;refine mT (iQ I hgZ hmZ (by decide +kernel:bootBuiltins "zip"=some (.type "zip")) ?_ (by decide) (by decide));refine t_ (cI (ha EZ ag s σ H _ I h) λus s1 ⟨vs,H1,I1,r1,q1⟩=>?_) he yw;obtain⟨l1,l2,xs,ys,rfl,hx,hy,hl,hn,q⟩:=q1;obtain⟨u1,u2,rfl,rx,ry⟩:=vals2 r1;cases (show u1=Value.ref l1 from rx);cases (show u2=Value.ref l2 from ry);obtain⟨i1,v1,t1,z1⟩:=I1.tuple hx;obtain⟨i2,v2,t2,z2⟩:=I1.tuple hy;refine Dm t1 t2 ?_;refine qY ?_;obtain⟨o1,g1,_,_⟩:=id t1;obtain⟨o2,g2,_,_⟩:=id t2;have X_:=ba g1;have X9:=ba g2;have e1:=v1.length;have e2:=v2.length;have sz:=HR s1.heap l1 l2;refine Az (n:=i1.length) (show X.A.handled=none from I1.ok.hd hc) (zipApart_new X_ X9) (by simp) (by simp;omega) ∅ (DX s1.heap l1 l2) (Ol t1 t2) ?_ λh' bz c kk hL hsz lI=>?_
 .show _ < (zT s1.heap l1 l2).objs.size/\_ < (zT s1.heap l1 l2).objs.size/\_ < (zT s1.heap l1 l2).objs.size/\_ < (zT s1.heap l1 l2).objs.size/\_ < (zT s1.heap l1 l2).objs.size/\_ < (zT s1.heap l1 l2).objs.size/\_ < (zT s1.heap l1 l2).objs.size;rw [sz];refine⟨∅,∅,∅,∅,∅,?_,?_⟩
  .exact q8 5 X_
  exact q8 5 X9
 replace kk:∀b o,b≠s1.heap.objs.size+4->b≠s1.heap.objs.size+3->b≠s1.heap.objs.size->b≠s1.heap.objs.size+1->(zT s1.heap l1 l2).get? b=some o->h'.get? b=some o:=kk;replace hL:h'.get? (zT s1.heap l1 l2).objs.size=some { cls:=.type "list",data:=.seq bz c }:=hL;replace lI:k_ h' ((zT s1.heap l1 l2).objs.size+1) i1.toArray i2.toArray bz:=lI;show EP X ag σ Q (.ref (zT s1.heap l1 l2).objs.size) { s1 with heap:=h' };rw [sz] at hL lI ⊢;obtain⟨Ts,eT,pT,cT⟩:=lI;have lT:Ts.length=i1.length:=by
  have:=congrArg List.length eT;rw [au] at this;rw [<-this];simpa using hsz
 have k1:∀b u,s1.heap.get? b=some u->h'.get? b=some u:=λb u q=>by
  have lb:b < s1.heap.objs.size:=ba q;exact kk b u (bM (q8 4 lb)) (bM (q8 3 lb)) (bM lb) (bM (q8 1 lb)) (yN q)
 refine⟨.ref (s1.heap.objs.size+5),λb:Nat=>if b < s1.heap.objs.size then H1 b else if b=s1.heap.objs.size+5 then some (.lst (Ts.map V.ref)) else ((Ts.zip (xs.zip ys)).lookup b).map λp=>.tup [p.1,p.2],I1.Px (t':=s1.toks) k1 (λb hb=>ax hb) λb u hb e=>?_,rfl,?_⟩
 .have e':(if b < s1.heap.objs.size then H1 b else if b=s1.heap.objs.size+5 then some (.lst (Ts.map V.ref)) else ((Ts.zip (xs.zip ys)).lookup b).map λp=>.tup [p.1,p.2])=some u:=e;rw [az ∅] at e';by_cases cL:b=s1.heap.objs.size+5
  .rw [ax cL] at e';cases e';subst cL;refine⟨fits (by rw [au];omega),bz.toList,c,?_,by simpa using hL⟩;rw [eT];exact ju (by simp) λj x y ex ey=>by
    rw [bh] at ex ey;obtain⟨T,Sg,rfl⟩:=cg.mp ex;rw [Sg] at ey;cases ey;rfl
  rw [az cL] at e';obtain⟨p,ep,rfl⟩:=cg.mp e';obtain⟨j,ej,epj⟩:=lookup_some ep;obtain⟨_,x,y,hp,hx1,hy1⟩:=cT j b ej;obtain⟨ex,ey⟩:=vh.mp epj;obtain⟨x',MT,rx'⟩:=v1.get ex;obtain⟨y',ey',ry'⟩:=v2.get ey;have q1:x'=x:=by
   have:i1[j]?=some x:=by simpa using hx1
   rw [MT] at this;cases this;rfl
  have q2:y'=y:=by
   have:i2[j]?=some y:=by simpa using hy1
   rw [ey'] at this;cases this;rfl
  subst q1;subst q2;exact⟨fits (by simp),[x',y'],.cons rx' (.cons ry' .nil),⟨_,hp,rfl,_,rfl⟩⟩
 refine q (s1.heap.objs.size+5) Ts _ (I1.b0.fresh (Nat.le_add_right _ 5)) (λb u hb=>?_) ?_ ?_
 .show (if b < s1.heap.objs.size then H1 b else _)=some u;have lb:b < s1.heap.objs.size:=Nat.lt_of_not_le λz=>by rw [I1.b0.fresh z] at hb;cases hb
  rw [ax lb];exact hb
 .show (if s1.heap.objs.size+5 < s1.heap.objs.size then _ else if s1.heap.objs.size+5=s1.heap.objs.size+5 then _ else _)=_;rw [az ∅,ax rfl]
 refine ju (by rw [lT,List.length_zip];omega) λj T p Sg ep=>?_;obtain⟨lN,_⟩:=cT j T Sg;refine .inl (.inl ?_);show (if T < s1.heap.objs.size then _ else if T=s1.heap.objs.size+5 then _ else _)=_;rw [az (Nat.not_lt.mpr (fV (by omega:s1.heap.objs.size<=s1.heap.objs.size+5+1) lN)),az (fc (Nat.lt_of_succ_le lN)),r9 pT Sg ep];rfl
end L2
namespace HT
open PySem PyProof.Rows
section
variable {prog:Program}{w:World}{A:Around}{E:Value->Shared->Prop}{s:Shared}
def zC (n:Nat):Builtin.Slice.slicePlaces ((n:Int) - 1) (-1) (-1)=n:=by
 unfold Builtin.Slice.slicePlaces;have h1:¬((-1:Int) > 0):=by omega
 simp only [h1,if_false,Int.neg_neg,Int.ediv_one]
 split <;> omega
def E2 (xs:Array Value):((List.range xs.size).filterMap λ(k:Nat)=>xs[((xs.size:Int) - 1+(k:Int) * (-1)).toNat]?).toArray=xs.toList.reverse.toArray:=by
 have e:=PySem.W.krv_pick xs;unfold slicePick at e;rw [PySem.W.krv_bounds,PySem.W.krv_sliceRange,List.filterMap_map] at e;rw [<-e];have key:∀l:List Nat,(∀k∈l,k < xs.size)->(l.filterMap λ(k:Nat)=>xs[((xs.size:Int) - 1+(k:Int) * (-1)).toNat]?)=l.filterMap ((λx=>xs[x]?) ∘ λk=>xs.size - 1 - k):=by
  intro l
  induction l with
  | nil=>exact λ_=>rfl
  | cons k r ih =>
   intro h;have hk:=h k cU;have e2:((xs.size:Int) - 1+(k:Int) * (-1)).toNat=xs.size - 1 - k:=by omega
   rw [rh,rh,ih λm hm=>h m (dr _ hm),e2];rfl
 rw [key _ λk hk=>kJ.mp hk]
def pb {sl:Addr}{n:Nat}{u:Tok}{Q:Int×Int×Nat->Shared->Prop}(hs:s.heap.IsSliceOf sl .none .none (.int (-1) u))(h:Q ((n:Int) - 1,-1,n) s):wpAny (model prog w) A (Builtin.Slice.sliceApplied (.ref sl) (pure (n:Int))) Q E s:=by
 obtain⟨os,CO,CU,Hq⟩:=id hs;unfold Builtin.Slice.sliceApplied Builtin.Slice.sliceFields;refine ar (ar (d_ CO Hq (x:=.none) rfl (ar (d_ CO Hq (x:=.none) rfl (ar (d_ CO Hq (x:=.int (-1) u) rfl (aR ?_)))))));refine ar (slicePart_int ?_);show wpAny _ _ (if ((-1:Int) == 0)=true then _ else _) _ _ s;rw [az (by decide)];refine ar (slicePart_none (ar (slicePart_none (ar (aR ?_)))));show wpAny _ _ (pure ((n:Int) - 1,(-1:Int),Builtin.Slice.slicePlaces ((n:Int) - 1) (-1) (-1))) _ _ s;rw [zC];exact aR h
def oi {t sl:Addr}{items:Array Value}{u:Tok}{Q:Value->Shared->Prop}(ht:IsTup s.heap t items)(hs:s.heap.IsSliceOf sl .none .none (.int (-1) u))
  (h:Q (.ref s.heap.objs.size) { s with heap:=s.heap.push { cls:=.type "tuple",data:=.seq items.toList.reverse.toArray } })(hsz:items.size<=sizeLine):wpAny (model prog w) A (getItem (.ref t) (.ref sl)) Q E s:=by
 have nZ:sizeOk (.seq items.toList.reverse.toArray):=by
  show items.toList.reverse.toArray.size<=sizeLine;rw [bQ,pY,rg];exact hsz
 obtain⟨os,CO,CU,Hq⟩:=id hs;have Qq:s.TypeIs (.ref sl) "slice" := ⟨os,CO,CU⟩;unfold getItem
 try with_reducible refine iG ?_
 first | refine ar (aR ?_) | skip
 refine ar (wpAny_sequenceKey ht.typeIs (by decide) ?_);refine ar (mV (name:=Str.ofString "__getitem__") ht.typeIs mY
  (lP mY ht.typeIs entry_tuple_getitem ?_ (args_tuple_getitem _ _)))
 show wpAny _ _ (Builtin.Tuple.tupleItemsOf (.ref t) >>= _) _ _ s;refine ar (tupleItemsOf_ ht ?_);refine ar (jV Qq ?_);rw [ax (by decide)];refine ar (pb hs ?_);show wpAny _ _ (if (((items.size:Int) - 1 == 0) && ((-1:Int) == 1) && (items.size == items.size))=true then _ else _) _ _ s;rw [az (by simp),E2]
 first
  | exact ar (m:=Builtin.Tuple.tupleExact _) (iV (aR ⟨_,rfl,aR h⟩) nZ)
  | exact ar (m:=Builtin.Tuple.tupleExact _) (iV (ar (aR (aR ⟨_,rfl,aR h⟩))) nZ)
  | exact ar (ar (m:=Builtin.Tuple.tupleExact _) (iV (aR (aR ⟨_,rfl,aR h⟩)) nZ))
  | exact ar (ar (m:=Builtin.Tuple.tupleExact _) (iV (aR ⟨_,rfl,aR h⟩) nZ))
end
end HT
namespace L2
open PySem PySem.Spec PyProof.Rows
theorem Paired.Cc {α β:Type}{F:α->β->Prop}:∀{a:List α}{c:List β},Paired F a c->Paired F a.reverse c.reverse
 | _,_,.nil=>.nil
 | _,_,.cons h t=>by rw [mi,mi];exact gQ (Paired.Cc t) h
def SW (K:a9)(te:TE):TE:=λσ H Q=>te σ H λx H1=>∃a xs,x=.ref a/\aQ K H1 a xs/\∀p,H1 p=none->Q (.ref p) (upd H1 p (.tup xs.reverse))
def E5 {X:Cx}{e:Expr}{te:TE}{p2 pos pu pc:Pos}(he:PE X e te):PE X (.Subscript e (.Slice none none (some (.UnaryOp .USub (.Constant (.int 1) 0 pc) pu)) p2) pos) (SW X.K te):=by
 intro ag s σ H Q I h;refine Subscript_ (cI (he ag s σ H _ I h) λv s1 ⟨x,H1,I1,r1,q1⟩=>?_);obtain⟨a,xs,rfl,hx,q⟩:=q1;cases (show v=Value.ref a from r1);refine wpAny_Slice ?_;rw [evalPart_none];refine aR (aR ?_);have hs:PO X (some (.UnaryOp .USub (.Constant (.int 1) 0 pc) pu)) _:=dQ (j7 il ao);refine cI (hs ag s1 σ H1 (λl H'=>l=some (-1)/\H'=H1) I1 ⟨_,rfl,_,rfl,rfl,rfl⟩) λvst s2 ⟨l,H2,I2,pl,q2⟩=>?_;obtain⟨rfl,rfl⟩:=q2;cases pl with
 | int i u =>
  have I3:Inv X ag σ H2 { s2 with heap:=s2.heap.push { cls:=.type "slice",data:=.fields #[.none,.none,.int (-1) u] } }:=I2.kept (t':=s2.toks) λb ob q=>bI _ q;obtain⟨aU,r,ht,hz⟩:=I3.tuple hx;have br:=r.length;refine tail_any (T := "tuple") (ops:=[.ref a,.ref s2.heap.objs.size]) ht.typeIs mY.lookup ?_ (by with_unfolding_all rfl);refine HT.oi ht (Heap.IsSliceOf.new ..) ?_ (by rw [bQ];omega);refine⟨.ref _,_,I3.laid (t':=s2.toks) (o:=.tup xs.reverse) (λb ob q=>bI _ q) (aH _) ?_,rfl,q _ (I3.b0.fresh (aH _))⟩;exact⟨by rw [pY];exact hz,aU.reverse,Paired.Cc r,IsTup.new _ _⟩
def EU (K:a9):V->List V->Hp->VK->Prop:=λx vs H Q=>∃l b xs zs,x=.ref l/\vs=[.ref b]/\H l=some (.lst xs)/\aQ K H b zs/\xs.length+zs.length<=sizeLine/\Q .d6 (upd H l (.lst (xs++zs)))
def zW {X:Cx}:Su X "list.extend" (EU X.K):=by
 intro ag s σ H x vs v us Q I rx rv h;obtain⟨l,b,xs,zs,rfl,rfl,hH,hB,hz,q⟩:=h;cases rx;obtain⟨u,rfl,ru⟩:=rv.one;cases ru;obtain⟨z,aU,n,r,hl,e⟩:=I.z6 hH;obtain⟨cH,r2,t2,z2⟩:=I.tuple hB;have l2:=r2.length;have hsz:aU.toArray.size+cH.toArray.size<=sizeLine:=by rw [bQ,bQ];omega
 have F8:¬(!aU.toArray.isEmpty && Builtin.List.listTooLong (aU.toArray.size+cH.toArray.size))=true:=by
  rw [xx hsz,Bool.and_false];exact dO
 refine lP F.slot_list_extend ⟨_,e,rfl⟩ F.entry_list_extend ?_ (F.args_list_extend_2 _ _);show wpAny _ _ (Builtin.List.listExtendWith (.ref l) (.ref b) .none) _ _ _;unfold Builtin.List.listExtendWith;refine ar (jV t2.typeIs ?_);rw [ax (by simp)];obtain⟨o2,g2,c2,n2,d2⟩:=id t2;unfold Builtin.List.listItems;refine ar (ar (jk g2 d2 (aR ?_)));refine ar (ar (jk e rfl (aR ?_)));show wpAny _ _ (if (!aU.toArray.isEmpty && Builtin.List.listTooLong (aU.toArray.size+cH.toArray.size))=true then _ else _) _ _ _;rw [az F8];show wpAny _ _ (updateSeq l (λx=>x++cH.toArray) >>= λ_=>_) _ _ _;refine ar (qV e rfl ?_ (by rw [bQ];omega) (by rw [Array.size_append];omega));refine aR ⟨_,rfl,?_⟩;refine⟨.d6,_,I.IU (sj:=aU++cH) hH e (by simp) (r.append r2) ?_,rfl,q⟩;rw [bL];omega
open PySem
section
variable {prog:Program}{w:World}{A:Around}{E:Value->Shared->Prop}{s:Shared}
end
structure ZTn (h:Heap)(z TI TO i1 i2 l1 l2:Addr) (i:Nat):Prop where
 hz:∃f0 f1,d5 h z f0 f1 TI TO/\(f0=.none\/∃T:Nat,f0=rawInt T)
 hI:IsPair h TI (.ref i1) (.ref i2)
 hO:∃a b,IsPair h TO a b
 h1:h.IsTupleIter i1 l1 i
 h2:h.IsTupleIter i2 l2 i
end L2
namespace HT
open PySem PySem.Spec PyProof.Rows
section
variable {prog:Program}{w:World}{A:Around}{E:Value->Shared->Prop}{s:Shared}
def om {t sl:Addr}{items:Array Value}{vl vu:Value}{lo hi:Option Int}{Q:Value->Shared->Prop}(ht:IsTup s.heap t items)(hs:s.heap.IsSliceOf sl vl vu .none)(pl:IsPart vl lo)(pu:IsPart vu hi)
  (hw:fQ items.size 0 lo=0/\fQ items.size items.size hi=items.size)(h:Q (.ref t) s):wpAny (model prog w) A (getItem (.ref t) (.ref sl)) Q E s:=by
 obtain⟨os,CO,CU,Hq⟩:=id hs;have Qq:s.TypeIs (.ref sl) "slice" := ⟨os,CO,CU⟩;unfold getItem
 try with_reducible refine iG ?_
 first | refine ar (aR ?_) | skip
 refine ar (wpAny_sequenceKey ht.typeIs (by decide) ?_);refine ar (mV (name:=Str.ofString "__getitem__") ht.typeIs mY
  (lP mY ht.typeIs entry_tuple_getitem ?_ (args_tuple_getitem _ _)))
 show wpAny _ _ (Builtin.Tuple.tupleItemsOf (.ref t) >>= _) _ _ s;refine ar (tupleItemsOf_ ht ?_);refine ar (jV Qq ?_);rw [ax (by decide)];refine ar (jq hs pl pu ?_);have UO:(((fQ items.size 0 lo:Nat):Int) == 0 && (1:Int) == 1 && (fQ items.size items.size hi - fQ items.size 0 lo) == items.size)=true:=by
  rw [hw.1,hw.2];simp
 show wpAny _ _ (if (((fQ items.size 0 lo:Nat):Int) == 0 && (1:Int) == 1 && (fQ items.size items.size hi - fQ items.size 0 lo) == items.size)=true then _ else _) _ _ s;rw [ax UO];refine ar ?_;unfold Builtin.Tuple.tupleIsExact;refine ar (jV ht.typeIs (aR ?_));rw [ax (by decide)];refine ar (i_ ?_);exact aR ⟨_,rfl,aR h⟩
end
end HT
namespace L2
open PySem PySem.Spec PyProof.Rows
def O0 (K:a9):V->Option Int->Option Int->Hp->VK->Prop:=λx lo hi H Q=>∃a xs,x=.ref a/\aQ K H a xs/\∀p H',aC H H'->aQ K H' p (gw xs lo hi)->Q (.ref p) H'
def qC {X:Cx}:KS X (O0 X.K):=by
 intro ag s σ H x v vl vu lo hi sl Q I rx hs pl pu h;obtain⟨a,xs,rfl,hx,q⟩:=h;by_cases hw:HT.fQ xs.length 0 lo=0/\HT.fQ xs.length xs.length hi=xs.length
 .have ec:gw xs lo hi=xs:=by
   unfold gw;rw [hw.1,hw.2,oM,ky,cQ]
  cases rx;obtain⟨aU,r,ht,hz⟩:=I.tuple hx;have br:aU.toArray.size=xs.length:=by rw [bQ];exact r.length.symm
  refine⟨"tuple",_,mY.lookup,ht.typeIs,?_⟩;exact HT.om ht hs pl pu (by rw [br];exact hw) ⟨.ref a,H,I,rfl,q a H (λ_ _ h=>h) (by rw [ec];exact hx)⟩
 exact Ld ag s σ H _ v vl vu lo hi sl Q I rx hs pl pu ⟨a,xs,rfl,hx,hw,λp hp=>q p _ (af hp _) (aQ.of ae)⟩
def O5 (K:a9):R2:=λx y H Q=>∃a b xs ys,x=.ref a/\y=.ref b/\aQ K H a xs/\aQ K H b ys/\xs.length+ys.length<=sizeLine/\∀p H',aC H H'->aQ K H' p (xs++ys)->Q (.ref p) H'
def vU {X:Cx}:ji X (binaryOp .Add) (O5 X.K):=by
 intro ag s σ H x y v u Q I rx ry h;obtain⟨a,b,xs,ys,rfl,rfl,ha,hb,hz,q⟩:=h;by_cases hx:xs=[]
 .cases rx;cases ry;obtain⟨aU,r1,p1,_⟩:=I.tuple ha;obtain⟨cH,r2,p2,_⟩:=I.tuple hb;have e1:aU=[]:=r1.qF.mpr hx;obtain⟨⟨cls,dd,data,sl⟩,ho,hc,n,hd⟩:=id p1;obtain⟨⟨Ww,N7,data2,Rt⟩,Hm,Mv,n2,hd2⟩:=id p2;simp only at hc hd Mv hd2;subst hc hd Mv hd2;exact concat_meets ⟨_,ho,rfl⟩ ⟨_,Hm,rfl⟩ noFill_tuple_add seq_tuple_add yG yH (yJ _ _)
   (tuple_addW0 a b aU.toArray cH.toArray n n2 dd N7 sl Rt (by simp [e1])) ⟨ho,Hm,.ref b,H,I,rfl,q b H (λ_ _ h=>h) (by rw [hx];exact hb)⟩
 refine IE ag s σ H _ _ v u Q I rx ry ⟨a,b,xs,ys,rfl,rfl,ha,hb,hx,hz,λe=>q a H (λ_ _ h=>h) (by rw [e,ir];exact ha),λ_ p hp=>q p _ (af hp _) (aQ.of ae)⟩
theorem lt_trans:∀a b c:List Nat,ltCps b a=false->ltCps c b=false->ltCps c a=false
 | [],b,[],_,_=>ltCps.eq_1
 | [],b,_::_,_,_=>ltCps.eq_3 _ _
 | x::r,[],c,h,_=>by rw [ltCps.eq_2] at h;cases h
 | x::r,y::t,[],_,k=>by rw [ltCps.eq_2] at k;cases k
 | x::r,y::t,z::u,h,k=>by
  rw [ltCps.eq_4,Bool.or_eq_false_iff,decide_eq_false_iff_not] at h k ⊢;refine⟨∅,?_⟩;by_cases e:z=x
  .have e1:y=x:=by omega
   subst e;subst e1;have h2:=h.2;have k2:=k.2;rw [oT,jb] at h2 k2 ⊢;exact lt_trans r t u h2 k2
  rw [j4.mpr e,qW]
def ES (x:Str):Nat->Str
 | 0=>Str.empty
 | 1=>x
 | _=>x++x
def ID {X:Cx}:ji X (binaryOp .Mult) (λa b H Q=>∃x n,a=.str x/\b=.int ((n:Nat):Int)/\n<=2/\x.length=1/\Q (.str (ES x n)) H):=by
 intro ag s σ H a b v u Q I ra rb h;obtain⟨x,n,rfl,rfl,hn,hx,q⟩:=h;obtain⟨t,rfl⟩:=ra;obtain⟨t2,rfl⟩:=rb
 match n,hn,q with
 | 0,_,q=>exact PySem.P.mul_str_none (by decide) (by decide) ⟨.str Str.empty,H,I.tok _,⟨_,rfl⟩,q⟩
 | 1,_,q =>
  refine PySem.P.mul_str (by decide) (λ_ h=>by simp at h) (λ_ h=>by simp at h) ?_;rw [az (by decide),ax (by rfl)];exact⟨.str x,H,I,⟨_,rfl⟩,q⟩
 | 2,_,q =>
  refine PySem.P.mul_str (by decide) (λ_ _=>by rw [hx];decide) (λ_ _=>by rw [hx];decide) ?_;rw [az (by decide),az (by rw [hx];decide)];have le:(Str.mk (#[]++x.cps++x.cps)).length<=sizeLine:=by
   show (#[]++x.cps++x.cps).size<=sizeLine;rw [Array.empty_append,Array.size_append];have:x.cps.size=1:=hx;rw [this];decide
  refine⟨le,⟨.str (x++x),H,I.tok _,⟨s.toks,?_⟩,q⟩⟩;show Value.str ⟨#[]++x.cps++x.cps⟩ _=Value.str ⟨x.cps++x.cps⟩ _;rw [Array.empty_append]
section
variable {prog:Program}{w:World}{A:Around}{E:Value->Shared->Prop}{s:Shared}
end
def Ox (K:a9)(te:TE):TE:=λσ H Q=>te σ H λx H1=>∃a xs,x=.ref a/\aI K H1 a xs/\∀p,H1 p=none->Q (.ref p) (upd H1 p (.lst xs.reverse))
def Iu {X:Cx}{e:Expr}{te:TE}{p2 pos pu pc:Pos}(he:PE X e te):PE X (.Subscript e (.Slice none none (some (.UnaryOp .USub (.Constant (.int 1) 0 pc) pu)) p2) pos) (Ox X.K te):=by
 intro ag s σ H Q I h;refine Subscript_ (cI (he ag s σ H _ I h) λv s1 ⟨x,H1,I1,r1,q1⟩=>?_);obtain⟨a,xs,rfl,hx,q⟩:=q1;cases (show v=Value.ref a from r1);refine wpAny_Slice ?_;rw [evalPart_none];refine aR (aR ?_);have hs:PO X (some (.UnaryOp .USub (.Constant (.int 1) 0 pc) pu)) _:=dQ (j7 il ao);refine cI (hs ag s1 σ H1 (λl H'=>l=some (-1)/\H'=H1) I1 ⟨_,rfl,_,rfl,rfl,rfl⟩) λvst s2 ⟨l,H2,I2,pl,q2⟩=>?_;obtain⟨rfl,rfl⟩:=q2;cases pl with
 | int i u =>
  have I3:Inv X ag σ H2 { s2 with heap:=s2.heap.push { cls:=.type "slice",data:=.fields #[.none,.none,.int (-1) u] } }:=I2.kept (t':=s2.toks) λb ob q=>bI _ q;obtain⟨aU,r,ht,hz⟩:=I3.list hx;have br:=r.length;refine tail_any (T := "list") (ops:=[.ref a,.ref s2.heap.objs.size]) ht.isList.typeIs slot_list_getitem.lookup ?_ (by with_unfolding_all rfl);refine wpAny_getItem_list_slice ht.isList (Heap.IsSliceOf.new ..) .none .none (.int (-1) u) (by simp) ?_ (by rw [bQ];omega);rw [PySem.W.krv_pick];refine⟨.ref _,_,I3.laid (t':=s2.toks) (o:=.lst xs.reverse) (λb ob q=>bI _ q) (aH _) ?_,rfl,q _ (I3.b0.fresh (aH _))⟩;exact⟨by rw [pY];exact hz,aU.reverse,0,Paired.Cc r,cV _ rfl⟩
open PySem PySem.W PyProof.Rows
section
variable {n:Nat}{lt:Nat->Nat->Bool}{cmp:Nat->Nat->(Bool->Shared->Prop)->Shared->Prop}{s:Shared}
structure Jx (n:Nat)(lt:Nat->Nat->Bool):Prop where
 trans:∀a b c,a < n->b < n->c < n->lt b a=false->lt c b=false->lt c a=false
 WU:∀a b,a < n->b < n->lt a b=true->lt b a=false
structure Oa (n:Nat)(p:Array Nat):Prop where
 pm:p.Perm (List.range n).toArray
theorem Oa.size {p:Array Nat}(h:Oa n p):p.size=n:=by
 have:=h.pm.size_eq;simpa using this
def Oa.Kg {p:Array Nat}(h:Oa n p){i:Nat}(hi:i < n):p.getD i 0 < n:=by
 have hs:=h.size;have e:p.getD i 0=p[i]'∅:=by simp [Array.getD,hs,hi]
 rw [e];have:p[i]'∅∈(List.range n).toArray:=h.pm.mem_iff.mp (Array.getElem_mem _);simpa using this
abbrev at_ (p:Array Nat) (i:Nat):Nat:=p.getD i 0
def Nm (lt:Nat->Nat->Bool)(p:Array Nat) (k:Nat):Prop:=∀i j,i<=j->j < k->lt (at_ p j) (at_ p i)=false
def Nr (lt:Nat->Nat->Bool)(p:Array Nat) (k:Nat):Prop:=∀i j,i<=j->j < k->lt (at_ p i) (at_ p j)=false
def Jx.Yp (o:Jx n lt){a:Nat}(h:a < n):lt a a=false:=by
 cases e:lt a a with
 | false=>rfl
 | true=>rw [<-o.WU a a h h e,e]
def Nm.more {p:Array Nat}{m:Nat}(o:Jx n lt)(P:Oa n p)(h:Nm lt p m)(hm:1<=m)(hn:m < n)(c:lt (at_ p m) (at_ p (m - 1))=false):Nm lt p (m+1):=by
 intro i j I_ hj;by_cases e:j=m
 .subst e;by_cases e2:i=j
  .subst e2;exact o.Yp (P.Kg hn)
  exact o.trans _ (at_ p (j - 1)) _ (P.Kg ∅) (P.Kg ∅) (P.Kg hn) (h i (j - 1) ∅ ∅) c
 exact h i j I_ ∅
def Nr.more {p:Array Nat}{m:Nat}(o:Jx n lt)(P:Oa n p)(h:Nr lt p m)(hm:1<=m)(hn:m < n)(c:lt (at_ p (m - 1)) (at_ p m)=false):Nr lt p (m+1):=by
 intro i j I_ hj;by_cases e:j=m
 .subst e;by_cases e2:i=j
  .subst e2;exact o.Yp (P.Kg hn)
  exact o.trans _ (at_ p (j - 1)) _ (P.Kg hn) (P.Kg ∅) (P.Kg ∅) c (h i (j - 1) ∅ ∅)
 exact h i j I_ ∅
end
def Inv.Py {X:Cx}{ag:List (Addr×Obj)}{σ:St}{H:Hp}{s:Shared}{h':Heap}{a:Addr}{o:HO}{t':Nat}(I:Inv X ag σ H s)(k:∀b u,b≠X.env.locals->s.heap.get? b=some u->h'.get? b=some u)
  (ns:∀m,s.heap.Ns X.env.locals m->h'.Ns X.env.locals m)(hp:s.heap.get? a=none)(hn:H a=none)(new:cE X.prog X.w (upd H a o) h' a o):Inv X ag σ (upd H a o) { s with heap:=h',toks:=t' }:=by
 have ne:∀b u,s.heap.get? b=some u->b≠a:=λb u q z=>by rw [z,hp] at q;cases q
 refine I.step (g':=s.gens) (d':=s.drawn) (ch:=[]) (λ_ z=>nomatch z) (λb u hb _ _ e _=>k b u hb e) (λb u hb _ _ e _=>⟨u.slots,k b u hb e⟩) (λb u _ e n=>by rw [aj (ne b u e)];exact n)
  (λb u _ e=>?_) (λb xs q=>by rw [aj (ay q hn)];exact q) (λb u xs q=>by rw [aj (ay q hn)];exact q) (λb ps q=>⟨#[],by rw [aj (ay q hn),q];simp⟩) ns (λb u e=>?_) I.bare
 .by_cases hb:b=X.env.locals
  .obtain⟨m,hm,_⟩:=I.loc;obtain⟨o',_,_,CP,_⟩:=ns m hm;exact⟨o',by rw [hb];exact CP⟩
  exact⟨u,k b u hb e⟩
 by_cases hb:b=a
 .subst hb;rw [ae] at e;cases e;exact new
 rw [aj hb] at e;refine(I.b0 b u e).j_ (λc v hc q=>k c v ?_ q) (λc q=>by rw [aj (ay q hn)];exact q) λc xs q=>by rw [aj (ay q hn)];exact q
 rintro rfl;rcases hc with rfl | hc
 .rw [I.free] at e;cases e
 rw [I.free] at hc;cases hc
def Fg {P:Program}{w:World}{H:Hp}{h:Heap}{a:Addr}{o:HO}(x:cE P w H h a o):∃u,h.get? a=some u:=by
 cases o with
 | lst xs=>obtain⟨_,_,_,_,e⟩:=x;exact⟨_,e⟩
 | tup xs=>obtain⟨_,_,_,ob,e,_⟩:=x;exact⟨_,e⟩
 | dK kvs=>obtain⟨_,_,_,_,o,_,_,e,_⟩:=x;exact⟨_,e⟩
 | dT kvs=>obtain⟨_,_,_,_,o,_,_,e,_⟩:=x;exact⟨_,e⟩
 | set S n=>obtain⟨o,_,_,_,e,_⟩:=x;exact⟨_,e⟩
 | ins C dx fs=>obtain⟨_,_,_,e,_⟩:=x;exact⟨_,e⟩
 | own y=>obtain⟨_,e⟩:=x;exact⟨_,e⟩
 | xd fs=>obtain⟨_,⟨_,_,_,e,_⟩,_⟩:=x;exact⟨_,e⟩
 | DE lo hi=>obtain⟨_,_,_,e⟩:=x;exact⟨_,e⟩
 | ki ob u=>obtain⟨e,_⟩:=x;exact⟨_,e⟩
 | tK ps=>exact⟨_,(show h.get? a=some _ from x)⟩
 | met f y=>exact⟨_,(show h.get? a=some _ from x)⟩
 | ext φ=>obtain⟨_,⟨_,e⟩,_⟩:=x;exact⟨_,e⟩
open PySem PySem.Spec PyProof.Rows PySem.W
section
variable {P:Program}{w:World}{A:Around}{E:Value->Shared->Prop}{s:Shared}
def FU {f c' c d:Addr}{q:Str}{params:Arguments}{scope:Scope}{cl:List (Str×Addr)}{pm gy:Value}{p1 p2 p3:Pos}{xs xh:Str}{vs:List (aS×Value)}{z:Str}{t:Tok}{u:Value}{oc:Obj}{Q:Value->Shared->Prop}
  (P4:A.depth < recursionLimit)(nl:s.heap.NoLimit)(hf:s.heap.get? f=some (kla_obj "<lambda>" q params (.Subscript (.Name xs p1) (.Name xh p2) p3) scope cl pm c' gy))(hc:s.heap.CodeRec (.ref c') q)
  (hb:∀us:List Value,us.length=1->bindArgs (kla_fn "<lambda>" q params (.Subscript (.Name xs p1) (.Name xh p2) p3) scope cl pm (.ref c') gy) ⟨us,[]⟩=pure ([xh].zip us))
  (hk:scope.kind=.function)(Vx:scope.isCoroutine=false)(Mr:scope.isGenerator=false)(Vd:∀x∈scope.names,x.2≠.cell)(hh:scope.names.lookup xh=some .local)(hs:scope.names.lookup xs=some .free)
  (pI:cl.lookup xs=some c)(ho:s.heap.get? c=some oc)(yx:oc.data=.cell (some (.ref d)))(dd:s.heap.DictOf (bj P w) d vs)(hv:valueAt vs (Sum.inr z)=some u)
  (d1:(xs == ("__debug__":Str))=false)(d2:(xh == ("__debug__":Str))=false)(d3:(xs == ("__classdict__":Str))=false)
  (h:∀h' tk,(∀b o,s.heap.get? b=some o->h'.get? b=some o)->Q u { s with heap:=h',toks:=tk }):wpAny (model P w) A (call (.ref f) [.str z t]) Q E s:=by
 refine wpAny_call (kla_callFunE P4 hf rfl Vx Mr rfl hc ?_);rw [hb [.str z t] rfl];refine aR (wpAny_newFunctionEnv Vd (λx hx=>?_) (λh₁ wI YD=>⟨nl.fresh _ YD,?_⟩) hk)
 .have:x=(xh,Value.str z t):=by simpa using hx
  rw [this];exact hh
 show codeAny _ _ (.expr (.Subscript (.Name xs p1) (.Name xh p2) p3) (envX q scope s.heap.objs.size f (.ref c') cl)) _ _;have k1:∀b o,s.heap.get? b=some o->h₁.get? b=some o:=λb o e=>YD.extBut b o (bM (ba e)) (bI _ e);refine kla_codeExpr (AY PySem.F.slot_dict_getitem.lookup (λ_ _=>rfl) ?_);refine wpAny_Name (wpAny_loadName_free hk hs pI ⟨oc,k1 _ _ ho,yx⟩ ?_ d3) d1;refine wpAny_Name (u4 hk hh wI (show ([(xh,Value.str z t)]:List (Str×Value)).reverse.lookup xh=some (.str z t) by simp [List.lookup]) ?_) d2;have ZX:h₁.DictOf (bj P w) d vs:=by
  obtain⟨o,es,ep,g,r⟩:=dd;exact⟨o,es,ep,k1 _ _ g,r⟩
 refine⟨ZX.typeIs,wpAny_getItem_of (lX (k:=Sum.inr z) ⟨t,rfl⟩) ZX.mapOf hv ?_⟩;exact h h₁ _ k1
end
section
variable {X:Cx}{params:Arguments}{body:Expr}{scope:Scope}{pos:Pos}{c T:Addr}
abbrev i4 (X:Cx)(params:Arguments)(body:Expr)(scope:Scope)(cl:List (Str×Addr))(c':Addr)(gy:Value):Obj:=kla_obj "<lambda>" (X.env.qual ++ "<lambda>") params body scope cl ((X.mg "__name__").getD .none) c' gy
def OG (X:Cx)(params:Arguments)(body:Expr)(scope:Scope)(pos:Pos)(T:Addr):TE:=λσ H Q=>Tab T pos (X.env.qual ++ "<lambda>") H /\
 ∀f c' gy cl H',Jz X.env scope cl->dZ T H H'->Tab T pos (X.env.qual ++ "<lambda>") H'->H f=none->H' f=some (pC f (i4 X params body scope cl c' gy))->H' c'=some (j8 c' (X.env.qual ++ "<lambda>"))->Q (.ref f) H'
def Iw (sE:X.env.code=.ref c)(hC:codeHdIn X.K c T=true)(hB:tH X.mg X.base)(n_:∀y,(y,NameKind.free)∈scope.names->X.env.scope.names.lookup y=some .cell)(Gd:defaultsOf params X.env=([],[]):=by rfl):PE X (.Lambda params body scope pos) (OG X params body scope pos T):=by
 intro ag s σ H Q I h;obtain⟨⟨ps,hT,ht,Ge⟩,q⟩:=h;refine kla_eval Gd ?_;obtain⟨cl,pI⟩:=wy (env:=X.env) (scope:=scope) λy hy=>I.ok.has y (.inl (n_ y hy));have Mz:s.heap.get? T=some (tabObj ps):=(show cE X.prog X.w H s.heap T (.tK ps) from I.b0 T _ hT);have hg:=I.mod.glob.keeps I.bk;have C:=codeHd_of_K I.v9 hC;obtain⟨bm,ob,b1,b2,b3,b4,b5,b6,b7⟩:=hB;have WM:=I.bk _ _ b4;have Ui:bm≠T:=λz=>by
  have:=(I.bs _ _ b4).2;rw [z,hT] at this;cases this
 have Ue:mainGlobals≠T:=λz=>by
  obtain⟨o,es,ep,e,d,_⟩:=hg;rw [z,Mz] at e;cases e;cases d
 have Qx:s.heap.BuiltinsAt X.mg T:=⟨bm,ob,b1,b2,b3,Ui,WM,b5,b6,b7⟩;have He:∀b v,H b=some v->b < s.heap.objs.size:=λb v e=>I.b0.lt e;rcases Ge with Qc | ⟨c',hf,lH⟩
 .refine kla_makeFunction pI.eq I.ok.glob hg sE C Mz ht Qc Ue Qx λc' gy h' tk hx Ms ke F2 PZ=>?_;have hcr:∃oc,h'.get? c'=some oc:=by
   obtain⟨c2,oc,vs,t,e,yx,_⟩:=F2;cases e;exact⟨oc,yx⟩
  have su:h'.objs.size > s.heap.objs.size:=pX Ms ke;have keep:∀b o,b≠T->s.heap.get? b=some o->(h'.push (i4 X params body scope cl c' gy)).get? b=some o:=λb o n e=>bI _ (hx b o n e)
  let H':Hp:=upd (upd (upd H T (.tK (ps++#[rawInt pos.line,rawInt pos.col,.ref c']))) c' (j8 c' (X.env.qual ++ "<lambda>"))) h'.objs.size (pC h'.objs.size (i4 X params body scope cl c' gy))
  have z5:∀b v,H b=some v->b≠c'/\b≠h'.objs.size:=λb v e=>⟨bM (eU (He b v e) Ms),bM (md (He b v e) su)⟩;have Uh:c'≠h'.objs.size:=bM ke;have Pm:=z5 T _ hT;have eT:H' T=some (.tK (ps++#[rawInt pos.line,rawInt pos.col,.ref c'])):=by
   show upd (upd (upd H T _) c' _) h'.objs.size _ T=_;rw [aj Pm.2,aj Pm.1,ae]
  have ec:H' c'=some (j8 c' (X.env.qual ++ "<lambda>")):=by
   show upd (upd (upd H T _) c' _) h'.objs.size _ c'=_;rw [aj Uh,ae]
  have ef:H' h'.objs.size=some (pC h'.objs.size (i4 X params body scope cl c' gy)):=ae;have eo:∀b,b≠T->b≠c'->b≠h'.objs.size->H' b=H b:=λb n1 n2 n3=>by
   show upd (upd (upd H T _) c' _) h'.objs.size _ b=_;rw [aj n3,aj n2,aj n1]
  have sT:dZ T H H':=λb o n e=>by rw [eo b n (z5 b o e).1 (z5 b o e).2];exact e
  have I2:Inv X ag σ H' { s with heap:=h'.push (i4 X params body scope cl c' gy),toks:=tk }:=by
   refine I.call (g':=s.gens) (t':=tk) (d':=s.drawn) (ch:=[]) ⟨λb o e n _ _=>keep b o (λz=>by rw [z,hT] at n;cases n) e,λb o e n _ _=>⟨o.slots,keep b o (λz=>by rw [z,hT] at n;cases n) e⟩,λb o e n _=>?_,λb o e _=>?_,λb xs e=>?_,λb o u e=>?_,λb JU e=>?_⟩ (λb v e=>?_) I.bare (λb hb=>nomatch hb)
   .have lb:=ba e;rw [eo b (λz=>by rw [z,hT] at n;cases n) (bM (eU lb Ms)) (bM (md lb su))];exact n
   .by_cases z:b=T
    .exact⟨_,by rw [z];exact bI _ PZ⟩
    exact⟨o,keep b o z e⟩
   .exact sT b _ (λz=>by rw [z,hT] at e;cases e) e
   .exact sT b _ (λz=>by rw [z,hT] at e;cases e) e
   .by_cases z:b=T
    .subst z;rw [hT] at e;cases e;exact⟨_,eT⟩
    exact⟨#[],by rw [Array.append_empty];exact sT b _ z e⟩
   by_cases z1:b=h'.objs.size
   .subst z1;rw [ef] at e;cases e;exact qH (cV _ rfl)
   by_cases z2:b=c'
   .subst z2;rw [ec] at e;cases e;refine ya ?_;obtain⟨c2,oc,vs,t,e',yx,hd,hv⟩:=F2;cases e';exact⟨_,oc,vs,t,rfl,bI _ yx,hd,hv⟩
   by_cases z3:b=T
   .subst z3;rw [eT] at e;cases e;exact bI _ PZ
   rw [eo b z3 z2 z1] at e;refine(I.b0 b v e).j_ (λd o CT e'=>?_) (λd e'=>sT d _ (λz=>by rw [z,hT] at e';cases e') e') λd ys e'=>sT d _ (λz=>by rw [z,hT] at e';cases e') e';rcases CT with rfl | CT
   .exact keep d o z3 e'
   exact keep d o (λz=>by rw [z,hT] at CT;cases CT) e'
  have fresh:H h'.objs.size=none:=I.b0.fresh (jG su);exact⟨.ref h'.objs.size,H',I2,rfl,q _ c' gy cl H' pI sT ⟨_,eT,by rw [u5];exact jH _ ht,.inr ⟨c',by rw [u5];exact codeAmong_snoc _ ht Qc,ec⟩⟩ fresh ef ec⟩
 refine kla_makeFunctionHit pI.eq I.ok.glob hg sE C Mz ht hf Qx λgy h' tk hk hsz=>?_;have keep:∀b o,s.heap.get? b=some o->(h'.push (i4 X params body scope cl c' gy)).get? b=some o:=λb o e=>bI _ (hk b o e);have fresh:H h'.objs.size=none:=I.b0.fresh hsz;refine⟨.ref h'.objs.size,_,I.laid (a:=h'.objs.size) (o:=pC h'.objs.size (i4 X params body scope cl c' gy)) (t':=tk) keep hsz (qH (cV _ rfl)),rfl,?_⟩;refine q _ c' gy cl _ pI (λb o _ e=>by rw [aj (ay e fresh)];exact e) ⟨ps,by rw [aj (ay hT fresh)];exact hT,ht,.inr ⟨c',hf,by rw [aj (ay lH fresh)];exact lH⟩⟩ fresh ae (by rw [aj (ay lH fresh)];exact lH)
end
theorem AZ:∀{zs:List Str}{aU:List Value},a_ (zs.map V.str) aU->∀(i:Nat)(v:Value),aU[i]?=some v->∃z t,zs[i]?=some z/\v=.str z t
 | [],[],_,i,v,h=>by simp at h
 | z::r,u::aU,h,i,v,hi=>by
  cases h with
  | cons a b =>
   cases i with
   | zero =>
    cases hi;obtain⟨t,e⟩:=(show ∃t,u=Value.str z t from a);exact⟨z,t,rfl,e⟩
   | succ i=>exact AZ b i v hi
theorem uc:∀(ps:List (Str×Tok)),a_ ((ps.map (·.1)).map V.str) (ps.map λp=>Value.str p.1 p.2)
 | []=>.nil
 | p::r=>.cons ⟨p.2,rfl⟩ (uc r)
theorem ue:∀{zs:List Str}{aU:List Value},a_ (zs.map V.str) aU->∃ps:List (Str×Tok),ps.map (·.1)=zs/\aU=ps.map λp=>Value.str p.1 p.2
 | [],[],_=>⟨[],rfl,rfl⟩
 | z::r,u::aU,h=>by
  cases h with
  | cons a b =>
   obtain⟨t,e⟩:=(show ∃t,u=Value.str z t from a);obtain⟨ps,e1,e2⟩:=ue b;exact⟨(z,t)::ps,by rw [cq,e1],by rw [cq,e2,e]⟩
def zE {α β:Type}{f:α->β}{l m:List β}(h:l.Perm m):∀ps:List α,m=ps.map f->∃qs:List α,l=qs.map f/\qs.Perm ps:=by
 induction h with
 | nil =>
  intro ps e;cases ps with
  | nil=>exact⟨[],rfl,.nil⟩
  | cons p r=>cases e
 | cons x h ih =>
  intro ps e;cases ps with
  | nil=>cases e
  | cons p r =>
   rw [cq] at e;injection e with e1 e2;obtain⟨qs,a,b⟩:=ih r e2;exact⟨p::qs,by rw [cq,a,e1],b.cons p⟩
 | swap x y l =>
  intro ps e
  match ps,e with
  | [],e=>cases e
  | [_],e=>cases e
  | p::p2::r,e =>
   rw [cq,cq] at e;injection e with e1 e2;injection e2 with e3 e4;exact⟨p2::p::r,by rw [cq,cq,e1,e3,e4],.swap p p2 r⟩
 | trans h1 h2 i1 i2 =>
  intro ps e;obtain⟨qs,a,b⟩:=i2 ps e;obtain⟨rs,c,d⟩:=i1 qs a;exact⟨rs,c,d.trans b⟩
def E_ {g:Str->Int}{ps:List (Str×Tok)}{out:List Value}(h:KskOut false ((ps.map (·.1)).map g) (ps.map λp=>Value.str p.1 p.2) out) :
  ∃qs:List (Str×Tok),out=qs.map (λp=>Value.str p.1 p.2)/\(qs.map (·.1)).Perm (ps.map (·.1))/\(qs.map (·.1)).Pairwise λx y=>g x<=g y:=by
 obtain⟨rs,h1,h2,h3⟩:=h;have ez:((ps.map (·.1)).map g).zip (ps.map λp=>Value.str p.1 p.2)=ps.map λp=>(g p.1,Value.str p.1 p.2):=by
  rw [iF,List.zip_map,List.zip_eq_zipWith]
  induction ps with
  | nil=>rfl
  | cons p r ih=>simp_all
 rw [ez] at h1;obtain⟨qs,q1,q2⟩:∃qs:List (Str×Tok),rs=qs.map (λp=>(g p.1,Value.str p.1 p.2))/\qs.Perm ps:=by
  exact zE h1 ps rfl
 subst q1;refine⟨qs,by rw [h2,iF];rfl,q2.map _,?_⟩;rw [List.pairwise_map] at h3 ⊢;exact h3.imp λh=>by simpa using h
section
variable {X:Cx}{i:Nat}{xs xh:Str}{params:Arguments}{scope:Scope}{p pos z7 kp p1 p2 p3:Pos}{e:Expr}{ta:TA}{c T:Addr}{k:Nat}
abbrev BN (xs xh:Str)(p1 p2 p3:Pos):Expr:=.Subscript (.Name xs p1) (.Name xh p2) p3
def K7 (X:Cx) (i:Nat)(z7:Pos)(T:Addr)(ta:TA):TE:=λσ H Q=>ta σ H λvs H1=>Tab T z7 (X.env.qual ++ "<lambda>") H1/\∃(a:Addr) (zs:List Str)(d:Addr)(kvs:List (aS×V))(g:Str->Int),vs=[.ref a]/\aI X.K H1 a (zs.map V.str)/\zs.length < 64/\σ[i]?=some (some (.ref d))/\Rd H1 d (.dK kvs) /\
 (∀z∈zs,bA kvs (Sum.inr z)=some (.int (g z)))/\∀(l:Addr) (K0:List Str)(H':Hp),dZ T H1 H'->Tab T z7 (X.env.qual ++ "<lambda>") H'->H1 l=none->K0.Perm zs->K0.Pairwise (λx y=>g x<=g y)->H' l=some (.lst (K0.map V.str))->Q (.ref l) H'
def E4 (hr:fh (k+1) X.A)(sE:X.env.code=.ref c)(hC:codeHdIn X.K c T=true)(hB:tH X.mg X.base)(hg:Gl X "sorted")(hm:X.mg "sorted"=none)(ha:PA X [e] ta)
  (hN:X.N[i]?=some xs)(hx:X.env.scope.names.lookup xs=some .cell)(n_:∀y,(y,NameKind.free)∈scope.names->X.env.scope.names.lookup y=some .cell)
  (hb:∀(q:Str)(cl:List (Str×Addr))(pm gy:Value)(c':Addr)(us:List Value),us.length=1->bindArgs (kla_fn "<lambda>" q params (BN xs xh p1 p2 p3) scope cl pm (.ref c') gy) ⟨us,[]⟩=pure ([xh].zip us))
  (hk:scope.kind=.function)(Vx:scope.isCoroutine=false)(Mr:scope.isGenerator=false)(Vd:∀x∈scope.names,x.2≠.cell)(hh:scope.names.lookup xh=some .local)(hs:scope.names.lookup xs=some .free)
  (d1:(xs == ("__debug__":Str))=false:=by decide)(d2:(xh == ("__debug__":Str))=false:=by decide)(d3:(xs == ("__classdict__":Str))=false:=by decide)
  (Gd:defaultsOf params X.env=([],[]):=by rfl)
  (he:backTo pos (starEach [e] X.env)=(false,eval e X.env)::backTo pos (starEach [] X.env):=by rfl)(hp:(backTo pos (starEach [e] X.env)).any (·.1)=false:=by rfl) :
  PE X (.Call (.Name "sorted" p) [e] [⟨some "key",.Lambda params (BN xs xh p1 p2 p3) scope z7,kp⟩] pos) (K7 X i z7 T ta):=by
 intro ag s σ H Q I h;refine mT (iQ I hg hm boot_sorted ?_);refine callWith_kw (cI (ha pos ag s σ H _ I h) λus s1 ⟨vs,H1,I1,r1,Jb,a,zs,d,kvs,g,ev,hq,h64,hσ,hd,hv,q1⟩=>?_) he hp rfl rfl;subst ev;have low:=Iw (X:=X) (params:=params) (body:=BN xs xh p1 p2 p3) (scope:=scope) (pos:=z7) (c:=c) (T:=T) sE hC hB n_ Gd ag s1 σ H1
  (λfv H2=>∃f c' gy cl,fv=.ref f/\Jz X.env scope cl/\dZ T H1 H2/\Tab T z7 (X.env.qual ++ "<lambda>") H2/\H2 f=some (pC f (i4 X params (BN xs xh p1 p2 p3) scope cl c' gy))/\H2 c'=some (j8 c' (X.env.qual ++ "<lambda>"))) I1
  ⟨Jb,λf c' gy cl H' a1 a2 a3 a4 a5 a6=>⟨f,c',gy,cl,rfl,a1,a2,a3,a5,a6⟩⟩
 refine kws_cons (cI low λu2 s2 ⟨fv,H2,I2,r2,f,c',gy,cl,ef,pI,st,RV,hf,lH⟩=>kws_nil ?_);subst ef;cases (show u2=Value.ref f from r2);obtain⟨u,rfl,rx⟩:=vals1 r1;cases (show u=Value.ref a from rx);obtain⟨pt,eT,_⟩:=id Jb;have hq2:aI X.K H2 a (zs.map V.str):=by
  rcases hq with (h | ⟨o,h⟩) | h
  .exact .inl (.inl (st _ _ (λz=>by rw [z,eT] at h;cases h) h))
  .exact .inl (.inr ⟨o,st _ _ (λz=>by rw [z,eT] at h;cases h) h⟩)
  exact .inr h
 have hd2:Rd H2 d (.dK kvs):=by
  rcases hd with h | ⟨o,h⟩
  .exact .inl (st _ _ (λz=>by rw [z,eT] at h;cases h) h)
  exact .inr ⟨o,st _ _ (λz=>by rw [z,eT] at h;cases h) h⟩
 obtain⟨aU,rv,pl,hz⟩:=I2.list hq2;obtain⟨pzs,ez,ei⟩:=ue rv;have tR:=pl.isList;obtain⟨oa,ga,ca,na,da⟩:=id tR;obtain⟨m,wI,lk⟩:=id I2.loc;have IQ:∀b o,H2 b=some o->b≠X.env.locals:=λb o hb z=>by rw [z,I2.free] at hb;cases hb
 have Pd:d≠X.env.locals:=by
  rcases hd2 with h | ⟨o,h⟩
  .exact IQ d _ h
  exact IQ d _ h
 have neA:a≠X.env.locals:=λz=>by
  obtain⟨o,es,ep,ho,Bw,_⟩:=wI;rw [<-z,ga] at ho;cases ho;rw [da] at Bw;cases Bw
 obtain⟨ud,rd,lkd⟩:=lk i xs (.ref d) hN hσ (.inr (.inl hx));cases (show ud=Value.ref d from rd);obtain⟨cc,ecc,oc,Qa,P_⟩:∃cc,X.env.cells.lookup xs=some cc/\s2.heap.IsCell cc (some (.ref d)):=by
  rcases lkd with ⟨l,_⟩ | ⟨_,c2,e2,h2⟩
  .have l':X.env.scope.names.lookup xs=some .local:=l;rw [hx] at l';cases l'
  exact⟨c2,e2,h2⟩
 obtain⟨cc',Zs⟩:=pI.all xs (vY hs);have e3:=pI.sub _ _ Zs;rw [ecc] at e3;cases e3;have ND:cc≠X.env.locals:=λz=>by
  obtain⟨o,es,ep,ho,Bw,_⟩:=wI;rw [<-z,Qa] at ho;cases ho;rw [P_] at Bw;cases Bw
 obtain⟨gf,_⟩:=I2.b0 f _ hf;obtain⟨gc,_⟩:=I2.b0 c' _ lH;obtain⟨zl,CL,dvs,rel,dd⟩:=ow I2.b0 hd2;obtain⟨m0,F0⟩:=I2.fr;refine ksk_sorted (kz:=zs.map g) (f:=.ref f) (b:=false) (vs:=aU) (h₀:=HP.rZ s2.heap) (L:=X.env.locals) (m:=m) (news:=(a,oa)::HP.ledger s2.heap X.env.locals a) (HP.MN wI) (HP.xD neA ga) tR (by rw [au,<-rv.length,au]) (by rw [<-rv.length,au];exact h64)
  (ksk_s1 _ _) (λx=>ksk_l1 _ _) (λx=>ksk_t1 f x) (λj v kk hj YM oB tk own F N=>?_) λD h' tk out cnt F' N' lt' ko=>?_
 .obtain⟨z,t,Sa,rfl⟩:=AZ rv j v hj;rw [bh,Sa] at YM;cases YM;have keep:∀b u,b≠X.env.locals->s2.heap.get? b=some u->oB.get? b=some u:=λb u nb hb=>by
   by_cases e:b=a
   .subst e;rw [ga] at hb;cases hb;exact(N (b,oa) (by simp)).1
   exact(N (b,u) (jl _ (dr _ (HP.jN.mpr ⟨nb,e,hb⟩)))).1
  have hvz:=hv z (cf Sa);obtain⟨w',hw,zw⟩:=jS.some_of (v:=.int (g z)) (o:=valueAt dvs (Sum.inr z)) (by rw [<-hvz];exact rel.val (Sum.inr z));obtain⟨tw,rfl⟩:=(show ∃t,w'=Value.int (g z) t from zw);have N7:oB.DictOf (bj X.prog X.w) d dvs:=by
   obtain⟨o,es,ep,g1,r⟩:=dd;exact⟨o,es,ep,keep _ _ Pd g1,r⟩
  have gc2:oB.CodeRec (.ref c') (X.env.qual ++ "<lambda>"):=by
   obtain⟨c2,oc2,Oo,t2,e2,yx,jf,NK⟩:=gc;cases e2;exact⟨_,oc2,Oo,t2,rfl,keep _ _ (IQ c' _ lH) yx,jf,NK⟩
  have nl:oB.NoLimit:=I2.mod.nolimit.keeps λb o e=>keep b o (bM (eU (ba e) F0.above)) (I2.bk b o e);exact FU (s:={ s2 with heap:=oB,toks:=tk }) (A:=X.A.in1.in1) hr.depth nl (keep _ _ (IQ f _ hf) gf) gc2 (λus hl=>hb _ _ _ _ _ us hl) hk Vx Mr Vd hh hs Zs (keep _ _ ND Qa) P_ N7 hw d1 d2 d3
   λh3 tk3 Yj=>KskEnd.intro (F.kept Yj) (N.grown Yj) λp hp=>hp
 have keep:∀b u,b≠X.env.locals->s2.heap.get? b=some u->h'.get? b=some u:=λb u nb hb=>by
  by_cases e:b=a
  .subst e;rw [ga] at hb;cases hb;exact(N' (b,oa) (by simp)).1
  exact(N' (b,u) (dr _ (dr _ (HP.jN.mpr ⟨nb,e,hb⟩)))).1
 have hD:s2.heap.get? D=none:=by
  cases e:s2.heap.get? D with
  | none=>rfl
  | some o =>
   exfalso;have nD:D≠X.env.locals:=(N' (D,_) cU).2.1;by_cases ea:D=a
   .have:=lt' (a,oa) cU;rw [ea] at this;exact absurd this (kI _)
   exact absurd (lt' (D,o) (dr _ (HP.jN.mpr ⟨nD,ea,e⟩))) (kI _)
 have fD:H2 D=none:=by
  cases e:H2 D with
  | none=>rfl
  | some u =>
   obtain⟨ob,g⟩:=Fg (I2.b0 D u e);rw [hD] at g;cases g
 have fD1:H1 D=none:=by
  cases e:H1 D with
  | none=>rfl
  | some u =>
   by_cases z:D=T
   .obtain⟨pt2,eT2,_⟩:=RV;rw [z,eT2] at fD;cases fD
   rw [st _ _ z e] at fD;cases fD
 rw [ei,<-ez] at ko;obtain⟨qs,eo,pe,ps⟩:=E_ ko;rw [ez] at pe;have gD:=(N' (D,_) cU).1;have lq:qs.length=zs.length:=by have:=pe.length_eq;rw [au] at this;exact this
 have sl:=af fD (.lst ((qs.map (·.1)).map V.str));refine⟨.ref D,_,I2.Py (t':=tk) keep (λm' hm=>?_) hD fD (show cE X.prog X.w _ _ _ (.lst ((qs.map (·.1)).map V.str)) from ⟨by rw [au,au];exact fits ∅,qs.map (λp=>Value.str p.1 p.2),cnt,uc qs,by rw [<-eo];simpa using gD⟩),rfl,q1 D (qs.map (·.1)) _ (λb o n hb=>sl _ _ (st b o n hb)) ?_ fD1 pe ps ae⟩
 .have:=F'.ns;have e:m'=m:=by
   obtain⟨o,es,ep,ho,Bw,_,hf⟩:=hm;obtain⟨o2,es2,QH,Hm,Qk,_,Qf⟩:=wI;rw [ho] at Hm;cases Hm;rw [Bw] at Qk;cases Qk
   funext x
   rw [<-hf x,<-Qf x]
  rw [e];exact this
 obtain⟨Rz,b1,b2,b3⟩:=RV;exact⟨Rz,sl _ _ b1,b2,b3.imp id λ⟨c3,e3,g3⟩=>⟨c3,e3,sl _ _ g3⟩⟩
end
open PySem M11
def Ay {K:a9}{H:Hp}{p D d:Addr}{zs:List Str}{kvs:List (aS×V)}{g:G}{σ:St}{js:List (Nat×Str)}{Qp:Hp->Prop}(hσ:eQ ["part"] js σ=[none,aP d])(hp:aQ K H p (zs.map V.str))(hz:zs.length<=1000)
  (hd:Rd H d (.dK kvs))(hv:∀z,bA kvs (Sum.inr z)=(g z).map V.int)(ha:∀z∈zs,(g z).isSome=true)(hD:H D=none)(q:∀H2,aC H H2->H2 D=some (.lst ((zs.map λz=>(g z).getD 0).map V.int))->Qp H2) :
  ∃W:Nat->Nat->List V->St->Hp->Prop,(∃m,W 0 m [] (eQ ["part"] js σ) (upd H D (.lst []))) /\
 ∀i m ys σ' H,W i m ys σ' H->((qk K p).stop i H/\Qp H)\/((qk K p).go i H/\∃m',m' < m/\∀x H',(qk K p).mZ i H x H'->dP 0 x σ' H' λσ2 H2=>iw σ2 H2 λb H3 =>
  if b=true then AS (gW 1) (gW 0) σ2 H3 λy H4=>H4 D=some (.lst ys)/\ys.length < sizeLine/\W (i+1) m' (ys++[y]) σ2 (upd H4 D (.lst (ys++[y]))) else W (i+1) m' ys σ2 H3):=by
 refine g8 (xs:=zs.map V.str) (λi ys σ2 H2=>ys=(((zs.take i).map λz=>(g z).getD 0).map V.int)/\(∃y0,σ2=[y0,aP d])/\aC H H2/\H2 D=some (.lst ys))
  ⟨rfl,⟨none,hσ⟩,af hD _,ae⟩ (λi ys σ2 H2 _ h=>h.2.2.1.tup hp) (λi x ys σ2 H2 ex h=>?_) (λys σ2 H2 h=>?_)
 .obtain⟨rfl,⟨y0,rfl⟩,sm,hd2⟩:=h;rw [bh] at ex;obtain⟨z,ez,rfl⟩:=cg.mp ex;have li:=(bq.mp ez).1;obtain⟨n,en⟩:=mW.mp (ha z (cf ez));have hg:cy H2 d (.str z) (some (.int n)):=by
   have:=cy.r (k:=Sum.inr z) (gK.Rd.same hd sm);rw [hv,en] at this;exact this
  refine goN (yy ?_);refine⟨_,rfl,_,rfl,d,_,rfl,hg,hd2,bK (by rw [au,au,dN];omega),?_,⟨_,rfl⟩,?_,ae⟩
  .rw [cR,ez,bF,bF];show _=_++[V.int ((g z).getD 0)];rw [en];rfl
  intro b o hb;rw [aj (λz=>by rw [z,hD] at hb;cases hb)];exact sm b o hb
 obtain⟨rfl,_,sm,hd2⟩:=h;rw [au,cQ] at hd2;exact q H2 sm hd2
end L2
namespace gK
open PySem L2 M11
section
def rG (K:a9):Sp:=λvs H Q _=>∃(d r:Addr)(kvs:List (aS×V))(g:G)(ru:aw),vs=[.ref d,.ref r]/\Rd H d (.dK kvs)/\(∀z,bA kvs (Sum.inr z)=(g z).map V.int)/\BV K H r ru/\ru.2.length<=8/\(∀z∈ru.2,(g z).isSome=true)/\∀H',aC H H'->Q (.int (aW g ru)) H'
def yW:aK ["sizes","rule"] ["sizes","rule"] (av ph):=iq rfl rfl rfl rfl (by decide +kernel)
def xt (F:g9 K "rule_size" "rule_size" ph f fd)(T:Txt mg):bN P w K mg base fj 1 f fd ["sizes","rule"] (rG K):=by
 refine F.ok yW (λvs H Q E h=>?_) (λdU A outer s H vs Q E hr h=>?_)
 .obtain⟨d,r,kvs,g,ru,rfl,_⟩:=h;rfl
 obtain⟨d,r,kvs,g,ru,rfl,hd,hv,⟨p,v1,v2⟩,h8,al,q⟩:=h;have hu:=fR hr;refine⟨_,ak (aL (aX gp ao (aD (uL rfl) rfl T.sum PyProof.Rows.boot_sum (ab (bE ["part"] [(0,"sizes")] rfl (gH (aF aN (pv 1) ao (λ_ _=>rfl))) (bp rfl rfl) (by decide +kernel) rfl (by decide +kernel)
   (λ_ _ _ _ _=>aq (i:=0) (show (["part","sizes"]:List Str).Nodup by decide +kernel) rfl (bx rfl)) (λ_ _ _ _ _=>bX) (λ_ _ _ _ _=>fJ hu (pv 1) (pv 0) (λ_ _=>rfl))) ah)))),?_⟩
 dsimp only [Ax];refine⟨_,rfl,r,_,_,_,rfl,rfl,v1,rfl,p,rfl,⟨_,v2⟩,λD hD=>Ay (g:=g) rfl v2 ∅ hd hv al hD λH2 s2 e2=>?_⟩;refine⟨D,_,rfl,aI.of e2,_,_,rfl,rfl,?_⟩;exact q H2 s2
end
end gK
namespace M11
open PySem
def wF.at_ {aa:List aw}{bB:List (Str×Nat)}(h:wF aa bB):∀(i:Nat)(x:Str) (k:Nat),bB[i]?=some (x,k)->∃bG,aa[k]?=some (x,bG)/\∀p∈bG,p∈(bB.take i).map (·.1):=by
 induction h with
 | nil=>intro i x k e;simp at e
 | @snoc bB k2 ru h e n p ih =>
  intro i x k ei;by_cases hi:i < bB.length
  .rw [mX hi] at ei;obtain⟨bG,a,b⟩:=ih i x k ei;exact⟨bG,a,λq hq=>by rw [p_ (jG hi)];exact b q hq⟩
  have li:=(bq.mp ei).1;rw [bL,fO] at li;have e2:i=bB.length:=by omega
  subst e2;rw [lQ (aH _),oH] at ei;cases ei;exact⟨ru.2,e,λq hq=>by rw [List.take_left'];exact p q hq;rfl⟩
end M11
namespace gK
open PySem L2 M11
section
def sV {H:Hp}{p D d:Addr}{zs:List Str}{kvs:List (aS×V)}{σ:St}{js:List (Nat×Str)}{Qp:Hp->Prop}(hσ:eQ ["part"] js σ=[none,aP d])(hp:aQ K H p (zs.map V.str))(hz:zs.length<=1000)
  (hd:H d=some (.dK kvs))(ha:∀z∈zs,(Sum.inr z:aS)∈kvs.map (·.1))(hD:H D=none)(q:∀ys H2,ys.length=zs.length->aC H H2->H2 D=some (.lst ys)->Qp H2) :
  ∃W:Nat->Nat->List V->St->Hp->Prop,(∃m,W 0 m [] (eQ ["part"] js σ) (upd H D (.lst []))) /\
 ∀i m ys σ' H,W i m ys σ' H->((qk K p).stop i H/\Qp H)\/((qk K p).go i H/\∃m',m' < m/\∀x H',(qk K p).mZ i H x H'->dP 0 x σ' H' λσ2 H2=>iw σ2 H2 λb H3 =>
  if b=true then AS (gW 1) (gW 0) σ2 H3 λy H4=>H4 D=some (.lst ys)/\ys.length < sizeLine/\W (i+1) m' (ys++[y]) σ2 (upd H4 D (.lst (ys++[y]))) else W (i+1) m' ys σ2 H3):=by
 refine g8 (xs:=zs.map V.str) (λi ys σ2 H2=>ys.length=i/\(∃y0,σ2=[y0,aP d])/\aC H H2/\H2 D=some (.lst ys))
  ⟨rfl,⟨none,hσ⟩,af hD _,ae⟩ (λi ys σ2 H2 _ h=>h.2.2.1.tup hp) (λi x ys σ2 H2 ex h=>?_) (λys σ2 H2 h=>?_)
 .obtain⟨rfl,⟨y0,rfl⟩,sm,hd2⟩:=h;rw [bh] at ex;obtain⟨z,ez,rfl⟩:=cg.mp ex;have li:=(bq.mp ez).1;obtain⟨v,ev⟩:=mW.mp ((ff kvs (Sum.inr z)).mpr (ha z (cf ez)));have hg:cy H2 d (.str z) (some v):=by
   have:=cy.k (k:=Sum.inr z) (sm _ _ hd);rw [ev] at this;exact this
  refine goN (yy ?_);refine⟨_,rfl,_,rfl,d,_,rfl,hg,hd2,bK ∅,by rw [bL];rfl,⟨_,rfl⟩,?_,ae⟩;intro b o hb;rw [aj (λz=>by rw [z,hD] at hb;cases hb)];exact sm b o hb
 obtain⟨e,_,sm,hd2⟩:=h;rw [au] at e;exact q ys H2 e sm hd2
def uh (K:a9):Sp:=λvs H Q _=>∃(R D:Addr)(rs ts:List Addr)(aa:List aw)(bB:List (Str×Nat)),vs=[.ref R,.ref D]/\aI K H R (rs.map V.ref)/\bH K H rs aa/\aa.length<=1000/\(∀ru∈aa,ru.2.length<=8)/\aI K H D (ts.map V.ref)/\pR K H ts bB/\wF aa bB/\bB.length<=1000 /\
 ∀(d:Addr)(kvs:List (aS×V))(H':Hp),H d=none->aC H H'->H' d=some (.dK kvs)->kvs.map (·.1)=(bB.map (·.1)).map Sum.inr->Q (.ref d) H'
def lh:aK ["rules","empties","trees","name","number"] ["rules","empties"] (av rR):=iq rfl rfl rfl rfl (by decide +kernel)
def zR (F:g9 K "empty_by_name" "empty_by_name" rR f fd)(T:Txt mg):bN P w K mg base fj 1 f fd ["rules","empties"] (uh K):=by
 refine F.ok lh (λvs H Q E h=>?_) (λdU A outer s H vs Q E hr h=>?_)
 .obtain⟨R,D,rs,ts,aa,bB,rfl,_⟩:=h;rfl
 obtain⟨R,D,rs,ts,aa,bB,rfl,hR,b9,br,h8,hD,YT,Qg,Qi,q⟩:=h;have hu:=fR hr;refine⟨_,ai (aA (i:=2) lh.nd rfl (Or.inr rfl) ig)
  (ai (bO bZ rfl (aZ (pv 1)) (fI (n:=2) K rfl (aE (aq (i:=3) lh.nd rfl (bx rfl)) (aE (aq (i:=4) lh.nd rfl (bx rfl)) b8)))
   (ak (iZ hu (pv 2) (pv 3) (bC (ab (pv 4) (ab (bD f_ rfl T.tup qR (ab (bE ["part"] [(2,"trees")] rfl (gH (aF aN (aF bo (pv 0) (pv 4) (λ_ _=>rfl)) ao (λ_ _=>rfl))) (bp rfl rfl) (by decide +kernel) rfl (by decide +kernel)
    (λ_ _ _ _ _=>aq (i:=0) (show (["part","trees"]:List Str).Nodup by decide +kernel) rfl (bx rfl)) (λ_ _ _ _ _=>bX) (λ_ _ _ _ _=>fJ hu (pv 1) (pv 0) (λ_ _=>rfl))) ah)) ah))) rfl)))
  (ak (aL (pv 2)))),?_⟩
 nofun
 refine λd yB=>?_;have s1:=af yB (.dK []);have e1:upd H d (.dK []) d=some (.dK []):=ae;generalize upd H d (.dK [])=H1 at s1 e1;refine goN ?_
 ac_rfl
 have lt:=aY YT;have ll:=aY b9;have nd:=Qg.nd;refine⟨_,rfl,D,rfl,⟨_,s1.seq hD⟩,cC (xs:=ts.map V.ref) (λi σ H3=>∃(kvs:List (aS×V))(y3 y4:Option V),σ=[aP R,aP D,aP d,y3,y4]/\aC H H3/\H3 d=some (.dK kvs)/\kvs.map (·.1)=((bB.take i).map (·.1)).map Sum.inr) ⟨[],_,_,rfl,s1,e1,rfl⟩ ?_ ?_ ?_⟩
 .rintro i σ H3 _ ⟨kvs,y3,y4,rfl,s3,_⟩;exact s3.seq hD
 .rintro i x σ H3 ex ⟨kvs,y3,y4,rfl,s3,ed,ek⟩
  ac_nf0
  rw [bh] at ex;obtain⟨t,et,rfl⟩:=cg.mp ex;have li:=(bq.mp et).1;obtain⟨e,ee⟩:∃e,bB[i]?=some e:=⟨bB[i]'∅,b_ ∅⟩;obtain⟨t',Zc,vt⟩:=Paired.at_ YT i e ee;rw [et] at Zc;cases Zc;obtain⟨x,k⟩:=e;obtain⟨bG,hk,YF⟩:=Qg.at_ i x k ee;obtain⟨r,er,p,v1,v2⟩:=Paired.at_ b9 k _ hk;have tM:jR (rs.map V.ref) (k:Int)=some (.ref r):=bS (by rw [bh,er];rfl);have YG:bG.length<=8:=h8 _ (cf hk);refine⟨t,_,rfl,s3.tup vt,rfl,_,_,rfl,_,_,rfl,rfl,?_⟩;refine⟨_,rfl,_,rfl,_,rfl,R,_,_,_,rfl,rfl,s3.seq hR,tM,r,_,_,_,rfl,rfl,s3.tup v1,rfl,p,rfl,⟨_,s3.tup v2⟩,λD2 i8=>sV (zs:=bG) rfl (s3.tup v2) ∅ ed (λz hz=>by rw [ek];exact df.mpr (YF z hz)) i8 λys H4 ly s4 e4=>?_⟩;refine⟨D2,ys,rfl,.inl ⟨aI.of e4,λt2 VW=>⟨kb,λFE MQ=>?_⟩⟩⟩;have k5:=(af VW (.tup ys)).trans (af MQ (.tup [.int (k:Int),.ref t2]));generalize upd (upd H4 t2 (.tup ys)) FE (.tup [.int (k:Int),.ref t2])=H5 at k5;have ed5:=k5 _ _ (s4 _ _ ed);have lkv:kvs.length=i:=by
   have:=congrArg List.length ek;rw [au,au,au,dN] at this;omega
  have nx:x∉(bB.take i).map (·.1):=λz=>by
   obtain⟨e2,m2,q2⟩:=cP.mp z;obtain⟨j,hj⟩:=iu m2;rw [List.getElem?_take] at hj
   split at hj
   .rename_i YN
    have a1:(bB.map (·.1))[j]?=some x:=by rw [bh,hj];exact congrArg some q2
    have a2:(bB.map (·.1))[i]?=some x:=by rw [bh,ee];rfl
    have:=(List.getElem?_inj (by rw [au];omega) nd).mp (a1.trans a2.symm);omega
   cases hj
  refine⟨_,rfl,_,rfl,d,_,rfl,.inl ⟨kvs,Sum.inr x,ed5,rfl,bK ∅,rfl⟩,?_⟩;refine⟨_,_,_,rfl,λb o hb=>?_,ae,?_⟩
  .rw [aj (λz=>by rw [z,yB] at hb;cases hb)];exact k5 _ _ (s4 _ _ (s3 b o hb))
  rw [iY (by rw [ek];exact λz=>nx (df.mp z)),ek,cR,ee,bF,bF];rfl
 rintro σ H3 ⟨kvs,y3,y4,rfl,s3,ed,ek⟩;rw [au,lt,cQ] at ek;exact⟨_,rfl,q d kvs H3 yB s3 ed ek⟩
end
end gK
namespace M11
open PySem
def Le (g' g:G):Prop:=∀z n,g z=some n->∃m,g' z=some m/\m<=n
def xQ {g:G}{ru:aw}(f:cN bl g ru=true):k0 g ru=true/\∀n,g ru.1=some n->aW g ru < n:=by
 unfold cN at f;rw [pV] at f;refine⟨f.1,λn e=>?_⟩;have:=f.2;rw [e] at this;have:(!(some n:Option Int).isSome || bl (aW g ru) n)=true:=this
 simpa [bl] using this
def le_step {g:G}{ru:aw}(f:cN bl g ru=true):Le (eJ g ru.1 (aW g ru)) g:=λz n e=>by
 unfold eJ;by_cases c:z=ru.1
 .rw [ax c];subst c;exact⟨_,rfl,Int.le_of_lt ((xQ f).2 n e)⟩
 rw [az c];exact⟨n,e,oE _⟩
theorem Eg {g g':G}(h:Le g' g):∀ps:List Str,(∀p∈ps,(g p).isSome=true)->(∀p∈ps,(g' p).isSome=true)/\(ps.map λp=>(g' p).getD 0).sum<=(ps.map λp=>(g p).getD 0).sum
 | [],_=>⟨λp hp=>(by cases hp),oE _⟩
 | p::r,a=>by
  obtain⟨h1,h2⟩:=Eg h r λq hq=>a q (dr _ hq);obtain⟨n,en⟩:=mW.mp (a p cU);obtain⟨m,em,lm⟩:=h p n en;refine⟨λq hq=>?_,?_⟩
  .rcases cz.mp hq with rfl | hq
   .rw [em];rfl
   exact h1 q hq
  rw [cq,cq,jW,jW,en,em];show m+_<=n+_;omega
def uS {g:G}{ru:aw}:k0 g ru=true↔∀p∈ru.2,(g p).isSome=true:=by
 unfold k0;rw [gB]
def size_le {g g':G}{ru:aw}(h:Le g' g)(a:k0 g ru=true):k0 g' ru=true/\aW g' ru<=aW g ru:=by
 obtain⟨h1,h2⟩:=Eg h ru.2 (uS.mp a);exact⟨uS.mpr h1,by unfold aW;omega⟩
def N9 (aa:List aw) (hs:List Str)(g:G):Prop:=∀h n,g h=some n->h∉hs\/∃ru∈aa,ru.1=h/\k0 g ru=true/\aW g ru<=n
def DY {aa:List aw}{hs:List Str}(g:G)(ru:aw)(j:N9 aa hs g)(m:ru∈aa)(f:cN bl g ru=true):N9 aa hs (eJ g ru.1 (aW g ru)):=λh n e=>by
 have le:=le_step f;by_cases c:h=ru.1
 .have e2:n=aW g ru:=by
   unfold eJ at e;rw [ax c] at e;exact(gR e).symm
  obtain⟨a1,a2⟩:=size_le le (xQ f).1;exact .inr ⟨ru,m,c.symm,a1,∅⟩
 have e2:g h=some n:=by
  unfold eJ at e;rw [az c] at e;exact e
 rcases j h n e2 with h1 | ⟨NB,m2,q2,a2,l2⟩
 .exact .inl h1
 obtain⟨b1,b2⟩:=size_le le a2;exact .inr ⟨NB,m2,q2,b1,∅⟩
def CD {aa:List aw}{hs:List Str}{g0 g:G}(j0:N9 aa hs g0)(st:eI bl aa g0 g)(se:i9 bl aa g){h:Str}{n:Int}(hh:h∈hs)(e:g h=some n):∃ru∈aa,ru.1=h/\k0 g ru=true/\aW g ru=n:=by
 have j:N9 aa hs g:=eI.keep (J:=N9 aa hs) (λg ru j m f=>DY g ru j m f) st j0;rcases j h n e with z | ⟨ru,m,q,a,l⟩
 .exact absurd hh z
 refine⟨ru,m,q,a,?_⟩;have f:=se ru m;unfold cN at f;rw [a,q,e] at f;have f:(true && (!(some n:Option Int).isSome || bl (aW g ru) n))=false:=f
 have f2:¬aW g ru < n:=by simpa [bl] using f
 omega
theorem Br {g:G}(nn:NN g):∀(ps:List Str)(p:Str) (m:Int),p∈ps->g p=some m->m<=(ps.map λp=>(g p).getD 0).sum
 | q::r,p,m,hp,e=>by
  rw [cq,jW];have h1:=jI g nn r;rcases cz.mp hp with rfl | hp
  .rw [e];show m<=m+_;omega
  have h2:=Br nn r p m hp e;have h3:0<=(g q).getD 0:=by
   cases eq:g q with
   | none=>exact oE _
   | some n=>exact nn q n eq
  omega
def Ci {g:G}(nn:NN g){ru:aw}{p:Str}{m:Int}(hp:p∈ru.2)(e:g p=some m):m < aW g ru:=by
 have:=Br nn ru.2 p m hp e;unfold aW;omega
theorem AL:∀(bf ps bz:List Str),(∀z∈bz,z∉bf)->∀z∈tI bf bz ps,z∉bf
 | _,[],bz,h=>h
 | bf,p::r,bz,h=>by
  show ∀z∈tI bf (addW bf bz p) r,z∉bf;refine AL bf r _ ?_;unfold addW
  split
  .exact h
  rename_i hp
  unfold gO
  split
  .exact h
  intro z hz;rcases cA.mp hz with hz | hz
  .exact h z hz
  rw [bU.mp hz];exact hp
def vw {g:Str->Int}{zs:List Str}(h:zs.Pairwise λx y=>g x<=g y){i:Nat}{x p:Str}(e:zs[i]?=some x)(hp:p∈zs)(l:g p < g x):p∈zs.take i:=by
 obtain⟨j,ej⟩:=iu hp;obtain⟨li,ei⟩:=bq.mp e;obtain⟨lj,ej2⟩:=bq.mp ej;have YN:j < i:=by
  rcases Nat.lt_trichotomy j i with h1 | h1 | h1
  .exact h1
  .subst h1;rw [e] at ej;cases ej;omega
  have:=List.pairwise_iff_getElem.mp h i j li lj h1;rw [ei,ej2] at this;omega
 rw [List.mem_iff_getElem?];exact⟨j,by rw [List.getElem?_take,ax YN];exact ej⟩
end M11
namespace gK
open PySem L2 M11
def SM (aa:List aw):N9 aa (hd aa) (yz aa):=λh n e=>by
 unfold yz at e;by_cases c:h∈tI (hd aa) [] (aa.flatMap (·.2))
 .exact .inl (AL _ _ [] (λz hz=>by cases hz) h c)
 rw [az c] at e;cases e
def nn0 (aa:List aw):NN (yz aa):=λh n e=>by
 unfold yz at e;by_cases c:h∈tI (hd aa) [] (aa.flatMap (·.2))
 .rw [ax c] at e;cases e;exact oE _
 rw [az c] at e;cases e
def LX {aa:List aw}{g:G}(st:eI M11.bl aa (yz aa) g):NN g:=eI.keep (J:=NN) (λg ru j m f=>vV j ru) st (nn0 aa)
theorem vk (bf:List Str):∀(ps bz:List Str)(x:Str),(x∈bz\/(x∈ps/\x∉bf))->x∈tI bf bz ps
 | [],bz,x,h=>by
  rcases h with h | ⟨h,_⟩
  .exact h
  cases h
 | p::r,bz,x,h=>by
  show x∈tI bf (addW bf bz p) r;apply vk bf r;unfold addW;by_cases c:p∈bf
  .rw [ax c];rcases h with h | ⟨h,n⟩
   .exact .inl h
   rcases cz.mp h with z | z
   .exact absurd (z ▸ c) n
   exact .inr ⟨z,n⟩
  rw [az c];rcases h with h | ⟨h,n⟩
  .exact .inl ((oA _ _ _).mpr (.inl h))
  rcases cz.mp h with z | z
  .exact .inl ((oA _ _ _).mpr (.inr z))
  exact .inr ⟨z,n⟩
def O7:List Stmt->Pos
 | [_,_,_,.For _ (.Call _ _ [⟨_,.Lambda _ _ _ pos,_⟩] _) _ _ _,_]=>pos
 | _=>⟨0,0,0,0⟩
abbrev posB:Pos:=O7 (cw nF)
abbrev Hi:Str := "least_by_part" ++ ".<locals>." ++ "<lambda>"
section
def o9 (K:a9)(T1 T3:Addr):Sp:=λvs H Q _=>∃(R:Addr)(rs:List Addr)(aa:List aw),vs=[.ref R]/\aI K H R (rs.map V.ref)/\bH K H rs aa/\aa.length < 64/\(∀ru∈aa,ru.2.length<=8)/\(∀g,eI M11.bl aa (yz aa) g->i9 M11.bl aa g->∀h∈hd aa,∃n,g h=some n/\n<=60)/\Tab T1 r_.2.2.2 yr H/\Tab T3 posB Hi H/\T1≠T3 /\
 ∀(d:Addr)(kvs:List (aS×V))(H':Hp),H d=none->lZ T1 T3 H H'->Tab T1 r_.2.2.2 yr H'->Tab T3 posB Hi H'->H' d=some (.dK kvs)->(∀z,z∈hd aa->(Sum.inr z:aS)∈kvs.map (·.1))->Q (.ref d) H'
structure LB (K:a9)(rs:List Addr)(aa:List aw)(qI:List (aS×V))(ps:List (Str×Addr))(R dz dn T1 T3:Addr)(H5:Hp):Prop where
 hR:aI K H5 R (rs.map V.ref)
 b9:bH K H5 rs aa
 nm:HN ps (λn=>nums aa n aa.length) H5 dn
 rz:Rd H5 dz (.dK qI)
 t1:Tab T1 r_.2.2.2 yr H5
 t3:Tab T3 posB Hi H5
theorem LB.same {rs:List Addr}{aa:List aw}{qI:List (aS×V)}{ps:List (Str×Addr)}{R dz dn T1 T3:Addr}{H5 H6:Hp}(h:LB K rs aa qI ps R dz dn T1 T3 H5)(s:aC H5 H6):LB K rs aa qI ps R dz dn T1 T3 H6 :=
 ⟨s.seq h.hR,h.b9.same s,h.nm.same s,gK.Rd.same h.rz s,h.t1.same s,h.t3.same s⟩
def LB.Kb {rs:List Addr}{aa:List aw}{qI:List (aS×V)}{ps:List (Str×Addr)}{R dz dn T1 T3 d:Addr}{H5 H6:Hp}{kv:List (aS×V)}(h:LB K rs aa qI ps R dz dn T1 T3 H5)(e:H5 d=some (.dK kv))(n1:dn≠d)(n2:dz≠d)(s:dZ d H5 H6):LB K rs aa qI ps R dz dn T1 T3 H6:=by
 have tk:∀a xs,aQ K H5 a xs->aQ K H6 a xs:=λa xs z=>by
  rcases z with (z | ⟨u,z⟩) | z
  .exact .inl (.inl (s _ _ (λy=>by rw [y,e] at z;cases z) z))
  .exact .inl (.inr ⟨u,s _ _ (λy=>by rw [y,e] at z;cases z) z⟩)
  exact .inr z
 have tb:∀{T':Addr}{pos':Pos}{Hg:Str},Tab T' pos' Hg H5->Tab T' pos' Hg H6:=λ{T' pos' Hg} ⟨p,a,b,cc⟩=>⟨p,s _ _ (λy=>by rw [y,e] at a;cases a) a,b,cc.imp id λ⟨c',e1,e2⟩=>⟨c',e1,s _ _ (λy=>by rw [y,e] at e2;cases e2) e2⟩⟩;refine⟨?_,h.b9.keep tk,⟨s _ _ n1 h.nm.hd,h.nm.n1,h.nm.n2,λp hp=>s _ _ (λy=>by have a:=h.nm.lst p hp;rw [y,e] at a;cases a) (h.nm.lst p hp)⟩,?_,tb h.t1,tb h.t3⟩
 .rcases h.hR with (z | ⟨u,z⟩) | z
  .exact .inl (.inl (s _ _ (λy=>by rw [y,e] at z;cases z) z))
  .exact .inl (.inr ⟨u,s _ _ (λy=>by rw [y,e] at z;cases z) z⟩)
  exact .inr z
 rcases h.rz with z | ⟨u,z⟩
 .exact .inl (s _ _ n2 z)
 exact .inr ⟨u,s _ _ n2 z⟩
def LB.OS {rs:List Addr}{aa:List aw}{qI:List (aS×V)}{ps:List (Str×Addr)}{R dz dn T1 T3:Addr}{H5 H6:Hp}(h:LB K rs aa qI ps R dz dn T1 T3 H5)(nT:T1≠T3)(s:dZ T3 H5 H6)(t:Tab T3 posB Hi H6):LB K rs aa qI ps R dz dn T1 T3 H6:=by
 obtain⟨pt,eT,_⟩:=id h.t3;refine⟨Bi s h.t3 h.hR,h.b9.keep λ_ _ z=>AN s h.t3 z,⟨s _ _ (λy=>by have a:=h.nm.hd;rw [y,eT] at a;cases a) h.nm.hd,h.nm.n1,h.nm.n2,λp hp=>s _ _ (λy=>by have a:=h.nm.lst p hp;rw [y,eT] at a;cases a) (h.nm.lst p hp)⟩,?_,AQ s h.t3 h.t1 nT,t⟩;rcases h.rz with z | ⟨u,z⟩
 .exact .inl (s _ _ (λy=>by rw [y,eT] at z;cases z) z)
 exact .inr ⟨u,s _ _ (λy=>by rw [y,eT] at z;cases z) z⟩
theorem pG:∀(hs:List Str)(bz:List (aS×V)) (as:List Str),bz.map (·.1)=as.map Sum.inr->(cJ (hs.map λh=>((Sum.inr h:aS),V.str h)) bz).map (·.1)=(M11.tL as hs).map Sum.inr
 | [],bz,as,e=>e
 | h::r,bz,as,e=>pG r (bR bz (Sum.inr h) (.str h)) (M11.gO as h) (gK.kW e h)
def iD:aK ["rules","numbers","trees","name","least","sizes"] ["rules"] (av nF):=iq rfl rfl rfl rfl (by decide +kernel)
def zQ {T1 T3:Addr}(F:yj K "least_by_part" "least_by_part" nF f fd T3)(T:Txt mg)(hB:tH mg base)(hS:mg "sorted"=none)(GH:aB P w K mg base 3 "heads_of" ["rules"] (iW K))(GL:aB P w K mg base 3 "least_sizes" ["rules"] (qB K T1))(GN:aB P w K mg base 3 "numbers_by_name" ["rules"] (Ej K))(GZ:aB P w K mg base 3 "rule_size" ["sizes","rule"] (rG K)):bN P w K mg base fj 4 f fd ["rules"] (o9 K T1 T3):=by
 refine F.ok iD (λvs H Q E h=>?_) (λc A outer s H vs Q E hC hr h=>?_)
 .obtain⟨R,rs,aa,rfl,_⟩:=h;rfl
 obtain⟨R,rs,aa,rfl,hR,b9,br,h8,Ga,Jb,VB,nT,q⟩:=h;have hu:=fR hr;refine⟨_,ai (aA (i:=5) iD.nd rfl (Or.inr rfl) (a8 GL hr rfl (ab (pv 0) ah)))
  (ai (aA (i:=1) iD.nd rfl (Or.inr rfl) (a8 GN hr rfl (ab (pv 0) ah)))
  (ai (aA (i:=2) iD.nd rfl (Or.inr rfl) (bD (dC rfl) rfl T.yD eY (ab (bE ["part"] [(1,"numbers")] rfl (Bo (pv 5)) (bp rfl rfl) (by decide +kernel) rfl (by decide +kernel)
    (λ_ _ _ _ _=>aq (i:=0) (show (["part","numbers"]:List Str).Nodup by decide +kernel) rfl (bx rfl)) (λ_ _ _ _ _=>g_ (cY (dY hu (pv 0) (pv 1)))) (λ_ _ _ _ _=>bC (ab (pv 0) (ab (pv 0) ah)))) ah)))
  (ai (bO bZ rfl (aZ (E4 (i:=5) (T:=T3) hr rfl hC hB rfl hS (ab (a8 GH hr rfl (ab (pv 0) ah)) ah) rfl rfl (λy hy=>by
    rcases cz.mp hy with h | h
    .cases h
    rcases cz.mp h with h | h
    .cases h;rfl
    cases h) (λq cl pm gy c' us hl=>match us,hl with | [_],_=>rfl) rfl rfl rfl (by decide +kernel) rfl rfl)) (aq (i:=3) iD.nd rfl (Or.inr rfl))
   (ai (iz (iy:=4) ["number"] [(5,"sizes"),(0,"rules"),(3,"name")] iD.nd rfl rfl rfl (aZ (fJ hu (pv 1) (pv 3) (λ_ _=>rfl))) (bp rfl rfl) (by decide +kernel) rfl (by decide +kernel)
    (λ_ _ _ _ _=>aq (i:=0) (show (["number","sizes","rules","name"]:List Str).Nodup by decide +kernel) rfl (bx rfl)) (λ_ _ _ _ _=>g_ (aV ij (a8 GZ hr rfl (ab (pv 1) (ab (aF (FX K) (pv 2) (pv 0) (λ_ _=>rfl)) ah))) (fJ hu (pv 1) (pv 3) (λ_ _=>rfl)) (bu _))) (λ_ _ _ _ _=>pv 0))
   (ak (iZ hu (pv 2) (pv 3) (bC (ab (aF bo (pv 4) ao (λ_ _=>rfl)) (ab (bD f_ rfl T.tup qR (ab (bE ["part"] [(2,"trees")] rfl (gH (aF aN (aF bo (pv 0) (aF bo (pv 4) ao (λ_ _=>rfl)) (λ_ _=>rfl)) ao (λ_ _=>rfl))) (bp rfl rfl) (by decide +kernel) rfl (by decide +kernel)
    (λ_ _ _ _ _=>aq (i:=0) (show (["part","trees"]:List Str).Nodup by decide +kernel) rfl (bx rfl)) (λ_ _ _ _ _=>bX) (λ_ _ _ _ _=>fJ hu (pv 1) (pv 0) (λ_ _=>rfl))) ah)) ah))) rfl))))
  (ak (aL (pv 2)))))),?_⟩
 nofun
 refine⟨_,rfl,R,rs,aa,rfl,hR,b9,∅,h8,Jb,λdz qI J_ g H1 fz s1 t1 ez kz vz Rq Xw lz=>?_⟩;refine goN ?_
 ac_rfl
 have YZ:=Bi s1 Jb hR;have P7:=b9.keep λ_ _ z=>AN s1 Jb z;have Xo:=AQ s1 Jb VB (cO nT);refine⟨_,rfl,R,rs,aa,rfl,YZ,P7,∅,λdn ps H2 fn s2 nm pk pf=>?_⟩;refine goN ?_
 ac_rfl
 have NX:=s2 _ _ ez;refine⟨_,rfl,dz,qI,rfl,NX,λo D hD=>?_⟩;have T_:∀p∈ps,p.2≠dz:=λp hp z=>by
  have a:=nm.lst p hp;rw [z,NX] at a;cases a
 have ndz:dn≠dz:=λz=>by rw [z,ez] at fn;cases fn
 have nz1:T1≠dz:=λz=>by
  obtain⟨p,a,_⟩:=t1;rw [z,ez] at a;cases a
 have nz3:T3≠dz:=λz=>by
  obtain⟨p,a,_⟩:=Xo;rw [z,ez] at a;cases a
 have Ow:∀{T':Addr}{pos':Pos}{Hg:Str},T'≠dz->Tab T' pos' Hg H2->Tab T' pos' Hg (upd H2 dz (.ki o (.dK qI))):=λ{T' pos' Hg} n ⟨p,a,b,cc⟩=>⟨p,by rw [aj n];exact a,b,cc.imp id λ⟨c',e1,e2⟩=>⟨c',e1,by rw [aj (λz=>by rw [z,NX] at e2;cases e2)];exact e2⟩⟩;have L3:LB K rs aa qI ps R dz dn T1 T3 (upd H2 dz (.ki o (.dK qI))):=by
  refine⟨?_,(P7.same s2).keep λ_ _ z=>h_ NX z,⟨by rw [aj ndz];exact nm.hd,nm.n1,nm.n2,λp hp=>by rw [aj (T_ p hp)];exact nm.lst p hp⟩,.inr ⟨o,ae⟩,Ow nz1 (t1.same s2),Ow nz3 (Xo.same s2)⟩;rcases s2.seq YZ with (h | ⟨u,h⟩) | h
  .exact .inl (.inl (by rw [aj (λz=>by rw [z,NX] at h;cases h)];exact h))
  .exact .inl (.inr ⟨u,by rw [aj (λz=>by rw [z,NX] at h;cases h)];exact h⟩)
  exact .inr h
 have e3:upd H2 dz (.ki o (.dK qI)) dz=some (.ki o (.dK qI)):=ae;have Ca:lZ T1 T3 H (upd H2 dz (.ki o (.dK qI))):=λb u n1 n3 hb=>by
  rw [aj (λz=>by rw [z,fz] at hb;cases hb)];exact s2 _ _ (s1 b u n1 hb)
 generalize upd H2 dz (.ki o (.dK qI))=H3 at hD L3 e3 Ca ⊢;have lkz:qI.length=J_.length:=by
  have:=congrArg List.length kz;rwa [au,au] at this
 refine sZ (λi ys σ2 H4=>∃ts:List Addr,ys=ts.map V.ref/\(∃y0,σ2=[y0,aP dn])/\aC H3 H4/\H4 D=some (.lst ys)/\ts.length<=i/\Paired (λt h=>aQ K H4 t [.str h,.str h]) ts ((J_.take i).filter λz=>!decide (z∈hd aa)))
  ⟨[],rfl,⟨none,rfl⟩,af hD _,ae,aH _,.nil⟩ (λi ys σ2 H4 _ h=>?_) (λi kv ys σ2 H4 ex h=>?_) (λys σ2 H4 h=>?_)
 .obtain⟨_,_,_,sm,_⟩:=h;exact sm _ _ e3
 .obtain⟨ts,rfl,⟨y0,rfl⟩,sm,e4,lts,pt⟩:=h;obtain⟨z,ezz,ekz⟩:∃z,J_[i]?=some z/\kv.1=Sum.inr z:=by
   have a1:(qI.map (·.1))[i]?=some kv.1:=by rw [bh,ex];rfl
   rw [kz,bh] at a1;obtain⟨z,a2,a3⟩:=cg.mp a1;exact⟨z,a2,a3.symm⟩
  rw [ekz];have L4:=L3.same sm;have Vk:(bA (ps.map jE) (Sum.inr z)).isSome=decide (z∈hd aa):=by
   rw [mN,ff,decide_eq_true_iff,<-pk];rw [iF];constructor
   .intro h;obtain⟨p,hp,e⟩:=cP.mp h;exact cP.mpr ⟨p,hp,l_ e⟩
   intro h;obtain⟨p,hp,e⟩:=cP.mp h;exact cP.mpr ⟨p,hp,congrArg Sum.inr e⟩
  refine goN ?_;refine⟨_,rfl,_,rfl,dn,_,rfl,cy.k (k:=Sum.inr z) L4.nm.hd,_,rfl,?_⟩;rw [Vk];have Gq:((J_.take (i+1)).filter λz=>!decide (z∈hd aa))=((J_.take i).filter λz=>!decide (z∈hd aa))++(if (!decide (z∈hd aa))=true then [z] else []):=by
   rw [cR,ezz,oX]
   congr 1
   by_cases c:z∈hd aa <;> simp [c]
  refine bY (λcc=>?_) (λcc=>?_)
  .refine⟨_,rfl,_,rfl,kb,λt ht=>?_⟩;have k5:=af ht (.tup [kV (Sum.inr z),kV (Sum.inr z)]);have v5:aQ K (upd H4 t (.tup [kV (Sum.inr z),kV (Sum.inr z)])) t [.str z,.str z]:=aQ.of ae;generalize upd H4 t (.tup [kV (Sum.inr z),kV (Sum.inr z)])=H5 at k5 v5;have li:=(bq.mp ex).1;have e5:=k5 _ _ e4;refine⟨e5,bK (by rw [au];omega),ts++[t],by rw [bF];rfl,⟨_,rfl⟩,λb u hb=>?_,ae,by rw [bL,fO];omega,?_⟩
   .rw [aj (λz=>by rw [z,hD] at hb;cases hb)];exact k5 _ _ (sm b u hb)
   rw [Gq,ax cc];exact gQ (Paired.dI pt λ_ _ z=>aT e5 (k5.tup z)) (aT e5 v5)
  refine⟨ts,rfl,⟨_,rfl⟩,sm,e4,∅,?_⟩;rw [Gq,az cc,ir];exact pt
 obtain⟨ts,rfl,_,s4,e4,lts,pt⟩:=h;rw [lkz,cQ] at pt;have Yy:∀z,z∉hd aa->(g z).isSome=true->z∈J_.filter λz=>!decide (z∈hd aa):=λz hz gz=>by
  refine lL.mpr ⟨?_,by simpa using hz⟩;have a1:(bA qI (Sum.inr z)).isSome=true:=by rw [vz,oW];exact gz
  rw [ff,kz] at a1;exact df.mp a1
 have lws:(J_.filter λz=>!decide (z∈hd aa)).length<=20000:=fV (rp _ _) ∅;generalize J_.filter (λz=>!decide (z∈hd aa))=ws at pt Yy lws;have kp:Paired (λt (kv:aS×V)=>aQ K H4 t [kV kv.1,kv.2]) ts (ws.map λh=>((Sum.inr h:aS),V.str h)):=cu pt λ_ _ z=>z;refine⟨D,ts,_,rfl,e4,kp,λdt Bw=>?_⟩;have kt:∀z∈ws,(Sum.inr z:aS)∈(cJ (ws.map λh=>((Sum.inr h:aS),V.str h)) []).map (·.1):=λz hz=>by
  rw [pG ws [] [] rfl];exact df.mpr ((hJ ws [] z).mpr (.inr hz))
 have lkt:(cJ (ws.map λh=>((Sum.inr h:aS),V.str h)) []).length<=20000:=by
  have a:=congrArg List.length (pG ws [] [] rfl);rw [au,au] at a;have:=hU ws [];simp only [iU] at this;omega
 generalize cJ (ws.map λh=>((Sum.inr h:aS),V.str h)) []=PB at kt lkt;have s5:=s4.trans (af Bw (.dK PB));have e5:upd H4 dt (.dK PB) dt=some (.dK PB):=ae;have Kn:H3 dt=none:=s4.free Bw;generalize upd H4 dt (.dK PB)=H5 at s5 e5;have L5:=L3.same s5;refine goN ?_
 ac_rfl
 refine⟨_,rfl,R,rs,aa,rfl,L5.hR,L5.b9,∅,λDH H6 fH s6 eH=>?_⟩;have L6:=L5.same s6;have FK:=hU (aa.map (·.1)) [];simp only [iU,au] at FK;have gz:∀z∈hd aa,∃n,g z=some n:=λz hz=>by
  obtain⟨n,e,_⟩:=Ga g Rq Xw z hz;exact⟨n,e⟩
 refine⟨L6.t3,DH,hd aa,dz,qI,λz=>(g z).getD 0,rfl,aI.of eH,by unfold hd;omega,rfl,L6.rz,λz hz=>by obtain⟨n,e⟩:=gz z hz;rw [vz,e];show _=some (V.int ((g z).getD 0));rw [e];rfl,λl K0 H7 s7 t37 fl pe pw el=>?_⟩;have L7:=L6.OS nT s7 t37;have Ug:dt≠T3:=λz=>by
  obtain⟨p,a,_⟩:=L5.t3;rw [<-z,e5] at a;cases a
 have e7:=s7 _ _ Ug (s6 _ _ e5);have X0:dn≠dt:=λz=>by have a:=L3.nm.hd;rw [z,Kn] at a;cases a
 have XT:dz≠dt:=λz=>by rw [<-z,e3] at Kn;cases Kn
 have Bk:lZ T1 T3 H H7:=λb u n1 n3 hb=>s7 _ _ n3 (s6 _ _ (s5 _ _ (Ca b u n1 n3 hb)));have Uc:l≠dt:=λz=>by rw [z,s6 _ _ e5] at fl;cases fl
 have nn:=LX Rq;have hlz:K0.length < 64:=by rw [pe.length_eq];unfold hd;omega
 have Q5:∀ru∈aa,∀p∈ru.2,(g p).isSome=true:=λru i7 p hp=>by
  by_cases hh:p∈hd aa
  .obtain⟨n,e⟩:=gz p hh;rw [e];rfl
  have j0:∃n,yz aa p=some n:=⟨0,ax (vk _ _ [] p (.inr ⟨qZ.mpr ⟨ru,i7,hp⟩,hh⟩))⟩;have:∃n,g p=some n:=eI.keep (J:=λg=>∃n,g p=some n) (λg ru ⟨n,e⟩ m f=>by obtain⟨k,a,_⟩:=le_step f p n e;exact⟨k,a⟩) Rq j0;obtain⟨n,e⟩:=this;rw [e];rfl
 have ll:=aY b9;refine⟨l,rfl,⟨_,aI.of el⟩,cC (xs:=K0.map V.str) (λi σ H8=>∃(kvs:List (aS×V))(y3 y4:Option V),σ=[aP R,aP dn,aP dt,y3,y4,aP dz]/\dZ dt H7 H8/\H8 dt=some (.dK kvs)/\kvs.length<=20000+i/\(∀z∈ws,(Sum.inr z:aS)∈kvs.map (·.1))/\(∀z∈K0.take i,(Sum.inr z:aS)∈kvs.map (·.1))) ⟨PB,_,_,rfl,λ_ _ _ h=>h,e7,∅,kt,λz hz=>by cases hz⟩ ?_ ?_ ?_⟩
 .rintro i σ H8 _ ⟨kvs,y3,y4,rfl,s8,_⟩;exact aI.of (s8 _ _ Uc el)
 .rintro i x σ H8 ex ⟨kvs,y3,y4,rfl,s8,e8,Uu,Uz,Pz⟩
  ac_nf0
  rw [bh] at ex;obtain⟨z,R6,rfl⟩:=cg.mp ex;have li:=(bq.mp R6).1;have hz:z∈hd aa:=pe.mem_iff.mp (cf R6);obtain⟨n,V_⟩:=gz z hz;have L8:=L7.Kb e7 X0 XT s8;obtain⟨p,hp,U9⟩:=cP.mp (show z∈ps.map (·.1) by rw [pk];exact hz);refine goN ?_
  ac_rfl
  have hgn:cy H8 dn (.str z) (some (.ref p.2)):=by
   have:=cy.k (k:=Sum.inr z) L8.nm.hd;rw [<-U9,gU ps L8.nm.n1 p hp] at this;rw [U9] at this;exact this
  have RL:=L8.nm.lst p hp;have RL:H8 p.2=some (.lst ((nums aa z aa.length).map V.int)):=by rw [<-U9];exact RL
  have numOf:∀(m:Nat) (v:Int),(nums aa z aa.length)[m]?=some v->∃(j:Nat)(ru:aw),v=(j:Int)/\aa[j]?=some ru/\ru.1=z:=λm v e=>by
   unfold nums at e;rw [bh] at e;obtain⟨j,e1,rfl⟩:=cg.mp e;have hj:=(lL.mp (cf e1)).2;have hj:(aa[j]?.map (·.1))=some z:=dq hj;obtain⟨ru,e2,e3⟩:=cg.mp hj;exact⟨j,ru,rfl,e2,e3⟩
  have aab:=xw aa z aa.length
  let good:Int->Bool:=λv=>match aa[v.toNat]? with | some ru=>decide (aW g ru=n) | none=>false
  have wit:∃v∈nums aa z aa.length,good v=true:=by
   obtain⟨ru,i7,q1,_,q3⟩:=CD (SM aa) Rq Xw hz V_;obtain⟨j,ej⟩:=iu i7;have lj:=(bq.mp ej).1;refine⟨(j:Int),cP.mpr ⟨j,lL.mpr ⟨kJ.mpr lj,bV (by rw [ej];exact congrArg some q1)⟩,rfl⟩,?_⟩;show (match aa[(j:Int).toNat]? with | some ru=>decide (aW g ru=n) | none=>false)=true
   rw [kn,ej];exact bV q3
  refine⟨_,rfl,_,rfl,dn,_,rfl,hgn,p.2,rfl,⟨_,aI.of RL⟩,λD9 Kk=>cD (xs:=(nums aa z aa.length).map V.int) (λm ys σ2 H9=>ys=(((nums aa z aa.length).take m).filter good).map V.int/\(∃y0,σ2=[y0,aP dz,aP R,some (.str z)])/\aC H8 H9/\H9 D9=some (.lst ys))
   ⟨rfl,⟨none,rfl⟩,af Kk _,ae⟩ (λm ys σ2 H9 _ h=>?_) (λm x ys σ2 H9 em h=>?_) (λys σ2 H9 h=>?_)⟩
  .obtain⟨_,_,sm,_⟩:=h;exact aI.of (sm _ _ RL)
  .obtain⟨rfl,⟨y0,rfl⟩,sm,e9⟩:=h;rw [bh] at em;obtain⟨v,ev,rfl⟩:=cg.mp em;have lm:=(bq.mp ev).1;obtain⟨j,ru,rfl,ej,Sa⟩:=numOf m v ev;have L9:=L8.same sm;obtain⟨r,er,rv⟩:=Paired.at_ L9.b9 j ru ej;have tM:jR (rs.map V.ref) (j:Int)=some (.ref r):=bS (by rw [bh,er];rfl);have gj:good (j:Int)=decide (V.int (aW g ru)=V.int n):=by
    show (match aa[(j:Int).toNat]? with | some ru=>decide (aW g ru=n) | none=>false)=_
    rw [kn,ej];show decide (aW g ru=n)=_;by_cases c:aW g ru=n
    .rw [bV c,bV (congrArg V.int c)]
    rw [di c,di (λy=>c (by injection y))]
   refine goN ?_;refine⟨_,rfl,_,rfl,_,rfl,R,_,_,_,rfl,rfl,L9.hR,tM,dz,r,qI,g,ru,rfl,L9.rz,vz,rv,h8 ru (cf ej),Q5 ru (cf ej),λAK vR=>?_⟩;have hgz:cy AK dz (.str z) (some (.int n)):=by
    have:=cy.r (k:=Sum.inr z) (L9.same vR).rz;rw [vz,V_] at this;exact this
   refine⟨_,rfl,_,rfl,dz,_,rfl,hgz,rfl,_,rfl,?_⟩;rw [<-gj];have Gq:((nums aa z aa.length).take (m+1)).filter good=((nums aa z aa.length).take m).filter good++(if good (j:Int)=true then [(j:Int)] else []):=by
    rw [cR,ev,oX]
    congr 1
    show List.filter good [(j:Int)]=_;by_cases c:good (j:Int)=true
    .rw [ax c,uV,ax c,List.filter_nil]
    rw [az c,uV,az c,List.filter_nil]
   have lf:(((nums aa z aa.length).take m).filter good).length<=1000:=fV (rp _ _) (by rw [dN];omega);refine bY (λcc=>?_) (λcc=>?_)
   .refine⟨_,rfl,vR _ _ e9,bK (by rw [au];omega),by rw [Gq,ax cc,bF];rfl,⟨_,rfl⟩,λb u hb=>?_,ae⟩;rw [aj (λz=>by rw [z,Kk] at hb;cases hb)];exact vR _ _ (sm b u hb)
   exact⟨by rw [Gq,az cc,ir],⟨_,rfl⟩,sm.trans vR,vR _ _ e9⟩
  obtain⟨rfl,_,s9,e9⟩:=h;rw [au,cQ] at e9;refine goN ?_
  ac_rfl
  have L9:=L8.same s9;cases hf:(nums aa z aa.length).filter good with
  | nil =>
   obtain⟨v,hv,gv⟩:=wit;have:v∈(nums aa z aa.length).filter good:=lL.mpr ⟨hv,gv⟩;rw [hf] at this;cases this
  | cons v0 vr =>
   rw [hf] at e9;have hm0:v0∈(nums aa z aa.length).filter good:=by rw [hf];exact cU
   obtain⟨Vf,RN⟩:=lL.mp hm0;obtain⟨m0,V9⟩:=iu Vf;obtain⟨j,ru,rfl,ej,Sa⟩:=numOf m0 v0 V9;have hsz:aW g ru=n:=by
    have RN:(match aa[(j:Int).toNat]? with | some ru=>decide (aW g ru=n) | none=>false)=true:=RN
    rw [kn,ej] at RN;exact dq RN
   have i7:=cf ej;obtain⟨r,er,pp,v1,v2⟩:=Paired.at_ L9.b9 j ru ej;have tM:jR (rs.map V.ref) (j:Int)=some (.ref r):=bS (by rw [bh,er];rfl);have tX:jR (V.int (j:Int)::vr.map V.int) 0=some (.int (j:Int)):=bS (j:=0) rfl;have e9:H9 D9=some (.lst (V.int (j:Int)::vr.map V.int)):=e9;have e89:=s9 _ _ e8;have r8:=h8 ru i7;have UE:∀p∈ru.2,(Sum.inr p:aS)∈kvs.map (·.1):=λy hy=>by
    obtain⟨my,ey⟩:=mW.mp (Q5 ru i7 y hy);by_cases hh:y∈hd aa
    .refine Pz y (vw pw R6 (pe.mem_iff.mpr hh) ?_);show (g y).getD 0 < (g z).getD 0;rw [ey,V_];show my < n;rw [<-hsz];exact Ci nn hy ey
    exact Uz y (Yy y hh (by rw [ey];rfl))
   refine⟨_,rfl,D9,_,_,_,rfl,rfl,aI.of e9,tX,_,rfl,_,rfl,D9,_,_,_,rfl,rfl,aI.of e9,tX,R,_,_,_,rfl,rfl,L9.hR,tM,r,_,_,_,rfl,rfl,v1,rfl,pp,rfl,⟨_,v2⟩,λW9 VP=>sV (zs:=ru.2) rfl v2 ∅ e89 UE VP λys AK ly vR DM=>?_⟩;refine⟨W9,ys,rfl,.inl ⟨aI.of DM,λt2 VW=>⟨kb,λFE MQ=>?_⟩⟩⟩;have Yn:=(af VW (.tup ys)).trans (af MQ (.tup [.int (j:Int),.ref t2]));generalize upd (upd AK t2 (.tup ys)) FE (.tup [.int (j:Int),.ref t2])=Dw at Yn;have OY:=(s9.trans vR).trans Yn;have HI:=OY _ _ e8;refine⟨_,rfl,_,rfl,dt,_,rfl,.inl ⟨kvs,Sum.inr z,HI,rfl,bK ∅,rfl⟩,?_⟩;have FQ:∀y:aS,(y∈kvs.map (·.1)\/y=Sum.inr z)->y∈(bR kvs (Sum.inr z) (.ref FE)).map (·.1):=λy hy=>by
    by_cases hk:(Sum.inr z:aS)∈kvs.map (·.1)
    .rw [zz hk];rcases hy with hy | rfl
     .exact hy
     exact hk
    rw [iY hk];rcases hy with hy | rfl
    .exact jl _ hy
    exact fX _ cU
   have aaf:(bR kvs (Sum.inr z) (.ref FE)).length<=kvs.length+1:=by
    have a:=congrArg List.length (Eq.refl ((bR kvs (Sum.inr z) (.ref FE)).map (·.1)));by_cases hk:(Sum.inr z:aS)∈kvs.map (·.1)
    .have b:=congrArg List.length (zz (v:=.ref FE) hk);rw [au,au] at b;omega
    have b:=congrArg List.length (iY (v:=.ref FE) hk);rw [au,bL,au,fO] at b;omega
   refine⟨_,_,_,rfl,λb u nb hb=>?_,ae,∅,λy hy=>FQ _ (.inl (Uz y hy)),λy hy=>?_⟩
   .rw [aj nb];exact OY _ _ (s8 b u nb hb)
   rw [cR,R6] at hy;rcases cA.mp hy with hy | hy
   .exact FQ _ (.inl (Pz y hy))
   exact FQ _ (.inr (by rw [bU.mp (show y∈[z] from hy)]))
 rintro σ H8 ⟨kvs,y3,y4,rfl,s8,e8,Uu,Uz,Pz⟩;rw [au,cQ] at Pz;have L8:=L7.Kb e7 X0 XT s8;refine⟨_,rfl,q dt kvs H8 ?_ (λb u n1 n3 hb=>?_) L8.t1 L8.t3 e8 λz hz=>Pz z (pe.mem_iff.mpr hz)⟩
 .cases c:H dt with
  | none=>rfl
  | some u =>
   by_cases h1:dt=T1
   .obtain⟨pp,a,_⟩:=L3.t1;rw [<-h1,Kn] at a;cases a
   rw [Ca dt u h1 Ug c] at Kn;cases Kn
 refine s8 _ _ (λz=>?_) (Bk b u n1 n3 hb);rw [z] at hb;rw [Ca dt u (λy=>n1 (z.trans y)) Ug hb] at Kn;cases Kn
end
end gK
namespace L2
open PySem PySem.Spec PyProof.Rows
section
variable {prog:Program}{w:World}{A:Around}{E:Value->Shared->Prop}
def vo {h h':Heap}{ks:List aS}{a:Addr}(p:(tupleKind (bj prog w)).is h ks a)(k:∀b o,o.cls=.type "tuple" -> h.get? b=some o->h'.get? b=some o):(tupleKind (bj prog w)).is h' ks a :=
 let ⟨o,aU,n,h1,h2,h3,h4⟩:=p;⟨o,aU,n,k a o h2 h1,h2,h3,h4⟩
def wt {h h':Heap}{d:Addr}{xs:List (List aS×Addr×Value)}(hd:h.DictOfH (tupleKind (bj prog w)) d xs)(kd:∀o,h.get? d=some o->h'.get? d=some o)(k:∀b o,o.cls=.type "tuple" -> h.get? b=some o->h'.get? b=some o) :
  h'.DictOfH (tupleKind (bj prog w)) d xs :=
 let ⟨o,es,ep,q,c,dd,e,is,n⟩:=hd;⟨o,es,ep,kd o q,c,dd,e,λx hx=>vo (is x hx) k,n⟩
def lF (prog:Program)(w:World)(h:Heap)(u:Value)(kv:List aS×Addr×Value):Prop :=
 ∃t n o,u=.ref t/\(tupleKind (bj prog w)).is h kv.1 kv.2.1/\h.get? t=some o/\o.cls=.type "tuple" /\ o.data=.seq #[.ref kv.2.1,kv.2.2] n
def lF.keep {h h':Heap}{u:Value}{kv:List aS×Addr×Value}(p:lF prog w h u kv)(k:∀b o,o.cls=.type "tuple" -> h.get? b=some o->h'.get? b=some o):lF prog w h' u kv :=
 let ⟨t,n,o,a,b,c,d,e⟩:=p;⟨t,n,o,a,vo b k,k t o d c,d,e⟩
def BA (more xs:List (List aS×Addr×Value)):List (List aS×Addr×Value):=more.foldl (λa p=>storedH a p.1 p.2.1 p.2.2) xs
def Jm {R:Result->Shared->Prop}{d it l:Addr}{items:Array Value}(hh:A.handled=none)(hu:A.units+1 < cLine):∀(more:List (List aS×Addr×Value)) (i:Nat)(s:Shared)(kvs:List (List aS×Addr×Value)) (j:Int)(tk:Tok),items.size=i+more.length ->
  s.heap.DictOfH (tupleKind (bj prog w)) d kvs->s.heap.IsListIter it l i->s.heap.IsList l items->(∀m kv,more[m]?=some kv->∃u,items[i+m]?=some u/\lF prog w s.heap u kv)->kvs.length+more.length<=sizeLine ->
  (∀h' t',h'.DictOfH (tupleKind (bj prog w)) d (BA more kvs)->(∀b o,b≠d->b≠it->s.heap.get? b=some o->h'.get? b=some o)->R (.ok (.ret .none)) { s with heap:=h',toks:=t' }) ->
  codeAny (model prog w) A (.builtin "dict.update.loop" ⟨[.ref d,.ref it,.int j tk,.none],[]⟩) R s:=by
 intro more
 induction more with
 | nil =>
  intro i s kvs j tk hi hd hit hl hp hz hR;refine me lC ?_;rw [qP fC _];unfold Builtin.«dict.update.loop»;have hs:items[i]?=none:=yF (by rw [hi];exact aH _);refine ar (u7 hh hit hl hs λh1 eb=>?_);have nd:d≠it:=λz=>by
   obtain⟨o,_,_,q,_,c,_⟩:=hd;obtain⟨o',q',_,c'⟩:=hit;rw [z,q'] at q;cases q;rw [c'] at c;cases c
  have nt:∀b o,o.cls=.type "tuple" -> s.heap.get? b=some o->b≠it:=λb o c q z=>by
   obtain⟨o',q',c',_⟩:=hit;rw [z,q'] at q;cases q;rw [c'] at c;exact absurd c (by decide)
  show wpAny _ _ (Builtin.Dict.addKeywords d [] >>= _) _ _ _;exact ar (aR (aR (hR h1 s.toks (wt hd (λo q=>eb d o nd q) λb o c q=>eb b o (nt b o c q) q) λb o n1 n2 q=>eb b o n2 q)))
 | cons kv more ih =>
  intro i s kvs j tk hi hd hit hl hp hz hR;refine me lC ?_;rw [qP fC _];unfold Builtin.«dict.update.loop»;obtain⟨u,US,t,n,o,rfl,hk,ho,hc,Bw⟩:=hp 0 kv rfl;refine ar (wpAny_pyNext_list_item hit hl US λh1 UI sb=>?_);have nd:d≠it:=λz=>by
   obtain⟨o,_,_,q,_,c,_⟩:=hd;obtain⟨o',q',_,c'⟩:=hit;rw [z,q'] at q;cases q;rw [c'] at c;cases c
  have n2:∀b o,(o.cls=.type "tuple" \/ o.cls=.type "list")->s.heap.get? b=some o->b≠d/\b≠it:=by
   intro b o c q;constructor
   .intro z;obtain⟨o',q',c'⟩:=hd.typeIs;rw [z,q'] at q;cases q;rw [c'] at c;rcases c with c | c <;> exact absurd c (by decide)
   intro z;obtain⟨o',q',c',_⟩:=hit;rw [z,q'] at q;cases q;rw [c'] at c;rcases c with c | c <;> exact absurd c (by decide)
  have nt:∀b o,o.cls=.type "tuple" -> s.heap.get? b=some o->b≠d/\b≠it:=λb o c q=>n2 b o (.inl c) q;have nl:l≠d/\l≠it:=by
   obtain⟨o,q,c,_⟩:=hl;exact n2 l o (.inr c) q
  have UB:∀b o,o.cls=.type "tuple" -> s.heap.get? b=some o->h1.get? b=some o:=λb o c q=>(sb.2 b (nt b o c q).2).trans q;have Qb:h1.get? t=some o:=UB t o hc ho;have wJ:h1.DictOfH (tupleKind (bj prog w)) d kvs:=wt hd (λo q=>(sb.2 d nd).trans q) UB;refine ar (iG (ar (wpAny_tryCatch ?_)));unfold Builtin.Dict.pairItems;refine ar (jV (T := "tuple") ⟨o,Qb,hc⟩ ?_);rw [ax (by decide)];refine ar (jk Qb Bw (aR ?_));show wpAny _ _ (holding [.ref kv.2.1,kv.2.2] (dictSet d (.ref kv.2.1) kv.2.2)) _ _ _;rw [dM] at hz hi;refine iG (wpAny_dictSet_heap (s:={ s with heap:=h1 }) (oU hu) (vo hk UB) wJ (λh2 hd2 OW=>?_) ∅);have kk:∀b o,b≠d->b≠it->s.heap.get? b=some o->h2.get? b=some o:=λb o n1 n2 q=>(OW.2 b n1).trans ((sb.2 b n2).trans q);have ln:(storedH kvs kv.1 kv.2.1 kv.2.2).length<=kvs.length+1:=by
   unfold storedH
   split
   .simp
   simp
  refine aR ⟨kC fC _,ih (i+1) _ _ _ _ ∅ hd2 (UI.at λo q=>(OW.2 it (cO nd)).trans q) (hl.at λo q=>kk l o nl.1 nl.2 q) (λm UA e=>?_) ∅ λh3 t3 jf k3=>?_⟩
  .obtain⟨u',e1,e2⟩:=hp (m+1) UA e;exact⟨u',by rw [<-e1];congr 1;omega,e2.keep λb o c q=>kk b o (nt b o c q).1 (nt b o c q).2 q⟩
  exact hR h3 t3 jf λb o n1 n2 q=>k3 b o n1 n2 (kk b o n1 n2 q)
def qx {s:Shared}{l:Addr}{items:Array Value}{n:Nat}{more:List (List aS×Addr×Value)}{Q:Value->Shared->Prop}(hh:A.handled=none)(hu:A.units+2 < cLine)(hx:s.heap.get? l=some { cls:=.type "list",data:=.seq items n })
  (hi:items.size=more.length)(hp:∀(m:Nat) kv,more[m]?=some kv->∃u,items[m]?=some u/\lF prog w s.heap u kv)(hz:more.length<=sizeLine)
  (h:∀h' t',h'.DictOfH (tupleKind (bj prog w)) s.heap.objs.size (BA more [])->(∀b o,s.heap.get? b=some o->h'.get? b=some o)->Q (.ref s.heap.objs.size) { s with heap:=h',toks:=t' }) :
  wpAny (model prog w) A (call (.type "dict") [.ref l]) Q E s:=by
 refine callType_codes (Q₁:=λobj s₁=>obj=.ref s.heap.objs.size/\s₁={ s with heap:=s.heap.push { cls:=.type "dict",data:=.dict #[] } }) F.kt_called_dict (F.kt_typeCall_dict_1 _) F.entry_dict_init (kt_code_dict_new _ ⟨rfl,rfl⟩) ?_;rintro obj s₁ ⟨rfl,rfl⟩;have zU:(s.heap.push { cls:=.type "dict",data:=.dict #[] }).DictOfH (tupleKind (bj prog w)) s.heap.objs.size []:=Heap.DictOfH.new s.heap;have l0:=bI { cls:=.type "dict",data:=.dict #[] } hx;refine⟨zU.typeIs,F.args_dict_init_2 _ _,?_⟩;unfold Builtin.«dict.__init__» Builtin.Dict.selfAndRest;refine ar (ar (wpAny_notOrdered_dict zU.typeIs (aR ?_)));show wpAny _ _ (Builtin.Dict.updateFrom "dict.__init__" s.heap.objs.size (.ref l) [] .none) _ _ _;unfold Builtin.Dict.updateFrom;refine ar (jV (T := "list") ⟨_,l0,rfl⟩ ?_);rw [ax yT];refine ar (pF l0 hh λh1 t1 k1=>?_);refine ar (i_ ?_);have l1:=k1 _ _ l0;refine ar (oQ ⟨_,l1,rfl,_,rfl⟩ ?_);have k2:∀b o,s.heap.get? b=some o->(h1.push { cls:=.type "list_iterator",data:=.fields #[.ref l,.int 0 0] }).get? b=some o:=λb o q=>bI _ (k1 _ _ (bI _ q));refine aR ⟨kC fC _,Jm (A:=A.in1) (l:=l) (items:=items) (show A.in1.handled=none from hh) (show A.in1.units+1 < cLine by rw [oO];omega) more 0 _ [] _ _ (by rw [hi,oI]) ?_ ⟨_,cV _ rfl,rfl,rfl⟩ ⟨_,k2 _ _ hx,rfl,n,rfl⟩ (λm kv e=>?_) (by simpa using hz) λh' t' hd k3=>?_⟩
 .exact wt zU (λo q=>bI _ (k1 _ _ q)) λb o _ q=>bI _ (k1 _ _ q)
 .obtain⟨u,e1,e2⟩:=hp m kv e;exact⟨u,by rw [oI];exact e1,e2.keep λb o _ q=>k2 b o q⟩
 refine⟨rfl,h h' t' hd λb o q=>k3 b o (bM (ba q)) ?_ (k2 b o q)⟩;have:=ba (k1 _ _ (bI { cls:=.type "dict",data:=.dict #[] } q));exact bM this
end
def ot (kvs bz:List (List aS×V)):List (List aS×V):=kvs.foldl (λa p=>bR a p.1 p.2) bz
theorem uD {H:Hp}:∀{kvs:List (List aS×V)}{vs:List (List aS×Addr×Value)}{bz:List (List aS×V)}{GY:List (List aS×Addr×Value)},KT H kvs vs->KT H bz GY->KT H (ot kvs bz) (BA vs GY)
 | _,_,_,_,.nil,h=>h
 | _,_,_,_,.cons (a:=p) (b:=q) r t,h=>by
  obtain⟨e,hb,rv⟩:=r;show KT H (ot _ (bR _ p.1 p.2)) (BA _ (storedH _ q.1 q.2.1 q.2.2));rw [<-e];exact uD t (h.put p.1 hb rv)
theorem uE:∀(kvs bz:List (List aS×V)),(ot kvs bz).length<=bz.length+kvs.length
 | [],bz=>by simp [ot]
 | p::r,bz=>by
  have:=uE r (bR bz p.1 p.2);have:=ft bz p.1 p.2;show (ot r (bR bz p.1 p.2)).length<=_;rw [dM];omega
section
variable {X:Cx}{ag:List (Addr×Obj)}{σ:St}{H:Hp}{s:Shared}
abbrev N_ (K:a9)(H:Hp)(t:Addr)(kv:List aS×V):Prop:=∃b,aQ K H t [.ref b,kv.2]/\H b=some (.tup (kv.1.map kV))
theorem um (I:Inv X ag σ H s):∀{ts:List Addr}{kvs:List (List aS×V)}{aU:List Value},Paired (N_ X.K H) ts kvs->a_ (ts.map V.ref) aU ->
  ∃vs:List (List aS×Addr×Value),KT H kvs vs/\Paired (λu kv=>lF X.prog X.w s.heap u kv) aU vs
 | [],_,_,.nil,r=>by
  rw [jF] at r;cases r;exact⟨[],.nil,.nil⟩
 | t::ts,kv::kvs,_,.cons h p,r=>by
  rw [cq] at r;cases r with
  | cons r1 r2 =>
   obtain⟨vs,e1,e2⟩:=um I p r2;obtain⟨b,h0,hb⟩:=h;obtain⟨aU,rv,⟨o,h1,h2,n,h3⟩,_⟩:=I.tuple h0;obtain⟨u1,u2,rfl,q1,q2⟩:=vals2 rv;cases (show u1=Value.ref b from q1);exact⟨(kv.1,b,u2)::vs,.cons ⟨rfl,hb,q2⟩ e1,.cons ⟨t,n,o,r1,mD I.b0 hb,h1,h2,h3⟩ e2⟩
def yd (hc:X.calm=true)(hu:X.A.units+2 < cLine):ik X (.type "dict") (λxs H Q=>∃a ts kvs,xs=[.ref a]/\H a=some (.lst (ts.map V.ref))/\Paired (N_ X.K H) ts kvs/\∀d,H d=none->Q (.ref d) (upd H d (.dT (ot kvs [])))):=by
 intro ag s σ H xs us Q I r h;obtain⟨a,ts,kvs,rfl,e,p,q⟩:=h;obtain⟨u,rfl,rx⟩:=vals1 r;cases (show u=Value.ref a from rx);obtain⟨z,aU,n,rv,ho⟩:=(show cE X.prog X.w H s.heap a (.lst _) from I.b0 a _ e);obtain⟨vs,r1,r2⟩:=um I p rv;have l1:=aY r2;have l2:=aY r1;have l3:=aY p;rw [au] at z;refine qx (I.ok.hd hc) hu ho (by simpa using l1) (λm kv em=>?_) ∅ λh' t' hd kk=>?_
 .obtain⟨u,e1,e2⟩:=Paired.at_ r2 m kv em;exact⟨u,by simpa using e1,e2⟩
 have fr:=I.b0.fresh (aH s.heap.objs.size);have new:cE X.prog X.w (upd H s.heap.objs.size (.dT (ot kvs []))) h' s.heap.objs.size (.dT (ot kvs [])):=by
  obtain⟨o,es,ep,hq,h2,h3,h4,_,h5⟩:=hd;refine⟨?_,?_,_,(uD r1 .nil).keeps λc ys ec=>?_,o,es,ep,hq,h2,h3,h4,h5⟩
  .have:=uE kvs [];simp at this;omega
  .have:=I.big;exact j4.mpr (fc this)
  rw [aj (ay ec fr)];exact ec
 exact⟨.ref s.heap.objs.size,_,I.laid (t':=t') kk (aH _) new,rfl,q _ fr⟩
end
open PySem M11
def Dl {K:a9}{H:Hp}{bg D:Addr}{ts:List Addr}{cK:List Be}{σ:St}{x1 x2 x3 x4:Str}{Qp:Hp->Prop}(hb:aI K H bg (ts.map V.ref))(NQ:Paired (λt (b:Be)=>aQ K H t [.str b.1,.str b.2.1,.int (b.2.2.1:Int),.int (b.2.2.2:Int)]) ts cK)(br:cK.length<=900000)(hD:H D=none)
  (q:∀us H2,aC H H2->H2 D=some (.lst (us.map V.ref))->Paired (λu (b:Be)=>∃v,N_ K H2 u ([Sum.inr b.1,Sum.inr b.2.1],.ref v)) us cK->Qp H2) :
  ∃W:Nat->Nat->List V->St->Hp->Prop,(∃m,W 0 m [] (eQ [x1,x2,x3,x4] [] σ) (upd H D (.lst []))) /\
 ∀i m ys σ' H,W i m ys σ' H->((j9 K bg).stop i H/\Qp H)\/((j9 K bg).go i H/\∃m',m' < m/\∀x H',(j9 K bg).mZ i H x H'->Aj K 4 (jA (dP 0) (jA (dP 1) (jA (dP 2) (jA (dP 3) CW)))) x σ' H' λσ2 H2=>iw σ2 H2 λb H3 =>
  if b=true then tO (gC (tO (gC (gW 0) (gC (gW 1) rB))) (gC (tO (gC (gW 2) (gC (gW 3) rB))) rB)) σ2 H3 λy H4=>H4 D=some (.lst ys)/\ys.length < sizeLine/\W (i+1) m' (ys++[y]) σ2 (upd H4 D (.lst (ys++[y]))) else W (i+1) m' ys σ2 H3):=by
 have ll:=aY NQ;refine cD (xs:=ts.map V.ref) (λi ys σ2 H2=>∃us:List Addr,ys=us.map V.ref/\us.length=i/\Paired (λu (b:Be)=>∃v,N_ K H2 u ([Sum.inr b.1,Sum.inr b.2.1],.ref v)) us (cK.take i)/\(∃y0 y1 y2 y3,σ2=[y0,y1,y2,y3])/\aC H H2/\H2 D=some (.lst ys))
  ⟨[],rfl,rfl,.nil,⟨none,none,none,none,rfl⟩,af hD _,ae⟩ (λi ys σ2 H2 _ h=>?_) (λi x ys σ2 H2 ex h=>?_) (λys σ2 H2 h=>?_)
 .obtain⟨_,_,_,_,_,sm,_⟩:=h;exact sm.seq hb
 .obtain⟨us,rfl,hu,hp,⟨y0,y1,y2,y3,rfl⟩,sm,hd⟩:=h;rw [bh] at ex;obtain⟨r,er,rfl⟩:=cg.mp ex;have lr:=(bq.mp er).1;obtain⟨b,e1⟩:∃b,cK[i]?=some b:=⟨cK[i]'∅,b_ ∅⟩;obtain⟨r',QG,v1⟩:=Paired.at_ NQ i b e1;rw [er] at QG;cases QG;have li:=(bq.mp e1).1;refine⟨r,_,rfl,sm.tup v1,rfl,_,_,rfl,_,_,rfl,_,_,rfl,_,_,rfl,rfl,?_⟩;refine yy ?_;refine⟨_,rfl,_,rfl,kb,λk hk=>⟨_,rfl,_,rfl,kb,λv hv=>⟨kb,λu tS=>?_⟩⟩⟩;have s3:=(af hk (.tup [V.str b.1,V.str b.2.1])).trans ((af hv (.tup [V.int (b.2.2.1:Int),V.int (b.2.2.2:Int)])).trans (af tS (.tup [.ref k,.ref v])));have ek:=((af hv (.tup [V.int (b.2.2.1:Int),V.int (b.2.2.2:Int)])).trans (af tS (.tup [.ref k,.ref v]))) k _ ae;have eu:aQ K (upd (upd (upd H2 k (.tup [V.str b.1,V.str b.2.1])) v (.tup [V.int (b.2.2.1:Int),V.int (b.2.2.2:Int)])) u (.tup [.ref k,.ref v])) u [.ref k,.ref v]:=aQ.of ae;generalize upd (upd (upd H2 k (.tup [V.str b.1,V.str b.2.1])) v (.tup [V.int (b.2.2.1:Int),V.int (b.2.2.2:Int)])) u (.tup [.ref k,.ref v])=H4 at s3 ek eu;have DL:=s3 _ _ hd;refine⟨DL,bK (by rw [au];omega),us++[u],by rw [bF];rfl,by rw [bL,hu];rfl,?_,⟨_,_,_,_,rfl⟩,?_,ae⟩
  .rw [cR,e1];have kD:k≠D:=λz=>by rw [z,DL] at ek;cases ek
   exact gQ (Paired.dI hp λu' b' ⟨v',bb,p1,p2⟩=>⟨v',bb,aT DL (s3.tup p1),by rw [aj (λz=>by rw [z,hd] at p2;cases p2)];exact s3 _ _ p2⟩) ⟨v,k,aT DL eu,by rw [aj kD];exact ek⟩
  intro c o hc;rw [aj (λz=>by rw [z,hD] at hc;cases hc)];exact s3 _ _ (sm c o hc)
 obtain⟨us,rfl,hu,hp,_,sm,hd⟩:=h;rw [au,ll,cQ] at hp;exact q us H2 sm hd hp
theorem EX {K:a9}{H:Hp}:∀{us:List Addr}{cK:List Be},Paired (λu (b:Be)=>∃v,N_ K H u ([Sum.inr b.1,Sum.inr b.2.1],.ref v)) us cK->∃kvs,Paired (N_ K H) us kvs
 | _,_,.nil=>⟨[],.nil⟩
 | _,_,.cons ⟨v,h⟩ t=>let ⟨kvs,p⟩:=EX t;⟨_::kvs,.cons h p⟩
end L2
namespace gK
open PySem L2 M11
def Tab.s2 {T T1 T2:Addr}{p p1 p2:Pos}{q q1 q2:Str}{H H':Hp}(h:Tab T p q H)(s:lZ T1 T2 H H')(t1:Tab T1 p1 q1 H)(t2:Tab T2 p2 q2 H)(n1:T≠T1)(n2:T≠T2):Tab T p q H':=by
 obtain⟨ps,a,b,c⟩:=h;obtain⟨Rz,b1,_⟩:=t1;obtain⟨XJ,b2,_⟩:=t2;refine⟨ps,s _ _ n1 n2 a,b,c.imp id ?_⟩;rintro⟨c',e,g⟩;exact⟨c',e,s _ _ (λz=>by rw [z,b1] at g;cases g) (λz=>by rw [z,b2] at g;cases g) g⟩
def kO {T a C dx:Addr}{pos:Pos}{qu:Str}{H:Hp}{fs:List (Str×V)}{o:HO}(h:Tab T pos qu H)(ha:H a=some (.ins C dx fs)):Tab T pos qu (upd H a o):=by
 obtain⟨ps,p,r,c⟩:=h;refine⟨ps,by rw [aj (λz=>by rw [z,ha] at p;cases p)];exact p,r,c.imp id ?_⟩;rintro⟨c',e,g⟩;exact⟨c',e,by rw [aj (λz=>by rw [z,ha] at g;cases g)];exact g⟩
def Kp (H H':Hp):Prop:=∀b o,H b=some o->(∀ps,o≠.tK ps)->H' b=some o
def Kp.trans {H H1 H2:Hp}(a:Kp H H1)(b:Kp H1 H2):Kp H H2:=λc o h n=>b c o (a c o h n) n
def Kp.of {H H':Hp}(s:aC H H'):Kp H H':=λb o h _=>s b o h
def Kp.of2 {T1 T2:Addr}{p1 p2:Pos}{q1 q2:Str}{H H':Hp}(s:lZ T1 T2 H H')(t1:Tab T1 p1 q1 H)(t2:Tab T2 p2 q2 H):Kp H H':=λc o hc hn=>by
 obtain⟨Rz,b1,_⟩:=t1;obtain⟨XJ,b2,_⟩:=t2;exact s c o (λz=>by rw [z,b1] at hc;cases hc;exact hn _ rfl) (λz=>by rw [z,b2] at hc;cases hc;exact hn _ rfl) hc
section
theorem Kp.lst {H H':Hp}(k:Kp H H'){a:Addr}{xs:List V}(h:H a=some (.lst xs)):H' a=some (.lst xs):=k a _ h (λ_ z=>by cases z)
def Kp.tup {H H':Hp}(k:Kp H H'){a:Addr}{xs:List V}(h:aQ K H a xs):aQ K H' a xs:=by
 rcases h with (h | ⟨u,h⟩) | h
 .exact .inl (.inl (k _ _ h (λ_ z=>by cases z)))
 .exact .inl (.inr ⟨u,k _ _ h (λ_ z=>by cases z)⟩)
 exact .inr h
def Kp.seq {H H':Hp}(k:Kp H H'){a:Addr}{xs:List V}(h:aI K H a xs):aI K H' a xs:=by
 rcases h with (h | ⟨u,h⟩) | h
 .exact .inl (.inl (k _ _ h (λ_ z=>by cases z)))
 .exact .inl (.inr ⟨u,k _ _ h (λ_ z=>by cases z)⟩)
 exact .inr h
theorem Kp.aa {H H':Hp}(k:Kp H H'){rs:List Addr}{aa:List aw}(h:bH K H rs aa):bH K H' rs aa:=h.keep λ_ _ z=>k.tup z
abbrev zi:Stmt:=Pq sLT 0
structure LC (K:a9)(C:Addr):Prop where
 cls:Dx K C
 a1:d0 K C "rules"
 a2:d0 K C "empty"
 a3:d0 K C "least"
 a4:d0 K C "hollow"
 a5:d0 K C "beginnings"
structure DT (C3 T1 T3:Addr)(H0 H:Hp)(a dx:Addr)(fs:List (Str×V)):Prop where
 sm:lZ T1 T3 H0 H
 ia:H a=some (.ins C3 dx fs)
 fa:H0 a=none
 t1:Tab T1 r_.2.2.2 yr H
 t3:Tab T3 posB Hi H
 o1:Tab T1 r_.2.2.2 yr H0
 o3:Tab T3 posB Hi H0
def DT.kp {C3 T1 T3 a dx:Addr}{H0 H:Hp}{fs:List (Str×V)}(h:DT C3 T1 T3 H0 H a dx fs):Kp H0 H:=Kp.of2 h.sm h.o1 h.o3
def DT.set {C3 T1 T3 a dx:Addr}{H0 H:Hp}{fs:List (Str×V)}(h:DT C3 T1 T3 H0 H a dx fs)(Hw:List (Str×V)):DT C3 T1 T3 H0 (upd H a (.ins C3 dx Hw)) a dx Hw :=
 ⟨λb o n1 n3 hb=>by rw [aj (λz=>by rw [z,h.fa] at hb;cases hb)];exact h.sm b o n1 n3 hb,ae,h.fa,kO h.t1 h.ia,kO h.t3 h.ia,h.o1,h.o3⟩
def DT.next {C3 T1 T3 a dx:Addr}{H0 H H':Hp}{fs:List (Str×V)}(h:DT C3 T1 T3 H0 H a dx fs)(s:aC H H'):DT C3 T1 T3 H0 H' a dx fs :=
 ⟨λb o n1 n3 hb=>s _ _ (h.sm b o n1 n3 hb),s _ _ h.ia,h.fa,h.t1.same s,h.t3.same s,h.o1,h.o3⟩
def DT.Ph {C3 T1 T3 a dx:Addr}{H0 H H':Hp}{fs:List (Str×V)}(h:DT C3 T1 T3 H0 H a dx fs)(s:lZ T1 T3 H H')(t1:Tab T1 r_.2.2.2 yr H')(t3:Tab T3 posB Hi H'):DT C3 T1 T3 H0 H' a dx fs :=
 ⟨λb o n1 n3 hb=>s _ _ n1 n3 (h.sm b o n1 n3 hb),Kp.of2 s h.t1 h.t3 _ _ h.ia (λ_ z=>by cases z),h.fa,t1,t3,h.o1,h.o3⟩
def Ba (K:a9)(C C3 T1 T3:Addr):Sp:=λvs H Q _=>∃(H0 Hb:Hp)(a dx R x e d bg:Addr)(rs:List Addr)(aa:List aw)(kE:List (aS×V))(bB:List (Str×Nat))(ps:List (Str×Addr))(cK:List Be),vs=[.ref a,.ref R,.ref x]/\aC H0 H/\H0 a=none/\H a=some (.ins C3 dx [])/\aI K H0 R (rs.map V.ref)/\bH K H0 rs aa /\
 aa.length < 64/\(∀ru∈aa,ru.2.length<=8)/\(∀g,eI M11.bl aa (yz aa) g->i9 M11.bl aa g->∀h∈hd aa,∃n,g h=some n/\n<=60)/\tZ K C Hb H0 x e d bg kE bB ps cK/\wF aa bB/\cK.length<=80000/\Tab T1 r_.2.2.2 yr H0/\Tab T3 posB Hi H0/\T1≠T3 /\
 ∀H',lZ T1 T3 H0 H'->Tab T1 r_.2.2.2 yr H'->Tab T3 posB Hi H'->Q .d6 H'
def Ie:aK ["self","rules","begin_table"] ["self","rules","begin_table"] (av zi):=iq rfl rfl rfl rfl (by decide +kernel)
def Fo {C C3 T1 T3:Addr}(F:g9 K "__init__" "LeastTrees.__init__" zi f fd)(T:Txt mg)(B:BC K C)(L:LC K C3)(GL:aB P w K mg base 4 "least_by_part" ["rules"] (o9 K T1 T3))(GE:aB P w K mg base 4 "empty_by_name" ["rules","empties"] (uh K)) :
  bN P w K mg base fj 5 f fd ["self","rules","begin_table"] (Ba K C C3 T1 T3):=by
 refine F.ok Ie (λvs H Q E h=>?_) (λdU A outer s H vs Q E hr h=>?_)
 .obtain⟨H0,Hb,a,dx,R,x,e,d,bg,rs,aa,kE,bB,ps,cK,rfl,_⟩:=h;rfl
 obtain⟨H0,Hb,a,dx,R,x,e,d,bg,rs,aa,kE,bB,ps,cK,rfl,s0,f0,ea,hR,b9,br,h8,Ga,S,emp,Ma,t1,t3,nT,q⟩:=h;have hu:=pX (rj (by decide:2<=64) _) hr.units;refine⟨_,ai (gG (pv 0) (pv 1) rfl)
  (ai (gG (pv 0) (e_ (pv 2) rfl) rfl)
  (ai (gG (pv 0) (a8 GL hr rfl (ab (pv 1) ah)) rfl)
  (ai (gG (pv 0) (a8 GE hr rfl (ab (pv 1) (ab (e_ (pv 2) rfl) ah))) rfl)
  (ak (gG (pv 0) (bD (yd rfl hu) rfl T.yD eY (ab (bE ["name","word","number","place"] [] rfl (aZ (e_ (pv 2) rfl)) (bp rfl rfl) (by decide +kernel) rfl (by decide +kernel)
   (λ_ _ _ _ _=>fI (n:=4) K rfl (aE (aq (i:=0) (show (["name","word","number","place"]:List Str).Nodup by decide +kernel) rfl (bx rfl)) (aE (aq (i:=1) (show (["name","word","number","place"]:List Str).Nodup by decide +kernel) rfl (bx rfl)) (aE (aq (i:=2) (show (["name","word","number","place"]:List Str).Nodup by decide +kernel) rfl (bx rfl)) (aE (aq (i:=3) (show (["name","word","number","place"]:List Str).Nodup by decide +kernel) rfl (bx rfl)) b8))))) (λ_ _ _ _ _=>bX)
   (λ_ _ _ _ _=>bC (ab (bC (ab (pv 0) (ab (pv 1) ah))) (ab (bC (ab (pv 2) (ab (pv 3) ah))) ah)))) ah)) rfl))))),?_⟩
 nofun
 have S0:DT C3 T1 T3 H0 H a dx []:=⟨λb o _ _ hb=>s0 b o hb,ea,f0,t1.same s0,t3.same s0,t1,t3⟩;obtain⟨e1,te,⟨N6,NT,R9,leb⟩,ee1,evb,_⟩:=S.em;obtain⟨aap,aam,QD,l1,l2,_⟩:=S.ia;rw [R9] at QD;cases QD;obtain⟨tb,ebg,NQ⟩:=S.lb;have lets:=emp.len;refine⟨_,rfl,_,rfl,a,C3,dx,[],rfl,S0.ia,L.cls,L.a1,(by show 0 < 1000;decide),?_⟩;have S1:=S0.set (dW "rules" (.ref R) []);generalize RO:dW "rules" (.ref R) []=RZ at S1;generalize upd H a (.ins C3 dx RZ)=H1 at S1;have x1:H1 x=some (.ins C N6 NT):=S1.kp _ _ R9 (λ_ z=>by cases z);refine⟨_,rfl,x,C,N6,NT,_,rfl,x1,B.cls,B.a2,l1,_,rfl,a,C3,dx,RZ,rfl,S1.ia,L.cls,L.a2,(by rw [<-RO];show 1 < 1000;decide),?_⟩;have S2:=S1.set (dW "empty" (.ref e) RZ);generalize Qf:dW "empty" (.ref e) RZ=tU at S2;generalize upd H1 a (.ins C3 dx tU)=H2 at S2;refine⟨_,rfl,R,rs,aa,rfl,S2.kp.seq hR,S2.kp.aa b9,br,h8,Ga,S2.t1,S2.t3,nT,λdl kl H3 fdl s3 yp t33 edl kdl=>?_⟩;have S3:=S2.Ph s3 yp t33;refine⟨_,rfl,a,C3,dx,tU,rfl,S3.ia,L.cls,L.a3,(by rw [<-Qf,<-RO];show 2 < 1000;decide),?_⟩;have S4:=S3.set (dW "least" (.ref dl) tU);generalize YS:dW "least" (.ref dl) tU=NU at S4;generalize upd H3 a (.ins C3 dx NU)=H4 at S4;have x4:H4 x=some (.ins C N6 NT):=S4.kp _ _ R9 (λ_ z=>by cases z);refine⟨_,rfl,_,rfl,x,C,N6,NT,_,rfl,x4,B.cls,B.a1,leb,R,e1,rs,te,aa,bB,rfl,S4.kp.seq hR,S4.kp.aa b9,∅,h8,aI.of (S4.kp.lst ee1),evb.keep λ_ _ z=>S4.kp.tup z,emp,∅,λdh kh H5 fdh s5 edh kdh=>?_⟩;have S5:=S4.next s5;refine⟨_,rfl,a,C3,dx,NU,rfl,S5.ia,L.cls,L.a4,(by rw [<-YS,<-Qf,<-RO];show 3 < 1000;decide),?_⟩;have S6:=S5.set (dW "hollow" (.ref dh) NU);generalize hf6:dW "hollow" (.ref dh) NU=yA at S6;generalize upd H5 a (.ins C3 dx yA)=H6 at S6;have x6:H6 x=some (.ins C N6 NT):=S6.kp _ _ R9 (λ_ z=>by cases z);have b6:=S6.kp.lst ebg;have v6:Paired (λt (b:Be)=>aQ K H6 t [.str b.1,.str b.2.1,.int (b.2.2.1:Int),.int (b.2.2.2:Int)]) tb cK:=Paired.dI NQ λ_ _ z=>S6.kp.tup z;refine⟨_,rfl,x,C,N6,NT,_,rfl,x6,B.cls,B.a3,l2,bg,rfl,⟨_,aI.of b6⟩,λD7 Qu=>Dl (aI.of b6) v6 ∅ Qu λus H7 s7 e7 p7=>?_⟩;obtain⟨kvs,pk⟩:=EX p7;refine⟨D7,us,kvs,rfl,e7,pk,λdb CS=>?_⟩;have S8:=(S6.next s7).next (af CS (.dT (ot kvs [])));refine⟨_,rfl,a,C3,dx,yA,rfl,S8.ia,L.cls,L.a5,(by rw [<-hf6,<-YS,<-Qf,<-RO];show 4 < 1000;decide),?_⟩;have S9:=S8.set (dW "beginnings" (.ref db) yA);exact q _ S9.sm S9.t1 S9.t3
structure Hc (K:a9)(x qual:Str)(st:Stmt)(f:Addr)(fd:FuncData):Prop where
 ex:∃(oc:Value)(od:Option Addr)(kV doc pm:Value)(an:Option Addr)(dU ct:Value)(xq:Array (Option Value))(T:Addr)(o:Obj) (n:Nat),
  fd=PySem.W.fnOf x qual (dD st) (cw st) (av st) (.ref T) kV doc pm an dU ct/\K.lookup f=some ⟨oc,od,.func fd,xq⟩/\PySem.W.codeIn K dU qual=true/\K.lookup T=some o/\o.data=.seq #[.none] n
 kp:PySem.W.keepIn K (.ref f)=true
def Hc.ok {x qual:Str}{st:Stmt}{f:Addr}{fd:FuncData}{N ps:List Str}{k:Nat}{sp:Sp}(F:Hc K x qual st f fd)(S:aK N ps (av st))(len:∀vs H Q E,sp vs H Q E->vs.length=ps.length)
  (jz:∀(dU:Value)(A:Around)(outer:List Env)(s:Shared)(H:Hp)(vs:List V)(Q:VK)(E:XK),fh k (A.deeper (PyProof.Rows.envOfC qual (av st) s.heap.objs.size f dU))->sp vs H Q E ->
   ∃t,AG (pP fj P w K mg base N qual (av st) f dU A outer s H E).Cy (cw st) t/\t { nx:=λ_ H'=>Q .d6 H',rt:=Q } (start N vs) H):bN P w K mg base fj (k+1) f fd ps sp:=by
 obtain⟨oc,od,kV,doc,pm,an,dU,ct,xq,T,o,n,rfl,lk,wg,_⟩:=F.ex;refine Gn lk wg S len λA outer s H vs Q E hr yu=>?_;obtain⟨t,h,q⟩:=jz dU A outer s H vs Q E hr yu;exact⟨t,h.Cy,q⟩
def Gh {f:Addr}{fd:FuncData}(F:Hc K "__init__" "Grammar.__init__" vL f fd):Binds K fd ["self","rules","strengths"] [.none]:=by
 obtain⟨oc,od,kV,doc,pm,an,dU,ct,xq,T,o,n,rfl,lk,wg,lT,dT⟩:=F.ex;intro s us KI hl;have tT:us.length=2:=by
  have:(us++[Value.none]).length=3:=hl;rw [bL] at this;exact Nat.succ.inj this
 match us,tT with
 | [u1,u2],_=>exact BindsTo.of_defaults rfl (KI T o lT) dT rfl rfl
structure GC (K:a9)(C:Addr):Prop where
 cls:Dx K C
 a1:d0 K C "rules"
 a2:d0 K C "strengths"
 a3:d0 K C "begin_table"
 a4:d0 K C "standings"
 a5:d0 K C "small_trees"
def StrIn (K:a9)(H:Hp)(sv:V)(ss:List Addr)(str:List aw):Prop:=(sv=.d6/\ss=[]/\str=[])\/∃S,sv=.ref S/\aI K H S (ss.map V.ref)/\bH K H ss str
def GrV (H0 H:Hp)(Cg g:Addr)(rs ss:List Addr)(bt:Addr):Prop:=∃gx fs R2 S2,H g=some (.ins Cg gx fs)/\fs.lookup ("rules":Str)=some (.ref R2)/\fs.lookup ("strengths":Str)=some (.ref S2)/\fs.lookup ("begin_table":Str)=some (.ref bt)/\fs.lookup ("start":Str)=none /\
 H R2=some (.lst (rs.map V.ref))/\H S2=some (.lst (ss.map V.ref))/\H0 R2=none/\H0 S2=none
def qj (T1 T2 T3:Addr)(H H':Hp):Prop:=∀b o,b≠T1->b≠T2->b≠T3->H b=some o->H' b=some o
structure BU (T1 T2 T3:Addr)(H:Hp):Prop where
 t1:Tab T1 r_.2.2.2 yr H
 t2:Tab T2 z8.2.2.2 J3 H
 t3:Tab T3 posB Hi H
 J0:T1≠T2
 JZ:T1≠T3
 JY:T2≠T3
theorem BU.same {T1 T2 T3:Addr}{H H':Hp}(h:BU T1 T2 T3 H)(s:aC H H'):BU T1 T2 T3 H':=⟨h.t1.same s,h.t2.same s,h.t3.same s,h.J0,h.JZ,h.JY⟩
def BU.D_ {T1 T2 T3 a C dx:Addr}{H:Hp}{fs:List (Str×V)}{o:HO}(h:BU T1 T2 T3 H)(ha:H a=some (.ins C dx fs)):BU T1 T2 T3 (upd H a o):=⟨kO h.t1 ha,kO h.t2 ha,kO h.t3 ha,h.J0,h.JZ,h.JY⟩
def Kp.of3 {T1 T2 T3:Addr}{H H':Hp}(s:qj T1 T2 T3 H H')(t:BU T1 T2 T3 H):Kp H H':=λc o hc hn=>by
 obtain⟨Rz,b1,_⟩:=t.t1;obtain⟨XJ,b2,_⟩:=t.t2;obtain⟨ps3,b3,_⟩:=t.t3;exact s c o (λz=>by rw [z,b1] at hc;cases hc;exact hn _ rfl) (λz=>by rw [z,b2] at hc;cases hc;exact hn _ rfl) (λz=>by rw [z,b3] at hc;cases hc;exact hn _ rfl) hc
def Bb (K:a9)(Cg C T1 T2 T3:Addr):Sp:=λvs H Q _=>∃(H0:Hp)(g gx R:Addr)(sv:V)(rs ss:List Addr)(aa str:List aw)(rk:Str->Nat)(b:Str->Int),vs=[.ref g,.ref R,sv]/\aC H0 H/\H0 g=none/\H g=some (.ins Cg gx [])/\aI K H0 R (rs.map V.ref)/\bH K H0 rs aa/\aa.length < 64/\(∀ru∈aa,ru.2.length<=8)/\aa≠[] /\
 StrIn K H0 sv ss str/\str.length<=1000/\(∀ru∈str,ru.2.length<=8)/\(str.flatMap (·.2)).Nodup/\Good aa rk b/\BU T1 T2 T3 H0 /\
 ∀(bt:Addr)(H':Hp),qj T1 T2 T3 H0 H'->BU T1 T2 T3 H'->GrV H0 H' Cg g rs ss bt->Q .d6 H'
def tZ.D_ {C:Addr}{H0 H:Hp}{a e d bg:Addr}{kE:List (aS×V)}{bB:List (Str×Nat)}{ps:List (Str×Addr)}{cK:List Be}{g Cg gx:Addr}{fs Hw:List (Str×V)}(h:tZ K C H0 H a e d bg kE bB ps cK)(hg:H0 g=some (.ins Cg gx fs))(na:a≠g) :
  tZ K C (upd H0 g (.ins Cg gx Hw)) (upd H g (.ins Cg gx Hw)) a e d bg kE bB ps cK:=by
 have Ja:=h.sm _ _ hg;have up:∀c o,c≠g->H c=some o->upd H g (.ins Cg gx Hw) c=some o:=λc o n q=>by rw [aj n];exact q
 refine⟨λc o hc=>?_,?_,up _ _ (λz=>by have:=h.he;rw [z,Ja] at this;cases this) h.he,up _ _ (λz=>by have:=h.hd;rw [z,Ja] at this;cases this) h.hd,h.n1,h.n2,λp hp=>?_,?_,?_,?_⟩
 .by_cases z:c=g
  .rw [z,ae] at hc ⊢;exact hc
  rw [aj z] at hc ⊢;exact h.sm _ _ hc
 .obtain⟨dx,fs,q,r⟩:=h.ia;exact⟨dx,fs,up _ _ na q,r⟩
 .obtain⟨⟨kvs,q,r⟩,t1,t2⟩:=h.dk p hp;exact⟨⟨kvs,up _ _ (λz=>by rw [z,Ja] at q;cases q) q,r⟩,by rw [aj (λz=>by rw [z,hg] at t1;cases t1)];exact t1,t2⟩
 .obtain⟨ts,q,r⟩:=h.lb;exact⟨ts,up _ _ (λz=>by rw [z,Ja] at q;cases q) q,Paired.dI r λ_ _ z=>ib Ja z⟩
 .have t1:=h.fb;rw [aj (λz=>by rw [z,hg] at t1;cases t1)];exact t1
 obtain⟨e1,ts,⟨dx,fs,q1,q2⟩,q3,q4,q5⟩:=h.em;exact⟨e1,ts,⟨dx,fs,up _ _ na q1,q2⟩,up _ _ (λz=>by rw [z,Ja] at q3;cases q3) q3,q4.keep λ_ _ z=>ib Ja z,q5⟩
def Ii:aK ["self","rules","strengths"] ["self","rules","strengths"] (av vL):=iq rfl rfl rfl rfl (by decide +kernel)
def Ft {Cg C C3 T1 T2 T3 fB fL:Addr}{Y_ Y7:FuncData}(F:Hc K "__init__" "Grammar.__init__" vL f fd)(T:Txt mg)(G:GC K Cg)(GR:aB P w K mg base 6 "refuse_faults" ["rules","strengths"] (rH K T1 T2))(GS:aB P w K mg base 6 "standings_by_part" ["rules"] (JI K))
  (FB:bN P w K mg base fj 5 fB Y_ ["self","rules"] (Bg K C))(MB:Mk K C fB)(BB:Binds K Y_ ["self","rules"] [])(mB:mg "BeginTable"=some (.ref C))
  (FL:bN P w K mg base fj 5 fL Y7 ["self","rules","begin_table"] (Ba K C C3 T1 T3))(ML:Mk K C3 fL)(BL:Binds K Y7 ["self","rules","begin_table"] [])(mL:mg "LeastTrees"=some (.ref C3)):bN P w K mg base fj 7 f fd ["self","rules","strengths"] (Bb K Cg C T1 T2 T3):=by
 refine F.ok Ii (λvs H Q E h=>?_) (λdU A outer s H vs Q E hr h=>?_)
 .obtain⟨H0,g,gx,R,sv,rs,ss,aa,str,rk,b,rfl,_⟩:=h;rfl
 obtain⟨H0,g,gx,R,sv,rs,ss,aa,str,rk,b,rfl,s0,f0,eg,hR,b9,br,h8,DK,yt,UX,U4,U3,gd,VB,q⟩:=h;refine⟨_,ai (gG (pv 0) (bD iC rfl T.lst iT (ab (pv 1) ah)) rfl)
  (ai (nK (gG (pv 0) (rV (cY (rW (pv 2))) (bc ah) (bD iC rfl T.lst iT (ab (pv 2) ah))) rfl))
  (ai (bW (a8 GR hr rfl (ab (e_ (pv 0) rfl) (ab (e_ (pv 0) rfl) ah))))
  (ai (gG (pv 0) (a8 GS hr rfl (ab (e_ (pv 0) rfl) ah)) rfl)
  (ai (gG (pv 0) (vT MB FB hr rfl mB BB .nil uk (ab (e_ (pv 0) rfl) ah)) rfl)
  (ak (gG (pv 0) (vT ML FL hr rfl mL BL .nil uk (ab (e_ (pv 0) rfl) (ab (e_ (pv 0) rfl) ah))) rfl)))))),?_⟩
 nofun
 refine⟨_,rfl,R,_,rfl,.inl (s0.seq hR),λR2 Hu=>?_⟩;have Wa:=af Hu (.lst (rs.map V.ref)) _ _ eg;have sP:upd H R2 (.lst (rs.map V.ref)) R2=some (.lst (rs.map V.ref)):=ae;have XD:=s0.trans (af Hu (.lst (rs.map V.ref)));generalize upd H R2 (.lst (rs.map V.ref))=H1 at Wa sP XD;refine⟨_,rfl,g,Cg,gx,[],rfl,Wa,G.cls,G.a1,(by show 0 < 1000;decide),?_⟩;generalize n8:dW "rules" (.ref R2) []=tU;have Jg:upd H1 g (.ins Cg gx tU) R2=some (.lst (rs.map V.ref)):=by rw [aj (λz=>by rw [z,Wa] at sP;cases sP)];exact sP
 have EK:aC H0 (upd H1 g (.ins Cg gx tU)):=λc o hc=>by rw [aj (λz=>by rw [z,f0] at hc;cases hc)];exact XD c o hc
 have Sd:upd H1 g (.ins Cg gx tU) g=some (.ins Cg gx tU):=ae;generalize upd H1 g (.ins Cg gx tU)=H2 at Jg EK Sd;refine⟨λσ H3=>σ=[aP g,aP R,some sv]/\∃S2 fs,aC H0 H3/\H3 g=some (.ins Cg gx fs)/\fs=dW "strengths" (.ref S2) tU/\H3 R2=some (.lst (rs.map V.ref))/\H3 S2=some (.lst (ss.map V.ref))/\H0 S2=none,?_,?_⟩
 .have fin:∀S2,H2 S2=none->(λH3=>∃S2 fs,aC H0 H3/\H3 g=some (.ins Cg gx fs)/\fs=dW "strengths" (.ref S2) tU/\H3 R2=some (.lst (rs.map V.ref))/\H3 S2=some (.lst (ss.map V.ref))/\H0 S2=none) (upd (upd H2 S2 (.lst (ss.map V.ref))) g (.ins Cg gx (dW "strengths" (.ref S2) tU)))/\upd H2 S2 (.lst (ss.map V.ref)) g=some (.ins Cg gx tU):=λS2 Gg=>by
   have sl:=af Gg (.lst (ss.map V.ref));have eS:upd H2 S2 (.lst (ss.map V.ref)) S2=some (.lst (ss.map V.ref)):=ae;have QL:=sl _ _ Sd;refine⟨⟨S2,_,λc o hc=>?_,ae,rfl,?_,?_,EK.free Gg⟩,QL⟩
   .rw [aj (λz=>by rw [z,f0] at hc;cases hc)];exact sl _ _ (EK c o hc)
   .rw [aj (λz=>by rw [z,Sd] at Jg;cases Jg)];exact sl _ _ Jg
   rw [aj (λz=>by rw [z,Sd] at Gg;cases Gg)];exact eS
  rcases yt with ⟨rfl,rfl,rfl⟩ | ⟨S,rfl,hS,RI⟩
  .refine⟨_,rfl,_,rfl,?_⟩;refine g6 ?_;refine⟨o6,λS2 Gg=>?_⟩;obtain⟨x1,x2⟩:=fin S2 Gg;exact⟨_,rfl,g,Cg,gx,tU,rfl,x2,G.cls,G.a2,(by rw [<-n8];show 1 < 1000;decide),rfl,x1⟩
  refine⟨_,rfl,_,rfl,?_⟩;refine c_ ?_;refine⟨_,rfl,S,_,rfl,.inl (EK.seq hS),λS2 Gg=>?_⟩;obtain⟨x1,x2⟩:=fin S2 Gg;exact⟨_,rfl,g,Cg,gx,tU,rfl,x2,G.cls,G.a2,(by rw [<-n8];show 1 < 1000;decide),rfl,x1⟩
 rintro σ H3 ⟨rfl,S2,Hv,Ca,QL,qr,Zh,Zf,fS2⟩;have Yb:Hv.lookup ("rules":Str)=some (.ref R2):=by rw [qr,<-n8];rfl
 have Hj:Hv.lookup ("strengths":Str)=some (.ref S2):=by rw [qr,<-n8];rfl
 have U0:bH K H3 ss str:=by
  rcases yt with ⟨_,rfl,rfl⟩ | ⟨S,_,_,RI⟩
  .exact .nil
  exact RI.same Ca
 have yp:=VB.same Ca;refine⟨_,rfl,g,Cg,gx,Hv,_,rfl,QL,G.cls,G.a1,Yb,_,rfl,g,Cg,gx,Hv,_,rfl,QL,G.cls,G.a2,Hj,R2,S2,rs,ss,aa,str,rk,b,rfl,aI.of Zh,b9.same Ca,∅,h8,DK,aI.of Zf,U0,UX,U4,U3,gd,yp.t1,yp.t2,yp.J0,λH4 Ru Xq Xp=>?_⟩;have IY:=Kp.of2 Ru yp.t1 yp.t2;have t4:BU T1 T2 T3 H4:=⟨Xq,Xp,Tab.s2 yp.t3 Ru yp.t1 yp.t2 yp.JZ.symm yp.JY.symm,yp.J0,yp.JZ,yp.JY⟩;have S04:qj T1 T2 T3 H0 H4:=λc o n1 n2 _ hc=>Ru c o n1 n2 (Ca c o hc);have Zn:=IY _ _ QL (λ_ z=>by cases z);have Zg:=IY.lst Zh;have es4:=IY.lst Zf;have P6:bH K H4 rs aa:=IY.aa (b9.same Ca);clear Xq Xp Ru yp;refine⟨_,rfl,g,Cg,gx,Hv,_,rfl,Zn,G.cls,G.a1,Yb,R2,rs,aa,rfl,aI.of Zg,P6,∅,h8,λds H5 fds xf=>?_⟩;have N1:=xf _ _ Zn;have er5:=xf _ _ Zg;have es5:=xf _ _ es4;have U7:=P6.same xf;have t5:=t4.same xf;have S05:qj T1 T2 T3 H0 H5:=λc o n1 n2 n3 hc=>xf _ _ (S04 c o n1 n2 n3 hc);refine⟨_,rfl,g,Cg,gx,Hv,rfl,N1,G.cls,G.a4,(by rw [qr,<-n8];show 2 < 1000;decide),?_⟩;generalize wb:dW "standings" (.ref ds) Hv=yA;have T8:∀{Hx:Hp}{fx fy:List (Str×V)},Hx g=some (.ins Cg gx fx)->qj T1 T2 T3 H0 Hx->qj T1 T2 T3 H0 (upd Hx g (.ins Cg gx fy)):=λ{Hx fx fy} hg hs c o n1 n2 n3 hc=>by
  rw [aj (λz=>by rw [z,f0] at hc;cases hc)];exact hs c o n1 n2 n3 hc
 have NH:∀{Hx:Hp}{fx fy:List (Str×V)}{b:Addr}{xs:List V},Hx g=some (.ins Cg gx fx)->Hx b=some (.lst xs)->upd Hx g (.ins Cg gx fy) b=some (.lst xs):=λ{Hx fx fy b xs} hg hb=>by
  rw [aj (λz=>by rw [z,hg] at hb;cases hb)];exact hb
 have Z9:=T8 (fy:=yA) N1 S05;have V7:=NH (fy:=yA) N1 er5;have Ze:=NH (fy:=yA) N1 es5;have CM:bH K (upd H5 g (.ins Cg gx yA)) rs aa:=U7.keep λ_ _ z=>ib N1 z;have t6:BU T1 T2 T3 (upd H5 g (.ins Cg gx yA)):=t5.D_ N1;have QK:upd H5 g (.ins Cg gx yA) g=some (.ins Cg gx yA):=ae;generalize upd H5 g (.ins Cg gx yA)=H6 at Z9 V7 Ze CM t6 QK;have lk6:yA.lookup ("rules":Str)=some (.ref R2):=by rw [<-wb,qr,<-n8];rfl
 refine⟨_,rfl,g,Cg,gx,yA,_,rfl,QK,G.cls,G.a1,lk6,λx dx hx hdx ndx=>?_⟩;have sx:aC H6 (upd (upd H6 dx (.own x)) x (.ins C dx [])):=(af hdx _).trans (af (by rw [aj ndx.symm];exact hx) _);refine⟨H6,x,dx,R2,rs,aa,rfl,sx,hx,ae,aI.of V7,CM,∅,h8,λe d bg kE bB ps cK H7 S7 m7 emp _ _ beg _=>⟨rfl,?_⟩⟩;have N0:=S7.sm _ _ QK;have er7:=S7.sm _ _ V7;have es7:=S7.sm _ _ Ze;have t7:=t6.same S7.sm;have U6:=CM.same S7.sm;have S07:qj T1 T2 T3 H0 H7:=λc o n1 n2 n3 hc=>S7.sm _ _ (Z9 c o n1 n2 n3 hc);refine⟨_,rfl,g,Cg,gx,yA,rfl,N0,G.cls,G.a3,(by rw [<-wb,qr,<-n8];show 3 < 1000;decide),?_⟩;generalize Af:dW "begin_table" (.ref x) yA=An;have Z8:=T8 (fy:=An) N0 S07;have V6:=NH (fy:=An) N0 er7;have Zd:=NH (fy:=An) N0 es7;have P5:bH K (upd H7 g (.ins Cg gx An)) rs aa:=U6.keep λ_ _ z=>ib N0 z;have t8:BU T1 T2 T3 (upd H7 g (.ins Cg gx An)):=t7.D_ N0;have Sb:upd H7 g (.ins Cg gx An) g=some (.ins Cg gx An):=ae;have B8:tZ K C (upd H6 g (.ins Cg gx An)) (upd H7 g (.ins Cg gx An)) x e d bg kE bB ps cK:=S7.D_ QK (λz=>by rw [z,QK] at hx;cases hx);generalize upd H7 g (.ins Cg gx An)=H8 at Z8 V6 Zd P5 t8 Sb B8;have Uu:An.lookup ("rules":Str)=some (.ref R2):=by rw [<-Af,<-wb,qr,<-n8];rfl
 have lb8:An.lookup ("begin_table":Str)=some (.ref x):=by rw [<-Af,<-wb,qr,<-n8];rfl
 refine⟨_,rfl,g,Cg,gx,An,_,rfl,Sb,G.cls,G.a1,Uu,_,rfl,g,Cg,gx,An,_,rfl,Sb,G.cls,G.a3,lb8,λy dy hy hdy ndy=>?_⟩;have sy:aC H8 (upd (upd H8 dy (.own y)) y (.ins C3 dy [])):=(af hdy _).trans (af (by rw [aj ndy.symm];exact hy) _);have Ma:=beg.len ∅ h8;refine⟨H8,_,y,dy,R2,x,e,d,bg,rs,aa,kE,bB,ps,cK,rfl,sy,hy,ae,aI.of V6,P5,br,h8,gd.least,B8,emp,Ma,t8.t1,t8.t3,t8.JZ,λH9 Tu Ti t39=>⟨rfl,?_⟩⟩;have Mc:=Kp.of2 Tu t8.t1 t8.t3;have QJ:=Mc _ _ Sb (λ_ z=>by cases z);have er9:=Mc.lst V6;have es9:=Mc.lst Zd;have t9:BU T1 T2 T3 H9:=⟨Ti,Tab.s2 t8.t2 Tu t8.t1 t8.t3 t8.J0.symm t8.JY,t39,t8.J0,t8.JZ,t8.JY⟩;have S09:qj T1 T2 T3 H0 H9:=λc o n1 n2 n3 hc=>Tu _ _ n1 n3 (Z8 c o n1 n2 n3 hc);refine⟨_,rfl,g,Cg,gx,An,rfl,QJ,G.cls,G.a5,(by rw [<-Af,<-wb,qr,<-n8];show 4 < 1000;decide),?_⟩;refine q x _ (T8 QJ S09) (t9.D_ QJ) ⟨gx,_,R2,S2,ae,?_,?_,?_,?_,NH QJ er9,NH QJ es9,s0.free Hu,fS2⟩
 .rw [<-Af,<-wb,qr,<-n8];rfl
 .rw [<-Af,<-wb,qr,<-n8];rfl
 .rw [<-Af,<-wb,qr,<-n8];rfl
 rw [<-Af,<-wb,qr,<-n8];rfl
end
def DJ:List Str->Str->Nat
 | [],_=>0
 | a::r,x=>if a=x then 0 else DJ r x+1
theorem si:∀(l:List Str)(x:Str),x∈l->l[DJ l x]?=some x
 | [],x,h=>by cases h
 | a::r,x,h=>by
  unfold DJ;by_cases c:a=x
  .rw [ax c];exact congrArg some c
  rw [az c];rcases cz.mp h with e | e
  .exact absurd e.symm c
  rw [List.getElem?_cons_succ];exact si r x e
theorem nY:∀(l:List Str)(x:Str) (i:Nat),x∈l.take i->DJ l x < i
 | [],x,i,h=>by simp at h
 | a::r,x,0,h=>by simp at h
 | a::r,x,i+1,h=>by
  unfold DJ;by_cases c:a=x
  .rw [ax c];omega
  rw [az c];rw [List.take_succ_cons] at h;rcases cz.mp h with e | e
  .exact absurd e.symm c
  have:=nY r x i e;omega
def qz {l:List Str}{x:Str}{i:Nat}(h:x∈l.take i):∃j,j < i/\l[j]?=some x:=by
 obtain⟨j,hj⟩:=iu h;have lj:=(bq.mp hj).1;rw [dN] at lj;rw [rA ∅] at hj;exact⟨j,∅,hj⟩
def uA {aa:List aw}{ru:aw}(h:ru∈aa):ru.1∈hd aa:=(hJ _ _ _).mpr (.inr (jZ h))
def Kj {aa:List aw}{x:Str}(h:x∈hd aa):∃ru∈aa,ru.1=x:=by
 rcases (hJ _ _ _).mp h with h | h
 .cases h
 obtain⟨ru,a,b⟩:=cP.mp h;exact⟨ru,a,b⟩
def Kt {aa:List aw}{x:Str}(h:Em aa x):x∈hd aa:=by
 cases h with
 | mk h _=>exact uA h
def MX {aa:List aw}{bB:List (Str×Nat)}(h:wF aa bB):∀y∈bB.map (·.1),Em aa y:=by
 induction h with
 | nil=>intro y hy;cases hy
 | @snoc bB k ru _ e _ p ih =>
  intro y hy;rw [bF] at hy;rcases cA.mp hy with h | h
  .exact ih y h
  rw [bU.mp h];exact .mk (cf e) λq hq=>ih q (p q hq)
def FJ {b:Str->Bool}{zs:List Str}{i j:Nat}{x:Str}(h:IV b zs j=true)(e:zs[i]?=some x)(n:i≠j):b x=true:=by
 cases hb:b x with
 | true=>rfl
 | false =>
  have li:=(bq.mp e).1;have m:((i:Nat):Int)∈C4 b zs zs.length:=by
   unfold C4;exact cP.mpr ⟨i,lL.mpr ⟨kJ.mpr li,by rw [e];show (!(b x))=true;rw [hb];rfl⟩,rfl⟩
  unfold IV at h;rcases Bool.or_eq_true_iff.mp h with h | h
  .rw [<-dq h] at m;cases m
  rw [<-dq h] at m;have:=bU.mp m;omega
theorem AW {f:Str->Int}{c:Int}:∀(ps:List Str),(∀x∈ps,f x<=c)->(ps.map f).sum<=ps.length * c
 | [],_=>by simp
 | p::r,h=>by
  have h1:=AW r λx hx=>h x (dr _ hx);have h2:=h p cU;rw [cq,jW,dM];have:((r.length+1:Nat):Int) * c=(r.length:Int) * c+c:=by rw [Int.natCast_add,Int.add_mul];omega
  omega
structure yh (aa:List aw) (ns E M Pl:List Str):Prop where
 n3:ns.length<=3
 wI:∀ru∈aa,ru.1∈ns
 p3:∀ru∈aa,ru.2.length<=3
 eN:E.Nodup
 eNs:∀x∈E,x∈ns
 eO:∀(i:Nat)(h:Str),E[i]?=some h->∃bG,(h,bG)∈aa/\∀p∈bG,p∈E.take i\/p∉hd aa
 eA:∀h∈hd aa,h∈E
 mO:∀(i:Nat)(h:Str),M[i]?=some h->(∃lR,aa[0]?=some lR/\h=lR.1)\/∃ru∈aa,ru.1∈M.take i/\h∈ru.2
 mA:∀h∈hd aa,h∈M
 lN:Pl.Nodup
 Ye:∀x∈Pl,x∈ns
 lO:∀(i:Nat)(h:Str),Pl[i]?=some h->∀ru∈aa,ru.1=h->∀(j:Nat)(z:Str),ru.2[j]?=some z->z∈hd aa->(∀(k:Nat)(y:Str),k≠j->ru.2[k]?=some y->Em aa y)->z∈Pl.take i
 lA:∀h∈hd aa,h∈Pl
def b3:Nat->Int
 | 0=>1
 | 1=>4
 | _=>13
def c3:Nat->Int
 | 0=>0
 | 1=>1
 | _=>4
def KQ {i j:Nat}(hi:i < 3)(h:j < i):b3 j<=c3 i:=by
 have:∀i:Nat,i < 3->∀j:Nat,j < i->b3 j<=c3 i:=by decide
 exact this i hi j h
def Q0 {i:Nat}:1+3 * c3 i=b3 i:=by
 match i with
 | 0=>rfl
 | 1=>rfl
 | _+2=>rfl
def KN {i:Nat}:0<=c3 i:=by
 match i with
 | 0=>decide
 | 1=>decide
 | _+2=>exact(by decide:(0:Int)<=4)
def GV {i:Nat}:0<=b3 i/\b3 i<=60:=by
 match i with
 | 0=>decide
 | 1=>decide
 | _+2=>exact(by decide:(0:Int)<=13/\(13:Int)<=60)
def JM {f:Str->Int}{i:Nat}{ps:List Str}(h3:ps.length<=3)(h:∀x∈ps,f x<=c3 i):1+(ps.map f).sum<=b3 i:=by
 have h1:=AW ps h;have h2:(ps.length:Int) * c3 i<=3 * c3 i:=Int.mul_le_mul_of_nonneg_right ∅ KN;have:=@Q0 i;omega
def bP (Pl:List Str)(x:Str):Int:=if x∈Pl then b3 (DJ Pl x) else 0
def yh.good {aa:List aw}{ns E M Pl:List Str}(O:yh aa ns E M Pl):Good aa (DJ Pl) (bP Pl) where
 least g st se:=by
  have le3:E.length<=3:=fV (gq E ns O.eN O.eNs) O.n3;have a7:∀x,x∉hd aa->∀ru∈aa,x∈ru.2->g x=some 0:=by
   intro x nn ru i7 hm;refine eI.keep (J:=λg=>g x=some 0) (λg NB j h2 _=>?_) st ?_
   .show eJ g NB.1 _ x=some 0;unfold eJ;have:x≠NB.1:=λz=>nn (z ▸ uA h2);rw [az this];exact j
   show yz aa x=some 0;unfold yz;rw [ax (vk _ _ _ _ (.inr ⟨qZ.mpr ⟨ru,i7,hm⟩,nn⟩))]
  have key:∀(n i:Nat),i < n->∀h:Str,E[i]?=some h->∃m,g h=some m/\m<=b3 i:=by
   intro n
   induction n with
   | zero=>intro i hi;omega
   | succ n ih =>
    intro i hi h e;have li:=(bq.mp e).1;obtain⟨ps,hm,hp⟩:=O.eO i h e;have hv:∀p∈ps,∃m,g p=some m/\m<=c3 i:=λp F4=>by
     rcases hp p F4 with h1 | h1
     .obtain⟨j,lj,ej⟩:=qz h1;obtain⟨m,e1,e2⟩:=ih j ∅ p ej;exact⟨m,e1,Int.le_trans e2 (KQ ∅ lj)⟩
     exact⟨0,a7 p h1 _ hm F4,KN⟩
    have hs:=se _ hm;unfold cN at hs;have a1:k0 g (h,ps)=true:=gB.mpr λp hp=>by obtain⟨m,e1,_⟩:=hv p hp;show (g p).isSome=true;rw [e1];rfl
    have s0:aW g (h,ps)<=b3 i:=by
     unfold aW;exact JM (O.p3 _ hm) λp hp=>by obtain⟨m,e1,e2⟩:=hv p hp;show (g p).getD 0<=_;rw [e1];exact e2
    rw [a1,jb] at hs;cases gn:g h with
    | none=>rw [show g (h,ps).1=none from gn] at hs;cases hs
    | some m =>
     rw [show g (h,ps).1=some m from gn] at hs;refine⟨m,rfl,?_⟩;have:¬aW g (h,ps) < m:=by simpa [M11.bl] using hs
     omega
  intro h hh;obtain⟨i,hi⟩:=iu (O.eA h hh);obtain⟨m,e1,e2⟩:=key (i+1) i ∅ h hi;exact⟨m,e1,Int.le_trans e2 GV.2⟩
 met lR ms e0 h0 mc:=by
  have key:∀(n i:Nat),i < n->∀h:Str,M[i]?=some h->h∈ms:=by
   intro n
   induction n with
   | zero=>intro i hi;omega
   | succ n ih =>
    intro i hi h e;rcases O.mO i h e with ⟨r0,e1,e2⟩ | ⟨ru,i7,h1,h2⟩
    .rw [e0] at e1;cases e1;rw [e2];exact h0
    obtain⟨j,lj,ej⟩:=qz h1;exact mc ru (by rw [cQ];exact i7) (ih j ∅ _ ej) h h2
  intro h hh;obtain⟨i,hi⟩:=iu (O.mA h hh);exact key (i+1) i ∅ h hi
 loop:=by
  rintro bB emp C8 n k j ⟨lR,z0,e1,e2,e3,e4,e5⟩ ru z er ez;rw [er] at e1;obtain rfl:ru=lR:=gR e1;rw [ez] at e3;obtain rfl:z=z0:=gR e3;have i7:=cf er;have hn:n∈Pl:=O.lA n (e2 ▸ uA i7);refine nY Pl z _ (O.lO _ n (si Pl n hn) ru i7 e2 j z ez e4 λk' y nk ey=>?_);have:=FJ e5 ey nk;exact MX emp y (dq this)
 Sn:=by
  refine⟨λz=>?_,λru i7 NP=>?_⟩
  .unfold bP
   split
   .exact GV.1
   decide
  have hn:ru.1∈Pl:=O.lA _ (uA i7);have li:=(bq.mp (si Pl ru.1 hn)).1;have le3:Pl.length<=3:=fV (gq Pl ns O.lN O.Ye) O.n3;have e:bP Pl ru.1=b3 (DJ Pl ru.1):=ax hn;rw [e];refine JM (O.p3 ru i7) λp hp=>?_;obtain⟨j,ej⟩:=iu hp;have ht:=O.lO _ ru.1 (si Pl ru.1 hn) ru i7 rfl j p ej (Kt (NP p hp)) λk' y _ ey=>NP y (cf ey);have e2:bP Pl p=b3 (DJ Pl p):=ax (pZ ht);rw [e2];exact KQ ∅ (nY Pl p _ ht)
 most h hh:=by
  unfold bP
  split
  .exact GV.2
  decide
end gK
namespace M11
open PySem
def eG (a7:Bool) (bf e:List Str)(ru:aw):List Str:=if ((ru.2.all λp=>decide (p∈e) || (a7 && !decide (p∈bf))) && !decide (ru.1∈e))=true then e++[ru.1] else e
def gT (a7:Bool) (bf e:List Str)(aa:List aw):List Str:=aa.foldl (eG a7 bf) e
def passes {α:Type}(f:α->α):Nat->α->α
 | 0,a=>a
 | n+1,a=>f (passes f n a)
def dJ (a7:Bool)(aa:List aw):List Str:=passes (λe=>gT a7 (aa.map (·.1)) e aa) aa.length []
structure EO (a7:Bool) (bf:List Str)(aa:List aw) (e:List Str):Prop where
 nd:e.Nodup
 ord:∀(i:Nat)(h:Str),e[i]?=some h->∃bG,(h,bG)∈aa/\∀p∈bG,p∈e.take i\/(a7=true/\p∉bf)
def EO.step {a7:Bool}{bf:List Str}{aa:List aw}{e:List Str}(h:EO a7 bf aa e){ru:aw}(hr:ru∈aa):EO a7 bf aa (eG a7 bf e ru):=by
 unfold eG
 split
 .rename_i c
  obtain⟨c1,c2⟩:=hX.mp c;have N8:ru.1∉e:=by simpa using c2
  refine⟨ku.mpr ⟨h.nd,by simp,λa ha b hb z=>N8 (by rw [<-bU.mp hb,<-z];exact ha)⟩,λi x hx=>?_⟩;by_cases l:i < e.length
  .rw [mX l] at hx;obtain⟨bG,a,b⟩:=h.ord i x hx;refine⟨bG,a,λp hp=>?_⟩;rw [p_ ∅];exact b p hp
  have li:=(bq.mp hx).1;rw [bL,fO] at li;have:i=e.length:=by omega
  subst this;rw [lQ (aH _),oH] at hx;cases hx;refine⟨ru.2,hr,λp hp=>?_⟩;rw [p_ (aH _),cQ];have:=gB.mp c1 p hp;simp only [Bool.or_eq_true,decide_eq_true_eq,pV,Bool.not_eq_true',decide_eq_false_iff_not] at this;exact this
 exact h
theorem EO.pass {a7:Bool}{bf:List Str}{aa:List aw}:∀(rs:List aw){e:List Str},(∀ru∈rs,ru∈aa)->EO a7 bf aa e->EO a7 bf aa (rs.foldl (eG a7 bf) e)
 | [],_,_,h=>h
 | ru::rs,_,hs,h=>EO.pass rs (λr hr=>hs r (dr _ hr)) (h.step (hs ru cU))
def Gu (a7:Bool)(aa:List aw):EO a7 (aa.map (·.1)) aa (dJ a7 aa):=by
 have:∀n,EO a7 (aa.map (·.1)) aa (passes (λe=>gT a7 (aa.map (·.1)) e aa) n []):=by
  intro n
  induction n with
  | zero=>exact⟨lK,λi h e=>by cases e⟩
  | succ n ih=>exact EO.pass aa (λ_ h=>h) ih
 exact this _
def ug (a7:Bool) (bf e:List Str)(ru:aw):eG a7 bf e ru=e\/e.length < (eG a7 bf e ru).length:=by
 unfold eG
 split
 .right;simp
 left;rfl
theorem xN (a7:Bool) (bf:List Str):∀(rs:List aw) (e:List Str),e.length<=(rs.foldl (eG a7 bf) e).length
 | [],_=>aH _
 | ru::rs,e=>by
  have h1:=xN a7 bf rs (eG a7 bf e ru);have h2:=ug a7 bf e ru;show _<=(rs.foldl (eG a7 bf) (eG a7 bf e ru)).length;rcases h2 with h | h
  .rw [h] at h1 ⊢;exact h1
  omega
theorem sL (a7:Bool) (bf:List Str):∀(rs:List aw) (e:List Str),(rs.foldl (eG a7 bf) e=e/\∀ru∈rs,eG a7 bf e ru=e)\/e.length < (rs.foldl (eG a7 bf) e).length
 | [],_=>.inl ⟨rfl,λ_ h=>by cases h⟩
 | ru::rs,e=>by
  show (rs.foldl (eG a7 bf) (eG a7 bf e ru)=e/\_)\/_ < (rs.foldl (eG a7 bf) (eG a7 bf e ru)).length;rcases ug a7 bf e ru with h | h
  .rw [h];rcases sL a7 bf rs e with ⟨a,b⟩ | c
   .refine .inl ⟨a,λr hr=>?_⟩;rcases cz.mp hr with rfl | hr
    .exact h
    exact b r hr
   exact .inr c
  right;have:=xN a7 bf rs (eG a7 bf e ru);omega
theorem mq:∀(l m:List Str),l.Nodup->(∀z∈l,z∈m)->l.length<=m.length
 | [],m,_,_=>gA _
 | x::r,m,hn,hs=>by
  have hx:=hs x cU;have F7:=mR.mp hn;have:=mq r (m.erase x) F7.2 λz hz=>(List.mem_erase_of_ne (λe=>F7.1 (by rw [<-e];exact hz))).mpr (hs z (dr _ hz));rw [List.length_erase_of_mem hx] at this;have:0 < m.length:=List.length_pos_of_mem hx;rw [dM];omega
def EO.sub {a7:Bool}{bf:List Str}{aa:List aw}{e:List Str}(h:EO a7 bf aa e):∀x∈e,x∈aa.map (·.1):=λx hx=>by
 obtain⟨i,hi⟩:=iu hx;obtain⟨bG,a,_⟩:=h.ord i x hi;exact cP.mpr ⟨_,a,rfl⟩
def C7 (a7:Bool)(aa:List aw):∀ru∈aa,eG a7 (aa.map (·.1)) (dJ a7 aa) ru=dJ a7 aa:=by
 have eo:∀n,EO a7 (aa.map (·.1)) aa (passes (λe=>gT a7 (aa.map (·.1)) e aa) n []):=by
  intro n
  induction n with
  | zero=>exact⟨lK,λi h e=>by cases e⟩
  | succ n ih=>exact EO.pass aa (λ_ h=>h) ih
 have key:∀n,(passes (λe=>gT a7 (aa.map (·.1)) e aa) (n+1) []=passes (λe=>gT a7 (aa.map (·.1)) e aa) n []/\∀ru∈aa,eG a7 (aa.map (·.1)) (passes (λe=>gT a7 (aa.map (·.1)) e aa) n []) ru=passes (λe=>gT a7 (aa.map (·.1)) e aa) n [])\/n < (passes (λe=>gT a7 (aa.map (·.1)) e aa) (n+1) []).length:=by
  intro n
  induction n with
  | zero =>
   rcases sL a7 (aa.map (·.1)) aa [] with h | h
   .exact .inl h
   exact .inr h
  | succ n ih =>
   rcases ih with ⟨a,b⟩ | c
   .left;rw [show passes (λe=>gT a7 (aa.map (·.1)) e aa) (n+1+1) []=gT a7 (aa.map (·.1)) (passes (λe=>gT a7 (aa.map (·.1)) e aa) (n+1) []) aa from rfl,a];exact⟨a,b⟩
   rcases sL a7 (aa.map (·.1)) aa (passes (λe=>gT a7 (aa.map (·.1)) e aa) (n+1) []) with h | h
   .exact .inl h
   right;have h2:(passes (λe=>gT a7 (aa.map (·.1)) e aa) (n+1) []).length < (passes (λe=>gT a7 (aa.map (·.1)) e aa) (n+1+1) []).length:=h;omega
 rcases key aa.length with ⟨_,b⟩ | c
 .exact b
 have e1:=eo (aa.length+1);have:=mq _ _ e1.nd e1.sub;rw [au] at this;omega
def ou {a7:Bool}{aa:List aw}{ru:aw}(hr:ru∈aa)(h:∀p∈ru.2,p∈dJ a7 aa\/(a7=true/\p∉aa.map (·.1))):ru.1∈dJ a7 aa:=by
 have:=C7 a7 aa ru hr;unfold eG at this;by_cases c:ru.1∈dJ a7 aa
 .exact c
 rw [ax] at this
 .have:=congrArg List.length this;rw [bL] at this;simp at this
 refine hX.mpr ⟨gB.mpr λp hp=>?_,by simpa using c⟩;simp only [Bool.or_eq_true,decide_eq_true_eq,pV,Bool.not_eq_true',decide_eq_false_iff_not];exact h p hp
def Gv {aa:List aw}{x:Str}(h:Em aa x):x∈dJ false aa:=by
 induction h with
 | mk hr _ ih=>exact ou hr λp hp=>.inl (ih p hp)
end M11
namespace gK
open PySem L2 M11
abbrev EI:Stmt:=top 51
abbrev zh:Stmt:=top 52
abbrev vF:Stmt:=top 53
abbrev vP:Stmt:=top 54
abbrev EA:Stmt:=top 55
abbrev EC:Stmt:=top 56
abbrev zk:Stmt:=top 57
abbrev EG:Stmt:=top 58
abbrev EF:Stmt:=top 59
def So {zs:List Str}{m:Int}(h:(zs.length:Int)=m)(hm:0 < m) (n:Int):∃z∈zs,jR (zs.map V.str) (n % m)=some (.str z):=by
 subst h;have h1:=Int.emod_lt_of_pos n hm;have h2:=Int.emod_nonneg n (show (zs.length:Int)≠0 ∅);have l:(n % (zs.length:Int)).toNat < zs.length:=by omega
 have e:n % (zs.length:Int)=(((n % (zs.length:Int)).toNat:Nat):Int):=by omega
 refine⟨zs[(n % (zs.length:Int)).toNat],oS l,?_⟩;have t:jR (zs.map V.str) (((n % (zs.length:Int)).toNat:Nat):Int)=some (.str zs[(n % (zs.length:Int)).toNat]):=bS (by rw [bh,b_ l];rfl);rw [<-e] at t;exact t
def xp {α:Type}(i:Nat)(x y z:α):α:=match i with | 0=>x | 1=>y | _=>z
def Pr {H:Hp}{L1 L2 L3 LL:Addr}{xs ys zs:List V}(h1:H L1=none)(h2:upd H L1 (.lst xs) L2=none)(h3:upd (upd H L1 (.lst xs)) L2 (.lst ys) L3=none)
  (h4:upd (upd (upd H L1 (.lst xs)) L2 (.lst ys)) L3 (.lst zs) LL=none):aC H (upd (upd (upd (upd H L1 (.lst xs)) L2 (.lst ys)) L3 (.lst zs)) LL (.lst [.ref L1,.ref L2,.ref L3]))/\∀i:Nat,i < 3->∃Li,jR [V.ref L1,V.ref L2,V.ref L3] (i:Int)=some (.ref Li)/\H Li=none /\
   upd (upd (upd (upd H L1 (.lst xs)) L2 (.lst ys)) L3 (.lst zs)) LL (.lst [.ref L1,.ref L2,.ref L3]) Li=some (.lst (xp i xs ys zs)):=by
 have s1:=af h1 (.lst xs);have s2:=af h2 (.lst ys);have s3:=af h3 (.lst zs);have s4:=af h4 (.lst [.ref L1,.ref L2,.ref L3]);refine⟨s1.trans (s2.trans (s3.trans s4)),λi hi=>?_⟩
 match i,hi with
 | 0,_=>exact⟨L1,rfl,h1,s4 _ _ (s3 _ _ (s2 _ _ ae))⟩
 | 1,_=>exact⟨L2,rfl,s1.free h2,s4 _ _ (s3 _ _ ae)⟩
 | 2,_=>exact⟨L3,rfl,s1.free (s2.free h3),s4 _ _ ae⟩
def Bt (i:Nat):List Str:=xp i ["s","t","u"] ["b","aa","k"] ["a","ab","n"]
def Rk (i:Nat):List Str:=xp i ["a","b","c"] ["ab","a","c"] ["b","+","ba"]
def NC (i j:Nat):List Str:=(Bt i).map λz=>z++ES "y" j
def IS (i:Nat):xp i [V.str "s",V.str "t",V.str "u"] [V.str "b",V.str "aa",V.str "k"] [V.str "a",V.str "ab",V.str "n"]=(Bt i).map V.str:=by
 match i with
 | 0=>rfl
 | 1=>rfl
 | _+2=>rfl
def HW (i:Nat):xp i [V.str "a",V.str "b",V.str "c"] [V.str "ab",V.str "a",V.str "c"] [V.str "b",V.str "+",V.str "ba"]=(Rk i).map V.str:=by
 match i with
 | 0=>rfl
 | 1=>rfl
 | _+2=>rfl
def FC (i:Nat):(Bt i).length=3:=by
 match i with
 | 0=>rfl
 | 1=>rfl
 | _+2=>rfl
def K2 (i:Nat):(Rk i).length=3:=by
 match i with
 | 0=>rfl
 | 1=>rfl
 | _+2=>rfl
def FA (i:Nat):∀z∈Bt i,z.length<=2:=by
 match i with
 | 0=>decide +kernel
 | 1=>decide +kernel
 | n+2=>exact(by decide +kernel:∀z∈Bt 2,z.length<=2)
def Cd {j:Nat}(h:j < 3):(ES "y" j).length<=2:=by
 match j,h with
 | 0,_=>decide +kernel
 | 1,_=>decide +kernel
 | 2,_=>decide +kernel
section
def cellAt (ns:List Int) (k:Nat):Int:=(ns[k]?).getD 0
def rL (K:a9):Sp:=λvs H Q _=>∃(a:Addr)(ns:List Int) (k:Nat),vs=[.ref a,.int (k:Int)]/\aI K H a (ns.map V.int)/\ns.length<=1000/\∀n:Int,n=cellAt ns k->Q (.int n) H
def Lh:aK ["_law_script","_law_k"] ["_law_script","_law_k"] (av EI):=iq rfl rfl rfl rfl (by decide +kernel)
def IM (F:g9 K "_law_cell_at" "_law_cell_at" EI f fd)(T:Txt mg):bN P w K mg base fj 1 f fd ["_law_script","_law_k"] (rL K):=by
 refine F.ok Lh (λvs H Q E h=>?_) (λdU A outer s H vs Q E hr h=>?_)
 .obtain⟨a,ns,k,rfl,_⟩:=h;rfl
 obtain⟨a,ns,k,rfl,hS,hn,q⟩:=h;refine⟨_,ai (bw (aV nU (pv 1) (aD aG rfl T.len cS (ab (pv 0) ah)) (bu _)) (ak (aL (aF bo (pv 0) (pv 1) (λ_ _=>rfl)))) aM) (ak (aL ao)),?_⟩
 nofun
 refine⟨_,rfl,_,rfl,a,_,rfl,.inl hS,_,_,rfl,rfl,_,rfl,?_⟩;refine bY (λcc=>?_) (λcc=>q 0 ?_)
 rotate_left
 .have ge:¬((k:Int) < ((ns.map V.int).length:Int)):=λz=>cc (bV z);rw [au] at ge;unfold cellAt;rw [u_ ∅];rfl
 have lt:=dq cc;rw [au] at lt;have lt':k < ns.length:=by omega
 refine⟨_,rfl,_,rfl,a,_,_,.int ns[k],rfl,rfl,hS,bS (by rw [bh,b_ lt'];rfl),q _ (by unfold cellAt;rw [b_ lt'];rfl)⟩
def rJ:Sp:=λvs H Q _=>∃(c:Int) (m:Nat)(S:Addr) (zs:List Str),vs=[.int c,.int (m:Int),.ref S]/\m<=100/\H S=some (.lst (zs.map V.str))/\0 < zs.length/\zs.length<=1000/\∀(p:Addr) (ps:List Str)(H':Hp),aC H H'->H' p=some (.tup (ps.map V.str))->ps.length=m->(∀x∈ps,x∈zs)->Q (.ref p) H'
def jr:aK ["_law_cell","_law_many","_law_some","_law_parts","_law_seed","_law_k"] ["_law_cell","_law_many","_law_some"] (av vP):=iq rfl rfl rfl rfl (by decide +kernel)
def Cu (F:g9 K "_law_digits" "_law_digits" vP f fd)(T:Txt mg):bN P w K mg base fj 1 f fd ["_law_cell","_law_many","_law_some"] rJ:=by
 refine F.ok jr (λvs H Q E h=>?_) (λdU A outer s H vs Q E hr h=>?_)
 .obtain⟨c,m,S,zs,rfl,_⟩:=h;rfl
 obtain⟨c,m,S,zs,rfl,hm,hS,Yv,hz1,q⟩:=h;refine⟨_,ai (aA (i:=3) jr.nd rfl (bx rfl) (bc ah))
  (ai (aA (i:=4) jr.nd rfl (bx rfl) (aX gp (aX cZ (pv 0) ao) ao))
  (ai (bO bZ rfl (gY rfl T.DE (ab (pv 1) ah)) (aq (i:=5) jr.nd rfl (bx rfl))
   (ak (bw (aV rY (pv 0) ao (bu _))
    (ai (bW (fq eF fY fZ bJ (pv 3) (ab (aF bo (pv 2) (aX cZ (aX zK (pv 0) ao) (aD aG rfl T.len cS (ab (pv 2) ah))) (λ_ _=>rfl)) ah)))
    (ak (aA (i:=0) jr.nd rfl (bx rfl) (aX dS (aX zK (pv 0) ao) (aD aG rfl T.len cS (ab (pv 2) ah))))))
    (ai (aA (i:=4) jr.nd rfl (bx rfl) (aX cZ (aX LI (pv 4) ao) ao))
    (ak (bW (fq eF fY fZ bJ (pv 3) (ab (aF bo (pv 2) (aX cZ (aX dS (pv 4) ao) (aD aG rfl T.len cS (ab (pv 2) ah))) (λ_ _=>rfl)) ah))))))))
  (ak (aL (bD f_ rfl T.tup qR (ab (pv 3) ah)))))),?_⟩
 nofun
 have PV:(0:Int) < (zs.length:Int):=by omega
 refine⟨o6,λL hL=>?_⟩;have hS1:=af hL (.lst []) _ _ hS;have nS:S≠L:=λz=>by rw [z,hL] at hS;cases hS
 refine⟨_,rfl,_,_,rfl,rfl,(by show (0:Int) < 2147483647;decide),_,_,rfl,rfl,?_⟩;refine⟨_,rfl,(m:Int),rfl,∅,∅,?_⟩;rw [kn m];refine g7 (n:=m) (λi σ H2=>∃(c2 c4:Int)(k2:Option V) (ps:List Str),σ=[some (.int c2),some (.int (m:Int)),aP S,aP L,some (.int c4),k2]/\H2=upd H L (.lst (ps.map V.str))/\ps.length=i/\∀x∈ps,x∈zs) ⟨c,_,none,[],rfl,rfl,rfl,λ_ h=>(by cases h)⟩ ?_ ?_
 .rintro i σ H2 hi ⟨c2,c4,k2,ps,rfl,rfl,hp,F4⟩
  ac_nf0
  have eS:upd H L (.lst (ps.map V.str)) S=some (.lst (zs.map V.str)):=by rw [aj nS];exact hS
  refine goN ?_
  ac_nf
  refine⟨_,rfl,_,_,rfl,rfl,_,rfl,?_⟩;refine bY (λ_=>?_) (λ_=>?_)
  .obtain⟨z,PU,ez⟩:=So (zs:=zs) rfl PV (c2 - 1);refine⟨_,rfl,.inl ⟨rfl,_,aI.of ae⟩,_,rfl,_,rfl,_,_,rfl,rfl,_,rfl,S,_,rfl,.inl (aI.of eS),_,_,rfl,rfl,?_⟩;rw [au];refine⟨PV,S,_,_,_,rfl,rfl,aI.of eS,ez,L,_,_,rfl,rfl,ae,bK (by rw [au];omega),?_⟩;rw [m_];have eS2:upd H L (.lst (ps.map V.str++[.str z])) S=some (.lst (zs.map V.str)):=by rw [aj nS];exact hS
   refine⟨_,rfl,_,_,rfl,rfl,_,rfl,S,_,rfl,.inl (aI.of eS2),_,_,rfl,rfl,?_⟩;rw [au];refine⟨⟨PV,by show (zs.length:Int) < 1073741824;omega⟩,?_⟩;exact⟨_,_,_,ps++[z],rfl,by rw [bF];rfl,by rw [bL,hp];rfl,λx hx=>(cA.mp hx).elim (F4 x) λh=>(bU.mp h) ▸ PU⟩
  refine⟨_,rfl,_,_,rfl,rfl,.inr ⟨by decide,by decide⟩,_,_,rfl,rfl,(by show (0:Int) < 2147483647;decide),?_⟩;obtain⟨z,PU,ez⟩:=So (zs:=zs) rfl PV (c4 * 48271 % 2147483647 / 3);refine⟨_,rfl,.inl ⟨rfl,_,aI.of ae⟩,_,rfl,_,rfl,_,_,rfl,rfl,⟨by decide,by decide⟩,_,rfl,S,_,rfl,.inl (aI.of eS),_,_,rfl,rfl,?_⟩;rw [au];refine⟨PV,S,_,_,_,rfl,rfl,aI.of eS,ez,L,_,_,rfl,rfl,ae,bK (by rw [au];omega),?_⟩;rw [m_];exact⟨_,_,_,ps++[z],rfl,by rw [bF];rfl,by rw [bL,hp];rfl,λx hx=>(cA.mp hx).elim (F4 x) λh=>(bU.mp h) ▸ PU⟩
 rintro σ H2 ⟨c2,c4,k2,ps,rfl,rfl,hp,F4⟩;refine⟨_,rfl,L,_,rfl,.inl ⟨aI.of ae,λp oB=>?_⟩⟩;exact q p ps _ ((af hL _).trans (af oB _)) ae hp F4
def i3 (c:Int):Nat:=(c / 72 % 3).toNat
def j3 (c:Int):Nat:=(c / 3 % 3).toNat
def k3 (c:Int):Nat:=(1+c % 3).toNat
def Bv (c:Int):i3 c < 3/\c / 72 % 3=(i3 c:Int):=by unfold i3;omega
def FV (c:Int):j3 c < 3/\c / 3 % 3=(j3 c:Int):=by unfold j3;omega
def Kd (c:Int):1<=k3 c/\k3 c<=3/\1+c % 3=(k3 c:Int):=by unfold k3;omega
def dA (c:Int):List Str:=(NC (i3 c) (j3 c)).take (k3 c)
def gJ (c:Int):List Str:=Rk (i3 c)
def FD {i j:Nat}(hi:i < 3)(hj:j < 3):(NC i j).Nodup/\∀x∈NC i j,x∉Rk i:=by
 match i,j,hi,hj with
 | 0,0,_,_=>decide +kernel
 | 0,1,_,_=>decide +kernel
 | 0,2,_,_=>decide +kernel
 | 1,0,_,_=>decide +kernel
 | 1,1,_,_=>decide +kernel
 | 1,2,_,_=>decide +kernel
 | 2,0,_,_=>decide +kernel
 | 2,1,_,_=>decide +kernel
 | 2,2,_,_=>decide +kernel
def CY (c:Int):(dA c).Nodup:=(FD (Bv c).1 (FV c).1).1.sublist (List.take_sublist _ _)
def uB (c:Int):∀x∈dA c,x∉gJ c:=λx hx=>(FD (Bv c).1 (FV c).1).2 x (pZ hx)
def IT (i j:Nat):(NC i j).length=3:=by unfold NC;rw [au];exact FC i
def Ak (c:Int):1<=(dA c).length/\(dA c).length<=3:=by
 have:=Kd c;unfold dA;rw [dN,IT];omega
def sH (c:Int):(gJ c).length=3:=K2 _
def A9:Sp:=λvs H Q _=>∃(c:Int),vs=[.int c]/\∀(N:Addr)(H':Hp),H N=none->aC H H'->H' N=some (.lst ((dA c).map V.str))->Q (.ref N) H'
def Bj:aK ["_law_cell","_law_some"] ["_law_cell"] (av zh):=iq rfl rfl rfl rfl (by decide +kernel)
def Fn (F:g9 K "_law_names" "_law_names" zh f fd)(T:Txt mg):bN P w K mg base fj 1 f fd ["_law_cell"] A9:=by
 refine F.ok Bj (λvs H Q E h=>?_) (λdU A outer s H vs Q E hr h=>?_)
 .obtain⟨c,rfl,_⟩:=h;rfl
 obtain⟨c,rfl,q⟩:=h;refine⟨_,@ai _ _ _ _ _ (@aA _ _ 1 _ _ _ _ Bj.nd rfl (bx rfl) (@aF _ _ _ _ _ _ _ bo (@bc _ _ _ _ (@ab _ _ _ _ _ (@bc _ _ _ _ (@ab _ _ _ _ _ (@bT _ _ _ _) (@ab _ _ _ _ _ (@bT _ _ _ _) (@ab _ _ _ _ _ (@bT _ _ _ _) (@ah _) rfl) rfl) rfl)) (@ab _ _ _ _ _ (@bc _ _ _ _ (@ab _ _ _ _ _ (@bT _ _ _ _) (@ab _ _ _ _ _ (@bT _ _ _ _) (@ab _ _ _ _ _ (@bT _ _ _ _) (@ah _) rfl) rfl) rfl)) (@ab _ _ _ _ _ (@bc _ _ _ _ (@ab _ _ _ _ _ (@bT _ _ _ _) (@ab _ _ _ _ _ (@bT _ _ _ _) (@ab _ _ _ _ _ (@bT _ _ _ _) (@ah _) rfl) rfl) rfl)) (@ah _) rfl) rfl) rfl)) (aX cZ (aX dS (pv 0) ao) ao) (λ_ _=>rfl)) rfl (.inr rfl))
  (ak (aL (bE ["_law_name"] [(0,"_law_cell")] rfl (aZ (dX ix (pv 1) gb (dQ (aX gp ao (aX cZ (pv 0) ao))))) (bp rfl rfl) (by decide +kernel) rfl (by decide +kernel)
   (λ_ _ _ _ _=>aq (i:=0) (show (["_law_name","_law_cell"]:List Str).Nodup by decide +kernel) rfl (bx rfl)) (λ_ _ _ _ _=>bX)
   (λ_ _ _ _ _=>aX zN (pv 0) (aX ID bT (aX cZ (aX dS (pv 1) ao) ao)))))),?_⟩
 nofun
 obtain⟨hi,ei⟩:=Bv c;obtain⟨hj,ej⟩:=FV c;obtain⟨hk1,hk3,ek⟩:=Kd c;refine⟨JC,λL1 h1=>⟨JC,λL2 h2=>⟨JC,λL3 h3=>⟨JC,λLL VI=>?_⟩⟩⟩⟩;obtain⟨s1,p1⟩:=Pr h1 h2 h3 VI;obtain⟨Li,a1,f1,e1⟩:=p1 (i3 c) hi;rw [IS] at e1;refine⟨_,rfl,_,_,rfl,rfl,⟨by decide,by decide⟩,_,_,rfl,rfl,(by show (0:Int) < 3;decide),?_⟩;refine⟨LL,_,(i3 c:Int),.ref Li,rfl,congrArg V.int ei,aI.of ae,a1,?_⟩;generalize upd (upd (upd (upd H L1 _) L2 _) L3 _) LL _=H1 at s1 e1;refine⟨_,rfl,_,rfl,_,_,rfl,rfl,(by show (0:Int) < 3;decide),_,_,rfl,rfl,_,rfl,Li,_,rfl,aI.of e1,λM hM=>?_⟩;have cut:gw ((Bt (i3 c)).map V.str) none (some (1+c % 3))=((Bt (i3 c)).take (k3 c)).map V.str:=by
  rw [ek];unfold gw;rw [show HT.fQ ((Bt (i3 c)).map V.str).length 0 none=0 from rfl,HT.jK,oM,ky,oJ,<-List.take_eq_take_min]
 rw [cut];have s2:=s1.trans (af hM (.lst (((Bt (i3 c)).take (k3 c)).map V.str)));have eM:upd H1 M (.lst (((Bt (i3 c)).take (k3 c)).map V.str)) M=some (.lst (((Bt (i3 c)).take (k3 c)).map V.str)):=ae;generalize upd H1 M (.lst (((Bt (i3 c)).take (k3 c)).map V.str))=H2 at s2 eM;have gN:dA c=((Bt (i3 c)).take (k3 c)).map λz=>z++ES "y" (j3 c):=by
  unfold dA NC;rw [oJ]
 refine⟨M,rfl,⟨_,aI.of eM⟩,λD hD=>cD (xs:=((Bt (i3 c)).take (k3 c)).map V.str) (λk ys σ2 H3=>ys=((dA c).take k).map V.str/\(∃y0,σ2=[y0,some (.int c)])/\aC H2 H3/\H3 D=some (.lst ys))
    ⟨rfl,⟨none,rfl⟩,af hD _,ae⟩ (λk ys σ2 H3 _ h=>?_) (λk x ys σ2 H3 ex h=>?_) (λys σ2 H3 h=>?_)⟩
 .obtain⟨_,_,sm,_⟩:=h;exact aI.of (sm _ _ eM)
 .obtain⟨rfl,⟨y0,rfl⟩,sm,eD⟩:=h;have lk:=(bq.mp ex).1;rw [au,dN,FC] at lk;rw [bh] at ex;obtain⟨z,ez,rfl⟩:=cg.mp ex;have hz:=FA (i3 c) z (pZ (cf ez));have hy:=Cd hj;refine goN (yy ?_);refine⟨_,rfl,_,rfl,_,_,rfl,rfl,⟨by decide,by decide⟩,_,_,rfl,rfl,(by show (0:Int) < 3;decide),?_⟩;have ly:("y":Str).length=1:=by decide +kernel
  refine⟨"y",j3 c,rfl,congrArg V.int ej,∅,ly,_,_,rfl,rfl,fits ∅,?_⟩;refine⟨eD,bK (by rw [au,dN];omega),?_,⟨_,rfl⟩,λb o hb=>?_,ae⟩
  .have:(dA c)[k]?=some (z++ES "y" (j3 c)):=by rw [gN,bh,ez];rfl
   rw [cR,this,bF];rfl
  rw [aj (λz=>by rw [z,hD] at hb;cases hb)];exact sm b o hb
 obtain⟨rfl,_,sm,eD⟩:=h;rw [mU (by rw [gN,au,au];exact aH _)] at eD;exact q D _ (s2.free hD) (s2.trans sm) eD
def rF:Sp:=λvs H Q _=>∃(c:Int),vs=[.int c]/\∀(N:Addr)(H':Hp),H N=none->aC H H'->H' N=some (.lst ((gJ c).map V.str))->Q (.ref N) H'
def Eu:aK ["_law_cell"] ["_law_cell"] (av vF):=iq rfl rfl rfl rfl (by decide +kernel)
def Ck (F:g9 K "_law_words" "_law_words" vF f fd)(T:Txt mg):bN P w K mg base fj 1 f fd ["_law_cell"] rF:=by
 refine F.ok Eu (λvs H Q E h=>?_) (λdU A outer s H vs Q E hr h=>?_)
 .obtain⟨c,rfl,_⟩:=h;rfl
 obtain⟨c,rfl,q⟩:=h;refine⟨_,ak (aL (@aF _ _ _ _ _ _ _ bo (@bc _ _ _ _ (@ab _ _ _ _ _ (@bc _ _ _ _ (@ab _ _ _ _ _ (@bT _ _ _ _) (@ab _ _ _ _ _ (@bT _ _ _ _) (@ab _ _ _ _ _ (@bT _ _ _ _) (@ah _) rfl) rfl) rfl)) (@ab _ _ _ _ _ (@bc _ _ _ _ (@ab _ _ _ _ _ (@bT _ _ _ _) (@ab _ _ _ _ _ (@bT _ _ _ _) (@ab _ _ _ _ _ (@bT _ _ _ _) (@ah _) rfl) rfl) rfl)) (@ab _ _ _ _ _ (@bc _ _ _ _ (@ab _ _ _ _ _ (@bT _ _ _ _) (@ab _ _ _ _ _ (@bT _ _ _ _) (@ab _ _ _ _ _ (@bT _ _ _ _) (@ah _) rfl) rfl) rfl)) (@ah _) rfl) rfl) rfl)) (aX cZ (aX dS (pv 0) ao) ao) (λ_ _=>rfl))),?_⟩;dsimp only [Ax];obtain⟨hi,ei⟩:=Bv c;refine⟨JC,λL1 h1=>⟨JC,λL2 h2=>⟨JC,λL3 h3=>⟨JC,λLL VI=>?_⟩⟩⟩⟩;obtain⟨s1,p1⟩:=Pr h1 h2 h3 VI;obtain⟨Li,a1,f1,e1⟩:=p1 (i3 c) hi;rw [HW] at e1;refine⟨_,rfl,_,_,rfl,rfl,⟨by decide,by decide⟩,_,_,rfl,rfl,(by show (0:Int) < 3;decide),?_⟩;refine⟨LL,_,(i3 c:Int),.ref Li,rfl,congrArg V.int ei,aI.of ae,a1,?_⟩;exact q Li _ f1 s1 e1
def Ek (K:a9):Sp:=λvs H Q _=>∃(S N W:Addr)(ns:List Int) (at_ m:Nat) (fS ws:List Str),vs=[.ref S,.int (at_:Int),.ref N,.int (m:Int),.ref W]/\aI K H S (ns.map V.int)/\ns.length<=1000/\H N=some (.lst (fS.map V.str))/\H W=some (.lst (ws.map V.str))/\0 < fS.length/\fS.length<=5/\ws.length<=10/\m<=10 /\
 ∀(R:Addr)(rs:List Addr)(aa:List aw)(H':Hp),H R=none->aC H H'->H' R=some (.lst (rs.map V.ref))->bH K H' rs aa->aa.length=m->(∀ru∈aa,ru.1∈fS/\ru.2.length<=3/\∀x∈ru.2,x∈fS++ws)->Q (.ref R) H'
def rN:aK ["_law_script","_law_at","_law_names_here","_law_many","_law_words_here","_law_rules","_law_some","_law_k","_law_cell"] ["_law_script","_law_at","_law_names_here","_law_many","_law_words_here"] (av EC):=iq rfl rfl rfl rfl (by decide +kernel)
def IH (F:g9 K "_law_more" "_law_more" EC f fd)(T:Txt mg)(GC:aB P w K mg base 1 "_law_cell_at" ["_law_script","_law_k"] (rL K))(GD:aB P w K mg base 1 "_law_digits" ["_law_cell","_law_many","_law_some"] rJ):bN P w K mg base fj 2 f fd ["_law_script","_law_at","_law_names_here","_law_many","_law_words_here"] (Ek K):=by
 refine F.ok rN (λvs H Q E h=>?_) (λdU A outer s H vs Q E hr h=>?_)
 .obtain⟨S,N,W,ns,at_,m,fS,ws,rfl,_⟩:=h;rfl
 obtain⟨S,N,W,ns,at_,m,fS,ws,rfl,hS,hn,hN,hW,RK,hn1,hw1,hm,q⟩:=h;refine⟨_,ai (aA (i:=5) rN.nd rfl (bx rfl) (bc ah))
  (ai (aA (i:=6) rN.nd rfl (bx rfl) (aX iM (pv 2) (pv 4)))
  (ai (bO bZ rfl (gY rfl T.DE (ab (pv 3) ah)) (aq (i:=7) rN.nd rfl (bx rfl))
   (ai (aA (i:=8) rN.nd rfl (bx rfl) (a8 GC hr rfl (ab (pv 0) (ab (aX gp (pv 1) (pv 7)) ah))))
   (ak (bW (fq eF fY fZ bJ (pv 5) (ab (bC (ab (aF bo (pv 2) (aX cZ (pv 8) (aD aG rfl T.len cS (ab (pv 2) ah))) (λ_ _=>rfl))
    (ab (a8 GD hr rfl (ab (aX dS (pv 8) ao) (ab (aX cZ (aX dS (pv 8) ao) ao) (ab (pv 6) ah)))) ah))) ah))))))
  (ak (aL (pv 5))))),?_⟩
 nofun
 refine⟨o6,λL hL=>?_⟩;have s1:=af hL (.lst []);have e1:upd H L (.lst []) L=some (.lst []):=ae;generalize upd H L (.lst [])=H1 at s1 e1;refine⟨_,rfl,_,rfl,N,W,_,_,rfl,rfl,s1 _ _ hN,s1 _ _ hW,fits (by rw [au,au];omega),λM hM=>?_⟩;rw [<-bF];have k2:=af hM (.lst ((fS++ws).map V.str));have s2:=s1.trans k2;have e2:=k2 _ _ e1;have m2:upd H1 M (.lst ((fS++ws).map V.str)) M=some (.lst ((fS++ws).map V.str)):=ae;have nM:M≠L:=λz=>by rw [z,e1] at hM;cases hM
 generalize upd H1 M (.lst ((fS++ws).map V.str))=H2 at k2 s2 e2 m2;refine⟨_,rfl,(m:Int),rfl,∅,∅,?_⟩;rw [kn m];refine g7 (n:=m) (λi σ H3=>∃(rs:List Addr)(aa:List aw)(y7 y8:Option V),σ=[aP S,some (.int (at_:Int)),aP N,some (.int (m:Int)),aP W,aP L,aP M,y7,y8]/\aC H H3/\H3 L=some (.lst (rs.map V.ref))/\H3 M=some (.lst ((fS++ws).map V.str))/\bH K H3 rs aa/\aa.length=i/\∀ru∈aa,ru.1∈fS/\ru.2.length<=3/\∀x∈ru.2,x∈fS++ws) ⟨[],[],none,none,rfl,s2,e2,m2,.nil,rfl,λ_ h=>by cases h⟩ ?_ ?_
 .intro i σ H3 hi jP
  ac_nf0
  obtain⟨rs,aa,y7,y8,rfl,s3,eL,eM,rl,hl,hf⟩:=jP;have lr:=aY rl;refine goN ?_
  ac_rfl
  refine⟨_,rfl,_,rfl,_,rfl,_,_,rfl,rfl,?_⟩;refine⟨S,ns,at_+i,(by show [V.ref S,V.int ((at_:Int)+(0+(i:Int)))]=_;congr 3;push_cast;omega),s3.seq hS,hn,λc _=>?_⟩;have YI:(0:Int) < (fS.length:Int):=by omega
  obtain⟨z,PU,ez⟩:=So (zs:=fS) rfl YI c;obtain⟨d,hd⟩:∃d:Nat,c / 3 % 4=(d:Int):=⟨(c / 3 % 4).toNat,∅⟩;refine⟨_,rfl,.inl ⟨rfl,_,aI.of eL⟩,_,rfl,_,rfl,_,rfl,N,_,rfl,.inl (aI.of (s3 _ _ hN)),_,_,rfl,rfl,?_⟩;rw [au];refine⟨YI,N,_,_,_,rfl,rfl,aI.of (s3 _ _ hN),ez,?_⟩;refine⟨_,rfl,_,_,rfl,rfl,⟨by decide,by decide⟩,_,rfl,_,_,rfl,rfl,⟨by decide,by decide⟩,_,_,rfl,rfl,(by show (0:Int) < 4;decide),_,rfl,?_⟩;refine⟨_,d,M,fS++ws,(by show [_,V.int (c / 3 % 4),_]=_;rw [hd]),∅,eM,by rw [bL];omega,by rw [bL];omega,λp ps H4 s4 e4 l4 F4=>⟨kb,λR hR=>?_⟩⟩;have k5:=s4.trans (af hR (.tup [.str z,.ref p]));have v1:aQ K (upd H4 R (.tup [.str z,.ref p])) R [.str z,.ref p]:=aQ.of ae;have v2:aQ K (upd H4 R (.tup [.str z,.ref p])) p (ps.map V.str):=(af hR _).tup (aQ.of e4);generalize upd H4 R (.tup [.str z,.ref p])=H5 at k5 v1 v2;have C9:=k5 _ _ eL;refine⟨L,_,_,rfl,rfl,C9,bK (by rw [au];omega),?_⟩;refine⟨rs++[R],aa++[(z,ps)],_,_,rfl,λb o hb=>?_,by rw [ae,bF];rfl,by rw [aj nM];exact k5 _ _ eM,gQ (rl.keep λb xs z=>aT C9 (k5.tup z)) ⟨p,aT C9 v1,aT C9 v2⟩,by rw [bL,hl];rfl,λru i7=>?_⟩
  .rw [aj (λz=>by rw [z,hL] at hb;cases hb)];exact k5 _ _ (s3 b o hb)
  rcases cA.mp i7 with h | h
  .exact hf ru h
  rw [bU.mp h];exact⟨PU,by show ps.length<=3;omega,F4⟩
 rintro σ H3 ⟨rs,aa,y7,y8,rfl,s3,eL,eM,rl,hl,hf⟩;exact⟨_,rfl,q L rs aa H3 hL s3 eL rl hl hf⟩
def pQ (ns ws:List Str) (a:Nat) (bG:List Str):Prop :=
 (∃n' wx,ns[a+1]?=some n'/\wx≠[]/\(∀x∈wx,x∈ws)/\wx.length<=2/\(bG=wx++[n']\/bG=n'::wx))\/(ns.length<=a+1/\(∀x∈bG,x∈ws)/\bG.length<=2)
def GO (l:List Str)(n:Str):gw ((l++[n]).map V.str) (some (-1)) none=[V.str n]:=by
 unfold gw;have h1:HT.fQ ((l++[n]).map V.str).length 0 (some (-1))=l.length:=by
  rw [au,bL,fO];show (if (-1:Int) < 0 then ((-1:Int)+((l.length+1:Nat):Int)).toNat else min (-1:Int).toNat (l.length+1))=l.length;rw [ax (by decide)];omega
 rw [h1,HT.ie,<-List.map_drop,List.drop_append_of_le_length (aH _),List.drop_length,mQ];rw [au,bL,fO,show l.length+1 - l.length=1 ∅];rfl
def GQ (l:List Str)(n:Str):gw ((l++[n]).map V.str) none (some (-1))=l.map V.str:=by
 unfold gw;have h1:HT.fQ ((l++[n]).map V.str).length ((l++[n]).map V.str).length (some (-1))=l.length:=by
  rw [au,bL,fO];show (if (-1:Int) < 0 then ((-1:Int)+((l.length+1:Nat):Int)).toNat else min (-1:Int).toNat (l.length+1))=l.length;rw [ax (by decide)];omega
 rw [h1,HT.ie,oM,ky,<-oJ,p_ (aH _),cQ]
def Ei (K:a9):Sp:=λvs H Q _=>∃(S N W:Addr)(ns:List Int) (at_:Nat) (fS ws:List Str),vs=[.ref S,.int (at_:Int),.ref N,.ref W]/\aI K H S (ns.map V.int)/\ns.length<=1000/\H N=some (.lst (fS.map V.str))/\H W=some (.lst (ws.map V.str))/\0 < fS.length/\fS.length<=5/\0 < ws.length/\ws.length<=10 /\
 ∀(R:Addr)(rs:List Addr)(aa:List aw)(H':Hp),H R=none->aC H H'->H' R=some (.lst (rs.map V.ref))->bH K H' rs aa->aa.length=fS.length->(∀(j:Nat)(ru:aw),aa[j]?=some ru->fS[j]?=some ru.1/\pQ fS ws j ru.2)->Q (.ref R) H'
def ml:aK ["_law_script","_law_at","_law_names_here","_law_words_here","_law_rules","_law_k","_law_cell","_law_parts"] ["_law_script","_law_at","_law_names_here","_law_words_here"] (av EA):=iq rfl rfl rfl rfl (by decide +kernel)
def IF (F:g9 K "_law_skeleton" "_law_skeleton" EA f fd)(T:Txt mg)(GC:aB P w K mg base 1 "_law_cell_at" ["_law_script","_law_k"] (rL K))(GD:aB P w K mg base 1 "_law_digits" ["_law_cell","_law_many","_law_some"] rJ):bN P w K mg base fj 2 f fd ["_law_script","_law_at","_law_names_here","_law_words_here"] (Ei K):=by
 refine F.ok ml (λvs H Q E h=>?_) (λdU A outer s H vs Q E hr h=>?_)
 .obtain⟨S,N,W,ns,at_,fS,ws,rfl,_⟩:=h;rfl
 obtain⟨S,N,W,ns,at_,fS,ws,rfl,hS,hn,hN,hW,RK,hn1,YA,hw1,q⟩:=h;refine⟨_,ai (aA (i:=4) ml.nd rfl (bx rfl) (bc ah))
  (ai (bO bZ rfl (gY rfl T.DE (ab (aD aG rfl T.len cS (ab (pv 2) ah)) ah)) (aq (i:=5) ml.nd rfl (bx rfl))
   (ai (aA (i:=6) ml.nd rfl (bx rfl) (a8 GC hr rfl (ab (pv 0) (ab (aX gp (pv 1) (pv 5)) ah))))
   (ai (aA (i:=7) ml.nd rfl (bx rfl) (a8 GD hr rfl (ab (aX dS (pv 6) ao) (ab (aX cZ (pv 6) ao) (ab (pv 3) ah)))))
   (ai (nK (bw (aV nU (aX gp (pv 5) ao) (aD aG rfl T.len cS (ab (pv 2) ah)) (bu _))
    (ai (aA (i:=7) ml.nd rfl (bx rfl) (aX vU (a8 GD hr rfl (ab (aX dS (pv 6) ao) (ab (aX gp ao (aX cZ (pv 6) ao)) (ab (pv 3) ah)))) (bC (ab (aF bo (pv 2) (aX gp (pv 5) ao) (λ_ _=>rfl)) ah))))
    (ak (bw (aV ij (aX cZ (aX dS (pv 6) ao) ao) ao (bu _))
     (ak (aA (i:=7) ml.nd rfl (bx rfl) (aX vU (dX qC (pv 7) (dQ (j7 il ao)) gb) (dX qC (pv 7) gb (dQ (j7 il ao)))))) aM))) aM))
   (ak (bW (fq eF fY fZ bJ (pv 4) (ab (bC (ab (aF bo (pv 2) (pv 5) (λ_ _=>rfl)) (ab (pv 7) ah))) ah))))))))
  (ak (aL (pv 4)))),?_⟩
 nofun
 refine⟨o6,λL hL=>?_⟩;have s1:=af hL (.lst []);have e1:upd H L (.lst []) L=some (.lst []):=ae;generalize upd H L (.lst [])=H1 at s1 e1;refine⟨_,rfl,N,_,rfl,.inl (aI.of (s1 _ _ hN)),((fS.map V.str).length:Int),rfl,by rw [au];omega,by rw [au];omega,?_⟩;rw [au,kn];refine g7 (n:=fS.length) (λi σ H3=>∃(rs:List Addr)(aa:List aw)(y5 y6 y7:Option V),σ=[aP S,some (.int (at_:Int)),aP N,aP W,aP L,y5,y6,y7]/\aC H H3/\H3 L=some (.lst (rs.map V.ref))/\bH K H3 rs aa/\aa.length=i/\∀(j:Nat)(ru:aw),aa[j]?=some ru->fS[j]?=some ru.1/\pQ fS ws j ru.2) ⟨[],[],none,none,none,rfl,s1,e1,.nil,rfl,λj ru e=>by cases e⟩ ?_ ?_
 .intro i σ H3 hi jP
  ac_nf0
  obtain⟨rs,aa,y5,y6,y7,rfl,s3,eL,rl,hl,hf⟩:=jP;have lr:=aY rl;obtain⟨nm,YH⟩:∃nm,fS[i]?=some nm:=⟨fS[i],b_ hi⟩;have atn:jR (fS.map V.str) (0+(i:Int))=some (.str nm):=by
   rw [ja];exact bS (by rw [bh,YH];rfl)
  refine goN ?_
  ac_rfl
  refine⟨_,rfl,_,rfl,_,rfl,_,_,rfl,rfl,?_⟩;refine⟨S,ns,at_+i,(by show [V.ref S,V.int ((at_:Int)+(0+(i:Int)))]=_;congr 3;push_cast;omega),s3.seq hS,hn,λc _=>?_⟩;obtain⟨d,hd⟩:∃d:Nat,c % 3=(d:Int):=⟨(c % 3).toNat,∅⟩;refine⟨_,rfl,_,_,rfl,rfl,⟨by decide,by decide⟩,_,rfl,_,_,rfl,rfl,(by show (0:Int) < 3;decide),_,rfl,?_⟩;refine⟨_,d,W,ws,(by show [_,V.int (c % 3),_]=_;rw [hd]),∅,s3 _ _ hW,YA,∅,λp ps H4 s4 e4 l4 F4=>?_⟩;have xi:=s3.trans s4;have HH:=s4 _ _ eL;have Rw:=rl.same s4;refine⟨λσ H5=>∃(p5:Addr) (bG:List Str),σ=[aP S,some (.int (at_:Int)),aP N,aP W,aP L,some (.int (0+(i:Int))),some (.int c),aP p5]/\aC H4 H5/\aQ K H5 p5 (bG.map V.str)/\pQ fS ws i bG,?_,?_⟩
  .refine⟨_,rfl,_,_,rfl,rfl,_,rfl,N,_,rfl,.inl (aI.of (xi _ _ hN)),_,_,rfl,rfl,_,rfl,?_⟩;refine bY (λcc=>?_) (λcc=>?_)
   .have lt:=dq cc;rw [au] at lt;have lt':i+1 < fS.length:=by omega
    obtain⟨n',I9⟩:∃n',fS[i+1]?=some n':=⟨fS[i+1],b_ lt'⟩;have WQ:jR (fS.map V.str) (0+(i:Int)+1)=some (.str n'):=by
     rw [ja,show (i:Int)+1=((i+1:Nat):Int) by push_cast;rfl];exact bS (by rw [bh,I9];rfl)
    obtain⟨d2,hd2⟩:∃d2:Nat,1+c % 2=(d2:Int):=⟨(1+c % 2).toNat,∅⟩;refine⟨_,rfl,_,_,rfl,rfl,⟨by decide,by decide⟩,_,rfl,_,_,rfl,rfl,(by show (0:Int) < 2;decide),_,_,rfl,rfl,_,rfl,?_⟩;refine⟨_,d2,W,ws,(by show [_,V.int (1+c % 2),_]=_;rw [hd2]),∅,xi _ _ hW,YA,∅,λp6 wx H6 s6 e6 l6 Yw=>?_⟩;have EJ:=xi.trans s6;refine⟨_,rfl,_,rfl,_,_,rfl,rfl,N,_,_,_,rfl,rfl,aI.of (EJ _ _ hN),WQ,vi,λu hu=>?_⟩;have k7:=af hu (.tup [V.str n']);refine⟨p6,u,_,_,rfl,rfl,k7.tup (aQ.of e6),aQ.of ae,(by rw [au];show wx.length+1<=sizeLine;exact fits ∅),λp8 H8 s8 e8=>?_⟩;have Wo:aQ K H8 p8 ((wx++[n']).map V.str):=by rw [bF];exact e8
    have NA:=s6.trans (k7.trans s8);have Rj:wx≠[]:=λz=>by rw [z] at l6;simp at l6;omega
    refine⟨_,rfl,_,_,rfl,rfl,⟨by decide,by decide⟩,_,_,rfl,rfl,(by show (0:Int) < 2;decide),rfl,_,rfl,?_⟩;refine bY (λc2=>?_) (λc2=>?_)
    .refine⟨_,rfl,_,rfl,_,rfl,p8,_,rfl,Wo,λp9 H9 s9 e9=>?_⟩;rw [GO] at e9;refine⟨_,rfl,_,rfl,_,rfl,p8,_,rfl,s9.tup Wo,λpA HA sA eA=>?_⟩;rw [GQ] at eA;refine⟨p9,pA,_,_,rfl,rfl,sA.tup e9,eA,(by rw [au];show 1+wx.length<=sizeLine;exact fits ∅),λpB HB sB eB=>?_⟩;exact⟨pB,n'::wx,rfl,NA.trans (s9.trans (sA.trans sB)),eB,.inl ⟨n',wx,I9,Rj,Yw,∅,.inr rfl⟩⟩
    exact⟨p8,wx++[n'],rfl,NA,Wo,.inl ⟨n',wx,I9,Rj,Yw,∅,.inl rfl⟩⟩
   have ge:¬(0+(i:Int)+1 < ((fS.map V.str).length:Int)):=λz=>cc (bV z);rw [au] at ge;exact⟨p,ps,rfl,aC.refl _,aQ.of e4,.inr ⟨∅,F4,∅⟩⟩
  rintro σ H5 ⟨p5,bG,rfl,s5,e5,sk⟩;have xg:=xi.trans s5;have C9:=s5 _ _ HH;refine⟨_,rfl,.inl ⟨rfl,_,aI.of C9⟩,_,rfl,_,rfl,N,_,_,_,rfl,rfl,aI.of (xg _ _ hN),atn,_,rfl,kb,λR hR=>?_⟩;have k6:=af hR (.tup [.str nm,.ref p5]);have v1:aQ K (upd H5 R (.tup [.str nm,.ref p5])) R [.str nm,.ref p5]:=aQ.of ae;have v2:=k6.tup e5;generalize upd H5 R (.tup [.str nm,.ref p5])=H6 at k6 v1 v2;have HG:=k6 _ _ C9;refine⟨L,_,_,rfl,rfl,HG,bK (by rw [au];omega),?_⟩;refine⟨rs++[R],aa++[(nm,bG)],_,_,_,rfl,λb o hb=>?_,by rw [ae,bF];rfl,gQ ((Rw.same (s5.trans k6)).keep λb xs z=>aT HG z) ⟨p5,aT HG v1,aT HG v2⟩,by rw [bL,hl];rfl,λj ru e=>?_⟩
  .rw [aj (λz=>by rw [z,hL] at hb;cases hb)];exact k6 _ _ (xg b o hb)
  by_cases cj:j < aa.length
  .rw [mX cj] at e;exact hf j ru e
  have lj:=(bq.mp e).1;rw [bL,fO] at lj;have ej:j=aa.length:=by omega
  subst ej;rw [lQ (aH _),oH] at e;cases e;rw [hl];exact⟨YH,sk⟩
 rintro σ H3 ⟨rs,aa,y5,y6,y7,rfl,s3,eL,rl,hl,hf⟩;exact⟨_,rfl,q L rs aa H3 hL s3 eL rl hl hf⟩
end
end gK
namespace L2
open PySem
def lU {X:Cx}(K:a9)(hK:X.K=K:=by rfl):ji X (compareOp .NotIn) (Ry K true):=by
 subst hK;exact iA
def gh (h:Str) (zs:List Str):Mi (.str h) (zs.map V.str)=decide (h∈zs):=by
 have:Mi (.str h) (zs.map V.str)=true↔h∈zs:=by
  unfold Mi;rw [List.any_eq_true];constructor
  .rintro⟨x,h1,h2⟩;obtain⟨z,hz,rfl⟩:=cP.mp h1;have:z=h:=by simpa [xR] using h2
   rw [<-this];exact hz
  intro hm;exact⟨.str h,cP.mpr ⟨h,hm,rfl⟩,by simp [xR]⟩
 by_cases c:h∈zs
 .rw [bV c];exact this.mpr c
 rw [di c];cases e:Mi (.str h) (zs.map V.str) with
 | false=>rfl
 | true=>exact absurd (this.mp e) c
def cM (zs:List Str):(zs.map V.str).all iR=true:=by
 rw [gB];intro x hx;obtain⟨z,_,rfl⟩:=cP.mp hx;rfl
section
variable {K:a9}{H:Hp}{p D:Addr}{zs:List Str}{σ:St}{x:Str}{js:List (Nat×Str)}{te:TE}{Qp:Hp->Prop}
def qf (rest:St)(pr:Str->Bool)(hc:eQ [x] js σ=none::rest)(hp:aQ K H p (zs.map V.str))(hz:zs.length<=1000)(hD:H D=none)
  (PY:∀z∈zs,∀(H':Hp)(Qy:VK),aC H H'->Qy (.bl (pr z)) H'->te (some (.str z)::rest) H' Qy)
  (q:∀H2,aC H H2->H2 D=some (.lst ((zs.map pr).map V.bl))->Qp H2) :
  ∃W:Nat->Nat->List V->St->Hp->Prop,(∃m,W 0 m [] (eQ [x] js σ) (upd H D (.lst []))) /\
 ∀i m ys σ' H,W i m ys σ' H->((qk K p).stop i H/\Qp H)\/((qk K p).go i H/\∃m',m' < m/\∀x H',(qk K p).mZ i H x H'->dP 0 x σ' H' λσ2 H2=>iw σ2 H2 λb H3 =>
  if b=true then te σ2 H3 λy H4=>H4 D=some (.lst ys)/\ys.length < sizeLine/\W (i+1) m' (ys++[y]) σ2 (upd H4 D (.lst (ys++[y]))) else W (i+1) m' ys σ2 H3):=by
 refine g8 (xs:=zs.map V.str) (λi ys σ2 H2=>ys=((zs.take i).map pr).map V.bl/\(∃y0,σ2=y0::rest)/\aC H H2/\H2 D=some (.lst ys))
  ⟨rfl,⟨none,hc⟩,af hD _,ae⟩ (λi ys σ2 H2 _ h=>?_) (λi v ys σ2 H2 ex h=>?_) (λys σ2 H2 h=>?_)
 .obtain⟨_,_,sm,_⟩:=h;exact sm.tup hp
 .obtain⟨rfl,⟨y0,rfl⟩,sm,hd⟩:=h;rw [bh] at ex;obtain⟨z,ez,rfl⟩:=cg.mp ex;have li:=(bq.mp ez).1;refine goN (yy (PY z (cf ez) _ _ sm ⟨hd,bK (by rw [au,au,dN];omega),?_,⟨_,rfl⟩,λb o hb=>?_,ae⟩))
  .rw [cR,ez,bF,bF];rfl
  rw [aj (λz=>by rw [z,hD] at hb;cases hb)];exact sm b o hb
 obtain⟨rfl,_,sm,hd⟩:=h;rw [au,cQ] at hd;exact q H2 sm hd
def qg (rest:St)(pr:Str->Bool)(hc:eQ [x] js σ=none::rest)(hp:aI K H p (zs.map V.str))(hz:zs.length<=1000)(hD:H D=none)
  (PY:∀z∈zs,∀(H':Hp)(Qy:VK),aC H H'->Qy (.bl (pr z)) H'->te (some (.str z)::rest) H' Qy)
  (q:∀H2,aC H H2->H2 D=some (.lst ((zs.map pr).map V.bl))->Qp H2) :
  ∃W:Nat->Nat->List V->St->Hp->Prop,(∃m,W 0 m [] (eQ [x] js σ) (upd H D (.lst []))) /\
 ∀i m ys σ' H,W i m ys σ' H->((j9 K p).stop i H/\Qp H)\/((j9 K p).go i H/\∃m',m' < m/\∀x H',(j9 K p).mZ i H x H'->dP 0 x σ' H' λσ2 H2=>iw σ2 H2 λb H3 =>
  if b=true then te σ2 H3 λy H4=>H4 D=some (.lst ys)/\ys.length < sizeLine/\W (i+1) m' (ys++[y]) σ2 (upd H4 D (.lst (ys++[y]))) else W (i+1) m' ys σ2 H3):=by
 refine cD (xs:=zs.map V.str) (λi ys σ2 H2=>ys=((zs.take i).map pr).map V.bl/\(∃y0,σ2=y0::rest)/\aC H H2/\H2 D=some (.lst ys))
  ⟨rfl,⟨none,hc⟩,af hD _,ae⟩ (λi ys σ2 H2 _ h=>?_) (λi v ys σ2 H2 ex h=>?_) (λys σ2 H2 h=>?_)
 .obtain⟨_,_,sm,_⟩:=h;exact sm.seq hp
 .obtain⟨rfl,⟨y0,rfl⟩,sm,hd⟩:=h;rw [bh] at ex;obtain⟨z,ez,rfl⟩:=cg.mp ex;have li:=(bq.mp ez).1;refine goN (yy (PY z (cf ez) _ _ sm ⟨hd,bK (by rw [au,au,dN];omega),?_,⟨_,rfl⟩,λb o hb=>?_,ae⟩))
  .rw [cR,ez,bF,bF];rfl
  rw [aj (λz=>by rw [z,hD] at hb;cases hb)];exact sm b o hb
 obtain⟨rfl,_,sm,hd⟩:=h;rw [au,cQ] at hd;exact q H2 sm hd
end
theorem all_map (zs:List Str)(pr:Str->Bool):(zs.map pr).all id=zs.all pr:=by
 rw [List.all_map];rfl
end L2
namespace gK
open PySem M11
abbrev hm (aa:List aw):List Str:=aa.map (·.1)
structure Small (aa:List aw):Prop where
 one:1<=aa.length
 most:aa.length<=8
 BD:∀ru∈aa,ru.2.length<=4
open PySem L2 M11
section
def jQ {H:Hp}{R D:Addr}{rs:List Addr}{aa:List aw}{σ:St}{Qp:Hp->Prop}(hR:aI K H R (rs.map V.ref))(b9:bH K H rs aa)(br:aa.length<=1000)(hD:H D=none)
  (q:∀H2,aC H H2->H2 D=some (.lst ((hm aa).map V.str))->Qp H2) :
  ∃W:Nat->Nat->List V->St->Hp->Prop,(∃m,W 0 m [] (eQ ["_law_head","_law_parts"] [] σ) (upd H D (.lst []))) /\
 ∀i m ys σ' H,W i m ys σ' H->((j9 K R).stop i H/\Qp H)\/((j9 K R).go i H/\∃m',m' < m/\∀x H',(j9 K R).mZ i H x H'->Aj K 2 (jA (dP 0) (jA (dP 1) CW)) x σ' H' λσ2 H2=>iw σ2 H2 λb H3 =>
  if b=true then gW 0 σ2 H3 λy H4=>H4 D=some (.lst ys)/\ys.length < sizeLine/\W (i+1) m' (ys++[y]) σ2 (upd H4 D (.lst (ys++[y]))) else W (i+1) m' ys σ2 H3):=by
 have ll:=aY b9;refine cD (xs:=rs.map V.ref) (λi ys σ2 H2=>ys=((hm aa).take i).map V.str/\(∃y0 y1,σ2=[y0,y1])/\aC H H2/\H2 D=some (.lst ys))
  ⟨rfl,⟨none,none,rfl⟩,af hD _,ae⟩ (λi ys σ2 H2 _ h=>?_) (λi x ys σ2 H2 ex h=>?_) (λys σ2 H2 h=>?_)
 .obtain⟨_,_,sm,_⟩:=h;exact sm.seq hR
 .obtain⟨rfl,⟨y0,y1,rfl⟩,sm,wJ⟩:=h;rw [bh] at ex;obtain⟨r,er,rfl⟩:=cg.mp ex;obtain⟨ru,e1,p,v1,v2⟩:=b9.get er;have li:=(bq.mp e1).1;refine⟨r,_,rfl,sm.tup v1,rfl,_,_,rfl,_,_,rfl,rfl,?_⟩;refine yy ?_;refine⟨_,rfl,wJ,bK (by rw [au,dN];omega),?_,⟨_,_,rfl⟩,λb o hb=>?_,ae⟩
  .have:(hm aa)[i]?=some ru.1:=by unfold hm;rw [bh,e1];rfl
   rw [cR,this,bF];rfl
  rw [aj (λz=>by rw [z,hD] at hb;cases hb)];exact sm b o hb
 obtain⟨rfl,_,sm,wJ⟩:=h;rw [au,ll,mU (by unfold hm;rw [au];exact aH _)] at wJ;exact q H2 sm wJ
def Bc (K:a9):Sp:=λvs H Q _=>∃(R:Addr)(rs:List Addr)(aa:List aw)(b:Bool),vs=[.ref R,.bl b]/\aI K H R (rs.map V.ref)/\bH K H rs aa/\Small aa /\
 ∀(D:Addr)(H':Hp),H D=none->aC H H'->H' D=some (.lst ((dJ b aa).map V.str))->(dJ b aa).length<=64->Q (.ref D) H'
abbrev NE:List Str:=["_law_rules","_law_words_here","_law_head","_law_parts","_law_heads","_law_ended_here","_law_again","_law_good_here"]
def jJ:aK NE ["_law_rules","_law_words_here"] (av zk):=iq rfl rfl rfl rfl (by decide +kernel)
def Fu (F:g9 K "_law_ended" "_law_ended" zk f fd)(T:Txt mg):bN P w K mg base fj 1 f fd ["_law_rules","_law_words_here"] (Bc K):=by
 refine F.ok jJ (λvs H Q E h=>?_) (λdU A outer s H vs Q E hr h=>?_)
 .obtain⟨R,rs,aa,b,rfl,_⟩:=h;rfl
 obtain⟨R,rs,aa,b,rfl,hR,b9,CL,q⟩:=h;have UZ:=CL.one;have UY:=CL.most;refine⟨_,ai (aA (i:=4) jJ.nd rfl (Or.inr rfl) (bE ["_law_head","_law_parts"] [] rfl (aZ (pv 0)) (bp rfl rfl) (by decide +kernel) rfl (by decide +kernel)
   (λ_ _ _ _ _=>fI (n:=2) K rfl (aE (aq (i:=0) (show (["_law_head","_law_parts"]:List Str).Nodup by decide +kernel) rfl (bx rfl)) (aE (aq (i:=1) (show (["_law_head","_law_parts"]:List Str).Nodup by decide +kernel) rfl (bx rfl)) b8))) (λ_ _ _ _ _=>bX)
   (λ_ _ _ _ _=>pv 0)))
  (ai (aA (i:=5) jJ.nd rfl (Or.inr rfl) (bc ah))
  (ai (bO bZ rfl (aZ (pv 0)) (aq (i:=6) jJ.nd rfl (bx rfl))
   (ak (bO bZ rfl (aZ (pv 0)) (fI (n:=2) K rfl (aE (aq (i:=2) jJ.nd rfl (bx rfl)) (aE (aq (i:=3) jJ.nd rfl (bx rfl)) b8)))
    (ai (aA (i:=7) jJ.nd rfl (bx rfl) (aD (iE rfl) rfl T.all boot_all (ab
      (bE ["_law_part"] [(5,"_law_ended_here"),(4,"_law_heads"),(1,"_law_words_here")] rfl (gH (pv 3)) (bp rfl rfl) (by decide +kernel) rfl (by decide +kernel)
       (λ_ _ _ _ _=>aq (i:=0) (show (["_law_part","_law_ended_here","_law_heads","_law_words_here"]:List Str).Nodup by decide +kernel) rfl (bx rfl)) (λ_ _ _ _ _=>bX)
       (λ_ _ _ _ _=>O8 (eK (gk K) (pv 0) (pv 1) rfl) (kQ (jL (pv 3) (kQ (eK (lU K) (pv 0) (pv 2) rfl)))))) ah)))
    (ak (bw (PW.pt (iJ (cX (pv 7)) (gE (aV iA (pv 2) (pv 5) rfl))))
     (ak (bW (fq eF fY fZ bJ (pv 5) (ab (pv 2) ah)))) aM))))))
  (ak (aL (pv 5))))),?_⟩
 nofun
 refine⟨_,rfl,R,rfl,⟨_,hR⟩,λD hD=>jQ hR b9 ∅ hD λH1 s1 eD=>?_⟩;refine goN ?_
 ac_rfl
 refine⟨o6,λL hL=>?_⟩;have s2:=s1.trans (af hL (.lst []));have Ky:=af hL (.lst []) _ _ eD;have nL:L≠D:=λz=>by rw [z,eD] at hL;cases hL
 have fL:H L=none:=s1.free hL;have e2:upd H1 L (.lst []) L=some (.lst []):=ae;generalize upd H1 L (.lst [])=H2 at s2 Ky e2;refine goN ?_
 ac_rfl
 have ll:=aY b9;refine⟨_,rfl,R,rfl,⟨_,s2.seq hR⟩,cC (xs:=rs.map V.ref) (λi σ H3=>∃(es:List Str)(y2 y3 y6 y7:Option V),σ=[aP R,some (.bl b),y2,y3,aP D,aP L,y6,y7]/\aC H H3/\H3 D=some (.lst ((hm aa).map V.str))/\H3 L=some (.lst (es.map V.str))/\es=passes (λe=>gT b (hm aa) e aa) i []/\es.length<=8 * i) ⟨[],_,_,_,_,rfl,s2,Ky,e2,rfl,by simp⟩ ?_ ?_ ?_⟩
 .rintro i σ H3 _ ⟨es,y2,y3,y6,y7,rfl,s3,_⟩;exact s3.seq hR
 .intro i x σ H3 ex jP
  ac_nf0
  obtain⟨es,y2,y3,y6,y7,rfl,s3,Jk,M8,he,Qi⟩:=jP;have li:=(bq.mp ex).1;rw [au] at li;refine goN ?_
  ac_nf
  refine⟨_,rfl,R,rfl,⟨_,s3.seq hR⟩,cC (xs:=rs.map V.ref) (λj σ H4=>∃(wo:List Str)(y2 y3 y7:Option V),σ=[aP R,some (.bl b),y2,y3,aP D,aP L,some x,y7]/\aC H H4/\H4 D=some (.lst ((hm aa).map V.str))/\H4 L=some (.lst (wo.map V.str))/\wo=gT b (hm aa) es (aa.take j)/\wo.length<=8 * i+j) ⟨es,_,_,_,rfl,s3,Jk,M8,rfl,∅⟩ ?_ ?_ ?_⟩
  .rintro j σ H4 _ ⟨wo,y2,y3,y7,rfl,s4,_⟩;exact s4.seq hR
  .intro j x2 σ H4 pL jP
   ac_nf0
   obtain⟨wo,y2,y3,y7,rfl,s4,Kx,HH,Ho,Qh⟩:=jP;have lj:=(bq.mp pL).1;rw [au] at lj;rw [bh] at pL;obtain⟨r,er,rfl⟩:=cg.mp pL;obtain⟨ru,e1,p,v1,v2⟩:=b9.get er;have i7:=CL.BD ru (cf e1);refine⟨r,_,rfl,s4.tup v1,rfl,_,_,rfl,_,_,rfl,rfl,?_⟩;refine⟨_,rfl,p,rfl,⟨_,s4.tup v2⟩,λD2 i8=>qf (zs:=ru.2) [aP L,aP D,some (.bl b)] (λz=>decide (z∈wo) || (b && !decide (z∈hm aa))) rfl (s4.tup v2) ∅ i8 (λz _ H5 Qy s5 hq=>?_) λH5 s5 M_=>?_⟩
   .refine⟨_,rfl,_,rfl,L,_,rfl,.inl (aI.of (s5 _ _ HH)),rfl,cM _,?_⟩;refine⟨_,rfl,?_⟩;rw [gh];show if decide (z∈wo)=true then _ else _;refine bY (λc=>?_) (λc=>?_)
    .rw [c] at hq;exact hq
    have c':decide (z∈wo)=false:=by simpa using c
    rw [c',Bool.false_or] at hq;refine⟨_,rfl,b,rfl,?_⟩;refine bY (λcb=>?_) (λcb=>?_)
    .rw [cb,jb] at hq;refine⟨_,rfl,_,rfl,D,_,rfl,.inl (aI.of (s5 _ _ Kx)),rfl,cM _,?_⟩;rw [gh];exact hq
    have cb':b=false:=by simpa using cb
    rw [cb',qW] at hq;exact hq
   refine⟨D2,_,rfl,aI.of M_,?_⟩;rw [all_map];refine goN ?_
   ac_rfl
   have xf:=s4.trans s5;have C9:=s5 _ _ HH;have pe:gT b (hm aa) es (aa.take (j+1))=eG b (hm aa) wo ru:=by
    rw [Ho,cR,e1];unfold gT;rw [List.foldl_append];rfl
   refine⟨_,rfl,_,rfl,?_⟩;refine bY (λc=>?_) (λc=>?_)
   .refine⟨_,rfl,_,rfl,L,_,rfl,.inl (aI.of C9),rfl,cM _,_,rfl,?_⟩;rw [gh];show if (!decide (ru.1∈wo))=true then _ else _;refine bY (λc2=>?_) (λc2=>?_)
    .refine⟨_,rfl,.inl ⟨rfl,_,aI.of C9⟩,_,rfl,L,_,_,rfl,rfl,C9,bK (by rw [au];omega),?_⟩;refine⟨wo++[ru.1],_,_,_,rfl,λb o hb=>?_,by rw [aj (cO nL)];exact s5 _ _ Kx,by rw [ae,bF];rfl,?_,by rw [bL];simp;omega⟩
     .rw [aj (λz=>by rw [z,fL] at hb;cases hb)];exact xf b o hb
     rw [pe];unfold eG;rw [c,jb,ax c2]
    refine⟨wo,_,_,_,rfl,xf,s5 _ _ Kx,C9,?_,∅⟩;rw [pe];unfold eG;rw [c,jb,az c2]
   refine⟨wo,_,_,_,rfl,xf,s5 _ _ Kx,C9,?_,∅⟩;rw [pe];unfold eG;rw [az (λz=>c (hX.mp z).1)]
  rintro σ H4 ⟨wo,y2,y3,y7,rfl,s4,Kx,HH,Ho,Qh⟩;rw [au,ll] at Qh;rw [au,ll,cQ] at Ho;exact⟨wo,_,_,_,_,rfl,s4,Kx,HH,by rw [Ho,he];rfl,∅⟩
 rintro σ H3 ⟨es,y2,y3,y6,y7,rfl,s3,Jk,M8,he,Qi⟩;rw [au,ll] at he Qi;refine⟨_,rfl,?_⟩;have e:dJ b aa=es:=he.symm;exact q L H3 fL s3 (by rw [e];exact M8) (by rw [e];omega)
end
def uH (zs:List Str) (j:Nat):gw (zs.map V.str) none (some (0+(j:Int)))=(zs.take j).map V.str:=by
 rw [ja];unfold gw;rw [HT.ie,HT.jK,oM,ky,au,oJ]
 conv=>rhs;rw [List.take_eq_take_min,au]
def Di (zs:List Str) (j:Nat):gw (zs.map V.str) (some (0+(j:Int)+1)) none=(zs.drop (j+1)).map V.str:=by
 rw [ja,show (j:Int)+1=((j+1:Nat):Int) by push_cast;rfl];unfold gw;rw [HT.ie,HT.jK,au,List.map_drop];by_cases h:j+1<=zs.length
 .rw [Nat.min_eq_left h,mU (by rw [pW,au];exact aH _)]
 rw [Nat.min_eq_right ∅,oH,oN,List.drop_eq_nil_of_le (by rw [au];omega)]
def AI (aa:List aw) (ms:List Str):Prop:=∀(i:Nat)(h:Str),ms[i]?=some h->(∃lR,aa[0]?=some lR/\h=lR.1)\/∃ru∈aa,ru.1∈ms.take i/\h∈ru.2
def Ha (aa:List aw)(ru:aw) (j:Nat)(z:Str):Prop:=ru.2[j]?=some z/\z∈hm aa/\∀(k:Nat)(y:Str),k≠j->ru.2[k]?=some y->y∈dJ false aa
def PlO (aa:List aw) (cs:List Str):Prop:=∀(i:Nat)(h:Str),cs[i]?=some h->∀ru∈aa,ru.1=h->∀(j:Nat)(z:Str),Ha aa ru j z->z∈cs.take i
structure BY (aa:List aw) (ms cs:List Str):Prop where
 en:∀z∈hm aa,z∈dJ true aa
 mo:AI aa ms
 ma:∀z∈hm aa,z∈ms
 cn:cs.Nodup
 ch:∀x∈cs,x∈hm aa
 co:PlO aa cs
 ca:∀z∈hm aa,z∈cs
def AI.app {aa:List aw}{ms zs:List Str}{ru:aw}(h:AI aa ms)(hr:ru∈aa)(h1:ru.1∈ms)(h2:∀z∈zs,z∈ru.2):AI aa (ms++zs):=by
 intro i x hx;by_cases l:i < ms.length
 .rw [mX l] at hx;rcases h i x hx with a | ⟨r,a,b,c⟩
  .exact .inl a
  exact .inr ⟨r,a,by rw [p_ ∅];exact b,c⟩
 rw [lQ ∅] at hx;refine .inr ⟨ru,hr,?_,h2 x (cf hx)⟩;rw [List.take_append,mU ∅];exact jl _ h1
def Xa (aa:List aw)(ri:List aw)(gu:List (Str×Str)):Prop:=∀ru∈ri,∀(j:Nat)(z:Str),Ha aa ru j z->(ru.1,z)∈gu
structure Og (aa:List aw)(gu:List (Str×Str)) (cs:List Str):Prop where
 cn:cs.Nodup
 ch:∀x∈cs,x∈hm aa
 co:∀(i:Nat)(h:Str),cs[i]?=some h->∀z,(h,z)∈gu->z∈cs.take i
def Og.add {aa:List aw}{gu:List (Str×Str)}{cs:List Str}{nm:Str}(h:Og aa gu cs)(n:nm∉cs)(hh:nm∈hm aa)(a:∀z,(nm,z)∈gu->z∈cs):Og aa gu (cs++[nm]):=by
 refine⟨ku.mpr ⟨h.cn,by simp,λx hx y hy z=>n (by rw [<-bU.mp hy,<-z];exact hx)⟩,λx hx=>?_,λi x hx z hz=>?_⟩
 .rcases cA.mp hx with q | q
  .exact h.ch x q
  rw [bU.mp q];exact hh
 by_cases l:i < cs.length
 .rw [mX l] at hx;rw [p_ ∅];exact h.co i x hx z hz
 have li:=(bq.mp hx).1;rw [bL,fO] at li;have:i=cs.length:=by omega
 subst this;rw [lQ (aH _),oH] at hx;cases hx;rw [p_ (aH _),cQ];exact a z hz
section
def Ep (K:a9):Sp:=λvs H Q _=>∃(R:Addr)(rs:List Addr)(aa:List aw),vs=[.ref R]/\aI K H R (rs.map V.ref)/\bH K H rs aa/\Small aa /\
 ∀(b:Bool)(H':Hp),aC H H'->(b=true->∃ms cs,BY aa ms cs)->Q (.bl b) H'
abbrev NG:List Str:=["_law_rules","_law_head","_law_parts","_law_heads","_law_ended_here","_law_met","_law_again","_law_empty","_law_alone","_law_k","_law_others","_law_placed","_law_name","_law_later"]
def eZ:aK NG ["_law_rules"] (av EG):=iq rfl rfl rfl rfl (by decide +kernel)
def IK (F:g9 K "_law_good" "_law_good" EG f fd)(T:Txt mg)(GE:aB P w K mg base 1 "_law_ended" ["_law_rules","_law_words_here"] (Bc K)):bN P w K mg base fj 2 f fd ["_law_rules"] (Ep K):=by
 refine F.ok eZ (λvs H Q E h=>?_) (λdU A outer s H vs Q E hr h=>?_)
 .obtain⟨R,rs,aa,rfl,_⟩:=h;rfl
 obtain⟨R,rs,aa,rfl,hR,b9,CL,q⟩:=h;have UZ:=CL.one;have UY:=CL.most;refine⟨_,ai (aA (i:=3) eZ.nd rfl (Or.inr rfl) (bE ["_law_head","_law_parts"] [] rfl (aZ (pv 0)) (bp rfl rfl) (by decide +kernel) rfl (by decide +kernel)
   (λ_ _ _ _ _=>fI (n:=2) K rfl (aE (aq (i:=0) (show (["_law_head","_law_parts"]:List Str).Nodup by decide +kernel) rfl (bx rfl)) (aE (aq (i:=1) (show (["_law_head","_law_parts"]:List Str).Nodup by decide +kernel) rfl (bx rfl)) b8))) (λ_ _ _ _ _=>bX)
   (λ_ _ _ _ _=>pv 0)))
  (ai (aA (i:=4) eZ.nd rfl (Or.inr rfl) (a8 GE hr rfl (ab (pv 0) (ab dH ah))))
  (ai (aA (i:=5) eZ.nd rfl (Or.inr rfl) (dX ix (pv 3) gb (dQ ao)))
  (ai (bO bZ rfl (aZ (pv 0)) (aq (i:=6) eZ.nd rfl (bx rfl))
   (ak (bO bZ rfl (aZ (pv 0)) (fI (n:=2) K rfl (aE (aq (i:=1) eZ.nd rfl (bx rfl)) (aE (aq (i:=2) eZ.nd rfl (bx rfl)) b8)))
    (ak (bw (aV lB (pv 1) (pv 5) rfl)
     (ak (aA (i:=5) eZ.nd rfl (Or.inr rfl) (aX iM (pv 5)
      (bE ["_law_part"] [(3,"_law_heads"),(5,"_law_met")] rfl (gH (pv 2)) (bp rfl rfl) (by decide +kernel) rfl (by decide +kernel)
       (λ_ _ _ _ _=>aq (i:=0) (show (["_law_part","_law_heads","_law_met"]:List Str).Nodup by decide +kernel) rfl (bx rfl))
       (λ_ _ _ _ _=>g_ (PW.pt (iJ (aV (gk K) (pv 0) (pv 1) rfl) (gE (aV (lU K) (pv 0) (pv 2) rfl)))))
       (λ_ _ _ _ _=>pv 0))))) aM)))))
  (ai (aA (i:=7) eZ.nd rfl (Or.inr rfl) (a8 GE hr rfl (ab (pv 0) (ab dH ah))))
  (ai (aA (i:=8) eZ.nd rfl (bx rfl) (bc ah))
  (ai (bO bZ rfl (aZ (pv 0)) (fI (n:=2) K rfl (aE (aq (i:=1) eZ.nd rfl (bx rfl)) (aE (aq (i:=2) eZ.nd rfl (bx rfl)) b8)))
   (ak (bO bZ rfl (gY rfl T.DE (ab (aD aG rfl T.len cS (ab (pv 2) ah)) ah)) (aq (i:=9) eZ.nd rfl (bx rfl))
    (ai (aA (i:=10) eZ.nd rfl (bx rfl) (aX vU (dX qC (pv 2) gb (dQ (pv 9))) (dX qC (pv 2) (dQ (aX gp (pv 9) ao)) gb)))
    (ak (bw (PW.pt (iJ (aV lB (aF aN (pv 2) (pv 9) (λ_ _=>rfl)) (pv 3) rfl) (gE (cX (aD (iE rfl) rfl T.all boot_all (ab
      (bE ["_law_part"] [(7,"_law_empty")] rfl (gH (pv 10)) (bp rfl rfl) (by decide +kernel) rfl (by decide +kernel)
       (λ_ _ _ _ _=>aq (i:=0) (show (["_law_part","_law_empty"]:List Str).Nodup by decide +kernel) rfl (bx rfl)) (λ_ _ _ _ _=>bX)
       (λ_ _ _ _ _=>eK (gk K) (pv 0) (pv 1) rfl)) ah))))))
     (ak (bW (fq eF fY fZ bJ (pv 8) (ab (bC (ab (pv 1) (ab (aF aN (pv 2) (pv 9) (λ_ _=>rfl)) ah))) ah)))) aM))))))
  (ai (aA (i:=11) eZ.nd rfl (Or.inr rfl) (bc ah))
  (ai (bO bZ rfl (aZ (pv 0)) (aq (i:=6) eZ.nd rfl (bx rfl))
   (ak (bO bZ rfl (aZ (pv 3)) (aq (i:=12) eZ.nd rfl (Or.inr rfl))
    (ai (iz (iy:=13) ["_law_pair"] [(12,"_law_name")] eZ.nd rfl rfl rfl (aZ (pv 8)) (bp rfl rfl) (by decide +kernel) rfl (by decide +kernel)
      (λ_ _ _ _ _=>aq (i:=0) (show (["_law_pair","_law_name"]:List Str).Nodup by decide +kernel) rfl (bx rfl))
      (λ_ _ _ _ _=>g_ (aV ij (aF (qJ K) (pv 0) ao (λ_ _=>rfl)) (pv 1) (bu _))) (λ_ _ _ _ _=>aF (qJ K) (pv 0) ao (λ_ _=>rfl)))
    (ak (bw (PW.pt (iJ (cX (aD (iE rfl) rfl T.all boot_all (ab
      (bE ["_law_other"] [(11,"_law_placed")] rfl (aZ (pv 13)) (bp rfl rfl) (by decide +kernel) rfl (by decide +kernel)
       (λ_ _ _ _ _=>aq (i:=0) (show (["_law_other","_law_placed"]:List Str).Nodup by decide +kernel) rfl (bx rfl)) (λ_ _ _ _ _=>bX)
       (λ_ _ _ _ _=>eK (gk K) (pv 0) (pv 1) rfl)) ah))) (gE (aV iA (pv 12) (pv 11) rfl))))
     (ak (bW (fq eF fY fZ bJ (pv 11) (ab (pv 12) ah)))) aM))))))
  (ak (aL (aD (iE rfl) rfl T.all boot_all (ab
   (bE ["_law_name"] [(4,"_law_ended_here"),(5,"_law_met"),(11,"_law_placed")] rfl (aZ (pv 3)) (bp rfl rfl) (by decide +kernel) rfl (by decide +kernel)
    (λ_ _ _ _ _=>aq (i:=0) (show (["_law_name","_law_ended_here","_law_met","_law_placed"]:List Str).Nodup by decide +kernel) rfl (bx rfl)) (λ_ _ _ _ _=>bX)
    (λ_ _ _ _ _=>jL (eK (gk K) (pv 0) (pv 1) rfl) (jL (eK (gk K) (pv 0) (pv 2) rfl) (kQ (eK (gk K) (pv 0) (pv 3) rfl))))) ah)))))))))))),?_⟩
 nofun
 have ll:=aY b9;refine⟨_,rfl,R,rfl,⟨_,hR⟩,λD hD=>jQ hR b9 ∅ hD λH1 s1 eD=>?_⟩;refine goN ?_
 ac_rfl
 refine⟨_,rfl,R,rs,aa,true,rfl,s1.seq hR,b9.same s1,CL,λEn H2 fE s2 eE lE=>?_⟩;refine goN ?_
 ac_rfl
 have V9:gw ((hm aa).map V.str) none (some 1)=((hm aa).take 1).map V.str:=uH (hm aa) 1;have Ql:(hm aa).length=aa.length:=by unfold hm;rw [au]
 refine⟨_,rfl,_,rfl,D,_,rfl,aI.of (s2 _ _ eD),λM0 hM0=>?_⟩;rw [V9];have lm0:((hm aa).take 1).length<=1:=by rw [dN];omega
 have X7:AI aa ((hm aa).take 1):=λi h e=>by
  have li:=(bq.mp e).1;have:i=0:=by omega
  subst this;rw [rA ∅] at e;rw [bh] at e;obtain⟨r0,e0,rfl⟩:=cg.mp e;exact .inl ⟨r0,e0,rfl⟩
 generalize (hm aa).take 1=m0 at lm0 X7;have k3:=af hM0 (.lst (m0.map V.str));have s3:=(s1.trans s2).trans k3;have Jk:=k3 _ _ (s2 _ _ eD);have Wi:=k3 _ _ eE;have ZE:upd H2 M0 (.lst (m0.map V.str)) M0=some (.lst (m0.map V.str)):=ae;generalize upd H2 M0 (.lst (m0.map V.str))=H3 at k3 s3 Jk Wi ZE;refine goN ?_
 ac_rfl
 refine⟨_,rfl,R,rfl,⟨_,s3.seq hR⟩,cC (xs:=rs.map V.ref) (λi σ H4=>∃(M:Addr) (ms:List Str)(y1 y2 y6:Option V),σ=[aP R,y1,y2,aP D,aP En,aP M,y6,none,none,none,none,none,none,none]/\aC H3 H4/\H4 M=some (.lst (ms.map V.str))/\ms.length<=8+40 * i/\AI aa ms) ⟨M0,m0,_,_,_,rfl,λ_ _ h=>h,ZE,∅,X7⟩ ?_ ?_ ?_⟩
 .rintro i σ H4 _ ⟨M,ms,y1,y2,y6,rfl,s4,_⟩;exact s4.seq (s3.seq hR)
 .intro i x σ H4 ex jP
  ac_nf0
  obtain⟨M,ms,y1,y2,y6,rfl,s4,eM,lM,mO⟩:=jP;have li:=(bq.mp ex).1;rw [au] at li;refine goN ?_
  ac_nf
  refine⟨_,rfl,R,rfl,⟨_,s4.seq (s3.seq hR)⟩,cC (xs:=rs.map V.ref) (λj σ H5=>∃(M:Addr) (ms:List Str)(y1 y2:Option V),σ=[aP R,y1,y2,aP D,aP En,aP M,some x,none,none,none,none,none,none,none]/\aC H3 H5/\H5 M=some (.lst (ms.map V.str))/\ms.length<=8+40 * i+4 * j/\AI aa ms) ⟨M,ms,_,_,rfl,s4,eM,∅,mO⟩ ?_ ?_ ?_⟩
  .rintro j σ H5 _ ⟨M,ms,y1,y2,rfl,s5,_⟩;exact s5.seq (s3.seq hR)
  .intro j x2 σ H5 pL jP
   ac_nf0
   obtain⟨M,ms,y1,y2,rfl,s5,eM,lM,mO⟩:=jP;have lj:=(bq.mp pL).1;rw [au] at lj;rw [bh] at pL;obtain⟨r,er,rfl⟩:=cg.mp pL;obtain⟨ru,e1,p,v1,v2⟩:=b9.get er;have i7:=CL.BD ru (cf e1);have xg:=s3.trans s5;refine⟨r,_,rfl,xg.tup v1,rfl,_,_,rfl,_,_,rfl,rfl,?_⟩;refine⟨_,rfl,_,rfl,M,_,rfl,.inl (aI.of eM),rfl,cM _,_,rfl,?_⟩;refine bY (λc=>?_) (λc=>?_)
   .refine⟨_,rfl,_,rfl,p,rfl,⟨_,xg.tup v2⟩,λD2 i8=>g8 (xs:=ru.2.map V.str) (λk ys σ2 H6=>∃zs:List Str,ys=zs.map V.str/\zs.length<=k/\(∃y0,σ2=[y0,aP D,aP M])/\aC H5 H6/\H6 D2=some (.lst ys)/\∀z∈zs,z∈ru.2)
     ⟨[],rfl,aH _,⟨none,rfl⟩,af i8 _,ae,λ_ h=>(by cases h)⟩ (λk ys σ2 H6 _ h=>?_) (λk v ys σ2 H6 ex h=>?_) (λys σ2 H6 h=>?_)⟩
    .obtain⟨_,_,_,_,s6,_⟩:=h;exact s6.tup (xg.tup v2)
    .obtain⟨zs,rfl,lz,⟨y0,rfl⟩,s6,Ky,zm⟩:=h;have lk:=(bq.mp ex).1;rw [au] at lk;rw [bh] at ex;obtain⟨z,ez,rfl⟩:=cg.mp ex;refine goN ?_;refine⟨_,rfl,_,rfl,D,_,rfl,.inl (aI.of (s6 _ _ (s5 _ _ Jk))),rfl,cM _,_,rfl,?_⟩;refine bY (λc1=>?_) (λc1=>?_)
     .refine⟨_,rfl,_,rfl,M,_,rfl,.inl (aI.of (s6 _ _ eM)),rfl,cM _,_,rfl,?_⟩;refine bY (λc2=>?_) (λc2=>?_)
      .refine⟨_,rfl,Ky,bK (by rw [au];omega),zs++[z],by rw [bF];rfl,by rw [bL];simp;omega,⟨_,rfl⟩,λb o hb=>?_,ae,λy hy=>(cA.mp hy).elim (zm y) λq=>(bU.mp q) ▸ cf ez⟩;rw [aj (λz=>by rw [z,i8] at hb;cases hb)];exact s6 b o hb
      exact⟨zs,rfl,∅,⟨_,rfl⟩,s6,Ky,zm⟩
     refine c_ ?_;exact⟨zs,rfl,∅,⟨_,rfl⟩,s6,Ky,zm⟩
    obtain⟨zs,rfl,lz,_,s6,Ky,zm⟩:=h;have cm:ru.1∈ms:=dq ((gh _ _).symm.trans c);rw [au] at lz;refine⟨M,D2,_,_,rfl,rfl,s6 _ _ eM,Ky,fits (by rw [au,au];omega),λM2 hM2=>?_⟩;rw [<-bF];refine⟨M2,ms++zs,_,_,rfl,(s5.trans s6).trans (af hM2 _),ae,by rw [bL];omega,mO.app (cf e1) cm zm⟩
   exact⟨M,ms,_,_,rfl,s5,eM,∅,mO⟩
  rintro σ H5 ⟨M,ms,y1,y2,rfl,s5,eM,lM,mO⟩;rw [au,ll] at lM;exact⟨M,ms,_,_,_,rfl,s5,eM,∅,mO⟩
 rintro σ H4 ⟨M,ms,y1,y2,y6,rfl,s4,eM,lM,mO⟩;have xi:=s3.trans s4;refine⟨_,rfl,R,rs,aa,false,rfl,xi.seq hR,b9.same xi,CL,λEm H5 fEm s5 ZF lEm=>?_⟩;refine goN ?_
 ac_rfl
 refine⟨o6,λAl VR=>?_⟩;have k6:=af VR (.lst []);have s6:=(xi.trans s5).trans k6;have Sj:=k6 _ _ (s5 _ _ (s4 _ _ Jk));have ZG:=k6 _ _ (s5 _ _ (s4 _ _ Wi));have ZD:=k6 _ _ (s5 _ _ eM);have QS:=k6 _ _ ZF;have ZO:upd H5 Al (.lst []) Al=some (.lst []):=ae;have nA:∀b o,H5 b=some o->b≠Al:=λb o h z=>by rw [z,VR] at h;cases h
 have nAD:=nA _ _ (s5 _ _ (s4 _ _ Jk));have nAE:=nA _ _ (s5 _ _ (s4 _ _ Wi));have nAM:=nA _ _ (s5 _ _ eM);have nAm:=nA _ _ ZF;have fAl:H Al=none:=(xi.trans s5).free VR;generalize upd H5 Al (.lst [])=H6 at k6 s6 Sj ZG ZD QS ZO;refine goN ?_
 ac_rfl
 let Kp:Hp->Prop:=λH7=>aC H H7/\H7 D=some (.lst ((hm aa).map V.str))/\H7 En=some (.lst ((dJ true aa).map V.str))/\H7 M=some (.lst (ms.map V.str))/\H7 Em=some (.lst ((dJ false aa).map V.str))
 have i5:∀{H7 H8:Hp},Kp H7->aC H7 H8->Kp H8:=λh s=>⟨h.1.trans s,s _ _ h.2.1,s _ _ h.2.2.1,s _ _ h.2.2.2.1,s _ _ h.2.2.2.2⟩;have PJ:∀{H7:Hp}{xs:List V},Kp H7->Kp (upd H7 Al (.lst xs)):=λh=>⟨λb o hb=>by rw [aj (λz=>by rw [z,fAl] at hb;cases hb)];exact h.1 b o hb,by rw [aj nAD];exact h.2.1,by rw [aj nAE];exact h.2.2.1,by rw [aj nAM];exact h.2.2.2.1,by rw [aj nAm];exact h.2.2.2.2⟩
 let KY:Hp->List Addr->List (Str×Str)->Prop:=λH7 as gu=>Paired (λa (pr:Str×Str)=>aQ K H7 a [.str pr.1,.str pr.2]) as gu
 refine⟨_,rfl,R,rfl,⟨_,s6.seq hR⟩,cC (xs:=rs.map V.ref) (λi σ H7=>∃(as:List Addr)(gu:List (Str×Str))(y1 y2 y6 y9 yo:Option V),σ=[aP R,y1,y2,aP D,aP En,aP M,y6,aP Em,aP Al,y9,yo,none,none,none]/\Kp H7/\H7 Al=some (.lst (as.map V.ref))/\KY H7 as gu/\as.length<=4 * i/\Xa aa (aa.take i) gu) ⟨[],[],_,_,_,_,_,rfl,⟨s6,Sj,ZG,ZD,QS⟩,ZO,.nil,by simp,λru h=>(by simp at h)⟩ ?_ ?_ ?_⟩
 .rintro i σ H7 _ ⟨as,gu,y1,y2,y6,y9,yo,rfl,kp,_⟩;exact kp.1.seq hR
 .intro i x2 σ H7 pL jP
  ac_nf0
  obtain⟨as,gu,y1,y2,y6,y9,yo,rfl,kp,eA,pA,lA,aO⟩:=jP;have lj:=(bq.mp pL).1;rw [au] at lj;rw [bh] at pL;obtain⟨r,er,rfl⟩:=cg.mp pL;obtain⟨ru,e1,p,v1,v2⟩:=b9.get er;have i7:=CL.BD ru (cf e1);refine⟨r,_,rfl,kp.1.tup v1,rfl,_,_,rfl,_,_,rfl,rfl,?_⟩;refine⟨_,rfl,p,_,rfl,.inr (kp.1.tup v2),_,rfl,by rw [au];omega,by rw [au];omega,?_⟩;rw [au,kn];refine g7 (n:=ru.2.length) (λj σ H8=>∃(as:List Addr)(gu:List (Str×Str))(y9 yo:Option V),σ=[aP R,some (.str ru.1),aP p,aP D,aP En,aP M,y6,aP Em,aP Al,y9,yo,none,none,none]/\Kp H8/\H8 Al=some (.lst (as.map V.ref))/\KY H8 as gu/\as.length<=4 * i+j/\Xa aa (aa.take i) gu/\∀(j2:Nat)(z2:Str),j2 < j->Ha aa ru j2 z2->(ru.1,z2)∈gu) ⟨as,gu,_,_,rfl,kp,eA,pA,∅,aO,λj2 _ h=>∅⟩ ?_ ?_
  .intro j σ H8 hj jP
   ac_nf0
   obtain⟨as,gu,y9,yo,rfl,kp,eA,pA,lA,aO,aJ⟩:=jP;obtain⟨z,ez⟩:∃z,ru.2[j]?=some z:=⟨ru.2[j]'∅,b_ ∅⟩;have Z5:jR (ru.2.map V.str) (0+(j:Int))=some (.str z):=by
    rw [ja];exact bS (by rw [bh,ez];rfl)
   have eq1:=uH ru.2 j;have eq2:=Di ru.2 j;have lq1:(ru.2.take j).length<=ru.2.length:=by rw [dN];omega
   have lq2:(ru.2.drop (j+1)).length<=ru.2.length:=by rw [pW];omega
   have LH:∀y,y∈ru.2.take j++ru.2.drop (j+1)->∃k,k≠j/\ru.2[k]?=some y:=λy hy=>by
    rcases cA.mp hy with h | h
    .obtain⟨k,lk,ek⟩:=qz h;exact⟨k,∅,ek⟩
    obtain⟨k,ek⟩:=iu h;rw [rf] at ek;exact⟨j+1+k,∅,ek⟩
   generalize ru.2.take j=q1 at eq1 lq1 LH;generalize ru.2.drop (j+1)=q2 at eq2 lq2 LH;refine goN ?_
   ac_rfl
   refine⟨_,rfl,_,rfl,_,rfl,p,_,rfl,kp.1.tup v2,λt1 H9 s9 e9=>?_⟩;rw [eq1] at e9;refine⟨_,rfl,_,rfl,_,_,rfl,rfl,_,rfl,p,_,rfl,s9.tup (kp.1.tup v2),λt2 HA sA ZP=>?_⟩;rw [eq2] at ZP;refine⟨t1,t2,_,_,rfl,rfl,sA.tup e9,ZP,fits (by rw [au,au];omega),λt3 HB sB eB=>?_⟩;rw [<-bF] at eB;refine goN ?_
   ac_rfl
   have Tt:=s9.trans (sA.trans sB);have FP:=i5 kp Tt;have Wn:=Tt _ _ eA;have XQ:KY HB as gu:=Paired.dI pA λa pr z=>Tt.tup z;have xC:∀{HC:Hp},aC HB HC->¬Ha aa ru j z->∃(as:List Addr)(gu:List (Str×Str))(y9' SJ:Option V),[aP R,some (.str ru.1),aP p,aP D,aP En,aP M,y6,aP Em,aP Al,some (.int (0+(j:Int))),aP t3,none,none,none]=[aP R,some (.str ru.1),aP p,aP D,aP En,aP M,y6,aP Em,aP Al,y9',SJ,none,none,none]/\Kp HC/\HC Al=some (.lst (as.map V.ref))/\KY HC as gu/\as.length<=4 * i+(j+1)/\Xa aa (aa.take i) gu/\∀(j2:Nat)(z2:Str),j2 < j+1->Ha aa ru j2 z2->(ru.1,z2)∈gu:=λ{HC} sC nl=>⟨as,gu,_,_,rfl,i5 FP sC,sC _ _ Wn,Paired.dI XQ λa pr z=>sC.tup z,∅,aO,λj2 z2 h lo=>by
    by_cases c:j2 < j
    .exact aJ j2 z2 c lo
    have:j2=j:=by omega
    subst this;have e2:=lo.1;rw [ez] at e2;cases e2;exact absurd lo nl⟩
   refine⟨_,rfl,_,rfl,p,_,_,_,rfl,rfl,FP.1.tup v2,Z5,_,rfl,D,_,rfl,.inl (aI.of FP.2.1),rfl,cM _,_,rfl,?_⟩;refine bY (λc1=>?_) (λc1=>?_)
   .refine⟨_,rfl,t3,rfl,⟨_,eB⟩,λD2 i8=>qf (zs:=q1++q2) [aP Em] (λz=>decide (z∈dJ false aa)) rfl eB (by rw [bL];omega) i8 (λz _ H5 Qy s5 hq=>?_) λHC sC eC=>?_⟩
    .refine⟨_,rfl,_,rfl,Em,_,rfl,.inl (aI.of (s5 _ _ FP.2.2.2.2)),rfl,cM _,?_⟩;rw [gh];exact hq
    refine⟨D2,_,rfl,aI.of eC,_,rfl,?_⟩;refine bY (λc2=>?_) (λc2=>?_)
    .have kpC:=i5 FP sC;refine⟨_,rfl,.inl ⟨rfl,_,aI.of (sC _ _ Wn)⟩,_,rfl,_,rfl,_,rfl,p,_,_,_,rfl,rfl,kpC.1.tup v2,Z5,kb,λt ht=>?_⟩;have kD:=af ht (.tup [.str ru.1,.str z]);have sD:=sC.trans kD;have vD:aQ K (upd HC t (.tup [.str ru.1,.str z])) t [.str ru.1,.str z]:=aQ.of ae;generalize upd HC t (.tup [.str ru.1,.str z])=HD at kD sD vD;have Wm:=sD _ _ Wn;refine⟨Al,_,_,rfl,rfl,Wm,bK (by rw [au];omega),?_⟩;exact⟨as++[t],gu++[(ru.1,z)],_,_,rfl,PJ (i5 FP sD),by rw [ae,bF];rfl,gQ (Paired.dI XQ λa pr z=>aT Wm (sD.tup z)) (aT Wm vD),by rw [bL];simp;omega,λr RJ j2 z2 lo=>jl _ (aO r RJ j2 z2 lo),λj2 z2 h lo=>by
      by_cases c:j2 < j
      .exact jl _ (aJ j2 z2 c lo)
      have:j2=j:=by omega
      subst this;have e2:=lo.1;rw [ez] at e2;cases e2;exact fX _ cU⟩
    refine xC sC λlo=>c2 ?_;rw [all_map];refine gB.mpr λy hy=>bV ?_;obtain⟨k,nk,ek⟩:=LH y hy;exact lo.2.2 k y nk ek
   refine c_ ?_;exact xC (λ_ _ h=>h) λlo=>c1 ((gh _ _).trans (bV lo.2.1))
  rintro σ H8 ⟨as,gu,y9,yo,rfl,kp,eA,pA,lA,aO,aJ⟩;refine⟨as,gu,_,_,_,_,_,rfl,kp,eA,pA,∅,λr RJ j2 z2 lo=>?_⟩;rw [cR,e1] at RJ;rcases cA.mp RJ with h | h
  .exact aO r h j2 z2 lo
  have:r=ru:=bU.mp h;subst this;exact aJ j2 z2 (bq.mp lo.1).1 lo
 rintro σ H7 ⟨as,gu,y1,y2,y6,y9,yo,rfl,kp,eA,pA,lA,aO⟩;rw [au,ll] at lA aO;rw [cQ] at aO;refine⟨o6,λCm VQ=>?_⟩;have k8:=af VQ (.lst []);have UC:=i5 kp k8;have ZN:=k8 _ _ eA;have XS:KY (upd H7 Cm (.lst [])) as gu:=Paired.dI pA λa pr z=>k8.tup z;have ZJ:upd H7 Cm (.lst []) Cm=some (.lst []):=ae;have nC:∀b o,H7 b=some o->b≠Cm:=λb o h z=>by rw [z,VQ] at h;cases h
 have nCA:=nC _ _ eA;have nCD:=nC _ _ kp.2.1;have nCE:=nC _ _ kp.2.2.1;have nCM:=nC _ _ kp.2.2.2.1;have nCm:=nC _ _ kp.2.2.2.2;have fCm:H Cm=none:=kp.1.free VQ;have PH:∀{H7:Hp}{xs:List V},Kp H7->Kp (upd H7 Cm (.lst xs)):=λh=>⟨λb o hb=>by rw [aj (λz=>by rw [z,fCm] at hb;cases hb)];exact h.1 b o hb,by rw [aj nCD];exact h.2.1,by rw [aj nCE];exact h.2.2.1,by rw [aj nCM];exact h.2.2.2.1,by rw [aj nCm];exact h.2.2.2.2⟩;generalize upd H7 Cm (.lst [])=H8 at k8 UC ZN XS ZJ;refine goN ?_
 ac_rfl
 have lap:=aY pA;refine⟨_,rfl,R,rfl,⟨_,UC.1.seq hR⟩,cC (xs:=rs.map V.ref) (λi σ H9=>∃(cs:List Str)(y1 y2 y6 y9 yo HU HS:Option V),σ=[aP R,y1,y2,aP D,aP En,aP M,y6,aP Em,aP Al,y9,yo,aP Cm,HU,HS]/\Kp H9/\H9 Al=some (.lst (as.map V.ref))/\KY H9 as gu/\H9 Cm=some (.lst (cs.map V.str))/\cs.length<=8 * i/\Og aa gu cs) ⟨[],_,_,_,_,_,_,_,rfl,UC,ZN,XS,ZJ,by simp,⟨by simp,λ_ h=>(by cases h),λi h e=>(by cases e)⟩⟩ ?_ ?_ ?_⟩
 .rintro i σ H9 _ ⟨cs,y1,y2,y6,y9,yo,HU,HS,rfl,Hl,_⟩;exact Hl.1.seq hR
 .intro i x σ H9 ex jP
  ac_nf0
  obtain⟨cs,y1,y2,y6,y9,yo,HU,HS,rfl,Hl,ZM,XR,Kz,lC9,QZ⟩:=jP;have li:=(bq.mp ex).1;rw [au] at li;refine goN ?_
  ac_nf
  refine⟨_,rfl,D,rfl,⟨_,aI.of Hl.2.1⟩,cC (xs:=(hm aa).map V.str) (λj σ HA=>∃(cs:List Str)(HU HS:Option V),σ=[aP R,y1,y2,aP D,aP En,aP M,some x,aP Em,aP Al,y9,yo,aP Cm,HU,HS]/\Kp HA/\HA Al=some (.lst (as.map V.ref))/\KY HA as gu/\HA Cm=some (.lst (cs.map V.str))/\cs.length<=8 * i+j/\Og aa gu cs) ⟨cs,_,_,rfl,Hl,ZM,XR,Kz,∅,QZ⟩ ?_ ?_ ?_⟩
  .rintro j σ HA _ ⟨cs,HU,HS,rfl,PK,_⟩;exact aI.of PK.2.1
  .intro j x2 σ HA pL jP
   ac_nf0
   obtain⟨cs,HU,HS,rfl,PK,N5,O9,N4,Yg,Sm⟩:=jP;have lj:=(bq.mp pL).1;rw [au] at lj;rw [bh] at pL;obtain⟨nm,enm,rfl⟩:=cg.mp pL;refine goN ?_
   ac_rfl
   refine⟨_,rfl,Al,rfl,⟨_,aI.of N5⟩,λD2 i8=>cD (xs:=as.map V.ref) (λk ys σ2 HB=>∃zs:List Str,ys=zs.map V.str/\zs.length<=k/\(∃y0,σ2=[y0,some (.str nm)])/\aC HA HB/\HB D2=some (.lst ys)/\∀pr∈gu.take k,pr.1=nm->pr.2∈zs)
    ⟨[],rfl,aH _,⟨none,rfl⟩,af i8 _,ae,λ_ h=>(by simp at h)⟩ (λk ys σ2 HB _ h=>?_) (λk v ys σ2 HB ex h=>?_) (λys σ2 HB h=>?_)⟩
   .obtain⟨_,_,_,_,sB,_⟩:=h;exact aI.of (sB _ _ N5)
   .obtain⟨zs,rfl,lz,⟨u0,rfl⟩,sB,eB,zA⟩:=h;have lk:=(bq.mp ex).1;rw [au] at lk;rw [bh] at ex;obtain⟨a,ea,rfl⟩:=cg.mp ex;obtain⟨pr,Zj⟩:∃pr,gu[k]?=some pr:=⟨gu[k]'∅,b_ ∅⟩;obtain⟨a',Kv,va⟩:=Paired.at_ O9 k pr Zj;rw [ea] at Kv;cases Kv;refine goN ?_;have tk:gu.take (k+1)=gu.take k++[pr]:=by rw [cR,Zj];rfl
    refine⟨_,rfl,a,_,_,_,rfl,rfl,sB.tup va,rfl,_,rfl,rfl,_,rfl,?_⟩;refine bY (λc1=>?_) (λc1=>?_)
    .refine⟨_,rfl,a,_,_,_,rfl,rfl,sB.tup va,rfl,eB,bK (by rw [au];omega),zs++[pr.2],by rw [bF];rfl,by rw [bL];simp;omega,⟨_,rfl⟩,λb o hb=>?_,ae,λp2 oB e2=>?_⟩
     .rw [aj (λz=>by rw [z,i8] at hb;cases hb)];exact sB b o hb
     rw [tk] at oB;rcases cA.mp oB with h | h
     .exact jl _ (zA p2 h e2)
     rw [bU.mp h];exact fX _ cU
    refine⟨zs,rfl,∅,⟨_,rfl⟩,sB,eB,λp2 oB e2=>?_⟩;rw [tk] at oB;rcases cA.mp oB with h | h
    .exact zA p2 h e2
    have:p2=pr:=bU.mp h;rw [this] at e2;exact absurd (bV (congrArg V.str e2)) c1
   obtain⟨zs,rfl,lz,_,sB,eB,zA⟩:=h;rw [au] at lz zA;rw [lap,cQ] at zA;refine goN ?_
   ac_rfl
   have FP:=i5 PK sB;have xC:∀{HC:Hp},aC HB HC->∃(cs:List Str)(SI SH:Option V),[aP R,y1,y2,aP D,aP En,aP M,some x,aP Em,aP Al,y9,yo,aP Cm,some (.str nm),aP D2]=[aP R,y1,y2,aP D,aP En,aP M,some x,aP Em,aP Al,y9,yo,aP Cm,SI,SH]/\Kp HC/\HC Al=some (.lst (as.map V.ref))/\KY HC as gu/\HC Cm=some (.lst (cs.map V.str))/\cs.length<=8 * i+(j+1)/\Og aa gu cs:=λ{HC} sC=>⟨cs,_,_,rfl,i5 FP sC,sC _ _ (sB _ _ N5),Paired.dI O9 λa pr z=>sC.tup (sB.tup z),sC _ _ (sB _ _ N4),∅,Sm⟩;refine⟨_,rfl,D2,rfl,⟨_,aI.of eB⟩,λD3 Ag=>qg (zs:=zs) [aP Cm] (λz=>decide (z∈cs)) rfl (aI.of eB) ∅ Ag (λz _ H5 Qy s5 hq=>?_) λHC sC eC=>?_⟩
   .refine⟨_,rfl,_,rfl,Cm,_,rfl,.inl (aI.of (s5 _ _ (sB _ _ N4))),rfl,cM _,?_⟩;rw [gh];exact hq
   refine⟨D3,_,rfl,aI.of eC,_,rfl,?_⟩;refine bY (λc2=>?_) (λc2=>?_)
   .refine⟨_,rfl,_,rfl,Cm,_,rfl,.inl (aI.of (sC _ _ (sB _ _ N4))),rfl,cM _,_,rfl,?_⟩;refine bY (λc1=>?_) (λc1=>?_)
    .have Wk:=sC _ _ (sB _ _ N4);have nc:nm∉cs:=λh=>by
      have Z3:(!Mi (V.str nm) (cs.map V.str))=true:=c1;rw [gh,bV h] at Z3;cases Z3
     have ac:∀z∈zs,z∈cs:=λz hz=>by
      rw [all_map] at c2;exact dq (gB.mp c2 z hz)
     refine⟨_,rfl,.inl ⟨rfl,_,aI.of Wk⟩,_,rfl,Cm,_,_,rfl,rfl,Wk,bK (by rw [au];omega),?_⟩;exact⟨cs++[nm],_,_,rfl,PH (i5 FP sC),by rw [aj nCA];exact sC _ _ (sB _ _ N5),Paired.dI O9 λa pr z=>aT Wk (sC.tup (sB.tup z)),by rw [ae,bF];rfl,by rw [bL];simp;omega,Sm.add nc (cf enm) λz hz=>ac z (zA (nm,z) hz rfl)⟩
    exact xC sC
   refine c_ ?_;exact xC sC
  rintro σ HA ⟨cs,HU,HS,rfl,PK,N5,O9,N4,Yg,Sm⟩;rw [au,Ql] at Yg;exact⟨cs,_,_,_,_,_,_,_,rfl,PK,N5,O9,N4,∅,Sm⟩
 rintro σ H9 ⟨cs,y1,y2,y6,y9,yo,HU,HS,rfl,Hl,ZM,XR,Kz,lC9,QZ⟩;refine⟨_,rfl,D,rfl,⟨_,aI.of Hl.2.1⟩,λD3 Ag=>qg (zs:=hm aa) [aP En,aP M,aP Cm] (λz=>decide (z∈dJ true aa) && (decide (z∈ms) && decide (z∈cs))) rfl (aI.of Hl.2.1) ∅ Ag (λz _ H5 Qy s5 hq=>?_) λHC sC eC=>?_⟩
 .refine⟨_,rfl,_,rfl,En,_,rfl,.inl (aI.of (s5 _ _ Hl.2.2.1)),rfl,cM _,_,rfl,?_⟩;rw [gh];show if decide (z∈dJ true aa)=true then _ else _;refine bY (λc=>?_) (λc=>?_)
  .rw [c,jb] at hq;refine⟨_,rfl,_,rfl,M,_,rfl,.inl (aI.of (s5 _ _ Hl.2.2.2.1)),rfl,cM _,_,rfl,?_⟩;rw [gh];show if decide (z∈ms)=true then _ else _;refine bY (λc=>?_) (λc=>?_)
   .rw [c,jb] at hq;refine⟨_,rfl,_,rfl,Cm,_,rfl,.inl (aI.of (s5 _ _ Kz)),rfl,cM _,?_⟩;rw [gh];exact hq
   have c':decide (z∈ms)=false:=by simpa using c
   rw [c',qW] at hq;exact hq
  have c':decide (z∈dJ true aa)=false:=by simpa using c
  rw [c',qW] at hq;exact hq
 refine⟨D3,_,rfl,aI.of eC,?_⟩;rw [all_map];refine q _ _ (Hl.1.trans sC) λhb=>⟨ms,cs,?_⟩;have al:=λz hz=>hX.mp (gB.mp hb z hz);refine⟨λz hz=>dq (al z hz).1,mO,λz hz=>dq (hX.mp (al z hz).2).1,QZ.cn,QZ.ch,λi h e ru i7 er j z lo=>?_,λz hz=>dq (hX.mp (al z hz).2).2⟩;exact QZ.co i h e z (er ▸ aO ru i7 j z lo)
end
theorem du {α β:Type}{F:α->β->Prop}:∀{xs:List α}{ys:List β}{Dy:List α}{Om:List β},Paired F xs ys->Paired F Dy Om->Paired F (xs++Dy) (ys++Om)
 | _,_,_,_,.nil,h=>h
 | _,_,_,_,.cons a b,h=>.cons a (du b h)
def kX {aa:List aw}{x:Str}:x∈hm aa↔x∈hd aa:=by
 constructor
 .intro h;obtain⟨ru,a,b⟩:=cP.mp h;exact b ▸ uA a
 intro h;obtain⟨ru,a,b⟩:=Kj h;exact cP.mpr ⟨ru,a,b⟩
def BY.O_ {aa:List aw}{fS ms cs:List Str}(g:BY aa ms cs)(n3:fS.length<=3)(wI:∀ru∈aa,ru.1∈fS)(p3:∀ru∈aa,ru.2.length<=3):yh aa fS (dJ true aa) ms cs:=by
 have Yr:∀x∈hm aa,x∈fS:=λx hx=>by
  obtain⟨ru,a,b⟩:=cP.mp hx;exact b ▸ wI ru a
 have eo:=Gu true aa;refine⟨n3,wI,p3,eo.nd,λx hx=>Yr x (eo.sub x hx),λi h e=>?_,λh hh=>g.en h (kX.mpr hh),g.mo,λh hh=>g.ma h (kX.mpr hh),g.cn,λx hx=>Yr x (g.ch x hx),λi h e ru i7 er j z ez hz NP=>?_,λh hh=>g.ca h (kX.mpr hh)⟩
 .obtain⟨bG,a,b⟩:=eo.ord i h e;exact⟨bG,a,λp hp=>(b p hp).imp id λq z=>q.2 (kX.mpr z)⟩
 exact g.co i h e ru i7 er j z ⟨ez,kX.mpr hz,λk y nk ey=>Gv (NP k y nk ey)⟩
def B9 {aa:List aw}{fS ws:List Str}(nd:fS.Nodup)(n0:0 < fS.length)(n3:fS.length<=3)(dj:∀x∈fS,x∉ws)(hl:aa.length=fS.length)
  (hs:∀(j:Nat)(ru:aw),aa[j]?=some ru->fS[j]?=some ru.1/\pQ fS ws j ru.2):yh aa fS fS.reverse fS fS:=by
 have at_:∀(a:Nat)(h:Str),fS[a]?=some h->∃bG,aa[a]?=some (h,bG)/\pQ fS ws a bG:=λa h e=>by
  have la:=(bq.mp e).1;have e2:aa[a]?=some (aa[a]'∅):=b_ ∅;obtain⟨x1,x2⟩:=hs a _ e2;rw [e] at x1;refine⟨(aa[a]'∅).2,?_,x2⟩;rw [e2]
  congr 1
  exact Prod.ext (gR x1).symm rfl
 have Bm:∀ru∈aa,∃a:Nat,fS[a]?=some ru.1/\pQ fS ws a ru.2:=λru h=>by
  obtain⟨a,e⟩:=iu h;exact⟨a,hs a ru e⟩
 have RQ:∀x,x∈hd aa->x∈fS:=λx hx=>by
  obtain⟨ru,a,b⟩:=Kj hx;obtain⟨k,e,_⟩:=Bm ru a;exact b ▸ cf e
 have wN:∀x∈ws,x∉hd aa:=λx hx h=>dj x (RQ x h) hx;refine⟨n3,λru h=>?_,λru h=>?_,List.pairwise_reverse.mpr (nd.imp λh=>h.symm),λx hx=>List.mem_reverse.mp hx,λi h e=>?_,λh hh=>List.mem_reverse.mpr (RQ h hh),λi h e=>?_,λh hh=>RQ h hh,nd,λ_ h=>h,λi h e ru i7 er j z ez hz NP=>?_,λh hh=>RQ h hh⟩
 .obtain⟨a,e,_⟩:=Bm ru h;exact cf e
 .obtain⟨a,e,sk⟩:=Bm ru h;rcases sk with ⟨n',wx,_,_,_,l2,h | h⟩ | ⟨_,_,l2⟩
  .rw [h,bL];simp;omega
  .rw [h,dM];omega
  omega
 .have li:=(bq.mp e).1;rw [pY] at li;rw [vb li] at e;obtain⟨bG,e2,sk⟩:=at_ _ h e;refine⟨bG,cf e2,λp hp=>?_⟩;rcases sk with ⟨n',wx,e3,_,hw,_,pH⟩ | ⟨_,hw,_⟩
  .have cs:p=n'\/p∈wx:=by
    rcases pH with h | h
    .rw [h] at hp;rcases cA.mp hp with q | q
     .exact .inr q
     exact .inl (bU.mp q)
    rw [h] at hp;rcases cz.mp hp with q | q
    .exact .inl q
    exact .inr q
   rcases cs with rfl | q
   .left;have l3:=(bq.mp e3).1;have e4:fS.reverse[i - 1]?=some p:=by
     rw [vb ∅,<-e3]
     congr 1
     omega
    refine cf (i:=i - 1) ?_;rw [rA ∅];exact e4
   exact .inr (wN p (hw p q))
  exact .inr (wN p (hw p hp))
 .match i,e with
  | 0,e =>
   obtain⟨bG,e2,_⟩:=at_ 0 h e;exact .inl ⟨_,e2,rfl⟩
  | i+1,e =>
   have li:=(bq.mp e).1;have e5:fS[i]?=some (fS[i]'∅):=b_ ∅;obtain⟨bG,e2,sk⟩:=at_ i _ e5;refine .inr ⟨_,cf e2,?_,?_⟩
   .refine cf (i:=i) ?_;rw [rA ∅];exact e5
   rcases sk with ⟨n',wx,e3,_,hw,_,pH⟩ | ⟨l,_,_⟩
   .rw [e] at e3;cases e3;show h∈bG;rcases pH with q | q
    .rw [q];exact fX _ cU
    rw [q];exact cU
   omega
 exfalso;obtain⟨a,_,sk⟩:=Bm ru i7;rcases sk with ⟨n',wx,_,Rj,hw,_,pH⟩ | ⟨_,hw,_⟩
 .obtain⟨y,hy⟩:=List.exists_mem_of_ne_nil wx Rj;have hy2:y∈ru.2:=by
   rcases pH with q | q
   .rw [q];exact jl _ hy
   rw [q];exact dr _ hy
  obtain⟨k,ek⟩:=iu hy2;by_cases c:k=j
  .subst c;rw [ez] at ek;cases ek;exact wN _ (hw _ hy) hz
  exact wN y (hw y hy) (Kt (NP k y c ek))
 exact wN z (hw z (cf ez)) hz
def yh.en {aa:List aw}{fS E M Pl:List Str}(O:yh aa fS E M Pl):∀z∈hm aa,z∈dJ true aa:=λz hz=>by
 have all:∀(n i:Nat)(h:Str),i < n->E[i]?=some h->h∈dJ true aa:=by
  intro n
  induction n with
  | zero=>intro i h l;omega
  | succ n ih =>
   intro i h l e;obtain⟨bG,a,b⟩:=O.eO i h e;refine ou a λp hp=>?_;rcases b p hp with q | q
   .obtain⟨j,lj,ej⟩:=qz q;exact .inl (ih j p ∅ ej)
   exact .inr ⟨rfl,λw=>q (kX.mp w)⟩
 obtain⟨i,e⟩:=iu (O.eA z (kX.mp hz));exact all (i+1) i z ∅ e
def KW (aa:List aw)(rk:Str->Nat):Prop:=(∀x,rk x<=3)/\∀ru∈aa,∀(j:Nat)(z:Str),ru.2[j]?=some z->z∈hd aa->(∀(k:Nat)(y:Str),k≠j->ru.2[k]?=some y->Em aa y)->rk z < rk ru.1
theorem FY:∀(l:List Str)(x:Str),DJ l x<=l.length
 | [],x=>aH _
 | a::r,x=>by
  unfold DJ;by_cases c:a=x
  .rw [ax c];exact gA _
  rw [az c];exact Nat.succ_le_succ (FY r x)
def yh.rank {aa:List aw}{ns E M Pl:List Str}(o:yh aa ns E M Pl):KW aa (DJ Pl):=by
 refine⟨λx=>?_,λru i7 j z ez hz h=>?_⟩
 .have h1:=FY Pl x;have h2:=mq _ _ o.lN o.Ye;have h3:=o.n3;omega
 exact nY _ _ _ (o.lO _ _ (si Pl ru.1 (o.lA _ (uA i7))) ru i7 rfl j z ez hz h)
structure Rb (c:Int)(aa:List aw):Prop where
 one:1<=aa.length
 six:aa.length<=6
 ins:∀ru∈aa,ru.1∈dA c/\ru.2.length<=3/\∀x∈ru.2,x∈dA c++gJ c
 en:∀z∈hm aa,z∈dJ true aa
 rank:∃rk,KW aa rk
 good:∃rk b,Good aa rk b
section
def Eo (K:a9):Sp:=λvs H Q _=>∃(S:Addr)(ns:List Int) (at_:Nat),vs=[.ref S,.int (at_:Int)]/\aI K H S (ns.map V.int)/\ns.length<=1000 /\
 ∀(c:Int)(R:Addr)(rs:List Addr)(aa:List aw)(H':Hp),c=cellAt ns at_->H R=none->aC H H'->H' R=some (.lst (rs.map V.ref))->bH K H' rs aa->Rb c aa->Q (.ref R) H'
def mn:aK ["_law_script","_law_at","_law_cell","_law_names_here","_law_words_here","_law_rules","_law_more_here","_law_free"] ["_law_script","_law_at"] (av EF):=iq rfl rfl rfl rfl (by decide +kernel)
def IJ (F:g9 K "_law_grammar" "_law_grammar" EF f fd)(T:Txt mg)(GC:aB P w K mg base 2 "_law_cell_at" ["_law_script","_law_k"] (rL K))(GN:aB P w K mg base 2 "_law_names" ["_law_cell"] A9)(GW:aB P w K mg base 2 "_law_words" ["_law_cell"] rF)
  (GS:aB P w K mg base 2 "_law_skeleton" ["_law_script","_law_at","_law_names_here","_law_words_here"] (Ei K))(GM:aB P w K mg base 2 "_law_more" ["_law_script","_law_at","_law_names_here","_law_many","_law_words_here"] (Ek K))(GG:aB P w K mg base 2 "_law_good" ["_law_rules"] (Ep K)) :
  bN P w K mg base fj 3 f fd ["_law_script","_law_at"] (Eo K):=by
 refine F.ok mn (λvs H Q E h=>?_) (λdU A outer s H vs Q E hr h=>?_)
 .obtain⟨S,ns,at_,rfl,_⟩:=h;rfl
 obtain⟨S,ns,at_,rfl,hS,hn,q⟩:=h;refine⟨_,ai (aA (i:=2) mn.nd rfl (bx rfl) (a8 GC hr rfl (ab (pv 0) (ab (pv 1) ah))))
  (ai (aA (i:=3) mn.nd rfl (bx rfl) (a8 GN hr rfl (ab (pv 2) ah)))
  (ai (aA (i:=4) mn.nd rfl (bx rfl) (a8 GW hr rfl (ab (pv 2) ah)))
  (ai (aA (i:=5) mn.nd rfl (bx rfl) (a8 GS hr rfl (ab (pv 0) (ab (aX gp (pv 1) ao) (ab (pv 3) (ab (pv 4) ah))))))
  (ai (aA (i:=6) mn.nd rfl (bx rfl) (a8 GM hr rfl (ab (pv 0) (ab (aX gp (pv 1) ao) (ab (pv 3) (ab (aX cZ (aX dS (pv 2) ao) ao) (ab (pv 4) ah)))))))
  (ai (nK (bw (aV ij (aX cZ (aX dS (pv 2) ao) ao) ao (bu _))
   (ai (aA (i:=7) mn.nd rfl (bx rfl) (a8 GM hr rfl (ab (pv 0) (ab (aX gp (pv 1) ao) (ab (pv 3) (ab (aX gp ao (aX cZ (aX dS (pv 2) ao) ao)) (ab (pv 4) ah)))))))
   (ak (bw (cX (a8 GG hr rfl (ab (pv 7) ah))) (ak (aL (pv 7))) aM))) aM))
  (ai (bw (cX (a8 GG hr rfl (ab (aX iM (pv 5) (pv 6)) ah))) (ak (aL (aX iM (pv 5) (pv 6)))) aM)
  (ak (aL (pv 5))))))))),?_⟩
 refine⟨_,rfl,_,rfl,S,ns,at_,rfl,hS,hn,λc hc=>?_⟩;have gl:=Ak c;have wl:=sH c;refine⟨_,rfl,c,rfl,λN H1 fN s1 eN=>?_⟩;refine⟨_,rfl,c,rfl,λW H2 fW s2 eW=>?_⟩;have EK:=s1.trans s2;have Hz:=s2 _ _ eN;refine⟨_,rfl,_,rfl,_,_,rfl,rfl,_,rfl,_,rfl,S,N,W,ns,at_+1,dA c,gJ c,(by show [V.ref S,V.int ((at_:Int)+1),V.ref N,V.ref W]=_;congr 3),EK.seq hS,hn,Hz,eW,∅,∅,∅,∅,λR1 JQ kP H3 f3 s3 e3 TB l3 Xv=>?_⟩;have Ca:=EK.trans s3;obtain⟨m,Vf⟩:∃m:Nat,c / 9 % 4=(m:Int):=⟨(c / 9 % 4).toNat,∅⟩;refine⟨_,rfl,_,rfl,_,_,rfl,rfl,_,rfl,_,rfl,_,_,rfl,rfl,⟨by decide,by decide⟩,_,_,rfl,rfl,(by show (0:Int) < 4;decide),_,rfl,S,N,W,ns,at_+4,m,dA c,gJ c,(by show [V.ref S,V.int ((at_:Int)+4),V.ref N,V.int (c / 9 % 4),V.ref W]=_;rw [Vf];congr 3),Ca.seq hS,hn,s3 _ _ Hz,s3 _ _ eW,∅,∅,∅,∅,λR2 Lv pq H4 f4 s4 e4 Rw l4 in4=>?_⟩;have xi:=Ca.trans s4;have e34:=s4 _ _ e3;have Lx:=TB.same s4;have O1:=B9 (CY c) gl.1 gl.2 (uB c) l3 Xv;have in1:∀ru∈kP,ru.1∈dA c/\ru.2.length<=3/\∀x∈ru.2,x∈dA c++gJ c:=λru h=>by
  refine⟨O1.wI ru h,O1.p3 ru h,λx hx=>?_⟩;obtain⟨a,e⟩:=iu h;rcases (Xv a ru e).2 with ⟨n',wx,en,_,hw,_,pH⟩ | ⟨_,hw,_⟩
  .have cs:x=n'\/x∈wx:=by
    rcases pH with h | h
    .rw [h] at hx;rcases cA.mp hx with q | q
     .exact .inr q
     exact .inl (bU.mp q)
    rw [h] at hx;rcases cz.mp hx with q | q
    .exact .inl q
    exact .inr q
   rcases cs with rfl | q
   .exact jl _ (cf en)
   exact fX _ (hw x q)
  exact fX _ (hw x hx)
 have Pb:∀{aa:List aw}{ms cs:List Str},BY aa ms cs->1<=aa.length->aa.length<=6->(∀ru∈aa,ru.1∈dA c/\ru.2.length<=3/\∀x∈ru.2,x∈dA c++gJ c)->Rb c aa:=λg a b i=>⟨a,b,i,g.en,⟨_,(g.O_ gl.2 (λru h=>(i ru h).1) λru h=>(i ru h).2.1).rank⟩,_,_,(g.O_ gl.2 (λru h=>(i ru h).1) λru h=>(i ru h).2.1).good⟩;have OT:∀{aa:List aw},1<=aa.length->aa.length<=6->(∀ru∈aa,ru.1∈dA c/\ru.2.length<=3/\∀x∈ru.2,x∈dA c++gJ c)->Small aa:=λa b i=>⟨a,∅,λru h=>by have:=(i ru h).2.1;omega⟩;refine⟨λσ H5=>∃y7,σ=[aP S,some (.int (at_:Int)),some (.int c),aP N,aP W,aP R1,aP R2,y7]/\aC H4 H5,?_,?_⟩
 .refine⟨_,rfl,_,_,rfl,rfl,⟨by decide,by decide⟩,_,_,rfl,rfl,(by show (0:Int) < 2;decide),rfl,_,rfl,?_⟩;refine bY (λcc=>?_) (λcc=>?_)
  .have Ve:1+c / 9 % 4=((m+1:Nat):Int):=by omega
   refine⟨_,rfl,_,rfl,_,_,rfl,rfl,_,rfl,_,rfl,_,_,rfl,rfl,⟨by decide,by decide⟩,_,_,rfl,rfl,(by show (0:Int) < 4;decide),_,_,rfl,rfl,_,rfl,S,N,W,ns,at_+4,m+1,dA c,gJ c,(by show [V.ref S,V.int ((at_:Int)+4),V.ref N,V.int (1+c / 9 % 4),V.ref W]=_;rw [Ve];congr 3),xi.seq hS,hn,s4 _ _ (s3 _ _ Hz),s4 _ _ (s3 _ _ eW),∅,∅,∅,∅,λR3 XE ER H5 f5 s5 e5 Lw l5 Yt=>?_⟩;have xg:=xi.trans s5;refine⟨_,rfl,R3,XE,ER,rfl,aI.of e5,Lw,OT ∅ ∅ Yt,λb H6 s6 hb=>⟨b,rfl,?_⟩⟩;refine bY (λc2=>?_) (λc2=>?_)
   .obtain⟨ms,cs,g⟩:=hb c2;exact⟨_,rfl,q c R3 XE ER H6 hc (xi.free f5) (xg.trans s6) (s6 _ _ e5) (Lw.same s6) (Pb g ∅ ∅ Yt)⟩
   exact⟨_,rfl,s5.trans s6⟩
  exact⟨_,rfl,aC.refl _⟩
 rintro σ H5 ⟨y7,rfl,s5⟩;have xg:=xi.trans s5;have eA:=s5 _ _ e34;have eB:=s5 _ _ e4;have aae:=aY Lx;have aad:=aY Rw;have Ys:∀ru∈kP++pq,ru.1∈dA c/\ru.2.length<=3/\∀x∈ru.2,x∈dA c++gJ c:=λru h=>(cA.mp h).elim (in1 ru) (in4 ru);have DG:1<=(kP++pq).length/\(kP++pq).length<=6:=by rw [bL];omega
 have XF:bH K H5 (JQ++Lv) (kP++pq):=du (Lx.same s5) (Rw.same s5);refine⟨_,rfl,_,rfl,R1,R2,_,_,rfl,rfl,eA,eB,fits (by rw [au,au];omega),λR4 hR4=>?_⟩;rw [<-bF];have k6:=af hR4 (.lst ((JQ++Lv).map V.ref));have e6:upd H5 R4 (.lst ((JQ++Lv).map V.ref)) R4=some (.lst ((JQ++Lv).map V.ref)):=ae;generalize upd H5 R4 (.lst ((JQ++Lv).map V.ref))=H6 at k6 e6;have EJ:=xg.trans k6;refine⟨R4,JQ++Lv,kP++pq,rfl,aI.of e6,XF.same k6,OT DG.1 DG.2 Ys,λb H7 s7 hb=>⟨b,rfl,?_⟩⟩;have yq:=k6.trans s7;refine bY (λc2=>?_) (λc2=>?_)
 .obtain⟨ms,cs,g⟩:=hb c2;refine⟨_,rfl,_,rfl,R1,R2,_,_,rfl,rfl,yq _ _ eA,yq _ _ eB,fits (by rw [au,au];omega),λR5 VF=>?_⟩;rw [<-bF];exact q c R5 (JQ++Lv) (kP++pq) _ hc ((EJ.trans s7).free VF) ((EJ.trans s7).trans (af VF _)) ae ((XF.same yq).same (af VF _)) (Pb g DG.1 DG.2 Ys)
 exact⟨_,rfl,q c R1 JQ kP H7 hc (EK.free f3) (EJ.trans s7) (yq _ _ eA) ((Lx.same s5).same yq) ⟨∅,∅,in1,O1.en,⟨_,O1.rank⟩,_,_,O1.good⟩⟩
end
abbrev vH:Stmt:=top 6
abbrev zp:Stmt:=top 7
abbrev ze:Stmt:=top 47
abbrev zd:Stmt:=top 48
abbrev Lk:Stmt:=top 49
section
def pD:PySem.W.kitOne K (.type "tuple") (.type "str")=some false:=by kernel_rfl
def vv:Sp:=λvs H Q _=>∃(k m:Nat),vs=[.int (k:Int),.int (m:Int)]/\k < m/\Q (.bl true) H
def Ik:aK ["number","many"] ["number","many"] (av zp):=iq rfl rfl rfl rfl (by decide +kernel)
def Fy (F:g9 K "is_number_below" "is_number_below" zp f fd)(T:Txt mg):bN P w K mg base fj 1 f fd ["number","many"] vv:=by
 refine F.ok Ik (λvs H Q E h=>?_) (λdU A outer s H vs Q E hr h=>?_)
 .obtain⟨k,m,rfl,_⟩:=h;rfl
 obtain⟨k,m,rfl,hk,q⟩:=h;refine⟨_,ak (aL (jL (aD cv rfl T.CJ jm (ab (pv 0) (ab (fK (v:=.ty "int") rfl T.int PyProof.Rows.boot_int rfl) ah)))
  (jL (zF (aD cv rfl T.CJ jm (ab (pv 0) (ab (fK (v:=.ty "bool") rfl T.Z4 PyProof.Rows.boot_bool rfl) ah))))
  (kQ (E9 JX nU ao (pv 0) (pv 1)))))),?_⟩
 refine⟨_,rfl,.int k,"int","int",true,rfl,.int k,fu,true,rfl,?_⟩;refine g6 ?_;refine⟨_,rfl,.int k,"int","bool",false,rfl,.int k,FT,false,rfl,true,rfl,?_⟩;refine g6 ?_;refine⟨_,rfl,_,_,rfl,rfl,_,rfl,?_⟩;refine bY (λ_=>?_) (λc=>absurd (bV ∅) c);refine⟨_,rfl,_,_,rfl,rfl,?_⟩;show Q (.bl (decide ((k:Int) < (m:Int)))) H;rw [bV ∅];exact q
def wX (K:a9):Sp:=λvs H Q _=>∃(R:Addr)(rs:List Addr)(aa:List aw) (k:Nat)(x:Str)(ru:aw),vs=[.ref R,.int (k:Int),.str x]/\aI K H R (rs.map V.ref)/\bH K H rs aa/\aa[k]?=some ru/\Q (.bl (decide (V.str ru.1=V.str x))) H
def Ew:aK ["rules","number","name"] ["rules","number","name"] (av vH):=iq rfl rfl rfl rfl (by decide +kernel)
def Co (F:g9 K "is_rule_of" "is_rule_of" vH f fd)(T:Txt mg)(GB:aB P w K mg base 1 "is_number_below" ["number","many"] vv):bN P w K mg base fj 2 f fd ["rules","number","name"] (wX K):=by
 refine F.ok Ew (λvs H Q E h=>?_) (λdU A outer s H vs Q E hr h=>?_)
 .obtain⟨R,rs,aa,k,x,ru,rfl,_⟩:=h;rfl
 obtain⟨R,rs,aa,k,x,ru,rfl,hR,b9,hk,q⟩:=h;refine⟨_,ak (aL (jL (a8 GB hr rfl (ab (pv 1) (ab (aD aG rfl T.len cS (ab (pv 0) ah)) ah)))
  (kQ (eK ij (aF aN (aF bo (pv 0) (pv 1) (λ_ _=>rfl)) ao (λ_ _=>rfl)) (pv 2) (bu _))))),?_⟩
 have ll:=aY b9;have lk:=(bq.mp hk).1;obtain⟨r,er,p,v1,v2⟩:=Paired.at_ b9 k ru hk;have tM:jR (rs.map V.ref) (k:Int)=some (.ref r):=bS (by rw [bh,er];rfl);refine⟨_,rfl,_,rfl,R,_,rfl,.inl hR,k,(rs.map V.ref).length,rfl,by rw [au];omega,true,rfl,?_⟩;refine g6 ?_;exact⟨_,rfl,_,rfl,R,_,_,_,rfl,rfl,hR,tM,r,_,_,_,rfl,rfl,v1,rfl,_,rfl,rfl,q⟩
def JH (K:a9):Sp:=λvs H Q _=>∃(R:Addr)(rs:List Addr)(aa:List aw)(v:V)(x:Str),vs=[.ref R,v,.str x]/\aI K H R (rs.map V.ref)/\bH K H rs aa /\
 ((∃z,v=.str z/\Q (.bl false) H)\/∃(a p:Addr) (k:Nat)(us:List V)(ru:aw),v=.ref a/\aQ K H a [.int (k:Int),.ref p]/\aQ K H p us/\aa[k]?=some ru/\((ru.1≠x/\Q (.bl false) H)\/(ru.1=x/\us.length=ru.2.length/\Q (.bl true) H)))
def OV:aK ["rules","tree","name"] ["rules","tree","name"] (av Lk):=iq rfl rfl rfl rfl (by decide +kernel)
def LP (F:g9 K "is_top_of" "is_top_of" Lk f fd)(T:Txt mg)(GR:aB P w K mg base 2 "is_rule_of" ["rules","number","name"] (wX K)):bN P w K mg base fj 3 f fd ["rules","tree","name"] (JH K):=by
 refine F.ok OV (λvs H Q E h=>?_) (λdU A outer s H vs Q E hr h=>?_)
 .obtain⟨R,rs,aa,v,x,rfl,_⟩:=h;rfl
 obtain⟨R,rs,aa,v,x,rfl,hR,b9,hc⟩:=h;refine⟨_,ai (bw (PW.pt (jt (cX (aD cv rfl T.CJ jm (ab (pv 1) (ab (fK (v:=.ty "str") rfl T.str iS rfl) ah))))
   (ip (gi (cX (a8 GR hr rfl (ab (pv 0) (ab (aF aN (pv 1) ao (λ_ _=>rfl)) (ab (pv 2) ah))))))))) (ak (aL dH)) aM)
  (ak (aL (eK ij (aD aG rfl T.len cS (ab (aF aN (pv 1) ao (λ_ _=>rfl)) ah))
   (aD aG rfl T.len cS (ab (aF aN (aF bo (pv 0) (aF aN (pv 1) ao (λ_ _=>rfl)) (λ_ _=>rfl)) ao (λ_ _=>rfl)) ah)) (bu _)))),?_⟩
 rcases hc with ⟨z,rfl,q⟩ | ⟨a,p,k,us,ru,rfl,ha,hp,hk,hc⟩
 .refine⟨_,rfl,.str z,"str","str",true,rfl,.str z,fu,true,rfl,?_⟩;refine g6 ?_;exact q
 refine⟨_,rfl,.ref a,"tuple","str",false,rfl,.tup ha,pD,false,rfl,?_⟩;refine c_ ?_;have ll:=aY b9;have lk:=(bq.mp hk).1;obtain⟨r,er,p2,v1,v2⟩:=Paired.at_ b9 k ru hk;have tM:jR (rs.map V.ref) (k:Int)=some (.ref r):=bS (by rw [bh,er];rfl);refine⟨_,rfl,_,rfl,a,_,_,_,rfl,rfl,ha,rfl,_,rfl,R,rs,aa,k,x,ru,rfl,hR,b9,hk,?_⟩;rcases hc with ⟨ne,q⟩ | ⟨e,el,q⟩
 .rw [di (λz=>ne (by injection z))];refine⟨false,rfl,?_⟩;refine g6 ?_;exact q
 rw [bV (by rw [e])];refine⟨true,rfl,?_⟩;refine c_ ?_;refine⟨_,rfl,a,_,_,_,rfl,rfl,ha,rfl,p,us,rfl,.inr hp,_,rfl,_,rfl,a,_,_,_,rfl,rfl,ha,rfl,R,_,_,_,rfl,rfl,hR,tM,r,_,_,_,rfl,rfl,v1,rfl,p2,_,rfl,.inr v2,rfl,?_⟩;rw [au,el,bV rfl];exact q
end
mutual
inductive Tr
 | w (z:Str)
 | n (k:Nat)(cs:jD)
inductive jD
 | nil
 | cons (t:Tr)(r:jD)
end
def jD.kN:jD->List Tr
 | .nil=>[]
 | .cons t r=>t::r.kN
mutual
def fU (K:a9)(H:Hp):Tr->V->Prop
 | .w z,v=>v=.str z
 | .n k cs,v=>∃a p vs,v=.ref a/\aQ K H a [.int (k:Int),.ref p]/\aQ K H p vs/\gP K H cs vs
def gP (K:a9)(H:Hp):jD->List V->Prop
 | .nil,vs=>vs=[]
 | .cons t r,vs=>∃v yO,vs=v::yO/\fU K H t v/\gP K H r yO
end
mutual
def row:Tr->List Str
 | .w z=>[z]
 | .n _ cs=>rows cs
def rows:jD->List Str
 | .nil=>[]
 | .cons t r=>row t++rows r
end
mutual
def sz:Tr->Nat
 | .w _=>1
 | .n _ cs=>1+AV cs
def AV:jD->Nat
 | .nil=>0
 | .cons t r=>sz t+AV r
end
mutual
def dp:Tr->Nat
 | .w _=>0
 | .n _ cs=>1+DN cs
def DN:jD->Nat
 | .nil=>0
 | .cons t r=>max (dp t) (DN r)
end
mutual
def Is (aa:List aw):Tr->Str->Prop
 | .w z,x=>x=z/\z∉hd aa
 | .n k cs,x=>∃bG,aa[k]?=some (x,bG)/\DU aa cs bG
def DU (aa:List aw):jD->List Str->Prop
 | .nil,ps=>ps=[]
 | .cons t r,ps=>∃p JU,ps=p::JU/\Is aa t p/\DU aa r JU
end
section
variable {K:a9}
mutual
theorem fU.keep {H H':Hp}(k:∀a xs,aQ K H a xs->aQ K H' a xs):∀(t:Tr){v:V},fU K H t v->fU K H' t v
 | .w z,v,h=>by unfold fU at *;exact h
 | .n m cs,v,h=>by
  unfold fU at *;obtain⟨a,p,vs,e,h1,h2,h3⟩:=h;exact⟨a,p,vs,e,k _ _ h1,k _ _ h2,gP.keep k cs h3⟩
theorem gP.keep {H H':Hp}(k:∀a xs,aQ K H a xs->aQ K H' a xs):∀(ts:jD){vs:List V},gP K H ts vs->gP K H' ts vs
 | .nil,vs,h=>by unfold gP at *;exact h
 | .cons t r,vs,h=>by
  unfold gP at *;obtain⟨v,yO,e,h1,h2⟩:=h;exact⟨v,yO,e,fU.keep k t h1,gP.keep k r h2⟩
end
theorem gP.paired {H:Hp}:∀(ts:jD){vs:List V},gP K H ts vs->Paired (λv t=>fU K H t v) vs ts.kN
 | .nil,vs,h=>by unfold gP at h;subst h;exact .nil
 | .cons t r,vs,h=>by
  unfold gP at h;obtain⟨v,yO,rfl,h1,h2⟩:=h;exact .cons h1 (gP.paired r h2)
theorem xm:∀ts:jD,rows ts=ts.kN.flatMap row
 | .nil=>by unfold rows;rfl
 | .cons t r=>by unfold rows;rw [xm r];rfl
theorem vp:∀ts:jD,AV ts=(ts.kN.map sz).sum
 | .nil=>by unfold AV;rfl
 | .cons t r=>by unfold AV;rw [vp r];rfl
def rC:∀t:Tr,1<=sz t
 | .w _=>by unfold sz;exact aH _
 | .n _ cs=>by unfold sz;omega
theorem DU.paired {aa:List aw}:∀(ts:jD){ps:List Str},DU aa ts ps->ts.kN.length=ps.length/\∀(j:Nat) t p,ts.kN[j]?=some t->ps[j]?=some p->Is aa t p
 | .nil,ps,h=>by
  unfold DU at h;subst h;exact⟨rfl,λj t p e=>by simp [jD.kN] at e⟩
 | .cons t r,ps,h=>by
  unfold DU at h;obtain⟨p,JU,rfl,h1,h2⟩:=h;obtain⟨a,b⟩:=DU.paired r h2;refine⟨by show r.kN.length+1=JU.length+1;omega,λj u q e1 e2=>?_⟩;cases j with
  | zero=>cases e1;cases e2;exact h1
  | succ j=>exact b j u q e1 e2
theorem Gy:∀(ts:jD)(t:Tr),t∈ts.kN->dp t<=DN ts
 | .nil,t,h=>by cases h
 | .cons u r,t,h=>by
  unfold DN;rcases cz.mp h with e | e
  .rw [e];omega
  have:=Gy r t e;omega
end
section
def qb {α β:Type}{F:α->β->Prop}{us:List α}{ts:List β}(p:Paired F us ts)(h:us≠[]):∃gS u fA t,us=gS++[u]/\ts=fA++[t]/\Paired F gS fA/\F u t:=by
 have p2:=Paired.Cc p;have hr:us.reverse≠[]:=λz=>h (List.reverse_eq_nil_iff.mp z);generalize e1:us.reverse=AM at p2 hr;generalize e2:ts.reverse=tJ at p2;cases p2 with
 | nil=>exact absurd rfl hr
 | @cons u t Dz Rm a b =>
  refine⟨Dz.reverse,u,Rm.reverse,t,?_,?_,Paired.Cc b,a⟩
  .rw [<-u9 us,e1,mi]
  rw [<-u9 ts,e2,mi]
theorem Paired.Nk {α β:Type}{F:α->β->Prop}:∀{xs:List α}{ys:List β}{Dy:List α}{Om:List β},Paired F xs ys->Paired F Dy Om->Paired F (xs++Dy) (ys++Om)
 | _,_,_,_,.nil,h=>h
 | _,_,_,_,.cons a b,h=>.cons a (Paired.Nk b h)
def rT {us:List V}{u:V}:(us++[u])[(us++[u]).length - 1]?=some u:=by
 rw [bL];simp
def A7 (K:a9):Sp:=λvs H Q _=>∃(v:V)(t:Tr),vs=[v]/\fU K H t v/\sz t<=1000000/\∀D H',H D=none->aC H H'->H' D=some (.lst ((row t).map V.str))->Q (.ref D) H'
def qE:aK ["tree","row","waiting","one"] ["tree"] (av ze):=iq rfl rfl rfl rfl (by decide +kernel)
def Fj (F:g9 K "row_of" "row_of" ze f fd)(T:Txt mg):bN P w K mg base fj 1 f fd ["tree"] (A7 K):=by
 refine F.ok qE (λvs H Q E h=>?_) (λdU A outer s H vs Q E hr h=>?_)
 .obtain⟨v,t,rfl,_⟩:=h;rfl
 obtain⟨v,t,rfl,ht,hsz,q⟩:=h;refine⟨_,ai (aA (i:=1) qE.nd rfl (bx rfl) (bc ah))
  (ai (aA (i:=2) qE.nd rfl (bx rfl) (bc (ab (pv 0) ah)))
  (ai (iK bZ (gF (pv 2) (λ_=>rfl))
   (ai (aA (i:=3) qE.nd rfl (bx rfl) (zJ eF PySem.F.slot_list_pop PySem.F.type_list_pop zV (pv 2)))
   (ak (bw (cX (aD cv rfl T.CJ jm (ab (pv 3) (ab (fK (v:=.ty "str") rfl T.str iS rfl) ah))))
    (ak (bW (fq eF fY fZ bJ (pv 1) (ab (pv 3) ah))))
    (ak (bW (fq eF PySem.F.slot_list_extend PySem.F.type_list_extend zW (pv 2) (ab (E5 (aF aN (pv 3) ao (λ_ _=>rfl))) ah))))))))
  (ak (aL (pv 1))))),?_⟩
 nofun
 refine⟨o6,λL hL=>?_⟩;have s1:=af hL (.lst []);have e1:upd H L (.lst []) L=some (.lst []):=ae;generalize upd H L (.lst [])=H1 at s1 e1;refine⟨_,rfl,vi,λW hW=>?_⟩;have s2:=s1.trans (af hW (.lst [v]));have e2:=af hW (.lst [v]) _ _ e1;have fW:H W=none:=s1.free hW;have nW:W≠L:=λz=>by rw [z,e1] at hW;cases hW
 have e3:upd H1 W (.lst [v]) W=some (.lst [v]):=ae;generalize upd H1 W (.lst [v])=H2 at s2 e2 e3;refine⟨λm σ H5=>∃(zs:List Str)(us:List V)(ts:List Tr)(y:Option V),σ=[some v,aP L,aP W,y]/\aC H H5/\H5 L=some (.lst (zs.map V.str))/\H5 W=some (.lst us)/\Paired (λv t=>fU K H5 t v) us ts/\zs++ts.reverse.flatMap row=row t/\m=(ts.map sz).sum/\zs.length+m<=sz t,
  ⟨sz t,[],[v],[t],none,rfl,s2,e2,e3,.cons (fU.keep (λ_ _ z=>s2.tup z) t ht) .nil,by simp,by simp,by simp⟩,?_⟩
 rintro m σ H5 ⟨zs,us,ts,y,rfl,sm,eL,eW,pr,er,em,ez⟩;have lp:=aY pr;refine⟨_,rfl,!us.isEmpty,?_,?_⟩
 .exact .inl ⟨us,aI.of eW,rfl⟩
 refine bY (λc=>?_) (λc=>?_)
 .obtain⟨gS,u,fA,t0,rfl,rfl,TM,h0⟩:=qb pr (λz=>by rw [z] at c;cases c);rw [bF,List.sum_append] at em;simp only [cq,jF,jW,List.sum_nil] at em;rw [List.reverse_append,List.reverse_singleton] at er;have sp:=rC t0;refine⟨_,λ_ _ h=>h,?_⟩;refine⟨_,rfl,.inl ⟨rfl,_,aI.of eW⟩,W,_,u,rfl,rfl,eW,rT,?_⟩;rw [List.dropLast_concat];have QR:upd H5 W (.lst gS) L=some (.lst (zs.map V.str)):=by rw [aj (cO nW)];exact eL
  have kc:aC H (upd H5 W (.lst gS)):=λb o hb=>by rw [aj (λz=>by rw [z,fW] at hb;cases hb)];exact sm b o hb
  have tk:∀a xs,aQ K H5 a xs->aQ K (upd H5 W (.lst gS)) a xs:=λa xs z=>aT eW z;have h1:=fU.keep tk t0 h0;have Iq:Paired (λv t=>fU K (upd H5 W (.lst gS)) t v) gS fA:=Paired.dI TM λv t z=>fU.keep tk t z;have Hy:upd H5 W (.lst gS) W=some (.lst gS):=ae;generalize upd H5 W (.lst gS)=H6 at QR kc h1 Iq Hy;cases t0 with
  | w z =>
   unfold fU at h1;subst h1;refine⟨_,rfl,.str z,"str","str",true,rfl,.str z,fu,true,rfl,?_⟩;refine g6 ?_;refine⟨_,rfl,.inl ⟨rfl,_,aI.of QR⟩,_,rfl,L,_,_,rfl,rfl,QR,bK (by rw [au];omega),?_⟩;have e7:(sz (.w z))=1:=by unfold sz;rfl
   refine⟨(fA.map sz).sum,∅,zs++[z],gS,fA,_,rfl,λb o hb=>?_,by rw [ae,bF];rfl,by rw [aj nW];exact Hy,Paired.dI Iq λv t z=>fU.keep (λa xs z=>aT QR z) t z,?_,rfl,by rw [bL];simp;omega⟩
   .rw [aj (λz=>by rw [z,hL] at hb;cases hb)];exact kc b o hb
   rw [<-er,kr]
   congr 1
  | n k cs =>
   unfold fU at h1;obtain⟨a,p,vs,rfl,ha,hp,CU⟩:=h1;refine⟨_,rfl,.ref a,"tuple","str",false,rfl,.tup ha,pD,false,rfl,?_⟩;refine c_ ?_;have JW:=gP.paired cs CU;have lcs:=aY JW;have e7:sz (.n k cs)=1+(cs.kN.map sz).sum:=by unfold sz;rw [vp]
   have Hh:∀l:List Tr,l.length<=(l.map sz).sum:=λl=>by
    induction l with
    | nil=>exact aH _
    | cons x r ih =>
     have:=rC x;rw [cq,jW,dM];omega
   have l1:=Hh cs.kN;have l2:=Hh fA;have l3:=aY Iq;refine⟨_,rfl,.inl ⟨rfl,_,aI.of Hy⟩,_,rfl,a,_,_,_,rfl,rfl,ha,rfl,p,vs,rfl,hp,λp2 oB=>?_⟩;have s7:=af oB (.tup vs.reverse);have e8:aQ K (upd H6 p2 (.tup vs.reverse)) p2 vs.reverse:=aQ.of ae;generalize upd H6 p2 (.tup vs.reverse)=H7 at s7 e8;refine⟨W,p2,gS,vs.reverse,rfl,rfl,s7 _ _ Hy,e8,fits (by rw [pY];omega),?_⟩;have QQ:=s7 _ _ Hy;refine⟨(fA.map sz).sum+(cs.kN.map sz).sum,∅,zs,gS++vs.reverse,fA++cs.kN.reverse,_,rfl,λb o hb=>?_,by rw [aj (cO nW)];exact s7 _ _ QR,ae,?_,?_,?_,∅⟩
   .rw [aj (λz=>by rw [z,fW] at hb;cases hb)];exact s7 _ _ (kc b o hb)
   .exact Paired.dI (Paired.Nk Iq (Paired.Cc JW)) λv t z=>fU.keep (λa xs z=>aT QQ (s7.tup z)) t z
   .rw [<-er]
    congr 1
    rw [List.reverse_append,u9,jY,List.singleton_append,q_]
    congr 1
    unfold row;rw [xm]
   rw [bF,List.sum_append,List.map_reverse,List.sum_reverse]
 have e0:us=[]:=by
  cases us with
  | nil=>rfl
  | cons _ _=>exact absurd rfl c
 subst e0;cases pr;rw [List.reverse_nil,List.flatMap_nil,ir] at er;refine⟨_,rfl,q L H5 hL sm ?_⟩;rw [<-er];exact eL
end
theorem xX:∀(hs bz:List Str)(x:Str),x∈tL bz hs↔x∈bz\/x∈hs
 | [],bz,x=>by simp [tL]
 | h::r,bz,x=>by
  show x∈tL (gO bz h) r↔_;rw [xX r,cz];unfold gO;by_cases c:h∈bz
  .rw [ax c];constructor
   .rintro(a | a)
    .exact .inl a
    exact .inr (.inr a)
   rintro(a | a | a)
   .exact .inl a
   .exact .inl (a ▸ c)
   exact .inr a
  rw [az c,cA,bU];constructor
  .rintro((a | a) | a)
   .exact .inl a
   .exact .inr (.inl a)
   exact .inr (.inr a)
  rintro(a | a | a)
  .exact .inl (.inl a)
  .exact .inl (.inr a)
  exact .inr a
def Mu {aa:List aw}{x:Str}:x∈hd aa↔∃ru∈aa,ru.1=x:=by
 unfold hd;rw [xX];constructor
 .rintro(h | h)
  .cases h
  obtain⟨ru,a,b⟩:=cP.mp h;exact⟨ru,a,b⟩
 rintro⟨ru,a,b⟩;exact .inr (cP.mpr ⟨ru,a,b⟩)
section
def BS (aa:List aw)(t:Tr)(x:Str):Prop:=(∃z,t=.w z)\/∃k cs ru,t=.n k cs/\aa[k]?=some ru/\ru.1≠x
def Jv (aa:List aw)(t:Tr)(x:Str)(b:Bool):Prop:=(x∉hd aa/\b=false)\/(x∈hd aa/\((Is aa t x/\b=true)\/(BS aa t x/\b=false)))
def A6 (K:a9):Sp:=λvs H Q _=>∃(R:Addr)(rs:List Addr)(aa:List aw)(v:V)(t:Tr)(x:Str)(b:Bool),vs=[.ref R,v,.str x]/\aI K H R (rs.map V.ref)/\bH K H rs aa/\aa.length<=1000/\fU K H t v/\sz t<=1000000/\Jv aa t x b/\∀H',aC H H'->Q (.bl b) H'
def qD:aK ["rules","tree","name","heads","waiting","pair"] ["rules","tree","name"] (av zd):=iq rfl rfl rfl rfl (by decide +kernel)
def Fi (F:g9 K "tree_stands" "tree_stands" zd f fd)(T:Txt mg)(hZ:mg "zip"=none)(GH:aB P w K mg base 3 "heads_of" ["rules"] (iW K))(GT:aB P w K mg base 3 "is_top_of" ["rules","tree","name"] (JH K)):bN P w K mg base fj 4 f fd ["rules","tree","name"] (A6 K):=by
 refine F.ok qD (λvs H Q E h=>?_) (λdU A outer s H vs Q E hr h=>?_)
 .obtain⟨R,rs,aa,v,t,x,b,rfl,_⟩:=h;rfl
 obtain⟨R,rs,aa,v,t,x,b,rfl,hR,b9,br,ht,hsz,vd,q⟩:=h;have hu:=fR hr;refine⟨_,ai (aA (i:=3) qD.nd rfl (bx rfl) (bD (dC rfl) rfl T.yD eY (ab (bE ["head"] [] rfl (aZ (a8 GH hr rfl (ab (pv 0) ah))) (bp rfl rfl) (by decide +kernel) rfl (by decide +kernel)
   (λ_ _ _ _ _=>aq (i:=0) (show (["head"]:List Str).Nodup by decide +kernel) rfl (bx rfl)) (λ_ _ _ _ _=>bX) (λ_ _ _ _ _=>bC (ab (pv 0) (ab dH ah)))) ah)))
  (ai (bw (cY (dY hu (pv 2) (pv 3))) (ak (aL dH)) aM)
  (ai (aA (i:=4) qD.nd rfl (bx rfl) (bc (ab (bC (ab (pv 1) (ab (pv 2) ah))) ah)))
  (ai (iK bZ (gF (pv 4) (λ_=>rfl))
   (ai (aA (i:=5) qD.nd rfl (bx rfl) (zJ eF PySem.F.slot_list_pop PySem.F.type_list_pop zV (pv 4)))
   (ak (bw (cY (jM hu (aF aN (pv 5) ao (λ_ _=>rfl)) (pv 3)))
    (ai (bw (gi (cX (a8 GT hr rfl (ab (pv 0) (ab (aF aN (pv 5) ao (λ_ _=>rfl)) (ab (aF aN (pv 5) ao (λ_ _=>rfl)) ah)))))) (ak (aL dH)) aM)
    (ak (bW (fq eF PySem.F.slot_list_extend PySem.F.type_list_extend Cz (pv 4) (ab (zG rfl rfl T.lst rfl hZ (ab (aF aN (aF aN (pv 5) ao (λ_ _=>rfl)) ao (λ_ _=>rfl))
     (ab (aF aN (aF bo (pv 0) (aF aN (aF aN (pv 5) ao (λ_ _=>rfl)) ao (λ_ _=>rfl)) (λ_ _=>rfl)) ao (λ_ _=>rfl)) ah))) ah)))))
    (ak (bw (aV uq (aF aN (pv 5) ao (λ_ _=>rfl)) (aF aN (pv 5) ao (λ_ _=>rfl)) (bu _)) (ak (aL dH)) aM))))))
  (ak (aL dH))))),?_⟩
 nofun
 refine⟨_,rfl,R,rs,aa,rfl,hR,b9,br,λD1 H1 f1 s1 e1=>?_⟩;have FK:=hU (aa.map (·.1)) [];simp only [iU,au] at FK;refine⟨D1,rfl,⟨_,aI.of e1⟩,λD2 i8=>kZ (aI.of e1) ∅ i8 λts H2 s2 e2 p2=>?_⟩;have kp:Paired (λt (kv:aS×V)=>aQ K H2 t [kV kv.1,kv.2]) ts ((hd aa).map λh=>((Sum.inr h:aS),V.bl true)):=cu p2 λ_ _ z=>z;refine⟨D2,ts,_,rfl,e2,kp,λd qK=>?_⟩;have CA:∀z,(bA (cJ ((hd aa).map λh=>((Sum.inr h:aS),V.bl true)) []) (Sum.inr z)).isSome=decide (z∈hd aa):=λz=>by
  rw [kK];by_cases c:z∈hd aa
  .rw [ax c,bV c];rfl
  rw [az c,di c];rfl
 generalize cJ ((hd aa).map λh=>((Sum.inr h:aS),V.bl true)) []=kE at CA;have s3:=(s1.trans s2).trans (af qK (.dK kE));have e3:upd H2 d (.dK kE) d=some (.dK kE):=ae;generalize upd H2 d (.dK kE)=H3 at s3 e3;refine⟨_,rfl,_,rfl,d,_,rfl,cy.k (k:=Sum.inr x) e3,_,rfl,?_⟩;rw [CA];refine bY (λc=>?_) (λc=>?_)
 .have nx:x∉hd aa:=by simpa using c
  rcases vd with ⟨_,rfl⟩ | ⟨h,_⟩
  .exact q H3 s3
  exact absurd h nx
 have hx:x∈hd aa:=by simpa using c
 have vd2:(Is aa t x/\b=true)\/(BS aa t x/\b=false):=by
  rcases vd with ⟨h,_⟩ | ⟨_,h⟩
  .exact absurd hx h
  exact h
 refine⟨_,rfl,_,rfl,kb,λr0 F3=>⟨vi,λW hW=>?_⟩⟩;have fW:H W=none:=(s3.trans (af F3 _)).free hW;have s4:=s3.trans ((af F3 (.tup [v,.str x])).trans (af hW (.lst [.ref r0])));have e4:=(af F3 (.tup [v,.str x])).trans (af hW (.lst [.ref r0])) _ _ e3;have v4:aQ K (upd (upd H3 r0 (.tup [v,.str x])) W (.lst [.ref r0])) r0 [v,.str x]:=(af hW _).tup (aQ.of ae);have Zx:upd (upd H3 r0 (.tup [v,.str x])) W (.lst [.ref r0]) W=some (.lst [.ref r0]):=ae;have X3:W≠d:=λz=>by
  have:=(af F3 (.tup [v,.str x])) _ _ e3;rw [<-z,hW] at this;cases this
 generalize upd (upd H3 r0 (.tup [v,.str x])) W (.lst [.ref r0])=H4 at s4 e4 v4 Zx;refine⟨λm σ H5=>∃(us:List Addr)(ts:List (Tr×Str))(y:Option V),σ=[aP R,some v,some (.str x),aP d,aP W,y]/\aC H H5/\H5 d=some (.dK kE)/\H5 W=some (.lst (us.map V.ref))/\Paired (λr (p:Tr×Str)=>∃v,aQ K H5 r [v,.str p.2]/\fU K H5 p.1 v) us ts /\
   (((∀p∈ts,Is aa p.1 p.2)/\b=true)\/(ts=[(t,x)]/\BS aa t x/\b=false))/\m=(ts.map λp=>sz p.1).sum/\m<=sz t,
  ⟨sz t,[r0],[(t,x)],none,rfl,s4,e4,Zx,.cons ⟨v,v4,fU.keep (λ_ _ z=>s4.tup z) t ht⟩ .nil,?_,by simp,aH _⟩,?_⟩
 .rcases vd2 with ⟨h,e⟩ | ⟨h,e⟩
  .exact .inl ⟨λp hp=>by rw [bU.mp hp];exact h,e⟩
  exact .inr ⟨rfl,h,e⟩
 rintro m σ H5 ⟨us,ts,y,rfl,sm,e5,eW,pr,jd,em,ez⟩;have lp:=aY pr;refine⟨_,rfl,!us.isEmpty,.inl ⟨us.map V.ref,aI.of eW,by simp⟩,?_⟩;refine bY (λc=>?_) (λc=>?_)
 .obtain⟨gS,r,fA,p0,rfl,rfl,TM,v0,h0,t0v⟩:=qb pr (λz=>by rw [z] at c;cases c);obtain⟨t0,x0⟩:=p0;rw [bF,List.sum_append] at em;simp only [cq,jF,jW,List.sum_nil] at em;have sp:=rC t0;refine⟨_,λ_ _ h=>h,?_⟩;rw [bF] at eW;refine⟨_,rfl,.inl ⟨rfl,_,aI.of eW⟩,W,_,.ref r,rfl,rfl,eW,rT,?_⟩;rw [show (gS.map V.ref++[r].map V.ref).dropLast=gS.map V.ref from List.dropLast_concat];have kc:aC H (upd H5 W (.lst (gS.map V.ref))):=λb o hb=>by rw [aj (λz=>by rw [z,fW] at hb;cases hb)];exact sm b o hb
  have tk:∀a xs,aQ K H5 a xs->aQ K (upd H5 W (.lst (gS.map V.ref))) a xs:=λa xs z=>aT eW z;have h1:=tk _ _ h0;have t1:=fU.keep tk t0 t0v;have Iq:Paired (λr (p:Tr×Str)=>∃v,aQ K (upd H5 W (.lst (gS.map V.ref))) r [v,.str p.2]/\fU K (upd H5 W (.lst (gS.map V.ref))) p.1 v) gS fA:=Paired.dI TM λr p ⟨v,z1,z2⟩=>⟨v,tk _ _ z1,fU.keep tk p.1 z2⟩;have Hy:upd H5 W (.lst (gS.map V.ref)) W=some (.lst (gS.map V.ref)):=ae;have e6:upd H5 W (.lst (gS.map V.ref)) d=some (.dK kE):=by rw [aj (cO X3)];exact e5
  generalize upd H5 W (.lst (gS.map V.ref))=H6 at kc h1 t1 Iq Hy e6;refine⟨_,rfl,r,_,_,_,rfl,rfl,h1,rfl,_,rfl,d,_,rfl,cy.k (k:=Sum.inr x0) e6,_,rfl,?_⟩;rw [CA];have j0:(Is aa t0 x0/\b=true/\∀p∈fA,Is aa p.1 p.2)\/(x0∈hd aa/\BS aa t0 x0/\b=false):=by
   rcases jd with ⟨j,e⟩ | ⟨e1,e2,e3⟩
   .exact .inl ⟨j _ (cA.mpr (.inr (bU.mpr rfl))),e,λp hp=>j p (cA.mpr (.inl hp))⟩
   have:(t0,x0)=(t,x):=by
    have:=congrArg List.getLast? e1;simpa using this
   cases this;exact .inr ⟨hx,e2,e3⟩
  refine bY (λc2=>?_) (λc2=>?_)
  .have hx0:x0∈hd aa:=dq c2;rcases j0 with ⟨j1,j2,j3⟩ | ⟨_,tn,j2⟩
   .cases t0 with
    | w z =>
     unfold Is at j1;exact absurd (j1.1 ▸ hx0) j1.2
    | n k cs =>
     unfold Is at j1;obtain⟨bG,hk,CU⟩:=j1;unfold fU at t1;obtain⟨a,p,vs,rfl,ha,hp,YB⟩:=t1;have JW:=gP.paired cs YB;have lcs:=aY JW;obtain⟨lis,his⟩:=DU.paired cs CU;have lk:=(bq.mp hk).1;have CM:=b9.same kc;obtain⟨rr,er,p2,v1,v2⟩:=Paired.at_ CM k _ hk;have tM:jR (rs.map V.ref) (k:Int)=some (.ref rr):=bS (by rw [bh,er];rfl);have e7:sz (.n k cs)=1+(cs.kN.map sz).sum:=by unfold sz;rw [vp]
     have Hh:∀l:List Tr,l.length<=(l.map sz).sum:=λl=>by
      induction l with
      | nil=>exact aH _
      | cons x r ih =>
       have:=rC x;rw [cq,jW,dM];omega
     have l1:=Hh cs.kN;have l2:=Hh (fA.map (·.1));have l3:=aY Iq;rw [au,iF] at l2;have l2':fA.length<=(fA.map λp=>sz p.1).sum:=l2;refine⟨_,rfl,_,rfl,r,_,_,_,rfl,rfl,h1,rfl,_,rfl,r,_,_,_,rfl,rfl,h1,rfl,R,rs,aa,.ref a,x0,rfl,kc.seq hR,CM,.inr ⟨a,p,k,vs,_,rfl,ha,hp,hk,.inr ⟨rfl,by show vs.length=bG.length;omega,true,rfl,?_⟩⟩⟩;refine c_ ?_;refine⟨_,rfl,.inl ⟨rfl,_,aI.of Hy⟩,_,rfl,r,_,_,_,rfl,rfl,h1,rfl,a,_,_,_,rfl,rfl,ha,rfl,_,rfl,_,rfl,r,_,_,_,rfl,rfl,h1,rfl,a,_,_,_,rfl,rfl,ha,rfl,R,_,_,_,rfl,rfl,kc.seq hR,tM,rr,_,_,_,rfl,rfl,v1,rfl,p,p2,vs,bG.map V.str,rfl,hp,v2,by rw [au];omega,∅,λL tJ H7 fL s7 eL pz=>?_⟩;have QQ:=s7 _ _ Hy;have lz:=aY pz;rw [List.length_zip,au] at lz;refine⟨W,L,_,_,rfl,rfl,QQ,eL,fits (by rw [au,au];omega),?_⟩;rw [<-bF];have k8:∀a xs,aQ K H6 a xs->aQ K (upd H7 W (.lst ((gS++tJ).map V.ref))) a xs:=λa xs z=>aT QQ (s7.tup z);have Tj:((cs.kN.zip bG).map λp=>sz p.1).sum=(cs.kN.map sz).sum:=by
      have:((cs.kN.zip bG).map λp=>sz p.1)=((cs.kN.zip bG).map Prod.fst).map sz:=by rw [iF];rfl
      rw [this,List.map_fst_zip ∅]
     refine⟨(fA.map λp=>sz p.1).sum+(cs.kN.map sz).sum,∅,gS++tJ,fA++cs.kN.zip bG,_,rfl,λb o hb=>?_,by rw [aj (cO X3)];exact s7 _ _ e6,ae,?_,.inl ⟨λpp pH=>?_,j2⟩,by rw [bF,List.sum_append,Tj],∅⟩
     .rw [aj (λz=>by rw [z,fW] at hb;cases hb)];exact s7 _ _ (kc b o hb)
     .refine Paired.Nk (Paired.dI Iq λr p ⟨v,z1,z2⟩=>⟨v,k8 _ _ z1,fU.keep k8 p.1 z2⟩) (ju (by rw [List.length_zip];omega) λj T pp eT ep=>?_);obtain⟨ec,eq⟩:=vh.mp ep;obtain⟨u,eu,tS⟩:=Paired.at_ JW j _ ec;have ezp:(vs.zip (bG.map V.str))[j]?=some (u,.str pp.2):=vh.mpr ⟨eu,by rw [bh,eq];rfl⟩;obtain⟨T',Zy,hT'⟩:=Paired.at_ pz j _ ezp;rw [eT] at Zy;cases Zy;exact⟨u,aT QQ hT',fU.keep k8 pp.1 tS⟩
     rcases cA.mp pH with h | h
     .exact j3 pp h
     obtain⟨j,hj⟩:=iu h;obtain⟨ec,eq⟩:=vh.mp hj;exact his j _ _ ec eq
   rcases tn with ⟨z,rfl⟩ | ⟨k,cs,ru,rfl,hk,ne⟩
   .unfold fU at t1;subst t1;refine⟨_,rfl,_,rfl,r,_,_,_,rfl,rfl,h1,rfl,_,rfl,r,_,_,_,rfl,rfl,h1,rfl,R,rs,aa,.str z,x0,rfl,kc.seq hR,b9.same kc,.inl ⟨z,rfl,false,rfl,?_⟩⟩;refine g6 ?_;subst j2;exact q H6 kc
   unfold fU at t1;obtain⟨a,p,vs,rfl,ha,hp,YB⟩:=t1;refine⟨_,rfl,_,rfl,r,_,_,_,rfl,rfl,h1,rfl,_,rfl,r,_,_,_,rfl,rfl,h1,rfl,R,rs,aa,.ref a,x0,rfl,kc.seq hR,b9.same kc,.inr ⟨a,p,k,vs,ru,rfl,ha,hp,hk,.inl ⟨ne,false,rfl,?_⟩⟩⟩;refine g6 ?_;subst j2;exact q H6 kc
  have XU:x0∉hd aa:=λz=>c2 (bV z);rcases j0 with ⟨j1,j2,j3⟩ | ⟨j1,_⟩
  .cases t0 with
   | n k cs =>
    unfold Is at j1;obtain⟨bG,e,_⟩:=j1;exact absurd (Mu.mpr ⟨_,cf e,rfl⟩) XU
   | w z =>
    unfold Is at j1;unfold fU at t1;obtain⟨rfl,_⟩:=j1;subst t1;refine⟨_,rfl,r,_,_,_,rfl,rfl,h1,rfl,_,rfl,r,_,_,_,rfl,rfl,h1,rfl,rfl,_,rfl,?_⟩;refine bY (λc3=>absurd c3 (by simp)) (λ_=>?_);have e7:sz (.w x0)=1:=by unfold sz;rfl
    exact⟨_,∅,gS,fA,_,rfl,kc,e6,Hy,Iq,.inl ⟨j3,j2⟩,rfl,∅⟩
  exact absurd j1 XU
 have e0:us=[]:=by
  cases us with
  | nil=>rfl
  | cons _ _=>exact absurd rfl c
 subst e0;cases pr;rcases jd with ⟨_,e⟩ | ⟨e,_⟩
 .subst e;exact q H5 sm
 cases e
end
end gK
namespace L2
open PySem
def TJ (K:a9):R2:=λx y H Q=>∃y',y=.str y'/\((∃z,x=.str z/\Q (.bl (decide (V.str z=V.str y'))) H)\/∃a xs,x=.ref a/\aQ K H a xs/\Q (.bl false) H)
def Fc {X:Cx}(hu:X.A.units < cLine):ji X (compareOp .Eq) (TJ X.K):=by
 intro ag s σ H x y v u Q I rx ry h;obtain⟨y',rfl,h⟩:=h;rcases h with ⟨z,rfl,q⟩ | ⟨a,xs,rfl,ha,q⟩
 .exact ij ag s σ H _ _ v u Q I rx ry ⟨rfl,q⟩
 cases rx;obtain⟨t,rfl⟩:=ry;obtain⟨aU,r,pl,hz⟩:=I.tuple ha;exact SeqAt.RcAt.tuple_str y' t pl hu X.prog X.w X.xe _ ⟨.bl false,H,I,rfl,q⟩
end L2
namespace gK
open PySem L2 M11
inductive Dd
 | step (z:Str)
 | make (k:Nat)
def l8 (K:a9)(H:Hp)(a:Addr):Dd->Prop
 | .step z=>aQ K H a [.str "step",.str z]
 | .make k=>aQ K H a [.str "make",.int (k:Int)]
def l8.keep {K:a9}{H H':Hp}(k:∀a xs,aQ K H a xs->aQ K H' a xs){a:Addr}:∀{d:Dd},l8 K H a d->l8 K H' a d
 | .step z,h=>k _ _ h
 | .make _,h=>k _ _ h
mutual
def mM:Tr->List Dd
 | .w z=>[.step z]
 | .n k cs=>qw cs++[.make k]
def qw:jD->List Dd
 | .nil=>[]
 | .cons t r=>mM t++qw r
end
def KH (k:Nat)(cs:jD):mM (.n k cs)=qw cs++[.make k]:=by rw [mM]
theorem ox:∀ts:jD,qw ts=ts.kN.flatMap mM
 | .nil=>by unfold qw;rfl
 | .cons t r=>by unfold qw;rw [ox r];rfl
mutual
theorem qN:∀t:Tr,(mM t).length=sz t
 | .w z=>by unfold mM sz;rfl
 | .n k cs=>by
  unfold mM sz;rw [bL,oy cs,fO];omega
theorem oy:∀ts:jD,(qw ts).length=AV ts
 | .nil=>by unfold qw AV;rfl
 | .cons t r=>by unfold qw AV;rw [bL,qN t,oy r]
end
theorem Hh:∀l:List Tr,l.length<=(l.map sz).sum
 | []=>aH _
 | x::r=>by
  have:=rC x;have:=Hh r;rw [cq,jW,dM];omega
def jD.xu:List Tr->jD
 | []=>.nil
 | t::r=>.cons t (jD.xu r)
theorem AO:∀l:List Tr,(jD.xu l).kN=l
 | []=>rfl
 | t::r=>by show t::(jD.xu r).kN=t::r;rw [AO r]
theorem gP.TY {K:a9}{H:Hp}:∀{vs:List V}{ts:List Tr},Paired (λv t=>fU K H t v) vs ts->gP K H (jD.xu ts) vs
 | _,_,.nil=>by unfold jD.xu gP;rfl
 | _,_,.cons h p=>by unfold jD.xu gP;exact⟨_,_,rfl,h,gP.TY p⟩
def wc (aa:List aw) (k:Nat):Option Str:=aa[k]?.map (·.1)
def gL (aa:List aw)(t:Tr)(part:Str):Bool:=match t with
 | .w z=>!decide (part∈hd aa) && decide (z=part)
 | .n k _=>decide (part∈hd aa) && decide (wc aa k=some part)
def ka (aa:List aw):List Tr->List Str->Bool
 | [],[]=>true
 | t::ts,p::ps=>gL aa t p && ka aa ts ps
 | _,_=>false
def iP (aa:List aw) (k:Nat)(cW:List Tr):Option (List Tr):=match aa[k]? with
 | none=>none
 | some ru=>if (decide (ru.2.length<=cW.length) && ka aa (cW.drop (cW.length - ru.2.length)) ru.2)=true then some (cW.take (cW.length - ru.2.length)++[.n k (jD.xu (cW.drop (cW.length - ru.2.length)))]) else none
def pM (aa:List aw)(cW:List Tr):Dd->Option (List Tr)
 | .step z=>some (cW++[.w z])
 | .make k=>iP aa k cW
def gr (aa:List aw):List Dd->List Tr->Option (List Tr)
 | [],p=>some p
 | d::r,p=>(pM aa p d).bind (gr aa r)
theorem nH (aa:List aw):∀(ds es:List Dd)(p:List Tr),gr aa (ds++es) p=(gr aa ds p).bind (gr aa es)
 | [],es,p=>rfl
 | d::r,es,p=>by
  show (pM aa p d).bind (gr aa (r++es))=((pM aa p d).bind (gr aa r)).bind (gr aa es);cases pM aa p d with
  | none=>rfl
  | some q=>exact nH aa r es q
def xl (aa:List aw)(d:Dd)(p:List Tr):gr aa [d] p=pM aa p d:=by
 show (pM aa p d).bind (gr aa [])=_;cases pM aa p d with
 | none=>rfl
 | some q=>rfl
def tG (aa:List aw):Dd->Prop
 | .step z=>z∉hd aa
 | .make k=>k < aa.length
structure tN (aa:List aw)(ds:List Dd)(cW:List Tr):Prop where
 is:∀t∈cW,∃x,Is aa t x
 dd:cW.flatMap mM=ds
def MS {aa:List aw}{t:Tr}{x p:Str}(h:Is aa t x)(f:gL aa t p=true):Is aa t p:=by
 cases t with
 | w z =>
  unfold gL at f;have f2:=hX.mp f;unfold Is at h ⊢;have e:=dq f2.2;exact⟨e.symm,h.2⟩
 | n k cs =>
  unfold gL at f;have f2:=hX.mp f;unfold Is at h ⊢;obtain⟨bG,e1,e2⟩:=h;have e:=dq f2.2;unfold wc at e;rw [e1] at e;have e3:x=p:=by
   have:some x=some p:=e;injection this
  exact⟨bG,by rw [e1,e3],e2⟩
theorem xP {aa:List aw}:∀(ts:List Tr) (ps:List Str),(∀t∈ts,∃x,Is aa t x)->ka aa ts ps=true->DU aa (jD.xu ts) ps
 | [],[],_,_=>by unfold jD.xu DU;rfl
 | [],_::_,_,f=>by cases f
 | _::_,[],_,f=>by cases f
 | t::ts,p::ps,h,f=>by
  have f2:=hX.mp (show (gL aa t p && ka aa ts ps)=true from f);obtain⟨x,hx⟩:=h t cU;unfold jD.xu DU;exact⟨p,ps,rfl,MS hx f2.1,xP ts ps (λu hu=>h u (dr _ hu)) f2.2⟩
def mw {aa:List aw}{k:Nat}{cW i0:List Tr}(e:iP aa k cW=some i0):∃ru,aa[k]?=some ru/\ru.2.length<=cW.length/\ka aa (cW.drop (cW.length - ru.2.length)) ru.2=true/\i0=cW.take (cW.length - ru.2.length)++[.n k (jD.xu (cW.drop (cW.length - ru.2.length)))]:=by
 unfold iP at e;cases er:aa[k]? with
 | none=>rw [er] at e;cases e
 | some ru =>
  rw [er] at e;have e:(if (decide (ru.2.length<=cW.length) && ka aa (cW.drop (cW.length - ru.2.length)) ru.2)=true then some (cW.take (cW.length - ru.2.length)++[.n k (jD.xu (cW.drop (cW.length - ru.2.length)))]) else none)=some i0:=e;by_cases c:(decide (ru.2.length<=cW.length) && ka aa (cW.drop (cW.length - ru.2.length)) ru.2)=true
  .rw [ax c] at e;obtain⟨c1,c2⟩:=hX.mp c;exact⟨ru,rfl,dq c1,c2,(gR e).symm⟩
  rw [az c] at e;cases e
theorem tN.pM {aa:List aw}{ds:List Dd}{cW i0:List Tr}{d:Dd}(h:tN aa ds cW)(hd2:tG aa d)(e:gK.pM aa cW d=some i0):tN aa (ds++[d]) i0:=by
 cases d with
 | step z =>
  cases (show some (cW++[Tr.w z])=some i0 from e);refine⟨λt ht=>?_,?_⟩
  .rcases cA.mp ht with q | q
   .exact h.is t q
   rw [bU.mp q];exact⟨z,by unfold Is;exact⟨rfl,hd2⟩⟩
  rw [jY,h.dd];simp [mM]
 | make k =>
  obtain⟨ru,er,le,fl,rfl⟩:=mw (show iP aa k cW=some i0 from e);refine⟨λt ht=>?_,?_⟩
  .rcases cA.mp ht with q | q
   .exact h.is t (pZ q)
   rw [bU.mp q];refine⟨ru.1,?_⟩;unfold Is;exact⟨ru.2,er,xP _ _ (λt ht=>h.is t (List.mem_of_mem_drop ht)) fl⟩
  rw [jY,List.flatMap_singleton,KH,ox,AO,<-kr,<-jY,rq,h.dd]
def tN.top {aa:List aw}{ds:List Dd}{cW:List Tr}(h:tN aa ds cW){k:Nat}{cs:jD}(ht:Tr.n k cs∈cW):k < aa.length:=by
 obtain⟨x,hx⟩:=h.is _ ht;unfold Is at hx;obtain⟨bG,e,_⟩:=hx;exact(bq.mp e).1
theorem tN.gr {aa:List aw}:∀{es ds:List Dd}{cW i0:List Tr},tN aa ds cW->(∀d∈es,tG aa d)->gK.gr aa es cW=some i0->tN aa (ds++es) i0
 | [],ds,cW,i0,h,_,e=>by cases e;rw [ir];exact h
 | d::r,ds,cW,i0,h,hd2,e=>by
  have e:(gK.pM aa cW d).bind (gK.gr aa r)=some i0:=e;cases e1:gK.pM aa cW d with
  | none=>rw [e1] at e;cases e
  | some p1 =>
   rw [e1] at e;have:=tN.gr (h.pM (hd2 d cU) e1) (λx hx=>hd2 x (dr _ hx)) e;rw [kr] at this;exact this
def tN.nil {aa:List aw}:tN aa [] []:=⟨λ_ h=>(by cases h),rfl⟩
def HZ:Dd->List Str
 | .step z=>[z]
 | .make _=>[]
mutual
theorem A0:∀t:Tr,(mM t).flatMap HZ=row t
 | .w z=>by unfold mM row;rfl
 | .n k cs=>by
  unfold mM row;rw [jY,wV cs];simp [HZ]
theorem wV:∀ts:jD,(qw ts).flatMap HZ=rows ts
 | .nil=>by unfold qw rows;rfl
 | .cons t r=>by unfold qw rows;rw [jY,A0 t,wV r]
end
mutual
theorem KG:∀t:Tr,dp t<=sz t
 | .w z=>by unfold dp sz;omega
 | .n k cs=>by
  have:=BE cs;unfold dp sz;omega
theorem BE:∀ts:jD,DN ts<=AV ts
 | .nil=>by unfold DN AV;omega
 | .cons t r=>by
  have:=KG t;have:=BE r;unfold DN AV;omega
end
def Ji (o:Option (List Tr)):Option Tr:=match o with
 | some [.n k cs]=>some (.n k cs)
 | _=>none
abbrev vG:Stmt:=top 9
abbrev vO:Stmt:=top 10
abbrev vM:Stmt:=top 11
abbrev vN:Stmt:=top 12
abbrev rQ:Stmt:=top 13
abbrev jT (K:a9)(H:Hp)(us:List V)(ts:List Tr):Prop:=Paired (λv t=>fU K H t v) us ts
theorem jT.keep {K:a9}{H H':Hp}{us:List V}{ts:List Tr}(k:∀a xs,aQ K H a xs->aQ K H' a xs)(h:jT K H us ts):jT K H' us ts:=Paired.dI h λ_ t z=>fU.keep k t z
def jU (H:Hp)(d:Addr)(aa:List aw):Prop:=∃kE,H d=some (.dK kE)/\∀z,(bA kE (Sum.inr z)).isSome=decide (z∈hd aa)
def jU.same {H H':Hp}{d:Addr}{aa:List aw}(h:jU H d aa)(s:aC H H'):jU H' d aa:=let ⟨kE,a,b⟩:=h;⟨kE,s _ _ a,b⟩
theorem jU.upd {H:Hp}{d P:Addr}{aa:List aw}{xs:List V}{o:HO}(h:jU H d aa)(e:H P=some (.lst xs)):jU (upd H P o) d aa:=let ⟨kE,a,b⟩:=h;⟨kE,by rw [aj (λz=>by rw [z,e] at a;cases a)];exact a,b⟩
section
def Bf (K:a9):Sp:=λvs H Q _=>∃(R d:Addr)(rs:List Addr)(aa:List aw)(v:V)(t:Tr)(part:Str),vs=[.ref R,.ref d,v,.str part]/\aI K H R (rs.map V.ref)/\bH K H rs aa/\jU H d aa/\fU K H t v/\(∀k cs,t=.n k cs->k < aa.length)/\Q (.bl (gL aa t part)) H
def Ij:aK ["rules","heads","child","part"] ["rules","heads","child","part"] (av rQ):=iq rfl rfl rfl rfl (by decide +kernel)
def Fw (F:g9 K "is_child" "is_child" rQ f fd)(T:Txt mg):bN P w K mg base fj 1 f fd ["rules","heads","child","part"] (Bf K):=by
 refine F.ok Ij (λvs H Q E h=>?_) (λdU A outer s H vs Q E hr h=>?_)
 .obtain⟨R,d,rs,aa,v,t,part,rfl,_⟩:=h;rfl
 obtain⟨R,d,rs,aa,v,t,part,rfl,hR,b9,⟨kE,wJ,hd2⟩,ht,hk,q⟩:=h;have hu:=fR hr;have UT:=uZ hu;refine⟨_,ai (bw (cY (jM hu (pv 3) (pv 1)))
   (ak (aL (jL (zF (aD cv rfl T.CJ jm (ab (pv 2) (ab (fK (v:=.ty "str") rfl T.str iS rfl) ah))))
    (kQ (eK ij (aF aN (aF bo (pv 0) (aF aN (pv 2) ao (λ_ _=>rfl)) (λ_ _=>rfl)) ao (λ_ _=>rfl)) (pv 3) (bu _)))))) aM)
  (ak (aL (eK (Fc UT) (pv 2) (pv 3) (bu _)))),?_⟩
 nofun
 refine⟨_,rfl,_,rfl,d,_,rfl,cy.k (k:=Sum.inr part) wJ,_,rfl,?_⟩;rw [hd2 part];refine bY (λc=>?_) (λc=>?_)
 .cases t with
  | w z =>
   unfold fU at ht;subst ht;have e:gL aa (.w z) part=false:=by
    unfold gL;rw [c];rfl
   rw [e] at q;refine⟨_,rfl,.str z,"str","str",true,rfl,.str z,fu,true,rfl,false,rfl,?_⟩;refine c_ ?_;exact q
  | n k cs =>
   unfold fU at ht;obtain⟨a,p,us,rfl,ha,hp,_⟩:=ht;have lk:=hk k cs rfl;have er:aa[k]?=some aa[k]:=b_ lk;obtain⟨r,err,p2,v1,v2⟩:=Paired.at_ b9 k _ er;have tM:jR (rs.map V.ref) (k:Int)=some (.ref r):=bS (by rw [bh,err];rfl);have e:gL aa (.n k cs) part=decide (V.str aa[k].1=V.str part):=by
    have eh:wc aa k=some aa[k].1:=by unfold wc;rw [er];rfl
    show (decide (part∈hd aa) && decide (wc aa k=some part))=_;rw [c,eh];rw [jb];by_cases h:aa[k].1=part
    .rw [bV (congrArg some h),bV (congrArg V.str h)]
    rw [di (λz=>h (gR z)),di (λz=>h (by injection z))]
   rw [e] at q;refine⟨_,rfl,.ref a,"tuple","str",false,rfl,.tup ha,pD,false,rfl,true,rfl,?_⟩;refine g6 ?_;exact⟨_,rfl,_,rfl,a,_,_,_,rfl,rfl,ha,rfl,R,_,_,_,rfl,rfl,hR,tM,r,_,_,_,rfl,rfl,v1,rfl,_,rfl,rfl,q⟩
 have c':decide (part∈hd aa)=false:=by simpa using c
 cases t with
 | w z =>
  unfold fU at ht;subst ht;have e:gL aa (.w z) part=decide (V.str z=V.str part):=by
   unfold gL;rw [c'];show (true && decide (z=part))=_;rw [jb];by_cases h:z=part
   .rw [bV h,bV (congrArg V.str h)]
   rw [di h,di (λy=>h (by injection y))]
  rw [e] at q;exact⟨_,rfl,_,rfl,part,rfl,.inl ⟨z,rfl,q⟩⟩
 | n k cs =>
  unfold fU at ht;obtain⟨a,p,us,rfl,ha,hp,_⟩:=ht;have e:gL aa (.n k cs) part=false:=by
   unfold gL;rw [c'];rfl
  rw [e] at q;exact⟨_,rfl,_,rfl,part,rfl,.inr ⟨a,_,rfl,ha,q⟩⟩
def wZ (K:a9):Sp:=λvs H Q _=>∃(d Pl:Addr)(aa:List aw)(us:List V)(z:Str),vs=[.ref d,.ref Pl,.str z]/\jU H d aa/\H Pl=some (.lst us)/\us.length<=1000/\z∉hd aa/\Q (.bl true) (upd H Pl (.lst (us++[.str z])))
def Ex:aK ["heads","pile","word"] ["heads","pile","word"] (av vM):=iq rfl rfl rfl rfl (by decide +kernel)
def Cr (F:g9 K "do_step" "do_step" vM f fd)(T:Txt mg):bN P w K mg base fj 1 f fd ["heads","pile","word"] (wZ K):=by
 refine F.ok Ex (λvs H Q E h=>?_) (λdU A outer s H vs Q E hr h=>?_)
 .obtain⟨d,Pl,aa,us,z,rfl,_⟩:=h;rfl
 obtain⟨d,Pl,aa,us,z,rfl,⟨kE,wJ,hd2⟩,hP,hl,hz,q⟩:=h;have hu:=fR hr;refine⟨_,ai (bw (PW.pt (jt (gi (cX (aD cv rfl T.CJ jm (ab (pv 2) (ab (fK (v:=.ty "str") rfl T.str iS rfl) ah)))))
   (ip (cY (jM hu (pv 2) (pv 0)))))) (ak (aL dH)) aM)
  (ai (bW (fq eF fY fZ bJ (pv 1) (ab (pv 2) ah)))
  (ak (aL dH))),?_⟩
 nofun
 refine⟨_,rfl,.str z,"str","str",true,rfl,.str z,fu,true,rfl,?_⟩;refine c_ ?_;refine⟨_,rfl,_,rfl,d,_,rfl,cy.k (k:=Sum.inr z) wJ,_,rfl,?_⟩;rw [hd2 z,di hz];refine c_ ?_;exact⟨_,rfl,.inl ⟨rfl,_,aI.of hP⟩,_,rfl,Pl,_,_,rfl,rfl,hP,bK ∅,q⟩
theorem wm {aa:List aw}:∀{ts:List Tr}{ps:List Str}{i:Nat}{t:Tr}{p:Str},ka aa ts ps=true->ts[i]?=some t->ps[i]?=some p->gL aa t p=true
 | [],[],_,_,_,_,e,_=>by cases e
 | [],_::_,_,_,_,f,_,_=>by cases f
 | _::_,[],_,_,_,f,_,_=>by cases f
 | a::ts,b::ps,0,t,p,f,e1,e2=>by
  have f2:=hX.mp (show (gL aa a b && ka aa ts ps)=true from f);cases e1;cases e2;exact f2.1
 | a::ts,b::ps,i+1,t,p,f,e1,e2=>by
  have f2:=hX.mp (show (gL aa a b && ka aa ts ps)=true from f);exact wm f2.2 e1 e2
theorem wk {aa:List aw}:∀{ts:List Tr}{ps:List Str},ts.length=ps.length->(∀(i:Nat) t p,ts[i]?=some t->ps[i]?=some p->gL aa t p=true)->ka aa ts ps=true
 | [],[],_,_=>rfl
 | [],_::_,e,_=>by cases e
 | _::_,[],e,_=>by cases e
 | a::ts,b::ps,e,h=>by
  show (gL aa a b && ka aa ts ps)=true;rw [h 0 a b rfl rfl,wk (Nat.succ.inj e) λi t p e1 e2=>h (i+1) t p e1 e2];rfl
end
theorem kR {α β:Type}{F:α->β->Prop}:∀{xs:List α}{ys:List β},Paired F xs ys->∀n,Paired F (xs.take n) (ys.take n)
 | _,_,_,0=>by rw [oN,oN];exact .nil
 | _,_,.nil,_+1=>.nil
 | _,_,.cons a b,n+1=>.cons a (kR b n)
theorem kS {α β:Type}{F:α->β->Prop}:∀{xs:List α}{ys:List β},Paired F xs ys->∀n,Paired F (xs.drop n) (ys.drop n)
 | _,_,h,0=>h
 | _,_,.nil,_+1=>.nil
 | _,_,.cons a b,n+1=>kS b n
def B6 {α:Type}{us:List α}{n:Nat}(h:n < us.length):us.take (n+1)=us.take n++[us[n]]:=by
 rw [cR,b_ h];rfl
section
structure W3 (K:a9)(H:Hp)(R d Pl:Addr)(rs:List Addr)(aa:List aw)(us:List V)(ts:List Tr):Prop where
 hR:H R=some (.lst (rs.map V.ref))
 b9:bH K H rs aa
 wJ:jU H d aa
 hP:H Pl=some (.lst us)
 pl:jT K H us ts
 BD:us.length<=1000
 nR:R≠Pl
 sh:∀ru∈aa,ru.2.length<=8
 sr:aa.length<=1000
 top:∀j cs,Tr.n j cs∈ts->j < aa.length
def w5 (K:a9):Sp:=λvs H Q _=>∃(R d Pl:Addr)(rs:List Addr)(aa:List aw)(us:List V)(ts:List Tr) (k:Nat),vs=[.ref R,.ref d,.ref Pl,.int (k:Int)]/\W3 K H R d Pl rs aa us ts/\k < aa.length /\
 (∀H',dZ Pl H H'->iP aa k ts=none->Q (.bl false) H')/\(∀H' gS fA,dZ Pl H H'->iP aa k ts=some fA->H' Pl=some (.lst gS)->jT K H' gS fA->gS.length<=us.length+1->Q (.bl true) H')
def rO:aK ["rules","heads","pile","number","children","part"] ["rules","heads","pile","number"] (av vN):=iq rfl rfl rfl rfl (by decide +kernel)
def Cs (F:g9 K "do_make" "do_make" vN f fd)(T:Txt mg)(GB:aB P w K mg base 1 "is_number_below" ["number","many"] vv)(GC:aB P w K mg base 1 "is_child" ["rules","heads","child","part"] (Bf K)):bN P w K mg base fj 2 f fd ["rules","heads","pile","number"] (w5 K):=by
 refine F.ok rO (λvs H Q E h=>?_) (λdU A outer s H vs Q E hr h=>?_)
 .obtain⟨R,d,Pl,rs,aa,us,ts,k,rfl,_⟩:=h;rfl
 obtain⟨R,d,Pl,rs,aa,us,ts,k,rfl,M,lk,q0,q1⟩:=h;refine⟨_,ai (bw (gi (cX (a8 GB hr rfl (ab (pv 3) (ab (aD aG rfl T.len cS (ab (pv 0) ah)) ah))))) (ak (aL dH)) aM)
  (ai (aA (i:=4) rO.nd rfl (bx rfl) (bc ah))
  (ai (bO bZ rfl (gH (E5 (aF aN (aF bo (pv 0) (pv 3) (λ_ _=>rfl)) ao (λ_ _=>rfl)))) (aq (i:=5) rO.nd rfl (bx rfl))
   (ai (bw (PW.pt (jt (gi (gF (pv 2) (λ_=>rfl))) (ip (gi (cX (a8 GC hr rfl (ab (pv 0) (ab (pv 1) (ab (aF bo (pv 2) (j7 il ao) (λ_ _=>rfl)) (ab (pv 5) ah)))))))))) (ak (aL dH)) aM)
   (ak (bW (fq eF fY fZ bJ (pv 4) (ab (zJ eF PySem.F.slot_list_pop PySem.F.type_list_pop zV (pv 2)) ah))))))
  (ai (bW (fq eF fY fZ bJ (pv 2) (ab (bC (ab (pv 3) (ab (bD f_ rfl T.tup qR (ab (Iu (pv 4)) ah)) ah))) ah)))
  (ak (aL dH))))),?_⟩
 nofun
 have ll:=aY M.b9;have lp:=aY M.pl;have fw:=M.BD;have er:aa[k]?=some aa[k]:=b_ lk;generalize i7:aa[k]=ru at er;have h8:=M.sh ru (cf er);obtain⟨r,err,p,v1,v2⟩:=Paired.at_ M.b9 k ru er;have tM:jR (rs.map V.ref) (k:Int)=some (.ref r):=bS (by rw [bh,err];rfl);refine⟨_,rfl,_,rfl,R,_,rfl,.inl (aI.of M.hR),k,(rs.map V.ref).length,rfl,by rw [au];omega,true,rfl,?_⟩;refine c_ ?_;refine⟨o6,λC hC=>?_⟩;have s1:=af hC (.lst []);have X6:C≠Pl:=λz=>by rw [z,M.hP] at hC;cases hC
 have ZL:upd H C (.lst []) C=some (.lst []):=ae;generalize upd H C (.lst [])=H1 at s1 ZL;refine⟨_,rfl,_,rfl,R,_,_,_,rfl,rfl,aI.of (s1 _ _ M.hR),tM,r,_,_,_,rfl,rfl,s1.tup v1,rfl,p,_,rfl,s1.tup v2,λp2 oB=>?_⟩;have s2:=s1.trans (af oB (.tup (ru.2.map V.str).reverse));have KA:=af oB (.tup (ru.2.map V.str).reverse) _ _ ZL;have QH:aQ K (upd H1 p2 (.tup (ru.2.map V.str).reverse)) p2 (ru.2.map V.str).reverse:=aQ.of ae;generalize upd H1 p2 (.tup (ru.2.map V.str).reverse)=H2 at s2 KA QH;rw [<-List.map_reverse] at QH
 let Kq:Hp->Prop:=λH5=>dZ Pl H H5/\aQ K H5 p2 (ru.2.reverse.map V.str)
 have Mb:∀{H5:Hp},Kq H5->∀a xs,aQ K H a xs->aQ K H5 a xs:=λkq a xs z=>by
  rcases z with (z | ⟨u,z⟩) | z
  .exact .inl (.inl (kq.1 _ _ (λy=>by rw [y,M.hP] at z;cases z) z))
  .exact .inl (.inr ⟨u,kq.1 _ _ (λy=>by rw [y,M.hP] at z;cases z) z⟩)
  exact .inr z
 have Pe:∀fA,iP aa k ts=some fA->ru.2.length<=ts.length/\ka aa (ts.drop (ts.length - ru.2.length)) ru.2=true:=λfA e=>by
  obtain⟨NB,e1,e2,e3,_⟩:=mw e;rw [er] at e1;cases e1;exact⟨e2,e3⟩
 have none_of:(∀fA,iP aa k ts≠some fA)->iP aa k ts=none:=λh=>by
  cases e:iP aa k ts with
  | none=>rfl
  | some x=>exact absurd e (h x)
 refine⟨p2,rfl,⟨_,QH⟩,?_⟩;refine qM (xs:=ru.2.reverse.map V.str) (λi σ H5=>∃(y5:Option V),σ=[aP R,aP d,aP Pl,some (.int (k:Int)),aP C,y5]/\Kq H5/\i<=us.length/\H5 Pl=some (.lst (us.take (us.length - i)))/\H5 C=some (.lst (us.drop (us.length - i)).reverse) /\
  ∀(j:Nat) t x,j < i->ts[ts.length - 1 - j]?=some t->ru.2.reverse[j]?=some x->gL aa t x=true) ⟨none,rfl,⟨λb o _ hb=>s2 _ _ hb,QH⟩,gA _,by rw [ky,cQ];exact s2 _ _ M.hP,by rw [ky,List.drop_length];exact KA,λj _ _ h=>∅⟩ ?_ ?_ ?_
 .rintro i σ H5 _ ⟨y5,rfl,kq,_⟩;exact kq.2
 .intro i x σ H5 ex jP
  ac_nf0
  obtain⟨y5,rfl,kq,li,eP,eC,fa⟩:=jP;rw [bh] at ex;obtain⟨x,R8,rfl⟩:=cg.mp ex;have lx:=(bq.mp R8).1;rw [pY] at lx;refine goN ?_
  ac_rfl
  refine⟨_,rfl,!(us.take (us.length - i)).isEmpty,.inl ⟨_,aI.of eP,rfl⟩,?_⟩;refine bY (λc=>?_) (λc=>?_)
  .have e0:us.take (us.length - i)=[]:=by
    cases hh:us.take (us.length - i) with
    | nil=>rfl
    | cons a b=>rw [hh] at c;cases c
   have l0:=congrArg List.length e0;rw [dN,iU] at l0;refine q0 H5 kq.1 (none_of λfA e=>?_);have:=(Pe fA e).1;omega
  have ln:us.length - i≠0:=λz=>by rw [z,oN] at c;exact c rfl
  obtain⟨m,hm⟩:∃m,us.length - i=m+1:=⟨us.length - i - 1,∅⟩;have lm:m < us.length:=by omega
  have et:us.take (us.length - i)=us.take m++[us[m]]:=by rw [hm];exact B6 lm
  have em:us[m]?=some us[m]:=b_ lm;have QE:ts[m]?=some (ts[m]'∅):=b_ ∅;obtain⟨u,eu,tv⟩:=Paired.at_ M.pl m _ QE;rw [em] at eu;have eu:us[m]=u:=gR eu;generalize htm:ts[m]'∅=t0 at QE tv;have tv5:=fU.keep (Mb kq) t0 tv;have WR:jR (us.take m++[u]) (-1)=some u:=ye _ _;rw [et,eu] at eP;have tp:∀j cs,t0=.n j cs->j < aa.length:=λj cs e=>M.top j cs (e ▸ cf QE);refine⟨_,rfl,_,rfl,_,rfl,_,rfl,Pl,_,_,_,rfl,rfl,aI.of eP,WR,_,rfl,R,d,rs,aa,u,t0,x,rfl,aI.of (kq.1 _ _ M.nR M.hR),M.b9.keep (Mb kq),?_,tv5,tp,?_⟩
  .obtain⟨kE,a1,a2⟩:=M.wJ;exact⟨kE,kq.1 _ _ (λz=>by rw [z,M.hP] at a1;cases a1) a1,a2⟩
  refine⟨_,rfl,?_⟩;refine bY (λc2=>?_) (λc2=>?_)
  .have N8:gL aa t0 x=false:=by simpa using c2
   refine q0 H5 kq.1 (none_of λfA e=>?_);obtain⟨a1,a2⟩:=Pe fA e;have a3:(ts.drop (ts.length - ru.2.length))[ru.2.length - 1 - i]?=some t0:=by
    rw [rf,<-QE]
    congr 1
    omega
   have a4:ru.2[ru.2.length - 1 - i]?=some x:=by
    rw [vb lx] at R8;exact R8
   rw [wm a2 a3 a4] at N8;cases N8
  have N8:gL aa t0 x=true:=by
   cases hh:gL aa t0 x with
   | true=>rfl
   | false=>rw [hh] at c2;exact absurd rfl c2
  have nPC:Pl≠C:=X6.symm;refine⟨_,rfl,.inl ⟨rfl,_,aI.of eC⟩,_,rfl,.inl ⟨rfl,_,aI.of eP⟩,Pl,_,u,rfl,rfl,eP,rT,?_⟩;rw [List.dropLast_concat];have ZK:upd H5 Pl (.lst (us.take m)) C=some (.lst (us.drop (us.length - i)).reverse):=by rw [aj X6];exact eC
  refine⟨C,_,_,rfl,rfl,ZK,bK (by rw [pY,pW];omega),?_⟩;have Zk:us.length - (i+1)=m:=by omega
  have ed:(us.drop m).reverse=(us.drop (us.length - i)).reverse++[u]:=by
   rw [hm,List.drop_eq_getElem_cons lm,mi,eu]
  refine⟨_,rfl,⟨λb o nb hb=>?_,?_⟩,∅,?_,?_,λj t x2 hj e1 e2=>?_⟩
  .rw [aj (λz=>by rw [z,hC] at hb;cases hb),aj nb];exact kq.1 b o nb hb
  .exact aT ZK (aT eP kq.2)
  .rw [Zk,aj nPC,ae]
  .rw [Zk,ae,ed]
  by_cases cj:j < i
  .exact fa j t x2 cj e1 e2
  have:j=i:=by omega
  subst this;rw [R8] at e2;cases e2;have e3:ts[ts.length - 1 - j]?=some t0:=by rw [<-QE];congr 1;omega
  rw [e3] at e1;cases e1;exact N8
 rintro σ H5 ⟨y5,rfl,kq,li,eP,eC,fa⟩;rw [au,pY] at li eP eC fa;have fl:ka aa (ts.drop (ts.length - ru.2.length)) ru.2=true:=wk (by rw [pW];omega) λi t x e1 e2=>by
  have l2:=(bq.mp e2).1;rw [rf] at e1;refine fa (ru.2.length - 1 - i) t x ∅ ?_ ?_
  .rw [<-e1];congr 1;omega
  rw [vb ∅,<-e2];congr 1;omega
 have mk:iP aa k ts=some (ts.take (ts.length - ru.2.length)++[.n k (jD.xu (ts.drop (ts.length - ru.2.length)))]):=by
  unfold iP;rw [er];show (if (decide (ru.2.length<=ts.length) && ka aa (ts.drop (ts.length - ru.2.length)) ru.2)=true then _ else none)=_;rw [ax (by rw [fl,bV ∅];rfl)]
 refine⟨_,rfl,.inl ⟨rfl,_,aI.of eP⟩,_,rfl,_,rfl,C,_,rfl,aI.of eC,λL2 Jc=>?_⟩;rw [u9];have s6:=af Jc (.lst (us.drop (us.length - ru.2.length)));have HG:upd H5 L2 (.lst (us.drop (us.length - ru.2.length))) L2=some (.lst (us.drop (us.length - ru.2.length))):=ae;generalize upd H5 L2 (.lst (us.drop (us.length - ru.2.length)))=H6 at s6 HG;refine⟨L2,_,rfl,.inl ⟨aI.of HG,λt2 jh=>⟨kb,λnd Hn=>?_⟩⟩⟩;have s8:=s6.trans ((af jh (.tup (us.drop (us.length - ru.2.length)))).trans (af Hn (.tup [.int (k:Int),.ref t2])));have vt:aQ K (upd (upd H6 t2 (.tup (us.drop (us.length - ru.2.length)))) nd (.tup [.int (k:Int),.ref t2])) t2 (us.drop (us.length - ru.2.length)):=(af Hn _).tup (aQ.of ae);have vn:aQ K (upd (upd H6 t2 (.tup (us.drop (us.length - ru.2.length)))) nd (.tup [.int (k:Int),.ref t2])) nd [.int (k:Int),.ref t2]:=aQ.of ae;generalize upd (upd H6 t2 (.tup (us.drop (us.length - ru.2.length)))) nd (.tup [.int (k:Int),.ref t2])=H8 at s8 vt vn;have Si:=s8 _ _ eP;refine⟨Pl,_,_,rfl,rfl,Si,bK (by rw [dN];omega),?_⟩;have kt:∀a xs,aQ K H a xs->aQ K (upd H8 Pl (.lst (us.take (us.length - ru.2.length)++[.ref nd]))) a xs:=λa xs z=>aT Si (s8.tup (Mb kq a xs z));have DF:=jT.keep kt M.pl;refine q1 _ _ _ (λb o nb hb=>?_) mk ae ?_ (by rw [bL,dN,fO];omega)
 .rw [aj nb];exact s8 _ _ (kq.1 b o nb hb)
 rw [<-lp];refine du (kR DF _) (.cons ?_ .nil);unfold fU;exact⟨nd,t2,us.drop (us.length - ru.2.length),rfl,aT Si vn,aT Si vt,gP.TY (kS DF _)⟩
def w6 (K:a9):Sp:=λvs H Q _=>∃(R d Pl a:Addr)(rs:List Addr)(aa:List aw)(us:List V)(ts:List Tr)(de:Dd),vs=[.ref R,.ref d,.ref Pl,.ref a]/\W3 K H R d Pl rs aa us ts/\l8 K H a de/\tG aa de /\
 (∀H',dZ Pl H H'->pM aa ts de=none->Q (.bl false) H')/\(∀H' gS fA,dZ Pl H H'->pM aa ts de=some fA->H' Pl=some (.lst gS)->jT K H' gS fA->gS.length<=us.length+1->Q (.bl true) H')
def Ey:aK ["rules","heads","pile","deed"] ["rules","heads","pile","deed"] (av vO):=iq rfl rfl rfl rfl (by decide +kernel)
def Ct (F:g9 K "do_deed" "do_deed" vO f fd)(T:Txt mg)(GS:aB P w K mg base 2 "do_step" ["heads","pile","word"] (wZ K))(GM:aB P w K mg base 2 "do_make" ["rules","heads","pile","number"] (w5 K)):bN P w K mg base fj 3 f fd ["rules","heads","pile","deed"] (w6 K):=by
 refine F.ok Ey (λvs H Q E h=>?_) (λdU A outer s H vs Q E hr h=>?_)
 .obtain⟨R,d,Pl,a,rs,aa,us,ts,de,rfl,_⟩:=h;rfl
 obtain⟨R,d,Pl,a,rs,aa,us,ts,de,rfl,M,hv,ok,q0,q1⟩:=h;have fw:=M.BD;refine⟨_,ai (bw (aV uq (aD aG rfl T.len cS (ab (pv 3) ah)) ao (bu _)) (ak (aL dH)) aM)
  (ai (bw (aV ij (aF aN (pv 3) ao (λ_ _=>rfl)) bT (bu _)) (ak (aL (a8 GS hr rfl (ab (pv 1) (ab (pv 2) (ab (aF aN (pv 3) ao (λ_ _=>rfl)) ah)))))) aM)
  (ak (aL (jL (eK ij (aF aN (pv 3) ao (λ_ _=>rfl)) bT (bu _)) (kQ (a8 GM hr rfl (ab (pv 0) (ab (pv 1) (ab (pv 2) (ab (aF aN (pv 3) ao (λ_ _=>rfl)) ah)))))))))),?_⟩
 nofun
 cases de with
 | step z =>
  have hv:aQ K H a [.str "step",.str z]:=hv;refine⟨_,rfl,a,_,rfl,.inr hv,rfl,false,rfl,?_⟩;refine c_ ?_;refine⟨_,rfl,a,_,_,_,rfl,rfl,hv,rfl,rfl,true,rfl,?_⟩;refine g6 ?_;refine⟨_,rfl,_,rfl,_,rfl,a,_,_,_,rfl,rfl,hv,rfl,d,Pl,aa,us,z,rfl,M.wJ,M.hP,fw,ok,?_⟩;refine q1 _ _ (ts++[.w z]) (λb o nb hb=>by rw [aj nb];exact hb) rfl ae ?_ (by rw [bL];simp);refine du (jT.keep (λ_ _ z=>aT M.hP z) M.pl) (.cons ?_ .nil);unfold fU;rfl
 | make k =>
  have hv:aQ K H a [.str "make",.int (k:Int)]:=hv;refine⟨_,rfl,a,_,rfl,.inr hv,rfl,false,rfl,?_⟩;refine c_ ?_;refine⟨_,rfl,a,_,_,_,rfl,rfl,hv,rfl,rfl,false,rfl,?_⟩;refine c_ ?_;refine⟨_,rfl,a,_,_,_,rfl,rfl,hv,rfl,rfl,true,rfl,?_⟩;refine g6 ?_;exact⟨_,rfl,_,rfl,_,rfl,_,rfl,a,_,_,_,rfl,rfl,hv,rfl,R,d,Pl,rs,aa,us,ts,k,rfl,M,ok,q0,q1⟩
def uI (l:List Addr)(n:Addr):gw ((l++[n]).map V.ref) (some (-1)) none=[V.ref n]:=by
 unfold gw;have h1:HT.fQ ((l++[n]).map V.ref).length 0 (some (-1))=l.length:=by
  rw [au,bL,fO];show (if (-1:Int) < 0 then ((-1:Int)+((l.length+1:Nat):Int)).toNat else min (-1:Int).toNat (l.length+1))=l.length;rw [ax (by decide)];omega
 rw [h1,HT.ie,<-List.map_drop,List.drop_append_of_le_length (aH _),List.drop_length,mQ];rw [au,bL,fO,show l.length+1 - l.length=1 ∅];rfl
def uJ (l:List Addr)(n:Addr):gw ((l++[n]).map V.ref) none (some (-1))=l.map V.ref:=by
 unfold gw;have h1:HT.fQ ((l++[n]).map V.ref).length ((l++[n]).map V.ref).length (some (-1))=l.length:=by
  rw [au,bL,fO];show (if (-1:Int) < 0 then ((-1:Int)+((l.length+1:Nat):Int)).toNat else min (-1:Int).toNat (l.length+1))=l.length;rw [ax (by decide)];omega
 rw [h1,HT.ie,oM,ky,<-oJ,p_ (aH _),cQ]
structure Of (K:a9)(H:Hp)(L:Addr)(as:List Addr)(a0:Addr)(ds:List Dd):Prop where
 hL:aI K H L ((as++[a0]).map V.ref)
 pr:Paired (λa d=>l8 K H a d) as ds
 dn:aQ K H a0 [.str "done"]
def Of.same {H H':Hp}{L a0:Addr}{as:List Addr}{ds:List Dd}(h:Of K H L as a0 ds)(s:aC H H'):Of K H' L as a0 ds:=⟨s.seq h.hL,Paired.dI h.pr λ_ _ z=>l8.keep (λ_ _ y=>s.tup y) z,s.tup h.dn⟩
def xj {aa:List aw}{ds:List Dd}{i:Nat}{d:Dd}{ts:List Tr}(e:ds[i]?=some d)(h:gr aa (ds.take i) []=some ts)(n:pM aa ts d=none):gr aa ds []=none:=by
 have e1:ds=ds.take i++(d::ds.drop (i+1)):=by
  have li:=(bq.mp e).1;have e2:ds.drop i=d::ds.drop (i+1):=by
   rw [List.drop_eq_getElem_cons li]
   congr 1
   exact(bq.mp e).2
  rw [<-e2,rq]
 rw [e1,nH,h];show (pM aa ts d).bind _=none;rw [n];rfl
def wW (K:a9):Sp:=λvs H Q _=>∃(R L:Addr)(rs as:List Addr)(a0:Addr)(aa:List aw)(ds:List Dd),vs=[.ref R,.ref L]/\H R=some (.lst (rs.map V.ref))/\bH K H rs aa/\(∀ru∈aa,ru.2.length<=8)/\aa.length<=1000/\Of K H L as a0 ds/\(∀d∈ds,tG aa d)/\ds.length<=900 /\
 ∀H',aC H H'->(Ji (gr aa ds [])=none->Q .d6 H')/\∀t v,Ji (gr aa ds [])=some t->fU K H' t v->Q v H'
def nq:aK ["rules","deeds","heads","pile","deed"] ["rules","deeds"] (av vG):=iq rfl rfl rfl rfl (by decide +kernel)
def Cn (F:g9 K "tree_of" "tree_of" vG f fd)(T:Txt mg)(GH:aB P w K mg base 3 "heads_of" ["rules"] (iW K))(GD:aB P w K mg base 3 "do_deed" ["rules","heads","pile","deed"] (w6 K)):bN P w K mg base fj 4 f fd ["rules","deeds"] (wW K):=by
 refine F.ok nq (λvs H Q E h=>?_) (λdU A outer s H vs Q E hr h=>?_)
 .obtain⟨R,L,rs,as,a0,aa,ds,rfl,_⟩:=h;rfl
 obtain⟨R,L,rs,as,a0,aa,ds,rfl,hR,b9,h8,br,D0,HJ,dl,q⟩:=h;have tS:=pX (rj (by decide:1+1<=64) _) hr.units;refine⟨_,ai (bw (aV (rX 1 tS) (dX ix (pv 1) (dQ (j7 il ao)) gb) (bc (ab (bC (ab bT ah)) ah)) (bu _)) (ak (aL je)) aM)
  (ai (aA (i:=2) nq.nd rfl (bx rfl) (bD (dC rfl) rfl T.yD eY (ab (bE ["head"] [] rfl (aZ (a8 GH hr rfl (ab (pv 0) ah))) (bp rfl rfl) (by decide +kernel) rfl (by decide +kernel)
   (λ_ _ _ _ _=>aq (i:=0) (show (["head"]:List Str).Nodup by decide +kernel) rfl (bx rfl)) (λ_ _ _ _ _=>bX) (λ_ _ _ _ _=>bC (ab (pv 0) (ab dH ah)))) ah)))
  (ai (aA (i:=3) nq.nd rfl (bx rfl) (bc ah))
  (ai (bO bZ rfl (aZ (dX ix (pv 1) gb (dQ (j7 il ao)))) (aq (i:=4) nq.nd rfl (bx rfl))
   (ak (bw (gi (cX (a8 GD hr rfl (ab (pv 0) (ab (pv 2) (ab (pv 3) (ab (pv 4) ah))))))) (ak (aL je)) aM)))
  (ak (aL (rV (PW.pt (iJ (aV ij (aD aG rfl T.len cS (ab (pv 3) ah)) ao (bu _)) (gE (gi (cX (aD cv rfl T.CJ jm (ab (aF bo (pv 3) ao (λ_ _=>rfl)) (ab (fK (v:=.ty "str") rfl T.str iS rfl) ah)))))))) (aF bo (pv 3) ao (λ_ _=>rfl)) je)))))),?_⟩
 nofun
 refine⟨_,rfl,_,rfl,_,rfl,L,_,rfl,D0.hL,λC1 Qv=>?_⟩;rw [uI];have s1:=af Qv (.lst [V.ref a0]);have e1:upd H C1 (.lst [V.ref a0]) C1=some (.lst [V.ref a0]):=ae;generalize upd H C1 (.lst [V.ref a0])=H1 at s1 e1;refine⟨vi,λt1 NL=>⟨vi,λC2 MJ=>?_⟩⟩;have k3:=(af NL (.tup [V.str "done"])).trans (af MJ (.lst [V.ref t1]));have et:aQ K (upd (upd H1 t1 (.tup [V.str "done"])) C2 (.lst [V.ref t1])) t1 [.str "done"]:=(af MJ _).tup (aQ.of ae);have KA:upd (upd H1 t1 (.tup [V.str "done"])) C2 (.lst [V.ref t1]) C2=some (.lst [V.ref t1]):=ae;generalize upd (upd H1 t1 (.tup [V.str "done"])) C2 (.lst [V.ref t1])=H3 at k3 et KA;have s3:=s1.trans k3;refine⟨C1,C2,_,_,rfl,rfl,aI.of (k3 _ _ e1),aI.of KA,.cons (.inr ⟨a0,t1,_,_,rfl,rfl,.inr ⟨s3.tup D0.dn,et⟩,.cons (uU.self (.inl rfl) 0) .nil⟩) .nil,false,rfl,?_⟩;refine c_ ?_;have R3:=s3 _ _ hR;have TB:=b9.same s3;have D3:=D0.same s3;refine⟨_,rfl,R,rs,aa,rfl,aI.of R3,TB,br,λD1 H4 f4 s4 e4=>?_⟩;have FK:=hU (aa.map (·.1)) [];simp only [iU,au] at FK;refine⟨D1,rfl,⟨_,aI.of e4⟩,λD2 i8=>kZ (aI.of e4) ∅ i8 λtz H5 s5 e5 p5=>?_⟩;have kp:Paired (λt (kv:aS×V)=>aQ K H5 t [kV kv.1,kv.2]) tz ((hd aa).map λh=>((Sum.inr h:aS),V.bl true)):=cu p5 λ_ _ z=>z;refine⟨D2,tz,_,rfl,e5,kp,λd qK=>?_⟩;have CA:∀z,(bA (cJ ((hd aa).map λh=>((Sum.inr h:aS),V.bl true)) []) (Sum.inr z)).isSome=decide (z∈hd aa):=λz=>by
  rw [kK];by_cases c:z∈hd aa
  .rw [ax c,bV c];rfl
  rw [az c,di c];rfl
 generalize cJ ((hd aa).map λh=>((Sum.inr h:aS),V.bl true)) []=kE at CA;have s6:=(s4.trans s5).trans (af qK (.dK kE));have Ku:upd H5 d (.dK kE) d=some (.dK kE):=ae;generalize upd H5 d (.dK kE)=H6 at s6 Ku;have EJ:=s3.trans s6;refine⟨o6,λPl MA=>?_⟩;have k7:=af MA (.lst []);have Wh:upd H6 Pl (.lst []) Pl=some (.lst []):=ae;have Za:H Pl=none:=EJ.free MA;have nRP:R≠Pl:=λz=>by rw [z,Za] at hR;cases hR
 have RB:d≠Pl:=λz=>by rw [z,MA] at Ku;cases Ku
 generalize upd H6 Pl (.lst [])=H7 at k7 Wh;have Bk:=EJ.trans k7;refine⟨_,rfl,_,rfl,_,rfl,L,_,rfl,Bk.seq D0.hL,λC3 MI=>?_⟩;rw [uJ];have k8:=af MI (.lst (as.map V.ref));have Na:upd H7 C3 (.lst (as.map V.ref)) C3=some (.lst (as.map V.ref)):=ae;have Uo:C3≠Pl:=λz=>by rw [z,Wh] at MI;cases MI
 generalize upd H7 C3 (.lst (as.map V.ref))=H8 at k8 Na;have s08:=Bk.trans k8;have Wd:=k8 _ _ (k7 _ _ Ku);have Uy:=aY D0.pr;refine⟨C3,rfl,⟨_,aI.of Na⟩,?_⟩;refine cC (xs:=as.map V.ref) (λi σ H9=>∃(us:List V)(ts:List Tr)(y4:Option V),σ=[aP R,aP L,aP d,aP Pl,y4]/\aC H H9/\H9 C3=some (.lst (as.map V.ref))/\H9 d=some (.dK kE)/\H9 Pl=some (.lst us)/\jT K H9 us ts/\gr aa (ds.take i) []=some ts/\us.length<=i) ⟨[],[],none,rfl,s08,Na,Wd,k8 _ _ Wh,.nil,rfl,aH _⟩ ?_ ?_ ?_
 .rintro i σ H9 _ ⟨us,ts,y4,rfl,s9,Kz,_⟩;exact aI.of Kz
 .intro i x σ H9 ex jP
  ac_nf0
  obtain⟨us,ts,y4,rfl,s9,Kz,M3,xT,DF,pj,l9⟩:=jP;rw [bh] at ex;obtain⟨a,ea,rfl⟩:=cg.mp ex;have li:=(bq.mp ea).1;obtain⟨de,Jj⟩:∃de,ds[i]?=some de:=⟨ds[i]'∅,b_ ∅⟩;obtain⟨a',Kv,va⟩:=Paired.at_ D0.pr i de Jj;rw [ea] at Kv;cases Kv;have TR:=HJ de (cf Jj);have LN:=tN.gr (aa:=aa) tN.nil (λx hx=>HJ x (pZ hx)) pj;have M9:W3 K H9 R d Pl rs aa us ts:=⟨s9 _ _ hR,b9.same s9,⟨kE,M3,CA⟩,xT,DF,∅,nRP,h8,br,λj cs h=>LN.top h⟩;refine goN ?_
  ac_nf
  have back:∀{HA:Hp},dZ Pl H9 HA->aC H HA:=λsT b o hb=>sT b o (λz=>by rw [z,Za] at hb;cases hb) (s9 b o hb);refine⟨_,rfl,_,rfl,_,rfl,_,rfl,R,d,Pl,a,rs,aa,us,ts,de,rfl,M9,l8.keep (λ_ _ y=>s9.tup y) va,TR,λHA sT e=>⟨false,rfl,?_⟩,λHA gS fA sT e M6 JV l'=>⟨true,rfl,?_⟩⟩
  .refine g6 ?_;refine(q HA (back sT)).1 ?_;rw [xj Jj pj e];rfl
  refine c_ ?_;refine⟨gS,fA,_,rfl,back sT,sT _ _ Uo Kz,sT _ _ RB M3,M6,JV,?_,∅⟩;rw [cR,Jj];show gr aa (ds.take i++[de]) []=_;rw [nH,pj];show gr aa [de] ts=_;rw [xl,e]
 rintro σ H9 ⟨us,ts,y4,rfl,s9,Kz,M3,xT,DF,pj,l9⟩;rw [au,Uy,cQ] at pj;have lp:=aY DF;have hq:=q H9 s9;rw [pj] at hq;refine⟨_,rfl,Pl,_,rfl,.inl (aI.of xT),rfl,decide (us.length=1),?_,?_⟩
 .show V.bl (decide (V.int (us.length:Int)=V.int 1))=V.bl (decide (us.length=1));by_cases h:us.length=1
  .rw [bV h,bV (by rw [h];rfl)]
  rw [di h,di (λy=>h (by injection y with y2;omega))]
 refine bY (λc=>?_) (λc=>?_)
 .have l1:=dq c
  match us,ts,l1,lp,DF,xT,hq with
  | [u],[t],_,_,.cons tv .nil,xT,hq =>
   have tX:jR [u] 0=some u:=bS (j:=0) rfl;cases t with
   | w z =>
    unfold fU at tv;subst tv;refine⟨_,rfl,Pl,_,_,_,rfl,rfl,aI.of xT,tX,.str z,"str","str",true,rfl,.str z,fu,true,rfl,?_⟩;refine c_ ?_;exact hq.1 rfl
   | n k cs =>
    have JD:=tv;unfold fU at JD;obtain⟨a,p,vs,rfl,ha,hp,_⟩:=JD;refine⟨_,rfl,Pl,_,_,_,rfl,rfl,aI.of xT,tX,.ref a,"tuple","str",false,rfl,.tup ha,pD,false,rfl,?_⟩;refine g6 ?_;exact⟨_,rfl,Pl,_,_,_,rfl,rfl,aI.of xT,tX,hq.2 _ _ rfl tv⟩
 have n1:us.length≠1:=λh=>c (bV h);refine c_ ?_;refine hq.1 ?_
 match ts,lp with
 | [],_=>rfl
 | [t],lp=>exact absurd lp n1
 | a::_::_,_=>cases a <;> rfl
end
abbrev yZ:Stmt:=top 60
abbrev zf:Stmt:=top 61
section
def FR:PySem.W.kitOne K (.type "str") (.type "tuple")=some false:=by kernel_rfl
def A3:Sp:=λvs H Q _=>∃n:Int,vs=[.int n]/\Q (.bl true) H
def Ia:aK ["_law_thing"] ["_law_thing"] (av yZ):=iq rfl rfl rfl rfl (by decide +kernel)
def Fe (F:g9 K "_law_whole" "_law_whole" yZ f fd)(T:Txt mg):bN P w K mg base fj 1 f fd ["_law_thing"] A3:=by
 refine F.ok Ia (λvs H Q E h=>?_) (λdU A outer s H vs Q E hr h=>?_)
 .obtain⟨n,rfl,_⟩:=h;rfl
 obtain⟨n,rfl,q⟩:=h;refine⟨_,ak (aL (jL (aD cv rfl T.CJ jm (ab (pv 0) (ab (fK (v:=.ty "int") rfl T.int PyProof.Rows.boot_int rfl) ah)))
  (kQ (zF (aD cv rfl T.CJ jm (ab (pv 0) (ab (fK (v:=.ty "bool") rfl T.Z4 PyProof.Rows.boot_bool rfl) ah))))))),?_⟩
 dsimp only [Ax];refine⟨_,rfl,.int n,"int","int",true,rfl,.int n,fu,true,rfl,?_⟩;refine g6 ?_;exact⟨_,rfl,.int n,"int","bool",false,rfl,.int n,FT,false,rfl,q⟩
def Dg (us:List V) (n:Nat)(h:n<=us.length):gw us none (some (n:Int))=us.take n:=by
 unfold gw;rw [HT.ie,HT.jK,oM,ky,Nat.min_eq_left h]
def Dh (us:List V) (n:Nat)(h:n<=us.length):gw us (some (n:Int)) none=us.drop n:=by
 unfold gw;rw [HT.ie,HT.jK,Nat.min_eq_left h,mU (by rw [pW];exact aH _)]
structure Np (K:a9)(H:Hp)(R N Pl:Addr)(rs:List Addr)(aa:List aw)(us:List V)(ts:List Tr):Prop where
 hR:aI K H R (rs.map V.ref)
 b9:bH K H rs aa
 hN:H N=some (.lst ((hm aa).map V.str))
 hP:H Pl=some (.lst us)
 pl:jT K H us ts
 BD:us.length<=1000
 sh:∀ru∈aa,ru.2.length<=8
 sr:aa.length<=1000
 top:∀j cs,Tr.n j cs∈ts->j < aa.length
theorem Np.same {H H':Hp}{R N Pl:Addr}{rs:List Addr}{aa:List aw}{us:List V}{ts:List Tr}(h:Np K H R N Pl rs aa us ts)(s:aC H H'):Np K H' R N Pl rs aa us ts :=
 ⟨s.seq h.hR,h.b9.same s,s _ _ h.hN,s _ _ h.hP,jT.keep (λ_ _ z=>s.tup z) h.pl,h.BD,h.sh,h.sr,h.top⟩
def qA (K:a9):Sp:=λvs H Q _=>∃(R N Pl a:Addr)(rs:List Addr)(aa:List aw)(us:List V)(ts:List Tr)(de:Dd),vs=[.ref R,.ref N,.ref Pl,.ref a]/\Np K H R N Pl rs aa us ts/\l8 K H a de/\tG aa de /\
 (∀H',aC H H'->pM aa ts de=none->Q .d6 H')/\(∀P' H' gS fA,aC H H'->pM aa ts de=some fA->H P'=none->H' P'=some (.lst gS)->jT K H' gS fA->gS.length<=us.length+1->Q (.ref P') H')
def nu:aK ["_law_rules","_law_heads","_law_pile","_law_deed","_law_parts","_law_rest","_law_k","_law_child"] ["_law_rules","_law_heads","_law_pile","_law_deed"] (av zf):=iq rfl rfl rfl rfl (by decide +kernel)
def Fl (F:g9 K "_law_piled" "_law_piled" zf f fd)(T:Txt mg)(GW:aB P w K mg base 1 "_law_whole" ["_law_thing"] A3):bN P w K mg base fj 2 f fd ["_law_rules","_law_heads","_law_pile","_law_deed"] (qA K):=by
 refine F.ok nu (λvs H Q E h=>?_) (λdU A outer s H vs Q E hr h=>?_)
 .obtain⟨R,N,Pl,a,rs,aa,us,ts,de,rfl,_⟩:=h;rfl
 obtain⟨R,N,Pl,a,rs,aa,us,ts,de,rfl,M,hv,ok,q0,q1⟩:=h;have fw:=M.BD;have lp:=aY M.pl;refine⟨_,ai (bw (PW.pt (jt (aV uq (aD aG rfl T.len cS (ab (pv 3) ah)) ao (bu _)) (ip (aV iA (aF aN (pv 3) ao (λ_ _=>rfl)) (bc (ab bT (ab bT ah))) rfl)))) (ak (aL je)) aM)
  (ai (bw (aV ij (aF aN (pv 3) ao (λ_ _=>rfl)) bT (bu _)) (ak (aL (aX iM (pv 2) (bc (ab (aF aN (pv 3) ao (λ_ _=>rfl)) ah))))) aM)
  (ai (bw (PW.pt (jt (gi (cX (a8 GW hr rfl (ab (aF aN (pv 3) ao (λ_ _=>rfl)) ah)))) (jt (gi (EV JX nU ao (aF aN (pv 3) ao (λ_ _=>rfl)) (aD aG rfl T.len cS (ab (pv 0) ah))))
    (ip (aV rY (aD aG rfl T.len cS (ab (aF aN (aF bo (pv 0) (aF aN (pv 3) ao (λ_ _=>rfl)) (λ_ _=>rfl)) ao (λ_ _=>rfl)) ah)) (aD aG rfl T.len cS (ab (pv 2) ah)) (bu _)))))) (ak (aL je)) aM)
  (ai (aA (i:=4) nu.nd rfl (bx rfl) (aF aN (aF bo (pv 0) (aF aN (pv 3) ao (λ_ _=>rfl)) (λ_ _=>rfl)) ao (λ_ _=>rfl)))
  (ai (aA (i:=5) nu.nd rfl (bx rfl) (aX zK (aD aG rfl T.len cS (ab (pv 2) ah)) (aD aG rfl T.len cS (ab (pv 4) ah))))
  (ai (bO bZ rfl (gY rfl T.DE (ab (aD aG rfl T.len cS (ab (pv 4) ah)) ah)) (aq (i:=6) nu.nd rfl (bx rfl))
   (ai (aA (i:=7) nu.nd rfl (bx rfl) (aF bo (pv 2) (aX gp (pv 5) (pv 6)) (λ_ _=>rfl)))
   (ak (bw (aV lB (aF aN (pv 4) (pv 6) (λ_ _=>rfl)) (pv 1) rfl)
    (ak (bw (PW.pt (jt (gi (cX (aD cv rfl T.CJ jm (ab (pv 7) (ab (fK (v:=.ty "tuple") rfl T.tup qR rfl) ah))))) (ip (aV uq (aF aN (aF bo (pv 0) (aF aN (pv 7) ao (λ_ _=>rfl)) (λ_ _=>rfl)) ao (λ_ _=>rfl)) (aF aN (pv 4) (pv 6) (λ_ _=>rfl)) (bu _))))) (ak (aL je)) aM))
    (ak (bw (PW.pt (jt (gi (cX (aD cv rfl T.CJ jm (ab (pv 7) (ab (fK (v:=.ty "str") rfl T.str iS rfl) ah))))) (ip (aV uq (pv 7) (aF aN (pv 4) (pv 6) (λ_ _=>rfl)) (bu _))))) (ak (aL je)) aM))))))
  (ak (aL (aX iM (dX ix (pv 2) gb (dQ (pv 5))) (bc (ab (bC (ab (aF aN (pv 3) ao (λ_ _=>rfl)) (ab (bD f_ rfl T.tup qR (ab (dX ix (pv 2) (dQ (pv 5)) gb) ah)) ah))) ah)))))))))),?_⟩
 nofun
 cases de with
 | step z =>
  have hv:aQ K H a [.str "step",.str z]:=hv;refine⟨_,rfl,a,_,rfl,.inr hv,rfl,false,rfl,?_⟩;refine c_ ?_;refine⟨_,rfl,a,_,_,_,rfl,rfl,hv,rfl,kb,λL hL=>?_⟩;have s1:=af hL (.lst [V.str "step",V.str "make"]);refine⟨L,_,rfl,.inl (aI.of ae),rfl,rfl,false,(by decide +kernel),?_⟩;refine c_ ?_;generalize upd H L (.lst [V.str "step",V.str "make"])=H1 at s1;refine⟨_,rfl,a,_,_,_,rfl,rfl,s1.tup hv,rfl,rfl,true,rfl,?_⟩;refine g6 ?_;refine⟨_,rfl,_,rfl,a,_,_,_,rfl,rfl,s1.tup hv,rfl,vi,λL2 Jc=>?_⟩;have s2:=s1.trans (af Jc (.lst [V.str z]));have e2:upd H1 L2 (.lst [V.str z]) L2=some (.lst [V.str z]):=ae;generalize upd H1 L2 (.lst [V.str z])=H2 at s2 e2;refine⟨Pl,L2,_,_,rfl,rfl,s2 _ _ M.hP,e2,fits (by show us.length+1<=1000000;omega),λP' Qs=>?_⟩;have s3:=s2.trans (af Qs (.lst (us++[V.str z])));refine q1 P' _ _ (ts++[.w z]) s3 rfl (s2.free Qs) ae ?_ (by rw [bL];simp);refine du (jT.keep (λ_ _ z=>s3.tup z) M.pl) (.cons ?_ .nil);unfold fU;rfl
 | make k =>
  have hv:aQ K H a [.str "make",.int (k:Int)]:=hv;have lk:k < aa.length:=ok;refine⟨_,rfl,a,_,rfl,.inr hv,rfl,false,rfl,?_⟩;refine c_ ?_;refine⟨_,rfl,a,_,_,_,rfl,rfl,hv,rfl,kb,λL hL=>?_⟩;have s1:=af hL (.lst [V.str "step",V.str "make"]);refine⟨L,_,rfl,.inl (aI.of ae),rfl,rfl,false,(by decide +kernel),?_⟩;refine c_ ?_;generalize upd H L (.lst [V.str "step",V.str "make"])=H1 at s1;have Ki:=s1.tup hv;have M1:=M.same s1;refine⟨_,rfl,a,_,_,_,rfl,rfl,Ki,rfl,rfl,false,rfl,?_⟩;refine c_ ?_;have ll:=aY M.b9;have er:aa[k]?=some aa[k]:=b_ lk;generalize i7:aa[k]=ru at er;have h8:=M.sh ru (cf er);obtain⟨r,err,p,v1,v2⟩:=Paired.at_ M1.b9 k ru er;have tM:jR (rs.map V.ref) (k:Int)=some (.ref r):=bS (by rw [bh,err];rfl);have Pe:∀fA,pM aa ts (.make k)=some fA->ru.2.length<=ts.length/\ka aa (ts.drop (ts.length - ru.2.length)) ru.2=true:=λfA e=>by
   obtain⟨NB,e1,e2,e3,_⟩:=mw (show iP aa k ts=some fA from e);rw [er] at e1;cases e1;exact⟨e2,e3⟩
  have none_of:(∀fA,pM aa ts (.make k)≠some fA)->pM aa ts (.make k)=none:=λh=>by
   cases e:pM aa ts (.make k) with
   | none=>rfl
   | some x=>exact absurd e (h x)
  refine⟨_,rfl,a,_,_,_,rfl,rfl,Ki,rfl,(k:Int),rfl,true,rfl,?_⟩;refine c_ ?_;refine⟨_,rfl,a,_,_,_,rfl,rfl,Ki,rfl,_,_,rfl,rfl,_,rfl,?_⟩;refine bY (λ_=>?_) (λc=>absurd (bV ∅) c);refine⟨_,rfl,R,_,rfl,.inl M1.hR,_,_,rfl,rfl,true,?_,?_⟩
  .show V.bl (decide ((k:Int) < ((rs.map V.ref).length:Int)))=V.bl true;rw [au,bV ∅]
  refine c_ ?_;refine⟨_,rfl,_,rfl,a,_,_,_,rfl,rfl,Ki,rfl,R,_,_,_,rfl,rfl,M1.hR,tM,r,_,_,_,rfl,rfl,v1,rfl,p,_,rfl,.inr v2,_,rfl,Pl,_,rfl,.inl (aI.of M1.hP),_,_,rfl,rfl,_,rfl,?_⟩;refine bY (λc=>?_) (λc=>?_)
  .have c':=dq c;rw [au] at c';refine q0 H1 s1 (none_of λfA e=>?_);have:=(Pe fA e).1;omega
  have c':¬(us.length:Int) < ((ru.2.map V.str).length:Int):=λz=>c (bV z);rw [au] at c';have lle:ru.2.length<=us.length:=by omega
  refine⟨_,rfl,_,rfl,a,_,_,_,rfl,rfl,Ki,rfl,R,_,_,_,rfl,rfl,M1.hR,tM,r,_,_,_,rfl,rfl,v1,rfl,?_⟩;refine⟨_,rfl,Pl,_,rfl,.inl (aI.of M1.hP),_,rfl,p,_,rfl,.inr v2,_,_,rfl,rfl,?_⟩;have P8:(us.length:Int) - ((ru.2.map V.str).length:Int)=((us.length - ru.2.length:Nat):Int):=by rw [au];omega
  refine⟨_,rfl,p,_,rfl,.inr v2,((ru.2.map V.str).length:Int),rfl,by rw [au];omega,by rw [au];omega,?_⟩;rw [show (((ru.2.map V.str).length:Nat):Int).toNat=ru.2.length by rw [au];exact kn _];refine g7 (n:=ru.2.length) (λi σ H5=>∃(y6 y7:Option V),σ=[aP R,aP N,aP Pl,aP a,aP p,some (.int ((us.length - ru.2.length:Nat):Int)),y6,y7]/\aC H1 H5 /\
   ∀(j:Nat) t x,j < i->ts[us.length - ru.2.length+j]?=some t->ru.2[j]?=some x->gL aa t x=true) ⟨none,none,congrArg (λz:Int=>[some (V.ref R),aP N,aP Pl,aP a,aP p,some (.int z),none,none]) P8,aC.refl H1,λj _ _ h=>∅⟩ ?_ ?_
  .intro i σ H5 hi jP
   ac_nf0
   obtain⟨y6,y7,rfl,s5,fa⟩:=jP;have M5:=M1.same s5;obtain⟨x,ex⟩:∃x,ru.2[i]?=some x:=⟨ru.2[i],b_ hi⟩;have lt:us.length - ru.2.length+i < ts.length:=by omega
   have et:ts[us.length - ru.2.length+i]?=some (ts[us.length - ru.2.length+i]'lt):=b_ lt;obtain⟨u,eu,tv⟩:=Paired.at_ M5.pl _ _ et;generalize ts[us.length - ru.2.length+i]'lt=t0 at et tv;have atu:jR us (((us.length - ru.2.length:Nat):Int)+(0+(i:Int)))=some u:=by
    rw [ja,show ((us.length - ru.2.length:Nat):Int)+(i:Int)=((us.length - ru.2.length+i:Nat):Int) by push_cast;rfl];exact bS eu
   have WO:jR (ru.2.map V.str) (0+(i:Int))=some (.str x):=by
    rw [ja];exact bS (by rw [bh,ex];rfl)
   have SQ:=s5.tup v2;have bad:gL aa t0 x=false->Q .d6 H5:=λh=>q0 H5 (s1.trans s5) (none_of λfA e=>by
    obtain⟨a1,a2⟩:=Pe fA e;have a3:(ts.drop (ts.length - ru.2.length))[i]?=some t0:=by
     rw [rf,<-et]
     congr 1
     omega
    rw [wm a2 a3 ex] at h;cases h)
   have good:gL aa t0 x=true->∃(y6' y7':Option V),[some (V.ref R),aP N,aP Pl,aP a,aP p,some (.int ((us.length - ru.2.length:Nat):Int)),some (.int (0+(i:Int))),some u]=[aP R,aP N,aP Pl,aP a,aP p,some (.int ((us.length - ru.2.length:Nat):Int)),y6',y7']/\aC H1 H5 /\
     ∀(j:Nat) t x,j < i+1->ts[us.length - ru.2.length+j]?=some t->ru.2[j]?=some x->gL aa t x=true:=λh=>⟨_,_,rfl,s5,λj t x2 hj e1 e2=>by
    by_cases cj:j < i
    .exact fa j t x2 cj e1 e2
    have:j=i:=by omega
    subst this;rw [et] at e1;rw [ex] at e2;cases e1;cases e2;exact h⟩
   refine goN ?_
   ac_rfl
   refine⟨_,rfl,_,rfl,_,rfl,_,_,rfl,rfl,Pl,_,_,_,rfl,rfl,aI.of M5.hP,atu,?_⟩;refine⟨_,rfl,_,rfl,p,_,_,_,rfl,rfl,SQ,WO,_,rfl,N,_,rfl,.inl (aI.of M5.hN),rfl,cM _,_,rfl,?_⟩;rw [gh];show if decide (x∈hm aa)=true then _ else _;refine bY (λch=>?_) (λch=>?_)
   .have Yq:decide (x∈hd aa)=true:=bV (kX.mp (dq ch));cases t0 with
    | w z =>
     unfold fU at tv;subst tv;refine⟨_,rfl,.str z,"str","tuple",false,rfl,.str z,FR,false,rfl,?_⟩;refine g6 ?_;refine bad ?_;show (!decide (x∈hd aa) && decide (z=x))=false;rw [Yq];rfl
    | n k2 cs =>
     have Hj:=M.top k2 cs (cf et);unfold fU at tv;obtain⟨a2,p3,vs,rfl,RU,hp3,_⟩:=tv;have Jg:aa[k2]?=some aa[k2]:=b_ Hj;obtain⟨r2,V5,p4,w1,w2⟩:=Paired.at_ M5.b9 k2 _ Jg;have WS:jR (rs.map V.ref) (k2:Int)=some (.ref r2):=bS (by rw [bh,V5];rfl);have ef:gL aa (.n k2 cs) x=decide (aa[k2].1=x):=by
      have eh:wc aa k2=some aa[k2].1:=by unfold wc;rw [Jg];rfl
      show (decide (x∈hd aa) && decide (wc aa k2=some x))=_;rw [Yq,eh,jb];by_cases h:aa[k2].1=x
      .rw [bV (congrArg some h),bV h]
      rw [di (λz=>h (gR z)),di h]
     refine⟨_,rfl,.ref a2,"tuple","tuple",true,rfl,.tup RU,fu,true,rfl,?_⟩;refine c_ ?_;refine⟨_,rfl,_,rfl,a2,_,_,_,rfl,rfl,RU,rfl,R,_,_,_,rfl,rfl,M5.hR,WS,r2,_,_,_,rfl,rfl,w1,rfl,_,rfl,_,rfl,p,_,_,_,rfl,rfl,SQ,WO,rfl,!decide (aa[k2].1=x),?_,?_⟩
     .show V.bl (!decide (V.str aa[k2].1=V.str x))=_;by_cases h:aa[k2].1=x
      .rw [bV h,bV (congrArg V.str h)]
      rw [di h,di (λy=>h (by injection y))]
     refine bY (λc3=>?_) (λc3=>?_)
     .exact bad (by rw [ef];simpa using c3)
     exact good (by rw [ef];simpa using c3)
   have Pg:decide (x∈hd aa)=false:=di λh=>ch (bV (kX.mpr h));cases t0 with
   | w z =>
    unfold fU at tv;subst tv;have ef:gL aa (.w z) x=decide (z=x):=by
     show (!decide (x∈hd aa) && decide (z=x))=_;rw [Pg];rfl
    refine⟨_,rfl,.str z,"str","str",true,rfl,.str z,fu,true,rfl,?_⟩;refine c_ ?_;refine⟨_,rfl,_,rfl,_,rfl,p,_,_,_,rfl,rfl,SQ,WO,rfl,!decide (z=x),?_,?_⟩
    .show V.bl (!decide (V.str z=V.str x))=_;by_cases h:z=x
     .rw [bV h,bV (congrArg V.str h)]
     rw [di h,di (λy=>h (by injection y))]
    refine bY (λc3=>?_) (λc3=>?_)
    .exact bad (by rw [ef];simpa using c3)
    exact good (by rw [ef];simpa using c3)
   | n k2 cs =>
    unfold fU at tv;obtain⟨a2,p3,vs,rfl,RU,hp3,_⟩:=tv;refine⟨_,rfl,.ref a2,"tuple","str",false,rfl,.tup RU,pD,false,rfl,?_⟩;refine g6 ?_;refine bad ?_;show (decide (x∈hd aa) && decide (wc aa k2=some x))=false;rw [Pg];rfl
  rintro σ H5 ⟨y6,y7,rfl,s5,fa⟩;have M5:=M1.same s5;have lr:us.length - ru.2.length<=us.length:=by omega
  have fl:ka aa (ts.drop (ts.length - ru.2.length)) ru.2=true:=wk (by rw [pW];omega) λi t x e1 e2=>by
   have l2:=(bq.mp e2).1;rw [rf,<-lp] at e1;exact fa i t x l2 e1 e2
  have mk:pM aa ts (.make k)=some (ts.take (ts.length - ru.2.length)++[.n k (jD.xu (ts.drop (ts.length - ru.2.length)))]):=by
   show iP aa k ts=_;unfold iP;rw [er];show (if (decide (ru.2.length<=ts.length) && ka aa (ts.drop (ts.length - ru.2.length)) ru.2)=true then _ else none)=_;rw [ax (by rw [fl,bV ∅];rfl)]
  have xg:=s1.trans s5;refine⟨_,rfl,_,rfl,_,rfl,Pl,_,rfl,aI.of M5.hP,λL1 RY=>?_⟩;rw [Dg us _ lr];have s6:=af RY (.lst (us.take (us.length - ru.2.length)));have e6:upd H5 L1 (.lst (us.take (us.length - ru.2.length))) L1=some (.lst (us.take (us.length - ru.2.length))):=ae;generalize upd H5 L1 (.lst (us.take (us.length - ru.2.length)))=H6 at s6 e6;refine⟨_,rfl,a,_,_,_,rfl,rfl,(s5.trans s6).tup Ki,rfl,_,rfl,_,rfl,_,rfl,Pl,_,rfl,aI.of (s6 _ _ M5.hP),λL2 Jc=>?_⟩;rw [Dh us _ lr];have s7:=s6.trans (af Jc (.lst (us.drop (us.length - ru.2.length))));have ZR:=af Jc (.lst (us.drop (us.length - ru.2.length))) _ _ e6;have e7:upd H6 L2 (.lst (us.drop (us.length - ru.2.length))) L2=some (.lst (us.drop (us.length - ru.2.length))):=ae;generalize upd H6 L2 (.lst (us.drop (us.length - ru.2.length)))=H7 at s7 ZR e7;refine⟨L2,_,rfl,.inl ⟨aI.of e7,λt2 jh=>⟨kb,λnd Hn=>⟨vi,λL3 VL=>?_⟩⟩⟩⟩;have k9:=(af jh (.tup (us.drop (us.length - ru.2.length)))).trans ((af Hn (.tup [.int (k:Int),.ref t2])).trans (af VL (.lst [V.ref nd])));have vt:aQ K (upd (upd (upd H7 t2 (.tup (us.drop (us.length - ru.2.length)))) nd (.tup [.int (k:Int),.ref t2])) L3 (.lst [V.ref nd])) t2 (us.drop (us.length - ru.2.length)):=((af Hn _).trans (af VL _)).tup (aQ.of ae);have vn:aQ K (upd (upd (upd H7 t2 (.tup (us.drop (us.length - ru.2.length)))) nd (.tup [.int (k:Int),.ref t2])) L3 (.lst [V.ref nd])) nd [.int (k:Int),.ref t2]:=(af VL _).tup (aQ.of ae);have e9:upd (upd (upd H7 t2 (.tup (us.drop (us.length - ru.2.length)))) nd (.tup [.int (k:Int),.ref t2])) L3 (.lst [V.ref nd]) L3=some (.lst [V.ref nd]):=ae;generalize upd (upd (upd H7 t2 (.tup (us.drop (us.length - ru.2.length)))) nd (.tup [.int (k:Int),.ref t2])) L3 (.lst [V.ref nd])=H9 at k9 vt vn e9;refine⟨L1,L3,_,_,rfl,rfl,k9 _ _ ZR,e9,fits (by rw [dN];show _+1<=1000000;omega),λP' Qs=>?_⟩;have XA:=s7.trans k9;have kA:=af Qs (.lst (us.take (us.length - ru.2.length)++[V.ref nd]));have sA:=(xg.trans XA).trans kA;have XM:=jT.keep (λ_ _ z=>sA.tup z) M.pl;refine q1 P' _ _ _ sA mk ((xg.trans XA).free Qs) ae ?_ (by rw [bL,dN,fO];omega);rw [<-lp];refine du (kR XM _) (.cons ?_ .nil);unfold fU;exact⟨nd,t2,us.drop (us.length - ru.2.length),rfl,kA.tup vn,kA.tup vt,gP.TY (kS XM _)⟩
end
end gK
namespace L2
open PySem PySem.Spec PyProof.Rows
def Ks:List V->List V->Bool
 | [],[]=>true
 | x::xs,y::ys=>xR x y && Ks xs ys
 | _,_=>false
theorem uF:∀(xs ys:List V),((List.range (min xs.length ys.length)).all (λj=>xR (xs.getD j .d6) (ys.getD j .d6)) && (xs.length == ys.length))=Ks xs ys
 | [],[]=>rfl
 | [],y::ys=>by simp [Ks]
 | x::xs,[]=>by simp [Ks]
 | x::xs,y::ys=>by
  have ih:=uF xs ys;show _=(xR x y && Ks xs ys);rw [<-ih,dM,dM,Nat.succ_min_succ,List.range_succ_eq_map,List.all_cons,List.all_map];simp only [Function.comp_def,List.getD_cons_zero,List.getD_cons_succ,Nat.succ_eq_add_one];rw [Bool.and_assoc]
  congr 2
  simp
def Ap {A:Around}{s:Shared}{xs ys:List V}{aU cH:List Value}(r:a_ xs aU)(r2:a_ ys cH)(fx:xs.all iR=true)(fy:ys.all iR=true) (j:Nat)(h1:j < aU.toArray.size)(h2:j < cH.toArray.size) :
  SeqAt.EqAt A s aU.toArray[j] cH.toArray[j] (xR (xs.getD j .d6) (ys.getD j .d6)):=by
 have l1:=r.length;have l2:=r2.length;have k1:j < aU.length:=by simpa using h1
 have k2:j < cH.length:=by simpa using h2
 have g1:xs[j]?=some (xs[j]'∅):=b_ ∅;have g2:ys[j]?=some (ys[j]'∅):=b_ ∅;obtain⟨u1,e1,q1⟩:=r.get g1;obtain⟨u2,e2,q2⟩:=r2.get g2;have f1:aU.toArray[j]=u1:=by
  have:=(bq.mp e1).2;simpa using this
 have f2:cH.toArray[j]=u2:=by
  have:=(bq.mp e2).2;simpa using this
 rw [f1,f2];have d1:xs.getD j .d6=xs[j]'∅:=by rw [wL,g1];rfl
 have d2:ys.getD j .d6=ys[j]'∅:=by rw [wL,g2];rfl
 rw [d1,d2];exact As q1 q2 (gB.mp fx _ (oS _)) (gB.mp fy _ (oS _))
def rTT (K:a9)(neg:Bool):R2:=λx y H Q=>∃a b xs ys,x=.ref a/\y=.ref b/\aQ K H a xs/\aQ K H b ys/\xs.all iR=true/\ys.all iR=true/\Q (.bl (if neg then !Ks xs ys else Ks xs ys)) H
def IC {X:Cx}(hu:X.A.units < cLine):ji X (compareOp .NotEq) (rTT X.K true):=by
 intro ag s σ H x y v u Q I rx ry h;obtain⟨a,b,xs,ys,rfl,rfl,ha,hb,fx,fy,q⟩:=h;cases rx;cases ry;obtain⟨aU,r,pl,hz⟩:=I.tuple ha;obtain⟨cH,r2,tR,NJ⟩:=I.tuple hb;have l1:=r.length;have l2:=r2.length;refine SeqAt.RcNeAt.tuples (e:=λj=>xR (xs.getD j .d6) (ys.getD j .d6)) pl tR hu (λj h1 h2=>Ap r r2 fx fy j h1 h2) X.prog X.w X.xe _ ?_;have e:((List.range (min aU.toArray.size cH.toArray.size)).all (λj=>xR (xs.getD j .d6) (ys.getD j .d6)) && aU.toArray.size == cH.toArray.size)=Ks xs ys:=by
  rw [<-uF];simp only [bQ,<-l1,<-l2]
 rw [e];exact⟨.bl _,H,I,rfl,q⟩
def zM {X:Cx}(n:Nat)(hu:X.A.units+(n+1) < cLine):ji X (compareOp .Eq) (JT X.K true n):=by
 intro ag s σ H x y v u Q I rx ry h;obtain⟨a,b,xs,ys,rfl,rfl,ha,hb,p,q⟩:=h;cases rx;cases ry;obtain⟨aU,r,pl,hz⟩:=I.list ha;obtain⟨cH,r2,tR,NJ⟩:=I.list hb;have l1:=r.length;have l2:=r2.length;have lp:=aY p;refine SeqAt.eq_listAt (e:=λ_=>true) pl.isList tR.isList (by simp only [bQ];omega) ∅ (λj h1 h2=>jC r r2 p (λx y u v d r1 r2=>sS I n X.A.in1 x y u v d r1 r2 (by rw [oO];omega)) j h1 h2) ?_;have e:((List.range aU.toArray.size).all λ_=>true)=true:=by simp
 rw [e];exact⟨.bl true,H,I,rfl,q⟩
def LA (K:a9) (n:Nat):V->V->Hp->VK->Prop:=λx y H Q=>∃p q xs ys,x=.ref p/\y=.ref q/\aQ K H p xs/\aQ K H q ys/\Paired (uU K H n) xs ys/\Q (.bl false) H
def xr {X:Cx}(n:Nat)(hu:X.A.units+(n+1) < cLine):ji X (compareOp .NotEq) (LA X.K n):=by
 intro ag s σ H x y v u Q I rx ry h;obtain⟨a,b,xs,ys,rfl,rfl,ha,hb,p,q⟩:=h;cases rx;cases ry;obtain⟨aU,r,pl,hz⟩:=I.tuple ha;obtain⟨cH,r2,tR,NJ⟩:=I.tuple hb;have l1:=r.length;have l2:=r2.length;have lp:=aY p;refine SeqAt.RcNeAt.tuples (e:=λ_=>true) pl tR ∅ (λj h1 h2=>jC r r2 p (λx y u v d r1 r2=>sS I n X.A.in1 x y u v d r1 r2 (by rw [oO];omega)) j h1 h2) X.prog X.w X.xe _ ?_;have e:(!((List.range (min aU.toArray.size cH.toArray.size)).all (λ_=>true) && aU.toArray.size == cH.toArray.size))=false:=by
  have:aU.toArray.size=cH.toArray.size:=by simp only [bQ];omega
  rw [this];simp
 rw [e];exact⟨.bl false,H,I,rfl,q⟩
end L2
namespace gK
open PySem L2 M11
theorem AU:∀(ts:jD)(t:Tr),t∈ts.kN->sz t<=AV ts
 | .nil,t,h=>by cases h
 | .cons u r,t,h=>by
  unfold AV;rcases cz.mp h with e | e
  .rw [e];omega
  have:=AU r t e;omega
abbrev Lp:Stmt:=top 62
abbrev vQ:Stmt:=top 63
abbrev Lq:Stmt:=top 64
abbrev zo:Stmt:=top 65
abbrev Ln:Stmt:=top 66
section
def JK (K:a9):Sp:=λvs H Q _=>∃(R L:Addr)(rs as:List Addr)(a0:Addr)(aa:List aw)(ds:List Dd),vs=[.ref R,.ref L]/\aI K H R (rs.map V.ref)/\bH K H rs aa/\(∀ru∈aa,ru.2.length<=8)/\aa.length<=1000/\Of K H L as a0 ds/\(∀d∈ds,tG aa d)/\ds.length<=900 /\
 ∀H',aC H H'->(Ji (gr aa ds [])=none->Q .d6 H')/\∀t v,Ji (gr aa ds [])=some t->fU K H' t v->Q v H'
def xb:aK ["_law_rules","_law_deeds_here","_law_heads","_law_pile","_law_deed"] ["_law_rules","_law_deeds_here"] (av Lp):=iq rfl rfl rfl rfl (by decide +kernel)
def LU (F:g9 K "_law_due" "_law_due" Lp f fd)(T:Txt mg)(GP:aB P w K mg base 2 "_law_piled" ["_law_rules","_law_heads","_law_pile","_law_deed"] (qA K)):bN P w K mg base fj 3 f fd ["_law_rules","_law_deeds_here"] (JK K):=by
 refine F.ok xb (λvs H Q E h=>?_) (λdU A outer s H vs Q E hr h=>?_)
 .obtain⟨R,L,rs,as,a0,aa,ds,rfl,_⟩:=h;rfl
 obtain⟨R,L,rs,as,a0,aa,ds,rfl,hR,b9,h8,br,D0,HJ,dl,q⟩:=h;have tS:=pX (rj (by decide:1+1<=64) _) hr.units;refine⟨_,ai (iz (iy:=2) ["_law_head","_law_parts"] [] xb.nd rfl rfl rfl (aZ (pv 0)) (bp rfl rfl) (by decide +kernel) rfl (by decide +kernel)
   (λ_ _ _ _ _=>fI (n:=2) K rfl (aE (aq (i:=0) (show (["_law_head","_law_parts"]:List Str).Nodup by decide +kernel) rfl (bx rfl)) (aE (aq (i:=1) (show (["_law_head","_law_parts"]:List Str).Nodup by decide +kernel) rfl (bx rfl)) b8))) (λ_ _ _ _ _=>bX) (λ_ _ _ _ _=>pv 0))
  (ai (aA (i:=3) xb.nd rfl (bx rfl) (bc ah))
  (ai (bw (aV (rX 1 tS) (dX ix (pv 1) (dQ (j7 il ao)) gb) (bc (ab (bC (ab bT ah)) ah)) (bu _)) (ak (aL je)) aM)
  (ai (bO bZ rfl (aZ (dX ix (pv 1) gb (dQ (j7 il ao)))) (aq (i:=4) xb.nd rfl (bx rfl))
   (ai (aA (i:=3) xb.nd rfl (bx rfl) (a8 GP hr rfl (ab (pv 0) (ab (pv 2) (ab (pv 3) (ab (pv 4) ah))))))
   (ak (bw (cY (rW (pv 3))) (ak (aL je)) aM))))
  (ai (bw (PW.pt (jt (aV uq (aD aG rfl T.len cS (ab (pv 3) ah)) ao (bu _)) (ip (gi (cX (aD cv rfl T.CJ jm (ab (aF bo (pv 3) ao (λ_ _=>rfl)) (ab (fK (v:=.ty "tuple") rfl T.tup qR rfl) ah)))))))) (ak (aL je)) aM)
  (ak (aL (aF bo (pv 3) ao (λ_ _=>rfl)))))))),?_⟩
 nofun
 have ll:=aY b9;refine⟨_,rfl,R,rfl,⟨_,hR⟩,λN hN=>jQ hR b9 ∅ hN λH1 s1 eN=>?_⟩;refine goN ?_
 ac_rfl
 refine⟨o6,λPl MA=>?_⟩;have k2:=af MA (.lst []);have Hz:=k2 _ _ eN;have N3:upd H1 Pl (.lst []) Pl=some (.lst []):=ae;generalize upd H1 Pl (.lst [])=H2 at k2 Hz N3;have s2:=s1.trans k2;refine goN ?_
 ac_rfl
 refine⟨_,rfl,_,rfl,_,rfl,L,_,rfl,s2.seq D0.hL,λC1 Qv=>?_⟩;rw [uI];have k3:=af Qv (.lst [V.ref a0]);have e3:upd H2 C1 (.lst [V.ref a0]) C1=some (.lst [V.ref a0]):=ae;generalize upd H2 C1 (.lst [V.ref a0])=H3 at k3 e3;refine⟨vi,λt1 NL=>⟨vi,λC2 MJ=>?_⟩⟩;have k4:=(af NL (.tup [V.str "done"])).trans (af MJ (.lst [V.ref t1]));have et:aQ K (upd (upd H3 t1 (.tup [V.str "done"])) C2 (.lst [V.ref t1])) t1 [.str "done"]:=(af MJ _).tup (aQ.of ae);have KA:upd (upd H3 t1 (.tup [V.str "done"])) C2 (.lst [V.ref t1]) C2=some (.lst [V.ref t1]):=ae;generalize upd (upd H3 t1 (.tup [V.str "done"])) C2 (.lst [V.ref t1])=H4 at k4 et KA;have Ym:=k3.trans k4;have s4:=s2.trans Ym;refine⟨C1,C2,_,_,rfl,rfl,aI.of (k4 _ _ e3),aI.of KA,.cons (.inr ⟨a0,t1,_,_,rfl,rfl,.inr ⟨s4.tup D0.dn,et⟩,.cons (uU.self (.inl rfl) 0) .nil⟩) .nil,false,rfl,?_⟩;refine c_ ?_;refine⟨_,rfl,_,rfl,_,rfl,L,_,rfl,s4.seq D0.hL,λC3 MI=>?_⟩;rw [uJ];have k5:=af MI (.lst (as.map V.ref));have Na:upd H4 C3 (.lst (as.map V.ref)) C3=some (.lst (as.map V.ref)):=ae;generalize upd H4 C3 (.lst (as.map V.ref))=H5 at k5 Na;have s5:=s4.trans k5;have Yl:=Ym.trans k5;have Uy:=aY D0.pr;refine⟨C3,rfl,⟨_,aI.of Na⟩,?_⟩;refine cC (xs:=as.map V.ref) (λi σ H9=>∃(Pl:Addr)(us:List V)(ts:List Tr)(y4:Option V),σ=[aP R,aP L,aP N,aP Pl,y4]/\aC H5 H9/\H9 Pl=some (.lst us)/\jT K H9 us ts/\gr aa (ds.take i) []=some ts/\us.length<=i) ⟨Pl,[],[],none,rfl,aC.refl H5,Yl _ _ N3,.nil,rfl,aH _⟩ ?_ ?_ ?_
 .rintro i σ H9 _ ⟨Pl,us,ts,y4,rfl,s9,_⟩;exact aI.of (s9 _ _ Na)
 .intro i x σ H9 ex jP
  ac_nf0
  obtain⟨Pl,us,ts,y4,rfl,s9,xT,DF,pj,l9⟩:=jP;rw [bh] at ex;obtain⟨a,ea,rfl⟩:=cg.mp ex;have li:=(bq.mp ea).1;obtain⟨de,Jj⟩:∃de,ds[i]?=some de:=⟨ds[i]'∅,b_ ∅⟩;obtain⟨a',Kv,va⟩:=Paired.at_ D0.pr i de Jj;rw [ea] at Kv;cases Kv;have TR:=HJ de (cf Jj);have LN:=tN.gr (aa:=aa) tN.nil (λx hx=>HJ x (pZ hx)) pj;have Im:=s5.trans s9;have M9:Np K H9 R N Pl rs aa us ts:=⟨Im.seq hR,b9.same Im,s9 _ _ (Yl _ _ Hz),xT,DF,∅,h8,br,λj cs h=>LN.top h⟩;refine goN ?_
  ac_rfl
  refine⟨_,rfl,_,rfl,_,rfl,_,rfl,R,N,Pl,a,rs,aa,us,ts,de,rfl,M9,l8.keep (λ_ _ y=>Im.tup y) va,TR,λHA sA e=>?_,λP' HA gS fA sA e NW M6 JV l'=>?_⟩
  .refine⟨_,rfl,_,rfl,?_⟩;refine g6 ?_;refine(q HA (Im.trans sA)).1 ?_;rw [xj Jj pj e];rfl
  refine⟨_,rfl,_,rfl,?_⟩;refine c_ ?_;refine⟨P',gS,fA,_,rfl,s9.trans sA,M6,JV,?_,∅⟩;rw [cR,Jj];show gr aa (ds.take i++[de]) []=_;rw [nH,pj];show gr aa [de] ts=_;rw [xl,e]
 rintro σ H9 ⟨Pl,us,ts,y4,rfl,s9,xT,DF,pj,l9⟩;rw [au,Uy,cQ] at pj;have lp:=aY DF;have hq:=q H9 (s5.trans s9);rw [pj] at hq;refine⟨_,rfl,Pl,_,rfl,.inl (aI.of xT),rfl,!decide (us.length=1),?_,?_⟩
 .show V.bl (!decide (V.int (us.length:Int)=V.int 1))=V.bl (!decide (us.length=1));by_cases h:us.length=1
  .rw [bV h,bV (by rw [h];rfl)]
  rw [di h,di (λy=>h (by injection y with y2;omega))]
 refine bY (λc=>?_) (λc=>?_)
 .have n1:us.length≠1:=λh=>by rw [bV h] at c;cases c
  refine hq.1 ?_
  match ts,lp with
  | [],_=>rfl
  | [t],lp=>exact absurd lp n1
  | a::_::_,_=>cases a <;> rfl
 have l1:us.length=1:=by
  cases hh:decide (us.length=1) with
  | true=>exact dq hh
  | false=>rw [hh] at c;exact absurd rfl c
 match us,ts,l1,lp,DF,xT,hq with
 | [u],[t],_,_,.cons tv .nil,xT,hq =>
  have tX:jR [u] 0=some u:=bS (j:=0) rfl;cases t with
  | w z =>
   unfold fU at tv;subst tv;refine⟨_,rfl,Pl,_,_,_,rfl,rfl,aI.of xT,tX,.str z,"str","tuple",false,rfl,.str z,FR,false,rfl,?_⟩;refine g6 ?_;exact hq.1 rfl
  | n k cs =>
   have JD:=tv;unfold fU at JD;obtain⟨a,p,vs,rfl,ha,hp,_⟩:=JD;refine⟨_,rfl,Pl,_,_,_,rfl,rfl,aI.of xT,tX,.ref a,"tuple","tuple",true,rfl,.tup ha,fu,true,rfl,?_⟩;refine c_ ?_;exact⟨_,rfl,Pl,_,_,_,rfl,rfl,aI.of xT,tX,hq.2 _ _ rfl tv⟩
def rK (K:a9) (n:Nat):Sp:=λvs H Q _=>∃(v:V)(t:Tr),vs=[v]/\fU K H t v/\dp t < n/\sz t<=1000/\∀(D:Addr)(as:List Addr)(H':Hp),H D=none->aC H H'->H' D=some (.lst (as.map V.ref))->Paired (λa d=>l8 K H' a d) as (mM t)->Q (.ref D) H'
def nv:aK ["_law_tree","_law_deeds_here","_law_child"] ["_law_tree"] (av vQ):=iq rfl rfl rfl rfl (by decide +kernel)
theorem uu (F:g9 K "_law_deeds" "_law_deeds" vQ f fd)(T:Txt mg)(b1:Binds K fd ["_law_tree"] [])(m1:mg "_law_deeds"=some (.ref f)):∀n,bN P w K mg base fj n f fd ["_law_tree"] (rK K n)
 | 0=>⟨λvs H Q E ⟨_,_,e,_⟩=>by rw [e];rfl,λA outer s H args us vs Q E _ _ _ _ ⟨_,_,_,_,h,_⟩=>absurd h (Nat.not_lt_zero _)⟩
 | n+1=>by
  have G:aB P w K mg base n "_law_deeds" ["_law_tree"] (rK K n):=⟨f,fd,uu F T b1 m1 n,b1,F.kp,m1⟩;refine F.ok nv (λvs H Q E h=>?_) (λdU A outer s H vs Q E hr h=>?_)
  .obtain⟨_,_,rfl,_⟩:=h;rfl
  obtain⟨v,t,rfl,ht,Vv,hsz,q⟩:=h;refine⟨_,ai (bw (cX (aD cv rfl T.CJ jm (ab (pv 0) (ab (fK (v:=.ty "str") rfl T.str iS rfl) ah)))) (ak (aL (bc (ab (bC (ab bT (ab (pv 0) ah))) ah)))) aM)
   (ai (aA (i:=1) nv.nd rfl (bx rfl) (bc ah))
   (ai (bO bZ rfl (gH (aF aN (pv 0) ao (λ_ _=>rfl))) (aq (i:=2) nv.nd rfl (bx rfl))
    (ak (aA (i:=1) nv.nd rfl (bx rfl) (aX iM (pv 1) (a8 G hr rfl (ab (pv 2) ah))))))
   (ak (aL (aX iM (pv 1) (bc (ab (bC (ab bT (ab (aF aN (pv 0) ao (λ_ _=>rfl)) ah))) ah))))))),?_⟩
  nofun
  cases t with
  | w z =>
   unfold fU at ht;subst ht;refine⟨_,rfl,.str z,"str","str",true,rfl,.str z,fu,true,rfl,?_⟩;refine g6 ?_;refine⟨_,rfl,kb,λu hu=>⟨vi,λD hD=>?_⟩⟩;have k1:=af hu (.tup [V.str "step",V.str z]);have e1:aQ K (upd H u (.tup [V.str "step",V.str z])) u [.str "step",.str z]:=aQ.of ae;generalize upd H u (.tup [V.str "step",V.str z])=H1 at k1 e1 hD;refine q D [u] _ (k1.free hD) (k1.trans (af hD _)) ae ?_;unfold mM;exact .cons ((af hD _).tup e1) .nil
  | n k cs =>
   have Hh:=qN (.n k cs);unfold fU at ht;obtain⟨a,p,us,rfl,ha,hp,CU⟩:=ht;have JW:=gP.paired cs CU;have lcs:=aY JW;have wJ:1+DN cs < n+1:=by unfold dp at Vv;exact Vv
   have hs1:1+AV cs<=1000:=by unfold sz at hsz;exact hsz
   refine⟨_,rfl,.ref a,"tuple","str",false,rfl,.tup ha,pD,false,rfl,?_⟩;refine c_ ?_;refine⟨o6,λL hL=>?_⟩;have k1:=af hL (.lst []);have e1:upd H L (.lst []) L=some (.lst []):=ae;generalize upd H L (.lst [])=H1 at k1 e1;refine⟨_,rfl,a,_,_,_,rfl,rfl,k1.tup ha,rfl,p,rfl,⟨_,k1.tup hp⟩,?_⟩;refine qM (xs:=us) (λi σ H5=>∃(D:Addr)(as:List Addr)(y2:Option V),σ=[aP a,aP D,y2]/\aC H H5/\H D=none/\H5 D=some (.lst (as.map V.ref))/\Paired (λa d=>l8 K H5 a d) as ((cs.kN.take i).flatMap mM)) ⟨L,[],none,rfl,k1,hL,e1,.nil⟩ ?_ ?_ ?_
   .rintro i σ H5 _ ⟨D,as,y2,rfl,s5,_⟩;exact s5.tup hp
   .intro i x σ H5 ex jP
    ac_nf0
    obtain⟨D,as,y2,rfl,s5,fD,eD,pd⟩:=jP;have li:=(bq.mp ex).1;obtain⟨tc,V4⟩:∃tc,cs.kN[i]?=some tc:=⟨cs.kN[i]'∅,b_ ∅⟩;obtain⟨x',MT,tv⟩:=Paired.at_ JW i tc V4;rw [ex] at MT;cases MT;have lG:=cf V4;have d1:=Gy cs tc lG;have z1:=AU cs tc lG;have tot:((cs.kN.take (i+1)).flatMap mM).length<=1000:=by
     have h1:((cs.kN.take (i+1)).flatMap mM).length<=(cs.kN.flatMap mM).length:=by
      conv=>rhs;rw [<-rq (i+1) cs.kN,jY,bL]
      omega
     rw [<-ox,oy] at h1;omega
    refine goN ?_
    ac_nf
    refine⟨_,rfl,_,rfl,x,tc,rfl,fU.keep (λ_ _ z=>s5.tup z) tc tv,∅,∅,λD2 Z7 H6 f6 s6 e6 p6=>?_⟩;have Sj:=s6 _ _ eD;have DG:=aY pd;have l26:=aY p6;have Gq:(cs.kN.take (i+1)).flatMap mM=(cs.kN.take i).flatMap mM++mM tc:=by
     rw [cR,V4,jY];simp
    rw [Gq,bL] at tot;refine⟨D,D2,_,_,rfl,rfl,Sj,e6,fits (by rw [au,au];omega),λD3 Ag=>?_⟩;rw [<-bF];have k7:=af Ag (.lst ((as++Z7).map V.ref));refine⟨D3,as++Z7,_,rfl,(s5.trans s6).trans k7,(s5.trans s6).free Ag,ae,?_⟩;rw [Gq];exact du (Paired.dI pd λ_ _ z=>l8.keep (λ_ _ y=>k7.tup (s6.tup y)) z) (Paired.dI p6 λ_ _ z=>l8.keep (λ_ _ y=>k7.tup y) z)
   rintro σ H5 ⟨D,as,y2,rfl,s5,fD,eD,pd⟩;rw [show us.length=cs.kN.length from lcs,cQ,<-ox] at pd;have DG:=aY pd;have RE:=oy cs;refine⟨_,rfl,_,rfl,a,_,_,_,rfl,rfl,s5.tup ha,rfl,kb,λu hu=>⟨vi,λL2 Jc=>?_⟩⟩;have k6:=(af hu (.tup [V.str "make",V.int (k:Int)])).trans (af Jc (.lst [V.ref u]));have vu:aQ K (upd (upd H5 u (.tup [V.str "make",V.int (k:Int)])) L2 (.lst [V.ref u])) u [.str "make",.int (k:Int)]:=(af Jc _).tup (aQ.of ae);have e6:upd (upd H5 u (.tup [V.str "make",V.int (k:Int)])) L2 (.lst [V.ref u]) L2=some (.lst [V.ref u]):=ae;generalize upd (upd H5 u (.tup [V.str "make",V.int (k:Int)])) L2 (.lst [V.ref u])=H6 at k6 vu e6;refine⟨D,L2,_,_,rfl,rfl,k6 _ _ eD,e6,fits (by rw [au];show _+1<=1000000;omega),λD3 Ag=>?_⟩;have k7:=af Ag (.lst (as.map V.ref++[V.ref u]));refine q D3 (as++[u]) _ ((s5.trans k6).free Ag) ((s5.trans k6).trans k7) (by rw [ae,bF];rfl) ?_;rw [KH];exact du (Paired.dI pd λ_ _ z=>l8.keep (λ_ _ y=>k7.tup (k6.tup y)) z) (.cons (show aQ K _ u [.str "make",.int (k:Int)] from k7.tup vu) .nil)
def i6 (ks:List Nat):List V:=ks.map λk:Nat=>V.int (k:Int)
def JL (K:a9):Sp:=λvs H Q _=>∃(R N Pl:Addr)(rs:List Addr)(aa:List aw)(us:List V)(ts:List Tr),vs=[.ref R,.ref N,.ref Pl]/\Np K H R N Pl rs aa us ts /\
 ∀(D:Addr)(ks:List Nat)(H':Hp),H D=none->aC H H'->H' D=some (.lst (i6 ks))->ks.length<=aa.length->(∀k∈ks,k < aa.length/\∃fA,pM aa ts (.make k)=some fA)->Q (.ref D) H'
def Ez:aK ["_law_rules","_law_heads","_law_pile","_law_found","_law_number"] ["_law_rules","_law_heads","_law_pile"] (av Lq):=iq rfl rfl rfl rfl (by decide +kernel)
def LV (F:g9 K "_law_can" "_law_can" Lq f fd)(T:Txt mg)(GP:aB P w K mg base 2 "_law_piled" ["_law_rules","_law_heads","_law_pile","_law_deed"] (qA K)):bN P w K mg base fj 3 f fd ["_law_rules","_law_heads","_law_pile"] (JL K):=by
 refine F.ok Ez (λvs H Q E h=>?_) (λdU A outer s H vs Q E hr h=>?_)
 .obtain⟨R,N,Pl,rs,aa,us,ts,rfl,_⟩:=h;rfl
 obtain⟨R,N,Pl,rs,aa,us,ts,rfl,M,q⟩:=h;have hu:=uZ (fR hr);have sr:=M.sr;have ll:=aY M.b9;refine⟨_,ai (aA (i:=3) Ez.nd rfl (bx rfl) (bc ah))
  (ai (bO bZ rfl (gY rfl T.DE (ab (aD aG rfl T.len cS (ab (pv 0) ah)) ah)) (aq (i:=4) Ez.nd rfl (bx rfl))
   (ak (bw (PW.pt (iJ (cY (Bq (a8 GP hr rfl (ab (pv 0) (ab (pv 1) (ab (pv 2) (ab (bC (ab bT (ab (pv 4) ah))) ah))))))) (gE (aV (IC hu) (aF aN (aF bo (pv 0) (pv 4) (λ_ _=>rfl)) ao (λ_ _=>rfl)) (bC ah) (bu _)))))
    (ak (bW (fq eF fY fZ bJ (pv 3) (ab (pv 4) ah)))) aM)))
  (ak (aL (pv 3)))),?_⟩
 nofun
 refine⟨o6,λL hL=>?_⟩;have k1:=af hL (.lst []);have e1:upd H L (.lst []) L=some (.lst []):=ae;generalize upd H L (.lst [])=H1 at k1 e1;refine⟨_,rfl,R,_,rfl,.inl (k1.seq M.hR),((rs.map V.ref).length:Int),rfl,by rw [au];omega,by rw [au];omega,?_⟩;rw [show (((rs.map V.ref).length:Nat):Int).toNat=aa.length by rw [au];omega];refine g7 (n:=aa.length) (λi σ H5=>∃(ks:List Nat)(y4:Option V),σ=[aP R,aP N,aP Pl,aP L,y4]/\aC H H5/\H5 L=some (.lst (i6 ks))/\ks.length<=i/\∀k∈ks,k < aa.length/\∃fA,pM aa ts (.make k)=some fA) ⟨[],none,rfl,k1,e1,aH _,λk h=>by cases h⟩ ?_ ?_
 .intro i σ H5 hi jP
  ac_nf0
  obtain⟨ks,y4,rfl,s5,e5,l5,m5⟩:=jP;have er:aa[i]?=some aa[i]:=b_ hi;generalize i7:aa[i]=ru at er;refine goN ?_
  ac_nf
  refine⟨_,rfl,_,rfl,_,rfl,_,rfl,kb,λu tS=>?_⟩;have k6:=af tS (.tup [V.str "make",V.int (0+(i:Int))]);have e6:aQ K (upd H5 u (.tup [V.str "make",V.int (0+(i:Int))])) u [.str "make",.int (i:Int)]:=by
   have:aQ K (upd H5 u (.tup [V.str "make",V.int (0+(i:Int))])) u [.str "make",.int (0+(i:Int))]:=aQ.of ae;rw [ja] at this ⊢;exact this
  generalize upd H5 u (.tup [V.str "make",V.int (0+(i:Int))])=H6 at k6 e6;have s6:=s5.trans k6;refine⟨R,N,Pl,u,rs,aa,us,ts,.make i,rfl,M.same s6,e6,hi,λH7 s7 e=>?_,λP' H7 gS fA s7 e fP eP JV l'=>?_⟩
  .refine⟨false,rfl,?_⟩;refine c_ ?_;exact⟨ks,_,rfl,s6.trans s7,(k6.trans s7) _ _ e5,∅,m5⟩
  refine⟨true,rfl,?_⟩;refine g6 ?_;have Bk:=s6.trans s7;have M7:=M.same Bk;obtain⟨r,err,p,v1,v2⟩:=Paired.at_ M7.b9 i ru er;have tM:jR (rs.map V.ref) (0+(i:Int))=some (.ref r):=by
   rw [ja];exact bS (by rw [bh,err];rfl)
  refine⟨_,rfl,_,rfl,R,_,_,_,rfl,rfl,M7.hR,tM,r,_,_,_,rfl,rfl,v1,rfl,o6,λt0 UW=>?_⟩;have k8:=af UW (.tup []);have e8:aQ K (upd H7 t0 (.tup [])) t0 []:=aQ.of ae;generalize upd H7 t0 (.tup [])=H8 at k8 e8;have Wq:=(k6.trans (s7.trans k8)) _ _ e5;refine⟨p,t0,_,_,rfl,rfl,k8.tup v2,e8,cM _,rfl,_,rfl,?_⟩;refine bY (λ_=>?_) (λ_=>?_)
  .refine⟨_,rfl,.inl ⟨rfl,_,aI.of Wq⟩,_,rfl,L,_,_,rfl,rfl,Wq,bK (by unfold i6;rw [au];omega),?_⟩;refine⟨ks++[i],_,rfl,?_,?_,by rw [bL,fO];omega,λk hk=>?_⟩
   .intro b o hb;rw [aj (λz=>by rw [z,hL] at hb;cases hb)];exact(Bk.trans k8) b o hb
   .rw [ae];unfold i6;rw [bF,ja];rfl
   rcases cA.mp hk with h | h
   .exact m5 k h
   rw [bU.mp h];exact⟨hi,fA,e⟩
  exact⟨ks,_,rfl,Bk.trans k8,Wq,∅,m5⟩
 rintro σ H5 ⟨ks,y4,rfl,s5,e5,l5,m5⟩;exact⟨_,rfl,q L ks H5 hL s5 e5 l5 m5⟩
def WT {ks:List Nat}(h:ks≠[]) (n:Int):(0:Int) < ((i6 ks).length:Int)/\∃k∈ks,jR (i6 ks) (n % ((i6 ks).length:Int))=some (.int (k:Int)):=by
 have l0:0 < ks.length:=List.length_pos_iff.mpr h;have le:(i6 ks).length=ks.length:=by unfold i6;rw [au]
 have hp:(0:Int) < (ks.length:Int):=by omega
 have lt:(n % (ks.length:Int)).toNat < ks.length:=by
  have:=Int.emod_lt_of_pos n hp;have:=Int.emod_nonneg n (show (ks.length:Int)≠0 ∅);omega
 have eN:(((n % (ks.length:Int)).toNat:Nat):Int)=n % (ks.length:Int):=by
  have:=Int.emod_nonneg n (show (ks.length:Int)≠0 ∅);omega
 rw [le];refine⟨hp,ks[(n % (ks.length:Int)).toNat],oS lt,?_⟩;have:=bS (xs:=i6 ks) (j:=(n % (ks.length:Int)).toNat) (v:=.int ((ks[(n % (ks.length:Int)).toNat]:Nat):Int)) (by unfold i6;rw [bh,b_ lt];rfl);rw [eN] at this;exact this
def Bu {ks:List Nat}(h:(!(i6 ks).isEmpty)=true):ks≠[]:=λz=>by rw [z] at h;cases h
def Jo (ns:List Int):∃cs:List Int,gw (ns.map V.int) (some 8) (some 48)=cs.map V.int/\cs.length<=40:=by
 refine⟨(ns.drop (min 8 ns.length)).take (min 48 ns.length - min 8 ns.length),?_,?_⟩
 .unfold gw;rw [show (some (8:Int))=some ((8:Nat):Int) from rfl,show (some (48:Int))=some ((48:Nat):Int) from rfl,HT.jK,HT.jK,au,<-List.map_drop,<-oJ]
 rw [dN];omega
structure lJ (K:a9)(H H5:Hp)(N Pl L C:Addr)(aa:List aw)(cs:List Int)(us:List V)(ts:List Tr)(as:List Addr)(ds:List Dd):Prop where
 s:aC H H5
 hN:H5 N=some (.lst ((hm aa).map V.str))
 hC:H5 C=some (.lst (cs.map V.int))
 hP:H5 Pl=some (.lst us)
 pl:jT K H5 us ts
 hL:H5 L=some (.lst (as.map V.ref))
 pr:Paired (λa d=>l8 K H5 a d) as ds
 ok:∃es,tN aa es ts
 dk:∀d∈ds,tG aa d
 nN:N≠L
 nC:C≠L
 nP:Pl≠L
 fL:H L=none
section
variable {H H5 H6:Hp}{N Pl L C:Addr}{aa:List aw}{cs:List Int}{us:List V}{ts:List Tr}{as:List Addr}{ds:List Dd}
def lJ.same (h:lJ K H H5 N Pl L C aa cs us ts as ds)(s6:aC H5 H6):lJ K H H6 N Pl L C aa cs us ts as ds :=
 ⟨h.s.trans s6,s6 _ _ h.hN,s6 _ _ h.hC,s6 _ _ h.hP,jT.keep (λ_ _ z=>s6.tup z) h.pl,s6 _ _ h.hL,Paired.dI h.pr λ_ _ z=>l8.keep (λ_ _ y=>s6.tup y) z,h.ok,h.dk,h.nN,h.nC,h.nP,h.fL⟩
def lJ.push (h:lJ K H H5 N Pl L C aa cs us ts as ds){a:Addr}{de:Dd}(va:l8 K H5 a de)(ok:tG aa de):lJ K H (upd H5 L (.lst (as.map V.ref++[.ref a]))) N Pl L C aa cs us ts (as++[a]) (ds++[de]):=by
 have kp:∀b xs,aQ K H5 b xs->aQ K (upd H5 L (.lst (as.map V.ref++[.ref a]))) b xs:=λ_ _ z=>aT h.hL z;refine⟨λb o hb=>?_,?_,?_,?_,jT.keep kp h.pl,?_,?_,h.ok,λd hd2=>?_,h.nN,h.nC,h.nP,h.fL⟩
 .rw [aj (λz=>by rw [z,h.fL] at hb;cases hb)];exact h.s b o hb
 .rw [aj h.nN];exact h.hN
 .rw [aj h.nC];exact h.hC
 .rw [aj h.nP];exact h.hP
 .rw [ae,bF];rfl
 .exact du (Paired.dI h.pr λ_ _ z=>l8.keep kp z) (.cons (l8.keep kp va) .nil)
 rcases cA.mp hd2 with q | q
 .exact h.dk d q
 rw [bU.mp q];exact ok
def lJ.cW (h:lJ K H H5 N Pl L C aa cs us ts as ds){P':Addr}{gS:List V}{fA:List Tr}(e:H5 P'=some (.lst gS))(p:jT K H5 gS fA)(n:P'≠L)(ok:∃es,tN aa es fA):lJ K H H5 N P' L C aa cs gS fA as ds :=
 ⟨h.s,h.hN,h.hC,e,p,h.hL,h.pr,ok,h.dk,h.nN,h.nC,n,h.fL⟩
def lJ.pd (h:lJ K H H5 N Pl L C aa cs us ts as ds){R:Addr}{rs:List Addr}(hR:aI K H R (rs.map V.ref))(b9:bH K H rs aa)(fw:us.length<=1000)(sh:∀ru∈aa,ru.2.length<=8)(sr:aa.length<=1000):Np K H5 R N Pl rs aa us ts:=by
 obtain⟨es,o⟩:=h.ok;exact⟨h.s.seq hR,b9.same h.s,h.hN,h.hP,h.pl,fw,sh,sr,λj cs z=>o.top z⟩
end
def Bd (K:a9):Sp:=λvs H Q _=>∃(R S:Addr)(rs:List Addr)(aa:List aw)(ns:List Int),vs=[.ref R,.ref S]/\aI K H R (rs.map V.ref)/\bH K H rs aa/\(∀ru∈aa,ru.2.length<=8)/\aa.length<=1000/\1<=aa.length/\aI K H S (ns.map V.int)/\ns.length<=1000/\(∀c,c=cellAt ns 0->∀z∈gJ c,z∉hd aa) /\
 ∀(D:Addr)(as:List Addr)(ds:List Dd)(H':Hp),H D=none->aC H H'->H' D=some (.lst (as.map V.ref))->Paired (λa d=>l8 K H' a d) as ds->(∀d∈ds,tG aa d)->ds.length<=60->Q (.ref D) H'
def fg:aK ["_law_rules","_law_script","_law_heads","_law_pile","_law_deeds_here","_law_cell","_law_can_here","_law_deed","_law_there","_law_k"] ["_law_rules","_law_script"] (av zo):=iq rfl rfl rfl rfl (by decide +kernel)
def Fv (F:g9 K "_law_drawn" "_law_drawn" zo f fd)(T:Txt mg)(GP:aB P w K mg base 3 "_law_piled" ["_law_rules","_law_heads","_law_pile","_law_deed"] (qA K))(GA:aB P w K mg base 3 "_law_can" ["_law_rules","_law_heads","_law_pile"] (JL K))
  (GC:aB P w K mg base 3 "_law_cell_at" ["_law_script","_law_k"] (rL K))(GW:aB P w K mg base 3 "_law_words" ["_law_cell"] rF):bN P w K mg base fj 4 f fd ["_law_rules","_law_script"] (Bd K):=by
 refine F.ok fg (λvs H Q E h=>?_) (λdU A outer s H vs Q E hr h=>?_)
 .obtain⟨R,S,rs,aa,ns,rfl,_⟩:=h;rfl
 obtain⟨R,S,rs,aa,ns,rfl,hR,b9,h8,br,h1,hS,hn,hw,q⟩:=h;have hu:=uZ (fR hr);have ll:=aY b9;refine⟨_,ai (iz (iy:=2) ["_law_head","_law_parts"] [] fg.nd rfl rfl rfl (aZ (pv 0)) (bp rfl rfl) (by decide +kernel) rfl (by decide +kernel)
   (λ_ _ _ _ _=>fI (n:=2) K rfl (aE (aq (i:=0) (show (["_law_head","_law_parts"]:List Str).Nodup by decide +kernel) rfl (bx rfl)) (aE (aq (i:=1) (show (["_law_head","_law_parts"]:List Str).Nodup by decide +kernel) rfl (bx rfl)) b8))) (λ_ _ _ _ _=>bX) (λ_ _ _ _ _=>pv 0))
  (ai (aA (i:=3) fg.nd rfl (bx rfl) (bc ah))
  (ai (aA (i:=4) fg.nd rfl (bx rfl) (bc ah))
  (ai (bO bZ rfl (aZ (dX ix (pv 1) (dQ ao) (dQ ao))) (aq (i:=5) fg.nd rfl (bx rfl))
   (ai (aA (i:=6) fg.nd rfl (bx rfl) (a8 GA hr rfl (ab (pv 0) (ab (pv 2) (ab (pv 3) ah)))))
   (ai (aA (i:=7) fg.nd rfl (bx rfl) (bC (ab bT (ab (aF bo (a8 GW hr rfl (ab (a8 GC hr rfl (ab (pv 1) (ab ao ah))) ah)) (aX cZ (aX dS (pv 5) ao) ao) (λ_ _=>rfl)) ah))))
   (ai (nK (bw (aV ij (aX cZ (pv 5) ao) ao (bu _)) (ak (aA (i:=7) fg.nd rfl (bx rfl) (bC (ab bT (ab (aX cZ (aX dS (pv 5) ao) (aD aG rfl T.len cS (ab (pv 0) ah))) ah))))) aM))
   (ai (nK (bw (PW.pt (iJ (aV (uo hu) (pv 6) (bc ah) (bu _)) (gE (PW.pt (jt (aV rY (aX cZ (pv 5) ao) ao (bu _)) (ip (PW.pt (iJ (aV ij (aX cZ (pv 5) ao) ao (bu _)) (gE (aV rY (aX cZ (a8 GC hr rfl (ab (pv 1) (ab ao ah))) ao) ao (bu _)))))))))))
    (ak (aA (i:=7) fg.nd rfl (bx rfl) (bC (ab bT (ab (aF bo (pv 6) (aX cZ (aX dS (pv 5) ao) (aD aG rfl T.len cS (ab (pv 6) ah))) (λ_ _=>rfl)) ah))))) aM))
   (ai (aA (i:=8) fg.nd rfl (bx rfl) (a8 GP hr rfl (ab (pv 0) (ab (pv 2) (ab (pv 3) (ab (pv 7) ah))))))
   (ai (bw (PW.pt (jt (cY (Bq (pv 8))) (ip (aV ij (aX cZ (a8 GC hr rfl (ab (pv 1) (ab ao ah))) ao) ao (bu _)))))
    (ai (bW (fq eF fY fZ bJ (pv 4) (ab (pv 7) ah)))
    (ak (aA (i:=3) fg.nd rfl (bx rfl) (pv 8)))) aM)
   (ak (bw (cY (rW (pv 3))) (ak (aL (pv 4))) aM)))))))))
  (ai (bO bZ rfl (gY rfl T.DE (ab ao ah)) (aq (i:=9) fg.nd rfl (bx rfl))
   (ai (aA (i:=6) fg.nd rfl (bx rfl) (a8 GA hr rfl (ab (pv 0) (ab (pv 2) (ab (pv 3) ah)))))
   (ak (bw (PW.pt (iJ (aV (uo hu) (pv 6) (bc ah) (bu _)) (gE (aV rY (aD aG rfl T.len cS (ab (pv 3) ah)) ao (bu _)))))
    (ai (bW (fq eF fY fZ bJ (pv 4) (ab (bC (ab bT (ab (aF bo (pv 6) ao (λ_ _=>rfl)) ah))) ah)))
    (ak (aA (i:=3) fg.nd rfl (bx rfl) (a8 GP hr rfl (ab (pv 0) (ab (pv 2) (ab (pv 3) (ab (aF bo (pv 4) (j7 il ao) (λ_ _=>rfl)) ah)))))))) aM))))
  (ak (aL (pv 4))))))),?_⟩
 nofun
 refine⟨_,rfl,R,rfl,⟨_,hR⟩,λN hN=>jQ hR b9 ∅ hN λH1 s1 eN=>?_⟩;refine goN ?_
 ac_rfl
 refine⟨o6,λPl MA=>?_⟩;have k2:=af MA (.lst []);have Hz:=k2 _ _ eN;have N3:upd H1 Pl (.lst []) Pl=some (.lst []):=ae;generalize upd H1 Pl (.lst [])=H2 at k2 Hz N3;have s2:=s1.trans k2;refine⟨o6,λL hL=>?_⟩;have k3:=af hL (.lst []);have ZC:=k3 _ _ Hz;have ZA:=k3 _ _ N3;have M8:upd H2 L (.lst []) L=some (.lst []):=ae;have nN:N≠L:=λz=>by rw [<-z,Hz] at hL;cases hL
 have nP:Pl≠L:=λz=>by rw [<-z,N3] at hL;cases hL
 generalize upd H2 L (.lst [])=H3 at k3 ZC ZA M8;have s3:=s2.trans k3;refine⟨_,rfl,_,rfl,_,rfl,S,_,rfl,s3.seq hS,λC hC=>?_⟩;obtain⟨cs,ecs,lcs⟩:=Jo ns;rw [ecs];have k4:=af hC (.lst (cs.map V.int));have Wl:upd H3 C (.lst (cs.map V.int)) C=some (.lst (cs.map V.int)):=ae;have nC:C≠L:=λz=>by rw [z,M8] at hC;cases hC
 generalize upd H3 C (.lst (cs.map V.int))=H4 at k4 Wl;have D4:lJ K H H4 N Pl L C aa cs [] [] [] []:=⟨s3.trans k4,k4 _ _ ZC,Wl,k4 _ _ ZA,.nil,k4 _ _ M8,.nil,⟨[],tN.nil⟩,(λd h=>by cases h),nN,nC,nP,s2.free hL⟩;refine⟨C,rfl,⟨_,aI.of Wl⟩,?_⟩;refine cC (xs:=cs.map V.int) (λi σ H5=>∃(Pl:Addr)(us:List V)(ts:List Tr)(as:List Addr)(ds:List Dd)(y5 y6 y7 y8 y9:Option V),σ=[aP R,aP S,aP N,aP Pl,aP L,y5,y6,y7,y8,y9]/\lJ K H H5 N Pl L C aa cs us ts as ds/\us.length<=i/\ds.length<=i)
  ⟨Pl,[],[],[],[],none,none,none,none,none,rfl,D4,aH _,aH _⟩ ?_ ?_ ?_
 .rintro i σ H5 _ ⟨Pl,us,ts,as,ds,y5,y6,y7,y8,y9,rfl,D5,_⟩;exact aI.of D5.hC
 .intro i x σ H5 ex jP
  ac_nf0
  obtain⟨Pl,us,ts,as,ds,y5,y6,y7,y8,y9,rfl,D5,l5,m5⟩:=jP;have li:=(bq.mp ex).1;rw [au] at li;rw [bh] at ex;obtain⟨c,ec,rfl⟩:=cg.mp ex;refine goN ?_
  ac_rfl
  refine⟨_,rfl,_,rfl,_,rfl,R,N,Pl,rs,aa,us,ts,rfl,D5.pd hR b9 ∅ h8 br,λDc ks H6 fD s6 e6 lk mk=>?_⟩;have D6:=D5.same s6;refine⟨_,rfl,S,ns,0,rfl,D6.s.seq hS,hn,λc0 RR=>⟨c0,rfl,λW H7 fW s7 eW=>?_⟩⟩;obtain⟨z,hz,ez⟩:=So (zs:=gJ c0) (m:=3) (by rw [sH];rfl) (by decide) (c / 4);refine⟨_,rfl,_,_,rfl,rfl,⟨by decide,by decide⟩,_,_,rfl,rfl,(by show (0:Int) < 3;decide),W,_,_,_,rfl,rfl,aI.of eW,ez,kb,λa ha=>?_⟩;have k8:=af ha (.tup [V.str "step",V.str z]);have va:aQ K (upd H7 a (.tup [V.str "step",V.str z])) a [.str "step",.str z]:=aQ.of ae;generalize upd H7 a (.tup [V.str "step",V.str z])=H8 at k8 va;have Nz:=s7.trans k8;have D8:=D6.same Nz;have e8:=Nz _ _ e6;refine⟨λσ H9=>∃(a:Addr)(de:Dd),σ=[aP R,aP S,aP N,aP Pl,aP L,some (.int c),aP Dc,aP a,y8,y9]/\lJ K H H9 N Pl L C aa cs us ts as ds/\H9 Dc=some (.lst (i6 ks))/\l8 K H9 a de/\tG aa de,?_,?_⟩
  .refine⟨_,rfl,_,_,rfl,rfl,(by show (0:Int) < 4;decide),rfl,_,rfl,?_⟩;refine bY (λ_=>?_) (λ_=>?_)
   .have hp:(0:Int) < ((rs.map V.ref).length:Int):=by rw [au];omega
    refine⟨_,rfl,_,_,rfl,rfl,⟨by decide,by decide⟩,_,rfl,R,_,rfl,.inl (D8.s.seq hR),_,_,rfl,rfl,hp,kb,λu tS=>?_⟩;have eN:(((c / 4 % ((rs.map V.ref).length:Int)).toNat:Nat):Int)=c / 4 % ((rs.map V.ref).length:Int):=by
     have:=Int.emod_nonneg (c / 4) (show ((rs.map V.ref).length:Int)≠0 ∅);omega
    have lt:=Int.emod_lt_of_pos (c / 4) hp;refine⟨u,.make (c / 4 % ((rs.map V.ref).length:Int)).toNat,rfl,D8.same (af tS _),af tS _ _ _ e8,?_,?_⟩
    .have:aQ K (upd H8 u (.tup [V.str "make",V.int (c / 4 % ((rs.map V.ref).length:Int))])) u [.str "make",.int (c / 4 % ((rs.map V.ref).length:Int))]:=aQ.of ae;show aQ K _ u [.str "make",.int (((c / 4 % ((rs.map V.ref).length:Int)).toNat:Nat):Int)];rw [eN];exact this
    show (c / 4 % ((rs.map V.ref).length:Int)).toNat < aa.length;rw [au] at lt ⊢;omega
   exact⟨a,.step z,rfl,D8,e8,va,hw c0 RR z hz⟩
  rintro σ H9 ⟨a,de,rfl,D9,e9,Xf,TV⟩;clear va D8 e8 k8 Nz ez;refine⟨λσ H9=>∃(a:Addr)(de:Dd),σ=[aP R,aP S,aP N,aP Pl,aP L,some (.int c),aP Dc,aP a,y8,y9]/\lJ K H H9 N Pl L C aa cs us ts as ds/\l8 K H9 a de/\tG aa de,?_,?_⟩
  .refine⟨_,rfl,o6,λL4 VJ=>?_⟩;have kA:=af VJ (.lst []);have eA:upd H9 L4 (.lst []) L4=some (.lst []):=ae;generalize upd H9 L4 (.lst [])=HA at kA eA;have DA:=D9.same kA;have Kw:=kA _ _ e9;have K4:=l8.keep (λ_ _ y=>kA.tup y) Xf;refine⟨Dc,L4,_,rfl,rfl,aI.of Kw,aI.of eA,_,rfl,?_⟩;refine bY (λcn=>?_) (λ_=>?_)
   .obtain⟨hp,k,hk,ek⟩:=WT (Bu cn) (c / 4);refine⟨_,rfl,_,_,rfl,rfl,(by show (0:Int) < 4;decide),_,_,rfl,rfl,_,rfl,?_⟩;refine bY (λ_=>?_) (λ_=>?_)
    rotate_left
    .refine⟨_,rfl,_,_,rfl,rfl,(by show (0:Int) < 4;decide),rfl,_,rfl,?_⟩;refine bY (λ_=>?_) (λ_=>?_)
     .refine⟨_,rfl,S,ns,7,rfl,DA.s.seq hS,hn,λc7 hc7=>⟨_,_,rfl,rfl,(by show (0:Int) < 3;decide),_,_,rfl,rfl,_,rfl,?_⟩⟩;refine bY (λ_=>?_) (λ_=>?_)
      rotate_left
      .exact⟨a,de,rfl,DA,K4,TV⟩
      refine⟨_,rfl,_,rfl,_,_,rfl,rfl,⟨by decide,by decide⟩,_,rfl,Dc,_,rfl,.inl (aI.of Kw),_,_,rfl,rfl,hp,Dc,_,_,_,rfl,rfl,aI.of Kw,ek,kb,λu tS=>?_⟩;exact⟨u,.make k,rfl,DA.same (af tS _),aQ.of ae,(mk k hk).1⟩
     exact⟨a,de,rfl,DA,K4,TV⟩
    refine⟨_,rfl,_,rfl,_,_,rfl,rfl,⟨by decide,by decide⟩,_,rfl,Dc,_,rfl,.inl (aI.of Kw),_,_,rfl,rfl,hp,Dc,_,_,_,rfl,rfl,aI.of Kw,ek,kb,λu tS=>?_⟩;exact⟨u,.make k,rfl,DA.same (af tS _),aQ.of ae,(mk k hk).1⟩
   exact⟨a,de,rfl,DA,K4,TV⟩
  rintro σ HB ⟨a,de,rfl,DB,SO,RA⟩;clear Xf D9 e9;have Yd:=aY DB.pr;refine⟨_,rfl,_,rfl,_,rfl,_,rfl,R,N,Pl,a,rs,aa,us,ts,de,rfl,DB.pd hR b9 ∅ h8 br,SO,RA,λHA sA e=>?_,λP' HA gS fA sA e NW M6 JV l'=>?_⟩
  .have DA:=DB.same sA;have K4:=l8.keep (λ_ _ y=>sA.tup y) SO;refine⟨_,rfl,_,rfl,?_⟩;refine c_ ?_;refine⟨_,rfl,S,ns,7,rfl,DA.s.seq hS,hn,λc7 hc7=>⟨_,_,rfl,rfl,(by show (0:Int) < 3;decide),rfl,_,rfl,?_⟩⟩;refine bY (λ_=>?_) (λ_=>?_)
   .refine⟨_,rfl,.inl ⟨rfl,_,aI.of DA.hL⟩,_,rfl,L,_,_,rfl,rfl,DA.hL,bK (by rw [au];omega),?_⟩;have DC:=DA.push K4 RA;refine⟨_,rfl,_,rfl,_,rfl,?_⟩;refine g6 ?_;exact⟨_,rfl,q L _ _ _ DC.fL DC.s DC.hL DC.pr DC.dk (by rw [bL,fO];omega)⟩
   refine⟨_,rfl,_,rfl,?_⟩;refine c_ ?_;exact⟨Pl,us,ts,as,ds,_,_,_,_,_,rfl,DA,∅,∅⟩
  have DA:=DB.same sA;have K4:=l8.keep (λ_ _ y=>sA.tup y) SO;have Ul:P'≠L:=λz=>by rw [z,DB.hL] at NW;cases NW
  have TU:∃es,tN aa es fA:=by
   obtain⟨es,o⟩:=DB.ok;exact⟨_,o.pM RA e⟩
  refine⟨_,rfl,_,rfl,?_⟩;refine g6 ?_;refine⟨_,rfl,.inl ⟨rfl,_,aI.of DA.hL⟩,_,rfl,L,_,_,rfl,rfl,DA.hL,bK (by rw [au];omega),?_⟩;have DC:=(DA.cW M6 JV Ul TU).push K4 RA;refine⟨_,rfl,_,rfl,_,rfl,?_⟩;refine c_ ?_;exact⟨P',gS,fA,_,_,_,_,_,_,_,rfl,DC,∅,by rw [bL,fO];omega⟩
 rintro σ H5 ⟨Pl,us,ts,as,ds,y5,y6,y7,y8,y9,rfl,D5,l5,m5⟩;rw [au] at l5 m5;refine⟨20,rfl,by decide,by decide,?_⟩;refine g7 (n:=20) (λi σ H5=>∃(Pl:Addr)(us:List V)(ts:List Tr)(as:List Addr)(ds:List Dd)(y5 y6 y7 y8 y9:Option V),σ=[aP R,aP S,aP N,aP Pl,aP L,y5,y6,y7,y8,y9]/\lJ K H H5 N Pl L C aa cs us ts as ds/\us.length<=40+i/\ds.length<=40+i)
  ⟨Pl,us,ts,as,ds,y5,y6,y7,y8,y9,rfl,D5,∅,∅⟩ ?_ ?_
 .intro i σ H5 hi jP
  ac_nf0
  obtain⟨Pl,us,ts,as,ds,y5,y6,y7,y8,y9,rfl,D5,l5,m5⟩:=jP;have Yd:=aY D5.pr;refine goN ?_
  ac_rfl
  refine⟨_,rfl,_,rfl,_,rfl,R,N,Pl,rs,aa,us,ts,rfl,D5.pd hR b9 ∅ h8 br,λDc ks H6 fD s6 e6 lk mk=>?_⟩;have D6:=D5.same s6;refine⟨_,rfl,o6,λL4 VJ=>?_⟩;have kA:=af VJ (.lst []);have eA:upd H6 L4 (.lst []) L4=some (.lst []):=ae;generalize upd H6 L4 (.lst [])=HA at kA eA;have DA:=D6.same kA;have Kw:=kA _ _ e6;have nD:Dc≠L:=λz=>by rw [z,D5.hL] at fD;cases fD
  refine⟨Dc,L4,_,rfl,rfl,aI.of Kw,aI.of eA,_,rfl,?_⟩;refine bY (λcn=>?_) (λ_=>?_)
  .refine⟨_,rfl,Pl,_,rfl,.inl (aI.of DA.hP),_,_,rfl,rfl,_,rfl,?_⟩;refine bY (λ_=>?_) (λ_=>?_)
   .obtain⟨k,hk,ek⟩:∃k∈ks,jR (i6 ks) 0=some (.int (k:Int)):=by
     cases ks with
     | nil=>exact absurd rfl (Bu cn)
     | cons k r=>exact⟨k,cU,bS (j:=0) rfl⟩
    obtain⟨Hj,tJ,e2⟩:=mk k hk;refine⟨_,rfl,.inl ⟨rfl,_,aI.of DA.hL⟩,_,rfl,Dc,_,_,_,rfl,rfl,aI.of Kw,ek,kb,λu tS=>?_⟩;have kB:=af tS (.tup [V.str "make",V.int (k:Int)]);have vB:aQ K (upd HA u (.tup [V.str "make",V.int (k:Int)])) u [.str "make",.int (k:Int)]:=aQ.of ae;generalize upd HA u (.tup [V.str "make",V.int (k:Int)])=HB at kB vB;have DB:=DA.same kB;refine⟨L,_,_,rfl,rfl,DB.hL,bK (by rw [au];omega),?_⟩;have DC:=DB.push (a:=u) (de:=.make k) vB Hj;have vC:l8 K (upd HB L (.lst (as.map V.ref++[.ref u]))) u (.make k):=aT DB.hL vB;generalize upd HB L (.lst (as.map V.ref++[.ref u]))=HC at DC vC;have WR:jR ((as++[u]).map V.ref) (-1)=some (.ref u):=by
     rw [bF];exact ye _ _
    refine⟨_,rfl,_,rfl,_,rfl,_,rfl,_,rfl,L,_,_,_,rfl,rfl,aI.of DC.hL,WR,?_⟩;refine⟨R,N,Pl,u,rs,aa,us,ts,.make k,rfl,DC.pd hR b9 ∅ h8 br,vC,Hj,λHD sD e=>?_,λP' HD gS fA sD e NW M6 JV l'=>?_⟩
    .rw [e2] at e;cases e
    have Ul:P'≠L:=λz=>by rw [z,DC.hL] at NW;cases NW
    have TU:∃es,tN aa es fA:=by
     obtain⟨es,o⟩:=DC.ok;exact⟨_,o.pM (d:=.make k) Hj e⟩
    exact⟨P',gS,fA,_,_,_,_,_,_,_,rfl,(DC.same sD).cW M6 JV Ul TU,∅,by rw [bL,fO];omega⟩
   exact⟨Pl,us,ts,as,ds,_,_,_,_,_,rfl,DA,∅,∅⟩
  exact⟨Pl,us,ts,as,ds,_,_,_,_,_,rfl,DA,∅,∅⟩
 rintro σ H5 ⟨Pl,us,ts,as,ds,y5,y6,y7,y8,y9,rfl,D5,l5,m5⟩;exact⟨_,rfl,q L as ds H5 D5.fL D5.s D5.hL D5.pr D5.dk ∅⟩
end
mutual
theorem Gz {K:a9}{H:Hp}:∀(t:Tr)(v v':V) (n:Nat),fU K H t v->fU K H t v'->2 * dp t<=n->uU K H n v v'
 | .w z,v,v',n,h,h',_=>by
  unfold fU at h h';subst h;subst h';exact uU.self (.inl rfl) n
 | .n k cs,v,v',n,h,h',hn=>by
  unfold fU at h h';obtain⟨a,p,vs,rfl,ha,hp,hc⟩:=h;obtain⟨a',p',yO,rfl,VA,n6,lH⟩:=h';unfold dp at hn;obtain⟨m,rfl⟩:∃m,n=m+2:=⟨n - 2,∅⟩;refine .inr ⟨a,a',_,_,rfl,rfl,.inr ⟨ha,VA⟩,.cons (uU.self (.inl rfl) _) (.cons ?_ .nil)⟩;exact .inr ⟨p,p',vs,yO,rfl,rfl,.inr ⟨hp,n6⟩,pN cs vs yO m hc lH ∅⟩
theorem pN {K:a9}{H:Hp}:∀(ts:jD)(vs yO:List V) (n:Nat),gP K H ts vs->gP K H ts yO->2 * DN ts<=n->Paired (uU K H n) vs yO
 | .nil,vs,yO,n,h,h',_=>by
  unfold gP at h h';subst h;subst h';exact .nil
 | .cons t r,vs,yO,n,h,h',hn=>by
  unfold gP at h h';obtain⟨v,us,rfl,h1,h2⟩:=h;obtain⟨v',gS,rfl,VU,VS⟩:=h';unfold DN at hn;exact .cons (Gz t v v' n h1 VU ∅) (pN r us gS n h2 VS ∅)
end
theorem zx:∀(ds:List Dd),(ds.flatMap HZ).length<=ds.length
 | []=>aH _
 | .step z::r=>by rw [q_,bL,dM];have:=zx r;show 1+_<=_;omega
 | .make k::r=>by rw [q_,bL,dM];have:=zx r;show 0+_<=_;omega
def Ou {A:Around}{k n:Nat}(hr:fh k A)(h:n<=16 * k+200):A.units+n < cLine:=by have:=hr.un;omega
theorem wu {K:a9}{H:Hp}:∀{as bs:List Addr}{ds:List Dd},Paired (λa d=>l8 K H a d) as ds->Paired (λa d=>l8 K H a d) bs ds->Paired (uU K H 1) (as.map V.ref) (bs.map V.ref)
 | _,_,_,.nil,.nil=>.nil
 | _,_,.step z::_,.cons a t,.cons b u=>.cons (.inr ⟨_,_,_,_,rfl,rfl,.inr ⟨a,b⟩,.cons (uU.self (.inl rfl) 0) (.cons (uU.self (.inl rfl) 0) .nil)⟩) (wu t u)
 | _,_,.make k::_,.cons a t,.cons b u=>.cons (.inr ⟨_,_,_,_,rfl,rfl,.inr ⟨a,b⟩,.cons (uU.self (.inl rfl) 0) (.cons (uU.self (.inl rfl) 0) .nil)⟩) (wu t u)
section
def A_ (K:a9)(T1 T2 T3:Addr):Sp:=λvs H Q _=>∃(a:Addr)(ns:List Int),vs=[.ref a]/\aI K H a (ns.map V.int)/\ns.length<=63/\BU T1 T2 T3 H/\∀H',Q (.bl true) H'
def w_:aK ["_law_script","_law_rules","_law_deeds_here","_law_due_here","_law_answer"] ["_law_script"] (av Ln):=iq rfl rfl rfl rfl (by decide +kernel)
def LS {Cg C T1 T2 T3 fG:Addr}{Y8:FuncData}(F:g9 K "law" "law" Ln f fd)(T:Txt mg)
  (GG:aB P w K mg base 61 "_law_grammar" ["_law_script","_law_at"] (Eo K))(GDr:aB P w K mg base 61 "_law_drawn" ["_law_rules","_law_script"] (Bd K))(GDu:aB P w K mg base 61 "_law_due" ["_law_rules","_law_deeds_here"] (JK K))(GTo:aB P w K mg base 61 "tree_of" ["rules","deeds"] (wW K))
  (GSt:aB P w K mg base 61 "tree_stands" ["rules","tree","name"] (A6 K))(GRo:aB P w K mg base 61 "row_of" ["tree"] (A7 K))(GDL:aB P w K mg base 61 "_law_deeds" ["_law_tree"] (rK K 61))
  (G:GC K Cg)(MG:Mk K Cg fG)(FG:bN P w K mg base fj 60 fG Y8 ["self","rules","strengths"] (Bb K Cg C T1 T2 T3))(B1:Binds K Y8 ["self","rules","strengths"] [.none])(mG:mg "Grammar"=some (.ref Cg)):bN P w K mg base fj 62 f fd ["_law_script"] (A_ K T1 T2 T3):=by
 refine F.ok w_ (λvs H Q E h=>?_) (λdU A outer s H vs Q E hr h=>?_)
 .obtain⟨a,ns,rfl,_⟩:=h;rfl
 obtain⟨S,ns,rfl,hS,hl,hT,q⟩:=h;have UT:=uZ (fR hr);have tS:=pX (rj (by decide:1+1<=64) _) hr.units;have US:=Ou (n:=122+1) hr (by decide);refine⟨_,ai (aA (i:=1) w_.nd rfl (bx rfl) (e_ (vT (dvs:=[.d6]) MG FG hr rfl mG B1 (.cons rfl .nil) uk (ab (a8 GG hr rfl (ab (pv 0) (ab ao ah))) ah)) rfl))
  (ai (aA (i:=2) w_.nd rfl (bx rfl) (aX iM (a8 GDr hr rfl (ab (pv 1) (ab (pv 0) ah))) (bc (ab (bC (ab bT ah)) ah))))
  (ai (aA (i:=3) w_.nd rfl (bx rfl) (a8 GDu hr rfl (ab (pv 1) (ab (pv 2) ah))))
  (ai (aA (i:=4) w_.nd rfl (bx rfl) (a8 GTo hr rfl (ab (bD iC rfl T.lst iT (ab (pv 1) ah)) (ab (bD iC rfl T.lst iT (ab (pv 2) ah)) ah))))
  (ai (bw (cY (rW (pv 3))) (ak (aL (zH (rW (pv 4))))) aM)
  (ai (bw (PW.pt (jt (aV (xr 122 US) (pv 4) (pv 3) (bu _)) (ip (gi (cX (a8 GSt hr rfl (ab (pv 1) (ab (pv 4) (ab (aF aN (aF bo (pv 1) (aF aN (pv 3) ao (λ_ _=>rfl)) (λ_ _=>rfl)) ao (λ_ _=>rfl)) ah)))))))))
   (ak (aL dH)) aM)
  (ai (bw (aV (zL UT) (a8 GRo hr rfl (ab (pv 4) ah)) (bE ["_law_deed"] [] rfl (aZ (pv 2)) (bp rfl rfl) (by decide +kernel) rfl (by decide +kernel)
    (λ_ _ _ _ _=>aq (i:=0) (show (["_law_deed"]:List Str).Nodup by decide +kernel) rfl (bx rfl)) (λ_ _ _ _ _=>g_ (aV ij (aF (qJ K) (pv 0) ao (λ_ _=>rfl)) bT (bu _))) (λ_ _ _ _ _=>aF (qJ K) (pv 0) ao (λ_ _=>rfl))) (bu _)) (ak (aL dH)) aM)
  (ak (aL (eK (zM 1 tS) (aX iM (a8 GDL hr rfl (ab (pv 4) ah)) (bc (ab (bC (ab bT ah)) ah))) (pv 2) (bu _)))))))))),?_⟩
 nofun
 refine⟨_,rfl,S,ns,0,rfl,hS,∅,λc R0 rs aa H1 hc f0 s1 eR0 XI go=>?_⟩;obtain⟨rk,bb,gd⟩:=go.good;have six:=go.six;have one:=go.one;have h8:∀ru∈aa,ru.2.length<=8:=λru h=>by have:=(go.ins ru h).2.1;omega
 have DK:aa≠[]:=λz=>by rw [z] at one;cases one
 have t1:=hT.same s1;intro g x hg hx nx;refine⟨H1,g,x,R0,.d6,rs,[],aa,[],rk,bb,rfl,(af hx _).trans (af (by rw [aj nx.symm];exact hg) _),hg,ae,aI.of eR0,XI,∅,h8,DK,.inl ⟨rfl,rfl,rfl⟩,by simp,λru h=>(by cases h),by simp,gd,t1,λbt H2 s2 t2 gv=>⟨rfl,?_⟩⟩;have k2:=Kp.of3 s2 t1;clear s2 t2;obtain⟨gx,fs,R,S2,eg,lr,_,_,_,eR,_,_,_⟩:=gv;refine⟨g,Cg,gx,fs,_,rfl,eg,G.cls,G.a1,lr,?_⟩;have XH:=k2.aa XI;have Gg:=k2.seq (s1.seq hS);have hw:∀c0,c0=cellAt ns 0->∀z∈gJ c0,z∉hd aa:=λc0 e z hz hh=>by
  obtain⟨ru,i7,er⟩:=cP.mp (kX.mpr hh);have:=(go.ins ru i7).1;rw [show ru.1=z from er,hc,<-e] at this;exact uB c0 z this hz
 refine⟨_,rfl,_,rfl,R,S,rs,aa,ns,rfl,aI.of eR,XH,h8,∅,one,Gg,∅,hw,λD0 as ds H3 fD0 s3 ZI TL HJ dl=>?_⟩;have Yd:=aY TL;refine⟨vi,λa0 ha0=>⟨vi,λL1 RY=>?_⟩⟩;have k4:=(af ha0 (.tup [V.str "done"])).trans (af RY (.lst [V.ref a0]));have Gw:aQ K (upd (upd H3 a0 (.tup [V.str "done"])) L1 (.lst [V.ref a0])) a0 [.str "done"]:=(af RY _).tup (aQ.of ae);have HH:upd (upd H3 a0 (.tup [V.str "done"])) L1 (.lst [V.ref a0]) L1=some (.lst [V.ref a0]):=ae;generalize upd (upd H3 a0 (.tup [V.str "done"])) L1 (.lst [V.ref a0])=H4 at k4 Gw HH;refine⟨D0,L1,_,_,rfl,rfl,k4 _ _ ZI,HH,fits (by rw [au];show _+1<=1000000;omega),λD hD=>?_⟩;have k5:=af hD (.lst (as.map V.ref++[V.ref a0]));have M_:upd H4 D (.lst (as.map V.ref++[V.ref a0])) D=some (.lst ((as++[a0]).map V.ref)):=by rw [ae,bF];rfl
 generalize upd H4 D (.lst (as.map V.ref++[V.ref a0]))=H5 at k5 M_;have s5:=s3.trans (k4.trans k5);have QU:Of K H5 D as a0 ds:=⟨aI.of M_,Paired.dI TL λ_ _ z=>l8.keep (λ_ _ y=>(k4.trans k5).tup y) z,k5.tup Gw⟩;have Sh:=s5 _ _ eR;have Lw:=XH.same s5;clear HH Gw ZI TL Gg k4 k5;refine⟨_,rfl,_,rfl,R,D,rs,as,a0,aa,ds,rfl,aI.of Sh,Lw,h8,∅,QU,HJ,∅,λH6 s6=>?_⟩;refine⟨λe=>?_,λt v e Xk=>?_⟩
 .refine⟨_,rfl,R,_,rfl,.inl (aI.of (s6 _ _ Sh)),λR7 VE=>?_⟩;have k7:=af VE (.lst (rs.map V.ref));have e7:upd H6 R7 (.lst (rs.map V.ref)) R7=some (.lst (rs.map V.ref)):=ae;generalize upd H6 R7 (.lst (rs.map V.ref))=H7 at k7 e7;have s7:=s6.trans k7;refine⟨_,rfl,D,_,rfl,.inl (aI.of (s7 _ _ M_)),λD8 ME=>?_⟩;have k8:=af ME (.lst ((as++[a0]).map V.ref));have e8:upd H7 D8 (.lst ((as++[a0]).map V.ref)) D8=some (.lst ((as++[a0]).map V.ref)):=ae;generalize upd H7 D8 (.lst ((as++[a0]).map V.ref))=H8 at k8 e8;have s8:=s7.trans k8;have d8:=QU.same s8;refine⟨R7,D8,rs,as,a0,aa,ds,rfl,k8 _ _ e7,Lw.same s8,h8,∅,⟨aI.of e8,d8.pr,d8.dn⟩,HJ,∅,λH9 s9=>⟨λ_=>?_,(λt v e2 _=>by rw [e] at e2;cases e2)⟩⟩;refine⟨_,rfl,_,rfl,?_⟩;refine g6 ?_;exact⟨_,rfl,q _⟩
 refine⟨_,rfl,R,_,rfl,.inl (aI.of (s6 _ _ Sh)),λR7 VE=>?_⟩;have k7:=af VE (.lst (rs.map V.ref));have e7:upd H6 R7 (.lst (rs.map V.ref)) R7=some (.lst (rs.map V.ref)):=ae;generalize upd H6 R7 (.lst (rs.map V.ref))=H7 at k7 e7;have s7:=s6.trans k7;refine⟨_,rfl,D,_,rfl,.inl (aI.of (s7 _ _ M_)),λD8 ME=>?_⟩;have k8:=af ME (.lst ((as++[a0]).map V.ref));have e8:upd H7 D8 (.lst ((as++[a0]).map V.ref)) D8=some (.lst ((as++[a0]).map V.ref)):=ae;generalize upd H7 D8 (.lst ((as++[a0]).map V.ref))=H8 at k8 e8;have s8:=s7.trans k8;have d8:=QU.same s8;have Nz:=k7.trans k8;refine⟨R7,D8,rs,as,a0,aa,ds,rfl,k8 _ _ e7,Lw.same s8,h8,∅,⟨aI.of e8,d8.pr,d8.dn⟩,HJ,∅,λH9 s9=>⟨(λe2=>by rw [e] at e2;cases e2),λt2 v2 e2 SU=>?_⟩⟩;rw [e] at e2;cases e2;have Xy:=Nz.trans s9;have tvd:=fU.keep (λ_ _ z=>Xy.tup z) t Xk;have Im:=s8.trans s9;have d9:=QU.same Im;have Zz:=Im _ _ Sh;have XG:=Lw.same Im;have eD9:=Im _ _ M_;clear d8 e8 e7 k7 k8 Xk QU s7 s8 Nz Xy;obtain⟨k,cs,rfl,er⟩:∃k cs,t=.n k cs/\gr aa ds []=some [.n k cs]:=by
  revert e;cases gr aa ds [] with
  | none=>intro e;cases e
  | some p =>
   match p with
   | []=>intro e;cases e
   | [.w z]=>intro e;cases e
   | [.n k cs]=>intro e;cases e;exact⟨k,cs,rfl,rfl⟩
   | .w _::_::_=>intro e;cases e
   | .n _ _::_::_=>intro e;cases e
 have LN:=tN.gr (aa:=aa) tN.nil HJ er;rw [mQ] at LN;obtain⟨x0,Yo⟩:=LN.is _ cU;have Zp:mM (.n k cs)=ds:=by
  have:=LN.dd;rw [List.flatMap_singleton] at this;exact this
 have esz:sz (.n k cs)=ds.length:=by rw [<-qN,Zp]
 have dpz:=KG (.n k cs);have Vv:dp (.n k cs)<=60:=by omega
 obtain⟨bG,NZ,_⟩:∃bG,aa[k]?=some (x0,bG)/\DU aa cs bG:=by
  have:=Yo;unfold Is at this;exact this
 have Vk:x0∈hd aa:=kX.mp (cP.mpr ⟨_,cf NZ,rfl⟩);have Xl:=SU;have JD:=tvd;unfold fU at Xl JD;obtain⟨b1,p1,Xe,rfl,RT,hp1,hc1⟩:=Xl;obtain⟨b2,p2,Oo,rfl,Hs,oB,Mv⟩:=JD;refine⟨_,rfl,_,rfl,?_⟩;refine c_ ?_;have Vu:2 * DN cs<=121:=by
  have:dp (.n k cs)=1+DN cs:=by unfold dp;rfl
  omega
 refine⟨_,rfl,_,rfl,b1,b2,_,_,rfl,rfl,RT,Hs,.cons (uU.self (.inl rfl) _) (.cons (.inr ⟨p1,p2,Xe,Oo,rfl,rfl,.inr ⟨hp1,oB⟩,pN cs Xe Oo 121 hc1 Mv Vu⟩) .nil),false,rfl,?_⟩;refine c_ ?_;obtain⟨r,err,p,v1,v2⟩:=Paired.at_ XG k _ NZ;have tM:jR (rs.map V.ref) (k:Int)=some (.ref r):=bS (by rw [bh,err];rfl);refine⟨_,rfl,_,rfl,_,rfl,_,rfl,b2,_,_,_,rfl,rfl,Hs,rfl,R,_,_,_,rfl,rfl,aI.of Zz,tM,r,_,_,_,rfl,rfl,v1,rfl,?_⟩;refine⟨R,rs,aa,.ref b1,.n k cs,x0,true,rfl,aI.of Zz,XG,∅,SU,∅,.inr ⟨Vk,.inl ⟨Yo,rfl⟩⟩,λHA sA=>⟨true,rfl,?_⟩⟩;refine c_ ?_;have Xj:=fU.keep (λ_ _ z=>sA.tup z) _ SU;refine⟨_,rfl,.ref b1,.n k cs,rfl,Xj,∅,λD3 HB fD3 sB Jk=>?_⟩;have Xx:=sA.trans sB;have Wj:=Xx _ _ eD9;have dB:=d9.same Xx;have tvB:=fU.keep (λ_ _ z=>sB.tup z) _ Xj;have XN:Paired (λa d=>l8 K HB a d) as (mM (.n k cs)):=by rw [Zp];exact dB.pr
 have ldd:=qN (.n k cs);generalize ht:Tr.n k cs=t at *;refine⟨_,rfl,D,rfl,⟨_,aI.of Wj⟩,λD2 i8=>cD (xs:=(as++[a0]).map V.ref) (λk ys σ2 HC=>ys=(((mM t).take k).flatMap HZ).map V.str/\(∃y0,σ2=[y0])/\aC HB HC/\HC D2=some (.lst ys))
   ⟨rfl,⟨none,rfl⟩,af i8 _,ae⟩ (λk ys σ2 HC _ h=>?_) (λk x ys σ2 HC ex h=>?_) (λys σ2 HC h=>?_)⟩
 .obtain⟨_,_,sC,_⟩:=h;exact aI.of (sC _ _ Wj)
 .obtain⟨rfl,⟨y0,rfl⟩,sC,eC⟩:=h;rw [bh] at ex;obtain⟨ad,QO,rfl⟩:=cg.mp ex;have Sn:((((mM t).take k).flatMap HZ).map V.str).length<=1000000:=by
   rw [au];have:=zx ((mM t).take k);rw [dN] at this;omega
  refine goN ?_;by_cases ck:k < as.length
  .rw [mX ck] at QO;obtain⟨d,ed⟩:∃d,(mM t)[k]?=some d:=⟨(mM t)[k]'∅,b_ ∅⟩;obtain⟨ad',QN,vd⟩:=Paired.at_ XN k d ed;rw [QO] at QN;cases QN;have Gq:((mM t).take (k+1)).flatMap HZ=((mM t).take k).flatMap HZ++HZ d:=by
    rw [cR,ed,jY];simp
   cases d with
   | step z =>
    have vA:aQ K HC ad [.str "step",.str z]:=sC.tup vd;refine⟨_,rfl,ad,_,_,_,rfl,rfl,vA,rfl,rfl,_,rfl,?_⟩;refine g6 ?_;refine⟨_,rfl,ad,_,_,_,rfl,rfl,vA,rfl,eC,bK Sn,?_,⟨_,rfl⟩,λb o hb=>?_,ae⟩
    .rw [Gq,bF];rfl
    rw [aj (λz=>by rw [z,i8] at hb;cases hb)];exact sC b o hb
   | make k2 =>
    have vA:aQ K HC ad [.str "make",.int (k2:Int)]:=sC.tup vd;refine⟨_,rfl,ad,_,_,_,rfl,rfl,vA,rfl,rfl,_,rfl,?_⟩;refine c_ ?_;refine⟨?_,⟨_,rfl⟩,sC,eC⟩;rw [Gq];show _=(_++[]).map V.str;rw [ir]
  have lk:=(bq.mp QO).1;rw [bL,fO] at lk;have ek2:k=as.length:=by omega
  subst ek2;rw [lQ (aH _),oH] at QO;cases QO;have vA:aQ K HC a0 [.str "done"]:=sC.tup dB.dn;refine⟨_,rfl,a0,_,_,_,rfl,rfl,vA,rfl,rfl,_,rfl,?_⟩;refine c_ ?_;refine⟨?_,⟨_,rfl⟩,sC,eC⟩;rw [mU ∅,mU ∅]
 obtain⟨rfl,_,sC,eC⟩:=h;rw [au,bL,fO,mU ∅,A0] at eC;refine⟨D3,D2,_,rfl,rfl,aI.of (sC _ _ Jk),aI.of eC,zB _,false,rfl,?_⟩;refine c_ ?_;have tvC:=fU.keep (λ_ _ z=>sC.tup z) t tvB;refine⟨_,rfl,.ref b1,t,rfl,tvC,∅,∅,λD4 bs HD fD4 sD Kx XO=>?_⟩;refine⟨vi,λd1 wJ=>⟨vi,λL6 Y2=>?_⟩⟩;have kE:=(af wJ (.tup [V.str "done"])).trans (af Y2 (.lst [V.ref d1]));have Zr:aQ K (upd (upd HD d1 (.tup [V.str "done"])) L6 (.lst [V.ref d1])) d1 [.str "done"]:=(af Y2 _).tup (aQ.of ae);have HG:upd (upd HD d1 (.tup [V.str "done"])) L6 (.lst [V.ref d1]) L6=some (.lst [V.ref d1]):=ae;generalize upd (upd HD d1 (.tup [V.str "done"])) L6 (.lst [V.ref d1])=HE at kE Zr HG;have lbs:=aY XO;refine⟨D4,L6,_,_,rfl,rfl,kE _ _ Kx,HG,fits (by rw [au];show _+1<=1000000;omega),λD7 Qu=>?_⟩;have kF:=af Qu (.lst (bs.map V.ref++[V.ref d1]));have e7:upd HE D7 (.lst (bs.map V.ref++[V.ref d1])) D7=some (.lst (bs.map V.ref++[V.ref d1])):=ae;generalize upd HE D7 (.lst (bs.map V.ref++[V.ref d1]))=HF at kF e7;have Yk:=kE.trans kF;have UH:=(sC.trans sD).trans Yk;have ZH:=UH _ _ Wj;rw [bF] at ZH;have pa:Paired (uU K HF 1) (bs.map V.ref) (as.map V.ref):=wu (Paired.dI XO λ_ _ z=>l8.keep (λ_ _ y=>Yk.tup y) z) (Paired.dI XN λ_ _ z=>l8.keep (λ_ _ y=>UH.tup y) z);refine⟨_,rfl,D7,D,_,_,rfl,rfl,aI.of e7,aI.of ZH,du pa (.cons (.inr ⟨d1,a0,_,_,rfl,rfl,.inr ⟨kF.tup Zr,UH.tup dB.dn⟩,.cons (uU.self (.inl rfl) 0) .nil⟩) .nil),q _⟩
end
end gK
namespace L2
open PySem
def wG {C:List Value->Prop}(h:∀a,C [a]):∀us:List Value,us.length=1->C us
 | [a],_=>h a
def AM {C:List Value->Prop}(h:∀a b,C [a,b]):∀us:List Value,us.length=2->C us
 | [a,b],_=>h a b
def Dz {C:List Value->Prop}(h:∀a b c,C [a,b,c]):∀us:List Value,us.length=3->C us
 | [a,b,c],_=>h a b c
def Oq {C:List Value->Prop}(h:∀a b c d,C [a,b,c,d]):∀us:List Value,us.length=4->C us
 | [a,b,c,d],_=>h a b c d
def us5 {C:List Value->Prop}(h:∀a b c d e,C [a,b,c,d,e]):∀us:List Value,us.length=5->C us
 | [a,b,c,d,e],_=>h a b c d e
def dF (K:a9)(x:Str)(st:Stmt):Prop:=∃(g:Addr)(oc:Value)(od an:Option Addr)(sl:Array (Option Value))(kV dc pm cd ct:Value),PySem.W.nsIn K mainGlobals x=some (some (.ref g)) /\
 K.lookup g=some ⟨oc,od,.func (PySem.W.fnOf x x (dD st) (cw st) (av st) .none kV dc pm an cd ct),sl⟩/\PySem.W.codeIn K cd x=true/\PySem.W.keepIn K (.ref g)=true
def dF.get {K:a9}{h:Heap}{mg:Str->Option Value}{x:Str}{st:Stmt}(X:K.In h)(G:h.Ns mainGlobals mg)(H:dF K x st):∃g gd,g9 K x x st g gd/\mg x=some (.ref g):=by
 obtain⟨g,oc,od,an,sl,kV,dc,pm,cd,ct,a,l,c,k⟩:=H;exact⟨g,_,Gj (st:=st) l c k,oK X G a⟩
def Dv (K:a9)(x:Str)(st:Stmt)(T:Addr):Prop:=∃(g:Addr)(oc:Value)(od an:Option Addr)(sl:Array (Option Value))(kV dc pm:Value)(c:Addr)(ct:Value),PySem.W.nsIn K mainGlobals x=some (some (.ref g)) /\
 K.lookup g=some ⟨oc,od,.func (PySem.W.fnOf x x (dD st) (cw st) (av st) .none kV dc pm an (.ref c) ct),sl⟩/\PySem.W.codeIn K (.ref c) x=true/\PySem.W.codeHdIn K c T=true/\PySem.W.keepIn K (.ref g)=true
def Dv.get {K:a9}{h:Heap}{mg:Str->Option Value}{x:Str}{st:Stmt}{T:Addr}(X:K.In h)(G:h.Ns mainGlobals mg)(H:Dv K x st T):∃g gd,yj K x x st g gd T/\mg x=some (.ref g):=by
 obtain⟨g,oc,od,an,sl,kV,dc,pm,c,ct,a,l,d,e,k⟩:=H;exact⟨g,_,⟨⟨oc,od,kV,dc,pm,an,c,ct,sl,rfl,l,d,e⟩,k⟩,oK X G a⟩
def yj.binds {K:a9}{x qual:Str}{st:Stmt}{f T:Addr}{fd:FuncData}{ps:List Str}(F:yj K x qual st f fd T)
  (h:∀(kV doc pm:Value)(an:Option Addr)(dU ct:Value)(us:List Value),us.length=ps.length->bindArgs (PySem.W.fnOf x qual (dD st) (cw st) (av st) .none kV doc pm an dU ct) ⟨us,[]⟩=pure (ps.zip us)):Binds K fd ps []:=by
 obtain⟨oc,od,kV,doc,pm,an,c,ct,xq,rfl,lk,wg,_⟩:=F.ex;exact .all (h kV doc pm an (.ref c) ct)
def AJ (K:a9)(C:Addr)(m qual:Str)(st:Stmt):Prop:=∃(g:Addr)(oc:Value)(od an:Option Addr)(sl:Array (Option Value))(kV dc pm cd ct:Value),PySem.W.findIn K (.ref C) m=some (some (.ref g)) /\
 K.lookup g=some ⟨oc,od,.func (PySem.W.fnOf m qual (dD st) (cw st) (av st) .none kV dc pm an cd ct),sl⟩/\PySem.W.codeIn K cd qual=true/\PySem.W.keepIn K (.ref g)=true/\PySem.W.isFn K (.ref g)=true
def AJ.get {K:a9}{C:Addr}{m qual:Str}{st:Stmt}(H:AJ K C m qual st):∃g gd,g9 K m qual st g gd/\Meth K C m g:=by
 obtain⟨g,oc,od,an,sl,kV,dc,pm,cd,ct,a,l,c,k,i⟩:=H;exact⟨g,_,Gj (st:=st) l c k,⟨a,i,k⟩⟩
def dF.c {K:a9}{h:Heap}{mg:Str->Option Value}{x:Str}{st:Stmt}{P:Program}{w:World}{base:Heap}{k:Nat}{ps:List Str}{sp:Sp}(H:dF K x st)(X:K.In h)(G:h.Ns mainGlobals mg)
  (b:∀(kV doc pm:Value)(an:Option Addr)(dU ct:Value)(us:List Value),us.length=ps.length->bindArgs (PySem.W.fnOf x x (dD st) (cw st) (av st) .none kV doc pm an dU ct) ⟨us,[]⟩=pure (ps.zip us))
  (o:∀{f:Addr}{fd:FuncData},g9 K x x st f fd->mg x=some (.ref f)->Binds K fd ps []->bN P w K mg base fj k f fd ps sp):aB P w K mg base k x ps sp:=by
 obtain⟨f,fd,F,m⟩:=H.get X G;have B:=F.binds b;exact⟨f,fd,o F m B,B,F.kp,m⟩
def hD {K:a9}{x:Str}{st:Stmt}(g c:Addr)(pm:Value)(h:(PySem.W.nsIn K mainGlobals x,K.lookup g,PySem.W.codeIn K (.ref c) x,PySem.W.keepIn K (.ref g))=(some (some (.ref g)),some ⟨.type "function",none,.func (PySem.W.fnOf x x (dD st) (cw st) (av st) .none .none .none pm none (.ref c) .none),#[]⟩,true,true)):dF K x st:=by
 simp only [qU] at h;exact⟨g,_,_,_,_,_,_,_,_,_,h.1,h.2.1,h.2.2.1,h.2.2.2⟩
def hC {K:a9}{x:Str}{st:Stmt}{T:Addr}(g c:Addr)(pm:Value)(h:(PySem.W.nsIn K mainGlobals x,K.lookup g,PySem.W.codeIn K (.ref c) x,PySem.W.codeHdIn K c T,PySem.W.keepIn K (.ref g))=(some (some (.ref g)),some ⟨.type "function",none,.func (PySem.W.fnOf x x (dD st) (cw st) (av st) .none .none .none pm none (.ref c) .none),#[]⟩,true,true,true)):Dv K x st T:=by
 simp only [qU] at h;exact⟨g,_,_,_,_,_,_,_,c,_,h.1,h.2.1,h.2.2.1,h.2.2.2.1,h.2.2.2.2⟩
def hM {K:a9}{C:Addr}{m qual:Str}{st:Stmt}(g c:Addr)(pm:Value)(h:(PySem.W.findIn K (.ref C) m,K.lookup g,PySem.W.codeIn K (.ref c) qual,PySem.W.keepIn K (.ref g),PySem.W.isFn K (.ref g))=(some (some (.ref g)),some ⟨.type "function",none,.func (PySem.W.fnOf m qual (dD st) (cw st) (av st) .none .none .none pm none (.ref c) .none),#[]⟩,true,true,true)):AJ K C m qual st:=by
 simp only [qU] at h;exact⟨g,_,_,_,_,_,_,_,_,_,h.1,h.2.1,h.2.2.1,h.2.2.2.1,h.2.2.2.2⟩
end L2
namespace gK
open PySem L2 M11
def Nt (K:a9)(C:Addr)(m qual:Str)(st:Stmt):Prop:=∃(g:Addr)(oc:Value)(od an:Option Addr)(sl:Array (Option Value))(kV dc pm cd ct:Value)(T:Addr)(o:Obj) (n:Nat),PySem.W.findIn K (.ref C) m=some (some (.ref g)) /\
 K.lookup g=some ⟨oc,od,.func (PySem.W.fnOf m qual (dD st) (cw st) (av st) (.ref T) kV dc pm an cd ct),sl⟩/\PySem.W.codeIn K cd qual=true/\K.lookup T=some o/\o.data=.seq #[.none] n/\PySem.W.keepIn K (.ref g)=true/\PySem.W.isFn K (.ref g)=true
def Nt.get {K:a9}{C:Addr}{m qual:Str}{st:Stmt}(H:Nt K C m qual st):∃g gd,Hc K m qual st g gd/\PySem.W.findIn K (.ref C) m=some (some (.ref g))/\PySem.W.isFn K (.ref g)=true:=by
 obtain⟨g,oc,od,an,sl,kV,dc,pm,cd,ct,T,o,n,a,l,c,t,d,k,i⟩:=H;exact⟨g,_,⟨⟨oc,od,kV,dc,pm,an,cd,ct,sl,T,o,n,rfl,l,c,t,d⟩,k⟩,a,i⟩
structure Top (K:a9)(C Cg C3 T1 T2 T3:Addr)(tm:Tok):Prop where
 nB:PySem.W.nsIn K mainGlobals "BeginTable"=some (some (.ref C))
 nG:PySem.W.nsIn K mainGlobals "Grammar"=some (some (.ref Cg))
 nL:PySem.W.nsIn K mainGlobals "LeastTrees"=some (some (.ref C3))
 nM:PySem.W.nsIn K mainGlobals "MOST_RULES"=some (some (.int 60 tm))
 HQ:PySem.W.nsIn K mainGlobals "sorted"=some none
 Sw:PySem.W.nsIn K mainGlobals "zip"=some none
 h0:dF K "heads_of" zj
 h1:dF K "numbers_by_name" EB
 h2:dF K "standings_by_part" Ll
 h3:dF K "rule_size" ph
 h4:dF K "empty_by_name" rR
 h5:dF K "words_in" yY
 h6:dF K "found_empties" rS
 h7:dF K "first_places" vJ
 h8:dF K "way_back" Lj
 h9:dF K "steps_with_like_rows" zc
 h10:dF K "find_loop" ED
 h11:dF K "refuse_twice" y_
 h12:dF K "names_met" Lm
 h13:dF K "_law_cell_at" EI
 h14:dF K "_law_digits" vP
 VT:dF K "_law_names" zh
 h16:dF K "_law_words" vF
 h17:dF K "_law_more" EC
 h18:dF K "_law_skeleton" EA
 h19:dF K "_law_ended" zk
 h20:dF K "_law_good" EG
 h21:dF K "_law_grammar" EF
 h22:dF K "is_number_below" zp
 h23:dF K "is_rule_of" vH
 h24:dF K "is_top_of" Lk
 h25:dF K "row_of" ze
 h26:dF K "tree_stands" zd
 h27:dF K "is_child" rQ
 h28:dF K "do_step" vM
 h29:dF K "do_make" vN
 h30:dF K "do_deed" vO
 h31:dF K "tree_of" vG
 h32:dF K "_law_whole" yZ
 h33:dF K "_law_piled" zf
 h34:dF K "_law_due" Lp
 h35:dF K "_law_deeds" vQ
 h36:dF K "_law_can" Lq
 h37:dF K "_law_drawn" zo
 Vg:dF K "law" Ln
 U2:dF K "settled_sizes" nE
 U8:dF K "refuse_faults" vI
 hL:Dv K "least_sizes" rP T1
 hG:Dv K "greatest_empty_sizes" vK T2
 hLB:Dv K "least_by_part" nF T3
 mL1:AJ K C3 "__init__" "LeastTrees.__init__" zi
 mB1:AJ K C "__init__" "BeginTable.__init__" zr
 mB2:AJ K C "find_begins" "BeginTable.find_begins" EH
 mB3:AJ K C "words_of_part" "BeginTable.words_of_part" zg
 mG1:Nt K Cg "__init__" "Grammar.__init__" vL
 pgB:PySem.W.plainGet K C Str.empty=true
 hdB:PySem.W.hasDictIn K C=true
 poB:PySem.W.plainOver K C=true
 saB:PySem.W.findIn K (.ref C) "__setattr__"=some (some (.builtin "object.__setattr__"))
 mkB:PySem.W.makesIn K C=true
 FP:PySem.W.keepIn K (.ref C)=true
 pgG:PySem.W.plainGet K Cg Str.empty=true
 hdG:PySem.W.hasDictIn K Cg=true
 poG:PySem.W.plainOver K Cg=true
 saG:PySem.W.findIn K (.ref Cg) "__setattr__"=some (some (.builtin "object.__setattr__"))
 mkG:PySem.W.makesIn K Cg=true
 kpG:PySem.W.keepIn K (.ref Cg)=true
 pgL:PySem.W.plainGet K C3 Str.empty=true
 hdL:PySem.W.hasDictIn K C3=true
 poL:PySem.W.plainOver K C3=true
 saL:PySem.W.findIn K (.ref C3) "__setattr__"=some (some (.builtin "object.__setattr__"))
 mkL:PySem.W.makesIn K C3=true
 kpL:PySem.W.keepIn K (.ref C3)=true
 AF:PySem.W.findIn K (.ref C) "empties"=some none
 G5:PySem.W.findIn K (.ref C) "empty"=some none
 Dt:PySem.W.findIn K (.ref C) "begins"=some none
 Ds:PySem.W.findIn K (.ref C) "firsts"=some none
 G0:PySem.W.findIn K (.ref C3) "rules"=some none
 G3:PySem.W.findIn K (.ref C3) "empty"=some none
 G1:PySem.W.findIn K (.ref C3) "least"=some none
 Dr:PySem.W.findIn K (.ref C3) "hollow"=some none
 tY:PySem.W.findIn K (.ref C3) "beginnings"=some none
 G4:PySem.W.findIn K (.ref Cg) "rules"=some none
 wB:PySem.W.findIn K (.ref Cg) "strengths"=some none
 tD:PySem.W.findIn K (.ref Cg) "begin_table"=some none
 wC:PySem.W.findIn K (.ref Cg) "standings"=some none
 tu:PySem.W.findIn K (.ref Cg) "small_trees"=some none
 SD:PySem.W.nsIn K mainGlobals "len"=some none
 K1:PySem.W.nsIn K mainGlobals "range"=some none
 wM:PySem.W.nsIn K mainGlobals "isinstance"=some none
 KZ:PySem.W.nsIn K mainGlobals "tuple"=some none
 Oh:PySem.W.nsIn K mainGlobals "list"=some none
 Oi:PySem.W.nsIn K mainGlobals "dict"=some none
 SG:PySem.W.nsIn K mainGlobals "all"=some none
 SF:PySem.W.nsIn K mainGlobals "any"=some none
 Sy:PySem.W.nsIn K mainGlobals "str"=some none
 SE:PySem.W.nsIn K mainGlobals "int"=some none
 Oj:PySem.W.nsIn K mainGlobals "bool"=some none
 yM:PySem.W.nsIn K mainGlobals "enumerate"=some none
 Sx:PySem.W.nsIn K mainGlobals "sum"=some none
 SA:PySem.W.nsIn K mainGlobals "max"=some none
 Sz:PySem.W.nsIn K mainGlobals "min"=some none
def all_mk {l:PySem.W.OpenLaw}{w:World}{K:a9}{h:Heap}{mg:Str->Option Value}{fa C Cg C3 T1 T2 T3:Addr}{tm:Tok}(X:K.In h)(G:h.Ns mainGlobals mg)(hfa:mg "law"=some (.ref fa))(tp:Top K C Cg C3 T1 T2 T3 tm) :
  ∃fd:FuncData,(∀(s:Shared)(v:Value),BindsTo s fd ⟨[v],[]⟩ [("_law_script",v)])/\∀base:Heap,K.In base->base.Ns mainGlobals mg->tH mg base->bN l.prog w K mg base fj 62 fa fd ["_law_script"] (A_ K T1 T2 T3):=by
 have T:Txt mg:=⟨hV X G tp.SD,hV X G tp.K1,hV X G tp.wM,hV X G tp.KZ,hV X G tp.Oh,hV X G tp.Oi,hV X G tp.SG,hV X G tp.SF,hV X G tp.Sy,hV X G tp.SE,hV X G tp.Oj,hV X G tp.yM,hV X G tp.Sx,hV X G tp.SA,hV X G tp.Sz⟩;obtain⟨Kr,KJ,yk,J2⟩:=tp.U2.get X G;have KP:=yk.binds (ps:=["rules","sizes","better"]) λ_ _ _ _ _ _=>by exact Dz λ_ _ _=>rfl
 obtain⟨QB,QV,Hd,Pn⟩:=tp.U8.get X G;have Q3:=Hd.binds (ps:=["rules","strengths"]) λ_ _ _ _ _ _=>by exact AM λ_ _=>rfl
 obtain⟨f_L,d_L,W7,m_L⟩:=tp.hL.get X G;have b_L:=W7.binds (ps:=["rules"]) λ_ _ _ _ _ _=>by exact wG λ_=>rfl
 obtain⟨f_G,d_G,W8,m_G⟩:=tp.hG.get X G;have b_G:=W8.binds (ps:=["rules"]) λ_ _ _ _ _ _=>by exact wG λ_=>rfl
 obtain⟨VY,Wt,Nu,Up⟩:=tp.hLB.get X G;have WH:=Nu.binds (ps:=["rules"]) λ_ _ _ _ _ _=>by exact wG λ_=>rfl
 obtain⟨V1,aau,Ri,Pp⟩:=tp.mB1.get;have WL:=Ri.binds (ps:=["self","rules"]) λ_ _ _ _ _ _=>by exact AM λ_ _=>rfl
 obtain⟨aao,aat,Rh,Us⟩:=tp.mB2.get;have WK:=Rh.binds (ps:=["self","number","rule"]) λ_ _ _ _ _ _=>by exact Dz λ_ _ _=>rfl
 obtain⟨aan,aas,Rg,Ur⟩:=tp.mB3.get;have WJ:=Rg.binds (ps:=["self","part"]) λ_ _ _ _ _ _=>by exact AM λ_ _=>rfl
 obtain⟨VZ,aaq,Rc,Po⟩:=tp.mL1.get;have WI:=Rc.binds (ps:=["self","rules","begin_table"]) λ_ _ _ _ _ _=>by exact Dz λ_ _ _=>rfl
 obtain⟨V0,aar,Rf,Uq,UJ⟩:=tp.mG1.get;have cB:BC K C:=⟨⟨tp.pgB,tp.hdB,tp.poB,tp.saB⟩,tp.AF,tp.G5,tp.Dt,tp.Ds⟩;have cG:GC K Cg:=⟨⟨tp.pgG,tp.hdG,tp.poG,tp.saG⟩,tp.G4,tp.wB,tp.tD,tp.wC,tp.tu⟩;have cL:LC K C3:=⟨⟨tp.pgL,tp.hdL,tp.poL,tp.saL⟩,tp.G0,tp.G3,tp.G1,tp.Dr,tp.tY⟩;have kL:Mk K C3 VZ:=⟨tp.mkL,Po.at_,Po.fn,tp.kpL⟩;have kB:Mk K C V1:=⟨tp.mkB,Pp.at_,Pp.fn,tp.FP⟩;have kG:Mk K Cg V0:=⟨tp.mkG,Uq,UJ,tp.kpG⟩;obtain⟨f9,d9,F9,m9⟩:=tp.Vg.get X G;have e:=hfa.symm.trans m9;cases e;obtain⟨oc,od,kV,doc,pm,an,dU,ct,xq,eL,lk,wg⟩:=F9.ex;refine⟨d9,λs v=>?_,λbase _ _ Qw=>?_⟩
 .rw [eL];exact .of_eq rfl
 have c0:=tp.h0.c (P:=l.prog) (w:=w) (base:=base) X G (λ_ _ _ _ _ _=>by exact wG λ_=>rfl) λF m B=>Fq F T;have c1:=tp.h1.c (P:=l.prog) (w:=w) (base:=base) X G (λ_ _ _ _ _ _=>by exact wG λ_=>rfl) λF m B=>IG F T c0;have c2:=tp.h2.c (P:=l.prog) (w:=w) (base:=base) X G (λ_ _ _ _ _ _=>by exact wG λ_=>rfl) λF m B=>LQ F T;have c3:=tp.h3.c (P:=l.prog) (w:=w) (base:=base) X G (λ_ _ _ _ _ _=>by exact AM λ_ _=>rfl) λF m B=>xt F T;have c4:=tp.h4.c (P:=l.prog) (w:=w) (base:=base) X G (λ_ _ _ _ _ _=>by exact AM λ_ _=>rfl) λF m B=>zR F T;have c5:=tp.h5.c (P:=l.prog) (w:=w) (base:=base) X G (λ_ _ _ _ _ _=>by exact wG λ_=>rfl) λF m B=>Fd F T;have c6:=tp.h6.c (P:=l.prog) (w:=w) (base:=base) X G (λ_ _ _ _ _ _=>by exact wG λ_=>rfl) λF m B=>zS F T;have c7:=tp.h7.c (P:=l.prog) (w:=w) (base:=base) X G (λ_ _ _ _ _ _=>by exact AM λ_ _=>rfl) λF m B=>Cq F T;have c8:=tp.h8.c (P:=l.prog) (w:=w) (base:=base) X G (λ_ _ _ _ _ _=>by exact Dz λ_ _ _=>rfl) λF m B=>LO F T;have c9:=tp.h9.c (P:=l.prog) (w:=w) (base:=base) X G (λ_ _ _ _ _ _=>by exact wG λ_=>rfl) λF m B=>Fh F T c6 c0;have c10:=tp.h10.c (P:=l.prog) (w:=w) (base:=base) X G (λ_ _ _ _ _ _=>by exact wG λ_=>rfl) λF m B=>II F T c9 c8;have c11:=tp.h11.c (P:=l.prog) (w:=w) (base:=base) X G (λ_ _ _ _ _ _=>by exact wG λ_=>rfl) λF m B=>Ff F T;have c12:=tp.h12.c (P:=l.prog) (w:=w) (base:=base) X G (λ_ _ _ _ _ _=>by exact wG λ_=>rfl) λF m B=>LR F T;have GU:=tp.h13.c (P:=l.prog) (w:=w) (base:=base) X G (λ_ _ _ _ _ _=>by exact AM λ_ _=>rfl) λF m B=>IM F T;have Z2:=tp.h14.c (P:=l.prog) (w:=w) (base:=base) X G (λ_ _ _ _ _ _=>by exact Dz λ_ _ _=>rfl) λF m B=>Cu F T;have WB:=tp.VT.c (P:=l.prog) (w:=w) (base:=base) X G (λ_ _ _ _ _ _=>by exact wG λ_=>rfl) λF m B=>Fn F T;have Z1:=tp.h16.c (P:=l.prog) (w:=w) (base:=base) X G (λ_ _ _ _ _ _=>by exact wG λ_=>rfl) λF m B=>Ck F T;have c17:=tp.h17.c (P:=l.prog) (w:=w) (base:=base) X G (λ_ _ _ _ _ _=>by exact us5 λ_ _ _ _ _=>rfl) λF m B=>IH F T (GU.mono (by decide)) (Z2.mono (by decide));have c18:=tp.h18.c (P:=l.prog) (w:=w) (base:=base) X G (λ_ _ _ _ _ _=>by exact Oq λ_ _ _ _=>rfl) λF m B=>IF F T (GU.mono (by decide)) (Z2.mono (by decide));have c19:=tp.h19.c (P:=l.prog) (w:=w) (base:=base) X G (λ_ _ _ _ _ _=>by exact AM λ_ _=>rfl) λF m B=>Fu F T;have c20:=tp.h20.c (P:=l.prog) (w:=w) (base:=base) X G (λ_ _ _ _ _ _=>by exact wG λ_=>rfl) λF m B=>IK F T (c19.mono (by decide));have c21:=tp.h21.c (P:=l.prog) (w:=w) (base:=base) X G (λ_ _ _ _ _ _=>by exact AM λ_ _=>rfl) λF m B=>IJ F T (GU.mono (by decide)) (WB.mono (by decide)) (Z1.mono (by decide)) (c18.mono (by decide)) (c17.mono (by decide)) (c20.mono (by decide));have Z0:=tp.h22.c (P:=l.prog) (w:=w) (base:=base) X G (λ_ _ _ _ _ _=>by exact AM λ_ _=>rfl) λF m B=>Fy F T;have c23:=tp.h23.c (P:=l.prog) (w:=w) (base:=base) X G (λ_ _ _ _ _ _=>by exact Dz λ_ _ _=>rfl) λF m B=>Co F T (Z0.mono (by decide));have c24:=tp.h24.c (P:=l.prog) (w:=w) (base:=base) X G (λ_ _ _ _ _ _=>by exact Dz λ_ _ _=>rfl) λF m B=>LP F T (c23.mono (by decide));have c25:=tp.h25.c (P:=l.prog) (w:=w) (base:=base) X G (λ_ _ _ _ _ _=>by exact wG λ_=>rfl) λF m B=>Fj F T;have c26:=tp.h26.c (P:=l.prog) (w:=w) (base:=base) X G (λ_ _ _ _ _ _=>by exact Dz λ_ _ _=>rfl) λF m B=>Fi F T (hV X G tp.Sw) (c0.mono (by decide)) (c24.mono (by decide));have c27:=tp.h27.c (P:=l.prog) (w:=w) (base:=base) X G (λ_ _ _ _ _ _=>by exact Oq λ_ _ _ _=>rfl) λF m B=>Fw F T;have c28:=tp.h28.c (P:=l.prog) (w:=w) (base:=base) X G (λ_ _ _ _ _ _=>by exact Dz λ_ _ _=>rfl) λF m B=>Cr F T;have c29:=tp.h29.c (P:=l.prog) (w:=w) (base:=base) X G (λ_ _ _ _ _ _=>by exact Oq λ_ _ _ _=>rfl) λF m B=>Cs F T (Z0.mono (by decide)) (c27.mono (by decide));have c30:=tp.h30.c (P:=l.prog) (w:=w) (base:=base) X G (λ_ _ _ _ _ _=>by exact Oq λ_ _ _ _=>rfl) λF m B=>Ct F T (c28.mono (by decide)) (c29.mono (by decide));have c31:=tp.h31.c (P:=l.prog) (w:=w) (base:=base) X G (λ_ _ _ _ _ _=>by exact AM λ_ _=>rfl) λF m B=>Cn F T (c0.mono (by decide)) (c30.mono (by decide));have c32:=tp.h32.c (P:=l.prog) (w:=w) (base:=base) X G (λ_ _ _ _ _ _=>by exact wG λ_=>rfl) λF m B=>Fe F T;have WA:=tp.h33.c (P:=l.prog) (w:=w) (base:=base) X G (λ_ _ _ _ _ _=>by exact Oq λ_ _ _ _=>rfl) λF m B=>Fl F T (c32.mono (by decide));have c34:=tp.h34.c (P:=l.prog) (w:=w) (base:=base) X G (λ_ _ _ _ _ _=>by exact AM λ_ _=>rfl) λF m B=>LU F T (WA.mono (by decide));have c35:=tp.h35.c (P:=l.prog) (w:=w) (base:=base) X G (λ_ _ _ _ _ _=>by exact wG λ_=>rfl) λF m B=>uu F T B m 61;have c36:=tp.h36.c (P:=l.prog) (w:=w) (base:=base) X G (λ_ _ _ _ _ _=>by exact Dz λ_ _ _=>rfl) λF m B=>LV F T (WA.mono (by decide));have c37:=tp.h37.c (P:=l.prog) (w:=w) (base:=base) X G (λ_ _ _ _ _ _=>by exact AM λ_ _=>rfl) λF m B=>Fv F T (WA.mono (by decide)) (c36.mono (by decide)) (GU.mono (by decide)) (Z1.mono (by decide));have Wx:aB l.prog w K mg base 2 "settled_sizes" ["rules","sizes","better"] (iH K yr r_.1 r_.2.1 r_.2.2.1 M11.bl):=⟨Kr,KJ,zO yk T,KP,yk.kp,J2⟩;have Wy:aB l.prog w K mg base 2 "settled_sizes" ["rules","sizes","better"] (iH K J3 z8.1 z8.2.1 z8.2.2.1 M11.bg):=⟨Kr,KJ,zP yk T,KP,yk.kp,J2⟩;have ZZ:aB l.prog w K mg base 3 "least_sizes" ["rules"] (qB K T1):=⟨f_L,d_L,Fp W7 T Qw c5 Wx,b_L,W7.kp,m_L⟩;have c_G:aB l.prog w K mg base 3 "greatest_empty_sizes" ["rules"] (vq K T2):=⟨f_G,d_G,Fs W8 Qw Wy,b_G,W8.kp,m_G⟩;have QY:aB l.prog w K mg base 4 "refuse_faults" ["rules","strengths"] (rH K T1 T2):=⟨QB,QV,Cp Hd T (oK X G tp.nM) c11 ZZ c0 c12 c10 c_G,Q3,Hd.kp,Pn⟩;have Wz:aB l.prog w K mg base 4 "least_by_part" ["rules"] (o9 K T1 T3):=⟨VY,Wt,zQ Nu T Qw (hV X G tp.HQ) (c0.mono (by decide)) ZZ (c1.mono (by decide)) (c3.mono (by decide)),WH,Nu.kp,Up⟩;have T5:=Fm (P:=l.prog) (w:=w) (base:=base) Rg T cB;have T6:=IL Rh T cB c7 T5 Ur WJ;have T7:=Fx Ri T cB c6 c0 T6 Us WK;have TZ:=Fo Rc T cB cL Wz (c4.mono (by decide));have T4:=Ft Rf T cG (QY.mono (by decide)) (c2.mono (by decide)) (T7.mono (by decide)) kB WL (oK X G tp.nB) TZ kL WI (oK X G tp.nL);exact LS F9 T (c21.mono (by decide)) (c37.mono (by decide)) (c34.mono (by decide)) (c31.mono (by decide)) (c26.mono (by decide)) (c25.mono (by decide)) (c35.mono (by decide)) cG kG (T4.mono (by decide)) (Gh Rf) (oK X G tp.nG)
def walk {l:PySem.W.OpenLaw}{q:Program}{loose:List Str}{XP:(Str->Option Value)->Heap->Prop}{YP:World->Heap->Prop}{d:DefRec}{K:Params->a9}(T1 T2 T3 c1 c2 c3:Addr)(J0:T1≠T2)(JZ:T1≠T3)(JY:T2≠T3)(hn:l.most=some 63)(Mt:d.params.defaults=[])
  (hY:∀(w:World)(h:Heap),YP w h->(K w.params).In h/\∀T∈[T3,T2,T1],h.get? T=some (PySem.W.tabObj #[]))
  (hK1:∀w:World,(K w.params).lookup T1=none)(hK2:∀w:World,(K w.params).lookup T2=none)(hK3:∀w:World,(K w.params).lookup T3=none)(Qv:∀w:World,PySem.W.codeHdIn (K w.params) c1 T1=true)(MJ:∀w:World,PySem.W.codeHdIn (K w.params) c2 T2=true)(MI:∀w:World,PySem.W.codeHdIn (K w.params) c3 T3=true)
  (F:∀(w:World)(mg:Str->Option Value)(fa:Addr)(h:Heap),(K w.params).In h->h.Ns mainGlobals mg->mg d.name=some (.ref fa) ->
   ∃fd:FuncData,(∀(s:Shared)(u:Value),BindsTo s fd ⟨[u],[]⟩ [("_law_script",u)])/\∀base:Heap,(K w.params).In base->base.Ns mainGlobals mg->tH mg base->bN l.prog w (K w.params) mg base fj 62 fa fd ["_law_script"] (A_ (K w.params) T1 T2 T3)) :
  PySem.W.WalkO q loose XP YP l.row.toRowW d [] (λf vs=>PySem.call f vs) :=
 L2.DZ (n:=63) (k:=62) (x := "_law_script") (CX:=λ_=>fj) (sp:=λw=>A_ (K w.params) T1 T2 T3) hn (by decide) Mt ⟨rfl,by decide,by decide⟩ hY (λw T hT=>by
  rcases cz.mp hT with e | hT
  .subst e;exact⟨hK3 w,c3,MI w⟩
  rcases cz.mp hT with e | hT
  .subst e;exact⟨hK2 w,c2,MJ w⟩
  rw [bU.mp hT];exact⟨hK1 w,c1,Qv w⟩) F (λ_ H a ns hl _ hT hS=>⟨a,ns,rfl,hS,hl,⟨⟨#[],hT T1 (by simp),by trivial,.inl rfl⟩,⟨#[],hT T2 (by simp),by trivial,.inl rfl⟩,⟨#[],hT T3 (by simp),by trivial,.inl rfl⟩,J0,JZ,JY⟩,λ_=>rfl⟩) λ_ _ _ _ _ z=>z
end gK
set_option maxHeartbeats 0
end
namespace HD
open PySem PySem.W L2
def SV (P:Params):gK.Top (K P) 152 414 385 295 300 329 600:=⟨by kernel_rfl,
 by kernel_rfl,
 by kernel_rfl,
 by kernel_rfl,
 by kernel_rfl,
 by kernel_rfl,
 hD 26 25 HD.m1 (by kernel_rfl),
 hD 36 35 HD.m1 (by kernel_rfl),
 hD 43 42 HD.m1 (by kernel_rfl),
 hD 337 336 HD.m8 (by kernel_rfl),
 hD 342 341 HD.m8 (by kernel_rfl),
 hD 31 30 HD.m1 (by kernel_rfl),
 hD 95 94 HD.m3 (by kernel_rfl),
 hD 102 101 HD.m3 (by kernel_rfl),
 hD 293 292 HD.m5 (by kernel_rfl),
 hD 286 285 HD.m5 (by kernel_rfl),
 hD 281 280 HD.m5 (by kernel_rfl),
 hD 322 321 HD.m7 (by kernel_rfl),
 hD 327 326 HD.m7 (by kernel_rfl),
 hD 444 443 HD.lV (by kernel_rfl),
 hD 463 462 HD.lV (by kernel_rfl),
 hD 449 448 HD.lV (by kernel_rfl),
 hD 456 455 HD.lV (by kernel_rfl),
 hD 477 476 HD.lV (by kernel_rfl),
 hD 470 469 HD.lV (by kernel_rfl),
 hD 482 481 HD.lV (by kernel_rfl),
 hD 487 486 HD.lV (by kernel_rfl),
 hD 494 493 HD.lV (by kernel_rfl),
 hD 57 56 HD.m1 (by kernel_rfl),
 hD 50 49 HD.m1 (by kernel_rfl),
 hD 437 436 HD.NF (by kernel_rfl),
 hD 425 424 HD.NF (by kernel_rfl),
 hD 430 429 HD.NF (by kernel_rfl),
 hD 90 89 HD.m2 (by kernel_rfl),
 hD 76 75 HD.m2 (by kernel_rfl),
 hD 83 82 HD.m2 (by kernel_rfl),
 hD 69 68 HD.m2 (by kernel_rfl),
 hD 62 61 HD.m2 (by kernel_rfl),
 hD 501 500 HD.lV (by kernel_rfl),
 hD 508 507 HD.lV (by kernel_rfl),
 hD 513 512 HD.lV (by kernel_rfl),
 hD 520 519 HD.lV (by kernel_rfl),
 hD 527 526 HD.lV (by kernel_rfl),
 hD 532 531 HD.lV (by kernel_rfl),
 hD 537 536 HD.lV (by kernel_rfl),
 hD 310 309 HD.m6 (by kernel_rfl),
 hD 315 314 HD.m7 (by kernel_rfl),
 hC 298 297 HD.m6 (by kernel_rfl),
 hC 305 304 HD.m6 (by kernel_rfl),
 hC 332 331 HD.m8 (by kernel_rfl),
 hM 354 353 HD.m8 (by kernel_rfl),
 hM 114 113 HD.m3 (by kernel_rfl),
 hM 121 120 HD.m3 (by kernel_rfl),
 hM 128 127 HD.m3 (by kernel_rfl),
 ⟨404,.type "function",none,none,#[],.none,.none,.str "wright.grammars" 711,.ref 403,.none,397,⟨.type "tuple",none,.seq #[.none] 0,#[]⟩,0,by kernel_rfl,by kernel_rfl,by kernel_rfl,by kernel_rfl,rfl,by kernel_rfl,by kernel_rfl⟩,
 by kernel_rfl,
 by kernel_rfl,
 by kernel_rfl,
 by kernel_rfl,
 by kernel_rfl,
 by kernel_rfl,
 by kernel_rfl,
 by kernel_rfl,
 by kernel_rfl,
 by kernel_rfl,
 by kernel_rfl,
 by kernel_rfl,
 by kernel_rfl,
 by kernel_rfl,
 by kernel_rfl,
 by kernel_rfl,
 by kernel_rfl,
 by kernel_rfl,
 by kernel_rfl,
 by kernel_rfl,
 by kernel_rfl,
 by kernel_rfl,
 by kernel_rfl,
 by kernel_rfl,
 by kernel_rfl,
 by kernel_rfl,
 by kernel_rfl,
 by kernel_rfl,
 by kernel_rfl,
 by kernel_rfl,
 by kernel_rfl,
 by kernel_rfl,
 by kernel_rfl,
 by kernel_rfl,
 by kernel_rfl,
 by kernel_rfl,
 by kernel_rfl,
 by kernel_rfl,
 by kernel_rfl,
 by kernel_rfl,
 by kernel_rfl,
 by kernel_rfl,
 by kernel_rfl,
 by kernel_rfl,
 by kernel_rfl,
 by kernel_rfl,
 by kernel_rfl⟩
end HD
theorem PySem.Challenge.cw_wright_k69_whole_deeds_and_trees_holds : PySem.Challenge.rw_wright_k69_whole_deeds_and_trees.Holds := by
 refine HD.hold ?_ ?hw
 case hw=>w_witness2
 refine gK.walk (l:=PySem.Challenge.rw_wright_k69_whole_deeds_and_trees) (K:=HD.K) 295 300 329 297 304 331 (by decide) (by decide) (by decide) rfl HD.ok5 (λw h Y=>⟨PySem.W.km_in_of Y,PySem.W.km_tabs_of Y⟩) (λw=>by kernel_rfl) (λw=>by kernel_rfl) (λw=>by kernel_rfl) (λw=>by kernel_rfl) (λw=>by kernel_rfl) (λw=>by kernel_rfl) ?F;intro w mg fa h KX G Mn;exact gK.all_mk KX G Mn (HD.SV w.params)
