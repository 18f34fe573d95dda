import PyProof.Rows.All
import Wide.All
import OpenK.AllK
import Wide.FinOn
import PyProof.EqAt
import PyProof.EqKinds
import PyProof.TupleCall
import KE.BitLaws
import Open.SpecLaws
import KE.OsHead
import KE.OsGo
import KE.KDictSum
import PyProof.Rows.SortShellAny
import KE.KSortTupUse
import PySem.Challenge.RW_poolday_s07_bet
local macro_rules|`(⋯)=>`(by decide)
local macro_rules|`(())=>`(by omega)
local macro_rules|`(∅)=>`(by simp)
local macro_rules|`(‹$x›)=>`(by simpa using $x)
set_option linter.all false
set_option Elab.async false
set_option maxHeartbeats 3200000
set_option maxRecDepth 100000
local macro_rules | `(tactic| omega) => `(tactic| first | lia | omega (config := {}))
set_option hygiene false
local macro_rules | `(tactic| obtain $p := $e) => `(tactic| (refine Classical.byContradiction λnG9 => ?_; obtain $p : _ := $e <;> (refine nG9 ?_; clear nG9)))
set_option hygiene true
variable {α β:Type} {w:PySem.World} {K:PySem.W.Frag} {s:PySem.Shared} {P prog:PySem.Program} {a f NC b Cp l z NB D i1 i2 it l1 l2 dx:PySem.Addr} {pos apos CB:PySem.Pos} {A:PySem.Around} {mg:PySem.Str->Option PySem.Value} {i j ep t' c kk:Nat} {x qual name:PySem.Str} {base h h':PySem.Heap} {t:PySem.SetTable} {pins:List (PySem.Addr×PySem.Obj)} {e tg iter elt:PySem.Expr} {E Q:PySem.Value->PySem.Shared->Prop} {u pm ct:PySem.Value} {us vs:List PySem.Value} {ps N:List PySem.Str} {scope:PySem.Scope} {rs ks:List (List Int)} {es:Array (Int×PySem.Value)} {fd:PySem.FuncData} {st:PySem.Stmt} {r row codes:List Nat} {ns:List Int} {ys items:Array PySem.Value} {M:PySem.Model} {op:PySem.CmpOp} {ch:List PySem.Addr} {T:String} {own:List (PySem.Str×Nat)} {an:Option PySem.Addr} {ifs elts:List PySem.Expr}
open List
set_option bootstrap.genMatcherCode false
set_option genSizeOf false
def aj:=@PySem.wpAny_bind
def af:=@if_neg
def ah:=@if_pos
def bC:=@Bool.and_eq_true
def ay:=@PySem.wpAny_pure
def az:=@List.length_map
def bg:=@List.getElem?_eq_getElem
def bN:=@PySem.Heap.get?_push_of_some
def fB:=@decide_eq_true_eq
def aQ:=@Nat.le_refl
def bq:=@PySem.Heap.get?_push_size
def aO:=@PySem.Heap.lt_size
def bh:=@List.mem_of_getElem?
def aY:=@List.length_cons
def aW:=@Nat.le_trans
def b9:=@Bool.false_ne_true
def cQ:=@List.getD_eq_getElem?_getD
def bE:=@List.mem_cons_of_mem
def a_:=@List.getElem?_map
def cH:=@Array.length_toList
def aP:=@List.map_cons
def bF:=@PySem.boot_len
def dq:=@Array.getElem?_toList
def bx:=@Nat.ne_of_lt
def bM:=@PySem.W.mg_of
def dr:=@List.length_append
def bZ:=@List.mem_cons_self
def dR:=@Nat.lt_of_lt_of_le
def cR:=@decide_eq_false
def cI:=@List.size_toArray
def iP:=@Array.getElem?_eq_getElem
def jx:=@PyProof.Rows.callWith_type1
def fP:=@PySem.mem_of_lookup
def cv:=@Nat.zero_le
def cx:=@PySem.sizeLine_eq
def du:=@List.all_eq_true
def dS:=@PySem.Heap.size_push
def gZ:=@Int.toNat_natCast
def cS:=@List.length_take
def ku:=@PySem.Heap.get?_update_other
def CD:=@Bool.or_eq_true
def iQ:=@PySem.W.mg_none_of
def bW:=@congrArg
def gi:=@Bool.eq_iff_iff
def g9:=@PySem.wpAny_call_entry
def dU:=@List.length_drop
def iR:=@List.append_assoc
def fQ:=@List.map_congr_left
def c5:=@PySem.wpAny_mono
def jy:=@PySem.wpAny_Call_Name_kw
def jz:=@PySem.Obj.data_mapFields
def mr:=@PySem.Heap.get?_update_self
def kx:=@PySem.Heap.SameBut.update
def kz:=@beq_iff_eq
def g_:=@decide_eq_true
def jA:=@PySem.wpAny_newObj_type
def jB:=@PySem.wpAny_setState_of
def mv:=@List.drop_eq_getElem_cons
def N3:=@Bool.false_eq_true
def iS:=@PySem.PassesOwn.never
def jC:=@List.length_replicate
def gj:=@PySem.wpAny_holding
def eM:=@List.take_length
def dW:=@List.foldl_cons
def oj:=@PySem.Obj.isFreed_of_fields
def xQ:=@Array.getD_eq_getD_getElem?
def qT:=@PySem.wpAny_callSpecial?_slot
def mw:=@PySem.Calls.spliced_cons
def fC:=@PySem.wpAny_field
def ed:=@List.map_append
def kC:=@Nat.lt_succ_self
def qU:=@Array.getElem?_eq_none
def kD:=@Nat.le_add_right
def ck:=@List.map_map
def kG:=@List.length_filter_le
def mx:=@PySem.wpAny_truthy_bool
def my:=@Nat.lt_succ_of_lt
def iT:=@Nat.lt_irrefl
def jD:=@List.filterMap_cons
def CF:=@Option.map_some
def kH:=@PySem.codeAny_builtin
def mz:=@List.mem_append_right
def qV:=@List.getElem?_zip_eq_some
def qW:=@List.Pairwise.filter
def ui:=@PySem.Calls.callWith_builtin
def qX:=@List.take_of_length_le
def iU:=@Nat.zero_add
def CH:=@PySem.F.slot_tuple_iterator_next
def qY:=@List.length_erase_of_mem
def jE:=@List.append_nil
def om:=@List.getElem?_eq_none
def oo:=@Nat.min_le_right
def qZ:=@List.filter_cons_of_pos
def q_:=@List.filter_cons_of_neg
def kI:=@List.flatMap_cons
def mB:=@PySem.wpAny_setField
def mC:=@List.takeWhile_cons
def rg:=@PySem.Calls.spliced_nil
def oq:=@List.mem_of_mem_drop
def c9:=@List.all_cons
def iq:=@Nat.le_of_lt
def iu:=@Nat.ne_of_gt
def wd:=@Int.fdiv_eq_ediv_of_nonneg
def j6:=@List.replicate_succ
def sh:=@List.getElem?_append_right
def si:=@PySem.F.slot_dict_get
def sj:=@List.Pairwise.sublist
def mD:=@Nat.not_lt_zero
def pC:=@PySem.wpAny_loadPart'
def je:=@PySem.codeAny_mono
def sk:=@List.getElem?_append_left
def sq:=@PySem.Calls.evalArgs_plain
def sr:=@Nat.mul_le_mul_right
def su:=@Nat.pow_le_pow_right
def jf:=@Nat.succ_pos
def jg:=@List.filter_congr
def pD:=@Bool.true_and
def j7:=@List.zip_cons_cons
def sv:=@List.mem_cons
def mE:=@List.dropWhile_cons
def we:=@PySem.F.plainAttrs_list
def mF:=@PySem.wpAny_seqItems
def mG:=@List.getElem_of_mem
def dF:=@Ne.symm
def wg:=@PySem.W.cellsFrom_some
def iw:=@PySem.call_meets
def pE:=@List.length_nil
def sx:=@Nat.lt_of_le_of_lt
def j8:=@Nat.pow_succ
def sy:=@List.length_range
def pF:=@Nat.min_eq_left
def pG:=@Int.natCast_mul
def wj:=@PySem.F.slot_zip_next
def sA:=@List.drop_of_length_le
def sC:=@Nat.lt_trichotomy
def CI:=@if_false
def j9:=@PySem.Paired.snoc
def jh:=@List.mem_append
def mH:=@List.flatten_cons
def mI:=@Nat.mul_comm
def sE:=@Nat.add_zero
def mJ:=@Int.zero_add
def sF:=@List.take_append_drop
def wo:=@Int.toNat_of_nonneg
def wq:=@List.eq_of_mem_replicate
def JZ:=@Bool.false_or
def pH:=@List.getElem?_drop
def pI:=@Int.mul_assoc
def pJ:=@PySem.plainId_quiet
def sG:=@PySem.wpAny_passesOwn
def pK:=@List.nil_append
def J0:=@List.find?_cons
def wx:=@Array.forIn_toList
def j_:=@List.length_zip
def kb:=@Nat.mod_lt
def wy:=@Nat.eq_zero_or_pos
def Sj:=@List.lookup_cons
def wA:=@PySem.Value.isInt_shape
def wB:=@Nat.le_of_succ_le
def wC:=@PySem.wpAny_pyIter_enum
def sH:=@List.toList_toArray
def wD:=@PySem.Obj.cls_mapFields
def pM:=@List.set_set
def wF:=@List.length_pos_of_mem
def pO:=@List.pairwise_map
def pP:=@List.ext_getElem?
def wG:=@PySem.wpAny_storeSet_of
def mK:=@PySem.typeIs_str
def mL:=@List.of_mem_zip
def wH:=@PySem.wpAny_isInstance
def wI:=@PySem.F.slot_str_split
def mM:=@List.filter_map
def wJ:=@List.getElem?_toArray
def wK:=@Array.toList_map
def sI:=@PySem.wpAny_attempt
def sJ:=@Nat.mul_assoc
def sN:=@List.filter_append
def sO:=@List.mem_singleton
def pQ:=@Nat.le_succ
def pR:=@List.any_eq_true
def pS:=@List.getElem_mem
def wL:=@List.mem_append_left
def wM:=@PySem.wpAny_execs_nil
def wN:=@PySem.pushCells_keeps
def CJ:=@Int.natCast_add
def wO:=@List.mem_erase_of_ne
def sP:=@Nat.le_of_eq
def sQ:=@Nat.add_comm
def sR:=@List.nodup_append
def sS:=@List.foldl_append
def sU:=@PySem.wpAny_typeOf
def sV:=@Int.mul_comm
def wQ:=@List.getElem?_range
def pU:=@PySem.intKind_is
def CK:=@List.map_nil
def sW:=@PySem.wpAny_throw
def wR:=@PySem.wpAny_newList
def wU:=@Bool.and_true
def wV:=@List.filter_filter
def pV:=@List.drop_zero
def J1:=@Nat.sub_self
def wW:=@Nat.mul_one
def wX:=@Nat.one_mul
def wY:=@Int.add_mul
namespace L2
open PySem PySem.Spec PyProof.Rows
abbrev Key:=Sum Int Str
noncomputable def gX:Key->Value->Bool
 |.inl k,v=>Value.isInt k v|.inr x,v=>Value.isStrOf x v
noncomputable def n6(w:World):Key->Int
 |.inl k=>hashInt k|.inr x=>hashStr w x
def cN:∀{k}{v},gX k v=true->(∃i t,k=Sum.inl i/\v=Value.int i t)\/(∃x t,k=Sum.inr x/\v=Value.str x t)
 |.inl i,v,h=>by
  obtain⟨t,e⟩:=wA (v:=v) h;exact .inl ⟨i,t,rfl,e⟩
 |.inr x,v,h=>by
  obtain⟨t,e⟩:=Value.isStrOf_shape (v:=v) h;exact .inr ⟨x,t,rfl,e⟩
def Bf i t:gX (.inl i) (.int i t)=true:=by simp[gX,Value.isInt]
def LV x t:gX (.inr x) (.str x t)=true:=by simp[gX,Value.isStrOf]
def VW a b:decide ((Sum.inl a:Key)=Sum.inl b)=(a==b):=by
 by_cases e:a=b
 .subst e;simp
 .have h:¬(Sum.inl a:Key)=Sum.inl b:=λq=>e (Sum.inl.inj q);rw[cR h];exact(beq_eq_false_iff_ne.mpr e).symm
def VX a b:decide ((Sum.inr a:Key)=Sum.inr b)=decide (a=b):=by
 by_cases e:a=b
 .subst e;simp
 .have h:¬(Sum.inr a:Key)=Sum.inr b:=λq=>e (Sum.inr.inj q);rw[cR h,cR e]
def VY a b:decide ((Sum.inl a:Key)=Sum.inr b)=false:=cR (λq=>nomatch q)
def VZ a b:decide ((Sum.inr a:Key)=Sum.inl b)=false:=cR (λq=>nomatch q)
noncomputable def bI(prog:Program)(w:World):PySem.KeyKind prog w Key where
 is:=gX
 hash:=n6 w
 inj:=λv a b ha hb=>by
  obtain⟨i,t,rfl,rfl⟩|⟨x,t,rfl,rfl⟩:=cN ha
  .obtain⟨j,u,rfl,e⟩|⟨y,u,rfl,e⟩:=cN hb
   .injection e with e1 _;rw[e1]
   .exact nomatch e
  .obtain⟨j,u,rfl,e⟩|⟨y,u,rfl,e⟩:=cN hb
   .exact nomatch e
   .injection e with e1 _;rw[e1]
 byValue:=λk v h=>by
  obtain⟨i,t,rfl,rfl⟩|⟨x,t,rfl,rfl⟩:=cN h<;>rfl
 pyHash:=λhv h=>by
  obtain⟨i,t,rfl,rfl⟩|⟨x,t,rfl,rfl⟩:=cN hv
  .exact wpAny_pyHash_int h
  .exact wpAny_pyHash_str h
 eqBool:=λhu hv h=>by
  obtain⟨i,t,rfl,rfl⟩|⟨x,t,rfl,rfl⟩:=cN hu
  .obtain⟨j,u,rfl,rfl⟩|⟨y,u,rfl,rfl⟩:=cN hv
   .rw[VW]at h;exact wpAny_eqBool_int h
   .rw[VY]at h;exact SeqAt.EqAt.int_str i t y u _ _ _ _ h
  .obtain⟨j,u,rfl,rfl⟩|⟨y,u,rfl,rfl⟩:=cN hv
   .rw[VZ]at h;exact SeqAt.EqAt.str_int x t j u _ _ _ _ h
   .rw[VX]at h;exact wpAny_eqBool_str h
 «strs»:=λk x t v h=>by
  obtain⟨i,u,rfl,e⟩|⟨y,u,rfl,e⟩:=cN h
  .exact nomatch e
  .injection e with e1 _;subst e1;cases v<;>rfl
def E7 prog w i t:(bI prog w).is (.inl i) (.int i t)=true:=Bf i t
def E8 prog w x t:(bI prog w).is (.inr x) (.str x t)=true:=LV x t
inductive V where
 |cT|bl (b:Bool)|int (i:Int)|str (x:Str)|Hw (b:Array UInt8)|flt (b:UInt64)|ref (a:Addr)|ty (n:String)
 deriving DecidableEq
variable {v y:L2.V} {xs:List L2.V} {kvs:List (L2.Key×L2.V)}
def RelV:V->Value->Prop
 |.cT,u=>u=Value.none|.bl b,u=>u=Value.bool b
 |.int i,u=>∃t,u=Value.int i t|.str x,u=>∃t,u=Value.str x t
 |.Hw b,u=>∃t,u=Value.bytes b t|.flt b,u=>∃t,u=Value.float b t
 |.ref a,u=>u=Value.ref a|.ty n,u=>u=Value.type n
abbrev Vals:List V->List Value->Prop:=Paired RelV
theorem Vals.length(r:Vals xs us):xs.length=us.length:=Paired.length r
def Paired.at'{F:α->β->Prop}:∀{l}{m}{i:Nat}{x},Paired F l m->l[i]?=some x->∃y,m[i]?=some y/\F x y:=by
 intro l m i x h
 induction h generalizing i with
 |nil=>intro e;simp at e
 |cons r t ih=>
  cases i with
  |zero=>intro e;cases e;exact⟨_,rfl,r⟩
  |succ i=>intro e;exact ih e
def Paired.Hx{F:α->β->Prop}:∀{l}{m}{i:Nat}{y},Paired F l m->m[i]?=some y->∃x,l[i]?=some x/\F x y:=by
 intro l m i x h
 induction h generalizing i with
 |nil=>intro e;simp at e
 |cons r t ih=>
  cases i with
  |zero=>intro e;cases e;exact⟨_,rfl,r⟩
  |succ i=>intro e;exact ih e
def Paired.drop'{F:α->β->Prop}:∀{l}{m} n,Paired F l m->Paired F (l.drop n) (m.drop n):=by
 intro l m n h
 induction h generalizing n with
 |nil=>cases n<;>exact .nil
 |cons r t ih=>
  cases n with
  |zero=>exact .cons r t|succ n=>exact ih n
def Paired.take'{F:α->β->Prop}:∀{l}{m} n,Paired F l m->Paired F (l.take n) (m.take n):=by
 intro l m n h
 induction h generalizing n with
 |nil=>cases n<;>exact .nil
 |cons r t ih=>
  cases n with
  |zero=>exact .nil|succ n=>exact .cons r (ih n)
def xR{F:α->β->Prop}:∀{l l2}{m m2},Paired F l m->Paired F l2 m2->Paired F (l++l2) (m++m2):=by
 intro l l2 m m2 h k
 induction h with
 |nil=>exact k|cons r t ih=>exact .cons r ih
def Paired.dQ{F:α->β->Prop}:∀{l}{m},Paired F l m->l.length=m.length:=by
 intro l m h
 induction h with
 |nil=>rfl|cons _ _ ih=>exact bW Nat.succ ih
def Vals.get{x}(h:Vals xs us)(e:xs[i]?=some x):∃u,us[i]?=some u/\RelV x u:=Paired.at' h e
def Vals.append{ys:List V}{ws:List Value}(h:Vals xs us)(k:Vals ys ws):Vals (xs++ys) (us++ws):=xR h k
theorem Vals.take n (h:Vals xs us):Vals (xs.take n) (us.take n):=Paired.take' n h
theorem Vals.drop n (h:Vals xs us):Vals (xs.drop n) (us.drop n):=Paired.drop' n h
def uj:Option V->Option Value->Prop
 |some v,some u=>RelV v u|none,none=>True
 |_,_=>False
def KV{κ:Type}:List (κ×V)->List (κ×Value)->Prop:=Paired λ(p:κ×V)(q:κ×Value)=>p.1=q.1/\RelV p.2 q.2
noncomputable def kV:Key->V
 |.inl i=>.int i|.inr x=>.str x
inductive HO where
 |lst (xs:List V)
 |tup (xs:List V)
 |dK (kvs:List (Key×V))|dT (kvs:List (List Key×V))
 |set (S:Int->Bool) (n:Nat)
 |ins (C dx:Addr) (fs:List (Str×V))
 |own (x:Addr)
 |xd (fs:List (Str×V))
 |met (f x:Addr)
 |rng (lo hi:Int)
 |Ar (o:Obj) (u:HO)
 |RM (ps:Array Value)
 |ext(φ:Heap->Prop)
variable {o:L2.HO}
abbrev Hp:=Addr->Option HO
variable {H H' H1:L2.Hp} {Qd:L2.Hp->Prop}
noncomputable def upd(H:Hp)(a:Addr)(o:HO):Hp:=λb=>if b=a then some o else H b
def ak:upd H a o a=some o:=by unfold upd;rw[ah rfl]
def aF(h:b≠a):upd H a o b=H b:=by unfold upd;rw[af h]
def iy{u:HO}:upd (upd H a o) a u=upd H a u:=by
 funext b;unfold upd;split<;>rfl
def Zd{u:HO}(h:H a=some o)(h':H b=some u)(d:o≠u):a≠b:=by
 intro e;subst e;rw[h]at h';exact d (Option.some.inj h')
def bB(h:H a=some o)(h':H b=none):a≠b:=by
 intro e;subst e;rw[h]at h';cases h'
section
variable (P:Program) (w:World)
noncomputable def dB(H:Hp)(h:Heap)(a:Addr):HO->Prop
 |.lst xs=>xs.length<=sizeLine/\∃(aR:List Value) (n:Nat),Vals xs aR/\h.get? a=some {cls:=.type "list",data:=.seq aR.toArray n}|.tup xs=>xs.length<=sizeLine/\∃aR:List Value,Vals xs aR/\IsTup h a aR.toArray
 |.dK kvs=>kvs.length<=sizeLine/\(a==sysModules)=false/\∃vs,KV kvs vs/\h.DictOf (bI P w) a vs
 |.dT kvs=>kvs.length<=sizeLine/\(a==sysModules)=false/\∃xs:List (List Key×Addr×Value),
   Paired (λ(p:List Key×V)(q:List Key×Addr×Value)=>p.1=q.1/\H q.2.1=some (.tup (p.1.map kV))/\RelV p.2 q.2.2) kvs xs/\
   ∃o es ep,h.get? a=some o/\o.ExactDict/\o.data=.dict es ep/\es.toList=xs.map (entryOfKey (tupleKind (bI P w)))/\(xs.map (·.1)).Nodup
 |.set S n=>h.SetOf (intKind P w) a S n
 |.ins C dx fs=>H dx=some (.own a)/\fs.length<=1000/\dx≠a/\h.get? a=some (PySem.W.instObj C dx)/\
   ∃mA,h.Ns1 dx mA/\(∀f,uj (fs.lookup f) (mA f))/\PySem.Within mA (fs.map (·.1))
 |.own _=>∃o,h.get? a=some o|.xd fs=>∃mA,h.Ns1 a mA/\∀f,uj (fs.lookup f) (mA f)
 |.rng lo hi=>∃t u v,h.get? a=some {cls:=.type "range",data:=.fields #[.int lo t,.int hi u,.int 1 v]}|.Ar o u=>h.get? a=some o/\dB H h a u
 |.RM ps=>h.get? a=some {cls:=.none,data:=.fields ps}|.met f x=>h.get? a=some (PySem.W.methodObj (.ref f) (.ref x))
 |.ext φ=>φ h/\(∃o,h.get? a=some o)/\∀h1 h2:Heap,φ h1->(∀o,h1.get? a=some o->h2.get? a=some o)->φ h2
def mO(H:Hp)(h:Heap):Prop:=∀a o,H a=some o->dB P w H h a o
end
section
theorem dB.lt(x:dB P w H h a o):a<h.objs.size:=by
 cases o with
 |lst xs=>obtain⟨_,_,_,_,e⟩:=x;exact aO e
 |tup xs=>obtain⟨_,_,_,p⟩:=x;exact p.lt
 |dK kvs=>obtain⟨_,_,_,_,o,_,_,e,_⟩:=x;exact aO e
 |dT kvs=>obtain⟨_,_,_,_,o,_,_,e,_⟩:=x;exact aO e
 |set S n=>obtain⟨o,_,_,_,e,_⟩:=x;exact aO e
 |ins C dx fs=>obtain⟨_,_,_,e,_⟩:=x;exact aO e
 |own y=>obtain⟨_,e⟩:=x;exact aO e
 |xd fs=>obtain⟨_,⟨_,_,_,e,_⟩,_⟩:=x;exact aO e
 |rng lo hi=>obtain⟨_,_,_,e⟩:=x;exact aO e
 |Ar ob u=>obtain⟨e,_⟩:=x;exact aO e
 |RM ps=>exact aO (show h.get? a=some _ from x)
 |met f y=>exact aO (show h.get? a=some _ from x)
 |ext φ=>obtain⟨_,⟨_,e⟩,_⟩:=x;exact aO e
def Paired.fR{F G:α->β->Prop}:∀{l₁}{l₂},Paired F l₁ l₂->(∀a b,F a b->G a b)->Paired G l₁ l₂:=by
 intro l₁ l₂ h f
 induction h with
 |nil=>exact .nil|cons r t ih=>exact .cons (f _ _ r) ih
def dB.E9(x:dB P w H h a o)(k:∀b u,(b=a\/H b=some (.own a))->h.get? b=some u->h'.get? b=some u)(ho:∀b,H b=some (.own a)->H' b=some (.own a))(ht:∀b xs,H b=some (.tup xs)->H' b=some (.tup xs)):dB P w H' h' a o:=by
 induction o with
 |lst xs=>obtain⟨z,aR,n,r,e⟩:=x;exact⟨z,aR,n,r,k _ _ (.inl rfl) e⟩
 |tup xs=>obtain⟨z,aR,r,ob,e,c⟩:=x;exact⟨z,aR,r,ob,k _ _ (.inl rfl) e,c⟩
 |dK kvs=>obtain⟨z,y,vs,r,ob,es,ep,e,c⟩:=x;exact⟨z,y,vs,r,ob,es,ep,k _ _ (.inl rfl) e,c⟩
 |dT kvs=>
  obtain⟨z,y,xs,r,ob,es,ep,e,c⟩:=x;exact⟨z,y,xs,Paired.fR r λp q z=>⟨z.1,ht _ _ z.2.1,z.2.2⟩,ob,es,ep,k _ _ (.inl rfl) e,c⟩
 |set S n=>obtain⟨ob,es,ep,t,e,c⟩:=x;exact⟨ob,es,ep,t,k _ _ (.inl rfl) e,c⟩
 |ins C dx fs=>
  obtain⟨d,z,ne,e,mA,⟨od,es,ep,e2,c⟩,r⟩:=x;exact⟨ho _ d,z,ne,k _ _ (.inl rfl) e,mA,⟨od,es,ep,k _ _ (.inr d) e2,c⟩,r⟩
 |own y=>obtain⟨ob,e⟩:=x;exact⟨ob,k _ _ (.inl rfl) e⟩
 |xd fs=>obtain⟨mA,⟨od,es,ep,e,c⟩,r⟩:=x;exact⟨mA,⟨od,es,ep,k _ _ (.inl rfl) e,c⟩,r⟩
 |rng lo hi=>obtain⟨t,u,v,e⟩:=x;exact⟨t,u,v,k _ _ (.inl rfl) e⟩
 |Ar ob u ih=>obtain⟨e,q⟩:=x;exact⟨k _ _ (.inl rfl) e,ih q⟩
 |RM ps=>
  have e:=x;exact k a _ (.inl rfl) e
 |met f y=>
  have e:=x;exact k a _ (.inl rfl) e
 |ext φ=>obtain⟨p,⟨o,e⟩,st⟩:=x;exact⟨st _ _ p λo q=>k _ _ (.inl rfl) q,⟨o,k _ _ (.inl rfl) e⟩,st⟩
theorem mO.lt(x:mO P w H h)(e:H a=some o):a<h.objs.size:=(x a o e).lt
def mO.fresh(x:mO P w H h)(e:h.objs.size<=a):H a=none:=by
 cases q:H a with
 |none=>rfl|some u=>exact absurd (dR (x.lt q) e) (iT _)
def mO.kept(x:mO P w H h)(k:∀b u,h.get? b=some u->h'.get? b=some u):mO P w H h':=λa o e=>
 (x a o e).E9 (λb u _ q=>k b u q) (λ_ q=>q) λ_ _ q=>q
theorem mO.laid(x:mO P w H h)(k:∀b u,h.get? b=some u->h'.get? b=some u)(hp:h.objs.size<=a)(new:dB P w (upd H a o) h' a o):mO P w (upd H a o) h':=λb u e=>by
 have hn:=x.fresh hp;by_cases hb:b=a
 .subst hb;rw[ak]at e;cases e;exact new
 .rw[aF hb]at e;exact(x b u e).E9 (λc v _ q=>k c v q) (λc q=>by rw[aF (bB q hn)];exact q) λc xs q=>by rw[aF (bB q hn)];exact q
end
def Rd(H:Hp)(a:Addr)(u:HO):Prop:=H a=some u\/∃o,H a=some (.Ar o u)
theorem Rd.ok{u:HO}(r:Rd H a u)(x:mO P w H h):dB P w H h a u:=by
 obtain r|⟨o,r⟩:=r
 .exact x a u r
 .obtain⟨_,q⟩:=x a _ r;exact q
def Ze:Option HO->Prop
 |some (.lst _)=>True|some (.dK _)=>True
 |some (.dT _)=>True|some (.set _ _)=>True
 |some (.ins _ _ _)=>True|some (.ext _)=>True
 |_=>False
section
variable {x e:Addr} {o':HO}
def mO.write(ok:mO P w H h)(mu:Ze (H x))(he:e=x\/H e=some (.own x))(k:∀b u,b≠e->h.get? b=some u->h'.get? b=some u)(Yu:∃u,h'.get? e=some u)(new:dB P w (upd H x o') h' x o'):mO P w (upd H x o') h':=λb u q=>by
 have Zf:∀c y,H c=some (.own y)->c≠x:=λc y r z=>by subst z;rw[r]at mu;exact mu
 have ab7:∀c xs,H c=some (.tup xs)->c≠x:=λc xs r z=>by subst z;rw[r]at mu;exact mu
 by_cases hb:b=x
 .subst hb;rw[ak]at q;cases q;exact new
 .rw[aF hb]at q;by_cases V0:b=e
  .have q':H b=some (.own x):=by
    obtain z|z:=he
    .exact absurd (V0.trans z) hb
    .rw[V0];exact z
   rw[q]at q';cases q';obtain⟨v,hv⟩:=Yu;exact⟨v,by rw[V0];exact hv⟩
  .refine(ok b u q).E9 (λc v hc r=>k c v ?_ r) (λc r=>by rw[aF (Zf c b r)];exact r) λc xs r=>by rw[aF (ab7 c xs r)];exact r
   obtain rfl|hc:=hc
   .exact V0
   .rintro rfl;obtain z|z:=he
    .exact Zf c b hc z
    .rw[hc]at z;cases z;exact hb rfl
end
structure Un(fs ex:List Addr)(H H':Hp)(h h':Heap):Prop where
 keep:∀b o,h.get? b=some o->H b=none->b∉fs->b∉ex->h'.get? b=some o
 slot:∀b o,h.get? b=some o->H b=none->b∈fs->b∉ex->∃sl,h'.get? b=some {o with slots:=sl}
 free:∀b o,h.get? b=some o->H b=none->b∉ex->H' b=none
 there:∀b o,h.get? b=some o->b∉ex->∃o',h'.get? b=some o'
 xS:∀b xs,H b=some (.tup xs)->H' b=some (.tup xs)
 vL:∀b o u,H b=some (.Ar o u)->H' b=some (.Ar o u)
 xT:∀b ps,H b=some (.RM ps)->∃more,H' b=some (.RM (ps++more))
section
variable {fs Yv ex ex':List Addr} {H2:Hp} {h1 h2:Heap} {x e:Addr}
def Un.any(u:Un fs ex H H1 h h1)(q:h.get? b=some ob)(n:H b=none)(hx:b∉ex):∃sl,h1.get? b=some {ob with slots:=sl} :=by
 by_cases hb:b∈fs
 .exact u.slot b ob q n hb hx
 .exact⟨ob.slots,u.keep b ob q n hb hx⟩
def Un.kept(k:∀b u,h.get? b=some u->h'.get? b=some u):Un fs ex H H h h':=
 ⟨λb ob q _ _ _=>k b ob q,λb ob q _ _ _=>⟨ob.slots,k b ob q⟩,λ_ _ _ n _=>n,λb ob q _=>⟨ob,k b ob q⟩,λ_ _ q=>q,λ_ _ _ q=>q,λ_ ps q=>⟨#[],by rw[q];simp⟩⟩
def Un.refl:Un fs ex H H h h:=Un.kept λ_ _ q=>q
theorem Un.laid(k:∀b u,h.get? b=some u->h'.get? b=some u)(hp:h.objs.size<=a)(hn:H a=none):Un fs ex H (upd H a o) h h' where
 keep:=λb u q _ _ _=>k b u q
 slot:=λb u q _ _ _=>⟨u.slots,k b u q⟩
 free:=λb u q n _=>by rw[aF (bx (dR (aO q) hp))];exact n
 there:=λb u q _=>⟨u,k b u q⟩
 xS:=λb xs q=>by rw[aF (bB q hn)];exact q
 vL:=λb u xs q=>by rw[aF (bB q hn)];exact q
 xT:=λb ps q=>⟨#[],by rw[aF (bB q hn),q];simp⟩
def Un.write(mu:Ze (H x))(he:e=x\/H e=some (.own x))(k:∀b u,b≠e->h.get? b=some u->h'.get? b=some u)(Yu:∃u,h'.get? e=some u):Un fs ex H (upd H x o) h h':=by
 have hx:∀b,H b=none->b≠x:=λb n z=>by subst z;rw[n]at mu;exact mu
 have hb:∀b,H b=none->b≠e:=λb n z=>by
  subst z;obtain r|r:=he
  .exact hx b n r
  .rw[n]at r;cases r
 have hm:∀b u,H b=some u->¬Ze (some u)->b≠x:=λb u q nm z=>by subst z;rw[q]at mu;exact nm mu
 refine⟨λb u q n _ _=>k b u (hb b n) q,λb u q n _ _=>⟨u.slots,k b u (hb b n) q⟩,λb u q n _=>by rw[aF (hx b n)];exact n,λb u q _=>?_,
  λb xs q=>by rw[aF (hm b _ q λz=>z)];exact q,λb u xs q=>by rw[aF (hm b _ q λz=>z)];exact q,λb ps q=>⟨#[],by rw[aF (hm b _ q λz=>z),q];simp⟩⟩
 by_cases V0:b=e
 .subst V0;exact Yu
 .exact⟨u,k b u V0 q⟩
end
noncomputable def trk(h:Heap)(H:Hp):List Addr:=(List.range h.objs.size).filter λa=>(H a).isSome
noncomputable def E_(h:Heap)(H:Hp):Heap:=PySem.W.hideAll h (trk h H)
def LW h H:(E_ h H).objs.size=h.objs.size:=PySem.W.hideAll_size _ _
def N4{o:Obj}(e:h.get? b=some o)(n:H b=none):(E_ h H).get? b=some o:=
 PySem.W.hideAll_get _ e λhm=>by
  have q:=(mem_filter.mp hm).2;rw[n]at q;simp at q
def Sl{o:Obj}(e:(E_ h H).get? b=some o):h.get? b=some o/\H b=none:=by
 have e':=PySem.W.of_hideAll (trk h H) e;refine⟨e',?_⟩;cases q:H b with
 |none=>rfl
 |some x=>
  have hm:b∈trk h H:=mem_filter.mpr ⟨mem_range.mpr (aO e'),by simp[q]⟩;have z:(E_ h H).get? b=none:=PySem.W.hideAll_none (trk h H) hm;rw[z]at e;cases e
noncomputable def Sn(g h:Heap)(L:Addr):List (Addr×Obj):=(List.range h.objs.size).filterMap λa=>if a=L\/(g.get? a).isSome=true then none else(h.get? a).map λo=>(a,o)
noncomputable def rest(g h:Heap)(L d:Addr):List (Addr×Obj):=(Sn g h L).filter λp=>decide (p.1≠d)
structure Mod(K:PySem.W.Frag)(mg:Str->Option Value)(base:Heap):Prop where
 Sq:K.In base
 glob:base.Ns mainGlobals mg
 blt:∃mb,base.Ns builtinsNs mb/\∀x:Str,x≠"__name__"->mb x=bootBuiltins x
 nolimit:base.NoLimit
set_option genInjectivity false in
structure Cx where
 prog:Program
 w:World
 K:PySem.W.Frag
 mg:Str->Option Value
 base:Heap
 A:Around
 N:List Str
 wZ:Shared
 Zg:Hp
 env:Env
 outer:List Env
 stack:List Env
 ex:List Addr
 fn:Str->Bool
 calm:Bool
 pn:List (Addr×Obj)
 xe:Value->Shared->Prop
variable {X:L2.Cx}
noncomputable def EY(l:List Env):List Addr:=l.filterMap (·.frame)
noncomputable abbrev Cx.fs(X:Cx):List Addr:=EY X.outer
def Zh(sc:Scope)(x:Str):Prop:=sc.names.lookup x=some .local\/sc.names.lookup x=some .cell\/sc.names.lookup x=some .free
def Loc(sc:Scope)(x:Str):Prop:=sc.names.lookup x=some .local\/sc.names.lookup x=some .cell
def Look(env:Env)(h:Heap)(m:Str->Option Value)(x:Str)(u:Value):Prop:=
 (env.kindOf x=some .local/\m x=some u)\/((env.kindOf x=some .cell\/env.kindOf x=some .free)/\∃c,env.cells.lookup x=some c/\h.IsCell c (some u))
structure Cx.Ok(X:Cx):Prop where
 mod:Mod X.K X.mg X.base
 kind:X.env.scope.kind=.function
 glob:X.env.globals=mainGlobals
 blt:X.env.builtins=builtinsNs
 above:X.wZ.heap.objs.size<=X.env.locals
 inj:∀x y c,X.env.cells.lookup x=some c->X.env.cells.lookup y=some c->x=y
 has:∀x,(X.env.kindOf x=some .cell\/X.env.kindOf x=some .free)->∃c,X.env.cells.lookup x=some c
 V1:∀x c,X.fn x=true->X.env.cells.lookup x=some c->X.wZ.heap.objs.size<=c
 hd:X.calm=true->X.A.handled=none
 frames:X.A.frames=some X.stack
 Yw:X.stack=X.outer\/(X.stack=X.env::X.outer/\X.env.frame=some X.env.locals)
 Yx:∀b∈X.ex,b≠X.env.locals/\∀x c,X.env.cells.lookup x=some c->c≠b
 bs:∀b o,X.base.get? b=some o->X.wZ.heap.get? b=some o/\X.Zg b=none
 LX:X.base.objs.size<=X.wZ.heap.objs.size
 HE:∀b o,X.base.get? b=some o->b∉X.ex
 HF:∀b∈X.ex,b∉X.fs
 rh:X.wZ.heap.FunFrames X.base X.outer
 RN:∀b∈X.fs,X.Zg b=none
structure Inv(X:Cx)(pins:List (Addr×Obj))(σ:List (Option V))(H:Hp)(s:Shared):Prop where
 ok:X.Ok
 os:s.os=X.wZ.os
 bare:AllBare s.gens
 base:Un X.fs X.ex X.Zg H X.wZ.heap s.heap
 loc:∃m,s.heap.Ns X.env.locals m/\∀(i:Nat)(x:Str)(v:V),X.N[i]?=some x->σ[i]?=some (some v)->Zh X.env.scope x->∃u,RelV v u/\Look X.env s.heap m x u
 cell:∀x c,X.env.cells.lookup x=some c->∃v,s.heap.IsCell c v
 free:H X.env.locals=none
 iG:∀x c,X.env.cells.lookup x=some c->H c=none
 pin:∀p∈X.pn++pins,s.heap.get? p.1=some p.2/\H p.1=none/\p.1≠X.env.locals/\p.1∉X.fs/\∀v,p.2.data≠ .cell v
 bQ:mO X.prog X.w H s.heap
 len:σ.length=X.N.length
section
variable {σ:List (Option V)}
def Cx.Ok.ab8(ok:X.Ok){o:Obj}(e:X.base.get? b=some o):b∉X.fs:=λhb=>by
 have:=(ok.rh.mem hb).1;rw[e]at this;cases this
theorem Inv.bs(I:Inv X pins σ H s):∀b o,X.base.get? b=some o->s.heap.get? b=some o/\H b=none:=λb o e=>
 ⟨I.base.keep b o (I.ok.bs b o e).1 (I.ok.bs b o e).2 (I.ok.ab8 e) (I.ok.HE b o e),I.base.free b o (I.ok.bs b o e).1 (I.ok.bs b o e).2 (I.ok.HE b o e)⟩
def Inv.bk(I:Inv X pins σ H s):∀b o,X.base.get? b=some o->s.heap.get? b=some o:=λb o e=>(I.bs b o e).1
theorem Inv.mod(I:Inv X pins σ H s):Mod X.K X.mg X.base:=I.ok.mod
def Inv.EZ(I:Inv X pins σ H s):X.K.In s.heap:=I.ok.mod.Sq.keeps I.bk
def Inv.fr(I:Inv X pins σ H s):∃m,Fr X.base X.env.locals s.heap m:=
 let⟨m,hn,_⟩:=I.loc
 ⟨m,hn,I.bk,aW I.ok.LX I.ok.above⟩
theorem Inv.lt(I:Inv X pins σ H s):X.env.locals<s.heap.objs.size:=let⟨_,hn,_⟩:=I.loc;hn.lt
def Inv.sz(I:Inv X pins σ H s):X.wZ.heap.objs.size<=s.heap.objs.size:=aW I.ok.above (iq I.lt)
def Inv.ab9(I:Inv X pins σ H s)(h:s.heap.objs.size<=a):a∉X.fs:=λhb=>by
 obtain⟨_,o,ho,_⟩:=I.ok.rh.mem hb;exact absurd (dR (aO ho) (aW I.sz h)) (iT _)
def Inv.Sr(I:Inv X pins σ H s):∀x c,X.env.cells.lookup x=some c->c≠X.env.locals:=λx c e z=>by
 obtain⟨v,o,ho,hd⟩:=I.cell x c e;obtain⟨m,⟨o',es,ep,w6,HG,_⟩,_⟩:=I.loc;rw[z,w6]at ho;cases ho;rw[HG]at hd;cases hd
theorem Inv.rh(I:Inv X pins σ H s):s.heap.FunFrames X.base X.outer:=by
 have all:∀(l:List Env),(∀b∈EY l,b∈X.fs)->X.wZ.heap.FunFrames X.base l->s.heap.FunFrames X.base l:=by
  intro l
  induction l with
  |nil=>intro _ _;trivial
  |cons env r ih=>
   intro hs hl;obtain⟨hk,⟨L,o,hf,hn,ho,hd⟩,hr⟩:=hl;have hL:=hs L (by unfold EY;rw[jD,hf];exact bZ);obtain⟨sl,e⟩:=I.base.slot L o ho (I.ok.RN L hL) hL λz=>I.ok.HF L z hL;exact⟨hk,⟨L,_,hf,hn,e,hd⟩,ih (λb hb=>hs b (by unfold EY;rw[jD,hf];exact bE _ hb)) hr⟩
 exact all X.outer (λ_ hb=>hb) I.ok.rh
theorem Inv.stack(I:Inv X pins σ H s):s.heap.FunFrames X.base X.stack:=by
 obtain e|⟨e,hf⟩:=I.ok.Yw
 .rw[e];exact I.rh
 .rw[e];obtain⟨m,hn,_⟩:=I.loc;refine .cons (by rw[I.ok.kind];decide) hf hn ?_ I.rh;exact Heap.get?_none_of_le (aW I.ok.LX I.ok.above)
def Inv.CM(I:Inv X pins σ H s):∀b∈EY X.stack,b∈X.env.locals::X.fs:=λb hb=>by
 obtain e|⟨e,hf⟩:=I.ok.Yw
 .rw[e]at hb;exact bE _ hb
 .rw[e]at hb;unfold EY at hb;rw[jD,hf]at hb;exact hb
def Inv.CO(I:Inv X pins σ H s):∀b∈EY X.stack,H b=none:=λb hb=>by
 obtain e|hb:=mem_cons.mp (I.CM b hb)
 .rw[e];exact I.free
 .obtain⟨_,o,ho,_⟩:=I.ok.rh.mem hb;exact I.base.free b o ho (I.ok.RN b hb) λz=>I.ok.HF b z hb
def Inv.step(I:Inv X pins σ H s)(Ay:∀b∈ch,(b∈X.ex\/X.wZ.heap.objs.size<=b)/\b≠X.env.locals/\(∀x c,X.env.cells.lookup x=some c->c≠b)/\∀p∈X.pn++pins,p.1≠b)(keep:∀b o,b≠X.env.locals->b∉X.fs->b∉ch->s.heap.get? b=some o->H b=none->h'.get? b=some o)(slot:∀b o,b≠X.env.locals->b∈X.fs->b∉ch->s.heap.get? b=some o->H b=none->∃sl,h'.get? b=some {o with slots:=sl})(free:∀b o,b∉ch->s.heap.get? b=some o->H b=none->H' b=none)(there:∀b o,b∉ch->s.heap.get? b=some o->∃o',h'.get? b=some o')(xS:∀b xs,H b=some (.tup xs)->H' b=some (.tup xs))(vL:∀b o u,H b=some (.Ar o u)->H' b=some (.Ar o u))(xT:∀b ps,H b=some (.RM ps)->∃more,H' b=some (.RM (ps++more)))(ns:∀m,s.heap.Ns X.env.locals m->h'.Ns X.env.locals m)(bQ:mO X.prog X.w H' h')(hg:AllBare g'):
  Inv X pins σ H' {s with heap:=h',gens:=g',drawn:=d',toks:=t'} :=by
 have Zi:∀b o,X.wZ.heap.get? b=some o->b≠X.env.locals:=λb o e=>bx (dR (aO e) I.ok.above);have Ss:∀b o,X.wZ.heap.get? b=some o->b∉X.ex->b∉ch:=λb o e hx hb=>by
  obtain z|z:=(Ay b hb).1
  .exact hx z
  .exact absurd (dR (aO e) z) (iT _)
 have cellK:∀x c,X.env.cells.lookup x=some c->∀v,s.heap.IsCell c v->h'.IsCell c v:=λx c e v ⟨o,ho,hd⟩=>by
  have N5:=λz=>(Ay c z).2.2.1 x c e rfl;by_cases hc:c∈X.fs
  .obtain⟨sl,q⟩:=slot c o (I.Sr x c e) hc N5 ho (I.iG x c e);exact⟨_,q,hd⟩
  .exact⟨o,keep c o (I.Sr x c e) hc N5 ho (I.iG x c e),hd⟩
 refine⟨I.ok,I.os,hg,⟨λb o e n hb hx=>?_,λb o e n hb hx=>?_,λb o e n hx=>?_,λb o e hx=>?_,λb xs e=>xS b xs (I.base.xS b xs e),λb o xs e=>vL b o xs (I.base.vL b o xs e),λb ps e=>?_⟩,?_,λx c e=>?_,?_,λx c e=>?_,λp hp=>?_,bQ,I.len⟩
 .exact keep b o (Zi b o e) hb (Ss b o e hx) (I.base.keep b o e n hb hx) (I.base.free b o e n hx)
 .obtain⟨sl,e1⟩:=I.base.slot b o e n hb hx;obtain⟨sl',e2⟩:=slot b _ (Zi b o e) hb (Ss b o e hx) e1 (I.base.free b o e n hx);exact⟨sl',e2⟩
 .obtain⟨o',e1⟩:=I.base.there b o e hx;exact free b o' (Ss b o e hx) e1 (I.base.free b o e n hx)
 .obtain⟨o',e1⟩:=I.base.there b o e hx;exact there b o' (Ss b o e hx) e1
 .obtain⟨m1,e1⟩:=I.base.xT b ps e;obtain⟨m2,e2⟩:=xT b _ e1;exact⟨m1++m2,by rw[e2,Array.append_assoc]⟩
 .obtain⟨m,hn,hl⟩:=I.loc;refine⟨m,ns m hn,λi x v e1 e2 e3=>?_⟩;obtain⟨u,r,l⟩:=hl i x v e1 e2 e3;refine⟨u,r,?_⟩;obtain l|⟨k,c,e,z⟩:=l
  .exact .inl l
  .exact .inr ⟨k,c,e,cellK x c e _ z⟩
 .obtain⟨v,z⟩:=I.cell x c e;exact⟨v,cellK x c e v z⟩
 .obtain⟨m,⟨o,_,_,ho,_⟩,_⟩:=I.loc;exact free _ o (λz=>(Ay _ z).2.1 rfl) ho I.free
 .obtain⟨v,o,ho,hd⟩:=I.cell x c e;exact free c o (λz=>(Ay c z).2.2.1 x c e rfl) ho (I.iG x c e)
 .obtain⟨e,n,ne,nf,d⟩:=I.pin p hp;have N5:=λz=>(Ay p.1 z).2.2.2 p hp rfl;exact⟨keep p.1 p.2 ne nf N5 e n,free p.1 p.2 N5 e n,ne,nf,d⟩
def Inv.un(I:Inv X pins σ H s)(u:Un X.fs [] H H' s.heap h')(bQ:mO X.prog X.w H' h'):Inv X pins σ H' {s with heap:=h',toks:=t'} :=by
 obtain⟨m,⟨o,es,ep,ho,r⟩,_⟩:=id I.loc;obtain⟨sl,hL⟩:=u.any ho I.free ∅;exact I.step (g':=s.gens) (ch:=[]) (λ_ z=>nomatch z) (λb o _ hb _ e n=>u.keep b o e n hb ∅) (λb o _ hb _ e n=>u.slot b o e n hb ∅) (λb o _ e n=>u.free b o e n ∅) (λb o _ e=>u.there b o e ∅) u.xS u.vL u.xT (λm' hm=>by
  obtain⟨o',As,N6,w6,r'⟩:=hm;rw[ho]at w6;cases w6;exact⟨_,As,N6,hL,r'⟩) bQ I.bare
def Inv.call(I:Inv X pins σ H s)(u:Un (EY X.stack) ch H H' s.heap h')(bQ:mO X.prog X.w H' h')(hg:AllBare g')(Ay:∀b∈ch,(b∈X.ex\/X.wZ.heap.objs.size<=b)/\b≠X.env.locals/\(∀x c,X.env.cells.lookup x=some c->c≠b)/\∀p∈X.pn++pins,p.1≠b):
  Inv X pins σ H' {s with heap:=h',gens:=g',drawn:=d',toks:=t'} :=by
 obtain⟨m,⟨o,es,ep,ho,r⟩,_⟩:=id I.loc;obtain⟨sl,hL⟩:=u.any ho I.free λz=>(Ay _ z).2.1 rfl;exact I.step Ay (λb o hL hb hc e n=>u.keep b o e n (λz=>(mem_cons.mp (I.CM b z)).elim hL hb) hc) (λb o _ _ hc e n=>u.any e n hc) (λb o hc e n=>u.free b o e n hc) (λb o hc e=>u.there b o e hc) u.xS u.vL u.xT (λm' hm=>by
  obtain⟨o',As,N6,w6,r'⟩:=hm;rw[ho]at w6;cases w6;exact⟨_,As,N6,hL,r'⟩) bQ hg
def Inv.turned(I:Inv X pins σ H s)(k:∀b o,b≠it->s.heap.get? b=some o->h'.get? b=some o)(hn:H it=none)(hL:it≠X.env.locals)(h1:it∈X.ex\/X.wZ.heap.objs.size<=it)(h2:∀x c,X.env.cells.lookup x=some c->c≠it)(h3:∀p∈X.pn++pins,p.1≠it):Inv X pins σ H {s with heap:=h',toks:=t'} :=by
 have U3:∀b u,H b=some u->b≠it:=λb u e z=>by rw[z,hn]at e;cases e
 refine I.step (g':=s.gens) (ch:=[it]) (λb hb=>?_) (λb o _ _ hc e _=>k b o (λz=>hc (by simp[z])) e) (λb o _ _ hc e _=>⟨o.slots,k b o (λz=>hc (by simp[z])) e⟩) (λ_ _ _ _ n=>n)
  (λb o hc e=>⟨o,k b o (λz=>hc (by simp[z])) e⟩) (λ_ _ e=>e) (λ_ _ _ e=>e) (λb ps e=>⟨#[],by rw[e];simp⟩) (λm hm=>?_) (λb u e=>?_) I.bare
 .have e:b=it:=by simpa using hb
  subst e;exact⟨h1,hL,h2,h3⟩
 .obtain⟨o,es,ep,ho,r⟩:=hm;exact⟨o,es,ep,k _ o (dF hL) ho,r⟩
 .refine(I.bQ b u e).E9 (λc v hc q=>k c v ?_ q) (λ_ q=>q) λ_ _ q=>q;obtain z|z:=hc
  .rw[z];exact U3 b u e
  .exact U3 c _ z
def Inv.tok(I:Inv X pins σ H s) t:Inv X pins σ H {s with toks:=t} :=I.un (h':=s.heap) (t':=t) Un.refl I.bQ
theorem Inv.kept(I:Inv X pins σ H s)(k:∀b u,s.heap.get? b=some u->h'.get? b=some u):Inv X pins σ H {s with heap:=h',toks:=t'} :=I.un (Un.kept k) (I.bQ.kept k)
theorem Inv.laid(I:Inv X pins σ H s)(k:∀b u,s.heap.get? b=some u->h'.get? b=some u)(hp:s.heap.objs.size<=a)(new:dB X.prog X.w (upd H a o) h' a o):
  Inv X pins σ (upd H a o) {s with heap:=h',toks:=t'} :=I.un (Un.laid k hp (I.bQ.fresh hp)) (I.bQ.laid k hp new)
theorem Inv.write{x e:Addr}(I:Inv X pins σ H s)(mu:Ze (H x))(he:e=x\/H e=some (.own x))(k:∀b u,b≠e->s.heap.get? b=some u->h'.get? b=some u)(Yu:∃u,h'.get? e=some u)(new:dB X.prog X.w (upd H x o) h' x o):Inv X pins σ (upd H x o) {s with heap:=h',toks:=t'} :=I.un (Un.write mu he k Yu) (I.bQ.write mu he k Yu new)
def Inv.weak(I:Inv X pins σ H s)(hl:σ'.length=σ.length)(w:∀(i:Nat) v,σ'[i]?=some (some v)->σ[i]?=some (some v)):Inv X pins σ' H s:=
 ⟨I.ok,I.os,I.bare,I.base,let⟨m,hn,Fb⟩:=I.loc;⟨m,hn,λi x v e1 e2 e3=>Fb i x v e1 (w i v e2) e3⟩,I.cell,I.free,I.iG,I.pin,I.bQ,hl.trans I.len⟩
def Inv.mP(I:Inv X pins σ H s)(h:∀p∈Zj,s.heap.get? p.1=some p.2/\H p.1=none/\p.1≠X.env.locals/\p.1∉X.fs/\∀v,p.2.data≠ .cell v):Inv X Zj σ H s:=
 ⟨I.ok,I.os,I.bare,I.base,I.loc,I.cell,I.free,I.iG,λp hp=>(mem_append.mp hp).elim (λz=>I.pin p (wL _ z)) (h p),I.bQ,I.len⟩
def xU(hN:N.Nodup)(a:N[i]?=some x)(b:N[j]?=some x):i=j:=by
 obtain⟨h1,e1⟩:=List.getElem?_eq_some_iff.mp a;obtain⟨h2,e2⟩:=List.getElem?_eq_some_iff.mp b;exact(getElem_inj hN).mp (e1.trans e2.symm)
def Bg{Q:Unit->Shared->Prop}(I:Inv X pins σ H s)(hN:X.N.Nodup)(hi:X.N[i]?=some x)(hx:Loc X.env.scope x)(r:RelV v u)(h:∀s',Inv X pins (σ.set i (some v)) H s'->(∃a,Heap.SameBut a s.heap s'.heap/\(a=X.env.locals\/X.env.cells.lookup x=some a))->Q Unit.unit s')(hf:X.fn x=true\/X.env.scope.names.lookup x=some .local):wpAny M A (storeName X.env x u) Q E s:=by
 obtain⟨m,hn,hl⟩:=id I.loc;have ab_:(X.env.scope.kind==.class||(X.env.scope.kind==.module&&X.env.locals !=X.env.globals))=false:=by rw[I.ok.kind];rfl
 have hiσ:i<σ.length:=by rw[I.len];exact(List.getElem?_eq_some_iff.mp hi).1
 have Sr:=I.Sr;have tracked:∀{a:Addr}{h':Heap},(∃o,s.heap.get? a=some o/\H a=none)->Heap.SameBut a s.heap h'->mO X.prog X.w H h':=λ{a h'} ha hs b ob e=>by
  obtain⟨_,_,vg⟩:=ha;refine(I.bQ b ob e).E9 (λc w' hc q=>(hs.2 c ?_).trans q) (λ_ q=>q) λ_ _ q=>q;rintro rfl;obtain rfl|hc:=hc
  .rw[vg]at e;cases e
  .rw[vg]at hc;cases hc
 obtain hk|hk:=hx
 .refine wpAny_storeName_local hk hn (λh' hn' hs=>?_) ab_;obtain⟨oL,_,_,NQ,_⟩:=id hn;refine h _ ⟨I.ok,I.os,I.bare,⟨λb o e n hb hx=>?_,λb o e n hb hx=>?_,I.base.free,λb o e hx=>?_,I.base.xS,I.base.vL,I.base.xT⟩,⟨_,hn',λj y v' e1 e2 e3=>?_⟩,λy c e=>?_,I.free,I.iG,λp hp=>?_,tracked ⟨oL,NQ,I.free⟩ hs,‹I.len›⟩ ⟨_,hs,.inl rfl⟩
  .exact(hs.2 b (bx (dR (aO e) I.ok.above))).trans (I.base.keep b o e n hb hx)
  .obtain⟨sl,e1⟩:=I.base.slot b o e n hb hx;exact⟨sl,(hs.2 b (bx (dR (aO e) I.ok.above))).trans e1⟩
  .obtain⟨o',e1⟩:=I.base.there b o e hx;exact⟨o',(hs.2 b (bx (dR (aO e) I.ok.above))).trans e1⟩
  .by_cases hj:j=i
   .subst hj;rw[hi]at e1;cases e1;rw[getElem?_set_self hiσ]at e2;cases e2;exact⟨u,r,.inl ⟨hk,by simp⟩⟩
   .rw[getElem?_set_ne (dF hj)]at e2;obtain⟨u',r',q⟩:=hl j y v' e1 e2 e3;refine⟨u',r',?_⟩;obtain⟨k,e⟩|⟨k,c,e,z⟩:=q
    .refine .inl ⟨k,?_⟩;have:y≠x:=λe=>hj (xU hN e1 (e▸hi));simp[this,e]
    .exact .inr ⟨k,c,e,z.sameBut hs (Sr y c e)⟩
  .obtain⟨w',z⟩:=I.cell y c e;exact⟨w',z.sameBut hs (Sr y c e)⟩
  .obtain⟨e,n,ne,nf,d⟩:=I.pin p hp;exact⟨(hs.2 p.1 ne).trans e,n,ne,nf,d⟩
 .have hfn:X.fn x=true:=by
   obtain z|z:=hf
   .exact z
   .rw[z]at hk;cases hk
  obtain⟨c,hc⟩:=I.ok.has x (.inl hk);obtain⟨w',z⟩:=I.cell x c hc;refine wpAny_storeName_cell I.ok.kind hk hc z (λh' U4 hs=>?_);obtain⟨oc,hoc,acd⟩:=id z;refine h {s with heap:=h'} ⟨I.ok,I.os,I.bare,⟨λb o e n hb hx=>?_,λb o e n hb hx=>?_,I.base.free,λb o e hx=>?_,I.base.xS,I.base.vL,I.base.xT⟩,⟨m,hn.sameBut hs (dF (Sr x c hc)),λj y v' e1 e2 e3=>?_⟩,λy c' e=>?_,I.free,I.iG,λp hp=>?_,tracked ⟨oc,hoc,I.iG x c hc⟩ hs,‹I.len›⟩ ⟨c,hs,.inr hc⟩
  .exact(hs.2 b (bx (dR (aO e) (I.ok.V1 x c hfn hc)))).trans (I.base.keep b o e n hb hx)
  .obtain⟨sl,e1⟩:=I.base.slot b o e n hb hx;exact⟨sl,(hs.2 b (bx (dR (aO e) (I.ok.V1 x c hfn hc)))).trans e1⟩
  .obtain⟨o',e1⟩:=I.base.there b o e hx;exact⟨o',(hs.2 b (bx (dR (aO e) (I.ok.V1 x c hfn hc)))).trans e1⟩
  .by_cases hj:j=i
   .subst hj;rw[hi]at e1;cases e1;rw[getElem?_set_self hiσ]at e2;cases e2;exact⟨u,r,.inr ⟨.inl hk,c,hc,U4⟩⟩
   .rw[getElem?_set_ne (dF hj)]at e2;obtain⟨u',r',q⟩:=hl j y v' e1 e2 e3;refine⟨u',r',?_⟩;obtain q|⟨k,c',e,z'⟩:=q
    .exact .inl q
    .refine .inr ⟨k,c',e,z'.sameBut hs ?_⟩;rintro rfl;exact hj (xU hN e1 (I.ok.inj _ _ _ e hc▸hi))
  .by_cases hcc:c'=c
   .subst hcc;exact⟨_,U4⟩
   .obtain⟨w2,z2⟩:=I.cell y c' e;exact⟨w2,z2.sameBut hs hcc⟩
  .obtain⟨e,n,ne,nf,d⟩:=I.pin p hp;refine⟨(hs.2 p.1 ?_).trans e,n,ne,nf,d⟩;intro q;rw[q,hoc]at e;have q':=Option.some.inj e;exact d w' (by rw[<-q'];exact acd)
def xV{Q:Unit->Shared->Prop}(I:Inv X pins σ H s)(hN:X.N.Nodup)(hi:X.N[i]?=some x)(hx:Loc X.env.scope x)(r:RelV v u)(h:∀s',Inv X pins (σ.set i (some v)) H s'->Q Unit.unit s')(hf:X.fn x=true\/X.env.scope.names.lookup x=some .local):wpAny M A (storeName X.env x u) Q E s:=
 Bg I hN hi hx r (λs' I' _=>h s' I') hf
def Inv.N7(I:Inv X pins σ H s)(ho:s'.os=s.os)(u:Un (EY X.stack) ch H H' s.heap s'.heap)(bQ:mO X.prog X.w H' s'.heap)(hg:AllBare s'.gens)(Ay:∀b∈ch,(b∈X.ex\/X.wZ.heap.objs.size<=b)/\b≠X.env.locals/\(∀x c,X.env.cells.lookup x=some c->c≠b)/\∀p∈X.pn++pins,p.1≠b):Inv X pins σ H' s':=by
 obtain⟨h',g',d',t',o'⟩:=s';have e:=ho;subst e;exact I.call (t':=t') (d':=d') u bQ hg Ay
end
abbrev XK:=Value->Option Addr->Hp->Prop
abbrev St:=List (Option V)
variable {σ:L2.St}
abbrev VK:=V->Hp->Prop
abbrev TE:=St->Hp->VK->Prop
variable {te ta:L2.TE}
abbrev TT:=St->Hp->(Bool->Hp->Prop)->Prop
variable {tt:L2.TT}
abbrev TA:=St->Hp->(List V->Hp->Prop)->Prop
structure Ends where
 nx:St->Hp->Prop
 rt:VK
 bk:St->Hp->Prop:=λ_ _=>False
 ct:St->Hp->Prop:=λ_ _=>False
abbrev TS:=Ends->St->Hp->Prop
variable {tb:L2.TS}
def EP(X:Cx)(pins:List (Addr×Obj))(σ:St)(Q:VK)(u:Value)(s':Shared):Prop:=∃v H',Inv X pins σ H' s'/\RelV v u/\Q v H'
def TP(X:Cx)(pins:List (Addr×Obj))(σ:St)(Q:Bool->Hp->Prop)(b:Bool)(s':Shared):Prop:=∃H',Inv X pins σ H' s'/\Q b H'
def AP(X:Cx)(pins:List (Addr×Obj))(σ:St)(Q:List V->Hp->Prop)(us:List Value)(s':Shared):Prop:=∃vs H',Inv X pins σ H' s'/\Vals vs us/\Q vs H'
def SP(X:Cx)(pins:List (Addr×Obj))(D:Ends)(f:Flow)(s':Shared):Prop:=
 match f with
 |.next=>∃σ' H',Inv X pins σ' H' s'/\D.nx σ' H'|.brk=>∃σ' H',Inv X pins σ' H' s'/\D.bk σ' H'
 |.cont=>∃σ' H',Inv X pins σ' H' s'/\D.ct σ' H'|.ret u=>∃v σ' H',Inv X pins σ' H' s'/\RelV v u/\D.rt v H'
def PE(X:Cx)(e:Expr)(t:TE):Prop:=
 ∀(pins:List (Addr×Obj))(s:Shared)(σ:St)(H:Hp)(Q:VK),Inv X pins σ H s->t σ H Q->wpAny (model X.prog X.w) X.A (eval e X.env) (EP X pins σ Q) X.xe s
def PT(X:Cx)(e:Expr)(t:TT):Prop:=
 ∀(pins:List (Addr×Obj))(s:Shared)(σ:St)(H:Hp)(Q:Bool->Hp->Prop),Inv X pins σ H s->t σ H Q->wpAny (model X.prog X.w) X.A (isTrue e X.env (eval e X.env)) (TP X pins σ Q) X.xe s
def PW(X:Cx)(e:Expr)(t:TT):Prop:=
 ∀(whole:Sem Value)(pins:List (Addr×Obj))(s:Shared)(σ:St)(H:Hp)(Q:Bool->Hp->Prop),Inv X pins σ H s->t σ H Q->wpAny (model X.prog X.w) X.A (isTrue e X.env whole) (TP X pins σ Q) X.xe s
def PW.pt{t:TT}(h:PW X e t):PT X e t:=h _
def PA(X:Cx)(es:List Expr)(t:TA):Prop:=
 ∀(pos:Pos)(pins:List (Addr×Obj))(s:Shared)(σ:St)(H:Hp)(Q:List V->Hp->Prop),Inv X pins σ H s->t σ H Q->wpAny (model X.prog X.w) X.A (spliced (backTo pos (starEach es X.env))) (AP X pins σ Q) X.xe s
def PS(X:Cx)(st:Stmt)(t:TS):Prop:=
 ∀(pins:List (Addr×Obj))(s:Shared)(σ:St)(H:Hp)(D:Ends),Inv X pins σ H s->t D σ H->wpAny (model X.prog X.w) X.A (exec st X.env) (SP X pins D) X.xe s
def vM(X:Cx)(st:List Stmt)(t:TS):Prop:=
 ∀(pins:List (Addr×Obj))(s:Shared)(σ:St)(H:Hp)(D:Ends),Inv X pins σ H s->t D σ H->wpAny (model X.prog X.w) X.A (execs st X.env) (SP X pins D) X.xe s
def cJ{t:Sem α}{Q Q':α->Shared->Prop}(h:wpAny M A t Q E s)(hQ:∀a s,Q a s->Q' a s):wpAny M A t Q' E s:=c5 h hQ λ_ _ x=>x
section
def eV(o:Option (Option V))(Q:V->Prop):Prop:=match o with|some (some v)=>Q v|_=>False
theorem Sv{Q:V->Prop}:eV (some (some v)) Q=Q v:=rfl
theorem xW{o:Option (Option V)}{Q:V->Prop}:eV o Q↔∃v,o=some (some v)/\Q v:=by
 refine⟨λh=>?_,λh=>?_⟩
 .obtain _|_|v:=o
  .exact False.elim h
  .exact False.elim h
  .exact⟨v,rfl,h⟩
 .obtain⟨v,rfl,h⟩:=h;exact h
def eI(x:V)(Q:Int->Prop):Prop:=match x with|.int i=>Q i|_=>False
theorem V2{i:Int}{Q:Int->Prop}:eI (.int i) Q=Q i:=rfl
theorem fD{x:V}{Q:Int->Prop}:eI x Q↔∃i,x=.int i/\Q i:=by
 refine⟨λh=>?_,λh=>?_⟩
 .cases x with
  |int i=>exact⟨i,rfl,h⟩|_=>exact False.elim h
 .obtain⟨i,rfl,h⟩:=h;exact h
def eB(x:V)(Q:Bool->Prop):Prop:=match x with|.bl i=>Q i|_=>False
theorem Fc{i:Bool}{Q:Bool->Prop}:eB (.bl i) Q=Q i:=rfl
theorem kJ{x:V}{Q:Bool->Prop}:eB x Q↔∃i,x=.bl i/\Q i:=by
 refine⟨λh=>?_,λh=>?_⟩
 .cases x with
  |bl i=>exact⟨i,rfl,h⟩|_=>exact False.elim h
 .obtain⟨i,rfl,h⟩:=h;exact h
def eD(vs:List V)(Q:Bool->Prop):Prop:=match vs with| [.bl i]=>Q i|_=>False
theorem N8{i:Bool}{Q:Bool->Prop}:eD [.bl i] Q=Q i:=rfl
theorem xX{vs:List V}{Q:Bool->Prop}:eD vs Q↔∃i,vs=[.bl i]/\Q i:=by
 refine⟨λh=>?_,λh=>?_⟩
 .unfold eD at h;split at h
  .exact⟨_,rfl,h⟩
  .exact False.elim h
 .obtain⟨i,rfl,h⟩:=h;exact h
def bT(b:Bool)(p:Prop):Prop:=match b with|true=>p|false=>False
theorem pW:bT true p=p:=rfl
theorem HH{b:Bool}:bT b p↔b=true/\p:=by
 cases b with
 |true=>exact⟨λh=>⟨rfl,h⟩,λh=>h.2⟩|false=>exact⟨False.elim,λh=>nomatch h.1⟩
noncomputable def eR(x:V)(Q:Addr->Prop):Prop:=match x with|.ref i=>Q i|_=>False
theorem V3{i:Addr}{Q:Addr->Prop}:eR (.ref i) Q=Q i:=rfl
theorem kK{x:V}{Q:Addr->Prop}:eR x Q↔∃i,x=.ref i/\Q i:=by
 refine⟨λh=>?_,λh=>?_⟩
 .cases x with
  |ref i=>exact⟨i,rfl,h⟩|_=>exact False.elim h
 .obtain⟨i,rfl,h⟩:=h;exact h
noncomputable def eS(x:V)(Q:Str->Prop):Prop:=match x with|.str i=>Q i|_=>False
theorem V4{i:Str}{Q:Str->Prop}:eS (.str i) Q=Q i:=rfl
theorem HI{x:V}{Q:Str->Prop}:eS x Q↔∃i,x=.str i/\Q i:=by
 refine⟨λh=>?_,λh=>?_⟩
 .cases x with
  |str i=>exact⟨i,rfl,h⟩|_=>exact False.elim h
 .obtain⟨i,rfl,h⟩:=h;exact h
noncomputable def eL(vs:List V)(Q:Addr->Prop):Prop:=match vs with| [.ref i]=>Q i|_=>False
theorem V5{i:Addr}{Q:Addr->Prop}:eL [.ref i] Q=Q i:=rfl
theorem uk{vs:List V}{Q:Addr->Prop}:eL vs Q↔∃i,vs=[.ref i]/\Q i:=by
 refine⟨λh=>?_,λh=>?_⟩
 .unfold eL at h;split at h
  .exact⟨_,rfl,h⟩
  .exact False.elim h
 .obtain⟨i,rfl,h⟩:=h;exact h
noncomputable def eT(vs:List V)(Q:Str->Prop):Prop:=match vs with| [.str i]=>Q i|_=>False
theorem V6{i:Str}{Q:Str->Prop}:eT [.str i] Q=Q i:=rfl
theorem CP{vs:List V}{Q:Str->Prop}:eT vs Q↔∃i,vs=[.str i]/\Q i:=by
 refine⟨λh=>?_,λh=>?_⟩
 .unfold eT at h;split at h
  .exact⟨_,rfl,h⟩
  .exact False.elim h
 .obtain⟨i,rfl,h⟩:=h;exact h
def xY(i:Nat):TE:=λσ H Q=>eV σ[i]? λv=>Q v H
def tC(v:V):TE:=λ_ H Q=>Q v H
def V7{pos:Pos}(hN:X.N[i]?=some x)(hv:Zh X.env.scope x)(hd:(x==("__debug__":Str))=false:=by decide)(Bh:(x==("__classdict__":Str))=false:=by decide):PE X (.Name x pos) (xY i):=by
 intro pins s σ H Q I h;obtain⟨v,e,h⟩:=xW.mp h;obtain⟨m,hn,hl⟩:=I.loc;obtain⟨u,r,l⟩:=hl i x v hN e hv;have fin:EP X pins σ Q u s:=⟨v,H,I,r,h⟩;obtain⟨hk,hm⟩|⟨hk,c,hc,J2⟩:=l
 .exact wpAny_Name (wpAny_loadName_local I.ok.kind hk hn hm fin) hd
 .obtain hk|hk:=hk
  .exact wpAny_Name (wpAny_loadName_cell I.ok.kind hk hc J2 fin) hd
  .exact wpAny_Name (wpAny_loadName_free I.ok.kind hk hc J2 fin Bh) hd
def aq{i j pos}:PE X (.Constant (.int i) j pos) (tC (.int i)):=λ_ _ _ H _ I h=>wpAny_Constant_int ⟨.int i,H,I.tok _,⟨_,rfl⟩,h⟩
def qH{b j pos}:PE X (.Constant (.bool b) j pos) (tC (.bl b)):=λ_ _ _ H _ I h=>Constant_bool ⟨.bl b,H,I,rfl,h⟩
def xZ{j pos}:PE X (.Constant .none j pos) (tC .cT):=λ_ _ _ H _ I h=>Constant_none ⟨.cT,H,I,rfl,h⟩
def bo{x j pos}:PE X (.Constant (.str x) j pos) (tC (.str x)):=λ_ _ _ H _ I h=>Calls.Constant_str ⟨.str x,H,I.tok _,⟨_,rfl⟩,h⟩
def Gl(X:Cx)(x:Str):Prop:=X.env.kindOf x=some .globalImplicit
def pX{E:Value->Shared->Prop}{pos:Pos}(I:Inv X pins σ H s)(hg:Gl X x)(hm:X.mg x=some u)(h:Q u s)(hd:(x==("__debug__":Str))=false:=by decide):wpAny (model X.prog X.w) X.A (eval (.Name x pos) X.env) Q E s:=
 Calls.Name_function_global I.ok.kind hg (Calls.loadGlobal_global (by rw[I.ok.glob];exact I.mod.glob.keeps I.bk) hm h) hd
def gk{E:Value->Shared->Prop}{pos:Pos}(I:Inv X pins σ H s)(hg:Gl X x)(hm:X.mg x=none)(hv:bootBuiltins x=some u)(h:Q u s)(hn:x≠"__name__":=by decide)(hd:(x==("__debug__":Str))=false:=by decide):wpAny (model X.prog X.w) X.A (eval (.Name x pos) X.env) Q E s:=by
 obtain⟨mb,h1,h2⟩:=I.mod.blt;exact Calls.Name_function_global I.ok.kind hg (Calls.loadGlobal_builtin (by rw[I.ok.glob];exact I.mod.glob.keeps I.bk) hm (by rw[I.ok.blt];exact h1.keeps I.bk) ((h2 x hn).trans hv) h) hd
def CQ{pos:Pos}(hg:Gl X x)(hm:X.mg x=some u)(r:RelV v u)(hd:(x==("__debug__":Str))=false:=by decide):PE X (.Name x pos) (tC v):=
 λ_ _ _ H _ I h=>pX I hg hm ⟨v,H,I,r,h⟩ hd
variable {a b:Expr} {tb:TE}
def PC(X:Cx)(op:CmpOp)(a b:Expr)(t:TE):Prop:=
 ∀(pins:List (Addr×Obj))(s:Shared)(σ:St)(H:Hp)(Q:VK),Inv X pins σ H s->t σ H Q->
  wpAny (model X.prog X.w) X.A (eval a X.env) (λv s₁=>wpAny (model X.prog X.w) X.A (eval b X.env) (λu s₂=>wpAny (model X.prog X.w) X.A (compareOp op v u) (EP X pins σ Q) X.xe s₂) X.xe s₁) X.xe s
def x3 b (h:op≠ .In) (h2:op≠ .NotIn):behindInMarks op b=false:=by
 have e1:(op==CmpOp.In)=false:=by cases op<;>first|rfl|exact absurd rfl h
 have e2:(op==CmpOp.NotIn)=false:=by cases op<;>first|rfl|exact absurd rfl h2
 cases b
 case Set elts k p=>
  show((k==0&&(op==.In||op==.NotIn))&&_)=false;rw[e1,e2];cases k==0<;>rfl
 all_goals rfl
def tB(t:TE):TT:=λσ H Q=>t σ H λx H1=>eB x λc=>Q c H1
def x4{t:TE}(h:PC X op a b t)(h1:behindInMarks op b=false:=by first|exact x3 _ ⋯ ⋯|rfl):PE X (.Compare a [op] [b] pos) t:=λpins s σ H Q I hw=>wpAny_Compare1 (h pins s σ H Q I hw) h1
def V8{t:TE}(h:PC X op a b t)(h1:behindInMarks op b=false:=by first|exact x3 _ ⋯ ⋯|rfl):PT X (.Compare a [op] [b] pos) (tB t):=by
 intro pins s σ H Q I hw;refine wpAny_isTrue_Compare1 (cJ (h pins s σ H _ I hw) λv s1 h1=>cJ h1 λu s2 h2=>cJ h2 λc s3 zq5=>?_) h1;obtain⟨x,H1,I1,r1,q1⟩:=zq5;obtain⟨d,rfl,q⟩:=kJ.mp q1;cases r1;exact mx ⟨H1,I1,q⟩
def um{t:TE}(h:PE X e t)(he:∀whole,isTrue e X.env whole=(do let v<-whole;standAt e.pos;holding [v] (truthy v)):=by intro _;rfl):PT X e (tB t):=by
 intro pins s σ H Q I hw;refine isTrue_plain (cJ (h pins s σ H _ I hw) λv s1 zq6=>?_) (he _);obtain⟨x,H1,I1,r1,q1⟩:=zq6;obtain⟨d,rfl,q⟩:=kJ.mp q1;cases r1;exact mx ⟨H1,I1,q⟩
variable {tA tB':TT} {rest:List Expr}
def V9(t u:TT):TT:=λσ H Q=>t σ H λc H1=>if c=true then u σ H1 Q else Q false H1
def tOr(t u:TT):TT:=λσ H Q=>t σ H λc H1=>if c=true then Q true H1 else u σ H1 Q
def V_(t:TT):TT:=λσ H Q=>t σ H λc H1=>Q (!c) H1
def Sw(ha:PT X a tA):PW X (.BoolOp .And [a] pos) tA:=by
 intro wh pins s σ H Q I h;refine isTrue_and (cJ (ha pins s σ H Q I h) λc s1 e=>?_);cases c with
 |true=>exact isTrue_and_nil e|false=>exact e
def N9(ha:PT X a tA):PW X (.BoolOp .Or [a] pos) tA:=by
 intro wh pins s σ H Q I h;refine isTrue_or (cJ (ha pins s σ H Q I h) λc s1 e=>?_);cases c with
 |false=>exact isTrue_or_nil e|true=>exact e
def Wa(ha:PT X a tA)(hb:PW X (.BoolOp .And (b::rest) pos) tB'):PW X (.BoolOp .And (a::b::rest) pos) (V9 tA tB'):=by
 intro wh pins s σ H Q I h;refine isTrue_and (cJ (ha pins s σ H _ I h) λc s1 zq7=>?_);obtain⟨H1,I1,q1⟩:=zq7;cases c with
 |true=>exact hb wh pins s1 σ H1 Q I1 q1|false=>exact⟨H1,I1,q1⟩
def U5(ha:PT X a tA)(hb:PW X (.BoolOp .Or (b::rest) pos) tB'):PW X (.BoolOp .Or (a::b::rest) pos) (tOr tA tB'):=by
 intro wh pins s σ H Q I h;refine isTrue_or (cJ (ha pins s σ H _ I h) λc s1 zq8=>?_);obtain⟨H1,I1,q1⟩:=zq8;cases c with
 |true=>exact⟨H1,I1,q1⟩|false=>exact hb wh pins s1 σ H1 Q I1 q1
def x5(ha:PT X a tA):PT X (.UnaryOp .Not a pos) (V_ tA):=by
 intro pins s σ H Q I h;exact isTrue_not (ha pins s σ H (λc H1=>Q (!c) H1) I h)
def N_(ta tb:TE):TE:=λσ H Q=>ta σ H λx H1=>eB x λc=>if c=true then tb σ H1 Q else Q (.bl false) H1
def Wb(ta tb:TE):TE:=λσ H Q=>ta σ H λx H1=>eB x λc=>if c=true then Q (.bl true) H1 else tb σ H1 Q
def U6(ta:TE):TE:=λσ H Q=>ta σ H λx H1=>∃c,x=.bl c/\Q (.bl (!c)) H1
def iV{op}{t:TE}(h:PE X a t):PE X (.BoolOp op [a] pos) t:=λpins s σ H Q I hw=>BoolOp_one (h pins s σ H Q I hw)
def kL(ha:PE X a ta)(hb:PE X (.BoolOp .And (b::rest) pos) tb):PE X (.BoolOp .And (a::b::rest) pos) (N_ ta tb):=by
 intro pins s σ H Q I h;refine BoolOp_and (cJ (ha pins s σ H _ I h) λv s1 zq9=>?_);obtain⟨x,H1,I1,r1,q1⟩:=zq9;obtain⟨c,rfl,q1⟩:=kJ.mp q1;cases r1;refine mx ?_;cases c with
 |true=>exact hb pins s1 σ H1 Q I1 q1|false=>exact⟨.bl false,H1,I1,rfl,q1⟩
def J3(ha:PE X a ta)(hb:PE X (.BoolOp .Or (b::rest) pos) tb):PE X (.BoolOp .Or (a::b::rest) pos) (Wb ta tb):=by
 intro pins s σ H Q I h;refine BoolOp_or (cJ (ha pins s σ H _ I h) λv s1 Wc=>?_);obtain⟨x,H1,I1,r1,q1⟩:=Wc;obtain⟨c,rfl,q1⟩:=kJ.mp q1;cases r1;refine mx ?_;cases c with
 |false=>exact hb pins s1 σ H1 Q I1 q1|true=>exact⟨.bl true,H1,I1,rfl,q1⟩
def Zk(t:TT)(ta tb:TE):TE:=λσ H Q=>t σ H λc H1=>if c=true then ta σ H1 Q else tb σ H1 Q
def x6{c:Expr}(hc:PT X c tA)(ha:PE X a ta)(hb:PE X b tb):PE X (.IfExp c a b pos) (Zk tA ta tb):=by
 intro pins s σ H Q I h;refine wpAny_IfExp (cJ (hc pins s σ H _ I h) λd s1 Wd=>?_);obtain⟨H1,I1,q1⟩:=Wd;cases d with
 |true=>exact ha pins s1 σ H1 Q I1 q1|false=>exact hb pins s1 σ H1 Q I1 q1
end
def aJ(K:PySem.W.Frag)(H:Hp)(a:Addr)(xs:List V):Prop:=
 Rd H a (.lst xs)\/
  ∃(o:Obj) (aR:Array Value) (n:Nat),K.lookup a=some o/\o.cls=.type "list"/\o.dict=none/\o.data=.seq aR n/\aR.size<=sizeLine/\Vals xs aR.toList
def jF(K:PySem.W.Frag)(H:Hp)(a:Addr)(xs:List V):Prop:=
 Rd H a (.tup xs)\/
  ∃(o:Obj) (aR:Array Value) (n:Nat),K.lookup a=some o/\o.cls=.type "tuple"/\o.data=.seq aR n/\aR.size<=sizeLine/\Vals xs aR.toList
noncomputable def ace:Value->Option V
 |.none=>some .cT|.bool b=>some (.bl b)
 |.int i _=>some (.int i)|.str x _=>some (.str x)
 |.bytes b _=>some (.Hw b)|.float b _=>some (.flt b)
 |.ref a=>some (.ref a)|.type n=>some (.ty n)
 |_=>none
def RelV.abs{x:V}(r:RelV x u):ace u=some x:=by
 cases x with
 |cT=>cases r;rfl
 |bl _=>cases r;rfl
 |int _=>obtain⟨t,rfl⟩:=r;rfl
 |str _=>obtain⟨t,rfl⟩:=r;rfl
 |Hw _=>obtain⟨t,rfl⟩:=r;rfl
 |flt _=>obtain⟨t,rfl⟩:=r;rfl
 |ref _=>cases r;rfl
 |ty _=>cases r;rfl
theorem RelV.inj{x:V}(r:RelV x u)(q:RelV y u):x=y:=Option.some.inj (r.abs.symm.trans q.abs)
theorem Vals.inj:∀{xs ys}{us},Vals xs us->Vals ys us->xs=ys:=by
 intro xs ys us h
 induction h generalizing ys with
 |nil=>intro q;cases q;rfl
 |cons r t ih=>
  intro q;cases q with
  |cons r' t'=>rw[r.inj r',ih t']
section
variable {ys:List V}
def aJ.of(h:H a=some (.lst xs)):aJ K H a xs:=.inl (.inl h)
def Inv.list(I:Inv X pins σ H s)(h:aJ X.K H a xs):∃aR:List Value,Vals xs aR/\PlainL s.heap a aR.toArray/\xs.length<=sizeLine:=by
 obtain h|⟨o,aR,n,hk,hc,hd,hs,hz,r⟩:=h
 .obtain⟨z,aR,n,r,e⟩:=h.ok I.bQ;exact⟨aR,r,⟨_,n,e,rfl,rfl,rfl⟩,z⟩
 .refine⟨aR.toList,r,⟨o,n,I.EZ a o hk,hc,hd,‹hs›⟩,?_⟩;have e:=r.length;simp only[Array.length_toList]at e;omega
def Inv.tuple(I:Inv X pins σ H s)(h:jF X.K H a xs):∃aR:List Value,Vals xs aR/\IsTup s.heap a aR.toArray/\xs.length<=sizeLine:=by
 obtain h|⟨o,aR,n,hk,hc,hs,hz,r⟩:=h
 .obtain⟨z,aR,r,p⟩:=h.ok I.bQ;exact⟨aR,r,p,z⟩
 .refine⟨aR.toList,r,⟨o,I.EZ a o hk,hc,n,‹hs›⟩,?_⟩;have e:=r.length;simp only[Array.length_toList]at e;omega
def Inv.sX(I:Inv X pins σ H s)(h:aJ X.K H a xs)(h':aJ X.K H a ys):xs=ys:=by
 obtain⟨aR,r,⟨o,n,e,_,_,d⟩,_⟩:=I.list h;obtain⟨HJ,r',⟨o',n',e',_,_,d'⟩,_⟩:=I.list h';rw[e]at e';cases e';rw[d]at d';injection d' with d1 _;have:aR=HJ:=‹bW Array.toList d1›
 subst this;exact r.inj r'
def Inv.LY(I:Inv X pins σ H s)(h:jF X.K H a xs)(h':jF X.K H a ys):xs=ys:=by
 obtain⟨aR,r,⟨o,e,_,n,d⟩,_⟩:=I.tuple h;obtain⟨HJ,r',⟨o',e',_,n',d'⟩,_⟩:=I.tuple h';rw[e]at e';cases e';rw[d]at d';injection d' with d1 _;have:aR=HJ:=‹bW Array.toList d1›
 subst this;exact r.inj r'
end
noncomputable abbrev Cx.qB(X:Cx)(E:Value->Shared->Prop):Cx:= {X with xe:=E}
noncomputable abbrev Cx.NR(X:Cx):Cx:=X.qB λ_ _=>False
theorem Cx.Ok.qB(ok:X.Ok) E:(X.qB E).Ok:=
 ⟨ok.mod,ok.kind,ok.glob,ok.blt,ok.above,ok.inj,ok.has,ok.V1,ok.hd,ok.frames,ok.Yw,ok.Yx,ok.bs,ok.LX,ok.HE,ok.HF,ok.rh,ok.RN⟩
def Cx.Ok.eO(ok:(X.qB E).Ok):X.Ok:=
 ⟨ok.mod,ok.kind,ok.glob,ok.blt,ok.above,ok.inj,ok.has,ok.V1,ok.hd,ok.frames,ok.Yw,ok.Yx,ok.bs,ok.LX,ok.HE,ok.HF,ok.rh,ok.RN⟩
section
theorem Inv.qB(I:Inv X pins σ H s) E:Inv (X.qB E) pins σ H s:=⟨I.ok.qB E,I.os,I.bare,I.base,I.loc,I.cell,I.free,I.iG,I.pin,I.bQ,I.len⟩
theorem Inv.eO(I:Inv (X.qB E) pins σ H s):Inv X pins σ H s:=⟨I.ok.eO,I.os,I.bare,I.base,I.loc,I.cell,I.free,I.iG,I.pin,I.bQ,I.len⟩
theorem SP.eO{D:Ends}{f:Flow}(h:SP (X.qB E) pins D f s'):SP X pins D f s':=by
 cases f with
 |next=>obtain⟨σ',H',I,q⟩:=h;exact⟨σ',H',I.eO,q⟩
 |brk=>obtain⟨σ',H',I,q⟩:=h;exact⟨σ',H',I.eO,q⟩
 |cont=>obtain⟨σ',H',I,q⟩:=h;exact⟨σ',H',I.eO,q⟩
 |ret u=>obtain⟨v,σ',H',I,r,q⟩:=h;exact⟨v,σ',H',I.eO,r,q⟩
theorem vM.NR{st:List Stmt}{t:TS}(h:vM X.NR st t):vM X st t:=λpins s σ H D I hw=>
 c5 (h pins s σ H D (I.qB _) hw) (λ_ _ q=>q.eO) λ_ _ z=>False.elim z
end
section
variable {rest:List Stmt} {t u:TS}
def bS:TS:=λD σ H=>D.nx σ H
def Sx(t u:TS):TS:=λD σ H=>t {D with nx:=u D} σ H
def bD:vM X [] bS:=λ_ _ σ H _ I h=>wM ⟨σ,H,I,h⟩
def ag(h1:PS X st t)(h2:vM X rest u):vM X (st::rest) (Sx t u):=by
 intro pins s σ H D I h;refine wpAny_execs_cons (cJ (h1 pins s σ H {D with nx:=u D} I h) λf s1 q=>?_);cases f with
 |next=>
  obtain⟨σ',H',I',q⟩:=q;exact h2 pins s1 σ' H' D I' q
 |ret v=>exact q|brk=>exact q
 |cont=>exact q
def au(h1:PS X st t):vM X [st] t:=by
 intro pins s σ H D I h;refine wpAny_execs_cons (cJ (h1 pins s σ H D I h) λf s1 q=>?_);cases f with
 |next=>exact wM q|ret v=>exact q
 |brk=>exact q|cont=>exact q
def HK:TS:=λD σ H=>D.bk σ H
def Oa:PS X (.Break pos) HK:=λ_ _ σ H _ I h=>wpAny_Break ⟨σ,H,I,h⟩
def Inv.quiet(I:Inv X pins σ H s):interactive X.env=false:=by simp[interactive,I.ok.kind]
def Ob(te:TE):TS:=λD σ H=>te σ H λ_ H1=>D.nx σ H1
def aS(he:PE X e te)(hs:swapsWith e none pos.line X.env=pure false:=by rfl):PS X (.Expr e pos) (Ob te):=by
 intro pins s σ H D I h;refine wpAny_Expr_any (cJ (he pins s σ H _ I h) λv s1 Wf=>?_) I.quiet hs;obtain⟨x,H1,I1,r1,q1⟩:=Wf;exact⟨σ,H1,I1,q1⟩
def Wg(te:TE):TS:=λD σ H=>te σ H D.rt
def aI(he:PE X e te):PS X (.Return (some e) pos) (Wg te):=by
 intro pins s σ H D I h;refine wpAny_Return_some (cJ (he pins s σ H _ I h) λv s1 Wh=>?_);obtain⟨x,H1,I1,r1,q1⟩:=Wh;exact⟨x,σ,H1,I1,r1,q1⟩
def U7:TS:=λD _ H=>D.rt .cT H
def Wi(c:TT)(t u:TS):TS:=λD σ H=>c σ H λb H1=>if b=true then t D σ H1 else u D σ H1
def cZ{c:Expr}{a b:List Stmt}(hc:PT X c tc)(ha:vM X a t)(hb:vM X b u):PS X (.If c a b pos) (Wi tc t u):=by
 intro pins s σ H D I h;refine wpAny_If (cJ (hc pins s σ H _ I h) λd s1 Wj=>?_);obtain⟨H1,I1,q1⟩:=Wj;cases d with
 |true=>exact ha pins s1 σ H1 D I1 q1|false=>exact hb pins s1 σ H1 D I1 q1
end
abbrev TG:=V->St->Hp->(St->Hp->Prop)->Prop
variable {g:L2.TG}
abbrev U8:=List V->St->Hp->(St->Hp->Prop)->Prop
def PG(X:Cx)(target:Expr)(t:TG):Prop:=
 ∀(pins:List (Addr×Obj))(s:Shared)(σ:St)(H:Hp)(v:V)(u:Value)(Q:St->Hp->Prop),Inv X pins σ H s->RelV v u->t v σ H Q->
  wpAny (model X.prog X.w) X.A (assign target X.env u) (λ_ s'=>∃σ' H',Inv X pins σ' H' s'/\Q σ' H') X.xe s
def Zm(X:Cx)(ts:List Expr)(t:U8):Prop:=
 ∀(pins:List (Addr×Obj))(s:Shared)(σ:St)(H:Hp)(vs:List V)(us:List Value)(Q:St->Hp->Prop),Inv X pins σ H s->Vals vs us->t vs σ H Q->
  wpAny (model X.prog X.w) X.A (assignInOrder ((assignEach ts X.env).map (·.2)) us) (λ_ s'=>∃σ' H',Inv X pins σ' H' s'/\Q σ' H') X.xe s
abbrev Zn:=V->V->Hp->VK->Prop
def PIp(X:Cx)(op:Operator)(t:Zn):Prop:=
 ∀(pins:List (Addr×Obj))(s:Shared)(σ:St)(H:Hp)(x y:V)(v u:Value)(Q:VK),Inv X pins σ H s->RelV x v->RelV y u->t x y H Q->
  wpAny (model X.prog X.w) X.A (inplaceOp op v u) (EP X pins σ Q) X.xe s
section
def ot(i:Nat):TG:=λv σ H Q=>Q (σ.set i (some v)) H
def aT(hN:X.N.Nodup)(hi:X.N[i]?=some x)(hx:Loc X.env.scope x)(hf:X.fn x=true\/X.env.scope.names.lookup x=some .local:=by first|exact .inl rfl|exact .inr rfl|assumption):PG X (.Name x pos) (ot i):=by
 intro pins s σ H v u Q I r h;exact wpAny_assign_Name (xV I hN hi hx r (λs' I'=>⟨_,H,I',h⟩) hf)
def Zo:U8:=λvs σ H Q=>vs=[]/\Q σ H
def Oc(t:TG)(u:U8):U8:=λvs σ H Q=>∃v r,vs=v::r/\t v σ H λσ' H'=>u r σ' H' Q
def kc:Zm X [] Zo:=by
 intro pins s σ H vs us Q I r h;obtain⟨e,h⟩:=h;subst e;exact assignInOrder_nil ⟨σ,H,I,h⟩
def cE{es:List Expr}{t:TG}{u:U8}(h1:PG X e t)(h2:Zm X es u)(hs:(assignEach (e::es) X.env).map (·.2)=assign e X.env::(assignEach es X.env).map (·.2):=by rfl):Zm X (e::es) (Oc t u):=by
 intro pins s σ H vs us Q I r h;obtain⟨v,vr,e1,h⟩:=h;subst e1;cases r with
 |cons r rr=>
  rw[hs];refine assignInOrder_cons (cJ (h1 pins s σ H _ _ _ I r h) λ_ s1 Wk=>?_);obtain⟨σ1,H1,I1,q1⟩:=Wk;exact h2 pins s1 σ1 H1 _ _ Q I1 rr q1
def Wl(K:PySem.W.Frag)(n:Nat)(t:U8):TG:=λv σ H Q=>∃a xs,v=.ref a/\jF K H a xs/\xs.length=n/\t xs σ H Q
def x8{es:List Expr}{k:Nat}{t:U8}{n:Nat}(hc:X.calm=true)(h:Zm X es t)(hn:(assignEach es X.env).length=n:=by rfl)(pY:(assignEach es X.env).findIdx? (·.1)=none:=by rfl):PG X (.Tuple es k pos) (Wl X.K n t):=by
 intro pins s σ H v u Q I r hw;obtain⟨a,xs,e1,hq,hl,hw⟩:=hw;subst e1;cases r;obtain⟨aR,rv,ht,hz⟩:=I.tuple hq;refine assign_Tuple_tuple (I.ok.hd hc) ht (by simp[hn,<-hl,rv.length]) pY λh' hx=>?_;have I1:=I.kept (t':=s.toks) λb o e=>hx b o (bx (aO e)) e;exact h pins _ σ H xs _ Q I1 ‹rv› hw
def Od(te:TE)(g:TG):TS:=λD σ H=>te σ H λx H1=>g x σ H1 D.nx
def aM{pos':Pos}(hN:X.N.Nodup)(hi:X.N[i]?=some x)(hx:Loc X.env.scope x)(he:PE X e te)(hs:swapsWith e (some (.Name x pos')) pos.line X.env=pure false:=by rfl)(hf:X.fn x=true\/X.env.scope.names.lookup x=some .local:=by first|exact .inl rfl|exact .inr rfl|assumption):
  PS X (.Assign [.Name x pos'] e pos) (Od te (ot i)):=by
 intro pins s σ H D I h;refine wpAny_Assign_Name (cJ (he pins s σ H _ I h) λv s1 Wm=>?_) hs;obtain⟨y,H1,I1,r1,q1⟩:=Wm;exact xV I1 hN hi hx r1 (λs2 I2=>⟨_,H1,I2,q1⟩) hf
def Wn(i:Nat)(te:TE)(ti:Zn):TS:=λD σ H=>eV σ[i]? λx=>te σ H λy H1=>ti x y H1 λz H2=>D.nx (σ.set i (some z)) H2
def x9{op:Operator}{ti:Zn}{pos':Pos}(hN:X.N.Nodup)(hi:X.N[i]?=some x)(hx:Loc X.env.scope x)(he:PE X e te)(ho:PIp X op ti)(hf:X.fn x=true\/X.env.scope.names.lookup x=some .local:=by first|exact .inl rfl|exact .inr rfl|assumption):
  PS X (.AugAssign (.Name x pos') op e pos) (Wn i te ti):=by
 intro pins s σ H D I h;obtain⟨v,e1,h⟩:=xW.mp h;obtain⟨m,hn,hl⟩:=I.loc;have vis:Zh X.env.scope x:=by rcases hx with k|k;exact .inl k;exact .inr (.inl k)
 obtain⟨u,r,l⟩:=hl i x v hi e1 vis;refine wpAny_AugAssign_Name ?_;have go:wpAny (model X.prog X.w) X.A (eval e X.env) (λw s₂=>wpAny (model X.prog X.w) X.A (inplaceOp op u w) (λr s₃=>wpAny (model X.prog X.w) X.A (storeName X.env x r) (λ_=>SP X pins D .next) X.xe s₃) X.xe s₂) X.xe s:=by
  refine cJ (he pins s σ H _ I h) λw s1 Wo=>?_;obtain⟨y,H1,I1,r1,q1⟩:=Wo;refine cJ (ho pins s1 σ H1 v y u w _ I1 r r1 q1) λz s2 Wq=>?_;obtain⟨zv,H2,I2,r2,q2⟩:=Wq;exact xV I2 hN hi hx r2 (λs3 I3=>⟨_,H2,I3,q2⟩) hf
 obtain⟨hk,hm⟩|⟨hk,c,hc,J2⟩:=l
 .exact wpAny_loadName_local I.ok.kind hk hn hm go
 .obtain hk|hk:=hk
  .exact wpAny_loadName_cell I.ok.kind hk hc J2 go
  .obtain k|k:=hx
   .have:X.env.scope.names.lookup x=some .free:=hk;rw[k]at this;cases this
   .have:X.env.scope.names.lookup x=some .free:=hk;rw[k]at this;cases this
def ipI(f:Int->Int->Int):Zn:=λx y H Q=>eI x λi=>eI y λj=>Q (.int (f i j)) H
def Oe:PIp X .Add (ipI λi j=>i+j):=by
 intro pins s σ H x y v u Q I r1 r2 h;obtain⟨i,e1,h⟩:=fD.mp h;obtain⟨j,e2,q⟩:=fD.mp h;subst e1;subst e2;obtain⟨t,rfl⟩:=r1;obtain⟨t',rfl⟩:=r2;exact iadd_int ⟨.int _,H,I.tok _,⟨_,rfl⟩,q⟩
end
structure It where
 go:Nat->Hp->Prop
 E1:Nat->Hp->V->Hp->Prop
 stop:Nat->Hp->Prop
def vN(X:Cx)(pins:List (Addr×Obj))(H:Hp)(b:Addr):Prop:=
 H b=none/\b≠X.env.locals/\b∉X.fs/\(b∈X.ex\/X.wZ.heap.objs.size<=b)/\(∀x c,X.env.cells.lookup x=some c->c≠b)/\∀p∈X.pn++pins,p.1≠b
def Inv.CT(I:Inv X pins σ H s)(hb:s.heap.objs.size<=b)(hn:H' b=none):vN X pins H' b:=by
 refine⟨hn,iu (dR I.lt hb),I.ab9 hb,.inr (aW I.sz hb),λx c e z=>?_,λp hp z=>?_⟩
 .obtain⟨v,q⟩:=I.cell x c e;exact absurd (dR q.lt (by rw[z];exact hb)) (iT _)
 .exact absurd (dR (aO (I.pin p hp).1) (by rw[z];exact hb)) (iT _)
structure Turn(P:Program)(w:World)(K:PySem.W.Frag)(tg:Expr)(J:It)(fp:List Addr)(it:Addr)(tn:Nat->Heap->Prop):Prop where
 mem:it∈fp
 obj:∀i h,tn i h->∀b∈fp,∃o,h.get? b=some o/\∀v,o.data≠ .cell v
 keep:∀i h h',tn i h->(∀b∈fp,∀o,h.get? b=some o->h'.get? b=some o)->tn i h'
 item:∀(X:Cx),X.prog=P->X.w=w->X.K=K->X.calm=true->∀(i:Nat)(pins:List (Addr×Obj))(s:Shared)(σ:St)(H:Hp)(E:Value->Shared->Prop),Inv X pins σ H s->(∀b∈fp,vN X pins H b)->tn i s.heap->J.go i H->
  wpAny (model P w) X.A (pyNext (.ref it)) (λr s1=>∃u,r=some u/\
   wpAny (model P w) X.A (letOwnedTupleGo tg (.ref it) u) (λ_ s2=>∃x H',Inv X pins σ H' s2/\RelV x u/\J.E1 i H x H'/\tn (i+1) s2.heap/\∀b∈fp,H' b=none) E s1) E s
 done:∀(X:Cx),X.prog=P->X.w=w->X.K=K->X.calm=true->∀(i:Nat)(pins:List (Addr×Obj))(s:Shared)(σ:St)(H:Hp)(E:Value->Shared->Prop),Inv X pins σ H s->(∀b∈fp,vN X pins H b)->tn i s.heap->J.stop i H->
  wpAny (model P w) X.A (pyNext (.ref it)) (λr s1=>r=none/\Inv X pins σ H s1) E s
 self:∀(A:Around)(i:Nat)(s:Shared)(Q:Value->Shared->Prop)(E:Value->Shared->Prop),tn i s.heap->Q (.ref it) s->wpAny (model P w) A (pyIter (.ref it)) Q E s
abbrev TI:=St->Hp->(It->Hp->Prop)->Prop
variable {wi:L2.TI}
def PIE(X:Cx)(pins:List (Addr×Obj))(σ:St)(tg:Expr)(R:It->Hp->Prop)(itv:Value)(s2:Shared):Prop:=
 ∃(it:Addr) (fp:List Addr) (tn:Nat->Heap->Prop) (J:It) (H':Hp),itv=.ref it/\Inv X pins σ H' s2/\Turn X.prog X.w X.K tg J fp it tn/\tn 0 s2.heap/\(∀b∈fp,vN X pins H' b)/\R J H'
def PI(X:Cx)(tg iter:Expr)(wi:TI):Prop:=
 ∀(pins:List (Addr×Obj))(s:Shared)(σ:St)(H:Hp)(R:It->Hp->Prop),Inv X pins σ H s->wi σ H R->
  wpAny (model X.prog X.w) X.A (eval iter X.env) (λv s1=>wpAny (model X.prog X.w) X.A (pyIter v) (PIE X pins σ tg R) X.xe s1) X.xe s
def Fd{o:Obj}{vs:Array Value}{Q:Unit->Shared->Prop}(ho:s.heap.get? it=some o)(hc:o.cls=.type n)(hd:o.data=.fields vs)(hn:["enumerate","zip","dict_itemiterator","dict_reverseitemiterator","odict_iterator","itertools.zip_longest","itertools.pairwise"].contains n=false)(hQ:Q Unit.unit s):wpAny M A (letOwnedTupleGo tg (.ref it) u) Q E s:=by
 cases tg<;>first
  |exact ay hQ
  |(cases u<;>first
    |exact ay hQ
    |(refine aj (wpAny_load ho ?_)
      rw[hc,hd];show wpAny M A (if(["enumerate","zip","dict_itemiterator","dict_reverseitemiterator","odict_iterator","itertools.zip_longest","itertools.pairwise"].contains n&&vs[0]?==some (rawInt _))=true then _ else _) Q E s;rw[af (by intro h;rw[hn,Bool.false_and]at h;cases h)];exact ay hQ))
noncomputable def Og(K:PySem.W.Frag)(a:Addr):It:=
 ⟨λi H=>∃xs x,aJ K H a xs/\xs[i]?=some x,λi H x H'=>H'=H/\∀xs,aJ K H a xs->xs[i]?=some x,λi H=>∃xs,aJ K H a xs/\xs.length<=i⟩
noncomputable def RO(lo:Int)(n:Nat):It:=⟨λi _=>i<n,λi H x H'=>H'=H/\x=.int (lo+i),λi _=>n<=i⟩
def LZ a it:Turn P w K tg (Og K a) [it] it (λi h=>h.IsListIter it a i)where
 mem:=by simp
 obj:=λi h st b hb=>by
  have e:b=it:=‹hb›
  subst e;obtain⟨o,e,c,d⟩:=st;exact⟨o,e,λv z=>by rw[d]at z;cases z⟩
 keep:=λi h h' st k=>st.at λo e=>k it ∅ o e
 item:=by
  intro X hP hw hK hc i pins s σ H E I hf st hg;subst hP hw hK;obtain⟨xs,x,hq,hx⟩:=hg;obtain⟨aR,rv,p,hz⟩:=I.list hq;obtain⟨u,hu,ru⟩:=rv.get hx;obtain⟨f0,f1,f2,f3,f4,f5⟩:=hf it ∅;refine wpAny_pyNext_list_item st p.isList ‹hu› λh' Bi sb=>?_;have I1:=I.turned (t':=s.toks) (λb o hb e=>(sb.2 b hb).trans e) f0 f1 f3 f4 f5;obtain⟨o,e,c,d⟩:=id Bi;exact⟨u,rfl,Fd e c d ⋯ ⟨x,H,I1,ru,⟨rfl,λys hy=>by rw[I.sX hy hq];exact hx⟩,Bi,λb hb=>(hf b hb).1⟩⟩
 done:=by
  intro X hP hw hK hc i pins s σ H E I hf st hg;subst hP hw hK;obtain⟨xs,hq,hx⟩:=hg;obtain⟨aR,rv,p,hz⟩:=I.list hq;obtain⟨f0,f1,f2,f3,f4,f5⟩:=hf it ∅;have hl:=rv.length;exact wpAny_pyNext_list_end (I.ok.hd hc) st p.isList (by simp;omega) λh' eb=>⟨rfl,I.turned (λb o hb e=>eb b o hb e) f0 f1 f3 f4 f5⟩
 self:=λ_ _ _ _ _ st h=>wpAny_pyIter_listiter st h
def HL it lo n:Turn P w K tg (RO lo n) [it] it (λi h=>IsRangeIter h it (lo+(i:Nat)*1) ((n:Int)-(i:Nat)) 1)where
 mem:=by simp
 obj:=λi h st b hb=>by
  have e:b=it:=‹hb›
  subst e;exact⟨_,st,λv z=>by
   have z':=z;cases z'⟩
 keep:=λi h h' st k=>k it ∅ _ st
 item:=by
  intro X hP hw hK hc i pins s σ H E I hf st hg;subst hP hw hK;obtain⟨f0,f1,f2,f3,f4,f5⟩:=hf it ∅;have W:=Walks.range (prog:=X.prog) (w:=X.w) (I.ok.hd hc) it lo 1 n;refine W.item i s _ _ hg st λv h' tk hv Bi kk=>?_;obtain⟨t,rfl⟩:=hv;have I1:Inv X pins σ H {s with heap:=h',toks:=tk} :=I.turned (λb o hb e=>kk b o ‹hb› e) f0 f1 f3 f4 f5;refine⟨_,rfl,Fd (n:="range_iterator") Bi rfl rfl ⋯ ⟨.int (lo+i),H,I1,⟨t,?_⟩,⟨rfl,rfl⟩,Bi,λb hb=>(hf b hb).1⟩⟩;rw[Int.mul_one]
 done:=by
  intro X hP hw hK hc i pins s σ H E I hf st hg;obtain⟨f0,f1,f2,f3,f4,f5⟩:=hf it ∅;exact wpAny_pyNext_range_end (I.ok.hd hc) st (by have:n<=i:=hg;omega) λh' eb=>⟨rfl,I.turned (λb o hb e=>eb b o hb e) f0 f1 f3 f4 f5⟩
 self:=λ_ _ _ _ _ st h=>wpAny_pyIter_rangeiter st h
section
def Zq(K:PySem.W.Frag)(tl:TE):TI:=λσ H R=>tl σ H λx H1=>∃a,x=.ref a/\(∃xs,aJ K H1 a xs)/\R (Og K a) H1
def bY{l:Expr}(hl:PE X l tl):PI X tg l (Zq X.K tl):=by
 intro pins s σ H R I h;refine cJ (hl pins s σ H _ I h) λv s1 acf=>?_;obtain⟨x,H1,I1,r1,q1⟩:=acf;obtain⟨a,e,⟨xs,hq⟩,q⟩:=q1;subst e;cases r1;obtain⟨aR,rv,p,hz⟩:=I1.list hq;refine wpAny_pyIter_list p.isList ?_;refine⟨s1.heap.objs.size,[s1.heap.objs.size],_,_,H1,rfl,I1.kept λb o e=>bN _ e,LZ a _,⟨_,bq _ rfl,rfl,rfl⟩,λb hb=>?_,q⟩;have e:b=s1.heap.objs.size:=‹hb›
 subst e;exact I1.CT (aQ _) (I1.bQ.fresh (aQ _))
def Fe{lo hi:Int}{t u v:Tok}(I:Inv X pins σ H s)(h1: -(2^62)<=lo)(h2:lo<2^62)(h3: -(2^62)<=hi)(h4:hi<2^62)(q:R (RO lo (hi-lo).toNat) H):wpAny (model X.prog X.w) X.A (pyIter (.ref s.heap.objs.size)) (PIE X pins σ tg R) E {s with heap:=s.heap.push {cls:=.type "range",data:=.fields #[.int lo t,.int hi u,.int 1 v]},toks:=tk} :=by
 refine wpAny_pyIter_range (IsRange.new ..) (small_one h1 h2 h3 h4) ?_;have I1:Inv X pins σ H {s with heap:=s.heap.push {cls:=.type "range",data:=.fields #[.int lo t,.int hi u,.int 1 v]},toks:=tk} :=I.kept λb o e=>bN _ e;refine⟨(s.heap.push {cls:=.type "range",data:=.fields #[.int lo t,.int hi u,.int 1 v]}).objs.size,[(s.heap.push {cls:=.type "range",data:=.fields #[.int lo t,.int hi u,.int 1 v]}).objs.size],_,_,H,rfl,
  I1.kept λb o e=>bN _ e,HL _ lo (hi-lo).toNat,?_,λb hb=>?_,q⟩
 .have e1:lo+((0:Nat):Int)*1=lo:=by simp
  have e2:(((hi-lo).toNat:Nat):Int)-((0:Nat):Int)=Builtin.Range.rangeSize lo hi 1:=by rw[rangeSize_one];split<;>omega
  rw[e1,e2];exact bq _ rfl
 .have e:b=(s.heap.push {cls:=.type "range",data:=.fields #[.int lo t,.int hi u,.int 1 v]}).objs.size:=by simpa using hb
  subst e;exact I1.CT (aQ _) (I1.bQ.fresh (aQ _))
def Zr(ta:TA):TI:=λσ H R=>ta σ H λvs H1=>∃j:Int,vs=[.int j]/\-(2^62)<=j/\j<2^62/\R (RO 0 j.toNat) H1
def Zt(ta:TA):TI:=λσ H R=>ta σ H λvs H1=>∃i j:Int,vs=[.int i,.int j]/\(-(2^62)<=i/\i<2^62/\-(2^62)<=j/\j<2^62)/\R (RO i (j-i).toNat) H1
def Bj{a:Expr}{ta:TA}{p pos:Pos}(hg:Gl X "range")(hm:X.mg "range"=none)(ha:PA X [a] ta)(hs:starEach [a] X.env=[(false,eval a X.env)]:=by rfl):PI X tg (.Call (.Name "range" p) [a] [] pos) (Zr ta):=by
 intro pins s σ H R I h;refine Call_ (gk I hg hm boot_range (jx (cJ (ha pos pins s σ H _ I h) λus s1 acg=>?_) hs rfl));obtain⟨vs,H1,I1,r1,q1⟩:=acg;obtain⟨j,e,q1,q2,q⟩:=q1;subst e;cases r1 with
 |cons r rr=>
  cases rr;obtain⟨t,rfl⟩:=r;exact call_range_1 (Fe I1 () () q1 q2 ‹q›)
def Bk{a b:Expr}{ta:TA}{p pos:Pos}(hg:Gl X "range")(hm:X.mg "range"=none)(ha:PA X [a,b] ta)(hs:starEach [a,b] X.env=[(false,eval a X.env),(false,eval b X.env)]:=by rfl)(Sy:starEach [b] X.env=[(false,eval b X.env)]:=by rfl):
  PI X tg (.Call (.Name "range" p) [a,b] [] pos) (Zt ta):=by
 intro pins s σ H R I h;refine Call_ (gk I hg hm boot_range (jx (cJ (ha pos pins s σ H _ I h) λus s1 ach=>?_) (by rw[hs,Sy]) (by rw[Sy];rfl)));obtain⟨vs,H1,I1,r1,q1⟩:=ach;obtain⟨i,j,e,⟨q1,q2,q3,q4⟩,q⟩:=q1;subst e;cases r1 with
 |cons r rr=>
  cases rr with
  |cons r' rr=>
   cases rr;obtain⟨t,rfl⟩:=r;obtain⟨t',rfl⟩:=r';exact call_range_2 (Fe I1 q1 q2 q3 q4 q)
def aci(wi:TI)(g:TG)(tb:TS):TS:=λD σ H=>wi σ H λJ H1=>∃W:Nat->Nat->St->Hp->Prop,(∃m,W 0 m σ H1)/\∀i m σ H,W i m σ H->
 (J.stop i H/\D.nx σ H)\/(J.go i H/\∃N:St->Hp->Prop,(∀σ' H',N σ' H'->∃m',m'<m/\W (i+1) m' σ' H')/\∀x H',J.E1 i H x H'->g x σ H' λσ2 H2=>tb {D with nx:=N,ct:=N,bk:=D.nx} σ2 H2)
noncomputable def ya(fp:List Addr)(h:Heap):List (Addr×Obj):=fp.filterMap λb=>(h.get? b).map λo=>(b,o)
def rj{o:Obj}(hb:b∈fp)(e:h.get? b=some o):(b,o)∈ya fp h:=mem_filterMap.mpr ⟨b,hb,by rw[e];rfl⟩
def L8(hp:p∈ya fp h):p.1∈fp/\h.get? p.1=some p.2:=by
 obtain⟨b,hb,e⟩:=mem_filterMap.mp hp;cases q:h.get? b with
 |none=>rw[q]at e;cases e
 |some o=>
  rw[q]at e;have e':=Option.some.inj e;subst e';exact⟨hb,q⟩
def Inv.pinned(I:Inv X pins σ H s)(hf:∀b∈fp,vN X pins H b)(ho:∀b∈fp,∃o,s.heap.get? b=some o/\∀v,o.data≠ .cell v):Inv X (pins++ya fp s.heap) σ H s:=
 I.mP λp hp=>(mem_append.mp hp).elim (λz=>I.pin p (mz _ z)) λz=>by
  obtain⟨hb,e⟩:=L8 z;obtain⟨f0,f1,f2,_⟩:=hf p.1 hb;obtain⟨o,e',d⟩:=ho p.1 hb;rw[e]at e';cases e';exact⟨e,f0,f1,f2,d⟩
def Inv.sY(I:Inv X (pins++pl) σ H s):Inv X pins σ H s:=I.mP λp hp=>I.pin p (mz _ (wL _ hp))
def fS{body:List Stmt}{pos:Pos}(hp:PassesOwn (model X.prog X.w) X.A X.env X.xe)(hc:X.calm=true)(hi:PI X tg iter wi)(hg:PG X tg g)(hb:vM X body tb)(hs:∀x,foldedSetIterable iter X.env x=pure x:=by intro _;rfl):PS X (.For tg iter body [] pos) (aci wi g tb):=by
 intro pins s σ H D I h;refine wpAny_For (cJ (hi pins s σ H _ I h) λv s1 h1=>cJ h1 λitv s2 h2=>?_) hs;obtain⟨it,fp,tn,J,H2,e,I2,T,st2,f2,W,⟨m0,w0⟩,turn⟩:=h2;subst e;have stat:∀{H':Hp},(∀b∈fp,H' b=none)->∀b∈fp,vN X pins H' b:=λhn b hb=>⟨hn b hb,(f2 b hb).2⟩;refine codeAny_forLoop_any (λn s'=>∃i σ' H',Inv X pins σ' H' s'/\tn i s'.heap/\(∀b∈fp,H' b=none)/\W i n σ' H') ?_ m0 ⟨0,σ,H2,I2,st2,λb hb=>(f2 b hb).1,w0⟩;rintro n s3 ⟨i,σ3,H3,I3,st3,fr3,w3⟩;obtain⟨stop,qn⟩|⟨go,N,hN,step⟩:=turn i n σ3 H3 w3
 .refine sG hp (cJ (T.done X rfl rfl rfl hc i pins s3 σ3 H3 X.xe I3 (stat fr3) st3 stop) λr s4 acj=>?_);obtain⟨hr,I4⟩:=acj;subst hr;exact wM ⟨σ3,H3,I4,qn⟩
 .refine sG hp (cJ (T.item X rfl rfl rfl hc i pins s3 σ3 H3 X.xe I3 (stat fr3) st3 go) λr s4 acn=>?_);obtain⟨u,hr,h4⟩:=acn;subst hr;refine sG hp (cJ h4 λ_ s5 aco=>?_);obtain⟨x,H5,I5,r5,y5,Yy,fr5⟩:=aco;have I5':=I5.pinned (stat fr5) (T.obj _ _ Yy);refine sG hp (cJ (hg _ s5 σ3 H5 x u _ I5' r5 (step x H5 y5)) λ_ s6 acp=>?_);obtain⟨σ6,H6,I6,q6⟩:=acp;refine sG hp (cJ (hb _ s6 σ6 H6 _ I6 q6) λf s7 q7=>?_);have again:∀{σ7:St}{H7:Hp},Inv X (pins++ya fp s5.heap) σ7 H7 s7->N σ7 H7->∃m,m<n/\∃i σ' H',Inv X pins σ' H' s7/\tn i s7.heap/\(∀b∈fp,H' b=none)/\W i m σ' H':=λ{σ7 H7} I7 n7=>by
   obtain⟨m',hm,w7⟩:=hN σ7 H7 n7;refine⟨m',hm,i+1,σ7,H7,I7.sY,T.keep _ _ _ Yy λb hb o e=>(I7.pin (b,o) (mz _ (mz _ (rj hb e)))).1,λb hb=>?_,w7⟩;obtain⟨o,e,d⟩:=T.obj _ _ Yy b hb;exact(I7.pin (b,o) (mz _ (mz _ (rj hb e)))).2.1
  cases f with
  |next=>obtain⟨σ7,H7,I7,n7⟩:=q7;exact again I7 n7
  |cont=>obtain⟨σ7,H7,I7,n7⟩:=q7;exact again I7 n7
  |brk=>obtain⟨σ7,H7,I7,q7⟩:=q7;exact⟨σ7,H7,I7.sY,q7⟩
  |ret v=>obtain⟨x7,σ7,H7,I7,r7,q7⟩:=q7;exact⟨x7,σ7,H7,I7.sY,r7,q7⟩
end
def lE{D:Ends}(Pv:Nat->St->Hp->Prop)(h0:Pv 0 σ H)(hl:∀i σ H,i<=xs.length->Pv i σ H->aJ K H a xs)(hs:∀i x σ H,xs[i]?=some x->Pv i σ H->g x σ H λσ2 H2=>tb {D with nx:=Pv (i+1),ct:=Pv (i+1),bk:=D.nx} σ2 H2)(hd:∀σ H,Pv xs.length σ H->D.nx σ H):
  ∃W:Nat->Nat->St->Hp->Prop,(∃m,W 0 m σ H)/\∀i m σ H,W i m σ H->
   ((Og K a).stop i H/\D.nx σ H)\/((Og K a).go i H/\∃N:St->Hp->Prop,(∀σ' H',N σ' H'->∃m',m'<m/\W (i+1) m' σ' H')/\∀x H',(Og K a).E1 i H x H'->g x σ H' λσ2 H2=>tb {D with nx:=N,ct:=N,bk:=D.nx} σ2 H2):=by
 refine⟨λi m σ H=>m=xs.length-i/\i<=xs.length/\Pv i σ H,⟨xs.length,by simp,cv _,h0⟩,?_⟩;rintro i m σ H ⟨rfl,hi,p⟩;have q:=hl i σ H hi p;by_cases eK:i<xs.length
 .refine .inr ⟨⟨xs,xs[i],q,by simp[eK]⟩,Pv (i+1),λσ' H' p'=>⟨xs.length-(i+1),by omega,rfl,eK,p'⟩,λx H' y=>?_⟩;obtain⟨e,y⟩:=y;subst e;exact hs i x σ _ (y xs q) p
 .have e:i=xs.length:=by omega
  subst e;exact .inl ⟨⟨xs,q,aQ _⟩,hd σ H p⟩
def Bl{lo:Int}{D:Ends}(Pv:Nat->St->Hp->Prop)(h0:Pv 0 σ H)(hs:∀i σ H,i<n->Pv i σ H->g (.int (lo+i)) σ H λσ2 H2=>tb {D with nx:=Pv (i+1),ct:=Pv (i+1),bk:=D.nx} σ2 H2)(hd:∀σ H,Pv n σ H->D.nx σ H):
  ∃W:Nat->Nat->St->Hp->Prop,(∃m,W 0 m σ H)/\∀i m σ H,W i m σ H->
   ((RO lo n).stop i H/\D.nx σ H)\/((RO lo n).go i H/\∃N:St->Hp->Prop,(∀σ' H',N σ' H'->∃m',m'<m/\W (i+1) m' σ' H')/\∀x H',(RO lo n).E1 i H x H'->g x σ H' λσ2 H2=>tb {D with nx:=N,ct:=N,bk:=D.nx} σ2 H2):=by
 refine⟨λi m σ H=>m=n-i/\i<=n/\Pv i σ H,⟨n,by simp,cv _,h0⟩,?_⟩;rintro i m σ H ⟨rfl,hi,p⟩;by_cases eK:i<n
 .refine .inr ⟨eK,Pv (i+1),λσ' H' p'=>⟨n-(i+1),by omega,rfl,eK,p'⟩,λx H' y=>?_⟩;obtain⟨e,y⟩:=y;subst e y;exact hs i σ _ eK p
 .have e:i=n:=by omega
  subst e;exact .inl ⟨aQ _,hd σ H p⟩
abbrev R2:=V->V->Hp->VK->Prop
def ou(X:Cx)(f:Value->Value->Sem Value)(r:R2):Prop:=
 ∀(pins:List (Addr×Obj))(s:Shared)(σ:St)(H:Hp)(x y:V)(v u:Value)(Q:VK),Inv X pins σ H s->RelV x v->RelV y u->r x y H Q->
  wpAny (model X.prog X.w) X.A (f v u) (EP X pins σ Q) X.xe s
def UnR(X:Cx)(f:Value->Sem Value)(r:V->Hp->VK->Prop):Prop:=
 ∀(pins:List (Addr×Obj))(s:Shared)(σ:St)(H:Hp)(x:V)(v:Value)(Q:VK),Inv X pins σ H s->RelV x v->r x H Q->
  wpAny (model X.prog X.w) X.A (f v) (EP X pins σ Q) X.xe s
def lF(X:Cx)(f:Value)(r:List V->Hp->VK->Prop):Prop:=
 ∀(pins:List (Addr×Obj))(s:Shared)(σ:St)(H:Hp)(xs:List V)(us:List Value)(Q:VK),Inv X pins σ H s->Vals xs us->r xs H Q->
  wpAny (model X.prog X.w) X.A (call f us) (EP X pins σ Q) X.xe s
def Sz(r:R2)(ta tb:TE):TE:=λσ H Q=>ta σ H λx H1=>tb σ H1 λy H2=>r x y H2 Q
def tUn(r:V->Hp->VK->Prop)(ta:TE):TE:=λσ H Q=>ta σ H λx H1=>r x H1 Q
def rI(C:Int->Int->Prop)(g:Int->Int->V):R2:=λx y H Q=>eI x λi=>eI y λj=>C i j/\Q (g i j) H
def Oh(g:Int->Int->V):R2:=λx y H Q=>eI x λi=>eI y λj=>Q (g i j) H
def rU(g:Int->V):V->Hp->VK->Prop:=λx H Q=>eI x λi=>Q (g i) H
section
variable {a b c:Expr} {tb tc:TE}
def SA(ha:PE X a ta)(hb:PE X b tb){R:V->V->Hp->Prop}(I:Inv X pins σ H s)(h:ta σ H λx H1=>tb σ H1 λy H2=>R x y H2){f:Value->Value->Sem Value}(hf:∀v u s2 x y H2,Inv X pins σ H2 s2->RelV x v->RelV y u->R x y H2->wpAny (model X.prog X.w) X.A (f v u) Q X.xe s2):
  wpAny (model X.prog X.w) X.A (eval a X.env) (λv s₁=>wpAny (model X.prog X.w) X.A (eval b X.env) (λu s₂=>wpAny (model X.prog X.w) X.A (f v u) Q X.xe s₂) X.xe s₁) X.xe s:=by
 refine cJ (ha pins s σ H _ I h) λv s1 acq=>?_;obtain⟨x,H1,I1,r1,q1⟩:=acq;refine cJ (hb pins s1 σ H1 _ I1 q1) λu s2 acr=>?_;obtain⟨y,H2,I2,r2,q2⟩:=acr;exact hf v u s2 x y H2 I2 r1 r2 q2
def bO{op:Operator}{r:R2}(ho:ou X (binaryOp op) r)(ha:PE X a ta)(hb:PE X b tb):PE X (.BinOp a op b pos) (Sz r ta tb):=by
 intro pins s σ H Q I h;exact wpAny_BinOp (SA ha hb I h λv u s2 x y H2 I2 rx ry q=>ho pins s2 σ H2 x y v u Q I2 rx ry q)
def qI{op:UnaryOp}{r:V->Hp->VK->Prop}(ho:UnR X (unaryOp op) r)(ha:PE X a ta):PE X (.UnaryOp op a pos) (tUn r ta):=by
 intro pins s σ H Q I h;refine UnaryOp_ (cJ (ha pins s σ H _ I h) λv s1 acs=>?_);obtain⟨x,H1,I1,r1,q1⟩:=acs;exact ho pins s1 σ H1 x v Q I1 r1 q1
def opI{f:Value->Value->Sem Value}{g:Int->Int->Int}(rule:∀i j t u s Q E,C i j->Q (.int (g i j) s.toks) {s with toks:=s.toks+1}->wpAny (model X.prog X.w) X.A (f (.int i t) (.int j u)) Q E s):
  ou X f (rI C λi j=>.int (g i j)):=by
 intro pins s σ H x y v u Q I rx ry h;obtain⟨i,rfl,h1⟩:=fD.mp h;obtain⟨j,rfl,hc,q⟩:=fD.mp h1;obtain⟨t,rfl⟩:=rx;obtain⟨t',rfl⟩:=ry;exact rule i j t t' s _ _ hc ⟨.int (g i j),H,I.tok _,⟨_,rfl⟩,q⟩
def Zu{f:Value->Value->Sem Value}{g:Int->Int->Int}(rule:∀i j t u s Q E,Q (.int (g i j) s.toks) {s with toks:=s.toks+1}->wpAny (model X.prog X.w) X.A (f (.int i t) (.int j u)) Q E s):
  ou X f (Oh λi j=>.int (g i j)):=by
 intro pins s σ H x y v u Q I rx ry h;obtain⟨i,rfl,h1⟩:=fD.mp h;obtain⟨j,rfl,q⟩:=fD.mp h1;obtain⟨t,rfl⟩:=rx;obtain⟨t',rfl⟩:=ry;exact rule i j t t' s _ _ ⟨.int (g i j),H,I.tok _,⟨_,rfl⟩,q⟩
def SD{f:Value->Value->Sem Value}{g:Int->Int->Bool}(rule:∀i j t u s Q E,Q (.bool (g i j)) s->wpAny (model X.prog X.w) X.A (f (.int i t) (.int j u)) Q E s):
  ou X f (Oh λi j=>.bl (g i j)):=by
 intro pins s σ H x y v u Q I rx ry h;obtain⟨i,rfl,h1⟩:=fD.mp h;obtain⟨j,rfl,q⟩:=fD.mp h1;obtain⟨t,rfl⟩:=rx;obtain⟨t',rfl⟩:=ry;exact rule i j t t' s _ _ ⟨.bl (g i j),H,I,rfl,q⟩
def Wr(i j:Int):Prop:=0<j/\j<1073741824
def Oi(i j:Int):Prop:=(-(2^64)<i/\i<2^64)\/(-(2^64)<j/\j<2^64)
theorem Oi.ok{i j:Int}(h:Oi i j):IntMulOk i j:=by
 obtain⟨h1,h2⟩|⟨h1,h2⟩:=h
 .exact .of_left (intBits_le_64 h1 h2)
 .exact .of_right (intBits_le_64 h1 h2)
def gm:ou X (binaryOp .Add) (Oh λi j=>.int (i+j)):=Zu λ_ _ _ _ _ _ _ q=>add_int q
def gn:ou X (binaryOp .Sub) (Oh λi j=>.int (i-j)):=Zu λ_ _ _ _ _ _ _ q=>sub_int q
def rk:ou X (binaryOp .Mult) (rI Oi λi j=>.int (i*j)):=opI λ_ _ _ _ _ _ _ hc q=>mul_int q hc.ok
def SE:ou X (binaryOp .FloorDiv) (rI Wr λi j=>.int (i/j)):=opI λi j _ _ _ _ _ hc q=>by
 have h1:=hc.1;have h2:=hc.2;exact floordiv_int () (by rw[wd i ()];exact q) (.inl (PyProof.noPylong_small ()))
def HM:ou X (binaryOp .Mod) (rI (λ_ j=>0<j) λi j=>.int (i%j)):=opI λi j _ _ _ _ _ hc q=>by
 have h1:=hc;exact mod_int' () (by rw[Int.fmod_eq_emod_of_nonneg i ()];exact q)
def Oj:ou X (inplaceOp .FloorDiv) (rI Wr λi j=>.int (i/j)):=opI λi j _ _ _ _ _ hc q=>by
 have h1:(0:Int)<j:=hc.1;have h2:j<1073741824:=hc.2;exact ifloordiv_int () (by rw[wd i ()];exact q) (.inl (PyProof.noPylong_small ()))
def unI{f:Value->Sem Value}{g:Int->Int}(rule:∀i t s Q E,Q (.int (g i) s.toks) {s with toks:=s.toks+1}->wpAny (model X.prog X.w) X.A (f (.int i t)) Q E s):
  UnR X f (rU λi=>.int (g i)):=by
 intro pins s σ H x v Q I rx h;obtain⟨i,rfl,q⟩:=fD.mp h;obtain⟨t,rfl⟩:=rx;exact rule i t s _ _ ⟨.int (g i),H,I.tok _,⟨_,rfl⟩,q⟩
def kM:UnR X (unaryOp .USub) (rU λi=>.int (-i)):=unI λ_ _ _ _ _ q=>neg_int q
end
noncomputable def CU:V->V->Bool
 |.cT,.cT=>true|.cT,.int _=>true|.int _,.cT=>true|.cT,.bl _=>true|.bl _,.cT=>true|.cT,.str _=>true|.str _,.cT=>true
 |.int _,.int _=>true|.bl _,.bl _=>true|.str _,.str _=>true|.Hw _,.Hw _=>true
 |.int _,.str _=>true|.str _,.int _=>true|.bl _,.str _=>true|.str _,.bl _=>true
 |_,_=>false
def U9:R2:=λx y H Q=>bT (CU x y) (Q (.bl (decide (x=y))) H)
def rNe:R2:=λx y H Q=>bT (CU x y) (Q (.bl (!decide (x=y))) H)
def J4{i j:Int}:decide (V.int i=V.int j)=(i==j):=by
 rw[gi];simp
def Ol{i j:Bool}:decide (V.bl i=V.bl j)=(i==j):=by
 rw[gi];simp
def J5{i j:Str}:decide (V.str i=V.str j)=(i==j):=by
 rw[gi];simp
def J6{i j:Array UInt8}:decide (V.Hw i=V.Hw j)=(i.toList==j.toList):=by
 rw[gi];cases i;cases j;simp
section
variable {a b c:Expr} {tb tc:TE}
def bJ{Q:VK}(I:Inv X pins σ H s)(q:Q (.bl k) H)(e:k=k'):EP X pins σ Q (.bool k') s:=by
 subst e;exact⟨.bl k,H,I,rfl,q⟩
def cC:ou X (compareOp .Eq) U9:=by
 intro pins s σ H x y v u Q I rx ry h;obtain⟨hs,q⟩:=HH.mp h;cases x with
 |cT=>
  cases rx;cases y with
  |cT=>cases ry;exact PySem.EqNone.eq_none_none (bJ I q ∅)
  |bl j=>cases ry;exact PySem.EqNone.eq_none_bool (bJ I q ∅)
  |int j=>obtain⟨t',rfl⟩:=ry;exact PySem.EqNone.eq_none_int (bJ I q ∅)
  |str j=>obtain⟨t',rfl⟩:=ry;exact PySem.EqNone.eq_none_str (bJ I q ∅)
  |_=>exact absurd (show false=true from hs) b9
 |bl i=>
  cases rx;cases y with
  |cT=>cases ry;exact PySem.EqNone.eq_bool_none (bJ I q ∅)
  |bl j=>cases ry;exact eq_bool (bJ I q Ol)
  |str j=>obtain⟨t',rfl⟩:=ry;exact PySem.EqMixed.eq_bool_str (bJ I q ∅)
  |_=>exact absurd (show false=true from hs) b9
 |int i=>
  obtain⟨t,rfl⟩:=rx;cases y with
  |cT=>cases ry;exact PySem.EqNone.eq_int_none (bJ I q ∅)
  |int j=>obtain⟨t',rfl⟩:=ry;exact eq_int (bJ I q J4)
  |str j=>obtain⟨t',rfl⟩:=ry;exact PySem.EqMixed.eq_int_str (bJ I q ∅)
  |_=>exact absurd (show false=true from hs) b9
 |str i=>
  obtain⟨t,rfl⟩:=rx;cases y with
  |cT=>cases ry;exact PySem.EqNone.eq_str_none (bJ I q ∅)
  |bl j=>cases ry;exact PySem.EqMixed.eq_str_bool (bJ I q ∅)
  |int j=>obtain⟨t',rfl⟩:=ry;exact PySem.EqMixed.eq_str_int (bJ I q ∅)
  |str j=>obtain⟨t',rfl⟩:=ry;exact eq_str (bJ I q J5)
  |_=>exact absurd (show false=true from hs) b9
 |Hw i=>
  obtain⟨t,rfl⟩:=rx;cases y with
  |Hw j=>obtain⟨t',rfl⟩:=ry;exact PySem.W.eq_bytes (bJ I q J6)
  |_=>exact absurd (show false=true from hs) b9
 |_=>cases y<;>exact absurd (show false=true from hs) b9
def Bm:ou X (compareOp .NotEq) rNe:=by
 intro pins s σ H x y v u Q I rx ry h;obtain⟨hs,q⟩:=HH.mp h;cases x with
 |cT=>
  cases rx;cases y with
  |cT=>cases ry;exact PySem.EqNone.ne_none_none (bJ I q ∅)
  |bl j=>cases ry;exact PySem.EqNone.ne_none_bool (bJ I q ∅)
  |int j=>obtain⟨t',rfl⟩:=ry;exact PySem.EqNone.ne_none_int (bJ I q ∅)
  |str j=>obtain⟨t',rfl⟩:=ry;exact PySem.EqNone.ne_none_str (bJ I q ∅)
  |_=>exact absurd (show false=true from hs) b9
 |bl i=>
  cases rx;cases y with
  |cT=>cases ry;exact PySem.EqNone.ne_bool_none (bJ I q ∅)
  |bl j=>cases ry;exact ne_bool (bJ I q (bW not Ol))
  |str j=>obtain⟨t',rfl⟩:=ry;exact PySem.EqMixed.ne_bool_str (bJ I q ∅)
  |_=>exact absurd (show false=true from hs) b9
 |int i=>
  obtain⟨t,rfl⟩:=rx;cases y with
  |cT=>cases ry;exact PySem.EqNone.ne_int_none (bJ I q ∅)
  |int j=>obtain⟨t',rfl⟩:=ry;exact ne_int (bJ I q (bW not J4))
  |str j=>obtain⟨t',rfl⟩:=ry;exact PySem.EqMixed.ne_int_str (bJ I q ∅)
  |_=>exact absurd (show false=true from hs) b9
 |str i=>
  obtain⟨t,rfl⟩:=rx;cases y with
  |cT=>cases ry;exact PySem.EqNone.ne_str_none (bJ I q ∅)
  |bl j=>cases ry;exact PySem.EqMixed.ne_str_bool (bJ I q ∅)
  |int j=>obtain⟨t',rfl⟩:=ry;exact PySem.EqMixed.ne_str_int (bJ I q ∅)
  |str j=>obtain⟨t',rfl⟩:=ry;exact ne_str (bJ I q (bW not J5))
  |_=>exact absurd (show false=true from hs) b9
 |Hw i=>
  obtain⟨t,rfl⟩:=rx;cases y with
  |Hw j=>obtain⟨t',rfl⟩:=ry;exact PySem.W.ne_bytes (bJ I q (bW not J6))
  |_=>exact absurd (show false=true from hs) b9
 |_=>cases y<;>exact absurd (show false=true from hs) b9
def Bn:ou X (compareOp .Lt) (Oh λi j=>.bl (decide (i<j))):=SD λ_ _ _ _ _ _ _ q=>lt_int q
def jG:ou X (compareOp .LtE) (Oh λi j=>.bl (decide (i<=j))):=SD λ_ _ _ _ _ _ _ q=>le_int q
def yb:ou X (compareOp .Gt) (Oh λi j=>.bl (decide (j<i))):=SD λ_ _ _ _ _ _ _ q=>gt_int q
def Ff:ou X (compareOp .GtE) (Oh λi j=>.bl (decide (j<=i))):=SD λ_ _ _ _ _ _ _ q=>ge_int q
def Ws:ou X (compareOp .Is) (λx y H Q=>y=.cT/\Q (.bl (decide (x=.cT))) H):=by
 intro pins s σ H x y v u Q I rx ry h;obtain⟨rfl,q⟩:=h;cases ry;refine is_none_gen (bJ I q ?_);cases x<;>first
  |(cases rx;rfl)
  |(obtain⟨t,rfl⟩:=rx;rfl)
def J_:ou X (compareOp .IsNot) (λx y H Q=>y=.cT/\Q (.bl (!decide (x=.cT))) H):=by
 intro pins s σ H x y v u Q I rx ry h;obtain⟨rfl,q⟩:=h;cases ry;refine isnot_none_gen (bJ I q ?_);cases x<;>first
  |(cases rx;rfl)
  |(obtain⟨t,rfl⟩:=rx;rfl)
def aG(b:Expr)(h:op≠ .In:=by decide)(h2:op≠ .NotIn:=by decide):behindInMarks op b=false:=x3 b h h2
def aU{r:R2}(ho:ou X (compareOp op) r)(ha:PE X a ta)(hb:PE X b tb)(hm:behindInMarks op b=false):PE X (.Compare a [op] [b] pos) (Sz r ta tb):=by
 intro pins s σ H Q I h;exact wpAny_Compare1 (SA ha hb I h λv u s2 x y H2 I2 rx ry q=>ho pins s2 σ H2 x y v u Q I2 rx ry q) hm
def Bo(t:TE):TT:=λσ H Q=>t σ H λx H'=>eB x λk=>Q k H'
def bt{r:R2}(ho:ou X (compareOp op) r)(ha:PE X a ta)(hb:PE X b tb)(hm:behindInMarks op b=false):PT X (.Compare a [op] [b] pos) (Bo (Sz r ta tb)):=by
 intro pins s σ H Q I h;refine wpAny_isTrue_Compare1 (cJ (ha pins s σ H _ I h) λv s1 acu=>?_) hm;obtain⟨x,H1,I1,r1,q1⟩:=acu;refine cJ (hb pins s1 σ H1 _ I1 q1) λu s2 acv=>?_;obtain⟨y,H2,I2,r2,q2⟩:=acv;refine cJ (ho pins s2 σ H2 x y v u _ I2 r1 r2 q2) λc s3 acw=>?_;obtain⟨z,H3,I3,r3,q3⟩:=acw;obtain⟨k,rfl,q3⟩:=kJ.mp q3;cases r3;exact mx ⟨H3,I3,q3⟩
def CV(r r':R2)(ta tb tc:TE):TE:=λσ H Q=>ta σ H λx H1=>tb σ H1 λy H2=>r x y H2 λz H3=>eB z λk=>
 if k=true then tc σ H3 λw' H4=>r' y w' H4 Q else Q (.bl false) H3
def yc{Wt:CmpOp}{r r':R2}(ho:ou X (compareOp op) r)(w6:ou X (compareOp Wt) r')(ha:PE X a ta)(hb:PE X b tb)(hc:PE X c tc)(hm:lastMarks [op,Wt] [b,c]=false:=by with_unfolding_all rfl):PE X (.Compare a [op,Wt] [b,c] pos) (CV r r' ta tb tc):=by
 intro pins s σ H Q I h;refine Compare_chain (cJ (ha pins s σ H _ I h) λv s1 acy=>?_) hm;obtain⟨x,H1,I1,r1,q1⟩:=acy;refine chain_link (cJ (hb pins s1 σ H1 _ I1 q1) λu s2 acz=>?_);obtain⟨y,H2,I2,r2,q2⟩:=acz;refine cJ (ho pins s2 σ H2 x y v u _ I2 r1 r2 q2) λd s3 acA=>?_;obtain⟨z,H3,I3,r3,q3⟩:=acA;obtain⟨k,rfl,q3⟩:=kJ.mp q3;cases r3;refine mx ?_;cases k with
 |false=>exact ite_ff ⟨.bl false,H3,I3,rfl,q3⟩|true=>exact ite_tt (chain_last (cJ (hc pins s3 σ H3 _ I3 q3) λw' s4 ⟨z',H4,I4,r4,q4⟩=>w6 pins s4 σ H4 y z' u w' Q I4 r2 r4 q4))
def yd{Wt:CmpOp}{r r':R2}(ho:ou X (compareOp op) r)(w6:ou X (compareOp Wt) r')(ha:PE X a ta)(hb:PE X b tb)(hc:PE X c tc)(hm:lastMarks [op,Wt] [b,c]=false:=by with_unfolding_all rfl):PT X (.Compare a [op,Wt] [b,c] pos) (Bo (CV r r' ta tb tc)):=by
 intro pins s σ H Q I h;refine isTrue_chain (cJ (ha pins s σ H _ I h) λv s1 acB=>?_) hm;obtain⟨x,H1,I1,r1,q1⟩:=acB;refine test_link (cJ (hb pins s1 σ H1 _ I1 q1) λu s2 acC=>?_);obtain⟨y,H2,I2,r2,q2⟩:=acC;refine cJ (ho pins s2 σ H2 x y v u _ I2 r1 r2 q2) λd s3 acD=>?_;obtain⟨z,H3,I3,r3,q3⟩:=acD;obtain⟨k,rfl,q3⟩:=kJ.mp q3;cases r3;refine mx ?_;cases k with
 |false=>
  exact ite_ff ⟨H3,I3,q3⟩
 |true=>
  refine ite_tt (test_last (cJ (hc pins s3 σ H3 _ I3 q3) λw' s4 acE=>?_));obtain⟨z',H4,I4,r4,q4⟩:=acE;refine cJ (w6 pins s4 σ H4 y z' u w' _ I4 r2 r4 q4) λd' s5 acF=>?_;obtain⟨z2,H5,I5,r5,q5⟩:=acF;obtain⟨k2,rfl,q5⟩:=kJ.mp q5;cases r5;exact mx ⟨H5,I5,q5⟩
def CW:(sizeLine:Nat)<2^63:=by rw[cx];decide
def Om(b:Expr):Prop:=∀o i,subscripted b false o i=operate [o,i] (getItem o i)
def ke(ha:PE X a ta)(hb:PE X b tb)(hs:Om b):
  PE X (.Subscript a b pos) (Sz (λx y H Q=>∃z i c,x=.str z/\y=.int i/\0<=i/\i<2^63/\i<z.length/\z.cps[i.toNat]?=some c/\Q (.str ⟨#[c]⟩) H) ta tb):=by
 intro pins s σ H Q I h;refine Subscript_ (SA ha hb I h λv u s2 x y H2 I2 rx ry q=>?_);obtain⟨z,i,c,rfl,rfl,h0,h63,h1,hc,q⟩:=q;obtain⟨t,rfl⟩:=rx;obtain⟨t',rfl⟩:=ry;have e:=PySem.StrLaws.seqIndex_nonneg h0 h1;exact tail_any (mK s2 z t) slot_str_getitem.lookup (getItem_str (by
  have e1:decide (i< -(2^63:Int))=false:=cR ();have e2:decide (i≥2^63)=false:=cR ();rw[e1,e2] <;>rfl) (by rw[e];exact hc) ⟨.str ⟨#[c]⟩,H2,I2.tok _,⟨_,rfl⟩,q⟩) (hs _ _)
def vals1{x:V}(r:Vals [x] us):∃u,us=[u]/\RelV x u:=by
 cases r with
 |cons r1 r2=>cases r2;exact⟨_,rfl,r1⟩
def lG:lF X (.builtin "ord") (λxs H Q=>eT xs λx=>x.length=1/\Q (.int (x.cps.getD 0 0:Nat)) H):=by
 intro pins s σ H xs us Q I r h;obtain⟨x,rfl,hz,q⟩:=CP.mp h;obtain⟨u,rfl,t,rfl⟩:=vals1 r;exact ord_of_one hz ⟨.int _,H,I.tok _,⟨_,rfl⟩,q⟩
end
structure L9(h:Heap)(x dx C:Addr)(mA:Str->Option Value):Prop where
 obj:h.get? x=some (PySem.W.instObj C dx)
 ns:h.Ns1 dx mA
 ne:dx≠x
def L_(n:h.Ns1 dx mA):∃od,h.get? dx=some od/\∀name,PySem.W.lookIn name od=some (mA name):=by
 obtain⟨o,es,ep,ho,hd,hk,_,hm⟩:=n;refine⟨o,ho,λname=>?_⟩;have e:=hm name;unfold nsFind findBy at e;rw[<-Array.find?_toList]at e;unfold PySem.W.lookIn;rw[hd];dsimp only;split
 .rename_i y q;rw[q]at e;exact bW some e
 .rename_i q;rw[q]at e;have a:es.toList.any (·.refKey)=false:=by
   rw[any_eq_false];intro y hy;obtain⟨z,t,Wu⟩:=hk y (Array.mem_toList_iff.mp hy);simp[DictEntry.refKey,Wu]
  have a':¬es.toList.any (·.refKey)=true:=by rw[a];exact b9
  rw[af a'];exact bW some e
def L9.look{x C:Addr}(I:L9 h x dx C mA):∃od,PySem.W.InstAt h x (PySem.W.instObj C dx) C (some od)/\∀name,PySem.W.lookIn name od=some (mA name):=
 let⟨od,ho,hl⟩:=L_ I.ns
 ⟨od,⟨I.obj,rfl,rfl,ho⟩,hl⟩
section
variable {x C:Addr} {mA:Str->Option Value} {v:Value}
def get_map(X:K.In s.heap)(I:L9 s.heap x dx C mA)(hg:PySem.W.plainGet K C name=true)(hh:PySem.W.hasDictIn K C=true)(ha:PySem.W.findIn K (.ref C) name=some none)(hv:mA name=some v)(hv':PySem.W.handedIn v=true)(h:Q v {s with toks:=s.toks+1}):
  wpAny (model prog w) A (getAttr (.ref x) name expr) Q E s:=by
 obtain⟨od,J,hl⟩:=I.look;exact PySem.W.get_value X J (PySem.W.plainGet_of hg).1 (PySem.W.findObj_own hh ha rfl (by rw[hl,hv])) hv' h
def SF{ns:List Str}{Q:Unit->Shared->Prop}(X:K.In s.heap)(I:L9 s.heap x dx C mA)(hs:PySem.W.findIn K (.ref C) "__setattr__"=some (some (.builtin "object.__setattr__")))(hp:PySem.W.plainOver K C=true)(ht:PySem.W.takerIn K C name=some none)(hh:PySem.W.hasDictIn K C=true)(hw:PySem.Within mA ns)(fY:ns.length<=sizeLine)(h:∀h',L9 h' x dx C (λy=>if y=name then some v else mA y)->Heap.SameBut dx s.heap h'->Q Unit.unit {s with heap:=h',toks:=s.toks+2}):
  wpAny (model prog w) A (setAttr (.ref x) name v) Q E s:=by
 obtain⟨od,J,hl⟩:=I.look;refine PySem.W.set_plain X J hs (PySem.W.osa_open (r:=none) X J hp ht λb=>?_);obtain⟨cd,hc,HG⟩:=PySem.W.any_some hh;have hx:=I.obj;refine aj (ay (aj (aj (wpAny_loadPart hx (aj (PySem.W.Looks.here (PySem.W.looks_clsIn X hc) ?_))))));rw[HG];refine ay (aj (ay (aj ?_)));refine wpAny_nsSet1 I.ns λh' Yz Sy=>?_;obtain⟨oD,esD,epD,hoD,hdD,hcD⟩:=Yz.count (PySem.Within.cons name v hw);refine aj (wpAny_lookBehind hoD (by rw[hdD];exact pastItsLine_dict (aW hcD (by rw[aY];omega))) ?_);exact ay (h _ ⟨(Sy.2 _ (dF I.ne)).trans I.obj,Yz,I.ne⟩ Sy)
def Fg(X:K.In s.heap)(hm:PySem.W.makesIn K C=true)(hi:PySem.W.findIn K (.ref C) "__init__"=some (some (.ref f)))(hf:PySem.W.typeIn K (.ref f)=some (.type "function"))(h:codeAny (model prog w) (A.under (.builtin "type.__call__" ⟨.ref C::vs,kw⟩)) (.call (.ref f) ⟨.ref (s.heap.objs.size+1)::vs,kw⟩) (PySem.W.InitBack (s.heap.objs.size+1) R)
   {s with heap:=(s.heap.push PySem.W.emptyDict).push (PySem.W.instObj C s.heap.objs.size)}):
  codeAny (model prog w) A (.call (.ref C) ⟨vs,kw⟩) R s:=by
 obtain⟨hh,g,d,t,os⟩:=s;exact PySem.W.make_core (PySem.W.makes_of X hm) (PySem.W.looks_findIn X hi) (λself=>PySem.W.bind_fn X self hf) (.inl rfl) h
end
noncomputable def gV(f:Str)(v:V):List (Str×V)->List (Str×V)
 |[]=>[(f,v)]|(g,x)::r=>if g=f then(g,v)::r else(g,x)::gV f v r
theorem vh f g v:∀fs:List (Str×V),(gV f v fs).lookup g=if g=f then some v else fs.lookup g
 |[]=>by
  show List.lookup g [(f,v)]=_;by_cases h:g=f
  .have hb:=beq_iff_eq.mpr h;simp only[List.lookup,hb,if_pos h]
  .have hb:=beq_eq_false_iff_ne.mpr h;simp only[List.lookup,hb,if_neg h]
 |(k,x)::r=>by
  have ih:=vh f g v r;rw[show gV f v ((k,x)::r)=(if k=f then(k,v)::r else(k,x)::gV f v r)from rfl];by_cases hk:k=f
  .rw[ah hk];by_cases h:g=k
   .have hb:=beq_iff_eq.mpr h;simp only[List.lookup,hb,if_pos (h.trans hk)]
   .have hb:=beq_eq_false_iff_ne.mpr h;simp only[List.lookup,hb,if_neg (λe:g=f=>h (e.trans hk.symm))]
  .rw[af hk];by_cases h:g=k
   .have hb:=beq_iff_eq.mpr h;simp only[List.lookup,hb,if_neg (λe:g=f=>hk (h.symm.trans e))]
   .have hb:=beq_eq_false_iff_ne.mpr h;simp only[List.lookup,hb];exact ih
theorem uo f v:∀fs:List (Str×V),f∈(gV f v fs).map (·.1)/\∀g,g∈fs.map (·.1)->g∈(gV f v fs).map (·.1)
 |[]=>⟨by simp[gV],λg h=>by simp at h⟩
 |(k,x)::r=>by
  obtain⟨i1,i2⟩:=uo f v r;rw[show gV f v ((k,x)::r)=(if k=f then(k,v)::r else(k,x)::gV f v r)from rfl];by_cases hk:k=f
  .subst hk;exact⟨by simp,λg h=>‹h›⟩
  .rw[af hk];refine⟨?_,λg h=>?_⟩
   .exact bE _ i1
   .obtain e|e:=mem_cons.mp h
    .exact mem_cons.mpr (.inl e)
    .exact bE _ (i2 g e)
theorem vi f v:∀fs:List (Str×V),(gV f v fs).length<=fs.length+1
 |[]=>by simp[gV]
 |(k,x)::r=>by
  have ih:=vi f v r;rw[show gV f v ((k,x)::r)=(if k=f then(k,v)::r else(k,x)::gV f v r)from rfl];by_cases hk:k=f
  .rw[ah hk,aY,aY];omega
  .rw[af hk,aY,aY];omega
def uj.some_of{o:Option Value}(r:uj (some v) o):∃u,o=some u/\RelV v u:=by
 cases o with
 |none=>exact(show False from r).elim
 |some u=>exact⟨u,rfl,r⟩
def Ma(r:RelV v u):PySem.W.handedIn u=true:=by
 cases v with
 |cT=>cases(show u=Value.none from r);rfl
 |bl b=>cases(show u=Value.bool b from r);rfl
 |int i=>obtain⟨t,e⟩:=(show∃t,u=Value.int i t from r);cases e;rfl
 |str x=>obtain⟨t,e⟩:=(show∃t,u=Value.str x t from r);cases e;rfl
 |Hw b=>obtain⟨t,e⟩:=(show∃t,u=Value.bytes b t from r);cases e;rfl
 |flt b=>obtain⟨t,e⟩:=(show∃t,u=Value.float b t from r);cases e;rfl
 |ref a=>cases(show u=Value.ref a from r);rfl
 |ty n=>cases(show u=Value.type n from r);rfl
section
variable {C:Addr} {fs Yv:List (Str×V)}
def Ka(bQ:mO P w H h)(e:H a=some (.ins C dx fs)):∃mA,L9 h a dx C mA/\(∀f,uj (fs.lookup f) (mA f))/\PySem.Within mA (fs.map (·.1))/\fs.length<=1000/\H dx=some (.own a):=by
 obtain⟨d,z,ne,ob,mA,n,r,q⟩:=(show dB P w H h a (.ins C dx fs)from bQ a _ e);exact⟨mA,⟨ob,n,ne⟩,r,q,z,d⟩
end
structure Fh(K:PySem.W.Frag)(C:Addr):Prop where
 pg:PySem.W.plainGet K C Str.empty=true
 hd:PySem.W.hasDictIn K C=true
 po:PySem.W.plainOver K C=true
 sa:PySem.W.findIn K (.ref C) "__setattr__"=some (some (.builtin "object.__setattr__"))
def Fh.get(c:Fh K C) f:PySem.W.plainGet K C f=true:=c.pg
def cD(K:PySem.W.Frag)(C:Addr)(f:Str):Prop:=PySem.W.findIn K (.ref C) f=some none
def cD.Zv{f:Str}(n:cD K C f):PySem.W.takerIn K C f=some none:=by
 unfold PySem.W.takerIn;rw[show PySem.W.findIn K (.ref C) f=some none from n];rfl
section
variable {C:Addr} {fs:List (Str×V)} {f:Str}
def HN{b:Bool}(I:Inv X pins σ H s)(e:H a=some (.ins C dx fs))(c:Fh X.K C)(n:cD X.K C f)(l:fs.lookup f=some v)(h:∀u s',Inv X pins σ H s'->RelV v u->Q u s'):wpAny (model X.prog X.w) A (getAttr (.ref a) f b) Q E s:=by
 obtain⟨mA,O,r,_,_,_⟩:=Ka I.bQ e;obtain⟨u,hu,ru⟩:=uj.some_of (v:=v) (by rw[<-l];exact r f);exact get_map I.EZ O (c.get f) c.hd n hu (Ma ru) (h u _ (I.tok _) ru)
def HP{Q:Unit->Shared->Prop}(I:Inv X pins σ H s)(e:H a=some (.ins C dx fs))(c:Fh X.K C)(n:cD X.K C f)(hl:fs.length<1000)(ry:RelV y u)(h:∀s',Inv X pins σ (upd H a (.ins C dx (gV f y fs))) s'->Q Unit.unit s'):wpAny (model X.prog X.w) A (setAttr (.ref a) f u) Q E s:=by
 obtain⟨mA,O,r,wi,_,ho⟩:=Ka I.bQ e;have hz:(fs.map (·.1)).length<=sizeLine:=by rw[az,cx];omega
 refine SF I.EZ O c.sa c.po n.Zv c.hd wi hz λh' O' sb=>h _ ?_;have hd:∃o,h'.get? dx=some o:=let⟨o,_,_,e',_⟩:=O'.ns;⟨o,e'⟩;refine I.write (x:=a) (by rw[e];exact True.intro) (.inr ho) (λb q hb z=>(sb.2 b hb).trans z) hd ?_;refine⟨by rw[aF O.ne];exact ho,?_,O.ne,O'.obj,_,O'.ns,λg=>?_,λg hg=>?_⟩
 .have:=vi f y fs;omega
 .rw[vh];by_cases q:g=f
  .rw[ah q,ah q];exact ry
  .rw[af q,af q];exact r g
 .by_cases q:g=f
  .rw[q];exact(uo f y fs).1
  .refine(uo f y fs).2 g (wi g λz=>hg ?_);show(if g=f then some u else mA g)=none;rw[af q];exact z
def Inv.made(I:Inv X pins σ H s):Inv X pins σ (upd (upd H s.heap.objs.size (.own (s.heap.objs.size+1))) (s.heap.objs.size+1) (.ins C s.heap.objs.size []))
  {s with heap:=(s.heap.push PySem.W.emptyDict).push (PySem.W.instObj C s.heap.objs.size)} :=by
 have e1:(s.heap.push PySem.W.emptyDict).get? s.heap.objs.size=some PySem.W.emptyDict:=bq s.heap rfl;have e2:((s.heap.push PySem.W.emptyDict).push (PySem.W.instObj C s.heap.objs.size)).get? (s.heap.objs.size+1)=some (PySem.W.instObj C s.heap.objs.size):=by
  have:=bq (s.heap.push PySem.W.emptyDict) (o:=PySem.W.instObj C s.heap.objs.size) rfl
  rwa [dS]at this
 have e3:(s.heap.push PySem.W.emptyDict).Ns s.heap.objs.size (λ_=>none):=⟨PySem.W.emptyDict, #[],_,e1,rfl,(λe he=>absurd he ∅),λ_=>rfl⟩;have I1:=I.laid (a:=s.heap.objs.size) (o:=.own (s.heap.objs.size+1)) (t':=s.toks) (λb u q=>bN _ q) (aQ _) ⟨_,e1⟩;refine I1.laid (a:=s.heap.objs.size+1) (t':=s.toks) (λb u q=>bN _ q) (sP (dS _ _)) ?_;have ne:s.heap.objs.size≠s.heap.objs.size+1:=bx (kC _);refine⟨by rw[aF ne,ak],cv _,ne,e2,λ_=>none,(Heap.Ns1.of_empty e3).at λo q=>bN _ q,λ_=>True.intro,λy hy=>absurd rfl hy⟩
def SG(hb:attributeBase e f env (eval e env)=eval e env)(h:wpAny (model prog w) A (eval e env) (λo s₁=>wpAny (model prog w) A (getAttr o f true) Q E s₁) E s):wpAny (model prog w) A (eval (.Attribute e f pos) env) Q E s:=
 Attribute_any_ h (by rw[arm_eval_Attribute,hb])
end
def n8(K:PySem.W.Frag)(ta:TE)(f:Str):TE:=λσ H Q=>ta σ H λx H1=>eR x λa=>∃C dx fs,H1 a=some (.ins C dx fs)/\Fh K C/\cD K C f/\∃v,fs.lookup f=some v/\Q v H1
def acG(K:PySem.W.Frag)(ta tv:TE)(f:Str):TS:=λD σ H=>tv σ H λy H1=>ta σ H1 λx H2=>∃a C dx fs,x=.ref a/\H2 a=some (.ins C dx fs)/\Fh K C/\cD K C f/\fs.length<1000/\
 D.nx σ (upd H2 a (.ins C dx (gV f y fs)))
section
variable {o value:Expr} {f:Str} {pos':Pos} {tv:TE}
def bu(he:PE X e ta)(hb:attributeBase e f X.env (eval e X.env)=eval e X.env):PE X (.Attribute e f pos) (n8 X.K ta f):=by
 intro pins s σ H Q I h;refine SG hb (cJ (he pins s σ H _ I h) λu s1 acH=>?_);obtain⟨x,H1,I1,rx,q0⟩:=acH;obtain⟨a,ex,C,dx,fs,ea,c,n,v,l,q⟩:=kK.mp q0;subst ex;obtain rfl:u=Value.ref a:=rx;exact HN I1 ea c n l λu' s2 I2 ru=>⟨v,H1,I2,ru,q⟩
def iW(ha:PE X o ta)(hv:PE X value tv)(hs:swapsWith value (some (.Attribute o f pos')) pos.line X.env=pure false):PS X (.Assign [.Attribute o f pos'] value pos) (acG X.K ta tv f):=by
 intro pins s σ H D I h;refine plainObj_wpAny_Assign_Attribute (cJ (hv pins s σ H _ I h) λu s1 acI=>?_) hs;obtain⟨y,H1,I1,ry,q⟩:=acI;refine cJ (ha pins s1 σ H1 _ I1 q) λov s2 acJ=>?_;obtain⟨x,H2,I2,rx,a,C,dx,fs,ex,ea,c,n,l,q2⟩:=acJ;subst ex;obtain rfl:ov=Value.ref a:=rx;exact HP I2 ea c n l ry λs3 I3=>⟨σ,_,I3,q2⟩
end
structure dX(k:Nat)(A:Around):Prop where
 hd:A.handled=none
 dp:A.depth+3*k+5<recursionLimit
 un:A.units+16*k+200<cLine
def dX.mono(r:dX k A)(h:j<=k):dX j A:=⟨r.hd,by have:=r.dp;omega,by have:=r.un;omega⟩
theorem dX.deeper(r:dX (k+1) A) env:dX k (A.deeper env):=
 ⟨r.hd,by have:=r.dp;show A.depth+1+3*k+5<_;omega,by have:=r.un;show A.units+3+16*k+200<_;omega⟩
def ye:(A.under (.builtin "type.__call__" ⟨.ref C::us,kw⟩)).depth=A.depth+1:=by
 first|rfl|simp[Around.under,Code.weight,Code.isCreation,Code.isGuard,Code.isCaller,Code.frames,Code.isFrame,guardIds]
def yf:(A.under (.builtin "type.__call__" ⟨.ref C::us,kw⟩)).units=A.units+1:=by
 first|rfl|simp[Around.under,Code.cUnits,Code.frames,Code.isFrame]
def dX.make(r:dX (k+1) A) C us kw:dX k (A.under (.builtin "type.__call__" ⟨.ref C::us,kw⟩)):=
 ⟨r.hd,by have:=r.dp;rw[ye];omega,by have:=r.un;rw[yf];omega⟩
theorem dX.depth(r:dX k A):A.depth<recursionLimit:=by have:=r.dp;omega
theorem dX.units(r:dX k A):A.units+64<cLine:=by have:=r.un;omega
def HQ:TA:=λ_ H Q=>Q [] H
def vj(ta:TE)(tr:TA):TA:=λσ H Q=>ta σ H λx H1=>tr σ H1 λxs H2=>Q (x::xs) H2
section
variable {es:List Expr} {t:TA}
def ai:PA X [] HQ:=λ_ _ _ _ H Q I h=>rg ⟨[],H,I,.nil,h⟩
def ae(ha:PE X e te)(hr:PA X es t)(hs:starEach (e::es) X.env=(false,eval e X.env)::starEach es X.env:=by rfl):PA X (e::es) (vj te t):=by
 intro pos pins s σ H Q I h;rw[hs];show wpAny _ _ (spliced ((false,eval e X.env)::backTo pos (starEach es X.env))) _ _ s;refine mw (cJ (ha pins s σ H _ I h) λu s1 acK=>?_);obtain⟨x,H1,I1,r1,q1⟩:=acK;refine cJ (hr pos pins s1 σ H1 _ I1 q1) λus s2 acL=>?_;obtain⟨xs,H2,I2,r2,q2⟩:=acL;exact⟨x::xs,H2,I2,.cons r1 r2,q2⟩
def Wv(t:TA):TE:=λσ H Q=>t σ H λxs H1=>xs.length<=sizeLine/\∀p,H1 p=none->Q (.ref p) (upd H1 p (.tup xs))
def ow(t:TA):TE:=λσ H Q=>t σ H λxs H1=>xs.length<=sizeLine/\∀p,H1 p=none->Q (.ref p) (upd H1 p (.lst xs))
def yh{x1}(h:PA X es t):PE X (.Tuple es x1 pos) (Wv t):=by
 intro pins s σ H Q I hq;refine wpAny_Tuple_spliced (cJ (h pos pins s σ H _ I hq) λus s1 ⟨xs,H1,I1,r,z,q⟩=>⟨by rw[<-r.length];exact z,?_⟩);have hf:=I1.bQ.fresh (aQ _);refine⟨.ref s1.heap.objs.size,upd H1 s1.heap.objs.size (.tup xs),I1.laid (λb u e=>bN _ e) (aQ _) ?_,rfl,q _ hf⟩;exact⟨z,us,r,⟨_,bq _ rfl,rfl,_,rfl⟩⟩
def kN(h:PA X es t):PE X (.List es pos) (ow t):=by
 intro pins s σ H Q I hq;refine wpAny_List_spliced (cJ (h pos pins s σ H _ I hq) λus s1 ⟨xs,H1,I1,r,z,q⟩=>⟨by rw[<-r.length];exact z,?_⟩);have hf:=I1.bQ.fresh (aQ _);refine⟨.ref s1.heap.objs.size,upd H1 s1.heap.objs.size (.lst xs),I1.laid (λb u e=>bN _ e) (aQ _) ?_,rfl,q _ hf⟩;exact⟨z,us,0,r,bq _ rfl⟩
end
abbrev Sp:=List V->Hp->VK->XK->Prop
variable {sp:L2.Sp}
abbrev NT:=List Env->Hp->Shared->XK->Value->Shared->Prop
variable {CX:L2.NT}
structure Az(P:Program)(w:World)(K:PySem.W.Frag)(mg:Str->Option Value)(base:Heap)(A:Around)(outer:List Env)(s:Shared)(H:Hp):Prop where
 frames:A.frames=some outer
 mod:Mod K mg base
 bs:∀b o,base.get? b=some o->s.heap.get? b=some o/\H b=none
 LX:base.objs.size<=s.heap.objs.size
 rh:s.heap.FunFrames base outer
 RN:∀b∈EY outer,H b=none
 bQ:mO P w H s.heap
 bare:AllBare s.gens
def CE(outer:List Env)(P:Program)(w:World)(H:Hp)(s:Shared)(Q:VK)(u:Value)(s':Shared):Prop:=
 ∃v H',s'.os=s.os/\AllBare s'.gens/\Un (EY outer) [] H H' s.heap s'.heap/\mO P w H' s'.heap/\RelV v u/\Q v H'
def CR(CX:NT)(outer:List Env)(P:Program)(w:World)(H:Hp)(s:Shared)(Q:VK)(E:XK)(r:Result)(s':Shared):Prop:=
 match r with
 |.ok (.ret u)=>CE outer P w H s Q u s'|.ok _=>False
 |.error e=>CX outer H s E e s'
structure n9(P:Program)(w:World)(K:PySem.W.Frag)(mg:Str->Option Value)(base:Heap)(CX:NT)(k:Nat)(f:Addr)(fd:FuncData)(ps:List Str)(sp:Sp):Prop where
 len:∀vs H Q E,sp vs H Q E->vs.length=ps.length
 run:∀(A:Around)(outer:List Env)(s:Shared)(H:Hp)(args:Args)(us:List Value)(vs:List V)(Q:VK)(E:XK),dX k A->Az P w K mg base A outer s H->BindsTo s fd args (ps.zip us)->Vals vs us->sp vs H Q E->
  codeAny (model P w) A (.call (.ref f) args) (CR CX outer P w H s Q E) s
def Az.make(e:Az P w K mg base A outer s H) C us kw:
  Az P w K mg base (A.under (.builtin "type.__call__" ⟨.ref C::us,kw⟩)) outer s H:=⟨by first|exact e.frames|(simpa[Around.under,Code.envs,Code.isFrame,pushEnvs]using e.frames),e.mod,e.bs,e.LX,e.rh,e.RN,e.bQ,e.bare⟩
section
variable {s':Shared}
def Inv.CY(I:Inv X pins σ H s):Az X.prog X.w X.K X.mg X.base X.A X.stack s H:=
 ⟨I.ok.frames,I.ok.mod,I.bs,aW I.ok.LX I.sz,I.stack,I.CO,I.bQ,I.bare⟩
def Inv.after{Q:VK}(I:Inv X pins σ H s)(h:CE X.stack X.prog X.w H s Q u s'):EP X pins σ Q u s':=by
 obtain⟨v,H',os,bare,un,bQ,r,q⟩:=h;obtain⟨hh,g,d,t,os'⟩:=s';obtain rfl:os'=s.os:=os;exact⟨v,H',I.call (g':=g) (d':=d) (t':=t) (ch:=[]) un bQ bare (λb z=>absurd z ∅),r,q⟩
end
def Bp(sp:Sp)(sZ:List V)(E:XK)(t:TA):TE:=λσ H Q=>t σ H λvs H1=>sp (vs++sZ) H1 Q E
def Bq(C:Addr)(sp:Sp)(sZ:List V)(E:XK)(t:TA):TE:=λσ H Q=>t σ H λvs H1=>∀x dx,H1 x=none->H1 dx=none->dx≠x->
 sp (.ref x::(vs++sZ)) (upd (upd H1 dx (.own x)) x (.ins C dx [])) (λv H2=>v=.cT/\Q (.ref x) H2) E
def Binds(K:PySem.W.Frag)(fd:FuncData)(ps:List Str)(ds:List Value):Prop:=
 ∀(s:Shared)(us:List Value),K.In s.heap->(us++ds).length=ps.length->BindsTo s fd ⟨us,[]⟩ (ps.zip (us++ds))
def Binds.all(h:∀us:List Value,us.length=ps.length->bindArgs fd ⟨us,[]⟩=pure (ps.zip us)):Binds K fd ps []:=λs us _ hl=>by
 rw[jE]at hl⊢;exact .of_eq (h us hl)
def Passes(CX:NT)(X:Cx)(E:XK):Prop:=∀(pins:List (Addr×Obj))(σ:St)(H:Hp)(s:Shared)(e:Value)(s':Shared),Inv X pins σ H s->CX X.stack H s E e s'->X.xe e s'
section
variable {k:Nat} {C:Addr} {sZ:List V} {ds:List Value} {E:XK} {m:Str} {p:Pos} {o:Expr} {es:List Expr} {t:TA}
def Ww{Q:VK}{vs:List V}(F:n9 X.prog X.w X.K X.mg X.base CX k f fd ps sp)(hr:dX k X.A)(hb:Binds X.K fd ps ds)(hd:Vals sZ ds)(hx:Passes CX X E)(I:Inv X pins σ H s)(r:Vals vs us)(h:sp (vs++sZ) H Q E):wpAny (model X.prog X.w) X.A (call (.ref f) us) (EP X pins σ Q) X.xe s:=by
 have r2:=r.append hd;have hl:(us++ds).length=ps.length:=by rw[<-r2.length];exact F.len _ _ _ _ h
 refine wpAny_call (je (F.run X.A X.stack s H ⟨us,[]⟩ (us++ds) (vs++sZ) Q E hr I.CY (hb s us I.EZ hl) r2 h) λr s' hq=>?_);cases r with
 |error e=>exact hx pins σ H s e s' I hq
 |ok fl=>
  cases fl with
  |ret u=>exact I.after hq|next=>exact False.elim hq
  |brk=>exact False.elim hq|cont=>exact False.elim hq
def SH(F:n9 X.prog X.w X.K X.mg X.base CX k f fd ps sp)(hr:dX k X.A)(hg:Gl X x)(hm:X.mg x=some (.ref f))(hk:PySem.W.keepIn X.K (.ref f)=true)(hb:Binds X.K fd ps ds)(hd:Vals sZ ds)(hx:Passes CX X E)(ha:PA X (e::es) t)(CZ:(x==("__debug__":Str))=false:=by decide)(he:starEach (e::es) X.env=(false,eval e X.env)::starEach es X.env:=by rfl)(iz:(backTo pos (starEach es X.env)).any (·.1)=false:=by rfl):
  PE X (.Call (.Name x p) (e::es) [] pos) (Bp sp sZ E t):=by
 intro pins s σ H Q I h;refine jy (pX I hg hm ?_ CZ);refine PySem.W.callWith_K I.ok.mod.Sq hk (cJ (ha pos pins s σ H _ I h) λus s1 acM=>?_) he iz;obtain⟨vs,H1,I1,r,q⟩:=acM;refine⟨I1.EZ,?_⟩;exact Ww F hr hb hd hx I1 r q
structure Mk(K:PySem.W.Frag)(C f:Addr):Prop where
 makes:PySem.W.makesIn K C=true
 init:PySem.W.findIn K (.ref C) "__init__"=some (some (.ref f))
 fn:PySem.W.isFn K (.ref f)=true
 kp:PySem.W.keepIn K (.ref C)=true
def Oo{Q:VK}{vs:List V}(M:Mk X.K C f)(F:n9 X.prog X.w X.K X.mg X.base CX k f fd ps sp)(hr:dX (k+1) X.A)(hb:Binds X.K fd ps ds)(hd:Vals sZ ds)(hx:Passes CX X E)(I:Inv X pins σ H s)(r:Vals vs us)(h:∀x dx,H x=none->H dx=none->dx≠x->sp (.ref x::(vs++sZ)) (upd (upd H dx (.own x)) x (.ins C dx [])) (λv H2=>v=.cT/\Q (.ref x) H2) E):
  wpAny (model X.prog X.w) X.A (call (.ref C) us) (EP X pins σ Q) X.xe s:=by
 have hq:=h (s.heap.objs.size+1) s.heap.objs.size (I.bQ.fresh (pQ _)) (I.bQ.fresh (aQ _)) (bx (kC _));have I2:=Inv.made (C:=C) I;have r2:Vals (V.ref (s.heap.objs.size+1)::(vs++sZ)) (Value.ref (s.heap.objs.size+1)::(us++ds)):=.cons rfl (r.append hd);have hl:(Value.ref (s.heap.objs.size+1)::us++ds).length=ps.length:=by
  have e:=r2.length;rw[F.len _ _ _ _ hq]at e;exact e.symm
 refine wpAny_call (Fg I.EZ M.makes M.init (beq_iff_eq.mp M.fn) (je (F.run _ X.stack _ _ ⟨Value.ref (s.heap.objs.size+1)::us,[]⟩ (Value.ref (s.heap.objs.size+1)::(us++ds)) _ _ E (hr.make C us [])
  (I2.CY.make C us []) (hb _ (Value.ref (s.heap.objs.size+1)::us) I2.EZ hl) r2 hq) λr s' Oq=>?_))
 cases r with
 |error e=>exact hx pins σ _ _ e s' I2 Oq
 |ok fl=>
  cases fl with
  |ret u=>
   obtain⟨v,H',I3,rv,ev,q3⟩:=I2.after Oq;subst ev;exact⟨rv,⟨V.ref (s.heap.objs.size+1),H',I3,rfl,q3⟩⟩
  |next=>exact False.elim Oq|brk=>exact False.elim Oq
  |cont=>exact False.elim Oq
def SJ(M:Mk X.K C f)(F:n9 X.prog X.w X.K X.mg X.base CX k f fd ps sp)(hr:dX (k+1) X.A)(hg:Gl X x)(hm:X.mg x=some (.ref C))(hb:Binds X.K fd ps ds)(hd:Vals sZ ds)(hx:Passes CX X E)(ha:PA X (e::es) t)(CZ:(x==("__debug__":Str))=false:=by decide)(he:starEach (e::es) X.env=(false,eval e X.env)::starEach es X.env:=by rfl)(iz:(backTo pos (starEach es X.env)).any (·.1)=false:=by rfl):
  PE X (.Call (.Name x p) (e::es) [] pos) (Bq C sp sZ E t):=by
 intro pins s σ H Q I h;refine jy (pX I hg hm ?_ CZ);refine PySem.W.callWith_K I.ok.mod.Sq M.kp (cJ (ha pos pins s σ H _ I h) λus s1 acN=>?_) he iz;obtain⟨vs,H1,I1,r,q⟩:=acN;refine⟨I1.EZ,?_⟩;exact Oo M F hr hb hd hx I1 r q
end
structure aC(N P:List Str)(sc:Scope):Prop where
 kind:sc.kind=.function
 co:sc.isCoroutine=false
 gen:sc.isGenerator=false
 nd:N.Nodup
 pre:N.take P.length=P
 par:∀x∈P,sc.names.lookup x=some .local\/sc.names.lookup x=some .cell
 Wx:∀y∈sc.names,y.2≠ .free
theorem Br{kindOf:Str->Option NameKind}:∀{binds}{m},(∀v,(x,v)∉binds)->bindL kindOf binds m x=m x
 |[],_,_=>rfl
 |(n,v)::r,m,h=>by
  unfold bindL;rw[Br λw hw=>h w (bE _ hw)];split
  .have:x≠n:=by rintro rfl;exact h v bZ
   simp[this]
  .rfl
theorem Bs{kindOf:Str->Option NameKind}:∀{binds}{m},(∀v,(x,v)∉binds)->bindC kindOf binds m x=m x
 |[],_,_=>rfl
 |(n,v)::r,m,h=>by
  unfold bindC;rw[Bs λw hw=>h w (bE _ hw)];split
  .rfl
  .have:x≠n:=by rintro rfl;exact h v bZ
   simp[this]
theorem Bt{kindOf:Str->Option NameKind}{v:Value}:∀{P:List Str}{vs}{i:Nat}{m},P.Nodup->P[i]?=some x->vs[i]?=some v->kindOf x=some .local->
  bindL kindOf (P.zip vs) m x=some v
 |[],_,_,_,_,h,_,_=>by simp at h|_::_,[],_,_,_,_,h,_=>by simp at h
 |p::P,w::vs,0,m,nd,h1,h2,hk=>by
  simp at h1 h2;subst h1;subst h2;show bindL kindOf ((p,w)::P.zip vs) m p=_;unfold bindL;rw[Br λv hv=>(nodup_cons.mp nd).1 (mL hv).1,ah hk];simp
 |p::P,w::vs,i+1,m,nd,h1,h2,hk=>by
  show bindL kindOf ((p,w)::P.zip vs) m x=_;unfold bindL;exact Bt (i:=i) (nodup_cons.mp nd).2 ‹h1› ‹h2› hk
theorem Bu{kindOf:Str->Option NameKind}{v:Value}:∀{P:List Str}{vs}{i:Nat}{m},P.Nodup->P[i]?=some x->vs[i]?=some v->kindOf x≠some .local->
  bindC kindOf (P.zip vs) m x=some v
 |[],_,_,_,_,h,_,_=>by simp at h|_::_,[],_,_,_,_,h,_=>by simp at h
 |p::P,w::vs,0,m,nd,h1,h2,hk=>by
  simp at h1 h2;subst h1;subst h2;show bindC kindOf ((p,w)::P.zip vs) m p=_;unfold bindC;rw[Bs λv hv=>(nodup_cons.mp nd).1 (mL hv).1,af hk];simp
 |p::P,w::vs,i+1,m,nd,h1,h2,hk=>by
  show bindC kindOf ((p,w)::P.zip vs) m x=_;unfold bindC;exact Bu (i:=i) (nodup_cons.mp nd).2 ‹h1› ‹h2› hk
noncomputable def start(N:List Str)(vs:List V):St:=vs.map some++List.replicate (N.length-vs.length) none
noncomputable def j5(CX:NT)(P:Program)(w:World)(K:PySem.W.Frag)(mg:Str->Option Value)(base:Heap)(N:List Str)(qual:Str)(scope:Scope)(f:Addr)(cd:Value)(A:Around)(outer:List Env)(s:Shared)(H:Hp)(E:XK):Cx where
 prog:=P
 w:=w
 K:=K
 mg:=mg
 base:=base
 A:=A.deeper (envOfC qual scope s.heap.objs.size f cd)
 N:=N
 wZ:=s
 Zg:=H
 env:=envOfC qual scope s.heap.objs.size f cd
 outer:=outer
 stack:=envOfC qual scope s.heap.objs.size f cd::outer
 ex:=[]
 calm:=true
 fn:=λ_=>true
 pn:=[]
 xe:=λe s'=>wpAny (model P w) (A.deeper (envOfC qual scope s.heap.objs.size f cd)) (leaving (envOfC qual scope s.heap.objs.size f cd) e) (λ_ s''=>CX outer H s E e s'') (λe' s''=>CX outer H s E e' s'') s'
def Fi{sc:Scope}(h:sc.names.lookup x=some .cell):∃c,(cellsFrom n sc.names []).lookup x=some c:=by
 have q:=wg sc.names n [] (.inl h);exact Option.isSome_iff_exists.mp q
def uq{E:XK}{vs:List V}(S:aC N ps scope)(hd:A.handled=none)(e0:Az P w K mg base A outer s H)(hl:vs.length=ps.length)(r:Vals vs us)(x:InCallC s s.heap.objs.size (bindL (envOfC qual scope s.heap.objs.size f cd).kindOf (ps.zip us) λ_=>none) (cellsFrom (s.heap.objs.size+1) scope.names []) (bindC (envOfC qual scope s.heap.objs.size f cd).kindOf (ps.zip us) λ_=>none) s1):
  Inv (j5 CX P w K mg base N qual scope f cd A outer s H E) [] (start N vs) H s1:=by
 have iz:ps.length<=N.length:=by have:=bW List.length S.pre;rw[cS]at this;omega
 obtain⟨h1,tk,rfl,hk⟩:=x.done;have YB:∀b:Addr,b∉(j5 CX P w K mg base N qual scope f cd A outer s H E).ex:=λb z=>absurd (show b∈([]:List Addr)from z) ∅;refine⟨⟨e0.mod,S.kind,rfl,rfl,aQ _,λy z c h1 h2=>?_,λy hy=>?_,λy c _ h=>?_,λ_=>hd,Around.frames_deeper e0.frames,.inr ⟨rfl,rfl⟩,λb z=>absurd z (YB b),e0.bs,e0.LX,λb _ _=>YB b,λb z=>absurd z (YB b),e0.rh,e0.RN⟩,
  rfl,e0.bare,Un.kept hk,⟨_,x.toInCall.ns,λi y v h1 h2 h3=>?_⟩,λy c h=>⟨_,x.cell y c h⟩,e0.bQ.fresh (aQ _),λy c h=>?_,λp hp=>absurd (show p∈([]:List (Addr×Obj))from hp) ∅,e0.bQ.kept hk,?_⟩
 .exact name_of_addr x.apart (fP h1) (fP h2)
 .obtain hy|hy:=hy
  .exact Fi hy
  .exact absurd rfl (S.Wx _ (fP hy))
 .exact iq (x.above y c (fP h))
 .have hi:i<vs.length:=by
   unfold start at h2;by_cases hi:i<vs.length
   .exact hi
   .rw[sh ‹hi›]at h2;rw[getElem?_replicate]at h2;split at h2<;>cases h2
  have ha:vs[i]?=some v:=by
   unfold start at h2;rw[sk ‹hi›,a_]at h2;cases e:vs[i]? with
   |none=>rw[e]at h2;cases h2
   |some a=>rw[e]at h2;cases h2;rfl
  obtain⟨u,hu,rv⟩:=r.get ha;have hp:ps[i]?=some y:=by
   rw[<-S.pre,getElem?_take_of_lt ()];exact h1
  have ndP:ps.Nodup:=by rw[<-S.pre];exact S.nd.sublist (take_sublist _ _)
  refine⟨u,rv,?_⟩;obtain k|k:=S.par y (bh hp)
  .exact .inl ⟨k,Bt ndP hp hu k⟩
  .obtain⟨c,e⟩:=Fi k;refine .inr ⟨.inl k,c,e,?_⟩;have q:=x.cell y c e;rw[Bu ndP hp hu (by show scope.names.lookup y≠_;rw[k];decide)]at q;exact q
 .exact e0.bQ.fresh (iq (x.above y c (fP h)))
 .unfold start;show _=N.length;rw[dr,az,jC];omega
def U_{dV kV doc b8 oc:Value}(lk:K.lookup f=some ⟨oc,od,.func (PySem.W.fnOf name qual params body scope dV kV doc pm an b8 ct),HR⟩)(Bh:PySem.W.codeIn K b8 qual=true)(S:aC N ps scope)(len:∀vs H Q E,sp vs H Q E->vs.length=ps.length)(gq:∀A outer s H vs Q E,dX k (A.deeper (envOfC qual scope s.heap.objs.size f b8))->sp vs H Q E->
   ∃t,vM (j5 CX P w K mg base N qual scope f b8 A outer s H E) body t/\t {nx:=λ_ H'=>Q .cT H',rt:=Q} (start N vs) H):
  n9 P w K mg base CX (k+1) f (PySem.W.fnOf name qual params body scope dV kV doc pm an b8 ct) ps sp:=by
 refine⟨len,λA outer s H args us vs Q E hr e0 hb r Au=>?_⟩;have hl:=len _ _ _ _ Au;have KX:=e0.mod.Sq.keeps λb o e=>(e0.bs b o e).1;have lim:=e0.mod.nolimit.keeps λb o e=>(e0.bs b o e).1;have Fj:∀y∈ps.zip us,scope.names.lookup y.1=some .local\/(scope.names.lookup y.1=some .cell/\((cellsFrom (s.heap.objs.size+1) scope.names []).lookup y.1).isSome=true):=λ⟨n,v⟩ hy=>by
  obtain q|q:=S.par n (mL hy).1
  .exact .inl q
  .exact .inr ⟨q,wg _ _ _ (.inl q)⟩
 refine codeAny_call_function hr.depth (KX _ _ lk) rfl S.co S.gen rfl (PySem.W.codeRec_of KX Bh) (hb _ _ _ _ ?_);refine wpAny_newFunctionEnv_cells S.kind Fj λenv he s1 x=>?_;subst he;refine⟨lim.keeps x.toInCall.keep,codeAny_func ?_⟩;obtain⟨t,ht,hq⟩:=gq A outer s H vs Q E (hr.deeper _) Au;have I:Inv (j5 CX P w K mg base N qual scope f b8 A outer s H E) [] (start N vs) H s1:=uq S hr.hd e0 hl r x;refine c5 (ht [] s1 (start N vs) H _ I hq) (λfl s' hs=>?_) λe s' hs=>hs;have fin:∀{σ':St}{H':Hp}{v:V}{u:Value},Inv (j5 CX P w K mg base N qual scope f b8 A outer s H E) [] σ' H' s'->RelV v u->Q v H'->CE outer P w H s Q u s':=
  λ{σ' H' v u} J rv q=>⟨v,H',J.os,J.bare,J.base,J.bQ,rv,q⟩
 cases fl with
 |ret u=>
  obtain⟨v,σ',H',J,rv,q⟩:=hs;exact fin J rv q
 |next=>
  obtain⟨σ',H',J,q⟩:=hs;exact fin (v:=V.cT) J rfl q
 |brk=>
  obtain⟨_,_,_,q⟩:=hs;exact False.elim q
 |cont=>
  obtain⟨_,_,_,q⟩:=hs;exact False.elim q
section
variable {p:Pos} {es:List Expr} {t:TA} {id:String} {r:List V->Hp->VK->Prop}
def tCB(r:List V->Hp->VK->Prop)(t:TA):TE:=λσ H Q=>t σ H λvs H1=>r vs H1 Q
def aB(hc:lF X (.builtin id) r)(hg:Gl X x)(hm:X.mg x=none)(hv:bootBuiltins x=some (.builtin id))(ha:PA X (e::es) t)(hn:x≠"__name__":=by decide)(CZ:(x==("__debug__":Str))=false:=by decide)(he:starEach (e::es) X.env=(false,eval e X.env)::starEach es X.env:=by rfl)(iz:(backTo pos (starEach es X.env)).any (·.1)=false:=by rfl):PE X (.Call (.Name x p) (e::es) [] pos) (tCB r t):=by
 intro pins s σ H Q I h;refine jy (gk I hg hm hv ?_ hn CZ);refine PyProof.Rows.callWith_builtin1 (cJ (ha pos pins s σ H _ I h) λus s1 acO=>?_) he iz;obtain⟨vs,H1,I1,r1,q1⟩:=acO;exact hc pins s1 σ H1 vs us Q I1 r1 q1
def Bv(hc:lF X (.type T) r)(hg:Gl X x)(hm:X.mg x=none)(hv:bootBuiltins x=some (.type T))(ha:PA X (e::es) t)(hn:x≠"__name__":=by decide)(CZ:(x==("__debug__":Str))=false:=by decide)(he:starEach (e::es) X.env=(false,eval e X.env)::starEach es X.env:=by rfl)(iz:(backTo pos (starEach es X.env)).any (·.1)=false:=by rfl):PE X (.Call (.Name x p) (e::es) [] pos) (tCB r t):=by
 intro pins s σ H Q I h;refine jy (gk I hg hm hv ?_ hn CZ);refine jx (cJ (ha pos pins s σ H _ I h) λus s1 acP=>?_) he iz;obtain⟨vs,H1,I1,r1,q1⟩:=acP;exact hc pins s1 σ H1 vs us Q I1 r1 q1
end
end L2
variable {v y:L2.V} {xs:List L2.V} {kvs:List (L2.Key×L2.V)} {o:L2.HO} {H H' H1:L2.Hp} {Qd:L2.Hp->Prop} {X:L2.Cx} {σ:L2.St} {te ta:L2.TE} {tt:L2.TT} {tb:L2.TS} {g:L2.TG} {wi:L2.TI} {sp:L2.Sp} {CX:L2.NT}
namespace HT
open PySem PyProof.Rows
noncomputable def lexLt:List Int->List Int->Bool
 |[],[]=>false|[],_::_=>true
 |_::_,[]=>false|x::xs,y::ys=>if x=y then lexLt xs ys else decide (x<y)
def hG x y xs ys:lexLt (x::xs) (y::ys)=if x=y then lexLt xs ys else decide (x<y):=rfl
section
def SK{t:Addr}(ht:IsTup s.heap t vs.toArray)(hb:IsTup s.heap b ws.toArray)(hv:vs≠ [])(h1:ws=[]->Q (.ref t) s)(h2:ws≠ []->Q (.ref s.heap.objs.size) {s with heap:=s.heap.push {cls:=.type "tuple",data:=.seq (vs++ws).toArray}})(fY:vs.length+ws.length<=sizeLine):wpAny (model prog w) A (binaryOp .Add (.ref t) (.ref b)) Q E s:=by
 obtain⟨⟨cls,dd,data,sl⟩,ho,hc,n,hd⟩:=id ht;obtain⟨⟨acQ,YC,data2,YD⟩,Wy,hc2,n2,hd2⟩:=id hb;simp only at hc hd hc2 hd2;subst hc hd hc2 hd2;have e:vs.toArray++ws.toArray=(vs++ws).toArray:=by simp
 by_cases hw:ws=[]
 .exact concat_meets ⟨_,ho,rfl⟩ ⟨_,Wy,rfl⟩ noFill_tuple_add seq_tuple_add PySem.F.slot_tuple_add PySem.F.entry_tuple_add (PySem.F.args_tuple_add_2 _ _)
   (tuple_addW1 t b vs.toArray ws.toArray n n2 dd YC sl YD ‹hv› (by simp[hw])) ⟨ho,Wy,h1 hw⟩
 .refine concat_meets ⟨_,ho,rfl⟩ ⟨_,Wy,rfl⟩ noFill_tuple_add seq_tuple_add PySem.F.slot_tuple_add PySem.F.entry_tuple_add (PySem.F.args_tuple_add_2 _ _)
   (tuple_addW2 t b vs.toArray ws.toArray n n2 dd YC sl YD ‹hv› ‹hw› (by rw[cI,cI];exact fY)) ⟨ho,Wy,?_⟩
  rw[e];exact h2 hw
noncomputable def Fl(n d:Nat):Option Int->Nat
 |none=>d|some v=>if v<0 then(v+(n:Int)).toNat else min v.toNat n
def Ot n d:Fl n d none=d:=rfl
def C1(n d k:Nat):Fl n d (some (k:Int))=min k n:=by
 show(if(k:Int)<0 then((k:Int)+(n:Int)).toNat else min (k:Int).toNat n)=min k n;rw[af (),gZ]
end
end HT
namespace L2
open PySem PySem.Spec PyProof.Rows
abbrev TO:=St->Hp->(Option Int->Hp->Prop)->Prop
def PO(X:Cx)(e:Option Expr)(t:TO):Prop:=
 ∀(pins:List (Addr×Obj))(s:Shared)(σ:St)(H:Hp)(Q:Option Int->Hp->Prop),Inv X pins σ H s->t σ H Q->
  wpAny (model X.prog X.w) X.A (evalPart e X.env) (λu s'=>∃o H',Inv X pins σ H' s'/\IsPart u o/\Q o H') X.xe s
def C2:TO:=λ_ H Q=>Q none H
def Ou(t:TE):TO:=λσ H Q=>t σ H λx H1=>eI x λi=>Q (some i) H1
def intsAre_of:∀{us},Vals (ns.map V.int) us->IntsAre us ns:=by
 induction ns with
 |nil=>intro us r;rw[CK]at r;cases r;exact .nil
 |cons n ns ih=>
  intro us r;cases r with
  |cons r1 r2=>
   obtain⟨t,e⟩:=r1;subst e;exact .cons n t (ih r2)
section
variable {lo hi:Option Expr} {tl th:TO} {p2:Pos}
def pZ:PO X none C2:=by
 intro pins s σ H Q I h;exact ay ⟨none,H,I,.none,h⟩
def iA(h:PE X e te):PO X (some e) (Ou te):=by
 intro pins s σ H Q I hw;refine cJ (h pins s σ H _ I hw) λu s1 acR=>?_;obtain⟨x,H1,I1,r1,q1⟩:=acR;obtain⟨i,rfl,q⟩:=fD.mp q1;obtain⟨t,rfl⟩:=r1;exact⟨some i,H1,I1,.int i t,q⟩
def SlR(X:Cx)(r:V->Option Int->Option Int->Hp->VK->Prop):Prop:=
 ∀(pins:List (Addr×Obj))(s:Shared)(σ:St)(H:Hp)(x:V)(v vl vu:Value)(lo hi:Option Int)(sl:Addr)(Q:VK),Inv X pins σ H s->RelV x v->s.heap.IsSliceOf sl vl vu .none->IsPart vl lo->IsPart vu hi->r x lo hi H Q->
  ∃T id,typeLookup (.type T) "__getitem__"=pure (some (.builtin id))/\s.TypeIs v T/\wpAny (model X.prog X.w) X.A (getItem v (.ref sl)) (EP X pins σ Q) X.xe s
def tSl(r:V->Option Int->Option Int->Hp->VK->Prop)(te:TE)(tl th:TO):TE:=λσ H Q=>te σ H λx H1=>tl σ H1 λl H2=>th σ H2 λu H3=>r x l u H3 Q
def iH{r:V->Option Int->Option Int->Hp->VK->Prop}(hr:SlR X r)(he:PE X e te)(hl:PO X lo tl)(hu:PO X hi th):PE X (.Subscript e (.Slice lo hi none p2) pos) (tSl r te tl th):=by
 intro pins s σ H Q I h;refine Subscript_ (cJ (he pins s σ H _ I h) λv s1 acS=>?_);obtain⟨x,H1,I1,r1,q1⟩:=acS;refine wpAny_Slice (cJ (hl pins s1 σ H1 _ I1 q1) λvl s2 acT=>?_);obtain⟨l,H2,I2,pl,q2⟩:=acT;refine cJ (hu pins s2 σ H2 _ I2 q2) λvu s3 acU=>?_;obtain⟨u,H3,I3,pu,q3⟩:=acU;refine ay ?_;have I4:Inv X pins σ H3 {s3 with heap:=s3.heap.push {cls:=.type "slice",data:=.fields #[vl,vu,.none]}} :=I3.kept λb ob q=>bN _ q;obtain⟨T,id,hT,ht,hg⟩:=hr pins {s3 with heap:=s3.heap.push {cls:=.type "slice",data:=.fields #[vl,vu,.none]}} σ H3 x v vl vu l u s3.heap.objs.size Q I4 r1 (Heap.IsSliceOf.new ..) pl pu q3;exact tail_any ht hT hg (by with_unfolding_all rfl)
noncomputable def lH(xs:List V)(lo hi:Option Int):List V:=(xs.drop (HT.Fl xs.length 0 lo)).take (HT.Fl xs.length xs.length hi-HT.Fl xs.length 0 lo)
def Fm xs lo hi:(lH xs lo hi).length<=xs.length:=by
 unfold lH;rw[cS,dU];omega
def Zw(K:PySem.W.Frag):R2:=λx y H Q=>∃a b xs ys,x=.ref a/\y=.ref b/\jF K H a xs/\jF K H b ys/\xs≠ []/\xs.length+ys.length<=sizeLine/\
 (ys=[]->Q (.ref a) H)/\(ys≠ []->∀p,H p=none->Q (.ref p) (upd H p (.tup (xs++ys))))
def Vals.C3(r:Vals xs us):us=[]↔xs=[]:=by
 cases r with
 |nil=>simp|cons _ _=>simp
def SM:ou X (binaryOp .Add) (Zw X.K):=by
 intro pins s σ H x y v u Q I rx ry h;obtain⟨a,b,xs,ys,rfl,rfl,ha,hb,hx,hz,q1,q2⟩:=h;cases rx;cases ry;obtain⟨aR,r1,p1,_⟩:=I.tuple ha;obtain⟨n_,r2,p2,_⟩:=I.tuple hb;refine HT.SK p1 p2 (λz=>hx (r1.C3.mp z)) (λz=>⟨.ref a,H,I,rfl,q1 (r2.C3.mp z)⟩) (λz=>?_) (by rw[<-r1.length,<-r2.length];exact hz);refine⟨.ref s.heap.objs.size,_,I.laid (t':=s.toks) (λb ob q=>bN _ q) (aQ _) ?_,rfl,q2 (λw=>z (r2.C3.mpr w)) _ (I.bQ.fresh (aQ _))⟩;exact⟨by rw[dr];exact hz,_,r1.append r2,IsTup.new _ _⟩
end
noncomputable def YF(n:Nat)(i:Int):Option Nat:=if 0<=i then(if i<n then some i.toNat else none)else if-(n:Int)<=i then some (i+n).toNat else none
noncomputable def NU{α:Type}(xs:List α)(i:Int):Option α:=(YF xs.length i).bind λj=>xs[j]?
def SN{i:Int}(h:YF n i=some j):seqIndex? i n=some j/\j<n/\-(n:Int)<=i/\i<n:=by
 unfold YF at h;by_cases h0:0<=i
 .rw[ah h0]at h;by_cases h1:i<n
  .rw[ah h1]at h;have e:=Option.some.inj h;exact⟨by rw[seqIndex_of h0 h1,e],by omega,by omega,h1⟩
  .rw[af h1]at h;cases h
 .rw[af h0]at h;by_cases h1: -(n:Int)<=i
  .rw[ah h1]at h;have e:=Option.some.inj h;exact⟨by rw[seqIndex_neg () h1,e],by omega,h1,by omega⟩
  .rw[af h1]at h;cases h
def Kb{xs:List α}{i:Int}{v:α}(h:NU xs i=some v):∃j,seqIndex? i xs.length=some j/\xs[j]?=some v/\j<xs.length/\-(xs.length:Int)<=i/\i<xs.length:=by
 unfold NU at h;cases e:YF xs.length i with
 |none=>rw[e]at h;cases h
 |some j=>
  rw[e]at h;obtain⟨h1,h2,h3,h4⟩:=SN e;exact⟨j,h1,h,h2,h3,h4⟩
def dG{xs:List α}{v:α}(h:xs[j]?=some v):NU xs (j:Int)=some v:=by
 have hj:=(List.getElem?_eq_some_iff.mp h).1;have e:YF xs.length (j:Int)=some j:=by
  unfold YF;rw[ah (),ah ()];simp
 unfold NU;rw[e];exact h
def SQ(b:Expr):Prop:=∀o i,subscripted b false o i=operate [o,i] (getItem o i)
def IxR(X:Cx)(r:R2):Prop:=
 ∀(value slice:Expr)(pins:List (Addr×Obj))(s:Shared)(σ:St)(H:Hp)(x y:V)(v u:Value)(Q:VK),Inv X pins σ H s->RelV x v->RelV y u->r x y H Q->
  subscripted slice false v u=operate [v,u] (getItem v u)->wpAny (model X.prog X.w) X.A (subscriptTail value slice v u) (EP X pins σ Q) X.xe s
def Ov(X:Cx)(id:String)(r:V->List V->Hp->VK->Prop):Prop:=
 ∀(pins:List (Addr×Obj))(s:Shared)(σ:St)(H:Hp)(x:V)(xs:List V)(v:Value)(us:List Value)(Q:VK),Inv X pins σ H s->RelV x v->Vals xs us->r x xs H Q->
  wpAny (model X.prog X.w) X.A (call (.builtin id) (v::us)) (EP X pins σ Q) X.xe s
section
variable {a b:Expr} {tb:TE}
def bz{r:R2}(hr:IxR X r)(ha:PE X a ta)(hb:PE X b tb)(hs:SQ b):PE X (.Subscript a b pos) (Sz r ta tb):=by
 intro pins s σ H Q I h;exact Subscript_ (SA ha hb I h λv u s2 x y H2 I2 rx ry q=>hr a b pins s2 σ H2 x y v u Q I2 rx ry q (hs _ _))
def SR(K:PySem.W.Frag):R2:=λx y H Q=>eR x λp=>eI y λi=>∃xs,aJ K H p xs/\∃v,NU xs i=some v/\Q v H
def Wz(K:PySem.W.Frag):R2:=λx y H Q=>eR x λp=>eI y λi=>∃xs,jF K H p xs/\∃v,NU xs i=some v/\Q v H
def aL:IxR X (SR X.K):=by
 intro value slice pins s σ H x y v u Q I rx ry h hs;obtain⟨p,rfl,h⟩:=kK.mp h;obtain⟨i,rfl,xs,hq,z,he,q⟩:=fD.mp h;cases rx;obtain⟨t,rfl⟩:=ry;obtain⟨aR,r,pl,hz⟩:=I.list hq;obtain⟨j,h1,h2,h3,h4,h5⟩:=Kb he;obtain⟨w,ew,WB⟩:=r.get h2;have hl:=r.length;have hn:=CW;have fin:EP X pins σ Q w s:=⟨z,H,I,WB,q⟩;by_cases h0:0<=i
 .have hj:i.toNat=j:=by
   rw[seqIndex_of h0 h5]at h1;exact Option.some.inj h1
  exact item_listR pl.isList h0 () (by rw[hj];simpa using ew) fin hs
 .have hj:(i+(aR.toArray.size:Int)).toNat=j:=by
   rw[seqIndex_neg () h4]at h1;rw[cI,<-hl];exact Option.some.inj h1
  exact subscriptTail_builtinR pl.isList.typeIs slot_list_getitem.lookup
   (wpAny_getItem_list_neg pl.isList () (by rw[cI] <;>omega) () (by rw[hj];simpa using ew) ⟨rfl,fin⟩) hs
def Ow:IxR X (Wz X.K):=by
 intro value slice pins s σ H x y v u Q I rx ry h hs;obtain⟨p,rfl,h⟩:=kK.mp h;obtain⟨i,rfl,xs,hq,z,he,q⟩:=fD.mp h;cases rx;obtain⟨t,rfl⟩:=ry;obtain⟨aR,r,pl,hz⟩:=I.tuple hq;obtain⟨j,h1,h2,h3,h4,h5⟩:=Kb he;obtain⟨w,ew,WB⟩:=r.get h2;have hl:=r.length;have hn:=CW;have fin:EP X pins σ Q w s:=⟨z,H,I,WB,q⟩;exact subscriptTail_builtinR pl.typeIs slot_tuple_getitem.lookup
  (getItem_tuple (j:=j) pl () () (by rw[cI,<-hl];exact h1) ‹ew› ⟨rfl,fin⟩) hs
def C4 lo hi n:(sliceBounds lo hi none n).1=((HT.Fl n 0 lo:Nat):Int)/\(sliceBounds lo hi none n).2.1=((HT.Fl n n hi:Nat):Int)/\(sliceBounds lo hi none n).2.2=1:=by
 refine⟨?_,?_,rfl⟩
 .cases lo with
  |none=>simp[sliceBounds,HT.Fl]
  |some i=>
   simp only[sliceBounds,HT.Fl,Option.getD_none,show(1:Int)>0 by decide,if_true];by_cases h:i<0
   .simp only[h,if_true] <;>omega
   .simp only[h,if_false] <;>omega
 .cases hi with
  |none=>simp[sliceBounds,HT.Fl]
  |some i=>
   simp only[sliceBounds,HT.Fl,Option.getD_none,show(1:Int)>0 by decide,if_true];by_cases h:i<0
   .simp only[h,if_true] <;>omega
   .simp only[h,if_false] <;>omega
def AA(aR:List Value) lo hi:slicePick aR.toArray lo hi none=((aR.drop (HT.Fl aR.length 0 lo)).take (HT.Fl aR.length aR.length hi-HT.Fl aR.length 0 lo)).toArray:=by
 obtain⟨h1,h2,h3⟩:=C4 lo hi aR.toArray.size;unfold slicePick;rw[h1,h2,h3];simp only[sliceRange_one,pick_run,size_toArray] <;>rfl
def WC(K:PySem.W.Frag):V->Option Int->Option Int->Hp->VK->Prop:=λx lo hi H Q=>eR x λa=>∃xs,aJ K H a xs/\∀p,H p=none->Q (.ref p) (upd H p (.lst (lH xs lo hi)))
def kg:SlR X (WC X.K):=by
 intro pins s σ H x v vl vu lo hi sl Q I rx hs pl pu h;obtain⟨a,rfl,xs,hx,q⟩:=kK.mp h;cases rx;obtain⟨aR,r,ht,hz⟩:=I.list hx;have hlen:=r.length;refine⟨"list",_,slot_list_getitem.lookup,ht.isList.typeIs,?_⟩;refine wpAny_getItem_list_slice ht.isList hs pl pu .none ∅ ?_ (by rw[cI] <;>omega);rw[AA,<-hlen];refine⟨.ref s.heap.objs.size,_,I.laid (t':=s.toks) (λb ob q=>bN _ q) (aQ _) ?_,rfl,q _ (I.bQ.fresh (aQ _))⟩;exact⟨aW (Fm xs lo hi) hz,_,0,(r.drop (HT.Fl xs.length 0 lo)).take (HT.Fl xs.length xs.length hi-HT.Fl xs.length 0 lo),bq _ rfl⟩
noncomputable def gu:V->Bool
 |.cT=>true|.bl _=>true
 |.int _=>true|.str _=>true
 |_=>false
noncomputable def HS:V->V->Bool
 |.cT,.cT=>true|.bl a,.bl b=>a==b
 |.bl a,.int b=>(if a then 1 else 0)==b
 |.int a,.bl b=>a==(if b then 1 else 0)
 |.int a,.int b=>a==b|.str a,.str b=>a==b
 |_,_=>false
def WD{x:V}{v:Value}(ry:RelV y u)(rx:RelV x v)(fy:gu y=true)(fx:gu x=true):SeqAt.EqAt A s u v (HS y x):=by
 cases y with
 |cT=>
  cases ry;cases x with
  |cT=>cases rx;exact SeqAt.EqAt.same _
  |bl b=>cases rx;exact SeqAt.EqAt.none_bool b
  |int b=>obtain⟨t,rfl⟩:=rx;exact SeqAt.EqAt.none_int b t
  |str b=>obtain⟨t,rfl⟩:=rx;exact SeqAt.EqAt.none_str b t
  |_=>exact absurd (show false=true from fx) b9
 |bl a=>
  cases ry;cases x with
  |cT=>cases rx;exact SeqAt.EqAt.bool_none a
  |bl b=>cases rx;exact SeqAt.EqAt.bool_bool a b
  |int b=>obtain⟨t,rfl⟩:=rx;exact SeqAt.EqAt.bool_int a b t
  |str b=>obtain⟨t,rfl⟩:=rx;exact SeqAt.EqAt.bool_str a b t
  |_=>exact absurd (show false=true from fx) b9
 |int a=>
  obtain⟨t',rfl⟩:=ry;cases x with
  |cT=>cases rx;exact SeqAt.EqAt.int_none a t'
  |bl b=>cases rx;exact SeqAt.EqAt.int_bool a t' b
  |int b=>obtain⟨t,rfl⟩:=rx;exact SeqAt.EqAt.int_int a t' b t
  |str b=>obtain⟨t,rfl⟩:=rx;exact SeqAt.EqAt.int_str a t' b t
  |_=>exact absurd (show false=true from fx) b9
 |str a=>
  obtain⟨t',rfl⟩:=ry;cases x with
  |cT=>cases rx;exact SeqAt.EqAt.str_none a t'
  |bl b=>cases rx;exact SeqAt.EqAt.str_bool a t' b
  |int b=>obtain⟨t,rfl⟩:=rx;exact SeqAt.EqAt.str_int a t' b t
  |str b=>obtain⟨t,rfl⟩:=rx;exact SeqAt.EqAt.str_str a t' b t
  |_=>exact absurd (show false=true from fx) b9
 |_=>exact absurd (show false=true from fy) b9
noncomputable def Hy(x:V)(u:Value):Bool:=match u with
 |.none=>HS .cT x|.bool b=>HS (.bl b) x
 |.int i _=>HS (.int i) x|.str z _=>HS (.str z) x
 |_=>false
def C5{x:V}(r:RelV y u)(f:gu y=true):Hy x u=HS y x:=by
 cases y with
 |cT=>cases r;rfl
 |bl b=>cases r;rfl
 |int i=>obtain⟨t,rfl⟩:=r;rfl
 |str z=>obtain⟨t,rfl⟩:=r;rfl
 |_=>exact absurd (show false=true from f) b9
theorem tj{x:V}:∀{xs}{us},Vals xs us->xs.all gu=true->us.any (Hy x)=xs.any λy=>HS y x
 |_,_,.nil,_=>rfl
 |y::xs,u::us,.cons r t,f=>by
  rw[c9,bC]at f;rw[any_cons,any_cons,C5 r f.1,tj t f.2]
theorem lI{x:V}{v:Value}(rx:RelV x v)(fx:gu x=true):∀{xs}{us},Vals xs us->xs.all gu=true->∀u∈us,SeqAt.EqAt A s u v (Hy x u)
 |_,_,.nil,_=>λu hu=>by cases hu
 |y::xs,u::us,.cons r t,f=>λu' hu=>by
  rw[c9,bC]at f;obtain rfl|hu:=mem_cons.mp hu
  .rw[C5 r f.1];exact WD r rx f.1 fx
  .exact lI rx fx t f.2 u' hu
noncomputable def YG(x:V)(xs:List V):Bool:=xs.any λy=>HS y x
def Ox(K:PySem.W.Frag)(neg:Bool):R2:=λx y H Q=>eR y λp=>∃xs,(aJ K H p xs\/jF K H p xs)/\gu x=true/\xs.all gu=true/\Q (.bl (if neg then !YG x xs else YG x xs)) H
def ur:ou X (compareOp .In) (Ox X.K false):=by
 intro pins s σ H x y v u Q I rx ry h;obtain⟨p,rfl,xs,hq,fx,fs,q⟩:=kK.mp h;cases ry;obtain hq|hq:=hq
 .obtain⟨aR,r,pl,hz⟩:=I.list hq;refine SeqAt.in_listAt (Hy x) pl.isList (λw hw=>lI rx fx r fs w ‹hw›) ⟨.bl _,H,I,rfl,?_⟩;rw[show aR.toArray.any (Hy x)=aR.any (Hy x) by simp,tj r fs];exact q
 .obtain⟨aR,r,pl,hz⟩:=I.tuple hq;refine SeqAt.in_tupleAt (Hy x) pl (λw hw=>lI rx fx r fs w ‹hw›) ⟨.bl _,H,I,rfl,?_⟩;rw[show aR.toArray.any (Hy x)=aR.any (Hy x) by simp,tj r fs];exact q
def tm:ou X (compareOp .NotIn) (Ox X.K true):=by
 intro pins s σ H x y v u Q I rx ry h;obtain⟨p,rfl,xs,hq,fx,fs,q⟩:=kK.mp h;cases ry;obtain hq|hq:=hq
 .obtain⟨aR,r,pl,hz⟩:=I.list hq;refine SeqAt.notIn_listAt (Hy x) pl.isList (λw hw=>lI rx fx r fs w ‹hw›) ⟨.bl _,H,I,rfl,?_⟩;rw[show aR.toArray.any (Hy x)=aR.any (Hy x) by simp,tj r fs];exact q
 .obtain⟨aR,r,pl,hz⟩:=I.tuple hq;refine SeqAt.notIn_tupleAt (Hy x) pl (λw hw=>lI rx fx r fs w ‹hw›) ⟨.bl _,H,I,rfl,?_⟩;rw[show aR.toArray.any (Hy x)=aR.any (Hy x) by simp,tj r fs];exact q
def aA:lF X (.builtin "len") (λxs H Q=>eL xs λp=>∃ys,(aJ X.K H p ys\/jF X.K H p ys)/\Q (.int ys.length) H):=by
 intro pins s σ H xs us Q I r h;obtain⟨p,rfl,ys,hq,q⟩:=uk.mp h;obtain⟨u,rfl,rx⟩:=vals1 r;cases rx;have hn:=CW;obtain hq|hq:=hq
 .obtain⟨aR,r',pl,hz⟩:=I.list hq;have hlen:=r'.length;exact Calls.call_len_list pl.isList (by simp only[size_toArray] <;>omega) ⟨.int ys.length,H,I.tok _,⟨s.toks+1,by rw[cI,hlen]⟩,q⟩
 .obtain⟨aR,r',pl,hz⟩:=I.tuple hq;have hlen:=r'.length;exact len_tuple pl (by simp only[size_toArray] <;>omega) ⟨.int ys.length,H,I.tok _,⟨s.toks+1,by rw[cI,hlen]⟩,q⟩
def tq:lF X (.builtin "len") (λxs H Q=>eT xs λz=>z.length<=sizeLine/\Q (.int z.length) H):=by
 intro pins s σ H xs us Q I r h;obtain⟨z,rfl,hz,q⟩:=CP.mp h;obtain⟨u,rfl,t,rfl⟩:=vals1 r;have hn:=CW;exact len_str () ⟨.int z.length,H,I.tok _,⟨_,rfl⟩,q⟩
def AB:lF X (.type "tuple") (λxs H Q=>eL xs λp=>∃ys,((aJ X.K H p ys/\∀l,H l=none->Q (.ref l) (upd H l (.tup ys)))\/(jF X.K H p ys/\Q (.ref p) H))):=by
 intro pins s σ H xs us Q I r h;obtain⟨p,rfl,ys,h⟩:=uk.mp h;obtain⟨u,rfl,rx⟩:=vals1 r;cases rx;obtain⟨hq,q⟩|⟨hq,q⟩:=h
 .obtain⟨aR,r',pl,hz⟩:=I.list hq;have hlen:=r'.length;refine call_tuple_list pl.isList (λh' kp=>?_) (by simp only[size_toArray] <;>omega);have I1:=I.kept (t':=s.toks) kp;have I2:Inv X pins σ (upd H h'.objs.size (.tup ys)) {s with heap:=h'.push {cls:=.type "tuple",data:=.seq aR.toArray}} :=
   I1.laid (λb o e=>bN _ e) (aQ _) (show dB X.prog X.w _ _ _ (.tup ys)from⟨hz,aR,r',IsTup.new _ _⟩)
  exact⟨.ref h'.objs.size,_,I2,rfl,q _ (I1.bQ.fresh (aQ _))⟩
 .obtain⟨aR,r',pl,hz⟩:=I.tuple hq;exact call_tuple_same pl ⟨.ref p,H,I,rfl,q⟩
def YH(K:PySem.W.Frag)(T:String)(x:V)(H:Hp):Prop:=match x with
 |.str _=>T="str"|.int _=>T="int"
 |.ref p=>(T="list"/\∃xs,aJ K H p xs)\/(T="tuple"/\∃o,K.lookup p=some o/\o.cls=.type "tuple"/\o.dict=none)\/
   (T="dict"/\((∃kvs,H p=some (.dK kvs))\/∃kvs,H p=some (.dT kvs)))\/(T="set"/\∃S n,H p=some (.set S n))
 |_=>False
def Oy{x:V}{v:Value}(I:Inv X pins σ H s)(r:RelV x v)(ty:YH X.K T x H):
  s.TypeIs v T/\∀a,v=.ref a->∃ob,s.heap.get? a=some ob/\ob.dict=none:=by
 cases x with
 |str z=>
  obtain⟨t,rfl⟩:=r;cases(show T="str"from ty);exact⟨mK s z t,λ_ e=>nomatch e⟩
 |int i=>
  obtain⟨t,rfl⟩:=r;cases(show T="int"from ty);exact⟨typeIs_int s i t,λ_ e=>nomatch e⟩
 |ref p=>
  cases r;obtain⟨rfl,xs,hq⟩|⟨rfl,o,hk,hc,hd⟩|⟨rfl,hk⟩|⟨rfl,S,n,hk⟩:=ty
  .obtain⟨aR,_,pl,_⟩:=I.list hq;refine⟨pl.isList.typeIs,λa e=>?_⟩;cases e;obtain⟨o,n,e,c,hd,_⟩:=pl;exact⟨o,e,hd⟩
  .refine⟨⟨o,I.EZ p o hk,hc⟩,λa e=>?_⟩;cases e;exact⟨o,I.EZ _ o hk,hd⟩
  .have z:∃o,s.heap.get? p=some o/\o.ExactDict:=by
    obtain⟨kvs,hk⟩|⟨kvs,hk⟩:=hk
    .obtain⟨_,_,_,_,o,_,_,e,ex,_⟩:=I.bQ p _ hk;exact⟨o,e,ex⟩
    .obtain⟨_,_,_,_,o,_,_,e,ex,_⟩:=I.bQ p _ hk;exact⟨o,e,ex⟩
   obtain⟨o,e,ex⟩:=z;refine⟨⟨o,e,ex.1⟩,λa e2=>?_⟩;cases e2;exact⟨o,e,ex.2.1⟩
  .obtain⟨o,_,_,_,e,ex,_⟩:=I.bQ p _ hk;refine⟨⟨o,e,ex.1⟩,λa e2=>?_⟩;cases e2;exact⟨o,e,ex.2.1⟩
 |_=>exact False.elim ty
def acV(K:PySem.W.Frag)(T:String)(r:V->List V->Hp->VK->Prop)(to:TE):TE:=λσ H Q=>to σ H λx H1=>YH K T x H1/\r x [] H1 Q
def Zx(K:PySem.W.Frag)(T:String)(r:V->List V->Hp->VK->Prop)(to:TE)(t:TA):TE:=λσ H Q=>to σ H λx H1=>YH K T x H1/\t σ H1 λxs H2=>r x xs H2 Q
variable {o:Expr} {es:List Expr} {to:TE} {t:TA} {et:Pos} {id:String} {r:V->List V->Hp->VK->Prop}
def WG(pa:PlainAttrs T)(slot:Slot T name id)(RP:typeOf (.builtin id)=pure (.type "method_descriptor"))(hm:Ov X id r)(ho:PE X o to)(jH:attributeBase o name X.env (eval o X.env)=eval o X.env:=by rfl)(hline:(apos.endLine==et.line)=true:=by rfl):PE X (.Call (.Attribute o name apos) [] [] et) (acV X.K T r to):=by
 intro pins s σ H Q I h;refine wpAny_Call_method0_late jH hline (cJ (ho pins s σ H _ I h) λv s1 acW=>?_);obtain⟨x,H1,I1,r1,ty,q1⟩:=acW;obtain⟨h1,h2⟩:=Oy I1 r1 ty;exact⟨T,id,pa,slot,RP,h1,h2,ui rfl (PySem.evalArgs_none (hm pins s1 σ H1 x [] v [] Q I1 r1 .nil q1))⟩
def Oz(pa:PlainAttrs T)(slot:Slot T name id)(RP:typeOf (.builtin id)=pure (.type "method_descriptor"))(hm:Ov X id r)(ho:PE X o to)(ha:PA X (e::es) t)(jH:attributeBase o name X.env (eval o X.env)=eval o X.env:=by rfl)(WH:((backTo et (starEach (e::es) X.env)).all (λx=>!x.1)&&(backToKw et (keywordEach [] X.env)).all (λx=>x.1.isSome)
   &&decide ((e::es).length+([]:List Keyword).length+(if([]:List Keyword).isEmpty then 0 else 1)<30))=true:=by rfl)(hline:(apos.endLine==et.line)=true:=by rfl)(hs:starEach (e::es) X.env=(false,eval e X.env)::starEach es X.env:=by rfl)(HU:(backTo et (starEach es X.env)).any (·.1)=false:=by rfl):
  PE X (.Call (.Attribute o name apos) (e::es) [] et) (Zx X.K T r to t):=by
 intro pins s σ H Q I h;refine wpAny_Call_method_late jH WH hline rfl (cJ (ho pins s σ H _ I h) λv s1 acX=>?_);obtain⟨x,H1,I1,r1,ty,q1⟩:=acX;obtain⟨h1,h2⟩:=Oy I1 r1 ty;refine⟨T,id,pa,slot,RP,h1,h2,?_⟩;have hA:=ha et pins s1 σ H1 _ I1 q1;rw[hs]at hA⊢;refine ui (by show(false||(backTo et (starEach es X.env)).any (·.1))=false;rw[HU] <;>rfl) (sq ?_);refine cJ hA λus s2 acY=>?_;obtain⟨vs,H2,I2,r2,q2⟩:=acY;exact hm pins s2 σ H2 x vs v us Q I2 r1 r2 q2
end
def MtM(X:Cx)(id:String)(r:V->List V->Hp->VK->Prop):Prop:=
 ∀(pins:List (Addr×Obj))(s:Shared)(σ:St)(H:Hp)(x:V)(xs:List V)(v:Value)(us:List Value)(Q:VK),Inv X pins σ H s->RelV x v->Vals xs us->r x xs H Q->
  wpAny (model X.prog X.w) X.A (call (.builtin id) (v::us)) (EP X pins σ Q) X.xe s
def Vals.one{x}(r:Vals [x] us):∃u,us=[u]/\RelV x u:=vals1 r
def Vals.zero:∀{us},Vals [] us->us=[]
 |_,.nil=>rfl
theorem Vals.dropLast(h:Vals xs us):Vals xs.dropLast us.dropLast:=by
 induction h with
 |nil=>exact .nil
 |cons r t ih=>
  cases t with
  |nil=>exact .nil|cons q t'=>exact .cons r ih
theorem Vals.rep(h:Vals xs us):∀k:Nat,Vals (List.replicate k xs).flatten (List.replicate k us).flatten
 |0=>.nil
 |k+1=>by
  exact Vals.append h (Vals.rep h k)
def HV(l:List α):l.eraseIdx (l.length-1)=l.dropLast:=by
 induction l with
 |nil=>rfl
 |cons a r ih=>
  cases r with
  |nil=>rfl
  |cons b r=>
   have e:(a::b::r).length-1=((b::r).length-1)+1:=by
    have h1:(a::b::r).length=r.length+2:=rfl;have h2:(b::r).length=r.length+1:=rfl;omega
   rw[e,eraseIdx_cons_succ,ih]
   all_goals rfl
theorem foldl_rep(aR:List Value):∀k acc,
  List.foldl (λx1 x2=>x1++x2) acc.toArray (List.replicate k aR.toArray)=(acc++(List.replicate k aR).flatten).toArray
 |0,acc=>by simp
 |k+1,acc=>by
  have e:acc.toArray++aR.toArray=(acc++aR).toArray:=by simp
  have e2:(acc++aR)++(List.replicate k aR).flatten=acc++(List.replicate (k+1) aR).flatten:=by
   rw[j6,mH,iR]
  rw[<-e2,<-foldl_rep aR k (acc++aR),<-e,j6,dW]
section
variable {ys zs:List V}
def Inv.WK{aR HJ:List Value}{f:Array Value->Array Value}(I:Inv X pins σ H s)(hH:H l=some (.lst xs))(e:s.heap.get? l=some {cls:=.type "list",data:=.seq aR.toArray n})(hf:f aR.toArray=HJ.toArray)(hv:Vals ys HJ)(hz:ys.length<=sizeLine):
  Inv X pins σ (upd H l (.lst ys)) {s with heap:=s.heap.update l (Obj.mapSeq f),toks:=t'} :=by
 have q:=PySem.IsL.update e f;rw[hf]at q;refine I.write (e:=l) (by rw[hH];exact trivial) (.inl rfl) (λb' u hb hu=>(ku s.heap (Obj.mapSeq f) (dF hb)).trans hu) ⟨_,q⟩ ?_;exact⟨hz,HJ,_,hv,q⟩
def Inv.Zy(I:Inv X pins σ H s)(hv:Vals ys aR)(hz:ys.length<=sizeLine):
  Inv X pins σ (upd H s.heap.objs.size (.lst ys)) {s with heap:=s.heap.push {cls:=.type "list",data:=.seq aR.toArray},toks:=t'} :=
 I.laid (λ_ _ q=>bN _ q) (aQ _) ⟨hz,aR,0,hv,bq _ rfl⟩
theorem Inv.fresh(I:Inv X pins σ H s):H s.heap.objs.size=none:=I.bQ.fresh (aQ _)
def Inv.HW(I:Inv X pins σ H s)(hH:H l=some (.lst xs)):xs.length<=sizeLine/\∃(aR:List Value) (n:Nat),Vals xs aR/\xs.length=aR.length/\s.heap.get? l=some {cls:=.type "list",data:=.seq aR.toArray n} :=by
 obtain⟨z,aR,n,r,e⟩:=I.bQ l _ hH;exact⟨z,aR,n,r,r.length,e⟩
def Fn(h:n<=sizeLine):Builtin.List.listTooLong n=false:=by
 unfold Builtin.List.listTooLong;exact cR ()
end
section
def Kc:V->List V->Hp->VK->Prop:=λx vs H Q=>∃l xs y,x=.ref l/\vs=[y]/\H l=some (.lst xs)/\xs.length<sizeLine/\Q .cT (upd H l (.lst (xs++ [y])))
def Mb:MtM X "list.append" Kc:=by
 intro pins s σ H x vs v us Q I rx rv h;obtain⟨l,xs,y,rfl,rfl,hH,hz,q⟩:=h;cases rx;obtain⟨u,rfl,ru⟩:=rv.one;obtain⟨z,aR,n,r,hl,e⟩:=I.HW hH;refine iw F.slot_list_append ⟨_,e,rfl⟩ F.entry_list_append (F.args_list_append_2 _ _) (PySem.list_append l aR.toArray n u (by rw[cI];omega)) ⟨e,?_⟩;refine⟨.cT,_,I.WK hH e ∅ (r.append (.cons ru .nil)) ?_,rfl,q⟩;rw[dr,length_singleton];omega
def Kd:V->List V->Hp->VK->Prop:=λx vs H Q=>∃l b xs zs,x=.ref l/\vs=[.ref b]/\H l=some (.lst xs)/\H b=some (.lst zs)/\xs.length+zs.length<=sizeLine/\Q .cT (upd H l (.lst (xs++zs)))
def Md:MtM X "list.extend" Kd:=by
 intro pins s σ H x vs v us Q I rx rv h;obtain⟨l,b,xs,zs,rfl,rfl,hH,hB,hz,q⟩:=h;cases rx;obtain⟨u,rfl,ru⟩:=rv.one;cases ru;obtain⟨z,aR,n,r,hl,e⟩:=I.HW hH;obtain⟨z2,n_,n2,r2,YJ,e2⟩:=I.HW hB;have fY:aR.toArray.size+n_.toArray.size<=sizeLine:=by rw[cI,cI];omega
 have OA:¬(!aR.toArray.isEmpty&&Builtin.List.listTooLong (aR.toArray.size+n_.toArray.size))=true:=by
  rw[Fn fY,Bool.and_false];exact b9
 refine iw F.slot_list_extend ⟨_,e,rfl⟩ F.entry_list_extend (F.args_list_extend_2 _ _)
  (AutoSeq1.list_extend_list_list_0 l aR.toArray n b n_.toArray n2 OA (by rw[cI];omega) ()) ⟨e,e2,?_⟩
 refine⟨.cT,_,I.WK hH e ∅ (r.append r2) ?_,rfl,q⟩;rw[dr];omega
def acZ:V->List V->Hp->VK->Prop:=λx vs H Q=>∃l xs y,x=.ref l/\vs=[]/\H l=some (.lst xs)/\xs[xs.length-1]?=some y/\Q y (upd H l (.lst xs.dropLast))
def WL:MtM X "list.pop" acZ:=by
 intro pins s σ H x vs v us Q I rx rv h;obtain⟨l,xs,y,rfl,rfl,hH,hy,q⟩:=h;cases rx;have hus:=rv.zero;subst hus;obtain⟨z,aR,n,r,hl,e⟩:=I.HW hH;obtain⟨u,hu,ru⟩:=r.get hy;have Mf:aR.toArray[aR.toArray.size-1]?=some u:=by
  show aR.toArray[aR.length-1]?=some u;rw[<-dq,<-hl];exact hu
 refine iw F.slot_list_pop ⟨_,e,rfl⟩ F.entry_list_pop (F.args_list_pop_1 _) (MeetsSeq.list_pop_last l aR.toArray n u Mf (by rw[cI];omega)) ⟨e,?_⟩;refine⟨y,_,I.WK hH e ?_ r.dropLast ?_,ru,q⟩
 .rw[cI,eraseIdxIfInBounds_toArray,HV]
 .rw[length_dropLast];omega
def ac0:R2:=λx y H Q=>∃l b xs zs,x=.ref l/\y=.ref b/\H l=some (.lst xs)/\H b=some (.lst zs)/\xs.length+zs.length<=sizeLine/\∀p,H p=none->Q (.ref p) (upd H p (.lst (xs++zs)))
def WM:ou X (binaryOp .Add) ac0:=by
 intro pins s σ H x y v u Q I rx ry h;obtain⟨l,b,xs,zs,rfl,rfl,hH,hB,hz,q⟩:=h;cases rx;cases ry;obtain⟨z,aR,n,r,hl,e⟩:=I.HW hH;obtain⟨z2,n_,n2,r2,YJ,e2⟩:=I.HW hB;refine PySem.P.add_list e e2 ?_ (by rw[cI,cI];omega);have ea:aR.toArray++n_.toArray=(aR++n_).toArray:=by simp
 rw[ea];exact⟨.ref _,_,I.Zy (r.append r2) (by rw[dr];omega),rfl,q _ I.fresh⟩
def ac1:R2:=λx y H Q=>∃l k xs,x=.ref l/\y=.int k/\H l=some (.lst xs)/\-(2^63)<=k/\k<2^63/\xs.length*k.toNat<=sizeLine/\
 ∀p,H p=none->Q (.ref p) (upd H p (.lst (List.replicate k.toNat xs).flatten))
def len_rep(xs:List α) k:(List.replicate k xs).flatten.length=k*xs.length:=by
 induction k with
 |zero=>simp|succ k ih=>rw[j6,mH,dr,ih,Nat.succ_mul,sQ]
def HX:ou X (binaryOp .Mult) ac1:=by
 intro pins s σ H x y v u Q I rx ry h;obtain⟨l,k,xs,rfl,rfl,hH,h1,h2,hz,q⟩:=h;cases rx;obtain⟨t,rfl⟩:=ry;obtain⟨z,aR,n,r,hl,e⟩:=I.HW hH;have hlen:aR.toArray.size*k.toNat<=sizeLine:=by rw[cI,<-hl];exact hz
 have ac2:¬aR.toArray.size*k.toNat>(2^63-1)/8:=by
  have:(sizeLine:Nat)<=(2^63-1)/8:=by decide
  omega
 have SU:¬(!Builtin.List.listFitsIndex k)=true:=by
  rw[fitsIndex_both h1 h2];exact b9
 have OA:¬Builtin.List.listTooLong (aR.toArray.size*k.toNat)=true:=by
  rw[Fn hlen];exact b9
 have OB:List.foldl (λx1 x2=>x1++x2) #[] (List.replicate (if aR.toArray.isEmpty=true then 0 else k.toNat) aR.toArray)=(List.replicate k.toNat aR).flatten.toArray:=by
  have f0:=λm=>by
   have:=foldl_rep aR m [];rw[pK]at this;exact this
  rw[f0];cases aR with
  |nil=>simp|cons a r'=>rw[af ∅]
 refine wpAny_binaryOp_repeat_ref (U:="int") ⋯ ⟨_,e,rfl⟩ (λs'=>typeIs_int s' k t) noFill_list_mul F.fills_int_mul F.slot_int_rmul repeat_list F.slot_int_index.lookup
  (iw F.slot_int_rmul (typeIs_int s k t) F.entry_int_rmul (F.args_int_rmul_2 _ _) (int___rmul___int_list k t l aR.toArray n)
   ⟨e,rfl,⟨_,e,rfl⟩,iw F.slot_list_mul ⟨_,e,rfl⟩ F.entry_list_mul (F.args_list_mul_2 _ _) (AutoListH.list___mul___list_int_3 l aR.toArray n k t SU ac2 OA) ⟨e,?_⟩⟩)
 rw[OB];exact⟨.ref _,_,I.Zy (r.rep k.toNat) (by rw[len_rep,mI];exact hz),rfl,q _ I.fresh⟩
end
theorem Vals.ints:∀{ns}{us},Vals (ns.map V.int) us->IntsAre us ns
 |[],us,h=>by
  cases h;exact IntsAre.nil
 |n::ns,us,h=>by
  cases h with
  |cons r t=>
   obtain⟨k,rfl⟩:=r;exact IntsAre.cons n k (Vals.ints t)
theorem mQ:∀{us}{ns},IntsAre us ns->Vals (ns.map V.int) us
 |_,_,.nil=>by rw[CK];exact Paired.nil|_,_,.cons n t h=>by rw[aP];exact Paired.cons (show RelV (V.int n) (Value.int n t)from⟨t,rfl⟩) (mQ h)
def Vals.WN(r:Vals [V.ref a] us):us=[Value.ref a]:=by
 cases r with
 |cons r t=>
  cases t;cases r;rfl
section
def HY(K:PySem.W.Frag):V->List V->Hp->VK->Prop:=λx xs H Q=>∃(a:Addr) (ys:List V) (y:V) (j:Nat) (z:V),x=V.ref a/\xs=[y]/\aJ K H a ys/\gu y=true/\ys.all gu=true/\ys[j]?=some z/\HS z y=true/\
 (∀(m:Nat)(z':V),m<j->ys[m]?=some z'->HS z' y=false)/\Q (.int (j:Nat)) H
def Ke{ys:List V}(f:ys.all gu=true){z:V}(h:ys[j]?=some z):gu z=true:=all_eq_true.mp f z (bh h)
def OC:Ov X "list.index" (HY X.K):=by
 intro pins s σ H x xs v us Q I rx rxs h;obtain⟨a,ys,y,j,z,rfl,rfl,hs,fy,fys,hz,hzj,YK,q⟩:=h;cases rx;cases rxs with
 |cons ry rt=>
  rename_i uy ut;cases rt;obtain⟨aR,rv,⟨⟨cls,dd,data,sl⟩,n,ho,hc,hdn,hd⟩,hlen⟩:=I.list hs;simp only at hc hd;subst hc hd;obtain⟨u,hu,ru⟩:=rv.get hz;obtain⟨hjl,hje⟩:=List.getElem?_eq_some_iff.mp hu;have WO:=rv.length;have hj:j<aR.toArray.size:=‹hjl›
  have WQ:=cx;refine iw PySem.F.slot_list_index ⟨_,ho,rfl⟩ PySem.F.entry_list_index (PySem.F.args_list_index_2 _ _)
   (SeqAt.list_indexAt a aR.toArray n dd sl uy (Hy y) j hj () ?_ ?_) ⟨ho,λu' Kf=>lI ry fy rv fys u' ‹Kf›,?_⟩
  .have e1:aR.toArray[j]=u:=by simpa using hje
   rw[e1,C5 ru (Ke fys hz)];exact hzj
  .intro m hm hmj;have hml:m<aR.length:=by simpa using hm
   have hmy:m<ys.length:=by omega
   have Mf:=bg hmy;obtain⟨u2,Zz,ru2⟩:=rv.get Mf;obtain⟨_,hme⟩:=List.getElem?_eq_some_iff.mp Zz;have e1:aR.toArray[m]=u2:=‹hme›
   rw[e1,C5 ru2 (Ke fys Mf)];exact YK m _ hmj Mf
  .exact⟨.int (j:Nat),H,I.tok _,⟨_,rfl⟩,q⟩
end
mutual
inductive Dp(K:PySem.W.Frag)(H:Hp):V->PyData->Prop
 |cT:Dp K H .cT .none
 |bl (b:Bool):Dp K H (.bl b) (.bool b)
 |int (i:Int):Dp K H (.int i) (.int i)
 |str (x:Str):Dp K H (.str x) (.str x)
 |lst {a:Addr} {xs:List V} {ds:List PyData} :aJ K H a xs->yi K H xs ds->Dp K H (.ref a) (.list ds)
 |tup {a:Addr} {xs:List V} {ds:List PyData} :jF K H a xs->yi K H xs ds->Dp K H (.ref a) (.tuple ds)
inductive yi(K:PySem.W.Frag)(H:Hp):List V->List PyData->Prop
 |nil:yi K H [] []
 |cons {v:V} {vs:List V} {d:PyData} {ds:List PyData} :Dp K H v d->yi K H vs ds->yi K H (v::vs) (d::ds)
end
section
mutual
theorem Dp.reads(I:Inv X pins σ H s):∀(d:PyData)(v:V)(u:Value),Dp X.K H v d->RelV v u->∃as,Reads s.heap u d as
 |.none,_,_,h,r=>by
  cases h;cases r;exact⟨_,Reads.none⟩
 |.bool b,_,_,h,r=>by
  cases h;cases r;exact⟨_,Reads.bool b⟩
 |.int i,_,_,h,r=>by
  cases h;obtain⟨t,rfl⟩:=r;exact⟨_,Reads.int i t⟩
 |.str x,_,_,h,r=>by
  cases h;obtain⟨t,rfl⟩:=r;exact⟨_,Reads.str x t⟩
 |.list ds,_,_,h,r=>by
  cases h with
  |lst hs ha=>
   cases r;obtain⟨aR,rv,⟨o,n,ho,hc,_,hd⟩,_⟩:=I.list hs;obtain⟨as,hr⟩:=Dp.readsAll I ds _ aR ha rv;exact⟨_,Reads.list ho hc hd hr⟩
 |.tuple ds,_,_,h,r=>by
  cases h with
  |tup hs ha=>
   cases r;obtain⟨aR,rv,⟨o,ho,hc,n,hd⟩,_⟩:=I.tuple hs;obtain⟨as,hr⟩:=Dp.readsAll I ds _ aR ha rv;exact⟨_,Reads.tuple ho hc hd hr⟩
 |.dict _,_,_,h,_=>by cases h
theorem Dp.readsAll(I:Inv X pins σ H s):∀(ds:List PyData)(vs:List V)(us:List Value),yi X.K H vs ds->Vals vs us->∃as,ReadsAll s.heap us ds as
 |[],_,_,h,r=>by
  cases h;cases r;exact⟨_,ReadsAll.nil⟩
 |d::ds,_,_,h,r=>by
  cases h with
  |cons h1 h2=>
   cases r with
   |cons r1 r2=>
    obtain⟨as,q1⟩:=Dp.reads I d _ _ h1 r1;obtain⟨bs,q2⟩:=Dp.readsAll I ds _ _ h2 r2;exact⟨_,ReadsAll.cons q1 q2⟩
end
end
section
def ZA(K:PySem.W.Frag):R2:=λx y H Q=>∃d e,Dp K H x d/\Dp K H y e/\SeqAt.shaped d=true/\SeqAt.shaped e=true/\Q (.bl (PyData.eqv d e)) H
def WR(hu:X.A.units+64<cLine):ou X (compareOp .Eq) (ZA X.K):=by
 intro pins s σ H x y v u Q I rx ry h;obtain⟨d,e,hd,he,sd,se,q⟩:=h;obtain⟨as,r1⟩:=Dp.reads I d x v hd rx;obtain⟨bs,r2⟩:=Dp.reads I e y u he ry;exact SeqAt.compareEq_shaped r1 r2 sd se hu ⟨.bl _,H,I,rfl,q⟩
end
abbrev OD(h:Heap)(c:Addr)(v:Option Value):Prop:=h.IsCell c v
noncomputable def ac3(scope sc:Scope):Scope:=
 {scope with names:=scope.names.map λ(n,k)=>if(k==.free&&sc.kind==.function&&sc.names.lookup n==some .cell)then(n,.cell)else(n,k)}
noncomputable def cq(cells:List (Str×Addr)):List (Str×NameKind)->List (Str×Addr)->List (Str×Addr)
 |[],acc=>acc|(n,k)::r,acc=>if k==.free then cq cells r ((n,(cells.lookup n).getD 0)::acc)else cq cells r acc
theorem tu env f
  (hf:∀n k c,f (n,k) c=if k==.free then(do let a<-cellOf env n;pure (.yield ((n,a)::c)))else pure (.yield c)):
  ∀names acc,(∀y∈names,y.2=.free->∃c,env.cells.lookup y.1=some c)->forIn names acc f=pure (cq env.cells names acc)
 |[],acc,_=>by rw[forIn_nil];rfl
 |(n,k)::r,acc,h=>by
  rw[forIn_cons,hf];have ih:=λacc=>tu env f hf r acc λy hy=>h y (bE _ hy);unfold cq;by_cases hk:(k==NameKind.free)=true
  .rw[ah hk,ah hk];obtain⟨c,hc⟩:=h (n,k) bZ ‹hk›;have e:cellOf env n=pure c:=by unfold cellOf;rw[hc]
   rw[e];have e2:(env.cells.lookup n).getD 0=c:=by rw[hc];rfl
   rw[e2];exact ih _
  .rw[af hk,af hk];exact ih _
def HZ(h:∀y∈scope.names,y.2=.free->∃c,env.cells.lookup y.1=some c):closureFor scope env=pure (cq env.cells scope.names []):=by
 simp only[closureFor];rw[tu env _ (λn k c=>rfl) scope.names [] h];rfl
theorem mem_lookup:∀{l:List (Str×α)}{n}{c},(n,c)∈l->∃c',l.lookup n=some c'
 |(k,v)::r,n,c,h=>by
  rw[Sj];cases hb:n==k with
  |true=>exact⟨_,rfl⟩
  |false=>
   obtain e|h:=mem_cons.mp h
   .cases e;simp at hb
   .exact mem_lookup h
theorem ki:∀{names}{acc}{n}{c},(n,c)∈cq cells names acc->(n,c)∈acc\/((n,.free)∈names/\c=(cells.lookup n).getD 0)
 |[],_,_,_,h=>.inl h
 |(m,k)::r,acc,n,c,h=>by
  unfold cq at h;split at h
  .rename_i hk;have hk:k=.free:=by simpa using hk
   obtain h|⟨h1,h2⟩:=ki h
   .obtain e|h:=mem_cons.mp h
    .cases e;exact .inr ⟨hk▸bZ,rfl⟩
    .exact .inl h
   .exact .inr ⟨bE _ h1,h2⟩
  .obtain h|⟨h1,h2⟩:=ki h
   .exact .inl h
   .exact .inr ⟨bE _ h1,h2⟩
theorem ox:∀{names}{acc}{p},p∈acc->p∈cq cells names acc
 |[],_,_,h=>h
 |(m,k)::r,acc,p,h=>by
  unfold cq;split
  .exact ox (bE _ h)
  .exact ox h
theorem oy:∀{names}{acc}{n},(n,.free)∈names->(n,(cells.lookup n).getD 0)∈cq cells names acc
 |(m,k)::r,acc,n,h=>by
  unfold cq;obtain e|h:=mem_cons.mp h
  .cases e;exact ox bZ
  .split
   .exact oy h
   .exact oy h
theorem lJ:∀{names}{h:Heap}{acc}{x}{c},(x,c)∈cellsFrom h.objs.size names acc->
  (x,c)∈acc\/((x,.cell)∈names/\h.objs.size<=c/\OD (pushCells h names) c none)
 |[],_,_,_,_,h=>.inl h
 |(n,k)::r,h,acc,x,c,hm=>by
  unfold cellsFrom at hm;unfold pushCells;split at hm
  .rename_i hk;rw[ah hk];have hk:k=.cell:=by simpa using hk
   rw[<-dS h {cls:=.type "cell",data:=.cell none}]at hm;obtain hm|⟨h1,h2,h3⟩:=lJ hm
   .obtain e|hm:=mem_cons.mp hm
    .cases e;exact .inr ⟨hk▸bZ,aQ _,_,wN r _ _ _ (bq _ rfl),rfl⟩
    .exact .inl hm
   .rw[dS]at h2;exact .inr ⟨bE _ h1,wB h2,h3⟩
  .rename_i hk;rw[af hk];obtain hm|⟨h1,h2,h3⟩:=lJ hm
   .exact .inl hm
   .exact .inr ⟨bE _ h1,h2,h3⟩
theorem p6:∀{names}{n}{acc}{p},p∈acc->p∈cellsFrom n names acc
 |[],_,_,_,h=>h
 |(m,k)::r,n,acc,p,h=>by
  unfold cellsFrom;split
  .exact p6 (bE _ h)
  .exact p6 h
theorem uv:∀{names}{n}{acc}{x},(x,.cell)∈names->∃c,(x,c)∈cellsFrom n names acc
 |(m,k)::r,n,acc,x,h=>by
  unfold cellsFrom;obtain e|h:=mem_cons.mp h
  .cases e;exact⟨n,p6 bZ⟩
  .split
   .exact uv h
   .exact uv h
theorem uw:∀{names}{h:Heap}{acc:List (Str×Addr)}{x y}{c},(∀p∈acc,p.2<h.objs.size)->(∀x y c,(x,c)∈acc->(y,c)∈acc->x=y)->
  (x,c)∈cellsFrom h.objs.size names acc->(y,c)∈cellsFrom h.objs.size names acc->x=y
 |[],_,_,_,_,_,_,hi,h1,h2=>hi _ _ _ h1 h2
 |(n,k)::r,h,acc,x,y,c,hl,hi,h1,h2=>by
  unfold cellsFrom at h1 h2;split at h1
  .rename_i hk;rw[ah hk]at h2;rw[<-dS h {cls:=.type "cell",data:=.cell none}]at h1 h2;refine uw (λp hp=>?_) (λx y c a b=>?_) h1 h2
   .rw[dS];obtain rfl|hp:=mem_cons.mp hp
    .exact kC _
    .exact my (hl p hp)
   .obtain e|a:=mem_cons.mp a<;>rcases mem_cons.mp b with e'|b
    .cases e;cases e';rfl
    .cases e;exact absurd (hl _ b) (iT _)
    .cases e';exact absurd (hl _ a) (iT _)
    .exact hi _ _ _ a b
  .rename_i hk;rw[af hk]at h2;exact uw hl hi h1 h2
def Fo{code:Value}{Q:Env->Shared->Prop}(h:Q (newEnv scope s.heap.objs.size globals (cellsFrom (s.heap.objs.size+1) scope.names closure) qual func code (some around) builtins)
   {s with heap:=pushCells (s.heap.push {cls:=.type "dict",data:=.dict #[]}) scope.names}):
  wpAny M A (newFunctionEnv scope globals closure [] qual func code (some around) builtins) Q E s:=by
 simp only[newFunctionEnv,Option.isSome_some,if_true];refine aj (wpAny_alloc ?_);refine aj (wpAny_layCells _ (λn k c=>rfl) scope.names closure _ _ ?_);rw[show({s with heap:=s.heap.push {cls:=.type "dict",data:=.dict #[]}} :Shared).heap.objs.size=s.heap.objs.size+1 from dS ..];exact aj (ay (ay h))
theorem oz{sc:Scope}:∀{names:List (Str×NameKind)}{x}{k},
  (names.map λ(n,k)=>if(k==NameKind.free&&sc.kind==.function&&sc.names.lookup n==some .cell)then(n,NameKind.cell)else(n,k)).lookup x=some k->
  ∃k',names.lookup x=some k'/\(k=k'\/(k'=.free/\k=.cell))
 |[],_,_,h=>by simp at h
 |(n,k₀)::r,x,k,h=>by
  have ih:= @oz sc r x k;have h':List.lookup x ((if(k₀==NameKind.free&&sc.kind==.function&&sc.names.lookup n==some .cell)=true then(n,NameKind.cell)else(n,k₀))::(r.map _))=some k:=h;cases hx:x==n with
  |true=>
   simp only[lookup_cons,hx];by_cases hc:(k₀==NameKind.free&&sc.kind==.function&&sc.names.lookup n==some .cell)=true
   .rw[ah hc]at h';simp only[lookup_cons,hx]at h';cases h';simp only[Bool.and_eq_true,beq_iff_eq]at hc;exact⟨k₀,rfl,.inr ⟨hc.1.1,rfl⟩⟩
   .rw[af hc]at h';simp only[lookup_cons,hx]at h';cases h';exact⟨_,rfl,.inl rfl⟩
  |false=>
   simp only[lookup_cons,hx];by_cases hc:(k₀==NameKind.free&&sc.kind==.function&&sc.names.lookup n==some .cell)=true
   .rw[ah hc]at h';simp only[lookup_cons,hx]at h';exact ih h'
   .rw[af hc]at h';simp only[lookup_cons,hx]at h';exact ih h'
structure yj(N:List Str)(sc scope:Scope)(own:List (Str×Nat)):Prop where
 kind:scope.kind=.function
 uniq:∀y∈scope.names,scope.names.lookup y.1=some y.2
 ix:∀p∈own,N[p.2]?=some p.1
 free:∀y∈scope.names,y.2=.free->sc.names.lookup y.1=some .cell\/sc.names.lookup y.1=some .free
 own:∀y∈scope.names,y.2=.local\/y.2=.cell->y.1∈own.map (·.1)\/y.1∉N
noncomputable def wipe(σ:St):List Nat->St
 |[]=>σ|v::vs=>(wipe σ vs).set v none
theorem oA σ:∀vs:List Nat,(wipe σ vs).length=σ.length
 |[]=>rfl|v::vs=>by unfold wipe;rw[length_set,oA σ vs]
theorem ux{x:V}:∀{vs},(wipe σ vs)[i]?=some (some x)->σ[i]?=some (some x)/\i∉vs
 |[],h=>⟨h,by simp⟩
 |v::vs,h=>by
  unfold wipe at h;by_cases hi:v=i
  .subst hi;by_cases hv:v<(wipe σ vs).length
   .rw[getElem?_set_self hv]at h;cases h
   .rw[om ‹hv›]at h;cases h
  .rw[getElem?_set_ne hi]at h;obtain⟨h1,h2⟩:=ux h;exact⟨h1,by simp only[mem_cons,not_or];exact⟨λe=>hi e.symm,h2⟩⟩
noncomputable abbrev Cx.H_(X:Cx)(s:Shared)(H:Hp)(scope:Scope)(gg:Env)(fp:List Addr):Cx:= {X with wZ:=s,Zg:=H,env:=gg,outer:=X.stack,ex:=fp,fn:=λx=>scope.names.lookup x==some .cell,pn:=[],xe:=λ_ _=>False}
section
def Fp(I:Inv X pins σ H s)(ok:yj X.N X.env.scope scope own)(hN:X.N.Nodup)(YL:∀b∈fp,vN X pins H b/\b<s.heap.objs.size):
  Inv (X.H_ s H scope (compEnvC scope (cellsFrom (s.heap.objs.size+1) scope.names (cq X.env.cells scope.names [])) s.heap.objs.size X.env) fp) [] (wipe σ (own.map (·.2))) H {s with heap:=pushCells (s.heap.push {cls:=.type "dict",data:=.dict #[]}) scope.names} :=by
 have vg:∀y∈scope.names,y.2=.free->∃c,X.env.cells.lookup y.1=some c:=λy hy e=>by
  obtain k|k:=ok.free y hy e
  .exact I.ok.has _ (.inl k)
  .exact I.ok.has _ (.inr k)
 generalize Fq:compEnvC scope (cellsFrom (s.heap.objs.size+1) scope.names (cq X.env.cells scope.names [])) s.heap.objs.size X.env=gg;have kp:∀b o,s.heap.get? b=some o->(pushCells (s.heap.push {cls:=.type "dict",data:=.dict #[]}) scope.names).get? b=some o:=λb o e=>wN _ _ _ _ (bN _ e);have hL:gg.locals=s.heap.objs.size:=by rw[<-Fq];rfl
 have AF:gg.cells=cellsFrom (s.heap.objs.size+1) scope.names (cq X.env.cells scope.names []):=by rw[<-Fq];rfl
 have hsc:gg.scope=ac3 scope X.env.scope:=by rw[<-Fq];rfl
 rw[<-dS s.heap {cls:=.type "dict",data:=.dict #[]}]at AF;have cm:∀{y c},(y,c)∈cq X.env.cells scope.names []->X.env.cells.lookup y=some c/\c<s.heap.objs.size:=λ{y c} hm=>by
  obtain hm|⟨h1,rfl⟩:=ki hm
  .cases hm
  .obtain⟨c,hc⟩:=vg _ h1 rfl;rw[hc];obtain⟨w,z⟩:=I.cell _ _ hc;exact⟨rfl,z.lt⟩
 have mem:∀{y c},gg.cells.lookup y=some c->(X.env.cells.lookup y=some c/\c<s.heap.objs.size)\/(s.heap.objs.size+1<=c/\OD (pushCells (s.heap.push {cls:=.type "dict",data:=.dict #[]}) scope.names) c none):=λ{y c} e=>by
  rw[AF]at e;obtain hm|⟨_,h2,h3⟩:=lJ (fP e)
  .exact .inl (cm hm)
  .rw[dS]at h2;exact .inr ⟨h2,h3⟩
 have look:∀{y},scope.names.lookup y=some .free->∃c,gg.cells.lookup y=some c/\X.env.cells.lookup y=some c:=λ{y} hl=>by
  have hy:=fP hl;obtain⟨c',e'⟩:=mem_lookup (p6 (names:=scope.names) (oy (cells:=X.env.cells) (acc:=[]) hy));rw[<-AF]at e';refine⟨c',e',?_⟩;rw[AF]at e';obtain hm|⟨h1,_,_⟩:=lJ (fP e')
  .exact(cm hm).1
  .have:=ok.uniq _ h1;rw[hl]at this;cases this
 have okB:(X.H_ s H scope gg fp).Ok:=by
  refine⟨I.ok.mod,by show gg.scope.kind=_;rw[hsc];exact ok.kind,by show gg.globals=_;rw[<-Fq];exact I.ok.glob,by show gg.builtins=_;rw[<-Fq];exact I.ok.blt,by show s.heap.objs.size<=gg.locals;rw[hL];exact aQ _,
   λy z c e1 e2=>?_,λy hy=>?_,λy c z e=>?_,I.ok.hd,I.ok.frames,.inl rfl,λb hb=>⟨?_,λy c e z=>?_⟩,I.bs,aW I.ok.LX I.sz,λb o e hb=>?_,λb hb z=>?_,I.stack,I.CO⟩
  .have e1:=e1;have e2:=e2;rw[AF]at e1 e2;refine uw (λp hp=>?_) (λy z c a b=>I.ok.inj y z c (cm a).1 (cm b).1) (fP e1) (fP e2);rw[dS];exact my (cm (c:=p.2) hp).2
  .show∃c,gg.cells.lookup y=some c;have key:∀k,gg.kindOf y=some k->(k=.cell\/k=.free)->∃c,gg.cells.lookup y=some c:=λk hk sf=>by
    unfold Env.kindOf at hk;rw[hsc]at hk;obtain⟨k',e,r⟩:=oz hk;have:k'=.cell\/k'=.free:=by
     obtain rfl|⟨rfl,_⟩:=r
     .exact sf
     .exact .inr rfl
    obtain rfl|rfl:=this
    .obtain⟨c,hm⟩:=uv (acc:=cq X.env.cells scope.names []) (fP e);obtain⟨c',e'⟩:=mem_lookup hm;exact⟨c',by rw[AF];exact e'⟩
    .obtain⟨c,h1,_⟩:=look e;exact⟨c,h1⟩
   obtain hy|hy:=hy
   .exact key _ hy (.inl rfl)
   .exact key _ hy (.inr rfl)
  .have z:=z;have z:scope.names.lookup y=some .cell:=by simpa using z
   have e:=e;rw[AF]at e;obtain hm|⟨_,h2,_⟩:=lJ (fP e)
   .obtain hm|⟨h1,_⟩:=ki hm
    .cases hm
    .have q:=ok.uniq _ h1;rw[z]at q;cases q
   .rw[dS]at h2;exact wB h2
  .show b≠gg.locals;rw[hL];exact bx (YL b hb).2
  .have e:=e;obtain⟨h1,_⟩|⟨h1,_⟩:=mem e
   .exact(YL b hb).1.2.2.2.2.1 y c h1 z
   .have h2:s.heap.objs.size+1<=b:=by rw[<-z];exact h1
    exact absurd (dR (YL b hb).2 (wB h2)) (iT _)
  .obtain z|z:=(YL b hb).1.2.2.2.1
   .exact I.ok.HE b o e z
   .exact absurd (dR (aO e) (aW I.ok.LX z)) (iT _)
  .obtain z|z:=mem_cons.mp (I.CM b z)
   .exact(YL b hb).1.2.1 z
   .exact(YL b hb).1.2.2.1 z
 refine⟨okB,rfl,I.bare,Un.kept kp,⟨λ_=>none,?_,λi y av e1 e2 e3=>?_⟩,λy c e=>?_,?_,λy c e=>?_,λp hp=>?_,I.bQ.kept kp,by rw[oA];exact I.len⟩
 .show Heap.Ns _ gg.locals _;rw[hL];exact Heap.Ns.keeps (Heap.Ns.new ..) λb o e=>wN _ _ _ _ e
 .obtain⟨e2,iB⟩:=ux e2;have E2:scope.names.lookup y=some .free/\(gg.kindOf y=some .cell\/gg.kindOf y=some .free):=by
   have key:∀k,gg.scope.names.lookup y=some k->k=.local\/k=.cell\/k=.free->scope.names.lookup y=some .free/\(gg.kindOf y=some .cell\/gg.kindOf y=some .free):=λk hk sf=>by
    have hk0:=hk;rw[hsc]at hk;obtain⟨k',e,r⟩:=oz hk;have no:¬(k'=.local\/k'=.cell):=λhh=>by
     obtain e'|e':=ok.own _ (fP e) hh
     .obtain⟨p,hp,RQ⟩:=mem_map.mp e';have e3:=ok.ix p hp;have:=RQ;rw[this]at e3;exact iB (mem_map.mpr ⟨p,hp,xU hN e3 e1⟩)
     .exact e' (bh e1)
    obtain rfl|⟨rfl,rfl⟩:=r
    .obtain rfl|rfl|rfl:=sf
     .exact absurd (.inl rfl) no
     .exact absurd (.inr rfl) no
     .exact⟨e,.inr hk0⟩
    .exact⟨e,.inl hk0⟩
   have e3:=e3;obtain e3|e3|e3:=e3
   .exact key _ e3 (.inl rfl)
   .exact key _ e3 (.inr (.inl rfl))
   .exact key _ e3 (.inr (.inr rfl))
  obtain⟨m,hn,hl⟩:=I.loc;have ac4:Zh X.env.scope y:=(ok.free _ (fP E2.1) rfl).elim (λk=>.inr (.inl k)) (λk=>.inr (.inr k));obtain⟨w,r,q⟩:=hl i y av e1 e2 ac4;refine⟨w,r,.inr ⟨E2.2,?_⟩⟩;obtain⟨c,h1,h2⟩:=look E2.1;obtain⟨k,_⟩|⟨_,c',e',z⟩:=q
  .have k:X.env.scope.names.lookup y=some .local:=k;obtain k'|k':=ok.free _ (fP E2.1) rfl<;>rw[show X.env.scope.names.lookup y=_ from k']at k<;>cases k
  .rw[h2]at e';cases e';exact⟨c,h1,z.keeps kp⟩
 .have e:=e;obtain⟨h1,_⟩|⟨_,z⟩:=mem e
  .obtain⟨w,z⟩:=I.cell y c h1;exact⟨w,z.keeps kp⟩
  .exact⟨_,z⟩
 .show H gg.locals=none;rw[hL];exact I.bQ.fresh (aQ _)
 .have e:=e;obtain⟨h1,_⟩|⟨h1,_⟩:=mem e
  .exact I.iG y c h1
  .exact I.bQ.fresh (wB h1)
 .exact absurd (show p∈([]:List (Addr×Obj))++ []from hp) ∅
def WT{v:Value}(I:Inv X pins σ H s)(hD:H D=some (.lst xs))(hz:xs.length<sizeLine)(r:RelV y v)(h:∀s',Inv X pins σ (upd H D (.lst (xs++ [y]))) s'->Q .none s'):wpAny (model X.prog X.w) X.A (call (.builtin "list.append") [.ref D,v]) Q E s:=by
 obtain⟨E3,aR,n,ri,e⟩:=I.bQ D _ hD;have hl:=ri.length;refine append_at e λh' sb w6=>?_;refine h {s with heap:=h'} (I.write (by rw[hD];trivial) (.inl rfl) (λb u hb q=>(sb.2 b hb).trans q) ⟨_,w6⟩ ⟨by rw[dr];exact hz,aR++ [v],n+1,ri.append (.cons r .nil),?_⟩);rw[w6];simp
def WU(X:Cx)(ifs:List Expr)(t:TT):Prop:=
 ∀(pins:List (Addr×Obj))(s:Shared)(σ:St)(H:Hp)(Q:Bool->Hp->Prop),Inv X pins σ H s->t σ H Q->
  wpAny (model X.prog X.w) X.A (forIn ifs true λc r=>if r=true then do let ok<-isTrue c X.env (eval c X.env);pure (ForInStep.yield ok)else pure (ForInStep.yield r)) (TP X pins σ Q) X.xe s
def Fs:TT:=λ_ H Q=>Q true H
def da:WU X [] Fs:=λ_ _ _ H _ I h=>wpAny_tests_nil ⟨H,I,h⟩
def tD{c:Expr}{t:TT}(h:PT X c t):WU X [c] t:=λpins s σ H Q I hw=>wpAny_tests_one (h pins s σ H Q I hw)
end
def WV{t:Sem α}{Q Q':α->Shared->Prop}(h:wpAny M A t Q (λ_ _=>False) s)(hQ:∀a s,Q a s->Q' a s):wpAny M A t Q' E s:=c5 h hQ λ_ _ z=>False.elim z
def C6{it acc:Value}(I:Nat->Shared->Prop)(turn:∀n s,I n s->wpAny (model prog w) A (pyNext it) (λr s₁=>match r with
   |none=>R (.ok .next) s₁
   |some v=>wpAny (model prog w) A (letOwnedTupleGo target it v) (λ_ s₁'=>wpAny (model prog w) A (assign target env v) (λ_ s₂=>
     wpAny (model prog w) A (forIn ifs true λc r=>if r=true then do let ok<-isTrue c env (eval c env);pure (ForInStep.yield ok)else pure (ForInStep.yield r)) (λok s₃=>
      if ok=true then wpAny (model prog w) A (eval elt env) (λx s₄=>
       wpAny (model prog w) A (call (.builtin "list.append") [acc,x]) (λ_ s₅=>∃m,m<n/\I m s₅) (notedBy (model prog w) A env λe s'=>R (.error e) s') s₄) (notedBy (model prog w) A env λe s'=>R (.error e) s') s₃
      else∃m,m<n/\I m s₃) (notedBy (model prog w) A env λe s'=>R (.error e) s') s₂) (notedBy (model prog w) A env λe s'=>R (.error e) s') s₁') (notedBy (model prog w) A env λe s'=>R (.error e) s') s₁) (notedBy (model prog w) A env λe s'=>R (.error e) s') s)
   n (h:I n s):
  codeAny (model prog w) A (.compLoop (.ListComp elt [⟨target,iter,ifs,0⟩] scope pos) 0 it acc env) R s:=by
 refine codeAny_loop rfl I (λn s hI=>?_) n h;refine wpAny_noted ?_;refine aj (wpAny_standAt (aj (c5 (turn n s hI) (λr s₁ h₁=>?_) λ_ _ h'=>h')));cases r with
 |none=>exact ay h₁
 |some v=>
  refine aj (c5 h₁ (λ_ s₁' h₁'=>?_) λ_ _ h'=>h');refine aj (c5 h₁' (λ_ s₂ h₂=>aj (c5 h₂ (λok s₃ h₃=>?_) λ_ _ h'=>h')) λ_ _ h'=>h');cases ok with
  |false=>exact ay ⟨rfl,h₃⟩
  |true=>
   exact aj (aj (c5 h₃ (λx s₄ h₄=>aj (c5 h₄ (λ_ s₅ h₅=>ay (ay ⟨rfl,h₅⟩)) λ_ _ h'=>h')) λ_ _ h'=>h'))
section
def YM(wi:TI)(g:TG)(tt:TT)(te:TE)(vs:List Nat):TE:=λσ H Q=>wi σ H λJ H1=>∀D,H1 D=none->∃W:Nat->Nat->Hp->Prop,(∃m,W 0 m (upd H1 D (.lst [])))/\∀i m H,W i m H->
 (J.stop i H/\Q (.ref D) H)\/(J.go i H/\∃Nx:Hp->Prop,(∀H',Nx H'->∃m',m'<m/\W (i+1) m' H')/\∀x H',J.E1 i H x H'->g x (wipe σ vs) H' λσ2 H2=>wipe σ2 vs=wipe σ vs/\tt σ2 H2 λb H3=>
  if b=true then te σ2 H3 λy H4=>∃acc,H4 D=some (.lst acc)/\acc.length<sizeLine/\Nx (upd H4 D (.lst (acc++ [y])))else Nx H3)
def tE{y:Str}{l:Nat}(hk:env.scope.kind=.function)(hy:env.scope.names.lookup y=some .local)(hl:(py.line==pos.line)=true)(ha:(scope.names.any λ(n,k)=>n==y&&(k==.local||k==.cell))=false):swapsWith (.ListComp elt gs scope pos) (some (.Name y py)) l env=pure true:=by
 have ky:env.kindOf y=some .local:=hy;have hb:env.blockKind=.function:=by unfold Env.blockKind;rw[hk];rfl
 unfold swapsWith;have hp:(Expr.ListComp elt gs scope pos).pos=pos:=rfl;have hq:(Expr.Name y py).pos=py:=rfl;simp only[hb,ky,ha,hp,hq,hl];rfl
end
def Ft{lo:Int}{vs:List Nat}(Pv:Nat->Hp->Prop)(h0:Pv 0 (upd H1 D (.lst [])))(hs:∀i H,i<n->Pv i H->g (.int (lo+i)) (wipe σ vs) H λσ2 H2=>wipe σ2 vs=wipe σ vs/\tt σ2 H2 λb H3=>
   if b=true then te σ2 H3 λy H4=>∃acc,H4 D=some (.lst acc)/\acc.length<sizeLine/\Pv (i+1) (upd H4 D (.lst (acc++ [y])))else Pv (i+1) H3)(hd:∀H,Pv n H->Qd H):
  ∃W:Nat->Nat->Hp->Prop,(∃m,W 0 m (upd H1 D (.lst [])))/\∀i m H,W i m H->
   ((RO lo n).stop i H/\Qd H)\/((RO lo n).go i H/\∃Nx:Hp->Prop,(∀H',Nx H'->∃m',m'<m/\W (i+1) m' H')/\∀x H',(RO lo n).E1 i H x H'->g x (wipe σ vs) H' λσ2 H2=>wipe σ2 vs=wipe σ vs/\tt σ2 H2 λb H3=>
    if b=true then te σ2 H3 λy H4=>∃acc,H4 D=some (.lst acc)/\acc.length<sizeLine/\Nx (upd H4 D (.lst (acc++ [y])))else Nx H3):=by
 refine⟨λi m H=>m=n-i/\i<=n/\Pv i H,⟨n,by simp,cv _,h0⟩,?_⟩;rintro i m H ⟨rfl,hi,p⟩;by_cases eK:i<n
 .refine .inr ⟨eK,Pv (i+1),λH' p'=>⟨n-(i+1),by omega,rfl,eK,p'⟩,λx H' y=>?_⟩;obtain⟨e,y⟩:=y;subst e y;exact hs i _ eK p
 .have e:i=n:=by omega
  subst e;exact .inl ⟨aQ _,hd H p⟩
def SV{vs:List Nat}(Pv:Nat->Hp->Prop)(h0:Pv 0 (upd H1 D (.lst [])))(hl:∀i H,i<=xs.length->Pv i H->aJ K H a xs)(hs:∀i x H,xs[i]?=some x->Pv i H->g x (wipe σ vs) H λσ2 H2=>wipe σ2 vs=wipe σ vs/\tt σ2 H2 λb H3=>
   if b=true then te σ2 H3 λy H4=>∃acc,H4 D=some (.lst acc)/\acc.length<sizeLine/\Pv (i+1) (upd H4 D (.lst (acc++ [y])))else Pv (i+1) H3)(hd:∀H,Pv xs.length H->Qd H):
  ∃W:Nat->Nat->Hp->Prop,(∃m,W 0 m (upd H1 D (.lst [])))/\∀i m H,W i m H->
   ((Og K a).stop i H/\Qd H)\/((Og K a).go i H/\∃Nx:Hp->Prop,(∀H',Nx H'->∃m',m'<m/\W (i+1) m' H')/\∀x H',(Og K a).E1 i H x H'->g x (wipe σ vs) H' λσ2 H2=>wipe σ2 vs=wipe σ vs/\tt σ2 H2 λb H3=>
    if b=true then te σ2 H3 λy H4=>∃acc,H4 D=some (.lst acc)/\acc.length<sizeLine/\Nx (upd H4 D (.lst (acc++ [y])))else Nx H3):=by
 refine⟨λi m H=>m=xs.length-i/\i<=xs.length/\Pv i H,⟨xs.length,by simp,cv _,h0⟩,?_⟩;rintro i m H ⟨rfl,hi,p⟩;have q:=hl i H hi p;by_cases eK:i<xs.length
 .refine .inr ⟨⟨xs,xs[i],q,by simp[eK]⟩,Pv (i+1),λH' p'=>⟨xs.length-(i+1),by omega,rfl,eK,p'⟩,λx H' y=>?_⟩;obtain⟨e,y⟩:=y;subst e;exact hs i x _ (y xs q) p
 .have e:i=xs.length:=by omega
  subst e;exact .inl ⟨⟨xs,q,aQ _⟩,hd H p⟩
noncomputable def ZC(N:List Str)(sc scope:Scope)(own:List (Str×Nat)):Bool:=
 (match scope.kind with|.function=>true|_=>false)&&(scope.names.all λy=>decide (scope.names.lookup y.1=some y.2))&&(own.all λp=>decide (N[p.2]?=some p.1))&&
  (scope.names.all λy=>match y.2 with
   |.free=>(match sc.names.lookup y.1 with|some .cell=>true|some .free=>true|_=>false)
   |.local=>decide (y.1∈own.map (·.1))||decide (y.1∉N)
   |.cell=>decide (y.1∈own.map (·.1))||decide (y.1∉N)
   |_=>true)
def bL(h:ZC N sc scope own=true):yj N sc scope own:=by
 unfold ZC at h;simp only[Bool.and_eq_true,all_eq_true,decide_eq_true_eq]at h;obtain⟨⟨⟨h1,h2⟩,h3⟩,h4⟩:=h;refine⟨?_,h2,h3,λy hy e=>?_,λy hy e=>?_⟩
 .split at h1
  .assumption
  .cases h1
 .have q:=h4 y hy;simp only[e]at q;split at q<;>first|exact .inl (by assumption)|exact .inr (by assumption)|cases q
 .have q:=h4 y hy;obtain e|e:=e<;>(simp only[e,Bool.or_eq_true,decide_eq_true_eq]at q;exact q)
section
variable {κ:Type} [DecidableEq κ]
noncomputable def eQ(kvs:List (κ×V))(k:κ):Option V:=(kvs.find? λkv=>decide (kv.1=k)).map (·.2)
noncomputable def putK(kvs:List (κ×V))(k:κ)(v:V):List (κ×V):=
 if(kvs.any λkv=>decide (kv.1=k))=true then kvs.map (λkv=>if kv.1=k then(kv.1,v)else kv)else kvs++ [(k,v)]
theorem cy{r:List (κ×V)}(e:p.1=k):eQ (p::r) k=some p.2:=by simp[eQ,find?_cons,e]
def cz{r:List (κ×V)}(e:¬p.1=k):eQ (p::r) k=eQ r k:=by simp[eQ,find?_cons,e]
theorem tF k:∀kvs:List (κ×V),(kvs.any λkv=>decide (kv.1=k))=(eQ kvs k).isSome
 |[]=>rfl
 |p::r=>by
  rw[any_cons];by_cases e:p.1=k
  .simp only[cy e,decide_eq_true e,Bool.true_or,Option.isSome_some]
  .rw[cz e,cR e,JZ];exact tF k r
theorem Fu k j y:∀kvs:List (κ×V),eQ (kvs.map λkv=>if kv.1=k then(kv.1,y)else kv) j=(eQ kvs j).map λx=>if j=k then y else x
 |[]=>rfl
 |p::r=>by
  have ih:=Fu k j y r;rw[aP];by_cases h:p.1=k
  .rw[ah h];by_cases e:p.1=j
   .rw[cy (p:=(p.1,y)) e,cy e,CF,ah (e.symm.trans h)]
   .rw[cz (p:=(p.1,y)) e,cz e,ih]
  .rw[af h];by_cases e:p.1=j
   .rw[cy e,cy e,CF,af (λz=>h (e.trans z))]
   .rw[cz e,cz e,ih]
theorem Bw k j y:∀kvs:List (κ×V),eQ kvs k=none->eQ (kvs++ [(k,y)]) j=if j=k then some y else eQ kvs j
 |[],_=>by
  by_cases e:k=j
  .rw[ah e.symm];exact cy e
  .rw[af (λz=>e z.symm)];exact cz e
 |p::r,hn=>by
  rw[cons_append];have hk:¬p.1=k:=λz=>by rw[cy z]at hn;cases hn
  rw[cz hk]at hn;have ih:=Bw k j y r hn;by_cases e:p.1=j
  .rw[cy e,cy e,af (λz=>hk (e.trans z))]
  .rw[cz e,cz e,ih]
def Fv(kvs:List (κ×V)) k j y:eQ (putK kvs k y) j=if j=k then some y else eQ kvs j:=by
 unfold putK;by_cases a:(kvs.any λkv=>decide (kv.1=k))=true
 .rw[ah a,Fu];rw[tF]at a;by_cases e:j=k
  .obtain⟨x,hx⟩:=Option.isSome_iff_exists.mp a;rw[ah e,e,hx,CF,ah rfl]
  .rw[af e];cases eQ kvs j with
   |none=>rfl|some x=>rw[CF,af e]
 .rw[af a];refine Bw k j y kvs ?_;rw[tF]at a;cases q:eQ kvs k with
  |none=>rfl|some x=>rw[q]at a;exact(a rfl).elim
def oB(kvs:List (κ×V)) k v:(putK kvs k v).length<=kvs.length+1:=by
 unfold putK;split
 .rw[az];omega
 .rw[dr,aY,pE];omega
def uj.p_{o:Option V}{u:Option Value}(r:uj o u):o.isSome=u.isSome:=by
 cases o with
 |none=>cases u with
  |none=>rfl|some _=>exact(show False from r).elim
 |some _=>cases u with
  |none=>exact(show False from r).elim
  |some _=>rfl
theorem uj.getD{o:Option V}{u:Option Value}(r:uj o u)(rd:RelV d d'):RelV (o.getD d) (u.getD d'):=by
 cases o with
 |none=>cases u with
  |none=>exact rd|some _=>exact(show False from r).elim
 |some _=>cases u with
  |none=>exact(show False from r).elim
  |some _=>exact r
def KV.val{kvs:List (κ×V)}{vs:List (κ×Value)}(r:KV kvs vs) k:uj (eQ kvs k) (valueAt vs k):=by
 induction r with
 |nil=>exact True.intro
 |@cons p q ps qs h t ih=>
  obtain⟨h1,h2⟩:=h;by_cases e:p.1=k
  .have e':=h1.symm.trans e;have b:valueAt (q::qs) k=some q.2:=by simp[valueAt,find?_cons,e']
   rw[cy e,b];exact h2
  .have e':¬q.1=k:=λz=>e (h1.trans z);have b:valueAt (q::qs) k=valueAt qs k:=by simp[valueAt,find?_cons,e']
   rw[cz e,b];exact ih
theorem KV.any{kvs:List (κ×V)}{vs:List (κ×Value)}(r:KV kvs vs) k:(kvs.any λkv=>decide (kv.1=k))=vs.any λkv=>decide (kv.1=k):=by
 induction r with
 |nil=>rfl|cons h t ih=>rw[any_cons,any_cons,ih,h.1]
def KV.repl{kvs:List (κ×V)}{vs:List (κ×Value)}(r:KV kvs vs) k (ry:RelV y u):
  KV (kvs.map λkv=>if kv.1=k then(kv.1,y)else kv) (vs.map λkv=>if kv.1=k then(kv.1,u)else kv):=by
 induction r with
 |nil=>exact .nil
 |@cons p q ps qs h t ih=>
  rw[aP,aP];refine .cons ?_ ih;obtain⟨h1,h2⟩:=h;by_cases e:p.1=k
  .rw[ah e,ah (h1.symm.trans e)];exact⟨h1,ry⟩
  .rw[af e,af (λz=>e (h1.trans z))];exact⟨h1,h2⟩
theorem KV.put{kvs:List (κ×V)}{vs:List (κ×Value)}(r:KV kvs vs) k (ry:RelV y u):KV (putK kvs k y) (stored vs k u):=by
 unfold putK stored;rw[r.any k];by_cases e:(vs.any λkv=>decide (kv.1=k))=true
 .rw[ah e,ah e];exact r.repl k ry
 .rw[af e,af e];exact j9 r ⟨rfl,ry⟩
theorem KV.length{kvs:List (κ×V)}{vs:List (κ×Value)}(r:KV kvs vs):kvs.length=vs.length:=Paired.length r
end
def vk(r:RelV (kV k) u):(bI P w).is k u=true:=by
 cases k with
 |inl i=>obtain⟨t,e⟩:=(show∃t,u=Value.int i t from r);subst e;exact E7 P w i t
 |inr x=>obtain⟨t,e⟩:=(show∃t,u=Value.str x t from r);subst e;exact E8 P w x t
theorem Bx:∀{ks}{us},Vals (ks.map kV) us->ItemsAre (bI P w) ks us
 |[],_,r=>by rw[CK]at r;cases r;exact .nil
 |k::ks,_,r=>by
  cases r with
  |cons h t=>exact .cons (vk h) (Bx t)
abbrev KT(H:Hp):List (List Key×V)->List (List Key×Addr×Value)->Prop:=Paired λp q=>p.1=q.1/\H q.2.1=some (.tup (p.1.map kV))/\RelV p.2 q.2.2
def KT.val{kvs:List (List Key×V)}{xs:List (List Key×Addr×Value)}(r:KT H kvs xs) k:uj (eQ kvs k) ((atKey xs k).map (·.2)):=by
 induction r with
 |nil=>exact True.intro
 |@cons p q ps qs h t ih=>
  obtain⟨h1,_,h2⟩:=h;by_cases e:p.1=k
  .have e':=h1.symm.trans e;have b:atKey (q::qs) k=some q.2:=by simp[atKey,find?_cons,e']
   rw[cy e,b];exact h2
  .have e':¬q.1=k:=λz=>e (h1.trans z);have b:atKey (q::qs) k=atKey qs k:=by simp[atKey,find?_cons,e']
   rw[cz e,b];exact ih
def KT.repl{kvs:List (List Key×V)}{xs:List (List Key×Addr×Value)}(r:KT H kvs xs) k (ry:RelV y u):
  KT H (kvs.map λkv=>if kv.1=k then(kv.1,y)else kv) (xs.map (putAt k u)):=by
 induction r with
 |nil=>exact .nil
 |@cons p q ps qs h t ih=>
  rw[aP,aP];refine .cons ?_ ih;obtain⟨h1,h2,h3⟩:=h;unfold putAt;by_cases e:p.1=k
  .rw[ah e,ah (h1.symm.trans e)];exact⟨h1,h2,ry⟩
  .rw[af e,af (λz=>e (h1.trans z))];exact⟨h1,h2,h3⟩
theorem KT.put{kvs:List (List Key×V)}{xs:List (List Key×Addr×Value)}(r:KT H kvs xs) k (hb:H b=some (.tup (k.map kV))) (ry:RelV y u):
  KT H (putK kvs k y) (storedH xs k b u):=by
 have e:(kvs.any λkv=>decide (kv.1=k))=(atKey xs k).isSome:=by
  rw[tF,(r.val k).p_,Option.isSome_map]
 unfold putK storedH;rw[e];by_cases q:(atKey xs k).isSome=true
 .rw[ah q,ah q];exact r.repl k ry
 .rw[af q,af q];exact j9 r ⟨rfl,hb,ry⟩
def KT.keeps{kvs:List (List Key×V)}{xs:List (List Key×Addr×Value)}(r:KT H kvs xs)(ht:∀b ys,H b=some (.tup ys)->H' b=some (.tup ys)):KT H' kvs xs:=
 Paired.fR r λ_ _ z=>⟨z.1,ht _ _ z.2.1,z.2.2⟩
section
def Va{u:HO}(ok:mO P w H h)(e:Rd H a u):dB P w H h a u:=e.ok ok
def Kg(ok:mO P w H h)(e:Rd H a (.dK kvs)):kvs.length<=sizeLine/\(a==sysModules)=false/\∃vs,KV kvs vs/\h.DictOf (bI P w) a vs:=
 show dB P w H h a (.dK kvs)from Va ok e
def ZD(ok:mO P w H h)(e:H a=some (.dK kvs)):kvs.length<=sizeLine/\(a==sysModules)=false/\∃vs,KV kvs vs/\h.DictOf (bI P w) a vs:=Kg ok (.inl e)
def C7{ks:List Key}(ok:mO P w H h)(e:H a=some (.tup (ks.map kV))):(tupleKind (bI P w)).is h ks a:=by
 obtain⟨_,aR,r,o,h1,h2,n,h3⟩:=(show dB P w H h a (.tup (ks.map kV))from ok a _ e);exact⟨o,aR.toArray,n,h1,h2,h3,‹Bx r›⟩
def Kh{kvs:List (List Key×V)}(ok:mO P w H h)(e:Rd H a (.dT kvs)):kvs.length<=sizeLine/\(a==sysModules)=false/\
  ∃xs,KT H kvs xs/\h.DictOfH (tupleKind (bI P w)) a xs:=by
 obtain⟨z,y,xs,r,o,es,ep,h1,h2,h3,h4,h5⟩:=(show dB P w H h a (.dT kvs)from Va ok e);refine⟨z,y,xs,r,o,es,ep,h1,h2,h3,h4,λx hx=>?_,h5⟩;have all:∀{l:List (List Key×V)}{m:List (List Key×Addr×Value)},KT H l m->∀x∈m,(tupleKind (bI P w)).is h x.1 x.2.1:=by
  intro l m q
  induction q with
  |nil=>intro x hx;exact nomatch hx
  |@cons p q ps qs hq t ih=>
   intro x hx;obtain e|hx:=mem_cons.mp hx
   .subst e;exact C7 ok (by rw[<-hq.1];exact hq.2.1)
   .exact ih x hx
 exact all r x hx
def ZE{kvs:List (List Key×V)}(ok:mO P w H h)(e:H a=some (.dT kvs)):kvs.length<=sizeLine/\(a==sysModules)=false/\
  ∃xs,KT H kvs xs/\h.DictOfH (tupleKind (bI P w)) a xs:=Kh ok (.inl e)
end
def uz(H:Hp)(a:Addr)(y:V)(r:Option V):Prop:=
 (∃kvs k,Rd H a (.dK kvs)/\y=kV k/\r=eQ kvs k)\/∃kvs k b,Rd H a (.dT kvs)/\y=.ref b/\H b=some (.tup (k.map kV))/\r=eQ kvs k
def Ia(H:Hp)(a:Addr)(y v:V)(H':Hp):Prop:=
 (∃kvs k,H a=some (.dK kvs)/\y=kV k/\kvs.length<sizeLine/\H'=upd H a (.dK (putK kvs k v)))\/
 ∃kvs k b,H a=some (.dT kvs)/\y=.ref b/\H b=some (.tup (k.map kV))/\kvs.length<sizeLine/\H'=upd H a (.dT (putK kvs k v))
theorem uz.k{k:Key}(e:H a=some (.dK kvs)):uz H a (kV k) (eQ kvs k):=.inl ⟨kvs,k,.inl e,rfl,rfl⟩
theorem Ia.k{k:Key}(e:H a=some (.dK kvs))(hl:kvs.length<sizeLine):Ia H a (kV k) v (upd H a (.dK (putK kvs k v))):=.inl ⟨kvs,k,e,rfl,hl,rfl⟩
section
variable {r:Value} {o:Option V}
def Inv.big(I:Inv X pins σ H s):sysModules<s.heap.objs.size:=by
 have h:=(I.mod.glob.keeps I.bk).lt;exact Nat.lt_trans ⋯ h
def SW(hu:A.units+1<cLine)(I:Inv X pins σ H s)(g:uz H a y o)(ry:RelV y u)(h:∀s',Inv X pins σ H s'->Q (.bool (!o.isSome)) s'):
  wpAny (model X.prog X.w) A (compareOp .NotIn u (.ref a)) Q E s:=by
 obtain⟨kvs,k,e,ey,l⟩|⟨kvs,k,b,e,ey,eb,l⟩:=g
 .subst ey;obtain⟨z,hd,vs,rel,dd⟩:=Kg I.bQ e;refine wpAny_notIn_of (vk ry) hd dd.mapOf ?_;rw[<-(rel.val k).p_,<-l];exact h _ (I.tok _)
 .subst ey;cases(show u=Value.ref b from ry);obtain⟨z,hd,xs,rel,dd⟩:=Kh I.bQ e;refine wpAny_notIn_heap (tupleKind_room_in1 hu) (C7 I.bQ eb) hd dd ?_;have q:=(rel.val k).p_;rw[Option.isSome_map]at q;rw[<-q,<-l];exact h _ (I.tok _)
def Ki(I:Inv X pins σ H s)(mu:Ze (H a))(hs:Heap.SameBut a s.heap h')(he:∃q,h'.get? a=some q)(new:dB X.prog X.w (upd H a ob) h' a ob):
  Inv X pins σ (upd H a ob) {s with heap:=h',toks:=t'} :=
 I.write (e:=a) mu (.inl rfl) (λb q hb z=>(hs.2 b hb).trans z) he new
def WW{vs:List (Key×Value)}(z:kvs.length<=sizeLine)(hd:(a==sysModules)=false)(rel:KV kvs vs)(dd:h'.DictOf (bI P w) a vs):
  dB P w H' h' a (.dK kvs):=⟨z,hd,vs,rel,dd⟩
def Mg{Q:Unit->Shared->Prop}(hu:A.units+1<cLine)(I:Inv X pins σ H s)(g:Ia H a y v H')(ry:RelV y u)(rv:RelV v r)(h:∀s',Inv X pins σ H' s'->Q Unit.unit s'):
  wpAny (model X.prog X.w) A (setItem (.ref a) u r) Q E s:=by
 obtain⟨kvs,k,e,ey,l,eH⟩|⟨kvs,k,b,e,ey,eb,l,eH⟩:=g
 .subst ey eH;obtain⟨z,hd,vs,rel,dd⟩:=ZD I.bQ e;have hz:vs.length<=sizeLine:=by rw[<-rel.length];exact z
  have hl:(putK kvs k v).length<=sizeLine:=by have:=oB kvs k v;omega
  refine wpAny_setItem_pairs (vk ry) dd λh' dd' hs=>h _ ?_;have he:∃q,h'.get? a=some q:=let⟨q,_,_,hq,_⟩:=dd';⟨q,hq⟩;exact Ki I (by rw[e];exact True.intro) hs he (WW hl hd (rel.put k rv) dd')
 .subst ey eH;cases(show u=Value.ref b from ry);obtain⟨z,hd,xs,rel,dd⟩:=ZE I.bQ e;have hz:xs.length<=sizeLine:=by rw[<-Paired.length rel];exact z
  have hl:(putK kvs k v).length<=sizeLine:=by have:=oB kvs k v;omega
  refine wpAny_setItem_heap (tupleKind_room_in1 hu) (C7 I.bQ eb) dd λh' dd' hs=>h _ ?_;obtain⟨q,es,ep,hq,h2,h3,h4,_,h5⟩:=dd';refine Ki I (by rw[e];exact True.intro) hs ⟨q,hq⟩ ⟨hl,hd,_,(rel.put k eb rv).keeps λc ys ec=>?_,q,es,ep,hq,h2,h3,h4,h5⟩;rw[aF (Zd ec e (λz=>nomatch z))];exact ec
end
def ZF(i:Expr):Prop:=∀ov iv,subscripted i false ov iv=operate [ov,iv] (getItem ov iv)
def SX{id:String}(hl:typeLookup (.type T) "__getitem__"=pure (some (.builtin id)))(hs:ZF slice)(h:wpAny (model prog w) A (eval value env) (λo s₁=>wpAny (model prog w) A (eval slice env) (λi s₂=>s₂.TypeIs o T/\wpAny (model prog w) A (getItem o i) Q E s₂) E s₁) E s):
  wpAny (model prog w) A (eval (.Subscript value slice pos) env) Q E s:=by
 refine Subscript_ (c5 h (λo s₁ h₁=>c5 h₁ (λi s₂ h₂=>?_) λ_ _ x=>x) λ_ _ x=>x);obtain⟨hT,h₂⟩:=h₂;unfold subscriptTail;refine aj ?_;rw[getitemInPython_of_ne hT.not_modules];refine aj (wpAny_specialOf hT hl ?_);have fin:wpAny (model prog w) A (subscripted slice false o i) (λr s₃=>wpAny (model prog w) A (letTemporaryGo value o r>>=λ_=>pure r) Q E s₃) E s₂:=by
  rw[hs o i];exact wpAny_operating (c5 h₂ (λr s₃ h₃=>aj (wpAny_letTemporaryGo (ay h₃))) λ_ _ x=>x)
 first
  |exact ay (aj fin)
  |exact aj (ay (aj fin))
  |exact aj fin
def ZG(ty td:TE):TE:=λσ H Q=>ty σ H λy H1=>td σ H1 λx H2=>∃a o,x=.ref a/\uz H2 a y o/\Q (.bl o.isSome) H2
def C8(ty td:TE):TE:=λσ H Q=>ty σ H λy H1=>td σ H1 λx H2=>eR x λa=>∃o,uz H2 a y o/\Q (.bl (!o.isSome)) H2
def OG(td ty tv:TE):TS:=λD σ H=>tv σ H λv H1=>td σ H1 λx H2=>ty σ H2 λy H3=>eR x λa=>∃H4,Ia H3 a y v H4/\D.nx σ H4
section
variable {o i value:Expr} {pos':Pos} {td ty tv:TE}
def lK(hu:X.A.units+1<cLine)(hi:PE X i ty)(ho:PE X o td):PC X .NotIn i o (C8 ty td):=by
 intro pins s σ H Q I h;refine cJ (hi pins s σ H _ I h) λiv s1 ZH=>?_;obtain⟨y,H1,I1,ry,q1⟩:=ZH;refine cJ (ho pins s1 σ H1 _ I1 q1) λu s2 ZI=>?_;obtain⟨x,H2,I2,rx,q0⟩:=ZI;obtain⟨a,ex,ov,g,q2⟩:=kK.mp q0;subst ex;obtain rfl:u=Value.ref a:=rx;exact SW hu I2 g ry λs3 I3=>⟨.bl (!ov.isSome),H2,I3,rfl,q2⟩
def C9(hu:X.A.units+1<cLine)(ho:PE X o td)(hi:PE X i ty)(hv:PE X value tv)(hs:swapsWith value (some (.Subscript o i pos')) pos.line X.env=pure false):
  PS X (.Assign [.Subscript o i pos'] value pos) (OG td ty tv):=by
 intro pins s σ H D I h;refine wpAny_Assign_Subscript (cJ (hv pins s σ H _ I h) λr s1 ZJ=>?_) hs;obtain⟨v,H1,I1,rv,q1⟩:=ZJ;refine cJ (ho pins s1 σ H1 _ I1 q1) λu s2 ZK=>?_;obtain⟨x,H2,I2,rx,q2⟩:=ZK;refine cJ (hi pins s2 σ H2 _ I2 q2) λiv s3 ZL=>?_;obtain⟨y,H3,I3,ry,q0⟩:=ZL;obtain⟨a,ex,H4,g,q3⟩:=kK.mp q0;subst ex;obtain rfl:u=Value.ref a:=rx;exact Mg hu I3 g ry rv λs4 I4=>⟨σ,H4,I4,q3⟩
end
def OH(h:Heap)(hb:sysModules<h.objs.size):dB P w H (h.push {cls:=.type "dict",data:=.dict #[]}) h.objs.size (.dK []):=
 ⟨cv _,beq_eq_false_iff_ne.mpr (dF (bx hb)),[],.nil,Heap.DictOf.new h⟩
def WX:TE:=λ_ H Q=>∀p,H p=none->Q (.ref p) (upd H p (.dK []))
section
def yk:PE X (.Dict [] [] pos) WX:=λpins s σ H Q I h=>
 wpAny_Dict_empty ⟨.ref s.heap.objs.size,_,I.laid (o:=.dK []) (t':=s.toks) (λ_ _ q=>bN _ q) (aQ _) (OH s.heap I.big),rfl,h _ (I.bQ.fresh (aQ _))⟩
end
noncomputable def kO(kvs more:List (Key×V)):List (Key×V):=more.foldl (λacc kv=>putK acc kv.1 kv.2) kvs
def KV.merge:∀{more}{rs}{kvs}{vs},KV more rs->KV kvs vs->KV (kO kvs more) (merged vs rs):=by
 intro more rs kvs vs r
 induction r generalizing kvs vs with
 |nil=>intro q;exact q
 |@cons p q ps qs h t ih=>
  intro r0;have e:KV (putK kvs p.1 p.2) (stored vs q.1 q.2):=by
   have:=r0.put p.1 h.2;rw[<-h.1];exact this
  exact ih e
theorem qJ:∀more kvs,(kO kvs more).length<=kvs.length+more.length
 |[],kvs=>by show kvs.length<=kvs.length+0;omega
 |p::r,kvs=>by
  have h1:=qJ r (putK kvs p.1 p.2);have h2:=oB kvs p.1 p.2;show(kO (putK kvs p.1 p.2) r).length<=_;rw[aY];omega
structure M1(X:Cx)(o:Expr)(m:Str)(apos:Pos)(e:Expr)(et:Pos):Prop where
 base:attributeBase o m X.env (eval o X.env)=eval o X.env
 few:((backTo et (starEach [e] X.env)).all (λx=>!x.1)&&(backToKw et (keywordEach [] X.env)).all (λx=>x.1.isSome)
  &&decide (([e]:List Expr).length+([]:List Keyword).length+(if([]:List Keyword).isEmpty then 0 else 1)<30))=true
 line:(apos.endLine==et.line)=true
 trees:backTo et (starEach [e] X.env)=[(false,eval e X.env)]
structure M2(X:Cx)(o:Expr)(m:Str)(apos:Pos)(e f:Expr)(et:Pos):Prop where
 base:attributeBase o m X.env (eval o X.env)=eval o X.env
 few:((backTo et (starEach [e,f] X.env)).all (λx=>!x.1)&&(backToKw et (keywordEach [] X.env)).all (λx=>x.1.isSome)
  &&decide (([e,f]:List Expr).length+([]:List Keyword).length+(if([]:List Keyword).isEmpty then 0 else 1)<30))=true
 line:(apos.endLine==et.line)=true
 trees:backTo et (starEach [e,f] X.env)=[(false,eval e X.env),(false,eval f X.env)]
def IsD(H:Hp)(a:Addr):Prop:=(∃kvs,Rd H a (.dK kvs))\/∃kvs,Rd H a (.dT kvs)
def WY(I:Inv X pins σ H s)(d:IsD H a):
  s.TypeIs (.ref a) "dict"/\(∀b,Value.ref a=.ref b->∃ob,s.heap.get? b=some ob/\ob.dict=none)/\(a==sysModules)=false:=by
 obtain⟨kvs,e⟩|⟨kvs,e⟩:=d
 .obtain⟨_,hd,vs,_,dd⟩:=Kg I.bQ e;refine⟨dd.typeIs,λb q=>?_,hd⟩;cases q;obtain⟨ob,_,_,h1,h2,_⟩:=dd;exact⟨ob,h1,h2.2.1⟩
 .obtain⟨_,hd,xs,_,dd⟩:=Kh I.bQ e;refine⟨dd.typeIs,λb q=>?_,hd⟩;cases q;obtain⟨ob,_,_,h1,h2,_⟩:=dd;exact⟨ob,h1,h2.2.1⟩
section
variable {d:V} {r:Value} {o:Option V}
def WZ(hu:A.units+1<cLine)(I:Inv X pins σ H s)(g:uz H a y o)(ry:RelV y u)(rd:RelV d r)(h:∀w' s',Inv X pins σ H s'->RelV (o.getD d) w'->Q w' s'):
  wpAny (model X.prog X.w) A (call (.builtin "dict.get") [.ref a,u,r]) Q E s:=by
 obtain⟨kvs,k,e,ey,l⟩|⟨kvs,k,b,e,ey,eb,l⟩:=g
 .subst ey;obtain⟨z,hd,vs,rel,dd⟩:=Kg I.bQ e;refine call_meetsIn si dd.typeIs PySem.F.entry_dict_get (PySem.F.args_dict_get_3 _ _ _) (meets_dict_get_default (bI X.prog X.w) a (vk ry) hd r) ⟨_,dd.mapOf,h _ _ (I.tok _) ?_⟩;rw[l];exact(rel.val k).getD rd
 .subst ey;cases(show u=Value.ref b from ry);obtain⟨z,hd,xs,rel,dd⟩:=Kh I.bQ e;refine call_meetsIn si dd.typeIs PySem.F.entry_dict_get (PySem.F.args_dict_get_3 _ _ _) (meetsH_dict_get_default (tupleKind (bI X.prog X.w)) a b hd r) ⟨tupleKind_room_in1 hu,k,xs,C7 I.bQ eb,dd,h _ _ (I.tok _) ?_⟩;rw[l];exact(rel.val k).getD rd
end
def W0(td ty tx:TE):TE:=λσ H Q=>td σ H λx H1=>eR x λa=>IsD H1 a/\ty σ H1 λy H2=>tx σ H2 λz H3=>∃o,uz H3 a y o/\Q (o.getD z) H3
section
variable {o f:Expr} {et:Pos} {td ty tx:TE}
def OI(hu:X.A.units+1<cLine)(ho:PE X o td)(he:PE X e ty)(hf:PE X f tx)(m:M2 X o "get" apos e f et):PE X (.Call (.Attribute o "get" apos) [e,f] [] et) (W0 td ty tx):=by
 intro pins s σ H Q I h;refine wpAny_Call_method m.base m.few m.line PySem.F.plainAttrs_dict si PySem.F.type_dict_get (cJ (ho pins s σ H _ I h) λu s1 ZM=>?_);obtain⟨x,H1,I1,rx,q0⟩:=ZM;obtain⟨a,ex,d,q1⟩:=kK.mp q0;subst ex;obtain rfl:u=Value.ref a:=rx;obtain⟨t1,t2,_⟩:=WY I1 d;refine⟨t1,t2,?_⟩;rw[m.trees];refine ui rfl (sq (mw (cJ (he pins s1 σ H1 _ I1 q1) λiv s2 ZN=>?_)));obtain⟨y,H2,I2,ry,q2⟩:=ZN;refine mw (cJ (hf pins s2 σ H2 _ I2 q2) λfv s3 ZO=>?_);obtain⟨z,H3,I3,rz,ov,g,q3⟩:=ZO;refine rg ?_;exact WZ hu I3 g ry rz λw' s4 I4 WB=>⟨_,H3,I4,WB,q3⟩
end
def Fw:entryFor table "dict.update.loop"=some Builtin.«dict.update.loop»:=entryFor_of_tree (by kernel_rfl)
def yl:plainId "dict.update.loop"=true:=by decide+kernel
section
def Inv.SY(I:Inv X pins σ H s)(k:∀b o,b∉ch->s.heap.get? b=some o->h'.get? b=some o)(hf:∀b∈ch,vN X pins H b):Inv X pins σ H {s with heap:=h',toks:=t'} :=by
 have U3:∀b u,H b=some u->b∉ch:=λb u e z=>by
  have q:=(hf b z).1;rw[q]at e;cases e
 refine I.step (g':=s.gens) (ch:=ch) (λb hb=>⟨(hf b hb).2.2.2.1,(hf b hb).2.1,(hf b hb).2.2.2.2.1,(hf b hb).2.2.2.2.2⟩) (λb o _ _ hc e _=>k b o hc e) (λb o _ _ hc e _=>⟨o.slots,k b o hc e⟩)
  (λ_ _ _ _ n=>n) (λb o hc e=>⟨o,k b o hc e⟩) (λ_ _ e=>e) (λ_ _ _ e=>e) (λb ps e=>⟨#[],by rw[e];simp⟩) (λm hm=>?_) (λb u e=>?_) I.bare
 .obtain⟨o,es,ep,ho,r⟩:=hm;exact⟨o,es,ep,k _ o (λz=>(hf _ z).2.1 rfl) ho,r⟩
 .refine(I.bQ b u e).E9 (λc v hc q=>k c v ?_ q) (λ_ q=>q) λ_ _ q=>q;obtain z|z:=hc
  .rw[z];exact U3 b u e
  .exact U3 c _ z
def Inv.qd{T:Addr}(I:Inv X pins σ H s)(k:∀b o,b∉ch->s.heap.get? b=some o->h'.get? b=some o)(hf:∀b∈ch,vN X pins H b)(hT:s.heap.objs.size<=T)(new:dB X.prog X.w (upd H T ob) h' T ob):Inv X pins σ (upd H T ob) {s with heap:=h',toks:=t'} :=by
 have hn:=I.bQ.fresh hT;have U3:∀b u,H b=some u->b∉ch:=λb u e z=>by
  have q:=(hf b z).1;rw[q]at e;cases e
 refine I.step (g':=s.gens) (ch:=ch) (λb hb=>⟨(hf b hb).2.2.2.1,(hf b hb).2.1,(hf b hb).2.2.2.2.1,(hf b hb).2.2.2.2.2⟩) (λb o _ _ hc e _=>k b o hc e) (λb o _ _ hc e _=>⟨o.slots,k b o hc e⟩)
  (λb o _ e n=>?_) (λb o hc e=>⟨o,k b o hc e⟩) (λb xs e=>?_) (λb o u e=>?_) (λb ps e=>⟨#[],?_⟩) (λm hm=>?_) (λb u e=>?_) I.bare
 .rw[aF (bx (dR (aO e) hT))];exact n
 .rw[aF (bB e hn)];exact e
 .rw[aF (bB e hn)];exact e
 .rw[aF (bB e hn),e];simp
 .obtain⟨o,es,ep,ho,r⟩:=hm;exact⟨o,es,ep,k _ o (λz=>(hf _ z).2.1 rfl) ho,r⟩
 .by_cases hb:b=T
  .subst hb;rw[ak]at e;cases e;exact new
  .rw[aF hb]at e;refine(I.bQ b u e).E9 (λc v hc q=>k c v ?_ q) (λc q=>by rw[aF (bB q hn)];exact q) λc xs q=>by rw[aF (bB q hn)];exact q
   obtain z|z:=hc
   .rw[z];exact U3 b u e
   .exact U3 c _ z
end
section
def C_(I:Inv X pins σ H s) o
  (T:Turn X.prog X.w X.K tg J [s.heap.objs.size] s.heap.objs.size tn) (st:tn 0 (s.heap.push o)) (q:R J H):PIE X pins σ tg R (.ref s.heap.objs.size) {s with heap:=s.heap.push o,toks:=tk} :=by
 refine⟨s.heap.objs.size,[s.heap.objs.size],tn,J,H,rfl,I.kept λb ob e=>bN _ e,T,st,λb hb=>?_,q⟩;have e:b=s.heap.objs.size:=‹hb›
 subst e;exact I.CT (aQ _) (I.bQ.fresh (aQ _))
end
noncomputable def ZP(lo c:Int)(n:Nat):It:=⟨λi _=>i<n,λi H x H'=>H'=H/\x=.int (lo+(i:Nat)*c),λi _=>n<=i⟩
def Fx it lo c n:Turn P w K tg (ZP lo c n) [it] it (λi h=>IsRangeIter h it (lo+(i:Nat)*c) ((n:Int)-(i:Nat)) c)where
 mem:=by simp
 obj:=λi h st b hb=>by
  have e:b=it:=‹hb›
  subst e;exact⟨_,st,λv z=>nomatch z⟩
 keep:=λi h h' st k=>k it ∅ _ st
 item:=by
  intro X hP hw hK hc i pins s σ H E I hf st hg;subst hP hw hK;obtain⟨f0,f1,f2,f3,f4,f5⟩:=hf it ∅;have W:=Walks.range (prog:=X.prog) (w:=X.w) (I.ok.hd hc) it lo c n;refine W.item i s _ _ hg st λv h' tk hv Bi kk=>?_;obtain⟨t,rfl⟩:=hv;have I1:Inv X pins σ H {s with heap:=h',toks:=tk} :=I.turned (λb o hb e=>kk b o ‹hb› e) f0 f1 f3 f4 f5;exact⟨_,rfl,Fd (n:="range_iterator") Bi rfl rfl ⋯ ⟨.int (lo+(i:Nat)*c),H,I1,⟨t,rfl⟩,⟨rfl,rfl⟩,Bi,λb hb=>(hf b hb).1⟩⟩
 done:=by
  intro X hP hw hK hc i pins s σ H E I hf st hg;obtain⟨f0,f1,f2,f3,f4,f5⟩:=hf it ∅;exact wpAny_pyNext_range_end (I.ok.hd hc) st (by have:n<=i:=hg;omega) λh' eb=>⟨rfl,I.turned (λb o hb e=>eb b o hb e) f0 f1 f3 f4 f5⟩
 self:=λA i s Q E st h=>wpAny_pyIter_rangeiter st h
def Vb(i j c:Int)(n:Nat):Prop:=c≠0/\c.natAbs<1073741824/\Builtin.Range.small i j c=true/\Builtin.Range.rangeSize i j c=n
def Vb.neg{i j:Int}(ha: -(2^62)<=i)(ha':i<2^62)(hb: -(2^62)<=j)(YN:j<2^62):Vb i j (-1) (i-j).toNat:=
 ⟨by decide,by decide,PySem.W.small_down ha ha' hb YN,PySem.W.rangeSize_downNat i j⟩
def ZQ(ta:TA):TI:=λσ H R=>ta σ H λvs H1=>∃(i j c:Int) (n:Nat),vs=[.int i,.int j,.int c]/\Vb i j c n/\R (ZP i c n) H1
section
def uA{a b c:Expr}{ta:TA}{p pos:Pos}(hg:Gl X "range")(hm:X.mg "range"=none)(ha:PA X [a,b,c] ta)(hs:starEach [a,b,c] X.env=(false,eval a X.env)::starEach [b,c] X.env:=by rfl)(iz:(backTo pos (starEach [b,c] X.env)).any (·.1)=false:=by rfl):
  PI X tg (.Call (.Name "range" p) [a,b,c] [] pos) (ZQ ta):=by
 intro pins s σ H R I h;refine Call_ (gk I hg hm boot_range (jx (cJ (ha pos pins s σ H _ I h) λus s1 ZR=>?_) hs iz));obtain⟨vs,H1,I1,r1,q1⟩:=ZR;obtain⟨i,j,k,n,e,⟨c0,c1,c2,c3⟩,q⟩:=q1;subst e;cases r1 with
 |cons r rr=>
  cases rr with
  |cons r' rr=>
   cases rr with
   |cons r'' rr=>
    cases rr;obtain⟨t,rfl⟩:=r;obtain⟨t',rfl⟩:=r';obtain⟨t'',rfl⟩:=r'';refine call_range_3 c0 ?_ (.inl (PyProof.noPylong_small c1));refine wpAny_pyIter_range (IsRange.new ..) c2 ?_;have I2:Inv X pins σ H1 {s1 with heap:=s1.heap.push {cls:=.type "range",data:=.fields #[.int i t,.int j t',.int k t'']}} :=I1.kept λb o e=>bN _ e;refine C_ I2 _ (Fx _ i k n) ?_ q;have e1:i+((0:Nat):Int)*k=i:=by simp
    have e2:(n:Int)-((0:Nat):Int)=Builtin.Range.rangeSize i j k:=by rw[c3];simp
    rw[e1,e2];exact bq _ rfl
end
def rm{lo c:Int}{D:Ends}(Pv:Nat->St->Hp->Prop)(h0:Pv 0 σ H)(hs:∀i σ H,i<n->Pv i σ H->g (.int (lo+(i:Nat)*c)) σ H λσ2 H2=>tb {D with nx:=Pv (i+1),ct:=Pv (i+1),bk:=D.nx} σ2 H2)(hd:∀σ H,Pv n σ H->D.nx σ H):
  ∃W:Nat->Nat->St->Hp->Prop,(∃m,W 0 m σ H)/\∀i m σ H,W i m σ H->
   ((ZP lo c n).stop i H/\D.nx σ H)\/((ZP lo c n).go i H/\∃N:St->Hp->Prop,(∀σ' H',N σ' H'->∃m',m'<m/\W (i+1) m' σ' H')/\∀x H',(ZP lo c n).E1 i H x H'->g x σ H' λσ2 H2=>tb {D with nx:=N,ct:=N,bk:=D.nx} σ2 H2):=by
 refine⟨λi m σ H=>m=n-i/\i<=n/\Pv i σ H,⟨n,by simp,cv _,h0⟩,?_⟩;rintro i m σ H ⟨rfl,hi,p⟩;by_cases eK:i<n
 .refine .inr ⟨eK,Pv (i+1),λσ' H' p'=>⟨n-(i+1),by omega,rfl,eK,p'⟩,λx H' y=>?_⟩;obtain⟨e,y⟩:=y;subst e y;exact hs i σ _ eK p
 .have e:i=n:=by omega
  subst e;exact .inl ⟨aQ _,hd σ H p⟩
noncomputable def ZS(x:Str):It:=⟨λi _=>i<x.cps.size,λi H v H'=>H'=H/\∃c,x.cps[i]?=some c/\v=.str ⟨#[c]⟩,λi _=>x.cps.size<=i⟩
def Fy it x t ty (RP:ty="str_ascii_iterator"\/ty="str_iterator"):
  Turn P w K tg (ZS x) [it] it (λi h=>h.IsStrIter it ty x t i)where
 mem:=by simp
 obj:=λi h st b hb=>by
  have e:b=it:=‹hb›
  subst e;obtain⟨o,e,c,d⟩:=st;exact⟨o,e,λv z=>by rw[d]at z;cases z⟩
 keep:=λi h h' st k=>let⟨o,ho,r⟩:=st;⟨o,k it ∅ o ho,r⟩
 item:=by
  intro X hP hw hK hc i pins s σ H E I hf st hg;subst hP hw hK;obtain⟨f0,f1,f2,f3,f4,f5⟩:=hf it ∅;have W:Walks X.prog X.w X.A it [it] [it] x.cps.size (SignAt x) (λi h=>h.IsStrIter it ty x t i):=by
   obtain e|e:=RP
   .rw[e];exact Walks.strAscii (I.ok.hd hc) it x t
   .rw[e];exact Walks.strWide (I.ok.hd hc) it x t
  have YK:["enumerate","zip","dict_itemiterator","dict_reverseitemiterator","odict_iterator","itertools.zip_longest","itertools.pairwise"].contains ty=false:=by
   obtain e|e:=RP
   .rw[e];decide
   .rw[e];decide
  refine W.item i s _ _ hg st λv h' tk hv Bi kk=>?_;obtain⟨c,u,hcx,rfl⟩:=hv;have I1:Inv X pins σ H {s with heap:=h',toks:=tk} :=I.turned (λb o hb e=>kk b o ‹hb› e) f0 f1 f3 f4 f5;obtain⟨oi,e,cc,dd⟩:=id Bi;exact⟨_,rfl,Fd e cc dd YK ⟨.str ⟨#[c]⟩,H,I1,⟨u,rfl⟩,⟨rfl,c,hcx,rfl⟩,Bi,λb hb=>(hf b hb).1⟩⟩
 done:=by
  intro X hP hw hK hc i pins s σ H E I hf st hg;obtain⟨f0,f1,f2,f3,f4,f5⟩:=hf it ∅;have hx:=qU hg;obtain e|e:=RP
  .rw[e]at st;exact wpAny_pyNext_ascii_end (I.ok.hd hc) st hx λh' eb=>⟨rfl,I.turned (λb o hb e=>eb b o hb e) f0 f1 f3 f4 f5⟩
  .rw[e]at st;exact wpAny_pyNext_wide_end (I.ok.hd hc) st hx λh' eb=>⟨rfl,I.turned (λb o hb e=>eb b o hb e) f0 f1 f3 f4 f5⟩
 self:=λA i s Q E st h=>by
  obtain e|e:=RP
  .rw[e]at st;exact wpAny_pyIter_striter_ascii st h
  .rw[e]at st;exact wpAny_pyIter_striter_wide st h
def ac5(te:TE):TI:=λσ H R=>te σ H λv H1=>∃x,v=.str x/\R (ZS x) H1
def W2(he:PE X e te):PI X tg e (ac5 te):=by
 intro pins s σ H R I h;refine cJ (he pins s σ H _ I h) λv s1 ZT=>?_;obtain⟨y,H1,I1,r1,x,ex,q⟩:=ZT;subst ex;obtain⟨t,rfl⟩:=r1;cases ha:x.cps.all (·<128)
 .exact wpAny_pyIter_wide ha (C_ I1 _ (Fy _ x t "str_iterator" (.inr rfl)) ⟨_,bq _ rfl,rfl,rfl⟩ q)
 .exact wpAny_pyIter_ascii ha (C_ I1 _ (Fy _ x t "str_ascii_iterator" (.inl rfl)) ⟨_,bq _ rfl,rfl,rfl⟩ q)
section
def Mh{o:Obj}{es:Array DictEntry}(hd:(d==sysModules)=false)(ho:s.heap.get? d=some o)(hc:o.ExactDict)(ZU:o.data=.dict es ep)(hQ:Q (.ref s.heap.objs.size) {s with heap:=s.heap.push {cls:=.type "dict_keyiterator",data:=.fields #[.ref d,.int 0 0,.int es.size 0,.int ep 0]}}):
  wpAny (model prog w) A (pyIter (.ref d)) Q E s:=by
 have hT:s.TypeIs (.ref d) "dict":=⟨o,ho,hc.1⟩;refine wpAny_pyIter_slot hT F.slot_dict_iter (g9 F.slot_dict_iter hT F.entry_dict_iter ?_ (F.args_dict_iter_1 _));refine aj ?_;refine aj (wpAny_notOrdered_dict hT ?_);refine ay ?_;show wpAny _ _ (Builtin.Dict.showsAll d>>=_) _ _ s;unfold Builtin.Dict.showsAll;rw[af (by rw[hd];exact b9)];refine aj (ay ?_);refine aj (wpAny_dictEntries ho ZU ?_);refine aj (wpAny_dictEpoch ho ZU ?_);refine aj (jA (ay ⟨_,rfl,"dict_keyiterator",_,⟨_,bq _ rfl,rfl⟩,F.slot_dict_keyiterator_next.lookup,?_⟩));simpa[rawInt]using hQ
def Dc{es:Array DictEntry}{Q:Option Value->Shared->Prop}(hh:A.handled=none)(hit:s.heap.IsKeyIter it d i n ep)(hod:s.heap.get? d=some od)(hdd:od.data=.dict es ep)(fY:es.size=n)(hge:n<=i)(hQ:∀h',Heap.ExtBut it s.heap h'->Q none {s with heap:=h'}):wpAny (model prog w) A (pyNext (.ref it)) Q E s:=by
 obtain⟨o,ho,hc,hd⟩:=id hit;unfold pyNext;refine aj (sI (qT hit.typeIs F.slot_dict_keyiterator_next
  (g9 F.slot_dict_keyiterator_next hit.typeIs F.entry_dict_keyiterator_next ?_ (F.args_dict_keyiterator_next_1 _))))
 refine aj (ay ?_);refine aj ?_;refine aj ?_
 first|refine aj (wpAny_typeNameOfWhole_keyiter hit.typeIs (ay ?_))|refine aj (wpAny_typeNameOf_keyiter hit.typeIs (ay ?_))
 refine aj (wpAny_fieldsOf ho hd ?_);have ac6:Builtin.Dict_items.ownsTuple "dict_keyiterator"=false:=by decide
 simp-iota only[ac6,N3,CI];show wpAny _ _ (if(Value.ref d==Value.none)=true then _ else _) _ _ s;rw[af (show¬((Value.ref d==Value.none)=true)from b9)];refine aj (ay ?_);refine aj (wpAny_dictEntries hod hdd ?_);rw[af (by rw[fY];simp)];refine aj (ay ?_);refine aj (wpAny_dictEpoch hod hdd ?_);rw[af ∅];refine ay ?_;have ac7:es.size<=i:=by rw[fY];exact hge
 dsimp only;simp-iota only[show¬((i:Int)<0)from by omega,CI,gZ,qU ac7];dsimp only;refine aj ?_
 first|refine aj (wpAny_typeNameOfWhole_keyiter hit.typeIs (ay ?_))|refine aj (wpAny_typeNameOf_keyiter hit.typeIs (ay ?_))
 show wpAny _ _ (setField (.ref it) 0 .none>>=_) _ _ s;refine aj (mB ho hd ∅ ?_);show wpAny _ _ (newExc (.type "StopIteration") [] >>=_) _ _ _;refine aj ?_;delta newExc newTuple;refine aj (jA ?_ (by size_fits));refine aj (wpAny_of_eq (a:=Value.none) (by first|rfl|(simp only[firstArgMember];rfl)) ?_);refine jA ?_ (by size_fits);delta raiseNew;refine aj (wpAny_handled ?_);rw[show A.in1.handled=none from hh];refine aj (ay (sW ?_));refine aj (wH (b:=true) ⟨_,bq _ rfl,rfl⟩ isSubtype_stop ?_);exact ay (hQ _ (((kx ..).extBut.push _).push _))
end
def W3{kvs:List (κ×V)}{vs:List (κ×Value)}(h:KV kvs vs):∀{i:Nat}{k}{v},kvs[i]?=some (k,v)->∃u,vs[i]?=some (k,u)/\RelV v u:=by
 induction h with
 |nil=>intro i k v e;simp at e
 |@cons a b l₁ l₂ r t ih=>
  intro i k v e;cases i with
  |zero=>
   simp only[getElem?_cons_zero,Option.some.injEq]at e;subst e;refine⟨b.2,?_,r.2⟩;exact bW some (Prod.ext r.1.symm rfl)
  |succ j=>
   exact ih e
def Fz(h:gX k u=true):RelV (kV k) u:=by
 obtain⟨i,t,rfl,rfl⟩|⟨x,t,rfl,rfl⟩:=cN h
 .exact⟨t,rfl⟩
 .exact⟨t,rfl⟩
noncomputable def Ite(K:PySem.W.Frag)(a:Addr):It:=
 ⟨λi H=>∃(xs:List V) (x:V),aJ K H a xs/\xs[i]?=some x,λi H v H'=>∃T x,v=.ref T/\H T=none/\H'=upd H T (.tup [.int (i:Nat),x])/\∀xs,aJ K H a xs->xs[i]?=some x,λi H=>∃xs:List V,aJ K H a xs/\xs.length<=i⟩
def Mi a e it:
  Turn P w K (.Tuple elts kk CB) (Ite K a) [e,it] e (λi h=>(∃old,IsEnum h e it ((i:Nat):Int) old)/\h.IsListIter it a i/\e≠it)where
 mem:=by simp
 obj:=λi h st b hb=>by
  obtain⟨⟨old,he⟩,⟨o,ho,hc,hd⟩,_⟩:=st;have e':b=e\/b=it:=‹hb›
  obtain z|z:=e'
  .rw[z];exact⟨_,he,λv q=>nomatch q⟩
  .rw[z];exact⟨o,ho,λv q=>by rw[hd]at q;cases q⟩
 keep:=λi h h' st k=>let⟨⟨old,he⟩,hi,iB⟩:=st;⟨⟨old,k e ∅ _ he⟩,hi.at λo q=>k it ∅ o q,iB⟩
 item:=by
  intro X hP hw hK hc i pins s σ H E I hf st hg;subst hP hw hK;obtain⟨⟨old,he⟩,hit,iB⟩:=st;obtain⟨xs,x,hq,hx⟩:=hg;obtain⟨aR,rv,p,hz⟩:=I.list hq;obtain⟨u,hu,ru⟩:=rv.get hx;have Kj:=aO he;have hil:it<s.heap.objs.size:=by obtain⟨_,q,_⟩:=hit;exact aO q
  refine wpAny_pyNext_enum_item he hit p.isList ‹hu› iB λh' ho Ib hT fY hk=>?_;refine⟨_,rfl,wpAny_letOwnedTupleGo_enum ho λOJ Mj sb=>?_⟩;have S0:=(sb.2 _ (iu Kj)).trans hT;have new:dB X.prog X.w (upd H s.heap.objs.size (.tup [.int (i:Nat),x])) OJ s.heap.objs.size (.tup [.int (i:Nat),x]):=
   ⟨by show 2<=sizeLine;decide,[.int i s.toks,u],.cons ⟨_,rfl⟩ (.cons ru .nil),⟨_,S0,rfl,_,rfl⟩⟩
  have I1:Inv X pins σ (upd H s.heap.objs.size (.tup [.int (i:Nat),x])) {s with heap:=OJ,toks:=s.toks+1} :=
   I.qd (λb ob hb q=>(sb.2 b (λz=>hb (by simp[z]))).trans (hk b ob (λz=>hb (by simp[z])) (λz=>hb (by simp[z])) q)) hf (aQ _) new
  refine⟨.ref s.heap.objs.size,_,I1,rfl,⟨_,x,rfl,I.bQ.fresh (aQ _),rfl,λys hy=>by rw[I.sX hy hq];exact hx⟩,⟨⟨u,?_⟩,Ib.at λo q=>(sb.2 it (dF iB)).trans q,iB⟩,λb hb=>?_⟩
  .have e1:((i+1:Nat):Int)=(i:Int)+1:=by omega
   rw[e1];exact Mj
  .have YN:b<s.heap.objs.size:=by
    have e':b=e\/b=it:=‹hb›
    obtain z|z:=e'
    .rw[z];exact Kj
    .rw[z];exact hil
   rw[aF (bx YN)];exact(hf b hb).1
 done:=by
  intro X hP hw hK hc i pins s σ H E I hf st hg;subst hP hw hK;obtain⟨⟨old,he⟩,hit,iB⟩:=st;obtain⟨xs,hq,hx⟩:=hg;obtain⟨aR,rv,p,hz⟩:=I.list hq;obtain⟨f0,f1,f2,f3,f4,f5⟩:=hf it ∅;have hl:=rv.length;exact wpAny_pyNext_enum_end (I.ok.hd hc) he hit p.isList (by simp;omega) λh' eb=>⟨rfl,I.turned (λb o hb q=>eb b o hb q) f0 f1 f3 f4 f5⟩
 self:=λA i s Q E st h=>let⟨⟨_,he⟩,_⟩:=st;wC he h
def ZV(K:PySem.W.Frag)(ta:TA):TI:=λσ H R=>ta σ H λvs H1=>∃a xs,vs=[.ref a]/\aJ K H1 a xs/\R (Ite K a) H1
def S2{ta:TA}{p pos CB:Pos}{elts:List Expr}{kk:Nat}(hg:Gl X "enumerate")(hm:X.mg "enumerate"=none)(ha:PA X [e] ta)(hs:starEach [e] X.env=[(false,eval e X.env)]:=by rfl):
  PI X (.Tuple elts kk CB) (.Call (.Name "enumerate" p) [e] [] pos) (ZV X.K ta):=by
 intro pins s σ H R I h;refine Call_ (gk I hg hm boot_enumerate (jx (cJ (ha pos pins s σ H _ I h) λus s1 ZW=>?_) hs rfl));obtain⟨vs,H1,I1,r1,q1⟩:=ZW;obtain⟨a,xs,ex,hq,q⟩:=q1;subst ex;cases r1 with
 |cons r rr=>
  cases rr;cases r;obtain⟨aR,rv,p',hz⟩:=I1.list hq;refine call_enumerate_list p'.isList λh' he hit fY hk=>wC he ?_;have I2:=I1.kept (t':=s1.toks) hk;refine⟨s1.heap.objs.size+1,[s1.heap.objs.size+1,s1.heap.objs.size],_,_,H1,rfl,I2,Mi a (s1.heap.objs.size+1) s1.heap.objs.size,⟨⟨.none,he⟩,hit,Nat.succ_ne_self _⟩,λb hb=>?_,q⟩;have e':b=s1.heap.objs.size+1\/b=s1.heap.objs.size:=‹hb›
  have hle:s1.heap.objs.size<=b:=by
   obtain z|z:=e'
   .rw[z];exact kD _ _
   .rw[z];exact aQ _
  exact I1.CT hle (I1.bQ.fresh hle)
def By:bootBuiltins "zip"=some (.type "zip"):=by decide+kernel
noncomputable def ZX(K:PySem.W.Frag)(a b:Addr):It:=
 ⟨λi H=>∃(xs ys:List V) (x y:V),aJ K H a xs/\aJ K H b ys/\xs[i]?=some x/\ys[i]?=some y,
  λi H v H'=>∃T x y,v=.ref T/\H T=none/\H'=upd H T (.tup [x,y])/\(∀xs,aJ K H a xs->xs[i]?=some x)/\∀ys,aJ K H b ys->ys[i]?=some y,
  λi H=>∃xs ys:List V,aJ K H a xs/\aJ K H b ys/\(xs.length<=i\/ys.length<=i)⟩
def OL{TI TO:Addr}(D:ZipApart z TI TO i1 i2 a b):
  Turn P w K (.Tuple elts kk CB) (ZX K a b) [z,TI,TO,i1,i2] z (λi h=>IsZip h z TI TO .none/\IsPair h TI (.ref i1) (.ref i2)/\(∃x y,IsPair h TO x y)/\h.IsListIter i1 a i/\h.IsListIter i2 b i)where
 mem:=by simp
 obj:=λi h st c hc=>by
  obtain⟨hz,AG,⟨x,y,Dd⟩,⟨o1,e1,_,d1⟩,⟨o2,e2,_,d2⟩⟩:=st;have e':c=z\/c=TI\/c=TO\/c=i1\/c=i2:=‹hc›
  obtain q|q|q|q|q:=e'
  .rw[q];exact⟨_,hz,λv q=>nomatch q⟩
  .rw[q];exact⟨_,AG,λv q=>nomatch q⟩
  .rw[q];exact⟨_,Dd,λv q=>nomatch q⟩
  .rw[q];exact⟨o1,e1,λv q=>by rw[d1]at q;cases q⟩
  .rw[q];exact⟨o2,e2,λv q=>by rw[d2]at q;cases q⟩
 keep:=λi h h' st k=>by
  obtain⟨hz,AG,⟨x,y,Dd⟩,h1,h2⟩:=st;exact⟨k z ∅ _ hz,k TI ∅ _ AG,⟨x,y,k TO ∅ _ Dd⟩,h1.at λo q=>k i1 ∅ o q,h2.at λo q=>k i2 ∅ o q⟩
 item:=by
  intro X hP hw hK hc i pins s σ H E I hf st hg;subst hP hw hK;obtain⟨hz,AG,⟨x0,y0,Dd⟩,h1,h2⟩:=st;obtain⟨xs,ys,x,y,Vc,Vd,hx,hy⟩:=hg;obtain⟨aR,rv,p,_⟩:=I.list Vc;obtain⟨n_,W4,p2,_⟩:=I.list Vd;obtain⟨u,hu,ru⟩:=rv.get hx;obtain⟨u2,Zz,ru2⟩:=W4.get hy;have E4:=aO hz;refine wpAny_pyNext_zip_item D hz AG Dd h1 h2 p.isList p2.isList (x:=u) ‹hu› ‹Zz› λh' z' TO' Ve Vf hT fY hk=>?_;refine⟨_,rfl,wpAny_letOwnedTupleGo_zip z' λOJ z'' sb=>?_⟩;have S0:=(sb.2 _ (iu E4)).trans hT;have new:dB X.prog X.w (upd H s.heap.objs.size (.tup [x,y])) OJ s.heap.objs.size (.tup [x,y]):=
   ⟨by show 2<=sizeLine;decide,[u,u2],.cons ru (.cons ru2 .nil),⟨_,S0,rfl,_,rfl⟩⟩
  have I1:Inv X pins σ (upd H s.heap.objs.size (.tup [x,y])) {s with heap:=OJ} :=
   I.qd (t':=s.toks) (λc o hb q=>(sb.2 c (λq'=>hb (by simp[q']))).trans (hk c o (λq'=>hb (by simp[q'])) (λq'=>hb (by simp[q'])) (λq'=>hb (by simp[q'])) (λq'=>hb (by simp[q'])) q)) hf (aQ _) new
  refine⟨.ref s.heap.objs.size,_,I1,rfl,⟨_,x,y,rfl,I.bQ.fresh (aQ _),rfl,λl hl=>by rw[I.sX hl Vc];exact hx,λl hl=>by rw[I.sX hl Vd];exact hy⟩,⟨z'',?_,⟨u,u2,?_⟩,?_,?_⟩,λc W5=>?_⟩
  .exact(sb.2 _ D.TIz).trans (hk _ _ D.TIz D.TITO D.TIi1 D.TIi2 AG)
  .exact(sb.2 _ D.TOz).trans TO'
  .exact Ve.at λo q=>(sb.2 _ D.i1z).trans q
  .exact Vf.at λo q=>(sb.2 _ D.i2z).trans q
  .have eK:c<s.heap.objs.size:=by
    have e':c=z\/c=TI\/c=TO\/c=i1\/c=i2:=‹W5›
    obtain q|q|q|q|q:=e'
    .rw[q];exact E4
    .rw[q];exact aO AG
    .rw[q];exact aO Dd
    .rw[q];obtain⟨_,e1,_⟩:=h1;exact aO e1
    .rw[q];obtain⟨_,e2,_⟩:=h2;exact aO e2
   rw[aF (bx eK)];exact(hf c W5).1
 done:=by
  intro X hP hw hK hc i pins s σ H E I hf st hg;subst hP hw hK;obtain⟨hz,AG,⟨x0,y0,Dd⟩,h1,h2⟩:=st;obtain⟨xs,ys,Vc,Vd,ac8⟩:=hg;obtain⟨aR,rv,p,_⟩:=I.list Vc;obtain⟨n_,W4,p2,_⟩:=I.list Vd;have l1:=rv.length;have l2:=W4.length;have he:aR.toArray[i]?=none\/n_.toArray[i]?=none:=by
   obtain q|q:=ac8
   .exact .inl (by simp;omega)
   .exact .inr (by simp;omega)
  exact wpAny_pyNext_zip_end (I.ok.hd hc) D hz AG Dd h1 h2 p.isList p2.isList he λh' hk=>⟨rfl,I.SY (t':=s.toks) (λc o hb q=>
   hk c o (λq'=>hb (by simp[q'])) (λq'=>hb (by simp[q'])) (λq'=>hb (by simp[q'])) (λq'=>hb (by simp[q'])) q) hf⟩
 self:=λA i s Q E st h=>wpAny_pyIter_zip st.1 h
def ZY(K:PySem.W.Frag)(ta:TA):TI:=λσ H R=>ta σ H λvs H1=>∃a b xs ys,vs=[.ref a,.ref b]/\aJ K H1 a xs/\aJ K H1 b ys/\R (ZX K a b) H1
def OM{e2:Expr}{ta:TA}{p pos CB:Pos}{elts:List Expr}{kk:Nat}(hg:Gl X "zip")(hm:X.mg "zip"=none)(ha:PA X [e,e2] ta)(hs:starEach [e,e2] X.env=(false,eval e X.env)::starEach [e2] X.env:=by rfl)(iz:(backTo pos (starEach [e2] X.env)).any (·.1)=false:=by rfl):
  PI X (.Tuple elts kk CB) (.Call (.Name "zip" p) [e,e2] [] pos) (ZY X.K ta):=by
 intro pins s σ H R I h;refine Call_ (gk I hg hm By (jx (cJ (ha pos pins s σ H _ I h) λus s1 ZZ=>?_) hs iz));obtain⟨vs,H1,I1,r1,q1⟩:=ZZ;obtain⟨a,b,xs,ys,ex,Vc,Vd,q⟩:=q1;subst ex;cases r1 with
 |cons r rr=>
  cases rr with
  |cons r' rr=>
   cases rr;cases r;cases r';obtain⟨aR,rv,p1,_⟩:=I1.list Vc;obtain⟨n_,W4,p2,_⟩:=I1.list Vd;have la:=p1.lt;have lb:=p2.lt;refine call_zip_2 p1.isList p2.isList λh' hz AG Dd h1 h2 fY hk=>wpAny_pyIter_zip hz ?_;have I2:=I1.kept (t':=s1.toks) hk;refine⟨s1.heap.objs.size+4,[s1.heap.objs.size+4,s1.heap.objs.size+2,s1.heap.objs.size+3,s1.heap.objs.size,s1.heap.objs.size+1],_,_,H1,rfl,I2,OL (PySem.W.ktu_apart s1.heap.objs.size a b la lb),⟨hz,AG,⟨_,_,Dd⟩,h1,h2⟩,λc W5=>?_,q⟩;have e':c=s1.heap.objs.size+4\/c=s1.heap.objs.size+2\/c=s1.heap.objs.size+3\/c=s1.heap.objs.size\/c=s1.heap.objs.size+1:=‹W5›
   have hle:s1.heap.objs.size<=c:=by
    obtain z|z|z|z|z:=e'
    .rw[z];exact kD _ _
    .rw[z];exact kD _ _
    .rw[z];exact kD _ _
    .rw[z];exact aQ _
    .rw[z];exact kD _ _
   exact I1.CT hle (I1.bQ.fresh hle)
end L2
section
end
section
namespace TL
open PySem PySem.Builtin PySem.Builtin.Str PySem.StrLaws
noncomputable abbrev tl(x:Str):List Nat:=x.cps.toList
def ym x:x.length=(tl x).length:=by simp[tl,Str.length]
def Bz x y:tl (x++y)=tl x++tl y:=by
 show(x++y).cps.toList=_;rw[Str.cps_append,Array.toList_append]
noncomputable def pre(S l:List Nat):Bool:=l.take S.length==S
noncomputable def vO(S:List Nat):Nat->List Nat->List Nat->List (List Nat)
 |_,acc,[]=>[acc]|0,acc,c::r=>if pre S (c::r)=true then acc::vO S (S.length-1) [] r else vO S 0 (acc++ [c]) r
 |k+1,acc,_::r=>vO S k acc r
noncomputable def par(S:List Nat):List Nat->List Nat->Option (List Nat×List Nat)
 |_,[]=>none|acc,c::r=>if pre S (c::r)=true then some (acc,(c::r).drop S.length)else par S (acc++ [c]) r
def De S k acc:vO S k acc []=[acc]:=by cases k<;>rfl
def S3(h:pre S (c::r)=true):vO S 0 acc (c::r)=acc::vO S (S.length-1) [] r:=by
 show(if pre S (c::r)=true then acc::vO S (S.length-1) [] r else vO S 0 (acc++ [c]) r)=_;rw[ah h]
def OO(h:pre S (c::r)=false):vO S 0 acc (c::r)=vO S 0 (acc++ [c]) r:=by
 show(if pre S (c::r)=true then acc::vO S (S.length-1) [] r else vO S 0 (acc++ [c]) r)=_;rw[af (by rw[h];exact b9)]
theorem FA S:∀k acc l,vO S k acc l=vO S 0 acc (l.drop k)
 |0,_,_=>by rw[pV]|k+1,acc,[]=>by rw[drop_nil,De,De]
 |k+1,acc,c::r=>by
  exact FA S k acc r
def S4(hS:S≠ []):pre S []=false:=by
 cases S with
 |nil=>exact absurd rfl hS|cons s S=>rfl
def tG{L:List Nat}{a:Nat}(h:a<L.length):∃c,L.drop a=c::L.drop (a+1):=⟨L[a],mv h⟩
theorem Df(S L:List Nat):∀m a acc,a+m<=L.length->(∀k,a<=k->k<a+m->pre S (L.drop k)=false)->
  vO S 0 acc (L.drop a)=vO S 0 (acc++(L.drop a).take m) (L.drop (a+m))
 |0,a,acc,_,_=>by rw[take_zero,jE,sE]
 |m+1,a,acc,h,hn=>by
  have eK:a<L.length:=by omega
  obtain⟨c,e⟩:=tG eK;have h0:=hn a (aQ _) ();have ih:=Df S L m (a+1) (acc++ [c]) () (λk h1 h2=>hn k () ());have e2:a+1+m=a+(m+1):=by omega
  rw[e2]at ih;rw[e]at h0;rw[e,OO h0,ih,take_succ_cons,iR] <;>rfl
def OQ(L:List Nat) a b:(L.drop a).drop b=L.drop (a+b):=by
 first
  |rw[drop_drop]
  |rw[drop_drop,sQ]
def W6{S L:List Nat}(hS:S≠ [])(h:pre S (L.drop c)=true):vO S 0 acc (L.drop c)=acc::vO S 0 [] (L.drop (c+S.length)):=by
 rw[<-OQ];cases e:L.drop c with
 |nil=>rw[e,S4 hS]at h;cases h
 |cons d r=>
  rw[e]at h;rw[S3 h,FA];cases S with
  |nil=>exact absurd rfl hS|cons s S=>rfl
def OS{y:Str}(hy:tl y≠ []) i:At x y x.length i↔pre (tl y) ((tl x).drop i)=true:=by
 have hx:=ym x;have hl:=ym y;constructor
 .intro h;have h2:=h.2;rw[subAt_eq,hl]at h2;exact h2
 .intro h;have e:=eq_of_beq h;have e1:=bW List.length e;rw[cS,dU]at e1;have e2:=length_pos_iff.mpr hy;refine⟨by omega,?_⟩;rw[subAt_eq,hl];exact h
def Vg{y:Str}(hy:tl y≠ [])(h:¬At x y x.length i):pre (tl y) ((tl x).drop i)=false:=by
 cases hp:pre (tl y) ((tl x).drop i)with
 |false=>rfl|true=>exact absurd ((OS hy i).mpr hp) h
def ac9{y:Str}(hy:tl y≠ []):1<=y.length:=by
 have e2:=length_pos_iff.mpr hy;exact e2
def BA x i j:tl (strSub x i j)=((tl x).drop i).take (j-i):=strSub_toList x i j
def AH x i:tl (strSub x i x.length)=(tl x).drop i:=by
 rw[BA,ym x];exact qX (by rw[dU] <;>omega)
theorem BD{x y:Str}(hy:tl y≠ []):∀Z0 a f,a<=(tl x).length->ChainG x y x.length a Z0 f->(∀k,f<=k->¬At x y x.length k)->
  (partsFrom x y.length a Z0).map tl=vO (tl y) 0 [] ((tl x).drop a)
 |[],a,f,ha,h,hn=>by
  have e:=h;subst e;show [tl (strSub x f x.length)]=_;have run:=Df (tl y) (tl x) ((tl x).length-f) f [] () (λk h1 _=>Vg hy (hn k h1));have e2:f+((tl x).length-f)=(tl x).length:=by omega
  rw[e2,drop_length,De,pK,qX (by rw[dU] <;>omega)]at run;rw[run,AH]
 |c::r,a,f,ha,h,hn=>by
  obtain⟨h1,h2,h3,h4⟩:=h;have hc:=h2.1;have hx:=ym x;have hl:=ym y;have ih:=BD hy r (c+y.length) f () h4 hn;show tl (strSub x a c)::(partsFrom x y.length (c+y.length) r).map tl=_;have run:=Df (tl y) (tl x) (c-a) a [] () (λk k1 k2=>Vg hy (h3 k k1 ()));have e2:a+(c-a)=c:=by omega
  rw[e2,pK,W6 hy ((OS hy c).mp h2)]at run;rw[run,ih,BA,hl]
def Ml x y (hy:tl y≠ []) (hk:¬Builtin.Str.strKind x<Builtin.Str.strKind y):(Txt.split x y).map tl=vO (tl y) 0 [] (tl x):=by
 obtain⟨f,g,hn⟩:=occ_tight x y (ac9 hy);have key:=BD hy _ 0 f (cv _) g hn;rw[pV]at key;have BE:occurrences x y 0 x.length (x.length+1)=[]->[x].map tl=vO (tl y) 0 [] (tl x):=λho=>by
  rw[ho]at key;rw[<-key];show [tl x]=[tl (strSub x 0 x.length)];rw[sub_whole]
 unfold Txt.split;by_cases h1:(decide (x.length<y.length)||decide (Builtin.Str.strKind x<Builtin.Str.strKind y))=true
 .rw[ah h1];have eK:x.length<y.length:=by
   simp only[Bool.or_eq_true,decide_eq_true_eq]at h1;obtain h|h:=h1
   .exact h
   .exact absurd h hk
  refine BE ?_;cases ho:occurrences x y 0 x.length (x.length+1)with
  |nil=>rfl
  |cons c r=>
   rw[ho]at g;have hc:=g.2.1.1;omega
 .rw[af h1];by_cases h2:(occurrences x y 0 x.length (x.length+1)).isEmpty=true
  .rw[ah h2];exact BE (isEmpty_iff.mp h2)
  .rw[af h2,partsBetween_eq];exact key
def S5{y:Str}(h:y.cps.all (·<256)=true):¬Builtin.Str.strKind x<Builtin.Str.strKind y:=by
 have e:Builtin.Str.strKind y=1:=by unfold PySem.Builtin.Str.strKind;rw[ah h]
 unfold PySem.Builtin.Str.strKind;split
 .omega
 .split<;>omega
noncomputable def BF(S:List Nat):List (List Nat)->List Nat
 |[]=>[]|[p]=>p
 |p::q::r=>p++(S++BF S (q::r))
theorem Kk y:∀parts:List Str,tl (Str.join y parts)=BF (tl y) (parts.map tl)
 |[]=>rfl|[_]=>rfl
 |x::z::r=>by
  show tl (x++y++Str.join y (z::r))=tl x++(tl y++BF (tl y) ((z::r).map tl));rw[Bz,Bz,Kk y (z::r),iR]
def join_eq y parts:Txt.join y parts=Str.join y parts:=glued_eq_join y parts
end TL
end
namespace L2
open PySem PySem.Spec PyProof.Rows
theorem BG:∀l:List (Str×Tok),Vals ((l.map (·.1)).map V.str) (strValues l)
 |[]=>.nil|p::r=>.cons ⟨p.2,rfl⟩ (BG r)
theorem mR:∀{ys}{us},Vals (ys.map V.str) us->StrsAre us ys
 |[],_,.nil=>.nil
 |y::ys,_,.cons r t=>by
  obtain⟨k,rfl⟩:=r;exact .cons y k (mR t)
def yn(ys:List Str):Hp->VK->Prop:=λH Q=>∀p,H p=none->Q (.ref p) (upd H p (.lst (ys.map V.str)))
section
variable {Q:VK}
def uB{l:List (Str×Tok)}{ys:List Str}(I:Inv X pins σ H s)(e:l.map (·.1)=ys)(hz:ys.length<=sizeLine)(h:yn ys H Q):
  EP X pins σ Q (.ref s.heap.objs.size) {s with toks:=k,heap:=s.heap.push {cls:=.type "list",data:=.seq (strValues l).toArray}} :=by
 have hp:=I.bQ.fresh (aQ _);refine⟨.ref s.heap.objs.size,upd H s.heap.objs.size (.lst (ys.map V.str)),I.laid (λb u q=>bN _ q) (aQ _) ⟨by rw[az];exact hz,strValues l,_,?_,bq _ rfl⟩,rfl,h _ hp⟩;rw[<-e];exact BG l
end
section
def OT:Ov X "str.split" (λx xs H Q=>∃a b,x=.str a/\xs=[.str b]/\(b.length==0)=false/\a.length+2<=sizeLine/\yn (Txt.split a b) H Q):=by
 intro pins s σ H x xs v us Q I rx rs h;obtain⟨a,b,rfl,rfl,hb,hz,h⟩:=h;obtain⟨t,rfl⟩:=rx;cases rs with
 |cons r1 rs=>
  cases rs;obtain⟨u,rfl⟩:=r1;have hl:=aW (PyProof.Rows.split_le a b) hz;have hn:(Builtin.Str.partsBetween a (Builtin.Str.occurrences a b 0 a.length (a.length+1)) b.length).length<=sizeLine:=by
   have e1:=StrLaws.occ_length_le a b 0 a.length (a.length+1);rw[length_partsBetween];omega
  cases h1:(decide (a.length<b.length)||decide (Builtin.Str.strKind a<Builtin.Str.strKind b))
  .cases hf:(Builtin.Str.occurrences a b 0 a.length (a.length+1)).isEmpty
   .refine iw wI (mK _ _ _) F.entry_str_split (F.args_str_split_2 _ _) (meets_str_split_sep a b t u h1 hb hf () hn) ?_;rw[strsFrom_eq];exact uB I ((numbered_texts _ _).trans ((af (ne_true_of_eq_false h1)).trans (af (ne_true_of_eq_false hf))).symm) hl h
   .refine iw wI (mK _ _ _) F.entry_str_split (F.args_str_split_2 _ _) (meets_str_split_not_found a b t u h1 hb hf) ?_;exact uB (l:=[(a,t)]) (k:=s.toks) I ((af (ne_true_of_eq_false h1)).trans (ah hf)).symm hl h
  .refine iw wI (mK _ _ _) F.entry_str_split (F.args_str_split_2 _ _) (meets_str_split_cannot_occur a b t u h1) ?_;exact uB (l:=[(a,t)]) (k:=s.toks) I (ah h1).symm hl h
def S7:Ov X "str.join" (λx xs H Q=>∃a p,∃ys:List Str,x=.str a/\xs=[.ref p]/\(aJ X.K H p (ys.map V.str)\/jF X.K H p (ys.map V.str))/\
  (ys.map (·.length)).sum+ys.length*a.length<=16777216/\Q (.str (Txt.join a ys)) H):=by
 intro pins s σ H x xs v us Q I rx rs h;obtain⟨a,p,ys,rfl,rfl,hp,hz,h⟩:=h;obtain⟨t,rfl⟩:=rx;cases rs with
 |cons r1 rs=>
  cases rs;cases r1;obtain hp|hp:=hp
  .obtain⟨aR,r,⟨o,n,ho,hc,_,hd⟩,_⟩:=I.list hp;exact PyProof.Rows.join_list ⟨o,ho,hc,n,hd⟩ (by rw[sH];exact mR r) hz λt' k=>⟨.str _,H,I.tok k,⟨t',rfl⟩,h⟩
  .obtain⟨aR,r,ht,_⟩:=I.tuple hp;exact PyProof.Rows.join_tuple ht (by rw[sH];exact mR r) hz λt' k=>⟨.str _,H,I.tok k,⟨t',rfl⟩,h⟩
def mt0{id:String}{C:Str->Prop}{g:Str->V}(rule:∀a t s Q,C a->(∀u k,RelV (g a) u->Q u {s with toks:=k})->
  wpAny (model X.prog X.w) X.A (call (.builtin id) [.str a t]) Q X.xe s):Ov X id (λx xs H Q=>∃a,x=.str a/\xs=[]/\C a/\Q (g a) H):=by
 intro pins s σ H x xs v us Q I rx rs h;obtain⟨a,rfl,rfl,hc,h⟩:=h;obtain⟨t,rfl⟩:=rx;cases rs;exact rule a t s _ hc λu k r=>⟨g a,H,I.tok k,r,h⟩
def Ic:Ov X "str.isdigit" (λx xs H Q=>∃a,x=.str a/\xs=[]/\True/\Q (.bl (Txt.isdigit a)) H):=
 mt0 (C:=λ_=>True) λ_ _ s _ _ h=>PySem.SC.isdigit (h _ s.toks rfl)
def Dg:lF X (.type "int") (λxs H Q=>eT xs λa=>∃n,PySem.intText? a=some n/\a.length<=640/\Q (.int n) H):=by
 intro pins s σ H xs us Q I rs h;obtain⟨a,rfl,n,hn,hl,h⟩:=CP.mp h;cases rs with
 |cons r1 rs=>
  cases rs;obtain⟨t,rfl⟩:=r1;exact PySem.W.KIN.call_text hn hl ⟨.int n,H,I.tok _,⟨_,rfl⟩,h⟩
end
section
variable {o:Expr} {to:TE}
def tM0(r:V->List V->Hp->VK->Prop)(to:TE):TE:=λσ H Q=>to σ H λx H1=>eS x λ_=>r x [] H1 Q
def Z3(r:V->List V->Hp->VK->Prop)(to te:TE):TE:=λσ H Q=>to σ H λx H1=>eS x λ_=>te σ H1 λy H2=>r x [y] H2 Q
def Z4{id:String}{apos pos:Pos}{r:V->List V->Hp->VK->Prop}(slot:Slot "str" name id)(ty:typeOf (.builtin id)=pure (.type "method_descriptor"))(rule:Ov X id r)(ho:PE X o to)(jH:attributeBase o name X.env (eval o X.env)=eval o X.env:=by rfl)(hline:(apos.endLine==pos.line)=true:=by rfl):PE X (.Call (.Attribute o name apos) [] [] pos) (tM0 r to):=by
 intro pins s σ H Q I h;refine PySem.Call_method0 jH hline (cJ (ho pins s σ H _ I h) λv s1 Z5=>?_);obtain⟨x,H1,I1,r1,q1⟩:=Z5;obtain⟨a,rfl,q1⟩:=HI.mp q1;obtain⟨t,rfl⟩:=_root_.id r1;exact⟨"str",_,F.plainAttrs_str,slot,ty,mK _ _ _,(λ_ e=>nomatch e),ui rfl (PySem.evalArgs_none (rule pins s1 σ H1 _ [] _ [] Q I1 r1 .nil q1))⟩
def Vh{id:String}{apos pos:Pos}{r:V->List V->Hp->VK->Prop}(slot:Slot "str" name id)(ty:typeOf (.builtin id)=pure (.type "method_descriptor"))(rule:Ov X id r)(ho:PE X o to)(he:PE X e te)(hs:starEach [e] X.env=[(false,eval e X.env)]:=by rfl)(jH:attributeBase o name X.env (eval o X.env)=eval o X.env:=by rfl)(hline:(apos.endLine==pos.line)=true:=by rfl):
  PE X (.Call (.Attribute o name apos) [e] [] pos) (Z3 r to te):=by
 intro pins s σ H Q I h;refine PySem.Call_method1 jH hs hline (cJ (ho pins s σ H _ I h) λv s1 Z6=>?_);obtain⟨x,H1,I1,r1,q1⟩:=Z6;obtain⟨a,rfl,q1⟩:=HI.mp q1;obtain⟨t,rfl⟩:=_root_.id r1;refine⟨"str",_,F.plainAttrs_str,slot,ty,mK _ _ _,(λ_ e=>nomatch e),ui rfl (sq (mw ?_))⟩;refine cJ (he pins s1 σ H1 _ I1 q1) λu s2 Z7=>?_;obtain⟨y,H2,I2,r2,q2⟩:=Z7;exact rg (rule pins s2 σ H2 _ [y] _ [u] Q I2 r1 (.cons r2 .nil) q2)
def yo{apos pos:Pos}(ho:PE X o to)(he:PE X e te)(hs:starEach [e] X.env=[(false,eval e X.env)]:=by rfl)(jH:attributeBase o "split" X.env (eval o X.env)=eval o X.env:=by rfl)(hline:(apos.endLine==pos.line)=true:=by rfl):
  PE X (.Call (.Attribute o "split" apos) [e] [] pos) (Z3 (λx xs H Q=>∃a b,x=.str a/\xs=[.str b]/\(b.length==0)=false/\a.length+2<=sizeLine/\yn (Txt.split a b) H Q) to te):=
 Vh wI F.type_str_split OT ho he hs jH hline
def S8{apos pos:Pos}(ho:PE X o to)(he:PE X e te)(hs:starEach [e] X.env=[(false,eval e X.env)]:=by rfl)(jH:attributeBase o "join" X.env (eval o X.env)=eval o X.env:=by rfl)(hline:(apos.endLine==pos.line)=true:=by rfl):
  PE X (.Call (.Attribute o "join" apos) [e] [] pos) (Z3 (λx xs H Q=>∃a p,∃ys:List Str,x=.str a/\xs=[.ref p]/\(aJ X.K H p (ys.map V.str)\/jF X.K H p (ys.map V.str))/\
   (ys.map (·.length)).sum+ys.length*a.length<=16777216/\Q (.str (Txt.join a ys)) H) to te):=
 Vh F.slot_str_join F.type_str_join S7 ho he hs jH hline
end
section
def yp:ou X (compareOp .In) (λx y H Q=>∃(c:Nat) (z:Str),x=.str ⟨#[c]⟩/\y=.str z/\Q (.bl (decide (c∈z.cps.toList))) H):=by
 intro pins s σ H x y v u Q I rx ry h;obtain⟨c,z,rfl,rfl,q⟩:=h;obtain⟨t,rfl⟩:=rx;obtain⟨t',rfl⟩:=ry;exact PyProof.Rows.in_str (bJ I q (PySem.StrLaws.found_one z c).symm)
def AI:ou X (compareOp .NotIn) (λx y H Q=>∃(c:Nat) (z:Str),x=.str ⟨#[c]⟩/\y=.str z/\Q (.bl (!decide (c∈z.cps.toList))) H):=by
 intro pins s σ H x y v u Q I rx ry h;obtain⟨c,z,rfl,rfl,q⟩:=h;obtain⟨t,rfl⟩:=rx;obtain⟨t',rfl⟩:=ry;exact PyProof.Rows.notIn_str (bJ I q (bW Bool.not (PySem.StrLaws.found_one z c).symm))
end
end L2
section
namespace L2
open PySem PySem.Spec PyProof.Rows
open PySem.W (WData Codec OpenSpec Well WellAll ReadsW ReadsAllW)
mutual
inductive Dw(K:PySem.W.Frag)(H:Hp):V->WData->Prop
 |cT:Dw K H .cT .none
 |bl (b:Bool):Dw K H (.bl b) (.bool b)
 |int (i:Int):Dw K H (.int i) (.int i)
 |str (x:Str):Dw K H (.str x) (.str x)
 |Hw (b:Array UInt8):Dw K H (.Hw b) (.bytes b.toList)
 |lst {a:Addr} {xs:List V} {ds:List WData} :aJ K H a xs->nQ K H xs ds->Dw K H (.ref a) (.list ds)
 |tup {a:Addr} {xs:List V} {ds:List WData} :jF K H a xs->nQ K H xs ds->Dw K H (.ref a) (.tuple ds)
inductive nQ(K:PySem.W.Frag)(H:Hp):List V->List WData->Prop
 |nil:nQ K H [] []
 |cons {v:V} {vs:List V} {d:WData} {ds:List WData} :Dw K H v d->nQ K H vs ds->nQ K H (v::vs) (d::ds)
end
theorem Kl:∀ns:List Int,nQ K H (ns.map V.int) (ns.map WData.int)
 |[]=>.nil|n::r=>.cons (.int n) (Kl r)
theorem w8:∀(ns:List Int) xs,nQ K H xs (ns.map WData.int)->xs=ns.map V.int
 |[],xs,h=>by
  cases h;rfl
 |n::r,xs,h=>by
  cases h with
  |cons h1 h2=>
   cases h1;rw[w8 r _ h2] <;>rfl
section
variable {R:PySem.W.WRecords} {cl:Str->Option Addr}
def W7(bQ:mO P w H h)(KX:K.In h)(q:aJ K H a xs):∃(aR:List Value) (o:Obj) (n:Nat),Vals xs aR/\h.get? a=some o/\o.cls=.type "list"/\o.data=.seq aR.toArray n:=by
 obtain q|⟨o,aR,n,e,hc,_,hd,_,hv⟩:=q
 .obtain⟨_,aR,n,hv,e⟩:=(show dB P w H h a (.lst xs)from q.ok bQ);exact⟨aR,_,n,hv,e,rfl,rfl⟩
 .exact⟨aR.toList,o,n,hv,KX _ _ e,hc,by simp[hd]⟩
def W8(bQ:mO P w H h)(KX:K.In h)(q:jF K H a xs):∃(aR:List Value) (o:Obj) (n:Nat),Vals xs aR/\h.get? a=some o/\o.cls=.type "tuple"/\o.data=.seq aR.toArray n:=by
 obtain q|⟨o,aR,n,e,hc,hd,_,hv⟩:=q
 .obtain⟨_,aR,hv,o,e,hc,n,hd⟩:=(show dB P w H h a (.tup xs)from q.ok bQ);exact⟨aR,o,n,hv,e,hc,hd⟩
 .exact⟨aR.toList,o,n,hv,KX _ _ e,hc,by simp[hd]⟩
mutual
theorem Dw.reads(bQ:mO P w H h)(KX:K.In h):∀(d:WData)(v:V)(u:Value),Dw K H v d->RelV v u->∃as,ReadsW R cl h u d as
 |.none,_,_,x,r=>by
  cases x;cases r;exact⟨_,ReadsW.none⟩
 |.bool b,_,_,x,r=>by
  cases x;cases r;exact⟨_,ReadsW.bool b⟩
 |.int i,_,_,x,r=>by
  cases x;obtain⟨t,rfl⟩:=r;exact⟨_,ReadsW.int i t⟩
 |.str s,_,_,x,r=>by
  cases x;obtain⟨t,rfl⟩:=r;exact⟨_,ReadsW.str s t⟩
 |.bytes b,_,_,x,r=>by
  cases x;obtain⟨t,rfl⟩:=r;exact⟨_,ReadsW.bytes _ t⟩
 |.list ds,_,_,x,r=>by
  cases x with
  |lst hs ha=>
   cases r;obtain⟨aR,o,n,rv,ho,hc,hd⟩:=W7 bQ KX hs;obtain⟨as,hr⟩:=Dw.readsAll bQ KX ds _ aR ha rv;exact⟨_,ReadsW.list ho hc hd hr⟩
 |.tuple ds,_,_,x,r=>by
  cases x with
  |tup hs ha=>
   cases r;obtain⟨aR,o,n,rv,ho,hc,hd⟩:=W8 bQ KX hs;obtain⟨as,hr⟩:=Dw.readsAll bQ KX ds _ aR ha rv;exact⟨_,ReadsW.tuple ho hc hd hr⟩
 |.float _,_,_,x,_=>by cases x
 |.dict _,_,_,x,_=>by cases x
 |.bytearray _,_,_,x,_=>by cases x
 |.set _,_,_,x,_=>by cases x
 |.frozenset _,_,_,x,_=>by cases x
 |.obj _ _,_,_,x,_=>by cases x
theorem Dw.readsAll(bQ:mO P w H h)(KX:K.In h):∀(ds:List WData)(vs:List V)(us:List Value),nQ K H vs ds->Vals vs us->∃as,ReadsAllW R cl h us ds as
 |[],_,_,x,r=>by
  cases x;cases r;exact⟨_,ReadsAllW.nil⟩
 |d::ds,_,_,x,r=>by
  cases x with
  |cons h1 h2=>
   cases r with
   |cons r1 r2=>
    obtain⟨as,q1⟩:=Dw.reads bQ KX d _ _ h1 r1;obtain⟨bs,q2⟩:=Dw.readsAll bQ KX ds _ _ h2 r2;exact⟨_,ReadsAllW.cons q1 q2⟩
end
end
mutual
noncomputable def NV:WData->Bool
 |.none=>true|.bool _=>true
 |.int _=>true|.str _=>true
 |.bytes _=>true|.list xs=>AJ xs
 |.tuple xs=>AJ xs|_=>false
noncomputable def AJ:List WData->Bool
 |[]=>true|x::r=>NV x&&AJ r
end
theorem FC{f:α->WData}(h:∀a,NV (f a)=true):∀l:List α,AJ (l.map f)=true
 |[]=>rfl
 |x::r=>by
  show(NV (f x)&&AJ (r.map f))=true;rw[h x,FC h r] <;>rfl
theorem oE:∀(c:Codec) a,NV (c.enc a)=true
 |.unit,_=>rfl|.bool,_=>rfl
 |.int _ _,_=>rfl|.nat _ _,_=>rfl
 |.u8,_=>rfl|.bytes _ _,_=>rfl
 |.text _ _ _ _,_=>rfl|.list _ _ c,a=>FC (λx=>oE c x) a
 |.pair c d,a=>by
  show(NV (c.enc a.1)&&(NV (d.enc a.2)&&true))=true;rw[oE c a.1,oE d a.2] <;>rfl
 |.triple c d e,a=>by
  show(NV (c.enc a.1)&&(NV (d.enc a.2.1)&&(NV (e.enc a.2.2)&&true)))=true;rw[oE c a.1,oE d a.2.1,oE e a.2.2] <;>rfl
 |.option c,none=>rfl|.option c,some x=>oE c x
theorem BH:∀cs a,AJ (Codec.encAll cs a)=true
 |[],_=>rfl
 |c::cs,a=>by
  show(NV (c.enc a.1)&&AJ (Codec.encAll cs a.2))=true;rw[oE c a.1,BH cs a.2] <;>rfl
theorem ro:∀{xs}{d},d∈xs->d.weight<=WData.weightAll xs
 |[],d,h=>absurd h ∅
 |x::r,d,h=>by
  show d.weight<=x.weight+1+WData.weightAll r;obtain e|m:=mem_cons.mp h
  .rw[e];omega
  .have z:=ro m;omega
noncomputable def toV:Value->V
 |.none=>.cT|.bool b=>.bl b
 |.int i _=>.int i|.str x _=>.str x
 |.bytes b _=>.Hw b|.ref a=>.ref a
 |_=>.cT
def Mm(A:List Addr):Value->Prop
 |.none=>True|.bool _=>True
 |.int _ _=>True|.str _ _=>True
 |.bytes _ _=>True|.ref a=>a∈A
 |_=>False
def Mm.mono{A B:List Addr}(h:∀a∈A,a∈B):∀{u},Mm A u->Mm B u:=λ{u} x=>by
 cases u with
 |ref a=>exact h a x|none=>trivial
 |bool b=>trivial|int i t=>trivial
 |str s t=>trivial|bytes b t=>trivial
 |_=>exact False.elim x
def OU{A:List Addr}(x:Mm A u):RelV (toV u) u:=by
 cases u with
 |ref a=>rfl|none=>rfl
 |bool b=>rfl|int i t=>exact⟨t,rfl⟩
 |str s t=>exact⟨t,rfl⟩|bytes b t=>exact⟨t,rfl⟩
 |_=>exact False.elim x
theorem lL{A:List Addr}:∀{vs},(∀u∈vs,Mm A u)->Vals (vs.map toV) vs
 |[],_=>.nil|u::r,h=>.cons (OU (h u (bZ ..))) (lL λx hx=>h x (bE _ hx))
def nS(h:Heap)(A:List Addr)(a:Addr):Prop:=∃vs:List Value,vs.length<=sizeLine/\(∀u∈vs,Mm A u)/\
 (h.get? a=some {cls:=.type "list",data:=.seq vs.toArray}\/h.get? a=some {cls:=.type "tuple",data:=.seq vs.toArray})
theorem nS.mono{A B:List Addr}(k:∀a∈A,a∈B)(x:nS h A a):nS h B a:=by
 obtain⟨vs,h1,h2,h3⟩:=x;exact⟨vs,h1,λu hu=>(h2 u hu).mono k,h3⟩
theorem kj{P:Params}:∀{vs}{ds},WellAll P h vs ds->vs.length=ds.length
 |_,_,.nil=>rfl
 |_,_,.cons _ b=>by
  show _+1=_+1;rw[kj b]
def BI{P:Params}{v:Value}(x:Well P h v (.list ds)):∃(a:Addr) (vs:List Value),v=.ref a/\h.get? a=some {cls:=.type "list",data:=.seq vs.toArray}/\WellAll P h vs ds:=by
 cases x with
 |list ho fu=>exact⟨_,_,rfl,ho,fu⟩
def yq{P:Params}{v:Value}(x:Well P h v (.tuple ds)):∃(a:Addr) (vs:List Value),v=.ref a/\h.get? a=some {cls:=.type "tuple",data:=.seq vs.toArray}/\WellAll P h vs ds:=by
 cases x with
 |tuple ho fu=>exact⟨_,_,rfl,ho,fu⟩
def BJ{P:Params}(x:WellAll P h us (d::ds)):∃(v:Value) (vs:List Value),us=v::vs/\Well P h v d/\WellAll P h vs ds:=by
 cases x with
 |cons a b=>exact⟨_,_,rfl,a,b⟩
def Km(h:n<=1048576):n<=sizeLine:=aW h ⋯
section
variable {P:Params}
mutual
theorem OV:∀d v,Well P h v d->NV d=true->d.weight<=1048576->∃A:List Addr,Mm A v/\∀a∈A,nS h A a
 |.none,_,x,_,_=>by
  cases x;exact⟨[],trivial,λa m=>absurd m ∅⟩
 |.bool b,_,x,_,_=>by
  cases x;exact⟨[],trivial,λa m=>absurd m ∅⟩
 |.int i,_,x,_,_=>by
  cases x;exact⟨[],trivial,λa m=>absurd m ∅⟩
 |.str s,_,x,_,_=>by
  cases x;exact⟨[],trivial,λa m=>absurd m ∅⟩
 |.bytes b,_,x,_,_=>by
  cases x;exact⟨[],trivial,λa m=>absurd m ∅⟩
 |.list ds,_,x,p,z=>by
  obtain⟨a,vs,rfl,ho,fu⟩:=BI x;have z2:=z;obtain⟨A,h1,h2⟩:=tH ds _ fu p λd hd=>aW (ro hd) z2;have k:∀b∈A,b∈a::A:=λb hb=>bE _ hb;refine⟨a::A,bZ ..,λb hb=>?_⟩;obtain e|m:=mem_cons.mp hb
  .rw[e];exact⟨vs,Km (by rw[kj fu];exact aW (PySem.W.length_le_weightAllW ds) z2),λu hu=>(h1 u hu).mono k,.inl ho⟩
  .exact(h2 b m).mono k
 |.tuple ds,_,x,p,z=>by
  obtain⟨a,vs,rfl,ho,fu⟩:=yq x;have z2:=z;obtain⟨A,h1,h2⟩:=tH ds _ fu p λd hd=>aW (ro hd) z2;have k:∀b∈A,b∈a::A:=λb hb=>bE _ hb;refine⟨a::A,bZ ..,λb hb=>?_⟩;obtain e|m:=mem_cons.mp hb
  .rw[e];exact⟨vs,Km (by rw[kj fu];exact aW (PySem.W.length_le_weightAllW ds) z2),λu hu=>(h1 u hu).mono k,.inr ho⟩
  .exact(h2 b m).mono k
 |.float _,_,_,p,_=>Bool.noConfusion (show false=true from p)
 |.dict _,_,_,p,_=>Bool.noConfusion (show false=true from p)
 |.bytearray _,_,_,p,_=>Bool.noConfusion (show false=true from p)
 |.set _,_,_,p,_=>Bool.noConfusion (show false=true from p)
 |.frozenset _,_,_,p,_=>Bool.noConfusion (show false=true from p)
 |.obj _ _,_,_,p,_=>Bool.noConfusion (show false=true from p)
theorem tH:∀ds vs,WellAll P h vs ds->AJ ds=true->(∀d∈ds,d.weight<=1048576)->∃A:List Addr,(∀u∈vs,Mm A u)/\∀a∈A,nS h A a
 |[],_,x,_,_=>by
  cases x;exact⟨[],λu m=>absurd m ∅,λa m=>absurd m ∅⟩
 |d::ds,_,x,p,z=>by
  obtain⟨v,vs,rfl,x1,x2⟩:=BJ x;have q:=Bool.and_eq_true_iff.mp p;obtain⟨A,a1,a2⟩:=OV d v x1 q.1 (z d (bZ ..));obtain⟨B,b1,b2⟩:=tH ds vs x2 q.2 λe he=>z e (bE _ he);have kA:∀b∈A,b∈A++B:=λb hb=>mem_append.mpr (.inl hb);have kB:∀b∈B,b∈A++B:=λb hb=>mem_append.mpr (.inr hb);refine⟨A++B,λu hu=>?_,λb hb=>?_⟩
  .obtain e|m:=mem_cons.mp hu
   .rw[e];exact a1.mono kA
   .exact(b1 u m).mono kB
  .obtain m|m:=mem_append.mp hb
   .exact(a2 b m).mono kA
   .exact(b2 b m).mono kB
end
end
noncomputable def S9(o:Obj):Option HO:=match o.data with
 |.seq vs _=>if(o.cls==Value.type "list")=true then some (.Ar o (.lst (vs.toList.map toV)))else some (.Ar o (.tup (vs.toList.map toV)))
 |_=>none
noncomputable def mS(K:PySem.W.Frag)(h:Heap)(A:List Addr):Hp:=λb=>if b∈A then(if(K.lookup b).isNone=true then(h.get? b).bind S9 else none)else none
def FD(H:Hp):Prop:=∀b,H b=none\/∃o u,H b=some (.Ar o u)
def FE(vs:List Value):S9 {cls:=.type "list",data:=.seq vs.toArray} =some (.Ar {cls:=.type "list",data:=.seq vs.toArray} (.lst (vs.map toV))):=by
 show(if(Value.type "list"==Value.type "list")=true then some (HO.Ar {cls:=.type "list",data:=.seq vs.toArray} (.lst (vs.toArray.toList.map toV)))else some (HO.Ar {cls:=.type "list",data:=.seq vs.toArray} (.tup (vs.toArray.toList.map toV))))=_;rw[ah (beq_self_eq_true _)]
def FG(vs:List Value):S9 {cls:=.type "tuple",data:=.seq vs.toArray} =some (.Ar {cls:=.type "tuple",data:=.seq vs.toArray} (.tup (vs.map toV))):=by
 show(if(Value.type "tuple"==Value.type "list")=true then some (HO.Ar {cls:=.type "tuple",data:=.seq vs.toArray} (.lst (vs.toArray.toList.map toV)))else some (HO.Ar {cls:=.type "tuple",data:=.seq vs.toArray} (.tup (vs.toArray.toList.map toV))))=_;rw[af ⋯]
section
variable {A:List Addr}
def w9{o:Obj}(hb:b∈A)(hk:K.lookup b=none)(e:h.get? b=some o):mS K h A b=S9 o:=by
 unfold mS;rw[ah hb,hk,ah (show(none:Option Obj).isNone=true from rfl),e] <;>rfl
def S_{u:HO}(q:mS K h A b=some u):b∈A/\K.lookup b=none:=by
 unfold mS at q;by_cases hb:b∈A
 .rw[ah hb]at q;cases hk:K.lookup b with
  |none=>exact⟨hb,rfl⟩
  |some o=>
   rw[hk,af ∅]at q;cases q
 .rw[af hb]at q;cases q
def w_(ar:∀a∈A,nS h A a){u:HO}(q:mS K h A b=some u):K.lookup b=none/\∃vs:List Value,vs.length<=sizeLine/\(∀u∈vs,Mm A u)/\
  ((h.get? b=some {cls:=.type "list",data:=.seq vs.toArray}/\u=.Ar {cls:=.type "list",data:=.seq vs.toArray} (.lst (vs.map toV)))\/
   (h.get? b=some {cls:=.type "tuple",data:=.seq vs.toArray}/\u=.Ar {cls:=.type "tuple",data:=.seq vs.toArray} (.tup (vs.map toV)))):=by
 obtain⟨hb,hk⟩:=S_ q;obtain⟨vs,h1,h2,h3⟩:=ar b hb;refine⟨hk,vs,h1,h2,?_⟩;obtain e|e:=h3
 .rw[w9 hb hk e,FE]at q;exact .inl ⟨e,(Option.some.inj q).symm⟩
 .rw[w9 hb hk e,FG]at q;exact .inr ⟨e,(Option.some.inj q).symm⟩
def Mp(ar:∀a∈A,nS h A a):FD (mS K h A):=λb=>by
 cases q:mS K h A b with
 |none=>exact .inl rfl
 |some u=>
  obtain⟨_,vs,_,_,⟨_,e⟩|⟨_,e⟩⟩:=w_ ar q
  .exact .inr ⟨_,_,by rw[e]⟩
  .exact .inr ⟨_,_,by rw[e]⟩
def Ta(ar:∀a∈A,nS h A a):mO P w (mS K h A) h:=λb u q=>by
 obtain⟨_,vs,h1,h2,⟨e,rfl⟩|⟨e,rfl⟩⟩:=w_ ar q
 .exact⟨e,by rw[az];exact h1,vs,_,lL h2,e⟩
 .exact⟨e,by rw[az];exact h1,vs,lL h2,_,e,rfl,_,rfl⟩
def xa{c c':Value}(e:(some {cls:=c,data:=.seq vs.toArray} :Option Obj)=some {cls:=c',data:=.seq us.toArray}):c=c'/\vs=us:=by
 have e1:=Option.some.inj e;have e2:=bW Obj.cls e1;have e3:=bW Obj.data e1;injection e3 with e4;refine⟨e2,?_⟩;have e5:=bW Array.toList e4;simpa using e5
def ac_(KX:K.In h)(ar:∀a∈A,nS h A a)(ha:a∈A)(e:h.get? a=some {cls:=.type "list",data:=.seq vs.toArray}):(∀u∈vs,Mm A u)/\aJ K (mS K h A) a (vs.map toV):=by
 obtain⟨us,h1,h2,h3⟩:=ar a ha;have hu:us=vs:=by
  obtain q|q:=h3
  .rw[e]at q;exact(xa q).2.symm
  .rw[e]at q;exact absurd (Value.type.inj (xa q).1) ⋯
 subst hu;refine⟨h2,?_⟩;cases hk:K.lookup a with
 |none=>exact .inl (.inr ⟨_,by rw[w9 ha hk e,FE]⟩)
 |some o=>
  have e2:=KX a o hk;rw[e]at e2;obtain rfl:=Option.some.inj e2;exact .inr ⟨_,us.toArray,_,hk,rfl,rfl,rfl,by rw[cI];exact h1,‹lL h2›⟩
def ada(KX:K.In h)(ar:∀a∈A,nS h A a)(ha:a∈A)(e:h.get? a=some {cls:=.type "tuple",data:=.seq vs.toArray}):(∀u∈vs,Mm A u)/\jF K (mS K h A) a (vs.map toV):=by
 obtain⟨us,h1,h2,h3⟩:=ar a ha;have hu:us=vs:=by
  obtain q|q:=h3
  .rw[e]at q;exact absurd (Value.type.inj (xa q).1) ⋯
  .rw[e]at q;exact(xa q).2.symm
 subst hu;refine⟨h2,?_⟩;cases hk:K.lookup a with
 |none=>exact .inl (.inr ⟨_,by rw[w9 ha hk e,FG]⟩)
 |some o=>
  have e2:=KX a o hk;rw[e]at e2;obtain rfl:=Option.some.inj e2;exact .inr ⟨_,us.toArray,_,hk,rfl,rfl,by rw[cI];exact h1,‹lL h2›⟩
mutual
theorem W9{Pm:Params}(KX:K.In h)(ar:∀a∈A,nS h A a):∀(d:WData)(v:Value),Well Pm h v d->NV d=true->Mm A v->Dw K (mS K h A) (toV v) d
 |.none,_,x,_,_=>by
  cases x;exact .cT
 |.bool b,_,x,_,_=>by
  cases x;exact .bl b
 |.int i,_,x,_,_=>by
  cases x;exact .int i
 |.str s,_,x,_,_=>by
  cases x;exact .str s
 |.bytes b,_,x,_,_=>by
  cases x;have z:=Dw.Hw (K:=K) (H:=mS K h A) b.toArray;exact z
 |.list ds,_,x,p,hu=>by
  obtain⟨a,vs,rfl,ho,fu⟩:=BI x;obtain⟨h2,hs⟩:=ac_ KX ar hu ho;exact .lst hs (Dh KX ar ds _ fu p h2)
 |.tuple ds,_,x,p,hu=>by
  obtain⟨a,vs,rfl,ho,fu⟩:=yq x;obtain⟨h2,hs⟩:=ada KX ar hu ho;exact .tup hs (Dh KX ar ds _ fu p h2)
 |.float _,_,_,p,_=>Bool.noConfusion (show false=true from p)
 |.dict _,_,_,p,_=>Bool.noConfusion (show false=true from p)
 |.bytearray _,_,_,p,_=>Bool.noConfusion (show false=true from p)
 |.set _,_,_,p,_=>Bool.noConfusion (show false=true from p)
 |.frozenset _,_,_,p,_=>Bool.noConfusion (show false=true from p)
 |.obj _ _,_,_,p,_=>Bool.noConfusion (show false=true from p)
theorem Dh{Pm:Params}(KX:K.In h)(ar:∀a∈A,nS h A a):∀(ds:List WData)(vs:List Value),WellAll Pm h vs ds->AJ ds=true->(∀u∈vs,Mm A u)->nQ K (mS K h A) (vs.map toV) ds
 |[],_,x,_,_=>by
  cases x;exact .nil
 |d::ds,_,x,p,hu=>by
  obtain⟨v,vs,rfl,x1,x2⟩:=BJ x;have q:=Bool.and_eq_true_iff.mp p;exact .cons (W9 KX ar d v x1 q.1 (hu _ (bZ ..))) (Dh KX ar ds vs x2 q.2 λu m=>hu u (bE _ m))
end
end
def Mq(KX:K.In s₁.heap)(hns:s₁.heap.Ns mainGlobals mg)(hb:s₁.heap.Ns builtinsNs mb)(Z8:∀x:Str,x≠"__name__"->mb x=bootBuiltins x)(W_:s₁.heap.NoLimit)(hg:s₁.gens= #[])(BK:WellAll w.params s₁.heap vals ds)(iz:AJ ds=true)(hwt:∀d∈ds,d.weight<=1048576)(hr:dX k callerA)(F:∀base:Heap,K.In base->base.Ns mainGlobals mg->n9 P w K mg base CX k fa fd ps sp)(Z9:∀s us,us.length=ps.length->BindsTo s fd ⟨us,[]⟩ (ps.zip us))(hlen:ds.length=ps.length)(Au:∀H xs,FD H->nQ K H xs ds->sp xs H (λv H'=>Dw K H' v d0) λ_ _ _=>False)(Z_:∀H e s',CX [] H s₁ (λ_ _ _=>False) e s'->False):
  codeAny (model P w) callerA (.call (.ref fa) ⟨vals,[]⟩) (λr s'=>∃u as,r=.ok (.ret u)/\ReadsW R cl s'.heap u d0 as/\OldK s₁.heap s'.heap/\s'.os=s₁.os/\AllBare s'.gens) s₁:=by
 obtain⟨A,ho,ar⟩:=tH ds vals BK iz hwt;have hO:FD (mS K s₁.heap A):=Mp ar;have bQ:mO P w (mS K s₁.heap A) s₁.heap:=Ta ar;have hS:=Dh KX ar ds vals BK iz ho;have hV:=lL ho;have hK:∀b u,mS K s₁.heap A b=some u->K.lookup b=none:=λb u q=>(w_ ar q).1;have YB:∀{b:Addr}{o:Obj}{es:Array DictEntry}{ep:Nat},s₁.heap.get? b=some o->o.data=.dict es ep->mS K s₁.heap A b=none:=λ{b o es ep} e d=>by
  cases q:mS K s₁.heap A b with
  |none=>rfl
  |some u=>
   obtain⟨_,vs,_,_,⟨e2,_⟩|⟨e2,_⟩⟩:=w_ ar q
   .rw[e2]at e;cases e;have d':=d;cases d'
   .rw[e2]at e;cases e;have d':=d;cases d'
 generalize mS K s₁.heap A=H at hO bQ hS hK YB;have Kn:∀{b:Addr}{o:Obj},s₁.heap.get? b=some o->H b=none->(E_ s₁.heap H).get? b=some o:=λe n=>N4 e n;have nsK:∀{b:Addr}{m:Str->Option Value},s₁.heap.Ns b m->(E_ s₁.heap H).Ns b m:=λ{b m} ⟨o,es,ep,e,d,r⟩=>⟨o,es,ep,Kn e (YB e d),d,r⟩;have nK:∀b o,K.lookup b=some o->H b=none:=λb o e=>by
  cases q:H b with
  |none=>rfl
  |some u=>
   rw[hK b u q]at e;cases e
 have hKb:=λb o e=>Kn (KX b o e) (nK b o e);have hM:Mod K mg (E_ s₁.heap H):=⟨hKb,nsK hns,⟨mb,nsK hb,Z8⟩,let⟨mc,h1,h2⟩:=W_;⟨mc,nsK h1,h2⟩⟩;have e0:Az P w K mg (E_ s₁.heap H) callerA [] s₁ H:=⟨rfl,hM,λb o e=>Sl e,sP (LW _ _),trivial,λb hb=>absurd (show b∈([]:List Addr)from hb) ∅,bQ,.of_eq hg⟩;have hl:vals.length=ps.length:=by rw[kj BK];exact hlen
 refine je ((F _ hKb (nsK hns)).run callerA [] s₁ H ⟨vals,[]⟩ vals (vals.map toV) _ _ hr e0 (Z9 s₁ vals hl) hV (Au H _ hO hS)) λr s' x=>?_;cases r with
 |error e=>exact(Z_ H e s' x).elim
 |ok fl=>
  cases fl with
  |next=>exact False.elim x|brk=>exact False.elim x
  |cont=>exact False.elim x
  |ret u=>
   obtain⟨v,H',os,bare,un,aac,r',q⟩:=x;have kept:=λb o e=>by
    cases q2:H b with
    |none=>exact un.keep b o e q2 (by intro z;exact absurd (show b∈([]:List Addr)from z) ∅) ∅
    |some u2=>
     obtain z|⟨ob,u3,z⟩:=hO b
     .rw[q2]at z;cases z
     .have z2:=un.vL b ob _ z;obtain⟨e1,_⟩:=bQ b _ z;obtain⟨e2,_⟩:=aac b _ z2;rw[e]at e1;cases e1;exact e2
   have KX':=λb o e=>kept b o (KX b o e);obtain⟨as,hrd⟩:=Dw.reads (R:=R) aac KX' d0 v u q r';exact⟨u,as,rfl,hrd,OldK.of_keep kept,os,bare⟩
def yr(h:WData.layableAll ds=true):∀d∈ds,d.weight<=1048576:=λd hd=>
 (PySem.W.layableW_iff.mp (all_eq_true.mp h d hd)).2.2
theorem yt:∀cs a,(Codec.encAll cs a).length=cs.length
 |[],_=>rfl
 |c::cs,a=>by
  show(Codec.encAll cs a.2).length+1=cs.length+1;rw[yt cs a.2]
def Mr{r:OpenSpec}{K:Params->PySem.W.Frag}{CX:World->NT}{sp:World->Sp}(OW:r.wellSaid=true)(Xa:d.params.defaults=[])(hlen:r.args.length=ps.length)(hr:dX k callerA)(hY:∀w h,YP w h->(K w.params).In h)(F:∀w mg fa h,YP w h->(K w.params).In h->h.Ns mainGlobals mg->mg d.name=some (.ref fa)->
   ∃fd:FuncData,(∀s us,us.length=ps.length->BindsTo s fd ⟨us,[]⟩ (ps.zip us))/\
    ∀base:Heap,(K w.params).In base->base.Ns mainGlobals mg->n9 r.prog w (K w.params) mg base (CX w) k fa fd ps (sp w))(Au:∀w H xs a,FD H->Codec.withinAll r.args a=true->Codec.app r.args r.asked a=true->nQ (K w.params) H xs (Codec.encAll r.args a)->
   sp w xs H (λv H'=>Dw (K w.params) H' v (r.ret.enc (Codec.app r.args r.f a))) λ_ _ _=>False)(Z_:∀w H s e s',CX w [] H s (λ_ _ _=>False) e s'->False):
  PySem.W.WalkOS q loose XP YP r d [] (λf vs=>PySem.call f vs):=by
 intro w wZ s₁ mg mb G Y fa o pm cd doc dV kV ho hd Bh hD hmg hg args vals as adb Xb hrd BK hlo;obtain⟨a,e1,e2⟩:=PySem.W.os_pre_some adb;obtain⟨e3,hwi⟩:=Codec.encAll_of_decAll r.args args a e1;subst e3;have KX:=hY w _ Y;obtain⟨fd,hb,hF⟩:=F w mg fa _ Y KX G.T.g hmg;refine PySem.W.enter_call (je (Mq (R:=[]) (cl:=classAt wZ.heap) KX G.T.g G.T.b G.T.builtins G.T.nolimit hg BK (BH _ _) (yr Xb) hr hF hb (by rw[yt];exact hlen)
  (λH xs hO hS=>Au w H xs a hO hwi e2 hS) λH e s'=>Z_ w H s₁ e s') λr' s' hq=>?_)
 obtain⟨u,as',rfl,h1,h2,h3,h4⟩:=hq;exact⟨.inl ⟨u,_,as',rfl,λ_=>rfl,h1,(OpenSpec.post_iff OW hwi _ _).mpr rfl,λz=>Bool.noConfusion (show false=true from z)⟩,h2,h3,h4⟩
def Ie{r:OpenSpec}{K:Params->PySem.W.Frag}{sp:PySem.W.Frag->Sp}(OW:r.wellSaid=true)(Xa:d.params.defaults=[])(hlen:r.args.length=ps.length)(hr:dX k callerA)(hY:∀w h,YP w h->(K w.params).In h)(F:∀w mg fa h,YP w h->(K w.params).In h->h.Ns mainGlobals mg->mg d.name=some (.ref fa)->
   ∃fd:FuncData,(∀s us,us.length=ps.length->BindsTo s fd ⟨us,[]⟩ (ps.zip us))/\
    ∀base:Heap,(K w.params).In base->base.Ns mainGlobals mg->n9 r.prog w (K w.params) mg base CX k fa fd ps (sp (K w.params)))(Au:∀K H xs a,FD H->Codec.withinAll r.args a=true->Codec.app r.args r.asked a=true->nQ K H xs (Codec.encAll r.args a)->
   sp K xs H (λv H'=>Dw K H' v (r.ret.enc (Codec.app r.args r.f a))) λ_ _ _=>False)(Z_:∀H s e s',CX [] H s (λ_ _ _=>False) e s'->False):
  PySem.W.WalkOS q loose XP YP r d [] (λf vs=>PySem.call f vs):=
 Mr (K:=K) (CX:=λ_=>CX) OW Xa hlen hr hY F (λw H xs a h1 h2 h3 h4=>Au (K w.params) H xs a h1 h2 h3 h4) λ_ H s e s'=>Z_ H s e s'
end L2
--rests on (row put in by the aec,for the aed aei aee a file only aej it spells):KE.ade KE.OsShapes
end
namespace L2
open PySem PySem.Spec PyProof.Rows
noncomputable def inClass(s:Stmt)(j:Nat):Stmt:=match s with
 |.ClassDef _ _ _ body _ _ _ _ _ _ _=>body.getD j (.Pass ⟨0,0,0,0⟩)|_=>.Pass ⟨0,0,0,0⟩
noncomputable def fO(s:Stmt):Arguments:=match s with
 |.FunctionDef _ a _ _ _ _ _ _ _ _=>a|_=> {posonlyargs:=[],args:=[],vararg:=none,kwonlyargs:=[],kw_defaults:=[],kwarg:=none,defaults:=[]}
noncomputable def cj(s:Stmt):List Stmt:=match s with
 |.FunctionDef _ _ b _ _ _ _ _ _ _=>b|_=>[]
noncomputable def ao(s:Stmt):Scope:=match s with
 |.FunctionDef _ _ _ _ _ _ sc _ _ _=>sc|_=> {kind:=.function,names:=[],isGenerator:=false,isCoroutine:=false}
abbrev eJ:NT:=λ_ _ _ _ _ _=>False
abbrev E0:XK:=λ_ _ _=>False
def cp:Passes eJ X E0:=λ_ _ _ _ _ _ _ h=>h.elim
structure Ko(K:PySem.W.Frag)(x qual:Str)(st:Stmt)(f:Addr)(fd:FuncData):Prop where
 ex:∃(oc:Value) (od:Option Addr) (kV doc pm:Value) (an:Option Addr) (b8 ct:Value) (HR:Array (Option Value)),
  fd=PySem.W.fnOf x qual (fO st) (cj st) (ao st) .none kV doc pm an b8 ct/\K.lookup f=some ⟨oc,od,.func fd,HR⟩/\PySem.W.codeIn K b8 qual=true
 kp:PySem.W.keepIn K (.ref f)=true
section
theorem Ko.ok(F:Ko K x qual st f fd)(S:aC N ps (ao st))(len:∀vs H Q E,sp vs H Q E->vs.length=ps.length)(gq:∀b8 A outer s H vs Q E,dX k (A.deeper (envOfC qual (ao st) s.heap.objs.size f b8))->sp vs H Q E->
   ∃t,vM (j5 eJ P w K mg base N qual (ao st) f b8 A outer s H E).NR (cj st) t/\t {nx:=λ_ H'=>Q .cT H',rt:=Q} (start N vs) H):n9 P w K mg base eJ (k+1) f fd ps sp:=by
 obtain⟨oc,od,kV,doc,pm,an,b8,ct,HR,rfl,lk,Bh⟩:=F.ex;refine U_ lk Bh S len λA outer s H vs Q E hr Au=>?_;obtain⟨t,h,q⟩:=gq b8 A outer s H vs Q E hr Au;exact⟨t,h.NR,q⟩
def Ko.binds(F:Ko K x qual st f fd)(h:∀kV doc pm an b8 ct us,us.length=ps.length->bindArgs (PySem.W.fnOf x qual (fO st) (cj st) (ao st) .none kV doc pm an b8 ct) ⟨us,[]⟩=pure (ps.zip us)):Binds K fd ps []:=by
 obtain⟨oc,od,kV,doc,pm,an,b8,ct,HR,rfl,lk,Bh⟩:=F.ex;exact .all (h kV doc pm an b8 ct)
def Ig{kV doc b8:Value}(l:K.lookup f=some ⟨oc,od,.func (PySem.W.fnOf x qual (fO st) (cj st) (ao st) .none kV doc pm an b8 ct),HR⟩)(c:PySem.W.codeIn K b8 qual=true)(k:PySem.W.keepIn K (.ref f)=true):Ko K x qual st f (PySem.W.fnOf x qual (fO st) (cj st) (ao st) .none kV doc pm an b8 ct):=⟨⟨oc,od,kV,doc,pm,an,b8,ct,HR,rfl,l,c⟩,k⟩
end
def yu(hr:dX k A):A.units+1<cLine:=sx (Nat.add_le_add_left (by decide:1<=64) _) hr.units
section
def pv(i:Nat){pos:Pos}(hN:X.N[i]?=some x:=by rfl)(hv:Zh X.env.scope x:=by first|exact Or.inl rfl|exact Or.inr (Or.inl rfl)|exact Or.inr (Or.inr rfl))(hd:(x==("__debug__":Str))=false:=by decide)(Bh:(x==("__classdict__":Str))=false:=by decide):PE X (.Name x pos) (xY i):=V7 hN hv hd Bh
end
def bj{c A B:Prop} [Decidable c] (h1:c->A) (h2:¬c->B):if c then A else B:=by
 by_cases h:c
 .rw[ah h];exact h1 h
 .rw[af h];exact h2 h
def aw(H H':Hp):Prop:=∀b o,H b=some o->H' b=some o
theorem aw.trans(a:aw H H1)(b:aw H1 H2):aw H H2:=λc o h=>b c o (a c o h)
theorem aw.free(e:aw H H')(h:H' l=Option.none):H l=Option.none:=by
 cases q:H l with
 |none=>rfl
 |some o=>
  rw[e l o q]at h;cases h
def aw.seq(e:aw H H')(h:aJ K H a xs):aJ K H' a xs:=by
 obtain(h|⟨o,h⟩)|h:=h
 .exact .inl (.inl (e _ _ h))
 .exact .inl (.inr ⟨o,e _ _ h⟩)
 .exact .inr h
def at_of{z:Int}(e:z=(j:Int))(h:xs[j]?=some v):NU xs z=some v:=by
 rw[e];exact dG h
def aw.made{x C:Addr}(nx:H x=Option.none)(nd:H dx=Option.none)(k:∀b o,(upd (upd H dx (.own x)) x (.ins C dx [])) b=some o->b≠x->H1 b=some o):aw H H1:=λb o e=>
 k b o (by rw[aF (bB e nx),aF (bB e nd)];exact e) (bB e nx)
end L2
section
namespace L2
open PySem PySem.Spec PyProof.Rows
def lM(X:Cx)(b:Addr):Prop:=b∈X.ex\/X.wZ.heap.get? b=none
section
variable {σ:List (Option V)}
def Inv.aad(I:Inv X pins σ H s)(Ay:∀b∈ch,lM X b/\b≠X.env.locals/\(∀x c,X.env.cells.lookup x=some c->c≠b)/\∀p∈X.pn++pins,p.1≠b)(keep:∀b o,b≠X.env.locals->b∉X.fs->b∉ch->s.heap.get? b=some o->H b=none->h'.get? b=some o)(slot:∀b o,b≠X.env.locals->b∈X.fs->b∉ch->s.heap.get? b=some o->H b=none->∃sl,h'.get? b=some {o with slots:=sl})(free:∀b o,b∉ch->s.heap.get? b=some o->H b=none->H' b=none)(there:∀b o,b∉ch->s.heap.get? b=some o->∃o',h'.get? b=some o')(xS:∀b xs,H b=some (.tup xs)->H' b=some (.tup xs))(vL:∀b o u,H b=some (.Ar o u)->H' b=some (.Ar o u))(xT:∀b ps,H b=some (.RM ps)->∃more,H' b=some (.RM (ps++more)))(ns:∀m,s.heap.Ns X.env.locals m->h'.Ns X.env.locals m)(bQ:mO X.prog X.w H' h')(hg:AllBare g'):
  Inv X pins σ H' {s with heap:=h',gens:=g',drawn:=d',toks:=t'} :=by
 have Zi:∀b o,X.wZ.heap.get? b=some o->b≠X.env.locals:=λb o e=>bx (dR (aO e) I.ok.above);have Ss:∀b o,X.wZ.heap.get? b=some o->b∉X.ex->b∉ch:=λb o e hx hb=>by
  obtain z|z:=(Ay b hb).1
  .exact hx z
  .rw[e]at z;cases z
 have cellK:∀x c,X.env.cells.lookup x=some c->∀v,s.heap.IsCell c v->h'.IsCell c v:=λx c e v ⟨o,ho,hd⟩=>by
  have N5:=λz=>(Ay c z).2.2.1 x c e rfl;by_cases hc:c∈X.fs
  .obtain⟨sl,q⟩:=slot c o (I.Sr x c e) hc N5 ho (I.iG x c e);exact⟨_,q,hd⟩
  .exact⟨o,keep c o (I.Sr x c e) hc N5 ho (I.iG x c e),hd⟩
 refine⟨I.ok,I.os,hg,⟨λb o e n hb hx=>?_,λb o e n hb hx=>?_,λb o e n hx=>?_,λb o e hx=>?_,λb xs e=>xS b xs (I.base.xS b xs e),λb o xs e=>vL b o xs (I.base.vL b o xs e),λb ps e=>?_⟩,?_,λx c e=>?_,?_,λx c e=>?_,λp hp=>?_,bQ,I.len⟩
 .exact keep b o (Zi b o e) hb (Ss b o e hx) (I.base.keep b o e n hb hx) (I.base.free b o e n hx)
 .obtain⟨sl,e1⟩:=I.base.slot b o e n hb hx;obtain⟨sl',e2⟩:=slot b _ (Zi b o e) hb (Ss b o e hx) e1 (I.base.free b o e n hx);exact⟨sl',e2⟩
 .obtain⟨o',e1⟩:=I.base.there b o e hx;exact free b o' (Ss b o e hx) e1 (I.base.free b o e n hx)
 .obtain⟨o',e1⟩:=I.base.there b o e hx;exact there b o' (Ss b o e hx) e1
 .obtain⟨m1,e1⟩:=I.base.xT b ps e;obtain⟨m2,e2⟩:=xT b _ e1;exact⟨m1++m2,by rw[e2,Array.append_assoc]⟩
 .obtain⟨m,hn,hl⟩:=I.loc;refine⟨m,ns m hn,λi x v e1 e2 e3=>?_⟩;obtain⟨u,r,l⟩:=hl i x v e1 e2 e3;refine⟨u,r,?_⟩;obtain l|⟨k,c,e,z⟩:=l
  .exact .inl l
  .exact .inr ⟨k,c,e,cellK x c e _ z⟩
 .obtain⟨v,z⟩:=I.cell x c e;exact⟨v,cellK x c e v z⟩
 .obtain⟨m,⟨o,_,_,ho,_⟩,_⟩:=I.loc;exact free _ o (λz=>(Ay _ z).2.1 rfl) ho I.free
 .obtain⟨v,o,ho,hd⟩:=I.cell x c e;exact free c o (λz=>(Ay c z).2.2.1 x c e rfl) ho (I.iG x c e)
 .obtain⟨e,n,ne,nf,d⟩:=I.pin p hp;have N5:=λz=>(Ay p.1 z).2.2.2 p hp rfl;exact⟨keep p.1 p.2 ne nf N5 e n,free p.1 p.2 N5 e n,ne,nf,d⟩
end
def FH(yg:Addr->Prop)(H:Hp)(h:Heap)(e:Addr)(cls:Value)(tr:Bool):Prop:=
 ∃oe vs,h.get? e=some oe/\oe.cls=cls/\oe.data=.fields vs/\1<vs.size/\H e=none/\yg e/\
  ((tr=false/\vs[1]?=some Value.none)\/∃T oT ts x,vs[1]?=some (Value.ref T)/\T≠e/\h.get? T=some oT/\oT.data=.fields ts/\ts[3]?=some x/\H T=none/\yg T)
def FH.mono{e:Addr}(f:FH yg H h e cls tr)(k:∀b,yg b->yg' b):FH yg' H h e cls tr:=by
 obtain⟨oe,vs,a1,a2,a3,a4,a5,a6,a7⟩:=f;refine⟨oe,vs,a1,a2,a3,a4,a5,k _ a6,?_⟩;obtain a7|⟨T,oT,ts,x,b1,b2,b3,b4,b5,b6,b7⟩:=a7
 .exact .inl a7
 .exact .inr ⟨T,oT,ts,x,b1,b2,b3,b4,b5,b6,k _ b7⟩
def FH.weak{e:Addr}(f:FH yg H h e cls tr):FH yg H h e cls false:=by
 obtain⟨oe,vs,a1,a2,a3,a4,a5,a6,a7⟩:=f;refine⟨oe,vs,a1,a2,a3,a4,a5,a6,?_⟩;obtain a7|a7:=a7
 .exact .inl ⟨rfl,a7.2⟩
 .exact .inr a7
def FH.keeps{e:Addr}(f:FH yg H h e cls tr)(k:∀b o vs,h.get? b=some o->o.data=.fields vs->h'.get? b=some o):FH yg H h' e cls tr:=by
 obtain⟨oe,vs,a1,a2,a3,a4,a5,a6,a7⟩:=f;refine⟨oe,vs,k _ _ _ a1 a3,a2,a3,a4,a5,a6,?_⟩;obtain a7|⟨T,oT,ts,x,b1,b2,b3,b4,b5,b6,b7⟩:=a7
 .exact .inl a7
 .exact .inr ⟨T,oT,ts,x,b1,b2,k _ _ _ b3 b4,b4,b5,b6,b7⟩
def mO.there(x:mO P w H h)(q:H a=some o):∃u,h.get? a=some u:=by
 have y:=x a o q;cases o with
 |lst xs=>obtain⟨_,_,_,_,e⟩:=y;exact⟨_,e⟩
 |tup xs=>obtain⟨_,_,_,ob,e,_⟩:=y;exact⟨_,e⟩
 |dK kvs=>obtain⟨_,_,_,_,o,_,_,e,_⟩:=y;exact⟨_,e⟩
 |dT kvs=>obtain⟨_,_,_,_,o,_,_,e,_⟩:=y;exact⟨_,e⟩
 |set S n=>obtain⟨o,_,_,_,e,_⟩:=y;exact⟨_,e⟩
 |ins C dx fs=>obtain⟨_,_,_,e,_⟩:=y;exact⟨_,e⟩
 |own z=>obtain⟨_,e⟩:=y;exact⟨_,e⟩
 |xd fs=>obtain⟨_,⟨_,_,_,e,_⟩,_⟩:=y;exact⟨_,e⟩
 |rng lo hi=>obtain⟨_,_,_,e⟩:=y;exact⟨_,e⟩
 |Ar ob u=>obtain⟨e,_⟩:=y;exact⟨_,e⟩
 |RM ps=>exact⟨_,show h.get? a=some _ from y⟩
 |met f z=>exact⟨_,show h.get? a=some _ from y⟩
 |ext φ=>obtain⟨_,e,_⟩:=y;exact e
section
def Inv.chg(I:Inv X [] σ H s)(vm:X.pn=[])(Ay:∀b∈ch,H b=none/\lM X b/\∃o vs,s.heap.get? b=some o/\o.data=.fields vs)(mn:∀b∈ch,∃o,h'.get? b=some o)(keep:∀b o,b∉EY X.stack->b∉ch->s.heap.get? b=some o->h'.get? b=some o)(slot:∀b o,b∈EY X.stack->b∉ch->s.heap.get? b=some o->∃sl,h'.get? b=some {o with slots:=sl}):Inv X [] σ H {s with heap:=h'} :=by
 have any:=λb o hb q=>by
  by_cases hf:b∈EY X.stack
  .exact slot b o hf hb q
  .exact⟨o.slots,keep b o hf hb q⟩
 have aae:∀b∈ch,b≠X.env.locals:=λb hb z=>by
  obtain⟨_,_,o,vs,q,d⟩:=Ay b hb;obtain⟨m,⟨oL,es,ep,qL,dL,_⟩,_⟩:=I.loc;rw[z,qL]at q;cases q;rw[dL]at d;cases d
 refine I.aad (g':=s.gens) (t':=s.toks) (ch:=ch) (λb hb=>⟨(Ay b hb).2.1,aae b hb,λx c e z=>?_,λp hp=>?_⟩) (λb o hL hf hb q _=>keep b o (λz=>?_) hb q) (λb o _ _ hb q _=>any b o hb q) (λ_ _ _ _ n=>n)
  (λb o hb q=>let⟨sl,z⟩:=any b o hb q;⟨_,z⟩) (λ_ _ e=>e) (λ_ _ _ e=>e) (λb ps e=>⟨#[],by rw[e];simp⟩) (λm hm=>?_) (λb u e=>?_) I.bare
 .obtain⟨_,_,o,vs,q,d⟩:=Ay b hb;obtain⟨v,oc,qc,dc⟩:=I.cell x c e;rw[z,q]at qc;cases qc;rw[d]at dc;cases dc
 .rw[vm]at hp;exact absurd (show p∈([]:List (Addr×Obj))++ []from hp) ∅
 .obtain y|y:=mem_cons.mp (I.CM b z)
  .exact hL y
  .exact hf y
 .obtain⟨o,es,ep,ho,r⟩:=hm;obtain⟨sl,q⟩:=any _ o (λz=>aae _ z rfl) ho;exact⟨_,es,ep,q,r⟩
 .have fr:∀c v,H c=some v->c∉EY X.stack/\c∉ch:=λc v q=>⟨λz=>(by rw[I.CO c z]at q;cases q),λz=>(by rw[(Ay c z).1]at q;cases q)⟩;refine(I.bQ b u e).E9 (λc v hc q=>?_) (λ_ q=>q) λ_ _ q=>q;obtain z|z:=hc
  .subst z;exact keep c v (fr c _ e).1 (fr c _ e).2 q
  .exact keep c v (fr c _ z).1 (fr c _ z).2 q
variable {e L:Addr} {cls:Value} {tr:Bool} {CY OX:Env} {out:List Env} {Q:Unit->Shared->Prop}
def Inv.Tc(I:Inv X [] σ H s){o:Obj}{vs:Array Value}(q:s.heap.get? b=some o)(d:o.data=.fields vs):b∉EY X.stack:=λz=>by
 obtain⟨_,o',q',d'⟩:=I.stack.mem z;rw[q]at q';cases q';exact d' vs d
def Inv.young(I:Inv X [] σ H s)(q:s.heap.get? b=none):lM X b:=by
 by_cases hb:b∈X.ex
 .exact .inl hb
 .refine .inr ?_;cases z:X.wZ.heap.get? b with
  |none=>rfl
  |some o=>
   obtain⟨o',y⟩:=I.base.there b o z hb;rw[q]at y;cases y
def FI{vs:Array Value}{head:Value}(I:Inv X [] σ H s)(vm:X.pn=[])(pY:X.stack=OX::out)(h1:OX.frame=some L)(h0:CY.frame=some L)(he:s.heap.get? e=some oe)(hc:oe.cls=cls)(hd:oe.data=.fields vs)(hz:1<vs.size)(hn:H e=none)(hy:lM X e)(k:∀h',Inv X [] σ H {s with heap:=h'}->FH (lM X) H h' e cls true->Q Unit.unit {s with heap:=h'}):
  wpAny (model X.prog X.w) X.A (do let a<-PySem.frameOf CY;let pl<-entryPlaceOf L had;let b<-EntryCells.newEntry head a .none (rawInt L) .none pl;setField (.ref e) 1 b) Q E s:=by
 unfold PySem.frameOf;refine aj (aj (wpAny_frameEnvs I.ok.frames ?_));have hdw:(X.stack.dropWhile λx=>x.frame !=CY.frame)=OX::out:=by
  rw[pY,h0];simp[List.dropWhile,h1]
 rw[hdw];have ff:=I.stack;have fe:=I.Tc he hd;rw[pY]at ff;unfold frameObject;refine aj (aj (wpAny_readyFrames_fun ff λg1 so=>ay ?_));rw[h1];refine ay ?_;have so:Heap.SlotsOnly (EY X.stack) s.heap g1:=by rw[pY];exact so
 refine aj (wpAny_entryPlaceOf λpl iz=>?_);unfold EntryCells.newEntry newFields;refine aj (jA ?_ (iz.sizeOk5 _ _ _ _ _));have e1:=(so.2.1 e fe).trans he;generalize hob:({cls:=.type "traceback",dict:=none,data:=.fields ([head,Value.ref L,.none,rawInt L,.none] ++(if pl.isEmpty then List.replicate 6 Value.none else pl)).toArray} :Obj)=ob;have e2:(g1.push ob).get? e=some oe:=bN _ e1;have eK:=aO e1;refine mB e2 hd hz (k _ ?_ ?_)
 .refine I.chg (ch:=[e]) vm (λb hb=>?_) (λb hb=>?_) (λb o hf hb q=>?_) (λb o hf hb q=>?_)
  .have z:b=e:=by simpa using hb
   subst z;exact⟨hn,hy,oe,vs,he,hd⟩
  .have z:b=e:=by simpa using hb
   subst z;exact⟨_,mr _ e2 (oj (jz hd _))⟩
  .have z:e≠b:=λy=>hb (by simp[y]);rw[ku _ _ z];exact bN _ ((so.2.1 b hf).trans q)
  .have z:e≠b:=λy=>hb (by simp[y]);obtain⟨sl,y⟩:=so.2.2 b o q;refine⟨sl,?_⟩;rw[ku _ _ z];exact bN _ y
 .have hT:=iu eK;have hs:=so.1;have d3:=jz hd (·.setIfInBounds 1 (Value.ref g1.objs.size));refine⟨_,_,mr _ e2 (oj d3),(wD _ _).trans hc,d3,‹hz›,hn,hy,.inr ⟨g1.objs.size,ob,_,rawInt L,by simp[hz],hT,?_,by rw[<-hob],?_,?_,?_⟩⟩
  .rw[ku _ _ (dF hT)];refine bq _ ?_;rw[<-hob];rfl
  .simp
  .rw[hs];exact I.bQ.fresh (aQ _)
  .rw[hs];exact I.young (Heap.get?_none_of_le (aQ _))
def Di(I:Inv X [] σ H s)(vm:X.pn=[])(pY:X.stack=OX::out)(h1:OX.frame=some L)(h0:CY.frame=some L)(F:FH (lM X) H s.heap e cls tr)(k:∀h',Inv X [] σ H {s with heap:=h'}->FH (lM X) H h' e cls true->Q Unit.unit {s with heap:=h'}):wpAny (model X.prog X.w) X.A (noteFrame (.ref e) CY) Q E s:=by
 obtain⟨oe,vs,he,hc,hd,hz,hn,hy,hT⟩:=F;unfold noteFrame;simp only[h0];obtain⟨_,hv⟩|⟨T,oT,ts,x,hv,iB,hT,RR,h3,hnT,hyT⟩:=hT
 .refine aj (fC he hd hv ?_);exact FI I vm pY h1 h0 he hc hd hz hn hy k
 .refine aj (fC he hd hv ?_);refine aj (fC hT RR h3 ?_);by_cases hx:(x==rawInt L)=true
  .rw[ah hx];exact ay (k s.heap I ⟨oe,vs,he,hc,hd,hz,hn,hy,.inr ⟨T,oT,ts,x,hv,iB,hT,RR,h3,hnT,hyT⟩⟩)
  .rw[af hx];refine aj (mB hT RR (Array.getElem?_eq_some_iff.mp h3).1 ?_);have I1:Inv X [] σ H {s with heap:=s.heap.update T (Obj.mapFields (·.setIfInBounds 3 Value.none))} :=by
    refine I.chg (ch:=[T]) vm (λb hb=>?_) (λb hb=>?_) (λb o hf hb q=>?_) (λb o hf hb q=>⟨o.slots,?_⟩)
    .have z:b=T:=by simpa using hb
     subst z;exact⟨hnT,hyT,oT,ts,hT,RR⟩
    .have z:b=T:=by simpa using hb
     subst z;exact⟨_,mr _ hT (oj (jz RR _))⟩
    .rw[ku _ _ (λy:T=b=>hb (by simp[y]))];exact q
    .rw[ku _ _ (λy:T=b=>hb (by simp[y]))];exact q
   have he1:(s.heap.update T (Obj.mapFields (·.setIfInBounds 3 Value.none))).get? e=some oe:=(ku _ _ iB).trans he;exact FI I1 vm pY h1 h0 he1 hc hd hz hn hy k
def lN(I:Inv X [] σ H s)(vm:X.pn=[])(F:FH (lM X) H s.heap e cls tr)(k:∀h',Inv X [] σ H {s with heap:=h'}->FH (lM X) H h' e cls tr->Q Unit.unit {s with heap:=h'}):wpAny (model X.prog X.w) X.A (setFlight (.ref e) fr) Q E s:=by
 obtain⟨oe,vs,he,hc,hd,hz,hn,hy,hT⟩:=F;obtain⟨ht,hv⟩|⟨T,oT,ts,x,hv,iB,hT,RR,h3,hnT,hyT⟩:=hT
 .refine aj (fC he hd hv ?_);exact ay (k s.heap I ⟨oe,vs,he,hc,hd,hz,hn,hy,.inl ⟨ht,hv⟩⟩)
 .refine aj (fC he hd hv ?_);have hz3:=(Array.getElem?_eq_some_iff.mp h3).1;generalize(fr.elim Value.none λf=>rawInt f)=v;refine mB hT RR hz3 (k _ ?_ ?_)
  .refine I.chg (ch:=[T]) vm (λb hb=>?_) (λb hb=>?_) (λb o hf hb q=>?_) (λb o hf hb q=>⟨o.slots,?_⟩)
   .have z:b=T:=by simpa using hb
    subst z;exact⟨hnT,hyT,oT,ts,hT,RR⟩
   .have z:b=T:=by simpa using hb
    subst z;exact⟨_,mr _ hT (oj (jz RR _))⟩
   .rw[ku _ _ (λy:T=b=>hb (by simp[y]))];exact q
   .rw[ku _ _ (λy:T=b=>hb (by simp[y]))];exact q
  .have d3:=jz RR (·.setIfInBounds 3 v);exact⟨oe,vs,(ku _ _ iB).trans he,hc,hd,hz,hn,hy,.inr ⟨T,_,_,v,hv,iB,mr _ hT (oj d3),d3,by simp[hz3],hnT,hyT⟩⟩
end
def XR(X:Cx)(E:XK):Prop:=∀(σ:St)(H:Hp)(s:Shared)(e:Addr)(cls:Value),Inv X [] σ H s->FH (lM X) H s.heap e cls false->E cls none H->X.xe (.ref e) s
def fT(P:Program)(w:World):NT:=λouter H s E e s'=>∃a H' cls,e=.ref a/\s'.os=s.os/\AllBare s'.gens/\Un (EY outer) [] H H' s.heap s'.heap/\mO P w H' s'.heap/\FH (λb=>s.heap.get? b=none) H' s'.heap a cls false/\E cls none H'
def aH{E:XK}:
  XR (j5 (fT P w) P w K mg base N qual scope f cd A outer s H E) E:=by
 intro σ H' s' e cls I F hE;show wpAny _ _ (leaving _ (.ref e)) _ _ s';refine aj (Di I rfl rfl rfl rfl F λg1 I1 F1=>lN I1 rfl F1.weak λg2 I2 F2=>?_);refine⟨e,H',cls,rfl,I2.os,I2.bare,I2.base,I2.bQ,F2.mono λb hb=>?_,hE⟩;obtain z|z:=hb
 .exact absurd (show b∈([]:List Addr)from z) ∅
 .exact z
def aX{E:XK}(xr:XR X E):Passes (fT X.prog X.w) X E:=by
 rintro pins σ H s e s' I ⟨a,H',cls,rfl,os,bare,un,bQ,F,hE⟩;have I0:Inv X [] σ H s:=I.mP λp hp=>absurd hp ∅;have I1:=I0.N7 (ch:=[]) os un bQ bare λb hb=>absurd hb ∅;exact xr σ H' s' a cls I1 (F.mono λb hb=>I0.young hb) hE
def Kp{mg:Str->Option Value}(X:K.In h)(q:PySem.W.excIn K C Xc newId=true):
  ∃bm N nm qn bs hdct sn sub ab col dd k0 k1 k2 k3 k5 mN,h.get? C=some (excClassObj nm qn C N bs bm hdct sn sub ab col dd k0 k1 k2 k3 k5 newId)/\h.Ns N mN/\mN "__init__"=none/\OwnTail h Xc bm:=by
 unfold PySem.W.excIn at q;split at q
 .rename_i dd cd sl ho;split at q
  .rename_i C' bm k0 k1 k2 k3 n k5 hm hs;simp only[Bool.and_eq_true,beq_iff_eq,Bool.not_eq_true']at q;obtain⟨⟨⟨⟨⟨e1,e2⟩,adf⟩,ht⟩,bQ⟩,Xd⟩:=q;obtain⟨nm,bs,mro,ns,qn,hd,sn,sub,ab,col,del⟩:=cd;subst hm adf e1 e2;obtain⟨l⟩:=sl;subst hs;exact⟨bm,ns,nm,qn,bs,hd,sn,sub,ab,col,dd,k0,k1,k2,k3,k5,_,X _ _ ho,.of_isNs (PySem.W.isNs_of_in X bQ),PySem.W.nsMap_none_of_in X bQ Xd,PySem.W.tail_of_in X ht⟩
  .cases q
 .cases q
def Ih(t:TA)(E:XK)(C:Addr):TS:=λ_ σ H=>t σ H λvs H1=>vs.length<=sizeLine/\E (.ref C) none H1
def FJ{E:XK}{C:Addr}{Xc:List Value}{newId Xe B:String}{e₀:Expr}{rest:List Expr}{t:TA}{np et pos:Pos}(xr:XR X E)(hc:X.calm=true)(hg:Gl X x)(hm:X.mg x=some (.ref C))(q:PySem.W.excIn X.K C Xc newId=true)(FB:ExcBaseFacts B newId Xe Xc)(ha:PA X (e₀::rest) t)(CZ:(x==("__debug__":Str))=false:=by decide)(he:starEach (e₀::rest) X.env=(false,eval e₀ X.env)::starEach rest X.env:=by rfl)(iz:(backTo et (starEach rest X.env)).any (·.1)=false:=by rfl):
  PS X (.Raise (some (.Call (.Name x np) (e₀::rest) [] et)) none pos) (Ih t E C):=by
 intro pins s σ H D I h;obtain⟨bm,N,nm,qn,bs,hdct,sn,sub,ab,col,dd,k0,k1,k2,k3,k5,mN,hC,hN,Xd,TL⟩:=Kp (mg:=X.mg) I.ok.mod.Sq q;have fu:(backTo et (starEach (e₀::rest) X.env)).any (·.1)=false:=by
  rw[he];show(false||(backTo et (starEach rest X.env)).any (·.1))=false;rw[iz];rfl
 refine wpAny_Raise_call_subT (C:=C) (nm:=nm) (q:=qn) (N:=N) (bs:=bs) (hdct:=hdct) (sn:=sn) (sub:=sub) (ab:=ab) (col:=col) (dd:=dd) (k0:=k0) (k1:=k1) (k2:=k2) (k3:=k3) (k5:=k5) FB (mN:=mN) (TL.hasType FB.hasBase) (I.ok.hd hc) fu Xd (pX I hg hm ⟨rfl,?_⟩ CZ);have hs:=ha et pins s σ H _ I h;rw[he]at hs⊢;refine sq (cJ hs λvs s2 ⟨xs,H2,I2,r2,hl,hE⟩=>⟨rfl,by rw[<-r2.length];exact hl,I2.bk _ _ hC,hN.keeps I2.bk,TL.keeps I2.bk,λh' ex hx=>?_⟩);have I3:Inv X [] σ H2 {s2 with heap:=h'} :=(I2.kept hx.keeps).mP λp hp=>absurd hp ∅;obtain⟨tp,ht,_,_⟩:=hx.there;refine xr σ H2 {s2 with heap:=h'} ex (.ref C) I3 ⟨_,_,ht,rfl,rfl,by show 1<6;decide,?_,?_,.inl ⟨rfl,rfl⟩⟩ hE
 .cases z:H2 ex with
  |none=>rfl
  |some o=>
   obtain⟨u,y⟩:=I2.bQ.there z;rw[hx.new]at y;cases y
 .exact(I2.mP λp hp=>absurd hp ∅).young hx.new
def Ko.BL(F:Ko K x qual st f fd)(S:aC N ps (ao st))(len:∀vs H Q E,sp vs H Q E->vs.length=ps.length)(gq:∀b8 A outer s H vs Q E,dX k (A.deeper (envOfC qual (ao st) s.heap.objs.size f b8))->sp vs H Q E->
   ∃t,vM (j5 (fT P w) P w K mg base N qual (ao st) f b8 A outer s H E) (cj st) t/\t {nx:=λ_ H'=>Q .cT H',rt:=Q} (start N vs) H):n9 P w K mg base (fT P w) (k+1) f fd ps sp:=by
 obtain⟨oc,od,kV,doc,pm,an,b8,ct,HR,rfl,lk,Bh⟩:=F.ex;exact U_ lk Bh S len λA outer s H vs Q E hr Au=>gq b8 A outer s H vs Q E hr Au
def xeB(Y:Cx)(E:XK):Value->Shared->Prop:=λv s'=>∃e σ' H' cls,v=.ref e/\Inv Y [] σ' H' s'/\FH (lM Y) H' s'.heap e cls false/\E cls none H'
noncomputable abbrev Cx.qD(X:Cx)(E:XK)(s:Shared)(H:Hp)(scope:Scope)(gg:Env)(fp:List Addr):Cx:=(X.H_ s H scope gg fp).qB (xeB (X.H_ s H scope gg fp) E)
def Ii{E:XK}:XR (X.qD E s H scope gg fp) E:=λσ H' s' e cls I F hE=>⟨e,σ,H',cls,rfl,I.eO,F,hE⟩
section
def FK{E:XK}{Q:VK}(vm:X.pn=[])(pY:X.stack=X.env::X.outer)(E2:X.env.frame=some X.env.locals)(xr:XR X E)(hc:X.calm=true)(hN:X.N.Nodup)(I:Inv X pins σ H s)(hi:PI X tg iter wi)(ok:yj X.N X.env.scope scope own)(hg:∀s H C cl fp,PG (X.qD E s H scope (compEnvC scope cl C X.env) fp) tg g)(ht:∀s H C cl fp,WU (X.qD E s H scope (compEnvC scope cl C X.env) fp) ifs tt)(he:∀s H C cl fp,PE (X.qD E s H scope (compEnvC scope cl C X.env) fp) elt te)(hs:∀x,foldedSetIterable iter X.env x=pure x)(h:YM wi g tt te (own.map (·.2)) σ H Q)(YQ:∀D C s' m H',Inv X pins σ H' s'->Q (.ref D) H'->s'.heap.Ns C m->vN X pins H' C->compPost (model X.prog X.w) X.A X.xe use Qf (.ref D) C (.ok .next) s'):
  wpAny (model X.prog X.w) X.A (comprehension (.ListComp elt [⟨tg,iter,ifs,0⟩] scope pos) scope X.env pos' (newList []) false (eval iter X.env) use) Qf X.xe s:=by
 have vg:∀y∈scope.names,y.2=.free->∃c,X.env.cells.lookup y.1=some c:=λy hy e=>by
  obtain k|k:=ok.free y hy e
  .exact I.ok.has _ (.inl k)
  .exact I.ok.has _ (.inr k)
 refine wpAny_comprehension_free rfl hs (HZ vg) ok.kind (λy hy e=>by rw[ok.uniq y hy,e])
  (cJ (hi pins s σ H _ I h) λxv s1 hx=>cJ hx λitv s2 h2=>?_)
 obtain⟨it,fp,tn,J,H2,e,I2,T,st2,f2,q⟩:=h2;subst e;refine jA (Fo ?_) (by show 0<=sizeLine;decide);generalize hD:s2.heap.objs.size=D;have hDn:=I2.bQ.fresh (sP hD);obtain⟨W,⟨m0,w0⟩,turn⟩:=q D hDn;generalize hs3:({s2 with heap:=s2.heap.push {cls:=.type "list",data:=.seq ([]:List Value).toArray}} :Shared)=s3;have I3:Inv X pins σ (upd H2 D (.lst [])) s3:=by
  rw[<-hs3];refine I2.laid (λb o e=>bN _ e) (sP hD) ⟨cv _,[],0,.nil,?_⟩;rw[<-hD];exact bq _ rfl
 have h3:s3.heap=s2.heap.push {cls:=.type "list",data:=.seq ([]:List Value).toArray} :=by rw[<-hs3]
 have sz:∀b∈fp,b<s2.heap.objs.size:=λb hb=>by
  obtain⟨o,e,_⟩:=T.obj _ _ st2 b hb;exact aO e
 have f3:∀b∈fp,vN X pins (upd H2 D (.lst [])) b/\b<s3.heap.objs.size:=λb hb=>by
  have eK:=sz b hb;refine⟨⟨?_,(f2 b hb).2⟩,by rw[h3,dS];exact my eK⟩;rw[aF (by rw[<-hD];exact bx eK)];exact(f2 b hb).1
 have st3:tn 0 s3.heap:=T.keep _ _ _ st2 λb _ o e=>by rw[h3];exact bN _ e
 have I4:=Fp I3 ok hN f3;have pg:=hg s3 (upd H2 D (.lst [])) s3.heap.objs.size (cellsFrom (s3.heap.objs.size+1) scope.names (cq X.env.cells scope.names [])) fp;have pt:=ht s3 (upd H2 D (.lst [])) s3.heap.objs.size (cellsFrom (s3.heap.objs.size+1) scope.names (cq X.env.cells scope.names [])) fp;have pe:=he s3 (upd H2 D (.lst [])) s3.heap.objs.size (cellsFrom (s3.heap.objs.size+1) scope.names (cq X.env.cells scope.names [])) fp;show codeAny _ _ (.compStart (.ListComp elt [⟨tg,iter,ifs,0⟩] scope pos) 0 (.ref it) (.ref D) (compEnvC scope (cellsFrom (s3.heap.objs.size+1) scope.names (cq X.env.cells scope.names [])) s3.heap.objs.size X.env)) (compPost (model X.prog X.w) X.A X.xe use Qf (.ref D) s3.heap.objs.size) {s3 with heap:=pushCells (s3.heap.push {cls:=.type "dict",data:=.dict #[]}) scope.names};have nfp:=λb hb=>(f3 b hb).1.1;generalize hce:compEnvC scope (cellsFrom (s3.heap.objs.size+1) scope.names (cq X.env.cells scope.names [])) s3.heap.objs.size X.env=ce at I4 pg pt pe⊢;have cL:ce.locals=s3.heap.objs.size:=by subst hce;rfl
 generalize hH3:upd H2 D (.lst [])=H3 at I3 I4 pg pt pe w0 nfp f3;generalize hs4:({s3 with heap:=pushCells (s3.heap.push {cls:=.type "dict",data:=.dict #[]}) scope.names} :Shared)=s4 at I4⊢;have cF:ce.frame=X.env.frame:=by subst hce;rfl
 have Xf:∀v s',xeB (X.H_ s3 H3 scope ce fp) E v s'->notedBy (model X.prog X.w) X.A ce (λe s'=>compPost (model X.prog X.w) X.A X.xe use Qf (.ref D) s3.heap.objs.size (.error e) s') v s':=by
  rintro v s' ⟨e,σ',H',cls,rfl,I',F',hE⟩;refine Di (X:=X.H_ s3 H3 scope ce fp) I' rfl pY E2 (cF.trans E2) F' λg1 I1 F1=>?_;obtain⟨m,hn,_⟩:=I1.loc;rw[cL]at hn;have J7:=I3.N7 (ch:=fp) I1.os I1.base I1.bQ I1.bare λb hb=>⟨(f3 b hb).1.2.2.2.1,(f3 b hb).1.2.1,(f3 b hb).1.2.2.2.2.1,(f3 b hb).1.2.2.2.2.2⟩;have nC:H' s3.heap.objs.size=none:=by
   have z:=I1.free;rw[cL]at z;exact z
  obtain⟨f0,f1,f2',f3',f4,f5⟩:=I3.CT (aQ _) nC;have yg:∀b,lM (X.H_ s3 H3 scope ce fp) b->lM X b:=λb hb=>by
   obtain z|z:=hb
   .obtain y|y:=(f3 b z).1.2.2.2.1
    .exact .inl y
    .exact .inr (Heap.get?_none_of_le y)
   .exact(I3.mP λp hp=>absurd hp ∅).young z
  have key:∃m,g1.Ns s3.heap.objs.size m/\∀h',Heap.SameBut s3.heap.objs.size g1 h'->∀gg:Env,gg.locals=s3.heap.objs.size->wpAny (model X.prog X.w) X.A (PySem.passOn "comprehension.variables-let-go" (.ref e) gg:Sem Value) (λ_ _=>False) X.xe {s' with heap:=h'} :=by
   refine⟨m,hn,λg2 sb aef _=>?_⟩;have J8:=J7.turned (t':=s'.toks) (λb o hb q=>(sb.2 b hb).trans q) f0 f1 f3' f4 f5;have J9:Inv X [] σ H' {s' with heap:=g2} :=J8.mP λp hp=>absurd hp ∅;have F9:=(F1.mono yg).keeps λb o vs q d=>by
    refine(sb.2 b λz=>?_).trans q;obtain⟨oC,es,ep,qC,dC,_⟩:=hn;rw[z]at q;rw[qC]at q;cases q;rw[dC]at d;cases d
   obtain⟨oe,vs,Mj,U4,HG,E3,hn',Mf,hT'⟩:=id F9;obtain⟨z,_⟩|⟨T',oT',ts',x',hv',_⟩:=hT'
   .cases z
   .refine aj (fC Mj HG hv' ?_)
    first
     |exact aj (lN J9 vm F9 λg3 J10 F10=>sW (xr σ H' _ e cls J10 F10.weak hE))|exact aj (ay (aj (lN J9 vm F9 λg3 J10 F10=>sW (xr σ H' _ e cls J10 F10.weak hE))))
  cases use<;>exact key
 have st4:tn 0 s4.heap:=T.keep _ _ _ st3 λb _ o e=>by rw[<-hs4];exact wN _ _ _ _ (bN _ e)
 have stat:∀{σ':St}{H':Hp}{s':Shared},Inv (X.H_ s3 H3 scope ce fp) [] σ' H' s'->(∀b∈fp,H' b=none)->∀b∈fp,vN (X.H_ s3 H3 scope ce fp) [] H' b:=λ{σ' H' s'} I' hn b hb=>
  ⟨hn b hb,(I'.ok.Yx b hb).1,I'.ok.HF b hb,.inl hb,λx c e=>(I'.ok.Yx b hb).2 x c e,λp hp=>absurd (show p∈([]:List (Addr×Obj))++ []from hp) ∅⟩
 have loop:codeAny (model X.prog X.w) X.A (.compLoop (.ListComp elt [⟨tg,iter,ifs,0⟩] scope pos) 0 (.ref it) (.ref D) ce) (compPost (model X.prog X.w) X.A X.xe use Qf (.ref D) s3.heap.objs.size) s4:=by
  refine C6 (λn s'=>∃i H',Inv (X.H_ s3 H3 scope ce fp) [] (wipe σ (own.map (·.2))) H' s'/\tn i s'.heap/\(∀b∈fp,H' b=none)/\W i n H') ?_ m0 ⟨0,H3,I4,st4,nfp,w0⟩;rintro n s5 ⟨i,H5,I5,Yy,n5,w5⟩;obtain⟨stop,qq⟩|⟨go,Nx,hNx,step⟩:=turn i n H5 w5
  .have td:=T.done (X.H_ s3 H3 scope ce fp) rfl rfl rfl hc i [] s5 _ H5 (λ_ _=>False) I5 (stat I5 n5) Yy stop;refine WV td λr s6 zq1=>?_;obtain⟨hr,I6⟩:=zq1;subst hr;have I7:=I3.N7 (ch:=fp) I6.os I6.base I6.bQ I6.bare λb hb=>⟨(f3 b hb).1.2.2.2.1,(f3 b hb).1.2.1,(f3 b hb).1.2.2.2.2.1,(f3 b hb).1.2.2.2.2.2⟩;have nC:H5 s3.heap.objs.size=none:=by
    have z:=I6.free;rw[cL]at z;exact z
   obtain⟨m,hn,_⟩:=I6.loc;rw[cL]at hn;exact YQ D s3.heap.objs.size s6 m H5 I7 qq hn (I3.CT (aQ _) nC)
  .have ti:=T.item (X.H_ s3 H3 scope ce fp) rfl rfl rfl hc i [] s5 _ H5 (λ_ _=>False) I5 (stat I5 n5) Yy go;refine WV ti λr s6 zq2=>?_;obtain⟨u,hr,h6⟩:=zq2;subst hr;refine WV h6 λ_ s7 zq3=>?_;obtain⟨x,H7,I7,r7,y7,st7,n7⟩:=zq3;have I7':=I7.pinned (stat I7 n7) (T.obj _ _ st7);refine c5 (pg _ s7 _ H7 x u _ (I7'.qB _) r7 (step x H7 y7)) (λ_ s8 zq4=>?_) Xf;obtain⟨σ8,H8,I8,hw8,q8⟩:=zq4;refine c5 (pt _ s8 σ8 H8 _ I8 q8) (λb s9 zq5=>?_) Xf;obtain⟨H9,I9w,q9⟩:=zq5;have I9:=I9w.eO;have fin:∀{s':Shared}{H':Hp},Inv (X.H_ s3 H3 scope ce fp) ([] ++ya fp s7.heap) σ8 H' s'->Nx H'->∃m,m<n/\∃i H',Inv (X.H_ s3 H3 scope ce fp) [] (wipe σ (own.map (·.2))) H' s'/\tn i s'.heap/\(∀b∈fp,H' b=none)/\W i m H':=λ{s' H'} I' nx=>by
    obtain⟨m',hm,w'⟩:=hNx H' nx;have aaf:∀b∈fp,∀o,s7.heap.get? b=some o->s'.heap.get? b=some o/\H' b=none:=λb hb o e=>
     let z:=I'.pin (b,o) (mz _ (mz _ (rj hb e)))
     ⟨z.1,z.2.1⟩
    have hl:(wipe σ (own.map (·.2))).length=σ8.length:=by rw[<-hw8,oA]
    refine⟨m',hm,i+1,H',(I'.sY).weak hl (λj v e=>?_),T.keep _ _ _ st7 λb hb o e=>(aaf b hb o e).1,λb hb=>?_,w'⟩
    .rw[<-hw8]at e;exact(ux e).1
    .obtain⟨o,e,_⟩:=T.obj _ _ st7 b hb;exact(aaf b hb o e).2
   cases b with
   |false=>
    exact fin I9 q9
   |true=>
    refine c5 (pe _ s9 σ8 H9 _ I9w q9) (λz s10 zq6=>?_) Xf;obtain⟨yv,H10,I10,r10,acc,adg,adh,nx⟩:=zq6;exact WT (X:=X.H_ s3 H3 scope ce fp) I10.eO adg adh r10 λs11 I11=>fin I11 nx
 exact codeAny_compStart_list loop (T.self X.A 0 _ _ _ st4 loop)
def Ij{E:XK}{pos:Pos}(vm:X.pn=[])(pY:X.stack=X.env::X.outer)(E2:X.env.frame=some X.env.locals)(xr:XR X E)(hc:X.calm=true)(hN:X.N.Nodup)(hi:PI X tg iter wi)(ok:yj X.N X.env.scope scope own)(hg:∀(s:Shared)(H:Hp)(C:Addr)(cl:List (Str×Addr))(fp:List Addr),PG (X.qD E s H scope (compEnvC scope cl C X.env) fp) tg g)(ht:∀(s:Shared)(H:Hp)(C:Addr)(cl:List (Str×Addr))(fp:List Addr),WU (X.qD E s H scope (compEnvC scope cl C X.env) fp) ifs tt)(he:∀(s:Shared)(H:Hp)(C:Addr)(cl:List (Str×Addr))(fp:List Addr),PE (X.qD E s H scope (compEnvC scope cl C X.env) fp) elt te)(hs:∀x,foldedSetIterable iter X.env x=pure x:=by intro _;rfl):
  PE X (.ListComp elt [⟨tg,iter,ifs,0⟩] scope pos) (YM wi g tt te (own.map (·.2))):=by
 intro pins s σ H Q I h;refine FK vm pY E2 xr hc hN I hi ok hg ht he hs h λD C s' m H' I' q hn f=>⟨m,hn,λOJ sb=>?_⟩;obtain⟨f0,f1,f2,f3,f4,f5⟩:=f;exact⟨.ref D,H',I'.turned (λb o hb e=>(sb.2 b hb).trans e) f0 f1 f3 f4 f5,rfl,q⟩
def BM{E:XK}{y:Str}{py:Pos}{OY:Pos}(vm:X.pn=[])(pY:X.stack=X.env::X.outer)(E2:X.env.frame=some X.env.locals)(xr:XR X E)(hc:X.calm=true)(hN:X.N.Nodup)(hy:X.N[i]?=some y)(YR:X.env.scope.names.lookup y=some .local)(hsw:swapsWith (.ListComp elt [⟨tg,iter,ifs,0⟩] scope pos) (some (.Name y py)) OY.line X.env=pure true)(hi:PI X tg iter wi)(ok:yj X.N X.env.scope scope own)(hg:∀(s:Shared)(H:Hp)(C:Addr)(cl:List (Str×Addr))(fp:List Addr),PG (X.qD E s H scope (compEnvC scope cl C X.env) fp) tg g)(ht:∀(s:Shared)(H:Hp)(C:Addr)(cl:List (Str×Addr))(fp:List Addr),WU (X.qD E s H scope (compEnvC scope cl C X.env) fp) ifs tt)(he:∀(s:Shared)(H:Hp)(C:Addr)(cl:List (Str×Addr))(fp:List Addr),PE (X.qD E s H scope (compEnvC scope cl C X.env) fp) elt te)(hs:∀x,foldedSetIterable iter X.env x=pure x:=by intro _;rfl):
  PS X (.Assign [.Name y py] (.ListComp elt [⟨tg,iter,ifs,0⟩] scope pos) OY) (Od (YM wi g tt te (own.map (·.2))) (ot i)):=by
 intro pins s σ H D I h;rw[exec_Assign_Name_used _ _ _ _ hsw];refine aj (wpAny_standAt (aj ?_));refine aj (cJ (FK vm pY E2 xr hc hN I hi ok hg ht he hs h λL C s' m H' I' q hn f=>?_) λ_ s' hq=>ay (ay hq));refine wpAny_assign_Name (Bg (v:=V.ref L) I' hN hy (.inl YR) rfl (λs2 I2 zq7=>?_) (.inr YR));obtain⟨a,sb,ha⟩:=zq7;obtain⟨f0,f1,f2,f3,f4,f5⟩:=f;have haC:C≠a:=by
  obtain z|z:=ha
  .rw[z];exact f1
  .exact λe=>f4 y a z e.symm
 refine⟨m,hn.sameBut sb haC,λh3 sb3=>?_⟩;exact⟨_,H',I2.turned (λb o hb e=>(sb3.2 b hb).trans e) f0 f1 f3 f4 f5,q⟩
end
def PS0(X:Cx)(st:Stmt)(t:TS):Prop:=∀(s:Shared)(σ:St)(H:Hp)(D:Ends),Inv X [] σ H s->t D σ H->wpAny (model X.prog X.w) X.A (exec st X.env) (SP X [] D) X.xe s
def Dj(X:Cx)(st:List Stmt)(t:TS):Prop:=∀(s:Shared)(σ:St)(H:Hp)(D:Ends),Inv X [] σ H s->t D σ H->wpAny (model X.prog X.w) X.A (execs st X.env) (SP X [] D) X.xe s
def PS.ps0{t:TS}(h:PS X st t):PS0 X st t:=λs σ H D I q=>h [] s σ H D I q
def vM.adi{st:List Stmt}{t:TS}(h:vM X st t):Dj X st t:=λs σ H D I q=>h [] s σ H D I q
def uC{rest:List Stmt}{t u:TS}(h1:PS0 X st t)(h2:Dj X rest u):Dj X (st::rest) (Sx t u):=by
 intro s σ H D I h;refine wpAny_execs_cons (cJ (h1 s σ H {D with nx:=u D} I h) λf s1 q=>?_);cases f with
 |next=>
  obtain⟨σ',H',I',q⟩:=q;exact h2 s1 σ' H' D I' q
 |ret v=>exact q|brk=>exact q
 |cont=>exact q
noncomputable abbrev Cx.lO(X:Cx)(e:Value)(xe:Value->Shared->Prop):Cx:= {X with A:=X.A.mark (some e),calm:=false,xe:=xe}
theorem Inv.lO(I:Inv X pins σ H s) e xe:Inv (X.lO e xe) pins σ H s:=
 ⟨⟨I.ok.mod,I.ok.kind,I.ok.glob,I.ok.blt,I.ok.above,I.ok.inj,I.ok.has,I.ok.V1,λz=>Bool.noConfusion z,I.ok.frames,I.ok.Yw,I.ok.Yx,I.ok.bs,I.ok.LX,I.ok.HE,I.ok.HF,I.ok.rh,I.ok.RN⟩,I.os,I.bare,I.base,I.loc,I.cell,I.free,I.iG,I.pin,I.bQ,I.len⟩
def Inv.mU{e:Value}(I:Inv (X.lO e xe) pins σ H s)(ok:X.Ok):Inv X pins σ H s:=
 ⟨ok,I.os,I.bare,I.base,I.loc,I.cell,I.free,I.iG,I.pin,I.bQ,I.len⟩
theorem SP.mU{D:Ends}{f:Flow}{e:Value}(h:SP (X.lO e xe) pins D f s')(ok:X.Ok):SP X pins D f s':=by
 cases f with
 |next=>obtain⟨σ',H',I,q⟩:=h;exact⟨σ',H',I.mU ok,q⟩
 |brk=>obtain⟨σ',H',I,q⟩:=h;exact⟨σ',H',I.mU ok,q⟩
 |cont=>obtain⟨σ',H',I,q⟩:=h;exact⟨σ',H',I.mU ok,q⟩
 |ret u=>obtain⟨v,σ',H',I,r,q⟩:=h;exact⟨v,σ',H',I.mU ok,r,q⟩
def adk(C:Addr)(tb:XK->TS)(th:TS):TS:=λD σ H=>∃E:XK,tb E D σ H/\∀(σ':St)(H':Hp)(cls:Value)(d:Option Addr),E cls d H'->cls=.ref C/\th D σ' H'
def Kq{C:Addr}{Xc:List Value}{newId:String}{body lO:List Stmt}{b0:Stmt}{tb:XK->TS}{th:TS}{np adl pos:Pos}(vm:X.pn=[])(pY:X.stack=X.env::X.outer)(E2:X.env.frame=some X.env.locals)(hg:Gl X x)(hm:X.mg x=some (.ref C))(q:PySem.W.excIn X.K C Xc newId=true)(jH:Xc.contains (.type "BaseException")=true)(hb:∀(E:XK)(xe:Value->Shared->Prop),XR (X.qB xe) E->vM (X.qB xe) body (tb E))(hs:∀(e:Value)(xe:Value->Shared->Prop),vM (X.lO e xe) (b0::lO) th)(CZ:(x==("__debug__":Str))=false:=by decide):
  PS0 X (.Try body [.ExceptHandler (some (.Name x np)) none (b0::lO) adl] [] [] pos) (adk C tb th):=by
 intro s σ H D I h;obtain⟨E,h1,h2⟩:=h;refine wpAny_Try_except ?_;have run:=hb E (xeB X E) (λσ' H' s' e cls I' F' hE=>⟨e,σ',H',cls,rfl,I'.eO,F',hE⟩) [] s σ H D (I.qB _) h1;refine c5 run (λf s1 z=>?_) λv s1 z=>?_
 .cases f with
  |next=>exact wM (SP.eO z)|ret u=>exact SP.eO z
  |brk=>exact SP.eO z|cont=>exact SP.eO z
 .obtain⟨e,σ',H',cls,rfl,I1,F1,hE⟩:=z;obtain⟨rfl,hth⟩:=h2 σ' H' cls none hE;refine Di I1 vm pY E2 E2 F1 λg1 I2 F2=>lN I2 vm F2 λg2 I3 F3=>?_;refine wpAny_handleBy_cons (codeAny_handlers_test (pX (X:=X.lO (.ref e) λ_ _=>False) (I3.lO _ _) hg hm ?_ CZ)) (by intro y;cases y);obtain⟨bm,N,nm,qn,bs,hdct,sn,sub,ab,col,dd,k0,k1,k2,k3,k5,mN,hC,hN,Xd,TL⟩:=Kp (mg:=X.mg) I.ok.mod.Sq q;obtain⟨oe,vs,he,hc,_⟩:=id F3;refine wpAny_excMatches_sub_self (I3.bk _ _ hC) he hc (TL.hasType jH) (codeAny_handlers_suite ?_);refine lN (X:=X.lO (.ref e) λ_ _=>False) (I3.lO _ _) vm F3 λg3 I4 F4=>?_;have vP:=hs (.ref e) (notedBy (model X.prog X.w) (X.A.mark (some (.ref e))) X.env λx s₂=>cameBackBy (model X.prog X.w) X.A X.env X.xe x s₂) [] _ σ' H' D ((I4.mU I.ok).lO (.ref e) _) hth;exact c5 vP (λf s5 z=>z.mU I.ok) λv s5 z=>z
def Xg{dV kV doc b8 oc:Value}(lk:K.lookup f=some ⟨oc,od,.func (PySem.W.fnOf name qual params body scope dV kV doc pm an b8 ct),HR⟩)(Bh:PySem.W.codeIn K b8 qual=true)(S:aC N ps scope)(len:∀vs H Q E,sp vs H Q E->vs.length=ps.length)(gq:∀A outer s H vs Q E,dX k (A.deeper (envOfC qual scope s.heap.objs.size f b8))->sp vs H Q E->
   ∃t,Dj (j5 CX P w K mg base N qual scope f b8 A outer s H E) body t/\t {nx:=λ_ H'=>Q .cT H',rt:=Q} (start N vs) H):
  n9 P w K mg base CX (k+1) f (PySem.W.fnOf name qual params body scope dV kV doc pm an b8 ct) ps sp:=by
 refine⟨len,λA outer s H args us vs Q E hr e0 hb r Au=>?_⟩;have hl:=len _ _ _ _ Au;have KX:=e0.mod.Sq.keeps λb o e=>(e0.bs b o e).1;have lim:=e0.mod.nolimit.keeps λb o e=>(e0.bs b o e).1;have Fj:∀y∈ps.zip us,scope.names.lookup y.1=some .local\/(scope.names.lookup y.1=some .cell/\((cellsFrom (s.heap.objs.size+1) scope.names []).lookup y.1).isSome=true):=λ⟨n,v⟩ hy=>by
  obtain q|q:=S.par n (mL hy).1
  .exact .inl q
  .exact .inr ⟨q,wg _ _ _ (.inl q)⟩
 refine codeAny_call_function hr.depth (KX _ _ lk) rfl S.co S.gen rfl (PySem.W.codeRec_of KX Bh) (hb _ _ _ _ ?_);refine wpAny_newFunctionEnv_cells S.kind Fj λenv he s1 x=>?_;subst he;refine⟨lim.keeps x.toInCall.keep,codeAny_func ?_⟩;obtain⟨t,ht,hq⟩:=gq A outer s H vs Q E (hr.deeper _) Au;have I:Inv (j5 CX P w K mg base N qual scope f b8 A outer s H E) [] (start N vs) H s1:=uq S hr.hd e0 hl r x;refine c5 (ht s1 (start N vs) H _ I hq) (λfl s' hs=>?_) λe s' hs=>hs;have fin:∀{σ':St}{H':Hp}{v:V}{u:Value},Inv (j5 CX P w K mg base N qual scope f b8 A outer s H E) [] σ' H' s'->RelV v u->Q v H'->CE outer P w H s Q u s':=
  λ{σ' H' v u} J rv q=>⟨v,H',J.os,J.bare,J.base,J.bQ,rv,q⟩
 cases fl with
 |ret u=>
  obtain⟨v,σ',H',J,rv,q⟩:=hs;exact fin J rv q
 |next=>
  obtain⟨σ',H',J,q⟩:=hs;exact fin (v:=V.cT) J rfl q
 |brk=>
  obtain⟨_,_,_,q⟩:=hs;exact False.elim q
 |cont=>
  obtain⟨_,_,_,q⟩:=hs;exact False.elim q
theorem Dj.NR{st:List Stmt}{t:TS}(h:Dj X.NR st t):Dj X st t:=λs σ H D I hw=>
 c5 (h s σ H D (I.qB _) hw) (λ_ _ q=>q.eO) λ_ _ z=>False.elim z
def Ko.ok0(F:Ko K x qual st f fd)(S:aC N ps (ao st))(len:∀vs H Q E,sp vs H Q E->vs.length=ps.length)(gq:∀b8 A outer s H vs Q E,dX k (A.deeper (envOfC qual (ao st) s.heap.objs.size f b8))->sp vs H Q E->
   ∃t,Dj (j5 eJ P w K mg base N qual (ao st) f b8 A outer s H E).NR (cj st) t/\t {nx:=λ_ H'=>Q .cT H',rt:=Q} (start N vs) H):n9 P w K mg base eJ (k+1) f fd ps sp:=by
 obtain⟨oc,od,kV,doc,pm,an,b8,ct,HR,rfl,lk,Bh⟩:=F.ex;refine Xg lk Bh S len λA outer s H vs Q E hr Au=>?_;obtain⟨t,h,q⟩:=gq b8 A outer s H vs Q E hr Au;exact⟨t,h.NR,q⟩
noncomputable def bp{α:Type}:List α->List α
 |a::_::r=>a::bp r|[a]=>[a]
 |[]=>[]
noncomputable def oF{α:Type}(l:List α):List α:=bp (l.drop 1)
def xc(a b:α) r:oF (a::b::r)=b::oF r:=by cases r<;>rfl
theorem vq:∀aR:List α,(List.range ((aR.length+1)/2)).filterMap (λk=>aR[2*k]?)=bp aR
 |[]=>by simp[bp]|[_]=>by simp[bp]
 |a::b::r=>by
  have e:((a::b::r).length+1)/2=(r.length+1)/2+1:=by
   simp only[length_cons];omega
  rw[e,range_succ_eq_map,jD];show a::_=a::bp r;rw[filterMap_map,<-vq r];congr 1
theorem jq:∀aR:List α,(bp aR).length<=aR.length
 |[]=>aQ _|[_]=>aQ _
 |_::_::r=>by
  have:=jq r;simp only[bp,length_cons];omega
theorem Vals.bp:∀{xs}{us},Vals xs us->Vals (L2.bp xs) (L2.bp us)
 |[],_,h=>by cases h;exact .nil
 |[_],_,h=>by
  obtain⟨u,rfl,r⟩:=vals1 h;exact .cons r .nil
 |_::_::xs,_,h=>by
  cases h with
  |cons r t=>
   cases t with
   |cons _ t=>exact .cons r (Vals.bp t)
def Vals.aag n (h:Vals xs us):Vals (xs.drop n) (us.drop n):=Paired.drop' n h
def Ik(aR:List Value)(s:Nat):slicePick aR.toArray (some (s:Int)) none (some 2)=(bp (aR.drop s)).toArray:=by
 unfold slicePick;rw[<-vq (aR.drop s)];congr 1;have h1:(sliceBounds (some (s:Int)) none (some 2) aR.toArray.size).1=((min s aR.length:Nat):Int):=by
  simp[sliceBounds];omega
 have h2:(sliceBounds (some (s:Int)) none (some 2) aR.toArray.size).2.1=(aR.length:Int):=by simp[sliceBounds]
 have h3:(sliceBounds (some (s:Int)) none (some 2) aR.toArray.size).2.2=2:=by simp[sliceBounds]
 rw[h1,h2,h3];have hc:(if(2:Int)>0 then(if((min s aR.length:Nat):Int)<(aR.length:Int)then((aR.length:Int)-((min s aR.length:Nat):Int)+2-1)/2 else 0)
           else(if((min s aR.length:Nat):Int)>(aR.length:Int)then(((min s aR.length:Nat):Int)-(aR.length:Int)-2-1)/(-2)else 0)).toNat=((aR.drop s).length+1)/2:=by
  rw[ah ⋯,dU];split<;>omega
 unfold sliceRange;simp only[hc];rw[filterMap_map];by_cases c:s<=aR.length
 .rw[pF c];congr 1;funext k;have:((s:Int)+2*(k:Int)).toNat=s+2*k:=by omega
  show aR.toArray[((s:Int)+2*(k:Int)).toNat]?=(aR.drop s)[2*k]?;rw[this,pH];simp
 .have e:((aR.drop s).length+1)/2=0:=by rw[dU];omega
  rw[e];rfl
def OZ(K:PySem.W.Frag)(te tl ts:TE):TE:=λσ H Q=>te σ H λx H1=>tl σ H1 λy H2=>ts σ H2 λz H3=>∃(a:Addr) (xs:List V) (n:Nat),x=.ref a/\y=.int n/\z=.int 2/\aJ K H3 a xs/\∀p,H3 p=none->Q (.ref p) (upd H3 p (.lst (bp (xs.drop n))))
def qe{lo st:Expr}(he:PE X e te)(hl:PE X lo tl)(pY:PE X st ts):PE X (.Subscript e (.Slice (some lo) none (some st) p2) pos) (OZ X.K te tl ts):=by
 intro pins s σ H Q I h;refine Subscript_ (cJ (he pins s σ H _ I h) λv s1 zx=>?_);obtain⟨x,H1,I1,r1,q1⟩:=zx;refine wpAny_Slice ?_;refine cJ (hl pins s1 σ H1 _ I1 q1) λvl s2 zy=>?_;obtain⟨y,H2,I2,r2,q2⟩:=zy;refine ay ?_;refine cJ (pY pins s2 σ H2 _ I2 q2) λvs s3 zz=>?_;obtain⟨z,H3,I3,r3,a,xs,n,ex,ey,ez,hs,q⟩:=zz;subst ex ey ez;obtain rfl:v=Value.ref a:=r1;obtain⟨t2,rfl⟩:=r2;obtain⟨t3,rfl⟩:=r3;have I4:Inv X pins σ H3 {s3 with heap:=s3.heap.push {cls:=.type "slice",data:=.fields #[Value.int n t2,Value.none,Value.int 2 t3]}} :=I3.kept λb ob q=>bN _ q;obtain⟨aR,r,ht,hz⟩:=I4.list hs;have hlen:=r.length;refine tail_any ht.isList.typeIs slot_list_getitem.lookup ?_ (by with_unfolding_all rfl);refine wpAny_getItem_list_slice ht.isList (Heap.IsSliceOf.new ..) (.int n t2) .none (.int 2 t3) ⋯ ?_ (by rw[cI] <;>omega);rw[Ik];refine⟨.ref _,_,I4.laid (t':=s3.toks) (λb ob q=>bN _ q) (aQ _) ?_,rfl,q _ (I4.bQ.fresh (aQ _))⟩;exact⟨aW (jq _) (aW (by rw[dU];exact Nat.sub_le _ _) hz),_,0,(r.aag n).bp,bq _ rfl⟩
structure KD(P:Program)(w:World)(K:PySem.W.Frag)(d:Addr)(kvs:List (Key×V)):Prop where
 at_:∃(o:Obj) (es:Array DictEntry) (ep:Nat) (vs:List (Key×Value)),K.lookup d=some o/\(d==sysModules)=false/\o.ExactDict/\o.data=.dict es ep/\es.size=kvs.length/\KV kvs vs/\KeysOf (bI P w) es/\Pairs (bI P w) es.toList vs/\(vs.map (·.1)).Nodup
section
variable {d:Addr}
def KD.dictOf(D:KD X.prog X.w X.K d kvs)(I:Inv X pins σ H s):∃vs,KV kvs vs/\s.heap.DictOf (bI X.prog X.w) d vs:=by
 obtain⟨o,es,ep,vs,h1,h2,h3,h4,h5,h6,h7,h8,h9⟩:=D.at_;exact⟨vs,h6,o,es,ep,I.EZ _ _ h1,h3,h4,h7,h8,h9⟩
def KD.noSys(D:KD X.prog X.w X.K d kvs):(d==sysModules)=false:=by
 obtain⟨o,es,ep,vs,h1,h2,_⟩:=D.at_;exact h2
variable {i:Expr} {td ty:TE}
def adn(P:Program)(w:World)(K:PySem.W.Frag)(ty td:TE):TE:=λσ H Q=>ty σ H λy H1=>td σ H1 λx H2=>∃d kvs k,x=.ref d/\y=kV k/\KD P w K d kvs/\Q (.bl (eQ kvs k).isSome) H2
def Xh(hi:PE X i ty)(hd:PE X e td):PC X .In i e (adn X.prog X.w X.K ty td):=by
 intro pins s σ H Q I h;refine cJ (hi pins s σ H _ I h) λiv s1 zq8=>?_;obtain⟨y,H1,I1,ry,q1⟩:=zq8;refine cJ (hd pins s1 σ H1 _ I1 q1) λu s2 zq9=>?_;obtain⟨x,H2,I2,rx,d,kvs,k,ex,ey,D,q2⟩:=zq9;subst ex ey;obtain rfl:u=Value.ref d:=rx;obtain⟨vs,rel,dd⟩:=D.dictOf I2;refine wpAny_in_of (vk ry) D.noSys dd.mapOf ?_;rw[<-(rel.val k).p_];exact⟨.bl _,H2,I2.tok _,rfl,q2⟩
def aah(P:Program)(w:World)(K:PySem.W.Frag)(td ty:TE):TE:=λσ H Q=>td σ H λx H1=>ty σ H1 λy H2=>∃d kvs k v,x=.ref d/\y=kV k/\KD P w K d kvs/\eQ kvs k=some v/\Q v H2
def Dk(hd:PE X e td)(hi:PE X i ty)(hs:ZF i):PE X (.Subscript e i pos) (aah X.prog X.w X.K td ty):=by
 intro pins s σ H Q I h;refine SX PySem.F.slot_dict_getitem.lookup hs (cJ (hd pins s σ H _ I h) λu s1 Wc=>?_);obtain⟨x,H1,I1,rx,q1⟩:=Wc;refine cJ (hi pins s1 σ H1 _ I1 q1) λiv s2 ado=>?_;obtain⟨y,H2,I2,ry,d,kvs,k,v,ex,ey,D,hv,q2⟩:=ado;subst ex ey;obtain rfl:u=Value.ref d:=rx;obtain⟨vs,rel,dd⟩:=D.dictOf I2;obtain⟨w',hw,WB⟩:=uj.some_of (v:=v) (by rw[<-hv];exact rel.val k);obtain⟨o,es,ep,ho,hx,_⟩:=id dd;exact⟨⟨o,ho,hx.1⟩,wpAny_getItem_of (vk ry) dd.mapOf hw ⟨v,H2,I2.tok _,WB,q2⟩⟩
end
noncomputable def Itm(kvs:List (Key×V)):It:=⟨λi _=>i<kvs.length,λi H x H'=>H'=H/\∃k v,kvs[i]?=some (k,v)/\x=kV k,λi _=>kvs.length<=i⟩
def Il{o:Obj}{es:Array DictEntry}{vs:List (Key×Value)} it (h1:K.lookup d=some o) (h3:o.ExactDict) (h4:o.data=.dict es ep) (h5:es.size=kvs.length)
  (h6:KV kvs vs) (h7:KeysOf (bI P w) es) (h8:Pairs (bI P w) es.toList vs) (h9:(vs.map (·.1)).Nodup):Turn P w K tg (Itm kvs) [it] it (λi h=>h.IsKeyIter it d i kvs.length ep)where
 mem:=by simp
 obj:=λi h st b hb=>by
  have e:b=it:=‹hb›
  subst e;obtain⟨oi,e,c,dd⟩:=st;exact⟨oi,e,λv z=>by rw[dd]at z;cases z⟩
 keep:=λi h h' st k=>st.at λoi e=>k it ∅ oi e
 item:=by
  intro X hP hw hK hc i pins s σ H E I hf st hi;subst hP hw hK;obtain⟨f0,f1,f2,f3,f4,f5⟩:=hf it ∅;obtain⟨⟨k,v⟩,hkv⟩:∃p,kvs[i]?=some p:=⟨kvs[i],bg hi⟩;obtain⟨u,hu,ru⟩:=W3 h6 hkv;have hl:=Paired.length h6;have hm:s.heap.DictAt (bI X.prog X.w) d vs ep:=⟨o,es,I.EZ _ _ h1,h3,h4,h7,h8,h9⟩;rw[hl]at st;refine wpAny_pyNext_dict_item st hm hu λkey h' Wu Bi sb=>?_;have I1:=I.turned (t':=s.toks) (λb ob hb e=>(sb.2 b hb).trans e) f0 f1 f3 f4 f5;obtain⟨oi,e,c,dd⟩:=id Bi;refine⟨key,rfl,Fd e c dd ⋯ ⟨kV k,H,I1,Fz (show gX k key=true from Wu),⟨rfl,k,v,hkv,rfl⟩,?_,λb hb=>(hf b hb).1⟩⟩;rw[hl];exact Bi
 done:=by
  intro X hP hw hK hc i pins s σ H E I hf st hi;subst hP hw hK;obtain⟨f0,f1,f2,f3,f4,f5⟩:=hf it ∅;exact Dc (I.ok.hd hc) st (I.EZ _ _ h1) h4 h5 hi λh' eb=>⟨rfl,I.turned (λb ob hb e=>eb b ob hb e) f0 f1 f3 f4 f5⟩
 self:=λA i s Q E st h=>wpAny_pyIter_keyiter st h
def Xi(P:Program)(w:World)(K:PySem.W.Frag)(td:TE):TI:=λσ H R=>td σ H λx H1=>∃d kvs,x=.ref d/\KD P w K d kvs/\R (Itm kvs) H1
def O0(he:PE X e td):PI X tg e (Xi X.prog X.w X.K td):=by
 intro pins s σ H R I h;refine cJ (he pins s σ H _ I h) λu s1 Wd=>?_;obtain⟨x,H1,I1,rx,d,kvs,ex,D,q⟩:=Wd;subst ex;obtain rfl:u=Value.ref d:=rx;obtain⟨o,es,ep,vs,h1,h2,h3,h4,h5,h6,h7,h8,h9⟩:=D.at_;refine Mh h2 (I1.EZ _ _ h1) h3 h4 (C_ I1 _ (Il _ h1 h3 h4 h5 h6 h7 h8 h9) ⟨_,bq _ rfl,rfl,?_⟩ q);rw[h5] <;>rfl
def Ms{D:Ends}(Pv:Nat->St->Hp->Prop)(h0:Pv 0 σ H)(hs:∀i k v σ H,kvs[i]?=some (k,v)->Pv i σ H->g (kV k) σ H λσ2 H2=>tb {D with nx:=Pv (i+1),ct:=Pv (i+1),bk:=D.nx} σ2 H2)(hd:∀σ H,Pv kvs.length σ H->D.nx σ H):
  ∃W:Nat->Nat->St->Hp->Prop,(∃m,W 0 m σ H)/\∀i m σ H,W i m σ H->
   ((Itm kvs).stop i H/\D.nx σ H)\/((Itm kvs).go i H/\∃N:St->Hp->Prop,(∀σ' H',N σ' H'->∃m',m'<m/\W (i+1) m' σ' H')/\∀x H',(Itm kvs).E1 i H x H'->g x σ H' λσ2 H2=>tb {D with nx:=N,ct:=N,bk:=D.nx} σ2 H2):=by
 refine⟨λi m σ H=>m=kvs.length-i/\i<=kvs.length/\Pv i σ H,⟨kvs.length,by simp,cv _,h0⟩,?_⟩;rintro i m σ H ⟨rfl,hi,p⟩;by_cases eK:i<kvs.length
 .refine .inr ⟨eK,Pv (i+1),λσ' H' p'=>⟨kvs.length-(i+1),by omega,rfl,eK,p'⟩,λx H' y=>?_⟩;obtain⟨e,k,v,hkv,y⟩:=y;subst e y;exact hs i k v σ _ hkv p
 .have e:i=kvs.length:=by omega
  subst e;exact .inl ⟨aQ _,hd σ H p⟩
section
def O1:Zn:=λx y H Q=>eI x λi=>eI y λj=>Oi i j/\Q (.int (i*j)) H
def O2:PIp X .Mult O1:=by
 intro pins s σ H x y v u Q I r1 r2 h;obtain⟨i,e1,h⟩:=fD.mp h;obtain⟨j,e2,hc,q⟩:=fD.mp h;subst e1;subst e2;obtain⟨t,rfl⟩:=r1;obtain⟨t',rfl⟩:=r2;exact imul_int ⟨.int _,H,I.tok _,⟨_,rfl⟩,q⟩ hc.ok
def Td:PIp X .FloorDiv (rI Wr λi j=>.int (i/j)):=λpins s σ H x y v u Q I r1 r2 h=>Oj pins s σ H x y v u Q I r1 r2 h
theorem vt:∀{bs}{us},Vals (bs.map V.bl) us->LSm.BoolsAre us bs
 |[],_,.nil=>.nil
 |n::_,_,.cons r t=>by
  cases r;exact .cons n (vt t)
def FL(hc:X.calm=true):lF X (.builtin "sum") (λxs H Q=>eL xs λp=>∃ns:List Int,aJ X.K H p (ns.map V.int)/\Q (.int ns.sum) H):=by
 intro pins s σ H xs us Q I r h;obtain⟨p,rfl,ns,hq,q⟩:=uk.mp h;obtain⟨u,rfl,rx⟩:=vals1 r;cases rx;obtain⟨aR,r',pl,hz⟩:=I.list hq;have hi:=intsAre_of r';obtain⟨xs,hx⟩:=hi.allInts.items;have Fb:=hx▸pl.isList;refine sum_intListG (I.ok.hd hc) Fb λh' tk t' hk=>?_;have e1:ns=xs.toList.map (·.1):=by
  rw[<-nums_intItems,<-hx];exact(show numsOf aR.toArray.toList=ns from hi.numsOf).symm
 have e2:preSum (numAt xs) xs.size=ns.sum:=by
  rw[preSum_eq,qX ∅,e1]
 rw[e2];exact⟨.int ns.sum,H,I.kept hk,⟨_,rfl⟩,q⟩
def lP(hc:X.calm=true):lF X (.builtin "all") (λxs H Q=>eL xs λp=>∃bs:List Bool,aJ X.K H p (bs.map V.bl)/\Q (.bl (bs.all id)) H):=by
 intro pins s σ H xs us Q I r h;obtain⟨p,rfl,bs,hq,q⟩:=uk.mp h;obtain⟨u,rfl,rx⟩:=vals1 r;cases rx;obtain⟨aR,r',pl,hz⟩:=I.list hq;have hb:=vt r';have hl:=pl.isList;have eK:p<s.heap.objs.size:=by obtain⟨_,e,_⟩:=hl;exact aO e
 refine call_all_walk (wpAny_pyIter_list hl ?_);refine⟨s.heap.objs.size,[s.heap.objs.size,p],[s.heap.objs.size],aR.toArray.size,_,_,λi=>(bs[i]?).getD true,rfl,Walks.list (A:=X.A.in1) (I.ok.hd hc) _ p (bx eK) aR.toArray,
  ⟨⟨_,bq _ rfl,rfl,rfl⟩,hl.push _⟩,λi v s' Q' E' hP hQ=>?_,λh' tk hk=>?_⟩
 .obtain⟨b,e,rfl⟩:=hb.get i v ‹hP›;simp only[e,Option.getD_some]at hQ;exact mx hQ
 .have e:((List.range aR.toArray.size).all λi=>(bs[i]?).getD true)=bs.all id:=by
   rw[cI,hb.length];exact LSm.range_all bs
  rw[e];exact⟨.bl _,H,I.kept (LSm.kept_iter hk),rfl,q⟩
end
def Vb.up{i j c:Int}{n:Nat}(hc:0<c)(U4:c<1073741824)(ha: -(2^60)<=i)(ha':i<2^60)(hb: -(2^60)<=j)(YN:j<2^60)(hn:(n:Int)=if i<j then(j-i-1)/c+1 else 0):Vb i j c n:=by
 have hs:Builtin.Range.rangeSize i j c=if i<j then(j-i-1)/c+1 else 0:=by
  unfold Builtin.Range.rangeSize;rw[ah hc]
 refine⟨by omega,by omega,?_,by rw[hs,hn]⟩;have h1:i<j->0<=(j-i-1)/c/\(j-i-1)/c*c<=j-i-1:=λh=>⟨Int.ediv_nonneg () (),Int.ediv_mul_le _ ()⟩;have h2:i<j->(j-i-1)/c<=j-i-1:=λh=>by
  refine Int.ediv_le_self _ ()
 unfold Builtin.Range.small;rw[hs];simp only[Builtin.Range.rangeFitsLong,Bool.and_eq_true,Bool.or_eq_true,decide_eq_true_eq,beq_iff_eq];split
 .rename_i h;rw[bC,fB,fB];omega
 .omega
section
variable {o f:Expr} {et:Pos} {td ty tx:TE}
def Xj(P:Program)(w:World)(K:PySem.W.Frag)(td ty tx:TE):TE:=λσ H Q=>td σ H λx H1=>∃d kvs,x=.ref d/\KD P w K d kvs/\ty σ H1 λy H2=>tx σ H2 λz H3=>∃k,y=kV k/\Q ((eQ kvs k).getD z) H3
def O3(ho:PE X o td)(he:PE X e ty)(hf:PE X f tx)(m:M2 X o "get" apos e f et):PE X (.Call (.Attribute o "get" apos) [e,f] [] et) (Xj X.prog X.w X.K td ty tx):=by
 intro pins s σ H Q I h;refine wpAny_Call_method m.base m.few m.line PySem.F.plainAttrs_dict si PySem.F.type_dict_get (cJ (ho pins s σ H _ I h) λu s1 Wf=>?_);obtain⟨x,H1,I1,rx,a,kvs,ex,D,q1⟩:=Wf;subst ex;obtain rfl:u=Value.ref a:=rx;obtain⟨vs0,aek,dd0⟩:=D.dictOf I1;obtain⟨ob,es0,ep0,hob,hx0,_⟩:=id dd0;refine⟨dd0.typeIs,λb q=>?_,?_⟩
 .cases q;exact⟨ob,hob,hx0.2.1⟩
 rw[m.trees];refine ui rfl (sq (mw (cJ (he pins s1 σ H1 _ I1 q1) λiv s2 Wh=>?_)));obtain⟨y,H2,I2,ry,q2⟩:=Wh;refine mw (cJ (hf pins s2 σ H2 _ I2 q2) λfv s3 Wj=>?_);obtain⟨z,H3,I3,rz,k,ey,q3⟩:=Wj;refine rg ?_;subst ey;obtain⟨vs,rel,dd⟩:=D.dictOf I3;refine call_meetsIn si dd.typeIs PySem.F.entry_dict_get (PySem.F.args_dict_get_3 _ _ _) (meets_dict_get_default (bI X.prog X.w) a (vk ry) D.noSys fv) ⟨_,dd.mapOf,?_⟩;exact⟨_,H3,I3.tok _,(rel.val k).getD rz,q3⟩
end
structure jI(k:Nat)(A:Around):Prop where
 dp:A.depth+3*k+5<recursionLimit
 un:A.units+16*k+200<cLine
def dX.n(r:dX k A)(h:j<=k):jI j A:=⟨(r.mono h).dp,(r.mono h).un⟩
def dX.nm{e:Option Value}(r:dX k A)(h:j<=k):jI j (A.mark e):=⟨(r.mono h).dp,(r.mono h).un⟩
theorem jI.deeper(r:jI (k+1) A) env:jI k (A.deeper env):=
 ⟨by have:=r.dp;show A.depth+1+3*k+5<_;omega,by have:=r.un;show A.units+3+16*k+200<_;omega⟩
def jI.make(r:jI (k+1) A) C us kw:jI k (A.under (.builtin "type.__call__" ⟨.ref C::us,kw⟩)):=
 ⟨by have:=r.dp;rw[ye];omega,by have:=r.un;rw[yf];omega⟩
theorem jI.depth(r:jI k A):A.depth<recursionLimit:=by have:=r.dp;omega
structure BO(P:Program)(w:World)(K:PySem.W.Frag)(mg:Str->Option Value)(base:Heap)(CX:NT)(k:Nat)(f:Addr)(fd:FuncData)(ps:List Str)(sp:Sp):Prop where
 len:∀vs H Q E,sp vs H Q E->vs.length=ps.length
 run:∀(A:Around)(outer:List Env)(s:Shared)(H:Hp)(args:Args)(us:List Value)(vs:List V)(Q:VK)(E:XK),jI k A->Az P w K mg base A outer s H->BindsTo s fd args (ps.zip us)->Vals vs us->sp vs H Q E->
  codeAny (model P w) A (.call (.ref f) args) (CR CX outer P w H s Q E) s
noncomputable abbrev cxN(CX:NT)(P:Program)(w:World)(K:PySem.W.Frag)(mg:Str->Option Value)(base:Heap)(N:List Str)(qual:Str)(scope:Scope)(f:Addr)(cd:Value)(A:Around)(outer:List Env)(s:Shared)(H:Hp)(E:XK):Cx:=
 {j5 CX P w K mg base N qual scope f cd A outer s H E with calm:=false}
def Im{E:XK}{vs:List V}(S:aC N ps scope)(e0:Az P w K mg base A outer s H)(hl:vs.length=ps.length)(r:Vals vs us)(x:InCallC s s.heap.objs.size (bindL (envOfC qual scope s.heap.objs.size f cd).kindOf (ps.zip us) λ_=>none) (cellsFrom (s.heap.objs.size+1) scope.names []) (bindC (envOfC qual scope s.heap.objs.size f cd).kindOf (ps.zip us) λ_=>none) s1):
  Inv (cxN CX P w K mg base N qual scope f cd A outer s H E) [] (start N vs) H s1:=by
 have e1:Az P w K mg base {A with handled:=none} outer s H:=⟨e0.frames,e0.mod,e0.bs,e0.LX,e0.rh,e0.RN,e0.bQ,e0.bare⟩;have I:=uq (CX:=CX) (E:=E) S (show({A with handled:=none} :Around).handled=none from rfl) e1 hl r x;exact⟨⟨I.ok.mod,I.ok.kind,I.ok.glob,I.ok.blt,I.ok.above,I.ok.inj,I.ok.has,I.ok.V1,λz=>Bool.noConfusion z,I.ok.frames,I.ok.Yw,I.ok.Yx,I.ok.bs,I.ok.LX,I.ok.HE,I.ok.HF,I.ok.rh,I.ok.RN⟩,I.os,I.bare,I.base,I.loc,I.cell,I.free,I.iG,I.pin,I.bQ,I.len⟩
def Xk{dV kV doc b8 oc:Value}(lk:K.lookup f=some ⟨oc,od,.func (PySem.W.fnOf name qual params body scope dV kV doc pm an b8 ct),HR⟩)(Bh:PySem.W.codeIn K b8 qual=true)(S:aC N ps scope)(len:∀vs H Q E,sp vs H Q E->vs.length=ps.length)(gq:∀A outer s H vs Q E,jI k (A.deeper (envOfC qual scope s.heap.objs.size f b8))->sp vs H Q E->
   ∃t,vM (cxN CX P w K mg base N qual scope f b8 A outer s H E) body t/\t {nx:=λ_ H'=>Q .cT H',rt:=Q} (start N vs) H):
  BO P w K mg base CX (k+1) f (PySem.W.fnOf name qual params body scope dV kV doc pm an b8 ct) ps sp:=by
 refine⟨len,λA outer s H args us vs Q E hr e0 hb r Au=>?_⟩;have hl:=len _ _ _ _ Au;have KX:=e0.mod.Sq.keeps λb o e=>(e0.bs b o e).1;have lim:=e0.mod.nolimit.keeps λb o e=>(e0.bs b o e).1;have Fj:∀y∈ps.zip us,scope.names.lookup y.1=some .local\/(scope.names.lookup y.1=some .cell/\((cellsFrom (s.heap.objs.size+1) scope.names []).lookup y.1).isSome=true):=λ⟨n,v⟩ hy=>by
  obtain q|q:=S.par n (mL hy).1
  .exact .inl q
  .exact .inr ⟨q,wg _ _ _ (.inl q)⟩
 refine codeAny_call_function hr.depth (KX _ _ lk) rfl S.co S.gen rfl (PySem.W.codeRec_of KX Bh) (hb _ _ _ _ ?_);refine wpAny_newFunctionEnv_cells S.kind Fj λenv he s1 x=>?_;subst he;refine⟨lim.keeps x.toInCall.keep,codeAny_func ?_⟩;obtain⟨t,ht,hq⟩:=gq A outer s H vs Q E (hr.deeper _) Au;have I:Inv (cxN CX P w K mg base N qual scope f b8 A outer s H E) [] (start N vs) H s1:=Im S e0 hl r x;refine c5 (ht [] s1 (start N vs) H _ I hq) (λfl s' hs=>?_) λe s' hs=>hs;have fin:∀{σ':St}{H':Hp}{v:V}{u:Value},Inv (cxN CX P w K mg base N qual scope f b8 A outer s H E) [] σ' H' s'->RelV v u->Q v H'->CE outer P w H s Q u s':=
  λ{σ' H' v u} J rv q=>⟨v,H',J.os,J.bare,J.base,J.bQ,rv,q⟩
 cases fl with
 |ret u=>
  obtain⟨v,σ',H',J,rv,q⟩:=hs;exact fin J rv q
 |next=>
  obtain⟨σ',H',J,q⟩:=hs;exact fin (v:=V.cT) J rfl q
 |brk=>
  obtain⟨_,_,_,q⟩:=hs;exact False.elim q
 |cont=>
  obtain⟨_,_,_,q⟩:=hs;exact False.elim q
section
variable {k:Nat} {C:Addr} {sZ:List V} {ds:List Value} {E:XK} {m:Str} {p:Pos} {o:Expr} {es:List Expr} {t:TA}
def Mt{Q:VK}{vs:List V}(M:Mk X.K C f)(F:BO X.prog X.w X.K X.mg X.base CX k f fd ps sp)(hr:jI (k+1) X.A)(hb:Binds X.K fd ps ds)(hd:Vals sZ ds)(hx:Passes CX X E)(I:Inv X pins σ H s)(r:Vals vs us)(h:∀x dx,H x=none->H dx=none->dx≠x->sp (.ref x::(vs++sZ)) (upd (upd H dx (.own x)) x (.ins C dx [])) (λv H2=>v=.cT/\Q (.ref x) H2) E):
  wpAny (model X.prog X.w) X.A (call (.ref C) us) (EP X pins σ Q) X.xe s:=by
 have hq:=h (s.heap.objs.size+1) s.heap.objs.size (I.bQ.fresh (pQ _)) (I.bQ.fresh (aQ _)) (bx (kC _));have I2:=Inv.made (C:=C) I;have r2:Vals (V.ref (s.heap.objs.size+1)::(vs++sZ)) (Value.ref (s.heap.objs.size+1)::(us++ds)):=.cons rfl (r.append hd);have hl:(Value.ref (s.heap.objs.size+1)::us++ds).length=ps.length:=by
  have e:=r2.length;rw[F.len _ _ _ _ hq]at e;exact e.symm
 refine wpAny_call (Fg I.EZ M.makes M.init (beq_iff_eq.mp M.fn) (je (F.run _ X.stack _ _ ⟨Value.ref (s.heap.objs.size+1)::us,[]⟩ (Value.ref (s.heap.objs.size+1)::(us++ds)) _ _ E (hr.make C us [])
  (I2.CY.make C us []) (hb _ (Value.ref (s.heap.objs.size+1)::us) I2.EZ hl) r2 hq) λr s' Oq=>?_))
 cases r with
 |error e=>exact hx pins σ _ _ e s' I2 Oq
 |ok fl=>
  cases fl with
  |ret u=>
   obtain⟨v,H',I3,rv,ev,q3⟩:=I2.after Oq;subst ev;exact⟨rv,⟨V.ref (s.heap.objs.size+1),H',I3,rfl,q3⟩⟩
  |next=>exact False.elim Oq|brk=>exact False.elim Oq
  |cont=>exact False.elim Oq
def O4(M:Mk X.K C f)(F:BO X.prog X.w X.K X.mg X.base CX k f fd ps sp)(hr:jI (k+1) X.A)(hg:Gl X x)(hm:X.mg x=some (.ref C))(hb:Binds X.K fd ps ds)(hd:Vals sZ ds)(hx:Passes CX X E)(ha:PA X (e::es) t)(CZ:(x==("__debug__":Str))=false:=by decide)(he:starEach (e::es) X.env=(false,eval e X.env)::starEach es X.env:=by rfl)(iz:(backTo pos (starEach es X.env)).any (·.1)=false:=by rfl):
  PE X (.Call (.Name x p) (e::es) [] pos) (Bq C sp sZ E t):=by
 intro pins s σ H Q I h;refine jy (pX I hg hm ?_ CZ);refine PySem.W.callWith_K I.ok.mod.Sq M.kp (cJ (ha pos pins s σ H _ I h) λus s1 Wk=>?_) he iz;obtain⟨vs,H1,I1,r,q⟩:=Wk;refine⟨I1.EZ,?_⟩;exact Mt M F hr hb hd hx I1 r q
end
section
def Kr:XR X E0:=λ_ _ _ _ _ _ _ h=>h.elim
def fU{pos:Pos}(hc:X.calm=true)(hN:X.N.Nodup)(hi:PI X tg iter wi)(ok:yj X.N X.env.scope scope own)(hg:∀(s:Shared)(H:Hp)(C:Addr)(cl:List (Str×Addr))(fp:List Addr),PG (X.qD E0 s H scope (compEnvC scope cl C X.env) fp) tg g)(ht:∀(s:Shared)(H:Hp)(C:Addr)(cl:List (Str×Addr))(fp:List Addr),WU (X.qD E0 s H scope (compEnvC scope cl C X.env) fp) ifs tt)(he:∀(s:Shared)(H:Hp)(C:Addr)(cl:List (Str×Addr))(fp:List Addr),PE (X.qD E0 s H scope (compEnvC scope cl C X.env) fp) elt te)(hs:∀x,foldedSetIterable iter X.env x=pure x:=by intro _;rfl)(vm:X.pn=[]:=by rfl)(pY:X.stack=X.env::X.outer:=by rfl)(E2:X.env.frame=some X.env.locals:=by rfl):PE X (.ListComp elt [⟨tg,iter,ifs,0⟩] scope pos) (YM wi g tt te (own.map (·.2))):=
 Ij vm pY E2 Kr hc hN hi ok hg ht he hs
def qf{y:Str}{py:Pos}{OY:Pos}(hc:X.calm=true)(hN:X.N.Nodup)(hy:X.N[i]?=some y)(YR:X.env.scope.names.lookup y=some .local)(hsw:swapsWith (.ListComp elt [⟨tg,iter,ifs,0⟩] scope pos) (some (.Name y py)) OY.line X.env=pure true)(hi:PI X tg iter wi)(ok:yj X.N X.env.scope scope own)(hg:∀(s:Shared)(H:Hp)(C:Addr)(cl:List (Str×Addr))(fp:List Addr),PG (X.qD E0 s H scope (compEnvC scope cl C X.env) fp) tg g)(ht:∀(s:Shared)(H:Hp)(C:Addr)(cl:List (Str×Addr))(fp:List Addr),WU (X.qD E0 s H scope (compEnvC scope cl C X.env) fp) ifs tt)(he:∀(s:Shared)(H:Hp)(C:Addr)(cl:List (Str×Addr))(fp:List Addr),PE (X.qD E0 s H scope (compEnvC scope cl C X.env) fp) elt te)(hs:∀x,foldedSetIterable iter X.env x=pure x:=by intro _;rfl)(vm:X.pn=[]:=by rfl)(pY:X.stack=X.env::X.outer:=by rfl)(E2:X.env.frame=some X.env.locals:=by rfl):PS X (.Assign [.Name y py] (.ListComp elt [⟨tg,iter,ifs,0⟩] scope pos) OY) (Od (YM wi g tt te (own.map (·.2))) (ot i)):=
 BM vm pY E2 Kr hc hN hy YR hsw hi ok hg ht he hs
end
structure Te(K:PySem.W.Frag)(x qual:Str)(st:Stmt)(dV:Value)(f:Addr)(fd:FuncData):Prop where
 ex:∃(oc:Value) (od:Option Addr) (kV doc pm:Value) (an:Option Addr) (b8 ct:Value) (HR:Array (Option Value)),
  fd=PySem.W.fnOf x qual (fO st) (cj st) (ao st) dV kV doc pm an b8 ct/\K.lookup f=some ⟨oc,od,.func fd,HR⟩/\PySem.W.codeIn K b8 qual=true
 kp:PySem.W.keepIn K (.ref f)=true
section
def Te.okN(F:Te K x qual st dV f fd)(S:aC N ps (ao st))(len:∀vs H Q E,sp vs H Q E->vs.length=ps.length)(gq:∀b8 A outer s H vs Q E,sp vs H Q E->
   ∃t,vM (cxN eJ P w K mg base N qual (ao st) f b8 A outer s H E).NR (cj st) t/\t {nx:=λ_ H'=>Q .cT H',rt:=Q} (start N vs) H):BO P w K mg base eJ (k+1) f fd ps sp:=by
 obtain⟨oc,od,kV,doc,pm,an,b8,ct,HR,rfl,lk,Bh⟩:=F.ex;refine Xk lk Bh S len λA outer s H vs Q E hr Au=>?_;obtain⟨t,h,q⟩:=gq b8 A outer s H vs Q E Au;exact⟨t,h.NR,q⟩
structure CLD(P:Program)(w:World)(K:PySem.W.Frag)(mg:Str->Option Value)(base:Heap)(x:Str)(C:Addr)(ps:List Str)(sp:Sp)(fs:List Str)(dss:List (List V)):Prop where
 ex:∃f fd,Mk K C f/\BO P w K mg base eJ 1 f fd ps sp/\∀sZ∈dss,∃ds,Binds K fd ps ds/\Vals sZ ds
 mg:mg x=some (.ref C)
 cl:Fh K C
 no:∀f∈fs,cD K C f
end
section
variable {p:Pos}
def yw{C:Addr}{fs:List Str}{dss:List (List V)}{sZ:List V}{es:List Expr}{t:TA}(G:CLD X.prog X.w X.K X.mg X.base x C ps sp fs dss)(hm:sZ∈dss)(hr:jI 2 X.A)(hg:Gl X x)(ha:PA X (e::es) t)(CZ:(x==("__debug__":Str))=false:=by decide)(he:starEach (e::es) X.env=(false,eval e X.env)::starEach es X.env:=by rfl)(iz:(backTo pos (starEach es X.env)).any (·.1)=false:=by rfl):
  PE X (.Call (.Name x p) (e::es) [] pos) (Bq C sp sZ E0 t):=by
 obtain⟨f,fd,M,F,B⟩:=G.ex;obtain⟨ds,hb,hv⟩:=B sZ hm;exact O4 M F hr hg G.mg hb hv cp ha CZ he iz
end
end L2
end
section
namespace Pd
open Tote
noncomputable def isLet(c:Nat):Bool:=decide (97<=c)&&decide (c<=122)
noncomputable def cf(c:Nat):Bool:=decide (48<=c)&&decide (c<=57)
noncomputable def sg(n:Nat):Nat:=if 97<=n/\n<=122 then n else if 48<=n/\n<=57 then n else if n=32 then 32 else if n=10 then 10 else if n=44 then 44 else if n=47 then 47 else 63
noncomputable def cut(c:Nat):List Nat->List Nat->List (List Nat)
 |acc,[]=>[acc]|acc,x::r=>if x=c then acc::cut c [] r else cut c (acc++ [x]) r
noncomputable def jb(w:List Nat):Bool:=!w.isEmpty&&(decide (w.length<=12)&&((w.head?.map isLet).getD false&&w.all λc=>isLet c||cf c))
noncomputable def Dl(w:List Nat):Nat:=w.foldl (λn c=>10*n+(c-48)) 0
noncomputable def dv(w:List Nat):Int:=if 7<w.length then-1 else if(!w.isEmpty&&w.all cf)=false then-1 else if w.head?=some 48/\w≠ [48]then-1 else(Dl w:Int)
noncomputable def within(w:List Nat)(lo hi:Int):Option Int:=if lo<=dv w/\dv w<=hi then some (dv w)else none
noncomputable def Xl:List Nat:=[100,97,121]
noncomputable def Ks:List Nat:=[114,97,99,101]
noncomputable def xf:List Nat:=[99,111,117,112,108,101]
noncomputable def yx:List Nat:=[112,111,111,108]
noncomputable def yy:List Nat:=[102,114,111,109]
noncomputable def yz:List Nat:=[116,97,107,101]
noncomputable def rp:List Nat:=[98,114,101,97,107]
noncomputable def rq:List Nat:=[108,101,97,115,116]
noncomputable def yA:List Nat:=[117,110,105,116]
noncomputable def yB:List Nat:=[110,111,110,101]
noncomputable def dy:List Nat:=[112,108,97,99,101]
noncomputable def dz:List Nat:=[111,114,100,101,114]
noncomputable def ji:List Nat:=[97,110,121]
noncomputable def cg:List Nat:=[108,101,103,115]
noncomputable def jj:List Nat:=[114,101,102,117,110,100]
noncomputable def mV:List Nat:=[99,97,114,114,121]
noncomputable def gv:List Nat:=[102,101,119,101,114]
noncomputable def cA(runners:Int):List Int->List Int->List (List Nat)->Option (List Int)
 |_,fs,[]=>some fs
 |hs,fs,c::a::b::r=>if c=xf then
   match within a 1 runners with
   |none=>none
   |some h=>match within b (h+1) runners with
    |none=>none|some f=>if h∈fs then none else if f∈hs\/f∈fs then none else cA runners (hs++ [h]) (fs++ [f]) r
  else none
 |_,_,_=>none
noncomputable def fV(n:Nat)(fs:List Int):List Int:=((List.range n).map λ(i:Nat)=>(1:Int)+(i:Int)).filter λx=>!decide (x∈fs)
noncomputable def gw(ws:List (List Nat)):Option (List Int):=
 if ws.length%3≠2\/26<ws.length then none else
  match within (ws.getD 1 []) 2 24 with
  |none=>none
  |some n=>match cA n [] [] (ws.drop 2)with
   |none=>none|some fs=>some (fV n.toNat fs)
structure MP where
 name:List Nat
 kind:List Nat
 k:Int
 race:Int
 u:Int
 deriving DecidableEq
variable {q:Pd.MP}
noncomputable def kindB(w:List Nat):Option (Int×Int):=if w=dy then some (1,4)else if w=dz then some (2,4)else if w=ji then some (2,3)else if w=cg then some (2,6)else none
noncomputable def fw(w kind:List Nat)(k:Int)(races:List (List Int)):Option Int:=
 match within w 1 (races.length:Int)with
 |none=>none
 |some r=>if kind=cg then(if r+k-1<=(races.length:Int)then some r else none)
  else(if k<=((races.getD (r-1).toNat []).length:Int)then some r else none)
noncomputable def yC(ws:List (List Nat)):Bool:=decide (ws.getD 0 []=yx)&&(decide (ws.getD 4 []=yy)&&(decide (ws.getD 6 []=yz)&&(decide (ws.getD 8 []=rp)&&(decide (ws.getD 10 []=rq)&&(decide (ws.getD 12 []=yA)&&decide (ws.getD 14 []=yB))))))
noncomputable def eC(ws:List (List Nat))(races:List (List Int)):Option MP:=
 if ws.length≠16 then none else if yC ws=false then none else if jb (ws.getD 1 [])=false then none else
 match kindB (ws.getD 2 [])with
 |none=>none
 |some lh=>match within (ws.getD 3 []) lh.1 lh.2 with
  |none=>none
  |some k=>match fw (ws.getD 5 []) (ws.getD 2 []) k races with
   |none=>none
   |some race=>match within (ws.getD 7 []) 0 400 with
    |none=>none
    |some _=>match within (ws.getD 9 []) 1 1000 with
     |none=>none
     |some _=>match within (ws.getD 13 []) 1 10000 with
      |none=>none
      |some u=>match within (ws.getD 11 []) 0 (2*u)with
       |none=>none
       |some l=>if¬(l=0\/l≥u)then none else if¬(ws.getD 15 []=jj\/ws.getD 15 []=mV\/ws.getD 15 []=gv)then none else
        if¬(ws.getD 15 []≠gv\/ws.getD 2 []≠dy)then none else some ⟨ws.getD 1 [],ws.getD 2 [],k,race,u⟩
noncomputable def cG{α β:Type}(f:α->Option β):List α->Option (List β)
 |[]=>some []
 |x::r=>match f x with
  |none=>none
  |some y=>match cG f r with
   |none=>none|some ys=>some (y::ys)
noncomputable def iX(codes:List Nat):Option (List (List (List Nat))):=if(cut 10 [] codes).getLast?.getD []=[]then some ((cut 10 [] codes).dropLast.map (cut 32 []))else none
noncomputable def cY(ws:List (List Nat)):Bool:=decide (ws.head?=some Ks)
noncomputable def vQ(ws:List (List Nat)):Bool:=decide (ws.length=2)&&(decide (ws.getD 0 []=Xl)&&jb (ws.getD 1 []))
noncomputable def d6(codes:List Nat):Option (List (List Int)×List MP):=
 match iX codes with
 |none=>none|some []=>none
 |some (d::ls)=>if vQ d=false then none else
  if¬(1<=(ls.takeWhile cY).length/\(ls.takeWhile cY).length<=16)then none else
  match cG gw (ls.takeWhile cY)with
  |none=>none
  |some races=>if 64<(ls.dropWhile cY).length then none else
   match cG (λws=>eC ws races) (ls.dropWhile cY)with
   |none=>none|some pools=>if(pools.map (·.name)).Nodup then some (races,pools)else none
noncomputable def cw(w:Bytes):List Nat:=w.map λc=>sg c.toNat
noncomputable def bU(c:UInt8):Bytes->Bytes->List Bytes
 |acc,[]=>[acc]|acc,x::r=>if x=c then acc::bU c [] r else bU c (acc++ [x]) r
def aai(c:UInt8):sg c.toNat=10↔c=10:=by
 unfold sg;constructor
 .intro h
  repeat' split at h
  all_goals first|omega|(apply UInt8.toNat_inj.mp;simpa using by assumption)
 .rintro rfl;decide
def aaj(c:UInt8):sg c.toNat=32↔c=32:=by
 unfold sg;constructor
 .intro h
  repeat' split at h
  all_goals first|omega|(apply UInt8.toNat_inj.mp;simpa using by assumption)
 .rintro rfl;decide
theorem yD{c:UInt8}(h:∀x:UInt8,sg x.toNat=c.toNat↔x=c):∀l acc,cut c.toNat (cw acc) (cw l)=(bU c acc l).map cw
 |[],acc=>rfl
 |x::r,acc=>by
  show(if sg x.toNat=c.toNat then cw acc::cut c.toNat [] (cw r)else cut c.toNat (cw acc++ [sg x.toNat]) (cw r))=(if x=c then acc::bU c [] r else bU c (acc++ [x]) r).map cw;by_cases e:x=c
  .rw[ah e,ah ((h x).mpr e),aP,<-yD h r []];rfl
  .rw[af e,af (λq=>e ((h x).mp q)),<-yD h r (acc++ [x])];simp[cw]
def aak l acc:cut 10 (cw acc) (cw l)=(bU 10 acc l).map cw:=yD (c:=10) aai l acc
def aal l acc:cut 32 (cw acc) (cw l)=(bU 32 acc l).map cw:=yD (c:=32) aaj l acc
def tI(h:(isLet n||cf n)=true):sg n=n:=by
 unfold isLet cf at h;simp only[Bool.or_eq_true,Bool.and_eq_true,decide_eq_true_eq]at h;unfold sg;obtain h|h:=h
 .rw[ah h]
 .rw[af (),ah h]
def Io:∀n,n<256->(isLet (sg n)=isLet n/\cf (sg n)=cf n/\((isLet (sg n)||cf (sg n))=true->sg n=n)):=by decide+kernel
def O5{c:UInt8}(h:(isLet (sg c.toNat)||cf (sg c.toNat))=true):sg c.toNat=c.toNat:=(Io _ c.toNat_lt).2.2 h
def FN(c:UInt8):isLet (sg c.toNat)=isLet c.toNat:=(Io _ c.toNat_lt).1
def tJ(c:UInt8):cf (sg c.toNat)=cf c.toNat:=(Io _ c.toNat_lt).2.1
def rA c:isSmall c=isLet c.toNat:=by
 unfold isSmall isLet;simp only[UInt8.le_iff_toNat_le];rfl
def eU c:isDigit c=cf c.toNat:=by
 unfold isDigit cf;rfl
def Dm p q (h:∀c:UInt8,p (sg c.toNat)=q c) w:(cw w).all p=w.all q:=by
 unfold cw;rw[List.all_map];congr 1;funext c;exact h c
theorem tK w:jb (cw w)=isName w:=by
 unfold jb isName NAME;have e1:(cw w).all (λc=>isLet c||cf c)=w.all (λc=>isSmall c||isDigit c):=Dm _ _ (λc=>by rw[FN,tJ,rA,eU]) w;rw[e1];cases w with
 |nil=>rfl
 |cons c r=>
  have e2:((cw (c::r)).head?.map isLet).getD false=((c::r).head?.map isSmall).getD false:=by
   show isLet (sg c.toNat)=isSmall c;rw[FN,rA]
  have e3:(cw (c::r)).length=(c::r).length:=by unfold cw;rw[az]
  have e4:(cw (c::r)).isEmpty=false:=rfl;rw[e2,e3,e4];have e5:decide (1<=(c::r).length)=true:=by simp
  rw[e5];simp only[Bool.not_false,Bool.true_and];rw[Bool.and_comm (x:=((c::r).head?.map isSmall).getD false)]
noncomputable def toN(w:Bytes):List Nat:=w.map (·.toNat)
def cw_eq{w:Bytes}{t:List Nat}(ht:t.all (λc=>isLet c||cf c)=true):cw w=t↔toN w=t:=by
 induction w generalizing t with
 |nil=>exact Iff.rfl
 |cons c r ih=>
  cases t with
  |nil=>constructor<;>(intro h;cases h)
  |cons d t=>
   rw[c9,bC]at ht;have i:=ih ht.2;constructor
   .intro h;have h1:sg c.toNat=d:=(List.cons.inj h).1;have h2:=(List.cons.inj h).2;have e:=O5 (by rw[h1];exact ht.1);show c.toNat::toN r=d::t;rw[<-e,h1,i.mp h2]
   .intro h;have h1:c.toNat=d:=(List.cons.inj h).1;have h2:=(List.cons.inj h).2;show sg c.toNat::cw r=d::t;rw[tI (by rw[h1];exact ht.1),h1,i.mpr h2]
def Kt{v w:Bytes}(h:toN v=toN w):v=w:=by
 exact(List.map_inj_right (λ_ _=>UInt8.toNat_inj.mp)).mp h
def cw_word{w v:Bytes}{t:List Nat}(e:toN v=t)(ht:t.all (λc=>isLet c||cf c)=true):cw w=t↔w=v:=by
 rw[cw_eq ht];exact⟨λh=>Kt (h.trans e.symm),λh=>by rw[h];exact e⟩
def cw_day w:cw w=Xl↔w=ascii "day":=cw_word ⋯ ⋯
theorem cw_race w:cw w=Ks↔w=ascii "race":=cw_word ⋯ ⋯
def cw_couple w:cw w=xf↔w=ascii "couple":=cw_word ⋯ ⋯
theorem cw_pool w:cw w=yx↔w=ascii "pool":=cw_word ⋯ ⋯
theorem cw_from w:cw w=yy↔w=ascii "from":=cw_word ⋯ ⋯
theorem cw_take w:cw w=yz↔w=ascii "take":=cw_word ⋯ ⋯
theorem cw_break w:cw w=rp↔w=ascii "break":=cw_word ⋯ ⋯
theorem cw_least w:cw w=rq↔w=ascii "least":=cw_word ⋯ ⋯
theorem cw_unit w:cw w=yA↔w=ascii "unit":=cw_word ⋯ ⋯
theorem cw_none w:cw w=yB↔w=ascii "none":=cw_word ⋯ ⋯
theorem cw_place w:cw w=dy↔w=ascii "place":=cw_word ⋯ ⋯
theorem cw_order w:cw w=dz↔w=ascii "order":=cw_word ⋯ ⋯
theorem cw_any w:cw w=ji↔w=ascii "any":=cw_word ⋯ ⋯
theorem cw_legs w:cw w=cg↔w=ascii "legs":=cw_word ⋯ ⋯
def cw_refund w:cw w=jj↔w=ascii "refund":=cw_word ⋯ ⋯
def cw_carry w:cw w=mV↔w=ascii "carry":=cw_word ⋯ ⋯
def cw_fewer w:cw w=gv↔w=ascii "fewer":=cw_word ⋯ ⋯
def FO w (h:w.all isDigit=true):∀n:Nat,(cw w).foldl (λn c=>10*n+(c-48)) n=w.foldl (λ(n:Nat)(c:UInt8)=>10*n+(c.toNat-48)) n:=by
 induction w with
 |nil=>intro n;rfl
 |cons c r ih=>
  intro n;rw[c9,bC]at h;show(cw r).foldl _ (10*n+(sg c.toNat-48))=r.foldl _ (10*n+(c.toNat-48));rw[tI (by rw[CD];exact .inr (by rw[<-eU];exact h.1))];exact ih h.2 _
def Tf(w:Bytes)(h:w.all isDigit=true):∀n:Nat,n*10^w.length<=w.foldl (λ(n:Nat)(c:UInt8)=>10*n+(c.toNat-48)) n:=by
 induction w with
 |nil=>intro n;simp
 |cons c r ih=>
  intro n;rw[c9,bC]at h;have:=ih h.2 (10*n+(c.toNat-48));refine aW ?_ this;rw[aY,j8];have e:n*(10^r.length*10)=(10*n)*10^r.length:=by
   rw[mI (10^r.length) 10,<-sJ,mI n 10]
  rw[e];exact sr _ (kD _ _)
def kP{w:Bytes}:numberOf w=some n↔(w.isEmpty=false/\w.all isDigit=true/\¬(w.head?=some 48/\w≠ [48]))/\n=w.foldl (λ(n:Nat)(c:UInt8)=>10*n+(c.toNat-48)) 0:=by
 unfold numberOf;constructor
 .intro h;split at h
  .cases h
  .rename_i hc;have e:=Option.some.inj h;refine⟨⟨?_,?_,?_⟩,e.symm⟩
   .cases q:w.isEmpty with
    |false=>rfl|true=>exact absurd (.inl q) hc
   .cases q:w.all isDigit with
    |true=>rfl|false=>exact absurd (.inr (.inl q)) hc
   .exact λq=>hc (.inr (.inr q))
 .rintro⟨⟨h1,h2,h3⟩,rfl⟩;rw[af];rintro(q|q|q)
  .rw[h1]at q;cases q
  .rw[h2]at q;cases q
  .exact h3 q
def rB{w:Bytes}(h:numberOf w=some n)(hn:n<10000000):dv (cw w)=(n:Int):=by
 obtain⟨⟨h1,h2,h3⟩,e⟩:=kP.mp h;have hl:(cw w).length=w.length:=by unfold cw;rw[az]
 have len:w.length<=7:=by
  obtain q|q:=Nat.lt_or_ge 7 w.length
  .cases w with
   |nil=>simp at q
   |cons c r=>
    rw[c9,bC]at h2;have hc:c≠48:=λz=>h3 ⟨by rw[z];rfl,by
     intro y;have:=(List.cons.inj y).2;rw[this]at q;simp at q⟩
    have h48:48<=c.toNat:=by
     have:=h2.1;rw[eU]at this;unfold cf at this;simp only[Bool.and_eq_true,decide_eq_true_eq]at this;exact this.1
    have U4:c.toNat≠48:=λz=>hc (UInt8.toNat_inj.mp (by rw[z];rfl));have g:=Tf r h2.2 (10*0+(c.toNat-48));rw[dW]at e;have p1:1<=10*0+(c.toNat-48):=by omega
    have p2:(10:Nat)^7<=10^r.length:=su ⋯ (by rw[aY]at q;omega);have p3:1*10^r.length<=(10*0+(c.toNat-48))*10^r.length:=sr _ p1;omega
  .exact q
 unfold dv;rw[af (by rw[hl];omega)];have e1:(!(cw w).isEmpty&&(cw w).all cf)=true:=by
  rw[Dm cf isDigit (λc=>by rw[tJ,eU]) w,h2];cases w with
  |nil=>cases h1
  |cons c r=>rfl
 rw[af (by rw[e1];intro q;cases q),af]
 .unfold Dl;rw[FO w h2 0,<-e]
 .rintro⟨q1,q2⟩;cases w with
  |nil=>cases h1
  |cons c r=>
   rw[c9,bC]at h2;have p:=tI (by rw[CD];exact .inr (by rw[<-eU];exact h2.1));have hc:c=48:=by
    have z:sg c.toNat=48:=Option.some.inj q1;rw[p]at z;exact UInt8.toNat_inj.mp (by rw[z];rfl)
   refine h3 ⟨by rw[hc];rfl,λy=>q2 ?_⟩;rw[y];rfl
def rC{w:Bytes}(h:0<=dv (cw w)):numberOf w=some (dv (cw w)).toNat/\(dv (cw w)).toNat<10000000:=by
 unfold dv at h;split at h
 .omega
 .rename_i g1;split at h
  .omega
  .rename_i g2;split at h
   .omega
   .rename_i g3;have e1:(!(cw w).isEmpty&&(cw w).all cf)=true:=by
     cases q:(!(cw w).isEmpty&&(cw w).all cf)with
     |true=>rfl|false=>exact absurd q g2
    rw[Dm cf isDigit (λc=>by rw[tJ,eU]) w,bC]at e1;have h2:=e1.2;have nm:numberOf w=some (Dl (cw w)):=by
     refine kP.mpr ⟨⟨?_,h2,?_⟩,?_⟩
     .cases w with
      |nil=>cases e1.1
      |cons c r=>rfl
     .rintro⟨q1,q2⟩;refine g3 ⟨?_,λy=>q2 ?_⟩
      .cases w with
       |nil=>cases q1
       |cons c r=>
        have z:=Option.some.inj q1;rw[z];rfl
      .exact(cw_word ⋯ ⋯).mp y
     .unfold Dl;rw[FO w h2 0]
    have val:dv (cw w)=(Dl (cw w):Int):=by
     unfold dv;rw[af g1,af g2,af g3]
    rw[val];refine⟨by rw[nm];rfl,?_⟩;have up:∀(l:List Nat),l.all cf=true->∀n:Nat,l.foldl (λn c=>10*n+(c-48)) n<(n+1)*10^l.length:=by
     intro l
     induction l with
     |nil=>intro _ n;simp
     |cons c r ih=>
      intro hd n;rw[c9,bC]at hd;have hc:=hd.1;unfold cf at hc;simp only[Bool.and_eq_true,decide_eq_true_eq]at hc;have:=ih hd.2 (10*n+(c-48));refine dR this ?_;rw[aY,j8];have e:(n+1)*(10^r.length*10)=(10*(n+1))*10^r.length:=by
       rw[mI (10^r.length) 10,<-sJ,mI (n+1) 10]
      rw[e];exact sr _ ()
    have u:=up (cw w) (by rw[Dm cf isDigit (λc=>by rw[tJ,eU]) w];exact h2) 0;have p:(10:Nat)^(cw w).length<=10^7:=su ⋯ ();unfold Dl;omega
def bX{w:Bytes}{lo hi:Nat}(hhi:hi<10000000):within (cw w) (lo:Int) (hi:Int)=some n↔∃k:Nat,n=(k:Int)/\numberOf w=some k/\lo<=k/\k<=hi:=by
 unfold within;constructor
 .intro h;split at h
  .have e:=Option.some.inj h;have z:=rC (w:=w) ();refine⟨(dv (cw w)).toNat,by omega,z.1,by omega,by omega⟩
  .cases h
 .rintro⟨k,rfl,hk,h1,h2⟩;have e:=rB hk ();rw[e,ah ()]
theorem aE{ε:Type}{x:Except ε α}{f:α->Except ε β}{b:β}:(x>>=f)=.ok b↔∃a,x=.ok a/\f a=.ok b:=by
 cases x with
 |error e=>exact⟨λh=>(by cases h),λ⟨a,h,_⟩=>(by cases h)⟩
 |ok a=>exact⟨λh=>⟨a,rfl,h⟩,λ⟨a',h,h2⟩=>(by cases h;exact h2)⟩
def jJ{ε:Type}{x:Except ε α}{f:α->β}{b:β}:x.map f=.ok b↔∃a,x=.ok a/\f a=b:=by
 cases x with
 |error e=>exact⟨λh=>(by cases h),λ⟨a,h,_⟩=>(by cases h)⟩
 |ok a=>exact⟨λh=>⟨a,rfl,(by cases h;rfl)⟩,λ⟨a',h,h2⟩=>(by cases h;rw[<-h2];rfl)⟩
theorem jk{e:Nat}{l:List Word}{x:Word×List Word}:next e l=.ok x↔l=x.1::x.2:=by
 cases l with
 |nil=>exact⟨λh=>(by cases h),λh=>(by cases h)⟩
 |cons w r=>exact⟨λh=>(by cases h;rfl),λh=>(by cases h;rfl)⟩
theorem iC{e:Nat}{s:String}{l m:List Word}:must e s l=.ok m↔∃w,l=w::m/\w.w=ascii s:=by
 unfold must;rw[aE];constructor
 .rintro⟨x,h1,h2⟩;split at h2
  .rename_i q;cases h2;exact⟨x.1,jk.mp h1,q⟩
  .cases h2
 .rintro⟨w,rfl,q⟩;exact⟨(w,m),rfl,by rw[ah q];rfl⟩
theorem hU{l:List Word}{u:Unit}:closed l=.ok u↔l=[]:=by
 cases l with
 |nil=>exact⟨λ_=>rfl,λ_=>rfl⟩|cons w r=>exact⟨λh=>(by cases h),λh=>(by cases h)⟩
theorem rD{e:Nat}{l:List Word}{x:Bytes×List Word}:newName e had l=.ok x↔∃w,l=w::x.2/\x.1=w.w/\isName w.w=true/\w.w∉had:=by
 unfold newName;rw[aE];constructor
 .rintro⟨y,h1,h2⟩;split at h2
  .cases h2
  .rename_i q;split at h2
   .cases h2
   .rename_i q2;cases h2;exact⟨y.1,jk.mp h1,rfl,‹q›,‹q2›⟩
 .rintro⟨w,rfl,q0,q1,q2⟩;obtain⟨a,b⟩:=x;subst q0;refine⟨(w,b),rfl,?_⟩;rw[af (by rw[q1];intro z;cases z),af ‹q2›];rfl
theorem lQ{e lo hi:Nat}{l:List Word}{x:(Nat×Nat)×List Word}:number e lo hi l=.ok x↔∃w,l=w::x.2/\numberOf w.w=some x.1.1/\lo<=x.1.1/\x.1.1<=hi/\x.1.2=w.at_:=by
 unfold number;rw[aE];constructor
 .rintro⟨y,h1,h2⟩;split at h2
  .cases h2
  .rename_i n q;split at h2
   .cases h2
   .rename_i q2;cases h2;exact⟨y.1,jk.mp h1,q,(show lo<=n by omega),(show n<=hi by omega),rfl⟩
 .rintro⟨w,rfl,q0,q1,q2,q3⟩;obtain⟨⟨a,b⟩,c⟩:=x;have q3:=q3;have q1:lo<=a:=q1;have q2:a<=hi:=q2;subst q3;refine⟨(w,c),rfl,?_⟩;simp only[q0];rw[af (by show¬(a<lo\/hi<a);omega)];rfl
theorem de{b:Bool}{u:Unit}:holds b k p=.ok u↔b=true:=by
 cases b
 .exact⟨λh=>(by cases h),λh=>(by cases h)⟩
 .exact⟨λ_=>rfl,λ_=>rfl⟩
theorem O6{e:Nat}{t:List (α×String)}{l:List Word}{x:(α×Nat)×List Word}:oneOf e t l=.ok x↔∃w y,l=w::x.2/\t.find? (λ(y:α×String)=>ascii y.2==w.w)=some y/\x.1.1=y.1/\x.1.2=w.at_:=by
 unfold oneOf;rw[aE];constructor
 .rintro⟨z,h1,h2⟩;split at h2
  .cases h2
  .rename_i y q;cases h2;exact⟨z.1,y,jk.mp h1,q,rfl,rfl⟩
 .rintro⟨w,y,rfl,q1,q2,q3⟩;obtain⟨⟨a,b⟩,c⟩:=x;subst q2 q3;refine⟨(w,c),rfl,?_⟩;simp only[q1];rfl
noncomputable def nU(runners:Nat):Nat->List (Nat×Nat)->List Bytes->Option (List (Nat×Nat))
 |0,had,[]=>some had|0,_,_::_=>none
 |_+1,had,[]=>some had
 |k+1,had,c::a::b::r=>if c=ascii "couple"then
   match numberOf a with
   |none=>none
   |some x=>match numberOf b with
    |none=>none|some y=>if 1<=x/\x<=runners/\(had.any λ(z:Nat×Nat)=>z.2==x)=false/\1<=y/\y<=runners/\x<y/\(had.any λ(z:Nat×Nat)=>z.1==y||z.2==y)=false then nU runners k (putB (x,y) had) r else none
  else none
 |_+1,_,_=>none
theorem jm{e runners:Nat}:∀k had l z,couplesIn e runners k had l=.ok z↔nU runners k had (l.map (·.w))=some z
 |0,had,[],z=>by
  exact⟨λh=>(by cases h;rfl),λh=>(by cases h;rfl)⟩
 |0,had,w::r,z=>by
  show(if w.w=ascii "couple"then Except.error _ else Except.error _)=.ok z↔none=some z;constructor
  .intro h;split at h<;>cases h
  .intro h;cases h
 |k+1,had,[],z=>by
  exact⟨λh=>(by cases h;rfl),λh=>(by cases h;rfl)⟩
 |k+1,had,w::l,z=>by
  unfold couplesIn;rw[af ∅];simp only[aE,iC,lQ,de];constructor
  .rintro⟨m,⟨c,h1,h2⟩,⟨⟨x,px⟩,m2⟩,⟨wa,h3,h4,h5,h6,h7⟩,_,h8,⟨⟨y,py⟩,m3⟩,⟨wb,h9,Xm,O7,Hz,Xn⟩,_,O8,h15⟩;cases h1;subst h3 h9;rw[jm k]at h15;simp only[Bool.and_eq_true,decide_eq_true_eq,Bool.not_eq_true']at h8 O8;show(if w.w=ascii "couple"then _ else none)=some z;rw[ah h2];simp only[h4,Xm];rw[ah ⟨h5,h6,h8,O7,Hz,O8.1,O8.2⟩];exact h15
  .intro h;cases l with
   |nil=>cases h
   |cons wa l=>
    cases l with
    |nil=>cases h
    |cons wb r=>
     have h:(if w.w=ascii "couple"then
      match numberOf wa.w with
      |none=>none
      |some x=>match numberOf wb.w with
       |none=>none|some y=>if 1<=x/\x<=runners/\(had.any λ(z:Nat×Nat)=>z.2==x)=false/\1<=y/\y<=runners/\x<y/\(had.any λ(z:Nat×Nat)=>z.1==y||z.2==y)=false then nU runners k (putB (x,y) had) (r.map (·.w))else none
      else none)=some z:=h
     split at h
     .rename_i hc;split at h
      .cases h
      .rename_i x hx;split at h
       .cases h
       .rename_i y hy;split at h
        .rename_i q;obtain⟨q1,q2,q3,q4,q5,q6,q7⟩:=q;refine⟨_,⟨w,rfl,hc⟩,((x,wa.at_),wb::r),⟨wa,rfl,hx,q1,q2,rfl⟩,Unit.unit,?_,((y,wb.at_),r),⟨wb,rfl,hy,q4,q5,rfl⟩,Unit.unit,?_,?_⟩
         .simp only[q3,Bool.not_false]
         .simp only[q6,q7,decide_true,Bool.not_false,Bool.and_self]
         .exact(jm k _ r z).mpr h
        .cases h
     .cases h
def rE(ws:List Bytes)(r:Race):Prop:=∃w cs,ws=w::cs/\numberOf w=some r.runners/\2<=r.runners/\r.runners<=24/\nU r.runners 8 [] cs=some r.couples
def BP{e:Nat}{l:List Word}{r:Race}:raceIn e l=.ok r↔rE (l.map (·.w)) r:=by
 unfold raceIn;simp only[aE,lQ];constructor
 .rintro⟨⟨⟨n,p⟩,m⟩,⟨w,h1,h2,h3,h4,h5⟩,c,h6,h7⟩;subst h1;cases h7;exact⟨w.w,m.map (·.w),rfl,h2,h3,h4,(jm 8 [] m c).mp h6⟩
 .rintro⟨w,cs,h1,h2,h3,h4,h5⟩;cases l with
  |nil=>cases h1
  |cons x m=>
   obtain⟨e1,e2⟩:=List.cons.inj h1;obtain⟨rn,co⟩:=r;refine⟨((rn,x.at_),m),⟨x,rfl,?_,h3,h4,rfl⟩,co,?_,rfl⟩
   .have e1:x.w=w:=e1;rw[e1];exact h2
   .refine(jm 8 [] m co).mpr ?_;rw[e2];exact h5
noncomputable def gY:Kind->Bytes
 |.place=>ascii "place"|.order=>ascii "order"
 |.any=>ascii "any"|.legs=>ascii "legs"
noncomputable def yE:None_->Bytes
 |.refund=>ascii "refund"|.carry=>ascii "carry"
 |.fewer=>ascii "fewer"
def yF{w:Bytes}:(∃y,KINDS.find? (λ(y:Kind×String)=>ascii y.2==w)=some y/\k=y.1)↔w=gY k:=by
 constructor
 .rintro⟨y,h,rfl⟩;have h1:=find?_some h;have h2:=mem_of_find?_eq_some h;have h1:=eq_of_beq h1;rw[<-h1];simp only[KINDS,mem_cons,not_mem_nil,or_false]at h2;obtain rfl|rfl|rfl|rfl:=h2<;>rfl
 .rintro rfl;cases k
  .exact⟨(.place,"place"),by decide,rfl⟩
  .exact⟨(.order,"order"),by decide,rfl⟩
  .exact⟨(.any,"any"),by decide,rfl⟩
  .exact⟨(.legs,"legs"),by decide,rfl⟩
def yG{w:Bytes}{kd:Kind}:(∃y,(if kd=.place then NONES.take 2 else NONES).find? (λ(y:None_×String)=>ascii y.2==w)=some y/\k=y.1)↔w=yE k/\¬(kd=.place/\k=.fewer):=by
 constructor
 .rintro⟨y,h,rfl⟩;have h1:=find?_some h;have h2:=mem_of_find?_eq_some h;have h1:=h1;have h1:=eq_of_beq h1;rw[<-h1];split at h2
  .rename_i hk;simp only[NONES,List.take,mem_cons,not_mem_nil,or_false]at h2;obtain rfl|rfl:=h2
   .exact⟨rfl,λz=>by cases z.2⟩
   .exact⟨rfl,λz=>by cases z.2⟩
  .rename_i hk;simp only[NONES,mem_cons,not_mem_nil,or_false]at h2;refine⟨?_,λz=>hk z.1⟩;obtain rfl|rfl|rfl:=h2<;>rfl
 .rintro⟨rfl,hn⟩;by_cases hk:kd=.place
  .rw[ah hk];cases k
   .exact⟨(.refund,"refund"),by decide,rfl⟩
   .exact⟨(.carry,"carry"),by decide,rfl⟩
   .exact absurd ⟨hk,rfl⟩ hn
  .rw[af hk];cases k
   .exact⟨(.refund,"refund"),by decide,rfl⟩
   .exact⟨(.carry,"carry"),by decide,rfl⟩
   .exact⟨(.fewer,"fewer"),by decide,rfl⟩
structure FP where
 n:Bytes
 kd:Bytes
 k:Bytes
 r:Bytes
 t:Bytes
 b:Bytes
 m:Bytes
 u:Bytes
 z:Bytes
noncomputable def FP.ws(x:FP):List Bytes:=[x.n,x.kd,x.k,ascii "from",x.r,ascii "take",x.t,ascii "break",x.b,ascii "least",x.m,ascii "unit",x.u,ascii "none",x.z]
structure Ip(races:List Race)(ws:List Bytes)(x:FP)(p:Pool):Prop where
 ws:ws=x.ws
 name:x.n=p.name
 YS:isName p.name=true
 kd:x.kd=gY p.kind
 k:numberOf x.k=some p.k
 k1:leastK p.kind<=p.k
 k2:p.k<=mostK p.kind
 r:numberOf x.r=some p.race
 r1:1<=p.race
 r2:p.race<=races.length
 legs:p.kind=.legs->p.race+p.k<=races.length+1
 heads:p.kind≠ .legs->((races[p.race-1]?).map λ(x:Race)=>decide (p.k<=x.heads.length)).getD false=true
 t:numberOf x.t=some p.take
 t2:p.take<=400
 b:numberOf x.b=some p.brk
 b1:1<=p.brk
 b2:p.brk<=1000
 m:numberOf x.m=some p.least
 m2:p.least<=20000
 u:numberOf x.u=some p.unit
 u1:1<=p.unit
 u2:p.unit<=10000
 mu:p.least=0\/(p.unit<=p.least/\p.least<=2*p.unit)
 z:x.z=yE p.none_
 pf:¬(p.kind=.place/\p.none_=.fewer)
def FQ{l:List α}(h:l.length=2):∃a b,l=[a,b]:=match l,h with| [a,b],_=>⟨a,b,rfl⟩
def adp{us:List α}(h:us.length=0):us=[]:=length_eq_zero_iff.mp h
def Iq{us:List α}(h:us.length=n+1):∃a r,us=a::r/\r.length=n:=by
 cases us with
 |nil=>cases h
 |cons a r=>exact⟨a,r,rfl,Nat.succ.inj h⟩
def Xo{us:List α}(h:us.length=n+5):∃a b c d x r,us=a::b::c::d::x::r/\r.length=n:=by
 obtain⟨a,r1,e1,h⟩:=Iq h;obtain⟨b,r2,e2,h⟩:=Iq h;obtain⟨c,r3,e3,h⟩:=Iq h;obtain⟨d,r4,e4,h⟩:=Iq h;obtain⟨x,r5,e5,h⟩:=Iq h;exact⟨a,b,c,d,x,r5,by rw[e1,e2,e3,e4,e5],h⟩
def O9{l:List α}(h:l.length=15):∃a1 a2 a3 a4 a5 a6 a7 a8 a9 Mu Ir Mv Iu Mw FR,l=[a1,a2,a3,a4,a5,a6,a7,a8,a9,Mu,Ir,Mv,Iu,Mw,FR]:=by
 obtain⟨a1,a2,a3,a4,a5,r,e,h⟩:=Xo h;obtain⟨a6,a7,a8,a9,Mu,r',e',h⟩:=Xo h;obtain⟨Ir,Mv,Iu,Mw,FR,r'',e'',h⟩:=Xo h;exact⟨a1,a2,a3,a4,a5,a6,a7,a8,a9,Mu,Ir,Mv,Iu,Mw,FR,by rw[e,e',e'',adp h]⟩
def BQ{e:Nat}{l:List Word}:poolIn e C l=.ok p↔p.name∉C.pools.map (λ(p:Pool)=>p.name)/\∃x,Ip C.races (l.map (·.w)) x p:=by
 unfold poolIn;simp only[aE,rD,lQ,de,O6,iC,hU];constructor
 .rintro⟨⟨nm,l1⟩,⟨wn,h1,h2,h3,h4⟩,⟨⟨kd,pk⟩,l2⟩,⟨wk,y,h5,h6,h7,h8⟩,⟨⟨k,pk2⟩,l3⟩,⟨wk2,h9,Xm,O7,Hz,Xn⟩,l4,⟨wf,O8,h15⟩,⟨⟨r,pr⟩,l5⟩,⟨wr,h16,h17,h18,h19,h20⟩,_,h21,_,h22,l6,⟨wt,h23,YT⟩,
   ⟨⟨t,pt⟩,l7⟩,⟨wt2,h25,h26,h27,h28,h29⟩,l8,⟨wb,h30,h31⟩,⟨⟨b,pb⟩,l9⟩,⟨wb2,Mx,h33,h34,h35,h36⟩,l10,⟨wl,h37,h38⟩,⟨⟨m,pm⟩,l11⟩,⟨wm,h39,h40,h41,h42,h43⟩,l12,⟨wu,h44,h45⟩,⟨⟨u,pu⟩,l13⟩,⟨wu2,h46,h47,h48,h49,h50⟩,_,h51,
   l14,⟨wz,h52,h53⟩,⟨⟨z,pz⟩,l15⟩,⟨wz2,y2,h54,h55,h56,h57⟩,_,h58,h59⟩
  dsimp only at*;subst h1 h5 h9 O8 h16 h23 h25 h30 Mx h37 h39 h44 h46 h52 h54 h58;cases h59;subst h2;refine⟨h4,⟨wn.w,wk.w,wk2.w,wr.w,wt2.w,wb2.w,wm.w,wu2.w,wz2.w⟩,?_⟩;have hk:=yF.mp ⟨y,h6,h7⟩;have hz:=yG.mp ⟨y2,h55,h56⟩;refine⟨?_,rfl,h3,hk,Xm,O7,Hz,h17,h18,h19,?_,?_,h26,h28,h33,h34,h35,h40,h42,h47,h48,h49,?_,hz.1,hz.2⟩
  .simp only[map_cons,map_nil,h15,YT,h31,h38,h45,h53];rfl
  .intro q;have q:=q;subst q;simp only[bne_self_eq_false,Bool.false_or,decide_eq_true_eq]at h21;exact h21
  .intro q;have q:=q;have e:(kd==Kind.legs)=false:=by simpa using q
   rw[e,JZ]at h22;exact h22
  .simp only[inside,Bool.or_eq_true,beq_iff_eq,Bool.and_eq_true,decide_eq_true_eq]at h51;exact h51
 .rintro⟨hn,x,P⟩;have hw:=P.ws;unfold FP.ws at hw;have hlen:=bW List.length hw;rw[az]at hlen;obtain⟨a1,a2,a3,a4,a5,a6,a7,a8,a9,Mu,Ir,Mv,Iu,Mw,FR,rfl⟩:=O9 hlen
  .simp only[map_cons,map_nil,List.cons.injEq,and_true]at hw;obtain⟨e1,e2,e3,e4,e5,e6,e7,e8,e9,e10,e11,e12,e13,e14,e15⟩:=hw;obtain⟨y,hy1,hy2⟩:=yF.mpr P.kd;obtain⟨y2,hz1,hz2⟩:=yG.mpr ⟨P.z,P.pf⟩;obtain⟨nm,kd,k,r,z,t,b,m,u⟩:=p;refine⟨(nm,_),⟨a1,rfl,?_,?_,?_⟩,((kd,a2.at_),_),⟨a2,y,rfl,?_,hy2,rfl⟩,((k,a3.at_),_),⟨a3,rfl,?_,P.k1,P.k2,rfl⟩,_,⟨a4,rfl,e4⟩,((r,a5.at_),_),⟨a5,rfl,?_,P.r1,P.r2,rfl⟩,Unit.unit,?_,Unit.unit,?_,_,⟨a6,rfl,e6⟩,
    ((t,a7.at_),_),⟨a7,rfl,?_,cv _,P.t2,rfl⟩,_,⟨a8,rfl,e8⟩,((b,a9.at_),_),⟨a9,rfl,?_,P.b1,P.b2,rfl⟩,_,⟨Mu,rfl,e10⟩,((m,Ir.at_),_),⟨Ir,rfl,?_,cv _,P.m2,rfl⟩,_,⟨Mv,rfl,e12⟩,((u,Iu.at_),_),⟨Iu,rfl,?_,P.u1,P.u2,rfl⟩,Unit.unit,?_,
    _,⟨Mw,rfl,e14⟩,((z,FR.at_),_),⟨FR,y2,rfl,?_,hz2,rfl⟩,Unit.unit,rfl,rfl⟩
   .show nm=a1.w;rw[e1];exact P.name.symm
   .rw[e1,P.name];exact P.YS
   .rw[e1,P.name];exact hn
   .rw[e2];exact hy1
   .rw[e3];exact P.k
   .rw[e5];exact P.r
   .by_cases q:kd=.legs
    .subst q;simp only[bne_self_eq_false,Bool.false_or,decide_eq_true_eq];exact P.legs rfl
    .have e:(kd !=Kind.legs)=true:=by simpa using q
     simp only[e,Bool.true_or]
   .by_cases q:kd=.legs
    .subst q;simp only[BEq.rfl,Bool.true_or]
    .have e:(kd==Kind.legs)=false:=by simpa using q
     simp only[e,Bool.false_or];exact P.heads q
   .rw[e7];exact P.t
   .rw[e9];exact P.b
   .rw[e11];exact P.m
   .rw[e13];exact P.u
   .simp only[inside,Bool.or_eq_true,beq_iff_eq,Bool.and_eq_true,decide_eq_true_eq];exact P.mu
   .rw[e15];exact hz1
def rF:Option Card->List Bytes->Option Card->Prop
 |none,ws,t=>∃n,ws=[ascii "day",n]/\isName n=true/\t=some {noCard with name:=n}
 |some C,ws,t=>(∃r rest,ws=ascii "race"::rest/\C.pools=[]/\C.races.length<16/\rE rest r/\t=some {C with races:=C.races++ [r]})\/
  ∃p rest x,ws=ascii "pool"::rest/\C.races≠ []/\C.pools.length<64/\p.name∉C.pools.map (λ(p:Pool)=>p.name)/\Ip C.races rest x p/\t=some {C with pools:=C.pools++ [p]}
def My{h t:Option Card}{e:Nat}:lineIn h ⟨ws,e⟩=.ok t↔rF h (ws.map (·.w)) t:=by
 unfold lineIn;have hb:∀{α β:Type}(x:Except Fault α)(f:α->Except Fault β),x.bind f=(x>>=f):=λ_ _=>rfl;rw[hb,aE];simp only[jk];constructor
 .rintro⟨⟨w,r⟩,h1,h2⟩;subst h1;cases h with
  |none=>
   simp only at h2;split at h2
   .rename_i q;unfold dayIn at h2;simp only[aE,rD,hU]at h2;obtain⟨⟨n,m⟩,⟨wn,g1,g2,g3,g4⟩,_,g5,g6⟩:=h2;simp only at g1 g2 g5;subst g5 g1;cases g6;refine⟨n,?_,by rw[g2];exact g3,rfl⟩;simp only[map_cons,map_nil,q,g2]
   .cases h2
  |some C=>
   simp only at h2;split at h2
   .rename_i q;split at h2
    .cases h2
    .rename_i q2;unfold withRace at h2;rw[jJ]at h2;obtain⟨rc,g1,g2⟩:=h2;refine .inl ⟨rc,r.map (·.w),by simp only[map_cons,q.1],q.2,by unfold RACES at q2;omega,BP.mp g1,g2.symm⟩
   .split at h2
    .rename_i q1;split at h2
     .cases h2
     .rename_i q2;unfold withPool at h2;rw[jJ]at h2;obtain⟨pc,g1,g2⟩:=h2;obtain⟨g3,x,g4⟩:=BQ.mp g1;exact .inr ⟨pc,r.map (·.w),x,by simp only[map_cons,q1.1],q1.2,by unfold POOLS at q2;omega,g3,g4,g2.symm⟩
    .cases h2
 .intro hl;cases h with
  |none=>
   obtain⟨n,h1,h2,h3⟩:=hl;have hlen:=bW List.length h1;rw[az]at hlen;obtain⟨w1,w2,rfl⟩:=FQ hlen
   .simp only[map_cons,map_nil,List.cons.injEq,and_true]at h1;refine⟨(w1,[w2]),rfl,?_⟩;rw[ah h1.1];unfold dayIn;simp only[aE,rD,hU];refine⟨(n,[]),⟨w2,rfl,h1.2.symm,by rw[h1.2];exact h2,by simp⟩,Unit.unit,rfl,?_⟩;rw[h3];rfl
  |some C=>
   obtain⟨r,rest,h1,h2,h3,h4,h5⟩|⟨p,rest,x,h1,h2,h3,h4,h5,h6⟩:=hl
   .cases ws with
    |nil=>cases h1
    |cons w m=>
     obtain⟨e1,e2⟩:=List.cons.inj h1;refine⟨(w,m),rfl,?_⟩;simp only;rw[ah ⟨e1,h2⟩,af (by unfold RACES;omega)];unfold withRace;rw[jJ];exact⟨r,BP.mpr (by rw[e2];exact h4),h5.symm⟩
   .cases ws with
    |nil=>cases h1
    |cons w m=>
     obtain⟨e1,e2⟩:=List.cons.inj h1;refine⟨(w,m),rfl,?_⟩;simp only;have e1:w.w=ascii "pool":=e1;rw[af (by rw[e1];intro z;exact absurd z.1 ⋯),ah ⟨e1,h2⟩,af (by unfold POOLS;omega)];unfold withPool;rw[jJ];exact⟨p,BQ.mpr ⟨h4,x,by rw[e2];exact h5⟩,h6.symm⟩
theorem words_of{p q:Nat}:∀l acc,badByte acc.isEmpty q l=none->(wordsFrom p acc l).map (·.w)=bU 32 acc l
 |[],acc,h=>by
  unfold badByte at h;cases acc with
  |nil=>simp at h|cons c r=>rfl
 |c::r,acc,h=>by
  unfold badByte at h;split at h
  .cases h
  .unfold wordsFrom bU;split at h
   .rename_i hc;rw[ah hc,ah hc];split at h
    .cases h
    .split at h
     .cases h
     .rw[aP,words_of (q:=q+1) r [] h]
   .rename_i hc;rw[af hc,af hc];refine words_of (q:=q+1) r (acc++ [c]) ?_;have e:(acc++ [c]).isEmpty=false:=by simp
    rw[e];exact h
def Plain(w:Bytes):Prop:=w≠ []/\∀c∈w,33<=c.toNat/\c.toNat<=126
theorem hX c:∀l acc,∃w ws,bU c acc l=(acc++w)::ws/\∀x∈w,x≠c
 |[],acc=>⟨[],[],by simp[bU],by simp⟩
 |x::r,acc=>by
  unfold bU;by_cases h:x=c
  .rw[ah h];exact⟨[],_,by rw[jE],by simp⟩
  .rw[af h];obtain⟨w,ws,h1,h2⟩:=hX c r (acc++ [x]);refine⟨x::w,ws,?_,?_⟩
   .rw[h1];simp
   .intro y hy;obtain rfl|hy:=mem_cons.mp hy
    .exact h
    .exact h2 y hy
theorem jn{q:Nat}:∀l acc,(∀w∈bU 32 acc l,Plain w)->badByte acc.isEmpty q l=none
 |[],acc,h=>by
  have:=h acc (by simp[bU]);cases acc with
  |nil=>exact absurd rfl this.1|cons c r=>rfl
 |c::r,acc,h=>by
  unfold bU at h;unfold badByte;by_cases hc:c=32
  .subst hc;have h1:=h acc ∅;have h2:=λw hw=>h w (bE _ hw);have e:acc.isEmpty=false:=by
    cases acc with
    |nil=>exact absurd rfl h1.1|cons c r=>rfl
   rw[e];have e2:r.isEmpty=false:=by
    cases r with
    |nil=>exact absurd rfl (h2 [] (by simp[bU])).1|cons c r=>rfl
   rw[e2];exact jn r [] h2
  .rw[af hc]at h;obtain⟨w,ws,h1,h2⟩:=hX 32 r (acc++ [c]);have h3:=(h _ (by rw[h1];exact bZ)).2 c ∅;have h4:¬(c<32\/126<c):=by
    rw[UInt8.lt_iff_toNat_lt,UInt8.lt_iff_toNat_lt];have e1:(32:UInt8).toNat=32:=rfl;have e2:(126:UInt8).toNat=126:=rfl;omega
   rw[af h4,af hc];have:=jn (q:=q+1) r (acc++ [c]) h;have e:(acc++ [c]).isEmpty=false:=by simp
   rw[e]at this;exact this
def yH{w:Bytes}(h0:w≠ [])(h:w.all (λc=>isSmall c||isDigit c)=true):Plain w:=by
 refine⟨h0,λc hc=>?_⟩;have:=all_eq_true.mp h c hc;rw[rA,eU]at this;unfold isLet cf at this;simp only[Bool.or_eq_true,Bool.and_eq_true,decide_eq_true_eq]at this;omega
def dM{w:Bytes}(h:numberOf w=some n):Plain w:=by
 obtain⟨⟨h1,h2,_⟩,_⟩:=kP.mp h;refine yH (λz=>by rw[z]at h1;cases h1) ?_;rw[du]at h2⊢;intro c hc;rw[h2 c hc,Bool.or_true]
def rG{w:Bytes}(h:isName w=true):Plain w:=by
 unfold isName at h;simp only[Bool.and_eq_true,decide_eq_true_eq]at h;exact yH (λz=>by rw[z]at h;simp at h) h.2.2.1
def bR{w:Bytes}(h:(!w.isEmpty&&w.all (λc=>isSmall c||isDigit c))=true):Plain w:=by
 rw[bC]at h;exact yH (λz=>by rw[z]at h;simp at h) h.2
theorem yI:∀k had ws z,nU runners k had ws=some z->∀w∈ws,Plain w
 |0,_,[],_,_,w,hw=>by cases hw
 |0,_,_::_,_,h,_,_=>by cases h
 |k+1,_,[],_,_,w,hw=>by cases hw
 |k+1,had,[a],_,h,_,_=>by cases h
 |k+1,had,[a,b],_,h,_,_=>by cases h
 |k+1,had,c::a::b::r,z,h,w,hw=>by
  unfold nU at h;split at h
  .rename_i hc;split at h
   .cases h
   .rename_i x hx;split at h
    .cases h
    .rename_i y hy;split at h
     .have ih:=yI k _ r z h;obtain rfl|hw:=mem_cons.mp hw
      .rw[hc];exact bR ⋯
      obtain rfl|hw:=mem_cons.mp hw
      .exact dM hx
      obtain rfl|hw:=mem_cons.mp hw
      .exact dM hy
      .exact ih w hw
     .cases h
  .cases h
def rF.plain{s t:Option Card}(h:rF s ws t):∀w∈ws,Plain w:=by
 cases s with
 |none=>
  obtain⟨n,rfl,h2,_⟩:=h;intro w hw;obtain rfl|hw:=mem_cons.mp hw
  .exact bR ⋯
  obtain rfl|hw:=mem_cons.mp hw
  .exact rG h2
  .cases hw
 |some C=>
  obtain⟨r,rest,rfl,_,_,⟨w0,cs,rfl,h1,_,_,h2⟩,_⟩|⟨p,rest,x,rfl,_,_,_,P,_⟩:=h
  .intro w hw;obtain rfl|hw:=mem_cons.mp hw
   .exact bR ⋯
   obtain rfl|hw:=mem_cons.mp hw
   .exact dM h1
   .exact yI 8 [] cs _ h2 w hw
  .rw[P.ws];unfold FP.ws;intro w hw;simp only[mem_cons,not_mem_nil,or_false]at hw;obtain rfl|rfl|rfl|rfl|rfl|rfl|rfl|rfl|rfl|rfl|rfl|rfl|rfl|rfl|rfl|rfl:=hw
   .exact bR ⋯
   .rw[P.name];exact rG P.YS
   .rw[P.kd];cases p.kind<;>exact bR ⋯
   .exact dM P.k
   .exact bR ⋯
   .exact dM P.r
   .exact bR ⋯
   .exact dM P.t
   .exact bR ⋯
   .exact dM P.b
   .exact bR ⋯
   .exact dM P.m
   .exact bR ⋯
   .exact dM P.u
   .exact bR ⋯
   .rw[P.z];cases p.none_<;>exact bR ⋯
def Ti{s t:Option Card}{l:Bytes}{p e:Nat}:(badByte true 0 l=none/\lineIn s ⟨wordsFrom p [] l,e⟩=.ok t)↔rF s (bU 32 [] l) t:=by
 rw[My];constructor
 .rintro⟨h1,h2⟩;rw[words_of l [] h1]at h2;exact h2
 .intro h;have h1:badByte true 0 l=none:=jn l [] h.plain;refine⟨h1,?_⟩;rw[words_of l [] h1];exact h
def qg c x (r acc:Bytes):bU c acc (x::r)=if x=c then acc::bU c [] r else bU c (acc++ [x]) r:=rfl
theorem uD:∀b acc,upTo b=none↔bU 10 acc b=[acc++b]
 |[],acc=>by simp[upTo,bU]
 |c::r,acc=>by
  rw[qg];unfold upTo;by_cases h:c=10
  .rw[ah h,ah h];constructor
   .intro q;cases q
   .intro q;obtain⟨w,ws,h1,_⟩:=hX 10 r [];rw[h1]at q;have:=bW List.length q;simp at this
  .rw[af h,af h];have ih:=uD r (acc++ [c]);rw[iR]at ih;rw[Option.map_eq_none_iff];exact ih
theorem uE:∀b acc l r,upTo b=some (l,r)->bU 10 acc b=(acc++l)::bU 10 [] r/\r.length<b.length
 |[],acc,l,r,h=>by cases h
 |c::m,acc,l,r,h=>by
  unfold upTo at h;rw[qg];by_cases hc:c=10
  .rw[ah hc]at h⊢;cases h;exact⟨by rw[jE],kC _⟩
  .rw[af hc]at h⊢;cases q:upTo m with
   |none=>rw[q]at h;cases h
   |some x=>
    obtain⟨l',r'⟩:=x;rw[q]at h;cases h;obtain⟨h1,h2⟩:=uE m (acc++ [c]) l' r' q;refine⟨?_,my h2⟩;rw[h1,iR];rfl
noncomputable def hZ:Option Card->List (List Bytes)->Option Card->Prop
 |s,[],t=>t=s|s,l::ls,t=>∃u,rF s l u/\hZ u ls t
theorem yJ:∀k p s t b,b.length<k->(linesIn lineIn k p s b=.ok t↔∃ls,bU 10 [] b=ls++ [[]]/\hZ s (ls.map (bU 32 [])) t)
 |0,_,_,_,_,h=>by cases h
 |k+1,p,s,t,b,h=>by
  unfold linesIn;cases b with
  |nil=>
   constructor
   .intro q;cases q;exact⟨[],rfl,rfl⟩
   .rintro⟨ls,h1,h2⟩;have:ls=[]:=by
     have h1:[[]]=ls++ [[]]:=h1;cases ls with
     |nil=>rfl
     |cons x r=>
      have:=bW List.length h1;simp at this
    subst this;cases h2;rfl
  |cons c r=>
   rw[af ∅];cases q:upTo (c::r)with
   |none=>
    have e:=(uD (c::r) []).mp q;constructor
    .intro z;cases z
    .rintro⟨ls,h1,h2⟩;rw[e]at h1;cases ls with
     |nil=>cases h1
     |cons x m=>
      have:=bW List.length h1;simp at this
   |some x=>
    obtain⟨l,m⟩:=x;obtain⟨e,hm⟩:=uE (c::r) [] l m q;simp only;have ih:=λu=>yJ k (p+l.length+1) u t m ();have lo:=λu=>Ti (s:=s) (t:=u) (l:=l) (p:=p) (e:=p+l.length);constructor
    .intro z;split at z
     .cases z
     .rename_i hb;split at z
      .cases z
      .rename_i u hu;obtain⟨ls,h1,h2⟩:=(ih u).mp z;refine⟨l::ls,by rw[e,h1];rfl,u,(lo u).mp ⟨hb,hu⟩,h2⟩
    .rintro⟨ls,h1,h2⟩;rw[e]at h1;cases ls with
     |nil=>
      obtain⟨w,ws,h3,_⟩:=hX 10 m [];rw[h3]at h1;cases h1
     |cons x ls=>
      obtain⟨e1,e2⟩:=List.cons.inj h1;subst e1;obtain⟨u,h3,h4⟩:=h2;obtain⟨hb,hu⟩:=(lo u).mpr h3;rw[hb];simp only[hu];exact(ih u).mpr ⟨ls,e2,h4⟩
def km{b:Bytes}:readCard b=.ok C↔(∃ls,bU 10 [] b=ls++ [[]]/\hZ none (ls.map (bU 32 [])) (some C))/\C.races≠ []:=by
 unfold readCard;have key:=λt=>yJ (b.length+1) 0 none t b (kC _);constructor
 .intro h;split at h
  .cases h
  .cases h
  .rename_i D q;split at h
   .cases h
   .rename_i hr;cases h;exact⟨(key _).mp q,hr⟩
 .rintro⟨h1,h2⟩;rw[(key _).mpr h1];simp only;rw[af h2]
noncomputable def hI(r:Race):List Int:=r.heads.map λ(n:Nat)=>(n:Int)
theorem iI{c x:Nat×Nat}:∀{l},c∈putB x l↔c=x\/c∈l
 |[]=>by simp[putB]
 |y::l=>by
  unfold putB;split
  .simp
  .rw[sv,iI,sv];constructor
   .rintro(h|h|h)
    .exact .inr (.inl h)
    .exact .inl h
    .exact .inr (.inr h)
   .rintro(h|h|h)
    .exact .inr (.inl h)
    .exact .inl h
    .exact .inr (.inr h)
structure Iv(hs fs:List Int)(had:List (Nat×Nat)):Prop where
 a:∀n:Nat,(n:Int)∈hs↔∃c∈had,c.1=n
 b:∀n:Nat,(n:Int)∈fs↔∃c∈had,c.2=n
 lt:∀c∈had,c.1<c.2
theorem Iv.put{x y:Nat}(R:Iv hs fs had)(h:x<y):Iv (hs++ [(x:Int)]) (fs++ [(y:Int)]) (putB (x,y) had):=by
 refine⟨λn=>?_,λn=>?_,λc hc=>?_⟩
 .rw[jh,R.a n];constructor
  .rintro(⟨c,h1,h2⟩|h1)
   .exact⟨c,iI.mpr (.inr h1),h2⟩
   .exact⟨(x,y),iI.mpr (.inl rfl),by simp at h1;omega⟩
  .rintro⟨c,h1,h2⟩;obtain rfl|h1:=iI.mp h1
   .exact .inr (by simp at h2⊢;omega)
   .exact .inl ⟨c,h1,h2⟩
 .rw[jh,R.b n];constructor
  .rintro(⟨c,h1,h2⟩|h1)
   .exact⟨c,iI.mpr (.inr h1),h2⟩
   .exact⟨(x,y),iI.mpr (.inl rfl),by simp at h1;omega⟩
  .rintro⟨c,h1,h2⟩;obtain rfl|h1:=iI.mp h1
   .exact .inr (by simp at h2⊢;omega)
   .exact .inl ⟨c,h1,h2⟩
 .obtain rfl|hc:=iI.mp hc
  .exact h
  .exact R.lt c hc
def vv(n:Int)(hs fs:List Int)(c a b:List Nat)(r:List (List Nat)):cA n hs fs (c::a::b::r)=if c=xf then
   match within a 1 n with
   |none=>none
   |some h=>match within b (h+1) n with
    |none=>none|some f=>if h∈fs then none else if f∈hs\/f∈fs then none else cA n (hs++ [h]) (fs++ [f]) r
  else none:=by
 rw[cA] <;>rfl
def FT(n k:Nat)(had:List (Nat×Nat))(c a b:Bytes)(r:List Bytes):nU n (k+1) had (c::a::b::r)=if c=ascii "couple"then
   match numberOf a with
   |none=>none
   |some x=>match numberOf b with
    |none=>none|some y=>if 1<=x/\x<=n/\(had.any λ(z:Nat×Nat)=>z.2==x)=false/\1<=y/\y<=n/\x<y/\(had.any λ(z:Nat×Nat)=>z.1==y||z.2==y)=false then nU n k (putB (x,y) had) r else none
  else none:=by
 rw[nU] <;>rfl
def Vi{had:List (Nat×Nat)}{x:Nat}:(had.any λ(z:Nat×Nat)=>z.2==x)=false↔¬∃c∈had,c.2=x:=by
 rw[<-Bool.not_eq_true,pR];simp only[beq_iff_eq]
def O_{had:List (Nat×Nat)}{x:Nat}:(had.any λ(z:Nat×Nat)=>z.1==x||z.2==x)=false↔¬((∃c∈had,c.1=x)\/∃c∈had,c.2=x):=by
 rw[<-Bool.not_eq_true,pR];simp only[Bool.or_eq_true,beq_iff_eq];constructor
 .rintro h (⟨c,h1,h2⟩|⟨c,h1,h2⟩)
  .exact h ⟨c,h1,.inl h2⟩
  .exact h ⟨c,h1,.inr h2⟩
 .rintro h ⟨c,h1,h2|h2⟩
  .exact h (.inl ⟨c,h1,h2⟩)
  .exact h (.inr ⟨c,h1,h2⟩)
theorem Ku{n:Nat}(hn:n<=24):∀j k hs fs had cs,j<=k->cs.length=3*j->Iv hs fs had->
  (cA (n:Int) hs fs (cs.map cw)=none/\nU n k had cs=none)\/∃Dn Yv z,cA (n:Int) hs fs (cs.map cw)=some Yv/\nU n k had cs=some z/\Iv Dn Yv z
 |0,k,hs,fs,had,cs,_,hl,R=>by
  have:cs=[]:=length_eq_zero_iff.mp ();subst this;refine .inr ⟨hs,fs,had,by simp[cA],?_,R⟩;cases k<;>rfl
 |j+1,0,_,_,_,_,hk,_,_=>absurd hk ()
 |j+1,k+1,hs,fs,had,cs,hk,hl,R=>by
  match cs,hl with
  |[],hl=>exact absurd hl ∅|[_],hl=>exact absurd hl (by simp;omega)
  |[_,_],hl=>exact absurd hl (by simp;omega)
  |c::a::b::r,hl=>
   rw[aP,aP,aP,vv,FT];by_cases hc:c=ascii "couple"
   .rw[ah hc,ah ((cw_couple c).mpr hc)];cases ha:within (cw a) 1 (n:Int)with
    |none=>
     left;refine⟨rfl,?_⟩;cases hx:numberOf a with
     |none=>rfl
     |some x=>
      have no:¬(1<=x/\x<=n):=λq=>by
       have:=(bX (w:=a) (lo:=1) (hi:=n) () (n:=(x:Int))).mpr ⟨x,rfl,hx,q.1,q.2⟩;have this:within (cw a) 1 (n:Int)=some (x:Int):=this;rw[ha]at this;cases this
      simp only;cases numberOf b with
      |none=>rfl
      |some y=>
       simp only;rw[af λq=>no ⟨q.1,q.2.1⟩]
    |some h=>
     obtain⟨x,rfl,hx,x1,x2⟩:=(bX (w:=a) (lo:=1) (hi:=n) () (n:=h)).mp ha;simp only[hx];cases hb:within (cw b) ((x:Int)+1) (n:Int)with
     |none=>
      left;refine⟨rfl,?_⟩;cases hy:numberOf b with
      |none=>rfl
      |some y=>
       simp only;rw[af];rintro⟨_,_,_,_,q5,q6,_⟩;have:=(bX (w:=b) (lo:=x+1) (hi:=n) () (n:=(y:Int))).mpr ⟨y,rfl,hy,q6,q5⟩;have this:within (cw b) ((x:Int)+1) (n:Int)=some (y:Int):=this;rw[hb]at this;cases this
     |some f=>
      obtain⟨y,rfl,hy,y1,y2⟩:=(bX (w:=b) (lo:=x+1) (hi:=n) () (n:=f)).mp hb;simp only[hy];by_cases q1:(x:Int)∈fs
      .left;rw[ah q1];refine⟨rfl,?_⟩;rw[af];rintro⟨_,_,q,_⟩;exact Vi.mp q ((R.b x).mp q1)
      .rw[af q1];by_cases q2:(y:Int)∈hs\/(y:Int)∈fs
       .left;rw[ah q2];refine⟨rfl,?_⟩;rw[af];rintro⟨_,_,_,_,_,_,q⟩;exact O_.mp q (q2.elim (λz=>.inl ((R.a y).mp z)) λz=>.inr ((R.b y).mp z))
       .rw[af q2,ah ⟨x1,x2,Vi.mpr (λz=>q1 ((R.b x).mpr z)),by omega,y2,y1,O_.mpr (λz=>q2 (z.elim (λz=>.inl ((R.a y).mpr z)) λz=>.inr ((R.b y).mpr z)))⟩];exact Ku hn j k _ _ _ r () (by simp at hl;omega) (R.put y1)
   .left;rw[af hc,af (λq=>hc ((cw_couple c).mp q))];exact⟨rfl,rfl⟩
theorem BR:∀k had cs z,nU n k had cs=some z->∃j,j<=k/\cs.length=3*j
 |0,_,[],_,_=>⟨0,aQ _,rfl⟩|0,_,_::_,_,h=>by cases h
 |k+1,_,[],_,_=>⟨0,cv _,rfl⟩|k+1,_,[_],_,h=>by cases h
 |k+1,_,[_,_],_,h=>by cases h
 |k+1,had,c::a::b::r,z,h=>by
  rw[FT]at h;split at h
  .split at h
   .cases h
   .split at h
    .cases h
    .split at h
     .obtain⟨j,h1,h2⟩:=BR k _ r z h;exact⟨j+1,by omega,by simp only[length_cons];omega⟩
     .cases h
  .cases h
def Pa{r:Race}(R:Iv hs fs r.couples):fV r.runners fs=hI r:=by
 unfold fV hI Race.heads;have e1:∀n:Nat,(r.head n==n)=!decide ((n:Int)∈fs):=by
  intro n;have hb:=R.b n;unfold Race.head;cases q:r.couples.find? λ(c:Nat×Nat)=>c.2==n with
  |none=>
   have no:¬(n:Int)∈fs:=λz=>by
    obtain⟨c,h1,h2⟩:=hb.mp z;have:=find?_eq_none.mp q c h1;exact this (by rw[h2];exact beq_self_eq_true n)
   simp[no]
  |some c=>
   have h1:=mem_of_find?_eq_some q;have h2:=find?_some q;have h2:=eq_of_beq h2;have yes:=hb.mpr ⟨c,h1,h2⟩;have eK:=R.lt c h1;have ne:¬c.1=n:=by omega
   simp[yes,ne]
 rw[mM,mM,ck];have e2:((λx:Int=>!decide (x∈fs))∘λ(i:Nat)=>(1:Int)+(i:Int))=((λ(n:Nat)=>r.head n==n)∘λ(i:Nat)=>i+1):=by
  funext i;show(!decide ((1:Int)+(i:Int)∈fs))=(r.head (i+1)==i+1);rw[e1 (i+1)];have:((i+1:Nat):Int)=(1:Int)+(i:Int):=by omega
  rw[this]
 rw[e2];congr 1;funext i;show(1:Int)+(i:Int)=((i+1:Nat):Int);omega
def rE.uniq{r q:Race}(h:rE ws r)(h':rE ws q):r=q:=by
 obtain⟨w,cs,e,h1,_,_,h2⟩:=h;obtain⟨w',cs',e',Ve,_,_,Vf⟩:=h';rw[e]at e';cases e';obtain⟨rn,rc⟩:=r;obtain⟨qn,qc⟩:=q;have z:=Option.some.inj (h1.symm.trans Ve);subst z;have z:=Option.some.inj (h2.symm.trans Vf);subst z;rfl
def Iw(f w:List Nat)(cs:List (List Nat)):gw (f::w::cs)=if(cs.length+2)%3≠2\/26<cs.length+2 then none else
  match within w 2 24 with
  |none=>none
  |some n=>match cA n [] [] cs with
   |none=>none|some fs=>some (fV n.toNat fs):=rfl
def Kv f rest:(gw ((f::rest).map cw)=none/\∀r,¬rE rest r)\/∃r,rE rest r/\gw ((f::rest).map cw)=some (hI r):=by
 cases rest with
 |nil=>exact .inl ⟨rfl,λr ⟨w,cs,e,_⟩=>by cases e⟩
 |cons w cs=>
  rw[aP,aP,Iw,az];by_cases hl:(cs.length+2)%3≠2\/26<cs.length+2
  .left;rw[ah hl];refine⟨rfl,?_⟩;rintro r ⟨w',cs',e,_,_,_,h⟩;cases e;obtain⟨j,h1,h2⟩:=BR 8 [] cs _ h;omega
  .rw[af hl];cases hw:within (cw w) 2 24 with
   |none=>
    left;refine⟨rfl,?_⟩;rintro r ⟨w',cs',e,h1,h2,h3,_⟩;cases e;have:=(bX (w:=w) (lo:=2) (hi:=24) ()).mpr ⟨r.runners,rfl,h1,h2,h3⟩;have this:within (cw w) 2 24=some (r.runners:Int):=this;rw[hw]at this;cases this
   |some n=>
    obtain⟨k,rfl,hk,k1,k2⟩:=(bX (w:=w) (hi:=24) () (n:=n)).mp hw;simp only;have R0:Iv [] [] []:=⟨λn=>by simp,λn=>by simp,λc hc=>by cases hc⟩;obtain⟨e1,e2⟩|⟨Dn,Yv,z,e1,e2,R⟩:=Ku k2 (cs.length/3) 8 [] [] [] cs () () R0
    .left;rw[e1];refine⟨rfl,?_⟩;rintro r ⟨w',cs',e,h1,_,_,h⟩;cases e;have:=Option.some.inj (h1.symm.trans hk);rw[this,e2]at h;cases h
    .right;rw[e1];refine⟨⟨k,z⟩,⟨w,cs,rfl,hk,k1,k2,e2⟩,?_⟩;show some (fV (k:Int).toNat Yv)=some (hI ⟨k,z⟩);rw[gZ,Pa (r:=⟨k,z⟩) R]
noncomputable def mp(p:Pool):MP:=⟨cw p.name,cw (gY p.kind),(p.k:Int),(p.race:Int),(p.unit:Int)⟩
def yK{w:Bytes}:kindB (cw w)=some lh↔∃k,w=gY k/\lh=((leastK k:Int),(mostK k:Int)):=by
 unfold kindB;simp only[cw_place,cw_order,cw_any,cw_legs];constructor
 .intro h;split at h
  .rename_i q;cases h;exact⟨.place,q,rfl⟩
  .split at h
   .rename_i q;cases h;exact⟨.order,q,rfl⟩
   .split at h
    .rename_i q;cases h;exact⟨.any,q,rfl⟩
    .split at h
     .rename_i q;cases h;exact⟨.legs,q,rfl⟩
     .cases h
 .rintro⟨k,rfl,rfl⟩;cases k
  .rw[ah (by rfl)];rfl
  .rw[af ⋯,ah (by rfl)];rfl
  .rw[af ⋯,af ⋯,ah (by rfl)];rfl
  .rw[af ⋯,af ⋯,af ⋯,ah (by rfl)];rfl
def BU{k j:Kind}(h:gY k=gY j):k=j:=by
 cases k<;>cases j<;>first|rfl|exact absurd h ⋯
theorem eX:cw (gY k)=cg↔k=.legs:=by
 rw[cw_legs];constructor
 .intro h;exact BU h
 .rintro rfl;rfl
def fZ:cw (gY k)=dy↔k=.place:=by
 rw[cw_place];constructor
 .intro h;exact BU h
 .rintro rfl;rfl
def qK{w:Bytes}{k:Nat}{races:List Race}(hr:races.length<=16):fw (cw w) (cw (gY kd)) (k:Int) (races.map hI)=some n↔
  ∃r:Nat,n=(r:Int)/\numberOf w=some r/\1<=r/\r<=races.length/\(kd=.legs->r+k<=races.length+1)/\(kd≠ .legs->((races[r-1]?).map λ(x:Race)=>decide (k<=x.heads.length)).getD false=true):=by
 unfold fw;rw[az];have wi:=λn=>bX (w:=w) (lo:=1) (hi:=races.length) () (n:=n);constructor
 .intro h;split at h
  .cases h
  .rename_i r AK;obtain⟨r,rfl,h1,h2,h3⟩:=(wi r).mp AK;simp only[eX]at h;split at h
   .rename_i q;split at h
    .cases h;exact⟨r,rfl,h1,h2,h3,λ_=>by omega,λz=>absurd q z⟩
    .cases h
   .rename_i q;split at h
    .rename_i q2;cases h;refine⟨r,rfl,h1,h2,h3,λz=>absurd z q,λ_=>?_⟩;have e:((r:Int)-1).toNat=r-1:=by omega
     rw[e,cQ,a_]at q2;cases g:races[r-1]? with
     |none=>exact absurd (List.getElem?_eq_none_iff.mp g) ()
     |some x=>
      rw[g]at q2;simp only[Option.map_some,Option.getD_some,hI,length_map]at q2;simp only[Option.map_some,Option.getD_some,decide_eq_true_eq];omega
    .cases h
 .rintro⟨r,rfl,h1,h2,h3,h4,h5⟩;have:=(wi (r:Int)).mpr ⟨r,rfl,h1,h2,h3⟩;have this:within (cw w) 1 (races.length:Int)=some (r:Int):=this;rw[this];simp only[eX];by_cases q:kd=.legs
  .rw[ah q,ah (by have:=h4 q;omega)]
  .rw[af q,ah];have h5:=h5 q;have e:((r:Int)-1).toNat=r-1:=by omega
   rw[e,cQ,a_];cases g:races[r-1]? with
   |none=>exact absurd (List.getElem?_eq_none_iff.mp g) ()
   |some x=>
    rw[g]at h5;simp only[Option.map_some,Option.getD_some,decide_eq_true_eq]at h5;simp only[Option.map_some,Option.getD_some,hI,length_map];omega
def Xp{l:List α}(h:l.length=16):∃a0 a1 a2 a3 a4 a5 a6 a7 a8 a9 Mu Ir Mv Iu Mw FR,l=[a0,a1,a2,a3,a4,a5,a6,a7,a8,a9,Mu,Ir,Mv,Iu,Mw,FR]:=by
 obtain⟨a0,r,e,h⟩:=Iq h;obtain⟨a1,a2,a3,a4,a5,a6,a7,a8,a9,Mu,Ir,Mv,Iu,Mw,FR,q⟩:=O9 h;exact⟨a0,a1,a2,a3,a4,a5,a6,a7,a8,a9,Mu,Ir,Mv,Iu,Mw,FR,by rw[e,q]⟩
def FU{w:Bytes}:(cw w=jj\/cw w=mV\/cw w=gv)↔∃z,w=yE z:=by
 rw[cw_refund,cw_carry,cw_fewer];constructor
 .rintro(h|h|h)
  .exact⟨.refund,h⟩
  .exact⟨.carry,h⟩
  .exact⟨.fewer,h⟩
 .rintro⟨z,rfl⟩;cases z
  .exact .inl rfl
  .exact .inr (.inl rfl)
  .exact .inr (.inr rfl)
def vw{z:None_}:cw (yE z)=gv↔z=.fewer:=by
 rw[cw_fewer];cases z
 .exact⟨λh=>absurd h ⋯,λh=>by cases h⟩
 .exact⟨λh=>absurd h ⋯,λh=>by cases h⟩
 .exact⟨λ_=>rfl,λ_=>rfl⟩
noncomputable def Kw(a0 a1 a2 a3 a4 a5 a6 a7 a8 a9 Mu Ir Mv Iu Mw FR:List Nat)(races:List (List Int)):Option MP:=
 if(decide (a0=yx)&&(decide (a4=yy)&&(decide (a6=yz)&&(decide (a8=rp)&&(decide (Mu=rq)&&(decide (Mv=yA)&&decide (Mw=yB)))))))=false then none else if jb (a1)=false then none else
 match kindB (a2)with
 |none=>none
 |some lh=>match within (a3) lh.1 lh.2 with
  |none=>none
  |some k=>match fw (a5) (a2) k races with
   |none=>none
   |some race=>match within (a7) 0 400 with
    |none=>none
    |some _=>match within (a9) 1 1000 with
     |none=>none
     |some _=>match within (Iu) 1 10000 with
      |none=>none
      |some u=>match within (Ir) 0 (2*u)with
       |none=>none
       |some l=>if¬(l=0\/l≥u)then none else if¬(FR=jj\/FR=mV\/FR=gv)then none else
        if¬(FR≠gv\/a2≠dy)then none else some ⟨a1,a2,k,race,u⟩
def Kx(hr:races.length<=16):eC (ws.map cw) (races.map hI)=some q↔∃rest x p,ws=ascii "pool"::rest/\Ip races rest x p/\q=mp p:=by
 constructor
 .intro h;have hl:ws.length=16:=by
   by_cases c:(ws.map cw).length=16
   .rw[<-az (f:=cw)];exact c
   .unfold eC at h;rw[ah c]at h;cases h
  obtain⟨a0,a1,a2,a3,a4,a5,a6,a7,a8,a9,Mu,Ir,Mv,Iu,Mw,FR,rfl⟩:=Xp (l:=ws) hl;replace h:Kw (cw a0) (cw a1) (cw a2) (cw a3) (cw a4) (cw a5) (cw a6) (cw a7) (cw a8) (cw a9) (cw Mu) (cw Ir) (cw Mv) (cw Iu) (cw Mw) (cw FR) (races.map hI)=some q:=h;unfold Kw at h;split at h
  .cases h
  rename_i hf;simp only[Bool.not_eq_false,Bool.and_eq_true,decide_eq_true_eq,cw_pool,cw_from,cw_take,cw_break,cw_least,cw_unit,cw_none]at hf;obtain⟨f0,f4,f6,f8,f10,f12,f14⟩:=hf;subst f0 f4 f6 f8 f10 f12 f14;rw[tK]at h;split at h
  .cases h
  rename_i hn;split at h
  .cases h
  rename_i lh hk;obtain⟨kd,rfl,rfl⟩:=yK.mp hk;split at h
  .cases h
  rename_i k E5;have mk:mostK kd<10000000:=by cases kd<;>decide
  obtain⟨k,rfl,k1,k2,k3⟩:=(bX (lo:=leastK kd) (hi:=mostK kd) mk).mp E5;split at h
  .cases h
  rename_i race vx;obtain⟨r,rfl,r1,r2,r3,r4,r5⟩:=(qK hr).mp vx;split at h
  .cases h
  rename_i t ht;obtain⟨t,rfl,t1,t2,t3⟩:=(bX (lo:=0) (hi:=400) ⋯).mp ht;split at h
  .cases h
  rename_i b hb;obtain⟨b,rfl,b1,b2,b3⟩:=(bX (lo:=1) (hi:=1000) ⋯).mp hb;split at h
  .cases h
  rename_i u hu;obtain⟨u,rfl,u1,u2,u3⟩:=(bX (lo:=1) (hi:=10000) ⋯).mp hu;split at h
  .cases h
  rename_i l adq;obtain⟨l,rfl,l1,l2,l3⟩:=(bX (lo:=0) (hi:=2*u) ()).mp adq;split at h
  .cases h
  rename_i hlu;split at h
  .cases h
  rename_i hz;obtain⟨z,rfl⟩:=FU.mp (Classical.not_not.mp hz);split at h
  .cases h
  rename_i hzf;cases h;refine⟨_,⟨a1,gY kd,a3,a5,a7,a9,Ir,Iu,yE z⟩,⟨a1,kd,k,r,z,t,b,l,u⟩,rfl,?_,rfl⟩;exact⟨rfl,rfl,‹hn›,rfl,k1,k2,k3,r1,r2,r3,r4,r5,t1,t3,b1,b2,b3,l1,(by show l<=20000;omega),u1,u2,u3,(by show l=0\/(u<=l/\l<=2*u);omega),rfl,λy=>by
   refine hzf λc=>?_;obtain c|c:=c
   .exact c (vw.mpr y.2)
   .exact c (fZ.mpr y.1)⟩
 .rintro⟨rest,x,p,rfl,P,rfl⟩;rw[P.ws];obtain⟨nm,kd,k,r,z,t,b,m,u⟩:=p;obtain⟨xn,xkd,xk,xr,xt,xb,xm,xu,xz⟩:=x;have e1:xn=nm:=P.name;have e2:xkd=gY kd:=P.kd;have e3:xz=yE z:=P.z;subst e1 e2 e3;show Kw (cw (ascii "pool")) (cw xn) (cw (gY kd)) (cw xk) (cw (ascii "from")) (cw xr) (cw (ascii "take")) (cw xt) (cw (ascii "break")) (cw xb) (cw (ascii "least")) (cw xm) (cw (ascii "unit")) (cw xu) (cw (ascii "none")) (cw (yE z)) (races.map hI)=_;unfold Kw;have mk:mostK kd<10000000:=by cases kd<;>decide
  have g1:isName xn=true:=P.YS;have g2:kindB (cw (gY kd))=some ((leastK kd:Int),(mostK kd:Int)):=yK.mpr ⟨kd,rfl,rfl⟩;have g3:within (cw xk) (leastK kd:Int) (mostK kd:Int)=some (k:Int):=(bX (lo:=leastK kd) (hi:=mostK kd) mk).mpr ⟨k,rfl,P.k,P.k1,P.k2⟩;have g4:fw (cw xr) (cw (gY kd)) (k:Int) (races.map hI)=some (r:Int):=(qK hr).mpr ⟨r,rfl,P.r,P.r1,P.r2,P.legs,P.heads⟩;have g5:within (cw xt) 0 400=some (t:Int):=(bX (lo:=0) (hi:=400) ⋯).mpr ⟨t,rfl,P.t,cv _,P.t2⟩;have g6:within (cw xb) 1 1000=some (b:Int):=(bX (lo:=1) (hi:=1000) ⋯).mpr ⟨b,rfl,P.b,P.b1,P.b2⟩;have g7:within (cw xu) 1 10000=some (u:Int):=(bX (lo:=1) (hi:=10000) ⋯).mpr ⟨u,rfl,P.u,P.u1,P.u2⟩;have pm:=P.mu;have u2:=P.u2;simp only at pm u2;have g8:within (cw xm) 0 (2*(u:Int))=some (m:Int):=(bX (lo:=0) (hi:=2*u) ()).mpr ⟨m,rfl,P.m,cv _,by omega⟩;have fx:(decide (cw (ascii "pool")=yx)&&(decide (cw (ascii "from")=yy)&&(decide (cw (ascii "take")=yz)&&(decide (cw (ascii "break")=rp)&&(decide (cw (ascii "least")=rq)&&(decide (cw (ascii "unit")=yA)&&decide (cw (ascii "none")=yB)))))))=true:=by decide
  rw[fx,af ⋯,tK,g1,af ⋯,g2];simp only[g3,g4,g5,g6,g7,g8];rw[af (),af (Classical.not_not.mpr (FU.mpr ⟨z,rfl⟩)),af]
  .rfl
  .intro c;refine c ?_;by_cases q:z=.fewer
   .exact .inr λy=>P.pf ⟨fZ.mp y,q⟩
   .exact .inl λy=>q (vw.mp y)
def aam(f:α->Option β):cG f []=some []:=rfl
def bG{f:α->Option β}{x:α}{r:List α}:cG f (x::r)=some zs↔∃y ys,f x=some y/\cG f r=some ys/\zs=y::ys:=by
 show(match f x with|none=>none|some y=>match cG f r with|none=>none|some ys=>some (y::ys))=some zs↔_;cases f x with
 |none=>simp
 |some y=>
  cases cG f r with
  |none=>simp
  |some ys=>
   simp only[Option.some.injEq];constructor
   .intro h;exact⟨y,ys,rfl,rfl,h.symm⟩
   .rintro⟨_,_,rfl,rfl,h⟩;exact h.symm
theorem lR{f:α->Option β}{x:α}:∀{l},cG f (l++ [x])=match cG f l with|none=>none|some ys=>match f x with|none=>none|some y=>some (ys++ [y])
 |[]=>by
  show(match f x with|none=>none|some y=>some [y])=_;cases f x<;>rfl
 |a::l=>by
  show(match f a with|none=>none|some y=>match cG f (l++ [x])with|none=>none|some ys=>some (y::ys))=match(match f a with|none=>none|some y=>match cG f l with|none=>none|some ys=>some (y::ys))with|none=>none|some ys=>match f x with|none=>none|some y=>some (ys++ [y])
  cases f a with
  |none=>rfl
  |some y=>
   rw[lR];cases cG f l with
   |none=>rfl|some ys=>cases f x<;>rfl
theorem gA{f:α->Option β}:∀{l}{ys},cG f l=some ys->ys.length=l.length
 |[],ys,h=>by cases h;rfl
 |a::l,ys,h=>by
  obtain⟨y,zs,_,h2,rfl⟩:=bG.mp h;rw[aY,aY,gA h2]
theorem vy{f:α->Option β}:∀{l m},cG f l=none->cG f (l++m)=none
 |[],_,h=>by cases h
 |a::l,m,h=>by
  show(match f a with|none=>none|some y=>match cG f (l++m)with|none=>none|some ys=>some (y::ys))=none;have h:(match f a with|none=>none|some y=>match cG f l with|none=>none|some ys=>some (y::ys))=none:=h;cases q:f a with
  |none=>rfl
  |some y=>
   rw[q]at h;cases q2:cG f l with
   |none=>rw[vy q2]|some ys=>rw[q2]at h;cases h
def Pb{v w:Bytes}(hv:isName v=true)(h:cw v=cw w)(hw:isName w=true):v=w:=by
 have p:∀{u:Bytes},isName u=true->u.all (λc=>isSmall c||isDigit c)=true:=λ{u} q=>by
  unfold isName at q;simp only[Bool.and_eq_true]at q;exact q.2.2.1
 have e:∀{u:Bytes},u.all (λc=>isSmall c||isDigit c)=true->cw u=toN u:=λ{u} q=>by
  apply fQ;intro c hc;have:=all_eq_true.mp q c hc;exact tI this
 rw[e (p hv),e (p hw)]at h;exact Kt h
noncomputable abbrev cl(l:List Bytes):List (List Nat):=l.map cw
theorem Vj:∀ls C0 C,C0.races.length<=16->(C0.pools≠ []\/∀l,ls.head?=some l->l.head?≠some (ascii "race"))->(∀p∈C0.pools,isName p.name=true)->(C0.pools.map (·.name)).Nodup->C0.pools.length<=64->
  hZ (some C0) ls (some C)->∃ps,C= {C0 with pools:=C0.pools++ps}/\cG (λws=>eC ws (C0.races.map hI)) (ls.map cl)=some (ps.map mp)/\C.pools.length<=64/\(C.pools.map (·.name)).Nodup/\(∀p∈C.pools,isName p.name=true)
 |[],C0,C,_,_,hn,nd,hl,h=>by
  cases h;exact⟨[],by simp,rfl,hl,nd,hn⟩
 |l::ls,C0,C,hr,hh,hn,nd,hl,h=>by
  obtain⟨u,h1,h2⟩:=h;obtain⟨r,rest,e,e1,_,_,_⟩|⟨p,rest,x,e,e1,e2,e3,P,e4⟩:=h1
  .exfalso;obtain hh|hh:=hh
   .exact hh e1
   .exact hh l rfl (by rw[e];rfl)
  .subst e4;have nd':((C0.pools++ [p]).map (·.name)).Nodup:=by
    rw[ed,sR];refine⟨nd,by simp,λa ha b hb=>?_⟩;simp at hb;subst hb;rintro rfl;exact e3 ha
   obtain⟨ps,g1,g2,g3,g4,g5⟩:=Vj ls {C0 with pools:=C0.pools++ [p]} C hr (.inl ∅) (λq hq=>by
    obtain hq|hq:=mem_append.mp hq
    .exact hn q hq
    .simp at hq;subst hq;exact P.YS) nd' (by simp;omega) h2
   refine⟨p::ps,by rw[g1];simp,?_,g3,g4,g5⟩;exact bG.mpr ⟨mp p,ps.map mp,(Kx hr).mpr ⟨rest,x,p,e,P,rfl⟩,g2,rfl⟩
theorem Pg:∀ls C0 qs,C0.races≠ []->C0.races.length<=16->(∀p∈C0.pools,isName p.name=true)->cG (λws=>eC ws (C0.races.map hI)) (ls.map cl)=some qs->C0.pools.length+qs.length<=64->
  (C0.pools.map (λp=>cw p.name)++qs.map (·.name)).Nodup->∃ps,qs=ps.map mp/\hZ (some C0) ls (some {C0 with pools:=C0.pools++ps})
 |[],C0,qs,_,_,_,h,_,_=>by
  cases h;exact⟨[],rfl,by simp[hZ]⟩
 |l::ls,C0,qs,h0,hr,hn,h,hl,nd=>by
  obtain⟨q,qs,h1,h2,rfl⟩:=bG.mp h;obtain⟨rest,x,p,e,P,rfl⟩:=(Kx hr).mp h1;have nd2:((C0.pools++ [p]).map (λp=>cw p.name)++qs.map (·.name)).Nodup:=by
   rw[ed,iR];exact nd
  obtain⟨ps,g1,g2⟩:=Pg ls {C0 with pools:=C0.pools++ [p]} qs h0 hr (λq hq=>by
    obtain hq|hq:=mem_append.mp hq
    .exact hn q hq
    .simp at hq;subst hq;exact P.YS) h2 (by simp at hl⊢;omega) nd2
  refine⟨p::ps,by rw[g1];rfl,some {C0 with pools:=C0.pools++ [p]},.inr ⟨p,rest,x,e,h0,by simp at hl;omega,λhm=>?_,P,rfl⟩,?_⟩
  .obtain⟨p',hp',e'⟩:=mem_map.mp hm;rw[sR]at nd;refine nd.2.2 (cw p'.name) (mem_map.mpr ⟨p',hp',rfl⟩) (cw p.name) ?_ (by rw[e']);exact bZ
  .have:C0.pools++p::ps=C0.pools++ [p] ++ps:=by simp
   rw[this];exact g2
def rH l:cY (cl l)=decide (l.head?=some (ascii "race")):=by
 unfold cY;cases l with
 |nil=>rfl
 |cons w r=>
  have:(cl (w::r)).head?=some (cw w):=rfl;rw[this];simp only[Option.some.injEq,head?_cons,cw_race]
theorem Vk:∀ls C0 C,C0.pools=[]->C0.races.length<=16->hZ (some C0) ls (some C)->
  ∃rs,cG gw ((ls.map cl).takeWhile cY)=some (rs.map hI)/\C0.races.length+rs.length<=16/\hZ (some {C0 with races:=C0.races++rs}) (ls.dropWhile λl=>decide (l.head?=some (ascii "race"))) (some C)
 |[],C0,C,_,hl,h=>⟨[],rfl,‹hl›,‹h›⟩
 |l::ls,C0,C,hp,hl,h=>by
  rw[aP,mC,mE,rH];by_cases hc:l.head?=some (ascii "race")
  .rw[g_ hc,ah rfl,ah rfl];obtain⟨u,h1,h2⟩:=h;obtain⟨r,rest,e,e1,e2,e3,e4⟩|⟨p,rest,x,e,_⟩:=h1
   .subst e4;obtain⟨rs,g1,g2,g3⟩:=Vk ls {C0 with races:=C0.races++ [r]} C hp (by simp;omega) h2;refine⟨r::rs,?_,by simp at g2⊢;omega,‹g3›⟩;refine bG.mpr ⟨hI r,rs.map hI,?_,g1,rfl⟩;obtain⟨_,q⟩|⟨r',q1,q2⟩:=Kv (ascii "race") rest
    .exact absurd e3 (q r)
    .rw[e3.uniq q1];rw[<-q2,e]
   .rw[e]at hc;exact absurd (Option.some.inj hc) ⋯
  .rw[cR hc];exact⟨[],rfl,‹hl›,‹h›⟩
theorem Ph:∀ls C0 hs,C0.pools=[]->cG gw ((ls.map cl).takeWhile cY)=some hs->C0.races.length+hs.length<=16->
  ∃rs,hs=rs.map hI/\∀C,(hZ (some {C0 with races:=C0.races++rs}) (ls.dropWhile λl=>decide (l.head?=some (ascii "race"))) (some C)->hZ (some C0) ls (some C))
 |[],C0,hs,_,h,_=>by
  cases h;exact⟨[],rfl,λC q=>‹q›⟩
 |l::ls,C0,hs,hp,h,hl=>by
  rw[aP,mC,rH]at h;rw[mE];by_cases hc:l.head?=some (ascii "race")
  .rw[g_ hc,ah rfl]at h;rw[g_ hc,ah rfl];obtain⟨y,ys,h1,h2,rfl⟩:=bG.mp h;cases l with
   |nil=>cases hc
   |cons w rest=>
    have hw:=Option.some.inj hc;obtain⟨q,_⟩|⟨r,q1,q2⟩:=Kv w rest
    .have h1:=h1;rw[q]at h1;cases h1
    .have h1:=h1;rw[q2]at h1;cases h1;obtain⟨rs,g1,g2⟩:=Ph ls {C0 with races:=C0.races++ [r]} ys hp h2 (by simp at hl⊢;omega);refine⟨r::rs,by rw[g1];rfl,λC q=>⟨some {C0 with races:=C0.races++ [r]},.inl ⟨r,rest,by rw[hw],hp,by simp at hl;omega,q1,rfl⟩,g2 C ?_⟩⟩;simpa using q
  .rw[cR hc]at h;rw[cR hc];simp only[Bool.false_eq_true,if_false]at h⊢;cases h;exact⟨[],rfl,λC q=>‹q›⟩
def uF b:iX (cw b)=if(bU 10 [] b).getLast?.getD []=[]then some ((bU 10 [] b).dropLast.map λl=>cl (bU 32 [] l))else none:=by
 unfold iX;have e:cut 10 [] (cw b)=(bU 10 [] b).map cw:=aak b [];rw[e,getLast?_map];have e2:(Option.map cw (bU 10 [] b).getLast?).getD []=[]↔(bU 10 [] b).getLast?.getD []=[]:=by
  cases(bU 10 [] b).getLast? with
  |none=>simp
  |some x=>
   show cw x=[]↔x=[];unfold cw;rw[map_eq_nil_iff]
 simp only[e2];split
 .congr 1;rw[<-map_dropLast,ck];apply fQ;intro l _;exact aal l []
 .rfl
def mW{b:Bytes}:bU 10 [] b=ls++ [[]]↔(bU 10 [] b).getLast?.getD []=[]/\ls=(bU 10 [] b).dropLast:=by
 obtain⟨w,ws,h1,_⟩:=hX 10 b [];constructor
 .intro h;rw[h];simp
 .rintro⟨h2,rfl⟩;have ne:bU 10 [] b≠ []:=by rw[h1];simp
  have:=dropLast_concat_getLast ne;rw[getLast?_eq_some_getLast ne]at h2;have h2:(bU 10 [] b).getLast ne=[]:=h2;rw[h2]at this;exact this.symm
def lS(ls:List (List Bytes)):(ls.map cl).dropWhile cY=(ls.dropWhile λl=>decide (l.head?=some (ascii "race"))).map cl:=by
 induction ls with
 |nil=>rfl
 |cons l ls ih=>
  rw[aP,mE,mE,rH];split
  .exact ih
  .rfl
def Mz(ls:List (List Bytes)):∀l,(ls.dropWhile λl=>decide (l.head?=some (ascii "race"))).head?=some l->l.head?≠some (ascii "race"):=by
 induction ls with
 |nil=>intro l h;cases h
 |cons a r ih=>
  intro l h;rw[mE]at h;by_cases hc:a.head?=some (ascii "race")
  .rw[g_ hc,ah rfl]at h;exact ih l h
  .rw[cR hc]at h;have:=Option.some.inj h;subst this;exact hc
def names_nodup{ps:List Pool}(hn:∀p∈ps,isName p.name=true):((ps.map mp).map (·.name)).Nodup↔(ps.map (·.name)).Nodup:=by
 rw[ck]
 induction ps with
 |nil=>simp
 |cons p ps ih=>
  have ih:=ih λq hq=>hn q (bE _ hq);rw[aP,aP,nodup_cons,nodup_cons,ih];have:((λx:MP=>x.name)∘mp) p∈List.map ((λx:MP=>x.name)∘mp) ps↔p.name∈ps.map (·.name):=by
   rw[mem_map,mem_map];constructor
   .rintro⟨q,h1,h2⟩;exact⟨q,h1,Pb (hn q (bE _ h1)) h2 (hn p bZ)⟩
   .rintro⟨q,h1,h2⟩;refine⟨q,h1,?_⟩;show cw q.name=cw p.name;rw[h2]
  rw[this]
def Ky{b:Bytes}(h:readCard b=.ok C):d6 (cw b)=some (C.races.map hI,C.pools.map mp)/\C.races.length<=16:=by
 obtain⟨⟨ls,h1,h2⟩,h3⟩:=km.mp h;obtain⟨e1,e2⟩:=mW.mp h1;unfold d6;rw[uF,ah e1,<-e2];cases ls with
 |nil=>exact absurd h2 (by simp[hZ])
 |cons d ls=>
  obtain⟨u,⟨n,g1,g2,g3⟩,h2⟩:=h2;subst g3;rw[aP];simp only;have hd:vQ (cl (bU 32 [] d))=true:=by
   rw[g1];unfold vQ;simp only[cl,map_cons,map_nil,length_cons,length_nil,getD_cons_zero,getD_cons_succ,tK,g2];decide
  rw[hd,af ⋯];have em:(ls.map λl=>cl (bU 32 [] l))=(ls.map (bU 32 [])).map cl:=by rw[ck];rfl
  rw[em];obtain⟨rs,r1,r2,r3⟩:=Vk (ls.map (bU 32 [])) {noCard with name:=n} C rfl (cv _) h2;have r2:rs.length<=16:=by simpa[noCard]using r2
  obtain⟨ps,p1,p2,p3,p4,p5⟩:=Vj _ _ C (by simpa[noCard]using r2) (.inr (Mz _)) (by simp[noCard]) (by simp[noCard]) (by simp[noCard]) r3;have er:C.races=rs:=by rw[p1];simp[noCard]
  have ep:C.pools=ps:=by rw[p1];simp[noCard]
  have lr:=gA r1;rw[az]at lr;have ne:rs≠ []:=by rw[<-er];exact h3
  have l1:=length_pos_iff.mpr ne;refine⟨?_,by rw[er];exact r2⟩;rw[af (by rw[<-lr];omega),r1];simp only;have lp:=gA p2;rw[az]at lp;rw[lS];have p2':cG (λws=>eC ws (rs.map hI)) ((List.dropWhile (λl=>decide (l.head?=some (ascii "race"))) (ls.map (bU 32 []))).map cl)=some (ps.map mp):=by
   simpa[noCard]using p2
  rw[p2',af (by rw[<-lp,<-ep];omega)];simp only;rw[ah]
  .rw[er,ep]
  .rw[<-ep];exact(names_nodup p5).mpr p4
def Pj{b:Bytes}(h:d6 (cw b)=some (rs,qs)):∃C,readCard b=.ok C/\rs=C.races.map hI/\qs=C.pools.map mp:=by
 unfold d6 at h;rw[uF]at h;split at h
 .cases h
 .cases h
 .rename_i d ls Xq;split at Xq
  .rename_i e1;split at h
   .cases h
   rename_i hd;split at h
   .cases h
   rename_i hrc;split at h
   .cases h
   rename_i races vx;split at h
   .cases h
   rename_i iz;split at h
   .cases h
   rename_i pools hpo;split at h
   .rename_i nd;cases h;have Xq:=Option.some.inj Xq;generalize hL:(bU 10 [] b).dropLast=L at Xq;cases L with
    |nil=>cases Xq
    |cons d0 L=>
     obtain⟨rfl,rfl⟩:=List.cons.inj Xq;have em:(L.map λl=>cl (bU 32 [] l))=(L.map (bU 32 [])).map cl:=by rw[ck];rfl
     rw[em]at vx hrc iz hpo;have hd:vQ (cl (bU 32 [] d0))=true:=‹hd›
     obtain⟨n,g1,g2⟩:∃n,bU 32 [] d0=[ascii "day",n]/\isName n=true:=by
      unfold vQ at hd;simp only[Bool.and_eq_true,decide_eq_true_eq]at hd;obtain⟨q1,q2,q3⟩:=hd;rw[az]at q1;obtain⟨a,c,e⟩:=FQ q1;rw[e]at q2 q3;have q3:jb (cw c)=true:=q3;rw[tK]at q3;exact⟨c,by rw[e,(cw_day a).mp q2],q3⟩
     have lr:=gA vx;obtain⟨rl,r1,r2⟩:=Ph (L.map (bU 32 [])) {noCard with name:=n} rs rfl vx (by simp[noCard];omega);have lrl:rl.length=rs.length:=by rw[r1,az]
     have iB:rl≠ []:=λz=>by
      rw[z]at lrl;simp at lrl;omega
     rw[lS]at hpo iz;have lp:=gA hpo;rw[r1]at hpo;obtain⟨ps,p1,p2⟩:=Pg _ {noCard with name:=n,races:=rl} qs iB (by simp;omega) (by simp[noCard]) hpo (by simp[noCard];omega) (by simpa[noCard]using nd);refine⟨⟨n,rl,ps⟩,km.mpr ⟨⟨d0::L,mW.mpr ⟨e1,hL.symm⟩,some {noCard with name:=n},⟨n,g1,g2,rfl⟩,?_⟩,iB⟩,r1,p1⟩;refine r2 _ ?_;simpa[noCard]using p2
   .cases h
  .cases Xq
end Pd
end
variable {q:Pd.MP}
section
namespace Pd
open Tote TotePoolCalls
noncomputable def jK(n:Int)(k:Nat):Int:=(List.range k).foldl (λr (t:Nat)=>r*(n-(t:Int))) 1
noncomputable def jc(races:List (List Int)):Int:=races.foldl (λr (l:List Int)=>r*(l.length:Int)) 1
noncomputable def countM(races:List (List Int))(p:MP):Int:=
 if p.kind=cg then jc ((races.drop (p.race-1).toNat).take p.k.toNat)else
  let n:Int:=((races.getD (p.race-1).toNat []).length:Int)
  if p.kind=dy then n else if p.kind=dz then jK n p.k.toNat else Int.fdiv (jK n p.k.toNat) (jK p.k p.k.toNat)
def yL n k:jK n (k+1)=jK n k*(n-(k:Int)):=by
 unfold jK;rw[range_succ,sS];rfl
theorem oG:∀n k,(orders n (k+1):Int)=(orders n k:Int)*((n:Int)-(k:Int))
 |0,0=>by simp[orders]|0,k+1=>by simp[orders]
 |n+1,0=>by simp[orders]
 |n+1,k+1=>by
  show(((n+1)*orders n (k+1):Nat):Int)=(((n+1)*orders n k:Nat):Int)*(((n+1:Nat):Int)-((k+1:Nat):Int));have e:((n+1:Nat):Int)-((k+1:Nat):Int)=(n:Int)-(k:Int):=by omega
  rw[e,pG,pG,oG n k,pI]
theorem f7(n:Nat):∀k:Nat,jK (n:Int) k=(orders n k:Int)
 |0=>by
  have:orders n 0=1:=by cases n<;>rfl
  rw[this];rfl
 |k+1=>by rw[yL,f7 n k,oG]
theorem BV:∀(l:List Race)(a:Nat),(l.map hI).foldl (λr (x:List Int)=>r*(x.length:Int)) (a:Int)=((((l.map Race.heads).map List.length).foldl (λ(x y:Nat)=>x*y) a:Nat):Int)
 |[],a=>rfl
 |r::l,a=>by
  rw[aP,dW,aP,aP,dW,<-BV l];unfold hI;rw[az,pG]
structure MA(races:List (List Int))(p:MP):Prop where
 kd:p.kind=dy\/p.kind=dz\/p.kind=ji\/p.kind=cg
 k1:1<=p.k
 k2:p.k<=6
 r1:1<=p.race
 r2:p.race<=(races.length:Int)
 legs:p.kind=cg->p.race+p.k-1<=(races.length:Int)
def dg{w:List Nat}(h:within w lo hi=some n):lo<=n/\n<=hi/\n=dv w:=by
 unfold within at h;split at h
 .rename_i q;cases h;exact⟨q.1,q.2,rfl⟩
 .cases h
def FV(h:eC ws races=some p):MA races p:=by
 unfold eC at h;split at h
 .cases h
 split at h
 .cases h
 split at h
 .cases h
 split at h
 .cases h
 rename_i lh hk;split at h
 .cases h
 rename_i k E5;split at h
 .cases h
 rename_i race vx;split at h
 .cases h
 split at h
 .cases h
 split at h
 .cases h
 split at h
 .cases h
 split at h
 .cases h
 split at h
 .cases h
 split at h
 .cases h
 cases h;obtain⟨k1,k2,_⟩:=dg E5;have hkd:(ws.getD 2 []=dy\/ws.getD 2 []=dz\/ws.getD 2 []=ji\/ws.getD 2 []=cg)/\1<=lh.1/\lh.2<=6:=by
  unfold kindB at hk;split at hk
  .rename_i q;cases hk;exact⟨.inl q,by decide,by decide⟩
  split at hk
  .rename_i q;cases hk;exact⟨.inr (.inl q),by decide,by decide⟩
  split at hk
  .rename_i q;cases hk;exact⟨.inr (.inr (.inl q)),by decide,by decide⟩
  split at hk
  .rename_i q;cases hk;exact⟨.inr (.inr (.inr q)),by decide,by decide⟩
  cases hk
 unfold fw at vx;split at vx
 .cases vx
 rename_i r hr;obtain⟨r1,r2,_⟩:=dg hr;split at vx
 .split at vx
  .rename_i q2;cases vx;exact⟨hkd.1,by show 1<=k;omega,by show k<=6;omega,r1,r2,λ_=>q2⟩
  .cases vx
 .rename_i q;split at vx
  .cases vx;exact⟨hkd.1,by show 1<=k;omega,by show k<=6;omega,r1,r2,λz=>absurd z q⟩
  .cases vx
theorem oH{f:α->Option β}:∀{l}{ys},cG f l=some ys->∀y∈ys,∃x∈l,f x=some y
 |[],ys,h,y,hy=>by cases h;cases hy
 |a::l,ys,h,y,hy=>by
  obtain⟨z,zs,h1,h2,rfl⟩:=bG.mp h;obtain rfl|hy:=mem_cons.mp hy
  .exact⟨a,bZ,h1⟩
  .obtain⟨x,h3,h4⟩:=oH h2 y hy;exact⟨x,bE _ h3,h4⟩
def count_eq{C:Card}(P:MA (C.races.map hI) (mp p)):countM (C.races.map hI) (mp p)=(C.many p:Int):=by
 have r1:1<=(p.race:Int):=P.r1;have r2:(p.race:Int)<=((C.races.map hI).length:Int):=P.r2;rw[az]at r2;have e:((mp p).race-1).toNat=p.race-1:=by show((p.race:Int)-1).toNat=_;omega
 have ek:(mp p).k.toNat=p.k:=by show((p.k:Int)).toNat=_;omega
 unfold countM Card.many;rw[e,ek];have hd:∀i,p.legs=i+1->((C.sets p).headD []).length=((C.races.map hI).getD (p.race-1) []).length:=λi hi=>by
  unfold Card.sets;rw[hi,range_succ_eq_map,aP,headD_cons];unfold Card.headsOf;rw[sE,cQ,a_];cases C.races[p.race-1]? with
  |none=>rfl|some x=>simp[hI]
 obtain⟨nm,kd,k,r,z,t,b,m,u⟩:=p;cases kd with
 |legs=>
  rw[ah (show(mp ⟨nm,.legs,k,r,z,t,b,m,u⟩).kind=cg from eX.mpr rfl)];have hl:(r:Int)+(k:Int)-1<=((C.races.map hI).length:Int):=P.legs (eX.mpr rfl);rw[az]at hl;show jc (((C.races.map hI).drop (r-1)).take k)=((product (((List.range k).map λ(i:Nat)=>C.headsOf (r+i)).map List.length):Nat):Int);have es:((List.range k).map λ(i:Nat)=>C.headsOf (r+i))=((C.races.drop (r-1)).take k).map Race.heads:=by
   apply ext_getElem
   .have r1:1<=(r:Int):=r1;simp only[length_map,length_range,length_take,length_drop];omega
   .intro i h1 h2;have r1:1<=(r:Int):=r1;simp only[getElem_map,getElem_range,getElem_take,getElem_drop];simp only[length_map,length_range]at h1;unfold Card.headsOf;have hb:r-1+i<C.races.length:=by omega
    have e1:r+i-1=r-1+i:=by omega
    rw[e1,bg hb];rfl
  rw[es];unfold jc product;rw[<-map_drop,<-map_take];exact BV _ 1
 |place=>
  rw[af (show¬(mp ⟨nm,.place,k,r,z,t,b,m,u⟩).kind=cg from λq=>by cases eX.mp q)];simp only;rw[ah (show(mp ⟨nm,.place,k,r,z,t,b,m,u⟩).kind=dy from fZ.mpr rfl)];have:=hd 0 rfl;rw[this]
 |order=>
  rw[af (show¬(mp ⟨nm,.order,k,r,z,t,b,m,u⟩).kind=cg from λq=>by cases eX.mp q)];simp only;rw[af (show¬(mp ⟨nm,.order,k,r,z,t,b,m,u⟩).kind=dy from λq=>by cases fZ.mp q),
   ah (show(mp ⟨nm,.order,k,r,z,t,b,m,u⟩).kind=dz from(by decide:cw (gY .order)=dz))]
  have:=hd 0 rfl;rw[f7,this]
 |any=>
  rw[af (show¬(mp ⟨nm,.any,k,r,z,t,b,m,u⟩).kind=cg from λq=>by cases eX.mp q)];simp only;rw[af (show¬(mp ⟨nm,.any,k,r,z,t,b,m,u⟩).kind=dy from λq=>by cases fZ.mp q),
   af (show¬(mp ⟨nm,.any,k,r,z,t,b,m,u⟩).kind=dz from(by decide:¬cw (gY .any)=dz))]
  have:=hd 0 rfl;have ek2:(mp ⟨nm,.any,k,r,z,t,b,m,u⟩).k=(k:Int):=rfl;rw[f7,ek2,f7,this];unfold choose;rw[wd _ (Int.natCast_nonneg _)];exact Int.ofNat_ediv_ofNat
noncomputable def kn(n:Int):Int->List Int->Bool
 |before,a::b::r=>decide (before<a)&&(decide (a<n)&&(decide (1<=b)&&kn n a r))|_,_=>true
noncomputable def yM:List Int->List Int
 |_::b::r=>b::yM r|_=>[]
noncomputable def Dq(money:List Int):Int:=(yM money).sum
noncomputable def gB(money:List Int)(n:Int):Bool:=decide (money.length<=524288)&&(kn n (-1) money&&decide (Dq money<=281474976710655))
theorem vz:∀l a,(∀x∈l,0<=x)->((((PoolNeutral.pairs l).map λ(x:Nat×Nat)=>x.2).foldl (λ(a b:Nat)=>a+b) a:Nat):Int)=(a:Int)+(yM l).sum
 |[],a,_=>by simp[PoolNeutral.pairs,yM]|[x],a,_=>by simp[PoolNeutral.pairs,yM]
 |x::y::r,a,h=>by
  have h2:=h y ∅;show((((PoolNeutral.pairs r).map λ(x:Nat×Nat)=>x.2).foldl (λ(a b:Nat)=>a+b) (a+y.toNat):Nat):Int)=(a:Int)+(y::yM r).sum;rw[vz r (a+y.toNat) λz hz=>h z (by simp[hz]),sum_cons];omega
def FW{l:List Int}(h:∀x∈l,0<=x):((Money.total (PoolNeutral.pairs l):Nat):Int)=Dq l:=by
 unfold Money.total Dq;rw[vz l 0 h];simp
theorem pairs_len:∀l:List Int,(PoolNeutral.pairs l).length=l.length/2
 |[]=>by simp[PoolNeutral.pairs]|[x]=>by simp[PoolNeutral.pairs]
 |x::y::r=>by
  have:=pairs_len r;simp only[PoolNeutral.pairs,length_cons];omega
theorem Kz{n:Nat}:∀l,(∀x∈l,0<=x)->∀before:Int,kn (n:Int) before l=true↔
  (∀x,(PoolNeutral.pairs l).head?=some x->before<(x.1:Int))/\risesN ((PoolNeutral.pairs l).map λ(x:Nat×Nat)=>x.1)=true/\(PoolNeutral.pairs l).all (λ(x:Nat×Nat)=>decide (x.1<n)&&decide (0<x.2))=true
 |[],_,before=>by simp[kn,PoolNeutral.pairs,risesN]|[x],_,before=>by simp[kn,PoolNeutral.pairs,risesN]
 |x::y::r,h,before=>by
  have hx:=h x ∅;have ih:=Kz (n:=n) r (λz hz=>h z (by simp[hz])) x;show(decide (before<x)&&(decide (x<(n:Int))&&(decide (1<=y)&&kn (n:Int) x r)))=true↔(∀z,some (x.toNat,y.toNat)=some z->before<(z.1:Int))/\risesN (x.toNat::(PoolNeutral.pairs r).map λ(x:Nat×Nat)=>x.1)=true/\((decide (x.toNat<n)&&decide (0<y.toNat))&&(PoolNeutral.pairs r).all (λ(x:Nat×Nat)=>decide (x.1<n)&&decide (0<x.2)))=true;simp only[Bool.and_eq_true,decide_eq_true_eq];rw[ih];have er:risesN (x.toNat::(PoolNeutral.pairs r).map λ(x:Nat×Nat)=>x.1)=true↔(∀z,(PoolNeutral.pairs r).head?=some z->x<(z.1:Int))/\risesN ((PoolNeutral.pairs r).map λ(x:Nat×Nat)=>x.1)=true:=by
   cases PoolNeutral.pairs r with
   |nil=>simp[risesN]
   |cons z zs=>
    show(decide (x.toNat<z.1)&&risesN (z.1::zs.map λ(x:Nat×Nat)=>x.1))=true↔(∀q,some z=some q->x<(q.1:Int))/\risesN (z.1::zs.map λ(x:Nat×Nat)=>x.1)=true;rw[bC,fB];constructor
    .rintro⟨h1,h2⟩;exact⟨λq hq=>by cases hq;omega,h2⟩
    .rintro⟨h1,h2⟩;exact⟨by have:=h1 z rfl;omega,h2⟩
  rw[er];constructor
  .rintro⟨h1,h2,h3,h4,h5,h6⟩;exact⟨λz hz=>by cases hz;show before<((x.toNat:Nat):Int);omega,⟨h4,h5⟩,⟨by omega,by omega⟩,h6⟩
  .rintro⟨h1,⟨h4,h5⟩,⟨h2,h3⟩,h6⟩;have h1:=h1 _ rfl;exact⟨by omega,by omega,by omega,h4,h5,h6⟩
def FX{n:Nat}{l:List Int}(h:∀x∈l,0<=x)(hl:l.length%2=0):gB l (n:Int)=Money.right n (PoolNeutral.pairs l):=by
 rw[gi];unfold gB Money.right;rw[bC,bC,Kz l h (-1)];simp only[Bool.and_eq_true,decide_eq_true_eq];have hp:=pairs_len l;have ht:=FW h;unfold ENTRIES CENTS;constructor
 .rintro⟨h1,⟨_,h2,h3⟩,h4⟩;exact⟨h2,h3,by omega,by omega⟩
 .rintro⟨h2,h3,h4,h5⟩;exact⟨by omega,⟨λx _=>by omega,h2,h3⟩,by omega⟩
noncomputable def qh(card:List Int):List Nat:=card.map λi=>sg i.toNat
def yN(h:∀x∈card,0<=x/\x<=255):qh card=cw (PoolNeutral.text card):=by
 unfold qh cw PoolNeutral.text PoolNeutral.nats;rw[ck,ck];apply fQ;intro x hx;have:=h x hx;show sg x.toNat=sg (UInt8.ofNat x.toNat).toNat;rw[UInt8.toNat_ofNat',Nat.mod_eq_of_lt ()]
def Pk{ps:List MP}(h:d6 codes=some (rs,ps)):∀p∈ps,MA rs p:=by
 unfold d6 at h;split at h
 .cases h
 .cases h
 split at h
 .cases h
 split at h
 .cases h
 split at h
 .cases h
 split at h
 .cases h
 split at h
 .cases h
 rename_i hq;split at h
 .cases h;intro p hp;obtain⟨ws,_,h1⟩:=oH hq p hp;exact FV h1
 .cases h
noncomputable def NW(k:Int):List Int->Option Int
 |a::b::r=>if a=k then some b else NW k r
 |_=>none
theorem Pn:∀l:List Int,(∀x∈l,0<=x)->((Money.on (PoolNeutral.pairs l) n:Nat):Int)=(NW (n:Int) l).getD 0
 |[],_=>by rfl|[x],_=>by rfl
 |a::b::r,h=>by
  have ih:=Pn (n:=n) r (λz hz=>h z (by simp[hz]));have ha:=h a ∅;have hb:=h b ∅;show((Money.on ((a.toNat,b.toNat)::PoolNeutral.pairs r) n:Nat):Int)=(if a=(n:Int)then some b else NW n r).getD 0;unfold Money.on at ih⊢;by_cases e:a=(n:Int)
  .rw[ah e,find?_cons_of_pos (by simp[e])];show((b.toNat:Nat):Int)=b;omega
  .rw[af e,find?_cons_of_neg (by simp;omega)];exact ih
end Pd
end
section
namespace L2
open PySem PySem.Spec PyProof.Rows
def adt{us:List α}(h:us.length=0):us=[]:=length_eq_zero_iff.mp h
def MB{us:List α}(h:us.length=n+1):∃a r,us=a::r/\r.length=n:=by
 cases us with
 |nil=>cases h
 |cons a r=>exact⟨a,r,rfl,Nat.succ.inj h⟩
def oI{us:List α}(h:us.length=1):∃a,us=[a]:=by
 obtain⟨a,r,e,h⟩:=MB h;rw[e,adt h];exact⟨a,rfl⟩
def lT{us:List α}(h:us.length=2):∃a b,us=[a,b]:=by
 obtain⟨a,r,e,h⟩:=MB h;obtain⟨b,q⟩:=oI h;exact⟨a,b,by rw[e,q]⟩
def FY{us:List α}(h:us.length=3):∃a b c,us=[a,b,c]:=by
 obtain⟨a,r,e,h⟩:=MB h;obtain⟨b,c,q⟩:=lT h;exact⟨a,b,c,by rw[e,q]⟩
def Tj{us:List α}(h:us.length=4):∃a b c d,us=[a,b,c,d]:=by
 obtain⟨a,r,e,h⟩:=MB h;obtain⟨b,c,d,q⟩:=FY h;exact⟨a,b,c,d,by rw[e,q]⟩
def aan{us:List α}(h:us.length=5):∃a b c d x,us=[a,b,c,d,x]:=by
 obtain⟨a,r,e,h⟩:=MB h;obtain⟨b,c,d,x,q⟩:=Tj h;exact⟨a,b,c,d,x,by rw[e,q]⟩
def adu{us:List α}(h:us.length=6):∃a b c d x y,us=[a,b,c,d,x,y]:=by
 obtain⟨a,r,e,h⟩:=MB h;obtain⟨b,c,d,x,y,q⟩:=aan h;exact⟨a,b,c,d,x,y,by rw[e,q]⟩
structure Def(K:PySem.W.Frag)(mg:Str->Option Value)(x:Str)(st:Stmt)(ps:List Str):Prop where
 ex:∃f fd,mg x=some (.ref f)/\Ko K x x st f fd/\Binds K fd ps []
structure Ok(P:Program)(w:World)(K:PySem.W.Frag)(mg:Str->Option Value)(base:Heap)(CX:NT)(k:Nat)(x:Str)(ps:List Str)(sp:Sp):Prop where
 ex:∃f fd,n9 P w K mg base CX k f fd ps sp/\mg x=some (.ref f)/\PySem.W.keepIn K (.ref f)=true/\Binds K fd ps []
section
variable {k:Nat}
theorem Def.ok(D:Def K mg x st ps)(S:aC N ps (ao st))(len:∀vs H Q E,sp vs H Q E->vs.length=ps.length)(gq:∀f b8 A outer s H vs Q E,dX k (A.deeper (envOfC x (ao st) s.heap.objs.size f b8))->sp vs H Q E->
   ∃t,vM (j5 eJ P w K mg base N x (ao st) f b8 A outer s H E).NR (cj st) t/\t {nx:=λ_ H'=>Q .cT H',rt:=Q} (start N vs) H):Ok P w K mg base eJ (k+1) x ps sp:=by
 obtain⟨f,fd,hm,F,B⟩:=D.ex;exact⟨f,fd,F.ok S len (gq f),hm,F.kp,B⟩
theorem Def.BL(D:Def K mg x st ps)(S:aC N ps (ao st))(len:∀vs H Q E,sp vs H Q E->vs.length=ps.length)(gq:∀f b8 A outer s H vs Q E,dX k (A.deeper (envOfC x (ao st) s.heap.objs.size f b8))->sp vs H Q E->
   ∃t,vM (j5 (fT P w) P w K mg base N x (ao st) f b8 A outer s H E) (cj st) t/\t {nx:=λ_ H'=>Q .cT H',rt:=Q} (start N vs) H):Ok P w K mg base (fT P w) (k+1) x ps sp:=by
 obtain⟨f,fd,hm,F,B⟩:=D.ex;exact⟨f,fd,F.BL S len (gq f),hm,F.kp,B⟩
theorem Def.ok0(D:Def K mg x st ps)(S:aC N ps (ao st))(len:∀vs H Q E,sp vs H Q E->vs.length=ps.length)(gq:∀f b8 A outer s H vs Q E,dX k (A.deeper (envOfC x (ao st) s.heap.objs.size f b8))->sp vs H Q E->
   ∃t,Dj (j5 eJ P w K mg base N x (ao st) f b8 A outer s H E).NR (cj st) t/\t {nx:=λ_ H'=>Q .cT H',rt:=Q} (start N vs) H):Ok P w K mg base eJ (k+1) x ps sp:=by
 obtain⟨f,fd,hm,F,B⟩:=D.ex;exact⟨f,fd,F.ok0 S len (gq f),hm,F.kp,B⟩
end
section
variable {p:Pos}
def ax{k:Nat}{E:XK}{es:List Expr}{t:TA}(G:Ok X.prog X.w X.K X.mg X.base CX k x ps sp)(hr:dX k X.A)(hg:Gl X x)(hx:Passes CX X E)(ha:PA X (e::es) t)(CZ:(x==("__debug__":Str))=false:=by decide)(he:starEach (e::es) X.env=(false,eval e X.env)::starEach es X.env:=by rfl)(iz:(backTo pos (starEach es X.env)).any (·.1)=false:=by rfl):
  PE X (.Call (.Name x p) (e::es) [] pos) (Bp sp [] E t):=by
 obtain⟨f,fd,F,a,b,c⟩:=G.ex;exact SH F hr hg a b c .nil hx ha CZ he iz
structure CL(P:Program)(w:World)(K:PySem.W.Frag)(mg:Str->Option Value)(base:Heap)(x:Str)(C:Addr)(ps:List Str)(sp:Sp)(fs:List Str):Prop where
 ex:∃f fd,Mk K C f/\n9 P w K mg base eJ 1 f fd ps sp/\Binds K fd ps []
 mg:mg x=some (.ref C)
 cl:Fh K C
 no:∀f∈fs,cD K C f
def Vl{C:Addr}{fs:List Str}{es:List Expr}{t:TA}(G:CL X.prog X.w X.K X.mg X.base x C ps sp fs)(hr:dX 2 X.A)(hg:Gl X x)(ha:PA X (e::es) t)(CZ:(x==("__debug__":Str))=false:=by decide)(he:starEach (e::es) X.env=(false,eval e X.env)::starEach es X.env:=by rfl)(iz:(backTo pos (starEach es X.env)).any (·.1)=false:=by rfl):
  PE X (.Call (.Name x p) (e::es) [] pos) (Bq C sp [] E0 t):=by
 obtain⟨f,fd,M,F,B⟩:=G.ex;exact SJ M F hr hg G.mg B .nil cp ha CZ he iz
theorem MC{a b A B:Prop} [Decidable a] [Decidable b]:(if a then(if b then A else B)else B)=(if a/\b then A else B):=by
 by_cases h:a<;>by_cases h':b<;>simp[h,h']
theorem FZ{a b A B:Prop} [Decidable a] [Decidable b]:(if a then A else(if b then A else B))=(if a\/b then A else B):=by
 by_cases h:a<;>by_cases h':b<;>simp[h,h']
def lU(mg:Str->Option Value)(x:Str)(n:Int):Prop:=∃t,mg x=some (.int n t)
def Tn(mg:Str->Option Value)(x:Str)(y:Str):Prop:=∃t,mg x=some (.str y t)
def cK{n:Int}(h:lU X.mg x n)(hg:Gl X x)(hd:(x==("__debug__":Str))=false:=by decide):PE X (.Name x pos) (tC (.int n)):=by
 obtain⟨t,e⟩:=h;exact CQ hg e ⟨t,rfl⟩ hd
def qi{y:Str}(h:Tn X.mg x y)(hg:Gl X x)(hd:(x==("__debug__":Str))=false:=by decide):PE X (.Name x pos) (tC (.str y)):=by
 obtain⟨t,e⟩:=h;exact CQ hg e ⟨t,rfl⟩ hd
def mX(h:X.mg x=some (.ref a))(hg:Gl X x)(hd:(x==("__debug__":Str))=false:=by decide):PE X (.Name x pos) (tC (.ref a)):=CQ hg h rfl hd
end
end L2
end
section
namespace L2
open PySem PySem.Spec PyProof.Rows
open Pd (cG lR vy)
section
variable {cd:Value} {outer:List Env} {E:XK}
theorem Pp:(j5 CX P w K mg base N qual scope f cd A outer s H E).K=K:=rfl
theorem Pq:(j5 CX P w K mg base N qual scope f cd A outer s H E).prog=P:=rfl
theorem Pr:(j5 CX P w K mg base N qual scope f cd A outer s H E).w=w:=rfl
end
theorem Vm{a b:Int}:CU (.int a) (.int b)=true:=rfl
theorem qM{a b:Str}:CU (.str a) (.str b)=true:=rfl
theorem Vn{a b:Bool}:CU (.bl a) (.bl b)=true:=rfl
theorem Vo{a:Int}{b:Str}:CU (.int a) (.str b)=true:=rfl
theorem Vp{a:Str}{b:Int}:CU (.str a) (.int b)=true:=rfl
theorem Xr{a b:Str}:HS (.str a) (.str b)=(a==b):=rfl
def aw.rfl':aw H H:=λ_ _ h=>h
def yO(D:Addr)(H H':Hp):Prop:=∀b o,b≠D->H b=some o->H' b=some o
def aw.new(h:H D=Option.none):aw H (upd H D o):=λb u e=>by
 rw[aF (bB e h)];exact e
def aw.lV(s:aw H H')(h:H D=Option.none):aw H (upd H' D o):=λb u e=>by
 rw[aF (bB e h)];exact s _ _ e
theorem yO.upd:yO D H (upd H D o):=λb u hb e=>by
 rw[aF hb];exact e
def aw.tup(e:aw H H')(h:jF K H a xs):jF K H' a xs:=by
 obtain(h|⟨o,h⟩)|h:=h
 .exact .inl (.inl (e _ _ h))
 .exact .inl (.inr ⟨o,e _ _ h⟩)
 .exact .inr h
theorem bw:∀{l:List α}{i}{x},l[i]?=some x->l.take (i+1)=l.take i++ [x]
 |[],i,x,h=>by simp at h
 |a::l,0,x,h=>by
  have e:=Option.some.inj h;subst e;rfl
 |a::l,i+1,x,h=>by
  have ih:=bw (i:=i) (x:=x) h;show a::l.take (i+1)=a::l.take i++ [x];rw[ih];rfl
def fz(rel:Hp->V->α->Prop)(us:List β) f
  (hlen:us.length=xs.length) (hz:xs.length<=sizeLine) (hD:H1 D=none) (hl:aJ K H1 a xs)
  (stab:∀H H' v z,yO D H H'->rel H v z->rel H' v z)
  (hs:∀(i:Nat) x u H',xs[i]?=some x->us[i]?=some u->aw H1 H'->(∃acc,H' D=some (.lst acc))->∀R:VK,(∀y H4 z,f u=some z->aw H' H4->rel H4 y z->R y H4)->te (σ.set j (some x)) H' R)
  (hd:∀H' ys zs,aw H1 H'->H' D=some (.lst ys)->cG f us=some zs->Paired (rel H') ys zs->Qd H'):
  ∃W:Nat->Nat->Hp->Prop,(∃m,W 0 m (upd H1 D (.lst [])))/\∀i m H,W i m H->
   ((Og K a).stop i H/\Qd H)\/((Og K a).go i H/\∃Nx:Hp->Prop,(∀H',Nx H'->∃m',m'<m/\W (i+1) m' H')/\∀x H',(Og K a).E1 i H x H'->ot j x (wipe σ [j]) H' λσ2 H2=>wipe σ2 [j]=wipe σ [j]/\Fs σ2 H2 λb H3=>
    if b=true then te σ2 H3 λy H4=>∃acc,H4 D=some (.lst acc)/\acc.length<sizeLine/\Nx (upd H4 D (.lst (acc++ [y])))else Nx H3):=by
 refine SV (λi H'=>aw H1 H'/\∃ys zs,H' D=some (.lst ys)/\cG f (us.take i)=some zs/\Paired (rel H') ys zs) ⟨aw.new hD,[],[],ak,rfl,.nil⟩ (λi H' _ h=>h.1.seq hl) ?_ ?_
 .rintro i x H' hx ⟨sm,ys,zs,iJ,hm,hp⟩;have hi:i<us.length:=by rw[hlen];exact(List.getElem?_eq_some_iff.mp hx).1
  obtain⟨u,hu⟩:∃u,us[i]?=some u:=⟨_,bg hi⟩;have hn:ys.length<sizeLine:=by
   have e1:=Paired.dQ hp;have e2:=Pd.gA hm;rw[e1,e2,cS,pF (iq hi)];omega
  refine⟨?_,?_⟩
  .show(((σ.set j none).set j (some x)).set j none)=σ.set j none;rw[pM,pM]
  .show te ((σ.set j none).set j (some x)) H' _;rw[pM];refine hs i x u H' hx hu sm ⟨ys,iJ⟩ _ λy H4 z hf s4 r4=>⟨ys,s4 _ _ iJ,hn,?_⟩;refine⟨λb o e=>?_,ys++ [y],zs++ [z],ak,?_,?_⟩
   .rw[aF (bB e hD)];exact s4 _ _ (sm _ _ e)
   .rw[bw hu,lR,hm];rw[hf]
   .refine j9 (Paired.fR hp λv z h=>stab H' _ v z (λb o hb e=>?_) h) (stab H4 _ y z yO.upd r4);rw[aF hb];exact s4 _ _ e
 .rintro H' ⟨sm,ys,zs,iJ,hm,hp⟩;rw[<-hlen,eM]at hm;exact hd H' ys zs sm iJ hm hp
def To{J:It}(rel:Hp->V->α->Prop)(us:List β) f
  (hlen:us.length=xs.length) (hz:xs.length<=sizeLine) (hD:H1 D=none) (hgo:∀i H',aw H1 H'->i<xs.length->J.go i H') (YR:∀i H' x H2,aw H1 H'->i<xs.length->J.E1 i H' x H2->H2=H'/\xs[i]?=some x) (pY:∀H',aw H1 H'->J.stop xs.length H')
  (stab:∀H H' v z,yO D H H'->rel H v z->rel H' v z)
  (hs:∀(i:Nat) x u H',xs[i]?=some x->us[i]?=some u->aw H1 H'->(∃acc,H' D=some (.lst acc))->∀R:VK,(∀y H4 z,f u=some z->aw H' H4->rel H4 y z->R y H4)->te (σ.set j (some x)) H' R)
  (hd:∀H' ys zs,aw H1 H'->H' D=some (.lst ys)->cG f us=some zs->Paired (rel H') ys zs->Qd H'):
  ∃W:Nat->Nat->Hp->Prop,(∃m,W 0 m (upd H1 D (.lst [])))/\∀i m H,W i m H->
   (J.stop i H/\Qd H)\/(J.go i H/\∃Nx:Hp->Prop,(∀H',Nx H'->∃m',m'<m/\W (i+1) m' H')/\∀x H',J.E1 i H x H'->ot j x (wipe σ [j]) H' λσ2 H2=>wipe σ2 [j]=wipe σ [j]/\Fs σ2 H2 λb H3=>
    if b=true then te σ2 H3 λy H4=>∃acc,H4 D=some (.lst acc)/\acc.length<sizeLine/\Nx (upd H4 D (.lst (acc++ [y])))else Nx H3):=by
 refine⟨λi m H'=>m=xs.length-i/\i<=xs.length/\aw H1 H'/\∃ys zs,H' D=some (.lst ys)/\cG f (us.take i)=some zs/\Paired (rel H') ys zs,⟨xs.length,by simp,cv _,aw.new hD,[],[],ak,rfl,.nil⟩,?_⟩;rintro i m H' ⟨rfl,hi0,sm,ys,zs,iJ,hm,hp⟩;by_cases eK:i<xs.length
 .refine .inr ⟨hgo i H' sm eK,λH'=>aw H1 H'/\∃ys zs,H' D=some (.lst ys)/\cG f (us.take (i+1))=some zs/\Paired (rel H') ys zs,λH' p'=>⟨xs.length-(i+1),by omega,rfl,eK,p'⟩,λx H2 y=>?_⟩;obtain⟨e,hx⟩:=YR i H' x H2 sm eK y;subst e;have hi:i<us.length:=by rw[hlen];exact(List.getElem?_eq_some_iff.mp hx).1
  obtain⟨u,hu⟩:∃u,us[i]?=some u:=⟨_,bg hi⟩;have hn:ys.length<sizeLine:=by
   have e1:=Paired.dQ hp;have e2:=Pd.gA hm;rw[e1,e2,cS,pF (iq hi)];omega
  refine⟨?_,?_⟩
  .show(((σ.set j none).set j (some x)).set j none)=σ.set j none;rw[pM,pM]
  .show te ((σ.set j none).set j (some x)) H2 _;rw[pM];refine hs i x u H2 hx hu sm ⟨ys,iJ⟩ _ λy H4 z hf s4 r4=>⟨ys,s4 _ _ iJ,hn,?_⟩;refine⟨λb o e=>?_,ys++ [y],zs++ [z],ak,?_,?_⟩
   .rw[aF (bB e hD)];exact s4 _ _ (sm _ _ e)
   .rw[bw hu,lR,hm];rw[hf]
   .refine j9 (Paired.fR hp λv z h=>stab H2 _ v z (λb o hb e=>?_) h) (stab H4 _ y z yO.upd r4);rw[aF hb];exact s4 _ _ e
 .have e:i=xs.length:=by omega
  subst e;rw[<-hlen,eM]at hm;exact .inl ⟨pY H' sm,hd H' ys zs sm iJ hm hp⟩
def MD{w:Str}(rel:Hp->V->α->Prop) f
  (hz:w.cps.size<=sizeLine) (hD:H1 D=none) (stab:∀H H' v z,yO D H H'->rel H v z->rel H' v z)
  (hs:∀c H',c∈w.cps.toList->aw H1 H'->(∃acc,H' D=some (.lst acc))->∀R:VK,(∀y H4 z,f c=some z->aw H' H4->rel H4 y z->R y H4)->te (σ.set j (some (.str ⟨#[c]⟩))) H' R)
  (hd:∀H' ys zs,aw H1 H'->H' D=some (.lst ys)->cG f w.cps.toList=some zs->Paired (rel H') ys zs->Qd H'):
  ∃W:Nat->Nat->Hp->Prop,(∃m,W 0 m (upd H1 D (.lst [])))/\∀i m H,W i m H->
   ((ZS w).stop i H/\Qd H)\/((ZS w).go i H/\∃Nx:Hp->Prop,(∀H',Nx H'->∃m',m'<m/\W (i+1) m' H')/\∀x H',(ZS w).E1 i H x H'->ot j x (wipe σ [j]) H' λσ2 H2=>wipe σ2 [j]=wipe σ [j]/\Fs σ2 H2 λb H3=>
    if b=true then te σ2 H3 λy H4=>∃acc,H4 D=some (.lst acc)/\acc.length<sizeLine/\Nx (upd H4 D (.lst (acc++ [y])))else Nx H3):=by
 refine To (xs:=w.cps.toList.map λc=>V.str ⟨#[c]⟩) rel w.cps.toList f ∅ ‹hz› hD (λi H' _ h=>?_) (λi H' x H2 _ h y=>?_) (λH' _=>?_) stab ?_ hd
 .show i<w.cps.size;simpa using h
 .obtain⟨e,c,hc,rfl⟩:=y;refine⟨e,?_⟩;rw[a_,dq,hc];rfl
 .show w.cps.size<=_;simp
 .intro i x u H' hx hu sm ha R k;rw[a_,hu]at hx;have e:=Option.some.inj hx;subst e;exact hs u H' (bh hu) sm ha R k
end L2
end
section
namespace Pd
open PySem PySem.Spec PyProof.Rows L2 TL
noncomputable abbrev S(w:List Nat):Str:=⟨w.toArray⟩
def aao x:S (tl x)=x:=by
 simp[S,tl]
def Xs w:tl (S w)=w:=by simp[S,tl]
theorem qN w:(S w).length=w.length:=by
 show(w.toArray).size=_;simp
theorem cO{v w:List Nat}:S v=S w↔v=w:=by
 constructor
 .intro h;rw[<-Xs v,h,Xs]
 .intro h;rw[h]
theorem BW:∀l:List (List Nat),BF [] l=l.flatten
 |[]=>rfl|[p]=>by simp[BF]
 |p::q::r=>by
  show p++([] ++BF [] (q::r))=_;rw[BW (q::r)];simp
def Iy l:Txt.join (Str.ofString "") (l.map λc=>S [c])=S l:=by
 rw[join_eq,<-aao (Str.join _ _),Kk,cO];have e:tl (Str.ofString "")=[]:=by decide+kernel
 rw[e,BW,ck]
 induction l with
 |nil=>rfl
 |cons c r ih=>
  rw[aP,mH,ih];show tl (S [c])++r=_;rfl
theorem Dr c:∀l acc:List Nat,vO [c] 0 acc l=cut c acc l
 |[],acc=>rfl
 |x::r,acc=>by
  show(if pre [c] (x::r)=true then acc::vO [c] ([c].length-1) [] r else vO [c] 0 (acc++ [x]) r)=if x=c then acc::cut c [] r else cut c (acc++ [x]) r
  have e:(pre [c] (x::r)=true)↔x=c:=by
   unfold pre;simp
  by_cases h:x=c
  .rw[ah h,ah (e.mpr h)];show acc::vO [c] 0 [] r=_;rw[Dr c r]
  .rw[af h,af (λz=>h (e.mp z)),Dr c r]
def uG{y:Str}(hy:tl y=[c])(hk:y.cps.all (·<256)=true) t:Txt.split (S t) y=(cut c [] t).map S:=by
 have e:=Ml (S t) y (by rw[hy];simp) (S5 hk);rw[hy,Xs,Dr]at e;rw[<-e,ck]
 conv=>lhs;rw[<-map_id (Txt.split (S t) y)]
 exact fQ λx _=>(aao x).symm
def Tp(w:List Nat):Prop:=w.length<=70000/\∀c∈w,c<128
def Vq n:sg n<128:=by
 unfold sg
 repeat' split
 all_goals omega
theorem yP:∀{l acc},(∀x∈l,x<128)->(∀x∈acc,x<128)->∀w∈cut c acc l,w.length<=acc.length+l.length/\∀x∈w,x<128
 |[],acc,_,ha,w,hw=>by
  have e:w=acc:=by simpa[cut]using hw
  subst e;exact⟨by simp,ha⟩
 |x::r,acc,hl,ha,w,hw=>by
  have hr:=λy hy=>hl y (bE _ hy);have hw:w∈(if x=c then acc::cut c [] r else cut c (acc++ [x]) r):=hw;split at hw
  .obtain e|hw:=mem_cons.mp hw
   .subst e;exact⟨by simp,ha⟩
   .have:=yP hr ∅ w hw;exact⟨by simp at this⊢;omega,this.2⟩
  .have:=yP hr (by
    intro y hy;obtain h|h:=mem_append.mp hy
    .exact ha y h
    .simp at h;subst h;exact hl y ∅) w hw
   exact⟨by simp at this⊢;omega,this.2⟩
theorem Ds:∀{l acc},cut c acc l≠ []
 |[],acc=>by simp[cut]
 |x::r,acc=>by
  show(if x=c then acc::cut c [] r else cut c (acc++ [x]) r)≠ [];split
  .simp
  .exact Ds
theorem qj{c:Nat}:∀{l acc:List Nat},(cut c acc l).length<=l.length+1
 |[],acc=>by simp[cut]
 |x::r,acc=>by
  show(if x=c then acc::cut c [] r else cut c (acc++ [x]) r).length<=_;split
  .have:=qj (c:=c) (l:=r) (acc:=[]);simp;omega
  .have:=qj (c:=c) (l:=r) (acc:=acc++ [x]);simp;omega
def bH:70010<=sizeLine:=by rw[cx];decide
theorem ME{w:List Nat}(h:∀c∈w,c<128):Txt.isdigit (S w)=(!w.isEmpty&&w.all cf):=by
 unfold Txt.isdigit;have e1:(decide ((S w).length>0))=!w.isEmpty:=by
  rw[qN];cases w<;>simp
 rw[e1];congr 1;show w.toArray.all Unicode.isDigit=_;rw[all_toArray];rw[gi,du,du];have e:∀c∈w,Unicode.isDigit c=cf c:=λc hc=>by
  rw[cls_isdigit c (h c hc)];have:∀c<128,inR 48 57 ⟨#[c]⟩=cf c:=by decide+kernel
  exact this c (h c hc)
 exact⟨λz c hc=>by rw[<-e c hc];exact z c hc,λz c hc=>by rw[e c hc];exact z c hc⟩
def aap{w:List Nat}(h:(!w.isEmpty&&w.all cf)=true)(hl:w.length<=4300):intText? (S w)=some (Dl w:Int):=by
 rw[bC]at h;have hd:NumText.AllDigits (S w).cps.toList:=λc hc=>by
  have hc:c∈w:=by simpa[S]using hc
  have:=all_eq_true.mp h.2 c hc;simp[cf]at this;exact this
 have e:=intText_digits (x:=S w) hd (λz=>by
  have z2:w=[]:=by simpa[S]using z
  rw[z2]at h;simp at h) (by rw[qN];exact hl)
 rw[e];congr 2;show NumText.digitsVal w.toArray.toList=_;rw[sH];unfold NumText.digitsVal Dl;have:(λ(acc c:Nat)=>acc*10+(c-48))=λn c=>10*n+(c-48):=by
  funext a c;omega
 first|rw[<-this]|(simp only[<-this])
end Pd
end
local macro_rules | `(tactic| simp? only [$[$xs:simpLemma],*]) => `(tactic| ((try dsimp only [length_cons, length_nil, Nat.reduceAdd, Nat.reduceSub, Nat.sub_self, L2.V3, L2.V4, L2.V5, L2.V6, L2.N8, L2.Sv, L2.V2, L2.Fc, L2.pW, L2.Vm, L2.qM, L2.Vn, L2.Vo, L2.Vp, L2.Sx, L2.Bq, L2.Pp, L2.Pq, L2.Pr, L2.Wz, L2.ZG, L2.C8, L2.OG, L2.Wn, L2.ipI, L2.O1, L2.HK, L2.tSl, L2.Ou, L2.C2, L2.WC, L2.SR, L2.Ih, L2.V9, L2.tOr, L2.tM0, L2.Z3, L2.Wi, L2.Bo, L2.tB, L2.CV, L2.tCB, L2.vj, L2.HQ, L2.tC, L2.xY, L2.Sz, L2.tUn, L2.rU, L2.Oh, L2.rI, L2.U9, L2.rNe, L2.Wg, L2.U7, L2.Ob, L2.Od, L2.ot, L2.Bp, L2.N_, L2.Wb, L2.U6, L2.V_, L2.start, List.map, List.replicate, cons_append, nil_append, getElem?_cons_zero, getElem?_cons_succ, set_cons_zero, set_cons_succ, $[$xs:simpLemma],*]); (try simp only [L2.kK, L2.HI, L2.uk, L2.CP, L2.xX, L2.xW, L2.fD, L2.kJ, L2.HH, L2.Sx, L2.Bq, L2.Pp, L2.Pq, L2.Pr, L2.Wz, L2.ZG, L2.C8, L2.OG, L2.Wn, L2.ipI, L2.O1, L2.HK, L2.tSl, L2.Ou, L2.C2, L2.WC, L2.SR, L2.Ih, L2.V9, L2.tOr, L2.tM0, L2.Z3, L2.Wi, L2.Bo, L2.tB, L2.CV, L2.tCB, L2.vj, L2.HQ, L2.tC, L2.xY, L2.Sz, L2.tUn, L2.rU, L2.Oh, L2.rI, L2.U9, L2.rNe, L2.Vm, L2.qM, L2.Vn, L2.Vo, L2.Vp, L2.Wg, L2.U7, L2.Ob, L2.Od, L2.ot, L2.Bp, L2.N_, L2.Wb, L2.U6, L2.V_, L2.start, List.map, List.replicate, length_cons, length_nil, Nat.sub_self, Nat.reduceAdd, Nat.reduceSub, cons_append, nil_append, append_nil, getElem?_cons_zero, getElem?_cons_succ, set_cons_zero, set_cons_succ, Option.some.injEq, L2.V.int.injEq, L2.V.str.injEq, L2.V.bl.injEq, L2.V.ref.injEq, List.cons.injEq, exists_and_left, exists_and_right, exists_eq_left, exists_eq_left', exists_eq_right, exists_eq, true_and, and_true, exists_eq_right_right, decide_eq_true_eq, Bool.not_eq_true', decide_eq_false_iff_not, Bool.and_eq_true, L2.MC, L2.FZ, Int.cast_ofNat_Int, Int.natCast_add, Classical.not_not, Bool.false_eq_true, ↓reduceIte, $[$xs:simpLemma],*])))
local macro_rules | `(tactic| ac_nf) => `(tactic| exact ⟨rfl, rfl, rfl, by decide +kernel, rfl, by decide +kernel, by decide +kernel⟩)
section
namespace Pd
open PySem PySem.Spec PyProof.Rows L2 TL
noncomputable def top(i:Nat):Stmt:=PySem.Challenge.pw_poolday_s07_bet.main.body.getD i (.Pass ⟨0,0,0,0⟩)
noncomputable abbrev KA:Stmt:=top 24
structure Tx(mg:Str->Option Value):Prop where
 gD:lU mg "MOST_PAIRS" 262144
 gE:lU mg "MOST_CENTS" 281474976710655
 h_:Tn mg "LETTERS" "abcdefghijklmnopqrstuvwxyz"
 lW:Tn mg "DIGITS" "0123456789"
 lX:Tn mg "STRANGE" "?"
 di:lU mg "MOST_NAME_BYTES" 12
 fG:lU mg "MOST_DIGITS" 7
 gF:lU mg "MOST_STAKE" 1000000
 fH:lU mg "MOST_STAKED" 2147483647
 d7:lU mg "MOST_NUMBERED" 262144
 fI:lU mg "LEAST_WORDS" 6
 gG:lU mg "MOST_RACES" 16
 gH:lU mg "MOST_POOLS" 64
 d8:lU mg "LEAST_RUNNERS" 2
 eY:lU mg "MOST_RUNNERS" 24
 eZ:lU mg "MOST_COUPLES" 8
 iK:lU mg "MOST_TAKE" 400
 gI:lU mg "MOST_BREAK" 1000
 iL:lU mg "MOST_UNIT" 10000
 fJ:lU mg "POOL_LENGTH" 16
 dj:lU mg "MOST_CARD_BYTES" 65536
 dN:lU mg "MOST_BET_BYTES" 4096
 tL:mg "all"=none
 yQ:mg "dict"=none
 f9:mg "enumerate"=none
 F0:mg "int"=none
 b_:mg "len"=none
 qO:mg "ord"=none
 gJ:mg "range"=none
 BX:mg "set"=none
 jL:mg "sorted"=none
 BZ:mg "sum"=none
 tM:mg "tuple"=none
 yR:mg "zip"=none
section
def Pt:Sp:=λvs H Q _=>∃n:Int,vs=[.int n]/\0<=n/\n<=255/\Q (.str (S [sg n.toNat])) H
def Xt:aC ["byte"] ["byte"] (ao KA):=by ac_nf
def Iz(h:n<26):("abcdefghijklmnopqrstuvwxyz":Str).cps[n]?=some (97+n):=by
 have:∀n<26,("abcdefghijklmnopqrstuvwxyz":Str).cps[n]?=some (97+n):=by decide+kernel
 exact this n h
def MF(h:n<10):("0123456789":Str).cps[n]?=some (48+n):=by
 have:∀n<10,("0123456789":Str).cps[n]?=some (48+n):=by decide+kernel
 exact this n h
theorem c_a:(Str.ofString "a").cps.getD 0 0=97/\(Str.ofString "a").length=1:=by decide+kernel
theorem c_z:(Str.ofString "z").cps.getD 0 0=122/\(Str.ofString "z").length=1:=by decide+kernel
theorem c_0:(Str.ofString "0").cps.getD 0 0=48/\(Str.ofString "0").length=1:=by decide+kernel
theorem c_9:(Str.ofString "9").cps.getD 0 0=57/\(Str.ofString "9").length=1:=by decide+kernel
theorem MG:(Str.ofString "abcdefghijklmnopqrstuvwxyz").length=26:=by decide+kernel
theorem Pu:(Str.ofString "0123456789").length=10:=by decide+kernel
noncomputable def MK:List (Int×List Nat):=[(32,[32]),(10,[10]),(44,[44]),(47,[47])]
def Xu:∀n:Nat,n<256->¬(97<=n/\n<=122)->¬(48<=n/\n<=57)->((MK.find? λq=>decide (q.1=(n:Int))).map (·.2)).getD [63]=[sg n]:=by decide+kernel
theorem mk_val:∀(l:List (Int×List Nat)) n,eQ (l.map λp=>((Sum.inl p.1:Key),V.str (S p.2))) (Sum.inl n)=((l.find? λq=>decide (q.1=n)).map (·.2)).map λw=>V.str (S w)
 |[],_=>rfl
 |q::l,n=>by
  rw[aP,J0];by_cases h:q.1=n
  .rw[cy (by rw[h]),g_ h];rfl
  .rw[cz (λz=>h (Sum.inl.inj z)),cR h,mk_val l n]
def aaq n (hn:0<=n) (h25:n<=255) (h1:¬(97<=n/\n<=122)) (h2:¬(48<=n/\n<=57)):(eQ (MK.map λp=>((Sum.inl p.1:Key),V.str (S p.2))) (Sum.inl n)).getD (.str "?")=.str (S [sg n.toNat]):=by
 have eq:("?":Str)=S [63]:=by decide+kernel
 have h:=Xu n.toNat () () ();rw[wo hn]at h;rw[mk_val,eq,<-h];cases(MK.find? λq=>decide (q.1=n)).map (·.2)<;>rfl
def Tq(D:Def K mg "sign_of" KA ["byte"])(T:Tx mg)(TM:∃dm,mg "MARKS"=some (.ref dm)/\KD P w K dm (MK.map λp=>((Sum.inl p.1:Key),V.str (S p.2)))):Ok P w K mg base eJ 1 "sign_of" ["byte"] Pt:=by
 refine D.ok Xt (λvs H Q E h=>?_) (λf b8 A outer s H vs Q E hr h=>?_)
 .obtain⟨n,rfl,_⟩:=h;rfl
 .obtain⟨n,rfl,h0,h1,k⟩:=h;obtain⟨dm,Tr,kdm⟩:=TM;refine⟨_,(ag (cZ (yd jG jG (aB lG (by rfl) T.qO boot_ord (ae bo ai)) (pv 0) (aB lG (by rfl) T.qO boot_ord (ae bo ai))) (au (aI (ke (qi T.h_ rfl) (bO gn (pv 0) (aB lG (by rfl) T.qO boot_ord (ae bo ai))) (λ_ _=>rfl)))) bD) (ag (cZ (yd jG jG (aB lG (by rfl) T.qO boot_ord (ae bo ai)) (pv 0) (aB lG (by rfl) T.qO boot_ord (ae bo ai))) (au (aI (ke (qi T.lW rfl) (bO gn (pv 0) (aB lG (by rfl) T.qO boot_ord (ae bo ai))) (λ_ _=>rfl)))) bD) (au (aI (O3 (mX Tr rfl) (pv 0) (qi T.lX rfl) ⟨rfl,rfl,rfl,rfl⟩))))),?_⟩;simp? only[c_a,c_z,MG];have en:(n.toNat:Int)=n:=wo h0;refine bj (λa=>?_) (λa=>?_)
  .refine⟨by omega,by omega,by omega,97+(n-97).toNat,Iz (),?_⟩;have e:sg n.toNat=97+(n-97).toNat:=by unfold sg;rw[ah ()];omega
   rw[<-e];exact k
  simp? only[bS,c_0,c_9,Pu];refine bj (λb=>?_) (λb=>?_)
  .refine⟨by omega,by omega,by omega,48+(n-48).toNat,MF (),?_⟩;have e:sg n.toNat=48+(n-48).toNat:=by unfold sg;rw[af (),ah ()];omega
   rw[<-e];exact k
  refine⟨dm,_,rfl,kdm,Sum.inl n,rfl,?_⟩;rw[aaq n h0 h1 () ()];exact k
end
noncomputable abbrev F5:Stmt:=top 25
noncomputable abbrev yS:Stmt:=top 26
noncomputable abbrev F6:Stmt:=top 27
noncomputable abbrev xg:Stmt:=top 28
section
def IA(K:PySem.W.Frag):Sp:=λvs H Q _=>∃(a:Addr) (ns:List Int),vs=[.ref a]/\aJ K H a (ns.map V.int)/\(∀n∈ns,0<=n/\n<=255)/\ns.length<=66000/\∀H',aw H H'->Q (.str (S (ns.map λn=>sg n.toNat))) H'
def IB:aC ["codes","byte"] ["codes"] (ao F5):=by ac_nf
theorem cP{f:α->β}:∀l:List α,cG (λa=>some (f a)) l=some (l.map f)
 |[]=>rfl
 |a::l=>by
  show(match cG (λa=>some (f a)) l with|none=>none|some ys=>some (f a::ys))=_;rw[cP l];rfl
def uH{f:α->V}:∀{ys}{zs},Paired (λv z=>v=f z) ys zs->ys=zs.map f:=by
 intro ys zs h
 induction h with
 |nil=>rfl|cons e _ ih=>rw[e,ih];rfl
def Ts(D:Def K mg "text_of" F5 ["codes"])(G1:Ok P w K mg base eJ 1 "sign_of" ["byte"] Pt):Ok P w K mg base eJ 2 "text_of" ["codes"] (IA K):=by
 refine D.ok IB (λvs H Q E h=>?_) (λf b8 A outer s H vs Q E hr h=>?_)
 .obtain⟨a,ns,rfl,_⟩:=h;rfl
 .obtain⟨a,ns,rfl,hS,hb,hl,k⟩:=h;refine⟨_,au (aI (S8 bo (fU (own:=[("byte",1)]) rfl IB.nd (bY (pv 0)) (bL (N:=["codes","byte"]) (sc:=ao F5) (by decide+kernel)) (λ_ _ _ _ _=>aT (i:=1) IB.nd rfl (Or.inl rfl)) (λ_ _ _ _ _=>da)
   (λ_ _ _ _ _=>ax G1 hr rfl cp (ae (pv 1) ai))))),?_⟩
  refine⟨a,rfl,⟨_,hS⟩,λL hL=>?_⟩;refine fz (xs:=ns.map V.int) (λH v (z:Nat)=>v=.str (S [z])) ns (λn=>some (sg n.toNat)) ∅ (by rw[az];exact aW hl (by have:=bH;omega)) hL hS (λ_ _ _ _ _ h=>h) ?_ ?_
  .intro i x u H' hx hu sm _ R k2;have e:x=.int u:=by rw[a_,hu]at hx;exact(Option.some.inj hx).symm
   subst e;have hm:=hb u (bh hu);exact⟨u,rfl,hm.1,hm.2,k2 _ _ _ rfl (λ_ _ h=>h) rfl⟩
  .intro H' ys zs sm iJ hm hp;rw[cP]at hm;have e:=Option.some.inj hm;subst e;have e2:=uH (f:=λz=>V.str (S [z])) hp;subst e2;refine⟨_,L,(ns.map λn=>sg n.toNat).map λc=>S [c],rfl,rfl,.inl (aJ.of (by rw[iJ];simp only[map_map];rfl)),?_,?_⟩
   .have e3:∀l:List Nat,((l.map λc=>S [c]).map (·.length)).sum=l.length:=λl=>by
     induction l with
     |nil=>rfl
     |cons a r ih=>
      simp only[map_cons,sum_cons,length_cons,ih];show 1+r.length=_;omega
    have e4:(Str.ofString "").length=0:=by decide+kernel
    rw[e3,e4];simp;omega
   .rw[Iy];exact k _ sm
def Words(H:Hp)(a:Addr)(ws:List (List Nat)):Prop:=H a=some (.lst (ws.map λw=>V.str (S w)))/\ws≠ []/\ws.length<=70000/\∀w∈ws,Tp w
def F7(H:Hp)(L:Addr)(ls:List (List (List Nat))):Prop:=ls.length<=70000/\∃as,H L=some (.lst as)/\Paired (λv ws=>∃p,v=.ref p/\Words H p ws) as ls
def Words.same(h:Words H a ws)(s:aw H H'):Words H' a ws:=⟨s _ _ h.1,h.2⟩
theorem F7.same(h:F7 H a ls)(s:aw H H'):F7 H' a ls:=by
 obtain⟨h0,as,h1,h2⟩:=h;refine⟨h0,as,s _ _ h1,Paired.fR h2 λv ws adw=>?_⟩;obtain⟨p,e,q⟩:=adw;exact⟨p,e,q.same s⟩
def Dt:Sp:=λvs H Q _=>∃t:List Nat,vs=[.str (S t)]/\t.length<=66000/\(∀c∈t,c<128)/\
 match iX t with
 |none=>∀H',aw H H'->Q .cT H'|some ls=>∀H' L,aw H H'->F7 H' L ls->Q (.ref L) H'
def xi:aC ["text","lines","line"] ["text"] (ao yS):=by ac_nf
def aar:tl (Str.ofString "\n")=[10]/\(Str.ofString "\n").cps.all (·<256)=true:=by decide+kernel
def aas:tl (Str.ofString " ")=[32]/\(Str.ofString " ").cps.all (·<256)=true:=by decide+kernel
theorem KC:Str.ofString ""=S []:=by decide+kernel
def tN(f:α->β)(l:List α):(l.map f).dropLast=l.dropLast.map f:=by
 induction l with
 |nil=>rfl
 |cons a r ih=>cases r with
  |nil=>rfl|cons b r=>simp only[map_cons,List.dropLast]at ih⊢;rw[ih]
def Pw(D:Def K mg "lines_of" yS ["text"]):Ok P w K mg base eJ 2 "lines_of" ["text"] Dt:=by
 refine D.ok xi (λvs H Q E h=>?_) (λf b8 A outer s H vs Q E hr h=>?_)
 .obtain⟨a,rfl,_⟩:=h;rfl
 .obtain⟨t,rfl,hl,hc,k⟩:=h;refine⟨_,ag (aM (i:=1) xi.nd rfl (Or.inl rfl) (yo (pv 0) bo))
   (ag (cZ (bt Bm (WG we PySem.F.slot_list_pop PySem.F.type_list_pop WL (pv 1)) bo (aG _)) (au (aI xZ)) bD)
   (au (aI (fU (own:=[("line",2)]) rfl xi.nd (bY (pv 1)) (bL (N:=["text","lines","line"]) (sc:=ao yS) (by decide+kernel)) (λ_ _ _ _ _=>aT (i:=2) xi.nd rfl (Or.inl rfl)) (λ_ _ _ _ _=>da)
    (λ_ _ _ _ _=>yo (pv 2) bo))))),?_⟩
  have hz:=bH;refine⟨_,_,rfl,rfl,by decide+kernel,by rw[qN];omega,λp hp=>?_⟩;rw[uG aar.1 aar.2];obtain⟨c0,cs,ec⟩:∃init last,cut 10 [] t=init++ [last]:=⟨_,_,(dropLast_concat_getLast Ds).symm⟩;have eL:iX t=if cs=[]then some (c0.map (cut 32 []))else none:=by
   unfold iX;rw[ec];simp
  rw[eL]at k;have aat:(((cut 10 [] t).map S).map V.str)[(((cut 10 [] t).map S).map V.str).length-1]?=some (.str (S cs)):=by
   rw[ec];simp
  have yT:=yP (c:=10) (acc:=[]) hc ∅;have AF:=qj (c:=10) (acc:=[]) (l:=t);rw[ec]at yT AF;refine⟨.inl ⟨rfl,_,aJ.of ak⟩,p,_,_,rfl,rfl,ak,aat,?_⟩;rw[iy,tN,tN,ec,dropLast_concat];have s1:aw H (upd H p (.lst ((c0.map S).map V.str))):=aw.new hp;rw[KC];simp only[tC,rNe,qM,pW,Fc,V.str.injEq,cO];by_cases he:cs=[]
  .rw[ah he]at k;simp only[he,decide_true,Bool.not_true,Bool.false_eq_true,if_false];refine⟨p,rfl,⟨_,aJ.of ak⟩,λL hL=>?_⟩;refine fz (xs:=(c0.map S).map V.str) (λH v (z:List (List Nat))=>∃q,v=.ref q/\q≠L/\Words H q z) c0 (λc=>some (cut 32 [] c)) ∅ (by simp at AF⊢;omega) hL (aJ.of ak) ?_ ?_ ?_
   .rintro H1 H2 v z sb ⟨q,e,n,h1,h2⟩;exact⟨q,e,n,sb _ _ n h1,h2⟩
   .intro i x u H' hx hu sm oJ R k2;have e:x=.str (S u):=by
     rw[a_,a_,hu]at hx;exact(Option.some.inj hx).symm
    subst e;have hm:=yT u (wL _ (bh hu));have Px:=yP (c:=32) (acc:=[]) hm.2 ∅;have NX:=qj (c:=32) (acc:=[]) (l:=u);simp at hm;refine⟨_,_,rfl,rfl,by decide+kernel,by rw[qN];omega,λq hq=>?_⟩;rw[uG aas.1 aas.2];obtain⟨acc,oJ⟩:=oJ;refine k2 _ _ _ rfl (aw.new hq) ⟨q,rfl,λz=>(by rw[z,oJ]at hq;cases hq),by rw[ak,ck];rfl,Ds,by omega,λw hw=>?_⟩;have:=Px w hw;simp at this;exact⟨by omega,this.2⟩
   .intro H' ys zs sm iJ hm hp';rw[cP]at hm;have e:=Option.some.inj hm;subst e;refine k H' L (s1.trans sm) ⟨by simp at AF⊢;omega,ys,iJ,Paired.fR hp' λv ws ⟨q,e,_,h⟩=>⟨q,e,h⟩⟩
  .rw[af he]at k;simp only[he,decide_false,Bool.not_false,if_true];exact k _ s1
end
section
def Du:Sp:=λvs H Q _=>∃t:List Nat,vs=[.str (S t)]/\Tp t/\∀H',aw H H'->Q (.bl (jb t)) H'
def IC:aC ["word","sign"] ["word"] (ao F6):=by ac_nf
def lY:bootBuiltins "all"=some (.builtin "all"):=by decide+kernel
theorem vA c:(c∈(Str.ofString "abcdefghijklmnopqrstuvwxyz").cps.toList)↔isLet c=true:=by
 have e:(Str.ofString "abcdefghijklmnopqrstuvwxyz").cps.toList=(List.range 26).map (97+·):=by decide+kernel
 rw[e];simp[isLet];constructor
 .omega
 .intro h;exact⟨c-97,by omega,by omega⟩
theorem IE c:(c∈(Str.ofString "0123456789").cps.toList)↔cf c=true:=by
 have e:(Str.ofString "0123456789").cps.toList=(List.range 10).map (48+·):=by decide+kernel
 rw[e];simp[cf];constructor
 .rintro⟨a,h,rfl⟩;omega
 .intro h;exact⟨c-48,by omega,by omega⟩
def Tt(D:Def K mg "is_name" F6 ["word"])(T:Tx mg):Ok P w K mg base eJ 2 "is_name" ["word"] Du:=by
 refine D.ok IC (λvs H Q E h=>?_) (λf b8 A outer s H vs Q E hr h=>?_)
 .obtain⟨a,rfl,_⟩:=h;rfl
 .obtain⟨t,rfl,ht,k⟩:=h;refine⟨_,ag (cZ (PW.pt (U5 (bt cC (pv 0) bo (aG _)) (N9 (bt yb (aB tq (by rfl) T.b_ bF (ae (pv 0) ai)) (cK T.di rfl) (aG _))))) (au (aI qH)) bD)
   (ag (cZ (bt AI (ke (pv 0) aq (λ_ _=>rfl)) (qi T.h_ rfl) rfl) (au (aI qH)) bD)
   (au (aI (aB (lP rfl) (by rfl) T.tL lY (ae (fU (own:=[("sign",1)]) rfl IC.nd (W2 (pv 0)) (bL (N:=["word","sign"]) (sc:=ao F6) (by decide+kernel)) (λ_ _ _ _ _=>aT (i:=1) IC.nd rfl (Or.inl rfl)) (λ_ _ _ _ _=>da)
    (λ_ _ _ _ _=>J3 (aU yp (pv 1) (qi T.h_ rfl) rfl) (iV (aU yp (pv 1) (qi T.lW rfl) rfl)))) ai))))),?_⟩
  have hz:=bH;have hl:=ht.1;simp? only[KC,cO,qN];refine bj (λa=>?_) (λa=>?_)
  .subst a;exact k _ (λ_ _ h=>h)
  refine⟨by omega,bj (λb=>?_) (λb=>?_)⟩
  .have e:jb t=false:=by
    unfold jb;rw[cR (show¬t.length<=12 by omega)];simp
   rw[e]at k;exact k _ (λ_ _ h=>h)
  obtain⟨c,r,rfl⟩:=exists_cons_of_ne_nil a;simp? only[bS,qN];refine⟨by omega,by omega,by omega,c,rfl,c,rfl,?_⟩;simp only[vA];refine bj (λd=>?_) (λd=>?_)
  .have e:jb (c::r)=false:=by
    unfold jb;simp only[head?_cons,Option.map_some,Option.getD_some];rw[show isLet c=false by simpa using d];simp
   rw[e]at k;exact k _ (λ_ _ h=>h)
  have d:isLet c=true:=Classical.not_not.mp d;refine⟨_,rfl,λL hL=>?_⟩;refine MD (w:=S (c::r)) (λH v (z:Bool)=>v=.bl z) (λc=>some (isLet c||cf c)) (by show(c::r).toArray.size<=_;rw[cI];omega) hL (λ_ _ _ _ _ h=>h) ?_ ?_
  .intro c' H' U4 sm _ R k2;simp? only[vA,IE];refine⟨c',rfl,?_⟩;refine bj (λd=>?_) (λd=>?_)
   .exact k2 _ _ _ rfl (λ_ _ h=>h) (by rw[d];rfl)
   .refine⟨c',rfl,k2 _ _ _ rfl (λ_ _ h=>h) ?_⟩;rw[show isLet c'=false by simpa using d];simp
  .intro H' ys zs sm iJ hm hp;rw[cP]at hm;have e:=Option.some.inj hm;subst e;have e2:=uH (f:=λz=>V.bl z) hp;subst e2;refine⟨L,rfl,_,aJ.of iJ,?_⟩;have e:jb (c::r)=(((S (c::r)).cps.toList.map λc=>isLet c||cf c).all id):=by
    unfold jb;rw[g_ (show(c::r).length<=12 by omega)];simp only[head?_cons,Option.map_some,Option.getD_some,d,isEmpty_cons,Bool.not_false,Bool.true_and];show _=(((c::r).toArray.toList.map λc=>isLet c||cf c).all id);rw[sH,List.all_map];rfl
   rw[<-e];exact k _ sm
def iM:Sp:=λvs H Q _=>∃t:List Nat,vs=[.str (S t)]/\Tp t/\Q (.int (dv t)) H
def Py:aC ["word"] ["word"] (ao xg):=by ac_nf
def Xv:Str.ofString "0"=S [48]:=by decide+kernel
def MH(D:Def K mg "number_of" xg ["word"])(T:Tx mg):Ok P w K mg base eJ 1 "number_of" ["word"] iM:=by
 refine D.ok Py (λvs H Q E h=>?_) (λf b8 A outer s H vs Q E hr h=>?_)
 .obtain⟨a,rfl,_⟩:=h;rfl
 .obtain⟨t,rfl,ht,k⟩:=h;refine⟨_,ag (cZ (bt yb (aB tq (by rfl) T.b_ bF (ae (pv 0) ai)) (cK T.fG rfl) (aG _)) (au (aI (qI kM aq))) bD)
   (ag (cZ (x5 (um (Z4 PySem.F.slot_str_isdigit PySem.F.type_str_isdigit Ic (pv 0)))) (au (aI (qI kM aq))) bD)
   (ag (cZ (PW.pt (Wa (bt cC (ke (pv 0) aq (λ_ _=>rfl)) bo (aG _)) (Sw (bt Bm (pv 0) bo (aG _))))) (au (aI (qI kM aq))) bD)
   (au (aI (Bv Dg (by rfl) T.F0 boot_int (ae (pv 0) ai)))))),?_⟩
  have hz:=bH;have hl:=ht.1;simp? only[qN];refine⟨by omega,bj (λa=>?_) (λa=>?_)⟩
  .have e:dv t= -1:=by unfold dv;rw[ah ()]
   rw[e]at k;exact k
  simp? only[bS,ME ht.2]
  try refine⟨⟨_,rfl⟩,?_⟩
  refine bj (λb=>?_) (λb=>?_)
  .have e:dv t= -1:=by unfold dv;rw[af (),ah b]
   rw[e]at k;exact k
  have b2:(!t.isEmpty&&t.all cf)=true:=by
   cases q:(!t.isEmpty&&t.all cf)with
   |true=>rfl|false=>exact absurd q b
  obtain⟨c,r,rfl⟩:∃c r,t=c::r:=by
   cases t with
   |nil=>simp at b2|cons c r=>exact⟨c,r,rfl⟩
  refine⟨by omega,by omega,by rw[qN];simp,c,rfl,?_⟩;have e1:((⟨#[c]⟩:Str)=Str.ofString "0"/\¬S (c::r)=Str.ofString "0")↔((c::r).head?=some 48/\(c::r)≠ [48]):=by
   rw[Xv,cO,cO];simp
  refine bj (λd=>?_) (λd=>?_)
  .have e:dv (c::r)= -1:=by unfold dv;rw[af (),af b,ah (e1.mp d)]
   rw[e]at k;exact k
  .have e:dv (c::r)=(Dl (c::r):Int):=by unfold dv;rw[af (),af b,af (λz=>d (e1.mpr z))]
   rw[e]at k;exact⟨_,aap b2 (),by rw[qN];omega,k⟩
end
noncomputable abbrev xj:Stmt:=top 64
noncomputable abbrev xl:Stmt:=top 65
noncomputable abbrev Tv:Stmt:=top 67
noncomputable abbrev Dv:Stmt:=top 68
structure Nc(K:PySem.W.Frag)(mg:Str->Option Value)(NC:Addr):Prop where
 mg:mg "NoCard"=some (.ref NC)
 ex:PySem.W.excIn K NC [.type "ValueError",.type "Exception",.type "BaseException",.type "object"] "ValueError.__new__"=true
section
def aD(NC:Addr):Sp:=λvs H Q E=>eD vs λb=>if b=true then Q .cT H else E (.ref NC) none H
def Pz:aC ["holds"] ["holds"] (ao xj):=by ac_nf
def MI(D:Def K mg "demand" xj ["holds"])(N:Nc K mg NC):Ok P w K mg base (fT P w) 1 "demand" ["holds"] (aD NC):=by
 refine D.BL Pz (λvs H Q E h=>?_) (λf b8 A outer s H vs Q E hr h=>?_)
 .obtain⟨a,rfl,_⟩:=xX.mp h;rfl
 .obtain⟨b,rfl,k⟩:=xX.mp h;refine⟨_,au (cZ (x5 (um (pv 0))) (au (FJ (E:=E) aH rfl rfl N.mg N.ex PySem.F.excBase_ValueError (ae bo ai))) bD),?_⟩;simp? only[bS];refine bj (λa=>?_) (λa=>?_)
  .subst a;exact⟨by have:=bH;omega,k⟩
  .cases b with
   |true=>exact k|false=>exact absurd rfl a
def tO(NC:Addr):Sp:=λvs H Q E=>∃(t:List Nat) (lo hi:Int),vs=[.str (S t),.int lo,.int hi]/\Tp t/\match within t lo hi with
 |some n=>Q (.int n) H|none=>E (.ref NC) none H
def F8:aC ["word","lowest","highest","number"] ["word","lowest","highest"] (ao xl):=by ac_nf
def MJ(D:Def K mg "number_within" xl ["word","lowest","highest"])(G1:Ok P w K mg base eJ 1 "number_of" ["word"] iM)(G2:Ok P w K mg base (fT P w) 1 "demand" ["holds"] (aD NC)):
  Ok P w K mg base (fT P w) 2 "number_within" ["word","lowest","highest"] (tO NC):=by
 refine D.BL F8 (λvs H Q E h=>?_) (λf b8 A outer s H vs Q E hr h=>?_)
 .obtain⟨a,lo,hi,rfl,_⟩:=h;rfl
 .obtain⟨t,lo,hi,rfl,ht,k⟩:=h;refine⟨_,ag (aM (i:=3) F8.nd rfl (Or.inl rfl) (ax G1 hr rfl cp (ae (pv 0) ai)))
   (ag (aS (ax (E:=E) G2 hr rfl (aX aH) (ae (yc jG jG (pv 1) (pv 3) (pv 2)) ai)))
   (au (aI (pv 3)))),?_⟩
  simp? only[bS,iM,aD];refine⟨t,rfl,ht,?_⟩;unfold within at k;refine bj (λa=>?_) (λa=>?_)
  .rw[ah a]at k;exact k
  .rw[af a]at k;exact k
def qk xs (k:Nat):lH xs (some (k:Int)) none=xs.drop k:=by
 unfold lH;rw[HT.C1,HT.Ot];by_cases h:k<=xs.length
 .rw[pF h,qX ∅]
 .rw[Nat.min_eq_right (),sA (i:=k) (),drop_length];simp
def F_ xs (i j:Nat):lH xs (some (i:Int)) (some (j:Int))=(xs.drop i).take (j-i):=by
 unfold lH;rw[HT.C1,HT.C1];by_cases h:i<=xs.length
 .rw[pF h];by_cases h2:j<=xs.length
  .rw[pF h2]
  .rw[Nat.min_eq_right (),qX ∅,qX (by simp;omega)]
 .rw[Nat.min_eq_right (show xs.length<=i by omega),sA (i:=i) (),drop_length];simp
theorem Words.at(h:Words H a ws){x:List Nat}(e:ws[i]?=some x):NU (ws.map λw=>V.str (S w)) (i:Int)=some (.str (S x))/\Tp x:=
 ⟨dG (by rw[a_,e];rfl),h.2.2.2 x (bh e)⟩
def Vr(NC:Addr):Sp:=λvs H Q E=>∃(a:Addr) (ws:List (List Nat)),vs=[.ref a]/\Words H a ws/\∀H',aw H H'->if vQ ws=true then Q .cT H' else E (.ref NC) none H'
def aau:aC ["words"] ["words"] (ao Tv):=by ac_nf
theorem aav:Str.ofString "day"=S Xl:=by decide+kernel
def Xw(D:Def K mg "check_day" Tv ["words"])(T:Tx mg)(G1:Ok P w K mg base eJ 2 "is_name" ["word"] Du)(G2:Ok P w K mg base (fT P w) 1 "demand" ["holds"] (aD NC)):
  Ok P w K mg base (fT P w) 3 "check_day" ["words"] (Vr NC):=by
 refine D.BL aau (λvs H Q E h=>?_) (λf b8 A outer s H vs Q E hr h=>?_)
 .obtain⟨a,ws,rfl,_⟩:=h;rfl
 .obtain⟨a,ws,rfl,hw,k⟩:=h;refine⟨_,au (aS (ax (E:=E) G2 (hr.mono ⋯) rfl (aX aH) (ae (kL (aU cC (aB aA (by rfl) T.b_ bF (ae (pv 0) ai)) aq (aG _))
   (kL (aU cC (bz aL (pv 0) aq (λ_ _=>rfl)) bo (aG _)) (iV (ax G1 hr rfl cp (ae (bz aL (pv 0) aq (λ_ _=>rfl)) ai))))) ai))),?_⟩
  simp? only[bS,Du,aD];refine⟨_,.inl (aJ.of hw.1),?_⟩;rw[az];have k0:=k H (λ_ _ h=>h);refine bj (λb=>?_) (λb=>?_)
  .have b:ws.length=2:=by omega
   obtain⟨w0,w1,rfl⟩:=FQ b;have a0:=hw.at (i:=0) rfl;have a1:=hw.at (i:=1) rfl;refine⟨_,aJ.of hw.1,_,a0.1,?_⟩;simp only[qM,V.str.injEq,aav,cO,true_and];refine bj (λc=>?_) (λc=>?_)
   .refine⟨_,aJ.of hw.1,_,a1.1,_,rfl,a1.2,λH' sm=>?_⟩;have e:vQ [w0,w1]=jb w1:=by
     unfold vQ;simp[c]
    have k1:=k H' sm;rw[e]at k1;exact k1
   .have e:vQ [w0,w1]=false:=by
     unfold vQ;simp[c]
    rw[e]at k0;exact k0
  .have e:vQ ws=false:=by
    unfold vQ;rw[cR ()];rfl
   rw[e]at k0;exact k0
def KG:Sp:=λvs H Q _=>∃(L:Addr) (d:List (List Nat)) (ls:List (List (List Nat))),vs=[.ref L]/\F7 H L (d::ls)/\∀H',aw H H'->Q (.int ((ls.takeWhile cY).length:Nat)) H'
def xo:aC ["lines","races","words"] ["lines"] (ao Dv):=by ac_nf
theorem Xx:Str.ofString "race"=S Ks:=by decide+kernel
theorem takeWhile_all{p:α->Bool}:∀{l:List α},(∀x∈l,p x=true)->l.takeWhile p=l
 |[],_=>rfl
 |a::l,h=>by
  rw[mC,ah (h a ∅),takeWhile_all λx hx=>h x (by simp[hx])]
theorem takeWhile_stop{p:α->Bool}:∀{l:List α}{i}{x},(∀y∈l.take i,p y=true)->l[i]?=some x->p x=false->(l.takeWhile p).length=i
 |[],i,x,_,h,_=>by simp at h
 |a::l,0,x,_,h,hp=>by
  have e:=Option.some.inj h;subst e;rw[mC,af (by rw[hp];exact b9)];rfl
 |a::l,i+1,x,h,hx,hp=>by
  rw[mC,ah (h a ∅),aY,takeWhile_stop (i:=i) (λy hy=>h y (by simp[hy])) ‹hx› hp]
def PB(D:Def K mg "count_races" Dv ["lines"]):Ok P w K mg base eJ 1 "count_races" ["lines"] KG:=by
 refine D.ok xo (λvs H Q E h=>?_) (λf b8 A outer s H vs Q E hr h=>?_)
 .obtain⟨a,d,ls,rfl,_⟩:=h;rfl
 .obtain⟨L,d,ls,rfl,hL,k⟩:=h;refine⟨_,ag (aM (i:=1) xo.nd rfl (Or.inl rfl) aq)
   (ag (fS iS rfl (bY (iH kg (pv 0) (iA aq) pZ)) (aT (i:=2) xo.nd rfl (Or.inl rfl))
    (ag (cZ (bt Bm (bz aL (pv 2) aq (λ_ _=>rfl)) bo (aG _)) (au Oa) bD)
    (au (x9 (i:=1) xo.nd rfl (Or.inl rfl) aq Oe))))
   (au (aI (pv 1)))),?_⟩
  obtain⟨hn,as,hA,hp⟩:=hL;cases hp with
  |@cons a0 d0 as ls0 h0 hp=>
  refine⟨_,aJ.of hA,λp YV=>?_⟩;rw[show((1:Int))=((1:Nat):Int)from rfl,qk];have s1:aw H (upd H p (.lst as)):=aw.new YV;have hlen:=Paired.dQ hp;refine⟨p,rfl,⟨_,aJ.of ak⟩,lE (K:=K) (a:=p) (xs:=as) (λi σ H'=>∃v:Option V,σ=[some (.ref L),some (.int i),v]/\aw (upd H p (.lst as)) H'/\∀y∈ls.take i,cY y=true)
   ⟨none,rfl,λ_ _ h=>h,by simp⟩ (λi σ H' _ ⟨_,_,s5,_⟩=>aJ.of (s5 _ _ ak)) ?_ ?_⟩
  .rintro i y σ H' hi ⟨v,rfl,s5,ha⟩;obtain⟨ws,PD,q,rfl,hw⟩:=Paired.at' hp hi;have hw:=(hw.same s1).same s5;obtain⟨w0,wr,rfl⟩:=exists_cons_of_ne_nil hw.2.1;have a0:=hw.at (i:=0) rfl;simp? only[];refine⟨_,aJ.of hw.1,_,a0.1,?_⟩;simp only[qM,V.str.injEq,Xx,cO,true_and];refine bj (λb=>?_) (λb=>?_)
   .have e:=takeWhile_stop ha PD (p:=cY) (by
     unfold cY;simpa using b)
    have k1:=k H' (s1.trans s5);rw[e]at k1;exact k1
   .refine⟨⟨_,rfl⟩,s5,λy hy=>?_⟩;rw[bw PD]at hy;obtain h|h:=mem_append.mp hy
    .exact ha y h
    .have e:y=w0::wr:=by simpa using h
     subst e;unfold cY;have b:w0=Ks:=Classical.not_not.mp b;simp[b]
  .rintro σ H' ⟨v,rfl,s5,ha⟩;refine ?_;rw[hlen,eM]at ha;have k1:=k H' (s1.trans s5);rw[takeWhile_all ha]at k1;rw[hlen];exact k1
end
noncomputable abbrev yU:Stmt:=top 69
def Ga(kvs:List (Key×V))(ks:List Int):Prop:=∀k:Int,(eQ kvs (Sum.inl k)).isSome=decide (k∈ks)
theorem Ga.put{ks:List Int}{h:Int}(x:Ga kvs ks):Ga (putK kvs (Sum.inl h) v) (ks++ [h]):=λk=>by
 rw[Fv];by_cases e:k=h
 .subst e;rw[ah rfl];simp
 .rw[af (λz=>e (Sum.inl.inj z)),x k];simp[e]
def yV [DecidableEq κ] {kvs:List (κ×V)} {k:κ} :(putK kvs k v).length<=kvs.length+1:=by
 unfold putK;split<;>simp
section
def adx(a dh df:Addr)(n:Int)(H:Hp)(ws:List (List Nat))(i:Nat)(σ:L2.St)(H':Hp):Prop:=∃(v4 v5 v6:Option V) (hs fs:List Int) (kh kf:List (Key×V)),
 σ=[some (.ref a),some (.int n),some (.ref dh),some (.ref df),v4,v5,v6,none]/\aw H H'/\H' dh=some (.dK kh)/\H' df=some (.dK kf)/\Ga kh hs/\Ga kf fs/\kh.length<=i/\kf.length<=i/\
  cA n [] [] (ws.drop 2)=cA n hs fs (ws.drop (2+3*i))
def Words.atZ(h:Words H a ws){z:Int}{x:List Nat}(ez:z=(i:Int))(e:ws[i]?=some x):NU (ws.map λw=>V.str (S w)) z=some (.str (S x))/\Tp x:=by
 rw[ez];exact h.at e
def aaw{l:List α}(h:j+2<l.length):∃a b c,l[j]?=some a/\l[j+1]?=some b/\l[j+2]?=some c/\l.drop j=a::b::c::l.drop (j+3):=by
 refine⟨l[j],l[j+1],l[j+2],bg _,bg _,bg _,?_⟩;rw[mv (show j<l.length by omega),mv (show j+1<l.length by omega),mv (show j+1+1<l.length by omega)]
def Gb n fs:fV (n+1) fs=if(1:Int)+(n:Int)∈fs then fV n fs else fV n fs++ [(1:Int)+(n:Int)]:=by
 unfold fV;rw[range_succ,ed,sN];simp only[map_cons,map_nil,filter_cons,filter_nil];by_cases h:(1:Int)+(n:Int)∈fs
 .simp[h]
 .simp[h]
def PF(NC:Addr):Sp:=λvs H Q E=>∃(a:Addr) (ws:List (List Nat)),vs=[.ref a]/\Words H a ws/\(∀r,gw ws=some r->∀H' b,aw H H'->H' b=some (.lst (r.map V.int))->H b=none->Q (.ref b) H')/\(gw ws=none->∀H',aw H H'->E (.ref NC) none H')
def mY:aC ["words","runners","heads","followers","at","head","follower","runner"] ["words"] (ao yU):=by ac_nf
theorem PH:Str.ofString "couple"=S xf:=by decide+kernel
def Tw(D:Def K mg "read_race" yU ["words"])(T:Tx mg)(aV:Ok P w K mg base (fT P w) 2 "number_within" ["word","lowest","highest"] (tO NC))(aZ:Ok P w K mg base (fT P w) 1 "demand" ["holds"] (aD NC)):
  Ok P w K mg base (fT P w) 3 "read_race" ["words"] (PF NC):=by
 refine D.BL mY (λvs H Q E h=>?_) (λf b8 A outer s H vs Q E hr h=>?_)
 .obtain⟨a,ws,rfl,_⟩:=h;rfl
 .obtain⟨a,ws,rfl,hw,kQ,kE⟩:=h;have hr1:dX 1 _:=hr.mono (show 1<=2 by decide);have hu:=yu hr;obtain⟨tT,hT,kT⟩:∃tT:TS,vM (j5 (fT P w) P w K mg base ["words","runners","heads","followers","at","head","follower","runner"] "read_race" (ao yU) f b8 A outer s H E) ((cj yU).drop 3) tT/\
    ∀(w0 w1:List Nat)(r:List (List Nat))(n:Int),ws=w0::w1::r->ws.length%3=2->ws.length<=26->2<=n->n<=24->(gw ws=match cA n [] [] r with|none=>none|some fs=>some (fV n.toNat fs))->tT {nx:=λ_ H'=>Q .cT H',rt:=Q} [some (.ref a),some (.int n),none,none,none,none,none,none] H:=by
   refine⟨_,(ag (aM (i:=2) mY.nd rfl (Or.inl rfl) yk) (ag (aM (i:=3) mY.nd rfl (Or.inr rfl) yk) (ag (fS PassesOwn.leaving rfl (uA rfl T.gJ (ae aq (ae (aB aA (by rfl) T.b_ bF (ae (pv 0) ai)) (ae aq ai)))) (aT (i:=4) mY.nd rfl (Or.inl rfl)) (ag (aS (ax (E:=E) aZ (hr.mono ⋯) rfl (aX aH) (ae (aU cC (bz aL (pv 0) (pv 4) (λ_ _=>rfl)) bo (aG _)) ai))) (ag (aM (i:=5) mY.nd rfl (Or.inl rfl) (ax (E:=E) aV (hr.mono ⋯) rfl (aX aH) (ae (bz aL (pv 0) (bO gm (pv 4) aq) (λ_ _=>rfl)) (ae aq (ae (pv 1) ai))))) (ag (aM (i:=6) mY.nd rfl (Or.inl rfl) (ax (E:=E) aV (hr.mono ⋯) rfl (aX aH) (ae (bz aL (pv 0) (bO gm (pv 4) aq) (λ_ _=>rfl)) (ae (bO gm (pv 5) aq) (ae (pv 1) ai))))) (ag (aS (ax (E:=E) aZ (hr.mono ⋯) rfl (aX aH) (ae (x4 (lK hu (pv 5) (pv 3))) ai))) (ag (aS (ax (E:=E) aZ (hr.mono ⋯) rfl (aX aH) (ae (kL (x4 (lK hu (pv 6) (pv 2))) (iV (x4 (lK hu (pv 6) (pv 3))))) ai))) (ag (C9 hu (pv 2) (pv 5) qH rfl) (au (C9 hu (pv 3) (pv 6) qH rfl))))))))) (au (aI (fU (own:=[("runner",7)]) rfl mY.nd (Bk rfl T.gJ (ae aq (ae (bO gm (pv 1) aq) ai))) (bL (N:=["words","runners","heads","followers","at","head","follower","runner"]) (sc:=ao yU) (by decide+kernel)) (λ_ _ _ _ _=>aT (i:=7) mY.nd rfl (Or.inl rfl)) (λ_ _ _ _ _=>(tD (V8 (lK hu (pv 7) (pv 3))))) (λ_ _ _ _ _=>(pv 7)))))))),λw0 w1 r n ews b1 b2 hn1 Yz eR=>?_⟩;subst ews;have hz:=bH;have BK:=hw.2.2.1;simp? only[aD];intro dh hdh df Xa;have ndf:df≠dh:=λz=>by rw[z,ak]at Xa;cases Xa
   have aax:H df=none:=by rw[aF ndf]at Xa;exact Xa
   have s2:aw H (upd (upd H dh (.dK [])) df (.dK [])):=(aw.new hdh).lV aax;have Gd:=hw.same s2;obtain⟨m,hm⟩:∃m,r.length=3*m:=⟨r.length/3,by simp at b1;omega⟩;refine⟨a,rfl,_,.inl (aJ.of Gd.1),2,_,3,m,rfl,?_,?_⟩
   .rw[az];simp only[length_cons]at b2⊢;refine Vb.up ⋯ ⋯ ⋯ ⋯ () () ?_;split<;>omega
   refine rm (adx a dh df n H (w0::w1::r)) ⟨none,none,none,[],[],[],[],rfl,s2,by rw[aF (dF ndf),ak],ak,λ_=>rfl,λ_=>rfl,aQ _,aQ _,rfl⟩ ?_ ?_
   .rintro i σ H' hi ⟨v4,v5,v6,hs,fs,kh,kf,rfl,sm,h1,h2,K1,K2,l1,l2,ec⟩;have RT:=hw.same sm;obtain⟨x0,x1,x2,g0,g1,g2,gd⟩:=aaw (l:=w0::w1::r) (j:=2+3*i) (by simp;omega);have q0:=RT.atZ (z:=2+(i:Int)*3) () g0;have q1:=RT.atZ (z:=2+(i:Int)*3+1) () g1;have q2:=RT.atZ (z:=2+(i:Int)*3+2) () g2;rw[gd]at ec;have IG:∀{x},cA n hs fs (x0::x1::x2::(w0::w1::r).drop (2+3*i+3))=x->cA n [] [] r=x:=λz=>ec.trans z;have HA:cA n [] [] r=none->E (.ref NC) none H':=λz=>kE (by rw[eR,z]) H' sm;simp? only[aD];refine⟨_,aJ.of RT.1,_,q0.1,?_⟩;simp only[qM,V.str.injEq,PH,cO,true_and];rw[vv]at IG;refine bj (λb3=>?_) (λb3=>HA (IG (by rw[af b3])));rw[ah b3]at IG;refine⟨_,aJ.of RT.1,_,q1.1,_,_,_,rfl,q1.2,?_⟩;cases e1:within x1 1 n with
    |none=>exact HA (IG (by rw[e1]))
    |some h=>
     rw[e1]at IG;dsimp only at IG⊢;simp? only[aD];refine⟨_,aJ.of RT.1,_,q2.1,_,_,_,rfl,q2.2,?_⟩;cases e2:within x2 (h+1) n with
     |none=>exact HA (IG (by rw[e2]))
     |some g=>
      rw[e2]at IG;dsimp only at IG⊢;refine⟨_,uz.k (k:=Sum.inl h) h2,?_⟩;rw[K2 h];refine bj (λb4=>?_) (λb4=>HA (IG (by rw[ah ‹b4›])));have b4:¬h∈fs:=‹b4›
      rw[af b4]at IG;refine⟨_,uz.k (k:=Sum.inl g) h1,?_⟩;rw[K1 g];refine bj (λb5=>?_) (λb5=>HA (IG (by rw[ah (.inl ‹b5›)])));refine⟨_,uz.k (k:=Sum.inl g) h2,?_⟩;rw[K2 g];refine bj (λb6=>?_) (λb6=>HA (IG (by rw[ah (.inr ‹b6›)])));have b5:¬g∈hs:=‹b5›
      have b6:¬g∈fs:=‹b6›
      rw[af (by rintro(z|z);exact b5 z;exact b6 z)]at IG;have Tz:i<70000:=by simp at BK;omega
      refine⟨_,Ia.k (k:=Sum.inl h) h1 (),_,Ia.k (k:=Sum.inl g) (by rw[aF ndf];exact h2) (),?_⟩;refine⟨_,_,_,hs++ [h],fs++ [g],_,_,rfl,(sm.lV hdh).lV aax,by rw[aF (dF ndf),ak],ak,K1.put,K2.put,?_,?_,IG rfl⟩
      .have:=yV (kvs:=kh) (k:=Sum.inl h) (v:=V.bl true);omega
      .have:=yV (kvs:=kf) (k:=Sum.inl g) (v:=V.bl true);omega
   .rintro σ H' ⟨v4,v5,v6,hs,fs,kh,kf,rfl,sm,h1,h2,K1,K2,l1,l2,ec⟩;have e0:(w0::w1::r).drop (2+3*m)=[]:=sA (by simp;omega);rw[e0]at ec;have ec:cA n [] [] r=some fs:=ec;rw[ec]at eR;refine⟨1,n+1,rfl,⟨by decide,by decide,by omega,by omega⟩,λL hL=>?_⟩;have PJ:H L=none:=sm.free hL;refine Ft (lo:=1) (n:=(n+1-1).toNat) (λi H2=>aw H' H2/\H2 L=some (.lst ((fV i fs).map V.int))) ⟨aw.new hL,ak⟩ ?_ ?_
    .rintro i H2 hi ⟨NY,hL2⟩;refine⟨rfl,_,uz.k (k:=Sum.inl (1+(i:Int))) (NY _ _ h2),?_⟩;rw[K2];have hlen:(fV i fs).length<=i:=by
      unfold fV;refine aW (kG _ _) ?_;simp
     dsimp only;rw[Gb];by_cases mn:(1:Int)+(i:Int)∈fs
     .rw[g_ mn,ah mn];exact⟨NY,hL2⟩
     .rw[cR mn,af mn];refine⟨_,hL2,by rw[az];omega,λb o e=>by rw[aF (bB e hL)];exact NY _ _ e,?_⟩;rw[ak,ed];rfl
    .rintro H2 ⟨NY,hL2⟩;refine kQ _ eR _ L (sm.trans NY) ?_ PJ;rw[hL2];congr 4;omega
  refine⟨_,(ag (aS (ax (E:=E) aZ (hr.mono ⋯) rfl (aX aH) (ae (aU cC (bO HM (aB aA (by rfl) T.b_ bF (ae (pv 0) ai)) aq) aq (aG _)) ai))) (ag (aS (ax (E:=E) aZ (hr.mono ⋯) rfl (aX aH) (ae (aU jG (aB aA (by rfl) T.b_ bF (ae (pv 0) ai)) (bO gm aq (bO rk aq (cK T.eZ rfl))) (aG _)) ai))) (ag (aM (i:=1) mY.nd rfl (Or.inl rfl) (ax (E:=E) aV (hr.mono ⋯) rfl (aX aH) (ae (bz aL (pv 0) aq (λ_ _=>rfl)) (ae (cK T.d8 rfl) (ae (cK T.eY rfl) ai))))) hT))),?_⟩;have hz:=bH;have BK:=hw.2.2.1;have YW:gw ws=none->E (.ref NC) none H:=λz=>kE z H λ_ _ h=>h;simp? only[aD];refine⟨_,.inl (aJ.of hw.1),by omega,?_⟩;rw[az];refine bj (λb1=>?_) (λb1=>YW (by unfold gw;rw[ah (.inl ())]));refine⟨_,.inl (aJ.of hw.1),.inl ⋯,?_⟩;rw[az];refine bj (λb2=>?_) (λb2=>YW (by unfold gw;rw[ah (.inr ())]));obtain⟨w0,w1,r,rfl⟩:∃w0 w1 r,ws=w0::w1::r:=by
   match ws,b1 with
   |[],b1=>simp at b1|[_],b1=>simp at b1
   |w0::w1::r,_=>exact⟨w0,w1,r,rfl⟩
  have a1:=hw.at (i:=1) rfl;refine⟨_,aJ.of hw.1,_,a1.1,_,_,_,rfl,a1.2,?_⟩;have eR:gw (w0::w1::r)=match within w1 2 24 with|none=>none|some n=>match cA n [] [] r with|none=>none|some fs=>some (fV n.toNat fs):=by
   unfold gw;rw[af ()];rfl
  cases ew:within w1 2 24 with
  |none=>exact YW (by rw[eR,ew])
  |some n=>
   have hn:=dg ew;rw[ew]at eR;dsimp only at eR⊢;exact kT w0 w1 r n rfl () () hn.1 hn.2.1 eR
end
noncomputable abbrev ql:Stmt:=top 71
noncomputable abbrev B1:Stmt:=top 70
noncomputable abbrev xq:Stmt:=top 72
noncomputable abbrev jr:Stmt:=inClass (top 63) 0
structure Tg(P:Program)(w:World)(K:PySem.W.Frag)(mg:Str->Option Value):Prop where
 kinds:∃d p1 p2 p3 p4,mg "KINDS"=some (.ref d)/\KD P w K d [(Sum.inr (S dy),.ref p1),(Sum.inr (S dz),.ref p2),(Sum.inr (S ji),.ref p3),(Sum.inr (S cg),.ref p4)]/\
  (∀H,jF K H p1 [.int 1,.int 4])/\(∀H,jF K H p2 [.int 2,.int 4])/\(∀H,jF K H p3 [.int 2,.int 3])/\(∀H,jF K H p4 [.int 2,.int 6])
 words:∃d,mg "POOL_WORDS"=some (.ref d)/\KD P w K d [(Sum.inl 0,.str (S yx)),(Sum.inl 4,.str (S yy)),(Sum.inl 6,.str (S yz)),(Sum.inl 8,.str (S rp)),(Sum.inl 10,.str (S rq)),(Sum.inl 12,.str (S yA)),(Sum.inl 14,.str (S yB))]
 aay:∃t,mg "NONES"=some (.ref t)/\∀H,jF K H t [.str (S jj),.str (S mV),.str (S gv)]
section
variable {Cc:Addr}
def fW(H:Hp)(v:V)(r:List Int):Prop:=∃p,v=.ref p/\H p=some (.lst (r.map V.int))
def nV(H:Hp)(R:Addr)(rs:List (List Int)):Prop:=∃as,H R=some (.lst as)/\Paired (fW H) as rs
def fW.same{r:List Int}(h:fW H v r)(s:aw H H'):fW H' v r:=by
 obtain⟨p,e,q⟩:=h;exact⟨p,e,s _ _ q⟩
theorem nV.same(h:nV H R rs)(s:aw H H'):nV H' R rs:=by
 obtain⟨as,e,q⟩:=h;exact⟨as,s _ _ e,Paired.fR q λ_ _ z=>z.same s⟩
noncomputable def mZ{α:Type}(d:α)(l:List α)(kd:List Nat)(k r:Int):List α:=if kd=cg then(l.drop (r-1).toNat).take k.toNat else [l.getD (r-1).toNat d]
noncomputable def B2(Rr:Addr)(q:MP):List (Str×V):=[("name",.str (S q.name)),("kind",.str (S q.kind)),("k",.int q.k),("races",.ref Rr),("unit",.int q.u)]
def oK(Cp:Addr)(H:Hp)(as:List V)(v:V)(q:MP):Prop:=∃p dx Rr,v=.ref p/\H p=some (.ins Cp dx (B2 Rr q))/\H Rr=some (.lst (mZ .cT as q.kind q.k q.race))
def jM(Cp:Addr)(H:Hp)(v:V)(rs:List (List Int))(q:MP):Prop:=∃p dx Rr,v=.ref p/\H p=some (.ins Cp dx (B2 Rr q))/\nV H Rr (mZ [] rs q.kind q.k q.race)
def yW(NC:Addr):Sp:=λvs H Q E=>∃(t kd:List Nat) (k:Int) (R:Addr) (as:List V) (rs:List (List Int)),vs=[.str (S t),.str (S kd),.int k,.ref R]/\Tp t/\H R=some (.lst as)/\Paired (fW H) as rs/\1<=k/\k<=6/\
 (∀r,fw t kd k rs=some r->∀H' Rr,aw H H'->H Rr=none->H' Rr=some (.lst (mZ .cT as kd k r))->Q (.ref Rr) H')/\(fw t kd k rs=none->E (.ref NC) none H)
def yX:aC ["word","kind","k","races","race"] ["word","kind","k","races"] (ao ql):=by ac_nf
theorem yY:Str.ofString "legs"=S cg:=by decide+kernel
def Ge(D:Def K mg "read_pool_races" ql ["word","kind","k","races"])(T:Tx mg)(aV:Ok P w K mg base (fT P w) 2 "number_within" ["word","lowest","highest"] (tO NC))(aZ:Ok P w K mg base (fT P w) 1 "demand" ["holds"] (aD NC)):
  Ok P w K mg base (fT P w) 3 "read_pool_races" ["word","kind","k","races"] (yW NC):=by
 refine D.BL yX (λvs H Q E h=>?_) (λf b8 A outer s H vs Q E hr h=>?_)
 .obtain⟨_,_,_,_,_,_,rfl,_⟩:=h;rfl
 .obtain⟨t,kd,k,R,as,rs,rfl,ht,hA,hp,k1,k6,kQ,kE⟩:=h;refine⟨_,(ag (aM (i:=4) yX.nd rfl (Or.inl rfl) (ax (E:=E) aV (hr.mono ⋯) rfl (aX aH) (ae (pv 0) (ae aq (ae (aB aA (by rfl) T.b_ bF (ae (pv 3) ai)) ai))))) (ag (cZ (bt cC (pv 1) bo (aG _)) (ag (aS (ax (E:=E) aZ (hr.mono ⋯) rfl (aX aH) (ae (aU jG (bO gn (bO gm (pv 4) (pv 2)) aq) (aB aA (by rfl) T.b_ bF (ae (pv 3) ai)) (aG _)) ai))) (au (aI (iH kg (pv 3) (iA (bO gn (pv 4) aq)) (iA (bO gm (bO gn (pv 4) aq) (pv 2))))))) bD) (ag (aS (ax (E:=E) aZ (hr.mono ⋯) rfl (aX aH) (ae (aU Ff (aB aA (by rfl) T.b_ bF (ae (bz aL (pv 3) (bO gn (pv 4) aq) (λ_ _=>rfl)) ai)) (pv 2) (aG _)) ai))) (au (aI (kN (ae (bz aL (pv 3) (bO gn (pv 4) aq) (λ_ _=>rfl)) ai))))))),?_⟩;have hlen:=Paired.dQ hp;have hz:=bH;simp? only[aD];refine⟨_,.inl (aJ.of hA),_,_,_,rfl,ht,?_⟩;unfold fw at kQ kE;rw[hlen];cases e1:within t 1 (rs.length:Int)with
  |none=>
   rw[e1]at kE;exact kE rfl
  |some r=>
   rw[e1]at kQ kE;have hn:=dg e1;obtain⟨j,hj⟩:∃j:Nat,r-1=(j:Int):=⟨(r-1).toNat,by omega⟩;have hjl:j<rs.length:=by omega
   dsimp only at kQ kE⊢;simp only[yY,cO];refine bj (λb=>?_) (λb=>?_)
   .simp only[if_pos b]at kQ kE;simp? only[bS,aD];refine⟨_,.inl (aJ.of hA),?_⟩;rw[hlen];refine bj (λc=>?_) (λc=>kE (by rw[af c]));have ec:lH as (some (r-1)) (some (r-1+k))=mZ .cT as kd k r:=by
     have:=F_ as j (j+k.toNat);rw[Nat.add_sub_cancel_left]at this;unfold mZ;rw[ah b,show(r-1).toNat=j by omega,<-this,hj];congr 2;omega
    refine⟨_,aJ.of hA,λp YV=>?_⟩;rw[ec];exact kQ r (by rw[ah c]) _ p (aw.new YV) YV ak
   .simp only[if_neg b]at kQ kE;simp? only[bS,aD,ow];obtain⟨v,hv,p,rfl,mq⟩:=Paired.Hx hp (bg hjl);refine⟨_,aJ.of hA,_,at_of hj hv,_,rfl,_,.inl (aJ.of mq),?_⟩;rw[az];have e2:rs.getD (r-1).toNat []=rs[j]:=by
     rw[hj,gZ,cQ,bg hjl];rfl
    have e3:mZ .cT as kd k r=[V.ref p]:=by
     unfold mZ;rw[af b,hj,gZ,cQ,hv];rfl
    rw[e2]at kQ kE;refine bj (λc=>?_) (λc=>kE (by rw[af c]));refine⟨_,aJ.of hA,_,at_of hj hv,?_,λx hx=>kQ r (by rw[ah c]) _ x (aw.new hx) hx (by rw[ak,e3])⟩;show 1<=_;omega
end
section
variable {Cc:Addr}
theorem gK{f:Str}{v:V}{n:Nat}:∀{fs:List (Str×V)},fs.length<n->(gV f v fs).length<n+1
 |[],h=>by simp[gV];omega
 |(g,x)::r,h=>by
  unfold gV;split
  .simp at h⊢;omega
  .have:=gK (f:=f) (v:=v) (n:=n-1) (fs:=r) (by simp at h;omega);simp at h⊢;omega
def IH{f:Str}:(gV f v []).length<1000:=gK (n:=999) ⋯
def II{f g:Str}{u:V}:(gV g u (gV f v [])).length<1000:=gK (n:=999) (gK (n:=998) ⋯)
def PK{f g h:Str}{u t:V}:(gV h t (gV g u (gV f v []))).length<1000:=gK (n:=999) (gK (n:=998) (gK (n:=997) ⋯))
def Xy{f g h j:Str}{u t z:V}:(gV j z (gV h t (gV g u (gV f v [])))).length<1000:=gK (n:=999) (gK (n:=998) (gK (n:=997) (gK (n:=996) ⋯)))
def cU(Cp:Addr):Sp:=λvs H Q _=>∃(p dx Rr:Addr) (q:MP),vs=[.ref p,.str (S q.name),.str (S q.kind),.int q.k,.ref Rr,.int q.u]/\H p=some (.ins Cp dx [])/\∀H',H' p=some (.ins Cp dx (B2 Rr q))->(∀b o,H b=some o->b≠p->H' b=some o)->Q .cT H'
def IJ:aC ["self","name","kind","k","races","unit"] ["self","name","kind","k","races","unit"] (ao jr):=by ac_nf
def Gf(F:Ko K "__init__" "Pool.__init__" jr f fd)(C:Fh K Cp)(n1:cD K Cp "name")(n2:cD K Cp "kind")(n3:cD K Cp "k")(n4:cD K Cp "races")(n5:cD K Cp "unit"):
  n9 P w K mg base eJ 1 f fd ["self","name","kind","k","races","unit"] (cU Cp):=by
 refine F.ok IJ (λvs H Q E h=>?_) (λb8 A outer s H vs Q E hr h=>?_)
 .obtain⟨p,dx,Rr,q,rfl,_⟩:=h;rfl
 .obtain⟨p,dx,Rr,q,rfl,hp,k⟩:=h;refine⟨_,(ag (iW (pv 0) (pv 1) rfl) (ag (iW (pv 0) (pv 2) rfl) (ag (iW (pv 0) (pv 3) rfl) (ag (iW (pv 0) (pv 4) rfl) (au (iW (pv 0) (pv 5) rfl)))))),?_⟩;refine⟨p,Cp,dx,[],rfl,hp,C,n1,⋯,?_⟩;refine⟨p,Cp,dx,_,rfl,ak,C,n2,IH,?_⟩;rw[iy];refine⟨p,Cp,dx,_,rfl,ak,C,n3,II,?_⟩;rw[iy];refine⟨p,Cp,dx,_,rfl,ak,C,n4,PK,?_⟩;rw[iy];refine⟨p,Cp,dx,_,rfl,ak,C,n5,Xy,?_⟩;rw[iy];refine k _ ?_ λb o e hb=>by rw[aF hb];exact e
  rw[ak];rfl
def yZ(Cp:Addr)(H:Hp)(L:Addr)(rv:List V)(ps:List MP):Prop:=ps.length<=70000/\∃as,H L=some (.lst as)/\Paired (oK Cp H rv) as ps
def oK.same(h:oK Cp H rv v q)(s:aw H H'):oK Cp H' rv v q:=by
 obtain⟨p,dx,Rr,e,z,y⟩:=h;exact⟨p,dx,Rr,e,s _ _ z,s _ _ y⟩
theorem jM.same(h:jM Cp H v rs q)(s:aw H H'):jM Cp H' v rs q:=by
 obtain⟨p,dx,Rr,e,z,y⟩:=h;exact⟨p,dx,Rr,e,s _ _ z,y.same s⟩
theorem yZ.same{ps:List MP}(h:yZ Cp H L rv ps)(s:aw H H'):yZ Cp H' L rv ps:=by
 obtain⟨l,as,e,z⟩:=h;exact⟨l,as,s _ _ e,Paired.fR z λ_ _ y=>y.same s⟩
def KH(kvs:List (Key×V))(ks:List (List Nat)):Prop:=∀k:List Nat,(eQ kvs (Sum.inr (S k))).isSome=decide (k∈ks)
theorem KH.put{ks:List (List Nat)}{h:List Nat}(x:KH kvs ks):KH (putK kvs (Sum.inr (S h)) v) (ks++ [h]):=λk=>by
 rw[Fv];by_cases e:k=h
 .subst e;rw[ah rfl];simp
 .rw[af (λz=>e (cO.mp (Sum.inr.inj z))),x k];simp[e]
def Gg(NC Cp:Addr):Sp:=λvs H Q E=>∃(L:Addr) (rv:List V) (ps:List MP),vs=[.ref L]/\yZ Cp H L rv ps/\∀H',aw H H'->if(ps.map (·.name)).Nodup then Q .cT H' else E (.ref NC) none H'
def y3:aC ["pools","names","pool"] ["pools"] (ao xq):=by ac_nf
def nW{l:List α}{x:α}(hx:l[i]?=some x)(h:(l.take i).Nodup):(l.take (i+1)).Nodup↔x∉l.take i:=by
 rw[bw hx,sR];constructor
 .rintro⟨_,_,z⟩ hm;exact z x hm x ∅ rfl
 .intro z;refine⟨h,by simp,λa ha b hb e=>?_⟩;have:b=x:=by simpa using hb
  subst this;subst e;exact z ha
def AO{l:List α}(h:l.Nodup):(l.take i).Nodup:=h.sublist (take_sublist i l)
def ML(D:Def K mg "check_names_differ" xq ["pools"])(C:Fh K Cp)(n1:cD K Cp "name")(aZ:Ok P w K mg base (fT P w) 1 "demand" ["holds"] (aD NC)):
  Ok P w K mg base (fT P w) 2 "check_names_differ" ["pools"] (Gg NC Cp):=by
 refine D.BL y3 (λvs H Q E h=>?_) (λf b8 A outer s H vs Q E hr h=>?_)
 .obtain⟨_,_,_,rfl,_⟩:=h;rfl
 .obtain⟨L,rv,ps,rfl,hL,k⟩:=h;have hu:=yu hr;refine⟨_,(ag (aM (i:=1) y3.nd rfl (Or.inl rfl) yk) (au (fS PassesOwn.leaving rfl (bY (pv 0)) (aT (i:=2) y3.nd rfl (Or.inl rfl)) (ag (aS (ax (E:=E) aZ (hr.mono ⋯) rfl (aX aH) (ae (x4 (lK hu (bu (pv 2) rfl) (pv 1))) ai))) (au (C9 hu (pv 1) (bu (pv 2) rfl) qH rfl)))))),?_⟩;obtain⟨hl,as,hA,hp⟩:=hL;have hlen:=Paired.dQ hp;have hz:=bH;intro d hd;refine⟨L,rfl,⟨_,aJ.of (aw.new hd _ _ hA)⟩,lE (K:=K) (a:=L) (xs:=as) (λi σ H'=>∃(v:Option V) (kvs:List (Key×V)),σ=[some (.ref L),some (.ref d),v]/\aw H H'/\H' d=some (.dK kvs)/\KH kvs ((ps.map (·.name)).take i)/\kvs.length<=i/\((ps.map (·.name)).take i).Nodup)
   ⟨none,[],rfl,aw.new hd,ak,λ_=>by simp[eQ],aQ _,by simp⟩ (λi σ H' _ ⟨_,_,_,s5,_⟩=>aJ.of (s5 _ _ hA)) ?_ ?_⟩
  .rintro i y σ H' hi ⟨v,kvs,rfl,s5,h1,K1,l1,nd⟩;obtain⟨q,hq,p,dx,Rr,rfl,mq,_⟩:=Paired.at' hp hi;have mq:=s5 _ _ mq;have Tz:=(List.getElem?_eq_some_iff.mp hq).1;have hqn:(ps.map (·.name))[i]?=some q.name:=by rw[a_,hq];rfl
   refine⟨Cp,dx,_,mq,C,n1,_,rfl,_,uz.k (k:=Sum.inr (S q.name)) h1,?_⟩;rw[K1];refine bj (λb=>?_) (λb=>?_)
   .have b:¬q.name∈(ps.map (·.name)).take i:=by simpa using b
    refine⟨Cp,dx,_,mq,C,n1,_,rfl,_,Ia.k (k:=Sum.inr (S q.name)) h1 (),_,_,rfl,s5.lV hd,ak,?_,?_,(nW hqn nd).mpr b⟩
    .rw[bw hqn];exact K1.put
    .have:=yV (kvs:=kvs) (k:=Sum.inr (S q.name)) (v:=V.bl true);omega
   .have b:q.name∈(ps.map (·.name)).take i:=by simpa using b
    have k1:=k H' s5;rw[af (λz=>(nW hqn nd).mp (AO z) b)]at k1;exact k1
  .rintro σ H' ⟨v,kvs,rfl,s5,h1,K1,l1,nd⟩;have k1:=k H' s5;rw[hlen,<-az (f:=(·.name)),eM]at nd;rw[ah nd]at k1;exact k1
end
section
variable {Cc:Addr}
noncomputable def PW:List (Int×List Nat):=[(0,yx),(4,yy),(6,yz),(8,rp),(10,rq),(12,yA),(14,yB)]
def y4 ws:yC ws=true↔∀p∈PW,ws.getD p.1.toNat []=p.2:=by
 unfold yC PW;simp only[Bool.and_eq_true,decide_eq_true_eq,forall_mem_cons,not_mem_nil,false_imp_iff,implies_true,and_true];exact Iff.rfl
def aaz:∀p∈PW,0<=p.1/\p.1<16:=by decide
def PL(tp1:∀H,jF K H p1 [.int 1,.int 4])(tp2:∀H,jF K H p2 [.int 2,.int 4])(tp3:∀H,jF K H p3 [.int 2,.int 3])(tp4:∀H,jF K H p4 [.int 2,.int 6]) t:
  (kindB t=none/\eQ [((Sum.inr (S dy):Key),V.ref p1),(Sum.inr (S dz),.ref p2),(Sum.inr (S ji),.ref p3),(Sum.inr (S cg),.ref p4)] (Sum.inr (S t))=none)\/
  ∃(lh:Int×Int) (p:Addr),kindB t=some lh/\eQ [((Sum.inr (S dy):Key),V.ref p1),(Sum.inr (S dz),.ref p2),(Sum.inr (S ji),.ref p3),(Sum.inr (S cg),.ref p4)] (Sum.inr (S t))=some (.ref p)/\∀H,jF K H p [.int lh.1,.int lh.2]:=by
 have ne:∀{u:List Nat},t≠u->¬((Sum.inr (S u):Key)=Sum.inr (S t)):=λh z=>h (cO.mp (Sum.inr.inj z)).symm;unfold kindB;by_cases h1:t=dy
 .rw[ah h1,h1];exact .inr ⟨_,p1,rfl,cy rfl,tp1⟩
 rw[af h1,cz (ne h1)];by_cases h2:t=dz
 .rw[ah h2,h2];exact .inr ⟨_,p2,rfl,cy rfl,tp2⟩
 rw[af h2,cz (ne h2)];by_cases h3:t=ji
 .rw[ah h3,h3];exact .inr ⟨_,p3,rfl,cy rfl,tp3⟩
 rw[af h3,cz (ne h3)];by_cases h4:t=cg
 .rw[ah h4,h4];exact .inr ⟨_,p4,rfl,cy rfl,tp4⟩
 rw[af h4,cz (ne h4)];exact .inl ⟨rfl,rfl⟩
def PN{t:List Nat}(hk:kindB t=some lh):1<=lh.1/\lh.2<=6:=by
 unfold kindB at hk;split at hk
 .cases hk;decide
 split at hk
 .cases hk;decide
 split at hk
 .cases hk;decide
 split at hk
 .cases hk;decide
 cases hk
noncomputable def Vs(ws:List (List Nat))(k race:Int):Option MP:=match within (ws.getD 7 []) 0 400 with
    |none=>none
    |some _=>match within (ws.getD 9 []) 1 1000 with
     |none=>none
     |some _=>match within (ws.getD 13 []) 1 10000 with
      |none=>none
      |some u=>match within (ws.getD 11 []) 0 (2*u)with
       |none=>none
       |some l=>if¬(l=0\/l≥u)then none else if¬(ws.getD 15 []=jj\/ws.getD 15 []=mV\/ws.getD 15 []=gv)then none else
        if¬(ws.getD 15 []≠gv\/ws.getD 2 []≠dy)then none else some ⟨ws.getD 1 [],ws.getD 2 [],k,race,u⟩
def PQ(NC Cp:Addr):Sp:=λvs H Q E=>∃(a R:Addr) (ws:List (List Nat)) (rv:List V) (rs:List (List Int)),vs=[.ref a,.ref R]/\Words H a ws/\H R=some (.lst rv)/\Paired (fW H) rv rs/\
 (∀q,eC ws rs=some q->∀H' p dx Rr,aw H H'->H' p=some (.ins Cp dx (B2 Rr q))->H' Rr=some (.lst (mZ .cT rv q.kind q.k q.race))->H p=none->H Rr=none->Q (.ref p) H')/\(eC ws rs=none->∀H',aw H H'->E (.ref NC) none H')
def rJ:aC ["words","races","at","kind","k","own_races","unit","least"] ["words","races"] (ao B1):=by ac_nf
def TB(D:Def K mg "read_pool" B1 ["words","races"])(T:Tx mg)(TG:Tg P w K mg)(qm:Ok P w K mg base eJ 2 "is_name" ["word"] Du)(aV:Ok P w K mg base (fT P w) 2 "number_within" ["word","lowest","highest"] (tO NC))(aZ:Ok P w K mg base (fT P w) 1 "demand" ["holds"] (aD NC))(gL:Ok P w K mg base (fT P w) 3 "read_pool_races" ["word","kind","k","races"] (yW NC))(aN:CL P w K mg base "Pool" Cp ["self","name","kind","k","races","unit"] (cU Cp) ["name","kind","k","races","unit"]):
  Ok P w K mg base (fT P w) 4 "read_pool" ["words","races"] (PQ NC Cp):=by
 refine D.BL rJ (λvs H Q E h=>?_) (λf b8 A outer s H vs Q E hr h=>?_)
 .obtain⟨_,_,_,_,_,rfl,_⟩:=h;rfl
 .obtain⟨a,R,ws,rv,rs,rfl,hw,hA,hR,kQ,kE⟩:=h;have hu:=yu hr;obtain⟨dk,p1,p2,p3,p4,Dx,kdk,tp1,tp2,tp3,tp4⟩:=TG.kinds;obtain⟨dw,tP,kdw⟩:=TG.words;obtain⟨tn,TC,stn⟩:=TG.aay;have uI:ws.length=16->∀i:Nat,i<16->ws[i]?=some (ws.getD i []):=λb1 i hi=>by
   rw[cQ,bg ()];rfl
  obtain⟨tT,hT,kT⟩:∃tT:TS,vM (j5 (fT P w) P w K mg base ["words","races","at","kind","k","own_races","unit","least"] "read_pool" (ao B1) f b8 A outer s H E) ((cj B1).drop 7) tT/\
    ∀(v:Option V)(k race:Int)(H2:Hp)(Rr:Addr),ws.length=16->aw H H2->H Rr=none->H2 Rr=some (.lst (mZ .cT rv (ws.getD 2 []) k race))->eC ws rs=Vs ws k race->tT {nx:=λ_ H'=>Q .cT H',rt:=Q} [some (.ref a),some (.ref R),v,some (.str (S (ws.getD 2 []))),some (.int k),some (.ref Rr),none,none] H2:=by
   refine⟨_,(ag (aS (ax (E:=E) aV (hr.mono ⋯) rfl (aX aH) (ae (bz aL (pv 0) aq (λ_ _=>rfl)) (ae aq (ae (cK T.iK rfl) ai))))) (ag (aS (ax (E:=E) aV (hr.mono ⋯) rfl (aX aH) (ae (bz aL (pv 0) aq (λ_ _=>rfl)) (ae aq (ae (cK T.gI rfl) ai))))) (ag (aM (i:=6) rJ.nd rfl (Or.inl rfl) (ax (E:=E) aV (hr.mono ⋯) rfl (aX aH) (ae (bz aL (pv 0) aq (λ_ _=>rfl)) (ae aq (ae (cK T.iL rfl) ai))))) (ag (aM (i:=7) rJ.nd rfl (Or.inl rfl) (ax (E:=E) aV (hr.mono ⋯) rfl (aX aH) (ae (bz aL (pv 0) aq (λ_ _=>rfl)) (ae aq (ae (bO rk aq (pv 6)) ai))))) (ag (aS (ax (E:=E) aZ (hr.mono ⋯) rfl (aX aH) (ae (J3 (aU cC (pv 7) aq (aG _)) (iV (aU Ff (pv 7) (pv 6) (aG _)))) ai))) (ag (aS (ax (E:=E) aZ (hr.mono ⋯) rfl (aX aH) (ae (aU ur (bz aL (pv 0) aq (λ_ _=>rfl)) (mX TC rfl) rfl) ai))) (ag (aS (ax (E:=E) aZ (hr.mono ⋯) rfl (aX aH) (ae (J3 (aU Bm (bz aL (pv 0) aq (λ_ _=>rfl)) bo (aG _)) (iV (aU Bm (pv 3) bo (aG _)))) ai))) (au (aI (Vl aN (hr.mono ⋯) rfl (ae (bz aL (pv 0) aq (λ_ _=>rfl)) (ae (pv 3) (ae (pv 4) (ae (pv 5) (ae (pv 6) ai))))))))))))))),λv k race H2 Rr b1 NY nR hRr pm=>?_⟩;replace uI:=uI b1;unfold Vs at pm;simp? only[aD];have Gd:=hw.same NY;have HA:eC ws rs=none->E (.ref NC) none H2:=λz=>kE z H2 NY;have q7:=Gd.at (uI 7 ⋯);refine⟨_,aJ.of Gd.1,_,q7.1,_,_,_,rfl,q7.2,?_⟩;cases e7:within (ws.getD 7 []) 0 400 with
   |none=>exact HA (by rw[pm,e7])
   |some tk=>
   rw[e7]at pm;dsimp only at pm⊢;have q9:=Gd.at (uI 9 ⋯);refine⟨_,aJ.of Gd.1,_,q9.1,_,_,_,rfl,q9.2,?_⟩;cases e9:within (ws.getD 9 []) 1 1000 with
   |none=>exact HA (by rw[pm,e9])
   |some bk=>
   rw[e9]at pm;dsimp only at pm⊢;have q13:=Gd.at (uI 13 ⋯);refine⟨_,aJ.of Gd.1,_,q13.1,_,_,_,rfl,q13.2,?_⟩;cases e13:within (ws.getD 13 []) 1 10000 with
   |none=>exact HA (by rw[pm,e13])
   |some u=>
   rw[e13]at pm;dsimp only at pm⊢;have hun:=dg e13;simp? only[aD];have q11:=Gd.at (uI 11 ⋯);refine⟨_,aJ.of Gd.1,_,q11.1,?_⟩;refine⟨.inl ⋯,_,_,_,rfl,q11.2,?_⟩;cases e11:within (ws.getD 11 []) 0 (2*u)with
   |none=>exact HA (by rw[pm,e11])
   |some l=>
   rw[e11]at pm;dsimp only at pm⊢;simp? only[aD,Ox];have q15:=Gd.at (uI 15 ⋯);refine bj (λc1=>?_) (λc1=>HA (by rw[pm,ah c1]));rw[af (Classical.not_not.mpr c1)]at pm;refine⟨_,aJ.of Gd.1,_,q15.1,_,.inr (stn H2),rfl,rfl,?_⟩;have eN:YG (.str (S (ws.getD 15 []))) [.str (S jj),.str (S mV),.str (S gv)]=decide (ws.getD 15 []=jj\/ws.getD 15 []=mV\/ws.getD 15 []=gv):=by
    simp only[YG,any_cons,any_nil,Xr,Bool.or_false];rw[gi];simp only[Bool.or_eq_true,beq_iff_eq,cO,decide_eq_true_eq];exact or_congr eq_comm (or_congr eq_comm eq_comm)
   rw[eN];simp only[decide_eq_true_eq];refine bj (λc2=>?_) (λc2=>HA (by rw[pm,ah c2]));rw[af (Classical.not_not.mpr c2)]at pm;refine⟨_,aJ.of Gd.1,_,q15.1,rfl,?_⟩;have eF:Str.ofString "fewer"=S gv:=by decide+kernel
   have eP:Str.ofString "place"=S dy:=by decide+kernel
   simp only[eF,eP,V.str.injEq,cO,FZ];refine bj (λc3=>?_) (λc3=>HA (by rw[pm,ah c3]));rw[af (Classical.not_not.mpr c3)]at pm;have q1':=Gd.at (uI 1 ⋯);simp? only[];refine⟨_,aJ.of Gd.1,_,q1'.1,λx dx nx ndx nex=>?_⟩;refine⟨x,dx,Rr,⟨_,_,_,race,_⟩,rfl,ak,λH3 h3' k2=>⟨rfl,?_⟩⟩;have s3:aw H2 H3:=aw.made nx ndx k2;exact kQ _ pm H3 x dx Rr (NY.trans s3) h3' (s3 _ _ hRr) (NY.free nx) nR
  refine⟨_,(ag (aS (ax (E:=E) aZ (hr.mono ⋯) rfl (aX aH) (ae (aU cC (aB aA (by rfl) T.b_ bF (ae (pv 0) ai)) (cK T.fJ rfl) (aG _)) ai))) (ag (fS PassesOwn.leaving rfl (O0 (mX tP rfl)) (aT (i:=2) rJ.nd rfl (Or.inl rfl)) (au (aS (ax (E:=E) aZ (hr.mono ⋯) rfl (aX aH) (ae (aU cC (bz aL (pv 0) (pv 2) (λ_ _=>rfl)) (Dk (mX tP rfl) (pv 2) (λ_ _=>rfl)) (aG _)) ai))))) (ag (aS (ax (E:=E) aZ (hr.mono ⋯) rfl (aX aH) (ae (ax qm (hr.mono ⋯) rfl cp (ae (bz aL (pv 0) aq (λ_ _=>rfl)) ai)) ai))) (ag (aM (i:=3) rJ.nd rfl (Or.inl rfl) (bz aL (pv 0) aq (λ_ _=>rfl))) (ag (aS (ax (E:=E) aZ (hr.mono ⋯) rfl (aX aH) (ae (x4 (Xh (pv 3) (mX Dx rfl))) ai))) (ag (aM (i:=4) rJ.nd rfl (Or.inl rfl) (ax (E:=E) aV (hr.mono ⋯) rfl (aX aH) (ae (bz aL (pv 0) aq (λ_ _=>rfl)) (ae (bz Ow (Dk (mX Dx rfl) (pv 3) (λ_ _=>rfl)) aq (λ_ _=>rfl)) (ae (bz Ow (Dk (mX Dx rfl) (pv 3) (λ_ _=>rfl)) aq (λ_ _=>rfl)) ai))))) (ag (aM (i:=5) rJ.nd rfl (Or.inl rfl) (ax (E:=E) gL (hr.mono ⋯) rfl (aX aH) (ae (bz aL (pv 0) aq (λ_ _=>rfl)) (ae (pv 3) (ae (pv 4) (ae (pv 1) ai)))))) hT))))))),?_⟩;have YW:eC ws rs=none->E (.ref NC) none H:=λz=>kE z H λ_ _ h=>h;simp? only[aD];refine⟨_,.inl (aJ.of hw.1),?_⟩;rw[az];refine bj (λb1=>?_) (λb1=>YW (by unfold eC;rw[ah ()]));have b1:ws.length=16:=by omega
  have uI:∀i:Nat,i<16->ws[i]?=some (ws.getD i []):=λi hi=>by
   rw[cQ,bg ()];rfl
  refine⟨dw,_,rfl,kdw,Ms (λi σ H'=>∃v:Option V,σ=[some (.ref a),some (.ref R),v,none,none,none,none,none]/\H'=H/\∀p∈PW.take i,ws.getD p.1.toNat []=p.2) ⟨none,rfl,rfl,by simp⟩ ?_ ?_⟩
  .rintro i k v σ H' hk ⟨v2,rfl,e,hI⟩;subst e;obtain⟨p,hp,rfl,rfl⟩:∃p,PW[i]?=some p/\k=Sum.inl p.1/\v=.str (S p.2):=by
    have hk:(PW.map λp=>((Sum.inl p.1:Key),V.str (S p.2)))[i]?=some (k,v):=hk;rw[a_]at hk;cases q:PW[i]? with
    |none=>rw[q]at hk;cases hk
    |some p=>
     rw[q]at hk;cases hk;exact⟨p,rfl,rfl,rfl⟩
   have HB:=bh hp;have eK:=aaz p HB;have g:=uI p.1.toNat ();have q:=hw.atZ (z:=p.1) () g;have hv:eQ (PW.map λp=>((Sum.inl p.1:Key),V.str (S p.2))) (Sum.inl p.1)=some (.str (S p.2)):=by
    have:∀p∈PW,eQ (PW.map λp=>((Sum.inl p.1:Key),V.str (S p.2))) (Sum.inl p.1)=some (.str (S p.2)):=by decide+kernel
    exact this p HB
   refine⟨_,aJ.of hw.1,_,q.1,dw,_,Sum.inl p.1,_,rfl,rfl,kdw,hv,?_⟩;simp only[U9,qM,pW,HQ,aD,append_nil,N8,V.str.injEq,cO];refine bj (λb=>?_) (λb=>?_)
   .have b:ws.getD p.1.toNat []=p.2:=by simpa using b
    refine⟨_,rfl,trivial,λx hx=>?_⟩;rw[bw hp]at hx;obtain z|z:=mem_append.mp hx
    .exact hI x z
    .have e:x=p:=by simpa using z
     subst e;exact b
   .have b:¬ws.getD p.1.toNat []=p.2:=by simpa using b
    refine YW ?_;unfold eC;rw[af (),ah];cases z:yC ws with
    |false=>rfl|true=>exact absurd ((y4 ws).mp z p HB) b
  .rintro σ H' ⟨v2,rfl,e,hI⟩;subst e;have hF:yC ws=true:=(y4 ws).mpr hI;have pm:eC ws rs=eC ws rs:=rfl
   conv at pm=>rhs;unfold eC
   rw[af (),af (by rw[hF];decide)]at pm;clear hI;simp? only[aD];have q1:=hw.at (uI 1 ⋯);refine⟨_,aJ.of hw.1,_,q1.1,_,rfl,q1.2,λH1 sm=>⟨_,rfl,?_⟩⟩;have PD:=hw.same sm;have hA1:=sm _ _ hA;have hR1:Paired (fW H1) rv rs:=Paired.fR hR λ_ _ z=>z.same sm;have kE1:eC ws rs=none->E (.ref NC) none H1:=λz=>kE z H1 sm;refine bj (λb2=>?_) (λb2=>kE1 (by rw[pm,ah ‹b2›]));rw[af (by rw[b2];decide)]at pm;have q2:=PD.at (uI 2 ⋯);refine⟨_,aJ.of PD.1,_,q2.1,dk,_,Sum.inr (S (ws.getD 2 [])),rfl,rfl,kdk,_,rfl,?_⟩;obtain⟨ek,ev⟩|⟨lh,pk,ek,ev,tk⟩:=PL tp1 tp2 tp3 tp4 (ws.getD 2 [])
   .rw[ev];exact kE1 (by rw[pm,ek])
   rw[ek]at pm;dsimp only at pm;rw[ev];have q3:=PD.at (uI 3 ⋯);refine⟨_,aJ.of PD.1,_,q3.1,?_⟩;refine⟨dk,_,Sum.inr (S (ws.getD 2 [])),_,rfl,rfl,kdk,ev,?_⟩;refine⟨pk,rfl,_,tk H1,_,dG (j:=0) rfl,?_⟩;refine⟨dk,_,Sum.inr (S (ws.getD 2 [])),_,rfl,rfl,kdk,ev,pk,rfl,_,tk H1,_,dG (j:=1) rfl,_,_,_,rfl,q3.2,?_⟩;cases e3:within (ws.getD 3 []) lh.1 lh.2 with
   |none=>exact kE1 (by rw[pm,e3])
   |some k=>
   rw[e3]at pm;dsimp only at pm⊢;have q5:=PD.at (uI 5 ⋯);have h3:=dg e3;have ael:1<=lh.1/\lh.2<=6:=PN ek;refine⟨_,aJ.of PD.1,_,q5.1,_,_,_,_,rv,rs,rfl,q5.2,hA1,hR1,by omega,by omega,λrace e5 H2 Rr s2 nR hRr=>?_,λe5=>kE1 (by rw[pm,e5])⟩;rw[e5]at pm;dsimp only at pm;exact kT _ k race H2 Rr b1 (sm.trans s2) (sm.free nR) hRr pm
end
noncomputable abbrev vB:Stmt:=top 66
theorem take_takeWhile p:∀l:List α,l.take (l.takeWhile p).length=l.takeWhile p
 |[]=>rfl
 |a::l=>by
  by_cases h:p a=true
  .rw[mC,ah h,aY,take_succ_cons,take_takeWhile p l]
  .rw[mC,af h];rfl
theorem oM p:∀l:List α,l.drop (l.takeWhile p).length=l.dropWhile p
 |[]=>rfl
 |a::l=>by
  by_cases h:p a=true
  .rw[mC,ah h,aY,drop_succ_cons,oM p l,mE,ah h]
  .rw[mC,af h,mE,af h];rfl
theorem y6{f:α->Option β}:∀{l}{i:Nat}{x},l[i]?=some x->f x=none->cG f l=none
 |[],i,x,h,_=>by simp at h
 |a::l,0,x,h,hf=>by
  have e:=Option.some.inj h;subst e;unfold cG;rw[hf]
 |a::l,i+1,x,h,hf=>by
  unfold cG;rw[y6 (i:=i) (x:=x) ‹h› hf];cases f a<;>rfl
section
variable {Cc:Addr}
def y8(Cp:Addr)(H:Hp)(L:Addr)(rs:List (List Int))(ps:List MP):Prop:=∃rv,Paired (fW H) rv rs/\yZ Cp H L rv ps
theorem y8.same{ps:List MP}(h:y8 Cp H L rs ps)(s:aw H H'):y8 Cp H' L rs ps:=by
 obtain⟨rv,h1,h2⟩:=h;exact⟨rv,Paired.fR h1 λ_ _ z=>z.same s,h2.same s⟩
noncomputable def cb(ns:List Int):List Nat:=ns.map λn=>sg n.toNat
noncomputable def Vt(rs:List (List Int))(Dy:List (List (List Nat))):Option (List (List Int)×List MP):=match cG (λws=>eC ws rs) Dy with
 |none=>none|some pools=>if(pools.map (·.name)).Nodup then some (rs,pools)else none
def PR(K:PySem.W.Frag)(NC Cp:Addr):Sp:=λvs H Q E=>∃(a:Addr) (ns:List Int),vs=[.ref a]/\aJ K H a (ns.map V.int)/\(∀n∈ns,0<=n/\n<=255)/\ns.length<=66000/\
 (∀rs ps,d6 (cb ns)=some (rs,ps)->∀H' c,aw H H'->y8 Cp H' c rs ps->Q (.ref c) H')/\(d6 (cb ns)=none->∀H',aw H H'->E (.ref NC) none H')
def m5:aC ["codes","lines","race_count","races","pool_lines","pools","words"] ["codes"] (ao vB):=by ac_nf
def TF(D:Def K mg "read_card" vB ["codes"])(T:Tx mg)(js:Ok P w K mg base eJ 2 "text_of" ["codes"] (IA K))(ib:Ok P w K mg base eJ 2 "lines_of" ["text"] Dt)(aZ:Ok P w K mg base (fT P w) 1 "demand" ["holds"] (aD NC))(oN:Ok P w K mg base (fT P w) 3 "check_day" ["words"] (Vr NC))(kR:Ok P w K mg base eJ 1 "count_races" ["lines"] KG)(oO:Ok P w K mg base (fT P w) 3 "read_race" ["words"] (PF NC))(oP:Ok P w K mg base (fT P w) 4 "read_pool" ["words","races"] (PQ NC Cp))(fb:Ok P w K mg base (fT P w) 2 "check_names_differ" ["pools"] (Gg NC Cp)):
  Ok P w K mg base (fT P w) 5 "read_card" ["codes"] (PR K NC Cp):=by
 refine D.BL m5 (λvs H Q E h=>?_) (λf b8 A outer s H vs Q E hr h=>?_)
 .obtain⟨_,_,rfl,_⟩:=h;rfl
 .obtain⟨a,ns,rfl,hS,hb,hl,kQ,kE⟩:=h;obtain⟨tT,hT,kT⟩:∃tT:TS,vM (j5 (fT P w) P w K mg base ["codes","lines","race_count","races","pool_lines","pools","words"] "read_card" (ao vB) f b8 A outer s H E) ((cj vB).drop 8) tT/\
    ∀(L D1 p2:Addr)(m:Int)(H6:Hp)(ys xs2:List V)(rs:List (List Int))(Dy:List (List (List Nat))),aw H H6->H6 D1=some (.lst ys)->Paired (fW H6) ys rs->H6 p2=some (.lst xs2)->Paired (λv ws=>∃p,v=.ref p/\Words H6 p ws) xs2 Dy->Dy.length<=70000->d6 (cb ns)=Vt rs Dy->
     tT {nx:=λ_ H'=>Q .cT H',rt:=Q} [some (.ref a),some (.ref L),some (.int m),some (.ref D1),some (.ref p2),none,none] H6:=by
   refine⟨_,(ag (BM (own:=[("words",6)]) (E:=E) rfl rfl rfl aH rfl m5.nd (i:=5) rfl rfl (tE rfl rfl rfl rfl) (bY (pv 4)) (bL (N:=["codes","lines","race_count","races","pool_lines","pools","words"]) (sc:=ao vB) (by decide+kernel)) (λ_ _ _ _ _=>aT (i:=6) m5.nd rfl (Or.inl rfl)) (λ_ _ _ _ _=>da) (λ_ _ _ _ _=>(ax (E:=E) oP (hr.mono ⋯) rfl (aX Ii) (ae (pv 6) (ae (pv 3) ai))))) (ag (aS (ax (E:=E) fb (hr.mono ⋯) rfl (aX aH) (ae (pv 5) ai))) (au (aI (pv 5))))),λL D1 p2 m H6 ys xs2 rs Dy s06 iJ hR5 Xz XA YJ pm=>?_⟩;have hz:=bH;have y9:=Paired.dQ XA;unfold Vt at pm;refine⟨p2,rfl,⟨_,aJ.of Xz⟩,λD2 TH=>?_⟩;refine fz (xs:=xs2) (λH v (r:MP)=>∃q dx Rr,v=.ref q/\q≠D2/\Rr≠D2/\H q=some (.ins Cp dx (B2 Rr r))/\H Rr=some (.lst (mZ .cT ys r.kind r.k r.race))) Dy (λws=>eC ws rs) (by rw[y9]) (by rw[y9];omega) TH (aJ.of Xz) ?_ ?_ ?_
   .rintro H7 H8 v r sb ⟨q,dx,Rr,e,n,n2,h1,h2⟩;exact⟨q,dx,Rr,e,n,n2,sb _ _ n h1,sb _ _ n2 h2⟩
   .intro i x u H' hx hu sm oJ R k2;obtain⟨u',Kf,q,rfl,hw⟩:=Paired.at' XA hx;have eu:u'=u:=Option.some.inj (Kf.symm.trans hu);subst eu;obtain⟨acc,oJ⟩:=oJ;refine⟨q,D1,u',ys,rs,rfl,hw.same sm,sm _ _ iJ,Paired.fR hR5 λ_ _ z=>z.same sm,λr er H7 b dx Rr s7 hb hb2 hn Yz=>?_,λer H7 s7=>?_⟩
    .exact k2 _ _ _ er s7 ⟨b,dx,Rr,rfl,λz=>(by rw[z,oJ]at hn;cases hn),λz=>(by rw[z,oJ]at Yz;cases Yz),hb,hb2⟩
    .exact kE (by rw[pm,y6 (f:=λws=>eC ws rs) hu er]) H7 (s06.trans (sm.trans s7))
   .intro H7 ys2 ps XB ady Px adz;rw[Px]at pm;dsimp only at pm;have s07:=s06.trans XB;have hP7:yZ Cp H7 D2 ys ps:=⟨by rw[gA Px];omega,ys2,ady,Paired.fR adz λv r ⟨q,dx,Rr,e,_,_,h,h'⟩=>⟨q,dx,Rr,e,h,h'⟩⟩;refine⟨D2,ys,ps,rfl,hP7,λH8 s8=>?_⟩;refine bj (λb4=>?_) (λb4=>kE (by rw[pm,af b4]) H8 (s07.trans s8));rw[ah b4]at pm;exact kQ rs ps pm H8 D2 (s07.trans s8) ⟨ys,Paired.fR hR5 λ_ _ z=>z.same (XB.trans s8),hP7.same s8⟩
  refine⟨_,(ag (aM (i:=1) m5.nd rfl (Or.inl rfl) (ax ib (hr.mono ⋯) rfl cp (ae (ax js (hr.mono ⋯) rfl cp (ae (pv 0) ai)) ai))) (ag (aS (ax (E:=E) aZ (hr.mono ⋯) rfl (aX aH) (ae (kL (aU J_ (pv 1) xZ (aG _)) (iV (aU yb (aB aA (by rfl) T.b_ bF (ae (pv 1) ai)) aq (aG _)))) ai))) (ag (aS (ax (E:=E) oN (hr.mono ⋯) rfl (aX aH) (ae (bz aL (pv 1) aq (λ_ _=>rfl)) ai))) (ag (aM (i:=2) m5.nd rfl (Or.inl rfl) (ax kR (hr.mono ⋯) rfl cp (ae (pv 1) ai))) (ag (aS (ax (E:=E) aZ (hr.mono ⋯) rfl (aX aH) (ae (yc jG jG aq (pv 2) (cK T.gG rfl)) ai))) (ag (aM (i:=3) m5.nd rfl (Or.inr rfl) (Ij (own:=[("words",6)]) (E:=E) rfl rfl rfl aH rfl m5.nd (bY (iH kg (pv 1) (iA aq) (iA (bO gm aq (pv 2))))) (bL (N:=["codes","lines","race_count","races","pool_lines","pools","words"]) (sc:=ao vB) (by decide+kernel)) (λ_ _ _ _ _=>aT (i:=6) m5.nd rfl (Or.inl rfl)) (λ_ _ _ _ _=>da) (λ_ _ _ _ _=>(ax (E:=E) oO (hr.mono ⋯) rfl (aX Ii) (ae (pv 6) ai))))) (ag (aM (i:=4) m5.nd rfl (Or.inl rfl) (iH kg (pv 1) (iA (bO gm aq (pv 2))) pZ)) (ag (aS (ax (E:=E) aZ (hr.mono ⋯) rfl (aX aH) (ae (aU jG (aB aA (by rfl) T.b_ bF (ae (pv 4) ai)) (cK T.gH rfl) (aG _)) ai))) hT)))))))),?_⟩;have hz:=bH;have AF:(cb ns).length<=66000:=by unfold cb;rw[az];exact hl
  have hc1:∀c∈cb ns,c<128:=λc hc=>by
   unfold cb at hc;obtain⟨n,_,rfl⟩:=mem_map.mp hc;exact Vq _
  simp? only[aD];refine⟨a,ns,rfl,hS,hb,hl,λH1 s1=>⟨cb ns,rfl,AF,hc1,?_⟩⟩;have pm:d6 (cb ns)=d6 (cb ns):=rfl
  conv at pm=>rhs;unfold d6
  cases eL:iX (cb ns)with
  |none=>
   rw[eL]at pm;intro H2 s2;rw[af (Classical.not_not.mpr rfl)];exact kE pm H2 (s1.trans s2)
  |some ls=>
  rw[eL]at pm;intro H2 L s2 hL;have s02:=s1.trans s2;have HA:d6 (cb ns)=none->E (.ref NC) none H2:=λz=>kE z H2 s02;simp? only[aD,reduceCtorEq,not_false_eq_true];obtain⟨hll,as,hA,hp⟩:=id hL;have hlen:=Paired.dQ hp;refine⟨_,.inl (aJ.of hA),?_⟩;cases ls with
  |nil=>
   have e0:as.length=0:=by rw[hlen];rfl
   rw[e0];exact HA pm
  |cons d ls=>
  refine bj (λ_=>?_) (λz=>absurd (show(0:Int)<as.length by rw[hlen];simp) z);obtain⟨v0,MM,p0,rfl,hw0⟩:=Paired.Hx hp (i:=0) rfl;refine⟨_,aJ.of hA,_,dG MM,p0,d,rfl,hw0,λH3 s3=>?_⟩;have s03:=s02.trans s3;dsimp only at pm;refine bj (λb1=>?_) (λb1=>kE (by rw[pm,ah ‹b1›]) H3 s03);rw[af (by rw[b1];decide)]at pm;refine⟨L,d,ls,rfl,hL.same s3,λH4 s4=>?_⟩;have s04:=s03.trans s4;have s24:=s3.trans s4;have hL4:=hL.same s24;simp? only[aD];generalize hm0:(List.takeWhile cY ls).length=m at*;have eT:ls.take m=ls.takeWhile cY:=by rw[<-hm0,take_takeWhile]
  have eD:ls.drop m=ls.dropWhile cY:=by rw[<-hm0,oM]
  refine bj (λb2=>?_) (λb2=>kE (by rw[pm,ah ()]) H4 s04);rw[af (),<-eT,<-eD]at pm;have hA4:=s24 _ _ hA;refine⟨_,aJ.of hA4,λp YV=>⟨p,rfl,⟨_,aJ.of ak⟩,λD1 Vu=>?_⟩⟩;have ec:lH as (some 1) (some (1+(m:Int)))=(as.drop 1).take m:=by
   have:=F_ as 1 (1+m);rw[Nat.add_sub_cancel_left]at this;rw[<-this];congr 2
  rw[ec]at Vu⊢;have s5:aw H4 (upd H4 p (.lst ((as.drop 1).take m))):=aw.new YV;have s25:=s24.trans s5;have hpL:Paired (λv ws=>∃p,v=.ref p/\Words H2 p ws) (as.drop 1) ls:=Paired.drop' 1 hp;have aaA:=Paired.dQ hpL;simp only[length_cons]at hll;refine fz (xs:=(as.drop 1).take m) (λH v (r:List Int)=>∃q,v=.ref q/\q≠D1/\H q=some (.lst (r.map V.int))) (ls.take m) gw (by rw[cS,cS,aaA]) (by rw[cS];omega) Vu (aJ.of ak) ?_ ?_ ?_
  .rintro H5 H6 v r sb ⟨q,e,n,h1⟩;exact⟨q,e,n,sb _ _ n h1⟩
  .intro i x u H' hx hu sm oJ R k2;obtain⟨u',Kf,q,rfl,hw⟩:=Paired.at' (Paired.take' m hpL) hx;have eu:u'=u:=Option.some.inj (Kf.symm.trans hu);subst eu;obtain⟨acc,oJ⟩:=oJ;refine⟨q,u',rfl,hw.same (s25.trans sm),λr er H6 b s6 hb hn=>?_,λer H6 s6=>?_⟩
   .exact k2 _ _ _ er s6 ⟨b,rfl,λz=>(by rw[z,oJ]at hn;cases hn),hb⟩
   .exact kE (by rw[pm,y6 hu er]) H6 ((s02.trans s25).trans (sm.trans s6))
  .intro H5 ys rs sm5 iJ hm RQ;rw[hm]at pm;dsimp only at pm;have XC:=s25.trans sm5;have s05:=s02.trans XC;have hR5:Paired (fW H5) ys rs:=Paired.fR RQ λv r ⟨q,e,_,h⟩=>⟨q,e,h⟩;refine⟨_,aJ.of (XC _ _ hA),λp2 MN=>?_⟩;have ec2:lH as (some (1+(m:Int))) none=(as.drop 1).drop m:=by
    rw[drop_drop,<-qk];congr 2
   rw[ec2];have XA:=Paired.drop' m hpL;have y9:=Paired.dQ XA;refine⟨_,.inl (aJ.of ak),?_⟩;rw[y9];have s6:aw H5 (upd H5 p2 (.lst ((as.drop 1).drop m))):=aw.new MN;have s06:=s05.trans s6;have s26:=XC.trans s6;refine bj (λb3=>?_) (λb3=>kE (by rw[pm,ah ()]) _ s06);rw[af ()]at pm;refine kT L D1 p2 m _ ys _ rs (ls.drop m) s06 (s6 _ _ iJ) (Paired.fR hR5 λ_ _ z=>z.same s6) ak (Paired.fR XA λ_ _ adA=>?_) (by rw[dU];omega) pm;obtain⟨p,e,z⟩:=adA;exact⟨p,e,z.same s26⟩
end
noncomputable abbrev Dz:Stmt:=top 10
noncomputable abbrev DA:Stmt:=top 9
noncomputable abbrev DB:Stmt:=top 11
noncomputable abbrev DC:Stmt:=top 8
noncomputable abbrev DE:Stmt:=top 3
noncomputable abbrev DF:Stmt:=top 4
section
variable {Cc:Addr}
def DG:Sp:=λvs H Q _=>∃n k:Int,vs=[.int n,.int k]/\0<=n/\n<=70000/\0<=k/\k<=100/\Q (.int (jK n k.toNat)) H
def xx:aC ["interests","k","rows","taken"] ["interests","k"] (ao Dz):=by ac_nf
def PU(D:Def K mg "count_rows" Dz ["interests","k"])(T:Tx mg):Ok P w K mg base eJ 1 "count_rows" ["interests","k"] DG:=by
 refine D.ok xx (λvs H Q E h=>?_) (λf b8 A outer s H vs Q E hr h=>?_)
 .obtain⟨_,_,rfl,_⟩:=h;rfl
 .obtain⟨n,k,rfl,n0,n1,k0,k1,kQ⟩:=h;refine⟨_,(ag (aM (i:=2) xx.nd rfl (Or.inl rfl) aq) (ag (fS iS rfl (Bj rfl T.gJ (ae (pv 1) ai)) (aT (i:=3) xx.nd rfl (Or.inl rfl)) (au (x9 (i:=2) xx.nd rfl (Or.inl rfl) (bO gn (pv 0) (pv 3)) O2))) (au (aI (pv 2))))),?_⟩;refine⟨k,rfl,by omega,by omega,Bl (lo:=0) (n:=k.toNat) (λi σ H'=>∃v:Option V,σ=[some (.int n),some (.int k),some (.int (jK n i)),v]/\H'=H) ⟨none,rfl,rfl⟩ ?_ ?_⟩
  .rintro i σ H' hi ⟨v,rfl,e⟩;subst e;refine⟨.inr (),some (.int (0+(i:Int))),?_,rfl⟩;rw[yL,mJ];rfl
  .rintro σ H' ⟨v,rfl,e⟩;subst e;exact kQ
def DI:Sp:=λvs H Q _=>∃(R:Addr) (rs:List (List Int)),vs=[.ref R]/\nV H R rs/\(∀r∈rs,r.length<=70000)/\Q (.int (jc rs)) H
def xA:aC ["lists","rows","choices"] ["lists"] (ao DA):=by ac_nf
def PV(D:Def K mg "count_choices" DA ["lists"])(T:Tx mg):Ok P w K mg base eJ 1 "count_choices" ["lists"] DI:=by
 refine D.ok xA (λvs H Q E h=>?_) (λf b8 A outer s H vs Q E hr h=>?_)
 .obtain⟨_,_,rfl,_⟩:=h;rfl
 .obtain⟨R,rs,rfl,⟨as,hA,hp⟩,hb,kQ⟩:=h;refine⟨_,(ag (aM (i:=1) xA.nd rfl (Or.inl rfl) aq) (ag (fS iS rfl (bY (pv 0)) (aT (i:=2) xA.nd rfl (Or.inl rfl)) (au (x9 (i:=1) xA.nd rfl (Or.inl rfl) (aB aA (by rfl) T.b_ bF (ae (pv 2) ai)) O2))) (au (aI (pv 1))))),?_⟩;have hlen:=Paired.dQ hp;refine⟨R,rfl,⟨_,aJ.of hA⟩,lE (K:=K) (a:=R) (xs:=as) (λi σ H'=>∃v:Option V,σ=[some (.ref R),some (.int (jc (rs.take i))),v]/\H'=H) ⟨none,rfl,rfl⟩ (λi σ H' _ ⟨_,_,e⟩=>by rw[e];exact aJ.of hA) ?_ ?_⟩
  .rintro i y σ H' hi ⟨v,rfl,e⟩;subst e;obtain⟨r,AK,p,rfl,mq⟩:=Paired.at' hp hi;have:=hb r (bh AK);refine⟨_,.inl (aJ.of mq),.inr (by rw[az];omega),some (.ref p),?_,rfl⟩;rw[az,bw AK];unfold jc;rw[sS];rfl
  .rintro σ H' ⟨v,rfl,e⟩;subst e;rw[hlen,eM];exact kQ
noncomputable def B3(n k:Int):Int:=jK n k.toNat/jK k k.toNat
def KI(h0:0<=k)(h6:k<=6):0<jK k k.toNat/\jK k k.toNat<1073741824:=by
 have:∀k:Fin 7,0<jK (k.val:Int) k.val/\jK (k.val:Int) k.val<1073741824:=by decide+kernel
 have h:=this ⟨k.toNat,by omega⟩;have e:((k.toNat:Nat):Int)=k:=by omega
 simpa[e]using h
def xB:Sp:=λvs H Q _=>∃n k:Int,vs=[.int n,.int k]/\0<=n/\n<=70000/\0<=k/\k<=6/\Q (.int (B3 n k)) H
def TJ:aC ["interests","k"] ["interests","k"] (ao DB):=by ac_nf
def PX(D:Def K mg "count_sets" DB ["interests","k"])(dY:Ok P w K mg base eJ 1 "count_rows" ["interests","k"] DG):Ok P w K mg base eJ 2 "count_sets" ["interests","k"] xB:=by
 refine D.ok TJ (λvs H Q E h=>?_) (λf b8 A outer s H vs Q E hr h=>?_)
 .obtain⟨_,_,rfl,_⟩:=h;rfl
 .obtain⟨n,k,rfl,n0,n1,k0,k1,kQ⟩:=h;refine⟨_,(au (aI (bO SE (ax dY (hr.mono ⋯) rfl cp (ae (pv 0) (ae (pv 1) ai))) (ax dY (hr.mono ⋯) rfl cp (ae (pv 1) (ae (pv 1) ai)))))),?_⟩;have hd:=KI k0 k1;unfold B3 at kQ;exact⟨_,_,rfl,by omega,by omega,by omega,by omega,_,_,rfl,by omega,by omega,by omega,by omega,hd,kQ⟩
def KJ(K:PySem.W.Frag):Sp:=λvs H Q _=>∃(a:Addr) (ms:List Int),vs=[.ref a]/\aJ K H a (ms.map V.int)/\∀H',aw H H'->Q (.int (Dq ms)) H'
def TK:aC ["money"] ["money"] (ao DF):=by ac_nf
theorem Gh:∀ms:List Int,L2.oF (ms.map V.int)=(yM ms).map V.int
 |[]=>rfl|[_]=>rfl
 |_::b::r=>by
  rw[aP,aP,xc,Gh r];rfl
def PY(D:Def K mg "sum_of_cents" DF ["money"])(T:Tx mg):Ok P w K mg base eJ 1 "sum_of_cents" ["money"] (KJ K):=by
 refine D.ok TK (λvs H Q E h=>?_) (λf b8 A outer s H vs Q E hr h=>?_)
 .obtain⟨_,_,rfl,_⟩:=h;rfl
 .obtain⟨a,ms,rfl,hS,kQ⟩:=h;refine⟨_,(au (aI (aB (FL rfl) (by rfl) T.BZ boot_sum (ae (qe (pv 0) aq aq) ai)))),?_⟩;refine⟨a,_,1,rfl,rfl,rfl,hS,λp hp=>?_⟩;rw[show L2.bp ((ms.map V.int).drop 1)=L2.oF (ms.map V.int)from rfl,Gh];exact⟨_,aJ.of ak,kQ _ (aw.new hp)⟩
def KL(K:PySem.W.Frag):Sp:=λvs H Q _=>∃(a:Addr) (ms:List Int) (n:Int),vs=[.ref a,.int n]/\aJ K H a (ms.map V.int)/\ms.length<=2000000/\ms.length%2=0/\∀H',aw H H'->Q (.bl (gB ms n)) H'
def xC:aC ["money","combinations","before","at"] ["money","combinations"] (ao DE):=by ac_nf
def aaB{l:List α}(h:j+1<l.length):∃a b,l[j]?=some a/\l[j+1]?=some b/\l.drop j=a::b::l.drop (j+2):=by
 refine⟨l[j],l[j+1],bg _,bg _,?_⟩;rw[mv (show j<l.length by omega),mv (show j+1<l.length by omega)]
def KN{ms:List Int}{z:Int}{x:Int}(e:z=(j:Int))(h:ms[j]?=some x):NU (ms.map V.int) z=some (.int x):=at_of e (by rw[a_,h];rfl)
def PZ(D:Def K mg "is_right" DE ["money","combinations"])(T:Tx mg)(jN:Ok P w K mg base eJ 1 "sum_of_cents" ["money"] (KJ K)):Ok P w K mg base eJ 2 "is_right" ["money","combinations"] (KL K):=by
 refine D.ok xC (λvs H Q E h=>?_) (λf b8 A outer s H vs Q E hr h=>?_)
 .obtain⟨_,_,_,rfl,_⟩:=h;rfl
 .obtain⟨a,ms,n,rfl,hS,hl,h2,kQ⟩:=h;refine⟨_,(ag (cZ (bt yb (aB aA (by rfl) T.b_ bF (ae (pv 0) ai)) (bO rk aq (cK T.gD rfl)) (aG _)) (au (aI qH)) bD) (ag (aM (i:=2) xC.nd rfl (Or.inl rfl) (qI kM aq)) (ag (fS iS rfl (uA rfl T.gJ (ae aq (ae (aB aA (by rfl) T.b_ bF (ae (pv 0) ai)) (ae aq ai)))) (aT (i:=3) xC.nd rfl (Or.inl rfl)) (ag (cZ (x5 (yd Bn Bn (pv 2) (bz aL (pv 0) (pv 3) (λ_ _=>rfl)) (pv 1))) (au (aI qH)) bD) (ag (cZ (bt Bn (bz aL (pv 0) (bO gm (pv 3) aq) (λ_ _=>rfl)) aq (aG _)) (au (aI qH)) bD) (au (aM (i:=2) xC.nd rfl (Or.inl rfl) (bz aL (pv 0) (pv 3) (λ_ _=>rfl))))))) (au (aI (aU jG (ax jN (hr.mono ⋯) rfl cp (ae (pv 0) ai)) (cK T.gE rfl) (aG _))))))),?_⟩;have Gi:=kQ H λ_ _ h=>h;simp? only[];refine⟨_,.inl hS,.inl ⋯,?_⟩;rw[az];refine bj (λb=>?_) (λb0=>?_)
  .unfold gB at Gi;rw[cR ()]at Gi;exact Gi
  have hl5:decide (ms.length<=524288)=true:=g_ ();obtain⟨m,hm⟩:∃m,ms.length=2*m:=⟨ms.length/2,by omega⟩;simp? only[bS];refine⟨a,rfl,_,.inl hS,0,_,2,m,rfl,?_,?_⟩
  .rw[az];refine Vb.up ⋯ ⋯ ⋯ ⋯ () () ?_;split<;>omega
  refine rm (λi σ H'=>∃(v:Option V) (bf:Int),σ=[some (.ref a),some (.int n),some (.int bf),v]/\H'=H/\kn n (-1) ms=kn n bf (ms.drop (2*i))) ⟨none,-1,rfl,rfl,rfl⟩ ?_ ?_
  .rintro i σ H' hi ⟨v,bf,rfl,e,hg⟩;subst e;obtain⟨x,y,gx,gy,gd⟩:=aaB (l:=ms) (j:=2*i) ();rw[gd]at hg;have qx:=KN (z:=0+(i:Int)*2) () gx;have qy:=KN (z:=0+(i:Int)*2+1) () gy;simp? only[];have kF:kn n (-1) ms=false->Q (.bl false) H':=λz=>by
    have k1:=Gi;unfold gB at k1;rw[z,Bool.false_and,Bool.and_false]at k1;exact k1
   have hg2:kn n bf (x::y::ms.drop (2*i+2))=(decide (bf<x)&&(decide (x<n)&&(decide (1<=y)&&kn n x (ms.drop (2*i+2))))):=rfl;rw[hg2]at hg;refine⟨_,hS,_,qx,x,rfl,?_⟩;refine bj (λb1=>⟨x,rfl,?_⟩) (λb1=>?_)
   .refine bj (λb2=>kF (by rw[hg,cR b2];simp)) (λb2=>?_);have b2:x<n:=Classical.not_not.mp b2;simp? only[bS];refine⟨_,hS,_,qy,y,rfl,?_⟩;refine bj (λb3=>kF (by rw[hg,cR (show¬1<=y by omega)];simp)) (λb3=>?_);refine⟨_,hS,_,qx,some (.int (0+(i:Int)*2)),x,⟨rfl,rfl⟩,?_⟩;rw[hg,g_ b1,g_ b2,g_ (show 1<=y by omega)];rfl
   .exact kF (by rw[hg,cR b1];rfl)
  .rintro σ H' ⟨v,bf,rfl,e,hg⟩;subst e;rw[sA ()]at hg;refine⟨a,ms,rfl,hS,λH1 s1=>?_⟩;have k1:=kQ H1 s1;unfold gB at k1;rw[hg,hl5]at k1;exact k1
end
noncomputable abbrev dZ:Stmt:=inClass (top 76) 0
def IK n fs:(fV n fs).length<=n:=by
 refine aW (kG _ _) ?_;simp
def MO{r:List Int}(h:gw ws=some r):r.length<=24:=by
 unfold gw at h;split at h
 .cases h
 split at h
 .cases h
 rename_i n hw;have hn:=dg hw;split at h
 .cases h
 cases h;exact aW (IK _ _) ()
def y_{ps:List MP}(h:d6 codes=some (rs,ps)):∀r∈rs,r.length<=24:=by
 unfold d6 at h;split at h
 .cases h
 .cases h
 split at h
 .cases h
 split at h
 .cases h
 split at h
 .cases h
 rename_i hr;split at h
 .cases h
 split at h
 .cases h
 split at h
 .cases h;intro r hm;obtain⟨ws,_,h1⟩:=oH hr r hm;exact MO h1
 .cases h
def P0{F:V->List Int->Prop}(h:Paired F rv rs)(pin:MA rs q):Paired F (mZ .cT rv q.kind q.k q.race) (mZ [] rs q.kind q.k q.race):=by
 have r1:=pin.r1;have r2:=pin.r2;unfold mZ;by_cases b:q.kind=cg
 .rw[ah b,ah b];exact Paired.take' _ (Paired.drop' _ h)
 .rw[af b,af b];have hl:(q.race-1).toNat<rs.length:=by omega
  obtain⟨v,hv,hf⟩:=Paired.Hx h (bg hl);rw[cQ,cQ,hv,bg hl];exact .cons hf .nil
section
variable {Ca:Addr}
theorem oK.at(h:oK Cp H rv v q)(hp:Paired (fW H) rv rs)(pin:MA rs q):jM Cp H v rs q:=by
 obtain⟨p,dx,Rr,e,h1,h2⟩:=h;exact⟨p,dx,Rr,e,h1,_,h2,P0 hp pin⟩
def KO(Cp:Addr):Sp:=λvs H Q _=>∃(p:Addr) (rs:List (List Int)) (q:MP),vs=[.ref p]/\jM Cp H (.ref p) rs q/\MA rs q/\(∀r∈rs,r.length<=24)/\∀H',aw H H'->Q (.int (countM rs q)) H'
def KP:aC ["pool","interests"] ["pool"] (ao DC):=by ac_nf
def DJ:Str.ofString "place"=S dy:=by decide+kernel
def KQ:Str.ofString "order"=S dz:=by decide+kernel
def P2(D:Def K mg "count_combinations" DC ["pool"])(Pl:Fh K Cp)(p2:cD K Cp "kind")(p3:cD K Cp "k")(p4:cD K Cp "races")(T:Tx mg)(dY:Ok P w K mg base eJ 1 "count_rows" ["interests","k"] DG)(fA:Ok P w K mg base eJ 2 "count_sets" ["interests","k"] xB)(c6:Ok P w K mg base eJ 1 "count_choices" ["lists"] DI):Ok P w K mg base eJ 3 "count_combinations" ["pool"] (KO Cp):=by
 refine D.ok KP (λvs H Q E h=>?_) (λf b8 A outer s H vs Q E hr h=>?_)
 .obtain⟨_,_,_,rfl,_⟩:=h;rfl
 .obtain⟨p,rs,q,rfl,⟨p',dp,Rr,e,hp,hR⟩,pin,hb,kQ⟩:=h;cases e;refine⟨_,(ag (cZ (bt cC (bu (pv 0) rfl) bo (aG _)) (au (aI (ax c6 (hr.mono ⋯) rfl cp (ae (bu (pv 0) rfl) ai)))) bD) (ag (aM (i:=1) KP.nd rfl (Or.inl rfl) (aB aA (by rfl) T.b_ bF (ae (bz aL (bu (pv 0) rfl) aq (λ_ _=>rfl)) ai))) (ag (cZ (bt cC (bu (pv 0) rfl) bo (aG _)) (au (aI (pv 1))) bD) (ag (cZ (bt cC (bu (pv 0) rfl) bo (aG _)) (au (aI (ax dY (hr.mono ⋯) rfl cp (ae (pv 1) (ae (bu (pv 0) rfl) ai))))) bD) (au (aI (ax fA (hr.mono ⋯) rfl cp (ae (pv 1) (ae (bu (pv 0) rfl) ai))))))))),?_⟩;have Gi:=kQ H λ_ _ h=>h;have k1:=pin.k1;have k2:=pin.k2;have r1:=pin.r1;have r2:=pin.r2;refine⟨Cp,dp,_,hp,Pl,p2,_,rfl,?_⟩;rw[yY];simp only[tC,U9,qM,pW,Fc,V.str.injEq,cO,decide_eq_true_eq];unfold countM at kQ Gi;unfold mZ at hR;refine bj (λb=>?_) (λb=>?_)
  .simp only[if_pos b]at kQ Gi hR;refine⟨Cp,dp,_,hp,Pl,p4,_,rfl,Rr,_,rfl,hR,λr AK=>?_,Gi⟩;have:=hb r (oq (mem_of_mem_take AK));omega
  .simp only[if_neg b]at kQ Gi hR;obtain⟨as,hA,Gj⟩:=hR;obtain⟨v,hv,pr,rfl,mq⟩:=Paired.Hx Gj (i:=0) rfl;have AQ:(rs.getD (q.race-1).toNat []).length<=24:=by
    refine hb _ ?_;rw[cQ,bg (show(q.race-1).toNat<rs.length by omega)];exact pS _
   refine⟨Cp,dp,_,hp,Pl,p4,_,rfl,_,aJ.of hA,_,dG hv,_,.inl (aJ.of mq),?_⟩;refine⟨Cp,dp,_,hp,Pl,p2,_,rfl,?_⟩;rw[DJ];simp only[tC,U9,qM,pW,Fc,V.str.injEq,cO,decide_eq_true_eq,length_map];refine bj (λb1=>?_) (λb1=>?_)
   .rw[ah b1]at Gi;exact Gi
   rw[af b1]at Gi;refine⟨Cp,dp,_,hp,Pl,p2,_,rfl,?_⟩;rw[KQ];simp only[tC,U9,qM,pW,Fc,V.str.injEq,cO,decide_eq_true_eq,length_map];refine bj (λb2=>?_) (λb2=>?_)
   .rw[ah b2]at Gi;exact⟨Cp,dp,_,hp,Pl,p3,_,rfl,_,_,rfl,by omega,by omega,by omega,by omega,Gi⟩
   rw[af b2]at Gi;have hd:=KI (k:=q.k) () ();rw[wd _ ()]at Gi;exact⟨Cp,dp,_,hp,Pl,p3,_,rfl,_,_,rfl,by omega,by omega,by omega,by omega,Gi⟩
noncomputable def aaC(r c:Int)(v:V):List (Str×V):=[("refusal",.int r),("combinations",.int c),("bet",v)]
def oQ(Ca:Addr):Sp:=λvs H Q _=>∃(p dx:Addr) (r c:Int) (v:V),vs=[.ref p,.int r,.int c,v]/\H p=some (.ins Ca dx [])/\∀H',H' p=some (.ins Ca dx (aaC r c v))->(∀b o,H b=some o->b≠p->H' b=some o)->Q .cT H'
def Gk:aC ["self","refusal","combinations","bet"] ["self","refusal","combinations","bet"] (ao dZ):=by ac_nf
def DK(F:Te K "__init__" "Asked.__init__" dZ dV f fd)(C:Fh K Ca)(n1:cD K Ca "refusal")(n2:cD K Ca "combinations")(n3:cD K Ca "bet"):
  BO P w K mg base eJ 1 f fd ["self","refusal","combinations","bet"] (oQ Ca):=by
 refine F.okN Gk (λvs H Q E h=>?_) (λb8 A outer s H vs Q E h=>?_)
 .obtain⟨p,dx,r,c,v,rfl,_⟩:=h;rfl
 .obtain⟨p,dx,r,c,v,rfl,hp,k⟩:=h;refine⟨_,(ag (iW (pv 0) (pv 1) rfl) (ag (iW (pv 0) (pv 2) rfl) (au (iW (pv 0) (pv 3) rfl)))),?_⟩;refine⟨p,Ca,dx,[],rfl,hp,C,n1,⋯,?_⟩;refine⟨p,Ca,dx,_,rfl,ak,C,n2,IH,?_⟩;rw[iy];refine⟨p,Ca,dx,_,rfl,ak,C,n3,II,?_⟩;rw[iy];refine k _ ?_ λb o e hb=>by rw[aF hb];exact e
  rw[ak];rfl
def Gm{T:Addr}{t:Tok}{kV dc pm cd ct:Value}(o:K.lookup T=some {cls:=.type "tuple",data:=.seq #[.int 0 t,.none] n}):
  ∀sZ∈([[],[.cT],[.int 0,.cT]]:List (List V)),∃ds,Binds K (PySem.W.fnOf "__init__" "Asked.__init__" (fO dZ) (cj dZ) (ao dZ) (.ref T) kV dc pm an cd ct) ["self","refusal","combinations","bet"] ds/\Vals sZ ds:=by
 intro sZ hd;simp only[mem_cons,not_mem_nil,or_false]at hd;obtain rfl|rfl|rfl:=hd
 .exact⟨[],λs us KX hl=>by obtain⟨_,_,_,_,rfl⟩:=Tj (show us.length=4 by simpa using hl);exact .of_defaults rfl (KX _ _ o) rfl rfl rfl,.nil⟩
 .exact⟨[.none],λs us KX hl=>by obtain⟨_,_,_,rfl⟩:=FY (show us.length=3 by simpa using hl);exact .of_defaults rfl (KX _ _ o) rfl rfl rfl,.cons rfl .nil⟩
 .exact⟨[.int 0 t,.none],λs us KX hl=>by obtain⟨_,_,rfl⟩:=lT (show us.length=2 by simpa using hl);exact .of_defaults rfl (KX _ _ o) rfl rfl rfl,.cons ⟨_,rfl⟩ (.cons rfl .nil)⟩
abbrev CLA(P:Program)(w:World)(K:PySem.W.Frag)(mg:Str->Option Value)(base:Heap)(Ca:Addr):Prop:=CLD P w K mg base "Asked" Ca ["self","refusal","combinations","bet"] (oQ Ca) ["refusal","combinations","bet"] [[],[.cT],[.int 0,.cT]]
end
def fg{g:β->α}:∀{ys}{zs},Paired (λv z=>v=g z) ys zs->ys=zs.map g:=by
 intro ys zs h
 induction h with
 |nil=>rfl|cons e _ ih=>rw[e,ih];rfl
end Pd
end
section
namespace L2
open PySem PySem.Spec PyProof.Rows
abbrev m6(h:Heap)(z TI TO T:Addr)(b:Bool):Prop:=
 h.get? z=some {cls:=.type "zip",dict:=none,data:=.fields #[rawInt T,.bool b,.bool false,.ref TI,.ref TO],slots:= #[]}
section
def tQ{Q:Option Obj->Shared->Prop}(h:Q (s.heap.get? a) s):wpAny M A (loadIfAlive a) Q E s:=λΓ p _=>h
def Gn{TI TO T:Addr}{b:Bool}{Q:Bool->Shared->Prop}(hz:m6 s.heap z TI TO T b)(hT:s.heap.get? T=some oT)(h:∀h',m6 h' z TI TO T true->Heap.SameBut z s.heap h'->Q false {s with heap:=h'}):wpAny (model prog w) A (Builtin.SmallTypes.ownedTupleIsFree (.ref z)) Q E s:=by
 unfold Builtin.SmallTypes.ownedTupleIsFree;refine aj (fC hz rfl rfl ?_);show wpAny _ _ (loadIfAlive (Int.toNat (T:Int))>>=_) _ _ _;rw[gZ];refine aj (tQ ?_);rw[hT,af ∅];refine aj (fC hz rfl (x:=.bool b) rfl ?_);cases b with
 |true=>
  rw[af ∅];exact ay (h s.heap hz ⟨rfl,λ_ _=>rfl⟩)
 |false=>
  rw[ah ⋯];refine aj (wpAny_setField_rec hz ∅ λh₁ hz₁ hs₁=>?_);exact ay (h h₁ hz₁ hs₁)
def AU{TI TO T:Addr}{xs:Array Value}{x y:Value}{b:Bool}(D:ZipApart z TI TO i1 i2 l1 l2)(hz:m6 s.heap z TI TO T b)(hT:s.heap.get? T=some oT)(AG:IsPair s.heap TI (.ref i1) (.ref i2))(h1:s.heap.IsListIter i1 l1 k1)(h2:s.heap.IsListIter i2 l2 k2)(P4:s.heap.IsList l1 xs)(YJ:s.heap.IsList l2 ys)(hx:xs[k1]?=some x)(hy:ys[k2]?=some y)(hQ:∀h',m6 h' z TI TO T true->h'.IsListIter i1 l1 (k1+1)->h'.IsListIter i2 l2 (k2+1)->IsPair h' s.heap.objs.size x y->
   (∀c o,c≠z->c≠i1->c≠i2->s.heap.get? c=some o->h'.get? c=some o)->Q (.ref s.heap.objs.size) {s with heap:=h'}):
  wpAny (model prog w) A (Builtin.«zip.__next__» ⟨[.ref z],[]⟩) (λfin s'=>∃v,fin=.done (.ret v)/\Q v s') E s:=by
 show wpAny _ _ (field (.ref z) 2>>=_) _ _ _;refine aj (fC hz rfl rfl ?_);refine aj (fC hz rfl rfl ?_);refine aj (mF AG rfl ?_);refine aj (Gn hz hT λh₁ hz₁ hs₁=>?_);refine aj ?_;rw[<-wx];refine aj (aj (gj ?_));refine aj (wpAny_nextOf_list_item (h1.extBut hs₁.extBut D.i1z) (P4.extBut hs₁.extBut D.l1z) hx λh₂ h1₂ hs₂=>ay ?_);refine ay ?_;refine aj (aj (gj ?_));refine aj (wpAny_nextOf_list_item ((h2.extBut hs₁.extBut D.i2z).extBut hs₂.extBut D.i12.symm)
  ((YJ.extBut hs₁.extBut D.l2z).extBut hs₂.extBut D.l2i1) hy λh₃ h2₃ hs₃=>ay ?_)
 refine ay ?_;refine ay ?_;refine aj (wpAny_newTuple ?_ (by show 2<=sizeLine;rw[cx];decide));have fY:h₃.objs.size=s.heap.objs.size:=by rw[hs₃.1,hs₂.1,hs₁.1]
 refine ay ⟨_,rfl,?_⟩;rw[fY];have up:∀c o,h₃.get? c=some o->(h₃.push {cls:=.type "tuple",data:=.seq #[x,y]}).get? c=some o:=λc o e=>bN _ e;refine hQ _ (up _ _ (hs₃.extBut _ _ D.i2z.symm (hs₂.extBut _ _ D.i1z.symm hz₁))) ((h1₂.extBut hs₃.extBut D.i12).at λo e=>up _ o e) (h2₃.at λo e=>up _ o e) ?_ λc o c1 c2 c3 e=>up c o (hs₃.extBut _ _ c3 (hs₂.extBut _ _ c2 (hs₁.extBut _ _ c1 e)));rw[<-fY];exact bq _ rfl
def DL{TI TO T:Addr}{k1 k2:Nat}{xs ys:Array Value}{b:Bool}{Q:Fin->Shared->Prop}(hh:A.handled=none)(D:ZipApart z TI TO i1 i2 l1 l2)(hz:m6 s.heap z TI TO T b)(hT:s.heap.get? T=some oT)(AG:IsPair s.heap TI (.ref i1) (.ref i2))(h1:s.heap.IsListIter i1 l1 k1)(P4:s.heap.IsList l1 xs)(hx:xs[k1]?=none)(hE:∀h' e,(∀c o,c≠z->c≠i1->s.heap.get? c=some o->h'.get? c=some o)->(∃o,h'.get? e=some o/\o.cls=.type "StopIteration")->E (.ref e) {s with heap:=h'}):
  wpAny (model prog w) A (Builtin.«zip.__next__» ⟨[.ref z],[]⟩) Q E s:=by
 show wpAny _ _ (field (.ref z) 2>>=_) _ _ _;refine aj (fC hz rfl rfl ?_);refine aj (fC hz rfl rfl ?_);refine aj (mF AG rfl ?_);refine aj (Gn hz hT λh₁ hz₁ hs₁=>?_);refine aj ?_;rw[<-wx];refine aj (aj (gj ?_));refine aj (wpAny_nextOf_list_end hh (h1.extBut hs₁.extBut D.i1z) (P4.extBut hs₁.extBut D.l1z) hx λh₂ e hs₂ he=>?_);exact hE h₂ e (λc o c1 c3 x=>hs₂ _ _ c3 (hs₁.extBut _ _ c1 x)) he
def vR{TI TO T:Addr}{xs:Array Value}{x y:Value}{b:Bool}{Q:Option Value->Shared->Prop}(D:ZipApart z TI TO i1 i2 l1 l2)(hz:m6 s.heap z TI TO T b)(hT:s.heap.get? T=some oT)(AG:IsPair s.heap TI (.ref i1) (.ref i2))(h1:s.heap.IsListIter i1 l1 k1)(h2:s.heap.IsListIter i2 l2 k2)(P4:s.heap.IsList l1 xs)(YJ:s.heap.IsList l2 ys)(hx:xs[k1]?=some x)(hy:ys[k2]?=some y)(hQ:∀h',m6 h' z TI TO T true->h'.IsListIter i1 l1 (k1+1)->h'.IsListIter i2 l2 (k2+1)->IsPair h' s.heap.objs.size x y->
   (∀c o,c≠z->c≠i1->c≠i2->s.heap.get? c=some o->h'.get? c=some o)->Q (some (.ref s.heap.objs.size)) {s with heap:=h'}):
  wpAny (model prog w) A (pyNext (.ref z)) Q E s:=by
 have hTy:s.TypeIs (.ref z) "zip":=⟨_,hz,rfl⟩;exact aj (sI (qT hTy wj
  (g9 wj hTy PySem.F.entry_zip_next
   (AU D hz hT AG h1 h2 P4 YJ hx hy λh' a1 a2 a3 a4 a5=>ay (hQ h' a1 a2 a3 a4 a5)) (PySem.F.args_zip_next_1 _))))
def vS{TI TO T:Addr}{k1 k2:Nat}{xs ys:Array Value}{b:Bool}{Q:Option Value->Shared->Prop}(hh:A.handled=none)(D:ZipApart z TI TO i1 i2 l1 l2)(hz:m6 s.heap z TI TO T b)(hT:s.heap.get? T=some oT)(AG:IsPair s.heap TI (.ref i1) (.ref i2))(h1:s.heap.IsListIter i1 l1 k1)(P4:s.heap.IsList l1 xs)(hx:xs[k1]?=none)(hQ:∀h',(∀c o,c≠z->c≠i1->s.heap.get? c=some o->h'.get? c=some o)->Q none {s with heap:=h'}):wpAny (model prog w) A (pyNext (.ref z)) Q E s:=by
 have hTy:s.TypeIs (.ref z) "zip":=⟨_,hz,rfl⟩;refine aj (sI (qT hTy wj
  (g9 wj hTy PySem.F.entry_zip_next (DL (l2:=l2) (ys:=ys) (k2:=k2) hh D hz hT AG h1 P4 hx λh' e hk he=>?_) (PySem.F.args_zip_next_1 _))))
 obtain⟨o,ho,hc⟩:=he;refine aj (wH (b:=true) ⟨o,ho,hc⟩ isSubtype_stop ?_);exact ay (hQ _ hk)
def AV:typeLookup (.type "zip") "keys"=pure none:=am_miss_of_fast (by first|decide+kernel|rfl)
theorem uJ:typeLookup (.type "zip") "__getattr__"=pure none:=am_miss_of_fast (by first|decide+kernel|rfl)
theorem m7:entryFor table "zip.__getattribute__"=some Builtin.«object.__getattribute__»:=
 entryFor_alias (id':="object.__getattribute__") (by kernel_rfl) (by decide+kernel) (by decide+kernel) (by kernel_rfl)
theorem za(a:Addr)(fs:Array Value)(sl:Array (Option Value))(name:Str)(u:Tok)(Vv:typeLookup (.type "zip") name=pure none)(P5:(["__module__","__name__","__qualname__","__doc__","__annotations__"]:List Str).contains name=false)(fY:name.length+100<=sizeLine:=by size_fits):
  Meets (Builtin.«object.__getattribute__» ⟨[.ref a,.str name u],[]⟩) (λA R s=>s.heap.get? a=some {cls:=.type "zip",dict:=none,data:=.fields fs,slots:=sl}/\raisesAttr (.ref a) name A R s):=
 Meets.of_wp λprog w A R s hs=>by
  obtain⟨hp,g,d,tk,os⟩:=s;obtain⟨hx,hs⟩:=hs
  repeat(any_goals(first|assumption|wp_step))
  simp-iota only[P5,N3,CI]
  repeat(any_goals(first|assumption|wp_step))
  exact wpAny_raiseAttrError hs.1 hs.2 (attrMsg_fits (by decide+kernel) fY)
def P6{Q:Option Value->Shared->Prop}(hx:s.heap.get? a=some {cls:=.type "zip",dict:=none,data:=.fields fs,slots:= #[]})(hA:A.handled=none)(h:∀h' tk,(∀b ob,s.heap.get? b=some ob->h'.get? b=some ob)->Q none {s with heap:=h',toks:=tk}):wpAny (model prog w) A (getAttr? (.ref a) "keys") Q E s:=by
 obtain⟨hp,g,d,tk,os⟩:=s;have hT:∀RU,(⟨hp,g,d,RU,os⟩:Shared).TypeIs (.ref a) "zip":=λ_=>⟨_,hx,rfl⟩;have Vv:=AV;have P5:(["__module__","__name__","__qualname__","__doc__","__annotations__"]:List Str).contains "keys"=false:=by decide+kernel
 have fY:("keys":Str).length+100<=sizeLine:=by first|size_fits|decide+kernel
 have f1:=sub_AttributeError;have f3:=PySem.F.slot_zip_getattribute.lookup;have f4:=PySem.F.slot_zip_getattribute.bind (.ref a);have f5:=uJ;unfold getAttr? getAttrBy? getAttrBy
 repeat(any_goals(first|assumption|exact hT _|((with_reducible show wpAny _ _ (call (Value.builtin "zip.__getattribute__") _ _) _ _ _);refine iw PySem.F.slot_zip_getattribute (hT _) m7 (PySem.F.args_zip_getattribute_2 _ _) (za a fs #[] "keys" _ Vv P5 fY) ⟨hx,hA,λh' RU e hx'=>?_⟩)|wp_step))
 obtain⟨t',u',he⟩:=hx'.there;show wpAny _ _ (getattributeRaised _ _ _ _ _ _ _) _ _ _;unfold getattributeRaised
 repeat(any_goals(first|assumption|wp_step))
 all_goals first|exact h _ _ hx'.keeps|(dsimp only;repeat(any_goals(first|assumption|exact h _ _ hx'.keeps|wp_step)))
end
def aaD(h:Heap)(z TI TO:Addr):Prop:=(IsZip h z TI TO .none/\∃a b,IsPair h TO a b)\/∃T b oT,m6 h z TI TO T b/\h.get? T=some oT/\T≠z
structure tR(h:Heap)(z TI TO i1 i2 l1 l2:Addr)(k:Nat)(xs ys:Array Value):Prop where
 st:aaD h z TI TO
 ti:IsPair h TI (.ref i1) (.ref i2)
 i1:h.IsListIter i1 l1 k
 i2:h.IsListIter i2 l2 k
 l1:h.IsList l1 xs
 l2:h.IsList l2 ys
section
def P7{TI TO:Addr}{xs:Array Value}{x y:Value}{Q:Option Value->Shared->Prop}(D:ZipApart z TI TO i1 i2 l1 l2)(Z:tR s.heap z TI TO i1 i2 l1 l2 k xs ys)(hx:xs[k]?=some x)(hy:ys[k]?=some y)(hQ:∀h',tR h' z TI TO i1 i2 l1 l2 (k+1) xs ys->IsPair h' s.heap.objs.size x y->(∀c o,c≠z->c≠TO->c≠i1->c≠i2->s.heap.get? c=some o->h'.get? c=some o)->Q (some (.ref s.heap.objs.size)) {s with heap:=h'}):
  wpAny (model prog w) A (pyNext (.ref z)) Q E s:=by
 obtain⟨hz,a,b,Dd⟩|⟨T,b,oT,hz,hT,hTz⟩:=Z.st
 .have E4:=aO hz;refine wpAny_pyNext_zip_item D hz Z.ti Dd Z.i1 Z.i2 Z.l1 Z.l2 hx hy λh' z' TO' Ve Vf hT fY hk=>?_;refine hQ h' ⟨.inr ⟨_,false,_,z',hT,iu E4⟩,hk _ _ D.TIz D.TITO D.TIi1 D.TIi2 Z.ti,Ve,Vf,Z.l1.at λo e=>hk _ o D.l1z D.l1TO D.l1i1 D.l1i2 e,Z.l2.at λo e=>hk _ o D.l2z D.l2TO D.l2i1 D.l2i2 e⟩ hT hk
 .refine vR D hz hT Z.ti Z.i1 Z.i2 Z.l1 Z.l2 hx hy λh' z' Ve Vf hT' hk=>?_;have S0:∃oT',h'.get? T=some oT':=by
   by_cases c1:T=i1
   .subst c1;obtain⟨o,e,_⟩:=Ve;exact⟨o,e⟩
   .by_cases c2:T=i2
    .subst c2;obtain⟨o,e,_⟩:=Vf;exact⟨o,e⟩
    .exact⟨oT,hk _ _ hTz c1 c2 hT⟩
  obtain⟨oT',S0⟩:=S0;exact hQ h' ⟨.inr ⟨T,true,oT',z',S0,hTz⟩,hk _ _ D.TIz D.TIi1 D.TIi2 Z.ti,Ve,Vf,Z.l1.at λo e=>hk _ o D.l1z D.l1i1 D.l1i2 e,Z.l2.at λo e=>hk _ o D.l2z D.l2i1 D.l2i2 e⟩ hT' λc o c1 _ c3 c4 e=>hk c o c1 c3 c4 e
def P8{TI TO:Addr}{xs:Array Value}{Q:Option Value->Shared->Prop}(hh:A.handled=none)(D:ZipApart z TI TO i1 i2 l1 l2)(Z:tR s.heap z TI TO i1 i2 l1 l2 k xs ys)(hx:xs[k]?=none)(hQ:∀h',(∀c o,c≠z->c≠TO->c≠i1->c≠i2->s.heap.get? c=some o->h'.get? c=some o)->Q none {s with heap:=h'}):
  wpAny (model prog w) A (pyNext (.ref z)) Q E s:=by
 obtain⟨hz,a,b,Dd⟩|⟨T,b,oT,hz,hT,hTz⟩:=Z.st
 .exact wpAny_pyNext_zip_end hh D hz Z.ti Dd Z.i1 Z.i2 Z.l1 Z.l2 (.inl hx) hQ
 .exact vS (ys:=ys) (k2:=k) hh D hz hT Z.ti Z.i1 Z.l1 hx λh' hk=>hQ h' λc o c1 _ c3 _ e=>hk c o c1 c3 e
theorem tR.at{TI TO:Addr}{xs:Array Value}(Z:tR h z TI TO i1 i2 l1 l2 k xs ys)(hS:∀c,c=z\/c=TI\/c=TO\/c=i1\/c=i2\/c=l1\/c=l2->c≠S)(there:∀b,(∃o,h.get? b=some o)->∃o,h'.get? b=some o)(hk:∀c o,c≠S->h.get? c=some o->h'.get? c=some o):tR h' z TI TO i1 i2 l1 l2 k xs ys:=by
 refine⟨?_,hk _ _ (hS _ ∅) Z.ti,Z.i1.at λo e=>hk _ o (hS _ ∅) e,Z.i2.at λo e=>hk _ o (hS _ ∅) e,Z.l1.at λo e=>hk _ o (hS _ ∅) e,Z.l2.at λo e=>hk _ o (hS _ ∅) e⟩;obtain⟨hz,a,b,Dd⟩|⟨T,b,oT,hz,hT,hTz⟩:=Z.st
 .exact .inl ⟨hk _ _ (hS _ ∅) hz,a,b,hk _ _ (hS _ ∅) Dd⟩
 .obtain⟨o',e'⟩:=there T ⟨_,hT⟩;exact .inr ⟨T,b,o',hk _ _ (hS _ ∅) hz,e',hTz⟩
theorem B4{S TI TO:Addr}{xs:Array Value}(hh:A.handled=none)(D:ZipApart z TI TO i1 i2 l1 l2)(hS:∀c,c=z\/c=TI\/c=TO\/c=i1\/c=i2\/c=l1\/c=l2->c≠S):
  ∀rest i acc ix t s,xs.size=i+rest.length->acc.length+rest.length<=sizeLine->
   (∀j q,rest[j]?=some q->∃u:Value,xs[i+j]?=some u/\ys[i+j]?=some q.2/\gX q.1 u=true)->
   tR s.heap z TI TO i1 i2 l1 l2 i xs ys->s.heap.DictOf (bI prog w) S acc->
   (∀h' tk,h'.DictOf (bI prog w) S (merged acc rest)->(∀b o,b≠S->b≠z->b≠TO->b≠i1->b≠i2->s.heap.get? b=some o->h'.get? b=some o)->R (.ok (.ret res)) {s with heap:=h',toks:=tk})->
   codeAny (model prog w) A (.builtin "dict.update.loop" ⟨[.ref S,.ref z,.int ix t,res],[]⟩) R s
 |[],i,acc,ix,t,s,fY,XD,ht,Z,hm,hR=>by
  refine kH Fw ?_;refine aj (P8 hh D Z (by simp at fY;simp;omega) λh' he=>?_);refine aj (ay (ay ?_));exact hR h' s.toks (hm.at λo e=>he _ o (hS _ ∅).symm (hS _ ∅).symm (hS _ ∅).symm (hS _ ∅).symm e) λb o _ h1 h2 h3 h4 e=>he b o h1 h2 h3 h4 e
 |q::rest,i,acc,ix,t,s,fY,XD,ht,Z,hm,hR=>by
  obtain⟨u,hxu,hyq,hk⟩:=ht 0 q rfl;rw[aY]at fY XD;refine kH Fw ?_;refine aj (P7 D Z ‹hxu› ‹hyq› λh1 Z1 hT1 YX=>?_);have hm1:=hm.at λo e=>YX _ o (hS _ ∅).symm (hS _ ∅).symm (hS _ ∅).symm (hS _ ∅).symm e;refine aj (gj ?_);refine aj (wpAny_tryCatch ?_);refine aj (sU ⟨_,hT1,rfl⟩ ?_);refine aj (mF hT1 rfl (ay ?_));refine gj (wpAny_dictSet_pairs (k:=q.1) hk hm1 (λh2 Px Sy=>?_) ());have Z2:=Z1.at hS (λb ⟨o,e⟩=>by
   by_cases c:b=S
   .subst c;obtain⟨o',_,_,w6,_⟩:=id Px;exact⟨o',w6⟩
   .exact⟨o,Sy.extBut b o c e⟩) λc o h3 e=>Sy.extBut c o h3 e
  refine ay ⟨pJ yl _,B4 hh D hS rest (i+1) (stored acc q.1 q.2) (ix+1) 0 _ (show xs.size=i+1+rest.length by omega) ?_ (λj q' e=>?_) Z2 Px λh' tk HG k=>?_⟩
  .have z:=stored_length_le acc q.1 q.2;omega
  .obtain⟨u',e1,e2,e3⟩:=ht (j+1) q' ‹e›;rw[show i+1+j=i+(j+1) by omega];exact⟨u',e1,e2,e3⟩
  .exact hR h' tk HG λc oc h3 h4 h5 h6 h7 e=>k c oc h3 h4 h5 h6 h7 (Sy.extBut c oc h3 (YX c oc h4 h5 h6 h7 e))
def AW{TI TO:Addr}{xs:Array Value}(hh:A.handled=none)(D:ZipApart z TI TO i1 i2 l1 l2)(hz:IsZip s.heap z TI TO .none)(Z:tR s.heap z TI TO i1 i2 l1 l2 0 xs ys)(adB:TO<s.heap.objs.size)(fY:xs.size=prs.length)(XD:prs.length<=sizeLine)(ht:∀(j:Nat) q,prs[j]?=some q->∃u:Value,xs[j]?=some u/\ys[j]?=some q.2/\gX q.1 u=true)(h:∀h' tk,h'.DictOf (bI prog w) s.heap.objs.size (merged [] prs)->(∀b o,b≠z->b≠TO->b≠i1->b≠i2->s.heap.get? b=some o->h'.get? b=some o)->Q (.ref s.heap.objs.size) {s with heap:=h',toks:=tk}):
  wpAny (model prog w) A (call (.type "dict") [.ref z]) Q E s:=by
 refine callType_codes (Q₁:=λobj s₁=>obj=.ref s.heap.objs.size/\s₁= {s with heap:=s.heap.push {cls:=.type "dict",data:=.dict #[]}}) PySem.F.kt_called_dict (PySem.F.kt_typeCall_dict_1 _) PySem.F.entry_dict_init (kt_code_dict_new _ ⟨rfl,rfl⟩) ?_;rintro obj s₁ ⟨rfl,rfl⟩;have OB:(s.heap.push {cls:=.type "dict",data:=.dict #[]}).DictOf (bI prog w) s.heap.objs.size []:=Heap.DictOf.new s.heap;have k0:∀b o,s.heap.get? b=some o->(s.heap.push {cls:=.type "dict",data:=.dict #[]}).get? b=some o:=λb o e=>bN _ e;refine⟨OB.typeIs,PySem.F.args_dict_init_2 _ _,?_⟩;refine aj ?_;refine aj (wpAny_notOrdered_dict OB.typeIs ?_);refine ay ?_;show wpAny _ _ (Builtin.Dict.updateFrom "dict.__init__" s.heap.objs.size (.ref z) [] .none) _ _ _;refine aj (sU ⟨_,k0 _ _ hz,rfl⟩ ?_);refine aj (P6 (k0 _ _ hz) hh λh1 tk1 YX=>?_);refine aj (wpAny_rule ?_);have k1:∀b o,s.heap.get? b=some o->h1.get? b=some o:=λb o e=>YX _ _ (k0 _ _ e);refine aj (wpAny_pyIter_zip (k1 _ _ hz) ?_);have lt:∀{c o},s.heap.get? c=some o->c≠s.heap.objs.size:=λe=>bx (aO e);have hS:∀c,c=z\/c=TI\/c=TO\/c=i1\/c=i2\/c=l1\/c=l2->c≠s.heap.objs.size:=by
  rintro c (e|e|e|e|e|e|e)<;>subst e
  .exact lt hz
  .exact lt Z.ti
  .exact bx adB
  .obtain⟨_,e,_⟩:=Z.i1;exact lt e
  .obtain⟨_,e,_⟩:=Z.i2;exact lt e
  .obtain⟨_,e,_⟩:=Z.l1;exact lt e
  .obtain⟨_,e,_⟩:=Z.l2;exact lt e
 have Z1:=Z.at hS (λb ⟨o,e⟩=>⟨o,k1 b o e⟩) λc o _ e=>k1 c o e;have key:=B4 (prog:=prog) (w:=w) (A:=A.in1) (R:=wants (λr s₂=>r=.none/\Q (.ref s.heap.objs.size) s₂) E) (res:=Value.none) hh D hS prs 0 [] 0 0
  {s with heap:=h1,toks:=tk1} (by rw[fY,iU]) (by rw[pE,iU];exact XD)
  (λj q e=>by rw[iU];exact ht j q e) Z1 (OB.at λo e=>YX _ _ e)
  (λh' tk HG k=>⟨rfl,h h' tk HG λb o c1 c2 c3 c4 e=>k b o (lt e) c1 c2 c3 c4 (k1 _ _ e)⟩)
 first
  |exact ay ⟨pJ yl _,key⟩
  |exact aj (ay (ay ⟨pJ yl _,key⟩))
end
def IL:bootBuiltins "dict"=some (.type "dict"):=by decide+kernel
def P9(K:PySem.W.Frag)(ta:TA):TE:=λσ H Q=>ta σ H λvs H1=>∃(a b:Addr) (ks:List Key) (ys:List V),vs=[.ref a,.ref b]/\aJ K H1 a (ks.map kV)/\aJ K H1 b ys/\ks.length=ys.length/\∀p,H1 p=none->Q (.ref p) (upd H1 p (.dK (kO [] (ks.zip ys))))
theorem KR{P:Program}{w:World}:∀{ks:List Key}{aR}{j:Nat}{k},Vals (ks.map kV) aR->ks[j]?=some k->∃u,aR[j]?=some u/\gX k u=true
 |[],_,j,k,_,h=>by simp at h
 |k0::ks,_,j,k,.cons (b:=u) r t,h=>by
  cases j with
  |zero=>
   have e:=Option.some.inj h;subst e;exact⟨u,rfl,vk (P:=P) (w:=w) r⟩
  |succ j=>
   obtain⟨u',h1,h2⟩:=KR (P:=P) (w:=w) (k:=k) t ‹h›;exact⟨u',‹h1›,h2⟩
theorem P_:∀{ks:List Key}{ys}{us},Vals ys us->KV (ks.zip ys) (ks.zip us)
 |[],_,_,_=>.nil|_::_,_,_,.nil=>.nil
 |_::ks,_,_,.cons r t=>.cons ⟨rfl,r⟩ (P_ t)
def IM{e2:Expr}{ta:TA}{p p2 pos oa:Pos}(Gp:X.calm=true)(hgd:Gl X "dict")(hmd:X.mg "dict"=none)(hgz:Gl X "zip")(hmz:X.mg "zip"=none)(ha:PA X [e,e2] ta)(hs:starEach [e,e2] X.env=(false,eval e X.env)::starEach [e2] X.env:=by rfl)(iz:(backTo oa (starEach [e2] X.env)).any (·.1)=false:=by rfl)(XE:starEach [.Call (.Name "zip" p2) [e,e2] [] oa] X.env=(false,eval (.Call (.Name "zip" p2) [e,e2] [] oa) X.env)::starEach [] X.env:=by rfl)(hpd:(backTo pos (starEach [] X.env)).any (·.1)=false:=by rfl):
  PE X (.Call (.Name "dict" p) [.Call (.Name "zip" p2) [e,e2] [] oa] [] pos) (P9 X.K ta):=by
 intro pins s σ H Q I h;refine jy (gk I hgd hmd IL ?_);refine jx ?_ XE hpd;rw[XE];show wpAny _ _ (spliced ((false,eval (.Call (.Name "zip" p2) [e,e2] [] oa) X.env)::backTo pos (starEach [] X.env))) _ _ s;refine mw ?_;refine jy (gk I hgz hmz By ?_);refine jx (cJ (ha oa pins s σ H _ I h) λus s1 adC=>?_) hs iz;obtain⟨vs,H1,I1,r1,q1⟩:=adC;obtain⟨a,b,ks,ys,ex,Vc,Vd,hlen,q⟩:=q1;subst ex;cases r1 with
 |cons r rr=>
  cases rr with
  |cons r' rr=>
   cases rr;cases r;cases r';obtain⟨aR,rv,p1,z1⟩:=I1.list Vc;obtain⟨n_,W4,p2,z2⟩:=I1.list Vd;have la:=p1.lt;have lb:=p2.lt;have l1:=rv.length;have l2:=W4.length;rw[az]at l1 z1;refine call_zip_2 p1.isList p2.isList λh' hz AG Dd h1 h2 fY hk=>rg ?_;have I2:=I1.kept (t':=s1.toks) hk;have D:=PySem.W.ktu_apart s1.heap.objs.size a b la lb;have Z:tR h' (s1.heap.objs.size+4) (s1.heap.objs.size+2) (s1.heap.objs.size+3) s1.heap.objs.size (s1.heap.objs.size+1) a b 0 aR.toArray n_.toArray:=
    ⟨.inl ⟨hz,_,_,Dd⟩,AG,h1,h2,p1.isList.at λo e=>hk _ o e,p2.isList.at λo e=>hk _ o e⟩
   refine AW (prs:=ks.zip n_) (I2.ok.hd Gp) D hz Z (aO Dd) ?_ ?_ (λj q' e'=>?_) λOJ tk HG k=>?_
   .rw[cI,j_];omega
   .rw[j_];omega
   .obtain⟨k1,k2⟩:=q';have e1:ks[j]?=some k1/\n_[j]?=some k2:=by
     rw[qV]at e';exact e'
    obtain⟨u,hu,hku⟩:=KR (P:=X.prog) (w:=X.w) rv e1.1;exact⟨u,‹hu›,‹e1.2›,hku⟩
   .have rel:KV (ks.zip ys) (ks.zip n_):=P_ W4;have hm:=beq_eq_false_iff_ne.mpr (iu I2.big);have E4:(kO [] (ks.zip ys)).length<=sizeLine:=by
     refine aW (qJ _ []) ?_;rw[pE,iU,j_];omega
    have hn:∀c,s1.heap.objs.size<=c->H1 c=none:=λc hc=>I1.bQ.fresh hc;have fp:=λc hc=>I1.CT hc (hn c hc);have hle:∀c∈ [s1.heap.objs.size+4,s1.heap.objs.size+3,s1.heap.objs.size,s1.heap.objs.size+1],s1.heap.objs.size<=c:=by
     intro c hc;have e':c=s1.heap.objs.size+4\/c=s1.heap.objs.size+3\/c=s1.heap.objs.size\/c=s1.heap.objs.size+1:=‹hc›
     obtain z|z|z|z:=e'
     .rw[z];exact kD _ _
     .rw[z];exact kD _ _
     .rw[z];exact aQ _
     .rw[z];exact kD _ _
    have I3:Inv X pins σ (upd H1 h'.objs.size (.dK (kO [] (ks.zip ys)))) {s1 with heap:=OJ,toks:=tk} :=
     I2.qd (t':=tk) (λc o hb e=>k c o (λz=>hb (by simp[z])) (λz=>hb (by simp[z])) (λz=>hb (by simp[z])) (λz=>hb (by simp[z])) e)
      (λc hc=>fp c (hle c hc)) (aQ _) (show dB X.prog X.w _ _ _ (.dK (kO [] (ks.zip ys)))from⟨E4,hm,merged [] (ks.zip n_),KV.merge rel .nil,HG⟩)
    exact⟨.ref h'.objs.size,_,I3,rfl,q _ (I2.bQ.fresh (aQ _))⟩
section
def vC{r d:Addr}{P:Nat->Value->Prop}(K:PySem.W.KdlSrc prog w T r d n P OK)(hh:A.handled=none)(bQ:OK s.heap)(hn:n<=sizeLine)(go:∀hp tk us,s.heap.objs.size<hp.objs.size->(∀b o,s.heap.get? b=some o->hp.get? b=some o)->ItemsOf P us n->R us.toList {s with heap:=hp,toks:=tk}):
  wpAny (model prog w) A (collect (.ref r)) R E s:=by
 have lts:=K.there _ bQ;refine aj (wpAny_runValue (kH entry_proto_collect' ?_));refine aj (jA (ay ⟨pJ PySem.F.plain_list_iadd _,kH entry_list_iadd' ?_⟩));have new:(s.heap.push {cls:=.type "list",data:=.seq ([]:List Value).toArray}).get? s.heap.objs.size=some {cls:=.type "list",data:=.seq #[]} :=bq _ rfl;have run:=PySem.W.kdl_extend (s:= {s with heap:=s.heap.push {cls:=.type "list",data:=.seq ([]:List Value).toArray}})
  (R:=λ(q:Result)(s2:Shared)=>∃(hp:Heap) (tk:Nat) (us:Array Value) (c:Nat),q=.ok (.ret (.ref s.heap.objs.size))/\s2= {s with heap:=hp,toks:=tk}/\(∀b o,s.heap.get? b=some o->hp.get? b=some o)/\
   hp.get? s.heap.objs.size=some {cls:=.type "list",dict:=none,data:=.seq us c,slots:= #[]}/\ItemsOf P us n)
  K hh (K.keep _ _ bQ λb _ o e=>bN _ e) s.heap.objs.size (iu lts.1) (iu lts.2) (.ref s.heap.objs.size) 0 new
  (λhp tk us c hk hu it=>⟨hp,tk,us,c,rfl,rfl,λb o e=>hk b o (bx (aO e)) (bN _ e),hu,it⟩) hn
 refine c5 run (λfin s2 x=>?_) λe s2 ⟨_,_,_,_,z,_⟩=>by cases z
 cases fin with
 |again code=>
  refine⟨x.1,je x.2 λq s3 adD=>?_⟩;obtain⟨hp,tk,us,c,e1,e2,hk,hu,it⟩:=adD;subst e1 e2;exact aj (wpAny_load hu (ay (go hp tk us (aO hu) hk it)))
 |done f=>
  obtain⟨hp,tk,us,c,e1,e2,hk,hu,it⟩:=x;cases e1;subst e2;exact aj (wpAny_load hu (ay (go hp tk us (aO hu) hk it)))
def IP{r d:Addr}{P:Nat->Value->Prop}(K:PySem.W.KdlSrc prog w T r d n P OK)(hh:A.handled=none)(bQ:OK s.heap)(hn:n<=sizeLine)(hP:∀vs:List Value,vs.length=n->(∀j v,vs[j]?=some v->P j v)->IntsAre vs ns)(h:∀(D:Addr) hp tk out ep lD,s.heap.objs.size<=D->(∀b o,s.heap.get? b=some o->hp.get? b=some o)->hp.get? D=some (seqObj "list" out ep)->IntsAre out.toList lD->lD.Perm ns->lD.Pairwise (·<=·)->Q (.ref D) {s with heap:=hp,toks:=tk}):
  wpAny (model prog w) A (call (.builtin "sorted") [.ref r]) Q E s:=by
 refine Calls.call_function_entry kind_sorted plain_sorted entry_sorted (args_sorted1 _) ?_;refine aj (ay (aj (vC (A:=A.in1) K hh bQ hn λhp tk us lt hk it=>?_)));have hl:us.toList.length=n:=by rw[cH];exact it.1
 refine aj (wR ?_ (by rw[hl];exact hn));have hi:=hP _ hl λj v e=>it.2 j v (by rw[<-dq];exact e);have NQ:(hp.push (seqObj "list" us.toList.toArray 0)).get? hp.objs.size=some (seqObj "list" us.toList.toArray 0):=bq _ rfl;refine aj (gj (g9 slot_list_sort ⟨_,NQ,rfl⟩ entry_list_sort (list_sort_treeAny NQ hi (by rw[hl];exact hn) λout lD a1 a2 a3=>⟨_,rfl,ay ⟨_,rfl,?_⟩⟩) (args_list_sort _)));obtain⟨ep,Mj⟩:=PyProof.Rows.sortedHeap_at (out:=out) NQ;refine h _ _ _ out ep lD (iq lt) (λb o e=>?_) Mj a1 a2 a3;have hb:=aO (hk _ _ e);rw[PyProof.Rows.sortedHeap_old (bx hb) (by rw[dS];exact my hb)];exact bN _ (hk _ _ e)
end
section
def DM:∀{ns}{vs},vs.length=ns.length->(∀(j:Nat) v n,vs[j]?=some v->ns[j]?=some n->gX (Sum.inl n) v=true)->IntsAre vs ns:=by
 intro ns
 induction ns with
 |nil=>
  intro vs hl h;cases vs with
  |nil=>exact .nil|cons _ _=>cases hl
 |cons n ns ih=>
  intro vs hl h;cases vs with
  |nil=>cases hl
  |cons v vs=>
   have h0:=h 0 v n rfl rfl;obtain⟨t,rfl⟩:∃t,v=.int n t:=Fz h0;exact .cons n t (ih ‹hl› λj v' n' e1 e2=>h (j+1) v' n' ‹e1› ‹e2›)
end
end L2
end
section
namespace Pd
open Tote TotePoolCalls
abbrev Vw:=List (Int×Int)
noncomputable def zb(g:Vw)(k:Int):Option Int:=(g.find? λp=>decide (p.1=k)).map (·.2)
noncomputable def TN(g:Vw)(k v:Int):Vw:=if(g.any λp=>decide (p.1=k))=true then g.map (λp=>if p.1=k then(p.1,v)else p)else g++ [(k,v)]
noncomputable def dD(g:Vw):List Int:=g.map (·.1)
def zc p (g:Vw) k:zb (p::g) k=if p.1=k then some p.2 else zb g k:=by
 unfold zb;by_cases h:p.1=k
 .simp[h]
 .simp[h]
def any_keys{g:Vw}:(g.any λp=>decide (p.1=k))=true↔k∈dD g:=by
 rw[pR];constructor
 .rintro⟨p,hp,e⟩;exact mem_map.mpr ⟨p,hp,‹e›⟩
 .intro h;obtain⟨p,hp,e⟩:=mem_map.mp h;exact⟨p,hp,‹e›⟩
noncomputable def bK:List Int->Vw
 |a::b::r=>(a,b)::bK r|_=>[]
theorem m8 k:∀l:List Int,zb (bK l) k=NW k l
 |[]=>rfl|[_]=>rfl
 |a::b::r=>by
  show zb ((a,b)::bK r) k=if a=k then some b else NW k r
  rw[zc,m8 k r]
theorem zf:∀l:List Int,(bK l).length=l.length/2
 |[]=>by simp[bK]|[_]=>by simp[bK]
 |a::b::r=>by
  show(bK r).length+1=(r.length+1+1)/2;rw[zf r];omega
theorem KS:∀{l}{bf},kn n bf l=true->(dD (bK l)).Pairwise (·<·)/\∀x∈dD (bK l),bf<x
 |[],_,_=>⟨List.Pairwise.nil,by simp[bK,dD]⟩|[_],_,_=>⟨List.Pairwise.nil,by simp[bK,dD]⟩
 |a::b::r,bf,h=>by
  have h:(decide (bf<a)&&(decide (a<n)&&(decide (1<=b)&&kn n a r)))=true:=h;simp only[Bool.and_eq_true,decide_eq_true_eq]at h;obtain⟨h1,h2,h3,h4⟩:=h;obtain⟨i1,i2⟩:=KS h4;show(a::dD (bK r)).Pairwise (·<·)/\∀x∈a::dD (bK r),bf<x;refine⟨pairwise_cons.mpr ⟨i2,i1⟩,λx hx=>?_⟩;obtain e|e:=mem_cons.mp hx
  .omega
  .have:=i2 x e;omega
def IQ{l:List Int}(h:gB l n=true):kn n (-1) l=true:=by
 unfold gB at h;simp only[Bool.and_eq_true]at h;exact h.2.1
def Qa{l:List Int}(h:l.Pairwise (·<·)):l.Nodup:=h.imp (λz e=>by omega)
def Gq{l:List Int}(h:gB l n=true):(dD (bK l)).Nodup:=Qa (KS (IQ h)).1
end Pd
end
section
namespace L2
open PySem PySem.Spec PyProof.Rows
def TQ{ys:List V}{D:Ends}(Pv:Nat->St->Hp->Prop)(hlen:xs.length=ys.length)(h0:Pv 0 σ H)(hl:∀i σ H,i<=xs.length->Pv i σ H->aJ K H a xs/\aJ K H b ys)(hs:∀i x y T σ H,xs[i]?=some x->ys[i]?=some y->Pv i σ H->H T=none->g (.ref T) σ (upd H T (.tup [x,y])) λσ2 H2=>tb {D with nx:=Pv (i+1),ct:=Pv (i+1),bk:=D.nx} σ2 H2)(hd:∀σ H,Pv xs.length σ H->D.nx σ H):
  ∃W:Nat->Nat->St->Hp->Prop,(∃m,W 0 m σ H)/\∀i m σ H,W i m σ H->
   ((ZX K a b).stop i H/\D.nx σ H)\/((ZX K a b).go i H/\∃N:St->Hp->Prop,(∀σ' H',N σ' H'->∃m',m'<m/\W (i+1) m' σ' H')/\∀x H',(ZX K a b).E1 i H x H'->g x σ H' λσ2 H2=>tb {D with nx:=N,ct:=N,bk:=D.nx} σ2 H2):=by
 refine⟨λi m σ H=>m=xs.length-i/\i<=xs.length/\Pv i σ H,⟨xs.length,by simp,cv _,h0⟩,?_⟩;rintro i m σ H ⟨rfl,hi,p⟩;obtain⟨qa,qb⟩:=hl i σ H hi p;by_cases eK:i<xs.length
 .have adE:i<ys.length:=by omega
  refine .inr ⟨⟨xs,ys,xs[i],ys[i],qa,qb,bg eK,bg adE⟩,Pv (i+1),λσ' H' p'=>⟨xs.length-(i+1),by omega,rfl,eK,p'⟩,λx H' y=>?_⟩;obtain⟨T,u,v,e1,nT,e2,k1,k2⟩:=y;subst e1 e2;exact hs i u v T σ _ (k1 xs qa) (k2 ys qb) p nT
 .have e:i=xs.length:=by omega
  subst e;exact .inl ⟨⟨xs,ys,qa,qb,.inl (aQ _)⟩,hd σ H p⟩
end L2
end
section
namespace Pd
open PySem PySem.SetTable
noncomputable def stp(m:Nat)(i:Nat):Nat:=(i*5+1)%m
noncomputable def Qb(m:Nat):Nat->Nat->Nat
 |0,i=>i|n+1,i=>Qb m n (stp m i)
theorem m9 m:∀a b i:Nat,Qb m (a+b) i=Qb m b (Qb m a i)
 |0,b,i=>by rw[iU];rfl
 |a+1,b,i=>by
  rw[Nat.add_right_comm];exact m9 m a b (stp m i)
noncomputable def vP(m:Nat):Nat->Nat×Nat->Nat×Nat
 |0,s=>(stp m s.1,s.2|||(1<<<s.1))
 |k+1,s=>vP m k (vP m k s)
theorem DN m:∀k s,(vP m k s).1=Qb m (2^k) s.1
 |0,s=>rfl
 |k+1,s=>by
  show(vP m k (vP m k s)).1=_;rw[DN m k,DN m k,<-m9,j8,Nat.mul_two]
theorem IT m:∀k s x,(vP m k s).2.testBit x=true↔s.2.testBit x=true\/∃n,n<2^k/\Qb m n s.1=x
 |0,s,x=>by
  show(s.2|||(1<<<s.1)).testBit x=true↔_;rw[Nat.testBit_or,CD];have e:(1<<<s.1).testBit x=true↔s.1=x:=by
   rw[Nat.one_shiftLeft,Nat.testBit_two_pow];simp
  rw[e];constructor
  .rintro(h|h)
   .exact .inl h
   .exact .inr ⟨0,by decide,h⟩
  .rintro(h|⟨n,hn,h⟩)
   .exact .inl h
   .have:n=0:=by simpa using hn
    subst this;exact .inr h
 |k+1,s,x=>by
  show(vP m k (vP m k s)).2.testBit x=true↔_;rw[IT m k,IT m k,DN];constructor
  .rintro((h|⟨n,hn,h⟩)|⟨n,hn,h⟩)
   .exact .inl h
   .exact .inr ⟨n,by rw[j8];omega,h⟩
   .refine .inr ⟨2^k+n,by rw[j8];omega,?_⟩;rw[m9];exact h
  .rintro(h|⟨n,hn,h⟩)
   .exact .inl (.inl h)
   .by_cases c:n<2^k
    .exact .inl (.inr ⟨n,c,h⟩)
    .refine .inr ⟨n-2^k,by rw[j8]at hn;omega,?_⟩;rw[<-m9,show 2^k+(n-2^k)=n by omega];exact h
def Full(k:Nat):Prop:=vP (2^k) k (0,0)=(0,2^2^k-1)
def aaE:Full 3:=by unfold Full;decide+kernel
def aaF:Full 5:=by unfold Full;decide+kernel
def aaG:Full 7:=by unfold Full;decide+kernel
def aaH:Full 9:=by unfold Full;decide+kernel
def XF:Full 11:=by unfold Full;decide+kernel
def XG:Full 13:=by unfold Full;decide+kernel
def zg(h:Full k){x:Nat}(hx:x<2^k):∃n,n<2^k/\Qb (2^k) n 0=x:=by
 have e:(vP (2^k) k (0,0)).2.testBit x=true:=by
  rw[h];simpa using hx
 obtain h1|h1:=(IT (2^k) k (0,0) x).mp e
 .simp at h1
 .exact h1
def MQ(h:Full k):Qb (2^k) (2^k) 0=0:=by
 have e:=DN (2^k) k (0,0);rw[h]at e;exact e.symm
def B5(h:Full k){x y:Nat}(hx:x<2^k)(hy:y<2^k):∃n,n<2^k/\Qb (2^k) n y=x:=by
 obtain⟨a,ha,rfl⟩:=zg h hy;obtain⟨b,hb,rfl⟩:=zg h hx;by_cases c:a<=b
 .exact⟨b-a,by omega,by rw[<-m9,show a+(b-a)=b by omega]⟩
 .exact⟨b+2^k-a,by omega,by rw[<-m9,show a+(b+2^k-a)=2^k+b by omega,m9,MQ h]⟩
noncomputable def gW(t:SetTable):Nat->Probe->Probe
 |0,p=>p|n+1,p=>gW t n (t.advance p)
theorem eE t:∀a b p,gW t (a+b) p=gW t b (gW t a p)
 |0,b,p=>by rw[iU];rfl
 |a+1,b,p=>by
  rw[Nat.add_right_comm];exact eE t a b (t.advance p)
theorem uK t:∀n p,(gW t n p).dummy=p.dummy
 |0,p=>rfl
 |n+1,p=>by
  show(gW t n (t.advance p)).dummy=_;rw[uK t n];unfold advance;split<;>rfl
noncomputable def Lp(mask i pt:Nat)(d:Option Nat):Probe:= {j:=i,more:=runEnd mask i-i,i:=i,perturb:=pt,dummy:=d}
def zh(t:SetTable) h:t.probeStart h=Lp t.mask (bits h%(t.mask+1)) (bits h) none:=rfl
theorem tS t i pt d:∀e,e<=runEnd t.mask i-i->gW t e (Lp t.mask i pt d)= {Lp t.mask i pt d with j:=i+e,more:=runEnd t.mask i-i-e}
 |0,_=>rfl
 |e+1,h=>by
  rw[eE,tS t i pt d e ()];show t.advance _=_;unfold advance;rw[ah (by show runEnd t.mask i-i-e>0;omega)];congr 1
def zi t i pt d:gW t (runEnd t.mask i-i+1) (Lp t.mask i pt d)=Lp t.mask (leap t.mask i pt).1 (leap t.mask i pt).2 d:=by
 rw[eE,tS t i pt d _ (aQ _)];show t.advance _=_;unfold advance;rw[af (by show¬(runEnd t.mask i-i-(runEnd t.mask i-i)>0);omega)];rfl
noncomputable def E6(mask:Nat):Nat->Nat×Nat->Nat×Nat
 |0,s=>s|n+1,s=>E6 mask n (leap mask s.1 s.2)
def XH mask i:runEnd mask i-i<=9:=by unfold runEnd;split<;>omega
theorem KU t d:∀T s,∃n,n<=10*T/\gW t n (Lp t.mask s.1 s.2 d)=Lp t.mask (E6 t.mask T s).1 (E6 t.mask T s).2 d
 |0,s=>⟨0,by omega,rfl⟩
 |T+1,s=>by
  obtain⟨n,hn,e⟩:=KU t d T (leap t.mask s.1 s.2);have:=XH t.mask s.1;refine⟨runEnd t.mask s.1-s.1+1+n,by omega,?_⟩;rw[eE,zi];exact e
theorem IU mask:∀T s,(E6 mask T s).2=s.2/32^T
 |0,s=>by simp[E6]
 |T+1,s=>by
  show(E6 mask T (leap mask s.1 s.2)).2=_;rw[IU mask T];show s.2/32/32^T=_;rw[Nat.div_div_eq_div_mul,j8,mI]
theorem DP mask:∀a b s,E6 mask (a+b) s=E6 mask b (E6 mask a s)
 |0,b,s=>by rw[iU];rfl
 |a+1,b,s=>by
  rw[Nat.add_right_comm];exact DP mask a b (leap mask s.1 s.2)
theorem zj mask:∀n i,(E6 mask n (i,0)).1=Qb (mask+1) n i
 |0,i=>rfl
 |n+1,i=>by
  show(E6 mask n ((i*5+1+0/32)%(mask+1),0/32)).1=Qb (mask+1) n (stp (mask+1) i);rw[Nat.zero_div,zj mask n];rfl
theorem IV mask:∀n s,s.1<mask+1->(E6 mask n s).1<mask+1
 |0,s,h=>h|n+1,s,h=>IV mask n _ (kb _ (jf _))
def KW h:bits h<2^64:=by
 unfold bits;omega
structure Pow(t:SetTable):Prop where
 ex:∃k,t.mask+1=2^k/\Full k
def cover(P:Pow t) h {x:Nat} (hx:x<=t.mask):∃n,n<10*turns t.mask/\(gW t n (t.probeStart h)).j=x:=by
 obtain⟨k,ek,fk⟩:=P.ex;have h0:bits h%(t.mask+1)<t.mask+1:=kb _ (jf _);have hz:(E6 t.mask 13 (bits h%(t.mask+1),bits h)).2=0:=by
  rw[IU];have hb:=KW h;exact Nat.div_eq_of_lt (by show bits h<32^13;omega)
 have hy:=IV t.mask 13 (bits h%(t.mask+1),bits h) h0;generalize hs:E6 t.mask 13 (bits h%(t.mask+1),bits h)=s at hz hy;obtain⟨n,hn,e⟩:=B5 fk (x:=x) (y:=s.1) () ();obtain⟨a,ha,ea⟩:=KU t none (13+n) (bits h%(t.mask+1),bits h);refine⟨a,by unfold turns;omega,?_⟩;rw[zh];rw[ea];rw[DP,hs,show s=(s.1,0)from by rw[<-hz],zj,ek];exact e
structure DQ(xs:Array Nat):Prop where
 lt:∀(i j a b:Nat),i<j->xs[i]?=some a->xs[j]?=some b->a<b
def DR{xs:Array Nat}{a d:Nat}(h:xs[i]?=some a):xs.getD i d=a:=by
 rw[xQ,h];rfl
theorem zk{xs:Array Nat}(R:DQ xs) j:∀fuel lo hi,lo<=hi->hi<=xs.size->hi-lo<=fuel->(∀i a,i<lo->xs[i]?=some a->a<j)->(∀i a,hi<=i->xs[i]?=some a->j<=a)->
  (∀i a,i<below.go xs j fuel lo hi->xs[i]?=some a->a<j)/\(∀i a,below.go xs j fuel lo hi<=i->xs[i]?=some a->j<=a)/\below.go xs j fuel lo hi<=xs.size
 |0,lo,hi,h1,h2,h3,h4,h5=>by
  have:lo=hi:=by omega
  subst this;exact⟨h4,h5,h2⟩
 |fuel+1,lo,hi,h1,h2,h3,h4,h5=>by
  have eg:below.go xs j (fuel+1) lo hi=(if lo<hi then(if xs.getD ((lo+hi)/2) j<j then below.go xs j fuel ((lo+hi)/2+1) hi else below.go xs j fuel lo ((lo+hi)/2))else lo):=rfl;rw[eg];by_cases c:lo<hi
  .rw[ah c];have hm:(lo+hi)/2<xs.size:=by omega
   obtain⟨v,hv⟩:∃v,xs[(lo+hi)/2]?=some v:=⟨_,iP hm⟩;rw[DR hv];by_cases d:v<j
   .rw[ah d];refine zk R j fuel ((lo+hi)/2+1) hi () h2 () (λi a TU ha=>?_) h5;by_cases e:i=(lo+hi)/2
    .subst e;rw[hv]at ha;cases ha;exact d
    .have:=R.lt i ((lo+hi)/2) a v () ha hv;omega
   .rw[af d];refine zk R j fuel lo ((lo+hi)/2) () () () h4 (λi a TU ha=>?_);by_cases e:i=(lo+hi)/2
    .subst e;rw[hv]at ha;cases ha;omega
    .have:=R.lt ((lo+hi)/2) i v a () hv ha;omega
  .rw[af c];have:lo=hi:=by omega
   subst this;exact⟨h4,h5,h2⟩
def fX{xs:Array Nat}(R:DQ xs) j:(∀i a,i<below xs j->xs[i]?=some a->a<j)/\(∀i a,below xs j<=i->xs[i]?=some a->j<=a)/\below xs j<=xs.size:=
 zk R j xs.size 0 xs.size (cv _) (aQ _) () (λi a h _=>absurd h (mD _)) (λi a h ha=>by
  have:=(Array.getElem?_eq_some_iff.mp ha).1;omega)
def below_at{xs:Array Nat}(R:DQ xs)(h:xs[i]?=some j):below xs j=i:=by
 obtain⟨h1,h2,h3⟩:=fX R j;have hi:=(Array.getElem?_eq_some_iff.mp h).1;obtain c|c|c:=sC (below xs j) i
 .obtain⟨v,hv⟩:∃v,xs[below xs j]?=some v:=⟨_,iP ()⟩;have a:=R.lt _ _ v j c hv h;have b:=h2 _ v (aQ _) hv;omega
 .exact c
 .have:=h1 i j c h;omega
def qo(R:DQ t.place)(hd:t.dummies= #[]):t.slot j=.live i↔t.place[i]?=some j:=by
 have e:t.slot j=if(t.place[below t.place j]?==some j)=true then .live (below t.place j)else if has t.dummies j=true then .dummy else .empty:=rfl
 rw[e];constructor
 .intro h;by_cases c:(t.place[below t.place j]?==some j)=true
  .rw[ah c]at h;cases h;simpa using c
  .rw[af c]at h;by_cases d:has t.dummies j=true
   .rw[ah d]at h;cases h
   .rw[af d]at h;cases h
 .intro h;rw[below_at R h,h,ah ∅]
def ic(R:DQ t.place)(hd:t.dummies= #[]):t.slot j=.empty↔∀i:Nat,t.place[i]?≠some j:=by
 constructor
 .intro h i hi;rw[(qo R hd).mpr hi]at h;cases h
 .intro h;have e:t.slot j=if(t.place[below t.place j]?==some j)=true then .live (below t.place j)else if has t.dummies j=true then .dummy else .empty:=rfl
  rw[e,af ‹h _›,af];rw[hd];unfold has;simp
def IW(R:DQ t.place)(hd:t.dummies= #[]) j:t.slot j=.empty\/∃i,t.slot j=.live i:=by
 by_cases c:∃i:Nat,t.place[i]?=some j
 .obtain⟨i,hi⟩:=c;exact .inr ⟨i,(qo R hd).mpr hi⟩
 .exact .inl ((ic R hd).mpr λi hi=>c ⟨i,hi⟩)
theorem DS(R:DQ t.place)(hd:t.dummies= #[]) hashAt h:∀n fuel p,n<fuel->t.slot (gW t n p).j=.empty->(∀m,m<n->t.slot (gW t m p).j≠ .empty)->
  (probe.go t hashAt h fuel p=some (.empty (gW t n p).j p.dummy)/\∀m,m<n->∃i,t.slot (gW t m p).j=.live i/\hashAt i≠h)\/
  ∃m i,m<n/\t.slot (gW t m p).j=.live i/\hashAt i=h/\probe.go t hashAt h fuel p=some (.candidate (gW t m p).j i (gW t (m+1) p))/\∀l,l<m->∃i,t.slot (gW t l p).j=.live i/\hashAt i≠h
 |0,0,p,hf,_,_=>by omega
 |0,fuel+1,p,_,he,_=>by
  refine .inl ⟨?_,λm hm=>absurd hm (mD _)⟩;have he:t.slot p.j=.empty:=he;unfold probe.go;rw[he];rfl
 |n+1,0,p,hf,_,_=>by omega
 |n+1,fuel+1,p,hf,he,hm=>by
  have h0:=hm 0 (jf _);obtain⟨i,hi⟩:∃i,t.slot p.j=.live i:=by
   obtain c|c:=IW R hd p.j
   .exact absurd c h0
   .exact c
  have gd:(t.advance p).dummy=p.dummy:=uK t 1 p;by_cases c:hashAt i=h
  .refine .inr ⟨0,i,jf _,hi,c,?_,λl hl=>absurd hl (mD _)⟩;unfold probe.go;rw[hi];simp only[c,BEq.rfl,if_true];rfl
  .have eg:probe.go t hashAt h (fuel+1) p=probe.go t hashAt h fuel (t.advance p):=by
    conv=>lhs;unfold probe.go
    rw[hi];have:(hashAt i==h)=false:=‹c›
    simp only[this,Bool.false_eq_true,if_false]
   obtain⟨g1,g2⟩|⟨m,i',g1,g2,g3,g4,g5⟩:=DS R hd hashAt h n fuel (t.advance p) () he (λm h1=>hm (m+1) ())
   .refine .inl ⟨by rw[eg,g1,gd];rfl,λm h1=>?_⟩;cases m with
    |zero=>exact⟨i,hi,c⟩|succ m=>exact g2 m ()
   .refine .inr ⟨m+1,i',by omega,g2,g3,by rw[eg,g4];rfl,λl h1=>?_⟩;cases l with
    |zero=>exact⟨i,hi,c⟩|succ l=>exact g5 l ()
theorem len_sub:∀{l m:List Nat},l.Nodup->(∀x∈l,x∈m)->l.length<=m.length
 |[],m,_,_=>cv _
 |x::l,m,nd,h=>by
  obtain⟨h1,h2⟩:=nodup_cons.mp nd;have hx:=h x ∅;have:=len_sub (l:=l) h2 λy hy=>by
   have iB:y≠x:=λe=>h1 (e▸hy);exact(wO iB).mpr (h y (by simp[hy]))
  rw[qY hx]at this;have:=wF hx;rw[aY];omega
def IX(m:Nat):Prop:=m=7\/m=31\/m=127\/m=511\/m=2047\/m=8191
def IX.pow(h:IX t.mask):Pow t:=by
 obtain e|e|e|e|e|e:=h
 .exact⟨3,by rw[e],aaE⟩
 .exact⟨5,by rw[e],aaF⟩
 .exact⟨7,by rw[e],aaG⟩
 .exact⟨9,by rw[e],aaH⟩
 .exact⟨11,by rw[e],XF⟩
 .exact⟨13,by rw[e],XG⟩
theorem zl{t t':SetTable}(h:t.mask=t'.mask):∀n p,gW t n p=gW t' n p
 |0,p=>rfl
 |n+1,p=>by
  have e:t.advance p=t'.advance p:=by unfold advance;rw[h]
  show gW t n (t.advance p)=gW t' n (t'.advance p);rw[e,zl h]
def IY{t':SetTable}(h:t.mask=t'.mask) x:t.probeStart x=t'.probeStart x:=by
 rw[zh,zh,h]
theorem Gr{p:Nat->Prop} [DecidablePred p]:∀{n},p n->∃m,m<=n/\p m/\∀l,l<m->¬p l
 |0,h=>⟨0,aQ _,h,λl hl=>absurd hl (mD _)⟩
 |n+1,h=>by
  by_cases c:∃m,m<=n/\p m
  .obtain⟨m,hm,hp⟩:=c;obtain⟨k,h1,h2,h3⟩:=Gr hp;exact⟨k,by omega,h2,h3⟩
  .exact⟨n+1,aQ _,h,λl hl hp=>c ⟨l,by omega,hp⟩⟩
def IZ(R:DQ t.place)(hd:t.dummies= #[])(hs:t.place.size<=t.mask):∃x,x<=t.mask/\t.slot x=.empty:=by
 by_cases c:∃x,x<=t.mask/\∀i:Nat,t.place[i]?≠some x
 .obtain⟨x,hx,h⟩:=c;exact⟨x,hx,(ic R hd).mpr h⟩
 .exfalso;have:(List.range (t.mask+1)).length<=t.place.toList.length:=len_sub nodup_range λx hx=>by
   have hx:x<t.mask+1:=mem_range.mp hx;by_cases d:∃i:Nat,t.place[i]?=some x
   .obtain⟨i,hi⟩:=d;exact bh (by rw[dq];exact hi)
   .exact absurd ⟨x,by omega,λi hi=>d ⟨i,hi⟩⟩ c
  rw[sy,cH]at this;omega
def vD(M:IX t.mask)(R:DQ t.place)(hd:t.dummies= #[])(hs:t.place.size<=t.mask) h:
  ∃n,n<10*turns t.mask/\t.slot (gW t n (t.probeStart h)).j=.empty/\∀m,m<n->t.slot (gW t m (t.probeStart h)).j≠ .empty:=by
 obtain⟨x,hx,he⟩:=IZ R hd hs;obtain⟨n,hn,e⟩:=cover M.pow h hx;obtain⟨m,h1,h2,h3⟩:=Gr (p:=λn=>t.slot (gW t n (t.probeStart h)).j=.empty) (by rw[e];exact he);exact⟨m,by omega,h2,h3⟩
def iD(xs:Array α)(hp:p<=xs.size) x:(insertAt xs p x).toList=xs.toList.take p++x::xs.toList.drop p:=by
 unfold insertAt;simp[Array.toList_extract,extract_eq_take_drop,take_of_length_le]
def d4(xs:Array α)(hp:p<=xs.size) x i:(insertAt xs p x)[i]?=if i<p then xs[i]? else if i=p then some x else xs[i-1]?:=by
 rw[<-dq,iD xs hp];have hl:(xs.toList.take p).length=p:=by rw[cS,cH];omega
 by_cases c:i<p
 .rw[ah c,sk (),getElem?_take_of_lt c,dq]
 .rw[af c,sh (),hl];by_cases d:i=p
  .subst d;rw[ah rfl,J1];rfl
  .rw[af d];obtain⟨k,hk⟩:∃k,i-p=k+1:=⟨i-p-1,by omega⟩;rw[hk,getElem?_cons_succ,pH,dq];congr 1;omega
def Qc(hd:t.dummies= #[]) j:t.put j=({t with place:=insertAt t.place (below t.place j) j},below t.place j):=by
 unfold put;rw[hd];have:has #[] j=false:=by unfold has;simp
 simp only[this,Bool.false_eq_true,if_false]
def TV{xs:Array Nat}(R:DQ xs)(hn:∀i:Nat,xs[i]?≠some j):DQ (insertAt xs (below xs j) j):=by
 obtain⟨h1,h2,h3⟩:=fX R j;refine⟨λa b x y Qe hx hy=>?_⟩;rw[d4 xs h3]at hx hy;have gt:∀(i v:Nat),below xs j<=i->xs[i]?=some v->j<v:=λi v hi hv=>by
  have:=h2 i v hi hv;have:v≠j:=λe=>hn i (e▸hv);omega
 by_cases c1:a<below xs j
 .rw[ah c1]at hx;by_cases c2:b<below xs j
  .rw[ah c2]at hy;exact R.lt a b x y Qe hx hy
  .rw[af c2]at hy;have l1:=h1 a x c1 hx;by_cases c3:b=below xs j
   .rw[ah c3]at hy;cases hy;exact l1
   .rw[af c3]at hy;have:=gt (b-1) y () hy;omega
 .rw[af c1]at hx;rw[af ()]at hy;by_cases c3:a=below xs j
  .rw[ah c3]at hx;cases hx;rw[af ()]at hy;exact gt (b-1) y () hy
  .rw[af c3]at hx;rw[af ()]at hy;exact R.lt (a-1) (b-1) x y () hx hy
def TX{xs:Array Nat}(R:DQ xs){x:Nat}:(∃i:Nat,(insertAt xs (below xs j) j)[i]?=some x)↔x=j\/∃i:Nat,xs[i]?=some x:=by
 obtain⟨_,_,h3⟩:=fX R j;constructor
 .rintro⟨i,hi⟩;rw[d4 xs h3]at hi;split at hi
  .exact .inr ⟨i,hi⟩
  .split at hi
   .cases hi;exact .inl rfl
   .exact .inr ⟨_,hi⟩
 .rintro(e|⟨i,hi⟩)
  .subst e;exact⟨below xs x,by rw[d4 xs h3,af (iT _),ah rfl]⟩
  .by_cases c:i<below xs j
   .exact⟨i,by rw[d4 xs h3,ah c];exact hi⟩
   .exact⟨i+1,by rw[d4 xs h3,af (),af ()];exact hi⟩
end Pd
end
section
namespace Pd
open PySem PySem.SetTable PySem.Spec PyProof.Rows
def I_{l:List α}{x:α}(h:l[i]?=some x):(x::l.eraseIdx i).Perm l:=by
 obtain⟨hl,hx⟩:=List.getElem?_eq_some_iff.mp h;have e:l=l.take i++x::l.drop (i+1):=by
  rw[<-hx,<-mv hl,sF]
 rw[eraseIdx_eq_take_drop_succ]
 conv=>rhs;rw[e]
 exact perm_middle.symm
theorem KY next:∀fuel k (left:List α) out,left.length<=fuel->(pickOrder.go next fuel k left out).toList.Perm (out.toList++left)
 |0,k,left,out,h=>by
  have:=length_eq_zero_iff.mp (Nat.le_zero.mp h);subst this;rw[jE];exact List.Perm.refl _
 |fuel+1,k,left,out,h=>by
  unfold pickOrder.go;cases e:left[next k%left.length]? with
  |none=>
   have h1:=List.getElem?_eq_none_iff.mp e;have:left=[]:=by
    cases left with
    |nil=>rfl|cons a l=>exact absurd (kb _ (jf l.length)) (Nat.not_lt.mpr h1)
   subst this;rw[jE]
  |some x=>
   obtain⟨hl,hx⟩:=List.getElem?_eq_some_iff.mp e;have ih:=KY next fuel (k+1) (left.eraseIdx (next k%left.length)) (out.push x) (by rw[length_eraseIdx_of_lt hl];omega)
   refine ih.trans ?_;rw[Array.toList_push,iR];refine List.Perm.append_left _ ?_;exact I_ e
def MR next(xs:Array α):(pickOrder next xs).toList.Perm xs.toList:=by
 have:=KY next xs.size 0 xs.toList #[] (by rw[cH];exact aQ _)
 exact this
noncomputable def cV(w:World):Bool:=w.params.followText "set-order"
noncomputable def gM(es:Array (Int×Value))(ep:Nat)(t:SetTable):Obj:= {cls:=.type "set",dict:=none,data:=.set es ep t,slots:= #[]}
structure zm(w:World)(h:Heap)(a:Addr)(es:Array (Int×Value))(ep:Nat)(t:SetTable):Prop where
 ob:h.get? a=some (gM es ep t)
 fit:t.fits es.size=true
 vE:DQ t.place
 plain:t.plain=true
 led:t.led=!cV w
noncomputable def tU(w:World)(a:Addr)(ep:Nat)(es:Array (Int×Value)):Array (Int×Value):=if cV w then pickOrder (w.params.setOrder a ep) es else es
def gb w a ep es:(tU w a ep es).toList.Perm es.toList:=by
 unfold tU;split
 .exact MR _ _
 .exact List.Perm.refl _
noncomputable def slotAt(w:World)(t:SetTable):Nat->Nat
 |0=>0|i+1=>if cV w then 0 else t.place.getD i 0+1
def tV w t i:slotAt w t (i+1)=if cV w then 0 else t.place.getD i 0+1:=rfl
def d_(h:Heap)(I a:Addr)(slot i n ep:Nat):Prop:=∃o,h.get? I=some o/\o.cls=.type "set_iterator"/\o.data=.fields #[.int slot 0,.int i 0,.ref a,.int n 0,.int ep 0]
def d_.typeIs{slot n:Nat}(x:d_ s.heap I a slot i n ep):s.TypeIs (.ref I) "set_iterator":=let⟨o,ho,hc,_⟩:=x;⟨o,ho,hc⟩
namespace F
def c7:Slot "set_iterator" "__next__" "set_iterator.__next__":=
 .of (owner:="set_iterator") (n:="__next__") (by rw[typeLookup_type,builtinLookup_eq_fast];kernel_rfl) (by decide+kernel) (by decide+kernel) (by decide+kernel)
  (by first|exact .inl (by decide+kernel)|exact .inr (by decide+kernel)) (by rw[isSubtype_type];kernel_rfl)
def nX:Slot "set_iterator" "__iter__" "set_iterator.__iter__":=
 .of (owner:="set_iterator") (n:="__iter__") (by rw[typeLookup_type,builtinLookup_eq_fast];kernel_rfl) (by decide+kernel) (by decide+kernel) (by decide+kernel)
  (by first|exact .inl (by decide+kernel)|exact .inr (by decide+kernel)) (by rw[isSubtype_type];kernel_rfl)
def lZ:entryFor table "set_iterator.__next__"=some Builtin.«set_iterator.__next__»:=entryFor_of_tree (by kernel_rfl)
def uL:entryFor table "set_iterator.__iter__"=some Builtin.«dict_keyiterator.__iter__»:=
 entryFor_alias (id':="dict_keyiterator.__iter__") (by kernel_rfl) (by decide+kernel) (by decide+kernel) (by kernel_rfl)
def zo:entryFor table "set.__iter__"=some Builtin.«frozenset.__iter__»:=
 entryFor_alias (id':="frozenset.__iter__") (by kernel_rfl) (by decide+kernel) (by decide+kernel) (by kernel_rfl)
def vF:Manifest.owners.lookup (String.ofList ['r', 'o', 't', 'a', 'r', 'e', 't', 'i', '_', 't', 'e', 's'].reverse)=some Manifest.sig_set_iterator:=by kernel_rfl
def nY a:argsOk "set_iterator.__next__" ⟨[a],[]⟩:=by
 unfold argsOk;rw[signature?_of (id:="set_iterator.__next__") (n:=['_', '_', 't', 'x', 'e', 'n', '_', '_']) (by kernel_rfl) vF];kernel_rfl
def vT a:argsOk "set_iterator.__iter__" ⟨[a],[]⟩:=by
 unfold argsOk;rw[signature?_of (id:="set_iterator.__iter__") (n:=['_', '_', 'r', 'e', 't', 'i', '_', '_']) (by kernel_rfl) vF];kernel_rfl
end F
section
def rK{Q:Bool->Shared->Prop}(h:Q (cV w) s):wpAny (model prog w) A setsByText Q E s:=by
 exact aj (wpAny_askSetting (ay h))
def Ja(R:DQ t.place)(hi:i<=t.place.size)(hb:¬cV w=true):below t.place (slotAt w t i)=i:=by
 obtain⟨h1,h2,h3⟩:=fX R (slotAt w t i);cases i with
 |zero=>
  obtain z|z:=wy (below t.place (slotAt w t 0))
  .exact z
  .have h0:t.place[0]?=some t.place[0]:=iP ();exact absurd (h1 0 _ z h0) (mD _)
 |succ i=>
  have hp:t.place[i]?=some t.place[i]:=iP ();have es:slotAt w t (i+1)=t.place[i] +1:=by
   rw[tV,af hb,DR hp]
  rw[es]at h1 h2 h3⊢;obtain z|z|z:=sC (below t.place (t.place[i] +1)) (i+1)
  .have:=h2 i _ () hp;omega
  .exact z
  .have hq:t.place[i+1]?=some t.place[i+1]:=iP ();have:=h1 (i+1) _ z hq;have:=R.lt i (i+1) _ _ (kC _) hp hq;omega
def zp{Q:Option (Value×Nat)->Shared->Prop}(S:zm w s.heap a es ep t)(hi:i<=es.size)(h:Q (((tU w a ep es)[i]?).map λe=>(e.2,slotAt w t (i+1))) s):wpAny (model prog w) A (setNext a (slotAt w t i) i ep) Q E s:=by
 refine aj (jB S.ob rfl S.fit ?_);refine aj (rK ?_);by_cases hb:cV w=true
 .rw[ah hb,af ∅];refine aj ?_;refine aj (jB S.ob rfl S.fit ?_);refine aj (rK ?_);rw[ah hb];refine aj (wpAny_askSetting (ay ?_));refine ay ?_;have e0:slotAt w t i=0:=by cases i with
   |zero=>rfl|succ i=>rw[tV,ah hb]
  have e1:slotAt w t (i+1)=0:=by rw[tV,ah hb]
  rw[e1]at h;rw[e0];unfold tU at h;rw[ah hb]at h;exact h
 .rw[af hb];show wpAny _ _ (if(!t.plain&&decide (es.size>1))=true then _ else _) _ _ _;rw[af (by rw[S.plain];simp)];refine aj ?_;show wpAny _ _ (if(!t.led&&!es.isEmpty)=true then _ else _) _ _ _;rw[af (by rw[S.led];simp[hb])];refine ay ?_;have DT:t.place.size=es.size:=by
   have:=S.fit;unfold SetTable.fits at this;simp only[Bool.and_eq_true,beq_iff_eq]at this;exact this.1
  rw[Ja S.vE () hb];refine ay ?_;unfold tU at h;rw[af hb]at h;by_cases hl:i<es.size
  .have e1:=iP hl;have e2:t.place[i]?=some t.place[i]:=iP ();rw[e1]at h⊢;rw[e2];have e3:slotAt w t (i+1)=t.place[i] +1:=by rw[tV,af hb,DR e2]
   rw[e3]at h;exact h
  .have e1:es[i]?=none:=qU ();have e2:t.place[i]?=none:=qU ();rw[e1]at h⊢;exact h
def kS{Q:Array (Int×Value)->Shared->Prop}(S:zm w s.heap a es ep t)(h:Q es s):wpAny (model prog w) A (setEntries a) Q E s:=by
 unfold setEntries;exact aj (jB S.ob rfl S.fit (ay h))
def AX{e:Int×Value}{Q:Option Value->Shared->Prop}(hit:d_ s.heap it a (slotAt w t i) i es.size ep)(S:zm w s.heap a es ep t)(hx:(tU w a ep es)[i]?=some e)(hQ:∀h',d_ h' it a (slotAt w t (i+1)) (i+1) es.size ep->Heap.SameBut it s.heap h'->Q (some e.2) {s with heap:=h'}):wpAny (model prog w) A (pyNext (.ref it)) Q E s:=by
 obtain⟨o,ho,hc,hd⟩:=id hit;have hi:i<es.size:=by
  have h1:(tU w a ep es).size=es.size:=by
   have:=(gb w a ep es).length_eq;simpa using this
  obtain⟨h2,_⟩:=Array.getElem?_eq_some_iff.mp hx;omega
 refine aj (sI (qT hit.typeIs F.c7
  (g9 F.c7 hit.typeIs F.lZ ?_ (F.nY _))))
 refine aj (ay ?_);refine aj (wpAny_fieldsOf ho hd ?_);refine aj (kS S ?_);rw[af ∅];show wpAny _ _ (setNext a (slotAt w t i) i ep>>=_) _ _ _;refine aj (zp S () ?_);rw[hx];refine aj (mB ho hd ∅ ?_);have w6:=mr (Obj.mapFields (·.setIfInBounds 0 (rawInt (slotAt w t (i+1):Nat)))) ho (oj (jz hd _));have HG:=jz hd (·.setIfInBounds 0 (rawInt (slotAt w t (i+1):Nat)));refine aj (mB w6 HG ∅ ?_);refine ay ⟨_,rfl,ay (hQ _ ⟨_,mr _ w6 (oj (jz HG _)),(wD ..).trans ((wD ..).trans hc),by rw[jz HG];simp[rawInt]⟩ ((kx ..).trans (kx ..)))⟩
def DU{Q:Option Value->Shared->Prop}(hh:A.handled=none)(hit:d_ s.heap it a (slotAt w t es.size) es.size es.size ep)(S:zm w s.heap a es ep t)(hQ:∀h',Heap.ExtBut it s.heap h'->Q none {s with heap:=h'}):wpAny (model prog w) A (pyNext (.ref it)) Q E s:=by
 obtain⟨o,ho,hc,hd⟩:=id hit;have hx:(tU w a ep es)[es.size]?=none:=by
  have:=(gb w a ep es).length_eq;refine qU ?_;simpa using sP this
 unfold pyNext;refine aj (sI (qT (name:=Str.ofString "__next__") hit.typeIs F.c7
  (g9 F.c7 hit.typeIs F.lZ ?_ (F.nY _))))
 unfold Builtin.«set_iterator.__next__»;refine aj (ay ?_);refine aj (wpAny_fieldsOf ho hd ?_);show wpAny _ _ (setEntries a>>=_) _ _ _;refine aj (kS S ?_);rw[af ∅];show wpAny _ _ (setNext a (slotAt w t es.size) es.size ep>>=_) _ _ _;refine aj (zp S (aQ _) ?_);rw[hx];show wpAny _ _ (setField (.ref it) 2 .none>>=_) _ _ s;refine aj (mB ho hd ∅ ?_);show wpAny _ _ (newExc (.type "StopIteration") [] >>=_) _ _ _;refine aj ?_;delta newExc newTuple;refine aj (jA ?_ (by size_fits));refine aj (m:=firstArgMember _ _) (wpAny_of_eq (a:=Value.none) (by first|rfl|(simp only[firstArgMember];rfl)) ?_);refine jA ?_ (by size_fits);delta raiseNew;refine aj (wpAny_handled ?_);rw[show A.in1.handled=none from hh];refine aj (ay (sW ?_));refine aj (wH (T:="StopIteration") (b:=true) ⟨_,bq _ rfl,rfl⟩ isSubtype_stop ?_);exact ay (hQ _ (((kx ..).extBut.push _).push _))
def Qg(S:zm w s.heap a es ep t)(hQ:Q (.ref s.heap.objs.size) {s with heap:=s.heap.push {cls:=.type "set_iterator",data:=.fields #[.int 0 0,.int 0 0,.ref a,.int es.size 0,.int ep 0]}}):wpAny (model prog w) A (pyIter (.ref a)) Q E s:=by
 have hT:s.TypeIs (.ref a) "set":=⟨_,S.ob,rfl⟩;refine wpAny_pyIter_slot hT PySem.F.slot_set_iter (g9 PySem.F.slot_set_iter hT F.zo ?_ (PySem.F.args_set_iter_1 _));refine aj (ay ?_);refine aj (aj (kS S (ay ?_)));refine aj (aj (jB S.ob rfl S.fit (aj (rK (ay ?_)))));show wpAny _ _ (if(!cV w&&(!t.plain&&decide (es.size>1)))=true then _ else _) _ _ _;rw[af (by rw[S.plain];simp)];refine aj (ay ?_);refine aj ?_;refine aj (jB S.ob rfl S.fit (ay ?_));refine aj (jA (ay ⟨_,rfl,"set_iterator",_,⟨_,bq _ rfl,rfl⟩,F.c7.lookup,?_⟩));simpa[rawInt]using hQ
def Jb{slot n:Nat}(hit:d_ s.heap it a slot i n ep)(h:Q (.ref it) s):wpAny (model prog w) A (pyIter (.ref it)) Q E s:=by
 refine wpAny_pyIter_slot hit.typeIs F.nX (g9 F.nX hit.typeIs F.uL ?_ (F.vT _));exact ay ⟨_,rfl,"set_iterator",_,hit.typeIs,F.c7.lookup,h⟩
def Qh{r:Addr}{Q:Bool->Shared->Prop}(hT:s.TypeIs (.ref r) "set")(h:Q false s):wpAny (model prog w) A (Builtin.List.listLengthHint (.ref r)) Q E s:=by
 refine aj (wpAny_specialOf hT PySem.F.slot_set_len.lookup ?_);generalize hid:("set.__len__":String)=id0
 wp_delta
 subst hid;refine aj (wH (b:=true) hT (by rw[isSubtype_type];kernel_rfl) ?_);refine wpAny_ite_split (λQe=>absurd Qe ⋯) (λ_=>?_);refine aj (sU hT ?_);exact ay h
def zm.keep(S:zm w h a es ep t)(k:∀o,h.get? a=some o->h'.get? a=some o):zm w h' a es ep t:=⟨k _ S.ob,S.fit,S.vE,S.plain,S.led⟩
def d_.keep{slot n:Nat}(x:d_ h it a slot i n ep)(k:∀o,h.get? it=some o->h'.get? it=some o):d_ h' it a slot i n ep:=let⟨o,ho,q⟩:=x;⟨o,k _ ho,q⟩
def MS(hh:A.handled=none) I a (iB:a≠I) es ep t:
  Walks prog w A I [I,a] [I] es.size (λi v=>∃e,(tU w a ep es)[i]?=some e/\v=e.2) (λi h=>d_ h I a (slotAt w t i) i es.size ep/\zm w h a es ep t)where
 sub:=λb hb=>by simp at hb;simp[hb]
 frame:=λ_ _ _ st hk=>⟨st.1.keep λo e=>hk I ∅ o e,st.2.keep λo e=>hk a ∅ o e⟩
 item:=λi s Q E hi st hQ=>by
  have h1:(tU w a ep es).size=es.size:=by
   have:=(gb w a ep es).length_eq;simpa using this
  have hx:(tU w a ep es)[i]?=some (tU w a ep es)[i]:=iP ();refine AX st.1 st.2 hx λh' Ib Dn=>?_;exact hQ _ h' s.toks ⟨_,hx,rfl⟩ ⟨Ib,st.2.keep λo e=>Dn.extBut a o iB e⟩ λb o hb e=>Dn.extBut b o (λh=>hb (by simp[h])) e
 done:=λs Q E st hQ=>DU hh st.1 st.2 λh' Mj=>hQ h' s.toks λb o hb e=>Mj b o (λh=>hb (by simp[h])) e
 self:=λ_ _ _ _ st hQ=>Jb st.1 hQ
def KZ a es ep t:PySem.W.KdlSrc prog w "set" a a es.size (λi v=>∃e,(tU w a ep es)[i]?=some e/\v=e.2) (λh=>zm w h a es ep t)where
 type:=λ_ S=>⟨_,S.ob,rfl⟩
 there:=λ_ S=>⟨aO S.ob,aO S.ob⟩
 keep:=λ_ _ S hk=>S.keep λo e=>hk a (.inl rfl) o e
 notList:=by decide
 notTuple:=by decide
 hint:=λ_ _ _ _ S hq=>Qh ⟨_,S.ob,rfl⟩ hq
 iter:=λ_ _ hh S=>⟨_,_,(λ_ _ hq=>Qg S hq),MS hh _ a (bx (aO S.ob)) es ep t,⟨⟨_,bq _ rfl,rfl,rfl⟩,S.keep λ_ e=>bN _ e⟩⟩
end
end Pd
end
section
namespace Pd
open PySem PySem.SetTable
structure Tb{α:Type}(t:SetTable)(es:Array (Int×α)):Prop where
 XI:IX t.mask
 vE:DQ t.place
 HC:t.dummies= #[]
 len:t.place.size=es.size
 reach:∀(i:Nat)(e:Int×α),es[i]?=some e->∃j n,t.place[i]?=some j/\(gW t n (t.probeStart e.1)).j=j/\∀m,m<n->t.slot (gW t m (t.probeStart e.1)).j≠ .empty
def iE(xs:Array α)(hp:p<=xs.size) x:(insertAt xs p x).size=xs.size+1:=by
 rw[<-cH,iD xs hp,dr,aY,cS,dU,cH];omega
theorem Tb.put{es:Array (Int×α)}(T:Tb t es){h:Int}{x:α}{N:Nat}(he:t.slot (gW t N (t.probeStart h)).j=.empty)(hm:∀m,m<N->t.slot (gW t m (t.probeStart h)).j≠ .empty):
  Tb (t.put (gW t N (t.probeStart h)).j).1 (insertAt es (t.put (gW t N (t.probeStart h)).j).2 (h,x)):=by
 have hn:=(ic T.vE T.HC).mp he;generalize hJ:(gW t N (t.probeStart h)).j=J at*;obtain⟨_,_,h3⟩:=fX T.vE J;have hp:below t.place J<=es.size:=by rw[<-T.len];exact h3
 rw[Qc T.HC];generalize ht:({t with place:=insertAt t.place (below t.place J) J} :SetTable)=t';have m':t'.mask=t.mask:=by rw[<-ht]
 have p':t'.place=insertAt t.place (below t.place J) J:=by rw[<-ht]
 have d':t'.dummies= #[]:=by rw[<-ht];exact T.HC
 have R':DQ t'.place:=by rw[p'];exact TV T.vE hn
 have ea:=λn p=>zl m' n p;have eb:=λx=>IY m' x;have ne:∀y,t.slot y≠ .empty->t'.slot y≠ .empty:=λy hy h'=>by
  refine hy ((ic T.vE T.HC).mpr λi hi=>?_);obtain⟨k,hk⟩:=(TX T.vE (x:=y)).mpr (.inr ⟨i,hi⟩);rw[<-p']at hk;exact(ic R' d').mp h' k hk
 refine⟨by rw[m'];exact T.XI,R',d',?_,λi e hi=>?_⟩
 .rw[p',iE _ h3,iE _ hp,T.len]
 .rw[d4 es hp]at hi;rw[p',d4 t.place h3];simp only[ea,eb];have old:∀k,es[k]?=some e->∃j n,t.place[k]?=some j/\(gW t n (t.probeStart e.1)).j=j/\∀m,m<n->t'.slot (gW t m (t.probeStart e.1)).j≠ .empty:=λk hk=>by
   obtain⟨j,n,q1,q2,q3⟩:=T.reach k e hk;exact⟨j,n,q1,q2,λm hm=>ne _ (q3 m hm)⟩
  by_cases c:i<below t.place J
  .rw[ah c]at hi⊢;exact old i hi
  .rw[af c]at hi⊢;by_cases d:i=below t.place J
   .rw[ah d]at hi⊢;cases hi;exact⟨J,N,rfl,hJ,λm TY=>ne _ (hm m TY)⟩
   .rw[af d]at hi⊢;exact old _ hi
def B6{mask:Nat}(h:i<=mask):i<=runEnd mask i/\runEnd mask i<=mask:=by unfold runEnd;split<;>omega
theorem Qi t:∀n p,p.j+p.more<=t.mask->(gW t n p).j<=t.mask
 |0,p,h=>by show p.j<=_;omega
 |n+1,p,h=>by
  refine Qi t n (t.advance p) ?_;unfold advance;split
  .show p.j+1+(p.more-1)<=_;omega
  .have hi:(leap t.mask p.i p.perturb).1<=t.mask:=Nat.lt_succ_iff.mp (kb _ (jf _));have:=B6 hi;show(leap t.mask p.i p.perturb).1+(runEnd t.mask (leap t.mask p.i p.perturb).1-(leap t.mask p.i p.perturb).1)<=_;omega
def DV t n h:(gW t n (t.probeStart h)).j<=t.mask:=by
 refine Qi t n _ ?_;have hi:bits h%(t.mask+1)<=t.mask:=Nat.lt_succ_iff.mp (kb _ (jf _));have:=B6 hi;show bits h%(t.mask+1)+(runEnd t.mask (bits h%(t.mask+1))-bits h%(t.mask+1))<=_;omega
def m_{owner:Array (Option Nat)}:(owner.getD j (some 0)).isNone=true↔owner[j]?=some none:=by
 rw[xQ];cases owner[j]? with
 |none=>simp|some o=>simp
theorem B7:∀fuel i pt {j},layClean.free t.mask owner fuel i pt=some j->∃n,(gW t n (Lp t.mask i pt none)).j=j/\owner[j]?=some none/\∀m,m<n->owner[(gW t m (Lp t.mask i pt none)).j]?≠some none
 |0,i,pt,j,h=>by cases h
 |fuel+1,i,pt,j,h=>by
  unfold layClean.free at h;have hre:i<=runEnd t.mask i:=by unfold runEnd;split<;>omega
  cases e:(List.range (runEnd t.mask i+1-i)).find? (λk=>(owner.getD (i+k) (some 0)).isNone)with
  |some k=>
   rw[e]at h;cases h;obtain⟨h1,h2,h3⟩:=find?_range_eq_some.mp e;have hk:k<=runEnd t.mask i-i:=by have:=mem_range.mp h2;omega
   refine⟨k,by rw[tS t i pt none k hk],m_.mp h1,λm hm=>?_⟩;rw[tS t i pt none m ()];intro q;have:=h3 m hm;rw[m_.mpr q]at this;cases this
  |none=>
   rw[e]at h;have h4:=find?_range_eq_none.mp e;obtain⟨n,q1,q2,q3⟩:=B7 fuel _ _ h;refine⟨runEnd t.mask i-i+1+n,by rw[eE,zi];exact q1,q2,λm hm=>?_⟩;by_cases c:m<=runEnd t.mask i-i
   .rw[tS t i pt none m c];intro q;have:=h4 m ();rw[m_.mpr q]at this;cases this
   .obtain⟨m',rfl⟩:∃m',m=runEnd t.mask i-i+1+m':=⟨m-(runEnd t.mask i-i+1),by omega⟩;rw[eE,zi];exact q3 m' ()
theorem K0{mask:Nat}:∀fuel i pt T,T<fuel->owner[(E6 mask T (i,pt)).1]?=some none->∃j,layClean.free mask owner fuel i pt=some j
 |0,_,_,_,h,_=>absurd h (mD _)
 |fuel+1,i,pt,T,hT,ho=>by
  unfold layClean.free;have hre:i<=runEnd mask i:=by unfold runEnd;split<;>omega
  cases e:(List.range (runEnd mask i+1-i)).find? (λk=>(owner.getD (i+k) (some 0)).isNone)with
  |some k=>exact⟨_,rfl⟩
  |none=>
   cases T with
   |zero=>
    have:=find?_range_eq_none.mp e 0 ();rw[m_.mpr (show owner[i+0]?=some none from ho)]at this;cases this
   |succ T=>exact K0 fuel _ _ T () ho
def MT(P:Pow t) h {x:Nat} (hx:x<=t.mask):∃T,T<turns t.mask/\(E6 t.mask T (bits h%(t.mask+1),bits h)).1=x:=by
 obtain⟨k,ek,fk⟩:=P.ex;have h0:bits h%(t.mask+1)<t.mask+1:=kb _ (jf _);have hz:(E6 t.mask 13 (bits h%(t.mask+1),bits h)).2=0:=by
  rw[IU];have hb:=KW h;have:(2:Nat)^64<=32^13:=by decide
  exact Nat.div_eq_of_lt (by show bits h<32^13;omega)
 have hy:=IV t.mask 13 (bits h%(t.mask+1),bits h) h0;generalize hs:E6 t.mask 13 (bits h%(t.mask+1),bits h)=s at hz hy;obtain⟨n,hn,e⟩:=B5 fk (x:=x) (y:=s.1) () ();refine⟨13+n,by unfold turns;omega,?_⟩;rw[DP,hs,show s=(s.1,0)from by rw[<-hz],zj,ek];exact e
structure Lay(t:SetTable)(hs:List Int)(owner:Array (Option Nat)):Prop where
 size:owner.size=t.mask+1
 lt:∀j l:Nat,owner[j]?=some (some l)->l<hs.length
 inj:∀j j' l:Nat,owner[j]?=some (some l)->owner[j']?=some (some l)->j=j'
 all:∀(l:Nat)(h:Int),hs[l]?=some h->∃n,owner[(gW t n (t.probeStart h)).j]?=some (some l)/\∀m,m<n->owner[(gW t m (t.probeStart h)).j]?≠some none
theorem Lay.free(L:Lay t hs owner)(hl:hs.length<=t.mask):∃x,x<=t.mask/\owner[x]?=some none:=by
 by_cases c:∃x,x<=t.mask/\owner[x]?=some none
 .exact c
 .have hx:∀x,x<=t.mask->∃l,owner[x]?=some (some l):=λx hx=>by
   cases e:owner[x]? with
   |none=>
    have h1:=Array.getElem?_eq_none_iff.mp e;have h2:=L.size;omega
   |some o=>
    cases o with
    |none=>exact absurd ⟨x,hx,e⟩ c|some l=>exact⟨l,rfl⟩
  have:=len_sub (l:=(List.range (t.mask+1)).map λx=>(owner.getD x none).getD 0) (m:=List.range hs.length) ?_ ?_
  .rw[az,sy,sy]at this;omega
  .rw[nodup_iff_pairwise_ne,pO];refine nodup_range.imp_of_mem λ{a b} ha hb Qe e=>Qe ?_;have ha:=mem_range.mp ha;have hb:=mem_range.mp hb;obtain⟨la,ea⟩:=hx a ();obtain⟨lb,eb⟩:=hx b ();simp only[Array.getD_eq_getD_getElem?,ea,eb,Option.getD_some]at e;subst e;exact L.inj a b la ea eb
  .intro l Fb;obtain⟨x,h1,h2⟩:=mem_map.mp Fb;have h1:=mem_range.mp h1;obtain⟨la,ea⟩:=hx x ();rw[xQ,ea]at h2;subst h2;exact mem_range.mpr (L.lt x la ea)
def Lay.step(M:IX t.mask)(L:Lay t hs owner)(hl:hs.length<=t.mask) h:
  ∃j,layClean.free t.mask owner (turns t.mask) (bits h%(t.mask+1)) (bits h)=some j/\Lay t (hs++ [h]) (owner.setIfInBounds j (some hs.length)):=by
 obtain⟨x,hx,ex⟩:=L.free hl;obtain⟨T,hT,eT⟩:=MT M.pow h hx;obtain⟨j,hj⟩:=K0 (mask:=t.mask) (owner:=owner) (turns t.mask) (bits h%(t.mask+1)) (bits h) T hT (by rw[eT];exact ex);obtain⟨n,q1,q2,q3⟩:=B7 _ _ _ hj;have hjs:j<owner.size:=(Array.getElem?_eq_some_iff.mp q2).1;have g:∀y:Nat,(owner.setIfInBounds j (some hs.length))[y]?=if j=y then some (some hs.length)else owner[y]?:=λy=>by
  rw[Array.getElem?_setIfInBounds];by_cases c:j=y
  .subst c;simp[hjs]
  .simp[c]
 have keep:∀y:Nat,owner[y]?≠some none->(owner.setIfInBounds j (some hs.length))[y]?≠some none:=λy hy z=>by
  rw[g]at z;split at z
  .cases z
  .exact hy z
 refine⟨j,hj,⟨by rw[Array.size_setIfInBounds];exact L.size,λy l hy=>?_,λy y' l hy Mf=>?_,λl h' Fb=>?_⟩⟩
 .rw[g]at hy;rw[dr];split at hy
  .cases hy;exact kC _
  .have:=L.lt y l hy;show l<hs.length+1;omega
 .rw[g]at hy Mf;split at hy
  .next c1=>
   cases hy;split at Mf
   .next c2=>rw[<-c1,<-c2]
   .exact absurd (L.lt _ _ Mf) (iT _)
  .split at Mf
   .cases Mf;exact absurd (L.lt _ _ hy) (iT _)
   .exact L.inj _ _ _ hy Mf
 .by_cases c:l<hs.length
  .rw[sk c]at Fb;obtain⟨n',r1,r2⟩:=L.all l h' Fb;refine⟨n',?_,λm hm=>keep _ (r2 m hm)⟩;rw[g];split
   .next c2=>
    rw[<-c2,q2]at r1;cases r1
   .exact r1
  .obtain⟨eK,e⟩:=List.getElem?_eq_some_iff.mp Fb;rw[dr]at eK;have hll:l=hs.length:=by
    have:l<hs.length+1:=eK;omega
   subst hll;rw[sh (aQ _),J1]at Fb;cases Fb;refine⟨n,?_,λm hm=>keep _ (q3 m hm)⟩;rw[g];exact ah q1.symm
theorem Gs(M:IX t.mask):∀l hs owner,Lay t hs owner->hs.length+l.length<=t.mask->
  ∃Qj,l.foldl (λ(acc:Option (Array (Option Nat)×Nat)) h=>do
   let(owner,k)<-acc
   let j<-layClean.free t.mask owner (turns t.mask) (bits h%(t.mask+1)) (bits h)
   pure (owner.setIfInBounds j (some k),k+1)) (some (owner,hs.length))=some (Qj,hs.length+l.length)/\Lay t (hs++l) Qj
 |[],hs,owner,L,_=>⟨owner,rfl,by rw[jE];exact L⟩
 |h::l,hs,owner,L,hl=>by
  rw[aY]at hl;obtain⟨j,hj,L'⟩:=L.step M () h;obtain⟨o',q1,q2⟩:=Gs M l (hs++ [h]) _ L' (by rw[dr];show hs.length+1+l.length<=_;omega);refine⟨o',?_,by rw[iR]at q2;exact q2⟩;rw[dW];rw[dr,show [h].length=1 from rfl]at q1;simp only[bind,Option.bind,hj,pure];rw[aY,show hs.length+(l.length+1)=hs.length+1+l.length by omega];exact q1
def MU(M:IX t.mask) hs (hl:hs.size<=t.mask):∃owner,layClean t.mask hs=some owner/\Lay t hs.toList owner:=by
 have L0:Lay t [] (Array.replicate (t.mask+1) none):=⟨by simp,λj l h=>(by rw[Array.getElem?_replicate]at h;split at h<;>exact nomatch h),λj j' l h=>(by rw[Array.getElem?_replicate]at h;split at h<;>exact nomatch h),λl h hl=>(by cases hl)⟩;obtain⟨o,q1,q2⟩:=Gs M hs.toList [] _ L0 (by rw[pE,iU,cH];exact hl);refine⟨o,?_,by rw[pK]at q2;exact q2⟩;unfold layClean;rw[<-Array.foldl_toList];rw[show([]:List Int).length=0 from rfl]at q1;rw[q1];rfl
theorem Jc{f:Nat->Option Nat}:∀l:List Nat,(l.filterMap λj=>(f j).map λ(k:Nat)=>(j,k)).map (·.1)=l.filter λj=>(f j).isSome
 |[]=>rfl
 |x::l=>by
  rw[jD,filter_cons];cases f x with
  |none=>exact Jc l
  |some k=>
   show x::_=x::_;rw[Jc l]
theorem Je{f:Nat->Option Nat}:∀l:List Nat,(l.filterMap λj=>(f j).map λ(k:Nat)=>(j,k)).map (·.2)=l.filterMap f
 |[]=>rfl
 |x::l=>by
  rw[jD,jD];cases f x with
  |none=>exact Je l
  |some k=>
   show k::_=k::_;rw[Je l]
theorem Jf{f:α->Option β}:∀{l:List α},(∀x∈l,∃y,f x=some y)->∀i:Nat,(l.filterMap f)[i]?=(l[i]?).bind f
 |[],_,i=>by simp
 |x::l,h,i=>by
  obtain⟨y,hy⟩:=h x ∅;rw[filterMap_cons_some hy];cases i with
  |zero=>simp[hy]|succ i=>simpa using Jf (λz hz=>h z (by simp[hz])) i
def K3{mask finger moves:Nat}{led plain:Bool}(M:IX mask)(es:Array (Int×α))(hl:es.size<=mask):
  ∃t' order,laid mask finger moves led plain (es.map (·.1))=some (t',order)/\(order.filterMap (es[·]?)).toList.Perm es.toList/\Tb t' (order.filterMap (es[·]?))/\t'.mask=mask/\t'.led=led/\t'.plain=plain/\order.toList.Perm (List.range es.size):=by
 obtain⟨owner,q1,L⟩:=MU (t:= {mask,place:= #[],dummies:= #[],finger,led,moves,plain}) M (es.map (·.1)) (by rw[Array.size_map];exact hl);unfold laid;rw[q1];dsimp only[bind,Option.bind,pure];generalize hlv:(List.range (mask+1)).filterMap (λj=>(owner.getD j none).map λ(x:Nat)=>(j,x))=live;have e1:live.map (·.1)=(List.range (mask+1)).filter λj=>(owner.getD j none).isSome:=by rw[<-hlv];exact Jc _
 have e2:live.map (·.2)=(List.range (mask+1)).filterMap λj=>owner.getD j none:=by rw[<-hlv];exact Je _
 have fY:(es.map (·.1)).toList.length=es.size:=by simp
 have gd:∀j l:Nat,owner.getD j none=some l↔owner[j]?=some (some l):=λj l=>by
  rw[xQ];cases owner[j]? with
  |none=>simp|some o=>simp
 have aaI:∀(i j l:Nat),live[i]?=some (j,l)->owner[j]?=some (some l)/\j<mask+1:=λi j l h=>by
  have:=bh h;rw[<-hlv]at this;obtain⟨x,hx,ex⟩:=mem_filterMap.mp this;cases eo:owner.getD x none with
  |none=>rw[eo]at ex;cases ex
  |some k=>
   rw[eo]at ex;cases ex;exact⟨(gd _ _).mp eo,mem_range.mp hx⟩
 have eK:∀l∈live.map (·.2),l<es.size:=λl h=>by
  rw[e2]at h;obtain⟨x,hx,ex⟩:=mem_filterMap.mp h;have:=L.lt x l ((gd _ _).mp ex);omega
 have fu:∀l∈live.map (·.2),∃y,es[l]?=some y:=λl h=>⟨es[l]'(eK l h),iP (eK l h)⟩;have Vx:(live.map (·.2)).Perm (List.range es.size):=by
  refine(perm_ext_iff_of_nodup ?_ nodup_range).mpr λl=>⟨λh=>mem_range.mpr (eK l h),λh=>?_⟩
  .rw[e2,nodup_iff_pairwise_ne,pairwise_filterMap];refine nodup_range.imp_of_mem λ{a b} ha hb Qe x hx y hy e=>Qe ?_;subst e;exact L.inj a b x ((gd _ _).mp hx) ((gd _ _).mp hy)
  .have Fb:=mem_range.mp h;obtain⟨n,r1,_⟩:=L.all l (es[l]).1 (by rw[dq,Array.getElem?_map,iP Fb];rfl);rw[e2];refine mem_filterMap.mpr ⟨_,mem_range.mpr ?_,(gd _ _).mpr r1⟩;have:=(Array.getElem?_eq_some_iff.mp r1).1;rw[L.size]at this;exact this
 have hfm:((live.map (·.2)).toArray.filterMap (es[·]?)).toList=(live.map (·.2)).filterMap (es[·]?):=by simp
 refine⟨_,_,rfl,?_,⟨M,?_,rfl,?_,λi e hi=>?_⟩,rfl,rfl,rfl,by rw[sH];exact Vx⟩
 .rw[hfm];refine(Vx.filterMap _).trans (List.Perm.of_eq ?_);refine pP λi=>?_;rw[Jf (λx hx=>⟨es[x]'(mem_range.mp hx),iP (mem_range.mp hx)⟩),show es.toList[i]?=es[i]? from dq];by_cases c:i<es.size
  .rw[wQ c];rfl
  .rw[om (by rw[sy];omega),qU ()];rfl
 .refine⟨λa b x y Qe hx hy=>?_⟩;have hp:(live.map (·.1)).Pairwise (·<·):=by rw[e1];exact pairwise_lt_range.filter _
  rw[wJ]at hx hy;obtain⟨h1,e3⟩:=List.getElem?_eq_some_iff.mp hx;obtain⟨h2,e4⟩:=List.getElem?_eq_some_iff.mp hy;rw[<-e3,<-e4];exact pairwise_iff_getElem.mp hp a b h1 h2 Qe
 .rw[show(Array.filterMap (es[·]?) (live.map (·.2)).toArray).size=((live.map (·.2)).filterMap (es[·]?)).length by rw[<-hfm,cH],cI,az];have h1:((live.map (·.2)).filterMap (es[·]?)).length=(live.map (·.2)).length:=by
   have:∀{l:List Nat},(∀x∈l,∃y,es[x]?=some y)->(l.filterMap (es[·]?)).length=l.length:=λ{l} =>by
    induction l with
    |nil=>intro _;rfl
    |cons x l ih=>
     intro h;obtain⟨y,hy⟩:=h x ∅;rw[filterMap_cons_some hy,aY,aY,ih λz hz=>h z (by simp[hz])]
   exact this fu
  rw[h1,az]
 .rw[<-dq,hfm,Jf fu,a_]at hi;cases ei:live[i]? with
  |none=>rw[ei]at hi;cases hi
  |some jl=>
   obtain⟨j,l⟩:=jl;rw[ei]at hi;have hi:es[l]?=some e:=hi;obtain⟨ho,hj⟩:=aaI i j l ei;obtain⟨n,r1,r2⟩:=L.all l e.1 (by rw[dq,Array.getElem?_map,hi];rfl);have iz:∀x:Nat,x<=mask->owner[x]?≠some none->∃i:Nat,(live.map (·.1)).toArray[i]?=some x:=λx hx iB=>by
    have hm:x∈live.map (·.1):=by
     rw[e1];refine mem_filter.mpr ⟨mem_range.mpr (),?_⟩;rw[xQ];cases eo:owner[x]? with
     |none=>
      have h1:=Array.getElem?_eq_none_iff.mp eo;have h2:owner.size=mask+1:=L.size;omega
     |some o=>
      cases o with
      |none=>exact absurd eo iB|some k=>rfl
    obtain⟨i,hi⟩:=mem_iff_getElem?.mp hm;exact⟨i,by rw[wJ];exact hi⟩
   have em:∀n p,gW {mask:=mask,place:=(live.map (·.1)).toArray,dummies:= #[],finger:=finger,led:=led,moves:=moves,plain:=plain} n p=gW {mask:=mask,place:= #[],dummies:= #[],finger:=finger,led:=led,moves:=moves,plain:=plain} n p:=λn p=>(by refine zl ?_ n p;rfl);refine⟨j,n,?_,?_,λm hm z=>?_⟩
   .rw[wJ,a_,ei];rfl
   .rw[em];exact(L.inj _ _ _ ho r1).symm
   .rw[em]at z;have hR:DQ (live.map (·.1)).toArray:=by
     refine⟨λa b x y Qe hx hy=>?_⟩;have hp:(live.map (·.1)).Pairwise (·<·):=by rw[e1];exact pairwise_lt_range.filter _
     rw[wJ]at hx hy;obtain⟨h1,e3⟩:=List.getElem?_eq_some_iff.mp hx;obtain⟨h2,e4⟩:=List.getElem?_eq_some_iff.mp hy;rw[<-e3,<-e4];exact pairwise_iff_getElem.mp hp a b h1 h2 Qe
    obtain⟨i',TU⟩:=iz _ (DV {mask:=mask,place:= #[],dummies:= #[],finger:=finger,led:=led,moves:=moves,plain:=plain} m e.1) (r2 m hm);exact(ic hR rfl).mp z i' TU
end Pd
end
section
namespace Pd
open PySem PySem.SetTable PySem.Spec PyProof.Rows
abbrev oR(prog:Program)(w:World)(h:Heap)(k:List Int)(p:Addr):Prop:=IsTupleKey (intKind prog w) h k p
noncomputable abbrev th(prog:Program)(w:World)(k:List Int):Int:=tupleKeyHash (intKind prog w) k
def RV(prog:Program)(w:World)(h:Heap)(e:Int×Value)(k:List Int):Prop:=∃p,e=(th prog w k,.ref p)/\oR prog w h k p
section
def items_int(h:ItemsAre (intKind prog w) k vs):∀v∈vs,∃n t,v=.int n t:=by
 induction h with
 |nil=>intro v hv;cases hv
 |@cons a v' ks vs h1 _ ih=>
  intro v hv;obtain rfl|hv:=mem_cons.mp hv
  .obtain⟨t,e⟩:=wA (v:=v) h1;exact⟨a,t,e⟩
  .exact ih v hv
def Gu n t d:ofAClassStatement d (.int n t)=pure false:=by
 cases d<;>rfl
def vG{Q:Bool->Shared->Prop}(hk:oR prog w s.heap k a)(h:Q false s):wpAny (model prog w) A (ofAClassStatement 8 (.ref a)) Q E s:=by
 have hT:=hk.typeIs;obtain⟨o,items,n,ho,_,hd,hi⟩:=hk;unfold ofAClassStatement;refine aj (sU hT ?_);show wpAny _ _ (pure true>>=_) _ _ s;refine aj (ay ?_);show wpAny _ _ (seqItems? (.ref a)>>=_) _ _ s;refine aj (mF ho hd ?_);refine aj ?_;show wpAny _ _ (forIn items _ _) _ _ s;rw[<-wx];refine wpAny_forIn_list _ (λrest r s'=>r.1=none/\s'=s/\∀v∈rest,∃n t,v=Value.int n t) _ ?_ ?_ _ _ ⟨rfl,rfl,items_int hi⟩
 .rintro v rest r s' ⟨hr,rfl,fu⟩;obtain⟨n,t,rfl⟩:=fu v bZ;rw[Gu];refine aj (ay ?_);simp only[Bool.false_eq_true,if_false];exact ay ⟨rfl,rfl,λu Kf=>fu u (bE _ Kf)⟩
 .rintro⟨r1,r2⟩ s' ⟨hr,rfl,_⟩;simp only at hr;subst hr;exact ay h
def Gv{Q:Bool->Shared->Prop}(hk:oR prog w s.heap k a)(h:Q true s):wpAny (model prog w) A (hashByValue 8 (.ref a)) Q E s:=by
 have hT:=hk.typeIs;obtain⟨o,items,n,ho,_,hd,hi⟩:=hk;unfold hashByValue;refine aj (wpAny_specialOf hT PySem.F.slot_tuple_hash.lookup ?_);show wpAny _ _ (seqItems? (.ref a)>>=_) _ _ s;refine aj (mF ho hd ?_);refine aj ?_;show wpAny _ _ (forIn items _ _) _ _ s;rw[<-wx];refine wpAny_forIn_list _ (λrest r s'=>r.1=none/\s'=s/\∀v∈rest,∃n t,v=Value.int n t) _ ?_ ?_ _ _ ⟨rfl,rfl,items_int hi⟩
 .rintro v rest r s' ⟨hr,rfl,fu⟩;obtain⟨n,t,rfl⟩:=fu v bZ;rw[show hashByValue 7 (.int n t)=pure true from rfl];refine aj (ay ?_);simp only[Bool.not_true,Bool.false_eq_true,if_false];exact ay ⟨rfl,rfl,λu Kf=>fu u (bE _ Kf)⟩
 .rintro⟨r1,r2⟩ s' ⟨hr,rfl,_⟩;simp only at hr;subst hr;exact ay h
def T1{Q:Bool->Shared->Prop}(hk:oR prog w s.heap k a)(MV:∀v∈vs,∃p k',v=.ref p/\oR prog w s.heap k' p)(h:Q false s):wpAny (model prog w) A (searchCouldBeSeen (.ref a) vs) Q E s:=by
 refine aj ?_;refine wpAny_forIn_list _ (λrest r s'=>r.1=none/\s'=s/\∀v∈rest,∃p k',v=Value.ref p/\oR prog w s.heap k' p) _ ?_ ?_ _ _ ⟨rfl,rfl,MV⟩
 .rintro v rest r s' ⟨hr,rfl,fu⟩;obtain⟨p,k',rfl,hp⟩:=fu v bZ;have tl:=λu Kf=>fu u (bE _ Kf);by_cases c:(a==p)=true
  .simp only[c,Bool.true_or,if_true];exact ay ⟨rfl,rfl,tl⟩
  .simp only[c,Bool.false_or,carriedByValue,Bool.and_self,Bool.false_eq_true,if_false];refine aj (wpAny_eqIsQuiet_tuple hk ?_);refine aj (wpAny_eqIsQuiet_tuple hp ?_);refine aj (vG hk ?_);refine aj (vG hp ?_);exact ay ⟨rfl,rfl,tl⟩
 .rintro⟨r1,r2⟩ s' ⟨hr,rfl,_⟩;subst hr;exact ay h
def T2{X Z:Sem α}{b:Bool}{Q:α->Shared->Prop}(h:wpAny M A X Q E s)(hy:∀Q':Bool->Shared->Prop,Q' false s->wpAny M A Y Q' E s):
  wpAny M A (if b=true then Y>>=λc=>if c=true then Z else X else X) Q E s:=by
 cases b
 .exact h
 .refine aj (hy _ ?_);exact h
def T3(T:Tb t es)(h:t.slot j=.live i):∃e,es[i]?=some e/\t.place[i]?=some j:=by
 have hp:=(qo T.vE T.HC).mp h;have hi:i<es.size:=by rw[<-T.len];exact(Array.getElem?_eq_some_iff.mp hp).1
 exact⟨_,iP hi,hp⟩
def Gw{Q:SetFound->Shared->Prop}(hu:A.units<cLine)(S:zm w s.heap a es ep t)(T:Tb t es)(P:Paired (RV prog w s.heap) es.toList ks)(hx:oR prog w s.heap k px){N:Nat}(hN:N<10*turns t.mask)(he:t.slot (gW t N (t.probeStart (th prog w k))).j=.empty)(hm:∀m,m<N->t.slot (gW t m (t.probeStart (th prog w k))).j≠ .empty)(yes:k∈ks->Q (.there none) s)(no:k∉ks->Q (.free (gW t N (t.probeStart (th prog w k))).j false) s):
  ∀d c fuel Qk,c+d=N->d<fuel->Qk.getD (t.probeStart (th prog w k))=gW t c (t.probeStart (th prog w k))->
   (∀m i e,m<c->t.slot (gW t m (t.probeStart (th prog w k))).j=.live i->es[i]?=some e->¬RV prog w s.heap e k)->wpAny (model prog w) A (setSearchFrom a (.ref px) (th prog w k) true fuel Qk) Q E s:=by
 intro d
 induction d using Nat.strongRecOn with
 |ind d ih=>
 intro c fuel Qk hc hf pY YK;obtain⟨fuel,rfl⟩:∃f,fuel=f+1:=⟨fuel-1,by omega⟩;refine aj (jB S.ob rfl S.fit ?_);dsimp only;have hg:t.gaveWay=false:=by
  unfold SetTable.gaveWay;obtain e|e|e|e|e|e:=T.XI<;>rw[e] <;>rfl
 rw[af (by rw[hg];exact b9),pY];have g:=DS T.vE T.HC (λi=>(es[i]?.map (·.1)).getD 0) (th prog w k) d (10*turns t.mask) (gW t c (t.probeStart (th prog w k))) ()
  (by rw[<-eE,hc];exact he) (λm h=>by rw[<-eE];exact hm _ ())
 obtain⟨g1,g2⟩|⟨m,i,g1,g2,g3,g4,g5⟩:=g
 .have gp:t.probe (λi=>(es[i]?.map (·.1)).getD 0) (th prog w k) (gW t c (t.probeStart (th prog w k)))=some (.empty (gW t N (t.probeStart (th prog w k))).j none):=by
   unfold probe;rw[g1,<-eE,hc,uK];rfl
  split
  case h_2=>rename_i Gj;exact(Gj _ gp).elim
  rename_i met Gj;obtain rfl:=Option.some.inj (Gj.symm.trans gp);refine ay (no λhk=>?_);obtain⟨i,hi⟩:=mem_iff_getElem?.mp hk;obtain⟨e,ei,Kj⟩:=L2.Paired.Hx P hi;rw[dq]at ei;obtain⟨j,n',r1,r2,r3⟩:=T.reach i e ei;obtain⟨p,rfl,hp⟩:=id Kj;have WQ:t.slot (gW t n' (t.probeStart (th prog w k))).j=.live i:=by rw[r2];exact(qo T.vE T.HC).mpr r1
  have eK:n'<N:=by
   obtain z|z|z:=sC n' N
   .exact z
   .rw[z,he]at WQ;cases WQ
   .exact absurd he (r3 N z)
  by_cases cc:n'<c
  .exact YK n' i _ cc WQ ei Kj
  .obtain⟨m,rfl⟩:∃m,n'=c+m:=⟨n'-c,by omega⟩;obtain⟨i',q1,q2⟩:=g2 m ();rw[<-eE,WQ]at q1;cases q1;rw[ei]at q2;exact q2 rfl
 .have gp:t.probe (λi=>(es[i]?.map (·.1)).getD 0) (th prog w k) (gW t c (t.probeStart (th prog w k)))=some (.candidate (gW t (c+m) (t.probeStart (th prog w k))).j i (gW t (c+(m+1)) (t.probeStart (th prog w k)))):=by
   unfold probe;rw[g4,<-eE,<-eE]
  split
  case h_2=>rename_i Gj;exact(Gj _ gp).elim
  rename_i met Gj;obtain rfl:=Option.some.inj (Gj.symm.trans gp);dsimp only;rw[<-eE]at g2;obtain⟨e,ei,iz⟩:=T3 T g2;obtain⟨k',sf,Kj⟩:=L2.Paired.at' P (by rw[dq];exact ei);obtain⟨p,rfl,hp⟩:=id Kj;rw[ei]at g3;have seen:∀v∈(List.map (λx=>x.snd) (Array.filter (λx=>x.fst==th prog w k) es).toList),∃p k',v=Value.ref p/\oR prog w s.heap k' p:=λv hv=>by
   obtain⟨e,he1,rfl⟩:=mem_map.mp hv;have he2:e∈es.toList:=by
    have:=Array.mem_toList_iff.mp he1;exact Array.mem_toList_iff.mpr (Array.mem_filter.mp this).1
   obtain⟨i2,Tz⟩:=mem_iff_getElem?.mp he2;obtain⟨k2,_,p2,rfl,MN⟩:=L2.Paired.at' P Tz;exact⟨p2,k2,rfl,MN⟩
  rw[ei];refine T2 ?_ λQ' h=>T1 hx seen h;refine aj (gj (wpAny_eqBool_tuple hu hp hx ?_));refine aj (jB S.ob rfl S.fit ?_);by_cases kk:k'=k
  .rw[ah (by simp[kk])];refine ay (yes ?_);rw[<-kk];exact bh sf
  .rw[af (by simp[kk])];have sm:t.sameMemory t.moves t.mask=some true:=by unfold sameMemory;simp
   rw[sm];dsimp only;rw[ah rfl,g2];dsimp only;rw[ei];refine aj ?_;unfold isSame;dsimp only;rw[ah ∅];refine ay (aj (ay ?_));rw[ah rfl];dsimp only;rw[af (by simp[kk])];refine ih (d-(m+1)) () (c+(m+1)) fuel _ () () rfl λm2 i2 e2 h2 q1 q2 q3=>?_;by_cases cc:m2<c
   .exact YK m2 i2 e2 cc q1 q2 q3
   .obtain⟨l,rfl⟩:∃l,m2=c+l:=⟨m2-c,by omega⟩;by_cases cd:l<m
    .obtain⟨i3,r1,r2⟩:=g5 l cd;rw[<-eE,q1]at r1;cases r1;rw[q2]at r2;obtain⟨p3,rfl,_⟩:=q3;exact r2 rfl
    .have el:l=m:=by omega
     subst el;rw[g2]at q1;cases q1;rw[ei]at q2;cases q2;obtain⟨p3,e3,Ql⟩:=q3;have e4:=bW Prod.snd e3;cases e4;exact kk (hp.inj Ql)
def fh{l m:List α}(p:l.Perm m):∀{ks},Paired F l ks->∃qE,Paired F m qE/\qE.Perm ks:=by
 induction p with
 |nil=>intro ks h;cases h;exact⟨[],.nil,.refl _⟩
 |cons x _ ih=>
  intro ks h;cases h with
  |cons r t=>
   obtain⟨k2,h1,h2⟩:=ih t;exact⟨_,.cons r h1,h2.cons _⟩
 |swap x y l=>
  intro ks h;cases h with
  |cons r t=>
   cases t with
   |cons r2 t2=>exact⟨_,.cons r2 (.cons r t2),.swap _ _ _⟩
 |trans _ _ ih1 ih2=>
  intro ks h;obtain⟨k2,h1,h2⟩:=ih1 h;obtain⟨k3,h3,h4⟩:=ih2 h1;exact⟨k3,h3,h4.trans h2⟩
def zq(M:IX m)(h1:n*5<m*3)(h2:(n+1)*5≥m*3)(h3:n<2100):IX (sizeAbove (grown (n+1))-1)/\sizeAbove (grown (n+1))<=sizeLine/\(n+1)*5<(sizeAbove (grown (n+1))-1)*3/\n+1<=sizeAbove (grown (n+1))-1:=by
 have hz:=cx;obtain e|e|e|e|e|e:=M
 .obtain rfl:n=4:=by omega
  rw[show sizeAbove (grown (4+1))=32 by decide+kernel,hz];exact⟨by unfold IX;omega,by omega,by omega,by omega⟩
 .obtain rfl:n=18:=by omega
  rw[show sizeAbove (grown (18+1))=128 by decide+kernel,hz];exact⟨by unfold IX;omega,by omega,by omega,by omega⟩
 .obtain rfl:n=76:=by omega
  rw[show sizeAbove (grown (76+1))=512 by decide+kernel,hz];exact⟨by unfold IX;omega,by omega,by omega,by omega⟩
 .obtain rfl:n=306:=by omega
  rw[show sizeAbove (grown (306+1))=2048 by decide+kernel,hz];exact⟨by unfold IX;omega,by omega,by omega,by omega⟩
 .obtain rfl:n=1228:=by omega
  rw[show sizeAbove (grown (1228+1))=8192 by decide+kernel,hz];exact⟨by unfold IX;omega,by omega,by omega,by omega⟩
 .omega
def xD{t':SetTable}(ho:h.get? a=some (gM es ep t)):(h.update a (Obj.putSet As t')).get? a=some (gM As (ep+1) t'):=by
 have:=mr (Obj.putSet As t') ho (by rw[putSet_of As t' rfl];rfl);exact this
theorem Tb.fits{es:Array (Int×α)}(T:Tb t es)(h:es.size<=t.mask):t.fits es.size=true:=by
 unfold SetTable.fits SetTable.fill;rw[T.HC,T.len];simpa using h
def T4{Q:Bool->Shared->Prop}(hu:A.units<cLine)(S:zm w s.heap a es ep t)(T:Tb t es)(P:Paired (RV prog w s.heap) es.toList ks)(nd:ks.Nodup)(hx:oR prog w s.heap k px)(room:es.size*5<t.mask*3)(hlen:es.size<2100)(yes:k∈ks->Q false s)(no:k∉ks->∀h' As N6 t' qE,Heap.SameBut a s.heap h'->zm w h' a As N6 t'->Tb t' As->Paired (RV prog w s.heap) As.toList qE->qE.Perm (k::ks)->As.size*5<t'.mask*3->As.toList.Perm ((th prog w k,.ref px)::es.toList)->Q true {s with heap:=h'}):
  wpAny (model prog w) A (setAddHashed a (.ref px) (th prog w k)) Q E s:=by
 have DT:t.place.size<=t.mask:=by
  rw[T.len];omega
 obtain⟨N,hN,he,hm⟩:=vD T.XI T.vE T.HC DT (th prog w k);refine gj (aj (jB S.ob rfl S.fit ?_));dsimp only;refine aj ?_;refine Gw hu S T P hx hN he hm (λh=>?_) (λh=>?_) N 0 100000 none () ?_ rfl (λm i e h=>absurd h (mD _))
 .exact ay (yes h)
 .refine aj (jB S.ob rfl S.fit ?_);have T':=T.put (x:=Value.ref px) he hm;generalize hJ:(gW t N (t.probeStart (th prog w k))).j=J at*;have fp:(t.put J).1.plain=true/\(t.put J).1.mask=t.mask/\(t.put J).1.led=t.led/\(t.put J).2<=es.size:=by
   refine⟨S.plain,rfl,rfl,?_⟩;have:=(fX T.vE J).2.2;rw[T.len]at this;exact this
  generalize hP:t.put J=tp at*;obtain⟨t1,p⟩:=tp;obtain⟨f1,f2,f3,f4⟩:=fp;have fY:(insertAt es p (th prog w k,Value.ref px)).size=es.size+1:=iE es f4 _;have HB:(insertAt es p (th prog w k,Value.ref px)).toList.Perm ((th prog w k,Value.ref px)::es.toList):=by
   rw[iD es f4];refine perm_middle.trans ?_;rw[sF]
  have P1:Paired (RV prog w s.heap) ((th prog w k,Value.ref px)::es.toList) (k::ks):=.cons ⟨px,rfl,hx⟩ P;generalize hes:insertAt es p (th prog w k,Value.ref px)=oh at*;rw[ah f1];refine aj (Gv hx ?_);rw[ah rfl];have E4:=cx;refine aj (wG S.ob rfl ?_ (by rw[fY,E4];omega));have Vy:(s.heap.update a (Obj.putSet oh t1)).get? a=some (gM oh (ep+1) t1):=xD S.ob;have hsb:=kx s.heap a (Obj.putSet oh t1);have hmk:oh.size<=t1.mask:=by rw[fY,f2];omega
  have S1:zm w (s.heap.update a (Obj.putSet oh t1)) a oh (ep+1) t1:=⟨Vy,T'.fits hmk,T'.vE,f1,by rw[f3];exact S.led⟩;by_cases tf:t1.tooFull=true
  .rw[ah (by rw[tf];rfl)];have tf2:(es.size+1)*5≥t.mask*3:=by
    unfold tooFull SetTable.fill at tf;rw[T'.HC,T'.len,fY,f2]at tf;simpa using tf
   obtain⟨M1,M2,M3,M4⟩:=zq T.XI room tf2 hlen;obtain⟨t2,ord,L1,YY,L3,L4,L5,L6,_⟩:=K3 (finger:=t1.finger) (led:=t1.led) (plain:=t1.plain) M1 oh (by rw[fY];exact M4);refine aj ?_;refine aj (jB Vy rfl S1.fit ?_);dsimp only;rw[af ()];have AQ:t1.relaid (oh.map (·.1)) (grown (es.size+1))=some (t2,ord):=L1;rw[AQ];have Gx:(ord.filterMap (oh[·]?)).size=oh.size:=by
    have:=YY.length_eq;exact this
   refine aj ?_;show wpAny _ _ (if((ord.filterMap (oh[·]?)).size !=oh.size)=true then _ else _) _ _ _;rw[af (by rw[Gx];simp)];refine ay ?_;generalize adF:ord.filterMap (oh[·]?)=es2 at*;refine wG Vy rfl ?_ (by rw[Gx,fY,E4];omega);refine ay ?_;obtain⟨qE,q1,q2⟩:=fh (HB.symm.trans YY.symm) P1;have T5:es2.size<=t2.mask:=by rw[Gx,fY,L4];exact M4
   refine no h _ es2 (ep+1+1) t2 qE (hsb.trans (kx ..)) ⟨xD Vy,L3.fits T5,L3.vE,by rw[L6];exact f1,by rw[L5,f3];exact S.led⟩ L3 q1 q2 ?_ (YY.trans HB);rw[Gx,fY,L4];exact M3
  .rw[af ‹tf›];refine ay ?_;obtain⟨qE,q1,q2⟩:=fh HB.symm P1;refine no h _ oh (ep+1) t1 qE hsb S1 T' q1 q2 ?_ HB;unfold tooFull SetTable.fill at tf;rw[T'.HC,T'.len]at tf;simp only[Array.size_empty,Nat.add_zero,decide_eq_true_eq]at tf;omega
 .have:=T.XI;unfold turns at hN;obtain e|e|e|e|e|e:=this<;>rw[e]at hN<;>omega
end
section
def T6 a (h:Q₁ (.ref s.heap.objs.size) {s with heap:=s.heap.push (gM #[] 0 (.fresh 0 0 (!cV w)))}):
  codeAny (model prog w) A (.call (.builtin "set.__new__") ⟨[.type "set",a],[]⟩) (wants Q₁ E) s:=by
 refine codeAny_of_tree ?_;refine aj (wpAny_of_eq (PySem.F.newCall_set_1 a) (ay ⟨pJ PySem.F.plain_set_new _,kH PySem.F.entry_set_new ?_⟩));unfold Builtin.«set.__new__» Builtin.Frozenset.newClass;have qF:=sub_set_self
 wp_walk
 refine wpAny_askSetting (ay ?_);refine aj (wpAny_alloc (ay ?_));exact ay h
def Qm{S I:Addr}{J:Nat->Shared->Prop}{Jm:Nat->Value->Shared->Prop}{Jd:Shared->Prop}(item:∀i s Q E,i<n->J i s->(∀v s',Jm i v s'->Q (some v) s')->wpAny (model prog w) A.in1 (pyNext (.ref I)) Q E s)(add:∀i v s Q E,i<n->Jm i v s->(∀b s',J (i+1) s'->Q b s')->wpAny (model prog w) A.in1 (setAdd S v) Q E s)(done:∀s Q E,J n s->(∀s',Jd s'->Q none s')->wpAny (model prog w) A.in1 (pyNext (.ref I)) Q E s)(fin:∀s,Jd s->R (.ok (.ret .none)) s):∀k i s,n-i=k->i<=n->J i s->codeAny (model prog w) A (.builtin "set.update.loop" ⟨[.ref S,.ref I],[]⟩) R s:=by
 intro k
 induction k with
 |zero=>
  intro i s hk hi hj;obtain rfl:i=n:=by omega
  refine kH PyProof.Rows.F.entry_set_update_loop ?_;refine aj (done s _ _ hj λs' hd=>?_);exact ay (fin s' hd)
 |succ k ih=>
  intro i s hk hi hj;refine kH PyProof.Rows.F.entry_set_update_loop ?_;refine aj (item i s _ _ () hj λv s' hm=>?_);refine aj (gj (add i v s' _ _ () hm λb s2 hj2=>?_));exact ay ⟨pJ PyProof.Rows.F.plain_set_update_loop _,ih (i+1) s2 () () hj2⟩
def Gy{J:Nat->Shared->Prop}{Jm:Nat->Value->Shared->Prop}{Jd:Shared->Prop}(hl:s.heap.IsList l items)(item:∀i s' Q E,i<items.size->J i s'->(∀v s',Jm i v s'->Q (some v) s')->wpAny (model prog w) A.in1.in1.in1 (pyNext (.ref (s.heap.objs.size+1))) Q E s')(add:∀i v s' Q E,i<items.size->Jm i v s'->(∀b s',J (i+1) s'->Q b s')->wpAny (model prog w) A.in1.in1.in1 (setAdd s.heap.objs.size v) Q E s')(done:∀s' Q E,J items.size s'->(∀s',Jd s'->Q none s')->wpAny (model prog w) A.in1.in1.in1 (pyNext (.ref (s.heap.objs.size+1))) Q E s')(start:J 0 {s with heap:=(s.heap.push (gM #[] 0 (.fresh 0 0 (!cV w)))).push {cls:=.type "list_iterator",data:=.fields #[.ref l,.int 0 0]}})(h:∀s',Jd s'->Q (.ref s.heap.objs.size) s'):wpAny (model prog w) A (call (.type "set") [.ref l]) Q E s:=by
 obtain⟨c,tl,aem⟩:=PySem.F.called_set.mro;have aeg:=PySem.F.called_set.made;have qF:=PySem.F.called_set.sub;refine wpAny_call (codeAny_of_tree ?_);show wpAny _ _ (callAny (.type "set") _) _ _ _;refine ay ⟨Code.quiet_builtin _ (by decide+kernel),kH PySem.F.entry_type_call ?_⟩;rw[Around.under_plain (weight_type_call_type "set" [.ref l] []) rfl];have h1:=PySem.F.called_set.notType;have h2:=PySem.F.called_set.canCreate;have hct:=PySem.F.typeCall_set_1 (.ref l)
 repeat(any_goals(first|assumption|wp_step))
 refine je (T6 (.ref l) (E:=E) (Q₁:=λobj s₁=>obj=.ref s.heap.objs.size/\s₁= {s with heap:=s.heap.push (gM #[] 0 (.fresh 0 0 (!cV w)))}) ⟨rfl,rfl⟩) λr s₁ hr=>?_;cases r with
 |error e=>exact hr
 |ok fl=>
  cases fl with
  |ret obj=>
   obtain⟨rfl,rfl⟩:=hr;have hS:(s.heap.push (gM #[] 0 (.fresh 0 0 (!cV w)))).get? s.heap.objs.size=some (gM #[] 0 (.fresh 0 0 (!cV w))):=bq _ rfl;have hT:Shared.TypeIs {s with heap:=s.heap.push (gM #[] 0 (.fresh 0 0 (!cV w)))} (.ref s.heap.objs.size) "set":=⟨_,hS,rfl⟩;have hli:=PySem.F.called_set.init.lookup;have hbi:=PySem.F.called_set.init.bind (.ref s.heap.objs.size)
   repeat(any_goals(first|assumption|wp_step))
   refine je (codeAny_call_builtin (R:=wants (λr s₂=>r=.none/\Jd s₂) E) PySem.F.called_set.init.plain PySem.F.entry_set_init (check_set_init_1 hT ?_)) λr₂ s₂ hr₂=>?_
   .obtain⟨ol,Vz,AF,nl,YZ⟩:=hl;obtain⟨aen,aaJ,aeh,XJ⟩:=ol;simp only at AF YZ;subst AF;subst YZ;unfold gM at*;have adG:(s.heap.push {cls:=.type "set",dict:=none,data:=.set #[] 0 (.fresh 0 0 (!cV w))}).get? l=some {cls:=.type "list",dict:=aaJ,data:=.seq items nl,slots:=XJ} :=bN _ Vz;have aeo:=PySem.F.sub_list_set;have aep:=PySem.F.sub_list_frozenset;have iB:(Value.type "list"==Value.type "dict")=false:=by decide
    have P4:(s.heap.push {cls:=.type "set",dict:=none,data:=.set #[] 0 (.fresh 0 0 (!cV w))}).IsList l items:=⟨_,adG,rfl,nl,rfl⟩;unfold Builtin.«set.__init__» noKeywords Builtin.Frozenset.updateFrom;generalize hPI:pyIter=PI
    wp_walk
    subst hPI;refine wpAny_pyIter_list P4 ?_;refine aj (wpAny_runValue ?_);have e1:(s.heap.push {cls:=.type "set",dict:=none,data:=.set #[] 0 (.fresh 0 0 (!cV w))}).objs.size=s.heap.objs.size+1:=dS ..;rw[e1];refine je (Qm (R:=λr s2=>r=.ok (.ret .none)/\Jd s2) item add done (λs2 hd=>⟨rfl,hd⟩) items.size 0 _ rfl (cv _) start) λr s2 hr=>?_;obtain⟨rfl,hd⟩:=hr;show wpAny _ _ _ _ _ _;refine ay ?_;show wpAny _ _ (ret Value.none) _ _ _;exact ay ⟨rfl,hd⟩
   .cases r₂ with
    |error e=>exact hr₂
    |ok fl₂=>
     cases fl₂ with
     |ret r=>
      obtain⟨rfl,hd⟩:=hr₂
      repeat(any_goals(first|assumption|wp_step))
      exact h _ hd
     |_=>exact hr₂.elim
  |_=>exact hr.elim
end
def oR.keep(x:oR prog w h k p)(f:∀o,h.get? p=some o->o.cls=.type "tuple"->h'.get? p=some o):oR prog w h' k p:=
 let⟨o,aR,n,ho,hc,q⟩:=x
 ⟨o,aR,n,f o ho hc,hc,q⟩
def Gz{l:List (Int×Value)}(x:Paired (RV prog w h) l ks)(f:∀p o,h.get? p=some o->o.cls=.type "tuple"->h'.get? p=some o):Paired (RV prog w h') l ks:=
 L2.Paired.fR x λ_ _ ⟨p,e,q⟩=>⟨p,e,q.keep (f p)⟩
structure LT(prog:Program)(w:World)(h0:Heap)(l:Addr)(items:Array Value)(kk:List (List Int))(S:Addr)(i:Nat)(hp:Heap)(es:Array (Int×Value))(ep:Nat)(t:SetTable)(ks:List (List Int)):Prop where
 li:hp.IsList l items
 fr:∀b o,h0.get? b=some o->hp.get? b=some o
 sa:zm w hp S es ep t
 tb:Tb t es
 pr:Paired (RV prog w hp) es.toList ks
 nd:ks.Nodup
 mem:∀k,k∈ks↔k∈kk.take i
 room:es.size*5<t.mask*3
 src:∀e∈es.toList,e.2∈items.toList
section
def LT.but{kk:List (List Int)}{S:Addr}(L:LT prog w h0 l items kk S i hp es ep t ks)(hI:h0.get? I=none)(hl:l≠I)(hS:S≠I)(hc:∀o,hp.get? I=some o->o.cls≠ .type "tuple")(f:∀b o,b≠I->hp.get? b=some o->h'.get? b=some o):LT prog w h0 l items kk S i h' es ep t ks:=
 ⟨L.li.at λo e=>f l o hl e,λb o e=>f b o (λz=>by rw[z,hI]at e;cases e) (L.fr b o e),L.sa.keep λo e=>f S o hS e,L.tb,Gz L.pr λp o e1 e2=>f p o (λz=>hc o (z▸e1) e2) e1,L.nd,L.mem,L.room,L.src⟩
def DW{kk:List (List Int)}(hh:A.handled=none)(hu:A.units+10<cLine)(hl:s.heap.IsList l items)(hi:Paired (λv k=>∃p,v=Value.ref p/\oR prog w s.heap k p) items.toList kk)(hb:∀ks:List (List Int),ks.Nodup->(∀k∈ks,k∈kk)->ks.length<2100)(h:∀h' tk es ep t ks,zm w h' s.heap.objs.size es ep t->Paired (RV prog w h') es.toList ks->ks.Nodup->(∀k,k∈ks↔k∈kk)->(∀e∈es.toList,e.2∈items.toList)->(∀b o,s.heap.get? b=some o->h'.get? b=some o)->Q (.ref s.heap.objs.size) {s with heap:=h',toks:=tk}):
  wpAny (model prog w) A (call (.type "set") [.ref l]) Q E s:=by
 have eK:l<s.heap.objs.size:=by obtain⟨o,ho,_⟩:=hl;exact aO ho
 have hlen:kk.length=items.size:=by
  have:=L2.Paired.dQ hi;exact this.symm
 have XM:s.heap.get? (s.heap.objs.size+1)=none:=by
  cases e:s.heap.get? (s.heap.objs.size+1)with
  |none=>rfl|some o=>exact absurd (aO e) (Nat.not_lt.mpr (pQ _))
 have nl:=bx (my eK);have ns:s.heap.objs.size≠s.heap.objs.size+1:=bx (kC _);have hh3:A.in1.in1.in1.handled=none:=by simp[hh]
 have W:=Walks.list (prog:=prog) (w:=w) hh3 (s.heap.objs.size+1) l nl items;have nt:∀(hp:Heap)(i:Nat),hp.IsListIter (s.heap.objs.size+1) l i->∀o,hp.get? (s.heap.objs.size+1)=some o->o.cls≠ .type "tuple":=λhp i x o e z=>by
  obtain⟨o',w6,U4,_⟩:=x;rw[w6]at e;cases e;rw[U4]at z;exact absurd z ⋯
 refine Gy (J:=λi s'=>∃hp tk es ep t ks,s'= {s with heap:=hp,toks:=tk}/\hp.IsListIter (s.heap.objs.size+1) l i/\LT prog w s.heap l items kk s.heap.objs.size i hp es ep t ks)
  (Jm:=λi v s'=>∃hp tk es ep t ks,s'= {s with heap:=hp,toks:=tk}/\items[i]?=some v/\hp.IsListIter (s.heap.objs.size+1) l (i+1)/\LT prog w s.heap l items kk s.heap.objs.size i hp es ep t ks)
  (Jd:=λs'=>∃hp tk es ep t ks,s'= {s with heap:=hp,toks:=tk}/\LT prog w s.heap l items kk s.heap.objs.size items.size hp es ep t ks) hl ?_ ?_ ?_ ?_ ?_
 .rintro i s' Q E TU ⟨hp,tk,es,ep,t,ks,rfl,it,L⟩ k;refine W.item i _ Q E TU ⟨it,L.li⟩ λv h' RU hv st f=>?_;exact k v _ ⟨h',RU,es,ep,t,ks,rfl,hv,st.1,L.but XM nl ns (nt _ _ it) λb o hb e=>f b o ‹hb› e⟩
 .rintro i v s' Q E TU ⟨hp,tk,es,ep,t,ks,rfl,hv,it,L⟩ k;obtain⟨key,hk,p,rfl,tp⟩:=L2.Paired.at' hi (by rw[dq];exact hv);have tp':=tp.keep λo e _=>L.fr p o e;have Av:kk.take (i+1)=kk.take i++ [key]:=by
   rw[take_succ,hk];rfl
  have hks:∀qE:List (List Int),qE.Perm (key::ks)->∀x,x∈qE↔x∈kk.take (i+1):=λqE pm x=>by
   rw[pm.mem_iff,Av,sv,jh,L.mem,sO];exact or_comm
  refine gj (aj (wpAny_pyHash_tuple (by simp;omega) tp' ?_));have fY:es.size=ks.length:=by
   have:=L2.Paired.dQ L.pr;exact this
  refine T4 (by simp;omega) L.sa L.tb L.pr L.nd tp' L.room ?_ (λmn=>?_) λXN h' As N6 t' qE sb S' T' P' pm Qn pe=>?_
  .rw[fY];exact hb ks L.nd λx hx=>mem_of_mem_take ((L.mem x).mp hx)
  .refine k false _ ⟨hp,_,es,ep,t,ks,rfl,it,⟨L.li,L.fr,L.sa,L.tb,L.pr,L.nd,λx=>?_,L.room,L.src⟩⟩;rw[L.mem,Av,jh,sO];exact⟨.inl,λz=>z.elim id λe=>e▸(L.mem key).mp mn⟩
  .have f:=λb o hb e=>sb.extBut b o hb e;have hns:∀o,hp.get? s.heap.objs.size=some o->o.cls≠ .type "tuple":=λo e z=>by
    rw[L.sa.ob]at e;cases e;exact absurd z (by show¬(Value.type "set"=Value.type "tuple");decide)
   refine k true _ ⟨h',_,As,N6,t',qE,rfl,it.at λo e=>f _ o ns.symm e,⟨L.li.at λo e=>f l o (bx eK) e,λb o e=>f b o (bx (aO e)) (L.fr b o e),S',T',Gz P' λq o e1 e2=>f q o (λz=>hns o (z▸e1) e2) e1,?_,hks qE pm,Qn,λe he=>?_⟩⟩
   .exact pm.nodup_iff.mpr (nodup_cons.mpr ⟨XN,L.nd⟩)
   .obtain z|z:=mem_cons.mp (pe.mem_iff.mp he)
    .rw[z];exact bh (by rw[dq];exact hv)
    .exact L.src e z
 .rintro s' Q E ⟨hp,tk,es,ep,t,ks,rfl,it,L⟩ k;refine W.done _ Q E ⟨it,L.li⟩ λh' RU f=>?_;exact k _ ⟨h',RU,es,ep,t,ks,rfl,L.but XM nl ns (nt _ _ it) λb o hb e=>f b o ‹hb› e⟩
 .have fit:(SetTable.fresh 0 0 (!cV w)).fits (#[]:Array (Int×Value)).size=true:=rfl;have vE:DQ (#[]:Array Nat):=⟨λi j a b _ h=>by simp at h⟩;have e1:(s.heap.push (gM #[] 0 (SetTable.fresh 0 0 (!cV w)))).objs.size=s.heap.objs.size+1:=dS ..;refine⟨_,s.toks, #[],0,.fresh 0 0 (!cV w),[],rfl,?_,⟨(hl.push _).push _,λb o e=>bN _ (bN _ e),⟨bN _ (bq _ rfl),fit,vE,rfl,rfl⟩,⟨.inl rfl,vE,rfl,rfl,λi e h=>by simp at h⟩,.nil,nodup_nil,λx=>by simp,by show 0*5<7*3;decide,λe he=>by simp at he⟩⟩;rw[<-e1];exact⟨_,bq _ rfl,rfl,rfl⟩
 .rintro s' ⟨hp,tk,es,ep,t,ks,rfl,L⟩;refine h hp tk es ep t ks L.sa L.pr L.nd (λx=>?_) L.src L.fr;rw[L.mem,<-hlen,eM]
end
theorem tW:∀{l m:List Int},l.Nodup->(∀x∈l,x∈m)->l.length<=m.length
 |[],m,_,_=>cv _
 |x::l,m,nd,h=>by
  obtain⟨h1,h2⟩:=nodup_cons.mp nd;have hx:=h x ∅;have:=tW (l:=l) (m:=m.erase x) h2 λy hy=>by
   have iB:y≠x:=λe=>h1 (e▸hy);exact(wO iB).mpr (h y (by simp[hy]))
  rw[qY hx]at this;have:=wF hx;rw[aY];omega
def VA(e:Int×Value)(n:Int):Prop:=∃t,e=(hashInt n,.int n t)
section
def MX{l:List (Int×Value)}(P:Paired VA l ns):ElemsOf (intKind prog w) l:=λe he=>by
 obtain⟨i,hi⟩:=mem_iff_getElem?.mp he;obtain⟨n,_,t,rfl⟩:=L2.Paired.at' P hi;exact⟨⟨n,pU _ _ _ _,rfl⟩,rfl⟩
def GA{l:List (Int×Value)}(P:Paired VA l ns):(l.findIdx? λe=>(intKind prog w).is n e.2)=none↔n∉ns:=by
 rw[findIdx?_eq_none_iff];constructor
 .intro h hn;obtain⟨i,hi⟩:=mem_iff_getElem?.mp hn;obtain⟨e,he,t,rfl⟩:=L2.Paired.Hx P hi;have:=h _ (bh he);rw[show(intKind prog w).is n (.int n t)=true from pU _ _ _ _]at this;cases this
 .intro h e he;obtain⟨i,hi⟩:=mem_iff_getElem?.mp he;obtain⟨m,hm,t,rfl⟩:=L2.Paired.at' P hi;cases e2:(intKind prog w).is n (Value.int m t)with
  |false=>rfl
  |true=>
   have:=(intKind prog w).inj _ _ _ e2 (pU _ _ _ _);exact absurd (this▸bh hm) h
def add_int{Q:Bool->Shared->Prop}(S:zm w s.heap a es ep t)(T:Tb t es)(P:Paired VA es.toList ns)(room:es.size*5<t.mask*3)(hlen:es.size<2100)(yes:n∈ns->Q false s)(no:n∉ns->∀h' As N6 t' lD,Heap.SameBut a s.heap h'->zm w h' a As N6 t'->Tb t' As->Paired VA As.toList lD->lD.Perm (n::ns)->As.size*5<t'.mask*3->Q true {s with heap:=h'}):
  wpAny (model prog w) A (setAddHashed a (.int n tk) (hashInt n)) Q E s:=by
 have DT:t.place.size<=t.mask:=by
  rw[T.len];omega
 obtain⟨N,hN,he,hm⟩:=vD T.XI T.vE T.HC DT (hashInt n);have Kj:=MX (prog:=prog) (w:=w) P;unfold setAddHashed setAddHashedIn;refine gj (aj (jB S.ob rfl S.fit ?_));dsimp only;rw[byScan_of (knd:=intKind prog w) (x:=.int n tk) rfl (by unfold scanBound;omega) Kj];simp only[↓reduceIte];unfold setAddByScan;refine aj ?_;refine aj (wpAny_rule ?_);refine aj (wpAny_setScan_of (knd:=intKind prog w) (k:=n) (pU _ _ _ _) S.ob rfl S.fit Kj ?_);by_cases hn:n∈ns
 .cases hr:List.findIdx? (λe=>(intKind prog w).is n e.2) es.toList with
  |none=>exact absurd hn ((GA P).mp hr)
  |some j=>
   dsimp only;exact ay (ay (yes hn))
 .rw[(GA (prog:=prog) (w:=w) P).mpr hn];dsimp only;have vg:t.freeSlot (hashInt n)=some ((gW t N (t.probeStart (hashInt n))).j,false):=by
   unfold SetTable.freeSlot probe;obtain⟨g1,_⟩|⟨m,i,_,_,g3,_⟩:=DS T.vE T.HC (λ_=>hashInt n+1) (hashInt n) N (10*turns t.mask) (t.probeStart (hashInt n)) hN he hm
   .rw[g1];rfl
   .have g3:hashInt n+1=hashInt n:=g3;omega
  obtain⟨oh,t1,Xb,T',f1,f2,f3,fY,HB⟩:∃oh t1,layNew t es (hashInt n) (.int n tk)=(oh,t1,false,false)/\Tb t1 oh/\t1.plain=true/\t1.mask=t.mask/\t1.led=t.led/\oh.size=es.size+1/\oh.toList.Perm ((hashInt n,Value.int n tk)::es.toList):=by
   have T':=T.put (x:=Value.int n tk) he hm;generalize hJ:(gW t N (t.probeStart (hashInt n))).j=J at*;have fp:(t.put J).1.plain=true/\(t.put J).1.mask=t.mask/\(t.put J).1.led=t.led/\(t.put J).2<=es.size:=by
    rw[Qc T.HC];refine⟨S.plain,rfl,rfl,?_⟩;have:=(fX T.vE J).2.2;rw[T.len]at this;exact this
   obtain⟨f1,f2,f3,f4⟩:=fp;have fY:(insertAt es (t.put J).2 (hashInt n,Value.int n tk)).size=es.size+1:=iE es f4 _;have SU:=T'.fits (by rw[fY,f2];omega);refine⟨insertAt es (t.put J).2 (hashInt n,Value.int n tk),(t.put J).1,?_,T',f1,f2,f3,fY,?_⟩
   .unfold layNew;rw[vg];show((insertAt es (t.put J).2 (hashInt n,Value.int n tk)),SetTable.orStandIn (t.put J).1 (insertAt es (t.put J).2 (hashInt n,Value.int n tk)).size,false,!SetTable.fits (t.put J).1 (insertAt es (t.put J).2 (hashInt n,Value.int n tk)).size)=_;unfold SetTable.orStandIn;rw[ah SU,SU];rfl
   .rw[iD es f4];refine perm_middle.trans ?_;rw[sF]
  have P1:Paired VA ((hashInt n,Value.int n tk)::es.toList) (n::ns):=.cons ⟨tk,rfl⟩ P;have hmk:oh.size<=t1.mask:=by rw[fY,f2];omega
  rw[Xb];dsimp only;refine aj (ay ?_);rw[ah f1];refine aj (ay ?_);rw[ah rfl];have E4:=cx;refine aj (wG S.ob rfl ?_ (by rw[fY,E4];omega));have Vy:(s.heap.update a (Obj.putSet oh t1)).get? a=some (gM oh (ep+1) t1):=xD S.ob;have hsb:=kx s.heap a (Obj.putSet oh t1);have S1:zm w (s.heap.update a (Obj.putSet oh t1)) a oh (ep+1) t1:=⟨Vy,T'.fits hmk,T'.vE,f1,by rw[f3];exact S.led⟩;by_cases tf:t1.tooFull=true
  .rw[ah (by rw[tf];rfl)];have tf2:(es.size+1)*5≥t.mask*3:=by
    unfold tooFull SetTable.fill at tf;rw[T'.HC,T'.len,fY,f2]at tf;simpa using tf
   obtain⟨M1,M2,M3,M4⟩:=zq T.XI room tf2 hlen;obtain⟨t2,ord,L1,YY,L3,L4,L5,L6,L7⟩:=K3 (finger:=t1.finger) (moves:=t1.movedTo (sizeAbove (grown (es.size+1))-1)) (led:=t1.led) (plain:=t1.plain) M1 oh (by rw[fY];exact M4);have Gx:(ord.filterMap (oh[·]?)).size=oh.size:=by
    have:=YY.length_eq;rw[cH,cH]at this;exact this
   have T5:(ord.filterMap (oh[·]?)).size<=t2.mask:=by rw[Gx,fY,L4];exact M4
   have AQ:relayAll t1 oh (grown oh.size)=(ord.filterMap (oh[·]?),t2,false):=by
    unfold relayAll;rw[fY,show t1.relaid (oh.map (·.1)) (grown (es.size+1))=some (t2,ord)from L1];dsimp only;have hc:coversAll ord (es.size+1)=true:=by
     unfold coversAll;rw[isPerm_iff,<-fY];exact L7
    rw[hc,L3.fits T5];rfl
   rw[AQ];dsimp only;generalize adF:ord.filterMap (oh[·]?)=es2 at*;refine aj (ay ?_);refine aj (wG Vy rfl ?_ (by rw[Gx,fY,E4];omega));refine ay ?_;obtain⟨lD,q1,q2⟩:=fh (HB.symm.trans YY.symm) P1;dsimp only;refine ay (no hn _ es2 (ep+1+1) t2 lD (hsb.trans (kx ..)) ⟨xD Vy,L3.fits T5,L3.vE,by rw[L6];exact f1,by rw[L5,f3];exact S.led⟩ L3 q1 q2 ?_);rw[Gx,fY,L4];exact M3
  .rw[af ‹tf›];refine ay ?_;obtain⟨lD,q1,q2⟩:=fh HB.symm P1;dsimp only;refine ay (no hn _ oh (ep+1) t1 lD hsb S1 T' q1 q2 ?_);unfold tooFull SetTable.fill at tf;rw[T'.HC,T'.len]at tf;simp only[Array.size_empty,Nat.add_zero,decide_eq_true_eq]at tf;omega
structure LI(w:World)(h0:Heap)(l:Addr)(items:Array Value)(nn:List Int)(S:Addr)(i:Nat)(hp:Heap)(es:Array (Int×Value))(ep:Nat)(t:SetTable)(ns:List Int):Prop where
 li:hp.IsList l items
 fr:∀b o,h0.get? b=some o->hp.get? b=some o
 sa:zm w hp S es ep t
 tb:Tb t es
 pr:Paired VA es.toList ns
 nd:ns.Nodup
 mem:∀k,k∈ns↔k∈nn.take i
 room:es.size*5<t.mask*3
def LI.but{S:Addr}(L:LI w h0 l items nn S i hp es ep t ns)(hI:h0.get? I=none)(hl:l≠I)(hS:S≠I)(f:∀b o,b≠I->hp.get? b=some o->h'.get? b=some o):LI w h0 l items nn S i h' es ep t ns:=
 ⟨L.li.at λo e=>f l o hl e,λb o e=>f b o (λz=>by rw[z,hI]at e;cases e) (L.fr b o e),L.sa.keep λo e=>f S o hS e,L.tb,L.pr,L.nd,L.mem,L.room⟩
def DX(hh:A.handled=none)(hl:s.heap.IsList l items)(hi:IntsAre items.toList nn)(hb:nn.length<2100)(h:∀h' tk es ep t ns,zm w h' s.heap.objs.size es ep t->Paired VA es.toList ns->ns.Nodup->(∀k,k∈ns↔k∈nn)->(∀b o,s.heap.get? b=some o->h'.get? b=some o)->Q (.ref s.heap.objs.size) {s with heap:=h',toks:=tk}):
  wpAny (model prog w) A (call (.type "set") [.ref l]) Q E s:=by
 have eK:l<s.heap.objs.size:=by obtain⟨o,ho,_⟩:=hl;exact aO ho
 have hlen:nn.length=items.size:=by
  have:=hi.length;rw[cH]at this;exact this.symm
 have XM:s.heap.get? (s.heap.objs.size+1)=none:=by
  cases e:s.heap.get? (s.heap.objs.size+1)with
  |none=>rfl|some o=>exact absurd (aO e) (Nat.not_lt.mpr (pQ _))
 have nl:l≠s.heap.objs.size+1:=bx (my eK);have ns0:s.heap.objs.size≠s.heap.objs.size+1:=bx (kC _);have hh3:A.in1.in1.in1.handled=none:=by simp[hh]
 have W:=Walks.list (prog:=prog) (w:=w) (A:=A.in1.in1.in1) hh3 (s.heap.objs.size+1) l nl items;refine Gy (J:=λi s'=>∃hp tk es ep t ns,s'= {s with heap:=hp,toks:=tk}/\hp.IsListIter (s.heap.objs.size+1) l i/\LI w s.heap l items nn s.heap.objs.size i hp es ep t ns)
  (Jm:=λi v s'=>∃hp tk es ep t ns,s'= {s with heap:=hp,toks:=tk}/\items[i]?=some v/\hp.IsListIter (s.heap.objs.size+1) l (i+1)/\LI w s.heap l items nn s.heap.objs.size i hp es ep t ns)
  (Jd:=λs'=>∃hp tk es ep t ns,s'= {s with heap:=hp,toks:=tk}/\LI w s.heap l items nn s.heap.objs.size items.size hp es ep t ns) hl ?_ ?_ ?_ ?_ ?_
 .rintro i s' Q E TU ⟨hp,tk,es,ep,t,ns,rfl,it,L⟩ k;refine W.item i _ Q E TU ⟨it,L.li⟩ λv h' RU hv st f=>?_;exact k v _ ⟨h',RU,es,ep,t,ns,rfl,hv,st.1,L.but XM nl ns0 λb o hb e=>f b o ‹hb› e⟩
 .rintro i v s' Q E TU ⟨hp,tk,es,ep,t,ns,rfl,hv,it,L⟩ k;obtain⟨u,rfl⟩:=hi.int_at i v (by rw[dq];exact hv);have hk:nn[i]?=some (nn.getD i 0):=by
   rw[cQ,bg ()];rfl
  generalize nn.getD i 0=n at*;have Av:nn.take (i+1)=nn.take i++ [n]:=by
   rw[take_succ,hk];rfl
  have fY:es.size=ns.length:=by
   have:=L2.Paired.dQ L.pr;rw[cH]at this;exact this
  have hle:ns.length<=nn.length:=by
   refine aW (tW L.nd λx hx=>(L.mem x).mp hx) ?_;rw[cS];exact oo _ _
  unfold setAdd;refine gj (aj ((intKind prog w).pyHash (k:=n) (pU _ _ _ _) ?_));refine add_int (s:= {s with heap:=hp,toks:=tk+1}) L.sa L.tb L.pr L.room () (λmn=>?_) λXN h' As N6 t' lD sb S' T' P' pm Qn=>?_
  .refine k false _ ⟨hp,_,es,ep,t,ns,rfl,it,⟨L.li,L.fr,L.sa,L.tb,L.pr,L.nd,λx=>?_,L.room⟩⟩;rw[L.mem,Av,jh,sO];exact⟨.inl,λz=>z.elim id λe=>e▸(L.mem n).mp mn⟩
  .have f:∀b o,b≠s.heap.objs.size->hp.get? b=some o->h'.get? b=some o:=λb o hb e=>sb.extBut b o hb e;refine k true _ ⟨h',_,As,N6,t',lD,rfl,it.at λo e=>f _ o ns0.symm e,⟨L.li.at λo e=>f l o (bx eK) e,λb o e=>f b o (bx (aO e)) (L.fr b o e),S',T',P',?_,λx=>?_,Qn⟩⟩
   .exact pm.nodup_iff.mpr (nodup_cons.mpr ⟨XN,L.nd⟩)
   .rw[pm.mem_iff,Av,sv,jh,L.mem,sO];exact or_comm
 .rintro s' Q E ⟨hp,tk,es,ep,t,ns,rfl,it,L⟩ k;refine W.done _ Q E ⟨it,L.li⟩ λh' RU f=>?_;exact k _ ⟨h',RU,es,ep,t,ns,rfl,L.but XM nl ns0 λb o hb e=>f b o ‹hb› e⟩
 .have fit:(SetTable.fresh 0 0 (!cV w)).fits (#[]:Array (Int×Value)).size=true:=rfl;have vE:DQ (#[]:Array Nat):=⟨λi j a b _ h=>by simp at h⟩;have e1:(s.heap.push (gM #[] 0 (SetTable.fresh 0 0 (!cV w)))).objs.size=s.heap.objs.size+1:=dS ..;refine⟨_,s.toks, #[],0,.fresh 0 0 (!cV w),[],rfl,?_,⟨(hl.push _).push _,λb o e=>bN _ (bN _ e),⟨bN _ (bq _ rfl),fit,vE,rfl,rfl⟩,⟨.inl rfl,vE,rfl,rfl,λi e h=>by simp at h⟩,.nil,nodup_nil,λx=>by simp,by show 0*5<7*3;decide⟩⟩;rw[<-e1];exact⟨_,bq _ rfl,rfl,rfl⟩
 .rintro s' ⟨hp,tk,es,ep,t,ns,rfl,L⟩;refine h hp tk es ep t ns L.sa L.pr L.nd (λx=>?_) L.fr;rw[L.mem,<-hlen,eM]
end
noncomputable def VB:Nat->Bool:=λ_=>false
theorem Qo:∀a b:List Int,PyProof.Rows.lexLt PyProof.Rows.itemOrd (a.map Sum.inl) (b.map Sum.inl)=HT.lexLt a b
 |[],[]=>rfl|[],_::_=>rfl
 |_::_,[]=>rfl
 |x::a,y::b=>by
  rw[aP,aP,PyProof.Rows.lex_cons,Qo a b,HT.hG];show(decide (x<y)||(!decide (y<x)&&HT.lexLt a b))=_;by_cases c:x=y
  .subst c;simp
  .rw[af c];by_cases d:x<y
   .simp[d]
   .have:y<x:=by omega
    simp[d,this]
theorem K4:∀a b:List Int,HT.lexLt b a=false->a≠b->HT.lexLt a b=true
 |[],[],_,h=>absurd rfl h|[],_::_,_,_=>rfl
 |_::_,[],h,_=>by cases h
 |x::a,y::b,h,iB=>by
  rw[HT.hG]at h⊢;by_cases c:x=y
  .subst c;rw[ah rfl]at h⊢;exact K4 a b h λe=>iB (by rw[e])
  .rw[af (dF c)]at h;rw[af c];have:¬y<x:=by simpa using h
   simp;omega
section
def AY(h:ItemsAre (intKind prog w) k vs):∀i,PyProof.Rows.tupItems VB i vs=some (k.map Sum.inl):=by
 induction h with
 |nil=>intro i;rfl
 |@cons n v ks vs h1 _ ih=>
  intro i;obtain⟨t,e⟩:=wA (v:=v) h1;subst e;show(if VB i=true then none else(PyProof.Rows.tupItems VB (i+1) vs).map (Sum.inl n::·))=_;rw[ih];rfl
def TR(prog:Program)(w:World)(h:Heap)(v:Value)(k:List Int):Prop:=∃p,v=.ref p/\oR prog w h k p
def TR.key{v:Value}(x:TR prog w h v k):G.tupKeyC h VB v=some (k.map Sum.inl):=by
 obtain⟨p,rfl,o,aR,n,ho,hc,hd,hi⟩:=x;exact G.tupKeyC_of ho hc hd (AY hi 0)
theorem K5:∀{vs}{ks},Paired (TR prog w h) vs ks->(∀k∈ks,k≠ [])->∃fs,PyProof.Rows.TupsOf h VB vs fs
 |_,_,.nil,_=>⟨[],.nil⟩
 |_,_,.cons r t,ne=>by
  obtain⟨fs,hf⟩:=K5 t λk hk=>ne k (by simp[hk]);obtain⟨p,rfl,o,aR,n,ho,hc,hd,hi⟩:=r;have h0:=ne _ (bZ ..);obtain⟨xs,rfl⟩:∃l,aR=List.toArray l:=⟨aR.toList,by simp⟩;cases hi with
  |nil=>exact absurd rfl h0
  |@cons a v' qE Y0 h1 _=>
   obtain⟨t',e⟩:=wA (k:=a) h1;exact⟨v'::fs,.cons ⟨p,o,_,n,rfl,ho,hc,hd,rfl,λ_=>⟨a,t',e⟩,λz=>by cases z⟩ hf⟩
def GB{γ:Type}{F:α->γ->Prop}{G:β->γ->Prop}{f:α->β}:∀{l}{ks},Paired F l ks->(∀a k,F a k->G (f a) k)->Paired G (l.map f) ks:=by
 intro l ks h f
 induction h with
 |nil=>exact .nil|cons r t ih=>exact .cons (f _ _ r) ih
def Qp{F G:α->β->Prop}:∀{l}{m},Paired F l m->(∀a∈l,∀b,F a b->G a b)->Paired G l m:=by
 intro l m h
 induction h with
 |nil=>intro _;exact .nil|cons r t ih=>intro f;exact .cons (f _ (bZ ..) _ r) (ih λa ha=>f a (bE _ ha))
def DY{P:Fin->Shared->Prop}(ho:s.heap.get? a=some (seqObj "list" vs.toArray n))(hp:Paired (TR prog w s.heap) vs ks)(ne:∀k∈ks,k≠ [])(hL:vs.length<=sizeLine)(h:∀out qE,out.toList.Perm vs->Paired (TR prog w s.heap) out.toList qE->qE.Perm ks->qE.Pairwise (λx y=>HT.lexLt y x=false)->P (.done (.ret .none)) {s with heap:=sortedHeap s.heap a vs out}):
  wpAny (model prog w) A (Builtin.«list.sort» ⟨[.ref a],[]⟩) P E s:=by
 obtain⟨fs,hf⟩:=K5 hp ne;have hk:∀v,v∈vs->∃l,G.tupKeyC s.heap VB v=some l:=λv hv=>by
  obtain⟨i,hi⟩:=mem_iff_getElem?.mp hv;obtain⟨k,_,r⟩:=L2.Paired.at' hp hi;exact⟨_,r.key⟩
 refine G.list_sort_tups ho hf hk hL λBi pm so _=>?_;have adH:∀p∈(arrOf Bi).toList,p.1=p.2/\p.1∈vs:=λp hp'=>by
  have:=(Array.perm_iff_toList_perm.mp pm).mem_iff.mp hp';rw[pairsOf_toList]at this;obtain⟨i,hi⟩:=mem_iff_getElem?.mp this;rw[qV]at hi;exact⟨Option.some.inj (hi.1.symm.trans hi.2),bh hi.1⟩
 have pv:((arrOf Bi).map (·.2)).toList.Perm vs:=by
  rw[wK];have:=(Array.perm_iff_toList_perm.mp pm).map (·.2);rw[pairsOf_toList]at this;refine this.trans (List.Perm.of_eq ?_);exact map_snd_zip (aQ _)
 obtain⟨qE,q1,q2⟩:=fh pv.symm hp;refine h _ qE pv q1 q2 ?_;rw[pairwise_iff_getElem];intro i j hi hj hij;have hl:=L2.Paired.dQ q1;rw[wK,az,cH]at hl;have key:∀i (hi:i<qE.length),KK (G.tupKindC s.heap VB) (arrOf Bi) i=(qE[i].map Sum.inl:List (Int⊕List Nat)):=λi hi=>by
  obtain⟨v,hv,r⟩:=L2.Paired.Hx q1 (bg hi);rw[wK,a_,dq]at hv;cases e:(arrOf Bi)[i]? with
  |none=>rw[e]at hv;cases hv
  |some p=>
   rw[e]at hv;have hv:p.2=v:=Option.some.inj hv;have Hz:=(adH p (by exact bh (by rw[dq];exact e))).1;unfold KK;rw[e];show(G.tupKeyC s.heap VB p.1).getD []=_;rw[Hz,hv,r.key];rfl
 have hs:=so i j (iq hij) (by rw[pairsOf_size,<-pv.length_eq,wK,az,cH];omega);rw[key i hi,key j hj]at hs;have hs:PyProof.Rows.lexLt PyProof.Rows.itemOrd (qE[j].map Sum.inl) (qE[i].map Sum.inl)=false:=hs;rw[Qo]at hs;exact hs
def GC(hh:A.handled=none)(S:zm w s.heap a es ep t)(hp:Paired (RV prog w s.heap) es.toList ks)(nd:ks.Nodup)(ne:∀k∈ks,k≠ [])(hn:es.size<=sizeLine)(h:∀(D:Addr) hp tk out ep qE,s.heap.objs.size<=D->(∀b o,s.heap.get? b=some o->hp.get? b=some o)->hp.get? D=some (seqObj "list" out ep)->Paired (TR prog w s.heap) out.toList qE->qE.Perm ks->qE.Pairwise (λx y=>HT.lexLt x y=true)->
   (∀v∈out.toList,∃e∈es.toList,v=e.2)->Q (.ref D) {s with heap:=hp,toks:=tk}):
  wpAny (model prog w) A (call (.builtin "sorted") [.ref a]) Q E s:=by
 refine Calls.call_function_entry kind_sorted plain_sorted entry_sorted (args_sorted1 _) ?_;refine aj (ay (aj (L2.vC (A:=A.in1) (KZ a es ep t) hh S hn λhq tk us lt hk it=>?_)));have hl:us.toList.length=es.size:=by rw[cH];exact it.1
 have hus:us.toList=(tU w a ep es).toList.map (·.2):=by
  refine pP λi=>?_;rw[a_,dq,dq];cases e:us[i]? with
  |none=>
   have h1:=Array.getElem?_eq_none_iff.mp e;have h2:=(gb w a ep es).length_eq;rw[cH,cH]at h2;rw[cH]at hl;rw[qU ()];rfl
  |some v=>
   obtain⟨e2,h1,h2⟩:=it.2 i v e;rw[h1,h2];rfl
 obtain⟨k2,q1,q2⟩:=fh (gb w a ep es).symm hp;have pT:Paired (TR prog w s.heap) us.toList k2:=by
  rw[hus];exact GB q1 λe k ⟨p,e1,tp⟩=>⟨p,by rw[e1],tp⟩
 refine aj (wR ?_ (by rw[hl];exact hn));have NQ:(hq.push (seqObj "list" us.toList.toArray 0)).get? hq.objs.size=some (seqObj "list" us.toList.toArray 0):=bq _ rfl;have kp:∀b o,s.heap.get? b=some o->(hq.push (seqObj "list" us.toList.toArray 0)).get? b=some o:=λb o e=>bN _ (hk b o e);have pT':Paired (TR prog w (hq.push (seqObj "list" us.toList.toArray 0))) us.toList k2:=L2.Paired.fR pT λv k ⟨p,e1,tp⟩=>⟨p,e1,tp.keep λo e _=>kp p o e⟩;refine aj (gj (g9 slot_list_sort ⟨_,NQ,rfl⟩ entry_list_sort (DY NQ pT' (λk sf=>ne k (q2.mem_iff.mp sf)) (by rw[hl];exact hn) λout qE a0 a1 a2 a3=>⟨_,rfl,ay ⟨_,rfl,?_⟩⟩) (args_list_sort _)));obtain⟨XO,Mj⟩:=PyProof.Rows.sortedHeap_at (out:=out) NQ;have hD:=iq lt;have inj:∀v k,TR prog w (hq.push (seqObj "list" us.toList.toArray 0)) v k->v∈us.toList->TR prog w s.heap v k:=λv k ⟨p,e1,tp⟩ hv=>by
  obtain⟨i,hi⟩:=mem_iff_getElem?.mp hv;obtain⟨k0,_,p0,e0,tp0⟩:=L2.Paired.at' pT hi;have e2:p0=p:=by rw[e1]at e0;injection e0 with e0;exact e0.symm
  subst e2;have:=(tp0.keep λo e _=>kp p0 o e).inj tp;subst this;exact⟨p0,e1,tp0⟩
 have MY:∀v∈out.toList,v∈us.toList:=λv hv=>a0.mem_iff.mp hv;refine h hq.objs.size _ tk out XO qE hD (λb o e=>?_) Mj ?_ (a2.trans q2) ?_ λv hv=>?_
 .have hb:=aO (hk _ _ e);rw[PyProof.Rows.sortedHeap_old (bx hb) (by rw[dS];exact my hb)];exact kp b o e
 .exact Qp a1 λv hv k r=>inj v k r (MY v hv)
 .refine List.Pairwise.imp_of_mem ?_ (a3.and (a2.trans q2|>.nodup_iff.mpr nd));intro x y _ _ ⟨r1,r2⟩;exact K4 x y r1 r2
 .have:=MY v hv;rw[hus]at this;obtain⟨e,he1,he2⟩:=mem_map.mp this;exact⟨e,(gb w a ep es).mem_iff.mp he1,he2.symm⟩
def GD(hh:A.handled=none)(S:zm w s.heap a es ep t)(hp:Paired VA es.toList ns)(nd:ns.Nodup)(hn:es.size<=sizeLine)(h:∀(D:Addr) hp tk out ep lD,s.heap.objs.size<=D->(∀b o,s.heap.get? b=some o->hp.get? b=some o)->hp.get? D=some (seqObj "list" out ep)->IntsAre out.toList lD->lD.Perm ns->lD.Pairwise (·<·)->Q (.ref D) {s with heap:=hp,toks:=tk}):
  wpAny (model prog w) A (call (.builtin "sorted") [.ref a]) Q E s:=by
 obtain⟨n2,q1,q2⟩:=fh (gb w a ep es).symm hp;refine L2.IP (KZ a es ep t) hh S hn (ns:=n2) (λvs hl hv=>?_) λD hq tk out XO lD h1 h2 h3 h4 h5 h6=>?_
 .have hlen:=L2.Paired.dQ q1;have fY:=(gb w a ep es).length_eq;rw[cH]at hlen fY;rw[cH]at fY;refine L2.DM () λj v n e1 e2=>?_;obtain⟨e,he,rfl⟩:=hv j v e1;obtain⟨m,hm,u,rfl⟩:=L2.Paired.at' q1 (by rw[dq];exact he);rw[e2]at hm;cases hm;exact L2.Bf n u
 .refine h D hq tk out XO lD h1 h2 h3 h4 (h5.trans q2) ?_;refine List.Pairwise.imp_of_mem (R:=λx y=>x<=y/\x≠y) ?_ (h6.and ((h5.trans q2).nodup_iff.mpr nd));intro x y _ _ ⟨r1,r2⟩;omega
end
end Pd
end
section
namespace L2
open PySem PySem.Spec PyProof.Rows
def B8:bootBuiltins "set"=some (.type "set"):=by decide+kernel
def tX:bootBuiltins "sorted"=some (.builtin "sorted"):=by decide+kernel
def aaK(K:PySem.W.Frag)(ta:TA):TE:=λσ H Q=>ta σ H λvs H1=>∃(a:Addr) (ns:List Int),vs=[.ref a]/\aJ K H1 a (ns.map V.int)/\ns.length<2100/\
 ∀(out:List Int)(p:Addr),(∀x,x∈out↔x∈ns)->out.Pairwise (·<·)->H1 p=none->Q (.ref p) (upd H1 p (.lst (out.map V.int)))
def aaL(K:PySem.W.Frag)(ta:TA):TE:=λσ H Q=>ta σ H λvs H1=>∃(a:Addr) (xs:List (Addr×List Int)),vs=[.ref a]/\aJ K H1 a (xs.map λx=>V.ref x.1)/\(∀x∈xs,jF K H1 x.1 (x.2.map V.int)/\x.2≠ [])/\
 (∀ks:List (List Int),ks.Nodup->(∀k∈ks,k∈xs.map (·.2))->ks.length<2100)/\
 ∀(out:List (Addr×List Int))(p:Addr),(∀x∈out,jF K H1 x.1 (x.2.map V.int))->(∀k,k∈out.map (·.2)↔k∈xs.map (·.2))->(out.map (·.2)).Pairwise (λa b=>HT.lexLt a b=true)->H1 p=none->Q (.ref p) (upd H1 p (.lst (out.map λx=>V.ref x.1)))
section
variable {ta:TA} {p p2 oa:Pos}
def XQ(Gp:X.calm=true)(hg1:Gl X "sorted")(hm1:X.mg "sorted"=none)(hg2:Gl X "set")(Px:X.mg "set"=none)(ha:PA X [e] ta)(hs:starEach [e] X.env=(false,eval e X.env)::starEach [] X.env:=by rfl)(iz:(backTo oa (starEach [] X.env)).any (·.1)=false:=by rfl)(XE:starEach [.Call (.Name "set" p2) [e] [] oa] X.env=(false,eval (.Call (.Name "set" p2) [e] [] oa) X.env)::starEach [] X.env:=by rfl)(hpd:(backTo pos (starEach [] X.env)).any (·.1)=false:=by rfl):
  PE X (.Call (.Name "sorted" p) [.Call (.Name "set" p2) [e] [] oa] [] pos) (aaK X.K ta):=by
 intro pins s σ H Q I h;refine jy (gk I hg1 hm1 tX ?_);refine PyProof.Rows.callWith_builtin1 ?_ XE hpd;refine mw ?_;refine jy (gk I hg2 Px B8 ?_);refine jx (cJ (ha oa pins s σ H _ I h) λus s1 Wm=>?_) hs iz;obtain⟨vs,H1,I1,r1,q1⟩:=Wm;obtain⟨a,ns,ex,hq,hlen,q⟩:=q1;subst ex;rw[Vals.WN r1];obtain⟨aR,rv,p1,z1⟩:=I1.list hq;have hi:=rv.ints;have hh:=I1.ok.hd Gp;refine Pd.DX hh p1.isList ‹hi› hlen λh' tk es ep t n2 S pr nd mem fr=>rg ?_;have hle:es.size<=sizeLine:=by
  have h1:=L2.Paired.dQ pr;rw[cH]at h1;have h2:=Pd.tW nd λx hx=>(mem x).mp hx;rw[h1,cx];omega
 refine Pd.GD hh S pr nd hle λD RW tk2 out XO n3 hD keep ho Tz pm up=>?_;have hs1:=aW (iq (aO S.ob)) hD;have hl3:(n3.map V.int).length<=sizeLine:=by
  rw[az,pm.length_eq,<-L2.Paired.dQ pr,cH];exact hle
 exact⟨.ref D,upd H1 D (.lst (n3.map V.int)),I1.laid (λb u eu=>keep b u (fr b u eu)) hs1 ⟨hl3,out.toList,XO,mQ Tz,‹ho›⟩,rfl,q n3 D (λx=>(pm.mem_iff).trans (mem x)) up (I1.bQ.fresh hs1)⟩
theorem qP:∀{k}{aR},Vals (k.map V.int) aR->ItemsAre (intKind P w) k aR
 |[],_,.nil=>.nil
 |n::k,_,.cons r t=>by
  obtain⟨u,e⟩:=r;subst e;exact .cons (pU _ _ _ _) (qP t)
def XS(hu:X.A.units+10<cLine)(Gp:X.calm=true)(hg1:Gl X "sorted")(hm1:X.mg "sorted"=none)(hg2:Gl X "set")(Px:X.mg "set"=none)(ha:PA X [e] ta)(hs:starEach [e] X.env=(false,eval e X.env)::starEach [] X.env:=by rfl)(iz:(backTo oa (starEach [] X.env)).any (·.1)=false:=by rfl)(XE:starEach [.Call (.Name "set" p2) [e] [] oa] X.env=(false,eval (.Call (.Name "set" p2) [e] [] oa) X.env)::starEach [] X.env:=by rfl)(hpd:(backTo pos (starEach [] X.env)).any (·.1)=false:=by rfl):
  PE X (.Call (.Name "sorted" p) [.Call (.Name "set" p2) [e] [] oa] [] pos) (aaL X.K ta):=by
 intro pins s σ H Q I h;refine jy (gk I hg1 hm1 tX ?_);refine PyProof.Rows.callWith_builtin1 ?_ XE hpd;rw[XE];show wpAny _ _ (spliced ((false,eval (.Call (.Name "set" p2) [e] [] oa) X.env)::backTo pos (starEach [] X.env))) _ _ s;refine mw ?_;refine jy (gk I hg2 Px B8 ?_);refine jx (cJ (ha oa pins s σ H _ I h) λus s1 adI=>?_) hs iz;obtain⟨vs,H1,I1,r1,q1⟩:=adI;obtain⟨a,xs,ex,hq,hT,hb,q⟩:=q1;subst ex;rw[Vals.WN r1];obtain⟨aR,rv,p1,z1⟩:=I1.list hq;have hh:=I1.ok.hd Gp;have tk0:∀x∈xs,Pd.oR X.prog X.w s1.heap x.2 x.1:=λx hx=>by
  obtain⟨ti,rt,⟨o,ho,hc,n,hd⟩,_⟩:=I1.tuple (hT x hx).1;exact⟨o,_,n,ho,hc,hd,qP ‹rt›⟩
 have prs:∀{xs:List (Addr×List Int)}{aR:List Value},(∀x∈xs,Pd.oR X.prog X.w s1.heap x.2 x.1)->Vals (xs.map λx=>V.ref x.1) aR->Paired (λv k=>∃p,v=Value.ref p/\Pd.oR X.prog X.w s1.heap k p) aR (xs.map (·.2))/\aR=xs.map λx=>Value.ref x.1:=by
  intro xs
  induction xs with
  |nil=>intro aR _ r;cases r;exact⟨.nil,rfl⟩
  |cons x xs ih=>
   intro aR ht r;cases r with
   |cons r t=>
    obtain⟨h1,h2⟩:=ih (λy hy=>ht y (bE _ hy)) t;have e:_=Value.ref x.1:=r;subst e;exact⟨.cons ⟨x.1,rfl,ht x (bZ ..)⟩ h1,by rw[h2];rfl⟩
 obtain⟨Gj,hits⟩:=prs tk0 rv;refine Pd.DW (items:=aR.toArray) hh hu p1.isList ‹Gj› hb λh' tk es ep t k2 S pr nd mem src fr=>rg ?_;have y9:es.size=k2.length:=by
  have h1:=L2.Paired.dQ pr;rw[cH]at h1;exact h1
 have eK:=hb k2 nd λk hk=>(mem k).mp hk;have hle:es.size<=sizeLine:=by rw[y9,cx];omega
 have ne:∀k∈k2,k≠ []:=λk hk=>by
  obtain⟨x,hx,e⟩:=mem_map.mp ((mem k).mp hk);rw[<-e];exact(hT x hx).2
 refine Pd.GC (s:= {s1 with heap:=h',toks:=tk}) hh S pr nd ne hle λD RW tk2 out XO k3 hD keep ho tr pm up adJ=>?_;have hs1:s1.heap.objs.size<=D:=aW (iq (aO S.ob)) hD;have kk:∀b u,s1.heap.get? b=some u->RW.get? b=some u:=λb u eu=>keep b u (fr b u eu);obtain⟨outs,e1,e2,MY⟩:∃outs:List (Addr×List Int),outs.map (·.2)=k3/\out.toList=outs.map (λx=>Value.ref x.1)/\∀x∈outs,jF X.K H1 x.1 (x.2.map V.int):=by
  have go:∀{vs:List Value}{ks:List (List Int)},Paired (Pd.TR X.prog X.w h') vs ks->(∀v∈vs,∃e∈es.toList,v=e.2)->∃outs:List (Addr×List Int),outs.map (·.2)=ks/\vs=outs.map (λx=>Value.ref x.1)/\∀x∈outs,jF X.K H1 x.1 (x.2.map V.int):=by
   intro vs ks hp
   induction hp with
   |nil=>intro _;exact⟨[],rfl,rfl,λx hx=>by cases hx⟩
   |@cons v k vs ks r _ ih=>
    intro hs;obtain⟨os,f1,f2,f3⟩:=ih λv hv=>hs v (bE _ hv);obtain⟨pa,rfl,tp⟩:=r;obtain⟨ee,he,hv⟩:=hs _ (bZ ..);have hm:=src ee he;rw[<-hv]at hm;have hm:Value.ref pa∈aR:=‹hm›
    rw[hits]at hm;obtain⟨x,hx,hxe⟩:=mem_map.mp hm;have hxe:x.1=pa:=by injection hxe
    have hk:x.2=k:=by
     have h1:=tk0 x hx;rw[hxe]at h1;exact(h1.keep λo e _=>fr pa o e).inj tp
    refine⟨(pa,k)::os,by rw[aP,f1],by rw[aP,f2],λy hy=>?_⟩;obtain z|z:=mem_cons.mp hy
    .rw[z];show jF X.K H1 pa (k.map V.int);rw[<-hk,<-hxe];exact(hT x hx).1
    .exact f3 y z
  exact go tr adJ
 have hl3:(outs.map λx=>V.ref x.1).length<=sizeLine:=by
  have h1:=pm.length_eq;rw[<-e1,az]at h1;rw[az,h1,<-y9];exact hle
 have vo:Vals (outs.map λx=>V.ref x.1) out.toList:=by
  rw[e2];have:∀l:List (Addr×List Int),Vals (l.map λx=>V.ref x.1) (l.map λx=>Value.ref x.1):=λl=>by
   induction l with
   |nil=>exact .nil|cons x l ih=>exact .cons rfl ih
  exact this outs
 refine⟨.ref D,upd H1 D (.lst (outs.map λx=>V.ref x.1)),I1.laid (t':=tk2) kk hs1 ⟨hl3,out.toList,XO,vo,‹ho›⟩,rfl,q outs D MY (λk=>?_) ?_ (I1.bQ.fresh hs1)⟩
 .rw[e1,pm.mem_iff];exact mem k
 .rw[e1];exact up
end
end L2
end
section
namespace L2
open PySem PySem.Spec PyProof.Rows
open AutoSeq1 (wpAny_loadPart')
def vU l items n dct sl:
  Meets (Builtin.«enumerate.__new__» ⟨[.type "enumerate",.ref l],[]⟩) (λ_ R s=>s.heap.get? l=some {cls:=.type "tuple",dict:=dct,data:=.seq items n,slots:=sl}/\
   R (.ok (.ret (.ref (s.heap.push {cls:=.type "tuple_iterator",data:=.fields #[.ref l,.int 0 0]}).objs.size)))
    {s with heap:=(s.heap.push {cls:=.type "tuple_iterator",data:=.fields #[.ref l,.int 0 0]}).push {cls:=.type "enumerate",data:=.fields #[.none,.bool false,.ref s.heap.objs.size,rawInt 0,.none,.none]}}):=
 .of_wp λprog w A R s h=>by
  obtain⟨hp,g,d,tk,os⟩:=s;obtain⟨hl,h⟩:=h;have qF:=sub_enumerate;have hL:Heap.IsTuple (Shared.heap ⟨hp,g,d,tk,os⟩) l items:=⟨_,hl,rfl,n,rfl⟩
  wp_walk using pC hl
  refine wpAny_stack_any λst=>ay ?_;split
  .rename_i c _ _ _ _ _;cases(c==Value.type "enumerate")
   .wp_walk using pC hl,wpAny_pyIter_tuple hL
    exact⟨_,rfl,h⟩
   .wp_walk using pC hl,wpAny_pyIter_tuple hL
    exact⟨_,rfl,h⟩
  .wp_walk using pC hl,wpAny_pyIter_tuple hL
   exact⟨_,rfl,h⟩
section
def AZ(hL:s.heap.IsTuple l items)(h:∀h',IsEnum h' (s.heap.objs.size+1) s.heap.objs.size 0 .none->h'.IsTupleIter s.heap.objs.size l 0->h'.objs.size=s.heap.objs.size+2->
   (∀b o,s.heap.get? b=some o->h'.get? b=some o)->Q (.ref (s.heap.objs.size+1)) {s with heap:=h'}):
  wpAny (model prog w) A (call (.type "enumerate") [.ref l]) Q E s:=by
 obtain⟨⟨c,dct,dt,sl⟩,hl,hc,n,hd⟩:=hL;subst hc hd;refine callType_new PySem.F.called_enumerate ⋯ (PySem.F.typeCall_enumerate_1 _) (PySem.F.newCall_enumerate_1 _) (λobj=>PySem.F.args_object_init_2 obj _) PySem.F.entry_enumerate_new
  (vU l items n dct sl) ⟨hl,?_⟩
 have hz:(s.heap.push {cls:=.type "tuple_iterator",data:=.fields #[.ref l,.int 0 0]}).objs.size=s.heap.objs.size+1:=dS ..;rw[hz];have he:IsEnum ((s.heap.push {cls:=.type "tuple_iterator",data:=.fields #[.ref l,.int 0 0]}).push
   {cls:=.type "enumerate",data:=.fields #[.none,.bool false,.ref s.heap.objs.size,rawInt 0,.none,.none]}) (s.heap.objs.size+1) s.heap.objs.size 0 .none:=by
  have:=bq (s.heap.push {cls:=.type "tuple_iterator",data:=.fields #[.ref l,.int 0 0]})
   (o:= {cls:=.type "enumerate",data:=.fields #[.none,.bool false,.ref s.heap.objs.size,rawInt 0,.none,.none]}) rfl
  rw[hz]at this;exact this
 refine⟨⟨_,he,rfl⟩,h _ he ⟨_,bN _ (bq _ rfl),rfl,rfl⟩ (by rw[dS,hz]) λb o x=>bN _ (bN _ x)⟩
def vV{items}{x:Value}(hit:s.heap.IsTupleIter it l i)(hl:s.heap.IsTuple l items)(hx:items[i]?=some x)(hQ:∀h',h'.IsTupleIter it l (i+1)->Heap.SameBut it s.heap h'->Q x {s with heap:=h'}):wpAny (model prog w) A (Builtin.SmallTypes.nextOf (.ref it)) Q E s:=by
 obtain⟨o,ho,hc,hd⟩:=id hit;obtain⟨ol,Vz,_,nl,YZ⟩:=hl;refine aj (qT hit.typeIs CH
  (g9 CH hit.typeIs PySem.F.entry_tuple_iterator_next ?_ (PySem.F.args_tuple_iterator_next_1 _)))
 show wpAny _ _ (field (.ref it) 0>>=_) _ _ s;refine aj (fC ho hd rfl ?_);refine aj (fC ho hd rfl ?_);refine aj (mF Vz YZ ?_);simp only[Int.toNat_natCast,hx];refine aj (mB ho hd ∅ (ay ⟨x,rfl,ay (hQ _ ?_ (kx ..))⟩));exact⟨_,mr _ ho (oj (jz hd _)),(wD ..).trans hc,by
  rw[jz hd];simp[rawInt]⟩
def zr{items}(hh:A.handled=none)(hit:s.heap.IsTupleIter it l i)(hl:s.heap.IsTuple l items)(hx:items[i]?=none)(hE:∀h' e,Heap.ExtBut it s.heap h'->(∃o,h'.get? e=some o/\o.cls=.type "StopIteration")->E (.ref e) {s with heap:=h'}):
  wpAny (model prog w) A (Builtin.SmallTypes.nextOf (.ref it)) Q E s:=by
 obtain⟨o,ho,hc,hd⟩:=id hit;obtain⟨ol,Vz,_,nl,YZ⟩:=hl;unfold Builtin.SmallTypes.nextOf;refine aj (qT (name:=Str.ofString "__next__") hit.typeIs CH
  (g9 CH hit.typeIs PySem.F.entry_tuple_iterator_next ?_ (PySem.F.args_tuple_iterator_next_1 _)))
 show wpAny _ _ (field (.ref it) 0>>=_) _ _ s;refine aj (fC ho hd (x:=.ref l) rfl ?_);show wpAny _ _ (if(Value.ref l==Value.none)=true then _ else _) _ _ s;rw[af (show¬((Value.ref l==Value.none)=true)from b9)];show wpAny _ _ (field (.ref it) 1>>=_) _ _ s;refine aj (fC ho hd (x:=.int i 0) rfl ?_);show wpAny _ _ (seqItems? (.ref l)>>=_) _ _ s;refine aj (mF Vz YZ ?_);simp only[Int.toNat_natCast,hx];refine aj (wpAny_rule (aj (mB ho hd ∅ ?_)));show wpAny _ _ (newExc (.type "StopIteration") [] >>=_) _ _ _;refine aj ?_;delta newExc newTuple;refine aj (jA ?_ (by size_fits));refine aj (m:=firstArgMember _ _) (wpAny_of_eq (a:=Value.none) (by first|rfl|(simp only[firstArgMember];rfl)) ?_);refine jA ?_ (by size_fits);delta raiseNew;refine aj (wpAny_handled ?_)
 first|rw[show A.in1.handled=none from hh]|rw[hh]
 refine aj (ay (sW ?_));exact hE _ _ (((kx ..).extBut.push _).push _) ⟨_,bq _ rfl,rfl⟩
def B9(hh:A.handled=none) it l (iB:l≠it) items:
  Draws prog w A it [it,l] items.size (λi v=>items[i]?=some v) (λi h=>h.IsTupleIter it l i/\h.IsTuple l items)where
 live:=λ_ _ st=>let⟨o,ho,_⟩:=st.1;⟨o,ho⟩
 frame:=λ_ _ _ st hk=>⟨let⟨o,ho,q⟩:=st.1;⟨o,hk it ∅ o ho,q⟩,let⟨o,ho,q⟩:=st.2;⟨o,hk l ∅ o ho,q⟩⟩
 item:=λi s Q E hi st hQ=>by
  refine vV st.1 st.2 (x:=items[i]) (by simp[hi]) λh' Ib Dn=>?_;exact hQ _ h' s.toks (by simp[hi]) ⟨Ib,st.2.extBut Dn.extBut iB⟩ Dn
 done:=λs Q E st hE=>zr hh st.1 st.2 ∅ hE
end
noncomputable def XT(K:PySem.W.Frag)(a:Addr):It:=
 ⟨λi H=>∃(xs:List V) (x:V),jF K H a xs/\xs[i]?=some x,λi H v H'=>∃T x,v=.ref T/\H T=none/\H'=upd H T (.tup [.int (i:Nat),x])/\∀xs,jF K H a xs->xs[i]?=some x,λi H=>∃xs:List V,jF K H a xs/\xs.length=i⟩
def Jg a e it (hai:a≠it) (hae:a≠e):
  Turn P w K (.Tuple elts kk CB) (XT K a) [e,it] e (λi h=>(∃old,IsEnum h e it ((i:Nat):Int) old)/\h.IsTupleIter it a i/\e≠it)where
 mem:=by simp
 obj:=λi h st b hb=>by
  obtain⟨⟨old,he⟩,⟨o,ho,hc,hd⟩,_⟩:=st;have e':b=e\/b=it:=‹hb›
  obtain z|z:=e'
  .rw[z];exact⟨_,he,λv q=>nomatch q⟩
  .rw[z];exact⟨o,ho,λv q=>by rw[hd]at q;cases q⟩
 keep:=λi h h' st k=>let⟨⟨old,he⟩,⟨o,ho,q⟩,iB⟩:=st;⟨⟨old,k e ∅ _ he⟩,⟨o,k it ∅ o ho,q⟩,iB⟩
 item:=by
  intro X hP hw hK hc i pins s σ H E I hf st hg;subst hP hw hK;obtain⟨⟨old,he⟩,hit,iB⟩:=st;obtain⟨xs,x,hq,hx⟩:=hg;obtain⟨aR,rv,p,hz⟩:=I.tuple hq;obtain⟨u,hu,ru⟩:=rv.get hx;have Kj:=aO he;have hil:it<s.heap.objs.size:=by obtain⟨_,q,_⟩:=hit;exact aO q
  have eK:i<aR.toArray.size:=by
   obtain⟨h1,_⟩:=List.getElem?_eq_some_iff.mp hu;simpa using h1
  refine wpAny_pyNext_enum_itemD (B9 (by have:=I.ok.hd hc;simp[this]) it a hai aR.toArray) he ⟨hit,p⟩ eK iB (by simp;exact⟨iB,dF hae⟩) λv h' tk hv ho Ib hT fY hk=>?_;have hv:aR[i]?=some v:=‹hv›
  obtain rfl:u=v:=Option.some.inj (hu.symm.trans hv);refine⟨_,rfl,wpAny_letOwnedTupleGo_enum ho λOJ Mj sb=>?_⟩;have S0:=(sb.2 _ (iu Kj)).trans hT;have new:dB X.prog X.w (upd H s.heap.objs.size (.tup [.int (i:Nat),x])) OJ s.heap.objs.size (.tup [.int (i:Nat),x]):=
   ⟨by show 2<=sizeLine;decide,[.int i tk,u],.cons ⟨_,rfl⟩ (.cons ru .nil),⟨_,S0,rfl,_,rfl⟩⟩
  have I1:Inv X pins σ (upd H s.heap.objs.size (.tup [.int (i:Nat),x])) {s with heap:=OJ,toks:=tk+1} :=
   I.qd (λb ob hb q=>(sb.2 b (λz=>hb (by simp[z]))).trans (hk b ob (λz=>hb (by simp[z])) (λz=>hb (by simp[z])) q)) hf (aQ _) new
  refine⟨.ref s.heap.objs.size,_,I1,rfl,⟨_,x,rfl,I.bQ.fresh (aQ _),rfl,λys hy=>by rw[I.LY hy hq];exact hx⟩,⟨⟨u,?_⟩,?_,iB⟩,λb hb=>?_⟩
  .have e1:((i+1:Nat):Int)=(i:Int)+1:=by omega
   rw[e1];exact Mj
  .obtain⟨o2,h1,h2⟩:=Ib.1;exact⟨o2,(sb.2 it (dF iB)).trans h1,h2⟩
  .have YN:b<s.heap.objs.size:=by
    have e':b=e\/b=it:=‹hb›
    obtain z|z:=e'
    .rw[z];exact Kj
    .rw[z];exact hil
   rw[aF (bx YN)];exact(hf b hb).1
 done:=by
  intro X hP hw hK hc i pins s σ H E I hf st hg;subst hP hw hK;obtain⟨⟨old,he⟩,hit,iB⟩:=st;obtain⟨xs,hq,hx⟩:=hg;obtain⟨aR,rv,p,hz⟩:=I.tuple hq;obtain⟨f0,f1,f2,f3,f4,f5⟩:=hf it ∅;have hl:=rv.length;have fY:aR.toArray.size=i:=by simp;omega
  exact wpAny_pyNext_enum_endD (B9 (by have:=I.ok.hd hc;simp[this]) it a hai aR.toArray) he (by rw[fY];exact⟨hit,p⟩) λh' eb=>⟨rfl,I.turned (t':=s.toks) (λb o hb q=>eb b o hb q) f0 f1 f3 f4 f5⟩
 self:=λA i s Q E st h=>let⟨⟨_,he⟩,_⟩:=st;wC he h
def XU(K:PySem.W.Frag)(ta:TA):TI:=λσ H R=>ta σ H λvs H1=>∃a xs,vs=[.ref a]/\jF K H1 a xs/\R (XT K a) H1
def Qq{ta:TA}{p pos CB:Pos}{elts:List Expr}{kk:Nat}(hg:Gl X "enumerate")(hm:X.mg "enumerate"=none)(ha:PA X [e] ta)(hs:starEach [e] X.env=[(false,eval e X.env)]:=by rfl):
  PI X (.Tuple elts kk CB) (.Call (.Name "enumerate" p) [e] [] pos) (XU X.K ta):=by
 intro pins s σ H R I h;refine Call_ (gk I hg hm boot_enumerate (jx (cJ (ha pos pins s σ H _ I h) λus s1 Wo=>?_) hs rfl));obtain⟨vs,H1,I1,r1,q1⟩:=Wo;obtain⟨a,xs,ex,hq,q⟩:=q1;subst ex;cases r1 with
 |cons r rr=>
  cases rr;cases r;obtain⟨aR,rv,p',hz⟩:=I1.tuple hq;have la:a<s1.heap.objs.size:=by obtain⟨o,ho,_⟩:=p';exact aO ho
  refine AZ p' λh' he hit fY hk=>wC he ?_;have I2:=I1.kept (t':=s1.toks) hk;refine⟨s1.heap.objs.size+1,[s1.heap.objs.size+1,s1.heap.objs.size],_,_,H1,rfl,I2,Jg a (s1.heap.objs.size+1) s1.heap.objs.size (bx la) (bx (my la)),⟨⟨.none,he⟩,hit,Nat.succ_ne_self _⟩,λb hb=>?_,q⟩;have e':b=s1.heap.objs.size+1\/b=s1.heap.objs.size:=‹hb›
  have hle:s1.heap.objs.size<=b:=by
   obtain z|z:=e'
   .rw[z];exact kD _ _
   .rw[z];exact aQ _
  exact I1.CT hle (I1.bQ.fresh hle)
def tuple_addW0 l b XW n n2 dd YC sl YD:
  Meets (Builtin.«tuple.__add__» ⟨[.ref l,.ref b],[]⟩) (λ_ R s=>s.heap.get? l=some {cls:=.type "tuple",dict:=dd,data:=.seq #[] n,slots:=sl}/\s.heap.get? b=some {cls:=.type "tuple",dict:=YC,data:=.seq XW n2,slots:=YD}/\R (.ok (.ret (.ref b))) s):=
 .of_wp λprog w A R s h=>by
  obtain⟨hl,hb,h⟩:=h;have f1:=AutoSeq1.idx_int;have f2:=AutoSeq1.sub_tuple_tuple;have f3:=AutoSeq1.sub_list_list;have f4:=AutoSeq1.sub_tuple_list;have f5:=AutoSeq1.sub_list_tuple
  wp_walk using pC hl,pC hb
  exact⟨_,rfl,h⟩
section
def Qr{t:Addr}{ws:List Value}(ht:IsTup s.heap t #[])(hb:IsTup s.heap b ws.toArray)(h:Q (.ref b) s):wpAny (model prog w) A (binaryOp .Add (.ref t) (.ref b)) Q E s:=by
 obtain⟨⟨cls,dd,data,sl⟩,ho,hc,n,hd⟩:=id ht;obtain⟨⟨acQ,YC,data2,YD⟩,Wy,hc2,n2,hd2⟩:=id hb;subst hc hd hc2 hd2;exact concat_meets ⟨_,ho,rfl⟩ ⟨_,Wy,rfl⟩ noFill_tuple_add seq_tuple_add PySem.F.slot_tuple_add PySem.F.entry_tuple_add (PySem.F.args_tuple_add_2 _ _) (tuple_addW0 t b ws.toArray n n2 dd YC sl YD) ⟨ho,Wy,h⟩
def GF{Q:List Value->Shared->Prop}(hl:IsTup s.heap l vs.toArray)(h:Q vs {s with heap:=(s.heap.push (seqObj "list" #[] 0)).update s.heap.objs.size (Obj.mapSeq (·++vs.toArray))})(fY:vs.length<=sizeLine):
  wpAny (model prog w) A (collect (.ref l)) Q E s:=by
 obtain⟨o,ho,hc,n,hd⟩:=id hl;unfold collect;refine aj (wpAny_runValue (kH entry_proto_collect' ?_));show wpAny _ _ (do again (.builtin "list.__iadd__" ⟨[<-newList [],.ref l],[]⟩)) _ _ s;refine aj (wR (ay ⟨Code.quiet_builtin _ (by decide+kernel),kH entry_list_iadd' ?_⟩));show wpAny _ _ (Builtin.List.listExtendWith (.ref s.heap.objs.size) (.ref l) (.ref s.heap.objs.size)) _ _ {s with heap:=s.heap.push (seqObj "list" #[] 0)};unfold Builtin.List.listExtendWith;have w6:(s.heap.push (seqObj "list" #[] 0)).get? l=some o:=bN _ ho;refine aj (sU (T:="tuple") ⟨o,w6,hc⟩ ?_);have ht:(Value.type "tuple"==Value.type "tuple")=true:=by rfl
 rw[ah (by rw[ht];simp)];refine aj (listItems_at w6 hd ?_);refine aj (listItems_at (xs:= #[]) (n:=0) (bq _ rfl) rfl ?_);rw[af ∅];refine aj (listUpdate_at (xs:= #[]) (n:=0) (bq _ rfl) rfl ?_ (cv _) (by show(#[] ++vs.toArray).size<=sizeLine+1;simp only[Array.size_append,size_toArray,length_nil];omega));refine ay ?_;show wpAny (model prog w) A (do
   let o<-load s.heap.objs.size
   match o.data with
   |.seq xs _=>pure xs.toList|_=>unsupported "internal:collect") Q E {s with heap:=(s.heap.push (seqObj "list" #[] 0)).update s.heap.objs.size (Obj.mapSeq (·++vs.toArray))}
 refine aj (wpAny_load (get?_update_seq (bq _ rfl) _) ?_);show wpAny _ _ (pure ((#[]:Array Value)++vs.toArray).toList) Q E _;rw[show((#[]:Array Value)++vs.toArray).toList=vs by simp];exact ay h
def GH(hl:IsTup s.heap l vs.toArray)(hI:IntsAre vs ns)(hL:vs.length<=sizeLine)(h:∀out lD,IntsAre out.toList lD->lD.Perm ns->lD.Pairwise (·<=·)->Q (.ref (s.heap.objs.size+1)) {s with heap:=sortedAll s.heap vs out}):
  wpAny (model prog w) A (call (.builtin "sorted") [.ref l]) Q E s:=by
 refine Calls.call_function_entry kind_sorted plain_sorted entry_sorted (args_sorted1 _) ?_;unfold Builtin.«sorted»;refine aj (ay ?_);refine aj (GF hl ?_ hL);refine aj (wR ?_ hL);have fY:((s.heap.push (seqObj "list" #[] 0)).update s.heap.objs.size (Obj.mapSeq (·++vs.toArray))).objs.size=s.heap.objs.size+1:=by
  rw[Heap.size_update,size_push']
 have NQ:(((s.heap.push (seqObj "list" #[] 0)).update s.heap.objs.size (Obj.mapSeq (·++vs.toArray))).push (seqObj "list" vs.toArray 0)).get? (s.heap.objs.size+1)=some (seqObj "list" vs.toArray 0):=by
  rw[<-fY];exact bq _ rfl
 show wpAny _ _ _ _ _ {s with heap:=((s.heap.push (seqObj "list" #[] 0)).update s.heap.objs.size (Obj.mapSeq (·++vs.toArray))).push (seqObj "list" vs.toArray 0)};rw[fY];refine aj (gj (g9 slot_list_sort ⟨_,NQ,rfl⟩ entry_list_sort (list_sort_treeAny NQ hI hL λout lD a1 a2 a3=>⟨_,rfl,ay ⟨_,rfl,h out lD a1 a2 a3⟩⟩) (args_list_sort _)))
end
section
def VC(K:PySem.W.Frag):R2:=λx y H Q=>∃a b xs ys,x=.ref a/\y=.ref b/\jF K H a xs/\jF K H b ys/\ys≠ []/\xs.length+ys.length<=sizeLine/\
 (xs=[]->Q (.ref b) H)/\(xs≠ []->∀p,H p=none->Q (.ref p) (upd H p (.tup (xs++ys))))
def T7:ou X (binaryOp .Add) (VC X.K):=by
 intro pins s σ H x y v u Q I rx ry h;obtain⟨a,b,xs,ys,ex,ey,ha,hb,hy,hz,q1,q2⟩:=h;by_cases c:xs=[]
 .subst ex ey c;cases rx;cases ry;obtain⟨aR,r1,p1,_⟩:=I.tuple ha;obtain⟨n_,r2,p2,_⟩:=I.tuple hb;cases r1;exact Qr p1 p2 ⟨.ref b,H,I,rfl,q1 rfl⟩
 .exact SM pins s σ H x y v u Q I rx ry ⟨a,b,xs,ys,ex,ey,ha,hb,c,hz,λz=>absurd z hy,λ_=>q2 c⟩
def DZ:lF X (.builtin "sorted") (λxs H Q=>eL xs λa=>∃ns:List Int,jF X.K H a (ns.map V.int)/\∀(lD:List Int) p,lD.Perm ns->lD.Pairwise (·<=·)->H p=none->Q (.ref p) (upd H p (.lst (lD.map V.int)))):=by
 intro pins s σ H xs us Q I r q0;obtain⟨a,ex,ns,hs,q⟩:=uk.mp q0;subst ex;obtain⟨aR,rv,hl,hz⟩:=I.tuple hs;rw[Vals.WN r];have hi:=rv.ints;rw[az]at hz;refine GH hl hi (by rw[hi.length];exact hz) λout lD h1 h2 h3=>?_;obtain⟨ep,Mj⟩:=PyProof.Rows.sortedAll_at s.heap aR out;have hlen:(lD.map V.int).length<=sizeLine:=by rw[az,h2.length_eq];exact hz
 exact⟨.ref _,upd H (s.heap.objs.size+1) (.lst (lD.map V.int)),I.laid (λ_ _=>PyProof.Rows.sortedAll_old) (pQ _) ⟨hlen,out.toList,ep,mQ h1,Mj⟩,rfl,q lD _ h2 h3 (I.bQ.fresh (pQ _))⟩
end
def T8{f:Str}(hK:X.K=K)(he:PE X e ta)(hb:attributeBase e f X.env (eval e X.env)=eval e X.env):PE X (.Attribute e f pos) (n8 K ta f):=by
 subst hK;exact bu he hb
def MZ(hK:X.K=K):Ov X "list.index" (HY K):=by
 subst hK;exact OC
def XX{o:Expr}{es:List Expr}{to:TE}{t:TA}{apos et:Pos}{id:String}{r:V->List V->Hp->VK->Prop}(hK:X.K=K)(pa:PlainAttrs T)(slot:Slot T name id)(RP:typeOf (.builtin id)=pure (.type "method_descriptor"))(hm:Ov X id r)(ho:PE X o to)(ha:PA X (e::es) t)(jH:attributeBase o name X.env (eval o X.env)=eval o X.env:=by rfl)(WH:((backTo et (starEach (e::es) X.env)).all (λx=>!x.1)&&(backToKw et (keywordEach [] X.env)).all (λx=>x.1.isSome)
   &&decide ((e::es).length+([]:List Keyword).length+(if([]:List Keyword).isEmpty then 0 else 1)<30))=true:=by rfl)(hline:(apos.endLine==et.line)=true:=by rfl)(hs:starEach (e::es) X.env=(false,eval e X.env)::starEach es X.env:=by rfl)(HU:(backTo et (starEach es X.env)).any (·.1)=false:=by rfl):
  PE X (.Call (.Attribute o name apos) (e::es) [] et) (Zx K T r to t):=by
 subst hK;exact Oz pa slot RP hm ho ha jH WH hline hs HU
def zt(hK:X.K=K):ou X (compareOp .In) (Ox K false):=by
 subst hK;exact ur
def qQ(hK:X.K=K):ou X (compareOp .NotIn) (Ox K true):=by
 subst hK;exact tm
def xE{es:List Expr}{k:Nat}{t:U8}{n:Nat}{pos:Pos}(hK:X.K=K)(hc:X.calm=true)(h:Zm X es t)(hn:(assignEach es X.env).length=n:=by rfl)(pY:(assignEach es X.env).findIdx? (·.1)=none:=by rfl):PG X (.Tuple es k pos) (Wl K n t):=by
 subst hK;exact x8 hc h hn pY
theorem D0:∀ns:List Int,yi K H (ns.map V.int) (ns.map PyData.int)
 |[]=>.nil|n::ns=>.cons (.int n) (D0 ns)
theorem GI:∀xs ys:List Int,PyData.eqvAll (xs.map PyData.int) (ys.map PyData.int)=decide (xs=ys)
 |[],[]=>rfl|[],_::_=>rfl
 |_::_,[]=>rfl
 |x::xs,y::ys=>by
  show((x==y)&&PyData.eqvAll (xs.map PyData.int) (ys.map PyData.int))=_;rw[GI xs ys];by_cases c:x=y
  .subst c;simp
  .simp[c]
def GJ:bootBuiltins "tuple"=some (.type "tuple"):=by decide+kernel
def T9(hr:dX k A):A.units+64<cLine:=hr.units
def T_(hr:dX k A):A.units+10<cLine:=sx (Nat.add_le_add_left (by decide:10<=64) _) hr.units
def K6{J:It}{D:Ends}(Pv:Nat->St->Hp->Prop)(h0:Pv 0 σ H)(hgo:∀i σ H,i<n->Pv i σ H->J.go i H)(hs:∀i x σ H H',i<n->Pv i σ H->J.E1 i H x H'->g x σ H' λσ2 H2=>tb {D with nx:=Pv (i+1),ct:=Pv (i+1),bk:=D.nx} σ2 H2)(hd:∀σ H,Pv n σ H->J.stop n H/\D.nx σ H):
  ∃W:Nat->Nat->St->Hp->Prop,(∃m,W 0 m σ H)/\∀i m σ H,W i m σ H->
   (J.stop i H/\D.nx σ H)\/(J.go i H/\∃N:St->Hp->Prop,(∀σ' H',N σ' H'->∃m',m'<m/\W (i+1) m' σ' H')/\∀x H',J.E1 i H x H'->g x σ H' λσ2 H2=>tb {D with nx:=N,ct:=N,bk:=D.nx} σ2 H2):=by
 refine⟨λi m σ H=>m=n-i/\i<=n/\Pv i σ H,⟨n,by simp,cv _,h0⟩,?_⟩;rintro i m σ H ⟨rfl,hi,p⟩;by_cases eK:i<n
 .exact .inr ⟨hgo i σ H eK p,Pv (i+1),λσ' H' p'=>⟨n-(i+1),by omega,rfl,eK,p'⟩,λx H' y=>hs i x σ H H' eK p y⟩
 .obtain rfl:i=n:=by omega
  exact .inl (hd σ H p)
def uM{J:It}{vs:List Nat}(Pv:Nat->Hp->Prop)(h0:Pv 0 (upd H1 D (.lst [])))(hgo:∀i H,i<n->Pv i H->J.go i H)(hs:∀i x H H',i<n->Pv i H->J.E1 i H x H'->g x (wipe σ vs) H' λσ2 H2=>wipe σ2 vs=wipe σ vs/\tt σ2 H2 λb H3=>
   if b=true then te σ2 H3 λy H4=>∃acc,H4 D=some (.lst acc)/\acc.length<sizeLine/\Pv (i+1) (upd H4 D (.lst (acc++ [y])))else Pv (i+1) H3)(hd:∀H,Pv n H->J.stop n H/\Qd H):
  ∃W:Nat->Nat->Hp->Prop,(∃m,W 0 m (upd H1 D (.lst [])))/\∀i m H,W i m H->
   (J.stop i H/\Qd H)\/(J.go i H/\∃Nx:Hp->Prop,(∀H',Nx H'->∃m',m'<m/\W (i+1) m' H')/\∀x H',J.E1 i H x H'->g x (wipe σ vs) H' λσ2 H2=>wipe σ2 vs=wipe σ vs/\tt σ2 H2 λb H3=>
    if b=true then te σ2 H3 λy H4=>∃acc,H4 D=some (.lst acc)/\acc.length<sizeLine/\Nx (upd H4 D (.lst (acc++ [y])))else Nx H3):=by
 refine⟨λi m H=>m=n-i/\i<=n/\Pv i H,⟨n,by simp,cv _,h0⟩,?_⟩;rintro i m H ⟨rfl,hi,p⟩;by_cases eK:i<n
 .exact .inr ⟨hgo i H eK p,Pv (i+1),λH' p'=>⟨n-(i+1),by omega,rfl,eK,p'⟩,λx H' y=>hs i x H H' eK p y⟩
 .obtain rfl:i=n:=by omega
  exact .inl (hd H p)
end L2
end
section
namespace Pd
open PySem PySem.Spec PyProof.Rows L2 TL
structure Nb(K:PySem.W.Frag)(mg:Str->Option Value)(NB:Addr):Prop where
 mg:mg "NoBet"=some (.ref NB)
 ex:PySem.W.excIn K NB [.type "ValueError",.type "Exception",.type "BaseException",.type "object"] "ValueError.__new__"=true
noncomputable abbrev tY:Stmt:=top 36
noncomputable abbrev xF:Stmt:=top 38
noncomputable abbrev tZ:Stmt:=top 39
noncomputable abbrev D4:Stmt:=top 40
section
def M0:aC ["holds"] ["holds"] (ao tY):=by ac_nf
def Jh(D:Def K mg "require" tY ["holds"])(VD:Nb K mg NB):Ok P w K mg base (fT P w) 1 "require" ["holds"] (aD NB):=by
 refine D.BL M0 (λvs H Q E h=>?_) (λf b8 A outer s H vs Q E hr h=>?_)
 .obtain⟨a,rfl,_⟩:=xX.mp h;rfl
 .obtain⟨b,rfl,k⟩:=xX.mp h;refine⟨_,(au (cZ (x5 (um (pv 0))) (au (FJ (E:=E) aH rfl rfl VD.mg VD.ex PySem.F.excBase_ValueError (ae bo ai))) bD)),?_⟩;simp? only[bS];refine bj (λa=>?_) (λa=>?_)
  .subst a;exact⟨by have:=bH;omega,k⟩
  .cases b with
   |true=>exact k|false=>exact absurd rfl a
def GK(NB:Addr):Sp:=λvs H Q E=>∃st n:Int,vs=[.int st,.int n]/\0<=st/\st<=1000000/\if 0<n/\st*n<=2147483647 then Q .cT H else E (.ref NB) none H
def Qs:aC ["stake","combinations"] ["stake","combinations"] (ao xF):=by ac_nf
def M5(D:Def K mg "check_staked" xF ["stake","combinations"])(T:Tx mg)(aK:Ok P w K mg base (fT P w) 1 "require" ["holds"] (aD NB)):Ok P w K mg base (fT P w) 2 "check_staked" ["stake","combinations"] (GK NB):=by
 refine D.BL Qs (λvs H Q E h=>?_) (λf b8 A outer s H vs Q E hr h=>?_)
 .obtain⟨_,_,rfl,_⟩:=h;rfl
 .obtain⟨st,n,rfl,s0,s1,k⟩:=h;refine⟨_,(au (aS (ax (E:=E) aK (hr.mono ⋯) rfl (aX aH) (ae (kL (aU yb (pv 1) aq (aG _)) (iV (aU jG (bO rk (pv 0) (pv 1)) (cK T.fH rfl) (aG _)))) ai)))),?_⟩;simp? only[bS,aD];refine bj (λa=>⟨.inl ⟨by omega,by omega⟩,?_⟩) (λa=>?_)
  .refine bj (λb=>?_) (λb=>?_)
   .rw[ah ⟨a,b⟩]at k;exact k
   .rw[af (λz=>b z.2)]at k;exact k
  .rw[af (λz=>a z.1)]at k;exact k
noncomputable def oS(t:List Nat)(u:Int):Option Int:=if 0<dv t/\dv t<=1000000/\dv t%u=0 then some (dv t)else none
def K7(NB:Addr):Sp:=λvs H Q E=>∃(t:List Nat) (u:Int),vs=[.str (S t),.int u]/\Tp t/\0<u/\u<=10000/\match oS t u with
 |some n=>Q (.int n) H|none=>E (.ref NB) none H
def K8:aC ["word","unit","stake"] ["word","unit"] (ao D4):=by ac_nf
def Qt(D:Def K mg "read_stake" D4 ["word","unit"])(T:Tx mg)(fi:Ok P w K mg base eJ 1 "number_of" ["word"] iM)(aK:Ok P w K mg base (fT P w) 1 "require" ["holds"] (aD NB)):Ok P w K mg base (fT P w) 2 "read_stake" ["word","unit"] (K7 NB):=by
 refine D.BL K8 (λvs H Q E h=>?_) (λf b8 A outer s H vs Q E hr h=>?_)
 .obtain⟨_,_,rfl,_⟩:=h;rfl
 .obtain⟨t,u,rfl,ht,u0,u1,k⟩:=h;refine⟨_,(ag (aM (i:=2) K8.nd rfl (Or.inl rfl) (ax fi (hr.mono ⋯) rfl cp (ae (pv 0) ai))) (ag (aS (ax (E:=E) aK (hr.mono ⋯) rfl (aX aH) (ae (kL (yc Bn jG aq (pv 2) (cK T.gF rfl)) (iV (aU cC (bO HM (pv 2) (pv 1)) aq (aG _)))) ai))) (au (aI (pv 2))))),?_⟩;simp? only[bS,iM,aD];refine⟨t,rfl,ht,?_⟩;unfold oS at k;refine bj (λa=>⟨u0,?_⟩) (λa=>?_)
  .refine bj (λb=>?_) (λb=>?_)
   .rw[ah ⟨a.1,a.2,b⟩]at k;exact k
   .rw[af (λz=>b z.2.2)]at k;exact k
  .rw[af (λz=>a ⟨z.1,z.2.1⟩)]at k;exact k
def GL(NB Cp:Addr):Sp:=λvs H Q E=>∃(t:List Nat) (L:Addr) (rv:List V) (ps:List MP),vs=[.str (S t),.ref L]/\yZ Cp H L rv ps/\
 (∀q,ps.filter (λq=>decide (q.name=t))=[q]->∀H' v,aw H H'->oK Cp H' rv v q->Q v H')/\((ps.filter (λq=>decide (q.name=t))).length≠1->∀H',aw H H'->E (.ref NB) none H')
def zu:aC ["name","pools","found","pool"] ["name","pools"] (ao tZ):=by ac_nf
def M6(D:Def K mg "pool_called" tZ ["name","pools"])(T:Tx mg)(aN:CL P w K mg base "Pool" Cp ["self","name","kind","k","races","unit"] (cU Cp) ["name","kind","k","races","unit"])(aK:Ok P w K mg base (fT P w) 1 "require" ["holds"] (aD NB)):Ok P w K mg base (fT P w) 2 "pool_called" ["name","pools"] (GL NB Cp):=by
 refine D.BL zu (λvs H Q E h=>?_) (λf b8 A outer s H vs Q E hr h=>?_)
 .obtain⟨_,_,_,_,rfl,_⟩:=h;rfl
 .obtain⟨t,L,rv,ps,rfl,hP,kQ,kE⟩:=h;refine⟨_,(ag (qf (own:=[("pool",3)]) rfl zu.nd (i:=2) rfl rfl (tE rfl rfl rfl rfl) (bY (pv 1)) (bL (N:=["name","pools","found","pool"]) (sc:=ao tZ) (by decide+kernel)) (λ_ _ _ _ _=>aT (i:=3) zu.nd rfl (Or.inl rfl)) (λ_ _ _ _ _=>(tD (bt cC (T8 (K:=K) rfl (pv 3) rfl) (pv 0) (aG _)))) (λ_ _ _ _ _=>(pv 3))) (ag (aS (ax (E:=E) aK (hr.mono ⋯) rfl (aX aH) (ae (aU cC (aB aA (by rfl) T.b_ bF (ae (pv 2) ai)) aq (aG _)) ai))) (au (aI (bz aL (pv 2) aq (λ_ _=>rfl)))))),?_⟩;simp? only[bS,aD];obtain⟨hl,as,hA,hp⟩:=hP;have hlen:=Paired.dQ hp;have hz:=cx;refine⟨L,rfl,⟨_,aJ.of hA⟩,λD hD=>?_⟩;have hAD:L≠D:=λz=>by rw[z,hD]at hA;cases hA
  refine uM (n:=as.length) (λi H'=>aw H H'/\H' D=some (.lst ((((as.zip ps).take i).filter λx=>decide (x.2.name=t)).map (·.1)))) ⟨aw.new hD,ak⟩ (λi H' hi h=>⟨as,as[i],aJ.of (h.1 _ _ hA),bg hi⟩) ?_ ?_
  .rintro i x H' Y1 hi ⟨sm,NZ⟩ ⟨rfl,hx⟩;have hx:=hx as (aJ.of (sm _ _ hA));obtain⟨q,hq,hpi⟩:=Paired.at' hp hx;obtain⟨p,dx,Rr,rfl,mq,hR⟩:=id hpi;have Y2:(as.zip ps)[i]?=some (.ref p,q):=by rw[qV];exact⟨hx,hq⟩
   simp? only[n8];have Av:(as.zip ps).take (i+1)=(as.zip ps).take i++ [(.ref p,q)]:=bw Y2;have hDl:D≠L:=dF hAD;refine⟨rfl,_,rfl,p,rfl,Cp,dx,_,sm _ _ mq,aN.cl,aN.no "name" ∅,.str (S q.name),rfl,_,rfl,rfl,?_⟩;rw[Av,sN,ed];refine bj (λb=>?_) (λb=>?_)
   .have b:q.name=t:=cO.mp ‹b›;refine⟨_,rfl,_,NZ,?_,sm.lV hD,?_⟩
    .rw[az];refine sx (kG _ _) ?_;rw[cS];have:=Nat.min_le_left i (as.zip ps).length;omega
    .rw[ak,qZ ‹b›];rfl
   .have b:¬q.name=t:=λz=>b (by rw[z]);refine⟨sm,?_⟩;rw[NZ,q_ ‹b›];simp
  .rintro H' ⟨sm,NZ⟩;have E4:(as.zip ps).length=as.length:=by rw[j_];omega
   rw[<-E4,eM]at NZ;have DT:ps=(as.zip ps).map (·.2):=(map_snd_zip ()).symm;have hfl:ps.filter (λq=>decide (q.name=t))=((as.zip ps).filter λx=>decide (x.2.name=t)).map (·.2):=by
    conv=>lhs;rw[DT]
    rw[mM];rfl
   have M7:∀x∈(as.zip ps).filter (λx=>decide (x.2.name=t)),oK Cp H rv x.1 x.2:=λx hx=>by
    obtain⟨i,hi⟩:=mem_iff_getElem?.mp (mem_filter.mp hx).1;rw[qV]at hi;obtain⟨q',h1,h2⟩:=Paired.at' hp hi.1;rw[hi.2]at h1;cases h1;exact h2
   generalize(as.zip ps).filter (λx=>decide (x.2.name=t))=F at*;refine⟨⟨as,aJ.of (sm _ _ hA),aQ _⟩,D,rfl,_,.inl (aJ.of NZ),?_⟩;rw[az];refine bj (λb=>?_) (λb=>?_)
   .have hF:F.length=1:=by omega
    obtain⟨x,rfl⟩:=length_eq_one_iff.mp hF;exact⟨D,rfl,_,aJ.of NZ,_,rfl,kQ x.2 (by rw[hfl];rfl) H' x.1 sm ((M7 x ∅).same sm)⟩
   .refine kE ?_ H' sm;rw[hfl,az];omega
end
noncomputable abbrev Ji:Stmt:=top 45
section
noncomputable def t4(I:List Int)(n:Int):Int:=((I.findIdx λx=>decide (x=n):Nat):Int)
noncomputable def setM(t:List Nat)(I:List Int):Option (List Int):=
 if((cut 44 [] t).map dv).all (λn=>decide (n∈I))=true then(if(((cut 44 [] t).map dv).map (t4 I)).Pairwise (·<·)then some (((cut 44 [] t).map dv).map (t4 I))else none)else none
def aaM:tl (Str.ofString ",")=[44]/\(Str.ofString ",").cps.all (·<256)=true:=by decide+kernel
def shaped_ints(ns:List Int):SeqAt.shaped (.list (ns.map PyData.int))=true:=by
 have h1:PyData.canLayAll0 (ns.map PyData.int)=true:=by
  induction ns with
  |nil=>rfl|cons n ns ih=>exact ih
 have h2:PyData.depthAll (ns.map PyData.int)=0:=by
  induction ns with
  |nil=>rfl
  |cons n ns ih=>
   show max 0 (PyData.depthAll (ns.map PyData.int))=0;rw[ih (by exact h1)];rfl
 show(PyData.canLayAll0 (ns.map PyData.int)&&decide (PyData.depthAll (ns.map PyData.int)+1<=64))=true;rw[h1,h2];rfl
theorem K9:∀{l m:List Int},l.Pairwise (·<·)->m.Pairwise (·<·)->(∀x,x∈l↔x∈m)->l=m
 |[],[],_,_,_=>rfl|[],y::m,_,_,h=>absurd ((h y).mpr ∅) ∅
 |x::l,[],_,_,h=>absurd ((h x).mp ∅) ∅
 |x::l,y::m,hl,hm,h=>by
  obtain⟨a1,a2⟩:=pairwise_cons.mp hl;obtain⟨b1,b2⟩:=pairwise_cons.mp hm;have e:x=y:=by
   obtain z|z:=mem_cons.mp ((h x).mp ∅)
   .exact z
   .obtain z2|z2:=mem_cons.mp ((h y).mpr ∅)
    .exact z2.symm
    .have:=b1 x z;have:=a1 y z2;omega
  subst e;rw[K9 a2 b2 λz=>?_];constructor
  .intro hz;obtain q|q:=mem_cons.mp ((h z).mp (by simp[hz]))
   .have:=a1 z hz;omega
   .exact q
  .intro hz;obtain q|q:=mem_cons.mp ((h z).mpr (by simp[hz]))
   .have:=b1 z hz;omega
   .exact q
def md n (I:List Int):YG (.int n) (I.map V.int)=decide (n∈I):=by
 rw[gi];unfold YG;rw[pR,fB];constructor
 .rintro⟨v,hv,e⟩;obtain⟨m,hm,rfl⟩:=mem_map.mp hv;have:m=n:=by simpa[HS]using e
  exact this▸hm
 .intro h;exact⟨.int n,mem_map.mpr ⟨n,h,rfl⟩,by simp[HS]⟩
theorem D5{c:Nat}:∀{l acc:List Nat},(∀w∈cut c acc l,w≠ [])->2*(cut c acc l).length<=acc.length+l.length+1
 |[],acc,h=>by
  have:=h acc (by simp[cut]);have:=length_pos_iff.mpr this;simp[cut];omega
 |x::r,acc,h=>by
  unfold cut at h⊢;split
  .rename_i e;rw[ah e]at h;have h1:=h acc ∅;have:=length_pos_iff.mpr h1;have ih:=D5 (c:=c) (l:=r) (acc:=[]) λw hw=>h w (by simp[hw]);rw[aY,aY];simp at ih;omega
  .rename_i e;rw[af e]at h;have ih:=D5 (c:=c) (l:=r) h;rw[aY];simp at ih;omega
def vH(K:PySem.W.Frag)(NB:Addr):Sp:=λvs H Q E=>∃(t:List Nat) (a:Addr) (I:List Int),vs=[.str (S t),.ref a]/\Tp t/\t.length<=4190/\aJ K H a (I.map V.int)/\I.length<=100/\(∀x∈I,0<=x)/\
 (∀ps,setM t I=some ps->∀H' p,aw H H'->H p=none->H' p=some (.lst (ps.map V.int))->Q (.ref p) H')/\(setM t I=none->∀H',aw H H'->E (.ref NB) none H')
def zA:aC ["word","interests","numbers","places","part","number"] ["word","interests"] (ao Ji):=by ac_nf
def XY(D:Def K mg "read_set" Ji ["word","interests"])(T:Tx mg)(fi:Ok P w K mg base eJ 1 "number_of" ["word"] iM)(aK:Ok P w K mg base (fT P w) 1 "require" ["holds"] (aD NB)):Ok P w K mg base (fT P w) 2 "read_set" ["word","interests"] (vH K NB):=by
 refine D.BL zA (λvs H Q E h=>?_) (λf b8 A outer s H vs Q E hr h=>?_)
 .obtain⟨_,_,_,rfl,_⟩:=h;rfl
 .obtain⟨t,a,I,rfl,ht,tl,hI,il,XM,kQ,kE⟩:=h;have hu:=yu hr;have adK:=T9 hr;refine⟨_,(ag (qf (own:=[("part",4)]) rfl zA.nd (i:=2) rfl rfl (tE rfl rfl rfl rfl) (bY (yo (pv 0) bo)) (bL (N:=["word","interests","numbers","places","part","number"]) (sc:=ao Ji) (by decide+kernel)) (λ_ _ _ _ _=>aT (i:=4) zA.nd rfl (Or.inl rfl)) (λ_ _ _ _ _=>da) (λ_ _ _ _ _=>(ax fi (hr.mono ⋯) rfl cp (ae (pv 4) ai)))) (ag (aS (ax (E:=E) aK (hr.mono ⋯) rfl (aX aH) (ae (aB (lP rfl) (by rfl) T.tL lY (ae (fU (own:=[("number",5)]) rfl zA.nd (bY (pv 2)) (bL (N:=["word","interests","numbers","places","part","number"]) (sc:=ao Ji) (by decide+kernel)) (λ_ _ _ _ _=>aT (i:=5) zA.nd rfl (Or.inl rfl)) (λ_ _ _ _ _=>da) (λ_ _ _ _ _=>(aU (zt (K:=K) rfl) (pv 5) (pv 1) rfl))) ai)) ai))) (ag (qf (own:=[("number",5)]) rfl zA.nd (i:=3) rfl rfl (tE rfl rfl rfl rfl) (bY (pv 2)) (bL (N:=["word","interests","numbers","places","part","number"]) (sc:=ao Ji) (by decide+kernel)) (λ_ _ _ _ _=>aT (i:=5) zA.nd rfl (Or.inl rfl)) (λ_ _ _ _ _=>da) (λ_ _ _ _ _=>(XX (K:=K) rfl we PySem.F.slot_list_index PySem.F.type_list_index (MZ (K:=K) rfl) (pv 1) (ae (pv 5) ai)))) (ag (aS (ax (E:=E) aK (hr.mono ⋯) rfl (aX aH) (ae (aU (WR adK) (pv 3) (XQ rfl (by rfl) T.jL (by rfl) T.BX (ae (pv 3) ai)) (aG _)) ai))) (au (aI (pv 3))))))),?_⟩;simp? only[bS,aD,iM];have hz:=cx;have adL:=yP (c:=44) (acc:=[]) ht.2 ∅;have AF:=qj (c:=44) (acc:=[]) (l:=t);refine⟨_,rfl,_,rfl,by decide+kernel,by rw[qN];omega,λp hp=>?_⟩;rw[uG aaM.1 aaM.2];refine⟨p,rfl,⟨_,aJ.of ak⟩,λD1 Vu=>?_⟩;have s1:aw H (upd H p (.lst (((cut 44 [] t).map S).map V.str))):=aw.new hp;have bP:setM t I=setM t I:=rfl
  conv at bP=>rhs;unfold setM
  generalize hC:cut 44 [] t=C at*;refine fz (xs:=(C.map S).map V.str) (λH v (z:Int)=>v=.int z) C (λc=>some (dv c)) ∅ (by simp;omega) Vu (aJ.of ak) (λ_ _ _ _ _ e=>e) ?_ ?_
  .intro i x u H' hx hu sm _ R k2;have e:x=.str (S u):=by
    rw[a_,a_,hu]at hx;exact(Option.some.inj hx).symm
   subst e;have hm:=adL u (bh hu);simp? only[bS,aD,iM];exact⟨u,rfl,⟨by simp at hm;omega,hm.2⟩,k2 _ _ _ rfl aw.rfl' rfl⟩
  .intro H2 ys zs NY iJ hm MN;rw[cP]at hm;cases hm;have iJ:H2 D1=some (.lst ((C.map dv).map V.int)):=by rw[iJ,fg MN]
   have s2:=s1.trans NY;generalize hN:C.map dv=NS at*;have hNl:NS.length<=4191:=by rw[<-hN,az];omega
   refine⟨D1,rfl,⟨_,aJ.of iJ⟩,λD2 TH=>?_⟩;refine fz (xs:=NS.map V.int) (λH v (b:Bool)=>v=.bl b) NS (λn=>some (decide (n∈I))) ∅ (by simp;omega) TH (aJ.of iJ) (λ_ _ _ _ _ e=>e) ?_ ?_
   .intro i x u H' hx hu sm _ R k2;have e:x=.int u:=by
     rw[a_,hu]at hx;exact(Option.some.inj hx).symm
    subst e;simp? only[bS,Ox];refine⟨_,.inl ((s2.trans sm).seq hI),rfl,by simp[gu],?_⟩;exact k2 _ _ _ rfl aw.rfl' (by rw[md])
   .intro H3 ys3 zs3 sm3 Jj NX Ql;rw[cP]at NX;cases NX;have s3:=s2.trans sm3;have hn3:=sm3 _ _ iJ;refine⟨D2,rfl,_,aJ.of (by rw[Jj,fg Ql]),?_⟩;rw[List.all_map];refine bj (λb=>?_) (λb=>kE (by rw[bP,af];exact b) H3 s3);have b:NS.all (λn=>decide (n∈I))=true:=b;rw[ah b]at bP;simp? only[bS];refine⟨D1,rfl,⟨_,aJ.of hn3⟩,λD3 hD3=>?_⟩;refine fz (xs:=NS.map V.int) (λH v (z:Int)=>v=.int z) NS (λn=>some (t4 I n)) ∅ (by simp;omega) hD3 (aJ.of hn3) (λ_ _ _ _ _ e=>e) ?_ ?_
    .intro i x u H' hx hu sm _ R k2;have e:x=.int u:=by
      rw[a_,hu]at hx;exact(Option.some.inj hx).symm
     subst e;simp? only[bS,Zx,HY];have hI':=(s3.trans sm).seq hI;have Zz:u∈I:=‹all_eq_true.mp b u (bh hu)›
     have eK:(I.findIdx λx=>decide (x=u))<I.length:=findIdx_lt_length_of_exists ⟨u,Zz,by simp⟩;have hat:I[I.findIdx λx=>decide (x=u)]?=some u:=by
      rw[bg eK];have:=findIdx_getElem (w:=eK);exact bW some ‹this›
     refine⟨(.inl ⟨rfl,_,hI'⟩:YH K "list" (.ref a) H'),_,hI',rfl,by simp[gu],I.findIdx λx=>decide (x=u),.int u,?_,by simp[HS],λm z' hm E3=>?_,k2 _ _ _ rfl aw.rfl' rfl⟩
     .rw[a_,hat];rfl
     .rw[a_]at E3;cases e2:I[m]? with
      |none=>rw[e2]at E3;cases E3
      |some v=>
       rw[e2]at E3;cases E3;have hml:m<I.length:=by omega
       have h1:=not_of_lt_findIdx hm;rw[bg hml]at e2;have e3:I[m]=v:=Option.some.inj e2;have h2:¬v=u:=by
        rw[<-e3];simpa using h1
       simpa[HS]using h2
    .intro H4 ys4 zs4 sm4 Jk hm4 hp4;rw[cP]at hm4;cases hm4;have s4:=s3.trans sm4;have Jk:H4 D3=some (.lst ((NS.map (t4 I)).map V.int)):=by rw[Jk,fg hp4]
     generalize hPS:NS.map (t4 I)=PS at*;simp? only[aaK,ZA];refine⟨PS,aJ.of Jk,?_,λout q mem up hq=>?_⟩
     .rw[<-hPS,az,<-hN,az,<-hC];have iB:∀w∈cut 44 [] t,w≠ []:=λw hw hw0=>by
       rw[hC]at hw;have h1:=all_eq_true.mp b (dv w) (by rw[<-hN];exact mem_map.mpr ⟨w,hw,rfl⟩);rw[hw0]at h1;have h2:(-1:Int)∈I:=by simpa[dv]using h1
       have:=XM _ h2;omega
      have h5:=D5 iB;rw[pE]at h5;omega
     have iB:D3≠q:=λz=>by rw[<-z,Jk]at hq;cases hq
     have hy5:(upd H4 q (HO.lst (List.map V.int out))) D3=some (.lst (PS.map V.int)):=by rw[aF iB];exact Jk
     have s5:=s4.trans (aw.new (o:=HO.lst (List.map V.int out)) hq);refine⟨.list (PS.map PyData.int),.lst (aJ.of hy5) (D0 PS),.list (out.map PyData.int),.lst (aJ.of ak) (D0 out),shaped_ints PS,shaped_ints out,?_⟩;have ev:PyData.eqv (.list (PS.map PyData.int)) (.list (out.map PyData.int))=decide (PS=out):=GI PS out;rw[ev];refine bj (λc=>?_) (λc=>?_)
     .have c:PS=out:=by simpa using c
      rw[<-c]at up;rw[ah up]at bP;exact kQ PS bP _ D3 s5 (s3.free hD3) hy5
     .have c:¬PS=out:=by simpa using c
      refine kE ?_ _ s5;rw[bP,af λz=>c (K9 z up λx=>(mem x).symm)]
end
noncomputable abbrev Ua:Stmt:=top 43
noncomputable abbrev Qu:Stmt:=top 44
noncomputable abbrev Y3:Stmt:=top 42
noncomputable abbrev K_:Stmt:=top 41
section
noncomputable def M8:List Nat:=[111,110]
noncomputable def zB:List Nat:=[98,111,120]
noncomputable def Ub:List Nat:=[107,101,121]
noncomputable def Qv:List Nat:=[119,105,116,104]
noncomputable def kU:List Nat:=[47]
noncomputable def cB(rs:List (List Int))(q:MP):List (List Int):=mZ [] rs q.kind q.k q.race
noncomputable def A2(ws:List (List Nat))(k:Int)(I:List Int):Option (List (List Int)):=if ws.length=1 then(match setM (ws.getD 0 []) I with
 |none=>none|some s=>if k<=(s.length:Int)then some [s]else none)else none
def kq(H:Hp)(R:Addr)(ss:List (List Int)):Prop:=nV H R ss
def Qw(K:PySem.W.Frag)(NB Cp:Addr):Sp:=λvs H Q E=>∃(a p:Addr) (ws:List (List Nat)) (rs:List (List Int)) (q:MP),vs=[.ref a,.ref p]/\Words H a ws/\(∀t∈ws,t.length<=4190)/\jM Cp H (.ref p) rs q/\(∃I,(cB rs q)[0]?=some I/\I.length<=100/\(∀x∈I,0<=x)/\
 (∀ss,A2 ws q.k I=some ss->∀H' x,aw H H'->kq H' x ss->Q (.ref x) H')/\(A2 ws q.k I=none->∀H',aw H H'->E (.ref NB) none H'))
def VE:aC ["words","pool","places"] ["words","pool"] (ao Ua):=by ac_nf
def XZ(D:Def K mg "read_box" Ua ["words","pool"])(T:Tx mg)(aN:CL P w K mg base "Pool" Cp ["self","name","kind","k","races","unit"] (cU Cp) ["name","kind","k","races","unit"])(dA:Ok P w K mg base (fT P w) 2 "read_set" ["word","interests"] (vH K NB))(aK:Ok P w K mg base (fT P w) 1 "require" ["holds"] (aD NB)):Ok P w K mg base (fT P w) 3 "read_box" ["words","pool"] (Qw K NB Cp):=by
 refine D.BL VE (λvs H Q E h=>?_) (λf b8 A outer s H vs Q E hr h=>?_)
 .obtain⟨_,_,_,_,_,rfl,_⟩:=h;rfl
 .obtain⟨a,p,ws,rs,q,rfl,hw,BK,hP,I,hI,il,i0,kQ,kE⟩:=h;refine⟨_,(ag (aS (ax (E:=E) aK (hr.mono ⋯) rfl (aX aH) (ae (aU cC (aB aA (by rfl) T.b_ bF (ae (pv 0) ai)) aq (aG _)) ai))) (ag (aM (i:=2) VE.nd rfl (Or.inl rfl) (ax (E:=E) dA (hr.mono ⋯) rfl (aX aH) (ae (bz aL (pv 0) aq (λ_ _=>rfl)) (ae (bz aL (bu (pv 1) rfl) aq (λ_ _=>rfl)) ai)))) (ag (aS (ax (E:=E) aK (hr.mono ⋯) rfl (aX aH) (ae (aU Ff (aB aA (by rfl) T.b_ bF (ae (pv 2) ai)) (bu (pv 1) rfl) (aG _)) ai))) (au (aI (kN (ae (pv 2) ai))))))),?_⟩;simp? only[bS,aD,n8,ow,vH];have hz:=bH;refine⟨_,.inl (aJ.of hw.1),?_⟩;rw[az];refine bj (λb=>?_) (λb=>kE (by unfold A2;rw[af ()]) H aw.rfl');have b:ws.length=1:=by omega
  obtain⟨pp,dx,Rr,e0,mq,as,hR,vx⟩:=hP;cases e0;obtain⟨v0,MM,ia,rfl,VF⟩:=Paired.Hx vx hI;have g0:ws[0]?=some (ws.getD 0 []):=by
   rw[cQ,bg ()];rfl
  have q0:=hw.at g0;have M7:=bh g0;have bP:A2 ws q.k I=A2 ws q.k I:=rfl
  conv at bP=>rhs;unfold A2
  rw[ah b]at bP;refine⟨_,aJ.of hw.1,_,q0.1,Cp,dx,_,mq,aN.cl,aN.no "races" ∅,_,rfl,Rr,rfl,_,aJ.of hR,_,dG (j:=0) MM,_,ia,⟨rfl,rfl⟩,q0.2,BK _ M7,I,aJ.of VF,il,i0,λps es H1 x s1 _ hx=>?_,λes=>kE (by rw[bP,es])⟩;rw[es]at bP;dsimp only at bP;refine⟨_,.inl (aJ.of hx),?_⟩;rw[az];refine⟨Cp,dx,_,s1 _ _ mq,aN.cl,aN.no "k" ∅,_,rfl,_,rfl,bj (λc=>⟨by omega,λy hy=>?_⟩) (λc=>kE (by rw[bP,af c]) H1 s1)⟩;exact kQ [ps] (by rw[bP,ah c]) _ y (s1.trans (aw.new hy)) ⟨_,ak,.cons ⟨x,rfl,(aw.new hy) _ _ hx⟩ .nil⟩
noncomputable def D6(ws:List (List Nat))(k:Int)(I:List Int):Option (List (List Int)):=if ws.length=3/\ws.getD 1 []=Qv then(match setM (ws.getD 0 []) I with
 |none=>none
 |some A=>match setM (ws.getD 2 []) I with
  |none=>none|some B=>if(A.length:Int)<k then(if A.all (λn=>!decide (n∈B))=true then(if k<=(A.length:Int)+(B.length:Int)then some [A,B]else none)else none)else none)else none
def Qx(K:PySem.W.Frag)(NB Cp:Addr):Sp:=λvs H Q E=>∃(a p:Addr) (ws:List (List Nat)) (rs:List (List Int)) (q:MP),vs=[.ref a,.ref p]/\Words H a ws/\(∀t∈ws,t.length<=4190)/\jM Cp H (.ref p) rs q/\(∃I,(cB rs q)[0]?=some I/\I.length<=100/\(∀x∈I,0<=x)/\
 (∀ss,D6 ws q.k I=some ss->∀H' x,aw H H'->kq H' x ss->Q (.ref x) H')/\(D6 ws q.k I=none->∀H',aw H H'->E (.ref NB) none H'))
def GN:aC ["words","pool","keyed","others","place"] ["words","pool"] (ao Qu):=by ac_nf
def X0:Str.ofString "with"=S Qv:=by decide+kernel
def Qy{t:List Nat}{I ps:List Int}(h:setM t I=some ps):ps.length<=t.length+1:=by
 unfold setM at h;split at h
 .split at h
  .cases h;rw[az,az];exact qj
  .cases h
 .cases h
def X1(D:Def K mg "read_key" Qu ["words","pool"])(T:Tx mg)(aN:CL P w K mg base "Pool" Cp ["self","name","kind","k","races","unit"] (cU Cp) ["name","kind","k","races","unit"])(dA:Ok P w K mg base (fT P w) 2 "read_set" ["word","interests"] (vH K NB))(aK:Ok P w K mg base (fT P w) 1 "require" ["holds"] (aD NB)):Ok P w K mg base (fT P w) 3 "read_key" ["words","pool"] (Qx K NB Cp):=by
 refine D.BL GN (λvs H Q E h=>?_) (λf b8 A outer s H vs Q E hr h=>?_)
 .obtain⟨_,_,_,_,_,rfl,_⟩:=h;rfl
 .obtain⟨a,p,ws,rs,q,rfl,hw,BK,hP,I,hI,il,i0,kQ,kE⟩:=h;refine⟨_,(ag (aS (ax (E:=E) aK (hr.mono ⋯) rfl (aX aH) (ae (kL (aU cC (aB aA (by rfl) T.b_ bF (ae (pv 0) ai)) aq (aG _)) (iV (aU cC (bz aL (pv 0) aq (λ_ _=>rfl)) bo (aG _)))) ai))) (ag (aM (i:=2) GN.nd rfl (Or.inl rfl) (ax (E:=E) dA (hr.mono ⋯) rfl (aX aH) (ae (bz aL (pv 0) aq (λ_ _=>rfl)) (ae (bz aL (bu (pv 1) rfl) aq (λ_ _=>rfl)) ai)))) (ag (aM (i:=3) GN.nd rfl (Or.inr rfl) (ax (E:=E) dA (hr.mono ⋯) rfl (aX aH) (ae (bz aL (pv 0) aq (λ_ _=>rfl)) (ae (bz aL (bu (pv 1) rfl) aq (λ_ _=>rfl)) ai)))) (ag (aS (ax (E:=E) aK (hr.mono ⋯) rfl (aX aH) (ae (aU Bn (aB aA (by rfl) T.b_ bF (ae (pv 2) ai)) (bu (pv 1) rfl) (aG _)) ai))) (ag (aS (ax (E:=E) aK (hr.mono ⋯) rfl (aX aH) (ae (aB (lP rfl) (by rfl) T.tL lY (ae (fU (own:=[("place",4)]) rfl GN.nd (bY (pv 2)) (bL (N:=["words","pool","keyed","others","place"]) (sc:=ao Qu) (by decide+kernel)) (λ_ _ _ _ _=>aT (i:=4) GN.nd rfl (Or.inl rfl)) (λ_ _ _ _ _=>da) (λ_ _ _ _ _=>(aU (qQ (K:=K) rfl) (pv 4) (pv 3) rfl))) ai)) ai))) (ag (aS (ax (E:=E) aK (hr.mono ⋯) rfl (aX aH) (ae (aU Ff (bO gm (aB aA (by rfl) T.b_ bF (ae (pv 2) ai)) (aB aA (by rfl) T.b_ bF (ae (pv 3) ai))) (bu (pv 1) rfl) (aG _)) ai))) (au (aI (kN (ae (pv 2) (ae (pv 3) ai))))))))))),?_⟩;simp? only[bS,aD,n8,ow,vH];have hz:=cx;have bP:D6 ws q.k I=D6 ws q.k I:=rfl
  conv at bP=>rhs;unfold D6
  refine⟨_,.inl (aJ.of hw.1),?_⟩;rw[az];refine bj (λb=>?_) (λb=>kE (by rw[bP,af ()]) H aw.rfl');have b:ws.length=3:=by omega
  have uI:∀i:Nat,i<3->ws[i]?=some (ws.getD i []):=λi hi=>by
   rw[cQ,bg ()];rfl
  have q0:=hw.at (uI 0 ⋯);have q1:=hw.at (uI 1 ⋯);have q2:=hw.at (uI 2 ⋯);refine⟨_,aJ.of hw.1,_,q1.1,rfl,?_⟩;rw[X0];simp only[V.str.injEq,cO];refine bj (λb2=>?_) (λb2=>kE (by rw[bP,af (λz=>b2 z.2)]) H aw.rfl');rw[ah ⟨b,b2⟩]at bP;obtain⟨pp,dx,Rr,e0,mq,as,hR,vx⟩:=hP;cases e0;obtain⟨v0,MM,ia,rfl,VF⟩:=Paired.Hx vx hI;have m0:=bh (uI 0 ⋯);have m2:=bh (uI 2 ⋯);refine⟨_,aJ.of hw.1,_,q0.1,Cp,dx,_,mq,aN.cl,aN.no "races" ∅,_,rfl,Rr,rfl,_,aJ.of hR,_,dG (j:=0) MM,_,ia,⟨rfl,rfl⟩,q0.2,BK _ m0,I,aJ.of VF,il,i0,λA eA H1 x s1 _ hx=>?_,λeA=>kE (by rw[bP,eA])⟩;rw[eA]at bP;dsimp only at bP;have lA:=Qy eA;have l0:=BK _ m0;have PD:=hw.same s1;refine⟨_,aJ.of PD.1,_,q2.1,Cp,dx,_,s1 _ _ mq,aN.cl,aN.no "races" ∅,_,rfl,Rr,rfl,_,aJ.of (s1 _ _ hR),_,dG (j:=0) MM,_,ia,⟨rfl,rfl⟩,q2.2,BK _ m2,I,aJ.of (s1 _ _ VF),il,i0,λB eB H2 y s2 _ hy=>?_,λeB H' s'=>kE (by rw[bP,eB]) H' (s1.trans s')⟩;rw[eB]at bP;dsimp only at bP;have M9:=s1.trans s2;have Xz:=s2 _ _ hx;refine⟨_,.inl (aJ.of Xz),Cp,dx,_,M9 _ _ mq,aN.cl,aN.no "k" ∅,_,rfl,_,rfl,?_⟩;rw[az];refine bj (λc=>?_) (λc=>kE (by rw[bP,af c]) H2 M9);rw[ah c]at bP;refine⟨x,rfl,⟨_,aJ.of Xz⟩,λD1 Vu=>?_⟩;refine fz (xs:=A.map V.int) (λH v (b:Bool)=>v=.bl b) A (λn=>some (!decide (n∈B))) ∅ (by simp;omega) Vu (aJ.of Xz) (λ_ _ _ _ _ e=>e) ?_ ?_
  .intro i z u H' E3 hu sm _ R k2;have e:z=.int u:=by
    rw[a_,hu]at E3;exact(Option.some.inj E3).symm
   subst e;simp? only[bS,Ox];refine⟨_,.inl (aJ.of (sm _ _ hy)),rfl,by simp[gu],?_⟩;exact k2 _ _ _ rfl aw.rfl' (by rw[md])
  .intro H3 ys3 zs3 sm3 Jj NX Ql;rw[cP]at NX;cases NX;have s3:=M9.trans sm3;refine⟨D1,rfl,_,aJ.of (by rw[Jj,fg Ql]),?_⟩;rw[List.all_map];refine bj (λd=>?_) (λd=>kE (by rw[bP,af];exact d) H3 s3);have d:A.all (λn=>!decide (n∈B))=true:=d;rw[ah d]at bP;simp? only[bS,aD,n8,ow];have hy3:=sm3 _ _ hy;have hx3:=sm3 _ _ Xz;refine⟨_,.inl (aJ.of hx3),_,.inl (aJ.of hy3),Cp,dx,_,s3 _ _ mq,aN.cl,aN.no "k" ∅,_,rfl,_,rfl,?_⟩;rw[az,az];refine bj (λe=>⟨by omega,λz E3=>?_⟩) (λe=>kE (by rw[bP,af e]) H3 s3);exact kQ [A,B] (by rw[bP,ah e]) _ z (s3.trans (aw.new E3)) ⟨_,ak,.cons ⟨x,rfl,(aw.new E3) _ _ hx3⟩ (.cons ⟨y,rfl,(aw.new E3) _ _ hy3⟩ .nil)⟩
def M_{Q:VK}{tb:TE}{t:Str}{s:List Nat}(ht:t=S s)(hσ:σ[i]?=some (some (.ref p)))(mq:H p=some (.ins Cp dx (B2 Rr q)))(cl:Fh K Cp)(no:cD K Cp "kind")(ha:∀Q:VK,Q va H->ta σ H Q)(hb:∀Q:VK,Q vb H->tb σ H Q)(h:Q (if q.kind=s then va else vb) H):Zk (Bo (Sz U9 (n8 K (xY i) "kind") (tC (V.str t)))) ta tb σ H Q:=by
 subst ht;simp? only[Zk,n8];refine⟨_,hσ,p,rfl,Cp,dx,_,mq,cl,no,.str (S q.kind),rfl,rfl,?_⟩;simp only[V.str.injEq,cO];by_cases c:q.kind=s
 .rw[ah c]at h⊢;exact ha Q h
 .rw[af c]at h⊢;exact hb Q h
theorem uN(f:α->β):∀l:List α,L2.bp (l.map f)=(L2.bp l).map f
 |[]=>rfl|[_]=>rfl
 |a::_::r=>by
  show f a::L2.bp (r.map f)=f a::(L2.bp r).map f;rw[uN f r]
def Uc:Str.ofString "/"=S kU:=by decide+kernel
theorem jq:∀l:List α,(L2.bp l).length=(l.length+1)/2
 |[]=>by simp[L2.bp]|[_]=>by simp[L2.bp]
 |a::b::r=>by
  show(L2.bp r).length+1=(r.length+2+1)/2;rw[jq r];omega
theorem nc{F:α->β->Prop}{l:List α}{m:List β}(h:Paired F l m):∀n:Nat,Paired F (List.replicate n l).flatten (List.replicate n m).flatten
 |0=>.nil
 |n+1=>by
  rw[j6,j6,mH,mH];exact xR h (nc h n)
theorem zC:∀l:List α,(L2.bp l).length<=l.length
 |[]=>aQ _|[_]=>aQ _
 |a::b::r=>by
  show(L2.bp r).length+1<=r.length+2;have:=zC r;omega
theorem B_:∀(l:List α) x,x∈L2.bp l->x∈l
 |[],x,h=>h|[_],x,h=>h
 |a::b::r,x,h=>by
  obtain z|z:=mem_cons.mp (show x∈a::L2.bp r from h)
  .simp[z]
  .simp[B_ r x z]
theorem Cd{f:α->Option β}:∀{l}{i:Nat}{x},l[i]?=some x->f x=none->cG f l=none
 |[],i,x,h,_=>by simp at h
 |y::l,0,x,h,e=>by
  have:=Option.some.inj h;subst this;unfold cG;rw[e]
 |y::l,i+1,x,h,e=>by
  have ih:=Cd (i:=i) (x:=x) ‹h› e;unfold cG;rw[ih];cases f y<;>rfl
noncomputable def vW(q:MP):Int:=if q.kind=dy then 1 else q.k
noncomputable def Qz(ws:List (List Nat))(q:MP)(R:List (List Int)):Option (List (List Int)):=if(ws.length:Int)=2*vW q-1 then(if(L2.oF ws).all (λt=>decide (t=kU))=true then
 cG (λx=>setM x.1 x.2) ((L2.bp ws).zip (if q.kind=cg then R else(List.replicate (vW q).toNat R).flatten))else none)else none
def aaN(K:PySem.W.Frag)(NB Cp:Addr):Sp:=λvs H Q E=>∃(a p:Addr) (ws:List (List Nat)) (rs:List (List Int)) (q:MP),vs=[.ref a,.ref p]/\Words H a ws/\(∀t∈ws,t.length<=4190)/\jM Cp H (.ref p) rs q/\1<=q.k/\q.k<=6/\(q.kind=cg->((cB rs q).length:Int)=q.k)/\(q.kind≠cg->(cB rs q).length=1)/\(∀r∈cB rs q,r.length<=100/\∀x∈r,0<=x)/\
 (∀ss,Qz ws q (cB rs q)=some ss->∀H' x,aw H H'->kq H' x ss->Q (.ref x) H')/\(Qz ws q (cB rs q)=none->∀H',aw H H'->E (.ref NB) none H')
def GO:aC ["words","pool","sets","races","word","interests"] ["words","pool"] (ao Y3):=by ac_nf
def aaO(D:Def K mg "read_on" Y3 ["words","pool"])(T:Tx mg)(aN:CL P w K mg base "Pool" Cp ["self","name","kind","k","races","unit"] (cU Cp) ["name","kind","k","races","unit"])(dA:Ok P w K mg base (fT P w) 2 "read_set" ["word","interests"] (vH K NB))(aK:Ok P w K mg base (fT P w) 1 "require" ["holds"] (aD NB)):Ok P w K mg base (fT P w) 3 "read_on" ["words","pool"] (aaN K NB Cp):=by
 refine D.BL GO (λvs H Q E h=>?_) (λf b8 A outer s H vs Q E hr h=>?_)
 .obtain⟨_,_,_,_,_,rfl,_⟩:=h;rfl
 .obtain⟨a,p,ws,rs,q,rfl,hw,BK,hP,k1,k6,Y4,VG,AQ,kQ,kE⟩:=h;refine⟨_,(ag (aM (i:=2) GO.nd rfl (Or.inl rfl) (x6 (bt cC (bu (pv 1) rfl) bo (aG _)) aq (bu (pv 1) rfl))) (ag (aS (ax (E:=E) aK (hr.mono ⋯) rfl (aX aH) (ae (aU cC (aB aA (by rfl) T.b_ bF (ae (pv 0) ai)) (bO gn (bO rk aq (pv 2)) aq) (aG _)) ai))) (ag (aS (ax (E:=E) aK (hr.mono ⋯) rfl (aX aH) (ae (aB (lP rfl) (by rfl) T.tL lY (ae (fU (own:=[("word",4)]) rfl GO.nd (bY (qe (pv 0) aq aq)) (bL (N:=["words","pool","sets","races","word","interests"]) (sc:=ao Y3) (by decide+kernel)) (λ_ _ _ _ _=>aT (i:=4) GO.nd rfl (Or.inl rfl)) (λ_ _ _ _ _=>da) (λ_ _ _ _ _=>(aU cC (pv 4) bo (aG _)))) ai)) ai))) (ag (aM (i:=3) GO.nd rfl (Or.inl rfl) (x6 (bt cC (bu (pv 1) rfl) bo (aG _)) (bu (pv 1) rfl) (bO HX (bu (pv 1) rfl) (pv 2)))) (au (aI (Ij (own:=[("word",4),("interests",5)]) (E:=E) rfl rfl rfl aH rfl GO.nd (OM rfl T.yR (ae (qe (pv 0) aq aq) (ae (pv 3) ai))) (bL (N:=["words","pool","sets","races","word","interests"]) (sc:=ao Y3) (by decide+kernel)) (λ_ _ _ _ _=>xE (K:=K) (n:=2) rfl rfl (cE (aT (i:=4) GO.nd rfl (Or.inl rfl)) (cE (aT (i:=5) GO.nd rfl (Or.inl rfl)) kc))) (λ_ _ _ _ _=>da) (λ_ _ _ _ _=>(ax (E:=E) dA (hr.mono ⋯) rfl (aX Ii) (ae (pv 4) (ae (pv 5) ai))))))))))),?_⟩;simp? only[bS,aD,ow];have hz:=cx;obtain⟨pp,dx,Rr,e0,mq,as,hR,vx⟩:=hP;cases e0;refine M_ DJ rfl mq aN.cl (aN.no "kind" ∅) (va:=.int 1) (vb:=.int q.k) (λQ h=>h) (λQ h=>?_) ?_
  .simp? only[n8];exact⟨Cp,dx,_,mq,aN.cl,aN.no "k" ∅,_,rfl,h⟩
  have eN:(if q.kind=dy then V.int 1 else V.int q.k)=.int (vW q):=by
   unfold vW;split<;>rfl
  rw[eN];have n1:1<=vW q/\vW q<=6:=by
   unfold vW;split<;>omega
  have bP:Qz ws q (cB rs q)=Qz ws q (cB rs q):=rfl
  conv at bP=>rhs;unfold Qz
  generalize hn:vW q=n at*;refine⟨_,.inl (aJ.of hw.1),_,rfl,.inl ⋯,?_⟩;rw[az];refine bj (λb=>?_) (λb=>kE (by rw[bP,af b]) H aw.rfl');rw[ah b]at bP;have tail:∀(H2:Hp)(R':Addr)(Y0:List V)(RS:List (List Int)),aw H H2->H2 R'=some (.lst Y0)->Paired (fW H2) Y0 RS->(L2.bp ws).length=RS.length->(∀r∈RS,r.length<=100/\∀x∈r,0<=x)->Qz ws q (cB rs q)=cG (λx=>setM x.1 x.2) ((L2.bp ws).zip RS)->
    YM (ZY K (vj (OZ K (xY 0) (tC (V.int 0)) (tC (V.int 2))) (vj (xY 3) HQ)))
         (Wl K 2 (Oc (ot 4) (Oc (ot 5) Zo))) Fs
         (Bp (vH K NB) [] E (vj (xY 4) (vj (xY 5) HQ))) [4,5]
         [some (V.ref a),some (V.ref p),some (V.int n),some (V.ref R'),none,none] H2 Q:=by
   intro H2 R' Y0 RS s2 hR' adM hlen hr1 bP;have Gd:=hw.same s2;refine⟨a,_,0,rfl,rfl,rfl,aJ.of Gd.1,λp2 MN=>?_⟩;rw[pV,uN];have s3:aw H2 (upd H2 p2 (.lst ((L2.bp ws).map λw=>V.str (S w)))):=aw.new MN;have Ud:=s3 _ _ hR';have Nf:Paired (fW (upd H2 p2 (.lst ((L2.bp ws).map λw=>V.str (S w))))) Y0 RS:=Paired.fR adM λ_ _ z=>z.same s3;generalize hH3:upd H2 p2 (.lst ((L2.bp ws).map λw=>V.str (S w)))=H3 at*;have hev:H3 p2=some (.lst ((L2.bp ws).map λw=>V.str (S w))):=by rw[<-hH3];exact ak
   have hlv:=Paired.dQ Nf;refine⟨p2,R',_,_,rfl,aJ.of hev,aJ.of Ud,λD2 TH=>?_⟩;have E4:((L2.bp ws).zip RS).length=RS.length:=by rw[j_];omega
   have Kj:(L2.bp ws).length<=ws.length:=zC ws;refine uM (n:=RS.length) (λi H'=>aw H3 H'/\∃ys zs,H' D2=some (.lst ys)/\cG (λx:List Nat×List Int=>setM x.1 x.2) (((L2.bp ws).zip RS).take i)=some zs/\Paired (λv ps=>∃x,v=V.ref x/\x≠D2/\H' x=some (.lst (ps.map V.int))) ys zs)
    ⟨aw.new TH,[],[],ak,rfl,.nil⟩ (λi H' hi h=>?_) ?_ ?_
   .exact⟨_,_,_,_,aJ.of (h.1 _ _ hev),aJ.of (h.1 _ _ Ud),bg (by simp;omega),bg ()⟩
   .rintro i v H' Y1 hi ⟨sm,ys,zs,iJ,hm,hp⟩ ⟨T',x,y,rfl,nT,rfl,hx,hy⟩;have hx:=hx _ (aJ.of (sm _ _ hev));have hy:=hy _ (aJ.of (sm _ _ Ud));rw[a_]at hx;cases eu:(L2.bp ws)[i]? with
    |none=>rw[eu]at hx;cases hx
    |some u=>
    rw[eu]at hx;cases hx;obtain⟨r,hr,ia,rfl,VF⟩:=Paired.at' Nf hy;have Y2:((L2.bp ws).zip RS)[i]?=some (u,r):=by rw[qV];exact⟨eu,hr⟩
    have hmu:=B_ ws u (bh eu);have sT:aw H' (upd H' T' (.tup [.str (S u),.ref ia])):=aw.new nT;have hDT:D2≠T':=λz=>by rw[z,nT]at iJ;cases iJ
    refine⟨T',_,rfl,.inl (.inl ak),rfl,_,_,rfl,_,_,rfl,rfl,?_⟩;simp? only[vH];refine⟨rfl,?_⟩;simp only[Fs,↓reduceIte];have okr:=hr1 r (bh hr);refine⟨_,rfl,_,rfl,u,ia,⟨rfl,rfl⟩,hw.2.2.2 u hmu,BK u hmu,r,aJ.of (sT _ _ (sm _ _ VF)),okr.1,okr.2,λps es H4 x s4 nx hx=>?_,λes H4 s4=>kE (by rw[bP];exact Cd Y2 es) H4 (((s2.trans s3).trans sm).trans (sT.trans s4))⟩;have Jk:=s4 _ _ (sT _ _ iJ);have hxD:x≠D2:=λz=>by rw[z,sT _ _ iJ]at nx;cases nx
    have e1:=Paired.dQ hp;have e2:=gA hm;have Av:((L2.bp ws).zip RS).take (i+1)=((L2.bp ws).zip RS).take i++ [(u,r)]:=bw Y2;refine⟨ys,Jk,?_,((sm.trans sT).trans s4).lV TH,ys++ [.ref x],ak,zs++ [ps],?_,?_⟩
    .rw[e1,e2,cS];have:=oo i ((L2.bp ws).zip RS).length;have h3:=hw.2.2.1;omega
    .rw[Av,lR,hm];dsimp only;rw[es]
    .refine j9 (Paired.fR hp λv ps' ⟨x',e,n',h⟩=>⟨x',e,n',by rw[aF n'];exact s4 _ _ (sT _ _ h)⟩) ⟨x,rfl,hxD,by rw[aF hxD];exact hx⟩
   .rintro H' ⟨sm,ys,zs,iJ,hm,hp⟩;refine⟨⟨_,_,aJ.of (sm _ _ hev),aJ.of (sm _ _ Ud),.inr ()⟩,?_⟩;rw[<-E4,eM]at hm;exact kQ zs (by rw[bP,hm]) H' D2 ((s2.trans s3).trans sm) ⟨ys,iJ,Paired.fR hp λ_ _ ⟨x,e,_,h⟩=>⟨x,e,h⟩⟩
  refine⟨a,_,1,rfl,rfl,rfl,aJ.of hw.1,λp1 La=>?_⟩;rw[show L2.bp ((ws.map λw=>V.str (S w)).drop 1)=(L2.oF ws).map λw=>V.str (S w) by rw[<-map_drop,uN];rfl];refine⟨p1,rfl,⟨_,aJ.of ak⟩,λD1 Vu=>?_⟩;have s1:aw H (upd H p1 (.lst ((L2.oF ws).map λw=>V.str (S w)))):=aw.new La;have Vz:(L2.oF ws).length<=ws.length:=aW (zC _) (by rw[dU];omega);have aer:=hw.2.2.1;refine fz (xs:=(L2.oF ws).map λw=>V.str (S w)) (λH v (b:Bool)=>v=.bl b) (L2.oF ws) (λt=>some (decide (t=kU))) ∅ (by simp;omega) Vu (aJ.of ak) (λ_ _ _ _ _ e=>e) ?_ ?_
  .intro i x u H' hx hu sm _ R k2;have e:x=.str (S u):=by
    rw[a_,hu]at hx;exact(Option.some.inj hx).symm
   subst e;simp? only[bS];rw[Uc];exact k2 _ _ _ rfl aw.rfl' (by simp only[cO])
  .intro H3 ys3 zs3 sm3 Jj NX Ql;rw[cP]at NX;cases NX;have s3:=s1.trans sm3;refine⟨D1,rfl,_,aJ.of (by rw[Jj,fg Ql]),?_⟩;rw[List.all_map];refine bj (λd=>?_) (λd=>kE (by rw[bP,af];exact d) H3 s3);have d:(L2.oF ws).all (λt=>decide (t=kU))=true:=d;rw[ah d]at bP;have Ud:=s3 _ _ hR;have Nf:Paired (fW H3) as (cB rs q):=Paired.fR vx λ_ _ z=>z.same s3;have aes:((L2.bp ws).length:Int)=n:=by
    rw[jq];omega
   simp? only[Zk,n8];refine⟨Cp,dx,_,s3 _ _ mq,aN.cl,aN.no "kind" ∅,.str (S q.kind),rfl,rfl,?_⟩;rw[yY];simp only[V.str.injEq,cO];refine bj (λc=>?_) (λc=>?_)
   .rw[ah c]at bP;have hk:n=q.k:=by
     rw[<-hn];unfold vW;rw[af (by rw[c];decide)]
    exact⟨Cp,dx,_,s3 _ _ mq,aN.cl,aN.no "races" ∅,_,rfl,tail H3 Rr as (cB rs q) s3 Ud Nf (by have:=Y4 c;omega) AQ bP⟩
   .rw[af c]at bP;have h1:=VG c;have Ue:as.length=1:=by rw[Paired.dQ Nf];exact h1
    refine⟨Cp,dx,_,s3 _ _ mq,aN.cl,aN.no "races" ∅,_,rfl,Rr,n,as,rfl,rfl,Ud,by omega,by omega,by rw[Ue];omega,λp9 hp9=>?_⟩;have s9:=aw.new (o:=HO.lst (List.replicate n.toNat as).flatten) hp9;refine tail _ p9 _ (List.replicate n.toNat (cB rs q)).flatten (s3.trans s9) ak (Paired.fR (nc Nf n.toNat) λ_ _ z=>z.same s9) ?_ (λr hr=>?_) bP
    .rw[len_rep,h1];omega
    .obtain⟨l,hl,hr⟩:=mem_flatten.mp hr;rw[wq hl]at hr;exact AQ r hr
noncomputable def jO(ws:List (List Nat))(q:MP)(R:List (List Int)):Option (List (List Int)):=
 if ws.getD 0 []=M8 then Qz (ws.drop 1) q R else if q.kind=dz\/q.kind=ji then(if ws.getD 0 []=zB then A2 (ws.drop 1) q.k (R.getD 0 [])else if ws.getD 0 []=Ub then D6 (ws.drop 1) q.k (R.getD 0 [])else none)else none
def QA(K:PySem.W.Frag)(NB Cp:Addr):Sp:=λvs H Q E=>∃(a p:Addr) (ws:List (List Nat)) (rs:List (List Int)) (q:MP),vs=[.ref a,.ref p]/\Words H a ws/\2<=ws.length/\(∀t∈ws,t.length<=4190)/\jM Cp H (.ref p) rs q/\1<=q.k/\q.k<=6/\(q.kind=cg->((cB rs q).length:Int)=q.k)/\(q.kind≠cg->(cB rs q).length=1)/\(∀r∈cB rs q,r.length<=100/\∀x∈r,0<=x)/\
 (∀ss,jO ws q (cB rs q)=some ss->∀H' x,aw H H'->kq H' x ss->Q (.ref x) H')/\(jO ws q (cB rs q)=none->∀H',aw H H'->E (.ref NB) none H')
def X2:aC ["words","pool"] ["words","pool"] (ao K_):=by ac_nf
def aaP:Str.ofString "on"=S M8:=by decide+kernel
def VH:Str.ofString "box"=S zB:=by decide+kernel
def aaQ:Str.ofString "key"=S Ub:=by decide+kernel
def Ug(D:Def K mg "read_sets" K_ ["words","pool"])(T:Tx mg)(aN:CL P w K mg base "Pool" Cp ["self","name","kind","k","races","unit"] (cU Cp) ["name","kind","k","races","unit"])(uO:Ok P w K mg base (fT P w) 3 "read_on" ["words","pool"] (aaN K NB Cp))(rL:Ok P w K mg base (fT P w) 3 "read_box" ["words","pool"] (Qw K NB Cp))(rM:Ok P w K mg base (fT P w) 3 "read_key" ["words","pool"] (Qx K NB Cp))(aK:Ok P w K mg base (fT P w) 1 "require" ["holds"] (aD NB)):Ok P w K mg base (fT P w) 4 "read_sets" ["words","pool"] (QA K NB Cp):=by
 refine D.BL X2 (λvs H Q E h=>?_) (λf b8 A outer s H vs Q E hr h=>?_)
 .obtain⟨_,_,_,_,_,rfl,_⟩:=h;rfl
 .obtain⟨a,p,ws,rs,q,rfl,hw,w2,BK,hP,k1,k6,Y4,VG,AQ,kQ,kE⟩:=h;refine⟨_,(ag (cZ (bt cC (bz aL (pv 0) aq (λ_ _=>rfl)) bo (aG _)) (au (aI (ax (E:=E) uO (hr.mono ⋯) rfl (aX aH) (ae (iH kg (pv 0) (iA aq) pZ) (ae (pv 1) ai))))) bD) (ag (aS (ax (E:=E) aK (hr.mono ⋯) rfl (aX aH) (ae (J3 (aU cC (bu (pv 1) rfl) bo (aG _)) (iV (aU cC (bu (pv 1) rfl) bo (aG _)))) ai))) (ag (cZ (bt cC (bz aL (pv 0) aq (λ_ _=>rfl)) bo (aG _)) (au (aI (ax (E:=E) rL (hr.mono ⋯) rfl (aX aH) (ae (iH kg (pv 0) (iA aq) pZ) (ae (pv 1) ai))))) bD) (ag (aS (ax (E:=E) aK (hr.mono ⋯) rfl (aX aH) (ae (aU cC (bz aL (pv 0) aq (λ_ _=>rfl)) bo (aG _)) ai))) (au (aI (ax (E:=E) rM (hr.mono ⋯) rfl (aX aH) (ae (iH kg (pv 0) (iA aq) pZ) (ae (pv 1) ai))))))))),?_⟩;simp? only[bS,aD,n8,ow];have bP:jO ws q (cB rs q)=jO ws q (cB rs q):=rfl
  conv at bP=>rhs;unfold jO
  have g0:ws[0]?=some (ws.getD 0 []):=by
   rw[cQ,bg ()];rfl
  have q0:=hw.at g0;refine⟨_,aJ.of hw.1,_,q0.1,rfl,?_⟩;rw[aaP];simp only[V.str.injEq,cO];have X3:∀p1,H p1=none->Words (upd H p1 (.lst (lH (ws.map λw=>V.str (S w)) (some 1) none))) p1 (ws.drop 1):=λp1 _=>by
   refine⟨?_,?_,?_,λt ht=>hw.2.2.2 t (oq ht)⟩
   .rw[ak,show lH (ws.map λw=>V.str (S w)) (some 1) none=(ws.map λw=>V.str (S w)).drop 1 from qk _ 1,<-map_drop]
   .intro z;have:=bW List.length z;rw[dU]at this;simp at this;omega
   .rw[dU];have:=hw.2.2.1;omega
  have X4:∀t∈ws.drop 1,t.length<=4190:=λt ht=>BK t (oq ht);refine bj (λb=>?_) (λb=>?_)
  .rw[ah b]at bP;refine⟨_,aJ.of hw.1,λp1 La=>?_⟩;have s1:aw H (upd H p1 (.lst (lH (ws.map λw=>V.str (S w)) (some 1) none))):=aw.new La;exact⟨p1,p,ws.drop 1,rs,q,rfl,X3 p1 La,X4,hP.same s1,k1,k6,Y4,VG,AQ,λss es H' x s' hx=>kQ ss (by rw[bP,es]) H' x (s1.trans s') hx,λes H' s'=>kE (by rw[bP,es]) H' (s1.trans s')⟩
  rw[af b]at bP;have mix:(q.kind=dz\/q.kind=ji)->∃x,aJ K H a x/\∃x_3,NU x 0=some x_3/\CU x_3 (V.str (Str.ofString "box"))=true/\if x_3=V.str (Str.ofString "box")then∃x,aJ K H a x/\∀X5:Addr,H X5=none->Qw K NB Cp [V.ref X5,V.ref p] (upd H X5 (HO.lst (lH x (some 1) none))) Q E
    else∃x,aJ K H a x/\∃x_4,NU x 0=some x_4/\CU x_4 (V.str (Str.ofString "key"))=true/\if x_4=V.str (Str.ofString "key")then∃x,aJ K H a x/\∀X5:Addr,H X5=none->Qx K NB Cp [V.ref X5,V.ref p] (upd H X5 (HO.lst (lH x (some 1) none))) Q E else E (Value.ref NB) none H:=by
   intro c;rw[ah c]at bP;have iB:q.kind≠cg:=by
    obtain c|c:=c<;>rw[c] <;>decide
   have h1:=VG iB;have hI:(cB rs q)[0]?=some ((cB rs q).getD 0 []):=by
    rw[cQ,bg ()];rfl
   have il:=AQ _ (bh hI);refine⟨_,aJ.of hw.1,_,q0.1,rfl,?_⟩;rw[VH,aaQ];simp only[V.str.injEq,cO];refine bj (λd=>?_) (λd=>?_)
   .rw[ah d]at bP;refine⟨_,aJ.of hw.1,λp1 La=>?_⟩;have s1:aw H (upd H p1 (.lst (lH (ws.map λw=>V.str (S w)) (some 1) none))):=aw.new La;exact⟨p1,p,ws.drop 1,rs,q,rfl,X3 p1 La,X4,hP.same s1,_,hI,il.1,il.2,λss es H' x s' hx=>kQ ss (by rw[bP,es]) H' x (s1.trans s') hx,λes H' s'=>kE (by rw[bP,es]) H' (s1.trans s')⟩
   .rw[af d]at bP;refine⟨_,aJ.of hw.1,_,q0.1,rfl,?_⟩;simp only[V.str.injEq,cO];refine bj (λe=>?_) (λe=>kE (by rw[bP,af e]) H aw.rfl');rw[ah e]at bP;refine⟨_,aJ.of hw.1,λp1 La=>?_⟩;have s1:aw H (upd H p1 (.lst (lH (ws.map λw=>V.str (S w)) (some 1) none))):=aw.new La;exact⟨p1,p,ws.drop 1,rs,q,rfl,X3 p1 La,X4,hP.same s1,_,hI,il.1,il.2,λss es H' x s' hx=>kQ ss (by rw[bP,es]) H' x (s1.trans s') hx,λes H' s'=>kE (by rw[bP,es]) H' (s1.trans s')⟩
  obtain⟨pp,dx,Rr,e0,mq,YQ⟩:=hP;cases e0;refine⟨Cp,dx,_,mq,aN.cl,aN.no "kind" ∅,.str (S q.kind),rfl,rfl,?_⟩;rw[show Str.ofString "order"=S dz by decide+kernel];simp only[V.str.injEq,cO];refine bj (λc=>mix (.inl c)) (λc=>?_);refine⟨Cp,dx,_,mq,aN.cl,aN.no "kind" ∅,.str (S q.kind),rfl,rfl,?_⟩;rw[show Str.ofString "any"=S ji by decide+kernel];simp only[V.str.injEq,cO];refine bj (λd=>mix (.inr d)) (λd=>kE (by rw[bP,af (λz=>z.elim c d)]) H aw.rfl')
end
noncomputable abbrev zD:Stmt:=top 15
section
noncomputable def cW(n:Nat)(row:List Int):List Int:=((List.range n).map λ(i:Nat)=>(0:Int)+(i:Int)).filter λx=>!decide (x∈row)
noncomputable def iY(n:Nat)(places:List Int)(x:List Int×Int):List (List Int×Int):=(cW n x.1).zipIdx.filterMap λy=>if y.1∈places then some (x.1++ [y.1],x.2*(cW n x.1).length+(y.2:Nat))else none
noncomputable def jd(n:Nat)(rows:List (List Int×Int))(places:List Int):List (List Int×Int):=rows.flatMap (iY n places)
noncomputable def eG(n:Nat)(ss:List (List Int)):List (List Int×Int):=ss.foldl (jd n) [([],0)]
def A3(K:PySem.W.Frag)(H:Hp)(v:V)(x:List Int×Int):Prop:=∃t r,v=.ref t/\H t=some (.tup [.ref r,.int x.2])/\H r=some (.tup (x.1.map V.int))
def D7(K:PySem.W.Frag)(H:Hp)(L:Addr)(rows:List (List Int×Int)):Prop:=∃vs,H L=some (.lst vs)/\Paired (A3 K H) vs rows
def Lb(K:PySem.W.Frag):Sp:=λvs H Q _=>∃(S':Addr) (ss:List (List Int)) (n:Nat),vs=[.ref S',.int n]/\kq H S' ss/\ss.length<=4/\n<=24/\∀H' L,aw H H'->H L=none->D7 K H' L (eG n ss)->Q (.ref L) H'
def A3.same{x:List Int×Int}(h:A3 K H v x)(s:aw H H'):A3 K H' v x:=by
 obtain⟨t,r,e,h1,h2⟩:=h;exact⟨t,r,e,s _ _ h1,s _ _ h2⟩
theorem A3.upd{x:List Int×Int}{M:Addr}{l l2:List V}(h:A3 K H v x)(hM:H M=some (.lst l)):A3 K (upd H M (.lst l2)) v x:=by
 obtain⟨t,r,e,h1,h2⟩:=h;refine⟨t,r,e,?_,?_⟩
 .rw[aF (λz=>by rw[z,hM]at h1;cases h1)];exact h1
 .rw[aF (λz=>by rw[z,hM]at h2;cases h2)];exact h2
def Jl k row:cW (k+1) row=cW k row++(if((0:Int)+(k:Int))∉row then [(0:Int)+(k:Int)]else []):=by
 unfold cW;rw[range_succ,ed,sN];by_cases c:((0:Int)+(k:Int))∈row
 .simp at c;simp[c]
 .simp at c;simp[c]
def uP n row:(cW n row).length<=n:=by
 refine aW (kG _ _) ?_;simp
def zE n pl x:(iY n pl x).length<=n:=by
 refine aW (length_filterMap_le _ _) ?_;rw[length_zipIdx];exact uP n x.1
theorem D8{f:α->List β}{z:Nat}(h:∀x,(f x).length<=z):∀l:List α,(l.flatMap f).length<=l.length*z
 |[]=>by simp
 |x::l=>by
  rw[kI,dr,aY,Nat.succ_mul];have:=h x;have:=D8 h l;omega
def Jn n ss s:eG n (ss++ [s])=jd n (eG n ss) s:=by
 unfold eG;rw[sS];rfl
def uQ n (h:n<=24):∀ss:List (List Int),(eG n ss).length<=24^ss.length:=λss=>by
 have:∀(l:List (List Int))(rows:List (List Int×Int)),(l.foldl (jd n) rows).length<=rows.length*24^l.length:=by
  intro l
  induction l with
  |nil=>intro rows;simp
  |cons s l ih=>
   intro rows;rw[dW,aY];refine aW (ih _) ?_;have h1:=D8 (λx=>aW (zE n s x) h) rows;rw[j8,mI (24^l.length) 24,<-sJ];exact sr _ h1
 have:=this ss [([],0)];simpa[eG]using this
def Ng n:∀ss,∀x∈eG n ss,x.1.length=ss.length:=λss=>by
 have:∀(l:List (List Int))(rows:List (List Int×Int))(m:Nat),(∀x∈rows,x.1.length=m)->∀x∈l.foldl (jd n) rows,x.1.length=m+l.length:=by
  intro l
  induction l with
  |nil=>intro rows m h x hx;exact h x hx
  |cons s l ih=>
   intro rows m h x hx;rw[aY];have:=ih (jd n rows s) (m+1) (λy hy=>?_) x hx
   .omega
   .obtain⟨z,hz,hy⟩:=mem_flatMap.mp hy;obtain⟨u,hu,e⟩:=mem_filterMap.mp hy;split at e
    .cases e;rw[dr,h z hz];rfl
    .cases e
 intro x hx;have:=this ss [([],0)] 0 ∅ x hx;omega
def gN:aC ["sets","interests","rows","places","longer","row","number","free","lesser","place"] ["sets","interests"] (ao zD):=by ac_nf
def QB(D:Def K mg "numbered_rows" zD ["sets","interests"])(T:Tx mg):Ok P w K mg base eJ 1 "numbered_rows" ["sets","interests"] (Lb K):=by
 refine D.ok gN (λvs H Q E h=>?_) (λf b8 A outer s H vs Q E hr h=>?_)
 .obtain⟨_,_,_,rfl,_⟩:=h;rfl
 .obtain⟨S',ss,n,rfl,⟨as,hS,hp⟩,sl,VI,kQ⟩:=h;have hu:=yu hr;have hz:=cx;refine⟨_,(ag (aM (i:=2) gN.nd rfl (Or.inl rfl) (kN (ae (yh (ae (yh ai) (ae aq ai))) ai))) (ag (fS iS rfl (bY (pv 0)) (aT (i:=3) gN.nd rfl (Or.inl rfl)) (ag (aM (i:=4) gN.nd rfl (Or.inl rfl) (kN ai)) (ag (fS iS rfl (bY (pv 2)) (x8 (n:=2) rfl (cE (aT (i:=5) gN.nd rfl (Or.inr rfl)) (cE (aT (i:=6) gN.nd rfl (Or.inl rfl)) kc))) (ag (qf (own:=[("place",9)]) rfl gN.nd (i:=7) rfl rfl (tE rfl rfl rfl rfl) (Bj rfl T.gJ (ae (pv 1) ai)) (bL (N:=["sets","interests","rows","places","longer","row","number","free","lesser","place"]) (sc:=ao zD) (by decide+kernel)) (λ_ _ _ _ _=>aT (i:=9) gN.nd rfl (Or.inl rfl)) (λ_ _ _ _ _=>(tD (bt (qQ (K:=K) rfl) (pv 9) (pv 5) rfl))) (λ_ _ _ _ _=>(pv 9))) (au (fS iS rfl (S2 rfl T.f9 (ae (pv 7) ai)) (x8 (n:=2) rfl (cE (aT (i:=8) gN.nd rfl (Or.inl rfl)) (cE (aT (i:=9) gN.nd rfl (Or.inl rfl)) kc))) (au (cZ (bt ur (pv 9) (pv 3) rfl) (au (aS (Oz we PySem.F.slot_list_append PySem.F.type_list_append Mb (pv 4) (ae (yh (ae (bO T7 (pv 5) (yh (ae (pv 9) ai))) (ae (bO gm (bO rk (pv 6) (aB aA (by rfl) T.b_ bF (ae (pv 7) ai))) (pv 8)) ai))) ai)))) bD)))))) (au (aM (i:=2) gN.nd rfl (Or.inl rfl) (pv 4)))))) (au (aI (pv 2))))),?_⟩;simp? only[bS,ow];have WQ:=Paired.dQ hp;refine⟨by simp,λr0 hr0=>⟨by show 2<=_;omega,λt0 ht0=>⟨by omega,λL0 PJ=>?_⟩⟩⟩;have hrt:r0≠t0:=λz=>by rw[<-z,ak]at ht0;cases ht0
  have hrL:r0≠L0:=λz=>by rw[<-z,aF hrt,ak]at PJ;cases PJ
  have htL:t0≠L0:=λz=>by rw[<-z,ak]at PJ;cases PJ
  have s0:aw H (upd (upd (upd H r0 (.tup [])) t0 (.tup [.ref r0,.int 0])) L0 (.lst [.ref t0])):=((aw.new hr0).trans (aw.new ht0)).trans (aw.new PJ);have adN:H L0=none:=(aw.new hr0).free ((aw.new ht0).free PJ);have rw0:D7 K (upd (upd (upd H r0 (.tup [])) t0 (.tup [.ref r0,.int 0])) L0 (.lst [.ref t0])) L0 (eG n []):=⟨_,ak,.cons ⟨t0,r0,rfl,by rw[aF htL,ak],by rw[aF hrL,aF hrt,ak];rfl⟩ .nil⟩;generalize(upd (upd (upd H r0 (.tup [])) t0 (.tup [.ref r0,.int 0])) L0 (.lst [.ref t0]))=H0 at*;refine⟨S',rfl,⟨_,aJ.of (s0 _ _ hS)⟩,lE (K:=K) (a:=S') (xs:=as) (λi σ H'=>∃(L:Addr) (v3 v4 v5 v6 v7 v8 v9:Option V),σ=[some (.ref S'),some (.int n),some (.ref L),v3,v4,v5,v6,v7,v8,v9]/\aw H H'/\H L=none/\D7 K H' L (eG n (ss.take i)))
   ⟨L0,none,none,none,none,none,none,none,rfl,s0,adN,rw0⟩ (λi σ H' _ h=>by obtain⟨_,_,_,_,_,_,_,_,_,sm,_⟩:=h;exact aJ.of (sm _ _ hS)) ?_ ?_⟩
  .rintro i v σ H' hi ⟨L,v3,v4,v5,v6,v7,v8,v9,rfl,sm,nL,vs,hL,MV⟩;obtain⟨Dy,iz,pa,rfl,QC⟩:=Paired.at' hp hi;have adO:=sm _ _ QC;have WO:=Paired.dQ MV;have N0:ss.take (i+1)=ss.take i++ [Dy]:=bw iz;have hil:i<ss.length:=(List.getElem?_eq_some_iff.mp iz).1;have AQ:(eG n (ss.take i)).length<=24^3:=by
    refine aW (uQ n VI _) (su ⋯ ?_);rw[cS];omega
   have X6:∀x∈eG n (ss.take i),x.1.length<=4:=λx hx=>by
    rw[Ng n _ x hx,cS];omega
   generalize hRW:eG n (ss.take i)=rows at*;simp? only[bS,ow];refine⟨by omega,λM hM=>?_⟩;have hLM:L≠M:=λz=>by rw[<-z,hL]at hM;cases hM
   have nM0:H M=none:=sm.free hM;have sM:aw H' (upd H' M (.lst [])):=aw.new hM;refine⟨L,rfl,⟨_,aJ.of (sM _ _ hL)⟩,lE (K:=K) (a:=L) (xs:=vs) (λj σ H2=>∃v5 v6 v7 v8 v9:Option V,σ=[some (.ref S'),some (.int n),some (.ref L),some (.ref pa),some (.ref M),v5,v6,v7,v8,v9]/\aw H' H2/\∃acc,H2 M=some (.lst acc)/\Paired (A3 K H2) acc ((rows.take j).flatMap (iY n Dy)))
    ⟨_,_,_,_,_,rfl,sM,[],ak,by rw[take_zero];exact .nil⟩ (λj σ H2 _ h=>by obtain⟨_,_,_,_,_,_,s2,_⟩:=h;exact aJ.of (s2 _ _ hL)) ?_ ?_⟩
   .rintro j v σ H2 hj ⟨v5,v6,v7,v8,v9,rfl,s2,acc,oJ,QD⟩;obtain⟨x,hx,X7⟩:=Paired.at' MV hj;obtain⟨t,r,rfl,ht,hr⟩:=X7.same s2;have hxm:=X6 x (bh hx);have Av:rows.take (j+1)=rows.take j++ [x]:=bw hx;have Ue:=Paired.dQ QD;have haf:((rows.take j).flatMap (iY n Dy)).length<=24^3*24:=by
     refine aW (D8 (λx=>aW (zE n Dy x) VI) _) (sr _ ?_);rw[cS];exact aW (oo _ _) AQ
    generalize hFM:(rows.take j).flatMap (iY n Dy)=done at*;refine⟨t,_,rfl,.inl (.inl ht),rfl,_,_,rfl,_,_,rfl,rfl,?_⟩;simp? only[];refine⟨(n:Int),rfl,by omega,by omega,λD hD=>?_⟩;rw[gZ];have hDM:D≠M:=λz=>by rw[z,oJ]at hD;cases hD
    refine Ft (lo:=0) (n:=n) (λk H3=>aw H2 H3/\H3 D=some (.lst ((cW k x.1).map V.int))) ⟨aw.new hD,ak⟩ ?_ ?_
    .rintro k H3 hk ⟨s3,h3⟩;simp? only[Ox];refine⟨rfl,_,rfl,_,rfl,r,rfl,_,.inr (.inl (.inl (s3 _ _ hr))),rfl,by simp[gu],?_⟩;rw[md];have fs:=Jl k x.1;have fl:=uP k x.1;refine bj (λb=>?_) (λb=>?_)
     .rw[ah ‹b›]at fs;refine⟨_,rfl,_,h3,by rw[az];omega,s3.lV hD,?_⟩;rw[ak,fs,ed];rfl
     .rw[af ‹b›,jE]at fs;exact⟨s3,by rw[fs];exact h3⟩
    .rintro H3 ⟨s3,h3⟩;have sD:aw H' H3:=s2.trans s3;have aaR:=s3 _ _ oJ;have hfl:=uP n x.1;obtain⟨Pv,Y5⟩:∃Pv:Nat->L2.St->Hp->Prop,∀k σ H4,Pv k σ H4↔∃v8 v9:Option V,σ=[some (.ref S'),some (.int n),some (.ref L),some (.ref pa),some (.ref M),some (.ref r),some (.int x.2),some (.ref D),v8,v9]/\aw H' H4/\H4 D=some (.lst ((cW n x.1).map V.int))/\H4 r=some (.tup (x.1.map V.int))/\
       ∃acc,H4 M=some (.lst acc)/\Paired (A3 K H4) acc (done++((cW n x.1).zipIdx.take k).filterMap λy=>if y.1∈Dy then some (x.1++ [y.1],x.2*(cW n x.1).length+(y.2:Nat))else none):=⟨_,λ_ _ _=>Iff.rfl⟩
     refine⟨D,_,rfl,aJ.of h3,K6 (J:=Ite K D) (n:=(cW n x.1).length) Pv
      ((Y5 _ _ _).mpr ⟨_,_,rfl,sD,h3,s3 _ _ hr,acc,aaR,by rw[take_zero];simpa using Paired.fR QD λ_ _ z=>z.same s3⟩) (λk σ H4 hk h=>?_) ?_ ?_⟩
     .obtain⟨_,_,_,_,h5,_⟩:=(Y5 _ _ _).mp h;exact⟨_,_,aJ.of h5,bg ‹hk›⟩
     .rintro k v σ H4 H5 hk hh ⟨T',y,rfl,nT,rfl,hy⟩;obtain⟨v8',v9',rfl,s4,h4,Y6,QE,VJ,Y7⟩:=(Y5 _ _ _).mp hh;clear hh;have hy:=hy _ (aJ.of h4);have hfk:(cW n x.1)[k]?=some (cW n x.1)[k]:=bg hk;rw[a_,hfk]at hy;cases hy;have hzk:(cW n x.1).zipIdx[k]?=some ((cW n x.1)[k],k):=by
       rw[getElem?_zipIdx,hfk];simp
      have aaS:(cW n x.1).zipIdx.take (k+1)=(cW n x.1).zipIdx.take k++ [((cW n x.1)[k],k)]:=bw hzk;generalize(cW n x.1)[k]=pk at*;have sT:aw H4 (upd H4 T' (.tup [.int (k:Nat),.int pk])):=aw.new nT;refine⟨T',_,rfl,.inl (.inl ak),rfl,_,_,rfl,_,_,rfl,rfl,?_⟩;simp? only[Ox,Zx,Wv,Kc,VC];have adP:=sT _ _ (s4 _ _ adO);refine⟨_,.inl (aJ.of adP),rfl,by simp[gu],?_⟩;rw[md];have adQ:=Paired.dQ Y7;have W_:QE.length<sizeLine:=by
       rw[adQ,dr];have h1:=length_filterMap_le (λy:Int×Nat=>if y.1∈Dy then some (x.1++ [y.1],x.2*(cW n x.1).length+(y.2:Nat))else none) ((cW n x.1).zipIdx.take k);rw[cS,length_zipIdx]at h1;have h2:=oo k (cW n x.1).length;omega
      refine bj (λb=>?_) (λb=>?_)
      .have b:pk∈Dy:=by simpa using b
       have ef:([(pk,k)].filterMap λy:Int×Nat=>if y.1∈Dy then some (x.1++ [y.1],x.2*(cW n x.1).length+(y.2:Nat))else none)=[(x.1++ [pk],x.2*(cW n x.1).length+(k:Nat))]:=by simp[b]
       have hMT:=sT _ _ VJ;refine⟨(.inl ⟨rfl,_,aJ.of hMT⟩:YH K "list" (.ref M) _),by omega,λp1 La=>?_⟩;have s1:=aw.new (o:=HO.tup [V.int pk]) La;have hr5:=s1 _ _ (sT _ _ Y6);have hD5:=s1 _ _ (sT _ _ h4);have fin:∀(H6:Hp)(r6:Addr),aw H4 H6->H6 r6=some (.tup ((x.1++ [pk]).map V.int))->∃x_1:List V,(aJ K H6 D x_1\/jF K H6 D x_1)/\Oi x.2 ((x_1.length:Nat):Int)/\2<=sizeLine/\∀p7:Addr,H6 p7=none->∃x_2:List V,upd H6 p7 (HO.tup [V.ref r6,V.int (x.2*((x_1.length:Nat):Int)+((k:Nat):Int))]) M=some (HO.lst x_2)/\x_2.length<sizeLine/\
         Pv (k+1) [some (.ref S'),some (.int n),some (.ref L),some (.ref pa),some (.ref M),some (.ref r),some (.int x.2),some (.ref D),some (.int (k:Nat)),some (.int pk)] (upd (upd H6 p7 (HO.tup [V.ref r6,V.int (x.2*((x_1.length:Nat):Int)+((k:Nat):Int))])) M (HO.lst (x_2++ [V.ref p7]))):=by
        intro H6 r6 s6 h6;refine⟨_,.inl (aJ.of (s6 _ _ h4)),.inr ⟨by simp;omega,by simp;omega⟩,by omega,λp7 Y8=>?_⟩;rw[az];have s7:=aw.new (o:=HO.tup [V.ref r6,V.int (x.2*((cW n x.1).length:Nat)+((k:Nat):Int))]) Y8;have s47:=s6.trans s7;have hM7:=s47 _ _ VJ;have hrM:r≠M:=λz=>by rw[z,VJ]at Y6;cases Y6
        have hpM:p7≠M:=λz=>by rw[z,s6 _ _ VJ]at Y8;cases Y8
        have h6M:r6≠M:=λz=>by rw[z,s6 _ _ VJ]at h6;cases h6
        have h67:r6≠p7:=λz=>by rw[z,Y8]at h6;cases h6
        refine⟨QE,hM7,W_,(Y5 _ _ _).mpr ⟨_,_,rfl,(s4.trans s47).lV hM,?_,?_,_,ak,?_⟩⟩
        .rw[aF hDM];exact s47 _ _ h4
        .rw[aF hrM];exact s47 _ _ Y6
        .rw[aaS,filterMap_append,<-iR,ef];refine j9 (Paired.fR Y7 λ_ _ z=>(z.same s47).upd hM7) ⟨p7,r6,rfl,?_,?_⟩
         .rw[aF hpM,ak]
         .rw[aF h6M,aF h67];exact h6
       refine⟨_,.inl (.inl hr5),_,.inl (.inl ak),by simp,by simp;omega,λc=>?_,λc=>?_⟩
       .have c:x.1=[]:=by simpa using c
        exact fin _ p1 (sT.trans s1) (by rw[ak,c];rfl)
       .intro p8 hp8;exact fin _ p8 ((sT.trans s1).trans (aw.new hp8)) (by rw[ak,ed];rfl)
      .have b:¬pk∈Dy:=by simpa using b
       have ef:([(pk,k)].filterMap λy:Int×Nat=>if y.1∈Dy then some (x.1++ [y.1],x.2*(cW n x.1).length+(y.2:Nat))else none)=[]:=by simp[b]
       refine(Y5 _ _ _).mpr ⟨_,_,rfl,s4.trans sT,sT _ _ h4,sT _ _ Y6,QE,sT _ _ VJ,?_⟩;rw[aaS,filterMap_append,ef,jE];exact Paired.fR Y7 λ_ _ z=>z.same sT
     .intro σ H4 hh;obtain⟨v8',v9',rfl,s4,h4,Y6,QE,VJ,Y7⟩:=(Y5 _ _ _).mp hh;refine⟨⟨_,aJ.of h4,by simp⟩,⟨_,_,_,_,_,rfl⟩,s4,QE,VJ,?_⟩;rw[Av,flatMap_append,hFM];have e:((cW n x.1).zipIdx).take (cW n x.1).length=(cW n x.1).zipIdx:=qX ∅;rw[e]at Y7;simpa[iY]using Y7
   .rintro σ H2 ⟨v5,v6,v7,v8,v9,rfl,s2,acc,oJ,QD⟩;rw[WO,eM]at QD;refine⟨M,⟨_,_,_,_,_,_,_,rfl⟩,sm.trans s2,nM0,acc,oJ,?_⟩;rw[N0,Jn,hRW];exact QD
  .rintro σ H' ⟨L,v3,v4,v5,v6,v7,v8,v9,rfl,sm,nL,hRA⟩;rw[show as.length=ss.length from WQ,eM]at hRA;exact kQ H' L sm nL hRA
end
end Pd
end
section
namespace L2
open PySem PySem.Spec PyProof.Rows
def A4(hK:X.K=K):lF X (.builtin "len") (λxs H Q=>eL xs λp=>∃ys,(aJ K H p ys\/jF K H p ys)/\Q (.int (ys.length:Nat)) H):=by
 subst hK;exact aA
end L2
namespace Pd
open PySem PySem.Spec PyProof.Rows L2 TL
noncomputable abbrev GP:Stmt:=top 12
section
noncomputable def fK(ns:List Int)(x:List Int×List Int):List Int:=ns.flatMap λm=>x.1.map λp=>m*(x.2.length:Int)+p
noncomputable def og(l:List (List Int×List Int)):List Int:=l.foldl fK [0]
def QF(K:PySem.W.Frag):Sp:=λvs H Q _=>∃(S' R:Addr) (ss rs:List (List Int)),vs=[.ref S',.ref R]/\kq H S' ss/\kq H R rs/\ss.length=rs.length/\(∀s∈ss,s.length<=100)/\(∀r∈rs,r.length<=100)/\(∀i,(og ((ss.zip rs).take i)).length<=300000)/\∀H' L,aw H H'->H L=none->H' L=some (.lst ((og (ss.zip rs)).map V.int))->Q (.ref L) H'
def ng:aC ["sets","races","numbers","places","interests","longer","number","place"] ["sets","races"] (ao GP):=by ac_nf
def uR l x:og (l++ [x])=fK (og l) x:=by
 unfold og;rw[sS];rfl
def Uh(D:Def K mg "leg_numbers" GP ["sets","races"])(T:Tx mg):Ok P w K mg base eJ 1 "leg_numbers" ["sets","races"] (QF K):=by
 refine D.ok ng (λvs H Q E h=>?_) (λf b8 A outer s H vs Q E hr h=>?_)
 .obtain⟨_,_,_,_,rfl,_⟩:=h;rfl
 .obtain⟨S',R,ss,rs,rfl,⟨as,hS,DT⟩,⟨bs,hR,Gj⟩,hlen,sl,rl,lim,kQ⟩:=h;have hu:=yu hr;have hz:=cx;refine⟨_,(ag (aM (i:=2) ng.nd rfl (Or.inl rfl) (kN (ae aq ai))) (ag (fS iS rfl (OM rfl T.yR (ae (pv 0) (ae (pv 1) ai))) (x8 (n:=2) rfl (cE (aT (i:=3) ng.nd rfl (Or.inl rfl)) (cE (aT (i:=4) ng.nd rfl (Or.inr rfl)) kc))) (ag (aM (i:=5) ng.nd rfl (Or.inl rfl) (kN ai)) (ag (fS iS rfl (bY (pv 2)) (aT (i:=6) ng.nd rfl (Or.inr rfl)) (au (aS (Oz we PySem.F.slot_list_extend PySem.F.type_list_extend Md (pv 5) (ae (fU (own:=[("place",7)]) rfl ng.nd (bY (pv 3)) (bL (N:=["sets","races","numbers","places","interests","longer","number","place"]) (sc:=ao GP) (by decide+kernel)) (λ_ _ _ _ _=>aT (i:=7) ng.nd rfl (Or.inl rfl)) (λ_ _ _ _ _=>da) (λ_ _ _ _ _=>(bO gm (bO rk (pv 6) (aB (A4 (K:=K) rfl) (by rfl) T.b_ bF (ae (pv 4) ai))) (pv 7)))) ai))))) (au (aM (i:=2) ng.nd rfl (Or.inl rfl) (pv 5)))))) (au (aI (pv 2))))),?_⟩;simp? only[bS,ow];have Ue:=Paired.dQ DT;have hbl:=Paired.dQ Gj;refine⟨by omega,λL0 PJ=>?_⟩;have s0:=aw.new (o:=HO.lst [V.int 0]) PJ;refine⟨S',R,_,_,rfl,aJ.of (s0 _ _ hS),aJ.of (s0 _ _ hR),?_⟩;refine TQ (K:=K) (a:=S') (b:=R) (xs:=as) (ys:=bs) (λi σ H'=>∃(L:Addr) (v3 v4 v5 v6 v7:Option V),σ=[some (.ref S'),some (.ref R),some (.ref L),v3,v4,v5,v6,v7]/\aw H H'/\H L=none/\H' L=some (.lst ((og ((ss.zip rs).take i)).map V.int)))
   () ⟨L0,_,_,_,_,_,rfl,s0,PJ,by rw[ak];rfl⟩ (λi σ H' _ h=>?_) ?_ ?_
  .obtain⟨_,_,_,_,_,_,_,sm,_⟩:=h;exact⟨aJ.of (sm _ _ hS),aJ.of (sm _ _ hR)⟩
  .rintro i x y T' σ H' hx hy ⟨L,v3,v4,v5,v6,v7,rfl,sm,nL,hL⟩ nT;obtain⟨pl,iz,pa,rfl,QC⟩:=Paired.at' DT hx;obtain⟨rr,hrr,ra,rfl,vx⟩:=Paired.at' Gj hy;have Y2:(ss.zip rs)[i]?=some (pl,rr):=by rw[qV];exact⟨iz,hrr⟩
   have Av:(ss.zip rs).take (i+1)=(ss.zip rs).take i++ [(pl,rr)]:=bw Y2;have l1:=lim i;have l2:=lim (i+1);rw[Av,uR]at l2;have lp:=sl pl (bh iz);have lr:=rl rr (bh hrr);generalize hNS:og ((ss.zip rs).take i)=NS at*;have sT:aw H' (upd H' T' (.tup [.ref pa,.ref ra])):=aw.new nT;have hL5:=sT _ _ hL;have adR:=sT _ _ (sm _ _ QC);have adS:=sT _ _ (sm _ _ vx);have s5:=sm.trans sT;refine⟨T',_,rfl,.inl (.inl ak),rfl,_,_,rfl,_,_,rfl,rfl,?_⟩;generalize upd H' T' (.tup [.ref pa,.ref ra])=H5 at*;simp? only[ow];refine⟨by omega,λM hM=>?_⟩;have nM0:H M=none:=s5.free hM;have hLM:L≠M:=λz=>by rw[<-z,hL5]at hM;cases hM
   have sM:aw H5 (upd H5 M (.lst [])):=aw.new hM;refine⟨L,rfl,⟨_,aJ.of (sM _ _ hL5)⟩,lE (K:=K) (a:=L) (xs:=NS.map V.int) (λj σ H6=>∃v6 v7:Option V,σ=[some (.ref S'),some (.ref R),some (.ref L),some (.ref pa),some (.ref ra),some (.ref M),v6,v7]/\aw H5 H6/\H6 M=some (.lst ((fK (NS.take j) (pl,rr)).map V.int)))
    ⟨_,_,rfl,sM,by rw[ak];rfl⟩ (λj σ H6 _ h=>by obtain⟨_,_,_,s6,_⟩:=h;exact aJ.of (s6 _ _ hL5)) ?_ ?_⟩
   .rintro j v σ H6 hj ⟨v6',v7',rfl,s6,hM6⟩;rw[a_]at hj;cases em:NS[j]? with
    |none=>rw[em]at hj;cases hj
    |some m=>
    rw[em]at hj;cases hj;have htj:NS.take (j+1)=NS.take j++ [m]:=bw em;have pY:fK (NS.take (j+1)) (pl,rr)=fK (NS.take j) (pl,rr)++pl.map λp=>m*(rr.length:Int)+p:=by
     rw[htj];unfold fK;rw[flatMap_append];simp
    have hlm:(fK (NS.take (j+1)) (pl,rr)).length<=300000:=by
     refine aW ?_ l2;have:NS=NS.take (j+1)++NS.drop (j+1):=(sF _ _).symm
     conv=>rhs;rw[this]
     unfold fK;rw[flatMap_append,dr];omega
    rw[pY]at hlm;simp? only[Zx,Kd];refine⟨(.inl ⟨rfl,_,aJ.of hM6⟩:YH K "list" (.ref M) H6),?_⟩;have aaT:=s6 _ _ adR;have adT:=s6 _ _ adS;refine⟨pa,rfl,⟨_,aJ.of aaT⟩,λD hD=>?_⟩;refine fz (xs:=pl.map V.int) (λH v (z:Int)=>v=.int z) pl (λp=>some (m*(rr.length:Int)+p)) ∅ (by simp;omega) hD (aJ.of aaT) (λ_ _ _ _ _ e=>e) ?_ ?_
    .intro k x u H7 hx7 hu7 XB _ R k2;have e:x=.int u:=by
      rw[a_,hu7]at hx7;exact(Option.some.inj hx7).symm
     subst e;simp? only[];refine⟨_,.inl (aJ.of (XB _ _ adT)),.inr ⟨by simp;omega,by simp;omega⟩,?_⟩;exact k2 _ _ _ rfl aw.rfl' (by rw[az])
    .intro H7 ys zs XB iJ hm7 Y8;rw[cP]at hm7;cases hm7;have iJ:H7 D=some (.lst ((pl.map λp=>m*(rr.length:Int)+p).map V.int)):=by rw[iJ,fg Y8]
     have hM7:=XB _ _ hM6;refine⟨D,rfl,_,hM7,_,iJ,?_,⟨⟨_,rfl⟩,⟨_,rfl⟩⟩,(s6.trans XB).lV hM,?_⟩
     .rw[dr,az]at hlm;simp only[length_map];omega
     .rw[ak,pY,ed]
   .rintro σ H6 ⟨v6',v7',rfl,s6,hM6⟩;rw[az,eM]at hM6;refine⟨M,⟨_,_,_,_,_,rfl⟩,s5.trans s6,nM0,?_⟩;rw[Av,uR,hNS];exact hM6
  .rintro σ H' ⟨L,v3,v4,v5,v6,v7,rfl,sm,nL,hL⟩;rw[Ue,<-show(ss.zip rs).length=ss.length by rw[j_];omega,eM]at hL;exact kQ H' L sm nL hL
end
noncomputable abbrev Lc:Stmt:=top 16
section
noncomputable def D9(n rest:Nat)(lo pl:Int):Int:=((List.range (pl-lo).toNat).map λ(i:Nat)=>B3 ((n:Int)-(lo+(i:Int))-1) (rest:Int)).sum
noncomputable def jP(n:Nat):List Int->Int->Int->Int
 |[],_,num=>num|pl::r,lo,num=>jP n r (pl+1) (num+D9 n r.length lo pl)
def Jo(K:PySem.W.Frag):Sp:=λvs H Q _=>∃(r:Addr) (row:List Int) (n:Nat),vs=[.ref r,.int n]/\jF K H r (row.map V.int)/\row.length<=6/\n<=24/\(∀x∈row,0<=x/\x<n)/\row.Pairwise (·<·)/\∀H',aw H H'->Q (.int (jP n row 0 0)) H'
def nh:aC ["row","interests","number","lowest","at","place","rest","lesser"] ["row","interests"] (ao Lc):=by ac_nf
def Ui(D:Def K mg "set_number" Lc ["row","interests"])(T:Tx mg)(fA:Ok P w K mg base eJ 2 "count_sets" ["interests","k"] xB):Ok P w K mg base eJ 3 "set_number" ["row","interests"] (Jo K):=by
 refine D.ok nh (λvs H Q E h=>?_) (λf b8 A outer s H vs Q E hr h=>?_)
 .obtain⟨_,_,_,rfl,_⟩:=h;rfl
 .obtain⟨r,row,n,rfl,X8,rl,VI,mn,X9,kQ⟩:=h;have hz:=cx;refine⟨_,(ag (aM (i:=2) nh.nd rfl (Or.inl rfl) aq) (ag (aM (i:=3) nh.nd rfl (Or.inl rfl) aq) (ag (fS iS rfl (Qq rfl T.f9 (ae (pv 0) ai)) (x8 (n:=2) rfl (cE (aT (i:=4) nh.nd rfl (Or.inl rfl)) (cE (aT (i:=5) nh.nd rfl (Or.inl rfl)) kc))) (ag (aM (i:=6) nh.nd rfl (Or.inl rfl) (bO gn (bO gn (aB aA (by rfl) T.b_ bF (ae (pv 0) ai)) (pv 4)) aq)) (ag (fS iS rfl (Bk rfl T.gJ (ae (pv 3) (ae (pv 5) ai))) (aT (i:=7) nh.nd rfl (Or.inl rfl)) (au (x9 (i:=2) nh.nd rfl (Or.inl rfl) (ax fA (hr.mono ⋯) rfl cp (ae (bO gn (bO gn (pv 1) (pv 7)) aq) (ae (pv 6) ai))) Oe))) (au (aM (i:=3) nh.nd rfl (Or.inl rfl) (bO gm (pv 5) aq)))))) (au (aI (pv 2)))))),?_⟩;simp? only[bS,ow];refine⟨r,_,rfl,X8,K6 (J:=XT K r) (n:=row.length) (λk σ H'=>∃(v4 v5 v6 v7:Option V) (lo num:Int),σ=[some (.ref r),some (.int n),some (.int num),some (.int lo),v4,v5,v6,v7]/\aw H H'/\jP n (row.drop k) lo num=jP n row 0 0/\0<=lo/\∀x∈row.drop k,lo<=x)
   ⟨_,_,_,_,0,0,rfl,aw.rfl',rfl,Int.le_refl _,λx hx=>(mn x (oq hx)).1⟩ (λk σ H' hk h=>?_) ?_ ?_⟩
  .obtain⟨_,_,_,_,_,_,_,sm,_⟩:=h;exact⟨_,_,aw.tup sm X8,bg ‹hk›⟩
  .rintro k v σ H' Y1 hk ⟨v4,v5,v6,v7,lo,num,rfl,sm,hs,lo0,hlo⟩ ⟨T',y,rfl,nT,rfl,hy⟩;have hy:=hy _ (aw.tup sm X8);have hrk:row[k]?=some row[k]:=bg hk;rw[a_,hrk]at hy;cases hy;have hdr:row.drop k=row[k]::row.drop (k+1):=mv hk;have M7:=mn _ (pS hk);rw[hdr]at hs hlo;have aaU:(row.drop k).Pairwise (·<·):=X9.sublist (drop_sublist _ _);rw[hdr]at aaU;have hnx:∀x∈row.drop (k+1),row[k] +1<=x:=λx hx=>(pairwise_cons.mp aaU).1 x hx;have hlp:=hlo _ (bZ ..);have aaV:(((row.drop (k+1)).length:Nat):Int)=(row.length:Int)-(k:Int)-1:=by rw[dU];omega
   generalize row[k]=pl at*;have sT:aw H' (upd H' T' (.tup [.int (k:Nat),.int pl])):=aw.new nT;refine⟨T',_,rfl,.inl (.inl ak),rfl,_,_,rfl,_,_,rfl,rfl,?_⟩;have s5:=sm.trans sT;generalize upd H' T' (.tup [.int (k:Nat),.int pl])=H5 at*;simp? only[];refine⟨_,.inr (aw.tup s5 X8),?_⟩;rw[az,<-aaV];have aeu:(row.drop (k+1)).length<=6:=by rw[dU];omega
   generalize hRS:row.drop (k+1)=rest at*;refine⟨lo,pl,rfl,⟨by omega,by omega,by omega,by omega⟩,?_⟩;refine Bl (lo:=lo) (n:=(pl-lo).toNat) (λi σ H6=>∃v7:Option V,σ=[some (.ref r),some (.int n),some (.int (num+((List.range i).map λ(i:Nat)=>B3 ((n:Int)-(lo+(i:Int))-1) (rest.length:Int)).sum)),some (.int lo),some (.int (k:Nat)),some (.int pl),some (.int (rest.length:Nat)),v7]/\H6=H5)
    ⟨v7,by simp,rfl⟩ ?_ ?_
   .rintro i σ H6 hi ⟨v7',rfl,rfl⟩;simp? only[xB];refine⟨_,_,⟨rfl,rfl⟩,by omega,by omega,by omega,by omega,?_,_,rfl⟩;rw[range_succ,ed,sum_append];simp[Int.add_assoc]
   .rintro σ H6 ⟨v7',rfl,rfl⟩;simp? only[];exact⟨_,_,_,_,_,_,⟨rfl,rfl,rfl,rfl,rfl,rfl⟩,s5,hs,by omega,hnx⟩
  .rintro σ H' ⟨v4,v5,v6,v7,lo,num,rfl,sm,hs,lo0,hlo⟩;rw[drop_length]at hs;refine⟨⟨_,aw.tup sm X8,by simp⟩,?_⟩;rw[show num=jP n row 0 0 from hs];exact kQ H' sm
end
end Pd
end
section
namespace L2
open PySem PySem.Spec PyProof.Rows
def QG(hK:X.K=K):IxR X (SR K):=by
 subst hK;exact aL
end L2
namespace Pd
open PySem PySem.Spec PyProof.Rows L2 TL
noncomputable abbrev t5:Stmt:=top 48
noncomputable abbrev GQ:Stmt:=top 47
section
noncomputable def hasAll(row ps:List Int):Bool:=ps.all λp=>decide (p∈row)
def zF(K:PySem.W.Frag):Sp:=λvs H Q _=>∃(r a:Addr) (row ps:List Int),vs=[.ref r,.ref a]/\jF K H r (row.map V.int)/\aJ K H a (ps.map V.int)/\ps.length<=5000/\∀H',aw H H'->Q (.bl (hasAll row ps)) H'
def zG:aC ["row","places","place"] ["row","places"] (ao t5):=by ac_nf
def Nh(D:Def K mg "has_all" t5 ["row","places"])(T:Tx mg):Ok P w K mg base eJ 1 "has_all" ["row","places"] (zF K):=by
 refine D.ok zG (λvs H Q E h=>?_) (λf b8 A outer s H vs Q E hr h=>?_)
 .obtain⟨_,_,_,_,rfl,_⟩:=h;rfl
 .obtain⟨r,a,row,ps,rfl,X8,DT,pl,kQ⟩:=h;have hz:=cx;refine⟨_,(au (aI (aB (lP rfl) (by rfl) T.tL lY (ae (fU (own:=[("place",2)]) rfl zG.nd (bY (pv 1)) (bL (N:=["row","places","place"]) (sc:=ao t5) (by decide+kernel)) (λ_ _ _ _ _=>aT (i:=2) zG.nd rfl (Or.inl rfl)) (λ_ _ _ _ _=>da) (λ_ _ _ _ _=>(aU (zt (K:=K) rfl) (pv 2) (pv 0) rfl))) ai)))),?_⟩;simp? only[bS];refine⟨a,rfl,⟨_,DT⟩,λD hD=>?_⟩;refine fz (xs:=ps.map V.int) (λH v (b:Bool)=>v=.bl b) ps (λp=>some (decide (p∈row))) ∅ (by simp;omega) hD DT (λ_ _ _ _ _ e=>e) ?_ ?_
  .intro i x u H' hx hu sm _ R k2;have e:x=.int u:=by
    rw[a_,hu]at hx;exact(Option.some.inj hx).symm
   subst e;simp? only[bS,Ox];refine⟨_,.inr (aw.tup sm X8),rfl,by simp[gu],?_⟩;exact k2 _ _ _ rfl aw.rfl' (by rw[md])
  .intro H3 ys3 zs3 sm3 Jj NX Ql;rw[cP]at NX;cases NX;refine⟨D,rfl,_,aJ.of (by rw[Jj,fg Ql]),?_⟩;rw[List.all_map];exact kQ H3 sm3
noncomputable def jQ(fj:List Nat)(ss:List (List Int))(k n:Nat):List (List Int×Int):=if fj=M8 then eG n ss else if fj=zB then eG n (List.replicate k ss).flatten else(eG n (List.replicate k (ss.getD 0 [] ++ss.getD 1 []))).filter λx=>hasAll x.1 (ss.getD 0 [])
def QH(K:PySem.W.Frag):Sp:=λvs H Q _=>∃(fj:List Nat) (S':Addr) (ss:List (List Int)) (k n:Nat),vs=[.str (S fj),.ref S',.int k,.int n]/\kq H S' ss/\(∀s∈ss,s.length<=5000)/\k<=4/\n<=24/\(fj=M8->ss.length<=4)/\(fj=zB->ss.length=1)/\(fj≠M8->fj≠zB->ss.length=2)/\∀H' L,aw H H'->H L=none->D7 K H' L (jQ fj ss k n)->Q (.ref L) H'
def zH:aC ["form","sets","k","interests","rows","row","number"] ["form","sets","k","interests"] (ao GQ):=by ac_nf
def Uj(D:Def K mg "rows_of_form" GQ ["form","sets","k","interests"])(T:Tx mg)(d9:Ok P w K mg base eJ 1 "numbered_rows" ["sets","interests"] (Lb K))(uS:Ok P w K mg base eJ 1 "has_all" ["row","places"] (zF K)):Ok P w K mg base eJ 2 "rows_of_form" ["form","sets","k","interests"] (QH K):=by
 refine D.ok zH (λvs H Q E h=>?_) (λf b8 A outer s H vs Q E hr h=>?_)
 .obtain⟨_,_,_,_,_,rfl,_⟩:=h;rfl
 .obtain⟨fj,S',ss,k,n,rfl,hS,s21,k4,VI,h1,h2,h3,kQ⟩:=h;have hz:=cx;refine⟨_,(ag (cZ (bt cC (pv 0) bo (aG _)) (au (aI (ax d9 (hr.mono ⋯) rfl cp (ae (pv 1) (ae (pv 3) ai))))) bD) (ag (cZ (bt cC (pv 0) bo (aG _)) (au (aI (ax d9 (hr.mono ⋯) rfl cp (ae (bO HX (pv 1) (pv 2)) (ae (pv 3) ai))))) bD) (ag (aM (i:=4) zH.nd rfl (Or.inl rfl) (ax d9 (hr.mono ⋯) rfl cp (ae (bO HX (kN (ae (bO WM (bz aL (pv 1) aq (λ_ _=>rfl)) (bz aL (pv 1) aq (λ_ _=>rfl))) ai)) (pv 2)) (ae (pv 3) ai)))) (au (aI (fU (own:=[("row",5),("number",6)]) rfl zH.nd (bY (pv 4)) (bL (N:=["form","sets","k","interests","rows","row","number"]) (sc:=ao GQ) (by decide+kernel)) (λ_ _ _ _ _=>xE (K:=K) (n:=2) rfl rfl (cE (aT (i:=5) zH.nd rfl (Or.inl rfl)) (cE (aT (i:=6) zH.nd rfl (Or.inl rfl)) kc))) (λ_ _ _ _ _=>(tD (um (ax uS (hr.mono ⋯) rfl cp (ae (pv 5) (ae (bz (QG (K:=K) rfl) (pv 1) aq (λ_ _=>rfl)) ai)))))) (λ_ _ _ _ _=>(yh (ae (pv 5) (ae (pv 6) ai)))))))))),?_⟩;simp? only[bS,ow];rw[aaP,VH];simp only[cO];obtain⟨as,hA,QC⟩:=id hS;have Ue:=Paired.dQ QC;refine bj (λb=>?_) (λb=>?_)
  .exact⟨S',ss,n,rfl,hS,h1 b,VI,λH' L sm nL hr=>kQ H' L sm nL (by unfold jQ;rw[ah b];exact hr)⟩
  refine bj (λc=>?_) (λc=>?_)
  .have l1:=h2 c;refine⟨S',k,as,rfl,rfl,hA,by omega,by omega,by rw[Ue,l1,gZ];omega,λp hp=>?_⟩;rw[gZ];have s1:=aw.new (o:=HO.lst (List.replicate k as).flatten) hp;refine⟨p,(List.replicate k ss).flatten,n,rfl,⟨_,ak,Paired.fR (nc QC k) λ_ _ z=>z.same s1⟩,by rw[len_rep,l1];omega,VI,λH' L sm nL hr=>kQ H' L (s1.trans sm) (s1.free nL) ?_⟩;unfold jQ;rw[af b,ah c];exact hr
  .have l2:=h3 b c;have g0:ss[0]?=some (ss.getD 0 []):=by
    rw[cQ,bg ()];rfl
   have g1:ss[1]?=some (ss.getD 1 []):=by
    rw[cQ,bg ()];rfl
   obtain⟨v0,MM,a0,rfl,ha0⟩:=Paired.Hx QC g0;obtain⟨v1,hv1,a1,rfl,ha1⟩:=Paired.Hx QC g1;have m0:=s21 _ (bh g0);have m1:=s21 _ (bh g1);generalize hA0:ss.getD 0 []=A0 at*;generalize hA1:ss.getD 1 []=A1 at*;refine⟨_,aJ.of hA,_,dG (j:=0) MM,_,aJ.of hA,_,dG (j:=1) hv1,a0,a1,_,_,rfl,rfl,ha0,ha1,by rw[az,az];omega,λp1 La=>⟨by omega,λp2 MN=>?_⟩⟩;rw[<-ed]at MN⊢;have s1:=aw.new (o:=HO.lst ((A0++A1).map V.int)) La;have s2:=aw.new (o:=HO.lst [V.ref p1]) MN;refine⟨p2,k,[.ref p1],rfl,rfl,ak,by omega,by omega,by rw[gZ];simp;omega,λp3 Ql=>?_⟩;rw[gZ];have s3:=aw.new (o:=HO.lst (List.replicate k [V.ref p1]).flatten) Ql;have adU:=s3 _ _ (s2 _ _ (ak:(upd H p1 (.lst ((A0++A1).map V.int))) p1=_));have Uk:=(s1.trans s2).trans s3;have efl:(List.replicate k [A0++A1]).flatten=List.replicate k (A0++A1):=by simp
   refine⟨p3,List.replicate k (A0++A1),n,rfl,⟨_,ak,by rw[<-efl];exact nc (.cons ⟨p1,rfl,adU⟩ .nil) k⟩,by rw[jC];exact k4,VI,λH4 L sm nL hr=>?_⟩;have s14:=Uk.trans sm;have nL0:=Uk.free nL;have bP:jQ fj ss k n=(eG n (List.replicate k (A0++A1))).filter λx=>hasAll x.1 A0:=by
    unfold jQ;rw[af b,af c,hA0,hA1]
   have AQ:(eG n (List.replicate k (A0++A1))).length<=24^4:=by
    refine aW (uQ n VI _) (su ⋯ ?_);rw[jC];exact k4
   generalize eG n (List.replicate k (A0++A1))=rows at*;obtain⟨vs,hL,MV⟩:=hr;have WO:=Paired.dQ MV;refine⟨L,rfl,⟨_,aJ.of hL⟩,λD hD=>?_⟩;refine uM (n:=vs.length) (λi H'=>aw H4 H'/\∃ys,H' D=some (.lst ys)/\Paired (A3 K H') ys ((rows.take i).filter λx=>hasAll x.1 A0)) ⟨aw.new hD,[],ak,.nil⟩ (λi H' hi h=>⟨_,_,aJ.of (h.1 _ _ hL),bg hi⟩) ?_ ?_
   .rintro i v H' Y1 hi ⟨Aw,ys,iJ,RQ⟩ ⟨rfl,hx⟩;have hx:=hx _ (aJ.of (Aw _ _ hL));obtain⟨x,hxr,X7⟩:=Paired.at' MV hx;obtain⟨t,r,rfl,ht,AK⟩:=X7.same Aw;have Av:rows.take (i+1)=rows.take i++ [x]:=bw hxr;have hly:=Paired.dQ RQ;have aev:((rows.take i).filter λx=>hasAll x.1 A0).length<=24^4:=by
     refine aW (kG _ _) ?_;rw[cS];exact aW (oo _ _) AQ
    refine⟨t,_,rfl,.inl (.inl ht),rfl,_,_,rfl,_,_,rfl,rfl,?_⟩;simp? only[Wv,zF];have s1':=s14.trans Aw;refine⟨rfl,_,rfl,_,rfl,S',rfl,_,aJ.of (s1' _ _ hA),_,dG (j:=0) MM,r,a0,⟨rfl,rfl⟩,x.1,.inl (.inl AK),A0,aJ.of (s1' _ _ ha0),by omega,λH5 s5=>?_⟩;rw[Av,sN];have Jp:=s5 _ _ iJ;refine bj (λd=>?_) (λd=>?_)
    .rw[qZ (by exact d),filter_nil];refine⟨_,rfl,_,rfl,by omega,λp hp=>?_⟩;have s6:=aw.new (o:=HO.tup [V.ref r,V.int x.2]) hp;have aaW:=s6 _ _ Jp;have XA:p≠D:=λz=>by rw[z,Jp]at hp;cases hp
     have hrD:r≠D:=λz=>by rw[z,iJ]at AK;cases AK
     have hrp:r≠p:=λz=>by rw[<-z,s5 _ _ AK]at hp;cases hp
     refine⟨ys,aaW,by omega,((Aw.trans s5).trans s6).lV hD,_,ak,j9 (Paired.fR RQ λ_ _ z=>(z.same (s5.trans s6)).upd aaW) ⟨p,r,rfl,?_,?_⟩⟩
     .rw[aF XA,ak]
     .rw[aF hrD,aF hrp];exact s5 _ _ AK
    .rw[q_ (by exact d),filter_nil,jE];exact⟨Aw.trans s5,ys,Jp,Paired.fR RQ λ_ _ z=>z.same s5⟩
   .rintro H' ⟨Aw,ys,iJ,RQ⟩;rw[WO,eM]at RQ;exact⟨⟨_,aJ.of (Aw _ _ hL),aQ _⟩,kQ H' D (s14.trans Aw) (s14.free hD) ⟨ys,iJ,by rw[bP];exact RQ⟩⟩
end
end Pd
end
section
namespace L2
open PySem PySem.Spec PyProof.Rows
def A5(hK:X.K=K):lF X (.builtin "sorted") (λxs H Q=>eL xs λa=>∃ns:List Int,jF K H a (ns.map V.int)/\∀(lD:List Int) p,lD.Perm ns->lD.Pairwise (·<=·)->H p=none->Q (.ref p) (upd H p (.lst (lD.map V.int)))):=by
 subst hK;exact DZ
def zI(hK:X.K=K):lF X (.type "tuple") (λxs H Q=>eL xs λp=>∃ys,((aJ K H p ys/\∀l,H l=none->Q (.ref l) (upd H l (.tup ys)))\/(jF K H p ys/\Q (.ref p) H))):=by
 subst hK;exact AB
end L2
namespace Pd
open PySem PySem.Spec PyProof.Rows L2 TL
noncomputable abbrev zJ:Stmt:=top 46
section
def qR(k row:List Int):Prop:=k.Perm row/\k.Pairwise (·<=·)
def rN(q:MP)(fj:List Nat)(ss:List (List Int))(n:Nat)(nums:List Int):Prop:=if q.kind=ji then∃out:List (List Int),(∀k,k∈out↔∃x∈jQ fj ss q.k.toNat n,qR k x.1)/\out.Pairwise (λa b=>HT.lexLt a b=true)/\nums=out.map λr=>jP n r 0 0 else nums=(jQ fj ss q.k.toNat n).map (·.2)
def Ce(n m:Nat)(x:List Int):Prop:=x.Nodup/\(∀y∈x,0<=y/\y<n)/\x.length=m
def zK n ss:∀x∈eG n ss,Ce n ss.length x.1:=by
 have:∀(l:List (List Int))(rows:List (List Int×Int))(m:Nat),(∀x∈rows,Ce n m x.1)->∀x∈l.foldl (jd n) rows,Ce n (m+l.length) x.1:=by
  intro l
  induction l with
  |nil=>intro rows m h x hx;exact h x hx
  |cons s l ih=>
   intro rows m h x hx;rw[aY,show m+(l.length+1)=m+1+l.length by omega];refine ih (jd n rows s) (m+1) (λy hy=>?_) x hx;obtain⟨z,hz,hy⟩:=mem_flatMap.mp hy;obtain⟨u,hu,e⟩:=mem_filterMap.mp hy;split at e
   .cases e;obtain⟨a1,a2,a3⟩:=h z hz;have hm:=fst_mem_of_mem_zipIdx hu;obtain⟨b1,b2⟩:=mem_filter.mp hm;obtain⟨i,hi,e⟩:=mem_map.mp b1;have hi:=mem_range.mp hi;have b2:u.1∉z.1:=by simpa using b2
    refine⟨?_,λy hy=>?_,?_⟩
    .rw[sR];refine⟨a1,by simp,λa ha b hb z=>?_⟩;have hbu:b=u.1:=by simpa using hb
     rw[z,hbu]at ha;exact b2 ha
    .obtain z|z:=mem_append.mp hy
     .exact a2 y z
     .have:y=u.1:=by simpa using z
      omega
    .rw[dr,a3];rfl
   .cases e
 intro x hx;have h0:∀x∈ [(([]:List Int),(0:Int))],Ce n 0 x.1:=λx hx=>by
  have e:x=([],0):=‹hx›
  rw[e];exact⟨by simp,by simp,rfl⟩
 have h1:=this ss [([],0)] 0 h0 x hx;rw[iU]at h1;exact h1
noncomputable def zL:Nat->List Int->List (List Int)
 |0,_=>[[]]|_+1,[]=>[]
 |k+1,a::l=>(zL k l).map (a::·)++zL (k+1) l
def QI:∀{l r},r.Sublist l->r∈zL r.length l:=by
 intro l
 induction l with
 |nil=>intro r h;cases h;simp[zL]
 |cons a l ih=>
  intro r h;cases h with
  |cons _ h=>
   cases r with
   |nil=>simp[zL]
   |cons b r=>
    show b::r∈(zL r.length l).map (a::·)++zL (r.length+1) l;exact mz _ (ih h)
  |@cons_cons r' _ _ h=>
   show a::r'∈(zL r'.length l).map (a::·)++zL (r'.length+1) l;exact wL _ (mem_map.mpr ⟨r',ih h,rfl⟩)
theorem D_:∀{r l:List Int},r.Pairwise (·<·)->l.Pairwise (·<·)->(∀x∈r,x∈l)->r.Sublist l
 |[],l,_,_,_=>nil_sublist _|x::r,[],_,_,h=>absurd (h x ∅) ∅
 |x::r,y::l,hr,hl,h=>by
  obtain⟨a1,a2⟩:=pairwise_cons.mp hr;obtain⟨b1,b2⟩:=pairwise_cons.mp hl;by_cases c:x=y
  .subst c;refine List.Sublist.cons_cons _ (D_ a2 b2 λz hz=>?_);obtain q|q:=mem_cons.mp (h z (by simp[hz]))
   .have:=a1 z hz;omega
   .exact q
  .have hx:x∈l:=by
    obtain q|q:=mem_cons.mp (h x ∅)
    .exact absurd q c
    .exact q
   refine List.Sublist.cons _ (D_ hr b2 λz hz=>?_);obtain q|q:=mem_cons.mp (h z hz)
   .have h1:=b1 x hx;obtain q2|q2:=mem_cons.mp hz
    .omega
    .have:=a1 z q2;omega
   .exact q
noncomputable def r24:List Int:=(List.range 24).map λ(i:Nat)=>(i:Int)
def X_:r24.Pairwise (·<·):=by decide+kernel
theorem GR:∀{l m:List (List Int)},l.Nodup->(∀x∈l,x∈m)->l.length<=m.length
 |[],m,_,_=>cv _
 |x::l,m,nd,h=>by
  obtain⟨h1,h2⟩:=nodup_cons.mp nd;have hx:=h x ∅;have:=GR (l:=l) h2 λy hy=>by
   have iB:y≠x:=λe=>h1 (e▸hy);exact(wO iB).mpr (h y (by simp[hy]))
  rw[qY hx]at this;have:=wF hx;rw[aY];omega
def few{n m:Nat}(hn:n<=24)(hm:m<=3)(nd:ks.Nodup)(h:∀k∈ks,k.Pairwise (·<·)/\(∀y∈k,0<=y/\y<n)/\k.length=m):ks.length<2100:=by
 have hs:∀k∈ks,k∈zL m r24:=λk hk=>by
  obtain⟨a1,a2,a3⟩:=h k hk;rw[<-a3];refine QI (D_ a1 X_ λy hy=>?_);have:=a2 y hy;exact mem_map.mpr ⟨y.toNat,mem_range.mpr (),by omega⟩
 have h1:=GR nd hs;have h2:∀m:Fin 4,(zL m.val r24).length<2100:=by decide+kernel
 have h3:=h2 ⟨m,by omega⟩;exact sx h1 h3
theorem qR.ok{k x:List Int}(h:qR k x)(r:Ce n m x):k.Pairwise (·<·)/\(∀y∈k,0<=y/\y<n)/\k.length=m:=by
 obtain⟨h1,h2⟩:=h;obtain⟨r1,r2,r3⟩:=r;refine⟨?_,λy hy=>r2 y (h1.mem_iff.mp hy),by rw[h1.length_eq];exact r3⟩;refine List.Pairwise.imp_of_mem ?_ (h2.and (h1.nodup_iff.mpr r1));omega
def qR.eq{k m x:List Int}(h:qR k x)(h2:qR m x):k=m:=by
 have p:=h.1.trans h2.1.symm;exact p.eq_of_pairwise (λa b _ _ h1 h2=>Int.le_antisymm h1 h2) h.2 h2.2
theorem Ld:∀a:List Int,HT.lexLt a a=false
 |[]=>rfl
 |x::a=>by
  rw[HT.hG,ah rfl];exact Ld a
def QJ(K:PySem.W.Frag)(Cp:Addr):Sp:=λvs H Q _=>∃(fj:List Nat) (S' p:Addr) (ss rs:List (List Int)) (q:MP) (I:List Int),vs=[.str (S fj),.ref S',.ref p]/\kq H S' ss/\jM Cp H (.ref p) rs q/\(cB rs q)[0]?=some I/\I.length<=24/\0<=q.k/\q.k<=4/\(q.kind=ji->1<=q.k/\q.k<=3)/\(∀s∈ss,s.length<=5000)/\(fj=M8->ss.length<=4)/\(fj=zB->ss.length=1)/\(fj≠M8->fj≠zB->ss.length=2)/\(q.kind=ji->fj=M8->(ss.length:Int)=q.k)/\
 ∀nums H' L,rN q fj ss I.length nums->nums.length<=400000->aw H H'->H L=none->H' L=some (.lst (nums.map V.int))->Q (.ref L) H'
def iZ:aC ["form","sets","pool","interests","rows","risen","row","number"] ["form","sets","pool"] (ao zJ):=by ac_nf
def Ul(D:Def K mg "numbers_of_race" zJ ["form","sets","pool"])(T:Tx mg)(aN:CL P w K mg base "Pool" Cp ["self","name","kind","k","races","unit"] (cU Cp) ["name","kind","k","races","unit"])(jR:Ok P w K mg base eJ 2 "rows_of_form" ["form","sets","k","interests"] (QH K))(ni:Ok P w K mg base eJ 3 "set_number" ["row","interests"] (Jo K)):Ok P w K mg base eJ 4 "numbers_of_race" ["form","sets","pool"] (QJ K Cp):=by
 refine D.ok iZ (λvs H Q E h=>?_) (λf b8 A outer s H vs Q E hr h=>?_)
 .obtain⟨_,_,_,_,_,_,_,rfl,_⟩:=h;rfl
 .obtain⟨fj,S',p,ss,rs,q,I,rfl,hS,hP,hI,il,k0,k4,ka,s21,h1,h2,h3,h4,kQ⟩:=h;have hz:=cx;have adV:=T_ hr;refine⟨_,(ag (aM (i:=3) iZ.nd rfl (Or.inr rfl) (aB aA (by rfl) T.b_ bF (ae (bz aL (bu (pv 2) rfl) aq (λ_ _=>rfl)) ai))) (ag (aM (i:=4) iZ.nd rfl (Or.inl rfl) (ax jR (hr.mono ⋯) rfl cp (ae (pv 0) (ae (pv 1) (ae (bu (pv 2) rfl) (ae (pv 3) ai)))))) (ag (cZ (bt Bm (bu (pv 2) rfl) bo (aG _)) (au (aI (fU (own:=[("row",6),("number",7)]) rfl iZ.nd (bY (pv 4)) (bL (N:=["form","sets","pool","interests","rows","risen","row","number"]) (sc:=ao zJ) (by decide+kernel)) (λ_ _ _ _ _=>xE (K:=K) (n:=2) rfl rfl (cE (aT (i:=6) iZ.nd rfl (Or.inl rfl)) (cE (aT (i:=7) iZ.nd rfl (Or.inl rfl)) kc))) (λ_ _ _ _ _=>da) (λ_ _ _ _ _=>(pv 7))))) bD) (ag (aM (i:=5) iZ.nd rfl (Or.inl rfl) (XS adV rfl (by rfl) T.jL (by rfl) T.BX (ae (fU (own:=[("row",6),("number",7)]) rfl iZ.nd (bY (pv 4)) (bL (N:=["form","sets","pool","interests","rows","risen","row","number"]) (sc:=ao zJ) (by decide+kernel)) (λ_ _ _ _ _=>xE (K:=K) (n:=2) rfl rfl (cE (aT (i:=6) iZ.nd rfl (Or.inl rfl)) (cE (aT (i:=7) iZ.nd rfl (Or.inl rfl)) kc))) (λ_ _ _ _ _=>da) (λ_ _ _ _ _=>(Bv (zI (K:=K) rfl) (by rfl) T.tM GJ (ae (aB (A5 (K:=K) rfl) (by rfl) T.jL boot_sorted (ae (pv 6) ai)) ai)))) ai))) (au (aI (fU (own:=[("row",6)]) rfl iZ.nd (bY (pv 5)) (bL (N:=["form","sets","pool","interests","rows","risen","row","number"]) (sc:=ao zJ) (by decide+kernel)) (λ_ _ _ _ _=>aT (i:=6) iZ.nd rfl (Or.inl rfl)) (λ_ _ _ _ _=>da) (λ_ _ _ _ _=>(ax ni (hr.mono ⋯) rfl cp (ae (pv 6) (ae (pv 3) ai))))))))))),?_⟩;simp? only[bS,ow,n8];obtain⟨pp,dx,Rr,e0,mq,as,hR,vx⟩:=hP;cases e0;obtain⟨v0,MM,ia,rfl,VF⟩:=Paired.Hx vx hI;refine⟨Cp,dx,_,mq,aN.cl,aN.no "races" ∅,_,rfl,Rr,rfl,_,aJ.of hR,_,dG (j:=0) MM,ia,rfl,_,.inl (aJ.of VF),Cp,dx,_,mq,aN.cl,aN.no "k" ∅,_,rfl,?_⟩;rw[az];have ek:((q.k.toNat:Nat):Int)=q.k:=by omega
  refine⟨fj,S',ss,q.k.toNat,I.length,by rw[ek],hS,s21,by omega,il,h1,h2,h3,λH1 L s1 nL aaX=>?_⟩;obtain⟨vs,hL,MV⟩:=aaX;have WO:=Paired.dQ MV;generalize hn:I.length=n at*;have AQ:(jQ fj ss q.k.toNat n).length<=24^4:=by
   have:∀l:List (List Int),l.length<=4->(eG n l).length<=24^4:=λl hl=>aW (uQ n il l) (su ⋯ hl);unfold jQ;split
   .exact this _ (h1 (by assumption))
   .split
    .rename_i c;exact this _ (by rw[len_rep,h2 c];omega)
    .exact aW (kG _ _) (this _ (by rw[jC];omega))
  have bQ:q.kind=ji->∀x∈jQ fj ss q.k.toNat n,Ce n q.k.toNat x.1:=λhk x hx=>by
   unfold jQ at hx;split at hx
   .rename_i c;have:=zK n ss x hx;have e:ss.length=q.k.toNat:=by
     have:=h4 hk c;omega
    rw[e]at this;exact this
   .split at hx
    .rename_i c;have:=zK n _ x hx;rw[len_rep,h2 c,wW]at this;exact this
    .have:=zK n _ x (mem_filter.mp hx).1;rw[jC]at this;exact this
  have bP:∀nums,rN q fj ss n nums↔rN q fj ss n nums:=λ_=>Iff.rfl
  conv at bP=>ext nums;rhs;unfold rN
  generalize jQ fj ss q.k.toNat n=rows at*;refine⟨Cp,dx,_,s1 _ _ mq,aN.cl,aN.no "kind" ∅,.str (S q.kind),rfl,rfl,?_⟩;rw[show Str.ofString "any"=S ji by decide+kernel];simp only[V.str.injEq,cO];refine bj (λc=>?_) (λc=>?_)
  .refine⟨L,rfl,⟨_,aJ.of hL⟩,λD hD=>?_⟩;refine uM (n:=vs.length) (λi H'=>aw H1 H'/\H' D=some (.lst (((rows.take i).map (·.2)).map V.int))) ⟨aw.new hD,ak⟩ (λi H' hi h=>⟨_,_,aJ.of (h.1 _ _ hL),bg hi⟩) ?_ ?_
   .rintro i v H' Y1 hi ⟨Aw,iJ⟩ ⟨rfl,hx⟩;have hx:=hx _ (aJ.of (Aw _ _ hL));obtain⟨x,hxr,X7⟩:=Paired.at' MV hx;obtain⟨t,r,rfl,ht,AK⟩:=X7.same Aw;have Av:rows.take (i+1)=rows.take i++ [x]:=bw hxr;refine⟨t,_,rfl,.inl (.inl ht),rfl,_,_,rfl,_,_,rfl,rfl,?_⟩;simp? only[Fs];refine⟨rfl,_,rfl,_,iJ,?_,Aw.lV hD,?_⟩
    .rw[az,az,cS];have:=oo i rows.length;omega
    .rw[ak,Av,ed,ed];rfl
   .rintro H' ⟨Aw,iJ⟩;rw[WO,eM]at iJ;exact⟨⟨_,aJ.of (Aw _ _ hL),aQ _⟩,kQ _ H' D ((bP _).mpr (by rw[af c])) (by rw[az];omega) (s1.trans Aw) (s1.free hD) iJ⟩
  .have hk:q.kind=ji:=by simpa using c
   have bQ:=bQ hk;have hk3:=ka hk;simp? only[aaL];refine⟨L,rfl,⟨_,aJ.of hL⟩,λD hD=>?_⟩;refine uM (n:=vs.length) (λi H'=>aw H1 H'/\∃xs:List (Addr×List Int),H' D=some (.lst (xs.map λx=>V.ref x.1))/\Paired (λ(y:Addr×List Int)(x:List Int×Int)=>H' y.1=some (.tup (y.2.map V.int))/\qR y.2 x.1) xs (rows.take i)) ⟨aw.new hD,[],ak,.nil⟩ (λi H' hi h=>⟨_,_,aJ.of (h.1 _ _ hL),bg hi⟩) ?_ ?_
   .rintro i v H' Y1 hi ⟨Aw,xs,iJ,Ya⟩ ⟨rfl,hx⟩;have hx:=hx _ (aJ.of (Aw _ _ hL));obtain⟨x,hxr,X7⟩:=Paired.at' MV hx;obtain⟨t,r,rfl,ht,AK⟩:=X7.same Aw;have Av:rows.take (i+1)=rows.take i++ [x]:=bw hxr;have hlx:=Paired.dQ Ya;refine⟨t,_,rfl,.inl (.inl ht),rfl,_,_,rfl,_,_,rfl,rfl,?_⟩;simp? only[Fs];refine⟨rfl,_,rfl,r,rfl,x.1,.inl (.inl AK),λlD p9 pm up hp9=>⟨_,.inl ⟨aJ.of ak,λl hl=>?_⟩⟩⟩;have s9:=aw.new (o:=HO.lst (List.map V.int lD)) hp9;have s10:=aw.new (o:=HO.tup (List.map V.int lD)) hl;have Yb:=s9.trans s10;have aaY:=Yb _ _ iJ;have hlD:l≠D:=λz=>by rw[z,s9 _ _ iJ]at hl;cases hl
    refine⟨_,aaY,?_,(Aw.trans Yb).lV hD,xs++ [(l,lD)],by rw[ak,ed];rfl,?_⟩
    .rw[az,hlx,cS];have:=oo i rows.length;omega
    .rw[Av];refine j9 (Paired.fR Ya λy x' Wq=>?_) ⟨by rw[aF hlD,ak],pm,up⟩;obtain⟨a1,a2⟩:=Wq;refine⟨?_,a2⟩;rw[aF (λz=>by rw[z,iJ]at a1;cases a1)];exact Yb _ _ a1
   .rintro H' ⟨Aw,xs,iJ,Ya⟩;rw[WO,eM]at Ya;refine⟨⟨_,aJ.of (Aw _ _ hL),aQ _⟩,?_⟩;have hkx:∀k,k∈xs.map (·.2)↔∃x∈rows,qR k x.1:=λk=>by
     constructor
     .intro hm;obtain⟨y,hy,rfl⟩:=mem_map.mp hm;obtain⟨i,hi⟩:=mem_iff_getElem?.mp hy;obtain⟨x,hx,_,h5⟩:=Paired.at' Ya hi;exact⟨x,bh hx,h5⟩
     .rintro⟨x,hx,h5⟩;obtain⟨i,hi⟩:=mem_iff_getElem?.mp hx;obtain⟨y,hy,_,h6⟩:=Paired.Hx Ya hi;have e:k=y.2:=h5.eq h6;rw[e];exact mem_map.mpr ⟨y,bh hy,rfl⟩
    have hko:∀k∈xs.map (·.2),k.Pairwise (·<·)/\(∀y∈k,(0:Int)<=y/\y<(n:Int))/\k.length=q.k.toNat:=λk sf=>by
     obtain⟨x,hx,h5⟩:=(hkx k).mp sf;exact h5.ok (bQ x hx)
    refine⟨D,rfl,xs,aJ.of iJ,λy hy=>?_,λks nd hks=>few (m:=q.k.toNat) il () nd λk sf=>hko k (hks k sf),λout p9 MY mem up hp9=>?_⟩
    .obtain⟨i,hi⟩:=mem_iff_getElem?.mp hy;obtain⟨x,hx,h6,h5⟩:=Paired.at' Ya hi;refine⟨.inl (.inl h6),λz=>?_⟩;have:=(hko y.2 (mem_map.mpr ⟨y,hy,rfl⟩)).2.2;rw[z]at this;simp at this;omega
    .have s9:=aw.new (o:=HO.lst (List.map (λx=>V.ref x.1) out)) hp9;have s19:=(s1.trans Aw).trans s9;have Vz:out.length<2100:=by
      have nd:(out.map (·.2)).Nodup:=up.imp λh e=>by rw[e,Ld]at h;cases h
      have:=few (m:=q.k.toNat) il () nd λk sf=>hko k ((mem k).mp sf);rw[az]at this;exact this
     refine⟨p9,rfl,⟨_,aJ.of ak⟩,λD2 TH=>?_⟩;refine fz (xs:=out.map λx=>V.ref x.1) (λH v (z:Int)=>v=.int z) out (λx=>some (jP n x.2 0 0)) ∅ (by simp;omega) TH (aJ.of ak) (λ_ _ _ _ _ e=>e) ?_ ?_
     .intro i x u H5 hx hu sm5 _ R k2;have e:x=.ref u.1:=by
       rw[a_,hu]at hx;exact(Option.some.inj hx).symm
      subst e;have hum:=bh hu;obtain⟨o1,o2,o3⟩:=hko u.2 ((mem _).mp (mem_map.mpr ⟨u,hum,rfl⟩));simp? only[Jo];exact⟨u.1,u.2,n,⟨rfl,rfl⟩,aw.tup (s9.trans sm5) (MY u hum),by omega,il,o2,o1,λH6 s6=>k2 _ _ _ rfl s6 rfl⟩
     .intro H5 ys zs sm5 Jp hm5 hp5;rw[cP]at hm5;cases hm5;have Jp:H5 D2=some (.lst ((out.map λx=>jP n x.2 0 0).map V.int)):=by rw[Jp,fg hp5]
      refine kQ _ H5 D2 ((bP _).mpr ?_) (by rw[az];omega) (s19.trans sm5) (s19.free TH) Jp;rw[ah hk];refine⟨out.map (·.2),λk=>(mem k).trans (hkx k),up,?_⟩;rw[ck];rfl
end
noncomputable abbrev me:Stmt:=inClass (top 35) 0
noncomputable abbrev Le:Stmt:=top 37
section
variable {Cb:Addr}
noncomputable def aaZ(vp vst vss vn:V):List (Str×V):=[("pool",vp),("stake",vst),("sets",vss),("numbers",vn)]
def jt(Cb:Addr):Sp:=λvs H Q _=>∃(p dx:Addr) (vp vst vss vn:V),vs=[.ref p,vp,vst,vss,vn]/\H p=some (.ins Cb dx [])/\∀H',H' p=some (.ins Cb dx (aaZ vp vst vss vn))->(∀b o,H b=some o->b≠p->H' b=some o)->Q .cT H'
def Ni:aC ["self","pool","stake","sets","numbers"] ["self","pool","stake","sets","numbers"] (ao me):=by ac_nf
def Jq(F:Ko K "__init__" "Bet.__init__" me f fd)(C:Fh K Cb)(n1:cD K Cb "pool")(n2:cD K Cb "stake")(n3:cD K Cb "sets")(n4:cD K Cb "numbers"):
  n9 P w K mg base eJ 1 f fd ["self","pool","stake","sets","numbers"] (jt Cb):=by
 refine F.ok Ni (λvs H Q E h=>?_) (λb8 A outer s H vs Q E hr h=>?_)
 .obtain⟨_,_,_,_,_,_,rfl,_⟩:=h;rfl
 .obtain⟨p,dx,vp,vst,vss,vn,rfl,hp,k⟩:=h;refine⟨_,(ag (iW (pv 0) (pv 1) rfl) (ag (iW (pv 0) (pv 2) rfl) (ag (iW (pv 0) (pv 3) rfl) (au (iW (pv 0) (pv 4) rfl))))),?_⟩;refine⟨p,Cb,dx,[],rfl,hp,C,n1,⋯,?_⟩;refine⟨p,Cb,dx,_,rfl,ak,C,n2,IH,?_⟩;rw[iy];refine⟨p,Cb,dx,_,rfl,ak,C,n3,II,?_⟩;rw[iy];refine⟨p,Cb,dx,_,rfl,ak,C,n4,PK,?_⟩;rw[iy];refine k _ ?_ λb o e hb=>by rw[aF hb];exact e
  rw[ak];rfl
noncomputable def Um:List Nat:=[98,101,116]
noncomputable def Uo:List Nat:=[102,111,114]
def jS(codes:List Nat)(rs:List (List Int))(ps:List MP)(r:Option (MP×Int×List (List Int)×Option (List Int))):Prop:=
 match iX codes with
 |some [ws]=>if 6<=ws.length/\ws.getD 0 []=Um/\ws.getD 2 []=Uo then(match ps.filter (λq=>decide (q.name=ws.getD 1 []))with
  |[q]=>match oS (ws.getD 3 []) q.u with
   |none=>r=none
   |some st=>match jO (ws.drop 4) q (cB rs q)with
    |none=>r=none
    |some ss=>if q.kind=cg then(if 0<jc ss/\st*jc ss<=2147483647 then r=some (q,st,ss,if jc ss<=262144 then some (og (ss.zip (cB rs q)))else none)else r=none)
     else∃nums,rN q (ws.getD 4 []) ss ((cB rs q).getD 0 []).length nums/\(if 0<(nums.length:Int)/\st*(nums.length:Int)<=2147483647 then r=some (q,st,ss,some nums)else r=none)
  |_=>r=none)else r=none
 |_=>r=none
def zM(K:PySem.W.Frag)(Cp Cb:Addr)(H:Hp)(v:V)(rs:List (List Int))(r:MP×Int×List (List Int)×Option (List Int)):Prop:=∃b dx p S' vn,v=.ref b/\H b=some (.ins Cb dx (aaZ (.ref p) (.int r.2.1) (.ref S') vn))/\jM Cp H (.ref p) rs r.1/\kq H S' r.2.2.1/\
 (match r.2.2.2 with
 |none=>vn=.cT|some nums=>∃L,vn=.ref L/\H L=some (.lst (nums.map V.int))/\nums.length<=400000)
theorem zM.same{r:MP×Int×List (List Int)×Option (List Int)}(h:zM K Cp Cb H v rs r)(s:aw H H'):zM K Cp Cb H' v rs r:=by
 obtain⟨b,dx,p,S',vn,e,h1,h2,h3,h4⟩:=h;refine⟨b,dx,p,S',vn,e,s _ _ h1,h2.same s,nV.same h3 s,?_⟩;obtain⟨_,_,_,o⟩:=r;cases o with
 |none=>exact h4
 |some nums=>
  obtain⟨L,e,h,hl⟩:=h4;exact⟨L,e,s _ _ h,hl⟩
structure Uq(rs:List (List Int))(q:MP):Prop where
 HD:MA rs q
 u:0<q.u/\q.u<=10000
 nl:q.kind≠cg->q.k<=4
 any:q.kind=ji->2<=q.k/\q.k<=3
def jS.mem{ps:List MP}{r:MP×Int×List (List Int)×Option (List Int)}(h:jS codes rs ps (some r)):r.1∈ps:=by
 unfold jS at h;split at h
 .split at h
  .split at h
   .rename_i q hq;have hm:=(mem_filter.mp (by rw[hq];simp:q∈ps.filter _)).1;split at h
    .cases h
    .split at h
     .cases h
     .split at h
      .split at h
       .cases h;exact hm
       .cases h
      .obtain⟨_,_,h⟩:=h;split at h
       .cases h;exact hm
       .cases h
   .cases h
  .cases h
 .cases h
theorem t6:∀{l acc}{w},w∈cut c acc l->w.length<=acc.length+l.length
 |[],acc,w,h=>by
  have:w=acc:=by simpa[cut]using h
  rw[this];simp
 |x::r,acc,w,h=>by
  unfold cut at h;split at h
  .obtain z|z:=mem_cons.mp h
   .rw[z];omega
   .have:=t6 z;simp at this⊢;omega
  .have:=t6 h;simp at this⊢;omega
def Nj(h:iX codes=some [ws]):∀t∈ws,t.length<=codes.length:=λt ht=>by
 unfold iX at h;split at h
 .have h:=Option.some.inj h;have hm:ws∈(cut 10 [] codes).dropLast.map (cut 32 []):=by rw[h];simp
  obtain⟨l,hl,rfl⟩:=mem_map.mp hm;have h1:=t6 ht;have h2:=t6 ((dropLast_sublist _).subset hl);simp at h1 h2;omega
 .cases h
def GU(h:MA rs q):∀r∈cB rs q,r∈rs:=λr hr=>by
 unfold cB mZ at hr;split at hr
 .exact oq (mem_of_mem_take hr)
 .have e:r=rs.getD (q.race-1).toNat []:=by simpa using hr
  have h1:=h.r1;have h2:=h.r2;rw[e,cQ,bg ()];exact pS _
def uT(h:MA rs q)(hk:q.kind=cg):((cB rs q).length:Int)=q.k:=by
 unfold cB mZ;rw[ah hk,cS,dU];have h1:=h.r1;have h2:=h.legs hk;have h3:=h.k1;omega
def GV(hk:q.kind≠cg):(cB rs q).length=1:=by
 unfold cB mZ;rw[af hk];rfl
def Ur(h:n∈I):0<=t4 I n/\t4 I n<(I.length:Int):=by
 unfold t4;have:(I.findIdx λx=>decide (x=n))<I.length:=findIdx_lt_length_of_exists ⟨n,h,by simp⟩;omega
def mh(ps I:List Int):Prop:=ps.Pairwise (·<·)/\(∀x∈ps,0<=x/\x<(I.length:Int))/\ps≠ []/\ps.length<=I.length
def xG{t:List Nat}{I ps:List Int}(h:setM t I=some ps):mh ps I:=by
 unfold setM at h;split at h
 .rename_i fu;split at h
  .rename_i X9;cases h;have mn:∀x∈((cut 44 [] t).map dv).map (t4 I),0<=x/\x<(I.length:Int):=λx hx=>by
    obtain⟨n,hn,rfl⟩:=mem_map.mp hx;exact Ur ‹all_eq_true.mp fu n hn›
   refine⟨X9,mn,by simp[Ds],?_⟩;have h1:=tW (m:=(List.range I.length).map λ(i:Nat)=>(i:Int)) (X9.imp λh=>Int.ne_of_lt h) λx hx=>by
    have:=mn x hx;exact mem_map.mpr ⟨x.toNat,mem_range.mpr (),by omega⟩
   simp only[length_map,length_range]at h1⊢;exact h1
  .cases h
 .cases h
theorem Cg{f:α×List Int->Option (List Int)}(hf:∀x r y,f (x,r)=some y->mh y r):∀{ws:List α}{R}{ss},ws.length=R.length->cG f (ws.zip R)=some ss->Paired mh ss R
 |[],[],ss,_,h=>by
  cases h;exact .nil
 |w::ws,r::R,ss,hl,h=>by
  obtain⟨y,ys,h1,h2,rfl⟩:=bG.mp (show cG f ((w,r)::ws.zip R)=some ss from h);exact .cons (hf _ _ _ h1) (Cg hf ‹hl› h2)
theorem zN:∀{ss R},Paired mh ss R->(∀r∈R,r=I)->∀s∈ss,mh s I
 |_,_,.nil,_=>by simp
 |_,_,.cons h t,e=>by
  intro s hs;obtain z|z:=mem_cons.mp hs
  .rw[z,<-e _ (bZ ..)];exact h
  .exact zN t (λr hr=>e r (by simp[hr])) s z
structure VL(fj:List Nat)(q:MP)(R ss:List (List Int)):Prop where
 legs:q.kind=cg->fj=M8/\Paired mh ss R
 one:q.kind≠cg->∀s∈ss,mh s (R.getD 0 [])
 on:fj=M8->(ss.length:Int)=vW q
 box:fj=zB->ss.length=1
 key:fj≠M8->fj≠zB->ss.length=2
def GW(h:jO ws q R=some ss)(k1:1<=q.k)(hl:q.kind=cg->(R.length:Int)=q.k)(hn:q.kind≠cg->R.length=1):VL (ws.getD 0 []) q R ss:=by
 unfold jO at h;split at h
 .rename_i ho;unfold Qz at h;split at h
  .split at h
   .have hev:((L2.bp (ws.drop 1)).length:Int)=vW q:=by
     rw[jq];omega
    have hp:Paired mh ss (if q.kind=cg then R else(List.replicate (vW q).toNat R).flatten):=by
     refine Cg (λx r y hy=>xG hy) ?_ h;split
     .rename_i c;have:=hl c;have:vW q=q.k:=by
       unfold vW;rw[af (by rw[c];decide)]
      omega
     .rename_i c;rw[len_rep,hn c];omega
    have hlen:=Paired.dQ hp;refine⟨λc=>⟨ho,by rw[ah c]at hp;exact hp⟩,λc=>?_,λ_=>?_,λc=>absurd (ho.symm.trans c) ⋯,λc=>absurd ho c⟩
    .rw[af c]at hp;refine zN hp λr hr=>?_;obtain⟨l,hl,hr⟩:=mem_flatten.mp hr;rw[wq hl]at hr;obtain⟨r',AK⟩:=length_eq_one_iff.mp (hn c);rw[AK]at hr⊢;simpa using hr
    .rw[hlen];split
     .rename_i c;rw[hl c];unfold vW;rw[af (by rw[c];decide)]
     .rename_i c;rw[len_rep,hn c];omega
   .cases h
  .cases h
 .rename_i ho;split at h
  .rename_i hk;have hkl:q.kind≠cg:=λz=>by rw[z]at hk;revert hk;decide
   split at h
   .rename_i hb;unfold A2 at h;split at h
    .split at h
     .cases h
     .rename_i s es;split at h
      .cases h;exact⟨λc=>absurd c hkl,λ_ s hs=>by rw[mem_singleton.mp hs];exact xG es,λc=>absurd c ho,λ_=>rfl,λ_ c=>absurd hb c⟩
      .cases h
    .cases h
   .rename_i hb;split at h
    .unfold D6 at h;split at h
     .split at h
      .cases h
      .rename_i A eA;split at h
       .cases h
       .rename_i B eB;split at h
        .split at h
         .split at h
          .cases h;refine⟨λc=>absurd c hkl,λ_ s hs=>?_,λc=>absurd c ho,λc=>absurd c hb,λ_ _=>rfl⟩;obtain z|z:=mem_cons.mp hs
           .rw[z];exact xG eA
           .rw[mem_singleton.mp z];exact xG eB
          .cases h
         .cases h
        .cases h
     .cases h
    .cases h
  .cases h
def Ci ns x:(fK ns x).length=ns.length*x.1.length:=by
 unfold fK;rw[length_flatMap]
 induction ns with
 |nil=>simp
 |cons a l ih=>
  rw[aP,sum_cons,ih,az,aY,Nat.succ_mul,sQ]
theorem GX:∀(ss R:List (List Int)) ns,ss.length=R.length->((((ss.zip R).foldl fK ns).length:Nat):Int)=ss.foldl (λr (l:List Int)=>r*(l.length:Int)) (ns.length:Int)
 |[],[],ns,_=>rfl
 |s::ss,r::R,ns,h=>by
  show((((ss.zip R).foldl fK (fK ns (s,r))).length:Nat):Int)=_;rw[GX ss R _ ‹h›,Ci];simp
def Nk{ss R:List (List Int)}(iB:∀s∈ss,s≠ [])(hl:ss.length=R.length) i:(og ((ss.zip R).take i)).length<=(og (ss.zip R)).length:=by
 have grow:∀(l:List (List Int×List Int))(ns:List Int),(∀x∈l,x.1≠ [])->ns.length<=(l.foldl fK ns).length:=by
  intro l
  induction l with
  |nil=>intro ns _;exact aQ _
  |cons x l ih=>
   intro ns h;refine aW ?_ (ih (fK ns x) λy hy=>h y (by simp[hy]));rw[Ci];exact Nat.le_mul_of_pos_right _ (length_pos_iff.mpr (h x ∅))
 have e:og (ss.zip R)=((ss.zip R).drop i).foldl fK (og ((ss.zip R).take i)):=by
  unfold og;rw[<-sS,sF]
 rw[e];exact grow _ _ λx hx=>iB _ (mL (oq hx)).1
def QK(K:PySem.W.Frag)(NB Cp Cb:Addr):Sp:=λvs H Q E=>∃(a L:Addr) (ns:List Int) (rs:List (List Int)) (ps:List MP),vs=[.ref a,.ref L]/\aJ K H a (ns.map V.int)/\(∀n∈ns,0<=n/\n<=255)/\ns.length<=4180/\y8 Cp H L rs ps/\(∀q∈ps,Uq rs q)/\(∀r∈rs,r.length<=24/\∀x∈r,0<=x)/\
 (∀r,jS (cb ns) rs ps (some r)->∀H' v,aw H H'->zM K Cp Cb H' v rs r->Q v H')/\(jS (cb ns) rs ps none->∀H',aw H H'->E (.ref NB) none H')
def nj:aC ["codes","pools","lines","words","pool","stake","sets","count","numbers"] ["codes","pools"] (ao Le):=by ac_nf
def Us(D:Def K mg "read_bet" Le ["codes","pools"])(T:Tx mg)(js:Ok P w K mg base eJ 2 "text_of" ["codes"] (IA K))(ib:Ok P w K mg base eJ 2 "lines_of" ["text"] Dt)(aK:Ok P w K mg base (fT P w) 1 "require" ["holds"] (aD NB))(kW:Ok P w K mg base (fT P w) 2 "pool_called" ["name","pools"] (GL NB Cp))(nk:Ok P w K mg base (fT P w) 2 "read_stake" ["word","unit"] (K7 NB))(oU:Ok P w K mg base (fT P w) 4 "read_sets" ["words","pool"] (QA K NB Cp))(c6:Ok P w K mg base eJ 1 "count_choices" ["lists"] DI)(gO:Ok P w K mg base (fT P w) 2 "check_staked" ["stake","combinations"] (GK NB))(kX:Ok P w K mg base eJ 1 "leg_numbers" ["sets","races"] (QF K))(gP:Ok P w K mg base eJ 4 "numbers_of_race" ["form","sets","pool"] (QJ K Cp))(aN:CL P w K mg base "Pool" Cp ["self","name","kind","k","races","unit"] (cU Cp) ["name","kind","k","races","unit"])(jT:CL P w K mg base "Bet" Cb ["self","pool","stake","sets","numbers"] (jt Cb) ["pool","stake","sets","numbers"]):Ok P w K mg base (fT P w) 5 "read_bet" ["codes","pools"] (QK K NB Cp Cb):=by
 refine D.BL nj (λvs H Q E h=>?_) (λf b8 A outer s H vs Q E hr h=>?_)
 .obtain⟨_,_,_,_,_,rfl,_⟩:=h;rfl
 .obtain⟨a,L,ns,rs,ps,rfl,hS,hb,hl,hC,hpb,hrs,kQ,kE⟩:=h;refine⟨_,(ag (aM (i:=2) nj.nd rfl (Or.inl rfl) (ax ib (hr.mono ⋯) rfl cp (ae (ax js (hr.mono ⋯) rfl cp (ae (pv 0) ai)) ai))) (ag (aS (ax (E:=E) aK (hr.mono ⋯) rfl (aX aH) (ae (kL (aU J_ (pv 2) xZ (aG _)) (iV (aU cC (aB aA (by rfl) T.b_ bF (ae (pv 2) ai)) aq (aG _)))) ai))) (ag (aM (i:=3) nj.nd rfl (Or.inl rfl) (bz aL (pv 2) aq (λ_ _=>rfl))) (ag (aS (ax (E:=E) aK (hr.mono ⋯) rfl (aX aH) (ae (kL (aU Ff (aB aA (by rfl) T.b_ bF (ae (pv 3) ai)) (cK T.fI rfl) (aG _)) (kL (aU cC (bz aL (pv 3) aq (λ_ _=>rfl)) bo (aG _)) (iV (aU cC (bz aL (pv 3) aq (λ_ _=>rfl)) bo (aG _))))) ai))) (ag (aM (i:=4) nj.nd rfl (Or.inl rfl) (ax (E:=E) kW (hr.mono ⋯) rfl (aX aH) (ae (bz aL (pv 3) aq (λ_ _=>rfl)) (ae (pv 1) ai)))) (ag (aM (i:=5) nj.nd rfl (Or.inl rfl) (ax (E:=E) nk (hr.mono ⋯) rfl (aX aH) (ae (bz aL (pv 3) aq (λ_ _=>rfl)) (ae (bu (pv 4) rfl) ai)))) (ag (aM (i:=6) nj.nd rfl (Or.inl rfl) (ax (E:=E) oU (hr.mono ⋯) rfl (aX aH) (ae (iH kg (pv 3) (iA aq) pZ) (ae (pv 4) ai)))) (ag (cZ (bt cC (bu (pv 4) rfl) bo (aG _)) (ag (aM (i:=7) nj.nd rfl (Or.inl rfl) (ax c6 (hr.mono ⋯) rfl cp (ae (pv 6) ai))) (ag (aS (ax (E:=E) gO (hr.mono ⋯) rfl (aX aH) (ae (pv 5) (ae (pv 7) ai)))) (au (aM (i:=8) nj.nd rfl (Or.inl rfl) (x6 (bt jG (pv 7) (cK T.d7 rfl) (aG _)) (ax kX (hr.mono ⋯) rfl cp (ae (pv 6) (ae (bu (pv 4) rfl) ai))) xZ))))) (ag (aM (i:=8) nj.nd rfl (Or.inl rfl) (ax gP (hr.mono ⋯) rfl cp (ae (bz aL (pv 3) aq (λ_ _=>rfl)) (ae (pv 6) (ae (pv 4) ai))))) (au (aS (ax (E:=E) gO (hr.mono ⋯) rfl (aX aH) (ae (pv 5) (ae (aB aA (by rfl) T.b_ bF (ae (pv 8) ai)) ai))))))) (au (aI (Vl jT (hr.mono ⋯) rfl (ae (pv 4) (ae (pv 5) (ae (pv 6) (ae (pv 8) ai))))))))))))))),?_⟩;simp? only[bS,aD];have hz:=cx;have AF:(cb ns).length<=4180:=by unfold cb;rw[az];exact hl
  have hc1:∀c∈cb ns,c<128:=λc hc=>by
   unfold cb at hc;obtain⟨n,_,rfl⟩:=mem_map.mp hc;exact Vq _
  refine⟨a,ns,rfl,hS,hb,by omega,λH1 s1=>⟨cb ns,rfl,by omega,hc1,?_⟩⟩;cases el:iX (cb ns)with
  |none=>
   intro H2 s2;rw[af ∅];exact kE (by unfold jS;rw[el]) H2 (s1.trans s2)
  |some ls=>
  intro H2 L2 s2 hLs;obtain⟨_,as,hA,QC⟩:=hLs;have Ue:=Paired.dQ QC;have M9:=s1.trans s2;rw[ah ∅];refine⟨L2,rfl,_,.inl (aJ.of hA),?_⟩;refine bj (λb=>?_) (λb=>kE ?_ H2 M9)
  case refine_2=>
   unfold jS;rw[el]
   match ls,Ue with
   |[],_=>rfl|[_],h=>exact absurd (show((as.length:Nat):Int)=1 by rw[h];rfl) b
   |_::_::_,_=>rfl
  obtain⟨ws,rfl⟩:∃ws,ls=[ws]:=length_eq_one_iff.mp ();obtain⟨v0,MM,pw,rfl,hw⟩:=Paired.Hx QC (show [ws][0]?=some ws from rfl);have Ax:∀r,jS (cb ns) rs ps r=jS (cb ns) rs ps r:=λ_=>rfl
  conv at Ax=>ext r;rhs;unfold jS
  simp only[el]at Ax;have BK:∀t∈ws,t.length<=4190:=λt ht=>by
   have:=Nj el t ht;omega
  refine⟨L2,rfl,_,aJ.of hA,_,dG (j:=0) MM,pw,rfl,_,.inl (aJ.of hw.1),?_⟩;rw[az];refine bj (λc=>?_) (λc=>kE (by rw[Ax,af ()]) H2 M9);have c:6<=ws.length:=by omega
  have uI:∀i:Nat,i<6->ws[i]?=some (ws.getD i []):=λi hi=>by
   rw[cQ,bg ()];rfl
  refine⟨pw,rfl,_,aJ.of hw.1,_,(hw.at (uI 0 ⋯)).1,rfl,?_⟩;rw[show Str.ofString "bet"=S Um by decide+kernel,show Str.ofString "for"=S Uo by decide+kernel];simp only[V.str.injEq,cO];refine bj (λd=>?_) (λd=>kE (by rw[Ax,af (λz=>d z.2.1)]) H2 M9);refine⟨pw,rfl,_,aJ.of hw.1,_,(hw.at (uI 2 ⋯)).1,rfl,?_⟩;simp only[V.str.injEq,cO];refine bj (λe=>?_) (λe=>kE (by rw[Ax,af (λz=>e z.2.2)]) H2 M9);simp only[if_pos (show 6<=ws.length/\ws.getD 0 []=Um/\ws.getD 2 []=Uo from⟨c,d,e⟩)]at Ax;obtain⟨rv,hR,hPo⟩:=hC.same M9;refine⟨pw,rfl,_,aJ.of hw.1,_,(hw.at (uI 1 ⋯)).1,ws.getD 1 [],L,rv,ps,rfl,hPo,λq hq H3 v s3 hpi=>?_,λiB H3 s3=>kE ?_ H3 (M9.trans s3)⟩
  case refine_2=>
   rw[Ax];generalize ps.filter (λq=>decide (q.name=ws.getD 1 []))=F at*
   match F,iB with
   |[],_=>rfl|[_],h=>exact absurd rfl h
   |_::_::_,_=>rfl
  simp only[hq]at Ax;have hqm:q∈ps:=(mem_filter.mp (by rw[hq];simp:q∈ps.filter λq=>decide (q.name=ws.getD 1 []))).1;have pb:=hpb q hqm;have Uk:=M9.trans s3;have RT:=hw.same s3;have Ud:Paired (fW H3) rv rs:=Paired.fR hR λ_ _ z=>z.same s3;have hPA:=hpi.at Ud pb.HD;obtain⟨pp,dx,Rr,rfl,mq,YQ⟩:=id hPA;refine⟨pw,rfl,_,aJ.of RT.1,_,(hw.at (uI 3 ⋯)).1,?_⟩;simp only[n8,xY,xW];refine⟨_,rfl,Cp,dx,_,mq,aN.cl,aN.no "unit" ∅,_,rfl,ws.getD 3 [],q.u,rfl,(hw.at (uI 3 ⋯)).2,pb.u.1,pb.u.2,?_⟩;cases Y9:oS (ws.getD 3 []) q.u with
  |none=>exact kE (by rw[Ax,Y9]) H3 Uk
  |some st=>
  simp only[Y9]at Ax;dsimp only;refine⟨pw,rfl,_,aJ.of RT.1,λp5 hp5=>?_⟩;have s5:=aw.new (o:=HO.lst (lH (ws.map λw=>V.str (S w)) (some 4) none)) hp5;have s15:=Uk.trans s5;have Y4:=uT (rs:=rs) pb.HD;have VG:=GV (rs:=rs) (q:=q);have AQ:∀r∈cB rs q,r.length<=24/\∀x∈r,0<=x:=λr hr=>hrs r (GU pb.HD r hr);have hw5:Words (upd H3 p5 (.lst (lH (ws.map λw=>V.str (S w)) (some 4) none))) p5 (ws.drop 4):=by
   refine⟨?_,?_,?_,λt ht=>hw.2.2.2 t (oq ht)⟩
   .rw[ak,show lH (ws.map λw=>V.str (S w)) (some 4) none=(ws.map λw=>V.str (S w)).drop 4 from qk _ 4,<-map_drop]
   .intro z;have:=bW List.length z;rw[dU,pE]at this;omega
   .rw[dU];have:=hw.2.2.1;omega
  refine⟨p5,pp,ws.drop 4,rs,q,rfl,hw5,by rw[dU];omega,λt ht=>BK t (oq ht),hPA.same s5,pb.HD.k1,pb.HD.k2,Y4,VG,λr hr=>⟨by have:=(AQ r hr).1;omega,(AQ r hr).2⟩,λss es H6 S6 s6 N0=>?_,λes H6 s6=>kE (by rw[Ax,es]) H6 (s15.trans s6)⟩;simp only[es]at Ax;have s16:=s15.trans s6;have s36:=s5.trans s6;have VM:VL (ws.getD 4 []) q (cB rs q) ss:=by
   have:=GW es pb.HD.k1 Y4 VG
   rwa [show(ws.drop 4).getD 0 []=ws.getD 4 [] by simp[getD_eq_getElem?_getD]]at this
  have aa0:=hPA.same s36;have aa1:=s36 _ _ mq;have mk:∀(H7:Hp)(vn:V)(on:Option (List Int)),aw H6 H7->jS (cb ns) rs ps (some (q,st,ss,on))->(match on with
    |none=>vn=.cT
    |some nums=>∃L,vn=.ref L/\H7 L=some (.lst (nums.map V.int))/\nums.length<=400000)->∀x dx,H7 x=none->H7 dx=none->dx≠x->jt Cb [V.ref x,V.ref pp,V.int st,V.ref S6,vn] (upd (upd H7 dx (HO.own x)) x (HO.ins Cb dx [])) (λv H2=>v=V.cT/\Q (V.ref x) H2) E0:=by
   intro H7 vn on s7 hb hn x dx nx ndx nex;refine⟨x,dx,_,_,_,_,rfl,ak,λH8 h8 k8=>⟨rfl,?_⟩⟩;have s8:=aw.made nx ndx k8;refine kQ _ hb H8 _ ((s16.trans s7).trans s8) ⟨x,dx,pp,S6,vn,rfl,h8,aa0.same (s7.trans s8),nV.same N0 (s7.trans s8),?_⟩;cases on with
   |none=>exact hn
   |some nums=>
    obtain⟨L,e,h,hl⟩:=hn;exact⟨L,e,s8 _ _ h,hl⟩
  have st0:0<=st/\st<=1000000:=by
   unfold oS at Y9;split at Y9
   .cases Y9;omega
   .cases Y9
  refine⟨_,rfl,Cp,dx,_,aa1,aN.cl,aN.no "kind" ∅,_,rfl,rfl,?_⟩;rw[yY];simp only[V.str.injEq,cO];refine bj (λkl=>?_) (λkl=>?_)
  .simp only[if_pos kl]at Ax;have MN:=(VM.legs kl).2;have hlen:=Paired.dQ MN;have hg:∀s∈ss,∃r∈cB rs q,mh s r:=λs hs=>by
    obtain⟨i,hi,e⟩:=mG hs;obtain⟨r,hr,g⟩:=Paired.at' MN (bg hi);exact⟨r,bh hr,e▸g⟩
   have YT:∀s∈ss,s.length<=24:=λs hs=>by
    obtain⟨r,hr,g⟩:=hg s hs;have:=(AQ r hr).1;have:=g.2.2.2;omega
   refine⟨S6,ss,rfl,N0,λs hs=>by have:=YT s hs;omega,st,_,rfl,st0.1,st0.2,?_⟩;refine bj (λcs=>?_) (λcs=>kE (by rw[Ax,af cs]) H6 s16);simp only[if_pos cs]at Ax;dsimp only[Zk];simp only[Bo,Sz,tC,Oh,xY,Bp,vj,HQ,n8,xW,fD,kJ];refine⟨_,rfl,_,rfl,_,rfl,_,rfl,?_⟩;simp only[decide_eq_true_eq];refine bj (λcn=>?_) (λcn=>?_)
   .simp only[if_pos cn]at Ax;have hL:=GX ss (cB rs q) [0] hlen;have hL:(((og (ss.zip (cB rs q))).length:Nat):Int)=jc ss:=hL;refine⟨_,rfl,_,rfl,Cp,dx,_,aa1,aN.cl,aN.no "races" ∅,_,rfl,S6,_,ss,cB rs q,rfl,N0,YQ.same s36,hlen,λs hs=>by have:=YT s hs;omega,λr hr=>by have:=(AQ r hr).1;omega,λi=>?_,λH7 L7 s7 n7 h7=>?_⟩
    .have:=Nk (R:=cB rs q) (λs hs=>by obtain⟨r,_,g⟩:=hg s hs;exact g.2.2.1) hlen i;omega
    .exact mk H7 _ (some _) s7 (by rw[Ax]) ⟨L7,rfl,h7,by omega⟩
   .simp only[if_neg cn]at Ax;exact mk H6 _ none aw.rfl' (by rw[Ax]) rfl
  .simp only[if_neg kl]at Ax;have h1:=VG kl;have hn4:=pb.nl kl;have hI:(cB rs q)[0]?=some ((cB rs q).getD 0 []):=by
    rw[cQ,bg ()];rfl
   have adW:=(AQ _ (bh hI)).1;have YX:=pb.HD.k1;have hon:1<=vW q/\vW q<=4:=by
    unfold vW;split<;>omega
   refine⟨pw,rfl,_,aJ.of (RT.same s36).1,_,(hw.at (uI 4 ⋯)).1,ws.getD 4 [],S6,pp,ss,rs,q,_,rfl,N0,aa0,hI,adW,by omega,hn4,λc=>by have:=pb.any c;omega,λs hs=>by have:=(VM.one kl s hs).2.2.2;omega,λc=>by have:=VM.on c;omega,VM.box,VM.key,λca co=>?_,λnums H7 L7 hnu adX s7 n7 h7=>?_⟩
   .rw[VM.on co];unfold vW;rw[af (by rw[ca];decide)]
   refine⟨L7,rfl,_,.inl (aJ.of h7),st,_,rfl,st0.1,st0.2,?_⟩;rw[az];refine bj (λcs=>?_) (λcs=>kE (by rw[Ax];exact⟨nums,hnu,by rw[af cs]⟩) H7 (s16.trans s7));exact mk H7 _ (some nums) s7 (by rw[Ax];exact⟨nums,hnu,by rw[ah cs]⟩) ⟨L7,rfl,h7,adX⟩
end
noncomputable def toK(g:Vw):List (Key×V):=g.map λp=>(Sum.inl p.1,V.int p.2)
def Ut g k:eQ (toK g) (Sum.inl k)=(zb g k).map V.int:=by
 induction g with
 |nil=>rfl
 |cons p g ih=>
  show eQ ((Sum.inl p.1,V.int p.2)::toK g) (Sum.inl k)=_;rw[zc];by_cases h:p.1=k
  .rw[ah h,cy (by rw[h])];rfl
  .rw[af h,cz (λz=>h (Sum.inl.inj z)),ih]
def Uu g k v:putK (toK g) (Sum.inl k) (V.int v)=toK (TN g k v):=by
 have e:((toK g).any λkv=>decide (kv.1=Sum.inl k))=(g.any λp=>decide (p.1=k)):=by
  unfold toK;rw[any_map];congr 1;funext p;show decide ((Sum.inl p.1:Key)=Sum.inl k)=decide (p.1=k);by_cases h:p.1=k
  .rw[g_ h,g_ (by rw[h])]
  .rw[cR h,cR (λz=>h (Sum.inl.inj z))]
 unfold putK TN;rw[e];split
 .unfold toK;rw[ck,ck];apply fQ;intro p _;show(if(Sum.inl p.1:Key)=Sum.inl k then((Sum.inl p.1:Key),V.int v)else(Sum.inl p.1,V.int p.2))=_;by_cases h:p.1=k
  .rw[ah (by rw[h])];show _=(Sum.inl (if p.1=k then(p.1,v)else p).1,V.int (if p.1=k then(p.1,v)else p).2);rw[ah h]
  .rw[af (λz=>h (Sum.inl.inj z))];show _=(Sum.inl (if p.1=k then(p.1,v)else p).1,V.int (if p.1=k then(p.1,v)else p).2);rw[af h]
 .unfold toK;rw[ed];rfl
theorem Cj:∀l g,(dD (g++l)).Nodup->kO (toK g) (toK l)=toK (g++l)
 |[],g,_=>by
  rw[jE];rfl
 |p::l,g,h=>by
  have hk:p.1∉dD g:=by
   intro z;unfold dD at h z;rw[ed,sR]at h;exact h.2.2 _ z _ ∅ rfl
  have e:TN g p.1 p.2=g++ [p]:=by
   unfold TN;rw[af (λz=>hk (any_keys.mp z))]
  show kO (putK (toK g) (Sum.inl p.1) (V.int p.2)) (toK l)=_;rw[Uu,e,Cj l (g++ [p]) (by rw[iR];exact h),iR];rfl
theorem rO:∀ms:List Int,ms.length%2=0->L2.bp (ms.map V.int)=((dD (bK ms)).map (Sum.inl:Int->Key)).map kV
 |[],_=>rfl|[_],h=>by simp at h
 |a::b::r,h=>by
  show V.int a::L2.bp (r.map V.int)=kV (Sum.inl a)::((dD (bK r)).map (Sum.inl:Int->Key)).map kV;rw[rO r (by simp at h;omega)];rfl
theorem Ck:∀ms:List Int,L2.oF (ms.map V.int)=(bK ms).map λp=>V.int p.2
 |[]=>rfl|[_]=>rfl
 |a::b::r=>by
  rw[aP,aP,xc,Ck r];rfl
def Uv g:((dD g).map (Sum.inl:Int->Key)).zip (g.map λp=>V.int p.2)=toK g:=by
 induction g with
 |nil=>rfl
 |cons p g ih=>
  show(Sum.inl p.1,V.int p.2)::(((dD g).map (Sum.inl:Int->Key)).zip (g.map λp=>V.int p.2))=_;rw[ih];rfl
section
variable {Ca:Addr}
noncomputable abbrev Ea:Stmt:=top 5
def Lf(K:PySem.W.Frag):Sp:=λvs H Q _=>∃(a:Addr) (ms:List Int),vs=[.ref a]/\aJ K H a (ms.map V.int)/\ms.length%2=0/\(dD (bK ms)).Nodup/\∀H' d,aw H H'->H d=none->H' d=some (.dK (toK (bK ms)))->Q (.ref d) H'
def Uw:aC ["money"] ["money"] (ao Ea):=by ac_nf
def QL(D:Def K mg "by_number" Ea ["money"])(T:Tx mg):Ok P w K mg base eJ 1 "by_number" ["money"] (Lf K):=by
 refine D.ok Uw (λvs H Q E h=>?_) (λf b8 A outer s H vs Q E hr h=>?_)
 .obtain⟨_,_,rfl,_⟩:=h;rfl
 .obtain⟨a,ms,rfl,hS,h2,nd,kQ⟩:=h;refine⟨_,(au (aI (IM rfl rfl T.yQ rfl T.yR (ae (qe (pv 0) aq aq) (ae (qe (pv 0) aq aq) ai))))),?_⟩;refine⟨a,_,0,rfl,rfl,rfl,hS,λp hp=>?_⟩;refine⟨a,_,1,rfl,rfl,rfl,(aw.new hp).seq hS,λq hq=>?_⟩;rw[pV]at hq⊢;rw[show L2.bp ((ms.map V.int).drop 1)=L2.oF (ms.map V.int)from rfl];rw[rO ms h2]at hq⊢;rw[Ck];have hqp:p≠q:=λz=>by rw[<-z,ak]at hq;cases hq
  have s1:aw H (upd H p (.lst (((dD (bK ms)).map (Sum.inl:Int->Key)).map kV))):=aw.new hp;have hq0:H q=none:=by
   have:=hq;rw[aF (dF hqp)]at this;exact this
  refine⟨p,q,(dD (bK ms)).map Sum.inl,_,rfl,aJ.of ?_,aJ.of ak,by unfold dD;rw[az,az,az],λx hx=>?_⟩
  .rw[aF hqp,ak]
  .rw[Uv];have e:kO [] (toK (bK ms))=toK (bK ms):=Cj (bK ms) [] nd;rw[e];have hx1:(upd H p (.lst (((dD (bK ms)).map (Sum.inl:Int->Key)).map kV))) x=none:=by
    by_cases z:x=q
    .rw[z,ak]at hx;cases hx
    .rw[aF z]at hx;exact hx
   have hx0:H x=none:=by
    by_cases z:x=p
    .rw[z,ak]at hx1;cases hx1
    .rw[aF z]at hx1;exact hx1
   exact kQ _ x ((s1.trans (aw.new hq)).trans (aw.new hx)) hx0 ak
end
section
variable {Ca:Addr}
noncomputable def mj:Int->List (List Int×List Int)->Bool
 |_,[]=>true|n,x::l=>decide (n%(x.2.length:Int)∈x.1)&&mj (n/(x.2.length:Int)) l
noncomputable def oV:List (List Int×List Int)->Int
 |[]=>1|x::l=>oV l*(x.2.length:Int)
theorem Cm:∀(r:List (List Int×List Int))(n:Int),(∀x∈r,1<=x.2.length/\∀p∈x.1,0<=p/\p<(x.2.length:Int))->0<=n->n<oV r->(mj n r=true↔n∈og r.reverse)
 |[],n,_,h0,h1=>by
  have h1:n<1:=h1;have e:n=0:=by omega
  subst e;exact⟨λ_=>mem_singleton.mpr rfl,λ_=>rfl⟩
 |x::r,n,hx,h0,h1=>by
  obtain⟨hl,hp⟩:=hx x ∅;have hL:(0:Int)<(x.2.length:Int):=by omega
  have h1:n<oV r*(x.2.length:Int):=h1;have hd:n/(x.2.length:Int)<oV r:=Int.ediv_lt_of_lt_mul hL h1;have ih:=Cm r (n/(x.2.length:Int)) (λy hy=>hx y (by simp[hy])) (Int.ediv_nonneg h0 (Int.le_of_lt hL)) hd;have e:mj n (x::r)=(decide (n%(x.2.length:Int)∈x.1)&&mj (n/(x.2.length:Int)) r):=rfl;rw[e,reverse_cons,uR,bC,fB,ih];unfold fK;rw[mem_flatMap];constructor
  .rintro⟨h2,h3⟩;refine⟨_,h3,mem_map.mpr ⟨_,h2,?_⟩⟩;rw[sV];exact Int.mul_ediv_add_emod n _
  .rintro⟨m,h3,h4⟩;obtain⟨p,h2,h5⟩:=mem_map.mp h4;obtain⟨p0,p1⟩:=hp p h2;have h5:m*(x.2.length:Int)+p=n:=h5;have e1:n%(x.2.length:Int)=p:=by
    rw[<-h5,Int.add_comm,Int.add_mul_emod_self_right];exact Int.emod_eq_of_lt p0 p1
   have e2:n/(x.2.length:Int)=m:=by
    rw[<-h5,Int.add_comm,Int.add_mul_ediv_right _ _ (Int.ne_of_gt hL),Int.ediv_eq_zero_of_lt p0 p1,mJ]
   rw[e1,e2];exact⟨h2,h3⟩
noncomputable abbrev Eb:Stmt:=top 14
noncomputable def Lg:Sp:=λvs H Q _=>∃(n:Int) (S' R:Addr) (ss rs:List (List Int)),vs=[.int n,.ref S',.ref R]/\kq H S' ss/\kq H R rs/\ss.length=rs.length/\rs.length<=100/\(∀r∈rs,1<=r.length/\r.length<=100)/\Q (.bl (mj n (ss.zip rs).reverse)) H
def t7:aC ["number","sets","races","rest","leg","interests"] ["number","sets","races"] (ao Eb):=by ac_nf
def QM(D:Def K mg "is_leg_number" Eb ["number","sets","races"])(T:Tx mg):Ok P w K mg base eJ 1 "is_leg_number" ["number","sets","races"] Lg:=by
 refine D.ok t7 (λvs H Q E h=>?_) (λf b8 A outer s H vs Q E hr h=>?_)
 .obtain⟨_,_,_,_,_,rfl,_⟩:=h;rfl
 .obtain⟨n,S',R,ss,rs,rfl,⟨as,hS,DT⟩,⟨bs,hR,Gj⟩,hlen,hl,rl,kQ⟩:=h;have hz:=cx;refine⟨_,(ag (aM (i:=3) t7.nd rfl (Or.inl rfl) (pv 0)) (ag (fS iS rfl (uA rfl T.gJ (ae (bO gn (aB aA (by rfl) T.b_ bF (ae (pv 2) ai)) aq) (ae (qI kM aq) (ae (qI kM aq) ai)))) (aT (i:=4) t7.nd rfl (Or.inl rfl)) (ag (aM (i:=5) t7.nd rfl (Or.inl rfl) (aB aA (by rfl) T.b_ bF (ae (bz aL (pv 2) (pv 4) (λ_ _=>rfl)) ai))) (ag (cZ (bt tm (bO HM (pv 3) (pv 5)) (bz aL (pv 1) (pv 4) (λ_ _=>rfl)) rfl) (au (aI qH)) bD) (au (x9 (i:=3) t7.nd rfl (Or.inl rfl) (pv 5) Td))))) (au (aI qH)))),?_⟩;simp? only[bS];have Ue:=Paired.dQ DT;have hbl:=Paired.dQ Gj;refine⟨R,rfl,_,.inl (aJ.of hR),_,_,_,rs.length,rfl,?_,?_⟩
  .have q:=Vb.neg (i:=((bs.length:Nat):Int)-1) (j:= -1) () () ⋯ ⋯;rw[show(((bs.length:Nat):Int)-1- -1).toNat=rs.length by omega]at q;exact q
  have E4:(ss.zip rs).length=rs.length:=by rw[j_];omega
  refine rm (λk σ H'=>∃(v4 v5:Option V) (rest:Int),σ=[some (.int n),some (.ref S'),some (.ref R),some (.int rest),v4,v5]/\H'=H/\mj n (ss.zip rs).reverse=mj rest ((ss.zip rs).reverse.drop k)) ⟨none,none,n,rfl,rfl,rfl⟩ ?_ ?_
  .rintro k σ H' hk ⟨v4,v5,rest,rfl,e,hg⟩;subst e;obtain⟨r,AK⟩:∃r,rs[rs.length-1-k]?=some r:=⟨_,bg ()⟩;obtain⟨s',Dn⟩:∃s',ss[rs.length-1-k]?=some s':=⟨_,bg ()⟩;obtain⟨vr,hvr,pr,rfl,adY⟩:=Paired.Hx Gj AK;obtain⟨Y0,MV,ps,rfl,adZ⟩:=Paired.Hx DT Dn;have hzk:(ss.zip rs).reverse[k]?=some (s',r):=by
    rw[getElem?_reverse (),E4,qV];exact⟨Dn,AK⟩
   have hk2:k<(ss.zip rs).reverse.length:=by rw[length_reverse];omega
   have hdr:(ss.zip rs).reverse.drop k=(s',r)::(ss.zip rs).reverse.drop (k+1):=by
    rw[mv hk2];rw[bg hk2]at hzk;rw[Option.some.inj hzk]
   rw[hdr]at hg;have hlr:=rl r (bh AK);have ei:((bs.length:Nat):Int)-1+(k:Nat)* -1=((rs.length-1-k:Nat):Int):=by omega
   simp? only[Ox];refine⟨_,aJ.of hR,.ref pr,by rw[ei];exact dG hvr,pr,rfl,_,.inl (aJ.of adY),by rw[az];omega,_,aJ.of hS,.ref ps,by rw[ei];exact dG MV,ps,rfl,_,.inl (aJ.of adZ),rfl,by simp[gu],?_⟩;rw[md,az];have e1:mj rest ((s',r)::(ss.zip rs).reverse.drop (k+1))=(decide (rest%(r.length:Int)∈s')&&mj (rest/(r.length:Int)) ((ss.zip rs).reverse.drop (k+1))):=rfl;rw[e1]at hg;refine bj (λb=>?_) (λb=>?_)
   .rw[b,Bool.false_and]at hg;rw[hg]at kQ;exact kQ
   .have b:decide (rest%(r.length:Int)∈s')=true:=by simpa using b
    rw[b,pD]at hg;exact⟨⟨by omega,by omega⟩,_,_,_,rfl,rfl,hg⟩
  .rintro σ H' ⟨v4,v5,rest,rfl,e,hg⟩;subst e;rw[sA (by rw[length_reverse];omega)]at hg;show Q (.bl true) H';rw[hg]at kQ;exact kQ
noncomputable abbrev zO:Stmt:=top 13
noncomputable def Lh:Sp:=λvs H Q _=>∃(L S' R:Addr) (ns:List Int) (ss rs:List (List Int)),vs=[.ref L,.ref S',.ref R]/\H L=some (.lst (ns.map V.int))/\ns.length<=10000/\kq H S' ss/\kq H R rs/\ss.length=rs.length/\rs.length<=100/\(∀r∈rs,1<=r.length/\r.length<=100)/\
 ∀H' p,aw H H'->H p=none->H' p=some (.lst ((ns.filter λn=>mj n (ss.zip rs).reverse).map V.int))->Q (.ref p) H'
def Ec:aC ["numbers","sets","races","number"] ["numbers","sets","races"] (ao zO):=by ac_nf
def QN(D:Def K mg "leg_numbers_among" zO ["numbers","sets","races"])(T:Tx mg)(i5:Ok P w K mg base eJ 1 "is_leg_number" ["number","sets","races"] Lg):Ok P w K mg base eJ 2 "leg_numbers_among" ["numbers","sets","races"] Lh:=by
 refine D.ok Ec (λvs H Q E h=>?_) (λf b8 A outer s H vs Q E hr h=>?_)
 .obtain⟨_,_,_,_,_,_,rfl,_⟩:=h;rfl
 .obtain⟨L,S',R,ns,ss,rs,rfl,hL,nl,hS,hR,hlen,hl,rl,kQ⟩:=h;have hz:=cx;refine⟨_,(au (aI (fU (own:=[("number",3)]) rfl Ec.nd (bY (pv 0)) (bL (N:=["numbers","sets","races","number"]) (sc:=ao zO) (by decide+kernel)) (λ_ _ _ _ _=>aT (i:=3) Ec.nd rfl (Or.inl rfl)) (λ_ _ _ _ _=>(tD (um (ax i5 (hr.mono ⋯) rfl cp (ae (pv 3) (ae (pv 1) (ae (pv 2) ai))))))) (λ_ _ _ _ _=>(pv 3))))),?_⟩;simp? only[bS];refine⟨L,rfl,⟨_,aJ.of hL⟩,λD hD=>?_⟩;have hAD:L≠D:=λz=>by rw[z,hD]at hL;cases hL
  refine uM (n:=ns.length) (λi H'=>aw H H'/\H' D=some (.lst (((ns.take i).filter λn=>mj n (ss.zip rs).reverse).map V.int))) ⟨aw.new hD,ak⟩ (λi H' hi h=>⟨ns.map V.int,.int ns[i],aJ.of (h.1 _ _ hL),by rw[a_,bg hi];rfl⟩) ?_ ?_
  .rintro i x H' Y1 hi ⟨sm,NZ⟩ ⟨rfl,hx⟩;have hx:=hx _ (aJ.of (sm _ _ hL));have Xd:ns[i]?=some ns[i]:=bg hi;rw[a_,Xd]at hx;cases hx;have Av:ns.take (i+1)=ns.take i++ [ns[i]]:=bw Xd;generalize ns[i]=n at*;simp? only[];refine⟨rfl,_,rfl,_,rfl,_,rfl,n,S',R,ss,rs,rfl,nV.same hS sm,nV.same hR sm,hlen,hl,rl,_,rfl,?_⟩;rw[Av,sN,ed];refine bj (λb=>?_) (λb=>?_)
   .refine⟨_,rfl,_,NZ,?_,sm.lV hD,?_⟩
    .rw[az];refine sx (kG _ _) ?_;rw[cS];have:=oo i ns.length;omega
    .rw[ak,qZ ‹b›];rfl
   .refine⟨sm,?_⟩;rw[NZ,q_ ‹b›];simp
  .rintro H' ⟨sm,NZ⟩;rw[eM]at NZ;exact⟨⟨_,aJ.of (sm _ _ hL),by simp⟩,kQ H' D sm hD NZ⟩
noncomputable abbrev zP:Stmt:=top 6
noncomputable def Li(K:PySem.W.Frag):Sp:=λvs H Q _=>∃(a b:Addr) (ms nums:List Int),vs=[.ref a,.ref b]/\aJ K H a (ms.map V.int)/\ms.length%2=0/\ms.length<=16000/\(dD (bK ms)).Nodup/\H b=some (.lst (nums.map V.int))/\nums.length<=600000/\
 ∀H',aw H H'->Q (.int (nums.map λn=>(NW n ms).getD 0).sum) H'
def xH:aC ["money","numbers","cents","number"] ["money","numbers"] (ao zP):=by ac_nf
def QO(D:Def K mg "sum_on" zP ["money","numbers"])(T:Tx mg)(oW:Ok P w K mg base eJ 1 "by_number" ["money"] (Lf K)):Ok P w K mg base eJ 2 "sum_on" ["money","numbers"] (Li K):=by
 refine D.ok xH (λvs H Q E h=>?_) (λf b8 A outer s H vs Q E hr h=>?_)
 .obtain⟨_,_,_,_,rfl,_⟩:=h;rfl
 .obtain⟨a,b,ms,nums,rfl,hS,m2,ml,nd,hB,nl,kQ⟩:=h;have hu:=yu hr;have hz:=cx;refine⟨_,(ag (aM (i:=2) xH.nd rfl (Or.inr rfl) (ax oW (hr.mono ⋯) rfl cp (ae (pv 0) ai))) (au (aI (aB (FL rfl) (by rfl) T.BZ boot_sum (ae (fU (own:=[("number",3)]) rfl xH.nd (bY (pv 1)) (bL (N:=["money","numbers","cents","number"]) (sc:=ao zP) (by decide+kernel)) (λ_ _ _ _ _=>aT (i:=3) xH.nd rfl (Or.inl rfl)) (λ_ _ _ _ _=>da) (λ_ _ _ _ _=>(OI hu (pv 2) (pv 3) aq ⟨rfl,rfl,rfl,rfl⟩))) ai))))),?_⟩;refine⟨a,ms,rfl,hS,m2,nd,λH1 d s1 nd1 hd=>?_⟩;simp? only[bS];have hB1:=s1 _ _ hB;refine⟨b,rfl,⟨_,aJ.of hB1⟩,λD hD=>?_⟩;refine fz (xs:=nums.map V.int) (λH v (z:Int)=>v=.int z) nums (λn=>some ((NW n ms).getD 0)) ∅ (by rw[az];omega) hD (aJ.of hB1) (λ_ _ _ _ _ h=>h) ?_ ?_
  .intro i x u H' hx hu sm _ R k2;have e:x=.int u:=by rw[a_,hu]at hx;exact(Option.some.inj hx).symm
   subst e;have h5:=sm _ _ hd;have ev:(eQ (toK (bK ms)) (Sum.inl u)).getD (V.int 0)=.int ((NW u ms).getD 0):=by
    rw[Ut,m8];cases NW u ms<;>rfl
   have k3:=k2 (.int ((NW u ms).getD 0)) H' _ rfl (λ_ _ h=>h) rfl;refine⟨.inl ⟨_,.inl h5⟩,_,uz.k (k:=Sum.inl u) h5,?_⟩;rw[<-ev]at k3;exact k3
  .intro H' ys zs sm iJ hm hp;rw[cP]at hm;have e:=Option.some.inj hm;subst e;have e2:=uH (f:=V.int) hp;subst e2;exact⟨D,rfl,_,aJ.of iJ,kQ H' (s1.trans sm)⟩
end
section
variable {Cb Ca:Addr}
def Nm(h:eC ws races=some p):Uq races p:=by
 have mn:=FV h;unfold eC at h;split at h
 .cases h
 split at h
 .cases h
 split at h
 .cases h
 split at h
 .cases h
 rename_i lh hk;split at h
 .cases h
 rename_i k E5;split at h
 .cases h
 split at h
 .cases h
 split at h
 .cases h
 split at h
 .cases h
 rename_i u hu;split at h
 .cases h
 split at h
 .cases h
 split at h
 .cases h
 split at h
 .cases h
 cases h;obtain⟨k1,k2,_⟩:=dg E5;obtain⟨u1,u2,_⟩:=dg hu;refine⟨mn,⟨by show 0<u;omega,u2⟩,λc=>?_,λc=>?_⟩
 .show k<=4;unfold kindB at hk;split at hk
  .cases hk;exact k2
  split at hk
  .cases hk;exact k2
  split at hk
  .cases hk;omega
  cases hk
 .have c:ws.getD 2 []=ji:=c;rw[c]at hk;cases hk;exact⟨k1,k2⟩
def Ed{r:List Int}(h:gw ws=some r):∀x∈r,0<=x:=by
 unfold gw at h;split at h
 .cases h
 split at h
 .cases h
 split at h
 .cases h
 cases h;intro x hx;obtain⟨i,_,rfl⟩:=mem_map.mp (mem_filter.mp hx).1;omega
def ju{ps:List MP}(h:d6 codes=some (rs,ps)):(∀q∈ps,Uq rs q)/\∀r∈rs,∀x∈r,0<=x:=by
 unfold d6 at h;split at h
 .cases h
 .cases h
 split at h
 .cases h
 split at h
 .cases h
 split at h
 .cases h
 rename_i hr;split at h
 .cases h
 split at h
 .cases h
 rename_i hq;split at h
 .cases h;refine⟨λp hp=>?_,λr hm=>?_⟩
  .obtain⟨ws,_,h1⟩:=oH hq p hp;exact Nm h1
  .obtain⟨ws,_,h1⟩:=oH hr r hm;exact Ed h1
 .cases h
def zQ(ns bs ms:List Int)(r:Int×Int×Option (List (List Int)×MP×Int×List (List Int)×Option (List Int))):Prop:=
 if 65536<ns.length\/4096<bs.length then r=(-2,0,none)else match d6 (qh ns)with
  |none=>r=(-8,0,none)|some (rs,ps)=>(jS (cb bs) rs ps none/\r=(-6,0,none))\/∃b,jS (cb bs) rs ps (some b)/\r=if gB ms (countM rs b.1)=true then(0,countM rs b.1,some (rs,b))else(-3,0,none)
def aa2(K:PySem.W.Frag)(Cp Cb:Addr)(H:Hp)(v:V):Option (List (List Int)×MP×Int×List (List Int)×Option (List Int))->Prop
 |none=>v=.cT|some b=>zM K Cp Cb H v b.1 b.2
noncomputable abbrev Lj:Stmt:=top 78
def QP(K:PySem.W.Frag)(Cp Cb Ca:Addr):Sp:=λvs H Q _=>∃(a b m:Addr) (ns bs ms:List Int),vs=[.ref a,.ref b,.ref m]/\aJ K H a (ns.map V.int)/\(∀x∈ns,0<=x/\x<=255)/\ns.length<=66000/\aJ K H b (bs.map V.int)/\(∀x∈bs,0<=x/\x<=255)/\bs.length<=4200/\aJ K H m (ms.map V.int)/\ms.length<=16000/\ms.length%2=0/\
 ∀r H' x dx v,zQ ns bs ms r->aw H H'->H' x=some (.ins Ca dx (aaC r.1 r.2.1 v))->aa2 K Cp Cb H' v r.2.2->Q (.ref x) H'
def Ee:aC ["card","bet","money","pools","told","combinations"] ["card","bet","money"] (ao Lj):=by ac_nf
def Ux(D:Def K mg "ask_bet" Lj ["card","bet","money"])(T:Tx mg)(NCF:Nc K mg NC)(VD:Nb K mg NB)(cM:CLA P w K mg base Ca)(jT:CL P w K mg base "Bet" Cb ["self","pool","stake","sets","numbers"] (jt Cb) ["pool","stake","sets","numbers"])(oX:Ok P w K mg base (fT P w) 5 "read_card" ["codes"] (PR K NC Cp))(rP:Ok P w K mg base (fT P w) 5 "read_bet" ["codes","pools"] (QK K NB Cp Cb))(rQ:Ok P w K mg base eJ 2 "is_right" ["money","combinations"] (KL K))(fm:Ok P w K mg base eJ 3 "count_combinations" ["pool"] (KO Cp)):Ok P w K mg base eJ 6 "ask_bet" ["card","bet","money"] (QP K Cp Cb Ca):=by
 refine D.ok0 Ee (λvs H Q E h=>?_) (λf b8 A outer s H vs Q E hr h=>?_)
 .obtain⟨_,_,_,_,_,_,rfl,_⟩:=h;rfl
 .obtain⟨a,b,m,ns,bs,ms,rfl,hS,hb,hl,hB,Z8,hbl,hM,ml,m2,kQ⟩:=h;refine⟨_,(uC (PS.ps0 (cZ (PW.pt (U5 (bt yb (aB aA (by rfl) T.b_ bF (ae (pv 0) ai)) (cK T.dj rfl) (aG _)) (N9 (bt yb (aB aA (by rfl) T.b_ bF (ae (pv 1) ai)) (cK T.dN rfl) (aG _))))) (au (aI (yw cM (List.Mem.tail _ (List.Mem.tail _ (List.Mem.head _))) (hr.n ⋯) rfl (ae (qI kM aq) ai)))) bD)) (uC (Kq rfl rfl rfl rfl NCF.mg NCF.ex (by decide+kernel) (λE xe xr=>(au (aM (i:=3) Ee.nd rfl (Or.inl rfl) (ax (E:=E) oX (hr.mono ⋯) rfl (aX xr) (ae (pv 0) ai))))) (λe xe=>(au (aI (yw cM (List.Mem.tail _ (List.Mem.tail _ (List.Mem.head _))) (hr.nm ⋯) rfl (ae (qI kM aq) ai)))))) (uC (Kq rfl rfl rfl rfl VD.mg VD.ex (by decide+kernel) (λE xe xr=>(au (aM (i:=4) Ee.nd rfl (Or.inl rfl) (ax (E:=E) rP (hr.mono ⋯) rfl (aX xr) (ae (pv 1) (ae (pv 3) ai)))))) (λe xe=>(au (aI (yw cM (List.Mem.tail _ (List.Mem.tail _ (List.Mem.head _))) (hr.nm ⋯) rfl (ae (qI kM aq) ai)))))) (vM.adi (ag (aM (i:=5) Ee.nd rfl (Or.inl rfl) (ax fm (hr.mono ⋯) rfl cp (ae (bu (pv 4) rfl) ai))) (ag (cZ (x5 (um (ax rQ (hr.mono ⋯) rfl cp (ae (pv 2) (ae (pv 5) ai))))) (au (aI (yw cM (List.Mem.tail _ (List.Mem.tail _ (List.Mem.head _))) (hr.n ⋯) rfl (ae (qI kM aq) ai)))) bD) (au (aI (yw cM (List.Mem.head _) (hr.n ⋯) rfl (ae aq (ae (pv 5) (ae (pv 4) ai)))))))))))),?_⟩;have hz:=bH;have eF:∀r,zQ ns bs ms r=zQ ns bs ms r:=λ_=>rfl
  conv at eF=>ext r;rhs;unfold zQ
  have mk:∀(H1:Hp)(r c:Int)(v:V)(o:Option (List (List Int)×MP×Int×List (List Int)×Option (List Int))),aw H H1->zQ ns bs ms (r,c,o)->aa2 K Cp Cb H1 v o->∀x dx,H1 x=none->H1 dx=none->dx≠x->oQ Ca [.ref x,.int r,.int c,v] (upd (upd H1 dx (.own x)) x (.ins Ca dx [])) (λv H2=>v=.cT/\Q (.ref x) H2) E0:=by
   intro H1 r c v o s1 e hv x dx nx ndx nex;refine⟨x,dx,r,c,v,rfl,ak,λH2 h2 k2=>⟨rfl,?_⟩⟩;have s2:=aw.made nx ndx k2;refine kQ _ H2 x dx v e (s1.trans s2) h2 ?_;cases o with
   |none=>exact hv|some o=>exact zM.same (K:=K) hv s2
  simp? only[];refine⟨_,.inl hS,?_⟩;rw[az];refine bj (λc=>?_) (λc=>?_)
  .exact mk H _ _ _ none aw.rfl' (by rw[eF,ah (.inl ())]) rfl
  refine⟨_,.inl hB,?_⟩;rw[az];refine bj (λd=>?_) (λd=>?_)
  .exact mk H _ _ _ none aw.rfl' (by rw[eF,ah (.inr ())]) rfl
  simp only[if_neg (show¬(65536<ns.length\/4096<bs.length) by omega)]at eF;simp? only[bS];refine⟨λcls _ H'=>cls=.ref NC/\d6 (cb ns)=none/\aw H H',?_,?_⟩
  .refine⟨a,ns,rfl,hS,hb,hl,λrs ps ec H1 L s1 hc=>?_,λec H1 s1=>⟨rfl,ec,s1⟩⟩;have ec':d6 (qh ns)=some (rs,ps):=ec;simp only[ec']at eF;have hcb:=ju ec;have AF:=y_ ec;simp? only[];refine⟨λcls _ H'=>cls=.ref NB/\jS (cb bs) rs ps none/\aw H H',?_,?_⟩
   .refine⟨b,L,bs,rs,ps,rfl,s1.seq hB,Z8,by omega,hc,hcb.1,λr hr=>⟨AF r hr,hcb.2 r hr⟩,λr er H2 v s2 hv=>?_,λer H2 s2=>⟨rfl,er,s1.trans s2⟩⟩;have M9:=s1.trans s2;obtain⟨bb,dx,p,S',vn,rfl,h1,h2,h3,h4⟩:=id hv;simp? only[bS,n8];refine⟨Cb,dx,_,h1,jT.cl,jT.no "pool" ∅,_,rfl,p,rs,r.1,rfl,h2,(hcb.1 _ er.mem).HD,AF,λH3 s3=>?_⟩;have Uk:=M9.trans s3;refine⟨m,ms,_,rfl,Uk.seq hM,by omega,m2,λH4 s4=>⟨_,rfl,?_⟩⟩;have s34:=s3.trans s4;refine bj (λc3=>?_) (λc3=>?_)
    .exact mk H4 _ _ _ none (Uk.trans s4) (by rw[eF];exact .inr ⟨r,er,by rw[af (by rw[c3];decide)]⟩) rfl
    .exact mk H4 _ _ _ (some (rs,r)) (Uk.trans s4) (by rw[eF];exact .inr ⟨r,er,by rw[ah ‹c3›]⟩) (zM.same (K:=K) hv s34)
   .rintro σ' H' cls d ⟨rfl,er,s2⟩;refine⟨rfl,?_⟩;simp? only[];exact mk H' _ _ _ none s2 (by rw[eF];exact .inl ⟨er,rfl⟩) rfl
  .rintro σ' H' cls d ⟨rfl,ec,s1⟩;have ec':d6 (qh ns)=none:=ec;simp only[ec']at eF;refine⟨rfl,?_⟩;simp? only[];exact mk H' _ _ _ none s1 (by rw[eF]) rfl
end
section
variable {Cb Ca:Addr}
theorem zQ.ok{r:Int×Int×Option (List (List Int)×MP×Int×List (List Int)×Option (List Int))}(h:zQ ns bs ms r)(b:¬r.1<0):∃rs ps q,d6 (qh ns)=some (rs,ps)/\jS (cb bs) rs ps (some q)/\gB ms (countM rs q.1)=true/\r=(0,countM rs q.1,some (rs,q)):=by
 unfold zQ at h;split at h
 .rw[h]at b;exact absurd ⋯ b
 split at h
 .rw[h]at b;exact absurd ⋯ b
 rename_i rs ps hc;obtain⟨_,e⟩|⟨q,hq,e⟩:=h
 .rw[e]at b;exact absurd ⋯ b
 .by_cases c:gB ms (countM rs q.1)=true
  .rw[ah c]at e;exact⟨rs,ps,q,hc,hq,c,e⟩
  .rw[af c]at e;rw[e]at b;exact absurd ⋯ b
theorem jS.legs{ps:List MP}{st:Int}{ss:List (List Int)}(h:jS codes rs ps (some (q,st,ss,none)))(hp:Uq rs q):q.kind=cg/\Paired mh ss (cB rs q):=by
 unfold jS at h;split at h
 .split at h
  .split at h
   .split at h
    .cases h
    .split at h
     .cases h
     .rename_i N0;split at h
      .rename_i hk;split at h
       .have e:=Option.some.inj h;obtain⟨e1,e⟩:=Prod.mk.inj e;obtain⟨e2,e⟩:=Prod.mk.inj e;obtain⟨e3,e⟩:=Prod.mk.inj e;subst e1;subst e3;have VM:=GW N0 hp.HD.k1 (uT hp.HD) GV;exact⟨hk,(VM.legs hk).2⟩
       .cases h
      .obtain⟨nums,_,h⟩:=h;split at h
       .have e:=Option.some.inj h;obtain⟨_,e⟩:=Prod.mk.inj e;obtain⟨_,e⟩:=Prod.mk.inj e;obtain⟨_,e⟩:=Prod.mk.inj e;cases e
       .cases h
   .cases h
  .cases h
 .cases h
theorem GY:∀{ss rs:List (List Int)},Paired mh ss rs->∀z∈ss.zip rs,mh z.1 z.2
 |_,_,.nil,z,h=>by cases h
 |_,_,.cons r t,z,h=>by
  obtain e|e:=mem_cons.mp h
  .rw[e];exact r
  .exact GY t z e
theorem GZ:∀{ss rs:List (List Int)},Paired mh ss rs->∀r∈rs,1<=r.length
 |_,_,.nil,r,h=>by cases h
 |_,_,.cons g t,r,h=>by
  obtain e|e:=mem_cons.mp h
  .rw[e];exact aW (length_pos_iff.mpr g.2.2.1) g.2.2.2
  .exact GZ t r e
noncomputable def QQ(ns bs ms ans:List Int):Prop:=∃r,zQ ns bs ms r/\if r.1<0 then ans=[r.1]else(match r.2.2 with
 |none=>False
 |some (rs,q,_,ss,o)=>ans=[0,((match o with
  |some nums=>nums|none=>(dD (bK ms)).filter λn=>mj n (ss.zip (cB rs q)).reverse).map λn=>(NW n ms).getD 0).sum])
noncomputable abbrev Nn:Stmt:=top 77
noncomputable def QR(K:PySem.W.Frag):Sp:=λvs H Q _=>∃(a b m:Addr) (ns bs ms:List Int),vs=[.ref a,.ref b,.ref m]/\aJ K H a (ns.map V.int)/\(∀x∈ns,0<=x/\x<=255)/\ns.length<=66000/\aJ K H b (bs.map V.int)/\(∀x∈bs,0<=x/\x<=255)/\bs.length<=4200/\aJ K H m (ms.map V.int)/\ms.length<=16000/\ms.length%2=0/\
 ∀ans H' p,QQ ns bs ms ans->H' p=some (.lst (ans.map V.int))->Q (.ref p) H'
def Lk:aC ["card","bet","money","asked","numbers"] ["card","bet","money"] (ao Nn):=by ac_nf
def Yc(F:Ko K "bet" "bet" Nn f fd)(T:Tx mg)(cM:CLA P w K mg base Ca)(jT:CL P w K mg base "Bet" Cb ["self","pool","stake","sets","numbers"] (jt Cb) ["pool","stake","sets","numbers"])(aN:CL P w K mg base "Pool" Cp ["self","name","kind","k","races","unit"] (cU Cp) ["name","kind","k","races","unit"])(uU:Ok P w K mg base eJ 6 "ask_bet" ["card","bet","money"] (QP K Cp Cb Ca))(fE:Ok P w K mg base eJ 2 "leg_numbers_among" ["numbers","sets","races"] Lh)(zR:Ok P w K mg base eJ 2 "sum_on" ["money","numbers"] (Li K)):n9 P w K mg base eJ 7 f fd ["card","bet","money"] (QR K):=by
 refine F.ok Lk (λvs H Q E h=>?_) (λb8 A outer s H vs Q E hr h=>?_)
 .obtain⟨_,_,_,_,_,_,rfl,_⟩:=h;rfl
 .obtain⟨a,b,m,ns,bs,ms,rfl,hS,hb,hl,hB,Z8,hbl,hM,ml,m2,kQ⟩:=h;refine⟨_,(ag (aM (i:=3) Lk.nd rfl (Or.inl rfl) (ax uU (hr.mono ⋯) rfl cp (ae (pv 0) (ae (pv 1) (ae (pv 2) ai))))) (ag (cZ (bt Bn (bu (pv 3) rfl) aq (aG _)) (au (aI (kN (ae (bu (pv 3) rfl) ai)))) bD) (ag (aM (i:=4) Lk.nd rfl (Or.inl rfl) (bu (bu (pv 3) rfl) rfl)) (ag (cZ (bt Ws (pv 4) xZ (aG _)) (au (aM (i:=4) Lk.nd rfl (Or.inl rfl) (ax fE (hr.mono ⋯) rfl cp (ae (qe (pv 2) aq aq) (ae (bu (bu (pv 3) rfl) rfl) (ae (bu (bu (bu (pv 3) rfl) rfl) rfl) ai)))))) bD) (au (aI (kN (ae aq (ae (ax zR (hr.mono ⋯) rfl cp (ae (pv 2) (ae (pv 4) ai))) ai))))))))),?_⟩;have hz:=cx;simp? only[ow,n8];refine⟨a,b,m,ns,bs,ms,rfl,hS,hb,hl,hB,Z8,hbl,hM,ml,m2,λr H1 x dx v hA s1 h1 hv=>?_⟩;refine⟨x,rfl,Ca,dx,_,h1,cM.cl,cM.no "refusal" ∅,_,rfl,_,rfl,?_⟩;refine bj (λb=>?_) (λb=>?_)
  .refine⟨x,rfl,Ca,dx,_,h1,cM.cl,cM.no "refusal" ∅,_,rfl,by omega,λy hy=>kQ [r.1] _ y ⟨r,hA,by rw[ah b]⟩ ak⟩
  .obtain⟨rs,ps,⟨q,st,ss,o⟩,ec,er,Yd,rfl⟩:=hA.ok b;obtain⟨bb,dxb,p,S',vn,rfl,g1,g2,g3,g4⟩:=id hv;simp? only[bS,ow,n8];refine⟨Ca,dx,_,h1,cM.cl,cM.no "bet" ∅,_,rfl,bb,rfl,Cb,dxb,_,g1,jT.cl,jT.no "numbers" ∅,vn,rfl,?_⟩;have Uy:=Gq Yd;cases o with
   |none=>
    have g4:vn=.cT:=g4;subst g4;obtain⟨hk,hgs⟩:=jS.legs er ((ju ec).1 _ er.mem);have Ye:=((ju ec).1 _ er.mem).HD;have Vz:=uT Ye hk;have hk2:=Ye.k2;have E5:(dD (bK ms)).length<=8000:=by
     unfold dD;rw[az,zf];omega
    obtain⟨pp,dxp,Rr,e0,mq,YQ⟩:=id g2;cases e0;simp? only[bS,ow,n8,OZ];refine⟨ms.map V.int,0,rfl,s1.seq hM,λpL hpL=>?_⟩;have sL:aw H1 (upd H1 pL (.lst (L2.bp ((ms.map V.int).drop 0)))):=aw.new hpL;refine⟨Ca,dx,_,sL _ _ h1,cM.cl,cM.no "bet" ∅,_,rfl,bb,rfl,Cb,dxb,_,sL _ _ g1,jT.cl,jT.no "sets" ∅,_,rfl,Ca,dx,_,sL _ _ h1,cM.cl,cM.no "bet" ∅,_,rfl,bb,rfl,Cb,dxb,_,sL _ _ g1,jT.cl,jT.no "pool" ∅,_,rfl,p,rfl,Cp,dxp,_,sL _ _ mq,aN.cl,aN.no "races" ∅,_,rfl,?_⟩;refine⟨pL,S',Rr,dD (bK ms),ss,cB rs q,rfl,by rw[ak,pV,rO ms m2,ck];rfl,by omega,nV.same g3 sL,nV.same YQ sL,Paired.dQ hgs,by omega,λr hr=>⟨GZ hgs r hr,by have:=y_ ec r (GU Ye r hr);omega⟩,λH2 pN s2 nN hN=>?_⟩;refine⟨m,pN,ms,_,rfl,(s1.trans (sL.trans s2)).seq hM,m2,ml,Uy,hN,aW (kG _ _) (),λH3 s3=>⟨by omega,λy hy=>kQ [0,_] _ y ⟨_,hA,(af b).mpr rfl⟩ ak⟩⟩
   |some nums=>
   obtain⟨L,rfl,hL,nl⟩:=g4;rw[af (by intro z;cases z)];exact⟨m,L,ms,nums,rfl,s1.seq hM,m2,ml,Uy,hL,by omega,λH3 s3=>⟨by omega,λy hy=>kQ [0,_] _ y ⟨_,hA,(af b).mpr rfl⟩ ak⟩⟩
end
end Pd
end
section
namespace Pd
open Tote
theorem zS{f:α->List β}{z:Nat}:∀{l:List α},(∀x∈l,(f x).length=z)->∀{n},n<l.length*z->∃x,l[n/z]?=some x/\(l.flatMap f)[n]?=(f x)[n%z]?
 |[],_,n,h=>by simp at h
 |a::l,hf,n,h=>by
  have ha:=hf a ∅;have hz:0<z:=by
   obtain e|e:=wy z
   .subst e;simp at h
   .exact e
  rw[kI];by_cases hn:n<z
  .refine⟨a,?_,?_⟩
   .rw[Nat.div_eq_of_lt hn];rfl
   .rw[sk (by rw[ha];exact hn),Nat.mod_eq_of_lt hn]
  .have h':n-z<l.length*z:=by
    rw[aY,Nat.add_mul,wX]at h;omega
   obtain⟨x,h1,h2⟩:=zS (λx hx=>hf x (by simp[hx])) h';have e1:n/z=(n-z)/z+1:=by
    rw[<-Nat.add_div_right _ hz,Nat.sub_add_cancel ()]
   have e2:n%z=(n-z)%z:=by
    rw[<-Nat.add_mod_right (n-z) z,Nat.sub_add_cancel ()]
   refine⟨x,?_,?_⟩
   .rw[e1];exact h1
   .rw[sh (by rw[ha];omega),ha,h2,e2]
theorem zT{f:α->List β}{z:Nat}:∀{l:List α},(∀x∈l,(f x).length=z)->(l.flatMap f).length=l.length*z
 |[],_=>by simp
 |a::l,h=>by
  rw[kI,dr,zT λx hx=>h x (by simp[hx]),h a ∅,aY,Nat.add_mul,wX,sQ]
def jU{l:List Nat}(nd:l.Nodup){x:Nat}(h:l[i]?=some x):(l.findIdx λy=>y==x)=i:=by
 obtain⟨hi,e⟩:=List.getElem?_eq_some_iff.mp h;rw[findIdx_eq hi];refine⟨by simp[e],λj hj=>?_⟩;have hj':=Nat.lt_trans hj hi;simp only[beq_eq_false_iff_ne];intro z;have:=(getElem_inj (h₁:=hi) nd).mp (z.trans e.symm);omega
noncomputable def cu:Nat->List Nat->List (List Nat)
 |0,_=>[[]]|k+1,av=>av.flatMap λx=>(cu k (av.erase x)).map λr=>x::r
theorem xI:∀k {av},av.Nodup->(cu k av).length=orders av.length k
 |0,av,_=>by cases av<;>rfl
 |k+1,[],_=>rfl
 |k+1,a::l,nd=>by
  have h:∀x∈(a::l),((cu k ((a::l).erase x)).map λr=>x::r).length=orders l.length k:=λx hx=>by
   rw[az,xI k (nd.erase x),qY hx];rfl
  show((a::l).flatMap _).length=(l.length+1)*orders l.length k;rw[zT h];rfl
theorem vI:∀k {av} {r},r∈cu k av->r.length=k
 |0,av,r,h=>by
  have:r=[]:=by simpa[cu]using h
  rw[this];rfl
 |k+1,av,r,h=>by
  obtain⟨x,hx,hr⟩:=mem_flatMap.mp h;obtain⟨q,hq,rfl⟩:=mem_map.mp hr;rw[aY,vI k hq]
theorem Jr:∀k {av} (nd:av.Nodup) {n},n<orders av.length k->(cu k av)[n]?=some (rowOrder k av n)/\rankOrder av (rowOrder k av n)=n
 |0,av,nd,n,h=>by
  have hn:n=0:=by
   have:orders av.length 0=1:=by cases av<;>rfl
   omega
  subst hn;exact⟨rfl,rfl⟩
 |k+1,[],nd,n,h=>by simp[orders]at h
 |k+1,a::l,nd,n,h=>by
  have hb:∀x∈(a::l),((cu k ((a::l).erase x)).map λr=>x::r).length=orders l.length k:=λx hx=>by
   rw[az,xI k (nd.erase x),qY hx];rfl
  have h':n<(a::l).length*orders l.length k:=h;obtain⟨x,h1,h2⟩:=zS (l:=a::l) hb h';have hx:x∈(a::l):=bh h1;have hz:0<orders l.length k:=by
   obtain e|e:=wy (orders l.length k)
   .rw[e]at h';simp at h'
   .exact e
  have hm:n%orders l.length k<orders ((a::l).erase x).length k:=by
   rw[qY hx];exact kb _ hz
  obtain⟨i1,i2⟩:=Jr k (nd.erase x) hm;have er:rowOrder (k+1) (a::l) n=x::rowOrder k ((a::l).erase x) (n%orders l.length k):=by
   show((a::l).getD (n/orders ((a::l).length-1) k) 0)::rowOrder k ((a::l).erase ((a::l).getD (n/orders ((a::l).length-1) k) 0)) (n%orders ((a::l).length-1) k)=_;have e0:(a::l).length-1=l.length:=rfl;have e1:(a::l).getD (n/orders l.length k) 0=x:=by
    rw[cQ,h1];rfl
   rw[e0,e1]
  rw[er];refine⟨?_,?_⟩
  .show((a::l).flatMap λx=>(cu k ((a::l).erase x)).map λr=>x::r)[n]?=_;rw[h2,a_,i1];rfl
  .have hl:(rowOrder k ((a::l).erase x) (n%orders l.length k)).length=k:=vI k (bh i1);show((a::l).findIdx λy=>y==x)*orders ((a::l).length-1) (rowOrder k ((a::l).erase x) (n%orders l.length k)).length+rankOrder ((a::l).erase x) (rowOrder k ((a::l).erase x) (n%orders l.length k))=n;rw[jU nd h1,i2,hl];show n/orders l.length k*orders l.length k+n%orders l.length k=n;exact Nat.div_add_mod' n _
theorem qp:∀k {av} (nd:av.Nodup) {r},r∈cu k av↔r.length=k/\r.Nodup/\∀x∈r,x∈av
 |0,av,nd,r=>by
  constructor
  .intro h;have:r=[]:=by simpa[cu]using h
   subst this;exact⟨rfl,by simp,by simp⟩
  .rintro⟨h,_⟩;have:=length_eq_zero_iff.mp h;subst this;simp[cu]
 |k+1,av,nd,r=>by
  constructor
  .intro h;obtain⟨x,hx,hr⟩:=mem_flatMap.mp h;obtain⟨q,hq,rfl⟩:=mem_map.mp hr;obtain⟨h1,h2,h3⟩:=(qp k (nd.erase x)).mp hq;refine⟨by rw[aY,h1],nodup_cons.mpr ⟨λz=>?_,h2⟩,λy hy=>?_⟩
   .exact absurd rfl ((nd.mem_erase_iff).mp (h3 x z)).1
   .obtain e|hy:=mem_cons.mp hy
    .rw[e];exact hx
    .exact mem_of_mem_erase (h3 y hy)
  .rintro⟨h1,h2,h3⟩;cases r with
   |nil=>simp at h1
   |cons x q=>
    obtain⟨n1,n2⟩:=nodup_cons.mp h2;refine mem_flatMap.mpr ⟨x,h3 x ∅,mem_map.mpr ⟨q,(qp k (nd.erase x)).mpr ⟨‹h1›,n2,λy hy=>?_⟩,rfl⟩⟩;exact(nd.mem_erase_iff).mpr ⟨λe=>n1 (e▸hy),h3 y (by simp[hy])⟩
noncomputable def fL:Nat->Nat->Nat
 |_,0=>1|0,_+1=>0
 |n+1,k+1=>fL n k+fL n (k+1)
theorem nq:∀k av,(risingRows k av).length=fL av.length k
 |0,av=>by cases av<;>rfl
 |k+1,[]=>rfl
 |k+1,x::l=>by
  show(((risingRows k l).map λr=>x::r)++risingRows (k+1) l).length=fL l.length k+fL l.length (k+1);rw[dr,az,nq k l,nq (k+1) l]
theorem nZ:∀k:Nat,0<orders k k
 |0=>by decide|k+1=>Nat.mul_pos (jf k) (nZ k)
def kr n:orders n 0=1:=by cases n<;>rfl
def G0:∀n k,orders (n+1) (k+1)=orders n (k+1)+(k+1)*orders n k:=λn k=>by
 have h:=oG n k;have e:(orders (n+1) (k+1):Int)=((n:Int)+1)*(orders n k:Int):=by
  show(((n+1)*orders n k:Nat):Int)=_;rfl
 have e2:(orders (n+1) (k+1):Int)=((orders n (k+1)+(k+1)*orders n k:Nat):Int):=by
  rw[e,CJ,h,pG,CJ,Int.mul_sub,wY,wY];rw[sV (orders n k:Int) (n:Int),sV (orders n k:Int) (k:Int)];omega
 exact Int.ofNat.inj e2
theorem nr:∀n k:Nat,fL n k*orders k k=orders n k
 |n,0=>by
  have:fL n 0=1:=by cases n<;>rfl
  rw[this,kr,kr]
 |0,k+1=>by
  show 0*_=orders 0 (k+1);rw[Nat.zero_mul];rfl
 |n+1,k+1=>by
  have h1:=nr n k;have h2:=nr n (k+1);rw[G0 n k,<-h2,<-h1];show(fL n k+fL n (k+1))*((k+1)*orders k k)=fL n (k+1)*((k+1)*orders k k)+(k+1)*(fL n k*orders k k);rw[Nat.add_mul,sQ];congr 1;rw[Nat.mul_left_comm]
def qt n k:choose n k=fL n k:=by
 unfold choose;rw[<-nr n k];exact Nat.mul_div_cancel _ (nZ k)
theorem gQ:∀k {av r},r∈risingRows k av->r.length=k
 |0,av,r,h=>by
  have:r=[]:=by cases av<;>simpa[risingRows]using h
  rw[this];rfl
 |k+1,[],r,h=>by simp[risingRows]at h
 |k+1,x::l,r,h=>by
  obtain h|h:=mem_append.mp h
  .obtain⟨q,hq,rfl⟩:=mem_map.mp h;rw[aY,gQ k hq]
  .exact gQ (k+1) h
theorem iF:∀k {av r},r∈risingRows k av->∀y∈r,y∈av
 |0,av,r,h,y,hy=>by
  have:r=[]:=by cases av<;>simpa[risingRows]using h
  rw[this]at hy;simp at hy
 |k+1,[],r,h,y,hy=>by simp[risingRows]at h
 |k+1,x::l,r,h,y,hy=>by
  obtain h|h:=mem_append.mp h
  .obtain⟨q,hq,rfl⟩:=mem_map.mp h;obtain e|hy:=mem_cons.mp hy
   .rw[e];simp
   .exact bE _ (iF k hq y hy)
  .exact bE _ (iF (k+1) h y hy)
def Np{x y:Nat}{l:List Nat}(h:x≠y):rankAny (x::l) (y::r)=choose l.length r.length+rankAny l (y::r):=by
 have hi:((x::l).findIdx λz=>z==y)=(l.findIdx λz=>z==y)+1:=by
  rw[findIdx_cons];have:(x==y)=false:=‹h›
  rw[this];rfl
 have e:∀av:List Nat,rankAny av (y::r)=((List.range (av.findIdx λz=>z==y)).map λ(j:Nat)=>choose (av.length-1-j) r.length).foldl (λ(a b:Nat)=>a+b) 0+rankAny (av.drop ((av.findIdx λz=>z==y)+1)) r:=λ_=>rfl;rw[e,e,hi,range_succ_eq_map,aP,dW,ck];have f:∀(m:List Nat)(a b:Nat),m.foldl (λ(a b:Nat)=>a+b) (a+b)=a+m.foldl (λ(a b:Nat)=>a+b) b:=by
  intro m
  induction m with
  |nil=>intro a b;rfl|cons c m ih=>intro a b;rw[dW,dW,Nat.add_assoc,ih]
 have g:(List.range (l.findIdx λz=>z==y)).map ((λ(j:Nat)=>choose ((x::l).length-1-j) r.length)∘Nat.succ)=(List.range (l.findIdx λz=>z==y)).map λ(j:Nat)=>choose (l.length-1-j) r.length:=by
  refine fQ λj _=>?_;show choose (l.length+1-1-(j+1)) r.length=_;congr 1;omega
 rw[g];have e0:(0:Nat)+choose ((x::l).length-1-0) r.length=choose l.length r.length+0:=by
  show 0+choose (l.length+1-1-0) r.length=_;rw[Nat.add_sub_cancel,Nat.sub_zero,iU,sE]
 rw[e0,f,Nat.add_assoc];rfl
def Nq{x:Nat}{l:List Nat}:rankAny (x::l) (x::r)=rankAny l r:=by
 have hi:((x::l).findIdx λz=>z==x)=0:=by
  rw[findIdx_cons];simp
 have e:rankAny (x::l) (x::r)=((List.range ((x::l).findIdx λz=>z==x)).map λ(j:Nat)=>choose ((x::l).length-1-j) r.length).foldl (λ(a b:Nat)=>a+b) 0+rankAny ((x::l).drop (((x::l).findIdx λz=>z==x)+1)) r:=rfl;rw[e,hi];simp
theorem Js:∀f k {av} (nd:av.Nodup) {n},av.length<f->n<fL av.length k->(risingRows k av)[n]?=some (rowAny f k av n)/\rankAny av (rowAny f k av n)=n
 |0,_,_,_,_,h,_=>by omega
 |f+1,0,av,nd,n,hf,h=>by
  have hn:n=0:=by
   have:fL av.length 0=1:=by cases av<;>rfl
   omega
  subst hn;have e:rowAny (f+1) 0 av 0=[]:=by cases av<;>rfl
  exact⟨by cases av<;>rfl,rfl⟩
 |f+1,k+1,[],nd,n,hf,h=>by
  have:n<0:=h;omega
 |f+1,k+1,x::l,nd,n,hf,h=>by
  obtain⟨n1,n2⟩:=nodup_cons.mp nd;have hf':l.length<f:=‹hf›
  have h':n<fL l.length k+fL l.length (k+1):=h;have er:rowAny (f+1) (k+1) (x::l) n=if n<choose l.length k then x::rowAny f k l n else rowAny f (k+1) l (n-choose l.length k):=rfl
  have es:risingRows (k+1) (x::l)=((risingRows k l).map λr=>x::r)++risingRows (k+1) l:=rfl;have el:((risingRows k l).map λr=>x::r).length=fL l.length k:=by rw[az,nq]
  rw[er,es,qt];by_cases hn:n<fL l.length k
  .obtain⟨i1,i2⟩:=Js f k n2 hf' hn;rw[ah hn];refine⟨?_,?_⟩
   .rw[sk (by rw[el];exact hn),a_,i1];rfl
   .rw[Nq];exact i2
  .have hn':n-fL l.length k<fL l.length (k+1):=by omega
   obtain⟨i1,i2⟩:=Js f (k+1) n2 hf' hn';rw[af hn];refine⟨?_,?_⟩
   .rw[sh (by rw[el];omega),el,i1]
   .have hm:=bh i1;have hlen:=gQ _ hm;have M7:=iF _ hm;generalize rowAny f (k+1) l (n-fL l.length k)=row at*;cases row with
    |nil=>simp at hlen
    |cons y r=>
     have hy:=M7 y ∅;have iB:x≠y:=λe=>n1 (e▸hy);rw[Np iB,i2,qt];have:r.length=k:=‹hlen›
     rw[this];omega
theorem nu:∀hs:List (List Nat),(rowsOf hs).length=product (hs.map List.length)
 |[]=>rfl
 |h::t=>by
  have hb:∀x∈h,((rowsOf t).map λr=>x::r).length=product (t.map List.length):=λx _=>by rw[az,nu t]
  show(h.flatMap λx=>(rowsOf t).map λr=>x::r).length=_;rw[zT hb,aP];unfold product;rw[dW,wX];have f:∀(m:List Nat)(a b:Nat),m.foldl (λ(a b:Nat)=>a*b) (a*b)=a*m.foldl (λ(a b:Nat)=>a*b) b:=by
   intro m
   induction m with
   |nil=>intro a b;rfl|cons c m ih=>intro a b;rw[dW,dW,sJ,ih]
  have:=f (t.map List.length) h.length 1;rw[wW]at this;exact this.symm
def t8 a l:product (a::l)=a*product l:=by
 unfold product;have f:∀(m:List Nat)(a b:Nat),m.foldl (λ(a b:Nat)=>a*b) (a*b)=a*m.foldl (λ(a b:Nat)=>a*b) b:=by
  intro m
  induction m with
  |nil=>intro a b;rfl|cons c m ih=>intro a b;rw[dW,dW,sJ,ih]
 rw[dW,wX];have:=f l a 1;rw[wW]at this;exact this
theorem Ln:∀{hs}(nd:∀h∈hs,h.Nodup){n},n<product (hs.map List.length)->(rowsOf hs)[n]?=some (rowLegs hs n)/\rankLegs hs (rowLegs hs n)=n
 |[],nd,n,h=>by
  have:n=0:=by
   have:n<1:=h;omega
  subst this;exact⟨rfl,rfl⟩
 |a::t,nd,n,h=>by
  have hb:∀x∈a,((rowsOf t).map λr=>x::r).length=product (t.map List.length):=λx _=>by rw[az,nu t]
  rw[aP,t8]at h;obtain⟨x,h1,h2⟩:=zS hb h;have hz:0<product (t.map List.length):=by
   obtain e|e:=wy (product (t.map List.length))
   .rw[e]at h;simp at h
   .exact e
  obtain⟨i1,i2⟩:=Ln (hs:=t) (λq hq=>nd q (by simp[hq])) (kb n hz);have er:rowLegs (a::t) n=x::rowLegs t (n%product (t.map List.length)):=by
   show a.getD (n/product (t.map List.length)) 0::_=_;rw[cQ,h1];rfl
  rw[er];refine⟨?_,?_⟩
  .show(a.flatMap λx=>(rowsOf t).map λr=>x::r)[n]?=_;rw[h2,a_,i1];rfl
  .show(a.findIdx λy=>y==x)*product (t.map List.length)+rankLegs t (rowLegs t (n%product (t.map List.length)))=n;rw[jU (nd a ∅) h1,i2];exact Nat.div_add_mod' n _
abbrev Up(l:List Nat):Prop:=l.Pairwise (·<·)
def Up.nodup{l:List Nat}(h:Up l):l.Nodup:=h.imp λh=>bx h
theorem ie:∀l:List Nat,risesN l=true↔Up l
 |[]=>by simp[risesN]|[x]=>by simp[risesN]
 |x::y::l=>by
  show(decide (x<y)&&risesN (y::l))=true↔_;rw[bC,fB,ie (y::l)];rw[show Up (x::y::l)↔(∀z∈y::l,x<z)/\Up (y::l)from pairwise_cons];constructor
  .rintro⟨h,p⟩;refine⟨λz hz=>?_,p⟩;obtain e|hz:=mem_cons.mp hz
   .rw[e];exact h
   .exact Nat.lt_trans h ((pairwise_cons.mp p).1 z hz)
  .rintro⟨h,p⟩;exact⟨h y ∅,p⟩
theorem gf:∀{r l},Up r->Up l->(∀x∈r,x∈l)->r.Sublist l
 |[],l,_,_,_=>nil_sublist l|x::r,[],_,_,h=>absurd (h x ∅) ∅
 |x::r,y::l,hr,hl,h=>by
  obtain⟨r1,r2⟩:=pairwise_cons.mp hr;obtain⟨l1,l2⟩:=pairwise_cons.mp hl;by_cases e:x=y
  .subst e;refine(gf r2 l2 λz hz=>?_).cons_cons x;obtain e|h':=mem_cons.mp (h z (by simp[hz]))
   .have:=r1 z hz;omega
   .exact h'
  .refine(gf hr l2 λz hz=>?_).cons y;have hx:x∈l:=by
    obtain e'|h':=mem_cons.mp (h x ∅)
    .exact absurd e' e
    .exact h'
   obtain e'|h':=mem_cons.mp (h z hz)
   .subst e';have hzx:=l1 x hx;obtain e'|E3:=mem_cons.mp hz
    .omega
    .have:=r1 z E3;omega
   .exact h'
theorem d5:∀k {av r},r∈risingRows k av↔r.length=k/\r.Sublist av
 |0,av,r=>by
  have e:risingRows 0 av=[[]]:=by cases av<;>rfl
  rw[e];constructor
  .intro h;have:r=[]:=by simpa using h
   subst this;exact⟨rfl,nil_sublist _⟩
  .rintro⟨h,_⟩;have:=length_eq_zero_iff.mp h;simp[this]
 |k+1,[],r=>by
  constructor
  .intro h;simp[risingRows]at h
  .rintro⟨h,hs⟩;have:=sublist_nil.mp hs;subst this;simp at h
 |k+1,x::l,r=>by
  have es:risingRows (k+1) (x::l)=((risingRows k l).map λr=>x::r)++risingRows (k+1) l:=rfl;rw[es,jh,d5 (k+1)];constructor
  .rintro(h|⟨h1,h2⟩)
   .obtain⟨q,hq,rfl⟩:=mem_map.mp h;obtain⟨h1,h2⟩:=(d5 k).mp hq;exact⟨by rw[aY,h1],h2.cons_cons x⟩
   .exact⟨h1,h2.cons x⟩
  .rintro⟨h1,h2⟩;cases h2 with
   |cons _ h=>exact .inr ⟨h1,h⟩|cons_cons _ h=>exact .inl (mem_map.mpr ⟨_,(d5 k).mpr ⟨‹h1›,h⟩,rfl⟩)
theorem ig:∀{hs}{r},r∈rowsOf hs↔r.length=hs.length/\(r.zip hs).all (λ(z:Nat×List Nat)=>z.2.contains z.1)=true
 |[],r=>by
  show r∈ [[]]↔_;constructor
  .intro h;have:r=[]:=by simpa using h
   subst this;exact⟨rfl,rfl⟩
  .rintro⟨h,_⟩;have:=length_eq_zero_iff.mp h;simp[this]
 |h::t,r=>by
  constructor
  .intro hm;obtain⟨x,hx,hr⟩:=mem_flatMap.mp hm;obtain⟨q,hq,rfl⟩:=mem_map.mp hr;obtain⟨h1,h2⟩:=ig.mp hq;refine⟨by rw[aY,aY,h1],?_⟩;rw[j7,c9,h2,wU];simpa using hx
  .rintro⟨h1,h2⟩;cases r with
   |nil=>simp at h1
   |cons x q=>
    rw[j7,c9,bC]at h2;exact mem_flatMap.mpr ⟨x,‹h2.1›,mem_map.mpr ⟨q,ig.mpr ⟨‹h1›,h2.2⟩,rfl⟩⟩
theorem dO:∀{ss}{had r},r∈apartRows ss had↔r.length=ss.length/\r.Nodup/\(∀x∈r,x∉had)/\(r.zip ss).all (λ(z:Nat×List Nat)=>z.2.contains z.1)=true
 |[],had,r=>by
  show r∈ [[]]↔_;constructor
  .intro h;have:r=[]:=by simpa using h
   subst this;exact⟨rfl,by simp,by simp,rfl⟩
  .rintro⟨h,_⟩;have:=length_eq_zero_iff.mp h;simp[this]
 |s::t,had,r=>by
  constructor
  .intro hm;obtain⟨x,hx,hr⟩:=mem_flatMap.mp hm;obtain⟨q,hq,rfl⟩:=mem_map.mp hr;obtain⟨h1,h2,h3,h4⟩:=dO.mp hq;obtain⟨x1,x2⟩:=mem_filter.mp hx;have x2:x∉had:=by simpa using x2
   refine⟨by rw[aY,aY,h1],nodup_cons.mpr ⟨λz=>h3 x z ∅,h2⟩,λy hy=>?_,?_⟩
   .obtain e|hy:=mem_cons.mp hy
    .rw[e];exact x2
    .exact λz=>h3 y hy (by simp[z])
   .rw[j7,c9,h4,wU];simpa using x1
  .rintro⟨h1,h2,h3,h4⟩;cases r with
   |nil=>simp at h1
   |cons x q=>
    rw[j7,c9,bC]at h4;obtain⟨n1,n2⟩:=nodup_cons.mp h2;refine mem_flatMap.mpr ⟨x,mem_filter.mpr ⟨‹h4.1›,‹h3 x ∅›⟩,mem_map.mpr ⟨q,dO.mpr ⟨‹h1›,n2,λy hy z=>?_,h4.2⟩,rfl⟩⟩;obtain e|z:=mem_cons.mp z
    .exact n1 (e▸hy)
    .exact h3 y (by simp[hy]) z
def G3{f g:α->List β}:∀{l m:List α},l.Sublist m->(∀x∈l,(f x).Sublist (g x))->(l.flatMap f).Sublist (m.flatMap g):=by
 intro l m h
 induction h with
 |slnil=>intro _;exact List.Sublist.refl _
 |cons a _ ih=>
  intro hf;rw[kI];exact(ih hf).trans (sublist_append_right _ _)
 |cons_cons a _ ih=>
  intro hf;rw[kI,kI];exact(hf a ∅).append (ih λx hx=>hf x (by simp[hx]))
theorem zU:∀{ss hs},ss.length=hs.length->(∀z∈ss.zip hs,z.1.Sublist z.2)->(rowsOf ss).Sublist (rowsOf hs)
 |[],[],_,_=>List.Sublist.refl _|[],_::_,h,_=>by simp at h
 |_::_,[],h,_=>by simp at h
 |s::ss,h::hs,hl,hz=>by
  refine G3 (hz (s,h) ∅) λx _=>?_;exact(zU ‹hl› λz E3=>hz z (by simp[E3])).map _
def Jt:∀k {u h},u.Sublist h->(risingRows k u).Sublist (risingRows k h):=by
 intro k
 induction k with
 |zero=>
  intro u h _;have e:∀l:List Nat,risingRows 0 l=[[]]:=λl=>by cases l<;>rfl
  rw[e,e];exact List.Sublist.refl _
 |succ k ihk=>
  intro u h hs
  induction hs with
  |slnil=>exact List.Sublist.refl _
  |@cons l m x hs ih=>
   have es:risingRows (k+1) (x::m)=((risingRows k m).map λr=>x::r)++risingRows (k+1) m:=rfl;exact ih.trans (sublist_append_right _ _)
  |@cons_cons l m x hs ih=>
   have es:∀m:List Nat,risingRows (k+1) (x::m)=((risingRows k m).map λr=>x::r)++risingRows (k+1) m:=λ_=>rfl;exact((ihk hs).map _).append ih
theorem uV:∀{ss}{h had},h.Nodup->(∀s∈ss,s.Sublist h)->(apartRows ss had).Sublist (cu ss.length (h.filter λx=>!had.contains x))
 |[],h,had,nd,_=>List.Sublist.refl _
 |s::t,h,had,nd,hs=>by
  have es:apartRows (s::t) had=(s.filter λx=>!had.contains x).flatMap λx=>(apartRows t (x::had)).map λr=>x::r:=rfl;rw[es];refine G3 ((hs s ∅).filter _) λx _=>?_;have e:(h.filter λx=>!had.contains x).erase x=h.filter λy=>!(x::had).contains y:=by
   rw[List.Nodup.erase_eq_filter (nd.filter _),wV];refine jg λy _=>?_;simp only[contains_cons,Bool.not_or];congr 1
  rw[e];exact(uV nd λq hq=>hs q (by simp[hq])).map _
def jv:∀{l m:List α},l.Sublist m->m.Nodup->(∀x,x∈l↔x∈m/\p x=true)->l=m.filter p:=by
 intro l m h
 induction h with
 |slnil=>intro _ _;rfl
 |@cons l m a hs ih=>
  intro nd hx;obtain⟨n1,n2⟩:=nodup_cons.mp nd;have ha:=λz=>n1 (hs.subset z);have hp:p a=false:=by
   cases q:p a with
   |false=>rfl|true=>exact absurd ((hx a).mpr ⟨by simp,q⟩) ha
  rw[filter_cons,af (by rw[hp];exact b9)];refine ih n2 λx=>⟨λz=>⟨hs.subset z,((hx x).mp z).2⟩,λ⟨z1,z2⟩=>(hx x).mpr ⟨by simp[z1],z2⟩⟩
 |@cons_cons l m a hs ih=>
  intro nd hx;obtain⟨n1,n2⟩:=nodup_cons.mp nd;have hp:=((hx a).mp ∅).2;rw[filter_cons,ah hp];congr 1;refine ih n2 λx=>⟨λz=>⟨hs.subset z,((hx x).mp (by simp[z])).2⟩,λ⟨z1,z2⟩=>?_⟩;obtain e|z:=mem_cons.mp ((hx x).mpr ⟨by simp[z1],z2⟩)
  .subst e;exact absurd z1 n1
  .exact z
def Ef{l:List α}{f:α->β}(h:∀(n m:Nat) x,l[n]?=some x->l[m]?=some x->n=m):l.Nodup:=by
 rw[nodup_iff_pairwise_ne,pairwise_iff_getElem];intro i j hi hj hij e;have:=h i j l[i] (bg hi) (by rw[bg hj,e]);omega
def CG(C:Card):Prop:=∀r∈C.races,r.runners<=24
def oY:∀n:Nat,Up (List.range n):=λn=>pairwise_lt_range
def QS(r:Race):Up r.heads:=by
 refine qW _ ?_;rw[pO];exact(oY _).imp λh=>by omega
def QT(r:Race):∀x∈r.heads,x<=r.runners:=λx hx=>by
 unfold Race.heads at hx;obtain⟨h,_⟩:=mem_filter.mp hx;obtain⟨i,hi,rfl⟩:=mem_map.mp h;have:=mem_range.mp hi;omega
def Nr(r:Race):r.heads.length<=r.runners:=by
 refine aW (kG _ _) ?_;simp
def cX(g:CG C) i:Up (C.headsOf i)/\(∀x∈C.headsOf i,x<32)/\(C.headsOf i).length<=24:=by
 unfold Card.headsOf;cases e:C.races[i-1]? with
 |none=>exact⟨List.Pairwise.nil,by simp,by simp⟩
 |some r=>
  have hr:=g r (bh e);refine⟨QS r,λx hx=>?_,?_⟩
  .have:=QT r x hx;omega
  .have:=Nr r;show r.heads.length<=24;omega
def xJ(g:CG C) p:∀s∈C.sets p,Up s/\(∀x∈s,x<32)/\s.length<=24:=λs hs=>by
 unfold Card.sets at hs;obtain⟨i,_,rfl⟩:=mem_map.mp hs;exact cX g _
def oZ{C:Card}(h:p.kind≠ .legs):(C.sets p).headD []=C.headsOf p.race:=by
 unfold Card.sets Pool.legs;rw[af h];rfl
def qu{C:Card}(h:p.kind=.legs):(C.sets p).length=p.k:=by
 unfold Card.sets Pool.legs;rw[ah h];simp
noncomputable def bA(C:Card)(p:Pool):List (List Nat):=match p.kind with
 |.place=>cu 1 ((C.sets p).headD [])|.order=>cu p.k ((C.sets p).headD [])
 |.any=>risingRows p.k ((C.sets p).headD [])|.legs=>rowsOf (C.sets p)
def t9(g:CG C) p:Up ((C.sets p).headD [])/\(∀x∈(C.sets p).headD [],x<32)/\((C.sets p).headD []).length<=24:=by
 cases e:C.sets p with
 |nil=>exact⟨List.Pairwise.nil,by simp,by simp⟩|cons h t=>exact xJ g p h (by rw[e];simp)
def zV n:orders n 1=n:=by
 cases n with
 |zero=>rfl
 |succ n=>
  show(n+1)*orders n 0=n+1;rw[kr,wW]
def Lq(g:CG C) p:(bA C p).length=C.many p:=by
 have hu:=(t9 g p).1;unfold bA Card.many;cases p.kind with
 |place=>
  rw[xI 1 hu.nodup,zV]
 |order=>exact xI p.k hu.nodup
 |any=>
  show(risingRows _ _).length=choose _ _;rw[nq,qt]
 |legs=>exact nu _
def qv(g:CG C) p row:row∈bA C p↔C.isCombo p row=true:=by
 have hu:=(t9 g p).1;unfold bA Card.isCombo;cases p.kind with
 |place=>
  rw[qp 1 hu.nodup,bC,kz,du];constructor
  .rintro⟨h1,_,h3⟩;exact⟨h1,λx hx=>‹h3 x hx›⟩
  .rintro⟨h1,h3⟩;refine⟨h1,?_,λx hx=>‹h3 x hx›⟩
   match row,h1 with
   |[x],_=>simp
 |order=>
  rw[qp p.k hu.nodup,bC,kz,bC,fB,du];constructor
  .rintro⟨h1,h2,h3⟩;exact⟨h1,h2,λx hx=>‹h3 x hx›⟩
  .rintro⟨h1,h2,h3⟩;exact⟨h1,h2,λx hx=>‹h3 x hx›⟩
 |any=>
  rw[d5,bC,kz,bC,ie,du];constructor
  .rintro⟨h1,h2⟩;exact⟨h1,hu.sublist h2,λx hx=>‹h2.subset hx›⟩
  .rintro⟨h1,h2,h3⟩;exact⟨h1,gf h2 hu λx hx=>‹h3 x hx›⟩
 |legs=>
  rw[ig,bC,kz]
def vJ{C:Card}(h:C.isCombo p row=true):C.numberOf p row=some (match p.kind with
 |.any=>rankAny ((C.sets p).headD []) row|.legs=>rankLegs (C.sets p) row
 |_=>rankOrder ((C.sets p).headD []) row):=by
 unfold Card.numberOf;rw[af (by rw[h];exact Bool.noConfusion)] <;>first|rfl|(cases p.kind<;>rfl)
def Ju(g:CG C)(h:n<C.many p):(bA C p)[n]?=some (C.comboOf p n)/\C.numberOf p (C.comboOf p n)=some n:=by
 have hu:=t9 g p;have key:(bA C p)[n]?=some (C.comboOf p n)/\(match p.kind with
   |.any=>rankAny ((C.sets p).headD []) (C.comboOf p n)|.legs=>rankLegs (C.sets p) (C.comboOf p n)
   |_=>rankOrder ((C.sets p).headD []) (C.comboOf p n))=n:=by
  unfold Card.many at h;unfold bA Card.comboOf;cases e:p.kind with
  |place=>
   rw[e]at h;exact Jr 1 hu.1.nodup (by rw[zV];exact h)
  |order=>
   rw[e]at h;exact Jr p.k hu.1.nodup h
  |any=>
   rw[e]at h;have h:n<choose ((C.sets p).headD []).length p.k:=h;rw[qt]at h;exact Js (RUNNERS+1) p.k hu.1.nodup (by show _<25;omega) h
  |legs=>
   rw[e]at h;exact Ln (λs hs=>(xJ g p s hs).1.nodup) h
 refine⟨key.1,?_⟩;rw[vJ ((qv g p _).mp (bh key.1))];exact bW some key.2
def QU(g:CG C)(h:(bA C p)[n]?=some row):n<C.many p/\row=C.comboOf p n/\C.numberOf p row=some n:=by
 have hn:n<C.many p:=by
  rw[<-Lq g p];exact(List.getElem?_eq_some_iff.mp h).1
 obtain⟨h1,h2⟩:=Ju g hn;have e:=Option.some.inj (h.symm.trans h1);exact⟨hn,e,by rw[e];exact h2⟩
def Nt(g:CG C) p:(bA C p).Nodup:=by
 refine Ef (f:=id) λn m x h1 h2=>?_;have a:=(QU g h1).2.2;have b:=(QU g h2).2.2;exact Option.some.inj (a.symm.trans b)
def o4 l:Up (together l):=qW _ (oY 32)
def dn{l:List (List Nat)}{x:Nat}:x∈together l↔x<32/\∃s∈l,x∈s:=by
 unfold together;simp
noncomputable def RX(s heads:List Nat):Bool:=!s.isEmpty&&(risesN s&&s.all heads.contains)
def Lr{s h:List Nat}(k:RX s h=true)(hu:Up h):s.Sublist h/\s≠ []/\Up s:=by
 unfold RX at k;simp only[Bool.and_eq_true,all_eq_true]at k;obtain⟨k1,k2,k3⟩:=k;have hs:=(ie s).mp k2;exact⟨gf hs hu λx hx=>‹k3 x hx›,by intro e;rw[e]at k1;simp at k1,hs⟩
def ik(g:CG C){b:Bet}(h:C.setsRight b=true):
  ((C.pool b.pool).kind=.legs/\b.how=.on/\b.sets.length=(C.sets (C.pool b.pool)).length/\∀z∈b.sets.zip (C.sets (C.pool b.pool)),z.1.Sublist z.2)\/
  ((C.pool b.pool).kind≠ .legs/\b.how=.on/\b.sets.length=(C.pool b.pool).places/\∀s∈b.sets,s.Sublist (C.headsOf (C.pool b.pool).race))\/
  (((C.pool b.pool).kind=.order\/(C.pool b.pool).kind=.any)/\b.how=.box/\∃s,b.sets=[s]/\s.Sublist (C.headsOf (C.pool b.pool).race))\/
  (((C.pool b.pool).kind=.order\/(C.pool b.pool).kind=.any)/\b.how=.key/\∃A B,b.sets=[A,B]/\A.Sublist (C.headsOf (C.pool b.pool).race)/\B.Sublist (C.headsOf (C.pool b.pool).race)):=by
 have hh:=(cX g (C.pool b.pool).race).1;have ho:∀{s:List Nat},RX s (C.headsOf (C.pool b.pool).race)=true->s.Sublist (C.headsOf (C.pool b.pool).race):=λk=>(Lr k hh).1;unfold Card.setsRight at h;cases e:b.how with
 |on=>
  rw[e]at h;rw[bC,kz]at h;by_cases hk:(C.pool b.pool).kind=.legs
  .rw[ah hk,du]at h;refine .inl ⟨hk,rfl,?_,λz hz=>?_⟩
   .rw[h.1,qu hk];unfold Pool.places;rw[af (by rw[hk];decide)]
   .have hm:=(mL hz).2;exact(Lr (h.2 z hz) (xJ g _ _ hm).1).1
  .rw[af hk,du]at h;exact .inr (.inl ⟨hk,rfl,h.1,λs hs=>ho (h.2 s hs)⟩)
 |box=>
  rw[e]at h;have h:(((C.pool b.pool).kind==.order||(C.pool b.pool).kind==.any)&&(b.sets.length==1&&b.sets.all λ(s:List Nat)=>RX s (C.headsOf (C.pool b.pool).race)&&decide ((C.pool b.pool).k<=s.length)))=true:=h;simp only[Bool.and_eq_true,Bool.or_eq_true,beq_iff_eq,all_eq_true]at h;obtain⟨h1,h2,h3⟩:=h;obtain⟨s,hs⟩:=length_eq_one_iff.mp h2;exact .inr (.inr (.inl ⟨h1,rfl,s,hs,ho (h3 s (by rw[hs];simp)).1⟩))
 |key=>
  rw[e]at h;have h:(((C.pool b.pool).kind==.order||(C.pool b.pool).kind==.any)&&(b.sets.length==2&&(b.sets.all (λ(s:List Nat)=>RX s (C.headsOf (C.pool b.pool).race))&&_)))=true:=h;simp only[Bool.and_eq_true,Bool.or_eq_true,beq_iff_eq,all_eq_true]at h;obtain⟨h1,h2,h3,_⟩:=h;obtain⟨A,B,hs⟩:=FQ h2;exact .inr (.inr (.inr ⟨h1,rfl,A,B,hs,ho (h3 A (by rw[hs];simp)),ho (h3 B (by rw[hs];simp))⟩))
def uW{C:Card}{b:Bet}(h:C.has b row=true):C.isCombo (C.pool b.pool) row=true:=by
 exact(bC _ _▸h).1
theorem Cq:∀{ss}{row},fillsSets row ss=true->∀x∈row,∃s∈ss,x∈s
 |[],row,h,x,hx=>by
  have:row=[]:=by simpa[fillsSets]using h
  rw[this]at hx;simp at hx
 |s::t,row,h,x,hx=>by
  obtain⟨y,hy,hq⟩:=any_eq_true.mp h;rw[bC]at hq;by_cases e:x=y
  .subst e;exact⟨s,by simp,‹hq.1›⟩
  .obtain⟨q,Yf,RW⟩:=Cq hq.2 x ((wO e).mpr hx);exact⟨q,by simp[Yf],RW⟩
theorem xK:∀{k}{row u:List Nat},row.length=k->((row.zip (List.replicate k u)).all (λ(z:Nat×List Nat)=>z.2.contains z.1)=true↔∀x∈row,x∈u)
 |0,row,u,h=>by
  have:=length_eq_zero_iff.mp h;subst this;simp
 |k+1,[],u,h=>by simp at h
 |k+1,x::row,u,h=>by
  rw[j6,j7,c9,bC,xK ‹h›,forall_mem_cons];simp
def xM(g:CG C){b:Bet}(h:C.setsRight b=true):C.rows b=(bA C (C.pool b.pool)).filter (C.has b):=by
 have hh:=cX g (C.pool b.pool).race;have Uy:=Nt g (C.pool b.pool);have aa3:∀{l:List (List Nat)},l.Sublist (bA C (C.pool b.pool))->(∀x,C.has b x=true->x∈l)->l.filter (C.has b)=(bA C (C.pool b.pool)).filter (C.has b):=λ{l} hs hm=>by
  refine jv ((filter_sublist).trans hs) Uy λx=>⟨λz=>?_,λz=>?_⟩
  .obtain⟨z1,z2⟩:=mem_filter.mp z;exact⟨hs.subset z1,z2⟩
  .exact mem_filter.mpr ⟨hm x z.2,z.2⟩
 have eD:(C.pool b.pool).kind≠ .legs->(C.sets (C.pool b.pool)).headD []=C.headsOf (C.pool b.pool).race:=oZ;have tog:(∀s∈b.sets,s.Sublist (C.headsOf (C.pool b.pool).race))->(together b.sets).Sublist (C.headsOf (C.pool b.pool).race):=λhs=>by
  refine gf (o4 _) hh.1 λx hx=>?_;obtain⟨_,s,h1,h2⟩:=dn.mp hx;exact(hs s h1).subset h2
 have anyC:(C.pool b.pool).kind=.any->(∀s∈b.sets,s.Sublist (C.headsOf (C.pool b.pool).race))->(∀row,C.has b row=true->∀x∈row,x∈together b.sets)->C.rows b=(bA C (C.pool b.pool)).filter (C.has b):=λhk hs hm=>by
  have er:C.rows b=(risingRows (C.pool b.pool).k (together b.sets)).filter (C.has b):=by unfold Card.rows;dsimp only;rw[hk]
  have ea:bA C (C.pool b.pool)=risingRows (C.pool b.pool).k (C.headsOf (C.pool b.pool).race):=by unfold bA;rw[hk];show risingRows _ _=_;rw[eD (by rw[hk];decide)]
  rw[er];refine aa3 (by rw[ea];exact Jt _ (tog hs)) λrow hr=>?_;have hc:=(qv g _ row).mpr (uW hr);rw[ea]at hc;obtain⟨c1,c2⟩:=(d5 _).mp hc;exact(d5 _).mpr ⟨c1,gf (hh.1.sublist c2) (o4 _) (hm row hr)⟩
 have aa4:(C.pool b.pool).kind=.order->b.how≠ .on->(∀s∈b.sets,s.Sublist (C.headsOf (C.pool b.pool).race))->(∀row,C.has b row=true->∀x∈row,x∈together b.sets)->C.rows b=(bA C (C.pool b.pool)).filter (C.has b):=λhk hw hs hm=>by
  have er:C.rows b=(apartRows (List.replicate (C.pool b.pool).k (together b.sets)) []).filter (C.has b):=by
   unfold Card.rows;dsimp only;rw[hk];cases q:b.how with
   |on=>exact absurd q hw|box=>rfl
   |key=>rfl
  have ea:bA C (C.pool b.pool)=cu (C.pool b.pool).k (C.headsOf (C.pool b.pool).race):=by unfold bA;rw[hk];show cu _ _=_;rw[eD (by rw[hk];decide)]
  rw[er];refine aa3 ?_ λrow hr=>?_
  .have:=uV (ss:=List.replicate (C.pool b.pool).k (together b.sets)) (had:=[]) hh.1.nodup (λs Dn=>by
    rw[(mem_replicate.mp Dn).2];exact tog hs)
   rw[jC]at this;have e0:(C.headsOf (C.pool b.pool).race).filter (λx=>!([]:List Nat).contains x)=C.headsOf (C.pool b.pool).race:=filter_eq_self.mpr λx _=>rfl;rw[e0]at this;rw[ea];exact this
  .have hc:=(qv g _ row).mpr (uW hr);rw[ea]at hc;obtain⟨c1,c2,c3⟩:=(qp _ hh.1.nodup).mp hc;exact dO.mpr ⟨by rw[jC];exact c1,c2,by simp,(xK c1).mpr (hm row hr)⟩
 obtain⟨hk,hw,hl,hz⟩|⟨hk,hw,hl,hs⟩|⟨hk,hw,s,es,hs⟩|⟨hk,hw,A,B,es,hA,hB⟩:=ik g h
 .have er:C.rows b=rowsOf b.sets:=by unfold Card.rows;dsimp only;rw[hk]
  have ea:bA C (C.pool b.pool)=rowsOf (C.sets (C.pool b.pool)):=by unfold bA;rw[hk]
  have hs:(rowsOf b.sets).Sublist (bA C (C.pool b.pool)):=by rw[ea];exact zU hl hz
  rw[er];refine jv hs Uy λrow=>?_;have eh:C.has b row=(C.isCombo (C.pool b.pool) row&&(row.zip b.sets).all λ(z:Nat×List Nat)=>z.2.contains z.1):=by
   unfold Card.has;rw[hw];show(_&&(if(C.pool b.pool).kind=.any then _ else _))=_;rw[af (by rw[hk];decide)]
  rw[eh,bC,<-qv g];constructor
  .intro hm;exact⟨hs.subset hm,hs.subset hm,(ig.mp hm).2⟩
  .rintro⟨h1,_,h2⟩;rw[ea]at h1;exact ig.mpr ⟨by rw[hl];exact(ig.mp h1).1,h2⟩
 .cases E5:(C.pool b.pool).kind with
  |legs=>exact absurd E5 hk
  |any=>
   refine anyC E5 hs λrow hr x hx=>?_;have eh:C.has b row=(C.isCombo (C.pool b.pool) row&&fillsSets row b.sets):=by
    unfold Card.has;rw[hw];show(_&&(if(C.pool b.pool).kind=.any then _ else _))=_;rw[ah E5]
   rw[eh,bC]at hr;obtain⟨s,h1,h2⟩:=Cq hr.2 x hx;exact dn.mpr ⟨hh.2.1 x ((hs s h1).subset h2),s,h1,h2⟩
  |order=>
   have hp:b.sets.length=(C.pool b.pool).k:=by
    rw[hl];unfold Pool.places;rw[af (by rw[E5];decide)]
   have er:C.rows b=apartRows b.sets []:=by unfold Card.rows;dsimp only;rw[E5,hw]
   have ea:bA C (C.pool b.pool)=cu (C.pool b.pool).k (C.headsOf (C.pool b.pool).race):=by unfold bA;rw[E5];show cu _ _=_;rw[eD hk]
   have qF:(apartRows b.sets []).Sublist (bA C (C.pool b.pool)):=by
    have:=uV (ss:=b.sets) (had:=[]) hh.1.nodup hs;have e0:(C.headsOf (C.pool b.pool).race).filter (λx=>!([]:List Nat).contains x)=C.headsOf (C.pool b.pool).race:=filter_eq_self.mpr λx _=>rfl;rw[e0,hp]at this;rw[ea];exact this
   rw[er];refine jv qF Uy λrow=>?_;have eh:C.has b row=(C.isCombo (C.pool b.pool) row&&(row.zip b.sets).all λ(z:Nat×List Nat)=>z.2.contains z.1):=by
    unfold Card.has;rw[hw];show(_&&(if(C.pool b.pool).kind=.any then _ else _))=_;rw[af (by rw[E5];decide)]
   rw[eh,bC,<-qv g];constructor
   .intro hm;exact⟨qF.subset hm,qF.subset hm,(dO.mp hm).2.2.2⟩
   .rintro⟨h1,_,h2⟩;rw[ea]at h1;obtain⟨c1,c2,c3⟩:=(qp _ hh.1.nodup).mp h1;exact dO.mpr ⟨by rw[hp];exact c1,c2,by simp,h2⟩
  |place=>
   have hp:b.sets.length=1:=by
    rw[hl];unfold Pool.places;rw[ah E5]
   obtain⟨s,es⟩:=length_eq_one_iff.mp hp;have N0:=hs s (by rw[es];simp);have er:C.rows b=s.map λx=>[x]:=by unfold Card.rows;dsimp only;rw[E5,es];rfl
   have ea:bA C (C.pool b.pool)=cu 1 (C.headsOf (C.pool b.pool).race):=by unfold bA;rw[E5];show cu _ _=_;rw[eD hk]
   have e1:∀l:List Nat,cu 1 l=l.map λx=>[x]:=λl=>by
    show(l.flatMap λx=>([[]]:List (List Nat)).map λr=>x::r)=_;rw[flatMap_def]
    induction l with
    |nil=>rfl|cons a l ih=>rw[aP,mH,ih];rfl
   have qF:(s.map λx=>[x]).Sublist (bA C (C.pool b.pool)):=by rw[ea,e1];exact N0.map _
   rw[er];refine jv qF Uy λrow=>?_;have eh:C.has b row=(C.isCombo (C.pool b.pool) row&&(row.zip b.sets).all λ(z:Nat×List Nat)=>z.2.contains z.1):=by
    unfold Card.has;rw[hw];show(_&&(if(C.pool b.pool).kind=.any then _ else _))=_;rw[af (by rw[E5];decide)]
   rw[eh,bC,<-qv g,es];constructor
   .intro hm;obtain⟨x,hx,rfl⟩:=mem_map.mp hm;exact⟨qF.subset hm,qF.subset hm,‹hx›⟩
   .rintro⟨h1,_,h2⟩;rw[ea,e1]at h1;obtain⟨x,hx,rfl⟩:=mem_map.mp h1;exact mem_map.mpr ⟨x,‹h2›,rfl⟩
 .have Dn:∀q∈b.sets,q.Sublist (C.headsOf (C.pool b.pool).race):=λq hq=>by
   rw[es]at hq;have:q=s:=‹hq›
   rw[this];exact hs
  have hm:∀row,C.has b row=true->∀x∈row,x∈together b.sets:=λrow hr x hx=>by
   have eh:C.has b row=(C.isCombo (C.pool b.pool) row&&row.all λ(x:Nat)=>(b.sets.headD []).contains x):=by
    unfold Card.has;rw[hw]
   rw[eh,bC,du,es]at hr;have:x∈s:=‹hr.2 x hx›
   rw[es];exact dn.mpr ⟨hh.2.1 x (hs.subset this),s,by simp,this⟩
  obtain hk|hk:=hk
  .exact aa4 hk (by rw[hw];decide) Dn hm
  .exact anyC hk Dn hm
 .have Dn:∀q∈b.sets,q.Sublist (C.headsOf (C.pool b.pool).race):=λq hq=>by
   rw[es]at hq;obtain e|hq:=mem_cons.mp hq
   .rw[e];exact hA
   .have:q=B:=by simpa using hq
    rw[this];exact hB
  have hm:∀row,C.has b row=true->∀x∈row,x∈together b.sets:=λrow hr x hx=>by
   have eh:C.has b row=(C.isCombo (C.pool b.pool) row&&((b.sets.headD []).all (λ(x:Nat)=>row.contains x)&&row.all λ(x:Nat)=>(b.sets.headD []).contains x||(b.sets.getD 1 []).contains x)):=by
    unfold Card.has;rw[hw]
   rw[eh,bC,bC,es]at hr;have:=all_eq_true.mp hr.2.2 x hx;have:x∈A\/x∈B:=‹this›
   rw[es];obtain q|q:=this
   .exact dn.mpr ⟨hh.2.1 x (hA.subset q),A,by simp,q⟩
   .exact dn.mpr ⟨hh.2.1 x (hB.subset q),B,by simp,q⟩
  obtain hk|hk:=hk
  .exact aa4 hk (by rw[hw];decide) Dn hm
  .exact anyC hk Dn hm
noncomputable def dH(C:Card)(b:Bet):List Nat:=(List.range (C.many (C.pool b.pool))).filter λn=>C.has b (C.comboOf (C.pool b.pool) n)
def all_map(g:CG C) p:bA C p=(List.range (C.many p)).map (C.comboOf p):=by
 refine pP λn=>?_;rw[a_];by_cases h:n<C.many p
 .rw[(Ju g h).1,wQ h];rfl
 .rw[om (by rw[Lq g p];omega),om (by simp;omega)];rfl
def G4(g:CG C){b:Bet}(h:C.setsRight b=true):C.rows b=(dH C b).map (C.comboOf (C.pool b.pool)):=by
 rw[xM g h,all_map g,mM];rfl
theorem Cr(g:CG C):∀(l:List Nat),(∀n∈l,n<C.many p)->(l.map (C.comboOf p)).filterMap (C.numberOf p)=l
 |[],_=>rfl
 |a::l,h=>by
  rw[aP,jD,(Ju g (h a ∅)).2];rw[Cr g l λn hn=>h n (by simp[hn])]
def Jv{b:Bet}:∀n∈dH C b,n<C.many (C.pool b.pool):=λn hn=>mem_range.mp (mem_filter.mp hn).1
def Jw{b:Bet}:Up (dH C b):=qW _ (oY _)
def G5{C:Card}{b:Bet}{n:Nat}:n∈dH C b↔n<C.many (C.pool b.pool)/\C.has b (C.comboOf (C.pool b.pool) n)=true:=by
 unfold dH;rw[mem_filter,mem_range]
def Ct(g:CG C){b:Bet}(h:C.setsRight b=true):C.manyOf b=(dH C b).length:=by
 have hr:(C.rows b).length=(dH C b).length:=by rw[G4 g h,az]
 unfold Card.manyOf;split
 .rename_i hk;rw[<-hr];have er:C.rows b=rowsOf b.sets:=by unfold Card.rows;dsimp only;rw[hk]
  rw[er,nu]
 .exact hr
def Jx{C:Card}{b:Bet}{m:Money}(hm:∀e∈m,e.1<C.many (C.pool b.pool)):(m.filter λ(e:Nat×Nat)=>C.has b (C.comboOf (C.pool b.pool) e.1))=m.filter λe=>decide (e.1∈dH C b):=by
 refine jg λe he=>?_;rw[gi,fB,G5];exact⟨λz=>⟨hm e he,z⟩,λz=>z.2⟩
def Uz{s t:Option Card}(h:rF s ws t)(hs:∀C,s=some C->CG C):∀C,t=some C->CG C:=by
 intro D hD;cases s with
 |none=>
  obtain⟨n,_,_,e⟩:=h;rw[e]at hD;cases hD;intro r hr;simp[noCard]at hr
 |some C=>
  have gC:=hs C rfl;obtain⟨r,rest,_,_,_,hr,e⟩|⟨p,rest,x,_,_,_,_,_,e⟩:=h
  .rw[e]at hD;cases hD;intro q hq;obtain z|z:=mem_append.mp hq
   .exact gC q z
   .have:q=r:=by simpa using z
    subst this;obtain⟨w,cs,_,_,_,YT,_⟩:=hr;exact YT
  .rw[e]at hD;cases hD;exact gC
theorem Ls:∀{ls}{s t},hZ s ls t->(∀C,s=some C->CG C)->∀C,t=some C->CG C
 |[],s,t,h,hs,C,hC=>by
  rw[h]at hC;exact hs C hC
 |l::ls,s,t,h,hs,C,hC=>by
  obtain⟨u,h1,h2⟩:=h;exact Ls h2 (Uz h1 hs) C hC
def Lv{b:Bytes}(h:readCard b=.ok C):CG C:=by
 obtain⟨⟨ls,_,hf⟩,_⟩:=km.mp h;exact Ls hf (λ_ z=>by cases z) C rfl
def fM(heads:List Nat)(w:Bytes)(s:List Nat):Prop:=(splitOn 44 [] w).mapM numberOf=some s/\risesN s=true/\s.all heads.contains=true
def fN{e:Nat}{l:List Word}{x:(List Nat×Nat)×List Word}:setIn e heads l=.ok x↔∃w,l=w::x.2/\fM heads w.w x.1.1/\x.1.2=w.at_:=by
 unfold setIn;rw[aE];constructor
 .rintro⟨y,h1,h2⟩;have h1:=jk.mp h1;split at h2
  .cases h2
  .rename_i s hs;split at h2
   .rename_i hc;cases h2;exact⟨y.1,h1,⟨hs,hc.1,hc.2⟩,rfl⟩
   .cases h2
 .rintro⟨w,h1,⟨h2,h3,h4⟩,h5⟩;refine⟨(w,x.2),jk.mpr h1,?_⟩;rw[h2];dsimp only;rw[ah ⟨h3,h4⟩];obtain⟨⟨a,b⟩,c⟩:=x;cases h5;rfl
noncomputable def jV:List (List Nat)->List Bytes->List (List Nat)->Prop
 |[],ws,q=>ws=[]/\q=[]|[h],ws,q=>∃w s,ws=[w]/\fM h w s/\q=[s]
 |h::i::t,ws,q=>∃w s rest r,ws=w::ascii "/"::rest/\fM h w s/\jV (i::t) rest r/\q=s::r
def bV{l:List Word}{w:Bytes}{r:List Bytes}(h:l.map (·.w)=w::r):∃x m,l=x::m/\x.w=w/\m.map (·.w)=r:=by
 cases l with
 |nil=>cases h
 |cons x m=>
  injection h with h1 h2;exact⟨x,m,rfl,h1,h2⟩
theorem qw{e:Nat}:∀{hs}{l}{q},setsIn e hs l=.ok q↔jV hs (l.map (·.w)) q
 |[],l,q=>by
  show((closed l).map λ(_:Unit)=>[])=.ok q↔_;rw[jJ];constructor
  .rintro⟨u,h1,h2⟩;have:=hU.mp h1;subst this;exact⟨rfl,h2.symm⟩
  .rintro⟨h1,h2⟩;have:l=[]:=by simpa using h1
   subst this;exact⟨Unit.unit,rfl,h2.symm⟩
 |[h],l,q=>by
  show(setIn e h l>>=λs=>closed s.2>>=λ_=>pure [s.1.1])=.ok q↔_;rw[aE];constructor
  .rintro⟨s,h1,h2⟩;obtain⟨w,e1,e2,e3⟩:=fN.mp h1;obtain⟨u,h3,h4⟩:=aE.mp h2;have h3:=hU.mp h3;cases h4;exact⟨w.w,s.1.1,by rw[e1,h3];rfl,e2,rfl⟩
  .rintro⟨w,s,e1,e2,e3⟩;obtain⟨x,m,rfl,hw,hm⟩:=bV e1;have:m=[]:=by simpa using hm
   subst this;refine⟨((s,x.at_),[]),fN.mpr ⟨x,rfl,by rw[hw];exact e2,rfl⟩,aE.mpr ⟨Unit.unit,rfl,?_⟩⟩;rw[e3];rfl
 |h::i::t,l,q=>by
  show(setIn e h l>>=λs=>must e "/" s.2>>=λm=>setsIn e (i::t) m>>=λr=>pure (s.1.1::r))=.ok q↔_;rw[aE];constructor
  .rintro⟨s,h1,h2⟩;obtain⟨w,e1,e2,e3⟩:=fN.mp h1;obtain⟨m,h3,h4⟩:=aE.mp h2;obtain⟨v,h5,h6⟩:=iC.mp h3;obtain⟨r,h7,h8⟩:=aE.mp h4;cases h8;refine⟨w.w,s.1.1,m.map (·.w),r,by rw[e1,h5,aP,aP,h6],e2,qw.mp h7,rfl⟩
  .rintro⟨w,s,rest,r,e1,e2,e3,e4⟩;obtain⟨x,m,rfl,hw,hm⟩:=bV e1;obtain⟨y,m',rfl,hy,TY⟩:=bV hm;refine⟨((s,x.at_),y::m'),fN.mpr ⟨x,rfl,by rw[hw];exact e2,rfl⟩,aE.mpr ⟨m',iC.mpr ⟨y,rfl,hy⟩,aE.mpr ⟨r,qw.mpr (by rw[TY];exact e3),?_⟩⟩⟩;rw[e4];rfl
noncomputable def dI(C:Card)(p:Pool):List (List Nat):=if p.kind=.legs then C.sets p else List.replicate p.places (C.headsOf p.race)
def t_(p:Pool):Prop:=p.kind=.order\/p.kind=.any
abbrev dP(C:Card)(p:Pool)(hw:Bytes)(tail:List Bytes)(how:How)(sets:List (List Nat)):Prop:=
  (hw=ascii "on"/\how=.on/\jV (dI C p) tail sets)\/
   (hw=ascii "box"/\t_ p/\how=.box/\∃w s,tail=[w]/\fM (C.headsOf p.race) w s/\p.k<=s.length/\sets=[s])\/
   (hw=ascii "key"/\t_ p/\how=.key/\∃wa wb A B,tail=[wa,ascii "with",wb]/\fM (C.headsOf p.race) wa A/\A.length<p.k/\fM (C.headsOf p.race) wb B/\
    (B.any λ(y:Nat)=>A.contains y)=false/\p.k<=A.length+B.length/\sets=[A,B])
structure qS(C:Card)(ws:List Bytes)(x:Bet):Prop where
 ex:∃n st hw tail,ws=ascii "bet"::n::ascii "for"::st::hw::tail/\(C.pools.findIdx? λ(p:Pool)=>p.name==n)=some x.pool/\numberOf st=some x.stake/\
  dP C (C.pool x.pool) hw tail x.how x.sets
 s1:1<=x.stake
 s2:x.stake<=1000000
 s3:x.stake%(C.pool x.pool).unit=0
 m1:0<C.manyOf x
 m2:x.stake*C.manyOf x<=COST
def G6{e:Nat}{l:List Word}{q:List (List Nat)}:boxIn e p heads l=.ok q↔∃w s,l.map (·.w)=[w]/\fM heads w s/\p.k<=s.length/\q=[s]:=by
 show(setIn e heads l>>=λs=>holds (decide (p.k<=s.1.1.length)) 4 s.1.2>>=λ_=>closed s.2>>=λ_=>pure [s.1.1])=.ok q↔_;rw[aE];constructor
 .rintro⟨s,h1,h2⟩;obtain⟨w,e1,e2,e3⟩:=fN.mp h1;obtain⟨_,h3,h4⟩:=aE.mp h2;obtain⟨_,h5,h6⟩:=aE.mp h4;have h3:=de.mp h3;have h5:=hU.mp h5;cases h6;exact⟨w.w,s.1.1,by rw[e1,h5];rfl,e2,‹h3›,rfl⟩
 .rintro⟨w,s,e1,e2,e3,e4⟩;obtain⟨x,m,rfl,hw,hm⟩:=bV e1;have:m=[]:=by simpa using hm
  subst this;refine⟨((s,x.at_),[]),fN.mpr ⟨x,rfl,by rw[hw];exact e2,rfl⟩,aE.mpr ⟨Unit.unit,de.mpr ‹e3›,aE.mpr ⟨Unit.unit,rfl,?_⟩⟩⟩;rw[e4];rfl
def G7{e:Nat}{l:List Word}{q:List (List Nat)}:keyIn e p heads l=.ok q↔∃wa wb A B,l.map (·.w)=[wa,ascii "with",wb]/\fM heads wa A/\A.length<p.k/\fM heads wb B/\
    (B.any λ(y:Nat)=>A.contains y)=false/\p.k<=A.length+B.length/\q=[A,B]:=by
 show(setIn e heads l>>=λa=>holds (decide (a.1.1.length<p.k)) 4 a.1.2>>=λ_=>must e "with" a.2>>=λm=>setIn e heads m>>=λb=>holds (!(b.1.1.any λ(x:Nat)=>a.1.1.contains x)&&decide (p.k<=a.1.1.length+b.1.1.length)) 4 b.1.2>>=λ_=>closed b.2>>=λ_=>pure [a.1.1,b.1.1])=.ok q↔_;rw[aE];constructor
 .rintro⟨a,h1,h2⟩;obtain⟨w,e1,e2,e3⟩:=fN.mp h1;obtain⟨_,h3,h4⟩:=aE.mp h2;obtain⟨m,h5,h6⟩:=aE.mp h4;obtain⟨b,h7,h8⟩:=aE.mp h6;obtain⟨_,h9,Xm⟩:=aE.mp h8;obtain⟨_,O7,Hz⟩:=aE.mp Xm;have h3:=de.mp h3;obtain⟨v,f1,f2⟩:=iC.mp h5;obtain⟨w',g1,g2,g3⟩:=fN.mp h7;have h9:=de.mp h9;have O7:=hU.mp O7;cases Hz;rw[bC]at h9;exact⟨w.w,w'.w,a.1.1,b.1.1,by rw[e1,f1,g1,O7,aP,aP,f2];rfl,e2,‹h3›,g2,‹h9.1›,‹h9.2›,rfl⟩
 .rintro⟨wa,wb,A,B,e1,e2,e3,e4,e5,e6,e7⟩;obtain⟨x,m,rfl,hw,hm⟩:=bV e1;obtain⟨y,m',rfl,hy,TY⟩:=bV hm;obtain⟨z,m'',rfl,hz,ad0⟩:=bV TY;have:m''=[]:=by simpa using ad0
  subst this;refine⟨((A,x.at_),y::z::[]),fN.mpr ⟨x,rfl,by rw[hw];exact e2,rfl⟩,aE.mpr ⟨Unit.unit,de.mpr ‹e3›,aE.mpr ⟨[z],iC.mpr ⟨y,rfl,hy⟩,aE.mpr ⟨((B,z.at_),[]),fN.mpr ⟨z,rfl,by rw[hz];exact e4,rfl⟩,
   aE.mpr ⟨Unit.unit,de.mpr (by rw[bC];exact⟨by rw[e5];rfl,‹e6›⟩),aE.mpr ⟨Unit.unit,rfl,?_⟩⟩⟩⟩⟩⟩
  rw[e7];rfl
def jw p:(p.kind==.order||p.kind==.any)=true↔t_ p:=by
 unfold t_;rw[CD,kz,kz]
def Lw{C:Card}{b x:Bet}{p q:Nat}:(holds (decide (0<C.manyOf b)) 6 p>>=λ_=>holds (decide (b.stake*C.manyOf b<=COST)) 7 q>>=λ_=>(pure b:Except Fault Bet))=.ok x↔x=b/\0<C.manyOf b/\b.stake*C.manyOf b<=COST:=by
 rw[aE];constructor
 .rintro⟨_,h1,h2⟩;obtain⟨_,h3,h4⟩:=aE.mp h2;cases h4;exact⟨rfl,‹de.mp h1›,‹de.mp h3›⟩
 .rintro⟨rfl,h1,h2⟩;exact⟨Unit.unit,de.mpr ‹h1›,aE.mpr ⟨Unit.unit,de.mpr ‹h2›,rfl⟩⟩
def G8{e:Nat}{x:Bet}:C.betIn ⟨ws,e⟩=.ok x↔qS C (ws.map (·.w)) x:=by
 unfold Card.betIn;rw[aE];constructor
 .rintro⟨m,h1,h2⟩;obtain⟨w0,rfl,k0⟩:=iC.mp h1;obtain⟨n,h3,h4⟩:=aE.mp h2;have h3:=jk.mp h3;subst h3;split at h4
  .cases h4
  rename_i i hi;obtain⟨m2,h5,h6⟩:=aE.mp h4;obtain⟨w2,e2,k2⟩:=iC.mp h5;obtain⟨s,h7,h8⟩:=aE.mp h6;obtain⟨w3,e3,k3,k4,k5,k6⟩:=lQ.mp h7;obtain⟨_,h9,Xm⟩:=aE.mp h8;have h9:=de.mp h9;obtain⟨w,O7,Hz⟩:=aE.mp Xm;have O7:=jk.mp O7;have hws:(w0::n.1::n.2).map (·.w)=ascii "bet"::n.1.w::ascii "for"::w3.w::w.1.w::w.2.map (·.w):=by
   rw[e2,e3,O7,aP,aP,aP,aP,aP,k0,k2]
  rw[hws];dsimp only at Hz;have hb:x.pool=i/\x.stake=s.1.1/\(0<C.manyOf x/\x.stake*C.manyOf x<=COST)/\((w.1.w=ascii "on"/\x.how=.on/\jV (dI C (C.pool i)) (w.2.map (·.w)) x.sets)\/
    (w.1.w=ascii "box"/\t_ (C.pool i)/\x.how=.box/\∃v s,w.2.map (·.w)=[v]/\fM (C.headsOf (C.pool i).race) v s/\(C.pool i).k<=s.length/\x.sets=[s])\/
    (w.1.w=ascii "key"/\t_ (C.pool i)/\x.how=.key/\∃wa wb A B,w.2.map (·.w)=[wa,ascii "with",wb]/\fM (C.headsOf (C.pool i).race) wa A/\A.length<(C.pool i).k/\fM (C.headsOf (C.pool i).race) wb B/\
     (B.any λ(y:Nat)=>A.contains y)=false/\(C.pool i).k<=A.length+B.length/\x.sets=[A,B])):=by
   split at Hz
   .rename_i hw;obtain⟨b,Xn,O8⟩:=aE.mp Hz;obtain⟨rfl,j1,j2⟩:=Lw.mp O8;obtain⟨q,Yf,RW⟩:=jJ.mp Xn;subst RW;exact⟨rfl,rfl,⟨j1,j2⟩,.inl ⟨hw,rfl,qw.mp Yf⟩⟩
   split at Hz
   .rename_i hw;obtain⟨b,Xn,O8⟩:=aE.mp Hz;obtain⟨rfl,j1,j2⟩:=Lw.mp O8;obtain⟨q,Yf,RW⟩:=jJ.mp Xn;subst RW;exact⟨rfl,rfl,⟨j1,j2⟩,.inr (.inl ⟨hw.1,(jw _).mp hw.2,rfl,G6.mp Yf⟩)⟩
   split at Hz
   .rename_i hw;obtain⟨b,Xn,O8⟩:=aE.mp Hz;obtain⟨rfl,j1,j2⟩:=Lw.mp O8;obtain⟨q,Yf,RW⟩:=jJ.mp Xn;subst RW;exact⟨rfl,rfl,⟨j1,j2⟩,.inr (.inr ⟨hw.1,(jw _).mp hw.2,rfl,G7.mp Yf⟩)⟩
   .cases Hz
  obtain⟨b1,b2,bm,b3⟩:=hb;rw[<-b1]at hi b3 h9;rw[<-b2]at k3 k4 k5 h9;exact⟨⟨n.1.w,w3.w,w.1.w,w.2.map (·.w),rfl,hi,k3,b3⟩,k4,k5,‹h9›,bm.1,bm.2⟩
 .rintro⟨⟨n,st,hw,tail,e0,hi,k3,hb⟩,k4,k5,k6,k7,k8⟩;obtain⟨w0,m0,rfl,a0,e1⟩:=bV e0;obtain⟨w1,m1,rfl,a1,e2⟩:=bV e1;obtain⟨w2,m2,rfl,a2,e3⟩:=bV e2;obtain⟨w3,m3,rfl,a3,e4⟩:=bV e3;obtain⟨w4,m4,rfl,a4,e5⟩:=bV e4;refine⟨w1::w2::w3::w4::m4,iC.mpr ⟨w0,rfl,a0⟩,aE.mpr ⟨(w1,w2::w3::w4::m4),rfl,?_⟩⟩;rw[a1,hi];refine aE.mpr ⟨w3::w4::m4,iC.mpr ⟨w2,rfl,a2⟩,aE.mpr ⟨((x.stake,w3.at_),w4::m4),lQ.mpr ⟨w3,rfl,by rw[a3];exact k3,k4,k5,rfl⟩,aE.mpr ⟨Unit.unit,de.mpr ‹k6›,aE.mpr ⟨(w4,m4),rfl,?_⟩⟩⟩⟩;have hj:=λ(p q:Nat)=>(Lw (b:=x) (x:=x) (p:=p) (q:=q)).mpr ⟨rfl,k7,k8⟩;obtain⟨xp,xh,xs,xk⟩:=x;obtain⟨b1,b2,b3⟩|⟨b1,b2,b3,b4⟩|⟨b1,b2,b3,b4⟩:=hb
  .subst b2;rw[ah (by rw[a4];exact b1)];exact aE.mpr ⟨_,jJ.mpr ⟨xs,qw.mpr (by rw[e5];exact b3),rfl⟩,hj _ _⟩
  .subst b3;rw[af (by rw[a4,b1];decide),ah ⟨by rw[a4];exact b1,(jw _).mpr b2⟩];exact aE.mpr ⟨_,jJ.mpr ⟨xs,G6.mpr (by rw[e5];exact b4),rfl⟩,hj _ _⟩
  .subst b3;rw[af (by rw[a4,b1];decide),af (by rw[a4,b1];exact λz=>absurd z.1 ⋯),ah ⟨by rw[a4];exact b1,(jw _).mpr b2⟩];exact aE.mpr ⟨_,jJ.mpr ⟨xs,G7.mpr (by rw[e5];exact b4),rfl⟩,hj _ _⟩
def ny c x (r acc:Bytes):splitOn c acc (x::r)=if x=c then acc::splitOn c [] r else splitOn c (acc++ [x]) r:=rfl
theorem G9{c:UInt8}:∀{w acc},splitOn c acc w≠ []
 |[],acc=>by simp[Tote.splitOn]
 |x::r,acc=>by
  rw[ny];split
  .simp
  .exact G9
theorem uX{c:UInt8}:∀{w acc}{y},y∈acc++w->y=c\/∃p∈splitOn c acc w,y∈p
 |[],acc,y,h=>.inr ⟨acc,by simp[Tote.splitOn],‹h›⟩
 |x::r,acc,y,h=>by
  rw[ny];by_cases e:x=c
  .rw[ah e];obtain h|h:=mem_append.mp h
   .exact .inr ⟨acc,by simp,h⟩
   .obtain h|h:=mem_cons.mp h
    .exact .inl (h.trans e)
    .obtain z|⟨p,h1,h2⟩:=uX (w:=r) (acc:=[]) (y:=y) ‹h›
     .exact .inl z
     .exact .inr ⟨p,by simp[h1],h2⟩
  .rw[af e];exact uX ‹h›
theorem zW{f:α->Option β}:∀{l:List α}{ys},l.mapM f=some ys->ys.length=l.length/\∀x∈l,∃y∈ys,f x=some y
 |[],ys,h=>by
  cases h;exact⟨rfl,by simp⟩
 |a::l,ys,h=>by
  rw[mapM_cons]at h;cases e1:f a with
  |none=>rw[e1]at h;cases h
  |some y=>
   cases e2:l.mapM f with
   |none=>rw[e1,e2]at h;cases h
   |some zs=>
    rw[e1,e2]at h;cases h;obtain⟨h1,h2⟩:=zW e2;refine⟨by rw[aY,aY,h1],λx hx=>?_⟩;obtain e|hx:=mem_cons.mp hx
    .subst e;exact⟨y,by simp,e1⟩
    .obtain⟨z,hz,e⟩:=h2 x hx;exact⟨z,by simp[hz],e⟩
theorem fM.ne{heads s:List Nat}{w:Bytes}(h:fM heads w s):s≠ []:=by
 intro e;have:=(zW h.1).1;rw[e]at this;exact G9 (length_eq_zero_iff.mp this.symm)
def fM.plain{heads s:List Nat}{w:Bytes}(h:fM heads w s):Plain w:=by
 have hm:=(zW h.1).2;refine⟨λe=>?_,λc hc=>?_⟩
 .subst e;obtain⟨y,_,hy⟩:=hm [] (by simp[Tote.splitOn]);simp[numberOf]at hy
 .obtain e|⟨p,h1,h2⟩:=uX (c:=44) (acc:=[]) ‹hc›
  .subst e;decide
  .obtain⟨y,_,hy⟩:=hm p h1;exact(dM hy).2 c h2
theorem jV.plain:∀{hs}{ws}{q},jV hs ws q->∀w∈ws,Plain w
 |[],ws,q,h,w,hw=>by
  rw[h.1]at hw;simp at hw
 |[_],ws,q,h,w,hw=>by
  obtain⟨v,s,e,h1,_⟩:=h;rw[e]at hw;have:w=v:=‹hw›
  rw[this];exact h1.plain
 |_::i::t,ws,q,h,w,hw=>by
  obtain⟨v,s,rest,r,e,h1,h2,_⟩:=h;rw[e]at hw;obtain z|hw:=mem_cons.mp hw
  .rw[z];exact h1.plain
  .obtain z|hw:=mem_cons.mp hw
   .rw[z];exact⟨by decide,by decide⟩
   .exact jV.plain h2 w hw
def CN(C:Card):Prop:=∀p∈C.pools,isName p.name=true
def find_name{C:Card}(h:(C.pools.findIdx? λ(p:Pool)=>p.name==n)=some i):∃p,C.pools[i]?=some p/\p.name=n/\C.pool i=p:=by
 obtain⟨hi,h1,_⟩:=findIdx?_eq_some_iff_getElem.mp h;refine⟨C.pools[i],bg hi,‹h1›,?_⟩;unfold Card.pool;rw[bg hi];rfl
theorem qS.plain{x:Bet}(cn:CN C)(h:qS C ws x):∀w∈ws,Plain w:=by
 obtain⟨n,st,hw,tail,e,hi,hs,hb⟩:=h.ex;obtain⟨p,hp,hn,_⟩:=find_name hi;have pl:Plain n:=by
  rw[<-hn];exact rG (cn p (bh hp))
 have ht:Plain hw/\∀w∈tail,Plain w:=by
  obtain⟨e1,_,h1⟩|⟨e1,_,_,w,s,e2,h1,_⟩|⟨e1,_,_,wa,wb,A,B,e2,h1,_,h2,_⟩:=hb
  .exact⟨by rw[e1];exact bR ⋯,h1.plain⟩
  .refine⟨by rw[e1];exact bR ⋯,λv hv=>?_⟩;rw[e2]at hv;have:v=w:=by simpa using hv
   rw[this];exact h1.plain
  .refine⟨by rw[e1];exact bR ⋯,λv hv=>?_⟩;rw[e2]at hv;obtain z|hv:=mem_cons.mp hv
   .rw[z];exact h1.plain
   .obtain z|hv:=mem_cons.mp hv
    .rw[z];exact bR ⋯
    .have:v=wb:=by simpa using hv
     rw[this];exact h2.plain
 intro w Jy;rw[e]at Jy;obtain z|Jy:=mem_cons.mp Jy
 .rw[z];exact bR ⋯
 obtain z|Jy:=mem_cons.mp Jy
 .rw[z];exact pl
 obtain z|Jy:=mem_cons.mp Jy
 .rw[z];exact bR ⋯
 obtain z|Jy:=mem_cons.mp Jy
 .rw[z];exact dM hs
 obtain z|Jy:=mem_cons.mp Jy
 .rw[z];exact ht.1
 .exact ht.2 w Jy
def UA{r:Bytes}(h:bU 10 [] r=[[]]):r=[]:=by
 cases r with
 |nil=>rfl
 |cons x r=>
  rw[qg]at h;split at h
  .injection h with h1 h2;obtain⟨w,ws,e,_⟩:=hX 10 r [];rw[e]at h2;cases h2
  .obtain⟨w,ws,e,_⟩:=hX 10 r ([] ++ [x]);rw[e]at h;injection h with h1 h2;simp at h1
def Jz{C:Card}(cn:CN C){b:Bytes}{x:Bet}:C.readBet b=.ok x↔∃l,bU 10 [] b=[l,[]]/\qS C (bU 32 [] l) x:=by
 unfold Card.readBet;cases hu:upTo b with
 |none=>
  have e:=(uD b []).mp hu;constructor
  .intro h;cases h
  .rintro⟨l,h,_⟩;rw[e]at h;cases h
 |some lr=>
  obtain⟨l,r⟩:=lr;have e:=(uE b [] l r hu).1;rw[pK]at e;dsimp only;have yT:∀l',bU 10 [] b=[l',[]]↔l'=l/\r=[]:=λl'=>by
   rw[e];constructor
   .intro h;injection h with h1 h2;exact⟨h1.symm,UA h2⟩
   .rintro⟨rfl,rfl⟩;rfl
  cases hb:badByte true 0 l with
  |some i=>
   constructor
   .intro h;cases h
   .rintro⟨l',h1,h2⟩;obtain⟨rfl,_⟩:=(yT l').mp h1;have:=jn (q:=0) l' [] (h2.plain cn);rw[show([]:Bytes).isEmpty=true from rfl,hb]at this;cases this
  |none=>
   dsimp only;have hw:(wordsFrom 0 [] l).map (·.w)=bU 32 [] l:=words_of l [] hb;constructor
   .intro h;cases hbi:C.betIn ⟨wordsFrom 0 [] l,l.length⟩with
    |error f=>rw[hbi]at h;cases h
    |ok y=>
     rw[hbi]at h;dsimp only at h;split at h
     .rename_i hr;cases h;have:=G8.mp hbi;rw[hw]at this;exact⟨l,(yT l).mpr ⟨rfl,‹hr›⟩,this⟩
     .cases h
   .rintro⟨l',h1,h2⟩;obtain⟨rfl,hr⟩:=(yT l').mp h1;rw[<-hw]at h2;rw[G8.mpr h2];dsimp only;rw[ah (by rw[hr];rfl)]
theorem fM.ok{h s:List Nat}{w:Bytes}(k:fM h w s):RX s h=true:=by
 have hn:=k.ne;obtain⟨_,h2,h3⟩:=k;unfold RX;rw[h2,h3];cases s with
 |nil=>exact absurd rfl hn|cons a l=>rfl
theorem jV.ok:∀{hs}{ws}{q},jV hs ws q->q.length=hs.length/\∀z∈q.zip hs,RX z.1 z.2=true
 |[],ws,q,h=>by
  rw[h.2];exact⟨rfl,by simp⟩
 |[h0],ws,q,h=>by
  obtain⟨w,s,_,h1,rfl⟩:=h;refine⟨rfl,λz hz=>?_⟩;have:z=(s,h0):=‹hz›
  rw[this];exact h1.ok
 |h0::i::t,ws,q,h=>by
  obtain⟨w,s,rest,r,_,h1,h2,rfl⟩:=h;obtain⟨a,b⟩:=jV.ok h2;refine⟨by rw[aY,a];rfl,λz hz=>?_⟩;rw[j7]at hz;obtain e|hz:=mem_cons.mp hz
  .rw[e];exact h1.ok
  .exact b z hz
def G_{h:List Nat}{p:List Nat->List Nat->Bool}:∀{q:List (List Nat)},q.length=k->(∀z∈q.zip (List.replicate k h),p z.1 z.2=true)->∀s∈q,p s h=true:=by
 intro q hl hz s hs;obtain⟨i,hi,e⟩:=mG hs;have Tz:i<(q.zip (List.replicate k h)).length:=by simp;omega
 have:=hz (q.zip (List.replicate k h))[i] (pS Tz);rw[getElem_zip,getElem_replicate,e]at this;exact this
def ip{tail:List Bytes}{x:Bet}(hb:dP C (C.pool x.pool) hw tail x.how x.sets):C.setsRight x=true:=by
 unfold Card.setsRight;obtain⟨_,e1,h1⟩|⟨_,hm,e1,w,s,_,h1,h2,h3⟩|⟨_,hm,e1,wa,wb,A,B,_,h1,h2,h3,h4,h5,h6⟩:=hb
 .rw[e1];obtain⟨a,b⟩:=h1.ok;unfold dI at a b;rw[bC,kz];by_cases hk:(C.pool x.pool).kind=.legs
  .rw[ah hk]at a b⊢;refine⟨?_,all_eq_true.mpr b⟩;rw[a,qu hk];unfold Pool.places;rw[af (by rw[hk];decide)]
  .rw[af hk]at a b⊢;rw[jC]at a;exact⟨a,all_eq_true.mpr (G_ a b)⟩
 .rw[e1];show(((C.pool x.pool).kind==.order||(C.pool x.pool).kind==.any)&&(x.sets.length==1&&x.sets.all λ(s:List Nat)=>RX s (C.headsOf (C.pool x.pool).race)&&decide ((C.pool x.pool).k<=s.length)))=true;rw[(jw _).mpr hm,h3];simp[h1.ok,h2]
 .rw[e1];show(((C.pool x.pool).kind==.order||(C.pool x.pool).kind==.any)&&(x.sets.length==2&&(x.sets.all (λ(s:List Nat)=>RX s (C.headsOf (C.pool x.pool).race))&&(decide ((x.sets.headD []).length<(C.pool x.pool).k)&&(!((x.sets.getD 1 []).any λ(y:Nat)=>(x.sets.headD []).contains y)&&decide ((C.pool x.pool).k<=(x.sets.headD []).length+(x.sets.getD 1 []).length))))))=true;rw[(jw _).mpr hm,h6];have h4':(!(([A,B]:List (List Nat)).getD 1 []).any λ(y:Nat)=>(([A,B]:List (List Nat)).headD []).contains y)=true:=by
   show(!(B.any λ(y:Nat)=>A.contains y))=true;rw[h4];rfl
  rw[h4'];simp[h1.ok,h3.ok,h2,h5]
structure VN(m:Money):Prop where
 up:Up (m.map λ(x:Nat×Nat)=>x.1)
 pos:∀e∈m,0<e.2
def Lx a c (l:Money) n:Money.on ((a,c)::l) n=if a=n then c else Money.on l n:=by
 unfold Money.on;rw[J0];by_cases h:a=n
 .have:((a,c).1==n)=true:=by simpa using h
  rw[this,ah h];rfl
 .have:((a,c).1==n)=false:=by simpa using h
  rw[this,af h]
def VN.tail{a:Nat×Nat}{l:Money}(h:VN (a::l)):VN l:=⟨(pairwise_cons.mp h.up).2,λe he=>h.pos e (by simp[he])⟩
def VN.lt{a:Nat}{l:Money}(h:VN ((a,c)::l)):∀e∈l,a<e.1:=λe he=>(pairwise_cons.mp h.up).1 e.1 (mem_map.mpr ⟨e,he,rfl⟩)
theorem QV:∀{l}{n},(∀e∈l,e.1≠n)->Money.on l n=0
 |[],n,_=>rfl
 |(a,c)::l,n,h=>by
  rw[Lx,af (h (a,c) ∅),QV λe he=>h e (by simp[he])]
def Nu:m.right many=true↔VN m/\(∀e∈m,e.1<many)/\m.length<=262144/\m.total<=CENTS:=by
 unfold Money.right;simp only[Bool.and_eq_true,all_eq_true,decide_eq_true_eq,ie];constructor
 .rintro⟨h1,h2,h3,h4⟩;exact⟨⟨h1,λe he=>(h2 e he).2⟩,λe he=>(h2 e he).1,h3,h4⟩
 .rintro⟨h1,h2,h3,h4⟩;exact⟨h1.up,λe he=>⟨h2 e he,h1.pos e he⟩,h3,h4⟩
def rR(x:Nat×Nat)(m:Money):Money.total (x::m)=x.2+Money.total m:=by
 unfold Money.total;have f:∀(l:List Nat)(a b:Nat),l.foldl (λ(a b:Nat)=>a+b) (a+b)=a+l.foldl (λ(a b:Nat)=>a+b) b:=by
  intro l
  induction l with
  |nil=>intro a b;rfl|cons c l ih=>intro a b;rw[dW,dW,Nat.add_assoc,ih]
 rw[aP,dW,iU];have:=f (m.map λ(x:Nat×Nat)=>x.2) x.2 0;rw[sE]at this;exact this
def UB{s t:Option Card}(h:rF s ws t)(hs:∀C,s=some C->CN C):∀C,t=some C->CN C:=by
 intro D hD;cases s with
 |none=>
  obtain⟨n,_,_,e⟩:=h;rw[e]at hD;cases hD;intro r hr;simp[noCard]at hr
 |some C=>
  have gC:=hs C rfl;obtain⟨r,rest,_,_,_,hr,e⟩|⟨p,rest,x,_,_,_,_,hp,e⟩:=h
  .rw[e]at hD;cases hD;exact gC
  .rw[e]at hD;cases hD;intro q hq;obtain z|z:=mem_append.mp hq
   .exact gC q z
   .have:q=p:=by simpa using z
    subst this;exact hp.YS
theorem Ly:∀{ls}{s t},hZ s ls t->(∀C,s=some C->CN C)->∀C,t=some C->CN C
 |[],s,t,h,hs,C,hC=>by
  have h:=h;rw[h]at hC;exact hs C hC
 |l::ls,s,t,h,hs,C,hC=>by
  obtain⟨u,h1,h2⟩:=h;exact Ly h2 (UB h1 hs) C hC
def UC{b:Bytes}(h:readCard b=.ok C):CN C:=by
 obtain⟨⟨ls,_,hf⟩,_⟩:=km.mp h;exact Ly hf (λ_ z=>by cases z) C rfl
end Pd
end
section
namespace Pd
open Tote TotePoolCalls
def UD{l:List Int}(h:∀x∈l,0<=x) n:((Money.on (PoolNeutral.pairs l) n:Nat):Int)=(zb (bK l) n).getD 0:=by
 rw[Pn l h,m8]
end Pd
end
section
namespace Pd
open Tote
noncomputable def dE(h:List Nat)(x:Nat):Int:=((h.findIdx λy=>y==x:Nat):Int)
noncomputable def iN(h:List Nat):List Int:=h.map λ(n:Nat)=>(n:Int)
def UE h (x:Nat):t4 (iN h) (x:Int)=dE h x:=by
 unfold t4 iN dE;rw[findIdx_map];congr 2;funext y;rw[gi];simp;omega
def QW{h:List Nat}{x:Nat}:(x:Int)∈iN h↔x∈h:=by
 constructor
 .intro z;obtain⟨y,hy,e⟩:=mem_map.mp z;have:y=x:=by omega
  exact this▸hy
 .intro z;exact mem_map.mpr ⟨x,z,rfl⟩
def Eg{h:List Nat}(up:Up h){x:Nat}(e:h[i]?=some x):dE h x=(i:Int):=by
 unfold dE;rw[jU up.nodup e]
def jW{h:List Nat}(up:Up h){x y:Nat}(hx:x∈h)(hy:y∈h):dE h x<dE h y↔x<y:=by
 obtain⟨i,hi,rfl⟩:=mG hx;obtain⟨j,hj,rfl⟩:=mG hy;rw[Eg up (bg hi),Eg up (bg hj)];have m:=pairwise_iff_getElem.mp up;constructor
 .intro z;exact m i j hi hj ()
 .obtain a|a|a:=sC i j
  .omega
  .subst a;omega
  .have:=m j i hj hi a;omega
def xN{h:List Nat}(up:Up h){x y:Nat}(hx:x∈h)(hy:y∈h)(e:dE h x=dE h y):x=y:=by
 have a:=jW up hx hy;have b:=jW up hy hx;omega
theorem rS c:∀w acc,splitOn c acc w=bU c acc w
 |[],acc=>rfl
 |x::r,acc=>by
  rw[ny,qg,rS c r [],rS c r (acc++ [x])]
def aa5(c:UInt8):sg c.toNat=44↔c=44:=by
 unfold sg;constructor
 .intro h
  repeat' split at h
  all_goals first|omega|(apply UInt8.toNat_inj.mp;simpa using by assumption)
 .rintro rfl;decide
def aa6(c:UInt8):sg c.toNat=47↔c=47:=by
 unfold sg;constructor
 .intro h
  repeat' split at h
  all_goals first|omega|(apply UInt8.toNat_inj.mp;simpa using by assumption)
 .rintro rfl;decide
def aa7 w:cut 44 [] (cw w)=(splitOn 44 [] w).map cw:=by
 rw[rS];exact yD (c:=44) aa5 w []
def cw_slash w:cw w=kU↔w=ascii "/":=by
 have e:ascii "/"=[47]:=by decide
 rw[e];unfold kU cw;constructor
 .intro h;cases w with
  |nil=>cases h
  |cons c r=>
   injection h with h1 h2;rw[(aa6 c).mp h1,map_eq_nil_iff.mp h2]
 .rintro rfl;decide
def zX{f:α->Option β}{a:α}{l:List α}{ys:List β}:(a::l).mapM f=some ys↔∃y z,f a=some y/\l.mapM f=some z/\ys=y::z:=by
 rw[mapM_cons];cases f a with
 |none=>simp
 |some y=>
  cases e:l.mapM f with
  |none=>simp[e]
  |some z=>
   simp[e];exact⟨λh=>h.symm,λh=>h.symm⟩
theorem Ha{h:List Nat}:∀{l:List Bytes},(∀p∈l,dv (cw p)∈iN h)->∃s,l.mapM numberOf=some s/\(l.map λp=>dv (cw p))=iN s/\∀x∈s,x∈h
 |[],_=>⟨[],rfl,rfl,by simp⟩
 |p::l,hp=>by
  obtain⟨s,h1,h2,h3⟩:=Ha λq hq=>hp q (bE _ hq);have hm:=hp p (bZ ..);obtain⟨n,hn,e⟩:=mem_map.mp hm;have o:=rC (by rw[<-e];omega);refine⟨n::s,zX.mpr ⟨n,s,by rw[o.1,<-e];rfl,h1,rfl⟩,?_,?_⟩
  .rw[aP,h2,<-e];rfl
  .intro x hx;obtain rfl|z:=mem_cons.mp hx
   .exact hn
   .exact h3 x z
theorem Hb{h:List Nat}(Mx:∀x∈h,x<32):∀{l:List Bytes}{s},l.mapM numberOf=some s->(∀x∈s,x∈h)->(l.map λp=>dv (cw p))=iN s
 |[],s,e,_=>by
  cases e;rfl
 |p::l,s,e,hs=>by
  obtain⟨y,z,h1,h2,rfl⟩:=zX.mp e;have:=Mx y (hs y (bZ ..));rw[aP,Hb Mx h2 λx hx=>hs x (bE _ hx),rB h1 ()];rfl
def JA{h:List Nat}(up:Up h):∀{s},(∀x∈s,x∈h)->((s.map (dE h)).Pairwise (·<·)↔Up s):=λ{s} hs=>by
 rw[pO];constructor
 .intro z;exact z.imp_of_mem λ{a b} ha hb e=>(jW up (hs a ha) (hs b hb)).mp e
 .intro z;exact z.imp_of_mem λ{a b} ha hb e=>(jW up (hs a ha) (hs b hb)).mpr e
def Lz{h s:List Nat}:(iN s).map (t4 (iN h))=s.map (dE h):=by
 unfold iN;rw[ck];apply fQ;intro x _;exact UE h x
def ua{h:List Nat}(up:Up h)(Mx:∀x∈h,x<32){w:Bytes}{ps:List Int}:setM (cw w) (iN h)=some ps↔∃s,fM h w s/\ps=s.map (dE h):=by
 unfold setM fM;rw[aa7,ck];show(if((splitOn 44 [] w).map λp=>dv (cw p)).all _=true then(if(((splitOn 44 [] w).map λp=>dv (cw p)).map (t4 (iN h))).Pairwise (·<·)then some (((splitOn 44 [] w).map λp=>dv (cw p)).map (t4 (iN h)))else none)else none)=some ps↔_;generalize splitOn 44 [] w=l;constructor
 .intro z;split at z
  .rename_i fu;split at z
   .rename_i X9;cases z;obtain⟨s,h1,h2,h3⟩:=Ha (l:=l) λp hp=>by simpa using all_eq_true.mp fu _ (mem_map.mpr ⟨p,hp,rfl⟩)
    rw[h2,Lz]at X9⊢;exact⟨s,⟨h1,(ie s).mpr ((JA up h3).mp X9),all_eq_true.mpr λx hx=>‹h3 x hx›⟩,rfl⟩
   .cases z
  .cases z
 .rintro⟨s,⟨h1,h2,h3⟩,rfl⟩;have h3:=λx hx=>by simpa using all_eq_true.mp h3 x hx
  rw[Hb Mx h1 h3,Lz,ah,ah ((JA up h3).mpr ((ie s).mp h2))];rw[du];intro x hx;obtain⟨n,hn,rfl⟩:=mem_map.mp hx;simpa using QW.mpr (h3 n hn)
theorem QX:∀{hs}{tail}{Yg},hs≠ []->(∀h∈hs,Up h/\∀x∈h,x<32)->
  ((tail.length+1=2*hs.length/\(L2.oF (tail.map cw)).all (λt=>decide (t=kU))=true/\cG (λx=>setM x.1 x.2) ((L2.bp (tail.map cw)).zip (hs.map iN))=some Yg)↔∃q,jV hs tail q/\Yg=List.zipWith (λh s=>s.map (dE h)) hs q)
 |[h],tail,Yg,_,hu=>by
  have hh:=hu h (bZ ..);constructor
  .rintro⟨h1,_,h3⟩;obtain⟨w,rfl⟩:=length_eq_one_iff.mp (show tail.length=1 by simp at h1;omega);obtain⟨y,ys,e1,e2,rfl⟩:=bG.mp (show cG (λx=>setM x.1 x.2) ((cw w,iN h)::[])=some Yg from h3);cases e2;obtain⟨s,hs,rfl⟩:=(ua hh.1 hh.2).mp e1;exact⟨[s],⟨w,s,rfl,hs,rfl⟩,rfl⟩
  .rintro⟨q,⟨w,s,rfl,hs,rfl⟩,rfl⟩;refine⟨rfl,rfl,?_⟩;exact bG.mpr ⟨s.map (dE h),[],(ua hh.1 hh.2).mpr ⟨s,hs,rfl⟩,rfl,rfl⟩
 |h::i::t,tail,Yg,_,hu=>by
  have hh:=hu h (bZ ..);have ih:= @QX (i::t);constructor
  .rintro⟨h1,h2,h3⟩
   match tail,h1 with
   |w::sl::rest,h1=>
    have h2:(L2.oF (cw w::cw sl::rest.map cw)).all (λt=>decide (t=kU))=true:=h2;rw[L2.xc,c9,bC,fB]at h2;obtain⟨y,ys,e1,e2,rfl⟩:=bG.mp (show cG (λx=>setM x.1 x.2) ((cw w,iN h)::(L2.bp (rest.map cw)).zip ((i::t).map iN))=some Yg from h3);obtain⟨s,hs,rfl⟩:=(ua hh.1 hh.2).mp e1;obtain⟨q,hq,rfl⟩:=(ih ∅ (λx hx=>hu x (bE _ hx))).mp ⟨by simp at h1⊢;omega,h2.2,e2⟩;exact⟨s::q,⟨w,s,rest,q,by rw[(cw_slash sl).mp h2.1],hs,hq,rfl⟩,rfl⟩
  .rintro⟨q,⟨w,s,rest,r,rfl,hs,hr,rfl⟩,rfl⟩;obtain⟨a1,a2,a3⟩:=(ih ∅ (λx hx=>hu x (bE _ hx))).mpr ⟨r,hr,rfl⟩;refine⟨by simp at a1⊢;omega,?_,?_⟩
   .show(L2.oF (cw w::cw (ascii "/")::rest.map cw)).all (λt=>decide (t=kU))=true;rw[L2.xc,c9,bC,fB];exact⟨(cw_slash _).mpr rfl,a2⟩
   .exact bG.mpr ⟨_,_,(ua hh.1 hh.2).mpr ⟨s,hs,rfl⟩,a3,rfl⟩
def nz:(mp p).kind=cg↔p.kind=.legs:=eX
def zY:(mp p).kind=dy↔p.kind=.place:=fZ
def JB:(mp p).kind=ji↔p.kind=.any:=by
 show cw (gY p.kind)=ji↔_;cases p.kind<;>decide
def QY:(mp p).kind=dz↔p.kind=.order:=by
 show cw (gY p.kind)=dz↔_;cases p.kind<;>decide
def o5{C:Card}(P:MA (C.races.map hI) (mp p)):cB (C.races.map hI) (mp p)=(C.sets p).map iN:=by
 have r1:1<=(p.race:Int):=P.r1;have r2:(p.race:Int)<=((C.races.map hI).length:Int):=P.r2;rw[az]at r2;have e:((mp p).race-1).toNat=p.race-1:=by show((p.race:Int)-1).toNat=_;omega
 have ek:(mp p).k.toNat=p.k:=by show((p.k:Int)).toNat=_;omega
 have hh:∀j,1<=j->j-1<C.races.length->(C.races.map hI)[j-1]?=some (iN (C.headsOf j)):=λj h1 h2=>by
  unfold Card.headsOf;rw[a_,bg h2];rfl
 unfold cB mZ Card.sets Pool.legs;rw[e,ek];by_cases hk:p.kind=.legs
 .have sf:=nz.mpr hk;have hl:(p.race:Int)+(p.k:Int)-1<=((C.races.map hI).length:Int):=P.legs sf;rw[az]at hl;rw[ah sf,ah hk];apply pP;intro i;by_cases hi:i<p.k
  .rw[getElem?_take,ah hi,pH,show p.race-1+i=p.race+i-1 by omega,hh _ () (),a_,a_,wQ hi];rfl
  .rw[om (by rw[cS];have:=Nat.min_le_left p.k (List.drop (p.race-1) (C.races.map hI)).length;omega),om (by simp;omega)]
 .have sf:=λz=>hk (nz.mp z);rw[af sf,af hk,cQ,hh _ () ()];rfl
def cw_on w:cw w=M8↔w=ascii "on":=cw_word ⋯ ⋯
def cw_box w:cw w=zB↔w=ascii "box":=cw_word ⋯ ⋯
def cw_key w:cw w=Ub↔w=ascii "key":=cw_word ⋯ ⋯
def cw_with w:cw w=Qv↔w=ascii "with":=cw_word ⋯ ⋯
def cw_bet w:cw w=Um↔w=ascii "bet":=cw_word ⋯ ⋯
def cw_for w:cw w=Uo↔w=ascii "for":=cw_word ⋯ ⋯
noncomputable def mm(C:Card)(p:Pool)(sets:List (List Nat)):List (List Int):=if p.kind=.legs then List.zipWith (λh s=>s.map (dE h)) (C.sets p) sets else sets.map λs=>s.map (dE (C.headsOf p.race))
theorem Hc{h:List Nat}:∀{n}{q:List (List Nat)},q.length=n->List.zipWith (λh s=>s.map (dE h)) (List.replicate n h) q=q.map λs=>s.map (dE h)
 |0,[],_=>rfl
 |n+1,s::q,e=>by
  rw[j6,zipWith_cons_cons,Hc ‹e›];rfl
theorem zZ(x:α):∀n:Nat,(List.replicate n [x]).flatten=List.replicate n x
 |0=>rfl
 |n+1=>by
  rw[j6,mH,zZ x n];rfl
def QZ{C:Card}(g:CG C){p:Pool}(P:MA (C.races.map hI) (mp p)){hw:Bytes}{tail:List Bytes}{ss:List (List Int)}:
  jO ((hw::tail).map cw) (mp p) (cB (C.races.map hI) (mp p))=some ss↔∃how sets,dP C p hw tail how sets/\ss=mm C p sets:=by
 have k1:1<=(p.k:Int):=P.k1;rw[o5 P];unfold jO;show(if cw hw=M8 then Qz (tail.map cw) (mp p) ((C.sets p).map iN)else if(mp p).kind=dz\/(mp p).kind=ji then(if cw hw=zB then A2 (tail.map cw) (mp p).k (((C.sets p).map iN).getD 0 [])else if cw hw=Ub then D6 (tail.map cw) (mp p).k (((C.sets p).map iN).getD 0 [])else none)else none)=some ss↔_;by_cases ho:hw=ascii "on"
 .rw[ah ((cw_on hw).mpr ho)];have hl:dI C p≠ []/\((dI C p).length:Int)=vW (mp p)/\(if(mp p).kind=cg then(C.sets p).map iN else(List.replicate (vW (mp p)).toNat ((C.sets p).map iN)).flatten)=(dI C p).map iN/\∀q,q.length=(dI C p).length->List.zipWith (λh s=>s.map (dE h)) (dI C p) q=mm C p q:=by
   unfold dI mm;by_cases hk:p.kind=.legs
   .have e1:=qu (C:=C) hk;have e2:vW (mp p)=(p.k:Int):=by
     unfold vW;rw[af (λz=>by rw[zY.mp z]at hk;cases hk)];rfl
    rw[ah hk,ah (nz.mpr hk),e2];refine⟨λz=>?_,by omega,rfl,λq _=>by rw[ah hk]⟩;rw[z]at e1;simp at e1;omega
   .have e2:vW (mp p)=(p.places:Int):=by
     unfold vW Pool.places;by_cases hp:p.kind=.place
     .rw[ah (zY.mpr hp),ah hp];rfl
     .rw[af (λz=>hp (zY.mp z)),af hp];rfl
    have e3:1<=p.places:=by
     unfold Pool.places;split
     .exact aQ _
     .omega
    have e4:C.sets p=[C.headsOf p.race]:=by
     unfold Card.sets Pool.legs;rw[af hk];rfl
    rw[af hk,af (λz=>hk (nz.mp z)),e2,e4,jC];refine⟨λz=>?_,rfl,?_,λq hq=>by rw[af hk,Hc hq]⟩
    .have:=bW List.length z;rw[jC]at this;simp at this;omega
    .show(List.replicate (p.places:Int).toNat [iN (C.headsOf p.race)]).flatten=_;rw[zZ,gZ,map_replicate]
  obtain⟨h1,h2,h3,h4⟩:=hl;have hon:=QX (hs:=dI C p) (tail:=tail) (Yg:=ss) h1 (λh hh=>by
   unfold dI at hh;split at hh
   .have:=xJ g p h hh;exact⟨this.1,this.2.1⟩
   .rw[wq hh];have:=cX g p.race;exact⟨this.1,this.2.1⟩)
  have hM:Qz (tail.map cw) (mp p) ((C.sets p).map iN)=some ss↔(tail.length+1=2*(dI C p).length/\(L2.oF (tail.map cw)).all (λt=>decide (t=kU))=true/\cG (λx=>setM x.1 x.2) ((L2.bp (tail.map cw)).zip ((dI C p).map iN))=some ss):=by
   unfold Qz;rw[h3,az,<-h2];constructor
   .intro z;split at z
    .split at z
     .exact⟨by omega,by assumption,z⟩
     .cases z
    .cases z
   .rintro⟨a,b,c⟩;rw[ah (),ah b];exact c
  rw[hM,hon];constructor
  .rintro⟨q,hq,rfl⟩;exact⟨.on,q,.inl ⟨ho,rfl,hq⟩,h4 q hq.ok.1⟩
  .rintro⟨how,q,hb,rfl⟩;obtain⟨_,_,hq⟩|⟨z,_⟩|⟨z,_⟩:=hb
   .exact⟨q,hq,(h4 q hq.ok.1).symm⟩
   .exact absurd (ho.symm.trans z) ⋯
   .exact absurd (ho.symm.trans z) ⋯
 rw[af (λz=>ho ((cw_on hw).mp z))];have aa8:((mp p).kind=dz\/(mp p).kind=ji)↔t_ p:=by
  unfold t_;exact or_congr QY JB
 by_cases hm:t_ p
 .have hk:p.kind≠ .legs:=by
   obtain z|z:=hm<;>rw[z] <;>decide
  have hR:((C.sets p).map iN).getD 0 []=iN (C.headsOf p.race):=by
   unfold Card.sets Pool.legs;rw[af hk];rfl
  have hh:=cX g p.race;have iz:∀q,mm C p q=q.map λs=>s.map (dE (C.headsOf p.race)):=λq=>by
   unfold mm;rw[af hk]
  have Y_:= @ua (C.headsOf p.race) hh.1 hh.2.1;have hmk:(mp p).k=(p.k:Int):=rfl;rw[ah (aa8.mpr hm),hR,hmk];by_cases hb:hw=ascii "box"
  .rw[ah ((cw_box hw).mpr hb)];unfold A2;rw[az];constructor
   .intro z;split at z
    .rename_i hl;obtain⟨w,rfl⟩:=length_eq_one_iff.mp hl;have z:(match setM (cw w) (iN (C.headsOf p.race))with
      |none=>none|some s=>if(p.k:Int)<=(s.length:Int)then some [s]else none)=some ss:=z
     split at z
     .cases z
     .rename_i s es;obtain⟨s,hs,rfl⟩:=Y_.mp es;split at z
      .rename_i hkl;cases z;rw[az]at hkl;exact⟨.box,[s],.inr (.inl ⟨hb,hm,rfl,w,s,rfl,hs,by omega,rfl⟩),by rw[iz];rfl⟩
      .cases z
    .cases z
   .rintro⟨how,q,hq,rfl⟩;obtain⟨z,_⟩|⟨_,_,_,w,s,rfl,hs,hl,rfl⟩|⟨z,_⟩:=hq
    .exact absurd z ho
    .rw[ah (show [w].length=1 from rfl)];show(match setM (cw w) (iN (C.headsOf p.race))with
      |none=>none|some s=>if(p.k:Int)<=(s.length:Int)then some [s]else none)=_
     rw[Y_.mpr ⟨s,hs,rfl⟩];dsimp only;rw[ah (by rw[az];omega),iz];rfl
    .exact absurd (hb.symm.trans z) ⋯
  rw[af (λz=>hb ((cw_box hw).mp z))];by_cases hky:hw=ascii "key"
  .rw[ah ((cw_key hw).mpr hky)];have fu:∀A B:List Nat,(∀x∈A,x∈C.headsOf p.race)->(∀x∈B,x∈C.headsOf p.race)->(((A.map (dE (C.headsOf p.race))).all (λn=>!decide (n∈B.map (dE (C.headsOf p.race)))))=true↔(B.any λ(y:Nat)=>A.contains y)=false):=λA B hA hB=>by
    rw[du,<-Bool.not_eq_true,pR];constructor
    .rintro z ⟨y,hy,hc⟩;have hc:y∈A:=by simpa using hc
     have:=z _ (mem_map.mpr ⟨y,hc,rfl⟩);simp only[Bool.not_eq_true',decide_eq_false_iff_not]at this;exact this (mem_map.mpr ⟨y,hy,rfl⟩)
    .intro z n hn;obtain⟨y,hy,rfl⟩:=mem_map.mp hn;simp only[Bool.not_eq_true',decide_eq_false_iff_not];intro hc;obtain⟨v,hv,e⟩:=mem_map.mp hc;have:=xN hh.1 (hB v hv) (hA y hy) e;exact z ⟨v,hv,by rw[this];simpa using hy⟩
   have mn:∀{w:Bytes}{s:List Nat},fM (C.headsOf p.race) w s->∀x∈s,x∈C.headsOf p.race:=λh x hx=>‹all_eq_true.mp h.2.2 x hx›
   unfold D6;rw[az];constructor
   .intro z;split at z
    .rename_i hl;obtain⟨wa,wm,wb,rfl⟩:∃a b c,tail=[a,b,c]:=by
      obtain⟨a,r,rfl,h2⟩:=Iq hl.1;obtain⟨b,c,rfl⟩:=FQ h2;exact⟨a,b,c,rfl⟩
     have e0:wm=ascii "with":=(cw_with wm).mp hl.2;have z:(match setM (cw wa) (iN (C.headsOf p.race))with
      |none=>none
      |some A=>match setM (cw wb) (iN (C.headsOf p.race))with
       |none=>none|some B=>if(A.length:Int)<(p.k:Int)then(if A.all (λn=>!decide (n∈B))=true then(if(p.k:Int)<=(A.length:Int)+(B.length:Int)then some [A,B]else none)else none)else none)=some ss:=z
     split at z
     .cases z
     .rename_i A eA;obtain⟨A,hA,rfl⟩:=Y_.mp eA;split at z
      .cases z
      .rename_i B eB;obtain⟨B,hB,rfl⟩:=Y_.mp eB;split at z
       .rename_i c1;split at z
        .rename_i c2;split at z
         .rename_i c3;cases z;rw[az]at c1 c3;rw[az]at c3;exact⟨.key,[A,B],.inr (.inr ⟨hky,hm,rfl,wa,wb,A,B,by rw[e0],hA,by omega,hB,(fu A B (mn hA) (mn hB)).mp c2,by omega,rfl⟩),by rw[iz];rfl⟩
         .cases z
        .cases z
       .cases z
    .cases z
   .rintro⟨how,q,hq,rfl⟩;obtain⟨z,_⟩|⟨z,_⟩|⟨_,_,_,wa,wb,A,B,rfl,hA,c1,hB,c2,c3,rfl⟩:=hq
    .exact absurd z ho
    .exact absurd z hb
    .rw[ah ⟨rfl,(cw_with _).mpr rfl⟩];show(match setM (cw wa) (iN (C.headsOf p.race))with
      |none=>none
      |some A=>match setM (cw wb) (iN (C.headsOf p.race))with
       |none=>none|some B=>if(A.length:Int)<(p.k:Int)then(if A.all (λn=>!decide (n∈B))=true then(if(p.k:Int)<=(A.length:Int)+(B.length:Int)then some [A,B]else none)else none)else none)=_
     rw[Y_.mpr ⟨A,hA,rfl⟩];dsimp only;rw[Y_.mpr ⟨B,hB,rfl⟩];dsimp only;rw[ah (by rw[az];omega),ah ((fu A B (mn hA) (mn hB)).mpr c2),ah (by rw[az,az];omega),iz];rfl
  rw[af (λz=>hky ((cw_key hw).mp z))];constructor
  .intro z;cases z
  .rintro⟨how,q,hq,_⟩;obtain⟨z,_⟩|⟨z,_⟩|⟨z,_⟩:=hq
   .exact absurd z ho
   .exact absurd z hb
   .exact absurd z hky
 .rw[af (λz=>hm (aa8.mp z))];constructor
  .intro z;cases z
  .rintro⟨how,q,hq,_⟩;obtain⟨z,_⟩|⟨_,z,_⟩|⟨_,z,_⟩:=hq
   .exact absurd z ho
   .exact absurd z hm
   .exact absurd z hm
def prod_cons a l:product (a::l)=a*product l:=t8 a l
theorem Cu:∀hs sets ns,sets.length=hs.length->((List.zipWith (λh s=>s.map (dE h)) hs sets).zip (hs.map iN)).foldl fK ns=ns.flatMap λm=>(rowsOf sets).map λr=>m*((product (hs.map List.length):Nat):Int)+((rankLegs hs r:Nat):Int)
 |[],[],ns,_=>by
  show ns=ns.flatMap λm=>[m*((1:Nat):Int)+((0:Nat):Int)]
  induction ns with
  |nil=>rfl
  |cons a l ih=>
   rw[kI,<-ih];simp
 |h::t,s::q,ns,e=>by
  show((List.zipWith (λh s=>s.map (dE h)) t q).zip (t.map iN)).foldl fK (fK ns (s.map (dE h),iN h))=_;rw[Cu t q _ ‹e›];unfold fK;rw[flatMap_assoc];congr 1;funext m;show((s.map (dE h)).map λp=>m*((iN h).length:Int)+p).flatMap _=((s.flatMap λx=>(rowsOf q).map λr=>x::r)).map _;rw[map_flatMap,ck,flatMap_map];congr 1;funext x;rw[ck];apply fQ;intro r _;show(m*((iN h).length:Int)+dE h x)*((product (t.map List.length):Nat):Int)+((rankLegs t r:Nat):Int)=m*((product ((h::t).map List.length):Nat):Int)+(((h.findIdx λ(y:Nat)=>y==x)*product (t.map List.length)+rankLegs t r:Nat):Int);have e1:(iN h).length=h.length:=by unfold iN;rw[az]
  rw[aP,prod_cons,e1];unfold dE
  push_cast
  rw[wY,pI,Int.add_assoc]
def Nv(e:sets.length=hs.length):og ((List.zipWith (λh s=>s.map (dE h)) hs sets).zip (hs.map iN))=iN ((rowsOf sets).map (rankLegs hs)):=by
 unfold og;rw[Cu hs sets [0] e];simp only[flatMap_cons,flatMap_nil,append_nil];unfold iN;rw[ck];apply fQ;intro r _;rw[Int.zero_mul,mJ];rfl
def JC:∀{hs sets},sets.length=hs.length->jc (List.zipWith (λh s=>s.map (dE h)) hs sets)=((product (sets.map List.length):Nat):Int):=by
 have:∀(hs sets:List (List Nat))(a:Int),sets.length=hs.length->(List.zipWith (λh s=>s.map (dE h)) hs sets).foldl (λr (l:List Int)=>r*(l.length:Int)) a=a*((product (sets.map List.length):Nat):Int):=by
  intro hs
  induction hs with
  |nil=>
   intro sets a e;cases sets with
   |nil=>show a=a*((1:Nat):Int);simp
   |cons _ _=>cases e
  |cons h t ih=>
   intro sets a e;cases sets with
   |nil=>cases e
   |cons s q=>
    show(List.zipWith (λh s=>s.map (dE h)) t q).foldl (λr (l:List Int)=>r*(l.length:Int)) (a*((s.map (dE h)).length:Int))=_;rw[ih q _ ‹e›,aP,prod_cons,az]
    push_cast
    rw[pI]
 intro hs sets e;unfold jc;rw[this hs sets 1 e,Int.one_mul]
def UG{h:List Nat}(up:Up h):h.map (dE h)=(List.range h.length).map λ(i:Nat)=>(0:Int)+(i:Int):=by
 apply pP;intro i;rw[a_,a_];by_cases hi:i<h.length
 .rw[bg hi,wQ hi];show some (dE h h[i])=some _;rw[Eg up (bg hi)];show some (i:Int)=some ((0:Int)+(i:Int));rw[mJ]
 .rw[om (),om (by simp;omega)];rfl
def UH{h had:List Nat}{row:List Int}(up:Up h)(hr:∀x∈h,(dE h x∈row↔x∈had)):cW h.length row=(h.filter λx=>!had.contains x).map (dE h):=by
 unfold cW;rw[<-UG up,mM];congr 1;apply jg;intro x hx;show(!decide (dE h x∈row))=!had.contains x;congr 1;rw[gi,fB,hr x hx];simp
def Eh:∀{l:List Nat},l.Nodup->l.zipIdx=l.map λx=>(x,l.findIdx λy=>y==x):=λ{l} nd=>by
 apply pP;intro i;rw[getElem?_zipIdx,a_];cases e:l[i]? with
 |none=>rfl
 |some x=>
  show some (x,0+i)=some (x,_);rw[jU nd e,iU]
def UI{h had s:List Nat}{row p:List Int}(up:Up h)(hr:∀x∈h,(dE h x∈row↔x∈had))(hs:s.Sublist h)(hp:∀x∈h,(dE h x∈p↔x∈s)):
  iY h.length p (row,num)=(s.filter λx=>!had.contains x).map λx=>(row++ [dE h x],num*(((h.filter λx=>!had.contains x).length:Nat):Int)+((((h.filter λx=>!had.contains x).findIdx λy=>y==x):Nat):Int)):=by
 unfold iY;dsimp only;rw[UH up hr];generalize Yh:(h.filter λx=>!had.contains x)=av;have upa:Up av:=by rw[<-Yh];exact qW _ up
 have mn:∀x∈av,x∈h:=λx hx=>by rw[<-Yh]at hx;exact(mem_filter.mp hx).1
 have e1:(av.map (dE h)).zipIdx=(av.map λx=>(x,av.findIdx λy=>y==x)).map λy=>(dE h y.1,y.2):=by
  rw[<-Eh upa.nodup,zipIdx_map];rfl
 have e2:(s.filter λx=>!had.contains x)=av.filter λx=>decide (x∈s):=by
  have:s=h.filter λx=>decide (x∈s):=jv hs up.nodup λx=>by
   rw[fB];exact⟨λz=>⟨hs.subset z,z⟩,λz=>z.2⟩
  rw[<-Yh,wV]
  conv=>lhs;rw[this]
  rw[wV];apply jg;intro x _;exact Bool.and_comm _ _
 rw[e1,ck,filterMap_map,e2,az];have fc:∀{f g:Nat->Option (List Int×Int)}{l:List Nat},(∀x∈l,f x=g x)->l.filterMap f=l.filterMap g:=λ{f g l} e=>by
  induction l with
  |nil=>rfl
  |cons a l ih=>
   rw[jD,jD,e a ∅,ih λx hx=>e x (by simp[hx])]
 rw[<-filterMap_eq_map,filterMap_filter];refine fc λx hx=>?_;show(if dE h x∈p then some (row++ [dE h x],num*((av.length:Nat):Int)+(((av.findIdx λy=>y==x):Nat):Int))else none)=_;by_cases c:x∈s
 .rw[ah ((hp x (mn x hx)).mpr c)];simp[c]
 .rw[af (λz=>c ((hp x (mn x hx)).mp z))];simp[c]
theorem z0{f g:α->List β}:∀{l:List α},(∀x∈l,f x=g x)->l.flatMap f=l.flatMap g
 |[],_=>rfl|a::l,e=>by rw[kI,kI,e a ∅,z0 λx hx=>e x (by simp[hx])]
theorem uY n:∀(ps:List (List Int)) rows,ps.foldl (jd n) rows=rows.flatMap λx=>ps.foldl (jd n) [x]
 |[],rows=>by
  show rows=rows.flatMap λx=>[x];rw[flatMap_singleton']
 |p::ps,rows=>by
  show ps.foldl (jd n) (jd n rows p)=_;rw[uY n ps];show(rows.flatMap (iY n p)).flatMap _=_;rw[flatMap_assoc];congr 1;funext x;show(iY n p x).flatMap _=ps.foldl (jd n) ([x].flatMap (iY n p));rw[flatMap_singleton,uY n ps]
def nA(h:List Nat)(p:List Int)(s:List Nat):Prop:=s.Sublist h/\∀x∈h,(dE h x∈p↔x∈s)
theorem z3{h:List Nat}(up:Up h):∀{ps}{ss},PySem.Paired (nA h) ps ss->∀row had num,(∀x∈h,(dE h x∈row↔x∈had))->
  ps.foldl (jd h.length) [(row,num)]=(apartRows ss had).map λr=>(row++r.map (dE h),num*((orders (h.filter λx=>!had.contains x).length ss.length:Nat):Int)+((rankOrder (h.filter λx=>!had.contains x) r:Nat):Int))
 |_,_,.nil,row,had,num,_=>by
  show [(row,num)]=[(row++ [],num*((orders (h.filter λx=>!had.contains x).length 0:Nat):Int)+((0:Nat):Int))];rw[kr];simp
 |_,_,.cons (a:=p) (b:=s) (l₁:=ps) (l₂:=ss) DT t,row,had,num,hr=>by
  show ps.foldl (jd h.length) (jd h.length [(row,num)] p)=_;rw[uY,show jd h.length [(row,num)] p=iY h.length p (row,num)from flatMap_singleton ..,UI up hr DT.1 DT.2,flatMap_map];show _=((s.filter λ(x:Nat)=>!had.contains x).flatMap λ(x:Nat)=>(apartRows ss (x::had)).map λ(r:List Nat)=>x::r).map _;rw[map_flatMap];generalize Yh:(h.filter λx=>!had.contains x)=av at*;have upa:Up av:=by rw[<-Yh];exact qW _ up
  refine z0 λx hx=>?_;have hxs:=mem_filter.mp hx;have hxh:=DT.1.subset hxs.1;have hxa:x∈av:=by rw[<-Yh];exact mem_filter.mpr ⟨hxh,hxs.2⟩
  have ad1:(h.filter λy=>!(x::had).contains y)=av.erase x:=by
   rw[upa.nodup.erase_eq_filter,<-Yh,wV];apply jg;intro y _;rw[contains_cons];cases had.contains y<;>simp[bne]
  rw[z3 up t (row++ [dE h x]) (x::had) _ (λy hy=>by
   rw[jh,sO,hr y hy,sv];constructor
   .rintro(z|z)
    .exact .inr z
    .exact .inl (xN up hy hxh z)
   .rintro(z|z)
    .exact .inr (by rw[z])
    .exact .inl z),ad1,ck]
  apply fQ;intro r hrr;have hlr:=(dO.mp hrr).1;have P4:=qY hxa;have hl0:=wF hxa;obtain⟨m,hm⟩:∃m,av.length=m+1:=⟨av.length-1,by omega⟩;show(row++ [dE h x] ++r.map (dE h),_)=(row++(dE h x::r.map (dE h)),num*((orders av.length (ss.length+1):Nat):Int)+(((av.findIdx λ(y:Nat)=>y==x)*orders (av.length-1) r.length+rankOrder (av.erase x) r:Nat):Int));rw[P4,hlr,hm,iR];show(_,_)=(_,num*(((m+1)*orders m ss.length:Nat):Int)+_);congr 1
  push_cast
  rw[wY,pI,Int.add_assoc]
def o6{h:List Nat}(up:Up h){ps:List (List Int)}(t:PySem.Paired (nA h) ps ss):eG h.length ps=(apartRows ss []).map λr=>(r.map (dE h),((rankOrder h r:Nat):Int)):=by
 unfold eG;rw[z3 up t [] [] 0 (λx _=>by simp)];apply fQ;intro r _;rw[pK,Int.zero_mul,mJ];have:(h.filter λx=>!([]:List Nat).contains x)=h:=filter_eq_self.mpr λx _=>rfl;rw[this]
noncomputable def Yi(k:Nat)(how:How)(sets:List (List Nat)):List (List Nat):=match how with
 |.on=>apartRows sets []|.box=>apartRows (List.replicate k (sets.headD [])) []
 |.key=>(apartRows (List.replicate k (together sets)) []).filter λr=>(sets.headD []).all λx=>r.contains x
def ub{h s:List Nat}(up:Up h)(hs:s.Sublist h):nA h (s.map (dE h)) s:=⟨hs,λx hx=>by
 constructor
 .intro z;obtain⟨y,hy,e⟩:=mem_map.mp z;exact xN up (hs.subset hy) hx e▸hy
 .intro z;exact mem_map.mpr ⟨x,z,rfl⟩⟩
theorem Cv{h:List Nat}(up:Up h):∀{sets},(∀s∈sets,s.Sublist h)->PySem.Paired (nA h) (sets.map λs=>s.map (dE h)) sets
 |[],_=>.nil|s::q,hs=>.cons (ub up (hs s ∅)) (Cv up λt ht=>hs t (by simp[ht]))
theorem z4{h:List Nat}{s:List Nat}(e:nA h p s):∀k:Nat,PySem.Paired (nA h) (List.replicate k p) (List.replicate k s)
 |0=>.nil|k+1=>.cons e (z4 e k)
def kY{h A B:List Nat}(up:Up h)(Mx:∀x∈h,x<32)(hA:A.Sublist h)(hB:B.Sublist h):nA h (A.map (dE h)++B.map (dE h)) (together [A,B]):=by
 have mem:∀x,x∈together [A,B]↔x<32/\(x∈A\/x∈B):=λx=>by
  rw[dn];constructor
  .rintro⟨a,s,hs,hx⟩;obtain rfl|hs:=mem_cons.mp hs
   .exact⟨a,.inl hx⟩
   .rw[mem_singleton.mp hs]at hx;exact⟨a,.inr hx⟩
  .rintro⟨a,hx|hx⟩
   .exact⟨a,A,by simp,hx⟩
   .exact⟨a,B,by simp,hx⟩
 refine⟨gf (o4 _) up λx hx=>?_,λx hx=>?_⟩
 .obtain z|z:=((mem x).mp hx).2
  .exact hA.subset z
  .exact hB.subset z
 .rw[jh,(ub up hA).2 x hx,(ub up hB).2 x hx,mem x];exact⟨λz=>⟨Mx x hx,z⟩,λz=>z.2⟩
def Ei{s:List Nat}(up:Up s)(Mx:∀x∈s,x<32):together [s]=s:=by
 refine(jv (gf up (oY 32) λx hx=>mem_range.mpr (Mx x hx)) (oY 32).nodup λx=>?_).symm;simp;exact λz=>Mx x z
def JD{h A:List Nat}(up:Up h)(hA:A.Sublist h)(hr:∀x∈r,x∈h):hasAll (r.map (dE h)) (A.map (dE h))=A.all λx=>r.contains x:=by
 unfold hasAll;rw[List.all_map,gi,du,du];refine forall_congr' λx=>imp_congr_right λhx=>?_;show decide (dE h x∈r.map (dE h))=true↔r.contains x=true;rw[fB];constructor
 .intro z;obtain⟨y,hy,e⟩:=mem_map.mp z;have:=xN up (hr y hy) (hA.subset hx) e;simpa[this]using hy
 .intro z;exact mem_map.mpr ⟨x,‹z›,rfl⟩
def Hd{h:List Nat}(hs:∀s∈ss,s.Sublist h)(hr:r∈apartRows ss []):∀x∈r,x∈h:=λx hx=>by
 have:=dO.mp hr;obtain⟨i,hi,rfl⟩:=mG hx;have hi3:i<ss.length:=by rw[<-this.1];exact hi
 have Tz:i<(r.zip ss).length:=by rw[j_];omega
 have h3:=all_eq_true.mp this.2.2.2 _ (pS Tz);rw[getElem_zip]at h3;exact(hs _ (pS hi3)).subset ‹h3›
def He(g:CG C){x:Bet}{tail:List Bytes}(hb:dP C (C.pool x.pool) hw tail x.how x.sets)(hk:(C.pool x.pool).kind≠ .legs):
  jQ (cw hw) (mm C (C.pool x.pool) x.sets) (C.pool x.pool).k (C.headsOf (C.pool x.pool).race).length=(Yi (C.pool x.pool).k x.how x.sets).map λr=>(r.map (dE (C.headsOf (C.pool x.pool).race)),((rankOrder (C.headsOf (C.pool x.pool).race) r:Nat):Int)):=by
 have hr:=ip hb;have hh:=cX g (C.pool x.pool).race;have hc:=ik g hr;have iz:mm C (C.pool x.pool) x.sets=x.sets.map λs=>s.map (dE (C.headsOf (C.pool x.pool).race)):=by
  unfold mm;rw[af hk]
 rw[iz];generalize C.pool x.pool=p at*;generalize C.headsOf p.race=h at*;obtain⟨up,Mx,_⟩:=hh;unfold jQ Yi;obtain⟨e1,e2,_⟩|⟨e1,_,e2,w,s,_,_,_,e3⟩|⟨e1,_,e2,wa,wb,A,B,_,_,_,_,_,_,e3⟩:=hb
 .rw[ah ((cw_on hw).mpr e1),e2];have hs:∀s∈x.sets,s.Sublist h:=by
   obtain⟨z,_⟩|⟨_,_,_,z⟩|⟨_,z,_⟩|⟨_,z,_⟩:=hc
   .exact absurd z hk
   .exact z
   .rw[e2]at z;cases z
   .rw[e2]at z;cases z
  exact o6 up (Cv up hs)
 .have hs:s.Sublist h:=by
   obtain⟨z,_⟩|⟨_,z,_⟩|⟨_,_,s',z,y⟩|⟨_,z,_⟩:=hc
   .exact absurd z hk
   .rw[e2]at z;cases z
   .rw[e3]at z;cases z;exact y
   .rw[e2]at z;cases z
  rw[af (λz=>by rw[e1]at z;exact absurd z ⋯),ah ((cw_box hw).mpr e1),e2,e3];show eG h.length (List.replicate p.k [s.map (dE h)]).flatten=_;rw[zZ];exact o6 up (z4 (ub up hs) p.k)
 .have hs:A.Sublist h/\B.Sublist h:=by
   obtain⟨z,_⟩|⟨_,z,_⟩|⟨_,z,_⟩|⟨_,_,A',B',z,y⟩:=hc
   .exact absurd z hk
   .rw[e2]at z;cases z
   .rw[e2]at z;cases z
   .rw[e3]at z;cases z;exact y
  rw[af (λz=>by rw[e1]at z;exact absurd z ⋯),af (λz=>by rw[e1]at z;exact absurd z ⋯),e2,e3];show(eG h.length (List.replicate p.k (A.map (dE h)++B.map (dE h)))).filter (λx=>hasAll x.1 (A.map (dE h)))=((apartRows (List.replicate p.k (together [A,B])) []).filter λr=>A.all λx=>r.contains x).map _;have ht:=kY up Mx hs.1 hs.2;rw[o6 up (z4 ht p.k),mM];congr 1;apply jg;intro r hr;exact JD up hs.1 (Hd (λs hs=>by rw[wq hs];exact ht.1) hr)
def Cw{C:Card}(g:CG C){b:Bet}(h:C.setsRight b=true):dH C b=(C.rows b).map λrow=>match(C.pool b.pool).kind with
  |.any=>rankAny ((C.sets (C.pool b.pool)).headD []) row|.legs=>rankLegs (C.sets (C.pool b.pool)) row
  |_=>rankOrder ((C.sets (C.pool b.pool)).headD []) row:=by
 have hc:∀row∈C.rows b,C.isCombo (C.pool b.pool) row=true:=λrow hr=>by
  rw[xM g h]at hr;exact uW (mem_filter.mp hr).2
 conv=>lhs;rw[<-Cr g (dH C b) Jv,<-G4 g h]
 have:∀l:List (List Nat),(∀row∈l,C.isCombo (C.pool b.pool) row=true)->l.filterMap (C.numberOf (C.pool b.pool))=l.map λrow=>match(C.pool b.pool).kind with
  |.any=>rankAny ((C.sets (C.pool b.pool)).headD []) row|.legs=>rankLegs (C.sets (C.pool b.pool)) row
  |_=>rankOrder ((C.sets (C.pool b.pool)).headD []) row:=by
  intro l
  induction l with
  |nil=>intro _;rfl
  |cons a l ih=>
   intro hl;rw[jD,vJ (hl a ∅),aP,<-ih λr hr=>hl r (by simp[hr])]
   try rfl
 exact this _ hc
def LA{C:Card}{b:Bet}(e:b.how=.box):C.has b row=(C.isCombo (C.pool b.pool) row&&row.all λ(x:Nat)=>(b.sets.headD []).contains x):=by
 unfold Card.has;rw[e]
def has_key{C:Card}{b:Bet}(e:b.how=.key):C.has b row=(C.isCombo (C.pool b.pool) row&&((b.sets.headD []).all (λ(x:Nat)=>row.contains x)&&row.all λ(x:Nat)=>(b.sets.headD []).contains x||(b.sets.getD 1 []).contains x)):=by
 unfold Card.has;rw[e]
def gR{u:List Nat}:r∈apartRows (List.replicate k u) []↔r.length=k/\r.Nodup/\∀x∈r,x∈u:=by
 rw[dO,jC];constructor
 .rintro⟨a,b,_,d⟩;exact⟨a,b,(xK a).mp d⟩
 .rintro⟨a,b,d⟩;exact⟨a,b,by simp,(xK a).mpr d⟩
def Q0(g:CG C){x:Bet}{tail:List Bytes}(hb:dP C (C.pool x.pool) hw tail x.how x.sets)(hk:(C.pool x.pool).kind=.place\/(C.pool x.pool).kind=.order):
  C.rows x=Yi (C.pool x.pool).k x.how x.sets:=by
 have hr:=ip hb;have hh:=cX g (C.pool x.pool).race;have hc:=ik g hr;have sf:(C.pool x.pool).kind≠ .legs:=by
  obtain z|z:=hk<;>rw[z] <;>decide
 have h1:(C.sets (C.pool x.pool)).headD []=C.headsOf (C.pool x.pool).race:=oZ sf;unfold Card.rows Yi;dsimp only;obtain hk|hk:=hk
 .rw[hk];obtain⟨z,_⟩|⟨_,e2,hl,_⟩|⟨z,_⟩|⟨z,_⟩:=hc
  .exact absurd z sf
  .rw[e2];unfold Pool.places at hl;rw[ah hk]at hl;obtain⟨s,hs⟩:=length_eq_one_iff.mp hl;rw[hs];show s.map (λx=>[x])=(s.filter λx=>!([]:List Nat).contains x).flatMap λx=>[[x]];have ef:(s.filter λx=>!([]:List Nat).contains x)=s:=filter_eq_self.mpr (λ_ _=>rfl);have em:∀l:List Nat,l.map (λx=>[x])=l.flatMap λx=>[[x]]:=λl=>by
    induction l with
    |nil=>rfl|cons a l ih=>rw[aP,kI,<-ih];rfl
   rw[ef,em]
  .rw[hk]at z;rcases z with z|z<;>cases z
  .rw[hk]at z;rcases z with z|z<;>cases z
 .have combo:∀{r:List Nat}{u:List Nat},(∀y∈u,y∈C.headsOf (C.pool x.pool).race)->r∈apartRows (List.replicate (C.pool x.pool).k u) []->C.isCombo (C.pool x.pool) r=true:=λ{r u} hu hr=>by
   obtain⟨a,b,d⟩:=gR.mp hr;unfold Card.isCombo;rw[hk];dsimp only;rw[h1,bC,bC,kz,fB,du];exact⟨a,b,λy hy=>‹hu y (d y hy)›⟩
  rw[hk];obtain⟨z,_⟩|⟨_,e2,hl,_⟩|⟨_,e2,s,e3,hs⟩|⟨_,e2,A,B,e3,hA,hB⟩:=hc
  .exact absurd z sf
  .rw[e2]
  .rw[e2];have ups:Up s:=sj hs hh.1;have e4:together x.sets=s:=by rw[e3];exact Ei ups λy hy=>hh.2.1 y (hs.subset hy)
   have e5:x.sets.headD []=s:=by rw[e3];rfl
   show(apartRows (List.replicate (C.pool x.pool).k (together x.sets)) []).filter (C.has x)=apartRows (List.replicate (C.pool x.pool).k (x.sets.headD [])) [];rw[e4,e5];refine filter_eq_self.mpr λr hr=>?_;rw[LA e2,e5,combo (λy hy=>hs.subset hy) hr,pD,du];exact λy hy=>by simpa using(gR.mp hr).2.2 y hy
  .rw[e2];have e5:x.sets.headD []=A:=by rw[e3];rfl
   have e6:x.sets.getD 1 []=B:=by rw[e3];rfl
   show(apartRows (List.replicate (C.pool x.pool).k (together x.sets)) []).filter (C.has x)=(apartRows (List.replicate (C.pool x.pool).k (together x.sets)) []).filter λr=>(x.sets.headD []).all λx=>r.contains x;apply jg;intro r hr;have hu:∀y∈together x.sets,y∈A\/y∈B:=λy hy=>by
    obtain⟨_,s,hs,z⟩:=dn.mp hy;rw[e3]at hs;obtain rfl|hs:=mem_cons.mp hs
    .exact .inl z
    .rw[mem_singleton.mp hs]at z;exact .inr z
   rw[has_key e2,combo (λy hy=>by rcases hu y hy with z|z;exact hA.subset z;exact hB.subset z) hr,pD,e5,e6];have:(r.all λx=>A.contains x||B.contains x)=true:=all_eq_true.mpr λy hy=>by
    obtain z|z:=hu y ((gR.mp hr).2.2 y hy)<;>simp[z]
   rw[this,wU]
theorem Hf{r:α->α->Prop}(as:∀a b,r a b->¬r b a):∀{l m:List α},l.Pairwise r->m.Pairwise r->(∀x,x∈l↔x∈m)->l=m
 |[],[],_,_,_=>rfl|[],b::m,_,_,h=>absurd ((h b).mpr ∅) ∅
 |a::l,[],_,_,h=>absurd ((h a).mp ∅) ∅
 |a::l,b::m,hl,hm,h=>by
  have Fb:=pairwise_cons.mp hl;have TY:=pairwise_cons.mp hm;have e:a=b:=by
   obtain z|z:=mem_cons.mp ((h a).mp ∅)
   .exact z
   .obtain y|y:=mem_cons.mp ((h b).mpr ∅)
    .exact y.symm
    .exact absurd (TY.1 a z) (as _ _ (Fb.1 b y))
  subst e;have ir:=λx z=>as x x z z;rw[Hf as Fb.2 TY.2 λx=>?_];constructor
  .intro z;obtain y|y:=mem_cons.mp ((h x).mp (by simp[z]))
   .subst y;exact absurd (Fb.1 x z) (ir x)
   .exact y
  .intro z;obtain y|y:=mem_cons.mp ((h x).mpr (by simp[z]))
   .subst y;exact absurd (TY.1 x z) (ir x)
   .exact y
theorem Hg:∀a b:List Int,HT.lexLt a b=true->¬HT.lexLt b a=true
 |[],[],h=>by cases h
 |[],_::_,_=>by intro z;cases z
 |_::_,[],h=>by cases h
 |x::a,y::b,h=>by
  rw[HT.hG]at h⊢;by_cases e:x=y
  .rw[ah e]at h;rw[ah e.symm];exact Hg a b h
  .rw[af e,fB]at h;rw[af (λz=>e z.symm),fB];omega
def Hh:∀{k}{l r},r∈risingRows (k+1) l->∃y t,r=y::t/\y∈l:=λ{k l r} hr=>by
 cases r with
 |nil=>
  have:=gQ (k+1) hr;simp at this
 |cons y t=>exact⟨y,t,rfl,iF (k+1) hr y ∅⟩
theorem rT{h:List Nat}(up:Up h):∀k l,Up l->(∀x∈l,x∈h)->((risingRows k l).map λr=>r.map (dE h)).Pairwise λa b=>HT.lexLt a b=true
 |0,l,_,_=>by
  cases l<;>exact pairwise_singleton _ _
 |k+1,[],_,_=>List.Pairwise.nil
 |k+1,x::l,ul,hl=>by
  have ul':=pairwise_cons.mp ul;show(((risingRows k l).map λ(r:List Nat)=>x::r)++risingRows (k+1) l).map _|>.Pairwise _;rw[ed,pairwise_append];refine⟨?_,rT up (k+1) l ul'.2 λy hy=>hl y (by simp[hy]),?_⟩
  .have ih:=rT up k l ul'.2 λy hy=>hl y (by simp[hy]);rw[ck,pO];rw[pO]at ih;refine ih.imp λ{a b} e=>?_;show HT.lexLt (dE h x::a.map (dE h)) (dE h x::b.map (dE h))=true;rw[HT.hG,ah rfl];exact e
  .intro a ha b hb;obtain⟨r,hr,rfl⟩:=mem_map.mp ha;obtain⟨r0,_,rfl⟩:=mem_map.mp hr;obtain⟨s,hs,rfl⟩:=mem_map.mp hb;obtain⟨y,t,rfl,hy⟩:=Hh hs;have eK:=(jW up (hl x ∅) (hl y (by simp[hy]))).mpr (ul'.1 y hy);show HT.lexLt (dE h x::r0.map (dE h)) (dE h y::t.map (dE h))=true;rw[HT.hG,af (),fB];exact eK
theorem uZ:∀{ss}{row},fillsSets row ss=true↔∃r:List Nat,r.Perm row/\r.length=ss.length/\(r.zip ss).all (λ(z:Nat×List Nat)=>z.2.contains z.1)=true
 |[],row=>by
  show row.isEmpty=true↔_;constructor
  .intro z;have:row=[]:=by simpa using z
   exact⟨[],by rw[this],rfl,rfl⟩
  .rintro⟨r,h1,h2,_⟩;have:r=[]:=length_eq_zero_iff.mp h2;rw[this]at h1;have:=h1.nil_eq;simp[<-this]
 |s::t,row=>by
  show(row.any λ(x:Nat)=>s.contains x&&fillsSets (row.erase x) t)=true↔_;rw[pR];constructor
  .rintro⟨x,hx,h⟩;rw[bC]at h;obtain⟨r,h1,h2,h3⟩:=uZ.mp h.2;refine⟨x::r,((List.Perm.cons x h1).trans (perm_cons_erase hx).symm),by simp[h2],?_⟩;rw[j7,c9,h3,wU];exact h.1
  .rintro⟨r,h1,h2,h3⟩;cases r with
   |nil=>cases h2
   |cons x r=>
    rw[j7,c9,bC]at h3;have hx:x∈row:=h1.subset ∅;refine⟨x,hx,?_⟩;rw[bC];refine⟨h3.1,uZ.mpr ⟨r,?_,‹h2›,h3.2⟩⟩;have:=(h1.trans (perm_cons_erase hx));exact(perm_cons x).mp this
def JE{C:Card}{b:Bet}(e:b.how=.on)(k:(C.pool b.pool).kind=.any):C.has b row=(C.isCombo (C.pool b.pool) row&&fillsSets row b.sets):=by
 unfold Card.has;rw[e];dsimp only;rw[ah k]
def LC(g:CG C){x:Bet}(hr:C.setsRight x=true)(hk:(C.pool x.pool).kind=.any)(hl:row.length=(C.pool x.pool).k)(hu:Up row)(mn:∀y∈row,y∈C.headsOf (C.pool x.pool).race):
  C.has x row=true↔∃r∈Yi (C.pool x.pool).k x.how x.sets,r.Perm row:=by
 have hh:=cX g (C.pool x.pool).race;have hc:=ik g hr;have sf:(C.pool x.pool).kind≠ .legs:=by rw[hk];decide
 have h1:(C.sets (C.pool x.pool)).headD []=C.headsOf (C.pool x.pool).race:=oZ sf;have combo:C.isCombo (C.pool x.pool) row=true:=by
  unfold Card.isCombo;rw[hk];dsimp only;rw[h1,bC,bC,kz,du];exact⟨hl,(ie row).mpr hu,λy hy=>‹mn y hy›⟩
 unfold Yi;obtain⟨z,_⟩|⟨_,e2,XD,hs⟩|⟨_,e2,s,e3,hs⟩|⟨_,e2,A,B,e3,hA,hB⟩:=hc
 .exact absurd z sf
 .rw[JE e2 hk,combo,pD,e2,uZ];constructor
  .rintro⟨r,h1,h2,h3⟩;exact⟨r,dO.mpr ⟨h2,h1.nodup_iff.mpr hu.nodup,by simp,h3⟩,h1⟩
  .rintro⟨r,h1,h2⟩;have:=dO.mp h1;exact⟨r,h2,this.1,this.2.2.2⟩
 .have e5:x.sets.headD []=s:=by rw[e3];rfl
  rw[LA e2,combo,pD,e2,du];dsimp only;rw[e5];constructor
  .intro z;exact⟨row,gR.mpr ⟨hl,hu.nodup,λy hy=>‹z y hy›⟩,List.Perm.refl _⟩
  .rintro⟨r,h1,h2⟩ y hy;simpa using(gR.mp h1).2.2 y (h2.mem_iff.mpr hy)
 .have e5:x.sets.headD []=A:=by rw[e3];rfl
  have e6:x.sets.getD 1 []=B:=by rw[e3];rfl
  have ht:=kY hh.1 hh.2.1 hA hB;have hm:∀y,y∈together x.sets↔y∈A\/y∈B:=λy=>by
   rw[e3,dn];constructor
   .rintro⟨_,s,hs,z⟩;obtain rfl|hs:=mem_cons.mp hs
    .exact .inl z
    .rw[mem_singleton.mp hs]at z;exact .inr z
   .rintro(z|z)
    .exact⟨hh.2.1 y (hA.subset z),A,by simp,z⟩
    .exact⟨hh.2.1 y (hB.subset z),B,by simp,z⟩
  rw[has_key e2,combo,pD,e2,e5,e6,bC,du,du];constructor
  .rintro⟨a,b⟩;refine⟨row,mem_filter.mpr ⟨gR.mpr ⟨hl,hu.nodup,λy hy=>(hm y).mpr ?_⟩,?_⟩,List.Perm.refl _⟩
   .have:=b y hy;simpa using this
   .rw[du];exact a
  .rintro⟨r,h1,h2⟩;obtain⟨h3,h4⟩:=mem_filter.mp h1;rw[du]at h4;refine⟨λy hy=>?_,λy hy=>?_⟩
   .have:=h4 y hy;simp at this⊢;exact h2.mem_iff.mp this
   .have:=(hm y).mp ((gR.mp h3).2.2 y (h2.mem_iff.mpr hy));simpa using this
def Yj(g:CG C){x:Bet}(hr:C.setsRight x=true)(hk:(C.pool x.pool).kind=.any)(h:r∈Yi (C.pool x.pool).k x.how x.sets):r.length=(C.pool x.pool).k/\r.Nodup/\∀y∈r,y∈C.headsOf (C.pool x.pool).race:=by
 have hh:=cX g (C.pool x.pool).race;have sf:(C.pool x.pool).kind≠ .legs:=by rw[hk];decide
 obtain⟨z,_⟩|⟨_,e2,XD,hs⟩|⟨_,e2,s,e3,hs⟩|⟨_,e2,A,B,e3,hA,hB⟩:=ik g hr
 .exact absurd z sf
 .rw[e2]at h;have:=dO.mp h;refine⟨?_,this.2.1,Hd hs h⟩;rw[this.1,XD];unfold Pool.places;rw[af (by rw[hk];decide)]
 .rw[e2,e3]at h;have:=gR.mp h;exact⟨this.1,this.2.1,λy hy=>hs.subset (this.2.2 y hy)⟩
 .rw[e2]at h;have:=gR.mp (mem_filter.mp h).1;rw[e3]at this;exact⟨this.1,this.2.1,λy hy=>(kY hh.1 hh.2.1 hA hB).1.subset (this.2.2 y hy)⟩
def LD{h:List Nat}(up:Up h)(hu:Up row)(mn:∀y∈row,y∈h)(p:r.Perm row):qR (row.map (dE h)) (r.map (dE h)):=by
 refine⟨(p.map _).symm,?_⟩;exact((JA up mn).mpr hu).imp λh=>Int.le_of_lt h
def any_rows(g:CG C){x:Bet}{tail:List Bytes}(hb:dP C (C.pool x.pool) hw tail x.how x.sets)(hk:(C.pool x.pool).kind=.any)(mem:∀k,k∈out↔∃y∈jQ (cw hw) (mm C (C.pool x.pool) x.sets) (C.pool x.pool).k (C.headsOf (C.pool x.pool).race).length,qR k y.1)(so:out.Pairwise λa b=>HT.lexLt a b=true):
  out=(C.rows x).map λr=>r.map (dE (C.headsOf (C.pool x.pool).race)):=by
 have hr:=ip hb;have hh:=cX g (C.pool x.pool).race;have sf:(C.pool x.pool).kind≠ .legs:=by rw[hk];decide
 have h1:(C.sets (C.pool x.pool)).headD []=C.headsOf (C.pool x.pool).race:=oZ sf;have Q5:C.rows x=(risingRows (C.pool x.pool).k (C.headsOf (C.pool x.pool).race)).filter (C.has x):=by
  rw[xM g hr];unfold bA;rw[hk,h1]
 have X6:∀r∈C.rows x,r.length=(C.pool x.pool).k/\Up r/\(∀y∈r,y∈C.headsOf (C.pool x.pool).race)/\C.has x r=true:=λr hr=>by
  rw[Q5]at hr;obtain⟨a,b⟩:=mem_filter.mp hr;have:=(d5 _).mp a;exact⟨this.1,sj this.2 hh.1,λy hy=>this.2.subset hy,b⟩
 refine Hf (λa b=>Hg a b) so ?_ λk=>?_
 .have:=rT hh.1 (C.pool x.pool).k (C.headsOf (C.pool x.pool).race) hh.1 (λ_ h=>h);rw[pO]at this⊢;rw[Q5];exact qW _ this
 .rw[mem k,He g hb sf,mem_map];constructor
  .rintro⟨y,hy,hs⟩;obtain⟨r,Yk,rfl⟩:=mem_map.mp hy;obtain⟨a1,a2,a3⟩:=Yj g hr hk Yk;have qF:((C.headsOf (C.pool x.pool).race).filter λy=>decide (y∈r)).Sublist (C.headsOf (C.pool x.pool).race):=filter_sublist;generalize aa9:((C.headsOf (C.pool x.pool).race).filter λy=>decide (y∈r))=row at qF;have hu:Up row:=sj qF hh.1;have hp:r.Perm row:=by
    rw[perm_ext_iff_of_nodup a2 hu.nodup];intro y;rw[<-aa9,mem_filter,fB];exact⟨λz=>⟨a3 y z,z⟩,λz=>z.2⟩
   have hl:row.length=(C.pool x.pool).k:=by rw[<-hp.length_eq];exact a1
   refine⟨row,?_,hs.eq (LD hh.1 hu (λy hy=>qF.subset hy) hp)▸rfl⟩;rw[Q5];exact mem_filter.mpr ⟨(d5 _).mpr ⟨hl,qF⟩,(LC g hr hk hl hu λy hy=>qF.subset hy).mpr ⟨r,Yk,hp⟩⟩
  .rintro⟨row,hm,rfl⟩;obtain⟨hl,hu,mn,ad2⟩:=X6 row hm;obtain⟨r,Yk,hp⟩:=(LC g hr hk hl hu mn).mp ad2;exact⟨_,mem_map.mpr ⟨r,Yk,rfl⟩,LD hh.1 hu mn hp⟩
def Ej(n k:Nat):B3 (n:Int) (k:Int)=((choose n k:Nat):Int):=by
 unfold B3 choose;rw[gZ,f7,f7];rfl
theorem Hi f:∀(l:List Nat) a,(((l.map f).foldl (λ(a b:Nat)=>a+b) a:Nat):Int)=(a:Int)+(l.map λj=>((f j:Nat):Int)).sum
 |[],a=>by simp
 |x::l,a=>by
  rw[aP,dW,Hi f l (a+f x),aP,sum_cons];omega
theorem vK{h:List Nat}(up:Up h):∀r lo num,Up r->(∀y∈r,y∈h.drop lo)->jP h.length (r.map (dE h)) (lo:Int) num=num+((rankAny (h.drop lo) r:Nat):Int)
 |[],lo,num,_,_=>by
  show num=num+((rankAny (h.drop lo) []:Nat):Int);have:rankAny (h.drop lo) []=0:=by unfold rankAny;rfl
  rw[this];simp
 |x::r,lo,num,hu,mn=>by
  have Kf:=pairwise_cons.mp hu;obtain⟨i,hi,e⟩:=mG (mn x ∅);have e?:(h.drop lo)[i]?=some x:=by rw[bg hi,e]
  have upd:Up (h.drop lo):=sj (drop_sublist _ _) up;have eh:h[lo+i]?=some x:=by rw[<-pH];exact e?
  have iz:=Eg up eh;have Yl:=jU upd.nodup e?;have eK:=(List.getElem?_eq_some_iff.mp eh).1;show jP h.length (r.map (dE h)) (dE h x+1) (num+D9 h.length (r.map (dE h)).length (lo:Int) (dE h x))=_;rw[iz,show((lo+i:Nat):Int)+1=((lo+i+1:Nat):Int) by omega,vK up r (lo+i+1) _ Kf.2 (λy hy=>?_)]
  .show _=num+((((List.range ((h.drop lo).findIdx λ(y:Nat)=>y==x)).map λ(j:Nat)=>choose ((h.drop lo).length-1-j) r.length).foldl (λ(a b:Nat)=>a+b) 0+rankAny ((h.drop lo).drop (((h.drop lo).findIdx λ(y:Nat)=>y==x)+1)) r:Nat):Int);rw[Yl,drop_drop,show lo+(i+1)=lo+i+1 by omega];have hb:D9 h.length (r.map (dE h)).length (lo:Int) ((lo+i:Nat):Int)=((((List.range i).map λ(j:Nat)=>choose ((h.drop lo).length-1-j) r.length).foldl (λ(a b:Nat)=>a+b) 0:Nat):Int):=by
    unfold D9;rw[Hi,show(((lo+i:Nat):Int)-(lo:Int)).toNat=i by omega,az,dU];rw[show(((0:Nat)):Int)=0 from rfl,mJ];congr 1;apply fQ;intro j hj;have hj:=mem_range.mp hj;rw[show(h.length:Int)-((lo:Int)+(j:Int))-1=((h.length-lo-1-j:Nat):Int) by omega,Ej]
   rw[hb];omega
  .obtain⟨j,hj,ej⟩:=mG (mn y (by simp[hy]));have hxy:=Kf.1 y hy;have hij:i<j:=by
    obtain a|a|a:=sC i j
    .exact a
    .subst a;omega
    .have:=pairwise_iff_getElem.mp upd j i hj hi a;omega
   rw[mem_iff_getElem?];refine⟨j-i-1,?_⟩;rw[pH,show lo+i+1+(j-i-1)=lo+j by omega,<-pH,bg hj,ej]
def Q6{h:List Nat}(up:Up h)(hu:Up r)(mn:∀y∈r,y∈h):jP h.length (r.map (dE h)) 0 0=((rankAny h r:Nat):Int):=by
 have:=vK up r 0 0 hu ‹mn›;rw[pV]at this;rw[show((0:Nat):Int)=0 from rfl]at this;rw[this,mJ]
end Pd
end
section
namespace Pd
open Tote TotePoolCalls
def UJ(g:CG C){x:Bet}{tail:List Bytes}(hb:dP C (C.pool x.pool) hw tail x.how x.sets)(hk:(C.pool x.pool).kind≠ .legs)(hn:rN (mp (C.pool x.pool)) (cw hw) (mm C (C.pool x.pool) x.sets) (C.headsOf (C.pool x.pool).race).length nums):nums=iN (dH C x):=by
 have hr:=ip hb;have hh:=cX g (C.pool x.pool).race;have h1:(C.sets (C.pool x.pool)).headD []=C.headsOf (C.pool x.pool).race:=oZ hk;have ek:(mp (C.pool x.pool)).k.toNat=(C.pool x.pool).k:=by show((C.pool x.pool).k:Int).toNat=_;omega
 unfold rN at hn;rw[ek]at hn;rw[Cw g hr,h1];by_cases ka:(C.pool x.pool).kind=.any
 .rw[ah (JB.mpr ka)]at hn;obtain⟨out,mem,so,rfl⟩:=hn;rw[any_rows g hb ka mem so];unfold iN;rw[ck,ck,ka];apply fQ;intro r Yk;have mn:Up r/\∀y∈r,y∈C.headsOf (C.pool x.pool).race:=by
   rw[xM g hr]at Yk;have:=(mem_filter.mp Yk).1;unfold bA at this;rw[ka,h1]at this;have:=(d5 _).mp this;exact⟨sj this.2 hh.1,λy hy=>this.2.subset hy⟩
  exact Q6 hh.1 mn.1 mn.2
 .rw[af (λz=>ka (JB.mp z))]at hn;have ko:(C.pool x.pool).kind=.place\/(C.pool x.pool).kind=.order:=by
   cases e:(C.pool x.pool).kind with
   |place=>exact .inl rfl|order=>exact .inr rfl
   |any=>exact absurd e ka|legs=>exact absurd e hk
  rw[hn,He g hb hk,Q0 g hb ko];unfold iN;rw[ck,ck];apply fQ;intro r _;show((rankOrder (C.headsOf (C.pool x.pool).race) r:Nat):Int)=_;obtain e|e:=ko<;>rw[e] <;>rfl
def Ek(g:CG C){x:Bet}(hr:C.setsRight x=true)(P:MA (C.races.map hI) (mp (C.pool x.pool)))(hk:(C.pool x.pool).kind=.legs):
  og ((mm C (C.pool x.pool) x.sets).zip (cB (C.races.map hI) (mp (C.pool x.pool))))=iN (dH C x)/\jc (mm C (C.pool x.pool) x.sets)=((C.manyOf x:Nat):Int):=by
 have hl:x.sets.length=(C.sets (C.pool x.pool)).length:=by
  obtain⟨_,_,z,_⟩|⟨z,_⟩|⟨z,_⟩|⟨z,_⟩:=ik g hr
  .exact z
  .exact absurd hk z
  .rw[hk]at z;rcases z with z|z<;>cases z
  .rw[hk]at z;rcases z with z|z<;>cases z
 rw[o5 P];unfold mm;rw[ah hk,Nv hl,JC hl,Cw g hr];constructor
 .congr 1;have:C.rows x=rowsOf x.sets:=by unfold Card.rows;dsimp only;rw[hk]
  rw[this];apply fQ;intro r _;rw[hk]
 .unfold Card.manyOf;rw[ah hk]
theorem z5:∀{l:List MP},(l.map (·.name)).Nodup->q∈l->l.filter (λz=>decide (z.name=q.name))=[q]
 |a::l,nd,hq=>by
  rw[aP,nodup_cons]at nd;obtain rfl|z:=mem_cons.mp hq
  .rw[qZ ∅];congr 1;rw[filter_eq_nil_iff];intro y hy e;exact nd.1 (mem_map.mpr ⟨y,hy,‹e›⟩)
  .rw[q_,z5 nd.2 z];intro e;exact nd.1 (mem_map.mpr ⟨q,z,(by simpa using e:a.name=q.name).symm⟩)
def Hj{ps:List MP}(h:d6 codes=some (rs,ps)):(ps.map (·.name)).Nodup:=by
 unfold d6 at h;split at h
 .cases h
 .cases h
 split at h
 .cases h
 split at h
 .cases h
 split at h
 .cases h
 split at h
 .cases h
 split at h
 .cases h
 split at h
 .cases h;assumption
 .cases h
def Q7{n v:Bytes}(hv:isName v=true):cw n=cw v↔n=v:=by
 constructor
 .intro h;have hp:(toN v).all (λc=>isLet c||cf c)=true:=by
   have:jb (cw v)=true:=by rw[tK];exact hv
   unfold jb at this;simp only[Bool.and_eq_true]at this;have h4:=this.2.2.2;have e:=(cw_eq h4).mp rfl;rw[e];exact h4
  have e:=(cw_eq hp).mpr rfl;exact(cw_word rfl hp).mp (h.trans e)
 .rintro rfl;rfl
def Nw{w:Bytes}{u:Nat}(hu:0<u){s:Int}:oS (cw w) (u:Int)=some s↔∃k:Nat,numberOf w=some k/\1<=k/\k<=1000000/\k%u=0/\s=(k:Int):=by
 unfold oS;constructor
 .intro h;split at h
  .rename_i c;cases h;have o:=rC (w:=w) ();refine⟨(dv (cw w)).toNat,o.1,by omega,by omega,?_,by omega⟩;have:((dv (cw w)).toNat:Int)%(u:Int)=0:=by rw[wo ()];exact c.2.2
   omega
  .cases h
 .rintro⟨k,h1,h2,h3,h4,rfl⟩;rw[rB h1 (),ah ⟨by omega,by omega,by omega⟩]
def Cy{b:Bytes}:iX (cw b)=some [ws]↔∃l,bU 10 [] b=[l,[]]/\ws=cl (bU 32 [] l):=by
 rw[uF];constructor
 .intro h;split at h
  .rename_i e;have h:=Option.some.inj h;obtain⟨l,hl,hw⟩:=map_eq_singleton_iff.mp h;exact⟨l,(mW).mpr ⟨e,hl.symm⟩,hw.symm⟩
  .cases h
 .rintro⟨l,h1,rfl⟩;obtain⟨e1,e2⟩:=(mW (ls:=[l])).mp h1;rw[ah e1,<-e2];rfl
def Ny(k1:1<=p.k){tail:List Bytes}(h:dP C p hw tail how sets):tail≠ []:=by
 obtain⟨_,_,h⟩|⟨_,_,_,w,s,h,_⟩|⟨_,_,_,wa,wb,A,B,h,_⟩:=h
 .have iB:dI C p≠ []:=by
   unfold dI;intro z;split at z
   .rename_i hk;have:=qu (C:=C) hk;rw[z]at this;simp at this;omega
   .have:=bW List.length z;unfold Pool.places at this;split at this
    .cases this
    .simp at this;omega
  match dI C p,iB,h with
  |[_],_,⟨w,s,e,_⟩=>rw[e];simp|_::_::_,_,⟨w,s,rest,r,e,_⟩=>rw[e];simp
 .rw[h];simp
 .rw[h];simp
def list1{l:List α}{n:Nat}(h:n+1<=l.length):∃a t,l=a::t/\n<=t.length:=by
 cases l with
 |nil=>cases h
 |cons a t=>exact⟨a,t,rfl,Nat.le_of_succ_le_succ h⟩
def aa_{l:List α}(h:6<=l.length):∃a b c d e t,l=a::b::c::d::e::t/\t≠ []:=by
 obtain⟨a,l1,rfl,h1⟩:=list1 h;obtain⟨b,l2,rfl,h2⟩:=list1 h1;obtain⟨c,l3,rfl,h3⟩:=list1 h2;obtain⟨d,l4,rfl,h4⟩:=list1 h3;obtain⟨e,l5,rfl,h5⟩:=list1 h4;exact⟨a,b,c,d,e,l5,rfl,λz=>by rw[z]at h5;cases h5⟩
def Q8(C:Card)(b:Bytes):Option (MP×Int×List (List Int)×Option (List Int))->Prop
 |none=>∀x,C.readBet b≠ .ok x
 |some (q,st,ss,o)=>∃x,C.readBet b=.ok x/\C.setsRight x=true/\C.pool x.pool∈C.pools/\q=mp (C.pool x.pool)/\st=(x.stake:Int)/\1<=x.stake/\ss=mm C (C.pool x.pool) x.sets/\(match o with
  |none=>(C.pool x.pool).kind=.legs/\262144<C.manyOf x|some nums=>nums=iN (dH C x)/\C.manyOf x<=262144)
def UK(g:CG C)(hk:p.kind≠ .legs)(h4:p.k<=4):C.many p<=262144:=by
 have h1:∀n k:Nat,n<25->k<5->orders n k<=262144:=by
  have:∀n:Fin 25,∀k:Fin 5,orders n.val k.val<=262144:=by decide+kernel
  intro n k a b;exact this ⟨n,a⟩ ⟨k,b⟩
 have hl:=(t9 g p).2.2;unfold Card.many;cases e:p.kind with
 |place=>dsimp only;omega|order=>exact h1 _ _ () ()
 |any=>
  exact aW (Nat.div_le_self _ _) (h1 _ _ () ())
 |legs=>exact absurd e hk
def uc{k m:Nat}:(k:Int)*(m:Int)<=2147483647↔k*m<=COST:=by
 rw[<-pG];unfold COST;generalize k*m=z;omega
def LJ{t b:Bytes}(hC:readCard t=.ok C){r:Option (MP×Int×List (List Int)×Option (List Int))}(h:jS (cw b) (C.races.map hI) (C.pools.map mp) r):Q8 C b r:=by
 have g:=Lv hC;have cn:=UC hC;obtain⟨W5,_⟩:=Ky hC;have hpb:=(ju W5).1;have Uy:=Hj W5;have rb:=λx=> @Jz C cn b x;have no:(∀x,¬∃l,bU 10 [] b=[l,[]]/\qS C (bU 32 [] l) x)->r=none->Q8 C b r:=by
  rintro z rfl;intro x e;exact z x ((rb x).mp e)
 unfold jS at h;by_cases hl:∃l,bU 10 [] b=[l,[]]
 case neg=>
  refine no (λx ⟨l,e,_⟩=>hl ⟨l,e⟩) ?_;split at h
  .rename_i ws e;obtain⟨l,e,_⟩:=Cy.mp e;exact absurd ⟨l,e⟩ hl
  .exact h
 obtain⟨l,yT⟩:=hl;rw[Cy.mpr ⟨l,yT,rfl⟩]at h;dsimp only at h;have Za:(∀x,¬qS C (bU 32 [] l) x)->r=none->Q8 C b r:=λz=>no λx ⟨l',e,k⟩=>by
  rw[yT]at e;cases e;exact z x k
 generalize hW:bU 32 [] l=W at*;by_cases hw:∃n st hw tail,W=ascii "bet"::n::ascii "for"::st::hw::tail/\tail≠ []
 case neg=>
  refine Za (λx k=>?_) ?_
  .obtain⟨n,st,Jy,tail,e,hi,_,hb⟩:=k.ex;obtain⟨p,hp,_,e2⟩:=find_name hi;have k1:1<=((C.pool x.pool).k:Int):=(hpb (mp (C.pool x.pool)) (mem_map.mpr ⟨_,by rw[e2];exact bh hp,rfl⟩)).HD.k1;exact hw ⟨n,st,Jy,tail,e,Ny () hb⟩
  .split at h
   .rename_i c;obtain⟨c1,c2,c3⟩:=c;rw[az]at c1;obtain⟨a0,a1,a2,a3,a4,t,e,ht⟩:=aa_ c1;rw[e]at c2 c3;exact absurd ⟨a1,a3,a4,t,by rw[e,(cw_bet a0).mp c2,(cw_for a2).mp c3],ht⟩ hw
   .exact h
 obtain⟨n,st,hw,tail,eW,htl⟩:=hw;have aew:=length_pos_iff.mpr htl;rw[ah ⟨by rw[eW];simp;omega,by rw[eW];exact(cw_bet _).mpr rfl,by rw[eW];exact(cw_for _).mpr rfl⟩]at h;have g1:(cl W).getD 1 []=cw n:=by rw[eW];rfl
 have g3:(cl W).getD 3 []=cw st:=by rw[eW];rfl
 have g4:(cl W).getD 4 []=cw hw:=by rw[eW];rfl
 have gd:(cl W).drop 4=(hw::tail).map cw:=by rw[eW];rfl
 rw[g1,g3,g4,gd]at h;have ex':∀x,qS C W x->(C.pools.findIdx? λ(p:Pool)=>p.name==n)=some x.pool/\numberOf st=some x.stake/\dP C (C.pool x.pool) hw tail x.how x.sets:=λx k=>by
  obtain⟨n',Bi,Jy,tail',e,hi,hs,hb⟩:=k.ex;rw[eW]at e;injection e with _ e;injection e with e1 e;injection e with _ e;injection e with e2 e;injection e with e3 e4;rw[e1,e2,e3,e4];exact⟨hi,hs,hb⟩
 cases Yl:(C.pools.findIdx? λ(p:Pool)=>p.name==n)with
 |none=>
  refine Za (λx k=>by rw[Yl]at ex';cases(ex' x k).1) ?_;have:(C.pools.map mp).filter (λq=>decide (q.name=cw n))=[]:=by
   rw[filter_eq_nil_iff];intro q hq e;obtain⟨p,hp,rfl⟩:=mem_map.mp hq;have e:=of_decide_eq_true e;have:=(Q7 (cn p hp)).mp e.symm;have hf:=findIdx?_eq_none_iff.mp Yl p hp;rw[this]at hf;simp at hf
  rw[this]at h;exact h
 |some i=>
 obtain⟨p,hpi,vm,hpe⟩:=find_name Yl;have HB:=bh hpi;have pb:=hpb (mp p) (mem_map.mpr ⟨p,HB,rfl⟩);have ad3:(C.pools.map mp).filter (λq=>decide (q.name=cw n))=[mp p]:=by
  rw[<-vm];exact z5 Uy (mem_map.mpr ⟨p,HB,rfl⟩)
 rw[ad3]at h;dsimp only at h;have exi:∀x,qS C W x->x.pool=i/\C.pool x.pool=p/\numberOf st=some x.stake/\dP C p hw tail x.how x.sets:=λx k=>by
  obtain⟨a,b,c⟩:=ex' x k;rw[Yl]at a;have a:=Option.some.inj a;rw[<-a,hpe]at c;exact⟨a.symm,by rw[<-a];exact hpe,b,c⟩
 have u0:0<p.unit:=by
  have:=pb.u.1;have:0<(p.unit:Int):=this;omega
 have pY:= @Nw st p.unit u0;have eu:(mp p).u=(p.unit:Int):=rfl;rw[eu]at h;cases es:oS (cw st) (p.unit:Int)with
 |none=>
  rw[es]at h;refine Za (λx k=>?_) h;obtain⟨_,e2,e3,_⟩:=exi x k;have:=pY.mpr ⟨x.stake,e3,k.s1,k.s2,by rw[<-e2];exact k.s3,rfl⟩;rw[es]at this;cases this
 |some s=>
 rw[es]at h;obtain⟨k,k0,k1,k2,k3,rfl⟩:=pY.mp es;have hsi:= @QZ C g p pb.HD hw tail;cases ess:jO ((hw::tail).map cw) (mp p) (cB (C.races.map hI) (mp p))with
 |none=>
  rw[ess]at h;refine Za (λx kk=>?_) h;have:=hsi.mpr ⟨x.how,x.sets,(exi x kk).2.2.2,rfl⟩;rw[ess]at this;cases this
 |some ss=>
 rw[ess]at h;dsimp only at h;obtain⟨how,sets,VO,N0⟩:=hsi.mp ess;have same:∀x,qS C W x->ss=mm C (C.pool x.pool) x.sets/\x.stake=k:=λx kk=>by
  obtain⟨_,e2,e3,e4⟩:=exi x kk;have:=hsi.mpr ⟨x.how,x.sets,e4,rfl⟩;rw[ess]at this;exact⟨by rw[e2];exact Option.some.inj this,by rw[k0]at e3;exact(Option.some.inj e3).symm⟩
 have mkx:∀x:Bet,x=⟨i,how,sets,k⟩->0<C.manyOf x->x.stake*C.manyOf x<=COST->qS C W x:=by
  rintro x rfl m1 m2;exact⟨⟨n,st,hw,tail,eW,Yl,k0,by rw[hpe];exact VO⟩,k1,k2,by rw[hpe];exact k3,m1,m2⟩
 obtain⟨x,hx⟩:∃x:Bet,x=⟨i,how,sets,k⟩:=⟨_,rfl⟩;have xp:C.pool x.pool=p:=by rw[hx];exact hpe
 have xs:x.stake=k:=by rw[hx]
 have xss:ss=mm C (C.pool x.pool) x.sets:=by rw[xp,hx];exact N0
 have VP:dP C (C.pool x.pool) hw tail x.how x.sets:=by rw[xp,hx];exact VO
 have xr:=ip VP;by_cases hk:p.kind=.legs
 .rw[ah (nz.mpr hk)]at h;have lg:∀y:Bet,C.pool y.pool=p->C.setsRight y=true->ss=mm C (C.pool y.pool) y.sets->jc ss=((C.manyOf y:Nat):Int):=λy e1 e2 e3=>by
   rw[e3];exact(Ek g e2 (by rw[e1];exact pb.HD) (by rw[e1];exact hk)).2
  have lx:=lg x xp xr xss;by_cases hc:0<jc ss/\(k:Int)*jc ss<=2147483647
  .rw[ah hc,lx]at h;rw[lx]at hc;have bQ:=mkx x hx () (by rw[xs];exact uc.mp hc.2);rw[h];refine⟨x,(rb x).mpr ⟨l,yT,hW▸bQ⟩,xr,by rw[xp];exact HB,by rw[xp],by rw[xs],by rw[xs];exact k1,xss,?_⟩;by_cases hm:((C.manyOf x:Nat):Int)<=262144
   .rw[ah hm];refine⟨?_,by omega⟩;have:=(Ek g xr (by rw[xp];exact pb.HD) (by rw[xp];exact hk)).1;rw[<-this,xss,xp]
   .rw[af hm];exact⟨by rw[xp];exact hk,by omega⟩
  .rw[af hc]at h;refine Za (λy ky=>hc ?_) h;obtain⟨s1,s2⟩:=same y ky;obtain⟨_,e2,_,e4⟩:=exi y ky;have ly:=lg y e2 (ip (by rw[e2];exact e4)) s1;rw[ly];have m1:=ky.m1;have m2:=ky.m2;rw[s2]at m2;exact⟨by omega,uc.mpr m2⟩
 .rw[af (λz=>hk (nz.mp z))]at h;obtain⟨nums,hn,hif⟩:=h;have eI:((cB (C.races.map hI) (mp p)).getD 0 []).length=(C.headsOf p.race).length:=by
   rw[o5 pb.HD];unfold Card.sets Pool.legs;rw[af hk];show(iN (C.headsOf (p.race+0))).length=_;unfold iN;rw[az,sE]
  rw[eI]at hn;have nm:∀y:Bet,C.pool y.pool=p->dP C p hw tail y.how y.sets->ss=mm C (C.pool y.pool) y.sets->nums=iN (dH C y)/\nums.length=C.manyOf y:=λy e1 e2 e3=>by
   have e4:dP C (C.pool y.pool) hw tail y.how y.sets:=by rw[e1];exact e2
   have:=UJ g e4 (by rw[e1];exact hk) (by rw[<-e3,e1];exact hn);refine⟨this,?_⟩;rw[this,Ct g (ip e4)];unfold iN;rw[az]
  have nx:=nm x xp (by rw[<-xp];exact VP) xss;by_cases hc:0<(nums.length:Int)/\(k:Int)*(nums.length:Int)<=2147483647
  .rw[ah hc]at hif;rw[nx.2]at hc;have bQ:=mkx x hx () (by rw[xs];exact uc.mp hc.2);rw[hif];refine⟨x,(rb x).mpr ⟨l,yT,hW▸bQ⟩,xr,by rw[xp];exact HB,by rw[xp],by rw[xs],by rw[xs];exact k1,xss,nx.1,?_⟩;rw[Ct g xr];have h4:(p.k:Int)<=4:=pb.nl (λz=>hk (nz.mp z));have hm:C.many (C.pool x.pool)<=262144:=by rw[xp];exact UK g hk ()
   refine aW ?_ hm;refine aW (kG _ _) ?_;rw[sy];exact aQ _
  .rw[af hc]at hif;refine Za (λy ky=>hc ?_) hif;obtain⟨s1,s2⟩:=same y ky;obtain⟨_,e2,_,e4⟩:=exi y ky;have ly:=(nm y e2 e4 s1).2;rw[ly];have m1:=ky.m1;have m2:=ky.m2;rw[s2]at m2;exact⟨by omega,uc.mpr m2⟩
def UL(hc:∀x∈card,0<=x/\x<=255)(hb:∀x∈bet,0<=x/\x<=255)(m0:∀x∈ms,0<=x)(m2:ms.length%2=0){r:Int×Int×Option (List (List Int)×MP×Int×List (List Int)×Option (List Int))}(h:zQ card bet ms r) g:
  (r.1<0/\(let a:=ofBetMoney (PoolNeutral.text card) (PoolNeutral.text bet) (PoolNeutral.pairs ms) g;a.code::a.nums)=[r.1])\/
  (∃(C:Card) (x:Bet) (st:Int) (ss:List (List Int)) (o:Option (List Int)),CG C/\C.setsRight x=true/\MA (C.races.map hI) (mp (C.pool x.pool))/\r=(0,((C.many (C.pool x.pool):Nat):Int),some (C.races.map hI,mp (C.pool x.pool),st,ss,o))/\st=(x.stake:Int)/\1<=x.stake/\ss=mm C (C.pool x.pool) x.sets/\gB ms ((C.many (C.pool x.pool):Nat):Int)=true/\
   (match o with
   |none=>(C.pool x.pool).kind=.legs/\262144<C.manyOf x
   |some nums=>nums=iN (dH C x)/\C.manyOf x<=262144)/\(let a:=ofBetMoney (PoolNeutral.text card) (PoolNeutral.text bet) (PoolNeutral.pairs ms) g;a.code::a.nums)=(let a:=g C x;a.code::a.nums)):=by
 have el:∀l:List Int,(PoolNeutral.text l).length=l.length:=λl=>by unfold PoolNeutral.text PoolNeutral.nats;rw[az,az]
 have ect:cb bet=cw (PoolNeutral.text bet):=yN hb;unfold zQ at h;unfold ofBetMoney ofCard TEXT LOOKED;rw[el,el];by_cases h1:4096<bet.length
 .rw[ah (.inr h1)]at h;rw[ah h1,h];exact .inl ⟨by decide,rfl⟩
 by_cases h2:65536<card.length
 .rw[ah (.inl h2)]at h;rw[af h1,ah h2,h];exact .inl ⟨by decide,rfl⟩
 rw[af (),yN hc]at h;rw[af h1,af h2];cases hr:readCard (PoolNeutral.text card)with
 |error e=>
  cases hq:d6 (cw (PoolNeutral.text card))with
  |none=>
   rw[hq]at h;rw[h];exact .inl ⟨by show(-8:Int)<0;decide,rfl⟩
  |some c=>
   obtain⟨C,z,_⟩:=Pj hq;rw[hr]at z;cases z
 |ok C=>
  obtain⟨hq,_⟩:=Ky hr;rw[hq,ect]at h;dsimp only at h⊢;obtain⟨hB,e⟩|⟨q,hB,e⟩:=h
  .have:=LJ hr hB;rw[e];refine .inl ⟨by show(-6:Int)<0;decide,?_⟩;cases hx:C.readBet (PoolNeutral.text bet)with
   |error _=>rfl|ok x=>exact absurd hx (this x)
  .obtain⟨q,st,ss,o⟩:=q;obtain⟨x,hx,hs,hp,rfl,e1,e2,e3,e4⟩:=LJ hr hB;have pin:=Pk hq (mp (C.pool x.pool)) (mem_map.mpr ⟨_,hp,rfl⟩);rw[hx];dsimp only at e⊢;rw[count_eq pin]at e;rw[<-FX m0 m2];by_cases hz:gB ms ((C.many (C.pool x.pool):Nat):Int)=true
   .rw[ah hz]at e;rw[ah hz];exact .inr ⟨C,x,st,ss,o,Lv hr,hs,pin,e,e1,e2,e3,hz,e4,rfl⟩
   .rw[af hz]at e;rw[af hz,e];exact .inl ⟨by show(-3:Int)<0;decide,rfl⟩
theorem z6:∀{l:List Int},(∀x∈l,0<=x)->dD (bK l)=iN ((PoolNeutral.pairs l).map λ(e:Nat×Nat)=>e.1)
 |[],_=>rfl|[_],_=>rfl
 |a::b::r,h=>by
  show a::dD (bK r)=(a.toNat:Int)::iN ((PoolNeutral.pairs r).map λ(e:Nat×Nat)=>e.1);rw[z6 λx hx=>h x (by simp[hx]),wo (h a ∅)]
theorem Cz{n:Nat}{t:List Nat}(hn:n∉t):∀{m:Money},VN m->Money.total (m.filter λe=>decide (e.1∈n::t))=Money.on m n+Money.total (m.filter λe=>decide (e.1∈t))
 |[],_=>rfl
 |(a,c)::l,h=>by
  have ih:=Cz hn h.tail;rw[Lx];by_cases e:a=n
  .subst e;rw[QV λz hz=>iu (h.lt z hz)]at ih;rw[ah rfl,qZ ∅,q_ ‹hn›,rR,ih];show c+_=_;omega
  .rw[af e];by_cases k:a∈t
   .rw[qZ (by simp[k]),qZ ‹k›,rR,rR,ih];omega
   .rw[q_ (by simp[k,e]),q_ ‹k›,ih]
theorem z7{ms:List Int}(m0:∀x∈ms,0<=x)(h:VN (PoolNeutral.pairs ms)):∀{nums:List Nat},nums.Nodup->((Money.total ((PoolNeutral.pairs ms).filter λe=>decide (e.1∈nums)):Nat):Int)=((iN nums).map λn=>(NW n ms).getD 0).sum
 |[],_=>by
  rw[filter_eq_nil_iff.mpr λe _=>by simp];rfl
 |n::t,nd=>by
  obtain⟨h1,h2⟩:=nodup_cons.mp nd;rw[Cz h1 h,CJ,z7 m0 h h2,UD m0,m8];rfl
theorem z8(x:List Int×List Int):∀l,oV (l++ [x])=oV l*(x.2.length:Int)
 |[]=>rfl
 |a::l=>by
  show oV (l++ [x])*(a.2.length:Int)=oV l*(a.2.length:Int)*(x.2.length:Int);rw[z8 x l,pI,sV (x.2.length:Int),<-pI]
theorem CA:∀{ss:List (List Int)}{hs:List (List Nat)},ss.length=hs.length->oV (ss.zip (hs.map iN)).reverse=((product (hs.map List.length):Nat):Int)
 |[],[],_=>rfl
 |s::ss,h::hs,e=>by
  show oV ((s,iN h)::ss.zip (hs.map iN)).reverse=((product (h.length::hs.map List.length):Nat):Int);rw[reverse_cons,z8,CA (Nat.succ.inj e),prod_cons,pG,sV];show(((iN h).length:Nat):Int)*_=_;unfold iN;rw[az]
def Ym{card bet ms ans:List Int}(hc:∀x∈card,0<=x/\x<=255)(hb:∀x∈bet,0<=x/\x<=255)(m0:∀x∈ms,0<=x)(m2:ms.length%2=0)(h:QQ card bet ms ans):PyWqaqcm.bet card bet ms=ans:=by
 have e:PyWqaqcm.bet card bet ms=(let a:=ofBetMoney (PoolNeutral.text card) (PoolNeutral.text bet) (PoolNeutral.pairs ms) (λC x=>tells [Money.total ((PoolNeutral.pairs ms).filter λ(e:Nat×Nat)=>C.has x (C.comboOf (C.pool x.pool) e.1))]);a.code::a.nums):=rfl;rw[e];obtain⟨r,hA,Q9⟩:=h;obtain⟨hn,e⟩|⟨C,x,st,ss,o,g,hs,pin,rfl,rfl,s1,es,hm,ho,e⟩:=UL hc hb m0 m2 hA (λC x=>tells [Money.total ((PoolNeutral.pairs ms).filter λ(e:Nat×Nat)=>C.has x (C.comboOf (C.pool x.pool) e.1))])
 .rw[ah hn]at Q9;rw[e,Q9]
 .rw[e];rw[af (show¬(0:Int)<0 by decide)]at Q9;dsimp only at Q9⊢;have hr:=hm;rw[FX m0 m2]at hr;obtain⟨mok,mlt,_⟩:=Nu.mp hr;rw[Jx mlt,Q9];show [(0:Int),((Money.total _:Nat):Int)]=[0,_];refine bW (λz:Int=>[0,z]) ?_;cases o with
  |some nums=>
   obtain⟨rfl,_⟩:=ho;exact z7 m0 mok Jw.nodup
  |none=>
   obtain⟨rs,ps,q,ec,er,_,eq⟩:=hA.ok (show¬(0:Int)<0 by decide);have eq:=Option.some.inj (Prod.mk.inj (Prod.mk.inj eq).2).2;obtain⟨rfl,rfl⟩:=Prod.mk.inj eq;have hg:=GY (jS.legs er ((ju ec).1 _ er.mem)).2;have hk:=ho.1;have hL:=(Ek g hs pin hk).1;have hlen:(mm C (C.pool x.pool) x.sets).length=(C.sets (C.pool x.pool)).length:=by
    have:=L2.Paired.dQ (jS.legs er ((ju ec).1 _ er.mem)).2;rw[o5 pin,az,es]at this;exact this
   have hP:oV (ss.zip (cB (C.races.map hI) (mp (C.pool x.pool)))).reverse=((C.many (C.pool x.pool):Nat):Int):=by
    rw[o5 pin,es,CA hlen];unfold Card.many;dsimp only;rw[hk]
   have hf:(dD (bK ms)).filter (λn=>mj n (ss.zip (cB (C.races.map hI) (mp (C.pool x.pool)))).reverse)=iN (((PoolNeutral.pairs ms).map λ(e:Nat×Nat)=>e.1).filter λn=>decide (n∈dH C x)):=by
    rw[z6 m0];unfold iN;rw[mM];refine bW _ (jg λn hn=>?_);obtain⟨z,hz,rfl⟩:=mem_map.mp hn;rw[gi,fB,<-QW,<-hL,<-es];refine(Cm _ _ (λy hy=>?_) (Int.natCast_nonneg _) (by rw[hP];exact Int.ofNat_lt.mpr (mlt z hz))).trans (by rw[reverse_reverse]);obtain⟨_,g2,g3,g4⟩:=hg y (mem_reverse.mp hy);exact⟨aW (length_pos_iff.mpr g3) g4,g2⟩
   dsimp only;rw[hf,<-z7 m0 mok (Up.nodup (qW _ mok.up))];refine bW (λz:Money=>((Money.total z:Nat):Int)) (jg λz hz=>?_);rw[gi,fB,fB,mem_filter,fB];exact⟨λk=>⟨mem_map.mpr ⟨z,hz,rfl⟩,k⟩,λk=>k.2⟩
end Pd
end
section
namespace L2
open PySem PySem.Spec PyProof.Rows
inductive Ent(w:World):List DictEntry->List (Key×V)->Prop
 |nil:Ent w [] []
 |cons {e:DictEntry} {es:List DictEntry} {k:Key} {v:V} {kvs:List (Key×V)} :gX k e.key=true->e.hash=n6 w k->RelV v e.val->Ent w es kvs->Ent w (e::es) ((k,v)::kvs)
theorem Ent.pairs{P:Program}{w:World}:∀{es:List DictEntry}{kvs:List (Key×V)},Ent w es kvs->∃vs:List (Key×Value),KV kvs vs/\Pairs (bI P w) es vs/\vs.map (·.1)=kvs.map (·.1)/\es.length=kvs.length/\∀e∈es,∃k,gX k e.key=true/\e.hash=n6 w k
 |_,_,.nil=>⟨[],.nil,.nil,rfl,rfl,by simp⟩
 |_,_,.cons (e:=e) (k:=k) (v:=v) a b c r=>by
  obtain⟨vs,h1,h2,h3,h4,h5⟩:=Ent.pairs (P:=P) r;refine⟨(k,e.val)::vs,.cons ⟨rfl,c⟩ h1,.cons a rfl h2,by rw[aP,aP,h3],by rw[aY,aY,h4],λx hx=>?_⟩;obtain z|z:=mem_cons.mp hx
  .subst z;exact⟨k,a,b⟩
  .exact h5 x z
def Q_{es:Array DictEntry}(l:K.lookup d=some {cls:=.type "dict",data:=.dict es ep})(hd:(d==sysModules)=false)(h:Ent w es.toList kvs)(nd:(kvs.map (·.1)).Nodup):KD P w K d kvs:=by
 obtain⟨vs,h1,h2,h3,h4,h5⟩:=h.pairs (P:=P);refine⟨_,es,ep,vs,l,hd,⟨rfl,rfl,rfl⟩,rfl,by rw[<-h4,cH],h1,λe he=>h5 e ‹he›,h2,by rw[h3];exact nd⟩
def LK x t:gX (Sum.inr x) (.str x t)=true:=by simp[gX,Value.isStrOf]
def o7 x t:gX (Sum.inl x) (.int x t)=true:=by simp[gX,Value.isInt]
def UM{a b:Int}{t u:Tok}{e:Nat}(l:K.lookup p=some {cls:=.type "tuple",data:=.seq #[.int a t,.int b u] e}):jF K H p [.int a,.int b]:=
 .inr ⟨_,_,_,l,rfl,rfl,by rw[cx];show 2<=16777216;decide,.cons ⟨_,rfl⟩ (.cons ⟨_,rfl⟩ .nil)⟩
noncomputable def DH(K:PySem.W.Frag)(x:Str)(st:Stmt):Prop:=∃f fd,PySem.W.nsIn K mainGlobals x=some (some (.ref f))/\Ko K x x st f fd
def dh{kV doc b8:Value}(a:PySem.W.nsIn K mainGlobals x=some (some (.ref f)))(l:K.lookup f=some ⟨oc,od,.func (PySem.W.fnOf x x (fO st) (cj st) (ao st) .none kV doc pm an b8 ct),HR⟩)(c:PySem.W.codeIn K b8 x=true)(k:PySem.W.keepIn K (.ref f)=true):DH K x st:=⟨_,_,a,Ig l c k⟩
theorem DH.d(D:DH K x st)(X:K.In h)(G:h.Ns mainGlobals mg)(hb:∀kV doc pm an b8 ct us,us.length=ps.length->bindArgs (PySem.W.fnOf x x (fO st) (cj st) (ao st) .none kV doc pm an b8 ct) ⟨us,[]⟩=pure (ps.zip us)):Def K mg x st ps:=by
 obtain⟨f,fd,a,F⟩:=D;exact⟨_,_,bM X G a,F,F.binds hb⟩
end L2
namespace Pd
open PySem PySem.Spec PyProof.Rows L2 TL
def Ra:([Sum.inr (Str.ofString "place"),Sum.inr (Str.ofString "order"),Sum.inr (Str.ofString "any"),Sum.inr (Str.ofString "legs")]:List Key).Nodup:=by decide+kernel
def Rb:([Sum.inl 0,Sum.inl 4,Sum.inl 6,Sum.inl 8,Sum.inl 10,Sum.inl 12,Sum.inl 14]:List Key).Nodup:=by decide+kernel
def Rc:([Sum.inl 32,Sum.inl 10,Sum.inl 44,Sum.inl 47]:List Key).Nodup:=by decide+kernel
def abb:Str.ofString " "=S [32]:=by decide+kernel
def abd:Str.ofString "\n"=S [10]:=by decide+kernel
def abe:Str.ofString ","=S [44]:=by decide+kernel
def abf:Str.ofString "/"=S [47]:=by decide+kernel
def abg:Str.ofString "any"=S ji:=by decide+kernel
def Yn:Str.ofString "pool"=S yx:=by decide+kernel
def Yo:Str.ofString "from"=S yy:=by decide+kernel
def Yp:Str.ofString "take"=S yz:=by decide+kernel
def UN:Str.ofString "break"=S rp:=by decide+kernel
def UO:Str.ofString "least"=S rq:=by decide+kernel
def Yq:Str.ofString "unit"=S yA:=by decide+kernel
def Yr:Str.ofString "none"=S yB:=by decide+kernel
def Rf:Str.ofString "refund"=S jj:=by decide+kernel
def UP:Str.ofString "carry"=S mV:=by decide+kernel
def UQ:Str.ofString "fewer"=S gv:=by decide+kernel
def UR(h:PoolNeutral.asked [[7],card,bet,money]=true):money.length%2=0:=by
 unfold PoolNeutral.asked at h;simp only[Bool.and_eq_true]at h;have h2:=h.2.2.1;simp[PoolNeutral.pairRows,PoolNeutral.nats]at h2;omega
def all_mk(X:K.In h)(G:h.Ns mainGlobals mg)(hfa:mg "bet"=some (.ref fa))(rV:DH K "is_right" DE)(jX:DH K "sum_of_cents" DF)(o8:DH K "by_number" Ea)(z9:DH K "sum_on" zP)(fq:DH K "count_combinations" DC)(i6:DH K "count_choices" DA)(nB:DH K "count_rows" Dz)(nD:DH K "count_sets" DB)(kZ:DH K "leg_numbers" GP)(fF:DH K "leg_numbers_among" zO)(i7:DH K "is_leg_number" Eb)(i9:DH K "numbered_rows" zD)(nE:DH K "set_number" Lc)(u5:DH K "sign_of" KA)(u6:DH K "text_of" F5)(rW:DH K "lines_of" yS)(u9:DH K "is_name" F6)(o9:DH K "number_of" xg)(u_:DH K "require" tY)(rX:DH K "read_bet" Le)(jY:DH K "check_staked" xF)(k9:DH K "pool_called" tZ)(nF:DH K "read_stake" D4)(o_:DH K "read_sets" K_)(vd:DH K "read_on" Y3)(rY:DH K "read_box" Ua)(rZ:DH K "read_key" Qu)(r9:DH K "read_set" Ji)(gS:DH K "numbers_of_race" zJ)(jZ:DH K "rows_of_form" GQ)(ve:DH K "has_all" t5)(z_:DH K "demand" xj)(i_:DH K "number_within" xl)(pd:DH K "read_card" vB)(ph:DH K "check_day" Tv)(k_:DH K "count_races" Dv)(pj:DH K "read_race" yU)(pq:DH K "read_pool" B1)(gT:DH K "read_pool_races" ql)(ft:DH K "check_names_differ" xq)(Rg:DH K "bet" Nn)(vf:DH K "ask_bet" Lj)(gD:PySem.W.nsIn K mainGlobals "MOST_PAIRS"=some (some (.int 262144 UT)))(gE:PySem.W.nsIn K mainGlobals "MOST_CENTS"=some (some (.int 281474976710655 UU)))(h_:PySem.W.nsIn K mainGlobals "LETTERS"=some (some (.str "abcdefghijklmnopqrstuvwxyz" Zb)))(lW:PySem.W.nsIn K mainGlobals "DIGITS"=some (some (.str "0123456789" abh)))(lX:PySem.W.nsIn K mainGlobals "STRANGE"=some (some (.str "?" Zc)))(di:PySem.W.nsIn K mainGlobals "MOST_NAME_BYTES"=some (some (.int 12 LL)))(fG:PySem.W.nsIn K mainGlobals "MOST_DIGITS"=some (some (.int 7 RY)))(gF:PySem.W.nsIn K mainGlobals "MOST_STAKE"=some (some (.int 1000000 UW)))(fH:PySem.W.nsIn K mainGlobals "MOST_STAKED"=some (some (.int 2147483647 RZ)))(d7:PySem.W.nsIn K mainGlobals "MOST_NUMBERED"=some (some (.int 262144 N1)))(fI:PySem.W.nsIn K mainGlobals "LEAST_WORDS"=some (some (.int 6 R1)))(gG:PySem.W.nsIn K mainGlobals "MOST_RACES"=some (some (.int 16 UX)))(gH:PySem.W.nsIn K mainGlobals "MOST_POOLS"=some (some (.int 64 UY)))(d8:PySem.W.nsIn K mainGlobals "LEAST_RUNNERS"=some (some (.int 2 N2)))(eY:PySem.W.nsIn K mainGlobals "MOST_RUNNERS"=some (some (.int 24 Rh)))(eZ:PySem.W.nsIn K mainGlobals "MOST_COUPLES"=some (some (.int 8 Ri)))(iK:PySem.W.nsIn K mainGlobals "MOST_TAKE"=some (some (.int 400 VQ)))(gI:PySem.W.nsIn K mainGlobals "MOST_BREAK"=some (some (.int 1000 UZ)))(iL:PySem.W.nsIn K mainGlobals "MOST_UNIT"=some (some (.int 10000 VR)))(fJ:PySem.W.nsIn K mainGlobals "POOL_LENGTH"=some (some (.int 16 R3)))(dj:PySem.W.nsIn K mainGlobals "MOST_CARD_BYTES"=some (some (.int 65536 LN)))(dN:PySem.W.nsIn K mainGlobals "MOST_BET_BYTES"=some (some (.int 4096 Nz)))(tL:PySem.W.nsIn K mainGlobals "all"=some none)(yQ:PySem.W.nsIn K mainGlobals "dict"=some none)(f9:PySem.W.nsIn K mainGlobals "enumerate"=some none)(F0:PySem.W.nsIn K mainGlobals "int"=some none)(b_:PySem.W.nsIn K mainGlobals "len"=some none)(qO:PySem.W.nsIn K mainGlobals "ord"=some none)(gJ:PySem.W.nsIn K mainGlobals "range"=some none)(BX:PySem.W.nsIn K mainGlobals "set"=some none)(jL:PySem.W.nsIn K mainGlobals "sorted"=some none)(BZ:PySem.W.nsIn K mainGlobals "sum"=some none)(tM:PySem.W.nsIn K mainGlobals "tuple"=some none)(yR:PySem.W.nsIn K mainGlobals "zip"=some none)(El:PySem.W.nsIn K mainGlobals "NoBet"=some (some (.ref Rj)))(Em:PySem.W.excIn K Rj [.type "ValueError",.type "Exception",.type "BaseException",.type "object"] "ValueError.__new__"=true)(Rk:PySem.W.nsIn K mainGlobals "Bet"=some (some (.ref ud)))(Rl:PySem.W.findIn K (.ref ud) "__init__"=some (some (.ref Rm)))(Rn:K.lookup Rm=some ⟨ad4,ad5,.func (PySem.W.fnOf "__init__" "Bet.__init__" (fO me) (cj me) (ao me) .none ad6 ad7 ad8 ad9 Ys ad_),aea⟩)(Ro:PySem.W.codeIn K Ys "Bet.__init__"=true)(Rp:PySem.W.keepIn K (.ref Rm)=true)(Rq:PySem.W.isFn K (.ref Rm)=true)(Rt:PySem.W.plainGet K ud Str.empty=true)(Ru:PySem.W.hasDictIn K ud=true)(Rv:PySem.W.plainOver K ud=true)(Rw:PySem.W.findIn K (.ref ud) "__setattr__"=some (some (.builtin "object.__setattr__")))(Rx:PySem.W.makesIn K ud=true)(Ry:PySem.W.keepIn K (.ref ud)=true)(qz:PySem.W.findIn K (.ref ud) "pool"=some none)(nG:PySem.W.findIn K (.ref ud) "stake"=some none)(qA:PySem.W.findIn K (.ref ud) "sets"=some none)(jo:PySem.W.findIn K (.ref ud) "numbers"=some none)(Aa:PySem.W.nsIn K mainGlobals "NoCard"=some (some (.ref LO)))(Ab:PySem.W.excIn K LO [.type "ValueError",.type "Exception",.type "BaseException",.type "object"] "ValueError.__new__"=true)(JF:PySem.W.nsIn K mainGlobals "Pool"=some (some (.ref j0)))(JG:PySem.W.findIn K (.ref j0) "__init__"=some (some (.ref JH)))(JI:K.lookup JH=some ⟨abU,abV,.func (PySem.W.fnOf "__init__" "Pool.__init__" (fO jr) (cj jr) (ao jr) .none abW abX abY abZ U0 ab0),ab1⟩)(JK:PySem.W.codeIn K U0 "Pool.__init__"=true)(JL:PySem.W.keepIn K (.ref JH)=true)(JM:PySem.W.isFn K (.ref JH)=true)(JN:PySem.W.plainGet K j0 Str.empty=true)(JO:PySem.W.hasDictIn K j0=true)(JP:PySem.W.plainOver K j0=true)(JQ:PySem.W.findIn K (.ref j0) "__setattr__"=some (some (.builtin "object.__setattr__")))(JR:PySem.W.makesIn K j0=true)(JS:PySem.W.keepIn K (.ref j0)=true)(j3:PySem.W.findIn K (.ref j0) "name"=some none)(j4:PySem.W.findIn K (.ref j0) "kind"=some none)(uf:PySem.W.findIn K (.ref j0) "k"=some none)(iO:PySem.W.findIn K (.ref j0) "races"=some none)(nH:PySem.W.findIn K (.ref j0) "unit"=some none)(En:PySem.W.nsIn K mainGlobals "Asked"=some (some (.ref ja)))(Eo:PySem.W.findIn K (.ref ja) "__init__"=some (some (.ref xO)))(Ep:K.lookup xO=some ⟨abj,abk,.func (PySem.W.fnOf "__init__" "Asked.__init__" (fO dZ) (cj dZ) (ao dZ) (.ref LQ) abl abm abn abo Rz abp),abq⟩)(Er:PySem.W.codeIn K Rz "Asked.__init__"=true)(Es:PySem.W.keepIn K (.ref xO)=true)(Et:K.lookup LQ=some {cls:=.type "tuple",data:=.seq #[.int 0 ab2,.none] ab3})(Eu:PySem.W.isFn K (.ref xO)=true)(Ew:PySem.W.plainGet K ja Str.empty=true)(Ex:PySem.W.hasDictIn K ja=true)(Ey:PySem.W.plainOver K ja=true)(Ez:PySem.W.findIn K (.ref ja) "__setattr__"=some (some (.builtin "object.__setattr__")))(EA:PySem.W.makesIn K ja=true)(EB:PySem.W.keepIn K (.ref ja)=true)(gU:PySem.W.findIn K (.ref ja) "refusal"=some none)(dJ:PySem.W.findIn K (.ref ja) "combinations"=some none)(nI:PySem.W.findIn K (.ref ja) "bet"=some none)(EC:PySem.W.nsIn K mainGlobals "MARKS"=some (some (.ref xP)))(ED:K.lookup xP=some {cls:=.type "dict",data:=.dict #[⟨RA,.int 32 abr,.str " " abt⟩,⟨RB,.int 10 abu,.str "\n" abv⟩,⟨RC,.int 44 abw,.str "," abx⟩,⟨RD,.int 47 aby,.str "/" abz⟩] ab4})(EE:(xP==sysModules)=false)(Ac:RA=n6 w (Sum.inl 32))(Ad:RB=n6 w (Sum.inl 10))(Ae:RC=n6 w (Sum.inl 44))(Af:RD=n6 w (Sum.inl 47))(EF:PySem.W.nsIn K mainGlobals "KINDS"=some (some (.ref EG)))(EH:K.lookup EG=some {cls:=.type "dict",data:=.dict #[⟨RE,.str "place" abA,.ref Hk⟩,⟨RF,.str "order" abB,.ref Hl⟩,⟨RG,.str "any" abC,.ref Hm⟩,⟨RH,.str "legs" abD,.ref Hn⟩] ab5})(EI:(EG==sysModules)=false)(Ag:RE=n6 w (Sum.inr (Str.ofString "place")))(Ah:K.lookup Hk=some {cls:=.type "tuple",data:=.seq #[.int 1 abE,.int 4 abF] abG})(Ai:RF=n6 w (Sum.inr (Str.ofString "order")))(Aj:K.lookup Hl=some {cls:=.type "tuple",data:=.seq #[.int 2 abH,.int 4 abI] abJ})(Ak:RG=n6 w (Sum.inr (Str.ofString "any")))(Al:K.lookup Hm=some {cls:=.type "tuple",data:=.seq #[.int 2 abK,.int 3 abL] abM})(Am:RH=n6 w (Sum.inr (Str.ofString "legs")))(An:K.lookup Hn=some {cls:=.type "tuple",data:=.seq #[.int 2 abN,.int 6 abO] abP})(EJ:PySem.W.nsIn K mainGlobals "NONES"=some (some (.ref LR)))(EK:K.lookup LR=some {cls:=.type "tuple",data:=.seq #[.str "refund" abQ,.str "carry" abR,.str "fewer" abS] ab6})(nJ:PySem.W.nsIn K mainGlobals "POOL_WORDS"=some (some (.ref nM)))(nO:K.lookup nM=some {cls:=.type "dict",data:=.dict #[⟨A6,.int 0 R4,.str "pool" R5⟩,⟨A7,.int 4 R6,.str "from" R7⟩,⟨A8,.int 6 R8,.str "take" R9⟩,⟨A9,.int 8 R_,.str "break" Sb⟩,⟨A_,.int 10 Sd,.str "least" Se⟩,⟨Ba,.int 12 Sf,.str "unit" Sg⟩,⟨Bb,.int 14 Sh,.str "none" Si⟩] U1})(nP:(nM==sysModules)=false)(lj:A6=n6 w (Sum.inl 0))(ll:A7=n6 w (Sum.inl 4))(lq:A8=n6 w (Sum.inl 6))(lu:A9=n6 w (Sum.inl 8))(lz:A_=n6 w (Sum.inl 10))(lB:Ba=n6 w (Sum.inl 12))(lC:Bb=n6 w (Sum.inl 14)):
  ∃fd:FuncData,(∀s us,us.length=(["card","bet","money"]:List Str).length->BindsTo s fd ⟨us,[]⟩ ((["card","bet","money"]:List Str).zip us))/\∀base:Heap,K.In base->base.Ns mainGlobals mg->n9 P w K mg base eJ 7 fa fd ["card","bet","money"] (QR K):=by
 obtain⟨f0,fd0,a0,VS⟩:=Rg;have e:=hfa.symm.trans (bM X G a0);cases e;obtain⟨oc,od,kV,doc,pm,an,b8,ct,HR,rfl,lk,Bh⟩:=VS.ex;have JT:Def K mg "is_right" DE ["money","combinations"]:=rV.d X G λ_ _ _ _ _ _ us hl=>by obtain⟨_,_,rfl⟩:=lT hl;rfl
 have Ao:Def K mg "sum_of_cents" DF ["money"]:=jX.d X G λ_ _ _ _ _ _ us hl=>by obtain⟨_,rfl⟩:=oI hl;rfl
 have Ho:Def K mg "by_number" Ea ["money"]:=o8.d X G λ_ _ _ _ _ _ us hl=>by obtain⟨_,rfl⟩:=oI hl;rfl
 have RJ:Def K mg "sum_on" zP ["money","numbers"]:=z9.d X G λ_ _ _ _ _ _ us hl=>by obtain⟨_,_,rfl⟩:=lT hl;rfl
 have pA:Def K mg "count_combinations" DC ["pool"]:=fq.d X G λ_ _ _ _ _ _ us hl=>by obtain⟨_,rfl⟩:=oI hl;rfl
 have vX:Def K mg "count_choices" DA ["lists"]:=i6.d X G λ_ _ _ _ _ _ us hl=>by obtain⟨_,rfl⟩:=oI hl;rfl
 have EL:Def K mg "count_rows" Dz ["interests","k"]:=nB.d X G λ_ _ _ _ _ _ us hl=>by obtain⟨_,_,rfl⟩:=lT hl;rfl
 have ER:Def K mg "count_sets" DB ["interests","k"]:=nD.d X G λ_ _ _ _ _ _ us hl=>by obtain⟨_,_,rfl⟩:=lT hl;rfl
 have Bc:Def K mg "leg_numbers" GP ["sets","races"]:=kZ.d X G λ_ _ _ _ _ _ us hl=>by obtain⟨_,_,rfl⟩:=lT hl;rfl
 have qG:Def K mg "leg_numbers_among" zO ["numbers","sets","races"]:=fF.d X G λ_ _ _ _ _ _ us hl=>by obtain⟨_,_,_,rfl⟩:=FY hl;rfl
 have vY:Def K mg "is_leg_number" Eb ["number","sets","races"]:=i7.d X G λ_ _ _ _ _ _ us hl=>by obtain⟨_,_,_,rfl⟩:=FY hl;rfl
 have vZ:Def K mg "numbered_rows" zD ["sets","interests"]:=i9.d X G λ_ _ _ _ _ _ us hl=>by obtain⟨_,_,rfl⟩:=lT hl;rfl
 have EV:Def K mg "set_number" Lc ["row","interests"]:=nE.d X G λ_ _ _ _ _ _ us hl=>by obtain⟨_,_,rfl⟩:=lT hl;rfl
 have NA:Def K mg "sign_of" KA ["byte"]:=u5.d X G λ_ _ _ _ _ _ us hl=>by obtain⟨_,rfl⟩:=oI hl;rfl
 have ND:Def K mg "text_of" F5 ["codes"]:=u6.d X G λ_ _ _ _ _ _ us hl=>by obtain⟨_,rfl⟩:=oI hl;rfl
 have JU:Def K mg "lines_of" yS ["text"]:=rW.d X G λ_ _ _ _ _ _ us hl=>by obtain⟨_,rfl⟩:=oI hl;rfl
 have NF:Def K mg "is_name" F6 ["word"]:=u9.d X G λ_ _ _ _ _ _ us hl=>by obtain⟨_,rfl⟩:=oI hl;rfl
 have Hq:Def K mg "number_of" xg ["word"]:=o9.d X G λ_ _ _ _ _ _ us hl=>by obtain⟨_,rfl⟩:=oI hl;rfl
 have NI:Def K mg "require" tY ["holds"]:=u_.d X G λ_ _ _ _ _ _ us hl=>by obtain⟨_,rfl⟩:=oI hl;rfl
 have JV:Def K mg "read_bet" Le ["codes","pools"]:=rX.d X G λ_ _ _ _ _ _ us hl=>by obtain⟨_,_,rfl⟩:=lT hl;rfl
 have Ap:Def K mg "check_staked" xF ["stake","combinations"]:=jY.d X G λ_ _ _ _ _ _ us hl=>by obtain⟨_,_,rfl⟩:=lT hl;rfl
 have Bd:Def K mg "pool_called" tZ ["name","pools"]:=k9.d X G λ_ _ _ _ _ _ us hl=>by obtain⟨_,_,rfl⟩:=lT hl;rfl
 have EW:Def K mg "read_stake" D4 ["word","unit"]:=nF.d X G λ_ _ _ _ _ _ us hl=>by obtain⟨_,_,rfl⟩:=lT hl;rfl
 have Hr:Def K mg "read_sets" K_ ["words","pool"]:=o_.d X G λ_ _ _ _ _ _ us hl=>by obtain⟨_,_,rfl⟩:=lT hl;rfl
 have NK:Def K mg "read_on" Y3 ["words","pool"]:=vd.d X G λ_ _ _ _ _ _ us hl=>by obtain⟨_,_,rfl⟩:=lT hl;rfl
 have JW:Def K mg "read_box" Ua ["words","pool"]:=rY.d X G λ_ _ _ _ _ _ us hl=>by obtain⟨_,_,rfl⟩:=lT hl;rfl
 have JX:Def K mg "read_key" Qu ["words","pool"]:=rZ.d X G λ_ _ _ _ _ _ us hl=>by obtain⟨_,_,rfl⟩:=lT hl;rfl
 have JY:Def K mg "read_set" Ji ["word","interests"]:=r9.d X G λ_ _ _ _ _ _ us hl=>by obtain⟨_,_,rfl⟩:=lT hl;rfl
 have ug:Def K mg "numbers_of_race" zJ ["form","sets","pool"]:=gS.d X G λ_ _ _ _ _ _ us hl=>by obtain⟨_,_,_,rfl⟩:=FY hl;rfl
 have Aq:Def K mg "rows_of_form" GQ ["form","sets","k","interests"]:=jZ.d X G λ_ _ _ _ _ _ us hl=>by obtain⟨_,_,_,_,rfl⟩:=Tj hl;rfl
 have NM:Def K mg "has_all" t5 ["row","places"]:=ve.d X G λ_ _ _ _ _ _ us hl=>by obtain⟨_,_,rfl⟩:=lT hl;rfl
 have RK:Def K mg "demand" xj ["holds"]:=z_.d X G λ_ _ _ _ _ _ us hl=>by obtain⟨_,rfl⟩:=oI hl;rfl
 have wc:Def K mg "number_within" xl ["word","lowest","highest"]:=i_.d X G λ_ _ _ _ _ _ us hl=>by obtain⟨_,_,_,rfl⟩:=FY hl;rfl
 have Hs:Def K mg "read_card" vB ["codes"]:=pd.d X G λ_ _ _ _ _ _ us hl=>by obtain⟨_,rfl⟩:=oI hl;rfl
 have Ht:Def K mg "check_day" Tv ["words"]:=ph.d X G λ_ _ _ _ _ _ us hl=>by obtain⟨_,rfl⟩:=oI hl;rfl
 have Be:Def K mg "count_races" Dv ["lines"]:=k_.d X G λ_ _ _ _ _ _ us hl=>by obtain⟨_,rfl⟩:=oI hl;rfl
 have Hu:Def K mg "read_race" yU ["words"]:=pj.d X G λ_ _ _ _ _ _ us hl=>by obtain⟨_,rfl⟩:=oI hl;rfl
 have Hv:Def K mg "read_pool" B1 ["words","races"]:=pq.d X G λ_ _ _ _ _ _ us hl=>by obtain⟨_,_,rfl⟩:=lT hl;rfl
 have uh:Def K mg "read_pool_races" ql ["word","kind","k","races"]:=gT.d X G λ_ _ _ _ _ _ us hl=>by obtain⟨_,_,_,_,rfl⟩:=Tj hl;rfl
 have pB:Def K mg "check_names_differ" xq ["pools"]:=ft.d X G λ_ _ _ _ _ _ us hl=>by obtain⟨_,rfl⟩:=oI hl;rfl
 have NN:Def K mg "ask_bet" Lj ["card","bet","money"]:=vf.d X G λ_ _ _ _ _ _ us hl=>by obtain⟨_,_,_,rfl⟩:=FY hl;rfl
 have T:Tx mg:=⟨⟨_,bM X G gD⟩,⟨_,bM X G gE⟩,⟨_,bM X G h_⟩,⟨_,bM X G lW⟩,⟨_,bM X G lX⟩,⟨_,bM X G di⟩,⟨_,bM X G fG⟩,⟨_,bM X G gF⟩,⟨_,bM X G fH⟩,⟨_,bM X G d7⟩,⟨_,bM X G fI⟩,⟨_,bM X G gG⟩,⟨_,bM X G gH⟩,⟨_,bM X G d8⟩,⟨_,bM X G eY⟩,⟨_,bM X G eZ⟩,⟨_,bM X G iK⟩,⟨_,bM X G gI⟩,⟨_,bM X G iL⟩,⟨_,bM X G fJ⟩,⟨_,bM X G dj⟩,⟨_,bM X G dN⟩,iQ X G tL,iQ X G yQ,iQ X G f9,iQ X G F0,iQ X G b_,iQ X G qO,iQ X G gJ,iQ X G BX,iQ X G jL,iQ X G BZ,iQ X G tM,iQ X G yR⟩;have VD:Nb K mg Rj:=⟨bM X G El,Em⟩;have VU:=Ig (st:=me) Rn Ro Rp;have abT:=VU.binds (ps:=["self","pool","stake","sets","numbers"]) λ_ _ _ _ _ _ us hl=>by obtain⟨_,_,_,_,_,rfl⟩:=aan hl;rfl
 have VV:Fh K ud:=⟨Rt,Ru,Rv,Rw⟩;have NCF:Nc K mg LO:=⟨bM X G Aa,Ab⟩;have RL:=Ig (st:=jr) JI JK JL;have Yt:=RL.binds (ps:=["self","name","kind","k","races","unit"]) λ_ _ _ _ _ _ us hl=>by obtain⟨_,_,_,_,_,_,rfl⟩:=adu hl;rfl
 have EX:Fh K j0:=⟨JN,JO,JP,JQ⟩;have U2:Te K "__init__" "Asked.__init__" dZ (.ref LQ) xO _:=⟨⟨_,_,_,_,_,_,_,_,_,rfl,Ep,Er⟩,Es⟩;have LU:Fh K ja:=⟨Ew,Ex,Ey,Ez⟩;have TG:Tg P w K mg:=by
  refine⟨⟨EG,Hk,Hl,Hm,Hn,bM X G EF,?_,λH=>UM Ah,λH=>UM Aj,λH=>UM Al,λH=>UM An⟩,⟨nM,bM X G nJ,?_⟩,⟨LR,bM X G EJ,λH=>?_⟩⟩
  .rw[<-DJ,<-KQ,<-abg,<-yY];exact Q_ EH EI (.cons (LK _ _) Ag rfl (.cons (LK _ _) Ai rfl (.cons (LK _ _) Ak rfl (.cons (LK _ _) Am rfl .nil)))) Ra
  .rw[<-Yn,<-Yo,<-Yp,<-UN,<-UO,<-Yq,<-Yr];exact Q_ nO nP (.cons (o7 _ _) lj ⟨_,rfl⟩ (.cons (o7 _ _) ll ⟨_,rfl⟩ (.cons (o7 _ _) lq ⟨_,rfl⟩ (.cons (o7 _ _) lu ⟨_,rfl⟩ (.cons (o7 _ _) lz ⟨_,rfl⟩ (.cons (o7 _ _) lB ⟨_,rfl⟩ (.cons (o7 _ _) lC ⟨_,rfl⟩ .nil))))))) Rb
  .rw[<-Rf,<-UP,<-UQ];exact .inr ⟨_,_,_,EK,rfl,rfl,by have:=bH;show 3<=_;omega,.cons ⟨_,rfl⟩ (.cons ⟨_,rfl⟩ (.cons ⟨_,rfl⟩ .nil))⟩
 have TM:∃dm,mg "MARKS"=some (.ref dm)/\KD P w K dm (MK.map λp=>((Sum.inl p.1:Key),V.str (S p.2))):=by
  refine⟨xP,bM X G EC,?_⟩;show KD P w K xP [(Sum.inl 32,V.str (S [32])),(Sum.inl 10,V.str (S [10])),(Sum.inl 44,V.str (S [44])),(Sum.inl 47,V.str (S [47]))];rw[<-abb,<-abd,<-abe,<-abf];exact Q_ ED EE (.cons (o7 _ _) Ac ⟨_,rfl⟩ (.cons (o7 _ _) Ad ⟨_,rfl⟩ (.cons (o7 _ _) Ae ⟨_,rfl⟩ (.cons (o7 _ _) Af ⟨_,rfl⟩ .nil)))) Rc
 refine⟨PySem.W.fnOf "bet" "bet" (fO Nn) (cj Nn) (ao Nn) .none kV doc pm an b8 ct,λs us hu=>by obtain⟨_,_,_,rfl⟩:=FY hu;exact .of_eq rfl,λbase _ _=>?_⟩;have NP:=Tq (P:=P) (w:=w) (base:=base) NA T TM;have js:=Ts ND NP;have ib:=Pw (P:=P) (w:=w) (base:=base) JU;have qm:=Tt (P:=P) (w:=w) (base:=base) NF T;have fi:=MH (P:=P) (w:=w) (base:=base) Hq T;have aZ:=MI (P:=P) (w:=w) (base:=base) RK NCF;have aV:=MJ wc fi aZ;have oN:=Xw Ht T qm aZ;have kR:=PB (P:=P) (w:=w) (base:=base) Be;have oO:=Tw Hu T aV aZ;have gL:=Ge uh T aV aZ;have jT:CL P w K mg base "Bet" ud ["self","pool","stake","sets","numbers"] (jt ud) ["pool","stake","sets","numbers"]:=⟨⟨_,_,⟨Rx,Rl,Rq,Ry⟩,Jq VU VV qz nG qA jo,abT⟩,bM X G Rk,VV,by
  intro f hf;simp only[mem_cons,not_mem_nil,or_false]at hf;obtain rfl|rfl|rfl|rfl:=hf
  .exact qz
  .exact nG
  .exact qA
  .exact jo⟩
 have aN:CL P w K mg base "Pool" j0 ["self","name","kind","k","races","unit"] (cU j0) ["name","kind","k","races","unit"]:=⟨⟨_,_,⟨JR,JG,JM,JS⟩,Gf RL EX j3 j4 uf iO nH,Yt⟩,bM X G JF,EX,by
  intro f hf;simp only[mem_cons,not_mem_nil,or_false]at hf;obtain rfl|rfl|rfl|rfl|rfl:=hf
  .exact j3
  .exact j4
  .exact uf
  .exact iO
  .exact nH⟩
 have cM:CLA P w K mg base ja:=⟨⟨_,_,⟨EA,Eo,Eu,EB⟩,DK U2 LU gU dJ nI,Gm Et⟩,bM X G En,LU,by
  intro f hf;simp only[mem_cons,not_mem_nil,or_false]at hf;obtain rfl|rfl|rfl:=hf
  .exact gU
  .exact dJ
  .exact nI⟩
 have oP:=TB Hv T TG qm aV aZ gL aN;have fb:=ML pB EX j3 aZ;have oX:=TF Hs T js ib aZ oN kR oO oP fb;have dY:=PU (P:=P) (w:=w) (base:=base) EL T;have c6:=PV (P:=P) (w:=w) (base:=base) vX T;have fA:=PX ER dY;have jN:=PY (P:=P) (w:=w) (base:=base) Ao T;have rQ:=PZ JT T jN;have fm:=P2 pA EX j4 uf iO T dY fA c6;have oW:=QL (P:=P) (w:=w) (base:=base) Ho T;have aK:=Jh (P:=P) (w:=w) (base:=base) NI VD;have gO:=M5 Ap T aK;have nk:=Qt EW T fi aK;have kW:=M6 Bd T aN aK;have dA:=XY JY T fi aK;have rL:=XZ JW T aN dA aK;have rM:=X1 JX T aN dA aK;have uO:=aaO NK T aN dA aK;have oU:=Ug Hr T aN uO rL rM aK;have d9:=QB (P:=P) (w:=w) (base:=base) vZ T;have kX:=Uh (P:=P) (w:=w) (base:=base) Bc T;have ni:=Ui EV T fA;have uS:=Nh (P:=P) (w:=w) (base:=base) NM T;have jR:=Uj Aq T d9 uS;have gP:=Ul ug T aN jR ni;have rP:=Us JV T js ib aK kW nk oU c6 gO kX gP aN jT;have uU:=Ux NN T NCF VD cM jT oX rP rQ fm;have i5:=QM (P:=P) (w:=w) (base:=base) vY T;have fE:=QN qG T i5;have zR:=QO RJ T oW;exact Yc VS T cM jT aN uU fE zR
end Pd
end
structure PySem.W.Fast:Prop where(tw17144230750336024787 tw11287092476268890460 tw12636344248032366623 tw7853114492039718884 tw11716353362075201610 tw7473041090771798546 tw17868198611409892010 tw17266715497569527571 tw8932827301004117032 tw2345349738026571849 tw11867576559039135680 tw16254385463082426220 tw16540505285983011679 tw2540114341339898677 tw16428514761570600271 tw8151004721536977398 tw11678770724207389854 tw6821200369875974623 tw9056963543073686284 tw11518316602966705263 tw4638700061404741062 tw7503862742129884151 tw15733392428335455675 tw7956847173176445622 tw17424623894763294024 tw13054918539833155185 tw11332444095825063244 tw7967865094084533317 tw3039781457190252194 tw14354083249474399993 tw3880094959693160084 tw1327739079369908229 tw2470444151145249862 tw9512887865786545974 tw17634695078176445613 tw6604560674135847520 tw7927195484184820152 tw4567619433744042626 tw992938550099622821 tw16397950519331320311 tw6881269684139862986 tw15828365326321805014 tw796634314651393613 tw15696327946301960439 tw11296270585172199546 tw16489831029465730178 tw5955465388236795419 tw4825347025213159063 tw3894069874658586303 tw12183887457473474454 tw244599903400823815 tw18361847711342562270 tw1542272412189507575 tw6998995741716515924 tw15052755393107042376 tw18330993458184149034 tw796637212306510134 tw16783690981202972405 tw10942181855394598331 tw15079723165259074543 tw564938502834620800 tw949092792638295693 tw6875510768790766536 tw10896229609034878240 tw7283373753935192903 tw16910306819585346086 tw8366430091387567270 tw12169180539745016346 tw1794184655824505399 tw5973056388064276400 tw17832304140049081283 tw13210059636416191447 tw17607240799160190353 tw10833494018141569149 tw4360939579919369249 tw16392718949788063234 tw5854358859830887561 tw11566998874868111291 tw4781958242642949618 tw16872394785058401751 tw8733790718858999839 tw2469334018454189410 tw4582646579089946008 tw17499031892536410488 tw622744117771876983 tw4184188987360086666 tw12987474322445420111 tw6744094630631778109 tw14594880715678121358 tw12119559645598877078 tw5662694450419589219 tw7302727788383968493 tw18016478597933047854 tw7667648483584485483 tw11225223335334054050 tw11031778628000198718 tw743225300151123830 tw15122188070135548403 tw17656503410092697540 tw12236402445993335718 tw1528877841665625855 tw13955428812506422190 tw14567297098823448407 tw6854617891984795382 tw6331358486809571573 tw2300400471517615295 tw15850234153027519112 tw14812170919185121990 tw15057752312958231059 tw17081300639180651663 tw7294214951618169925 tw9584164815956742944 tw4066207914061996525 tw13389002474748143900 tw17516296627909371902 tw16851659274127709294 tw2090257880827076622 tw4279607770793926676 tw16383779045293069495 tw6919701436316555016 tw13888736339738344925 tw10391686419853752007 tw7462004875029869406 tw17856597670696526923 tw18029020036947342846 tw17417346471012271939 tw3312397359312269327 tw10431148488574359492 tw9400864617091907518 tw16820681930700408879 tw13656397308034563398 tw6114773586995394555 tw11742575477553680959 tw3299293117207365084 tw14189633363951318301 tw185447090158745970 tw9773699034415061543 tw3631310492183448439 tw4969166019666439361 tw1986092770999437551 tw8605298147097745193 tw11721463074015656477 tw854229420112424454 tw7282944289150789059 tw8526081601383179306 tw10774330835334726487 tw8923014796585368805 tw522490542337306224 tw1913733229234856905 tw1212699773986973877 tw12299442900565417407 tw2372860842295479456 tw25161643796799578 tw8540417445680957886 tw6465644459420162821 tw11040475905185942301 tw8625102635074835665 tw6768329613021954150 tw362835457163012418 tw13247484122073488264 tw14964114164097044401 tw15717845700191354368 tw4645659246297767032 tw27103909688565576 tw5639822724850759946 tw13550693993323135791 tw3171555942327031422 tw771580542580145835 tw10613150271984689127 tw15909525583180621865 tw10102080016050458417 tw29124427106193769 tw17317629823658954335 tw18422485978307515280 tw12798445488156088799 tw508045008275384233 tw9676980223510615779 tw7204761610475452494 tw13614838284506469138 tw3694860697121070049 tw16552821019185890041 tw464965319991370690 tw2481497069080678580 tw17380865740187442100 tw15501223209181018101 tw15396293957180974176 tw12262925470541821262 tw16913325174647889272 tw18242088455973645239 tw542112285434381161 tw8546451295987387708 tw5150894330897441029 tw6824684260255709118 tw13623522022438122257 tw4394088994647314051 tw533073592554156909 tw13827005180590976031 tw12698444554768781832 tw788314283266556516 tw5176613220501647092 tw11960832451933924132 tw18105073805497281398 tw8926077198632200041 tw12631840992494421947 tw2983887986915649724 tw13770330117517117421 tw11959192566735674659 tw5463015459114832378 tw12105183063120913184 tw15085023764632101130 tw17961888279504816813 tw5119675065423805088 tw7128433094477541167 tw1051201995038223476 tw6458512038217425907 tw14682389356262384802 tw14252456642894111697 tw5917254207779533231 tw7694836153697841595 tw1157307628791738431 tw11829397451325968761 tw15641275467174811778 tw17523351092830852846 tw4853280189930751915 tw6692098189363667502 tw12763460574765016328 tw17118375394451006746 tw7930665891160588585 tw18257415463655430221 tw7571957999491243233 tw13284307035379221654 tw3830539195404851208 tw5474305930154797443 tw2958990560838925545 tw15866986773725852401 tw846053405008976155 tw13324547967311738257 tw13305408982422746808 tw9162634870127245787 tw12935037205467516436 tw9200770372888063564 tw10439582949432624193 tw15273899922324389979 tw2334238808242612919 tw6201864308486272325 tw14407611826257286636 tw8277339298901390953 tw3442878930486743216 tw649376001293437870 tw6917572869529356023 tw8679241578460305515 tw8190922980547103467 tw16500593176943137555 tw18043805108457732246 tw794054129968518491 tw5776560741550722798 tw14329451699690448124 tw5116945282892643556 tw13041572309649215208 tw17684068773215694182 tw421291833233021464 tw14171211262823357440 tw13339352720411681010 tw7678289727448015403 tw662875514556319907 tw5716514452603380889 tw797828416135364487 tw1397369995807336659 tw17484825242867319444 tw9067293643027891379 tw1587538651101781760 tw13391112256148463367 tw4837962062830987933 tw11229736740982143949 tw2857500468484029772 tw8922373304925080124 tw7608987564742485627 tw3020614639242008166 tw17565003379302454858 tw12374404838371951353 tw3207559255568205966 tw18436608546085485716 tw15131302584601743167 tw166532956376371284 tw13180419484474687503 tw9674453362789287830 tw9568330064906316669 tw17390731317777701644 tw16444801007663187724 tw5591657824268282358 tw12355120897441496017 tw9588309815482504605 tw14266158607130138199 tw16369164503399596039 tw3728783005702027228 tw4179563783843173174 tw15197108016580578408 tw13385700730271815582 tw16328934260755205172 tw13634110849088240043 tw11380604929992749511 tw5057147898165936009 tw2226967193347574582 tw7337362707719217306 tw9599768595043942510 tw7685222960010609391 tw9451286422967227295 tw13859073755267206414 tw7292555995859320472 tw3840174834189617423 tw1155829700555830138 tw16740942048102722211 tw2833783864965141526 tw14533788008337147465 tw14189043631737509359 tw2026011419746718850 tw4621673383793879571 tw1187003909173040676 tw4051076148416404291 tw1133062196223525202 tw17955205874747631844 tw4173093163600147352 tw7627903448183328834 tw1376987136460609649 tw874659652789421832 tw9721310508870291687 tw2117640980795420595 tw73509180946067800 tw7566167869913048650 tw10107371219457293077 tw3524189085322781330 tw17133814655179794747 tw16519077160195398581 tw3911995119806735746 tw15693854741660508674 tw7722481315933382541 tw971214440379660245 tw12698788810636747631 tw333396042828697739 tw12353042380322971405 tw691442163735795975 tw2237754380272411589 tw1707133469881995638 tw11214879989779392871 tw1783823063960155895 tw4401229171495392428 tw17820815008362148543 tw1184328879148162723 tw8616767593518808056:True)
open PySem PySem.W PyProof.Rows
set_option maxRecDepth 100000 in
set_option maxHeartbeats 0 in
theorem PySem.Challenge.cw_poolday_s07_bet_holds : PySem.Challenge.rw_poolday_s07_bet.Holds := by
 w_on;k_headS;(case hw=>exact⟨[.list [],.list [],.list []],by decide+kernel,by decide+kernel⟩)
 k_fillS
 refine L2.Ie (r:=PySem.Challenge.rw_poolday_s07_bet) (k:=7) (CX:=L2.eJ) (ps:= ["card","bet","money"]) (sp:=Pd.QR) (by decide+kernel) rfl rfl ⟨rfl,by decide,by decide⟩ (fun w h Y=>PySem.W.kIn_of Y) ?F ?S (fun _ _ _ _ z=>z)
 case F=>
  intro w mg fa h Y KX G hmg;refine' Pd.all_mk KX G hmg ?rV ?jX ?o8 ?z9 ?fq ?i6 ?nB ?nD ?kZ ?fF ?i7 ?i9 ?nE ?u5 ?u6 ?rW ?u9 ?o9 ?u_ ?rX ?jY ?k9 ?nF ?o_ ?vd ?rY ?rZ ?r9 ?gS ?jZ ?ve ?z_ ?i_ ?pd ?ph ?k_ ?pj ?pq ?gT ?ft ?Rg ?vf ?gD ?gE ?h_ ?lW ?lX ?di ?fG ?gF ?fH ?d7 ?fI ?gG ?gH ?d8 ?eY ?eZ ?iK ?gI ?iL ?fJ ?dj ?dN ?tL ?yQ ?f9 ?F0 ?b_ ?qO ?gJ ?BX ?jL ?BZ ?tM ?yR ?El ?Em ?Rk ?Rl ?Rn ?Ro ?Rp ?Rq ?Rt ?Ru ?Rv ?Rw ?Rx ?Ry ?qz ?nG ?qA ?jo ?Aa ?Ab ?JF ?JG ?JI ?JK ?JL ?JM ?JN ?JO ?JP ?JQ ?JR ?JS ?j3 ?j4 ?uf ?iO ?nH ?En ?Eo ?Ep ?Er ?Es ?Et ?Eu ?Ew ?Ex ?Ey ?Ez ?EA ?EB ?gU ?dJ ?nI ?EC ?ED ?EE ?Ac ?Ad ?Ae ?Af ?EF ?EH ?EI ?Ag ?Ah ?Ai ?Aj ?Ak ?Al ?Am ?An ?EJ ?EK ?nJ ?nO ?nP ?lj ?ll ?lq ?lu ?lz ?lB ?lC
  (case rV=>apply L2.dh<;>k_is)
  (case jX=>apply L2.dh<;>k_is)
  (case o8=>apply L2.dh<;>k_is)
  (case z9=>apply L2.dh<;>k_is)
  (case fq=>apply L2.dh<;>k_is)
  (case i6=>apply L2.dh<;>k_is)
  (case nB=>apply L2.dh<;>k_is)
  (case nD=>apply L2.dh<;>k_is)
  (case kZ=>apply L2.dh<;>k_is)
  (case fF=>apply L2.dh<;>k_is)
  (case i7=>apply L2.dh<;>k_is)
  (case i9=>apply L2.dh<;>k_is)
  (case nE=>apply L2.dh<;>k_is)
  (case u5=>apply L2.dh<;>k_is)
  (case u6=>apply L2.dh<;>k_is)
  (case rW=>apply L2.dh<;>k_is)
  (case u9=>apply L2.dh<;>k_is)
  (case o9=>apply L2.dh<;>k_is)
  (case u_=>apply L2.dh<;>k_is)
  (case rX=>apply L2.dh<;>k_is)
  (case jY=>apply L2.dh<;>k_is)
  (case k9=>apply L2.dh<;>k_is)
  (case nF=>apply L2.dh<;>k_is)
  (case o_=>apply L2.dh<;>k_is)
  (case vd=>apply L2.dh<;>k_is)
  (case rY=>apply L2.dh<;>k_is)
  (case rZ=>apply L2.dh<;>k_is)
  (case r9=>apply L2.dh<;>k_is)
  (case gS=>apply L2.dh<;>k_is)
  (case jZ=>apply L2.dh<;>k_is)
  (case ve=>apply L2.dh<;>k_is)
  (case z_=>apply L2.dh<;>k_is)
  (case i_=>apply L2.dh<;>k_is)
  (case pd=>apply L2.dh<;>k_is)
  (case ph=>apply L2.dh<;>k_is)
  (case k_=>apply L2.dh<;>k_is)
  (case pj=>apply L2.dh<;>k_is)
  (case pq=>apply L2.dh<;>k_is)
  (case gT=>apply L2.dh<;>k_is)
  (case ft=>apply L2.dh<;>k_is)
  (case Rg=>apply L2.dh<;>k_is)
  (case vf=>apply L2.dh<;>k_is)
  (case gD=>k_is)
  (case gE=>k_is)
  (case h_=>k_is)
  (case lW=>k_is)
  (case lX=>k_is)
  (case di=>k_is)
  (case fG=>k_is)
  (case gF=>k_is)
  (case fH=>k_is)
  (case d7=>k_is)
  (case fI=>k_is)
  (case gG=>k_is)
  (case gH=>k_is)
  (case d8=>k_is)
  (case eY=>k_is)
  (case eZ=>k_is)
  (case iK=>k_is)
  (case gI=>k_is)
  (case iL=>k_is)
  (case fJ=>k_is)
  (case dj=>k_is)
  (case dN=>k_is)
  (case tL=>k_is)
  (case yQ=>k_is)
  (case f9=>k_is)
  (case F0=>k_is)
  (case b_=>k_is)
  (case qO=>k_is)
  (case gJ=>k_is)
  (case BX=>k_is)
  (case jL=>k_is)
  (case BZ=>k_is)
  (case tM=>k_is)
  (case yR=>k_is)
  (case El=>k_is)
  (case Em=>k_exc)
  (case Rk=>k_is)
  (case Rl=>k_is)
  (case Rn=>k_is)
  (case Ro=>k_is)
  (case Rp=>k_is)
  (case Rq=>k_is)
  (case Rt=>k_is)
  (case Ru=>k_is)
  (case Rv=>k_is)
  (case Rw=>k_is)
  (case Rx=>k_is)
  (case Ry=>k_is)
  (case qz=>k_is)
  (case nG=>k_is)
  (case qA=>k_is)
  (case jo=>k_is)
  (case Aa=>k_is)
  (case Ab=>k_exc)
  (case JF=>k_is)
  (case JG=>k_is)
  (case JI=>k_is)
  (case JK=>k_is)
  (case JL=>k_is)
  (case JM=>k_is)
  (case JN=>k_is)
  (case JO=>k_is)
  (case JP=>k_is)
  (case JQ=>k_is)
  (case JR=>k_is)
  (case JS=>k_is)
  (case j3=>k_is)
  (case j4=>k_is)
  (case uf=>k_is)
  (case iO=>k_is)
  (case nH=>k_is)
  (case En=>k_is)
  (case Eo=>k_is)
  (case Ep=>k_is)
  (case Er=>k_is)
  (case Es=>k_is)
  (case Et=>k_is)
  (case Eu=>k_is)
  (case Ew=>k_is)
  (case Ex=>k_is)
  (case Ey=>k_is)
  (case Ez=>k_is)
  (case EA=>k_is)
  (case EB=>k_is)
  (case gU=>k_is)
  (case dJ=>k_is)
  (case nI=>k_is)
  (case EC=>k_is)
  (case ED=>k_is)
  (case EE=>rfl)
  (case Ac=>rfl)
  (case Ad=>rfl)
  (case Ae=>rfl)
  (case Af=>rfl)
  (case EF=>k_is)
  (case EH=>k_is)
  (case EI=>rfl)
  (case Ag=>rfl)
  (case Ah=>k_is)
  (case Ai=>rfl)
  (case Aj=>k_is)
  (case Ak=>rfl)
  (case Al=>k_is)
  (case Am=>rfl)
  (case An=>k_is)
  (case EJ=>k_is)
  (case EK=>k_is)
  (case nJ=>k_is)
  (case nO=>k_is)
  (case nP=>rfl)
  (case lj=>rfl)
  (case ll=>rfl)
  (case lq=>rfl)
  (case lu=>rfl)
  (case lz=>rfl)
  (case lB=>rfl)
  (case lC=>rfl)
 case S=>
  intro K H xs a hO hwi aeb hx;obtain⟨card,bet,money,u⟩:=a;cases hx with
  |cons h1 hx=>
  cases hx with
  |cons h2 hx=>
  cases hx with
  |cons h3 hx=>
  cases hx;cases h1 with
  |lst s1 d1=>
  cases h2 with
  |lst s2 d2=>
  cases h3 with
  |lst s3 d3=>
  have e1:=L2.w8 card _ d1;subst e1;have e2:=L2.w8 bet _ d2;subst e2;have e3:=L2.w8 money _ d3;subst e3;have hw:((Codec.inLen 0 66000 card&&card.all (Codec.inInt 0 255))&&((Codec.inLen 0 4200 bet&&bet.all (Codec.inInt 0 255))&&((Codec.inLen 0 16000 money&&money.all (Codec.inInt 0 18446744073709551615))&&true)))=true:=hwi;simp only[Bool.and_eq_true,all_eq_true,Codec.inInt_iff,Codec.inNat_iff]at hw;have hev:money.length%2=0:=Pd.UR (card:=card) (bet:=bet) aeb;refine⟨_,_,_,card,bet,money,rfl,s1,hw.1.2,(Codec.inNat_iff.mp hw.1.1).2,s2,hw.2.1.2,(Codec.inNat_iff.mp hw.2.1.1).2,s3,(Codec.inNat_iff.mp hw.2.2.1.1).2,hev,fun ans H' p ha hp=>?_⟩;show L2.Dw K H' (.ref p) (.list ((PyWqaqcm.bet card bet money).map WData.int));rw[Pd.Ym hw.1.2 hw.2.1.2 (fun x hx=>(hw.2.2.1.2 x hx).1) hev ha];exact .lst (L2.aJ.of hp) (L2.Kl _)
