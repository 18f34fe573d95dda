import PyProof.Rows.All
import Wide.All
import OpenK.AllK
import Wide.FinOn
import PyProof.EqAt
import PyProof.EqKinds
import PyProof.TupleCall
import KE.BitLaws
import Open.SpecLaws
import KE.OsHead
import KE.OsGo
import KE.KDictSum
import PyProof.Rows.SortShellAny
import KE.KSortTupUse
import PySem.Challenge.RW_poolday_s04_put
local macro_rules|`(⋯)=>`(by decide)
local macro_rules|`(())=>`(by omega)
local macro_rules|`(∅)=>`(by simp)
local macro_rules|`(‹$x›)=>`(by simpa using $x)
set_option linter.all false
set_option Elab.async false
set_option maxHeartbeats 3200000
set_option maxRecDepth 100000
local macro_rules | `(tactic| omega) => `(tactic| first | lia | omega (config := {}))
set_option hygiene false
local macro_rules | `(tactic| obtain $p := $e) => `(tactic| (refine Classical.byContradiction λnG9 => ?_; obtain $p : _ := $e <;> (refine nG9 ?_; clear nG9)))
set_option hygiene true
variable {α β:Type} {w:PySem.World} {K:PySem.W.Frag} {s:PySem.Shared} {P prog:PySem.Program} {a NC f b Cp l z NB D i1 i2 it l1 l2 dx Ca:PySem.Addr} {pos apos C6:PySem.Pos} {A:PySem.Around} {mg:PySem.Str->Option PySem.Value} {base h h':PySem.Heap} {i j ep t' c kk:Nat} {x qual name:PySem.Str} {t:PySem.SetTable} {pins:List (PySem.Addr×PySem.Obj)} {e tg iter elt:PySem.Expr} {E Q:PySem.Value->PySem.Shared->Prop} {u pm ct:PySem.Value} {us vs:List PySem.Value} {ps N:List PySem.Str} {scope:PySem.Scope} {rs ks:List (List Int)} {es:Array (Int×PySem.Value)} {fd:PySem.FuncData} {st:PySem.Stmt} {r row codes:List Nat} {ns:List Int} {ys items:Array PySem.Value} {M:PySem.Model} {op:PySem.CmpOp} {ch:List PySem.Addr} {T:String} {own:List (PySem.Str×Nat)} {an:Option PySem.Addr} {ifs elts:List PySem.Expr}
open List
set_option bootstrap.genMatcherCode false
set_option genSizeOf false
def aj:=@PySem.wpAny_bind
def af:=@if_neg
def ag:=@if_pos
def bH:=@Bool.and_eq_true
def az:=@List.length_map
def ay:=@PySem.wpAny_pure
def bt:=@List.getElem?_eq_getElem
def bQ:=@PySem.Heap.get?_push_of_some
def jf:=@decide_eq_true_eq
def aL:=@Nat.le_refl
def bw:=@PySem.Heap.get?_push_size
def aN:=@PySem.Heap.lt_size
def bg:=@List.mem_of_getElem?
def aY:=@List.length_cons
def aX:=@Nat.le_trans
def aZ:=@List.getElem?_map
def b_:=@Bool.false_ne_true
def cT:=@List.getD_eq_getElem?_getD
def bI:=@List.mem_cons_of_mem
def aI:=@List.map_cons
def cN:=@Array.length_toList
def dv:=@Array.getElem?_toList
def bN:=@PySem.boot_len
def bB:=@Nat.ne_of_lt
def bO:=@PySem.W.mg_of
def c9:=@List.length_append
def b8:=@List.mem_cons_self
def dU:=@Nat.lt_of_lt_of_le
def cU:=@decide_eq_false
def cO:=@List.size_toArray
def iX:=@Array.getElem?_eq_getElem
def jD:=@PyProof.Rows.callWith_type1
def fT:=@PySem.mem_of_lookup
def gm:=@Int.toNat_natCast
def cz:=@Nat.zero_le
def dy:=@List.all_eq_true
def dW:=@PySem.Heap.size_push
def cG:=@PySem.sizeLine_eq
def cP:=@List.length_take
def kH:=@PySem.Heap.get?_update_other
def g9:=@List.append_assoc
def C7:=@Bool.or_eq_true
def fF:=@List.map_congr_left
def iY:=@PySem.W.mg_none_of
def g_:=@PySem.wpAny_call_entry
def dX:=@List.length_drop
def da:=@PySem.wpAny_mono
def jE:=@PySem.wpAny_Call_Name_kw
def jF:=@PySem.Obj.data_mapFields
def cb:=@congrArg
def md:=@PySem.Heap.get?_update_self
def kI:=@PySem.Heap.SameBut.update
def bP:=@List.map_map
def hU:=@PySem.PassesOwn.never
def kJ:=@beq_iff_eq
def hX:=@decide_eq_true
def jG:=@PySem.wpAny_newObj_type
def jH:=@PySem.wpAny_setState_of
def et:=@List.take_length
def Ov:=@Bool.false_eq_true
def jI:=@List.length_replicate
def gn:=@PySem.wpAny_holding
def og:=@PySem.Obj.isFreed_of_fields
def x4:=@Array.getD_eq_getD_getElem?
def qW:=@PySem.wpAny_callSpecial?_slot
def me:=@PySem.Calls.spliced_cons
def oh:=@List.drop_eq_getElem_cons
def fG:=@PySem.wpAny_field
def eC:=@List.map_append
def jJ:=@Bool.eq_iff_iff
def kK:=@Nat.lt_succ_self
def qX:=@Array.getElem?_eq_none
def kL:=@Nat.le_add_right
def mh:=@PySem.wpAny_truthy_bool
def mj:=@Nat.lt_succ_of_lt
def iZ:=@Nat.lt_irrefl
def jK:=@List.filterMap_cons
def C8:=@Option.map_some
def kM:=@PySem.codeAny_builtin
def hZ:=@Nat.zero_add
def h_:=@List.append_nil
def fH:=@List.foldl_cons
def mm:=@List.mem_append_right
def mn:=@Nat.min_le_right
def uj:=@PySem.Calls.callWith_builtin
def qY:=@List.take_of_length_le
def C9:=@PySem.F.slot_tuple_iterator_next
def qZ:=@List.length_erase_of_mem
def oj:=@List.getElem?_eq_none
def om:=@List.length_filter_le
def kN:=@List.flatMap_cons
def mq:=@PySem.wpAny_setField
def mr:=@List.takeWhile_cons
def uk:=@List.getElem?_zip_eq_some
def um:=@List.Pairwise.filter
def q_:=@PySem.Calls.spliced_nil
def x5:=@PySem.F.plainAttrs_list
def oo:=@List.mem_of_mem_drop
def eY:=@List.all_cons
def iD:=@Nat.le_of_lt
def kc:=@List.replicate_succ
def sf:=@List.mem_cons
def sh:=@List.getElem?_append_right
def si:=@PySem.F.slot_dict_get
def sj:=@List.Pairwise.sublist
def mv:=@Nat.not_lt_zero
def pF:=@PySem.wpAny_loadPart'
def c6:=@Ne.symm
def jk:=@Nat.ne_of_gt
def jm:=@PySem.codeAny_mono
def sk:=@List.getElem?_append_left
def sq:=@PySem.Calls.evalArgs_plain
def sr:=@Nat.mul_le_mul_right
def su:=@Nat.pow_le_pow_right
def jn:=@Nat.succ_pos
def pG:=@Nat.lt_trichotomy
def ke:=@List.zip_cons_cons
def sv:=@Int.toNat_of_nonneg
def mw:=@List.dropWhile_cons
def mx:=@PySem.wpAny_seqItems
def my:=@List.getElem_of_mem
def wq:=@PySem.W.cellsFrom_some
def iE:=@PySem.call_meets
def pH:=@List.length_nil
def kg:=@Nat.pow_succ
def sx:=@List.length_range
def pI:=@Nat.min_eq_left
def sy:=@Bool.true_and
def wx:=@PySem.F.slot_zip_next
def wy:=@List.nodup_iff_pairwise_ne
def C_:=@if_false
def ki:=@PySem.Paired.snoc
def jo:=@List.mem_append
def mz:=@List.flatten_cons
def mB:=@Nat.mul_comm
def sA:=@Nat.add_zero
def sC:=@List.take_append_drop
def mC:=@List.pairwise_map
def wA:=@List.eq_of_mem_replicate
def Km:=@Bool.false_or
def pJ:=@List.getElem?_drop
def pK:=@PySem.plainId_quiet
def sE:=@PySem.wpAny_passesOwn
def sF:=@Int.natCast_mul
def pL:=@List.nil_append
def Kn:=@List.find?_cons
def wB:=@PySem.tupleKind_room_in1
def wC:=@Nat.lt_of_le_of_lt
def wD:=@Array.forIn_toList
def kj:=@Nat.mod_lt
def wF:=@Nat.eq_zero_or_pos
def SV:=@List.lookup_cons
def wG:=@PySem.Value.isInt_shape
def wH:=@Nat.le_of_succ_le
def wI:=@PySem.wpAny_pyIter_enum
def sG:=@List.toList_toArray
def wJ:=@PySem.Obj.cls_mapFields
def pM:=@List.nodup_append
def pN:=@List.foldl_append
def pO:=@List.set_set
def wK:=@List.drop_of_length_le
def pP:=@Int.zero_add
def wL:=@List.length_pos_of_mem
def pQ:=@List.ext_getElem?
def wM:=@PySem.wpAny_storeSet_of
def pR:=@List.filter_congr
def mD:=@PySem.typeIs_str
def mE:=@List.of_mem_zip
def wN:=@PySem.wpAny_isInstance
def wO:=@PySem.F.slot_str_split
def mF:=@List.length_zip
def wQ:=@List.getElem?_toArray
def wR:=@Array.toList_map
def sH:=@PySem.wpAny_attempt
def sI:=@Nat.mul_assoc
def sJ:=@List.mem_singleton
def pS:=@Nat.le_succ
def pU:=@List.any_eq_true
def pV:=@List.getElem_mem
def wU:=@List.mem_append_left
def wV:=@PySem.wpAny_execs_nil
def wW:=@PySem.pushCells_keeps
def wX:=@List.mem_erase_of_ne
def sL:=@Nat.le_of_eq
def sN:=@Nat.add_comm
def sO:=@Nat.lt_trans
def sP:=@PySem.wpAny_typeOf
def pW:=@List.filter_map
def wY:=@List.getElem?_range
def pX:=@PySem.intKind_is
def Dc:=@List.map_nil
def sQ:=@PySem.wpAny_throw
def wZ:=@List.filter_cons
def w6:=@Int.mul_assoc
def w8:=@List.filter_append
def w9:=@PySem.wpAny_newList
def w_:=@Bool.and_true
def xa:=@List.filter_filter
def Ko:=@Nat.sub_self
def xc:=@Nat.mul_one
def xf:=@Nat.one_mul
def xg:=@Int.add_mul
namespace L2
open PySem PySem.Spec PyProof.Rows
abbrev Key:=Sum Int Str
noncomputable def gX:Key->Value->Bool
 |.inl k,v=>Value.isInt k v|.inr x,v=>Value.isStrOf x v
noncomputable def nY(w:World):Key->Int
 |.inl k=>hashInt k|.inr x=>hashStr w x
def cR:∀{k}{v},gX k v=true->(∃i t,k=Sum.inl i/\v=Value.int i t)\/(∃x t,k=Sum.inr x/\v=Value.str x t)
 |.inl i,v,h=>by
  obtain⟨t,e⟩:=wG (v:=v) h;exact .inl ⟨i,t,rfl,e⟩
 |.inr x,v,h=>by
  obtain⟨t,e⟩:=Value.isStrOf_shape (v:=v) h;exact .inr ⟨x,t,rfl,e⟩
def Bu i t:gX (.inl i) (.int i t)=true:=by simp[gX,Value.isInt]
def Mr x t:gX (.inr x) (.str x t)=true:=by simp[gX,Value.isStrOf]
def Wl a b:decide ((Sum.inl a:Key)=Sum.inl b)=(a==b):=by
 by_cases e:a=b
 .subst e;simp
 .have h:¬(Sum.inl a:Key)=Sum.inl b:=λq=>e (Sum.inl.inj q);rw[cU h];exact(beq_eq_false_iff_ne.mpr e).symm
def Wm a b:decide ((Sum.inr a:Key)=Sum.inr b)=decide (a=b):=by
 by_cases e:a=b
 .subst e;simp
 .have h:¬(Sum.inr a:Key)=Sum.inr b:=λq=>e (Sum.inr.inj q);rw[cU h,cU e]
def Wn a b:decide ((Sum.inl a:Key)=Sum.inr b)=false:=cU (λq=>nomatch q)
def Wo a b:decide ((Sum.inr a:Key)=Sum.inl b)=false:=cU (λq=>nomatch q)
noncomputable def bK(prog:Program)(w:World):PySem.KeyKind prog w Key where
 is:=gX
 hash:=nY w
 inj:=λv a b ha hb=>by
  obtain⟨i,t,rfl,rfl⟩|⟨x,t,rfl,rfl⟩:=cR ha
  .obtain⟨j,u,rfl,e⟩|⟨y,u,rfl,e⟩:=cR hb
   .injection e with e1 _;rw[e1]
   .exact nomatch e
  .obtain⟨j,u,rfl,e⟩|⟨y,u,rfl,e⟩:=cR hb
   .exact nomatch e
   .injection e with e1 _;rw[e1]
 byValue:=λk v h=>by
  obtain⟨i,t,rfl,rfl⟩|⟨x,t,rfl,rfl⟩:=cR h<;>rfl
 pyHash:=λhv h=>by
  obtain⟨i,t,rfl,rfl⟩|⟨x,t,rfl,rfl⟩:=cR hv
  .exact wpAny_pyHash_int h
  .exact wpAny_pyHash_str h
 eqBool:=λhu hv h=>by
  obtain⟨i,t,rfl,rfl⟩|⟨x,t,rfl,rfl⟩:=cR hu
  .obtain⟨j,u,rfl,rfl⟩|⟨y,u,rfl,rfl⟩:=cR hv
   .rw[Wl]at h;exact wpAny_eqBool_int h
   .rw[Wn]at h;exact SeqAt.EqAt.int_str i t y u _ _ _ _ h
  .obtain⟨j,u,rfl,rfl⟩|⟨y,u,rfl,rfl⟩:=cR hv
   .rw[Wo]at h;exact SeqAt.EqAt.str_int x t j u _ _ _ _ h
   .rw[Wm]at h;exact wpAny_eqBool_str h
 «strs»:=λk x t v h=>by
  obtain⟨i,u,rfl,e⟩|⟨y,u,rfl,e⟩:=cR h
  .exact nomatch e
  .injection e with e1 _;subst e1;cases v<;>rfl
def Fv prog w i t:(bK prog w).is (.inl i) (.int i t)=true:=Bu i t
def Fw prog w x t:(bK prog w).is (.inr x) (.str x t)=true:=Mr x t
inductive V where
 |cV|bl (b:Bool)|int (i:Int)|str (x:Str)|HP (b:Array UInt8)|flt (b:UInt64)|ref (a:Addr)|ty (n:String)
 deriving DecidableEq
variable {v y:L2.V} {xs:List L2.V} {kvs:List (L2.Key×L2.V)}
def RelV:V->Value->Prop
 |.cV,u=>u=Value.none|.bl b,u=>u=Value.bool b
 |.int i,u=>∃t,u=Value.int i t|.str x,u=>∃t,u=Value.str x t
 |.HP b,u=>∃t,u=Value.bytes b t|.flt b,u=>∃t,u=Value.float b t
 |.ref a,u=>u=Value.ref a|.ty n,u=>u=Value.type n
abbrev Vals:List V->List Value->Prop:=Paired RelV
theorem Vals.length(r:Vals xs us):xs.length=us.length:=Paired.length r
def Paired.at'{F:α->β->Prop}:∀{l}{m}{i:Nat}{x},Paired F l m->l[i]?=some x->∃y,m[i]?=some y/\F x y:=by
 intro l m i x h
 induction h generalizing i with
 |nil=>intro e;simp at e
 |cons r t ih=>
  cases i with
  |zero=>intro e;cases e;exact⟨_,rfl,r⟩
  |succ i=>intro e;exact ih e
def Paired.Kp{F:α->β->Prop}:∀{l}{m}{i:Nat}{y},Paired F l m->m[i]?=some y->∃x,l[i]?=some x/\F x y:=by
 intro l m i x h
 induction h generalizing i with
 |nil=>intro e;simp at e
 |cons r t ih=>
  cases i with
  |zero=>intro e;cases e;exact⟨_,rfl,r⟩
  |succ i=>intro e;exact ih e
def Paired.drop'{F:α->β->Prop}:∀{l}{m} n,Paired F l m->Paired F (l.drop n) (m.drop n):=by
 intro l m n h
 induction h generalizing n with
 |nil=>cases n<;>exact .nil
 |cons r t ih=>
  cases n with
  |zero=>exact .cons r t|succ n=>exact ih n
def Paired.take'{F:α->β->Prop}:∀{l}{m} n,Paired F l m->Paired F (l.take n) (m.take n):=by
 intro l m n h
 induction h generalizing n with
 |nil=>cases n<;>exact .nil
 |cons r t ih=>
  cases n with
  |zero=>exact .nil|succ n=>exact .cons r (ih n)
def x6{F:α->β->Prop}:∀{l l2}{m m2},Paired F l m->Paired F l2 m2->Paired F (l++l2) (m++m2):=by
 intro l l2 m m2 h k
 induction h with
 |nil=>exact k|cons r t ih=>exact .cons r ih
def Paired.eQ{F:α->β->Prop}:∀{l}{m},Paired F l m->l.length=m.length:=by
 intro l m h
 induction h with
 |nil=>rfl|cons _ _ ih=>exact cb Nat.succ ih
def Vals.get{x}(h:Vals xs us)(e:xs[i]?=some x):∃u,us[i]?=some u/\RelV x u:=Paired.at' h e
def Vals.append{ys:List V}{ws:List Value}(h:Vals xs us)(k:Vals ys ws):Vals (xs++ys) (us++ws):=x6 h k
theorem Vals.take n (h:Vals xs us):Vals (xs.take n) (us.take n):=Paired.take' n h
theorem Vals.drop n (h:Vals xs us):Vals (xs.drop n) (us.drop n):=Paired.drop' n h
def rg:Option V->Option Value->Prop
 |some v,some u=>RelV v u|none,none=>True
 |_,_=>False
def KV{κ:Type}:List (κ×V)->List (κ×Value)->Prop:=Paired λ(p:κ×V)(q:κ×Value)=>p.1=q.1/\RelV p.2 q.2
noncomputable def kV:Key->V
 |.inl i=>.int i|.inr x=>.str x
inductive HO where
 |lst (xs:List V)
 |tup (xs:List V)
 |dK (kvs:List (Key×V))|dT (kvs:List (List Key×V))
 |set (S:Int->Bool) (n:Nat)
 |ins (C dx:Addr) (fs:List (Str×V))
 |own (x:Addr)
 |xd (fs:List (Str×V))
 |met (f x:Addr)
 |rng (lo hi:Int)
 |AI (o:Obj) (u:HO)
 |R_ (ps:Array Value)
 |ext(φ:Heap->Prop)
variable {o:L2.HO}
abbrev Hp:=Addr->Option HO
variable {H H' H1:L2.Hp} {Qd:L2.Hp->Prop}
noncomputable def upd(H:Hp)(a:Addr)(o:HO):Hp:=λb=>if b=a then some o else H b
def ak:upd H a o a=some o:=by unfold upd;rw[ag rfl]
def aB(h:b≠a):upd H a o b=H b:=by unfold upd;rw[af h]
def iF{u:HO}:upd (upd H a o) a u=upd H a u:=by
 funext b;unfold upd;split<;>rfl
def ZA{u:HO}(h:H a=some o)(h':H b=some u)(d:o≠u):a≠b:=by
 intro e;subst e;rw[h]at h';exact d (Option.some.inj h')
def bF(h:H a=some o)(h':H b=none):a≠b:=by
 intro e;subst e;rw[h]at h';cases h'
section
variable (P:Program) (w:World)
noncomputable def dF(H:Hp)(h:Heap)(a:Addr):HO->Prop
 |.lst xs=>xs.length<=sizeLine/\∃(aR:List Value) (n:Nat),Vals xs aR/\h.get? a=some {cls:=.type "list",data:=.seq aR.toArray n}|.tup xs=>xs.length<=sizeLine/\∃aR:List Value,Vals xs aR/\IsTup h a aR.toArray
 |.dK kvs=>kvs.length<=sizeLine/\(a==sysModules)=false/\∃vs,KV kvs vs/\h.DictOf (bK P w) a vs
 |.dT kvs=>kvs.length<=sizeLine/\(a==sysModules)=false/\∃xs:List (List Key×Addr×Value),
   Paired (λ(p:List Key×V)(q:List Key×Addr×Value)=>p.1=q.1/\H q.2.1=some (.tup (p.1.map kV))/\RelV p.2 q.2.2) kvs xs/\
   ∃o es ep,h.get? a=some o/\o.ExactDict/\o.data=.dict es ep/\es.toList=xs.map (entryOfKey (tupleKind (bK P w)))/\(xs.map (·.1)).Nodup
 |.set S n=>h.SetOf (intKind P w) a S n
 |.ins C dx fs=>H dx=some (.own a)/\fs.length<=1000/\dx≠a/\h.get? a=some (PySem.W.instObj C dx)/\
   ∃mA,h.Ns1 dx mA/\(∀f,rg (fs.lookup f) (mA f))/\PySem.Within mA (fs.map (·.1))
 |.own _=>∃o,h.get? a=some o|.xd fs=>∃mA,h.Ns1 a mA/\∀f,rg (fs.lookup f) (mA f)
 |.rng lo hi=>∃t u v,h.get? a=some {cls:=.type "range",data:=.fields #[.int lo t,.int hi u,.int 1 v]}|.AI o u=>h.get? a=some o/\dF H h a u
 |.R_ ps=>h.get? a=some {cls:=.none,data:=.fields ps}|.met f x=>h.get? a=some (PySem.W.methodObj (.ref f) (.ref x))
 |.ext φ=>φ h/\(∃o,h.get? a=some o)/\∀h1 h2:Heap,φ h1->(∀o,h1.get? a=some o->h2.get? a=some o)->φ h2
def mG(H:Hp)(h:Heap):Prop:=∀a o,H a=some o->dF P w H h a o
end
section
theorem dF.lt(x:dF P w H h a o):a<h.objs.size:=by
 cases o with
 |lst xs=>obtain⟨_,_,_,_,e⟩:=x;exact aN e
 |tup xs=>obtain⟨_,_,_,p⟩:=x;exact p.lt
 |dK kvs=>obtain⟨_,_,_,_,o,_,_,e,_⟩:=x;exact aN e
 |dT kvs=>obtain⟨_,_,_,_,o,_,_,e,_⟩:=x;exact aN e
 |set S n=>obtain⟨o,_,_,_,e,_⟩:=x;exact aN e
 |ins C dx fs=>obtain⟨_,_,_,e,_⟩:=x;exact aN e
 |own y=>obtain⟨_,e⟩:=x;exact aN e
 |xd fs=>obtain⟨_,⟨_,_,_,e,_⟩,_⟩:=x;exact aN e
 |rng lo hi=>obtain⟨_,_,_,e⟩:=x;exact aN e
 |AI ob u=>obtain⟨e,_⟩:=x;exact aN e
 |R_ ps=>exact aN (show h.get? a=some _ from x)
 |met f y=>exact aN (show h.get? a=some _ from x)
 |ext φ=>obtain⟨_,⟨_,e⟩,_⟩:=x;exact aN e
def Paired.fU{F G:α->β->Prop}:∀{l₁}{l₂},Paired F l₁ l₂->(∀a b,F a b->G a b)->Paired G l₁ l₂:=by
 intro l₁ l₂ h f
 induction h with
 |nil=>exact .nil|cons r t ih=>exact .cons (f _ _ r) ih
def dF.Fx(x:dF P w H h a o)(k:∀b u,(b=a\/H b=some (.own a))->h.get? b=some u->h'.get? b=some u)(ho:∀b,H b=some (.own a)->H' b=some (.own a))(ht:∀b xs,H b=some (.tup xs)->H' b=some (.tup xs)):dF P w H' h' a o:=by
 induction o with
 |lst xs=>obtain⟨z,aR,n,r,e⟩:=x;exact⟨z,aR,n,r,k _ _ (.inl rfl) e⟩
 |tup xs=>obtain⟨z,aR,r,ob,e,c⟩:=x;exact⟨z,aR,r,ob,k _ _ (.inl rfl) e,c⟩
 |dK kvs=>obtain⟨z,y,vs,r,ob,es,ep,e,c⟩:=x;exact⟨z,y,vs,r,ob,es,ep,k _ _ (.inl rfl) e,c⟩
 |dT kvs=>
  obtain⟨z,y,xs,r,ob,es,ep,e,c⟩:=x;exact⟨z,y,xs,Paired.fU r λp q z=>⟨z.1,ht _ _ z.2.1,z.2.2⟩,ob,es,ep,k _ _ (.inl rfl) e,c⟩
 |set S n=>obtain⟨ob,es,ep,t,e,c⟩:=x;exact⟨ob,es,ep,t,k _ _ (.inl rfl) e,c⟩
 |ins C dx fs=>
  obtain⟨d,z,ne,e,mA,⟨od,es,ep,e2,c⟩,r⟩:=x;exact⟨ho _ d,z,ne,k _ _ (.inl rfl) e,mA,⟨od,es,ep,k _ _ (.inr d) e2,c⟩,r⟩
 |own y=>obtain⟨ob,e⟩:=x;exact⟨ob,k _ _ (.inl rfl) e⟩
 |xd fs=>obtain⟨mA,⟨od,es,ep,e,c⟩,r⟩:=x;exact⟨mA,⟨od,es,ep,k _ _ (.inl rfl) e,c⟩,r⟩
 |rng lo hi=>obtain⟨t,u,v,e⟩:=x;exact⟨t,u,v,k _ _ (.inl rfl) e⟩
 |AI ob u ih=>obtain⟨e,q⟩:=x;exact⟨k _ _ (.inl rfl) e,ih q⟩
 |R_ ps=>
  have e:=x;exact k a _ (.inl rfl) e
 |met f y=>
  have e:=x;exact k a _ (.inl rfl) e
 |ext φ=>obtain⟨p,⟨o,e⟩,st⟩:=x;exact⟨st _ _ p λo q=>k _ _ (.inl rfl) q,⟨o,k _ _ (.inl rfl) e⟩,st⟩
theorem mG.lt(x:mG P w H h)(e:H a=some o):a<h.objs.size:=(x a o e).lt
def mG.fresh(x:mG P w H h)(e:h.objs.size<=a):H a=none:=by
 cases q:H a with
 |none=>rfl|some u=>exact absurd (dU (x.lt q) e) (iZ _)
def mG.kept(x:mG P w H h)(k:∀b u,h.get? b=some u->h'.get? b=some u):mG P w H h':=λa o e=>
 (x a o e).Fx (λb u _ q=>k b u q) (λ_ q=>q) λ_ _ q=>q
theorem mG.laid(x:mG P w H h)(k:∀b u,h.get? b=some u->h'.get? b=some u)(hp:h.objs.size<=a)(new:dF P w (upd H a o) h' a o):mG P w (upd H a o) h':=λb u e=>by
 have hn:=x.fresh hp;by_cases hb:b=a
 .subst hb;rw[ak]at e;cases e;exact new
 .rw[aB hb]at e;exact(x b u e).Fx (λc v _ q=>k c v q) (λc q=>by rw[aB (bF q hn)];exact q) λc xs q=>by rw[aB (bF q hn)];exact q
end
def Rd(H:Hp)(a:Addr)(u:HO):Prop:=H a=some u\/∃o,H a=some (.AI o u)
theorem Rd.ok{u:HO}(r:Rd H a u)(x:mG P w H h):dF P w H h a u:=by
 obtain r|⟨o,r⟩:=r
 .exact x a u r
 .obtain⟨_,q⟩:=x a _ r;exact q
def ZC:Option HO->Prop
 |some (.lst _)=>True|some (.dK _)=>True
 |some (.dT _)=>True|some (.set _ _)=>True
 |some (.ins _ _ _)=>True|some (.ext _)=>True
 |_=>False
section
variable {x e:Addr} {o':HO}
def mG.write(ok:mG P w H h)(mu:ZC (H x))(he:e=x\/H e=some (.own x))(k:∀b u,b≠e->h.get? b=some u->h'.get? b=some u)(YW:∃u,h'.get? e=some u)(new:dF P w (upd H x o') h' x o'):mG P w (upd H x o') h':=λb u q=>by
 have ZD:∀c y,H c=some (.own y)->c≠x:=λc y r z=>by subst z;rw[r]at mu;exact mu
 have acq:∀c xs,H c=some (.tup xs)->c≠x:=λc xs r z=>by subst z;rw[r]at mu;exact mu
 by_cases hb:b=x
 .subst hb;rw[ak]at q;cases q;exact new
 .rw[aB hb]at q;by_cases Wq:b=e
  .have q':H b=some (.own x):=by
    obtain z|z:=he
    .exact absurd (Wq.trans z) hb
    .rw[Wq];exact z
   rw[q]at q';cases q';obtain⟨v,hv⟩:=YW;exact⟨v,by rw[Wq];exact hv⟩
  .refine(ok b u q).Fx (λc v hc r=>k c v ?_ r) (λc r=>by rw[aB (ZD c b r)];exact r) λc xs r=>by rw[aB (acq c xs r)];exact r
   obtain rfl|hc:=hc
   .exact Wq
   .rintro rfl;obtain z|z:=he
    .exact ZD c b hc z
    .rw[hc]at z;cases z;exact hb rfl
end
structure Un(fs ex:List Addr)(H H':Hp)(h h':Heap):Prop where
 keep:∀b o,h.get? b=some o->H b=none->b∉fs->b∉ex->h'.get? b=some o
 slot:∀b o,h.get? b=some o->H b=none->b∈fs->b∉ex->∃sl,h'.get? b=some {o with slots:=sl}
 free:∀b o,h.get? b=some o->H b=none->b∉ex->H' b=none
 there:∀b o,h.get? b=some o->b∉ex->∃o',h'.get? b=some o'
 x8:∀b xs,H b=some (.tup xs)->H' b=some (.tup xs)
 vR:∀b o u,H b=some (.AI o u)->H' b=some (.AI o u)
 x9:∀b ps,H b=some (.R_ ps)->∃more,H' b=some (.R_ (ps++more))
section
variable {fs YX ex ex':List Addr} {H2:Hp} {h1 h2:Heap} {x e:Addr}
def Un.any(u:Un fs ex H H1 h h1)(q:h.get? b=some ob)(n:H b=none)(hx:b∉ex):∃sl,h1.get? b=some {ob with slots:=sl} :=by
 by_cases hb:b∈fs
 .exact u.slot b ob q n hb hx
 .exact⟨ob.slots,u.keep b ob q n hb hx⟩
def Un.kept(k:∀b u,h.get? b=some u->h'.get? b=some u):Un fs ex H H h h':=
 ⟨λb ob q _ _ _=>k b ob q,λb ob q _ _ _=>⟨ob.slots,k b ob q⟩,λ_ _ _ n _=>n,λb ob q _=>⟨ob,k b ob q⟩,λ_ _ q=>q,λ_ _ _ q=>q,λ_ ps q=>⟨#[],by rw[q];simp⟩⟩
def Un.refl:Un fs ex H H h h:=Un.kept λ_ _ q=>q
theorem Un.laid(k:∀b u,h.get? b=some u->h'.get? b=some u)(hp:h.objs.size<=a)(hn:H a=none):Un fs ex H (upd H a o) h h' where
 keep:=λb u q _ _ _=>k b u q
 slot:=λb u q _ _ _=>⟨u.slots,k b u q⟩
 free:=λb u q n _=>by rw[aB (bB (dU (aN q) hp))];exact n
 there:=λb u q _=>⟨u,k b u q⟩
 x8:=λb xs q=>by rw[aB (bF q hn)];exact q
 vR:=λb u xs q=>by rw[aB (bF q hn)];exact q
 x9:=λb ps q=>⟨#[],by rw[aB (bF q hn),q];simp⟩
def Un.write(mu:ZC (H x))(he:e=x\/H e=some (.own x))(k:∀b u,b≠e->h.get? b=some u->h'.get? b=some u)(YW:∃u,h'.get? e=some u):Un fs ex H (upd H x o) h h':=by
 have hx:∀b,H b=none->b≠x:=λb n z=>by subst z;rw[n]at mu;exact mu
 have hb:∀b,H b=none->b≠e:=λb n z=>by
  subst z;obtain r|r:=he
  .exact hx b n r
  .rw[n]at r;cases r
 have hm:∀b u,H b=some u->¬ZC (some u)->b≠x:=λb u q nm z=>by subst z;rw[q]at mu;exact nm mu
 refine⟨λb u q n _ _=>k b u (hb b n) q,λb u q n _ _=>⟨u.slots,k b u (hb b n) q⟩,λb u q n _=>by rw[aB (hx b n)];exact n,λb u q _=>?_,
  λb xs q=>by rw[aB (hm b _ q λz=>z)];exact q,λb u xs q=>by rw[aB (hm b _ q λz=>z)];exact q,λb ps q=>⟨#[],by rw[aB (hm b _ q λz=>z),q];simp⟩⟩
 by_cases Wq:b=e
 .subst Wq;exact YW
 .exact⟨u,k b u Wq q⟩
end
noncomputable def trk(h:Heap)(H:Hp):List Addr:=(List.range h.objs.size).filter λa=>(H a).isSome
noncomputable def Fy(h:Heap)(H:Hp):Heap:=PySem.W.hideAll h (trk h H)
def Ms h H:(Fy h H).objs.size=h.objs.size:=PySem.W.hideAll_size _ _
def Ow{o:Obj}(e:h.get? b=some o)(n:H b=none):(Fy h H).get? b=some o:=
 PySem.W.hideAll_get _ e λhm=>by
  have q:=(mem_filter.mp hm).2;rw[n]at q;simp at q
def SW{o:Obj}(e:(Fy h H).get? b=some o):h.get? b=some o/\H b=none:=by
 have e':=PySem.W.of_hideAll (trk h H) e;refine⟨e',?_⟩;cases q:H b with
 |none=>rfl
 |some x=>
  have hm:b∈trk h H:=mem_filter.mpr ⟨mem_range.mpr (aN e'),by simp[q]⟩;have z:(Fy h H).get? b=none:=PySem.W.hideAll_none (trk h H) hm;rw[z]at e;cases e
noncomputable def SX(g h:Heap)(L:Addr):List (Addr×Obj):=(List.range h.objs.size).filterMap λa=>if a=L\/(g.get? a).isSome=true then none else(h.get? a).map λo=>(a,o)
noncomputable def rest(g h:Heap)(L d:Addr):List (Addr×Obj):=(SX g h L).filter λp=>decide (p.1≠d)
structure Mod(K:PySem.W.Frag)(mg:Str->Option Value)(base:Heap):Prop where
 SY:K.In base
 glob:base.Ns mainGlobals mg
 blt:∃mb,base.Ns builtinsNs mb/\∀x:Str,x≠"__name__"->mb x=bootBuiltins x
 nolimit:base.NoLimit
set_option genInjectivity false in
structure Cx where
 prog:Program
 w:World
 K:PySem.W.Frag
 mg:Str->Option Value
 base:Heap
 A:Around
 N:List Str
 xi:Shared
 ZE:Hp
 env:Env
 outer:List Env
 stack:List Env
 ex:List Addr
 fn:Str->Bool
 calm:Bool
 pn:List (Addr×Obj)
 xe:Value->Shared->Prop
variable {X:L2.Cx}
noncomputable def Fn(l:List Env):List Addr:=l.filterMap (·.frame)
noncomputable abbrev Cx.fs(X:Cx):List Addr:=Fn X.outer
def ZF(sc:Scope)(x:Str):Prop:=sc.names.lookup x=some .local\/sc.names.lookup x=some .cell\/sc.names.lookup x=some .free
def Loc(sc:Scope)(x:Str):Prop:=sc.names.lookup x=some .local\/sc.names.lookup x=some .cell
def Look(env:Env)(h:Heap)(m:Str->Option Value)(x:Str)(u:Value):Prop:=
 (env.kindOf x=some .local/\m x=some u)\/((env.kindOf x=some .cell\/env.kindOf x=some .free)/\∃c,env.cells.lookup x=some c/\h.IsCell c (some u))
structure Cx.Ok(X:Cx):Prop where
 mod:Mod X.K X.mg X.base
 kind:X.env.scope.kind=.function
 glob:X.env.globals=mainGlobals
 blt:X.env.builtins=builtinsNs
 above:X.xi.heap.objs.size<=X.env.locals
 inj:∀x y c,X.env.cells.lookup x=some c->X.env.cells.lookup y=some c->x=y
 has:∀x,(X.env.kindOf x=some .cell\/X.env.kindOf x=some .free)->∃c,X.env.cells.lookup x=some c
 Wr:∀x c,X.fn x=true->X.env.cells.lookup x=some c->X.xi.heap.objs.size<=c
 hd:X.calm=true->X.A.handled=none
 frames:X.A.frames=some X.stack
 YY:X.stack=X.outer\/(X.stack=X.env::X.outer/\X.env.frame=some X.env.locals)
 YZ:∀b∈X.ex,b≠X.env.locals/\∀x c,X.env.cells.lookup x=some c->c≠b
 bs:∀b o,X.base.get? b=some o->X.xi.heap.get? b=some o/\X.ZE b=none
 Mt:X.base.objs.size<=X.xi.heap.objs.size
 H_:∀b o,X.base.get? b=some o->b∉X.ex
 Ia:∀b∈X.ex,b∉X.fs
 rh:X.xi.heap.FunFrames X.base X.outer
 Sb:∀b∈X.fs,X.ZE b=none
structure Inv(X:Cx)(pins:List (Addr×Obj))(σ:List (Option V))(H:Hp)(s:Shared):Prop where
 ok:X.Ok
 os:s.os=X.xi.os
 bare:AllBare s.gens
 base:Un X.fs X.ex X.ZE H X.xi.heap s.heap
 loc:∃m,s.heap.Ns X.env.locals m/\∀(i:Nat)(x:Str)(v:V),X.N[i]?=some x->σ[i]?=some (some v)->ZF X.env.scope x->∃u,RelV v u/\Look X.env s.heap m x u
 cell:∀x c,X.env.cells.lookup x=some c->∃v,s.heap.IsCell c v
 free:H X.env.locals=none
 iO:∀x c,X.env.cells.lookup x=some c->H c=none
 pin:∀p∈X.pn++pins,s.heap.get? p.1=some p.2/\H p.1=none/\p.1≠X.env.locals/\p.1∉X.fs/\∀v,p.2.data≠ .cell v
 bL:mG X.prog X.w H s.heap
 len:σ.length=X.N.length
section
variable {σ:List (Option V)}
def Cx.Ok.acr(ok:X.Ok){o:Obj}(e:X.base.get? b=some o):b∉X.fs:=λhb=>by
 have:=(ok.rh.mem hb).1;rw[e]at this;cases this
theorem Inv.bs(I:Inv X pins σ H s):∀b o,X.base.get? b=some o->s.heap.get? b=some o/\H b=none:=λb o e=>
 ⟨I.base.keep b o (I.ok.bs b o e).1 (I.ok.bs b o e).2 (I.ok.acr e) (I.ok.H_ b o e),I.base.free b o (I.ok.bs b o e).1 (I.ok.bs b o e).2 (I.ok.H_ b o e)⟩
def Inv.bk(I:Inv X pins σ H s):∀b o,X.base.get? b=some o->s.heap.get? b=some o:=λb o e=>(I.bs b o e).1
theorem Inv.mod(I:Inv X pins σ H s):Mod X.K X.mg X.base:=I.ok.mod
def Inv.Fo(I:Inv X pins σ H s):X.K.In s.heap:=I.ok.mod.SY.keeps I.bk
def Inv.fr(I:Inv X pins σ H s):∃m,Fr X.base X.env.locals s.heap m:=
 let⟨m,hn,_⟩:=I.loc
 ⟨m,hn,I.bk,aX I.ok.Mt I.ok.above⟩
theorem Inv.lt(I:Inv X pins σ H s):X.env.locals<s.heap.objs.size:=let⟨_,hn,_⟩:=I.loc;hn.lt
def Inv.sz(I:Inv X pins σ H s):X.xi.heap.objs.size<=s.heap.objs.size:=aX I.ok.above (iD I.lt)
def Inv.acs(I:Inv X pins σ H s)(h:s.heap.objs.size<=a):a∉X.fs:=λhb=>by
 obtain⟨_,o,ho,_⟩:=I.ok.rh.mem hb;exact absurd (dU (aN ho) (aX I.sz h)) (iZ _)
def Inv.S0(I:Inv X pins σ H s):∀x c,X.env.cells.lookup x=some c->c≠X.env.locals:=λx c e z=>by
 obtain⟨v,o,ho,hd⟩:=I.cell x c e;obtain⟨m,⟨o',es,ep,xj,Ib,_⟩,_⟩:=I.loc;rw[z,xj]at ho;cases ho;rw[Ib]at hd;cases hd
theorem Inv.rh(I:Inv X pins σ H s):s.heap.FunFrames X.base X.outer:=by
 have all:∀(l:List Env),(∀b∈Fn l,b∈X.fs)->X.xi.heap.FunFrames X.base l->s.heap.FunFrames X.base l:=by
  intro l
  induction l with
  |nil=>intro _ _;trivial
  |cons env r ih=>
   intro hs hl;obtain⟨hk,⟨L,o,hf,hn,ho,hd⟩,hr⟩:=hl;have hL:=hs L (by unfold Fn;rw[jK,hf];exact b8);obtain⟨sl,e⟩:=I.base.slot L o ho (I.ok.Sb L hL) hL λz=>I.ok.Ia L z hL;exact⟨hk,⟨L,_,hf,hn,e,hd⟩,ih (λb hb=>hs b (by unfold Fn;rw[jK,hf];exact bI _ hb)) hr⟩
 exact all X.outer (λ_ hb=>hb) I.ok.rh
theorem Inv.stack(I:Inv X pins σ H s):s.heap.FunFrames X.base X.stack:=by
 obtain e|⟨e,hf⟩:=I.ok.YY
 .rw[e];exact I.rh
 .rw[e];obtain⟨m,hn,_⟩:=I.loc;refine .cons (by rw[I.ok.kind];decide) hf hn ?_ I.rh;exact Heap.get?_none_of_le (aX I.ok.Mt I.ok.above)
def Inv.Dd(I:Inv X pins σ H s):∀b∈Fn X.stack,b∈X.env.locals::X.fs:=λb hb=>by
 obtain e|⟨e,hf⟩:=I.ok.YY
 .rw[e]at hb;exact bI _ hb
 .rw[e]at hb;unfold Fn at hb;rw[jK,hf]at hb;exact hb
def Inv.De(I:Inv X pins σ H s):∀b∈Fn X.stack,H b=none:=λb hb=>by
 obtain e|hb:=mem_cons.mp (I.Dd b hb)
 .rw[e];exact I.free
 .obtain⟨_,o,ho,_⟩:=I.ok.rh.mem hb;exact I.base.free b o ho (I.ok.Sb b hb) λz=>I.ok.Ia b z hb
def Inv.step(I:Inv X pins σ H s)(AX:∀b∈ch,(b∈X.ex\/X.xi.heap.objs.size<=b)/\b≠X.env.locals/\(∀x c,X.env.cells.lookup x=some c->c≠b)/\∀p∈X.pn++pins,p.1≠b)(keep:∀b o,b≠X.env.locals->b∉X.fs->b∉ch->s.heap.get? b=some o->H b=none->h'.get? b=some o)(slot:∀b o,b≠X.env.locals->b∈X.fs->b∉ch->s.heap.get? b=some o->H b=none->∃sl,h'.get? b=some {o with slots:=sl})(free:∀b o,b∉ch->s.heap.get? b=some o->H b=none->H' b=none)(there:∀b o,b∉ch->s.heap.get? b=some o->∃o',h'.get? b=some o')(x8:∀b xs,H b=some (.tup xs)->H' b=some (.tup xs))(vR:∀b o u,H b=some (.AI o u)->H' b=some (.AI o u))(x9:∀b ps,H b=some (.R_ ps)->∃more,H' b=some (.R_ (ps++more)))(ns:∀m,s.heap.Ns X.env.locals m->h'.Ns X.env.locals m)(bL:mG X.prog X.w H' h')(hg:AllBare g'):
  Inv X pins σ H' {s with heap:=h',gens:=g',drawn:=d',toks:=t'} :=by
 have ZG:∀b o,X.xi.heap.get? b=some o->b≠X.env.locals:=λb o e=>bB (dU (aN e) I.ok.above);have S2:∀b o,X.xi.heap.get? b=some o->b∉X.ex->b∉ch:=λb o e hx hb=>by
  obtain z|z:=(AX b hb).1
  .exact hx z
  .exact absurd (dU (aN e) z) (iZ _)
 have cellK:∀x c,X.env.cells.lookup x=some c->∀v,s.heap.IsCell c v->h'.IsCell c v:=λx c e v ⟨o,ho,hd⟩=>by
  have Ox:=λz=>(AX c z).2.2.1 x c e rfl;by_cases hc:c∈X.fs
  .obtain⟨sl,q⟩:=slot c o (I.S0 x c e) hc Ox ho (I.iO x c e);exact⟨_,q,hd⟩
  .exact⟨o,keep c o (I.S0 x c e) hc Ox ho (I.iO x c e),hd⟩
 refine⟨I.ok,I.os,hg,⟨λb o e n hb hx=>?_,λb o e n hb hx=>?_,λb o e n hx=>?_,λb o e hx=>?_,λb xs e=>x8 b xs (I.base.x8 b xs e),λb o xs e=>vR b o xs (I.base.vR b o xs e),λb ps e=>?_⟩,?_,λx c e=>?_,?_,λx c e=>?_,λp hp=>?_,bL,I.len⟩
 .exact keep b o (ZG b o e) hb (S2 b o e hx) (I.base.keep b o e n hb hx) (I.base.free b o e n hx)
 .obtain⟨sl,e1⟩:=I.base.slot b o e n hb hx;obtain⟨sl',e2⟩:=slot b _ (ZG b o e) hb (S2 b o e hx) e1 (I.base.free b o e n hx);exact⟨sl',e2⟩
 .obtain⟨o',e1⟩:=I.base.there b o e hx;exact free b o' (S2 b o e hx) e1 (I.base.free b o e n hx)
 .obtain⟨o',e1⟩:=I.base.there b o e hx;exact there b o' (S2 b o e hx) e1
 .obtain⟨m1,e1⟩:=I.base.x9 b ps e;obtain⟨m2,e2⟩:=x9 b _ e1;exact⟨m1++m2,by rw[e2,Array.append_assoc]⟩
 .obtain⟨m,hn,hl⟩:=I.loc;refine⟨m,ns m hn,λi x v e1 e2 e3=>?_⟩;obtain⟨u,r,l⟩:=hl i x v e1 e2 e3;refine⟨u,r,?_⟩;obtain l|⟨k,c,e,z⟩:=l
  .exact .inl l
  .exact .inr ⟨k,c,e,cellK x c e _ z⟩
 .obtain⟨v,z⟩:=I.cell x c e;exact⟨v,cellK x c e v z⟩
 .obtain⟨m,⟨o,_,_,ho,_⟩,_⟩:=I.loc;exact free _ o (λz=>(AX _ z).2.1 rfl) ho I.free
 .obtain⟨v,o,ho,hd⟩:=I.cell x c e;exact free c o (λz=>(AX c z).2.2.1 x c e rfl) ho (I.iO x c e)
 .obtain⟨e,n,ne,nf,d⟩:=I.pin p hp;have Ox:=λz=>(AX p.1 z).2.2.2 p hp rfl;exact⟨keep p.1 p.2 ne nf Ox e n,free p.1 p.2 Ox e n,ne,nf,d⟩
def Inv.un(I:Inv X pins σ H s)(u:Un X.fs [] H H' s.heap h')(bL:mG X.prog X.w H' h'):Inv X pins σ H' {s with heap:=h',toks:=t'} :=by
 obtain⟨m,⟨o,es,ep,ho,r⟩,_⟩:=id I.loc;obtain⟨sl,hL⟩:=u.any ho I.free ∅;exact I.step (g':=s.gens) (ch:=[]) (λ_ z=>nomatch z) (λb o _ hb _ e n=>u.keep b o e n hb ∅) (λb o _ hb _ e n=>u.slot b o e n hb ∅) (λb o _ e n=>u.free b o e n ∅) (λb o _ e=>u.there b o e ∅) u.x8 u.vR u.x9 (λm' hm=>by
  obtain⟨o',AJ,Mu,xj,r'⟩:=hm;rw[ho]at xj;cases xj;exact⟨_,AJ,Mu,hL,r'⟩) bL I.bare
def Inv.call(I:Inv X pins σ H s)(u:Un (Fn X.stack) ch H H' s.heap h')(bL:mG X.prog X.w H' h')(hg:AllBare g')(AX:∀b∈ch,(b∈X.ex\/X.xi.heap.objs.size<=b)/\b≠X.env.locals/\(∀x c,X.env.cells.lookup x=some c->c≠b)/\∀p∈X.pn++pins,p.1≠b):
  Inv X pins σ H' {s with heap:=h',gens:=g',drawn:=d',toks:=t'} :=by
 obtain⟨m,⟨o,es,ep,ho,r⟩,_⟩:=id I.loc;obtain⟨sl,hL⟩:=u.any ho I.free λz=>(AX _ z).2.1 rfl;exact I.step AX (λb o hL hb hc e n=>u.keep b o e n (λz=>(mem_cons.mp (I.Dd b z)).elim hL hb) hc) (λb o _ _ hc e n=>u.any e n hc) (λb o hc e n=>u.free b o e n hc) (λb o hc e=>u.there b o e hc) u.x8 u.vR u.x9 (λm' hm=>by
  obtain⟨o',AJ,Mu,xj,r'⟩:=hm;rw[ho]at xj;cases xj;exact⟨_,AJ,Mu,hL,r'⟩) bL hg
def Inv.turned(I:Inv X pins σ H s)(k:∀b o,b≠it->s.heap.get? b=some o->h'.get? b=some o)(hn:H it=none)(hL:it≠X.env.locals)(h1:it∈X.ex\/X.xi.heap.objs.size<=it)(h2:∀x c,X.env.cells.lookup x=some c->c≠it)(h3:∀p∈X.pn++pins,p.1≠it):Inv X pins σ H {s with heap:=h',toks:=t'} :=by
 have Vs:∀b u,H b=some u->b≠it:=λb u e z=>by rw[z,hn]at e;cases e
 refine I.step (g':=s.gens) (ch:=[it]) (λb hb=>?_) (λb o _ _ hc e _=>k b o (λz=>hc (by simp[z])) e) (λb o _ _ hc e _=>⟨o.slots,k b o (λz=>hc (by simp[z])) e⟩) (λ_ _ _ _ n=>n)
  (λb o hc e=>⟨o,k b o (λz=>hc (by simp[z])) e⟩) (λ_ _ e=>e) (λ_ _ _ e=>e) (λb ps e=>⟨#[],by rw[e];simp⟩) (λm hm=>?_) (λb u e=>?_) I.bare
 .have e:b=it:=by simpa using hb
  subst e;exact⟨h1,hL,h2,h3⟩
 .obtain⟨o,es,ep,ho,r⟩:=hm;exact⟨o,es,ep,k _ o (c6 hL) ho,r⟩
 .refine(I.bL b u e).Fx (λc v hc q=>k c v ?_ q) (λ_ q=>q) λ_ _ q=>q;obtain z|z:=hc
  .rw[z];exact Vs b u e
  .exact Vs c _ z
def Inv.tok(I:Inv X pins σ H s) t:Inv X pins σ H {s with toks:=t} :=I.un (h':=s.heap) (t':=t) Un.refl I.bL
theorem Inv.kept(I:Inv X pins σ H s)(k:∀b u,s.heap.get? b=some u->h'.get? b=some u):Inv X pins σ H {s with heap:=h',toks:=t'} :=I.un (Un.kept k) (I.bL.kept k)
theorem Inv.laid(I:Inv X pins σ H s)(k:∀b u,s.heap.get? b=some u->h'.get? b=some u)(hp:s.heap.objs.size<=a)(new:dF X.prog X.w (upd H a o) h' a o):
  Inv X pins σ (upd H a o) {s with heap:=h',toks:=t'} :=I.un (Un.laid k hp (I.bL.fresh hp)) (I.bL.laid k hp new)
theorem Inv.write{x e:Addr}(I:Inv X pins σ H s)(mu:ZC (H x))(he:e=x\/H e=some (.own x))(k:∀b u,b≠e->s.heap.get? b=some u->h'.get? b=some u)(YW:∃u,h'.get? e=some u)(new:dF X.prog X.w (upd H x o) h' x o):Inv X pins σ (upd H x o) {s with heap:=h',toks:=t'} :=I.un (Un.write mu he k YW) (I.bL.write mu he k YW new)
def Inv.weak(I:Inv X pins σ H s)(hl:σ'.length=σ.length)(w:∀(i:Nat) v,σ'[i]?=some (some v)->σ[i]?=some (some v)):Inv X pins σ' H s:=
 ⟨I.ok,I.os,I.bare,I.base,let⟨m,hn,Fz⟩:=I.loc;⟨m,hn,λi x v e1 e2 e3=>Fz i x v e1 (w i v e2) e3⟩,I.cell,I.free,I.iO,I.pin,I.bL,hl.trans I.len⟩
def Inv.mH(I:Inv X pins σ H s)(h:∀p∈ZH,s.heap.get? p.1=some p.2/\H p.1=none/\p.1≠X.env.locals/\p.1∉X.fs/\∀v,p.2.data≠ .cell v):Inv X ZH σ H s:=
 ⟨I.ok,I.os,I.bare,I.base,I.loc,I.cell,I.free,I.iO,λp hp=>(mem_append.mp hp).elim (λz=>I.pin p (wU _ z)) (h p),I.bL,I.len⟩
def ya(hN:N.Nodup)(a:N[i]?=some x)(b:N[j]?=some x):i=j:=by
 obtain⟨h1,e1⟩:=List.getElem?_eq_some_iff.mp a;obtain⟨h2,e2⟩:=List.getElem?_eq_some_iff.mp b;exact(getElem_inj hN).mp (e1.trans e2.symm)
def Bv{Q:Unit->Shared->Prop}(I:Inv X pins σ H s)(hN:X.N.Nodup)(hi:X.N[i]?=some x)(hx:Loc X.env.scope x)(r:RelV v u)(h:∀s',Inv X pins (σ.set i (some v)) H s'->(∃a,Heap.SameBut a s.heap s'.heap/\(a=X.env.locals\/X.env.cells.lookup x=some a))->Q Unit.unit s')(hf:X.fn x=true\/X.env.scope.names.lookup x=some .local):wpAny M A (storeName X.env x u) Q E s:=by
 obtain⟨m,hn,hl⟩:=id I.loc;have acu:(X.env.scope.kind==.class||(X.env.scope.kind==.module&&X.env.locals !=X.env.globals))=false:=by rw[I.ok.kind];rfl
 have hiσ:i<σ.length:=by rw[I.len];exact(List.getElem?_eq_some_iff.mp hi).1
 have S0:=I.S0;have tracked:∀{a:Addr}{h':Heap},(∃o,s.heap.get? a=some o/\H a=none)->Heap.SameBut a s.heap h'->mG X.prog X.w H h':=λ{a h'} ha hs b ob e=>by
  obtain⟨_,_,vh⟩:=ha;refine(I.bL b ob e).Fx (λc w' hc q=>(hs.2 c ?_).trans q) (λ_ q=>q) λ_ _ q=>q;rintro rfl;obtain rfl|hc:=hc
  .rw[vh]at e;cases e
  .rw[vh]at hc;cases hc
 obtain hk|hk:=hx
 .refine wpAny_storeName_local hk hn (λh' hn' hs=>?_) acu;obtain⟨oL,_,_,Oh,_⟩:=id hn;refine h _ ⟨I.ok,I.os,I.bare,⟨λb o e n hb hx=>?_,λb o e n hb hx=>?_,I.base.free,λb o e hx=>?_,I.base.x8,I.base.vR,I.base.x9⟩,⟨_,hn',λj y v' e1 e2 e3=>?_⟩,λy c e=>?_,I.free,I.iO,λp hp=>?_,tracked ⟨oL,Oh,I.free⟩ hs,‹I.len›⟩ ⟨_,hs,.inl rfl⟩
  .exact(hs.2 b (bB (dU (aN e) I.ok.above))).trans (I.base.keep b o e n hb hx)
  .obtain⟨sl,e1⟩:=I.base.slot b o e n hb hx;exact⟨sl,(hs.2 b (bB (dU (aN e) I.ok.above))).trans e1⟩
  .obtain⟨o',e1⟩:=I.base.there b o e hx;exact⟨o',(hs.2 b (bB (dU (aN e) I.ok.above))).trans e1⟩
  .by_cases hj:j=i
   .subst hj;rw[hi]at e1;cases e1;rw[getElem?_set_self hiσ]at e2;cases e2;exact⟨u,r,.inl ⟨hk,by simp⟩⟩
   .rw[getElem?_set_ne (c6 hj)]at e2;obtain⟨u',r',q⟩:=hl j y v' e1 e2 e3;refine⟨u',r',?_⟩;obtain⟨k,e⟩|⟨k,c,e,z⟩:=q
    .refine .inl ⟨k,?_⟩;have:y≠x:=λe=>hj (ya hN e1 (e▸hi));simp[this,e]
    .exact .inr ⟨k,c,e,z.sameBut hs (S0 y c e)⟩
  .obtain⟨w',z⟩:=I.cell y c e;exact⟨w',z.sameBut hs (S0 y c e)⟩
  .obtain⟨e,n,ne,nf,d⟩:=I.pin p hp;exact⟨(hs.2 p.1 ne).trans e,n,ne,nf,d⟩
 .have hfn:X.fn x=true:=by
   obtain z|z:=hf
   .exact z
   .rw[z]at hk;cases hk
  obtain⟨c,hc⟩:=I.ok.has x (.inl hk);obtain⟨w',z⟩:=I.cell x c hc;refine wpAny_storeName_cell I.ok.kind hk hc z (λh' Vt hs=>?_);obtain⟨oc,hoc,acv⟩:=id z;refine h {s with heap:=h'} ⟨I.ok,I.os,I.bare,⟨λb o e n hb hx=>?_,λb o e n hb hx=>?_,I.base.free,λb o e hx=>?_,I.base.x8,I.base.vR,I.base.x9⟩,⟨m,hn.sameBut hs (c6 (S0 x c hc)),λj y v' e1 e2 e3=>?_⟩,λy c' e=>?_,I.free,I.iO,λp hp=>?_,tracked ⟨oc,hoc,I.iO x c hc⟩ hs,‹I.len›⟩ ⟨c,hs,.inr hc⟩
  .exact(hs.2 b (bB (dU (aN e) (I.ok.Wr x c hfn hc)))).trans (I.base.keep b o e n hb hx)
  .obtain⟨sl,e1⟩:=I.base.slot b o e n hb hx;exact⟨sl,(hs.2 b (bB (dU (aN e) (I.ok.Wr x c hfn hc)))).trans e1⟩
  .obtain⟨o',e1⟩:=I.base.there b o e hx;exact⟨o',(hs.2 b (bB (dU (aN e) (I.ok.Wr x c hfn hc)))).trans e1⟩
  .by_cases hj:j=i
   .subst hj;rw[hi]at e1;cases e1;rw[getElem?_set_self hiσ]at e2;cases e2;exact⟨u,r,.inr ⟨.inl hk,c,hc,Vt⟩⟩
   .rw[getElem?_set_ne (c6 hj)]at e2;obtain⟨u',r',q⟩:=hl j y v' e1 e2 e3;refine⟨u',r',?_⟩;obtain q|⟨k,c',e,z'⟩:=q
    .exact .inl q
    .refine .inr ⟨k,c',e,z'.sameBut hs ?_⟩;rintro rfl;exact hj (ya hN e1 (I.ok.inj _ _ _ e hc▸hi))
  .by_cases hcc:c'=c
   .subst hcc;exact⟨_,Vt⟩
   .obtain⟨w2,z2⟩:=I.cell y c' e;exact⟨w2,z2.sameBut hs hcc⟩
  .obtain⟨e,n,ne,nf,d⟩:=I.pin p hp;refine⟨(hs.2 p.1 ?_).trans e,n,ne,nf,d⟩;intro q;rw[q,hoc]at e;have q':=Option.some.inj e;exact d w' (by rw[<-q'];exact acv)
def yb{Q:Unit->Shared->Prop}(I:Inv X pins σ H s)(hN:X.N.Nodup)(hi:X.N[i]?=some x)(hx:Loc X.env.scope x)(r:RelV v u)(h:∀s',Inv X pins (σ.set i (some v)) H s'->Q Unit.unit s')(hf:X.fn x=true\/X.env.scope.names.lookup x=some .local):wpAny M A (storeName X.env x u) Q E s:=
 Bv I hN hi hx r (λs' I' _=>h s' I') hf
def Inv.Oy(I:Inv X pins σ H s)(ho:s'.os=s.os)(u:Un (Fn X.stack) ch H H' s.heap s'.heap)(bL:mG X.prog X.w H' s'.heap)(hg:AllBare s'.gens)(AX:∀b∈ch,(b∈X.ex\/X.xi.heap.objs.size<=b)/\b≠X.env.locals/\(∀x c,X.env.cells.lookup x=some c->c≠b)/\∀p∈X.pn++pins,p.1≠b):Inv X pins σ H' s':=by
 obtain⟨h',g',d',t',o'⟩:=s';have e:=ho;subst e;exact I.call (t':=t') (d':=d') u bL hg AX
end
abbrev XK:=Value->Option Addr->Hp->Prop
abbrev St:=List (Option V)
variable {σ:L2.St}
abbrev VK:=V->Hp->Prop
abbrev TE:=St->Hp->VK->Prop
variable {te ta:L2.TE}
abbrev TT:=St->Hp->(Bool->Hp->Prop)->Prop
variable {tt:L2.TT}
abbrev TA:=St->Hp->(List V->Hp->Prop)->Prop
structure Ends where
 nx:St->Hp->Prop
 rt:VK
 bk:St->Hp->Prop:=λ_ _=>False
 ct:St->Hp->Prop:=λ_ _=>False
abbrev TS:=Ends->St->Hp->Prop
variable {tb:L2.TS}
def EP(X:Cx)(pins:List (Addr×Obj))(σ:St)(Q:VK)(u:Value)(s':Shared):Prop:=∃v H',Inv X pins σ H' s'/\RelV v u/\Q v H'
def TP(X:Cx)(pins:List (Addr×Obj))(σ:St)(Q:Bool->Hp->Prop)(b:Bool)(s':Shared):Prop:=∃H',Inv X pins σ H' s'/\Q b H'
def AP(X:Cx)(pins:List (Addr×Obj))(σ:St)(Q:List V->Hp->Prop)(us:List Value)(s':Shared):Prop:=∃vs H',Inv X pins σ H' s'/\Vals vs us/\Q vs H'
def SP(X:Cx)(pins:List (Addr×Obj))(D:Ends)(f:Flow)(s':Shared):Prop:=
 match f with
 |.next=>∃σ' H',Inv X pins σ' H' s'/\D.nx σ' H'|.brk=>∃σ' H',Inv X pins σ' H' s'/\D.bk σ' H'
 |.cont=>∃σ' H',Inv X pins σ' H' s'/\D.ct σ' H'|.ret u=>∃v σ' H',Inv X pins σ' H' s'/\RelV v u/\D.rt v H'
def PE(X:Cx)(e:Expr)(t:TE):Prop:=
 ∀(pins:List (Addr×Obj))(s:Shared)(σ:St)(H:Hp)(Q:VK),Inv X pins σ H s->t σ H Q->wpAny (model X.prog X.w) X.A (eval e X.env) (EP X pins σ Q) X.xe s
def PT(X:Cx)(e:Expr)(t:TT):Prop:=
 ∀(pins:List (Addr×Obj))(s:Shared)(σ:St)(H:Hp)(Q:Bool->Hp->Prop),Inv X pins σ H s->t σ H Q->wpAny (model X.prog X.w) X.A (isTrue e X.env (eval e X.env)) (TP X pins σ Q) X.xe s
def PW(X:Cx)(e:Expr)(t:TT):Prop:=
 ∀(whole:Sem Value)(pins:List (Addr×Obj))(s:Shared)(σ:St)(H:Hp)(Q:Bool->Hp->Prop),Inv X pins σ H s->t σ H Q->wpAny (model X.prog X.w) X.A (isTrue e X.env whole) (TP X pins σ Q) X.xe s
def PW.pt{t:TT}(h:PW X e t):PT X e t:=h _
def PA(X:Cx)(es:List Expr)(t:TA):Prop:=
 ∀(pos:Pos)(pins:List (Addr×Obj))(s:Shared)(σ:St)(H:Hp)(Q:List V->Hp->Prop),Inv X pins σ H s->t σ H Q->wpAny (model X.prog X.w) X.A (spliced (backTo pos (starEach es X.env))) (AP X pins σ Q) X.xe s
def PS(X:Cx)(st:Stmt)(t:TS):Prop:=
 ∀(pins:List (Addr×Obj))(s:Shared)(σ:St)(H:Hp)(D:Ends),Inv X pins σ H s->t D σ H->wpAny (model X.prog X.w) X.A (exec st X.env) (SP X pins D) X.xe s
def vS(X:Cx)(st:List Stmt)(t:TS):Prop:=
 ∀(pins:List (Addr×Obj))(s:Shared)(σ:St)(H:Hp)(D:Ends),Inv X pins σ H s->t D σ H->wpAny (model X.prog X.w) X.A (execs st X.env) (SP X pins D) X.xe s
def cJ{t:Sem α}{Q Q':α->Shared->Prop}(h:wpAny M A t Q E s)(hQ:∀a s,Q a s->Q' a s):wpAny M A t Q' E s:=da h hQ λ_ _ x=>x
section
def eV(o:Option (Option V))(Q:V->Prop):Prop:=match o with|some (some v)=>Q v|_=>False
theorem S3{Q:V->Prop}:eV (some (some v)) Q=Q v:=rfl
theorem yc{o:Option (Option V)}{Q:V->Prop}:eV o Q↔∃v,o=some (some v)/\Q v:=by
 refine⟨λh=>?_,λh=>?_⟩
 .obtain _|_|v:=o
  .exact False.elim h
  .exact False.elim h
  .exact⟨v,rfl,h⟩
 .obtain⟨v,rfl,h⟩:=h;exact h
def eI(x:V)(Q:Int->Prop):Prop:=match x with|.int i=>Q i|_=>False
theorem Ws{i:Int}{Q:Int->Prop}:eI (.int i) Q=Q i:=rfl
theorem fI{x:V}{Q:Int->Prop}:eI x Q↔∃i,x=.int i/\Q i:=by
 refine⟨λh=>?_,λh=>?_⟩
 .cases x with
  |int i=>exact⟨i,rfl,h⟩|_=>exact False.elim h
 .obtain⟨i,rfl,h⟩:=h;exact h
def eB(x:V)(Q:Bool->Prop):Prop:=match x with|.bl i=>Q i|_=>False
theorem FA{i:Bool}{Q:Bool->Prop}:eB (.bl i) Q=Q i:=rfl
theorem kO{x:V}{Q:Bool->Prop}:eB x Q↔∃i,x=.bl i/\Q i:=by
 refine⟨λh=>?_,λh=>?_⟩
 .cases x with
  |bl i=>exact⟨i,rfl,h⟩|_=>exact False.elim h
 .obtain⟨i,rfl,h⟩:=h;exact h
def eD(vs:List V)(Q:Bool->Prop):Prop:=match vs with| [.bl i]=>Q i|_=>False
theorem Oz{i:Bool}{Q:Bool->Prop}:eD [.bl i] Q=Q i:=rfl
theorem yd{vs:List V}{Q:Bool->Prop}:eD vs Q↔∃i,vs=[.bl i]/\Q i:=by
 refine⟨λh=>?_,λh=>?_⟩
 .unfold eD at h;split at h
  .exact⟨_,rfl,h⟩
  .exact False.elim h
 .obtain⟨i,rfl,h⟩:=h;exact h
def bT(b:Bool)(p:Prop):Prop:=match b with|true=>p|false=>False
theorem pY:bT true p=p:=rfl
theorem Ic{b:Bool}:bT b p↔b=true/\p:=by
 cases b with
 |true=>exact⟨λh=>⟨rfl,h⟩,λh=>h.2⟩|false=>exact⟨False.elim,λh=>nomatch h.1⟩
noncomputable def eR(x:V)(Q:Addr->Prop):Prop:=match x with|.ref i=>Q i|_=>False
theorem Wt{i:Addr}{Q:Addr->Prop}:eR (.ref i) Q=Q i:=rfl
theorem jL{x:V}{Q:Addr->Prop}:eR x Q↔∃i,x=.ref i/\Q i:=by
 refine⟨λh=>?_,λh=>?_⟩
 .cases x with
  |ref i=>exact⟨i,rfl,h⟩|_=>exact False.elim h
 .obtain⟨i,rfl,h⟩:=h;exact h
noncomputable def eS(x:V)(Q:Str->Prop):Prop:=match x with|.str i=>Q i|_=>False
theorem Wu{i:Str}{Q:Str->Prop}:eS (.str i) Q=Q i:=rfl
theorem Ie{x:V}{Q:Str->Prop}:eS x Q↔∃i,x=.str i/\Q i:=by
 refine⟨λh=>?_,λh=>?_⟩
 .cases x with
  |str i=>exact⟨i,rfl,h⟩|_=>exact False.elim h
 .obtain⟨i,rfl,h⟩:=h;exact h
noncomputable def eL(vs:List V)(Q:Addr->Prop):Prop:=match vs with| [.ref i]=>Q i|_=>False
theorem Wv{i:Addr}{Q:Addr->Prop}:eL [.ref i] Q=Q i:=rfl
theorem rj{vs:List V}{Q:Addr->Prop}:eL vs Q↔∃i,vs=[.ref i]/\Q i:=by
 refine⟨λh=>?_,λh=>?_⟩
 .unfold eL at h;split at h
  .exact⟨_,rfl,h⟩
  .exact False.elim h
 .obtain⟨i,rfl,h⟩:=h;exact h
noncomputable def eT(vs:List V)(Q:Str->Prop):Prop:=match vs with| [.str i]=>Q i|_=>False
theorem Ww{i:Str}{Q:Str->Prop}:eT [.str i] Q=Q i:=rfl
theorem Df{vs:List V}{Q:Str->Prop}:eT vs Q↔∃i,vs=[.str i]/\Q i:=by
 refine⟨λh=>?_,λh=>?_⟩
 .unfold eT at h;split at h
  .exact⟨_,rfl,h⟩
  .exact False.elim h
 .obtain⟨i,rfl,h⟩:=h;exact h
def ye(i:Nat):TE:=λσ H Q=>eV σ[i]? λv=>Q v H
def tC(v:V):TE:=λ_ H Q=>Q v H
def Wx{pos:Pos}(hN:X.N[i]?=some x)(hv:ZF X.env.scope x)(hd:(x==("__debug__":Str))=false:=by decide)(AK:(x==("__classdict__":Str))=false:=by decide):PE X (.Name x pos) (ye i):=by
 intro pins s σ H Q I h;obtain⟨v,e,h⟩:=yc.mp h;obtain⟨m,hn,hl⟩:=I.loc;obtain⟨u,r,l⟩:=hl i x v hN e hv;have fin:EP X pins σ Q u s:=⟨v,H,I,r,h⟩;obtain⟨hk,hm⟩|⟨hk,c,hc,Kq⟩:=l
 .exact wpAny_Name (wpAny_loadName_local I.ok.kind hk hn hm fin) hd
 .obtain hk|hk:=hk
  .exact wpAny_Name (wpAny_loadName_cell I.ok.kind hk hc Kq fin) hd
  .exact wpAny_Name (wpAny_loadName_free I.ok.kind hk hc Kq fin AK) hd
def aq{i j pos}:PE X (.Constant (.int i) j pos) (tC (.int i)):=λ_ _ _ H _ I h=>wpAny_Constant_int ⟨.int i,H,I.tok _,⟨_,rfl⟩,h⟩
def vi{b j pos}:PE X (.Constant (.bool b) j pos) (tC (.bl b)):=λ_ _ _ H _ I h=>Constant_bool ⟨.bl b,H,I,rfl,h⟩
def yf{j pos}:PE X (.Constant .none j pos) (tC .cV):=λ_ _ _ H _ I h=>Constant_none ⟨.cV,H,I,rfl,h⟩
def bu{x j pos}:PE X (.Constant (.str x) j pos) (tC (.str x)):=λ_ _ _ H _ I h=>Calls.Constant_str ⟨.str x,H,I.tok _,⟨_,rfl⟩,h⟩
def Gl(X:Cx)(x:Str):Prop:=X.env.kindOf x=some .globalImplicit
def pZ{E:Value->Shared->Prop}{pos:Pos}(I:Inv X pins σ H s)(hg:Gl X x)(hm:X.mg x=some u)(h:Q u s)(hd:(x==("__debug__":Str))=false:=by decide):wpAny (model X.prog X.w) X.A (eval (.Name x pos) X.env) Q E s:=
 Calls.Name_function_global I.ok.kind hg (Calls.loadGlobal_global (by rw[I.ok.glob];exact I.mod.glob.keeps I.bk) hm h) hd
def gq{E:Value->Shared->Prop}{pos:Pos}(I:Inv X pins σ H s)(hg:Gl X x)(hm:X.mg x=none)(hv:bootBuiltins x=some u)(h:Q u s)(hn:x≠"__name__":=by decide)(hd:(x==("__debug__":Str))=false:=by decide):wpAny (model X.prog X.w) X.A (eval (.Name x pos) X.env) Q E s:=by
 obtain⟨mb,h1,h2⟩:=I.mod.blt;exact Calls.Name_function_global I.ok.kind hg (Calls.loadGlobal_builtin (by rw[I.ok.glob];exact I.mod.glob.keeps I.bk) hm (by rw[I.ok.blt];exact h1.keeps I.bk) ((h2 x hn).trans hv) h) hd
def Dg{pos:Pos}(hg:Gl X x)(hm:X.mg x=some u)(r:RelV v u)(hd:(x==("__debug__":Str))=false:=by decide):PE X (.Name x pos) (tC v):=
 λ_ _ _ H _ I h=>pZ I hg hm ⟨v,H,I,r,h⟩ hd
variable {a b:Expr} {tb:TE}
def PC(X:Cx)(op:CmpOp)(a b:Expr)(t:TE):Prop:=
 ∀(pins:List (Addr×Obj))(s:Shared)(σ:St)(H:Hp)(Q:VK),Inv X pins σ H s->t σ H Q->
  wpAny (model X.prog X.w) X.A (eval a X.env) (λv s₁=>wpAny (model X.prog X.w) X.A (eval b X.env) (λu s₂=>wpAny (model X.prog X.w) X.A (compareOp op v u) (EP X pins σ Q) X.xe s₂) X.xe s₁) X.xe s
def yh b (h:op≠ .In) (h2:op≠ .NotIn):behindInMarks op b=false:=by
 have e1:(op==CmpOp.In)=false:=by cases op<;>first|rfl|exact absurd rfl h
 have e2:(op==CmpOp.NotIn)=false:=by cases op<;>first|rfl|exact absurd rfl h2
 cases b
 case Set elts k p=>
  show((k==0&&(op==.In||op==.NotIn))&&_)=false;rw[e1,e2];cases k==0<;>rfl
 all_goals rfl
def tB(t:TE):TT:=λσ H Q=>t σ H λx H1=>eB x λc=>Q c H1
def yi{t:TE}(h:PC X op a b t)(h1:behindInMarks op b=false:=by first|exact yh _ ⋯ ⋯|rfl):PE X (.Compare a [op] [b] pos) t:=λpins s σ H Q I hw=>wpAny_Compare1 (h pins s σ H Q I hw) h1
def Wy{t:TE}(h:PC X op a b t)(h1:behindInMarks op b=false:=by first|exact yh _ ⋯ ⋯|rfl):PT X (.Compare a [op] [b] pos) (tB t):=by
 intro pins s σ H Q I hw;refine wpAny_isTrue_Compare1 (cJ (h pins s σ H _ I hw) λv s1 h1=>cJ h1 λu s2 h2=>cJ h2 λc s3 zq5=>?_) h1;obtain⟨x,H1,I1,r1,q1⟩:=zq5;obtain⟨d,rfl,q⟩:=kO.mp q1;cases r1;exact mh ⟨H1,I1,q⟩
def uo{t:TE}(h:PE X e t)(he:∀whole,isTrue e X.env whole=(do let v<-whole;standAt e.pos;holding [v] (truthy v)):=by intro _;rfl):PT X e (tB t):=by
 intro pins s σ H Q I hw;refine isTrue_plain (cJ (h pins s σ H _ I hw) λv s1 zq6=>?_) (he _);obtain⟨x,H1,I1,r1,q1⟩:=zq6;obtain⟨d,rfl,q⟩:=kO.mp q1;cases r1;exact mh ⟨H1,I1,q⟩
variable {tA tB':TT} {rest:List Expr}
def Wz(t u:TT):TT:=λσ H Q=>t σ H λc H1=>if c=true then u σ H1 Q else Q false H1
def tOr(t u:TT):TT:=λσ H Q=>t σ H λc H1=>if c=true then Q true H1 else u σ H1 Q
def WB(t:TT):TT:=λσ H Q=>t σ H λc H1=>Q (!c) H1
def S4(ha:PT X a tA):PW X (.BoolOp .And [a] pos) tA:=by
 intro wh pins s σ H Q I h;refine isTrue_and (cJ (ha pins s σ H Q I h) λc s1 e=>?_);cases c with
 |true=>exact isTrue_and_nil e|false=>exact e
def OA(ha:PT X a tA):PW X (.BoolOp .Or [a] pos) tA:=by
 intro wh pins s σ H Q I h;refine isTrue_or (cJ (ha pins s σ H Q I h) λc s1 e=>?_);cases c with
 |false=>exact isTrue_or_nil e|true=>exact e
def WC(ha:PT X a tA)(hb:PW X (.BoolOp .And (b::rest) pos) tB'):PW X (.BoolOp .And (a::b::rest) pos) (Wz tA tB'):=by
 intro wh pins s σ H Q I h;refine isTrue_and (cJ (ha pins s σ H _ I h) λc s1 zq7=>?_);obtain⟨H1,I1,q1⟩:=zq7;cases c with
 |true=>exact hb wh pins s1 σ H1 Q I1 q1|false=>exact⟨H1,I1,q1⟩
def Vu(ha:PT X a tA)(hb:PW X (.BoolOp .Or (b::rest) pos) tB'):PW X (.BoolOp .Or (a::b::rest) pos) (tOr tA tB'):=by
 intro wh pins s σ H Q I h;refine isTrue_or (cJ (ha pins s σ H _ I h) λc s1 zq8=>?_);obtain⟨H1,I1,q1⟩:=zq8;cases c with
 |true=>exact⟨H1,I1,q1⟩|false=>exact hb wh pins s1 σ H1 Q I1 q1
def uq(ha:PT X a tA):PT X (.UnaryOp .Not a pos) (WB tA):=by
 intro pins s σ H Q I h;exact isTrue_not (ha pins s σ H (λc H1=>Q (!c) H1) I h)
def OB(ta tb:TE):TE:=λσ H Q=>ta σ H λx H1=>eB x λc=>if c=true then tb σ H1 Q else Q (.bl false) H1
def WD(ta tb:TE):TE:=λσ H Q=>ta σ H λx H1=>eB x λc=>if c=true then Q (.bl true) H1 else tb σ H1 Q
def Vv(ta:TE):TE:=λσ H Q=>ta σ H λx H1=>∃c,x=.bl c/\Q (.bl (!c)) H1
def i5{op}{t:TE}(h:PE X a t):PE X (.BoolOp op [a] pos) t:=λpins s σ H Q I hw=>BoolOp_one (h pins s σ H Q I hw)
def kP(ha:PE X a ta)(hb:PE X (.BoolOp .And (b::rest) pos) tb):PE X (.BoolOp .And (a::b::rest) pos) (OB ta tb):=by
 intro pins s σ H Q I h;refine BoolOp_and (cJ (ha pins s σ H _ I h) λv s1 zq9=>?_);obtain⟨x,H1,I1,r1,q1⟩:=zq9;obtain⟨c,rfl,q1⟩:=kO.mp q1;cases r1;refine mh ?_;cases c with
 |true=>exact hb pins s1 σ H1 Q I1 q1|false=>exact⟨.bl false,H1,I1,rfl,q1⟩
def Kr(ha:PE X a ta)(hb:PE X (.BoolOp .Or (b::rest) pos) tb):PE X (.BoolOp .Or (a::b::rest) pos) (WD ta tb):=by
 intro pins s σ H Q I h;refine BoolOp_or (cJ (ha pins s σ H _ I h) λv s1 WG=>?_);obtain⟨x,H1,I1,r1,q1⟩:=WG;obtain⟨c,rfl,q1⟩:=kO.mp q1;cases r1;refine mh ?_;cases c with
 |false=>exact hb pins s1 σ H1 Q I1 q1|true=>exact⟨.bl true,H1,I1,rfl,q1⟩
def ZI(t:TT)(ta tb:TE):TE:=λσ H Q=>t σ H λc H1=>if c=true then ta σ H1 Q else tb σ H1 Q
def yj{c:Expr}(hc:PT X c tA)(ha:PE X a ta)(hb:PE X b tb):PE X (.IfExp c a b pos) (ZI tA ta tb):=by
 intro pins s σ H Q I h;refine wpAny_IfExp (cJ (hc pins s σ H _ I h) λd s1 WH=>?_);obtain⟨H1,I1,q1⟩:=WH;cases d with
 |true=>exact ha pins s1 σ H1 Q I1 q1|false=>exact hb pins s1 σ H1 Q I1 q1
end
def aM(K:PySem.W.Frag)(H:Hp)(a:Addr)(xs:List V):Prop:=
 Rd H a (.lst xs)\/
  ∃(o:Obj) (aR:Array Value) (n:Nat),K.lookup a=some o/\o.cls=.type "list"/\o.dict=none/\o.data=.seq aR n/\aR.size<=sizeLine/\Vals xs aR.toList
def jM(K:PySem.W.Frag)(H:Hp)(a:Addr)(xs:List V):Prop:=
 Rd H a (.tup xs)\/
  ∃(o:Obj) (aR:Array Value) (n:Nat),K.lookup a=some o/\o.cls=.type "tuple"/\o.data=.seq aR n/\aR.size<=sizeLine/\Vals xs aR.toList
noncomputable def acw:Value->Option V
 |.none=>some .cV|.bool b=>some (.bl b)
 |.int i _=>some (.int i)|.str x _=>some (.str x)
 |.bytes b _=>some (.HP b)|.float b _=>some (.flt b)
 |.ref a=>some (.ref a)|.type n=>some (.ty n)
 |_=>none
def RelV.abs{x:V}(r:RelV x u):acw u=some x:=by
 cases x with
 |cV=>cases r;rfl
 |bl _=>cases r;rfl
 |int _=>obtain⟨t,rfl⟩:=r;rfl
 |str _=>obtain⟨t,rfl⟩:=r;rfl
 |HP _=>obtain⟨t,rfl⟩:=r;rfl
 |flt _=>obtain⟨t,rfl⟩:=r;rfl
 |ref _=>cases r;rfl
 |ty _=>cases r;rfl
theorem RelV.inj{x:V}(r:RelV x u)(q:RelV y u):x=y:=Option.some.inj (r.abs.symm.trans q.abs)
theorem Vals.inj:∀{xs ys}{us},Vals xs us->Vals ys us->xs=ys:=by
 intro xs ys us h
 induction h generalizing ys with
 |nil=>intro q;cases q;rfl
 |cons r t ih=>
  intro q;cases q with
  |cons r' t'=>rw[r.inj r',ih t']
section
variable {ys:List V}
def aM.of(h:H a=some (.lst xs)):aM K H a xs:=.inl (.inl h)
def Inv.list(I:Inv X pins σ H s)(h:aM X.K H a xs):∃aR:List Value,Vals xs aR/\PlainL s.heap a aR.toArray/\xs.length<=sizeLine:=by
 obtain h|⟨o,aR,n,hk,hc,hd,hs,hz,r⟩:=h
 .obtain⟨z,aR,n,r,e⟩:=h.ok I.bL;exact⟨aR,r,⟨_,n,e,rfl,rfl,rfl⟩,z⟩
 .refine⟨aR.toList,r,⟨o,n,I.Fo a o hk,hc,hd,‹hs›⟩,?_⟩;have e:=r.length;simp only[Array.length_toList]at e;omega
def Inv.tuple(I:Inv X pins σ H s)(h:jM X.K H a xs):∃aR:List Value,Vals xs aR/\IsTup s.heap a aR.toArray/\xs.length<=sizeLine:=by
 obtain h|⟨o,aR,n,hk,hc,hs,hz,r⟩:=h
 .obtain⟨z,aR,r,p⟩:=h.ok I.bL;exact⟨aR,r,p,z⟩
 .refine⟨aR.toList,r,⟨o,I.Fo a o hk,hc,n,‹hs›⟩,?_⟩;have e:=r.length;simp only[Array.length_toList]at e;omega
def Inv.sR(I:Inv X pins σ H s)(h:aM X.K H a xs)(h':aM X.K H a ys):xs=ys:=by
 obtain⟨aR,r,⟨o,n,e,_,_,d⟩,_⟩:=I.list h;obtain⟨Ig,r',⟨o',n',e',_,_,d'⟩,_⟩:=I.list h';rw[e]at e';cases e';rw[d]at d';injection d' with d1 _;have:aR=Ig:=‹cb Array.toList d1›
 subst this;exact r.inj r'
def Inv.Mv(I:Inv X pins σ H s)(h:jM X.K H a xs)(h':jM X.K H a ys):xs=ys:=by
 obtain⟨aR,r,⟨o,e,_,n,d⟩,_⟩:=I.tuple h;obtain⟨Ig,r',⟨o',e',_,n',d'⟩,_⟩:=I.tuple h';rw[e]at e';cases e';rw[d]at d';injection d' with d1 _;have:aR=Ig:=‹cb Array.toList d1›
 subst this;exact r.inj r'
end
noncomputable abbrev Cx.qF(X:Cx)(E:Value->Shared->Prop):Cx:= {X with xe:=E}
noncomputable abbrev Cx.Oi(X:Cx):Cx:=X.qF λ_ _=>False
theorem Cx.Ok.qF(ok:X.Ok) E:(X.qF E).Ok:=
 ⟨ok.mod,ok.kind,ok.glob,ok.blt,ok.above,ok.inj,ok.has,ok.Wr,ok.hd,ok.frames,ok.YY,ok.YZ,ok.bs,ok.Mt,ok.H_,ok.Ia,ok.rh,ok.Sb⟩
def Cx.Ok.eZ(ok:(X.qF E).Ok):X.Ok:=
 ⟨ok.mod,ok.kind,ok.glob,ok.blt,ok.above,ok.inj,ok.has,ok.Wr,ok.hd,ok.frames,ok.YY,ok.YZ,ok.bs,ok.Mt,ok.H_,ok.Ia,ok.rh,ok.Sb⟩
section
theorem Inv.qF(I:Inv X pins σ H s) E:Inv (X.qF E) pins σ H s:=⟨I.ok.qF E,I.os,I.bare,I.base,I.loc,I.cell,I.free,I.iO,I.pin,I.bL,I.len⟩
theorem Inv.eZ(I:Inv (X.qF E) pins σ H s):Inv X pins σ H s:=⟨I.ok.eZ,I.os,I.bare,I.base,I.loc,I.cell,I.free,I.iO,I.pin,I.bL,I.len⟩
theorem SP.eZ{D:Ends}{f:Flow}(h:SP (X.qF E) pins D f s'):SP X pins D f s':=by
 cases f with
 |next=>obtain⟨σ',H',I,q⟩:=h;exact⟨σ',H',I.eZ,q⟩
 |brk=>obtain⟨σ',H',I,q⟩:=h;exact⟨σ',H',I.eZ,q⟩
 |cont=>obtain⟨σ',H',I,q⟩:=h;exact⟨σ',H',I.eZ,q⟩
 |ret u=>obtain⟨v,σ',H',I,r,q⟩:=h;exact⟨v,σ',H',I.eZ,r,q⟩
theorem vS.Oi{st:List Stmt}{t:TS}(h:vS X.Oi st t):vS X st t:=λpins s σ H D I hw=>
 da (h pins s σ H D (I.qF _) hw) (λ_ _ q=>q.eZ) λ_ _ z=>False.elim z
end
section
variable {rest:List Stmt} {t u:TS}
def cf:TS:=λD σ H=>D.nx σ H
def S5(t u:TS):TS:=λD σ H=>t {D with nx:=u D} σ H
def bC:vS X [] cf:=λ_ _ σ H _ I h=>wV ⟨σ,H,I,h⟩
def ah(h1:PS X st t)(h2:vS X rest u):vS X (st::rest) (S5 t u):=by
 intro pins s σ H D I h;refine wpAny_execs_cons (cJ (h1 pins s σ H {D with nx:=u D} I h) λf s1 q=>?_);cases f with
 |next=>
  obtain⟨σ',H',I',q⟩:=q;exact h2 pins s1 σ' H' D I' q
 |ret v=>exact q|brk=>exact q
 |cont=>exact q
def au(h1:PS X st t):vS X [st] t:=by
 intro pins s σ H D I h;refine wpAny_execs_cons (cJ (h1 pins s σ H D I h) λf s1 q=>?_);cases f with
 |next=>exact wV q|ret v=>exact q
 |brk=>exact q|cont=>exact q
def Ih:TS:=λD σ H=>D.bk σ H
def OC:PS X (.Break pos) Ih:=λ_ _ σ H _ I h=>wpAny_Break ⟨σ,H,I,h⟩
def Inv.quiet(I:Inv X pins σ H s):interactive X.env=false:=by simp[interactive,I.ok.kind]
def OD(te:TE):TS:=λD σ H=>te σ H λ_ H1=>D.nx σ H1
def aQ(he:PE X e te)(hs:swapsWith e none pos.line X.env=pure false:=by rfl):PS X (.Expr e pos) (OD te):=by
 intro pins s σ H D I h;refine wpAny_Expr_any (cJ (he pins s σ H _ I h) λv s1 WK=>?_) I.quiet hs;obtain⟨x,H1,I1,r1,q1⟩:=WK;exact⟨σ,H1,I1,q1⟩
def WL(te:TE):TS:=λD σ H=>te σ H D.rt
def aJ(he:PE X e te):PS X (.Return (some e) pos) (WL te):=by
 intro pins s σ H D I h;refine wpAny_Return_some (cJ (he pins s σ H _ I h) λv s1 WM=>?_);obtain⟨x,H1,I1,r1,q1⟩:=WM;exact⟨x,σ,H1,I1,r1,q1⟩
def Vw:TS:=λD _ H=>D.rt .cV H
def WN(c:TT)(t u:TS):TS:=λD σ H=>c σ H λb H1=>if b=true then t D σ H1 else u D σ H1
def cW{c:Expr}{a b:List Stmt}(hc:PT X c tc)(ha:vS X a t)(hb:vS X b u):PS X (.If c a b pos) (WN tc t u):=by
 intro pins s σ H D I h;refine wpAny_If (cJ (hc pins s σ H _ I h) λd s1 WO=>?_);obtain⟨H1,I1,q1⟩:=WO;cases d with
 |true=>exact ha pins s1 σ H1 D I1 q1|false=>exact hb pins s1 σ H1 D I1 q1
end
abbrev TG:=V->St->Hp->(St->Hp->Prop)->Prop
variable {g:L2.TG}
abbrev Vx:=List V->St->Hp->(St->Hp->Prop)->Prop
def PG(X:Cx)(target:Expr)(t:TG):Prop:=
 ∀(pins:List (Addr×Obj))(s:Shared)(σ:St)(H:Hp)(v:V)(u:Value)(Q:St->Hp->Prop),Inv X pins σ H s->RelV v u->t v σ H Q->
  wpAny (model X.prog X.w) X.A (assign target X.env u) (λ_ s'=>∃σ' H',Inv X pins σ' H' s'/\Q σ' H') X.xe s
def ZJ(X:Cx)(ts:List Expr)(t:Vx):Prop:=
 ∀(pins:List (Addr×Obj))(s:Shared)(σ:St)(H:Hp)(vs:List V)(us:List Value)(Q:St->Hp->Prop),Inv X pins σ H s->Vals vs us->t vs σ H Q->
  wpAny (model X.prog X.w) X.A (assignInOrder ((assignEach ts X.env).map (·.2)) us) (λ_ s'=>∃σ' H',Inv X pins σ' H' s'/\Q σ' H') X.xe s
abbrev ZK:=V->V->Hp->VK->Prop
def PIp(X:Cx)(op:Operator)(t:ZK):Prop:=
 ∀(pins:List (Addr×Obj))(s:Shared)(σ:St)(H:Hp)(x y:V)(v u:Value)(Q:VK),Inv X pins σ H s->RelV x v->RelV y u->t x y H Q->
  wpAny (model X.prog X.w) X.A (inplaceOp op v u) (EP X pins σ Q) X.xe s
section
def oq(i:Nat):TG:=λv σ H Q=>Q (σ.set i (some v)) H
def aT(hN:X.N.Nodup)(hi:X.N[i]?=some x)(hx:Loc X.env.scope x)(hf:X.fn x=true\/X.env.scope.names.lookup x=some .local:=by first|exact .inl rfl|exact .inr rfl|assumption):PG X (.Name x pos) (oq i):=by
 intro pins s σ H v u Q I r h;exact wpAny_assign_Name (yb I hN hi hx r (λs' I'=>⟨_,H,I',h⟩) hf)
def ZL:Vx:=λvs σ H Q=>vs=[]/\Q σ H
def OG(t:TG)(u:Vx):Vx:=λvs σ H Q=>∃v r,vs=v::r/\t v σ H λσ' H'=>u r σ' H' Q
def km:ZJ X [] ZL:=by
 intro pins s σ H vs us Q I r h;obtain⟨e,h⟩:=h;subst e;exact assignInOrder_nil ⟨σ,H,I,h⟩
def cK{es:List Expr}{t:TG}{u:Vx}(h1:PG X e t)(h2:ZJ X es u)(hs:(assignEach (e::es) X.env).map (·.2)=assign e X.env::(assignEach es X.env).map (·.2):=by rfl):ZJ X (e::es) (OG t u):=by
 intro pins s σ H vs us Q I r h;obtain⟨v,vr,e1,h⟩:=h;subst e1;cases r with
 |cons r rr=>
  rw[hs];refine assignInOrder_cons (cJ (h1 pins s σ H _ _ _ I r h) λ_ s1 WQ=>?_);obtain⟨σ1,H1,I1,q1⟩:=WQ;exact h2 pins s1 σ1 H1 _ _ Q I1 rr q1
def WR(K:PySem.W.Frag)(n:Nat)(t:Vx):TG:=λv σ H Q=>∃a xs,v=.ref a/\jM K H a xs/\xs.length=n/\t xs σ H Q
def yk{es:List Expr}{k:Nat}{t:Vx}{n:Nat}(hc:X.calm=true)(h:ZJ X es t)(hn:(assignEach es X.env).length=n:=by rfl)(p6:(assignEach es X.env).findIdx? (·.1)=none:=by rfl):PG X (.Tuple es k pos) (WR X.K n t):=by
 intro pins s σ H v u Q I r hw;obtain⟨a,xs,e1,hq,hl,hw⟩:=hw;subst e1;cases r;obtain⟨aR,rv,ht,hz⟩:=I.tuple hq;refine assign_Tuple_tuple (I.ok.hd hc) ht (by simp[hn,<-hl,rv.length]) p6 λh' hx=>?_;have I1:=I.kept (t':=s.toks) λb o e=>hx b o (bB (aN e)) e;exact h pins _ σ H xs _ Q I1 ‹rv› hw
def OH(te:TE)(g:TG):TS:=λD σ H=>te σ H λx H1=>g x σ H1 D.nx
def aO{pos':Pos}(hN:X.N.Nodup)(hi:X.N[i]?=some x)(hx:Loc X.env.scope x)(he:PE X e te)(hs:swapsWith e (some (.Name x pos')) pos.line X.env=pure false:=by rfl)(hf:X.fn x=true\/X.env.scope.names.lookup x=some .local:=by first|exact .inl rfl|exact .inr rfl|assumption):
  PS X (.Assign [.Name x pos'] e pos) (OH te (oq i)):=by
 intro pins s σ H D I h;refine wpAny_Assign_Name (cJ (he pins s σ H _ I h) λv s1 WT=>?_) hs;obtain⟨y,H1,I1,r1,q1⟩:=WT;exact yb I1 hN hi hx r1 (λs2 I2=>⟨_,H1,I2,q1⟩) hf
def WU(i:Nat)(te:TE)(ti:ZK):TS:=λD σ H=>eV σ[i]? λx=>te σ H λy H1=>ti x y H1 λz H2=>D.nx (σ.set i (some z)) H2
def Dh{op:Operator}{ti:ZK}{pos':Pos}(hN:X.N.Nodup)(hi:X.N[i]?=some x)(hx:Loc X.env.scope x)(he:PE X e te)(ho:PIp X op ti)(hf:X.fn x=true\/X.env.scope.names.lookup x=some .local:=by first|exact .inl rfl|exact .inr rfl|assumption):
  PS X (.AugAssign (.Name x pos') op e pos) (WU i te ti):=by
 intro pins s σ H D I h;obtain⟨v,e1,h⟩:=yc.mp h;obtain⟨m,hn,hl⟩:=I.loc;have vis:ZF X.env.scope x:=by rcases hx with k|k;exact .inl k;exact .inr (.inl k)
 obtain⟨u,r,l⟩:=hl i x v hi e1 vis;refine wpAny_AugAssign_Name ?_;have go:wpAny (model X.prog X.w) X.A (eval e X.env) (λw s₂=>wpAny (model X.prog X.w) X.A (inplaceOp op u w) (λr s₃=>wpAny (model X.prog X.w) X.A (storeName X.env x r) (λ_=>SP X pins D .next) X.xe s₃) X.xe s₂) X.xe s:=by
  refine cJ (he pins s σ H _ I h) λw s1 WV=>?_;obtain⟨y,H1,I1,r1,q1⟩:=WV;refine cJ (ho pins s1 σ H1 v y u w _ I1 r r1 q1) λz s2 WW=>?_;obtain⟨zv,H2,I2,r2,q2⟩:=WW;exact yb I2 hN hi hx r2 (λs3 I3=>⟨_,H2,I3,q2⟩) hf
 obtain⟨hk,hm⟩|⟨hk,c,hc,Kq⟩:=l
 .exact wpAny_loadName_local I.ok.kind hk hn hm go
 .obtain hk|hk:=hk
  .exact wpAny_loadName_cell I.ok.kind hk hc Kq go
  .obtain k|k:=hx
   .have:X.env.scope.names.lookup x=some .free:=hk;rw[k]at this;cases this
   .have:X.env.scope.names.lookup x=some .free:=hk;rw[k]at this;cases this
def ipI(f:Int->Int->Int):ZK:=λx y H Q=>eI x λi=>eI y λj=>Q (.int (f i j)) H
def OI:PIp X .Add (ipI λi j=>i+j):=by
 intro pins s σ H x y v u Q I r1 r2 h;obtain⟨i,e1,h⟩:=fI.mp h;obtain⟨j,e2,q⟩:=fI.mp h;subst e1;subst e2;obtain⟨t,rfl⟩:=r1;obtain⟨t',rfl⟩:=r2;exact iadd_int ⟨.int _,H,I.tok _,⟨_,rfl⟩,q⟩
end
structure It where
 go:Nat->Hp->Prop
 Fp:Nat->Hp->V->Hp->Prop
 stop:Nat->Hp->Prop
def vT(X:Cx)(pins:List (Addr×Obj))(H:Hp)(b:Addr):Prop:=
 H b=none/\b≠X.env.locals/\b∉X.fs/\(b∈X.ex\/X.xi.heap.objs.size<=b)/\(∀x c,X.env.cells.lookup x=some c->c≠b)/\∀p∈X.pn++pins,p.1≠b
def Inv.Di(I:Inv X pins σ H s)(hb:s.heap.objs.size<=b)(hn:H' b=none):vT X pins H' b:=by
 refine⟨hn,jk (dU I.lt hb),I.acs hb,.inr (aX I.sz hb),λx c e z=>?_,λp hp z=>?_⟩
 .obtain⟨v,q⟩:=I.cell x c e;exact absurd (dU q.lt (by rw[z];exact hb)) (iZ _)
 .exact absurd (dU (aN (I.pin p hp).1) (by rw[z];exact hb)) (iZ _)
structure Turn(P:Program)(w:World)(K:PySem.W.Frag)(tg:Expr)(J:It)(fp:List Addr)(it:Addr)(tn:Nat->Heap->Prop):Prop where
 mem:it∈fp
 obj:∀i h,tn i h->∀b∈fp,∃o,h.get? b=some o/\∀v,o.data≠ .cell v
 keep:∀i h h',tn i h->(∀b∈fp,∀o,h.get? b=some o->h'.get? b=some o)->tn i h'
 item:∀(X:Cx),X.prog=P->X.w=w->X.K=K->X.calm=true->∀(i:Nat)(pins:List (Addr×Obj))(s:Shared)(σ:St)(H:Hp)(E:Value->Shared->Prop),Inv X pins σ H s->(∀b∈fp,vT X pins H b)->tn i s.heap->J.go i H->
  wpAny (model P w) X.A (pyNext (.ref it)) (λr s1=>∃u,r=some u/\
   wpAny (model P w) X.A (letOwnedTupleGo tg (.ref it) u) (λ_ s2=>∃x H',Inv X pins σ H' s2/\RelV x u/\J.Fp i H x H'/\tn (i+1) s2.heap/\∀b∈fp,H' b=none) E s1) E s
 done:∀(X:Cx),X.prog=P->X.w=w->X.K=K->X.calm=true->∀(i:Nat)(pins:List (Addr×Obj))(s:Shared)(σ:St)(H:Hp)(E:Value->Shared->Prop),Inv X pins σ H s->(∀b∈fp,vT X pins H b)->tn i s.heap->J.stop i H->
  wpAny (model P w) X.A (pyNext (.ref it)) (λr s1=>r=none/\Inv X pins σ H s1) E s
 self:∀(A:Around)(i:Nat)(s:Shared)(Q:Value->Shared->Prop)(E:Value->Shared->Prop),tn i s.heap->Q (.ref it) s->wpAny (model P w) A (pyIter (.ref it)) Q E s
abbrev TI:=St->Hp->(It->Hp->Prop)->Prop
variable {wi:L2.TI}
def PIE(X:Cx)(pins:List (Addr×Obj))(σ:St)(tg:Expr)(R:It->Hp->Prop)(itv:Value)(s2:Shared):Prop:=
 ∃(it:Addr) (fp:List Addr) (tn:Nat->Heap->Prop) (J:It) (H':Hp),itv=.ref it/\Inv X pins σ H' s2/\Turn X.prog X.w X.K tg J fp it tn/\tn 0 s2.heap/\(∀b∈fp,vT X pins H' b)/\R J H'
def PI(X:Cx)(tg iter:Expr)(wi:TI):Prop:=
 ∀(pins:List (Addr×Obj))(s:Shared)(σ:St)(H:Hp)(R:It->Hp->Prop),Inv X pins σ H s->wi σ H R->
  wpAny (model X.prog X.w) X.A (eval iter X.env) (λv s1=>wpAny (model X.prog X.w) X.A (pyIter v) (PIE X pins σ tg R) X.xe s1) X.xe s
def FC{o:Obj}{vs:Array Value}{Q:Unit->Shared->Prop}(ho:s.heap.get? it=some o)(hc:o.cls=.type n)(hd:o.data=.fields vs)(hn:["enumerate","zip","dict_itemiterator","dict_reverseitemiterator","odict_iterator","itertools.zip_longest","itertools.pairwise"].contains n=false)(hQ:Q Unit.unit s):wpAny M A (letOwnedTupleGo tg (.ref it) u) Q E s:=by
 cases tg<;>first
  |exact ay hQ
  |(cases u<;>first
    |exact ay hQ
    |(refine aj (wpAny_load ho ?_)
      rw[hc,hd];show wpAny M A (if(["enumerate","zip","dict_itemiterator","dict_reverseitemiterator","odict_iterator","itertools.zip_longest","itertools.pairwise"].contains n&&vs[0]?==some (rawInt _))=true then _ else _) Q E s;rw[af (by intro h;rw[hn,Bool.false_and]at h;cases h)];exact ay hQ))
noncomputable def OJ(K:PySem.W.Frag)(a:Addr):It:=
 ⟨λi H=>∃xs x,aM K H a xs/\xs[i]?=some x,λi H x H'=>H'=H/\∀xs,aM K H a xs->xs[i]?=some x,λi H=>∃xs,aM K H a xs/\xs.length<=i⟩
noncomputable def Sd(lo:Int)(n:Nat):It:=⟨λi _=>i<n,λi H x H'=>H'=H/\x=.int (lo+i),λi _=>n<=i⟩
def Mw a it:Turn P w K tg (OJ K a) [it] it (λi h=>h.IsListIter it a i)where
 mem:=by simp
 obj:=λi h st b hb=>by
  have e:b=it:=‹hb›
  subst e;obtain⟨o,e,c,d⟩:=st;exact⟨o,e,λv z=>by rw[d]at z;cases z⟩
 keep:=λi h h' st k=>st.at λo e=>k it ∅ o e
 item:=by
  intro X hP hw hK hc i pins s σ H E I hf st hg;subst hP hw hK;obtain⟨xs,x,hq,hx⟩:=hg;obtain⟨aR,rv,p,hz⟩:=I.list hq;obtain⟨u,hu,ru⟩:=rv.get hx;obtain⟨f0,f1,f2,f3,f4,f5⟩:=hf it ∅;refine wpAny_pyNext_list_item st p.isList ‹hu› λh' Bw sb=>?_;have I1:=I.turned (t':=s.toks) (λb o hb e=>(sb.2 b hb).trans e) f0 f1 f3 f4 f5;obtain⟨o,e,c,d⟩:=id Bw;exact⟨u,rfl,FC e c d ⋯ ⟨x,H,I1,ru,⟨rfl,λys hy=>by rw[I.sR hy hq];exact hx⟩,Bw,λb hb=>(hf b hb).1⟩⟩
 done:=by
  intro X hP hw hK hc i pins s σ H E I hf st hg;subst hP hw hK;obtain⟨xs,hq,hx⟩:=hg;obtain⟨aR,rv,p,hz⟩:=I.list hq;obtain⟨f0,f1,f2,f3,f4,f5⟩:=hf it ∅;have hl:=rv.length;exact wpAny_pyNext_list_end (I.ok.hd hc) st p.isList (by simp;omega) λh' eb=>⟨rfl,I.turned (λb o hb e=>eb b o hb e) f0 f1 f3 f4 f5⟩
 self:=λ_ _ _ _ _ st h=>wpAny_pyIter_listiter st h
def Ii it lo n:Turn P w K tg (Sd lo n) [it] it (λi h=>IsRangeIter h it (lo+(i:Nat)*1) ((n:Int)-(i:Nat)) 1)where
 mem:=by simp
 obj:=λi h st b hb=>by
  have e:b=it:=‹hb›
  subst e;exact⟨_,st,λv z=>by
   have z':=z;cases z'⟩
 keep:=λi h h' st k=>k it ∅ _ st
 item:=by
  intro X hP hw hK hc i pins s σ H E I hf st hg;subst hP hw hK;obtain⟨f0,f1,f2,f3,f4,f5⟩:=hf it ∅;have W:=Walks.range (prog:=X.prog) (w:=X.w) (I.ok.hd hc) it lo 1 n;refine W.item i s _ _ hg st λv h' tk hv Bw kk=>?_;obtain⟨t,rfl⟩:=hv;have I1:Inv X pins σ H {s with heap:=h',toks:=tk} :=I.turned (λb o hb e=>kk b o ‹hb› e) f0 f1 f3 f4 f5;refine⟨_,rfl,FC (n:="range_iterator") Bw rfl rfl ⋯ ⟨.int (lo+i),H,I1,⟨t,?_⟩,⟨rfl,rfl⟩,Bw,λb hb=>(hf b hb).1⟩⟩;rw[Int.mul_one]
 done:=by
  intro X hP hw hK hc i pins s σ H E I hf st hg;obtain⟨f0,f1,f2,f3,f4,f5⟩:=hf it ∅;exact wpAny_pyNext_range_end (I.ok.hd hc) st (by have:n<=i:=hg;omega) λh' eb=>⟨rfl,I.turned (λb o hb e=>eb b o hb e) f0 f1 f3 f4 f5⟩
 self:=λ_ _ _ _ _ st h=>wpAny_pyIter_rangeiter st h
section
def ZM(K:PySem.W.Frag)(tl:TE):TI:=λσ H R=>tl σ H λx H1=>∃a,x=.ref a/\(∃xs,aM K H1 a xs)/\R (OJ K a) H1
def bZ{l:Expr}(hl:PE X l tl):PI X tg l (ZM X.K tl):=by
 intro pins s σ H R I h;refine cJ (hl pins s σ H _ I h) λv s1 acy=>?_;obtain⟨x,H1,I1,r1,q1⟩:=acy;obtain⟨a,e,⟨xs,hq⟩,q⟩:=q1;subst e;cases r1;obtain⟨aR,rv,p,hz⟩:=I1.list hq;refine wpAny_pyIter_list p.isList ?_;refine⟨s1.heap.objs.size,[s1.heap.objs.size],_,_,H1,rfl,I1.kept λb o e=>bQ _ e,Mw a _,⟨_,bw _ rfl,rfl,rfl⟩,λb hb=>?_,q⟩;have e:b=s1.heap.objs.size:=‹hb›
 subst e;exact I1.Di (aL _) (I1.bL.fresh (aL _))
def FD{lo hi:Int}{t u v:Tok}(I:Inv X pins σ H s)(h1: -(2^62)<=lo)(h2:lo<2^62)(h3: -(2^62)<=hi)(h4:hi<2^62)(q:R (Sd lo (hi-lo).toNat) H):wpAny (model X.prog X.w) X.A (pyIter (.ref s.heap.objs.size)) (PIE X pins σ tg R) E {s with heap:=s.heap.push {cls:=.type "range",data:=.fields #[.int lo t,.int hi u,.int 1 v]},toks:=tk} :=by
 refine wpAny_pyIter_range (IsRange.new ..) (small_one h1 h2 h3 h4) ?_;have I1:Inv X pins σ H {s with heap:=s.heap.push {cls:=.type "range",data:=.fields #[.int lo t,.int hi u,.int 1 v]},toks:=tk} :=I.kept λb o e=>bQ _ e;refine⟨(s.heap.push {cls:=.type "range",data:=.fields #[.int lo t,.int hi u,.int 1 v]}).objs.size,[(s.heap.push {cls:=.type "range",data:=.fields #[.int lo t,.int hi u,.int 1 v]}).objs.size],_,_,H,rfl,
  I1.kept λb o e=>bQ _ e,Ii _ lo (hi-lo).toNat,?_,λb hb=>?_,q⟩
 .have e1:lo+((0:Nat):Int)*1=lo:=by simp
  have e2:(((hi-lo).toNat:Nat):Int)-((0:Nat):Int)=Builtin.Range.rangeSize lo hi 1:=by rw[rangeSize_one];split<;>omega
  rw[e1,e2];exact bw _ rfl
 .have e:b=(s.heap.push {cls:=.type "range",data:=.fields #[.int lo t,.int hi u,.int 1 v]}).objs.size:=by simpa using hb
  subst e;exact I1.Di (aL _) (I1.bL.fresh (aL _))
def ZN(ta:TA):TI:=λσ H R=>ta σ H λvs H1=>∃j:Int,vs=[.int j]/\-(2^62)<=j/\j<2^62/\R (Sd 0 j.toNat) H1
def ZO(ta:TA):TI:=λσ H R=>ta σ H λvs H1=>∃i j:Int,vs=[.int i,.int j]/\(-(2^62)<=i/\i<2^62/\-(2^62)<=j/\j<2^62)/\R (Sd i (j-i).toNat) H1
def Bx{a:Expr}{ta:TA}{p pos:Pos}(hg:Gl X "range")(hm:X.mg "range"=none)(ha:PA X [a] ta)(hs:starEach [a] X.env=[(false,eval a X.env)]:=by rfl):PI X tg (.Call (.Name "range" p) [a] [] pos) (ZN ta):=by
 intro pins s σ H R I h;refine Call_ (gq I hg hm boot_range (jD (cJ (ha pos pins s σ H _ I h) λus s1 acz=>?_) hs rfl));obtain⟨vs,H1,I1,r1,q1⟩:=acz;obtain⟨j,e,q1,q2,q⟩:=q1;subst e;cases r1 with
 |cons r rr=>
  cases rr;obtain⟨t,rfl⟩:=r;exact call_range_1 (FD I1 () () q1 q2 ‹q›)
def By{a b:Expr}{ta:TA}{p pos:Pos}(hg:Gl X "range")(hm:X.mg "range"=none)(ha:PA X [a,b] ta)(hs:starEach [a,b] X.env=[(false,eval a X.env),(false,eval b X.env)]:=by rfl)(S7:starEach [b] X.env=[(false,eval b X.env)]:=by rfl):
  PI X tg (.Call (.Name "range" p) [a,b] [] pos) (ZO ta):=by
 intro pins s σ H R I h;refine Call_ (gq I hg hm boot_range (jD (cJ (ha pos pins s σ H _ I h) λus s1 acA=>?_) (by rw[hs,S7]) (by rw[S7];rfl)));obtain⟨vs,H1,I1,r1,q1⟩:=acA;obtain⟨i,j,e,⟨q1,q2,q3,q4⟩,q⟩:=q1;subst e;cases r1 with
 |cons r rr=>
  cases rr with
  |cons r' rr=>
   cases rr;obtain⟨t,rfl⟩:=r;obtain⟨t',rfl⟩:=r';exact call_range_2 (FD I1 q1 q2 q3 q4 q)
def acB(wi:TI)(g:TG)(tb:TS):TS:=λD σ H=>wi σ H λJ H1=>∃W:Nat->Nat->St->Hp->Prop,(∃m,W 0 m σ H1)/\∀i m σ H,W i m σ H->
 (J.stop i H/\D.nx σ H)\/(J.go i H/\∃N:St->Hp->Prop,(∀σ' H',N σ' H'->∃m',m'<m/\W (i+1) m' σ' H')/\∀x H',J.Fp i H x H'->g x σ H' λσ2 H2=>tb {D with nx:=N,ct:=N,bk:=D.nx} σ2 H2)
noncomputable def yl(fp:List Addr)(h:Heap):List (Addr×Obj):=fp.filterMap λb=>(h.get? b).map λo=>(b,o)
def rk{o:Obj}(hb:b∈fp)(e:h.get? b=some o):(b,o)∈yl fp h:=mem_filterMap.mpr ⟨b,hb,by rw[e];rfl⟩
def Mx(hp:p∈yl fp h):p.1∈fp/\h.get? p.1=some p.2:=by
 obtain⟨b,hb,e⟩:=mem_filterMap.mp hp;cases q:h.get? b with
 |none=>rw[q]at e;cases e
 |some o=>
  rw[q]at e;have e':=Option.some.inj e;subst e';exact⟨hb,q⟩
def Inv.pinned(I:Inv X pins σ H s)(hf:∀b∈fp,vT X pins H b)(ho:∀b∈fp,∃o,s.heap.get? b=some o/\∀v,o.data≠ .cell v):Inv X (pins++yl fp s.heap) σ H s:=
 I.mH λp hp=>(mem_append.mp hp).elim (λz=>I.pin p (mm _ z)) λz=>by
  obtain⟨hb,e⟩:=Mx z;obtain⟨f0,f1,f2,_⟩:=hf p.1 hb;obtain⟨o,e',d⟩:=ho p.1 hb;rw[e]at e';cases e';exact⟨e,f0,f1,f2,d⟩
def Inv.sS(I:Inv X (pins++pl) σ H s):Inv X pins σ H s:=I.mH λp hp=>I.pin p (mm _ (wU _ hp))
def fJ{body:List Stmt}{pos:Pos}(hp:PassesOwn (model X.prog X.w) X.A X.env X.xe)(hc:X.calm=true)(hi:PI X tg iter wi)(hg:PG X tg g)(hb:vS X body tb)(hs:∀x,foldedSetIterable iter X.env x=pure x:=by intro _;rfl):PS X (.For tg iter body [] pos) (acB wi g tb):=by
 intro pins s σ H D I h;refine wpAny_For (cJ (hi pins s σ H _ I h) λv s1 h1=>cJ h1 λitv s2 h2=>?_) hs;obtain⟨it,fp,tn,J,H2,e,I2,T,st2,f2,W,⟨m0,w0⟩,turn⟩:=h2;subst e;have stat:∀{H':Hp},(∀b∈fp,H' b=none)->∀b∈fp,vT X pins H' b:=λhn b hb=>⟨hn b hb,(f2 b hb).2⟩;refine codeAny_forLoop_any (λn s'=>∃i σ' H',Inv X pins σ' H' s'/\tn i s'.heap/\(∀b∈fp,H' b=none)/\W i n σ' H') ?_ m0 ⟨0,σ,H2,I2,st2,λb hb=>(f2 b hb).1,w0⟩;rintro n s3 ⟨i,σ3,H3,I3,st3,fr3,w3⟩;obtain⟨stop,qn⟩|⟨go,N,hN,step⟩:=turn i n σ3 H3 w3
 .refine sE hp (cJ (T.done X rfl rfl rfl hc i pins s3 σ3 H3 X.xe I3 (stat fr3) st3 stop) λr s4 acC=>?_);obtain⟨hr,I4⟩:=acC;subst hr;exact wV ⟨σ3,H3,I4,qn⟩
 .refine sE hp (cJ (T.item X rfl rfl rfl hc i pins s3 σ3 H3 X.xe I3 (stat fr3) st3 go) λr s4 acD=>?_);obtain⟨u,hr,h4⟩:=acD;subst hr;refine sE hp (cJ h4 λ_ s5 acE=>?_);obtain⟨x,H5,I5,r5,y5,Y0,fr5⟩:=acE;have I5':=I5.pinned (stat fr5) (T.obj _ _ Y0);refine sE hp (cJ (hg _ s5 σ3 H5 x u _ I5' r5 (step x H5 y5)) λ_ s6 acF=>?_);obtain⟨σ6,H6,I6,q6⟩:=acF;refine sE hp (cJ (hb _ s6 σ6 H6 _ I6 q6) λf s7 q7=>?_);have again:∀{σ7:St}{H7:Hp},Inv X (pins++yl fp s5.heap) σ7 H7 s7->N σ7 H7->∃m,m<n/\∃i σ' H',Inv X pins σ' H' s7/\tn i s7.heap/\(∀b∈fp,H' b=none)/\W i m σ' H':=λ{σ7 H7} I7 n7=>by
   obtain⟨m',hm,w7⟩:=hN σ7 H7 n7;refine⟨m',hm,i+1,σ7,H7,I7.sS,T.keep _ _ _ Y0 λb hb o e=>(I7.pin (b,o) (mm _ (mm _ (rk hb e)))).1,λb hb=>?_,w7⟩;obtain⟨o,e,d⟩:=T.obj _ _ Y0 b hb;exact(I7.pin (b,o) (mm _ (mm _ (rk hb e)))).2.1
  cases f with
  |next=>obtain⟨σ7,H7,I7,n7⟩:=q7;exact again I7 n7
  |cont=>obtain⟨σ7,H7,I7,n7⟩:=q7;exact again I7 n7
  |brk=>obtain⟨σ7,H7,I7,q7⟩:=q7;exact⟨σ7,H7,I7.sS,q7⟩
  |ret v=>obtain⟨x7,σ7,H7,I7,r7,q7⟩:=q7;exact⟨x7,σ7,H7,I7.sS,r7,q7⟩
end
def iP{D:Ends}(Pv:Nat->St->Hp->Prop)(h0:Pv 0 σ H)(hl:∀i σ H,i<=xs.length->Pv i σ H->aM K H a xs)(hs:∀i x σ H,xs[i]?=some x->Pv i σ H->g x σ H λσ2 H2=>tb {D with nx:=Pv (i+1),ct:=Pv (i+1),bk:=D.nx} σ2 H2)(hd:∀σ H,Pv xs.length σ H->D.nx σ H):
  ∃W:Nat->Nat->St->Hp->Prop,(∃m,W 0 m σ H)/\∀i m σ H,W i m σ H->
   ((OJ K a).stop i H/\D.nx σ H)\/((OJ K a).go i H/\∃N:St->Hp->Prop,(∀σ' H',N σ' H'->∃m',m'<m/\W (i+1) m' σ' H')/\∀x H',(OJ K a).Fp i H x H'->g x σ H' λσ2 H2=>tb {D with nx:=N,ct:=N,bk:=D.nx} σ2 H2):=by
 refine⟨λi m σ H=>m=xs.length-i/\i<=xs.length/\Pv i σ H,⟨xs.length,by simp,cz _,h0⟩,?_⟩;rintro i m σ H ⟨rfl,hi,p⟩;have q:=hl i σ H hi p;by_cases dR:i<xs.length
 .refine .inr ⟨⟨xs,xs[i],q,by simp[dR]⟩,Pv (i+1),λσ' H' p'=>⟨xs.length-(i+1),by omega,rfl,dR,p'⟩,λx H' y=>?_⟩;obtain⟨e,y⟩:=y;subst e;exact hs i x σ _ (y xs q) p
 .have e:i=xs.length:=by omega
  subst e;exact .inl ⟨⟨xs,q,aL _⟩,hd σ H p⟩
def Bz{lo:Int}{D:Ends}(Pv:Nat->St->Hp->Prop)(h0:Pv 0 σ H)(hs:∀i σ H,i<n->Pv i σ H->g (.int (lo+i)) σ H λσ2 H2=>tb {D with nx:=Pv (i+1),ct:=Pv (i+1),bk:=D.nx} σ2 H2)(hd:∀σ H,Pv n σ H->D.nx σ H):
  ∃W:Nat->Nat->St->Hp->Prop,(∃m,W 0 m σ H)/\∀i m σ H,W i m σ H->
   ((Sd lo n).stop i H/\D.nx σ H)\/((Sd lo n).go i H/\∃N:St->Hp->Prop,(∀σ' H',N σ' H'->∃m',m'<m/\W (i+1) m' σ' H')/\∀x H',(Sd lo n).Fp i H x H'->g x σ H' λσ2 H2=>tb {D with nx:=N,ct:=N,bk:=D.nx} σ2 H2):=by
 refine⟨λi m σ H=>m=n-i/\i<=n/\Pv i σ H,⟨n,by simp,cz _,h0⟩,?_⟩;rintro i m σ H ⟨rfl,hi,p⟩;by_cases dR:i<n
 .refine .inr ⟨dR,Pv (i+1),λσ' H' p'=>⟨n-(i+1),by omega,rfl,dR,p'⟩,λx H' y=>?_⟩;obtain⟨e,y⟩:=y;subst e y;exact hs i σ _ dR p
 .have e:i=n:=by omega
  subst e;exact .inl ⟨aL _,hd σ H p⟩
abbrev R2:=V->V->Hp->VK->Prop
def p_(X:Cx)(f:Value->Value->Sem Value)(r:R2):Prop:=
 ∀(pins:List (Addr×Obj))(s:Shared)(σ:St)(H:Hp)(x y:V)(v u:Value)(Q:VK),Inv X pins σ H s->RelV x v->RelV y u->r x y H Q->
  wpAny (model X.prog X.w) X.A (f v u) (EP X pins σ Q) X.xe s
def UnR(X:Cx)(f:Value->Sem Value)(r:V->Hp->VK->Prop):Prop:=
 ∀(pins:List (Addr×Obj))(s:Shared)(σ:St)(H:Hp)(x:V)(v:Value)(Q:VK),Inv X pins σ H s->RelV x v->r x H Q->
  wpAny (model X.prog X.w) X.A (f v) (EP X pins σ Q) X.xe s
def kn(X:Cx)(f:Value)(r:List V->Hp->VK->Prop):Prop:=
 ∀(pins:List (Addr×Obj))(s:Shared)(σ:St)(H:Hp)(xs:List V)(us:List Value)(Q:VK),Inv X pins σ H s->Vals xs us->r xs H Q->
  wpAny (model X.prog X.w) X.A (call f us) (EP X pins σ Q) X.xe s
def S8(r:R2)(ta tb:TE):TE:=λσ H Q=>ta σ H λx H1=>tb σ H1 λy H2=>r x y H2 Q
def tUn(r:V->Hp->VK->Prop)(ta:TE):TE:=λσ H Q=>ta σ H λx H1=>r x H1 Q
def rI(C:Int->Int->Prop)(g:Int->Int->V):R2:=λx y H Q=>eI x λi=>eI y λj=>C i j/\Q (g i j) H
def OL(g:Int->Int->V):R2:=λx y H Q=>eI x λi=>eI y λj=>Q (g i j) H
def rU(g:Int->V):V->Hp->VK->Prop:=λx H Q=>eI x λi=>Q (g i) H
section
variable {a b c:Expr} {tb tc:TE}
def S9(ha:PE X a ta)(hb:PE X b tb){R:V->V->Hp->Prop}(I:Inv X pins σ H s)(h:ta σ H λx H1=>tb σ H1 λy H2=>R x y H2){f:Value->Value->Sem Value}(hf:∀v u s2 x y H2,Inv X pins σ H2 s2->RelV x v->RelV y u->R x y H2->wpAny (model X.prog X.w) X.A (f v u) Q X.xe s2):
  wpAny (model X.prog X.w) X.A (eval a X.env) (λv s₁=>wpAny (model X.prog X.w) X.A (eval b X.env) (λu s₂=>wpAny (model X.prog X.w) X.A (f v u) Q X.xe s₂) X.xe s₁) X.xe s:=by
 refine cJ (ha pins s σ H _ I h) λv s1 acG=>?_;obtain⟨x,H1,I1,r1,q1⟩:=acG;refine cJ (hb pins s1 σ H1 _ I1 q1) λu s2 acH=>?_;obtain⟨y,H2,I2,r2,q2⟩:=acH;exact hf v u s2 x y H2 I2 r1 r2 q2
def bR{op:Operator}{r:R2}(ho:p_ X (binaryOp op) r)(ha:PE X a ta)(hb:PE X b tb):PE X (.BinOp a op b pos) (S8 r ta tb):=by
 intro pins s σ H Q I h;exact wpAny_BinOp (S9 ha hb I h λv u s2 x y H2 I2 rx ry q=>ho pins s2 σ H2 x y v u Q I2 rx ry q)
def qK{op:UnaryOp}{r:V->Hp->VK->Prop}(ho:UnR X (unaryOp op) r)(ha:PE X a ta):PE X (.UnaryOp op a pos) (tUn r ta):=by
 intro pins s σ H Q I h;refine UnaryOp_ (cJ (ha pins s σ H _ I h) λv s1 acI=>?_);obtain⟨x,H1,I1,r1,q1⟩:=acI;exact ho pins s1 σ H1 x v Q I1 r1 q1
def opI{f:Value->Value->Sem Value}{g:Int->Int->Int}(rule:∀i j t u s Q E,C i j->Q (.int (g i j) s.toks) {s with toks:=s.toks+1}->wpAny (model X.prog X.w) X.A (f (.int i t) (.int j u)) Q E s):
  p_ X f (rI C λi j=>.int (g i j)):=by
 intro pins s σ H x y v u Q I rx ry h;obtain⟨i,rfl,h1⟩:=fI.mp h;obtain⟨j,rfl,hc,q⟩:=fI.mp h1;obtain⟨t,rfl⟩:=rx;obtain⟨t',rfl⟩:=ry;exact rule i j t t' s _ _ hc ⟨.int (g i j),H,I.tok _,⟨_,rfl⟩,q⟩
def ZP{f:Value->Value->Sem Value}{g:Int->Int->Int}(rule:∀i j t u s Q E,Q (.int (g i j) s.toks) {s with toks:=s.toks+1}->wpAny (model X.prog X.w) X.A (f (.int i t) (.int j u)) Q E s):
  p_ X f (OL λi j=>.int (g i j)):=by
 intro pins s σ H x y v u Q I rx ry h;obtain⟨i,rfl,h1⟩:=fI.mp h;obtain⟨j,rfl,q⟩:=fI.mp h1;obtain⟨t,rfl⟩:=rx;obtain⟨t',rfl⟩:=ry;exact rule i j t t' s _ _ ⟨.int (g i j),H,I.tok _,⟨_,rfl⟩,q⟩
def S_{f:Value->Value->Sem Value}{g:Int->Int->Bool}(rule:∀i j t u s Q E,Q (.bool (g i j)) s->wpAny (model X.prog X.w) X.A (f (.int i t) (.int j u)) Q E s):
  p_ X f (OL λi j=>.bl (g i j)):=by
 intro pins s σ H x y v u Q I rx ry h;obtain⟨i,rfl,h1⟩:=fI.mp h;obtain⟨j,rfl,q⟩:=fI.mp h1;obtain⟨t,rfl⟩:=rx;obtain⟨t',rfl⟩:=ry;exact rule i j t t' s _ _ ⟨.bl (g i j),H,I,rfl,q⟩
def acJ(i j:Int):Prop:=0<j/\j<1073741824
def OM(i j:Int):Prop:=(-(2^64)<i/\i<2^64)\/(-(2^64)<j/\j<2^64)
theorem OM.ok{i j:Int}(h:OM i j):IntMulOk i j:=by
 obtain⟨h1,h2⟩|⟨h1,h2⟩:=h
 .exact .of_left (intBits_le_64 h1 h2)
 .exact .of_right (intBits_le_64 h1 h2)
def fV:p_ X (binaryOp .Add) (OL λi j=>.int (i+j)):=ZP λ_ _ _ _ _ _ _ q=>add_int q
def ib:p_ X (binaryOp .Sub) (OL λi j=>.int (i-j)):=ZP λ_ _ _ _ _ _ _ q=>sub_int q
def rm:p_ X (binaryOp .Mult) (rI OM λi j=>.int (i*j)):=opI λ_ _ _ _ _ _ _ hc q=>mul_int q hc.ok
def Ta:p_ X (binaryOp .FloorDiv) (rI acJ λi j=>.int (i/j)):=opI λi j _ _ _ _ _ hc q=>by
 have h1:=hc.1;have h2:=hc.2;exact floordiv_int () (by rw[Int.fdiv_eq_ediv_of_nonneg i ()];exact q) (.inl (PyProof.noPylong_small ()))
def OO:p_ X (binaryOp .Mod) (rI (λ_ j=>0<j) λi j=>.int (i%j)):=opI λi j _ _ _ _ _ hc q=>by
 have h1:=hc;exact mod_int' () (by rw[Int.fmod_eq_emod_of_nonneg i ()];exact q)
def unI{f:Value->Sem Value}{g:Int->Int}(rule:∀i t s Q E,Q (.int (g i) s.toks) {s with toks:=s.toks+1}->wpAny (model X.prog X.w) X.A (f (.int i t)) Q E s):
  UnR X f (rU λi=>.int (g i)):=by
 intro pins s σ H x v Q I rx h;obtain⟨i,rfl,q⟩:=fI.mp h;obtain⟨t,rfl⟩:=rx;exact rule i t s _ _ ⟨.int (g i),H,I.tok _,⟨_,rfl⟩,q⟩
def kR:UnR X (unaryOp .USub) (rU λi=>.int (-i)):=unI λ_ _ _ _ _ q=>neg_int q
end
noncomputable def Dj:V->V->Bool
 |.cV,.cV=>true|.cV,.int _=>true|.int _,.cV=>true|.cV,.bl _=>true|.bl _,.cV=>true|.cV,.str _=>true|.str _,.cV=>true
 |.int _,.int _=>true|.bl _,.bl _=>true|.str _,.str _=>true|.HP _,.HP _=>true
 |.int _,.str _=>true|.str _,.int _=>true|.bl _,.str _=>true|.str _,.bl _=>true
 |_,_=>false
def Vy:R2:=λx y H Q=>bT (Dj x y) (Q (.bl (decide (x=y))) H)
def rNe:R2:=λx y H Q=>bT (Dj x y) (Q (.bl (!decide (x=y))) H)
def Ks{i j:Int}:decide (V.int i=V.int j)=(i==j):=by
 rw[jJ];simp
def OQ{i j:Bool}:decide (V.bl i=V.bl j)=(i==j):=by
 rw[jJ];simp
def Kt{i j:Str}:decide (V.str i=V.str j)=(i==j):=by
 rw[jJ];simp
def Ku{i j:Array UInt8}:decide (V.HP i=V.HP j)=(i.toList==j.toList):=by
 rw[jJ];cases i;cases j;simp
section
variable {a b c:Expr} {tb tc:TE}
def bM{Q:VK}(I:Inv X pins σ H s)(q:Q (.bl k) H)(e:k=k'):EP X pins σ Q (.bool k') s:=by
 subst e;exact⟨.bl k,H,I,rfl,q⟩
def cD:p_ X (compareOp .Eq) Vy:=by
 intro pins s σ H x y v u Q I rx ry h;obtain⟨hs,q⟩:=Ic.mp h;cases x with
 |cV=>
  cases rx;cases y with
  |cV=>cases ry;exact PySem.EqNone.eq_none_none (bM I q ∅)
  |bl j=>cases ry;exact PySem.EqNone.eq_none_bool (bM I q ∅)
  |int j=>obtain⟨t',rfl⟩:=ry;exact PySem.EqNone.eq_none_int (bM I q ∅)
  |str j=>obtain⟨t',rfl⟩:=ry;exact PySem.EqNone.eq_none_str (bM I q ∅)
  |_=>exact absurd (show false=true from hs) b_
 |bl i=>
  cases rx;cases y with
  |cV=>cases ry;exact PySem.EqNone.eq_bool_none (bM I q ∅)
  |bl j=>cases ry;exact eq_bool (bM I q OQ)
  |str j=>obtain⟨t',rfl⟩:=ry;exact PySem.EqMixed.eq_bool_str (bM I q ∅)
  |_=>exact absurd (show false=true from hs) b_
 |int i=>
  obtain⟨t,rfl⟩:=rx;cases y with
  |cV=>cases ry;exact PySem.EqNone.eq_int_none (bM I q ∅)
  |int j=>obtain⟨t',rfl⟩:=ry;exact eq_int (bM I q Ks)
  |str j=>obtain⟨t',rfl⟩:=ry;exact PySem.EqMixed.eq_int_str (bM I q ∅)
  |_=>exact absurd (show false=true from hs) b_
 |str i=>
  obtain⟨t,rfl⟩:=rx;cases y with
  |cV=>cases ry;exact PySem.EqNone.eq_str_none (bM I q ∅)
  |bl j=>cases ry;exact PySem.EqMixed.eq_str_bool (bM I q ∅)
  |int j=>obtain⟨t',rfl⟩:=ry;exact PySem.EqMixed.eq_str_int (bM I q ∅)
  |str j=>obtain⟨t',rfl⟩:=ry;exact eq_str (bM I q Kt)
  |_=>exact absurd (show false=true from hs) b_
 |HP i=>
  obtain⟨t,rfl⟩:=rx;cases y with
  |HP j=>obtain⟨t',rfl⟩:=ry;exact PySem.W.eq_bytes (bM I q Ku)
  |_=>exact absurd (show false=true from hs) b_
 |_=>cases y<;>exact absurd (show false=true from hs) b_
def BA:p_ X (compareOp .NotEq) rNe:=by
 intro pins s σ H x y v u Q I rx ry h;obtain⟨hs,q⟩:=Ic.mp h;cases x with
 |cV=>
  cases rx;cases y with
  |cV=>cases ry;exact PySem.EqNone.ne_none_none (bM I q ∅)
  |bl j=>cases ry;exact PySem.EqNone.ne_none_bool (bM I q ∅)
  |int j=>obtain⟨t',rfl⟩:=ry;exact PySem.EqNone.ne_none_int (bM I q ∅)
  |str j=>obtain⟨t',rfl⟩:=ry;exact PySem.EqNone.ne_none_str (bM I q ∅)
  |_=>exact absurd (show false=true from hs) b_
 |bl i=>
  cases rx;cases y with
  |cV=>cases ry;exact PySem.EqNone.ne_bool_none (bM I q ∅)
  |bl j=>cases ry;exact ne_bool (bM I q (cb not OQ))
  |str j=>obtain⟨t',rfl⟩:=ry;exact PySem.EqMixed.ne_bool_str (bM I q ∅)
  |_=>exact absurd (show false=true from hs) b_
 |int i=>
  obtain⟨t,rfl⟩:=rx;cases y with
  |cV=>cases ry;exact PySem.EqNone.ne_int_none (bM I q ∅)
  |int j=>obtain⟨t',rfl⟩:=ry;exact ne_int (bM I q (cb not Ks))
  |str j=>obtain⟨t',rfl⟩:=ry;exact PySem.EqMixed.ne_int_str (bM I q ∅)
  |_=>exact absurd (show false=true from hs) b_
 |str i=>
  obtain⟨t,rfl⟩:=rx;cases y with
  |cV=>cases ry;exact PySem.EqNone.ne_str_none (bM I q ∅)
  |bl j=>cases ry;exact PySem.EqMixed.ne_str_bool (bM I q ∅)
  |int j=>obtain⟨t',rfl⟩:=ry;exact PySem.EqMixed.ne_str_int (bM I q ∅)
  |str j=>obtain⟨t',rfl⟩:=ry;exact ne_str (bM I q (cb not Kt))
  |_=>exact absurd (show false=true from hs) b_
 |HP i=>
  obtain⟨t,rfl⟩:=rx;cases y with
  |HP j=>obtain⟨t',rfl⟩:=ry;exact PySem.W.ne_bytes (bM I q (cb not Ku))
  |_=>exact absurd (show false=true from hs) b_
 |_=>cases y<;>exact absurd (show false=true from hs) b_
def BD:p_ X (compareOp .Lt) (OL λi j=>.bl (decide (i<j))):=S_ λ_ _ _ _ _ _ _ q=>lt_int q
def jN:p_ X (compareOp .LtE) (OL λi j=>.bl (decide (i<=j))):=S_ λ_ _ _ _ _ _ _ q=>le_int q
def vj:p_ X (compareOp .Gt) (OL λi j=>.bl (decide (j<i))):=S_ λ_ _ _ _ _ _ _ q=>gt_int q
def FE:p_ X (compareOp .GtE) (OL λi j=>.bl (decide (j<=i))):=S_ λ_ _ _ _ _ _ _ q=>ge_int q
def WX:p_ X (compareOp .Is) (λx y H Q=>y=.cV/\Q (.bl (decide (x=.cV))) H):=by
 intro pins s σ H x y v u Q I rx ry h;obtain⟨rfl,q⟩:=h;cases ry;refine is_none_gen (bM I q ?_);cases x<;>first
  |(cases rx;rfl)
  |(obtain⟨t,rfl⟩:=rx;rfl)
def Kv:p_ X (compareOp .IsNot) (λx y H Q=>y=.cV/\Q (.bl (!decide (x=.cV))) H):=by
 intro pins s σ H x y v u Q I rx ry h;obtain⟨rfl,q⟩:=h;cases ry;refine isnot_none_gen (bM I q ?_);cases x<;>first
  |(cases rx;rfl)
  |(obtain⟨t,rfl⟩:=rx;rfl)
def aG(b:Expr)(h:op≠ .In:=by decide)(h2:op≠ .NotIn:=by decide):behindInMarks op b=false:=yh b h h2
def aU{r:R2}(ho:p_ X (compareOp op) r)(ha:PE X a ta)(hb:PE X b tb)(hm:behindInMarks op b=false):PE X (.Compare a [op] [b] pos) (S8 r ta tb):=by
 intro pins s σ H Q I h;exact wpAny_Compare1 (S9 ha hb I h λv u s2 x y H2 I2 rx ry q=>ho pins s2 σ H2 x y v u Q I2 rx ry q) hm
def BE(t:TE):TT:=λσ H Q=>t σ H λx H'=>eB x λk=>Q k H'
def bx{r:R2}(ho:p_ X (compareOp op) r)(ha:PE X a ta)(hb:PE X b tb)(hm:behindInMarks op b=false):PT X (.Compare a [op] [b] pos) (BE (S8 r ta tb)):=by
 intro pins s σ H Q I h;refine wpAny_isTrue_Compare1 (cJ (ha pins s σ H _ I h) λv s1 acK=>?_) hm;obtain⟨x,H1,I1,r1,q1⟩:=acK;refine cJ (hb pins s1 σ H1 _ I1 q1) λu s2 acL=>?_;obtain⟨y,H2,I2,r2,q2⟩:=acL;refine cJ (ho pins s2 σ H2 x y v u _ I2 r1 r2 q2) λc s3 acM=>?_;obtain⟨z,H3,I3,r3,q3⟩:=acM;obtain⟨k,rfl,q3⟩:=kO.mp q3;cases r3;exact mh ⟨H3,I3,q3⟩
def Dk(r r':R2)(ta tb tc:TE):TE:=λσ H Q=>ta σ H λx H1=>tb σ H1 λy H2=>r x y H2 λz H3=>eB z λk=>
 if k=true then tc σ H3 λw' H4=>r' y w' H4 Q else Q (.bl false) H3
def ym{WY:CmpOp}{r r':R2}(ho:p_ X (compareOp op) r)(xj:p_ X (compareOp WY) r')(ha:PE X a ta)(hb:PE X b tb)(hc:PE X c tc)(hm:lastMarks [op,WY] [b,c]=false:=by with_unfolding_all rfl):PE X (.Compare a [op,WY] [b,c] pos) (Dk r r' ta tb tc):=by
 intro pins s σ H Q I h;refine Compare_chain (cJ (ha pins s σ H _ I h) λv s1 acN=>?_) hm;obtain⟨x,H1,I1,r1,q1⟩:=acN;refine chain_link (cJ (hb pins s1 σ H1 _ I1 q1) λu s2 acO=>?_);obtain⟨y,H2,I2,r2,q2⟩:=acO;refine cJ (ho pins s2 σ H2 x y v u _ I2 r1 r2 q2) λd s3 acP=>?_;obtain⟨z,H3,I3,r3,q3⟩:=acP;obtain⟨k,rfl,q3⟩:=kO.mp q3;cases r3;refine mh ?_;cases k with
 |false=>exact ite_ff ⟨.bl false,H3,I3,rfl,q3⟩|true=>exact ite_tt (chain_last (cJ (hc pins s3 σ H3 _ I3 q3) λw' s4 ⟨z',H4,I4,r4,q4⟩=>xj pins s4 σ H4 y z' u w' Q I4 r2 r4 q4))
def yn{WY:CmpOp}{r r':R2}(ho:p_ X (compareOp op) r)(xj:p_ X (compareOp WY) r')(ha:PE X a ta)(hb:PE X b tb)(hc:PE X c tc)(hm:lastMarks [op,WY] [b,c]=false:=by with_unfolding_all rfl):PT X (.Compare a [op,WY] [b,c] pos) (BE (Dk r r' ta tb tc)):=by
 intro pins s σ H Q I h;refine isTrue_chain (cJ (ha pins s σ H _ I h) λv s1 acQ=>?_) hm;obtain⟨x,H1,I1,r1,q1⟩:=acQ;refine test_link (cJ (hb pins s1 σ H1 _ I1 q1) λu s2 acR=>?_);obtain⟨y,H2,I2,r2,q2⟩:=acR;refine cJ (ho pins s2 σ H2 x y v u _ I2 r1 r2 q2) λd s3 acS=>?_;obtain⟨z,H3,I3,r3,q3⟩:=acS;obtain⟨k,rfl,q3⟩:=kO.mp q3;cases r3;refine mh ?_;cases k with
 |false=>
  exact ite_ff ⟨H3,I3,q3⟩
 |true=>
  refine ite_tt (test_last (cJ (hc pins s3 σ H3 _ I3 q3) λw' s4 acT=>?_));obtain⟨z',H4,I4,r4,q4⟩:=acT;refine cJ (xj pins s4 σ H4 y z' u w' _ I4 r2 r4 q4) λd' s5 acU=>?_;obtain⟨z2,H5,I5,r5,q5⟩:=acU;obtain⟨k2,rfl,q5⟩:=kO.mp q5;cases r5;exact mh ⟨H5,I5,q5⟩
def Dl:(sizeLine:Nat)<2^63:=by rw[cG];decide
def OS(b:Expr):Prop:=∀o i,subscripted b false o i=operate [o,i] (getItem o i)
def kq(ha:PE X a ta)(hb:PE X b tb)(hs:OS b):
  PE X (.Subscript a b pos) (S8 (λx y H Q=>∃z i c,x=.str z/\y=.int i/\0<=i/\i<2^63/\i<z.length/\z.cps[i.toNat]?=some c/\Q (.str ⟨#[c]⟩) H) ta tb):=by
 intro pins s σ H Q I h;refine Subscript_ (S9 ha hb I h λv u s2 x y H2 I2 rx ry q=>?_);obtain⟨z,i,c,rfl,rfl,h0,h63,h1,hc,q⟩:=q;obtain⟨t,rfl⟩:=rx;obtain⟨t',rfl⟩:=ry;have e:=PySem.StrLaws.seqIndex_nonneg h0 h1;exact tail_any (mD s2 z t) slot_str_getitem.lookup (getItem_str (by
  have e1:decide (i< -(2^63:Int))=false:=cU ();have e2:decide (i≥2^63)=false:=cU ();rw[e1,e2] <;>rfl) (by rw[e];exact hc) ⟨.str ⟨#[c]⟩,H2,I2.tok _,⟨_,rfl⟩,q⟩) (hs _ _)
def vals1{x:V}(r:Vals [x] us):∃u,us=[u]/\RelV x u:=by
 cases r with
 |cons r1 r2=>cases r2;exact⟨_,rfl,r1⟩
def lG:kn X (.builtin "ord") (λxs H Q=>eT xs λx=>x.length=1/\Q (.int (x.cps.getD 0 0:Nat)) H):=by
 intro pins s σ H xs us Q I r h;obtain⟨x,rfl,hz,q⟩:=Df.mp h;obtain⟨u,rfl,t,rfl⟩:=vals1 r;exact ord_of_one hz ⟨.int _,H,I.tok _,⟨_,rfl⟩,q⟩
end
structure My(h:Heap)(x dx C:Addr)(mA:Str->Option Value):Prop where
 obj:h.get? x=some (PySem.W.instObj C dx)
 ns:h.Ns1 dx mA
 ne:dx≠x
def Mz(n:h.Ns1 dx mA):∃od,h.get? dx=some od/\∀name,PySem.W.lookIn name od=some (mA name):=by
 obtain⟨o,es,ep,ho,hd,hk,_,hm⟩:=n;refine⟨o,ho,λname=>?_⟩;have e:=hm name;unfold nsFind findBy at e;rw[<-Array.find?_toList]at e;unfold PySem.W.lookIn;rw[hd];dsimp only;split
 .rename_i y q;rw[q]at e;exact cb some e
 .rename_i q;rw[q]at e;have a:es.toList.any (·.refKey)=false:=by
   rw[any_eq_false];intro y hy;obtain⟨z,t,WZ⟩:=hk y (Array.mem_toList_iff.mp hy);simp[DictEntry.refKey,WZ]
  have a':¬es.toList.any (·.refKey)=true:=by rw[a];exact b_
  rw[af a'];exact cb some e
def My.look{x C:Addr}(I:My h x dx C mA):∃od,PySem.W.InstAt h x (PySem.W.instObj C dx) C (some od)/\∀name,PySem.W.lookIn name od=some (mA name):=
 let⟨od,ho,hl⟩:=Mz I.ns
 ⟨od,⟨I.obj,rfl,rfl,ho⟩,hl⟩
section
variable {x C:Addr} {mA:Str->Option Value} {v:Value}
def get_map(X:K.In s.heap)(I:My s.heap x dx C mA)(hg:PySem.W.plainGet K C name=true)(hh:PySem.W.hasDictIn K C=true)(ha:PySem.W.findIn K (.ref C) name=some none)(hv:mA name=some v)(hv':PySem.W.handedIn v=true)(h:Q v {s with toks:=s.toks+1}):
  wpAny (model prog w) A (getAttr (.ref x) name expr) Q E s:=by
 obtain⟨od,J,hl⟩:=I.look;exact PySem.W.get_value X J (PySem.W.plainGet_of hg).1 (PySem.W.findObj_own hh ha rfl (by rw[hl,hv])) hv' h
def Tc{ns:List Str}{Q:Unit->Shared->Prop}(X:K.In s.heap)(I:My s.heap x dx C mA)(hs:PySem.W.findIn K (.ref C) "__setattr__"=some (some (.builtin "object.__setattr__")))(hp:PySem.W.plainOver K C=true)(ht:PySem.W.takerIn K C name=some none)(hh:PySem.W.hasDictIn K C=true)(hw:PySem.Within mA ns)(f7:ns.length<=sizeLine)(h:∀h',My h' x dx C (λy=>if y=name then some v else mA y)->Heap.SameBut dx s.heap h'->Q Unit.unit {s with heap:=h',toks:=s.toks+2}):
  wpAny (model prog w) A (setAttr (.ref x) name v) Q E s:=by
 obtain⟨od,J,hl⟩:=I.look;refine PySem.W.set_plain X J hs (PySem.W.osa_open (r:=none) X J hp ht λb=>?_);obtain⟨cd,hc,Ib⟩:=PySem.W.any_some hh;have hx:=I.obj;refine aj (ay (aj (aj (wpAny_loadPart hx (aj (PySem.W.Looks.here (PySem.W.looks_clsIn X hc) ?_))))));rw[Ib];refine ay (aj (ay (aj ?_)));refine wpAny_nsSet1 I.ns λh' Y1 S7=>?_;obtain⟨oD,esD,epD,hoD,hdD,hcD⟩:=Y1.count (PySem.Within.cons name v hw);refine aj (wpAny_lookBehind hoD (by rw[hdD];exact pastItsLine_dict (aX hcD (by rw[aY];omega))) ?_);exact ay (h _ ⟨(S7.2 _ (c6 I.ne)).trans I.obj,Y1,I.ne⟩ S7)
def FG(X:K.In s.heap)(hm:PySem.W.makesIn K C=true)(hi:PySem.W.findIn K (.ref C) "__init__"=some (some (.ref f)))(hf:PySem.W.typeIn K (.ref f)=some (.type "function"))(h:codeAny (model prog w) (A.under (.builtin "type.__call__" ⟨.ref C::vs,kw⟩)) (.call (.ref f) ⟨.ref (s.heap.objs.size+1)::vs,kw⟩) (PySem.W.InitBack (s.heap.objs.size+1) R)
   {s with heap:=(s.heap.push PySem.W.emptyDict).push (PySem.W.instObj C s.heap.objs.size)}):
  codeAny (model prog w) A (.call (.ref C) ⟨vs,kw⟩) R s:=by
 obtain⟨hh,g,d,t,os⟩:=s;exact PySem.W.make_core (PySem.W.makes_of X hm) (PySem.W.looks_findIn X hi) (λself=>PySem.W.bind_fn X self hf) (.inl rfl) h
end
noncomputable def gV(f:Str)(v:V):List (Str×V)->List (Str×V)
 |[]=>[(f,v)]|(g,x)::r=>if g=f then(g,v)::r else(g,x)::gV f v r
theorem vk f g v:∀fs:List (Str×V),(gV f v fs).lookup g=if g=f then some v else fs.lookup g
 |[]=>by
  show List.lookup g [(f,v)]=_;by_cases h:g=f
  .have hb:=beq_iff_eq.mpr h;simp only[List.lookup,hb,if_pos h]
  .have hb:=beq_eq_false_iff_ne.mpr h;simp only[List.lookup,hb,if_neg h]
 |(k,x)::r=>by
  have ih:=vk f g v r;rw[show gV f v ((k,x)::r)=(if k=f then(k,v)::r else(k,x)::gV f v r)from rfl];by_cases hk:k=f
  .rw[ag hk];by_cases h:g=k
   .have hb:=beq_iff_eq.mpr h;simp only[List.lookup,hb,if_pos (h.trans hk)]
   .have hb:=beq_eq_false_iff_ne.mpr h;simp only[List.lookup,hb,if_neg (λe:g=f=>h (e.trans hk.symm))]
  .rw[af hk];by_cases h:g=k
   .have hb:=beq_iff_eq.mpr h;simp only[List.lookup,hb,if_neg (λe:g=f=>hk (h.symm.trans e))]
   .have hb:=beq_eq_false_iff_ne.mpr h;simp only[List.lookup,hb];exact ih
theorem ur f v:∀fs:List (Str×V),f∈(gV f v fs).map (·.1)/\∀g,g∈fs.map (·.1)->g∈(gV f v fs).map (·.1)
 |[]=>⟨by simp[gV],λg h=>by simp at h⟩
 |(k,x)::r=>by
  obtain⟨i1,i2⟩:=ur f v r;rw[show gV f v ((k,x)::r)=(if k=f then(k,v)::r else(k,x)::gV f v r)from rfl];by_cases hk:k=f
  .subst hk;exact⟨by simp,λg h=>‹h›⟩
  .rw[af hk];refine⟨?_,λg h=>?_⟩
   .exact bI _ i1
   .obtain e|e:=mem_cons.mp h
    .exact mem_cons.mpr (.inl e)
    .exact bI _ (i2 g e)
theorem vm f v:∀fs:List (Str×V),(gV f v fs).length<=fs.length+1
 |[]=>by simp[gV]
 |(k,x)::r=>by
  have ih:=vm f v r;rw[show gV f v ((k,x)::r)=(if k=f then(k,v)::r else(k,x)::gV f v r)from rfl];by_cases hk:k=f
  .rw[ag hk,aY,aY];omega
  .rw[af hk,aY,aY];omega
def rg.some_of{o:Option Value}(r:rg (some v) o):∃u,o=some u/\RelV v u:=by
 cases o with
 |none=>exact(show False from r).elim
 |some u=>exact⟨u,rfl,r⟩
def MA(r:RelV v u):PySem.W.handedIn u=true:=by
 cases v with
 |cV=>cases(show u=Value.none from r);rfl
 |bl b=>cases(show u=Value.bool b from r);rfl
 |int i=>obtain⟨t,e⟩:=(show∃t,u=Value.int i t from r);cases e;rfl
 |str x=>obtain⟨t,e⟩:=(show∃t,u=Value.str x t from r);cases e;rfl
 |HP b=>obtain⟨t,e⟩:=(show∃t,u=Value.bytes b t from r);cases e;rfl
 |flt b=>obtain⟨t,e⟩:=(show∃t,u=Value.float b t from r);cases e;rfl
 |ref a=>cases(show u=Value.ref a from r);rfl
 |ty n=>cases(show u=Value.type n from r);rfl
section
variable {C:Addr} {fs YX:List (Str×V)}
def Kw(bL:mG P w H h)(e:H a=some (.ins C dx fs)):∃mA,My h a dx C mA/\(∀f,rg (fs.lookup f) (mA f))/\PySem.Within mA (fs.map (·.1))/\fs.length<=1000/\H dx=some (.own a):=by
 obtain⟨d,z,ne,ob,mA,n,r,q⟩:=(show dF P w H h a (.ins C dx fs)from bL a _ e);exact⟨mA,⟨ob,n,ne⟩,r,q,z,d⟩
end
structure FH(K:PySem.W.Frag)(C:Addr):Prop where
 pg:PySem.W.plainGet K C Str.empty=true
 hd:PySem.W.hasDictIn K C=true
 po:PySem.W.plainOver K C=true
 sa:PySem.W.findIn K (.ref C) "__setattr__"=some (some (.builtin "object.__setattr__"))
def FH.get(c:FH K C) f:PySem.W.plainGet K C f=true:=c.pg
def cH(K:PySem.W.Frag)(C:Addr)(f:Str):Prop:=PySem.W.findIn K (.ref C) f=some none
def cH.ZQ{f:Str}(n:cH K C f):PySem.W.takerIn K C f=some none:=by
 unfold PySem.W.takerIn;rw[show PySem.W.findIn K (.ref C) f=some none from n];rfl
section
variable {C:Addr} {fs:List (Str×V)} {f:Str}
def Ij{b:Bool}(I:Inv X pins σ H s)(e:H a=some (.ins C dx fs))(c:FH X.K C)(n:cH X.K C f)(l:fs.lookup f=some v)(h:∀u s',Inv X pins σ H s'->RelV v u->Q u s'):wpAny (model X.prog X.w) A (getAttr (.ref a) f b) Q E s:=by
 obtain⟨mA,O,r,_,_,_⟩:=Kw I.bL e;obtain⟨u,hu,ru⟩:=rg.some_of (v:=v) (by rw[<-l];exact r f);exact get_map I.Fo O (c.get f) c.hd n hu (MA ru) (h u _ (I.tok _) ru)
def Ik{Q:Unit->Shared->Prop}(I:Inv X pins σ H s)(e:H a=some (.ins C dx fs))(c:FH X.K C)(n:cH X.K C f)(hl:fs.length<1000)(ry:RelV y u)(h:∀s',Inv X pins σ (upd H a (.ins C dx (gV f y fs))) s'->Q Unit.unit s'):wpAny (model X.prog X.w) A (setAttr (.ref a) f u) Q E s:=by
 obtain⟨mA,O,r,wi,_,ho⟩:=Kw I.bL e;have hz:(fs.map (·.1)).length<=sizeLine:=by rw[az,cG];omega
 refine Tc I.Fo O c.sa c.po n.ZQ c.hd wi hz λh' O' sb=>h _ ?_;have hd:∃o,h'.get? dx=some o:=let⟨o,_,_,e',_⟩:=O'.ns;⟨o,e'⟩;refine I.write (x:=a) (by rw[e];exact True.intro) (.inr ho) (λb q hb z=>(sb.2 b hb).trans z) hd ?_;refine⟨by rw[aB O.ne];exact ho,?_,O.ne,O'.obj,_,O'.ns,λg=>?_,λg hg=>?_⟩
 .have:=vm f y fs;omega
 .rw[vk];by_cases q:g=f
  .rw[ag q,ag q];exact ry
  .rw[af q,af q];exact r g
 .by_cases q:g=f
  .rw[q];exact(ur f y fs).1
  .refine(ur f y fs).2 g (wi g λz=>hg ?_);show(if g=f then some u else mA g)=none;rw[af q];exact z
def Inv.made(I:Inv X pins σ H s):Inv X pins σ (upd (upd H s.heap.objs.size (.own (s.heap.objs.size+1))) (s.heap.objs.size+1) (.ins C s.heap.objs.size []))
  {s with heap:=(s.heap.push PySem.W.emptyDict).push (PySem.W.instObj C s.heap.objs.size)} :=by
 have e1:(s.heap.push PySem.W.emptyDict).get? s.heap.objs.size=some PySem.W.emptyDict:=bw s.heap rfl;have e2:((s.heap.push PySem.W.emptyDict).push (PySem.W.instObj C s.heap.objs.size)).get? (s.heap.objs.size+1)=some (PySem.W.instObj C s.heap.objs.size):=by
  have:=bw (s.heap.push PySem.W.emptyDict) (o:=PySem.W.instObj C s.heap.objs.size) rfl
  rwa [dW]at this
 have e3:(s.heap.push PySem.W.emptyDict).Ns s.heap.objs.size (λ_=>none):=⟨PySem.W.emptyDict, #[],_,e1,rfl,(λe he=>absurd he ∅),λ_=>rfl⟩;have I1:=I.laid (a:=s.heap.objs.size) (o:=.own (s.heap.objs.size+1)) (t':=s.toks) (λb u q=>bQ _ q) (aL _) ⟨_,e1⟩;refine I1.laid (a:=s.heap.objs.size+1) (t':=s.toks) (λb u q=>bQ _ q) (sL (dW _ _)) ?_;have ne:s.heap.objs.size≠s.heap.objs.size+1:=bB (kK _);refine⟨by rw[aB ne,ak],cz _,ne,e2,λ_=>none,(Heap.Ns1.of_empty e3).at λo q=>bQ _ q,λ_=>True.intro,λy hy=>absurd rfl hy⟩
def Td(hb:attributeBase e f env (eval e env)=eval e env)(h:wpAny (model prog w) A (eval e env) (λo s₁=>wpAny (model prog w) A (getAttr o f true) Q E s₁) E s):wpAny (model prog w) A (eval (.Attribute e f pos) env) Q E s:=
 Attribute_any_ h (by rw[arm_eval_Attribute,hb])
end
def ot(K:PySem.W.Frag)(ta:TE)(f:Str):TE:=λσ H Q=>ta σ H λx H1=>eR x λa=>∃C dx fs,H1 a=some (.ins C dx fs)/\FH K C/\cH K C f/\∃v,fs.lookup f=some v/\Q v H1
def acV(K:PySem.W.Frag)(ta tv:TE)(f:Str):TS:=λD σ H=>tv σ H λy H1=>ta σ H1 λx H2=>∃a C dx fs,x=.ref a/\H2 a=some (.ins C dx fs)/\FH K C/\cH K C f/\fs.length<1000/\
 D.nx σ (upd H2 a (.ins C dx (gV f y fs)))
section
variable {o value:Expr} {f:Str} {pos':Pos} {tv:TE}
def bz(he:PE X e ta)(hb:attributeBase e f X.env (eval e X.env)=eval e X.env):PE X (.Attribute e f pos) (ot X.K ta f):=by
 intro pins s σ H Q I h;refine Td hb (cJ (he pins s σ H _ I h) λu s1 acW=>?_);obtain⟨x,H1,I1,rx,q0⟩:=acW;obtain⟨a,ex,C,dx,fs,ea,c,n,v,l,q⟩:=jL.mp q0;subst ex;obtain rfl:u=Value.ref a:=rx;exact Ij I1 ea c n l λu' s2 I2 ru=>⟨v,H1,I2,ru,q⟩
def i6(ha:PE X o ta)(hv:PE X value tv)(hs:swapsWith value (some (.Attribute o f pos')) pos.line X.env=pure false):PS X (.Assign [.Attribute o f pos'] value pos) (acV X.K ta tv f):=by
 intro pins s σ H D I h;refine plainObj_wpAny_Assign_Attribute (cJ (hv pins s σ H _ I h) λu s1 acX=>?_) hs;obtain⟨y,H1,I1,ry,q⟩:=acX;refine cJ (ha pins s1 σ H1 _ I1 q) λov s2 acY=>?_;obtain⟨x,H2,I2,rx,a,C,dx,fs,ex,ea,c,n,l,q2⟩:=acY;subst ex;obtain rfl:ov=Value.ref a:=rx;exact Ik I2 ea c n l ry λs3 I3=>⟨σ,_,I3,q2⟩
end
structure dY(k:Nat)(A:Around):Prop where
 hd:A.handled=none
 dp:A.depth+3*k+5<recursionLimit
 un:A.units+16*k+200<cLine
def dY.mono(r:dY k A)(h:j<=k):dY j A:=⟨r.hd,by have:=r.dp;omega,by have:=r.un;omega⟩
theorem dY.deeper(r:dY (k+1) A) env:dY k (A.deeper env):=
 ⟨r.hd,by have:=r.dp;show A.depth+1+3*k+5<_;omega,by have:=r.un;show A.units+3+16*k+200<_;omega⟩
def yo:(A.under (.builtin "type.__call__" ⟨.ref C::us,kw⟩)).depth=A.depth+1:=by
 first|rfl|simp[Around.under,Code.weight,Code.isCreation,Code.isGuard,Code.isCaller,Code.frames,Code.isFrame,guardIds]
def yp:(A.under (.builtin "type.__call__" ⟨.ref C::us,kw⟩)).units=A.units+1:=by
 first|rfl|simp[Around.under,Code.cUnits,Code.frames,Code.isFrame]
def dY.make(r:dY (k+1) A) C us kw:dY k (A.under (.builtin "type.__call__" ⟨.ref C::us,kw⟩)):=
 ⟨r.hd,by have:=r.dp;rw[yo];omega,by have:=r.un;rw[yp];omega⟩
theorem dY.depth(r:dY k A):A.depth<recursionLimit:=by have:=r.dp;omega
theorem dY.units(r:dY k A):A.units+64<cLine:=by have:=r.un;omega
def Il:TA:=λ_ H Q=>Q [] H
def vq(ta:TE)(tr:TA):TA:=λσ H Q=>ta σ H λx H1=>tr σ H1 λxs H2=>Q (x::xs) H2
section
variable {es:List Expr} {t:TA}
def ai:PA X [] Il:=λ_ _ _ _ H Q I h=>q_ ⟨[],H,I,.nil,h⟩
def ae(ha:PE X e te)(hr:PA X es t)(hs:starEach (e::es) X.env=(false,eval e X.env)::starEach es X.env:=by rfl):PA X (e::es) (vq te t):=by
 intro pos pins s σ H Q I h;rw[hs];show wpAny _ _ (spliced ((false,eval e X.env)::backTo pos (starEach es X.env))) _ _ s;refine me (cJ (ha pins s σ H _ I h) λu s1 acZ=>?_);obtain⟨x,H1,I1,r1,q1⟩:=acZ;refine cJ (hr pos pins s1 σ H1 _ I1 q1) λus s2 ac0=>?_;obtain⟨xs,H2,I2,r2,q2⟩:=ac0;exact⟨x::xs,H2,I2,.cons r1 r2,q2⟩
def W0(t:TA):TE:=λσ H Q=>t σ H λxs H1=>xs.length<=sizeLine/\∀p,H1 p=none->Q (.ref p) (upd H1 p (.tup xs))
def ou(t:TA):TE:=λσ H Q=>t σ H λxs H1=>xs.length<=sizeLine/\∀p,H1 p=none->Q (.ref p) (upd H1 p (.lst xs))
def yq{x1}(h:PA X es t):PE X (.Tuple es x1 pos) (W0 t):=by
 intro pins s σ H Q I hq;refine wpAny_Tuple_spliced (cJ (h pos pins s σ H _ I hq) λus s1 ⟨xs,H1,I1,r,z,q⟩=>⟨by rw[<-r.length];exact z,?_⟩);have hf:=I1.bL.fresh (aL _);refine⟨.ref s1.heap.objs.size,upd H1 s1.heap.objs.size (.tup xs),I1.laid (λb u e=>bQ _ e) (aL _) ?_,rfl,q _ hf⟩;exact⟨z,us,r,⟨_,bw _ rfl,rfl,_,rfl⟩⟩
def gu(h:PA X es t):PE X (.List es pos) (ou t):=by
 intro pins s σ H Q I hq;refine wpAny_List_spliced (cJ (h pos pins s σ H _ I hq) λus s1 ⟨xs,H1,I1,r,z,q⟩=>⟨by rw[<-r.length];exact z,?_⟩);have hf:=I1.bL.fresh (aL _);refine⟨.ref s1.heap.objs.size,upd H1 s1.heap.objs.size (.lst xs),I1.laid (λb u e=>bQ _ e) (aL _) ?_,rfl,q _ hf⟩;exact⟨z,us,0,r,bw _ rfl⟩
end
abbrev Sp:=List V->Hp->VK->XK->Prop
variable {sp:L2.Sp}
abbrev Oj:=List Env->Hp->Shared->XK->Value->Shared->Prop
variable {CX:L2.Oj}
structure AY(P:Program)(w:World)(K:PySem.W.Frag)(mg:Str->Option Value)(base:Heap)(A:Around)(outer:List Env)(s:Shared)(H:Hp):Prop where
 frames:A.frames=some outer
 mod:Mod K mg base
 bs:∀b o,base.get? b=some o->s.heap.get? b=some o/\H b=none
 Mt:base.objs.size<=s.heap.objs.size
 rh:s.heap.FunFrames base outer
 Sb:∀b∈Fn outer,H b=none
 bL:mG P w H s.heap
 bare:AllBare s.gens
def CE(outer:List Env)(P:Program)(w:World)(H:Hp)(s:Shared)(Q:VK)(u:Value)(s':Shared):Prop:=
 ∃v H',s'.os=s.os/\AllBare s'.gens/\Un (Fn outer) [] H H' s.heap s'.heap/\mG P w H' s'.heap/\RelV v u/\Q v H'
def CR(CX:Oj)(outer:List Env)(P:Program)(w:World)(H:Hp)(s:Shared)(Q:VK)(E:XK)(r:Result)(s':Shared):Prop:=
 match r with
 |.ok (.ret u)=>CE outer P w H s Q u s'|.ok _=>False
 |.error e=>CX outer H s E e s'
structure nZ(P:Program)(w:World)(K:PySem.W.Frag)(mg:Str->Option Value)(base:Heap)(CX:Oj)(k:Nat)(f:Addr)(fd:FuncData)(ps:List Str)(sp:Sp):Prop where
 len:∀vs H Q E,sp vs H Q E->vs.length=ps.length
 run:∀(A:Around)(outer:List Env)(s:Shared)(H:Hp)(args:Args)(us:List Value)(vs:List V)(Q:VK)(E:XK),dY k A->AY P w K mg base A outer s H->BindsTo s fd args (ps.zip us)->Vals vs us->sp vs H Q E->
  codeAny (model P w) A (.call (.ref f) args) (CR CX outer P w H s Q E) s
def AY.make(e:AY P w K mg base A outer s H) C us kw:
  AY P w K mg base (A.under (.builtin "type.__call__" ⟨.ref C::us,kw⟩)) outer s H:=⟨by first|exact e.frames|(simpa[Around.under,Code.envs,Code.isFrame,pushEnvs]using e.frames),e.mod,e.bs,e.Mt,e.rh,e.Sb,e.bL,e.bare⟩
section
variable {s':Shared}
def Inv.Dm(I:Inv X pins σ H s):AY X.prog X.w X.K X.mg X.base X.A X.stack s H:=
 ⟨I.ok.frames,I.ok.mod,I.bs,aX I.ok.Mt I.sz,I.stack,I.De,I.bL,I.bare⟩
def Inv.after{Q:VK}(I:Inv X pins σ H s)(h:CE X.stack X.prog X.w H s Q u s'):EP X pins σ Q u s':=by
 obtain⟨v,H',os,bare,un,bL,r,q⟩:=h;obtain⟨hh,g,d,t,os'⟩:=s';obtain rfl:os'=s.os:=os;exact⟨v,H',I.call (g':=g) (d':=d) (t':=t) (ch:=[]) un bL bare (λb z=>absurd z ∅),r,q⟩
end
def BF(sp:Sp)(sU:List V)(E:XK)(t:TA):TE:=λσ H Q=>t σ H λvs H1=>sp (vs++sU) H1 Q E
def BG(C:Addr)(sp:Sp)(sU:List V)(E:XK)(t:TA):TE:=λσ H Q=>t σ H λvs H1=>∀x dx,H1 x=none->H1 dx=none->dx≠x->
 sp (.ref x::(vs++sU)) (upd (upd H1 dx (.own x)) x (.ins C dx [])) (λv H2=>v=.cV/\Q (.ref x) H2) E
def Binds(K:PySem.W.Frag)(fd:FuncData)(ps:List Str)(ds:List Value):Prop:=
 ∀(s:Shared)(us:List Value),K.In s.heap->(us++ds).length=ps.length->BindsTo s fd ⟨us,[]⟩ (ps.zip (us++ds))
def Binds.all(h:∀us:List Value,us.length=ps.length->bindArgs fd ⟨us,[]⟩=pure (ps.zip us)):Binds K fd ps []:=λs us _ hl=>by
 rw[h_]at hl⊢;exact .of_eq (h us hl)
def Passes(CX:Oj)(X:Cx)(E:XK):Prop:=∀(pins:List (Addr×Obj))(σ:St)(H:Hp)(s:Shared)(e:Value)(s':Shared),Inv X pins σ H s->CX X.stack H s E e s'->X.xe e s'
section
variable {k:Nat} {C:Addr} {sU:List V} {ds:List Value} {E:XK} {m:Str} {p:Pos} {o:Expr} {es:List Expr} {t:TA}
def W2{Q:VK}{vs:List V}(F:nZ X.prog X.w X.K X.mg X.base CX k f fd ps sp)(hr:dY k X.A)(hb:Binds X.K fd ps ds)(hd:Vals sU ds)(hx:Passes CX X E)(I:Inv X pins σ H s)(r:Vals vs us)(h:sp (vs++sU) H Q E):wpAny (model X.prog X.w) X.A (call (.ref f) us) (EP X pins σ Q) X.xe s:=by
 have r2:=r.append hd;have hl:(us++ds).length=ps.length:=by rw[<-r2.length];exact F.len _ _ _ _ h
 refine wpAny_call (jm (F.run X.A X.stack s H ⟨us,[]⟩ (us++ds) (vs++sU) Q E hr I.Dm (hb s us I.Fo hl) r2 h) λr s' hq=>?_);cases r with
 |error e=>exact hx pins σ H s e s' I hq
 |ok fl=>
  cases fl with
  |ret u=>exact I.after hq|next=>exact False.elim hq
  |brk=>exact False.elim hq|cont=>exact False.elim hq
def Te(F:nZ X.prog X.w X.K X.mg X.base CX k f fd ps sp)(hr:dY k X.A)(hg:Gl X x)(hm:X.mg x=some (.ref f))(hk:PySem.W.keepIn X.K (.ref f)=true)(hb:Binds X.K fd ps ds)(hd:Vals sU ds)(hx:Passes CX X E)(ha:PA X (e::es) t)(BH:(x==("__debug__":Str))=false:=by decide)(he:starEach (e::es) X.env=(false,eval e X.env)::starEach es X.env:=by rfl)(iG:(backTo pos (starEach es X.env)).any (·.1)=false:=by rfl):
  PE X (.Call (.Name x p) (e::es) [] pos) (BF sp sU E t):=by
 intro pins s σ H Q I h;refine jE (pZ I hg hm ?_ BH);refine PySem.W.callWith_K I.ok.mod.SY hk (cJ (ha pos pins s σ H _ I h) λus s1 ac1=>?_) he iG;obtain⟨vs,H1,I1,r,q⟩:=ac1;refine⟨I1.Fo,?_⟩;exact W2 F hr hb hd hx I1 r q
structure Mk(K:PySem.W.Frag)(C f:Addr):Prop where
 makes:PySem.W.makesIn K C=true
 init:PySem.W.findIn K (.ref C) "__init__"=some (some (.ref f))
 fn:PySem.W.isFn K (.ref f)=true
 kp:PySem.W.keepIn K (.ref C)=true
def OT{Q:VK}{vs:List V}(M:Mk X.K C f)(F:nZ X.prog X.w X.K X.mg X.base CX k f fd ps sp)(hr:dY (k+1) X.A)(hb:Binds X.K fd ps ds)(hd:Vals sU ds)(hx:Passes CX X E)(I:Inv X pins σ H s)(r:Vals vs us)(h:∀x dx,H x=none->H dx=none->dx≠x->sp (.ref x::(vs++sU)) (upd (upd H dx (.own x)) x (.ins C dx [])) (λv H2=>v=.cV/\Q (.ref x) H2) E):
  wpAny (model X.prog X.w) X.A (call (.ref C) us) (EP X pins σ Q) X.xe s:=by
 have hq:=h (s.heap.objs.size+1) s.heap.objs.size (I.bL.fresh (pS _)) (I.bL.fresh (aL _)) (bB (kK _));have I2:=Inv.made (C:=C) I;have r2:Vals (V.ref (s.heap.objs.size+1)::(vs++sU)) (Value.ref (s.heap.objs.size+1)::(us++ds)):=.cons rfl (r.append hd);have hl:(Value.ref (s.heap.objs.size+1)::us++ds).length=ps.length:=by
  have e:=r2.length;rw[F.len _ _ _ _ hq]at e;exact e.symm
 refine wpAny_call (FG I.Fo M.makes M.init (beq_iff_eq.mp M.fn) (jm (F.run _ X.stack _ _ ⟨Value.ref (s.heap.objs.size+1)::us,[]⟩ (Value.ref (s.heap.objs.size+1)::(us++ds)) _ _ E (hr.make C us [])
  (I2.Dm.make C us []) (hb _ (Value.ref (s.heap.objs.size+1)::us) I2.Fo hl) r2 hq) λr s' OU=>?_))
 cases r with
 |error e=>exact hx pins σ _ _ e s' I2 OU
 |ok fl=>
  cases fl with
  |ret u=>
   obtain⟨v,H',I3,rv,ev,q3⟩:=I2.after OU;subst ev;exact⟨rv,⟨V.ref (s.heap.objs.size+1),H',I3,rfl,q3⟩⟩
  |next=>exact False.elim OU|brk=>exact False.elim OU
  |cont=>exact False.elim OU
def Tf(M:Mk X.K C f)(F:nZ X.prog X.w X.K X.mg X.base CX k f fd ps sp)(hr:dY (k+1) X.A)(hg:Gl X x)(hm:X.mg x=some (.ref C))(hb:Binds X.K fd ps ds)(hd:Vals sU ds)(hx:Passes CX X E)(ha:PA X (e::es) t)(BH:(x==("__debug__":Str))=false:=by decide)(he:starEach (e::es) X.env=(false,eval e X.env)::starEach es X.env:=by rfl)(iG:(backTo pos (starEach es X.env)).any (·.1)=false:=by rfl):
  PE X (.Call (.Name x p) (e::es) [] pos) (BG C sp sU E t):=by
 intro pins s σ H Q I h;refine jE (pZ I hg hm ?_ BH);refine PySem.W.callWith_K I.ok.mod.SY M.kp (cJ (ha pos pins s σ H _ I h) λus s1 ac2=>?_) he iG;obtain⟨vs,H1,I1,r,q⟩:=ac2;refine⟨I1.Fo,?_⟩;exact OT M F hr hb hd hx I1 r q
end
structure aE(N P:List Str)(sc:Scope):Prop where
 kind:sc.kind=.function
 co:sc.isCoroutine=false
 gen:sc.isGenerator=false
 nd:N.Nodup
 pre:N.take P.length=P
 par:∀x∈P,sc.names.lookup x=some .local\/sc.names.lookup x=some .cell
 W3:∀y∈sc.names,y.2≠ .free
theorem BI{kindOf:Str->Option NameKind}:∀{binds}{m},(∀v,(x,v)∉binds)->bindL kindOf binds m x=m x
 |[],_,_=>rfl
 |(n,v)::r,m,h=>by
  unfold bindL;rw[BI λw hw=>h w (bI _ hw)];split
  .have:x≠n:=by rintro rfl;exact h v b8
   simp[this]
  .rfl
theorem BJ{kindOf:Str->Option NameKind}:∀{binds}{m},(∀v,(x,v)∉binds)->bindC kindOf binds m x=m x
 |[],_,_=>rfl
 |(n,v)::r,m,h=>by
  unfold bindC;rw[BJ λw hw=>h w (bI _ hw)];split
  .rfl
  .have:x≠n:=by rintro rfl;exact h v b8
   simp[this]
theorem BK{kindOf:Str->Option NameKind}{v:Value}:∀{P:List Str}{vs}{i:Nat}{m},P.Nodup->P[i]?=some x->vs[i]?=some v->kindOf x=some .local->
  bindL kindOf (P.zip vs) m x=some v
 |[],_,_,_,_,h,_,_=>by simp at h|_::_,[],_,_,_,_,h,_=>by simp at h
 |p::P,w::vs,0,m,nd,h1,h2,hk=>by
  simp at h1 h2;subst h1;subst h2;show bindL kindOf ((p,w)::P.zip vs) m p=_;unfold bindL;rw[BI λv hv=>(nodup_cons.mp nd).1 (mE hv).1,ag hk];simp
 |p::P,w::vs,i+1,m,nd,h1,h2,hk=>by
  show bindL kindOf ((p,w)::P.zip vs) m x=_;unfold bindL;exact BK (i:=i) (nodup_cons.mp nd).2 ‹h1› ‹h2› hk
theorem BL{kindOf:Str->Option NameKind}{v:Value}:∀{P:List Str}{vs}{i:Nat}{m},P.Nodup->P[i]?=some x->vs[i]?=some v->kindOf x≠some .local->
  bindC kindOf (P.zip vs) m x=some v
 |[],_,_,_,_,h,_,_=>by simp at h|_::_,[],_,_,_,_,h,_=>by simp at h
 |p::P,w::vs,0,m,nd,h1,h2,hk=>by
  simp at h1 h2;subst h1;subst h2;show bindC kindOf ((p,w)::P.zip vs) m p=_;unfold bindC;rw[BJ λv hv=>(nodup_cons.mp nd).1 (mE hv).1,af hk];simp
 |p::P,w::vs,i+1,m,nd,h1,h2,hk=>by
  show bindC kindOf ((p,w)::P.zip vs) m x=_;unfold bindC;exact BL (i:=i) (nodup_cons.mp nd).2 ‹h1› ‹h2› hk
noncomputable def start(N:List Str)(vs:List V):St:=vs.map some++List.replicate (N.length-vs.length) none
noncomputable def kb(CX:Oj)(P:Program)(w:World)(K:PySem.W.Frag)(mg:Str->Option Value)(base:Heap)(N:List Str)(qual:Str)(scope:Scope)(f:Addr)(cd:Value)(A:Around)(outer:List Env)(s:Shared)(H:Hp)(E:XK):Cx where
 prog:=P
 w:=w
 K:=K
 mg:=mg
 base:=base
 A:=A.deeper (envOfC qual scope s.heap.objs.size f cd)
 N:=N
 xi:=s
 ZE:=H
 env:=envOfC qual scope s.heap.objs.size f cd
 outer:=outer
 stack:=envOfC qual scope s.heap.objs.size f cd::outer
 ex:=[]
 calm:=true
 fn:=λ_=>true
 pn:=[]
 xe:=λe s'=>wpAny (model P w) (A.deeper (envOfC qual scope s.heap.objs.size f cd)) (leaving (envOfC qual scope s.heap.objs.size f cd) e) (λ_ s''=>CX outer H s E e s'') (λe' s''=>CX outer H s E e' s'') s'
def FI{sc:Scope}(h:sc.names.lookup x=some .cell):∃c,(cellsFrom n sc.names []).lookup x=some c:=by
 have q:=wq sc.names n [] (.inl h);exact Option.isSome_iff_exists.mp q
def uv{E:XK}{vs:List V}(S:aE N ps scope)(hd:A.handled=none)(e0:AY P w K mg base A outer s H)(hl:vs.length=ps.length)(r:Vals vs us)(x:InCallC s s.heap.objs.size (bindL (envOfC qual scope s.heap.objs.size f cd).kindOf (ps.zip us) λ_=>none) (cellsFrom (s.heap.objs.size+1) scope.names []) (bindC (envOfC qual scope s.heap.objs.size f cd).kindOf (ps.zip us) λ_=>none) s1):
  Inv (kb CX P w K mg base N qual scope f cd A outer s H E) [] (start N vs) H s1:=by
 have iG:ps.length<=N.length:=by have:=cb List.length S.pre;rw[cP]at this;omega
 obtain⟨h1,tk,rfl,hk⟩:=x.done;have Y2:∀b:Addr,b∉(kb CX P w K mg base N qual scope f cd A outer s H E).ex:=λb z=>absurd (show b∈([]:List Addr)from z) ∅;refine⟨⟨e0.mod,S.kind,rfl,rfl,aL _,λy z c h1 h2=>?_,λy hy=>?_,λy c _ h=>?_,λ_=>hd,Around.frames_deeper e0.frames,.inr ⟨rfl,rfl⟩,λb z=>absurd z (Y2 b),e0.bs,e0.Mt,λb _ _=>Y2 b,λb z=>absurd z (Y2 b),e0.rh,e0.Sb⟩,
  rfl,e0.bare,Un.kept hk,⟨_,x.toInCall.ns,λi y v h1 h2 h3=>?_⟩,λy c h=>⟨_,x.cell y c h⟩,e0.bL.fresh (aL _),λy c h=>?_,λp hp=>absurd (show p∈([]:List (Addr×Obj))from hp) ∅,e0.bL.kept hk,?_⟩
 .exact name_of_addr x.apart (fT h1) (fT h2)
 .obtain hy|hy:=hy
  .exact FI hy
  .exact absurd rfl (S.W3 _ (fT hy))
 .exact iD (x.above y c (fT h))
 .have hi:i<vs.length:=by
   unfold start at h2;by_cases hi:i<vs.length
   .exact hi
   .rw[sh ‹hi›]at h2;rw[getElem?_replicate]at h2;split at h2<;>cases h2
  have ha:vs[i]?=some v:=by
   unfold start at h2;rw[sk ‹hi›,aZ]at h2;cases e:vs[i]? with
   |none=>rw[e]at h2;cases h2
   |some a=>rw[e]at h2;cases h2;rfl
  obtain⟨u,hu,rv⟩:=r.get ha;have hp:ps[i]?=some y:=by
   rw[<-S.pre,getElem?_take_of_lt ()];exact h1
  have ndP:ps.Nodup:=by rw[<-S.pre];exact S.nd.sublist (take_sublist _ _)
  refine⟨u,rv,?_⟩;obtain k|k:=S.par y (bg hp)
  .exact .inl ⟨k,BK ndP hp hu k⟩
  .obtain⟨c,e⟩:=FI k;refine .inr ⟨.inl k,c,e,?_⟩;have q:=x.cell y c e;rw[BL ndP hp hu (by show scope.names.lookup y≠_;rw[k];decide)]at q;exact q
 .exact e0.bL.fresh (iD (x.above y c (fT h)))
 .unfold start;show _=N.length;rw[c9,az,jI];omega
def Vz{dV kV doc b9 oc:Value}(lk:K.lookup f=some ⟨oc,od,.func (PySem.W.fnOf name qual params body scope dV kV doc pm an b9 ct),Im⟩)(AK:PySem.W.codeIn K b9 qual=true)(S:aE N ps scope)(len:∀vs H Q E,sp vs H Q E->vs.length=ps.length)(gv:∀A outer s H vs Q E,dY k (A.deeper (envOfC qual scope s.heap.objs.size f b9))->sp vs H Q E->
   ∃t,vS (kb CX P w K mg base N qual scope f b9 A outer s H E) body t/\t {nx:=λ_ H'=>Q .cV H',rt:=Q} (start N vs) H):
  nZ P w K mg base CX (k+1) f (PySem.W.fnOf name qual params body scope dV kV doc pm an b9 ct) ps sp:=by
 refine⟨len,λA outer s H args us vs Q E hr e0 hb r AO=>?_⟩;have hl:=len _ _ _ _ AO;have KX:=e0.mod.SY.keeps λb o e=>(e0.bs b o e).1;have lim:=e0.mod.nolimit.keeps λb o e=>(e0.bs b o e).1;have FJ:∀y∈ps.zip us,scope.names.lookup y.1=some .local\/(scope.names.lookup y.1=some .cell/\((cellsFrom (s.heap.objs.size+1) scope.names []).lookup y.1).isSome=true):=λ⟨n,v⟩ hy=>by
  obtain q|q:=S.par n (mE hy).1
  .exact .inl q
  .exact .inr ⟨q,wq _ _ _ (.inl q)⟩
 refine codeAny_call_function hr.depth (KX _ _ lk) rfl S.co S.gen rfl (PySem.W.codeRec_of KX AK) (hb _ _ _ _ ?_);refine wpAny_newFunctionEnv_cells S.kind FJ λenv he s1 x=>?_;subst he;refine⟨lim.keeps x.toInCall.keep,codeAny_func ?_⟩;obtain⟨t,ht,hq⟩:=gv A outer s H vs Q E (hr.deeper _) AO;have I:Inv (kb CX P w K mg base N qual scope f b9 A outer s H E) [] (start N vs) H s1:=uv S hr.hd e0 hl r x;refine da (ht [] s1 (start N vs) H _ I hq) (λfl s' hs=>?_) λe s' hs=>hs;have fin:∀{σ':St}{H':Hp}{v:V}{u:Value},Inv (kb CX P w K mg base N qual scope f b9 A outer s H E) [] σ' H' s'->RelV v u->Q v H'->CE outer P w H s Q u s':=
  λ{σ' H' v u} J rv q=>⟨v,H',J.os,J.bare,J.base,J.bL,rv,q⟩
 cases fl with
 |ret u=>
  obtain⟨v,σ',H',J,rv,q⟩:=hs;exact fin J rv q
 |next=>
  obtain⟨σ',H',J,q⟩:=hs;exact fin (v:=V.cV) J rfl q
 |brk=>
  obtain⟨_,_,_,q⟩:=hs;exact False.elim q
 |cont=>
  obtain⟨_,_,_,q⟩:=hs;exact False.elim q
section
variable {p:Pos} {es:List Expr} {t:TA} {id:String} {r:List V->Hp->VK->Prop}
def tCB(r:List V->Hp->VK->Prop)(t:TA):TE:=λσ H Q=>t σ H λvs H1=>r vs H1 Q
def aC(hc:kn X (.builtin id) r)(hg:Gl X x)(hm:X.mg x=none)(hv:bootBuiltins x=some (.builtin id))(ha:PA X (e::es) t)(hn:x≠"__name__":=by decide)(BH:(x==("__debug__":Str))=false:=by decide)(he:starEach (e::es) X.env=(false,eval e X.env)::starEach es X.env:=by rfl)(iG:(backTo pos (starEach es X.env)).any (·.1)=false:=by rfl):PE X (.Call (.Name x p) (e::es) [] pos) (tCB r t):=by
 intro pins s σ H Q I h;refine jE (gq I hg hm hv ?_ hn BH);refine PyProof.Rows.callWith_builtin1 (cJ (ha pos pins s σ H _ I h) λus s1 ac3=>?_) he iG;obtain⟨vs,H1,I1,r1,q1⟩:=ac3;exact hc pins s1 σ H1 vs us Q I1 r1 q1
def BM(hc:kn X (.type T) r)(hg:Gl X x)(hm:X.mg x=none)(hv:bootBuiltins x=some (.type T))(ha:PA X (e::es) t)(hn:x≠"__name__":=by decide)(BH:(x==("__debug__":Str))=false:=by decide)(he:starEach (e::es) X.env=(false,eval e X.env)::starEach es X.env:=by rfl)(iG:(backTo pos (starEach es X.env)).any (·.1)=false:=by rfl):PE X (.Call (.Name x p) (e::es) [] pos) (tCB r t):=by
 intro pins s σ H Q I h;refine jE (gq I hg hm hv ?_ hn BH);refine jD (cJ (ha pos pins s σ H _ I h) λus s1 ac4=>?_) he iG;obtain⟨vs,H1,I1,r1,q1⟩:=ac4;exact hc pins s1 σ H1 vs us Q I1 r1 q1
end
end L2
variable {v y:L2.V} {xs:List L2.V} {kvs:List (L2.Key×L2.V)} {o:L2.HO} {H H' H1:L2.Hp} {Qd:L2.Hp->Prop} {X:L2.Cx} {σ:L2.St} {te ta:L2.TE} {tt:L2.TT} {tb:L2.TS} {g:L2.TG} {wi:L2.TI} {sp:L2.Sp} {CX:L2.Oj}
namespace HT
open PySem PyProof.Rows
noncomputable def lexLt:List Int->List Int->Bool
 |[],[]=>false|[],_::_=>true
 |_::_,[]=>false|x::xs,y::ys=>if x=y then lexLt xs ys else decide (x<y)
def ic x y xs ys:lexLt (x::xs) (y::ys)=if x=y then lexLt xs ys else decide (x<y):=rfl
section
def Ti{t:Addr}(ht:IsTup s.heap t vs.toArray)(hb:IsTup s.heap b ws.toArray)(hv:vs≠ [])(h1:ws=[]->Q (.ref t) s)(h2:ws≠ []->Q (.ref s.heap.objs.size) {s with heap:=s.heap.push {cls:=.type "tuple",data:=.seq (vs++ws).toArray}})(f7:vs.length+ws.length<=sizeLine):wpAny (model prog w) A (binaryOp .Add (.ref t) (.ref b)) Q E s:=by
 obtain⟨⟨cls,dd,data,sl⟩,ho,hc,n,hd⟩:=id ht;obtain⟨⟨ac5,Y3,data2,Y4⟩,Tj,hc2,n2,hd2⟩:=id hb;simp only at hc hd hc2 hd2;subst hc hd hc2 hd2;have e:vs.toArray++ws.toArray=(vs++ws).toArray:=by simp
 by_cases hw:ws=[]
 .exact concat_meets ⟨_,ho,rfl⟩ ⟨_,Tj,rfl⟩ noFill_tuple_add seq_tuple_add PySem.F.slot_tuple_add PySem.F.entry_tuple_add (PySem.F.args_tuple_add_2 _ _)
   (tuple_addW1 t b vs.toArray ws.toArray n n2 dd Y3 sl Y4 ‹hv› (by simp[hw])) ⟨ho,Tj,h1 hw⟩
 .refine concat_meets ⟨_,ho,rfl⟩ ⟨_,Tj,rfl⟩ noFill_tuple_add seq_tuple_add PySem.F.slot_tuple_add PySem.F.entry_tuple_add (PySem.F.args_tuple_add_2 _ _)
   (tuple_addW2 t b vs.toArray ws.toArray n n2 dd Y3 sl Y4 ‹hv› ‹hw› (by rw[cO,cO];exact f7)) ⟨ho,Tj,?_⟩
  rw[e];exact h2 hw
noncomputable def FK(n d:Nat):Option Int->Nat
 |none=>d|some v=>if v<0 then(v+(n:Int)).toNat else min v.toNat n
def OV n d:FK n d none=d:=rfl
def Dn(n d k:Nat):FK n d (some (k:Int))=min k n:=by
 show(if(k:Int)<0 then((k:Int)+(n:Int)).toNat else min (k:Int).toNat n)=min k n;rw[af (),gm]
end
end HT
namespace L2
open PySem PySem.Spec PyProof.Rows
abbrev TO:=St->Hp->(Option Int->Hp->Prop)->Prop
def PO(X:Cx)(e:Option Expr)(t:TO):Prop:=
 ∀(pins:List (Addr×Obj))(s:Shared)(σ:St)(H:Hp)(Q:Option Int->Hp->Prop),Inv X pins σ H s->t σ H Q->
  wpAny (model X.prog X.w) X.A (evalPart e X.env) (λu s'=>∃o H',Inv X pins σ H' s'/\IsPart u o/\Q o H') X.xe s
def Dq:TO:=λ_ H Q=>Q none H
def OW(t:TE):TO:=λσ H Q=>t σ H λx H1=>eI x λi=>Q (some i) H1
def intsAre_of:∀{us},Vals (ns.map V.int) us->IntsAre us ns:=by
 induction ns with
 |nil=>intro us r;rw[Dc]at r;cases r;exact .nil
 |cons n ns ih=>
  intro us r;cases r with
  |cons r1 r2=>
   obtain⟨t,e⟩:=r1;subst e;exact .cons n t (ih r2)
section
variable {lo hi:Option Expr} {tl th:TO} {p2:Pos}
def qd:PO X none Dq:=by
 intro pins s σ H Q I h;exact ay ⟨none,H,I,.none,h⟩
def iH(h:PE X e te):PO X (some e) (OW te):=by
 intro pins s σ H Q I hw;refine cJ (h pins s σ H _ I hw) λu s1 ac6=>?_;obtain⟨x,H1,I1,r1,q1⟩:=ac6;obtain⟨i,rfl,q⟩:=fI.mp q1;obtain⟨t,rfl⟩:=r1;exact⟨some i,H1,I1,.int i t,q⟩
def SlR(X:Cx)(r:V->Option Int->Option Int->Hp->VK->Prop):Prop:=
 ∀(pins:List (Addr×Obj))(s:Shared)(σ:St)(H:Hp)(x:V)(v vl vu:Value)(lo hi:Option Int)(sl:Addr)(Q:VK),Inv X pins σ H s->RelV x v->s.heap.IsSliceOf sl vl vu .none->IsPart vl lo->IsPart vu hi->r x lo hi H Q->
  ∃T id,typeLookup (.type T) "__getitem__"=pure (some (.builtin id))/\s.TypeIs v T/\wpAny (model X.prog X.w) X.A (getItem v (.ref sl)) (EP X pins σ Q) X.xe s
def tSl(r:V->Option Int->Option Int->Hp->VK->Prop)(te:TE)(tl th:TO):TE:=λσ H Q=>te σ H λx H1=>tl σ H1 λl H2=>th σ H2 λu H3=>r x l u H3 Q
def iQ{r:V->Option Int->Option Int->Hp->VK->Prop}(hr:SlR X r)(he:PE X e te)(hl:PO X lo tl)(hu:PO X hi th):PE X (.Subscript e (.Slice lo hi none p2) pos) (tSl r te tl th):=by
 intro pins s σ H Q I h;refine Subscript_ (cJ (he pins s σ H _ I h) λv s1 ac7=>?_);obtain⟨x,H1,I1,r1,q1⟩:=ac7;refine wpAny_Slice (cJ (hl pins s1 σ H1 _ I1 q1) λvl s2 ac8=>?_);obtain⟨l,H2,I2,pl,q2⟩:=ac8;refine cJ (hu pins s2 σ H2 _ I2 q2) λvu s3 ac9=>?_;obtain⟨u,H3,I3,pu,q3⟩:=ac9;refine ay ?_;have I4:Inv X pins σ H3 {s3 with heap:=s3.heap.push {cls:=.type "slice",data:=.fields #[vl,vu,.none]}} :=I3.kept λb ob q=>bQ _ q;obtain⟨T,id,hT,ht,hg⟩:=hr pins {s3 with heap:=s3.heap.push {cls:=.type "slice",data:=.fields #[vl,vu,.none]}} σ H3 x v vl vu l u s3.heap.objs.size Q I4 r1 (Heap.IsSliceOf.new ..) pl pu q3;exact tail_any ht hT hg (by with_unfolding_all rfl)
noncomputable def lH(xs:List V)(lo hi:Option Int):List V:=(xs.drop (HT.FK xs.length 0 lo)).take (HT.FK xs.length xs.length hi-HT.FK xs.length 0 lo)
def FL xs lo hi:(lH xs lo hi).length<=xs.length:=by
 unfold lH;rw[cP,dX];omega
def ZR(K:PySem.W.Frag):R2:=λx y H Q=>∃a b xs ys,x=.ref a/\y=.ref b/\jM K H a xs/\jM K H b ys/\xs≠ []/\xs.length+ys.length<=sizeLine/\
 (ys=[]->Q (.ref a) H)/\(ys≠ []->∀p,H p=none->Q (.ref p) (upd H p (.tup (xs++ys))))
def Vals.Dr(r:Vals xs us):us=[]↔xs=[]:=by
 cases r with
 |nil=>simp|cons _ _=>simp
def Tn:p_ X (binaryOp .Add) (ZR X.K):=by
 intro pins s σ H x y v u Q I rx ry h;obtain⟨a,b,xs,ys,rfl,rfl,ha,hb,hx,hz,q1,q2⟩:=h;cases rx;cases ry;obtain⟨aR,r1,p1,_⟩:=I.tuple ha;obtain⟨n6,r2,p2,_⟩:=I.tuple hb;refine HT.Ti p1 p2 (λz=>hx (r1.Dr.mp z)) (λz=>⟨.ref a,H,I,rfl,q1 (r2.Dr.mp z)⟩) (λz=>?_) (by rw[<-r1.length,<-r2.length];exact hz);refine⟨.ref s.heap.objs.size,_,I.laid (t':=s.toks) (λb ob q=>bQ _ q) (aL _) ?_,rfl,q2 (λw=>z (r2.Dr.mpr w)) _ (I.bL.fresh (aL _))⟩;exact⟨by rw[c9];exact hz,_,r1.append r2,IsTup.new _ _⟩
end
noncomputable def Y5(n:Nat)(i:Int):Option Nat:=if 0<=i then(if i<n then some i.toNat else none)else if-(n:Int)<=i then some (i+n).toNat else none
noncomputable def Ol{α:Type}(xs:List α)(i:Int):Option α:=(Y5 xs.length i).bind λj=>xs[j]?
def To{i:Int}(h:Y5 n i=some j):seqIndex? i n=some j/\j<n/\-(n:Int)<=i/\i<n:=by
 unfold Y5 at h;by_cases h0:0<=i
 .rw[ag h0]at h;by_cases h1:i<n
  .rw[ag h1]at h;have e:=Option.some.inj h;exact⟨by rw[seqIndex_of h0 h1,e],by omega,by omega,h1⟩
  .rw[af h1]at h;cases h
 .rw[af h0]at h;by_cases h1: -(n:Int)<=i
  .rw[ag h1]at h;have e:=Option.some.inj h;exact⟨by rw[seqIndex_neg () h1,e],by omega,h1,by omega⟩
  .rw[af h1]at h;cases h
def Kx{xs:List α}{i:Int}{v:α}(h:Ol xs i=some v):∃j,seqIndex? i xs.length=some j/\xs[j]?=some v/\j<xs.length/\-(xs.length:Int)<=i/\i<xs.length:=by
 unfold Ol at h;cases e:Y5 xs.length i with
 |none=>rw[e]at h;cases h
 |some j=>
  rw[e]at h;obtain⟨h1,h2,h3,h4⟩:=To e;exact⟨j,h1,h,h2,h3,h4⟩
def eG{xs:List α}{v:α}(h:xs[j]?=some v):Ol xs (j:Int)=some v:=by
 have hj:=(List.getElem?_eq_some_iff.mp h).1;have e:Y5 xs.length (j:Int)=some j:=by
  unfold Y5;rw[ag (),ag ()];simp
 unfold Ol;rw[e];exact h
def Tp(b:Expr):Prop:=∀o i,subscripted b false o i=operate [o,i] (getItem o i)
def IxR(X:Cx)(r:R2):Prop:=
 ∀(value slice:Expr)(pins:List (Addr×Obj))(s:Shared)(σ:St)(H:Hp)(x y:V)(v u:Value)(Q:VK),Inv X pins σ H s->RelV x v->RelV y u->r x y H Q->
  subscripted slice false v u=operate [v,u] (getItem v u)->wpAny (model X.prog X.w) X.A (subscriptTail value slice v u) (EP X pins σ Q) X.xe s
def OX(X:Cx)(id:String)(r:V->List V->Hp->VK->Prop):Prop:=
 ∀(pins:List (Addr×Obj))(s:Shared)(σ:St)(H:Hp)(x:V)(xs:List V)(v:Value)(us:List Value)(Q:VK),Inv X pins σ H s->RelV x v->Vals xs us->r x xs H Q->
  wpAny (model X.prog X.w) X.A (call (.builtin id) (v::us)) (EP X pins σ Q) X.xe s
section
variable {a b:Expr} {tb:TE}
def bG{r:R2}(hr:IxR X r)(ha:PE X a ta)(hb:PE X b tb)(hs:Tp b):PE X (.Subscript a b pos) (S8 r ta tb):=by
 intro pins s σ H Q I h;exact Subscript_ (S9 ha hb I h λv u s2 x y H2 I2 rx ry q=>hr a b pins s2 σ H2 x y v u Q I2 rx ry q (hs _ _))
def Tq(K:PySem.W.Frag):R2:=λx y H Q=>eR x λp=>eI y λi=>∃xs,aM K H p xs/\∃v,Ol xs i=some v/\Q v H
def W4(K:PySem.W.Frag):R2:=λx y H Q=>eR x λp=>eI y λi=>∃xs,jM K H p xs/\∃v,Ol xs i=some v/\Q v H
def aP:IxR X (Tq X.K):=by
 intro value slice pins s σ H x y v u Q I rx ry h hs;obtain⟨p,rfl,h⟩:=jL.mp h;obtain⟨i,rfl,xs,hq,z,he,q⟩:=fI.mp h;cases rx;obtain⟨t,rfl⟩:=ry;obtain⟨aR,r,pl,hz⟩:=I.list hq;obtain⟨j,h1,h2,h3,h4,h5⟩:=Kx he;obtain⟨w,ew,MB⟩:=r.get h2;have hl:=r.length;have hn:=Dl;have fin:EP X pins σ Q w s:=⟨z,H,I,MB,q⟩;by_cases h0:0<=i
 .have hj:i.toNat=j:=by
   rw[seqIndex_of h0 h5]at h1;exact Option.some.inj h1
  exact item_listR pl.isList h0 () (by rw[hj];simpa using ew) fin hs
 .have hj:(i+(aR.toArray.size:Int)).toNat=j:=by
   rw[seqIndex_neg () h4]at h1;rw[cO,<-hl];exact Option.some.inj h1
  exact subscriptTail_builtinR pl.isList.typeIs slot_list_getitem.lookup
   (wpAny_getItem_list_neg pl.isList () (by rw[cO] <;>omega) () (by rw[hj];simpa using ew) ⟨rfl,fin⟩) hs
def OY:IxR X (W4 X.K):=by
 intro value slice pins s σ H x y v u Q I rx ry h hs;obtain⟨p,rfl,h⟩:=jL.mp h;obtain⟨i,rfl,xs,hq,z,he,q⟩:=fI.mp h;cases rx;obtain⟨t,rfl⟩:=ry;obtain⟨aR,r,pl,hz⟩:=I.tuple hq;obtain⟨j,h1,h2,h3,h4,h5⟩:=Kx he;obtain⟨w,ew,MB⟩:=r.get h2;have hl:=r.length;have hn:=Dl;have fin:EP X pins σ Q w s:=⟨z,H,I,MB,q⟩;exact subscriptTail_builtinR pl.typeIs slot_tuple_getitem.lookup
  (getItem_tuple (j:=j) pl () () (by rw[cO,<-hl];exact h1) ‹ew› ⟨rfl,fin⟩) hs
def Ds lo hi n:(sliceBounds lo hi none n).1=((HT.FK n 0 lo:Nat):Int)/\(sliceBounds lo hi none n).2.1=((HT.FK n n hi:Nat):Int)/\(sliceBounds lo hi none n).2.2=1:=by
 refine⟨?_,?_,rfl⟩
 .cases lo with
  |none=>simp[sliceBounds,HT.FK]
  |some i=>
   simp only[sliceBounds,HT.FK,Option.getD_none,show(1:Int)>0 by decide,if_true];by_cases h:i<0
   .simp only[h,if_true] <;>omega
   .simp only[h,if_false] <;>omega
 .cases hi with
  |none=>simp[sliceBounds,HT.FK]
  |some i=>
   simp only[sliceBounds,HT.FK,Option.getD_none,show(1:Int)>0 by decide,if_true];by_cases h:i<0
   .simp only[h,if_true] <;>omega
   .simp only[h,if_false] <;>omega
def AZ(aR:List Value) lo hi:slicePick aR.toArray lo hi none=((aR.drop (HT.FK aR.length 0 lo)).take (HT.FK aR.length aR.length hi-HT.FK aR.length 0 lo)).toArray:=by
 obtain⟨h1,h2,h3⟩:=Ds lo hi aR.toArray.size;unfold slicePick;rw[h1,h2,h3];simp only[sliceRange_one,pick_run,size_toArray] <;>rfl
def W5(K:PySem.W.Frag):V->Option Int->Option Int->Hp->VK->Prop:=λx lo hi H Q=>eR x λa=>∃xs,aM K H a xs/\∀p,H p=none->Q (.ref p) (upd H p (.lst (lH xs lo hi)))
def kr:SlR X (W5 X.K):=by
 intro pins s σ H x v vl vu lo hi sl Q I rx hs pl pu h;obtain⟨a,rfl,xs,hx,q⟩:=jL.mp h;cases rx;obtain⟨aR,r,ht,hz⟩:=I.list hx;have hlen:=r.length;refine⟨"list",_,slot_list_getitem.lookup,ht.isList.typeIs,?_⟩;refine wpAny_getItem_list_slice ht.isList hs pl pu .none ∅ ?_ (by rw[cO] <;>omega);rw[AZ,<-hlen];refine⟨.ref s.heap.objs.size,_,I.laid (t':=s.toks) (λb ob q=>bQ _ q) (aL _) ?_,rfl,q _ (I.bL.fresh (aL _))⟩;exact⟨aX (FL xs lo hi) hz,_,0,(r.drop (HT.FK xs.length 0 lo)).take (HT.FK xs.length xs.length hi-HT.FK xs.length 0 lo),bw _ rfl⟩
noncomputable def gY:V->Bool
 |.cV=>true|.bl _=>true
 |.int _=>true|.str _=>true
 |_=>false
noncomputable def Io:V->V->Bool
 |.cV,.cV=>true|.bl a,.bl b=>a==b
 |.bl a,.int b=>(if a then 1 else 0)==b
 |.int a,.bl b=>a==(if b then 1 else 0)
 |.int a,.int b=>a==b|.str a,.str b=>a==b
 |_,_=>false
def W6{x:V}{v:Value}(ry:RelV y u)(rx:RelV x v)(fy:gY y=true)(fx:gY x=true):SeqAt.EqAt A s u v (Io y x):=by
 cases y with
 |cV=>
  cases ry;cases x with
  |cV=>cases rx;exact SeqAt.EqAt.same _
  |bl b=>cases rx;exact SeqAt.EqAt.none_bool b
  |int b=>obtain⟨t,rfl⟩:=rx;exact SeqAt.EqAt.none_int b t
  |str b=>obtain⟨t,rfl⟩:=rx;exact SeqAt.EqAt.none_str b t
  |_=>exact absurd (show false=true from fx) b_
 |bl a=>
  cases ry;cases x with
  |cV=>cases rx;exact SeqAt.EqAt.bool_none a
  |bl b=>cases rx;exact SeqAt.EqAt.bool_bool a b
  |int b=>obtain⟨t,rfl⟩:=rx;exact SeqAt.EqAt.bool_int a b t
  |str b=>obtain⟨t,rfl⟩:=rx;exact SeqAt.EqAt.bool_str a b t
  |_=>exact absurd (show false=true from fx) b_
 |int a=>
  obtain⟨t',rfl⟩:=ry;cases x with
  |cV=>cases rx;exact SeqAt.EqAt.int_none a t'
  |bl b=>cases rx;exact SeqAt.EqAt.int_bool a t' b
  |int b=>obtain⟨t,rfl⟩:=rx;exact SeqAt.EqAt.int_int a t' b t
  |str b=>obtain⟨t,rfl⟩:=rx;exact SeqAt.EqAt.int_str a t' b t
  |_=>exact absurd (show false=true from fx) b_
 |str a=>
  obtain⟨t',rfl⟩:=ry;cases x with
  |cV=>cases rx;exact SeqAt.EqAt.str_none a t'
  |bl b=>cases rx;exact SeqAt.EqAt.str_bool a t' b
  |int b=>obtain⟨t,rfl⟩:=rx;exact SeqAt.EqAt.str_int a t' b t
  |str b=>obtain⟨t,rfl⟩:=rx;exact SeqAt.EqAt.str_str a t' b t
  |_=>exact absurd (show false=true from fx) b_
 |_=>exact absurd (show false=true from fy) b_
noncomputable def HQ(x:V)(u:Value):Bool:=match u with
 |.none=>Io .cV x|.bool b=>Io (.bl b) x
 |.int i _=>Io (.int i) x|.str z _=>Io (.str z) x
 |_=>false
def Dt{x:V}(r:RelV y u)(f:gY y=true):HQ x u=Io y x:=by
 cases y with
 |cV=>cases r;rfl
 |bl b=>cases r;rfl
 |int i=>obtain⟨t,rfl⟩:=r;rfl
 |str z=>obtain⟨t,rfl⟩:=r;rfl
 |_=>exact absurd (show false=true from f) b_
theorem sV{x:V}:∀{xs}{us},Vals xs us->xs.all gY=true->us.any (HQ x)=xs.any λy=>Io y x
 |_,_,.nil,_=>rfl
 |y::xs,u::us,.cons r t,f=>by
  rw[eY,bH]at f;rw[any_cons,any_cons,Dt r f.1,sV t f.2]
theorem lI{x:V}{v:Value}(rx:RelV x v)(fx:gY x=true):∀{xs}{us},Vals xs us->xs.all gY=true->∀u∈us,SeqAt.EqAt A s u v (HQ x u)
 |_,_,.nil,_=>λu hu=>by cases hu
 |y::xs,u::us,.cons r t,f=>λu' hu=>by
  rw[eY,bH]at f;obtain rfl|hu:=mem_cons.mp hu
  .rw[Dt r f.1];exact W6 r rx f.1 fx
  .exact lI rx fx t f.2 u' hu
noncomputable def Y6(x:V)(xs:List V):Bool:=xs.any λy=>Io y x
def Se(K:PySem.W.Frag)(neg:Bool):R2:=λx y H Q=>eR y λp=>∃xs,(aM K H p xs\/jM K H p xs)/\gY x=true/\xs.all gY=true/\Q (.bl (if neg then !Y6 x xs else Y6 x xs)) H
def uw:p_ X (compareOp .In) (Se X.K false):=by
 intro pins s σ H x y v u Q I rx ry h;obtain⟨p,rfl,xs,hq,fx,fs,q⟩:=jL.mp h;cases ry;obtain hq|hq:=hq
 .obtain⟨aR,r,pl,hz⟩:=I.list hq;refine SeqAt.in_listAt (HQ x) pl.isList (λw hw=>lI rx fx r fs w ‹hw›) ⟨.bl _,H,I,rfl,?_⟩;rw[show aR.toArray.any (HQ x)=aR.any (HQ x) by simp,sV r fs];exact q
 .obtain⟨aR,r,pl,hz⟩:=I.tuple hq;refine SeqAt.in_tupleAt (HQ x) pl (λw hw=>lI rx fx r fs w ‹hw›) ⟨.bl _,H,I,rfl,?_⟩;rw[show aR.toArray.any (HQ x)=aR.any (HQ x) by simp,sV r fs];exact q
def Du:p_ X (compareOp .NotIn) (Se X.K true):=by
 intro pins s σ H x y v u Q I rx ry h;obtain⟨p,rfl,xs,hq,fx,fs,q⟩:=jL.mp h;cases ry;obtain hq|hq:=hq
 .obtain⟨aR,r,pl,hz⟩:=I.list hq;refine SeqAt.notIn_listAt (HQ x) pl.isList (λw hw=>lI rx fx r fs w ‹hw›) ⟨.bl _,H,I,rfl,?_⟩;rw[show aR.toArray.any (HQ x)=aR.any (HQ x) by simp,sV r fs];exact q
 .obtain⟨aR,r,pl,hz⟩:=I.tuple hq;refine SeqAt.notIn_tupleAt (HQ x) pl (λw hw=>lI rx fx r fs w ‹hw›) ⟨.bl _,H,I,rfl,?_⟩;rw[show aR.toArray.any (HQ x)=aR.any (HQ x) by simp,sV r fs];exact q
def aA:kn X (.builtin "len") (λxs H Q=>eL xs λp=>∃ys,(aM X.K H p ys\/jM X.K H p ys)/\Q (.int ys.length) H):=by
 intro pins s σ H xs us Q I r h;obtain⟨p,rfl,ys,hq,q⟩:=rj.mp h;obtain⟨u,rfl,rx⟩:=vals1 r;cases rx;have hn:=Dl;obtain hq|hq:=hq
 .obtain⟨aR,r',pl,hz⟩:=I.list hq;have hlen:=r'.length;exact Calls.call_len_list pl.isList (by simp only[size_toArray] <;>omega) ⟨.int ys.length,H,I.tok _,⟨s.toks+1,by rw[cO,hlen]⟩,q⟩
 .obtain⟨aR,r',pl,hz⟩:=I.tuple hq;have hlen:=r'.length;exact len_tuple pl (by simp only[size_toArray] <;>omega) ⟨.int ys.length,H,I.tok _,⟨s.toks+1,by rw[cO,hlen]⟩,q⟩
def sW:kn X (.builtin "len") (λxs H Q=>eT xs λz=>z.length<=sizeLine/\Q (.int z.length) H):=by
 intro pins s σ H xs us Q I r h;obtain⟨z,rfl,hz,q⟩:=Df.mp h;obtain⟨u,rfl,t,rfl⟩:=vals1 r;have hn:=Dl;exact len_str () ⟨.int z.length,H,I.tok _,⟨_,rfl⟩,q⟩
def A2:kn X (.type "tuple") (λxs H Q=>eL xs λp=>∃ys,((aM X.K H p ys/\∀l,H l=none->Q (.ref l) (upd H l (.tup ys)))\/(jM X.K H p ys/\Q (.ref p) H))):=by
 intro pins s σ H xs us Q I r h;obtain⟨p,rfl,ys,h⟩:=rj.mp h;obtain⟨u,rfl,rx⟩:=vals1 r;cases rx;obtain⟨hq,q⟩|⟨hq,q⟩:=h
 .obtain⟨aR,r',pl,hz⟩:=I.list hq;have hlen:=r'.length;refine call_tuple_list pl.isList (λh' kp=>?_) (by simp only[size_toArray] <;>omega);have I1:=I.kept (t':=s.toks) kp;have I2:Inv X pins σ (upd H h'.objs.size (.tup ys)) {s with heap:=h'.push {cls:=.type "tuple",data:=.seq aR.toArray}} :=
   I1.laid (λb o e=>bQ _ e) (aL _) (show dF X.prog X.w _ _ _ (.tup ys)from⟨hz,aR,r',IsTup.new _ _⟩)
  exact⟨.ref h'.objs.size,_,I2,rfl,q _ (I1.bL.fresh (aL _))⟩
 .obtain⟨aR,r',pl,hz⟩:=I.tuple hq;exact call_tuple_same pl ⟨.ref p,H,I,rfl,q⟩
def W7(K:PySem.W.Frag)(T:String)(x:V)(H:Hp):Prop:=match x with
 |.str _=>T="str"|.int _=>T="int"
 |.ref p=>(T="list"/\∃xs,aM K H p xs)\/(T="tuple"/\∃o,K.lookup p=some o/\o.cls=.type "tuple"/\o.dict=none)\/
   (T="dict"/\((∃kvs,H p=some (.dK kvs))\/∃kvs,H p=some (.dT kvs)))\/(T="set"/\∃S n,H p=some (.set S n))
 |_=>False
def OZ{x:V}{v:Value}(I:Inv X pins σ H s)(r:RelV x v)(ty:W7 X.K T x H):
  s.TypeIs v T/\∀a,v=.ref a->∃ob,s.heap.get? a=some ob/\ob.dict=none:=by
 cases x with
 |str z=>
  obtain⟨t,rfl⟩:=r;cases(show T="str"from ty);exact⟨mD s z t,λ_ e=>nomatch e⟩
 |int i=>
  obtain⟨t,rfl⟩:=r;cases(show T="int"from ty);exact⟨typeIs_int s i t,λ_ e=>nomatch e⟩
 |ref p=>
  cases r;obtain⟨rfl,xs,hq⟩|⟨rfl,o,hk,hc,hd⟩|⟨rfl,hk⟩|⟨rfl,S,n,hk⟩:=ty
  .obtain⟨aR,_,pl,_⟩:=I.list hq;refine⟨pl.isList.typeIs,λa e=>?_⟩;cases e;obtain⟨o,n,e,c,hd,_⟩:=pl;exact⟨o,e,hd⟩
  .refine⟨⟨o,I.Fo p o hk,hc⟩,λa e=>?_⟩;cases e;exact⟨o,I.Fo _ o hk,hd⟩
  .have z:∃o,s.heap.get? p=some o/\o.ExactDict:=by
    obtain⟨kvs,hk⟩|⟨kvs,hk⟩:=hk
    .obtain⟨_,_,_,_,o,_,_,e,ex,_⟩:=I.bL p _ hk;exact⟨o,e,ex⟩
    .obtain⟨_,_,_,_,o,_,_,e,ex,_⟩:=I.bL p _ hk;exact⟨o,e,ex⟩
   obtain⟨o,e,ex⟩:=z;refine⟨⟨o,e,ex.1⟩,λa e2=>?_⟩;cases e2;exact⟨o,e,ex.2.1⟩
  .obtain⟨o,_,_,_,e,ex,_⟩:=I.bL p _ hk;refine⟨⟨o,e,ex.1⟩,λa e2=>?_⟩;cases e2;exact⟨o,e,ex.2.1⟩
 |_=>exact False.elim ty
def ac_(K:PySem.W.Frag)(T:String)(r:V->List V->Hp->VK->Prop)(to:TE):TE:=λσ H Q=>to σ H λx H1=>W7 K T x H1/\r x [] H1 Q
def Y7(K:PySem.W.Frag)(T:String)(r:V->List V->Hp->VK->Prop)(to:TE)(t:TA):TE:=λσ H Q=>to σ H λx H1=>W7 K T x H1/\t σ H1 λxs H2=>r x xs H2 Q
variable {o:Expr} {es:List Expr} {to:TE} {t:TA} {eE:Pos} {id:String} {r:V->List V->Hp->VK->Prop}
def W8(pa:PlainAttrs T)(slot:Slot T name id)(Sf:typeOf (.builtin id)=pure (.type "method_descriptor"))(hm:OX X id r)(ho:PE X o to)(jO:attributeBase o name X.env (eval o X.env)=eval o X.env:=by rfl)(hline:(apos.endLine==eE.line)=true:=by rfl):PE X (.Call (.Attribute o name apos) [] [] eE) (ac_ X.K T r to):=by
 intro pins s σ H Q I h;refine wpAny_Call_method0_late jO hline (cJ (ho pins s σ H _ I h) λv s1 ada=>?_);obtain⟨x,H1,I1,r1,ty,q1⟩:=ada;obtain⟨h1,h2⟩:=OZ I1 r1 ty;exact⟨T,id,pa,slot,Sf,h1,h2,uj rfl (PySem.evalArgs_none (hm pins s1 σ H1 x [] v [] Q I1 r1 .nil q1))⟩
def Ky(pa:PlainAttrs T)(slot:Slot T name id)(Sf:typeOf (.builtin id)=pure (.type "method_descriptor"))(hm:OX X id r)(ho:PE X o to)(ha:PA X (e::es) t)(jO:attributeBase o name X.env (eval o X.env)=eval o X.env:=by rfl)(W9:((backTo eE (starEach (e::es) X.env)).all (λx=>!x.1)&&(backToKw eE (keywordEach [] X.env)).all (λx=>x.1.isSome)
   &&decide ((e::es).length+([]:List Keyword).length+(if([]:List Keyword).isEmpty then 0 else 1)<30))=true:=by rfl)(hline:(apos.endLine==eE.line)=true:=by rfl)(hs:starEach (e::es) X.env=(false,eval e X.env)::starEach es X.env:=by rfl)(Ip:(backTo eE (starEach es X.env)).any (·.1)=false:=by rfl):
  PE X (.Call (.Attribute o name apos) (e::es) [] eE) (Y7 X.K T r to t):=by
 intro pins s σ H Q I h;refine wpAny_Call_method_late jO W9 hline rfl (cJ (ho pins s σ H _ I h) λv s1 adb=>?_);obtain⟨x,H1,I1,r1,ty,q1⟩:=adb;obtain⟨h1,h2⟩:=OZ I1 r1 ty;refine⟨T,id,pa,slot,Sf,h1,h2,?_⟩;have hA:=ha eE pins s1 σ H1 _ I1 q1;rw[hs]at hA⊢;refine uj (by show(false||(backTo eE (starEach es X.env)).any (·.1))=false;rw[Ip] <;>rfl) (sq ?_);refine cJ hA λus s2 ade=>?_;obtain⟨vs,H2,I2,r2,q2⟩:=ade;exact hm pins s2 σ H2 x vs v us Q I2 r1 r2 q2
end
def MtM(X:Cx)(id:String)(r:V->List V->Hp->VK->Prop):Prop:=
 ∀(pins:List (Addr×Obj))(s:Shared)(σ:St)(H:Hp)(x:V)(xs:List V)(v:Value)(us:List Value)(Q:VK),Inv X pins σ H s->RelV x v->Vals xs us->r x xs H Q->
  wpAny (model X.prog X.w) X.A (call (.builtin id) (v::us)) (EP X pins σ Q) X.xe s
def Vals.one{x}(r:Vals [x] us):∃u,us=[u]/\RelV x u:=vals1 r
def Vals.zero:∀{us},Vals [] us->us=[]
 |_,.nil=>rfl
theorem Vals.dropLast(h:Vals xs us):Vals xs.dropLast us.dropLast:=by
 induction h with
 |nil=>exact .nil
 |cons r t ih=>
  cases t with
  |nil=>exact .nil|cons q t'=>exact .cons r ih
theorem Vals.rep(h:Vals xs us):∀k:Nat,Vals (List.replicate k xs).flatten (List.replicate k us).flatten
 |0=>.nil
 |k+1=>by
  exact Vals.append h (Vals.rep h k)
def Iq(l:List α):l.eraseIdx (l.length-1)=l.dropLast:=by
 induction l with
 |nil=>rfl
 |cons a r ih=>
  cases r with
  |nil=>rfl
  |cons b r=>
   have e:(a::b::r).length-1=((b::r).length-1)+1:=by
    have h1:(a::b::r).length=r.length+2:=rfl;have h2:(b::r).length=r.length+1:=rfl;omega
   rw[e,eraseIdx_cons_succ,ih]
   all_goals rfl
theorem foldl_rep(aR:List Value):∀k acc,
  List.foldl (λx1 x2=>x1++x2) acc.toArray (List.replicate k aR.toArray)=(acc++(List.replicate k aR).flatten).toArray
 |0,acc=>by simp
 |k+1,acc=>by
  have e:acc.toArray++aR.toArray=(acc++aR).toArray:=by simp
  have e2:(acc++aR)++(List.replicate k aR).flatten=acc++(List.replicate (k+1) aR).flatten:=by
   rw[kc,mz,g9]
  rw[<-e2,<-foldl_rep aR k (acc++aR),<-e,kc,fH]
section
variable {ys zs:List V}
def Inv.W_{aR Ig:List Value}{f:Array Value->Array Value}(I:Inv X pins σ H s)(hH:H l=some (.lst xs))(e:s.heap.get? l=some {cls:=.type "list",data:=.seq aR.toArray n})(hf:f aR.toArray=Ig.toArray)(hv:Vals ys Ig)(hz:ys.length<=sizeLine):
  Inv X pins σ (upd H l (.lst ys)) {s with heap:=s.heap.update l (Obj.mapSeq f),toks:=t'} :=by
 have q:=PySem.IsL.update e f;rw[hf]at q;refine I.write (e:=l) (by rw[hH];exact trivial) (.inl rfl) (λb' u hb hu=>(kH s.heap (Obj.mapSeq f) (c6 hb)).trans hu) ⟨_,q⟩ ?_;exact⟨hz,Ig,_,hv,q⟩
def Inv.ZS(I:Inv X pins σ H s)(hv:Vals ys aR)(hz:ys.length<=sizeLine):
  Inv X pins σ (upd H s.heap.objs.size (.lst ys)) {s with heap:=s.heap.push {cls:=.type "list",data:=.seq aR.toArray},toks:=t'} :=
 I.laid (λ_ _ q=>bQ _ q) (aL _) ⟨hz,aR,0,hv,bw _ rfl⟩
theorem Inv.fresh(I:Inv X pins σ H s):H s.heap.objs.size=none:=I.bL.fresh (aL _)
def Inv.Ir(I:Inv X pins σ H s)(hH:H l=some (.lst xs)):xs.length<=sizeLine/\∃(aR:List Value) (n:Nat),Vals xs aR/\xs.length=aR.length/\s.heap.get? l=some {cls:=.type "list",data:=.seq aR.toArray n} :=by
 obtain⟨z,aR,n,r,e⟩:=I.bL l _ hH;exact⟨z,aR,n,r,r.length,e⟩
def FN(h:n<=sizeLine):Builtin.List.listTooLong n=false:=by
 unfold Builtin.List.listTooLong;exact cU ()
end
section
def Kz:V->List V->Hp->VK->Prop:=λx vs H Q=>∃l xs y,x=.ref l/\vs=[y]/\H l=some (.lst xs)/\xs.length<sizeLine/\Q .cV (upd H l (.lst (xs++ [y])))
def MC:MtM X "list.append" Kz:=by
 intro pins s σ H x vs v us Q I rx rv h;obtain⟨l,xs,y,rfl,rfl,hH,hz,q⟩:=h;cases rx;obtain⟨u,rfl,ru⟩:=rv.one;obtain⟨z,aR,n,r,hl,e⟩:=I.Ir hH;refine iE F.slot_list_append ⟨_,e,rfl⟩ F.entry_list_append (F.args_list_append_2 _ _) (PySem.list_append l aR.toArray n u (by rw[cO];omega)) ⟨e,?_⟩;refine⟨.cV,_,I.W_ hH e ∅ (r.append (.cons ru .nil)) ?_,rfl,q⟩;rw[c9,length_singleton];omega
def Dv:V->List V->Hp->VK->Prop:=λx vs H Q=>∃l b xs zs,x=.ref l/\vs=[.ref b]/\H l=some (.lst xs)/\H b=some (.lst zs)/\xs.length+zs.length<=sizeLine/\Q .cV (upd H l (.lst (xs++zs)))
def BO:MtM X "list.extend" Dv:=by
 intro pins s σ H x vs v us Q I rx rv h;obtain⟨l,b,xs,zs,rfl,rfl,hH,hB,hz,q⟩:=h;cases rx;obtain⟨u,rfl,ru⟩:=rv.one;cases ru;obtain⟨z,aR,n,r,hl,e⟩:=I.Ir hH;obtain⟨z2,n6,n2,r2,Y8,e2⟩:=I.Ir hB;have f7:aR.toArray.size+n6.toArray.size<=sizeLine:=by rw[cO,cO];omega
 have O0:¬(!aR.toArray.isEmpty&&Builtin.List.listTooLong (aR.toArray.size+n6.toArray.size))=true:=by
  rw[FN f7,Bool.and_false];exact b_
 refine iE F.slot_list_extend ⟨_,e,rfl⟩ F.entry_list_extend (F.args_list_extend_2 _ _)
  (AutoSeq1.list_extend_list_list_0 l aR.toArray n b n6.toArray n2 O0 (by rw[cO];omega) ()) ⟨e,e2,?_⟩
 refine⟨.cV,_,I.W_ hH e ∅ (r.append r2) ?_,rfl,q⟩;rw[c9];omega
def adf:V->List V->Hp->VK->Prop:=λx vs H Q=>∃l xs y,x=.ref l/\vs=[]/\H l=some (.lst xs)/\xs[xs.length-1]?=some y/\Q y (upd H l (.lst xs.dropLast))
def Xa:MtM X "list.pop" adf:=by
 intro pins s σ H x vs v us Q I rx rv h;obtain⟨l,xs,y,rfl,rfl,hH,hy,q⟩:=h;cases rx;have hus:=rv.zero;subst hus;obtain⟨z,aR,n,r,hl,e⟩:=I.Ir hH;obtain⟨u,hu,ru⟩:=r.get hy;have MD:aR.toArray[aR.toArray.size-1]?=some u:=by
  show aR.toArray[aR.length-1]?=some u;rw[<-dv,<-hl];exact hu
 refine iE F.slot_list_pop ⟨_,e,rfl⟩ F.entry_list_pop (F.args_list_pop_1 _) (MeetsSeq.list_pop_last l aR.toArray n u MD (by rw[cO];omega)) ⟨e,?_⟩;refine⟨y,_,I.W_ hH e ?_ r.dropLast ?_,ru,q⟩
 .rw[cO,eraseIdxIfInBounds_toArray,Iq]
 .rw[length_dropLast];omega
def adg:R2:=λx y H Q=>∃l b xs zs,x=.ref l/\y=.ref b/\H l=some (.lst xs)/\H b=some (.lst zs)/\xs.length+zs.length<=sizeLine/\∀p,H p=none->Q (.ref p) (upd H p (.lst (xs++zs)))
def O1:p_ X (binaryOp .Add) adg:=by
 intro pins s σ H x y v u Q I rx ry h;obtain⟨l,b,xs,zs,rfl,rfl,hH,hB,hz,q⟩:=h;cases rx;cases ry;obtain⟨z,aR,n,r,hl,e⟩:=I.Ir hH;obtain⟨z2,n6,n2,r2,Y8,e2⟩:=I.Ir hB;refine PySem.P.add_list e e2 ?_ (by rw[cO,cO];omega);have ea:aR.toArray++n6.toArray=(aR++n6).toArray:=by simp
 rw[ea];exact⟨.ref _,_,I.ZS (r.append r2) (by rw[c9];omega),rfl,q _ I.fresh⟩
def adh:R2:=λx y H Q=>∃l k xs,x=.ref l/\y=.int k/\H l=some (.lst xs)/\-(2^63)<=k/\k<2^63/\xs.length*k.toNat<=sizeLine/\
 ∀p,H p=none->Q (.ref p) (upd H p (.lst (List.replicate k.toNat xs).flatten))
def len_rep(xs:List α) k:(List.replicate k xs).flatten.length=k*xs.length:=by
 induction k with
 |zero=>simp|succ k ih=>rw[kc,mz,c9,ih,Nat.succ_mul,sN]
def Iu:p_ X (binaryOp .Mult) adh:=by
 intro pins s σ H x y v u Q I rx ry h;obtain⟨l,k,xs,rfl,rfl,hH,h1,h2,hz,q⟩:=h;cases rx;obtain⟨t,rfl⟩:=ry;obtain⟨z,aR,n,r,hl,e⟩:=I.Ir hH;have hlen:aR.toArray.size*k.toNat<=sizeLine:=by rw[cO,<-hl];exact hz
 have adi:¬aR.toArray.size*k.toNat>(2^63-1)/8:=by
  have:(sizeLine:Nat)<=(2^63-1)/8:=by decide
  omega
 have Tr:¬(!Builtin.List.listFitsIndex k)=true:=by
  rw[fitsIndex_both h1 h2];exact b_
 have O0:¬Builtin.List.listTooLong (aR.toArray.size*k.toNat)=true:=by
  rw[FN hlen];exact b_
 have O2:List.foldl (λx1 x2=>x1++x2) #[] (List.replicate (if aR.toArray.isEmpty=true then 0 else k.toNat) aR.toArray)=(List.replicate k.toNat aR).flatten.toArray:=by
  have f0:=λm=>by
   have:=foldl_rep aR m [];rw[pL]at this;exact this
  rw[f0];cases aR with
  |nil=>simp|cons a r'=>rw[af ∅]
 refine wpAny_binaryOp_repeat_ref (U:="int") ⋯ ⟨_,e,rfl⟩ (λs'=>typeIs_int s' k t) noFill_list_mul F.fills_int_mul F.slot_int_rmul repeat_list F.slot_int_index.lookup
  (iE F.slot_int_rmul (typeIs_int s k t) F.entry_int_rmul (F.args_int_rmul_2 _ _) (int___rmul___int_list k t l aR.toArray n)
   ⟨e,rfl,⟨_,e,rfl⟩,iE F.slot_list_mul ⟨_,e,rfl⟩ F.entry_list_mul (F.args_list_mul_2 _ _) (AutoListH.list___mul___list_int_3 l aR.toArray n k t Tr adi O0) ⟨e,?_⟩⟩)
 rw[O2];exact⟨.ref _,_,I.ZS (r.rep k.toNat) (by rw[len_rep,mB];exact hz),rfl,q _ I.fresh⟩
end
theorem Vals.ints:∀{ns}{us},Vals (ns.map V.int) us->IntsAre us ns
 |[],us,h=>by
  cases h;exact IntsAre.nil
 |n::ns,us,h=>by
  cases h with
  |cons r t=>
   obtain⟨k,rfl⟩:=r;exact IntsAre.cons n k (Vals.ints t)
theorem jq:∀{us}{ns},IntsAre us ns->Vals (ns.map V.int) us
 |_,_,.nil=>by rw[Dc];exact Paired.nil|_,_,.cons n t h=>by rw[aI];exact Paired.cons (show RelV (V.int n) (Value.int n t)from⟨t,rfl⟩) (jq h)
def Vals.Ts(r:Vals [V.ref a] us):us=[Value.ref a]:=by
 cases r with
 |cons r t=>
  cases t;cases r;rfl
section
def Iv(K:PySem.W.Frag):V->List V->Hp->VK->Prop:=λx xs H Q=>∃(a:Addr) (ys:List V) (y:V) (j:Nat) (z:V),x=V.ref a/\xs=[y]/\aM K H a ys/\gY y=true/\ys.all gY=true/\ys[j]?=some z/\Io z y=true/\
 (∀(m:Nat)(z':V),m<j->ys[m]?=some z'->Io z' y=false)/\Q (.int (j:Nat)) H
def KA{ys:List V}(f:ys.all gY=true){z:V}(h:ys[j]?=some z):gY z=true:=all_eq_true.mp f z (bg h)
def O3:OX X "list.index" (Iv X.K):=by
 intro pins s σ H x xs v us Q I rx rxs h;obtain⟨a,ys,y,j,z,rfl,rfl,hs,fy,fys,hz,hzj,Y9,q⟩:=h;cases rx;cases rxs with
 |cons ry rt=>
  rename_i uy ut;cases rt;obtain⟨aR,rv,⟨⟨cls,dd,data,sl⟩,n,ho,hc,hdn,hd⟩,hlen⟩:=I.list hs;simp only at hc hd;subst hc hd;obtain⟨u,hu,ru⟩:=rv.get hz;obtain⟨hjl,hje⟩:=List.getElem?_eq_some_iff.mp hu;have Xb:=rv.length;have hj:j<aR.toArray.size:=‹hjl›
  have Xc:=cG;refine iE PySem.F.slot_list_index ⟨_,ho,rfl⟩ PySem.F.entry_list_index (PySem.F.args_list_index_2 _ _)
   (SeqAt.list_indexAt a aR.toArray n dd sl uy (HQ y) j hj () ?_ ?_) ⟨ho,λu' KC=>lI ry fy rv fys u' ‹KC›,?_⟩
  .have e1:aR.toArray[j]=u:=by simpa using hje
   rw[e1,Dt ru (KA fys hz)];exact hzj
  .intro m hm hmj;have hml:m<aR.length:=by simpa using hm
   have hmy:m<ys.length:=by omega
   have MD:=bt hmy;obtain⟨u2,ZT,ru2⟩:=rv.get MD;obtain⟨_,hme⟩:=List.getElem?_eq_some_iff.mp ZT;have e1:aR.toArray[m]=u2:=‹hme›
   rw[e1,Dt ru2 (KA fys MD)];exact Y9 m _ hmj MD
  .exact⟨.int (j:Nat),H,I.tok _,⟨_,rfl⟩,q⟩
end
mutual
inductive Dp(K:PySem.W.Frag)(H:Hp):V->PyData->Prop
 |cV:Dp K H .cV .none
 |bl (b:Bool):Dp K H (.bl b) (.bool b)
 |int (i:Int):Dp K H (.int i) (.int i)
 |str (x:Str):Dp K H (.str x) (.str x)
 |lst {a:Addr} {xs:List V} {ds:List PyData} :aM K H a xs->yr K H xs ds->Dp K H (.ref a) (.list ds)
 |tup {a:Addr} {xs:List V} {ds:List PyData} :jM K H a xs->yr K H xs ds->Dp K H (.ref a) (.tuple ds)
inductive yr(K:PySem.W.Frag)(H:Hp):List V->List PyData->Prop
 |nil:yr K H [] []
 |cons {v:V} {vs:List V} {d:PyData} {ds:List PyData} :Dp K H v d->yr K H vs ds->yr K H (v::vs) (d::ds)
end
section
mutual
theorem Dp.reads(I:Inv X pins σ H s):∀(d:PyData)(v:V)(u:Value),Dp X.K H v d->RelV v u->∃as,Reads s.heap u d as
 |.none,_,_,h,r=>by
  cases h;cases r;exact⟨_,Reads.none⟩
 |.bool b,_,_,h,r=>by
  cases h;cases r;exact⟨_,Reads.bool b⟩
 |.int i,_,_,h,r=>by
  cases h;obtain⟨t,rfl⟩:=r;exact⟨_,Reads.int i t⟩
 |.str x,_,_,h,r=>by
  cases h;obtain⟨t,rfl⟩:=r;exact⟨_,Reads.str x t⟩
 |.list ds,_,_,h,r=>by
  cases h with
  |lst hs ha=>
   cases r;obtain⟨aR,rv,⟨o,n,ho,hc,_,hd⟩,_⟩:=I.list hs;obtain⟨as,hr⟩:=Dp.readsAll I ds _ aR ha rv;exact⟨_,Reads.list ho hc hd hr⟩
 |.tuple ds,_,_,h,r=>by
  cases h with
  |tup hs ha=>
   cases r;obtain⟨aR,rv,⟨o,ho,hc,n,hd⟩,_⟩:=I.tuple hs;obtain⟨as,hr⟩:=Dp.readsAll I ds _ aR ha rv;exact⟨_,Reads.tuple ho hc hd hr⟩
 |.dict _,_,_,h,_=>by cases h
theorem Dp.readsAll(I:Inv X pins σ H s):∀(ds:List PyData)(vs:List V)(us:List Value),yr X.K H vs ds->Vals vs us->∃as,ReadsAll s.heap us ds as
 |[],_,_,h,r=>by
  cases h;cases r;exact⟨_,ReadsAll.nil⟩
 |d::ds,_,_,h,r=>by
  cases h with
  |cons h1 h2=>
   cases r with
   |cons r1 r2=>
    obtain⟨as,q1⟩:=Dp.reads I d _ _ h1 r1;obtain⟨bs,q2⟩:=Dp.readsAll I ds _ _ h2 r2;exact⟨_,ReadsAll.cons q1 q2⟩
end
end
section
def ZU(K:PySem.W.Frag):R2:=λx y H Q=>∃d e,Dp K H x d/\Dp K H y e/\SeqAt.shaped d=true/\SeqAt.shaped e=true/\Q (.bl (PyData.eqv d e)) H
def Xd(hu:X.A.units+64<cLine):p_ X (compareOp .Eq) (ZU X.K):=by
 intro pins s σ H x y v u Q I rx ry h;obtain⟨d,e,hd,he,sd,se,q⟩:=h;obtain⟨as,r1⟩:=Dp.reads I d x v hd rx;obtain⟨bs,r2⟩:=Dp.reads I e y u he ry;exact SeqAt.compareEq_shaped r1 r2 sd se hu ⟨.bl _,H,I,rfl,q⟩
end
abbrev O4(h:Heap)(c:Addr)(v:Option Value):Prop:=h.IsCell c v
noncomputable def adk(scope sc:Scope):Scope:=
 {scope with names:=scope.names.map λ(n,k)=>if(k==.free&&sc.kind==.function&&sc.names.lookup n==some .cell)then(n,.cell)else(n,k)}
noncomputable def cv(cells:List (Str×Addr)):List (Str×NameKind)->List (Str×Addr)->List (Str×Addr)
 |[],acc=>acc|(n,k)::r,acc=>if k==.free then cv cells r ((n,(cells.lookup n).getD 0)::acc)else cv cells r acc
theorem sX env f
  (hf:∀n k c,f (n,k) c=if k==.free then(do let a<-cellOf env n;pure (.yield ((n,a)::c)))else pure (.yield c)):
  ∀names acc,(∀y∈names,y.2=.free->∃c,env.cells.lookup y.1=some c)->forIn names acc f=pure (cv env.cells names acc)
 |[],acc,_=>by rw[forIn_nil];rfl
 |(n,k)::r,acc,h=>by
  rw[forIn_cons,hf];have ih:=λacc=>sX env f hf r acc λy hy=>h y (bI _ hy);unfold cv;by_cases hk:(k==NameKind.free)=true
  .rw[ag hk,ag hk];obtain⟨c,hc⟩:=h (n,k) b8 ‹hk›;have e:cellOf env n=pure c:=by unfold cellOf;rw[hc]
   rw[e];have e2:(env.cells.lookup n).getD 0=c:=by rw[hc];rfl
   rw[e2];exact ih _
  .rw[af hk,af hk];exact ih _
def Iw(h:∀y∈scope.names,y.2=.free->∃c,env.cells.lookup y.1=some c):closureFor scope env=pure (cv env.cells scope.names []):=by
 simp only[closureFor];rw[sX env _ (λn k c=>rfl) scope.names [] h];rfl
theorem mem_lookup:∀{l:List (Str×α)}{n}{c},(n,c)∈l->∃c',l.lookup n=some c'
 |(k,v)::r,n,c,h=>by
  rw[SV];cases hb:n==k with
  |true=>exact⟨_,rfl⟩
  |false=>
   obtain e|h:=mem_cons.mp h
   .cases e;simp at hb
   .exact mem_lookup h
theorem ku:∀{names}{acc}{n}{c},(n,c)∈cv cells names acc->(n,c)∈acc\/((n,.free)∈names/\c=(cells.lookup n).getD 0)
 |[],_,_,_,h=>.inl h
 |(m,k)::r,acc,n,c,h=>by
  unfold cv at h;split at h
  .rename_i hk;have hk:k=.free:=by simpa using hk
   obtain h|⟨h1,h2⟩:=ku h
   .obtain e|h:=mem_cons.mp h
    .cases e;exact .inr ⟨hk▸b8,rfl⟩
    .exact .inl h
   .exact .inr ⟨bI _ h1,h2⟩
  .obtain h|⟨h1,h2⟩:=ku h
   .exact .inl h
   .exact .inr ⟨bI _ h1,h2⟩
theorem ow:∀{names}{acc}{p},p∈acc->p∈cv cells names acc
 |[],_,_,h=>h
 |(m,k)::r,acc,p,h=>by
  unfold cv;split
  .exact ow (bI _ h)
  .exact ow h
theorem ox:∀{names}{acc}{n},(n,.free)∈names->(n,(cells.lookup n).getD 0)∈cv cells names acc
 |(m,k)::r,acc,n,h=>by
  unfold cv;obtain e|h:=mem_cons.mp h
  .cases e;exact ow b8
  .split
   .exact ox h
   .exact ox h
theorem lJ:∀{names}{h:Heap}{acc}{x}{c},(x,c)∈cellsFrom h.objs.size names acc->
  (x,c)∈acc\/((x,.cell)∈names/\h.objs.size<=c/\O4 (pushCells h names) c none)
 |[],_,_,_,_,h=>.inl h
 |(n,k)::r,h,acc,x,c,hm=>by
  unfold cellsFrom at hm;unfold pushCells;split at hm
  .rename_i hk;rw[ag hk];have hk:k=.cell:=by simpa using hk
   rw[<-dW h {cls:=.type "cell",data:=.cell none}]at hm;obtain hm|⟨h1,h2,h3⟩:=lJ hm
   .obtain e|hm:=mem_cons.mp hm
    .cases e;exact .inr ⟨hk▸b8,aL _,_,wW r _ _ _ (bw _ rfl),rfl⟩
    .exact .inl hm
   .rw[dW]at h2;exact .inr ⟨bI _ h1,wH h2,h3⟩
  .rename_i hk;rw[af hk];obtain hm|⟨h1,h2,h3⟩:=lJ hm
   .exact .inl hm
   .exact .inr ⟨bI _ h1,h2,h3⟩
theorem qe:∀{names}{n}{acc}{p},p∈acc->p∈cellsFrom n names acc
 |[],_,_,_,h=>h
 |(m,k)::r,n,acc,p,h=>by
  unfold cellsFrom;split
  .exact qe (bI _ h)
  .exact qe h
theorem ux:∀{names}{n}{acc}{x},(x,.cell)∈names->∃c,(x,c)∈cellsFrom n names acc
 |(m,k)::r,n,acc,x,h=>by
  unfold cellsFrom;obtain e|h:=mem_cons.mp h
  .cases e;exact⟨n,qe b8⟩
  .split
   .exact ux h
   .exact ux h
theorem uz:∀{names}{h:Heap}{acc:List (Str×Addr)}{x y}{c},(∀p∈acc,p.2<h.objs.size)->(∀x y c,(x,c)∈acc->(y,c)∈acc->x=y)->
  (x,c)∈cellsFrom h.objs.size names acc->(y,c)∈cellsFrom h.objs.size names acc->x=y
 |[],_,_,_,_,_,_,hi,h1,h2=>hi _ _ _ h1 h2
 |(n,k)::r,h,acc,x,y,c,hl,hi,h1,h2=>by
  unfold cellsFrom at h1 h2;split at h1
  .rename_i hk;rw[ag hk]at h2;rw[<-dW h {cls:=.type "cell",data:=.cell none}]at h1 h2;refine uz (λp hp=>?_) (λx y c a b=>?_) h1 h2
   .rw[dW];obtain rfl|hp:=mem_cons.mp hp
    .exact kK _
    .exact mj (hl p hp)
   .obtain e|a:=mem_cons.mp a<;>rcases mem_cons.mp b with e'|b
    .cases e;cases e';rfl
    .cases e;exact absurd (hl _ b) (iZ _)
    .cases e';exact absurd (hl _ a) (iZ _)
    .exact hi _ _ _ a b
  .rename_i hk;rw[af hk]at h2;exact uz hl hi h1 h2
def FO{code:Value}{Q:Env->Shared->Prop}(h:Q (newEnv scope s.heap.objs.size globals (cellsFrom (s.heap.objs.size+1) scope.names closure) qual func code (some around) builtins)
   {s with heap:=pushCells (s.heap.push {cls:=.type "dict",data:=.dict #[]}) scope.names}):
  wpAny M A (newFunctionEnv scope globals closure [] qual func code (some around) builtins) Q E s:=by
 simp only[newFunctionEnv,Option.isSome_some,if_true];refine aj (wpAny_alloc ?_);refine aj (wpAny_layCells _ (λn k c=>rfl) scope.names closure _ _ ?_);rw[show({s with heap:=s.heap.push {cls:=.type "dict",data:=.dict #[]}} :Shared).heap.objs.size=s.heap.objs.size+1 from dW ..];exact aj (ay (ay h))
theorem oy{sc:Scope}:∀{names:List (Str×NameKind)}{x}{k},
  (names.map λ(n,k)=>if(k==NameKind.free&&sc.kind==.function&&sc.names.lookup n==some .cell)then(n,NameKind.cell)else(n,k)).lookup x=some k->
  ∃k',names.lookup x=some k'/\(k=k'\/(k'=.free/\k=.cell))
 |[],_,_,h=>by simp at h
 |(n,k₀)::r,x,k,h=>by
  have ih:= @oy sc r x k;have h':List.lookup x ((if(k₀==NameKind.free&&sc.kind==.function&&sc.names.lookup n==some .cell)=true then(n,NameKind.cell)else(n,k₀))::(r.map _))=some k:=h;cases hx:x==n with
  |true=>
   simp only[lookup_cons,hx];by_cases hc:(k₀==NameKind.free&&sc.kind==.function&&sc.names.lookup n==some .cell)=true
   .rw[ag hc]at h';simp only[lookup_cons,hx]at h';cases h';simp only[Bool.and_eq_true,beq_iff_eq]at hc;exact⟨k₀,rfl,.inr ⟨hc.1.1,rfl⟩⟩
   .rw[af hc]at h';simp only[lookup_cons,hx]at h';cases h';exact⟨_,rfl,.inl rfl⟩
  |false=>
   simp only[lookup_cons,hx];by_cases hc:(k₀==NameKind.free&&sc.kind==.function&&sc.names.lookup n==some .cell)=true
   .rw[ag hc]at h';simp only[lookup_cons,hx]at h';exact ih h'
   .rw[af hc]at h';simp only[lookup_cons,hx]at h';exact ih h'
structure yt(N:List Str)(sc scope:Scope)(own:List (Str×Nat)):Prop where
 kind:scope.kind=.function
 uniq:∀y∈scope.names,scope.names.lookup y.1=some y.2
 ix:∀p∈own,N[p.2]?=some p.1
 free:∀y∈scope.names,y.2=.free->sc.names.lookup y.1=some .cell\/sc.names.lookup y.1=some .free
 own:∀y∈scope.names,y.2=.local\/y.2=.cell->y.1∈own.map (·.1)\/y.1∉N
noncomputable def wipe(σ:St):List Nat->St
 |[]=>σ|v::vs=>(wipe σ vs).set v none
theorem oz σ:∀vs:List Nat,(wipe σ vs).length=σ.length
 |[]=>rfl|v::vs=>by unfold wipe;rw[length_set,oz σ vs]
theorem uA{x:V}:∀{vs},(wipe σ vs)[i]?=some (some x)->σ[i]?=some (some x)/\i∉vs
 |[],h=>⟨h,by simp⟩
 |v::vs,h=>by
  unfold wipe at h;by_cases hi:v=i
  .subst hi;by_cases hv:v<(wipe σ vs).length
   .rw[getElem?_set_self hv]at h;cases h
   .rw[oj ‹hv›]at h;cases h
  .rw[getElem?_set_ne hi]at h;obtain⟨h1,h2⟩:=uA h;exact⟨h1,by simp only[mem_cons,not_or];exact⟨λe=>hi e.symm,h2⟩⟩
noncomputable abbrev Cx.Iy(X:Cx)(s:Shared)(H:Hp)(scope:Scope)(gk:Env)(fp:List Addr):Cx:= {X with xi:=s,ZE:=H,env:=gk,outer:=X.stack,ex:=fp,fn:=λx=>scope.names.lookup x==some .cell,pn:=[],xe:=λ_ _=>False}
section
def FP(I:Inv X pins σ H s)(ok:yt X.N X.env.scope scope own)(hN:X.N.Nodup)(Y_:∀b∈fp,vT X pins H b/\b<s.heap.objs.size):
  Inv (X.Iy s H scope (compEnvC scope (cellsFrom (s.heap.objs.size+1) scope.names (cv X.env.cells scope.names [])) s.heap.objs.size X.env) fp) [] (wipe σ (own.map (·.2))) H {s with heap:=pushCells (s.heap.push {cls:=.type "dict",data:=.dict #[]}) scope.names} :=by
 have vh:∀y∈scope.names,y.2=.free->∃c,X.env.cells.lookup y.1=some c:=λy hy e=>by
  obtain k|k:=ok.free y hy e
  .exact I.ok.has _ (.inl k)
  .exact I.ok.has _ (.inr k)
 generalize FQ:compEnvC scope (cellsFrom (s.heap.objs.size+1) scope.names (cv X.env.cells scope.names [])) s.heap.objs.size X.env=gk;have kp:∀b o,s.heap.get? b=some o->(pushCells (s.heap.push {cls:=.type "dict",data:=.dict #[]}) scope.names).get? b=some o:=λb o e=>wW _ _ _ _ (bQ _ e);have hL:gk.locals=s.heap.objs.size:=by rw[<-FQ];rfl
 have A3:gk.cells=cellsFrom (s.heap.objs.size+1) scope.names (cv X.env.cells scope.names []):=by rw[<-FQ];rfl
 have hsc:gk.scope=adk scope X.env.scope:=by rw[<-FQ];rfl
 rw[<-dW s.heap {cls:=.type "dict",data:=.dict #[]}]at A3;have cm:∀{y c},(y,c)∈cv X.env.cells scope.names []->X.env.cells.lookup y=some c/\c<s.heap.objs.size:=λ{y c} hm=>by
  obtain hm|⟨h1,rfl⟩:=ku hm
  .cases hm
  .obtain⟨c,hc⟩:=vh _ h1 rfl;rw[hc];obtain⟨w,z⟩:=I.cell _ _ hc;exact⟨rfl,z.lt⟩
 have mem:∀{y c},gk.cells.lookup y=some c->(X.env.cells.lookup y=some c/\c<s.heap.objs.size)\/(s.heap.objs.size+1<=c/\O4 (pushCells (s.heap.push {cls:=.type "dict",data:=.dict #[]}) scope.names) c none):=λ{y c} e=>by
  rw[A3]at e;obtain hm|⟨_,h2,h3⟩:=lJ (fT e)
  .exact .inl (cm hm)
  .rw[dW]at h2;exact .inr ⟨h2,h3⟩
 have look:∀{y},scope.names.lookup y=some .free->∃c,gk.cells.lookup y=some c/\X.env.cells.lookup y=some c:=λ{y} hl=>by
  have hy:=fT hl;obtain⟨c',e'⟩:=mem_lookup (qe (names:=scope.names) (ox (cells:=X.env.cells) (acc:=[]) hy));rw[<-A3]at e';refine⟨c',e',?_⟩;rw[A3]at e';obtain hm|⟨h1,_,_⟩:=lJ (fT e')
  .exact(cm hm).1
  .have:=ok.uniq _ h1;rw[hl]at this;cases this
 have okB:(X.Iy s H scope gk fp).Ok:=by
  refine⟨I.ok.mod,by show gk.scope.kind=_;rw[hsc];exact ok.kind,by show gk.globals=_;rw[<-FQ];exact I.ok.glob,by show gk.builtins=_;rw[<-FQ];exact I.ok.blt,by show s.heap.objs.size<=gk.locals;rw[hL];exact aL _,
   λy z c e1 e2=>?_,λy hy=>?_,λy c z e=>?_,I.ok.hd,I.ok.frames,.inl rfl,λb hb=>⟨?_,λy c e z=>?_⟩,I.bs,aX I.ok.Mt I.sz,λb o e hb=>?_,λb hb z=>?_,I.stack,I.De⟩
  .have e1:=e1;have e2:=e2;rw[A3]at e1 e2;refine uz (λp hp=>?_) (λy z c a b=>I.ok.inj y z c (cm a).1 (cm b).1) (fT e1) (fT e2);rw[dW];exact mj (cm (c:=p.2) hp).2
  .show∃c,gk.cells.lookup y=some c;have key:∀k,gk.kindOf y=some k->(k=.cell\/k=.free)->∃c,gk.cells.lookup y=some c:=λk hk qf=>by
    unfold Env.kindOf at hk;rw[hsc]at hk;obtain⟨k',e,r⟩:=oy hk;have:k'=.cell\/k'=.free:=by
     obtain rfl|⟨rfl,_⟩:=r
     .exact qf
     .exact .inr rfl
    obtain rfl|rfl:=this
    .obtain⟨c,hm⟩:=ux (acc:=cv X.env.cells scope.names []) (fT e);obtain⟨c',e'⟩:=mem_lookup hm;exact⟨c',by rw[A3];exact e'⟩
    .obtain⟨c,h1,_⟩:=look e;exact⟨c,h1⟩
   obtain hy|hy:=hy
   .exact key _ hy (.inl rfl)
   .exact key _ hy (.inr rfl)
  .have z:=z;have z:scope.names.lookup y=some .cell:=by simpa using z
   have e:=e;rw[A3]at e;obtain hm|⟨_,h2,_⟩:=lJ (fT e)
   .obtain hm|⟨h1,_⟩:=ku hm
    .cases hm
    .have q:=ok.uniq _ h1;rw[z]at q;cases q
   .rw[dW]at h2;exact wH h2
  .show b≠gk.locals;rw[hL];exact bB (Y_ b hb).2
  .have e:=e;obtain⟨h1,_⟩|⟨h1,_⟩:=mem e
   .exact(Y_ b hb).1.2.2.2.2.1 y c h1 z
   .have h2:s.heap.objs.size+1<=b:=by rw[<-z];exact h1
    exact absurd (dU (Y_ b hb).2 (wH h2)) (iZ _)
  .obtain z|z:=(Y_ b hb).1.2.2.2.1
   .exact I.ok.H_ b o e z
   .exact absurd (dU (aN e) (aX I.ok.Mt z)) (iZ _)
  .obtain z|z:=mem_cons.mp (I.Dd b z)
   .exact(Y_ b hb).1.2.1 z
   .exact(Y_ b hb).1.2.2.1 z
 refine⟨okB,rfl,I.bare,Un.kept kp,⟨λ_=>none,?_,λi y av e1 e2 e3=>?_⟩,λy c e=>?_,?_,λy c e=>?_,λp hp=>?_,I.bL.kept kp,by rw[oz];exact I.len⟩
 .show Heap.Ns _ gk.locals _;rw[hL];exact Heap.Ns.keeps (Heap.Ns.new ..) λb o e=>wW _ _ _ _ e
 .obtain⟨e2,gU⟩:=uA e2;have Fq:scope.names.lookup y=some .free/\(gk.kindOf y=some .cell\/gk.kindOf y=some .free):=by
   have key:∀k,gk.scope.names.lookup y=some k->k=.local\/k=.cell\/k=.free->scope.names.lookup y=some .free/\(gk.kindOf y=some .cell\/gk.kindOf y=some .free):=λk hk qf=>by
    have hk0:=hk;rw[hsc]at hk;obtain⟨k',e,r⟩:=oy hk;have no:¬(k'=.local\/k'=.cell):=λhh=>by
     obtain e'|e':=ok.own _ (fT e) hh
     .obtain⟨p,hp,Sg⟩:=mem_map.mp e';have e3:=ok.ix p hp;have:=Sg;rw[this]at e3;exact gU (mem_map.mpr ⟨p,hp,ya hN e3 e1⟩)
     .exact e' (bg e1)
    obtain rfl|⟨rfl,rfl⟩:=r
    .obtain rfl|rfl|rfl:=qf
     .exact absurd (.inl rfl) no
     .exact absurd (.inr rfl) no
     .exact⟨e,.inr hk0⟩
    .exact⟨e,.inl hk0⟩
   have e3:=e3;obtain e3|e3|e3:=e3
   .exact key _ e3 (.inl rfl)
   .exact key _ e3 (.inr (.inl rfl))
   .exact key _ e3 (.inr (.inr rfl))
  obtain⟨m,hn,hl⟩:=I.loc;have adl:ZF X.env.scope y:=(ok.free _ (fT Fq.1) rfl).elim (λk=>.inr (.inl k)) (λk=>.inr (.inr k));obtain⟨w,r,q⟩:=hl i y av e1 e2 adl;refine⟨w,r,.inr ⟨Fq.2,?_⟩⟩;obtain⟨c,h1,h2⟩:=look Fq.1;obtain⟨k,_⟩|⟨_,c',e',z⟩:=q
  .have k:X.env.scope.names.lookup y=some .local:=k;obtain k'|k':=ok.free _ (fT Fq.1) rfl<;>rw[show X.env.scope.names.lookup y=_ from k']at k<;>cases k
  .rw[h2]at e';cases e';exact⟨c,h1,z.keeps kp⟩
 .have e:=e;obtain⟨h1,_⟩|⟨_,z⟩:=mem e
  .obtain⟨w,z⟩:=I.cell y c h1;exact⟨w,z.keeps kp⟩
  .exact⟨_,z⟩
 .show H gk.locals=none;rw[hL];exact I.bL.fresh (aL _)
 .have e:=e;obtain⟨h1,_⟩|⟨h1,_⟩:=mem e
  .exact I.iO y c h1
  .exact I.bL.fresh (wH h1)
 .exact absurd (show p∈([]:List (Addr×Obj))++ []from hp) ∅
def Xe{v:Value}(I:Inv X pins σ H s)(hD:H D=some (.lst xs))(hz:xs.length<sizeLine)(r:RelV y v)(h:∀s',Inv X pins σ (upd H D (.lst (xs++ [y]))) s'->Q .none s'):wpAny (model X.prog X.w) X.A (call (.builtin "list.append") [.ref D,v]) Q E s:=by
 obtain⟨Fs,aR,n,ri,e⟩:=I.bL D _ hD;have hl:=ri.length;refine append_at e λh' sb xj=>?_;refine h {s with heap:=h'} (I.write (by rw[hD];trivial) (.inl rfl) (λb u hb q=>(sb.2 b hb).trans q) ⟨_,xj⟩ ⟨by rw[c9];exact hz,aR++ [v],n+1,ri.append (.cons r .nil),?_⟩);rw[xj];simp
def Xf(X:Cx)(ifs:List Expr)(t:TT):Prop:=
 ∀(pins:List (Addr×Obj))(s:Shared)(σ:St)(H:Hp)(Q:Bool->Hp->Prop),Inv X pins σ H s->t σ H Q->
  wpAny (model X.prog X.w) X.A (forIn ifs true λc r=>if r=true then do let ok<-isTrue c X.env (eval c X.env);pure (ForInStep.yield ok)else pure (ForInStep.yield r)) (TP X pins σ Q) X.xe s
def FR:TT:=λ_ H Q=>Q true H
def dH:Xf X [] FR:=λ_ _ _ H _ I h=>wpAny_tests_nil ⟨H,I,h⟩
def xl{c:Expr}{t:TT}(h:PT X c t):Xf X [c] t:=λpins s σ H Q I hw=>wpAny_tests_one (h pins s σ H Q I hw)
end
def Xg{t:Sem α}{Q Q':α->Shared->Prop}(h:wpAny M A t Q (λ_ _=>False) s)(hQ:∀a s,Q a s->Q' a s):wpAny M A t Q' E s:=da h hQ λ_ _ z=>False.elim z
def Dx{it acc:Value}(I:Nat->Shared->Prop)(turn:∀n s,I n s->wpAny (model prog w) A (pyNext it) (λr s₁=>match r with
   |none=>R (.ok .next) s₁
   |some v=>wpAny (model prog w) A (letOwnedTupleGo target it v) (λ_ s₁'=>wpAny (model prog w) A (assign target env v) (λ_ s₂=>
     wpAny (model prog w) A (forIn ifs true λc r=>if r=true then do let ok<-isTrue c env (eval c env);pure (ForInStep.yield ok)else pure (ForInStep.yield r)) (λok s₃=>
      if ok=true then wpAny (model prog w) A (eval elt env) (λx s₄=>
       wpAny (model prog w) A (call (.builtin "list.append") [acc,x]) (λ_ s₅=>∃m,m<n/\I m s₅) (notedBy (model prog w) A env λe s'=>R (.error e) s') s₄) (notedBy (model prog w) A env λe s'=>R (.error e) s') s₃
      else∃m,m<n/\I m s₃) (notedBy (model prog w) A env λe s'=>R (.error e) s') s₂) (notedBy (model prog w) A env λe s'=>R (.error e) s') s₁') (notedBy (model prog w) A env λe s'=>R (.error e) s') s₁) (notedBy (model prog w) A env λe s'=>R (.error e) s') s)
   n (h:I n s):
  codeAny (model prog w) A (.compLoop (.ListComp elt [⟨target,iter,ifs,0⟩] scope pos) 0 it acc env) R s:=by
 refine codeAny_loop rfl I (λn s hI=>?_) n h;refine wpAny_noted ?_;refine aj (wpAny_standAt (aj (da (turn n s hI) (λr s₁ h₁=>?_) λ_ _ h'=>h')));cases r with
 |none=>exact ay h₁
 |some v=>
  refine aj (da h₁ (λ_ s₁' h₁'=>?_) λ_ _ h'=>h');refine aj (da h₁' (λ_ s₂ h₂=>aj (da h₂ (λok s₃ h₃=>?_) λ_ _ h'=>h')) λ_ _ h'=>h');cases ok with
  |false=>exact ay ⟨rfl,h₃⟩
  |true=>
   exact aj (aj (da h₃ (λx s₄ h₄=>aj (da h₄ (λ_ s₅ h₅=>ay (ay ⟨rfl,h₅⟩)) λ_ _ h'=>h')) λ_ _ h'=>h'))
section
def Za(wi:TI)(g:TG)(tt:TT)(te:TE)(vs:List Nat):TE:=λσ H Q=>wi σ H λJ H1=>∀D,H1 D=none->∃W:Nat->Nat->Hp->Prop,(∃m,W 0 m (upd H1 D (.lst [])))/\∀i m H,W i m H->
 (J.stop i H/\Q (.ref D) H)\/(J.go i H/\∃Nx:Hp->Prop,(∀H',Nx H'->∃m',m'<m/\W (i+1) m' H')/\∀x H',J.Fp i H x H'->g x (wipe σ vs) H' λσ2 H2=>wipe σ2 vs=wipe σ vs/\tt σ2 H2 λb H3=>
  if b=true then te σ2 H3 λy H4=>∃acc,H4 D=some (.lst acc)/\acc.length<sizeLine/\Nx (upd H4 D (.lst (acc++ [y])))else Nx H3)
def sY{y:Str}{l:Nat}(hk:env.scope.kind=.function)(hy:env.scope.names.lookup y=some .local)(hl:(py.line==pos.line)=true)(ha:(scope.names.any λ(n,k)=>n==y&&(k==.local||k==.cell))=false):swapsWith (.ListComp elt gs scope pos) (some (.Name y py)) l env=pure true:=by
 have ky:env.kindOf y=some .local:=hy;have hb:env.blockKind=.function:=by unfold Env.blockKind;rw[hk];rfl
 unfold swapsWith;have hp:(Expr.ListComp elt gs scope pos).pos=pos:=rfl;have hq:(Expr.Name y py).pos=py:=rfl;simp only[hb,ky,ha,hp,hq,hl];rfl
end
def FT{lo:Int}{vs:List Nat}(Pv:Nat->Hp->Prop)(h0:Pv 0 (upd H1 D (.lst [])))(hs:∀i H,i<n->Pv i H->g (.int (lo+i)) (wipe σ vs) H λσ2 H2=>wipe σ2 vs=wipe σ vs/\tt σ2 H2 λb H3=>
   if b=true then te σ2 H3 λy H4=>∃acc,H4 D=some (.lst acc)/\acc.length<sizeLine/\Pv (i+1) (upd H4 D (.lst (acc++ [y])))else Pv (i+1) H3)(hd:∀H,Pv n H->Qd H):
  ∃W:Nat->Nat->Hp->Prop,(∃m,W 0 m (upd H1 D (.lst [])))/\∀i m H,W i m H->
   ((Sd lo n).stop i H/\Qd H)\/((Sd lo n).go i H/\∃Nx:Hp->Prop,(∀H',Nx H'->∃m',m'<m/\W (i+1) m' H')/\∀x H',(Sd lo n).Fp i H x H'->g x (wipe σ vs) H' λσ2 H2=>wipe σ2 vs=wipe σ vs/\tt σ2 H2 λb H3=>
    if b=true then te σ2 H3 λy H4=>∃acc,H4 D=some (.lst acc)/\acc.length<sizeLine/\Nx (upd H4 D (.lst (acc++ [y])))else Nx H3):=by
 refine⟨λi m H=>m=n-i/\i<=n/\Pv i H,⟨n,by simp,cz _,h0⟩,?_⟩;rintro i m H ⟨rfl,hi,p⟩;by_cases dR:i<n
 .refine .inr ⟨dR,Pv (i+1),λH' p'=>⟨n-(i+1),by omega,rfl,dR,p'⟩,λx H' y=>?_⟩;obtain⟨e,y⟩:=y;subst e y;exact hs i _ dR p
 .have e:i=n:=by omega
  subst e;exact .inl ⟨aL _,hd H p⟩
def Tt{vs:List Nat}(Pv:Nat->Hp->Prop)(h0:Pv 0 (upd H1 D (.lst [])))(hl:∀i H,i<=xs.length->Pv i H->aM K H a xs)(hs:∀i x H,xs[i]?=some x->Pv i H->g x (wipe σ vs) H λσ2 H2=>wipe σ2 vs=wipe σ vs/\tt σ2 H2 λb H3=>
   if b=true then te σ2 H3 λy H4=>∃acc,H4 D=some (.lst acc)/\acc.length<sizeLine/\Pv (i+1) (upd H4 D (.lst (acc++ [y])))else Pv (i+1) H3)(hd:∀H,Pv xs.length H->Qd H):
  ∃W:Nat->Nat->Hp->Prop,(∃m,W 0 m (upd H1 D (.lst [])))/\∀i m H,W i m H->
   ((OJ K a).stop i H/\Qd H)\/((OJ K a).go i H/\∃Nx:Hp->Prop,(∀H',Nx H'->∃m',m'<m/\W (i+1) m' H')/\∀x H',(OJ K a).Fp i H x H'->g x (wipe σ vs) H' λσ2 H2=>wipe σ2 vs=wipe σ vs/\tt σ2 H2 λb H3=>
    if b=true then te σ2 H3 λy H4=>∃acc,H4 D=some (.lst acc)/\acc.length<sizeLine/\Nx (upd H4 D (.lst (acc++ [y])))else Nx H3):=by
 refine⟨λi m H=>m=xs.length-i/\i<=xs.length/\Pv i H,⟨xs.length,by simp,cz _,h0⟩,?_⟩;rintro i m H ⟨rfl,hi,p⟩;have q:=hl i H hi p;by_cases dR:i<xs.length
 .refine .inr ⟨⟨xs,xs[i],q,by simp[dR]⟩,Pv (i+1),λH' p'=>⟨xs.length-(i+1),by omega,rfl,dR,p'⟩,λx H' y=>?_⟩;obtain⟨e,y⟩:=y;subst e;exact hs i x _ (y xs q) p
 .have e:i=xs.length:=by omega
  subst e;exact .inl ⟨⟨xs,q,aL _⟩,hd H p⟩
noncomputable def ZV(N:List Str)(sc scope:Scope)(own:List (Str×Nat)):Bool:=
 (match scope.kind with|.function=>true|_=>false)&&(scope.names.all λy=>decide (scope.names.lookup y.1=some y.2))&&(own.all λp=>decide (N[p.2]?=some p.1))&&
  (scope.names.all λy=>match y.2 with
   |.free=>(match sc.names.lookup y.1 with|some .cell=>true|some .free=>true|_=>false)
   |.local=>decide (y.1∈own.map (·.1))||decide (y.1∉N)
   |.cell=>decide (y.1∈own.map (·.1))||decide (y.1∉N)
   |_=>true)
def bX(h:ZV N sc scope own=true):yt N sc scope own:=by
 unfold ZV at h;simp only[Bool.and_eq_true,all_eq_true,decide_eq_true_eq]at h;obtain⟨⟨⟨h1,h2⟩,h3⟩,h4⟩:=h;refine⟨?_,h2,h3,λy hy e=>?_,λy hy e=>?_⟩
 .split at h1
  .assumption
  .cases h1
 .have q:=h4 y hy;simp only[e]at q;split at q<;>first|exact .inl (by assumption)|exact .inr (by assumption)|cases q
 .have q:=h4 y hy;obtain e|e:=e<;>(simp only[e,Bool.or_eq_true,decide_eq_true_eq]at q;exact q)
section
variable {κ:Type} [DecidableEq κ]
noncomputable def eU(kvs:List (κ×V))(k:κ):Option V:=(kvs.find? λkv=>decide (kv.1=k)).map (·.2)
noncomputable def putK(kvs:List (κ×V))(k:κ)(v:V):List (κ×V):=
 if(kvs.any λkv=>decide (kv.1=k))=true then kvs.map (λkv=>if kv.1=k then(kv.1,v)else kv)else kvs++ [(k,v)]
theorem cA{r:List (κ×V)}(e:p.1=k):eU (p::r) k=some p.2:=by simp[eU,find?_cons,e]
def cB{r:List (κ×V)}(e:¬p.1=k):eU (p::r) k=eU r k:=by simp[eU,find?_cons,e]
theorem sZ k:∀kvs:List (κ×V),(kvs.any λkv=>decide (kv.1=k))=(eU kvs k).isSome
 |[]=>rfl
 |p::r=>by
  rw[any_cons];by_cases e:p.1=k
  .simp only[cA e,decide_eq_true e,Bool.true_or,Option.isSome_some]
  .rw[cB e,cU e,Km];exact sZ k r
theorem FU k j y:∀kvs:List (κ×V),eU (kvs.map λkv=>if kv.1=k then(kv.1,y)else kv) j=(eU kvs j).map λx=>if j=k then y else x
 |[]=>rfl
 |p::r=>by
  have ih:=FU k j y r;rw[aI];by_cases h:p.1=k
  .rw[ag h];by_cases e:p.1=j
   .rw[cA (p:=(p.1,y)) e,cA e,C8,ag (e.symm.trans h)]
   .rw[cB (p:=(p.1,y)) e,cB e,ih]
  .rw[af h];by_cases e:p.1=j
   .rw[cA e,cA e,C8,af (λz=>h (e.trans z))]
   .rw[cB e,cB e,ih]
theorem BP k j y:∀kvs:List (κ×V),eU kvs k=none->eU (kvs++ [(k,y)]) j=if j=k then some y else eU kvs j
 |[],_=>by
  by_cases e:k=j
  .rw[ag e.symm];exact cA e
  .rw[af (λz=>e z.symm)];exact cB e
 |p::r,hn=>by
  rw[cons_append];have hk:¬p.1=k:=λz=>by rw[cA z]at hn;cases hn
  rw[cB hk]at hn;have ih:=BP k j y r hn;by_cases e:p.1=j
  .rw[cA e,cA e,af (λz=>hk (e.trans z))]
  .rw[cB e,cB e,ih]
def FV(kvs:List (κ×V)) k j y:eU (putK kvs k y) j=if j=k then some y else eU kvs j:=by
 unfold putK;by_cases a:(kvs.any λkv=>decide (kv.1=k))=true
 .rw[ag a,FU];rw[sZ]at a;by_cases e:j=k
  .obtain⟨x,hx⟩:=Option.isSome_iff_exists.mp a;rw[ag e,e,hx,C8,ag rfl]
  .rw[af e];cases eU kvs j with
   |none=>rfl|some x=>rw[C8,af e]
 .rw[af a];refine BP k j y kvs ?_;rw[sZ]at a;cases q:eU kvs k with
  |none=>rfl|some x=>rw[q]at a;exact(a rfl).elim
def oA(kvs:List (κ×V)) k v:(putK kvs k v).length<=kvs.length+1:=by
 unfold putK;split
 .rw[az];omega
 .rw[c9,aY,pH];omega
def rg.qg{o:Option V}{u:Option Value}(r:rg o u):o.isSome=u.isSome:=by
 cases o with
 |none=>cases u with
  |none=>rfl|some _=>exact(show False from r).elim
 |some _=>cases u with
  |none=>exact(show False from r).elim
  |some _=>rfl
theorem rg.getD{o:Option V}{u:Option Value}(r:rg o u)(rd:RelV d d'):RelV (o.getD d) (u.getD d'):=by
 cases o with
 |none=>cases u with
  |none=>exact rd|some _=>exact(show False from r).elim
 |some _=>cases u with
  |none=>exact(show False from r).elim
  |some _=>exact r
def KV.val{kvs:List (κ×V)}{vs:List (κ×Value)}(r:KV kvs vs) k:rg (eU kvs k) (valueAt vs k):=by
 induction r with
 |nil=>exact True.intro
 |@cons p q ps qs h t ih=>
  obtain⟨h1,h2⟩:=h;by_cases e:p.1=k
  .have e':=h1.symm.trans e;have b:valueAt (q::qs) k=some q.2:=by simp[valueAt,find?_cons,e']
   rw[cA e,b];exact h2
  .have e':¬q.1=k:=λz=>e (h1.trans z);have b:valueAt (q::qs) k=valueAt qs k:=by simp[valueAt,find?_cons,e']
   rw[cB e,b];exact ih
theorem KV.any{kvs:List (κ×V)}{vs:List (κ×Value)}(r:KV kvs vs) k:(kvs.any λkv=>decide (kv.1=k))=vs.any λkv=>decide (kv.1=k):=by
 induction r with
 |nil=>rfl|cons h t ih=>rw[any_cons,any_cons,ih,h.1]
def KV.repl{kvs:List (κ×V)}{vs:List (κ×Value)}(r:KV kvs vs) k (ry:RelV y u):
  KV (kvs.map λkv=>if kv.1=k then(kv.1,y)else kv) (vs.map λkv=>if kv.1=k then(kv.1,u)else kv):=by
 induction r with
 |nil=>exact .nil
 |@cons p q ps qs h t ih=>
  rw[aI,aI];refine .cons ?_ ih;obtain⟨h1,h2⟩:=h;by_cases e:p.1=k
  .rw[ag e,ag (h1.symm.trans e)];exact⟨h1,ry⟩
  .rw[af e,af (λz=>e (h1.trans z))];exact⟨h1,h2⟩
theorem KV.put{kvs:List (κ×V)}{vs:List (κ×Value)}(r:KV kvs vs) k (ry:RelV y u):KV (putK kvs k y) (stored vs k u):=by
 unfold putK stored;rw[r.any k];by_cases e:(vs.any λkv=>decide (kv.1=k))=true
 .rw[ag e,ag e];exact r.repl k ry
 .rw[af e,af e];exact ki r ⟨rfl,ry⟩
theorem KV.keys{kvs:List (κ×V)}{vs:List (κ×Value)}(r:KV kvs vs):kvs.map (·.1)=vs.map (·.1):=by
 unfold KV at r
 induction r with
 |nil=>rfl|cons h t ih=>rw[aI,aI,ih,h.1]
theorem KV.length{kvs:List (κ×V)}{vs:List (κ×Value)}(r:KV kvs vs):kvs.length=vs.length:=Paired.length r
end
def tj(r:RelV (kV k) u):(bK P w).is k u=true:=by
 cases k with
 |inl i=>obtain⟨t,e⟩:=(show∃t,u=Value.int i t from r);subst e;exact Fv P w i t
 |inr x=>obtain⟨t,e⟩:=(show∃t,u=Value.str x t from r);subst e;exact Fw P w x t
theorem BQ:∀{ks}{us},Vals (ks.map kV) us->ItemsAre (bK P w) ks us
 |[],_,r=>by rw[Dc]at r;cases r;exact .nil
 |k::ks,_,r=>by
  cases r with
  |cons h t=>exact .cons (tj h) (BQ t)
abbrev KT(H:Hp):List (List Key×V)->List (List Key×Addr×Value)->Prop:=Paired λp q=>p.1=q.1/\H q.2.1=some (.tup (p.1.map kV))/\RelV p.2 q.2.2
def KT.val{kvs:List (List Key×V)}{xs:List (List Key×Addr×Value)}(r:KT H kvs xs) k:rg (eU kvs k) ((atKey xs k).map (·.2)):=by
 induction r with
 |nil=>exact True.intro
 |@cons p q ps qs h t ih=>
  obtain⟨h1,_,h2⟩:=h;by_cases e:p.1=k
  .have e':=h1.symm.trans e;have b:atKey (q::qs) k=some q.2:=by simp[atKey,find?_cons,e']
   rw[cA e,b];exact h2
  .have e':¬q.1=k:=λz=>e (h1.trans z);have b:atKey (q::qs) k=atKey qs k:=by simp[atKey,find?_cons,e']
   rw[cB e,b];exact ih
def KT.repl{kvs:List (List Key×V)}{xs:List (List Key×Addr×Value)}(r:KT H kvs xs) k (ry:RelV y u):
  KT H (kvs.map λkv=>if kv.1=k then(kv.1,y)else kv) (xs.map (putAt k u)):=by
 induction r with
 |nil=>exact .nil
 |@cons p q ps qs h t ih=>
  rw[aI,aI];refine .cons ?_ ih;obtain⟨h1,h2,h3⟩:=h;unfold putAt;by_cases e:p.1=k
  .rw[ag e,ag (h1.symm.trans e)];exact⟨h1,h2,ry⟩
  .rw[af e,af (λz=>e (h1.trans z))];exact⟨h1,h2,h3⟩
theorem KT.put{kvs:List (List Key×V)}{xs:List (List Key×Addr×Value)}(r:KT H kvs xs) k (hb:H b=some (.tup (k.map kV))) (ry:RelV y u):
  KT H (putK kvs k y) (storedH xs k b u):=by
 have e:(kvs.any λkv=>decide (kv.1=k))=(atKey xs k).isSome:=by
  rw[sZ,(r.val k).qg,Option.isSome_map]
 unfold putK storedH;rw[e];by_cases q:(atKey xs k).isSome=true
 .rw[ag q,ag q];exact r.repl k ry
 .rw[af q,af q];exact ki r ⟨rfl,hb,ry⟩
def KT.keeps{kvs:List (List Key×V)}{xs:List (List Key×Addr×Value)}(r:KT H kvs xs)(ht:∀b ys,H b=some (.tup ys)->H' b=some (.tup ys)):KT H' kvs xs:=
 Paired.fU r λ_ _ z=>⟨z.1,ht _ _ z.2.1,z.2.2⟩
section
def VA{u:HO}(ok:mG P w H h)(e:Rd H a u):dF P w H h a u:=e.ok ok
def BR(ok:mG P w H h)(e:Rd H a (.dK kvs)):kvs.length<=sizeLine/\(a==sysModules)=false/\∃vs,KV kvs vs/\h.DictOf (bK P w) a vs:=
 show dF P w H h a (.dK kvs)from VA ok e
def VB(ok:mG P w H h)(e:H a=some (.dK kvs)):kvs.length<=sizeLine/\(a==sysModules)=false/\∃vs,KV kvs vs/\h.DictOf (bK P w) a vs:=BR ok (.inl e)
def yu{ks:List Key}(ok:mG P w H h)(e:H a=some (.tup (ks.map kV))):(tupleKind (bK P w)).is h ks a:=by
 obtain⟨_,aR,r,o,h1,h2,n,h3⟩:=(show dF P w H h a (.tup (ks.map kV))from ok a _ e);exact⟨o,aR.toArray,n,h1,h2,h3,‹BQ r›⟩
def BU{kvs:List (List Key×V)}(ok:mG P w H h)(e:Rd H a (.dT kvs)):kvs.length<=sizeLine/\(a==sysModules)=false/\
  ∃xs,KT H kvs xs/\h.DictOfH (tupleKind (bK P w)) a xs:=by
 obtain⟨z,y,xs,r,o,es,ep,h1,h2,h3,h4,h5⟩:=(show dF P w H h a (.dT kvs)from VA ok e);refine⟨z,y,xs,r,o,es,ep,h1,h2,h3,h4,λx hx=>?_,h5⟩;have all:∀{l:List (List Key×V)}{m:List (List Key×Addr×Value)},KT H l m->∀x∈m,(tupleKind (bK P w)).is h x.1 x.2.1:=by
  intro l m q
  induction q with
  |nil=>intro x hx;exact nomatch hx
  |@cons p q ps qs hq t ih=>
   intro x hx;obtain e|hx:=mem_cons.mp hx
   .subst e;exact yu ok (by rw[<-hq.1];exact hq.2.1)
   .exact ih x hx
 exact all r x hx
def ZW{kvs:List (List Key×V)}(ok:mG P w H h)(e:H a=some (.dT kvs)):kvs.length<=sizeLine/\(a==sysModules)=false/\
  ∃xs,KT H kvs xs/\h.DictOfH (tupleKind (bK P w)) a xs:=BU ok (.inl e)
end
def n8(H:Hp)(a:Addr)(y:V)(r:Option V):Prop:=
 (∃kvs k,Rd H a (.dK kvs)/\y=kV k/\r=eU kvs k)\/∃kvs k b,Rd H a (.dT kvs)/\y=.ref b/\H b=some (.tup (k.map kV))/\r=eU kvs k
def FW(H:Hp)(a:Addr)(y v:V)(H':Hp):Prop:=
 (∃kvs k,H a=some (.dK kvs)/\y=kV k/\kvs.length<sizeLine/\H'=upd H a (.dK (putK kvs k v)))\/
 ∃kvs k b,H a=some (.dT kvs)/\y=.ref b/\H b=some (.tup (k.map kV))/\kvs.length<sizeLine/\H'=upd H a (.dT (putK kvs k v))
theorem n8.k{k:Key}(e:H a=some (.dK kvs)):n8 H a (kV k) (eU kvs k):=.inl ⟨kvs,k,.inl e,rfl,rfl⟩
theorem FW.k{k:Key}(e:H a=some (.dK kvs))(hl:kvs.length<sizeLine):FW H a (kV k) v (upd H a (.dK (putK kvs k v))):=.inl ⟨kvs,k,e,rfl,hl,rfl⟩
section
variable {r:Value} {o:Option V}
def Inv.big(I:Inv X pins σ H s):sysModules<s.heap.objs.size:=by
 have h:=(I.mod.glob.keeps I.bk).lt;exact sO ⋯ h
def ME(hu:A.units+1<cLine)(I:Inv X pins σ H s)(g:n8 H a y (some v))(ry:RelV y u)(h:∀w' s',Inv X pins σ H s'->RelV v w'->Q w' s'):
  wpAny (model X.prog X.w) A (getItem (.ref a) u) Q E s:=by
 obtain⟨kvs,k,e,ey,l⟩|⟨kvs,k,b,e,ey,eb,l⟩:=g
 .subst ey;obtain⟨z,hd,vs,rel,dd⟩:=BR I.bL e;obtain⟨w',hw,MB⟩:=rg.some_of (v:=v) (by rw[l];exact rel.val k);exact wpAny_getItem_of (tj ry) dd.mapOf hw (h w' _ (I.tok _) MB)
 .subst ey;cases(show u=Value.ref b from ry);obtain⟨z,hd,xs,rel,dd⟩:=BU I.bL e;obtain⟨w',hw,MB⟩:=rg.some_of (v:=v) (by rw[l];exact rel.val k);obtain⟨p,hp,Iz⟩:=Option.map_eq_some_iff.mp hw;refine wpAny_getItem_heap (wB hu) (yu I.bL eb) dd hp ?_;rw[Iz];exact h w' _ (I.tok _) MB
def Tv(hu:A.units+1<cLine)(I:Inv X pins σ H s)(g:n8 H a y o)(ry:RelV y u)(h:∀s',Inv X pins σ H s'->Q (.bool (!o.isSome)) s'):
  wpAny (model X.prog X.w) A (compareOp .NotIn u (.ref a)) Q E s:=by
 obtain⟨kvs,k,e,ey,l⟩|⟨kvs,k,b,e,ey,eb,l⟩:=g
 .subst ey;obtain⟨z,hd,vs,rel,dd⟩:=BR I.bL e;refine wpAny_notIn_of (tj ry) hd dd.mapOf ?_;rw[<-(rel.val k).qg,<-l];exact h _ (I.tok _)
 .subst ey;cases(show u=Value.ref b from ry);obtain⟨z,hd,xs,rel,dd⟩:=BU I.bL e;refine wpAny_notIn_heap (wB hu) (yu I.bL eb) hd dd ?_;have q:=(rel.val k).qg;rw[Option.isSome_map]at q;rw[<-q,<-l];exact h _ (I.tok _)
def KG(I:Inv X pins σ H s)(mu:ZC (H a))(hs:Heap.SameBut a s.heap h')(he:∃q,h'.get? a=some q)(new:dF X.prog X.w (upd H a ob) h' a ob):
  Inv X pins σ (upd H a ob) {s with heap:=h',toks:=t'} :=
 I.write (e:=a) mu (.inl rfl) (λb q hb z=>(hs.2 b hb).trans z) he new
def Xh{vs:List (Key×Value)}(z:kvs.length<=sizeLine)(hd:(a==sysModules)=false)(rel:KV kvs vs)(dd:h'.DictOf (bK P w) a vs):
  dF P w H' h' a (.dK kvs):=⟨z,hd,vs,rel,dd⟩
def MF{Q:Unit->Shared->Prop}(hu:A.units+1<cLine)(I:Inv X pins σ H s)(g:FW H a y v H')(ry:RelV y u)(rv:RelV v r)(h:∀s',Inv X pins σ H' s'->Q Unit.unit s'):
  wpAny (model X.prog X.w) A (setItem (.ref a) u r) Q E s:=by
 obtain⟨kvs,k,e,ey,l,eH⟩|⟨kvs,k,b,e,ey,eb,l,eH⟩:=g
 .subst ey eH;obtain⟨z,hd,vs,rel,dd⟩:=VB I.bL e;have hz:vs.length<=sizeLine:=by rw[<-rel.length];exact z
  have hl:(putK kvs k v).length<=sizeLine:=by have:=oA kvs k v;omega
  refine wpAny_setItem_pairs (tj ry) dd λh' dd' hs=>h _ ?_;have he:∃q,h'.get? a=some q:=let⟨q,_,_,hq,_⟩:=dd';⟨q,hq⟩;exact KG I (by rw[e];exact True.intro) hs he (Xh hl hd (rel.put k rv) dd')
 .subst ey eH;cases(show u=Value.ref b from ry);obtain⟨z,hd,xs,rel,dd⟩:=ZW I.bL e;have hz:xs.length<=sizeLine:=by rw[<-Paired.length rel];exact z
  have hl:(putK kvs k v).length<=sizeLine:=by have:=oA kvs k v;omega
  refine wpAny_setItem_heap (wB hu) (yu I.bL eb) dd λh' dd' hs=>h _ ?_;obtain⟨q,es,ep,hq,h2,h3,h4,_,h5⟩:=dd';refine KG I (by rw[e];exact True.intro) hs ⟨q,hq⟩ ⟨hl,hd,_,(rel.put k eb rv).keeps λc ys ec=>?_,q,es,ep,hq,h2,h3,h4,h5⟩;rw[aB (ZA ec e (λz=>nomatch z))];exact ec
end
def Xi(i:Expr):Prop:=∀ov iv,subscripted i false ov iv=operate [ov,iv] (getItem ov iv)
def KH{id:String}(hl:typeLookup (.type T) "__getitem__"=pure (some (.builtin id)))(hs:Xi slice)(h:wpAny (model prog w) A (eval value env) (λo s₁=>wpAny (model prog w) A (eval slice env) (λi s₂=>s₂.TypeIs o T/\wpAny (model prog w) A (getItem o i) Q E s₂) E s₁) E s):
  wpAny (model prog w) A (eval (.Subscript value slice pos) env) Q E s:=by
 refine Subscript_ (da h (λo s₁ h₁=>da h₁ (λi s₂ h₂=>?_) λ_ _ x=>x) λ_ _ x=>x);obtain⟨hT,h₂⟩:=h₂;unfold subscriptTail;refine aj ?_;rw[getitemInPython_of_ne hT.not_modules];refine aj (wpAny_specialOf hT hl ?_);have fin:wpAny (model prog w) A (subscripted slice false o i) (λr s₃=>wpAny (model prog w) A (letTemporaryGo value o r>>=λ_=>pure r) Q E s₃) E s₂:=by
  rw[hs o i];exact wpAny_operating (da h₂ (λr s₃ h₃=>aj (wpAny_letTemporaryGo (ay h₃))) λ_ _ x=>x)
 first
  |exact ay (aj fin)
  |exact aj (ay (aj fin))
  |exact aj fin
def FX{o:Option V}(I:Inv X pins σ H s)(g:n8 H a y o):s.TypeIs (.ref a) "dict":=by
 obtain⟨kvs,k,e,_,_⟩|⟨kvs,k,b,e,_,_,_⟩:=g
 .obtain⟨_,_,vs,_,dd⟩:=BR I.bL e;exact dd.typeIs
 .obtain⟨_,_,xs,_,dd⟩:=BU I.bL e;exact dd.typeIs
def VC(td ty:TE):TE:=λσ H Q=>td σ H λx H1=>ty σ H1 λy H2=>eR x λa=>∃v,n8 H2 a y (some v)/\Q v H2
def ZX(ty td:TE):TE:=λσ H Q=>ty σ H λy H1=>td σ H1 λx H2=>∃a o,x=.ref a/\n8 H2 a y o/\Q (.bl o.isSome) H2
def Dy(ty td:TE):TE:=λσ H Q=>ty σ H λy H1=>td σ H1 λx H2=>eR x λa=>∃o,n8 H2 a y o/\Q (.bl (!o.isSome)) H2
def O5(td ty tv:TE):TS:=λD σ H=>tv σ H λv H1=>td σ H1 λx H2=>ty σ H2 λy H3=>eR x λa=>∃H4,FW H3 a y v H4/\D.nx σ H4
section
variable {o i value:Expr} {pos':Pos} {td ty tv:TE}
def KI(hu:X.A.units+1<cLine)(ho:PE X o td)(hi:PE X i ty)(hs:Xi i):PE X (.Subscript o i pos) (VC td ty):=by
 intro pins s σ H Q I h;refine KH PySem.F.slot_dict_getitem.lookup hs (cJ (ho pins s σ H _ I h) λu s1 ZY=>?_);obtain⟨x,H1,I1,rx,q1⟩:=ZY;refine cJ (hi pins s1 σ H1 _ I1 q1) λiv s2 ZZ=>?_;obtain⟨y,H2,I2,ry,q0⟩:=ZZ;obtain⟨a,ex,v,g,q2⟩:=jL.mp q0;subst ex;obtain rfl:u=Value.ref a:=rx;exact⟨FX I2 g,ME hu I2 g ry λw' s3 I3 MB=>⟨v,H2,I3,MB,q2⟩⟩
def lK(hu:X.A.units+1<cLine)(hi:PE X i ty)(ho:PE X o td):PC X .NotIn i o (Dy ty td):=by
 intro pins s σ H Q I h;refine cJ (hi pins s σ H _ I h) λiv s1 Z0=>?_;obtain⟨y,H1,I1,ry,q1⟩:=Z0;refine cJ (ho pins s1 σ H1 _ I1 q1) λu s2 Z3=>?_;obtain⟨x,H2,I2,rx,q0⟩:=Z3;obtain⟨a,ex,ov,g,q2⟩:=jL.mp q0;subst ex;obtain rfl:u=Value.ref a:=rx;exact Tv hu I2 g ry λs3 I3=>⟨.bl (!ov.isSome),H2,I3,rfl,q2⟩
def xo(hu:X.A.units+1<cLine)(ho:PE X o td)(hi:PE X i ty)(hv:PE X value tv)(hs:swapsWith value (some (.Subscript o i pos')) pos.line X.env=pure false):
  PS X (.Assign [.Subscript o i pos'] value pos) (O5 td ty tv):=by
 intro pins s σ H D I h;refine wpAny_Assign_Subscript (cJ (hv pins s σ H _ I h) λr s1 Z4=>?_) hs;obtain⟨v,H1,I1,rv,q1⟩:=Z4;refine cJ (ho pins s1 σ H1 _ I1 q1) λu s2 Z5=>?_;obtain⟨x,H2,I2,rx,q2⟩:=Z5;refine cJ (hi pins s2 σ H2 _ I2 q2) λiv s3 Z6=>?_;obtain⟨y,H3,I3,ry,q0⟩:=Z6;obtain⟨a,ex,H4,g,q3⟩:=jL.mp q0;subst ex;obtain rfl:u=Value.ref a:=rx;exact MF hu I3 g ry rv λs4 I4=>⟨σ,H4,I4,q3⟩
end
def O6(h:Heap)(hb:sysModules<h.objs.size):dF P w H (h.push {cls:=.type "dict",data:=.dict #[]}) h.objs.size (.dK []):=
 ⟨cz _,beq_eq_false_iff_ne.mpr (c6 (bB hb)),[],.nil,Heap.DictOf.new h⟩
def Xj:TE:=λ_ H Q=>∀p,H p=none->Q (.ref p) (upd H p (.dK []))
section
def yw:PE X (.Dict [] [] pos) Xj:=λpins s σ H Q I h=>
 wpAny_Dict_empty ⟨.ref s.heap.objs.size,_,I.laid (o:=.dK []) (t':=s.toks) (λ_ _ q=>bQ _ q) (aL _) (O6 s.heap I.big),rfl,h _ (I.bL.fresh (aL _))⟩
end
noncomputable def kS(kvs more:List (Key×V)):List (Key×V):=more.foldl (λacc kv=>putK acc kv.1 kv.2) kvs
def KV.merge:∀{more}{rs}{kvs}{vs},KV more rs->KV kvs vs->KV (kS kvs more) (merged vs rs):=by
 intro more rs kvs vs r
 induction r generalizing kvs vs with
 |nil=>intro q;exact q
 |@cons p q ps qs h t ih=>
  intro r0;have e:KV (putK kvs p.1 p.2) (stored vs q.1 q.2):=by
   have:=r0.put p.1 h.2;rw[<-h.1];exact this
  exact ih e
theorem qM:∀more kvs,(kS kvs more).length<=kvs.length+more.length
 |[],kvs=>by show kvs.length<=kvs.length+0;omega
 |p::r,kvs=>by
  have h1:=qM r (putK kvs p.1 p.2);have h2:=oA kvs p.1 p.2;show(kS (putK kvs p.1 p.2) r).length<=_;rw[aY];omega
structure M1(X:Cx)(o:Expr)(m:Str)(apos:Pos)(e:Expr)(eE:Pos):Prop where
 base:attributeBase o m X.env (eval o X.env)=eval o X.env
 few:((backTo eE (starEach [e] X.env)).all (λx=>!x.1)&&(backToKw eE (keywordEach [] X.env)).all (λx=>x.1.isSome)
  &&decide (([e]:List Expr).length+([]:List Keyword).length+(if([]:List Keyword).isEmpty then 0 else 1)<30))=true
 line:(apos.endLine==eE.line)=true
 trees:backTo eE (starEach [e] X.env)=[(false,eval e X.env)]
structure M2(X:Cx)(o:Expr)(m:Str)(apos:Pos)(e f:Expr)(eE:Pos):Prop where
 base:attributeBase o m X.env (eval o X.env)=eval o X.env
 few:((backTo eE (starEach [e,f] X.env)).all (λx=>!x.1)&&(backToKw eE (keywordEach [] X.env)).all (λx=>x.1.isSome)
  &&decide (([e,f]:List Expr).length+([]:List Keyword).length+(if([]:List Keyword).isEmpty then 0 else 1)<30))=true
 line:(apos.endLine==eE.line)=true
 trees:backTo eE (starEach [e,f] X.env)=[(false,eval e X.env),(false,eval f X.env)]
def IsD(H:Hp)(a:Addr):Prop:=(∃kvs,Rd H a (.dK kvs))\/∃kvs,Rd H a (.dT kvs)
def Xk(I:Inv X pins σ H s)(d:IsD H a):
  s.TypeIs (.ref a) "dict"/\(∀b,Value.ref a=.ref b->∃ob,s.heap.get? b=some ob/\ob.dict=none)/\(a==sysModules)=false:=by
 obtain⟨kvs,e⟩|⟨kvs,e⟩:=d
 .obtain⟨_,hd,vs,_,dd⟩:=BR I.bL e;refine⟨dd.typeIs,λb q=>?_,hd⟩;cases q;obtain⟨ob,_,_,h1,h2,_⟩:=dd;exact⟨ob,h1,h2.2.1⟩
 .obtain⟨_,hd,xs,_,dd⟩:=BU I.bL e;refine⟨dd.typeIs,λb q=>?_,hd⟩;cases q;obtain⟨ob,_,_,h1,h2,_⟩:=dd;exact⟨ob,h1,h2.2.1⟩
section
variable {d:V} {r:Value} {o:Option V}
def Xl(hu:A.units+1<cLine)(I:Inv X pins σ H s)(g:n8 H a y o)(ry:RelV y u)(rd:RelV d r)(h:∀w' s',Inv X pins σ H s'->RelV (o.getD d) w'->Q w' s'):
  wpAny (model X.prog X.w) A (call (.builtin "dict.get") [.ref a,u,r]) Q E s:=by
 obtain⟨kvs,k,e,ey,l⟩|⟨kvs,k,b,e,ey,eb,l⟩:=g
 .subst ey;obtain⟨z,hd,vs,rel,dd⟩:=BR I.bL e;refine call_meetsIn si dd.typeIs PySem.F.entry_dict_get (PySem.F.args_dict_get_3 _ _ _) (meets_dict_get_default (bK X.prog X.w) a (tj ry) hd r) ⟨_,dd.mapOf,h _ _ (I.tok _) ?_⟩;rw[l];exact(rel.val k).getD rd
 .subst ey;cases(show u=Value.ref b from ry);obtain⟨z,hd,xs,rel,dd⟩:=BU I.bL e;refine call_meetsIn si dd.typeIs PySem.F.entry_dict_get (PySem.F.args_dict_get_3 _ _ _) (meetsH_dict_get_default (tupleKind (bK X.prog X.w)) a b hd r) ⟨wB hu,k,xs,yu I.bL eb,dd,h _ _ (I.tok _) ?_⟩;rw[l];exact(rel.val k).getD rd
end
def O7(td ty tx:TE):TE:=λσ H Q=>td σ H λx H1=>eR x λa=>IsD H1 a/\ty σ H1 λy H2=>tx σ H2 λz H3=>∃o,n8 H3 a y o/\Q (o.getD z) H3
section
variable {o f:Expr} {eE:Pos} {td ty tx:TE}
def O8(hu:X.A.units+1<cLine)(ho:PE X o td)(he:PE X e ty)(hf:PE X f tx)(m:M2 X o "get" apos e f eE):PE X (.Call (.Attribute o "get" apos) [e,f] [] eE) (O7 td ty tx):=by
 intro pins s σ H Q I h;refine wpAny_Call_method m.base m.few m.line PySem.F.plainAttrs_dict si PySem.F.type_dict_get (cJ (ho pins s σ H _ I h) λu s1 Z7=>?_);obtain⟨x,H1,I1,rx,q0⟩:=Z7;obtain⟨a,ex,d,q1⟩:=jL.mp q0;subst ex;obtain rfl:u=Value.ref a:=rx;obtain⟨t1,t2,_⟩:=Xk I1 d;refine⟨t1,t2,?_⟩;rw[m.trees];refine uj rfl (sq (me (cJ (he pins s1 σ H1 _ I1 q1) λiv s2 Z8=>?_)));obtain⟨y,H2,I2,ry,q2⟩:=Z8;refine me (cJ (hf pins s2 σ H2 _ I2 q2) λfv s3 Z9=>?_);obtain⟨z,H3,I3,rz,ov,g,q3⟩:=Z9;refine q_ ?_;exact Xl hu I3 g ry rz λw' s4 I4 MB=>⟨_,H3,I4,MB,q3⟩
end
def FY:entryFor table "dict.update.loop"=some Builtin.«dict.update.loop»:=entryFor_of_tree (by kernel_rfl)
def yx:plainId "dict.update.loop"=true:=by decide+kernel
section
def Inv.Tw(I:Inv X pins σ H s)(k:∀b o,b∉ch->s.heap.get? b=some o->h'.get? b=some o)(hf:∀b∈ch,vT X pins H b):Inv X pins σ H {s with heap:=h',toks:=t'} :=by
 have Vs:∀b u,H b=some u->b∉ch:=λb u e z=>by
  have q:=(hf b z).1;rw[q]at e;cases e
 refine I.step (g':=s.gens) (ch:=ch) (λb hb=>⟨(hf b hb).2.2.2.1,(hf b hb).2.1,(hf b hb).2.2.2.2.1,(hf b hb).2.2.2.2.2⟩) (λb o _ _ hc e _=>k b o hc e) (λb o _ _ hc e _=>⟨o.slots,k b o hc e⟩)
  (λ_ _ _ _ n=>n) (λb o hc e=>⟨o,k b o hc e⟩) (λ_ _ e=>e) (λ_ _ _ e=>e) (λb ps e=>⟨#[],by rw[e];simp⟩) (λm hm=>?_) (λb u e=>?_) I.bare
 .obtain⟨o,es,ep,ho,r⟩:=hm;exact⟨o,es,ep,k _ o (λz=>(hf _ z).2.1 rfl) ho,r⟩
 .refine(I.bL b u e).Fx (λc v hc q=>k c v ?_ q) (λ_ q=>q) λ_ _ q=>q;obtain z|z:=hc
  .rw[z];exact Vs b u e
  .exact Vs c _ z
def Inv.qh{T:Addr}(I:Inv X pins σ H s)(k:∀b o,b∉ch->s.heap.get? b=some o->h'.get? b=some o)(hf:∀b∈ch,vT X pins H b)(hT:s.heap.objs.size<=T)(new:dF X.prog X.w (upd H T ob) h' T ob):Inv X pins σ (upd H T ob) {s with heap:=h',toks:=t'} :=by
 have hn:=I.bL.fresh hT;have Vs:∀b u,H b=some u->b∉ch:=λb u e z=>by
  have q:=(hf b z).1;rw[q]at e;cases e
 refine I.step (g':=s.gens) (ch:=ch) (λb hb=>⟨(hf b hb).2.2.2.1,(hf b hb).2.1,(hf b hb).2.2.2.2.1,(hf b hb).2.2.2.2.2⟩) (λb o _ _ hc e _=>k b o hc e) (λb o _ _ hc e _=>⟨o.slots,k b o hc e⟩)
  (λb o _ e n=>?_) (λb o hc e=>⟨o,k b o hc e⟩) (λb xs e=>?_) (λb o u e=>?_) (λb ps e=>⟨#[],?_⟩) (λm hm=>?_) (λb u e=>?_) I.bare
 .rw[aB (bB (dU (aN e) hT))];exact n
 .rw[aB (bF e hn)];exact e
 .rw[aB (bF e hn)];exact e
 .rw[aB (bF e hn),e];simp
 .obtain⟨o,es,ep,ho,r⟩:=hm;exact⟨o,es,ep,k _ o (λz=>(hf _ z).2.1 rfl) ho,r⟩
 .by_cases hb:b=T
  .subst hb;rw[ak]at e;cases e;exact new
  .rw[aB hb]at e;refine(I.bL b u e).Fx (λc v hc q=>k c v ?_ q) (λc q=>by rw[aB (bF q hn)];exact q) λc xs q=>by rw[aB (bF q hn)];exact q
   obtain z|z:=hc
   .rw[z];exact Vs b u e
   .exact Vs c _ z
end
section
def Dz(I:Inv X pins σ H s) o
  (T:Turn X.prog X.w X.K tg J [s.heap.objs.size] s.heap.objs.size tn) (st:tn 0 (s.heap.push o)) (q:R J H):PIE X pins σ tg R (.ref s.heap.objs.size) {s with heap:=s.heap.push o,toks:=tk} :=by
 refine⟨s.heap.objs.size,[s.heap.objs.size],tn,J,H,rfl,I.kept λb ob e=>bQ _ e,T,st,λb hb=>?_,q⟩;have e:b=s.heap.objs.size:=‹hb›
 subst e;exact I.Di (aL _) (I.bL.fresh (aL _))
end
noncomputable def Z_(lo c:Int)(n:Nat):It:=⟨λi _=>i<n,λi H x H'=>H'=H/\x=.int (lo+(i:Nat)*c),λi _=>n<=i⟩
def FZ it lo c n:Turn P w K tg (Z_ lo c n) [it] it (λi h=>IsRangeIter h it (lo+(i:Nat)*c) ((n:Int)-(i:Nat)) c)where
 mem:=by simp
 obj:=λi h st b hb=>by
  have e:b=it:=‹hb›
  subst e;exact⟨_,st,λv z=>nomatch z⟩
 keep:=λi h h' st k=>k it ∅ _ st
 item:=by
  intro X hP hw hK hc i pins s σ H E I hf st hg;subst hP hw hK;obtain⟨f0,f1,f2,f3,f4,f5⟩:=hf it ∅;have W:=Walks.range (prog:=X.prog) (w:=X.w) (I.ok.hd hc) it lo c n;refine W.item i s _ _ hg st λv h' tk hv Bw kk=>?_;obtain⟨t,rfl⟩:=hv;have I1:Inv X pins σ H {s with heap:=h',toks:=tk} :=I.turned (λb o hb e=>kk b o ‹hb› e) f0 f1 f3 f4 f5;exact⟨_,rfl,FC (n:="range_iterator") Bw rfl rfl ⋯ ⟨.int (lo+(i:Nat)*c),H,I1,⟨t,rfl⟩,⟨rfl,rfl⟩,Bw,λb hb=>(hf b hb).1⟩⟩
 done:=by
  intro X hP hw hK hc i pins s σ H E I hf st hg;obtain⟨f0,f1,f2,f3,f4,f5⟩:=hf it ∅;exact wpAny_pyNext_range_end (I.ok.hd hc) st (by have:n<=i:=hg;omega) λh' eb=>⟨rfl,I.turned (λb o hb e=>eb b o hb e) f0 f1 f3 f4 f5⟩
 self:=λA i s Q E st h=>wpAny_pyIter_rangeiter st h
def RgC(i j c:Int)(n:Nat):Prop:=c≠0/\c.natAbs<1073741824/\Builtin.Range.small i j c=true/\Builtin.Range.rangeSize i j c=n
def aac(ta:TA):TI:=λσ H R=>ta σ H λvs H1=>∃(i j c:Int) (n:Nat),vs=[.int i,.int j,.int c]/\RgC i j c n/\R (Z_ i c n) H1
section
def BV{a b c:Expr}{ta:TA}{p pos:Pos}(hg:Gl X "range")(hm:X.mg "range"=none)(ha:PA X [a,b,c] ta)(hs:starEach [a,b,c] X.env=(false,eval a X.env)::starEach [b,c] X.env:=by rfl)(iG:(backTo pos (starEach [b,c] X.env)).any (·.1)=false:=by rfl):
  PI X tg (.Call (.Name "range" p) [a,b,c] [] pos) (aac ta):=by
 intro pins s σ H R I h;refine Call_ (gq I hg hm boot_range (jD (cJ (ha pos pins s σ H _ I h) λus s1 aad=>?_) hs iG));obtain⟨vs,H1,I1,r1,q1⟩:=aad;obtain⟨i,j,k,n,e,⟨c0,c1,c2,c3⟩,q⟩:=q1;subst e;cases r1 with
 |cons r rr=>
  cases rr with
  |cons r' rr=>
   cases rr with
   |cons r'' rr=>
    cases rr;obtain⟨t,rfl⟩:=r;obtain⟨t',rfl⟩:=r';obtain⟨t'',rfl⟩:=r'';refine call_range_3 c0 ?_ (.inl (PyProof.noPylong_small c1));refine wpAny_pyIter_range (IsRange.new ..) c2 ?_;have I2:Inv X pins σ H1 {s1 with heap:=s1.heap.push {cls:=.type "range",data:=.fields #[.int i t,.int j t',.int k t'']}} :=I1.kept λb o e=>bQ _ e;refine Dz I2 _ (FZ _ i k n) ?_ q;have e1:i+((0:Nat):Int)*k=i:=by simp
    have e2:(n:Int)-((0:Nat):Int)=Builtin.Range.rangeSize i j k:=by rw[c3];simp
    rw[e1,e2];exact bw _ rfl
end
def yy{lo c:Int}{D:Ends}(Pv:Nat->St->Hp->Prop)(h0:Pv 0 σ H)(hs:∀i σ H,i<n->Pv i σ H->g (.int (lo+(i:Nat)*c)) σ H λσ2 H2=>tb {D with nx:=Pv (i+1),ct:=Pv (i+1),bk:=D.nx} σ2 H2)(hd:∀σ H,Pv n σ H->D.nx σ H):
  ∃W:Nat->Nat->St->Hp->Prop,(∃m,W 0 m σ H)/\∀i m σ H,W i m σ H->
   ((Z_ lo c n).stop i H/\D.nx σ H)\/((Z_ lo c n).go i H/\∃N:St->Hp->Prop,(∀σ' H',N σ' H'->∃m',m'<m/\W (i+1) m' σ' H')/\∀x H',(Z_ lo c n).Fp i H x H'->g x σ H' λσ2 H2=>tb {D with nx:=N,ct:=N,bk:=D.nx} σ2 H2):=by
 refine⟨λi m σ H=>m=n-i/\i<=n/\Pv i σ H,⟨n,by simp,cz _,h0⟩,?_⟩;rintro i m σ H ⟨rfl,hi,p⟩;by_cases dR:i<n
 .refine .inr ⟨dR,Pv (i+1),λσ' H' p'=>⟨n-(i+1),by omega,rfl,dR,p'⟩,λx H' y=>?_⟩;obtain⟨e,y⟩:=y;subst e y;exact hs i σ _ dR p
 .have e:i=n:=by omega
  subst e;exact .inl ⟨aL _,hd σ H p⟩
noncomputable def Its(x:Str):It:=⟨λi _=>i<x.cps.size,λi H v H'=>H'=H/\∃c,x.cps[i]?=some c/\v=.str ⟨#[c]⟩,λi _=>x.cps.size<=i⟩
def F0 it x t ty (Sf:ty="str_ascii_iterator"\/ty="str_iterator"):
  Turn P w K tg (Its x) [it] it (λi h=>h.IsStrIter it ty x t i)where
 mem:=by simp
 obj:=λi h st b hb=>by
  have e:b=it:=‹hb›
  subst e;obtain⟨o,e,c,d⟩:=st;exact⟨o,e,λv z=>by rw[d]at z;cases z⟩
 keep:=λi h h' st k=>let⟨o,ho,r⟩:=st;⟨o,k it ∅ o ho,r⟩
 item:=by
  intro X hP hw hK hc i pins s σ H E I hf st hg;subst hP hw hK;obtain⟨f0,f1,f2,f3,f4,f5⟩:=hf it ∅;have W:Walks X.prog X.w X.A it [it] [it] x.cps.size (SignAt x) (λi h=>h.IsStrIter it ty x t i):=by
   obtain e|e:=Sf
   .rw[e];exact Walks.strAscii (I.ok.hd hc) it x t
   .rw[e];exact Walks.strWide (I.ok.hd hc) it x t
  have Y9:["enumerate","zip","dict_itemiterator","dict_reverseitemiterator","odict_iterator","itertools.zip_longest","itertools.pairwise"].contains ty=false:=by
   obtain e|e:=Sf
   .rw[e];decide
   .rw[e];decide
  refine W.item i s _ _ hg st λv h' tk hv Bw kk=>?_;obtain⟨c,u,hcx,rfl⟩:=hv;have I1:Inv X pins σ H {s with heap:=h',toks:=tk} :=I.turned (λb o hb e=>kk b o ‹hb› e) f0 f1 f3 f4 f5;obtain⟨oi,e,cc,dd⟩:=id Bw;exact⟨_,rfl,FC e cc dd Y9 ⟨.str ⟨#[c]⟩,H,I1,⟨u,rfl⟩,⟨rfl,c,hcx,rfl⟩,Bw,λb hb=>(hf b hb).1⟩⟩
 done:=by
  intro X hP hw hK hc i pins s σ H E I hf st hg;obtain⟨f0,f1,f2,f3,f4,f5⟩:=hf it ∅;have hx:=qX hg;obtain e|e:=Sf
  .rw[e]at st;exact wpAny_pyNext_ascii_end (I.ok.hd hc) st hx λh' eb=>⟨rfl,I.turned (λb o hb e=>eb b o hb e) f0 f1 f3 f4 f5⟩
  .rw[e]at st;exact wpAny_pyNext_wide_end (I.ok.hd hc) st hx λh' eb=>⟨rfl,I.turned (λb o hb e=>eb b o hb e) f0 f1 f3 f4 f5⟩
 self:=λA i s Q E st h=>by
  obtain e|e:=Sf
  .rw[e]at st;exact wpAny_pyIter_striter_ascii st h
  .rw[e]at st;exact wpAny_pyIter_striter_wide st h
def adn(te:TE):TI:=λσ H R=>te σ H λv H1=>∃x,v=.str x/\R (Its x) H1
def Xm(he:PE X e te):PI X tg e (adn te):=by
 intro pins s σ H R I h;refine cJ (he pins s σ H _ I h) λv s1 aae=>?_;obtain⟨y,H1,I1,r1,x,ex,q⟩:=aae;subst ex;obtain⟨t,rfl⟩:=r1;cases ha:x.cps.all (·<128)
 .exact wpAny_pyIter_wide ha (Dz I1 _ (F0 _ x t "str_iterator" (.inr rfl)) ⟨_,bw _ rfl,rfl,rfl⟩ q)
 .exact wpAny_pyIter_ascii ha (Dz I1 _ (F0 _ x t "str_ascii_iterator" (.inl rfl)) ⟨_,bw _ rfl,rfl,rfl⟩ q)
section
def MG{o:Obj}{es:Array DictEntry}(hd:(d==sysModules)=false)(ho:s.heap.get? d=some o)(hc:o.ExactDict)(aaf:o.data=.dict es ep)(hQ:Q (.ref s.heap.objs.size) {s with heap:=s.heap.push {cls:=.type "dict_keyiterator",data:=.fields #[.ref d,.int 0 0,.int es.size 0,.int ep 0]}}):
  wpAny (model prog w) A (pyIter (.ref d)) Q E s:=by
 have hT:s.TypeIs (.ref d) "dict":=⟨o,ho,hc.1⟩;refine wpAny_pyIter_slot hT F.slot_dict_iter (g_ F.slot_dict_iter hT F.entry_dict_iter ?_ (F.args_dict_iter_1 _));refine aj ?_;refine aj (wpAny_notOrdered_dict hT ?_);refine ay ?_;show wpAny _ _ (Builtin.Dict.showsAll d>>=_) _ _ s;unfold Builtin.Dict.showsAll;rw[af (by rw[hd];exact b_)];refine aj (ay ?_);refine aj (wpAny_dictEntries ho aaf ?_);refine aj (wpAny_dictEpoch ho aaf ?_);refine aj (jG (ay ⟨_,rfl,"dict_keyiterator",_,⟨_,bw _ rfl,rfl⟩,F.slot_dict_keyiterator_next.lookup,?_⟩));simpa[rawInt]using hQ
def DA{es:Array DictEntry}{Q:Option Value->Shared->Prop}(hh:A.handled=none)(hit:s.heap.IsKeyIter it d i n ep)(hod:s.heap.get? d=some od)(hdd:od.data=.dict es ep)(f7:es.size=n)(hge:n<=i)(hQ:∀h',Heap.ExtBut it s.heap h'->Q none {s with heap:=h'}):wpAny (model prog w) A (pyNext (.ref it)) Q E s:=by
 obtain⟨o,ho,hc,hd⟩:=id hit;unfold pyNext;refine aj (sH (qW hit.typeIs F.slot_dict_keyiterator_next
  (g_ F.slot_dict_keyiterator_next hit.typeIs F.entry_dict_keyiterator_next ?_ (F.args_dict_keyiterator_next_1 _))))
 refine aj (ay ?_);refine aj ?_;refine aj ?_
 first|refine aj (wpAny_typeNameOfWhole_keyiter hit.typeIs (ay ?_))|refine aj (wpAny_typeNameOf_keyiter hit.typeIs (ay ?_))
 refine aj (wpAny_fieldsOf ho hd ?_);have ado:Builtin.Dict_items.ownsTuple "dict_keyiterator"=false:=by decide
 simp-iota only[ado,Ov,C_];show wpAny _ _ (if(Value.ref d==Value.none)=true then _ else _) _ _ s;rw[af (show¬((Value.ref d==Value.none)=true)from b_)];refine aj (ay ?_);refine aj (wpAny_dictEntries hod hdd ?_);rw[af (by rw[f7];simp)];refine aj (ay ?_);refine aj (wpAny_dictEpoch hod hdd ?_);rw[af ∅];refine ay ?_;have adp:es.size<=i:=by rw[f7];exact hge
 dsimp only;simp-iota only[show¬((i:Int)<0)from by omega,C_,gm,qX adp];dsimp only;refine aj ?_
 first|refine aj (wpAny_typeNameOfWhole_keyiter hit.typeIs (ay ?_))|refine aj (wpAny_typeNameOf_keyiter hit.typeIs (ay ?_))
 show wpAny _ _ (setField (.ref it) 0 .none>>=_) _ _ s;refine aj (mq ho hd ∅ ?_);show wpAny _ _ (newExc (.type "StopIteration") [] >>=_) _ _ _;refine aj ?_;delta newExc newTuple;refine aj (jG ?_ (by size_fits));refine aj (wpAny_of_eq (a:=Value.none) (by first|rfl|(simp only[firstArgMember];rfl)) ?_);refine jG ?_ (by size_fits);delta raiseNew;refine aj (wpAny_handled ?_);rw[show A.in1.handled=none from hh];refine aj (ay (sQ ?_));refine aj (wN (b:=true) ⟨_,bw _ rfl,rfl⟩ isSubtype_stop ?_);exact ay (hQ _ (((kI ..).extBut.push _).push _))
end
def Xn{kvs:List (κ×V)}{vs:List (κ×Value)}(h:KV kvs vs):∀{i:Nat}{k}{v},kvs[i]?=some (k,v)->∃u,vs[i]?=some (k,u)/\RelV v u:=by
 induction h with
 |nil=>intro i k v e;simp at e
 |@cons a b l₁ l₂ r t ih=>
  intro i k v e;cases i with
  |zero=>
   simp only[getElem?_cons_zero,Option.some.injEq]at e;subst e;refine⟨b.2,?_,r.2⟩;exact cb some (Prod.ext r.1.symm rfl)
  |succ j=>
   exact ih e
def F5(h:gX k u=true):RelV (kV k) u:=by
 obtain⟨i,t,rfl,rfl⟩|⟨x,t,rfl,rfl⟩:=cR h
 .exact⟨t,rfl⟩
 .exact⟨t,rfl⟩
noncomputable def Ite(K:PySem.W.Frag)(a:Addr):It:=
 ⟨λi H=>∃(xs:List V) (x:V),aM K H a xs/\xs[i]?=some x,λi H v H'=>∃T x,v=.ref T/\H T=none/\H'=upd H T (.tup [.int (i:Nat),x])/\∀xs,aM K H a xs->xs[i]?=some x,λi H=>∃xs:List V,aM K H a xs/\xs.length<=i⟩
def MH a e it:
  Turn P w K (.Tuple elts kk C6) (Ite K a) [e,it] e (λi h=>(∃old,IsEnum h e it ((i:Nat):Int) old)/\h.IsListIter it a i/\e≠it)where
 mem:=by simp
 obj:=λi h st b hb=>by
  obtain⟨⟨old,he⟩,⟨o,ho,hc,hd⟩,_⟩:=st;have e':b=e\/b=it:=‹hb›
  obtain z|z:=e'
  .rw[z];exact⟨_,he,λv q=>nomatch q⟩
  .rw[z];exact⟨o,ho,λv q=>by rw[hd]at q;cases q⟩
 keep:=λi h h' st k=>let⟨⟨old,he⟩,hi,gU⟩:=st;⟨⟨old,k e ∅ _ he⟩,hi.at λo q=>k it ∅ o q,gU⟩
 item:=by
  intro X hP hw hK hc i pins s σ H E I hf st hg;subst hP hw hK;obtain⟨⟨old,he⟩,hit,gU⟩:=st;obtain⟨xs,x,hq,hx⟩:=hg;obtain⟨aR,rv,p,hz⟩:=I.list hq;obtain⟨u,hu,ru⟩:=rv.get hx;have KJ:=aN he;have hil:it<s.heap.objs.size:=by obtain⟨_,q,_⟩:=hit;exact aN q
  refine wpAny_pyNext_enum_item he hit p.isList ‹hu› gU λh' ho IA hT f7 hk=>?_;refine⟨_,rfl,wpAny_letOwnedTupleGo_enum ho λO9 F6 sb=>?_⟩;have Tz:=(sb.2 _ (jk KJ)).trans hT;have new:dF X.prog X.w (upd H s.heap.objs.size (.tup [.int (i:Nat),x])) O9 s.heap.objs.size (.tup [.int (i:Nat),x]):=
   ⟨by show 2<=sizeLine;decide,[.int i s.toks,u],.cons ⟨_,rfl⟩ (.cons ru .nil),⟨_,Tz,rfl,_,rfl⟩⟩
  have I1:Inv X pins σ (upd H s.heap.objs.size (.tup [.int (i:Nat),x])) {s with heap:=O9,toks:=s.toks+1} :=
   I.qh (λb ob hb q=>(sb.2 b (λz=>hb (by simp[z]))).trans (hk b ob (λz=>hb (by simp[z])) (λz=>hb (by simp[z])) q)) hf (aL _) new
  refine⟨.ref s.heap.objs.size,_,I1,rfl,⟨_,x,rfl,I.bL.fresh (aL _),rfl,λys hy=>by rw[I.sR hy hq];exact hx⟩,⟨⟨u,?_⟩,IA.at λo q=>(sb.2 it (c6 gU)).trans q,gU⟩,λb hb=>?_⟩
  .have e1:((i+1:Nat):Int)=(i:Int)+1:=by omega
   rw[e1];exact F6
  .have hb':b<s.heap.objs.size:=by
    have e':b=e\/b=it:=‹hb›
    obtain z|z:=e'
    .rw[z];exact KJ
    .rw[z];exact hil
   rw[aB (bB hb')];exact(hf b hb).1
 done:=by
  intro X hP hw hK hc i pins s σ H E I hf st hg;subst hP hw hK;obtain⟨⟨old,he⟩,hit,gU⟩:=st;obtain⟨xs,hq,hx⟩:=hg;obtain⟨aR,rv,p,hz⟩:=I.list hq;obtain⟨f0,f1,f2,f3,f4,f5⟩:=hf it ∅;have hl:=rv.length;exact wpAny_pyNext_enum_end (I.ok.hd hc) he hit p.isList (by simp;omega) λh' eb=>⟨rfl,I.turned (λb o hb q=>eb b o hb q) f0 f1 f3 f4 f5⟩
 self:=λA i s Q E st h=>let⟨⟨_,he⟩,_⟩:=st;wI he h
def aag(K:PySem.W.Frag)(ta:TA):TI:=λσ H R=>ta σ H λvs H1=>∃a xs,vs=[.ref a]/\aM K H1 a xs/\R (Ite K a) H1
def TB{ta:TA}{p pos C6:Pos}{elts:List Expr}{kk:Nat}(hg:Gl X "enumerate")(hm:X.mg "enumerate"=none)(ha:PA X [e] ta)(hs:starEach [e] X.env=[(false,eval e X.env)]:=by rfl):
  PI X (.Tuple elts kk C6) (.Call (.Name "enumerate" p) [e] [] pos) (aag X.K ta):=by
 intro pins s σ H R I h;refine Call_ (gq I hg hm boot_enumerate (jD (cJ (ha pos pins s σ H _ I h) λus s1 aah=>?_) hs rfl));obtain⟨vs,H1,I1,r1,q1⟩:=aah;obtain⟨a,xs,ex,hq,q⟩:=q1;subst ex;cases r1 with
 |cons r rr=>
  cases rr;cases r;obtain⟨aR,rv,p',hz⟩:=I1.list hq;refine call_enumerate_list p'.isList λh' he hit f7 hk=>wI he ?_;have I2:=I1.kept (t':=s1.toks) hk;refine⟨s1.heap.objs.size+1,[s1.heap.objs.size+1,s1.heap.objs.size],_,_,H1,rfl,I2,MH a (s1.heap.objs.size+1) s1.heap.objs.size,⟨⟨.none,he⟩,hit,Nat.succ_ne_self _⟩,λb hb=>?_,q⟩;have e':b=s1.heap.objs.size+1\/b=s1.heap.objs.size:=‹hb›
  have hle:s1.heap.objs.size<=b:=by
   obtain z|z:=e'
   .rw[z];exact kL _ _
   .rw[z];exact aL _
  exact I1.Di hle (I1.bL.fresh hle)
def BW:bootBuiltins "zip"=some (.type "zip"):=by decide+kernel
noncomputable def Itz(K:PySem.W.Frag)(a b:Addr):It:=
 ⟨λi H=>∃(xs ys:List V) (x y:V),aM K H a xs/\aM K H b ys/\xs[i]?=some x/\ys[i]?=some y,
  λi H v H'=>∃T x y,v=.ref T/\H T=none/\H'=upd H T (.tup [x,y])/\(∀xs,aM K H a xs->xs[i]?=some x)/\∀ys,aM K H b ys->ys[i]?=some y,
  λi H=>∃xs ys:List V,aM K H a xs/\aM K H b ys/\(xs.length<=i\/ys.length<=i)⟩
def O_{TI TO:Addr}(D:ZipApart z TI TO i1 i2 a b):
  Turn P w K (.Tuple elts kk C6) (Itz K a b) [z,TI,TO,i1,i2] z (λi h=>IsZip h z TI TO .none/\IsPair h TI (.ref i1) (.ref i2)/\(∃x y,IsPair h TO x y)/\h.IsListIter i1 a i/\h.IsListIter i2 b i)where
 mem:=by simp
 obj:=λi h st c hc=>by
  obtain⟨hz,A4,⟨x,y,DB⟩,⟨o1,e1,_,d1⟩,⟨o2,e2,_,d2⟩⟩:=st;have e':c=z\/c=TI\/c=TO\/c=i1\/c=i2:=‹hc›
  obtain q|q|q|q|q:=e'
  .rw[q];exact⟨_,hz,λv q=>nomatch q⟩
  .rw[q];exact⟨_,A4,λv q=>nomatch q⟩
  .rw[q];exact⟨_,DB,λv q=>nomatch q⟩
  .rw[q];exact⟨o1,e1,λv q=>by rw[d1]at q;cases q⟩
  .rw[q];exact⟨o2,e2,λv q=>by rw[d2]at q;cases q⟩
 keep:=λi h h' st k=>by
  obtain⟨hz,A4,⟨x,y,DB⟩,h1,h2⟩:=st;exact⟨k z ∅ _ hz,k TI ∅ _ A4,⟨x,y,k TO ∅ _ DB⟩,h1.at λo q=>k i1 ∅ o q,h2.at λo q=>k i2 ∅ o q⟩
 item:=by
  intro X hP hw hK hc i pins s σ H E I hf st hg;subst hP hw hK;obtain⟨hz,A4,⟨x0,y0,DB⟩,h1,h2⟩:=st;obtain⟨xs,ys,x,y,VD,VE,hx,hy⟩:=hg;obtain⟨aR,rv,p,_⟩:=I.list VD;obtain⟨n6,Xo,p2,_⟩:=I.list VE;obtain⟨u,hu,ru⟩:=rv.get hx;obtain⟨u2,ZT,ru2⟩:=Xo.get hy;have HR:=aN hz;refine wpAny_pyNext_zip_item D hz A4 DB h1 h2 p.isList p2.isList (x:=u) ‹hu› ‹ZT› λh' z' TO' Ft AQ hT f7 hk=>?_;refine⟨_,rfl,wpAny_letOwnedTupleGo_zip z' λO9 z'' sb=>?_⟩;have Tz:=(sb.2 _ (jk HR)).trans hT;have new:dF X.prog X.w (upd H s.heap.objs.size (.tup [x,y])) O9 s.heap.objs.size (.tup [x,y]):=
   ⟨by show 2<=sizeLine;decide,[u,u2],.cons ru (.cons ru2 .nil),⟨_,Tz,rfl,_,rfl⟩⟩
  have I1:Inv X pins σ (upd H s.heap.objs.size (.tup [x,y])) {s with heap:=O9} :=
   I.qh (t':=s.toks) (λc o hb q=>(sb.2 c (λq'=>hb (by simp[q']))).trans (hk c o (λq'=>hb (by simp[q'])) (λq'=>hb (by simp[q'])) (λq'=>hb (by simp[q'])) (λq'=>hb (by simp[q'])) q)) hf (aL _) new
  refine⟨.ref s.heap.objs.size,_,I1,rfl,⟨_,x,y,rfl,I.bL.fresh (aL _),rfl,λl hl=>by rw[I.sR hl VD];exact hx,λl hl=>by rw[I.sR hl VE];exact hy⟩,⟨z'',?_,⟨u,u2,?_⟩,?_,?_⟩,λc Xp=>?_⟩
  .exact(sb.2 _ D.TIz).trans (hk _ _ D.TIz D.TITO D.TIi1 D.TIi2 A4)
  .exact(sb.2 _ D.TOz).trans TO'
  .exact Ft.at λo q=>(sb.2 _ D.i1z).trans q
  .exact AQ.at λo q=>(sb.2 _ D.i2z).trans q
  .have dR:c<s.heap.objs.size:=by
    have e':c=z\/c=TI\/c=TO\/c=i1\/c=i2:=‹Xp›
    obtain q|q|q|q|q:=e'
    .rw[q];exact HR
    .rw[q];exact aN A4
    .rw[q];exact aN DB
    .rw[q];obtain⟨_,e1,_⟩:=h1;exact aN e1
    .rw[q];obtain⟨_,e2,_⟩:=h2;exact aN e2
   rw[aB (bB dR)];exact(hf c Xp).1
 done:=by
  intro X hP hw hK hc i pins s σ H E I hf st hg;subst hP hw hK;obtain⟨hz,A4,⟨x0,y0,DB⟩,h1,h2⟩:=st;obtain⟨xs,ys,VD,VE,adq⟩:=hg;obtain⟨aR,rv,p,_⟩:=I.list VD;obtain⟨n6,Xo,p2,_⟩:=I.list VE;have l1:=rv.length;have l2:=Xo.length;have he:aR.toArray[i]?=none\/n6.toArray[i]?=none:=by
   obtain q|q:=adq
   .exact .inl (by simp;omega)
   .exact .inr (by simp;omega)
  exact wpAny_pyNext_zip_end (I.ok.hd hc) D hz A4 DB h1 h2 p.isList p2.isList he λh' hk=>⟨rfl,I.Tw (t':=s.toks) (λc o hb q=>
   hk c o (λq'=>hb (by simp[q'])) (λq'=>hb (by simp[q'])) (λq'=>hb (by simp[q'])) (λq'=>hb (by simp[q'])) q) hf⟩
 self:=λA i s Q E st h=>wpAny_pyIter_zip st.1 h
def aai(K:PySem.W.Frag)(ta:TA):TI:=λσ H R=>ta σ H λvs H1=>∃a b xs ys,vs=[.ref a,.ref b]/\aM K H1 a xs/\aM K H1 b ys/\R (Itz K a b) H1
def Pa{e2:Expr}{ta:TA}{p pos C6:Pos}{elts:List Expr}{kk:Nat}(hg:Gl X "zip")(hm:X.mg "zip"=none)(ha:PA X [e,e2] ta)(hs:starEach [e,e2] X.env=(false,eval e X.env)::starEach [e2] X.env:=by rfl)(iG:(backTo pos (starEach [e2] X.env)).any (·.1)=false:=by rfl):
  PI X (.Tuple elts kk C6) (.Call (.Name "zip" p) [e,e2] [] pos) (aai X.K ta):=by
 intro pins s σ H R I h;refine Call_ (gq I hg hm BW (jD (cJ (ha pos pins s σ H _ I h) λus s1 aaj=>?_) hs iG));obtain⟨vs,H1,I1,r1,q1⟩:=aaj;obtain⟨a,b,xs,ys,ex,VD,VE,q⟩:=q1;subst ex;cases r1 with
 |cons r rr=>
  cases rr with
  |cons r' rr=>
   cases rr;cases r;cases r';obtain⟨aR,rv,p1,_⟩:=I1.list VD;obtain⟨n6,Xo,p2,_⟩:=I1.list VE;have la:=p1.lt;have lb:=p2.lt;refine call_zip_2 p1.isList p2.isList λh' hz A4 DB h1 h2 f7 hk=>wpAny_pyIter_zip hz ?_;have I2:=I1.kept (t':=s1.toks) hk;refine⟨s1.heap.objs.size+4,[s1.heap.objs.size+4,s1.heap.objs.size+2,s1.heap.objs.size+3,s1.heap.objs.size,s1.heap.objs.size+1],_,_,H1,rfl,I2,O_ (PySem.W.ktu_apart s1.heap.objs.size a b la lb),⟨hz,A4,⟨_,_,DB⟩,h1,h2⟩,λc Xp=>?_,q⟩;have e':c=s1.heap.objs.size+4\/c=s1.heap.objs.size+2\/c=s1.heap.objs.size+3\/c=s1.heap.objs.size\/c=s1.heap.objs.size+1:=‹Xp›
   have hle:s1.heap.objs.size<=c:=by
    obtain z|z|z|z|z:=e'
    .rw[z];exact kL _ _
    .rw[z];exact kL _ _
    .rw[z];exact kL _ _
    .rw[z];exact aL _
    .rw[z];exact kL _ _
   exact I1.Di hle (I1.bL.fresh hle)
end L2
section
end
section
namespace TL
open PySem PySem.Builtin PySem.Builtin.Str PySem.StrLaws
noncomputable abbrev tl(x:Str):List Nat:=x.cps.toList
def yz x:x.length=(tl x).length:=by simp[tl,Str.length]
def BX x y:tl (x++y)=tl x++tl y:=by
 show(x++y).cps.toList=_;rw[Str.cps_append,Array.toList_append]
noncomputable def pre(S l:List Nat):Bool:=l.take S.length==S
noncomputable def vU(S:List Nat):Nat->List Nat->List Nat->List (List Nat)
 |_,acc,[]=>[acc]|0,acc,c::r=>if pre S (c::r)=true then acc::vU S (S.length-1) [] r else vU S 0 (acc++ [c]) r
 |k+1,acc,_::r=>vU S k acc r
noncomputable def par(S:List Nat):List Nat->List Nat->Option (List Nat×List Nat)
 |_,[]=>none|acc,c::r=>if pre S (c::r)=true then some (acc,(c::r).drop S.length)else par S (acc++ [c]) r
def DC S k acc:vU S k acc []=[acc]:=by cases k<;>rfl
def TC(h:pre S (c::r)=true):vU S 0 acc (c::r)=acc::vU S (S.length-1) [] r:=by
 show(if pre S (c::r)=true then acc::vU S (S.length-1) [] r else vU S 0 (acc++ [c]) r)=_;rw[ag h]
def Pb(h:pre S (c::r)=false):vU S 0 acc (c::r)=vU S 0 (acc++ [c]) r:=by
 show(if pre S (c::r)=true then acc::vU S (S.length-1) [] r else vU S 0 (acc++ [c]) r)=_;rw[af (by rw[h];exact b_)]
theorem F7 S:∀k acc l,vU S k acc l=vU S 0 acc (l.drop k)
 |0,_,_=>by rw[drop_zero]|k+1,acc,[]=>by rw[drop_nil,DC,DC]
 |k+1,acc,c::r=>by
  exact F7 S k acc r
def TF(hS:S≠ []):pre S []=false:=by
 cases S with
 |nil=>exact absurd rfl hS|cons s S=>rfl
def tm{L:List Nat}{a:Nat}(h:a<L.length):∃c,L.drop a=c::L.drop (a+1):=⟨L[a],oh h⟩
theorem DE(S L:List Nat):∀m a acc,a+m<=L.length->(∀k,a<=k->k<a+m->pre S (L.drop k)=false)->
  vU S 0 acc (L.drop a)=vU S 0 (acc++(L.drop a).take m) (L.drop (a+m))
 |0,a,acc,_,_=>by rw[take_zero,h_,sA]
 |m+1,a,acc,h,hn=>by
  have dR:a<L.length:=by omega
  obtain⟨c,e⟩:=tm dR;have h0:=hn a (aL _) ();have ih:=DE S L m (a+1) (acc++ [c]) () (λk h1 h2=>hn k () ());have e2:a+1+m=a+(m+1):=by omega
  rw[e2]at ih;rw[e]at h0;rw[e,Pb h0,ih,take_succ_cons,g9] <;>rfl
def Pg(L:List Nat) a b:(L.drop a).drop b=L.drop (a+b):=by
 first
  |rw[drop_drop]
  |rw[drop_drop,sN]
def Xq{S L:List Nat}(hS:S≠ [])(h:pre S (L.drop c)=true):vU S 0 acc (L.drop c)=acc::vU S 0 [] (L.drop (c+S.length)):=by
 rw[<-Pg];cases e:L.drop c with
 |nil=>rw[e,TF hS]at h;cases h
 |cons d r=>
  rw[e]at h;rw[TC h,F7];cases S with
  |nil=>exact absurd rfl hS|cons s S=>rfl
def Ph{y:Str}(hy:tl y≠ []) i:At x y x.length i↔pre (tl y) ((tl x).drop i)=true:=by
 have hx:=yz x;have hl:=yz y;constructor
 .intro h;have h2:=h.2;rw[subAt_eq,hl]at h2;exact h2
 .intro h;have e:=eq_of_beq h;have e1:=cb List.length e;rw[cP,dX]at e1;have e2:=length_pos_iff.mpr hy;refine⟨by omega,?_⟩;rw[subAt_eq,hl];exact h
def VF{y:Str}(hy:tl y≠ [])(h:¬At x y x.length i):pre (tl y) ((tl x).drop i)=false:=by
 cases hp:pre (tl y) ((tl x).drop i)with
 |false=>rfl|true=>exact absurd ((Ph hy i).mpr hp) h
def adt{y:Str}(hy:tl y≠ []):1<=y.length:=by
 have e2:=length_pos_iff.mpr hy;exact e2
def BZ x i j:tl (strSub x i j)=((tl x).drop i).take (j-i):=strSub_toList x i j
def A5 x i:tl (strSub x i x.length)=(tl x).drop i:=by
 rw[BZ,yz x];exact qY (by rw[dX] <;>omega)
theorem B1{x y:Str}(hy:tl y≠ []):∀aak a f,a<=(tl x).length->ChainG x y x.length a aak f->(∀k,f<=k->¬At x y x.length k)->
  (partsFrom x y.length a aak).map tl=vU (tl y) 0 [] ((tl x).drop a)
 |[],a,f,ha,h,hn=>by
  have e:=h;subst e;show [tl (strSub x f x.length)]=_;have run:=DE (tl y) (tl x) ((tl x).length-f) f [] () (λk h1 _=>VF hy (hn k h1));have e2:f+((tl x).length-f)=(tl x).length:=by omega
  rw[e2,drop_length,DC,pL,qY (by rw[dX] <;>omega)]at run;rw[run,A5]
 |c::r,a,f,ha,h,hn=>by
  obtain⟨h1,h2,h3,h4⟩:=h;have hc:=h2.1;have hx:=yz x;have hl:=yz y;have ih:=B1 hy r (c+y.length) f () h4 hn;show tl (strSub x a c)::(partsFrom x y.length (c+y.length) r).map tl=_;have run:=DE (tl y) (tl x) (c-a) a [] () (λk k1 k2=>VF hy (h3 k k1 ()));have e2:a+(c-a)=c:=by omega
  rw[e2,pL,Xq hy ((Ph hy c).mp h2)]at run;rw[run,ih,BZ,hl]
def MI x y (hy:tl y≠ []) (hk:¬Builtin.Str.strKind x<Builtin.Str.strKind y):(Txt.split x y).map tl=vU (tl y) 0 [] (tl x):=by
 obtain⟨f,g,hn⟩:=occ_tight x y (adt hy);have key:=B1 hy _ 0 f (cz _) g hn;rw[drop_zero]at key;have B2:occurrences x y 0 x.length (x.length+1)=[]->[x].map tl=vU (tl y) 0 [] (tl x):=λho=>by
  rw[ho]at key;rw[<-key];show [tl x]=[tl (strSub x 0 x.length)];rw[sub_whole]
 unfold Txt.split;by_cases h1:(decide (x.length<y.length)||decide (Builtin.Str.strKind x<Builtin.Str.strKind y))=true
 .rw[ag h1];have dR:x.length<y.length:=by
   simp only[Bool.or_eq_true,decide_eq_true_eq]at h1;obtain h|h:=h1
   .exact h
   .exact absurd h hk
  refine B2 ?_;cases ho:occurrences x y 0 x.length (x.length+1)with
  |nil=>rfl
  |cons c r=>
   rw[ho]at g;have hc:=g.2.1.1;omega
 .rw[af h1];by_cases h2:(occurrences x y 0 x.length (x.length+1)).isEmpty=true
  .rw[ag h2];exact B2 (isEmpty_iff.mp h2)
  .rw[af h2,partsBetween_eq];exact key
def TH{y:Str}(h:y.cps.all (·<256)=true):¬Builtin.Str.strKind x<Builtin.Str.strKind y:=by
 have e:Builtin.Str.strKind y=1:=by unfold PySem.Builtin.Str.strKind;rw[ag h]
 unfold PySem.Builtin.Str.strKind;split
 .omega
 .split<;>omega
noncomputable def B3(S:List Nat):List (List Nat)->List Nat
 |[]=>[]|[p]=>p
 |p::q::r=>p++(S++B3 S (q::r))
theorem KL y:∀parts:List Str,tl (Str.join y parts)=B3 (tl y) (parts.map tl)
 |[]=>rfl|[_]=>rfl
 |x::z::r=>by
  show tl (x++y++Str.join y (z::r))=tl x++(tl y++B3 (tl y) ((z::r).map tl));rw[BX,BX,KL y (z::r),g9]
def join_eq y parts:Txt.join y parts=Str.join y parts:=glued_eq_join y parts
end TL
end
namespace L2
open PySem PySem.Spec PyProof.Rows
theorem B4:∀l:List (Str×Tok),Vals ((l.map (·.1)).map V.str) (strValues l)
 |[]=>.nil|p::r=>.cons ⟨p.2,rfl⟩ (B4 r)
theorem mI:∀{ys}{us},Vals (ys.map V.str) us->StrsAre us ys
 |[],_,.nil=>.nil
 |y::ys,_,.cons r t=>by
  obtain⟨k,rfl⟩:=r;exact .cons y k (mI t)
def yA(ys:List Str):Hp->VK->Prop:=λH Q=>∀p,H p=none->Q (.ref p) (upd H p (.lst (ys.map V.str)))
section
variable {Q:VK}
def uB{l:List (Str×Tok)}{ys:List Str}(I:Inv X pins σ H s)(e:l.map (·.1)=ys)(hz:ys.length<=sizeLine)(h:yA ys H Q):
  EP X pins σ Q (.ref s.heap.objs.size) {s with toks:=k,heap:=s.heap.push {cls:=.type "list",data:=.seq (strValues l).toArray}} :=by
 have hp:=I.bL.fresh (aL _);refine⟨.ref s.heap.objs.size,upd H s.heap.objs.size (.lst (ys.map V.str)),I.laid (λb u q=>bQ _ q) (aL _) ⟨by rw[az];exact hz,strValues l,_,?_,bw _ rfl⟩,rfl,h _ hp⟩;rw[<-e];exact B4 l
end
section
def Pj:OX X "str.split" (λx xs H Q=>∃a b,x=.str a/\xs=[.str b]/\(b.length==0)=false/\a.length+2<=sizeLine/\yA (Txt.split a b) H Q):=by
 intro pins s σ H x xs v us Q I rx rs h;obtain⟨a,b,rfl,rfl,hb,hz,h⟩:=h;obtain⟨t,rfl⟩:=rx;cases rs with
 |cons r1 rs=>
  cases rs;obtain⟨u,rfl⟩:=r1;have hl:=aX (PyProof.Rows.split_le a b) hz;have hn:(Builtin.Str.partsBetween a (Builtin.Str.occurrences a b 0 a.length (a.length+1)) b.length).length<=sizeLine:=by
   have e1:=StrLaws.occ_length_le a b 0 a.length (a.length+1);rw[length_partsBetween];omega
  cases h1:(decide (a.length<b.length)||decide (Builtin.Str.strKind a<Builtin.Str.strKind b))
  .cases hf:(Builtin.Str.occurrences a b 0 a.length (a.length+1)).isEmpty
   .refine iE wO (mD _ _ _) F.entry_str_split (F.args_str_split_2 _ _) (meets_str_split_sep a b t u h1 hb hf () hn) ?_;rw[strsFrom_eq];exact uB I ((numbered_texts _ _).trans ((af (ne_true_of_eq_false h1)).trans (af (ne_true_of_eq_false hf))).symm) hl h
   .refine iE wO (mD _ _ _) F.entry_str_split (F.args_str_split_2 _ _) (meets_str_split_not_found a b t u h1 hb hf) ?_;exact uB (l:=[(a,t)]) (k:=s.toks) I ((af (ne_true_of_eq_false h1)).trans (ag hf)).symm hl h
  .refine iE wO (mD _ _ _) F.entry_str_split (F.args_str_split_2 _ _) (meets_str_split_cannot_occur a b t u h1) ?_;exact uB (l:=[(a,t)]) (k:=s.toks) I (ag h1).symm hl h
def TJ:OX X "str.join" (λx xs H Q=>∃a p,∃ys:List Str,x=.str a/\xs=[.ref p]/\(aM X.K H p (ys.map V.str)\/jM X.K H p (ys.map V.str))/\
  (ys.map (·.length)).sum+ys.length*a.length<=16777216/\Q (.str (Txt.join a ys)) H):=by
 intro pins s σ H x xs v us Q I rx rs h;obtain⟨a,p,ys,rfl,rfl,hp,hz,h⟩:=h;obtain⟨t,rfl⟩:=rx;cases rs with
 |cons r1 rs=>
  cases rs;cases r1;obtain hp|hp:=hp
  .obtain⟨aR,r,⟨o,n,ho,hc,_,hd⟩,_⟩:=I.list hp;exact PyProof.Rows.join_list ⟨o,ho,hc,n,hd⟩ (by rw[sG];exact mI r) hz λt' k=>⟨.str _,H,I.tok k,⟨t',rfl⟩,h⟩
  .obtain⟨aR,r,ht,_⟩:=I.tuple hp;exact PyProof.Rows.join_tuple ht (by rw[sG];exact mI r) hz λt' k=>⟨.str _,H,I.tok k,⟨t',rfl⟩,h⟩
def mt0{id:String}{C:Str->Prop}{g:Str->V}(rule:∀a t s Q,C a->(∀u k,RelV (g a) u->Q u {s with toks:=k})->
  wpAny (model X.prog X.w) X.A (call (.builtin id) [.str a t]) Q X.xe s):OX X id (λx xs H Q=>∃a,x=.str a/\xs=[]/\C a/\Q (g a) H):=by
 intro pins s σ H x xs v us Q I rx rs h;obtain⟨a,rfl,rfl,hc,h⟩:=h;obtain⟨t,rfl⟩:=rx;cases rs;exact rule a t s _ hc λu k r=>⟨g a,H,I.tok k,r,h⟩
def IB:OX X "str.isdigit" (λx xs H Q=>∃a,x=.str a/\xs=[]/\True/\Q (.bl (Txt.isdigit a)) H):=
 mt0 (C:=λ_=>True) λ_ _ s _ _ h=>PySem.SC.isdigit (h _ s.toks rfl)
def DF:kn X (.type "int") (λxs H Q=>eT xs λa=>∃n,PySem.intText? a=some n/\a.length<=640/\Q (.int n) H):=by
 intro pins s σ H xs us Q I rs h;obtain⟨a,rfl,n,hn,hl,h⟩:=Df.mp h;cases rs with
 |cons r1 rs=>
  cases rs;obtain⟨t,rfl⟩:=r1;exact PySem.W.KIN.call_text hn hl ⟨.int n,H,I.tok _,⟨_,rfl⟩,h⟩
end
section
variable {o:Expr} {to:TE}
def tM0(r:V->List V->Hp->VK->Prop)(to:TE):TE:=λσ H Q=>to σ H λx H1=>eS x λ_=>r x [] H1 Q
def tM1(r:V->List V->Hp->VK->Prop)(to te:TE):TE:=λσ H Q=>to σ H λx H1=>eS x λ_=>te σ H1 λy H2=>r x [y] H2 Q
def aal{id:String}{apos pos:Pos}{r:V->List V->Hp->VK->Prop}(slot:Slot "str" name id)(ty:typeOf (.builtin id)=pure (.type "method_descriptor"))(rule:OX X id r)(ho:PE X o to)(jO:attributeBase o name X.env (eval o X.env)=eval o X.env:=by rfl)(hline:(apos.endLine==pos.line)=true:=by rfl):PE X (.Call (.Attribute o name apos) [] [] pos) (tM0 r to):=by
 intro pins s σ H Q I h;refine PySem.Call_method0 jO hline (cJ (ho pins s σ H _ I h) λv s1 aam=>?_);obtain⟨x,H1,I1,r1,q1⟩:=aam;obtain⟨a,rfl,q1⟩:=Ie.mp q1;obtain⟨t,rfl⟩:=_root_.id r1;exact⟨"str",_,F.plainAttrs_str,slot,ty,mD _ _ _,(λ_ e=>nomatch e),uj rfl (PySem.evalArgs_none (rule pins s1 σ H1 _ [] _ [] Q I1 r1 .nil q1))⟩
def VG{id:String}{apos pos:Pos}{r:V->List V->Hp->VK->Prop}(slot:Slot "str" name id)(ty:typeOf (.builtin id)=pure (.type "method_descriptor"))(rule:OX X id r)(ho:PE X o to)(he:PE X e te)(hs:starEach [e] X.env=[(false,eval e X.env)]:=by rfl)(jO:attributeBase o name X.env (eval o X.env)=eval o X.env:=by rfl)(hline:(apos.endLine==pos.line)=true:=by rfl):
  PE X (.Call (.Attribute o name apos) [e] [] pos) (tM1 r to te):=by
 intro pins s σ H Q I h;refine PySem.Call_method1 jO hs hline (cJ (ho pins s σ H _ I h) λv s1 aan=>?_);obtain⟨x,H1,I1,r1,q1⟩:=aan;obtain⟨a,rfl,q1⟩:=Ie.mp q1;obtain⟨t,rfl⟩:=_root_.id r1;refine⟨"str",_,F.plainAttrs_str,slot,ty,mD _ _ _,(λ_ e=>nomatch e),uj rfl (sq (me ?_))⟩;refine cJ (he pins s1 σ H1 _ I1 q1) λu s2 aao=>?_;obtain⟨y,H2,I2,r2,q2⟩:=aao;exact q_ (rule pins s2 σ H2 _ [y] _ [u] Q I2 r1 (.cons r2 .nil) q2)
def yB{apos pos:Pos}(ho:PE X o to)(he:PE X e te)(hs:starEach [e] X.env=[(false,eval e X.env)]:=by rfl)(jO:attributeBase o "split" X.env (eval o X.env)=eval o X.env:=by rfl)(hline:(apos.endLine==pos.line)=true:=by rfl):
  PE X (.Call (.Attribute o "split" apos) [e] [] pos) (tM1 (λx xs H Q=>∃a b,x=.str a/\xs=[.str b]/\(b.length==0)=false/\a.length+2<=sizeLine/\yA (Txt.split a b) H Q) to te):=
 VG wO F.type_str_split Pj ho he hs jO hline
def TK{apos pos:Pos}(ho:PE X o to)(he:PE X e te)(hs:starEach [e] X.env=[(false,eval e X.env)]:=by rfl)(jO:attributeBase o "join" X.env (eval o X.env)=eval o X.env:=by rfl)(hline:(apos.endLine==pos.line)=true:=by rfl):
  PE X (.Call (.Attribute o "join" apos) [e] [] pos) (tM1 (λx xs H Q=>∃a p,∃ys:List Str,x=.str a/\xs=[.ref p]/\(aM X.K H p (ys.map V.str)\/jM X.K H p (ys.map V.str))/\
   (ys.map (·.length)).sum+ys.length*a.length<=16777216/\Q (.str (Txt.join a ys)) H) to te):=
 VG F.slot_str_join F.type_str_join TJ ho he hs jO hline
end
section
def yC:p_ X (compareOp .In) (λx y H Q=>∃(c:Nat) (z:Str),x=.str ⟨#[c]⟩/\y=.str z/\Q (.bl (decide (c∈z.cps.toList))) H):=by
 intro pins s σ H x y v u Q I rx ry h;obtain⟨c,z,rfl,rfl,q⟩:=h;obtain⟨t,rfl⟩:=rx;obtain⟨t',rfl⟩:=ry;exact PyProof.Rows.in_str (bM I q (PySem.StrLaws.found_one z c).symm)
def A6:p_ X (compareOp .NotIn) (λx y H Q=>∃(c:Nat) (z:Str),x=.str ⟨#[c]⟩/\y=.str z/\Q (.bl (!decide (c∈z.cps.toList))) H):=by
 intro pins s σ H x y v u Q I rx ry h;obtain⟨c,z,rfl,rfl,q⟩:=h;obtain⟨t,rfl⟩:=rx;obtain⟨t',rfl⟩:=ry;exact PyProof.Rows.notIn_str (bM I q (cb Bool.not (PySem.StrLaws.found_one z c).symm))
end
end L2
section
namespace L2
open PySem PySem.Spec PyProof.Rows
open PySem.W (WData Codec OpenSpec Well WellAll ReadsW ReadsAllW)
mutual
inductive Dw(K:PySem.W.Frag)(H:Hp):V->WData->Prop
 |cV:Dw K H .cV .none
 |bl (b:Bool):Dw K H (.bl b) (.bool b)
 |int (i:Int):Dw K H (.int i) (.int i)
 |str (x:Str):Dw K H (.str x) (.str x)
 |HP (b:Array UInt8):Dw K H (.HP b) (.bytes b.toList)
 |lst {a:Addr} {xs:List V} {ds:List WData} :aM K H a xs->nN K H xs ds->Dw K H (.ref a) (.list ds)
 |tup {a:Addr} {xs:List V} {ds:List WData} :jM K H a xs->nN K H xs ds->Dw K H (.ref a) (.tuple ds)
inductive nN(K:PySem.W.Frag)(H:Hp):List V->List WData->Prop
 |nil:nN K H [] []
 |cons {v:V} {vs:List V} {d:WData} {ds:List WData} :Dw K H v d->nN K H vs ds->nN K H (v::vs) (d::ds)
end
theorem KN:∀ns:List Int,nN K H (ns.map V.int) (ns.map WData.int)
 |[]=>.nil|n::r=>.cons (.int n) (KN r)
theorem xq:∀(ns:List Int) xs,nN K H xs (ns.map WData.int)->xs=ns.map V.int
 |[],xs,h=>by
  cases h;rfl
 |n::r,xs,h=>by
  cases h with
  |cons h1 h2=>
   cases h1;rw[xq r _ h2] <;>rfl
section
variable {R:PySem.W.WRecords} {cl:Str->Option Addr}
def Xr(bL:mG P w H h)(KX:K.In h)(q:aM K H a xs):∃(aR:List Value) (o:Obj) (n:Nat),Vals xs aR/\h.get? a=some o/\o.cls=.type "list"/\o.data=.seq aR.toArray n:=by
 obtain q|⟨o,aR,n,e,hc,_,hd,_,hv⟩:=q
 .obtain⟨_,aR,n,hv,e⟩:=(show dF P w H h a (.lst xs)from q.ok bL);exact⟨aR,_,n,hv,e,rfl,rfl⟩
 .exact⟨aR.toList,o,n,hv,KX _ _ e,hc,by simp[hd]⟩
def Xs(bL:mG P w H h)(KX:K.In h)(q:jM K H a xs):∃(aR:List Value) (o:Obj) (n:Nat),Vals xs aR/\h.get? a=some o/\o.cls=.type "tuple"/\o.data=.seq aR.toArray n:=by
 obtain q|⟨o,aR,n,e,hc,hd,_,hv⟩:=q
 .obtain⟨_,aR,hv,o,e,hc,n,hd⟩:=(show dF P w H h a (.tup xs)from q.ok bL);exact⟨aR,o,n,hv,e,hc,hd⟩
 .exact⟨aR.toList,o,n,hv,KX _ _ e,hc,by simp[hd]⟩
mutual
theorem Dw.reads(bL:mG P w H h)(KX:K.In h):∀(d:WData)(v:V)(u:Value),Dw K H v d->RelV v u->∃as,ReadsW R cl h u d as
 |.none,_,_,x,r=>by
  cases x;cases r;exact⟨_,ReadsW.none⟩
 |.bool b,_,_,x,r=>by
  cases x;cases r;exact⟨_,ReadsW.bool b⟩
 |.int i,_,_,x,r=>by
  cases x;obtain⟨t,rfl⟩:=r;exact⟨_,ReadsW.int i t⟩
 |.str s,_,_,x,r=>by
  cases x;obtain⟨t,rfl⟩:=r;exact⟨_,ReadsW.str s t⟩
 |.bytes b,_,_,x,r=>by
  cases x;obtain⟨t,rfl⟩:=r;exact⟨_,ReadsW.bytes _ t⟩
 |.list ds,_,_,x,r=>by
  cases x with
  |lst hs ha=>
   cases r;obtain⟨aR,o,n,rv,ho,hc,hd⟩:=Xr bL KX hs;obtain⟨as,hr⟩:=Dw.readsAll bL KX ds _ aR ha rv;exact⟨_,ReadsW.list ho hc hd hr⟩
 |.tuple ds,_,_,x,r=>by
  cases x with
  |tup hs ha=>
   cases r;obtain⟨aR,o,n,rv,ho,hc,hd⟩:=Xs bL KX hs;obtain⟨as,hr⟩:=Dw.readsAll bL KX ds _ aR ha rv;exact⟨_,ReadsW.tuple ho hc hd hr⟩
 |.float _,_,_,x,_=>by cases x
 |.dict _,_,_,x,_=>by cases x
 |.bytearray _,_,_,x,_=>by cases x
 |.set _,_,_,x,_=>by cases x
 |.frozenset _,_,_,x,_=>by cases x
 |.obj _ _,_,_,x,_=>by cases x
theorem Dw.readsAll(bL:mG P w H h)(KX:K.In h):∀(ds:List WData)(vs:List V)(us:List Value),nN K H vs ds->Vals vs us->∃as,ReadsAllW R cl h us ds as
 |[],_,_,x,r=>by
  cases x;cases r;exact⟨_,ReadsAllW.nil⟩
 |d::ds,_,_,x,r=>by
  cases x with
  |cons h1 h2=>
   cases r with
   |cons r1 r2=>
    obtain⟨as,q1⟩:=Dw.reads bL KX d _ _ h1 r1;obtain⟨bs,q2⟩:=Dw.readsAll bL KX ds _ _ h2 r2;exact⟨_,ReadsAllW.cons q1 q2⟩
end
end
mutual
noncomputable def Om:WData->Bool
 |.none=>true|.bool _=>true
 |.int _=>true|.str _=>true
 |.bytes _=>true|.list xs=>A7 xs
 |.tuple xs=>A7 xs|_=>false
noncomputable def A7:List WData->Bool
 |[]=>true|x::r=>Om x&&A7 r
end
theorem F8{f:α->WData}(h:∀a,Om (f a)=true):∀l:List α,A7 (l.map f)=true
 |[]=>rfl
 |x::r=>by
  show(Om (f x)&&A7 (r.map f))=true;rw[h x,F8 h r] <;>rfl
theorem oB:∀(c:Codec) a,Om (c.enc a)=true
 |.unit,_=>rfl|.bool,_=>rfl
 |.int _ _,_=>rfl|.nat _ _,_=>rfl
 |.u8,_=>rfl|.bytes _ _,_=>rfl
 |.text _ _ _ _,_=>rfl|.list _ _ c,a=>F8 (λx=>oB c x) a
 |.pair c d,a=>by
  show(Om (c.enc a.1)&&(Om (d.enc a.2)&&true))=true;rw[oB c a.1,oB d a.2] <;>rfl
 |.triple c d e,a=>by
  show(Om (c.enc a.1)&&(Om (d.enc a.2.1)&&(Om (e.enc a.2.2)&&true)))=true;rw[oB c a.1,oB d a.2.1,oB e a.2.2] <;>rfl
 |.option c,none=>rfl|.option c,some x=>oB c x
theorem B5:∀cs a,A7 (Codec.encAll cs a)=true
 |[],_=>rfl
 |c::cs,a=>by
  show(Om (c.enc a.1)&&A7 (Codec.encAll cs a.2))=true;rw[oB c a.1,B5 cs a.2] <;>rfl
theorem ro:∀{xs}{d},d∈xs->d.weight<=WData.weightAll xs
 |[],d,h=>absurd h ∅
 |x::r,d,h=>by
  show d.weight<=x.weight+1+WData.weightAll r;obtain e|m:=mem_cons.mp h
  .rw[e];omega
  .have z:=ro m;omega
noncomputable def toV:Value->V
 |.none=>.cV|.bool b=>.bl b
 |.int i _=>.int i|.str x _=>.str x
 |.bytes b _=>.HP b|.ref a=>.ref a
 |_=>.cV
def MJ(A:List Addr):Value->Prop
 |.none=>True|.bool _=>True
 |.int _ _=>True|.str _ _=>True
 |.bytes _ _=>True|.ref a=>a∈A
 |_=>False
def MJ.mono{A B:List Addr}(h:∀a∈A,a∈B):∀{u},MJ A u->MJ B u:=λ{u} x=>by
 cases u with
 |ref a=>exact h a x|none=>trivial
 |bool b=>trivial|int i t=>trivial
 |str s t=>trivial|bytes b t=>trivial
 |_=>exact False.elim x
def Pk{A:List Addr}(x:MJ A u):RelV (toV u) u:=by
 cases u with
 |ref a=>rfl|none=>rfl
 |bool b=>rfl|int i t=>exact⟨t,rfl⟩
 |str s t=>exact⟨t,rfl⟩|bytes b t=>exact⟨t,rfl⟩
 |_=>exact False.elim x
theorem lL{A:List Addr}:∀{vs},(∀u∈vs,MJ A u)->Vals (vs.map toV) vs
 |[],_=>.nil|u::r,h=>.cons (Pk (h u (b8 ..))) (lL λx hx=>h x (bI _ hx))
def nO(h:Heap)(A:List Addr)(a:Addr):Prop:=∃vs:List Value,vs.length<=sizeLine/\(∀u∈vs,MJ A u)/\
 (h.get? a=some {cls:=.type "list",data:=.seq vs.toArray}\/h.get? a=some {cls:=.type "tuple",data:=.seq vs.toArray})
theorem nO.mono{A B:List Addr}(k:∀a∈A,a∈B)(x:nO h A a):nO h B a:=by
 obtain⟨vs,h1,h2,h3⟩:=x;exact⟨vs,h1,λu hu=>(h2 u hu).mono k,h3⟩
theorem kx{P:Params}:∀{vs}{ds},WellAll P h vs ds->vs.length=ds.length
 |_,_,.nil=>rfl
 |_,_,.cons _ b=>by
  show _+1=_+1;rw[kx b]
def B6{P:Params}{v:Value}(x:Well P h v (.list ds)):∃(a:Addr) (vs:List Value),v=.ref a/\h.get? a=some {cls:=.type "list",data:=.seq vs.toArray}/\WellAll P h vs ds:=by
 cases x with
 |list ho fB=>exact⟨_,_,rfl,ho,fB⟩
def yD{P:Params}{v:Value}(x:Well P h v (.tuple ds)):∃(a:Addr) (vs:List Value),v=.ref a/\h.get? a=some {cls:=.type "tuple",data:=.seq vs.toArray}/\WellAll P h vs ds:=by
 cases x with
 |tuple ho fB=>exact⟨_,_,rfl,ho,fB⟩
def B7{P:Params}(x:WellAll P h us (d::ds)):∃(v:Value) (vs:List Value),us=v::vs/\Well P h v d/\WellAll P h vs ds:=by
 cases x with
 |cons a b=>exact⟨_,_,rfl,a,b⟩
def KO(h:n<=1048576):n<=sizeLine:=aX h ⋯
section
variable {P:Params}
mutual
theorem Pn:∀d v,Well P h v d->Om d=true->d.weight<=1048576->∃A:List Addr,MJ A v/\∀a∈A,nO h A a
 |.none,_,x,_,_=>by
  cases x;exact⟨[],trivial,λa m=>absurd m ∅⟩
 |.bool b,_,x,_,_=>by
  cases x;exact⟨[],trivial,λa m=>absurd m ∅⟩
 |.int i,_,x,_,_=>by
  cases x;exact⟨[],trivial,λa m=>absurd m ∅⟩
 |.str s,_,x,_,_=>by
  cases x;exact⟨[],trivial,λa m=>absurd m ∅⟩
 |.bytes b,_,x,_,_=>by
  cases x;exact⟨[],trivial,λa m=>absurd m ∅⟩
 |.list ds,_,x,p,z=>by
  obtain⟨a,vs,rfl,ho,fB⟩:=B6 x;have z2:=z;obtain⟨A,h1,h2⟩:=tq ds _ fB p λd hd=>aX (ro hd) z2;have k:∀b∈A,b∈a::A:=λb hb=>bI _ hb;refine⟨a::A,b8 ..,λb hb=>?_⟩;obtain e|m:=mem_cons.mp hb
  .rw[e];exact⟨vs,KO (by rw[kx fB];exact aX (PySem.W.length_le_weightAllW ds) z2),λu hu=>(h1 u hu).mono k,.inl ho⟩
  .exact(h2 b m).mono k
 |.tuple ds,_,x,p,z=>by
  obtain⟨a,vs,rfl,ho,fB⟩:=yD x;have z2:=z;obtain⟨A,h1,h2⟩:=tq ds _ fB p λd hd=>aX (ro hd) z2;have k:∀b∈A,b∈a::A:=λb hb=>bI _ hb;refine⟨a::A,b8 ..,λb hb=>?_⟩;obtain e|m:=mem_cons.mp hb
  .rw[e];exact⟨vs,KO (by rw[kx fB];exact aX (PySem.W.length_le_weightAllW ds) z2),λu hu=>(h1 u hu).mono k,.inr ho⟩
  .exact(h2 b m).mono k
 |.float _,_,_,p,_=>Bool.noConfusion (show false=true from p)
 |.dict _,_,_,p,_=>Bool.noConfusion (show false=true from p)
 |.bytearray _,_,_,p,_=>Bool.noConfusion (show false=true from p)
 |.set _,_,_,p,_=>Bool.noConfusion (show false=true from p)
 |.frozenset _,_,_,p,_=>Bool.noConfusion (show false=true from p)
 |.obj _ _,_,_,p,_=>Bool.noConfusion (show false=true from p)
theorem tq:∀ds vs,WellAll P h vs ds->A7 ds=true->(∀d∈ds,d.weight<=1048576)->∃A:List Addr,(∀u∈vs,MJ A u)/\∀a∈A,nO h A a
 |[],_,x,_,_=>by
  cases x;exact⟨[],λu m=>absurd m ∅,λa m=>absurd m ∅⟩
 |d::ds,_,x,p,z=>by
  obtain⟨v,vs,rfl,x1,x2⟩:=B7 x;have q:=Bool.and_eq_true_iff.mp p;obtain⟨A,a1,a2⟩:=Pn d v x1 q.1 (z d (b8 ..));obtain⟨B,b1,b2⟩:=tq ds vs x2 q.2 λe he=>z e (bI _ he);have kA:∀b∈A,b∈A++B:=λb hb=>mem_append.mpr (.inl hb);have kB:∀b∈B,b∈A++B:=λb hb=>mem_append.mpr (.inr hb);refine⟨A++B,λu hu=>?_,λb hb=>?_⟩
  .obtain e|m:=mem_cons.mp hu
   .rw[e];exact a1.mono kA
   .exact(b1 u m).mono kB
  .obtain m|m:=mem_append.mp hb
   .exact(a2 b m).mono kA
   .exact(b2 b m).mono kB
end
end
noncomputable def TN(o:Obj):Option HO:=match o.data with
 |.seq vs _=>if(o.cls==Value.type "list")=true then some (.AI o (.lst (vs.toList.map toV)))else some (.AI o (.tup (vs.toList.map toV)))
 |_=>none
noncomputable def mJ(K:PySem.W.Frag)(h:Heap)(A:List Addr):Hp:=λb=>if b∈A then(if(K.lookup b).isNone=true then(h.get? b).bind TN else none)else none
def F_(H:Hp):Prop:=∀b,H b=none\/∃o u,H b=some (.AI o u)
def Ga(vs:List Value):TN {cls:=.type "list",data:=.seq vs.toArray} =some (.AI {cls:=.type "list",data:=.seq vs.toArray} (.lst (vs.map toV))):=by
 show(if(Value.type "list"==Value.type "list")=true then some (HO.AI {cls:=.type "list",data:=.seq vs.toArray} (.lst (vs.toArray.toList.map toV)))else some (HO.AI {cls:=.type "list",data:=.seq vs.toArray} (.tup (vs.toArray.toList.map toV))))=_;rw[ag (beq_self_eq_true _)]
def Gb(vs:List Value):TN {cls:=.type "tuple",data:=.seq vs.toArray} =some (.AI {cls:=.type "tuple",data:=.seq vs.toArray} (.tup (vs.map toV))):=by
 show(if(Value.type "tuple"==Value.type "list")=true then some (HO.AI {cls:=.type "tuple",data:=.seq vs.toArray} (.lst (vs.toArray.toList.map toV)))else some (HO.AI {cls:=.type "tuple",data:=.seq vs.toArray} (.tup (vs.toArray.toList.map toV))))=_;rw[af ⋯]
section
variable {A:List Addr}
def xx{o:Obj}(hb:b∈A)(hk:K.lookup b=none)(e:h.get? b=some o):mJ K h A b=TN o:=by
 unfold mJ;rw[ag hb,hk,ag (show(none:Option Obj).isNone=true from rfl),e] <;>rfl
def TQ{u:HO}(q:mJ K h A b=some u):b∈A/\K.lookup b=none:=by
 unfold mJ at q;by_cases hb:b∈A
 .rw[ag hb]at q;cases hk:K.lookup b with
  |none=>exact⟨hb,rfl⟩
  |some o=>
   rw[hk,af ∅]at q;cases q
 .rw[af hb]at q;cases q
def xA(ar:∀a∈A,nO h A a){u:HO}(q:mJ K h A b=some u):K.lookup b=none/\∃vs:List Value,vs.length<=sizeLine/\(∀u∈vs,MJ A u)/\
  ((h.get? b=some {cls:=.type "list",data:=.seq vs.toArray}/\u=.AI {cls:=.type "list",data:=.seq vs.toArray} (.lst (vs.map toV)))\/
   (h.get? b=some {cls:=.type "tuple",data:=.seq vs.toArray}/\u=.AI {cls:=.type "tuple",data:=.seq vs.toArray} (.tup (vs.map toV)))):=by
 obtain⟨hb,hk⟩:=TQ q;obtain⟨vs,h1,h2,h3⟩:=ar b hb;refine⟨hk,vs,h1,h2,?_⟩;obtain e|e:=h3
 .rw[xx hb hk e,Ga]at q;exact .inl ⟨e,(Option.some.inj q).symm⟩
 .rw[xx hb hk e,Gb]at q;exact .inr ⟨e,(Option.some.inj q).symm⟩
def ML(ar:∀a∈A,nO h A a):F_ (mJ K h A):=λb=>by
 cases q:mJ K h A b with
 |none=>exact .inl rfl
 |some u=>
  obtain⟨_,vs,_,_,⟨_,e⟩|⟨_,e⟩⟩:=xA ar q
  .exact .inr ⟨_,_,by rw[e]⟩
  .exact .inr ⟨_,_,by rw[e]⟩
def TU(ar:∀a∈A,nO h A a):mG P w (mJ K h A) h:=λb u q=>by
 obtain⟨_,vs,h1,h2,⟨e,rfl⟩|⟨e,rfl⟩⟩:=xA ar q
 .exact⟨e,by rw[az];exact h1,vs,_,lL h2,e⟩
 .exact⟨e,by rw[az];exact h1,vs,lL h2,_,e,rfl,_,rfl⟩
def xB{c c':Value}(e:(some {cls:=c,data:=.seq vs.toArray} :Option Obj)=some {cls:=c',data:=.seq us.toArray}):c=c'/\vs=us:=by
 have e1:=Option.some.inj e;have e2:=cb Obj.cls e1;have e3:=cb Obj.data e1;injection e3 with e4;refine⟨e2,?_⟩;have e5:=cb Array.toList e4;simpa using e5
def adu(KX:K.In h)(ar:∀a∈A,nO h A a)(ha:a∈A)(e:h.get? a=some {cls:=.type "list",data:=.seq vs.toArray}):(∀u∈vs,MJ A u)/\aM K (mJ K h A) a (vs.map toV):=by
 obtain⟨us,h1,h2,h3⟩:=ar a ha;have hu:us=vs:=by
  obtain q|q:=h3
  .rw[e]at q;exact(xB q).2.symm
  .rw[e]at q;exact absurd (Value.type.inj (xB q).1) ⋯
 subst hu;refine⟨h2,?_⟩;cases hk:K.lookup a with
 |none=>exact .inl (.inr ⟨_,by rw[xx ha hk e,Ga]⟩)
 |some o=>
  have e2:=KX a o hk;rw[e]at e2;obtain rfl:=Option.some.inj e2;exact .inr ⟨_,us.toArray,_,hk,rfl,rfl,rfl,by rw[cO];exact h1,‹lL h2›⟩
def adw(KX:K.In h)(ar:∀a∈A,nO h A a)(ha:a∈A)(e:h.get? a=some {cls:=.type "tuple",data:=.seq vs.toArray}):(∀u∈vs,MJ A u)/\jM K (mJ K h A) a (vs.map toV):=by
 obtain⟨us,h1,h2,h3⟩:=ar a ha;have hu:us=vs:=by
  obtain q|q:=h3
  .rw[e]at q;exact absurd (Value.type.inj (xB q).1) ⋯
  .rw[e]at q;exact(xB q).2.symm
 subst hu;refine⟨h2,?_⟩;cases hk:K.lookup a with
 |none=>exact .inl (.inr ⟨_,by rw[xx ha hk e,Gb]⟩)
 |some o=>
  have e2:=KX a o hk;rw[e]at e2;obtain rfl:=Option.some.inj e2;exact .inr ⟨_,us.toArray,_,hk,rfl,rfl,by rw[cO];exact h1,‹lL h2›⟩
mutual
theorem Xt{Pm:Params}(KX:K.In h)(ar:∀a∈A,nO h A a):∀(d:WData)(v:Value),Well Pm h v d->Om d=true->MJ A v->Dw K (mJ K h A) (toV v) d
 |.none,_,x,_,_=>by
  cases x;exact .cV
 |.bool b,_,x,_,_=>by
  cases x;exact .bl b
 |.int i,_,x,_,_=>by
  cases x;exact .int i
 |.str s,_,x,_,_=>by
  cases x;exact .str s
 |.bytes b,_,x,_,_=>by
  cases x;have z:=Dw.HP (K:=K) (H:=mJ K h A) b.toArray;exact z
 |.list ds,_,x,p,hu=>by
  obtain⟨a,vs,rfl,ho,fB⟩:=B6 x;obtain⟨h2,hs⟩:=adu KX ar hu ho;exact .lst hs (DG KX ar ds _ fB p h2)
 |.tuple ds,_,x,p,hu=>by
  obtain⟨a,vs,rfl,ho,fB⟩:=yD x;obtain⟨h2,hs⟩:=adw KX ar hu ho;exact .tup hs (DG KX ar ds _ fB p h2)
 |.float _,_,_,p,_=>Bool.noConfusion (show false=true from p)
 |.dict _,_,_,p,_=>Bool.noConfusion (show false=true from p)
 |.bytearray _,_,_,p,_=>Bool.noConfusion (show false=true from p)
 |.set _,_,_,p,_=>Bool.noConfusion (show false=true from p)
 |.frozenset _,_,_,p,_=>Bool.noConfusion (show false=true from p)
 |.obj _ _,_,_,p,_=>Bool.noConfusion (show false=true from p)
theorem DG{Pm:Params}(KX:K.In h)(ar:∀a∈A,nO h A a):∀(ds:List WData)(vs:List Value),WellAll Pm h vs ds->A7 ds=true->(∀u∈vs,MJ A u)->nN K (mJ K h A) (vs.map toV) ds
 |[],_,x,_,_=>by
  cases x;exact .nil
 |d::ds,_,x,p,hu=>by
  obtain⟨v,vs,rfl,x1,x2⟩:=B7 x;have q:=Bool.and_eq_true_iff.mp p;exact .cons (Xt KX ar d v x1 q.1 (hu _ (b8 ..))) (DG KX ar ds vs x2 q.2 λu m=>hu u (bI _ m))
end
end
def MM(KX:K.In s₁.heap)(hns:s₁.heap.Ns mainGlobals mg)(hb:s₁.heap.Ns builtinsNs mb)(hbb:∀x:Str,x≠"__name__"->mb x=bootBuiltins x)(Xu:s₁.heap.NoLimit)(hg:s₁.gens= #[])(B8:WellAll w.params s₁.heap vals ds)(iG:A7 ds=true)(hwt:∀d∈ds,d.weight<=1048576)(hr:dY k callerA)(F:∀base:Heap,K.In base->base.Ns mainGlobals mg->nZ P w K mg base CX k fa fd ps sp)(aap:∀s us,us.length=ps.length->BindsTo s fd ⟨us,[]⟩ (ps.zip us))(hlen:ds.length=ps.length)(AO:∀H xs,F_ H->nN K H xs ds->sp xs H (λv H'=>Dw K H' v d0) λ_ _ _=>False)(hCX:∀H e s',CX [] H s₁ (λ_ _ _=>False) e s'->False):
  codeAny (model P w) callerA (.call (.ref fa) ⟨vals,[]⟩) (λr s'=>∃u as,r=.ok (.ret u)/\ReadsW R cl s'.heap u d0 as/\OldK s₁.heap s'.heap/\s'.os=s₁.os/\AllBare s'.gens) s₁:=by
 obtain⟨A,ho,ar⟩:=tq ds vals B8 iG hwt;have hO:F_ (mJ K s₁.heap A):=ML ar;have bL:mG P w (mJ K s₁.heap A) s₁.heap:=TU ar;have hS:=DG KX ar ds vals B8 iG ho;have hV:=lL ho;have hK:∀b u,mJ K s₁.heap A b=some u->K.lookup b=none:=λb u q=>(xA ar q).1;have Y2:∀{b:Addr}{o:Obj}{es:Array DictEntry}{ep:Nat},s₁.heap.get? b=some o->o.data=.dict es ep->mJ K s₁.heap A b=none:=λ{b o es ep} e d=>by
  cases q:mJ K s₁.heap A b with
  |none=>rfl
  |some u=>
   obtain⟨_,vs,_,_,⟨e2,_⟩|⟨e2,_⟩⟩:=xA ar q
   .rw[e2]at e;cases e;have d':=d;cases d'
   .rw[e2]at e;cases e;have d':=d;cases d'
 generalize mJ K s₁.heap A=H at hO bL hS hK Y2;have KP:∀{b:Addr}{o:Obj},s₁.heap.get? b=some o->H b=none->(Fy s₁.heap H).get? b=some o:=λe n=>Ow e n;have nsK:∀{b:Addr}{m:Str->Option Value},s₁.heap.Ns b m->(Fy s₁.heap H).Ns b m:=λ{b m} ⟨o,es,ep,e,d,r⟩=>⟨o,es,ep,KP e (Y2 e d),d,r⟩;have nK:∀b o,K.lookup b=some o->H b=none:=λb o e=>by
  cases q:H b with
  |none=>rfl
  |some u=>
   rw[hK b u q]at e;cases e
 have hKb:=λb o e=>KP (KX b o e) (nK b o e);have hM:Mod K mg (Fy s₁.heap H):=⟨hKb,nsK hns,⟨mb,nsK hb,hbb⟩,let⟨mc,h1,h2⟩:=Xu;⟨mc,nsK h1,h2⟩⟩;have e0:AY P w K mg (Fy s₁.heap H) callerA [] s₁ H:=⟨rfl,hM,λb o e=>SW e,sL (Ms _ _),trivial,λb hb=>absurd (show b∈([]:List Addr)from hb) ∅,bL,.of_eq hg⟩;have hl:vals.length=ps.length:=by rw[kx B8];exact hlen
 refine jm ((F _ hKb (nsK hns)).run callerA [] s₁ H ⟨vals,[]⟩ vals (vals.map toV) _ _ hr e0 (aap s₁ vals hl) hV (AO H _ hO hS)) λr s' x=>?_;cases r with
 |error e=>exact(hCX H e s' x).elim
 |ok fl=>
  cases fl with
  |next=>exact False.elim x|brk=>exact False.elim x
  |cont=>exact False.elim x
  |ret u=>
   obtain⟨v,H',os,bare,un,aaq,r',q⟩:=x;have kept:=λb o e=>by
    cases q2:H b with
    |none=>exact un.keep b o e q2 (by intro z;exact absurd (show b∈([]:List Addr)from z) ∅) ∅
    |some u2=>
     obtain z|⟨ob,u3,z⟩:=hO b
     .rw[q2]at z;cases z
     .have z2:=un.vR b ob _ z;obtain⟨e1,_⟩:=bL b _ z;obtain⟨e2,_⟩:=aaq b _ z2;rw[e]at e1;cases e1;exact e2
   have KX':=λb o e=>kept b o (KX b o e);obtain⟨as,hrd⟩:=Dw.reads (R:=R) aaq KX' d0 v u q r';exact⟨u,as,rfl,hrd,OldK.of_keep kept,os,bare⟩
def yE(h:WData.layableAll ds=true):∀d∈ds,d.weight<=1048576:=λd hd=>
 (PySem.W.layableW_iff.mp (all_eq_true.mp h d hd)).2.2
theorem yF:∀cs a,(Codec.encAll cs a).length=cs.length
 |[],_=>rfl
 |c::cs,a=>by
  show(Codec.encAll cs a.2).length+1=cs.length+1;rw[yF cs a.2]
def MN{r:OpenSpec}{K:Params->PySem.W.Frag}{CX:World->Oj}{sp:World->Sp}(Pp:r.wellSaid=true)(Xv:d.params.defaults=[])(hlen:r.args.length=ps.length)(hr:dY k callerA)(hY:∀w h,YP w h->(K w.params).In h)(F:∀w mg fa h,YP w h->(K w.params).In h->h.Ns mainGlobals mg->mg d.name=some (.ref fa)->
   ∃fd:FuncData,(∀s us,us.length=ps.length->BindsTo s fd ⟨us,[]⟩ (ps.zip us))/\
    ∀base:Heap,(K w.params).In base->base.Ns mainGlobals mg->nZ r.prog w (K w.params) mg base (CX w) k fa fd ps (sp w))(AO:∀w H xs a,F_ H->Codec.withinAll r.args a=true->Codec.app r.args r.asked a=true->nN (K w.params) H xs (Codec.encAll r.args a)->
   sp w xs H (λv H'=>Dw (K w.params) H' v (r.ret.enc (Codec.app r.args r.f a))) λ_ _ _=>False)(hCX:∀w H s e s',CX w [] H s (λ_ _ _=>False) e s'->False):
  PySem.W.WalkOS q loose XP YP r d [] (λf vs=>PySem.call f vs):=by
 intro w xi s₁ mg mb G Y fa o pm cd doc dV kV ho hd AK hD hmg hg args vals as adx Xw hrd B8 hlo;obtain⟨a,e1,e2⟩:=PySem.W.os_pre_some adx;obtain⟨e3,hwi⟩:=Codec.encAll_of_decAll r.args args a e1;subst e3;have KX:=hY w _ Y;obtain⟨fd,hb,hF⟩:=F w mg fa _ Y KX G.T.g hmg;refine PySem.W.enter_call (jm (MM (R:=[]) (cl:=classAt xi.heap) KX G.T.g G.T.b G.T.builtins G.T.nolimit hg B8 (B5 _ _) (yE Xw) hr hF hb (by rw[yF];exact hlen)
  (λH xs hO hS=>AO w H xs a hO hwi e2 hS) λH e s'=>hCX w H s₁ e s') λr' s' hq=>?_)
 obtain⟨u,as',rfl,h1,h2,h3,h4⟩:=hq;exact⟨.inl ⟨u,_,as',rfl,λ_=>rfl,h1,(OpenSpec.post_iff Pp hwi _ _).mpr rfl,λz=>Bool.noConfusion (show false=true from z)⟩,h2,h3,h4⟩
def IC{r:OpenSpec}{K:Params->PySem.W.Frag}{sp:PySem.W.Frag->Sp}(Pp:r.wellSaid=true)(Xv:d.params.defaults=[])(hlen:r.args.length=ps.length)(hr:dY k callerA)(hY:∀w h,YP w h->(K w.params).In h)(F:∀w mg fa h,YP w h->(K w.params).In h->h.Ns mainGlobals mg->mg d.name=some (.ref fa)->
   ∃fd:FuncData,(∀s us,us.length=ps.length->BindsTo s fd ⟨us,[]⟩ (ps.zip us))/\
    ∀base:Heap,(K w.params).In base->base.Ns mainGlobals mg->nZ r.prog w (K w.params) mg base CX k fa fd ps (sp (K w.params)))(AO:∀K H xs a,F_ H->Codec.withinAll r.args a=true->Codec.app r.args r.asked a=true->nN K H xs (Codec.encAll r.args a)->
   sp K xs H (λv H'=>Dw K H' v (r.ret.enc (Codec.app r.args r.f a))) λ_ _ _=>False)(hCX:∀H s e s',CX [] H s (λ_ _ _=>False) e s'->False):
  PySem.W.WalkOS q loose XP YP r d [] (λf vs=>PySem.call f vs):=
 MN (K:=K) (CX:=λ_=>CX) Pp Xv hlen hr hY F (λw H xs a h1 h2 h3 h4=>AO (K w.params) H xs a h1 h2 h3 h4) λ_ H s e s'=>hCX H s e s'
end L2
--rests on (row put in by the aer,for the aes aey aeu a file only aez it spells):KE.ady KE.OsShapes
end
namespace L2
open PySem PySem.Spec PyProof.Rows
noncomputable def inClass(s:Stmt)(j:Nat):Stmt:=match s with
 |.ClassDef _ _ _ body _ _ _ _ _ _ _=>body.getD j (.Pass ⟨0,0,0,0⟩)|_=>.Pass ⟨0,0,0,0⟩
noncomputable def fR(s:Stmt):Arguments:=match s with
 |.FunctionDef _ a _ _ _ _ _ _ _ _=>a|_=> {posonlyargs:=[],args:=[],vararg:=none,kwonlyargs:=[],kw_defaults:=[],kwarg:=none,defaults:=[]}
noncomputable def ck(s:Stmt):List Stmt:=match s with
 |.FunctionDef _ _ b _ _ _ _ _ _ _=>b|_=>[]
noncomputable def ao(s:Stmt):Scope:=match s with
 |.FunctionDef _ _ _ _ _ _ sc _ _ _=>sc|_=> {kind:=.function,names:=[],isGenerator:=false,isCoroutine:=false}
abbrev eX:Oj:=λ_ _ _ _ _ _=>False
abbrev E0:XK:=λ_ _ _=>False
def cu:Passes eX X E0:=λ_ _ _ _ _ _ _ h=>h.elim
structure KQ(K:PySem.W.Frag)(x qual:Str)(st:Stmt)(f:Addr)(fd:FuncData):Prop where
 ex:∃(oc:Value) (od:Option Addr) (kV doc pm:Value) (an:Option Addr) (b9 ct:Value) (Im:Array (Option Value)),
  fd=PySem.W.fnOf x qual (fR st) (ck st) (ao st) .none kV doc pm an b9 ct/\K.lookup f=some ⟨oc,od,.func fd,Im⟩/\PySem.W.codeIn K b9 qual=true
 kp:PySem.W.keepIn K (.ref f)=true
section
theorem KQ.ok(F:KQ K x qual st f fd)(S:aE N ps (ao st))(len:∀vs H Q E,sp vs H Q E->vs.length=ps.length)(gv:∀b9 A outer s H vs Q E,dY k (A.deeper (envOfC qual (ao st) s.heap.objs.size f b9))->sp vs H Q E->
   ∃t,vS (kb eX P w K mg base N qual (ao st) f b9 A outer s H E).Oi (ck st) t/\t {nx:=λ_ H'=>Q .cV H',rt:=Q} (start N vs) H):nZ P w K mg base eX (k+1) f fd ps sp:=by
 obtain⟨oc,od,kV,doc,pm,an,b9,ct,Im,rfl,lk,AK⟩:=F.ex;refine Vz lk AK S len λA outer s H vs Q E hr AO=>?_;obtain⟨t,h,q⟩:=gv b9 A outer s H vs Q E hr AO;exact⟨t,h.Oi,q⟩
def KQ.binds(F:KQ K x qual st f fd)(h:∀kV doc pm an b9 ct us,us.length=ps.length->bindArgs (PySem.W.fnOf x qual (fR st) (ck st) (ao st) .none kV doc pm an b9 ct) ⟨us,[]⟩=pure (ps.zip us)):Binds K fd ps []:=by
 obtain⟨oc,od,kV,doc,pm,an,b9,ct,Im,rfl,lk,AK⟩:=F.ex;exact .all (h kV doc pm an b9 ct)
def IE{kV doc b9:Value}(l:K.lookup f=some ⟨oc,od,.func (PySem.W.fnOf x qual (fR st) (ck st) (ao st) .none kV doc pm an b9 ct),Im⟩)(c:PySem.W.codeIn K b9 qual=true)(k:PySem.W.keepIn K (.ref f)=true):KQ K x qual st f (PySem.W.fnOf x qual (fR st) (ck st) (ao st) .none kV doc pm an b9 ct):=⟨⟨oc,od,kV,doc,pm,an,b9,ct,Im,rfl,l,c⟩,k⟩
end
def vt(hr:dY k A):A.units+1<cLine:=wC (Nat.add_le_add_left (by decide:1<=64) _) hr.units
section
def pv(i:Nat){pos:Pos}(hN:X.N[i]?=some x:=by rfl)(hv:ZF X.env.scope x:=by first|exact Or.inl rfl|exact Or.inr (Or.inl rfl)|exact Or.inr (Or.inr rfl))(hd:(x==("__debug__":Str))=false:=by decide)(AK:(x==("__classdict__":Str))=false:=by decide):PE X (.Name x pos) (ye i):=Wx hN hv hd AK
end
def bj{c A B:Prop} [Decidable c] (h1:c->A) (h2:¬c->B):if c then A else B:=by
 by_cases h:c
 .rw[ag h];exact h1 h
 .rw[af h];exact h2 h
def aw(H H':Hp):Prop:=∀b o,H b=some o->H' b=some o
theorem aw.trans(a:aw H H1)(b:aw H1 H2):aw H H2:=λc o h=>b c o (a c o h)
theorem aw.free(e:aw H H')(h:H' l=Option.none):H l=Option.none:=by
 cases q:H l with
 |none=>rfl
 |some o=>
  rw[e l o q]at h;cases h
def aw.seq(e:aw H H')(h:aM K H a xs):aM K H' a xs:=by
 obtain(h|⟨o,h⟩)|h:=h
 .exact .inl (.inl (e _ _ h))
 .exact .inl (.inr ⟨o,e _ _ h⟩)
 .exact .inr h
def at_of{z:Int}(e:z=(j:Int))(h:xs[j]?=some v):Ol xs z=some v:=by
 rw[e];exact eG h
def aw.made{x C:Addr}(nx:H x=Option.none)(nd:H dx=Option.none)(k:∀b o,(upd (upd H dx (.own x)) x (.ins C dx [])) b=some o->b≠x->H1 b=some o):aw H H1:=λb o e=>
 k b o (by rw[aB (bF e nx),aB (bF e nd)];exact e) (bF e nx)
end L2
section
namespace L2
open PySem PySem.Spec PyProof.Rows
def lM(X:Cx)(b:Addr):Prop:=b∈X.ex\/X.xi.heap.get? b=none
section
variable {σ:List (Option V)}
def Inv.aar(I:Inv X pins σ H s)(AX:∀b∈ch,lM X b/\b≠X.env.locals/\(∀x c,X.env.cells.lookup x=some c->c≠b)/\∀p∈X.pn++pins,p.1≠b)(keep:∀b o,b≠X.env.locals->b∉X.fs->b∉ch->s.heap.get? b=some o->H b=none->h'.get? b=some o)(slot:∀b o,b≠X.env.locals->b∈X.fs->b∉ch->s.heap.get? b=some o->H b=none->∃sl,h'.get? b=some {o with slots:=sl})(free:∀b o,b∉ch->s.heap.get? b=some o->H b=none->H' b=none)(there:∀b o,b∉ch->s.heap.get? b=some o->∃o',h'.get? b=some o')(x8:∀b xs,H b=some (.tup xs)->H' b=some (.tup xs))(vR:∀b o u,H b=some (.AI o u)->H' b=some (.AI o u))(x9:∀b ps,H b=some (.R_ ps)->∃more,H' b=some (.R_ (ps++more)))(ns:∀m,s.heap.Ns X.env.locals m->h'.Ns X.env.locals m)(bL:mG X.prog X.w H' h')(hg:AllBare g'):
  Inv X pins σ H' {s with heap:=h',gens:=g',drawn:=d',toks:=t'} :=by
 have ZG:∀b o,X.xi.heap.get? b=some o->b≠X.env.locals:=λb o e=>bB (dU (aN e) I.ok.above);have S2:∀b o,X.xi.heap.get? b=some o->b∉X.ex->b∉ch:=λb o e hx hb=>by
  obtain z|z:=(AX b hb).1
  .exact hx z
  .rw[e]at z;cases z
 have cellK:∀x c,X.env.cells.lookup x=some c->∀v,s.heap.IsCell c v->h'.IsCell c v:=λx c e v ⟨o,ho,hd⟩=>by
  have Ox:=λz=>(AX c z).2.2.1 x c e rfl;by_cases hc:c∈X.fs
  .obtain⟨sl,q⟩:=slot c o (I.S0 x c e) hc Ox ho (I.iO x c e);exact⟨_,q,hd⟩
  .exact⟨o,keep c o (I.S0 x c e) hc Ox ho (I.iO x c e),hd⟩
 refine⟨I.ok,I.os,hg,⟨λb o e n hb hx=>?_,λb o e n hb hx=>?_,λb o e n hx=>?_,λb o e hx=>?_,λb xs e=>x8 b xs (I.base.x8 b xs e),λb o xs e=>vR b o xs (I.base.vR b o xs e),λb ps e=>?_⟩,?_,λx c e=>?_,?_,λx c e=>?_,λp hp=>?_,bL,I.len⟩
 .exact keep b o (ZG b o e) hb (S2 b o e hx) (I.base.keep b o e n hb hx) (I.base.free b o e n hx)
 .obtain⟨sl,e1⟩:=I.base.slot b o e n hb hx;obtain⟨sl',e2⟩:=slot b _ (ZG b o e) hb (S2 b o e hx) e1 (I.base.free b o e n hx);exact⟨sl',e2⟩
 .obtain⟨o',e1⟩:=I.base.there b o e hx;exact free b o' (S2 b o e hx) e1 (I.base.free b o e n hx)
 .obtain⟨o',e1⟩:=I.base.there b o e hx;exact there b o' (S2 b o e hx) e1
 .obtain⟨m1,e1⟩:=I.base.x9 b ps e;obtain⟨m2,e2⟩:=x9 b _ e1;exact⟨m1++m2,by rw[e2,Array.append_assoc]⟩
 .obtain⟨m,hn,hl⟩:=I.loc;refine⟨m,ns m hn,λi x v e1 e2 e3=>?_⟩;obtain⟨u,r,l⟩:=hl i x v e1 e2 e3;refine⟨u,r,?_⟩;obtain l|⟨k,c,e,z⟩:=l
  .exact .inl l
  .exact .inr ⟨k,c,e,cellK x c e _ z⟩
 .obtain⟨v,z⟩:=I.cell x c e;exact⟨v,cellK x c e v z⟩
 .obtain⟨m,⟨o,_,_,ho,_⟩,_⟩:=I.loc;exact free _ o (λz=>(AX _ z).2.1 rfl) ho I.free
 .obtain⟨v,o,ho,hd⟩:=I.cell x c e;exact free c o (λz=>(AX c z).2.2.1 x c e rfl) ho (I.iO x c e)
 .obtain⟨e,n,ne,nf,d⟩:=I.pin p hp;have Ox:=λz=>(AX p.1 z).2.2.2 p hp rfl;exact⟨keep p.1 p.2 ne nf Ox e n,free p.1 p.2 Ox e n,ne,nf,d⟩
end
def Gd(yg:Addr->Prop)(H:Hp)(h:Heap)(e:Addr)(cls:Value)(tr:Bool):Prop:=
 ∃oe vs,h.get? e=some oe/\oe.cls=cls/\oe.data=.fields vs/\1<vs.size/\H e=none/\yg e/\
  ((tr=false/\vs[1]?=some Value.none)\/∃T oT ts x,vs[1]?=some (Value.ref T)/\T≠e/\h.get? T=some oT/\oT.data=.fields ts/\ts[3]?=some x/\H T=none/\yg T)
def Gd.mono{e:Addr}(f:Gd yg H h e cls tr)(k:∀b,yg b->yg' b):Gd yg' H h e cls tr:=by
 obtain⟨oe,vs,a1,a2,a3,a4,a5,a6,a7⟩:=f;refine⟨oe,vs,a1,a2,a3,a4,a5,k _ a6,?_⟩;obtain a7|⟨T,oT,ts,x,b1,b2,b3,b4,b5,b6,b7⟩:=a7
 .exact .inl a7
 .exact .inr ⟨T,oT,ts,x,b1,b2,b3,b4,b5,b6,k _ b7⟩
def Gd.weak{e:Addr}(f:Gd yg H h e cls tr):Gd yg H h e cls false:=by
 obtain⟨oe,vs,a1,a2,a3,a4,a5,a6,a7⟩:=f;refine⟨oe,vs,a1,a2,a3,a4,a5,a6,?_⟩;obtain a7|a7:=a7
 .exact .inl ⟨rfl,a7.2⟩
 .exact .inr a7
def Gd.keeps{e:Addr}(f:Gd yg H h e cls tr)(k:∀b o vs,h.get? b=some o->o.data=.fields vs->h'.get? b=some o):Gd yg H h' e cls tr:=by
 obtain⟨oe,vs,a1,a2,a3,a4,a5,a6,a7⟩:=f;refine⟨oe,vs,k _ _ _ a1 a3,a2,a3,a4,a5,a6,?_⟩;obtain a7|⟨T,oT,ts,x,b1,b2,b3,b4,b5,b6,b7⟩:=a7
 .exact .inl a7
 .exact .inr ⟨T,oT,ts,x,b1,b2,k _ _ _ b3 b4,b4,b5,b6,b7⟩
def mG.there(x:mG P w H h)(q:H a=some o):∃u,h.get? a=some u:=by
 have y:=x a o q;cases o with
 |lst xs=>obtain⟨_,_,_,_,e⟩:=y;exact⟨_,e⟩
 |tup xs=>obtain⟨_,_,_,ob,e,_⟩:=y;exact⟨_,e⟩
 |dK kvs=>obtain⟨_,_,_,_,o,_,_,e,_⟩:=y;exact⟨_,e⟩
 |dT kvs=>obtain⟨_,_,_,_,o,_,_,e,_⟩:=y;exact⟨_,e⟩
 |set S n=>obtain⟨o,_,_,_,e,_⟩:=y;exact⟨_,e⟩
 |ins C dx fs=>obtain⟨_,_,_,e,_⟩:=y;exact⟨_,e⟩
 |own z=>obtain⟨_,e⟩:=y;exact⟨_,e⟩
 |xd fs=>obtain⟨_,⟨_,_,_,e,_⟩,_⟩:=y;exact⟨_,e⟩
 |rng lo hi=>obtain⟨_,_,_,e⟩:=y;exact⟨_,e⟩
 |AI ob u=>obtain⟨e,_⟩:=y;exact⟨_,e⟩
 |R_ ps=>exact⟨_,show h.get? a=some _ from y⟩
 |met f z=>exact⟨_,show h.get? a=some _ from y⟩
 |ext φ=>obtain⟨_,e,_⟩:=y;exact e
section
def Inv.chg(I:Inv X [] σ H s)(vv:X.pn=[])(AX:∀b∈ch,H b=none/\lM X b/\∃o vs,s.heap.get? b=some o/\o.data=.fields vs)(lZ:∀b∈ch,∃o,h'.get? b=some o)(keep:∀b o,b∉Fn X.stack->b∉ch->s.heap.get? b=some o->h'.get? b=some o)(slot:∀b o,b∈Fn X.stack->b∉ch->s.heap.get? b=some o->∃sl,h'.get? b=some {o with slots:=sl}):Inv X [] σ H {s with heap:=h'} :=by
 have any:=λb o hb q=>by
  by_cases hf:b∈Fn X.stack
  .exact slot b o hf hb q
  .exact⟨o.slots,keep b o hf hb q⟩
 have aas:∀b∈ch,b≠X.env.locals:=λb hb z=>by
  obtain⟨_,_,o,vs,q,d⟩:=AX b hb;obtain⟨m,⟨oL,es,ep,qL,dL,_⟩,_⟩:=I.loc;rw[z,qL]at q;cases q;rw[dL]at d;cases d
 refine I.aar (g':=s.gens) (t':=s.toks) (ch:=ch) (λb hb=>⟨(AX b hb).2.1,aas b hb,λx c e z=>?_,λp hp=>?_⟩) (λb o hL hf hb q _=>keep b o (λz=>?_) hb q) (λb o _ _ hb q _=>any b o hb q) (λ_ _ _ _ n=>n)
  (λb o hb q=>let⟨sl,z⟩:=any b o hb q;⟨_,z⟩) (λ_ _ e=>e) (λ_ _ _ e=>e) (λb ps e=>⟨#[],by rw[e];simp⟩) (λm hm=>?_) (λb u e=>?_) I.bare
 .obtain⟨_,_,o,vs,q,d⟩:=AX b hb;obtain⟨v,oc,qc,dc⟩:=I.cell x c e;rw[z,q]at qc;cases qc;rw[d]at dc;cases dc
 .rw[vv]at hp;exact absurd (show p∈([]:List (Addr×Obj))++ []from hp) ∅
 .obtain y|y:=mem_cons.mp (I.Dd b z)
  .exact hL y
  .exact hf y
 .obtain⟨o,es,ep,ho,r⟩:=hm;obtain⟨sl,q⟩:=any _ o (λz=>aas _ z rfl) ho;exact⟨_,es,ep,q,r⟩
 .have fr:∀c v,H c=some v->c∉Fn X.stack/\c∉ch:=λc v q=>⟨λz=>(by rw[I.De c z]at q;cases q),λz=>(by rw[(AX c z).1]at q;cases q)⟩;refine(I.bL b u e).Fx (λc v hc q=>?_) (λ_ q=>q) λ_ _ q=>q;obtain z|z:=hc
  .subst z;exact keep c v (fr c _ e).1 (fr c _ e).2 q
  .exact keep c v (fr c _ z).1 (fr c _ z).2 q
variable {e L:Addr} {cls:Value} {tr:Bool} {Dm Pq:Env} {out:List Env} {Q:Unit->Shared->Prop}
def Inv.TV(I:Inv X [] σ H s){o:Obj}{vs:Array Value}(q:s.heap.get? b=some o)(d:o.data=.fields vs):b∉Fn X.stack:=λz=>by
 obtain⟨_,o',q',d'⟩:=I.stack.mem z;rw[q]at q';cases q';exact d' vs d
def Inv.young(I:Inv X [] σ H s)(q:s.heap.get? b=none):lM X b:=by
 by_cases hb:b∈X.ex
 .exact .inl hb
 .refine .inr ?_;cases z:X.xi.heap.get? b with
  |none=>rfl
  |some o=>
   obtain⟨o',y⟩:=I.base.there b o z hb;rw[q]at y;cases y
def Ge{vs:Array Value}{head:Value}(I:Inv X [] σ H s)(vv:X.pn=[])(p6:X.stack=Pq::out)(h1:Pq.frame=some L)(h0:Dm.frame=some L)(he:s.heap.get? e=some oe)(hc:oe.cls=cls)(hd:oe.data=.fields vs)(hz:1<vs.size)(hn:H e=none)(hy:lM X e)(k:∀h',Inv X [] σ H {s with heap:=h'}->Gd (lM X) H h' e cls true->Q Unit.unit {s with heap:=h'}):
  wpAny (model X.prog X.w) X.A (do let a<-PySem.frameOf Dm;let pl<-entryPlaceOf L had;let b<-EntryCells.newEntry head a .none (rawInt L) .none pl;setField (.ref e) 1 b) Q E s:=by
 unfold PySem.frameOf;refine aj (aj (wpAny_frameEnvs I.ok.frames ?_));have hdw:(X.stack.dropWhile λx=>x.frame !=Dm.frame)=Pq::out:=by
  rw[p6,h0];simp[List.dropWhile,h1]
 rw[hdw];have ff:=I.stack;have fe:=I.TV he hd;rw[p6]at ff;unfold frameObject;refine aj (aj (wpAny_readyFrames_fun ff λg1 so=>ay ?_));rw[h1];refine ay ?_;have so:Heap.SlotsOnly (Fn X.stack) s.heap g1:=by rw[p6];exact so
 refine aj (wpAny_entryPlaceOf λpl iG=>?_);unfold EntryCells.newEntry newFields;refine aj (jG ?_ (iG.sizeOk5 _ _ _ _ _));have e1:=(so.2.1 e fe).trans he;generalize hob:({cls:=.type "traceback",dict:=none,data:=.fields ([head,Value.ref L,.none,rawInt L,.none] ++(if pl.isEmpty then List.replicate 6 Value.none else pl)).toArray} :Obj)=ob;have e2:(g1.push ob).get? e=some oe:=bQ _ e1;have dR:=aN e1;refine mq e2 hd hz (k _ ?_ ?_)
 .refine I.chg (ch:=[e]) vv (λb hb=>?_) (λb hb=>?_) (λb o hf hb q=>?_) (λb o hf hb q=>?_)
  .have z:b=e:=by simpa using hb
   subst z;exact⟨hn,hy,oe,vs,he,hd⟩
  .have z:b=e:=by simpa using hb
   subst z;exact⟨_,md _ e2 (og (jF hd _))⟩
  .have z:e≠b:=λy=>hb (by simp[y]);rw[kH _ _ z];exact bQ _ ((so.2.1 b hf).trans q)
  .have z:e≠b:=λy=>hb (by simp[y]);obtain⟨sl,y⟩:=so.2.2 b o q;refine⟨sl,?_⟩;rw[kH _ _ z];exact bQ _ y
 .have hT:=jk dR;have hs:=so.1;have d3:=jF hd (·.setIfInBounds 1 (Value.ref g1.objs.size));refine⟨_,_,md _ e2 (og d3),(wJ _ _).trans hc,d3,‹hz›,hn,hy,.inr ⟨g1.objs.size,ob,_,rawInt L,by simp[hz],hT,?_,by rw[<-hob],?_,?_,?_⟩⟩
  .rw[kH _ _ (c6 hT)];refine bw _ ?_;rw[<-hob];rfl
  .simp
  .rw[hs];exact I.bL.fresh (aL _)
  .rw[hs];exact I.young (Heap.get?_none_of_le (aL _))
def DI(I:Inv X [] σ H s)(vv:X.pn=[])(p6:X.stack=Pq::out)(h1:Pq.frame=some L)(h0:Dm.frame=some L)(F:Gd (lM X) H s.heap e cls tr)(k:∀h',Inv X [] σ H {s with heap:=h'}->Gd (lM X) H h' e cls true->Q Unit.unit {s with heap:=h'}):wpAny (model X.prog X.w) X.A (noteFrame (.ref e) Dm) Q E s:=by
 obtain⟨oe,vs,he,hc,hd,hz,hn,hy,hT⟩:=F;unfold noteFrame;simp only[h0];obtain⟨_,hv⟩|⟨T,oT,ts,x,hv,gU,hT,Sh,h3,hnT,hyT⟩:=hT
 .refine aj (fG he hd hv ?_);exact Ge I vv p6 h1 h0 he hc hd hz hn hy k
 .refine aj (fG he hd hv ?_);refine aj (fG hT Sh h3 ?_);by_cases hx:(x==rawInt L)=true
  .rw[ag hx];exact ay (k s.heap I ⟨oe,vs,he,hc,hd,hz,hn,hy,.inr ⟨T,oT,ts,x,hv,gU,hT,Sh,h3,hnT,hyT⟩⟩)
  .rw[af hx];refine aj (mq hT Sh (Array.getElem?_eq_some_iff.mp h3).1 ?_);have I1:Inv X [] σ H {s with heap:=s.heap.update T (Obj.mapFields (·.setIfInBounds 3 Value.none))} :=by
    refine I.chg (ch:=[T]) vv (λb hb=>?_) (λb hb=>?_) (λb o hf hb q=>?_) (λb o hf hb q=>⟨o.slots,?_⟩)
    .have z:b=T:=by simpa using hb
     subst z;exact⟨hnT,hyT,oT,ts,hT,Sh⟩
    .have z:b=T:=by simpa using hb
     subst z;exact⟨_,md _ hT (og (jF Sh _))⟩
    .rw[kH _ _ (λy:T=b=>hb (by simp[y]))];exact q
    .rw[kH _ _ (λy:T=b=>hb (by simp[y]))];exact q
   have he1:(s.heap.update T (Obj.mapFields (·.setIfInBounds 3 Value.none))).get? e=some oe:=(kH _ _ gU).trans he;exact Ge I1 vv p6 h1 h0 he1 hc hd hz hn hy k
def lN(I:Inv X [] σ H s)(vv:X.pn=[])(F:Gd (lM X) H s.heap e cls tr)(k:∀h',Inv X [] σ H {s with heap:=h'}->Gd (lM X) H h' e cls tr->Q Unit.unit {s with heap:=h'}):wpAny (model X.prog X.w) X.A (setFlight (.ref e) fr) Q E s:=by
 obtain⟨oe,vs,he,hc,hd,hz,hn,hy,hT⟩:=F;obtain⟨ht,hv⟩|⟨T,oT,ts,x,hv,gU,hT,Sh,h3,hnT,hyT⟩:=hT
 .refine aj (fG he hd hv ?_);exact ay (k s.heap I ⟨oe,vs,he,hc,hd,hz,hn,hy,.inl ⟨ht,hv⟩⟩)
 .refine aj (fG he hd hv ?_);have hz3:=(Array.getElem?_eq_some_iff.mp h3).1;generalize(fr.elim Value.none λf=>rawInt f)=v;refine mq hT Sh hz3 (k _ ?_ ?_)
  .refine I.chg (ch:=[T]) vv (λb hb=>?_) (λb hb=>?_) (λb o hf hb q=>?_) (λb o hf hb q=>⟨o.slots,?_⟩)
   .have z:b=T:=by simpa using hb
    subst z;exact⟨hnT,hyT,oT,ts,hT,Sh⟩
   .have z:b=T:=by simpa using hb
    subst z;exact⟨_,md _ hT (og (jF Sh _))⟩
   .rw[kH _ _ (λy:T=b=>hb (by simp[y]))];exact q
   .rw[kH _ _ (λy:T=b=>hb (by simp[y]))];exact q
  .have d3:=jF Sh (·.setIfInBounds 3 v);exact⟨oe,vs,(kH _ _ gU).trans he,hc,hd,hz,hn,hy,.inr ⟨T,_,_,v,hv,gU,md _ hT (og d3),d3,by simp[hz3],hnT,hyT⟩⟩
end
def XR(X:Cx)(E:XK):Prop:=∀(σ:St)(H:Hp)(s:Shared)(e:Addr)(cls:Value),Inv X [] σ H s->Gd (lM X) H s.heap e cls false->E cls none H->X.xe (.ref e) s
def fW(P:Program)(w:World):Oj:=λouter H s E e s'=>∃a H' cls,e=.ref a/\s'.os=s.os/\AllBare s'.gens/\Un (Fn outer) [] H H' s.heap s'.heap/\mG P w H' s'.heap/\Gd (λb=>s.heap.get? b=none) H' s'.heap a cls false/\E cls none H'
def aH{E:XK}:
  XR (kb (fW P w) P w K mg base N qual scope f cd A outer s H E) E:=by
 intro σ H' s' e cls I F hE;show wpAny _ _ (leaving _ (.ref e)) _ _ s';refine aj (DI I rfl rfl rfl rfl F λg1 I1 F1=>lN I1 rfl F1.weak λg2 I2 F2=>?_);refine⟨e,H',cls,rfl,I2.os,I2.bare,I2.base,I2.bL,F2.mono λb hb=>?_,hE⟩;obtain z|z:=hb
 .exact absurd (show b∈([]:List Addr)from z) ∅
 .exact z
def aW{E:XK}(xr:XR X E):Passes (fW X.prog X.w) X E:=by
 rintro pins σ H s e s' I ⟨a,H',cls,rfl,os,bare,un,bL,F,hE⟩;have I0:Inv X [] σ H s:=I.mH λp hp=>absurd hp ∅;have I1:=I0.Oy (ch:=[]) os un bL bare λb hb=>absurd hb ∅;exact xr σ H' s' a cls I1 (F.mono λb hb=>I0.young hb) hE
def KR{mg:Str->Option Value}(X:K.In h)(q:PySem.W.excIn K C Xx newId=true):
  ∃bm N nm qn bs hdct sn sub ab col dd k0 k1 k2 k3 k5 mN,h.get? C=some (excClassObj nm qn C N bs bm hdct sn sub ab col dd k0 k1 k2 k3 k5 newId)/\h.Ns N mN/\mN "__init__"=none/\OwnTail h Xx bm:=by
 unfold PySem.W.excIn at q;split at q
 .rename_i dd cd sl ho;split at q
  .rename_i C' bm k0 k1 k2 k3 n k5 hm hs;simp only[Bool.and_eq_true,beq_iff_eq,Bool.not_eq_true']at q;obtain⟨⟨⟨⟨⟨e1,e2⟩,adz⟩,ht⟩,bL⟩,hni⟩:=q;obtain⟨nm,bs,mro,ns,qn,hd,sn,sub,ab,col,del⟩:=cd;subst hm adz e1 e2;obtain⟨l⟩:=sl;subst hs;exact⟨bm,ns,nm,qn,bs,hd,sn,sub,ab,col,dd,k0,k1,k2,k3,k5,_,X _ _ ho,.of_isNs (PySem.W.isNs_of_in X bL),PySem.W.nsMap_none_of_in X bL hni,PySem.W.tail_of_in X ht⟩
  .cases q
 .cases q
def IG(t:TA)(E:XK)(C:Addr):TS:=λ_ σ H=>t σ H λvs H1=>vs.length<=sizeLine/\E (.ref C) none H1
def Gf{E:XK}{C:Addr}{Xx:List Value}{newId Xy B:String}{e₀:Expr}{rest:List Expr}{t:TA}{np eE pos:Pos}(xr:XR X E)(hc:X.calm=true)(hg:Gl X x)(hm:X.mg x=some (.ref C))(q:PySem.W.excIn X.K C Xx newId=true)(FB:ExcBaseFacts B newId Xy Xx)(ha:PA X (e₀::rest) t)(BH:(x==("__debug__":Str))=false:=by decide)(he:starEach (e₀::rest) X.env=(false,eval e₀ X.env)::starEach rest X.env:=by rfl)(iG:(backTo eE (starEach rest X.env)).any (·.1)=false:=by rfl):
  PS X (.Raise (some (.Call (.Name x np) (e₀::rest) [] eE)) none pos) (IG t E C):=by
 intro pins s σ H D I h;obtain⟨bm,N,nm,qn,bs,hdct,sn,sub,ab,col,dd,k0,k1,k2,k3,k5,mN,hC,hN,hni,TL⟩:=KR (mg:=X.mg) I.ok.mod.SY q;have fB:(backTo eE (starEach (e₀::rest) X.env)).any (·.1)=false:=by
  rw[he];show(false||(backTo eE (starEach rest X.env)).any (·.1))=false;rw[iG];rfl
 refine wpAny_Raise_call_subT (C:=C) (nm:=nm) (q:=qn) (N:=N) (bs:=bs) (hdct:=hdct) (sn:=sn) (sub:=sub) (ab:=ab) (col:=col) (dd:=dd) (k0:=k0) (k1:=k1) (k2:=k2) (k3:=k3) (k5:=k5) FB (mN:=mN) (TL.hasType FB.hasBase) (I.ok.hd hc) fB hni (pZ I hg hm ⟨rfl,?_⟩ BH);have hs:=ha eE pins s σ H _ I h;rw[he]at hs⊢;refine sq (cJ hs λvs s2 ⟨xs,H2,I2,r2,hl,hE⟩=>⟨rfl,by rw[<-r2.length];exact hl,I2.bk _ _ hC,hN.keeps I2.bk,TL.keeps I2.bk,λh' ex hx=>?_⟩);have I3:Inv X [] σ H2 {s2 with heap:=h'} :=(I2.kept hx.keeps).mH λp hp=>absurd hp ∅;obtain⟨tp,ht,_,_⟩:=hx.there;refine xr σ H2 {s2 with heap:=h'} ex (.ref C) I3 ⟨_,_,ht,rfl,rfl,by show 1<6;decide,?_,?_,.inl ⟨rfl,rfl⟩⟩ hE
 .cases z:H2 ex with
  |none=>rfl
  |some o=>
   obtain⟨u,y⟩:=I2.bL.there z;rw[hx.new]at y;cases y
 .exact(I2.mH λp hp=>absurd hp ∅).young hx.new
def KQ.B9(F:KQ K x qual st f fd)(S:aE N ps (ao st))(len:∀vs H Q E,sp vs H Q E->vs.length=ps.length)(gv:∀b9 A outer s H vs Q E,dY k (A.deeper (envOfC qual (ao st) s.heap.objs.size f b9))->sp vs H Q E->
   ∃t,vS (kb (fW P w) P w K mg base N qual (ao st) f b9 A outer s H E) (ck st) t/\t {nx:=λ_ H'=>Q .cV H',rt:=Q} (start N vs) H):nZ P w K mg base (fW P w) (k+1) f fd ps sp:=by
 obtain⟨oc,od,kV,doc,pm,an,b9,ct,Im,rfl,lk,AK⟩:=F.ex;exact Vz lk AK S len λA outer s H vs Q E hr AO=>gv b9 A outer s H vs Q E hr AO
def xeB(Y:Cx)(E:XK):Value->Shared->Prop:=λv s'=>∃e σ' H' cls,v=.ref e/\Inv Y [] σ' H' s'/\Gd (lM Y) H' s'.heap e cls false/\E cls none H'
noncomputable abbrev Cx.qG(X:Cx)(E:XK)(s:Shared)(H:Hp)(scope:Scope)(gk:Env)(fp:List Addr):Cx:=(X.Iy s H scope gk fp).qF (xeB (X.Iy s H scope gk fp) E)
def IH{E:XK}:XR (X.qG E s H scope gk fp) E:=λσ H' s' e cls I F hE=>⟨e,σ,H',cls,rfl,I.eZ,F,hE⟩
section
def Gg{E:XK}{Q:VK}(vv:X.pn=[])(p6:X.stack=X.env::X.outer)(Fq:X.env.frame=some X.env.locals)(xr:XR X E)(hc:X.calm=true)(hN:X.N.Nodup)(I:Inv X pins σ H s)(hi:PI X tg iter wi)(ok:yt X.N X.env.scope scope own)(hg:∀s H C cl fp,PG (X.qG E s H scope (compEnvC scope cl C X.env) fp) tg g)(ht:∀s H C cl fp,Xf (X.qG E s H scope (compEnvC scope cl C X.env) fp) ifs tt)(he:∀s H C cl fp,PE (X.qG E s H scope (compEnvC scope cl C X.env) fp) elt te)(hs:∀x,foldedSetIterable iter X.env x=pure x)(h:Za wi g tt te (own.map (·.2)) σ H Q)(hRR:∀D C s' m H',Inv X pins σ H' s'->Q (.ref D) H'->s'.heap.Ns C m->vT X pins H' C->compPost (model X.prog X.w) X.A X.xe use Qf (.ref D) C (.ok .next) s'):
  wpAny (model X.prog X.w) X.A (comprehension (.ListComp elt [⟨tg,iter,ifs,0⟩] scope pos) scope X.env pos' (newList []) false (eval iter X.env) use) Qf X.xe s:=by
 have vh:∀y∈scope.names,y.2=.free->∃c,X.env.cells.lookup y.1=some c:=λy hy e=>by
  obtain k|k:=ok.free y hy e
  .exact I.ok.has _ (.inl k)
  .exact I.ok.has _ (.inr k)
 refine wpAny_comprehension_free rfl hs (Iw vh) ok.kind (λy hy e=>by rw[ok.uniq y hy,e])
  (cJ (hi pins s σ H _ I h) λxv s1 hx=>cJ hx λitv s2 h2=>?_)
 obtain⟨it,fp,tn,J,H2,e,I2,T,st2,f2,q⟩:=h2;subst e;refine jG (FO ?_) (by show 0<=sizeLine;decide);generalize hD:s2.heap.objs.size=D;have hDn:=I2.bL.fresh (sL hD);obtain⟨W,⟨m0,w0⟩,turn⟩:=q D hDn;generalize hs3:({s2 with heap:=s2.heap.push {cls:=.type "list",data:=.seq ([]:List Value).toArray}} :Shared)=s3;have I3:Inv X pins σ (upd H2 D (.lst [])) s3:=by
  rw[<-hs3];refine I2.laid (λb o e=>bQ _ e) (sL hD) ⟨cz _,[],0,.nil,?_⟩;rw[<-hD];exact bw _ rfl
 have h3:s3.heap=s2.heap.push {cls:=.type "list",data:=.seq ([]:List Value).toArray} :=by rw[<-hs3]
 have sz:∀b∈fp,b<s2.heap.objs.size:=λb hb=>by
  obtain⟨o,e,_⟩:=T.obj _ _ st2 b hb;exact aN e
 have f3:∀b∈fp,vT X pins (upd H2 D (.lst [])) b/\b<s3.heap.objs.size:=λb hb=>by
  have dR:=sz b hb;refine⟨⟨?_,(f2 b hb).2⟩,by rw[h3,dW];exact mj dR⟩;rw[aB (by rw[<-hD];exact bB dR)];exact(f2 b hb).1
 have st3:tn 0 s3.heap:=T.keep _ _ _ st2 λb _ o e=>by rw[h3];exact bQ _ e
 have I4:=FP I3 ok hN f3;have pg:=hg s3 (upd H2 D (.lst [])) s3.heap.objs.size (cellsFrom (s3.heap.objs.size+1) scope.names (cv X.env.cells scope.names [])) fp;have pt:=ht s3 (upd H2 D (.lst [])) s3.heap.objs.size (cellsFrom (s3.heap.objs.size+1) scope.names (cv X.env.cells scope.names [])) fp;have pe:=he s3 (upd H2 D (.lst [])) s3.heap.objs.size (cellsFrom (s3.heap.objs.size+1) scope.names (cv X.env.cells scope.names [])) fp;show codeAny _ _ (.compStart (.ListComp elt [⟨tg,iter,ifs,0⟩] scope pos) 0 (.ref it) (.ref D) (compEnvC scope (cellsFrom (s3.heap.objs.size+1) scope.names (cv X.env.cells scope.names [])) s3.heap.objs.size X.env)) (compPost (model X.prog X.w) X.A X.xe use Qf (.ref D) s3.heap.objs.size) {s3 with heap:=pushCells (s3.heap.push {cls:=.type "dict",data:=.dict #[]}) scope.names};have nfp:=λb hb=>(f3 b hb).1.1;generalize hce:compEnvC scope (cellsFrom (s3.heap.objs.size+1) scope.names (cv X.env.cells scope.names [])) s3.heap.objs.size X.env=ce at I4 pg pt pe⊢;have cL:ce.locals=s3.heap.objs.size:=by subst hce;rfl
 generalize hH3:upd H2 D (.lst [])=H3 at I3 I4 pg pt pe w0 nfp f3;generalize hs4:({s3 with heap:=pushCells (s3.heap.push {cls:=.type "dict",data:=.dict #[]}) scope.names} :Shared)=s4 at I4⊢;have cF:ce.frame=X.env.frame:=by subst hce;rfl
 have Xz:∀v s',xeB (X.Iy s3 H3 scope ce fp) E v s'->notedBy (model X.prog X.w) X.A ce (λe s'=>compPost (model X.prog X.w) X.A X.xe use Qf (.ref D) s3.heap.objs.size (.error e) s') v s':=by
  rintro v s' ⟨e,σ',H',cls,rfl,I',F',hE⟩;refine DI (X:=X.Iy s3 H3 scope ce fp) I' rfl p6 Fq (cF.trans Fq) F' λg1 I1 F1=>?_;obtain⟨m,hn,_⟩:=I1.loc;rw[cL]at hn;have J7:=I3.Oy (ch:=fp) I1.os I1.base I1.bL I1.bare λb hb=>⟨(f3 b hb).1.2.2.2.1,(f3 b hb).1.2.1,(f3 b hb).1.2.2.2.2.1,(f3 b hb).1.2.2.2.2.2⟩;have nC:H' s3.heap.objs.size=none:=by
   have z:=I1.free;rw[cL]at z;exact z
  obtain⟨f0,f1,f2',f3',f4,f5⟩:=I3.Di (aL _) nC;have yg:∀b,lM (X.Iy s3 H3 scope ce fp) b->lM X b:=λb hb=>by
   obtain z|z:=hb
   .obtain y|y:=(f3 b z).1.2.2.2.1
    .exact .inl y
    .exact .inr (Heap.get?_none_of_le y)
   .exact(I3.mH λp hp=>absurd hp ∅).young z
  have key:∃m,g1.Ns s3.heap.objs.size m/\∀h',Heap.SameBut s3.heap.objs.size g1 h'->∀gk:Env,gk.locals=s3.heap.objs.size->wpAny (model X.prog X.w) X.A (PySem.passOn "comprehension.variables-let-go" (.ref e) gk:Sem Value) (λ_ _=>False) X.xe {s' with heap:=h'} :=by
   refine⟨m,hn,λg2 sb aev _=>?_⟩;have J8:=J7.turned (t':=s'.toks) (λb o hb q=>(sb.2 b hb).trans q) f0 f1 f3' f4 f5;have J9:Inv X [] σ H' {s' with heap:=g2} :=J8.mH λp hp=>absurd hp ∅;have F9:=(F1.mono yg).keeps λb o vs q d=>by
    refine(sb.2 b λz=>?_).trans q;obtain⟨oC,es,ep,qC,dC,_⟩:=hn;rw[z]at q;rw[qC]at q;cases q;rw[dC]at d;cases d
   obtain⟨oe,vs,F6,Vt,Ib,Fs,hn',MD,hT'⟩:=id F9;obtain⟨z,_⟩|⟨T',oT',ts',x',hv',_⟩:=hT'
   .cases z
   .refine aj (fG F6 Ib hv' ?_)
    first
     |exact aj (lN J9 vv F9 λg3 J10 F10=>sQ (xr σ H' _ e cls J10 F10.weak hE))|exact aj (ay (aj (lN J9 vv F9 λg3 J10 F10=>sQ (xr σ H' _ e cls J10 F10.weak hE))))
  cases use<;>exact key
 have st4:tn 0 s4.heap:=T.keep _ _ _ st3 λb _ o e=>by rw[<-hs4];exact wW _ _ _ _ (bQ _ e)
 have stat:∀{σ':St}{H':Hp}{s':Shared},Inv (X.Iy s3 H3 scope ce fp) [] σ' H' s'->(∀b∈fp,H' b=none)->∀b∈fp,vT (X.Iy s3 H3 scope ce fp) [] H' b:=λ{σ' H' s'} I' hn b hb=>
  ⟨hn b hb,(I'.ok.YZ b hb).1,I'.ok.Ia b hb,.inl hb,λx c e=>(I'.ok.YZ b hb).2 x c e,λp hp=>absurd (show p∈([]:List (Addr×Obj))++ []from hp) ∅⟩
 have loop:codeAny (model X.prog X.w) X.A (.compLoop (.ListComp elt [⟨tg,iter,ifs,0⟩] scope pos) 0 (.ref it) (.ref D) ce) (compPost (model X.prog X.w) X.A X.xe use Qf (.ref D) s3.heap.objs.size) s4:=by
  refine Dx (λn s'=>∃i H',Inv (X.Iy s3 H3 scope ce fp) [] (wipe σ (own.map (·.2))) H' s'/\tn i s'.heap/\(∀b∈fp,H' b=none)/\W i n H') ?_ m0 ⟨0,H3,I4,st4,nfp,w0⟩;rintro n s5 ⟨i,H5,I5,Y0,n5,w5⟩;obtain⟨stop,qq⟩|⟨go,Nx,hNx,step⟩:=turn i n H5 w5
  .have td:=T.done (X.Iy s3 H3 scope ce fp) rfl rfl rfl hc i [] s5 _ H5 (λ_ _=>False) I5 (stat I5 n5) Y0 stop;refine Xg td λr s6 zq1=>?_;obtain⟨hr,I6⟩:=zq1;subst hr;have I7:=I3.Oy (ch:=fp) I6.os I6.base I6.bL I6.bare λb hb=>⟨(f3 b hb).1.2.2.2.1,(f3 b hb).1.2.1,(f3 b hb).1.2.2.2.2.1,(f3 b hb).1.2.2.2.2.2⟩;have nC:H5 s3.heap.objs.size=none:=by
    have z:=I6.free;rw[cL]at z;exact z
   obtain⟨m,hn,_⟩:=I6.loc;rw[cL]at hn;exact hRR D s3.heap.objs.size s6 m H5 I7 qq hn (I3.Di (aL _) nC)
  .have ti:=T.item (X.Iy s3 H3 scope ce fp) rfl rfl rfl hc i [] s5 _ H5 (λ_ _=>False) I5 (stat I5 n5) Y0 go;refine Xg ti λr s6 zq2=>?_;obtain⟨u,hr,h6⟩:=zq2;subst hr;refine Xg h6 λ_ s7 zq3=>?_;obtain⟨x,H7,I7,r7,y7,st7,n7⟩:=zq3;have I7':=I7.pinned (stat I7 n7) (T.obj _ _ st7);refine da (pg _ s7 _ H7 x u _ (I7'.qF _) r7 (step x H7 y7)) (λ_ s8 zq4=>?_) Xz;obtain⟨σ8,H8,I8,hw8,q8⟩:=zq4;refine da (pt _ s8 σ8 H8 _ I8 q8) (λb s9 zq5=>?_) Xz;obtain⟨H9,I9w,q9⟩:=zq5;have I9:=I9w.eZ;have fin:∀{s':Shared}{H':Hp},Inv (X.Iy s3 H3 scope ce fp) ([] ++yl fp s7.heap) σ8 H' s'->Nx H'->∃m,m<n/\∃i H',Inv (X.Iy s3 H3 scope ce fp) [] (wipe σ (own.map (·.2))) H' s'/\tn i s'.heap/\(∀b∈fp,H' b=none)/\W i m H':=λ{s' H'} I' nx=>by
    obtain⟨m',hm,w'⟩:=hNx H' nx;have aat:∀b∈fp,∀o,s7.heap.get? b=some o->s'.heap.get? b=some o/\H' b=none:=λb hb o e=>
     let z:=I'.pin (b,o) (mm _ (mm _ (rk hb e)))
     ⟨z.1,z.2.1⟩
    have hl:(wipe σ (own.map (·.2))).length=σ8.length:=by rw[<-hw8,oz]
    refine⟨m',hm,i+1,H',(I'.sS).weak hl (λj v e=>?_),T.keep _ _ _ st7 λb hb o e=>(aat b hb o e).1,λb hb=>?_,w'⟩
    .rw[<-hw8]at e;exact(uA e).1
    .obtain⟨o,e,_⟩:=T.obj _ _ st7 b hb;exact(aat b hb o e).2
   cases b with
   |false=>
    exact fin I9 q9
   |true=>
    refine da (pe _ s9 σ8 H9 _ I9w q9) (λz s10 zq6=>?_) Xz;obtain⟨yv,H10,I10,r10,acc,adA,adB,nx⟩:=zq6;exact Xe (X:=X.Iy s3 H3 scope ce fp) I10.eZ adA adB r10 λs11 I11=>fin I11 nx
 exact codeAny_compStart_list loop (T.self X.A 0 _ _ _ st4 loop)
def II{E:XK}{pos:Pos}(vv:X.pn=[])(p6:X.stack=X.env::X.outer)(Fq:X.env.frame=some X.env.locals)(xr:XR X E)(hc:X.calm=true)(hN:X.N.Nodup)(hi:PI X tg iter wi)(ok:yt X.N X.env.scope scope own)(hg:∀(s:Shared)(H:Hp)(C:Addr)(cl:List (Str×Addr))(fp:List Addr),PG (X.qG E s H scope (compEnvC scope cl C X.env) fp) tg g)(ht:∀(s:Shared)(H:Hp)(C:Addr)(cl:List (Str×Addr))(fp:List Addr),Xf (X.qG E s H scope (compEnvC scope cl C X.env) fp) ifs tt)(he:∀(s:Shared)(H:Hp)(C:Addr)(cl:List (Str×Addr))(fp:List Addr),PE (X.qG E s H scope (compEnvC scope cl C X.env) fp) elt te)(hs:∀x,foldedSetIterable iter X.env x=pure x:=by intro _;rfl):
  PE X (.ListComp elt [⟨tg,iter,ifs,0⟩] scope pos) (Za wi g tt te (own.map (·.2))):=by
 intro pins s σ H Q I h;refine Gg vv p6 Fq xr hc hN I hi ok hg ht he hs h λD C s' m H' I' q hn f=>⟨m,hn,λO9 sb=>?_⟩;obtain⟨f0,f1,f2,f3,f4,f5⟩:=f;exact⟨.ref D,H',I'.turned (λb o hb e=>(sb.2 b hb).trans e) f0 f1 f3 f4 f5,rfl,q⟩
def B_{E:XK}{y:Str}{py:Pos}{Pr:Pos}(vv:X.pn=[])(p6:X.stack=X.env::X.outer)(Fq:X.env.frame=some X.env.locals)(xr:XR X E)(hc:X.calm=true)(hN:X.N.Nodup)(hy:X.N[i]?=some y)(Zb:X.env.scope.names.lookup y=some .local)(hsw:swapsWith (.ListComp elt [⟨tg,iter,ifs,0⟩] scope pos) (some (.Name y py)) Pr.line X.env=pure true)(hi:PI X tg iter wi)(ok:yt X.N X.env.scope scope own)(hg:∀(s:Shared)(H:Hp)(C:Addr)(cl:List (Str×Addr))(fp:List Addr),PG (X.qG E s H scope (compEnvC scope cl C X.env) fp) tg g)(ht:∀(s:Shared)(H:Hp)(C:Addr)(cl:List (Str×Addr))(fp:List Addr),Xf (X.qG E s H scope (compEnvC scope cl C X.env) fp) ifs tt)(he:∀(s:Shared)(H:Hp)(C:Addr)(cl:List (Str×Addr))(fp:List Addr),PE (X.qG E s H scope (compEnvC scope cl C X.env) fp) elt te)(hs:∀x,foldedSetIterable iter X.env x=pure x:=by intro _;rfl):
  PS X (.Assign [.Name y py] (.ListComp elt [⟨tg,iter,ifs,0⟩] scope pos) Pr) (OH (Za wi g tt te (own.map (·.2))) (oq i)):=by
 intro pins s σ H D I h;rw[exec_Assign_Name_used _ _ _ _ hsw];refine aj (wpAny_standAt (aj ?_));refine aj (cJ (Gg vv p6 Fq xr hc hN I hi ok hg ht he hs h λL C s' m H' I' q hn f=>?_) λ_ s' hq=>ay (ay hq));refine wpAny_assign_Name (Bv (v:=V.ref L) I' hN hy (.inl Zb) rfl (λs2 I2 zq7=>?_) (.inr Zb));obtain⟨a,sb,ha⟩:=zq7;obtain⟨f0,f1,f2,f3,f4,f5⟩:=f;have haC:C≠a:=by
  obtain z|z:=ha
  .rw[z];exact f1
  .exact λe=>f4 y a z e.symm
 refine⟨m,hn.sameBut sb haC,λh3 sb3=>?_⟩;exact⟨_,H',I2.turned (λb o hb e=>(sb3.2 b hb).trans e) f0 f1 f3 f4 f5,q⟩
end
def PS0(X:Cx)(st:Stmt)(t:TS):Prop:=∀(s:Shared)(σ:St)(H:Hp)(D:Ends),Inv X [] σ H s->t D σ H->wpAny (model X.prog X.w) X.A (exec st X.env) (SP X [] D) X.xe s
def DJ(X:Cx)(st:List Stmt)(t:TS):Prop:=∀(s:Shared)(σ:St)(H:Hp)(D:Ends),Inv X [] σ H s->t D σ H->wpAny (model X.prog X.w) X.A (execs st X.env) (SP X [] D) X.xe s
def PS.ps0{t:TS}(h:PS X st t):PS0 X st t:=λs σ H D I q=>h [] s σ H D I q
def vS.adC{st:List Stmt}{t:TS}(h:vS X st t):DJ X st t:=λs σ H D I q=>h [] s σ H D I q
def uC{rest:List Stmt}{t u:TS}(h1:PS0 X st t)(h2:DJ X rest u):DJ X (st::rest) (S5 t u):=by
 intro s σ H D I h;refine wpAny_execs_cons (cJ (h1 s σ H {D with nx:=u D} I h) λf s1 q=>?_);cases f with
 |next=>
  obtain⟨σ',H',I',q⟩:=q;exact h2 s1 σ' H' D I' q
 |ret v=>exact q|brk=>exact q
 |cont=>exact q
noncomputable abbrev Cx.lO(X:Cx)(e:Value)(xe:Value->Shared->Prop):Cx:= {X with A:=X.A.mark (some e),calm:=false,xe:=xe}
theorem Inv.lO(I:Inv X pins σ H s) e xe:Inv (X.lO e xe) pins σ H s:=
 ⟨⟨I.ok.mod,I.ok.kind,I.ok.glob,I.ok.blt,I.ok.above,I.ok.inj,I.ok.has,I.ok.Wr,λz=>Bool.noConfusion z,I.ok.frames,I.ok.YY,I.ok.YZ,I.ok.bs,I.ok.Mt,I.ok.H_,I.ok.Ia,I.ok.rh,I.ok.Sb⟩,I.os,I.bare,I.base,I.loc,I.cell,I.free,I.iO,I.pin,I.bL,I.len⟩
def Inv.mK{e:Value}(I:Inv (X.lO e xe) pins σ H s)(ok:X.Ok):Inv X pins σ H s:=
 ⟨ok,I.os,I.bare,I.base,I.loc,I.cell,I.free,I.iO,I.pin,I.bL,I.len⟩
theorem SP.mK{D:Ends}{f:Flow}{e:Value}(h:SP (X.lO e xe) pins D f s')(ok:X.Ok):SP X pins D f s':=by
 cases f with
 |next=>obtain⟨σ',H',I,q⟩:=h;exact⟨σ',H',I.mK ok,q⟩
 |brk=>obtain⟨σ',H',I,q⟩:=h;exact⟨σ',H',I.mK ok,q⟩
 |cont=>obtain⟨σ',H',I,q⟩:=h;exact⟨σ',H',I.mK ok,q⟩
 |ret u=>obtain⟨v,σ',H',I,r,q⟩:=h;exact⟨v,σ',H',I.mK ok,r,q⟩
def adD(C:Addr)(tb:XK->TS)(th:TS):TS:=λD σ H=>∃E:XK,tb E D σ H/\∀(σ':St)(H':Hp)(cls:Value)(d:Option Addr),E cls d H'->cls=.ref C/\th D σ' H'
def KS{C:Addr}{Xx:List Value}{newId:String}{body lO:List Stmt}{b0:Stmt}{tb:XK->TS}{th:TS}{np adE pos:Pos}(vv:X.pn=[])(p6:X.stack=X.env::X.outer)(Fq:X.env.frame=some X.env.locals)(hg:Gl X x)(hm:X.mg x=some (.ref C))(q:PySem.W.excIn X.K C Xx newId=true)(jO:Xx.contains (.type "BaseException")=true)(hb:∀(E:XK)(xe:Value->Shared->Prop),XR (X.qF xe) E->vS (X.qF xe) body (tb E))(hs:∀(e:Value)(xe:Value->Shared->Prop),vS (X.lO e xe) (b0::lO) th)(BH:(x==("__debug__":Str))=false:=by decide):
  PS0 X (.Try body [.ExceptHandler (some (.Name x np)) none (b0::lO) adE] [] [] pos) (adD C tb th):=by
 intro s σ H D I h;obtain⟨E,h1,h2⟩:=h;refine wpAny_Try_except ?_;have run:=hb E (xeB X E) (λσ' H' s' e cls I' F' hE=>⟨e,σ',H',cls,rfl,I'.eZ,F',hE⟩) [] s σ H D (I.qF _) h1;refine da run (λf s1 z=>?_) λv s1 z=>?_
 .cases f with
  |next=>exact wV (SP.eZ z)|ret u=>exact SP.eZ z
  |brk=>exact SP.eZ z|cont=>exact SP.eZ z
 .obtain⟨e,σ',H',cls,rfl,I1,F1,hE⟩:=z;obtain⟨rfl,hth⟩:=h2 σ' H' cls none hE;refine DI I1 vv p6 Fq Fq F1 λg1 I2 F2=>lN I2 vv F2 λg2 I3 F3=>?_;refine wpAny_handleBy_cons (codeAny_handlers_test (pZ (X:=X.lO (.ref e) λ_ _=>False) (I3.lO _ _) hg hm ?_ BH)) (by intro y;cases y);obtain⟨bm,N,nm,qn,bs,hdct,sn,sub,ab,col,dd,k0,k1,k2,k3,k5,mN,hC,hN,hni,TL⟩:=KR (mg:=X.mg) I.ok.mod.SY q;obtain⟨oe,vs,he,hc,_⟩:=id F3;refine wpAny_excMatches_sub_self (I3.bk _ _ hC) he hc (TL.hasType jO) (codeAny_handlers_suite ?_);refine lN (X:=X.lO (.ref e) λ_ _=>False) (I3.lO _ _) vv F3 λg3 I4 F4=>?_;have vV:=hs (.ref e) (notedBy (model X.prog X.w) (X.A.mark (some (.ref e))) X.env λx s₂=>cameBackBy (model X.prog X.w) X.A X.env X.xe x s₂) [] _ σ' H' D ((I4.mK I.ok).lO (.ref e) _) hth;exact da vV (λf s5 z=>z.mK I.ok) λv s5 z=>z
def XA{dV kV doc b9 oc:Value}(lk:K.lookup f=some ⟨oc,od,.func (PySem.W.fnOf name qual params body scope dV kV doc pm an b9 ct),Im⟩)(AK:PySem.W.codeIn K b9 qual=true)(S:aE N ps scope)(len:∀vs H Q E,sp vs H Q E->vs.length=ps.length)(gv:∀A outer s H vs Q E,dY k (A.deeper (envOfC qual scope s.heap.objs.size f b9))->sp vs H Q E->
   ∃t,DJ (kb CX P w K mg base N qual scope f b9 A outer s H E) body t/\t {nx:=λ_ H'=>Q .cV H',rt:=Q} (start N vs) H):
  nZ P w K mg base CX (k+1) f (PySem.W.fnOf name qual params body scope dV kV doc pm an b9 ct) ps sp:=by
 refine⟨len,λA outer s H args us vs Q E hr e0 hb r AO=>?_⟩;have hl:=len _ _ _ _ AO;have KX:=e0.mod.SY.keeps λb o e=>(e0.bs b o e).1;have lim:=e0.mod.nolimit.keeps λb o e=>(e0.bs b o e).1;have FJ:∀y∈ps.zip us,scope.names.lookup y.1=some .local\/(scope.names.lookup y.1=some .cell/\((cellsFrom (s.heap.objs.size+1) scope.names []).lookup y.1).isSome=true):=λ⟨n,v⟩ hy=>by
  obtain q|q:=S.par n (mE hy).1
  .exact .inl q
  .exact .inr ⟨q,wq _ _ _ (.inl q)⟩
 refine codeAny_call_function hr.depth (KX _ _ lk) rfl S.co S.gen rfl (PySem.W.codeRec_of KX AK) (hb _ _ _ _ ?_);refine wpAny_newFunctionEnv_cells S.kind FJ λenv he s1 x=>?_;subst he;refine⟨lim.keeps x.toInCall.keep,codeAny_func ?_⟩;obtain⟨t,ht,hq⟩:=gv A outer s H vs Q E (hr.deeper _) AO;have I:Inv (kb CX P w K mg base N qual scope f b9 A outer s H E) [] (start N vs) H s1:=uv S hr.hd e0 hl r x;refine da (ht s1 (start N vs) H _ I hq) (λfl s' hs=>?_) λe s' hs=>hs;have fin:∀{σ':St}{H':Hp}{v:V}{u:Value},Inv (kb CX P w K mg base N qual scope f b9 A outer s H E) [] σ' H' s'->RelV v u->Q v H'->CE outer P w H s Q u s':=
  λ{σ' H' v u} J rv q=>⟨v,H',J.os,J.bare,J.base,J.bL,rv,q⟩
 cases fl with
 |ret u=>
  obtain⟨v,σ',H',J,rv,q⟩:=hs;exact fin J rv q
 |next=>
  obtain⟨σ',H',J,q⟩:=hs;exact fin (v:=V.cV) J rfl q
 |brk=>
  obtain⟨_,_,_,q⟩:=hs;exact False.elim q
 |cont=>
  obtain⟨_,_,_,q⟩:=hs;exact False.elim q
theorem DJ.Oi{st:List Stmt}{t:TS}(h:DJ X.Oi st t):DJ X st t:=λs σ H D I hw=>
 da (h s σ H D (I.qF _) hw) (λ_ _ q=>q.eZ) λ_ _ z=>False.elim z
def KQ.ok0(F:KQ K x qual st f fd)(S:aE N ps (ao st))(len:∀vs H Q E,sp vs H Q E->vs.length=ps.length)(gv:∀b9 A outer s H vs Q E,dY k (A.deeper (envOfC qual (ao st) s.heap.objs.size f b9))->sp vs H Q E->
   ∃t,DJ (kb eX P w K mg base N qual (ao st) f b9 A outer s H E).Oi (ck st) t/\t {nx:=λ_ H'=>Q .cV H',rt:=Q} (start N vs) H):nZ P w K mg base eX (k+1) f fd ps sp:=by
 obtain⟨oc,od,kV,doc,pm,an,b9,ct,Im,rfl,lk,AK⟩:=F.ex;refine XA lk AK S len λA outer s H vs Q E hr AO=>?_;obtain⟨t,h,q⟩:=gv b9 A outer s H vs Q E hr AO;exact⟨t,h.Oi,q⟩
noncomputable def bA{α:Type}:List α->List α
 |a::_::r=>a::bA r|[a]=>[a]
 |[]=>[]
noncomputable def oE{α:Type}(l:List α):List α:=bA (l.drop 1)
def xC(a b:α) r:oE (a::b::r)=b::oE r:=by cases r<;>rfl
theorem vw:∀aR:List α,(List.range ((aR.length+1)/2)).filterMap (λk=>aR[2*k]?)=bA aR
 |[]=>by simp[bA]|[_]=>by simp[bA]
 |a::b::r=>by
  have e:((a::b::r).length+1)/2=(r.length+1)/2+1:=by
   simp only[length_cons];omega
  rw[e,range_succ_eq_map,jK];show a::_=a::bA r;rw[filterMap_map,<-vw r];congr 1
theorem jx:∀aR:List α,(bA aR).length<=aR.length
 |[]=>aL _|[_]=>aL _
 |_::_::r=>by
  have:=jx r;simp only[bA,length_cons];omega
theorem Vals.bA:∀{xs}{us},Vals xs us->Vals (L2.bA xs) (L2.bA us)
 |[],_,h=>by cases h;exact .nil
 |[_],_,h=>by
  obtain⟨u,rfl,r⟩:=vals1 h;exact .cons r .nil
 |_::_::xs,_,h=>by
  cases h with
  |cons r t=>
   cases t with
   |cons _ t=>exact .cons r (Vals.bA t)
def Vals.aau n (h:Vals xs us):Vals (xs.drop n) (us.drop n):=Paired.drop' n h
def IJ(aR:List Value)(s:Nat):slicePick aR.toArray (some (s:Int)) none (some 2)=(bA (aR.drop s)).toArray:=by
 unfold slicePick;rw[<-vw (aR.drop s)];congr 1;have h1:(sliceBounds (some (s:Int)) none (some 2) aR.toArray.size).1=((min s aR.length:Nat):Int):=by
  simp[sliceBounds];omega
 have h2:(sliceBounds (some (s:Int)) none (some 2) aR.toArray.size).2.1=(aR.length:Int):=by simp[sliceBounds]
 have h3:(sliceBounds (some (s:Int)) none (some 2) aR.toArray.size).2.2=2:=by simp[sliceBounds]
 rw[h1,h2,h3];have hc:(if(2:Int)>0 then(if((min s aR.length:Nat):Int)<(aR.length:Int)then((aR.length:Int)-((min s aR.length:Nat):Int)+2-1)/2 else 0)
           else(if((min s aR.length:Nat):Int)>(aR.length:Int)then(((min s aR.length:Nat):Int)-(aR.length:Int)-2-1)/(-2)else 0)).toNat=((aR.drop s).length+1)/2:=by
  rw[ag ⋯,dX];split<;>omega
 unfold sliceRange;simp only[hc];rw[filterMap_map];by_cases c:s<=aR.length
 .rw[pI c];congr 1;funext k;have:((s:Int)+2*(k:Int)).toNat=s+2*k:=by omega
  show aR.toArray[((s:Int)+2*(k:Int)).toNat]?=(aR.drop s)[2*k]?;rw[this,pJ];simp
 .have e:((aR.drop s).length+1)/2=0:=by rw[dX];omega
  rw[e];rfl
def VH(K:PySem.W.Frag)(te tl ts:TE):TE:=λσ H Q=>te σ H λx H1=>tl σ H1 λy H2=>ts σ H2 λz H3=>∃(a:Addr) (xs:List V) (n:Nat),x=.ref a/\y=.int n/\z=.int 2/\aM K H3 a xs/\∀p,H3 p=none->Q (.ref p) (upd H3 p (.lst (bA (xs.drop n))))
def tu{lo st:Expr}(he:PE X e te)(hl:PE X lo tl)(p6:PE X st ts):PE X (.Subscript e (.Slice (some lo) none (some st) p2) pos) (VH X.K te tl ts):=by
 intro pins s σ H Q I h;refine Subscript_ (cJ (he pins s σ H _ I h) λv s1 zx=>?_);obtain⟨x,H1,I1,r1,q1⟩:=zx;refine wpAny_Slice ?_;refine cJ (hl pins s1 σ H1 _ I1 q1) λvl s2 zy=>?_;obtain⟨y,H2,I2,r2,q2⟩:=zy;refine ay ?_;refine cJ (p6 pins s2 σ H2 _ I2 q2) λvs s3 zz=>?_;obtain⟨z,H3,I3,r3,a,xs,n,ex,ey,ez,hs,q⟩:=zz;subst ex ey ez;obtain rfl:v=Value.ref a:=r1;obtain⟨t2,rfl⟩:=r2;obtain⟨t3,rfl⟩:=r3;have I4:Inv X pins σ H3 {s3 with heap:=s3.heap.push {cls:=.type "slice",data:=.fields #[Value.int n t2,Value.none,Value.int 2 t3]}} :=I3.kept λb ob q=>bQ _ q;obtain⟨aR,r,ht,hz⟩:=I4.list hs;have hlen:=r.length;refine tail_any ht.isList.typeIs slot_list_getitem.lookup ?_ (by with_unfolding_all rfl);refine wpAny_getItem_list_slice ht.isList (Heap.IsSliceOf.new ..) (.int n t2) .none (.int 2 t3) ⋯ ?_ (by rw[cO] <;>omega);rw[IJ];refine⟨.ref _,_,I4.laid (t':=s3.toks) (λb ob q=>bQ _ q) (aL _) ?_,rfl,q _ (I4.bL.fresh (aL _))⟩;exact⟨aX (jx _) (aX (by rw[dX];exact Nat.sub_le _ _) hz),_,0,(r.aau n).bA,bw _ rfl⟩
structure KD(P:Program)(w:World)(K:PySem.W.Frag)(d:Addr)(kvs:List (Key×V)):Prop where
 at_:∃(o:Obj) (es:Array DictEntry) (ep:Nat) (vs:List (Key×Value)),K.lookup d=some o/\(d==sysModules)=false/\o.ExactDict/\o.data=.dict es ep/\es.size=kvs.length/\KV kvs vs/\KeysOf (bK P w) es/\Pairs (bK P w) es.toList vs/\(vs.map (·.1)).Nodup
section
variable {d:Addr}
def KD.dictOf(D:KD X.prog X.w X.K d kvs)(I:Inv X pins σ H s):∃vs,KV kvs vs/\s.heap.DictOf (bK X.prog X.w) d vs:=by
 obtain⟨o,es,ep,vs,h1,h2,h3,h4,h5,h6,h7,h8,h9⟩:=D.at_;exact⟨vs,h6,o,es,ep,I.Fo _ _ h1,h3,h4,h7,h8,h9⟩
def KD.noSys(D:KD X.prog X.w X.K d kvs):(d==sysModules)=false:=by
 obtain⟨o,es,ep,vs,h1,h2,_⟩:=D.at_;exact h2
variable {i:Expr} {td ty:TE}
def adF(P:Program)(w:World)(K:PySem.W.Frag)(ty td:TE):TE:=λσ H Q=>ty σ H λy H1=>td σ H1 λx H2=>∃d kvs k,x=.ref d/\y=kV k/\KD P w K d kvs/\Q (.bl (eU kvs k).isSome) H2
def XB(hi:PE X i ty)(hd:PE X e td):PC X .In i e (adF X.prog X.w X.K ty td):=by
 intro pins s σ H Q I h;refine cJ (hi pins s σ H _ I h) λiv s1 zq8=>?_;obtain⟨y,H1,I1,ry,q1⟩:=zq8;refine cJ (hd pins s1 σ H1 _ I1 q1) λu s2 zq9=>?_;obtain⟨x,H2,I2,rx,d,kvs,k,ex,ey,D,q2⟩:=zq9;subst ex ey;obtain rfl:u=Value.ref d:=rx;obtain⟨vs,rel,dd⟩:=D.dictOf I2;refine wpAny_in_of (tj ry) D.noSys dd.mapOf ?_;rw[<-(rel.val k).qg];exact⟨.bl _,H2,I2.tok _,rfl,q2⟩
def aav(P:Program)(w:World)(K:PySem.W.Frag)(td ty:TE):TE:=λσ H Q=>td σ H λx H1=>ty σ H1 λy H2=>∃d kvs k v,x=.ref d/\y=kV k/\KD P w K d kvs/\eU kvs k=some v/\Q v H2
def DK(hd:PE X e td)(hi:PE X i ty)(hs:Xi i):PE X (.Subscript e i pos) (aav X.prog X.w X.K td ty):=by
 intro pins s σ H Q I h;refine KH PySem.F.slot_dict_getitem.lookup hs (cJ (hd pins s σ H _ I h) λu s1 WG=>?_);obtain⟨x,H1,I1,rx,q1⟩:=WG;refine cJ (hi pins s1 σ H1 _ I1 q1) λiv s2 adG=>?_;obtain⟨y,H2,I2,ry,d,kvs,k,v,ex,ey,D,hv,q2⟩:=adG;subst ex ey;obtain rfl:u=Value.ref d:=rx;obtain⟨vs,rel,dd⟩:=D.dictOf I2;obtain⟨w',hw,MB⟩:=rg.some_of (v:=v) (by rw[<-hv];exact rel.val k);obtain⟨o,es,ep,ho,hx,_⟩:=id dd;exact⟨⟨o,ho,hx.1⟩,wpAny_getItem_of (tj ry) dd.mapOf hw ⟨v,H2,I2.tok _,MB,q2⟩⟩
end
noncomputable def Itm(kvs:List (Key×V)):It:=⟨λi _=>i<kvs.length,λi H x H'=>H'=H/\∃k v,kvs[i]?=some (k,v)/\x=kV k,λi _=>kvs.length<=i⟩
def IK{o:Obj}{es:Array DictEntry}{vs:List (Key×Value)} it (h1:K.lookup d=some o) (h3:o.ExactDict) (h4:o.data=.dict es ep) (h5:es.size=kvs.length)
  (h6:KV kvs vs) (h7:KeysOf (bK P w) es) (h8:Pairs (bK P w) es.toList vs) (h9:(vs.map (·.1)).Nodup):Turn P w K tg (Itm kvs) [it] it (λi h=>h.IsKeyIter it d i kvs.length ep)where
 mem:=by simp
 obj:=λi h st b hb=>by
  have e:b=it:=‹hb›
  subst e;obtain⟨oi,e,c,dd⟩:=st;exact⟨oi,e,λv z=>by rw[dd]at z;cases z⟩
 keep:=λi h h' st k=>st.at λoi e=>k it ∅ oi e
 item:=by
  intro X hP hw hK hc i pins s σ H E I hf st hi;subst hP hw hK;obtain⟨f0,f1,f2,f3,f4,f5⟩:=hf it ∅;obtain⟨⟨k,v⟩,hkv⟩:∃p,kvs[i]?=some p:=⟨kvs[i],bt hi⟩;obtain⟨u,hu,ru⟩:=Xn h6 hkv;have hl:=Paired.length h6;have hm:s.heap.DictAt (bK X.prog X.w) d vs ep:=⟨o,es,I.Fo _ _ h1,h3,h4,h7,h8,h9⟩;rw[hl]at st;refine wpAny_pyNext_dict_item st hm hu λkey h' WZ Bw sb=>?_;have I1:=I.turned (t':=s.toks) (λb ob hb e=>(sb.2 b hb).trans e) f0 f1 f3 f4 f5;obtain⟨oi,e,c,dd⟩:=id Bw;refine⟨key,rfl,FC e c dd ⋯ ⟨kV k,H,I1,F5 (show gX k key=true from WZ),⟨rfl,k,v,hkv,rfl⟩,?_,λb hb=>(hf b hb).1⟩⟩;rw[hl];exact Bw
 done:=by
  intro X hP hw hK hc i pins s σ H E I hf st hi;subst hP hw hK;obtain⟨f0,f1,f2,f3,f4,f5⟩:=hf it ∅;exact DA (I.ok.hd hc) st (I.Fo _ _ h1) h4 h5 hi λh' eb=>⟨rfl,I.turned (λb ob hb e=>eb b ob hb e) f0 f1 f3 f4 f5⟩
 self:=λA i s Q E st h=>wpAny_pyIter_keyiter st h
def XC(P:Program)(w:World)(K:PySem.W.Frag)(td:TE):TI:=λσ H R=>td σ H λx H1=>∃d kvs,x=.ref d/\KD P w K d kvs/\R (Itm kvs) H1
def Pt(he:PE X e td):PI X tg e (XC X.prog X.w X.K td):=by
 intro pins s σ H R I h;refine cJ (he pins s σ H _ I h) λu s1 WH=>?_;obtain⟨x,H1,I1,rx,d,kvs,ex,D,q⟩:=WH;subst ex;obtain rfl:u=Value.ref d:=rx;obtain⟨o,es,ep,vs,h1,h2,h3,h4,h5,h6,h7,h8,h9⟩:=D.at_;refine MG h2 (I1.Fo _ _ h1) h3 h4 (Dz I1 _ (IK _ h1 h3 h4 h5 h6 h7 h8 h9) ⟨_,bw _ rfl,rfl,?_⟩ q);rw[h5] <;>rfl
def MO{D:Ends}(Pv:Nat->St->Hp->Prop)(h0:Pv 0 σ H)(hs:∀i k v σ H,kvs[i]?=some (k,v)->Pv i σ H->g (kV k) σ H λσ2 H2=>tb {D with nx:=Pv (i+1),ct:=Pv (i+1),bk:=D.nx} σ2 H2)(hd:∀σ H,Pv kvs.length σ H->D.nx σ H):
  ∃W:Nat->Nat->St->Hp->Prop,(∃m,W 0 m σ H)/\∀i m σ H,W i m σ H->
   ((Itm kvs).stop i H/\D.nx σ H)\/((Itm kvs).go i H/\∃N:St->Hp->Prop,(∀σ' H',N σ' H'->∃m',m'<m/\W (i+1) m' σ' H')/\∀x H',(Itm kvs).Fp i H x H'->g x σ H' λσ2 H2=>tb {D with nx:=N,ct:=N,bk:=D.nx} σ2 H2):=by
 refine⟨λi m σ H=>m=kvs.length-i/\i<=kvs.length/\Pv i σ H,⟨kvs.length,by simp,cz _,h0⟩,?_⟩;rintro i m σ H ⟨rfl,hi,p⟩;by_cases dR:i<kvs.length
 .refine .inr ⟨dR,Pv (i+1),λσ' H' p'=>⟨kvs.length-(i+1),by omega,rfl,dR,p'⟩,λx H' y=>?_⟩;obtain⟨e,k,v,hkv,y⟩:=y;subst e y;exact hs i k v σ _ hkv p
 .have e:i=kvs.length:=by omega
  subst e;exact .inl ⟨aL _,hd σ H p⟩
section
def Pu:ZK:=λx y H Q=>eI x λi=>eI y λj=>OM i j/\Q (.int (i*j)) H
def Pw:PIp X .Mult Pu:=by
 intro pins s σ H x y v u Q I r1 r2 h;obtain⟨i,e1,h⟩:=fI.mp h;obtain⟨j,e2,hc,q⟩:=fI.mp h;subst e1;subst e2;obtain⟨t,rfl⟩:=r1;obtain⟨t',rfl⟩:=r2;exact imul_int ⟨.int _,H,I.tok _,⟨_,rfl⟩,q⟩ hc.ok
theorem vx:∀{bs}{us},Vals (bs.map V.bl) us->LSm.BoolsAre us bs
 |[],_,.nil=>.nil
 |n::_,_,.cons r t=>by
  cases r;exact .cons n (vx t)
def Px(hc:X.calm=true):kn X (.builtin "sum") (λxs H Q=>eL xs λp=>∃ns:List Int,aM X.K H p (ns.map V.int)/\Q (.int ns.sum) H):=by
 intro pins s σ H xs us Q I r h;obtain⟨p,rfl,ns,hq,q⟩:=rj.mp h;obtain⟨u,rfl,rx⟩:=vals1 r;cases rx;obtain⟨aR,r',pl,hz⟩:=I.list hq;have hi:=intsAre_of r';obtain⟨xs,hx⟩:=hi.allInts.items;have Fz:=hx▸pl.isList;refine sum_intListG (I.ok.hd hc) Fz λh' tk t' hk=>?_;have e1:ns=xs.toList.map (·.1):=by
  rw[<-nums_intItems,<-hx];exact(show numsOf aR.toArray.toList=ns from hi.numsOf).symm
 have e2:preSum (numAt xs) xs.size=ns.sum:=by
  rw[preSum_eq,qY ∅,e1]
 rw[e2];exact⟨.int ns.sum,H,I.kept hk,⟨_,rfl⟩,q⟩
def lP(hc:X.calm=true):kn X (.builtin "all") (λxs H Q=>eL xs λp=>∃bs:List Bool,aM X.K H p (bs.map V.bl)/\Q (.bl (bs.all id)) H):=by
 intro pins s σ H xs us Q I r h;obtain⟨p,rfl,bs,hq,q⟩:=rj.mp h;obtain⟨u,rfl,rx⟩:=vals1 r;cases rx;obtain⟨aR,r',pl,hz⟩:=I.list hq;have hb:=vx r';have hl:=pl.isList;have dR:p<s.heap.objs.size:=by obtain⟨_,e,_⟩:=hl;exact aN e
 refine call_all_walk (wpAny_pyIter_list hl ?_);refine⟨s.heap.objs.size,[s.heap.objs.size,p],[s.heap.objs.size],aR.toArray.size,_,_,λi=>(bs[i]?).getD true,rfl,Walks.list (A:=X.A.in1) (I.ok.hd hc) _ p (bB dR) aR.toArray,
  ⟨⟨_,bw _ rfl,rfl,rfl⟩,hl.push _⟩,λi v s' Q' E' hP hQ=>?_,λh' tk hk=>?_⟩
 .obtain⟨b,e,rfl⟩:=hb.get i v ‹hP›;simp only[e,Option.getD_some]at hQ;exact mh hQ
 .have e:((List.range aR.toArray.size).all λi=>(bs[i]?).getD true)=bs.all id:=by
   rw[cO,hb.length];exact LSm.range_all bs
  rw[e];exact⟨.bl _,H,I.kept (LSm.kept_iter hk),rfl,q⟩
end
def RgC.up{i j c:Int}{n:Nat}(hc:0<c)(Vt:c<1073741824)(ha: -(2^60)<=i)(ha':i<2^60)(hb: -(2^60)<=j)(hb':j<2^60)(hn:(n:Int)=if i<j then(j-i-1)/c+1 else 0):RgC i j c n:=by
 have hs:Builtin.Range.rangeSize i j c=if i<j then(j-i-1)/c+1 else 0:=by
  unfold Builtin.Range.rangeSize;rw[ag hc]
 refine⟨by omega,by omega,?_,by rw[hs,hn]⟩;have h1:i<j->0<=(j-i-1)/c/\(j-i-1)/c*c<=j-i-1:=λh=>⟨Int.ediv_nonneg () (),Int.ediv_mul_le _ ()⟩;have h2:i<j->(j-i-1)/c<=j-i-1:=λh=>by
  refine Int.ediv_le_self _ ()
 unfold Builtin.Range.small;rw[hs];simp only[Builtin.Range.rangeFitsLong,Bool.and_eq_true,Bool.or_eq_true,decide_eq_true_eq,beq_iff_eq];split
 .rename_i h;rw[bH,jf,jf];omega
 .omega
section
variable {o f:Expr} {eE:Pos} {td ty tx:TE}
def XD(P:Program)(w:World)(K:PySem.W.Frag)(td ty tx:TE):TE:=λσ H Q=>td σ H λx H1=>∃d kvs,x=.ref d/\KD P w K d kvs/\ty σ H1 λy H2=>tx σ H2 λz H3=>∃k,y=kV k/\Q ((eU kvs k).getD z) H3
def Py(ho:PE X o td)(he:PE X e ty)(hf:PE X f tx)(m:M2 X o "get" apos e f eE):PE X (.Call (.Attribute o "get" apos) [e,f] [] eE) (XD X.prog X.w X.K td ty tx):=by
 intro pins s σ H Q I h;refine wpAny_Call_method m.base m.few m.line PySem.F.plainAttrs_dict si PySem.F.type_dict_get (cJ (ho pins s σ H _ I h) λu s1 WK=>?_);obtain⟨x,H1,I1,rx,a,kvs,ex,D,q1⟩:=WK;subst ex;obtain rfl:u=Value.ref a:=rx;obtain⟨vs0,aeA,dd0⟩:=D.dictOf I1;obtain⟨ob,es0,ep0,hob,hx0,_⟩:=id dd0;refine⟨dd0.typeIs,λb q=>?_,?_⟩
 .cases q;exact⟨ob,hob,hx0.2.1⟩
 rw[m.trees];refine uj rfl (sq (me (cJ (he pins s1 σ H1 _ I1 q1) λiv s2 WM=>?_)));obtain⟨y,H2,I2,ry,q2⟩:=WM;refine me (cJ (hf pins s2 σ H2 _ I2 q2) λfv s3 WO=>?_);obtain⟨z,H3,I3,rz,k,ey,q3⟩:=WO;refine q_ ?_;subst ey;obtain⟨vs,rel,dd⟩:=D.dictOf I3;refine call_meetsIn si dd.typeIs PySem.F.entry_dict_get (PySem.F.args_dict_get_3 _ _ _) (meets_dict_get_default (bK X.prog X.w) a (tj ry) D.noSys fv) ⟨_,dd.mapOf,?_⟩;exact⟨_,H3,I3.tok _,(rel.val k).getD rz,q3⟩
end
structure jP(k:Nat)(A:Around):Prop where
 dp:A.depth+3*k+5<recursionLimit
 un:A.units+16*k+200<cLine
def dY.n(r:dY k A)(h:j<=k):jP j A:=⟨(r.mono h).dp,(r.mono h).un⟩
def dY.nm{e:Option Value}(r:dY k A)(h:j<=k):jP j (A.mark e):=⟨(r.mono h).dp,(r.mono h).un⟩
theorem jP.deeper(r:jP (k+1) A) env:jP k (A.deeper env):=
 ⟨by have:=r.dp;show A.depth+1+3*k+5<_;omega,by have:=r.un;show A.units+3+16*k+200<_;omega⟩
def jP.make(r:jP (k+1) A) C us kw:jP k (A.under (.builtin "type.__call__" ⟨.ref C::us,kw⟩)):=
 ⟨by have:=r.dp;rw[yo];omega,by have:=r.un;rw[yp];omega⟩
theorem jP.depth(r:jP k A):A.depth<recursionLimit:=by have:=r.dp;omega
structure Cd(P:Program)(w:World)(K:PySem.W.Frag)(mg:Str->Option Value)(base:Heap)(CX:Oj)(k:Nat)(f:Addr)(fd:FuncData)(ps:List Str)(sp:Sp):Prop where
 len:∀vs H Q E,sp vs H Q E->vs.length=ps.length
 run:∀(A:Around)(outer:List Env)(s:Shared)(H:Hp)(args:Args)(us:List Value)(vs:List V)(Q:VK)(E:XK),jP k A->AY P w K mg base A outer s H->BindsTo s fd args (ps.zip us)->Vals vs us->sp vs H Q E->
  codeAny (model P w) A (.call (.ref f) args) (CR CX outer P w H s Q E) s
noncomputable abbrev cxN(CX:Oj)(P:Program)(w:World)(K:PySem.W.Frag)(mg:Str->Option Value)(base:Heap)(N:List Str)(qual:Str)(scope:Scope)(f:Addr)(cd:Value)(A:Around)(outer:List Env)(s:Shared)(H:Hp)(E:XK):Cx:=
 {kb CX P w K mg base N qual scope f cd A outer s H E with calm:=false}
def IL{E:XK}{vs:List V}(S:aE N ps scope)(e0:AY P w K mg base A outer s H)(hl:vs.length=ps.length)(r:Vals vs us)(x:InCallC s s.heap.objs.size (bindL (envOfC qual scope s.heap.objs.size f cd).kindOf (ps.zip us) λ_=>none) (cellsFrom (s.heap.objs.size+1) scope.names []) (bindC (envOfC qual scope s.heap.objs.size f cd).kindOf (ps.zip us) λ_=>none) s1):
  Inv (cxN CX P w K mg base N qual scope f cd A outer s H E) [] (start N vs) H s1:=by
 have e1:AY P w K mg base {A with handled:=none} outer s H:=⟨e0.frames,e0.mod,e0.bs,e0.Mt,e0.rh,e0.Sb,e0.bL,e0.bare⟩;have I:=uv (CX:=CX) (E:=E) S (show({A with handled:=none} :Around).handled=none from rfl) e1 hl r x;exact⟨⟨I.ok.mod,I.ok.kind,I.ok.glob,I.ok.blt,I.ok.above,I.ok.inj,I.ok.has,I.ok.Wr,λz=>Bool.noConfusion z,I.ok.frames,I.ok.YY,I.ok.YZ,I.ok.bs,I.ok.Mt,I.ok.H_,I.ok.Ia,I.ok.rh,I.ok.Sb⟩,I.os,I.bare,I.base,I.loc,I.cell,I.free,I.iO,I.pin,I.bL,I.len⟩
def XE{dV kV doc b9 oc:Value}(lk:K.lookup f=some ⟨oc,od,.func (PySem.W.fnOf name qual params body scope dV kV doc pm an b9 ct),Im⟩)(AK:PySem.W.codeIn K b9 qual=true)(S:aE N ps scope)(len:∀vs H Q E,sp vs H Q E->vs.length=ps.length)(gv:∀A outer s H vs Q E,jP k (A.deeper (envOfC qual scope s.heap.objs.size f b9))->sp vs H Q E->
   ∃t,vS (cxN CX P w K mg base N qual scope f b9 A outer s H E) body t/\t {nx:=λ_ H'=>Q .cV H',rt:=Q} (start N vs) H):
  Cd P w K mg base CX (k+1) f (PySem.W.fnOf name qual params body scope dV kV doc pm an b9 ct) ps sp:=by
 refine⟨len,λA outer s H args us vs Q E hr e0 hb r AO=>?_⟩;have hl:=len _ _ _ _ AO;have KX:=e0.mod.SY.keeps λb o e=>(e0.bs b o e).1;have lim:=e0.mod.nolimit.keeps λb o e=>(e0.bs b o e).1;have FJ:∀y∈ps.zip us,scope.names.lookup y.1=some .local\/(scope.names.lookup y.1=some .cell/\((cellsFrom (s.heap.objs.size+1) scope.names []).lookup y.1).isSome=true):=λ⟨n,v⟩ hy=>by
  obtain q|q:=S.par n (mE hy).1
  .exact .inl q
  .exact .inr ⟨q,wq _ _ _ (.inl q)⟩
 refine codeAny_call_function hr.depth (KX _ _ lk) rfl S.co S.gen rfl (PySem.W.codeRec_of KX AK) (hb _ _ _ _ ?_);refine wpAny_newFunctionEnv_cells S.kind FJ λenv he s1 x=>?_;subst he;refine⟨lim.keeps x.toInCall.keep,codeAny_func ?_⟩;obtain⟨t,ht,hq⟩:=gv A outer s H vs Q E (hr.deeper _) AO;have I:Inv (cxN CX P w K mg base N qual scope f b9 A outer s H E) [] (start N vs) H s1:=IL S e0 hl r x;refine da (ht [] s1 (start N vs) H _ I hq) (λfl s' hs=>?_) λe s' hs=>hs;have fin:∀{σ':St}{H':Hp}{v:V}{u:Value},Inv (cxN CX P w K mg base N qual scope f b9 A outer s H E) [] σ' H' s'->RelV v u->Q v H'->CE outer P w H s Q u s':=
  λ{σ' H' v u} J rv q=>⟨v,H',J.os,J.bare,J.base,J.bL,rv,q⟩
 cases fl with
 |ret u=>
  obtain⟨v,σ',H',J,rv,q⟩:=hs;exact fin J rv q
 |next=>
  obtain⟨σ',H',J,q⟩:=hs;exact fin (v:=V.cV) J rfl q
 |brk=>
  obtain⟨_,_,_,q⟩:=hs;exact False.elim q
 |cont=>
  obtain⟨_,_,_,q⟩:=hs;exact False.elim q
section
variable {k:Nat} {C:Addr} {sU:List V} {ds:List Value} {E:XK} {m:Str} {p:Pos} {o:Expr} {es:List Expr} {t:TA}
def MQ{Q:VK}{vs:List V}(M:Mk X.K C f)(F:Cd X.prog X.w X.K X.mg X.base CX k f fd ps sp)(hr:jP (k+1) X.A)(hb:Binds X.K fd ps ds)(hd:Vals sU ds)(hx:Passes CX X E)(I:Inv X pins σ H s)(r:Vals vs us)(h:∀x dx,H x=none->H dx=none->dx≠x->sp (.ref x::(vs++sU)) (upd (upd H dx (.own x)) x (.ins C dx [])) (λv H2=>v=.cV/\Q (.ref x) H2) E):
  wpAny (model X.prog X.w) X.A (call (.ref C) us) (EP X pins σ Q) X.xe s:=by
 have hq:=h (s.heap.objs.size+1) s.heap.objs.size (I.bL.fresh (pS _)) (I.bL.fresh (aL _)) (bB (kK _));have I2:=Inv.made (C:=C) I;have r2:Vals (V.ref (s.heap.objs.size+1)::(vs++sU)) (Value.ref (s.heap.objs.size+1)::(us++ds)):=.cons rfl (r.append hd);have hl:(Value.ref (s.heap.objs.size+1)::us++ds).length=ps.length:=by
  have e:=r2.length;rw[F.len _ _ _ _ hq]at e;exact e.symm
 refine wpAny_call (FG I.Fo M.makes M.init (beq_iff_eq.mp M.fn) (jm (F.run _ X.stack _ _ ⟨Value.ref (s.heap.objs.size+1)::us,[]⟩ (Value.ref (s.heap.objs.size+1)::(us++ds)) _ _ E (hr.make C us [])
  (I2.Dm.make C us []) (hb _ (Value.ref (s.heap.objs.size+1)::us) I2.Fo hl) r2 hq) λr s' OU=>?_))
 cases r with
 |error e=>exact hx pins σ _ _ e s' I2 OU
 |ok fl=>
  cases fl with
  |ret u=>
   obtain⟨v,H',I3,rv,ev,q3⟩:=I2.after OU;subst ev;exact⟨rv,⟨V.ref (s.heap.objs.size+1),H',I3,rfl,q3⟩⟩
  |next=>exact False.elim OU|brk=>exact False.elim OU
  |cont=>exact False.elim OU
def Pz(M:Mk X.K C f)(F:Cd X.prog X.w X.K X.mg X.base CX k f fd ps sp)(hr:jP (k+1) X.A)(hg:Gl X x)(hm:X.mg x=some (.ref C))(hb:Binds X.K fd ps ds)(hd:Vals sU ds)(hx:Passes CX X E)(ha:PA X (e::es) t)(BH:(x==("__debug__":Str))=false:=by decide)(he:starEach (e::es) X.env=(false,eval e X.env)::starEach es X.env:=by rfl)(iG:(backTo pos (starEach es X.env)).any (·.1)=false:=by rfl):
  PE X (.Call (.Name x p) (e::es) [] pos) (BG C sp sU E t):=by
 intro pins s σ H Q I h;refine jE (pZ I hg hm ?_ BH);refine PySem.W.callWith_K I.ok.mod.SY M.kp (cJ (ha pos pins s σ H _ I h) λus s1 WQ=>?_) he iG;obtain⟨vs,H1,I1,r,q⟩:=WQ;refine⟨I1.Fo,?_⟩;exact MQ M F hr hb hd hx I1 r q
end
section
def KU:XR X E0:=λ_ _ _ _ _ _ _ h=>h.elim
def ie{pos:Pos}(hc:X.calm=true)(hN:X.N.Nodup)(hi:PI X tg iter wi)(ok:yt X.N X.env.scope scope own)(hg:∀(s:Shared)(H:Hp)(C:Addr)(cl:List (Str×Addr))(fp:List Addr),PG (X.qG E0 s H scope (compEnvC scope cl C X.env) fp) tg g)(ht:∀(s:Shared)(H:Hp)(C:Addr)(cl:List (Str×Addr))(fp:List Addr),Xf (X.qG E0 s H scope (compEnvC scope cl C X.env) fp) ifs tt)(he:∀(s:Shared)(H:Hp)(C:Addr)(cl:List (Str×Addr))(fp:List Addr),PE (X.qG E0 s H scope (compEnvC scope cl C X.env) fp) elt te)(hs:∀x,foldedSetIterable iter X.env x=pure x:=by intro _;rfl)(vv:X.pn=[]:=by rfl)(p6:X.stack=X.env::X.outer:=by rfl)(Fq:X.env.frame=some X.env.locals:=by rfl):PE X (.ListComp elt [⟨tg,iter,ifs,0⟩] scope pos) (Za wi g tt te (own.map (·.2))):=
 II vv p6 Fq KU hc hN hi ok hg ht he hs
def qi{y:Str}{py:Pos}{Pr:Pos}(hc:X.calm=true)(hN:X.N.Nodup)(hy:X.N[i]?=some y)(Zb:X.env.scope.names.lookup y=some .local)(hsw:swapsWith (.ListComp elt [⟨tg,iter,ifs,0⟩] scope pos) (some (.Name y py)) Pr.line X.env=pure true)(hi:PI X tg iter wi)(ok:yt X.N X.env.scope scope own)(hg:∀(s:Shared)(H:Hp)(C:Addr)(cl:List (Str×Addr))(fp:List Addr),PG (X.qG E0 s H scope (compEnvC scope cl C X.env) fp) tg g)(ht:∀(s:Shared)(H:Hp)(C:Addr)(cl:List (Str×Addr))(fp:List Addr),Xf (X.qG E0 s H scope (compEnvC scope cl C X.env) fp) ifs tt)(he:∀(s:Shared)(H:Hp)(C:Addr)(cl:List (Str×Addr))(fp:List Addr),PE (X.qG E0 s H scope (compEnvC scope cl C X.env) fp) elt te)(hs:∀x,foldedSetIterable iter X.env x=pure x:=by intro _;rfl)(vv:X.pn=[]:=by rfl)(p6:X.stack=X.env::X.outer:=by rfl)(Fq:X.env.frame=some X.env.locals:=by rfl):PS X (.Assign [.Name y py] (.ListComp elt [⟨tg,iter,ifs,0⟩] scope pos) Pr) (OH (Za wi g tt te (own.map (·.2))) (oq i)):=
 B_ vv p6 Fq KU hc hN hy Zb hsw hi ok hg ht he hs
end
structure TX(K:PySem.W.Frag)(x qual:Str)(st:Stmt)(dV:Value)(f:Addr)(fd:FuncData):Prop where
 ex:∃(oc:Value) (od:Option Addr) (kV doc pm:Value) (an:Option Addr) (b9 ct:Value) (Im:Array (Option Value)),
  fd=PySem.W.fnOf x qual (fR st) (ck st) (ao st) dV kV doc pm an b9 ct/\K.lookup f=some ⟨oc,od,.func fd,Im⟩/\PySem.W.codeIn K b9 qual=true
 kp:PySem.W.keepIn K (.ref f)=true
section
def TX.okN(F:TX K x qual st dV f fd)(S:aE N ps (ao st))(len:∀vs H Q E,sp vs H Q E->vs.length=ps.length)(gv:∀b9 A outer s H vs Q E,sp vs H Q E->
   ∃t,vS (cxN eX P w K mg base N qual (ao st) f b9 A outer s H E).Oi (ck st) t/\t {nx:=λ_ H'=>Q .cV H',rt:=Q} (start N vs) H):Cd P w K mg base eX (k+1) f fd ps sp:=by
 obtain⟨oc,od,kV,doc,pm,an,b9,ct,Im,rfl,lk,AK⟩:=F.ex;refine XE lk AK S len λA outer s H vs Q E hr AO=>?_;obtain⟨t,h,q⟩:=gv b9 A outer s H vs Q E AO;exact⟨t,h.Oi,q⟩
structure CLD(P:Program)(w:World)(K:PySem.W.Frag)(mg:Str->Option Value)(base:Heap)(x:Str)(C:Addr)(ps:List Str)(sp:Sp)(fs:List Str)(dss:List (List V)):Prop where
 ex:∃f fd,Mk K C f/\Cd P w K mg base eX 1 f fd ps sp/\∀sU∈dss,∃ds,Binds K fd ps ds/\Vals sU ds
 mg:mg x=some (.ref C)
 cl:FH K C
 no:∀f∈fs,cH K C f
end
section
variable {p:Pos}
def yG{C:Addr}{fs:List Str}{dss:List (List V)}{sU:List V}{es:List Expr}{t:TA}(G:CLD X.prog X.w X.K X.mg X.base x C ps sp fs dss)(hm:sU∈dss)(hr:jP 2 X.A)(hg:Gl X x)(ha:PA X (e::es) t)(BH:(x==("__debug__":Str))=false:=by decide)(he:starEach (e::es) X.env=(false,eval e X.env)::starEach es X.env:=by rfl)(iG:(backTo pos (starEach es X.env)).any (·.1)=false:=by rfl):
  PE X (.Call (.Name x p) (e::es) [] pos) (BG C sp sU E0 t):=by
 obtain⟨f,fd,M,F,B⟩:=G.ex;obtain⟨ds,hb,hv⟩:=B sU hm;exact Pz M F hr hg G.mg hb hv cu ha BH he iG
end
end L2
end
section
namespace Pd
open Tote
noncomputable def isLet(c:Nat):Bool:=decide (97<=c)&&decide (c<=122)
noncomputable def cj(c:Nat):Bool:=decide (48<=c)&&decide (c<=57)
noncomputable def sg(n:Nat):Nat:=if 97<=n/\n<=122 then n else if 48<=n/\n<=57 then n else if n=32 then 32 else if n=10 then 10 else if n=44 then 44 else if n=47 then 47 else 63
noncomputable def cut(c:Nat):List Nat->List Nat->List (List Nat)
 |acc,[]=>[acc]|acc,x::r=>if x=c then acc::cut c [] r else cut c (acc++ [x]) r
noncomputable def jg(w:List Nat):Bool:=!w.isEmpty&&(decide (w.length<=12)&&((w.head?.map isLet).getD false&&w.all λc=>isLet c||cj c))
noncomputable def DL(w:List Nat):Nat:=w.foldl (λn c=>10*n+(c-48)) 0
noncomputable def dz(w:List Nat):Int:=if 7<w.length then-1 else if(!w.isEmpty&&w.all cj)=false then-1 else if w.head?=some 48/\w≠ [48]then-1 else(DL w:Int)
noncomputable def within(w:List Nat)(lo hi:Int):Option Int:=if lo<=dz w/\dz w<=hi then some (dz w)else none
noncomputable def XF:List Nat:=[100,97,121]
noncomputable def KW:List Nat:=[114,97,99,101]
noncomputable def xD:List Nat:=[99,111,117,112,108,101]
noncomputable def yH:List Nat:=[112,111,111,108]
noncomputable def yI:List Nat:=[102,114,111,109]
noncomputable def yJ:List Nat:=[116,97,107,101]
noncomputable def rp:List Nat:=[98,114,101,97,107]
noncomputable def rq:List Nat:=[108,101,97,115,116]
noncomputable def yK:List Nat:=[117,110,105,116]
noncomputable def yL:List Nat:=[110,111,110,101]
noncomputable def dA:List Nat:=[112,108,97,99,101]
noncomputable def dB:List Nat:=[111,114,100,101,114]
noncomputable def jr:List Nat:=[97,110,121]
noncomputable def cp:List Nat:=[108,101,103,115]
noncomputable def js:List Nat:=[114,101,102,117,110,100]
noncomputable def mL:List Nat:=[99,97,114,114,121]
noncomputable def gw:List Nat:=[102,101,119,101,114]
noncomputable def cC(runners:Int):List Int->List Int->List (List Nat)->Option (List Int)
 |_,fs,[]=>some fs
 |hs,fs,c::a::b::r=>if c=xD then
   match within a 1 runners with
   |none=>none
   |some h=>match within b (h+1) runners with
    |none=>none|some f=>if h∈fs then none else if f∈hs\/f∈fs then none else cC runners (hs++ [h]) (fs++ [f]) r
  else none
 |_,_,_=>none
noncomputable def fX(n:Nat)(fs:List Int):List Int:=((List.range n).map λ(i:Nat)=>(1:Int)+(i:Int)).filter λx=>!decide (x∈fs)
noncomputable def gA(ws:List (List Nat)):Option (List Int):=
 if ws.length%3≠2\/26<ws.length then none else
  match within (ws.getD 1 []) 2 24 with
  |none=>none
  |some n=>match cC n [] [] (ws.drop 2)with
   |none=>none|some fs=>some (fX n.toNat fs)
structure MP where
 name:List Nat
 kind:List Nat
 k:Int
 race:Int
 u:Int
 deriving DecidableEq
variable {q:Pd.MP}
noncomputable def kindB(w:List Nat):Option (Int×Int):=if w=dA then some (1,4)else if w=dB then some (2,4)else if w=jr then some (2,3)else if w=cp then some (2,6)else none
noncomputable def fC(w kind:List Nat)(k:Int)(races:List (List Int)):Option Int:=
 match within w 1 (races.length:Int)with
 |none=>none
 |some r=>if kind=cp then(if r+k-1<=(races.length:Int)then some r else none)
  else(if k<=((races.getD (r-1).toNat []).length:Int)then some r else none)
noncomputable def yM(ws:List (List Nat)):Bool:=decide (ws.getD 0 []=yH)&&(decide (ws.getD 4 []=yI)&&(decide (ws.getD 6 []=yJ)&&(decide (ws.getD 8 []=rp)&&(decide (ws.getD 10 []=rq)&&(decide (ws.getD 12 []=yK)&&decide (ws.getD 14 []=yL))))))
noncomputable def eJ(ws:List (List Nat))(races:List (List Int)):Option MP:=
 if ws.length≠16 then none else if yM ws=false then none else if jg (ws.getD 1 [])=false then none else
 match kindB (ws.getD 2 [])with
 |none=>none
 |some lh=>match within (ws.getD 3 []) lh.1 lh.2 with
  |none=>none
  |some k=>match fC (ws.getD 5 []) (ws.getD 2 []) k races with
   |none=>none
   |some race=>match within (ws.getD 7 []) 0 400 with
    |none=>none
    |some _=>match within (ws.getD 9 []) 1 1000 with
     |none=>none
     |some _=>match within (ws.getD 13 []) 1 10000 with
      |none=>none
      |some u=>match within (ws.getD 11 []) 0 (2*u)with
       |none=>none
       |some l=>if¬(l=0\/l≥u)then none else if¬(ws.getD 15 []=js\/ws.getD 15 []=mL\/ws.getD 15 []=gw)then none else
        if¬(ws.getD 15 []≠gw\/ws.getD 2 []≠dA)then none else some ⟨ws.getD 1 [],ws.getD 2 [],k,race,u⟩
noncomputable def cM{α β:Type}(f:α->Option β):List α->Option (List β)
 |[]=>some []
 |x::r=>match f x with
  |none=>none
  |some y=>match cM f r with
   |none=>none|some ys=>some (y::ys)
noncomputable def i7(codes:List Nat):Option (List (List (List Nat))):=if(cut 10 [] codes).getLast?.getD []=[]then some ((cut 10 [] codes).dropLast.map (cut 32 []))else none
noncomputable def c7(ws:List (List Nat)):Bool:=decide (ws.head?=some KW)
noncomputable def vW(ws:List (List Nat)):Bool:=decide (ws.length=2)&&(decide (ws.getD 0 []=XF)&&jg (ws.getD 1 []))
noncomputable def d7(codes:List Nat):Option (List (List Int)×List MP):=
 match i7 codes with
 |none=>none|some []=>none
 |some (d::ls)=>if vW d=false then none else
  if¬(1<=(ls.takeWhile c7).length/\(ls.takeWhile c7).length<=16)then none else
  match cM gA (ls.takeWhile c7)with
  |none=>none
  |some races=>if 64<(ls.dropWhile c7).length then none else
   match cM (λws=>eJ ws races) (ls.dropWhile c7)with
   |none=>none|some pools=>if(pools.map (·.name)).Nodup then some (races,pools)else none
noncomputable def cw(w:Bytes):List Nat:=w.map λc=>sg c.toNat
noncomputable def bV(c:UInt8):Bytes->Bytes->List Bytes
 |acc,[]=>[acc]|acc,x::r=>if x=c then acc::bV c [] r else bV c (acc++ [x]) r
def aaw(c:UInt8):sg c.toNat=10↔c=10:=by
 unfold sg;constructor
 .intro h
  repeat' split at h
  all_goals first|omega|(apply UInt8.toNat_inj.mp;simpa using by assumption)
 .rintro rfl;decide
def aax(c:UInt8):sg c.toNat=32↔c=32:=by
 unfold sg;constructor
 .intro h
  repeat' split at h
  all_goals first|omega|(apply UInt8.toNat_inj.mp;simpa using by assumption)
 .rintro rfl;decide
theorem yN{c:UInt8}(h:∀x:UInt8,sg x.toNat=c.toNat↔x=c):∀l acc,cut c.toNat (cw acc) (cw l)=(bV c acc l).map cw
 |[],acc=>rfl
 |x::r,acc=>by
  show(if sg x.toNat=c.toNat then cw acc::cut c.toNat [] (cw r)else cut c.toNat (cw acc++ [sg x.toNat]) (cw r))=(if x=c then acc::bV c [] r else bV c (acc++ [x]) r).map cw;by_cases e:x=c
  .rw[ag e,ag ((h x).mpr e),aI,<-yN h r []];rfl
  .rw[af e,af (λq=>e ((h x).mp q)),<-yN h r (acc++ [x])];simp[cw]
def aay l acc:cut 10 (cw acc) (cw l)=(bV 10 acc l).map cw:=yN (c:=10) aaw l acc
def aaz l acc:cut 32 (cw acc) (cw l)=(bV 32 acc l).map cw:=yN (c:=32) aax l acc
def tD(h:(isLet n||cj n)=true):sg n=n:=by
 unfold isLet cj at h;simp only[Bool.or_eq_true,Bool.and_eq_true,decide_eq_true_eq]at h;unfold sg;obtain h|h:=h
 .rw[ag h]
 .rw[af (),ag h]
def IM:∀n,n<256->(isLet (sg n)=isLet n/\cj (sg n)=cj n/\((isLet (sg n)||cj (sg n))=true->sg n=n)):=by decide+kernel
def PB{c:UInt8}(h:(isLet (sg c.toNat)||cj (sg c.toNat))=true):sg c.toNat=c.toNat:=(IM _ c.toNat_lt).2.2 h
def Gh(c:UInt8):isLet (sg c.toNat)=isLet c.toNat:=(IM _ c.toNat_lt).1
def tE(c:UInt8):cj (sg c.toNat)=cj c.toNat:=(IM _ c.toNat_lt).2.1
def rA c:isSmall c=isLet c.toNat:=by
 unfold isSmall isLet;simp only[UInt8.le_iff_toNat_le];rfl
def fb c:isDigit c=cj c.toNat:=by
 unfold isDigit cj;rfl
def DM p q (h:∀c:UInt8,p (sg c.toNat)=q c) w:(cw w).all p=w.all q:=by
 unfold cw;rw[List.all_map];congr 1;funext c;exact h c
theorem tF w:jg (cw w)=isName w:=by
 unfold jg isName NAME;have e1:(cw w).all (λc=>isLet c||cj c)=w.all (λc=>isSmall c||isDigit c):=DM _ _ (λc=>by rw[Gh,tE,rA,fb]) w;rw[e1];cases w with
 |nil=>rfl
 |cons c r=>
  have e2:((cw (c::r)).head?.map isLet).getD false=((c::r).head?.map isSmall).getD false:=by
   show isLet (sg c.toNat)=isSmall c;rw[Gh,rA]
  have e3:(cw (c::r)).length=(c::r).length:=by unfold cw;rw[az]
  have e4:(cw (c::r)).isEmpty=false:=rfl;rw[e2,e3,e4];have e5:decide (1<=(c::r).length)=true:=by simp
  rw[e5];simp only[Bool.not_false,Bool.true_and];rw[Bool.and_comm (x:=((c::r).head?.map isSmall).getD false)]
noncomputable def toN(w:Bytes):List Nat:=w.map (·.toNat)
def cw_eq{w:Bytes}{t:List Nat}(ht:t.all (λc=>isLet c||cj c)=true):cw w=t↔toN w=t:=by
 induction w generalizing t with
 |nil=>exact Iff.rfl
 |cons c r ih=>
  cases t with
  |nil=>constructor<;>(intro h;cases h)
  |cons d t=>
   rw[eY,bH]at ht;have i:=ih ht.2;constructor
   .intro h;have h1:sg c.toNat=d:=(List.cons.inj h).1;have h2:=(List.cons.inj h).2;have e:=PB (by rw[h1];exact ht.1);show c.toNat::toN r=d::t;rw[<-e,h1,i.mp h2]
   .intro h;have h1:c.toNat=d:=(List.cons.inj h).1;have h2:=(List.cons.inj h).2;show sg c.toNat::cw r=d::t;rw[tD (by rw[h1];exact ht.1),h1,i.mpr h2]
def KY{v w:Bytes}(h:toN v=toN w):v=w:=by
 exact(List.map_inj_right (λ_ _=>UInt8.toNat_inj.mp)).mp h
def cw_word{w v:Bytes}{t:List Nat}(e:toN v=t)(ht:t.all (λc=>isLet c||cj c)=true):cw w=t↔w=v:=by
 rw[cw_eq ht];exact⟨λh=>KY (h.trans e.symm),λh=>by rw[h];exact e⟩
def cw_day w:cw w=XF↔w=ascii "day":=cw_word ⋯ ⋯
theorem cw_race w:cw w=KW↔w=ascii "race":=cw_word ⋯ ⋯
def cw_couple w:cw w=xD↔w=ascii "couple":=cw_word ⋯ ⋯
theorem cw_pool w:cw w=yH↔w=ascii "pool":=cw_word ⋯ ⋯
theorem cw_from w:cw w=yI↔w=ascii "from":=cw_word ⋯ ⋯
theorem cw_take w:cw w=yJ↔w=ascii "take":=cw_word ⋯ ⋯
theorem cw_break w:cw w=rp↔w=ascii "break":=cw_word ⋯ ⋯
theorem cw_least w:cw w=rq↔w=ascii "least":=cw_word ⋯ ⋯
theorem cw_unit w:cw w=yK↔w=ascii "unit":=cw_word ⋯ ⋯
theorem cw_none w:cw w=yL↔w=ascii "none":=cw_word ⋯ ⋯
theorem cw_place w:cw w=dA↔w=ascii "place":=cw_word ⋯ ⋯
theorem cw_order w:cw w=dB↔w=ascii "order":=cw_word ⋯ ⋯
theorem cw_any w:cw w=jr↔w=ascii "any":=cw_word ⋯ ⋯
theorem cw_legs w:cw w=cp↔w=ascii "legs":=cw_word ⋯ ⋯
def cw_refund w:cw w=js↔w=ascii "refund":=cw_word ⋯ ⋯
def cw_carry w:cw w=mL↔w=ascii "carry":=cw_word ⋯ ⋯
def cw_fewer w:cw w=gw↔w=ascii "fewer":=cw_word ⋯ ⋯
def Gi w (h:w.all isDigit=true):∀n:Nat,(cw w).foldl (λn c=>10*n+(c-48)) n=w.foldl (λ(n:Nat)(c:UInt8)=>10*n+(c.toNat-48)) n:=by
 induction w with
 |nil=>intro n;rfl
 |cons c r ih=>
  intro n;rw[eY,bH]at h;show(cw r).foldl _ (10*n+(sg c.toNat-48))=r.foldl _ (10*n+(c.toNat-48));rw[tD (by rw[C7];exact .inr (by rw[<-fb];exact h.1))];exact ih h.2 _
def TY(w:Bytes)(h:w.all isDigit=true):∀n:Nat,n*10^w.length<=w.foldl (λ(n:Nat)(c:UInt8)=>10*n+(c.toNat-48)) n:=by
 induction w with
 |nil=>intro n;simp
 |cons c r ih=>
  intro n;rw[eY,bH]at h;have:=ih h.2 (10*n+(c.toNat-48));refine aX ?_ this;rw[aY,kg];have e:n*(10^r.length*10)=(10*n)*10^r.length:=by
   rw[mB (10^r.length) 10,<-sI,mB n 10]
  rw[e];exact sr _ (kL _ _)
def kU{w:Bytes}:numberOf w=some n↔(w.isEmpty=false/\w.all isDigit=true/\¬(w.head?=some 48/\w≠ [48]))/\n=w.foldl (λ(n:Nat)(c:UInt8)=>10*n+(c.toNat-48)) 0:=by
 unfold numberOf;constructor
 .intro h;split at h
  .cases h
  .rename_i hc;have e:=Option.some.inj h;refine⟨⟨?_,?_,?_⟩,e.symm⟩
   .cases q:w.isEmpty with
    |false=>rfl|true=>exact absurd (.inl q) hc
   .cases q:w.all isDigit with
    |true=>rfl|false=>exact absurd (.inr (.inl q)) hc
   .exact λq=>hc (.inr (.inr q))
 .rintro⟨⟨h1,h2,h3⟩,rfl⟩;rw[af];rintro(q|q|q)
  .rw[h1]at q;cases q
  .rw[h2]at q;cases q
  .exact h3 q
def rB{w:Bytes}(h:numberOf w=some n)(hn:n<10000000):dz (cw w)=(n:Int):=by
 obtain⟨⟨h1,h2,h3⟩,e⟩:=kU.mp h;have hl:(cw w).length=w.length:=by unfold cw;rw[az]
 have len:w.length<=7:=by
  obtain q|q:=Nat.lt_or_ge 7 w.length
  .cases w with
   |nil=>simp at q
   |cons c r=>
    rw[eY,bH]at h2;have hc:c≠48:=λz=>h3 ⟨by rw[z];rfl,by
     intro y;have:=(List.cons.inj y).2;rw[this]at q;simp at q⟩
    have h48:48<=c.toNat:=by
     have:=h2.1;rw[fb]at this;unfold cj at this;simp only[Bool.and_eq_true,decide_eq_true_eq]at this;exact this.1
    have Vt:c.toNat≠48:=λz=>hc (UInt8.toNat_inj.mp (by rw[z];rfl));have g:=TY r h2.2 (10*0+(c.toNat-48));rw[fH]at e;have p1:1<=10*0+(c.toNat-48):=by omega
    have p2:(10:Nat)^7<=10^r.length:=su ⋯ (by rw[aY]at q;omega);have p3:1*10^r.length<=(10*0+(c.toNat-48))*10^r.length:=sr _ p1;omega
  .exact q
 unfold dz;rw[af (by rw[hl];omega)];have e1:(!(cw w).isEmpty&&(cw w).all cj)=true:=by
  rw[DM cj isDigit (λc=>by rw[tE,fb]) w,h2];cases w with
  |nil=>cases h1
  |cons c r=>rfl
 rw[af (by rw[e1];intro q;cases q),af]
 .unfold DL;rw[Gi w h2 0,<-e]
 .rintro⟨q1,q2⟩;cases w with
  |nil=>cases h1
  |cons c r=>
   rw[eY,bH]at h2;have p:=tD (by rw[C7];exact .inr (by rw[<-fb];exact h2.1));have hc:c=48:=by
    have z:sg c.toNat=48:=Option.some.inj q1;rw[p]at z;exact UInt8.toNat_inj.mp (by rw[z];rfl)
   refine h3 ⟨by rw[hc];rfl,λy=>q2 ?_⟩;rw[y];rfl
def rC{w:Bytes}(h:0<=dz (cw w)):numberOf w=some (dz (cw w)).toNat/\(dz (cw w)).toNat<10000000:=by
 unfold dz at h;split at h
 .omega
 .rename_i g1;split at h
  .omega
  .rename_i g2;split at h
   .omega
   .rename_i g3;have e1:(!(cw w).isEmpty&&(cw w).all cj)=true:=by
     cases q:(!(cw w).isEmpty&&(cw w).all cj)with
     |true=>rfl|false=>exact absurd q g2
    rw[DM cj isDigit (λc=>by rw[tE,fb]) w,bH]at e1;have h2:=e1.2;have nm:numberOf w=some (DL (cw w)):=by
     refine kU.mpr ⟨⟨?_,h2,?_⟩,?_⟩
     .cases w with
      |nil=>cases e1.1
      |cons c r=>rfl
     .rintro⟨q1,q2⟩;refine g3 ⟨?_,λy=>q2 ?_⟩
      .cases w with
       |nil=>cases q1
       |cons c r=>
        have z:=Option.some.inj q1;rw[z];rfl
      .exact(cw_word ⋯ ⋯).mp y
     .unfold DL;rw[Gi w h2 0]
    have val:dz (cw w)=(DL (cw w):Int):=by
     unfold dz;rw[af g1,af g2,af g3]
    rw[val];refine⟨by rw[nm];rfl,?_⟩;have up:∀(l:List Nat),l.all cj=true->∀n:Nat,l.foldl (λn c=>10*n+(c-48)) n<(n+1)*10^l.length:=by
     intro l
     induction l with
     |nil=>intro _ n;simp
     |cons c r ih=>
      intro hd n;rw[eY,bH]at hd;have hc:=hd.1;unfold cj at hc;simp only[Bool.and_eq_true,decide_eq_true_eq]at hc;have:=ih hd.2 (10*n+(c-48));refine dU this ?_;rw[aY,kg];have e:(n+1)*(10^r.length*10)=(10*(n+1))*10^r.length:=by
       rw[mB (10^r.length) 10,<-sI,mB (n+1) 10]
      rw[e];exact sr _ ()
    have u:=up (cw w) (by rw[DM cj isDigit (λc=>by rw[tE,fb]) w];exact h2) 0;have p:(10:Nat)^(cw w).length<=10^7:=su ⋯ ();unfold DL;omega
def bY{w:Bytes}{lo hi:Nat}(hhi:hi<10000000):within (cw w) (lo:Int) (hi:Int)=some n↔∃k:Nat,n=(k:Int)/\numberOf w=some k/\lo<=k/\k<=hi:=by
 unfold within;constructor
 .intro h;split at h
  .have e:=Option.some.inj h;have z:=rC (w:=w) ();refine⟨(dz (cw w)).toNat,by omega,z.1,by omega,by omega⟩
  .cases h
 .rintro⟨k,rfl,hk,h1,h2⟩;have e:=rB hk ();rw[e,ag ()]
theorem aF{ε:Type}{x:Except ε α}{f:α->Except ε β}{b:β}:(x>>=f)=.ok b↔∃a,x=.ok a/\f a=.ok b:=by
 cases x with
 |error e=>exact⟨λh=>(by cases h),λ⟨a,h,_⟩=>(by cases h)⟩
 |ok a=>exact⟨λh=>⟨a,rfl,h⟩,λ⟨a',h,h2⟩=>(by cases h;exact h2)⟩
def jQ{ε:Type}{x:Except ε α}{f:α->β}{b:β}:x.map f=.ok b↔∃a,x=.ok a/\f a=b:=by
 cases x with
 |error e=>exact⟨λh=>(by cases h),λ⟨a,h,_⟩=>(by cases h)⟩
 |ok a=>exact⟨λh=>⟨a,rfl,(by cases h;rfl)⟩,λ⟨a',h,h2⟩=>(by cases h;rw[<-h2];rfl)⟩
theorem jt{e:Nat}{l:List Word}{x:Word×List Word}:next e l=.ok x↔l=x.1::x.2:=by
 cases l with
 |nil=>exact⟨λh=>(by cases h),λh=>(by cases h)⟩
 |cons w r=>exact⟨λh=>(by cases h;rfl),λh=>(by cases h;rfl)⟩
theorem iI{e:Nat}{s:String}{l m:List Word}:must e s l=.ok m↔∃w,l=w::m/\w.w=ascii s:=by
 unfold must;rw[aF];constructor
 .rintro⟨x,h1,h2⟩;split at h2
  .rename_i q;cases h2;exact⟨x.1,jt.mp h1,q⟩
  .cases h2
 .rintro⟨w,rfl,q⟩;exact⟨(w,m),rfl,by rw[ag q];rfl⟩
theorem ig{l:List Word}{u:Unit}:closed l=.ok u↔l=[]:=by
 cases l with
 |nil=>exact⟨λ_=>rfl,λ_=>rfl⟩|cons w r=>exact⟨λh=>(by cases h),λh=>(by cases h)⟩
theorem rD{e:Nat}{l:List Word}{x:Bytes×List Word}:newName e had l=.ok x↔∃w,l=w::x.2/\x.1=w.w/\isName w.w=true/\w.w∉had:=by
 unfold newName;rw[aF];constructor
 .rintro⟨y,h1,h2⟩;split at h2
  .cases h2
  .rename_i q;split at h2
   .cases h2
   .rename_i q2;cases h2;exact⟨y.1,jt.mp h1,rfl,‹q›,‹q2›⟩
 .rintro⟨w,rfl,q0,q1,q2⟩;obtain⟨a,b⟩:=x;subst q0;refine⟨(w,b),rfl,?_⟩;rw[af (by rw[q1];intro z;cases z),af ‹q2›];rfl
theorem lQ{e lo hi:Nat}{l:List Word}{x:(Nat×Nat)×List Word}:number e lo hi l=.ok x↔∃w,l=w::x.2/\numberOf w.w=some x.1.1/\lo<=x.1.1/\x.1.1<=hi/\x.1.2=w.at_:=by
 unfold number;rw[aF];constructor
 .rintro⟨y,h1,h2⟩;split at h2
  .cases h2
  .rename_i n q;split at h2
   .cases h2
   .rename_i q2;cases h2;exact⟨y.1,jt.mp h1,q,(show lo<=n by omega),(show n<=hi by omega),rfl⟩
 .rintro⟨w,rfl,q0,q1,q2,q3⟩;obtain⟨⟨a,b⟩,c⟩:=x;have q3:=q3;have q1:lo<=a:=q1;have q2:a<=hi:=q2;subst q3;refine⟨(w,c),rfl,?_⟩;simp only[q0];rw[af (by show¬(a<lo\/hi<a);omega)];rfl
theorem dj{b:Bool}{u:Unit}:holds b k p=.ok u↔b=true:=by
 cases b
 .exact⟨λh=>(by cases h),λh=>(by cases h)⟩
 .exact⟨λ_=>rfl,λ_=>rfl⟩
theorem PD{e:Nat}{t:List (α×String)}{l:List Word}{x:(α×Nat)×List Word}:oneOf e t l=.ok x↔∃w y,l=w::x.2/\t.find? (λ(y:α×String)=>ascii y.2==w.w)=some y/\x.1.1=y.1/\x.1.2=w.at_:=by
 unfold oneOf;rw[aF];constructor
 .rintro⟨z,h1,h2⟩;split at h2
  .cases h2
  .rename_i y q;cases h2;exact⟨z.1,y,jt.mp h1,q,rfl,rfl⟩
 .rintro⟨w,y,rfl,q1,q2,q3⟩;obtain⟨⟨a,b⟩,c⟩:=x;subst q2 q3;refine⟨(w,c),rfl,?_⟩;simp only[q1];rfl
noncomputable def nP(runners:Nat):Nat->List (Nat×Nat)->List Bytes->Option (List (Nat×Nat))
 |0,had,[]=>some had|0,_,_::_=>none
 |_+1,had,[]=>some had
 |k+1,had,c::a::b::r=>if c=ascii "couple"then
   match numberOf a with
   |none=>none
   |some x=>match numberOf b with
    |none=>none|some y=>if 1<=x/\x<=runners/\(had.any λ(z:Nat×Nat)=>z.2==x)=false/\1<=y/\y<=runners/\x<y/\(had.any λ(z:Nat×Nat)=>z.1==y||z.2==y)=false then nP runners k (putB (x,y) had) r else none
  else none
 |_+1,_,_=>none
theorem ju{e runners:Nat}:∀k had l z,couplesIn e runners k had l=.ok z↔nP runners k had (l.map (·.w))=some z
 |0,had,[],z=>by
  exact⟨λh=>(by cases h;rfl),λh=>(by cases h;rfl)⟩
 |0,had,w::r,z=>by
  show(if w.w=ascii "couple"then Except.error _ else Except.error _)=.ok z↔none=some z;constructor
  .intro h;split at h<;>cases h
  .intro h;cases h
 |k+1,had,[],z=>by
  exact⟨λh=>(by cases h;rfl),λh=>(by cases h;rfl)⟩
 |k+1,had,w::l,z=>by
  unfold couplesIn;rw[af ∅];simp only[aF,iI,lQ,dj];constructor
  .rintro⟨m,⟨c,h1,h2⟩,⟨⟨x,px⟩,m2⟩,⟨wa,h3,h4,h5,h6,h7⟩,_,h8,⟨⟨y,py⟩,m3⟩,⟨wb,h9,XG,PF,HS,XH⟩,_,PH,h15⟩;cases h1;subst h3 h9;rw[ju k]at h15;simp only[Bool.and_eq_true,decide_eq_true_eq,Bool.not_eq_true']at h8 PH;show(if w.w=ascii "couple"then _ else none)=some z;rw[ag h2];simp only[h4,XG];rw[ag ⟨h5,h6,h8,PF,HS,PH.1,PH.2⟩];exact h15
  .intro h;cases l with
   |nil=>cases h
   |cons wa l=>
    cases l with
    |nil=>cases h
    |cons wb r=>
     have h:(if w.w=ascii "couple"then
      match numberOf wa.w with
      |none=>none
      |some x=>match numberOf wb.w with
       |none=>none|some y=>if 1<=x/\x<=runners/\(had.any λ(z:Nat×Nat)=>z.2==x)=false/\1<=y/\y<=runners/\x<y/\(had.any λ(z:Nat×Nat)=>z.1==y||z.2==y)=false then nP runners k (putB (x,y) had) (r.map (·.w))else none
      else none)=some z:=h
     split at h
     .rename_i hc;split at h
      .cases h
      .rename_i x hx;split at h
       .cases h
       .rename_i y hy;split at h
        .rename_i q;obtain⟨q1,q2,q3,q4,q5,q6,q7⟩:=q;refine⟨_,⟨w,rfl,hc⟩,((x,wa.at_),wb::r),⟨wa,rfl,hx,q1,q2,rfl⟩,Unit.unit,?_,((y,wb.at_),r),⟨wb,rfl,hy,q4,q5,rfl⟩,Unit.unit,?_,?_⟩
         .simp only[q3,Bool.not_false]
         .simp only[q6,q7,decide_true,Bool.not_false,Bool.and_self]
         .exact(ju k _ r z).mpr h
        .cases h
     .cases h
def rE(ws:List Bytes)(r:Race):Prop:=∃w cs,ws=w::cs/\numberOf w=some r.runners/\2<=r.runners/\r.runners<=24/\nP r.runners 8 [] cs=some r.couples
def Ce{e:Nat}{l:List Word}{r:Race}:raceIn e l=.ok r↔rE (l.map (·.w)) r:=by
 unfold raceIn;simp only[aF,lQ];constructor
 .rintro⟨⟨⟨n,p⟩,m⟩,⟨w,h1,h2,h3,h4,h5⟩,c,h6,h7⟩;subst h1;cases h7;exact⟨w.w,m.map (·.w),rfl,h2,h3,h4,(ju 8 [] m c).mp h6⟩
 .rintro⟨w,cs,h1,h2,h3,h4,h5⟩;cases l with
  |nil=>cases h1
  |cons x m=>
   obtain⟨e1,e2⟩:=List.cons.inj h1;obtain⟨rn,co⟩:=r;refine⟨((rn,x.at_),m),⟨x,rfl,?_,h3,h4,rfl⟩,co,?_,rfl⟩
   .have e1:x.w=w:=e1;rw[e1];exact h2
   .refine(ju 8 [] m co).mpr ?_;rw[e2];exact h5
noncomputable def gZ:Kind->Bytes
 |.place=>ascii "place"|.order=>ascii "order"
 |.any=>ascii "any"|.legs=>ascii "legs"
noncomputable def yO:None_->Bytes
 |.refund=>ascii "refund"|.carry=>ascii "carry"
 |.fewer=>ascii "fewer"
def yP{w:Bytes}:(∃y,KINDS.find? (λ(y:Kind×String)=>ascii y.2==w)=some y/\k=y.1)↔w=gZ k:=by
 constructor
 .rintro⟨y,h,rfl⟩;have h1:=find?_some h;have h2:=mem_of_find?_eq_some h;have h1:=eq_of_beq h1;rw[<-h1];simp only[KINDS,mem_cons,not_mem_nil,or_false]at h2;obtain rfl|rfl|rfl|rfl:=h2<;>rfl
 .rintro rfl;cases k
  .exact⟨(.place,"place"),by decide,rfl⟩
  .exact⟨(.order,"order"),by decide,rfl⟩
  .exact⟨(.any,"any"),by decide,rfl⟩
  .exact⟨(.legs,"legs"),by decide,rfl⟩
def yQ{w:Bytes}{kd:Kind}:(∃y,(if kd=.place then NONES.take 2 else NONES).find? (λ(y:None_×String)=>ascii y.2==w)=some y/\k=y.1)↔w=yO k/\¬(kd=.place/\k=.fewer):=by
 constructor
 .rintro⟨y,h,rfl⟩;have h1:=find?_some h;have h2:=mem_of_find?_eq_some h;have h1:=h1;have h1:=eq_of_beq h1;rw[<-h1];split at h2
  .rename_i hk;simp only[NONES,List.take,mem_cons,not_mem_nil,or_false]at h2;obtain rfl|rfl:=h2
   .exact⟨rfl,λz=>by cases z.2⟩
   .exact⟨rfl,λz=>by cases z.2⟩
  .rename_i hk;simp only[NONES,mem_cons,not_mem_nil,or_false]at h2;refine⟨?_,λz=>hk z.1⟩;obtain rfl|rfl|rfl:=h2<;>rfl
 .rintro⟨rfl,hn⟩;by_cases hk:kd=.place
  .rw[ag hk];cases k
   .exact⟨(.refund,"refund"),by decide,rfl⟩
   .exact⟨(.carry,"carry"),by decide,rfl⟩
   .exact absurd ⟨hk,rfl⟩ hn
  .rw[af hk];cases k
   .exact⟨(.refund,"refund"),by decide,rfl⟩
   .exact⟨(.carry,"carry"),by decide,rfl⟩
   .exact⟨(.fewer,"fewer"),by decide,rfl⟩
structure Gj where
 n:Bytes
 kd:Bytes
 k:Bytes
 r:Bytes
 t:Bytes
 b:Bytes
 m:Bytes
 u:Bytes
 z:Bytes
noncomputable def Gj.ws(x:Gj):List Bytes:=[x.n,x.kd,x.k,ascii "from",x.r,ascii "take",x.t,ascii "break",x.b,ascii "least",x.m,ascii "unit",x.u,ascii "none",x.z]
structure IP(races:List Race)(ws:List Bytes)(x:Gj)(p:Pool):Prop where
 ws:ws=x.ws
 name:x.n=p.name
 Zc:isName p.name=true
 kd:x.kd=gZ p.kind
 k:numberOf x.k=some p.k
 k1:leastK p.kind<=p.k
 k2:p.k<=mostK p.kind
 r:numberOf x.r=some p.race
 r1:1<=p.race
 r2:p.race<=races.length
 legs:p.kind=.legs->p.race+p.k<=races.length+1
 heads:p.kind≠ .legs->((races[p.race-1]?).map λ(x:Race)=>decide (p.k<=x.heads.length)).getD false=true
 t:numberOf x.t=some p.take
 t2:p.take<=400
 b:numberOf x.b=some p.brk
 b1:1<=p.brk
 b2:p.brk<=1000
 m:numberOf x.m=some p.least
 m2:p.least<=20000
 u:numberOf x.u=some p.unit
 u1:1<=p.unit
 u2:p.unit<=10000
 mu:p.least=0\/(p.unit<=p.least/\p.least<=2*p.unit)
 z:x.z=yO p.none_
 pf:¬(p.kind=.place/\p.none_=.fewer)
def Gk{l:List α}(h:l.length=2):∃a b,l=[a,b]:=match l,h with| [a,b],_=>⟨a,b,rfl⟩
def adH{us:List α}(h:us.length=0):us=[]:=length_eq_zero_iff.mp h
def IQ{us:List α}(h:us.length=n+1):∃a r,us=a::r/\r.length=n:=by
 cases us with
 |nil=>cases h
 |cons a r=>exact⟨a,r,rfl,Nat.succ.inj h⟩
def XI{us:List α}(h:us.length=n+5):∃a b c d x r,us=a::b::c::d::x::r/\r.length=n:=by
 obtain⟨a,r1,e1,h⟩:=IQ h;obtain⟨b,r2,e2,h⟩:=IQ h;obtain⟨c,r3,e3,h⟩:=IQ h;obtain⟨d,r4,e4,h⟩:=IQ h;obtain⟨x,r5,e5,h⟩:=IQ h;exact⟨a,b,c,d,x,r5,by rw[e1,e2,e3,e4,e5],h⟩
def PJ{l:List α}(h:l.length=15):∃a1 a2 a3 a4 a5 a6 a7 a8 a9 MR IT MS IU MT Gm,l=[a1,a2,a3,a4,a5,a6,a7,a8,a9,MR,IT,MS,IU,MT,Gm]:=by
 obtain⟨a1,a2,a3,a4,a5,r,e,h⟩:=XI h;obtain⟨a6,a7,a8,a9,MR,r',e',h⟩:=XI h;obtain⟨IT,MS,IU,MT,Gm,r'',e'',h⟩:=XI h;exact⟨a1,a2,a3,a4,a5,a6,a7,a8,a9,MR,IT,MS,IU,MT,Gm,by rw[e,e',e'',adH h]⟩
def Cg{e:Nat}{l:List Word}:poolIn e C l=.ok p↔p.name∉C.pools.map (λ(p:Pool)=>p.name)/\∃x,IP C.races (l.map (·.w)) x p:=by
 unfold poolIn;simp only[aF,rD,lQ,dj,PD,iI,ig];constructor
 .rintro⟨⟨nm,l1⟩,⟨wn,h1,h2,h3,h4⟩,⟨⟨kd,pk⟩,l2⟩,⟨wk,y,h5,h6,h7,h8⟩,⟨⟨k,pk2⟩,l3⟩,⟨wk2,h9,XG,PF,HS,XH⟩,l4,⟨wf,PH,h15⟩,⟨⟨r,pr⟩,l5⟩,⟨wr,h16,h17,h18,h19,h20⟩,_,h21,_,h22,l6,⟨wt,h23,Zd⟩,
   ⟨⟨t,pt⟩,l7⟩,⟨wt2,h25,h26,h27,h28,h29⟩,l8,⟨wb,h30,h31⟩,⟨⟨b,pb⟩,l9⟩,⟨wb2,MU,h33,h34,h35,h36⟩,l10,⟨wl,h37,h38⟩,⟨⟨m,pm⟩,l11⟩,⟨wm,h39,h40,h41,h42,h43⟩,l12,⟨wu,h44,h45⟩,⟨⟨u,pu⟩,l13⟩,⟨wu2,h46,h47,h48,h49,h50⟩,_,h51,
   l14,⟨wz,h52,h53⟩,⟨⟨z,pz⟩,l15⟩,⟨wz2,y2,h54,h55,h56,h57⟩,_,h58,h59⟩
  dsimp only at*;subst h1 h5 h9 PH h16 h23 h25 h30 MU h37 h39 h44 h46 h52 h54 h58;cases h59;subst h2;refine⟨h4,⟨wn.w,wk.w,wk2.w,wr.w,wt2.w,wb2.w,wm.w,wu2.w,wz2.w⟩,?_⟩;have hk:=yP.mp ⟨y,h6,h7⟩;have hz:=yQ.mp ⟨y2,h55,h56⟩;refine⟨?_,rfl,h3,hk,XG,PF,HS,h17,h18,h19,?_,?_,h26,h28,h33,h34,h35,h40,h42,h47,h48,h49,?_,hz.1,hz.2⟩
  .simp only[map_cons,map_nil,h15,Zd,h31,h38,h45,h53];rfl
  .intro q;have q:=q;subst q;simp only[bne_self_eq_false,Bool.false_or,decide_eq_true_eq]at h21;exact h21
  .intro q;have q:=q;have e:(kd==Kind.legs)=false:=by simpa using q
   rw[e,Km]at h22;exact h22
  .simp only[inside,Bool.or_eq_true,beq_iff_eq,Bool.and_eq_true,decide_eq_true_eq]at h51;exact h51
 .rintro⟨hn,x,P⟩;have hw:=P.ws;unfold Gj.ws at hw;have hlen:=cb List.length hw;rw[az]at hlen;obtain⟨a1,a2,a3,a4,a5,a6,a7,a8,a9,MR,IT,MS,IU,MT,Gm,rfl⟩:=PJ hlen
  .simp only[map_cons,map_nil,List.cons.injEq,and_true]at hw;obtain⟨e1,e2,e3,e4,e5,e6,e7,e8,e9,e10,e11,e12,e13,e14,e15⟩:=hw;obtain⟨y,hy1,hy2⟩:=yP.mpr P.kd;obtain⟨y2,hz1,hz2⟩:=yQ.mpr ⟨P.z,P.pf⟩;obtain⟨nm,kd,k,r,z,t,b,m,u⟩:=p;refine⟨(nm,_),⟨a1,rfl,?_,?_,?_⟩,((kd,a2.at_),_),⟨a2,y,rfl,?_,hy2,rfl⟩,((k,a3.at_),_),⟨a3,rfl,?_,P.k1,P.k2,rfl⟩,_,⟨a4,rfl,e4⟩,((r,a5.at_),_),⟨a5,rfl,?_,P.r1,P.r2,rfl⟩,Unit.unit,?_,Unit.unit,?_,_,⟨a6,rfl,e6⟩,
    ((t,a7.at_),_),⟨a7,rfl,?_,cz _,P.t2,rfl⟩,_,⟨a8,rfl,e8⟩,((b,a9.at_),_),⟨a9,rfl,?_,P.b1,P.b2,rfl⟩,_,⟨MR,rfl,e10⟩,((m,IT.at_),_),⟨IT,rfl,?_,cz _,P.m2,rfl⟩,_,⟨MS,rfl,e12⟩,((u,IU.at_),_),⟨IU,rfl,?_,P.u1,P.u2,rfl⟩,Unit.unit,?_,
    _,⟨MT,rfl,e14⟩,((z,Gm.at_),_),⟨Gm,y2,rfl,?_,hz2,rfl⟩,Unit.unit,rfl,rfl⟩
   .show nm=a1.w;rw[e1];exact P.name.symm
   .rw[e1,P.name];exact P.Zc
   .rw[e1,P.name];exact hn
   .rw[e2];exact hy1
   .rw[e3];exact P.k
   .rw[e5];exact P.r
   .by_cases q:kd=.legs
    .subst q;simp only[bne_self_eq_false,Bool.false_or,decide_eq_true_eq];exact P.legs rfl
    .have e:(kd !=Kind.legs)=true:=by simpa using q
     simp only[e,Bool.true_or]
   .by_cases q:kd=.legs
    .subst q;simp only[BEq.rfl,Bool.true_or]
    .have e:(kd==Kind.legs)=false:=by simpa using q
     simp only[e,Bool.false_or];exact P.heads q
   .rw[e7];exact P.t
   .rw[e9];exact P.b
   .rw[e11];exact P.m
   .rw[e13];exact P.u
   .simp only[inside,Bool.or_eq_true,beq_iff_eq,Bool.and_eq_true,decide_eq_true_eq];exact P.mu
   .rw[e15];exact hz1
def rF:Option Card->List Bytes->Option Card->Prop
 |none,ws,t=>∃n,ws=[ascii "day",n]/\isName n=true/\t=some {noCard with name:=n}
 |some C,ws,t=>(∃r rest,ws=ascii "race"::rest/\C.pools=[]/\C.races.length<16/\rE rest r/\t=some {C with races:=C.races++ [r]})\/
  ∃p rest x,ws=ascii "pool"::rest/\C.races≠ []/\C.pools.length<64/\p.name∉C.pools.map (λ(p:Pool)=>p.name)/\IP C.races rest x p/\t=some {C with pools:=C.pools++ [p]}
def MV{h t:Option Card}{e:Nat}:lineIn h ⟨ws,e⟩=.ok t↔rF h (ws.map (·.w)) t:=by
 unfold lineIn;have hb:∀{α β:Type}(x:Except Fault α)(f:α->Except Fault β),x.bind f=(x>>=f):=λ_ _=>rfl;rw[hb,aF];simp only[jt];constructor
 .rintro⟨⟨w,r⟩,h1,h2⟩;subst h1;cases h with
  |none=>
   simp only at h2;split at h2
   .rename_i q;unfold dayIn at h2;simp only[aF,rD,ig]at h2;obtain⟨⟨n,m⟩,⟨wn,g1,g2,g3,g4⟩,_,g5,g6⟩:=h2;simp only at g1 g2 g5;subst g5 g1;cases g6;refine⟨n,?_,by rw[g2];exact g3,rfl⟩;simp only[map_cons,map_nil,q,g2]
   .cases h2
  |some C=>
   simp only at h2;split at h2
   .rename_i q;split at h2
    .cases h2
    .rename_i q2;unfold withRace at h2;rw[jQ]at h2;obtain⟨rc,g1,g2⟩:=h2;refine .inl ⟨rc,r.map (·.w),by simp only[map_cons,q.1],q.2,by unfold RACES at q2;omega,Ce.mp g1,g2.symm⟩
   .split at h2
    .rename_i q1;split at h2
     .cases h2
     .rename_i q2;unfold withPool at h2;rw[jQ]at h2;obtain⟨pc,g1,g2⟩:=h2;obtain⟨g3,x,g4⟩:=Cg.mp g1;exact .inr ⟨pc,r.map (·.w),x,by simp only[map_cons,q1.1],q1.2,by unfold POOLS at q2;omega,g3,g4,g2.symm⟩
    .cases h2
 .intro hl;cases h with
  |none=>
   obtain⟨n,h1,h2,h3⟩:=hl;have hlen:=cb List.length h1;rw[az]at hlen;obtain⟨w1,w2,rfl⟩:=Gk hlen
   .simp only[map_cons,map_nil,List.cons.injEq,and_true]at h1;refine⟨(w1,[w2]),rfl,?_⟩;rw[ag h1.1];unfold dayIn;simp only[aF,rD,ig];refine⟨(n,[]),⟨w2,rfl,h1.2.symm,by rw[h1.2];exact h2,by simp⟩,Unit.unit,rfl,?_⟩;rw[h3];rfl
  |some C=>
   obtain⟨r,rest,h1,h2,h3,h4,h5⟩|⟨p,rest,x,h1,h2,h3,h4,h5,h6⟩:=hl
   .cases ws with
    |nil=>cases h1
    |cons w m=>
     obtain⟨e1,e2⟩:=List.cons.inj h1;refine⟨(w,m),rfl,?_⟩;simp only;rw[ag ⟨e1,h2⟩,af (by unfold RACES;omega)];unfold withRace;rw[jQ];exact⟨r,Ce.mpr (by rw[e2];exact h4),h5.symm⟩
   .cases ws with
    |nil=>cases h1
    |cons w m=>
     obtain⟨e1,e2⟩:=List.cons.inj h1;refine⟨(w,m),rfl,?_⟩;simp only;have e1:w.w=ascii "pool":=e1;rw[af (by rw[e1];intro z;exact absurd z.1 ⋯),ag ⟨e1,h2⟩,af (by unfold POOLS;omega)];unfold withPool;rw[jQ];exact⟨p,Cg.mpr ⟨h4,x,by rw[e2];exact h5⟩,h6.symm⟩
theorem words_of{p q:Nat}:∀l acc,badByte acc.isEmpty q l=none->(wordsFrom p acc l).map (·.w)=bV 32 acc l
 |[],acc,h=>by
  unfold badByte at h;cases acc with
  |nil=>simp at h|cons c r=>rfl
 |c::r,acc,h=>by
  unfold badByte at h;split at h
  .cases h
  .unfold wordsFrom bV;split at h
   .rename_i hc;rw[ag hc,ag hc];split at h
    .cases h
    .split at h
     .cases h
     .rw[aI,words_of (q:=q+1) r [] h]
   .rename_i hc;rw[af hc,af hc];refine words_of (q:=q+1) r (acc++ [c]) ?_;have e:(acc++ [c]).isEmpty=false:=by simp
    rw[e];exact h
def Plain(w:Bytes):Prop:=w≠ []/\∀c∈w,33<=c.toNat/\c.toNat<=126
theorem ik c:∀l acc,∃w ws,bV c acc l=(acc++w)::ws/\∀x∈w,x≠c
 |[],acc=>⟨[],[],by simp[bV],by simp⟩
 |x::r,acc=>by
  unfold bV;by_cases h:x=c
  .rw[ag h];exact⟨[],_,by rw[h_],by simp⟩
  .rw[af h];obtain⟨w,ws,h1,h2⟩:=ik c r (acc++ [x]);refine⟨x::w,ws,?_,?_⟩
   .rw[h1];simp
   .intro y hy;obtain rfl|hy:=mem_cons.mp hy
    .exact h
    .exact h2 y hy
theorem jv{q:Nat}:∀l acc,(∀w∈bV 32 acc l,Plain w)->badByte acc.isEmpty q l=none
 |[],acc,h=>by
  have:=h acc (by simp[bV]);cases acc with
  |nil=>exact absurd rfl this.1|cons c r=>rfl
 |c::r,acc,h=>by
  unfold bV at h;unfold badByte;by_cases hc:c=32
  .subst hc;have h1:=h acc ∅;have h2:=λw hw=>h w (bI _ hw);have e:acc.isEmpty=false:=by
    cases acc with
    |nil=>exact absurd rfl h1.1|cons c r=>rfl
   rw[e];have e2:r.isEmpty=false:=by
    cases r with
    |nil=>exact absurd rfl (h2 [] (by simp[bV])).1|cons c r=>rfl
   rw[e2];exact jv r [] h2
  .rw[af hc]at h;obtain⟨w,ws,h1,h2⟩:=ik 32 r (acc++ [c]);have h3:=(h _ (by rw[h1];exact b8)).2 c ∅;have h4:¬(c<32\/126<c):=by
    rw[UInt8.lt_iff_toNat_lt,UInt8.lt_iff_toNat_lt];have e1:(32:UInt8).toNat=32:=rfl;have e2:(126:UInt8).toNat=126:=rfl;omega
   rw[af h4,af hc];have:=jv (q:=q+1) r (acc++ [c]) h;have e:(acc++ [c]).isEmpty=false:=by simp
   rw[e]at this;exact this
def yR{w:Bytes}(h0:w≠ [])(h:w.all (λc=>isSmall c||isDigit c)=true):Plain w:=by
 refine⟨h0,λc hc=>?_⟩;have:=all_eq_true.mp h c hc;rw[rA,fb]at this;unfold isLet cj at this;simp only[Bool.or_eq_true,Bool.and_eq_true,decide_eq_true_eq]at this;omega
def dM{w:Bytes}(h:numberOf w=some n):Plain w:=by
 obtain⟨⟨h1,h2,_⟩,_⟩:=kU.mp h;refine yR (λz=>by rw[z]at h1;cases h1) ?_;rw[dy]at h2⊢;intro c hc;rw[h2 c hc,Bool.or_true]
def rG{w:Bytes}(h:isName w=true):Plain w:=by
 unfold isName at h;simp only[Bool.and_eq_true,decide_eq_true_eq]at h;exact yR (λz=>by rw[z]at h;simp at h) h.2.2.1
def bU{w:Bytes}(h:(!w.isEmpty&&w.all (λc=>isSmall c||isDigit c))=true):Plain w:=by
 rw[bH]at h;exact yR (λz=>by rw[z]at h;simp at h) h.2
theorem yS:∀k had ws z,nP runners k had ws=some z->∀w∈ws,Plain w
 |0,_,[],_,_,w,hw=>by cases hw
 |0,_,_::_,_,h,_,_=>by cases h
 |k+1,_,[],_,_,w,hw=>by cases hw
 |k+1,had,[a],_,h,_,_=>by cases h
 |k+1,had,[a,b],_,h,_,_=>by cases h
 |k+1,had,c::a::b::r,z,h,w,hw=>by
  unfold nP at h;split at h
  .rename_i hc;split at h
   .cases h
   .rename_i x hx;split at h
    .cases h
    .rename_i y hy;split at h
     .have ih:=yS k _ r z h;obtain rfl|hw:=mem_cons.mp hw
      .rw[hc];exact bU ⋯
      obtain rfl|hw:=mem_cons.mp hw
      .exact dM hx
      obtain rfl|hw:=mem_cons.mp hw
      .exact dM hy
      .exact ih w hw
     .cases h
  .cases h
def rF.plain{s t:Option Card}(h:rF s ws t):∀w∈ws,Plain w:=by
 cases s with
 |none=>
  obtain⟨n,rfl,h2,_⟩:=h;intro w hw;obtain rfl|hw:=mem_cons.mp hw
  .exact bU ⋯
  obtain rfl|hw:=mem_cons.mp hw
  .exact rG h2
  .cases hw
 |some C=>
  obtain⟨r,rest,rfl,_,_,⟨w0,cs,rfl,h1,_,_,h2⟩,_⟩|⟨p,rest,x,rfl,_,_,_,P,_⟩:=h
  .intro w hw;obtain rfl|hw:=mem_cons.mp hw
   .exact bU ⋯
   obtain rfl|hw:=mem_cons.mp hw
   .exact dM h1
   .exact yS 8 [] cs _ h2 w hw
  .rw[P.ws];unfold Gj.ws;intro w hw;simp only[mem_cons,not_mem_nil,or_false]at hw;obtain rfl|rfl|rfl|rfl|rfl|rfl|rfl|rfl|rfl|rfl|rfl|rfl|rfl|rfl|rfl|rfl:=hw
   .exact bU ⋯
   .rw[P.name];exact rG P.Zc
   .rw[P.kd];cases p.kind<;>exact bU ⋯
   .exact dM P.k
   .exact bU ⋯
   .exact dM P.r
   .exact bU ⋯
   .exact dM P.t
   .exact bU ⋯
   .exact dM P.b
   .exact bU ⋯
   .exact dM P.m
   .exact bU ⋯
   .exact dM P.u
   .exact bU ⋯
   .rw[P.z];cases p.none_<;>exact bU ⋯
def T1{s t:Option Card}{l:Bytes}{p e:Nat}:(badByte true 0 l=none/\lineIn s ⟨wordsFrom p [] l,e⟩=.ok t)↔rF s (bV 32 [] l) t:=by
 rw[MV];constructor
 .rintro⟨h1,h2⟩;rw[words_of l [] h1]at h2;exact h2
 .intro h;have h1:badByte true 0 l=none:=jv l [] h.plain;refine⟨h1,?_⟩;rw[words_of l [] h1];exact h
def qj c x (r acc:Bytes):bV c acc (x::r)=if x=c then acc::bV c [] r else bV c (acc++ [x]) r:=rfl
theorem uD:∀b acc,upTo b=none↔bV 10 acc b=[acc++b]
 |[],acc=>by simp[upTo,bV]
 |c::r,acc=>by
  rw[qj];unfold upTo;by_cases h:c=10
  .rw[ag h,ag h];constructor
   .intro q;cases q
   .intro q;obtain⟨w,ws,h1,_⟩:=ik 10 r [];rw[h1]at q;have:=cb List.length q;simp at this
  .rw[af h,af h];have ih:=uD r (acc++ [c]);rw[g9]at ih;rw[Option.map_eq_none_iff];exact ih
theorem uE:∀b acc l r,upTo b=some (l,r)->bV 10 acc b=(acc++l)::bV 10 [] r/\r.length<b.length
 |[],acc,l,r,h=>by cases h
 |c::m,acc,l,r,h=>by
  unfold upTo at h;rw[qj];by_cases hc:c=10
  .rw[ag hc]at h⊢;cases h;exact⟨by rw[h_],kK _⟩
  .rw[af hc]at h⊢;cases q:upTo m with
   |none=>rw[q]at h;cases h
   |some x=>
    obtain⟨l',r'⟩:=x;rw[q]at h;cases h;obtain⟨h1,h2⟩:=uE m (acc++ [c]) l' r' q;refine⟨?_,mj h2⟩;rw[h1,g9];rfl
noncomputable def ip:Option Card->List (List Bytes)->Option Card->Prop
 |s,[],t=>t=s|s,l::ls,t=>∃u,rF s l u/\ip u ls t
theorem yT:∀k p s t b,b.length<k->(linesIn lineIn k p s b=.ok t↔∃ls,bV 10 [] b=ls++ [[]]/\ip s (ls.map (bV 32 [])) t)
 |0,_,_,_,_,h=>by cases h
 |k+1,p,s,t,b,h=>by
  unfold linesIn;cases b with
  |nil=>
   constructor
   .intro q;cases q;exact⟨[],rfl,rfl⟩
   .rintro⟨ls,h1,h2⟩;have:ls=[]:=by
     have h1:[[]]=ls++ [[]]:=h1;cases ls with
     |nil=>rfl
     |cons x r=>
      have:=cb List.length h1;simp at this
    subst this;cases h2;rfl
  |cons c r=>
   rw[af ∅];cases q:upTo (c::r)with
   |none=>
    have e:=(uD (c::r) []).mp q;constructor
    .intro z;cases z
    .rintro⟨ls,h1,h2⟩;rw[e]at h1;cases ls with
     |nil=>cases h1
     |cons x m=>
      have:=cb List.length h1;simp at this
   |some x=>
    obtain⟨l,m⟩:=x;obtain⟨e,hm⟩:=uE (c::r) [] l m q;simp only;have ih:=λu=>yT k (p+l.length+1) u t m ();have lo:=λu=>T1 (s:=s) (t:=u) (l:=l) (p:=p) (e:=p+l.length);constructor
    .intro z;split at z
     .cases z
     .rename_i hb;split at z
      .cases z
      .rename_i u hu;obtain⟨ls,h1,h2⟩:=(ih u).mp z;refine⟨l::ls,by rw[e,h1];rfl,u,(lo u).mp ⟨hb,hu⟩,h2⟩
    .rintro⟨ls,h1,h2⟩;rw[e]at h1;cases ls with
     |nil=>
      obtain⟨w,ws,h3,_⟩:=ik 10 m [];rw[h3]at h1;cases h1
     |cons x ls=>
      obtain⟨e1,e2⟩:=List.cons.inj h1;subst e1;obtain⟨u,h3,h4⟩:=h2;obtain⟨hb,hu⟩:=(lo u).mpr h3;rw[hb];simp only[hu];exact(ih u).mpr ⟨ls,e2,h4⟩
def kz{b:Bytes}:readCard b=.ok C↔(∃ls,bV 10 [] b=ls++ [[]]/\ip none (ls.map (bV 32 [])) (some C))/\C.races≠ []:=by
 unfold readCard;have key:=λt=>yT (b.length+1) 0 none t b (kK _);constructor
 .intro h;split at h
  .cases h
  .cases h
  .rename_i D q;split at h
   .cases h
   .rename_i hr;cases h;exact⟨(key _).mp q,hr⟩
 .rintro⟨h1,h2⟩;rw[(key _).mpr h1];simp only;rw[af h2]
noncomputable def hI(r:Race):List Int:=r.heads.map λ(n:Nat)=>(n:Int)
theorem iR{c x:Nat×Nat}:∀{l},c∈putB x l↔c=x\/c∈l
 |[]=>by simp[putB]
 |y::l=>by
  unfold putB;split
  .simp
  .rw[sf,iR,sf];constructor
   .rintro(h|h|h)
    .exact .inr (.inl h)
    .exact .inl h
    .exact .inr (.inr h)
   .rintro(h|h|h)
    .exact .inr (.inl h)
    .exact .inl h
    .exact .inr (.inr h)
structure IV(hs fs:List Int)(had:List (Nat×Nat)):Prop where
 a:∀n:Nat,(n:Int)∈hs↔∃c∈had,c.1=n
 b:∀n:Nat,(n:Int)∈fs↔∃c∈had,c.2=n
 lt:∀c∈had,c.1<c.2
theorem IV.put{x y:Nat}(R:IV hs fs had)(h:x<y):IV (hs++ [(x:Int)]) (fs++ [(y:Int)]) (putB (x,y) had):=by
 refine⟨λn=>?_,λn=>?_,λc hc=>?_⟩
 .rw[jo,R.a n];constructor
  .rintro(⟨c,h1,h2⟩|h1)
   .exact⟨c,iR.mpr (.inr h1),h2⟩
   .exact⟨(x,y),iR.mpr (.inl rfl),by simp at h1;omega⟩
  .rintro⟨c,h1,h2⟩;obtain rfl|h1:=iR.mp h1
   .exact .inr (by simp at h2⊢;omega)
   .exact .inl ⟨c,h1,h2⟩
 .rw[jo,R.b n];constructor
  .rintro(⟨c,h1,h2⟩|h1)
   .exact⟨c,iR.mpr (.inr h1),h2⟩
   .exact⟨(x,y),iR.mpr (.inl rfl),by simp at h1;omega⟩
  .rintro⟨c,h1,h2⟩;obtain rfl|h1:=iR.mp h1
   .exact .inr (by simp at h2⊢;omega)
   .exact .inl ⟨c,h1,h2⟩
 .obtain rfl|hc:=iR.mp hc
  .exact h
  .exact R.lt c hc
def vy(n:Int)(hs fs:List Int)(c a b:List Nat)(r:List (List Nat)):cC n hs fs (c::a::b::r)=if c=xD then
   match within a 1 n with
   |none=>none
   |some h=>match within b (h+1) n with
    |none=>none|some f=>if h∈fs then none else if f∈hs\/f∈fs then none else cC n (hs++ [h]) (fs++ [f]) r
  else none:=by
 rw[cC] <;>rfl
def Gn(n k:Nat)(had:List (Nat×Nat))(c a b:Bytes)(r:List Bytes):nP n (k+1) had (c::a::b::r)=if c=ascii "couple"then
   match numberOf a with
   |none=>none
   |some x=>match numberOf b with
    |none=>none|some y=>if 1<=x/\x<=n/\(had.any λ(z:Nat×Nat)=>z.2==x)=false/\1<=y/\y<=n/\x<y/\(had.any λ(z:Nat×Nat)=>z.1==y||z.2==y)=false then nP n k (putB (x,y) had) r else none
  else none:=by
 rw[nP] <;>rfl
def VI{had:List (Nat×Nat)}{x:Nat}:(had.any λ(z:Nat×Nat)=>z.2==x)=false↔¬∃c∈had,c.2=x:=by
 rw[<-Bool.not_eq_true,pU];simp only[beq_iff_eq]
def PK{had:List (Nat×Nat)}{x:Nat}:(had.any λ(z:Nat×Nat)=>z.1==x||z.2==x)=false↔¬((∃c∈had,c.1=x)\/∃c∈had,c.2=x):=by
 rw[<-Bool.not_eq_true,pU];simp only[Bool.or_eq_true,beq_iff_eq];constructor
 .rintro h (⟨c,h1,h2⟩|⟨c,h1,h2⟩)
  .exact h ⟨c,h1,.inl h2⟩
  .exact h ⟨c,h1,.inr h2⟩
 .rintro h ⟨c,h1,h2|h2⟩
  .exact h (.inl ⟨c,h1,h2⟩)
  .exact h (.inr ⟨c,h1,h2⟩)
theorem KZ{n:Nat}(hn:n<=24):∀j k hs fs had cs,j<=k->cs.length=3*j->IV hs fs had->
  (cC (n:Int) hs fs (cs.map cw)=none/\nP n k had cs=none)\/∃HU YX z,cC (n:Int) hs fs (cs.map cw)=some YX/\nP n k had cs=some z/\IV HU YX z
 |0,k,hs,fs,had,cs,_,hl,R=>by
  have:cs=[]:=length_eq_zero_iff.mp ();subst this;refine .inr ⟨hs,fs,had,by simp[cC],?_,R⟩;cases k<;>rfl
 |j+1,0,_,_,_,_,hk,_,_=>absurd hk ()
 |j+1,k+1,hs,fs,had,cs,hk,hl,R=>by
  match cs,hl with
  |[],hl=>exact absurd hl ∅|[_],hl=>exact absurd hl (by simp;omega)
  |[_,_],hl=>exact absurd hl (by simp;omega)
  |c::a::b::r,hl=>
   rw[aI,aI,aI,vy,Gn];by_cases hc:c=ascii "couple"
   .rw[ag hc,ag ((cw_couple c).mpr hc)];cases ha:within (cw a) 1 (n:Int)with
    |none=>
     left;refine⟨rfl,?_⟩;cases hx:numberOf a with
     |none=>rfl
     |some x=>
      have no:¬(1<=x/\x<=n):=λq=>by
       have:=(bY (w:=a) (lo:=1) (hi:=n) () (n:=(x:Int))).mpr ⟨x,rfl,hx,q.1,q.2⟩;have this:within (cw a) 1 (n:Int)=some (x:Int):=this;rw[ha]at this;cases this
      simp only;cases numberOf b with
      |none=>rfl
      |some y=>
       simp only;rw[af λq=>no ⟨q.1,q.2.1⟩]
    |some h=>
     obtain⟨x,rfl,hx,x1,x2⟩:=(bY (w:=a) (lo:=1) (hi:=n) () (n:=h)).mp ha;simp only[hx];cases hb:within (cw b) ((x:Int)+1) (n:Int)with
     |none=>
      left;refine⟨rfl,?_⟩;cases hy:numberOf b with
      |none=>rfl
      |some y=>
       simp only;rw[af];rintro⟨_,_,_,_,q5,q6,_⟩;have:=(bY (w:=b) (lo:=x+1) (hi:=n) () (n:=(y:Int))).mpr ⟨y,rfl,hy,q6,q5⟩;have this:within (cw b) ((x:Int)+1) (n:Int)=some (y:Int):=this;rw[hb]at this;cases this
     |some f=>
      obtain⟨y,rfl,hy,y1,y2⟩:=(bY (w:=b) (lo:=x+1) (hi:=n) () (n:=f)).mp hb;simp only[hy];by_cases q1:(x:Int)∈fs
      .left;rw[ag q1];refine⟨rfl,?_⟩;rw[af];rintro⟨_,_,q,_⟩;exact VI.mp q ((R.b x).mp q1)
      .rw[af q1];by_cases q2:(y:Int)∈hs\/(y:Int)∈fs
       .left;rw[ag q2];refine⟨rfl,?_⟩;rw[af];rintro⟨_,_,_,_,_,_,q⟩;exact PK.mp q (q2.elim (λz=>.inl ((R.a y).mp z)) λz=>.inr ((R.b y).mp z))
       .rw[af q2,ag ⟨x1,x2,VI.mpr (λz=>q1 ((R.b x).mpr z)),by omega,y2,y1,PK.mpr (λz=>q2 (z.elim (λz=>.inl ((R.a y).mpr z)) λz=>.inr ((R.b y).mpr z)))⟩];exact KZ hn j k _ _ _ r () (by simp at hl;omega) (R.put y1)
   .left;rw[af hc,af (λq=>hc ((cw_couple c).mp q))];exact⟨rfl,rfl⟩
theorem Ci:∀k had cs z,nP n k had cs=some z->∃j,j<=k/\cs.length=3*j
 |0,_,[],_,_=>⟨0,aL _,rfl⟩|0,_,_::_,_,h=>by cases h
 |k+1,_,[],_,_=>⟨0,cz _,rfl⟩|k+1,_,[_],_,h=>by cases h
 |k+1,_,[_,_],_,h=>by cases h
 |k+1,had,c::a::b::r,z,h=>by
  rw[Gn]at h;split at h
  .split at h
   .cases h
   .split at h
    .cases h
    .split at h
     .obtain⟨j,h1,h2⟩:=Ci k _ r z h;exact⟨j+1,by omega,by simp only[length_cons];omega⟩
     .cases h
  .cases h
def PL{r:Race}(R:IV hs fs r.couples):fX r.runners fs=hI r:=by
 unfold fX hI Race.heads;have e1:∀n:Nat,(r.head n==n)=!decide ((n:Int)∈fs):=by
  intro n;have hb:=R.b n;unfold Race.head;cases q:r.couples.find? λ(c:Nat×Nat)=>c.2==n with
  |none=>
   have no:¬(n:Int)∈fs:=λz=>by
    obtain⟨c,h1,h2⟩:=hb.mp z;have:=find?_eq_none.mp q c h1;exact this (by rw[h2];exact beq_self_eq_true n)
   simp[no]
  |some c=>
   have h1:=mem_of_find?_eq_some q;have h2:=find?_some q;have h2:=eq_of_beq h2;have yes:=hb.mpr ⟨c,h1,h2⟩;have dR:=R.lt c h1;have ne:¬c.1=n:=by omega
   simp[yes,ne]
 rw[pW,pW,bP];have e2:((λx:Int=>!decide (x∈fs))∘λ(i:Nat)=>(1:Int)+(i:Int))=((λ(n:Nat)=>r.head n==n)∘λ(i:Nat)=>i+1):=by
  funext i;show(!decide ((1:Int)+(i:Int)∈fs))=(r.head (i+1)==i+1);rw[e1 (i+1)];have:((i+1:Nat):Int)=(1:Int)+(i:Int):=by omega
  rw[this]
 rw[e2];congr 1;funext i;show(1:Int)+(i:Int)=((i+1:Nat):Int);omega
def rE.uniq{r q:Race}(h:rE ws r)(h':rE ws q):r=q:=by
 obtain⟨w,cs,e,h1,_,_,h2⟩:=h;obtain⟨w',cs',e',Ft,_,_,AQ⟩:=h';rw[e]at e';cases e';obtain⟨rn,rc⟩:=r;obtain⟨qn,qc⟩:=q;have z:=Option.some.inj (h1.symm.trans Ft);subst z;have z:=Option.some.inj (h2.symm.trans AQ);subst z;rfl
def IW(f w:List Nat)(cs:List (List Nat)):gA (f::w::cs)=if(cs.length+2)%3≠2\/26<cs.length+2 then none else
  match within w 2 24 with
  |none=>none
  |some n=>match cC n [] [] cs with
   |none=>none|some fs=>some (fX n.toNat fs):=rfl
def K0 f rest:(gA ((f::rest).map cw)=none/\∀r,¬rE rest r)\/∃r,rE rest r/\gA ((f::rest).map cw)=some (hI r):=by
 cases rest with
 |nil=>exact .inl ⟨rfl,λr ⟨w,cs,e,_⟩=>by cases e⟩
 |cons w cs=>
  rw[aI,aI,IW,az];by_cases hl:(cs.length+2)%3≠2\/26<cs.length+2
  .left;rw[ag hl];refine⟨rfl,?_⟩;rintro r ⟨w',cs',e,_,_,_,h⟩;cases e;obtain⟨j,h1,h2⟩:=Ci 8 [] cs _ h;omega
  .rw[af hl];cases hw:within (cw w) 2 24 with
   |none=>
    left;refine⟨rfl,?_⟩;rintro r ⟨w',cs',e,h1,h2,h3,_⟩;cases e;have:=(bY (w:=w) (lo:=2) (hi:=24) ()).mpr ⟨r.runners,rfl,h1,h2,h3⟩;have this:within (cw w) 2 24=some (r.runners:Int):=this;rw[hw]at this;cases this
   |some n=>
    obtain⟨k,rfl,hk,k1,k2⟩:=(bY (w:=w) (hi:=24) () (n:=n)).mp hw;simp only;have R0:IV [] [] []:=⟨λn=>by simp,λn=>by simp,λc hc=>by cases hc⟩;obtain⟨e1,e2⟩|⟨HU,YX,z,e1,e2,R⟩:=KZ k2 (cs.length/3) 8 [] [] [] cs () () R0
    .left;rw[e1];refine⟨rfl,?_⟩;rintro r ⟨w',cs',e,h1,_,_,h⟩;cases e;have:=Option.some.inj (h1.symm.trans hk);rw[this,e2]at h;cases h
    .right;rw[e1];refine⟨⟨k,z⟩,⟨w,cs,rfl,hk,k1,k2,e2⟩,?_⟩;show some (fX (k:Int).toNat YX)=some (hI ⟨k,z⟩);rw[gm,PL (r:=⟨k,z⟩) R]
noncomputable def mp(p:Pool):MP:=⟨cw p.name,cw (gZ p.kind),(p.k:Int),(p.race:Int),(p.unit:Int)⟩
def yU{w:Bytes}:kindB (cw w)=some lh↔∃k,w=gZ k/\lh=((leastK k:Int),(mostK k:Int)):=by
 unfold kindB;simp only[cw_place,cw_order,cw_any,cw_legs];constructor
 .intro h;split at h
  .rename_i q;cases h;exact⟨.place,q,rfl⟩
  .split at h
   .rename_i q;cases h;exact⟨.order,q,rfl⟩
   .split at h
    .rename_i q;cases h;exact⟨.any,q,rfl⟩
    .split at h
     .rename_i q;cases h;exact⟨.legs,q,rfl⟩
     .cases h
 .rintro⟨k,rfl,rfl⟩;cases k
  .rw[ag (by rfl)];rfl
  .rw[af ⋯,ag (by rfl)];rfl
  .rw[af ⋯,af ⋯,ag (by rfl)];rfl
  .rw[af ⋯,af ⋯,af ⋯,ag (by rfl)];rfl
def Cj{k j:Kind}(h:gZ k=gZ j):k=j:=by
 cases k<;>cases j<;>first|rfl|exact absurd h ⋯
theorem fg:cw (gZ k)=cp↔k=.legs:=by
 rw[cw_legs];constructor
 .intro h;exact Cj h
 .rintro rfl;rfl
def f9:cw (gZ k)=dA↔k=.place:=by
 rw[cw_place];constructor
 .intro h;exact Cj h
 .rintro rfl;rfl
def qN{w:Bytes}{k:Nat}{races:List Race}(hr:races.length<=16):fC (cw w) (cw (gZ kd)) (k:Int) (races.map hI)=some n↔
  ∃r:Nat,n=(r:Int)/\numberOf w=some r/\1<=r/\r<=races.length/\(kd=.legs->r+k<=races.length+1)/\(kd≠ .legs->((races[r-1]?).map λ(x:Race)=>decide (k<=x.heads.length)).getD false=true):=by
 unfold fC;rw[az];have wi:=λn=>bY (w:=w) (lo:=1) (hi:=races.length) () (n:=n);constructor
 .intro h;split at h
  .cases h
  .rename_i r Gp;obtain⟨r,rfl,h1,h2,h3⟩:=(wi r).mp Gp;simp only[fg]at h;split at h
   .rename_i q;split at h
    .cases h;exact⟨r,rfl,h1,h2,h3,λ_=>by omega,λz=>absurd q z⟩
    .cases h
   .rename_i q;split at h
    .rename_i q2;cases h;refine⟨r,rfl,h1,h2,h3,λz=>absurd z q,λ_=>?_⟩;have e:((r:Int)-1).toNat=r-1:=by omega
     rw[e,cT,aZ]at q2;cases g:races[r-1]? with
     |none=>exact absurd (List.getElem?_eq_none_iff.mp g) ()
     |some x=>
      rw[g]at q2;simp only[Option.map_some,Option.getD_some,hI,length_map]at q2;simp only[Option.map_some,Option.getD_some,decide_eq_true_eq];omega
    .cases h
 .rintro⟨r,rfl,h1,h2,h3,h4,h5⟩;have:=(wi (r:Int)).mpr ⟨r,rfl,h1,h2,h3⟩;have this:within (cw w) 1 (races.length:Int)=some (r:Int):=this;rw[this];simp only[fg];by_cases q:kd=.legs
  .rw[ag q,ag (by have:=h4 q;omega)]
  .rw[af q,ag];have h5:=h5 q;have e:((r:Int)-1).toNat=r-1:=by omega
   rw[e,cT,aZ];cases g:races[r-1]? with
   |none=>exact absurd (List.getElem?_eq_none_iff.mp g) ()
   |some x=>
    rw[g]at h5;simp only[Option.map_some,Option.getD_some,decide_eq_true_eq]at h5;simp only[Option.map_some,Option.getD_some,hI,length_map];omega
def XJ{l:List α}(h:l.length=16):∃a0 a1 a2 a3 a4 a5 a6 a7 a8 a9 MR IT MS IU MT Gm,l=[a0,a1,a2,a3,a4,a5,a6,a7,a8,a9,MR,IT,MS,IU,MT,Gm]:=by
 obtain⟨a0,r,e,h⟩:=IQ h;obtain⟨a1,a2,a3,a4,a5,a6,a7,a8,a9,MR,IT,MS,IU,MT,Gm,q⟩:=PJ h;exact⟨a0,a1,a2,a3,a4,a5,a6,a7,a8,a9,MR,IT,MS,IU,MT,Gm,by rw[e,q]⟩
def Gq{w:Bytes}:(cw w=js\/cw w=mL\/cw w=gw)↔∃z,w=yO z:=by
 rw[cw_refund,cw_carry,cw_fewer];constructor
 .rintro(h|h|h)
  .exact⟨.refund,h⟩
  .exact⟨.carry,h⟩
  .exact⟨.fewer,h⟩
 .rintro⟨z,rfl⟩;cases z
  .exact .inl rfl
  .exact .inr (.inl rfl)
  .exact .inr (.inr rfl)
def vz{z:None_}:cw (yO z)=gw↔z=.fewer:=by
 rw[cw_fewer];cases z
 .exact⟨λh=>absurd h ⋯,λh=>by cases h⟩
 .exact⟨λh=>absurd h ⋯,λh=>by cases h⟩
 .exact⟨λ_=>rfl,λ_=>rfl⟩
noncomputable def K3(a0 a1 a2 a3 a4 a5 a6 a7 a8 a9 MR IT MS IU MT Gm:List Nat)(races:List (List Int)):Option MP:=
 if(decide (a0=yH)&&(decide (a4=yI)&&(decide (a6=yJ)&&(decide (a8=rp)&&(decide (MR=rq)&&(decide (MS=yK)&&decide (MT=yL)))))))=false then none else if jg (a1)=false then none else
 match kindB (a2)with
 |none=>none
 |some lh=>match within (a3) lh.1 lh.2 with
  |none=>none
  |some k=>match fC (a5) (a2) k races with
   |none=>none
   |some race=>match within (a7) 0 400 with
    |none=>none
    |some _=>match within (a9) 1 1000 with
     |none=>none
     |some _=>match within (IU) 1 10000 with
      |none=>none
      |some u=>match within (IT) 0 (2*u)with
       |none=>none
       |some l=>if¬(l=0\/l≥u)then none else if¬(Gm=js\/Gm=mL\/Gm=gw)then none else
        if¬(Gm≠gw\/a2≠dA)then none else some ⟨a1,a2,k,race,u⟩
def K4(hr:races.length<=16):eJ (ws.map cw) (races.map hI)=some q↔∃rest x p,ws=ascii "pool"::rest/\IP races rest x p/\q=mp p:=by
 constructor
 .intro h;have hl:ws.length=16:=by
   by_cases c:(ws.map cw).length=16
   .rw[<-az (f:=cw)];exact c
   .unfold eJ at h;rw[ag c]at h;cases h
  obtain⟨a0,a1,a2,a3,a4,a5,a6,a7,a8,a9,MR,IT,MS,IU,MT,Gm,rfl⟩:=XJ (l:=ws) hl;replace h:K3 (cw a0) (cw a1) (cw a2) (cw a3) (cw a4) (cw a5) (cw a6) (cw a7) (cw a8) (cw a9) (cw MR) (cw IT) (cw MS) (cw IU) (cw MT) (cw Gm) (races.map hI)=some q:=h;unfold K3 at h;split at h
  .cases h
  rename_i hf;simp only[Bool.not_eq_false,Bool.and_eq_true,decide_eq_true_eq,cw_pool,cw_from,cw_take,cw_break,cw_least,cw_unit,cw_none]at hf;obtain⟨f0,f4,f6,f8,f10,f12,f14⟩:=hf;subst f0 f4 f6 f8 f10 f12 f14;rw[tF]at h;split at h
  .cases h
  rename_i hn;split at h
  .cases h
  rename_i lh hk;obtain⟨kd,rfl,rfl⟩:=yU.mp hk;split at h
  .cases h
  rename_i k Gr;have mk:mostK kd<10000000:=by cases kd<;>decide
  obtain⟨k,rfl,k1,k2,k3⟩:=(bY (lo:=leastK kd) (hi:=mostK kd) mk).mp Gr;split at h
  .cases h
  rename_i race vA;obtain⟨r,rfl,r1,r2,r3,r4,r5⟩:=(qN hr).mp vA;split at h
  .cases h
  rename_i t ht;obtain⟨t,rfl,t1,t2,t3⟩:=(bY (lo:=0) (hi:=400) ⋯).mp ht;split at h
  .cases h
  rename_i b hb;obtain⟨b,rfl,b1,b2,b3⟩:=(bY (lo:=1) (hi:=1000) ⋯).mp hb;split at h
  .cases h
  rename_i u hu;obtain⟨u,rfl,u1,u2,u3⟩:=(bY (lo:=1) (hi:=10000) ⋯).mp hu;split at h
  .cases h
  rename_i l adI;obtain⟨l,rfl,l1,l2,l3⟩:=(bY (lo:=0) (hi:=2*u) ()).mp adI;split at h
  .cases h
  rename_i hlu;split at h
  .cases h
  rename_i hz;obtain⟨z,rfl⟩:=Gq.mp (Classical.not_not.mp hz);split at h
  .cases h
  rename_i hzf;cases h;refine⟨_,⟨a1,gZ kd,a3,a5,a7,a9,IT,IU,yO z⟩,⟨a1,kd,k,r,z,t,b,l,u⟩,rfl,?_,rfl⟩;exact⟨rfl,rfl,‹hn›,rfl,k1,k2,k3,r1,r2,r3,r4,r5,t1,t3,b1,b2,b3,l1,(by show l<=20000;omega),u1,u2,u3,(by show l=0\/(u<=l/\l<=2*u);omega),rfl,λy=>by
   refine hzf λc=>?_;obtain c|c:=c
   .exact c (vz.mpr y.2)
   .exact c (f9.mpr y.1)⟩
 .rintro⟨rest,x,p,rfl,P,rfl⟩;rw[P.ws];obtain⟨nm,kd,k,r,z,t,b,m,u⟩:=p;obtain⟨xn,xkd,xk,xr,xt,xb,xm,xu,xz⟩:=x;have e1:xn=nm:=P.name;have e2:xkd=gZ kd:=P.kd;have e3:xz=yO z:=P.z;subst e1 e2 e3;show K3 (cw (ascii "pool")) (cw xn) (cw (gZ kd)) (cw xk) (cw (ascii "from")) (cw xr) (cw (ascii "take")) (cw xt) (cw (ascii "break")) (cw xb) (cw (ascii "least")) (cw xm) (cw (ascii "unit")) (cw xu) (cw (ascii "none")) (cw (yO z)) (races.map hI)=_;unfold K3;have mk:mostK kd<10000000:=by cases kd<;>decide
  have g1:isName xn=true:=P.Zc;have g2:kindB (cw (gZ kd))=some ((leastK kd:Int),(mostK kd:Int)):=yU.mpr ⟨kd,rfl,rfl⟩;have g3:within (cw xk) (leastK kd:Int) (mostK kd:Int)=some (k:Int):=(bY (lo:=leastK kd) (hi:=mostK kd) mk).mpr ⟨k,rfl,P.k,P.k1,P.k2⟩;have g4:fC (cw xr) (cw (gZ kd)) (k:Int) (races.map hI)=some (r:Int):=(qN hr).mpr ⟨r,rfl,P.r,P.r1,P.r2,P.legs,P.heads⟩;have g5:within (cw xt) 0 400=some (t:Int):=(bY (lo:=0) (hi:=400) ⋯).mpr ⟨t,rfl,P.t,cz _,P.t2⟩;have g6:within (cw xb) 1 1000=some (b:Int):=(bY (lo:=1) (hi:=1000) ⋯).mpr ⟨b,rfl,P.b,P.b1,P.b2⟩;have g7:within (cw xu) 1 10000=some (u:Int):=(bY (lo:=1) (hi:=10000) ⋯).mpr ⟨u,rfl,P.u,P.u1,P.u2⟩;have pm:=P.mu;have u2:=P.u2;simp only at pm u2;have g8:within (cw xm) 0 (2*(u:Int))=some (m:Int):=(bY (lo:=0) (hi:=2*u) ()).mpr ⟨m,rfl,P.m,cz _,by omega⟩;have fx:(decide (cw (ascii "pool")=yH)&&(decide (cw (ascii "from")=yI)&&(decide (cw (ascii "take")=yJ)&&(decide (cw (ascii "break")=rp)&&(decide (cw (ascii "least")=rq)&&(decide (cw (ascii "unit")=yK)&&decide (cw (ascii "none")=yL)))))))=true:=by decide
  rw[fx,af ⋯,tF,g1,af ⋯,g2];simp only[g3,g4,g5,g6,g7,g8];rw[af (),af (Classical.not_not.mpr (Gq.mpr ⟨z,rfl⟩)),af]
  .rfl
  .intro c;refine c ?_;by_cases q:z=.fewer
   .exact .inr λy=>P.pf ⟨f9.mp y,q⟩
   .exact .inl λy=>q (vz.mp y)
def aaA(f:α->Option β):cM f []=some []:=rfl
def bJ{f:α->Option β}{x:α}{r:List α}:cM f (x::r)=some zs↔∃y ys,f x=some y/\cM f r=some ys/\zs=y::ys:=by
 show(match f x with|none=>none|some y=>match cM f r with|none=>none|some ys=>some (y::ys))=some zs↔_;cases f x with
 |none=>simp
 |some y=>
  cases cM f r with
  |none=>simp
  |some ys=>
   simp only[Option.some.injEq];constructor
   .intro h;exact⟨y,ys,rfl,rfl,h.symm⟩
   .rintro⟨_,_,rfl,rfl,h⟩;exact h.symm
theorem lR{f:α->Option β}{x:α}:∀{l},cM f (l++ [x])=match cM f l with|none=>none|some ys=>match f x with|none=>none|some y=>some (ys++ [y])
 |[]=>by
  show(match f x with|none=>none|some y=>some [y])=_;cases f x<;>rfl
 |a::l=>by
  show(match f a with|none=>none|some y=>match cM f (l++ [x])with|none=>none|some ys=>some (y::ys))=match(match f a with|none=>none|some y=>match cM f l with|none=>none|some ys=>some (y::ys))with|none=>none|some ys=>match f x with|none=>none|some y=>some (ys++ [y])
  cases f a with
  |none=>rfl
  |some y=>
   rw[lR];cases cM f l with
   |none=>rfl|some ys=>cases f x<;>rfl
theorem gB{f:α->Option β}:∀{l}{ys},cM f l=some ys->ys.length=l.length
 |[],ys,h=>by cases h;rfl
 |a::l,ys,h=>by
  obtain⟨y,zs,_,h2,rfl⟩:=bJ.mp h;rw[aY,aY,gB h2]
theorem vB{f:α->Option β}:∀{l m},cM f l=none->cM f (l++m)=none
 |[],_,h=>by cases h
 |a::l,m,h=>by
  show(match f a with|none=>none|some y=>match cM f (l++m)with|none=>none|some ys=>some (y::ys))=none;have h:(match f a with|none=>none|some y=>match cM f l with|none=>none|some ys=>some (y::ys))=none:=h;cases q:f a with
  |none=>rfl
  |some y=>
   rw[q]at h;cases q2:cM f l with
   |none=>rw[vB q2]|some ys=>rw[q2]at h;cases h
def PN{v w:Bytes}(hv:isName v=true)(h:cw v=cw w)(hw:isName w=true):v=w:=by
 have p:∀{u:Bytes},isName u=true->u.all (λc=>isSmall c||isDigit c)=true:=λ{u} q=>by
  unfold isName at q;simp only[Bool.and_eq_true]at q;exact q.2.2.1
 have e:∀{u:Bytes},u.all (λc=>isSmall c||isDigit c)=true->cw u=toN u:=λ{u} q=>by
  apply fF;intro c hc;have:=all_eq_true.mp q c hc;exact tD this
 rw[e (p hv),e (p hw)]at h;exact KY h
noncomputable abbrev cl(l:List Bytes):List (List Nat):=l.map cw
theorem VJ:∀ls C0 C,C0.races.length<=16->(C0.pools≠ []\/∀l,ls.head?=some l->l.head?≠some (ascii "race"))->(∀p∈C0.pools,isName p.name=true)->(C0.pools.map (·.name)).Nodup->C0.pools.length<=64->
  ip (some C0) ls (some C)->∃ps,C= {C0 with pools:=C0.pools++ps}/\cM (λws=>eJ ws (C0.races.map hI)) (ls.map cl)=some (ps.map mp)/\C.pools.length<=64/\(C.pools.map (·.name)).Nodup/\(∀p∈C.pools,isName p.name=true)
 |[],C0,C,_,_,hn,nd,hl,h=>by
  cases h;exact⟨[],by simp,rfl,hl,nd,hn⟩
 |l::ls,C0,C,hr,hh,hn,nd,hl,h=>by
  obtain⟨u,h1,h2⟩:=h;obtain⟨r,rest,e,e1,_,_,_⟩|⟨p,rest,x,e,e1,e2,e3,P,e4⟩:=h1
  .exfalso;obtain hh|hh:=hh
   .exact hh e1
   .exact hh l rfl (by rw[e];rfl)
  .subst e4;have nd':((C0.pools++ [p]).map (·.name)).Nodup:=by
    rw[eC,pM];refine⟨nd,by simp,λa ha b hb=>?_⟩;simp at hb;subst hb;rintro rfl;exact e3 ha
   obtain⟨ps,g1,g2,g3,g4,g5⟩:=VJ ls {C0 with pools:=C0.pools++ [p]} C hr (.inl ∅) (λq hq=>by
    obtain hq|hq:=mem_append.mp hq
    .exact hn q hq
    .simp at hq;subst hq;exact P.Zc) nd' (by simp;omega) h2
   refine⟨p::ps,by rw[g1];simp,?_,g3,g4,g5⟩;exact bJ.mpr ⟨mp p,ps.map mp,(K4 hr).mpr ⟨rest,x,p,e,P,rfl⟩,g2,rfl⟩
theorem PQ:∀ls C0 qs,C0.races≠ []->C0.races.length<=16->(∀p∈C0.pools,isName p.name=true)->cM (λws=>eJ ws (C0.races.map hI)) (ls.map cl)=some qs->C0.pools.length+qs.length<=64->
  (C0.pools.map (λp=>cw p.name)++qs.map (·.name)).Nodup->∃ps,qs=ps.map mp/\ip (some C0) ls (some {C0 with pools:=C0.pools++ps})
 |[],C0,qs,_,_,_,h,_,_=>by
  cases h;exact⟨[],rfl,by simp[ip]⟩
 |l::ls,C0,qs,h0,hr,hn,h,hl,nd=>by
  obtain⟨q,qs,h1,h2,rfl⟩:=bJ.mp h;obtain⟨rest,x,p,e,P,rfl⟩:=(K4 hr).mp h1;have nd2:((C0.pools++ [p]).map (λp=>cw p.name)++qs.map (·.name)).Nodup:=by
   rw[eC,g9];exact nd
  obtain⟨ps,g1,g2⟩:=PQ ls {C0 with pools:=C0.pools++ [p]} qs h0 hr (λq hq=>by
    obtain hq|hq:=mem_append.mp hq
    .exact hn q hq
    .simp at hq;subst hq;exact P.Zc) h2 (by simp at hl⊢;omega) nd2
  refine⟨p::ps,by rw[g1];rfl,some {C0 with pools:=C0.pools++ [p]},.inr ⟨p,rest,x,e,h0,by simp at hl;omega,λhm=>?_,P,rfl⟩,?_⟩
  .obtain⟨p',hp',e'⟩:=mem_map.mp hm;rw[pM]at nd;refine nd.2.2 (cw p'.name) (mem_map.mpr ⟨p',hp',rfl⟩) (cw p.name) ?_ (by rw[e']);exact b8
  .have:C0.pools++p::ps=C0.pools++ [p] ++ps:=by simp
   rw[this];exact g2
def rH l:c7 (cl l)=decide (l.head?=some (ascii "race")):=by
 unfold c7;cases l with
 |nil=>rfl
 |cons w r=>
  have:(cl (w::r)).head?=some (cw w):=rfl;rw[this];simp only[Option.some.injEq,head?_cons,cw_race]
theorem VL:∀ls C0 C,C0.pools=[]->C0.races.length<=16->ip (some C0) ls (some C)->
  ∃rs,cM gA ((ls.map cl).takeWhile c7)=some (rs.map hI)/\C0.races.length+rs.length<=16/\ip (some {C0 with races:=C0.races++rs}) (ls.dropWhile λl=>decide (l.head?=some (ascii "race"))) (some C)
 |[],C0,C,_,hl,h=>⟨[],rfl,‹hl›,‹h›⟩
 |l::ls,C0,C,hp,hl,h=>by
  rw[aI,mr,mw,rH];by_cases hc:l.head?=some (ascii "race")
  .rw[hX hc,ag rfl,ag rfl];obtain⟨u,h1,h2⟩:=h;obtain⟨r,rest,e,e1,e2,e3,e4⟩|⟨p,rest,x,e,_⟩:=h1
   .subst e4;obtain⟨rs,g1,g2,g3⟩:=VL ls {C0 with races:=C0.races++ [r]} C hp (by simp;omega) h2;refine⟨r::rs,?_,by simp at g2⊢;omega,‹g3›⟩;refine bJ.mpr ⟨hI r,rs.map hI,?_,g1,rfl⟩;obtain⟨_,q⟩|⟨r',q1,q2⟩:=K0 (ascii "race") rest
    .exact absurd e3 (q r)
    .rw[e3.uniq q1];rw[<-q2,e]
   .rw[e]at hc;exact absurd (Option.some.inj hc) ⋯
  .rw[cU hc];exact⟨[],rfl,‹hl›,‹h›⟩
theorem PR:∀ls C0 hs,C0.pools=[]->cM gA ((ls.map cl).takeWhile c7)=some hs->C0.races.length+hs.length<=16->
  ∃rs,hs=rs.map hI/\∀C,(ip (some {C0 with races:=C0.races++rs}) (ls.dropWhile λl=>decide (l.head?=some (ascii "race"))) (some C)->ip (some C0) ls (some C))
 |[],C0,hs,_,h,_=>by
  cases h;exact⟨[],rfl,λC q=>‹q›⟩
 |l::ls,C0,hs,hp,h,hl=>by
  rw[aI,mr,rH]at h;rw[mw];by_cases hc:l.head?=some (ascii "race")
  .rw[hX hc,ag rfl]at h;rw[hX hc,ag rfl];obtain⟨y,ys,h1,h2,rfl⟩:=bJ.mp h;cases l with
   |nil=>cases hc
   |cons w rest=>
    have hw:=Option.some.inj hc;obtain⟨q,_⟩|⟨r,q1,q2⟩:=K0 w rest
    .have h1:=h1;rw[q]at h1;cases h1
    .have h1:=h1;rw[q2]at h1;cases h1;obtain⟨rs,g1,g2⟩:=PR ls {C0 with races:=C0.races++ [r]} ys hp h2 (by simp at hl⊢;omega);refine⟨r::rs,by rw[g1];rfl,λC q=>⟨some {C0 with races:=C0.races++ [r]},.inl ⟨r,rest,by rw[hw],hp,by simp at hl;omega,q1,rfl⟩,g2 C ?_⟩⟩;simpa using q
  .rw[cU hc]at h;rw[cU hc];simp only[Bool.false_eq_true,if_false]at h⊢;cases h;exact⟨[],rfl,λC q=>‹q›⟩
def uF b:i7 (cw b)=if(bV 10 [] b).getLast?.getD []=[]then some ((bV 10 [] b).dropLast.map λl=>cl (bV 32 [] l))else none:=by
 unfold i7;have e:cut 10 [] (cw b)=(bV 10 [] b).map cw:=aay b [];rw[e,getLast?_map];have e2:(Option.map cw (bV 10 [] b).getLast?).getD []=[]↔(bV 10 [] b).getLast?.getD []=[]:=by
  cases(bV 10 [] b).getLast? with
  |none=>simp
  |some x=>
   show cw x=[]↔x=[];unfold cw;rw[map_eq_nil_iff]
 simp only[e2];split
 .congr 1;rw[<-map_dropLast,bP];apply fF;intro l _;exact aaz l []
 .rfl
def mM{b:Bytes}:bV 10 [] b=ls++ [[]]↔(bV 10 [] b).getLast?.getD []=[]/\ls=(bV 10 [] b).dropLast:=by
 obtain⟨w,ws,h1,_⟩:=ik 10 b [];constructor
 .intro h;rw[h];simp
 .rintro⟨h2,rfl⟩;have ne:bV 10 [] b≠ []:=by rw[h1];simp
  have:=dropLast_concat_getLast ne;rw[getLast?_eq_some_getLast ne]at h2;have h2:(bV 10 [] b).getLast ne=[]:=h2;rw[h2]at this;exact this.symm
def lS(ls:List (List Bytes)):(ls.map cl).dropWhile c7=(ls.dropWhile λl=>decide (l.head?=some (ascii "race"))).map cl:=by
 induction ls with
 |nil=>rfl
 |cons l ls ih=>
  rw[aI,mw,mw,rH];split
  .exact ih
  .rfl
def MX(ls:List (List Bytes)):∀l,(ls.dropWhile λl=>decide (l.head?=some (ascii "race"))).head?=some l->l.head?≠some (ascii "race"):=by
 induction ls with
 |nil=>intro l h;cases h
 |cons a r ih=>
  intro l h;rw[mw]at h;by_cases hc:a.head?=some (ascii "race")
  .rw[hX hc,ag rfl]at h;exact ih l h
  .rw[cU hc]at h;have:=Option.some.inj h;subst this;exact hc
def names_nodup{ps:List Pool}(hn:∀p∈ps,isName p.name=true):((ps.map mp).map (·.name)).Nodup↔(ps.map (·.name)).Nodup:=by
 rw[bP]
 induction ps with
 |nil=>simp
 |cons p ps ih=>
  have ih:=ih λq hq=>hn q (bI _ hq);rw[aI,aI,nodup_cons,nodup_cons,ih];have:((λx:MP=>x.name)∘mp) p∈List.map ((λx:MP=>x.name)∘mp) ps↔p.name∈ps.map (·.name):=by
   rw[mem_map,mem_map];constructor
   .rintro⟨q,h1,h2⟩;exact⟨q,h1,PN (hn q (bI _ h1)) h2 (hn p b8)⟩
   .rintro⟨q,h1,h2⟩;refine⟨q,h1,?_⟩;show cw q.name=cw p.name;rw[h2]
  rw[this]
def K5{b:Bytes}(h:readCard b=.ok C):d7 (cw b)=some (C.races.map hI,C.pools.map mp)/\C.races.length<=16:=by
 obtain⟨⟨ls,h1,h2⟩,h3⟩:=kz.mp h;obtain⟨e1,e2⟩:=mM.mp h1;unfold d7;rw[uF,ag e1,<-e2];cases ls with
 |nil=>exact absurd h2 (by simp[ip])
 |cons d ls=>
  obtain⟨u,⟨n,g1,g2,g3⟩,h2⟩:=h2;subst g3;rw[aI];simp only;have hd:vW (cl (bV 32 [] d))=true:=by
   rw[g1];unfold vW;simp only[cl,map_cons,map_nil,length_cons,length_nil,getD_cons_zero,getD_cons_succ,tF,g2];decide
  rw[hd,af ⋯];have em:(ls.map λl=>cl (bV 32 [] l))=(ls.map (bV 32 [])).map cl:=by rw[bP];rfl
  rw[em];obtain⟨rs,r1,r2,r3⟩:=VL (ls.map (bV 32 [])) {noCard with name:=n} C rfl (cz _) h2;have r2:rs.length<=16:=by simpa[noCard]using r2
  obtain⟨ps,p1,p2,p3,p4,p5⟩:=VJ _ _ C (by simpa[noCard]using r2) (.inr (MX _)) (by simp[noCard]) (by simp[noCard]) (by simp[noCard]) r3;have er:C.races=rs:=by rw[p1];simp[noCard]
  have ep:C.pools=ps:=by rw[p1];simp[noCard]
  have lr:=gB r1;rw[az]at lr;have ne:rs≠ []:=by rw[<-er];exact h3
  have l1:=length_pos_iff.mpr ne;refine⟨?_,by rw[er];exact r2⟩;rw[af (by rw[<-lr];omega),r1];simp only;have lp:=gB p2;rw[az]at lp;rw[lS];have p2':cM (λws=>eJ ws (rs.map hI)) ((List.dropWhile (λl=>decide (l.head?=some (ascii "race"))) (ls.map (bV 32 []))).map cl)=some (ps.map mp):=by
   simpa[noCard]using p2
  rw[p2',af (by rw[<-lp,<-ep];omega)];simp only;rw[ag]
  .rw[er,ep]
  .rw[<-ep];exact(names_nodup p5).mpr p4
def PU{b:Bytes}(h:d7 (cw b)=some (rs,qs)):∃C,readCard b=.ok C/\rs=C.races.map hI/\qs=C.pools.map mp:=by
 unfold d7 at h;rw[uF]at h;split at h
 .cases h
 .cases h
 .rename_i d ls XM;split at XM
  .rename_i e1;split at h
   .cases h
   rename_i hd;split at h
   .cases h
   rename_i hrc;split at h
   .cases h
   rename_i races vA;split at h
   .cases h
   rename_i iG;split at h
   .cases h
   rename_i pools hpo;split at h
   .rename_i nd;cases h;have XM:=Option.some.inj XM;generalize hL:(bV 10 [] b).dropLast=L at XM;cases L with
    |nil=>cases XM
    |cons d0 L=>
     obtain⟨rfl,rfl⟩:=List.cons.inj XM;have em:(L.map λl=>cl (bV 32 [] l))=(L.map (bV 32 [])).map cl:=by rw[bP];rfl
     rw[em]at vA hrc iG hpo;have hd:vW (cl (bV 32 [] d0))=true:=‹hd›
     obtain⟨n,g1,g2⟩:∃n,bV 32 [] d0=[ascii "day",n]/\isName n=true:=by
      unfold vW at hd;simp only[Bool.and_eq_true,decide_eq_true_eq]at hd;obtain⟨q1,q2,q3⟩:=hd;rw[az]at q1;obtain⟨a,c,e⟩:=Gk q1;rw[e]at q2 q3;have q3:jg (cw c)=true:=q3;rw[tF]at q3;exact⟨c,by rw[e,(cw_day a).mp q2],q3⟩
     have lr:=gB vA;obtain⟨rl,r1,r2⟩:=PR (L.map (bV 32 [])) {noCard with name:=n} rs rfl vA (by simp[noCard];omega);have lrl:rl.length=rs.length:=by rw[r1,az]
     have gU:rl≠ []:=λz=>by
      rw[z]at lrl;simp at lrl;omega
     rw[lS]at hpo iG;have lp:=gB hpo;rw[r1]at hpo;obtain⟨ps,p1,p2⟩:=PQ _ {noCard with name:=n,races:=rl} qs gU (by simp;omega) (by simp[noCard]) hpo (by simp[noCard];omega) (by simpa[noCard]using nd);refine⟨⟨n,rl,ps⟩,kz.mpr ⟨⟨d0::L,mM.mpr ⟨e1,hL.symm⟩,some {noCard with name:=n},⟨n,g1,g2,rfl⟩,?_⟩,gU⟩,r1,p1⟩;refine r2 _ ?_;simpa[noCard]using p2
   .cases h
  .cases XM
end Pd
end
variable {q:Pd.MP}
section
namespace Pd
open Tote TotePoolCalls
noncomputable def jR(n:Int)(k:Nat):Int:=(List.range k).foldl (λr (t:Nat)=>r*(n-(t:Int))) 1
noncomputable def jh(races:List (List Int)):Int:=races.foldl (λr (l:List Int)=>r*(l.length:Int)) 1
noncomputable def countM(races:List (List Int))(p:MP):Int:=
 if p.kind=cp then jh ((races.drop (p.race-1).toNat).take p.k.toNat)else
  let n:Int:=((races.getD (p.race-1).toNat []).length:Int)
  if p.kind=dA then n else if p.kind=dB then jR n p.k.toNat else Int.fdiv (jR n p.k.toNat) (jR p.k p.k.toNat)
def yV n k:jR n (k+1)=jR n k*(n-(k:Int)):=by
 unfold jR;rw[range_succ,pN];rfl
theorem oF:∀n k,(orders n (k+1):Int)=(orders n k:Int)*((n:Int)-(k:Int))
 |0,0=>by simp[orders]|0,k+1=>by simp[orders]
 |n+1,0=>by simp[orders]
 |n+1,k+1=>by
  show(((n+1)*orders n (k+1):Nat):Int)=(((n+1)*orders n k:Nat):Int)*(((n+1:Nat):Int)-((k+1:Nat):Int));have e:((n+1:Nat):Int)-((k+1:Nat):Int)=(n:Int)-(k:Int):=by omega
  rw[e,sF,sF,oF n k,w6]
theorem gb(n:Nat):∀k:Nat,jR (n:Int) k=(orders n k:Int)
 |0=>by
  have:orders n 0=1:=by cases n<;>rfl
  rw[this];rfl
 |k+1=>by rw[yV,gb n k,oF]
theorem Ck:∀(l:List Race)(a:Nat),(l.map hI).foldl (λr (x:List Int)=>r*(x.length:Int)) (a:Int)=((((l.map Race.heads).map List.length).foldl (λ(x y:Nat)=>x*y) a:Nat):Int)
 |[],a=>rfl
 |r::l,a=>by
  rw[aI,fH,aI,aI,fH,<-Ck l];unfold hI;rw[az,sF]
structure MY(races:List (List Int))(p:MP):Prop where
 kd:p.kind=dA\/p.kind=dB\/p.kind=jr\/p.kind=cp
 k1:1<=p.k
 k2:p.k<=6
 r1:1<=p.race
 r2:p.race<=(races.length:Int)
 legs:p.kind=cp->p.race+p.k-1<=(races.length:Int)
def dn{w:List Nat}(h:within w lo hi=some n):lo<=n/\n<=hi/\n=dz w:=by
 unfold within at h;split at h
 .rename_i q;cases h;exact⟨q.1,q.2,rfl⟩
 .cases h
def Gs(h:eJ ws races=some p):MY races p:=by
 unfold eJ at h;split at h
 .cases h
 split at h
 .cases h
 split at h
 .cases h
 split at h
 .cases h
 rename_i lh hk;split at h
 .cases h
 rename_i k Gr;split at h
 .cases h
 rename_i race vA;split at h
 .cases h
 split at h
 .cases h
 split at h
 .cases h
 split at h
 .cases h
 split at h
 .cases h
 split at h
 .cases h
 split at h
 .cases h
 cases h;obtain⟨k1,k2,_⟩:=dn Gr;have hkd:(ws.getD 2 []=dA\/ws.getD 2 []=dB\/ws.getD 2 []=jr\/ws.getD 2 []=cp)/\1<=lh.1/\lh.2<=6:=by
  unfold kindB at hk;split at hk
  .rename_i q;cases hk;exact⟨.inl q,by decide,by decide⟩
  split at hk
  .rename_i q;cases hk;exact⟨.inr (.inl q),by decide,by decide⟩
  split at hk
  .rename_i q;cases hk;exact⟨.inr (.inr (.inl q)),by decide,by decide⟩
  split at hk
  .rename_i q;cases hk;exact⟨.inr (.inr (.inr q)),by decide,by decide⟩
  cases hk
 unfold fC at vA;split at vA
 .cases vA
 rename_i r hr;obtain⟨r1,r2,_⟩:=dn hr;split at vA
 .split at vA
  .rename_i q2;cases vA;exact⟨hkd.1,by show 1<=k;omega,by show k<=6;omega,r1,r2,λ_=>q2⟩
  .cases vA
 .rename_i q;split at vA
  .cases vA;exact⟨hkd.1,by show 1<=k;omega,by show k<=6;omega,r1,r2,λz=>absurd z q⟩
  .cases vA
theorem oG{f:α->Option β}:∀{l}{ys},cM f l=some ys->∀y∈ys,∃x∈l,f x=some y
 |[],ys,h,y,hy=>by cases h;cases hy
 |a::l,ys,h,y,hy=>by
  obtain⟨z,zs,h1,h2,rfl⟩:=bJ.mp h;obtain rfl|hy:=mem_cons.mp hy
  .exact⟨a,b8,h1⟩
  .obtain⟨x,h3,h4⟩:=oG h2 y hy;exact⟨x,bI _ h3,h4⟩
def count_eq{C:Card}(P:MY (C.races.map hI) (mp p)):countM (C.races.map hI) (mp p)=(C.many p:Int):=by
 have r1:1<=(p.race:Int):=P.r1;have r2:(p.race:Int)<=((C.races.map hI).length:Int):=P.r2;rw[az]at r2;have e:((mp p).race-1).toNat=p.race-1:=by show((p.race:Int)-1).toNat=_;omega
 have ek:(mp p).k.toNat=p.k:=by show((p.k:Int)).toNat=_;omega
 unfold countM Card.many;rw[e,ek];have hd:∀i,p.legs=i+1->((C.sets p).headD []).length=((C.races.map hI).getD (p.race-1) []).length:=λi hi=>by
  unfold Card.sets;rw[hi,range_succ_eq_map,aI,headD_cons];unfold Card.headsOf;rw[sA,cT,aZ];cases C.races[p.race-1]? with
  |none=>rfl|some x=>simp[hI]
 obtain⟨nm,kd,k,r,z,t,b,m,u⟩:=p;cases kd with
 |legs=>
  rw[ag (show(mp ⟨nm,.legs,k,r,z,t,b,m,u⟩).kind=cp from fg.mpr rfl)];have hl:(r:Int)+(k:Int)-1<=((C.races.map hI).length:Int):=P.legs (fg.mpr rfl);rw[az]at hl;show jh (((C.races.map hI).drop (r-1)).take k)=((product (((List.range k).map λ(i:Nat)=>C.headsOf (r+i)).map List.length):Nat):Int);have es:((List.range k).map λ(i:Nat)=>C.headsOf (r+i))=((C.races.drop (r-1)).take k).map Race.heads:=by
   apply ext_getElem
   .have r1:1<=(r:Int):=r1;simp only[length_map,length_range,length_take,length_drop];omega
   .intro i h1 h2;have r1:1<=(r:Int):=r1;simp only[getElem_map,getElem_range,getElem_take,getElem_drop];simp only[length_map,length_range]at h1;unfold Card.headsOf;have hb:r-1+i<C.races.length:=by omega
    have e1:r+i-1=r-1+i:=by omega
    rw[e1,bt hb];rfl
  rw[es];unfold jh product;rw[<-map_drop,<-map_take];exact Ck _ 1
 |place=>
  rw[af (show¬(mp ⟨nm,.place,k,r,z,t,b,m,u⟩).kind=cp from λq=>by cases fg.mp q)];simp only;rw[ag (show(mp ⟨nm,.place,k,r,z,t,b,m,u⟩).kind=dA from f9.mpr rfl)];have:=hd 0 rfl;rw[this]
 |order=>
  rw[af (show¬(mp ⟨nm,.order,k,r,z,t,b,m,u⟩).kind=cp from λq=>by cases fg.mp q)];simp only;rw[af (show¬(mp ⟨nm,.order,k,r,z,t,b,m,u⟩).kind=dA from λq=>by cases f9.mp q),
   ag (show(mp ⟨nm,.order,k,r,z,t,b,m,u⟩).kind=dB from(by decide:cw (gZ .order)=dB))]
  have:=hd 0 rfl;rw[gb,this]
 |any=>
  rw[af (show¬(mp ⟨nm,.any,k,r,z,t,b,m,u⟩).kind=cp from λq=>by cases fg.mp q)];simp only;rw[af (show¬(mp ⟨nm,.any,k,r,z,t,b,m,u⟩).kind=dA from λq=>by cases f9.mp q),
   af (show¬(mp ⟨nm,.any,k,r,z,t,b,m,u⟩).kind=dB from(by decide:¬cw (gZ .any)=dB))]
  have:=hd 0 rfl;have ek2:(mp ⟨nm,.any,k,r,z,t,b,m,u⟩).k=(k:Int):=rfl;rw[gb,ek2,gb,this];unfold choose;rw[Int.fdiv_eq_ediv_of_nonneg _ (Int.natCast_nonneg _)];exact Int.ofNat_ediv_ofNat
noncomputable def kC(n:Int):Int->List Int->Bool
 |before,a::b::r=>decide (before<a)&&(decide (a<n)&&(decide (1<=b)&&kC n a r))|_,_=>true
noncomputable def yW:List Int->List Int
 |_::b::r=>b::yW r|_=>[]
noncomputable def DN(money:List Int):Int:=(yW money).sum
noncomputable def dN(money:List Int)(n:Int):Bool:=decide (money.length<=524288)&&(kC n (-1) money&&decide (DN money<=281474976710655))
theorem vC:∀l a,(∀x∈l,0<=x)->((((PoolNeutral.pairs l).map λ(x:Nat×Nat)=>x.2).foldl (λ(a b:Nat)=>a+b) a:Nat):Int)=(a:Int)+(yW l).sum
 |[],a,_=>by simp[PoolNeutral.pairs,yW]|[x],a,_=>by simp[PoolNeutral.pairs,yW]
 |x::y::r,a,h=>by
  have h2:=h y ∅;show((((PoolNeutral.pairs r).map λ(x:Nat×Nat)=>x.2).foldl (λ(a b:Nat)=>a+b) (a+y.toNat):Nat):Int)=(a:Int)+(y::yW r).sum;rw[vC r (a+y.toNat) λz hz=>h z (by simp[hz]),sum_cons];omega
def Gu{l:List Int}(h:∀x∈l,0<=x):((Money.total (PoolNeutral.pairs l):Nat):Int)=DN l:=by
 unfold Money.total DN;rw[vC l 0 h];simp
theorem pairs_len:∀l:List Int,(PoolNeutral.pairs l).length=l.length/2
 |[]=>by simp[PoolNeutral.pairs]|[x]=>by simp[PoolNeutral.pairs]
 |x::y::r=>by
  have:=pairs_len r;simp only[PoolNeutral.pairs,length_cons];omega
theorem K6{n:Nat}:∀l,(∀x∈l,0<=x)->∀before:Int,kC (n:Int) before l=true↔
  (∀x,(PoolNeutral.pairs l).head?=some x->before<(x.1:Int))/\risesN ((PoolNeutral.pairs l).map λ(x:Nat×Nat)=>x.1)=true/\(PoolNeutral.pairs l).all (λ(x:Nat×Nat)=>decide (x.1<n)&&decide (0<x.2))=true
 |[],_,before=>by simp[kC,PoolNeutral.pairs,risesN]|[x],_,before=>by simp[kC,PoolNeutral.pairs,risesN]
 |x::y::r,h,before=>by
  have hx:=h x ∅;have ih:=K6 (n:=n) r (λz hz=>h z (by simp[hz])) x;show(decide (before<x)&&(decide (x<(n:Int))&&(decide (1<=y)&&kC (n:Int) x r)))=true↔(∀z,some (x.toNat,y.toNat)=some z->before<(z.1:Int))/\risesN (x.toNat::(PoolNeutral.pairs r).map λ(x:Nat×Nat)=>x.1)=true/\((decide (x.toNat<n)&&decide (0<y.toNat))&&(PoolNeutral.pairs r).all (λ(x:Nat×Nat)=>decide (x.1<n)&&decide (0<x.2)))=true;simp only[Bool.and_eq_true,decide_eq_true_eq];rw[ih];have er:risesN (x.toNat::(PoolNeutral.pairs r).map λ(x:Nat×Nat)=>x.1)=true↔(∀z,(PoolNeutral.pairs r).head?=some z->x<(z.1:Int))/\risesN ((PoolNeutral.pairs r).map λ(x:Nat×Nat)=>x.1)=true:=by
   cases PoolNeutral.pairs r with
   |nil=>simp[risesN]
   |cons z zs=>
    show(decide (x.toNat<z.1)&&risesN (z.1::zs.map λ(x:Nat×Nat)=>x.1))=true↔(∀q,some z=some q->x<(q.1:Int))/\risesN (z.1::zs.map λ(x:Nat×Nat)=>x.1)=true;rw[bH,jf];constructor
    .rintro⟨h1,h2⟩;exact⟨λq hq=>by cases hq;omega,h2⟩
    .rintro⟨h1,h2⟩;exact⟨by have:=h1 z rfl;omega,h2⟩
  rw[er];constructor
  .rintro⟨h1,h2,h3,h4,h5,h6⟩;exact⟨λz hz=>by cases hz;show before<((x.toNat:Nat):Int);omega,⟨h4,h5⟩,⟨by omega,by omega⟩,h6⟩
  .rintro⟨h1,⟨h4,h5⟩,⟨h2,h3⟩,h6⟩;have h1:=h1 _ rfl;exact⟨by omega,by omega,by omega,h4,h5,h6⟩
def yX{n:Nat}{l:List Int}(h:∀x∈l,0<=x)(hl:l.length%2=0):dN l (n:Int)=Money.right n (PoolNeutral.pairs l):=by
 rw[jJ];unfold dN Money.right;rw[bH,bH,K6 l h (-1)];simp only[Bool.and_eq_true,decide_eq_true_eq];have hp:=pairs_len l;have ht:=Gu h;unfold ENTRIES CENTS;constructor
 .rintro⟨h1,⟨_,h2,h3⟩,h4⟩;exact⟨h2,h3,by omega,by omega⟩
 .rintro⟨h2,h3,h4,h5⟩;exact⟨by omega,⟨λx _=>by omega,h2,h3⟩,by omega⟩
noncomputable def qk(card:List Int):List Nat:=card.map λi=>sg i.toNat
def yY(h:∀x∈card,0<=x/\x<=255):qk card=cw (PoolNeutral.text card):=by
 unfold qk cw PoolNeutral.text PoolNeutral.nats;rw[bP,bP];apply fF;intro x hx;have:=h x hx;show sg x.toNat=sg (UInt8.ofNat x.toNat).toNat;rw[UInt8.toNat_ofNat',Nat.mod_eq_of_lt ()]
def PV{ps:List MP}(h:d7 codes=some (rs,ps)):∀p∈ps,MY rs p:=by
 unfold d7 at h;split at h
 .cases h
 .cases h
 split at h
 .cases h
 split at h
 .cases h
 split at h
 .cases h
 split at h
 .cases h
 split at h
 .cases h
 rename_i hq;split at h
 .cases h;intro p hp;obtain⟨ws,_,h1⟩:=oG hq p hp;exact Gs h1
 .cases h
noncomputable def atM(k:Int):List Int->Option Int
 |a::b::r=>if a=k then some b else atM k r
 |_=>none
theorem PX:∀l:List Int,(∀x∈l,0<=x)->((Money.on (PoolNeutral.pairs l) n:Nat):Int)=(atM (n:Int) l).getD 0
 |[],_=>by rfl|[x],_=>by rfl
 |a::b::r,h=>by
  have ih:=PX (n:=n) r (λz hz=>h z (by simp[hz]));have ha:=h a ∅;have hb:=h b ∅;show((Money.on ((a.toNat,b.toNat)::PoolNeutral.pairs r) n:Nat):Int)=(if a=(n:Int)then some b else atM n r).getD 0;unfold Money.on at ih⊢;by_cases e:a=(n:Int)
  .rw[ag e,find?_cons_of_pos (by simp[e])];show((b.toNat:Nat):Int)=b;omega
  .rw[af e,find?_cons_of_neg (by simp;omega)];exact ih
end Pd
end
section
namespace L2
open PySem PySem.Spec PyProof.Rows
def adJ{us:List α}(h:us.length=0):us=[]:=length_eq_zero_iff.mp h
def MZ{us:List α}(h:us.length=n+1):∃a r,us=a::r/\r.length=n:=by
 cases us with
 |nil=>cases h
 |cons a r=>exact⟨a,r,rfl,Nat.succ.inj h⟩
def n9{us:List α}(h:us.length=1):∃a,us=[a]:=by
 obtain⟨a,r,e,h⟩:=MZ h;rw[e,adJ h];exact⟨a,rfl⟩
def mO{us:List α}(h:us.length=2):∃a b,us=[a,b]:=by
 obtain⟨a,r,e,h⟩:=MZ h;obtain⟨b,q⟩:=n9 h;exact⟨a,b,by rw[e,q]⟩
def IX{us:List α}(h:us.length=3):∃a b c,us=[a,b,c]:=by
 obtain⟨a,r,e,h⟩:=MZ h;obtain⟨b,c,q⟩:=mO h;exact⟨a,b,c,by rw[e,q]⟩
def T2{us:List α}(h:us.length=4):∃a b c d,us=[a,b,c,d]:=by
 obtain⟨a,r,e,h⟩:=MZ h;obtain⟨b,c,d,q⟩:=IX h;exact⟨a,b,c,d,by rw[e,q]⟩
def aaB{us:List α}(h:us.length=5):∃a b c d x,us=[a,b,c,d,x]:=by
 obtain⟨a,r,e,h⟩:=MZ h;obtain⟨b,c,d,x,q⟩:=T2 h;exact⟨a,b,c,d,x,by rw[e,q]⟩
def adK{us:List α}(h:us.length=6):∃a b c d x y,us=[a,b,c,d,x,y]:=by
 obtain⟨a,r,e,h⟩:=MZ h;obtain⟨b,c,d,x,y,q⟩:=aaB h;exact⟨a,b,c,d,x,y,by rw[e,q]⟩
structure Def(K:PySem.W.Frag)(mg:Str->Option Value)(x:Str)(st:Stmt)(ps:List Str):Prop where
 ex:∃f fd,mg x=some (.ref f)/\KQ K x x st f fd/\Binds K fd ps []
structure Ok(P:Program)(w:World)(K:PySem.W.Frag)(mg:Str->Option Value)(base:Heap)(CX:Oj)(k:Nat)(x:Str)(ps:List Str)(sp:Sp):Prop where
 ex:∃f fd,nZ P w K mg base CX k f fd ps sp/\mg x=some (.ref f)/\PySem.W.keepIn K (.ref f)=true/\Binds K fd ps []
section
variable {k:Nat}
theorem Def.ok(D:Def K mg x st ps)(S:aE N ps (ao st))(len:∀vs H Q E,sp vs H Q E->vs.length=ps.length)(gv:∀f b9 A outer s H vs Q E,dY k (A.deeper (envOfC x (ao st) s.heap.objs.size f b9))->sp vs H Q E->
   ∃t,vS (kb eX P w K mg base N x (ao st) f b9 A outer s H E).Oi (ck st) t/\t {nx:=λ_ H'=>Q .cV H',rt:=Q} (start N vs) H):Ok P w K mg base eX (k+1) x ps sp:=by
 obtain⟨f,fd,hm,F,B⟩:=D.ex;exact⟨f,fd,F.ok S len (gv f),hm,F.kp,B⟩
theorem Def.B9(D:Def K mg x st ps)(S:aE N ps (ao st))(len:∀vs H Q E,sp vs H Q E->vs.length=ps.length)(gv:∀f b9 A outer s H vs Q E,dY k (A.deeper (envOfC x (ao st) s.heap.objs.size f b9))->sp vs H Q E->
   ∃t,vS (kb (fW P w) P w K mg base N x (ao st) f b9 A outer s H E) (ck st) t/\t {nx:=λ_ H'=>Q .cV H',rt:=Q} (start N vs) H):Ok P w K mg base (fW P w) (k+1) x ps sp:=by
 obtain⟨f,fd,hm,F,B⟩:=D.ex;exact⟨f,fd,F.B9 S len (gv f),hm,F.kp,B⟩
theorem Def.ok0(D:Def K mg x st ps)(S:aE N ps (ao st))(len:∀vs H Q E,sp vs H Q E->vs.length=ps.length)(gv:∀f b9 A outer s H vs Q E,dY k (A.deeper (envOfC x (ao st) s.heap.objs.size f b9))->sp vs H Q E->
   ∃t,DJ (kb eX P w K mg base N x (ao st) f b9 A outer s H E).Oi (ck st) t/\t {nx:=λ_ H'=>Q .cV H',rt:=Q} (start N vs) H):Ok P w K mg base eX (k+1) x ps sp:=by
 obtain⟨f,fd,hm,F,B⟩:=D.ex;exact⟨f,fd,F.ok0 S len (gv f),hm,F.kp,B⟩
end
section
variable {p:Pos}
def ax{k:Nat}{E:XK}{es:List Expr}{t:TA}(G:Ok X.prog X.w X.K X.mg X.base CX k x ps sp)(hr:dY k X.A)(hg:Gl X x)(hx:Passes CX X E)(ha:PA X (e::es) t)(BH:(x==("__debug__":Str))=false:=by decide)(he:starEach (e::es) X.env=(false,eval e X.env)::starEach es X.env:=by rfl)(iG:(backTo pos (starEach es X.env)).any (·.1)=false:=by rfl):
  PE X (.Call (.Name x p) (e::es) [] pos) (BF sp [] E t):=by
 obtain⟨f,fd,F,a,b,c⟩:=G.ex;exact Te F hr hg a b c .nil hx ha BH he iG
structure CL(P:Program)(w:World)(K:PySem.W.Frag)(mg:Str->Option Value)(base:Heap)(x:Str)(C:Addr)(ps:List Str)(sp:Sp)(fs:List Str):Prop where
 ex:∃f fd,Mk K C f/\nZ P w K mg base eX 1 f fd ps sp/\Binds K fd ps []
 mg:mg x=some (.ref C)
 cl:FH K C
 no:∀f∈fs,cH K C f
def VM{C:Addr}{fs:List Str}{es:List Expr}{t:TA}(G:CL X.prog X.w X.K X.mg X.base x C ps sp fs)(hr:dY 2 X.A)(hg:Gl X x)(ha:PA X (e::es) t)(BH:(x==("__debug__":Str))=false:=by decide)(he:starEach (e::es) X.env=(false,eval e X.env)::starEach es X.env:=by rfl)(iG:(backTo pos (starEach es X.env)).any (·.1)=false:=by rfl):
  PE X (.Call (.Name x p) (e::es) [] pos) (BG C sp [] E0 t):=by
 obtain⟨f,fd,M,F,B⟩:=G.ex;exact Tf M F hr hg G.mg B .nil cu ha BH he iG
theorem M0{a b A B:Prop} [Decidable a] [Decidable b]:(if a then(if b then A else B)else B)=(if a/\b then A else B):=by
 by_cases h:a<;>by_cases h':b<;>simp[h,h']
theorem Gv{a b A B:Prop} [Decidable a] [Decidable b]:(if a then A else(if b then A else B))=(if a\/b then A else B):=by
 by_cases h:a<;>by_cases h':b<;>simp[h,h']
def lT(mg:Str->Option Value)(x:Str)(n:Int):Prop:=∃t,mg x=some (.int n t)
def T3(mg:Str->Option Value)(x:Str)(y:Str):Prop:=∃t,mg x=some (.str y t)
def cQ{n:Int}(h:lT X.mg x n)(hg:Gl X x)(hd:(x==("__debug__":Str))=false:=by decide):PE X (.Name x pos) (tC (.int n)):=by
 obtain⟨t,e⟩:=h;exact Dg hg e ⟨t,rfl⟩ hd
def ql{y:Str}(h:T3 X.mg x y)(hg:Gl X x)(hd:(x==("__debug__":Str))=false:=by decide):PE X (.Name x pos) (tC (.str y)):=by
 obtain⟨t,e⟩:=h;exact Dg hg e ⟨t,rfl⟩ hd
def mP(h:X.mg x=some (.ref a))(hg:Gl X x)(hd:(x==("__debug__":Str))=false:=by decide):PE X (.Name x pos) (tC (.ref a)):=Dg hg h rfl hd
end
end L2
end
section
namespace L2
open PySem PySem.Spec PyProof.Rows
open Pd (cM lR vB)
section
variable {cd:Value} {outer:List Env} {E:XK}
theorem PY:(kb CX P w K mg base N qual scope f cd A outer s H E).K=K:=rfl
theorem PZ:(kb CX P w K mg base N qual scope f cd A outer s H E).prog=P:=rfl
theorem P0:(kb CX P w K mg base N qual scope f cd A outer s H E).w=w:=rfl
end
theorem VN{a b:Int}:Dj (.int a) (.int b)=true:=rfl
theorem qO{a b:Str}:Dj (.str a) (.str b)=true:=rfl
theorem VO{a b:Bool}:Dj (.bl a) (.bl b)=true:=rfl
theorem VP{a:Int}{b:Str}:Dj (.int a) (.str b)=true:=rfl
theorem VQ{a:Str}{b:Int}:Dj (.str a) (.int b)=true:=rfl
theorem XN{a b:Str}:Io (.str a) (.str b)=(a==b):=rfl
def aw.rfl':aw H H:=λ_ _ h=>h
def yZ(D:Addr)(H H':Hp):Prop:=∀b o,b≠D->H b=some o->H' b=some o
def aw.new(h:H D=Option.none):aw H (upd H D o):=λb u e=>by
 rw[aB (bF e h)];exact e
def aw.kD(s:aw H H')(h:H D=Option.none):aw H (upd H' D o):=λb u e=>by
 rw[aB (bF e h)];exact s _ _ e
theorem yZ.upd:yZ D H (upd H D o):=λb u hb e=>by
 rw[aB hb];exact e
def aw.tup(e:aw H H')(h:jM K H a xs):jM K H' a xs:=by
 obtain(h|⟨o,h⟩)|h:=h
 .exact .inl (.inl (e _ _ h))
 .exact .inl (.inr ⟨o,e _ _ h⟩)
 .exact .inr h
theorem bp:∀{l:List α}{i}{x},l[i]?=some x->l.take (i+1)=l.take i++ [x]
 |[],i,x,h=>by simp at h
 |a::l,0,x,h=>by
  have e:=Option.some.inj h;subst e;rfl
 |a::l,i+1,x,h=>by
  have ih:=bp (i:=i) (x:=x) h;show a::l.take (i+1)=a::l.take i++ [x];rw[ih];rfl
def fS(rel:Hp->V->α->Prop)(us:List β) f
  (hlen:us.length=xs.length) (hz:xs.length<=sizeLine) (hD:H1 D=none) (hl:aM K H1 a xs)
  (stab:∀H H' v z,yZ D H H'->rel H v z->rel H' v z)
  (hs:∀(i:Nat) x u H',xs[i]?=some x->us[i]?=some u->aw H1 H'->(∃acc,H' D=some (.lst acc))->∀R:VK,(∀y H4 z,f u=some z->aw H' H4->rel H4 y z->R y H4)->te (σ.set j (some x)) H' R)
  (hd:∀H' ys zs,aw H1 H'->H' D=some (.lst ys)->cM f us=some zs->Paired (rel H') ys zs->Qd H'):
  ∃W:Nat->Nat->Hp->Prop,(∃m,W 0 m (upd H1 D (.lst [])))/\∀i m H,W i m H->
   ((OJ K a).stop i H/\Qd H)\/((OJ K a).go i H/\∃Nx:Hp->Prop,(∀H',Nx H'->∃m',m'<m/\W (i+1) m' H')/\∀x H',(OJ K a).Fp i H x H'->oq j x (wipe σ [j]) H' λσ2 H2=>wipe σ2 [j]=wipe σ [j]/\FR σ2 H2 λb H3=>
    if b=true then te σ2 H3 λy H4=>∃acc,H4 D=some (.lst acc)/\acc.length<sizeLine/\Nx (upd H4 D (.lst (acc++ [y])))else Nx H3):=by
 refine Tt (λi H'=>aw H1 H'/\∃ys zs,H' D=some (.lst ys)/\cM f (us.take i)=some zs/\Paired (rel H') ys zs) ⟨aw.new hD,[],[],ak,rfl,.nil⟩ (λi H' _ h=>h.1.seq hl) ?_ ?_
 .rintro i x H' hx ⟨sm,ys,zs,i9,hm,hp⟩;have hi:i<us.length:=by rw[hlen];exact(List.getElem?_eq_some_iff.mp hx).1
  obtain⟨u,hu⟩:∃u,us[i]?=some u:=⟨_,bt hi⟩;have hn:ys.length<sizeLine:=by
   have e1:=Paired.eQ hp;have e2:=Pd.gB hm;rw[e1,e2,cP,pI (iD hi)];omega
  refine⟨?_,?_⟩
  .show(((σ.set j none).set j (some x)).set j none)=σ.set j none;rw[pO,pO]
  .show te ((σ.set j none).set j (some x)) H' _;rw[pO];refine hs i x u H' hx hu sm ⟨ys,i9⟩ _ λy H4 z hf s4 r4=>⟨ys,s4 _ _ i9,hn,?_⟩;refine⟨λb o e=>?_,ys++ [y],zs++ [z],ak,?_,?_⟩
   .rw[aB (bF e hD)];exact s4 _ _ (sm _ _ e)
   .rw[bp hu,lR,hm];rw[hf]
   .refine ki (Paired.fU hp λv z h=>stab H' _ v z (λb o hb e=>?_) h) (stab H4 _ y z yZ.upd r4);rw[aB hb];exact s4 _ _ e
 .rintro H' ⟨sm,ys,zs,i9,hm,hp⟩;rw[<-hlen,et]at hm;exact hd H' ys zs sm i9 hm hp
def T4{J:It}(rel:Hp->V->α->Prop)(us:List β) f
  (hlen:us.length=xs.length) (hz:xs.length<=sizeLine) (hD:H1 D=none) (hgo:∀i H',aw H1 H'->i<xs.length->J.go i H') (Zb:∀i H' x H2,aw H1 H'->i<xs.length->J.Fp i H' x H2->H2=H'/\xs[i]?=some x) (p6:∀H',aw H1 H'->J.stop xs.length H')
  (stab:∀H H' v z,yZ D H H'->rel H v z->rel H' v z)
  (hs:∀(i:Nat) x u H',xs[i]?=some x->us[i]?=some u->aw H1 H'->(∃acc,H' D=some (.lst acc))->∀R:VK,(∀y H4 z,f u=some z->aw H' H4->rel H4 y z->R y H4)->te (σ.set j (some x)) H' R)
  (hd:∀H' ys zs,aw H1 H'->H' D=some (.lst ys)->cM f us=some zs->Paired (rel H') ys zs->Qd H'):
  ∃W:Nat->Nat->Hp->Prop,(∃m,W 0 m (upd H1 D (.lst [])))/\∀i m H,W i m H->
   (J.stop i H/\Qd H)\/(J.go i H/\∃Nx:Hp->Prop,(∀H',Nx H'->∃m',m'<m/\W (i+1) m' H')/\∀x H',J.Fp i H x H'->oq j x (wipe σ [j]) H' λσ2 H2=>wipe σ2 [j]=wipe σ [j]/\FR σ2 H2 λb H3=>
    if b=true then te σ2 H3 λy H4=>∃acc,H4 D=some (.lst acc)/\acc.length<sizeLine/\Nx (upd H4 D (.lst (acc++ [y])))else Nx H3):=by
 refine⟨λi m H'=>m=xs.length-i/\i<=xs.length/\aw H1 H'/\∃ys zs,H' D=some (.lst ys)/\cM f (us.take i)=some zs/\Paired (rel H') ys zs,⟨xs.length,by simp,cz _,aw.new hD,[],[],ak,rfl,.nil⟩,?_⟩;rintro i m H' ⟨rfl,hi0,sm,ys,zs,i9,hm,hp⟩;by_cases dR:i<xs.length
 .refine .inr ⟨hgo i H' sm dR,λH'=>aw H1 H'/\∃ys zs,H' D=some (.lst ys)/\cM f (us.take (i+1))=some zs/\Paired (rel H') ys zs,λH' p'=>⟨xs.length-(i+1),by omega,rfl,dR,p'⟩,λx H2 y=>?_⟩;obtain⟨e,hx⟩:=Zb i H' x H2 sm dR y;subst e;have hi:i<us.length:=by rw[hlen];exact(List.getElem?_eq_some_iff.mp hx).1
  obtain⟨u,hu⟩:∃u,us[i]?=some u:=⟨_,bt hi⟩;have hn:ys.length<sizeLine:=by
   have e1:=Paired.eQ hp;have e2:=Pd.gB hm;rw[e1,e2,cP,pI (iD hi)];omega
  refine⟨?_,?_⟩
  .show(((σ.set j none).set j (some x)).set j none)=σ.set j none;rw[pO,pO]
  .show te ((σ.set j none).set j (some x)) H2 _;rw[pO];refine hs i x u H2 hx hu sm ⟨ys,i9⟩ _ λy H4 z hf s4 r4=>⟨ys,s4 _ _ i9,hn,?_⟩;refine⟨λb o e=>?_,ys++ [y],zs++ [z],ak,?_,?_⟩
   .rw[aB (bF e hD)];exact s4 _ _ (sm _ _ e)
   .rw[bp hu,lR,hm];rw[hf]
   .refine ki (Paired.fU hp λv z h=>stab H2 _ v z (λb o hb e=>?_) h) (stab H4 _ y z yZ.upd r4);rw[aB hb];exact s4 _ _ e
 .have e:i=xs.length:=by omega
  subst e;rw[<-hlen,et]at hm;exact .inl ⟨p6 H' sm,hd H' ys zs sm i9 hm hp⟩
def M5{w:Str}(rel:Hp->V->α->Prop) f
  (hz:w.cps.size<=sizeLine) (hD:H1 D=none) (stab:∀H H' v z,yZ D H H'->rel H v z->rel H' v z)
  (hs:∀c H',c∈w.cps.toList->aw H1 H'->(∃acc,H' D=some (.lst acc))->∀R:VK,(∀y H4 z,f c=some z->aw H' H4->rel H4 y z->R y H4)->te (σ.set j (some (.str ⟨#[c]⟩))) H' R)
  (hd:∀H' ys zs,aw H1 H'->H' D=some (.lst ys)->cM f w.cps.toList=some zs->Paired (rel H') ys zs->Qd H'):
  ∃W:Nat->Nat->Hp->Prop,(∃m,W 0 m (upd H1 D (.lst [])))/\∀i m H,W i m H->
   ((Its w).stop i H/\Qd H)\/((Its w).go i H/\∃Nx:Hp->Prop,(∀H',Nx H'->∃m',m'<m/\W (i+1) m' H')/\∀x H',(Its w).Fp i H x H'->oq j x (wipe σ [j]) H' λσ2 H2=>wipe σ2 [j]=wipe σ [j]/\FR σ2 H2 λb H3=>
    if b=true then te σ2 H3 λy H4=>∃acc,H4 D=some (.lst acc)/\acc.length<sizeLine/\Nx (upd H4 D (.lst (acc++ [y])))else Nx H3):=by
 refine T4 (xs:=w.cps.toList.map λc=>V.str ⟨#[c]⟩) rel w.cps.toList f ∅ ‹hz› hD (λi H' _ h=>?_) (λi H' x H2 _ h y=>?_) (λH' _=>?_) stab ?_ hd
 .show i<w.cps.size;simpa using h
 .obtain⟨e,c,hc,rfl⟩:=y;refine⟨e,?_⟩;rw[aZ,dv,hc];rfl
 .show w.cps.size<=_;simp
 .intro i x u H' hx hu sm ha R k;rw[aZ,hu]at hx;have e:=Option.some.inj hx;subst e;exact hs u H' (bg hu) sm ha R k
end L2
end
section
namespace Pd
open PySem PySem.Spec PyProof.Rows L2 TL
noncomputable abbrev S(w:List Nat):Str:=⟨w.toArray⟩
def aaC x:S (tl x)=x:=by
 simp[S,tl]
def XO w:tl (S w)=w:=by simp[S,tl]
theorem qP w:(S w).length=w.length:=by
 show(w.toArray).size=_;simp
theorem cS{v w:List Nat}:S v=S w↔v=w:=by
 constructor
 .intro h;rw[<-XO v,h,XO]
 .intro h;rw[h]
theorem Cm:∀l:List (List Nat),B3 [] l=l.flatten
 |[]=>rfl|[p]=>by simp[B3]
 |p::q::r=>by
  show p++([] ++B3 [] (q::r))=_;rw[Cm (q::r)];simp
def IY l:Txt.join (Str.ofString "") (l.map λc=>S [c])=S l:=by
 rw[join_eq,<-aaC (Str.join _ _),KL,cS];have e:tl (Str.ofString "")=[]:=by decide+kernel
 rw[e,Cm,bP]
 induction l with
 |nil=>rfl
 |cons c r ih=>
  rw[aI,mz,ih];show tl (S [c])++r=_;rfl
theorem DP c:∀l acc:List Nat,vU [c] 0 acc l=cut c acc l
 |[],acc=>rfl
 |x::r,acc=>by
  show(if pre [c] (x::r)=true then acc::vU [c] ([c].length-1) [] r else vU [c] 0 (acc++ [x]) r)=if x=c then acc::cut c [] r else cut c (acc++ [x]) r
  have e:(pre [c] (x::r)=true)↔x=c:=by
   unfold pre;simp
  by_cases h:x=c
  .rw[ag h,ag (e.mpr h)];show acc::vU [c] 0 [] r=_;rw[DP c r]
  .rw[af h,af (λz=>h (e.mp z)),DP c r]
def uG{y:Str}(hy:tl y=[c])(hk:y.cps.all (·<256)=true) t:Txt.split (S t) y=(cut c [] t).map S:=by
 have e:=MI (S t) y (by rw[hy];simp) (TH hk);rw[hy,XO,DP]at e;rw[<-e,bP]
 conv=>lhs;rw[<-map_id (Txt.split (S t) y)]
 exact fF λx _=>(aaC x).symm
def T5(w:List Nat):Prop:=w.length<=70000/\∀c∈w,c<128
def VR n:sg n<128:=by
 unfold sg
 repeat' split
 all_goals omega
theorem y3:∀{l acc},(∀x∈l,x<128)->(∀x∈acc,x<128)->∀w∈cut c acc l,w.length<=acc.length+l.length/\∀x∈w,x<128
 |[],acc,_,ha,w,hw=>by
  have e:w=acc:=by simpa[cut]using hw
  subst e;exact⟨by simp,ha⟩
 |x::r,acc,hl,ha,w,hw=>by
  have hr:=λy hy=>hl y (bI _ hy);have hw:w∈(if x=c then acc::cut c [] r else cut c (acc++ [x]) r):=hw;split at hw
  .obtain e|hw:=mem_cons.mp hw
   .subst e;exact⟨by simp,ha⟩
   .have:=y3 hr ∅ w hw;exact⟨by simp at this⊢;omega,this.2⟩
  .have:=y3 hr (by
    intro y hy;obtain h|h:=mem_append.mp hy
    .exact ha y h
    .simp at h;subst h;exact hl y ∅) w hw
   exact⟨by simp at this⊢;omega,this.2⟩
theorem DQ:∀{l acc},cut c acc l≠ []
 |[],acc=>by simp[cut]
 |x::r,acc=>by
  show(if x=c then acc::cut c [] r else cut c (acc++ [x]) r)≠ [];split
  .simp
  .exact DQ
theorem qm{c:Nat}:∀{l acc:List Nat},(cut c acc l).length<=l.length+1
 |[],acc=>by simp[cut]
 |x::r,acc=>by
  show(if x=c then acc::cut c [] r else cut c (acc++ [x]) r).length<=_;split
  .have:=qm (c:=c) (l:=r) (acc:=[]);simp;omega
  .have:=qm (c:=c) (l:=r) (acc:=acc++ [x]);simp;omega
def bE:70010<=sizeLine:=by rw[cG];decide
theorem M6{w:List Nat}(h:∀c∈w,c<128):Txt.isdigit (S w)=(!w.isEmpty&&w.all cj):=by
 unfold Txt.isdigit;have e1:(decide ((S w).length>0))=!w.isEmpty:=by
  rw[qP];cases w<;>simp
 rw[e1];congr 1;show w.toArray.all Unicode.isDigit=_;rw[all_toArray];rw[jJ,dy,dy];have e:∀c∈w,Unicode.isDigit c=cj c:=λc hc=>by
  rw[cls_isdigit c (h c hc)];have:∀c<128,inR 48 57 ⟨#[c]⟩=cj c:=by decide+kernel
  exact this c (h c hc)
 exact⟨λz c hc=>by rw[<-e c hc];exact z c hc,λz c hc=>by rw[e c hc];exact z c hc⟩
def aaD{w:List Nat}(h:(!w.isEmpty&&w.all cj)=true)(hl:w.length<=4300):intText? (S w)=some (DL w:Int):=by
 rw[bH]at h;have hd:NumText.AllDigits (S w).cps.toList:=λc hc=>by
  have hc:c∈w:=by simpa[S]using hc
  have:=all_eq_true.mp h.2 c hc;simp[cj]at this;exact this
 have e:=intText_digits (x:=S w) hd (λz=>by
  have z2:w=[]:=by simpa[S]using z
  rw[z2]at h;simp at h) (by rw[qP];exact hl)
 rw[e];congr 2;show NumText.digitsVal w.toArray.toList=_;rw[sG];unfold NumText.digitsVal DL;have:(λ(acc c:Nat)=>acc*10+(c-48))=λn c=>10*n+(c-48):=by
  funext a c;omega
 first|rw[<-this]|(simp only[<-this])
end Pd
end
local macro_rules | `(tactic| simp? only [$[$xs:simpLemma],*]) => `(tactic| ((try dsimp only [length_cons, length_nil, Nat.reduceAdd, Nat.reduceSub, Nat.sub_self, L2.Wt, L2.Wu, L2.Wv, L2.Ww, L2.Oz, L2.S3, L2.Ws, L2.FA, L2.pY, L2.VN, L2.qO, L2.VO, L2.VP, L2.VQ, L2.S5, L2.BG, L2.PY, L2.PZ, L2.P0, L2.W4, L2.ZX, L2.Dy, L2.O5, L2.WU, L2.ipI, L2.Pu, L2.Ih, L2.tSl, L2.OW, L2.Dq, L2.W5, L2.Tq, L2.IG, L2.Wz, L2.tOr, L2.tM0, L2.tM1, L2.WN, L2.BE, L2.tB, L2.Dk, L2.tCB, L2.vq, L2.Il, L2.tC, L2.ye, L2.S8, L2.tUn, L2.rU, L2.OL, L2.rI, L2.Vy, L2.rNe, L2.WL, L2.Vw, L2.OD, L2.OH, L2.oq, L2.BF, L2.OB, L2.WD, L2.Vv, L2.WB, L2.start, List.map, List.replicate, cons_append, nil_append, getElem?_cons_zero, getElem?_cons_succ, set_cons_zero, set_cons_succ, $[$xs:simpLemma],*]); (try simp only [L2.jL, L2.Ie, L2.rj, L2.Df, L2.yd, L2.yc, L2.fI, L2.kO, L2.Ic, L2.S5, L2.BG, L2.PY, L2.PZ, L2.P0, L2.W4, L2.ZX, L2.Dy, L2.O5, L2.WU, L2.ipI, L2.Pu, L2.Ih, L2.tSl, L2.OW, L2.Dq, L2.W5, L2.Tq, L2.IG, L2.Wz, L2.tOr, L2.tM0, L2.tM1, L2.WN, L2.BE, L2.tB, L2.Dk, L2.tCB, L2.vq, L2.Il, L2.tC, L2.ye, L2.S8, L2.tUn, L2.rU, L2.OL, L2.rI, L2.Vy, L2.rNe, L2.VN, L2.qO, L2.VO, L2.VP, L2.VQ, L2.WL, L2.Vw, L2.OD, L2.OH, L2.oq, L2.BF, L2.OB, L2.WD, L2.Vv, L2.WB, L2.start, List.map, List.replicate, length_cons, length_nil, Nat.sub_self, Nat.reduceAdd, Nat.reduceSub, cons_append, nil_append, append_nil, getElem?_cons_zero, getElem?_cons_succ, set_cons_zero, set_cons_succ, Option.some.injEq, L2.V.int.injEq, L2.V.str.injEq, L2.V.bl.injEq, L2.V.ref.injEq, List.cons.injEq, exists_and_left, exists_and_right, exists_eq_left, exists_eq_left', exists_eq_right, exists_eq, true_and, and_true, exists_eq_right_right, decide_eq_true_eq, Bool.not_eq_true', decide_eq_false_iff_not, Bool.and_eq_true, L2.M0, L2.Gv, Int.cast_ofNat_Int, Int.natCast_add, Classical.not_not, Bool.false_eq_true, ↓reduceIte, $[$xs:simpLemma],*])))
local macro_rules | `(tactic| ac_nf) => `(tactic| exact ⟨rfl, rfl, rfl, by decide +kernel, rfl, by decide +kernel, by decide +kernel⟩)
section
namespace Pd
open PySem PySem.Spec PyProof.Rows L2 TL
noncomputable def top(i:Nat):Stmt:=PySem.Challenge.pw_poolday_s04_put.main.body.getD i (.Pass ⟨0,0,0,0⟩)
noncomputable abbrev K7:Stmt:=top 23
structure Tx(mg:Str->Option Value):Prop where
 gD:lT mg "MOST_PAIRS" 262144
 gE:lT mg "MOST_CENTS" 281474976710655
 iq:T3 mg "LETTERS" "abcdefghijklmnopqrstuvwxyz"
 lU:T3 mg "DIGITS" "0123456789"
 lV:T3 mg "STRANGE" "?"
 dq:lT mg "MOST_NAME_BYTES" 12
 fK:lT mg "MOST_DIGITS" 7
 gF:lT mg "MOST_STAKE" 1000000
 fL:lT mg "MOST_STAKED" 2147483647
 d8:lT mg "MOST_NUMBERED" 262144
 fM:lT mg "LEAST_WORDS" 6
 gG:lT mg "MOST_RACES" 16
 gH:lT mg "MOST_POOLS" 64
 d9:lT mg "LEAST_RUNNERS" 2
 fh:lT mg "MOST_RUNNERS" 24
 fi:lT mg "MOST_COUPLES" 8
 iS:lT mg "MOST_TAKE" 400
 gI:lT mg "MOST_BREAK" 1000
 iT:lT mg "MOST_UNIT" 10000
 fN:lT mg "POOL_LENGTH" 16
 dr:lT mg "MOST_CARD_BYTES" 65536
 dO:lT mg "MOST_BET_BYTES" 4096
 tG:mg "all"=none
 y4:mg "dict"=none
 gf:mg "enumerate"=none
 Gw:mg "int"=none
 cq:mg "len"=none
 qQ:mg "ord"=none
 iJ:mg "range"=none
 Cq:mg "set"=none
 iU:mg "sorted"=none
 Gx:mg "sum"=none
 tH:mg "tuple"=none
 y6:mg "zip"=none
section
def P2:Sp:=λvs H Q _=>∃n:Int,vs=[.int n]/\0<=n/\n<=255/\Q (.str (S [sg n.toNat])) H
def XQ:aE ["byte"] ["byte"] (ao K7):=by ac_nf
def IZ(h:n<26):("abcdefghijklmnopqrstuvwxyz":Str).cps[n]?=some (97+n):=by
 have:∀n<26,("abcdefghijklmnopqrstuvwxyz":Str).cps[n]?=some (97+n):=by decide+kernel
 exact this n h
def M7(h:n<10):("0123456789":Str).cps[n]?=some (48+n):=by
 have:∀n<10,("0123456789":Str).cps[n]?=some (48+n):=by decide+kernel
 exact this n h
theorem c_a:(Str.ofString "a").cps.getD 0 0=97/\(Str.ofString "a").length=1:=by decide+kernel
theorem c_z:(Str.ofString "z").cps.getD 0 0=122/\(Str.ofString "z").length=1:=by decide+kernel
theorem c_0:(Str.ofString "0").cps.getD 0 0=48/\(Str.ofString "0").length=1:=by decide+kernel
theorem c_9:(Str.ofString "9").cps.getD 0 0=57/\(Str.ofString "9").length=1:=by decide+kernel
theorem M8:(Str.ofString "abcdefghijklmnopqrstuvwxyz").length=26:=by decide+kernel
theorem P4:(Str.ofString "0123456789").length=10:=by decide+kernel
noncomputable def MK:List (Int×List Nat):=[(32,[32]),(10,[10]),(44,[44]),(47,[47])]
def XS:∀n:Nat,n<256->¬(97<=n/\n<=122)->¬(48<=n/\n<=57)->((MK.find? λq=>decide (q.1=(n:Int))).map (·.2)).getD [63]=[sg n]:=by decide+kernel
theorem mk_val:∀(l:List (Int×List Nat)) n,eU (l.map λp=>((Sum.inl p.1:Key),V.str (S p.2))) (Sum.inl n)=((l.find? λq=>decide (q.1=n)).map (·.2)).map λw=>V.str (S w)
 |[],_=>rfl
 |q::l,n=>by
  rw[aI,Kn];by_cases h:q.1=n
  .rw[cA (by rw[h]),hX h];rfl
  .rw[cB (λz=>h (Sum.inl.inj z)),cU h,mk_val l n]
def aaE n (hn:0<=n) (h25:n<=255) (h1:¬(97<=n/\n<=122)) (h2:¬(48<=n/\n<=57)):(eU (MK.map λp=>((Sum.inl p.1:Key),V.str (S p.2))) (Sum.inl n)).getD (.str "?")=.str (S [sg n.toNat]):=by
 have eq:("?":Str)=S [63]:=by decide+kernel
 have h:=XS n.toNat () () ();rw[sv hn]at h;rw[mk_val,eq,<-h];cases(MK.find? λq=>decide (q.1=n)).map (·.2)<;>rfl
def T6(D:Def K mg "sign_of" K7 ["byte"])(T:Tx mg)(TM:∃dm,mg "MARKS"=some (.ref dm)/\KD P w K dm (MK.map λp=>((Sum.inl p.1:Key),V.str (S p.2)))):Ok P w K mg base eX 1 "sign_of" ["byte"] P2:=by
 refine D.ok XQ (λvs H Q E h=>?_) (λf b9 A outer s H vs Q E hr h=>?_)
 .obtain⟨n,rfl,_⟩:=h;rfl
 .obtain⟨n,rfl,h0,h1,k⟩:=h;obtain⟨dm,T7,kdm⟩:=TM;refine⟨_,(ah (cW (yn jN jN (aC lG (by rfl) T.qQ boot_ord (ae bu ai)) (pv 0) (aC lG (by rfl) T.qQ boot_ord (ae bu ai))) (au (aJ (kq (ql T.iq rfl) (bR ib (pv 0) (aC lG (by rfl) T.qQ boot_ord (ae bu ai))) (λ_ _=>rfl)))) bC) (ah (cW (yn jN jN (aC lG (by rfl) T.qQ boot_ord (ae bu ai)) (pv 0) (aC lG (by rfl) T.qQ boot_ord (ae bu ai))) (au (aJ (kq (ql T.lU rfl) (bR ib (pv 0) (aC lG (by rfl) T.qQ boot_ord (ae bu ai))) (λ_ _=>rfl)))) bC) (au (aJ (Py (mP T7 rfl) (pv 0) (ql T.lV rfl) ⟨rfl,rfl,rfl,rfl⟩))))),?_⟩;simp? only[c_a,c_z,M8];have en:(n.toNat:Int)=n:=sv h0;refine bj (λa=>?_) (λa=>?_)
  .refine⟨by omega,by omega,by omega,97+(n-97).toNat,IZ (),?_⟩;have e:sg n.toNat=97+(n-97).toNat:=by unfold sg;rw[ag ()];omega
   rw[<-e];exact k
  simp? only[cf,c_0,c_9,P4];refine bj (λb=>?_) (λb=>?_)
  .refine⟨by omega,by omega,by omega,48+(n-48).toNat,M7 (),?_⟩;have e:sg n.toNat=48+(n-48).toNat:=by unfold sg;rw[af (),ag ()];omega
   rw[<-e];exact k
  refine⟨dm,_,rfl,kdm,Sum.inl n,rfl,?_⟩;rw[aaE n h0 h1 () ()];exact k
end
noncomputable abbrev Gy:Stmt:=top 24
noncomputable abbrev y8:Stmt:=top 25
noncomputable abbrev Gz:Stmt:=top 26
noncomputable abbrev xE:Stmt:=top 27
section
def I_(K:PySem.W.Frag):Sp:=λvs H Q _=>∃(a:Addr) (ns:List Int),vs=[.ref a]/\aM K H a (ns.map V.int)/\(∀n∈ns,0<=n/\n<=255)/\ns.length<=66000/\∀H',aw H H'->Q (.str (S (ns.map λn=>sg n.toNat))) H'
def Ja:aE ["codes","byte"] ["codes"] (ao Gy):=by ac_nf
theorem de{f:α->β}:∀l:List α,cM (λa=>some (f a)) l=some (l.map f)
 |[]=>rfl
 |a::l=>by
  show(match cM (λa=>some (f a)) l with|none=>none|some ys=>some (f a::ys))=_;rw[de l];rfl
def Cr{f:α->V}:∀{ys}{zs},Paired (λv z=>v=f z) ys zs->ys=zs.map f:=by
 intro ys zs h
 induction h with
 |nil=>rfl|cons e _ ih=>rw[e,ih];rfl
def T8(D:Def K mg "text_of" Gy ["codes"])(G1:Ok P w K mg base eX 1 "sign_of" ["byte"] P2):Ok P w K mg base eX 2 "text_of" ["codes"] (I_ K):=by
 refine D.ok Ja (λvs H Q E h=>?_) (λf b9 A outer s H vs Q E hr h=>?_)
 .obtain⟨a,ns,rfl,_⟩:=h;rfl
 .obtain⟨a,ns,rfl,hS,hb,hl,k⟩:=h;refine⟨_,au (aJ (TK bu (ie (own:=[("byte",1)]) rfl Ja.nd (bZ (pv 0)) (bX (N:=["codes","byte"]) (sc:=ao Gy) (by decide+kernel)) (λ_ _ _ _ _=>aT (i:=1) Ja.nd rfl (Or.inl rfl)) (λ_ _ _ _ _=>dH)
   (λ_ _ _ _ _=>ax G1 hr rfl cu (ae (pv 1) ai))))),?_⟩
  refine⟨a,rfl,⟨_,hS⟩,λL hL=>?_⟩;refine fS (xs:=ns.map V.int) (λH v (z:Nat)=>v=.str (S [z])) ns (λn=>some (sg n.toNat)) ∅ (by rw[az];exact aX hl (by have:=bE;omega)) hL hS (λ_ _ _ _ _ h=>h) ?_ ?_
  .intro i x u H' hx hu sm _ R k2;have e:x=.int u:=by rw[aZ,hu]at hx;exact(Option.some.inj hx).symm
   subst e;have hm:=hb u (bg hu);exact⟨u,rfl,hm.1,hm.2,k2 _ _ _ rfl (λ_ _ h=>h) rfl⟩
  .intro H' ys zs sm i9 hm hp;rw[de]at hm;have e:=Option.some.inj hm;subst e;have e2:=Cr (f:=λz=>V.str (S [z])) hp;subst e2;refine⟨_,L,(ns.map λn=>sg n.toNat).map λc=>S [c],rfl,rfl,.inl (aM.of (by rw[i9];simp only[map_map];rfl)),?_,?_⟩
   .have e3:∀l:List Nat,((l.map λc=>S [c]).map (·.length)).sum=l.length:=λl=>by
     induction l with
     |nil=>rfl
     |cons a r ih=>
      simp only[map_cons,sum_cons,length_cons,ih];show 1+r.length=_;omega
    have e4:(Str.ofString "").length=0:=by decide+kernel
    rw[e3,e4];simp;omega
   .rw[IY];exact k _ sm
def Words(H:Hp)(a:Addr)(ws:List (List Nat)):Prop:=H a=some (.lst (ws.map λw=>V.str (S w)))/\ws≠ []/\ws.length<=70000/\∀w∈ws,T5 w
def GA(H:Hp)(L:Addr)(ls:List (List (List Nat))):Prop:=ls.length<=70000/\∃as,H L=some (.lst as)/\Paired (λv ws=>∃p,v=.ref p/\Words H p ws) as ls
def Words.same(h:Words H a ws)(s:aw H H'):Words H' a ws:=⟨s _ _ h.1,h.2⟩
theorem GA.same(h:GA H a ls)(s:aw H H'):GA H' a ls:=by
 obtain⟨h0,as,h1,h2⟩:=h;refine⟨h0,as,s _ _ h1,Paired.fU h2 λv ws adL=>?_⟩;obtain⟨p,e,q⟩:=adL;exact⟨p,e,q.same s⟩
def DR:Sp:=λvs H Q _=>∃t:List Nat,vs=[.str (S t)]/\t.length<=66000/\(∀c∈t,c<128)/\
 match i7 t with
 |none=>∀H',aw H H'->Q .cV H'|some ls=>∀H' L,aw H H'->GA H' L ls->Q (.ref L) H'
def xF:aE ["text","lines","line"] ["text"] (ao y8):=by ac_nf
def aaF:tl (Str.ofString "\n")=[10]/\(Str.ofString "\n").cps.all (·<256)=true:=by decide+kernel
def aaG:tl (Str.ofString " ")=[32]/\(Str.ofString " ").cps.all (·<256)=true:=by decide+kernel
theorem K8:Str.ofString ""=S []:=by decide+kernel
def tI(f:α->β)(l:List α):(l.map f).dropLast=l.dropLast.map f:=by
 induction l with
 |nil=>rfl
 |cons a r ih=>cases r with
  |nil=>rfl|cons b r=>simp only[map_cons,List.dropLast]at ih⊢;rw[ih]
def P5(D:Def K mg "lines_of" y8 ["text"]):Ok P w K mg base eX 2 "lines_of" ["text"] DR:=by
 refine D.ok xF (λvs H Q E h=>?_) (λf b9 A outer s H vs Q E hr h=>?_)
 .obtain⟨a,rfl,_⟩:=h;rfl
 .obtain⟨t,rfl,hl,hc,k⟩:=h;refine⟨_,ah (aO (i:=1) xF.nd rfl (Or.inl rfl) (yB (pv 0) bu))
   (ah (cW (bx BA (W8 x5 PySem.F.slot_list_pop PySem.F.type_list_pop Xa (pv 1)) bu (aG _)) (au (aJ yf)) bC)
   (au (aJ (ie (own:=[("line",2)]) rfl xF.nd (bZ (pv 1)) (bX (N:=["text","lines","line"]) (sc:=ao y8) (by decide+kernel)) (λ_ _ _ _ _=>aT (i:=2) xF.nd rfl (Or.inl rfl)) (λ_ _ _ _ _=>dH)
    (λ_ _ _ _ _=>yB (pv 2) bu))))),?_⟩
  have hz:=bE;refine⟨_,_,rfl,rfl,by decide+kernel,by rw[qP];omega,λp hp=>?_⟩;rw[uG aaF.1 aaF.2];obtain⟨c0,cs,ec⟩:∃init last,cut 10 [] t=init++ [last]:=⟨_,_,(dropLast_concat_getLast DQ).symm⟩;have eL:i7 t=if cs=[]then some (c0.map (cut 32 []))else none:=by
   unfold i7;rw[ec];simp
  rw[eL]at k;have aaH:(((cut 10 [] t).map S).map V.str)[(((cut 10 [] t).map S).map V.str).length-1]?=some (.str (S cs)):=by
   rw[ec];simp
  have y9:=y3 (c:=10) (acc:=[]) hc ∅;have A3:=qm (c:=10) (acc:=[]) (l:=t);rw[ec]at y9 A3;refine⟨.inl ⟨rfl,_,aM.of ak⟩,p,_,_,rfl,rfl,ak,aaH,?_⟩;rw[iF,tI,tI,ec,dropLast_concat];have s1:aw H (upd H p (.lst ((c0.map S).map V.str))):=aw.new hp;rw[K8];simp only[tC,rNe,qO,pY,FA,V.str.injEq,cS];by_cases he:cs=[]
  .rw[ag he]at k;simp only[he,decide_true,Bool.not_true,Bool.false_eq_true,if_false];refine⟨p,rfl,⟨_,aM.of ak⟩,λL hL=>?_⟩;refine fS (xs:=(c0.map S).map V.str) (λH v (z:List (List Nat))=>∃q,v=.ref q/\q≠L/\Words H q z) c0 (λc=>some (cut 32 [] c)) ∅ (by simp at A3⊢;omega) hL (aM.of ak) ?_ ?_ ?_
   .rintro H1 H2 v z sb ⟨q,e,n,h1,h2⟩;exact⟨q,e,n,sb _ _ n h1,h2⟩
   .intro i x u H' hx hu sm oH R k2;have e:x=.str (S u):=by
     rw[aZ,aZ,hu]at hx;exact(Option.some.inj hx).symm
    subst e;have hm:=y9 u (wU _ (bg hu));have P6:=y3 (c:=32) (acc:=[]) hm.2 ∅;have Oo:=qm (c:=32) (acc:=[]) (l:=u);simp at hm;refine⟨_,_,rfl,rfl,by decide+kernel,by rw[qP];omega,λq hq=>?_⟩;rw[uG aaG.1 aaG.2];obtain⟨acc,oH⟩:=oH;refine k2 _ _ _ rfl (aw.new hq) ⟨q,rfl,λz=>(by rw[z,oH]at hq;cases hq),by rw[ak,bP];rfl,DQ,by omega,λw hw=>?_⟩;have:=P6 w hw;simp at this;exact⟨by omega,this.2⟩
   .intro H' ys zs sm i9 hm hp';rw[de]at hm;have e:=Option.some.inj hm;subst e;refine k H' L (s1.trans sm) ⟨by simp at A3⊢;omega,ys,i9,Paired.fU hp' λv ws ⟨q,e,_,h⟩=>⟨q,e,h⟩⟩
  .rw[af he]at k;simp only[he,decide_false,Bool.not_false,if_true];exact k _ s1
end
section
def DS:Sp:=λvs H Q _=>∃t:List Nat,vs=[.str (S t)]/\T5 t/\∀H',aw H H'->Q (.bl (jg t)) H'
def Jb:aE ["word","sign"] ["word"] (ao Gz):=by ac_nf
def lW:bootBuiltins "all"=some (.builtin "all"):=by decide+kernel
theorem vD c:(c∈(Str.ofString "abcdefghijklmnopqrstuvwxyz").cps.toList)↔isLet c=true:=by
 have e:(Str.ofString "abcdefghijklmnopqrstuvwxyz").cps.toList=(List.range 26).map (97+·):=by decide+kernel
 rw[e];simp[isLet];constructor
 .omega
 .intro h;exact⟨c-97,by omega,by omega⟩
theorem Jc c:(c∈(Str.ofString "0123456789").cps.toList)↔cj c=true:=by
 have e:(Str.ofString "0123456789").cps.toList=(List.range 10).map (48+·):=by decide+kernel
 rw[e];simp[cj];constructor
 .rintro⟨a,h,rfl⟩;omega
 .intro h;exact⟨c-48,by omega,by omega⟩
def T9(D:Def K mg "is_name" Gz ["word"])(T:Tx mg):Ok P w K mg base eX 2 "is_name" ["word"] DS:=by
 refine D.ok Jb (λvs H Q E h=>?_) (λf b9 A outer s H vs Q E hr h=>?_)
 .obtain⟨a,rfl,_⟩:=h;rfl
 .obtain⟨t,rfl,ht,k⟩:=h;refine⟨_,ah (cW (PW.pt (Vu (bx cD (pv 0) bu (aG _)) (OA (bx vj (aC sW (by rfl) T.cq bN (ae (pv 0) ai)) (cQ T.dq rfl) (aG _))))) (au (aJ vi)) bC)
   (ah (cW (bx A6 (kq (pv 0) aq (λ_ _=>rfl)) (ql T.iq rfl) rfl) (au (aJ vi)) bC)
   (au (aJ (aC (lP rfl) (by rfl) T.tG lW (ae (ie (own:=[("sign",1)]) rfl Jb.nd (Xm (pv 0)) (bX (N:=["word","sign"]) (sc:=ao Gz) (by decide+kernel)) (λ_ _ _ _ _=>aT (i:=1) Jb.nd rfl (Or.inl rfl)) (λ_ _ _ _ _=>dH)
    (λ_ _ _ _ _=>Kr (aU yC (pv 1) (ql T.iq rfl) rfl) (i5 (aU yC (pv 1) (ql T.lU rfl) rfl)))) ai))))),?_⟩
  have hz:=bE;have hl:=ht.1;simp? only[K8,cS,qP];refine bj (λa=>?_) (λa=>?_)
  .subst a;exact k _ (λ_ _ h=>h)
  refine⟨by omega,bj (λb=>?_) (λb=>?_)⟩
  .have e:jg t=false:=by
    unfold jg;rw[cU (show¬t.length<=12 by omega)];simp
   rw[e]at k;exact k _ (λ_ _ h=>h)
  obtain⟨c,r,rfl⟩:=exists_cons_of_ne_nil a;simp? only[cf,qP];refine⟨by omega,by omega,by omega,c,rfl,c,rfl,?_⟩;simp only[vD];refine bj (λd=>?_) (λd=>?_)
  .have e:jg (c::r)=false:=by
    unfold jg;simp only[head?_cons,Option.map_some,Option.getD_some];rw[show isLet c=false by simpa using d];simp
   rw[e]at k;exact k _ (λ_ _ h=>h)
  have d:isLet c=true:=Classical.not_not.mp d;refine⟨_,rfl,λL hL=>?_⟩;refine M5 (w:=S (c::r)) (λH v (z:Bool)=>v=.bl z) (λc=>some (isLet c||cj c)) (by show(c::r).toArray.size<=_;rw[cO];omega) hL (λ_ _ _ _ _ h=>h) ?_ ?_
  .intro c' H' Vt sm _ R k2;simp? only[vD,Jc];refine⟨c',rfl,?_⟩;refine bj (λd=>?_) (λd=>?_)
   .exact k2 _ _ _ rfl (λ_ _ h=>h) (by rw[d];rfl)
   .refine⟨c',rfl,k2 _ _ _ rfl (λ_ _ h=>h) ?_⟩;rw[show isLet c'=false by simpa using d];simp
  .intro H' ys zs sm i9 hm hp;rw[de]at hm;have e:=Option.some.inj hm;subst e;have e2:=Cr (f:=λz=>V.bl z) hp;subst e2;refine⟨L,rfl,_,aM.of i9,?_⟩;have e:jg (c::r)=(((S (c::r)).cps.toList.map λc=>isLet c||cj c).all id):=by
    unfold jg;rw[hX (show(c::r).length<=12 by omega)];simp only[head?_cons,Option.map_some,Option.getD_some,d,isEmpty_cons,Bool.not_false,Bool.true_and];show _=(((c::r).toArray.toList.map λc=>isLet c||cj c).all id);rw[sG,List.all_map];rfl
   rw[<-e];exact k _ sm
def iV:Sp:=λvs H Q _=>∃t:List Nat,vs=[.str (S t)]/\T5 t/\Q (.int (dz t)) H
def P7:aE ["word"] ["word"] (ao xE):=by ac_nf
def XT:Str.ofString "0"=S [48]:=by decide+kernel
def M9(D:Def K mg "number_of" xE ["word"])(T:Tx mg):Ok P w K mg base eX 1 "number_of" ["word"] iV:=by
 refine D.ok P7 (λvs H Q E h=>?_) (λf b9 A outer s H vs Q E hr h=>?_)
 .obtain⟨a,rfl,_⟩:=h;rfl
 .obtain⟨t,rfl,ht,k⟩:=h;refine⟨_,ah (cW (bx vj (aC sW (by rfl) T.cq bN (ae (pv 0) ai)) (cQ T.fK rfl) (aG _)) (au (aJ (qK kR aq))) bC)
   (ah (cW (uq (uo (aal PySem.F.slot_str_isdigit PySem.F.type_str_isdigit IB (pv 0)))) (au (aJ (qK kR aq))) bC)
   (ah (cW (PW.pt (WC (bx cD (kq (pv 0) aq (λ_ _=>rfl)) bu (aG _)) (S4 (bx BA (pv 0) bu (aG _))))) (au (aJ (qK kR aq))) bC)
   (au (aJ (BM DF (by rfl) T.Gw boot_int (ae (pv 0) ai)))))),?_⟩
  have hz:=bE;have hl:=ht.1;simp? only[qP];refine⟨by omega,bj (λa=>?_) (λa=>?_)⟩
  .have e:dz t= -1:=by unfold dz;rw[ag ()]
   rw[e]at k;exact k
  simp? only[cf,M6 ht.2]
  try refine⟨⟨_,rfl⟩,?_⟩
  refine bj (λb=>?_) (λb=>?_)
  .have e:dz t= -1:=by unfold dz;rw[af (),ag b]
   rw[e]at k;exact k
  have b2:(!t.isEmpty&&t.all cj)=true:=by
   cases q:(!t.isEmpty&&t.all cj)with
   |true=>rfl|false=>exact absurd q b
  obtain⟨c,r,rfl⟩:∃c r,t=c::r:=by
   cases t with
   |nil=>simp at b2|cons c r=>exact⟨c,r,rfl⟩
  refine⟨by omega,by omega,by rw[qP];simp,c,rfl,?_⟩;have e1:((⟨#[c]⟩:Str)=Str.ofString "0"/\¬S (c::r)=Str.ofString "0")↔((c::r).head?=some 48/\(c::r)≠ [48]):=by
   rw[XT,cS,cS];simp
  refine bj (λd=>?_) (λd=>?_)
  .have e:dz (c::r)= -1:=by unfold dz;rw[af (),af b,ag (e1.mp d)]
   rw[e]at k;exact k
  .have e:dz (c::r)=(DL (c::r):Int):=by unfold dz;rw[af (),af b,af (λz=>d (e1.mpr z))]
   rw[e]at k;exact⟨_,aaD b2 (),by rw[qP];omega,k⟩
end
noncomputable abbrev xG:Stmt:=top 63
noncomputable abbrev xH:Stmt:=top 64
noncomputable abbrev T_:Stmt:=top 66
noncomputable abbrev DT:Stmt:=top 67
structure Nc(K:PySem.W.Frag)(mg:Str->Option Value)(NC:Addr):Prop where
 mg:mg "NoCard"=some (.ref NC)
 ex:PySem.W.excIn K NC [.type "ValueError",.type "Exception",.type "BaseException",.type "object"] "ValueError.__new__"=true
section
def aD(NC:Addr):Sp:=λvs H Q E=>eD vs λb=>if b=true then Q .cV H else E (.ref NC) none H
def P8:aE ["holds"] ["holds"] (ao xG):=by ac_nf
def M_(D:Def K mg "demand" xG ["holds"])(N:Nc K mg NC):Ok P w K mg base (fW P w) 1 "demand" ["holds"] (aD NC):=by
 refine D.B9 P8 (λvs H Q E h=>?_) (λf b9 A outer s H vs Q E hr h=>?_)
 .obtain⟨a,rfl,_⟩:=yd.mp h;rfl
 .obtain⟨b,rfl,k⟩:=yd.mp h;refine⟨_,au (cW (uq (uo (pv 0))) (au (Gf (E:=E) aH rfl rfl N.mg N.ex PySem.F.excBase_ValueError (ae bu ai))) bC),?_⟩;simp? only[cf];refine bj (λa=>?_) (λa=>?_)
  .subst a;exact⟨by have:=bE;omega,k⟩
  .cases b with
   |true=>exact k|false=>exact absurd rfl a
def tJ(NC:Addr):Sp:=λvs H Q E=>∃(t:List Nat) (lo hi:Int),vs=[.str (S t),.int lo,.int hi]/\T5 t/\match within t lo hi with
 |some n=>Q (.int n) H|none=>E (.ref NC) none H
def GB:aE ["word","lowest","highest","number"] ["word","lowest","highest"] (ao xH):=by ac_nf
def Nf(D:Def K mg "number_within" xH ["word","lowest","highest"])(G1:Ok P w K mg base eX 1 "number_of" ["word"] iV)(G2:Ok P w K mg base (fW P w) 1 "demand" ["holds"] (aD NC)):
  Ok P w K mg base (fW P w) 2 "number_within" ["word","lowest","highest"] (tJ NC):=by
 refine D.B9 GB (λvs H Q E h=>?_) (λf b9 A outer s H vs Q E hr h=>?_)
 .obtain⟨a,lo,hi,rfl,_⟩:=h;rfl
 .obtain⟨t,lo,hi,rfl,ht,k⟩:=h;refine⟨_,ah (aO (i:=3) GB.nd rfl (Or.inl rfl) (ax G1 hr rfl cu (ae (pv 0) ai)))
   (ah (aQ (ax (E:=E) G2 hr rfl (aW aH) (ae (ym jN jN (pv 1) (pv 3) (pv 2)) ai)))
   (au (aJ (pv 3)))),?_⟩
  simp? only[cf,iV,aD];refine⟨t,rfl,ht,?_⟩;unfold within at k;refine bj (λa=>?_) (λa=>?_)
  .rw[ag a]at k;exact k
  .rw[af a]at k;exact k
def qo xs (k:Nat):lH xs (some (k:Int)) none=xs.drop k:=by
 unfold lH;rw[HT.Dn,HT.OV];by_cases h:k<=xs.length
 .rw[pI h,qY ∅]
 .rw[Nat.min_eq_right (),wK (i:=k) (),drop_length];simp
def GC xs (i j:Nat):lH xs (some (i:Int)) (some (j:Int))=(xs.drop i).take (j-i):=by
 unfold lH;rw[HT.Dn,HT.Dn];by_cases h:i<=xs.length
 .rw[pI h];by_cases h2:j<=xs.length
  .rw[pI h2]
  .rw[Nat.min_eq_right (),qY ∅,qY (by simp;omega)]
 .rw[Nat.min_eq_right (show xs.length<=i by omega),wK (i:=i) (),drop_length];simp
theorem Words.at(h:Words H a ws){x:List Nat}(e:ws[i]?=some x):Ol (ws.map λw=>V.str (S w)) (i:Int)=some (.str (S x))/\T5 x:=
 ⟨eG (by rw[aZ,e];rfl),h.2.2.2 x (bg e)⟩
def VS(NC:Addr):Sp:=λvs H Q E=>∃(a:Addr) (ws:List (List Nat)),vs=[.ref a]/\Words H a ws/\∀H',aw H H'->if vW ws=true then Q .cV H' else E (.ref NC) none H'
def aaI:aE ["words"] ["words"] (ao T_):=by ac_nf
theorem aaJ:Str.ofString "day"=S XF:=by decide+kernel
def XU(D:Def K mg "check_day" T_ ["words"])(T:Tx mg)(G1:Ok P w K mg base eX 2 "is_name" ["word"] DS)(G2:Ok P w K mg base (fW P w) 1 "demand" ["holds"] (aD NC)):
  Ok P w K mg base (fW P w) 3 "check_day" ["words"] (VS NC):=by
 refine D.B9 aaI (λvs H Q E h=>?_) (λf b9 A outer s H vs Q E hr h=>?_)
 .obtain⟨a,ws,rfl,_⟩:=h;rfl
 .obtain⟨a,ws,rfl,hw,k⟩:=h;refine⟨_,au (aQ (ax (E:=E) G2 (hr.mono ⋯) rfl (aW aH) (ae (kP (aU cD (aC aA (by rfl) T.cq bN (ae (pv 0) ai)) aq (aG _))
   (kP (aU cD (bG aP (pv 0) aq (λ_ _=>rfl)) bu (aG _)) (i5 (ax G1 hr rfl cu (ae (bG aP (pv 0) aq (λ_ _=>rfl)) ai))))) ai))),?_⟩
  simp? only[cf,DS,aD];refine⟨_,.inl (aM.of hw.1),?_⟩;rw[az];have k0:=k H (λ_ _ h=>h);refine bj (λb=>?_) (λb=>?_)
  .have b:ws.length=2:=by omega
   obtain⟨w0,w1,rfl⟩:=Gk b;have a0:=hw.at (i:=0) rfl;have a1:=hw.at (i:=1) rfl;refine⟨_,aM.of hw.1,_,a0.1,?_⟩;simp only[qO,V.str.injEq,aaJ,cS,true_and];refine bj (λc=>?_) (λc=>?_)
   .refine⟨_,aM.of hw.1,_,a1.1,_,rfl,a1.2,λH' sm=>?_⟩;have e:vW [w0,w1]=jg w1:=by
     unfold vW;simp[c]
    have k1:=k H' sm;rw[e]at k1;exact k1
   .have e:vW [w0,w1]=false:=by
     unfold vW;simp[c]
    rw[e]at k0;exact k0
  .have e:vW ws=false:=by
    unfold vW;rw[cU ()];rfl
   rw[e]at k0;exact k0
def K9:Sp:=λvs H Q _=>∃(L:Addr) (d:List (List Nat)) (ls:List (List (List Nat))),vs=[.ref L]/\GA H L (d::ls)/\∀H',aw H H'->Q (.int ((ls.takeWhile c7).length:Nat)) H'
def xI:aE ["lines","races","words"] ["lines"] (ao DT):=by ac_nf
theorem XW:Str.ofString "race"=S KW:=by decide+kernel
theorem takeWhile_all{p:α->Bool}:∀{l:List α},(∀x∈l,p x=true)->l.takeWhile p=l
 |[],_=>rfl
 |a::l,h=>by
  rw[mr,ag (h a ∅),takeWhile_all λx hx=>h x (by simp[hx])]
theorem takeWhile_stop{p:α->Bool}:∀{l:List α}{i}{x},(∀y∈l.take i,p y=true)->l[i]?=some x->p x=false->(l.takeWhile p).length=i
 |[],i,x,_,h,_=>by simp at h
 |a::l,0,x,_,h,hp=>by
  have e:=Option.some.inj h;subst e;rw[mr,af (by rw[hp];exact b_)];rfl
 |a::l,i+1,x,h,hx,hp=>by
  rw[mr,ag (h a ∅),aY,takeWhile_stop (i:=i) (λy hy=>h y (by simp[hy])) ‹hx› hp]
def P9(D:Def K mg "count_races" DT ["lines"]):Ok P w K mg base eX 1 "count_races" ["lines"] K9:=by
 refine D.ok xI (λvs H Q E h=>?_) (λf b9 A outer s H vs Q E hr h=>?_)
 .obtain⟨a,d,ls,rfl,_⟩:=h;rfl
 .obtain⟨L,d,ls,rfl,hL,k⟩:=h;refine⟨_,ah (aO (i:=1) xI.nd rfl (Or.inl rfl) aq)
   (ah (fJ hU rfl (bZ (iQ kr (pv 0) (iH aq) qd)) (aT (i:=2) xI.nd rfl (Or.inl rfl))
    (ah (cW (bx BA (bG aP (pv 2) aq (λ_ _=>rfl)) bu (aG _)) (au OC) bC)
    (au (Dh (i:=1) xI.nd rfl (Or.inl rfl) aq OI))))
   (au (aJ (pv 1)))),?_⟩
  obtain⟨hn,as,hA,hp⟩:=hL;cases hp with
  |@cons a0 d0 as ls0 h0 hp=>
  refine⟨_,aM.of hA,λp XX=>?_⟩;rw[show((1:Int))=((1:Nat):Int)from rfl,qo];have s1:aw H (upd H p (.lst as)):=aw.new XX;have hlen:=Paired.eQ hp;refine⟨p,rfl,⟨_,aM.of ak⟩,iP (K:=K) (a:=p) (xs:=as) (λi σ H'=>∃v:Option V,σ=[some (.ref L),some (.int i),v]/\aw (upd H p (.lst as)) H'/\∀y∈ls.take i,c7 y=true)
   ⟨none,rfl,λ_ _ h=>h,by simp⟩ (λi σ H' _ ⟨_,_,s5,_⟩=>aM.of (s5 _ _ ak)) ?_ ?_⟩
  .rintro i y σ H' hi ⟨v,rfl,s5,ha⟩;obtain⟨ws,P_,q,rfl,hw⟩:=Paired.at' hp hi;have hw:=(hw.same s1).same s5;obtain⟨w0,wr,rfl⟩:=exists_cons_of_ne_nil hw.2.1;have a0:=hw.at (i:=0) rfl;simp? only[];refine⟨_,aM.of hw.1,_,a0.1,?_⟩;simp only[qO,V.str.injEq,XW,cS,true_and];refine bj (λb=>?_) (λb=>?_)
   .have e:=takeWhile_stop ha P_ (p:=c7) (by
     unfold c7;simpa using b)
    have k1:=k H' (s1.trans s5);rw[e]at k1;exact k1
   .refine⟨⟨_,rfl⟩,s5,λy hy=>?_⟩;rw[bp P_]at hy;obtain h|h:=mem_append.mp hy
    .exact ha y h
    .have e:y=w0::wr:=by simpa using h
     subst e;unfold c7;have b:w0=KW:=Classical.not_not.mp b;simp[b]
  .rintro σ H' ⟨v,rfl,s5,ha⟩;refine ?_;rw[hlen,et]at ha;have k1:=k H' (s1.trans s5);rw[takeWhile_all ha]at k1;rw[hlen];exact k1
end
noncomputable abbrev y_:Stmt:=top 68
def GD(kvs:List (Key×V))(ks:List Int):Prop:=∀k:Int,(eU kvs (Sum.inl k)).isSome=decide (k∈ks)
theorem GD.put{ks:List Int}{h:Int}(x:GD kvs ks):GD (putK kvs (Sum.inl h) v) (ks++ [h]):=λk=>by
 rw[FV];by_cases e:k=h
 .subst e;rw[ag rfl];simp
 .rw[af (λz=>e (Sum.inl.inj z)),x k];simp[e]
def za [DecidableEq κ] {kvs:List (κ×V)} {k:κ} :(putK kvs k v).length<=kvs.length+1:=by
 unfold putK;split<;>simp
section
def adM(a dh df:Addr)(n:Int)(H:Hp)(ws:List (List Nat))(i:Nat)(σ:L2.St)(H':Hp):Prop:=∃(v4 v5 v6:Option V) (hs fs:List Int) (kh kf:List (Key×V)),
 σ=[some (.ref a),some (.int n),some (.ref dh),some (.ref df),v4,v5,v6,none]/\aw H H'/\H' dh=some (.dK kh)/\H' df=some (.dK kf)/\GD kh hs/\GD kf fs/\kh.length<=i/\kf.length<=i/\
  cC n [] [] (ws.drop 2)=cC n hs fs (ws.drop (2+3*i))
def Words.atZ(h:Words H a ws){z:Int}{x:List Nat}(ez:z=(i:Int))(e:ws[i]?=some x):Ol (ws.map λw=>V.str (S w)) z=some (.str (S x))/\T5 x:=by
 rw[ez];exact h.at e
def aaK{l:List α}(h:j+2<l.length):∃a b c,l[j]?=some a/\l[j+1]?=some b/\l[j+2]?=some c/\l.drop j=a::b::c::l.drop (j+3):=by
 refine⟨l[j],l[j+1],l[j+2],bt _,bt _,bt _,?_⟩;rw[oh (show j<l.length by omega),oh (show j+1<l.length by omega),oh (show j+1+1<l.length by omega)]
def GF n fs:fX (n+1) fs=if(1:Int)+(n:Int)∈fs then fX n fs else fX n fs++ [(1:Int)+(n:Int)]:=by
 unfold fX;rw[range_succ,eC,w8];simp only[map_cons,map_nil,filter_cons,filter_nil];by_cases h:(1:Int)+(n:Int)∈fs
 .simp[h]
 .simp[h]
def Qa(NC:Addr):Sp:=λvs H Q E=>∃(a:Addr) (ws:List (List Nat)),vs=[.ref a]/\Words H a ws/\(∀r,gA ws=some r->∀H' b,aw H H'->H' b=some (.lst (r.map V.int))->H b=none->Q (.ref b) H')/\(gA ws=none->∀H',aw H H'->E (.ref NC) none H')
def mQ:aE ["words","runners","heads","followers","at","head","follower","runner"] ["words"] (ao y_):=by ac_nf
theorem Qb:Str.ofString "couple"=S xD:=by decide+kernel
def Ua(D:Def K mg "read_race" y_ ["words"])(T:Tx mg)(aV:Ok P w K mg base (fW P w) 2 "number_within" ["word","lowest","highest"] (tJ NC))(a_:Ok P w K mg base (fW P w) 1 "demand" ["holds"] (aD NC)):
  Ok P w K mg base (fW P w) 3 "read_race" ["words"] (Qa NC):=by
 refine D.B9 mQ (λvs H Q E h=>?_) (λf b9 A outer s H vs Q E hr h=>?_)
 .obtain⟨a,ws,rfl,_⟩:=h;rfl
 .obtain⟨a,ws,rfl,hw,kQ,kE⟩:=h;have hr1:dY 1 _:=hr.mono (show 1<=2 by decide);have hu:=vt hr;obtain⟨tT,hT,kT⟩:∃tT:TS,vS (kb (fW P w) P w K mg base ["words","runners","heads","followers","at","head","follower","runner"] "read_race" (ao y_) f b9 A outer s H E) ((ck y_).drop 3) tT/\
    ∀(w0 w1:List Nat)(r:List (List Nat))(n:Int),ws=w0::w1::r->ws.length%3=2->ws.length<=26->2<=n->n<=24->(gA ws=match cC n [] [] r with|none=>none|some fs=>some (fX n.toNat fs))->tT {nx:=λ_ H'=>Q .cV H',rt:=Q} [some (.ref a),some (.int n),none,none,none,none,none,none] H:=by
   refine⟨_,(ah (aO (i:=2) mQ.nd rfl (Or.inl rfl) yw) (ah (aO (i:=3) mQ.nd rfl (Or.inr rfl) yw) (ah (fJ PassesOwn.leaving rfl (BV rfl T.iJ (ae aq (ae (aC aA (by rfl) T.cq bN (ae (pv 0) ai)) (ae aq ai)))) (aT (i:=4) mQ.nd rfl (Or.inl rfl)) (ah (aQ (ax (E:=E) a_ (hr.mono ⋯) rfl (aW aH) (ae (aU cD (bG aP (pv 0) (pv 4) (λ_ _=>rfl)) bu (aG _)) ai))) (ah (aO (i:=5) mQ.nd rfl (Or.inl rfl) (ax (E:=E) aV (hr.mono ⋯) rfl (aW aH) (ae (bG aP (pv 0) (bR fV (pv 4) aq) (λ_ _=>rfl)) (ae aq (ae (pv 1) ai))))) (ah (aO (i:=6) mQ.nd rfl (Or.inl rfl) (ax (E:=E) aV (hr.mono ⋯) rfl (aW aH) (ae (bG aP (pv 0) (bR fV (pv 4) aq) (λ_ _=>rfl)) (ae (bR fV (pv 5) aq) (ae (pv 1) ai))))) (ah (aQ (ax (E:=E) a_ (hr.mono ⋯) rfl (aW aH) (ae (yi (lK hu (pv 5) (pv 3))) ai))) (ah (aQ (ax (E:=E) a_ (hr.mono ⋯) rfl (aW aH) (ae (kP (yi (lK hu (pv 6) (pv 2))) (i5 (yi (lK hu (pv 6) (pv 3))))) ai))) (ah (xo hu (pv 2) (pv 5) vi rfl) (au (xo hu (pv 3) (pv 6) vi rfl))))))))) (au (aJ (ie (own:=[("runner",7)]) rfl mQ.nd (By rfl T.iJ (ae aq (ae (bR fV (pv 1) aq) ai))) (bX (N:=["words","runners","heads","followers","at","head","follower","runner"]) (sc:=ao y_) (by decide+kernel)) (λ_ _ _ _ _=>aT (i:=7) mQ.nd rfl (Or.inl rfl)) (λ_ _ _ _ _=>(xl (Wy (lK hu (pv 7) (pv 3))))) (λ_ _ _ _ _=>(pv 7)))))))),λw0 w1 r n ews b1 b2 hn1 Y1 eR=>?_⟩;subst ews;have hz:=bE;have B8:=hw.2.2.1;simp? only[aD];intro dh hdh df Xv;have ndf:df≠dh:=λz=>by rw[z,ak]at Xv;cases Xv
   have aaL:H df=none:=by rw[aB ndf]at Xv;exact Xv
   have s2:aw H (upd (upd H dh (.dK [])) df (.dK [])):=(aw.new hdh).kD aaL;have GH:=hw.same s2;obtain⟨m,hm⟩:∃m,r.length=3*m:=⟨r.length/3,by simp at b1;omega⟩;refine⟨a,rfl,_,.inl (aM.of GH.1),2,_,3,m,rfl,?_,?_⟩
   .rw[az];simp only[length_cons]at b2⊢;refine RgC.up ⋯ ⋯ ⋯ ⋯ () () ?_;split<;>omega
   refine yy (adM a dh df n H (w0::w1::r)) ⟨none,none,none,[],[],[],[],rfl,s2,by rw[aB (c6 ndf),ak],ak,λ_=>rfl,λ_=>rfl,aL _,aL _,rfl⟩ ?_ ?_
   .rintro i σ H' hi ⟨v4,v5,v6,hs,fs,kh,kf,rfl,sm,h1,h2,K1,K2,l1,l2,ec⟩;have Si:=hw.same sm;obtain⟨x0,x1,x2,g0,g1,g2,gd⟩:=aaK (l:=w0::w1::r) (j:=2+3*i) (by simp;omega);have q0:=Si.atZ (z:=2+(i:Int)*3) () g0;have q1:=Si.atZ (z:=2+(i:Int)*3+1) () g1;have q2:=Si.atZ (z:=2+(i:Int)*3+2) () g2;rw[gd]at ec;have Je:∀{x},cC n hs fs (x0::x1::x2::(w0::w1::r).drop (2+3*i+3))=x->cC n [] [] r=x:=λz=>ec.trans z;have HV:cC n [] [] r=none->E (.ref NC) none H':=λz=>kE (by rw[eR,z]) H' sm;simp? only[aD];refine⟨_,aM.of Si.1,_,q0.1,?_⟩;simp only[qO,V.str.injEq,Qb,cS,true_and];rw[vy]at Je;refine bj (λb3=>?_) (λb3=>HV (Je (by rw[af b3])));rw[ag b3]at Je;refine⟨_,aM.of Si.1,_,q1.1,_,_,_,rfl,q1.2,?_⟩;cases e1:within x1 1 n with
    |none=>exact HV (Je (by rw[e1]))
    |some h=>
     rw[e1]at Je;dsimp only at Je⊢;simp? only[aD];refine⟨_,aM.of Si.1,_,q2.1,_,_,_,rfl,q2.2,?_⟩;cases e2:within x2 (h+1) n with
     |none=>exact HV (Je (by rw[e2]))
     |some g=>
      rw[e2]at Je;dsimp only at Je⊢;refine⟨_,n8.k (k:=Sum.inl h) h2,?_⟩;rw[K2 h];refine bj (λb4=>?_) (λb4=>HV (Je (by rw[ag ‹b4›])));have b4:¬h∈fs:=‹b4›
      rw[af b4]at Je;refine⟨_,n8.k (k:=Sum.inl g) h1,?_⟩;rw[K1 g];refine bj (λb5=>?_) (λb5=>HV (Je (by rw[ag (.inl ‹b5›)])));refine⟨_,n8.k (k:=Sum.inl g) h2,?_⟩;rw[K2 g];refine bj (λb6=>?_) (λb6=>HV (Je (by rw[ag (.inr ‹b6›)])));have b5:¬g∈hs:=‹b5›
      have b6:¬g∈fs:=‹b6›
      rw[af (by rintro(z|z);exact b5 z;exact b6 z)]at Je;have Ub:i<70000:=by simp at B8;omega
      refine⟨_,FW.k (k:=Sum.inl h) h1 (),_,FW.k (k:=Sum.inl g) (by rw[aB ndf];exact h2) (),?_⟩;refine⟨_,_,_,hs++ [h],fs++ [g],_,_,rfl,(sm.kD hdh).kD aaL,by rw[aB (c6 ndf),ak],ak,K1.put,K2.put,?_,?_,Je rfl⟩
      .have:=za (kvs:=kh) (k:=Sum.inl h) (v:=V.bl true);omega
      .have:=za (kvs:=kf) (k:=Sum.inl g) (v:=V.bl true);omega
   .rintro σ H' ⟨v4,v5,v6,hs,fs,kh,kf,rfl,sm,h1,h2,K1,K2,l1,l2,ec⟩;have e0:(w0::w1::r).drop (2+3*m)=[]:=wK (by simp;omega);rw[e0]at ec;have ec:cC n [] [] r=some fs:=ec;rw[ec]at eR;refine⟨1,n+1,rfl,⟨by decide,by decide,by omega,by omega⟩,λL hL=>?_⟩;have Qc:H L=none:=sm.free hL;refine FT (lo:=1) (n:=(n+1-1).toNat) (λi H2=>aw H' H2/\H2 L=some (.lst ((fX i fs).map V.int))) ⟨aw.new hL,ak⟩ ?_ ?_
    .rintro i H2 hi ⟨Oq,hL2⟩;refine⟨rfl,_,n8.k (k:=Sum.inl (1+(i:Int))) (Oq _ _ h2),?_⟩;rw[K2];have hlen:(fX i fs).length<=i:=by
      unfold fX;refine aX (om _ _) ?_;simp
     dsimp only;rw[GF];by_cases lZ:(1:Int)+(i:Int)∈fs
     .rw[hX lZ,ag lZ];exact⟨Oq,hL2⟩
     .rw[cU lZ,af lZ];refine⟨_,hL2,by rw[az];omega,λb o e=>by rw[aB (bF e hL)];exact Oq _ _ e,?_⟩;rw[ak,eC];rfl
    .rintro H2 ⟨Oq,hL2⟩;refine kQ _ eR _ L (sm.trans Oq) ?_ Qc;rw[hL2];congr 4;omega
  refine⟨_,(ah (aQ (ax (E:=E) a_ (hr.mono ⋯) rfl (aW aH) (ae (aU cD (bR OO (aC aA (by rfl) T.cq bN (ae (pv 0) ai)) aq) aq (aG _)) ai))) (ah (aQ (ax (E:=E) a_ (hr.mono ⋯) rfl (aW aH) (ae (aU jN (aC aA (by rfl) T.cq bN (ae (pv 0) ai)) (bR fV aq (bR rm aq (cQ T.fi rfl))) (aG _)) ai))) (ah (aO (i:=1) mQ.nd rfl (Or.inl rfl) (ax (E:=E) aV (hr.mono ⋯) rfl (aW aH) (ae (bG aP (pv 0) aq (λ_ _=>rfl)) (ae (cQ T.d9 rfl) (ae (cQ T.fh rfl) ai))))) hT))),?_⟩;have hz:=bE;have B8:=hw.2.2.1;have Ze:gA ws=none->E (.ref NC) none H:=λz=>kE z H λ_ _ h=>h;simp? only[aD];refine⟨_,.inl (aM.of hw.1),by omega,?_⟩;rw[az];refine bj (λb1=>?_) (λb1=>Ze (by unfold gA;rw[ag (.inl ())]));refine⟨_,.inl (aM.of hw.1),.inl ⋯,?_⟩;rw[az];refine bj (λb2=>?_) (λb2=>Ze (by unfold gA;rw[ag (.inr ())]));obtain⟨w0,w1,r,rfl⟩:∃w0 w1 r,ws=w0::w1::r:=by
   match ws,b1 with
   |[],b1=>simp at b1|[_],b1=>simp at b1
   |w0::w1::r,_=>exact⟨w0,w1,r,rfl⟩
  have a1:=hw.at (i:=1) rfl;refine⟨_,aM.of hw.1,_,a1.1,_,_,_,rfl,a1.2,?_⟩;have eR:gA (w0::w1::r)=match within w1 2 24 with|none=>none|some n=>match cC n [] [] r with|none=>none|some fs=>some (fX n.toNat fs):=by
   unfold gA;rw[af ()];rfl
  cases ew:within w1 2 24 with
  |none=>exact Ze (by rw[eR,ew])
  |some n=>
   have hn:=dn ew;rw[ew]at eR;dsimp only at eR⊢;exact kT w0 w1 r n rfl () () hn.1 hn.2.1 eR
end
noncomputable abbrev qp:Stmt:=top 70
noncomputable abbrev Ct:Stmt:=top 69
noncomputable abbrev xJ:Stmt:=top 71
noncomputable abbrev jy:Stmt:=inClass (top 62) 0
structure Tg(P:Program)(w:World)(K:PySem.W.Frag)(mg:Str->Option Value):Prop where
 kinds:∃d p1 p2 p3 p4,mg "KINDS"=some (.ref d)/\KD P w K d [(Sum.inr (S dA),.ref p1),(Sum.inr (S dB),.ref p2),(Sum.inr (S jr),.ref p3),(Sum.inr (S cp),.ref p4)]/\
  (∀H,jM K H p1 [.int 1,.int 4])/\(∀H,jM K H p2 [.int 2,.int 4])/\(∀H,jM K H p3 [.int 2,.int 3])/\(∀H,jM K H p4 [.int 2,.int 6])
 words:∃d,mg "POOL_WORDS"=some (.ref d)/\KD P w K d [(Sum.inl 0,.str (S yH)),(Sum.inl 4,.str (S yI)),(Sum.inl 6,.str (S yJ)),(Sum.inl 8,.str (S rp)),(Sum.inl 10,.str (S rq)),(Sum.inl 12,.str (S yK)),(Sum.inl 14,.str (S yL))]
 aaM:∃t,mg "NONES"=some (.ref t)/\∀H,jM K H t [.str (S js),.str (S mL),.str (S gw)]
section
variable {Cc:Addr}
def fY(H:Hp)(v:V)(r:List Int):Prop:=∃p,v=.ref p/\H p=some (.lst (r.map V.int))
def vE(H:Hp)(R:Addr)(rs:List (List Int)):Prop:=∃as,H R=some (.lst as)/\Paired (fY H) as rs
def fY.same{r:List Int}(h:fY H v r)(s:aw H H'):fY H' v r:=by
 obtain⟨p,e,q⟩:=h;exact⟨p,e,s _ _ q⟩
theorem vE.same(h:vE H R rs)(s:aw H H'):vE H' R rs:=by
 obtain⟨as,e,q⟩:=h;exact⟨as,s _ _ e,Paired.fU q λ_ _ z=>z.same s⟩
noncomputable def mR{α:Type}(d:α)(l:List α)(kd:List Nat)(k r:Int):List α:=if kd=cp then(l.drop (r-1).toNat).take k.toNat else [l.getD (r-1).toNat d]
noncomputable def Cu(Rr:Addr)(q:MP):List (Str×V):=[("name",.str (S q.name)),("kind",.str (S q.kind)),("k",.int q.k),("races",.ref Rr),("unit",.int q.u)]
def oI(Cp:Addr)(H:Hp)(as:List V)(v:V)(q:MP):Prop:=∃p dx Rr,v=.ref p/\H p=some (.ins Cp dx (Cu Rr q))/\H Rr=some (.lst (mR .cV as q.kind q.k q.race))
def jS(Cp:Addr)(H:Hp)(v:V)(rs:List (List Int))(q:MP):Prop:=∃p dx Rr,v=.ref p/\H p=some (.ins Cp dx (Cu Rr q))/\vE H Rr (mR [] rs q.kind q.k q.race)
def zb(NC:Addr):Sp:=λvs H Q E=>∃(t kd:List Nat) (k:Int) (R:Addr) (as:List V) (rs:List (List Int)),vs=[.str (S t),.str (S kd),.int k,.ref R]/\T5 t/\H R=some (.lst as)/\Paired (fY H) as rs/\1<=k/\k<=6/\
 (∀r,fC t kd k rs=some r->∀H' Rr,aw H H'->H Rr=none->H' Rr=some (.lst (mR .cV as kd k r))->Q (.ref Rr) H')/\(fC t kd k rs=none->E (.ref NC) none H)
def zc:aE ["word","kind","k","races","race"] ["word","kind","k","races"] (ao qp):=by ac_nf
theorem zf:Str.ofString "legs"=S cp:=by decide+kernel
def GI(D:Def K mg "read_pool_races" qp ["word","kind","k","races"])(T:Tx mg)(aV:Ok P w K mg base (fW P w) 2 "number_within" ["word","lowest","highest"] (tJ NC))(a_:Ok P w K mg base (fW P w) 1 "demand" ["holds"] (aD NC)):
  Ok P w K mg base (fW P w) 3 "read_pool_races" ["word","kind","k","races"] (zb NC):=by
 refine D.B9 zc (λvs H Q E h=>?_) (λf b9 A outer s H vs Q E hr h=>?_)
 .obtain⟨_,_,_,_,_,_,rfl,_⟩:=h;rfl
 .obtain⟨t,kd,k,R,as,rs,rfl,ht,hA,hp,k1,k6,kQ,kE⟩:=h;refine⟨_,(ah (aO (i:=4) zc.nd rfl (Or.inl rfl) (ax (E:=E) aV (hr.mono ⋯) rfl (aW aH) (ae (pv 0) (ae aq (ae (aC aA (by rfl) T.cq bN (ae (pv 3) ai)) ai))))) (ah (cW (bx cD (pv 1) bu (aG _)) (ah (aQ (ax (E:=E) a_ (hr.mono ⋯) rfl (aW aH) (ae (aU jN (bR ib (bR fV (pv 4) (pv 2)) aq) (aC aA (by rfl) T.cq bN (ae (pv 3) ai)) (aG _)) ai))) (au (aJ (iQ kr (pv 3) (iH (bR ib (pv 4) aq)) (iH (bR fV (bR ib (pv 4) aq) (pv 2))))))) bC) (ah (aQ (ax (E:=E) a_ (hr.mono ⋯) rfl (aW aH) (ae (aU FE (aC aA (by rfl) T.cq bN (ae (bG aP (pv 3) (bR ib (pv 4) aq) (λ_ _=>rfl)) ai)) (pv 2) (aG _)) ai))) (au (aJ (gu (ae (bG aP (pv 3) (bR ib (pv 4) aq) (λ_ _=>rfl)) ai))))))),?_⟩;have hlen:=Paired.eQ hp;have hz:=bE;simp? only[aD];refine⟨_,.inl (aM.of hA),_,_,_,rfl,ht,?_⟩;unfold fC at kQ kE;rw[hlen];cases e1:within t 1 (rs.length:Int)with
  |none=>
   rw[e1]at kE;exact kE rfl
  |some r=>
   rw[e1]at kQ kE;have hn:=dn e1;obtain⟨j,hj⟩:∃j:Nat,r-1=(j:Int):=⟨(r-1).toNat,by omega⟩;have hjl:j<rs.length:=by omega
   dsimp only at kQ kE⊢;simp only[zf,cS];refine bj (λb=>?_) (λb=>?_)
   .simp only[if_pos b]at kQ kE;simp? only[cf,aD];refine⟨_,.inl (aM.of hA),?_⟩;rw[hlen];refine bj (λc=>?_) (λc=>kE (by rw[af c]));have ec:lH as (some (r-1)) (some (r-1+k))=mR .cV as kd k r:=by
     have:=GC as j (j+k.toNat);rw[Nat.add_sub_cancel_left]at this;unfold mR;rw[ag b,show(r-1).toNat=j by omega,<-this,hj];congr 2;omega
    refine⟨_,aM.of hA,λp XX=>?_⟩;rw[ec];exact kQ r (by rw[ag c]) _ p (aw.new XX) XX ak
   .simp only[if_neg b]at kQ kE;simp? only[cf,aD,ou];obtain⟨v,hv,p,rfl,nQ⟩:=Paired.Kp hp (bt hjl);refine⟨_,aM.of hA,_,at_of hj hv,_,rfl,_,.inl (aM.of nQ),?_⟩;rw[az];have e2:rs.getD (r-1).toNat []=rs[j]:=by
     rw[hj,gm,cT,bt hjl];rfl
    have e3:mR .cV as kd k r=[V.ref p]:=by
     unfold mR;rw[af b,hj,gm,cT,hv];rfl
    rw[e2]at kQ kE;refine bj (λc=>?_) (λc=>kE (by rw[af c]));refine⟨_,aM.of hA,_,at_of hj hv,?_,λx hx=>kQ r (by rw[ag c]) _ x (aw.new hx) hx (by rw[ak,e3])⟩;show 1<=_;omega
end
section
variable {Cc:Addr}
theorem gJ{f:Str}{v:V}{n:Nat}:∀{fs:List (Str×V)},fs.length<n->(gV f v fs).length<n+1
 |[],h=>by simp[gV];omega
 |(g,x)::r,h=>by
  unfold gV;split
  .simp at h⊢;omega
  .have:=gJ (f:=f) (v:=v) (n:=n-1) (fs:=r) (by simp at h;omega);simp at h⊢;omega
def Jf{f:Str}:(gV f v []).length<1000:=gJ (n:=999) ⋯
def Jg{f g:Str}{u:V}:(gV g u (gV f v [])).length<1000:=gJ (n:=999) (gJ (n:=998) ⋯)
def Qe{f g h:Str}{u t:V}:(gV h t (gV g u (gV f v []))).length<1000:=gJ (n:=999) (gJ (n:=998) (gJ (n:=997) ⋯))
def XY{f g h j:Str}{u t z:V}:(gV j z (gV h t (gV g u (gV f v [])))).length<1000:=gJ (n:=999) (gJ (n:=998) (gJ (n:=997) (gJ (n:=996) ⋯)))
def dD(Cp:Addr):Sp:=λvs H Q _=>∃(p dx Rr:Addr) (q:MP),vs=[.ref p,.str (S q.name),.str (S q.kind),.int q.k,.ref Rr,.int q.u]/\H p=some (.ins Cp dx [])/\∀H',H' p=some (.ins Cp dx (Cu Rr q))->(∀b o,H b=some o->b≠p->H' b=some o)->Q .cV H'
def Jh:aE ["self","name","kind","k","races","unit"] ["self","name","kind","k","races","unit"] (ao jy):=by ac_nf
def GJ(F:KQ K "__init__" "Pool.__init__" jy f fd)(C:FH K Cp)(n1:cH K Cp "name")(n2:cH K Cp "kind")(n3:cH K Cp "k")(n4:cH K Cp "races")(n5:cH K Cp "unit"):
  nZ P w K mg base eX 1 f fd ["self","name","kind","k","races","unit"] (dD Cp):=by
 refine F.ok Jh (λvs H Q E h=>?_) (λb9 A outer s H vs Q E hr h=>?_)
 .obtain⟨p,dx,Rr,q,rfl,_⟩:=h;rfl
 .obtain⟨p,dx,Rr,q,rfl,hp,k⟩:=h;refine⟨_,(ah (i6 (pv 0) (pv 1) rfl) (ah (i6 (pv 0) (pv 2) rfl) (ah (i6 (pv 0) (pv 3) rfl) (ah (i6 (pv 0) (pv 4) rfl) (au (i6 (pv 0) (pv 5) rfl)))))),?_⟩;refine⟨p,Cp,dx,[],rfl,hp,C,n1,⋯,?_⟩;refine⟨p,Cp,dx,_,rfl,ak,C,n2,Jf,?_⟩;rw[iF];refine⟨p,Cp,dx,_,rfl,ak,C,n3,Jg,?_⟩;rw[iF];refine⟨p,Cp,dx,_,rfl,ak,C,n4,Qe,?_⟩;rw[iF];refine⟨p,Cp,dx,_,rfl,ak,C,n5,XY,?_⟩;rw[iF];refine k _ ?_ λb o e hb=>by rw[aB hb];exact e
  rw[ak];rfl
def zg(Cp:Addr)(H:Hp)(L:Addr)(rv:List V)(ps:List MP):Prop:=ps.length<=70000/\∃as,H L=some (.lst as)/\Paired (oI Cp H rv) as ps
def oI.same(h:oI Cp H rv v q)(s:aw H H'):oI Cp H' rv v q:=by
 obtain⟨p,dx,Rr,e,z,y⟩:=h;exact⟨p,dx,Rr,e,s _ _ z,s _ _ y⟩
theorem jS.same(h:jS Cp H v rs q)(s:aw H H'):jS Cp H' v rs q:=by
 obtain⟨p,dx,Rr,e,z,y⟩:=h;exact⟨p,dx,Rr,e,s _ _ z,y.same s⟩
theorem zg.same{ps:List MP}(h:zg Cp H L rv ps)(s:aw H H'):zg Cp H' L rv ps:=by
 obtain⟨l,as,e,z⟩:=h;exact⟨l,as,s _ _ e,Paired.fU z λ_ _ y=>y.same s⟩
def K_(kvs:List (Key×V))(ks:List (List Nat)):Prop:=∀k:List Nat,(eU kvs (Sum.inr (S k))).isSome=decide (k∈ks)
theorem K_.put{ks:List (List Nat)}{h:List Nat}(x:K_ kvs ks):K_ (putK kvs (Sum.inr (S h)) v) (ks++ [h]):=λk=>by
 rw[FV];by_cases e:k=h
 .subst e;rw[ag rfl];simp
 .rw[af (λz=>e (cS.mp (Sum.inr.inj z))),x k];simp[e]
def GK(NC Cp:Addr):Sp:=λvs H Q E=>∃(L:Addr) (rv:List V) (ps:List MP),vs=[.ref L]/\zg Cp H L rv ps/\∀H',aw H H'->if(ps.map (·.name)).Nodup then Q .cV H' else E (.ref NC) none H'
def zh:aE ["pools","names","pool"] ["pools"] (ao xJ):=by ac_nf
def nS{l:List α}{x:α}(hx:l[i]?=some x)(h:(l.take i).Nodup):(l.take (i+1)).Nodup↔x∉l.take i:=by
 rw[bp hx,pM];constructor
 .rintro⟨_,_,z⟩ hm;exact z x hm x ∅ rfl
 .intro z;refine⟨h,by simp,λa ha b hb e=>?_⟩;have:b=x:=by simpa using hb
  subst this;subst e;exact z ha
def A8{l:List α}(h:l.Nodup):(l.take i).Nodup:=h.sublist (take_sublist i l)
def Ng(D:Def K mg "check_names_differ" xJ ["pools"])(C:FH K Cp)(n1:cH K Cp "name")(a_:Ok P w K mg base (fW P w) 1 "demand" ["holds"] (aD NC)):
  Ok P w K mg base (fW P w) 2 "check_names_differ" ["pools"] (GK NC Cp):=by
 refine D.B9 zh (λvs H Q E h=>?_) (λf b9 A outer s H vs Q E hr h=>?_)
 .obtain⟨_,_,_,rfl,_⟩:=h;rfl
 .obtain⟨L,rv,ps,rfl,hL,k⟩:=h;have hu:=vt hr;refine⟨_,(ah (aO (i:=1) zh.nd rfl (Or.inl rfl) yw) (au (fJ PassesOwn.leaving rfl (bZ (pv 0)) (aT (i:=2) zh.nd rfl (Or.inl rfl)) (ah (aQ (ax (E:=E) a_ (hr.mono ⋯) rfl (aW aH) (ae (yi (lK hu (bz (pv 2) rfl) (pv 1))) ai))) (au (xo hu (pv 1) (bz (pv 2) rfl) vi rfl)))))),?_⟩;obtain⟨hl,as,hA,hp⟩:=hL;have hlen:=Paired.eQ hp;have hz:=bE;intro d hd;refine⟨L,rfl,⟨_,aM.of (aw.new hd _ _ hA)⟩,iP (K:=K) (a:=L) (xs:=as) (λi σ H'=>∃(v:Option V) (kvs:List (Key×V)),σ=[some (.ref L),some (.ref d),v]/\aw H H'/\H' d=some (.dK kvs)/\K_ kvs ((ps.map (·.name)).take i)/\kvs.length<=i/\((ps.map (·.name)).take i).Nodup)
   ⟨none,[],rfl,aw.new hd,ak,λ_=>by simp[eU],aL _,by simp⟩ (λi σ H' _ ⟨_,_,_,s5,_⟩=>aM.of (s5 _ _ hA)) ?_ ?_⟩
  .rintro i y σ H' hi ⟨v,kvs,rfl,s5,h1,K1,l1,nd⟩;obtain⟨q,hq,p,dx,Rr,rfl,nQ,_⟩:=Paired.at' hp hi;have nQ:=s5 _ _ nQ;have Ub:=(List.getElem?_eq_some_iff.mp hq).1;have hqn:(ps.map (·.name))[i]?=some q.name:=by rw[aZ,hq];rfl
   refine⟨Cp,dx,_,nQ,C,n1,_,rfl,_,n8.k (k:=Sum.inr (S q.name)) h1,?_⟩;rw[K1];refine bj (λb=>?_) (λb=>?_)
   .have b:¬q.name∈(ps.map (·.name)).take i:=by simpa using b
    refine⟨Cp,dx,_,nQ,C,n1,_,rfl,_,FW.k (k:=Sum.inr (S q.name)) h1 (),_,_,rfl,s5.kD hd,ak,?_,?_,(nS hqn nd).mpr b⟩
    .rw[bp hqn];exact K1.put
    .have:=za (kvs:=kvs) (k:=Sum.inr (S q.name)) (v:=V.bl true);omega
   .have b:q.name∈(ps.map (·.name)).take i:=by simpa using b
    have k1:=k H' s5;rw[af (λz=>(nS hqn nd).mp (A8 z) b)]at k1;exact k1
  .rintro σ H' ⟨v,kvs,rfl,s5,h1,K1,l1,nd⟩;have k1:=k H' s5;rw[hlen,<-az (f:=(·.name)),et]at nd;rw[ag nd]at k1;exact k1
end
section
variable {Cc:Addr}
noncomputable def PW:List (Int×List Nat):=[(0,yH),(4,yI),(6,yJ),(8,rp),(10,rq),(12,yK),(14,yL)]
def zi ws:yM ws=true↔∀p∈PW,ws.getD p.1.toNat []=p.2:=by
 unfold yM PW;simp only[Bool.and_eq_true,decide_eq_true_eq,forall_mem_cons,not_mem_nil,false_imp_iff,implies_true,and_true];exact Iff.rfl
def aaN:∀p∈PW,0<=p.1/\p.1<16:=by decide
def Qg(tp1:∀H,jM K H p1 [.int 1,.int 4])(tp2:∀H,jM K H p2 [.int 2,.int 4])(tp3:∀H,jM K H p3 [.int 2,.int 3])(tp4:∀H,jM K H p4 [.int 2,.int 6]) t:
  (kindB t=none/\eU [((Sum.inr (S dA):Key),V.ref p1),(Sum.inr (S dB),.ref p2),(Sum.inr (S jr),.ref p3),(Sum.inr (S cp),.ref p4)] (Sum.inr (S t))=none)\/
  ∃(lh:Int×Int) (p:Addr),kindB t=some lh/\eU [((Sum.inr (S dA):Key),V.ref p1),(Sum.inr (S dB),.ref p2),(Sum.inr (S jr),.ref p3),(Sum.inr (S cp),.ref p4)] (Sum.inr (S t))=some (.ref p)/\∀H,jM K H p [.int lh.1,.int lh.2]:=by
 have ne:∀{u:List Nat},t≠u->¬((Sum.inr (S u):Key)=Sum.inr (S t)):=λh z=>h (cS.mp (Sum.inr.inj z)).symm;unfold kindB;by_cases h1:t=dA
 .rw[ag h1,h1];exact .inr ⟨_,p1,rfl,cA rfl,tp1⟩
 rw[af h1,cB (ne h1)];by_cases h2:t=dB
 .rw[ag h2,h2];exact .inr ⟨_,p2,rfl,cA rfl,tp2⟩
 rw[af h2,cB (ne h2)];by_cases h3:t=jr
 .rw[ag h3,h3];exact .inr ⟨_,p3,rfl,cA rfl,tp3⟩
 rw[af h3,cB (ne h3)];by_cases h4:t=cp
 .rw[ag h4,h4];exact .inr ⟨_,p4,rfl,cA rfl,tp4⟩
 rw[af h4,cB (ne h4)];exact .inl ⟨rfl,rfl⟩
def Qh{t:List Nat}(hk:kindB t=some lh):1<=lh.1/\lh.2<=6:=by
 unfold kindB at hk;split at hk
 .cases hk;decide
 split at hk
 .cases hk;decide
 split at hk
 .cases hk;decide
 split at hk
 .cases hk;decide
 cases hk
noncomputable def VU(ws:List (List Nat))(k race:Int):Option MP:=match within (ws.getD 7 []) 0 400 with
    |none=>none
    |some _=>match within (ws.getD 9 []) 1 1000 with
     |none=>none
     |some _=>match within (ws.getD 13 []) 1 10000 with
      |none=>none
      |some u=>match within (ws.getD 11 []) 0 (2*u)with
       |none=>none
       |some l=>if¬(l=0\/l≥u)then none else if¬(ws.getD 15 []=js\/ws.getD 15 []=mL\/ws.getD 15 []=gw)then none else
        if¬(ws.getD 15 []≠gw\/ws.getD 2 []≠dA)then none else some ⟨ws.getD 1 [],ws.getD 2 [],k,race,u⟩
def Qi(NC Cp:Addr):Sp:=λvs H Q E=>∃(a R:Addr) (ws:List (List Nat)) (rv:List V) (rs:List (List Int)),vs=[.ref a,.ref R]/\Words H a ws/\H R=some (.lst rv)/\Paired (fY H) rv rs/\
 (∀q,eJ ws rs=some q->∀H' p dx Rr,aw H H'->H' p=some (.ins Cp dx (Cu Rr q))->H' Rr=some (.lst (mR .cV rv q.kind q.k q.race))->H p=none->H Rr=none->Q (.ref p) H')/\(eJ ws rs=none->∀H',aw H H'->E (.ref NC) none H')
def rJ:aE ["words","races","at","kind","k","own_races","unit","least"] ["words","races"] (ao Ct):=by ac_nf
def Uc(D:Def K mg "read_pool" Ct ["words","races"])(T:Tx mg)(TG:Tg P w K mg)(qt:Ok P w K mg base eX 2 "is_name" ["word"] DS)(aV:Ok P w K mg base (fW P w) 2 "number_within" ["word","lowest","highest"] (tJ NC))(a_:Ok P w K mg base (fW P w) 1 "demand" ["holds"] (aD NC))(gK:Ok P w K mg base (fW P w) 3 "read_pool_races" ["word","kind","k","races"] (zb NC))(aS:CL P w K mg base "Pool" Cp ["self","name","kind","k","races","unit"] (dD Cp) ["name","kind","k","races","unit"]):
  Ok P w K mg base (fW P w) 4 "read_pool" ["words","races"] (Qi NC Cp):=by
 refine D.B9 rJ (λvs H Q E h=>?_) (λf b9 A outer s H vs Q E hr h=>?_)
 .obtain⟨_,_,_,_,_,rfl,_⟩:=h;rfl
 .obtain⟨a,R,ws,rv,rs,rfl,hw,hA,hR,kQ,kE⟩:=h;have hu:=vt hr;obtain⟨dk,p1,p2,p3,p4,DU,kdk,tp1,tp2,tp3,tp4⟩:=TG.kinds;obtain⟨dw,tK,kdw⟩:=TG.words;obtain⟨tn,Ud,stn⟩:=TG.aaM;have uH:ws.length=16->∀i:Nat,i<16->ws[i]?=some (ws.getD i []):=λb1 i hi=>by
   rw[cT,bt ()];rfl
  obtain⟨tT,hT,kT⟩:∃tT:TS,vS (kb (fW P w) P w K mg base ["words","races","at","kind","k","own_races","unit","least"] "read_pool" (ao Ct) f b9 A outer s H E) ((ck Ct).drop 7) tT/\
    ∀(v:Option V)(k race:Int)(H2:Hp)(Rr:Addr),ws.length=16->aw H H2->H Rr=none->H2 Rr=some (.lst (mR .cV rv (ws.getD 2 []) k race))->eJ ws rs=VU ws k race->tT {nx:=λ_ H'=>Q .cV H',rt:=Q} [some (.ref a),some (.ref R),v,some (.str (S (ws.getD 2 []))),some (.int k),some (.ref Rr),none,none] H2:=by
   refine⟨_,(ah (aQ (ax (E:=E) aV (hr.mono ⋯) rfl (aW aH) (ae (bG aP (pv 0) aq (λ_ _=>rfl)) (ae aq (ae (cQ T.iS rfl) ai))))) (ah (aQ (ax (E:=E) aV (hr.mono ⋯) rfl (aW aH) (ae (bG aP (pv 0) aq (λ_ _=>rfl)) (ae aq (ae (cQ T.gI rfl) ai))))) (ah (aO (i:=6) rJ.nd rfl (Or.inl rfl) (ax (E:=E) aV (hr.mono ⋯) rfl (aW aH) (ae (bG aP (pv 0) aq (λ_ _=>rfl)) (ae aq (ae (cQ T.iT rfl) ai))))) (ah (aO (i:=7) rJ.nd rfl (Or.inl rfl) (ax (E:=E) aV (hr.mono ⋯) rfl (aW aH) (ae (bG aP (pv 0) aq (λ_ _=>rfl)) (ae aq (ae (bR rm aq (pv 6)) ai))))) (ah (aQ (ax (E:=E) a_ (hr.mono ⋯) rfl (aW aH) (ae (Kr (aU cD (pv 7) aq (aG _)) (i5 (aU FE (pv 7) (pv 6) (aG _)))) ai))) (ah (aQ (ax (E:=E) a_ (hr.mono ⋯) rfl (aW aH) (ae (aU uw (bG aP (pv 0) aq (λ_ _=>rfl)) (mP Ud rfl) rfl) ai))) (ah (aQ (ax (E:=E) a_ (hr.mono ⋯) rfl (aW aH) (ae (Kr (aU BA (bG aP (pv 0) aq (λ_ _=>rfl)) bu (aG _)) (i5 (aU BA (pv 3) bu (aG _)))) ai))) (au (aJ (VM aS (hr.mono ⋯) rfl (ae (bG aP (pv 0) aq (λ_ _=>rfl)) (ae (pv 3) (ae (pv 4) (ae (pv 5) (ae (pv 6) ai))))))))))))))),λv k race H2 Rr b1 Oq nR hRr pm=>?_⟩;replace uH:=uH b1;unfold VU at pm;simp? only[aD];have GH:=hw.same Oq;have HV:eJ ws rs=none->E (.ref NC) none H2:=λz=>kE z H2 Oq;have q7:=GH.at (uH 7 ⋯);refine⟨_,aM.of GH.1,_,q7.1,_,_,_,rfl,q7.2,?_⟩;cases e7:within (ws.getD 7 []) 0 400 with
   |none=>exact HV (by rw[pm,e7])
   |some tk=>
   rw[e7]at pm;dsimp only at pm⊢;have q9:=GH.at (uH 9 ⋯);refine⟨_,aM.of GH.1,_,q9.1,_,_,_,rfl,q9.2,?_⟩;cases e9:within (ws.getD 9 []) 1 1000 with
   |none=>exact HV (by rw[pm,e9])
   |some bk=>
   rw[e9]at pm;dsimp only at pm⊢;have q13:=GH.at (uH 13 ⋯);refine⟨_,aM.of GH.1,_,q13.1,_,_,_,rfl,q13.2,?_⟩;cases e13:within (ws.getD 13 []) 1 10000 with
   |none=>exact HV (by rw[pm,e13])
   |some u=>
   rw[e13]at pm;dsimp only at pm⊢;have hun:=dn e13;simp? only[aD];have q11:=GH.at (uH 11 ⋯);refine⟨_,aM.of GH.1,_,q11.1,?_⟩;refine⟨.inl ⋯,_,_,_,rfl,q11.2,?_⟩;cases e11:within (ws.getD 11 []) 0 (2*u)with
   |none=>exact HV (by rw[pm,e11])
   |some l=>
   rw[e11]at pm;dsimp only at pm⊢;simp? only[aD,Se];have q15:=GH.at (uH 15 ⋯);refine bj (λc1=>?_) (λc1=>HV (by rw[pm,ag c1]));rw[af (Classical.not_not.mpr c1)]at pm;refine⟨_,aM.of GH.1,_,q15.1,_,.inr (stn H2),rfl,rfl,?_⟩;have eN:Y6 (.str (S (ws.getD 15 []))) [.str (S js),.str (S mL),.str (S gw)]=decide (ws.getD 15 []=js\/ws.getD 15 []=mL\/ws.getD 15 []=gw):=by
    simp only[Y6,any_cons,any_nil,XN,Bool.or_false];rw[jJ];simp only[Bool.or_eq_true,beq_iff_eq,cS,decide_eq_true_eq];exact or_congr eq_comm (or_congr eq_comm eq_comm)
   rw[eN];simp only[decide_eq_true_eq];refine bj (λc2=>?_) (λc2=>HV (by rw[pm,ag c2]));rw[af (Classical.not_not.mpr c2)]at pm;refine⟨_,aM.of GH.1,_,q15.1,rfl,?_⟩;have eF:Str.ofString "fewer"=S gw:=by decide+kernel
   have eP:Str.ofString "place"=S dA:=by decide+kernel
   simp only[eF,eP,V.str.injEq,cS,Gv];refine bj (λc3=>?_) (λc3=>HV (by rw[pm,ag c3]));rw[af (Classical.not_not.mpr c3)]at pm;have q1':=GH.at (uH 1 ⋯);simp? only[];refine⟨_,aM.of GH.1,_,q1'.1,λx dx nx ndx nex=>?_⟩;refine⟨x,dx,Rr,⟨_,_,_,race,_⟩,rfl,ak,λH3 h3' k2=>⟨rfl,?_⟩⟩;have s3:aw H2 H3:=aw.made nx ndx k2;exact kQ _ pm H3 x dx Rr (Oq.trans s3) h3' (s3 _ _ hRr) (Oq.free nx) nR
  refine⟨_,(ah (aQ (ax (E:=E) a_ (hr.mono ⋯) rfl (aW aH) (ae (aU cD (aC aA (by rfl) T.cq bN (ae (pv 0) ai)) (cQ T.fN rfl) (aG _)) ai))) (ah (fJ PassesOwn.leaving rfl (Pt (mP tK rfl)) (aT (i:=2) rJ.nd rfl (Or.inl rfl)) (au (aQ (ax (E:=E) a_ (hr.mono ⋯) rfl (aW aH) (ae (aU cD (bG aP (pv 0) (pv 2) (λ_ _=>rfl)) (DK (mP tK rfl) (pv 2) (λ_ _=>rfl)) (aG _)) ai))))) (ah (aQ (ax (E:=E) a_ (hr.mono ⋯) rfl (aW aH) (ae (ax qt (hr.mono ⋯) rfl cu (ae (bG aP (pv 0) aq (λ_ _=>rfl)) ai)) ai))) (ah (aO (i:=3) rJ.nd rfl (Or.inl rfl) (bG aP (pv 0) aq (λ_ _=>rfl))) (ah (aQ (ax (E:=E) a_ (hr.mono ⋯) rfl (aW aH) (ae (yi (XB (pv 3) (mP DU rfl))) ai))) (ah (aO (i:=4) rJ.nd rfl (Or.inl rfl) (ax (E:=E) aV (hr.mono ⋯) rfl (aW aH) (ae (bG aP (pv 0) aq (λ_ _=>rfl)) (ae (bG OY (DK (mP DU rfl) (pv 3) (λ_ _=>rfl)) aq (λ_ _=>rfl)) (ae (bG OY (DK (mP DU rfl) (pv 3) (λ_ _=>rfl)) aq (λ_ _=>rfl)) ai))))) (ah (aO (i:=5) rJ.nd rfl (Or.inl rfl) (ax (E:=E) gK (hr.mono ⋯) rfl (aW aH) (ae (bG aP (pv 0) aq (λ_ _=>rfl)) (ae (pv 3) (ae (pv 4) (ae (pv 1) ai)))))) hT))))))),?_⟩;have Ze:eJ ws rs=none->E (.ref NC) none H:=λz=>kE z H λ_ _ h=>h;simp? only[aD];refine⟨_,.inl (aM.of hw.1),?_⟩;rw[az];refine bj (λb1=>?_) (λb1=>Ze (by unfold eJ;rw[ag ()]));have b1:ws.length=16:=by omega
  have uH:∀i:Nat,i<16->ws[i]?=some (ws.getD i []):=λi hi=>by
   rw[cT,bt ()];rfl
  refine⟨dw,_,rfl,kdw,MO (λi σ H'=>∃v:Option V,σ=[some (.ref a),some (.ref R),v,none,none,none,none,none]/\H'=H/\∀p∈PW.take i,ws.getD p.1.toNat []=p.2) ⟨none,rfl,rfl,by simp⟩ ?_ ?_⟩
  .rintro i k v σ H' hk ⟨v2,rfl,e,hI⟩;subst e;obtain⟨p,hp,rfl,rfl⟩:∃p,PW[i]?=some p/\k=Sum.inl p.1/\v=.str (S p.2):=by
    have hk:(PW.map λp=>((Sum.inl p.1:Key),V.str (S p.2)))[i]?=some (k,v):=hk;rw[aZ]at hk;cases q:PW[i]? with
    |none=>rw[q]at hk;cases hk
    |some p=>
     rw[q]at hk;cases hk;exact⟨p,rfl,rfl,rfl⟩
   have HW:=bg hp;have dR:=aaN p HW;have g:=uH p.1.toNat ();have q:=hw.atZ (z:=p.1) () g;have hv:eU (PW.map λp=>((Sum.inl p.1:Key),V.str (S p.2))) (Sum.inl p.1)=some (.str (S p.2)):=by
    have:∀p∈PW,eU (PW.map λp=>((Sum.inl p.1:Key),V.str (S p.2))) (Sum.inl p.1)=some (.str (S p.2)):=by decide+kernel
    exact this p HW
   refine⟨_,aM.of hw.1,_,q.1,dw,_,Sum.inl p.1,_,rfl,rfl,kdw,hv,?_⟩;simp only[Vy,qO,pY,Il,aD,append_nil,Oz,V.str.injEq,cS];refine bj (λb=>?_) (λb=>?_)
   .have b:ws.getD p.1.toNat []=p.2:=by simpa using b
    refine⟨_,rfl,trivial,λx hx=>?_⟩;rw[bp hp]at hx;obtain z|z:=mem_append.mp hx
    .exact hI x z
    .have e:x=p:=by simpa using z
     subst e;exact b
   .have b:¬ws.getD p.1.toNat []=p.2:=by simpa using b
    refine Ze ?_;unfold eJ;rw[af (),ag];cases z:yM ws with
    |false=>rfl|true=>exact absurd ((zi ws).mp z p HW) b
  .rintro σ H' ⟨v2,rfl,e,hI⟩;subst e;have hF:yM ws=true:=(zi ws).mpr hI;have pm:eJ ws rs=eJ ws rs:=rfl
   conv at pm=>rhs;unfold eJ
   rw[af (),af (by rw[hF];decide)]at pm;clear hI;simp? only[aD];have q1:=hw.at (uH 1 ⋯);refine⟨_,aM.of hw.1,_,q1.1,_,rfl,q1.2,λH1 sm=>⟨_,rfl,?_⟩⟩;have P_:=hw.same sm;have hA1:=sm _ _ hA;have hR1:Paired (fY H1) rv rs:=Paired.fU hR λ_ _ z=>z.same sm;have kE1:eJ ws rs=none->E (.ref NC) none H1:=λz=>kE z H1 sm;refine bj (λb2=>?_) (λb2=>kE1 (by rw[pm,ag ‹b2›]));rw[af (by rw[b2];decide)]at pm;have q2:=P_.at (uH 2 ⋯);refine⟨_,aM.of P_.1,_,q2.1,dk,_,Sum.inr (S (ws.getD 2 [])),rfl,rfl,kdk,_,rfl,?_⟩;obtain⟨ek,ev⟩|⟨lh,pk,ek,ev,tk⟩:=Qg tp1 tp2 tp3 tp4 (ws.getD 2 [])
   .rw[ev];exact kE1 (by rw[pm,ek])
   rw[ek]at pm;dsimp only at pm;rw[ev];have q3:=P_.at (uH 3 ⋯);refine⟨_,aM.of P_.1,_,q3.1,?_⟩;refine⟨dk,_,Sum.inr (S (ws.getD 2 [])),_,rfl,rfl,kdk,ev,?_⟩;refine⟨pk,rfl,_,tk H1,_,eG (j:=0) rfl,?_⟩;refine⟨dk,_,Sum.inr (S (ws.getD 2 [])),_,rfl,rfl,kdk,ev,pk,rfl,_,tk H1,_,eG (j:=1) rfl,_,_,_,rfl,q3.2,?_⟩;cases e3:within (ws.getD 3 []) lh.1 lh.2 with
   |none=>exact kE1 (by rw[pm,e3])
   |some k=>
   rw[e3]at pm;dsimp only at pm⊢;have q5:=P_.at (uH 5 ⋯);have h3:=dn e3;have aeB:1<=lh.1/\lh.2<=6:=Qh ek;refine⟨_,aM.of P_.1,_,q5.1,_,_,_,_,rv,rs,rfl,q5.2,hA1,hR1,by omega,by omega,λrace e5 H2 Rr s2 nR hRr=>?_,λe5=>kE1 (by rw[pm,e5])⟩;rw[e5]at pm;dsimp only at pm;exact kT _ k race H2 Rr b1 (sm.trans s2) (sm.free nR) hRr pm
end
noncomputable abbrev vF:Stmt:=top 65
theorem take_takeWhile p:∀l:List α,l.take (l.takeWhile p).length=l.takeWhile p
 |[]=>rfl
 |a::l=>by
  by_cases h:p a=true
  .rw[mr,ag h,aY,take_succ_cons,take_takeWhile p l]
  .rw[mr,af h];rfl
theorem oJ p:∀l:List α,l.drop (l.takeWhile p).length=l.dropWhile p
 |[]=>rfl
 |a::l=>by
  by_cases h:p a=true
  .rw[mr,ag h,aY,drop_succ_cons,oJ p l,mw,ag h]
  .rw[mr,af h,mw,af h];rfl
theorem zj{f:α->Option β}:∀{l}{i:Nat}{x},l[i]?=some x->f x=none->cM f l=none
 |[],i,x,h,_=>by simp at h
 |a::l,0,x,h,hf=>by
  have e:=Option.some.inj h;subst e;unfold cM;rw[hf]
 |a::l,i+1,x,h,hf=>by
  unfold cM;rw[zj (i:=i) (x:=x) ‹h› hf];cases f a<;>rfl
section
variable {Cc:Addr}
def zk(Cp:Addr)(H:Hp)(L:Addr)(rs:List (List Int))(ps:List MP):Prop:=∃rv,Paired (fY H) rv rs/\zg Cp H L rv ps
theorem zk.same{ps:List MP}(h:zk Cp H L rs ps)(s:aw H H'):zk Cp H' L rs ps:=by
 obtain⟨rv,h1,h2⟩:=h;exact⟨rv,Paired.fU h1 λ_ _ z=>z.same s,h2.same s⟩
noncomputable def cg(ns:List Int):List Nat:=ns.map λn=>sg n.toNat
noncomputable def VV(rs:List (List Int))(DV:List (List (List Nat))):Option (List (List Int)×List MP):=match cM (λws=>eJ ws rs) DV with
 |none=>none|some pools=>if(pools.map (·.name)).Nodup then some (rs,pools)else none
def Qj(K:PySem.W.Frag)(NC Cp:Addr):Sp:=λvs H Q E=>∃(a:Addr) (ns:List Int),vs=[.ref a]/\aM K H a (ns.map V.int)/\(∀n∈ns,0<=n/\n<=255)/\ns.length<=66000/\
 (∀rs ps,d7 (cg ns)=some (rs,ps)->∀H' c,aw H H'->zk Cp H' c rs ps->Q (.ref c) H')/\(d7 (cg ns)=none->∀H',aw H H'->E (.ref NC) none H')
def mS:aE ["codes","lines","race_count","races","pool_lines","pools","words"] ["codes"] (ao vF):=by ac_nf
def Ue(D:Def K mg "read_card" vF ["codes"])(T:Tx mg)(jz:Ok P w K mg base eX 2 "text_of" ["codes"] (I_ K))(iu:Ok P w K mg base eX 2 "lines_of" ["text"] DR)(a_:Ok P w K mg base (fW P w) 1 "demand" ["holds"] (aD NC))(oK:Ok P w K mg base (fW P w) 3 "check_day" ["words"] (VS NC))(kW:Ok P w K mg base eX 1 "count_races" ["lines"] K9)(oM:Ok P w K mg base (fW P w) 3 "read_race" ["words"] (Qa NC))(oN:Ok P w K mg base (fW P w) 4 "read_pool" ["words","races"] (Qi NC Cp))(fj:Ok P w K mg base (fW P w) 2 "check_names_differ" ["pools"] (GK NC Cp)):
  Ok P w K mg base (fW P w) 5 "read_card" ["codes"] (Qj K NC Cp):=by
 refine D.B9 mS (λvs H Q E h=>?_) (λf b9 A outer s H vs Q E hr h=>?_)
 .obtain⟨_,_,rfl,_⟩:=h;rfl
 .obtain⟨a,ns,rfl,hS,hb,hl,kQ,kE⟩:=h;obtain⟨tT,hT,kT⟩:∃tT:TS,vS (kb (fW P w) P w K mg base ["codes","lines","race_count","races","pool_lines","pools","words"] "read_card" (ao vF) f b9 A outer s H E) ((ck vF).drop 8) tT/\
    ∀(L D1 p2:Addr)(m:Int)(H6:Hp)(ys xs2:List V)(rs:List (List Int))(DV:List (List (List Nat))),aw H H6->H6 D1=some (.lst ys)->Paired (fY H6) ys rs->H6 p2=some (.lst xs2)->Paired (λv ws=>∃p,v=.ref p/\Words H6 p ws) xs2 DV->DV.length<=70000->d7 (cg ns)=VV rs DV->
     tT {nx:=λ_ H'=>Q .cV H',rt:=Q} [some (.ref a),some (.ref L),some (.int m),some (.ref D1),some (.ref p2),none,none] H6:=by
   refine⟨_,(ah (B_ (own:=[("words",6)]) (E:=E) rfl rfl rfl aH rfl mS.nd (i:=5) rfl rfl (sY rfl rfl rfl rfl) (bZ (pv 4)) (bX (N:=["codes","lines","race_count","races","pool_lines","pools","words"]) (sc:=ao vF) (by decide+kernel)) (λ_ _ _ _ _=>aT (i:=6) mS.nd rfl (Or.inl rfl)) (λ_ _ _ _ _=>dH) (λ_ _ _ _ _=>(ax (E:=E) oN (hr.mono ⋯) rfl (aW IH) (ae (pv 6) (ae (pv 3) ai))))) (ah (aQ (ax (E:=E) fj (hr.mono ⋯) rfl (aW aH) (ae (pv 5) ai))) (au (aJ (pv 5))))),λL D1 p2 m H6 ys xs2 rs DV s06 i9 hR5 VW XZ Y8 pm=>?_⟩;have hz:=bE;have zl:=Paired.eQ XZ;unfold VV at pm;refine⟨p2,rfl,⟨_,aM.of VW⟩,λD2 Ug=>?_⟩;refine fS (xs:=xs2) (λH v (r:MP)=>∃q dx Rr,v=.ref q/\q≠D2/\Rr≠D2/\H q=some (.ins Cp dx (Cu Rr r))/\H Rr=some (.lst (mR .cV ys r.kind r.k r.race))) DV (λws=>eJ ws rs) (by rw[zl]) (by rw[zl];omega) Ug (aM.of VW) ?_ ?_ ?_
   .rintro H7 H8 v r sb ⟨q,dx,Rr,e,n,n2,h1,h2⟩;exact⟨q,dx,Rr,e,n,n2,sb _ _ n h1,sb _ _ n2 h2⟩
   .intro i x u H' hx hu sm oH R k2;obtain⟨u',KC,q,rfl,hw⟩:=Paired.at' XZ hx;have eu:u'=u:=Option.some.inj (KC.symm.trans hu);subst eu;obtain⟨acc,oH⟩:=oH;refine⟨q,D1,u',ys,rs,rfl,hw.same sm,sm _ _ i9,Paired.fU hR5 λ_ _ z=>z.same sm,λr er H7 b dx Rr s7 hb hb2 hn Y1=>?_,λer H7 s7=>?_⟩
    .exact k2 _ _ _ er s7 ⟨b,dx,Rr,rfl,λz=>(by rw[z,oH]at hn;cases hn),λz=>(by rw[z,oH]at Y1;cases Y1),hb,hb2⟩
    .exact kE (by rw[pm,zj (f:=λws=>eJ ws rs) hu er]) H7 (s06.trans (sm.trans s7))
   .intro H7 ys2 ps X0 adN P6 adO;rw[P6]at pm;dsimp only at pm;have s07:=s06.trans X0;have hP7:zg Cp H7 D2 ys ps:=⟨by rw[gB P6];omega,ys2,adN,Paired.fU adO λv r ⟨q,dx,Rr,e,_,_,h,h'⟩=>⟨q,dx,Rr,e,h,h'⟩⟩;refine⟨D2,ys,ps,rfl,hP7,λH8 s8=>?_⟩;refine bj (λb4=>?_) (λb4=>kE (by rw[pm,af b4]) H8 (s07.trans s8));rw[ag b4]at pm;exact kQ rs ps pm H8 D2 (s07.trans s8) ⟨ys,Paired.fU hR5 λ_ _ z=>z.same (X0.trans s8),hP7.same s8⟩
  refine⟨_,(ah (aO (i:=1) mS.nd rfl (Or.inl rfl) (ax iu (hr.mono ⋯) rfl cu (ae (ax jz (hr.mono ⋯) rfl cu (ae (pv 0) ai)) ai))) (ah (aQ (ax (E:=E) a_ (hr.mono ⋯) rfl (aW aH) (ae (kP (aU Kv (pv 1) yf (aG _)) (i5 (aU vj (aC aA (by rfl) T.cq bN (ae (pv 1) ai)) aq (aG _)))) ai))) (ah (aQ (ax (E:=E) oK (hr.mono ⋯) rfl (aW aH) (ae (bG aP (pv 1) aq (λ_ _=>rfl)) ai))) (ah (aO (i:=2) mS.nd rfl (Or.inl rfl) (ax kW (hr.mono ⋯) rfl cu (ae (pv 1) ai))) (ah (aQ (ax (E:=E) a_ (hr.mono ⋯) rfl (aW aH) (ae (ym jN jN aq (pv 2) (cQ T.gG rfl)) ai))) (ah (aO (i:=3) mS.nd rfl (Or.inr rfl) (II (own:=[("words",6)]) (E:=E) rfl rfl rfl aH rfl mS.nd (bZ (iQ kr (pv 1) (iH aq) (iH (bR fV aq (pv 2))))) (bX (N:=["codes","lines","race_count","races","pool_lines","pools","words"]) (sc:=ao vF) (by decide+kernel)) (λ_ _ _ _ _=>aT (i:=6) mS.nd rfl (Or.inl rfl)) (λ_ _ _ _ _=>dH) (λ_ _ _ _ _=>(ax (E:=E) oM (hr.mono ⋯) rfl (aW IH) (ae (pv 6) ai))))) (ah (aO (i:=4) mS.nd rfl (Or.inl rfl) (iQ kr (pv 1) (iH (bR fV aq (pv 2))) qd)) (ah (aQ (ax (E:=E) a_ (hr.mono ⋯) rfl (aW aH) (ae (aU jN (aC aA (by rfl) T.cq bN (ae (pv 4) ai)) (cQ T.gH rfl) (aG _)) ai))) hT)))))))),?_⟩;have hz:=bE;have A3:(cg ns).length<=66000:=by unfold cg;rw[az];exact hl
  have hc1:∀c∈cg ns,c<128:=λc hc=>by
   unfold cg at hc;obtain⟨n,_,rfl⟩:=mem_map.mp hc;exact VR _
  simp? only[aD];refine⟨a,ns,rfl,hS,hb,hl,λH1 s1=>⟨cg ns,rfl,A3,hc1,?_⟩⟩;have pm:d7 (cg ns)=d7 (cg ns):=rfl
  conv at pm=>rhs;unfold d7
  cases eL:i7 (cg ns)with
  |none=>
   rw[eL]at pm;intro H2 s2;rw[af (Classical.not_not.mpr rfl)];exact kE pm H2 (s1.trans s2)
  |some ls=>
  rw[eL]at pm;intro H2 L s2 hL;have s02:=s1.trans s2;have HV:d7 (cg ns)=none->E (.ref NC) none H2:=λz=>kE z H2 s02;simp? only[aD,reduceCtorEq,not_false_eq_true];obtain⟨hll,as,hA,hp⟩:=id hL;have hlen:=Paired.eQ hp;refine⟨_,.inl (aM.of hA),?_⟩;cases ls with
  |nil=>
   have e0:as.length=0:=by rw[hlen];rfl
   rw[e0];exact HV pm
  |cons d ls=>
  refine bj (λ_=>?_) (λz=>absurd (show(0:Int)<as.length by rw[hlen];simp) z);obtain⟨v0,Nh,p0,rfl,hw0⟩:=Paired.Kp hp (i:=0) rfl;refine⟨_,aM.of hA,_,eG Nh,p0,d,rfl,hw0,λH3 s3=>?_⟩;have s03:=s02.trans s3;dsimp only at pm;refine bj (λb1=>?_) (λb1=>kE (by rw[pm,ag ‹b1›]) H3 s03);rw[af (by rw[b1];decide)]at pm;refine⟨L,d,ls,rfl,hL.same s3,λH4 s4=>?_⟩;have s04:=s03.trans s4;have s24:=s3.trans s4;have hL4:=hL.same s24;simp? only[aD];generalize hm0:(List.takeWhile c7 ls).length=m at*;have eT:ls.take m=ls.takeWhile c7:=by rw[<-hm0,take_takeWhile]
  have eD:ls.drop m=ls.dropWhile c7:=by rw[<-hm0,oJ]
  refine bj (λb2=>?_) (λb2=>kE (by rw[pm,ag ()]) H4 s04);rw[af (),<-eT,<-eD]at pm;have hA4:=s24 _ _ hA;refine⟨_,aM.of hA4,λp XX=>⟨p,rfl,⟨_,aM.of ak⟩,λD1 VX=>?_⟩⟩;have ec:lH as (some 1) (some (1+(m:Int)))=(as.drop 1).take m:=by
   have:=GC as 1 (1+m);rw[Nat.add_sub_cancel_left]at this;rw[<-this];congr 2
  rw[ec]at VX⊢;have s5:aw H4 (upd H4 p (.lst ((as.drop 1).take m))):=aw.new XX;have s25:=s24.trans s5;have hpL:Paired (λv ws=>∃p,v=.ref p/\Words H2 p ws) (as.drop 1) ls:=Paired.drop' 1 hp;have aaO:=Paired.eQ hpL;simp only[length_cons]at hll;refine fS (xs:=(as.drop 1).take m) (λH v (r:List Int)=>∃q,v=.ref q/\q≠D1/\H q=some (.lst (r.map V.int))) (ls.take m) gA (by rw[cP,cP,aaO]) (by rw[cP];omega) VX (aM.of ak) ?_ ?_ ?_
  .rintro H5 H6 v r sb ⟨q,e,n,h1⟩;exact⟨q,e,n,sb _ _ n h1⟩
  .intro i x u H' hx hu sm oH R k2;obtain⟨u',KC,q,rfl,hw⟩:=Paired.at' (Paired.take' m hpL) hx;have eu:u'=u:=Option.some.inj (KC.symm.trans hu);subst eu;obtain⟨acc,oH⟩:=oH;refine⟨q,u',rfl,hw.same (s25.trans sm),λr er H6 b s6 hb hn=>?_,λer H6 s6=>?_⟩
   .exact k2 _ _ _ er s6 ⟨b,rfl,λz=>(by rw[z,oH]at hn;cases hn),hb⟩
   .exact kE (by rw[pm,zj hu er]) H6 ((s02.trans s25).trans (sm.trans s6))
  .intro H5 ys rs sm5 i9 hm Sg;rw[hm]at pm;dsimp only at pm;have X1:=s25.trans sm5;have s05:=s02.trans X1;have hR5:Paired (fY H5) ys rs:=Paired.fU Sg λv r ⟨q,e,_,h⟩=>⟨q,e,h⟩;refine⟨_,aM.of (X1 _ _ hA),λp2 Iz=>?_⟩;have ec2:lH as (some (1+(m:Int))) none=(as.drop 1).drop m:=by
    rw[drop_drop,<-qo];congr 2
   rw[ec2];have XZ:=Paired.drop' m hpL;have zl:=Paired.eQ XZ;refine⟨_,.inl (aM.of ak),?_⟩;rw[zl];have s6:aw H5 (upd H5 p2 (.lst ((as.drop 1).drop m))):=aw.new Iz;have s06:=s05.trans s6;have s26:=X1.trans s6;refine bj (λb3=>?_) (λb3=>kE (by rw[pm,ag ()]) _ s06);rw[af ()]at pm;refine kT L D1 p2 m _ ys _ rs (ls.drop m) s06 (s6 _ _ i9) (Paired.fU hR5 λ_ _ z=>z.same s6) ak (Paired.fU XZ λ_ _ adP=>?_) (by rw[dX];omega) pm;obtain⟨p,e,z⟩:=adP;exact⟨p,e,z.same s26⟩
end
noncomputable abbrev DW:Stmt:=top 11
noncomputable abbrev DX:Stmt:=top 10
noncomputable abbrev DY:Stmt:=top 12
noncomputable abbrev DZ:Stmt:=top 9
noncomputable abbrev D0:Stmt:=top 3
noncomputable abbrev D4:Stmt:=top 4
section
variable {Cc:Addr}
def D5:Sp:=λvs H Q _=>∃n k:Int,vs=[.int n,.int k]/\0<=n/\n<=70000/\0<=k/\k<=100/\Q (.int (jR n k.toNat)) H
def xK:aE ["interests","k","rows","taken"] ["interests","k"] (ao DW):=by ac_nf
def Qk(D:Def K mg "count_rows" DW ["interests","k"])(T:Tx mg):Ok P w K mg base eX 1 "count_rows" ["interests","k"] D5:=by
 refine D.ok xK (λvs H Q E h=>?_) (λf b9 A outer s H vs Q E hr h=>?_)
 .obtain⟨_,_,rfl,_⟩:=h;rfl
 .obtain⟨n,k,rfl,n0,n1,k0,k1,kQ⟩:=h;refine⟨_,(ah (aO (i:=2) xK.nd rfl (Or.inl rfl) aq) (ah (fJ hU rfl (Bx rfl T.iJ (ae (pv 1) ai)) (aT (i:=3) xK.nd rfl (Or.inl rfl)) (au (Dh (i:=2) xK.nd rfl (Or.inl rfl) (bR ib (pv 0) (pv 3)) Pw))) (au (aJ (pv 2))))),?_⟩;refine⟨k,rfl,by omega,by omega,Bz (lo:=0) (n:=k.toNat) (λi σ H'=>∃v:Option V,σ=[some (.int n),some (.int k),some (.int (jR n i)),v]/\H'=H) ⟨none,rfl,rfl⟩ ?_ ?_⟩
  .rintro i σ H' hi ⟨v,rfl,e⟩;subst e;refine⟨.inr (),some (.int (0+(i:Int))),?_,rfl⟩;rw[yV,pP];rfl
  .rintro σ H' ⟨v,rfl,e⟩;subst e;exact kQ
def D6:Sp:=λvs H Q _=>∃(R:Addr) (rs:List (List Int)),vs=[.ref R]/\vE H R rs/\(∀r∈rs,r.length<=70000)/\Q (.int (jh rs)) H
def xM:aE ["lists","rows","choices"] ["lists"] (ao DX):=by ac_nf
def Ql(D:Def K mg "count_choices" DX ["lists"])(T:Tx mg):Ok P w K mg base eX 1 "count_choices" ["lists"] D6:=by
 refine D.ok xM (λvs H Q E h=>?_) (λf b9 A outer s H vs Q E hr h=>?_)
 .obtain⟨_,_,rfl,_⟩:=h;rfl
 .obtain⟨R,rs,rfl,⟨as,hA,hp⟩,hb,kQ⟩:=h;refine⟨_,(ah (aO (i:=1) xM.nd rfl (Or.inl rfl) aq) (ah (fJ hU rfl (bZ (pv 0)) (aT (i:=2) xM.nd rfl (Or.inl rfl)) (au (Dh (i:=1) xM.nd rfl (Or.inl rfl) (aC aA (by rfl) T.cq bN (ae (pv 2) ai)) Pw))) (au (aJ (pv 1))))),?_⟩;have hlen:=Paired.eQ hp;refine⟨R,rfl,⟨_,aM.of hA⟩,iP (K:=K) (a:=R) (xs:=as) (λi σ H'=>∃v:Option V,σ=[some (.ref R),some (.int (jh (rs.take i))),v]/\H'=H) ⟨none,rfl,rfl⟩ (λi σ H' _ ⟨_,_,e⟩=>by rw[e];exact aM.of hA) ?_ ?_⟩
  .rintro i y σ H' hi ⟨v,rfl,e⟩;subst e;obtain⟨r,Gp,p,rfl,nQ⟩:=Paired.at' hp hi;have:=hb r (bg Gp);refine⟨_,.inl (aM.of nQ),.inr (by rw[az];omega),some (.ref p),?_,rfl⟩;rw[az,bp Gp];unfold jh;rw[pN];rfl
  .rintro σ H' ⟨v,rfl,e⟩;subst e;rw[hlen,et];exact kQ
noncomputable def Cv(n k:Int):Int:=jR n k.toNat/jR k k.toNat
def La(h0:0<=k)(h6:k<=6):0<jR k k.toNat/\jR k k.toNat<1073741824:=by
 have:∀k:Fin 7,0<jR (k.val:Int) k.val/\jR (k.val:Int) k.val<1073741824:=by decide+kernel
 have h:=this ⟨k.toNat,by omega⟩;have e:((k.toNat:Nat):Int)=k:=by omega
 simpa[e]using h
def xN:Sp:=λvs H Q _=>∃n k:Int,vs=[.int n,.int k]/\0<=n/\n<=70000/\0<=k/\k<=6/\Q (.int (Cv n k)) H
def Uh:aE ["interests","k"] ["interests","k"] (ao DY):=by ac_nf
def Qm(D:Def K mg "count_sets" DY ["interests","k"])(dZ:Ok P w K mg base eX 1 "count_rows" ["interests","k"] D5):Ok P w K mg base eX 2 "count_sets" ["interests","k"] xN:=by
 refine D.ok Uh (λvs H Q E h=>?_) (λf b9 A outer s H vs Q E hr h=>?_)
 .obtain⟨_,_,rfl,_⟩:=h;rfl
 .obtain⟨n,k,rfl,n0,n1,k0,k1,kQ⟩:=h;refine⟨_,(au (aJ (bR Ta (ax dZ (hr.mono ⋯) rfl cu (ae (pv 0) (ae (pv 1) ai))) (ax dZ (hr.mono ⋯) rfl cu (ae (pv 1) (ae (pv 1) ai)))))),?_⟩;have hd:=La k0 k1;unfold Cv at kQ;exact⟨_,_,rfl,by omega,by omega,by omega,by omega,_,_,rfl,by omega,by omega,by omega,by omega,hd,kQ⟩
def Lb(K:PySem.W.Frag):Sp:=λvs H Q _=>∃(a:Addr) (ms:List Int),vs=[.ref a]/\aM K H a (ms.map V.int)/\∀H',aw H H'->Q (.int (DN ms)) H'
def Ui:aE ["money"] ["money"] (ao D4):=by ac_nf
theorem GL:∀ms:List Int,L2.oE (ms.map V.int)=(yW ms).map V.int
 |[]=>rfl|[_]=>rfl
 |_::b::r=>by
  rw[aI,aI,xC,GL r];rfl
def Qn(D:Def K mg "sum_of_cents" D4 ["money"])(T:Tx mg):Ok P w K mg base eX 1 "sum_of_cents" ["money"] (Lb K):=by
 refine D.ok Ui (λvs H Q E h=>?_) (λf b9 A outer s H vs Q E hr h=>?_)
 .obtain⟨_,_,rfl,_⟩:=h;rfl
 .obtain⟨a,ms,rfl,hS,kQ⟩:=h;refine⟨_,(au (aJ (aC (Px rfl) (by rfl) T.Gx boot_sum (ae (tu (pv 0) aq aq) ai)))),?_⟩;refine⟨a,_,1,rfl,rfl,rfl,hS,λp hp=>?_⟩;rw[show L2.bA ((ms.map V.int).drop 1)=L2.oE (ms.map V.int)from rfl,GL];exact⟨_,aM.of ak,kQ _ (aw.new hp)⟩
def D7(K:PySem.W.Frag):Sp:=λvs H Q _=>∃(a:Addr) (ms:List Int) (n:Int),vs=[.ref a,.int n]/\aM K H a (ms.map V.int)/\ms.length<=2000000/\ms.length%2=0/\∀H',aw H H'->Q (.bl (dN ms n)) H'
def xO:aE ["money","combinations","before","at"] ["money","combinations"] (ao D0):=by ac_nf
def aaP{l:List α}(h:j+1<l.length):∃a b,l[j]?=some a/\l[j+1]?=some b/\l.drop j=a::b::l.drop (j+2):=by
 refine⟨l[j],l[j+1],bt _,bt _,?_⟩;rw[oh (show j<l.length by omega),oh (show j+1<l.length by omega)]
def Lc{ms:List Int}{z:Int}{x:Int}(e:z=(j:Int))(h:ms[j]?=some x):Ol (ms.map V.int) z=some (.int x):=at_of e (by rw[aZ,h];rfl)
def Qo(D:Def K mg "is_right" D0 ["money","combinations"])(T:Tx mg)(jT:Ok P w K mg base eX 1 "sum_of_cents" ["money"] (Lb K)):Ok P w K mg base eX 2 "is_right" ["money","combinations"] (D7 K):=by
 refine D.ok xO (λvs H Q E h=>?_) (λf b9 A outer s H vs Q E hr h=>?_)
 .obtain⟨_,_,_,rfl,_⟩:=h;rfl
 .obtain⟨a,ms,n,rfl,hS,hl,h2,kQ⟩:=h;refine⟨_,(ah (cW (bx vj (aC aA (by rfl) T.cq bN (ae (pv 0) ai)) (bR rm aq (cQ T.gD rfl)) (aG _)) (au (aJ vi)) bC) (ah (aO (i:=2) xO.nd rfl (Or.inl rfl) (qK kR aq)) (ah (fJ hU rfl (BV rfl T.iJ (ae aq (ae (aC aA (by rfl) T.cq bN (ae (pv 0) ai)) (ae aq ai)))) (aT (i:=3) xO.nd rfl (Or.inl rfl)) (ah (cW (uq (yn BD BD (pv 2) (bG aP (pv 0) (pv 3) (λ_ _=>rfl)) (pv 1))) (au (aJ vi)) bC) (ah (cW (bx BD (bG aP (pv 0) (bR fV (pv 3) aq) (λ_ _=>rfl)) aq (aG _)) (au (aJ vi)) bC) (au (aO (i:=2) xO.nd rfl (Or.inl rfl) (bG aP (pv 0) (pv 3) (λ_ _=>rfl))))))) (au (aJ (aU jN (ax jT (hr.mono ⋯) rfl cu (ae (pv 0) ai)) (cQ T.gE rfl) (aG _))))))),?_⟩;have GN:=kQ H λ_ _ h=>h;simp? only[];refine⟨_,.inl hS,.inl ⋯,?_⟩;rw[az];refine bj (λb=>?_) (λb0=>?_)
  .unfold dN at GN;rw[cU ()]at GN;exact GN
  have hl5:decide (ms.length<=524288)=true:=hX ();obtain⟨m,hm⟩:∃m,ms.length=2*m:=⟨ms.length/2,by omega⟩;simp? only[cf];refine⟨a,rfl,_,.inl hS,0,_,2,m,rfl,?_,?_⟩
  .rw[az];refine RgC.up ⋯ ⋯ ⋯ ⋯ () () ?_;split<;>omega
  refine yy (λi σ H'=>∃(v:Option V) (bf:Int),σ=[some (.ref a),some (.int n),some (.int bf),v]/\H'=H/\kC n (-1) ms=kC n bf (ms.drop (2*i))) ⟨none,-1,rfl,rfl,rfl⟩ ?_ ?_
  .rintro i σ H' hi ⟨v,bf,rfl,e,hg⟩;subst e;obtain⟨x,y,gx,gy,gd⟩:=aaP (l:=ms) (j:=2*i) ();rw[gd]at hg;have qx:=Lc (z:=0+(i:Int)*2) () gx;have qy:=Lc (z:=0+(i:Int)*2+1) () gy;simp? only[];have kF:kC n (-1) ms=false->Q (.bl false) H':=λz=>by
    have k1:=GN;unfold dN at k1;rw[z,Bool.false_and,Bool.and_false]at k1;exact k1
   have hg2:kC n bf (x::y::ms.drop (2*i+2))=(decide (bf<x)&&(decide (x<n)&&(decide (1<=y)&&kC n x (ms.drop (2*i+2))))):=rfl;rw[hg2]at hg;refine⟨_,hS,_,qx,x,rfl,?_⟩;refine bj (λb1=>⟨x,rfl,?_⟩) (λb1=>?_)
   .refine bj (λb2=>kF (by rw[hg,cU b2];simp)) (λb2=>?_);have b2:x<n:=Classical.not_not.mp b2;simp? only[cf];refine⟨_,hS,_,qy,y,rfl,?_⟩;refine bj (λb3=>kF (by rw[hg,cU (show¬1<=y by omega)];simp)) (λb3=>?_);refine⟨_,hS,_,qx,some (.int (0+(i:Int)*2)),x,⟨rfl,rfl⟩,?_⟩;rw[hg,hX b1,hX b2,hX (show 1<=y by omega)];rfl
   .exact kF (by rw[hg,cU b1];rfl)
  .rintro σ H' ⟨v,bf,rfl,e,hg⟩;subst e;rw[wK ()]at hg;refine⟨a,ms,rfl,hS,λH1 s1=>?_⟩;have k1:=kQ H1 s1;unfold dN at k1;rw[hg,hl5]at k1;exact k1
end
noncomputable abbrev d4:Stmt:=inClass (top 75) 0
def Ji n fs:(fX n fs).length<=n:=by
 refine aX (om _ _) ?_;simp
def Ni{r:List Int}(h:gA ws=some r):r.length<=24:=by
 unfold gA at h;split at h
 .cases h
 split at h
 .cases h
 rename_i n hw;have hn:=dn hw;split at h
 .cases h
 cases h;exact aX (Ji _ _) ()
def Jj{ps:List MP}(h:d7 codes=some (rs,ps)):∀r∈rs,r.length<=24:=by
 unfold d7 at h;split at h
 .cases h
 .cases h
 split at h
 .cases h
 split at h
 .cases h
 split at h
 .cases h
 rename_i hr;split at h
 .cases h
 split at h
 .cases h
 split at h
 .cases h;intro r hm;obtain⟨ws,_,h1⟩:=oG hr r hm;exact Ni h1
 .cases h
def Qp{F:V->List Int->Prop}(h:Paired F rv rs)(pin:MY rs q):Paired F (mR .cV rv q.kind q.k q.race) (mR [] rs q.kind q.k q.race):=by
 have r1:=pin.r1;have r2:=pin.r2;unfold mR;by_cases b:q.kind=cp
 .rw[ag b,ag b];exact Paired.take' _ (Paired.drop' _ h)
 .rw[af b,af b];have hl:(q.race-1).toNat<rs.length:=by omega
  obtain⟨v,hv,hf⟩:=Paired.Kp h (bt hl);rw[cT,cT,hv,bt hl];exact .cons hf .nil
section
theorem oI.at(h:oI Cp H rv v q)(hp:Paired (fY H) rv rs)(pin:MY rs q):jS Cp H v rs q:=by
 obtain⟨p,dx,Rr,e,h1,h2⟩:=h;exact⟨p,dx,Rr,e,h1,_,h2,Qp hp pin⟩
def Ld(Cp:Addr):Sp:=λvs H Q _=>∃(p:Addr) (rs:List (List Int)) (q:MP),vs=[.ref p]/\jS Cp H (.ref p) rs q/\MY rs q/\(∀r∈rs,r.length<=24)/\∀H',aw H H'->Q (.int (countM rs q)) H'
def Le:aE ["pool","interests"] ["pool"] (ao DZ):=by ac_nf
def D8:Str.ofString "place"=S dA:=by decide+kernel
def Lf:Str.ofString "order"=S dB:=by decide+kernel
def Qq(D:Def K mg "count_combinations" DZ ["pool"])(Pl:FH K Cp)(p2:cH K Cp "kind")(p3:cH K Cp "k")(p4:cH K Cp "races")(T:Tx mg)(dZ:Ok P w K mg base eX 1 "count_rows" ["interests","k"] D5)(fD:Ok P w K mg base eX 2 "count_sets" ["interests","k"] xN)(dg:Ok P w K mg base eX 1 "count_choices" ["lists"] D6):Ok P w K mg base eX 3 "count_combinations" ["pool"] (Ld Cp):=by
 refine D.ok Le (λvs H Q E h=>?_) (λf b9 A outer s H vs Q E hr h=>?_)
 .obtain⟨_,_,_,rfl,_⟩:=h;rfl
 .obtain⟨p,rs,q,rfl,⟨p',dp,Rr,e,hp,hR⟩,pin,hb,kQ⟩:=h;cases e;refine⟨_,(ah (cW (bx cD (bz (pv 0) rfl) bu (aG _)) (au (aJ (ax dg (hr.mono ⋯) rfl cu (ae (bz (pv 0) rfl) ai)))) bC) (ah (aO (i:=1) Le.nd rfl (Or.inl rfl) (aC aA (by rfl) T.cq bN (ae (bG aP (bz (pv 0) rfl) aq (λ_ _=>rfl)) ai))) (ah (cW (bx cD (bz (pv 0) rfl) bu (aG _)) (au (aJ (pv 1))) bC) (ah (cW (bx cD (bz (pv 0) rfl) bu (aG _)) (au (aJ (ax dZ (hr.mono ⋯) rfl cu (ae (pv 1) (ae (bz (pv 0) rfl) ai))))) bC) (au (aJ (ax fD (hr.mono ⋯) rfl cu (ae (pv 1) (ae (bz (pv 0) rfl) ai))))))))),?_⟩;have GN:=kQ H λ_ _ h=>h;have k1:=pin.k1;have k2:=pin.k2;have r1:=pin.r1;have r2:=pin.r2;refine⟨Cp,dp,_,hp,Pl,p2,_,rfl,?_⟩;rw[zf];simp only[tC,Vy,qO,pY,FA,V.str.injEq,cS,decide_eq_true_eq];unfold countM at kQ GN;unfold mR at hR;refine bj (λb=>?_) (λb=>?_)
  .simp only[if_pos b]at kQ GN hR;refine⟨Cp,dp,_,hp,Pl,p4,_,rfl,Rr,_,rfl,hR,λr Gp=>?_,GN⟩;have:=hb r (oo (mem_of_mem_take Gp));omega
  .simp only[if_neg b]at kQ GN hR;obtain⟨as,hA,Lg⟩:=hR;obtain⟨v,hv,pr,rfl,nQ⟩:=Paired.Kp Lg (i:=0) rfl;have A9:(rs.getD (q.race-1).toNat []).length<=24:=by
    refine hb _ ?_;rw[cT,bt (show(q.race-1).toNat<rs.length by omega)];exact pV _
   refine⟨Cp,dp,_,hp,Pl,p4,_,rfl,_,aM.of hA,_,eG hv,_,.inl (aM.of nQ),?_⟩;refine⟨Cp,dp,_,hp,Pl,p2,_,rfl,?_⟩;rw[D8];simp only[tC,Vy,qO,pY,FA,V.str.injEq,cS,decide_eq_true_eq,length_map];refine bj (λb1=>?_) (λb1=>?_)
   .rw[ag b1]at GN;exact GN
   rw[af b1]at GN;refine⟨Cp,dp,_,hp,Pl,p2,_,rfl,?_⟩;rw[Lf];simp only[tC,Vy,qO,pY,FA,V.str.injEq,cS,decide_eq_true_eq,length_map];refine bj (λb2=>?_) (λb2=>?_)
   .rw[ag b2]at GN;exact⟨Cp,dp,_,hp,Pl,p3,_,rfl,_,_,rfl,by omega,by omega,by omega,by omega,GN⟩
   rw[af b2]at GN;have hd:=La (k:=q.k) () ();rw[Int.fdiv_eq_ediv_of_nonneg _ ()]at GN;exact⟨Cp,dp,_,hp,Pl,p3,_,rfl,_,_,rfl,by omega,by omega,by omega,by omega,GN⟩
noncomputable def aaQ(r c:Int)(v:V):List (Str×V):=[("refusal",.int r),("combinations",.int c),("bet",v)]
def oO(Ca:Addr):Sp:=λvs H Q _=>∃(p dx:Addr) (r c:Int) (v:V),vs=[.ref p,.int r,.int c,v]/\H p=some (.ins Ca dx [])/\∀H',H' p=some (.ins Ca dx (aaQ r c v))->(∀b o,H b=some o->b≠p->H' b=some o)->Q .cV H'
def GO:aE ["self","refusal","combinations","bet"] ["self","refusal","combinations","bet"] (ao d4):=by ac_nf
def D9(F:TX K "__init__" "Asked.__init__" d4 dV f fd)(C:FH K Ca)(n1:cH K Ca "refusal")(n2:cH K Ca "combinations")(n3:cH K Ca "bet"):
  Cd P w K mg base eX 1 f fd ["self","refusal","combinations","bet"] (oO Ca):=by
 refine F.okN GO (λvs H Q E h=>?_) (λb9 A outer s H vs Q E h=>?_)
 .obtain⟨p,dx,r,c,v,rfl,_⟩:=h;rfl
 .obtain⟨p,dx,r,c,v,rfl,hp,k⟩:=h;refine⟨_,(ah (i6 (pv 0) (pv 1) rfl) (ah (i6 (pv 0) (pv 2) rfl) (au (i6 (pv 0) (pv 3) rfl)))),?_⟩;refine⟨p,Ca,dx,[],rfl,hp,C,n1,⋯,?_⟩;refine⟨p,Ca,dx,_,rfl,ak,C,n2,Jf,?_⟩;rw[iF];refine⟨p,Ca,dx,_,rfl,ak,C,n3,Jg,?_⟩;rw[iF];refine k _ ?_ λb o e hb=>by rw[aB hb];exact e
  rw[ak];rfl
def GP{T:Addr}{t:Tok}{kV dc pm cd ct:Value}(o:K.lookup T=some {cls:=.type "tuple",data:=.seq #[.int 0 t,.none] n}):
  ∀sU∈([[],[.cV],[.int 0,.cV]]:List (List V)),∃ds,Binds K (PySem.W.fnOf "__init__" "Asked.__init__" (fR d4) (ck d4) (ao d4) (.ref T) kV dc pm an cd ct) ["self","refusal","combinations","bet"] ds/\Vals sU ds:=by
 intro sU hd;simp only[mem_cons,not_mem_nil,or_false]at hd;obtain rfl|rfl|rfl:=hd
 .exact⟨[],λs us KX hl=>by obtain⟨_,_,_,_,rfl⟩:=T2 (show us.length=4 by simpa using hl);exact .of_defaults rfl (KX _ _ o) rfl rfl rfl,.nil⟩
 .exact⟨[.none],λs us KX hl=>by obtain⟨_,_,_,rfl⟩:=IX (show us.length=3 by simpa using hl);exact .of_defaults rfl (KX _ _ o) rfl rfl rfl,.cons rfl .nil⟩
 .exact⟨[.int 0 t,.none],λs us KX hl=>by obtain⟨_,_,rfl⟩:=mO (show us.length=2 by simpa using hl);exact .of_defaults rfl (KX _ _ o) rfl rfl rfl,.cons ⟨_,rfl⟩ (.cons rfl .nil)⟩
abbrev CLA(P:Program)(w:World)(K:PySem.W.Frag)(mg:Str->Option Value)(base:Heap)(Ca:Addr):Prop:=CLD P w K mg base "Asked" Ca ["self","refusal","combinations","bet"] (oO Ca) ["refusal","combinations","bet"] [[],[.cV],[.int 0,.cV]]
end
def fm{g:β->α}:∀{ys}{zs},Paired (λv z=>v=g z) ys zs->ys=zs.map g:=by
 intro ys zs h
 induction h with
 |nil=>rfl|cons e _ ih=>rw[e,ih];rfl
end Pd
end
section
namespace L2
open PySem PySem.Spec PyProof.Rows
abbrev mU(h:Heap)(z TI TO T:Addr)(b:Bool):Prop:=
 h.get? z=some {cls:=.type "zip",dict:=none,data:=.fields #[rawInt T,.bool b,.bool false,.ref TI,.ref TO],slots:= #[]}
section
def tL{Q:Option Obj->Shared->Prop}(h:Q (s.heap.get? a) s):wpAny M A (loadIfAlive a) Q E s:=λΓ p _=>h
def GQ{TI TO T:Addr}{b:Bool}{Q:Bool->Shared->Prop}(hz:mU s.heap z TI TO T b)(hT:s.heap.get? T=some oT)(h:∀h',mU h' z TI TO T true->Heap.SameBut z s.heap h'->Q false {s with heap:=h'}):wpAny (model prog w) A (Builtin.SmallTypes.ownedTupleIsFree (.ref z)) Q E s:=by
 unfold Builtin.SmallTypes.ownedTupleIsFree;refine aj (fG hz rfl rfl ?_);show wpAny _ _ (loadIfAlive (Int.toNat (T:Int))>>=_) _ _ _;rw[gm];refine aj (tL ?_);rw[hT,af ∅];refine aj (fG hz rfl (x:=.bool b) rfl ?_);cases b with
 |true=>
  rw[af ∅];exact ay (h s.heap hz ⟨rfl,λ_ _=>rfl⟩)
 |false=>
  rw[ag ⋯];refine aj (wpAny_setField_rec hz ∅ λh₁ hz₁ hs₁=>?_);exact ay (h h₁ hz₁ hs₁)
def A_{TI TO T:Addr}{xs:Array Value}{x y:Value}{b:Bool}(D:ZipApart z TI TO i1 i2 l1 l2)(hz:mU s.heap z TI TO T b)(hT:s.heap.get? T=some oT)(A4:IsPair s.heap TI (.ref i1) (.ref i2))(h1:s.heap.IsListIter i1 l1 k1)(h2:s.heap.IsListIter i2 l2 k2)(Qr:s.heap.IsList l1 xs)(Y8:s.heap.IsList l2 ys)(hx:xs[k1]?=some x)(hy:ys[k2]?=some y)(hQ:∀h',mU h' z TI TO T true->h'.IsListIter i1 l1 (k1+1)->h'.IsListIter i2 l2 (k2+1)->IsPair h' s.heap.objs.size x y->
   (∀c o,c≠z->c≠i1->c≠i2->s.heap.get? c=some o->h'.get? c=some o)->Q (.ref s.heap.objs.size) {s with heap:=h'}):
  wpAny (model prog w) A (Builtin.«zip.__next__» ⟨[.ref z],[]⟩) (λfin s'=>∃v,fin=.done (.ret v)/\Q v s') E s:=by
 show wpAny _ _ (field (.ref z) 2>>=_) _ _ _;refine aj (fG hz rfl rfl ?_);refine aj (fG hz rfl rfl ?_);refine aj (mx A4 rfl ?_);refine aj (GQ hz hT λh₁ hz₁ hs₁=>?_);refine aj ?_;rw[<-wD];refine aj (aj (gn ?_));refine aj (wpAny_nextOf_list_item (h1.extBut hs₁.extBut D.i1z) (Qr.extBut hs₁.extBut D.l1z) hx λh₂ h1₂ hs₂=>ay ?_);refine ay ?_;refine aj (aj (gn ?_));refine aj (wpAny_nextOf_list_item ((h2.extBut hs₁.extBut D.i2z).extBut hs₂.extBut D.i12.symm)
  ((Y8.extBut hs₁.extBut D.l2z).extBut hs₂.extBut D.l2i1) hy λh₃ h2₃ hs₃=>ay ?_)
 refine ay ?_;refine ay ?_;refine aj (wpAny_newTuple ?_ (by show 2<=sizeLine;rw[cG];decide));have f7:h₃.objs.size=s.heap.objs.size:=by rw[hs₃.1,hs₂.1,hs₁.1]
 refine ay ⟨_,rfl,?_⟩;rw[f7];have up:∀c o,h₃.get? c=some o->(h₃.push {cls:=.type "tuple",data:=.seq #[x,y]}).get? c=some o:=λc o e=>bQ _ e;refine hQ _ (up _ _ (hs₃.extBut _ _ D.i2z.symm (hs₂.extBut _ _ D.i1z.symm hz₁))) ((h1₂.extBut hs₃.extBut D.i12).at λo e=>up _ o e) (h2₃.at λo e=>up _ o e) ?_ λc o c1 c2 c3 e=>up c o (hs₃.extBut _ _ c3 (hs₂.extBut _ _ c2 (hs₁.extBut _ _ c1 e)));rw[<-f7];exact bw _ rfl
def D_{TI TO T:Addr}{k1 k2:Nat}{xs ys:Array Value}{b:Bool}{Q:Fin->Shared->Prop}(hh:A.handled=none)(D:ZipApart z TI TO i1 i2 l1 l2)(hz:mU s.heap z TI TO T b)(hT:s.heap.get? T=some oT)(A4:IsPair s.heap TI (.ref i1) (.ref i2))(h1:s.heap.IsListIter i1 l1 k1)(Qr:s.heap.IsList l1 xs)(hx:xs[k1]?=none)(hE:∀h' e,(∀c o,c≠z->c≠i1->s.heap.get? c=some o->h'.get? c=some o)->(∃o,h'.get? e=some o/\o.cls=.type "StopIteration")->E (.ref e) {s with heap:=h'}):
  wpAny (model prog w) A (Builtin.«zip.__next__» ⟨[.ref z],[]⟩) Q E s:=by
 show wpAny _ _ (field (.ref z) 2>>=_) _ _ _;refine aj (fG hz rfl rfl ?_);refine aj (fG hz rfl rfl ?_);refine aj (mx A4 rfl ?_);refine aj (GQ hz hT λh₁ hz₁ hs₁=>?_);refine aj ?_;rw[<-wD];refine aj (aj (gn ?_));refine aj (wpAny_nextOf_list_end hh (h1.extBut hs₁.extBut D.i1z) (Qr.extBut hs₁.extBut D.l1z) hx λh₂ e hs₂ he=>?_);exact hE h₂ e (λc o c1 c3 x=>hs₂ _ _ c3 (hs₁.extBut _ _ c1 x)) he
def vX{TI TO T:Addr}{xs:Array Value}{x y:Value}{b:Bool}{Q:Option Value->Shared->Prop}(D:ZipApart z TI TO i1 i2 l1 l2)(hz:mU s.heap z TI TO T b)(hT:s.heap.get? T=some oT)(A4:IsPair s.heap TI (.ref i1) (.ref i2))(h1:s.heap.IsListIter i1 l1 k1)(h2:s.heap.IsListIter i2 l2 k2)(Qr:s.heap.IsList l1 xs)(Y8:s.heap.IsList l2 ys)(hx:xs[k1]?=some x)(hy:ys[k2]?=some y)(hQ:∀h',mU h' z TI TO T true->h'.IsListIter i1 l1 (k1+1)->h'.IsListIter i2 l2 (k2+1)->IsPair h' s.heap.objs.size x y->
   (∀c o,c≠z->c≠i1->c≠i2->s.heap.get? c=some o->h'.get? c=some o)->Q (some (.ref s.heap.objs.size)) {s with heap:=h'}):
  wpAny (model prog w) A (pyNext (.ref z)) Q E s:=by
 have hTy:s.TypeIs (.ref z) "zip":=⟨_,hz,rfl⟩;exact aj (sH (qW hTy wx
  (g_ wx hTy PySem.F.entry_zip_next
   (A_ D hz hT A4 h1 h2 Qr Y8 hx hy λh' a1 a2 a3 a4 a5=>ay (hQ h' a1 a2 a3 a4 a5)) (PySem.F.args_zip_next_1 _))))
def vY{TI TO T:Addr}{k1 k2:Nat}{xs ys:Array Value}{b:Bool}{Q:Option Value->Shared->Prop}(hh:A.handled=none)(D:ZipApart z TI TO i1 i2 l1 l2)(hz:mU s.heap z TI TO T b)(hT:s.heap.get? T=some oT)(A4:IsPair s.heap TI (.ref i1) (.ref i2))(h1:s.heap.IsListIter i1 l1 k1)(Qr:s.heap.IsList l1 xs)(hx:xs[k1]?=none)(hQ:∀h',(∀c o,c≠z->c≠i1->s.heap.get? c=some o->h'.get? c=some o)->Q none {s with heap:=h'}):wpAny (model prog w) A (pyNext (.ref z)) Q E s:=by
 have hTy:s.TypeIs (.ref z) "zip":=⟨_,hz,rfl⟩;refine aj (sH (qW hTy wx
  (g_ wx hTy PySem.F.entry_zip_next (D_ (l2:=l2) (ys:=ys) (k2:=k2) hh D hz hT A4 h1 Qr hx λh' e hk he=>?_) (PySem.F.args_zip_next_1 _))))
 obtain⟨o,ho,hc⟩:=he;refine aj (wN (b:=true) ⟨o,ho,hc⟩ isSubtype_stop ?_);exact ay (hQ _ hk)
def Ba:typeLookup (.type "zip") "keys"=pure none:=am_miss_of_fast (by first|decide+kernel|rfl)
theorem uI:typeLookup (.type "zip") "__getattr__"=pure none:=am_miss_of_fast (by first|decide+kernel|rfl)
theorem mV:entryFor table "zip.__getattribute__"=some Builtin.«object.__getattribute__»:=
 entryFor_alias (id':="object.__getattribute__") (by kernel_rfl) (by decide+kernel) (by decide+kernel) (by kernel_rfl)
theorem zm(a:Addr)(fs:Array Value)(sl:Array (Option Value))(name:Str)(u:Tok)(VY:typeLookup (.type "zip") name=pure none)(Qs:(["__module__","__name__","__qualname__","__doc__","__annotations__"]:List Str).contains name=false)(f7:name.length+100<=sizeLine:=by size_fits):
  Meets (Builtin.«object.__getattribute__» ⟨[.ref a,.str name u],[]⟩) (λA R s=>s.heap.get? a=some {cls:=.type "zip",dict:=none,data:=.fields fs,slots:=sl}/\raisesAttr (.ref a) name A R s):=
 Meets.of_wp λprog w A R s hs=>by
  obtain⟨hp,g,d,tk,os⟩:=s;obtain⟨hx,hs⟩:=hs
  repeat(any_goals(first|assumption|wp_step))
  simp-iota only[Qs,Ov,C_]
  repeat(any_goals(first|assumption|wp_step))
  exact wpAny_raiseAttrError hs.1 hs.2 (attrMsg_fits (by decide+kernel) f7)
def Qt{Q:Option Value->Shared->Prop}(hx:s.heap.get? a=some {cls:=.type "zip",dict:=none,data:=.fields fs,slots:= #[]})(hA:A.handled=none)(h:∀h' tk,(∀b ob,s.heap.get? b=some ob->h'.get? b=some ob)->Q none {s with heap:=h',toks:=tk}):wpAny (model prog w) A (getAttr? (.ref a) "keys") Q E s:=by
 obtain⟨hp,g,d,tk,os⟩:=s;have hT:∀Sj,(⟨hp,g,d,Sj,os⟩:Shared).TypeIs (.ref a) "zip":=λ_=>⟨_,hx,rfl⟩;have VY:=Ba;have Qs:(["__module__","__name__","__qualname__","__doc__","__annotations__"]:List Str).contains "keys"=false:=by decide+kernel
 have f7:("keys":Str).length+100<=sizeLine:=by first|size_fits|decide+kernel
 have f1:=sub_AttributeError;have f3:=PySem.F.slot_zip_getattribute.lookup;have f4:=PySem.F.slot_zip_getattribute.bind (.ref a);have f5:=uI;unfold getAttr? getAttrBy? getAttrBy
 repeat(any_goals(first|assumption|exact hT _|((with_reducible show wpAny _ _ (call (Value.builtin "zip.__getattribute__") _ _) _ _ _);refine iE PySem.F.slot_zip_getattribute (hT _) mV (PySem.F.args_zip_getattribute_2 _ _) (zm a fs #[] "keys" _ VY Qs f7) ⟨hx,hA,λh' Sj e hx'=>?_⟩)|wp_step))
 obtain⟨t',u',he⟩:=hx'.there;show wpAny _ _ (getattributeRaised _ _ _ _ _ _ _) _ _ _;unfold getattributeRaised
 repeat(any_goals(first|assumption|wp_step))
 all_goals first|exact h _ _ hx'.keeps|(dsimp only;repeat(any_goals(first|assumption|exact h _ _ hx'.keeps|wp_step)))
end
def aaR(h:Heap)(z TI TO:Addr):Prop:=(IsZip h z TI TO .none/\∃a b,IsPair h TO a b)\/∃T b oT,mU h z TI TO T b/\h.get? T=some oT/\T≠z
structure tM(h:Heap)(z TI TO i1 i2 l1 l2:Addr)(k:Nat)(xs ys:Array Value):Prop where
 st:aaR h z TI TO
 ti:IsPair h TI (.ref i1) (.ref i2)
 i1:h.IsListIter i1 l1 k
 i2:h.IsListIter i2 l2 k
 l1:h.IsList l1 xs
 l2:h.IsList l2 ys
section
def Qu{TI TO:Addr}{xs:Array Value}{x y:Value}{Q:Option Value->Shared->Prop}(D:ZipApart z TI TO i1 i2 l1 l2)(Z:tM s.heap z TI TO i1 i2 l1 l2 k xs ys)(hx:xs[k]?=some x)(hy:ys[k]?=some y)(hQ:∀h',tM h' z TI TO i1 i2 l1 l2 (k+1) xs ys->IsPair h' s.heap.objs.size x y->(∀c o,c≠z->c≠TO->c≠i1->c≠i2->s.heap.get? c=some o->h'.get? c=some o)->Q (some (.ref s.heap.objs.size)) {s with heap:=h'}):
  wpAny (model prog w) A (pyNext (.ref z)) Q E s:=by
 obtain⟨hz,a,b,DB⟩|⟨T,b,oT,hz,hT,hTz⟩:=Z.st
 .have HR:=aN hz;refine wpAny_pyNext_zip_item D hz Z.ti DB Z.i1 Z.i2 Z.l1 Z.l2 hx hy λh' z' TO' Ft AQ hT f7 hk=>?_;refine hQ h' ⟨.inr ⟨_,false,_,z',hT,jk HR⟩,hk _ _ D.TIz D.TITO D.TIi1 D.TIi2 Z.ti,Ft,AQ,Z.l1.at λo e=>hk _ o D.l1z D.l1TO D.l1i1 D.l1i2 e,Z.l2.at λo e=>hk _ o D.l2z D.l2TO D.l2i1 D.l2i2 e⟩ hT hk
 .refine vX D hz hT Z.ti Z.i1 Z.i2 Z.l1 Z.l2 hx hy λh' z' Ft AQ hT' hk=>?_;have Tz:∃oT',h'.get? T=some oT':=by
   by_cases c1:T=i1
   .subst c1;obtain⟨o,e,_⟩:=Ft;exact⟨o,e⟩
   .by_cases c2:T=i2
    .subst c2;obtain⟨o,e,_⟩:=AQ;exact⟨o,e⟩
    .exact⟨oT,hk _ _ hTz c1 c2 hT⟩
  obtain⟨oT',Tz⟩:=Tz;exact hQ h' ⟨.inr ⟨T,true,oT',z',Tz,hTz⟩,hk _ _ D.TIz D.TIi1 D.TIi2 Z.ti,Ft,AQ,Z.l1.at λo e=>hk _ o D.l1z D.l1i1 D.l1i2 e,Z.l2.at λo e=>hk _ o D.l2z D.l2i1 D.l2i2 e⟩ hT' λc o c1 _ c3 c4 e=>hk c o c1 c3 c4 e
def Qv{TI TO:Addr}{xs:Array Value}{Q:Option Value->Shared->Prop}(hh:A.handled=none)(D:ZipApart z TI TO i1 i2 l1 l2)(Z:tM s.heap z TI TO i1 i2 l1 l2 k xs ys)(hx:xs[k]?=none)(hQ:∀h',(∀c o,c≠z->c≠TO->c≠i1->c≠i2->s.heap.get? c=some o->h'.get? c=some o)->Q none {s with heap:=h'}):
  wpAny (model prog w) A (pyNext (.ref z)) Q E s:=by
 obtain⟨hz,a,b,DB⟩|⟨T,b,oT,hz,hT,hTz⟩:=Z.st
 .exact wpAny_pyNext_zip_end hh D hz Z.ti DB Z.i1 Z.i2 Z.l1 Z.l2 (.inl hx) hQ
 .exact vY (ys:=ys) (k2:=k) hh D hz hT Z.ti Z.i1 Z.l1 hx λh' hk=>hQ h' λc o c1 _ c3 _ e=>hk c o c1 c3 e
theorem tM.at{TI TO:Addr}{xs:Array Value}(Z:tM h z TI TO i1 i2 l1 l2 k xs ys)(hS:∀c,c=z\/c=TI\/c=TO\/c=i1\/c=i2\/c=l1\/c=l2->c≠S)(there:∀b,(∃o,h.get? b=some o)->∃o,h'.get? b=some o)(hk:∀c o,c≠S->h.get? c=some o->h'.get? c=some o):tM h' z TI TO i1 i2 l1 l2 k xs ys:=by
 refine⟨?_,hk _ _ (hS _ ∅) Z.ti,Z.i1.at λo e=>hk _ o (hS _ ∅) e,Z.i2.at λo e=>hk _ o (hS _ ∅) e,Z.l1.at λo e=>hk _ o (hS _ ∅) e,Z.l2.at λo e=>hk _ o (hS _ ∅) e⟩;obtain⟨hz,a,b,DB⟩|⟨T,b,oT,hz,hT,hTz⟩:=Z.st
 .exact .inl ⟨hk _ _ (hS _ ∅) hz,a,b,hk _ _ (hS _ ∅) DB⟩
 .obtain⟨o',e'⟩:=there T ⟨_,hT⟩;exact .inr ⟨T,b,o',hk _ _ (hS _ ∅) hz,e',hTz⟩
theorem Cw{S TI TO:Addr}{xs:Array Value}(hh:A.handled=none)(D:ZipApart z TI TO i1 i2 l1 l2)(hS:∀c,c=z\/c=TI\/c=TO\/c=i1\/c=i2\/c=l1\/c=l2->c≠S):
  ∀rest i acc ix t s,xs.size=i+rest.length->acc.length+rest.length<=sizeLine->
   (∀j q,rest[j]?=some q->∃u:Value,xs[i+j]?=some u/\ys[i+j]?=some q.2/\gX q.1 u=true)->
   tM s.heap z TI TO i1 i2 l1 l2 i xs ys->s.heap.DictOf (bK prog w) S acc->
   (∀h' tk,h'.DictOf (bK prog w) S (merged acc rest)->(∀b o,b≠S->b≠z->b≠TO->b≠i1->b≠i2->s.heap.get? b=some o->h'.get? b=some o)->R (.ok (.ret res)) {s with heap:=h',toks:=tk})->
   codeAny (model prog w) A (.builtin "dict.update.loop" ⟨[.ref S,.ref z,.int ix t,res],[]⟩) R s
 |[],i,acc,ix,t,s,f7,X2,ht,Z,hm,hR=>by
  refine kM FY ?_;refine aj (Qv hh D Z (by simp at f7;simp;omega) λh' he=>?_);refine aj (ay (ay ?_));exact hR h' s.toks (hm.at λo e=>he _ o (hS _ ∅).symm (hS _ ∅).symm (hS _ ∅).symm (hS _ ∅).symm e) λb o _ h1 h2 h3 h4 e=>he b o h1 h2 h3 h4 e
 |q::rest,i,acc,ix,t,s,f7,X2,ht,Z,hm,hR=>by
  obtain⟨u,hxu,hyq,hk⟩:=ht 0 q rfl;rw[aY]at f7 X2;refine kM FY ?_;refine aj (Qu D Z ‹hxu› ‹hyq› λh1 Z1 hT1 Zf=>?_);have hm1:=hm.at λo e=>Zf _ o (hS _ ∅).symm (hS _ ∅).symm (hS _ ∅).symm (hS _ ∅).symm e;refine aj (gn ?_);refine aj (wpAny_tryCatch ?_);refine aj (sP ⟨_,hT1,rfl⟩ ?_);refine aj (mx hT1 rfl (ay ?_));refine gn (wpAny_dictSet_pairs (k:=q.1) hk hm1 (λh2 P6 S7=>?_) ());have Z2:=Z1.at hS (λb ⟨o,e⟩=>by
   by_cases c:b=S
   .subst c;obtain⟨o',_,_,xj,_⟩:=id P6;exact⟨o',xj⟩
   .exact⟨o,S7.extBut b o c e⟩) λc o h3 e=>S7.extBut c o h3 e
  refine ay ⟨pK yx _,Cw hh D hS rest (i+1) (stored acc q.1 q.2) (ix+1) 0 _ (show xs.size=i+1+rest.length by omega) ?_ (λj q' e=>?_) Z2 P6 λh' tk Ib k=>?_⟩
  .have z:=stored_length_le acc q.1 q.2;omega
  .obtain⟨u',e1,e2,e3⟩:=ht (j+1) q' ‹e›;rw[show i+1+j=i+(j+1) by omega];exact⟨u',e1,e2,e3⟩
  .exact hR h' tk Ib λc oc h3 h4 h5 h6 h7 e=>k c oc h3 h4 h5 h6 h7 (S7.extBut c oc h3 (Zf c oc h4 h5 h6 h7 e))
def Bb{TI TO:Addr}{xs:Array Value}(hh:A.handled=none)(D:ZipApart z TI TO i1 i2 l1 l2)(hz:IsZip s.heap z TI TO .none)(Z:tM s.heap z TI TO i1 i2 l1 l2 0 xs ys)(adQ:TO<s.heap.objs.size)(f7:xs.size=prs.length)(X2:prs.length<=sizeLine)(ht:∀(j:Nat) q,prs[j]?=some q->∃u:Value,xs[j]?=some u/\ys[j]?=some q.2/\gX q.1 u=true)(h:∀h' tk,h'.DictOf (bK prog w) s.heap.objs.size (merged [] prs)->(∀b o,b≠z->b≠TO->b≠i1->b≠i2->s.heap.get? b=some o->h'.get? b=some o)->Q (.ref s.heap.objs.size) {s with heap:=h',toks:=tk}):
  wpAny (model prog w) A (call (.type "dict") [.ref z]) Q E s:=by
 refine callType_codes (Q₁:=λobj s₁=>obj=.ref s.heap.objs.size/\s₁= {s with heap:=s.heap.push {cls:=.type "dict",data:=.dict #[]}}) PySem.F.kt_called_dict (PySem.F.kt_typeCall_dict_1 _) PySem.F.entry_dict_init (kt_code_dict_new _ ⟨rfl,rfl⟩) ?_;rintro obj s₁ ⟨rfl,rfl⟩;have O2:(s.heap.push {cls:=.type "dict",data:=.dict #[]}).DictOf (bK prog w) s.heap.objs.size []:=Heap.DictOf.new s.heap;have k0:∀b o,s.heap.get? b=some o->(s.heap.push {cls:=.type "dict",data:=.dict #[]}).get? b=some o:=λb o e=>bQ _ e;refine⟨O2.typeIs,PySem.F.args_dict_init_2 _ _,?_⟩;refine aj ?_;refine aj (wpAny_notOrdered_dict O2.typeIs ?_);refine ay ?_;show wpAny _ _ (Builtin.Dict.updateFrom "dict.__init__" s.heap.objs.size (.ref z) [] .none) _ _ _;refine aj (sP ⟨_,k0 _ _ hz,rfl⟩ ?_);refine aj (Qt (k0 _ _ hz) hh λh1 tk1 Zf=>?_);refine aj (wpAny_rule ?_);have k1:∀b o,s.heap.get? b=some o->h1.get? b=some o:=λb o e=>Zf _ _ (k0 _ _ e);refine aj (wpAny_pyIter_zip (k1 _ _ hz) ?_);have lt:∀{c o},s.heap.get? c=some o->c≠s.heap.objs.size:=λe=>bB (aN e);have hS:∀c,c=z\/c=TI\/c=TO\/c=i1\/c=i2\/c=l1\/c=l2->c≠s.heap.objs.size:=by
  rintro c (e|e|e|e|e|e|e)<;>subst e
  .exact lt hz
  .exact lt Z.ti
  .exact bB adQ
  .obtain⟨_,e,_⟩:=Z.i1;exact lt e
  .obtain⟨_,e,_⟩:=Z.i2;exact lt e
  .obtain⟨_,e,_⟩:=Z.l1;exact lt e
  .obtain⟨_,e,_⟩:=Z.l2;exact lt e
 have Z1:=Z.at hS (λb ⟨o,e⟩=>⟨o,k1 b o e⟩) λc o _ e=>k1 c o e;have key:=Cw (prog:=prog) (w:=w) (A:=A.in1) (R:=wants (λr s₂=>r=.none/\Q (.ref s.heap.objs.size) s₂) E) (res:=Value.none) hh D hS prs 0 [] 0 0
  {s with heap:=h1,toks:=tk1} (by rw[f7,hZ]) (by rw[pH,hZ];exact X2)
  (λj q e=>by rw[hZ];exact ht j q e) Z1 (O2.at λo e=>Zf _ _ e)
  (λh' tk Ib k=>⟨rfl,h h' tk Ib λb o c1 c2 c3 c4 e=>k b o (lt e) c1 c2 c3 c4 (k1 _ _ e)⟩)
 first
  |exact ay ⟨pK yx _,key⟩
  |exact aj (ay (ay ⟨pK yx _,key⟩))
end
def Jk:bootBuiltins "dict"=some (.type "dict"):=by decide+kernel
def Qw(K:PySem.W.Frag)(ta:TA):TE:=λσ H Q=>ta σ H λvs H1=>∃(a b:Addr) (ks:List Key) (ys:List V),vs=[.ref a,.ref b]/\aM K H1 a (ks.map kV)/\aM K H1 b ys/\ks.length=ys.length/\∀p,H1 p=none->Q (.ref p) (upd H1 p (.dK (kS [] (ks.zip ys))))
theorem Lh{P:Program}{w:World}:∀{ks:List Key}{aR}{j:Nat}{k},Vals (ks.map kV) aR->ks[j]?=some k->∃u,aR[j]?=some u/\gX k u=true
 |[],_,j,k,_,h=>by simp at h
 |k0::ks,_,j,k,.cons (b:=u) r t,h=>by
  cases j with
  |zero=>
   have e:=Option.some.inj h;subst e;exact⟨u,rfl,tj (P:=P) (w:=w) r⟩
  |succ j=>
   obtain⟨u',h1,h2⟩:=Lh (P:=P) (w:=w) (k:=k) t ‹h›;exact⟨u',‹h1›,h2⟩
theorem Qx:∀{ks:List Key}{ys}{us},Vals ys us->KV (ks.zip ys) (ks.zip us)
 |[],_,_,_=>.nil|_::_,_,_,.nil=>.nil
 |_::ks,_,_,.cons r t=>.cons ⟨rfl,r⟩ (Qx t)
def Jl{e2:Expr}{ta:TA}{p p2 pos n_:Pos}(zo:X.calm=true)(hgd:Gl X "dict")(hmd:X.mg "dict"=none)(hgz:Gl X "zip")(hmz:X.mg "zip"=none)(ha:PA X [e,e2] ta)(hs:starEach [e,e2] X.env=(false,eval e X.env)::starEach [e2] X.env:=by rfl)(iG:(backTo n_ (starEach [e2] X.env)).any (·.1)=false:=by rfl)(X3:starEach [.Call (.Name "zip" p2) [e,e2] [] n_] X.env=(false,eval (.Call (.Name "zip" p2) [e,e2] [] n_) X.env)::starEach [] X.env:=by rfl)(hpd:(backTo pos (starEach [] X.env)).any (·.1)=false:=by rfl):
  PE X (.Call (.Name "dict" p) [.Call (.Name "zip" p2) [e,e2] [] n_] [] pos) (Qw X.K ta):=by
 intro pins s σ H Q I h;refine jE (gq I hgd hmd Jk ?_);refine jD ?_ X3 hpd;rw[X3];show wpAny _ _ (spliced ((false,eval (.Call (.Name "zip" p2) [e,e2] [] n_) X.env)::backTo pos (starEach [] X.env))) _ _ s;refine me ?_;refine jE (gq I hgz hmz BW ?_);refine jD (cJ (ha n_ pins s σ H _ I h) λus s1 adR=>?_) hs iG;obtain⟨vs,H1,I1,r1,q1⟩:=adR;obtain⟨a,b,ks,ys,ex,VD,VE,hlen,q⟩:=q1;subst ex;cases r1 with
 |cons r rr=>
  cases rr with
  |cons r' rr=>
   cases rr;cases r;cases r';obtain⟨aR,rv,p1,z1⟩:=I1.list VD;obtain⟨n6,Xo,p2,z2⟩:=I1.list VE;have la:=p1.lt;have lb:=p2.lt;have l1:=rv.length;have l2:=Xo.length;rw[az]at l1 z1;refine call_zip_2 p1.isList p2.isList λh' hz A4 DB h1 h2 f7 hk=>q_ ?_;have I2:=I1.kept (t':=s1.toks) hk;have D:=PySem.W.ktu_apart s1.heap.objs.size a b la lb;have Z:tM h' (s1.heap.objs.size+4) (s1.heap.objs.size+2) (s1.heap.objs.size+3) s1.heap.objs.size (s1.heap.objs.size+1) a b 0 aR.toArray n6.toArray:=
    ⟨.inl ⟨hz,_,_,DB⟩,A4,h1,h2,p1.isList.at λo e=>hk _ o e,p2.isList.at λo e=>hk _ o e⟩
   refine Bb (prs:=ks.zip n6) (I2.ok.hd zo) D hz Z (aN DB) ?_ ?_ (λj q' e'=>?_) λO9 tk Ib k=>?_
   .rw[cO,mF];omega
   .rw[mF];omega
   .obtain⟨k1,k2⟩:=q';have e1:ks[j]?=some k1/\n6[j]?=some k2:=by
     rw[uk]at e';exact e'
    obtain⟨u,hu,hku⟩:=Lh (P:=X.prog) (w:=X.w) rv e1.1;exact⟨u,‹hu›,‹e1.2›,hku⟩
   .have rel:KV (ks.zip ys) (ks.zip n6):=Qx Xo;have hm:=beq_eq_false_iff_ne.mpr (jk I2.big);have HR:(kS [] (ks.zip ys)).length<=sizeLine:=by
     refine aX (qM _ []) ?_;rw[pH,hZ,mF];omega
    have hn:∀c,s1.heap.objs.size<=c->H1 c=none:=λc hc=>I1.bL.fresh hc;have fp:=λc hc=>I1.Di hc (hn c hc);have hle:∀c∈ [s1.heap.objs.size+4,s1.heap.objs.size+3,s1.heap.objs.size,s1.heap.objs.size+1],s1.heap.objs.size<=c:=by
     intro c hc;have e':c=s1.heap.objs.size+4\/c=s1.heap.objs.size+3\/c=s1.heap.objs.size\/c=s1.heap.objs.size+1:=‹hc›
     obtain z|z|z|z:=e'
     .rw[z];exact kL _ _
     .rw[z];exact kL _ _
     .rw[z];exact aL _
     .rw[z];exact kL _ _
    have I3:Inv X pins σ (upd H1 h'.objs.size (.dK (kS [] (ks.zip ys)))) {s1 with heap:=O9,toks:=tk} :=
     I2.qh (t':=tk) (λc o hb e=>k c o (λz=>hb (by simp[z])) (λz=>hb (by simp[z])) (λz=>hb (by simp[z])) (λz=>hb (by simp[z])) e)
      (λc hc=>fp c (hle c hc)) (aL _) (show dF X.prog X.w _ _ _ (.dK (kS [] (ks.zip ys)))from⟨HR,hm,merged [] (ks.zip n6),KV.merge rel .nil,Ib⟩)
    exact⟨.ref h'.objs.size,_,I3,rfl,q _ (I2.bL.fresh (aL _))⟩
section
def vG{r d:Addr}{P:Nat->Value->Prop}(K:PySem.W.KdlSrc prog w T r d n P OK)(hh:A.handled=none)(bL:OK s.heap)(hn:n<=sizeLine)(go:∀hp tk us,s.heap.objs.size<hp.objs.size->(∀b o,s.heap.get? b=some o->hp.get? b=some o)->ItemsOf P us n->R us.toList {s with heap:=hp,toks:=tk}):
  wpAny (model prog w) A (collect (.ref r)) R E s:=by
 have lts:=K.there _ bL;refine aj (wpAny_runValue (kM entry_proto_collect' ?_));refine aj (jG (ay ⟨pK PySem.F.plain_list_iadd _,kM entry_list_iadd' ?_⟩));have new:(s.heap.push {cls:=.type "list",data:=.seq ([]:List Value).toArray}).get? s.heap.objs.size=some {cls:=.type "list",data:=.seq #[]} :=bw _ rfl;have run:=PySem.W.kdl_extend (s:= {s with heap:=s.heap.push {cls:=.type "list",data:=.seq ([]:List Value).toArray}})
  (R:=λ(q:Result)(s2:Shared)=>∃(hp:Heap) (tk:Nat) (us:Array Value) (c:Nat),q=.ok (.ret (.ref s.heap.objs.size))/\s2= {s with heap:=hp,toks:=tk}/\(∀b o,s.heap.get? b=some o->hp.get? b=some o)/\
   hp.get? s.heap.objs.size=some {cls:=.type "list",dict:=none,data:=.seq us c,slots:= #[]}/\ItemsOf P us n)
  K hh (K.keep _ _ bL λb _ o e=>bQ _ e) s.heap.objs.size (jk lts.1) (jk lts.2) (.ref s.heap.objs.size) 0 new
  (λhp tk us c hk hu it=>⟨hp,tk,us,c,rfl,rfl,λb o e=>hk b o (bB (aN e)) (bQ _ e),hu,it⟩) hn
 refine da run (λfin s2 x=>?_) λe s2 ⟨_,_,_,_,z,_⟩=>by cases z
 cases fin with
 |again code=>
  refine⟨x.1,jm x.2 λq s3 adS=>?_⟩;obtain⟨hp,tk,us,c,e1,e2,hk,hu,it⟩:=adS;subst e1 e2;exact aj (wpAny_load hu (ay (go hp tk us (aN hu) hk it)))
 |done f=>
  obtain⟨hp,tk,us,c,e1,e2,hk,hu,it⟩:=x;cases e1;subst e2;exact aj (wpAny_load hu (ay (go hp tk us (aN hu) hk it)))
def zp{r d:Addr}{P:Nat->Value->Prop}(K:PySem.W.KdlSrc prog w T r d n P OK)(hh:A.handled=none)(bL:OK s.heap)(hn:n<=sizeLine)(hP:∀vs:List Value,vs.length=n->(∀j v,vs[j]?=some v->P j v)->IntsAre vs ns)(h:∀(D:Addr) hp tk out ep ji,s.heap.objs.size<=D->(∀b o,s.heap.get? b=some o->hp.get? b=some o)->hp.get? D=some (seqObj "list" out ep)->IntsAre out.toList ji->ji.Perm ns->ji.Pairwise (·<=·)->Q (.ref D) {s with heap:=hp,toks:=tk}):
  wpAny (model prog w) A (call (.builtin "sorted") [.ref r]) Q E s:=by
 refine Calls.call_function_entry kind_sorted plain_sorted entry_sorted (args_sorted1 _) ?_;refine aj (ay (aj (vG (A:=A.in1) K hh bL hn λhp tk us lt hk it=>?_)));have hl:us.toList.length=n:=by rw[cN];exact it.1
 refine aj (w9 ?_ (by rw[hl];exact hn));have hi:=hP _ hl λj v e=>it.2 j v (by rw[<-dv];exact e);have Oh:(hp.push (seqObj "list" us.toList.toArray 0)).get? hp.objs.size=some (seqObj "list" us.toList.toArray 0):=bw _ rfl;refine aj (gn (g_ slot_list_sort ⟨_,Oh,rfl⟩ entry_list_sort (list_sort_treeAny Oh hi (by rw[hl];exact hn) λout ji a1 a2 a3=>⟨_,rfl,ay ⟨_,rfl,?_⟩⟩) (args_list_sort _)));obtain⟨ep,F6⟩:=PyProof.Rows.sortedHeap_at (out:=out) Oh;refine h _ _ _ out ep ji (iD lt) (λb o e=>?_) F6 a1 a2 a3;have hb:=aN (hk _ _ e);rw[PyProof.Rows.sortedHeap_old (bB hb) (by rw[dW];exact mj hb)];exact bQ _ (hk _ _ e)
end
section
def tN:∀{ns}{vs},vs.length=ns.length->(∀(j:Nat) v n,vs[j]?=some v->ns[j]?=some n->gX (Sum.inl n) v=true)->IntsAre vs ns:=by
 intro ns
 induction ns with
 |nil=>
  intro vs hl h;cases vs with
  |nil=>exact .nil|cons _ _=>cases hl
 |cons n ns ih=>
  intro vs hl h;cases vs with
  |nil=>cases hl
  |cons v vs=>
   have h0:=h 0 v n rfl rfl;obtain⟨t,rfl⟩:∃t,v=.int n t:=F5 h0;exact .cons n t (ih ‹hl› λj v' n' e1 e2=>h (j+1) v' n' ‹e1› ‹e2›)
def Ea(zo:X.calm=true):kn X (.builtin "sorted") (λxs H Q=>eL xs λa=>∃(kvs:List (Key×V)) (ns:List Int),H a=some (.dK kvs)/\kvs.map (·.1)=ns.map Sum.inl/\
  ∀(ji:List Int) p,ji.Perm ns->ji.Pairwise (·<=·)->H p=none->Q (.ref p) (upd H p (.lst (ji.map V.int)))):=by
 intro pins s σ H xs us Q I r q0;obtain⟨a,ex,kvs,ns,ha,hk,q⟩:=rj.mp q0;subst ex;rw[Vals.Ts r];obtain⟨hz,hd,vs,rel,dd⟩:=VB I.bL ha;obtain⟨ep,hat⟩:=dd.dictAt;have e1:=rel.length;have e2:kvs.length=ns.length:=‹cb List.length hk›
 refine zp (PySem.W.kdl_dict (kvs:=vs) (ep:=ep) hd) (I.ok.hd zo) hat (by rw[<-e1];exact hz) (ns:=ns) (λus' hl hp=>tN () λj v n h1 h2=>?_) λD hp tk out Mu ji hD keep zq a1 a2 a3=>?_
 .obtain⟨k,x,hx,hkx⟩:=hp j v h1;have e3:(kvs.map (·.1))[j]?=some k:=by
   have:(vs.map (·.1))[j]?=some k:=by rw[aZ,hx];rfl
   rw[<-rel.keys]at this;exact this
  rw[hk,aZ,h2]at e3;cases e3;exact hkx
 .have hlen:(ji.map V.int).length<=sizeLine:=by rw[az,a2.length_eq];omega
  exact⟨.ref D,upd H D (.lst (ji.map V.int)),I.laid keep hD ⟨hlen,out.toList,Mu,jq a1,zq⟩,rfl,q ji D a2 a3 (I.bL.fresh hD)⟩
end
end L2
end
section
namespace Pd
open Tote TotePoolCalls
abbrev AU:=List (Int×Int)
noncomputable def bo(g:AU)(k:Int):Option Int:=(g.find? λp=>decide (p.1=k)).map (·.2)
noncomputable def oP(g:AU)(k v:Int):AU:=if(g.any λp=>decide (p.1=k))=true then g.map (λp=>if p.1=k then(p.1,v)else p)else g++ [(k,v)]
noncomputable def bq(g:AU):List Int:=g.map (·.1)
def cI p (g:AU) k:bo (p::g) k=if p.1=k then some p.2 else bo g k:=by
 unfold bo;by_cases h:p.1=k
 .simp[h]
 .simp[h]
def jU{g:AU}:bo g k=none↔k∉bq g:=by
 induction g with
 |nil=>simp[bo,bq]
 |cons p g ih=>
  rw[cI];by_cases h:p.1=k
  .rw[ag h];simp[bq,h]
  .rw[af h,ih];simp only[bq,map_cons,mem_cons,not_or];exact⟨λz=>⟨λe=>h e.symm,z⟩,λz=>z.2⟩
def Eb g h k:bo (g++h) k=(bo g k).or (bo h k):=by
 induction g with
 |nil=>rfl
 |cons p g ih=>
  rw[cons_append,cI,cI,ih];by_cases e:p.1=k
  .rw[ag e,ag e];rfl
  .rw[af e,af e]
def Nj{g:AU}{k v j:Int}:bo (g.map (λp=>if p.1=k then(p.1,v)else p)) j=if j=k then(bo g k).map (λ_=>v)else bo g j:=by
 induction g with
 |nil=>simp[bo]
 |cons p g ih=>
  rw[aI,cI,ih,cI,cI];by_cases h:p.1=k
  .rw[ag h];by_cases hj:j=k
   .subst hj;rw[ag h,ag rfl,ag h];rfl
   .rw[af (λz=>hj (z.symm.trans h)),af hj,af hj,af (λz=>hj (z.symm.trans h))]
  .rw[af h];by_cases hj:p.1=j
   .rw[ag hj,af (λz=>h (hj.trans z)),ag hj]
   .rw[af hj,af hj,af h]
def any_keys{g:AU}:(g.any λp=>decide (p.1=k))=true↔k∈bq g:=by
 rw[pU];constructor
 .rintro⟨p,hp,e⟩;exact mem_map.mpr ⟨p,hp,‹e›⟩
 .intro h;obtain⟨p,hp,e⟩:=mem_map.mp h;exact⟨p,hp,‹e›⟩
def Nk g k v j:bo (oP g k v) j=if j=k then some v else bo g j:=by
 unfold oP;split
 .rename_i h;rw[Nj];by_cases hj:j=k
  .cases e:bo g k with
   |none=>exact absurd (any_keys.mp h) (jU.mp e)|some x=>rfl
  .rw[af hj,af hj]
 .rename_i h;rw[Eb];by_cases hj:j=k
  .subst hj;rw[ag rfl,jU.mpr (λz=>h (any_keys.mpr z)),cI,ag rfl];rfl
  .rw[af hj,cI,af (λz=>hj z.symm)];cases bo g j<;>rfl
def Cy g k v:bq (oP g k v)=if k∈bq g then bq g else bq g++ [k]:=by
 unfold oP;by_cases h:k∈bq g
 .rw[ag (any_keys.mpr h),ag h];unfold bq;rw[bP];apply fF;intro p _;show(if p.1=k then(p.1,v)else p).1=p.1;split<;>rfl
 .rw[af (λz=>h (any_keys.mp z)),af h];simp[bq]
def Nm{g:AU} k v (h:(bq g).Nodup):(bq (oP g k v)).Nodup:=by
 rw[Cy];split
 .exact h
 .rename_i hk;rw[pM];refine⟨h,by simp,λa ha b hb e=>?_⟩;have:b=k:=by simpa using hb
  subst this;subst e;exact hk ha
def Uj g k v:(oP g k v).length<=g.length+1:=by
 unfold oP;split<;>simp
def Uk{g:AU}{k v x:Int}(h:x∈bq (oP g k v)):x=k\/x∈bq g:=by
 rw[Cy]at h;split at h
 .exact .inr h
 .obtain z|z:=mem_append.mp h
  .exact .inr z
  .exact .inl ‹z›
noncomputable def bh:List Int->AU
 |a::b::r=>(a,b)::bh r|_=>[]
theorem zr k:∀l:List Int,bo (bh l) k=atM k l
 |[]=>rfl|[_]=>rfl
 |a::b::r=>by
  show bo ((a,b)::bh r) k=if a=k then some b else atM k r
  rw[cI,zr k r]
theorem rK:∀l:List Int,(bh l).length=l.length/2
 |[]=>by simp[bh]|[_]=>by simp[bh]
 |a::b::r=>by
  show(bh r).length+1=(r.length+1+1)/2;rw[rK r];omega
theorem Li:∀{l}{bf},kC n bf l=true->(bq (bh l)).Pairwise (·<·)/\∀x∈bq (bh l),bf<x
 |[],_,_=>⟨List.Pairwise.nil,by simp[bh,bq]⟩|[_],_,_=>⟨List.Pairwise.nil,by simp[bh,bq]⟩
 |a::b::r,bf,h=>by
  have h:(decide (bf<a)&&(decide (a<n)&&(decide (1<=b)&&kC n a r)))=true:=h;simp only[Bool.and_eq_true,decide_eq_true_eq]at h;obtain⟨h1,h2,h3,h4⟩:=h;obtain⟨i1,i2⟩:=Li h4;show(a::bq (bh r)).Pairwise (·<·)/\∀x∈a::bq (bh r),bf<x;refine⟨pairwise_cons.mpr ⟨i2,i1⟩,λx hx=>?_⟩;obtain e|e:=mem_cons.mp hx
  .omega
  .have:=i2 x e;omega
def Jn{l:List Int}(h:dN l n=true):kC n (-1) l=true:=by
 unfold dN at h;simp only[Bool.and_eq_true]at h;exact h.2.1
def Qy{l:List Int}(h:l.Pairwise (·<·)):l.Nodup:=h.imp (λz e=>by omega)
def vH{l:List Int}(h:dN l n=true):(bq (bh l)).Nodup:=Qy (Li (Jn h)).1
noncomputable def qH(g:AU)(l:AU):AU:=l.foldl (λg p=>oP g p.1 ((bo g p.1).getD 0+p.2)) g
def Nn g l p:qH g (l++ [p])=oP (qH g l) p.1 ((bo (qH g l) p.1).getD 0+p.2):=by
 unfold qH;rw[pN];rfl
theorem uJ:∀l g,(bq g).Nodup->(bq (qH g l)).Nodup
 |[],_,h=>h|p::l,g,h=>uJ l _ (Nm _ _ h)
theorem xP:∀l g,(qH g l).length<=g.length+l.length
 |[],g=>aL _
 |p::l,g=>by
  have h1:=xP l (oP g p.1 ((bo g p.1).getD 0+p.2));have h2:=Uj g p.1 ((bo g p.1).getD 0+p.2);show(qH (oP g p.1 ((bo g p.1).getD 0+p.2)) l).length<=g.length+(l.length+1);omega
theorem GR{P:Int->Prop}:∀l g,(∀x∈bq g,P x)->(∀p∈l,P p.1)->∀x∈bq (qH g l),P x
 |[],_,h,_=>h
 |p::l,g,h,hl=>GR l _ (λx hx=>by
   obtain e|e:=Uk hx
   .rw[e];exact hl p ∅
   .exact h x e) (λq hq=>hl q (by simp[hq]))
theorem GU k:∀l g,(bq l).Nodup->(bo (qH g l) k).getD 0=(bo g k).getD 0+(bo l k).getD 0
 |[],g,_=>by show(bo g k).getD 0=_;simp[bo]
 |p::l,g,h=>by
  have hn:=h;have hp:=(nodup_cons.mp hn);show(bo (qH (oP g p.1 ((bo g p.1).getD 0+p.2)) l) k).getD 0=_;rw[GU k l _ hp.2,Nk,cI];by_cases e:k=p.1
  .have hl:bo l k=none:=jU.mpr (by rw[e];exact hp.1);rw[ag e,ag e.symm,hl,e];simp
  .rw[af e,af (λz=>e z.symm)]
noncomputable def dS(g:AU):List Int->List Int
 |[]=>[]|k::ns=>(if 0<(bo g k).getD 0 then [k,(bo g k).getD 0]else [])++dS g ns
theorem tO g:∀l m:List Int,dS g (l++m)=dS g l++dS g m
 |[],m=>rfl
 |k::l,m=>by
  show _++dS g (l++m)=(_++dS g l)++dS g m;rw[tO g l m,g9]
def zt g l k:dS g (l++ [k])=dS g l++(if 0<(bo g k).getD 0 then [k,(bo g k).getD 0]else []):=by
 rw[tO];show _++(_++ [])=_;rw[h_]
theorem zu g:∀l:List Int,(dS g l).length%2=0
 |[]=>rfl
 |k::l=>by
  have:=zu g l;show((if 0<(bo g k).getD 0 then [k,(bo g k).getD 0]else [])++dS g l).length%2=0;split<;>(simp;omega)
theorem uK g:∀l:List Int,(dS g l).length<=2*l.length
 |[]=>aL _
 |k::l=>by
  have:=uK g l;show((if 0<(bo g k).getD 0 then [k,(bo g k).getD 0]else [])++dS g l).length<=2*(l.length+1);rw[c9];split
  .show 2+_<=_;omega
  .show 0+_<=_;omega
theorem tP g:∀l:List Int,(∀x∈l,0<=x)->∀x∈dS g l,0<=x
 |[],_,x,hx=>by simp[dS]at hx
 |k::l,h,x,hx=>by
  have hx:=hx;obtain z|z:=mem_append.mp hx
  .split at z
   .simp only[mem_cons,not_mem_nil,or_false]at z;obtain z|z:=z
    .rw[z];exact h k ∅
    .omega
   .simp at z
  .exact tP g l (λy hy=>h y (by simp[hy])) x z
def zA(g:AU)(out:List Int):Prop:=∃ns:List Int,ns.Perm (bq g)/\ns.Pairwise (·<=·)/\out=dS g ns
def zB{g:AU}(h:zA g out):out.length%2=0:=by
 obtain⟨ns,_,_,e⟩:=h;rw[e];exact zu g ns
def Np{g:AU}(h:zA g out):out.length<=2*g.length:=by
 obtain⟨ns,p,_,e⟩:=h;rw[e];have h1:=uK g ns;have h2:=p.length_eq;unfold bq at h2;rw[az]at h2;omega
end Pd
end
section
namespace L2
open PySem PySem.Spec PyProof.Rows
def Ul{ys:List V}{D:Ends}(Pv:Nat->St->Hp->Prop)(hlen:xs.length=ys.length)(h0:Pv 0 σ H)(hl:∀i σ H,i<=xs.length->Pv i σ H->aM K H a xs/\aM K H b ys)(hs:∀i x y T σ H,xs[i]?=some x->ys[i]?=some y->Pv i σ H->H T=none->g (.ref T) σ (upd H T (.tup [x,y])) λσ2 H2=>tb {D with nx:=Pv (i+1),ct:=Pv (i+1),bk:=D.nx} σ2 H2)(hd:∀σ H,Pv xs.length σ H->D.nx σ H):
  ∃W:Nat->Nat->St->Hp->Prop,(∃m,W 0 m σ H)/\∀i m σ H,W i m σ H->
   ((Itz K a b).stop i H/\D.nx σ H)\/((Itz K a b).go i H/\∃N:St->Hp->Prop,(∀σ' H',N σ' H'->∃m',m'<m/\W (i+1) m' σ' H')/\∀x H',(Itz K a b).Fp i H x H'->g x σ H' λσ2 H2=>tb {D with nx:=N,ct:=N,bk:=D.nx} σ2 H2):=by
 refine⟨λi m σ H=>m=xs.length-i/\i<=xs.length/\Pv i σ H,⟨xs.length,by simp,cz _,h0⟩,?_⟩;rintro i m σ H ⟨rfl,hi,p⟩;obtain⟨qa,qb⟩:=hl i σ H hi p;by_cases dR:i<xs.length
 .have adT:i<ys.length:=by omega
  refine .inr ⟨⟨xs,ys,xs[i],ys[i],qa,qb,bt dR,bt adT⟩,Pv (i+1),λσ' H' p'=>⟨xs.length-(i+1),by omega,rfl,dR,p'⟩,λx H' y=>?_⟩;obtain⟨T,u,v,e1,nT,e2,k1,k2⟩:=y;subst e1 e2;exact hs i u v T σ _ (k1 xs qa) (k2 ys qb) p nT
 .have e:i=xs.length:=by omega
  subst e;exact .inl ⟨⟨xs,ys,qa,qb,.inl (aL _)⟩,hd σ H p⟩
end L2
end
section
namespace Pd
open PySem PySem.SetTable
noncomputable def stp(m:Nat)(i:Nat):Nat:=(i*5+1)%m
noncomputable def Qz(m:Nat):Nat->Nat->Nat
 |0,i=>i|n+1,i=>Qz m n (stp m i)
theorem mW m:∀a b i:Nat,Qz m (a+b) i=Qz m b (Qz m a i)
 |0,b,i=>by rw[hZ];rfl
 |a+1,b,i=>by
  rw[Nat.add_right_comm];exact mW m a b (stp m i)
noncomputable def vV(m:Nat):Nat->Nat×Nat->Nat×Nat
 |0,s=>(stp m s.1,s.2|||(1<<<s.1))
 |k+1,s=>vV m k (vV m k s)
theorem Ec m:∀k s,(vV m k s).1=Qz m (2^k) s.1
 |0,s=>rfl
 |k+1,s=>by
  show(vV m k (vV m k s)).1=_;rw[Ec m k,Ec m k,<-mW,kg,Nat.mul_two]
theorem Jo m:∀k s x,(vV m k s).2.testBit x=true↔s.2.testBit x=true\/∃n,n<2^k/\Qz m n s.1=x
 |0,s,x=>by
  show(s.2|||(1<<<s.1)).testBit x=true↔_;rw[Nat.testBit_or,C7];have e:(1<<<s.1).testBit x=true↔s.1=x:=by
   rw[Nat.one_shiftLeft,Nat.testBit_two_pow];simp
  rw[e];constructor
  .rintro(h|h)
   .exact .inl h
   .exact .inr ⟨0,by decide,h⟩
  .rintro(h|⟨n,hn,h⟩)
   .exact .inl h
   .have:n=0:=by simpa using hn
    subst this;exact .inr h
 |k+1,s,x=>by
  show(vV m k (vV m k s)).2.testBit x=true↔_;rw[Jo m k,Jo m k,Ec];constructor
  .rintro((h|⟨n,hn,h⟩)|⟨n,hn,h⟩)
   .exact .inl h
   .exact .inr ⟨n,by rw[kg];omega,h⟩
   .refine .inr ⟨2^k+n,by rw[kg];omega,?_⟩;rw[mW];exact h
  .rintro(h|⟨n,hn,h⟩)
   .exact .inl (.inl h)
   .by_cases c:n<2^k
    .exact .inl (.inr ⟨n,c,h⟩)
    .refine .inr ⟨n-2^k,by rw[kg]at hn;omega,?_⟩;rw[<-mW,show 2^k+(n-2^k)=n by omega];exact h
def Full(k:Nat):Prop:=vV (2^k) k (0,0)=(0,2^2^k-1)
def aaS:Full 3:=by unfold Full;decide+kernel
def aaT:Full 5:=by unfold Full;decide+kernel
def aaU:Full 7:=by unfold Full;decide+kernel
def aaV:Full 9:=by unfold Full;decide+kernel
def X4:Full 11:=by unfold Full;decide+kernel
def X5:Full 13:=by unfold Full;decide+kernel
def zC(h:Full k){x:Nat}(hx:x<2^k):∃n,n<2^k/\Qz (2^k) n 0=x:=by
 have e:(vV (2^k) k (0,0)).2.testBit x=true:=by
  rw[h];simpa using hx
 obtain h1|h1:=(Jo (2^k) k (0,0) x).mp e
 .simp at h1
 .exact h1
def Nq(h:Full k):Qz (2^k) (2^k) 0=0:=by
 have e:=Ec (2^k) k (0,0);rw[h]at e;exact e.symm
def Cz(h:Full k){x y:Nat}(hx:x<2^k)(hy:y<2^k):∃n,n<2^k/\Qz (2^k) n y=x:=by
 obtain⟨a,ha,rfl⟩:=zC h hy;obtain⟨b,hb,rfl⟩:=zC h hx;by_cases c:a<=b
 .exact⟨b-a,by omega,by rw[<-mW,show a+(b-a)=b by omega]⟩
 .exact⟨b+2^k-a,by omega,by rw[<-mW,show a+(b+2^k-a)=2^k+b by omega,mW,Nq h]⟩
noncomputable def gW(t:SetTable):Nat->Probe->Probe
 |0,p=>p|n+1,p=>gW t n (t.advance p)
theorem eK t:∀a b p,gW t (a+b) p=gW t b (gW t a p)
 |0,b,p=>by rw[hZ];rfl
 |a+1,b,p=>by
  rw[Nat.add_right_comm];exact eK t a b (t.advance p)
theorem uL t:∀n p,(gW t n p).dummy=p.dummy
 |0,p=>rfl
 |n+1,p=>by
  show(gW t n (t.advance p)).dummy=_;rw[uL t n];unfold advance;split<;>rfl
noncomputable def Lp(mask i pt:Nat)(d:Option Nat):Probe:= {j:=i,more:=runEnd mask i-i,i:=i,perturb:=pt,dummy:=d}
def zD(t:SetTable) h:t.probeStart h=Lp t.mask (bits h%(t.mask+1)) (bits h) none:=rfl
theorem tQ t i pt d:∀e,e<=runEnd t.mask i-i->gW t e (Lp t.mask i pt d)= {Lp t.mask i pt d with j:=i+e,more:=runEnd t.mask i-i-e}
 |0,_=>rfl
 |e+1,h=>by
  rw[eK,tQ t i pt d e ()];show t.advance _=_;unfold advance;rw[ag (by show runEnd t.mask i-i-e>0;omega)];congr 1
def zE t i pt d:gW t (runEnd t.mask i-i+1) (Lp t.mask i pt d)=Lp t.mask (leap t.mask i pt).1 (leap t.mask i pt).2 d:=by
 rw[eK,tQ t i pt d _ (aL _)];show t.advance _=_;unfold advance;rw[af (by show¬(runEnd t.mask i-i-(runEnd t.mask i-i)>0);omega)];rfl
noncomputable def Fu(mask:Nat):Nat->Nat×Nat->Nat×Nat
 |0,s=>s|n+1,s=>Fu mask n (leap mask s.1 s.2)
def X6 mask i:runEnd mask i-i<=9:=by unfold runEnd;split<;>omega
theorem Lj t d:∀T s,∃n,n<=10*T/\gW t n (Lp t.mask s.1 s.2 d)=Lp t.mask (Fu t.mask T s).1 (Fu t.mask T s).2 d
 |0,s=>⟨0,by omega,rfl⟩
 |T+1,s=>by
  obtain⟨n,hn,e⟩:=Lj t d T (leap t.mask s.1 s.2);have:=X6 t.mask s.1;refine⟨runEnd t.mask s.1-s.1+1+n,by omega,?_⟩;rw[eK,zE];exact e
theorem Jp mask:∀T s,(Fu mask T s).2=s.2/32^T
 |0,s=>by simp[Fu]
 |T+1,s=>by
  show(Fu mask T (leap mask s.1 s.2)).2=_;rw[Jp mask T];show s.2/32/32^T=_;rw[Nat.div_div_eq_div_mul,kg,mB]
theorem Ed mask:∀a b s,Fu mask (a+b) s=Fu mask b (Fu mask a s)
 |0,b,s=>by rw[hZ];rfl
 |a+1,b,s=>by
  rw[Nat.add_right_comm];exact Ed mask a b (leap mask s.1 s.2)
theorem zF mask:∀n i,(Fu mask n (i,0)).1=Qz (mask+1) n i
 |0,i=>rfl
 |n+1,i=>by
  show(Fu mask n ((i*5+1+0/32)%(mask+1),0/32)).1=Qz (mask+1) n (stp (mask+1) i);rw[Nat.zero_div,zF mask n];rfl
theorem Jq mask:∀n s,s.1<mask+1->(Fu mask n s).1<mask+1
 |0,s,h=>h|n+1,s,h=>Jq mask n _ (kj _ (jn _))
def Lk h:bits h<2^64:=by
 unfold bits;omega
structure Pow(t:SetTable):Prop where
 ex:∃k,t.mask+1=2^k/\Full k
def cover(P:Pow t) h {x:Nat} (hx:x<=t.mask):∃n,n<10*turns t.mask/\(gW t n (t.probeStart h)).j=x:=by
 obtain⟨k,ek,fk⟩:=P.ex;have h0:bits h%(t.mask+1)<t.mask+1:=kj _ (jn _);have hz:(Fu t.mask 13 (bits h%(t.mask+1),bits h)).2=0:=by
  rw[Jp];have hb:=Lk h;exact Nat.div_eq_of_lt (by show bits h<32^13;omega)
 have hy:=Jq t.mask 13 (bits h%(t.mask+1),bits h) h0;generalize hs:Fu t.mask 13 (bits h%(t.mask+1),bits h)=s at hz hy;obtain⟨n,hn,e⟩:=Cz fk (x:=x) (y:=s.1) () ();obtain⟨a,ha,ea⟩:=Lj t none (13+n) (bits h%(t.mask+1),bits h);refine⟨a,by unfold turns;omega,?_⟩;rw[zD];rw[ea];rw[Ed,hs,show s=(s.1,0)from by rw[<-hz],zF,ek];exact e
structure Ee(xs:Array Nat):Prop where
 lt:∀(i j a b:Nat),i<j->xs[i]?=some a->xs[j]?=some b->a<b
def Ef{xs:Array Nat}{a d:Nat}(h:xs[i]?=some a):xs.getD i d=a:=by
 rw[x4,h];rfl
theorem zG{xs:Array Nat}(R:Ee xs) j:∀fuel lo hi,lo<=hi->hi<=xs.size->hi-lo<=fuel->(∀i a,i<lo->xs[i]?=some a->a<j)->(∀i a,hi<=i->xs[i]?=some a->j<=a)->
  (∀i a,i<below.go xs j fuel lo hi->xs[i]?=some a->a<j)/\(∀i a,below.go xs j fuel lo hi<=i->xs[i]?=some a->j<=a)/\below.go xs j fuel lo hi<=xs.size
 |0,lo,hi,h1,h2,h3,h4,h5=>by
  have:lo=hi:=by omega
  subst this;exact⟨h4,h5,h2⟩
 |fuel+1,lo,hi,h1,h2,h3,h4,h5=>by
  have eg:below.go xs j (fuel+1) lo hi=(if lo<hi then(if xs.getD ((lo+hi)/2) j<j then below.go xs j fuel ((lo+hi)/2+1) hi else below.go xs j fuel lo ((lo+hi)/2))else lo):=rfl;rw[eg];by_cases c:lo<hi
  .rw[ag c];have hm:(lo+hi)/2<xs.size:=by omega
   obtain⟨v,hv⟩:∃v,xs[(lo+hi)/2]?=some v:=⟨_,iX hm⟩;rw[Ef hv];by_cases d:v<j
   .rw[ag d];refine zG R j fuel ((lo+hi)/2+1) hi () h2 () (λi a Um ha=>?_) h5;by_cases e:i=(lo+hi)/2
    .subst e;rw[hv]at ha;cases ha;exact d
    .have:=R.lt i ((lo+hi)/2) a v () ha hv;omega
   .rw[af d];refine zG R j fuel lo ((lo+hi)/2) () () () h4 (λi a Um ha=>?_);by_cases e:i=(lo+hi)/2
    .subst e;rw[hv]at ha;cases ha;omega
    .have:=R.lt ((lo+hi)/2) i v a () hv ha;omega
  .rw[af c];have:lo=hi:=by omega
   subst this;exact⟨h4,h5,h2⟩
def fZ{xs:Array Nat}(R:Ee xs) j:(∀i a,i<below xs j->xs[i]?=some a->a<j)/\(∀i a,below xs j<=i->xs[i]?=some a->j<=a)/\below xs j<=xs.size:=
 zG R j xs.size 0 xs.size (cz _) (aL _) () (λi a h _=>absurd h (mv _)) (λi a h ha=>by
  have:=(Array.getElem?_eq_some_iff.mp ha).1;omega)
def below_at{xs:Array Nat}(R:Ee xs)(h:xs[i]?=some j):below xs j=i:=by
 obtain⟨h1,h2,h3⟩:=fZ R j;have hi:=(Array.getElem?_eq_some_iff.mp h).1;obtain c|c|c:=pG (below xs j) i
 .obtain⟨v,hv⟩:∃v,xs[below xs j]?=some v:=⟨_,iX ()⟩;have a:=R.lt _ _ v j c hv h;have b:=h2 _ v (aL _) hv;omega
 .exact c
 .have:=h1 i j c h;omega
def qu(R:Ee t.place)(hd:t.dummies= #[]):t.slot j=.live i↔t.place[i]?=some j:=by
 have e:t.slot j=if(t.place[below t.place j]?==some j)=true then .live (below t.place j)else if has t.dummies j=true then .dummy else .empty:=rfl
 rw[e];constructor
 .intro h;by_cases c:(t.place[below t.place j]?==some j)=true
  .rw[ag c]at h;cases h;simpa using c
  .rw[af c]at h;by_cases d:has t.dummies j=true
   .rw[ag d]at h;cases h
   .rw[af d]at h;cases h
 .intro h;rw[below_at R h,h,ag ∅]
def iw(R:Ee t.place)(hd:t.dummies= #[]):t.slot j=.empty↔∀i:Nat,t.place[i]?≠some j:=by
 constructor
 .intro h i hi;rw[(qu R hd).mpr hi]at h;cases h
 .intro h;have e:t.slot j=if(t.place[below t.place j]?==some j)=true then .live (below t.place j)else if has t.dummies j=true then .dummy else .empty:=rfl
  rw[e,af ‹h _›,af];rw[hd];unfold has;simp
def Jr(R:Ee t.place)(hd:t.dummies= #[]) j:t.slot j=.empty\/∃i,t.slot j=.live i:=by
 by_cases c:∃i:Nat,t.place[i]?=some j
 .obtain⟨i,hi⟩:=c;exact .inr ⟨i,(qu R hd).mpr hi⟩
 .exact .inl ((iw R hd).mpr λi hi=>c ⟨i,hi⟩)
theorem Eg(R:Ee t.place)(hd:t.dummies= #[]) hashAt h:∀n fuel p,n<fuel->t.slot (gW t n p).j=.empty->(∀m,m<n->t.slot (gW t m p).j≠ .empty)->
  (probe.go t hashAt h fuel p=some (.empty (gW t n p).j p.dummy)/\∀m,m<n->∃i,t.slot (gW t m p).j=.live i/\hashAt i≠h)\/
  ∃m i,m<n/\t.slot (gW t m p).j=.live i/\hashAt i=h/\probe.go t hashAt h fuel p=some (.candidate (gW t m p).j i (gW t (m+1) p))/\∀l,l<m->∃i,t.slot (gW t l p).j=.live i/\hashAt i≠h
 |0,0,p,hf,_,_=>by omega
 |0,fuel+1,p,_,he,_=>by
  refine .inl ⟨?_,λm hm=>absurd hm (mv _)⟩;have he:t.slot p.j=.empty:=he;unfold probe.go;rw[he];rfl
 |n+1,0,p,hf,_,_=>by omega
 |n+1,fuel+1,p,hf,he,hm=>by
  have h0:=hm 0 (jn _);obtain⟨i,hi⟩:∃i,t.slot p.j=.live i:=by
   obtain c|c:=Jr R hd p.j
   .exact absurd c h0
   .exact c
  have gd:(t.advance p).dummy=p.dummy:=uL t 1 p;by_cases c:hashAt i=h
  .refine .inr ⟨0,i,jn _,hi,c,?_,λl hl=>absurd hl (mv _)⟩;unfold probe.go;rw[hi];simp only[c,BEq.rfl,if_true];rfl
  .have eg:probe.go t hashAt h (fuel+1) p=probe.go t hashAt h fuel (t.advance p):=by
    conv=>lhs;unfold probe.go
    rw[hi];have:(hashAt i==h)=false:=‹c›
    simp only[this,Bool.false_eq_true,if_false]
   obtain⟨g1,g2⟩|⟨m,i',g1,g2,g3,g4,g5⟩:=Eg R hd hashAt h n fuel (t.advance p) () he (λm h1=>hm (m+1) ())
   .refine .inl ⟨by rw[eg,g1,gd];rfl,λm h1=>?_⟩;cases m with
    |zero=>exact⟨i,hi,c⟩|succ m=>exact g2 m ()
   .refine .inr ⟨m+1,i',by omega,g2,g3,by rw[eg,g4];rfl,λl h1=>?_⟩;cases l with
    |zero=>exact⟨i,hi,c⟩|succ l=>exact g5 l ()
theorem len_sub:∀{l m:List Nat},l.Nodup->(∀x∈l,x∈m)->l.length<=m.length
 |[],m,_,_=>cz _
 |x::l,m,nd,h=>by
  obtain⟨h1,h2⟩:=nodup_cons.mp nd;have hx:=h x ∅;have:=len_sub (l:=l) h2 λy hy=>by
   have gU:y≠x:=λe=>h1 (e▸hy);exact(wX gU).mpr (h y (by simp[hy]))
  rw[qZ hx]at this;have:=wL hx;rw[aY];omega
def Js(m:Nat):Prop:=m=7\/m=31\/m=127\/m=511\/m=2047\/m=8191
def Js.pow(h:Js t.mask):Pow t:=by
 obtain e|e|e|e|e|e:=h
 .exact⟨3,by rw[e],aaS⟩
 .exact⟨5,by rw[e],aaT⟩
 .exact⟨7,by rw[e],aaU⟩
 .exact⟨9,by rw[e],aaV⟩
 .exact⟨11,by rw[e],X4⟩
 .exact⟨13,by rw[e],X5⟩
theorem zH{t t':SetTable}(h:t.mask=t'.mask):∀n p,gW t n p=gW t' n p
 |0,p=>rfl
 |n+1,p=>by
  have e:t.advance p=t'.advance p:=by unfold advance;rw[h]
  show gW t n (t.advance p)=gW t' n (t'.advance p);rw[e,zH h]
def Jt{t':SetTable}(h:t.mask=t'.mask) x:t.probeStart x=t'.probeStart x:=by
 rw[zD,zD,h]
theorem GV{p:Nat->Prop} [DecidablePred p]:∀{n},p n->∃m,m<=n/\p m/\∀l,l<m->¬p l
 |0,h=>⟨0,aL _,h,λl hl=>absurd hl (mv _)⟩
 |n+1,h=>by
  by_cases c:∃m,m<=n/\p m
  .obtain⟨m,hm,hp⟩:=c;obtain⟨k,h1,h2,h3⟩:=GV hp;exact⟨k,by omega,h2,h3⟩
  .exact⟨n+1,aL _,h,λl hl hp=>c ⟨l,by omega,hp⟩⟩
def Ju(R:Ee t.place)(hd:t.dummies= #[])(hs:t.place.size<=t.mask):∃x,x<=t.mask/\t.slot x=.empty:=by
 by_cases c:∃x,x<=t.mask/\∀i:Nat,t.place[i]?≠some x
 .obtain⟨x,hx,h⟩:=c;exact⟨x,hx,(iw R hd).mpr h⟩
 .exfalso;have:(List.range (t.mask+1)).length<=t.place.toList.length:=len_sub nodup_range λx hx=>by
   have hx:x<t.mask+1:=mem_range.mp hx;by_cases d:∃i:Nat,t.place[i]?=some x
   .obtain⟨i,hi⟩:=d;exact bg (by rw[dv];exact hi)
   .exact absurd ⟨x,by omega,λi hi=>d ⟨i,hi⟩⟩ c
  rw[sx,cN]at this;omega
def vI(M:Js t.mask)(R:Ee t.place)(hd:t.dummies= #[])(hs:t.place.size<=t.mask) h:
  ∃n,n<10*turns t.mask/\t.slot (gW t n (t.probeStart h)).j=.empty/\∀m,m<n->t.slot (gW t m (t.probeStart h)).j≠ .empty:=by
 obtain⟨x,hx,he⟩:=Ju R hd hs;obtain⟨n,hn,e⟩:=cover M.pow h hx;obtain⟨m,h1,h2,h3⟩:=GV (p:=λn=>t.slot (gW t n (t.probeStart h)).j=.empty) (by rw[e];exact he);exact⟨m,by omega,h2,h3⟩
def iK(xs:Array α)(hp:p<=xs.size) x:(insertAt xs p x).toList=xs.toList.take p++x::xs.toList.drop p:=by
 unfold insertAt;simp[Array.toList_extract,extract_eq_take_drop,take_of_length_le]
def d5(xs:Array α)(hp:p<=xs.size) x i:(insertAt xs p x)[i]?=if i<p then xs[i]? else if i=p then some x else xs[i-1]?:=by
 rw[<-dv,iK xs hp];have hl:(xs.toList.take p).length=p:=by rw[cP,cN];omega
 by_cases c:i<p
 .rw[ag c,sk (),getElem?_take_of_lt c,dv]
 .rw[af c,sh (),hl];by_cases d:i=p
  .subst d;rw[ag rfl,Ko];rfl
  .rw[af d];obtain⟨k,hk⟩:∃k,i-p=k+1:=⟨i-p-1,by omega⟩;rw[hk,getElem?_cons_succ,pJ,dv];congr 1;omega
def QA(hd:t.dummies= #[]) j:t.put j=({t with place:=insertAt t.place (below t.place j) j},below t.place j):=by
 unfold put;rw[hd];have:has #[] j=false:=by unfold has;simp
 simp only[this,Bool.false_eq_true,if_false]
def Uo{xs:Array Nat}(R:Ee xs)(hn:∀i:Nat,xs[i]?≠some j):Ee (insertAt xs (below xs j) j):=by
 obtain⟨h1,h2,h3⟩:=fZ R j;refine⟨λa b x y HX hx hy=>?_⟩;rw[d5 xs h3]at hx hy;have gt:∀(i v:Nat),below xs j<=i->xs[i]?=some v->j<v:=λi v hi hv=>by
  have:=h2 i v hi hv;have:v≠j:=λe=>hn i (e▸hv);omega
 by_cases c1:a<below xs j
 .rw[ag c1]at hx;by_cases c2:b<below xs j
  .rw[ag c2]at hy;exact R.lt a b x y HX hx hy
  .rw[af c2]at hy;have l1:=h1 a x c1 hx;by_cases c3:b=below xs j
   .rw[ag c3]at hy;cases hy;exact l1
   .rw[af c3]at hy;have:=gt (b-1) y () hy;omega
 .rw[af c1]at hx;rw[af ()]at hy;by_cases c3:a=below xs j
  .rw[ag c3]at hx;cases hx;rw[af ()]at hy;exact gt (b-1) y () hy
  .rw[af c3]at hx;rw[af ()]at hy;exact R.lt (a-1) (b-1) x y () hx hy
def Uq{xs:Array Nat}(R:Ee xs){x:Nat}:(∃i:Nat,(insertAt xs (below xs j) j)[i]?=some x)↔x=j\/∃i:Nat,xs[i]?=some x:=by
 obtain⟨_,_,h3⟩:=fZ R j;constructor
 .rintro⟨i,hi⟩;rw[d5 xs h3]at hi;split at hi
  .exact .inr ⟨i,hi⟩
  .split at hi
   .cases hi;exact .inl rfl
   .exact .inr ⟨_,hi⟩
 .rintro(e|⟨i,hi⟩)
  .subst e;exact⟨below xs x,by rw[d5 xs h3,af (iZ _),ag rfl]⟩
  .by_cases c:i<below xs j
   .exact⟨i,by rw[d5 xs h3,ag c];exact hi⟩
   .exact⟨i+1,by rw[d5 xs h3,af (),af ()];exact hi⟩
end Pd
end
section
namespace Pd
open PySem PySem.SetTable PySem.Spec PyProof.Rows
def Jv{l:List α}{x:α}(h:l[i]?=some x):(x::l.eraseIdx i).Perm l:=by
 obtain⟨hl,hx⟩:=List.getElem?_eq_some_iff.mp h;have e:l=l.take i++x::l.drop (i+1):=by
  rw[<-hx,<-oh hl,sC]
 rw[eraseIdx_eq_take_drop_succ]
 conv=>rhs;rw[e]
 exact perm_middle.symm
theorem Ln next:∀fuel k (left:List α) out,left.length<=fuel->(pickOrder.go next fuel k left out).toList.Perm (out.toList++left)
 |0,k,left,out,h=>by
  have:=length_eq_zero_iff.mp (Nat.le_zero.mp h);subst this;rw[h_];exact List.Perm.refl _
 |fuel+1,k,left,out,h=>by
  unfold pickOrder.go;cases e:left[next k%left.length]? with
  |none=>
   have h1:=List.getElem?_eq_none_iff.mp e;have:left=[]:=by
    cases left with
    |nil=>rfl|cons a l=>exact absurd (kj _ (jn l.length)) (Nat.not_lt.mpr h1)
   subst this;rw[h_]
  |some x=>
   obtain⟨hl,hx⟩:=List.getElem?_eq_some_iff.mp e;have ih:=Ln next fuel (k+1) (left.eraseIdx (next k%left.length)) (out.push x) (by rw[length_eraseIdx_of_lt hl];omega)
   refine ih.trans ?_;rw[Array.toList_push,g9];refine List.Perm.append_left _ ?_;exact Jv e
def Nr next(xs:Array α):(pickOrder next xs).toList.Perm xs.toList:=by
 have:=Ln next xs.size 0 xs.toList #[] (by rw[cN];exact aL _)
 exact this
noncomputable def cX(w:World):Bool:=w.params.followText "set-order"
noncomputable def gL(es:Array (Int×Value))(ep:Nat)(t:SetTable):Obj:= {cls:=.type "set",dict:=none,data:=.set es ep t,slots:= #[]}
structure zI(w:World)(h:Heap)(a:Addr)(es:Array (Int×Value))(ep:Nat)(t:SetTable):Prop where
 ob:h.get? a=some (gL es ep t)
 fit:t.fits es.size=true
 vJ:Ee t.place
 plain:t.plain=true
 led:t.led=!cX w
noncomputable def tR(w:World)(a:Addr)(ep:Nat)(es:Array (Int×Value)):Array (Int×Value):=if cX w then pickOrder (w.params.setOrder a ep) es else es
def gg w a ep es:(tR w a ep es).toList.Perm es.toList:=by
 unfold tR;split
 .exact Nr _ _
 .exact List.Perm.refl _
noncomputable def slotAt(w:World)(t:SetTable):Nat->Nat
 |0=>0|i+1=>if cX w then 0 else t.place.getD i 0+1
def tS w t i:slotAt w t (i+1)=if cX w then 0 else t.place.getD i 0+1:=rfl
def ed(h:Heap)(I a:Addr)(slot i n ep:Nat):Prop:=∃o,h.get? I=some o/\o.cls=.type "set_iterator"/\o.data=.fields #[.int slot 0,.int i 0,.ref a,.int n 0,.int ep 0]
def ed.typeIs{slot n:Nat}(x:ed s.heap I a slot i n ep):s.TypeIs (.ref I) "set_iterator":=let⟨o,ho,hc,_⟩:=x;⟨o,ho,hc⟩
namespace F
def di:Slot "set_iterator" "__next__" "set_iterator.__next__":=
 .of (owner:="set_iterator") (n:="__next__") (by rw[typeLookup_type,builtinLookup_eq_fast];kernel_rfl) (by decide+kernel) (by decide+kernel) (by decide+kernel)
  (by first|exact .inl (by decide+kernel)|exact .inr (by decide+kernel)) (by rw[isSubtype_type];kernel_rfl)
def nU:Slot "set_iterator" "__iter__" "set_iterator.__iter__":=
 .of (owner:="set_iterator") (n:="__iter__") (by rw[typeLookup_type,builtinLookup_eq_fast];kernel_rfl) (by decide+kernel) (by decide+kernel) (by decide+kernel)
  (by first|exact .inl (by decide+kernel)|exact .inr (by decide+kernel)) (by rw[isSubtype_type];kernel_rfl)
def lX:entryFor table "set_iterator.__next__"=some Builtin.«set_iterator.__next__»:=entryFor_of_tree (by kernel_rfl)
def uM:entryFor table "set_iterator.__iter__"=some Builtin.«dict_keyiterator.__iter__»:=
 entryFor_alias (id':="dict_keyiterator.__iter__") (by kernel_rfl) (by decide+kernel) (by decide+kernel) (by kernel_rfl)
def zJ:entryFor table "set.__iter__"=some Builtin.«frozenset.__iter__»:=
 entryFor_alias (id':="frozenset.__iter__") (by kernel_rfl) (by decide+kernel) (by decide+kernel) (by kernel_rfl)
def vK:Manifest.owners.lookup (String.ofList ['r', 'o', 't', 'a', 'r', 'e', 't', 'i', '_', 't', 'e', 's'].reverse)=some Manifest.sig_set_iterator:=by kernel_rfl
def nV a:argsOk "set_iterator.__next__" ⟨[a],[]⟩:=by
 unfold argsOk;rw[signature?_of (id:="set_iterator.__next__") (n:=['_', '_', 't', 'x', 'e', 'n', '_', '_']) (by kernel_rfl) vK];kernel_rfl
def vZ a:argsOk "set_iterator.__iter__" ⟨[a],[]⟩:=by
 unfold argsOk;rw[signature?_of (id:="set_iterator.__iter__") (n:=['_', '_', 'r', 'e', 't', 'i', '_', '_']) (by kernel_rfl) vK];kernel_rfl
end F
section
def rL{Q:Bool->Shared->Prop}(h:Q (cX w) s):wpAny (model prog w) A setsByText Q E s:=by
 exact aj (wpAny_askSetting (ay h))
def Jw(R:Ee t.place)(hi:i<=t.place.size)(hb:¬cX w=true):below t.place (slotAt w t i)=i:=by
 obtain⟨h1,h2,h3⟩:=fZ R (slotAt w t i);cases i with
 |zero=>
  obtain z|z:=wF (below t.place (slotAt w t 0))
  .exact z
  .have h0:t.place[0]?=some t.place[0]:=iX ();exact absurd (h1 0 _ z h0) (mv _)
 |succ i=>
  have hp:t.place[i]?=some t.place[i]:=iX ();have es:slotAt w t (i+1)=t.place[i] +1:=by
   rw[tS,af hb,Ef hp]
  rw[es]at h1 h2 h3⊢;obtain z|z|z:=pG (below t.place (t.place[i] +1)) (i+1)
  .have:=h2 i _ () hp;omega
  .exact z
  .have hq:t.place[i+1]?=some t.place[i+1]:=iX ();have:=h1 (i+1) _ z hq;have:=R.lt i (i+1) _ _ (kK _) hp hq;omega
def zK{Q:Option (Value×Nat)->Shared->Prop}(S:zI w s.heap a es ep t)(hi:i<=es.size)(h:Q (((tR w a ep es)[i]?).map λe=>(e.2,slotAt w t (i+1))) s):wpAny (model prog w) A (setNext a (slotAt w t i) i ep) Q E s:=by
 refine aj (jH S.ob rfl S.fit ?_);refine aj (rL ?_);by_cases hb:cX w=true
 .rw[ag hb,af ∅];refine aj ?_;refine aj (jH S.ob rfl S.fit ?_);refine aj (rL ?_);rw[ag hb];refine aj (wpAny_askSetting (ay ?_));refine ay ?_;have e0:slotAt w t i=0:=by cases i with
   |zero=>rfl|succ i=>rw[tS,ag hb]
  have e1:slotAt w t (i+1)=0:=by rw[tS,ag hb]
  rw[e1]at h;rw[e0];unfold tR at h;rw[ag hb]at h;exact h
 .rw[af hb];show wpAny _ _ (if(!t.plain&&decide (es.size>1))=true then _ else _) _ _ _;rw[af (by rw[S.plain];simp)];refine aj ?_;show wpAny _ _ (if(!t.led&&!es.isEmpty)=true then _ else _) _ _ _;rw[af (by rw[S.led];simp[hb])];refine ay ?_;have HY:t.place.size=es.size:=by
   have:=S.fit;unfold SetTable.fits at this;simp only[Bool.and_eq_true,beq_iff_eq]at this;exact this.1
  rw[Jw S.vJ () hb];refine ay ?_;unfold tR at h;rw[af hb]at h;by_cases hl:i<es.size
  .have e1:=iX hl;have e2:t.place[i]?=some t.place[i]:=iX ();rw[e1]at h⊢;rw[e2];have e3:slotAt w t (i+1)=t.place[i] +1:=by rw[tS,af hb,Ef e2]
   rw[e3]at h;exact h
  .have e1:es[i]?=none:=qX ();have e2:t.place[i]?=none:=qX ();rw[e1]at h⊢;exact h
def kX{Q:Array (Int×Value)->Shared->Prop}(S:zI w s.heap a es ep t)(h:Q es s):wpAny (model prog w) A (setEntries a) Q E s:=by
 unfold setEntries;exact aj (jH S.ob rfl S.fit (ay h))
def Bc{e:Int×Value}{Q:Option Value->Shared->Prop}(hit:ed s.heap it a (slotAt w t i) i es.size ep)(S:zI w s.heap a es ep t)(hx:(tR w a ep es)[i]?=some e)(hQ:∀h',ed h' it a (slotAt w t (i+1)) (i+1) es.size ep->Heap.SameBut it s.heap h'->Q (some e.2) {s with heap:=h'}):wpAny (model prog w) A (pyNext (.ref it)) Q E s:=by
 obtain⟨o,ho,hc,hd⟩:=id hit;have hi:i<es.size:=by
  have h1:(tR w a ep es).size=es.size:=by
   have:=(gg w a ep es).length_eq;simpa using this
  obtain⟨h2,_⟩:=Array.getElem?_eq_some_iff.mp hx;omega
 refine aj (sH (qW hit.typeIs F.di
  (g_ F.di hit.typeIs F.lX ?_ (F.nV _))))
 refine aj (ay ?_);refine aj (wpAny_fieldsOf ho hd ?_);refine aj (kX S ?_);rw[af ∅];show wpAny _ _ (setNext a (slotAt w t i) i ep>>=_) _ _ _;refine aj (zK S () ?_);rw[hx];refine aj (mq ho hd ∅ ?_);have xj:=md (Obj.mapFields (·.setIfInBounds 0 (rawInt (slotAt w t (i+1):Nat)))) ho (og (jF hd _));have Ib:=jF hd (·.setIfInBounds 0 (rawInt (slotAt w t (i+1):Nat)));refine aj (mq xj Ib ∅ ?_);refine ay ⟨_,rfl,ay (hQ _ ⟨_,md _ xj (og (jF Ib _)),(wJ ..).trans ((wJ ..).trans hc),by rw[jF Ib];simp[rawInt]⟩ ((kI ..).trans (kI ..)))⟩
def Eh{Q:Option Value->Shared->Prop}(hh:A.handled=none)(hit:ed s.heap it a (slotAt w t es.size) es.size es.size ep)(S:zI w s.heap a es ep t)(hQ:∀h',Heap.ExtBut it s.heap h'->Q none {s with heap:=h'}):wpAny (model prog w) A (pyNext (.ref it)) Q E s:=by
 obtain⟨o,ho,hc,hd⟩:=id hit;have hx:(tR w a ep es)[es.size]?=none:=by
  have:=(gg w a ep es).length_eq;refine qX ?_;simpa using sL this
 unfold pyNext;refine aj (sH (qW (name:=Str.ofString "__next__") hit.typeIs F.di
  (g_ F.di hit.typeIs F.lX ?_ (F.nV _))))
 unfold Builtin.«set_iterator.__next__»;refine aj (ay ?_);refine aj (wpAny_fieldsOf ho hd ?_);show wpAny _ _ (setEntries a>>=_) _ _ _;refine aj (kX S ?_);rw[af ∅];show wpAny _ _ (setNext a (slotAt w t es.size) es.size ep>>=_) _ _ _;refine aj (zK S (aL _) ?_);rw[hx];show wpAny _ _ (setField (.ref it) 2 .none>>=_) _ _ s;refine aj (mq ho hd ∅ ?_);show wpAny _ _ (newExc (.type "StopIteration") [] >>=_) _ _ _;refine aj ?_;delta newExc newTuple;refine aj (jG ?_ (by size_fits));refine aj (m:=firstArgMember _ _) (wpAny_of_eq (a:=Value.none) (by first|rfl|(simp only[firstArgMember];rfl)) ?_);refine jG ?_ (by size_fits);delta raiseNew;refine aj (wpAny_handled ?_);rw[show A.in1.handled=none from hh];refine aj (ay (sQ ?_));refine aj (wN (T:="StopIteration") (b:=true) ⟨_,bw _ rfl,rfl⟩ isSubtype_stop ?_);exact ay (hQ _ (((kI ..).extBut.push _).push _))
def QB(S:zI w s.heap a es ep t)(hQ:Q (.ref s.heap.objs.size) {s with heap:=s.heap.push {cls:=.type "set_iterator",data:=.fields #[.int 0 0,.int 0 0,.ref a,.int es.size 0,.int ep 0]}}):wpAny (model prog w) A (pyIter (.ref a)) Q E s:=by
 have hT:s.TypeIs (.ref a) "set":=⟨_,S.ob,rfl⟩;refine wpAny_pyIter_slot hT PySem.F.slot_set_iter (g_ PySem.F.slot_set_iter hT F.zJ ?_ (PySem.F.args_set_iter_1 _));refine aj (ay ?_);refine aj (aj (kX S (ay ?_)));refine aj (aj (jH S.ob rfl S.fit (aj (rL (ay ?_)))));show wpAny _ _ (if(!cX w&&(!t.plain&&decide (es.size>1)))=true then _ else _) _ _ _;rw[af (by rw[S.plain];simp)];refine aj (ay ?_);refine aj ?_;refine aj (jH S.ob rfl S.fit (ay ?_));refine aj (jG (ay ⟨_,rfl,"set_iterator",_,⟨_,bw _ rfl,rfl⟩,F.di.lookup,?_⟩));simpa[rawInt]using hQ
def Jx{slot n:Nat}(hit:ed s.heap it a slot i n ep)(h:Q (.ref it) s):wpAny (model prog w) A (pyIter (.ref it)) Q E s:=by
 refine wpAny_pyIter_slot hit.typeIs F.nU (g_ F.nU hit.typeIs F.uM ?_ (F.vZ _));exact ay ⟨_,rfl,"set_iterator",_,hit.typeIs,F.di.lookup,h⟩
def QC{r:Addr}{Q:Bool->Shared->Prop}(hT:s.TypeIs (.ref r) "set")(h:Q false s):wpAny (model prog w) A (Builtin.List.listLengthHint (.ref r)) Q E s:=by
 refine aj (wpAny_specialOf hT PySem.F.slot_set_len.lookup ?_);generalize hid:("set.__len__":String)=id0
 wp_delta
 subst hid;refine aj (wN (b:=true) hT (by rw[isSubtype_type];kernel_rfl) ?_);refine wpAny_ite_split (λHX=>absurd HX ⋯) (λ_=>?_);refine aj (sP hT ?_);exact ay h
def zI.keep(S:zI w h a es ep t)(k:∀o,h.get? a=some o->h'.get? a=some o):zI w h' a es ep t:=⟨k _ S.ob,S.fit,S.vJ,S.plain,S.led⟩
def ed.keep{slot n:Nat}(x:ed h it a slot i n ep)(k:∀o,h.get? it=some o->h'.get? it=some o):ed h' it a slot i n ep:=let⟨o,ho,q⟩:=x;⟨o,k _ ho,q⟩
def Nt(hh:A.handled=none) I a (gU:a≠I) es ep t:
  Walks prog w A I [I,a] [I] es.size (λi v=>∃e,(tR w a ep es)[i]?=some e/\v=e.2) (λi h=>ed h I a (slotAt w t i) i es.size ep/\zI w h a es ep t)where
 sub:=λb hb=>by simp at hb;simp[hb]
 frame:=λ_ _ _ st hk=>⟨st.1.keep λo e=>hk I ∅ o e,st.2.keep λo e=>hk a ∅ o e⟩
 item:=λi s Q E hi st hQ=>by
  have h1:(tR w a ep es).size=es.size:=by
   have:=(gg w a ep es).length_eq;simpa using this
  have hx:(tR w a ep es)[i]?=some (tR w a ep es)[i]:=iX ();refine Bc st.1 st.2 hx λh' IA HU=>?_;exact hQ _ h' s.toks ⟨_,hx,rfl⟩ ⟨IA,st.2.keep λo e=>HU.extBut a o gU e⟩ λb o hb e=>HU.extBut b o (λh=>hb (by simp[h])) e
 done:=λs Q E st hQ=>Eh hh st.1 st.2 λh' F6=>hQ h' s.toks λb o hb e=>F6 b o (λh=>hb (by simp[h])) e
 self:=λ_ _ _ _ st hQ=>Jx st.1 hQ
def Lq a es ep t:PySem.W.KdlSrc prog w "set" a a es.size (λi v=>∃e,(tR w a ep es)[i]?=some e/\v=e.2) (λh=>zI w h a es ep t)where
 type:=λ_ S=>⟨_,S.ob,rfl⟩
 there:=λ_ S=>⟨aN S.ob,aN S.ob⟩
 keep:=λ_ _ S hk=>S.keep λo e=>hk a (.inl rfl) o e
 notList:=by decide
 notTuple:=by decide
 hint:=λ_ _ _ _ S hq=>QC ⟨_,S.ob,rfl⟩ hq
 iter:=λ_ _ hh S=>⟨_,_,(λ_ _ hq=>QB S hq),Nt hh _ a (bB (aN S.ob)) es ep t,⟨⟨_,bw _ rfl,rfl,rfl⟩,S.keep λ_ e=>bQ _ e⟩⟩
end
end Pd
end
section
namespace Pd
open PySem PySem.SetTable
structure Tb{α:Type}(t:SetTable)(es:Array (Int×α)):Prop where
 X7:Js t.mask
 vJ:Ee t.place
 HZ:t.dummies= #[]
 len:t.place.size=es.size
 reach:∀(i:Nat)(e:Int×α),es[i]?=some e->∃j n,t.place[i]?=some j/\(gW t n (t.probeStart e.1)).j=j/\∀m,m<n->t.slot (gW t m (t.probeStart e.1)).j≠ .empty
def iL(xs:Array α)(hp:p<=xs.size) x:(insertAt xs p x).size=xs.size+1:=by
 rw[<-cN,iK xs hp,c9,aY,cP,dX,cN];omega
theorem Tb.put{es:Array (Int×α)}(T:Tb t es){h:Int}{x:α}{N:Nat}(he:t.slot (gW t N (t.probeStart h)).j=.empty)(hm:∀m,m<N->t.slot (gW t m (t.probeStart h)).j≠ .empty):
  Tb (t.put (gW t N (t.probeStart h)).j).1 (insertAt es (t.put (gW t N (t.probeStart h)).j).2 (h,x)):=by
 have hn:=(iw T.vJ T.HZ).mp he;generalize hJ:(gW t N (t.probeStart h)).j=J at*;obtain⟨_,_,h3⟩:=fZ T.vJ J;have hp:below t.place J<=es.size:=by rw[<-T.len];exact h3
 rw[QA T.HZ];generalize ht:({t with place:=insertAt t.place (below t.place J) J} :SetTable)=t';have m':t'.mask=t.mask:=by rw[<-ht]
 have p':t'.place=insertAt t.place (below t.place J) J:=by rw[<-ht]
 have d':t'.dummies= #[]:=by rw[<-ht];exact T.HZ
 have R':Ee t'.place:=by rw[p'];exact Uo T.vJ hn
 have ea:=λn p=>zH m' n p;have eb:=λx=>Jt m' x;have ne:∀y,t.slot y≠ .empty->t'.slot y≠ .empty:=λy hy h'=>by
  refine hy ((iw T.vJ T.HZ).mpr λi hi=>?_);obtain⟨k,hk⟩:=(Uq T.vJ (x:=y)).mpr (.inr ⟨i,hi⟩);rw[<-p']at hk;exact(iw R' d').mp h' k hk
 refine⟨by rw[m'];exact T.X7,R',d',?_,λi e hi=>?_⟩
 .rw[p',iL _ h3,iL _ hp,T.len]
 .rw[d5 es hp]at hi;rw[p',d5 t.place h3];simp only[ea,eb];have old:∀k,es[k]?=some e->∃j n,t.place[k]?=some j/\(gW t n (t.probeStart e.1)).j=j/\∀m,m<n->t'.slot (gW t m (t.probeStart e.1)).j≠ .empty:=λk hk=>by
   obtain⟨j,n,q1,q2,q3⟩:=T.reach k e hk;exact⟨j,n,q1,q2,λm hm=>ne _ (q3 m hm)⟩
  by_cases c:i<below t.place J
  .rw[ag c]at hi⊢;exact old i hi
  .rw[af c]at hi⊢;by_cases d:i=below t.place J
   .rw[ag d]at hi⊢;cases hi;exact⟨J,N,rfl,hJ,λm Ur=>ne _ (hm m Ur)⟩
   .rw[af d]at hi⊢;exact old _ hi
def CA{mask:Nat}(h:i<=mask):i<=runEnd mask i/\runEnd mask i<=mask:=by unfold runEnd;split<;>omega
theorem QD t:∀n p,p.j+p.more<=t.mask->(gW t n p).j<=t.mask
 |0,p,h=>by show p.j<=_;omega
 |n+1,p,h=>by
  refine QD t n (t.advance p) ?_;unfold advance;split
  .show p.j+1+(p.more-1)<=_;omega
  .have hi:(leap t.mask p.i p.perturb).1<=t.mask:=Nat.lt_succ_iff.mp (kj _ (jn _));have:=CA hi;show(leap t.mask p.i p.perturb).1+(runEnd t.mask (leap t.mask p.i p.perturb).1-(leap t.mask p.i p.perturb).1)<=_;omega
def Ei t n h:(gW t n (t.probeStart h)).j<=t.mask:=by
 refine QD t n _ ?_;have hi:bits h%(t.mask+1)<=t.mask:=Nat.lt_succ_iff.mp (kj _ (jn _));have:=CA hi;show bits h%(t.mask+1)+(runEnd t.mask (bits h%(t.mask+1))-bits h%(t.mask+1))<=_;omega
def mX{owner:Array (Option Nat)}:(owner.getD j (some 0)).isNone=true↔owner[j]?=some none:=by
 rw[x4];cases owner[j]? with
 |none=>simp|some o=>simp
theorem CB:∀fuel i pt {j},layClean.free t.mask owner fuel i pt=some j->∃n,(gW t n (Lp t.mask i pt none)).j=j/\owner[j]?=some none/\∀m,m<n->owner[(gW t m (Lp t.mask i pt none)).j]?≠some none
 |0,i,pt,j,h=>by cases h
 |fuel+1,i,pt,j,h=>by
  unfold layClean.free at h;have hre:i<=runEnd t.mask i:=by unfold runEnd;split<;>omega
  cases e:(List.range (runEnd t.mask i+1-i)).find? (λk=>(owner.getD (i+k) (some 0)).isNone)with
  |some k=>
   rw[e]at h;cases h;obtain⟨h1,h2,h3⟩:=find?_range_eq_some.mp e;have hk:k<=runEnd t.mask i-i:=by have:=mem_range.mp h2;omega
   refine⟨k,by rw[tQ t i pt none k hk],mX.mp h1,λm hm=>?_⟩;rw[tQ t i pt none m ()];intro q;have:=h3 m hm;rw[mX.mpr q]at this;cases this
  |none=>
   rw[e]at h;have h4:=find?_range_eq_none.mp e;obtain⟨n,q1,q2,q3⟩:=CB fuel _ _ h;refine⟨runEnd t.mask i-i+1+n,by rw[eK,zE];exact q1,q2,λm hm=>?_⟩;by_cases c:m<=runEnd t.mask i-i
   .rw[tQ t i pt none m c];intro q;have:=h4 m ();rw[mX.mpr q]at this;cases this
   .obtain⟨m',rfl⟩:∃m',m=runEnd t.mask i-i+1+m':=⟨m-(runEnd t.mask i-i+1),by omega⟩;rw[eK,zE];exact q3 m' ()
theorem Lr{mask:Nat}:∀fuel i pt T,T<fuel->owner[(Fu mask T (i,pt)).1]?=some none->∃j,layClean.free mask owner fuel i pt=some j
 |0,_,_,_,h,_=>absurd h (mv _)
 |fuel+1,i,pt,T,hT,ho=>by
  unfold layClean.free;have hre:i<=runEnd mask i:=by unfold runEnd;split<;>omega
  cases e:(List.range (runEnd mask i+1-i)).find? (λk=>(owner.getD (i+k) (some 0)).isNone)with
  |some k=>exact⟨_,rfl⟩
  |none=>
   cases T with
   |zero=>
    have:=find?_range_eq_none.mp e 0 ();rw[mX.mpr (show owner[i+0]?=some none from ho)]at this;cases this
   |succ T=>exact Lr fuel _ _ T () ho
def Nu(P:Pow t) h {x:Nat} (hx:x<=t.mask):∃T,T<turns t.mask/\(Fu t.mask T (bits h%(t.mask+1),bits h)).1=x:=by
 obtain⟨k,ek,fk⟩:=P.ex;have h0:bits h%(t.mask+1)<t.mask+1:=kj _ (jn _);have hz:(Fu t.mask 13 (bits h%(t.mask+1),bits h)).2=0:=by
  rw[Jp];have hb:=Lk h;have:(2:Nat)^64<=32^13:=by decide
  exact Nat.div_eq_of_lt (by show bits h<32^13;omega)
 have hy:=Jq t.mask 13 (bits h%(t.mask+1),bits h) h0;generalize hs:Fu t.mask 13 (bits h%(t.mask+1),bits h)=s at hz hy;obtain⟨n,hn,e⟩:=Cz fk (x:=x) (y:=s.1) () ();refine⟨13+n,by unfold turns;omega,?_⟩;rw[Ed,hs,show s=(s.1,0)from by rw[<-hz],zF,ek];exact e
structure Lay(t:SetTable)(hs:List Int)(owner:Array (Option Nat)):Prop where
 size:owner.size=t.mask+1
 lt:∀j l:Nat,owner[j]?=some (some l)->l<hs.length
 inj:∀j j' l:Nat,owner[j]?=some (some l)->owner[j']?=some (some l)->j=j'
 all:∀(l:Nat)(h:Int),hs[l]?=some h->∃n,owner[(gW t n (t.probeStart h)).j]?=some (some l)/\∀m,m<n->owner[(gW t m (t.probeStart h)).j]?≠some none
theorem Lay.free(L:Lay t hs owner)(hl:hs.length<=t.mask):∃x,x<=t.mask/\owner[x]?=some none:=by
 by_cases c:∃x,x<=t.mask/\owner[x]?=some none
 .exact c
 .have hx:∀x,x<=t.mask->∃l,owner[x]?=some (some l):=λx hx=>by
   cases e:owner[x]? with
   |none=>
    have h1:=Array.getElem?_eq_none_iff.mp e;have h2:=L.size;omega
   |some o=>
    cases o with
    |none=>exact absurd ⟨x,hx,e⟩ c|some l=>exact⟨l,rfl⟩
  have:=len_sub (l:=(List.range (t.mask+1)).map λx=>(owner.getD x none).getD 0) (m:=List.range hs.length) ?_ ?_
  .rw[az,sx,sx]at this;omega
  .rw[wy,mC];refine nodup_range.imp_of_mem λ{a b} ha hb HX e=>HX ?_;have ha:=mem_range.mp ha;have hb:=mem_range.mp hb;obtain⟨la,ea⟩:=hx a ();obtain⟨lb,eb⟩:=hx b ();simp only[Array.getD_eq_getD_getElem?,ea,eb,Option.getD_some]at e;subst e;exact L.inj a b la ea eb
  .intro l Fz;obtain⟨x,h1,h2⟩:=mem_map.mp Fz;have h1:=mem_range.mp h1;obtain⟨la,ea⟩:=hx x ();rw[x4,ea]at h2;subst h2;exact mem_range.mpr (L.lt x la ea)
def Lay.step(M:Js t.mask)(L:Lay t hs owner)(hl:hs.length<=t.mask) h:
  ∃j,layClean.free t.mask owner (turns t.mask) (bits h%(t.mask+1)) (bits h)=some j/\Lay t (hs++ [h]) (owner.setIfInBounds j (some hs.length)):=by
 obtain⟨x,hx,ex⟩:=L.free hl;obtain⟨T,hT,eT⟩:=Nu M.pow h hx;obtain⟨j,hj⟩:=Lr (mask:=t.mask) (owner:=owner) (turns t.mask) (bits h%(t.mask+1)) (bits h) T hT (by rw[eT];exact ex);obtain⟨n,q1,q2,q3⟩:=CB _ _ _ hj;have hjs:j<owner.size:=(Array.getElem?_eq_some_iff.mp q2).1;have g:∀y:Nat,(owner.setIfInBounds j (some hs.length))[y]?=if j=y then some (some hs.length)else owner[y]?:=λy=>by
  rw[Array.getElem?_setIfInBounds];by_cases c:j=y
  .subst c;simp[hjs]
  .simp[c]
 have keep:∀y:Nat,owner[y]?≠some none->(owner.setIfInBounds j (some hs.length))[y]?≠some none:=λy hy z=>by
  rw[g]at z;split at z
  .cases z
  .exact hy z
 refine⟨j,hj,⟨by rw[Array.size_setIfInBounds];exact L.size,λy l hy=>?_,λy y' l hy MD=>?_,λl h' Fz=>?_⟩⟩
 .rw[g]at hy;rw[c9];split at hy
  .cases hy;exact kK _
  .have:=L.lt y l hy;show l<hs.length+1;omega
 .rw[g]at hy MD;split at hy
  .next c1=>
   cases hy;split at MD
   .next c2=>rw[<-c1,<-c2]
   .exact absurd (L.lt _ _ MD) (iZ _)
  .split at MD
   .cases MD;exact absurd (L.lt _ _ hy) (iZ _)
   .exact L.inj _ _ _ hy MD
 .by_cases c:l<hs.length
  .rw[sk c]at Fz;obtain⟨n',r1,r2⟩:=L.all l h' Fz;refine⟨n',?_,λm hm=>keep _ (r2 m hm)⟩;rw[g];split
   .next c2=>
    rw[<-c2,q2]at r1;cases r1
   .exact r1
  .obtain⟨dR,e⟩:=List.getElem?_eq_some_iff.mp Fz;rw[c9]at dR;have hll:l=hs.length:=by
    have:l<hs.length+1:=dR;omega
   subst hll;rw[sh (aL _),Ko]at Fz;cases Fz;refine⟨n,?_,λm hm=>keep _ (q3 m hm)⟩;rw[g];exact ag q1.symm
theorem GW(M:Js t.mask):∀l hs owner,Lay t hs owner->hs.length+l.length<=t.mask->
  ∃QE,l.foldl (λ(acc:Option (Array (Option Nat)×Nat)) h=>do
   let(owner,k)<-acc
   let j<-layClean.free t.mask owner (turns t.mask) (bits h%(t.mask+1)) (bits h)
   pure (owner.setIfInBounds j (some k),k+1)) (some (owner,hs.length))=some (QE,hs.length+l.length)/\Lay t (hs++l) QE
 |[],hs,owner,L,_=>⟨owner,rfl,by rw[h_];exact L⟩
 |h::l,hs,owner,L,hl=>by
  rw[aY]at hl;obtain⟨j,hj,L'⟩:=L.step M () h;obtain⟨o',q1,q2⟩:=GW M l (hs++ [h]) _ L' (by rw[c9];show hs.length+1+l.length<=_;omega);refine⟨o',?_,by rw[g9]at q2;exact q2⟩;rw[fH];rw[c9,show [h].length=1 from rfl]at q1;simp only[bind,Option.bind,hj,pure];rw[aY,show hs.length+(l.length+1)=hs.length+1+l.length by omega];exact q1
def Nv(M:Js t.mask) hs (hl:hs.size<=t.mask):∃owner,layClean t.mask hs=some owner/\Lay t hs.toList owner:=by
 have L0:Lay t [] (Array.replicate (t.mask+1) none):=⟨by simp,λj l h=>(by rw[Array.getElem?_replicate]at h;split at h<;>exact nomatch h),λj j' l h=>(by rw[Array.getElem?_replicate]at h;split at h<;>exact nomatch h),λl h hl=>(by cases hl)⟩;obtain⟨o,q1,q2⟩:=GW M hs.toList [] _ L0 (by rw[pH,hZ,cN];exact hl);refine⟨o,?_,by rw[pL]at q2;exact q2⟩;unfold layClean;rw[<-Array.foldl_toList];rw[show([]:List Int).length=0 from rfl]at q1;rw[q1];rfl
theorem Jy{f:Nat->Option Nat}:∀l:List Nat,(l.filterMap λj=>(f j).map λ(k:Nat)=>(j,k)).map (·.1)=l.filter λj=>(f j).isSome
 |[]=>rfl
 |x::l=>by
  rw[jK,wZ];cases f x with
  |none=>exact Jy l
  |some k=>
   show x::_=x::_;rw[Jy l]
theorem Jz{f:Nat->Option Nat}:∀l:List Nat,(l.filterMap λj=>(f j).map λ(k:Nat)=>(j,k)).map (·.2)=l.filterMap f
 |[]=>rfl
 |x::l=>by
  rw[jK,jK];cases f x with
  |none=>exact Jz l
  |some k=>
   show k::_=k::_;rw[Jz l]
theorem JA{f:α->Option β}:∀{l:List α},(∀x∈l,∃y,f x=some y)->∀i:Nat,(l.filterMap f)[i]?=(l[i]?).bind f
 |[],_,i=>by simp
 |x::l,h,i=>by
  obtain⟨y,hy⟩:=h x ∅;rw[filterMap_cons_some hy];cases i with
  |zero=>simp[hy]|succ i=>simpa using JA (λz hz=>h z (by simp[hz])) i
def Ls{mask finger moves:Nat}{led plain:Bool}(M:Js mask)(es:Array (Int×α))(hl:es.size<=mask):
  ∃t' order,laid mask finger moves led plain (es.map (·.1))=some (t',order)/\(order.filterMap (es[·]?)).toList.Perm es.toList/\Tb t' (order.filterMap (es[·]?))/\t'.mask=mask/\t'.led=led/\t'.plain=plain/\order.toList.Perm (List.range es.size):=by
 obtain⟨owner,q1,L⟩:=Nv (t:= {mask,place:= #[],dummies:= #[],finger,led,moves,plain}) M (es.map (·.1)) (by rw[Array.size_map];exact hl);unfold laid;rw[q1];dsimp only[bind,Option.bind,pure];generalize hlv:(List.range (mask+1)).filterMap (λj=>(owner.getD j none).map λ(x:Nat)=>(j,x))=live;have e1:live.map (·.1)=(List.range (mask+1)).filter λj=>(owner.getD j none).isSome:=by rw[<-hlv];exact Jy _
 have e2:live.map (·.2)=(List.range (mask+1)).filterMap λj=>owner.getD j none:=by rw[<-hlv];exact Jz _
 have f7:(es.map (·.1)).toList.length=es.size:=by simp
 have gd:∀j l:Nat,owner.getD j none=some l↔owner[j]?=some (some l):=λj l=>by
  rw[x4];cases owner[j]? with
  |none=>simp|some o=>simp
 have aaW:∀(i j l:Nat),live[i]?=some (j,l)->owner[j]?=some (some l)/\j<mask+1:=λi j l h=>by
  have:=bg h;rw[<-hlv]at this;obtain⟨x,hx,ex⟩:=mem_filterMap.mp this;cases eo:owner.getD x none with
  |none=>rw[eo]at ex;cases ex
  |some k=>
   rw[eo]at ex;cases ex;exact⟨(gd _ _).mp eo,mem_range.mp hx⟩
 have dR:∀l∈live.map (·.2),l<es.size:=λl h=>by
  rw[e2]at h;obtain⟨x,hx,ex⟩:=mem_filterMap.mp h;have:=L.lt x l ((gd _ _).mp ex);omega
 have fB:∀l∈live.map (·.2),∃y,es[l]?=some y:=λl h=>⟨es[l]'(dR l h),iX (dR l h)⟩;have VZ:(live.map (·.2)).Perm (List.range es.size):=by
  refine(perm_ext_iff_of_nodup ?_ nodup_range).mpr λl=>⟨λh=>mem_range.mpr (dR l h),λh=>?_⟩
  .rw[e2,wy,pairwise_filterMap];refine nodup_range.imp_of_mem λ{a b} ha hb HX x hx y hy e=>HX ?_;subst e;exact L.inj a b x ((gd _ _).mp hx) ((gd _ _).mp hy)
  .have Fz:=mem_range.mp h;obtain⟨n,r1,_⟩:=L.all l (es[l]).1 (by rw[dv,Array.getElem?_map,iX Fz];rfl);rw[e2];refine mem_filterMap.mpr ⟨_,mem_range.mpr ?_,(gd _ _).mpr r1⟩;have:=(Array.getElem?_eq_some_iff.mp r1).1;rw[L.size]at this;exact this
 have hfm:((live.map (·.2)).toArray.filterMap (es[·]?)).toList=(live.map (·.2)).filterMap (es[·]?):=by simp
 refine⟨_,_,rfl,?_,⟨M,?_,rfl,?_,λi e hi=>?_⟩,rfl,rfl,rfl,by rw[sG];exact VZ⟩
 .rw[hfm];refine(VZ.filterMap _).trans (List.Perm.of_eq ?_);refine pQ λi=>?_;rw[JA (λx hx=>⟨es[x]'(mem_range.mp hx),iX (mem_range.mp hx)⟩),show es.toList[i]?=es[i]? from dv];by_cases c:i<es.size
  .rw[wY c];rfl
  .rw[oj (by rw[sx];omega),qX ()];rfl
 .refine⟨λa b x y HX hx hy=>?_⟩;have hp:(live.map (·.1)).Pairwise (·<·):=by rw[e1];exact pairwise_lt_range.filter _
  rw[wQ]at hx hy;obtain⟨h1,e3⟩:=List.getElem?_eq_some_iff.mp hx;obtain⟨h2,e4⟩:=List.getElem?_eq_some_iff.mp hy;rw[<-e3,<-e4];exact pairwise_iff_getElem.mp hp a b h1 h2 HX
 .rw[show(Array.filterMap (es[·]?) (live.map (·.2)).toArray).size=((live.map (·.2)).filterMap (es[·]?)).length by rw[<-hfm,cN],cO,az];have h1:((live.map (·.2)).filterMap (es[·]?)).length=(live.map (·.2)).length:=by
   have:∀{l:List Nat},(∀x∈l,∃y,es[x]?=some y)->(l.filterMap (es[·]?)).length=l.length:=λ{l} =>by
    induction l with
    |nil=>intro _;rfl
    |cons x l ih=>
     intro h;obtain⟨y,hy⟩:=h x ∅;rw[filterMap_cons_some hy,aY,aY,ih λz hz=>h z (by simp[hz])]
   exact this fB
  rw[h1,az]
 .rw[<-dv,hfm,JA fB,aZ]at hi;cases ei:live[i]? with
  |none=>rw[ei]at hi;cases hi
  |some jl=>
   obtain⟨j,l⟩:=jl;rw[ei]at hi;have hi:es[l]?=some e:=hi;obtain⟨ho,hj⟩:=aaW i j l ei;obtain⟨n,r1,r2⟩:=L.all l e.1 (by rw[dv,Array.getElem?_map,hi];rfl);have iG:∀x:Nat,x<=mask->owner[x]?≠some none->∃i:Nat,(live.map (·.1)).toArray[i]?=some x:=λx hx gU=>by
    have hm:x∈live.map (·.1):=by
     rw[e1];refine mem_filter.mpr ⟨mem_range.mpr (),?_⟩;rw[x4];cases eo:owner[x]? with
     |none=>
      have h1:=Array.getElem?_eq_none_iff.mp eo;have h2:owner.size=mask+1:=L.size;omega
     |some o=>
      cases o with
      |none=>exact absurd eo gU|some k=>rfl
    obtain⟨i,hi⟩:=mem_iff_getElem?.mp hm;exact⟨i,by rw[wQ];exact hi⟩
   have em:∀n p,gW {mask:=mask,place:=(live.map (·.1)).toArray,dummies:= #[],finger:=finger,led:=led,moves:=moves,plain:=plain} n p=gW {mask:=mask,place:= #[],dummies:= #[],finger:=finger,led:=led,moves:=moves,plain:=plain} n p:=λn p=>(by refine zH ?_ n p;rfl);refine⟨j,n,?_,?_,λm hm z=>?_⟩
   .rw[wQ,aZ,ei];rfl
   .rw[em];exact(L.inj _ _ _ ho r1).symm
   .rw[em]at z;have hR:Ee (live.map (·.1)).toArray:=by
     refine⟨λa b x y HX hx hy=>?_⟩;have hp:(live.map (·.1)).Pairwise (·<·):=by rw[e1];exact pairwise_lt_range.filter _
     rw[wQ]at hx hy;obtain⟨h1,e3⟩:=List.getElem?_eq_some_iff.mp hx;obtain⟨h2,e4⟩:=List.getElem?_eq_some_iff.mp hy;rw[<-e3,<-e4];exact pairwise_iff_getElem.mp hp a b h1 h2 HX
    obtain⟨i',Um⟩:=iG _ (Ei {mask:=mask,place:= #[],dummies:= #[],finger:=finger,led:=led,moves:=moves,plain:=plain} m e.1) (r2 m hm);exact(iw hR rfl).mp z i' Um
end Pd
end
section
namespace Pd
open PySem PySem.SetTable PySem.Spec PyProof.Rows
abbrev oQ(prog:Program)(w:World)(h:Heap)(k:List Int)(p:Addr):Prop:=IsTupleKey (intKind prog w) h k p
noncomputable abbrev th(prog:Program)(w:World)(k:List Int):Int:=tupleKeyHash (intKind prog w) k
def Sl(prog:Program)(w:World)(h:Heap)(e:Int×Value)(k:List Int):Prop:=∃p,e=(th prog w k,.ref p)/\oQ prog w h k p
section
def items_int(h:ItemsAre (intKind prog w) k vs):∀v∈vs,∃n t,v=.int n t:=by
 induction h with
 |nil=>intro v hv;cases hv
 |@cons a v' ks vs h1 _ ih=>
  intro v hv;obtain rfl|hv:=mem_cons.mp hv
  .obtain⟨t,e⟩:=wG (v:=v) h1;exact⟨a,t,e⟩
  .exact ih v hv
def GX n t d:ofAClassStatement d (.int n t)=pure false:=by
 cases d<;>rfl
def vL{Q:Bool->Shared->Prop}(hk:oQ prog w s.heap k a)(h:Q false s):wpAny (model prog w) A (ofAClassStatement 8 (.ref a)) Q E s:=by
 have hT:=hk.typeIs;obtain⟨o,items,n,ho,_,hd,hi⟩:=hk;unfold ofAClassStatement;refine aj (sP hT ?_);show wpAny _ _ (pure true>>=_) _ _ s;refine aj (ay ?_);show wpAny _ _ (seqItems? (.ref a)>>=_) _ _ s;refine aj (mx ho hd ?_);refine aj ?_;show wpAny _ _ (forIn items _ _) _ _ s;rw[<-wD];refine wpAny_forIn_list _ (λrest r s'=>r.1=none/\s'=s/\∀v∈rest,∃n t,v=Value.int n t) _ ?_ ?_ _ _ ⟨rfl,rfl,items_int hi⟩
 .rintro v rest r s' ⟨hr,rfl,fB⟩;obtain⟨n,t,rfl⟩:=fB v b8;rw[GX];refine aj (ay ?_);simp only[Bool.false_eq_true,if_false];exact ay ⟨rfl,rfl,λu KC=>fB u (bI _ KC)⟩
 .rintro⟨r1,r2⟩ s' ⟨hr,rfl,_⟩;simp only at hr;subst hr;exact ay h
def GY{Q:Bool->Shared->Prop}(hk:oQ prog w s.heap k a)(h:Q true s):wpAny (model prog w) A (hashByValue 8 (.ref a)) Q E s:=by
 have hT:=hk.typeIs;obtain⟨o,items,n,ho,_,hd,hi⟩:=hk;unfold hashByValue;refine aj (wpAny_specialOf hT PySem.F.slot_tuple_hash.lookup ?_);show wpAny _ _ (seqItems? (.ref a)>>=_) _ _ s;refine aj (mx ho hd ?_);refine aj ?_;show wpAny _ _ (forIn items _ _) _ _ s;rw[<-wD];refine wpAny_forIn_list _ (λrest r s'=>r.1=none/\s'=s/\∀v∈rest,∃n t,v=Value.int n t) _ ?_ ?_ _ _ ⟨rfl,rfl,items_int hi⟩
 .rintro v rest r s' ⟨hr,rfl,fB⟩;obtain⟨n,t,rfl⟩:=fB v b8;rw[show hashByValue 7 (.int n t)=pure true from rfl];refine aj (ay ?_);simp only[Bool.not_true,Bool.false_eq_true,if_false];exact ay ⟨rfl,rfl,λu KC=>fB u (bI _ KC)⟩
 .rintro⟨r1,r2⟩ s' ⟨hr,rfl,_⟩;simp only at hr;subst hr;exact ay h
def Us{Q:Bool->Shared->Prop}(hk:oQ prog w s.heap k a)(QF:∀v∈vs,∃p k',v=.ref p/\oQ prog w s.heap k' p)(h:Q false s):wpAny (model prog w) A (searchCouldBeSeen (.ref a) vs) Q E s:=by
 refine aj ?_;refine wpAny_forIn_list _ (λrest r s'=>r.1=none/\s'=s/\∀v∈rest,∃p k',v=Value.ref p/\oQ prog w s.heap k' p) _ ?_ ?_ _ _ ⟨rfl,rfl,QF⟩
 .rintro v rest r s' ⟨hr,rfl,fB⟩;obtain⟨p,k',rfl,hp⟩:=fB v b8;have tl:=λu KC=>fB u (bI _ KC);by_cases c:(a==p)=true
  .simp only[c,Bool.true_or,if_true];exact ay ⟨rfl,rfl,tl⟩
  .simp only[c,Bool.false_or,carriedByValue,Bool.and_self,Bool.false_eq_true,if_false];refine aj (wpAny_eqIsQuiet_tuple hk ?_);refine aj (wpAny_eqIsQuiet_tuple hp ?_);refine aj (vL hk ?_);refine aj (vL hp ?_);exact ay ⟨rfl,rfl,tl⟩
 .rintro⟨r1,r2⟩ s' ⟨hr,rfl,_⟩;subst hr;exact ay h
def Ut{X Z:Sem α}{b:Bool}{Q:α->Shared->Prop}(h:wpAny M A X Q E s)(hy:∀Q':Bool->Shared->Prop,Q' false s->wpAny M A Y Q' E s):
  wpAny M A (if b=true then Y>>=λc=>if c=true then Z else X else X) Q E s:=by
 cases b
 .exact h
 .refine aj (hy _ ?_);exact h
def Uu(T:Tb t es)(h:t.slot j=.live i):∃e,es[i]?=some e/\t.place[i]?=some j:=by
 have hp:=(qu T.vJ T.HZ).mp h;have hi:i<es.size:=by rw[<-T.len];exact(Array.getElem?_eq_some_iff.mp hp).1
 exact⟨_,iX hi,hp⟩
def GZ{Q:SetFound->Shared->Prop}(hu:A.units<cLine)(S:zI w s.heap a es ep t)(T:Tb t es)(P:Paired (Sl prog w s.heap) es.toList ks)(hx:oQ prog w s.heap k px){N:Nat}(hN:N<10*turns t.mask)(he:t.slot (gW t N (t.probeStart (th prog w k))).j=.empty)(hm:∀m,m<N->t.slot (gW t m (t.probeStart (th prog w k))).j≠ .empty)(yes:k∈ks->Q (.there none) s)(no:k∉ks->Q (.free (gW t N (t.probeStart (th prog w k))).j false) s):
  ∀d c fuel QG,c+d=N->d<fuel->QG.getD (t.probeStart (th prog w k))=gW t c (t.probeStart (th prog w k))->
   (∀m i e,m<c->t.slot (gW t m (t.probeStart (th prog w k))).j=.live i->es[i]?=some e->¬Sl prog w s.heap e k)->wpAny (model prog w) A (setSearchFrom a (.ref px) (th prog w k) true fuel QG) Q E s:=by
 intro d
 induction d using Nat.strongRecOn with
 |ind d ih=>
 intro c fuel QG hc hf p6 Y9;obtain⟨fuel,rfl⟩:∃f,fuel=f+1:=⟨fuel-1,by omega⟩;refine aj (jH S.ob rfl S.fit ?_);dsimp only;have hg:t.gaveWay=false:=by
  unfold SetTable.gaveWay;obtain e|e|e|e|e|e:=T.X7<;>rw[e] <;>rfl
 rw[af (by rw[hg];exact b_),p6];have g:=Eg T.vJ T.HZ (λi=>(es[i]?.map (·.1)).getD 0) (th prog w k) d (10*turns t.mask) (gW t c (t.probeStart (th prog w k))) ()
  (by rw[<-eK,hc];exact he) (λm h=>by rw[<-eK];exact hm _ ())
 obtain⟨g1,g2⟩|⟨m,i,g1,g2,g3,g4,g5⟩:=g
 .have gp:t.probe (λi=>(es[i]?.map (·.1)).getD 0) (th prog w k) (gW t c (t.probeStart (th prog w k)))=some (.empty (gW t N (t.probeStart (th prog w k))).j none):=by
   unfold probe;rw[g1,<-eK,hc,uL];rfl
  split
  case h_2=>rename_i Lg;exact(Lg _ gp).elim
  rename_i met Lg;obtain rfl:=Option.some.inj (Lg.symm.trans gp);refine ay (no λhk=>?_);obtain⟨i,hi⟩:=mem_iff_getElem?.mp hk;obtain⟨e,ei,KJ⟩:=L2.Paired.Kp P hi;rw[dv]at ei;obtain⟨j,n',r1,r2,r3⟩:=T.reach i e ei;obtain⟨p,rfl,hp⟩:=id KJ;have Xc:t.slot (gW t n' (t.probeStart (th prog w k))).j=.live i:=by rw[r2];exact(qu T.vJ T.HZ).mpr r1
  have dR:n'<N:=by
   obtain z|z|z:=pG n' N
   .exact z
   .rw[z,he]at Xc;cases Xc
   .exact absurd he (r3 N z)
  by_cases cc:n'<c
  .exact Y9 n' i _ cc Xc ei KJ
  .obtain⟨m,rfl⟩:∃m,n'=c+m:=⟨n'-c,by omega⟩;obtain⟨i',q1,q2⟩:=g2 m ();rw[<-eK,Xc]at q1;cases q1;rw[ei]at q2;exact q2 rfl
 .have gp:t.probe (λi=>(es[i]?.map (·.1)).getD 0) (th prog w k) (gW t c (t.probeStart (th prog w k)))=some (.candidate (gW t (c+m) (t.probeStart (th prog w k))).j i (gW t (c+(m+1)) (t.probeStart (th prog w k)))):=by
   unfold probe;rw[g4,<-eK,<-eK]
  split
  case h_2=>rename_i Lg;exact(Lg _ gp).elim
  rename_i met Lg;obtain rfl:=Option.some.inj (Lg.symm.trans gp);dsimp only;rw[<-eK]at g2;obtain⟨e,ei,iG⟩:=Uu T g2;obtain⟨k',qf,KJ⟩:=L2.Paired.at' P (by rw[dv];exact ei);obtain⟨p,rfl,hp⟩:=id KJ;rw[ei]at g3;have seen:∀v∈(List.map (λx=>x.snd) (Array.filter (λx=>x.fst==th prog w k) es).toList),∃p k',v=Value.ref p/\oQ prog w s.heap k' p:=λv hv=>by
   obtain⟨e,he1,rfl⟩:=mem_map.mp hv;have he2:e∈es.toList:=by
    have:=Array.mem_toList_iff.mp he1;exact Array.mem_toList_iff.mpr (Array.mem_filter.mp this).1
   obtain⟨i2,Ub⟩:=mem_iff_getElem?.mp he2;obtain⟨k2,_,p2,rfl,Iz⟩:=L2.Paired.at' P Ub;exact⟨p2,k2,rfl,Iz⟩
  rw[ei];refine Ut ?_ λQ' h=>Us hx seen h;refine aj (gn (wpAny_eqBool_tuple hu hp hx ?_));refine aj (jH S.ob rfl S.fit ?_);by_cases kk:k'=k
  .rw[ag (by simp[kk])];refine ay (yes ?_);rw[<-kk];exact bg qf
  .rw[af (by simp[kk])];have sm:t.sameMemory t.moves t.mask=some true:=by unfold sameMemory;simp
   rw[sm];dsimp only;rw[ag rfl,g2];dsimp only;rw[ei];refine aj ?_;unfold isSame;dsimp only;rw[ag ∅];refine ay (aj (ay ?_));rw[ag rfl];dsimp only;rw[af (by simp[kk])];refine ih (d-(m+1)) () (c+(m+1)) fuel _ () () rfl λm2 i2 e2 h2 q1 q2 q3=>?_;by_cases cc:m2<c
   .exact Y9 m2 i2 e2 cc q1 q2 q3
   .obtain⟨l,rfl⟩:∃l,m2=c+l:=⟨m2-c,by omega⟩;by_cases cd:l<m
    .obtain⟨i3,r1,r2⟩:=g5 l cd;rw[<-eK,q1]at r1;cases r1;rw[q2]at r2;obtain⟨p3,rfl,_⟩:=q3;exact r2 rfl
    .have el:l=m:=by omega
     subst el;rw[g2]at q1;cases q1;rw[ei]at q2;cases q2;obtain⟨p3,e3,QH⟩:=q3;have e4:=cb Prod.snd e3;cases e4;exact kk (hp.inj QH)
def fq{l m:List α}(p:l.Perm m):∀{ks},Paired F l ks->∃qI,Paired F m qI/\qI.Perm ks:=by
 induction p with
 |nil=>intro ks h;cases h;exact⟨[],.nil,.refl _⟩
 |cons x _ ih=>
  intro ks h;cases h with
  |cons r t=>
   obtain⟨k2,h1,h2⟩:=ih t;exact⟨_,.cons r h1,h2.cons _⟩
 |swap x y l=>
  intro ks h;cases h with
  |cons r t=>
   cases t with
   |cons r2 t2=>exact⟨_,.cons r2 (.cons r t2),.swap _ _ _⟩
 |trans _ _ ih1 ih2=>
  intro ks h;obtain⟨k2,h1,h2⟩:=ih1 h;obtain⟨k3,h3,h4⟩:=ih2 h1;exact⟨k3,h3,h4.trans h2⟩
def zL(M:Js m)(h1:n*5<m*3)(h2:(n+1)*5≥m*3)(h3:n<2100):Js (sizeAbove (grown (n+1))-1)/\sizeAbove (grown (n+1))<=sizeLine/\(n+1)*5<(sizeAbove (grown (n+1))-1)*3/\n+1<=sizeAbove (grown (n+1))-1:=by
 have hz:=cG;obtain e|e|e|e|e|e:=M
 .obtain rfl:n=4:=by omega
  rw[show sizeAbove (grown (4+1))=32 by decide+kernel,hz];exact⟨by unfold Js;omega,by omega,by omega,by omega⟩
 .obtain rfl:n=18:=by omega
  rw[show sizeAbove (grown (18+1))=128 by decide+kernel,hz];exact⟨by unfold Js;omega,by omega,by omega,by omega⟩
 .obtain rfl:n=76:=by omega
  rw[show sizeAbove (grown (76+1))=512 by decide+kernel,hz];exact⟨by unfold Js;omega,by omega,by omega,by omega⟩
 .obtain rfl:n=306:=by omega
  rw[show sizeAbove (grown (306+1))=2048 by decide+kernel,hz];exact⟨by unfold Js;omega,by omega,by omega,by omega⟩
 .obtain rfl:n=1228:=by omega
  rw[show sizeAbove (grown (1228+1))=8192 by decide+kernel,hz];exact⟨by unfold Js;omega,by omega,by omega,by omega⟩
 .omega
def xQ{t':SetTable}(ho:h.get? a=some (gL es ep t)):(h.update a (Obj.putSet AJ t')).get? a=some (gL AJ (ep+1) t'):=by
 have:=md (Obj.putSet AJ t') ho (by rw[putSet_of AJ t' rfl];rfl);exact this
theorem Tb.fits{es:Array (Int×α)}(T:Tb t es)(h:es.size<=t.mask):t.fits es.size=true:=by
 unfold SetTable.fits SetTable.fill;rw[T.HZ,T.len];simpa using h
def Uv{Q:Bool->Shared->Prop}(hu:A.units<cLine)(S:zI w s.heap a es ep t)(T:Tb t es)(P:Paired (Sl prog w s.heap) es.toList ks)(nd:ks.Nodup)(hx:oQ prog w s.heap k px)(room:es.size*5<t.mask*3)(hlen:es.size<2100)(yes:k∈ks->Q false s)(no:k∉ks->∀h' AJ Mu t' qI,Heap.SameBut a s.heap h'->zI w h' a AJ Mu t'->Tb t' AJ->Paired (Sl prog w s.heap) AJ.toList qI->qI.Perm (k::ks)->AJ.size*5<t'.mask*3->AJ.toList.Perm ((th prog w k,.ref px)::es.toList)->Q true {s with heap:=h'}):
  wpAny (model prog w) A (setAddHashed a (.ref px) (th prog w k)) Q E s:=by
 have HY:t.place.size<=t.mask:=by
  rw[T.len];omega
 obtain⟨N,hN,he,hm⟩:=vI T.X7 T.vJ T.HZ HY (th prog w k);refine gn (aj (jH S.ob rfl S.fit ?_));dsimp only;refine aj ?_;refine GZ hu S T P hx hN he hm (λh=>?_) (λh=>?_) N 0 100000 none () ?_ rfl (λm i e h=>absurd h (mv _))
 .exact ay (yes h)
 .refine aj (jH S.ob rfl S.fit ?_);have T':=T.put (x:=Value.ref px) he hm;generalize hJ:(gW t N (t.probeStart (th prog w k))).j=J at*;have fp:(t.put J).1.plain=true/\(t.put J).1.mask=t.mask/\(t.put J).1.led=t.led/\(t.put J).2<=es.size:=by
   refine⟨S.plain,rfl,rfl,?_⟩;have:=(fZ T.vJ J).2.2;rw[T.len]at this;exact this
  generalize hP:t.put J=tp at*;obtain⟨t1,p⟩:=tp;obtain⟨f1,f2,f3,f4⟩:=fp;have f7:(insertAt es p (th prog w k,Value.ref px)).size=es.size+1:=iL es f4 _;have HW:(insertAt es p (th prog w k,Value.ref px)).toList.Perm ((th prog w k,Value.ref px)::es.toList):=by
   rw[iK es f4];refine perm_middle.trans ?_;rw[sC]
  have P1:Paired (Sl prog w s.heap) ((th prog w k,Value.ref px)::es.toList) (k::ks):=.cons ⟨px,rfl,hx⟩ P;generalize hes:insertAt es p (th prog w k,Value.ref px)=oa at*;rw[ag f1];refine aj (GY hx ?_);rw[ag rfl];have HR:=cG;refine aj (wM S.ob rfl ?_ (by rw[f7,HR];omega));have V0:(s.heap.update a (Obj.putSet oa t1)).get? a=some (gL oa (ep+1) t1):=xQ S.ob;have hsb:=kI s.heap a (Obj.putSet oa t1);have hmk:oa.size<=t1.mask:=by rw[f7,f2];omega
  have S1:zI w (s.heap.update a (Obj.putSet oa t1)) a oa (ep+1) t1:=⟨V0,T'.fits hmk,T'.vJ,f1,by rw[f3];exact S.led⟩;by_cases tf:t1.tooFull=true
  .rw[ag (by rw[tf];rfl)];have tf2:(es.size+1)*5≥t.mask*3:=by
    unfold tooFull SetTable.fill at tf;rw[T'.HZ,T'.len,f7,f2]at tf;simpa using tf
   obtain⟨M1,M2,M3,M4⟩:=zL T.X7 room tf2 hlen;obtain⟨t2,ord,L1,Zg,L3,L4,L5,L6,_⟩:=Ls (finger:=t1.finger) (led:=t1.led) (plain:=t1.plain) M1 oa (by rw[f7];exact M4);refine aj ?_;refine aj (jH V0 rfl S1.fit ?_);dsimp only;rw[af ()];have A9:t1.relaid (oa.map (·.1)) (grown (es.size+1))=some (t2,ord):=L1;rw[A9];have G0:(ord.filterMap (oa[·]?)).size=oa.size:=by
    have:=Zg.length_eq;exact this
   refine aj ?_;show wpAny _ _ (if((ord.filterMap (oa[·]?)).size !=oa.size)=true then _ else _) _ _ _;rw[af (by rw[G0];simp)];refine ay ?_;generalize adU:ord.filterMap (oa[·]?)=es2 at*;refine wM V0 rfl ?_ (by rw[G0,f7,HR];omega);refine ay ?_;obtain⟨qI,q1,q2⟩:=fq (HW.symm.trans Zg.symm) P1;have Uw:es2.size<=t2.mask:=by rw[G0,f7,L4];exact M4
   refine no h _ es2 (ep+1+1) t2 qI (hsb.trans (kI ..)) ⟨xQ V0,L3.fits Uw,L3.vJ,by rw[L6];exact f1,by rw[L5,f3];exact S.led⟩ L3 q1 q2 ?_ (Zg.trans HW);rw[G0,f7,L4];exact M3
  .rw[af ‹tf›];refine ay ?_;obtain⟨qI,q1,q2⟩:=fq HW.symm P1;refine no h _ oa (ep+1) t1 qI hsb S1 T' q1 q2 ?_ HW;unfold tooFull SetTable.fill at tf;rw[T'.HZ,T'.len]at tf;simp only[Array.size_empty,Nat.add_zero,decide_eq_true_eq]at tf;omega
 .have:=T.X7;unfold turns at hN;obtain e|e|e|e|e|e:=this<;>rw[e]at hN<;>omega
end
section
def Ux a (h:Q₁ (.ref s.heap.objs.size) {s with heap:=s.heap.push (gL #[] 0 (.fresh 0 0 (!cX w)))}):
  codeAny (model prog w) A (.call (.builtin "set.__new__") ⟨[.type "set",a],[]⟩) (wants Q₁ E) s:=by
 refine codeAny_of_tree ?_;refine aj (wpAny_of_eq (PySem.F.newCall_set_1 a) (ay ⟨pK PySem.F.plain_set_new _,kM PySem.F.entry_set_new ?_⟩));unfold Builtin.«set.__new__» Builtin.Frozenset.newClass;have qJ:=sub_set_self
 wp_walk
 refine wpAny_askSetting (ay ?_);refine aj (wpAny_alloc (ay ?_));exact ay h
def QI{S I:Addr}{J:Nat->Shared->Prop}{Jm:Nat->Value->Shared->Prop}{Jd:Shared->Prop}(item:∀i s Q E,i<n->J i s->(∀v s',Jm i v s'->Q (some v) s')->wpAny (model prog w) A.in1 (pyNext (.ref I)) Q E s)(add:∀i v s Q E,i<n->Jm i v s->(∀b s',J (i+1) s'->Q b s')->wpAny (model prog w) A.in1 (setAdd S v) Q E s)(done:∀s Q E,J n s->(∀s',Jd s'->Q none s')->wpAny (model prog w) A.in1 (pyNext (.ref I)) Q E s)(fin:∀s,Jd s->R (.ok (.ret .none)) s):∀k i s,n-i=k->i<=n->J i s->codeAny (model prog w) A (.builtin "set.update.loop" ⟨[.ref S,.ref I],[]⟩) R s:=by
 intro k
 induction k with
 |zero=>
  intro i s hk hi hj;obtain rfl:i=n:=by omega
  refine kM PyProof.Rows.F.entry_set_update_loop ?_;refine aj (done s _ _ hj λs' hd=>?_);exact ay (fin s' hd)
 |succ k ih=>
  intro i s hk hi hj;refine kM PyProof.Rows.F.entry_set_update_loop ?_;refine aj (item i s _ _ () hj λv s' hm=>?_);refine aj (gn (add i v s' _ _ () hm λb s2 hj2=>?_));exact ay ⟨pK PyProof.Rows.F.plain_set_update_loop _,ih (i+1) s2 () () hj2⟩
def G3{J:Nat->Shared->Prop}{Jm:Nat->Value->Shared->Prop}{Jd:Shared->Prop}(hl:s.heap.IsList l items)(item:∀i s' Q E,i<items.size->J i s'->(∀v s',Jm i v s'->Q (some v) s')->wpAny (model prog w) A.in1.in1.in1 (pyNext (.ref (s.heap.objs.size+1))) Q E s')(add:∀i v s' Q E,i<items.size->Jm i v s'->(∀b s',J (i+1) s'->Q b s')->wpAny (model prog w) A.in1.in1.in1 (setAdd s.heap.objs.size v) Q E s')(done:∀s' Q E,J items.size s'->(∀s',Jd s'->Q none s')->wpAny (model prog w) A.in1.in1.in1 (pyNext (.ref (s.heap.objs.size+1))) Q E s')(start:J 0 {s with heap:=(s.heap.push (gL #[] 0 (.fresh 0 0 (!cX w)))).push {cls:=.type "list_iterator",data:=.fields #[.ref l,.int 0 0]}})(h:∀s',Jd s'->Q (.ref s.heap.objs.size) s'):wpAny (model prog w) A (call (.type "set") [.ref l]) Q E s:=by
 obtain⟨c,tl,aeC⟩:=PySem.F.called_set.mro;have aew:=PySem.F.called_set.made;have qJ:=PySem.F.called_set.sub;refine wpAny_call (codeAny_of_tree ?_);show wpAny _ _ (callAny (.type "set") _) _ _ _;refine ay ⟨Code.quiet_builtin _ (by decide+kernel),kM PySem.F.entry_type_call ?_⟩;rw[Around.under_plain (weight_type_call_type "set" [.ref l] []) rfl];have h1:=PySem.F.called_set.notType;have h2:=PySem.F.called_set.canCreate;have hct:=PySem.F.typeCall_set_1 (.ref l)
 repeat(any_goals(first|assumption|wp_step))
 refine jm (Ux (.ref l) (E:=E) (Q₁:=λobj s₁=>obj=.ref s.heap.objs.size/\s₁= {s with heap:=s.heap.push (gL #[] 0 (.fresh 0 0 (!cX w)))}) ⟨rfl,rfl⟩) λr s₁ hr=>?_;cases r with
 |error e=>exact hr
 |ok fl=>
  cases fl with
  |ret obj=>
   obtain⟨rfl,rfl⟩:=hr;have hS:(s.heap.push (gL #[] 0 (.fresh 0 0 (!cX w)))).get? s.heap.objs.size=some (gL #[] 0 (.fresh 0 0 (!cX w))):=bw _ rfl;have hT:Shared.TypeIs {s with heap:=s.heap.push (gL #[] 0 (.fresh 0 0 (!cX w)))} (.ref s.heap.objs.size) "set":=⟨_,hS,rfl⟩;have hli:=PySem.F.called_set.init.lookup;have hbi:=PySem.F.called_set.init.bind (.ref s.heap.objs.size)
   repeat(any_goals(first|assumption|wp_step))
   refine jm (codeAny_call_builtin (R:=wants (λr s₂=>r=.none/\Jd s₂) E) PySem.F.called_set.init.plain PySem.F.entry_set_init (check_set_init_1 hT ?_)) λr₂ s₂ hr₂=>?_
   .obtain⟨ol,V1,A3,nl,Zh⟩:=hl;obtain⟨aeD,aaX,aex,X8⟩:=ol;simp only at A3 Zh;subst A3;subst Zh;unfold gL at*;have adV:(s.heap.push {cls:=.type "set",dict:=none,data:=.set #[] 0 (.fresh 0 0 (!cX w))}).get? l=some {cls:=.type "list",dict:=aaX,data:=.seq items nl,slots:=X8} :=bQ _ V1;have aeE:=PySem.F.sub_list_set;have aeF:=PySem.F.sub_list_frozenset;have gU:(Value.type "list"==Value.type "dict")=false:=by decide
    have Qr:(s.heap.push {cls:=.type "set",dict:=none,data:=.set #[] 0 (.fresh 0 0 (!cX w))}).IsList l items:=⟨_,adV,rfl,nl,rfl⟩;unfold Builtin.«set.__init__» noKeywords Builtin.Frozenset.updateFrom;generalize hPI:pyIter=PI
    wp_walk
    subst hPI;refine wpAny_pyIter_list Qr ?_;refine aj (wpAny_runValue ?_);have e1:(s.heap.push {cls:=.type "set",dict:=none,data:=.set #[] 0 (.fresh 0 0 (!cX w))}).objs.size=s.heap.objs.size+1:=dW ..;rw[e1];refine jm (QI (R:=λr s2=>r=.ok (.ret .none)/\Jd s2) item add done (λs2 hd=>⟨rfl,hd⟩) items.size 0 _ rfl (cz _) start) λr s2 hr=>?_;obtain⟨rfl,hd⟩:=hr;show wpAny _ _ _ _ _ _;refine ay ?_;show wpAny _ _ (ret Value.none) _ _ _;exact ay ⟨rfl,hd⟩
   .cases r₂ with
    |error e=>exact hr₂
    |ok fl₂=>
     cases fl₂ with
     |ret r=>
      obtain⟨rfl,hd⟩:=hr₂
      repeat(any_goals(first|assumption|wp_step))
      exact h _ hd
     |_=>exact hr₂.elim
  |_=>exact hr.elim
end
def oQ.keep(x:oQ prog w h k p)(f:∀o,h.get? p=some o->o.cls=.type "tuple"->h'.get? p=some o):oQ prog w h' k p:=
 let⟨o,aR,n,ho,hc,q⟩:=x
 ⟨o,aR,n,f o ho hc,hc,q⟩
def G4{l:List (Int×Value)}(x:Paired (Sl prog w h) l ks)(f:∀p o,h.get? p=some o->o.cls=.type "tuple"->h'.get? p=some o):Paired (Sl prog w h') l ks:=
 L2.Paired.fU x λ_ _ ⟨p,e,q⟩=>⟨p,e,q.keep (f p)⟩
structure LT(prog:Program)(w:World)(h0:Heap)(l:Addr)(items:Array Value)(kk:List (List Int))(S:Addr)(i:Nat)(hp:Heap)(es:Array (Int×Value))(ep:Nat)(t:SetTable)(ks:List (List Int)):Prop where
 li:hp.IsList l items
 fr:∀b o,h0.get? b=some o->hp.get? b=some o
 sa:zI w hp S es ep t
 tb:Tb t es
 pr:Paired (Sl prog w hp) es.toList ks
 nd:ks.Nodup
 mem:∀k,k∈ks↔k∈kk.take i
 room:es.size*5<t.mask*3
 src:∀e∈es.toList,e.2∈items.toList
section
def LT.but{kk:List (List Int)}{S:Addr}(L:LT prog w h0 l items kk S i hp es ep t ks)(hI:h0.get? I=none)(hl:l≠I)(hS:S≠I)(hc:∀o,hp.get? I=some o->o.cls≠ .type "tuple")(f:∀b o,b≠I->hp.get? b=some o->h'.get? b=some o):LT prog w h0 l items kk S i h' es ep t ks:=
 ⟨L.li.at λo e=>f l o hl e,λb o e=>f b o (λz=>by rw[z,hI]at e;cases e) (L.fr b o e),L.sa.keep λo e=>f S o hS e,L.tb,G4 L.pr λp o e1 e2=>f p o (λz=>hc o (z▸e1) e2) e1,L.nd,L.mem,L.room,L.src⟩
def Ej{kk:List (List Int)}(hh:A.handled=none)(hu:A.units+10<cLine)(hl:s.heap.IsList l items)(hi:Paired (λv k=>∃p,v=Value.ref p/\oQ prog w s.heap k p) items.toList kk)(hb:∀ks:List (List Int),ks.Nodup->(∀k∈ks,k∈kk)->ks.length<2100)(h:∀h' tk es ep t ks,zI w h' s.heap.objs.size es ep t->Paired (Sl prog w h') es.toList ks->ks.Nodup->(∀k,k∈ks↔k∈kk)->(∀e∈es.toList,e.2∈items.toList)->(∀b o,s.heap.get? b=some o->h'.get? b=some o)->Q (.ref s.heap.objs.size) {s with heap:=h',toks:=tk}):
  wpAny (model prog w) A (call (.type "set") [.ref l]) Q E s:=by
 have dR:l<s.heap.objs.size:=by obtain⟨o,ho,_⟩:=hl;exact aN ho
 have hlen:kk.length=items.size:=by
  have:=L2.Paired.eQ hi;exact this.symm
 have X9:s.heap.get? (s.heap.objs.size+1)=none:=by
  cases e:s.heap.get? (s.heap.objs.size+1)with
  |none=>rfl|some o=>exact absurd (aN e) (Nat.not_lt.mpr (pS _))
 have nl:=bB (mj dR);have ns:s.heap.objs.size≠s.heap.objs.size+1:=bB (kK _);have hh3:A.in1.in1.in1.handled=none:=by simp[hh]
 have W:=Walks.list (prog:=prog) (w:=w) hh3 (s.heap.objs.size+1) l nl items;have nt:∀(hp:Heap)(i:Nat),hp.IsListIter (s.heap.objs.size+1) l i->∀o,hp.get? (s.heap.objs.size+1)=some o->o.cls≠ .type "tuple":=λhp i x o e z=>by
  obtain⟨o',xj,Vt,_⟩:=x;rw[xj]at e;cases e;rw[Vt]at z;exact absurd z ⋯
 refine G3 (J:=λi s'=>∃hp tk es ep t ks,s'= {s with heap:=hp,toks:=tk}/\hp.IsListIter (s.heap.objs.size+1) l i/\LT prog w s.heap l items kk s.heap.objs.size i hp es ep t ks)
  (Jm:=λi v s'=>∃hp tk es ep t ks,s'= {s with heap:=hp,toks:=tk}/\items[i]?=some v/\hp.IsListIter (s.heap.objs.size+1) l (i+1)/\LT prog w s.heap l items kk s.heap.objs.size i hp es ep t ks)
  (Jd:=λs'=>∃hp tk es ep t ks,s'= {s with heap:=hp,toks:=tk}/\LT prog w s.heap l items kk s.heap.objs.size items.size hp es ep t ks) hl ?_ ?_ ?_ ?_ ?_
 .rintro i s' Q E Um ⟨hp,tk,es,ep,t,ks,rfl,it,L⟩ k;refine W.item i _ Q E Um ⟨it,L.li⟩ λv h' Sj hv st f=>?_;exact k v _ ⟨h',Sj,es,ep,t,ks,rfl,hv,st.1,L.but X9 nl ns (nt _ _ it) λb o hb e=>f b o ‹hb› e⟩
 .rintro i v s' Q E Um ⟨hp,tk,es,ep,t,ks,rfl,hv,it,L⟩ k;obtain⟨key,hk,p,rfl,tp⟩:=L2.Paired.at' hi (by rw[dv];exact hv);have tp':=tp.keep λo e _=>L.fr p o e;have CD:kk.take (i+1)=kk.take i++ [key]:=by
   rw[take_succ,hk];rfl
  have hks:∀qI:List (List Int),qI.Perm (key::ks)->∀x,x∈qI↔x∈kk.take (i+1):=λqI pm x=>by
   rw[pm.mem_iff,CD,sf,jo,L.mem,sJ];exact or_comm
  refine gn (aj (wpAny_pyHash_tuple (by simp;omega) tp' ?_));have f7:es.size=ks.length:=by
   have:=L2.Paired.eQ L.pr;exact this
  refine Uv (by simp;omega) L.sa L.tb L.pr L.nd tp' L.room ?_ (λlZ=>?_) λX_ h' AJ Mu t' qI sb S' T' P' pm QJ pe=>?_
  .rw[f7];exact hb ks L.nd λx hx=>mem_of_mem_take ((L.mem x).mp hx)
  .refine k false _ ⟨hp,_,es,ep,t,ks,rfl,it,⟨L.li,L.fr,L.sa,L.tb,L.pr,L.nd,λx=>?_,L.room,L.src⟩⟩;rw[L.mem,CD,jo,sJ];exact⟨.inl,λz=>z.elim id λe=>e▸(L.mem key).mp lZ⟩
  .have f:=λb o hb e=>sb.extBut b o hb e;have hns:∀o,hp.get? s.heap.objs.size=some o->o.cls≠ .type "tuple":=λo e z=>by
    rw[L.sa.ob]at e;cases e;exact absurd z (by show¬(Value.type "set"=Value.type "tuple");decide)
   refine k true _ ⟨h',_,AJ,Mu,t',qI,rfl,it.at λo e=>f _ o ns.symm e,⟨L.li.at λo e=>f l o (bB dR) e,λb o e=>f b o (bB (aN e)) (L.fr b o e),S',T',G4 P' λq o e1 e2=>f q o (λz=>hns o (z▸e1) e2) e1,?_,hks qI pm,QJ,λe he=>?_⟩⟩
   .exact pm.nodup_iff.mpr (nodup_cons.mpr ⟨X_,L.nd⟩)
   .obtain z|z:=mem_cons.mp (pe.mem_iff.mp he)
    .rw[z];exact bg (by rw[dv];exact hv)
    .exact L.src e z
 .rintro s' Q E ⟨hp,tk,es,ep,t,ks,rfl,it,L⟩ k;refine W.done _ Q E ⟨it,L.li⟩ λh' Sj f=>?_;exact k _ ⟨h',Sj,es,ep,t,ks,rfl,L.but X9 nl ns (nt _ _ it) λb o hb e=>f b o ‹hb› e⟩
 .have fit:(SetTable.fresh 0 0 (!cX w)).fits (#[]:Array (Int×Value)).size=true:=rfl;have vJ:Ee (#[]:Array Nat):=⟨λi j a b _ h=>by simp at h⟩;have e1:(s.heap.push (gL #[] 0 (SetTable.fresh 0 0 (!cX w)))).objs.size=s.heap.objs.size+1:=dW ..;refine⟨_,s.toks, #[],0,.fresh 0 0 (!cX w),[],rfl,?_,⟨(hl.push _).push _,λb o e=>bQ _ (bQ _ e),⟨bQ _ (bw _ rfl),fit,vJ,rfl,rfl⟩,⟨.inl rfl,vJ,rfl,rfl,λi e h=>by simp at h⟩,.nil,nodup_nil,λx=>by simp,by show 0*5<7*3;decide,λe he=>by simp at he⟩⟩;rw[<-e1];exact⟨_,bw _ rfl,rfl,rfl⟩
 .rintro s' ⟨hp,tk,es,ep,t,ks,rfl,L⟩;refine h hp tk es ep t ks L.sa L.pr L.nd (λx=>?_) L.src L.fr;rw[L.mem,<-hlen,et]
end
theorem tU:∀{l m:List Int},l.Nodup->(∀x∈l,x∈m)->l.length<=m.length
 |[],m,_,_=>cz _
 |x::l,m,nd,h=>by
  obtain⟨h1,h2⟩:=nodup_cons.mp nd;have hx:=h x ∅;have:=tU (l:=l) (m:=m.erase x) h2 λy hy=>by
   have gU:y≠x:=λe=>h1 (e▸hy);exact(wX gU).mpr (h y (by simp[hy]))
  rw[qZ hx]at this;have:=wL hx;rw[aY];omega
def V2(e:Int×Value)(n:Int):Prop:=∃t,e=(hashInt n,.int n t)
section
def Nw{l:List (Int×Value)}(P:Paired V2 l ns):ElemsOf (intKind prog w) l:=λe he=>by
 obtain⟨i,hi⟩:=mem_iff_getElem?.mp he;obtain⟨n,_,t,rfl⟩:=L2.Paired.at' P hi;exact⟨⟨n,pX _ _ _ _,rfl⟩,rfl⟩
def G5{l:List (Int×Value)}(P:Paired V2 l ns):(l.findIdx? λe=>(intKind prog w).is n e.2)=none↔n∉ns:=by
 rw[findIdx?_eq_none_iff];constructor
 .intro h hn;obtain⟨i,hi⟩:=mem_iff_getElem?.mp hn;obtain⟨e,he,t,rfl⟩:=L2.Paired.Kp P hi;have:=h _ (bg he);rw[show(intKind prog w).is n (.int n t)=true from pX _ _ _ _]at this;cases this
 .intro h e he;obtain⟨i,hi⟩:=mem_iff_getElem?.mp he;obtain⟨m,hm,t,rfl⟩:=L2.Paired.at' P hi;cases e2:(intKind prog w).is n (Value.int m t)with
  |false=>rfl
  |true=>
   have:=(intKind prog w).inj _ _ _ e2 (pX _ _ _ _);exact absurd (this▸bg hm) h
def add_int{Q:Bool->Shared->Prop}(S:zI w s.heap a es ep t)(T:Tb t es)(P:Paired V2 es.toList ns)(room:es.size*5<t.mask*3)(hlen:es.size<2100)(yes:n∈ns->Q false s)(no:n∉ns->∀h' AJ Mu t' ji,Heap.SameBut a s.heap h'->zI w h' a AJ Mu t'->Tb t' AJ->Paired V2 AJ.toList ji->ji.Perm (n::ns)->AJ.size*5<t'.mask*3->Q true {s with heap:=h'}):
  wpAny (model prog w) A (setAddHashed a (.int n tk) (hashInt n)) Q E s:=by
 have HY:t.place.size<=t.mask:=by
  rw[T.len];omega
 obtain⟨N,hN,he,hm⟩:=vI T.X7 T.vJ T.HZ HY (hashInt n);have KJ:=Nw (prog:=prog) (w:=w) P;unfold setAddHashed setAddHashedIn;refine gn (aj (jH S.ob rfl S.fit ?_));dsimp only;rw[byScan_of (knd:=intKind prog w) (x:=.int n tk) rfl (by unfold scanBound;omega) KJ];simp only[↓reduceIte];unfold setAddByScan;refine aj ?_;refine aj (wpAny_rule ?_);refine aj (wpAny_setScan_of (knd:=intKind prog w) (k:=n) (pX _ _ _ _) S.ob rfl S.fit KJ ?_);by_cases hn:n∈ns
 .cases hr:List.findIdx? (λe=>(intKind prog w).is n e.2) es.toList with
  |none=>exact absurd hn ((G5 P).mp hr)
  |some j=>
   dsimp only;exact ay (ay (yes hn))
 .rw[(G5 (prog:=prog) (w:=w) P).mpr hn];dsimp only;have vh:t.freeSlot (hashInt n)=some ((gW t N (t.probeStart (hashInt n))).j,false):=by
   unfold SetTable.freeSlot probe;obtain⟨g1,_⟩|⟨m,i,_,_,g3,_⟩:=Eg T.vJ T.HZ (λ_=>hashInt n+1) (hashInt n) N (10*turns t.mask) (t.probeStart (hashInt n)) hN he hm
   .rw[g1];rfl
   .have g3:hashInt n+1=hashInt n:=g3;omega
  obtain⟨oa,t1,Xw,T',f1,f2,f3,f7,HW⟩:∃oa t1,layNew t es (hashInt n) (.int n tk)=(oa,t1,false,false)/\Tb t1 oa/\t1.plain=true/\t1.mask=t.mask/\t1.led=t.led/\oa.size=es.size+1/\oa.toList.Perm ((hashInt n,Value.int n tk)::es.toList):=by
   have T':=T.put (x:=Value.int n tk) he hm;generalize hJ:(gW t N (t.probeStart (hashInt n))).j=J at*;have fp:(t.put J).1.plain=true/\(t.put J).1.mask=t.mask/\(t.put J).1.led=t.led/\(t.put J).2<=es.size:=by
    rw[QA T.HZ];refine⟨S.plain,rfl,rfl,?_⟩;have:=(fZ T.vJ J).2.2;rw[T.len]at this;exact this
   obtain⟨f1,f2,f3,f4⟩:=fp;have f7:(insertAt es (t.put J).2 (hashInt n,Value.int n tk)).size=es.size+1:=iL es f4 _;have Tr:=T'.fits (by rw[f7,f2];omega);refine⟨insertAt es (t.put J).2 (hashInt n,Value.int n tk),(t.put J).1,?_,T',f1,f2,f3,f7,?_⟩
   .unfold layNew;rw[vh];show((insertAt es (t.put J).2 (hashInt n,Value.int n tk)),SetTable.orStandIn (t.put J).1 (insertAt es (t.put J).2 (hashInt n,Value.int n tk)).size,false,!SetTable.fits (t.put J).1 (insertAt es (t.put J).2 (hashInt n,Value.int n tk)).size)=_;unfold SetTable.orStandIn;rw[ag Tr,Tr];rfl
   .rw[iK es f4];refine perm_middle.trans ?_;rw[sC]
  have P1:Paired V2 ((hashInt n,Value.int n tk)::es.toList) (n::ns):=.cons ⟨tk,rfl⟩ P;have hmk:oa.size<=t1.mask:=by rw[f7,f2];omega
  rw[Xw];dsimp only;refine aj (ay ?_);rw[ag f1];refine aj (ay ?_);rw[ag rfl];have HR:=cG;refine aj (wM S.ob rfl ?_ (by rw[f7,HR];omega));have V0:(s.heap.update a (Obj.putSet oa t1)).get? a=some (gL oa (ep+1) t1):=xQ S.ob;have hsb:=kI s.heap a (Obj.putSet oa t1);have S1:zI w (s.heap.update a (Obj.putSet oa t1)) a oa (ep+1) t1:=⟨V0,T'.fits hmk,T'.vJ,f1,by rw[f3];exact S.led⟩;by_cases tf:t1.tooFull=true
  .rw[ag (by rw[tf];rfl)];have tf2:(es.size+1)*5≥t.mask*3:=by
    unfold tooFull SetTable.fill at tf;rw[T'.HZ,T'.len,f7,f2]at tf;simpa using tf
   obtain⟨M1,M2,M3,M4⟩:=zL T.X7 room tf2 hlen;obtain⟨t2,ord,L1,Zg,L3,L4,L5,L6,L7⟩:=Ls (finger:=t1.finger) (moves:=t1.movedTo (sizeAbove (grown (es.size+1))-1)) (led:=t1.led) (plain:=t1.plain) M1 oa (by rw[f7];exact M4);have G0:(ord.filterMap (oa[·]?)).size=oa.size:=by
    have:=Zg.length_eq;rw[cN,cN]at this;exact this
   have Uw:(ord.filterMap (oa[·]?)).size<=t2.mask:=by rw[G0,f7,L4];exact M4
   have A9:relayAll t1 oa (grown oa.size)=(ord.filterMap (oa[·]?),t2,false):=by
    unfold relayAll;rw[f7,show t1.relaid (oa.map (·.1)) (grown (es.size+1))=some (t2,ord)from L1];dsimp only;have hc:coversAll ord (es.size+1)=true:=by
     unfold coversAll;rw[isPerm_iff,<-f7];exact L7
    rw[hc,L3.fits Uw];rfl
   rw[A9];dsimp only;generalize adU:ord.filterMap (oa[·]?)=es2 at*;refine aj (ay ?_);refine aj (wM V0 rfl ?_ (by rw[G0,f7,HR];omega));refine ay ?_;obtain⟨ji,q1,q2⟩:=fq (HW.symm.trans Zg.symm) P1;dsimp only;refine ay (no hn _ es2 (ep+1+1) t2 ji (hsb.trans (kI ..)) ⟨xQ V0,L3.fits Uw,L3.vJ,by rw[L6];exact f1,by rw[L5,f3];exact S.led⟩ L3 q1 q2 ?_);rw[G0,f7,L4];exact M3
  .rw[af ‹tf›];refine ay ?_;obtain⟨ji,q1,q2⟩:=fq HW.symm P1;dsimp only;refine ay (no hn _ oa (ep+1) t1 ji hsb S1 T' q1 q2 ?_);unfold tooFull SetTable.fill at tf;rw[T'.HZ,T'.len]at tf;simp only[Array.size_empty,Nat.add_zero,decide_eq_true_eq]at tf;omega
structure LI(w:World)(h0:Heap)(l:Addr)(items:Array Value)(nn:List Int)(S:Addr)(i:Nat)(hp:Heap)(es:Array (Int×Value))(ep:Nat)(t:SetTable)(ns:List Int):Prop where
 li:hp.IsList l items
 fr:∀b o,h0.get? b=some o->hp.get? b=some o
 sa:zI w hp S es ep t
 tb:Tb t es
 pr:Paired V2 es.toList ns
 nd:ns.Nodup
 mem:∀k,k∈ns↔k∈nn.take i
 room:es.size*5<t.mask*3
def LI.but{S:Addr}(L:LI w h0 l items nn S i hp es ep t ns)(hI:h0.get? I=none)(hl:l≠I)(hS:S≠I)(f:∀b o,b≠I->hp.get? b=some o->h'.get? b=some o):LI w h0 l items nn S i h' es ep t ns:=
 ⟨L.li.at λo e=>f l o hl e,λb o e=>f b o (λz=>by rw[z,hI]at e;cases e) (L.fr b o e),L.sa.keep λo e=>f S o hS e,L.tb,L.pr,L.nd,L.mem,L.room⟩
def Ek(hh:A.handled=none)(hl:s.heap.IsList l items)(hi:IntsAre items.toList nn)(hb:nn.length<2100)(h:∀h' tk es ep t ns,zI w h' s.heap.objs.size es ep t->Paired V2 es.toList ns->ns.Nodup->(∀k,k∈ns↔k∈nn)->(∀b o,s.heap.get? b=some o->h'.get? b=some o)->Q (.ref s.heap.objs.size) {s with heap:=h',toks:=tk}):
  wpAny (model prog w) A (call (.type "set") [.ref l]) Q E s:=by
 have dR:l<s.heap.objs.size:=by obtain⟨o,ho,_⟩:=hl;exact aN ho
 have hlen:nn.length=items.size:=by
  have:=hi.length;rw[cN]at this;exact this.symm
 have X9:s.heap.get? (s.heap.objs.size+1)=none:=by
  cases e:s.heap.get? (s.heap.objs.size+1)with
  |none=>rfl|some o=>exact absurd (aN e) (Nat.not_lt.mpr (pS _))
 have nl:l≠s.heap.objs.size+1:=bB (mj dR);have ns0:s.heap.objs.size≠s.heap.objs.size+1:=bB (kK _);have hh3:A.in1.in1.in1.handled=none:=by simp[hh]
 have W:=Walks.list (prog:=prog) (w:=w) (A:=A.in1.in1.in1) hh3 (s.heap.objs.size+1) l nl items;refine G3 (J:=λi s'=>∃hp tk es ep t ns,s'= {s with heap:=hp,toks:=tk}/\hp.IsListIter (s.heap.objs.size+1) l i/\LI w s.heap l items nn s.heap.objs.size i hp es ep t ns)
  (Jm:=λi v s'=>∃hp tk es ep t ns,s'= {s with heap:=hp,toks:=tk}/\items[i]?=some v/\hp.IsListIter (s.heap.objs.size+1) l (i+1)/\LI w s.heap l items nn s.heap.objs.size i hp es ep t ns)
  (Jd:=λs'=>∃hp tk es ep t ns,s'= {s with heap:=hp,toks:=tk}/\LI w s.heap l items nn s.heap.objs.size items.size hp es ep t ns) hl ?_ ?_ ?_ ?_ ?_
 .rintro i s' Q E Um ⟨hp,tk,es,ep,t,ns,rfl,it,L⟩ k;refine W.item i _ Q E Um ⟨it,L.li⟩ λv h' Sj hv st f=>?_;exact k v _ ⟨h',Sj,es,ep,t,ns,rfl,hv,st.1,L.but X9 nl ns0 λb o hb e=>f b o ‹hb› e⟩
 .rintro i v s' Q E Um ⟨hp,tk,es,ep,t,ns,rfl,hv,it,L⟩ k;obtain⟨u,rfl⟩:=hi.int_at i v (by rw[dv];exact hv);have hk:nn[i]?=some (nn.getD i 0):=by
   rw[cT,bt ()];rfl
  generalize nn.getD i 0=n at*;have CD:nn.take (i+1)=nn.take i++ [n]:=by
   rw[take_succ,hk];rfl
  have f7:es.size=ns.length:=by
   have:=L2.Paired.eQ L.pr;rw[cN]at this;exact this
  have hle:ns.length<=nn.length:=by
   refine aX (tU L.nd λx hx=>(L.mem x).mp hx) ?_;rw[cP];exact mn _ _
  unfold setAdd;refine gn (aj ((intKind prog w).pyHash (k:=n) (pX _ _ _ _) ?_));refine add_int (s:= {s with heap:=hp,toks:=tk+1}) L.sa L.tb L.pr L.room () (λlZ=>?_) λX_ h' AJ Mu t' ji sb S' T' P' pm QJ=>?_
  .refine k false _ ⟨hp,_,es,ep,t,ns,rfl,it,⟨L.li,L.fr,L.sa,L.tb,L.pr,L.nd,λx=>?_,L.room⟩⟩;rw[L.mem,CD,jo,sJ];exact⟨.inl,λz=>z.elim id λe=>e▸(L.mem n).mp lZ⟩
  .have f:∀b o,b≠s.heap.objs.size->hp.get? b=some o->h'.get? b=some o:=λb o hb e=>sb.extBut b o hb e;refine k true _ ⟨h',_,AJ,Mu,t',ji,rfl,it.at λo e=>f _ o ns0.symm e,⟨L.li.at λo e=>f l o (bB dR) e,λb o e=>f b o (bB (aN e)) (L.fr b o e),S',T',P',?_,λx=>?_,QJ⟩⟩
   .exact pm.nodup_iff.mpr (nodup_cons.mpr ⟨X_,L.nd⟩)
   .rw[pm.mem_iff,CD,sf,jo,L.mem,sJ];exact or_comm
 .rintro s' Q E ⟨hp,tk,es,ep,t,ns,rfl,it,L⟩ k;refine W.done _ Q E ⟨it,L.li⟩ λh' Sj f=>?_;exact k _ ⟨h',Sj,es,ep,t,ns,rfl,L.but X9 nl ns0 λb o hb e=>f b o ‹hb› e⟩
 .have fit:(SetTable.fresh 0 0 (!cX w)).fits (#[]:Array (Int×Value)).size=true:=rfl;have vJ:Ee (#[]:Array Nat):=⟨λi j a b _ h=>by simp at h⟩;have e1:(s.heap.push (gL #[] 0 (SetTable.fresh 0 0 (!cX w)))).objs.size=s.heap.objs.size+1:=dW ..;refine⟨_,s.toks, #[],0,.fresh 0 0 (!cX w),[],rfl,?_,⟨(hl.push _).push _,λb o e=>bQ _ (bQ _ e),⟨bQ _ (bw _ rfl),fit,vJ,rfl,rfl⟩,⟨.inl rfl,vJ,rfl,rfl,λi e h=>by simp at h⟩,.nil,nodup_nil,λx=>by simp,by show 0*5<7*3;decide⟩⟩;rw[<-e1];exact⟨_,bw _ rfl,rfl,rfl⟩
 .rintro s' ⟨hp,tk,es,ep,t,ns,rfl,L⟩;refine h hp tk es ep t ns L.sa L.pr L.nd (λx=>?_) L.fr;rw[L.mem,<-hlen,et]
end
noncomputable def V3:Nat->Bool:=λ_=>false
theorem QK:∀a b:List Int,PyProof.Rows.lexLt PyProof.Rows.itemOrd (a.map Sum.inl) (b.map Sum.inl)=HT.lexLt a b
 |[],[]=>rfl|[],_::_=>rfl
 |_::_,[]=>rfl
 |x::a,y::b=>by
  rw[aI,aI,PyProof.Rows.lex_cons,QK a b,HT.ic];show(decide (x<y)||(!decide (y<x)&&HT.lexLt a b))=_;by_cases c:x=y
  .subst c;simp
  .rw[af c];by_cases d:x<y
   .simp[d]
   .have:y<x:=by omega
    simp[d,this]
theorem Lv:∀a b:List Int,HT.lexLt b a=false->a≠b->HT.lexLt a b=true
 |[],[],_,h=>absurd rfl h|[],_::_,_,_=>rfl
 |_::_,[],h,_=>by cases h
 |x::a,y::b,h,gU=>by
  rw[HT.ic]at h⊢;by_cases c:x=y
  .subst c;rw[ag rfl]at h⊢;exact Lv a b h λe=>gU (by rw[e])
  .rw[af (c6 c)]at h;rw[af c];have:¬y<x:=by simpa using h
   simp;omega
section
def Bd(h:ItemsAre (intKind prog w) k vs):∀i,PyProof.Rows.tupItems V3 i vs=some (k.map Sum.inl):=by
 induction h with
 |nil=>intro i;rfl
 |@cons n v ks vs h1 _ ih=>
  intro i;obtain⟨t,e⟩:=wG (v:=v) h1;subst e;show(if V3 i=true then none else(PyProof.Rows.tupItems V3 (i+1) vs).map (Sum.inl n::·))=_;rw[ih];rfl
def TR(prog:Program)(w:World)(h:Heap)(v:Value)(k:List Int):Prop:=∃p,v=.ref p/\oQ prog w h k p
def TR.key{v:Value}(x:TR prog w h v k):G.tupKeyC h V3 v=some (k.map Sum.inl):=by
 obtain⟨p,rfl,o,aR,n,ho,hc,hd,hi⟩:=x;exact G.tupKeyC_of ho hc hd (Bd hi 0)
theorem Lw:∀{vs}{ks},Paired (TR prog w h) vs ks->(∀k∈ks,k≠ [])->∃fs,PyProof.Rows.TupsOf h V3 vs fs
 |_,_,.nil,_=>⟨[],.nil⟩
 |_,_,.cons r t,ne=>by
  obtain⟨fs,hf⟩:=Lw t λk hk=>ne k (by simp[hk]);obtain⟨p,rfl,o,aR,n,ho,hc,hd,hi⟩:=r;have h0:=ne _ (b8 ..);obtain⟨xs,rfl⟩:∃l,aR=List.toArray l:=⟨aR.toList,by simp⟩;cases hi with
  |nil=>exact absurd rfl h0
  |@cons a v' qI vs' h1 _=>
   obtain⟨t',e⟩:=wG (k:=a) h1;exact⟨v'::fs,.cons ⟨p,o,_,n,rfl,ho,hc,hd,rfl,λ_=>⟨a,t',e⟩,λz=>by cases z⟩ hf⟩
def G6{γ:Type}{F:α->γ->Prop}{G:β->γ->Prop}{f:α->β}:∀{l}{ks},Paired F l ks->(∀a k,F a k->G (f a) k)->Paired G (l.map f) ks:=by
 intro l ks h f
 induction h with
 |nil=>exact .nil|cons r t ih=>exact .cons (f _ _ r) ih
def QL{F G:α->β->Prop}:∀{l}{m},Paired F l m->(∀a∈l,∀b,F a b->G a b)->Paired G l m:=by
 intro l m h
 induction h with
 |nil=>intro _;exact .nil|cons r t ih=>intro f;exact .cons (f _ (b8 ..) _ r) (ih λa ha=>f a (bI _ ha))
def El{P:Fin->Shared->Prop}(ho:s.heap.get? a=some (seqObj "list" vs.toArray n))(hp:Paired (TR prog w s.heap) vs ks)(ne:∀k∈ks,k≠ [])(hL:vs.length<=sizeLine)(h:∀out qI,out.toList.Perm vs->Paired (TR prog w s.heap) out.toList qI->qI.Perm ks->qI.Pairwise (λx y=>HT.lexLt y x=false)->P (.done (.ret .none)) {s with heap:=sortedHeap s.heap a vs out}):
  wpAny (model prog w) A (Builtin.«list.sort» ⟨[.ref a],[]⟩) P E s:=by
 obtain⟨fs,hf⟩:=Lw hp ne;have hk:∀v,v∈vs->∃l,G.tupKeyC s.heap V3 v=some l:=λv hv=>by
  obtain⟨i,hi⟩:=mem_iff_getElem?.mp hv;obtain⟨k,_,r⟩:=L2.Paired.at' hp hi;exact⟨_,r.key⟩
 refine G.list_sort_tups ho hf hk hL λBw pm so _=>?_;have adW:∀p∈(arrOf Bw).toList,p.1=p.2/\p.1∈vs:=λp hp'=>by
  have:=(Array.perm_iff_toList_perm.mp pm).mem_iff.mp hp';rw[pairsOf_toList]at this;obtain⟨i,hi⟩:=mem_iff_getElem?.mp this;rw[uk]at hi;exact⟨Option.some.inj (hi.1.symm.trans hi.2),bg hi.1⟩
 have pv:((arrOf Bw).map (·.2)).toList.Perm vs:=by
  rw[wR];have:=(Array.perm_iff_toList_perm.mp pm).map (·.2);rw[pairsOf_toList]at this;refine this.trans (List.Perm.of_eq ?_);exact map_snd_zip (aL _)
 obtain⟨qI,q1,q2⟩:=fq pv.symm hp;refine h _ qI pv q1 q2 ?_;rw[pairwise_iff_getElem];intro i j hi hj hij;have hl:=L2.Paired.eQ q1;rw[wR,az,cN]at hl;have key:∀i (hi:i<qI.length),KK (G.tupKindC s.heap V3) (arrOf Bw) i=(qI[i].map Sum.inl:List (Int⊕List Nat)):=λi hi=>by
  obtain⟨v,hv,r⟩:=L2.Paired.Kp q1 (bt hi);rw[wR,aZ,dv]at hv;cases e:(arrOf Bw)[i]? with
  |none=>rw[e]at hv;cases hv
  |some p=>
   rw[e]at hv;have hv:p.2=v:=Option.some.inj hv;have HS:=(adW p (by exact bg (by rw[dv];exact e))).1;unfold KK;rw[e];show(G.tupKeyC s.heap V3 p.1).getD []=_;rw[HS,hv,r.key];rfl
 have hs:=so i j (iD hij) (by rw[pairsOf_size,<-pv.length_eq,wR,az,cN];omega);rw[key i hi,key j hj]at hs;have hs:PyProof.Rows.lexLt PyProof.Rows.itemOrd (qI[j].map Sum.inl) (qI[i].map Sum.inl)=false:=hs;rw[QK]at hs;exact hs
def G7(hh:A.handled=none)(S:zI w s.heap a es ep t)(hp:Paired (Sl prog w s.heap) es.toList ks)(nd:ks.Nodup)(ne:∀k∈ks,k≠ [])(hn:es.size<=sizeLine)(h:∀(D:Addr) hp tk out ep qI,s.heap.objs.size<=D->(∀b o,s.heap.get? b=some o->hp.get? b=some o)->hp.get? D=some (seqObj "list" out ep)->Paired (TR prog w s.heap) out.toList qI->qI.Perm ks->qI.Pairwise (λx y=>HT.lexLt x y=true)->
   (∀v∈out.toList,∃e∈es.toList,v=e.2)->Q (.ref D) {s with heap:=hp,toks:=tk}):
  wpAny (model prog w) A (call (.builtin "sorted") [.ref a]) Q E s:=by
 refine Calls.call_function_entry kind_sorted plain_sorted entry_sorted (args_sorted1 _) ?_;refine aj (ay (aj (L2.vG (A:=A.in1) (Lq a es ep t) hh S hn λhq tk us lt hk it=>?_)));have hl:us.toList.length=es.size:=by rw[cN];exact it.1
 have hus:us.toList=(tR w a ep es).toList.map (·.2):=by
  refine pQ λi=>?_;rw[aZ,dv,dv];cases e:us[i]? with
  |none=>
   have h1:=Array.getElem?_eq_none_iff.mp e;have h2:=(gg w a ep es).length_eq;rw[cN,cN]at h2;rw[cN]at hl;rw[qX ()];rfl
  |some v=>
   obtain⟨e2,h1,h2⟩:=it.2 i v e;rw[h1,h2];rfl
 obtain⟨k2,q1,q2⟩:=fq (gg w a ep es).symm hp;have pT:Paired (TR prog w s.heap) us.toList k2:=by
  rw[hus];exact G6 q1 λe k ⟨p,e1,tp⟩=>⟨p,by rw[e1],tp⟩
 refine aj (w9 ?_ (by rw[hl];exact hn));have Oh:(hq.push (seqObj "list" us.toList.toArray 0)).get? hq.objs.size=some (seqObj "list" us.toList.toArray 0):=bw _ rfl;have kp:∀b o,s.heap.get? b=some o->(hq.push (seqObj "list" us.toList.toArray 0)).get? b=some o:=λb o e=>bQ _ (hk b o e);have pT':Paired (TR prog w (hq.push (seqObj "list" us.toList.toArray 0))) us.toList k2:=L2.Paired.fU pT λv k ⟨p,e1,tp⟩=>⟨p,e1,tp.keep λo e _=>kp p o e⟩;refine aj (gn (g_ slot_list_sort ⟨_,Oh,rfl⟩ entry_list_sort (El Oh pT' (λk qf=>ne k (q2.mem_iff.mp qf)) (by rw[hl];exact hn) λout qI a0 a1 a2 a3=>⟨_,rfl,ay ⟨_,rfl,?_⟩⟩) (args_list_sort _)));obtain⟨Ya,F6⟩:=PyProof.Rows.sortedHeap_at (out:=out) Oh;have hD:=iD lt;have inj:∀v k,TR prog w (hq.push (seqObj "list" us.toList.toArray 0)) v k->v∈us.toList->TR prog w s.heap v k:=λv k ⟨p,e1,tp⟩ hv=>by
  obtain⟨i,hi⟩:=mem_iff_getElem?.mp hv;obtain⟨k0,_,p0,e0,tp0⟩:=L2.Paired.at' pT hi;have e2:p0=p:=by rw[e1]at e0;injection e0 with e0;exact e0.symm
  subst e2;have:=(tp0.keep λo e _=>kp p0 o e).inj tp;subst this;exact⟨p0,e1,tp0⟩
 have zq:∀v∈out.toList,v∈us.toList:=λv hv=>a0.mem_iff.mp hv;refine h hq.objs.size _ tk out Ya qI hD (λb o e=>?_) F6 ?_ (a2.trans q2) ?_ λv hv=>?_
 .have hb:=aN (hk _ _ e);rw[PyProof.Rows.sortedHeap_old (bB hb) (by rw[dW];exact mj hb)];exact kp b o e
 .exact QL a1 λv hv k r=>inj v k r (zq v hv)
 .refine List.Pairwise.imp_of_mem ?_ (a3.and (a2.trans q2|>.nodup_iff.mpr nd));intro x y _ _ ⟨r1,r2⟩;exact Lv x y r1 r2
 .have:=zq v hv;rw[hus]at this;obtain⟨e,he1,he2⟩:=mem_map.mp this;exact⟨e,(gg w a ep es).mem_iff.mp he1,he2.symm⟩
def G8(hh:A.handled=none)(S:zI w s.heap a es ep t)(hp:Paired V2 es.toList ns)(nd:ns.Nodup)(hn:es.size<=sizeLine)(h:∀(D:Addr) hp tk out ep ji,s.heap.objs.size<=D->(∀b o,s.heap.get? b=some o->hp.get? b=some o)->hp.get? D=some (seqObj "list" out ep)->IntsAre out.toList ji->ji.Perm ns->ji.Pairwise (·<·)->Q (.ref D) {s with heap:=hp,toks:=tk}):
  wpAny (model prog w) A (call (.builtin "sorted") [.ref a]) Q E s:=by
 obtain⟨n2,q1,q2⟩:=fq (gg w a ep es).symm hp;refine L2.zp (Lq a es ep t) hh S hn (ns:=n2) (λvs hl hv=>?_) λD hq tk out Ya ji h1 h2 h3 h4 h5 h6=>?_
 .have hlen:=L2.Paired.eQ q1;have f7:=(gg w a ep es).length_eq;rw[cN]at hlen f7;rw[cN]at f7;refine L2.tN () λj v n e1 e2=>?_;obtain⟨e,he,rfl⟩:=hv j v e1;obtain⟨m,hm,u,rfl⟩:=L2.Paired.at' q1 (by rw[dv];exact he);rw[e2]at hm;cases hm;exact L2.Bu n u
 .refine h D hq tk out Ya ji h1 h2 h3 h4 (h5.trans q2) ?_;refine List.Pairwise.imp_of_mem (R:=λx y=>x<=y/\x≠y) ?_ (h6.and ((h5.trans q2).nodup_iff.mpr nd));intro x y _ _ ⟨r1,r2⟩;omega
end
end Pd
end
section
namespace L2
open PySem PySem.Spec PyProof.Rows
def CF:bootBuiltins "set"=some (.type "set"):=by decide+kernel
def tV:bootBuiltins "sorted"=some (.builtin "sorted"):=by decide+kernel
def aaY(K:PySem.W.Frag)(ta:TA):TE:=λσ H Q=>ta σ H λvs H1=>∃(a:Addr) (ns:List Int),vs=[.ref a]/\aM K H1 a (ns.map V.int)/\ns.length<2100/\
 ∀(out:List Int)(p:Addr),(∀x,x∈out↔x∈ns)->out.Pairwise (·<·)->H1 p=none->Q (.ref p) (upd H1 p (.lst (out.map V.int)))
def aaZ(K:PySem.W.Frag)(ta:TA):TE:=λσ H Q=>ta σ H λvs H1=>∃(a:Addr) (xs:List (Addr×List Int)),vs=[.ref a]/\aM K H1 a (xs.map λx=>V.ref x.1)/\(∀x∈xs,jM K H1 x.1 (x.2.map V.int)/\x.2≠ [])/\
 (∀ks:List (List Int),ks.Nodup->(∀k∈ks,k∈xs.map (·.2))->ks.length<2100)/\
 ∀(out:List (Addr×List Int))(p:Addr),(∀x∈out,jM K H1 x.1 (x.2.map V.int))->(∀k,k∈out.map (·.2)↔k∈xs.map (·.2))->(out.map (·.2)).Pairwise (λa b=>HT.lexLt a b=true)->H1 p=none->Q (.ref p) (upd H1 p (.lst (out.map λx=>V.ref x.1)))
section
variable {ta:TA} {p p2 n_:Pos}
def Yb(zo:X.calm=true)(hg1:Gl X "sorted")(hm1:X.mg "sorted"=none)(hg2:Gl X "set")(P6:X.mg "set"=none)(ha:PA X [e] ta)(hs:starEach [e] X.env=(false,eval e X.env)::starEach [] X.env:=by rfl)(iG:(backTo n_ (starEach [] X.env)).any (·.1)=false:=by rfl)(X3:starEach [.Call (.Name "set" p2) [e] [] n_] X.env=(false,eval (.Call (.Name "set" p2) [e] [] n_) X.env)::starEach [] X.env:=by rfl)(hpd:(backTo pos (starEach [] X.env)).any (·.1)=false:=by rfl):
  PE X (.Call (.Name "sorted" p) [.Call (.Name "set" p2) [e] [] n_] [] pos) (aaY X.K ta):=by
 intro pins s σ H Q I h;refine jE (gq I hg1 hm1 tV ?_);refine PyProof.Rows.callWith_builtin1 ?_ X3 hpd;refine me ?_;refine jE (gq I hg2 P6 CF ?_);refine jD (cJ (ha n_ pins s σ H _ I h) λus s1 WT=>?_) hs iG;obtain⟨vs,H1,I1,r1,q1⟩:=WT;obtain⟨a,ns,ex,hq,hlen,q⟩:=q1;subst ex;rw[Vals.Ts r1];obtain⟨aR,rv,p1,z1⟩:=I1.list hq;have hi:=rv.ints;have hh:=I1.ok.hd zo;refine Pd.Ek hh p1.isList ‹hi› hlen λh' tk es ep t n2 S pr nd mem fr=>q_ ?_;have hle:es.size<=sizeLine:=by
  have h1:=L2.Paired.eQ pr;rw[cN]at h1;have h2:=Pd.tU nd λx hx=>(mem x).mp hx;rw[h1,cG];omega
 refine Pd.G8 hh S pr nd hle λD Sn tk2 out Ya n3 hD keep ho Ub pm up=>?_;have hs1:=aX (iD (aN S.ob)) hD;have hl3:(n3.map V.int).length<=sizeLine:=by
  rw[az,pm.length_eq,<-L2.Paired.eQ pr,cN];exact hle
 exact⟨.ref D,upd H1 D (.lst (n3.map V.int)),I1.laid (λb u eu=>keep b u (fr b u eu)) hs1 ⟨hl3,out.toList,Ya,jq Ub,‹ho›⟩,rfl,q n3 D (λx=>(pm.mem_iff).trans (mem x)) up (I1.bL.fresh hs1)⟩
theorem qR:∀{k}{aR},Vals (k.map V.int) aR->ItemsAre (intKind P w) k aR
 |[],_,.nil=>.nil
 |n::k,_,.cons r t=>by
  obtain⟨u,e⟩:=r;subst e;exact .cons (pX _ _ _ _) (qR t)
def Yc(hu:X.A.units+10<cLine)(zo:X.calm=true)(hg1:Gl X "sorted")(hm1:X.mg "sorted"=none)(hg2:Gl X "set")(P6:X.mg "set"=none)(ha:PA X [e] ta)(hs:starEach [e] X.env=(false,eval e X.env)::starEach [] X.env:=by rfl)(iG:(backTo n_ (starEach [] X.env)).any (·.1)=false:=by rfl)(X3:starEach [.Call (.Name "set" p2) [e] [] n_] X.env=(false,eval (.Call (.Name "set" p2) [e] [] n_) X.env)::starEach [] X.env:=by rfl)(hpd:(backTo pos (starEach [] X.env)).any (·.1)=false:=by rfl):
  PE X (.Call (.Name "sorted" p) [.Call (.Name "set" p2) [e] [] n_] [] pos) (aaZ X.K ta):=by
 intro pins s σ H Q I h;refine jE (gq I hg1 hm1 tV ?_);refine PyProof.Rows.callWith_builtin1 ?_ X3 hpd;rw[X3];show wpAny _ _ (spliced ((false,eval (.Call (.Name "set" p2) [e] [] n_) X.env)::backTo pos (starEach [] X.env))) _ _ s;refine me ?_;refine jE (gq I hg2 P6 CF ?_);refine jD (cJ (ha n_ pins s σ H _ I h) λus s1 adX=>?_) hs iG;obtain⟨vs,H1,I1,r1,q1⟩:=adX;obtain⟨a,xs,ex,hq,hT,hb,q⟩:=q1;subst ex;rw[Vals.Ts r1];obtain⟨aR,rv,p1,z1⟩:=I1.list hq;have hh:=I1.ok.hd zo;have tk0:∀x∈xs,Pd.oQ X.prog X.w s1.heap x.2 x.1:=λx hx=>by
  obtain⟨ti,rt,⟨o,ho,hc,n,hd⟩,_⟩:=I1.tuple (hT x hx).1;exact⟨o,_,n,ho,hc,hd,qR ‹rt›⟩
 have prs:∀{xs:List (Addr×List Int)}{aR:List Value},(∀x∈xs,Pd.oQ X.prog X.w s1.heap x.2 x.1)->Vals (xs.map λx=>V.ref x.1) aR->Paired (λv k=>∃p,v=Value.ref p/\Pd.oQ X.prog X.w s1.heap k p) aR (xs.map (·.2))/\aR=xs.map λx=>Value.ref x.1:=by
  intro xs
  induction xs with
  |nil=>intro aR _ r;cases r;exact⟨.nil,rfl⟩
  |cons x xs ih=>
   intro aR ht r;cases r with
   |cons r t=>
    obtain⟨h1,h2⟩:=ih (λy hy=>ht y (bI _ hy)) t;have e:_=Value.ref x.1:=r;subst e;exact⟨.cons ⟨x.1,rfl,ht x (b8 ..)⟩ h1,by rw[h2];rfl⟩
 obtain⟨Lg,hits⟩:=prs tk0 rv;refine Pd.Ej (items:=aR.toArray) hh hu p1.isList ‹Lg› hb λh' tk es ep t k2 S pr nd mem src fr=>q_ ?_;have zl:es.size=k2.length:=by
  have h1:=L2.Paired.eQ pr;rw[cN]at h1;exact h1
 have dR:=hb k2 nd λk hk=>(mem k).mp hk;have hle:es.size<=sizeLine:=by rw[zl,cG];omega
 have ne:∀k∈k2,k≠ []:=λk hk=>by
  obtain⟨x,hx,e⟩:=mem_map.mp ((mem k).mp hk);rw[<-e];exact(hT x hx).2
 refine Pd.G7 (s:= {s1 with heap:=h',toks:=tk}) hh S pr nd ne hle λD Sn tk2 out Ya k3 hD keep ho tr pm up adY=>?_;have hs1:s1.heap.objs.size<=D:=aX (iD (aN S.ob)) hD;have kk:∀b u,s1.heap.get? b=some u->Sn.get? b=some u:=λb u eu=>keep b u (fr b u eu);obtain⟨outs,e1,e2,zq⟩:∃outs:List (Addr×List Int),outs.map (·.2)=k3/\out.toList=outs.map (λx=>Value.ref x.1)/\∀x∈outs,jM X.K H1 x.1 (x.2.map V.int):=by
  have go:∀{vs:List Value}{ks:List (List Int)},Paired (Pd.TR X.prog X.w h') vs ks->(∀v∈vs,∃e∈es.toList,v=e.2)->∃outs:List (Addr×List Int),outs.map (·.2)=ks/\vs=outs.map (λx=>Value.ref x.1)/\∀x∈outs,jM X.K H1 x.1 (x.2.map V.int):=by
   intro vs ks hp
   induction hp with
   |nil=>intro _;exact⟨[],rfl,rfl,λx hx=>by cases hx⟩
   |@cons v k vs ks r _ ih=>
    intro hs;obtain⟨os,f1,f2,f3⟩:=ih λv hv=>hs v (bI _ hv);obtain⟨pa,rfl,tp⟩:=r;obtain⟨ee,he,hv⟩:=hs _ (b8 ..);have hm:=src ee he;rw[<-hv]at hm;have hm:Value.ref pa∈aR:=‹hm›
    rw[hits]at hm;obtain⟨x,hx,hxe⟩:=mem_map.mp hm;have hxe:x.1=pa:=by injection hxe
    have hk:x.2=k:=by
     have h1:=tk0 x hx;rw[hxe]at h1;exact(h1.keep λo e _=>fr pa o e).inj tp
    refine⟨(pa,k)::os,by rw[aI,f1],by rw[aI,f2],λy hy=>?_⟩;obtain z|z:=mem_cons.mp hy
    .rw[z];show jM X.K H1 pa (k.map V.int);rw[<-hk,<-hxe];exact(hT x hx).1
    .exact f3 y z
  exact go tr adY
 have hl3:(outs.map λx=>V.ref x.1).length<=sizeLine:=by
  have h1:=pm.length_eq;rw[<-e1,az]at h1;rw[az,h1,<-zl];exact hle
 have vo:Vals (outs.map λx=>V.ref x.1) out.toList:=by
  rw[e2];have:∀l:List (Addr×List Int),Vals (l.map λx=>V.ref x.1) (l.map λx=>Value.ref x.1):=λl=>by
   induction l with
   |nil=>exact .nil|cons x l ih=>exact .cons rfl ih
  exact this outs
 refine⟨.ref D,upd H1 D (.lst (outs.map λx=>V.ref x.1)),I1.laid (t':=tk2) kk hs1 ⟨hl3,out.toList,Ya,vo,‹ho›⟩,rfl,q outs D zq (λk=>?_) ?_ (I1.bL.fresh hs1)⟩
 .rw[e1,pm.mem_iff];exact mem k
 .rw[e1];exact up
end
end L2
end
section
namespace L2
open PySem PySem.Spec PyProof.Rows
open AutoSeq1 (wpAny_loadPart')
def wc l items n dct sl:
  Meets (Builtin.«enumerate.__new__» ⟨[.type "enumerate",.ref l],[]⟩) (λ_ R s=>s.heap.get? l=some {cls:=.type "tuple",dict:=dct,data:=.seq items n,slots:=sl}/\
   R (.ok (.ret (.ref (s.heap.push {cls:=.type "tuple_iterator",data:=.fields #[.ref l,.int 0 0]}).objs.size)))
    {s with heap:=(s.heap.push {cls:=.type "tuple_iterator",data:=.fields #[.ref l,.int 0 0]}).push {cls:=.type "enumerate",data:=.fields #[.none,.bool false,.ref s.heap.objs.size,rawInt 0,.none,.none]}}):=
 .of_wp λprog w A R s h=>by
  obtain⟨hp,g,d,tk,os⟩:=s;obtain⟨hl,h⟩:=h;have qJ:=sub_enumerate;have hL:Heap.IsTuple (Shared.heap ⟨hp,g,d,tk,os⟩) l items:=⟨_,hl,rfl,n,rfl⟩
  wp_walk using pF hl
  refine wpAny_stack_any λst=>ay ?_;split
  .rename_i c _ _ _ _ _;cases(c==Value.type "enumerate")
   .wp_walk using pF hl,wpAny_pyIter_tuple hL
    exact⟨_,rfl,h⟩
   .wp_walk using pF hl,wpAny_pyIter_tuple hL
    exact⟨_,rfl,h⟩
  .wp_walk using pF hl,wpAny_pyIter_tuple hL
   exact⟨_,rfl,h⟩
section
def Be(hL:s.heap.IsTuple l items)(h:∀h',IsEnum h' (s.heap.objs.size+1) s.heap.objs.size 0 .none->h'.IsTupleIter s.heap.objs.size l 0->h'.objs.size=s.heap.objs.size+2->
   (∀b o,s.heap.get? b=some o->h'.get? b=some o)->Q (.ref (s.heap.objs.size+1)) {s with heap:=h'}):
  wpAny (model prog w) A (call (.type "enumerate") [.ref l]) Q E s:=by
 obtain⟨⟨c,dct,dt,sl⟩,hl,hc,n,hd⟩:=hL;subst hc hd;refine callType_new PySem.F.called_enumerate ⋯ (PySem.F.typeCall_enumerate_1 _) (PySem.F.newCall_enumerate_1 _) (λobj=>PySem.F.args_object_init_2 obj _) PySem.F.entry_enumerate_new
  (wc l items n dct sl) ⟨hl,?_⟩
 have hz:(s.heap.push {cls:=.type "tuple_iterator",data:=.fields #[.ref l,.int 0 0]}).objs.size=s.heap.objs.size+1:=dW ..;rw[hz];have he:IsEnum ((s.heap.push {cls:=.type "tuple_iterator",data:=.fields #[.ref l,.int 0 0]}).push
   {cls:=.type "enumerate",data:=.fields #[.none,.bool false,.ref s.heap.objs.size,rawInt 0,.none,.none]}) (s.heap.objs.size+1) s.heap.objs.size 0 .none:=by
  have:=bw (s.heap.push {cls:=.type "tuple_iterator",data:=.fields #[.ref l,.int 0 0]})
   (o:= {cls:=.type "enumerate",data:=.fields #[.none,.bool false,.ref s.heap.objs.size,rawInt 0,.none,.none]}) rfl
  rw[hz]at this;exact this
 refine⟨⟨_,he,rfl⟩,h _ he ⟨_,bQ _ (bw _ rfl),rfl,rfl⟩ (by rw[dW,hz]) λb o x=>bQ _ (bQ _ x)⟩
def wd{items}{x:Value}(hit:s.heap.IsTupleIter it l i)(hl:s.heap.IsTuple l items)(hx:items[i]?=some x)(hQ:∀h',h'.IsTupleIter it l (i+1)->Heap.SameBut it s.heap h'->Q x {s with heap:=h'}):wpAny (model prog w) A (Builtin.SmallTypes.nextOf (.ref it)) Q E s:=by
 obtain⟨o,ho,hc,hd⟩:=id hit;obtain⟨ol,V1,_,nl,Zh⟩:=hl;refine aj (qW hit.typeIs C9
  (g_ C9 hit.typeIs PySem.F.entry_tuple_iterator_next ?_ (PySem.F.args_tuple_iterator_next_1 _)))
 show wpAny _ _ (field (.ref it) 0>>=_) _ _ s;refine aj (fG ho hd rfl ?_);refine aj (fG ho hd rfl ?_);refine aj (mx V1 Zh ?_);simp only[Int.toNat_natCast,hx];refine aj (mq ho hd ∅ (ay ⟨x,rfl,ay (hQ _ ?_ (kI ..))⟩));exact⟨_,md _ ho (og (jF hd _)),(wJ ..).trans hc,by
  rw[jF hd];simp[rawInt]⟩
def zM{items}(hh:A.handled=none)(hit:s.heap.IsTupleIter it l i)(hl:s.heap.IsTuple l items)(hx:items[i]?=none)(hE:∀h' e,Heap.ExtBut it s.heap h'->(∃o,h'.get? e=some o/\o.cls=.type "StopIteration")->E (.ref e) {s with heap:=h'}):
  wpAny (model prog w) A (Builtin.SmallTypes.nextOf (.ref it)) Q E s:=by
 obtain⟨o,ho,hc,hd⟩:=id hit;obtain⟨ol,V1,_,nl,Zh⟩:=hl;unfold Builtin.SmallTypes.nextOf;refine aj (qW (name:=Str.ofString "__next__") hit.typeIs C9
  (g_ C9 hit.typeIs PySem.F.entry_tuple_iterator_next ?_ (PySem.F.args_tuple_iterator_next_1 _)))
 show wpAny _ _ (field (.ref it) 0>>=_) _ _ s;refine aj (fG ho hd (x:=.ref l) rfl ?_);show wpAny _ _ (if(Value.ref l==Value.none)=true then _ else _) _ _ s;rw[af (show¬((Value.ref l==Value.none)=true)from b_)];show wpAny _ _ (field (.ref it) 1>>=_) _ _ s;refine aj (fG ho hd (x:=.int i 0) rfl ?_);show wpAny _ _ (seqItems? (.ref l)>>=_) _ _ s;refine aj (mx V1 Zh ?_);simp only[Int.toNat_natCast,hx];refine aj (wpAny_rule (aj (mq ho hd ∅ ?_)));show wpAny _ _ (newExc (.type "StopIteration") [] >>=_) _ _ _;refine aj ?_;delta newExc newTuple;refine aj (jG ?_ (by size_fits));refine aj (m:=firstArgMember _ _) (wpAny_of_eq (a:=Value.none) (by first|rfl|(simp only[firstArgMember];rfl)) ?_);refine jG ?_ (by size_fits);delta raiseNew;refine aj (wpAny_handled ?_)
 first|rw[show A.in1.handled=none from hh]|rw[hh]
 refine aj (ay (sQ ?_));exact hE _ _ (((kI ..).extBut.push _).push _) ⟨_,bw _ rfl,rfl⟩
def CH(hh:A.handled=none) it l (gU:l≠it) items:
  Draws prog w A it [it,l] items.size (λi v=>items[i]?=some v) (λi h=>h.IsTupleIter it l i/\h.IsTuple l items)where
 live:=λ_ _ st=>let⟨o,ho,_⟩:=st.1;⟨o,ho⟩
 frame:=λ_ _ _ st hk=>⟨let⟨o,ho,q⟩:=st.1;⟨o,hk it ∅ o ho,q⟩,let⟨o,ho,q⟩:=st.2;⟨o,hk l ∅ o ho,q⟩⟩
 item:=λi s Q E hi st hQ=>by
  refine wd st.1 st.2 (x:=items[i]) (by simp[hi]) λh' IA HU=>?_;exact hQ _ h' s.toks (by simp[hi]) ⟨IA,st.2.extBut HU.extBut gU⟩ HU
 done:=λs Q E st hE=>zM hh st.1 st.2 ∅ hE
end
noncomputable def Yd(K:PySem.W.Frag)(a:Addr):It:=
 ⟨λi H=>∃(xs:List V) (x:V),jM K H a xs/\xs[i]?=some x,λi H v H'=>∃T x,v=.ref T/\H T=none/\H'=upd H T (.tup [.int (i:Nat),x])/\∀xs,jM K H a xs->xs[i]?=some x,λi H=>∃xs:List V,jM K H a xs/\xs.length=i⟩
def JB a e it (hai:a≠it) (hae:a≠e):
  Turn P w K (.Tuple elts kk C6) (Yd K a) [e,it] e (λi h=>(∃old,IsEnum h e it ((i:Nat):Int) old)/\h.IsTupleIter it a i/\e≠it)where
 mem:=by simp
 obj:=λi h st b hb=>by
  obtain⟨⟨old,he⟩,⟨o,ho,hc,hd⟩,_⟩:=st;have e':b=e\/b=it:=‹hb›
  obtain z|z:=e'
  .rw[z];exact⟨_,he,λv q=>nomatch q⟩
  .rw[z];exact⟨o,ho,λv q=>by rw[hd]at q;cases q⟩
 keep:=λi h h' st k=>let⟨⟨old,he⟩,⟨o,ho,q⟩,gU⟩:=st;⟨⟨old,k e ∅ _ he⟩,⟨o,k it ∅ o ho,q⟩,gU⟩
 item:=by
  intro X hP hw hK hc i pins s σ H E I hf st hg;subst hP hw hK;obtain⟨⟨old,he⟩,hit,gU⟩:=st;obtain⟨xs,x,hq,hx⟩:=hg;obtain⟨aR,rv,p,hz⟩:=I.tuple hq;obtain⟨u,hu,ru⟩:=rv.get hx;have KJ:=aN he;have hil:it<s.heap.objs.size:=by obtain⟨_,q,_⟩:=hit;exact aN q
  have dR:i<aR.toArray.size:=by
   obtain⟨h1,_⟩:=List.getElem?_eq_some_iff.mp hu;simpa using h1
  refine wpAny_pyNext_enum_itemD (CH (by have:=I.ok.hd hc;simp[this]) it a hai aR.toArray) he ⟨hit,p⟩ dR gU (by simp;exact⟨gU,c6 hae⟩) λv h' tk hv ho IA hT f7 hk=>?_;have hv:aR[i]?=some v:=‹hv›
  obtain rfl:u=v:=Option.some.inj (hu.symm.trans hv);refine⟨_,rfl,wpAny_letOwnedTupleGo_enum ho λO9 F6 sb=>?_⟩;have Tz:=(sb.2 _ (jk KJ)).trans hT;have new:dF X.prog X.w (upd H s.heap.objs.size (.tup [.int (i:Nat),x])) O9 s.heap.objs.size (.tup [.int (i:Nat),x]):=
   ⟨by show 2<=sizeLine;decide,[.int i tk,u],.cons ⟨_,rfl⟩ (.cons ru .nil),⟨_,Tz,rfl,_,rfl⟩⟩
  have I1:Inv X pins σ (upd H s.heap.objs.size (.tup [.int (i:Nat),x])) {s with heap:=O9,toks:=tk+1} :=
   I.qh (λb ob hb q=>(sb.2 b (λz=>hb (by simp[z]))).trans (hk b ob (λz=>hb (by simp[z])) (λz=>hb (by simp[z])) q)) hf (aL _) new
  refine⟨.ref s.heap.objs.size,_,I1,rfl,⟨_,x,rfl,I.bL.fresh (aL _),rfl,λys hy=>by rw[I.Mv hy hq];exact hx⟩,⟨⟨u,?_⟩,?_,gU⟩,λb hb=>?_⟩
  .have e1:((i+1:Nat):Int)=(i:Int)+1:=by omega
   rw[e1];exact F6
  .obtain⟨o2,h1,h2⟩:=IA.1;exact⟨o2,(sb.2 it (c6 gU)).trans h1,h2⟩
  .have hb':b<s.heap.objs.size:=by
    have e':b=e\/b=it:=‹hb›
    obtain z|z:=e'
    .rw[z];exact KJ
    .rw[z];exact hil
   rw[aB (bB hb')];exact(hf b hb).1
 done:=by
  intro X hP hw hK hc i pins s σ H E I hf st hg;subst hP hw hK;obtain⟨⟨old,he⟩,hit,gU⟩:=st;obtain⟨xs,hq,hx⟩:=hg;obtain⟨aR,rv,p,hz⟩:=I.tuple hq;obtain⟨f0,f1,f2,f3,f4,f5⟩:=hf it ∅;have hl:=rv.length;have f7:aR.toArray.size=i:=by simp;omega
  exact wpAny_pyNext_enum_endD (CH (by have:=I.ok.hd hc;simp[this]) it a hai aR.toArray) he (by rw[f7];exact⟨hit,p⟩) λh' eb=>⟨rfl,I.turned (t':=s.toks) (λb o hb q=>eb b o hb q) f0 f1 f3 f4 f5⟩
 self:=λA i s Q E st h=>let⟨⟨_,he⟩,_⟩:=st;wI he h
def Ye(K:PySem.W.Frag)(ta:TA):TI:=λσ H R=>ta σ H λvs H1=>∃a xs,vs=[.ref a]/\jM K H1 a xs/\R (Yd K a) H1
def QM{ta:TA}{p pos C6:Pos}{elts:List Expr}{kk:Nat}(hg:Gl X "enumerate")(hm:X.mg "enumerate"=none)(ha:PA X [e] ta)(hs:starEach [e] X.env=[(false,eval e X.env)]:=by rfl):
  PI X (.Tuple elts kk C6) (.Call (.Name "enumerate" p) [e] [] pos) (Ye X.K ta):=by
 intro pins s σ H R I h;refine Call_ (gq I hg hm boot_enumerate (jD (cJ (ha pos pins s σ H _ I h) λus s1 WV=>?_) hs rfl));obtain⟨vs,H1,I1,r1,q1⟩:=WV;obtain⟨a,xs,ex,hq,q⟩:=q1;subst ex;cases r1 with
 |cons r rr=>
  cases rr;cases r;obtain⟨aR,rv,p',hz⟩:=I1.tuple hq;have la:a<s1.heap.objs.size:=by obtain⟨o,ho,_⟩:=p';exact aN ho
  refine Be p' λh' he hit f7 hk=>wI he ?_;have I2:=I1.kept (t':=s1.toks) hk;refine⟨s1.heap.objs.size+1,[s1.heap.objs.size+1,s1.heap.objs.size],_,_,H1,rfl,I2,JB a (s1.heap.objs.size+1) s1.heap.objs.size (bB la) (bB (mj la)),⟨⟨.none,he⟩,hit,Nat.succ_ne_self _⟩,λb hb=>?_,q⟩;have e':b=s1.heap.objs.size+1\/b=s1.heap.objs.size:=‹hb›
  have hle:s1.heap.objs.size<=b:=by
   obtain z|z:=e'
   .rw[z];exact kL _ _
   .rw[z];exact aL _
  exact I1.Di hle (I1.bL.fresh hle)
def tuple_addW0 l b Yf n n2 dd Y3 sl Y4:
  Meets (Builtin.«tuple.__add__» ⟨[.ref l,.ref b],[]⟩) (λ_ R s=>s.heap.get? l=some {cls:=.type "tuple",dict:=dd,data:=.seq #[] n,slots:=sl}/\s.heap.get? b=some {cls:=.type "tuple",dict:=Y3,data:=.seq Yf n2,slots:=Y4}/\R (.ok (.ret (.ref b))) s):=
 .of_wp λprog w A R s h=>by
  obtain⟨hl,hb,h⟩:=h;have f1:=AutoSeq1.idx_int;have f2:=AutoSeq1.sub_tuple_tuple;have f3:=AutoSeq1.sub_list_list;have f4:=AutoSeq1.sub_tuple_list;have f5:=AutoSeq1.sub_list_tuple
  wp_walk using pF hl,pF hb
  exact⟨_,rfl,h⟩
section
def QN{t:Addr}{ws:List Value}(ht:IsTup s.heap t #[])(hb:IsTup s.heap b ws.toArray)(h:Q (.ref b) s):wpAny (model prog w) A (binaryOp .Add (.ref t) (.ref b)) Q E s:=by
 obtain⟨⟨cls,dd,data,sl⟩,ho,hc,n,hd⟩:=id ht;obtain⟨⟨ac5,Y3,data2,Y4⟩,Tj,hc2,n2,hd2⟩:=id hb;subst hc hd hc2 hd2;exact concat_meets ⟨_,ho,rfl⟩ ⟨_,Tj,rfl⟩ noFill_tuple_add seq_tuple_add PySem.F.slot_tuple_add PySem.F.entry_tuple_add (PySem.F.args_tuple_add_2 _ _) (tuple_addW0 t b ws.toArray n n2 dd Y3 sl Y4) ⟨ho,Tj,h⟩
def G9{Q:List Value->Shared->Prop}(hl:IsTup s.heap l vs.toArray)(h:Q vs {s with heap:=(s.heap.push (seqObj "list" #[] 0)).update s.heap.objs.size (Obj.mapSeq (·++vs.toArray))})(f7:vs.length<=sizeLine):
  wpAny (model prog w) A (collect (.ref l)) Q E s:=by
 obtain⟨o,ho,hc,n,hd⟩:=id hl;unfold collect;refine aj (wpAny_runValue (kM entry_proto_collect' ?_));show wpAny _ _ (do again (.builtin "list.__iadd__" ⟨[<-newList [],.ref l],[]⟩)) _ _ s;refine aj (w9 (ay ⟨Code.quiet_builtin _ (by decide+kernel),kM entry_list_iadd' ?_⟩));show wpAny _ _ (Builtin.List.listExtendWith (.ref s.heap.objs.size) (.ref l) (.ref s.heap.objs.size)) _ _ {s with heap:=s.heap.push (seqObj "list" #[] 0)};unfold Builtin.List.listExtendWith;have xj:(s.heap.push (seqObj "list" #[] 0)).get? l=some o:=bQ _ ho;refine aj (sP (T:="tuple") ⟨o,xj,hc⟩ ?_);have ht:(Value.type "tuple"==Value.type "tuple")=true:=by rfl
 rw[ag (by rw[ht];simp)];refine aj (listItems_at xj hd ?_);refine aj (listItems_at (xs:= #[]) (n:=0) (bw _ rfl) rfl ?_);rw[af ∅];refine aj (listUpdate_at (xs:= #[]) (n:=0) (bw _ rfl) rfl ?_ (cz _) (by show(#[] ++vs.toArray).size<=sizeLine+1;simp only[Array.size_append,size_toArray,length_nil];omega));refine ay ?_;show wpAny (model prog w) A (do
   let o<-load s.heap.objs.size
   match o.data with
   |.seq xs _=>pure xs.toList|_=>unsupported "internal:collect") Q E {s with heap:=(s.heap.push (seqObj "list" #[] 0)).update s.heap.objs.size (Obj.mapSeq (·++vs.toArray))}
 refine aj (wpAny_load (get?_update_seq (bw _ rfl) _) ?_);show wpAny _ _ (pure ((#[]:Array Value)++vs.toArray).toList) Q E _;rw[show((#[]:Array Value)++vs.toArray).toList=vs by simp];exact ay h
def G_(hl:IsTup s.heap l vs.toArray)(hI:IntsAre vs ns)(hL:vs.length<=sizeLine)(h:∀out ji,IntsAre out.toList ji->ji.Perm ns->ji.Pairwise (·<=·)->Q (.ref (s.heap.objs.size+1)) {s with heap:=sortedAll s.heap vs out}):
  wpAny (model prog w) A (call (.builtin "sorted") [.ref l]) Q E s:=by
 refine Calls.call_function_entry kind_sorted plain_sorted entry_sorted (args_sorted1 _) ?_;unfold Builtin.«sorted»;refine aj (ay ?_);refine aj (G9 hl ?_ hL);refine aj (w9 ?_ hL);have f7:((s.heap.push (seqObj "list" #[] 0)).update s.heap.objs.size (Obj.mapSeq (·++vs.toArray))).objs.size=s.heap.objs.size+1:=by
  rw[Heap.size_update,size_push']
 have Oh:(((s.heap.push (seqObj "list" #[] 0)).update s.heap.objs.size (Obj.mapSeq (·++vs.toArray))).push (seqObj "list" vs.toArray 0)).get? (s.heap.objs.size+1)=some (seqObj "list" vs.toArray 0):=by
  rw[<-f7];exact bw _ rfl
 show wpAny _ _ _ _ _ {s with heap:=((s.heap.push (seqObj "list" #[] 0)).update s.heap.objs.size (Obj.mapSeq (·++vs.toArray))).push (seqObj "list" vs.toArray 0)};rw[f7];refine aj (gn (g_ slot_list_sort ⟨_,Oh,rfl⟩ entry_list_sort (list_sort_treeAny Oh hI hL λout ji a1 a2 a3=>⟨_,rfl,ay ⟨_,rfl,h out ji a1 a2 a3⟩⟩) (args_list_sort _)))
end
section
def V4(K:PySem.W.Frag):R2:=λx y H Q=>∃a b xs ys,x=.ref a/\y=.ref b/\jM K H a xs/\jM K H b ys/\ys≠ []/\xs.length+ys.length<=sizeLine/\
 (xs=[]->Q (.ref b) H)/\(xs≠ []->∀p,H p=none->Q (.ref p) (upd H p (.tup (xs++ys))))
def Uy:p_ X (binaryOp .Add) (V4 X.K):=by
 intro pins s σ H x y v u Q I rx ry h;obtain⟨a,b,xs,ys,ex,ey,ha,hb,hy,hz,q1,q2⟩:=h;by_cases c:xs=[]
 .subst ex ey c;cases rx;cases ry;obtain⟨aR,r1,p1,_⟩:=I.tuple ha;obtain⟨n6,r2,p2,_⟩:=I.tuple hb;cases r1;exact QN p1 p2 ⟨.ref b,H,I,rfl,q1 rfl⟩
 .exact Tn pins s σ H x y v u Q I rx ry ⟨a,b,xs,ys,ex,ey,ha,hb,c,hz,λz=>absurd z hy,λ_=>q2 c⟩
def Em:kn X (.builtin "sorted") (λxs H Q=>eL xs λa=>∃ns:List Int,jM X.K H a (ns.map V.int)/\∀(ji:List Int) p,ji.Perm ns->ji.Pairwise (·<=·)->H p=none->Q (.ref p) (upd H p (.lst (ji.map V.int)))):=by
 intro pins s σ H xs us Q I r q0;obtain⟨a,ex,ns,hs,q⟩:=rj.mp q0;subst ex;obtain⟨aR,rv,hl,hz⟩:=I.tuple hs;rw[Vals.Ts r];have hi:=rv.ints;rw[az]at hz;refine G_ hl hi (by rw[hi.length];exact hz) λout ji h1 h2 h3=>?_;obtain⟨ep,F6⟩:=PyProof.Rows.sortedAll_at s.heap aR out;have hlen:(ji.map V.int).length<=sizeLine:=by rw[az,h2.length_eq];exact hz
 exact⟨.ref _,upd H (s.heap.objs.size+1) (.lst (ji.map V.int)),I.laid (λ_ _=>PyProof.Rows.sortedAll_old) (pS _) ⟨hlen,out.toList,ep,jq h1,F6⟩,rfl,q ji _ h2 h3 (I.bL.fresh (pS _))⟩
end
def Uz{f:Str}(hK:X.K=K)(he:PE X e ta)(hb:attributeBase e f X.env (eval e X.env)=eval e X.env):PE X (.Attribute e f pos) (ot K ta f):=by
 subst hK;exact bz he hb
def Ny(hK:X.K=K):OX X "list.index" (Iv K):=by
 subst hK;exact O3
def Yg{o:Expr}{es:List Expr}{to:TE}{t:TA}{apos eE:Pos}{id:String}{r:V->List V->Hp->VK->Prop}(hK:X.K=K)(pa:PlainAttrs T)(slot:Slot T name id)(Sf:typeOf (.builtin id)=pure (.type "method_descriptor"))(hm:OX X id r)(ho:PE X o to)(ha:PA X (e::es) t)(jO:attributeBase o name X.env (eval o X.env)=eval o X.env:=by rfl)(W9:((backTo eE (starEach (e::es) X.env)).all (λx=>!x.1)&&(backToKw eE (keywordEach [] X.env)).all (λx=>x.1.isSome)
   &&decide ((e::es).length+([]:List Keyword).length+(if([]:List Keyword).isEmpty then 0 else 1)<30))=true:=by rfl)(hline:(apos.endLine==eE.line)=true:=by rfl)(hs:starEach (e::es) X.env=(false,eval e X.env)::starEach es X.env:=by rfl)(Ip:(backTo eE (starEach es X.env)).any (·.1)=false:=by rfl):
  PE X (.Call (.Attribute o name apos) (e::es) [] eE) (Y7 K T r to t):=by
 subst hK;exact Ky pa slot Sf hm ho ha jO W9 hline hs Ip
def zN(hK:X.K=K):p_ X (compareOp .In) (Se K false):=by
 subst hK;exact uw
def qS(hK:X.K=K):p_ X (compareOp .NotIn) (Se K true):=by
 subst hK;exact Du
def xR{es:List Expr}{k:Nat}{t:Vx}{n:Nat}{pos:Pos}(hK:X.K=K)(hc:X.calm=true)(h:ZJ X es t)(hn:(assignEach es X.env).length=n:=by rfl)(p6:(assignEach es X.env).findIdx? (·.1)=none:=by rfl):PG X (.Tuple es k pos) (WR K n t):=by
 subst hK;exact yk hc h hn p6
theorem En:∀ns:List Int,yr K H (ns.map V.int) (ns.map PyData.int)
 |[]=>.nil|n::ns=>.cons (.int n) (En ns)
theorem Ha:∀xs ys:List Int,PyData.eqvAll (xs.map PyData.int) (ys.map PyData.int)=decide (xs=ys)
 |[],[]=>rfl|[],_::_=>rfl
 |_::_,[]=>rfl
 |x::xs,y::ys=>by
  show((x==y)&&PyData.eqvAll (xs.map PyData.int) (ys.map PyData.int))=_;rw[Ha xs ys];by_cases c:x=y
  .subst c;simp
  .simp[c]
def Hb:bootBuiltins "tuple"=some (.type "tuple"):=by decide+kernel
def UA(hr:dY k A):A.units+64<cLine:=hr.units
def UB(hr:dY k A):A.units+10<cLine:=wC (Nat.add_le_add_left (by decide:10<=64) _) hr.units
def Lx{J:It}{D:Ends}(Pv:Nat->St->Hp->Prop)(h0:Pv 0 σ H)(hgo:∀i σ H,i<n->Pv i σ H->J.go i H)(hs:∀i x σ H H',i<n->Pv i σ H->J.Fp i H x H'->g x σ H' λσ2 H2=>tb {D with nx:=Pv (i+1),ct:=Pv (i+1),bk:=D.nx} σ2 H2)(hd:∀σ H,Pv n σ H->J.stop n H/\D.nx σ H):
  ∃W:Nat->Nat->St->Hp->Prop,(∃m,W 0 m σ H)/\∀i m σ H,W i m σ H->
   (J.stop i H/\D.nx σ H)\/(J.go i H/\∃N:St->Hp->Prop,(∀σ' H',N σ' H'->∃m',m'<m/\W (i+1) m' σ' H')/\∀x H',J.Fp i H x H'->g x σ H' λσ2 H2=>tb {D with nx:=N,ct:=N,bk:=D.nx} σ2 H2):=by
 refine⟨λi m σ H=>m=n-i/\i<=n/\Pv i σ H,⟨n,by simp,cz _,h0⟩,?_⟩;rintro i m σ H ⟨rfl,hi,p⟩;by_cases dR:i<n
 .exact .inr ⟨hgo i σ H dR p,Pv (i+1),λσ' H' p'=>⟨n-(i+1),by omega,rfl,dR,p'⟩,λx H' y=>hs i x σ H H' dR p y⟩
 .obtain rfl:i=n:=by omega
  exact .inl (hd σ H p)
def zO{J:It}{vs:List Nat}(Pv:Nat->Hp->Prop)(h0:Pv 0 (upd H1 D (.lst [])))(hgo:∀i H,i<n->Pv i H->J.go i H)(hs:∀i x H H',i<n->Pv i H->J.Fp i H x H'->g x (wipe σ vs) H' λσ2 H2=>wipe σ2 vs=wipe σ vs/\tt σ2 H2 λb H3=>
   if b=true then te σ2 H3 λy H4=>∃acc,H4 D=some (.lst acc)/\acc.length<sizeLine/\Pv (i+1) (upd H4 D (.lst (acc++ [y])))else Pv (i+1) H3)(hd:∀H,Pv n H->J.stop n H/\Qd H):
  ∃W:Nat->Nat->Hp->Prop,(∃m,W 0 m (upd H1 D (.lst [])))/\∀i m H,W i m H->
   (J.stop i H/\Qd H)\/(J.go i H/\∃Nx:Hp->Prop,(∀H',Nx H'->∃m',m'<m/\W (i+1) m' H')/\∀x H',J.Fp i H x H'->g x (wipe σ vs) H' λσ2 H2=>wipe σ2 vs=wipe σ vs/\tt σ2 H2 λb H3=>
    if b=true then te σ2 H3 λy H4=>∃acc,H4 D=some (.lst acc)/\acc.length<sizeLine/\Nx (upd H4 D (.lst (acc++ [y])))else Nx H3):=by
 refine⟨λi m H=>m=n-i/\i<=n/\Pv i H,⟨n,by simp,cz _,h0⟩,?_⟩;rintro i m H ⟨rfl,hi,p⟩;by_cases dR:i<n
 .exact .inr ⟨hgo i H dR p,Pv (i+1),λH' p'=>⟨n-(i+1),by omega,rfl,dR,p'⟩,λx H' y=>hs i x H H' dR p y⟩
 .obtain rfl:i=n:=by omega
  exact .inl (hd H p)
end L2
end
section
namespace Pd
open PySem PySem.Spec PyProof.Rows L2 TL
structure Nb(K:PySem.W.Frag)(mg:Str->Option Value)(NB:Addr):Prop where
 mg:mg "NoBet"=some (.ref NB)
 ex:PySem.W.excIn K NB [.type "ValueError",.type "Exception",.type "BaseException",.type "object"] "ValueError.__new__"=true
noncomputable abbrev tW:Stmt:=top 35
noncomputable abbrev xS:Stmt:=top 37
noncomputable abbrev tX:Stmt:=top 38
noncomputable abbrev Eo:Stmt:=top 39
section
def Nz:aE ["holds"] ["holds"] (ao tW):=by ac_nf
def JC(D:Def K mg "require" tW ["holds"])(V5:Nb K mg NB):Ok P w K mg base (fW P w) 1 "require" ["holds"] (aD NB):=by
 refine D.B9 Nz (λvs H Q E h=>?_) (λf b9 A outer s H vs Q E hr h=>?_)
 .obtain⟨a,rfl,_⟩:=yd.mp h;rfl
 .obtain⟨b,rfl,k⟩:=yd.mp h;refine⟨_,(au (cW (uq (uo (pv 0))) (au (Gf (E:=E) aH rfl rfl V5.mg V5.ex PySem.F.excBase_ValueError (ae bu ai))) bC)),?_⟩;simp? only[cf];refine bj (λa=>?_) (λa=>?_)
  .subst a;exact⟨by have:=bE;omega,k⟩
  .cases b with
   |true=>exact k|false=>exact absurd rfl a
def Hc(NB:Addr):Sp:=λvs H Q E=>∃st n:Int,vs=[.int st,.int n]/\0<=st/\st<=1000000/\if 0<n/\st*n<=2147483647 then Q .cV H else E (.ref NB) none H
def QO:aE ["stake","combinations"] ["stake","combinations"] (ao xS):=by ac_nf
def NA(D:Def K mg "check_staked" xS ["stake","combinations"])(T:Tx mg)(aK:Ok P w K mg base (fW P w) 1 "require" ["holds"] (aD NB)):Ok P w K mg base (fW P w) 2 "check_staked" ["stake","combinations"] (Hc NB):=by
 refine D.B9 QO (λvs H Q E h=>?_) (λf b9 A outer s H vs Q E hr h=>?_)
 .obtain⟨_,_,rfl,_⟩:=h;rfl
 .obtain⟨st,n,rfl,s0,s1,k⟩:=h;refine⟨_,(au (aQ (ax (E:=E) aK (hr.mono ⋯) rfl (aW aH) (ae (kP (aU vj (pv 1) aq (aG _)) (i5 (aU jN (bR rm (pv 0) (pv 1)) (cQ T.fL rfl) (aG _)))) ai)))),?_⟩;simp? only[cf,aD];refine bj (λa=>⟨.inl ⟨by omega,by omega⟩,?_⟩) (λa=>?_)
  .refine bj (λb=>?_) (λb=>?_)
   .rw[ag ⟨a,b⟩]at k;exact k
   .rw[af (λz=>b z.2)]at k;exact k
  .rw[af (λz=>a z.1)]at k;exact k
noncomputable def oR(t:List Nat)(u:Int):Option Int:=if 0<dz t/\dz t<=1000000/\dz t%u=0 then some (dz t)else none
def Ly(NB:Addr):Sp:=λvs H Q E=>∃(t:List Nat) (u:Int),vs=[.str (S t),.int u]/\T5 t/\0<u/\u<=10000/\match oR t u with
 |some n=>Q (.int n) H|none=>E (.ref NB) none H
def Lz:aE ["word","unit","stake"] ["word","unit"] (ao Eo):=by ac_nf
def QP(D:Def K mg "read_stake" Eo ["word","unit"])(T:Tx mg)(ft:Ok P w K mg base eX 1 "number_of" ["word"] iV)(aK:Ok P w K mg base (fW P w) 1 "require" ["holds"] (aD NB)):Ok P w K mg base (fW P w) 2 "read_stake" ["word","unit"] (Ly NB):=by
 refine D.B9 Lz (λvs H Q E h=>?_) (λf b9 A outer s H vs Q E hr h=>?_)
 .obtain⟨_,_,rfl,_⟩:=h;rfl
 .obtain⟨t,u,rfl,ht,u0,u1,k⟩:=h;refine⟨_,(ah (aO (i:=2) Lz.nd rfl (Or.inl rfl) (ax ft (hr.mono ⋯) rfl cu (ae (pv 0) ai))) (ah (aQ (ax (E:=E) aK (hr.mono ⋯) rfl (aW aH) (ae (kP (ym BD jN aq (pv 2) (cQ T.gF rfl)) (i5 (aU cD (bR OO (pv 2) (pv 1)) aq (aG _)))) ai))) (au (aJ (pv 2))))),?_⟩;simp? only[cf,iV,aD];refine⟨t,rfl,ht,?_⟩;unfold oR at k;refine bj (λa=>⟨u0,?_⟩) (λa=>?_)
  .refine bj (λb=>?_) (λb=>?_)
   .rw[ag ⟨a.1,a.2,b⟩]at k;exact k
   .rw[af (λz=>b z.2.2)]at k;exact k
  .rw[af (λz=>a ⟨z.1,z.2.1⟩)]at k;exact k
def Hd(NB Cp:Addr):Sp:=λvs H Q E=>∃(t:List Nat) (L:Addr) (rv:List V) (ps:List MP),vs=[.str (S t),.ref L]/\zg Cp H L rv ps/\
 (∀q,ps.filter (λq=>decide (q.name=t))=[q]->∀H' v,aw H H'->oI Cp H' rv v q->Q v H')/\((ps.filter (λq=>decide (q.name=t))).length≠1->∀H',aw H H'->E (.ref NB) none H')
def zP:aE ["name","pools","found","pool"] ["name","pools"] (ao tX):=by ac_nf
def ND(D:Def K mg "pool_called" tX ["name","pools"])(T:Tx mg)(aS:CL P w K mg base "Pool" Cp ["self","name","kind","k","races","unit"] (dD Cp) ["name","kind","k","races","unit"])(aK:Ok P w K mg base (fW P w) 1 "require" ["holds"] (aD NB)):Ok P w K mg base (fW P w) 2 "pool_called" ["name","pools"] (Hd NB Cp):=by
 refine D.B9 zP (λvs H Q E h=>?_) (λf b9 A outer s H vs Q E hr h=>?_)
 .obtain⟨_,_,_,_,rfl,_⟩:=h;rfl
 .obtain⟨t,L,rv,ps,rfl,hP,kQ,kE⟩:=h;refine⟨_,(ah (qi (own:=[("pool",3)]) rfl zP.nd (i:=2) rfl rfl (sY rfl rfl rfl rfl) (bZ (pv 1)) (bX (N:=["name","pools","found","pool"]) (sc:=ao tX) (by decide+kernel)) (λ_ _ _ _ _=>aT (i:=3) zP.nd rfl (Or.inl rfl)) (λ_ _ _ _ _=>(xl (bx cD (Uz (K:=K) rfl (pv 3) rfl) (pv 0) (aG _)))) (λ_ _ _ _ _=>(pv 3))) (ah (aQ (ax (E:=E) aK (hr.mono ⋯) rfl (aW aH) (ae (aU cD (aC aA (by rfl) T.cq bN (ae (pv 2) ai)) aq (aG _)) ai))) (au (aJ (bG aP (pv 2) aq (λ_ _=>rfl)))))),?_⟩;simp? only[cf,aD];obtain⟨hl,as,hA,hp⟩:=hP;have hlen:=Paired.eQ hp;have hz:=cG;refine⟨L,rfl,⟨_,aM.of hA⟩,λD hD=>?_⟩;have hAD:L≠D:=λz=>by rw[z,hD]at hA;cases hA
  refine zO (n:=as.length) (λi H'=>aw H H'/\H' D=some (.lst ((((as.zip ps).take i).filter λx=>decide (x.2.name=t)).map (·.1)))) ⟨aw.new hD,ak⟩ (λi H' hi h=>⟨as,as[i],aM.of (h.1 _ _ hA),bt hi⟩) ?_ ?_
  .rintro i x H' H'' hi ⟨sm,Zi⟩ ⟨rfl,hx⟩;have hx:=hx as (aM.of (sm _ _ hA));obtain⟨q,hq,hpi⟩:=Paired.at' hp hx;obtain⟨p,dx,Rr,rfl,nQ,hR⟩:=id hpi;have Zj:(as.zip ps)[i]?=some (.ref p,q):=by rw[uk];exact⟨hx,hq⟩
   simp? only[ot];have CD:(as.zip ps).take (i+1)=(as.zip ps).take i++ [(.ref p,q)]:=bp Zj;have hDl:D≠L:=c6 hAD;refine⟨rfl,_,rfl,p,rfl,Cp,dx,_,sm _ _ nQ,aS.cl,aS.no "name" ∅,.str (S q.name),rfl,_,rfl,rfl,?_⟩;rw[CD,w8,eC];refine bj (λb=>?_) (λb=>?_)
   .have b:q.name=t:=cS.mp ‹b›;refine⟨_,rfl,_,Zi,?_,sm.kD hD,?_⟩
    .rw[az];refine wC (om _ _) ?_;rw[cP];have:=Nat.min_le_left i (as.zip ps).length;omega
    .rw[ak,filter_cons_of_pos ‹b›];rfl
   .have b:¬q.name=t:=λz=>b (by rw[z]);refine⟨sm,?_⟩;rw[Zi,filter_cons_of_neg ‹b›];simp
  .rintro H' ⟨sm,Zi⟩;have HR:(as.zip ps).length=as.length:=by rw[mF];omega
   rw[<-HR,et]at Zi;have HY:ps=(as.zip ps).map (·.2):=(map_snd_zip ()).symm;have hfl:ps.filter (λq=>decide (q.name=t))=((as.zip ps).filter λx=>decide (x.2.name=t)).map (·.2):=by
    conv=>lhs;rw[HY]
    rw[pW];rfl
   have Bf:∀x∈(as.zip ps).filter (λx=>decide (x.2.name=t)),oI Cp H rv x.1 x.2:=λx hx=>by
    obtain⟨i,hi⟩:=mem_iff_getElem?.mp (mem_filter.mp hx).1;rw[uk]at hi;obtain⟨q',h1,h2⟩:=Paired.at' hp hi.1;rw[hi.2]at h1;cases h1;exact h2
   generalize(as.zip ps).filter (λx=>decide (x.2.name=t))=F at*;refine⟨⟨as,aM.of (sm _ _ hA),aL _⟩,D,rfl,_,.inl (aM.of Zi),?_⟩;rw[az];refine bj (λb=>?_) (λb=>?_)
   .have hF:F.length=1:=by omega
    obtain⟨x,rfl⟩:=length_eq_one_iff.mp hF;exact⟨D,rfl,_,aM.of Zi,_,rfl,kQ x.2 (by rw[hfl];rfl) H' x.1 sm ((Bf x ∅).same sm)⟩
   .refine kE ?_ H' sm;rw[hfl,az];omega
end
noncomputable abbrev JD:Stmt:=top 44
section
noncomputable def tY(I:List Int)(n:Int):Int:=((I.findIdx λx=>decide (x=n):Nat):Int)
noncomputable def setM(t:List Nat)(I:List Int):Option (List Int):=
 if((cut 44 [] t).map dz).all (λn=>decide (n∈I))=true then(if(((cut 44 [] t).map dz).map (tY I)).Pairwise (·<·)then some (((cut 44 [] t).map dz).map (tY I))else none)else none
def aa0:tl (Str.ofString ",")=[44]/\(Str.ofString ",").cps.all (·<256)=true:=by decide+kernel
def shaped_ints(ns:List Int):SeqAt.shaped (.list (ns.map PyData.int))=true:=by
 have h1:PyData.canLayAll0 (ns.map PyData.int)=true:=by
  induction ns with
  |nil=>rfl|cons n ns ih=>exact ih
 have h2:PyData.depthAll (ns.map PyData.int)=0:=by
  induction ns with
  |nil=>rfl
  |cons n ns ih=>
   show max 0 (PyData.depthAll (ns.map PyData.int))=0;rw[ih (by exact h1)];rfl
 show(PyData.canLayAll0 (ns.map PyData.int)&&decide (PyData.depthAll (ns.map PyData.int)+1<=64))=true;rw[h1,h2];rfl
theorem LA:∀{l m:List Int},l.Pairwise (·<·)->m.Pairwise (·<·)->(∀x,x∈l↔x∈m)->l=m
 |[],[],_,_,_=>rfl|[],y::m,_,_,h=>absurd ((h y).mpr ∅) ∅
 |x::l,[],_,_,h=>absurd ((h x).mp ∅) ∅
 |x::l,y::m,hl,hm,h=>by
  obtain⟨a1,a2⟩:=pairwise_cons.mp hl;obtain⟨b1,b2⟩:=pairwise_cons.mp hm;have e:x=y:=by
   obtain z|z:=mem_cons.mp ((h x).mp ∅)
   .exact z
   .obtain z2|z2:=mem_cons.mp ((h y).mpr ∅)
    .exact z2.symm
    .have:=b1 x z;have:=a1 y z2;omega
  subst e;rw[LA a2 b2 λz=>?_];constructor
  .intro hz;obtain q|q:=mem_cons.mp ((h z).mp (by simp[hz]))
   .have:=a1 z hz;omega
   .exact q
  .intro hz;obtain q|q:=mem_cons.mp ((h z).mpr (by simp[hz]))
   .have:=b1 z hz;omega
   .exact q
def oS n (I:List Int):Y6 (.int n) (I.map V.int)=decide (n∈I):=by
 rw[jJ];unfold Y6;rw[pU,jf];constructor
 .rintro⟨v,hv,e⟩;obtain⟨m,hm,rfl⟩:=mem_map.mp hv;have:m=n:=by simpa[Io]using e
  exact this▸hm
 .intro h;exact⟨.int n,mem_map.mpr ⟨n,h,rfl⟩,by simp[Io]⟩
theorem Ep{c:Nat}:∀{l acc:List Nat},(∀w∈cut c acc l,w≠ [])->2*(cut c acc l).length<=acc.length+l.length+1
 |[],acc,h=>by
  have:=h acc (by simp[cut]);have:=length_pos_iff.mpr this;simp[cut];omega
 |x::r,acc,h=>by
  unfold cut at h⊢;split
  .rename_i e;rw[ag e]at h;have h1:=h acc ∅;have:=length_pos_iff.mpr h1;have ih:=Ep (c:=c) (l:=r) (acc:=[]) λw hw=>h w (by simp[hw]);rw[aY,aY];simp at ih;omega
  .rename_i e;rw[af e]at h;have ih:=Ep (c:=c) (l:=r) h;rw[aY];simp at ih;omega
def vM(K:PySem.W.Frag)(NB:Addr):Sp:=λvs H Q E=>∃(t:List Nat) (a:Addr) (I:List Int),vs=[.str (S t),.ref a]/\T5 t/\t.length<=4190/\aM K H a (I.map V.int)/\I.length<=100/\(∀x∈I,0<=x)/\
 (∀ps,setM t I=some ps->∀H' p,aw H H'->H p=none->H' p=some (.lst (ps.map V.int))->Q (.ref p) H')/\(setM t I=none->∀H',aw H H'->E (.ref NB) none H')
def zQ:aE ["word","interests","numbers","places","part","number"] ["word","interests"] (ao JD):=by ac_nf
def Yh(D:Def K mg "read_set" JD ["word","interests"])(T:Tx mg)(ft:Ok P w K mg base eX 1 "number_of" ["word"] iV)(aK:Ok P w K mg base (fW P w) 1 "require" ["holds"] (aD NB)):Ok P w K mg base (fW P w) 2 "read_set" ["word","interests"] (vM K NB):=by
 refine D.B9 zQ (λvs H Q E h=>?_) (λf b9 A outer s H vs Q E hr h=>?_)
 .obtain⟨_,_,_,rfl,_⟩:=h;rfl
 .obtain⟨t,a,I,rfl,ht,tl,hI,il,X9,kQ,kE⟩:=h;have hu:=vt hr;have adZ:=UA hr;refine⟨_,(ah (qi (own:=[("part",4)]) rfl zQ.nd (i:=2) rfl rfl (sY rfl rfl rfl rfl) (bZ (yB (pv 0) bu)) (bX (N:=["word","interests","numbers","places","part","number"]) (sc:=ao JD) (by decide+kernel)) (λ_ _ _ _ _=>aT (i:=4) zQ.nd rfl (Or.inl rfl)) (λ_ _ _ _ _=>dH) (λ_ _ _ _ _=>(ax ft (hr.mono ⋯) rfl cu (ae (pv 4) ai)))) (ah (aQ (ax (E:=E) aK (hr.mono ⋯) rfl (aW aH) (ae (aC (lP rfl) (by rfl) T.tG lW (ae (ie (own:=[("number",5)]) rfl zQ.nd (bZ (pv 2)) (bX (N:=["word","interests","numbers","places","part","number"]) (sc:=ao JD) (by decide+kernel)) (λ_ _ _ _ _=>aT (i:=5) zQ.nd rfl (Or.inl rfl)) (λ_ _ _ _ _=>dH) (λ_ _ _ _ _=>(aU (zN (K:=K) rfl) (pv 5) (pv 1) rfl))) ai)) ai))) (ah (qi (own:=[("number",5)]) rfl zQ.nd (i:=3) rfl rfl (sY rfl rfl rfl rfl) (bZ (pv 2)) (bX (N:=["word","interests","numbers","places","part","number"]) (sc:=ao JD) (by decide+kernel)) (λ_ _ _ _ _=>aT (i:=5) zQ.nd rfl (Or.inl rfl)) (λ_ _ _ _ _=>dH) (λ_ _ _ _ _=>(Yg (K:=K) rfl x5 PySem.F.slot_list_index PySem.F.type_list_index (Ny (K:=K) rfl) (pv 1) (ae (pv 5) ai)))) (ah (aQ (ax (E:=E) aK (hr.mono ⋯) rfl (aW aH) (ae (aU (Xd adZ) (pv 3) (Yb rfl (by rfl) T.iU (by rfl) T.Cq (ae (pv 3) ai)) (aG _)) ai))) (au (aJ (pv 3))))))),?_⟩;simp? only[cf,aD,iV];have hz:=cG;have ad0:=y3 (c:=44) (acc:=[]) ht.2 ∅;have A3:=qm (c:=44) (acc:=[]) (l:=t);refine⟨_,rfl,_,rfl,by decide+kernel,by rw[qP];omega,λp hp=>?_⟩;rw[uG aa0.1 aa0.2];refine⟨p,rfl,⟨_,aM.of ak⟩,λD1 VX=>?_⟩;have s1:aw H (upd H p (.lst (((cut 44 [] t).map S).map V.str))):=aw.new hp;have bS:setM t I=setM t I:=rfl
  conv at bS=>rhs;unfold setM
  generalize hC:cut 44 [] t=C at*;refine fS (xs:=(C.map S).map V.str) (λH v (z:Int)=>v=.int z) C (λc=>some (dz c)) ∅ (by simp;omega) VX (aM.of ak) (λ_ _ _ _ _ e=>e) ?_ ?_
  .intro i x u H' hx hu sm _ R k2;have e:x=.str (S u):=by
    rw[aZ,aZ,hu]at hx;exact(Option.some.inj hx).symm
   subst e;have hm:=ad0 u (bg hu);simp? only[cf,aD,iV];exact⟨u,rfl,⟨by simp at hm;omega,hm.2⟩,k2 _ _ _ rfl aw.rfl' rfl⟩
  .intro H2 ys zs Oq i9 hm Iz;rw[de]at hm;cases hm;have i9:H2 D1=some (.lst ((C.map dz).map V.int)):=by rw[i9,fm Iz]
   have s2:=s1.trans Oq;generalize hN:C.map dz=NS at*;have hNl:NS.length<=4191:=by rw[<-hN,az];omega
   refine⟨D1,rfl,⟨_,aM.of i9⟩,λD2 Ug=>?_⟩;refine fS (xs:=NS.map V.int) (λH v (b:Bool)=>v=.bl b) NS (λn=>some (decide (n∈I))) ∅ (by simp;omega) Ug (aM.of i9) (λ_ _ _ _ _ e=>e) ?_ ?_
   .intro i x u H' hx hu sm _ R k2;have e:x=.int u:=by
     rw[aZ,hu]at hx;exact(Option.some.inj hx).symm
    subst e;simp? only[cf,Se];refine⟨_,.inl ((s2.trans sm).seq hI),rfl,by simp[gY],?_⟩;exact k2 _ _ _ rfl aw.rfl' (by rw[oS])
   .intro H3 ys3 zs3 sm3 JE Oo QH;rw[de]at Oo;cases Oo;have s3:=s2.trans sm3;have hn3:=sm3 _ _ i9;refine⟨D2,rfl,_,aM.of (by rw[JE,fm QH]),?_⟩;rw[List.all_map];refine bj (λb=>?_) (λb=>kE (by rw[bS,af];exact b) H3 s3);have b:NS.all (λn=>decide (n∈I))=true:=b;rw[ag b]at bS;simp? only[cf];refine⟨D1,rfl,⟨_,aM.of hn3⟩,λD3 hD3=>?_⟩;refine fS (xs:=NS.map V.int) (λH v (z:Int)=>v=.int z) NS (λn=>some (tY I n)) ∅ (by simp;omega) hD3 (aM.of hn3) (λ_ _ _ _ _ e=>e) ?_ ?_
    .intro i x u H' hx hu sm _ R k2;have e:x=.int u:=by
      rw[aZ,hu]at hx;exact(Option.some.inj hx).symm
     subst e;simp? only[cf,Y7,Iv];have hI':=(s3.trans sm).seq hI;have ZT:u∈I:=‹all_eq_true.mp b u (bg hu)›
     have dR:(I.findIdx λx=>decide (x=u))<I.length:=findIdx_lt_length_of_exists ⟨u,ZT,by simp⟩;have hat:I[I.findIdx λx=>decide (x=u)]?=some u:=by
      rw[bt dR];have:=findIdx_getElem (w:=dR);exact cb some ‹this›
     refine⟨(.inl ⟨rfl,_,hI'⟩:W7 K "list" (.ref a) H'),_,hI',rfl,by simp[gY],I.findIdx λx=>decide (x=u),.int u,?_,by simp[Io],λm z' hm Fs=>?_,k2 _ _ _ rfl aw.rfl' rfl⟩
     .rw[aZ,hat];rfl
     .rw[aZ]at Fs;cases e2:I[m]? with
      |none=>rw[e2]at Fs;cases Fs
      |some v=>
       rw[e2]at Fs;cases Fs;have hml:m<I.length:=by omega
       have h1:=not_of_lt_findIdx hm;rw[bt hml]at e2;have e3:I[m]=v:=Option.some.inj e2;have h2:¬v=u:=by
        rw[<-e3];simpa using h1
       simpa[Io]using h2
    .intro H4 ys4 zs4 sm4 JF hm4 hp4;rw[de]at hm4;cases hm4;have s4:=s3.trans sm4;have JF:H4 D3=some (.lst ((NS.map (tY I)).map V.int)):=by rw[JF,fm hp4]
     generalize hPS:NS.map (tY I)=PS at*;simp? only[aaY,ZU];refine⟨PS,aM.of JF,?_,λout q mem up hq=>?_⟩
     .rw[<-hPS,az,<-hN,az,<-hC];have gU:∀w∈cut 44 [] t,w≠ []:=λw hw hw0=>by
       rw[hC]at hw;have h1:=all_eq_true.mp b (dz w) (by rw[<-hN];exact mem_map.mpr ⟨w,hw,rfl⟩);rw[hw0]at h1;have h2:(-1:Int)∈I:=by simpa[dz]using h1
       have:=X9 _ h2;omega
      have h5:=Ep gU;rw[pH]at h5;omega
     have gU:D3≠q:=λz=>by rw[<-z,JF]at hq;cases hq
     have hy5:(upd H4 q (HO.lst (List.map V.int out))) D3=some (.lst (PS.map V.int)):=by rw[aB gU];exact JF
     have s5:=s4.trans (aw.new (o:=HO.lst (List.map V.int out)) hq);refine⟨.list (PS.map PyData.int),.lst (aM.of hy5) (En PS),.list (out.map PyData.int),.lst (aM.of ak) (En out),shaped_ints PS,shaped_ints out,?_⟩;have ev:PyData.eqv (.list (PS.map PyData.int)) (.list (out.map PyData.int))=decide (PS=out):=Ha PS out;rw[ev];refine bj (λc=>?_) (λc=>?_)
     .have c:PS=out:=by simpa using c
      rw[<-c]at up;rw[ag up]at bS;exact kQ PS bS _ D3 s5 (s3.free hD3) hy5
     .have c:¬PS=out:=by simpa using c
      refine kE ?_ _ s5;rw[bS,af λz=>c (LA z up λx=>(mem x).symm)]
end
noncomputable abbrev UC:Stmt:=top 42
noncomputable abbrev QQ:Stmt:=top 43
noncomputable abbrev Zk:Stmt:=top 41
noncomputable abbrev LC:Stmt:=top 40
section
noncomputable def NF:List Nat:=[111,110]
noncomputable def zR:List Nat:=[98,111,120]
noncomputable def UD:List Nat:=[107,101,121]
noncomputable def QR:List Nat:=[119,105,116,104]
noncomputable def kY:List Nat:=[47]
noncomputable def cY(rs:List (List Int))(q:MP):List (List Int):=mR [] rs q.kind q.k q.race
noncomputable def Bg(ws:List (List Nat))(k:Int)(I:List Int):Option (List (List Int)):=if ws.length=1 then(match setM (ws.getD 0 []) I with
 |none=>none|some s=>if k<=(s.length:Int)then some [s]else none)else none
def qT(H:Hp)(R:Addr)(ss:List (List Int)):Prop:=vE H R ss
def QS(K:PySem.W.Frag)(NB Cp:Addr):Sp:=λvs H Q E=>∃(a p:Addr) (ws:List (List Nat)) (rs:List (List Int)) (q:MP),vs=[.ref a,.ref p]/\Words H a ws/\(∀t∈ws,t.length<=4190)/\jS Cp H (.ref p) rs q/\(∃I,(cY rs q)[0]?=some I/\I.length<=100/\(∀x∈I,0<=x)/\
 (∀ss,Bg ws q.k I=some ss->∀H' x,aw H H'->qT H' x ss->Q (.ref x) H')/\(Bg ws q.k I=none->∀H',aw H H'->E (.ref NB) none H'))
def V6:aE ["words","pool","places"] ["words","pool"] (ao UC):=by ac_nf
def Yi(D:Def K mg "read_box" UC ["words","pool"])(T:Tx mg)(aS:CL P w K mg base "Pool" Cp ["self","name","kind","k","races","unit"] (dD Cp) ["name","kind","k","races","unit"])(dE:Ok P w K mg base (fW P w) 2 "read_set" ["word","interests"] (vM K NB))(aK:Ok P w K mg base (fW P w) 1 "require" ["holds"] (aD NB)):Ok P w K mg base (fW P w) 3 "read_box" ["words","pool"] (QS K NB Cp):=by
 refine D.B9 V6 (λvs H Q E h=>?_) (λf b9 A outer s H vs Q E hr h=>?_)
 .obtain⟨_,_,_,_,_,rfl,_⟩:=h;rfl
 .obtain⟨a,p,ws,rs,q,rfl,hw,B8,hP,I,hI,il,i0,kQ,kE⟩:=h;refine⟨_,(ah (aQ (ax (E:=E) aK (hr.mono ⋯) rfl (aW aH) (ae (aU cD (aC aA (by rfl) T.cq bN (ae (pv 0) ai)) aq (aG _)) ai))) (ah (aO (i:=2) V6.nd rfl (Or.inl rfl) (ax (E:=E) dE (hr.mono ⋯) rfl (aW aH) (ae (bG aP (pv 0) aq (λ_ _=>rfl)) (ae (bG aP (bz (pv 1) rfl) aq (λ_ _=>rfl)) ai)))) (ah (aQ (ax (E:=E) aK (hr.mono ⋯) rfl (aW aH) (ae (aU FE (aC aA (by rfl) T.cq bN (ae (pv 2) ai)) (bz (pv 1) rfl) (aG _)) ai))) (au (aJ (gu (ae (pv 2) ai))))))),?_⟩;simp? only[cf,aD,ot,ou,vM];have hz:=bE;refine⟨_,.inl (aM.of hw.1),?_⟩;rw[az];refine bj (λb=>?_) (λb=>kE (by unfold Bg;rw[af ()]) H aw.rfl');have b:ws.length=1:=by omega
  obtain⟨pp,dx,Rr,e0,nQ,as,hR,vA⟩:=hP;cases e0;obtain⟨v0,Nh,ia,rfl,V7⟩:=Paired.Kp vA hI;have g0:ws[0]?=some (ws.getD 0 []):=by
   rw[cT,bt ()];rfl
  have q0:=hw.at g0;have Bf:=bg g0;have bS:Bg ws q.k I=Bg ws q.k I:=rfl
  conv at bS=>rhs;unfold Bg
  rw[ag b]at bS;refine⟨_,aM.of hw.1,_,q0.1,Cp,dx,_,nQ,aS.cl,aS.no "races" ∅,_,rfl,Rr,rfl,_,aM.of hR,_,eG (j:=0) Nh,_,ia,⟨rfl,rfl⟩,q0.2,B8 _ Bf,I,aM.of V7,il,i0,λps es H1 x s1 _ hx=>?_,λes=>kE (by rw[bS,es])⟩;rw[es]at bS;dsimp only at bS;refine⟨_,.inl (aM.of hx),?_⟩;rw[az];refine⟨Cp,dx,_,s1 _ _ nQ,aS.cl,aS.no "k" ∅,_,rfl,_,rfl,bj (λc=>⟨by omega,λy hy=>?_⟩) (λc=>kE (by rw[bS,af c]) H1 s1)⟩;exact kQ [ps] (by rw[bS,ag c]) _ y (s1.trans (aw.new hy)) ⟨_,ak,.cons ⟨x,rfl,(aw.new hy) _ _ hx⟩ .nil⟩
noncomputable def Er(ws:List (List Nat))(k:Int)(I:List Int):Option (List (List Int)):=if ws.length=3/\ws.getD 1 []=QR then(match setM (ws.getD 0 []) I with
 |none=>none
 |some A=>match setM (ws.getD 2 []) I with
  |none=>none|some B=>if(A.length:Int)<k then(if A.all (λn=>!decide (n∈B))=true then(if k<=(A.length:Int)+(B.length:Int)then some [A,B]else none)else none)else none)else none
def QT(K:PySem.W.Frag)(NB Cp:Addr):Sp:=λvs H Q E=>∃(a p:Addr) (ws:List (List Nat)) (rs:List (List Int)) (q:MP),vs=[.ref a,.ref p]/\Words H a ws/\(∀t∈ws,t.length<=4190)/\jS Cp H (.ref p) rs q/\(∃I,(cY rs q)[0]?=some I/\I.length<=100/\(∀x∈I,0<=x)/\
 (∀ss,Er ws q.k I=some ss->∀H' x,aw H H'->qT H' x ss->Q (.ref x) H')/\(Er ws q.k I=none->∀H',aw H H'->E (.ref NB) none H'))
def He:aE ["words","pool","keyed","others","place"] ["words","pool"] (ao QQ):=by ac_nf
def Yj:Str.ofString "with"=S QR:=by decide+kernel
def QU{t:List Nat}{I ps:List Int}(h:setM t I=some ps):ps.length<=t.length+1:=by
 unfold setM at h;split at h
 .split at h
  .cases h;rw[az,az];exact qm
  .cases h
 .cases h
def Yk(D:Def K mg "read_key" QQ ["words","pool"])(T:Tx mg)(aS:CL P w K mg base "Pool" Cp ["self","name","kind","k","races","unit"] (dD Cp) ["name","kind","k","races","unit"])(dE:Ok P w K mg base (fW P w) 2 "read_set" ["word","interests"] (vM K NB))(aK:Ok P w K mg base (fW P w) 1 "require" ["holds"] (aD NB)):Ok P w K mg base (fW P w) 3 "read_key" ["words","pool"] (QT K NB Cp):=by
 refine D.B9 He (λvs H Q E h=>?_) (λf b9 A outer s H vs Q E hr h=>?_)
 .obtain⟨_,_,_,_,_,rfl,_⟩:=h;rfl
 .obtain⟨a,p,ws,rs,q,rfl,hw,B8,hP,I,hI,il,i0,kQ,kE⟩:=h;refine⟨_,(ah (aQ (ax (E:=E) aK (hr.mono ⋯) rfl (aW aH) (ae (kP (aU cD (aC aA (by rfl) T.cq bN (ae (pv 0) ai)) aq (aG _)) (i5 (aU cD (bG aP (pv 0) aq (λ_ _=>rfl)) bu (aG _)))) ai))) (ah (aO (i:=2) He.nd rfl (Or.inl rfl) (ax (E:=E) dE (hr.mono ⋯) rfl (aW aH) (ae (bG aP (pv 0) aq (λ_ _=>rfl)) (ae (bG aP (bz (pv 1) rfl) aq (λ_ _=>rfl)) ai)))) (ah (aO (i:=3) He.nd rfl (Or.inr rfl) (ax (E:=E) dE (hr.mono ⋯) rfl (aW aH) (ae (bG aP (pv 0) aq (λ_ _=>rfl)) (ae (bG aP (bz (pv 1) rfl) aq (λ_ _=>rfl)) ai)))) (ah (aQ (ax (E:=E) aK (hr.mono ⋯) rfl (aW aH) (ae (aU BD (aC aA (by rfl) T.cq bN (ae (pv 2) ai)) (bz (pv 1) rfl) (aG _)) ai))) (ah (aQ (ax (E:=E) aK (hr.mono ⋯) rfl (aW aH) (ae (aC (lP rfl) (by rfl) T.tG lW (ae (ie (own:=[("place",4)]) rfl He.nd (bZ (pv 2)) (bX (N:=["words","pool","keyed","others","place"]) (sc:=ao QQ) (by decide+kernel)) (λ_ _ _ _ _=>aT (i:=4) He.nd rfl (Or.inl rfl)) (λ_ _ _ _ _=>dH) (λ_ _ _ _ _=>(aU (qS (K:=K) rfl) (pv 4) (pv 3) rfl))) ai)) ai))) (ah (aQ (ax (E:=E) aK (hr.mono ⋯) rfl (aW aH) (ae (aU FE (bR fV (aC aA (by rfl) T.cq bN (ae (pv 2) ai)) (aC aA (by rfl) T.cq bN (ae (pv 3) ai))) (bz (pv 1) rfl) (aG _)) ai))) (au (aJ (gu (ae (pv 2) (ae (pv 3) ai))))))))))),?_⟩;simp? only[cf,aD,ot,ou,vM];have hz:=cG;have bS:Er ws q.k I=Er ws q.k I:=rfl
  conv at bS=>rhs;unfold Er
  refine⟨_,.inl (aM.of hw.1),?_⟩;rw[az];refine bj (λb=>?_) (λb=>kE (by rw[bS,af ()]) H aw.rfl');have b:ws.length=3:=by omega
  have uH:∀i:Nat,i<3->ws[i]?=some (ws.getD i []):=λi hi=>by
   rw[cT,bt ()];rfl
  have q0:=hw.at (uH 0 ⋯);have q1:=hw.at (uH 1 ⋯);have q2:=hw.at (uH 2 ⋯);refine⟨_,aM.of hw.1,_,q1.1,rfl,?_⟩;rw[Yj];simp only[V.str.injEq,cS];refine bj (λb2=>?_) (λb2=>kE (by rw[bS,af (λz=>b2 z.2)]) H aw.rfl');rw[ag ⟨b,b2⟩]at bS;obtain⟨pp,dx,Rr,e0,nQ,as,hR,vA⟩:=hP;cases e0;obtain⟨v0,Nh,ia,rfl,V7⟩:=Paired.Kp vA hI;have m0:=bg (uH 0 ⋯);have m2:=bg (uH 2 ⋯);refine⟨_,aM.of hw.1,_,q0.1,Cp,dx,_,nQ,aS.cl,aS.no "races" ∅,_,rfl,Rr,rfl,_,aM.of hR,_,eG (j:=0) Nh,_,ia,⟨rfl,rfl⟩,q0.2,B8 _ m0,I,aM.of V7,il,i0,λA eA H1 x s1 _ hx=>?_,λeA=>kE (by rw[bS,eA])⟩;rw[eA]at bS;dsimp only at bS;have lA:=QU eA;have l0:=B8 _ m0;have P_:=hw.same s1;refine⟨_,aM.of P_.1,_,q2.1,Cp,dx,_,s1 _ _ nQ,aS.cl,aS.no "races" ∅,_,rfl,Rr,rfl,_,aM.of (s1 _ _ hR),_,eG (j:=0) Nh,_,ia,⟨rfl,rfl⟩,q2.2,B8 _ m2,I,aM.of (s1 _ _ V7),il,i0,λB eB H2 y s2 _ hy=>?_,λeB H' s'=>kE (by rw[bS,eB]) H' (s1.trans s')⟩;rw[eB]at bS;dsimp only at bS;have NI:=s1.trans s2;have VW:=s2 _ _ hx;refine⟨_,.inl (aM.of VW),Cp,dx,_,NI _ _ nQ,aS.cl,aS.no "k" ∅,_,rfl,_,rfl,?_⟩;rw[az];refine bj (λc=>?_) (λc=>kE (by rw[bS,af c]) H2 NI);rw[ag c]at bS;refine⟨x,rfl,⟨_,aM.of VW⟩,λD1 VX=>?_⟩;refine fS (xs:=A.map V.int) (λH v (b:Bool)=>v=.bl b) A (λn=>some (!decide (n∈B))) ∅ (by simp;omega) VX (aM.of VW) (λ_ _ _ _ _ e=>e) ?_ ?_
  .intro i z u H' Fs hu sm _ R k2;have e:z=.int u:=by
    rw[aZ,hu]at Fs;exact(Option.some.inj Fs).symm
   subst e;simp? only[cf,Se];refine⟨_,.inl (aM.of (sm _ _ hy)),rfl,by simp[gY],?_⟩;exact k2 _ _ _ rfl aw.rfl' (by rw[oS])
  .intro H3 ys3 zs3 sm3 JE Oo QH;rw[de]at Oo;cases Oo;have s3:=NI.trans sm3;refine⟨D1,rfl,_,aM.of (by rw[JE,fm QH]),?_⟩;rw[List.all_map];refine bj (λd=>?_) (λd=>kE (by rw[bS,af];exact d) H3 s3);have d:A.all (λn=>!decide (n∈B))=true:=d;rw[ag d]at bS;simp? only[cf,aD,ot,ou];have hy3:=sm3 _ _ hy;have hx3:=sm3 _ _ VW;refine⟨_,.inl (aM.of hx3),_,.inl (aM.of hy3),Cp,dx,_,s3 _ _ nQ,aS.cl,aS.no "k" ∅,_,rfl,_,rfl,?_⟩;rw[az,az];refine bj (λe=>⟨by omega,λz Fs=>?_⟩) (λe=>kE (by rw[bS,af e]) H3 s3);exact kQ [A,B] (by rw[bS,ag e]) _ z (s3.trans (aw.new Fs)) ⟨_,ak,.cons ⟨x,rfl,(aw.new Fs) _ _ hx3⟩ (.cons ⟨y,rfl,(aw.new Fs) _ _ hy3⟩ .nil)⟩
def NK{Q:VK}{tb:TE}{t:Str}{s:List Nat}(ht:t=S s)(hσ:σ[i]?=some (some (.ref p)))(nQ:H p=some (.ins Cp dx (Cu Rr q)))(cl:FH K Cp)(no:cH K Cp "kind")(ha:∀Q:VK,Q va H->ta σ H Q)(hb:∀Q:VK,Q vb H->tb σ H Q)(h:Q (if q.kind=s then va else vb) H):ZI (BE (S8 Vy (ot K (ye i) "kind") (tC (V.str t)))) ta tb σ H Q:=by
 subst ht;simp? only[ZI,ot];refine⟨_,hσ,p,rfl,Cp,dx,_,nQ,cl,no,.str (S q.kind),rfl,rfl,?_⟩;simp only[V.str.injEq,cS];by_cases c:q.kind=s
 .rw[ag c]at h⊢;exact ha Q h
 .rw[af c]at h⊢;exact hb Q h
theorem uN(f:α->β):∀l:List α,L2.bA (l.map f)=(L2.bA l).map f
 |[]=>rfl|[_]=>rfl
 |a::_::r=>by
  show f a::L2.bA (r.map f)=f a::(L2.bA r).map f;rw[uN f r]
def UE:Str.ofString "/"=S kY:=by decide+kernel
theorem jx:∀l:List α,(L2.bA l).length=(l.length+1)/2
 |[]=>by simp[L2.bA]|[_]=>by simp[L2.bA]
 |a::b::r=>by
  show(L2.bA r).length+1=(r.length+2+1)/2;rw[jx r];omega
theorem mY{F:α->β->Prop}{l:List α}{m:List β}(h:Paired F l m):∀n:Nat,Paired F (List.replicate n l).flatten (List.replicate n m).flatten
 |0=>.nil
 |n+1=>by
  rw[kc,kc,mz,mz];exact x6 h (mY h n)
theorem zS:∀l:List α,(L2.bA l).length<=l.length
 |[]=>aL _|[_]=>aL _
 |a::b::r=>by
  show(L2.bA r).length+1<=r.length+2;have:=zS r;omega
theorem CI:∀(l:List α) x,x∈L2.bA l->x∈l
 |[],x,h=>h|[_],x,h=>h
 |a::b::r,x,h=>by
  obtain z|z:=mem_cons.mp (show x∈a::L2.bA r from h)
  .simp[z]
  .simp[CI r x z]
theorem CJ{f:α->Option β}:∀{l}{i:Nat}{x},l[i]?=some x->f x=none->cM f l=none
 |[],i,x,h,_=>by simp at h
 |y::l,0,x,h,e=>by
  have:=Option.some.inj h;subst this;unfold cM;rw[e]
 |y::l,i+1,x,h,e=>by
  have ih:=CJ (i:=i) (x:=x) ‹h› e;unfold cM;rw[ih];cases f y<;>rfl
noncomputable def we(q:MP):Int:=if q.kind=dA then 1 else q.k
noncomputable def QV(ws:List (List Nat))(q:MP)(R:List (List Int)):Option (List (List Int)):=if(ws.length:Int)=2*we q-1 then(if(L2.oE ws).all (λt=>decide (t=kY))=true then
 cM (λx=>setM x.1 x.2) ((L2.bA ws).zip (if q.kind=cp then R else(List.replicate (we q).toNat R).flatten))else none)else none
def aa1(K:PySem.W.Frag)(NB Cp:Addr):Sp:=λvs H Q E=>∃(a p:Addr) (ws:List (List Nat)) (rs:List (List Int)) (q:MP),vs=[.ref a,.ref p]/\Words H a ws/\(∀t∈ws,t.length<=4190)/\jS Cp H (.ref p) rs q/\1<=q.k/\q.k<=6/\(q.kind=cp->((cY rs q).length:Int)=q.k)/\(q.kind≠cp->(cY rs q).length=1)/\(∀r∈cY rs q,r.length<=100/\∀x∈r,0<=x)/\
 (∀ss,QV ws q (cY rs q)=some ss->∀H' x,aw H H'->qT H' x ss->Q (.ref x) H')/\(QV ws q (cY rs q)=none->∀H',aw H H'->E (.ref NB) none H')
def Hf:aE ["words","pool","sets","races","word","interests"] ["words","pool"] (ao Zk):=by ac_nf
def aa2(D:Def K mg "read_on" Zk ["words","pool"])(T:Tx mg)(aS:CL P w K mg base "Pool" Cp ["self","name","kind","k","races","unit"] (dD Cp) ["name","kind","k","races","unit"])(dE:Ok P w K mg base (fW P w) 2 "read_set" ["word","interests"] (vM K NB))(aK:Ok P w K mg base (fW P w) 1 "require" ["holds"] (aD NB)):Ok P w K mg base (fW P w) 3 "read_on" ["words","pool"] (aa1 K NB Cp):=by
 refine D.B9 Hf (λvs H Q E h=>?_) (λf b9 A outer s H vs Q E hr h=>?_)
 .obtain⟨_,_,_,_,_,rfl,_⟩:=h;rfl
 .obtain⟨a,p,ws,rs,q,rfl,hw,B8,hP,k1,k6,Zm,V8,A9,kQ,kE⟩:=h;refine⟨_,(ah (aO (i:=2) Hf.nd rfl (Or.inl rfl) (yj (bx cD (bz (pv 1) rfl) bu (aG _)) aq (bz (pv 1) rfl))) (ah (aQ (ax (E:=E) aK (hr.mono ⋯) rfl (aW aH) (ae (aU cD (aC aA (by rfl) T.cq bN (ae (pv 0) ai)) (bR ib (bR rm aq (pv 2)) aq) (aG _)) ai))) (ah (aQ (ax (E:=E) aK (hr.mono ⋯) rfl (aW aH) (ae (aC (lP rfl) (by rfl) T.tG lW (ae (ie (own:=[("word",4)]) rfl Hf.nd (bZ (tu (pv 0) aq aq)) (bX (N:=["words","pool","sets","races","word","interests"]) (sc:=ao Zk) (by decide+kernel)) (λ_ _ _ _ _=>aT (i:=4) Hf.nd rfl (Or.inl rfl)) (λ_ _ _ _ _=>dH) (λ_ _ _ _ _=>(aU cD (pv 4) bu (aG _)))) ai)) ai))) (ah (aO (i:=3) Hf.nd rfl (Or.inl rfl) (yj (bx cD (bz (pv 1) rfl) bu (aG _)) (bz (pv 1) rfl) (bR Iu (bz (pv 1) rfl) (pv 2)))) (au (aJ (II (own:=[("word",4),("interests",5)]) (E:=E) rfl rfl rfl aH rfl Hf.nd (Pa rfl T.y6 (ae (tu (pv 0) aq aq) (ae (pv 3) ai))) (bX (N:=["words","pool","sets","races","word","interests"]) (sc:=ao Zk) (by decide+kernel)) (λ_ _ _ _ _=>xR (K:=K) (n:=2) rfl rfl (cK (aT (i:=4) Hf.nd rfl (Or.inl rfl)) (cK (aT (i:=5) Hf.nd rfl (Or.inl rfl)) km))) (λ_ _ _ _ _=>dH) (λ_ _ _ _ _=>(ax (E:=E) dE (hr.mono ⋯) rfl (aW IH) (ae (pv 4) (ae (pv 5) ai))))))))))),?_⟩;simp? only[cf,aD,ou];have hz:=cG;obtain⟨pp,dx,Rr,e0,nQ,as,hR,vA⟩:=hP;cases e0;refine NK D8 rfl nQ aS.cl (aS.no "kind" ∅) (va:=.int 1) (vb:=.int q.k) (λQ h=>h) (λQ h=>?_) ?_
  .simp? only[ot];exact⟨Cp,dx,_,nQ,aS.cl,aS.no "k" ∅,_,rfl,h⟩
  have eN:(if q.kind=dA then V.int 1 else V.int q.k)=.int (we q):=by
   unfold we;split<;>rfl
  rw[eN];have n1:1<=we q/\we q<=6:=by
   unfold we;split<;>omega
  have bS:QV ws q (cY rs q)=QV ws q (cY rs q):=rfl
  conv at bS=>rhs;unfold QV
  generalize hn:we q=n at*;refine⟨_,.inl (aM.of hw.1),_,rfl,.inl ⋯,?_⟩;rw[az];refine bj (λb=>?_) (λb=>kE (by rw[bS,af b]) H aw.rfl');rw[ag b]at bS;have tail:∀(H2:Hp)(R':Addr)(vs':List V)(RS:List (List Int)),aw H H2->H2 R'=some (.lst vs')->Paired (fY H2) vs' RS->(L2.bA ws).length=RS.length->(∀r∈RS,r.length<=100/\∀x∈r,0<=x)->QV ws q (cY rs q)=cM (λx=>setM x.1 x.2) ((L2.bA ws).zip RS)->
    Za (aai K (vq (VH K (ye 0) (tC (V.int 0)) (tC (V.int 2))) (vq (ye 3) Il)))
         (WR K 2 (OG (oq 4) (OG (oq 5) ZL))) FR
         (BF (vM K NB) [] E (vq (ye 4) (vq (ye 5) Il))) [4,5]
         [some (V.ref a),some (V.ref p),some (V.int n),some (V.ref R'),none,none] H2 Q:=by
   intro H2 R' vs' RS s2 hR' ad1 hlen hr1 bS;have GH:=hw.same s2;refine⟨a,_,0,rfl,rfl,rfl,aM.of GH.1,λp2 Iz=>?_⟩;rw[drop_zero,uN];have s3:aw H2 (upd H2 p2 (.lst ((L2.bA ws).map λw=>V.str (S w)))):=aw.new Iz;have UG:=s3 _ _ hR';have NM:Paired (fY (upd H2 p2 (.lst ((L2.bA ws).map λw=>V.str (S w))))) vs' RS:=Paired.fU ad1 λ_ _ z=>z.same s3;generalize hH3:upd H2 p2 (.lst ((L2.bA ws).map λw=>V.str (S w)))=H3 at*;have hev:H3 p2=some (.lst ((L2.bA ws).map λw=>V.str (S w))):=by rw[<-hH3];exact ak
   have hlv:=Paired.eQ NM;refine⟨p2,R',_,_,rfl,aM.of hev,aM.of UG,λD2 Ug=>?_⟩;have HR:((L2.bA ws).zip RS).length=RS.length:=by rw[mF];omega
   have KJ:(L2.bA ws).length<=ws.length:=zS ws;refine zO (n:=RS.length) (λi H'=>aw H3 H'/\∃ys zs,H' D2=some (.lst ys)/\cM (λx:List Nat×List Int=>setM x.1 x.2) (((L2.bA ws).zip RS).take i)=some zs/\Paired (λv ps=>∃x,v=V.ref x/\x≠D2/\H' x=some (.lst (ps.map V.int))) ys zs)
    ⟨aw.new Ug,[],[],ak,rfl,.nil⟩ (λi H' hi h=>?_) ?_ ?_
   .exact⟨_,_,_,_,aM.of (h.1 _ _ hev),aM.of (h.1 _ _ UG),bt (by simp;omega),bt ()⟩
   .rintro i v H' H'' hi ⟨sm,ys,zs,i9,hm,hp⟩ ⟨T',x,y,rfl,nT,rfl,hx,hy⟩;have hx:=hx _ (aM.of (sm _ _ hev));have hy:=hy _ (aM.of (sm _ _ UG));rw[aZ]at hx;cases eu:(L2.bA ws)[i]? with
    |none=>rw[eu]at hx;cases hx
    |some u=>
    rw[eu]at hx;cases hx;obtain⟨r,hr,ia,rfl,V7⟩:=Paired.at' NM hy;have Zj:((L2.bA ws).zip RS)[i]?=some (u,r):=by rw[uk];exact⟨eu,hr⟩
    have hmu:=CI ws u (bg eu);have sT:aw H' (upd H' T' (.tup [.str (S u),.ref ia])):=aw.new nT;have hDT:D2≠T':=λz=>by rw[z,nT]at i9;cases i9
    refine⟨T',_,rfl,.inl (.inl ak),rfl,_,_,rfl,_,_,rfl,rfl,?_⟩;simp? only[vM];refine⟨rfl,?_⟩;simp only[FR,↓reduceIte];have okr:=hr1 r (bg hr);refine⟨_,rfl,_,rfl,u,ia,⟨rfl,rfl⟩,hw.2.2.2 u hmu,B8 u hmu,r,aM.of (sT _ _ (sm _ _ V7)),okr.1,okr.2,λps es H4 x s4 nx hx=>?_,λes H4 s4=>kE (by rw[bS];exact CJ Zj es) H4 (((s2.trans s3).trans sm).trans (sT.trans s4))⟩;have JF:=s4 _ _ (sT _ _ i9);have hxD:x≠D2:=λz=>by rw[z,sT _ _ i9]at nx;cases nx
    have e1:=Paired.eQ hp;have e2:=gB hm;have CD:((L2.bA ws).zip RS).take (i+1)=((L2.bA ws).zip RS).take i++ [(u,r)]:=bp Zj;refine⟨ys,JF,?_,((sm.trans sT).trans s4).kD Ug,ys++ [.ref x],ak,zs++ [ps],?_,?_⟩
    .rw[e1,e2,cP];have:=mn i ((L2.bA ws).zip RS).length;have h3:=hw.2.2.1;omega
    .rw[CD,lR,hm];dsimp only;rw[es]
    .refine ki (Paired.fU hp λv ps' ⟨x',e,n',h⟩=>⟨x',e,n',by rw[aB n'];exact s4 _ _ (sT _ _ h)⟩) ⟨x,rfl,hxD,by rw[aB hxD];exact hx⟩
   .rintro H' ⟨sm,ys,zs,i9,hm,hp⟩;refine⟨⟨_,_,aM.of (sm _ _ hev),aM.of (sm _ _ UG),.inr ()⟩,?_⟩;rw[<-HR,et]at hm;exact kQ zs (by rw[bS,hm]) H' D2 ((s2.trans s3).trans sm) ⟨ys,i9,Paired.fU hp λ_ _ ⟨x,e,_,h⟩=>⟨x,e,h⟩⟩
  refine⟨a,_,1,rfl,rfl,rfl,aM.of hw.1,λp1 LD=>?_⟩;rw[show L2.bA ((ws.map λw=>V.str (S w)).drop 1)=(L2.oE ws).map λw=>V.str (S w) by rw[<-map_drop,uN];rfl];refine⟨p1,rfl,⟨_,aM.of ak⟩,λD1 VX=>?_⟩;have s1:aw H (upd H p1 (.lst ((L2.oE ws).map λw=>V.str (S w)))):=aw.new LD;have V1:(L2.oE ws).length<=ws.length:=aX (zS _) (by rw[dX];omega);have aeG:=hw.2.2.1;refine fS (xs:=(L2.oE ws).map λw=>V.str (S w)) (λH v (b:Bool)=>v=.bl b) (L2.oE ws) (λt=>some (decide (t=kY))) ∅ (by simp;omega) VX (aM.of ak) (λ_ _ _ _ _ e=>e) ?_ ?_
  .intro i x u H' hx hu sm _ R k2;have e:x=.str (S u):=by
    rw[aZ,hu]at hx;exact(Option.some.inj hx).symm
   subst e;simp? only[cf];rw[UE];exact k2 _ _ _ rfl aw.rfl' (by simp only[cS])
  .intro H3 ys3 zs3 sm3 JE Oo QH;rw[de]at Oo;cases Oo;have s3:=s1.trans sm3;refine⟨D1,rfl,_,aM.of (by rw[JE,fm QH]),?_⟩;rw[List.all_map];refine bj (λd=>?_) (λd=>kE (by rw[bS,af];exact d) H3 s3);have d:(L2.oE ws).all (λt=>decide (t=kY))=true:=d;rw[ag d]at bS;have UG:=s3 _ _ hR;have NM:Paired (fY H3) as (cY rs q):=Paired.fU vA λ_ _ z=>z.same s3;have aeH:((L2.bA ws).length:Int)=n:=by
    rw[jx];omega
   simp? only[ZI,ot];refine⟨Cp,dx,_,s3 _ _ nQ,aS.cl,aS.no "kind" ∅,.str (S q.kind),rfl,rfl,?_⟩;rw[zf];simp only[V.str.injEq,cS];refine bj (λc=>?_) (λc=>?_)
   .rw[ag c]at bS;have hk:n=q.k:=by
     rw[<-hn];unfold we;rw[af (by rw[c];decide)]
    exact⟨Cp,dx,_,s3 _ _ nQ,aS.cl,aS.no "races" ∅,_,rfl,tail H3 Rr as (cY rs q) s3 UG NM (by have:=Zm c;omega) A9 bS⟩
   .rw[af c]at bS;have h1:=V8 c;have V9:as.length=1:=by rw[Paired.eQ NM];exact h1
    refine⟨Cp,dx,_,s3 _ _ nQ,aS.cl,aS.no "races" ∅,_,rfl,Rr,n,as,rfl,rfl,UG,by omega,by omega,by rw[V9];omega,λp9 hp9=>?_⟩;have s9:=aw.new (o:=HO.lst (List.replicate n.toNat as).flatten) hp9;refine tail _ p9 _ (List.replicate n.toNat (cY rs q)).flatten (s3.trans s9) ak (Paired.fU (mY NM n.toNat) λ_ _ z=>z.same s9) ?_ (λr hr=>?_) bS
    .rw[len_rep,h1];omega
    .obtain⟨l,hl,hr⟩:=mem_flatten.mp hr;rw[wA hl]at hr;exact A9 r hr
noncomputable def jV(ws:List (List Nat))(q:MP)(R:List (List Int)):Option (List (List Int)):=
 if ws.getD 0 []=NF then QV (ws.drop 1) q R else if q.kind=dB\/q.kind=jr then(if ws.getD 0 []=zR then Bg (ws.drop 1) q.k (R.getD 0 [])else if ws.getD 0 []=UD then Er (ws.drop 1) q.k (R.getD 0 [])else none)else none
def QW(K:PySem.W.Frag)(NB Cp:Addr):Sp:=λvs H Q E=>∃(a p:Addr) (ws:List (List Nat)) (rs:List (List Int)) (q:MP),vs=[.ref a,.ref p]/\Words H a ws/\2<=ws.length/\(∀t∈ws,t.length<=4190)/\jS Cp H (.ref p) rs q/\1<=q.k/\q.k<=6/\(q.kind=cp->((cY rs q).length:Int)=q.k)/\(q.kind≠cp->(cY rs q).length=1)/\(∀r∈cY rs q,r.length<=100/\∀x∈r,0<=x)/\
 (∀ss,jV ws q (cY rs q)=some ss->∀H' x,aw H H'->qT H' x ss->Q (.ref x) H')/\(jV ws q (cY rs q)=none->∀H',aw H H'->E (.ref NB) none H')
def Yl:aE ["words","pool"] ["words","pool"] (ao LC):=by ac_nf
def aa3:Str.ofString "on"=S NF:=by decide+kernel
def V_:Str.ofString "box"=S zR:=by decide+kernel
def aa4:Str.ofString "key"=S UD:=by decide+kernel
def UH(D:Def K mg "read_sets" LC ["words","pool"])(T:Tx mg)(aS:CL P w K mg base "Pool" Cp ["self","name","kind","k","races","unit"] (dD Cp) ["name","kind","k","races","unit"])(uO:Ok P w K mg base (fW P w) 3 "read_on" ["words","pool"] (aa1 K NB Cp))(rM:Ok P w K mg base (fW P w) 3 "read_box" ["words","pool"] (QS K NB Cp))(rN:Ok P w K mg base (fW P w) 3 "read_key" ["words","pool"] (QT K NB Cp))(aK:Ok P w K mg base (fW P w) 1 "require" ["holds"] (aD NB)):Ok P w K mg base (fW P w) 4 "read_sets" ["words","pool"] (QW K NB Cp):=by
 refine D.B9 Yl (λvs H Q E h=>?_) (λf b9 A outer s H vs Q E hr h=>?_)
 .obtain⟨_,_,_,_,_,rfl,_⟩:=h;rfl
 .obtain⟨a,p,ws,rs,q,rfl,hw,w2,B8,hP,k1,k6,Zm,V8,A9,kQ,kE⟩:=h;refine⟨_,(ah (cW (bx cD (bG aP (pv 0) aq (λ_ _=>rfl)) bu (aG _)) (au (aJ (ax (E:=E) uO (hr.mono ⋯) rfl (aW aH) (ae (iQ kr (pv 0) (iH aq) qd) (ae (pv 1) ai))))) bC) (ah (aQ (ax (E:=E) aK (hr.mono ⋯) rfl (aW aH) (ae (Kr (aU cD (bz (pv 1) rfl) bu (aG _)) (i5 (aU cD (bz (pv 1) rfl) bu (aG _)))) ai))) (ah (cW (bx cD (bG aP (pv 0) aq (λ_ _=>rfl)) bu (aG _)) (au (aJ (ax (E:=E) rM (hr.mono ⋯) rfl (aW aH) (ae (iQ kr (pv 0) (iH aq) qd) (ae (pv 1) ai))))) bC) (ah (aQ (ax (E:=E) aK (hr.mono ⋯) rfl (aW aH) (ae (aU cD (bG aP (pv 0) aq (λ_ _=>rfl)) bu (aG _)) ai))) (au (aJ (ax (E:=E) rN (hr.mono ⋯) rfl (aW aH) (ae (iQ kr (pv 0) (iH aq) qd) (ae (pv 1) ai))))))))),?_⟩;simp? only[cf,aD,ot,ou];have bS:jV ws q (cY rs q)=jV ws q (cY rs q):=rfl
  conv at bS=>rhs;unfold jV
  have g0:ws[0]?=some (ws.getD 0 []):=by
   rw[cT,bt ()];rfl
  have q0:=hw.at g0;refine⟨_,aM.of hw.1,_,q0.1,rfl,?_⟩;rw[aa3];simp only[V.str.injEq,cS];have Ym:∀p1,H p1=none->Words (upd H p1 (.lst (lH (ws.map λw=>V.str (S w)) (some 1) none))) p1 (ws.drop 1):=λp1 _=>by
   refine⟨?_,?_,?_,λt ht=>hw.2.2.2 t (oo ht)⟩
   .rw[ak,show lH (ws.map λw=>V.str (S w)) (some 1) none=(ws.map λw=>V.str (S w)).drop 1 from qo _ 1,<-map_drop]
   .intro z;have:=cb List.length z;rw[dX]at this;simp at this;omega
   .rw[dX];have:=hw.2.2.1;omega
  have Yn:∀t∈ws.drop 1,t.length<=4190:=λt ht=>B8 t (oo ht);refine bj (λb=>?_) (λb=>?_)
  .rw[ag b]at bS;refine⟨_,aM.of hw.1,λp1 LD=>?_⟩;have s1:aw H (upd H p1 (.lst (lH (ws.map λw=>V.str (S w)) (some 1) none))):=aw.new LD;exact⟨p1,p,ws.drop 1,rs,q,rfl,Ym p1 LD,Yn,hP.same s1,k1,k6,Zm,V8,A9,λss es H' x s' hx=>kQ ss (by rw[bS,es]) H' x (s1.trans s') hx,λes H' s'=>kE (by rw[bS,es]) H' (s1.trans s')⟩
  rw[af b]at bS;have mix:(q.kind=dB\/q.kind=jr)->∃x,aM K H a x/\∃x_3,Ol x 0=some x_3/\Dj x_3 (V.str (Str.ofString "box"))=true/\if x_3=V.str (Str.ofString "box")then∃x,aM K H a x/\∀Yo:Addr,H Yo=none->QS K NB Cp [V.ref Yo,V.ref p] (upd H Yo (HO.lst (lH x (some 1) none))) Q E
    else∃x,aM K H a x/\∃x_4,Ol x 0=some x_4/\Dj x_4 (V.str (Str.ofString "key"))=true/\if x_4=V.str (Str.ofString "key")then∃x,aM K H a x/\∀Yo:Addr,H Yo=none->QT K NB Cp [V.ref Yo,V.ref p] (upd H Yo (HO.lst (lH x (some 1) none))) Q E else E (Value.ref NB) none H:=by
   intro c;rw[ag c]at bS;have gU:q.kind≠cp:=by
    obtain c|c:=c<;>rw[c] <;>decide
   have h1:=V8 gU;have hI:(cY rs q)[0]?=some ((cY rs q).getD 0 []):=by
    rw[cT,bt ()];rfl
   have il:=A9 _ (bg hI);refine⟨_,aM.of hw.1,_,q0.1,rfl,?_⟩;rw[V_,aa4];simp only[V.str.injEq,cS];refine bj (λd=>?_) (λd=>?_)
   .rw[ag d]at bS;refine⟨_,aM.of hw.1,λp1 LD=>?_⟩;have s1:aw H (upd H p1 (.lst (lH (ws.map λw=>V.str (S w)) (some 1) none))):=aw.new LD;exact⟨p1,p,ws.drop 1,rs,q,rfl,Ym p1 LD,Yn,hP.same s1,_,hI,il.1,il.2,λss es H' x s' hx=>kQ ss (by rw[bS,es]) H' x (s1.trans s') hx,λes H' s'=>kE (by rw[bS,es]) H' (s1.trans s')⟩
   .rw[af d]at bS;refine⟨_,aM.of hw.1,_,q0.1,rfl,?_⟩;simp only[V.str.injEq,cS];refine bj (λe=>?_) (λe=>kE (by rw[bS,af e]) H aw.rfl');rw[ag e]at bS;refine⟨_,aM.of hw.1,λp1 LD=>?_⟩;have s1:aw H (upd H p1 (.lst (lH (ws.map λw=>V.str (S w)) (some 1) none))):=aw.new LD;exact⟨p1,p,ws.drop 1,rs,q,rfl,Ym p1 LD,Yn,hP.same s1,_,hI,il.1,il.2,λss es H' x s' hx=>kQ ss (by rw[bS,es]) H' x (s1.trans s') hx,λes H' s'=>kE (by rw[bS,es]) H' (s1.trans s')⟩
  obtain⟨pp,dx,Rr,e0,nQ,hRR⟩:=hP;cases e0;refine⟨Cp,dx,_,nQ,aS.cl,aS.no "kind" ∅,.str (S q.kind),rfl,rfl,?_⟩;rw[show Str.ofString "order"=S dB by decide+kernel];simp only[V.str.injEq,cS];refine bj (λc=>mix (.inl c)) (λc=>?_);refine⟨Cp,dx,_,nQ,aS.cl,aS.no "kind" ∅,.str (S q.kind),rfl,rfl,?_⟩;rw[show Str.ofString "any"=S jr by decide+kernel];simp only[V.str.injEq,cS];refine bj (λd=>mix (.inr d)) (λd=>kE (by rw[bS,af (λz=>z.elim c d)]) H aw.rfl')
end
noncomputable abbrev zT:Stmt:=top 14
section
noncomputable def cZ(n:Nat)(row:List Int):List Int:=((List.range n).map λ(i:Nat)=>(0:Int)+(i:Int)).filter λx=>!decide (x∈row)
noncomputable def i_(n:Nat)(places:List Int)(x:List Int×Int):List (List Int×Int):=(cZ n x.1).zipIdx.filterMap λy=>if y.1∈places then some (x.1++ [y.1],x.2*(cZ n x.1).length+(y.2:Nat))else none
noncomputable def jj(n:Nat)(rows:List (List Int×Int))(places:List Int):List (List Int×Int):=rows.flatMap (i_ n places)
noncomputable def eM(n:Nat)(ss:List (List Int)):List (List Int×Int):=ss.foldl (jj n) [([],0)]
def Bh(K:PySem.W.Frag)(H:Hp)(v:V)(x:List Int×Int):Prop:=∃t r,v=.ref t/\H t=some (.tup [.ref r,.int x.2])/\H r=some (.tup (x.1.map V.int))
def Es(K:PySem.W.Frag)(H:Hp)(L:Addr)(rows:List (List Int×Int)):Prop:=∃vs,H L=some (.lst vs)/\Paired (Bh K H) vs rows
def LJ(K:PySem.W.Frag):Sp:=λvs H Q _=>∃(S':Addr) (ss:List (List Int)) (n:Nat),vs=[.ref S',.int n]/\qT H S' ss/\ss.length<=4/\n<=24/\∀H' L,aw H H'->H L=none->Es K H' L (eM n ss)->Q (.ref L) H'
def Bh.same{x:List Int×Int}(h:Bh K H v x)(s:aw H H'):Bh K H' v x:=by
 obtain⟨t,r,e,h1,h2⟩:=h;exact⟨t,r,e,s _ _ h1,s _ _ h2⟩
theorem Bh.upd{x:List Int×Int}{M:Addr}{l l2:List V}(h:Bh K H v x)(hM:H M=some (.lst l)):Bh K (upd H M (.lst l2)) v x:=by
 obtain⟨t,r,e,h1,h2⟩:=h;refine⟨t,r,e,?_,?_⟩
 .rw[aB (λz=>by rw[z,hM]at h1;cases h1)];exact h1
 .rw[aB (λz=>by rw[z,hM]at h2;cases h2)];exact h2
def JG k row:cZ (k+1) row=cZ k row++(if((0:Int)+(k:Int))∉row then [(0:Int)+(k:Int)]else []):=by
 unfold cZ;rw[range_succ,eC,w8];by_cases c:((0:Int)+(k:Int))∈row
 .simp at c;simp[c]
 .simp at c;simp[c]
def uP n row:(cZ n row).length<=n:=by
 refine aX (om _ _) ?_;simp
def zU n pl x:(i_ n pl x).length<=n:=by
 refine aX (length_filterMap_le _ _) ?_;rw[length_zipIdx];exact uP n x.1
theorem Et{f:α->List β}{z:Nat}(h:∀x,(f x).length<=z):∀l:List α,(l.flatMap f).length<=l.length*z
 |[]=>by simp
 |x::l=>by
  rw[kN,c9,aY,Nat.succ_mul];have:=h x;have:=Et h l;omega
def JH n ss s:eM n (ss++ [s])=jj n (eM n ss) s:=by
 unfold eM;rw[pN];rfl
def uQ n (h:n<=24):∀ss:List (List Int),(eM n ss).length<=24^ss.length:=λss=>by
 have:∀(l:List (List Int))(rows:List (List Int×Int)),(l.foldl (jj n) rows).length<=rows.length*24^l.length:=by
  intro l
  induction l with
  |nil=>intro rows;simp
  |cons s l ih=>
   intro rows;rw[fH,aY];refine aX (ih _) ?_;have h1:=Et (λx=>aX (zU n s x) h) rows;rw[kg,mB (24^l.length) 24,<-sI];exact sr _ h1
 have:=this ss [([],0)];simpa[eM]using this
def NN n:∀ss,∀x∈eM n ss,x.1.length=ss.length:=λss=>by
 have:∀(l:List (List Int))(rows:List (List Int×Int))(m:Nat),(∀x∈rows,x.1.length=m)->∀x∈l.foldl (jj n) rows,x.1.length=m+l.length:=by
  intro l
  induction l with
  |nil=>intro rows m h x hx;exact h x hx
  |cons s l ih=>
   intro rows m h x hx;rw[aY];have:=ih (jj n rows s) (m+1) (λy hy=>?_) x hx
   .omega
   .obtain⟨z,hz,hy⟩:=mem_flatMap.mp hy;obtain⟨u,hu,e⟩:=mem_filterMap.mp hy;split at e
    .cases e;rw[c9,h z hz];rfl
    .cases e
 intro x hx;have:=this ss [([],0)] 0 ∅ x hx;omega
def gM:aE ["sets","interests","rows","places","longer","row","number","free","lesser","place"] ["sets","interests"] (ao zT):=by ac_nf
def QX(D:Def K mg "numbered_rows" zT ["sets","interests"])(T:Tx mg):Ok P w K mg base eX 1 "numbered_rows" ["sets","interests"] (LJ K):=by
 refine D.ok gM (λvs H Q E h=>?_) (λf b9 A outer s H vs Q E hr h=>?_)
 .obtain⟨_,_,_,rfl,_⟩:=h;rfl
 .obtain⟨S',ss,n,rfl,⟨as,hS,hp⟩,sl,Wa,kQ⟩:=h;have hu:=vt hr;have hz:=cG;refine⟨_,(ah (aO (i:=2) gM.nd rfl (Or.inl rfl) (gu (ae (yq (ae (yq ai) (ae aq ai))) ai))) (ah (fJ hU rfl (bZ (pv 0)) (aT (i:=3) gM.nd rfl (Or.inl rfl)) (ah (aO (i:=4) gM.nd rfl (Or.inl rfl) (gu ai)) (ah (fJ hU rfl (bZ (pv 2)) (yk (n:=2) rfl (cK (aT (i:=5) gM.nd rfl (Or.inr rfl)) (cK (aT (i:=6) gM.nd rfl (Or.inl rfl)) km))) (ah (qi (own:=[("place",9)]) rfl gM.nd (i:=7) rfl rfl (sY rfl rfl rfl rfl) (Bx rfl T.iJ (ae (pv 1) ai)) (bX (N:=["sets","interests","rows","places","longer","row","number","free","lesser","place"]) (sc:=ao zT) (by decide+kernel)) (λ_ _ _ _ _=>aT (i:=9) gM.nd rfl (Or.inl rfl)) (λ_ _ _ _ _=>(xl (bx (qS (K:=K) rfl) (pv 9) (pv 5) rfl))) (λ_ _ _ _ _=>(pv 9))) (au (fJ hU rfl (TB rfl T.gf (ae (pv 7) ai)) (yk (n:=2) rfl (cK (aT (i:=8) gM.nd rfl (Or.inl rfl)) (cK (aT (i:=9) gM.nd rfl (Or.inl rfl)) km))) (au (cW (bx uw (pv 9) (pv 3) rfl) (au (aQ (Ky x5 PySem.F.slot_list_append PySem.F.type_list_append MC (pv 4) (ae (yq (ae (bR Uy (pv 5) (yq (ae (pv 9) ai))) (ae (bR fV (bR rm (pv 6) (aC aA (by rfl) T.cq bN (ae (pv 7) ai))) (pv 8)) ai))) ai)))) bC)))))) (au (aO (i:=2) gM.nd rfl (Or.inl rfl) (pv 4)))))) (au (aJ (pv 2))))),?_⟩;simp? only[cf,ou];have Xc:=Paired.eQ hp;refine⟨by simp,λr0 hr0=>⟨by show 2<=_;omega,λt0 Sq=>⟨by omega,λL0 Qc=>?_⟩⟩⟩;have hrt:r0≠t0:=λz=>by rw[<-z,ak]at Sq;cases Sq
  have hrL:r0≠L0:=λz=>by rw[<-z,aB hrt,ak]at Qc;cases Qc
  have htL:t0≠L0:=λz=>by rw[<-z,ak]at Qc;cases Qc
  have s0:aw H (upd (upd (upd H r0 (.tup [])) t0 (.tup [.ref r0,.int 0])) L0 (.lst [.ref t0])):=((aw.new hr0).trans (aw.new Sq)).trans (aw.new Qc);have ad2:H L0=none:=(aw.new hr0).free ((aw.new Sq).free Qc);have rw0:Es K (upd (upd (upd H r0 (.tup [])) t0 (.tup [.ref r0,.int 0])) L0 (.lst [.ref t0])) L0 (eM n []):=⟨_,ak,.cons ⟨t0,r0,rfl,by rw[aB htL,ak],by rw[aB hrL,aB hrt,ak];rfl⟩ .nil⟩;generalize(upd (upd (upd H r0 (.tup [])) t0 (.tup [.ref r0,.int 0])) L0 (.lst [.ref t0]))=H0 at*;refine⟨S',rfl,⟨_,aM.of (s0 _ _ hS)⟩,iP (K:=K) (a:=S') (xs:=as) (λi σ H'=>∃(L:Addr) (v3 v4 v5 v6 v7 v8 v9:Option V),σ=[some (.ref S'),some (.int n),some (.ref L),v3,v4,v5,v6,v7,v8,v9]/\aw H H'/\H L=none/\Es K H' L (eM n (ss.take i)))
   ⟨L0,none,none,none,none,none,none,none,rfl,s0,ad2,rw0⟩ (λi σ H' _ h=>by obtain⟨_,_,_,_,_,_,_,_,_,sm,_⟩:=h;exact aM.of (sm _ _ hS)) ?_ ?_⟩
  .rintro i v σ H' hi ⟨L,v3,v4,v5,v6,v7,v8,v9,rfl,sm,nL,vs,hL,QF⟩;obtain⟨DV,iG,pa,rfl,QY⟩:=Paired.at' hp hi;have ad3:=sm _ _ QY;have Xb:=Paired.eQ QF;have Sr:ss.take (i+1)=ss.take i++ [DV]:=bp iG;have hil:i<ss.length:=(List.getElem?_eq_some_iff.mp iG).1;have A9:(eM n (ss.take i)).length<=24^3:=by
    refine aX (uQ n Wa _) (su ⋯ ?_);rw[cP];omega
   have Yp:∀x∈eM n (ss.take i),x.1.length<=4:=λx hx=>by
    rw[NN n _ x hx,cP];omega
   generalize hRW:eM n (ss.take i)=rows at*;simp? only[cf,ou];refine⟨by omega,λM hM=>?_⟩;have hLM:L≠M:=λz=>by rw[<-z,hL]at hM;cases hM
   have nM0:H M=none:=sm.free hM;have sM:aw H' (upd H' M (.lst [])):=aw.new hM;refine⟨L,rfl,⟨_,aM.of (sM _ _ hL)⟩,iP (K:=K) (a:=L) (xs:=vs) (λj σ H2=>∃v5 v6 v7 v8 v9:Option V,σ=[some (.ref S'),some (.int n),some (.ref L),some (.ref pa),some (.ref M),v5,v6,v7,v8,v9]/\aw H' H2/\∃acc,H2 M=some (.lst acc)/\Paired (Bh K H2) acc ((rows.take j).flatMap (i_ n DV)))
    ⟨_,_,_,_,_,rfl,sM,[],ak,by rw[take_zero];exact .nil⟩ (λj σ H2 _ h=>by obtain⟨_,_,_,_,_,_,s2,_⟩:=h;exact aM.of (s2 _ _ hL)) ?_ ?_⟩
   .rintro j v σ H2 hj ⟨v5,v6,v7,v8,v9,rfl,s2,acc,oH,QZ⟩;obtain⟨x,hx,Yq⟩:=Paired.at' QF hj;obtain⟨t,r,rfl,ht,hr⟩:=Yq.same s2;have hxm:=Yp x (bg hx);have CD:rows.take (j+1)=rows.take j++ [x]:=bp hx;have V9:=Paired.eQ QZ;have haf:((rows.take j).flatMap (i_ n DV)).length<=24^3*24:=by
     refine aX (Et (λx=>aX (zU n DV x) Wa) _) (sr _ ?_);rw[cP];exact aX (mn _ _) A9
    generalize hFM:(rows.take j).flatMap (i_ n DV)=done at*;refine⟨t,_,rfl,.inl (.inl ht),rfl,_,_,rfl,_,_,rfl,rfl,?_⟩;simp? only[];refine⟨(n:Int),rfl,by omega,by omega,λD hD=>?_⟩;rw[gm];have hDM:D≠M:=λz=>by rw[z,oH]at hD;cases hD
    refine FT (lo:=0) (n:=n) (λk H3=>aw H2 H3/\H3 D=some (.lst ((cZ k x.1).map V.int))) ⟨aw.new hD,ak⟩ ?_ ?_
    .rintro k H3 hk ⟨s3,h3⟩;simp? only[Se];refine⟨rfl,_,rfl,_,rfl,r,rfl,_,.inr (.inl (.inl (s3 _ _ hr))),rfl,by simp[gY],?_⟩;rw[oS];have fs:=JG k x.1;have fl:=uP k x.1;refine bj (λb=>?_) (λb=>?_)
     .rw[ag ‹b›]at fs;refine⟨_,rfl,_,h3,by rw[az];omega,s3.kD hD,?_⟩;rw[ak,fs,eC];rfl
     .rw[af ‹b›,h_]at fs;exact⟨s3,by rw[fs];exact h3⟩
    .rintro H3 ⟨s3,h3⟩;have sD:aw H' H3:=s2.trans s3;have aa5:=s3 _ _ oH;have hfl:=uP n x.1;obtain⟨Pv,Zn⟩:∃Pv:Nat->L2.St->Hp->Prop,∀k σ H4,Pv k σ H4↔∃v8 v9:Option V,σ=[some (.ref S'),some (.int n),some (.ref L),some (.ref pa),some (.ref M),some (.ref r),some (.int x.2),some (.ref D),v8,v9]/\aw H' H4/\H4 D=some (.lst ((cZ n x.1).map V.int))/\H4 r=some (.tup (x.1.map V.int))/\
       ∃acc,H4 M=some (.lst acc)/\Paired (Bh K H4) acc (done++((cZ n x.1).zipIdx.take k).filterMap λy=>if y.1∈DV then some (x.1++ [y.1],x.2*(cZ n x.1).length+(y.2:Nat))else none):=⟨_,λ_ _ _=>Iff.rfl⟩
     refine⟨D,_,rfl,aM.of h3,Lx (J:=Ite K D) (n:=(cZ n x.1).length) Pv
      ((Zn _ _ _).mpr ⟨_,_,rfl,sD,h3,s3 _ _ hr,acc,aa5,by rw[take_zero];simpa using Paired.fU QZ λ_ _ z=>z.same s3⟩) (λk σ H4 hk h=>?_) ?_ ?_⟩
     .obtain⟨_,_,_,_,h5,_⟩:=(Zn _ _ _).mp h;exact⟨_,_,aM.of h5,bt ‹hk›⟩
     .rintro k v σ H4 H5 hk hh ⟨T',y,rfl,nT,rfl,hy⟩;obtain⟨v8',v9',rfl,s4,h4,Zo,Q0,Wb,Zq⟩:=(Zn _ _ _).mp hh;clear hh;have hy:=hy _ (aM.of h4);have hfk:(cZ n x.1)[k]?=some (cZ n x.1)[k]:=bt hk;rw[aZ,hfk]at hy;cases hy;have hzk:(cZ n x.1).zipIdx[k]?=some ((cZ n x.1)[k],k):=by
       rw[getElem?_zipIdx,hfk];simp
      have aa6:(cZ n x.1).zipIdx.take (k+1)=(cZ n x.1).zipIdx.take k++ [((cZ n x.1)[k],k)]:=bp hzk;generalize(cZ n x.1)[k]=pk at*;have sT:aw H4 (upd H4 T' (.tup [.int (k:Nat),.int pk])):=aw.new nT;refine⟨T',_,rfl,.inl (.inl ak),rfl,_,_,rfl,_,_,rfl,rfl,?_⟩;simp? only[Se,Y7,W0,Kz,V4];have ad4:=sT _ _ (s4 _ _ ad3);refine⟨_,.inl (aM.of ad4),rfl,by simp[gY],?_⟩;rw[oS];have ad5:=Paired.eQ Zq;have Xu:Q0.length<sizeLine:=by
       rw[ad5,c9];have h1:=length_filterMap_le (λy:Int×Nat=>if y.1∈DV then some (x.1++ [y.1],x.2*(cZ n x.1).length+(y.2:Nat))else none) ((cZ n x.1).zipIdx.take k);rw[cP,length_zipIdx]at h1;have h2:=mn k (cZ n x.1).length;omega
      refine bj (λb=>?_) (λb=>?_)
      .have b:pk∈DV:=by simpa using b
       have ef:([(pk,k)].filterMap λy:Int×Nat=>if y.1∈DV then some (x.1++ [y.1],x.2*(cZ n x.1).length+(y.2:Nat))else none)=[(x.1++ [pk],x.2*(cZ n x.1).length+(k:Nat))]:=by simp[b]
       have hMT:=sT _ _ Wb;refine⟨(.inl ⟨rfl,_,aM.of hMT⟩:W7 K "list" (.ref M) _),by omega,λp1 LD=>?_⟩;have s1:=aw.new (o:=HO.tup [V.int pk]) LD;have hr5:=s1 _ _ (sT _ _ Zo);have hD5:=s1 _ _ (sT _ _ h4);have fin:∀(H6:Hp)(r6:Addr),aw H4 H6->H6 r6=some (.tup ((x.1++ [pk]).map V.int))->∃x_1:List V,(aM K H6 D x_1\/jM K H6 D x_1)/\OM x.2 ((x_1.length:Nat):Int)/\2<=sizeLine/\∀p7:Addr,H6 p7=none->∃x_2:List V,upd H6 p7 (HO.tup [V.ref r6,V.int (x.2*((x_1.length:Nat):Int)+((k:Nat):Int))]) M=some (HO.lst x_2)/\x_2.length<sizeLine/\
         Pv (k+1) [some (.ref S'),some (.int n),some (.ref L),some (.ref pa),some (.ref M),some (.ref r),some (.int x.2),some (.ref D),some (.int (k:Nat)),some (.int pk)] (upd (upd H6 p7 (HO.tup [V.ref r6,V.int (x.2*((x_1.length:Nat):Int)+((k:Nat):Int))])) M (HO.lst (x_2++ [V.ref p7]))):=by
        intro H6 r6 s6 h6;refine⟨_,.inl (aM.of (s6 _ _ h4)),.inr ⟨by simp;omega,by simp;omega⟩,by omega,λp7 Zr=>?_⟩;rw[az];have s7:=aw.new (o:=HO.tup [V.ref r6,V.int (x.2*((cZ n x.1).length:Nat)+((k:Nat):Int))]) Zr;have s47:=s6.trans s7;have hM7:=s47 _ _ Wb;have hrM:r≠M:=λz=>by rw[z,Wb]at Zo;cases Zo
        have hpM:p7≠M:=λz=>by rw[z,s6 _ _ Wb]at Zr;cases Zr
        have h6M:r6≠M:=λz=>by rw[z,s6 _ _ Wb]at h6;cases h6
        have h67:r6≠p7:=λz=>by rw[z,Zr]at h6;cases h6
        refine⟨Q0,hM7,Xu,(Zn _ _ _).mpr ⟨_,_,rfl,(s4.trans s47).kD hM,?_,?_,_,ak,?_⟩⟩
        .rw[aB hDM];exact s47 _ _ h4
        .rw[aB hrM];exact s47 _ _ Zo
        .rw[aa6,filterMap_append,<-g9,ef];refine ki (Paired.fU Zq λ_ _ z=>(z.same s47).upd hM7) ⟨p7,r6,rfl,?_,?_⟩
         .rw[aB hpM,ak]
         .rw[aB h6M,aB h67];exact h6
       refine⟨_,.inl (.inl hr5),_,.inl (.inl ak),by simp,by simp;omega,λc=>?_,λc=>?_⟩
       .have c:x.1=[]:=by simpa using c
        exact fin _ p1 (sT.trans s1) (by rw[ak,c];rfl)
       .intro p8 hp8;exact fin _ p8 ((sT.trans s1).trans (aw.new hp8)) (by rw[ak,eC];rfl)
      .have b:¬pk∈DV:=by simpa using b
       have ef:([(pk,k)].filterMap λy:Int×Nat=>if y.1∈DV then some (x.1++ [y.1],x.2*(cZ n x.1).length+(y.2:Nat))else none)=[]:=by simp[b]
       refine(Zn _ _ _).mpr ⟨_,_,rfl,s4.trans sT,sT _ _ h4,sT _ _ Zo,Q0,sT _ _ Wb,?_⟩;rw[aa6,filterMap_append,ef,h_];exact Paired.fU Zq λ_ _ z=>z.same sT
     .intro σ H4 hh;obtain⟨v8',v9',rfl,s4,h4,Zo,Q0,Wb,Zq⟩:=(Zn _ _ _).mp hh;refine⟨⟨_,aM.of h4,by simp⟩,⟨_,_,_,_,_,rfl⟩,s4,Q0,Wb,?_⟩;rw[CD,flatMap_append,hFM];have e:((cZ n x.1).zipIdx).take (cZ n x.1).length=(cZ n x.1).zipIdx:=qY ∅;rw[e]at Zq;simpa[i_]using Zq
   .rintro σ H2 ⟨v5,v6,v7,v8,v9,rfl,s2,acc,oH,QZ⟩;rw[Xb,et]at QZ;refine⟨M,⟨_,_,_,_,_,_,_,rfl⟩,sm.trans s2,nM0,acc,oH,?_⟩;rw[Sr,JH,hRW];exact QZ
  .rintro σ H' ⟨L,v3,v4,v5,v6,v7,v8,v9,rfl,sm,nL,hRA⟩;rw[show as.length=ss.length from Xc,et]at hRA;exact kQ H' L sm nL hRA
end
end Pd
end
section
namespace L2
open PySem PySem.Spec PyProof.Rows
def Bi(hK:X.K=K):kn X (.builtin "len") (λxs H Q=>eL xs λp=>∃ys,(aM K H p ys\/jM K H p ys)/\Q (.int (ys.length:Nat)) H):=by
 subst hK;exact aA
end L2
namespace Pd
open PySem PySem.Spec PyProof.Rows L2 TL
noncomputable abbrev Hg:Stmt:=top 13
section
noncomputable def gi(ns:List Int)(x:List Int×List Int):List Int:=ns.flatMap λm=>x.1.map λp=>m*(x.2.length:Int)+p
noncomputable def oU(l:List (List Int×List Int)):List Int:=l.foldl gi [0]
def Q5(K:PySem.W.Frag):Sp:=λvs H Q _=>∃(S' R:Addr) (ss rs:List (List Int)),vs=[.ref S',.ref R]/\qT H S' ss/\qT H R rs/\ss.length=rs.length/\(∀s∈ss,s.length<=100)/\(∀r∈rs,r.length<=100)/\(∀i,(oU ((ss.zip rs).take i)).length<=300000)/\∀H' L,aw H H'->H L=none->H' L=some (.lst ((oU (ss.zip rs)).map V.int))->Q (.ref L) H'
def mZ:aE ["sets","races","numbers","places","interests","longer","number","place"] ["sets","races"] (ao Hg):=by ac_nf
def CK l x:oU (l++ [x])=gi (oU l) x:=by
 unfold oU;rw[pN];rfl
def UI(D:Def K mg "leg_numbers" Hg ["sets","races"])(T:Tx mg):Ok P w K mg base eX 1 "leg_numbers" ["sets","races"] (Q5 K):=by
 refine D.ok mZ (λvs H Q E h=>?_) (λf b9 A outer s H vs Q E hr h=>?_)
 .obtain⟨_,_,_,_,rfl,_⟩:=h;rfl
 .obtain⟨S',R,ss,rs,rfl,⟨as,hS,HY⟩,⟨bs,hR,Lg⟩,hlen,sl,rl,lim,kQ⟩:=h;have hu:=vt hr;have hz:=cG;refine⟨_,(ah (aO (i:=2) mZ.nd rfl (Or.inl rfl) (gu (ae aq ai))) (ah (fJ hU rfl (Pa rfl T.y6 (ae (pv 0) (ae (pv 1) ai))) (yk (n:=2) rfl (cK (aT (i:=3) mZ.nd rfl (Or.inl rfl)) (cK (aT (i:=4) mZ.nd rfl (Or.inr rfl)) km))) (ah (aO (i:=5) mZ.nd rfl (Or.inl rfl) (gu ai)) (ah (fJ hU rfl (bZ (pv 2)) (aT (i:=6) mZ.nd rfl (Or.inr rfl)) (au (aQ (Ky x5 PySem.F.slot_list_extend PySem.F.type_list_extend BO (pv 5) (ae (ie (own:=[("place",7)]) rfl mZ.nd (bZ (pv 3)) (bX (N:=["sets","races","numbers","places","interests","longer","number","place"]) (sc:=ao Hg) (by decide+kernel)) (λ_ _ _ _ _=>aT (i:=7) mZ.nd rfl (Or.inl rfl)) (λ_ _ _ _ _=>dH) (λ_ _ _ _ _=>(bR fV (bR rm (pv 6) (aC (Bi (K:=K) rfl) (by rfl) T.cq bN (ae (pv 4) ai))) (pv 7)))) ai))))) (au (aO (i:=2) mZ.nd rfl (Or.inl rfl) (pv 5)))))) (au (aJ (pv 2))))),?_⟩;simp? only[cf,ou];have V9:=Paired.eQ HY;have hbl:=Paired.eQ Lg;refine⟨by omega,λL0 Qc=>?_⟩;have s0:=aw.new (o:=HO.lst [V.int 0]) Qc;refine⟨S',R,_,_,rfl,aM.of (s0 _ _ hS),aM.of (s0 _ _ hR),?_⟩;refine Ul (K:=K) (a:=S') (b:=R) (xs:=as) (ys:=bs) (λi σ H'=>∃(L:Addr) (v3 v4 v5 v6 v7:Option V),σ=[some (.ref S'),some (.ref R),some (.ref L),v3,v4,v5,v6,v7]/\aw H H'/\H L=none/\H' L=some (.lst ((oU ((ss.zip rs).take i)).map V.int)))
   () ⟨L0,_,_,_,_,_,rfl,s0,Qc,by rw[ak];rfl⟩ (λi σ H' _ h=>?_) ?_ ?_
  .obtain⟨_,_,_,_,_,_,_,sm,_⟩:=h;exact⟨aM.of (sm _ _ hS),aM.of (sm _ _ hR)⟩
  .rintro i x y T' σ H' hx hy ⟨L,v3,v4,v5,v6,v7,rfl,sm,nL,hL⟩ nT;obtain⟨pl,iG,pa,rfl,QY⟩:=Paired.at' HY hx;obtain⟨rr,hrr,ra,rfl,vA⟩:=Paired.at' Lg hy;have Zj:(ss.zip rs)[i]?=some (pl,rr):=by rw[uk];exact⟨iG,hrr⟩
   have CD:(ss.zip rs).take (i+1)=(ss.zip rs).take i++ [(pl,rr)]:=bp Zj;have l1:=lim i;have l2:=lim (i+1);rw[CD,CK]at l2;have lp:=sl pl (bg iG);have lr:=rl rr (bg hrr);generalize hNS:oU ((ss.zip rs).take i)=NS at*;have sT:aw H' (upd H' T' (.tup [.ref pa,.ref ra])):=aw.new nT;have hL5:=sT _ _ hL;have ad6:=sT _ _ (sm _ _ QY);have ad7:=sT _ _ (sm _ _ vA);have s5:=sm.trans sT;refine⟨T',_,rfl,.inl (.inl ak),rfl,_,_,rfl,_,_,rfl,rfl,?_⟩;generalize upd H' T' (.tup [.ref pa,.ref ra])=H5 at*;simp? only[ou];refine⟨by omega,λM hM=>?_⟩;have nM0:H M=none:=s5.free hM;have hLM:L≠M:=λz=>by rw[<-z,hL5]at hM;cases hM
   have sM:aw H5 (upd H5 M (.lst [])):=aw.new hM;refine⟨L,rfl,⟨_,aM.of (sM _ _ hL5)⟩,iP (K:=K) (a:=L) (xs:=NS.map V.int) (λj σ H6=>∃v6 v7:Option V,σ=[some (.ref S'),some (.ref R),some (.ref L),some (.ref pa),some (.ref ra),some (.ref M),v6,v7]/\aw H5 H6/\H6 M=some (.lst ((gi (NS.take j) (pl,rr)).map V.int)))
    ⟨_,_,rfl,sM,by rw[ak];rfl⟩ (λj σ H6 _ h=>by obtain⟨_,_,_,s6,_⟩:=h;exact aM.of (s6 _ _ hL5)) ?_ ?_⟩
   .rintro j v σ H6 hj ⟨v6',v7',rfl,s6,hM6⟩;rw[aZ]at hj;cases em:NS[j]? with
    |none=>rw[em]at hj;cases hj
    |some m=>
    rw[em]at hj;cases hj;have htj:NS.take (j+1)=NS.take j++ [m]:=bp em;have p6:gi (NS.take (j+1)) (pl,rr)=gi (NS.take j) (pl,rr)++pl.map λp=>m*(rr.length:Int)+p:=by
     rw[htj];unfold gi;rw[flatMap_append];simp
    have hlm:(gi (NS.take (j+1)) (pl,rr)).length<=300000:=by
     refine aX ?_ l2;have:NS=NS.take (j+1)++NS.drop (j+1):=(sC _ _).symm
     conv=>rhs;rw[this]
     unfold gi;rw[flatMap_append,c9];omega
    rw[p6]at hlm;simp? only[Y7,Dv];refine⟨(.inl ⟨rfl,_,aM.of hM6⟩:W7 K "list" (.ref M) H6),?_⟩;have aa7:=s6 _ _ ad6;have ad8:=s6 _ _ ad7;refine⟨pa,rfl,⟨_,aM.of aa7⟩,λD hD=>?_⟩;refine fS (xs:=pl.map V.int) (λH v (z:Int)=>v=.int z) pl (λp=>some (m*(rr.length:Int)+p)) ∅ (by simp;omega) hD (aM.of aa7) (λ_ _ _ _ _ e=>e) ?_ ?_
    .intro k x u H7 hx7 hu7 X0 _ R k2;have e:x=.int u:=by
      rw[aZ,hu7]at hx7;exact(Option.some.inj hx7).symm
     subst e;simp? only[];refine⟨_,.inl (aM.of (X0 _ _ ad8)),.inr ⟨by simp;omega,by simp;omega⟩,?_⟩;exact k2 _ _ _ rfl aw.rfl' (by rw[az])
    .intro H7 ys zs X0 i9 hm7 Zr;rw[de]at hm7;cases hm7;have i9:H7 D=some (.lst ((pl.map λp=>m*(rr.length:Int)+p).map V.int)):=by rw[i9,fm Zr]
     have hM7:=X0 _ _ hM6;refine⟨D,rfl,_,hM7,_,i9,?_,⟨⟨_,rfl⟩,⟨_,rfl⟩⟩,(s6.trans X0).kD hM,?_⟩
     .rw[c9,az]at hlm;simp only[length_map];omega
     .rw[ak,p6,eC]
   .rintro σ H6 ⟨v6',v7',rfl,s6,hM6⟩;rw[az,et]at hM6;refine⟨M,⟨_,_,_,_,_,rfl⟩,s5.trans s6,nM0,?_⟩;rw[CD,CK,hNS];exact hM6
  .rintro σ H' ⟨L,v3,v4,v5,v6,v7,rfl,sm,nL,hL⟩;rw[V9,<-show(ss.zip rs).length=ss.length by rw[mF];omega,et]at hL;exact kQ H' L sm nL hL
end
noncomputable abbrev LK:Stmt:=top 15
section
noncomputable def Eu(n rest:Nat)(lo pl:Int):Int:=((List.range (pl-lo).toNat).map λ(i:Nat)=>Cv ((n:Int)-(lo+(i:Int))-1) (rest:Int)).sum
noncomputable def jW(n:Nat):List Int->Int->Int->Int
 |[],_,num=>num|pl::r,lo,num=>jW n r (pl+1) (num+Eu n r.length lo pl)
def JI(K:PySem.W.Frag):Sp:=λvs H Q _=>∃(r:Addr) (row:List Int) (n:Nat),vs=[.ref r,.int n]/\jM K H r (row.map V.int)/\row.length<=6/\n<=24/\(∀x∈row,0<=x/\x<n)/\row.Pairwise (·<·)/\∀H',aw H H'->Q (.int (jW n row 0 0)) H'
def m5:aE ["row","interests","number","lowest","at","place","rest","lesser"] ["row","interests"] (ao LK):=by ac_nf
def UJ(D:Def K mg "set_number" LK ["row","interests"])(T:Tx mg)(fD:Ok P w K mg base eX 2 "count_sets" ["interests","k"] xN):Ok P w K mg base eX 3 "set_number" ["row","interests"] (JI K):=by
 refine D.ok m5 (λvs H Q E h=>?_) (λf b9 A outer s H vs Q E hr h=>?_)
 .obtain⟨_,_,_,rfl,_⟩:=h;rfl
 .obtain⟨r,row,n,rfl,Yr,rl,Wa,lZ,Ys,kQ⟩:=h;have hz:=cG;refine⟨_,(ah (aO (i:=2) m5.nd rfl (Or.inl rfl) aq) (ah (aO (i:=3) m5.nd rfl (Or.inl rfl) aq) (ah (fJ hU rfl (QM rfl T.gf (ae (pv 0) ai)) (yk (n:=2) rfl (cK (aT (i:=4) m5.nd rfl (Or.inl rfl)) (cK (aT (i:=5) m5.nd rfl (Or.inl rfl)) km))) (ah (aO (i:=6) m5.nd rfl (Or.inl rfl) (bR ib (bR ib (aC aA (by rfl) T.cq bN (ae (pv 0) ai)) (pv 4)) aq)) (ah (fJ hU rfl (By rfl T.iJ (ae (pv 3) (ae (pv 5) ai))) (aT (i:=7) m5.nd rfl (Or.inl rfl)) (au (Dh (i:=2) m5.nd rfl (Or.inl rfl) (ax fD (hr.mono ⋯) rfl cu (ae (bR ib (bR ib (pv 1) (pv 7)) aq) (ae (pv 6) ai))) OI))) (au (aO (i:=3) m5.nd rfl (Or.inl rfl) (bR fV (pv 5) aq)))))) (au (aJ (pv 2)))))),?_⟩;simp? only[cf,ou];refine⟨r,_,rfl,Yr,Lx (J:=Yd K r) (n:=row.length) (λk σ H'=>∃(v4 v5 v6 v7:Option V) (lo num:Int),σ=[some (.ref r),some (.int n),some (.int num),some (.int lo),v4,v5,v6,v7]/\aw H H'/\jW n (row.drop k) lo num=jW n row 0 0/\0<=lo/\∀x∈row.drop k,lo<=x)
   ⟨_,_,_,_,0,0,rfl,aw.rfl',rfl,Int.le_refl _,λx hx=>(lZ x (oo hx)).1⟩ (λk σ H' hk h=>?_) ?_ ?_⟩
  .obtain⟨_,_,_,_,_,_,_,sm,_⟩:=h;exact⟨_,_,aw.tup sm Yr,bt ‹hk›⟩
  .rintro k v σ H' H'' hk ⟨v4,v5,v6,v7,lo,num,rfl,sm,hs,lo0,hlo⟩ ⟨T',y,rfl,nT,rfl,hy⟩;have hy:=hy _ (aw.tup sm Yr);have hrk:row[k]?=some row[k]:=bt hk;rw[aZ,hrk]at hy;cases hy;have hdr:row.drop k=row[k]::row.drop (k+1):=oh hk;have Bf:=lZ _ (pV hk);rw[hdr]at hs hlo;have aa8:(row.drop k).Pairwise (·<·):=Ys.sublist (drop_sublist _ _);rw[hdr]at aa8;have hnx:∀x∈row.drop (k+1),row[k] +1<=x:=λx hx=>(pairwise_cons.mp aa8).1 x hx;have hlp:=hlo _ (b8 ..);have aa9:(((row.drop (k+1)).length:Nat):Int)=(row.length:Int)-(k:Int)-1:=by rw[dX];omega
   generalize row[k]=pl at*;have sT:aw H' (upd H' T' (.tup [.int (k:Nat),.int pl])):=aw.new nT;refine⟨T',_,rfl,.inl (.inl ak),rfl,_,_,rfl,_,_,rfl,rfl,?_⟩;have s5:=sm.trans sT;generalize upd H' T' (.tup [.int (k:Nat),.int pl])=H5 at*;simp? only[];refine⟨_,.inr (aw.tup s5 Yr),?_⟩;rw[az,<-aa9];have aeI:(row.drop (k+1)).length<=6:=by rw[dX];omega
   generalize hRS:row.drop (k+1)=rest at*;refine⟨lo,pl,rfl,⟨by omega,by omega,by omega,by omega⟩,?_⟩;refine Bz (lo:=lo) (n:=(pl-lo).toNat) (λi σ H6=>∃v7:Option V,σ=[some (.ref r),some (.int n),some (.int (num+((List.range i).map λ(i:Nat)=>Cv ((n:Int)-(lo+(i:Int))-1) (rest.length:Int)).sum)),some (.int lo),some (.int (k:Nat)),some (.int pl),some (.int (rest.length:Nat)),v7]/\H6=H5)
    ⟨v7,by simp,rfl⟩ ?_ ?_
   .rintro i σ H6 hi ⟨v7',rfl,rfl⟩;simp? only[xN];refine⟨_,_,⟨rfl,rfl⟩,by omega,by omega,by omega,by omega,?_,_,rfl⟩;rw[range_succ,eC,sum_append];simp[Int.add_assoc]
   .rintro σ H6 ⟨v7',rfl,rfl⟩;simp? only[];exact⟨_,_,_,_,_,_,⟨rfl,rfl,rfl,rfl,rfl,rfl⟩,s5,hs,by omega,hnx⟩
  .rintro σ H' ⟨v4,v5,v6,v7,lo,num,rfl,sm,hs,lo0,hlo⟩;rw[drop_length]at hs;refine⟨⟨_,aw.tup sm Yr,by simp⟩,?_⟩;rw[show num=jW n row 0 0 from hs];exact kQ H' sm
end
end Pd
end
section
namespace L2
open PySem PySem.Spec PyProof.Rows
def Q6(hK:X.K=K):IxR X (Tq K):=by
 subst hK;exact aP
end L2
namespace Pd
open PySem PySem.Spec PyProof.Rows L2 TL
noncomputable abbrev tZ:Stmt:=top 47
noncomputable abbrev Hh:Stmt:=top 46
section
noncomputable def hasAll(row ps:List Int):Bool:=ps.all λp=>decide (p∈row)
def zV(K:PySem.W.Frag):Sp:=λvs H Q _=>∃(r a:Addr) (row ps:List Int),vs=[.ref r,.ref a]/\jM K H r (row.map V.int)/\aM K H a (ps.map V.int)/\ps.length<=5000/\∀H',aw H H'->Q (.bl (hasAll row ps)) H'
def zW:aE ["row","places","place"] ["row","places"] (ao tZ):=by ac_nf
def NP(D:Def K mg "has_all" tZ ["row","places"])(T:Tx mg):Ok P w K mg base eX 1 "has_all" ["row","places"] (zV K):=by
 refine D.ok zW (λvs H Q E h=>?_) (λf b9 A outer s H vs Q E hr h=>?_)
 .obtain⟨_,_,_,_,rfl,_⟩:=h;rfl
 .obtain⟨r,a,row,ps,rfl,Yr,HY,pl,kQ⟩:=h;have hz:=cG;refine⟨_,(au (aJ (aC (lP rfl) (by rfl) T.tG lW (ae (ie (own:=[("place",2)]) rfl zW.nd (bZ (pv 1)) (bX (N:=["row","places","place"]) (sc:=ao tZ) (by decide+kernel)) (λ_ _ _ _ _=>aT (i:=2) zW.nd rfl (Or.inl rfl)) (λ_ _ _ _ _=>dH) (λ_ _ _ _ _=>(aU (zN (K:=K) rfl) (pv 2) (pv 0) rfl))) ai)))),?_⟩;simp? only[cf];refine⟨a,rfl,⟨_,HY⟩,λD hD=>?_⟩;refine fS (xs:=ps.map V.int) (λH v (b:Bool)=>v=.bl b) ps (λp=>some (decide (p∈row))) ∅ (by simp;omega) hD HY (λ_ _ _ _ _ e=>e) ?_ ?_
  .intro i x u H' hx hu sm _ R k2;have e:x=.int u:=by
    rw[aZ,hu]at hx;exact(Option.some.inj hx).symm
   subst e;simp? only[cf,Se];refine⟨_,.inr (aw.tup sm Yr),rfl,by simp[gY],?_⟩;exact k2 _ _ _ rfl aw.rfl' (by rw[oS])
  .intro H3 ys3 zs3 sm3 JE Oo QH;rw[de]at Oo;cases Oo;refine⟨D,rfl,_,aM.of (by rw[JE,fm QH]),?_⟩;rw[List.all_map];exact kQ H3 sm3
noncomputable def jX(fu:List Nat)(ss:List (List Int))(k n:Nat):List (List Int×Int):=if fu=NF then eM n ss else if fu=zR then eM n (List.replicate k ss).flatten else(eM n (List.replicate k (ss.getD 0 [] ++ss.getD 1 []))).filter λx=>hasAll x.1 (ss.getD 0 [])
def Q7(K:PySem.W.Frag):Sp:=λvs H Q _=>∃(fu:List Nat) (S':Addr) (ss:List (List Int)) (k n:Nat),vs=[.str (S fu),.ref S',.int k,.int n]/\qT H S' ss/\(∀s∈ss,s.length<=5000)/\k<=4/\n<=24/\(fu=NF->ss.length<=4)/\(fu=zR->ss.length=1)/\(fu≠NF->fu≠zR->ss.length=2)/\∀H' L,aw H H'->H L=none->Es K H' L (jX fu ss k n)->Q (.ref L) H'
def zX:aE ["form","sets","k","interests","rows","row","number"] ["form","sets","k","interests"] (ao Hh):=by ac_nf
def UK(D:Def K mg "rows_of_form" Hh ["form","sets","k","interests"])(T:Tx mg)(d_:Ok P w K mg base eX 1 "numbered_rows" ["sets","interests"] (LJ K))(uR:Ok P w K mg base eX 1 "has_all" ["row","places"] (zV K)):Ok P w K mg base eX 2 "rows_of_form" ["form","sets","k","interests"] (Q7 K):=by
 refine D.ok zX (λvs H Q E h=>?_) (λf b9 A outer s H vs Q E hr h=>?_)
 .obtain⟨_,_,_,_,_,rfl,_⟩:=h;rfl
 .obtain⟨fu,S',ss,k,n,rfl,hS,s21,k4,Wa,h1,h2,h3,kQ⟩:=h;have hz:=cG;refine⟨_,(ah (cW (bx cD (pv 0) bu (aG _)) (au (aJ (ax d_ (hr.mono ⋯) rfl cu (ae (pv 1) (ae (pv 3) ai))))) bC) (ah (cW (bx cD (pv 0) bu (aG _)) (au (aJ (ax d_ (hr.mono ⋯) rfl cu (ae (bR Iu (pv 1) (pv 2)) (ae (pv 3) ai))))) bC) (ah (aO (i:=4) zX.nd rfl (Or.inl rfl) (ax d_ (hr.mono ⋯) rfl cu (ae (bR Iu (gu (ae (bR O1 (bG aP (pv 1) aq (λ_ _=>rfl)) (bG aP (pv 1) aq (λ_ _=>rfl))) ai)) (pv 2)) (ae (pv 3) ai)))) (au (aJ (ie (own:=[("row",5),("number",6)]) rfl zX.nd (bZ (pv 4)) (bX (N:=["form","sets","k","interests","rows","row","number"]) (sc:=ao Hh) (by decide+kernel)) (λ_ _ _ _ _=>xR (K:=K) (n:=2) rfl rfl (cK (aT (i:=5) zX.nd rfl (Or.inl rfl)) (cK (aT (i:=6) zX.nd rfl (Or.inl rfl)) km))) (λ_ _ _ _ _=>(xl (uo (ax uR (hr.mono ⋯) rfl cu (ae (pv 5) (ae (bG (Q6 (K:=K) rfl) (pv 1) aq (λ_ _=>rfl)) ai)))))) (λ_ _ _ _ _=>(yq (ae (pv 5) (ae (pv 6) ai)))))))))),?_⟩;simp? only[cf,ou];rw[aa3,V_];simp only[cS];obtain⟨as,hA,QY⟩:=id hS;have V9:=Paired.eQ QY;refine bj (λb=>?_) (λb=>?_)
  .exact⟨S',ss,n,rfl,hS,h1 b,Wa,λH' L sm nL hr=>kQ H' L sm nL (by unfold jX;rw[ag b];exact hr)⟩
  refine bj (λc=>?_) (λc=>?_)
  .have l1:=h2 c;refine⟨S',k,as,rfl,rfl,hA,by omega,by omega,by rw[V9,l1,gm];omega,λp hp=>?_⟩;rw[gm];have s1:=aw.new (o:=HO.lst (List.replicate k as).flatten) hp;refine⟨p,(List.replicate k ss).flatten,n,rfl,⟨_,ak,Paired.fU (mY QY k) λ_ _ z=>z.same s1⟩,by rw[len_rep,l1];omega,Wa,λH' L sm nL hr=>kQ H' L (s1.trans sm) (s1.free nL) ?_⟩;unfold jX;rw[af b,ag c];exact hr
  .have l2:=h3 b c;have g0:ss[0]?=some (ss.getD 0 []):=by
    rw[cT,bt ()];rfl
   have g1:ss[1]?=some (ss.getD 1 []):=by
    rw[cT,bt ()];rfl
   obtain⟨v0,Nh,a0,rfl,ha0⟩:=Paired.Kp QY g0;obtain⟨v1,hv1,a1,rfl,ha1⟩:=Paired.Kp QY g1;have m0:=s21 _ (bg g0);have m1:=s21 _ (bg g1);generalize hA0:ss.getD 0 []=A0 at*;generalize hA1:ss.getD 1 []=A1 at*;refine⟨_,aM.of hA,_,eG (j:=0) Nh,_,aM.of hA,_,eG (j:=1) hv1,a0,a1,_,_,rfl,rfl,ha0,ha1,by rw[az,az];omega,λp1 LD=>⟨by omega,λp2 Iz=>?_⟩⟩;rw[<-eC]at Iz⊢;have s1:=aw.new (o:=HO.lst ((A0++A1).map V.int)) LD;have s2:=aw.new (o:=HO.lst [V.ref p1]) Iz;refine⟨p2,k,[.ref p1],rfl,rfl,ak,by omega,by omega,by rw[gm];simp;omega,λp3 QH=>?_⟩;rw[gm];have s3:=aw.new (o:=HO.lst (List.replicate k [V.ref p1]).flatten) QH;have ad9:=s3 _ _ (s2 _ _ (ak:(upd H p1 (.lst ((A0++A1).map V.int))) p1=_));have UL:=(s1.trans s2).trans s3;have efl:(List.replicate k [A0++A1]).flatten=List.replicate k (A0++A1):=by simp
   refine⟨p3,List.replicate k (A0++A1),n,rfl,⟨_,ak,by rw[<-efl];exact mY (.cons ⟨p1,rfl,ad9⟩ .nil) k⟩,by rw[jI];exact k4,Wa,λH4 L sm nL hr=>?_⟩;have s14:=UL.trans sm;have nL0:=UL.free nL;have bS:jX fu ss k n=(eM n (List.replicate k (A0++A1))).filter λx=>hasAll x.1 A0:=by
    unfold jX;rw[af b,af c,hA0,hA1]
   have A9:(eM n (List.replicate k (A0++A1))).length<=24^4:=by
    refine aX (uQ n Wa _) (su ⋯ ?_);rw[jI];exact k4
   generalize eM n (List.replicate k (A0++A1))=rows at*;obtain⟨vs,hL,QF⟩:=hr;have Xb:=Paired.eQ QF;refine⟨L,rfl,⟨_,aM.of hL⟩,λD hD=>?_⟩;refine zO (n:=vs.length) (λi H'=>aw H4 H'/\∃ys,H' D=some (.lst ys)/\Paired (Bh K H') ys ((rows.take i).filter λx=>hasAll x.1 A0)) ⟨aw.new hD,[],ak,.nil⟩ (λi H' hi h=>⟨_,_,aM.of (h.1 _ _ hL),bt hi⟩) ?_ ?_
   .rintro i v H' H'' hi ⟨AV,ys,i9,Sg⟩ ⟨rfl,hx⟩;have hx:=hx _ (aM.of (AV _ _ hL));obtain⟨x,hxr,Yq⟩:=Paired.at' QF hx;obtain⟨t,r,rfl,ht,Gp⟩:=Yq.same AV;have CD:rows.take (i+1)=rows.take i++ [x]:=bp hxr;have hly:=Paired.eQ Sg;have aeJ:((rows.take i).filter λx=>hasAll x.1 A0).length<=24^4:=by
     refine aX (om _ _) ?_;rw[cP];exact aX (mn _ _) A9
    refine⟨t,_,rfl,.inl (.inl ht),rfl,_,_,rfl,_,_,rfl,rfl,?_⟩;simp? only[W0,zV];have s1':=s14.trans AV;refine⟨rfl,_,rfl,_,rfl,S',rfl,_,aM.of (s1' _ _ hA),_,eG (j:=0) Nh,r,a0,⟨rfl,rfl⟩,x.1,.inl (.inl Gp),A0,aM.of (s1' _ _ ha0),by omega,λH5 s5=>?_⟩;rw[CD,w8];have JK:=s5 _ _ i9;refine bj (λd=>?_) (λd=>?_)
    .rw[filter_cons_of_pos (by exact d),filter_nil];refine⟨_,rfl,_,rfl,by omega,λp hp=>?_⟩;have s6:=aw.new (o:=HO.tup [V.ref r,V.int x.2]) hp;have aa_:=s6 _ _ JK;have XZ:p≠D:=λz=>by rw[z,JK]at hp;cases hp
     have hrD:r≠D:=λz=>by rw[z,i9]at Gp;cases Gp
     have hrp:r≠p:=λz=>by rw[<-z,s5 _ _ Gp]at hp;cases hp
     refine⟨ys,aa_,by omega,((AV.trans s5).trans s6).kD hD,_,ak,ki (Paired.fU Sg λ_ _ z=>(z.same (s5.trans s6)).upd aa_) ⟨p,r,rfl,?_,?_⟩⟩
     .rw[aB XZ,ak]
     .rw[aB hrD,aB hrp];exact s5 _ _ Gp
    .rw[filter_cons_of_neg (by exact d),filter_nil,h_];exact⟨AV.trans s5,ys,JK,Paired.fU Sg λ_ _ z=>z.same s5⟩
   .rintro H' ⟨AV,ys,i9,Sg⟩;rw[Xb,et]at Sg;exact⟨⟨_,aM.of (AV _ _ hL),aL _⟩,kQ H' D (s14.trans AV) (s14.free hD) ⟨ys,i9,by rw[bS];exact Sg⟩⟩
end
end Pd
end
section
namespace L2
open PySem PySem.Spec PyProof.Rows
def Bj(hK:X.K=K):kn X (.builtin "sorted") (λxs H Q=>eL xs λa=>∃ns:List Int,jM K H a (ns.map V.int)/\∀(ji:List Int) p,ji.Perm ns->ji.Pairwise (·<=·)->H p=none->Q (.ref p) (upd H p (.lst (ji.map V.int)))):=by
 subst hK;exact Em
def zY(hK:X.K=K):kn X (.type "tuple") (λxs H Q=>eL xs λp=>∃ys,((aM K H p ys/\∀l,H l=none->Q (.ref l) (upd H l (.tup ys)))\/(jM K H p ys/\Q (.ref p) H))):=by
 subst hK;exact A2
end L2
namespace Pd
open PySem PySem.Spec PyProof.Rows L2 TL
noncomputable abbrev zZ:Stmt:=top 45
section
def qU(k row:List Int):Prop:=k.Perm row/\k.Pairwise (·<=·)
def rO(q:MP)(fu:List Nat)(ss:List (List Int))(n:Nat)(nums:List Int):Prop:=if q.kind=jr then∃out:List (List Int),(∀k,k∈out↔∃x∈jX fu ss q.k.toNat n,qU k x.1)/\out.Pairwise (λa b=>HT.lexLt a b=true)/\nums=out.map λr=>jW n r 0 0 else nums=(jX fu ss q.k.toNat n).map (·.2)
def CM(n m:Nat)(x:List Int):Prop:=x.Nodup/\(∀y∈x,0<=y/\y<n)/\x.length=m
def z0 n ss:∀x∈eM n ss,CM n ss.length x.1:=by
 have:∀(l:List (List Int))(rows:List (List Int×Int))(m:Nat),(∀x∈rows,CM n m x.1)->∀x∈l.foldl (jj n) rows,CM n (m+l.length) x.1:=by
  intro l
  induction l with
  |nil=>intro rows m h x hx;exact h x hx
  |cons s l ih=>
   intro rows m h x hx;rw[aY,show m+(l.length+1)=m+1+l.length by omega];refine ih (jj n rows s) (m+1) (λy hy=>?_) x hx;obtain⟨z,hz,hy⟩:=mem_flatMap.mp hy;obtain⟨u,hu,e⟩:=mem_filterMap.mp hy;split at e
   .cases e;obtain⟨a1,a2,a3⟩:=h z hz;have hm:=fst_mem_of_mem_zipIdx hu;obtain⟨b1,b2⟩:=mem_filter.mp hm;obtain⟨i,hi,e⟩:=mem_map.mp b1;have hi:=mem_range.mp hi;have b2:u.1∉z.1:=by simpa using b2
    refine⟨?_,λy hy=>?_,?_⟩
    .rw[pM];refine⟨a1,by simp,λa ha b hb z=>?_⟩;have hbu:b=u.1:=by simpa using hb
     rw[z,hbu]at ha;exact b2 ha
    .obtain z|z:=mem_append.mp hy
     .exact a2 y z
     .have:y=u.1:=by simpa using z
      omega
    .rw[c9,a3];rfl
   .cases e
 intro x hx;have h0:∀x∈ [(([]:List Int),(0:Int))],CM n 0 x.1:=λx hx=>by
  have e:x=([],0):=‹hx›
  rw[e];exact⟨by simp,by simp,rfl⟩
 have h1:=this ss [([],0)] 0 h0 x hx;rw[hZ]at h1;exact h1
noncomputable def z3:Nat->List Int->List (List Int)
 |0,_=>[[]]|_+1,[]=>[]
 |k+1,a::l=>(z3 k l).map (a::·)++z3 (k+1) l
def Q8:∀{l r},r.Sublist l->r∈z3 r.length l:=by
 intro l
 induction l with
 |nil=>intro r h;cases h;simp[z3]
 |cons a l ih=>
  intro r h;cases h with
  |cons _ h=>
   cases r with
   |nil=>simp[z3]
   |cons b r=>
    show b::r∈(z3 r.length l).map (a::·)++z3 (r.length+1) l;exact mm _ (ih h)
  |@cons_cons r' _ _ h=>
   show a::r'∈(z3 r'.length l).map (a::·)++z3 (r'.length+1) l;exact wU _ (mem_map.mpr ⟨r',ih h,rfl⟩)
theorem Ew:∀{r l:List Int},r.Pairwise (·<·)->l.Pairwise (·<·)->(∀x∈r,x∈l)->r.Sublist l
 |[],l,_,_,_=>nil_sublist _|x::r,[],_,_,h=>absurd (h x ∅) ∅
 |x::r,y::l,hr,hl,h=>by
  obtain⟨a1,a2⟩:=pairwise_cons.mp hr;obtain⟨b1,b2⟩:=pairwise_cons.mp hl;by_cases c:x=y
  .subst c;refine List.Sublist.cons_cons _ (Ew a2 b2 λz hz=>?_);obtain q|q:=mem_cons.mp (h z (by simp[hz]))
   .have:=a1 z hz;omega
   .exact q
  .have hx:x∈l:=by
    obtain q|q:=mem_cons.mp (h x ∅)
    .exact absurd q c
    .exact q
   refine List.Sublist.cons _ (Ew hr b2 λz hz=>?_);obtain q|q:=mem_cons.mp (h z hz)
   .have h1:=b1 x hx;obtain q2|q2:=mem_cons.mp hz
    .omega
    .have:=a1 z q2;omega
   .exact q
noncomputable def r24:List Int:=(List.range 24).map λ(i:Nat)=>(i:Int)
def Yt:r24.Pairwise (·<·):=by decide+kernel
theorem Hi:∀{l m:List (List Int)},l.Nodup->(∀x∈l,x∈m)->l.length<=m.length
 |[],m,_,_=>cz _
 |x::l,m,nd,h=>by
  obtain⟨h1,h2⟩:=nodup_cons.mp nd;have hx:=h x ∅;have:=Hi (l:=l) h2 λy hy=>by
   have gU:y≠x:=λe=>h1 (e▸hy);exact(wX gU).mpr (h y (by simp[hy]))
  rw[qZ hx]at this;have:=wL hx;rw[aY];omega
def few{n m:Nat}(hn:n<=24)(hm:m<=3)(nd:ks.Nodup)(h:∀k∈ks,k.Pairwise (·<·)/\(∀y∈k,0<=y/\y<n)/\k.length=m):ks.length<2100:=by
 have hs:∀k∈ks,k∈z3 m r24:=λk hk=>by
  obtain⟨a1,a2,a3⟩:=h k hk;rw[<-a3];refine Q8 (Ew a1 Yt λy hy=>?_);have:=a2 y hy;exact mem_map.mpr ⟨y.toNat,mem_range.mpr (),by omega⟩
 have h1:=Hi nd hs;have h2:∀m:Fin 4,(z3 m.val r24).length<2100:=by decide+kernel
 have h3:=h2 ⟨m,by omega⟩;exact wC h1 h3
theorem qU.ok{k x:List Int}(h:qU k x)(r:CM n m x):k.Pairwise (·<·)/\(∀y∈k,0<=y/\y<n)/\k.length=m:=by
 obtain⟨h1,h2⟩:=h;obtain⟨r1,r2,r3⟩:=r;refine⟨?_,λy hy=>r2 y (h1.mem_iff.mp hy),by rw[h1.length_eq];exact r3⟩;refine List.Pairwise.imp_of_mem ?_ (h2.and (h1.nodup_iff.mpr r1));omega
def qU.eq{k m x:List Int}(h:qU k x)(h2:qU m x):k=m:=by
 have p:=h.1.trans h2.1.symm;exact p.eq_of_pairwise (λa b _ _ h1 h2=>Int.le_antisymm h1 h2) h.2 h2.2
theorem LL:∀a:List Int,HT.lexLt a a=false
 |[]=>rfl
 |x::a=>by
  rw[HT.ic,ag rfl];exact LL a
def Q9(K:PySem.W.Frag)(Cp:Addr):Sp:=λvs H Q _=>∃(fu:List Nat) (S' p:Addr) (ss rs:List (List Int)) (q:MP) (I:List Int),vs=[.str (S fu),.ref S',.ref p]/\qT H S' ss/\jS Cp H (.ref p) rs q/\(cY rs q)[0]?=some I/\I.length<=24/\0<=q.k/\q.k<=4/\(q.kind=jr->1<=q.k/\q.k<=3)/\(∀s∈ss,s.length<=5000)/\(fu=NF->ss.length<=4)/\(fu=zR->ss.length=1)/\(fu≠NF->fu≠zR->ss.length=2)/\(q.kind=jr->fu=NF->(ss.length:Int)=q.k)/\
 ∀nums H' L,rO q fu ss I.length nums->nums.length<=400000->aw H H'->H L=none->H' L=some (.lst (nums.map V.int))->Q (.ref L) H'
def ja:aE ["form","sets","pool","interests","rows","risen","row","number"] ["form","sets","pool"] (ao zZ):=by ac_nf
def UM(D:Def K mg "numbers_of_race" zZ ["form","sets","pool"])(T:Tx mg)(aS:CL P w K mg base "Pool" Cp ["self","name","kind","k","races","unit"] (dD Cp) ["name","kind","k","races","unit"])(jY:Ok P w K mg base eX 2 "rows_of_form" ["form","sets","k","interests"] (Q7 K))(m6:Ok P w K mg base eX 3 "set_number" ["row","interests"] (JI K)):Ok P w K mg base eX 4 "numbers_of_race" ["form","sets","pool"] (Q9 K Cp):=by
 refine D.ok ja (λvs H Q E h=>?_) (λf b9 A outer s H vs Q E hr h=>?_)
 .obtain⟨_,_,_,_,_,_,_,rfl,_⟩:=h;rfl
 .obtain⟨fu,S',p,ss,rs,q,I,rfl,hS,hP,hI,il,k0,k4,ka,s21,h1,h2,h3,h4,kQ⟩:=h;have hz:=cG;have ad_:=UB hr;refine⟨_,(ah (aO (i:=3) ja.nd rfl (Or.inr rfl) (aC aA (by rfl) T.cq bN (ae (bG aP (bz (pv 2) rfl) aq (λ_ _=>rfl)) ai))) (ah (aO (i:=4) ja.nd rfl (Or.inl rfl) (ax jY (hr.mono ⋯) rfl cu (ae (pv 0) (ae (pv 1) (ae (bz (pv 2) rfl) (ae (pv 3) ai)))))) (ah (cW (bx BA (bz (pv 2) rfl) bu (aG _)) (au (aJ (ie (own:=[("row",6),("number",7)]) rfl ja.nd (bZ (pv 4)) (bX (N:=["form","sets","pool","interests","rows","risen","row","number"]) (sc:=ao zZ) (by decide+kernel)) (λ_ _ _ _ _=>xR (K:=K) (n:=2) rfl rfl (cK (aT (i:=6) ja.nd rfl (Or.inl rfl)) (cK (aT (i:=7) ja.nd rfl (Or.inl rfl)) km))) (λ_ _ _ _ _=>dH) (λ_ _ _ _ _=>(pv 7))))) bC) (ah (aO (i:=5) ja.nd rfl (Or.inl rfl) (Yc ad_ rfl (by rfl) T.iU (by rfl) T.Cq (ae (ie (own:=[("row",6),("number",7)]) rfl ja.nd (bZ (pv 4)) (bX (N:=["form","sets","pool","interests","rows","risen","row","number"]) (sc:=ao zZ) (by decide+kernel)) (λ_ _ _ _ _=>xR (K:=K) (n:=2) rfl rfl (cK (aT (i:=6) ja.nd rfl (Or.inl rfl)) (cK (aT (i:=7) ja.nd rfl (Or.inl rfl)) km))) (λ_ _ _ _ _=>dH) (λ_ _ _ _ _=>(BM (zY (K:=K) rfl) (by rfl) T.tH Hb (ae (aC (Bj (K:=K) rfl) (by rfl) T.iU boot_sorted (ae (pv 6) ai)) ai)))) ai))) (au (aJ (ie (own:=[("row",6)]) rfl ja.nd (bZ (pv 5)) (bX (N:=["form","sets","pool","interests","rows","risen","row","number"]) (sc:=ao zZ) (by decide+kernel)) (λ_ _ _ _ _=>aT (i:=6) ja.nd rfl (Or.inl rfl)) (λ_ _ _ _ _=>dH) (λ_ _ _ _ _=>(ax m6 (hr.mono ⋯) rfl cu (ae (pv 6) (ae (pv 3) ai))))))))))),?_⟩;simp? only[cf,ou,ot];obtain⟨pp,dx,Rr,e0,nQ,as,hR,vA⟩:=hP;cases e0;obtain⟨v0,Nh,ia,rfl,V7⟩:=Paired.Kp vA hI;refine⟨Cp,dx,_,nQ,aS.cl,aS.no "races" ∅,_,rfl,Rr,rfl,_,aM.of hR,_,eG (j:=0) Nh,ia,rfl,_,.inl (aM.of V7),Cp,dx,_,nQ,aS.cl,aS.no "k" ∅,_,rfl,?_⟩;rw[az];have ek:((q.k.toNat:Nat):Int)=q.k:=by omega
  refine⟨fu,S',ss,q.k.toNat,I.length,by rw[ek],hS,s21,by omega,il,h1,h2,h3,λH1 L s1 nL abb=>?_⟩;obtain⟨vs,hL,QF⟩:=abb;have Xb:=Paired.eQ QF;generalize hn:I.length=n at*;have A9:(jX fu ss q.k.toNat n).length<=24^4:=by
   have:∀l:List (List Int),l.length<=4->(eM n l).length<=24^4:=λl hl=>aX (uQ n il l) (su ⋯ hl);unfold jX;split
   .exact this _ (h1 (by assumption))
   .split
    .rename_i c;exact this _ (by rw[len_rep,h2 c];omega)
    .exact aX (om _ _) (this _ (by rw[jI];omega))
  have bL:q.kind=jr->∀x∈jX fu ss q.k.toNat n,CM n q.k.toNat x.1:=λhk x hx=>by
   unfold jX at hx;split at hx
   .rename_i c;have:=z0 n ss x hx;have e:ss.length=q.k.toNat:=by
     have:=h4 hk c;omega
    rw[e]at this;exact this
   .split at hx
    .rename_i c;have:=z0 n _ x hx;rw[len_rep,h2 c,xc]at this;exact this
    .have:=z0 n _ x (mem_filter.mp hx).1;rw[jI]at this;exact this
  have bS:∀nums,rO q fu ss n nums↔rO q fu ss n nums:=λ_=>Iff.rfl
  conv at bS=>ext nums;rhs;unfold rO
  generalize jX fu ss q.k.toNat n=rows at*;refine⟨Cp,dx,_,s1 _ _ nQ,aS.cl,aS.no "kind" ∅,.str (S q.kind),rfl,rfl,?_⟩;rw[show Str.ofString "any"=S jr by decide+kernel];simp only[V.str.injEq,cS];refine bj (λc=>?_) (λc=>?_)
  .refine⟨L,rfl,⟨_,aM.of hL⟩,λD hD=>?_⟩;refine zO (n:=vs.length) (λi H'=>aw H1 H'/\H' D=some (.lst (((rows.take i).map (·.2)).map V.int))) ⟨aw.new hD,ak⟩ (λi H' hi h=>⟨_,_,aM.of (h.1 _ _ hL),bt hi⟩) ?_ ?_
   .rintro i v H' H'' hi ⟨AV,i9⟩ ⟨rfl,hx⟩;have hx:=hx _ (aM.of (AV _ _ hL));obtain⟨x,hxr,Yq⟩:=Paired.at' QF hx;obtain⟨t,r,rfl,ht,Gp⟩:=Yq.same AV;have CD:rows.take (i+1)=rows.take i++ [x]:=bp hxr;refine⟨t,_,rfl,.inl (.inl ht),rfl,_,_,rfl,_,_,rfl,rfl,?_⟩;simp? only[FR];refine⟨rfl,_,rfl,_,i9,?_,AV.kD hD,?_⟩
    .rw[az,az,cP];have:=mn i rows.length;omega
    .rw[ak,CD,eC,eC];rfl
   .rintro H' ⟨AV,i9⟩;rw[Xb,et]at i9;exact⟨⟨_,aM.of (AV _ _ hL),aL _⟩,kQ _ H' D ((bS _).mpr (by rw[af c])) (by rw[az];omega) (s1.trans AV) (s1.free hD) i9⟩
  .have hk:q.kind=jr:=by simpa using c
   have bL:=bL hk;have hk3:=ka hk;simp? only[aaZ];refine⟨L,rfl,⟨_,aM.of hL⟩,λD hD=>?_⟩;refine zO (n:=vs.length) (λi H'=>aw H1 H'/\∃xs:List (Addr×List Int),H' D=some (.lst (xs.map λx=>V.ref x.1))/\Paired (λ(y:Addr×List Int)(x:List Int×Int)=>H' y.1=some (.tup (y.2.map V.int))/\qU y.2 x.1) xs (rows.take i)) ⟨aw.new hD,[],ak,.nil⟩ (λi H' hi h=>⟨_,_,aM.of (h.1 _ _ hL),bt hi⟩) ?_ ?_
   .rintro i v H' H'' hi ⟨AV,xs,i9,Yu⟩ ⟨rfl,hx⟩;have hx:=hx _ (aM.of (AV _ _ hL));obtain⟨x,hxr,Yq⟩:=Paired.at' QF hx;obtain⟨t,r,rfl,ht,Gp⟩:=Yq.same AV;have CD:rows.take (i+1)=rows.take i++ [x]:=bp hxr;have hlx:=Paired.eQ Yu;refine⟨t,_,rfl,.inl (.inl ht),rfl,_,_,rfl,_,_,rfl,rfl,?_⟩;simp? only[FR];refine⟨rfl,_,rfl,r,rfl,x.1,.inl (.inl Gp),λji p9 pm up hp9=>⟨_,.inl ⟨aM.of ak,λl hl=>?_⟩⟩⟩;have s9:=aw.new (o:=HO.lst (List.map V.int ji)) hp9;have s10:=aw.new (o:=HO.tup (List.map V.int ji)) hl;have Yv:=s9.trans s10;have abd:=Yv _ _ i9;have hlD:l≠D:=λz=>by rw[z,s9 _ _ i9]at hl;cases hl
    refine⟨_,abd,?_,(AV.trans Yv).kD hD,xs++ [(l,ji)],by rw[ak,eC];rfl,?_⟩
    .rw[az,hlx,cP];have:=mn i rows.length;omega
    .rw[CD];refine ki (Paired.fU Yu λy x' WW=>?_) ⟨by rw[aB hlD,ak],pm,up⟩;obtain⟨a1,a2⟩:=WW;refine⟨?_,a2⟩;rw[aB (λz=>by rw[z,i9]at a1;cases a1)];exact Yv _ _ a1
   .rintro H' ⟨AV,xs,i9,Yu⟩;rw[Xb,et]at Yu;refine⟨⟨_,aM.of (AV _ _ hL),aL _⟩,?_⟩;have hkx:∀k,k∈xs.map (·.2)↔∃x∈rows,qU k x.1:=λk=>by
     constructor
     .intro hm;obtain⟨y,hy,rfl⟩:=mem_map.mp hm;obtain⟨i,hi⟩:=mem_iff_getElem?.mp hy;obtain⟨x,hx,_,h5⟩:=Paired.at' Yu hi;exact⟨x,bg hx,h5⟩
     .rintro⟨x,hx,h5⟩;obtain⟨i,hi⟩:=mem_iff_getElem?.mp hx;obtain⟨y,hy,_,h6⟩:=Paired.Kp Yu hi;have e:k=y.2:=h5.eq h6;rw[e];exact mem_map.mpr ⟨y,bg hy,rfl⟩
    have hko:∀k∈xs.map (·.2),k.Pairwise (·<·)/\(∀y∈k,(0:Int)<=y/\y<(n:Int))/\k.length=q.k.toNat:=λk qf=>by
     obtain⟨x,hx,h5⟩:=(hkx k).mp qf;exact h5.ok (bL x hx)
    refine⟨D,rfl,xs,aM.of i9,λy hy=>?_,λks nd hks=>few (m:=q.k.toNat) il () nd λk qf=>hko k (hks k qf),λout p9 zq mem up hp9=>?_⟩
    .obtain⟨i,hi⟩:=mem_iff_getElem?.mp hy;obtain⟨x,hx,h6,h5⟩:=Paired.at' Yu hi;refine⟨.inl (.inl h6),λz=>?_⟩;have:=(hko y.2 (mem_map.mpr ⟨y,hy,rfl⟩)).2.2;rw[z]at this;simp at this;omega
    .have s9:=aw.new (o:=HO.lst (List.map (λx=>V.ref x.1) out)) hp9;have s19:=(s1.trans AV).trans s9;have V1:out.length<2100:=by
      have nd:(out.map (·.2)).Nodup:=up.imp λh e=>by rw[e,LL]at h;cases h
      have:=few (m:=q.k.toNat) il () nd λk qf=>hko k ((mem k).mp qf);rw[az]at this;exact this
     refine⟨p9,rfl,⟨_,aM.of ak⟩,λD2 Ug=>?_⟩;refine fS (xs:=out.map λx=>V.ref x.1) (λH v (z:Int)=>v=.int z) out (λx=>some (jW n x.2 0 0)) ∅ (by simp;omega) Ug (aM.of ak) (λ_ _ _ _ _ e=>e) ?_ ?_
     .intro i x u H5 hx hu sm5 _ R k2;have e:x=.ref u.1:=by
       rw[aZ,hu]at hx;exact(Option.some.inj hx).symm
      subst e;have hum:=bg hu;obtain⟨o1,o2,o3⟩:=hko u.2 ((mem _).mp (mem_map.mpr ⟨u,hum,rfl⟩));simp? only[JI];exact⟨u.1,u.2,n,⟨rfl,rfl⟩,aw.tup (s9.trans sm5) (zq u hum),by omega,il,o2,o1,λH6 s6=>k2 _ _ _ rfl s6 rfl⟩
     .intro H5 ys zs sm5 JK hm5 hp5;rw[de]at hm5;cases hm5;have JK:H5 D2=some (.lst ((out.map λx=>jW n x.2 0 0).map V.int)):=by rw[JK,fm hp5]
      refine kQ _ H5 D2 ((bS _).mpr ?_) (by rw[az];omega) (s19.trans sm5) (s19.free Ug) JK;rw[ag hk];refine⟨out.map (·.2),λk=>(mem k).trans (hkx k),up,?_⟩;rw[bP];rfl
end
noncomputable abbrev lY:Stmt:=inClass (top 34) 0
noncomputable abbrev LN:Stmt:=top 36
section
variable {Cb:Addr}
noncomputable def abe(vp vst vss vn:V):List (Str×V):=[("pool",vp),("stake",vst),("sets",vss),("numbers",vn)]
def jA(Cb:Addr):Sp:=λvs H Q _=>∃(p dx:Addr) (vp vst vss vn:V),vs=[.ref p,vp,vst,vss,vn]/\H p=some (.ins Cb dx [])/\∀H',H' p=some (.ins Cb dx (abe vp vst vss vn))->(∀b o,H b=some o->b≠p->H' b=some o)->Q .cV H'
def NQ:aE ["self","pool","stake","sets","numbers"] ["self","pool","stake","sets","numbers"] (ao lY):=by ac_nf
def JL(F:KQ K "__init__" "Bet.__init__" lY f fd)(C:FH K Cb)(n1:cH K Cb "pool")(n2:cH K Cb "stake")(n3:cH K Cb "sets")(n4:cH K Cb "numbers"):
  nZ P w K mg base eX 1 f fd ["self","pool","stake","sets","numbers"] (jA Cb):=by
 refine F.ok NQ (λvs H Q E h=>?_) (λb9 A outer s H vs Q E hr h=>?_)
 .obtain⟨_,_,_,_,_,_,rfl,_⟩:=h;rfl
 .obtain⟨p,dx,vp,vst,vss,vn,rfl,hp,k⟩:=h;refine⟨_,(ah (i6 (pv 0) (pv 1) rfl) (ah (i6 (pv 0) (pv 2) rfl) (ah (i6 (pv 0) (pv 3) rfl) (au (i6 (pv 0) (pv 4) rfl))))),?_⟩;refine⟨p,Cb,dx,[],rfl,hp,C,n1,⋯,?_⟩;refine⟨p,Cb,dx,_,rfl,ak,C,n2,Jf,?_⟩;rw[iF];refine⟨p,Cb,dx,_,rfl,ak,C,n3,Jg,?_⟩;rw[iF];refine⟨p,Cb,dx,_,rfl,ak,C,n4,Qe,?_⟩;rw[iF];refine k _ ?_ λb o e hb=>by rw[aB hb];exact e
  rw[ak];rfl
noncomputable def UN:List Nat:=[98,101,116]
noncomputable def UO:List Nat:=[102,111,114]
def oV(codes:List Nat)(rs:List (List Int))(ps:List MP)(r:Option (MP×Int×List (List Int)×Option (List Int))):Prop:=
 match i7 codes with
 |some [ws]=>if 6<=ws.length/\ws.getD 0 []=UN/\ws.getD 2 []=UO then(match ps.filter (λq=>decide (q.name=ws.getD 1 []))with
  |[q]=>match oR (ws.getD 3 []) q.u with
   |none=>r=none
   |some st=>match jV (ws.drop 4) q (cY rs q)with
    |none=>r=none
    |some ss=>if q.kind=cp then(if 0<jh ss/\st*jh ss<=2147483647 then r=some (q,st,ss,if jh ss<=262144 then some (oU (ss.zip (cY rs q)))else none)else r=none)
     else∃nums,rO q (ws.getD 4 []) ss ((cY rs q).getD 0 []).length nums/\(if 0<(nums.length:Int)/\st*(nums.length:Int)<=2147483647 then r=some (q,st,ss,some nums)else r=none)
  |_=>r=none)else r=none
 |_=>r=none
def z4(K:PySem.W.Frag)(Cp Cb:Addr)(H:Hp)(v:V)(rs:List (List Int))(r:MP×Int×List (List Int)×Option (List Int)):Prop:=∃b dx p S' vn,v=.ref b/\H b=some (.ins Cb dx (abe (.ref p) (.int r.2.1) (.ref S') vn))/\jS Cp H (.ref p) rs r.1/\qT H S' r.2.2.1/\
 (match r.2.2.2 with
 |none=>vn=.cV|some nums=>∃L,vn=.ref L/\H L=some (.lst (nums.map V.int))/\nums.length<=400000)
theorem z4.same{r:MP×Int×List (List Int)×Option (List Int)}(h:z4 K Cp Cb H v rs r)(s:aw H H'):z4 K Cp Cb H' v rs r:=by
 obtain⟨b,dx,p,S',vn,e,h1,h2,h3,h4⟩:=h;refine⟨b,dx,p,S',vn,e,s _ _ h1,h2.same s,vE.same h3 s,?_⟩;obtain⟨_,_,_,o⟩:=r;cases o with
 |none=>exact h4
 |some nums=>
  obtain⟨L,e,h,hl⟩:=h4;exact⟨L,e,s _ _ h,hl⟩
structure Yw(rs:List (List Int))(q:MP):Prop where
 NR:MY rs q
 u:0<q.u/\q.u<=10000
 nl:q.kind≠cp->q.k<=4
 any:q.kind=jr->2<=q.k/\q.k<=3
def oV.mem{ps:List MP}{r:MP×Int×List (List Int)×Option (List Int)}(h:oV codes rs ps (some r)):r.1∈ps:=by
 unfold oV at h;split at h
 .split at h
  .split at h
   .rename_i q hq;have hm:=(mem_filter.mp (by rw[hq];simp:q∈ps.filter _)).1;split at h
    .cases h
    .split at h
     .cases h
     .split at h
      .split at h
       .cases h;exact hm
       .cases h
      .obtain⟨_,_,h⟩:=h;split at h
       .cases h;exact hm
       .cases h
   .cases h
  .cases h
 .cases h
theorem t4:∀{l acc}{w},w∈cut c acc l->w.length<=acc.length+l.length
 |[],acc,w,h=>by
  have:w=acc:=by simpa[cut]using h
  rw[this];simp
 |x::r,acc,w,h=>by
  unfold cut at h;split at h
  .obtain z|z:=mem_cons.mp h
   .rw[z];omega
   .have:=t4 z;simp at this⊢;omega
  .have:=t4 h;simp at this⊢;omega
def NT(h:i7 codes=some [ws]):∀t∈ws,t.length<=codes.length:=λt ht=>by
 unfold i7 at h;split at h
 .have h:=Option.some.inj h;have hm:ws∈(cut 10 [] codes).dropLast.map (cut 32 []):=by rw[h];simp
  obtain⟨l,hl,rfl⟩:=mem_map.mp hm;have h1:=t4 ht;have h2:=t4 ((dropLast_sublist _).subset hl);simp at h1 h2;omega
 .cases h
def Q_(h:MY rs q):∀r∈cY rs q,r∈rs:=λr hr=>by
 unfold cY mR at hr;split at hr
 .exact oo (mem_of_mem_take hr)
 .have e:r=rs.getD (q.race-1).toNat []:=by simpa using hr
  have h1:=h.r1;have h2:=h.r2;rw[e,cT,bt ()];exact pV _
def NU(h:MY rs q)(hk:q.kind=cp):((cY rs q).length:Int)=q.k:=by
 unfold cY mR;rw[ag hk,cP,dX];have h1:=h.r1;have h2:=h.legs hk;have h3:=h.k1;omega
def Ra(hk:q.kind≠cp):(cY rs q).length=1:=by
 unfold cY mR;rw[af hk];rfl
def UP(h:n∈I):0<=tY I n/\tY I n<(I.length:Int):=by
 unfold tY;have:(I.findIdx λx=>decide (x=n))<I.length:=findIdx_lt_length_of_exists ⟨n,h,by simp⟩;omega
def t5(ps I:List Int):Prop:=ps.Pairwise (·<·)/\(∀x∈ps,0<=x/\x<(I.length:Int))/\ps≠ []/\ps.length<=I.length
def xT{t:List Nat}{I ps:List Int}(h:setM t I=some ps):t5 ps I:=by
 unfold setM at h;split at h
 .rename_i fB;split at h
  .rename_i Ys;cases h;have lZ:∀x∈((cut 44 [] t).map dz).map (tY I),0<=x/\x<(I.length:Int):=λx hx=>by
    obtain⟨n,hn,rfl⟩:=mem_map.mp hx;exact UP ‹all_eq_true.mp fB n hn›
   refine⟨Ys,lZ,by simp[DQ],?_⟩;have h1:=tU (m:=(List.range I.length).map λ(i:Nat)=>(i:Int)) (Ys.imp λh=>Int.ne_of_lt h) λx hx=>by
    have:=lZ x hx;exact mem_map.mpr ⟨x.toNat,mem_range.mpr (),by omega⟩
   simp only[length_map,length_range]at h1⊢;exact h1
  .cases h
 .cases h
theorem CO{f:α×List Int->Option (List Int)}(hf:∀x r y,f (x,r)=some y->t5 y r):∀{ws:List α}{R}{ss},ws.length=R.length->cM f (ws.zip R)=some ss->Paired t5 ss R
 |[],[],ss,_,h=>by
  cases h;exact .nil
 |w::ws,r::R,ss,hl,h=>by
  obtain⟨y,ys,h1,h2,rfl⟩:=bJ.mp (show cM f ((w,r)::ws.zip R)=some ss from h);exact .cons (hf _ _ _ h1) (CO hf ‹hl› h2)
theorem z5:∀{ss R},Paired t5 ss R->(∀r∈R,r=I)->∀s∈ss,t5 s I
 |_,_,.nil,_=>by simp
 |_,_,.cons h t,e=>by
  intro s hs;obtain z|z:=mem_cons.mp hs
  .rw[z,<-e _ (b8 ..)];exact h
  .exact z5 t (λr hr=>e r (by simp[hr])) s z
structure Wc(fu:List Nat)(q:MP)(R ss:List (List Int)):Prop where
 legs:q.kind=cp->fu=NF/\Paired t5 ss R
 one:q.kind≠cp->∀s∈ss,t5 s (R.getD 0 [])
 on:fu=NF->(ss.length:Int)=we q
 box:fu=zR->ss.length=1
 key:fu≠NF->fu≠zR->ss.length=2
def Rb(h:jV ws q R=some ss)(k1:1<=q.k)(hl:q.kind=cp->(R.length:Int)=q.k)(hn:q.kind≠cp->R.length=1):Wc (ws.getD 0 []) q R ss:=by
 unfold jV at h;split at h
 .rename_i ho;unfold QV at h;split at h
  .split at h
   .have hev:((L2.bA (ws.drop 1)).length:Int)=we q:=by
     rw[jx];omega
    have hp:Paired t5 ss (if q.kind=cp then R else(List.replicate (we q).toNat R).flatten):=by
     refine CO (λx r y hy=>xT hy) ?_ h;split
     .rename_i c;have:=hl c;have:we q=q.k:=by
       unfold we;rw[af (by rw[c];decide)]
      omega
     .rename_i c;rw[len_rep,hn c];omega
    have hlen:=Paired.eQ hp;refine⟨λc=>⟨ho,by rw[ag c]at hp;exact hp⟩,λc=>?_,λ_=>?_,λc=>absurd (ho.symm.trans c) ⋯,λc=>absurd ho c⟩
    .rw[af c]at hp;refine z5 hp λr hr=>?_;obtain⟨l,hl,hr⟩:=mem_flatten.mp hr;rw[wA hl]at hr;obtain⟨r',Gp⟩:=length_eq_one_iff.mp (hn c);rw[Gp]at hr⊢;simpa using hr
    .rw[hlen];split
     .rename_i c;rw[hl c];unfold we;rw[af (by rw[c];decide)]
     .rename_i c;rw[len_rep,hn c];omega
   .cases h
  .cases h
 .rename_i ho;split at h
  .rename_i hk;have hkl:q.kind≠cp:=λz=>by rw[z]at hk;revert hk;decide
   split at h
   .rename_i hb;unfold Bg at h;split at h
    .split at h
     .cases h
     .rename_i s es;split at h
      .cases h;exact⟨λc=>absurd c hkl,λ_ s hs=>by rw[mem_singleton.mp hs];exact xT es,λc=>absurd c ho,λ_=>rfl,λ_ c=>absurd hb c⟩
      .cases h
    .cases h
   .rename_i hb;split at h
    .unfold Er at h;split at h
     .split at h
      .cases h
      .rename_i A eA;split at h
       .cases h
       .rename_i B eB;split at h
        .split at h
         .split at h
          .cases h;refine⟨λc=>absurd c hkl,λ_ s hs=>?_,λc=>absurd c ho,λc=>absurd c hb,λ_ _=>rfl⟩;obtain z|z:=mem_cons.mp hs
           .rw[z];exact xT eA
           .rw[mem_singleton.mp z];exact xT eB
          .cases h
         .cases h
        .cases h
     .cases h
    .cases h
  .cases h
def CP ns x:(gi ns x).length=ns.length*x.1.length:=by
 unfold gi;rw[length_flatMap]
 induction ns with
 |nil=>simp
 |cons a l ih=>
  rw[aI,sum_cons,ih,az,aY,Nat.succ_mul,sN]
theorem Hj:∀(ss R:List (List Int)) ns,ss.length=R.length->((((ss.zip R).foldl gi ns).length:Nat):Int)=ss.foldl (λr (l:List Int)=>r*(l.length:Int)) (ns.length:Int)
 |[],[],ns,_=>rfl
 |s::ss,r::R,ns,h=>by
  show((((ss.zip R).foldl gi (gi ns (s,r))).length:Nat):Int)=_;rw[Hj ss R _ ‹h›,CP];simp
def NV{ss R:List (List Int)}(gU:∀s∈ss,s≠ [])(hl:ss.length=R.length) i:(oU ((ss.zip R).take i)).length<=(oU (ss.zip R)).length:=by
 have grow:∀(l:List (List Int×List Int))(ns:List Int),(∀x∈l,x.1≠ [])->ns.length<=(l.foldl gi ns).length:=by
  intro l
  induction l with
  |nil=>intro ns _;exact aL _
  |cons x l ih=>
   intro ns h;refine aX ?_ (ih (gi ns x) λy hy=>h y (by simp[hy]));rw[CP];exact Nat.le_mul_of_pos_right _ (length_pos_iff.mpr (h x ∅))
 have e:oU (ss.zip R)=((ss.zip R).drop i).foldl gi (oU ((ss.zip R).take i)):=by
  unfold oU;rw[<-pN,sC]
 rw[e];exact grow _ _ λx hx=>gU _ (mE (oo hx)).1
def Rc(K:PySem.W.Frag)(NB Cp Cb:Addr):Sp:=λvs H Q E=>∃(a L:Addr) (ns:List Int) (rs:List (List Int)) (ps:List MP),vs=[.ref a,.ref L]/\aM K H a (ns.map V.int)/\(∀n∈ns,0<=n/\n<=255)/\ns.length<=4180/\zk Cp H L rs ps/\(∀q∈ps,Yw rs q)/\(∀r∈rs,r.length<=24/\∀x∈r,0<=x)/\
 (∀r,oV (cg ns) rs ps (some r)->∀H' v,aw H H'->z4 K Cp Cb H' v rs r->Q v H')/\(oV (cg ns) rs ps none->∀H',aw H H'->E (.ref NB) none H')
def m7:aE ["codes","pools","lines","words","pool","stake","sets","count","numbers"] ["codes","pools"] (ao LN):=by ac_nf
def UQ(D:Def K mg "read_bet" LN ["codes","pools"])(T:Tx mg)(jz:Ok P w K mg base eX 2 "text_of" ["codes"] (I_ K))(iu:Ok P w K mg base eX 2 "lines_of" ["text"] DR)(aK:Ok P w K mg base (fW P w) 1 "require" ["holds"] (aD NB))(kZ:Ok P w K mg base (fW P w) 2 "pool_called" ["name","pools"] (Hd NB Cp))(m8:Ok P w K mg base (fW P w) 2 "read_stake" ["word","unit"] (Ly NB))(oW:Ok P w K mg base (fW P w) 4 "read_sets" ["words","pool"] (QW K NB Cp))(dg:Ok P w K mg base eX 1 "count_choices" ["lists"] D6)(gN:Ok P w K mg base (fW P w) 2 "check_staked" ["stake","combinations"] (Hc NB))(k9:Ok P w K mg base eX 1 "leg_numbers" ["sets","races"] (Q5 K))(gO:Ok P w K mg base eX 4 "numbers_of_race" ["form","sets","pool"] (Q9 K Cp))(aS:CL P w K mg base "Pool" Cp ["self","name","kind","k","races","unit"] (dD Cp) ["name","kind","k","races","unit"])(jZ:CL P w K mg base "Bet" Cb ["self","pool","stake","sets","numbers"] (jA Cb) ["pool","stake","sets","numbers"]):Ok P w K mg base (fW P w) 5 "read_bet" ["codes","pools"] (Rc K NB Cp Cb):=by
 refine D.B9 m7 (λvs H Q E h=>?_) (λf b9 A outer s H vs Q E hr h=>?_)
 .obtain⟨_,_,_,_,_,rfl,_⟩:=h;rfl
 .obtain⟨a,L,ns,rs,ps,rfl,hS,hb,hl,hC,hpb,hrs,kQ,kE⟩:=h;refine⟨_,(ah (aO (i:=2) m7.nd rfl (Or.inl rfl) (ax iu (hr.mono ⋯) rfl cu (ae (ax jz (hr.mono ⋯) rfl cu (ae (pv 0) ai)) ai))) (ah (aQ (ax (E:=E) aK (hr.mono ⋯) rfl (aW aH) (ae (kP (aU Kv (pv 2) yf (aG _)) (i5 (aU cD (aC aA (by rfl) T.cq bN (ae (pv 2) ai)) aq (aG _)))) ai))) (ah (aO (i:=3) m7.nd rfl (Or.inl rfl) (bG aP (pv 2) aq (λ_ _=>rfl))) (ah (aQ (ax (E:=E) aK (hr.mono ⋯) rfl (aW aH) (ae (kP (aU FE (aC aA (by rfl) T.cq bN (ae (pv 3) ai)) (cQ T.fM rfl) (aG _)) (kP (aU cD (bG aP (pv 3) aq (λ_ _=>rfl)) bu (aG _)) (i5 (aU cD (bG aP (pv 3) aq (λ_ _=>rfl)) bu (aG _))))) ai))) (ah (aO (i:=4) m7.nd rfl (Or.inl rfl) (ax (E:=E) kZ (hr.mono ⋯) rfl (aW aH) (ae (bG aP (pv 3) aq (λ_ _=>rfl)) (ae (pv 1) ai)))) (ah (aO (i:=5) m7.nd rfl (Or.inl rfl) (ax (E:=E) m8 (hr.mono ⋯) rfl (aW aH) (ae (bG aP (pv 3) aq (λ_ _=>rfl)) (ae (bz (pv 4) rfl) ai)))) (ah (aO (i:=6) m7.nd rfl (Or.inl rfl) (ax (E:=E) oW (hr.mono ⋯) rfl (aW aH) (ae (iQ kr (pv 3) (iH aq) qd) (ae (pv 4) ai)))) (ah (cW (bx cD (bz (pv 4) rfl) bu (aG _)) (ah (aO (i:=7) m7.nd rfl (Or.inl rfl) (ax dg (hr.mono ⋯) rfl cu (ae (pv 6) ai))) (ah (aQ (ax (E:=E) gN (hr.mono ⋯) rfl (aW aH) (ae (pv 5) (ae (pv 7) ai)))) (au (aO (i:=8) m7.nd rfl (Or.inl rfl) (yj (bx jN (pv 7) (cQ T.d8 rfl) (aG _)) (ax k9 (hr.mono ⋯) rfl cu (ae (pv 6) (ae (bz (pv 4) rfl) ai))) yf))))) (ah (aO (i:=8) m7.nd rfl (Or.inl rfl) (ax gO (hr.mono ⋯) rfl cu (ae (bG aP (pv 3) aq (λ_ _=>rfl)) (ae (pv 6) (ae (pv 4) ai))))) (au (aQ (ax (E:=E) gN (hr.mono ⋯) rfl (aW aH) (ae (pv 5) (ae (aC aA (by rfl) T.cq bN (ae (pv 8) ai)) ai))))))) (au (aJ (VM jZ (hr.mono ⋯) rfl (ae (pv 4) (ae (pv 5) (ae (pv 6) (ae (pv 8) ai))))))))))))))),?_⟩;simp? only[cf,aD];have hz:=cG;have A3:(cg ns).length<=4180:=by unfold cg;rw[az];exact hl
  have hc1:∀c∈cg ns,c<128:=λc hc=>by
   unfold cg at hc;obtain⟨n,_,rfl⟩:=mem_map.mp hc;exact VR _
  refine⟨a,ns,rfl,hS,hb,by omega,λH1 s1=>⟨cg ns,rfl,by omega,hc1,?_⟩⟩;cases el:i7 (cg ns)with
  |none=>
   intro H2 s2;rw[af ∅];exact kE (by unfold oV;rw[el]) H2 (s1.trans s2)
  |some ls=>
  intro H2 L2 s2 hLs;obtain⟨_,as,hA,QY⟩:=hLs;have V9:=Paired.eQ QY;have NI:=s1.trans s2;rw[ag ∅];refine⟨L2,rfl,_,.inl (aM.of hA),?_⟩;refine bj (λb=>?_) (λb=>kE ?_ H2 NI)
  case refine_2=>
   unfold oV;rw[el]
   match ls,V9 with
   |[],_=>rfl|[_],h=>exact absurd (show((as.length:Nat):Int)=1 by rw[h];rfl) b
   |_::_::_,_=>rfl
  obtain⟨ws,rfl⟩:∃ws,ls=[ws]:=length_eq_one_iff.mp ();obtain⟨v0,Nh,pw,rfl,hw⟩:=Paired.Kp QY (show [ws][0]?=some ws from rfl);have AW:∀r,oV (cg ns) rs ps r=oV (cg ns) rs ps r:=λ_=>rfl
  conv at AW=>ext r;rhs;unfold oV
  simp only[el]at AW;have B8:∀t∈ws,t.length<=4190:=λt ht=>by
   have:=NT el t ht;omega
  refine⟨L2,rfl,_,aM.of hA,_,eG (j:=0) Nh,pw,rfl,_,.inl (aM.of hw.1),?_⟩;rw[az];refine bj (λc=>?_) (λc=>kE (by rw[AW,af ()]) H2 NI);have c:6<=ws.length:=by omega
  have uH:∀i:Nat,i<6->ws[i]?=some (ws.getD i []):=λi hi=>by
   rw[cT,bt ()];rfl
  refine⟨pw,rfl,_,aM.of hw.1,_,(hw.at (uH 0 ⋯)).1,rfl,?_⟩;rw[show Str.ofString "bet"=S UN by decide+kernel,show Str.ofString "for"=S UO by decide+kernel];simp only[V.str.injEq,cS];refine bj (λd=>?_) (λd=>kE (by rw[AW,af (λz=>d z.2.1)]) H2 NI);refine⟨pw,rfl,_,aM.of hw.1,_,(hw.at (uH 2 ⋯)).1,rfl,?_⟩;simp only[V.str.injEq,cS];refine bj (λe=>?_) (λe=>kE (by rw[AW,af (λz=>e z.2.2)]) H2 NI);simp only[if_pos (show 6<=ws.length/\ws.getD 0 []=UN/\ws.getD 2 []=UO from⟨c,d,e⟩)]at AW;obtain⟨rv,hR,hPo⟩:=hC.same NI;refine⟨pw,rfl,_,aM.of hw.1,_,(hw.at (uH 1 ⋯)).1,ws.getD 1 [],L,rv,ps,rfl,hPo,λq hq H3 v s3 hpi=>?_,λgU H3 s3=>kE ?_ H3 (NI.trans s3)⟩
  case refine_2=>
   rw[AW];generalize ps.filter (λq=>decide (q.name=ws.getD 1 []))=F at*
   match F,gU with
   |[],_=>rfl|[_],h=>exact absurd rfl h
   |_::_::_,_=>rfl
  simp only[hq]at AW;have hqm:q∈ps:=(mem_filter.mp (by rw[hq];simp:q∈ps.filter λq=>decide (q.name=ws.getD 1 []))).1;have pb:=hpb q hqm;have UL:=NI.trans s3;have Si:=hw.same s3;have UG:Paired (fY H3) rv rs:=Paired.fU hR λ_ _ z=>z.same s3;have hPA:=hpi.at UG pb.NR;obtain⟨pp,dx,Rr,rfl,nQ,hRR⟩:=id hPA;refine⟨pw,rfl,_,aM.of Si.1,_,(hw.at (uH 3 ⋯)).1,?_⟩;simp only[ot,ye,yc];refine⟨_,rfl,Cp,dx,_,nQ,aS.cl,aS.no "unit" ∅,_,rfl,ws.getD 3 [],q.u,rfl,(hw.at (uH 3 ⋯)).2,pb.u.1,pb.u.2,?_⟩;cases Zt:oR (ws.getD 3 []) q.u with
  |none=>exact kE (by rw[AW,Zt]) H3 UL
  |some st=>
  simp only[Zt]at AW;dsimp only;refine⟨pw,rfl,_,aM.of Si.1,λp5 hp5=>?_⟩;have s5:=aw.new (o:=HO.lst (lH (ws.map λw=>V.str (S w)) (some 4) none)) hp5;have s15:=UL.trans s5;have Zm:=NU (rs:=rs) pb.NR;have V8:=Ra (rs:=rs) (q:=q);have A9:∀r∈cY rs q,r.length<=24/\∀x∈r,0<=x:=λr hr=>hrs r (Q_ pb.NR r hr);have hw5:Words (upd H3 p5 (.lst (lH (ws.map λw=>V.str (S w)) (some 4) none))) p5 (ws.drop 4):=by
   refine⟨?_,?_,?_,λt ht=>hw.2.2.2 t (oo ht)⟩
   .rw[ak,show lH (ws.map λw=>V.str (S w)) (some 4) none=(ws.map λw=>V.str (S w)).drop 4 from qo _ 4,<-map_drop]
   .intro z;have:=cb List.length z;rw[dX,pH]at this;omega
   .rw[dX];have:=hw.2.2.1;omega
  refine⟨p5,pp,ws.drop 4,rs,q,rfl,hw5,by rw[dX];omega,λt ht=>B8 t (oo ht),hPA.same s5,pb.NR.k1,pb.NR.k2,Zm,V8,λr hr=>⟨by have:=(A9 r hr).1;omega,(A9 r hr).2⟩,λss es H6 S6 s6 Sr=>?_,λes H6 s6=>kE (by rw[AW,es]) H6 (s15.trans s6)⟩;simp only[es]at AW;have s16:=s15.trans s6;have s36:=s5.trans s6;have Zu:Wc (ws.getD 4 []) q (cY rs q) ss:=by
   have:=Rb es pb.NR.k1 Zm V8
   rwa [show(ws.drop 4).getD 0 []=ws.getD 4 [] by simp[getD_eq_getElem?_getD]]at this
  have abf:=hPA.same s36;have abg:=s36 _ _ nQ;have mk:∀(H7:Hp)(vn:V)(on:Option (List Int)),aw H6 H7->oV (cg ns) rs ps (some (q,st,ss,on))->(match on with
    |none=>vn=.cV
    |some nums=>∃L,vn=.ref L/\H7 L=some (.lst (nums.map V.int))/\nums.length<=400000)->∀x dx,H7 x=none->H7 dx=none->dx≠x->jA Cb [V.ref x,V.ref pp,V.int st,V.ref S6,vn] (upd (upd H7 dx (HO.own x)) x (HO.ins Cb dx [])) (λv H2=>v=V.cV/\Q (V.ref x) H2) E0:=by
   intro H7 vn on s7 hb hn x dx nx ndx nex;refine⟨x,dx,_,_,_,_,rfl,ak,λH8 h8 k8=>⟨rfl,?_⟩⟩;have s8:=aw.made nx ndx k8;refine kQ _ hb H8 _ ((s16.trans s7).trans s8) ⟨x,dx,pp,S6,vn,rfl,h8,abf.same (s7.trans s8),vE.same Sr (s7.trans s8),?_⟩;cases on with
   |none=>exact hn
   |some nums=>
    obtain⟨L,e,h,hl⟩:=hn;exact⟨L,e,s8 _ _ h,hl⟩
  have st0:0<=st/\st<=1000000:=by
   unfold oR at Zt;split at Zt
   .cases Zt;omega
   .cases Zt
  refine⟨_,rfl,Cp,dx,_,abg,aS.cl,aS.no "kind" ∅,_,rfl,rfl,?_⟩;rw[zf];simp only[V.str.injEq,cS];refine bj (λkl=>?_) (λkl=>?_)
  .simp only[if_pos kl]at AW;have Iz:=(Zu.legs kl).2;have hlen:=Paired.eQ Iz;have hg:∀s∈ss,∃r∈cY rs q,t5 s r:=λs hs=>by
    obtain⟨i,hi,e⟩:=my hs;obtain⟨r,hr,g⟩:=Paired.at' Iz (bt hi);exact⟨r,bg hr,e▸g⟩
   have Zd:∀s∈ss,s.length<=24:=λs hs=>by
    obtain⟨r,hr,g⟩:=hg s hs;have:=(A9 r hr).1;have:=g.2.2.2;omega
   refine⟨S6,ss,rfl,Sr,λs hs=>by have:=Zd s hs;omega,st,_,rfl,st0.1,st0.2,?_⟩;refine bj (λcs=>?_) (λcs=>kE (by rw[AW,af cs]) H6 s16);simp only[if_pos cs]at AW;dsimp only[ZI];simp only[BE,S8,tC,OL,ye,BF,vq,Il,ot,yc,fI,kO];refine⟨_,rfl,_,rfl,_,rfl,_,rfl,?_⟩;simp only[decide_eq_true_eq];refine bj (λcn=>?_) (λcn=>?_)
   .simp only[if_pos cn]at AW;have hL:=Hj ss (cY rs q) [0] hlen;have hL:(((oU (ss.zip (cY rs q))).length:Nat):Int)=jh ss:=hL;refine⟨_,rfl,_,rfl,Cp,dx,_,abg,aS.cl,aS.no "races" ∅,_,rfl,S6,_,ss,cY rs q,rfl,Sr,hRR.same s36,hlen,λs hs=>by have:=Zd s hs;omega,λr hr=>by have:=(A9 r hr).1;omega,λi=>?_,λH7 L7 s7 n7 h7=>?_⟩
    .have:=NV (R:=cY rs q) (λs hs=>by obtain⟨r,_,g⟩:=hg s hs;exact g.2.2.1) hlen i;omega
    .exact mk H7 _ (some _) s7 (by rw[AW]) ⟨L7,rfl,h7,by omega⟩
   .simp only[if_neg cn]at AW;exact mk H6 _ none aw.rfl' (by rw[AW]) rfl
  .simp only[if_neg kl]at AW;have h1:=V8 kl;have hn4:=pb.nl kl;have hI:(cY rs q)[0]?=some ((cY rs q).getD 0 []):=by
    rw[cT,bt ()];rfl
   have aea:=(A9 _ (bg hI)).1;have Zf:=pb.NR.k1;have hon:1<=we q/\we q<=4:=by
    unfold we;split<;>omega
   refine⟨pw,rfl,_,aM.of (Si.same s36).1,_,(hw.at (uH 4 ⋯)).1,ws.getD 4 [],S6,pp,ss,rs,q,_,rfl,Sr,abf,hI,aea,by omega,hn4,λc=>by have:=pb.any c;omega,λs hs=>by have:=(Zu.one kl s hs).2.2.2;omega,λc=>by have:=Zu.on c;omega,Zu.box,Zu.key,λca co=>?_,λnums H7 L7 hnu aeb s7 n7 h7=>?_⟩
   .rw[Zu.on co];unfold we;rw[af (by rw[ca];decide)]
   refine⟨L7,rfl,_,.inl (aM.of h7),st,_,rfl,st0.1,st0.2,?_⟩;rw[az];refine bj (λcs=>?_) (λcs=>kE (by rw[AW];exact⟨nums,hnu,by rw[af cs]⟩) H7 (s16.trans s7));exact mk H7 _ (some nums) s7 (by rw[AW];exact⟨nums,hnu,by rw[ag cs]⟩) ⟨L7,rfl,h7,aeb⟩
end
noncomputable def toK(g:AU):List (Key×V):=g.map λp=>(Sum.inl p.1,V.int p.2)
def Rf g:(toK g).map (·.1)=(bq g).map Sum.inl:=by
 unfold toK bq;rw[bP,bP];rfl
def UR g:(toK g).length=g.length:=by unfold toK;rw[az]
def LO g k:eU (toK g) (Sum.inl k)=(bo g k).map V.int:=by
 induction g with
 |nil=>rfl
 |cons p g ih=>
  show eU ((Sum.inl p.1,V.int p.2)::toK g) (Sum.inl k)=_;rw[cI];by_cases h:p.1=k
  .rw[ag h,cA (by rw[h])];rfl
  .rw[af h,cB (λz=>h (Sum.inl.inj z)),ih]
def LQ g k v:putK (toK g) (Sum.inl k) (V.int v)=toK (oP g k v):=by
 have e:((toK g).any λkv=>decide (kv.1=Sum.inl k))=(g.any λp=>decide (p.1=k)):=by
  unfold toK;rw[any_map];congr 1;funext p;show decide ((Sum.inl p.1:Key)=Sum.inl k)=decide (p.1=k);by_cases h:p.1=k
  .rw[hX h,hX (by rw[h])]
  .rw[cU h,cU (λz=>h (Sum.inl.inj z))]
 unfold putK oP;rw[e];split
 .unfold toK;rw[bP,bP];apply fF;intro p _;show(if(Sum.inl p.1:Key)=Sum.inl k then((Sum.inl p.1:Key),V.int v)else(Sum.inl p.1,V.int p.2))=_;by_cases h:p.1=k
  .rw[ag (by rw[h])];show _=(Sum.inl (if p.1=k then(p.1,v)else p).1,V.int (if p.1=k then(p.1,v)else p).2);rw[ag h]
  .rw[af (λz=>h (Sum.inl.inj z))];show _=(Sum.inl (if p.1=k then(p.1,v)else p).1,V.int (if p.1=k then(p.1,v)else p).2);rw[af h]
 .unfold toK;rw[eC];rfl
theorem CQ:∀l g,(bq (g++l)).Nodup->kS (toK g) (toK l)=toK (g++l)
 |[],g,_=>by
  rw[h_];rfl
 |p::l,g,h=>by
  have hk:p.1∉bq g:=by
   intro z;unfold bq at h z;rw[eC,pM]at h;exact h.2.2 _ z _ ∅ rfl
  have e:oP g p.1 p.2=g++ [p]:=by
   unfold oP;rw[af (λz=>hk (any_keys.mp z))]
  show kS (putK (toK g) (Sum.inl p.1) (V.int p.2)) (toK l)=_;rw[LQ,e,CQ l (g++ [p]) (by rw[g9];exact h),g9];rfl
theorem z6:∀ms:List Int,ms.length%2=0->L2.bA (ms.map V.int)=((bq (bh ms)).map (Sum.inl:Int->Key)).map kV
 |[],_=>rfl|[_],h=>by simp at h
 |a::b::r,h=>by
  show V.int a::L2.bA (r.map V.int)=kV (Sum.inl a)::((bq (bh r)).map (Sum.inl:Int->Key)).map kV;rw[z6 r (by simp at h;omega)];rfl
theorem CT:∀ms:List Int,L2.oE (ms.map V.int)=(bh ms).map λp=>V.int p.2
 |[]=>rfl|[_]=>rfl
 |a::b::r=>by
  rw[aI,aI,xC,CT r];rfl
def UT g:((bq g).map (Sum.inl:Int->Key)).zip (g.map λp=>V.int p.2)=toK g:=by
 induction g with
 |nil=>rfl
 |cons p g ih=>
  show(Sum.inl p.1,V.int p.2)::(((bq g).map (Sum.inl:Int->Key)).zip (g.map λp=>V.int p.2))=_;rw[ih];rfl
section
noncomputable abbrev Ex:Stmt:=top 5
def LR(K:PySem.W.Frag):Sp:=λvs H Q _=>∃(a:Addr) (ms:List Int),vs=[.ref a]/\aM K H a (ms.map V.int)/\ms.length%2=0/\(bq (bh ms)).Nodup/\∀H' d,aw H H'->H d=none->H' d=some (.dK (toK (bh ms)))->Q (.ref d) H'
def UU:aE ["money"] ["money"] (ao Ex):=by ac_nf
def Rg(D:Def K mg "by_number" Ex ["money"])(T:Tx mg):Ok P w K mg base eX 1 "by_number" ["money"] (LR K):=by
 refine D.ok UU (λvs H Q E h=>?_) (λf b9 A outer s H vs Q E hr h=>?_)
 .obtain⟨_,_,rfl,_⟩:=h;rfl
 .obtain⟨a,ms,rfl,hS,h2,nd,kQ⟩:=h;refine⟨_,(au (aJ (Jl rfl rfl T.y4 rfl T.y6 (ae (tu (pv 0) aq aq) (ae (tu (pv 0) aq aq) ai))))),?_⟩;refine⟨a,_,0,rfl,rfl,rfl,hS,λp hp=>?_⟩;refine⟨a,_,1,rfl,rfl,rfl,(aw.new hp).seq hS,λq hq=>?_⟩;rw[drop_zero]at hq⊢;rw[show L2.bA ((ms.map V.int).drop 1)=L2.oE (ms.map V.int)from rfl];rw[z6 ms h2]at hq⊢;rw[CT];have hqp:p≠q:=λz=>by rw[<-z,ak]at hq;cases hq
  have s1:aw H (upd H p (.lst (((bq (bh ms)).map (Sum.inl:Int->Key)).map kV))):=aw.new hp;have hq0:H q=none:=by
   have:=hq;rw[aB (c6 hqp)]at this;exact this
  refine⟨p,q,(bq (bh ms)).map Sum.inl,_,rfl,aM.of ?_,aM.of ak,by unfold bq;rw[az,az,az],λx hx=>?_⟩
  .rw[aB hqp,ak]
  .rw[UT];have e:kS [] (toK (bh ms))=toK (bh ms):=CQ (bh ms) [] nd;rw[e];have hx1:(upd H p (.lst (((bq (bh ms)).map (Sum.inl:Int->Key)).map kV))) x=none:=by
    by_cases z:x=q
    .rw[z,ak]at hx;cases hx
    .rw[aB z]at hx;exact hx
   have hx0:H x=none:=by
    by_cases z:x=p
    .rw[z,ak]at hx1;cases hx1
    .rw[aB z]at hx1;exact hx1
   exact kQ _ x ((s1.trans (aw.new hq)).trans (aw.new hx)) hx0 ak
end
section
noncomputable abbrev t6:Stmt:=top 6
def CU:Sp:=λvs H Q _=>∃(d:Addr) (g:AU),vs=[.ref d]/\H d=some (.dK (toK g))/\(bq g).Nodup/\g.length<=1000000/\∀out H' p,zA g out->aw H H'->H p=none->H' p=some (.lst (out.map V.int))->Q (.ref p) H'
def uS:aE ["cents","money","number"] ["cents"] (ao t6):=by ac_nf
def JM(D:Def K mg "in_pairs" t6 ["cents"])(T:Tx mg):Ok P w K mg base eX 1 "in_pairs" ["cents"] CU:=by
 refine D.ok uS (λvs H Q E h=>?_) (λf b9 A outer s H vs Q E hr h=>?_)
 .obtain⟨_,_,rfl,_⟩:=h;rfl
 .obtain⟨d,g,rfl,hd,nd,hg,kQ⟩:=h;have hu:=vt hr;have hz:=bE;refine⟨_,(ah (aO (i:=1) uS.nd rfl (Or.inl rfl) (gu ai)) (ah (fJ hU rfl (bZ (aC (Ea rfl) (by rfl) T.iU boot_sorted (ae (pv 0) ai))) (aT (i:=2) uS.nd rfl (Or.inl rfl)) (au (cW (bx vj (KI hu (pv 0) (pv 2) (λ_ _=>rfl)) aq (aG _)) (au (aQ (Ky x5 PySem.F.slot_list_extend PySem.F.type_list_extend BO (pv 1) (ae (gu (ae (pv 2) (ae (KI hu (pv 0) (pv 2) (λ_ _=>rfl)) ai))) ai)))) bC))) (au (aJ (pv 1))))),?_⟩;refine⟨by show 0<=_;omega,λm hm=>⟨toK g,bq g,(aw.new hm) _ _ hd,Rf g,λns p pm up hp=>?_⟩⟩;have hmp:m≠p:=λz=>by rw[<-z,ak]at hp;cases hp
  have XX:H p=none:=by rw[aB (c6 hmp)]at hp;exact hp
  have aeK:ns.length=g.length:=by rw[pm.length_eq];unfold bq;rw[az]
  refine⟨p,rfl,⟨_,aM.of ak⟩,iP (K:=K) (a:=p) (xs:=ns.map V.int) (λi σ H'=>∃v:Option V,σ=[some (.ref d),some (.ref m),v]/\aw H H'/\H' p=some (.lst (ns.map V.int))/\H' m=some (.lst ((dS g (ns.take i)).map V.int)))
   ⟨none,rfl,(aw.new hm).trans (aw.new hp),ak,by rw[aB hmp,ak];rfl⟩ (λi σ H' _ ⟨_,_,_,h,_⟩=>aM.of h) ?_ ?_⟩
  .rintro i y σ H' hi ⟨v,rfl,s1,h1,h2⟩;rw[aZ]at hi;cases hn:ns[i]? with
   |none=>rw[hn]at hi;cases hi
   |some n=>
   rw[hn]at hi;cases hi;have Bf:n∈bq g:=pm.mem_iff.mp (bg hn);have hdd:=s1 _ _ hd;cases hv:bo g n with
   |none=>exact absurd Bf (jU.mp hv)
   |some c=>
   have aec:eU (toK g) (Sum.inl n)=some (.int c):=by rw[LO,hv];rfl
   have ht:ns.take (i+1)=ns.take i++ [n]:=bp hn;have hfl:(dS g (ns.take i)).length+2<=sizeLine:=by
    have h7:=uK g (ns.take i);have h8:(ns.take i).length<=1000000:=by
     rw[cP];exact aX (mn _ _) ()
    rw[cG];omega
   simp? only[ou,VC,Y7,Dv];have hdg:n8 H' d (.int n) (some (.int c)):=by
    rw[<-aec];exact n8.k (k:=Sum.inl n) hdd
   refine⟨_,hdg,c,rfl,?_⟩;refine bj (λb=>?_) (λb=>?_)
   .refine⟨(.inl ⟨rfl,_,aM.of h2⟩:W7 K "list" (.ref m) H'),_,hdg,by omega,λt Sq=>?_⟩;have htm:m≠t:=λz=>by rw[<-z,h2]at Sq;cases Sq
    have htp:p≠t:=λz=>by rw[<-z,h1]at Sq;cases Sq
    have s2:aw H' (upd H' t (.lst [.int n,.int c])):=aw.new Sq;refine⟨_,s2 _ _ h2,_,ak,by rw[az];exact hfl,⟨_,rfl⟩,(s1.trans s2).kD hm,?_,?_⟩
    .rw[aB (c6 hmp)];exact s2 _ _ h1
    .rw[ak,ht,zt,hv];show some (HO.lst (_++ [V.int n,V.int c]))=some (HO.lst (List.map V.int (dS g (List.take i ns)++if 0<c then [n,c]else [])));rw[ag b,eC];rfl
   .refine⟨⟨_,rfl⟩,s1,h1,?_⟩;rw[h2,ht,zt,hv];show _=some (HO.lst (List.map V.int (dS g (List.take i ns)++if 0<c then [n,c]else [])));rw[af b,h_]
  .rintro σ H' ⟨v,rfl,s1,h1,h2⟩;rw[az,et]at h2;exact kQ _ H' m ⟨ns,pm,up,rfl⟩ s1 hm h2
end
section
noncomputable def eO(nums:List Int)(st:Int):AU:=nums.map λn=>(n,st)
noncomputable abbrev m9:Stmt:=top 7
def vN(K:PySem.W.Frag):Sp:=λvs H Q _=>∃(a b:Addr) (ms nums:List Int) (st:Int),vs=[.ref a,.ref b,.int st]/\aM K H a (ms.map V.int)/\ms.length%2=0/\ms.length<=16000/\(bq (bh ms)).Nodup/\H b=some (.lst (nums.map V.int))/\nums.length<=600000/\
 ∀out H' p,zA (qH (bh ms) (eO nums st)) out->aw H H'->H p=none->H' p=some (.lst (out.map V.int))->Q (.ref p) H'
def oX:aE ["money","numbers","stake","cents","number"] ["money","numbers","stake"] (ao m9):=by ac_nf
def Ey(D:Def K mg "with_stake" m9 ["money","numbers","stake"])(T:Tx mg)(oY:Ok P w K mg base eX 1 "by_number" ["money"] (LR K))(rP:Ok P w K mg base eX 1 "in_pairs" ["cents"] CU):Ok P w K mg base eX 2 "with_stake" ["money","numbers","stake"] (vN K):=by
 refine D.ok oX (λvs H Q E h=>?_) (λf b9 A outer s H vs Q E hr h=>?_)
 .obtain⟨_,_,_,_,_,rfl,_⟩:=h;rfl
 .obtain⟨a,b,ms,nums,st,rfl,hS,m2,ml,nd,hB,nl,kQ⟩:=h;have hu:=vt hr;have hz:=cG;refine⟨_,(ah (aO (i:=3) oX.nd rfl (Or.inl rfl) (ax oY (hr.mono ⋯) rfl cu (ae (pv 0) ai))) (ah (fJ hU rfl (bZ (pv 1)) (aT (i:=4) oX.nd rfl (Or.inl rfl)) (au (xo hu (pv 3) (pv 4) (bR fV (O8 hu (pv 3) (pv 4) aq ⟨rfl,rfl,rfl,rfl⟩) (pv 2)) rfl))) (au (aJ (ax rP (hr.mono ⋯) rfl cu (ae (pv 3) ai)))))),?_⟩;have lk:(bh ms).length<=8000:=by rw[rK];omega
  have le:(eO nums st).length=nums.length:=by unfold eO;rw[az]
  refine⟨a,ms,rfl,hS,m2,nd,λH1 d s1 nd1 hd=>?_⟩;have BH:b≠d:=λz=>by rw[z,nd1]at hB;cases hB
  have hat:∀i n,nums[i]?=some n->(eO nums st)[i]?=some (n,st):=λi n h=>by
   unfold eO;rw[aZ,h];rfl
  refine⟨b,rfl,⟨_,aM.of (s1 _ _ hB)⟩,iP (K:=K) (a:=b) (xs:=nums.map V.int) (λi σ H'=>∃v:Option V,σ=[some (.ref a),some (.ref b),some (.int st),some (.ref d),v]/\aw H H'/\H' d=some (.dK (toK (qH (bh ms) ((eO nums st).take i)))))
   ⟨none,rfl,s1,hd⟩ (λi σ H' _ ⟨_,_,h,_⟩=>aM.of (h _ _ hB)) ?_ ?_⟩
  .rintro i y σ H' hi ⟨v,rfl,sm,h5⟩;rw[aZ]at hi;cases hn:nums[i]? with
   |none=>rw[hn]at hi;cases hi
   |some n=>
   rw[hn]at hi;cases hi;generalize hG:qH (bh ms) ((eO nums st).take i)=G at*;have hGl:(toK G).length<=700000:=by
    rw[UR,<-hG];have h6:=xP ((eO nums st).take i) (bh ms);have h7:((eO nums st).take i).length<=(eO nums st).length:=by rw[cP];exact mn _ _
    omega
   simp? only[O7];have ev:(eU (toK G) (Sum.inl n)).getD (V.int 0)=.int ((bo G n).getD 0):=by
    rw[LO];cases bo G n<;>rfl
   refine⟨.inl ⟨_,.inl h5⟩,_,n8.k (k:=Sum.inl n) h5,_,ev,_,FW.k (k:=Sum.inl n) h5 (),⟨_,rfl⟩,sm.kD nd1,?_⟩;rw[ak,LQ,bp (hat i n hn),Nn,hG]
  .rintro σ H' ⟨v,rfl,sm,h5⟩;rw[az,<-le,et]at h5;refine⟨d,qH (bh ms) (eO nums st),rfl,h5,uJ _ _ nd,?_,λout H2 x ho s2 nx hx=>kQ out H2 x ho (sm.trans s2) (sm.free nx) hx⟩;have h6:=xP (eO nums st) (bh ms);omega
end
section
variable {Cb:Addr}
def NW(h:eJ ws races=some p):Yw races p:=by
 have lZ:=Gs h;unfold eJ at h;split at h
 .cases h
 split at h
 .cases h
 split at h
 .cases h
 split at h
 .cases h
 rename_i lh hk;split at h
 .cases h
 rename_i k Gr;split at h
 .cases h
 split at h
 .cases h
 split at h
 .cases h
 split at h
 .cases h
 rename_i u hu;split at h
 .cases h
 split at h
 .cases h
 split at h
 .cases h
 split at h
 .cases h
 cases h;obtain⟨k1,k2,_⟩:=dn Gr;obtain⟨u1,u2,_⟩:=dn hu;refine⟨lZ,⟨by show 0<u;omega,u2⟩,λc=>?_,λc=>?_⟩
 .show k<=4;unfold kindB at hk;split at hk
  .cases hk;exact k2
  split at hk
  .cases hk;exact k2
  split at hk
  .cases hk;omega
  cases hk
 .have c:ws.getD 2 []=jr:=c;rw[c]at hk;cases hk;exact⟨k1,k2⟩
def Ez{r:List Int}(h:gA ws=some r):∀x∈r,0<=x:=by
 unfold gA at h;split at h
 .cases h
 split at h
 .cases h
 split at h
 .cases h
 cases h;intro x hx;obtain⟨i,_,rfl⟩:=mem_map.mp (mem_filter.mp hx).1;omega
def CV{ps:List MP}(h:d7 codes=some (rs,ps)):(∀q∈ps,Yw rs q)/\∀r∈rs,∀x∈r,0<=x:=by
 unfold d7 at h;split at h
 .cases h
 .cases h
 split at h
 .cases h
 split at h
 .cases h
 split at h
 .cases h
 rename_i hr;split at h
 .cases h
 split at h
 .cases h
 rename_i hq;split at h
 .cases h;refine⟨λp hp=>?_,λr hm=>?_⟩
  .obtain⟨ws,_,h1⟩:=oG hq p hp;exact NW h1
  .obtain⟨ws,_,h1⟩:=oG hr r hm;exact Ez h1
 .cases h
def z7(ns bs ms:List Int)(r:Int×Int×Option (List (List Int)×MP×Int×List (List Int)×Option (List Int))):Prop:=
 if 65536<ns.length\/4096<bs.length then r=(-2,0,none)else match d7 (qk ns)with
  |none=>r=(-8,0,none)|some (rs,ps)=>(oV (cg bs) rs ps none/\r=(-6,0,none))\/∃b,oV (cg bs) rs ps (some b)/\r=if dN ms (countM rs b.1)=true then(0,countM rs b.1,some (rs,b))else(-3,0,none)
def abh(K:PySem.W.Frag)(Cp Cb:Addr)(H:Hp)(v:V):Option (List (List Int)×MP×Int×List (List Int)×Option (List Int))->Prop
 |none=>v=.cV|some b=>z4 K Cp Cb H v b.1 b.2
noncomputable abbrev LU:Stmt:=top 77
def Rh(K:PySem.W.Frag)(Cp Cb Ca:Addr):Sp:=λvs H Q _=>∃(a b m:Addr) (ns bs ms:List Int),vs=[.ref a,.ref b,.ref m]/\aM K H a (ns.map V.int)/\(∀x∈ns,0<=x/\x<=255)/\ns.length<=66000/\aM K H b (bs.map V.int)/\(∀x∈bs,0<=x/\x<=255)/\bs.length<=4200/\aM K H m (ms.map V.int)/\ms.length<=16000/\ms.length%2=0/\
 ∀r H' x dx v,z7 ns bs ms r->aw H H'->H' x=some (.ins Ca dx (aaQ r.1 r.2.1 v))->abh K Cp Cb H' v r.2.2->Q (.ref x) H'
def EA:aE ["card","bet","money","pools","told","combinations"] ["card","bet","money"] (ao LU):=by ac_nf
def UW(D:Def K mg "ask_bet" LU ["card","bet","money"])(T:Tx mg)(NCF:Nc K mg NC)(V5:Nb K mg NB)(cx:CLA P w K mg base Ca)(jZ:CL P w K mg base "Bet" Cb ["self","pool","stake","sets","numbers"] (jA Cb) ["pool","stake","sets","numbers"])(oZ:Ok P w K mg base (fW P w) 5 "read_card" ["codes"] (Qj K NC Cp))(rQ:Ok P w K mg base (fW P w) 5 "read_bet" ["codes","pools"] (Rc K NB Cp Cb))(iy:Ok P w K mg base eX 2 "is_right" ["money","combinations"] (D7 K))(fw:Ok P w K mg base eX 3 "count_combinations" ["pool"] (Ld Cp)):Ok P w K mg base eX 6 "ask_bet" ["card","bet","money"] (Rh K Cp Cb Ca):=by
 refine D.ok0 EA (λvs H Q E h=>?_) (λf b9 A outer s H vs Q E hr h=>?_)
 .obtain⟨_,_,_,_,_,_,rfl,_⟩:=h;rfl
 .obtain⟨a,b,m,ns,bs,ms,rfl,hS,hb,hl,hB,hbb,hbl,hM,ml,m2,kQ⟩:=h;refine⟨_,(uC (PS.ps0 (cW (PW.pt (Vu (bx vj (aC aA (by rfl) T.cq bN (ae (pv 0) ai)) (cQ T.dr rfl) (aG _)) (OA (bx vj (aC aA (by rfl) T.cq bN (ae (pv 1) ai)) (cQ T.dO rfl) (aG _))))) (au (aJ (yG cx (List.Mem.tail _ (List.Mem.tail _ (List.Mem.head _))) (hr.n ⋯) rfl (ae (qK kR aq) ai)))) bC)) (uC (KS rfl rfl rfl rfl NCF.mg NCF.ex (by decide+kernel) (λE xe xr=>(au (aO (i:=3) EA.nd rfl (Or.inl rfl) (ax (E:=E) oZ (hr.mono ⋯) rfl (aW xr) (ae (pv 0) ai))))) (λe xe=>(au (aJ (yG cx (List.Mem.tail _ (List.Mem.tail _ (List.Mem.head _))) (hr.nm ⋯) rfl (ae (qK kR aq) ai)))))) (uC (KS rfl rfl rfl rfl V5.mg V5.ex (by decide+kernel) (λE xe xr=>(au (aO (i:=4) EA.nd rfl (Or.inl rfl) (ax (E:=E) rQ (hr.mono ⋯) rfl (aW xr) (ae (pv 1) (ae (pv 3) ai)))))) (λe xe=>(au (aJ (yG cx (List.Mem.tail _ (List.Mem.tail _ (List.Mem.head _))) (hr.nm ⋯) rfl (ae (qK kR aq) ai)))))) (vS.adC (ah (aO (i:=5) EA.nd rfl (Or.inl rfl) (ax fw (hr.mono ⋯) rfl cu (ae (bz (pv 4) rfl) ai))) (ah (cW (uq (uo (ax iy (hr.mono ⋯) rfl cu (ae (pv 2) (ae (pv 5) ai))))) (au (aJ (yG cx (List.Mem.tail _ (List.Mem.tail _ (List.Mem.head _))) (hr.n ⋯) rfl (ae (qK kR aq) ai)))) bC) (au (aJ (yG cx (List.Mem.head _) (hr.n ⋯) rfl (ae aq (ae (pv 5) (ae (pv 4) ai)))))))))))),?_⟩;have hz:=bE;have eF:∀r,z7 ns bs ms r=z7 ns bs ms r:=λ_=>rfl
  conv at eF=>ext r;rhs;unfold z7
  have mk:∀(H1:Hp)(r c:Int)(v:V)(o:Option (List (List Int)×MP×Int×List (List Int)×Option (List Int))),aw H H1->z7 ns bs ms (r,c,o)->abh K Cp Cb H1 v o->∀x dx,H1 x=none->H1 dx=none->dx≠x->oO Ca [.ref x,.int r,.int c,v] (upd (upd H1 dx (.own x)) x (.ins Ca dx [])) (λv H2=>v=.cV/\Q (.ref x) H2) E0:=by
   intro H1 r c v o s1 e hv x dx nx ndx nex;refine⟨x,dx,r,c,v,rfl,ak,λH2 h2 k2=>⟨rfl,?_⟩⟩;have s2:=aw.made nx ndx k2;refine kQ _ H2 x dx v e (s1.trans s2) h2 ?_;cases o with
   |none=>exact hv|some o=>exact z4.same (K:=K) hv s2
  simp? only[];refine⟨_,.inl hS,?_⟩;rw[az];refine bj (λc=>?_) (λc=>?_)
  .exact mk H _ _ _ none aw.rfl' (by rw[eF,ag (.inl ())]) rfl
  refine⟨_,.inl hB,?_⟩;rw[az];refine bj (λd=>?_) (λd=>?_)
  .exact mk H _ _ _ none aw.rfl' (by rw[eF,ag (.inr ())]) rfl
  simp only[if_neg (show¬(65536<ns.length\/4096<bs.length) by omega)]at eF;simp? only[cf];refine⟨λcls _ H'=>cls=.ref NC/\d7 (cg ns)=none/\aw H H',?_,?_⟩
  .refine⟨a,ns,rfl,hS,hb,hl,λrs ps ec H1 L s1 hc=>?_,λec H1 s1=>⟨rfl,ec,s1⟩⟩;have ec':d7 (qk ns)=some (rs,ps):=ec;simp only[ec']at eF;have hcb:=CV ec;have A3:=Jj ec;simp? only[];refine⟨λcls _ H'=>cls=.ref NB/\oV (cg bs) rs ps none/\aw H H',?_,?_⟩
   .refine⟨b,L,bs,rs,ps,rfl,s1.seq hB,hbb,by omega,hc,hcb.1,λr hr=>⟨A3 r hr,hcb.2 r hr⟩,λr er H2 v s2 hv=>?_,λer H2 s2=>⟨rfl,er,s1.trans s2⟩⟩;have NI:=s1.trans s2;obtain⟨bb,dx,p,S',vn,rfl,h1,h2,h3,h4⟩:=id hv;simp? only[cf,ot];refine⟨Cb,dx,_,h1,jZ.cl,jZ.no "pool" ∅,_,rfl,p,rs,r.1,rfl,h2,(hcb.1 _ er.mem).NR,A3,λH3 s3=>?_⟩;have UL:=NI.trans s3;refine⟨m,ms,_,rfl,UL.seq hM,by omega,m2,λH4 s4=>⟨_,rfl,?_⟩⟩;have s34:=s3.trans s4;refine bj (λc3=>?_) (λc3=>?_)
    .exact mk H4 _ _ _ none (UL.trans s4) (by rw[eF];exact .inr ⟨r,er,by rw[af (by rw[c3];decide)]⟩) rfl
    .exact mk H4 _ _ _ (some (rs,r)) (UL.trans s4) (by rw[eF];exact .inr ⟨r,er,by rw[ag ‹c3›]⟩) (z4.same (K:=K) hv s34)
   .rintro σ' H' cls d ⟨rfl,er,s2⟩;refine⟨rfl,?_⟩;simp? only[];exact mk H' _ _ _ none s2 (by rw[eF];exact .inl ⟨er,rfl⟩) rfl
  .rintro σ' H' cls d ⟨rfl,ec,s1⟩;have ec':d7 (qk ns)=none:=ec;simp only[ec']at eF;refine⟨rfl,?_⟩;simp? only[];exact mk H' _ _ _ none s1 (by rw[eF]) rfl
end
section
variable {Cb:Addr}
theorem z7.ok{r:Int×Int×Option (List (List Int)×MP×Int×List (List Int)×Option (List Int))}(h:z7 ns bs ms r)(b:¬r.1<0):∃rs ps q,d7 (qk ns)=some (rs,ps)/\oV (cg bs) rs ps (some q)/\dN ms (countM rs q.1)=true/\r=(0,countM rs q.1,some (rs,q)):=by
 unfold z7 at h;split at h
 .rw[h]at b;exact absurd ⋯ b
 split at h
 .rw[h]at b;exact absurd ⋯ b
 rename_i rs ps hc;obtain⟨_,e⟩|⟨q,hq,e⟩:=h
 .rw[e]at b;exact absurd ⋯ b
 .by_cases c:dN ms (countM rs q.1)=true
  .rw[ag c]at e;exact⟨rs,ps,q,hc,hq,c,e⟩
  .rw[af c]at e;rw[e]at b;exact absurd ⋯ b
def JN(ns bs ms ans:List Int):Prop:=∃r,z7 ns bs ms r/\if r.1<0 then ans=[r.1]else(match r.2.2 with
 |none=>False
 |some (_,_,st,_,o)=>(match o with
  |none=>ans=[-9]|some nums=>∃out,zA (qH (bh ms) (eO nums st)) out/\ans=if dN out r.2.1=true then 0::out else [-9]))
noncomputable abbrev NX:Stmt:=top 76
def Ri(K:PySem.W.Frag):Sp:=λvs H Q _=>∃(a b m:Addr) (ns bs ms:List Int),vs=[.ref a,.ref b,.ref m]/\aM K H a (ns.map V.int)/\(∀x∈ns,0<=x/\x<=255)/\ns.length<=66000/\aM K H b (bs.map V.int)/\(∀x∈bs,0<=x/\x<=255)/\bs.length<=4200/\aM K H m (ms.map V.int)/\ms.length<=16000/\ms.length%2=0/\
 ∀ans H' p,JN ns bs ms ans->H' p=some (.lst (ans.map V.int))->Q (.ref p) H'
def Rj:aE ["card","bet","money","asked","after"] ["card","bet","money"] (ao NX):=by ac_nf
def Yx(F:KQ K "put" "put" NX f fd)(T:Tx mg)(cx:CLA P w K mg base Ca)(jZ:CL P w K mg base "Bet" Cb ["self","pool","stake","sets","numbers"] (jA Cb) ["pool","stake","sets","numbers"])(uT:Ok P w K mg base eX 6 "ask_bet" ["card","bet","money"] (Rh K Cp Cb Ca))(m_:Ok P w K mg base eX 2 "with_stake" ["money","numbers","stake"] (vN K))(iy:Ok P w K mg base eX 2 "is_right" ["money","combinations"] (D7 K)):nZ P w K mg base eX 7 f fd ["card","bet","money"] (Ri K):=by
 refine F.ok Rj (λvs H Q E h=>?_) (λb9 A outer s H vs Q E hr h=>?_)
 .obtain⟨_,_,_,_,_,_,rfl,_⟩:=h;rfl
 .obtain⟨a,b,m,ns,bs,ms,rfl,hS,hb,hl,hB,hbb,hbl,hM,ml,m2,kQ⟩:=h;refine⟨_,(ah (aO (i:=3) Rj.nd rfl (Or.inl rfl) (ax uT (hr.mono ⋯) rfl cu (ae (pv 0) (ae (pv 1) (ae (pv 2) ai))))) (ah (cW (bx BD (bz (pv 3) rfl) aq (aG _)) (au (aJ (gu (ae (bz (pv 3) rfl) ai)))) bC) (ah (cW (bx WX (bz (bz (pv 3) rfl) rfl) yf (aG _)) (au (aJ (gu (ae (qK kR aq) ai)))) bC) (ah (aO (i:=4) Rj.nd rfl (Or.inl rfl) (ax m_ (hr.mono ⋯) rfl cu (ae (pv 2) (ae (bz (bz (pv 3) rfl) rfl) (ae (bz (bz (pv 3) rfl) rfl) ai))))) (ah (cW (uq (uo (ax iy (hr.mono ⋯) rfl cu (ae (pv 4) (ae (bz (pv 3) rfl) ai))))) (au (aJ (gu (ae (qK kR aq) ai)))) bC) (au (aJ (bR O1 (gu (ae aq ai)) (pv 4))))))))),?_⟩;have hz:=cG;simp? only[ou,ot];refine⟨a,b,m,ns,bs,ms,rfl,hS,hb,hl,hB,hbb,hbl,hM,ml,m2,λr H1 x dx v hA s1 h1 hv=>?_⟩;refine⟨x,rfl,Ca,dx,_,h1,cx.cl,cx.no "refusal" ∅,_,rfl,_,rfl,?_⟩;refine bj (λb=>?_) (λb=>?_)
  .refine⟨x,rfl,Ca,dx,_,h1,cx.cl,cx.no "refusal" ∅,_,rfl,by omega,λy hy=>kQ [r.1] _ y ⟨r,hA,by rw[ag b]⟩ ak⟩
  .obtain⟨rs,ps,⟨q,st,ss,o⟩,ec,er,Yy,rfl⟩:=hA.ok b;obtain⟨bb,dxb,p,S',vn,rfl,g1,g2,g3,g4⟩:=id hv;simp? only[cf,ou,ot];refine⟨Ca,dx,_,h1,cx.cl,cx.no "bet" ∅,_,rfl,bb,rfl,Cb,dxb,_,g1,jZ.cl,jZ.no "numbers" ∅,vn,rfl,?_⟩;cases o with
   |none=>
    have g4:vn=.cV:=g4;rw[ag g4];exact⟨by omega,λy hy=>kQ [-9] _ y ⟨_,hA,rfl⟩ ak⟩
   |some nums=>
   obtain⟨L,rfl,hL,nl⟩:=g4;rw[af (by intro z;cases z)];refine⟨Ca,dx,_,h1,cx.cl,cx.no "bet" ∅,_,rfl,bb,rfl,Cb,dxb,_,g1,jZ.cl,jZ.no "numbers" ∅,_,rfl,Ca,dx,_,h1,cx.cl,cx.no "bet" ∅,_,rfl,bb,rfl,Cb,dxb,_,g1,jZ.cl,jZ.no "stake" ∅,_,rfl,m,L,ms,nums,st,rfl,s1.seq hM,m2,ml,vH Yy,hL,by omega,λout H2 q2 ho s2 nq hq=>?_⟩;have Tj:=zB ho;have V1:out.length<=900000:=by
    have h3:=Np ho;have h4:=xP (eO nums st) (bh ms);have h5:=rK ms;have h6:(eO nums st).length=nums.length:=by unfold eO;rw[az]
    omega
   refine⟨Ca,dx,_,s2 _ _ h1,cx.cl,cx.no "combinations" ∅,_,rfl,q2,out,_,rfl,aM.of hq,by omega,Tj,λH3 s3=>⟨_,rfl,?_⟩⟩;have hj:∀ans,(ans=if dN out (countM rs q)=true then 0::out else [-9])->JN ns bs ms ans:=λans e=>⟨_,hA,out,ho,e⟩;refine bj (λb2=>⟨by omega,λy hy=>kQ [-9] _ y (hj _ (by rw[b2];rfl)) ak⟩) (λb2=>?_);have b3:dN out (countM rs q)=true:=‹b2›
   refine⟨by omega,λy hy=>⟨y,q2,_,_,rfl,rfl,ak,(s3.trans (aw.new hy)) _ _ hq,by rw[az];show 1+_<=_;omega,λx2 VW=>kQ (0::out) _ x2 (hj _ (by rw[b3];rfl)) (by rw[ak];rfl)⟩⟩
end
end Pd
end
section
namespace Pd
open Tote
theorem z8{f:α->List β}{z:Nat}:∀{l:List α},(∀x∈l,(f x).length=z)->∀{n},n<l.length*z->∃x,l[n/z]?=some x/\(l.flatMap f)[n]?=(f x)[n%z]?
 |[],_,n,h=>by simp at h
 |a::l,hf,n,h=>by
  have ha:=hf a ∅;have hz:0<z:=by
   obtain e|e:=wF z
   .subst e;simp at h
   .exact e
  rw[kN];by_cases hn:n<z
  .refine⟨a,?_,?_⟩
   .rw[Nat.div_eq_of_lt hn];rfl
   .rw[sk (by rw[ha];exact hn),Nat.mod_eq_of_lt hn]
  .have h':n-z<l.length*z:=by
    rw[aY,Nat.add_mul,xf]at h;omega
   obtain⟨x,h1,h2⟩:=z8 (λx hx=>hf x (by simp[hx])) h';have e1:n/z=(n-z)/z+1:=by
    rw[<-Nat.add_div_right _ hz,Nat.sub_add_cancel ()]
   have e2:n%z=(n-z)%z:=by
    rw[<-Nat.add_mod_right (n-z) z,Nat.sub_add_cancel ()]
   refine⟨x,?_,?_⟩
   .rw[e1];exact h1
   .rw[sh (by rw[ha];omega),ha,h2,e2]
theorem z9{f:α->List β}{z:Nat}:∀{l:List α},(∀x∈l,(f x).length=z)->(l.flatMap f).length=l.length*z
 |[],_=>by simp
 |a::l,h=>by
  rw[kN,c9,z9 λx hx=>h x (by simp[hx]),h a ∅,aY,Nat.add_mul,xf,sN]
def j0{l:List Nat}(nd:l.Nodup){x:Nat}(h:l[i]?=some x):(l.findIdx λy=>y==x)=i:=by
 obtain⟨hi,e⟩:=List.getElem?_eq_some_iff.mp h;rw[findIdx_eq hi];refine⟨by simp[e],λj hj=>?_⟩;have hj':=sO hj hi;simp only[beq_eq_false_iff_ne];intro z;have:=(getElem_inj (h₁:=hi) nd).mp (z.trans e.symm);omega
noncomputable def cy:Nat->List Nat->List (List Nat)
 |0,_=>[[]]|k+1,av=>av.flatMap λx=>(cy k (av.erase x)).map λr=>x::r
theorem xU:∀k {av},av.Nodup->(cy k av).length=orders av.length k
 |0,av,_=>by cases av<;>rfl
 |k+1,[],_=>rfl
 |k+1,a::l,nd=>by
  have h:∀x∈(a::l),((cy k ((a::l).erase x)).map λr=>x::r).length=orders l.length k:=λx hx=>by
   rw[az,xU k (nd.erase x),qZ hx];rfl
  show((a::l).flatMap _).length=(l.length+1)*orders l.length k;rw[z9 h];rfl
theorem vO:∀k {av} {r},r∈cy k av->r.length=k
 |0,av,r,h=>by
  have:r=[]:=by simpa[cy]using h
  rw[this];rfl
 |k+1,av,r,h=>by
  obtain⟨x,hx,hr⟩:=mem_flatMap.mp h;obtain⟨q,hq,rfl⟩:=mem_map.mp hr;rw[aY,vO k hq]
theorem JO:∀k {av} (nd:av.Nodup) {n},n<orders av.length k->(cy k av)[n]?=some (rowOrder k av n)/\rankOrder av (rowOrder k av n)=n
 |0,av,nd,n,h=>by
  have hn:n=0:=by
   have:orders av.length 0=1:=by cases av<;>rfl
   omega
  subst hn;exact⟨rfl,rfl⟩
 |k+1,[],nd,n,h=>by simp[orders]at h
 |k+1,a::l,nd,n,h=>by
  have hb:∀x∈(a::l),((cy k ((a::l).erase x)).map λr=>x::r).length=orders l.length k:=λx hx=>by
   rw[az,xU k (nd.erase x),qZ hx];rfl
  have h':n<(a::l).length*orders l.length k:=h;obtain⟨x,h1,h2⟩:=z8 (l:=a::l) hb h';have hx:x∈(a::l):=bg h1;have hz:0<orders l.length k:=by
   obtain e|e:=wF (orders l.length k)
   .rw[e]at h';simp at h'
   .exact e
  have hm:n%orders l.length k<orders ((a::l).erase x).length k:=by
   rw[qZ hx];exact kj _ hz
  obtain⟨i1,i2⟩:=JO k (nd.erase x) hm;have er:rowOrder (k+1) (a::l) n=x::rowOrder k ((a::l).erase x) (n%orders l.length k):=by
   show((a::l).getD (n/orders ((a::l).length-1) k) 0)::rowOrder k ((a::l).erase ((a::l).getD (n/orders ((a::l).length-1) k) 0)) (n%orders ((a::l).length-1) k)=_;have e0:(a::l).length-1=l.length:=rfl;have e1:(a::l).getD (n/orders l.length k) 0=x:=by
    rw[cT,h1];rfl
   rw[e0,e1]
  rw[er];refine⟨?_,?_⟩
  .show((a::l).flatMap λx=>(cy k ((a::l).erase x)).map λr=>x::r)[n]?=_;rw[h2,aZ,i1];rfl
  .have hl:(rowOrder k ((a::l).erase x) (n%orders l.length k)).length=k:=vO k (bg i1);show((a::l).findIdx λy=>y==x)*orders ((a::l).length-1) (rowOrder k ((a::l).erase x) (n%orders l.length k)).length+rankOrder ((a::l).erase x) (rowOrder k ((a::l).erase x) (n%orders l.length k))=n;rw[j0 nd h1,i2,hl];show n/orders l.length k*orders l.length k+n%orders l.length k=n;exact Nat.div_add_mod' n _
theorem qv:∀k {av} (nd:av.Nodup) {r},r∈cy k av↔r.length=k/\r.Nodup/\∀x∈r,x∈av
 |0,av,nd,r=>by
  constructor
  .intro h;have:r=[]:=by simpa[cy]using h
   subst this;exact⟨rfl,by simp,by simp⟩
  .rintro⟨h,_⟩;have:=length_eq_zero_iff.mp h;subst this;simp[cy]
 |k+1,av,nd,r=>by
  constructor
  .intro h;obtain⟨x,hx,hr⟩:=mem_flatMap.mp h;obtain⟨q,hq,rfl⟩:=mem_map.mp hr;obtain⟨h1,h2,h3⟩:=(qv k (nd.erase x)).mp hq;refine⟨by rw[aY,h1],nodup_cons.mpr ⟨λz=>?_,h2⟩,λy hy=>?_⟩
   .exact absurd rfl ((nd.mem_erase_iff).mp (h3 x z)).1
   .obtain e|hy:=mem_cons.mp hy
    .rw[e];exact hx
    .exact mem_of_mem_erase (h3 y hy)
  .rintro⟨h1,h2,h3⟩;cases r with
   |nil=>simp at h1
   |cons x q=>
    obtain⟨n1,n2⟩:=nodup_cons.mp h2;refine mem_flatMap.mpr ⟨x,h3 x ∅,mem_map.mpr ⟨q,(qv k (nd.erase x)).mpr ⟨‹h1›,n2,λy hy=>?_⟩,rfl⟩⟩;exact(nd.mem_erase_iff).mpr ⟨λe=>n1 (e▸hy),h3 y (by simp[hy])⟩
noncomputable def fO:Nat->Nat->Nat
 |_,0=>1|0,_+1=>0
 |n+1,k+1=>fO n k+fO n (k+1)
theorem nc:∀k av,(risingRows k av).length=fO av.length k
 |0,av=>by cases av<;>rfl
 |k+1,[]=>rfl
 |k+1,x::l=>by
  show(((risingRows k l).map λr=>x::r)++risingRows (k+1) l).length=fO l.length k+fO l.length (k+1);rw[c9,az,nc k l,nc (k+1) l]
theorem nW:∀k:Nat,0<orders k k
 |0=>by decide|k+1=>Nat.mul_pos (jn k) (nW k)
def kG n:orders n 0=1:=by cases n<;>rfl
def Hk:∀n k,orders (n+1) (k+1)=orders n (k+1)+(k+1)*orders n k:=λn k=>by
 have h:=oF n k;have e:(orders (n+1) (k+1):Int)=((n:Int)+1)*(orders n k:Int):=by
  show(((n+1)*orders n k:Nat):Int)=_;rfl
 have e2:(orders (n+1) (k+1):Int)=((orders n (k+1)+(k+1)*orders n k:Nat):Int):=by
  rw[e,Int.natCast_add,h,sF,Int.natCast_add,Int.mul_sub,xg,xg];rw[Int.mul_comm (orders n k:Int) (n:Int),Int.mul_comm (orders n k:Int) (k:Int)];omega
 exact Int.ofNat.inj e2
theorem ng:∀n k:Nat,fO n k*orders k k=orders n k
 |n,0=>by
  have:fO n 0=1:=by cases n<;>rfl
  rw[this,kG,kG]
 |0,k+1=>by
  show 0*_=orders 0 (k+1);rw[Nat.zero_mul];rfl
 |n+1,k+1=>by
  have h1:=ng n k;have h2:=ng n (k+1);rw[Hk n k,<-h2,<-h1];show(fO n k+fO n (k+1))*((k+1)*orders k k)=fO n (k+1)*((k+1)*orders k k)+(k+1)*(fO n k*orders k k);rw[Nat.add_mul,sN];congr 1;rw[Nat.mul_left_comm]
def qw n k:choose n k=fO n k:=by
 unfold choose;rw[<-ng n k];exact Nat.mul_div_cancel _ (nW k)
theorem gP:∀k {av r},r∈risingRows k av->r.length=k
 |0,av,r,h=>by
  have:r=[]:=by cases av<;>simpa[risingRows]using h
  rw[this];rfl
 |k+1,[],r,h=>by simp[risingRows]at h
 |k+1,x::l,r,h=>by
  obtain h|h:=mem_append.mp h
  .obtain⟨q,hq,rfl⟩:=mem_map.mp h;rw[aY,gP k hq]
  .exact gP (k+1) h
theorem iM:∀k {av r},r∈risingRows k av->∀y∈r,y∈av
 |0,av,r,h,y,hy=>by
  have:r=[]:=by cases av<;>simpa[risingRows]using h
  rw[this]at hy;simp at hy
 |k+1,[],r,h,y,hy=>by simp[risingRows]at h
 |k+1,x::l,r,h,y,hy=>by
  obtain h|h:=mem_append.mp h
  .obtain⟨q,hq,rfl⟩:=mem_map.mp h;obtain e|hy:=mem_cons.mp hy
   .rw[e];simp
   .exact bI _ (iM k hq y hy)
  .exact bI _ (iM (k+1) h y hy)
def NY{x y:Nat}{l:List Nat}(h:x≠y):rankAny (x::l) (y::r)=choose l.length r.length+rankAny l (y::r):=by
 have hi:((x::l).findIdx λz=>z==y)=(l.findIdx λz=>z==y)+1:=by
  rw[findIdx_cons];have:(x==y)=false:=‹h›
  rw[this];rfl
 have e:∀av:List Nat,rankAny av (y::r)=((List.range (av.findIdx λz=>z==y)).map λ(j:Nat)=>choose (av.length-1-j) r.length).foldl (λ(a b:Nat)=>a+b) 0+rankAny (av.drop ((av.findIdx λz=>z==y)+1)) r:=λ_=>rfl;rw[e,e,hi,range_succ_eq_map,aI,fH,bP];have f:∀(m:List Nat)(a b:Nat),m.foldl (λ(a b:Nat)=>a+b) (a+b)=a+m.foldl (λ(a b:Nat)=>a+b) b:=by
  intro m
  induction m with
  |nil=>intro a b;rfl|cons c m ih=>intro a b;rw[fH,fH,Nat.add_assoc,ih]
 have g:(List.range (l.findIdx λz=>z==y)).map ((λ(j:Nat)=>choose ((x::l).length-1-j) r.length)∘Nat.succ)=(List.range (l.findIdx λz=>z==y)).map λ(j:Nat)=>choose (l.length-1-j) r.length:=by
  refine fF λj _=>?_;show choose (l.length+1-1-(j+1)) r.length=_;congr 1;omega
 rw[g];have e0:(0:Nat)+choose ((x::l).length-1-0) r.length=choose l.length r.length+0:=by
  show 0+choose (l.length+1-1-0) r.length=_;rw[Nat.add_sub_cancel,Nat.sub_zero,hZ,sA]
 rw[e0,f,Nat.add_assoc];rfl
def NZ{x:Nat}{l:List Nat}:rankAny (x::l) (x::r)=rankAny l r:=by
 have hi:((x::l).findIdx λz=>z==x)=0:=by
  rw[findIdx_cons];simp
 have e:rankAny (x::l) (x::r)=((List.range ((x::l).findIdx λz=>z==x)).map λ(j:Nat)=>choose ((x::l).length-1-j) r.length).foldl (λ(a b:Nat)=>a+b) 0+rankAny ((x::l).drop (((x::l).findIdx λz=>z==x)+1)) r:=rfl;rw[e,hi];simp
theorem JP:∀f k {av} (nd:av.Nodup) {n},av.length<f->n<fO av.length k->(risingRows k av)[n]?=some (rowAny f k av n)/\rankAny av (rowAny f k av n)=n
 |0,_,_,_,_,h,_=>by omega
 |f+1,0,av,nd,n,hf,h=>by
  have hn:n=0:=by
   have:fO av.length 0=1:=by cases av<;>rfl
   omega
  subst hn;have e:rowAny (f+1) 0 av 0=[]:=by cases av<;>rfl
  exact⟨by cases av<;>rfl,rfl⟩
 |f+1,k+1,[],nd,n,hf,h=>by
  have:n<0:=h;omega
 |f+1,k+1,x::l,nd,n,hf,h=>by
  obtain⟨n1,n2⟩:=nodup_cons.mp nd;have hf':l.length<f:=‹hf›
  have h':n<fO l.length k+fO l.length (k+1):=h;have er:rowAny (f+1) (k+1) (x::l) n=if n<choose l.length k then x::rowAny f k l n else rowAny f (k+1) l (n-choose l.length k):=rfl
  have es:risingRows (k+1) (x::l)=((risingRows k l).map λr=>x::r)++risingRows (k+1) l:=rfl;have el:((risingRows k l).map λr=>x::r).length=fO l.length k:=by rw[az,nc]
  rw[er,es,qw];by_cases hn:n<fO l.length k
  .obtain⟨i1,i2⟩:=JP f k n2 hf' hn;rw[ag hn];refine⟨?_,?_⟩
   .rw[sk (by rw[el];exact hn),aZ,i1];rfl
   .rw[NZ];exact i2
  .have hn':n-fO l.length k<fO l.length (k+1):=by omega
   obtain⟨i1,i2⟩:=JP f (k+1) n2 hf' hn';rw[af hn];refine⟨?_,?_⟩
   .rw[sh (by rw[el];omega),el,i1]
   .have hm:=bg i1;have hlen:=gP _ hm;have Bf:=iM _ hm;generalize rowAny f (k+1) l (n-fO l.length k)=row at*;cases row with
    |nil=>simp at hlen
    |cons y r=>
     have hy:=Bf y ∅;have gU:x≠y:=λe=>n1 (e▸hy);rw[NY gU,i2,qw];have:r.length=k:=‹hlen›
     rw[this];omega
theorem nh:∀hs:List (List Nat),(rowsOf hs).length=product (hs.map List.length)
 |[]=>rfl
 |h::t=>by
  have hb:∀x∈h,((rowsOf t).map λr=>x::r).length=product (t.map List.length):=λx _=>by rw[az,nh t]
  show(h.flatMap λx=>(rowsOf t).map λr=>x::r).length=_;rw[z9 hb,aI];unfold product;rw[fH,xf];have f:∀(m:List Nat)(a b:Nat),m.foldl (λ(a b:Nat)=>a*b) (a*b)=a*m.foldl (λ(a b:Nat)=>a*b) b:=by
   intro m
   induction m with
   |nil=>intro a b;rfl|cons c m ih=>intro a b;rw[fH,fH,sI,ih]
  have:=f (t.map List.length) h.length 1;rw[xc]at this;exact this.symm
def t7 a l:product (a::l)=a*product l:=by
 unfold product;have f:∀(m:List Nat)(a b:Nat),m.foldl (λ(a b:Nat)=>a*b) (a*b)=a*m.foldl (λ(a b:Nat)=>a*b) b:=by
  intro m
  induction m with
  |nil=>intro a b;rfl|cons c m ih=>intro a b;rw[fH,fH,sI,ih]
 rw[fH,xf];have:=f l a 1;rw[xc]at this;exact this
theorem LV:∀{hs}(nd:∀h∈hs,h.Nodup){n},n<product (hs.map List.length)->(rowsOf hs)[n]?=some (rowLegs hs n)/\rankLegs hs (rowLegs hs n)=n
 |[],nd,n,h=>by
  have:n=0:=by
   have:n<1:=h;omega
  subst this;exact⟨rfl,rfl⟩
 |a::t,nd,n,h=>by
  have hb:∀x∈a,((rowsOf t).map λr=>x::r).length=product (t.map List.length):=λx _=>by rw[az,nh t]
  rw[aI,t7]at h;obtain⟨x,h1,h2⟩:=z8 hb h;have hz:0<product (t.map List.length):=by
   obtain e|e:=wF (product (t.map List.length))
   .rw[e]at h;simp at h
   .exact e
  obtain⟨i1,i2⟩:=LV (hs:=t) (λq hq=>nd q (by simp[hq])) (kj n hz);have er:rowLegs (a::t) n=x::rowLegs t (n%product (t.map List.length)):=by
   show a.getD (n/product (t.map List.length)) 0::_=_;rw[cT,h1];rfl
  rw[er];refine⟨?_,?_⟩
  .show(a.flatMap λx=>(rowsOf t).map λr=>x::r)[n]?=_;rw[h2,aZ,i1];rfl
  .show(a.findIdx λy=>y==x)*product (t.map List.length)+rankLegs t (rowLegs t (n%product (t.map List.length)))=n;rw[j0 (nd a ∅) h1,i2];exact Nat.div_add_mod' n _
abbrev Up(l:List Nat):Prop:=l.Pairwise (·<·)
def Up.nodup{l:List Nat}(h:Up l):l.Nodup:=h.imp λh=>bB h
theorem iz:∀l:List Nat,risesN l=true↔Up l
 |[]=>by simp[risesN]|[x]=>by simp[risesN]
 |x::y::l=>by
  show(decide (x<y)&&risesN (y::l))=true↔_;rw[bH,jf,iz (y::l)];rw[show Up (x::y::l)↔(∀z∈y::l,x<z)/\Up (y::l)from pairwise_cons];constructor
  .rintro⟨h,p⟩;refine⟨λz hz=>?_,p⟩;obtain e|hz:=mem_cons.mp hz
   .rw[e];exact h
   .exact sO h ((pairwise_cons.mp p).1 z hz)
  .rintro⟨h,p⟩;exact⟨h y ∅,p⟩
theorem gj:∀{r l},Up r->Up l->(∀x∈r,x∈l)->r.Sublist l
 |[],l,_,_,_=>nil_sublist l|x::r,[],_,_,h=>absurd (h x ∅) ∅
 |x::r,y::l,hr,hl,h=>by
  obtain⟨r1,r2⟩:=pairwise_cons.mp hr;obtain⟨l1,l2⟩:=pairwise_cons.mp hl;by_cases e:x=y
  .subst e;refine(gj r2 l2 λz hz=>?_).cons_cons x;obtain e|h':=mem_cons.mp (h z (by simp[hz]))
   .have:=r1 z hz;omega
   .exact h'
  .refine(gj hr l2 λz hz=>?_).cons y;have hx:x∈l:=by
    obtain e'|h':=mem_cons.mp (h x ∅)
    .exact absurd e' e
    .exact h'
   obtain e'|h':=mem_cons.mp (h z hz)
   .subst e';have hzx:=l1 x hx;obtain e'|Fs:=mem_cons.mp hz
    .omega
    .have:=r1 z Fs;omega
   .exact h'
theorem d6:∀k {av r},r∈risingRows k av↔r.length=k/\r.Sublist av
 |0,av,r=>by
  have e:risingRows 0 av=[[]]:=by cases av<;>rfl
  rw[e];constructor
  .intro h;have:r=[]:=by simpa using h
   subst this;exact⟨rfl,nil_sublist _⟩
  .rintro⟨h,_⟩;have:=length_eq_zero_iff.mp h;simp[this]
 |k+1,[],r=>by
  constructor
  .intro h;simp[risingRows]at h
  .rintro⟨h,hs⟩;have:=sublist_nil.mp hs;subst this;simp at h
 |k+1,x::l,r=>by
  have es:risingRows (k+1) (x::l)=((risingRows k l).map λr=>x::r)++risingRows (k+1) l:=rfl;rw[es,jo,d6 (k+1)];constructor
  .rintro(h|⟨h1,h2⟩)
   .obtain⟨q,hq,rfl⟩:=mem_map.mp h;obtain⟨h1,h2⟩:=(d6 k).mp hq;exact⟨by rw[aY,h1],h2.cons_cons x⟩
   .exact⟨h1,h2.cons x⟩
  .rintro⟨h1,h2⟩;cases h2 with
   |cons _ h=>exact .inr ⟨h1,h⟩|cons_cons _ h=>exact .inl (mem_map.mpr ⟨_,(d6 k).mpr ⟨‹h1›,h⟩,rfl⟩)
theorem iA:∀{hs}{r},r∈rowsOf hs↔r.length=hs.length/\(r.zip hs).all (λ(z:Nat×List Nat)=>z.2.contains z.1)=true
 |[],r=>by
  show r∈ [[]]↔_;constructor
  .intro h;have:r=[]:=by simpa using h
   subst this;exact⟨rfl,rfl⟩
  .rintro⟨h,_⟩;have:=length_eq_zero_iff.mp h;simp[this]
 |h::t,r=>by
  constructor
  .intro hm;obtain⟨x,hx,hr⟩:=mem_flatMap.mp hm;obtain⟨q,hq,rfl⟩:=mem_map.mp hr;obtain⟨h1,h2⟩:=iA.mp hq;refine⟨by rw[aY,aY,h1],?_⟩;rw[ke,eY,h2,w_];simpa using hx
  .rintro⟨h1,h2⟩;cases r with
   |nil=>simp at h1
   |cons x q=>
    rw[ke,eY,bH]at h2;exact mem_flatMap.mpr ⟨x,‹h2.1›,mem_map.mpr ⟨q,iA.mpr ⟨‹h1›,h2.2⟩,rfl⟩⟩
theorem dP:∀{ss}{had r},r∈apartRows ss had↔r.length=ss.length/\r.Nodup/\(∀x∈r,x∉had)/\(r.zip ss).all (λ(z:Nat×List Nat)=>z.2.contains z.1)=true
 |[],had,r=>by
  show r∈ [[]]↔_;constructor
  .intro h;have:r=[]:=by simpa using h
   subst this;exact⟨rfl,by simp,by simp,rfl⟩
  .rintro⟨h,_⟩;have:=length_eq_zero_iff.mp h;simp[this]
 |s::t,had,r=>by
  constructor
  .intro hm;obtain⟨x,hx,hr⟩:=mem_flatMap.mp hm;obtain⟨q,hq,rfl⟩:=mem_map.mp hr;obtain⟨h1,h2,h3,h4⟩:=dP.mp hq;obtain⟨x1,x2⟩:=mem_filter.mp hx;have x2:x∉had:=by simpa using x2
   refine⟨by rw[aY,aY,h1],nodup_cons.mpr ⟨λz=>h3 x z ∅,h2⟩,λy hy=>?_,?_⟩
   .obtain e|hy:=mem_cons.mp hy
    .rw[e];exact x2
    .exact λz=>h3 y hy (by simp[z])
   .rw[ke,eY,h4,w_];simpa using x1
  .rintro⟨h1,h2,h3,h4⟩;cases r with
   |nil=>simp at h1
   |cons x q=>
    rw[ke,eY,bH]at h4;obtain⟨n1,n2⟩:=nodup_cons.mp h2;refine mem_flatMap.mpr ⟨x,mem_filter.mpr ⟨‹h4.1›,‹h3 x ∅›⟩,mem_map.mpr ⟨q,dP.mpr ⟨‹h1›,n2,λy hy z=>?_,h4.2⟩,rfl⟩⟩;obtain e|z:=mem_cons.mp z
    .exact n1 (e▸hy)
    .exact h3 y (by simp[hy]) z
def Hl{f g:α->List β}:∀{l m:List α},l.Sublist m->(∀x∈l,(f x).Sublist (g x))->(l.flatMap f).Sublist (m.flatMap g):=by
 intro l m h
 induction h with
 |slnil=>intro _;exact List.Sublist.refl _
 |cons a _ ih=>
  intro hf;rw[kN];exact(ih hf).trans (sublist_append_right _ _)
 |cons_cons a _ ih=>
  intro hf;rw[kN,kN];exact(hf a ∅).append (ih λx hx=>hf x (by simp[hx]))
theorem z_:∀{ss hs},ss.length=hs.length->(∀z∈ss.zip hs,z.1.Sublist z.2)->(rowsOf ss).Sublist (rowsOf hs)
 |[],[],_,_=>List.Sublist.refl _|[],_::_,h,_=>by simp at h
 |_::_,[],h,_=>by simp at h
 |s::ss,h::hs,hl,hz=>by
  refine Hl (hz (s,h) ∅) λx _=>?_;exact(z_ ‹hl› λz Fs=>hz z (by simp[Fs])).map _
def JQ:∀k {u h},u.Sublist h->(risingRows k u).Sublist (risingRows k h):=by
 intro k
 induction k with
 |zero=>
  intro u h _;have e:∀l:List Nat,risingRows 0 l=[[]]:=λl=>by cases l<;>rfl
  rw[e,e];exact List.Sublist.refl _
 |succ k ihk=>
  intro u h hs
  induction hs with
  |slnil=>exact List.Sublist.refl _
  |@cons l m x hs ih=>
   have es:risingRows (k+1) (x::m)=((risingRows k m).map λr=>x::r)++risingRows (k+1) m:=rfl;exact ih.trans (sublist_append_right _ _)
  |@cons_cons l m x hs ih=>
   have es:∀m:List Nat,risingRows (k+1) (x::m)=((risingRows k m).map λr=>x::r)++risingRows (k+1) m:=λ_=>rfl;exact((ihk hs).map _).append ih
theorem uU:∀{ss}{h had},h.Nodup->(∀s∈ss,s.Sublist h)->(apartRows ss had).Sublist (cy ss.length (h.filter λx=>!had.contains x))
 |[],h,had,nd,_=>List.Sublist.refl _
 |s::t,h,had,nd,hs=>by
  have es:apartRows (s::t) had=(s.filter λx=>!had.contains x).flatMap λx=>(apartRows t (x::had)).map λr=>x::r:=rfl;rw[es];refine Hl ((hs s ∅).filter _) λx _=>?_;have e:(h.filter λx=>!had.contains x).erase x=h.filter λy=>!(x::had).contains y:=by
   rw[List.Nodup.erase_eq_filter (nd.filter _),xa];refine pR λy _=>?_;simp only[contains_cons,Bool.not_or];congr 1
  rw[e];exact(uU nd λq hq=>hs q (by simp[hq])).map _
def jB:∀{l m:List α},l.Sublist m->m.Nodup->(∀x,x∈l↔x∈m/\p x=true)->l=m.filter p:=by
 intro l m h
 induction h with
 |slnil=>intro _ _;rfl
 |@cons l m a hs ih=>
  intro nd hx;obtain⟨n1,n2⟩:=nodup_cons.mp nd;have ha:=λz=>n1 (hs.subset z);have hp:p a=false:=by
   cases q:p a with
   |false=>rfl|true=>exact absurd ((hx a).mpr ⟨by simp,q⟩) ha
  rw[wZ,af (by rw[hp];exact b_)];refine ih n2 λx=>⟨λz=>⟨hs.subset z,((hx x).mp z).2⟩,λ⟨z1,z2⟩=>(hx x).mpr ⟨by simp[z1],z2⟩⟩
 |@cons_cons l m a hs ih=>
  intro nd hx;obtain⟨n1,n2⟩:=nodup_cons.mp nd;have hp:=((hx a).mp ∅).2;rw[wZ,ag hp];congr 1;refine ih n2 λx=>⟨λz=>⟨hs.subset z,((hx x).mp (by simp[z])).2⟩,λ⟨z1,z2⟩=>?_⟩;obtain e|z:=mem_cons.mp ((hx x).mpr ⟨by simp[z1],z2⟩)
  .subst e;exact absurd z1 n1
  .exact z
def EB{l:List α}{f:α->β}(h:∀(n m:Nat) x,l[n]?=some x->l[m]?=some x->n=m):l.Nodup:=by
 rw[wy,pairwise_iff_getElem];intro i j hi hj hij e;have:=h i j l[i] (bt hi) (by rw[bt hj,e]);omega
def CG(C:Card):Prop:=∀r∈C.races,r.runners<=24
def o4:∀n:Nat,Up (List.range n):=λn=>pairwise_lt_range
def Rk(r:Race):Up r.heads:=by
 refine um _ ?_;rw[mC];exact(o4 _).imp λh=>by omega
def Rl(r:Race):∀x∈r.heads,x<=r.runners:=λx hx=>by
 unfold Race.heads at hx;obtain⟨h,_⟩:=mem_filter.mp hx;obtain⟨i,hi,rfl⟩:=mem_map.mp h;have:=mem_range.mp hi;omega
def N0(r:Race):r.heads.length<=r.runners:=by
 refine aX (om _ _) ?_;simp
def c5(g:CG C) i:Up (C.headsOf i)/\(∀x∈C.headsOf i,x<32)/\(C.headsOf i).length<=24:=by
 unfold Card.headsOf;cases e:C.races[i-1]? with
 |none=>exact⟨List.Pairwise.nil,by simp,by simp⟩
 |some r=>
  have hr:=g r (bg e);refine⟨Rk r,λx hx=>?_,?_⟩
  .have:=Rl r x hx;omega
  .have:=N0 r;show r.heads.length<=24;omega
def xV(g:CG C) p:∀s∈C.sets p,Up s/\(∀x∈s,x<32)/\s.length<=24:=λs hs=>by
 unfold Card.sets at hs;obtain⟨i,_,rfl⟩:=mem_map.mp hs;exact c5 g _
def o5{C:Card}(h:p.kind≠ .legs):(C.sets p).headD []=C.headsOf p.race:=by
 unfold Card.sets Pool.legs;rw[af h];rfl
def qz{C:Card}(h:p.kind=.legs):(C.sets p).length=p.k:=by
 unfold Card.sets Pool.legs;rw[ag h];simp
noncomputable def bD(C:Card)(p:Pool):List (List Nat):=match p.kind with
 |.place=>cy 1 ((C.sets p).headD [])|.order=>cy p.k ((C.sets p).headD [])
 |.any=>risingRows p.k ((C.sets p).headD [])|.legs=>rowsOf (C.sets p)
def t8(g:CG C) p:Up ((C.sets p).headD [])/\(∀x∈(C.sets p).headD [],x<32)/\((C.sets p).headD []).length<=24:=by
 cases e:C.sets p with
 |nil=>exact⟨List.Pairwise.nil,by simp,by simp⟩|cons h t=>exact xV g p h (by rw[e];simp)
def Aa n:orders n 1=n:=by
 cases n with
 |zero=>rfl
 |succ n=>
  show(n+1)*orders n 0=n+1;rw[kG,xc]
def LW(g:CG C) p:(bD C p).length=C.many p:=by
 have hu:=(t8 g p).1;unfold bD Card.many;cases p.kind with
 |place=>
  rw[xU 1 hu.nodup,Aa]
 |order=>exact xU p.k hu.nodup
 |any=>
  show(risingRows _ _).length=choose _ _;rw[nc,qw]
 |legs=>exact nh _
def qA(g:CG C) p row:row∈bD C p↔C.isCombo p row=true:=by
 have hu:=(t8 g p).1;unfold bD Card.isCombo;cases p.kind with
 |place=>
  rw[qv 1 hu.nodup,bH,kJ,dy];constructor
  .rintro⟨h1,_,h3⟩;exact⟨h1,λx hx=>‹h3 x hx›⟩
  .rintro⟨h1,h3⟩;refine⟨h1,?_,λx hx=>‹h3 x hx›⟩
   match row,h1 with
   |[x],_=>simp
 |order=>
  rw[qv p.k hu.nodup,bH,kJ,bH,jf,dy];constructor
  .rintro⟨h1,h2,h3⟩;exact⟨h1,h2,λx hx=>‹h3 x hx›⟩
  .rintro⟨h1,h2,h3⟩;exact⟨h1,h2,λx hx=>‹h3 x hx›⟩
 |any=>
  rw[d6,bH,kJ,bH,iz,dy];constructor
  .rintro⟨h1,h2⟩;exact⟨h1,hu.sublist h2,λx hx=>‹h2.subset hx›⟩
  .rintro⟨h1,h2,h3⟩;exact⟨h1,gj h2 hu λx hx=>‹h3 x hx›⟩
 |legs=>
  rw[iA,bH,kJ]
def vP{C:Card}(h:C.isCombo p row=true):C.numberOf p row=some (match p.kind with
 |.any=>rankAny ((C.sets p).headD []) row|.legs=>rankLegs (C.sets p) row
 |_=>rankOrder ((C.sets p).headD []) row):=by
 unfold Card.numberOf;rw[af (by rw[h];exact Bool.noConfusion)] <;>first|rfl|(cases p.kind<;>rfl)
def JR(g:CG C)(h:n<C.many p):(bD C p)[n]?=some (C.comboOf p n)/\C.numberOf p (C.comboOf p n)=some n:=by
 have hu:=t8 g p;have key:(bD C p)[n]?=some (C.comboOf p n)/\(match p.kind with
   |.any=>rankAny ((C.sets p).headD []) (C.comboOf p n)|.legs=>rankLegs (C.sets p) (C.comboOf p n)
   |_=>rankOrder ((C.sets p).headD []) (C.comboOf p n))=n:=by
  unfold Card.many at h;unfold bD Card.comboOf;cases e:p.kind with
  |place=>
   rw[e]at h;exact JO 1 hu.1.nodup (by rw[Aa];exact h)
  |order=>
   rw[e]at h;exact JO p.k hu.1.nodup h
  |any=>
   rw[e]at h;have h:n<choose ((C.sets p).headD []).length p.k:=h;rw[qw]at h;exact JP (RUNNERS+1) p.k hu.1.nodup (by show _<25;omega) h
  |legs=>
   rw[e]at h;exact LV (λs hs=>(xV g p s hs).1.nodup) h
 refine⟨key.1,?_⟩;rw[vP ((qA g p _).mp (bg key.1))];exact cb some key.2
def Rm(g:CG C)(h:(bD C p)[n]?=some row):n<C.many p/\row=C.comboOf p n/\C.numberOf p row=some n:=by
 have hn:n<C.many p:=by
  rw[<-LW g p];exact(List.getElem?_eq_some_iff.mp h).1
 obtain⟨h1,h2⟩:=JR g hn;have e:=Option.some.inj (h.symm.trans h1);exact⟨hn,e,by rw[e];exact h2⟩
def N1(g:CG C) p:(bD C p).Nodup:=by
 refine EB (f:=id) λn m x h1 h2=>?_;have a:=(Rm g h1).2.2;have b:=(Rm g h2).2.2;exact Option.some.inj (a.symm.trans b)
def o6 l:Up (together l):=um _ (o4 32)
def du{l:List (List Nat)}{x:Nat}:x∈together l↔x<32/\∃s∈l,x∈s:=by
 unfold together;simp
noncomputable def Ss(s heads:List Nat):Bool:=!s.isEmpty&&(risesN s&&s.all heads.contains)
def LX{s h:List Nat}(k:Ss s h=true)(hu:Up h):s.Sublist h/\s≠ []/\Up s:=by
 unfold Ss at k;simp only[Bool.and_eq_true,all_eq_true]at k;obtain⟨k1,k2,k3⟩:=k;have hs:=(iz s).mp k2;exact⟨gj hs hu λx hx=>‹k3 x hx›,by intro e;rw[e]at k1;simp at k1,hs⟩
def iB(g:CG C){b:Bet}(h:C.setsRight b=true):
  ((C.pool b.pool).kind=.legs/\b.how=.on/\b.sets.length=(C.sets (C.pool b.pool)).length/\∀z∈b.sets.zip (C.sets (C.pool b.pool)),z.1.Sublist z.2)\/
  ((C.pool b.pool).kind≠ .legs/\b.how=.on/\b.sets.length=(C.pool b.pool).places/\∀s∈b.sets,s.Sublist (C.headsOf (C.pool b.pool).race))\/
  (((C.pool b.pool).kind=.order\/(C.pool b.pool).kind=.any)/\b.how=.box/\∃s,b.sets=[s]/\s.Sublist (C.headsOf (C.pool b.pool).race))\/
  (((C.pool b.pool).kind=.order\/(C.pool b.pool).kind=.any)/\b.how=.key/\∃A B,b.sets=[A,B]/\A.Sublist (C.headsOf (C.pool b.pool).race)/\B.Sublist (C.headsOf (C.pool b.pool).race)):=by
 have hh:=(c5 g (C.pool b.pool).race).1;have ho:∀{s:List Nat},Ss s (C.headsOf (C.pool b.pool).race)=true->s.Sublist (C.headsOf (C.pool b.pool).race):=λk=>(LX k hh).1;unfold Card.setsRight at h;cases e:b.how with
 |on=>
  rw[e]at h;rw[bH,kJ]at h;by_cases hk:(C.pool b.pool).kind=.legs
  .rw[ag hk,dy]at h;refine .inl ⟨hk,rfl,?_,λz hz=>?_⟩
   .rw[h.1,qz hk];unfold Pool.places;rw[af (by rw[hk];decide)]
   .have hm:=(mE hz).2;exact(LX (h.2 z hz) (xV g _ _ hm).1).1
  .rw[af hk,dy]at h;exact .inr (.inl ⟨hk,rfl,h.1,λs hs=>ho (h.2 s hs)⟩)
 |box=>
  rw[e]at h;have h:(((C.pool b.pool).kind==.order||(C.pool b.pool).kind==.any)&&(b.sets.length==1&&b.sets.all λ(s:List Nat)=>Ss s (C.headsOf (C.pool b.pool).race)&&decide ((C.pool b.pool).k<=s.length)))=true:=h;simp only[Bool.and_eq_true,Bool.or_eq_true,beq_iff_eq,all_eq_true]at h;obtain⟨h1,h2,h3⟩:=h;obtain⟨s,hs⟩:=length_eq_one_iff.mp h2;exact .inr (.inr (.inl ⟨h1,rfl,s,hs,ho (h3 s (by rw[hs];simp)).1⟩))
 |key=>
  rw[e]at h;have h:(((C.pool b.pool).kind==.order||(C.pool b.pool).kind==.any)&&(b.sets.length==2&&(b.sets.all (λ(s:List Nat)=>Ss s (C.headsOf (C.pool b.pool).race))&&_)))=true:=h;simp only[Bool.and_eq_true,Bool.or_eq_true,beq_iff_eq,all_eq_true]at h;obtain⟨h1,h2,h3,_⟩:=h;obtain⟨A,B,hs⟩:=Gk h2;exact .inr (.inr (.inr ⟨h1,rfl,A,B,hs,ho (h3 A (by rw[hs];simp)),ho (h3 B (by rw[hs];simp))⟩))
def uV{C:Card}{b:Bet}(h:C.has b row=true):C.isCombo (C.pool b.pool) row=true:=by
 exact(bH _ _▸h).1
theorem CW:∀{ss}{row},fillsSets row ss=true->∀x∈row,∃s∈ss,x∈s
 |[],row,h,x,hx=>by
  have:row=[]:=by simpa[fillsSets]using h
  rw[this]at hx;simp at hx
 |s::t,row,h,x,hx=>by
  obtain⟨y,hy,hq⟩:=any_eq_true.mp h;rw[bH]at hq;by_cases e:x=y
  .subst e;exact⟨s,by simp,‹hq.1›⟩
  .obtain⟨q,Yz,Sn⟩:=CW hq.2 x ((wX e).mpr hx);exact⟨q,by simp[Yz],Sn⟩
theorem xW:∀{k}{row u:List Nat},row.length=k->((row.zip (List.replicate k u)).all (λ(z:Nat×List Nat)=>z.2.contains z.1)=true↔∀x∈row,x∈u)
 |0,row,u,h=>by
  have:=length_eq_zero_iff.mp h;subst this;simp
 |k+1,[],u,h=>by simp at h
 |k+1,x::row,u,h=>by
  rw[kc,ke,eY,bH,xW ‹h›,forall_mem_cons];simp
def xX(g:CG C){b:Bet}(h:C.setsRight b=true):C.rows b=(bD C (C.pool b.pool)).filter (C.has b):=by
 have hh:=c5 g (C.pool b.pool).race;have Zv:=N1 g (C.pool b.pool);have abj:∀{l:List (List Nat)},l.Sublist (bD C (C.pool b.pool))->(∀x,C.has b x=true->x∈l)->l.filter (C.has b)=(bD C (C.pool b.pool)).filter (C.has b):=λ{l} hs hm=>by
  refine jB ((filter_sublist).trans hs) Zv λx=>⟨λz=>?_,λz=>?_⟩
  .obtain⟨z1,z2⟩:=mem_filter.mp z;exact⟨hs.subset z1,z2⟩
  .exact mem_filter.mpr ⟨hm x z.2,z.2⟩
 have eD:(C.pool b.pool).kind≠ .legs->(C.sets (C.pool b.pool)).headD []=C.headsOf (C.pool b.pool).race:=o5;have tog:(∀s∈b.sets,s.Sublist (C.headsOf (C.pool b.pool).race))->(together b.sets).Sublist (C.headsOf (C.pool b.pool).race):=λhs=>by
  refine gj (o6 _) hh.1 λx hx=>?_;obtain⟨_,s,h1,h2⟩:=du.mp hx;exact(hs s h1).subset h2
 have anyC:(C.pool b.pool).kind=.any->(∀s∈b.sets,s.Sublist (C.headsOf (C.pool b.pool).race))->(∀row,C.has b row=true->∀x∈row,x∈together b.sets)->C.rows b=(bD C (C.pool b.pool)).filter (C.has b):=λhk hs hm=>by
  have er:C.rows b=(risingRows (C.pool b.pool).k (together b.sets)).filter (C.has b):=by unfold Card.rows;dsimp only;rw[hk]
  have ea:bD C (C.pool b.pool)=risingRows (C.pool b.pool).k (C.headsOf (C.pool b.pool).race):=by unfold bD;rw[hk];show risingRows _ _=_;rw[eD (by rw[hk];decide)]
  rw[er];refine abj (by rw[ea];exact JQ _ (tog hs)) λrow hr=>?_;have hc:=(qA g _ row).mpr (uV hr);rw[ea]at hc;obtain⟨c1,c2⟩:=(d6 _).mp hc;exact(d6 _).mpr ⟨c1,gj (hh.1.sublist c2) (o6 _) (hm row hr)⟩
 have abk:(C.pool b.pool).kind=.order->b.how≠ .on->(∀s∈b.sets,s.Sublist (C.headsOf (C.pool b.pool).race))->(∀row,C.has b row=true->∀x∈row,x∈together b.sets)->C.rows b=(bD C (C.pool b.pool)).filter (C.has b):=λhk hw hs hm=>by
  have er:C.rows b=(apartRows (List.replicate (C.pool b.pool).k (together b.sets)) []).filter (C.has b):=by
   unfold Card.rows;dsimp only;rw[hk];cases q:b.how with
   |on=>exact absurd q hw|box=>rfl
   |key=>rfl
  have ea:bD C (C.pool b.pool)=cy (C.pool b.pool).k (C.headsOf (C.pool b.pool).race):=by unfold bD;rw[hk];show cy _ _=_;rw[eD (by rw[hk];decide)]
  rw[er];refine abj ?_ λrow hr=>?_
  .have:=uU (ss:=List.replicate (C.pool b.pool).k (together b.sets)) (had:=[]) hh.1.nodup (λs HU=>by
    rw[(mem_replicate.mp HU).2];exact tog hs)
   rw[jI]at this;have e0:(C.headsOf (C.pool b.pool).race).filter (λx=>!([]:List Nat).contains x)=C.headsOf (C.pool b.pool).race:=filter_eq_self.mpr λx _=>rfl;rw[e0]at this;rw[ea];exact this
  .have hc:=(qA g _ row).mpr (uV hr);rw[ea]at hc;obtain⟨c1,c2,c3⟩:=(qv _ hh.1.nodup).mp hc;exact dP.mpr ⟨by rw[jI];exact c1,c2,by simp,(xW c1).mpr (hm row hr)⟩
 obtain⟨hk,hw,hl,hz⟩|⟨hk,hw,hl,hs⟩|⟨hk,hw,s,es,hs⟩|⟨hk,hw,A,B,es,hA,hB⟩:=iB g h
 .have er:C.rows b=rowsOf b.sets:=by unfold Card.rows;dsimp only;rw[hk]
  have ea:bD C (C.pool b.pool)=rowsOf (C.sets (C.pool b.pool)):=by unfold bD;rw[hk]
  have hs:(rowsOf b.sets).Sublist (bD C (C.pool b.pool)):=by rw[ea];exact z_ hl hz
  rw[er];refine jB hs Zv λrow=>?_;have eh:C.has b row=(C.isCombo (C.pool b.pool) row&&(row.zip b.sets).all λ(z:Nat×List Nat)=>z.2.contains z.1):=by
   unfold Card.has;rw[hw];show(_&&(if(C.pool b.pool).kind=.any then _ else _))=_;rw[af (by rw[hk];decide)]
  rw[eh,bH,<-qA g];constructor
  .intro hm;exact⟨hs.subset hm,hs.subset hm,(iA.mp hm).2⟩
  .rintro⟨h1,_,h2⟩;rw[ea]at h1;exact iA.mpr ⟨by rw[hl];exact(iA.mp h1).1,h2⟩
 .cases Gr:(C.pool b.pool).kind with
  |legs=>exact absurd Gr hk
  |any=>
   refine anyC Gr hs λrow hr x hx=>?_;have eh:C.has b row=(C.isCombo (C.pool b.pool) row&&fillsSets row b.sets):=by
    unfold Card.has;rw[hw];show(_&&(if(C.pool b.pool).kind=.any then _ else _))=_;rw[ag Gr]
   rw[eh,bH]at hr;obtain⟨s,h1,h2⟩:=CW hr.2 x hx;exact du.mpr ⟨hh.2.1 x ((hs s h1).subset h2),s,h1,h2⟩
  |order=>
   have hp:b.sets.length=(C.pool b.pool).k:=by
    rw[hl];unfold Pool.places;rw[af (by rw[Gr];decide)]
   have er:C.rows b=apartRows b.sets []:=by unfold Card.rows;dsimp only;rw[Gr,hw]
   have ea:bD C (C.pool b.pool)=cy (C.pool b.pool).k (C.headsOf (C.pool b.pool).race):=by unfold bD;rw[Gr];show cy _ _=_;rw[eD hk]
   have qJ:(apartRows b.sets []).Sublist (bD C (C.pool b.pool)):=by
    have:=uU (ss:=b.sets) (had:=[]) hh.1.nodup hs;have e0:(C.headsOf (C.pool b.pool).race).filter (λx=>!([]:List Nat).contains x)=C.headsOf (C.pool b.pool).race:=filter_eq_self.mpr λx _=>rfl;rw[e0,hp]at this;rw[ea];exact this
   rw[er];refine jB qJ Zv λrow=>?_;have eh:C.has b row=(C.isCombo (C.pool b.pool) row&&(row.zip b.sets).all λ(z:Nat×List Nat)=>z.2.contains z.1):=by
    unfold Card.has;rw[hw];show(_&&(if(C.pool b.pool).kind=.any then _ else _))=_;rw[af (by rw[Gr];decide)]
   rw[eh,bH,<-qA g];constructor
   .intro hm;exact⟨qJ.subset hm,qJ.subset hm,(dP.mp hm).2.2.2⟩
   .rintro⟨h1,_,h2⟩;rw[ea]at h1;obtain⟨c1,c2,c3⟩:=(qv _ hh.1.nodup).mp h1;exact dP.mpr ⟨by rw[hp];exact c1,c2,by simp,h2⟩
  |place=>
   have hp:b.sets.length=1:=by
    rw[hl];unfold Pool.places;rw[ag Gr]
   obtain⟨s,es⟩:=length_eq_one_iff.mp hp;have Sr:=hs s (by rw[es];simp);have er:C.rows b=s.map λx=>[x]:=by unfold Card.rows;dsimp only;rw[Gr,es];rfl
   have ea:bD C (C.pool b.pool)=cy 1 (C.headsOf (C.pool b.pool).race):=by unfold bD;rw[Gr];show cy _ _=_;rw[eD hk]
   have e1:∀l:List Nat,cy 1 l=l.map λx=>[x]:=λl=>by
    show(l.flatMap λx=>([[]]:List (List Nat)).map λr=>x::r)=_;rw[flatMap_def]
    induction l with
    |nil=>rfl|cons a l ih=>rw[aI,mz,ih];rfl
   have qJ:(s.map λx=>[x]).Sublist (bD C (C.pool b.pool)):=by rw[ea,e1];exact Sr.map _
   rw[er];refine jB qJ Zv λrow=>?_;have eh:C.has b row=(C.isCombo (C.pool b.pool) row&&(row.zip b.sets).all λ(z:Nat×List Nat)=>z.2.contains z.1):=by
    unfold Card.has;rw[hw];show(_&&(if(C.pool b.pool).kind=.any then _ else _))=_;rw[af (by rw[Gr];decide)]
   rw[eh,bH,<-qA g,es];constructor
   .intro hm;obtain⟨x,hx,rfl⟩:=mem_map.mp hm;exact⟨qJ.subset hm,qJ.subset hm,‹hx›⟩
   .rintro⟨h1,_,h2⟩;rw[ea,e1]at h1;obtain⟨x,hx,rfl⟩:=mem_map.mp h1;exact mem_map.mpr ⟨x,‹h2›,rfl⟩
 .have HU:∀q∈b.sets,q.Sublist (C.headsOf (C.pool b.pool).race):=λq hq=>by
   rw[es]at hq;have:q=s:=‹hq›
   rw[this];exact hs
  have hm:∀row,C.has b row=true->∀x∈row,x∈together b.sets:=λrow hr x hx=>by
   have eh:C.has b row=(C.isCombo (C.pool b.pool) row&&row.all λ(x:Nat)=>(b.sets.headD []).contains x):=by
    unfold Card.has;rw[hw]
   rw[eh,bH,dy,es]at hr;have:x∈s:=‹hr.2 x hx›
   rw[es];exact du.mpr ⟨hh.2.1 x (hs.subset this),s,by simp,this⟩
  obtain hk|hk:=hk
  .exact abk hk (by rw[hw];decide) HU hm
  .exact anyC hk HU hm
 .have HU:∀q∈b.sets,q.Sublist (C.headsOf (C.pool b.pool).race):=λq hq=>by
   rw[es]at hq;obtain e|hq:=mem_cons.mp hq
   .rw[e];exact hA
   .have:q=B:=by simpa using hq
    rw[this];exact hB
  have hm:∀row,C.has b row=true->∀x∈row,x∈together b.sets:=λrow hr x hx=>by
   have eh:C.has b row=(C.isCombo (C.pool b.pool) row&&((b.sets.headD []).all (λ(x:Nat)=>row.contains x)&&row.all λ(x:Nat)=>(b.sets.headD []).contains x||(b.sets.getD 1 []).contains x)):=by
    unfold Card.has;rw[hw]
   rw[eh,bH,bH,es]at hr;have:=all_eq_true.mp hr.2.2 x hx;have:x∈A\/x∈B:=‹this›
   rw[es];obtain q|q:=this
   .exact du.mpr ⟨hh.2.1 x (hA.subset q),A,by simp,q⟩
   .exact du.mpr ⟨hh.2.1 x (hB.subset q),B,by simp,q⟩
  obtain hk|hk:=hk
  .exact abk hk (by rw[hw];decide) HU hm
  .exact anyC hk HU hm
noncomputable def fE(C:Card)(b:Bet):List Nat:=(List.range (C.many (C.pool b.pool))).filter λn=>C.has b (C.comboOf (C.pool b.pool) n)
def all_map(g:CG C) p:bD C p=(List.range (C.many p)).map (C.comboOf p):=by
 refine pQ λn=>?_;rw[aZ];by_cases h:n<C.many p
 .rw[(JR g h).1,wY h];rfl
 .rw[oj (by rw[LW g p];omega),oj (by simp;omega)];rfl
def Ab(g:CG C){b:Bet}(h:C.setsRight b=true):C.rows b=(fE C b).map (C.comboOf (C.pool b.pool)):=by
 rw[xX g h,all_map g,pW];rfl
theorem uW(g:CG C):∀(l:List Nat),(∀n∈l,n<C.many p)->(l.map (C.comboOf p)).filterMap (C.numberOf p)=l
 |[],_=>rfl
 |a::l,h=>by
  rw[aI,jK,(JR g (h a ∅)).2];rw[uW g l λn hn=>h n (by simp[hn])]
def Ac{b:Bet}:∀n∈fE C b,n<C.many (C.pool b.pool):=λn hn=>mem_range.mp (mem_filter.mp hn).1
def JS{b:Bet}:Up (fE C b):=um _ (o4 _)
def EC(g:CG C){b:Bet}(h:C.setsRight b=true):C.moneyList b=(fE C b).map λn=>(n,b.stake):=by
 unfold Card.moneyList;rw[Ab g h,uW g _ Ac]
def CY(g:CG C){b:Bet}(h:C.setsRight b=true):C.manyOf b=(fE C b).length:=by
 have hr:(C.rows b).length=(fE C b).length:=by rw[Ab g h,az]
 unfold Card.manyOf;split
 .rename_i hk;rw[<-hr];have er:C.rows b=rowsOf b.sets:=by unfold Card.rows;dsimp only;rw[hk]
  rw[er,nh]
 .exact hr
def UX{s t:Option Card}(h:rF s ws t)(hs:∀C,s=some C->CG C):∀C,t=some C->CG C:=by
 intro D hD;cases s with
 |none=>
  obtain⟨n,_,_,e⟩:=h;rw[e]at hD;cases hD;intro r hr;simp[noCard]at hr
 |some C=>
  have gC:=hs C rfl;obtain⟨r,rest,_,_,_,hr,e⟩|⟨p,rest,x,_,_,_,_,_,e⟩:=h
  .rw[e]at hD;cases hD;intro q hq;obtain z|z:=mem_append.mp hq
   .exact gC q z
   .have:q=r:=by simpa using z
    subst this;obtain⟨w,cs,_,_,_,Zd,_⟩:=hr;exact Zd
  .rw[e]at hD;cases hD;exact gC
theorem LY:∀{ls}{s t},ip s ls t->(∀C,s=some C->CG C)->∀C,t=some C->CG C
 |[],s,t,h,hs,C,hC=>by
  rw[h]at hC;exact hs C hC
 |l::ls,s,t,h,hs,C,hC=>by
  obtain⟨u,h1,h2⟩:=h;exact LY h2 (UX h1 hs) C hC
def LZ{b:Bytes}(h:readCard b=.ok C):CG C:=by
 obtain⟨⟨ls,_,hf⟩,_⟩:=kz.mp h;exact LY hf (λ_ z=>by cases z) C rfl
def fP(heads:List Nat)(w:Bytes)(s:List Nat):Prop:=(splitOn 44 [] w).mapM numberOf=some s/\risesN s=true/\s.all heads.contains=true
def fQ{e:Nat}{l:List Word}{x:(List Nat×Nat)×List Word}:setIn e heads l=.ok x↔∃w,l=w::x.2/\fP heads w.w x.1.1/\x.1.2=w.at_:=by
 unfold setIn;rw[aF];constructor
 .rintro⟨y,h1,h2⟩;have h1:=jt.mp h1;split at h2
  .cases h2
  .rename_i s hs;split at h2
   .rename_i hc;cases h2;exact⟨y.1,h1,⟨hs,hc.1,hc.2⟩,rfl⟩
   .cases h2
 .rintro⟨w,h1,⟨h2,h3,h4⟩,h5⟩;refine⟨(w,x.2),jt.mpr h1,?_⟩;rw[h2];dsimp only;rw[ag ⟨h3,h4⟩];obtain⟨⟨a,b⟩,c⟩:=x;cases h5;rfl
noncomputable def j3:List (List Nat)->List Bytes->List (List Nat)->Prop
 |[],ws,q=>ws=[]/\q=[]|[h],ws,q=>∃w s,ws=[w]/\fP h w s/\q=[s]
 |h::i::t,ws,q=>∃w s rest r,ws=w::ascii "/"::rest/\fP h w s/\j3 (i::t) rest r/\q=s::r
def bW{l:List Word}{w:Bytes}{r:List Bytes}(h:l.map (·.w)=w::r):∃x m,l=x::m/\x.w=w/\m.map (·.w)=r:=by
 cases l with
 |nil=>cases h
 |cons x m=>
  injection h with h1 h2;exact⟨x,m,rfl,h1,h2⟩
theorem qB{e:Nat}:∀{hs}{l}{q},setsIn e hs l=.ok q↔j3 hs (l.map (·.w)) q
 |[],l,q=>by
  show((closed l).map λ(_:Unit)=>[])=.ok q↔_;rw[jQ];constructor
  .rintro⟨u,h1,h2⟩;have:=ig.mp h1;subst this;exact⟨rfl,h2.symm⟩
  .rintro⟨h1,h2⟩;have:l=[]:=by simpa using h1
   subst this;exact⟨Unit.unit,rfl,h2.symm⟩
 |[h],l,q=>by
  show(setIn e h l>>=λs=>closed s.2>>=λ_=>pure [s.1.1])=.ok q↔_;rw[aF];constructor
  .rintro⟨s,h1,h2⟩;obtain⟨w,e1,e2,e3⟩:=fQ.mp h1;obtain⟨u,h3,h4⟩:=aF.mp h2;have h3:=ig.mp h3;cases h4;exact⟨w.w,s.1.1,by rw[e1,h3];rfl,e2,rfl⟩
  .rintro⟨w,s,e1,e2,e3⟩;obtain⟨x,m,rfl,hw,hm⟩:=bW e1;have:m=[]:=by simpa using hm
   subst this;refine⟨((s,x.at_),[]),fQ.mpr ⟨x,rfl,by rw[hw];exact e2,rfl⟩,aF.mpr ⟨Unit.unit,rfl,?_⟩⟩;rw[e3];rfl
 |h::i::t,l,q=>by
  show(setIn e h l>>=λs=>must e "/" s.2>>=λm=>setsIn e (i::t) m>>=λr=>pure (s.1.1::r))=.ok q↔_;rw[aF];constructor
  .rintro⟨s,h1,h2⟩;obtain⟨w,e1,e2,e3⟩:=fQ.mp h1;obtain⟨m,h3,h4⟩:=aF.mp h2;obtain⟨v,h5,h6⟩:=iI.mp h3;obtain⟨r,h7,h8⟩:=aF.mp h4;cases h8;refine⟨w.w,s.1.1,m.map (·.w),r,by rw[e1,h5,aI,aI,h6],e2,qB.mp h7,rfl⟩
  .rintro⟨w,s,rest,r,e1,e2,e3,e4⟩;obtain⟨x,m,rfl,hw,hm⟩:=bW e1;obtain⟨y,m',rfl,hy,Ur⟩:=bW hm;refine⟨((s,x.at_),y::m'),fQ.mpr ⟨x,rfl,by rw[hw];exact e2,rfl⟩,aF.mpr ⟨m',iI.mpr ⟨y,rfl,hy⟩,aF.mpr ⟨r,qB.mpr (by rw[Ur];exact e3),?_⟩⟩⟩;rw[e4];rfl
noncomputable def dI(C:Card)(p:Pool):List (List Nat):=if p.kind=.legs then C.sets p else List.replicate p.places (C.headsOf p.race)
def t9(p:Pool):Prop:=p.kind=.order\/p.kind=.any
abbrev dQ(C:Card)(p:Pool)(hw:Bytes)(tail:List Bytes)(how:How)(sets:List (List Nat)):Prop:=
  (hw=ascii "on"/\how=.on/\j3 (dI C p) tail sets)\/
   (hw=ascii "box"/\t9 p/\how=.box/\∃w s,tail=[w]/\fP (C.headsOf p.race) w s/\p.k<=s.length/\sets=[s])\/
   (hw=ascii "key"/\t9 p/\how=.key/\∃wa wb A B,tail=[wa,ascii "with",wb]/\fP (C.headsOf p.race) wa A/\A.length<p.k/\fP (C.headsOf p.race) wb B/\
    (B.any λ(y:Nat)=>A.contains y)=false/\p.k<=A.length+B.length/\sets=[A,B])
structure qV(C:Card)(ws:List Bytes)(x:Bet):Prop where
 ex:∃n st hw tail,ws=ascii "bet"::n::ascii "for"::st::hw::tail/\(C.pools.findIdx? λ(p:Pool)=>p.name==n)=some x.pool/\numberOf st=some x.stake/\
  dQ C (C.pool x.pool) hw tail x.how x.sets
 s1:1<=x.stake
 s2:x.stake<=1000000
 s3:x.stake%(C.pool x.pool).unit=0
 m1:0<C.manyOf x
 m2:x.stake*C.manyOf x<=COST
def Hm{e:Nat}{l:List Word}{q:List (List Nat)}:boxIn e p heads l=.ok q↔∃w s,l.map (·.w)=[w]/\fP heads w s/\p.k<=s.length/\q=[s]:=by
 show(setIn e heads l>>=λs=>holds (decide (p.k<=s.1.1.length)) 4 s.1.2>>=λ_=>closed s.2>>=λ_=>pure [s.1.1])=.ok q↔_;rw[aF];constructor
 .rintro⟨s,h1,h2⟩;obtain⟨w,e1,e2,e3⟩:=fQ.mp h1;obtain⟨_,h3,h4⟩:=aF.mp h2;obtain⟨_,h5,h6⟩:=aF.mp h4;have h3:=dj.mp h3;have h5:=ig.mp h5;cases h6;exact⟨w.w,s.1.1,by rw[e1,h5];rfl,e2,‹h3›,rfl⟩
 .rintro⟨w,s,e1,e2,e3,e4⟩;obtain⟨x,m,rfl,hw,hm⟩:=bW e1;have:m=[]:=by simpa using hm
  subst this;refine⟨((s,x.at_),[]),fQ.mpr ⟨x,rfl,by rw[hw];exact e2,rfl⟩,aF.mpr ⟨Unit.unit,dj.mpr ‹e3›,aF.mpr ⟨Unit.unit,rfl,?_⟩⟩⟩;rw[e4];rfl
def Hn{e:Nat}{l:List Word}{q:List (List Nat)}:keyIn e p heads l=.ok q↔∃wa wb A B,l.map (·.w)=[wa,ascii "with",wb]/\fP heads wa A/\A.length<p.k/\fP heads wb B/\
    (B.any λ(y:Nat)=>A.contains y)=false/\p.k<=A.length+B.length/\q=[A,B]:=by
 show(setIn e heads l>>=λa=>holds (decide (a.1.1.length<p.k)) 4 a.1.2>>=λ_=>must e "with" a.2>>=λm=>setIn e heads m>>=λb=>holds (!(b.1.1.any λ(x:Nat)=>a.1.1.contains x)&&decide (p.k<=a.1.1.length+b.1.1.length)) 4 b.1.2>>=λ_=>closed b.2>>=λ_=>pure [a.1.1,b.1.1])=.ok q↔_;rw[aF];constructor
 .rintro⟨a,h1,h2⟩;obtain⟨w,e1,e2,e3⟩:=fQ.mp h1;obtain⟨_,h3,h4⟩:=aF.mp h2;obtain⟨m,h5,h6⟩:=aF.mp h4;obtain⟨b,h7,h8⟩:=aF.mp h6;obtain⟨_,h9,XG⟩:=aF.mp h8;obtain⟨_,PF,HS⟩:=aF.mp XG;have h3:=dj.mp h3;obtain⟨v,f1,f2⟩:=iI.mp h5;obtain⟨w',g1,g2,g3⟩:=fQ.mp h7;have h9:=dj.mp h9;have PF:=ig.mp PF;cases HS;rw[bH]at h9;exact⟨w.w,w'.w,a.1.1,b.1.1,by rw[e1,f1,g1,PF,aI,aI,f2];rfl,e2,‹h3›,g2,‹h9.1›,‹h9.2›,rfl⟩
 .rintro⟨wa,wb,A,B,e1,e2,e3,e4,e5,e6,e7⟩;obtain⟨x,m,rfl,hw,hm⟩:=bW e1;obtain⟨y,m',rfl,hy,Ur⟩:=bW hm;obtain⟨z,m'',rfl,hz,aed⟩:=bW Ur;have:m''=[]:=by simpa using aed
  subst this;refine⟨((A,x.at_),y::z::[]),fQ.mpr ⟨x,rfl,by rw[hw];exact e2,rfl⟩,aF.mpr ⟨Unit.unit,dj.mpr ‹e3›,aF.mpr ⟨[z],iI.mpr ⟨y,rfl,hy⟩,aF.mpr ⟨((B,z.at_),[]),fQ.mpr ⟨z,rfl,by rw[hz];exact e4,rfl⟩,
   aF.mpr ⟨Unit.unit,dj.mpr (by rw[bH];exact⟨by rw[e5];rfl,‹e6›⟩),aF.mpr ⟨Unit.unit,rfl,?_⟩⟩⟩⟩⟩⟩
  rw[e7];rfl
def jC p:(p.kind==.order||p.kind==.any)=true↔t9 p:=by
 unfold t9;rw[C7,kJ,kJ]
def L8{C:Card}{b x:Bet}{p q:Nat}:(holds (decide (0<C.manyOf b)) 6 p>>=λ_=>holds (decide (b.stake*C.manyOf b<=COST)) 7 q>>=λ_=>(pure b:Except Fault Bet))=.ok x↔x=b/\0<C.manyOf b/\b.stake*C.manyOf b<=COST:=by
 rw[aF];constructor
 .rintro⟨_,h1,h2⟩;obtain⟨_,h3,h4⟩:=aF.mp h2;cases h4;exact⟨rfl,‹dj.mp h1›,‹dj.mp h3›⟩
 .rintro⟨rfl,h1,h2⟩;exact⟨Unit.unit,dj.mpr ‹h1›,aF.mpr ⟨Unit.unit,dj.mpr ‹h2›,rfl⟩⟩
def Ho{e:Nat}{x:Bet}:C.betIn ⟨ws,e⟩=.ok x↔qV C (ws.map (·.w)) x:=by
 unfold Card.betIn;rw[aF];constructor
 .rintro⟨m,h1,h2⟩;obtain⟨w0,rfl,k0⟩:=iI.mp h1;obtain⟨n,h3,h4⟩:=aF.mp h2;have h3:=jt.mp h3;subst h3;split at h4
  .cases h4
  rename_i i hi;obtain⟨m2,h5,h6⟩:=aF.mp h4;obtain⟨w2,e2,k2⟩:=iI.mp h5;obtain⟨s,h7,h8⟩:=aF.mp h6;obtain⟨w3,e3,k3,k4,k5,k6⟩:=lQ.mp h7;obtain⟨_,h9,XG⟩:=aF.mp h8;have h9:=dj.mp h9;obtain⟨w,PF,HS⟩:=aF.mp XG;have PF:=jt.mp PF;have hws:(w0::n.1::n.2).map (·.w)=ascii "bet"::n.1.w::ascii "for"::w3.w::w.1.w::w.2.map (·.w):=by
   rw[e2,e3,PF,aI,aI,aI,aI,aI,k0,k2]
  rw[hws];dsimp only at HS;have hb:x.pool=i/\x.stake=s.1.1/\(0<C.manyOf x/\x.stake*C.manyOf x<=COST)/\((w.1.w=ascii "on"/\x.how=.on/\j3 (dI C (C.pool i)) (w.2.map (·.w)) x.sets)\/
    (w.1.w=ascii "box"/\t9 (C.pool i)/\x.how=.box/\∃v s,w.2.map (·.w)=[v]/\fP (C.headsOf (C.pool i).race) v s/\(C.pool i).k<=s.length/\x.sets=[s])\/
    (w.1.w=ascii "key"/\t9 (C.pool i)/\x.how=.key/\∃wa wb A B,w.2.map (·.w)=[wa,ascii "with",wb]/\fP (C.headsOf (C.pool i).race) wa A/\A.length<(C.pool i).k/\fP (C.headsOf (C.pool i).race) wb B/\
     (B.any λ(y:Nat)=>A.contains y)=false/\(C.pool i).k<=A.length+B.length/\x.sets=[A,B])):=by
   split at HS
   .rename_i hw;obtain⟨b,XH,PH⟩:=aF.mp HS;obtain⟨rfl,j1,j2⟩:=L8.mp PH;obtain⟨q,Yz,Sn⟩:=jQ.mp XH;subst Sn;exact⟨rfl,rfl,⟨j1,j2⟩,.inl ⟨hw,rfl,qB.mp Yz⟩⟩
   split at HS
   .rename_i hw;obtain⟨b,XH,PH⟩:=aF.mp HS;obtain⟨rfl,j1,j2⟩:=L8.mp PH;obtain⟨q,Yz,Sn⟩:=jQ.mp XH;subst Sn;exact⟨rfl,rfl,⟨j1,j2⟩,.inr (.inl ⟨hw.1,(jC _).mp hw.2,rfl,Hm.mp Yz⟩)⟩
   split at HS
   .rename_i hw;obtain⟨b,XH,PH⟩:=aF.mp HS;obtain⟨rfl,j1,j2⟩:=L8.mp PH;obtain⟨q,Yz,Sn⟩:=jQ.mp XH;subst Sn;exact⟨rfl,rfl,⟨j1,j2⟩,.inr (.inr ⟨hw.1,(jC _).mp hw.2,rfl,Hn.mp Yz⟩)⟩
   .cases HS
  obtain⟨b1,b2,bm,b3⟩:=hb;rw[<-b1]at hi b3 h9;rw[<-b2]at k3 k4 k5 h9;exact⟨⟨n.1.w,w3.w,w.1.w,w.2.map (·.w),rfl,hi,k3,b3⟩,k4,k5,‹h9›,bm.1,bm.2⟩
 .rintro⟨⟨n,st,hw,tail,e0,hi,k3,hb⟩,k4,k5,k6,k7,k8⟩;obtain⟨w0,m0,rfl,a0,e1⟩:=bW e0;obtain⟨w1,m1,rfl,a1,e2⟩:=bW e1;obtain⟨w2,m2,rfl,a2,e3⟩:=bW e2;obtain⟨w3,m3,rfl,a3,e4⟩:=bW e3;obtain⟨w4,m4,rfl,a4,e5⟩:=bW e4;refine⟨w1::w2::w3::w4::m4,iI.mpr ⟨w0,rfl,a0⟩,aF.mpr ⟨(w1,w2::w3::w4::m4),rfl,?_⟩⟩;rw[a1,hi];refine aF.mpr ⟨w3::w4::m4,iI.mpr ⟨w2,rfl,a2⟩,aF.mpr ⟨((x.stake,w3.at_),w4::m4),lQ.mpr ⟨w3,rfl,by rw[a3];exact k3,k4,k5,rfl⟩,aF.mpr ⟨Unit.unit,dj.mpr ‹k6›,aF.mpr ⟨(w4,m4),rfl,?_⟩⟩⟩⟩;have hj:=λ(p q:Nat)=>(L8 (b:=x) (x:=x) (p:=p) (q:=q)).mpr ⟨rfl,k7,k8⟩;obtain⟨xp,xh,xs,xk⟩:=x;obtain⟨b1,b2,b3⟩|⟨b1,b2,b3,b4⟩|⟨b1,b2,b3,b4⟩:=hb
  .subst b2;rw[ag (by rw[a4];exact b1)];exact aF.mpr ⟨_,jQ.mpr ⟨xs,qB.mpr (by rw[e5];exact b3),rfl⟩,hj _ _⟩
  .subst b3;rw[af (by rw[a4,b1];decide),ag ⟨by rw[a4];exact b1,(jC _).mpr b2⟩];exact aF.mpr ⟨_,jQ.mpr ⟨xs,Hm.mpr (by rw[e5];exact b4),rfl⟩,hj _ _⟩
  .subst b3;rw[af (by rw[a4,b1];decide),af (by rw[a4,b1];exact λz=>absurd z.1 ⋯),ag ⟨by rw[a4];exact b1,(jC _).mpr b2⟩];exact aF.mpr ⟨_,jQ.mpr ⟨xs,Hn.mpr (by rw[e5];exact b4),rfl⟩,hj _ _⟩
def ni c x (r acc:Bytes):splitOn c acc (x::r)=if x=c then acc::splitOn c [] r else splitOn c (acc++ [x]) r:=rfl
theorem Hq{c:UInt8}:∀{w acc},splitOn c acc w≠ []
 |[],acc=>by simp[Tote.splitOn]
 |x::r,acc=>by
  rw[ni];split
  .simp
  .exact Hq
theorem uX{c:UInt8}:∀{w acc}{y},y∈acc++w->y=c\/∃p∈splitOn c acc w,y∈p
 |[],acc,y,h=>.inr ⟨acc,by simp[Tote.splitOn],‹h›⟩
 |x::r,acc,y,h=>by
  rw[ni];by_cases e:x=c
  .rw[ag e];obtain h|h:=mem_append.mp h
   .exact .inr ⟨acc,by simp,h⟩
   .obtain h|h:=mem_cons.mp h
    .exact .inl (h.trans e)
    .obtain z|⟨p,h1,h2⟩:=uX (w:=r) (acc:=[]) (y:=y) ‹h›
     .exact .inl z
     .exact .inr ⟨p,by simp[h1],h2⟩
  .rw[af e];exact uX ‹h›
theorem Ad{f:α->Option β}:∀{l:List α}{ys},l.mapM f=some ys->ys.length=l.length/\∀x∈l,∃y∈ys,f x=some y
 |[],ys,h=>by
  cases h;exact⟨rfl,by simp⟩
 |a::l,ys,h=>by
  rw[mapM_cons]at h;cases e1:f a with
  |none=>rw[e1]at h;cases h
  |some y=>
   cases e2:l.mapM f with
   |none=>rw[e1,e2]at h;cases h
   |some zs=>
    rw[e1,e2]at h;cases h;obtain⟨h1,h2⟩:=Ad e2;refine⟨by rw[aY,aY,h1],λx hx=>?_⟩;obtain e|hx:=mem_cons.mp hx
    .subst e;exact⟨y,by simp,e1⟩
    .obtain⟨z,hz,e⟩:=h2 x hx;exact⟨z,by simp[hz],e⟩
theorem fP.ne{heads s:List Nat}{w:Bytes}(h:fP heads w s):s≠ []:=by
 intro e;have:=(Ad h.1).1;rw[e]at this;exact Hq (length_eq_zero_iff.mp this.symm)
def fP.plain{heads s:List Nat}{w:Bytes}(h:fP heads w s):Plain w:=by
 have hm:=(Ad h.1).2;refine⟨λe=>?_,λc hc=>?_⟩
 .subst e;obtain⟨y,_,hy⟩:=hm [] (by simp[Tote.splitOn]);simp[numberOf]at hy
 .obtain e|⟨p,h1,h2⟩:=uX (c:=44) (acc:=[]) ‹hc›
  .subst e;decide
  .obtain⟨y,_,hy⟩:=hm p h1;exact(dM hy).2 c h2
theorem j3.plain:∀{hs}{ws}{q},j3 hs ws q->∀w∈ws,Plain w
 |[],ws,q,h,w,hw=>by
  rw[h.1]at hw;simp at hw
 |[_],ws,q,h,w,hw=>by
  obtain⟨v,s,e,h1,_⟩:=h;rw[e]at hw;have:w=v:=‹hw›
  rw[this];exact h1.plain
 |_::i::t,ws,q,h,w,hw=>by
  obtain⟨v,s,rest,r,e,h1,h2,_⟩:=h;rw[e]at hw;obtain z|hw:=mem_cons.mp hw
  .rw[z];exact h1.plain
  .obtain z|hw:=mem_cons.mp hw
   .rw[z];exact⟨by decide,by decide⟩
   .exact j3.plain h2 w hw
def CN(C:Card):Prop:=∀p∈C.pools,isName p.name=true
def find_name{C:Card}(h:(C.pools.findIdx? λ(p:Pool)=>p.name==n)=some i):∃p,C.pools[i]?=some p/\p.name=n/\C.pool i=p:=by
 obtain⟨hi,h1,_⟩:=findIdx?_eq_some_iff_getElem.mp h;refine⟨C.pools[i],bt hi,‹h1›,?_⟩;unfold Card.pool;rw[bt hi];rfl
theorem qV.plain{x:Bet}(cn:CN C)(h:qV C ws x):∀w∈ws,Plain w:=by
 obtain⟨n,st,hw,tail,e,hi,hs,hb⟩:=h.ex;obtain⟨p,hp,hn,_⟩:=find_name hi;have pl:Plain n:=by
  rw[<-hn];exact rG (cn p (bg hp))
 have ht:Plain hw/\∀w∈tail,Plain w:=by
  obtain⟨e1,_,h1⟩|⟨e1,_,_,w,s,e2,h1,_⟩|⟨e1,_,_,wa,wb,A,B,e2,h1,_,h2,_⟩:=hb
  .exact⟨by rw[e1];exact bU ⋯,h1.plain⟩
  .refine⟨by rw[e1];exact bU ⋯,λv hv=>?_⟩;rw[e2]at hv;have:v=w:=by simpa using hv
   rw[this];exact h1.plain
  .refine⟨by rw[e1];exact bU ⋯,λv hv=>?_⟩;rw[e2]at hv;obtain z|hv:=mem_cons.mp hv
   .rw[z];exact h1.plain
   .obtain z|hv:=mem_cons.mp hv
    .rw[z];exact bU ⋯
    .have:v=wb:=by simpa using hv
     rw[this];exact h2.plain
 intro w JT;rw[e]at JT;obtain z|JT:=mem_cons.mp JT
 .rw[z];exact bU ⋯
 obtain z|JT:=mem_cons.mp JT
 .rw[z];exact pl
 obtain z|JT:=mem_cons.mp JT
 .rw[z];exact bU ⋯
 obtain z|JT:=mem_cons.mp JT
 .rw[z];exact dM hs
 obtain z|JT:=mem_cons.mp JT
 .rw[z];exact ht.1
 .exact ht.2 w JT
def UY{r:Bytes}(h:bV 10 [] r=[[]]):r=[]:=by
 cases r with
 |nil=>rfl
 |cons x r=>
  rw[qj]at h;split at h
  .injection h with h1 h2;obtain⟨w,ws,e,_⟩:=ik 10 r [];rw[e]at h2;cases h2
  .obtain⟨w,ws,e,_⟩:=ik 10 r ([] ++ [x]);rw[e]at h;injection h with h1 h2;simp at h1
def JU{C:Card}(cn:CN C){b:Bytes}{x:Bet}:C.readBet b=.ok x↔∃l,bV 10 [] b=[l,[]]/\qV C (bV 32 [] l) x:=by
 unfold Card.readBet;cases hu:upTo b with
 |none=>
  have e:=(uD b []).mp hu;constructor
  .intro h;cases h
  .rintro⟨l,h,_⟩;rw[e]at h;cases h
 |some lr=>
  obtain⟨l,r⟩:=lr;have e:=(uE b [] l r hu).1;rw[pL]at e;dsimp only;have y9:∀l',bV 10 [] b=[l',[]]↔l'=l/\r=[]:=λl'=>by
   rw[e];constructor
   .intro h;injection h with h1 h2;exact⟨h1.symm,UY h2⟩
   .rintro⟨rfl,rfl⟩;rfl
  cases hb:badByte true 0 l with
  |some i=>
   constructor
   .intro h;cases h
   .rintro⟨l',h1,h2⟩;obtain⟨rfl,_⟩:=(y9 l').mp h1;have:=jv (q:=0) l' [] (h2.plain cn);rw[show([]:Bytes).isEmpty=true from rfl,hb]at this;cases this
  |none=>
   dsimp only;have hw:(wordsFrom 0 [] l).map (·.w)=bV 32 [] l:=words_of l [] hb;constructor
   .intro h;cases hbi:C.betIn ⟨wordsFrom 0 [] l,l.length⟩with
    |error f=>rw[hbi]at h;cases h
    |ok y=>
     rw[hbi]at h;dsimp only at h;split at h
     .rename_i hr;cases h;have:=Ho.mp hbi;rw[hw]at this;exact⟨l,(y9 l).mpr ⟨rfl,‹hr›⟩,this⟩
     .cases h
   .rintro⟨l',h1,h2⟩;obtain⟨rfl,hr⟩:=(y9 l').mp h1;rw[<-hw]at h2;rw[Ho.mpr h2];dsimp only;rw[ag (by rw[hr];rfl)]
theorem fP.ok{h s:List Nat}{w:Bytes}(k:fP h w s):Ss s h=true:=by
 have hn:=k.ne;obtain⟨_,h2,h3⟩:=k;unfold Ss;rw[h2,h3];cases s with
 |nil=>exact absurd rfl hn|cons a l=>rfl
theorem j3.ok:∀{hs}{ws}{q},j3 hs ws q->q.length=hs.length/\∀z∈q.zip hs,Ss z.1 z.2=true
 |[],ws,q,h=>by
  rw[h.2];exact⟨rfl,by simp⟩
 |[h0],ws,q,h=>by
  obtain⟨w,s,_,h1,rfl⟩:=h;refine⟨rfl,λz hz=>?_⟩;have:z=(s,h0):=‹hz›
  rw[this];exact h1.ok
 |h0::i::t,ws,q,h=>by
  obtain⟨w,s,rest,r,_,h1,h2,rfl⟩:=h;obtain⟨a,b⟩:=j3.ok h2;refine⟨by rw[aY,a];rfl,λz hz=>?_⟩;rw[ke]at hz;obtain e|hz:=mem_cons.mp hz
  .rw[e];exact h1.ok
  .exact b z hz
def Hr{h:List Nat}{p:List Nat->List Nat->Bool}:∀{q:List (List Nat)},q.length=k->(∀z∈q.zip (List.replicate k h),p z.1 z.2=true)->∀s∈q,p s h=true:=by
 intro q hl hz s hs;obtain⟨i,hi,e⟩:=my hs;have Ub:i<(q.zip (List.replicate k h)).length:=by simp;omega
 have:=hz (q.zip (List.replicate k h))[i] (pV Ub);rw[getElem_zip,getElem_replicate,e]at this;exact this
def iC{tail:List Bytes}{x:Bet}(hb:dQ C (C.pool x.pool) hw tail x.how x.sets):C.setsRight x=true:=by
 unfold Card.setsRight;obtain⟨_,e1,h1⟩|⟨_,hm,e1,w,s,_,h1,h2,h3⟩|⟨_,hm,e1,wa,wb,A,B,_,h1,h2,h3,h4,h5,h6⟩:=hb
 .rw[e1];obtain⟨a,b⟩:=h1.ok;unfold dI at a b;rw[bH,kJ];by_cases hk:(C.pool x.pool).kind=.legs
  .rw[ag hk]at a b⊢;refine⟨?_,all_eq_true.mpr b⟩;rw[a,qz hk];unfold Pool.places;rw[af (by rw[hk];decide)]
  .rw[af hk]at a b⊢;rw[jI]at a;exact⟨a,all_eq_true.mpr (Hr a b)⟩
 .rw[e1];show(((C.pool x.pool).kind==.order||(C.pool x.pool).kind==.any)&&(x.sets.length==1&&x.sets.all λ(s:List Nat)=>Ss s (C.headsOf (C.pool x.pool).race)&&decide ((C.pool x.pool).k<=s.length)))=true;rw[(jC _).mpr hm,h3];simp[h1.ok,h2]
 .rw[e1];show(((C.pool x.pool).kind==.order||(C.pool x.pool).kind==.any)&&(x.sets.length==2&&(x.sets.all (λ(s:List Nat)=>Ss s (C.headsOf (C.pool x.pool).race))&&(decide ((x.sets.headD []).length<(C.pool x.pool).k)&&(!((x.sets.getD 1 []).any λ(y:Nat)=>(x.sets.headD []).contains y)&&decide ((C.pool x.pool).k<=(x.sets.headD []).length+(x.sets.getD 1 []).length))))))=true;rw[(jC _).mpr hm,h6];have h4':(!(([A,B]:List (List Nat)).getD 1 []).any λ(y:Nat)=>(([A,B]:List (List Nat)).headD []).contains y)=true:=by
   show(!(B.any λ(y:Nat)=>A.contains y))=true;rw[h4];rfl
  rw[h4'];simp[h1.ok,h3.ok,h2,h5]
structure ED(m:Money):Prop where
 up:Up (m.map λ(x:Nat×Nat)=>x.1)
 pos:∀e∈m,0<e.2
def EE n:Money.on [] n=0:=rfl
def cE a c (l:Money) n:Money.on ((a,c)::l) n=if a=n then c else Money.on l n:=by
 unfold Money.on;rw[Kn];by_cases h:a=n
 .have:((a,c).1==n)=true:=by simpa using h
  rw[this,ag h];rfl
 .have:((a,c).1==n)=false:=by simpa using h
  rw[this,af h]
def ED.tail{a:Nat×Nat}{l:Money}(h:ED (a::l)):ED l:=⟨(pairwise_cons.mp h.up).2,λe he=>h.pos e (by simp[he])⟩
def ED.lt{a:Nat}{l:Money}(h:ED ((a,c)::l)):∀e∈l,a<e.1:=λe he=>(pairwise_cons.mp h.up).1 e.1 (mem_map.mpr ⟨e,he,rfl⟩)
def ED.cons{a:Nat}{l:Money}(h:ED l)(hc:0<c)(hl:∀e∈l,a<e.1):ED ((a,c)::l):=by
 refine⟨pairwise_cons.mpr ⟨λx hx=>?_,h.up⟩,λe he=>?_⟩
 .obtain⟨e,he,rfl⟩:=mem_map.mp hx;exact hl e he
 .obtain z|z:=mem_cons.mp he
  .rw[z];exact hc
  .exact h.pos e z
theorem o7:∀{l}{n},(∀e∈l,e.1≠n)->Money.on l n=0
 |[],n,_=>rfl
 |(a,c)::l,n,h=>by
  rw[cE,af (h (a,c) ∅),o7 λe he=>h e (by simp[he])]
theorem Rn:∀{l},ED l->∀e∈l,Money.on l e.1=e.2
 |[],_,e,he=>by simp at he
 |(a,c)::l,h,e,he=>by
  rw[cE];obtain z|z:=mem_cons.mp he
  .rw[z,ag rfl]
  .have:=h.lt e z;rw[af (),Rn h.tail e z]
theorem CZ:∀{m o},ED m->ED o->(∀n,Money.on m n=Money.on o n)->m=o
 |[],[],_,_,_=>rfl
 |[],(b,d)::o,_,ho,h=>by
  have:=h b;rw[EE,cE,ag rfl]at this;have:=ho.pos (b,d) ∅;omega
 |(a,c)::m,[],hm,_,h=>by
  have:=h a;rw[EE,cE,ag rfl]at this;have:=hm.pos (a,c) ∅;omega
 |(a,c)::m,(b,d)::o,hm,ho,h=>by
  have pc:=hm.pos (a,c) ∅;have pd:=ho.pos (b,d) ∅;have HX:a=b:=by
   obtain z|z|z:=pG a b
   .have e:=h a;rw[cE,ag rfl,cE,af (),o7 λe he=>by have:=ho.lt e he;omega]at e;omega
   .exact z
   .have e:=h b;rw[cE,af (),cE,ag rfl,o7 λe he=>by have:=hm.lt e he;omega]at e;omega
  subst HX;have AK:c=d:=by
   have e:=h a;rw[cE,ag rfl,cE,ag rfl]at e;exact e
  subst AK;rw[CZ hm.tail ho.tail λn=>?_];by_cases e:a=n
  .rw[o7 λe he=>by have:=hm.lt e he;omega,o7 λe he=>by have:=ho.lt e he;omega]
  .have:=h n;rw[cE,af e,cE,af e]at this;exact this
def uY:∀{m o}{k},(∀e∈m,k<e.1)->(∀e∈o,k<e.1)->∀e∈Money.join m o,k<e.1:=by
 intro m o
 induction m,o using Money.join.induct with
 |case1 m=>intro k _ h2 e he;rw[Money.join]at he;exact h2 e he|case2 m gU=>intro k h1 _ e he;rw[Money.join]at he;exact h1 e he;exact gU
 |case3 x l y m dR ih=>
  intro k h1 h2 e he;rw[Money.join,ag dR]at he;obtain z|z:=mem_cons.mp he
  .rw[z];exact h1 x ∅
  .exact ih (λe he=>h1 e (by simp[he])) h2 e z
 |case4 x l y m Ft AQ ih=>
  intro k h1 h2 e he;rw[Money.join,af Ft,ag AQ]at he;obtain z|z:=mem_cons.mp he
  .rw[z];exact h2 y ∅
  .exact ih h1 (λe he=>h2 e (by simp[he])) e z
 |case5 x l y m Ft AQ ih=>
  intro k h1 h2 e he;rw[Money.join,af Ft,af AQ]at he;obtain z|z:=mem_cons.mp he
  .rw[z];exact h1 x ∅
  .exact ih (λe he=>h1 e (by simp[he])) (λe he=>h2 e (by simp[he])) e z
def UZ:∀{m o},ED m->ED o->ED (Money.join m o)/\∀n,Money.on (Money.join m o) n=Money.on m n+Money.on o n:=by
 intro m o
 induction m,o using Money.join.induct with
 |case1 m=>intro _ h2;rw[Money.join];exact⟨h2,λn=>by rw[EE,hZ]⟩|case2 m gU=>intro h1 _;rw[Money.join];exact⟨h1,λn=>by rw[EE,sA]⟩;exact gU
 |case3 x l y m dR ih=>
  intro h1 h2;obtain⟨a,c⟩:=x;obtain⟨b,d⟩:=y;have dR:a<b:=dR;obtain⟨i1,i2⟩:=ih h1.tail h2;rw[Money.join,ag dR];have hk:∀e∈(b,d)::m,a<e.1:=λe he=>by
   obtain z|z:=mem_cons.mp he
   .rw[z];exact dR
   .exact sO dR (h2.lt e z)
  refine⟨i1.cons (h1.pos (a,c) ∅) (uY h1.lt hk),λn=>?_⟩;rw[cE,cE,i2];by_cases e:a=n
  .rw[ag e,ag e,o7 (l:=(b,d)::m) λe' F6=>by have:=hk e' F6;omega];rfl
  .rw[af e,af e]
 |case4 x l y m Ft AQ ih=>
  intro h1 h2;obtain⟨a,c⟩:=x;obtain⟨b,d⟩:=y;have AQ:b<a:=AQ;obtain⟨i1,i2⟩:=ih h1 h2.tail;rw[Money.join,af Ft,ag AQ];have hk:∀e∈(a,c)::l,b<e.1:=λe he=>by
   obtain z|z:=mem_cons.mp he
   .rw[z];exact AQ
   .exact sO AQ (h1.lt e z)
  refine⟨i1.cons (h2.pos (b,d) ∅) (uY hk h2.lt),λn=>?_⟩;rw[cE (l:=Money.join _ _),i2,cE (a:=b) (l:=m)];by_cases e:b=n
  .rw[ag e,ag e,o7 (l:=(a,c)::l) λe' F6=>by have:=hk e' F6;omega,hZ]
  .rw[af e,af e]
 |case5 x l y m Ft AQ ih=>
  intro h1 h2;obtain⟨a,c⟩:=x;obtain⟨b,d⟩:=y;have HX:a=b:=by
   have Ft:¬a<b:=Ft;have AQ:¬b<a:=AQ;omega
  subst HX;obtain⟨i1,i2⟩:=ih h1.tail h2.tail;rw[Money.join,af Ft,af AQ];have pc:0<c:=h1.pos (a,c) ∅;refine⟨i1.cons (show 0<c+d by omega) (uY h1.lt h2.lt),λn=>?_⟩;rw[cE (l:=Money.join _ _),i2,cE,cE];by_cases e:a=n
  .rw[ag e,ag e,ag e]
  .rw[af e,af e,af e]
def N2:m.right many=true↔ED m/\(∀e∈m,e.1<many)/\m.length<=262144/\m.total<=CENTS:=by
 unfold Money.right;simp only[Bool.and_eq_true,all_eq_true,decide_eq_true_eq,iz];constructor
 .rintro⟨h1,h2,h3,h4⟩;exact⟨⟨h1,λe he=>(h2 e he).2⟩,λe he=>(h2 e he).1,h3,h4⟩
 .rintro⟨h1,h2,h3,h4⟩;exact⟨h1.up,λe he=>⟨h2 e he,h1.pos e he⟩,h3,h4⟩
def U0{l:List Nat}(hl:Up l){s:Nat}(hs:0<s):ED (l.map λn=>(n,s)):=by
 refine⟨?_,λe he=>?_⟩
 .rw[bP];have:((λ(x:Nat×Nat)=>x.1)∘λn=>(n,s))=id:=rfl;rw[this,map_id];exact hl
 .obtain⟨n,_,rfl⟩:=mem_map.mp he;exact hs
def YB(l:List Nat) s n:Money.on (l.map λn=>(n,s)) n=if n∈l then s else 0:=by
 induction l with
 |nil=>rfl
 |cons a l ih=>
  rw[aI,cE,ih];by_cases e:a=n
  .subst e;simp
  .have:¬n=a:=λz=>e z.symm;simp[e,this]
def U1{s t:Option Card}(h:rF s ws t)(hs:∀C,s=some C->CN C):∀C,t=some C->CN C:=by
 intro D hD;cases s with
 |none=>
  obtain⟨n,_,_,e⟩:=h;rw[e]at hD;cases hD;intro r hr;simp[noCard]at hr
 |some C=>
  have gC:=hs C rfl;obtain⟨r,rest,_,_,_,hr,e⟩|⟨p,rest,x,_,_,_,_,hp,e⟩:=h
  .rw[e]at hD;cases hD;exact gC
  .rw[e]at hD;cases hD;intro q hq;obtain z|z:=mem_append.mp hq
   .exact gC q z
   .have:q=p:=by simpa using z
    subst this;exact hp.Zc
theorem L9:∀{ls}{s t},ip s ls t->(∀C,s=some C->CN C)->∀C,t=some C->CN C
 |[],s,t,h,hs,C,hC=>by
  have h:=h;rw[h]at hC;exact hs C hC
 |l::ls,s,t,h,hs,C,hC=>by
  obtain⟨u,h1,h2⟩:=h;exact L9 h2 (U1 h1 hs) C hC
def U2{b:Bytes}(h:readCard b=.ok C):CN C:=by
 obtain⟨⟨ls,_,hf⟩,_⟩:=kz.mp h;exact L9 hf (λ_ z=>by cases z) C rfl
end Pd
end
section
namespace Pd
open Tote TotePoolCalls
theorem t_:∀{l m},l.length%2=0->PoolNeutral.pairs (l++m)=PoolNeutral.pairs l++PoolNeutral.pairs m
 |[],m,_=>rfl|[_],m,h=>by simp at h
 |a::b::r,m,h=>by
  show(a.toNat,b.toNat)::PoolNeutral.pairs (r++m)=(a.toNat,b.toNat)::(PoolNeutral.pairs r++PoolNeutral.pairs m);rw[t_ (by simp at h;omega)]
theorem nj g:∀ns:List Int,PoolNeutral.pairs (dS g ns)=(ns.filter λk=>decide (0<(bo g k).getD 0)).map λk=>(k.toNat,((bo g k).getD 0).toNat)
 |[]=>rfl
 |k::ns=>by
  show PoolNeutral.pairs ((if 0<(bo g k).getD 0 then [k,(bo g k).getD 0]else [])++dS g ns)=_;rw[t_ (by split<;>simp),nj g ns,wZ];by_cases h:0<(bo g k).getD 0
  .rw[ag h,ag ‹h›];rfl
  .rw[af h,af ‹h›];rfl
theorem nX:∀{l},l.length%2=0->(∀x∈l,0<=x)->(moneyNums (PoolNeutral.pairs l)).map (λ(n:Nat)=>(n:Int))=l
 |[],_,_=>rfl|[_],h,_=>by simp at h
 |a::b::r,h,hp=>by
  have h1:=hp a ∅;have h2:=hp b ∅;show((a.toNat:Nat):Int)::((b.toNat:Nat):Int)::(moneyNums (PoolNeutral.pairs r)).map (λ(n:Nat)=>(n:Int))=a::b::r;rw[nX (by simp at h;omega) λx hx=>hp x (by simp[hx]),sv h1,sv h2]
def U3{g:AU}(h:zA g out)(nd:(bq g).Nodup)(hk:∀x∈bq g,0<=x):ED (PoolNeutral.pairs out)/\(∀x∈out,0<=x)/\∀n:Nat,((Money.on (PoolNeutral.pairs out) n:Nat):Int)=max 0 ((bo g n).getD 0):=by
 obtain⟨ns,pm,up,rfl⟩:=h;have h0:∀x∈ns,0<=x:=λx hx=>hk x (pm.mem_iff.mp hx);have lt:ns.Pairwise (·<·):=by
  have nd2:ns.Nodup:=pm.nodup_iff.mpr nd;exact(up.and nd2).imp λ⟨h1,h2⟩=>by omega
 have hp:=tP g ns h0;have mok:ED (PoolNeutral.pairs (dS g ns)):=by
  rw[nj];refine⟨?_,λe he=>?_⟩
  .rw[bP];refine pairwise_map.mpr ?_;refine(lt.sublist filter_sublist).imp_of_mem λ{a b} ha hb HX=>?_;have:=h0 a (mem_filter.mp ha).1;show a.toNat<b.toNat;omega
  .obtain⟨k,qf,rfl⟩:=mem_map.mp he;have:=(mem_filter.mp qf).2;simp only[decide_eq_true_eq]at this;show 0<((bo g k).getD 0).toNat;omega
 refine⟨mok,hp,λn=>?_⟩;by_cases hc:0<(bo g n).getD 0
 .have hm:(n:Int)∈ns:=by
   refine pm.mem_iff.mpr ?_;by_cases z:(n:Int)∈bq g
   .exact z
   .rw[jU.mpr z]at hc;exact absurd hc ⋯
  have Bf:(n,((bo g n).getD 0).toNat)∈PoolNeutral.pairs (dS g ns):=by
   rw[nj];refine mem_map.mpr ⟨(n:Int),mem_filter.mpr ⟨hm,‹hc›⟩,?_⟩;rw[gm]
  have e:=Rn mok _ Bf;have e:Money.on (PoolNeutral.pairs (dS g ns)) n=((bo g n).getD 0).toNat:=e;rw[e];omega
 .have e:Money.on (PoolNeutral.pairs (dS g ns)) n=0:=by
   refine o7 λx hx z=>?_;rw[nj]at hx;obtain⟨k,qf,rfl⟩:=mem_map.mp hx;have h3:=mem_filter.mp qf;have h4:=h0 k h3.1;have z:k.toNat=n:=z;have ek:k=(n:Int):=by omega
   have h5:=h3.2;simp only[decide_eq_true_eq]at h5;rw[ek]at h5;exact hc h5
  rw[e];omega
def N3{l:List Int}{n:Nat}(h0:∀x∈l,0<=x)(h2:l.length%2=0)(h:dN l (n:Int)=true):ED (PoolNeutral.pairs l):=by
 rw[yX h0 h2]at h;exact(N2.mp h).1
theorem ua:∀{l},(∀x∈l,0<=x)->(∀p∈bh l,0<=p.1/\0<=p.2)
 |[],_,p,hp=>by simp[bh]at hp|[_],_,p,hp=>by simp[bh]at hp
 |a::b::r,h,p,hp=>by
  obtain e|e:=mem_cons.mp (show p∈(a,b)::bh r from hp)
  .rw[e];exact⟨h a ∅,h b ∅⟩
  .exact ua (λx hx=>h x (by simp[hx])) p e
def Hs{l:List Int}(h:∀x∈l,0<=x):∀x∈bq (bh l),0<=x:=λx hx=>by
 obtain⟨p,hp,rfl⟩:=mem_map.mp hx;exact(ua h p hp).1
def U4{l:List Int}(h:∀x∈l,0<=x) n:((Money.on (PoolNeutral.pairs l) n:Nat):Int)=(bo (bh l) n).getD 0:=by
 rw[PX l h,zr]
end Pd
end
section
namespace Pd
open Tote
noncomputable def dG(h:List Nat)(x:Nat):Int:=((h.findIdx λy=>y==x:Nat):Int)
noncomputable def iN(h:List Nat):List Int:=h.map λ(n:Nat)=>(n:Int)
def U5 h (x:Nat):tY (iN h) (x:Int)=dG h x:=by
 unfold tY iN dG;rw[findIdx_map];congr 2;funext y;rw[jJ];simp;omega
def YC{h:List Nat}{x:Nat}:(x:Int)∈iN h↔x∈h:=by
 constructor
 .intro z;obtain⟨y,hy,e⟩:=mem_map.mp z;have:y=x:=by omega
  exact this▸hy
 .intro z;exact mem_map.mpr ⟨x,z,rfl⟩
def EF{h:List Nat}(up:Up h){x:Nat}(e:h[i]?=some x):dG h x=(i:Int):=by
 unfold dG;rw[j0 up.nodup e]
def j4{h:List Nat}(up:Up h){x y:Nat}(hx:x∈h)(hy:y∈h):dG h x<dG h y↔x<y:=by
 obtain⟨i,hi,rfl⟩:=my hx;obtain⟨j,hj,rfl⟩:=my hy;rw[EF up (bt hi),EF up (bt hj)];have m:=pairwise_iff_getElem.mp up;constructor
 .intro z;exact m i j hi hj ()
 .obtain a|a|a:=pG i j
  .omega
  .subst a;omega
  .have:=m j i hj hi a;omega
def xY{h:List Nat}(up:Up h){x y:Nat}(hx:x∈h)(hy:y∈h)(e:dG h x=dG h y):x=y:=by
 have a:=j4 up hx hy;have b:=j4 up hy hx;omega
theorem rR c:∀w acc,splitOn c acc w=bV c acc w
 |[],acc=>rfl
 |x::r,acc=>by
  rw[ni,qj,rR c r [],rR c r (acc++ [x])]
def abl(c:UInt8):sg c.toNat=44↔c=44:=by
 unfold sg;constructor
 .intro h
  repeat' split at h
  all_goals first|omega|(apply UInt8.toNat_inj.mp;simpa using by assumption)
 .rintro rfl;decide
def abm(c:UInt8):sg c.toNat=47↔c=47:=by
 unfold sg;constructor
 .intro h
  repeat' split at h
  all_goals first|omega|(apply UInt8.toNat_inj.mp;simpa using by assumption)
 .rintro rfl;decide
def abn w:cut 44 [] (cw w)=(splitOn 44 [] w).map cw:=by
 rw[rR];exact yN (c:=44) abl w []
def cw_slash w:cw w=kY↔w=ascii "/":=by
 have e:ascii "/"=[47]:=by decide
 rw[e];unfold kY cw;constructor
 .intro h;cases w with
  |nil=>cases h
  |cons c r=>
   injection h with h1 h2;rw[(abm c).mp h1,map_eq_nil_iff.mp h2]
 .rintro rfl;decide
def Ae{f:α->Option β}{a:α}{l:List α}{ys:List β}:(a::l).mapM f=some ys↔∃y z,f a=some y/\l.mapM f=some z/\ys=y::z:=by
 rw[mapM_cons];cases f a with
 |none=>simp
 |some y=>
  cases e:l.mapM f with
  |none=>simp[e]
  |some z=>
   simp[e];exact⟨λh=>h.symm,λh=>h.symm⟩
theorem Ht{h:List Nat}:∀{l:List Bytes},(∀p∈l,dz (cw p)∈iN h)->∃s,l.mapM numberOf=some s/\(l.map λp=>dz (cw p))=iN s/\∀x∈s,x∈h
 |[],_=>⟨[],rfl,rfl,by simp⟩
 |p::l,hp=>by
  obtain⟨s,h1,h2,h3⟩:=Ht λq hq=>hp q (bI _ hq);have hm:=hp p (b8 ..);obtain⟨n,hn,e⟩:=mem_map.mp hm;have o:=rC (by rw[<-e];omega);refine⟨n::s,Ae.mpr ⟨n,s,by rw[o.1,<-e];rfl,h1,rfl⟩,?_,?_⟩
  .rw[aI,h2,<-e];rfl
  .intro x hx;obtain rfl|z:=mem_cons.mp hx
   .exact hn
   .exact h3 x z
theorem Hu{h:List Nat}(MU:∀x∈h,x<32):∀{l:List Bytes}{s},l.mapM numberOf=some s->(∀x∈s,x∈h)->(l.map λp=>dz (cw p))=iN s
 |[],s,e,_=>by
  cases e;rfl
 |p::l,s,e,hs=>by
  obtain⟨y,z,h1,h2,rfl⟩:=Ae.mp e;have:=MU y (hs y (b8 ..));rw[aI,Hu MU h2 λx hx=>hs x (bI _ hx),rB h1 ()];rfl
def JV{h:List Nat}(up:Up h):∀{s},(∀x∈s,x∈h)->((s.map (dG h)).Pairwise (·<·)↔Up s):=λ{s} hs=>by
 rw[mC];constructor
 .intro z;exact z.imp_of_mem λ{a b} ha hb e=>(j4 up (hs a ha) (hs b hb)).mp e
 .intro z;exact z.imp_of_mem λ{a b} ha hb e=>(j4 up (hs a ha) (hs b hb)).mpr e
def L_{h s:List Nat}:(iN s).map (tY (iN h))=s.map (dG h):=by
 unfold iN;rw[bP];apply fF;intro x _;exact U5 h x
def ub{h:List Nat}(up:Up h)(MU:∀x∈h,x<32){w:Bytes}{ps:List Int}:setM (cw w) (iN h)=some ps↔∃s,fP h w s/\ps=s.map (dG h):=by
 unfold setM fP;rw[abn,bP];show(if((splitOn 44 [] w).map λp=>dz (cw p)).all _=true then(if(((splitOn 44 [] w).map λp=>dz (cw p)).map (tY (iN h))).Pairwise (·<·)then some (((splitOn 44 [] w).map λp=>dz (cw p)).map (tY (iN h)))else none)else none)=some ps↔_;generalize splitOn 44 [] w=l;constructor
 .intro z;split at z
  .rename_i fB;split at z
   .rename_i Ys;cases z;obtain⟨s,h1,h2,h3⟩:=Ht (l:=l) λp hp=>by simpa using all_eq_true.mp fB _ (mem_map.mpr ⟨p,hp,rfl⟩)
    rw[h2,L_]at Ys⊢;exact⟨s,⟨h1,(iz s).mpr ((JV up h3).mp Ys),all_eq_true.mpr λx hx=>‹h3 x hx›⟩,rfl⟩
   .cases z
  .cases z
 .rintro⟨s,⟨h1,h2,h3⟩,rfl⟩;have h3:=λx hx=>by simpa using all_eq_true.mp h3 x hx
  rw[Hu MU h1 h3,L_,ag,ag ((JV up h3).mpr ((iz s).mp h2))];rw[dy];intro x hx;obtain⟨n,hn,rfl⟩:=mem_map.mp hx;simpa using YC.mpr (h3 n hn)
theorem Ro:∀{hs}{tail}{YD},hs≠ []->(∀h∈hs,Up h/\∀x∈h,x<32)->
  ((tail.length+1=2*hs.length/\(L2.oE (tail.map cw)).all (λt=>decide (t=kY))=true/\cM (λx=>setM x.1 x.2) ((L2.bA (tail.map cw)).zip (hs.map iN))=some YD)↔∃q,j3 hs tail q/\YD=List.zipWith (λh s=>s.map (dG h)) hs q)
 |[h],tail,YD,_,hu=>by
  have hh:=hu h (b8 ..);constructor
  .rintro⟨h1,_,h3⟩;obtain⟨w,rfl⟩:=length_eq_one_iff.mp (show tail.length=1 by simp at h1;omega);obtain⟨y,ys,e1,e2,rfl⟩:=bJ.mp (show cM (λx=>setM x.1 x.2) ((cw w,iN h)::[])=some YD from h3);cases e2;obtain⟨s,hs,rfl⟩:=(ub hh.1 hh.2).mp e1;exact⟨[s],⟨w,s,rfl,hs,rfl⟩,rfl⟩
  .rintro⟨q,⟨w,s,rfl,hs,rfl⟩,rfl⟩;refine⟨rfl,rfl,?_⟩;exact bJ.mpr ⟨s.map (dG h),[],(ub hh.1 hh.2).mpr ⟨s,hs,rfl⟩,rfl,rfl⟩
 |h::i::t,tail,YD,_,hu=>by
  have hh:=hu h (b8 ..);have ih:= @Ro (i::t);constructor
  .rintro⟨h1,h2,h3⟩
   match tail,h1 with
   |w::sl::rest,h1=>
    have h2:(L2.oE (cw w::cw sl::rest.map cw)).all (λt=>decide (t=kY))=true:=h2;rw[L2.xC,eY,bH,jf]at h2;obtain⟨y,ys,e1,e2,rfl⟩:=bJ.mp (show cM (λx=>setM x.1 x.2) ((cw w,iN h)::(L2.bA (rest.map cw)).zip ((i::t).map iN))=some YD from h3);obtain⟨s,hs,rfl⟩:=(ub hh.1 hh.2).mp e1;obtain⟨q,hq,rfl⟩:=(ih ∅ (λx hx=>hu x (bI _ hx))).mp ⟨by simp at h1⊢;omega,h2.2,e2⟩;exact⟨s::q,⟨w,s,rest,q,by rw[(cw_slash sl).mp h2.1],hs,hq,rfl⟩,rfl⟩
  .rintro⟨q,⟨w,s,rest,r,rfl,hs,hr,rfl⟩,rfl⟩;obtain⟨a1,a2,a3⟩:=(ih ∅ (λx hx=>hu x (bI _ hx))).mpr ⟨r,hr,rfl⟩;refine⟨by simp at a1⊢;omega,?_,?_⟩
   .show(L2.oE (cw w::cw (ascii "/")::rest.map cw)).all (λt=>decide (t=kY))=true;rw[L2.xC,eY,bH,jf];exact⟨(cw_slash _).mpr rfl,a2⟩
   .exact bJ.mpr ⟨_,_,(ub hh.1 hh.2).mpr ⟨s,hs,rfl⟩,a3,rfl⟩
def nk:(mp p).kind=cp↔p.kind=.legs:=fg
def Af:(mp p).kind=dA↔p.kind=.place:=f9
def JW:(mp p).kind=jr↔p.kind=.any:=by
 show cw (gZ p.kind)=jr↔_;cases p.kind<;>decide
def Rp:(mp p).kind=dB↔p.kind=.order:=by
 show cw (gZ p.kind)=dB↔_;cases p.kind<;>decide
def Ag{C:Card}(P:MY (C.races.map hI) (mp p)):cY (C.races.map hI) (mp p)=(C.sets p).map iN:=by
 have r1:1<=(p.race:Int):=P.r1;have r2:(p.race:Int)<=((C.races.map hI).length:Int):=P.r2;rw[az]at r2;have e:((mp p).race-1).toNat=p.race-1:=by show((p.race:Int)-1).toNat=_;omega
 have ek:(mp p).k.toNat=p.k:=by show((p.k:Int)).toNat=_;omega
 have hh:∀j,1<=j->j-1<C.races.length->(C.races.map hI)[j-1]?=some (iN (C.headsOf j)):=λj h1 h2=>by
  unfold Card.headsOf;rw[aZ,bt h2];rfl
 unfold cY mR Card.sets Pool.legs;rw[e,ek];by_cases hk:p.kind=.legs
 .have qf:=nk.mpr hk;have hl:(p.race:Int)+(p.k:Int)-1<=((C.races.map hI).length:Int):=P.legs qf;rw[az]at hl;rw[ag qf,ag hk];apply pQ;intro i;by_cases hi:i<p.k
  .rw[getElem?_take,ag hi,pJ,show p.race-1+i=p.race+i-1 by omega,hh _ () (),aZ,aZ,wY hi];rfl
  .rw[oj (by rw[cP];have:=Nat.min_le_left p.k (List.drop (p.race-1) (C.races.map hI)).length;omega),oj (by simp;omega)]
 .have qf:=λz=>hk (nk.mp z);rw[af qf,af hk,cT,hh _ () ()];rfl
def cw_on w:cw w=NF↔w=ascii "on":=cw_word ⋯ ⋯
def cw_box w:cw w=zR↔w=ascii "box":=cw_word ⋯ ⋯
def cw_key w:cw w=UD↔w=ascii "key":=cw_word ⋯ ⋯
def cw_with w:cw w=QR↔w=ascii "with":=cw_word ⋯ ⋯
def cw_bet w:cw w=UN↔w=ascii "bet":=cw_word ⋯ ⋯
def cw_for w:cw w=UO↔w=ascii "for":=cw_word ⋯ ⋯
noncomputable def nr(C:Card)(p:Pool)(sets:List (List Nat)):List (List Int):=if p.kind=.legs then List.zipWith (λh s=>s.map (dG h)) (C.sets p) sets else sets.map λs=>s.map (dG (C.headsOf p.race))
theorem Hv{h:List Nat}:∀{n}{q:List (List Nat)},q.length=n->List.zipWith (λh s=>s.map (dG h)) (List.replicate n h) q=q.map λs=>s.map (dG h)
 |0,[],_=>rfl
 |n+1,s::q,e=>by
  rw[kc,zipWith_cons_cons,Hv ‹e›];rfl
theorem Ah(x:α):∀n:Nat,(List.replicate n [x]).flatten=List.replicate n x
 |0=>rfl
 |n+1=>by
  rw[kc,mz,Ah x n];rfl
def Rq{C:Card}(g:CG C){p:Pool}(P:MY (C.races.map hI) (mp p)){hw:Bytes}{tail:List Bytes}{ss:List (List Int)}:
  jV ((hw::tail).map cw) (mp p) (cY (C.races.map hI) (mp p))=some ss↔∃how sets,dQ C p hw tail how sets/\ss=nr C p sets:=by
 have k1:1<=(p.k:Int):=P.k1;rw[Ag P];unfold jV;show(if cw hw=NF then QV (tail.map cw) (mp p) ((C.sets p).map iN)else if(mp p).kind=dB\/(mp p).kind=jr then(if cw hw=zR then Bg (tail.map cw) (mp p).k (((C.sets p).map iN).getD 0 [])else if cw hw=UD then Er (tail.map cw) (mp p).k (((C.sets p).map iN).getD 0 [])else none)else none)=some ss↔_;by_cases ho:hw=ascii "on"
 .rw[ag ((cw_on hw).mpr ho)];have hl:dI C p≠ []/\((dI C p).length:Int)=we (mp p)/\(if(mp p).kind=cp then(C.sets p).map iN else(List.replicate (we (mp p)).toNat ((C.sets p).map iN)).flatten)=(dI C p).map iN/\∀q,q.length=(dI C p).length->List.zipWith (λh s=>s.map (dG h)) (dI C p) q=nr C p q:=by
   unfold dI nr;by_cases hk:p.kind=.legs
   .have e1:=qz (C:=C) hk;have e2:we (mp p)=(p.k:Int):=by
     unfold we;rw[af (λz=>by rw[Af.mp z]at hk;cases hk)];rfl
    rw[ag hk,ag (nk.mpr hk),e2];refine⟨λz=>?_,by omega,rfl,λq _=>by rw[ag hk]⟩;rw[z]at e1;simp at e1;omega
   .have e2:we (mp p)=(p.places:Int):=by
     unfold we Pool.places;by_cases hp:p.kind=.place
     .rw[ag (Af.mpr hp),ag hp];rfl
     .rw[af (λz=>hp (Af.mp z)),af hp];rfl
    have e3:1<=p.places:=by
     unfold Pool.places;split
     .exact aL _
     .omega
    have e4:C.sets p=[C.headsOf p.race]:=by
     unfold Card.sets Pool.legs;rw[af hk];rfl
    rw[af hk,af (λz=>hk (nk.mp z)),e2,e4,jI];refine⟨λz=>?_,rfl,?_,λq hq=>by rw[af hk,Hv hq]⟩
    .have:=cb List.length z;rw[jI]at this;simp at this;omega
    .show(List.replicate (p.places:Int).toNat [iN (C.headsOf p.race)]).flatten=_;rw[Ah,gm,map_replicate]
  obtain⟨h1,h2,h3,h4⟩:=hl;have hon:=Ro (hs:=dI C p) (tail:=tail) (YD:=ss) h1 (λh hh=>by
   unfold dI at hh;split at hh
   .have:=xV g p h hh;exact⟨this.1,this.2.1⟩
   .rw[wA hh];have:=c5 g p.race;exact⟨this.1,this.2.1⟩)
  have hM:QV (tail.map cw) (mp p) ((C.sets p).map iN)=some ss↔(tail.length+1=2*(dI C p).length/\(L2.oE (tail.map cw)).all (λt=>decide (t=kY))=true/\cM (λx=>setM x.1 x.2) ((L2.bA (tail.map cw)).zip ((dI C p).map iN))=some ss):=by
   unfold QV;rw[h3,az,<-h2];constructor
   .intro z;split at z
    .split at z
     .exact⟨by omega,by assumption,z⟩
     .cases z
    .cases z
   .rintro⟨a,b,c⟩;rw[ag (),ag b];exact c
  rw[hM,hon];constructor
  .rintro⟨q,hq,rfl⟩;exact⟨.on,q,.inl ⟨ho,rfl,hq⟩,h4 q hq.ok.1⟩
  .rintro⟨how,q,hb,rfl⟩;obtain⟨_,_,hq⟩|⟨z,_⟩|⟨z,_⟩:=hb
   .exact⟨q,hq,(h4 q hq.ok.1).symm⟩
   .exact absurd (ho.symm.trans z) ⋯
   .exact absurd (ho.symm.trans z) ⋯
 rw[af (λz=>ho ((cw_on hw).mp z))];have abo:((mp p).kind=dB\/(mp p).kind=jr)↔t9 p:=by
  unfold t9;exact or_congr Rp JW
 by_cases hm:t9 p
 .have hk:p.kind≠ .legs:=by
   obtain z|z:=hm<;>rw[z] <;>decide
  have hR:((C.sets p).map iN).getD 0 []=iN (C.headsOf p.race):=by
   unfold Card.sets Pool.legs;rw[af hk];rfl
  have hh:=c5 g p.race;have iG:∀q,nr C p q=q.map λs=>s.map (dG (C.headsOf p.race)):=λq=>by
   unfold nr;rw[af hk]
  have Zw:= @ub (C.headsOf p.race) hh.1 hh.2.1;have hmk:(mp p).k=(p.k:Int):=rfl;rw[ag (abo.mpr hm),hR,hmk];by_cases hb:hw=ascii "box"
  .rw[ag ((cw_box hw).mpr hb)];unfold Bg;rw[az];constructor
   .intro z;split at z
    .rename_i hl;obtain⟨w,rfl⟩:=length_eq_one_iff.mp hl;have z:(match setM (cw w) (iN (C.headsOf p.race))with
      |none=>none|some s=>if(p.k:Int)<=(s.length:Int)then some [s]else none)=some ss:=z
     split at z
     .cases z
     .rename_i s es;obtain⟨s,hs,rfl⟩:=Zw.mp es;split at z
      .rename_i hkl;cases z;rw[az]at hkl;exact⟨.box,[s],.inr (.inl ⟨hb,hm,rfl,w,s,rfl,hs,by omega,rfl⟩),by rw[iG];rfl⟩
      .cases z
    .cases z
   .rintro⟨how,q,hq,rfl⟩;obtain⟨z,_⟩|⟨_,_,_,w,s,rfl,hs,hl,rfl⟩|⟨z,_⟩:=hq
    .exact absurd z ho
    .rw[ag (show [w].length=1 from rfl)];show(match setM (cw w) (iN (C.headsOf p.race))with
      |none=>none|some s=>if(p.k:Int)<=(s.length:Int)then some [s]else none)=_
     rw[Zw.mpr ⟨s,hs,rfl⟩];dsimp only;rw[ag (by rw[az];omega),iG];rfl
    .exact absurd (hb.symm.trans z) ⋯
  rw[af (λz=>hb ((cw_box hw).mp z))];by_cases hky:hw=ascii "key"
  .rw[ag ((cw_key hw).mpr hky)];have fB:∀A B:List Nat,(∀x∈A,x∈C.headsOf p.race)->(∀x∈B,x∈C.headsOf p.race)->(((A.map (dG (C.headsOf p.race))).all (λn=>!decide (n∈B.map (dG (C.headsOf p.race)))))=true↔(B.any λ(y:Nat)=>A.contains y)=false):=λA B hA hB=>by
    rw[dy,<-Bool.not_eq_true,pU];constructor
    .rintro z ⟨y,hy,hc⟩;have hc:y∈A:=by simpa using hc
     have:=z _ (mem_map.mpr ⟨y,hc,rfl⟩);simp only[Bool.not_eq_true',decide_eq_false_iff_not]at this;exact this (mem_map.mpr ⟨y,hy,rfl⟩)
    .intro z n hn;obtain⟨y,hy,rfl⟩:=mem_map.mp hn;simp only[Bool.not_eq_true',decide_eq_false_iff_not];intro hc;obtain⟨v,hv,e⟩:=mem_map.mp hc;have:=xY hh.1 (hB v hv) (hA y hy) e;exact z ⟨v,hv,by rw[this];simpa using hy⟩
   have lZ:∀{w:Bytes}{s:List Nat},fP (C.headsOf p.race) w s->∀x∈s,x∈C.headsOf p.race:=λh x hx=>‹all_eq_true.mp h.2.2 x hx›
   unfold Er;rw[az];constructor
   .intro z;split at z
    .rename_i hl;obtain⟨wa,wm,wb,rfl⟩:∃a b c,tail=[a,b,c]:=by
      obtain⟨a,r,rfl,h2⟩:=IQ hl.1;obtain⟨b,c,rfl⟩:=Gk h2;exact⟨a,b,c,rfl⟩
     have e0:wm=ascii "with":=(cw_with wm).mp hl.2;have z:(match setM (cw wa) (iN (C.headsOf p.race))with
      |none=>none
      |some A=>match setM (cw wb) (iN (C.headsOf p.race))with
       |none=>none|some B=>if(A.length:Int)<(p.k:Int)then(if A.all (λn=>!decide (n∈B))=true then(if(p.k:Int)<=(A.length:Int)+(B.length:Int)then some [A,B]else none)else none)else none)=some ss:=z
     split at z
     .cases z
     .rename_i A eA;obtain⟨A,hA,rfl⟩:=Zw.mp eA;split at z
      .cases z
      .rename_i B eB;obtain⟨B,hB,rfl⟩:=Zw.mp eB;split at z
       .rename_i c1;split at z
        .rename_i c2;split at z
         .rename_i c3;cases z;rw[az]at c1 c3;rw[az]at c3;exact⟨.key,[A,B],.inr (.inr ⟨hky,hm,rfl,wa,wb,A,B,by rw[e0],hA,by omega,hB,(fB A B (lZ hA) (lZ hB)).mp c2,by omega,rfl⟩),by rw[iG];rfl⟩
         .cases z
        .cases z
       .cases z
    .cases z
   .rintro⟨how,q,hq,rfl⟩;obtain⟨z,_⟩|⟨z,_⟩|⟨_,_,_,wa,wb,A,B,rfl,hA,c1,hB,c2,c3,rfl⟩:=hq
    .exact absurd z ho
    .exact absurd z hb
    .rw[ag ⟨rfl,(cw_with _).mpr rfl⟩];show(match setM (cw wa) (iN (C.headsOf p.race))with
      |none=>none
      |some A=>match setM (cw wb) (iN (C.headsOf p.race))with
       |none=>none|some B=>if(A.length:Int)<(p.k:Int)then(if A.all (λn=>!decide (n∈B))=true then(if(p.k:Int)<=(A.length:Int)+(B.length:Int)then some [A,B]else none)else none)else none)=_
     rw[Zw.mpr ⟨A,hA,rfl⟩];dsimp only;rw[Zw.mpr ⟨B,hB,rfl⟩];dsimp only;rw[ag (by rw[az];omega),ag ((fB A B (lZ hA) (lZ hB)).mpr c2),ag (by rw[az,az];omega),iG];rfl
  rw[af (λz=>hky ((cw_key hw).mp z))];constructor
  .intro z;cases z
  .rintro⟨how,q,hq,_⟩;obtain⟨z,_⟩|⟨z,_⟩|⟨z,_⟩:=hq
   .exact absurd z ho
   .exact absurd z hb
   .exact absurd z hky
 .rw[af (λz=>hm (abo.mp z))];constructor
  .intro z;cases z
  .rintro⟨how,q,hq,_⟩;obtain⟨z,_⟩|⟨_,z,_⟩|⟨_,z,_⟩:=hq
   .exact absurd z ho
   .exact absurd z hm
   .exact absurd z hm
def prod_cons a l:product (a::l)=a*product l:=t7 a l
theorem C1:∀hs sets ns,sets.length=hs.length->((List.zipWith (λh s=>s.map (dG h)) hs sets).zip (hs.map iN)).foldl gi ns=ns.flatMap λm=>(rowsOf sets).map λr=>m*((product (hs.map List.length):Nat):Int)+((rankLegs hs r:Nat):Int)
 |[],[],ns,_=>by
  show ns=ns.flatMap λm=>[m*((1:Nat):Int)+((0:Nat):Int)]
  induction ns with
  |nil=>rfl
  |cons a l ih=>
   rw[kN,<-ih];simp
 |h::t,s::q,ns,e=>by
  show((List.zipWith (λh s=>s.map (dG h)) t q).zip (t.map iN)).foldl gi (gi ns (s.map (dG h),iN h))=_;rw[C1 t q _ ‹e›];unfold gi;rw[flatMap_assoc];congr 1;funext m;show((s.map (dG h)).map λp=>m*((iN h).length:Int)+p).flatMap _=((s.flatMap λx=>(rowsOf q).map λr=>x::r)).map _;rw[map_flatMap,bP,flatMap_map];congr 1;funext x;rw[bP];apply fF;intro r _;show(m*((iN h).length:Int)+dG h x)*((product (t.map List.length):Nat):Int)+((rankLegs t r:Nat):Int)=m*((product ((h::t).map List.length):Nat):Int)+(((h.findIdx λ(y:Nat)=>y==x)*product (t.map List.length)+rankLegs t r:Nat):Int);have e1:(iN h).length=h.length:=by unfold iN;rw[az]
  rw[aI,prod_cons,e1];unfold dG
  push_cast
  rw[xg,w6,Int.add_assoc]
def N4(e:sets.length=hs.length):oU ((List.zipWith (λh s=>s.map (dG h)) hs sets).zip (hs.map iN))=iN ((rowsOf sets).map (rankLegs hs)):=by
 unfold oU;rw[C1 hs sets [0] e];simp only[flatMap_cons,flatMap_nil,append_nil];unfold iN;rw[bP];apply fF;intro r _;rw[Int.zero_mul,pP];rfl
def JX:∀{hs sets},sets.length=hs.length->jh (List.zipWith (λh s=>s.map (dG h)) hs sets)=((product (sets.map List.length):Nat):Int):=by
 have:∀(hs sets:List (List Nat))(a:Int),sets.length=hs.length->(List.zipWith (λh s=>s.map (dG h)) hs sets).foldl (λr (l:List Int)=>r*(l.length:Int)) a=a*((product (sets.map List.length):Nat):Int):=by
  intro hs
  induction hs with
  |nil=>
   intro sets a e;cases sets with
   |nil=>show a=a*((1:Nat):Int);simp
   |cons _ _=>cases e
  |cons h t ih=>
   intro sets a e;cases sets with
   |nil=>cases e
   |cons s q=>
    show(List.zipWith (λh s=>s.map (dG h)) t q).foldl (λr (l:List Int)=>r*(l.length:Int)) (a*((s.map (dG h)).length:Int))=_;rw[ih q _ ‹e›,aI,prod_cons,az]
    push_cast
    rw[w6]
 intro hs sets e;unfold jh;rw[this hs sets 1 e,Int.one_mul]
def U6{h:List Nat}(up:Up h):h.map (dG h)=(List.range h.length).map λ(i:Nat)=>(0:Int)+(i:Int):=by
 apply pQ;intro i;rw[aZ,aZ];by_cases hi:i<h.length
 .rw[bt hi,wY hi];show some (dG h h[i])=some _;rw[EF up (bt hi)];show some (i:Int)=some ((0:Int)+(i:Int));rw[pP]
 .rw[oj (),oj (by simp;omega)];rfl
def U7{h had:List Nat}{row:List Int}(up:Up h)(hr:∀x∈h,(dG h x∈row↔x∈had)):cZ h.length row=(h.filter λx=>!had.contains x).map (dG h):=by
 unfold cZ;rw[<-U6 up,pW];congr 1;apply pR;intro x hx;show(!decide (dG h x∈row))=!had.contains x;congr 1;rw[jJ,jf,hr x hx];simp
def EG:∀{l:List Nat},l.Nodup->l.zipIdx=l.map λx=>(x,l.findIdx λy=>y==x):=λ{l} nd=>by
 apply pQ;intro i;rw[getElem?_zipIdx,aZ];cases e:l[i]? with
 |none=>rfl
 |some x=>
  show some (x,0+i)=some (x,_);rw[j0 nd e,hZ]
def U8{h had s:List Nat}{row p:List Int}(up:Up h)(hr:∀x∈h,(dG h x∈row↔x∈had))(hs:s.Sublist h)(hp:∀x∈h,(dG h x∈p↔x∈s)):
  i_ h.length p (row,num)=(s.filter λx=>!had.contains x).map λx=>(row++ [dG h x],num*(((h.filter λx=>!had.contains x).length:Nat):Int)+((((h.filter λx=>!had.contains x).findIdx λy=>y==x):Nat):Int)):=by
 unfold i_;dsimp only;rw[U7 up hr];generalize YF:(h.filter λx=>!had.contains x)=av;have upa:Up av:=by rw[<-YF];exact um _ up
 have lZ:∀x∈av,x∈h:=λx hx=>by rw[<-YF]at hx;exact(mem_filter.mp hx).1
 have e1:(av.map (dG h)).zipIdx=(av.map λx=>(x,av.findIdx λy=>y==x)).map λy=>(dG h y.1,y.2):=by
  rw[<-EG upa.nodup,zipIdx_map];rfl
 have e2:(s.filter λx=>!had.contains x)=av.filter λx=>decide (x∈s):=by
  have:s=h.filter λx=>decide (x∈s):=jB hs up.nodup λx=>by
   rw[jf];exact⟨λz=>⟨hs.subset z,z⟩,λz=>z.2⟩
  rw[<-YF,xa]
  conv=>lhs;rw[this]
  rw[xa];apply pR;intro x _;exact Bool.and_comm _ _
 rw[e1,bP,filterMap_map,e2,az];have fc:∀{f g:Nat->Option (List Int×Int)}{l:List Nat},(∀x∈l,f x=g x)->l.filterMap f=l.filterMap g:=λ{f g l} e=>by
  induction l with
  |nil=>rfl
  |cons a l ih=>
   rw[jK,jK,e a ∅,ih λx hx=>e x (by simp[hx])]
 rw[<-filterMap_eq_map,filterMap_filter];refine fc λx hx=>?_;show(if dG h x∈p then some (row++ [dG h x],num*((av.length:Nat):Int)+(((av.findIdx λy=>y==x):Nat):Int))else none)=_;by_cases c:x∈s
 .rw[ag ((hp x (lZ x hx)).mpr c)];simp[c]
 .rw[af (λz=>c ((hp x (lZ x hx)).mp z))];simp[c]
theorem Ai{f g:α->List β}:∀{l:List α},(∀x∈l,f x=g x)->l.flatMap f=l.flatMap g
 |[],_=>rfl|a::l,e=>by rw[kN,kN,e a ∅,Ai λx hx=>e x (by simp[hx])]
theorem uZ n:∀(ps:List (List Int)) rows,ps.foldl (jj n) rows=rows.flatMap λx=>ps.foldl (jj n) [x]
 |[],rows=>by
  show rows=rows.flatMap λx=>[x];rw[flatMap_singleton']
 |p::ps,rows=>by
  show ps.foldl (jj n) (jj n rows p)=_;rw[uZ n ps];show(rows.flatMap (i_ n p)).flatMap _=_;rw[flatMap_assoc];congr 1;funext x;show(i_ n p x).flatMap _=ps.foldl (jj n) ([x].flatMap (i_ n p));rw[flatMap_singleton,uZ n ps]
def nu(h:List Nat)(p:List Int)(s:List Nat):Prop:=s.Sublist h/\∀x∈h,(dG h x∈p↔x∈s)
theorem Aj{h:List Nat}(up:Up h):∀{ps}{ss},PySem.Paired (nu h) ps ss->∀row had num,(∀x∈h,(dG h x∈row↔x∈had))->
  ps.foldl (jj h.length) [(row,num)]=(apartRows ss had).map λr=>(row++r.map (dG h),num*((orders (h.filter λx=>!had.contains x).length ss.length:Nat):Int)+((rankOrder (h.filter λx=>!had.contains x) r:Nat):Int))
 |_,_,.nil,row,had,num,_=>by
  show [(row,num)]=[(row++ [],num*((orders (h.filter λx=>!had.contains x).length 0:Nat):Int)+((0:Nat):Int))];rw[kG];simp
 |_,_,.cons (a:=p) (b:=s) (l₁:=ps) (l₂:=ss) HY t,row,had,num,hr=>by
  show ps.foldl (jj h.length) (jj h.length [(row,num)] p)=_;rw[uZ,show jj h.length [(row,num)] p=i_ h.length p (row,num)from flatMap_singleton ..,U8 up hr HY.1 HY.2,flatMap_map];show _=((s.filter λ(x:Nat)=>!had.contains x).flatMap λ(x:Nat)=>(apartRows ss (x::had)).map λ(r:List Nat)=>x::r).map _;rw[map_flatMap];generalize YF:(h.filter λx=>!had.contains x)=av at*;have upa:Up av:=by rw[<-YF];exact um _ up
  refine Ai λx hx=>?_;have hxs:=mem_filter.mp hx;have hxh:=HY.1.subset hxs.1;have hxa:x∈av:=by rw[<-YF];exact mem_filter.mpr ⟨hxh,hxs.2⟩
  have aee:(h.filter λy=>!(x::had).contains y)=av.erase x:=by
   rw[upa.nodup.erase_eq_filter,<-YF,xa];apply pR;intro y _;rw[contains_cons];cases had.contains y<;>simp[bne]
  rw[Aj up t (row++ [dG h x]) (x::had) _ (λy hy=>by
   rw[jo,sJ,hr y hy,sf];constructor
   .rintro(z|z)
    .exact .inr z
    .exact .inl (xY up hy hxh z)
   .rintro(z|z)
    .exact .inr (by rw[z])
    .exact .inl z),aee,bP]
  apply fF;intro r hrr;have hlr:=(dP.mp hrr).1;have Qr:=qZ hxa;have hl0:=wL hxa;obtain⟨m,hm⟩:∃m,av.length=m+1:=⟨av.length-1,by omega⟩;show(row++ [dG h x] ++r.map (dG h),_)=(row++(dG h x::r.map (dG h)),num*((orders av.length (ss.length+1):Nat):Int)+(((av.findIdx λ(y:Nat)=>y==x)*orders (av.length-1) r.length+rankOrder (av.erase x) r:Nat):Int));rw[Qr,hlr,hm,g9];show(_,_)=(_,num*(((m+1)*orders m ss.length:Nat):Int)+_);congr 1
  push_cast
  rw[xg,w6,Int.add_assoc]
def o8{h:List Nat}(up:Up h){ps:List (List Int)}(t:PySem.Paired (nu h) ps ss):eM h.length ps=(apartRows ss []).map λr=>(r.map (dG h),((rankOrder h r:Nat):Int)):=by
 unfold eM;rw[Aj up t [] [] 0 (λx _=>by simp)];apply fF;intro r _;rw[pL,Int.zero_mul,pP];have:(h.filter λx=>!([]:List Nat).contains x)=h:=filter_eq_self.mpr λx _=>rfl;rw[this]
noncomputable def YG(k:Nat)(how:How)(sets:List (List Nat)):List (List Nat):=match how with
 |.on=>apartRows sets []|.box=>apartRows (List.replicate k (sets.headD [])) []
 |.key=>(apartRows (List.replicate k (together sets)) []).filter λr=>(sets.headD []).all λx=>r.contains x
def uc{h s:List Nat}(up:Up h)(hs:s.Sublist h):nu h (s.map (dG h)) s:=⟨hs,λx hx=>by
 constructor
 .intro z;obtain⟨y,hy,e⟩:=mem_map.mp z;exact xY up (hs.subset hy) hx e▸hy
 .intro z;exact mem_map.mpr ⟨x,z,rfl⟩⟩
theorem C2{h:List Nat}(up:Up h):∀{sets},(∀s∈sets,s.Sublist h)->PySem.Paired (nu h) (sets.map λs=>s.map (dG h)) sets
 |[],_=>.nil|s::q,hs=>.cons (uc up (hs s ∅)) (C2 up λt ht=>hs t (by simp[ht]))
theorem Ak{h:List Nat}{s:List Nat}(e:nu h p s):∀k:Nat,PySem.Paired (nu h) (List.replicate k p) (List.replicate k s)
 |0=>.nil|k+1=>.cons e (Ak e k)
def k_{h A B:List Nat}(up:Up h)(MU:∀x∈h,x<32)(hA:A.Sublist h)(hB:B.Sublist h):nu h (A.map (dG h)++B.map (dG h)) (together [A,B]):=by
 have mem:∀x,x∈together [A,B]↔x<32/\(x∈A\/x∈B):=λx=>by
  rw[du];constructor
  .rintro⟨a,s,hs,hx⟩;obtain rfl|hs:=mem_cons.mp hs
   .exact⟨a,.inl hx⟩
   .rw[mem_singleton.mp hs]at hx;exact⟨a,.inr hx⟩
  .rintro⟨a,hx|hx⟩
   .exact⟨a,A,by simp,hx⟩
   .exact⟨a,B,by simp,hx⟩
 refine⟨gj (o6 _) up λx hx=>?_,λx hx=>?_⟩
 .obtain z|z:=((mem x).mp hx).2
  .exact hA.subset z
  .exact hB.subset z
 .rw[jo,(uc up hA).2 x hx,(uc up hB).2 x hx,mem x];exact⟨λz=>⟨MU x hx,z⟩,λz=>z.2⟩
def EH{s:List Nat}(up:Up s)(MU:∀x∈s,x<32):together [s]=s:=by
 refine(jB (gj up (o4 32) λx hx=>mem_range.mpr (MU x hx)) (o4 32).nodup λx=>?_).symm;simp;exact λz=>MU x z
def JY{h A:List Nat}(up:Up h)(hA:A.Sublist h)(hr:∀x∈r,x∈h):hasAll (r.map (dG h)) (A.map (dG h))=A.all λx=>r.contains x:=by
 unfold hasAll;rw[List.all_map,jJ,dy,dy];refine forall_congr' λx=>imp_congr_right λhx=>?_;show decide (dG h x∈r.map (dG h))=true↔r.contains x=true;rw[jf];constructor
 .intro z;obtain⟨y,hy,e⟩:=mem_map.mp z;have:=xY up (hr y hy) (hA.subset hx) e;simpa[this]using hy
 .intro z;exact mem_map.mpr ⟨x,‹z›,rfl⟩
def Hw{h:List Nat}(hs:∀s∈ss,s.Sublist h)(hr:r∈apartRows ss []):∀x∈r,x∈h:=λx hx=>by
 have:=dP.mp hr;obtain⟨i,hi,rfl⟩:=my hx;have hi3:i<ss.length:=by rw[<-this.1];exact hi
 have Ub:i<(r.zip ss).length:=by rw[mF];omega
 have h3:=all_eq_true.mp this.2.2.2 _ (pV Ub);rw[getElem_zip]at h3;exact(hs _ (pV hi3)).subset ‹h3›
def Hx(g:CG C){x:Bet}{tail:List Bytes}(hb:dQ C (C.pool x.pool) hw tail x.how x.sets)(hk:(C.pool x.pool).kind≠ .legs):
  jX (cw hw) (nr C (C.pool x.pool) x.sets) (C.pool x.pool).k (C.headsOf (C.pool x.pool).race).length=(YG (C.pool x.pool).k x.how x.sets).map λr=>(r.map (dG (C.headsOf (C.pool x.pool).race)),((rankOrder (C.headsOf (C.pool x.pool).race) r:Nat):Int)):=by
 have hr:=iC hb;have hh:=c5 g (C.pool x.pool).race;have hc:=iB g hr;have iG:nr C (C.pool x.pool) x.sets=x.sets.map λs=>s.map (dG (C.headsOf (C.pool x.pool).race)):=by
  unfold nr;rw[af hk]
 rw[iG];generalize C.pool x.pool=p at*;generalize C.headsOf p.race=h at*;obtain⟨up,MU,_⟩:=hh;unfold jX YG;obtain⟨e1,e2,_⟩|⟨e1,_,e2,w,s,_,_,_,e3⟩|⟨e1,_,e2,wa,wb,A,B,_,_,_,_,_,_,e3⟩:=hb
 .rw[ag ((cw_on hw).mpr e1),e2];have hs:∀s∈x.sets,s.Sublist h:=by
   obtain⟨z,_⟩|⟨_,_,_,z⟩|⟨_,z,_⟩|⟨_,z,_⟩:=hc
   .exact absurd z hk
   .exact z
   .rw[e2]at z;cases z
   .rw[e2]at z;cases z
  exact o8 up (C2 up hs)
 .have hs:s.Sublist h:=by
   obtain⟨z,_⟩|⟨_,z,_⟩|⟨_,_,s',z,y⟩|⟨_,z,_⟩:=hc
   .exact absurd z hk
   .rw[e2]at z;cases z
   .rw[e3]at z;cases z;exact y
   .rw[e2]at z;cases z
  rw[af (λz=>by rw[e1]at z;exact absurd z ⋯),ag ((cw_box hw).mpr e1),e2,e3];show eM h.length (List.replicate p.k [s.map (dG h)]).flatten=_;rw[Ah];exact o8 up (Ak (uc up hs) p.k)
 .have hs:A.Sublist h/\B.Sublist h:=by
   obtain⟨z,_⟩|⟨_,z,_⟩|⟨_,z,_⟩|⟨_,_,A',B',z,y⟩:=hc
   .exact absurd z hk
   .rw[e2]at z;cases z
   .rw[e2]at z;cases z
   .rw[e3]at z;cases z;exact y
  rw[af (λz=>by rw[e1]at z;exact absurd z ⋯),af (λz=>by rw[e1]at z;exact absurd z ⋯),e2,e3];show(eM h.length (List.replicate p.k (A.map (dG h)++B.map (dG h)))).filter (λx=>hasAll x.1 (A.map (dG h)))=((apartRows (List.replicate p.k (together [A,B])) []).filter λr=>A.all λx=>r.contains x).map _;have ht:=k_ up MU hs.1 hs.2;rw[o8 up (Ak ht p.k),pW];congr 1;apply pR;intro r hr;exact JY up hs.1 (Hw (λs hs=>by rw[wA hs];exact ht.1) hr)
def C3{C:Card}(g:CG C){b:Bet}(h:C.setsRight b=true):fE C b=(C.rows b).map λrow=>match(C.pool b.pool).kind with
  |.any=>rankAny ((C.sets (C.pool b.pool)).headD []) row|.legs=>rankLegs (C.sets (C.pool b.pool)) row
  |_=>rankOrder ((C.sets (C.pool b.pool)).headD []) row:=by
 have hc:∀row∈C.rows b,C.isCombo (C.pool b.pool) row=true:=λrow hr=>by
  rw[xX g h]at hr;exact uV (mem_filter.mp hr).2
 conv=>lhs;rw[<-uW g (fE C b) Ac,<-Ab g h]
 have:∀l:List (List Nat),(∀row∈l,C.isCombo (C.pool b.pool) row=true)->l.filterMap (C.numberOf (C.pool b.pool))=l.map λrow=>match(C.pool b.pool).kind with
  |.any=>rankAny ((C.sets (C.pool b.pool)).headD []) row|.legs=>rankLegs (C.sets (C.pool b.pool)) row
  |_=>rankOrder ((C.sets (C.pool b.pool)).headD []) row:=by
  intro l
  induction l with
  |nil=>intro _;rfl
  |cons a l ih=>
   intro hl;rw[jK,vP (hl a ∅),aI,<-ih λr hr=>hl r (by simp[hr])]
   try rfl
 exact this _ hc
def Ma{C:Card}{b:Bet}(e:b.how=.box):C.has b row=(C.isCombo (C.pool b.pool) row&&row.all λ(x:Nat)=>(b.sets.headD []).contains x):=by
 unfold Card.has;rw[e]
def has_key{C:Card}{b:Bet}(e:b.how=.key):C.has b row=(C.isCombo (C.pool b.pool) row&&((b.sets.headD []).all (λ(x:Nat)=>row.contains x)&&row.all λ(x:Nat)=>(b.sets.headD []).contains x||(b.sets.getD 1 []).contains x)):=by
 unfold Card.has;rw[e]
def gQ{u:List Nat}:r∈apartRows (List.replicate k u) []↔r.length=k/\r.Nodup/\∀x∈r,x∈u:=by
 rw[dP,jI];constructor
 .rintro⟨a,b,_,d⟩;exact⟨a,b,(xW a).mp d⟩
 .rintro⟨a,b,d⟩;exact⟨a,b,by simp,(xW a).mpr d⟩
def Rt(g:CG C){x:Bet}{tail:List Bytes}(hb:dQ C (C.pool x.pool) hw tail x.how x.sets)(hk:(C.pool x.pool).kind=.place\/(C.pool x.pool).kind=.order):
  C.rows x=YG (C.pool x.pool).k x.how x.sets:=by
 have hr:=iC hb;have hh:=c5 g (C.pool x.pool).race;have hc:=iB g hr;have qf:(C.pool x.pool).kind≠ .legs:=by
  obtain z|z:=hk<;>rw[z] <;>decide
 have h1:(C.sets (C.pool x.pool)).headD []=C.headsOf (C.pool x.pool).race:=o5 qf;unfold Card.rows YG;dsimp only;obtain hk|hk:=hk
 .rw[hk];obtain⟨z,_⟩|⟨_,e2,hl,_⟩|⟨z,_⟩|⟨z,_⟩:=hc
  .exact absurd z qf
  .rw[e2];unfold Pool.places at hl;rw[ag hk]at hl;obtain⟨s,hs⟩:=length_eq_one_iff.mp hl;rw[hs];show s.map (λx=>[x])=(s.filter λx=>!([]:List Nat).contains x).flatMap λx=>[[x]];have ef:(s.filter λx=>!([]:List Nat).contains x)=s:=filter_eq_self.mpr (λ_ _=>rfl);have em:∀l:List Nat,l.map (λx=>[x])=l.flatMap λx=>[[x]]:=λl=>by
    induction l with
    |nil=>rfl|cons a l ih=>rw[aI,kN,<-ih];rfl
   rw[ef,em]
  .rw[hk]at z;rcases z with z|z<;>cases z
  .rw[hk]at z;rcases z with z|z<;>cases z
 .have combo:∀{r:List Nat}{u:List Nat},(∀y∈u,y∈C.headsOf (C.pool x.pool).race)->r∈apartRows (List.replicate (C.pool x.pool).k u) []->C.isCombo (C.pool x.pool) r=true:=λ{r u} hu hr=>by
   obtain⟨a,b,d⟩:=gQ.mp hr;unfold Card.isCombo;rw[hk];dsimp only;rw[h1,bH,bH,kJ,jf,dy];exact⟨a,b,λy hy=>‹hu y (d y hy)›⟩
  rw[hk];obtain⟨z,_⟩|⟨_,e2,hl,_⟩|⟨_,e2,s,e3,hs⟩|⟨_,e2,A,B,e3,hA,hB⟩:=hc
  .exact absurd z qf
  .rw[e2]
  .rw[e2];have ups:Up s:=sj hs hh.1;have e4:together x.sets=s:=by rw[e3];exact EH ups λy hy=>hh.2.1 y (hs.subset hy)
   have e5:x.sets.headD []=s:=by rw[e3];rfl
   show(apartRows (List.replicate (C.pool x.pool).k (together x.sets)) []).filter (C.has x)=apartRows (List.replicate (C.pool x.pool).k (x.sets.headD [])) [];rw[e4,e5];refine filter_eq_self.mpr λr hr=>?_;rw[Ma e2,e5,combo (λy hy=>hs.subset hy) hr,sy,dy];exact λy hy=>by simpa using(gQ.mp hr).2.2 y hy
  .rw[e2];have e5:x.sets.headD []=A:=by rw[e3];rfl
   have e6:x.sets.getD 1 []=B:=by rw[e3];rfl
   show(apartRows (List.replicate (C.pool x.pool).k (together x.sets)) []).filter (C.has x)=(apartRows (List.replicate (C.pool x.pool).k (together x.sets)) []).filter λr=>(x.sets.headD []).all λx=>r.contains x;apply pR;intro r hr;have hu:∀y∈together x.sets,y∈A\/y∈B:=λy hy=>by
    obtain⟨_,s,hs,z⟩:=du.mp hy;rw[e3]at hs;obtain rfl|hs:=mem_cons.mp hs
    .exact .inl z
    .rw[mem_singleton.mp hs]at z;exact .inr z
   rw[has_key e2,combo (λy hy=>by rcases hu y hy with z|z;exact hA.subset z;exact hB.subset z) hr,sy,e5,e6];have:(r.all λx=>A.contains x||B.contains x)=true:=all_eq_true.mpr λy hy=>by
    obtain z|z:=hu y ((gQ.mp hr).2.2 y hy)<;>simp[z]
   rw[this,w_]
theorem Hy{r:α->α->Prop}(as:∀a b,r a b->¬r b a):∀{l m:List α},l.Pairwise r->m.Pairwise r->(∀x,x∈l↔x∈m)->l=m
 |[],[],_,_,_=>rfl|[],b::m,_,_,h=>absurd ((h b).mpr ∅) ∅
 |a::l,[],_,_,h=>absurd ((h a).mp ∅) ∅
 |a::l,b::m,hl,hm,h=>by
  have Fz:=pairwise_cons.mp hl;have Ur:=pairwise_cons.mp hm;have e:a=b:=by
   obtain z|z:=mem_cons.mp ((h a).mp ∅)
   .exact z
   .obtain y|y:=mem_cons.mp ((h b).mpr ∅)
    .exact y.symm
    .exact absurd (Ur.1 a z) (as _ _ (Fz.1 b y))
  subst e;have ir:=λx z=>as x x z z;rw[Hy as Fz.2 Ur.2 λx=>?_];constructor
  .intro z;obtain y|y:=mem_cons.mp ((h x).mp (by simp[z]))
   .subst y;exact absurd (Fz.1 x z) (ir x)
   .exact y
  .intro z;obtain y|y:=mem_cons.mp ((h x).mpr (by simp[z]))
   .subst y;exact absurd (Ur.1 x z) (ir x)
   .exact y
theorem Hz:∀a b:List Int,HT.lexLt a b=true->¬HT.lexLt b a=true
 |[],[],h=>by cases h
 |[],_::_,_=>by intro z;cases z
 |_::_,[],h=>by cases h
 |x::a,y::b,h=>by
  rw[HT.ic]at h⊢;by_cases e:x=y
  .rw[ag e]at h;rw[ag e.symm];exact Hz a b h
  .rw[af e,jf]at h;rw[af (λz=>e z.symm),jf];omega
def HA:∀{k}{l r},r∈risingRows (k+1) l->∃y t,r=y::t/\y∈l:=λ{k l r} hr=>by
 cases r with
 |nil=>
  have:=gP (k+1) hr;simp at this
 |cons y t=>exact⟨y,t,rfl,iM (k+1) hr y ∅⟩
theorem rS{h:List Nat}(up:Up h):∀k l,Up l->(∀x∈l,x∈h)->((risingRows k l).map λr=>r.map (dG h)).Pairwise λa b=>HT.lexLt a b=true
 |0,l,_,_=>by
  cases l<;>exact pairwise_singleton _ _
 |k+1,[],_,_=>List.Pairwise.nil
 |k+1,x::l,ul,hl=>by
  have ul':=pairwise_cons.mp ul;show(((risingRows k l).map λ(r:List Nat)=>x::r)++risingRows (k+1) l).map _|>.Pairwise _;rw[eC,pairwise_append];refine⟨?_,rS up (k+1) l ul'.2 λy hy=>hl y (by simp[hy]),?_⟩
  .have ih:=rS up k l ul'.2 λy hy=>hl y (by simp[hy]);rw[bP,mC];rw[mC]at ih;refine ih.imp λ{a b} e=>?_;show HT.lexLt (dG h x::a.map (dG h)) (dG h x::b.map (dG h))=true;rw[HT.ic,ag rfl];exact e
  .intro a ha b hb;obtain⟨r,hr,rfl⟩:=mem_map.mp ha;obtain⟨r0,_,rfl⟩:=mem_map.mp hr;obtain⟨s,hs,rfl⟩:=mem_map.mp hb;obtain⟨y,t,rfl,hy⟩:=HA hs;have dR:=(j4 up (hl x ∅) (hl y (by simp[hy]))).mpr (ul'.1 y hy);show HT.lexLt (dG h x::r0.map (dG h)) (dG h y::t.map (dG h))=true;rw[HT.ic,af (),jf];exact dR
theorem u5:∀{ss}{row},fillsSets row ss=true↔∃r:List Nat,r.Perm row/\r.length=ss.length/\(r.zip ss).all (λ(z:Nat×List Nat)=>z.2.contains z.1)=true
 |[],row=>by
  show row.isEmpty=true↔_;constructor
  .intro z;have:row=[]:=by simpa using z
   exact⟨[],by rw[this],rfl,rfl⟩
  .rintro⟨r,h1,h2,_⟩;have:r=[]:=length_eq_zero_iff.mp h2;rw[this]at h1;have:=h1.nil_eq;simp[<-this]
 |s::t,row=>by
  show(row.any λ(x:Nat)=>s.contains x&&fillsSets (row.erase x) t)=true↔_;rw[pU];constructor
  .rintro⟨x,hx,h⟩;rw[bH]at h;obtain⟨r,h1,h2,h3⟩:=u5.mp h.2;refine⟨x::r,((List.Perm.cons x h1).trans (perm_cons_erase hx).symm),by simp[h2],?_⟩;rw[ke,eY,h3,w_];exact h.1
  .rintro⟨r,h1,h2,h3⟩;cases r with
   |nil=>cases h2
   |cons x r=>
    rw[ke,eY,bH]at h3;have hx:x∈row:=h1.subset ∅;refine⟨x,hx,?_⟩;rw[bH];refine⟨h3.1,u5.mpr ⟨r,?_,‹h2›,h3.2⟩⟩;have:=(h1.trans (perm_cons_erase hx));exact(perm_cons x).mp this
def JZ{C:Card}{b:Bet}(e:b.how=.on)(k:(C.pool b.pool).kind=.any):C.has b row=(C.isCombo (C.pool b.pool) row&&fillsSets row b.sets):=by
 unfold Card.has;rw[e];dsimp only;rw[ag k]
def Mb(g:CG C){x:Bet}(hr:C.setsRight x=true)(hk:(C.pool x.pool).kind=.any)(hl:row.length=(C.pool x.pool).k)(hu:Up row)(lZ:∀y∈row,y∈C.headsOf (C.pool x.pool).race):
  C.has x row=true↔∃r∈YG (C.pool x.pool).k x.how x.sets,r.Perm row:=by
 have hh:=c5 g (C.pool x.pool).race;have hc:=iB g hr;have qf:(C.pool x.pool).kind≠ .legs:=by rw[hk];decide
 have h1:(C.sets (C.pool x.pool)).headD []=C.headsOf (C.pool x.pool).race:=o5 qf;have combo:C.isCombo (C.pool x.pool) row=true:=by
  unfold Card.isCombo;rw[hk];dsimp only;rw[h1,bH,bH,kJ,dy];exact⟨hl,(iz row).mpr hu,λy hy=>‹lZ y hy›⟩
 unfold YG;obtain⟨z,_⟩|⟨_,e2,X2,hs⟩|⟨_,e2,s,e3,hs⟩|⟨_,e2,A,B,e3,hA,hB⟩:=hc
 .exact absurd z qf
 .rw[JZ e2 hk,combo,sy,e2,u5];constructor
  .rintro⟨r,h1,h2,h3⟩;exact⟨r,dP.mpr ⟨h2,h1.nodup_iff.mpr hu.nodup,by simp,h3⟩,h1⟩
  .rintro⟨r,h1,h2⟩;have:=dP.mp h1;exact⟨r,h2,this.1,this.2.2.2⟩
 .have e5:x.sets.headD []=s:=by rw[e3];rfl
  rw[Ma e2,combo,sy,e2,dy];dsimp only;rw[e5];constructor
  .intro z;exact⟨row,gQ.mpr ⟨hl,hu.nodup,λy hy=>‹z y hy›⟩,List.Perm.refl _⟩
  .rintro⟨r,h1,h2⟩ y hy;simpa using(gQ.mp h1).2.2 y (h2.mem_iff.mpr hy)
 .have e5:x.sets.headD []=A:=by rw[e3];rfl
  have e6:x.sets.getD 1 []=B:=by rw[e3];rfl
  have ht:=k_ hh.1 hh.2.1 hA hB;have hm:∀y,y∈together x.sets↔y∈A\/y∈B:=λy=>by
   rw[e3,du];constructor
   .rintro⟨_,s,hs,z⟩;obtain rfl|hs:=mem_cons.mp hs
    .exact .inl z
    .rw[mem_singleton.mp hs]at z;exact .inr z
   .rintro(z|z)
    .exact⟨hh.2.1 y (hA.subset z),A,by simp,z⟩
    .exact⟨hh.2.1 y (hB.subset z),B,by simp,z⟩
  rw[has_key e2,combo,sy,e2,e5,e6,bH,dy,dy];constructor
  .rintro⟨a,b⟩;refine⟨row,mem_filter.mpr ⟨gQ.mpr ⟨hl,hu.nodup,λy hy=>(hm y).mpr ?_⟩,?_⟩,List.Perm.refl _⟩
   .have:=b y hy;simpa using this
   .rw[dy];exact a
  .rintro⟨r,h1,h2⟩;obtain⟨h3,h4⟩:=mem_filter.mp h1;rw[dy]at h4;refine⟨λy hy=>?_,λy hy=>?_⟩
   .have:=h4 y hy;simp at this⊢;exact h2.mem_iff.mp this
   .have:=(hm y).mp ((gQ.mp h3).2.2 y (h2.mem_iff.mpr hy));simpa using this
def YH(g:CG C){x:Bet}(hr:C.setsRight x=true)(hk:(C.pool x.pool).kind=.any)(h:r∈YG (C.pool x.pool).k x.how x.sets):r.length=(C.pool x.pool).k/\r.Nodup/\∀y∈r,y∈C.headsOf (C.pool x.pool).race:=by
 have hh:=c5 g (C.pool x.pool).race;have qf:(C.pool x.pool).kind≠ .legs:=by rw[hk];decide
 obtain⟨z,_⟩|⟨_,e2,X2,hs⟩|⟨_,e2,s,e3,hs⟩|⟨_,e2,A,B,e3,hA,hB⟩:=iB g hr
 .exact absurd z qf
 .rw[e2]at h;have:=dP.mp h;refine⟨?_,this.2.1,Hw hs h⟩;rw[this.1,X2];unfold Pool.places;rw[af (by rw[hk];decide)]
 .rw[e2,e3]at h;have:=gQ.mp h;exact⟨this.1,this.2.1,λy hy=>hs.subset (this.2.2 y hy)⟩
 .rw[e2]at h;have:=gQ.mp (mem_filter.mp h).1;rw[e3]at this;exact⟨this.1,this.2.1,λy hy=>(k_ hh.1 hh.2.1 hA hB).1.subset (this.2.2 y hy)⟩
def Md{h:List Nat}(up:Up h)(hu:Up row)(lZ:∀y∈row,y∈h)(p:r.Perm row):qU (row.map (dG h)) (r.map (dG h)):=by
 refine⟨(p.map _).symm,?_⟩;exact((JV up lZ).mpr hu).imp λh=>Int.le_of_lt h
def any_rows(g:CG C){x:Bet}{tail:List Bytes}(hb:dQ C (C.pool x.pool) hw tail x.how x.sets)(hk:(C.pool x.pool).kind=.any)(mem:∀k,k∈out↔∃y∈jX (cw hw) (nr C (C.pool x.pool) x.sets) (C.pool x.pool).k (C.headsOf (C.pool x.pool).race).length,qU k y.1)(so:out.Pairwise λa b=>HT.lexLt a b=true):
  out=(C.rows x).map λr=>r.map (dG (C.headsOf (C.pool x.pool).race)):=by
 have hr:=iC hb;have hh:=c5 g (C.pool x.pool).race;have qf:(C.pool x.pool).kind≠ .legs:=by rw[hk];decide
 have h1:(C.sets (C.pool x.pool)).headD []=C.headsOf (C.pool x.pool).race:=o5 qf;have Ru:C.rows x=(risingRows (C.pool x.pool).k (C.headsOf (C.pool x.pool).race)).filter (C.has x):=by
  rw[xX g hr];unfold bD;rw[hk,h1]
 have Yp:∀r∈C.rows x,r.length=(C.pool x.pool).k/\Up r/\(∀y∈r,y∈C.headsOf (C.pool x.pool).race)/\C.has x r=true:=λr hr=>by
  rw[Ru]at hr;obtain⟨a,b⟩:=mem_filter.mp hr;have:=(d6 _).mp a;exact⟨this.1,sj this.2 hh.1,λy hy=>this.2.subset hy,b⟩
 refine Hy (λa b=>Hz a b) so ?_ λk=>?_
 .have:=rS hh.1 (C.pool x.pool).k (C.headsOf (C.pool x.pool).race) hh.1 (λ_ h=>h);rw[mC]at this⊢;rw[Ru];exact um _ this
 .rw[mem k,Hx g hb qf,mem_map];constructor
  .rintro⟨y,hy,hs⟩;obtain⟨r,YJ,rfl⟩:=mem_map.mp hy;obtain⟨a1,a2,a3⟩:=YH g hr hk YJ;have qJ:((C.headsOf (C.pool x.pool).race).filter λy=>decide (y∈r)).Sublist (C.headsOf (C.pool x.pool).race):=filter_sublist;generalize abp:((C.headsOf (C.pool x.pool).race).filter λy=>decide (y∈r))=row at qJ;have hu:Up row:=sj qJ hh.1;have hp:r.Perm row:=by
    rw[perm_ext_iff_of_nodup a2 hu.nodup];intro y;rw[<-abp,mem_filter,jf];exact⟨λz=>⟨a3 y z,z⟩,λz=>z.2⟩
   have hl:row.length=(C.pool x.pool).k:=by rw[<-hp.length_eq];exact a1
   refine⟨row,?_,hs.eq (Md hh.1 hu (λy hy=>qJ.subset hy) hp)▸rfl⟩;rw[Ru];exact mem_filter.mpr ⟨(d6 _).mpr ⟨hl,qJ⟩,(Mb g hr hk hl hu λy hy=>qJ.subset hy).mpr ⟨r,YJ,hp⟩⟩
  .rintro⟨row,hm,rfl⟩;obtain⟨hl,hu,lZ,aef⟩:=Yp row hm;obtain⟨r,YJ,hp⟩:=(Mb g hr hk hl hu lZ).mp aef;exact⟨_,mem_map.mpr ⟨r,YJ,rfl⟩,Md hh.1 hu lZ hp⟩
def EI(n k:Nat):Cv (n:Int) (k:Int)=((choose n k:Nat):Int):=by
 unfold Cv choose;rw[gm,gb,gb];rfl
theorem HB f:∀(l:List Nat) a,(((l.map f).foldl (λ(a b:Nat)=>a+b) a:Nat):Int)=(a:Int)+(l.map λj=>((f j:Nat):Int)).sum
 |[],a=>by simp
 |x::l,a=>by
  rw[aI,fH,HB f l (a+f x),aI,sum_cons];omega
theorem vQ{h:List Nat}(up:Up h):∀r lo num,Up r->(∀y∈r,y∈h.drop lo)->jW h.length (r.map (dG h)) (lo:Int) num=num+((rankAny (h.drop lo) r:Nat):Int)
 |[],lo,num,_,_=>by
  show num=num+((rankAny (h.drop lo) []:Nat):Int);have:rankAny (h.drop lo) []=0:=by unfold rankAny;rfl
  rw[this];simp
 |x::r,lo,num,hu,lZ=>by
  have KC:=pairwise_cons.mp hu;obtain⟨i,hi,e⟩:=my (lZ x ∅);have e?:(h.drop lo)[i]?=some x:=by rw[bt hi,e]
  have upd:Up (h.drop lo):=sj (drop_sublist _ _) up;have eh:h[lo+i]?=some x:=by rw[<-pJ];exact e?
  have iG:=EF up eh;have YK:=j0 upd.nodup e?;have dR:=(List.getElem?_eq_some_iff.mp eh).1;show jW h.length (r.map (dG h)) (dG h x+1) (num+Eu h.length (r.map (dG h)).length (lo:Int) (dG h x))=_;rw[iG,show((lo+i:Nat):Int)+1=((lo+i+1:Nat):Int) by omega,vQ up r (lo+i+1) _ KC.2 (λy hy=>?_)]
  .show _=num+((((List.range ((h.drop lo).findIdx λ(y:Nat)=>y==x)).map λ(j:Nat)=>choose ((h.drop lo).length-1-j) r.length).foldl (λ(a b:Nat)=>a+b) 0+rankAny ((h.drop lo).drop (((h.drop lo).findIdx λ(y:Nat)=>y==x)+1)) r:Nat):Int);rw[YK,drop_drop,show lo+(i+1)=lo+i+1 by omega];have hb:Eu h.length (r.map (dG h)).length (lo:Int) ((lo+i:Nat):Int)=((((List.range i).map λ(j:Nat)=>choose ((h.drop lo).length-1-j) r.length).foldl (λ(a b:Nat)=>a+b) 0:Nat):Int):=by
    unfold Eu;rw[HB,show(((lo+i:Nat):Int)-(lo:Int)).toNat=i by omega,az,dX];rw[show(((0:Nat)):Int)=0 from rfl,pP];congr 1;apply fF;intro j hj;have hj:=mem_range.mp hj;rw[show(h.length:Int)-((lo:Int)+(j:Int))-1=((h.length-lo-1-j:Nat):Int) by omega,EI]
   rw[hb];omega
  .obtain⟨j,hj,ej⟩:=my (lZ y (by simp[hy]));have hxy:=KC.1 y hy;have hij:i<j:=by
    obtain a|a|a:=pG i j
    .exact a
    .subst a;omega
    .have:=pairwise_iff_getElem.mp upd j i hj hi a;omega
   rw[mem_iff_getElem?];refine⟨j-i-1,?_⟩;rw[pJ,show lo+i+1+(j-i-1)=lo+j by omega,<-pJ,bt hj,ej]
def Rv{h:List Nat}(up:Up h)(hu:Up r)(lZ:∀y∈r,y∈h):jW h.length (r.map (dG h)) 0 0=((rankAny h r:Nat):Int):=by
 have:=vQ up r 0 0 hu ‹lZ›;rw[drop_zero]at this;rw[show((0:Nat):Int)=0 from rfl]at this;rw[this,pP]
end Pd
end
section
namespace Pd
open Tote TotePoolCalls
def U9(g:CG C){x:Bet}{tail:List Bytes}(hb:dQ C (C.pool x.pool) hw tail x.how x.sets)(hk:(C.pool x.pool).kind≠ .legs)(hn:rO (mp (C.pool x.pool)) (cw hw) (nr C (C.pool x.pool) x.sets) (C.headsOf (C.pool x.pool).race).length nums):nums=iN (fE C x):=by
 have hr:=iC hb;have hh:=c5 g (C.pool x.pool).race;have h1:(C.sets (C.pool x.pool)).headD []=C.headsOf (C.pool x.pool).race:=o5 hk;have ek:(mp (C.pool x.pool)).k.toNat=(C.pool x.pool).k:=by show((C.pool x.pool).k:Int).toNat=_;omega
 unfold rO at hn;rw[ek]at hn;rw[C3 g hr,h1];by_cases ka:(C.pool x.pool).kind=.any
 .rw[ag (JW.mpr ka)]at hn;obtain⟨out,mem,so,rfl⟩:=hn;rw[any_rows g hb ka mem so];unfold iN;rw[bP,bP,ka];apply fF;intro r YJ;have lZ:Up r/\∀y∈r,y∈C.headsOf (C.pool x.pool).race:=by
   rw[xX g hr]at YJ;have:=(mem_filter.mp YJ).1;unfold bD at this;rw[ka,h1]at this;have:=(d6 _).mp this;exact⟨sj this.2 hh.1,λy hy=>this.2.subset hy⟩
  exact Rv hh.1 lZ.1 lZ.2
 .rw[af (λz=>ka (JW.mp z))]at hn;have ko:(C.pool x.pool).kind=.place\/(C.pool x.pool).kind=.order:=by
   cases e:(C.pool x.pool).kind with
   |place=>exact .inl rfl|order=>exact .inr rfl
   |any=>exact absurd e ka|legs=>exact absurd e hk
  rw[hn,Hx g hb hk,Rt g hb ko];unfold iN;rw[bP,bP];apply fF;intro r _;show((rankOrder (C.headsOf (C.pool x.pool).race) r:Nat):Int)=_;obtain e|e:=ko<;>rw[e] <;>rfl
def Mf(g:CG C){x:Bet}(hr:C.setsRight x=true)(P:MY (C.races.map hI) (mp (C.pool x.pool)))(hk:(C.pool x.pool).kind=.legs):
  oU ((nr C (C.pool x.pool) x.sets).zip (cY (C.races.map hI) (mp (C.pool x.pool))))=iN (fE C x)/\jh (nr C (C.pool x.pool) x.sets)=((C.manyOf x:Nat):Int):=by
 have hl:x.sets.length=(C.sets (C.pool x.pool)).length:=by
  obtain⟨_,_,z,_⟩|⟨z,_⟩|⟨z,_⟩|⟨z,_⟩:=iB g hr
  .exact z
  .exact absurd hk z
  .rw[hk]at z;rcases z with z|z<;>cases z
  .rw[hk]at z;rcases z with z|z<;>cases z
 rw[Ag P];unfold nr;rw[ag hk,N4 hl,JX hl,C3 g hr];constructor
 .congr 1;have:C.rows x=rowsOf x.sets:=by unfold Card.rows;dsimp only;rw[hk]
  rw[this];apply fF;intro r _;rw[hk]
 .unfold Card.manyOf;rw[ag hk]
theorem Al:∀{l:List MP},(l.map (·.name)).Nodup->q∈l->l.filter (λz=>decide (z.name=q.name))=[q]
 |a::l,nd,hq=>by
  rw[aI,nodup_cons]at nd;obtain rfl|z:=mem_cons.mp hq
  .rw[filter_cons_of_pos ∅];congr 1;rw[filter_eq_nil_iff];intro y hy e;exact nd.1 (mem_map.mpr ⟨y,hy,‹e›⟩)
  .rw[filter_cons_of_neg,Al nd.2 z];intro e;exact nd.1 (mem_map.mpr ⟨q,z,(by simpa using e:a.name=q.name).symm⟩)
def HC{ps:List MP}(h:d7 codes=some (rs,ps)):(ps.map (·.name)).Nodup:=by
 unfold d7 at h;split at h
 .cases h
 .cases h
 split at h
 .cases h
 split at h
 .cases h
 split at h
 .cases h
 split at h
 .cases h
 split at h
 .cases h
 split at h
 .cases h;assumption
 .cases h
def Rw{n v:Bytes}(hv:isName v=true):cw n=cw v↔n=v:=by
 constructor
 .intro h;have hp:(toN v).all (λc=>isLet c||cj c)=true:=by
   have:jg (cw v)=true:=by rw[tF];exact hv
   unfold jg at this;simp only[Bool.and_eq_true]at this;have h4:=this.2.2.2;have e:=(cw_eq h4).mp rfl;rw[e];exact h4
  have e:=(cw_eq hp).mpr rfl;exact(cw_word rfl hp).mp (h.trans e)
 .rintro rfl;rfl
def N5{w:Bytes}{u:Nat}(hu:0<u){s:Int}:oR (cw w) (u:Int)=some s↔∃k:Nat,numberOf w=some k/\1<=k/\k<=1000000/\k%u=0/\s=(k:Int):=by
 unfold oR;constructor
 .intro h;split at h
  .rename_i c;cases h;have o:=rC (w:=w) ();refine⟨(dz (cw w)).toNat,o.1,by omega,by omega,?_,by omega⟩;have:((dz (cw w)).toNat:Int)%(u:Int)=0:=by rw[sv ()];exact c.2.2
   omega
  .cases h
 .rintro⟨k,h1,h2,h3,h4,rfl⟩;rw[rB h1 (),ag ⟨by omega,by omega,by omega⟩]
def C4{b:Bytes}:i7 (cw b)=some [ws]↔∃l,bV 10 [] b=[l,[]]/\ws=cl (bV 32 [] l):=by
 rw[uF];constructor
 .intro h;split at h
  .rename_i e;have h:=Option.some.inj h;obtain⟨l,hl,hw⟩:=map_eq_singleton_iff.mp h;exact⟨l,(mM).mpr ⟨e,hl.symm⟩,hw.symm⟩
  .cases h
 .rintro⟨l,h1,rfl⟩;obtain⟨e1,e2⟩:=(mM (ls:=[l])).mp h1;rw[ag e1,<-e2];rfl
def N6(k1:1<=p.k){tail:List Bytes}(h:dQ C p hw tail how sets):tail≠ []:=by
 obtain⟨_,_,h⟩|⟨_,_,_,w,s,h,_⟩|⟨_,_,_,wa,wb,A,B,h,_⟩:=h
 .have gU:dI C p≠ []:=by
   unfold dI;intro z;split at z
   .rename_i hk;have:=qz (C:=C) hk;rw[z]at this;simp at this;omega
   .have:=cb List.length z;unfold Pool.places at this;split at this
    .cases this
    .simp at this;omega
  match dI C p,gU,h with
  |[_],_,⟨w,s,e,_⟩=>rw[e];simp|_::_::_,_,⟨w,s,rest,r,e,_⟩=>rw[e];simp
 .rw[h];simp
 .rw[h];simp
def list1{l:List α}{n:Nat}(h:n+1<=l.length):∃a t,l=a::t/\n<=t.length:=by
 cases l with
 |nil=>cases h
 |cons a t=>exact⟨a,t,rfl,Nat.le_of_succ_le_succ h⟩
def abq{l:List α}(h:6<=l.length):∃a b c d e t,l=a::b::c::d::e::t/\t≠ []:=by
 obtain⟨a,l1,rfl,h1⟩:=list1 h;obtain⟨b,l2,rfl,h2⟩:=list1 h1;obtain⟨c,l3,rfl,h3⟩:=list1 h2;obtain⟨d,l4,rfl,h4⟩:=list1 h3;obtain⟨e,l5,rfl,h5⟩:=list1 h4;exact⟨a,b,c,d,e,l5,rfl,λz=>by rw[z]at h5;cases h5⟩
def Rx(C:Card)(b:Bytes):Option (MP×Int×List (List Int)×Option (List Int))->Prop
 |none=>∀x,C.readBet b≠ .ok x
 |some (q,st,ss,o)=>∃x,C.readBet b=.ok x/\C.setsRight x=true/\C.pool x.pool∈C.pools/\q=mp (C.pool x.pool)/\st=(x.stake:Int)/\1<=x.stake/\ss=nr C (C.pool x.pool) x.sets/\(match o with
  |none=>(C.pool x.pool).kind=.legs/\262144<C.manyOf x|some nums=>nums=iN (fE C x)/\C.manyOf x<=262144)
def U_(g:CG C)(hk:p.kind≠ .legs)(h4:p.k<=4):C.many p<=262144:=by
 have h1:∀n k:Nat,n<25->k<5->orders n k<=262144:=by
  have:∀n:Fin 25,∀k:Fin 5,orders n.val k.val<=262144:=by decide+kernel
  intro n k a b;exact this ⟨n,a⟩ ⟨k,b⟩
 have hl:=(t8 g p).2.2;unfold Card.many;cases e:p.kind with
 |place=>dsimp only;omega|order=>exact h1 _ _ () ()
 |any=>
  exact aX (Nat.div_le_self _ _) (h1 _ _ () ())
 |legs=>exact absurd e hk
def ud{k m:Nat}:(k:Int)*(m:Int)<=2147483647↔k*m<=COST:=by
 rw[<-sF];unfold COST;generalize k*m=z;omega
def Mg{t b:Bytes}(hC:readCard t=.ok C){r:Option (MP×Int×List (List Int)×Option (List Int))}(h:oV (cw b) (C.races.map hI) (C.pools.map mp) r):Rx C b r:=by
 have g:=LZ hC;have cn:=U2 hC;obtain⟨Xp,_⟩:=K5 hC;have hpb:=(CV Xp).1;have Zv:=HC Xp;have rb:=λx=> @JU C cn b x;have no:(∀x,¬∃l,bV 10 [] b=[l,[]]/\qV C (bV 32 [] l) x)->r=none->Rx C b r:=by
  rintro z rfl;intro x e;exact z x ((rb x).mp e)
 unfold oV at h;by_cases hl:∃l,bV 10 [] b=[l,[]]
 case neg=>
  refine no (λx ⟨l,e,_⟩=>hl ⟨l,e⟩) ?_;split at h
  .rename_i ws e;obtain⟨l,e,_⟩:=C4.mp e;exact absurd ⟨l,e⟩ hl
  .exact h
 obtain⟨l,y9⟩:=hl;rw[C4.mpr ⟨l,y9,rfl⟩]at h;dsimp only at h;have Zx:(∀x,¬qV C (bV 32 [] l) x)->r=none->Rx C b r:=λz=>no λx ⟨l',e,k⟩=>by
  rw[y9]at e;cases e;exact z x k
 generalize hW:bV 32 [] l=W at*;by_cases hw:∃n st hw tail,W=ascii "bet"::n::ascii "for"::st::hw::tail/\tail≠ []
 case neg=>
  refine Zx (λx k=>?_) ?_
  .obtain⟨n,st,JT,tail,e,hi,_,hb⟩:=k.ex;obtain⟨p,hp,_,e2⟩:=find_name hi;have k1:1<=((C.pool x.pool).k:Int):=(hpb (mp (C.pool x.pool)) (mem_map.mpr ⟨_,by rw[e2];exact bg hp,rfl⟩)).NR.k1;exact hw ⟨n,st,JT,tail,e,N6 () hb⟩
  .split at h
   .rename_i c;obtain⟨c1,c2,c3⟩:=c;rw[az]at c1;obtain⟨a0,a1,a2,a3,a4,t,e,ht⟩:=abq c1;rw[e]at c2 c3;exact absurd ⟨a1,a3,a4,t,by rw[e,(cw_bet a0).mp c2,(cw_for a2).mp c3],ht⟩ hw
   .exact h
 obtain⟨n,st,hw,tail,eW,htl⟩:=hw;have aeL:=length_pos_iff.mpr htl;rw[ag ⟨by rw[eW];simp;omega,by rw[eW];exact(cw_bet _).mpr rfl,by rw[eW];exact(cw_for _).mpr rfl⟩]at h;have g1:(cl W).getD 1 []=cw n:=by rw[eW];rfl
 have g3:(cl W).getD 3 []=cw st:=by rw[eW];rfl
 have g4:(cl W).getD 4 []=cw hw:=by rw[eW];rfl
 have gd:(cl W).drop 4=(hw::tail).map cw:=by rw[eW];rfl
 rw[g1,g3,g4,gd]at h;have ex':∀x,qV C W x->(C.pools.findIdx? λ(p:Pool)=>p.name==n)=some x.pool/\numberOf st=some x.stake/\dQ C (C.pool x.pool) hw tail x.how x.sets:=λx k=>by
  obtain⟨n',Bw,JT,tail',e,hi,hs,hb⟩:=k.ex;rw[eW]at e;injection e with _ e;injection e with e1 e;injection e with _ e;injection e with e2 e;injection e with e3 e4;rw[e1,e2,e3,e4];exact⟨hi,hs,hb⟩
 cases YK:(C.pools.findIdx? λ(p:Pool)=>p.name==n)with
 |none=>
  refine Zx (λx k=>by rw[YK]at ex';cases(ex' x k).1) ?_;have:(C.pools.map mp).filter (λq=>decide (q.name=cw n))=[]:=by
   rw[filter_eq_nil_iff];intro q hq e;obtain⟨p,hp,rfl⟩:=mem_map.mp hq;have e:=of_decide_eq_true e;have:=(Rw (cn p hp)).mp e.symm;have hf:=findIdx?_eq_none_iff.mp YK p hp;rw[this]at hf;simp at hf
  rw[this]at h;exact h
 |some i=>
 obtain⟨p,hpi,vv,hpe⟩:=find_name YK;have HW:=bg hpi;have pb:=hpb (mp p) (mem_map.mpr ⟨p,HW,rfl⟩);have aeg:(C.pools.map mp).filter (λq=>decide (q.name=cw n))=[mp p]:=by
  rw[<-vv];exact Al Zv (mem_map.mpr ⟨p,HW,rfl⟩)
 rw[aeg]at h;dsimp only at h;have exi:∀x,qV C W x->x.pool=i/\C.pool x.pool=p/\numberOf st=some x.stake/\dQ C p hw tail x.how x.sets:=λx k=>by
  obtain⟨a,b,c⟩:=ex' x k;rw[YK]at a;have a:=Option.some.inj a;rw[<-a,hpe]at c;exact⟨a.symm,by rw[<-a];exact hpe,b,c⟩
 have u0:0<p.unit:=by
  have:=pb.u.1;have:0<(p.unit:Int):=this;omega
 have p6:= @N5 st p.unit u0;have eu:(mp p).u=(p.unit:Int):=rfl;rw[eu]at h;cases es:oR (cw st) (p.unit:Int)with
 |none=>
  rw[es]at h;refine Zx (λx k=>?_) h;obtain⟨_,e2,e3,_⟩:=exi x k;have:=p6.mpr ⟨x.stake,e3,k.s1,k.s2,by rw[<-e2];exact k.s3,rfl⟩;rw[es]at this;cases this
 |some s=>
 rw[es]at h;obtain⟨k,k0,k1,k2,k3,rfl⟩:=p6.mp es;have hsi:= @Rq C g p pb.NR hw tail;cases ess:jV ((hw::tail).map cw) (mp p) (cY (C.races.map hI) (mp p))with
 |none=>
  rw[ess]at h;refine Zx (λx kk=>?_) h;have:=hsi.mpr ⟨x.how,x.sets,(exi x kk).2.2.2,rfl⟩;rw[ess]at this;cases this
 |some ss=>
 rw[ess]at h;dsimp only at h;obtain⟨how,sets,Wd,Sr⟩:=hsi.mp ess;have same:∀x,qV C W x->ss=nr C (C.pool x.pool) x.sets/\x.stake=k:=λx kk=>by
  obtain⟨_,e2,e3,e4⟩:=exi x kk;have:=hsi.mpr ⟨x.how,x.sets,e4,rfl⟩;rw[ess]at this;exact⟨by rw[e2];exact Option.some.inj this,by rw[k0]at e3;exact(Option.some.inj e3).symm⟩
 have mkx:∀x:Bet,x=⟨i,how,sets,k⟩->0<C.manyOf x->x.stake*C.manyOf x<=COST->qV C W x:=by
  rintro x rfl m1 m2;exact⟨⟨n,st,hw,tail,eW,YK,k0,by rw[hpe];exact Wd⟩,k1,k2,by rw[hpe];exact k3,m1,m2⟩
 obtain⟨x,hx⟩:∃x:Bet,x=⟨i,how,sets,k⟩:=⟨_,rfl⟩;have xp:C.pool x.pool=p:=by rw[hx];exact hpe
 have xs:x.stake=k:=by rw[hx]
 have xss:ss=nr C (C.pool x.pool) x.sets:=by rw[xp,hx];exact Sr
 have Wf:dQ C (C.pool x.pool) hw tail x.how x.sets:=by rw[xp,hx];exact Wd
 have xr:=iC Wf;by_cases hk:p.kind=.legs
 .rw[ag (nk.mpr hk)]at h;have lg:∀y:Bet,C.pool y.pool=p->C.setsRight y=true->ss=nr C (C.pool y.pool) y.sets->jh ss=((C.manyOf y:Nat):Int):=λy e1 e2 e3=>by
   rw[e3];exact(Mf g e2 (by rw[e1];exact pb.NR) (by rw[e1];exact hk)).2
  have lx:=lg x xp xr xss;by_cases hc:0<jh ss/\(k:Int)*jh ss<=2147483647
  .rw[ag hc,lx]at h;rw[lx]at hc;have bL:=mkx x hx () (by rw[xs];exact ud.mp hc.2);rw[h];refine⟨x,(rb x).mpr ⟨l,y9,hW▸bL⟩,xr,by rw[xp];exact HW,by rw[xp],by rw[xs],by rw[xs];exact k1,xss,?_⟩;by_cases hm:((C.manyOf x:Nat):Int)<=262144
   .rw[ag hm];refine⟨?_,by omega⟩;have:=(Mf g xr (by rw[xp];exact pb.NR) (by rw[xp];exact hk)).1;rw[<-this,xss,xp]
   .rw[af hm];exact⟨by rw[xp];exact hk,by omega⟩
  .rw[af hc]at h;refine Zx (λy ky=>hc ?_) h;obtain⟨s1,s2⟩:=same y ky;obtain⟨_,e2,_,e4⟩:=exi y ky;have ly:=lg y e2 (iC (by rw[e2];exact e4)) s1;rw[ly];have m1:=ky.m1;have m2:=ky.m2;rw[s2]at m2;exact⟨by omega,ud.mpr m2⟩
 .rw[af (λz=>hk (nk.mp z))]at h;obtain⟨nums,hn,hif⟩:=h;have eI:((cY (C.races.map hI) (mp p)).getD 0 []).length=(C.headsOf p.race).length:=by
   rw[Ag pb.NR];unfold Card.sets Pool.legs;rw[af hk];show(iN (C.headsOf (p.race+0))).length=_;unfold iN;rw[az,sA]
  rw[eI]at hn;have nm:∀y:Bet,C.pool y.pool=p->dQ C p hw tail y.how y.sets->ss=nr C (C.pool y.pool) y.sets->nums=iN (fE C y)/\nums.length=C.manyOf y:=λy e1 e2 e3=>by
   have e4:dQ C (C.pool y.pool) hw tail y.how y.sets:=by rw[e1];exact e2
   have:=U9 g e4 (by rw[e1];exact hk) (by rw[<-e3,e1];exact hn);refine⟨this,?_⟩;rw[this,CY g (iC e4)];unfold iN;rw[az]
  have nx:=nm x xp (by rw[<-xp];exact Wf) xss;by_cases hc:0<(nums.length:Int)/\(k:Int)*(nums.length:Int)<=2147483647
  .rw[ag hc]at hif;rw[nx.2]at hc;have bL:=mkx x hx () (by rw[xs];exact ud.mp hc.2);rw[hif];refine⟨x,(rb x).mpr ⟨l,y9,hW▸bL⟩,xr,by rw[xp];exact HW,by rw[xp],by rw[xs],by rw[xs];exact k1,xss,nx.1,?_⟩;rw[CY g xr];have h4:(p.k:Int)<=4:=pb.nl (λz=>hk (nk.mp z));have hm:C.many (C.pool x.pool)<=262144:=by rw[xp];exact U_ g hk ()
   refine aX ?_ hm;refine aX (om _ _) ?_;rw[sx];exact aL _
  .rw[af hc]at hif;refine Zx (λy ky=>hc ?_) hif;obtain⟨s1,s2⟩:=same y ky;obtain⟨_,e2,_,e4⟩:=exi y ky;have ly:=(nm y e2 e4 s1).2;rw[ly];have m1:=ky.m1;have m2:=ky.m2;rw[s2]at m2;exact⟨by omega,ud.mpr m2⟩
def Va(hc:∀x∈card,0<=x/\x<=255)(hb:∀x∈bet,0<=x/\x<=255)(m0:∀x∈ms,0<=x)(m2:ms.length%2=0){r:Int×Int×Option (List (List Int)×MP×Int×List (List Int)×Option (List Int))}(h:z7 card bet ms r) g:
  (r.1<0/\(let a:=ofBetMoney (PoolNeutral.text card) (PoolNeutral.text bet) (PoolNeutral.pairs ms) g;a.code::a.nums)=[r.1])\/
  (∃(C:Card) (x:Bet) (st:Int) (ss:List (List Int)) (o:Option (List Int)),CG C/\C.setsRight x=true/\MY (C.races.map hI) (mp (C.pool x.pool))/\r=(0,((C.many (C.pool x.pool):Nat):Int),some (C.races.map hI,mp (C.pool x.pool),st,ss,o))/\st=(x.stake:Int)/\1<=x.stake/\ss=nr C (C.pool x.pool) x.sets/\dN ms ((C.many (C.pool x.pool):Nat):Int)=true/\
   (match o with
   |none=>(C.pool x.pool).kind=.legs/\262144<C.manyOf x
   |some nums=>nums=iN (fE C x)/\C.manyOf x<=262144)/\(let a:=ofBetMoney (PoolNeutral.text card) (PoolNeutral.text bet) (PoolNeutral.pairs ms) g;a.code::a.nums)=(let a:=g C x;a.code::a.nums)):=by
 have el:∀l:List Int,(PoolNeutral.text l).length=l.length:=λl=>by unfold PoolNeutral.text PoolNeutral.nats;rw[az,az]
 have ect:cg bet=cw (PoolNeutral.text bet):=yY hb;unfold z7 at h;unfold ofBetMoney ofCard TEXT LOOKED;rw[el,el];by_cases h1:4096<bet.length
 .rw[ag (.inr h1)]at h;rw[ag h1,h];exact .inl ⟨by decide,rfl⟩
 by_cases h2:65536<card.length
 .rw[ag (.inl h2)]at h;rw[af h1,ag h2,h];exact .inl ⟨by decide,rfl⟩
 rw[af (),yY hc]at h;rw[af h1,af h2];cases hr:readCard (PoolNeutral.text card)with
 |error e=>
  cases hq:d7 (cw (PoolNeutral.text card))with
  |none=>
   rw[hq]at h;rw[h];exact .inl ⟨by show(-8:Int)<0;decide,rfl⟩
  |some c=>
   obtain⟨C,z,_⟩:=PU hq;rw[hr]at z;cases z
 |ok C=>
  obtain⟨hq,_⟩:=K5 hr;rw[hq,ect]at h;dsimp only at h⊢;obtain⟨hB,e⟩|⟨q,hB,e⟩:=h
  .have:=Mg hr hB;rw[e];refine .inl ⟨by show(-6:Int)<0;decide,?_⟩;cases hx:C.readBet (PoolNeutral.text bet)with
   |error _=>rfl|ok x=>exact absurd hx (this x)
  .obtain⟨q,st,ss,o⟩:=q;obtain⟨x,hx,hs,hp,rfl,e1,e2,e3,e4⟩:=Mg hr hB;have pin:=PV hq (mp (C.pool x.pool)) (mem_map.mpr ⟨_,hp,rfl⟩);rw[hx];dsimp only at e⊢;rw[count_eq pin]at e;rw[<-yX m0 m2];by_cases hz:dN ms ((C.many (C.pool x.pool):Nat):Int)=true
   .rw[ag hz]at e;rw[ag hz];exact .inr ⟨C,x,st,ss,o,LZ hr,hs,pin,e,e1,e2,e3,hz,e4,rfl⟩
   .rw[af hz]at e;rw[af hz,e];exact .inl ⟨by show(-3:Int)<0;decide,rfl⟩
def N7 nums st:bq (eO nums st)=nums:=by
 unfold bq eO;rw[bP];exact map_id' _
theorem C5 st (k:Nat):∀nums:List Nat,bo (eO (iN nums) st) (k:Int)=if k∈nums then some st else none
 |[]=>rfl
 |a::l=>by
  show bo (((a:Int),st)::eO (iN l) st) (k:Int)=_;rw[cI,C5 st k l];by_cases e:a=k
  .rw[ag (by rw[e]),ag (by simp[e])]
  .rw[af ()];by_cases c:k∈l
   .rw[ag c,ag (by simp[c])]
   .rw[af c,af (by simp[c];omega)]
def Ry{l:List Nat}(h:l.Nodup):(iN l).Nodup:=by
 unfold iN;rw[wy,mC];exact(nodup_iff_pairwise_ne.mp h).imp λh z=>h ()
def Vb{st n:Nat}(up:Up nums)(s1:1<=st)(m0:∀x∈ms,0<=x)(m2:ms.length%2=0)(hm:dN ms (n:Int)=true)(h:zA (qH (bh ms) (eO (iN nums) (st:Int))) out):PoolNeutral.pairs out=Money.join (PoolNeutral.pairs ms) (nums.map λn=>(n,st))/\∀x∈out,0<=x:=by
 have nd:=uJ (eO (iN nums) (st:Int)) (bh ms) (vH hm);have hk:=GR (eO (iN nums) (st:Int)) (bh ms) (Hs m0) (λp hp=>by
  unfold eO iN at hp;rw[bP]at hp;obtain⟨a,_,rfl⟩:=mem_map.mp hp;exact Int.natCast_nonneg a)
 obtain⟨h1,h2,h3⟩:=U3 h nd hk;have hj:=UZ (N3 m0 m2 hm) (U0 up s1);refine⟨CZ h1 hj.1 λk=>?_,h2⟩;rw[hj.2,YB];have e:=h3 k;rw[GU (k:Int) _ _ (by rw[N7];exact Ry up.nodup),<-U4 m0,C5]at e;split at e
 .rename_i c;rw[ag c];have e:((Money.on (PoolNeutral.pairs out) k:Nat):Int)=max 0 (((Money.on (PoolNeutral.pairs ms) k:Nat):Int)+(st:Int)):=e;omega
 .rename_i c;rw[af c];have e:((Money.on (PoolNeutral.pairs out) k:Nat):Int)=max 0 (((Money.on (PoolNeutral.pairs ms) k:Nat):Int)+0):=e;omega
def YL(hc:∀x∈card,0<=x/\x<=255)(hb:∀x∈bet,0<=x/\x<=255)(m0:∀x∈ms,0<=x)(m2:ms.length%2=0)(h:JN card bet ms ans):PyWqaqcm.put card bet ms=ans:=by
 have e:PyWqaqcm.put card bet ms=(let a:=ofBetMoney (PoolNeutral.text card) (PoolNeutral.text bet) (PoolNeutral.pairs ms) (λC x=>match C.put x (PoolNeutral.pairs ms)with
  |none=>says (-9)|some z=>hands z);a.code::a.nums):=rfl
 rw[e];obtain⟨r,hA,Vc⟩:=h;rcases Va hc hb m0 m2 hA (λC x=>match C.put x (PoolNeutral.pairs ms)with
  |none=>says (-9)|some z=>hands z)with⟨hn,e⟩|⟨C,x,st,ss,o,g,hs,pin,rfl,rfl,s1,_,hm,ho,e⟩
 .rw[ag hn]at Vc;rw[e,Vc]
 .rw[e];unfold Card.put ENTRIES;cases o with
  |none=>
   rw[ag ho.2];exact Vc.symm
  |some nums=>
   obtain⟨rfl,hle⟩:=ho;obtain⟨out,zq,rfl⟩:=Vc;obtain⟨p1,p2⟩:=Vb JS s1 m0 m2 hm zq;have e2:=zB zq;rw[af (),EC g hs,<-p1];dsimp only;rw[<-yX p2 e2];by_cases hr:dN out ((C.many (C.pool x.pool):Nat):Int)=true
   .rw[ag hr,ag hr];show(0:Int)::(moneyNums (PoolNeutral.pairs out)).map (λ(n:Nat)=>(n:Int))=0::out;rw[nX e2 p2]
   .rw[af hr,af hr];rfl
end Pd
end
section
namespace L2
open PySem PySem.Spec PyProof.Rows
inductive Ent(w:World):List DictEntry->List (Key×V)->Prop
 |nil:Ent w [] []
 |cons {e:DictEntry} {es:List DictEntry} {k:Key} {v:V} {kvs:List (Key×V)} :gX k e.key=true->e.hash=nY w k->RelV v e.val->Ent w es kvs->Ent w (e::es) ((k,v)::kvs)
theorem Ent.pairs{P:Program}{w:World}:∀{es:List DictEntry}{kvs:List (Key×V)},Ent w es kvs->∃vs:List (Key×Value),KV kvs vs/\Pairs (bK P w) es vs/\vs.map (·.1)=kvs.map (·.1)/\es.length=kvs.length/\∀e∈es,∃k,gX k e.key=true/\e.hash=nY w k
 |_,_,.nil=>⟨[],.nil,.nil,rfl,rfl,by simp⟩
 |_,_,.cons (e:=e) (k:=k) (v:=v) a b c r=>by
  obtain⟨vs,h1,h2,h3,h4,h5⟩:=Ent.pairs (P:=P) r;refine⟨(k,e.val)::vs,.cons ⟨rfl,c⟩ h1,.cons a rfl h2,by rw[aI,aI,h3],by rw[aY,aY,h4],λx hx=>?_⟩;obtain z|z:=mem_cons.mp hx
  .subst z;exact⟨k,a,b⟩
  .exact h5 x z
def Rz{es:Array DictEntry}(l:K.lookup d=some {cls:=.type "dict",data:=.dict es ep})(hd:(d==sysModules)=false)(h:Ent w es.toList kvs)(nd:(kvs.map (·.1)).Nodup):KD P w K d kvs:=by
 obtain⟨vs,h1,h2,h3,h4,h5⟩:=h.pairs (P:=P);refine⟨_,es,ep,vs,l,hd,⟨rfl,rfl,rfl⟩,rfl,by rw[<-h4,cN],h1,λe he=>h5 e ‹he›,h2,by rw[h3];exact nd⟩
def Mh x t:gX (Sum.inr x) (.str x t)=true:=by simp[gX,Value.isStrOf]
def o9 x t:gX (Sum.inl x) (.int x t)=true:=by simp[gX,Value.isInt]
def Vd{a b:Int}{t u:Tok}{e:Nat}(l:K.lookup p=some {cls:=.type "tuple",data:=.seq #[.int a t,.int b u] e}):jM K H p [.int a,.int b]:=
 .inr ⟨_,_,_,l,rfl,rfl,by rw[cG];show 2<=16777216;decide,.cons ⟨_,rfl⟩ (.cons ⟨_,rfl⟩ .nil)⟩
noncomputable def DH(K:PySem.W.Frag)(x:Str)(st:Stmt):Prop:=∃f fd,PySem.W.nsIn K mainGlobals x=some (some (.ref f))/\KQ K x x st f fd
def dh{kV doc b9:Value}(a:PySem.W.nsIn K mainGlobals x=some (some (.ref f)))(l:K.lookup f=some ⟨oc,od,.func (PySem.W.fnOf x x (fR st) (ck st) (ao st) .none kV doc pm an b9 ct),Im⟩)(c:PySem.W.codeIn K b9 x=true)(k:PySem.W.keepIn K (.ref f)=true):DH K x st:=⟨_,_,a,IE l c k⟩
theorem DH.d(D:DH K x st)(X:K.In h)(G:h.Ns mainGlobals mg)(hb:∀kV doc pm an b9 ct us,us.length=ps.length->bindArgs (PySem.W.fnOf x x (fR st) (ck st) (ao st) .none kV doc pm an b9 ct) ⟨us,[]⟩=pure (ps.zip us)):Def K mg x st ps:=by
 obtain⟨f,fd,a,F⟩:=D;exact⟨_,_,bO X G a,F,F.binds hb⟩
end L2
namespace Pd
open PySem PySem.Spec PyProof.Rows L2 TL
def RA:([Sum.inr (Str.ofString "place"),Sum.inr (Str.ofString "order"),Sum.inr (Str.ofString "any"),Sum.inr (Str.ofString "legs")]:List Key).Nodup:=by decide+kernel
def RB:([Sum.inl 0,Sum.inl 4,Sum.inl 6,Sum.inl 8,Sum.inl 10,Sum.inl 12,Sum.inl 14]:List Key).Nodup:=by decide+kernel
def RC:([Sum.inl 32,Sum.inl 10,Sum.inl 44,Sum.inl 47]:List Key).Nodup:=by decide+kernel
def abr:Str.ofString " "=S [32]:=by decide+kernel
def abt:Str.ofString "\n"=S [10]:=by decide+kernel
def abu:Str.ofString ","=S [44]:=by decide+kernel
def abv:Str.ofString "/"=S [47]:=by decide+kernel
def abw:Str.ofString "any"=S jr:=by decide+kernel
def YM:Str.ofString "pool"=S yH:=by decide+kernel
def YN:Str.ofString "from"=S yI:=by decide+kernel
def YQ:Str.ofString "take"=S yJ:=by decide+kernel
def Ve:Str.ofString "break"=S rp:=by decide+kernel
def Vf:Str.ofString "least"=S rq:=by decide+kernel
def YR:Str.ofString "unit"=S yK:=by decide+kernel
def YS:Str.ofString "none"=S yL:=by decide+kernel
def RD:Str.ofString "refund"=S js:=by decide+kernel
def Vg:Str.ofString "carry"=S mL:=by decide+kernel
def Vh:Str.ofString "fewer"=S gw:=by decide+kernel
def Vi(h:PoolNeutral.asked [[4],card,bet,money]=true):money.length%2=0:=by
 unfold PoolNeutral.asked at h;simp only[Bool.and_eq_true]at h;have h2:=h.2.2.1;simp[PoolNeutral.pairRows,PoolNeutral.nats]at h2;omega
def all_mk(X:K.In h)(G:h.Ns mainGlobals mg)(hfa:mg "put"=some (.ref fa))(rT:DH K "is_right" D0)(j5:DH K "sum_of_cents" D4)(o_:DH K "by_number" Ex)(rV:DH K "in_pairs" t6)(ny:DH K "with_stake" m9)(fz:DH K "count_combinations" DZ)(jb:DH K "count_choices" DX)(nz:DH K "count_rows" DW)(nA:DH K "count_sets" DY)(lj:DH K "leg_numbers" Hg)(jc:DH K "numbered_rows" zT)(nB:DH K "set_number" LK)(u6:DH K "sign_of" K7)(u9:DH K "text_of" Gy)(rW:DH K "lines_of" y8)(u_:DH K "is_name" Gz)(ph:DH K "number_of" xE)(vd:DH K "require" tW)(rX:DH K "read_bet" LN)(j6:DH K "check_staked" xS)(ll:DH K "pool_called" tX)(nD:DH K "read_stake" Eo)(pj:DH K "read_sets" LC)(ve:DH K "read_on" Zk)(rY:DH K "read_box" UC)(rZ:DH K "read_key" QQ)(r9:DH K "read_set" JD)(gR:DH K "numbers_of_race" zZ)(j7:DH K "rows_of_form" Hh)(vf:DH K "has_all" tZ)(Am:DH K "demand" xG)(jd:DH K "number_within" xH)(pq:DH K "read_card" vF)(pA:DH K "check_day" T_)(lq:DH K "count_races" DT)(pB:DH K "read_race" y_)(pC:DH K "read_pool" Ct)(gS:DH K "read_pool_races" qp)(fA:DH K "check_names_differ" xJ)(RE:DH K "put" NX)(vg:DH K "ask_bet" LU)(gD:PySem.W.nsIn K mainGlobals "MOST_PAIRS"=some (some (.int 262144 Vj)))(gE:PySem.W.nsIn K mainGlobals "MOST_CENTS"=some (some (.int 281474976710655 Vk)))(iq:PySem.W.nsIn K mainGlobals "LETTERS"=some (some (.str "abcdefghijklmnopqrstuvwxyz" Zy)))(lU:PySem.W.nsIn K mainGlobals "DIGITS"=some (some (.str "0123456789" abx)))(lV:PySem.W.nsIn K mainGlobals "STRANGE"=some (some (.str "?" Zz)))(dq:PySem.W.nsIn K mainGlobals "MOST_NAME_BYTES"=some (some (.int 12 Mi)))(fK:PySem.W.nsIn K mainGlobals "MOST_DIGITS"=some (some (.int 7 Sv)))(gF:PySem.W.nsIn K mainGlobals "MOST_STAKE"=some (some (.int 1000000 Vl)))(fL:PySem.W.nsIn K mainGlobals "MOST_STAKED"=some (some (.int 2147483647 Sw)))(d8:PySem.W.nsIn K mainGlobals "MOST_NUMBERED"=some (some (.int 262144 Ot)))(fM:PySem.W.nsIn K mainGlobals "LEAST_WORDS"=some (some (.int 6 Sx)))(gG:PySem.W.nsIn K mainGlobals "MOST_RACES"=some (some (.int 16 Vm)))(gH:PySem.W.nsIn K mainGlobals "MOST_POOLS"=some (some (.int 64 Vn)))(d9:PySem.W.nsIn K mainGlobals "LEAST_RUNNERS"=some (some (.int 2 Ou)))(fh:PySem.W.nsIn K mainGlobals "MOST_RUNNERS"=some (some (.int 24 RF)))(fi:PySem.W.nsIn K mainGlobals "MOST_COUPLES"=some (some (.int 8 RG)))(iS:PySem.W.nsIn K mainGlobals "MOST_TAKE"=some (some (.int 400 Wg)))(gI:PySem.W.nsIn K mainGlobals "MOST_BREAK"=some (some (.int 1000 Vo)))(iT:PySem.W.nsIn K mainGlobals "MOST_UNIT"=some (some (.int 10000 Wh)))(fN:PySem.W.nsIn K mainGlobals "POOL_LENGTH"=some (some (.int 16 Sy)))(dr:PySem.W.nsIn K mainGlobals "MOST_CARD_BYTES"=some (some (.int 65536 Mj)))(dO:PySem.W.nsIn K mainGlobals "MOST_BET_BYTES"=some (some (.int 4096 N8)))(tG:PySem.W.nsIn K mainGlobals "all"=some none)(y4:PySem.W.nsIn K mainGlobals "dict"=some none)(gf:PySem.W.nsIn K mainGlobals "enumerate"=some none)(Gw:PySem.W.nsIn K mainGlobals "int"=some none)(cq:PySem.W.nsIn K mainGlobals "len"=some none)(qQ:PySem.W.nsIn K mainGlobals "ord"=some none)(iJ:PySem.W.nsIn K mainGlobals "range"=some none)(Cq:PySem.W.nsIn K mainGlobals "set"=some none)(iU:PySem.W.nsIn K mainGlobals "sorted"=some none)(Gx:PySem.W.nsIn K mainGlobals "sum"=some none)(tH:PySem.W.nsIn K mainGlobals "tuple"=some none)(y6:PySem.W.nsIn K mainGlobals "zip"=some none)(EJ:PySem.W.nsIn K mainGlobals "NoBet"=some (some (.ref RH)))(EK:PySem.W.excIn K RH [.type "ValueError",.type "Exception",.type "BaseException",.type "object"] "ValueError.__new__"=true)(RJ:PySem.W.nsIn K mainGlobals "Bet"=some (some (.ref uf)))(RK:PySem.W.findIn K (.ref uf) "__init__"=some (some (.ref RL)))(RM:K.lookup RL=some ⟨aeh,aei,.func (PySem.W.fnOf "__init__" "Bet.__init__" (fR lY) (ck lY) (ao lY) .none aej aek ael aem YT aen),aeo⟩)(RN:PySem.W.codeIn K YT "Bet.__init__"=true)(RO:PySem.W.keepIn K (.ref RL)=true)(RP:PySem.W.isFn K (.ref RL)=true)(RQ:PySem.W.plainGet K uf Str.empty=true)(RR:PySem.W.hasDictIn K uf=true)(RT:PySem.W.plainOver K uf=true)(RU:PySem.W.findIn K (.ref uf) "__setattr__"=some (some (.builtin "object.__setattr__")))(RV:PySem.W.makesIn K uf=true)(RW:PySem.W.keepIn K (.ref uf)=true)(qD:PySem.W.findIn K (.ref uf) "pool"=some none)(nE:PySem.W.findIn K (.ref uf) "stake"=some none)(qE:PySem.W.findIn K (.ref uf) "sets"=some none)(jw:PySem.W.findIn K (.ref uf) "numbers"=some none)(An:PySem.W.nsIn K mainGlobals "NoCard"=some (some (.ref Ml)))(Ao:PySem.W.excIn K Ml [.type "ValueError",.type "Exception",.type "BaseException",.type "object"] "ValueError.__new__"=true)(J0:PySem.W.nsIn K mainGlobals "Pool"=some (some (.ref j8)))(J1:PySem.W.findIn K (.ref j8) "__init__"=some (some (.ref J2)))(J3:K.lookup J2=some ⟨ab8,ab9,.func (PySem.W.fnOf "__init__" "Pool.__init__" (fR jy) (ck jy) (ao jy) .none ab_ acd ace acf Vp acg),ach⟩)(J4:PySem.W.codeIn K Vp "Pool.__init__"=true)(J5:PySem.W.keepIn K (.ref J2)=true)(J6:PySem.W.isFn K (.ref J2)=true)(J_:PySem.W.plainGet K j8 Str.empty=true)(Ka:PySem.W.hasDictIn K j8=true)(Kb:PySem.W.plainOver K j8=true)(Kc:PySem.W.findIn K (.ref j8) "__setattr__"=some (some (.builtin "object.__setattr__")))(Kd:PySem.W.makesIn K j8=true)(Ke:PySem.W.keepIn K (.ref j8)=true)(j9:PySem.W.findIn K (.ref j8) "name"=some none)(j_:PySem.W.findIn K (.ref j8) "kind"=some none)(ug:PySem.W.findIn K (.ref j8) "k"=some none)(iW:PySem.W.findIn K (.ref j8) "races"=some none)(nF:PySem.W.findIn K (.ref j8) "unit"=some none)(EL:PySem.W.nsIn K mainGlobals "Asked"=some (some (.ref je)))(ER:PySem.W.findIn K (.ref je) "__init__"=some (some (.ref xZ)))(EV:K.lookup xZ=some ⟨aby,abz,.func (PySem.W.fnOf "__init__" "Asked.__init__" (fR d4) (ck d4) (ao d4) (.ref Mm) abA abB abC abD RX abE),abF⟩)(EW:PySem.W.codeIn K RX "Asked.__init__"=true)(EX:PySem.W.keepIn K (.ref xZ)=true)(EY:K.lookup Mm=some {cls:=.type "tuple",data:=.seq #[.int 0 aci,.none] acj})(EZ:PySem.W.isFn K (.ref xZ)=true)(E1:PySem.W.plainGet K je Str.empty=true)(E2:PySem.W.hasDictIn K je=true)(E3:PySem.W.plainOver K je=true)(E4:PySem.W.findIn K (.ref je) "__setattr__"=some (some (.builtin "object.__setattr__")))(E5:PySem.W.makesIn K je=true)(E6:PySem.W.keepIn K (.ref je)=true)(gT:PySem.W.findIn K (.ref je) "refusal"=some none)(dJ:PySem.W.findIn K (.ref je) "combinations"=some none)(nG:PySem.W.findIn K (.ref je) "bet"=some none)(E7:PySem.W.nsIn K mainGlobals "MARKS"=some (some (.ref x3)))(E8:K.lookup x3=some {cls:=.type "dict",data:=.dict #[⟨RY,.int 32 abG,.str " " abH⟩,⟨RZ,.int 10 abI,.str "\n" abJ⟩,⟨R1,.int 44 abK,.str "," abL⟩,⟨R3,.int 47 abM,.str "/" abN⟩] acn})(E9:(x3==sysModules)=false)(Ap:RY=nY w (Sum.inl 32))(Aq:RZ=nY w (Sum.inl 10))(Ar:R1=nY w (Sum.inl 44))(As:R3=nY w (Sum.inl 47))(E_:PySem.W.nsIn K mainGlobals "KINDS"=some (some (.ref Fb)))(Fc:K.lookup Fb=some {cls:=.type "dict",data:=.dict #[⟨R4,.str "place" abO,.ref HD⟩,⟨R5,.str "order" abP,.ref HE⟩,⟨R6,.str "any" abQ,.ref HF⟩,⟨R7,.str "legs" abR,.ref HG⟩] aco})(Fd:(Fb==sysModules)=false)(Au:R4=nY w (Sum.inr (Str.ofString "place")))(Av:K.lookup HD=some {cls:=.type "tuple",data:=.seq #[.int 1 abS,.int 4 abT] abU})(Aw:R5=nY w (Sum.inr (Str.ofString "order")))(Ax:K.lookup HE=some {cls:=.type "tuple",data:=.seq #[.int 2 abV,.int 4 abW] abX})(Ay:R6=nY w (Sum.inr (Str.ofString "any")))(Az:K.lookup HF=some {cls:=.type "tuple",data:=.seq #[.int 2 abY,.int 3 abZ] ab0})(AA:R7=nY w (Sum.inr (Str.ofString "legs")))(AB:K.lookup HG=some {cls:=.type "tuple",data:=.seq #[.int 2 ab1,.int 6 ab2] ab3})(Fe:PySem.W.nsIn K mainGlobals "NONES"=some (some (.ref Mp)))(Ff:K.lookup Mp=some {cls:=.type "tuple",data:=.seq #[.str "refund" ab4,.str "carry" ab5,.str "fewer" ab6] acp})(nH:PySem.W.nsIn K mainGlobals "POOL_WORDS"=some (some (.ref nI)))(nJ:K.lookup nI=some {cls:=.type "dict",data:=.dict #[⟨Bk,.int 0 Sz,.str "pool" SA⟩,⟨Bl,.int 4 SD,.str "from" SE⟩,⟨Bm,.int 6 SF,.str "take" SG⟩,⟨Bn,.int 8 SH,.str "break" SJ⟩,⟨Bo,.int 10 SK,.str "least" SM⟩,⟨Bp,.int 12 SN,.str "unit" SQ⟩,⟨Bq,.int 14 SR,.str "none" SU⟩] Vq})(nM:(nI==sysModules)=false)(lu:Bk=nY w (Sum.inl 0))(lz:Bl=nY w (Sum.inl 4))(lB:Bm=nY w (Sum.inl 6))(lC:Bn=nY w (Sum.inl 8))(lD:Bo=nY w (Sum.inl 10))(lE:Bp=nY w (Sum.inl 12))(lF:Bq=nY w (Sum.inl 14)):
  ∃fd:FuncData,(∀s us,us.length=(["card","bet","money"]:List Str).length->BindsTo s fd ⟨us,[]⟩ ((["card","bet","money"]:List Str).zip us))/\∀base:Heap,K.In base->base.Ns mainGlobals mg->nZ P w K mg base eX 7 fa fd ["card","bet","money"] (Ri K):=by
 obtain⟨f0,fd0,a0,Wi⟩:=RE;have e:=hfa.symm.trans (bO X G a0);cases e;obtain⟨oc,od,kV,doc,pm,an,b9,ct,Im,rfl,lk,AK⟩:=Wi.ex;have Kf:Def K mg "is_right" D0 ["money","combinations"]:=rT.d X G λ_ _ _ _ _ _ us hl=>by obtain⟨_,_,rfl⟩:=mO hl;rfl
 have AF:Def K mg "sum_of_cents" D4 ["money"]:=j5.d X G λ_ _ _ _ _ _ us hl=>by obtain⟨_,rfl⟩:=n9 hl;rfl
 have HH:Def K mg "by_number" Ex ["money"]:=o_.d X G λ_ _ _ _ _ _ us hl=>by obtain⟨_,rfl⟩:=n9 hl;rfl
 have Kg:Def K mg "in_pairs" t6 ["cents"]:=rV.d X G λ_ _ _ _ _ _ us hl=>by obtain⟨_,rfl⟩:=n9 hl;rfl
 have Fg:Def K mg "with_stake" m9 ["money","numbers","stake"]:=ny.d X G λ_ _ _ _ _ _ us hl=>by obtain⟨_,_,_,rfl⟩:=IX hl;rfl
 have pD:Def K mg "count_combinations" DZ ["pool"]:=fz.d X G λ_ _ _ _ _ _ us hl=>by obtain⟨_,rfl⟩:=n9 hl;rfl
 have wg:Def K mg "count_choices" DX ["lists"]:=jb.d X G λ_ _ _ _ _ _ us hl=>by obtain⟨_,rfl⟩:=n9 hl;rfl
 have Fh:Def K mg "count_rows" DW ["interests","k"]:=nz.d X G λ_ _ _ _ _ _ us hl=>by obtain⟨_,_,rfl⟩:=mO hl;rfl
 have Fi:Def K mg "count_sets" DY ["interests","k"]:=nA.d X G λ_ _ _ _ _ _ us hl=>by obtain⟨_,_,rfl⟩:=mO hl;rfl
 have Br:Def K mg "leg_numbers" Hg ["sets","races"]:=lj.d X G λ_ _ _ _ _ _ us hl=>by obtain⟨_,_,rfl⟩:=mO hl;rfl
 have wj:Def K mg "numbered_rows" zT ["sets","interests"]:=jc.d X G λ_ _ _ _ _ _ us hl=>by obtain⟨_,_,rfl⟩:=mO hl;rfl
 have Fj:Def K mg "set_number" LK ["row","interests"]:=nB.d X G λ_ _ _ _ _ _ us hl=>by obtain⟨_,_,rfl⟩:=mO hl;rfl
 have N9:Def K mg "sign_of" K7 ["byte"]:=u6.d X G λ_ _ _ _ _ _ us hl=>by obtain⟨_,rfl⟩:=n9 hl;rfl
 have N_:Def K mg "text_of" Gy ["codes"]:=u9.d X G λ_ _ _ _ _ _ us hl=>by obtain⟨_,rfl⟩:=n9 hl;rfl
 have Kh:Def K mg "lines_of" y8 ["text"]:=rW.d X G λ_ _ _ _ _ _ us hl=>by obtain⟨_,rfl⟩:=n9 hl;rfl
 have Oa:Def K mg "is_name" Gz ["word"]:=u_.d X G λ_ _ _ _ _ _ us hl=>by obtain⟨_,rfl⟩:=n9 hl;rfl
 have HI:Def K mg "number_of" xE ["word"]:=ph.d X G λ_ _ _ _ _ _ us hl=>by obtain⟨_,rfl⟩:=n9 hl;rfl
 have Ob:Def K mg "require" tW ["holds"]:=vd.d X G λ_ _ _ _ _ _ us hl=>by obtain⟨_,rfl⟩:=n9 hl;rfl
 have Ki:Def K mg "read_bet" LN ["codes","pools"]:=rX.d X G λ_ _ _ _ _ _ us hl=>by obtain⟨_,_,rfl⟩:=mO hl;rfl
 have AG:Def K mg "check_staked" xS ["stake","combinations"]:=j6.d X G λ_ _ _ _ _ _ us hl=>by obtain⟨_,_,rfl⟩:=mO hl;rfl
 have Bs:Def K mg "pool_called" tX ["name","pools"]:=ll.d X G λ_ _ _ _ _ _ us hl=>by obtain⟨_,_,rfl⟩:=mO hl;rfl
 have Fl:Def K mg "read_stake" Eo ["word","unit"]:=nD.d X G λ_ _ _ _ _ _ us hl=>by obtain⟨_,_,rfl⟩:=mO hl;rfl
 have HJ:Def K mg "read_sets" LC ["words","pool"]:=pj.d X G λ_ _ _ _ _ _ us hl=>by obtain⟨_,_,rfl⟩:=mO hl;rfl
 have Oc:Def K mg "read_on" Zk ["words","pool"]:=ve.d X G λ_ _ _ _ _ _ us hl=>by obtain⟨_,_,rfl⟩:=mO hl;rfl
 have Kj:Def K mg "read_box" UC ["words","pool"]:=rY.d X G λ_ _ _ _ _ _ us hl=>by obtain⟨_,_,rfl⟩:=mO hl;rfl
 have Kk:Def K mg "read_key" QQ ["words","pool"]:=rZ.d X G λ_ _ _ _ _ _ us hl=>by obtain⟨_,_,rfl⟩:=mO hl;rfl
 have Kl:Def K mg "read_set" JD ["word","interests"]:=r9.d X G λ_ _ _ _ _ _ us hl=>by obtain⟨_,_,rfl⟩:=mO hl;rfl
 have uh:Def K mg "numbers_of_race" zZ ["form","sets","pool"]:=gR.d X G λ_ _ _ _ _ _ us hl=>by obtain⟨_,_,_,rfl⟩:=IX hl;rfl
 have AH:Def K mg "rows_of_form" Hh ["form","sets","k","interests"]:=j7.d X G λ_ _ _ _ _ _ us hl=>by obtain⟨_,_,_,_,rfl⟩:=T2 hl;rfl
 have Od:Def K mg "has_all" tZ ["row","places"]:=vf.d X G λ_ _ _ _ _ _ us hl=>by obtain⟨_,_,rfl⟩:=mO hl;rfl
 have R8:Def K mg "demand" xG ["holds"]:=Am.d X G λ_ _ _ _ _ _ us hl=>by obtain⟨_,rfl⟩:=n9 hl;rfl
 have wo:Def K mg "number_within" xH ["word","lowest","highest"]:=jd.d X G λ_ _ _ _ _ _ us hl=>by obtain⟨_,_,_,rfl⟩:=IX hl;rfl
 have HK:Def K mg "read_card" vF ["codes"]:=pq.d X G λ_ _ _ _ _ _ us hl=>by obtain⟨_,rfl⟩:=n9 hl;rfl
 have HL:Def K mg "check_day" T_ ["words"]:=pA.d X G λ_ _ _ _ _ _ us hl=>by obtain⟨_,rfl⟩:=n9 hl;rfl
 have Bt:Def K mg "count_races" DT ["lines"]:=lq.d X G λ_ _ _ _ _ _ us hl=>by obtain⟨_,rfl⟩:=n9 hl;rfl
 have HM:Def K mg "read_race" y_ ["words"]:=pB.d X G λ_ _ _ _ _ _ us hl=>by obtain⟨_,rfl⟩:=n9 hl;rfl
 have HN:Def K mg "read_pool" Ct ["words","races"]:=pC.d X G λ_ _ _ _ _ _ us hl=>by obtain⟨_,_,rfl⟩:=mO hl;rfl
 have ui:Def K mg "read_pool_races" qp ["word","kind","k","races"]:=gS.d X G λ_ _ _ _ _ _ us hl=>by obtain⟨_,_,_,_,rfl⟩:=T2 hl;rfl
 have pE:Def K mg "check_names_differ" xJ ["pools"]:=fA.d X G λ_ _ _ _ _ _ us hl=>by obtain⟨_,rfl⟩:=n9 hl;rfl
 have Oe:Def K mg "ask_bet" LU ["card","bet","money"]:=vg.d X G λ_ _ _ _ _ _ us hl=>by obtain⟨_,_,_,rfl⟩:=IX hl;rfl
 have T:Tx mg:=⟨⟨_,bO X G gD⟩,⟨_,bO X G gE⟩,⟨_,bO X G iq⟩,⟨_,bO X G lU⟩,⟨_,bO X G lV⟩,⟨_,bO X G dq⟩,⟨_,bO X G fK⟩,⟨_,bO X G gF⟩,⟨_,bO X G fL⟩,⟨_,bO X G d8⟩,⟨_,bO X G fM⟩,⟨_,bO X G gG⟩,⟨_,bO X G gH⟩,⟨_,bO X G d9⟩,⟨_,bO X G fh⟩,⟨_,bO X G fi⟩,⟨_,bO X G iS⟩,⟨_,bO X G gI⟩,⟨_,bO X G iT⟩,⟨_,bO X G fN⟩,⟨_,bO X G dr⟩,⟨_,bO X G dO⟩,iY X G tG,iY X G y4,iY X G gf,iY X G Gw,iY X G cq,iY X G qQ,iY X G iJ,iY X G Cq,iY X G iU,iY X G Gx,iY X G tH,iY X G y6⟩;have V5:Nb K mg RH:=⟨bO X G EJ,EK⟩;have Wj:=IE (st:=lY) RM RN RO;have ab7:=Wj.binds (ps:=["self","pool","stake","sets","numbers"]) λ_ _ _ _ _ _ us hl=>by obtain⟨_,_,_,_,_,rfl⟩:=aaB hl;rfl
 have Wk:FH K uf:=⟨RQ,RR,RT,RU⟩;have NCF:Nc K mg Ml:=⟨bO X G An,Ao⟩;have R9:=IE (st:=jy) J3 J4 J5;have YV:=R9.binds (ps:=["self","name","kind","k","races","unit"]) λ_ _ _ _ _ _ us hl=>by obtain⟨_,_,_,_,_,_,rfl⟩:=adK hl;rfl
 have Fm:FH K j8:=⟨J_,Ka,Kb,Kc⟩;have Vr:TX K "__init__" "Asked.__init__" d4 (.ref Mm) xZ _:=⟨⟨_,_,_,_,_,_,_,_,_,rfl,EV,EW⟩,EX⟩;have Mq:FH K je:=⟨E1,E2,E3,E4⟩;have TG:Tg P w K mg:=by
  refine⟨⟨Fb,HD,HE,HF,HG,bO X G E_,?_,λH=>Vd Av,λH=>Vd Ax,λH=>Vd Az,λH=>Vd AB⟩,⟨nI,bO X G nH,?_⟩,⟨Mp,bO X G Fe,λH=>?_⟩⟩
  .rw[<-D8,<-Lf,<-abw,<-zf];exact Rz Fc Fd (.cons (Mh _ _) Au rfl (.cons (Mh _ _) Aw rfl (.cons (Mh _ _) Ay rfl (.cons (Mh _ _) AA rfl .nil)))) RA
  .rw[<-YM,<-YN,<-YQ,<-Ve,<-Vf,<-YR,<-YS];exact Rz nJ nM (.cons (o9 _ _) lu ⟨_,rfl⟩ (.cons (o9 _ _) lz ⟨_,rfl⟩ (.cons (o9 _ _) lB ⟨_,rfl⟩ (.cons (o9 _ _) lC ⟨_,rfl⟩ (.cons (o9 _ _) lD ⟨_,rfl⟩ (.cons (o9 _ _) lE ⟨_,rfl⟩ (.cons (o9 _ _) lF ⟨_,rfl⟩ .nil))))))) RB
  .rw[<-RD,<-Vg,<-Vh];exact .inr ⟨_,_,_,Ff,rfl,rfl,by have:=bE;show 3<=_;omega,.cons ⟨_,rfl⟩ (.cons ⟨_,rfl⟩ (.cons ⟨_,rfl⟩ .nil))⟩
 have TM:∃dm,mg "MARKS"=some (.ref dm)/\KD P w K dm (MK.map λp=>((Sum.inl p.1:Key),V.str (S p.2))):=by
  refine⟨x3,bO X G E7,?_⟩;show KD P w K x3 [(Sum.inl 32,V.str (S [32])),(Sum.inl 10,V.str (S [10])),(Sum.inl 44,V.str (S [44])),(Sum.inl 47,V.str (S [47]))];rw[<-abr,<-abt,<-abu,<-abv];exact Rz E8 E9 (.cons (o9 _ _) Ap ⟨_,rfl⟩ (.cons (o9 _ _) Aq ⟨_,rfl⟩ (.cons (o9 _ _) Ar ⟨_,rfl⟩ (.cons (o9 _ _) As ⟨_,rfl⟩ .nil)))) RC
 refine⟨PySem.W.fnOf "put" "put" (fR NX) (ck NX) (ao NX) .none kV doc pm an b9 ct,λs us hu=>by obtain⟨_,_,_,rfl⟩:=IX hu;exact .of_eq rfl,λbase _ _=>?_⟩;have Og:=T6 (P:=P) (w:=w) (base:=base) N9 T TM;have jz:=T8 N_ Og;have iu:=P5 (P:=P) (w:=w) (base:=base) Kh;have qt:=T9 (P:=P) (w:=w) (base:=base) Oa T;have ft:=M9 (P:=P) (w:=w) (base:=base) HI T;have a_:=M_ (P:=P) (w:=w) (base:=base) R8 NCF;have aV:=Nf wo ft a_;have oK:=XU HL T qt a_;have kW:=P9 (P:=P) (w:=w) (base:=base) Bt;have oM:=Ua HM T aV a_;have gK:=GI ui T aV a_;have jZ:CL P w K mg base "Bet" uf ["self","pool","stake","sets","numbers"] (jA uf) ["pool","stake","sets","numbers"]:=⟨⟨_,_,⟨RV,RK,RP,RW⟩,JL Wj Wk qD nE qE jw,ab7⟩,bO X G RJ,Wk,by
  intro f hf;simp only[mem_cons,not_mem_nil,or_false]at hf;obtain rfl|rfl|rfl|rfl:=hf
  .exact qD
  .exact nE
  .exact qE
  .exact jw⟩
 have aS:CL P w K mg base "Pool" j8 ["self","name","kind","k","races","unit"] (dD j8) ["name","kind","k","races","unit"]:=⟨⟨_,_,⟨Kd,J1,J6,Ke⟩,GJ R9 Fm j9 j_ ug iW nF,YV⟩,bO X G J0,Fm,by
  intro f hf;simp only[mem_cons,not_mem_nil,or_false]at hf;obtain rfl|rfl|rfl|rfl|rfl:=hf
  .exact j9
  .exact j_
  .exact ug
  .exact iW
  .exact nF⟩
 have cx:CLA P w K mg base je:=⟨⟨_,_,⟨E5,ER,EZ,E6⟩,D9 Vr Mq gT dJ nG,GP EY⟩,bO X G EL,Mq,by
  intro f hf;simp only[mem_cons,not_mem_nil,or_false]at hf;obtain rfl|rfl|rfl:=hf
  .exact gT
  .exact dJ
  .exact nG⟩
 have oN:=Uc HN T TG qt aV a_ gK aS;have fj:=Ng pE Fm j9 a_;have oZ:=Ue HK T jz iu a_ oK kW oM oN fj;have dZ:=Qk (P:=P) (w:=w) (base:=base) Fh T;have dg:=Ql (P:=P) (w:=w) (base:=base) wg T;have fD:=Qm Fi dZ;have jT:=Qn (P:=P) (w:=w) (base:=base) AF T;have iy:=Qo Kf T jT;have fw:=Qq pD Fm j_ ug iW T dZ fD dg;have oY:=Rg (P:=P) (w:=w) (base:=base) HH T;have rP:=JM (P:=P) (w:=w) (base:=base) Kg T;have aK:=JC (P:=P) (w:=w) (base:=base) Ob V5;have gN:=NA AG T aK;have m8:=QP Fl T ft aK;have kZ:=ND Bs T aS aK;have dE:=Yh Kl T ft aK;have rM:=Yi Kj T aS dE aK;have rN:=Yk Kk T aS dE aK;have uO:=aa2 Oc T aS dE aK;have oW:=UH HJ T aS uO rM rN aK;have d_:=QX (P:=P) (w:=w) (base:=base) wj T;have k9:=UI (P:=P) (w:=w) (base:=base) Br T;have m6:=UJ Fj T fD;have uR:=NP (P:=P) (w:=w) (base:=base) Od T;have jY:=UK AH T d_ uR;have gO:=UM uh T aS jY m6;have rQ:=UQ Ki T jz iu aK kZ m8 oW dg gN k9 gO aS jZ;have uT:=UW Oe T NCF V5 cx jZ oZ rQ iy fw;have m_:=Ey Fg T oY rP;exact Yx Wi T cx jZ uT m_ iy
end Pd
end
structure PySem.W.Fast:Prop where(tw10097895513425079713 tw100999872718554238 tw10111649135753524302 tw10180446530391779459 tw10253611020613904134 tw10264499752361835935 tw1032633317009434542 tw10337834998132794214 tw10353993415450469585 tw10357635450595743445 tw10374354373975613506195821702257572469 tw1037944477888805188 tw1037956557698907347 tw1045092463022280378 tw10458853166822990430 tw10483191109650673862 tw10509142204313167699 tw10514549460705591715 tw10601128421776349277 tw10702168902814534674 tw10736078957511166956 tw10791458233473545679 tw10802479891288994274 tw10828714649582800439 tw10843413279180743080 tw10951034432948129867 tw11021308271148583926 tw11074012059130528695 tw11089500117947049856 tw11184210632074875133 tw11379280115162744888 tw11389495581088624315 tw11455169310594444394 tw11466324914303788404 tw11490522457013408627 tw11580063750234385108 tw11595665183061497393 tw11662442861837712361 tw11688231120301498919 tw11693456620271940609 tw11697419205759614854 tw11782274599173710868 tw11790936798611251156 tw11881767676603769763 tw11991452785066982162 tw120481612428227442 tw12054541522367383296 tw12200905776583143057 tw12250812750367247010 tw12252170824764867506 tw12254775799784656020 tw12333556534427858367 tw12431636086164940000 tw12433161306042480232 tw1245762256655227667 tw12464383310807375551 tw12502880226344838095 tw12504163903457734867 tw1253343026690024331 tw12572576478357955286 tw12595532624433395554 tw12603795791766726369 tw12624680156298690269 tw12635325069062860404 tw12640165506411548601 tw12651908880798471363 tw12658397328207298746 tw12716257065516712326 tw12908216358131809001 tw12909833862518159054 tw12988202034929903161 tw13035915649534475729 tw13044099917644639982 tw13083972234408631145 tw13093244451931108791 tw13216349840717853978 tw13247025443975566818 tw1339485064538966298 tw13412727909661303244 tw13497344558925772751 tw13528875302896339238 tw13609847027658178452 tw13680509138732631098 tw13736150313839088980 tw13749932909643217570 tw13760044692367010741 tw13793371050452485623 tw13793979843230344178 tw13854223019742250578 tw13971382167717570948 tw13997624525458351042 tw14049862015429897892 tw14068315678517823288 tw14208109258971260409 tw14220928146390413061 tw14285703739613187128 tw14396337708494674291 tw14399004758666085635 tw14465347005253237348 tw14538005653194350830 tw14560367623938678655 tw14623051329707964451 tw14698101249847565779 tw14978318365720467739 tw15051591245615675265 tw15076151350790047588 tw1509584731555215718 tw15101581030360364319 tw15125594255623519487 tw15240164540641448806 tw15273801197545993986 tw15406027247208618994 tw15474189120280495627 tw15518025956881185076 tw15539384589223666319 tw15559243844184745113 tw15641107629510289648 tw1571200359627198529 tw15943418424117626444 tw16048296758512242508 tw1605566842033749119 tw16083219195697279054 tw16104546839271454268 tw16119597476271000906 tw16143276291865625686 tw16147494889995334586 tw16162587423441838844 tw16257480990681295353 tw16259801002356912558 tw16376861313572800547 tw16419791668911132344 tw16432889001290755684 tw16511579576187164556 tw16521366142620425663 tw16571854472708034248 tw16606678281938615246 tw16660677104711499976 tw16696088885619751990 tw16734404992276834699 tw16805359314887398218 tw16829534911716170226 tw16838171530820077913 tw16960095340812774083 tw16962822750261201934 tw1703211824860117930 tw17081554344279968260 tw17183218315293981429 tw171862585623321870 tw17205039108802335769 tw17219280078152599742 tw17228180697631474916 tw17270981068855947952 tw17328122873371392538 tw174212087432382297 tw17436251560883554056 tw17461313628442956773 tw17498610394511583806 tw17510854051402942474 tw17552856870844624480 tw17575542712809153352 tw17598691142652704981 tw17600499187642986897 tw17624241918929998142 tw17687640937297455559 tw17698016089437351647 tw17708367641516957835 tw1777164511556651707 tw17790882404458974350 tw1780021980822909827 tw17818614403299721058 tw17834533522330397075 tw1785723393251586214 tw17958744111043323386 tw17973197334701451297 tw17982903514363987231 tw18018892309256253428 tw18069500522337826967 tw18072648055524174953 tw18087388190189266745 tw18106472934390755357 tw18107424356875606210 tw18168324107481617637 tw18188973075657675672 tw18215877576020531929 tw18259829840241453385 tw18284717924980086935 tw18312920553278727175 tw18315017178383987097 tw18430272429303743165 tw1861839932600304363 tw1867895275305173052 tw1879866493050445460 tw1900330854041037357 tw2029926802489889099 tw205958260613853458 tw2117678221710822135 tw2233360109397268646 tw2259084401745332504 tw2272992090982208090 tw2294239312694561525 tw2330726981314830218 tw2358795370039605120 tw2484785427537121387 tw2552957401583507918 tw2587257608244070577 tw2610748045240759996 tw2713470131504205315 tw2754952312317914911 tw2785328772036519658 tw2787761979808365636 tw2812322295507582036 tw2929336026851106010 tw2953040499501055528 tw3012362265935142778 tw3051818591424220951 tw3119725733659511511 tw3147407564412792572 tw3293336001512495834 tw3365131799086390100 tw3370941185057465448 tw3386212179018398986 tw3401063604015793765 tw3468123107584961506 tw3613520615500012128 tw3628699865626562189 tw3642210004246964779 tw3675727693194047322 tw3706028130957643047 tw371219614591151139 tw3713483794835865098 tw3774580759308229327 tw3883501422807698631 tw3949384894928112400 tw4139226884408408720 tw4252864453841109263 tw4403740854237350030 tw4403756735910826367 tw4408476386993332439 tw4443804904403359594 tw4540678564788050784 tw4577510531278686435 tw4581715891531272033 tw461504585154527107 tw4618094824791251637 tw4624294656476022000 tw4666493719314842972 tw4687349314765412850 tw4737260807480697341 tw4819300005225230296 tw4937131620104726085 tw4974000788817284582 tw5016516599712276255 tw502492194158932254 tw5038342102412150317 tw5086258932534009167 tw5141272932136296858 tw5190431386266283883 tw5237779130357102376 tw5243773468154562093 tw5456135107907228889 tw5482855104835292440 tw5538487556880455140 tw5550722105855375073 tw5558991799671619435 tw5579357648615072911 tw5768766116957944352 tw5829166141213465370 tw5841908341482595115 tw5842691500851509084 tw5952226743004633144 tw6105339346630193815 tw6246013109540130877 tw6327521938212836321 tw6368991365076275045 tw6619348490057283316 tw6760051904332657102 tw6817726510437393301 tw6893063799306463195 tw6914543020050718142 tw6931814245928739006 tw7070351166040342537 tw7074695740917314251 tw7078713214711416136 tw7097478449400789894 tw7099230856154432896 tw7108050171545710928 tw7143986485096325763 tw7253959890445964687 tw7282582746504499295 tw7384558777897386196 tw7421476442387219113 tw7446560028953570379 tw7515683252634894770 tw7574877921225422262 tw759419597956652856 tw7630783051077463684 tw7661450003421350977 tw7693066128714259995 tw7730629622626717276 tw7762966296243427386 tw784219700312153364 tw786063171846817590 tw7921070743880588467 tw8002404452593763689 tw8030996921283949429 tw8043697410064806029 tw8048696285131134628 tw8064488381468700375 tw8110268238023156700 tw8118023773486131130 tw8197532134277510690 tw8212738373179479738 tw8218054670429202378 tw8320975384315541531 tw8344805286540726161 tw8353998185040183315 tw8443088244118363367 tw8497366668134338397 tw853152076083826940 tw874394264770122295 tw876097334463038528 tw8825747949866359023 tw8939314946513392541 tw896041563558826787 tw8976882734028055707 tw9040516676002792569 tw9048822310812031504 tw9049424449101959481 tw9189620096077226452 tw9204719426293779540 tw9280333053193505230 tw936487006329025114 tw943082158196628271 tw9447885054817465182 tw9509561067719475507 tw9638827889655231307 tw9713406060605761885 tw9720848730139226139 tw9752997660707736642 tw9782562379994430875 tw9810256998897505931 tw9816792664077323759 tw9862250704783260142 tw9892606377539020186 tw9944852280839944514 tw9969875570227264942:True)
open PySem PySem.W PyProof.Rows
set_option maxRecDepth 100000 in
set_option maxHeartbeats 0 in
theorem PySem.Challenge.cw_poolday_s04_put_holds : PySem.Challenge.rw_poolday_s04_put.Holds := by
 w_on;k_headS;(case hw=>exact⟨[.list [],.list [],.list []],by decide+kernel,by decide+kernel⟩)
 k_fillS
 refine L2.IC (r:=PySem.Challenge.rw_poolday_s04_put) (k:=7) (CX:=L2.eX) (ps:= ["card","bet","money"]) (sp:=Pd.Ri) (by decide+kernel) rfl rfl ⟨rfl,by decide,by decide⟩ (fun w h Y=>PySem.W.kIn_of Y) ?F ?S (fun _ _ _ _ z=>z)
 case F=>
  intro w mg fa h Y KX G hmg;refine' Pd.all_mk KX G hmg ?rT ?j5 ?o_ ?rV ?ny ?fz ?jb ?nz ?nA ?lj ?jc ?nB ?u6 ?u9 ?rW ?u_ ?ph ?vd ?rX ?j6 ?ll ?nD ?pj ?ve ?rY ?rZ ?r9 ?gR ?j7 ?vf ?Am ?jd ?pq ?pA ?lq ?pB ?pC ?gS ?fA ?RE ?vg ?gD ?gE ?iq ?lU ?lV ?dq ?fK ?gF ?fL ?d8 ?fM ?gG ?gH ?d9 ?fh ?fi ?iS ?gI ?iT ?fN ?dr ?dO ?tG ?y4 ?gf ?Gw ?cq ?qQ ?iJ ?Cq ?iU ?Gx ?tH ?y6 ?EJ ?EK ?RJ ?RK ?RM ?RN ?RO ?RP ?RQ ?RR ?RT ?RU ?RV ?RW ?qD ?nE ?qE ?jw ?An ?Ao ?J0 ?J1 ?J3 ?J4 ?J5 ?J6 ?J_ ?Ka ?Kb ?Kc ?Kd ?Ke ?j9 ?j_ ?ug ?iW ?nF ?EL ?ER ?EV ?EW ?EX ?EY ?EZ ?E1 ?E2 ?E3 ?E4 ?E5 ?E6 ?gT ?dJ ?nG ?E7 ?E8 ?E9 ?Ap ?Aq ?Ar ?As ?E_ ?Fc ?Fd ?Au ?Av ?Aw ?Ax ?Ay ?Az ?AA ?AB ?Fe ?Ff ?nH ?nJ ?nM ?lu ?lz ?lB ?lC ?lD ?lE ?lF
  (case rT=>apply L2.dh<;>k_is)
  (case j5=>apply L2.dh<;>k_is)
  (case o_=>apply L2.dh<;>k_is)
  (case rV=>apply L2.dh<;>k_is)
  (case ny=>apply L2.dh<;>k_is)
  (case fz=>apply L2.dh<;>k_is)
  (case jb=>apply L2.dh<;>k_is)
  (case nz=>apply L2.dh<;>k_is)
  (case nA=>apply L2.dh<;>k_is)
  (case lj=>apply L2.dh<;>k_is)
  (case jc=>apply L2.dh<;>k_is)
  (case nB=>apply L2.dh<;>k_is)
  (case u6=>apply L2.dh<;>k_is)
  (case u9=>apply L2.dh<;>k_is)
  (case rW=>apply L2.dh<;>k_is)
  (case u_=>apply L2.dh<;>k_is)
  (case ph=>apply L2.dh<;>k_is)
  (case vd=>apply L2.dh<;>k_is)
  (case rX=>apply L2.dh<;>k_is)
  (case j6=>apply L2.dh<;>k_is)
  (case ll=>apply L2.dh<;>k_is)
  (case nD=>apply L2.dh<;>k_is)
  (case pj=>apply L2.dh<;>k_is)
  (case ve=>apply L2.dh<;>k_is)
  (case rY=>apply L2.dh<;>k_is)
  (case rZ=>apply L2.dh<;>k_is)
  (case r9=>apply L2.dh<;>k_is)
  (case gR=>apply L2.dh<;>k_is)
  (case j7=>apply L2.dh<;>k_is)
  (case vf=>apply L2.dh<;>k_is)
  (case Am=>apply L2.dh<;>k_is)
  (case jd=>apply L2.dh<;>k_is)
  (case pq=>apply L2.dh<;>k_is)
  (case pA=>apply L2.dh<;>k_is)
  (case lq=>apply L2.dh<;>k_is)
  (case pB=>apply L2.dh<;>k_is)
  (case pC=>apply L2.dh<;>k_is)
  (case gS=>apply L2.dh<;>k_is)
  (case fA=>apply L2.dh<;>k_is)
  (case RE=>apply L2.dh<;>k_is)
  (case vg=>apply L2.dh<;>k_is)
  (case gD=>k_is)
  (case gE=>k_is)
  (case iq=>k_is)
  (case lU=>k_is)
  (case lV=>k_is)
  (case dq=>k_is)
  (case fK=>k_is)
  (case gF=>k_is)
  (case fL=>k_is)
  (case d8=>k_is)
  (case fM=>k_is)
  (case gG=>k_is)
  (case gH=>k_is)
  (case d9=>k_is)
  (case fh=>k_is)
  (case fi=>k_is)
  (case iS=>k_is)
  (case gI=>k_is)
  (case iT=>k_is)
  (case fN=>k_is)
  (case dr=>k_is)
  (case dO=>k_is)
  (case tG=>k_is)
  (case y4=>k_is)
  (case gf=>k_is)
  (case Gw=>k_is)
  (case cq=>k_is)
  (case qQ=>k_is)
  (case iJ=>k_is)
  (case Cq=>k_is)
  (case iU=>k_is)
  (case Gx=>k_is)
  (case tH=>k_is)
  (case y6=>k_is)
  (case EJ=>k_is)
  (case EK=>k_exc)
  (case RJ=>k_is)
  (case RK=>k_is)
  (case RM=>k_is)
  (case RN=>k_is)
  (case RO=>k_is)
  (case RP=>k_is)
  (case RQ=>k_is)
  (case RR=>k_is)
  (case RT=>k_is)
  (case RU=>k_is)
  (case RV=>k_is)
  (case RW=>k_is)
  (case qD=>k_is)
  (case nE=>k_is)
  (case qE=>k_is)
  (case jw=>k_is)
  (case An=>k_is)
  (case Ao=>k_exc)
  (case J0=>k_is)
  (case J1=>k_is)
  (case J3=>k_is)
  (case J4=>k_is)
  (case J5=>k_is)
  (case J6=>k_is)
  (case J_=>k_is)
  (case Ka=>k_is)
  (case Kb=>k_is)
  (case Kc=>k_is)
  (case Kd=>k_is)
  (case Ke=>k_is)
  (case j9=>k_is)
  (case j_=>k_is)
  (case ug=>k_is)
  (case iW=>k_is)
  (case nF=>k_is)
  (case EL=>k_is)
  (case ER=>k_is)
  (case EV=>k_is)
  (case EW=>k_is)
  (case EX=>k_is)
  (case EY=>k_is)
  (case EZ=>k_is)
  (case E1=>k_is)
  (case E2=>k_is)
  (case E3=>k_is)
  (case E4=>k_is)
  (case E5=>k_is)
  (case E6=>k_is)
  (case gT=>k_is)
  (case dJ=>k_is)
  (case nG=>k_is)
  (case E7=>k_is)
  (case E8=>k_is)
  (case E9=>rfl)
  (case Ap=>rfl)
  (case Aq=>rfl)
  (case Ar=>rfl)
  (case As=>rfl)
  (case E_=>k_is)
  (case Fc=>k_is)
  (case Fd=>rfl)
  (case Au=>rfl)
  (case Av=>k_is)
  (case Aw=>rfl)
  (case Ax=>k_is)
  (case Ay=>rfl)
  (case Az=>k_is)
  (case AA=>rfl)
  (case AB=>k_is)
  (case Fe=>k_is)
  (case Ff=>k_is)
  (case nH=>k_is)
  (case nJ=>k_is)
  (case nM=>rfl)
  (case lu=>rfl)
  (case lz=>rfl)
  (case lB=>rfl)
  (case lC=>rfl)
  (case lD=>rfl)
  (case lE=>rfl)
  (case lF=>rfl)
 case S=>
  intro K H xs a hO hwi aep hx;obtain⟨card,bet,money,u⟩:=a;cases hx with
  |cons h1 hx=>
  cases hx with
  |cons h2 hx=>
  cases hx with
  |cons h3 hx=>
  cases hx;cases h1 with
  |lst s1 d1=>
  cases h2 with
  |lst s2 d2=>
  cases h3 with
  |lst s3 d3=>
  have e1:=L2.xq card _ d1;subst e1;have e2:=L2.xq bet _ d2;subst e2;have e3:=L2.xq money _ d3;subst e3;have hw:((Codec.inLen 0 66000 card&&card.all (Codec.inInt 0 255))&&((Codec.inLen 0 4200 bet&&bet.all (Codec.inInt 0 255))&&((Codec.inLen 0 16000 money&&money.all (Codec.inInt 0 18446744073709551615))&&true)))=true:=hwi;simp only[Bool.and_eq_true,all_eq_true,Codec.inInt_iff,Codec.inNat_iff]at hw;have hev:money.length%2=0:=Pd.Vi (card:=card) (bet:=bet) aep;refine⟨_,_,_,card,bet,money,rfl,s1,hw.1.2,(Codec.inNat_iff.mp hw.1.1).2,s2,hw.2.1.2,(Codec.inNat_iff.mp hw.2.1.1).2,s3,(Codec.inNat_iff.mp hw.2.2.1.1).2,hev,fun ans H' p ha hp=>?_⟩;show L2.Dw K H' (.ref p) (.list ((PyWqaqcm.put card bet money).map WData.int));rw[Pd.YL hw.1.2 hw.2.1.2 (fun x hx=>(hw.2.2.1.2 x hx).1) hev ha];exact .lst (L2.aM.of hp) (L2.KN _)
