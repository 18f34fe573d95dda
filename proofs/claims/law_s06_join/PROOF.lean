import PyProof.Rows.All
import Wide.All
import OpenK.AllK
import Wide.FinOn
import PyProof.EqAt
import PyProof.EqKinds
import PyProof.TupleCall
import KE.BitLaws
import Open.SpecLaws
import KE.OsHead
import KE.OsGo
import KE.KDictSum
import PyProof.Rows.SortShellAny
import PySem.Challenge.RW_poolday_s06_join
set_option genSizeOf false
set_option Elab.async false
set_option linter.all false
set_option maxRecDepth 100000
namespace L2
open PySem PySem.Spec PyProof.Rows
noncomputable abbrev Key := Sum Int Str
noncomputable def keyIs : Key → Value → Bool
  | .inl k, v => Value.isInt k v
  | .inr x, v => Value.isStrOf x v
noncomputable def keyH (w : World) : Key → Int
  | .inl k => hashInt k
  | .inr x => hashStr w x
theorem keyIs_shape : ∀ {k : Key} {v : Value}, keyIs k v = true → (∃ i t, k = Sum.inl i ∧ v = Value.int i t) ∨ (∃ x t, k = Sum.inr x ∧ v = Value.str x t)
  | .inl i, v, h => by
    obtain ⟨t, e⟩ := Value.isInt_shape (k := i) (v := v) h
    exact .inl ⟨i, t, rfl, e⟩
  | .inr x, v, h => by
    obtain ⟨t, e⟩ := Value.isStrOf_shape (x := x) (v := v) h
    exact .inr ⟨x, t, rfl, e⟩
theorem keyIs_int (i : Int) (t : Tok) : keyIs (.inl i) (.int i t) = true := by simp [keyIs, Value.isInt]
theorem keyIs_str (x : Str) (t : Tok) : keyIs (.inr x) (.str x t) = true := by simp [keyIs, Value.isStrOf]
theorem key_ll (a b : Int) : decide ((Sum.inl a : Key) = Sum.inl b) = (a == b) := by
  by_cases e : a = b
  · subst e; simp
  · have h : ¬ (Sum.inl a : Key) = Sum.inl b := fun q => e (Sum.inl.inj q)
    rw [decide_eq_false h]
    exact (beq_eq_false_iff_ne.mpr e).symm
theorem key_rr (a b : Str) : decide ((Sum.inr a : Key) = Sum.inr b) = decide (a = b) := by
  by_cases e : a = b
  · subst e; simp
  · have h : ¬ (Sum.inr a : Key) = Sum.inr b := fun q => e (Sum.inr.inj q)
    rw [decide_eq_false h, decide_eq_false e]
theorem key_lr (a : Int) (b : Str) : decide ((Sum.inl a : Key) = Sum.inr b) = false := decide_eq_false (fun q => nomatch q)
theorem key_rl (a : Str) (b : Int) : decide ((Sum.inr a : Key) = Sum.inl b) = false := decide_eq_false (fun q => nomatch q)
noncomputable def mixKind (prog : Program) (w : World) : PySem.KeyKind prog w Key where
  is := keyIs
  hash := keyH w
  inj := fun v a b ha hb => by
    rcases keyIs_shape ha with ⟨i, t, rfl, rfl⟩ | ⟨x, t, rfl, rfl⟩
    · rcases keyIs_shape hb with ⟨j, u, rfl, e⟩ | ⟨y, u, rfl, e⟩
      · injection e with e1 _; rw [e1]
      · exact nomatch e
    · rcases keyIs_shape hb with ⟨j, u, rfl, e⟩ | ⟨y, u, rfl, e⟩
      · exact nomatch e
      · injection e with e1 _; rw [e1]
  byValue := fun k v h => by
    rcases keyIs_shape h with ⟨i, t, rfl, rfl⟩ | ⟨x, t, rfl, rfl⟩ <;> rfl
  pyHash := fun hv h => by
    rcases keyIs_shape hv with ⟨i, t, rfl, rfl⟩ | ⟨x, t, rfl, rfl⟩
    · exact wpAny_pyHash_int h
    · exact wpAny_pyHash_str h
  eqBool := fun hu hv h => by
    rcases keyIs_shape hu with ⟨i, t, rfl, rfl⟩ | ⟨x, t, rfl, rfl⟩
    · rcases keyIs_shape hv with ⟨j, u, rfl, rfl⟩ | ⟨y, u, rfl, rfl⟩
      · rw [key_ll] at h; exact wpAny_eqBool_int h
      · rw [key_lr] at h; exact SeqAt.EqAt.int_str i t y u _ _ _ _ h
    · rcases keyIs_shape hv with ⟨j, u, rfl, rfl⟩ | ⟨y, u, rfl, rfl⟩
      · rw [key_rl] at h; exact SeqAt.EqAt.str_int x t j u _ _ _ _ h
      · rw [key_rr] at h; exact wpAny_eqBool_str h
  «strs» := fun k x t v h => by
    rcases keyIs_shape h with ⟨i, u, rfl, e⟩ | ⟨y, u, rfl, e⟩
    · exact nomatch e
    · injection e with e1 _
      subst e1
      cases v <;> rfl
theorem mixKind_int (prog : Program) (w : World) (i : Int) (t : Tok) : (mixKind prog w).is (.inl i) (.int i t) = true := keyIs_int i t
theorem mixKind_str (prog : Program) (w : World) (x : Str) (t : Tok) : (mixKind prog w).is (.inr x) (.str x t) = true := keyIs_str x t
end L2
namespace L2
open PySem PySem.Spec PyProof.Rows
inductive V where
  | non | bl (b : Bool) | int (i : Int) | str (x : Str) | byt (b : Array UInt8) | flt (b : UInt64) | ref (a : Addr) | ty (n : String)
  deriving DecidableEq
noncomputable def RelV : V → Value → Prop
  | .non, u => u = Value.none
  | .bl b, u => u = Value.bool b
  | .int i, u => ∃ t, u = Value.int i t
  | .str x, u => ∃ t, u = Value.str x t
  | .byt b, u => ∃ t, u = Value.bytes b t
  | .flt b, u => ∃ t, u = Value.float b t
  | .ref a, u => u = Value.ref a
  | .ty n, u => u = Value.type n
noncomputable abbrev Vals : List V → List Value → Prop := Paired RelV
theorem Vals.length {xs : List V} {us : List Value} (r : Vals xs us) : xs.length = us.length := Paired.length r
theorem Vals.get : ∀ {xs : List V} {us : List Value} {i : Nat} {x : V}, Vals xs us → xs[i]? = some x → ∃ u, us[i]? = some u ∧ RelV x u
  | _, _, _, _, .nil, e => by simp at e
  | _, _, 0, _, .cons r _, e => by simp at e; subst e; exact ⟨_, rfl, r⟩
  | _, _, i + 1, x, .cons _ t, e => by
    obtain ⟨u, h1, h2⟩ := Vals.get (i := i) (x := x) t (by simpa using e)
    exact ⟨u, by simpa using h1, h2⟩
theorem Vals.append : ∀ {xs ys : List V} {us ws : List Value}, Vals xs us → Vals ys ws → Vals (xs ++ ys) (us ++ ws)
  | _, _, _, _, .nil, s => s
  | _, _, _, _, .cons r t, s => .cons r (Vals.append t s)
theorem Vals.take : ∀ {xs : List V} {us : List Value} (n : Nat), Vals xs us → Vals (xs.take n) (us.take n)
  | _, _, 0, _ => .nil
  | _, _, _ + 1, .nil => .nil
  | _, _, n + 1, .cons r t => .cons r (Vals.take n t)
theorem Vals.drop : ∀ {xs : List V} {us : List Value} (n : Nat), Vals xs us → Vals (xs.drop n) (us.drop n)
  | _, _, 0, r => r
  | _, _, _ + 1, .nil => .nil
  | _, _, n + 1, .cons _ t => Vals.drop n t
noncomputable def RelO : Option V → Option Value → Prop
  | some v, some u => RelV v u
  | none, none => True
  | _, _ => False
noncomputable def KV {κ : Type} : List (κ × V) → List (κ × Value) → Prop := Paired fun (p : κ × V) (q : κ × Value) => p.1 = q.1 ∧ RelV p.2 q.2
noncomputable def kV : Key → V
  | .inl i => .int i
  | .inr x => .str x
inductive HO where
  | lst (xs : List V)
  | tup (xs : List V)
  | dK (kvs : List (Key × V)) | dT (kvs : List (List Key × V))
  | set (S : Int → Bool) (n : Nat)
  | ins (C dx : Addr) (fs : List (Str × V))
  | own (x : Addr)
  | xd (fs : List (Str × V))
  | met (f x : Addr)
  | rng (lo hi : Int)
  | frz (o : Obj) (u : HO)
  | tbl (ps : Array Value)
  | ext (φ : Heap → Prop)
noncomputable abbrev Hp := Addr → Option HO
noncomputable def upd (H : Hp) (a : Addr) (o : HO) : Hp := fun b => if b = a then some o else H b
theorem upd_same {H : Hp} {a : Addr} {o : HO} : upd H a o a = some o := by unfold upd; rw [if_pos rfl]
theorem upd_ne {H : Hp} {a b : Addr} {o : HO} (h : b ≠ a) : upd H a o b = H b := by unfold upd; rw [if_neg h]
theorem upd_upd {H : Hp} {a : Addr} {o u : HO} : upd (upd H a o) a u = upd H a u := by
  funext b; unfold upd; split <;> rfl
theorem ne_of {H : Hp} {a b : Addr} {o u : HO} (h : H a = some o) (h' : H b = some u) (d : o ≠ u) : a ≠ b := by
  intro e; subst e; rw [h] at h'; exact d (Option.some.inj h')
theorem ne_of_none {H : Hp} {a b : Addr} {o : HO} (h : H a = some o) (h' : H b = none) : a ≠ b := by
  intro e; subst e; rw [h] at h'; cases h'
section
variable (P : Program) (w : World)
noncomputable def ObjOk (H : Hp) (h : Heap) (a : Addr) : HO → Prop
  | .lst xs => xs.length ≤ sizeLine ∧ ∃ (its : List Value) (n : Nat), Vals xs its ∧ h.get? a = some { cls := .type "list", data := .seq its.toArray n }
  | .tup xs => xs.length ≤ sizeLine ∧ ∃ its : List Value, Vals xs its ∧ IsTup h a its.toArray
  | .dK kvs => kvs.length ≤ sizeLine ∧ (a == sysModules) = false ∧ ∃ vs, KV kvs vs ∧ h.DictOf (mixKind P w) a vs
  | .dT kvs => kvs.length ≤ sizeLine ∧ (a == sysModules) = false ∧ ∃ xs : List (List Key × Addr × Value),
      Paired (fun (p : List Key × V) (q : List Key × Addr × Value) => p.1 = q.1 ∧ H q.2.1 = some (.tup (p.1.map kV)) ∧ RelV p.2 q.2.2) kvs xs ∧
      ∃ o es ep, h.get? a = some o ∧ o.ExactDict ∧ o.data = .dict es ep ∧ es.toList = xs.map (entryOfKey (tupleKind (mixKind P w))) ∧ (xs.map (·.1)).Nodup
  | .set S n => h.SetOf (intKind P w) a S n
  | .ins C dx fs => H dx = some (.own a) ∧ fs.length ≤ 1000 ∧ dx ≠ a ∧ h.get? a = some (PySem.W.instObj C dx) ∧
      ∃ mA, h.Ns1 dx mA ∧ (∀ f, RelO (fs.lookup f) (mA f)) ∧ PySem.Within mA (fs.map (·.1))
  | .own _ => ∃ o, h.get? a = some o
  | .xd fs => ∃ mA, h.Ns1 a mA ∧ ∀ f, RelO (fs.lookup f) (mA f)
  | .rng lo hi => ∃ t u v, h.get? a = some { cls := .type "range", data := .fields #[.int lo t, .int hi u, .int 1 v] }
  | .frz o u => h.get? a = some o ∧ ObjOk H h a u
  | .tbl ps => h.get? a = some { cls := .none, data := .fields ps }
  | .met f x => h.get? a = some (PySem.W.methodObj (.ref f) (.ref x))
  | .ext φ => φ h ∧ (∃ o, h.get? a = some o) ∧ ∀ h1 h2 : Heap, φ h1 → (∀ o, h1.get? a = some o → h2.get? a = some o) → φ h2
noncomputable def HOk (H : Hp) (h : Heap) : Prop := ∀ a o, H a = some o → ObjOk P w H h a o
end
section
variable {P : Program} {w : World} {H H' : Hp} {h h' : Heap} {a : Addr} {o : HO}
theorem ObjOk.lt (x : ObjOk P w H h a o) : a < h.objs.size := by
  cases o with
  | lst xs => obtain ⟨_, _, _, _, e⟩ := x; exact Heap.lt_size e
  | tup xs => obtain ⟨_, _, _, p⟩ := x; exact p.lt
  | dK kvs => obtain ⟨_, _, _, _, o, _, _, e, _⟩ := x; exact Heap.lt_size e
  | dT kvs => obtain ⟨_, _, _, _, o, _, _, e, _⟩ := x; exact Heap.lt_size e
  | set S n => obtain ⟨o, _, _, _, e, _⟩ := x; exact Heap.lt_size e
  | ins C dx fs => obtain ⟨_, _, _, e, _⟩ := x; exact Heap.lt_size e
  | own y => obtain ⟨_, e⟩ := x; exact Heap.lt_size e
  | xd fs => obtain ⟨_, ⟨_, _, _, e, _⟩, _⟩ := x; exact Heap.lt_size e
  | rng lo hi => obtain ⟨_, _, _, e⟩ := x; exact Heap.lt_size e
  | frz ob u => obtain ⟨e, _⟩ := x; exact Heap.lt_size e
  | tbl ps => exact Heap.lt_size (show h.get? a = some _ from x)
  | met f y => exact Heap.lt_size (show h.get? a = some _ from x)
  | ext φ => obtain ⟨_, ⟨_, e⟩, _⟩ := x; exact Heap.lt_size e
theorem Paired.mapP {α β : Type} {F G : α → β → Prop} : ∀ {l₁ : List α} {l₂ : List β}, Paired F l₁ l₂ → (∀ a b, F a b → G a b) → Paired G l₁ l₂
  | _, _, .nil, _ => .nil
  | _, _, .cons r t, f => .cons (f _ _ r) (Paired.mapP t f)
theorem ObjOk.stay (x : ObjOk P w H h a o) (k : ∀ b u, (b = a ∨ H b = some (.own a)) → h.get? b = some u → h'.get? b = some u)
    (ho : ∀ b, H b = some (.own a) → H' b = some (.own a)) (ht : ∀ b xs, H b = some (.tup xs) → H' b = some (.tup xs)) : ObjOk P w H' h' a o := by
  induction o with
  | lst xs => obtain ⟨z, its, n, r, e⟩ := x; exact ⟨z, its, n, r, k _ _ (.inl rfl) e⟩
  | tup xs => obtain ⟨z, its, r, ob, e, c⟩ := x; exact ⟨z, its, r, ob, k _ _ (.inl rfl) e, c⟩
  | dK kvs => obtain ⟨z, y, vs, r, ob, es, ep, e, c⟩ := x; exact ⟨z, y, vs, r, ob, es, ep, k _ _ (.inl rfl) e, c⟩
  | dT kvs =>
    obtain ⟨z, y, xs, r, ob, es, ep, e, c⟩ := x
    exact ⟨z, y, xs, Paired.mapP r fun p q z => ⟨z.1, ht _ _ z.2.1, z.2.2⟩, ob, es, ep, k _ _ (.inl rfl) e, c⟩
  | set S n => obtain ⟨ob, es, ep, t, e, c⟩ := x; exact ⟨ob, es, ep, t, k _ _ (.inl rfl) e, c⟩
  | ins C dx fs =>
    obtain ⟨d, z, ne, e, mA, ⟨od, es, ep, e2, c⟩, r⟩ := x
    exact ⟨ho _ d, z, ne, k _ _ (.inl rfl) e, mA, ⟨od, es, ep, k _ _ (.inr d) e2, c⟩, r⟩
  | own y => obtain ⟨ob, e⟩ := x; exact ⟨ob, k _ _ (.inl rfl) e⟩
  | xd fs => obtain ⟨mA, ⟨od, es, ep, e, c⟩, r⟩ := x; exact ⟨mA, ⟨od, es, ep, k _ _ (.inl rfl) e, c⟩, r⟩
  | rng lo hi => obtain ⟨t, u, v, e⟩ := x; exact ⟨t, u, v, k _ _ (.inl rfl) e⟩
  | frz ob u ih => obtain ⟨e, q⟩ := x; exact ⟨k _ _ (.inl rfl) e, ih q⟩
  | tbl ps =>
    have e : h.get? a = some { cls := .none, data := .fields ps } := x
    show h'.get? a = some { cls := .none, data := .fields ps }
    exact k a _ (.inl rfl) e
  | met f y =>
    have e : h.get? a = some (PySem.W.methodObj (.ref f) (.ref y)) := x
    show h'.get? a = some (PySem.W.methodObj (.ref f) (.ref y))
    exact k a _ (.inl rfl) e
  | ext φ => obtain ⟨p, ⟨o, e⟩, st⟩ := x; exact ⟨st _ _ p fun o q => k _ _ (.inl rfl) q, ⟨o, k _ _ (.inl rfl) e⟩, st⟩
theorem HOk.lt (x : HOk P w H h) (e : H a = some o) : a < h.objs.size := (x a o e).lt
theorem HOk.fresh (x : HOk P w H h) (e : h.objs.size ≤ a) : H a = none := by
  cases q : H a with
  | none => rfl
  | some u => exact absurd (Nat.lt_of_lt_of_le (x.lt q) e) (Nat.lt_irrefl _)
theorem HOk.kept (x : HOk P w H h) (k : ∀ b u, h.get? b = some u → h'.get? b = some u) : HOk P w H h' := fun a o e =>
  (x a o e).stay (fun b u _ q => k b u q) (fun _ q => q) fun _ _ q => q
theorem HOk.laid (x : HOk P w H h) (k : ∀ b u, h.get? b = some u → h'.get? b = some u) (hp : h.objs.size ≤ a) (new : ObjOk P w (upd H a o) h' a o) : HOk P w (upd H a o) h' := fun b u e => by
  have hn := x.fresh hp
  by_cases hb : b = a
  · subst hb; rw [upd_same] at e; cases e; exact new
  · rw [upd_ne hb] at e
    exact (x b u e).stay (fun c v _ q => k c v q) (fun c q => by rw [upd_ne (ne_of_none q hn)]; exact q) fun c xs q => by rw [upd_ne (ne_of_none q hn)]; exact q
end
noncomputable def Rd (H : Hp) (a : Addr) (u : HO) : Prop := H a = some u ∨ ∃ o, H a = some (.frz o u)
theorem Rd.ok {P : Program} {w : World} {H : Hp} {h : Heap} {a : Addr} {u : HO} (r : Rd H a u) (x : HOk P w H h) : ObjOk P w H h a u := by
  rcases r with r | ⟨o, r⟩
  · exact x a u r
  · obtain ⟨_, q⟩ := x a _ r
    exact q
noncomputable def Mut : Option HO → Prop
  | some (.lst _) => True
  | some (.dK _) => True
  | some (.dT _) => True
  | some (.set _ _) => True
  | some (.ins _ _ _) => True
  | some (.ext _) => True
  | _ => False
section
variable {P : Program} {w : World} {H : Hp} {h h' : Heap} {x e : Addr} {o' : HO}
theorem HOk.write (ok : HOk P w H h) (mu : Mut (H x)) (he : e = x ∨ H e = some (.own x)) (k : ∀ b u, b ≠ e → h.get? b = some u → h'.get? b = some u) (heo : ∃ u, h'.get? e = some u)
    (new : ObjOk P w (upd H x o') h' x o') : HOk P w (upd H x o') h' := fun b u q => by
  have nown : ∀ c y, H c = some (.own y) → c ≠ x := fun c y r z => by subst z; rw [r] at mu; exact mu
  have ntup : ∀ c xs, H c = some (.tup xs) → c ≠ x := fun c xs r z => by subst z; rw [r] at mu; exact mu
  by_cases hb : b = x
  · subst hb; rw [upd_same] at q; cases q; exact new
  · rw [upd_ne hb] at q
    by_cases hbe : b = e
    · have q' : H b = some (.own x) := by
        rcases he with z | z
        · exact absurd (hbe.trans z) hb
        · rw [hbe]; exact z
      rw [q] at q'; cases q'
      obtain ⟨v, hv⟩ := heo
      exact ⟨v, by rw [hbe]; exact hv⟩
    · refine (ok b u q).stay (fun c v hc r => k c v ?_ r) (fun c r => by rw [upd_ne (nown c b r)]; exact r) fun c xs r => by rw [upd_ne (ntup c xs r)]; exact r
      rcases hc with rfl | hc
      · exact hbe
      · rintro rfl
        rcases he with z | z
        · exact nown c b hc z
        · rw [hc] at z; cases z; exact hb rfl
end
structure Un (fs ex : List Addr) (H H' : Hp) (h h' : Heap) : Prop where
  keep : ∀ b o, h.get? b = some o → H b = none → b ∉ fs → b ∉ ex → h'.get? b = some o
  slot : ∀ b o, h.get? b = some o → H b = none → b ∈ fs → b ∉ ex → ∃ sl, h'.get? b = some { o with slots := sl }
  free : ∀ b o, h.get? b = some o → H b = none → b ∉ ex → H' b = none
  there : ∀ b o, h.get? b = some o → b ∉ ex → ∃ o', h'.get? b = some o'
  tups : ∀ b xs, H b = some (.tup xs) → H' b = some (.tup xs)
  frzs : ∀ b o u, H b = some (.frz o u) → H' b = some (.frz o u)
  tbls : ∀ b ps, H b = some (.tbl ps) → ∃ more, H' b = some (.tbl (ps ++ more))
section
variable {fs fs' ex ex' : List Addr} {H H1 H2 : Hp} {h h1 h2 h' : Heap} {a x e : Addr} {o : HO}
theorem Un.any (u : Un fs ex H H1 h h1) {b : Addr} {ob : Obj} (q : h.get? b = some ob) (n : H b = none) (hx : b ∉ ex) : ∃ sl, h1.get? b = some { ob with slots := sl } := by
  by_cases hb : b ∈ fs
  · exact u.slot b ob q n hb hx
  · exact ⟨ob.slots, u.keep b ob q n hb hx⟩
theorem Un.kept (k : ∀ b u, h.get? b = some u → h'.get? b = some u) : Un fs ex H H h h' :=
  ⟨fun b ob q _ _ _ => k b ob q, fun b ob q _ _ _ => ⟨ob.slots, k b ob q⟩, fun _ _ _ n _ => n, fun b ob q _ => ⟨ob, k b ob q⟩, fun _ _ q => q, fun _ _ _ q => q, fun _ ps q => ⟨#[], by rw [q]; simp⟩⟩
theorem Un.refl : Un fs ex H H h h := Un.kept fun _ _ q => q
theorem Un.laid (k : ∀ b u, h.get? b = some u → h'.get? b = some u) (hp : h.objs.size ≤ a) (hn : H a = none) : Un fs ex H (upd H a o) h h' where
  keep := fun b u q _ _ _ => k b u q
  slot := fun b u q _ _ _ => ⟨u.slots, k b u q⟩
  free := fun b u q n _ => by rw [upd_ne (Nat.ne_of_lt (Nat.lt_of_lt_of_le (Heap.lt_size q) hp))]; exact n
  there := fun b u q _ => ⟨u, k b u q⟩
  tups := fun b xs q => by rw [upd_ne (ne_of_none q hn)]; exact q
  frzs := fun b u xs q => by rw [upd_ne (ne_of_none q hn)]; exact q
  tbls := fun b ps q => ⟨#[], by rw [upd_ne (ne_of_none q hn), q]; simp⟩
theorem Un.write (mu : Mut (H x)) (he : e = x ∨ H e = some (.own x)) (k : ∀ b u, b ≠ e → h.get? b = some u → h'.get? b = some u) (heo : ∃ u, h'.get? e = some u) : Un fs ex H (upd H x o) h h' := by
  have hx : ∀ b, H b = none → b ≠ x := fun b n z => by subst z; rw [n] at mu; exact mu
  have hb : ∀ b, H b = none → b ≠ e := fun b n z => by
    subst z
    rcases he with r | r
    · exact hx b n r
    · rw [n] at r; cases r
  have hm : ∀ b u, H b = some u → ¬ Mut (some u) → b ≠ x := fun b u q nm z => by subst z; rw [q] at mu; exact nm mu
  refine ⟨fun b u q n _ _ => k b u (hb b n) q, fun b u q n _ _ => ⟨u.slots, k b u (hb b n) q⟩, fun b u q n _ => by rw [upd_ne (hx b n)]; exact n, fun b u q _ => ?_,
    fun b xs q => by rw [upd_ne (hm b _ q fun z => z)]; exact q, fun b u xs q => by rw [upd_ne (hm b _ q fun z => z)]; exact q, fun b ps q => ⟨#[], by rw [upd_ne (hm b _ q fun z => z), q]; simp⟩⟩
  by_cases hbe : b = e
  · subst hbe; exact heo
  · exact ⟨u, k b u hbe q⟩
end
noncomputable def trk (h : Heap) (H : Hp) : List Addr := (List.range h.objs.size).filter fun a => (H a).isSome
noncomputable def hidT (h : Heap) (H : Hp) : Heap := PySem.W.hideAll h (trk h H)
theorem hidT_size (h : Heap) (H : Hp) : (hidT h H).objs.size = h.objs.size := PySem.W.hideAll_size _ _
theorem hidT_get {h : Heap} {H : Hp} {b : Addr} {o : Obj} (e : h.get? b = some o) (n : H b = none) : (hidT h H).get? b = some o :=
  PySem.W.hideAll_get _ e fun hm => by
    have q : (H b).isSome = true := (List.mem_filter.mp hm).2
    rw [n] at q; simp at q
theorem of_hidT {h : Heap} {H : Hp} {b : Addr} {o : Obj} (e : (hidT h H).get? b = some o) : h.get? b = some o ∧ H b = none := by
  have e' : h.get? b = some o := PySem.W.of_hideAll (trk h H) e
  refine ⟨e', ?_⟩
  cases q : H b with
  | none => rfl
  | some x =>
    have hm : b ∈ trk h H := List.mem_filter.mpr ⟨List.mem_range.mpr (Heap.lt_size e'), by simp [q]⟩
    have z : (hidT h H).get? b = none := PySem.W.hideAll_none (trk h H) hm
    rw [z] at e; cases e
noncomputable def allNews (g h : Heap) (L : Addr) : List (Addr × Obj) := (List.range h.objs.size).filterMap fun a => if a = L ∨ (g.get? a).isSome = true then none else (h.get? a).map fun o => (a, o)
noncomputable def rest (g h : Heap) (L d : Addr) : List (Addr × Obj) := (allNews g h L).filter fun p => decide (p.1 ≠ d)
end L2
namespace L2
open PySem PySem.Spec PyProof.Rows
structure Mod (K : PySem.W.Frag) (mg : Str → Option Value) (base : Heap) : Prop where
  kin : K.In base
  glob : base.Ns mainGlobals mg
  blt : ∃ mb, base.Ns builtinsNs mb ∧ ∀ x : Str, x ≠ "__name__" → mb x = bootBuiltins x
  nolimit : base.NoLimit
set_option genInjectivity false in
structure Cx where
  prog : Program
  w : World
  K : PySem.W.Frag
  mg : Str → Option Value
  base : Heap
  A : Around
  N : List Str
  s_0 : Shared
  H_0 : Hp
  env : Env
  outer : List Env
  stack : List Env
  ex : List Addr
  fn : Str → Bool
  calm : Bool
  pn : List (Addr × Obj)
  xe : Value → Shared → Prop
noncomputable def frs (l : List Env) : List Addr := l.filterMap (·.frame)
noncomputable abbrev Cx.fs (X : Cx) : List Addr := frs X.outer
noncomputable def Vis (sc : Scope) (x : Str) : Prop := sc.names.lookup x = some .local ∨ sc.names.lookup x = some .cell ∨ sc.names.lookup x = some .free
noncomputable def Loc (sc : Scope) (x : Str) : Prop := sc.names.lookup x = some .local ∨ sc.names.lookup x = some .cell
noncomputable def Look (env : Env) (h : Heap) (m : Str → Option Value) (x : Str) (u : Value) : Prop :=
  (env.kindOf x = some .local ∧ m x = some u) ∨ ((env.kindOf x = some .cell ∨ env.kindOf x = some .free) ∧ ∃ c, env.cells.lookup x = some c ∧ h.IsCell c (some u))
structure Cx.Ok (X : Cx) : Prop where
  mod : Mod X.K X.mg X.base
  kind : X.env.scope.kind = .function
  glob : X.env.globals = mainGlobals
  blt : X.env.builtins = builtinsNs
  above : X.s_0.heap.objs.size ≤ X.env.locals
  inj : ∀ x y c, X.env.cells.lookup x = some c → X.env.cells.lookup y = some c → x = y
  has : ∀ x, (X.env.kindOf x = some .cell ∨ X.env.kindOf x = some .free) → ∃ c, X.env.cells.lookup x = some c
  cab : ∀ x c, X.fn x = true → X.env.cells.lookup x = some c → X.s_0.heap.objs.size ≤ c
  hd : X.calm = true → X.A.handled = none
  frames : X.A.frames = some X.stack
  stk : X.stack = X.outer ∨ (X.stack = X.env :: X.outer ∧ X.env.frame = some X.env.locals)
  exf : ∀ b ∈ X.ex, b ≠ X.env.locals ∧ ∀ x c, X.env.cells.lookup x = some c → c ≠ b
  bs : ∀ b o, X.base.get? b = some o → X.s_0.heap.get? b = some o ∧ X.H_0 b = none
  bsz : X.base.objs.size ≤ X.s_0.heap.objs.size
  noex : ∀ b o, X.base.get? b = some o → b ∉ X.ex
  exfs : ∀ b ∈ X.ex, b ∉ X.fs
  funs : X.s_0.heap.FunFrames X.base X.outer
  frf : ∀ b ∈ X.fs, X.H_0 b = none
structure Inv (X : Cx) (pins : List (Addr × Obj)) (σ : List (Option V)) (H : Hp) (s : Shared) : Prop where
  ok : X.Ok
  os : s.os = X.s_0.os
  bare : AllBare s.gens
  base : Un X.fs X.ex X.H_0 H X.s_0.heap s.heap
  loc : ∃ m, s.heap.Ns X.env.locals m ∧ ∀ (i : Nat) (x : Str) (v : V), X.N[i]? = some x → σ[i]? = some (some v) → Vis X.env.scope x → ∃ u, RelV v u ∧ Look X.env s.heap m x u
  cell : ∀ x c, X.env.cells.lookup x = some c → ∃ v, s.heap.IsCell c v
  free : H X.env.locals = none
  freeC : ∀ x c, X.env.cells.lookup x = some c → H c = none
  pin : ∀ p ∈ X.pn ++ pins, s.heap.get? p.1 = some p.2 ∧ H p.1 = none ∧ p.1 ≠ X.env.locals ∧ p.1 ∉ X.fs ∧ ∀ v, p.2.data ≠ .cell v
  hok : HOk X.prog X.w H s.heap
  len : σ.length = X.N.length
section
variable {X : Cx} {pins : List (Addr × Obj)} {σ : List (Option V)} {H H' : Hp} {s : Shared} {h' : Heap}
theorem Cx.Ok.nofr (ok : X.Ok) {b : Addr} {o : Obj} (e : X.base.get? b = some o) : b ∉ X.fs := fun hb => by
  have := (ok.funs.mem hb).1
  rw [e] at this; cases this
theorem Inv.bs (I : Inv X pins σ H s) : ∀ b o, X.base.get? b = some o → s.heap.get? b = some o ∧ H b = none := fun b o e =>
  ⟨I.base.keep b o (I.ok.bs b o e).1 (I.ok.bs b o e).2 (I.ok.nofr e) (I.ok.noex b o e), I.base.free b o (I.ok.bs b o e).1 (I.ok.bs b o e).2 (I.ok.noex b o e)⟩
theorem Inv.bk (I : Inv X pins σ H s) : ∀ b o, X.base.get? b = some o → s.heap.get? b = some o := fun b o e => (I.bs b o e).1
theorem Inv.mod (I : Inv X pins σ H s) : Mod X.K X.mg X.base := I.ok.mod
theorem Inv.kIn (I : Inv X pins σ H s) : X.K.In s.heap := I.ok.mod.kin.keeps I.bk
theorem Inv.fr (I : Inv X pins σ H s) : ∃ m, Fr X.base X.env.locals s.heap m :=
  let ⟨m, hn, _⟩ := I.loc
  ⟨m, hn, I.bk, Nat.le_trans I.ok.bsz I.ok.above⟩
theorem Inv.lt (I : Inv X pins σ H s) : X.env.locals < s.heap.objs.size := let ⟨_, hn, _⟩ := I.loc; hn.lt
theorem Inv.sz (I : Inv X pins σ H s) : X.s_0.heap.objs.size ≤ s.heap.objs.size := Nat.le_trans I.ok.above (Nat.le_of_lt I.lt)
theorem Inv.nofs (I : Inv X pins σ H s) {a : Addr} (h : s.heap.objs.size ≤ a) : a ∉ X.fs := fun hb => by
  obtain ⟨_, o, ho, _⟩ := I.ok.funs.mem hb
  exact absurd (Nat.lt_of_lt_of_le (Heap.lt_size ho) (Nat.le_trans I.sz h)) (Nat.lt_irrefl _)
theorem Inv.cne (I : Inv X pins σ H s) : ∀ x c, X.env.cells.lookup x = some c → c ≠ X.env.locals := fun x c e z => by
  obtain ⟨v, o, ho, hd⟩ := I.cell x c e
  obtain ⟨m, ⟨o', es, ep, ho', hd', _⟩, _⟩ := I.loc
  rw [z, ho'] at ho; cases ho; rw [hd'] at hd; cases hd
theorem Inv.funs (I : Inv X pins σ H s) : s.heap.FunFrames X.base X.outer := by
  have all : ∀ (l : List Env), (∀ b ∈ frs l, b ∈ X.fs) → X.s_0.heap.FunFrames X.base l → s.heap.FunFrames X.base l := by
    intro l
    induction l with
    | nil => intro _ _; trivial
    | cons env r ih =>
      intro hs hl
      obtain ⟨hk, ⟨L, o, hf, hn, ho, hd⟩, hr⟩ := hl
      have hL : L ∈ X.fs := hs L (by unfold frs; rw [List.filterMap_cons, hf]; exact List.mem_cons_self)
      obtain ⟨sl, e⟩ := I.base.slot L o ho (I.ok.frf L hL) hL fun z => I.ok.exfs L z hL
      exact ⟨hk, ⟨L, _, hf, hn, e, hd⟩, ih (fun b hb => hs b (by unfold frs; rw [List.filterMap_cons, hf]; exact List.mem_cons_of_mem _ hb)) hr⟩
  exact all X.outer (fun _ hb => hb) I.ok.funs
theorem Inv.stack (I : Inv X pins σ H s) : s.heap.FunFrames X.base X.stack := by
  rcases I.ok.stk with e | ⟨e, hf⟩
  · rw [e]; exact I.funs
  · rw [e]
    obtain ⟨m, hn, _⟩ := I.loc
    refine .cons (by rw [I.ok.kind]; decide) hf hn ?_ I.funs
    exact Heap.get?_none_of_le (Nat.le_trans I.ok.bsz I.ok.above)
theorem Inv.stkSub (I : Inv X pins σ H s) : ∀ b ∈ frs X.stack, b ∈ X.env.locals :: X.fs := fun b hb => by
  rcases I.ok.stk with e | ⟨e, hf⟩
  · rw [e] at hb; exact List.mem_cons_of_mem _ hb
  · rw [e] at hb
    unfold frs at hb
    rw [List.filterMap_cons, hf] at hb
    exact hb
theorem Inv.stkFree (I : Inv X pins σ H s) : ∀ b ∈ frs X.stack, H b = none := fun b hb => by
  rcases List.mem_cons.mp (I.stkSub b hb) with e | hb
  · rw [e]; exact I.free
  · obtain ⟨_, o, ho, _⟩ := I.ok.funs.mem hb
    exact I.base.free b o ho (I.ok.frf b hb) fun z => I.ok.exfs b z hb
theorem Inv.step {g' : Array GenState} {t' : Nat} {d' : Drawn} {ch : List Addr} (I : Inv X pins σ H s)
    (hch : ∀ b ∈ ch, (b ∈ X.ex ∨ X.s_0.heap.objs.size ≤ b) ∧ b ≠ X.env.locals ∧ (∀ x c, X.env.cells.lookup x = some c → c ≠ b) ∧ ∀ p ∈ X.pn ++ pins, p.1 ≠ b)
    (keep : ∀ b o, b ≠ X.env.locals → b ∉ X.fs → b ∉ ch → s.heap.get? b = some o → H b = none → h'.get? b = some o)
    (slot : ∀ b o, b ≠ X.env.locals → b ∈ X.fs → b ∉ ch → s.heap.get? b = some o → H b = none → ∃ sl, h'.get? b = some { o with slots := sl }) (free : ∀ b o, b ∉ ch → s.heap.get? b = some o → H b = none → H' b = none)
    (there : ∀ b o, b ∉ ch → s.heap.get? b = some o → ∃ o', h'.get? b = some o')
    (tups : ∀ b xs, H b = some (.tup xs) → H' b = some (.tup xs)) (frzs : ∀ b o u, H b = some (.frz o u) → H' b = some (.frz o u)) (tbls : ∀ b ps, H b = some (.tbl ps) → ∃ more, H' b = some (.tbl (ps ++ more)))
    (ns : ∀ m, s.heap.Ns X.env.locals m → h'.Ns X.env.locals m) (hok : HOk X.prog X.w H' h') (hg : AllBare g') :
    Inv X pins σ H' { s with heap := h', gens := g', drawn := d', toks := t' } := by
  have neL : ∀ b o, X.s_0.heap.get? b = some o → b ≠ X.env.locals := fun b o e => Nat.ne_of_lt (Nat.lt_of_lt_of_le (Heap.lt_size e) I.ok.above)
  have neC : ∀ b o, X.s_0.heap.get? b = some o → b ∉ X.ex → b ∉ ch := fun b o e hx hb => by
    rcases (hch b hb).1 with z | z
    · exact hx z
    · exact absurd (Nat.lt_of_lt_of_le (Heap.lt_size e) z) (Nat.lt_irrefl _)
  have cellK : ∀ x c, X.env.cells.lookup x = some c → ∀ v, s.heap.IsCell c v → h'.IsCell c v := fun x c e v ⟨o, ho, hd⟩ => by
    have nch : c ∉ ch := fun z => (hch c z).2.2.1 x c e rfl
    by_cases hc : c ∈ X.fs
    · obtain ⟨sl, q⟩ := slot c o (I.cne x c e) hc nch ho (I.freeC x c e)
      exact ⟨_, q, hd⟩
    · exact ⟨o, keep c o (I.cne x c e) hc nch ho (I.freeC x c e), hd⟩
  refine ⟨I.ok, I.os, hg, ⟨fun b o e n hb hx => ?_, fun b o e n hb hx => ?_, fun b o e n hx => ?_, fun b o e hx => ?_, fun b xs e => tups b xs (I.base.tups b xs e), fun b o xs e => frzs b o xs (I.base.frzs b o xs e), fun b ps e => ?_⟩, ?_, fun x c e => ?_, ?_, fun x c e => ?_, fun p hp => ?_, hok, I.len⟩
  · exact keep b o (neL b o e) hb (neC b o e hx) (I.base.keep b o e n hb hx) (I.base.free b o e n hx)
  · obtain ⟨sl, e1⟩ := I.base.slot b o e n hb hx
    obtain ⟨sl', e2⟩ := slot b _ (neL b o e) hb (neC b o e hx) e1 (I.base.free b o e n hx)
    exact ⟨sl', e2⟩
  · obtain ⟨o', e1⟩ := I.base.there b o e hx
    exact free b o' (neC b o e hx) e1 (I.base.free b o e n hx)
  · obtain ⟨o', e1⟩ := I.base.there b o e hx
    exact there b o' (neC b o e hx) e1
  · obtain ⟨m1, e1⟩ := I.base.tbls b ps e
    obtain ⟨m2, e2⟩ := tbls b _ e1
    exact ⟨m1 ++ m2, by rw [e2, Array.append_assoc]⟩
  · obtain ⟨m, hn, hl⟩ := I.loc
    refine ⟨m, ns m hn, fun i x v e1 e2 e3 => ?_⟩
    obtain ⟨u, r, l⟩ := hl i x v e1 e2 e3
    refine ⟨u, r, ?_⟩
    rcases l with l | ⟨k, c, e, z⟩
    · exact .inl l
    · exact .inr ⟨k, c, e, cellK x c e _ z⟩
  · obtain ⟨v, z⟩ := I.cell x c e
    exact ⟨v, cellK x c e v z⟩
  · obtain ⟨m, ⟨o, _, _, ho, _⟩, _⟩ := I.loc
    exact free _ o (fun z => (hch _ z).2.1 rfl) ho I.free
  · obtain ⟨v, o, ho, hd⟩ := I.cell x c e
    exact free c o (fun z => (hch c z).2.2.1 x c e rfl) ho (I.freeC x c e)
  · obtain ⟨e, n, ne, nf, d⟩ := I.pin p hp
    have nch : p.1 ∉ ch := fun z => (hch p.1 z).2.2.2 p hp rfl
    exact ⟨keep p.1 p.2 ne nf nch e n, free p.1 p.2 nch e n, ne, nf, d⟩
theorem Inv.un {t' : Nat} (I : Inv X pins σ H s) (u : Un X.fs [] H H' s.heap h') (hok : HOk X.prog X.w H' h') : Inv X pins σ H' { s with heap := h', toks := t' } := by
  obtain ⟨m, ⟨o, es, ep, ho, r⟩, _⟩ := id I.loc
  obtain ⟨sl, hL⟩ := u.any ho I.free (by simp)
  exact I.step (g' := s.gens) (d' := s.drawn) (ch := []) (fun _ z => nomatch z) (fun b o _ hb _ e n => u.keep b o e n hb (by simp)) (fun b o _ hb _ e n => u.slot b o e n hb (by simp)) (fun b o _ e n => u.free b o e n (by simp)) (fun b o _ e => u.there b o e (by simp)) u.tups u.frzs u.tbls (fun m' hm => by
    obtain ⟨o', es', ep', ho', r'⟩ := hm
    rw [ho] at ho'; cases ho'
    exact ⟨_, es', ep', hL, r'⟩) hok I.bare
theorem Inv.call {g' : Array GenState} {t' : Nat} {d' : Drawn} {ch : List Addr} (I : Inv X pins σ H s) (u : Un (frs X.stack) ch H H' s.heap h') (hok : HOk X.prog X.w H' h') (hg : AllBare g')
    (hch : ∀ b ∈ ch, (b ∈ X.ex ∨ X.s_0.heap.objs.size ≤ b) ∧ b ≠ X.env.locals ∧ (∀ x c, X.env.cells.lookup x = some c → c ≠ b) ∧ ∀ p ∈ X.pn ++ pins, p.1 ≠ b) :
    Inv X pins σ H' { s with heap := h', gens := g', drawn := d', toks := t' } := by
  obtain ⟨m, ⟨o, es, ep, ho, r⟩, _⟩ := id I.loc
  obtain ⟨sl, hL⟩ := u.any ho I.free fun z => (hch _ z).2.1 rfl
  exact I.step (ch := ch) hch (fun b o hL hb hc e n => u.keep b o e n (fun z => (List.mem_cons.mp (I.stkSub b z)).elim hL hb) hc) (fun b o _ _ hc e n => u.any e n hc) (fun b o hc e n => u.free b o e n hc) (fun b o hc e => u.there b o e hc) u.tups u.frzs u.tbls (fun m' hm => by
    obtain ⟨o', es', ep', ho', r'⟩ := hm
    rw [ho] at ho'; cases ho'
    exact ⟨_, es', ep', hL, r'⟩) hok hg
theorem Inv.turned {t' : Nat} {it : Addr} (I : Inv X pins σ H s) (k : ∀ b o, b ≠ it → s.heap.get? b = some o → h'.get? b = some o) (hn : H it = none) (hL : it ≠ X.env.locals)
    (h1 : it ∈ X.ex ∨ X.s_0.heap.objs.size ≤ it) (h2 : ∀ x c, X.env.cells.lookup x = some c → c ≠ it) (h3 : ∀ p ∈ X.pn ++ pins, p.1 ≠ it) : Inv X pins σ H { s with heap := h', toks := t' } := by
  have nit : ∀ b u, H b = some u → b ≠ it := fun b u e z => by rw [z, hn] at e; cases e
  refine I.step (g' := s.gens) (d' := s.drawn) (ch := [it]) (fun b hb => ?_) (fun b o _ _ hc e _ => k b o (fun z => hc (by simp [z])) e) (fun b o _ _ hc e _ => ⟨o.slots, k b o (fun z => hc (by simp [z])) e⟩) (fun _ _ _ _ n => n)
    (fun b o hc e => ⟨o, k b o (fun z => hc (by simp [z])) e⟩) (fun _ _ e => e) (fun _ _ _ e => e) (fun b ps e => ⟨#[], by rw [e]; simp⟩) (fun m hm => ?_) (fun b u e => ?_) I.bare
  · have e : b = it := by simpa using hb
    subst e
    exact ⟨h1, hL, h2, h3⟩
  · obtain ⟨o, es, ep, ho, r⟩ := hm
    exact ⟨o, es, ep, k _ o (Ne.symm hL) ho, r⟩
  · refine (I.hok b u e).stay (fun c v hc q => k c v ?_ q) (fun _ q => q) fun _ _ q => q
    rcases hc with z | z
    · rw [z]; exact nit b u e
    · exact nit c _ z
theorem Inv.tok (I : Inv X pins σ H s) (t : Nat) : Inv X pins σ H { s with toks := t } := I.un (h' := s.heap) (t' := t) Un.refl I.hok
theorem Inv.kept {t' : Nat} (I : Inv X pins σ H s) (k : ∀ b u, s.heap.get? b = some u → h'.get? b = some u) : Inv X pins σ H { s with heap := h', toks := t' } := I.un (Un.kept k) (I.hok.kept k)
theorem Inv.laid {a : Addr} {o : HO} {t' : Nat} (I : Inv X pins σ H s) (k : ∀ b u, s.heap.get? b = some u → h'.get? b = some u) (hp : s.heap.objs.size ≤ a) (new : ObjOk X.prog X.w (upd H a o) h' a o) :
    Inv X pins σ (upd H a o) { s with heap := h', toks := t' } := I.un (Un.laid k hp (I.hok.fresh hp)) (I.hok.laid k hp new)
theorem Inv.write {x e : Addr} {o : HO} {t' : Nat} (I : Inv X pins σ H s) (mu : Mut (H x)) (he : e = x ∨ H e = some (.own x)) (k : ∀ b u, b ≠ e → s.heap.get? b = some u → h'.get? b = some u) (heo : ∃ u, h'.get? e = some u)
    (new : ObjOk X.prog X.w (upd H x o) h' x o) : Inv X pins σ (upd H x o) { s with heap := h', toks := t' } := I.un (Un.write mu he k heo) (I.hok.write mu he k heo new)
theorem Inv.weak {σ' : List (Option V)} (I : Inv X pins σ H s) (hl : σ'.length = σ.length) (w : ∀ (i : Nat) v, σ'[i]? = some (some v) → σ[i]? = some (some v)) : Inv X pins σ' H s :=
  ⟨I.ok, I.os, I.bare, I.base, let ⟨m, hn, hl'⟩ := I.loc; ⟨m, hn, fun i x v e1 e2 e3 => hl' i x v e1 (w i v e2) e3⟩, I.cell, I.free, I.freeC, I.pin, I.hok, hl.trans I.len⟩
theorem Inv.pins_of {pins' : List (Addr × Obj)} (I : Inv X pins σ H s) (h : ∀ p ∈ pins', s.heap.get? p.1 = some p.2 ∧ H p.1 = none ∧ p.1 ≠ X.env.locals ∧ p.1 ∉ X.fs ∧ ∀ v, p.2.data ≠ .cell v) : Inv X pins' σ H s :=
  ⟨I.ok, I.os, I.bare, I.base, I.loc, I.cell, I.free, I.freeC, fun p hp => (List.mem_append.mp hp).elim (fun z => I.pin p (List.mem_append_left _ z)) (h p), I.hok, I.len⟩
theorem nodup_ix {N : List Str} (hN : N.Nodup) {i j : Nat} {x : Str} (a : N[i]? = some x) (b : N[j]? = some x) : i = j := by
  obtain ⟨h1, e1⟩ := List.getElem?_eq_some_iff.mp a
  obtain ⟨h2, e2⟩ := List.getElem?_eq_some_iff.mp b
  exact (List.getElem_inj hN).mp (e1.trans e2.symm)
theorem store_ok2 {M : Model} {A : Around} {E : Value → Shared → Prop} {i : Nat} {x : Str} {v : V} {u : Value} {Q : Unit → Shared → Prop} (I : Inv X pins σ H s) (hN : X.N.Nodup) (hi : X.N[i]? = some x) (hx : Loc X.env.scope x) (r : RelV v u)
    (h : ∀ s', Inv X pins (σ.set i (some v)) H s' → (∃ a, Heap.SameBut a s.heap s'.heap ∧ (a = X.env.locals ∨ X.env.cells.lookup x = some a)) → Q () s') (hf : X.fn x = true ∨ X.env.scope.names.lookup x = some .local) : wpAny M A (storeName X.env x u) Q E s := by
  obtain ⟨m, hn, hl⟩ := id I.loc
  have hcls : (X.env.scope.kind == .class || (X.env.scope.kind == .module && X.env.locals != X.env.globals)) = false := by rw [I.ok.kind]; rfl
  have hiσ : i < σ.length := by rw [I.len]; exact (List.getElem?_eq_some_iff.mp hi).1
  have cne := I.cne
  have tracked : ∀ {a : Addr} {h' : Heap}, (∃ o, s.heap.get? a = some o ∧ H a = none) → Heap.SameBut a s.heap h' → HOk X.prog X.w H h' := fun {a h'} ha hs b ob e => by
    obtain ⟨_, _, hfree⟩ := ha
    refine (I.hok b ob e).stay (fun c w' hc q => (hs.2 c ?_).trans q) (fun _ q => q) fun _ _ q => q
    rintro rfl
    rcases hc with rfl | hc
    · rw [hfree] at e; cases e
    · rw [hfree] at hc; cases hc
  rcases hx with hk | hk
  · refine wpAny_storeName_local hk hn (fun h' hn' hs => ?_) hcls
    obtain ⟨oL, _, _, hoL, _⟩ := id hn
    refine h _ ⟨I.ok, I.os, I.bare, ⟨fun b o e n hb hx => ?_, fun b o e n hb hx => ?_, I.base.free, fun b o e hx => ?_, I.base.tups, I.base.frzs, I.base.tbls⟩, ⟨_, hn', fun j y v' e1 e2 e3 => ?_⟩, fun y c e => ?_, I.free, I.freeC, fun p hp => ?_, tracked ⟨oL, hoL, I.free⟩ hs, by simpa using I.len⟩ ⟨_, hs, .inl rfl⟩
    · exact (hs.2 b (Nat.ne_of_lt (Nat.lt_of_lt_of_le (Heap.lt_size e) I.ok.above))).trans (I.base.keep b o e n hb hx)
    · obtain ⟨sl, e1⟩ := I.base.slot b o e n hb hx
      exact ⟨sl, (hs.2 b (Nat.ne_of_lt (Nat.lt_of_lt_of_le (Heap.lt_size e) I.ok.above))).trans e1⟩
    · obtain ⟨o', e1⟩ := I.base.there b o e hx
      exact ⟨o', (hs.2 b (Nat.ne_of_lt (Nat.lt_of_lt_of_le (Heap.lt_size e) I.ok.above))).trans e1⟩
    · by_cases hj : j = i
      · subst hj
        rw [hi] at e1; cases e1
        rw [List.getElem?_set_self hiσ] at e2
        cases e2
        exact ⟨u, r, .inl ⟨hk, by simp⟩⟩
      · rw [List.getElem?_set_ne (Ne.symm hj)] at e2
        obtain ⟨u', r', q⟩ := hl j y v' e1 e2 e3
        refine ⟨u', r', ?_⟩
        rcases q with ⟨k, e⟩ | ⟨k, c, e, z⟩
        · refine .inl ⟨k, ?_⟩
          have : y ≠ x := fun e => hj (nodup_ix hN e1 (e ▸ hi))
          simp [this, e]
        · exact .inr ⟨k, c, e, z.sameBut hs (cne y c e)⟩
    · obtain ⟨w', z⟩ := I.cell y c e
      exact ⟨w', z.sameBut hs (cne y c e)⟩
    · obtain ⟨e, n, ne, nf, d⟩ := I.pin p hp
      exact ⟨(hs.2 p.1 ne).trans e, n, ne, nf, d⟩
  · have hfn : X.fn x = true := by
      rcases hf with z | z
      · exact z
      · rw [z] at hk; cases hk
    obtain ⟨c, hc⟩ := I.ok.has x (.inl hk)
    obtain ⟨w', z⟩ := I.cell x c hc
    refine wpAny_storeName_cell I.ok.kind hk hc z (fun h' hc' hs => ?_)
    obtain ⟨oc, hoc, hocd⟩ := id z
    refine h { s with heap := h' } ⟨I.ok, I.os, I.bare, ⟨fun b o e n hb hx => ?_, fun b o e n hb hx => ?_, I.base.free, fun b o e hx => ?_, I.base.tups, I.base.frzs, I.base.tbls⟩, ⟨m, hn.sameBut hs (Ne.symm (cne x c hc)), fun j y v' e1 e2 e3 => ?_⟩, fun y c' e => ?_, I.free, I.freeC, fun p hp => ?_, tracked ⟨oc, hoc, I.freeC x c hc⟩ hs, by simpa using I.len⟩ ⟨c, hs, .inr hc⟩
    · exact (hs.2 b (Nat.ne_of_lt (Nat.lt_of_lt_of_le (Heap.lt_size e) (I.ok.cab x c hfn hc)))).trans (I.base.keep b o e n hb hx)
    · obtain ⟨sl, e1⟩ := I.base.slot b o e n hb hx
      exact ⟨sl, (hs.2 b (Nat.ne_of_lt (Nat.lt_of_lt_of_le (Heap.lt_size e) (I.ok.cab x c hfn hc)))).trans e1⟩
    · obtain ⟨o', e1⟩ := I.base.there b o e hx
      exact ⟨o', (hs.2 b (Nat.ne_of_lt (Nat.lt_of_lt_of_le (Heap.lt_size e) (I.ok.cab x c hfn hc)))).trans e1⟩
    · by_cases hj : j = i
      · subst hj
        rw [hi] at e1; cases e1
        rw [List.getElem?_set_self hiσ] at e2
        cases e2
        exact ⟨u, r, .inr ⟨.inl hk, c, hc, hc'⟩⟩
      · rw [List.getElem?_set_ne (Ne.symm hj)] at e2
        obtain ⟨u', r', q⟩ := hl j y v' e1 e2 e3
        refine ⟨u', r', ?_⟩
        rcases q with q | ⟨k, c', e, z'⟩
        · exact .inl q
        · refine .inr ⟨k, c', e, z'.sameBut hs ?_⟩
          rintro rfl
          exact hj (nodup_ix hN e1 (I.ok.inj _ _ _ e hc ▸ hi))
    · by_cases hcc : c' = c
      · subst hcc; exact ⟨_, hc'⟩
      · obtain ⟨w2, z2⟩ := I.cell y c' e
        exact ⟨w2, z2.sameBut hs hcc⟩
    · obtain ⟨e, n, ne, nf, d⟩ := I.pin p hp
      refine ⟨(hs.2 p.1 ?_).trans e, n, ne, nf, d⟩
      intro q
      rw [q, hoc] at e
      have q' : oc = p.2 := Option.some.inj e
      exact d w' (by rw [← q']; exact hocd)
theorem store_ok {M : Model} {A : Around} {E : Value → Shared → Prop} {i : Nat} {x : Str} {v : V} {u : Value} {Q : Unit → Shared → Prop} (I : Inv X pins σ H s) (hN : X.N.Nodup) (hi : X.N[i]? = some x) (hx : Loc X.env.scope x) (r : RelV v u)
    (h : ∀ s', Inv X pins (σ.set i (some v)) H s' → Q () s') (hf : X.fn x = true ∨ X.env.scope.names.lookup x = some .local) : wpAny M A (storeName X.env x u) Q E s :=
  store_ok2 I hN hi hx r (fun s' I' _ => h s' I') hf
theorem Inv.call' {s' : Shared} {ch : List Addr} (I : Inv X pins σ H s) (ho : s'.os = s.os) (u : Un (frs X.stack) ch H H' s.heap s'.heap) (hok : HOk X.prog X.w H' s'.heap) (hg : AllBare s'.gens)
    (hch : ∀ b ∈ ch, (b ∈ X.ex ∨ X.s_0.heap.objs.size ≤ b) ∧ b ≠ X.env.locals ∧ (∀ x c, X.env.cells.lookup x = some c → c ≠ b) ∧ ∀ p ∈ X.pn ++ pins, p.1 ≠ b) : Inv X pins σ H' s' := by
  obtain ⟨h', g', d', t', o'⟩ := s'
  have e : o' = s.os := ho
  subst e
  exact I.call (g' := g') (t' := t') (d' := d') u hok hg hch
end
noncomputable abbrev XK := Value → Option Addr → Hp → Prop
noncomputable abbrev St := List (Option V)
noncomputable abbrev VK := V → Hp → Prop
noncomputable abbrev TE := St → Hp → VK → Prop
noncomputable abbrev TT := St → Hp → (Bool → Hp → Prop) → Prop
noncomputable abbrev TA := St → Hp → (List V → Hp → Prop) → Prop
structure Ends where
  nx : St → Hp → Prop
  rt : VK
  bk : St → Hp → Prop := fun _ _ => False
  ct : St → Hp → Prop := fun _ _ => False
noncomputable abbrev TS := Ends → St → Hp → Prop
noncomputable def EP (X : Cx) (pins : List (Addr × Obj)) (σ : St) (Q : VK) (u : Value) (s' : Shared) : Prop := ∃ v H', Inv X pins σ H' s' ∧ RelV v u ∧ Q v H'
noncomputable def TP (X : Cx) (pins : List (Addr × Obj)) (σ : St) (Q : Bool → Hp → Prop) (b : Bool) (s' : Shared) : Prop := ∃ H', Inv X pins σ H' s' ∧ Q b H'
noncomputable def AP (X : Cx) (pins : List (Addr × Obj)) (σ : St) (Q : List V → Hp → Prop) (us : List Value) (s' : Shared) : Prop := ∃ vs H', Inv X pins σ H' s' ∧ Vals vs us ∧ Q vs H'
noncomputable def SP (X : Cx) (pins : List (Addr × Obj)) (D : Ends) (f : Flow) (s' : Shared) : Prop :=
  match f with
  | .next => ∃ σ' H', Inv X pins σ' H' s' ∧ D.nx σ' H'
  | .brk => ∃ σ' H', Inv X pins σ' H' s' ∧ D.bk σ' H'
  | .cont => ∃ σ' H', Inv X pins σ' H' s' ∧ D.ct σ' H'
  | .ret u => ∃ v σ' H', Inv X pins σ' H' s' ∧ RelV v u ∧ D.rt v H'
noncomputable def PE (X : Cx) (e : Expr) (t : TE) : Prop :=
  ∀ (pins : List (Addr × Obj)) (s : Shared) (σ : St) (H : Hp) (Q : VK), Inv X pins σ H s → t σ H Q → wpAny (model X.prog X.w) X.A (eval e X.env) (EP X pins σ Q) X.xe s
noncomputable def PT (X : Cx) (e : Expr) (t : TT) : Prop :=
  ∀ (pins : List (Addr × Obj)) (s : Shared) (σ : St) (H : Hp) (Q : Bool → Hp → Prop), Inv X pins σ H s → t σ H Q → wpAny (model X.prog X.w) X.A (isTrue e X.env (eval e X.env)) (TP X pins σ Q) X.xe s
noncomputable def PW (X : Cx) (e : Expr) (t : TT) : Prop :=
  ∀ (whole : Sem Value) (pins : List (Addr × Obj)) (s : Shared) (σ : St) (H : Hp) (Q : Bool → Hp → Prop), Inv X pins σ H s → t σ H Q → wpAny (model X.prog X.w) X.A (isTrue e X.env whole) (TP X pins σ Q) X.xe s
theorem PW.pt {X : Cx} {e : Expr} {t : TT} (h : PW X e t) : PT X e t := h _
noncomputable def PA (X : Cx) (es : List Expr) (t : TA) : Prop :=
  ∀ (pos : Pos) (pins : List (Addr × Obj)) (s : Shared) (σ : St) (H : Hp) (Q : List V → Hp → Prop), Inv X pins σ H s → t σ H Q → wpAny (model X.prog X.w) X.A (spliced (backTo pos (starEach es X.env))) (AP X pins σ Q) X.xe s
noncomputable def PS (X : Cx) (st : Stmt) (t : TS) : Prop :=
  ∀ (pins : List (Addr × Obj)) (s : Shared) (σ : St) (H : Hp) (D : Ends), Inv X pins σ H s → t D σ H → wpAny (model X.prog X.w) X.A (exec st X.env) (SP X pins D) X.xe s
noncomputable def PSs (X : Cx) (st : List Stmt) (t : TS) : Prop :=
  ∀ (pins : List (Addr × Obj)) (s : Shared) (σ : St) (H : Hp) (D : Ends), Inv X pins σ H s → t D σ H → wpAny (model X.prog X.w) X.A (execs st X.env) (SP X pins D) X.xe s
theorem thn {α : Type} {t : Sem α} {Q Q' : α → Shared → Prop} {M : Model} {A : Around} {E : Value → Shared → Prop} {s : Shared} (h : wpAny M A t Q E s) (hQ : ∀ a s, Q a s → Q' a s) : wpAny M A t Q' E s := wpAny_mono h hQ fun _ _ x => x
end L2
namespace L2
open PySem PySem.Spec PyProof.Rows
section
variable {X : Cx}
noncomputable def tVar (i : Nat) : TE := fun σ H Q => ∃ v, σ[i]? = some (some v) ∧ Q v H
noncomputable def tC (v : V) : TE := fun _ H Q => Q v H
theorem pe_var {i : Nat} {x : Str} {pos : Pos} (hN : X.N[i]? = some x) (hv : Vis X.env.scope x) (hd : (x == ("__debug__" : Str)) = false := by decide) (hcd : (x == ("__classdict__" : Str)) = false := by decide) : PE X (.Name x pos) (tVar i) := by
  intro pins s σ H Q I h
  obtain ⟨v, e, h⟩ := h
  obtain ⟨m, hn, hl⟩ := I.loc
  obtain ⟨u, r, l⟩ := hl i x v hN e hv
  have fin : EP X pins σ Q u s := ⟨v, H, I, r, h⟩
  rcases l with ⟨hk, hm⟩ | ⟨hk, c, hc, hcell⟩
  · exact wpAny_Name (wpAny_loadName_local I.ok.kind hk hn hm fin) hd
  · rcases hk with hk | hk
    · exact wpAny_Name (wpAny_loadName_cell I.ok.kind hk hc hcell fin) hd
    · exact wpAny_Name (wpAny_loadName_free I.ok.kind hk hc hcell fin hcd) hd
theorem pe_int {i j pos} : PE X (.Constant (.int i) j pos) (tC (.int i)) := fun _ _ _ H _ I h => wpAny_Constant_int ⟨.int i, H, I.tok _, ⟨_, rfl⟩, h⟩
theorem pe_bl {b j pos} : PE X (.Constant (.bool b) j pos) (tC (.bl b)) := fun _ _ _ H _ I h => Constant_bool ⟨.bl b, H, I, rfl, h⟩
theorem pe_non {j pos} : PE X (.Constant .none j pos) (tC .non) := fun _ _ _ H _ I h => Constant_none ⟨.non, H, I, rfl, h⟩
theorem pe_str {x j pos} : PE X (.Constant (.str x) j pos) (tC (.str x)) := fun _ _ _ H _ I h => Calls.Constant_str ⟨.str x, H, I.tok _, ⟨_, rfl⟩, h⟩
noncomputable def Gl (X : Cx) (x : Str) : Prop := X.env.kindOf x = some .globalImplicit
theorem ld_glob {E : Value → Shared → Prop} {pins : List (Addr × Obj)} {s : Shared} {σ : St} {H : Hp} {x : Str} {u : Value} {pos : Pos} {Q : Value → Shared → Prop} (I : Inv X pins σ H s) (hg : Gl X x) (hm : X.mg x = some u) (h : Q u s)
    (hd : (x == ("__debug__" : Str)) = false := by decide) : wpAny (model X.prog X.w) X.A (eval (.Name x pos) X.env) Q E s :=
  Calls.Name_function_global I.ok.kind hg (Calls.loadGlobal_global (by rw [I.ok.glob]; exact I.mod.glob.keeps I.bk) hm h) hd
theorem ld_blt {E : Value → Shared → Prop} {pins : List (Addr × Obj)} {s : Shared} {σ : St} {H : Hp} {x : Str} {u : Value} {pos : Pos} {Q : Value → Shared → Prop} (I : Inv X pins σ H s) (hg : Gl X x) (hm : X.mg x = none) (hv : bootBuiltins x = some u) (h : Q u s)
    (hn : x ≠ "__name__" := by decide) (hd : (x == ("__debug__" : Str)) = false := by decide) : wpAny (model X.prog X.w) X.A (eval (.Name x pos) X.env) Q E s := by
  obtain ⟨mb, h1, h2⟩ := I.mod.blt
  exact Calls.Name_function_global I.ok.kind hg (Calls.loadGlobal_builtin (by rw [I.ok.glob]; exact I.mod.glob.keeps I.bk) hm (by rw [I.ok.blt]; exact h1.keeps I.bk) ((h2 x hn).trans hv) h) hd
theorem pe_glob {x : Str} {v : V} {u : Value} {pos : Pos} (hg : Gl X x) (hm : X.mg x = some u) (r : RelV v u) (hd : (x == ("__debug__" : Str)) = false := by decide) : PE X (.Name x pos) (tC v) :=
  fun _ _ _ H _ I h => ld_glob I hg hm ⟨v, H, I, r, h⟩ hd
variable {a b : Expr} {ta tb : TE} {pos : Pos}
noncomputable def PC (X : Cx) (op : CmpOp) (a b : Expr) (t : TE) : Prop :=
  ∀ (pins : List (Addr × Obj)) (s : Shared) (σ : St) (H : Hp) (Q : VK), Inv X pins σ H s → t σ H Q →
    wpAny (model X.prog X.w) X.A (eval a X.env) (fun v s₁ => wpAny (model X.prog X.w) X.A (eval b X.env) (fun u s₂ => wpAny (model X.prog X.w) X.A (compareOp op v u) (EP X pins σ Q) X.xe s₂) X.xe s₁) X.xe s
theorem nobehind (b : Expr) {op : CmpOp} (h : op ≠ .In) (h2 : op ≠ .NotIn) : behindInMarks op b = false := by
  have e1 : (op == CmpOp.In) = false := by cases op <;> first | rfl | exact absurd rfl h
  have e2 : (op == CmpOp.NotIn) = false := by cases op <;> first | rfl | exact absurd rfl h2
  cases b
  case Set elts k p =>
    show ((k == 0 && (op == .In || op == .NotIn)) && _) = false
    rw [e1, e2]
    cases k == 0 <;> rfl
  all_goals rfl
noncomputable def tB (t : TE) : TT := fun σ H Q => t σ H fun x H1 => ∃ c, x = .bl c ∧ Q c H1
theorem pe_cmp {op : CmpOp} {t : TE} (h : PC X op a b t) (h1 : behindInMarks op b = false := by first | exact nobehind _ (by decide) (by decide) | rfl) : PE X (.Compare a [op] [b] pos) t := fun pins s σ H Q I hw => wpAny_Compare1 (h pins s σ H Q I hw) h1
theorem pt_cmp {op : CmpOp} {t : TE} (h : PC X op a b t) (h1 : behindInMarks op b = false := by first | exact nobehind _ (by decide) (by decide) | rfl) : PT X (.Compare a [op] [b] pos) (tB t) := by
  intro pins s σ H Q I hw
  refine wpAny_isTrue_Compare1 (thn (h pins s σ H _ I hw) fun v s1 h1 => thn h1 fun u s2 h2 => thn h2 fun c s3 zq5 => ?_) h1
  obtain ⟨x, H1, I1, r1, q1⟩ := zq5
  obtain ⟨d, rfl, q⟩ := q1
  cases r1
  exact wpAny_truthy_bool ⟨H1, I1, q⟩
theorem pt_val {e : Expr} {t : TE} (h : PE X e t) (he : ∀ whole, isTrue e X.env whole = (do let v ← whole; standAt e.pos; holding [v] (truthy v)) := by intro _; rfl) : PT X e (tB t) := by
  intro pins s σ H Q I hw
  refine isTrue_plain (thn (h pins s σ H _ I hw) fun v s1 zq6 => ?_) (he _)
  obtain ⟨x, H1, I1, r1, q1⟩ := zq6
  obtain ⟨d, rfl, q⟩ := q1
  cases r1
  exact wpAny_truthy_bool ⟨H1, I1, q⟩
variable {tA tB' : TT} {rest : List Expr}
noncomputable def tAnd (t u : TT) : TT := fun σ H Q => t σ H fun c H1 => if c = true then u σ H1 Q else Q false H1
noncomputable def tOr (t u : TT) : TT := fun σ H Q => t σ H fun c H1 => if c = true then Q true H1 else u σ H1 Q
noncomputable def tNot (t : TT) : TT := fun σ H Q => t σ H fun c H1 => Q (!c) H1
theorem pw_and1 (ha : PT X a tA) : PW X (.BoolOp .And [a] pos) tA := by
  intro wh pins s σ H Q I h
  refine isTrue_and (thn (ha pins s σ H Q I h) fun c s1 e => ?_)
  cases c with
  | true => exact isTrue_and_nil e
  | false => exact e
theorem pw_or1 (ha : PT X a tA) : PW X (.BoolOp .Or [a] pos) tA := by
  intro wh pins s σ H Q I h
  refine isTrue_or (thn (ha pins s σ H Q I h) fun c s1 e => ?_)
  cases c with
  | false => exact isTrue_or_nil e
  | true => exact e
theorem pw_and (ha : PT X a tA) (hb : PW X (.BoolOp .And (b :: rest) pos) tB') : PW X (.BoolOp .And (a :: b :: rest) pos) (tAnd tA tB') := by
  intro wh pins s σ H Q I h
  refine isTrue_and (thn (ha pins s σ H _ I h) fun c s1 zq7 => ?_)
  obtain ⟨H1, I1, q1⟩ := zq7
  cases c with
  | true => exact hb wh pins s1 σ H1 Q I1 q1
  | false => exact ⟨H1, I1, q1⟩
theorem pw_or (ha : PT X a tA) (hb : PW X (.BoolOp .Or (b :: rest) pos) tB') : PW X (.BoolOp .Or (a :: b :: rest) pos) (tOr tA tB') := by
  intro wh pins s σ H Q I h
  refine isTrue_or (thn (ha pins s σ H _ I h) fun c s1 zq8 => ?_)
  obtain ⟨H1, I1, q1⟩ := zq8
  cases c with
  | true => exact ⟨H1, I1, q1⟩
  | false => exact hb wh pins s1 σ H1 Q I1 q1
theorem pt_not (ha : PT X a tA) : PT X (.UnaryOp .Not a pos) (tNot tA) := by
  intro pins s σ H Q I h
  exact isTrue_not (ha pins s σ H (fun c H1 => Q (!c) H1) I h)
noncomputable def tAndV (ta tb : TE) : TE := fun σ H Q => ta σ H fun x H1 => ∃ c, x = .bl c ∧ if c = true then tb σ H1 Q else Q (.bl false) H1
noncomputable def tOrV (ta tb : TE) : TE := fun σ H Q => ta σ H fun x H1 => ∃ c, x = .bl c ∧ if c = true then Q (.bl true) H1 else tb σ H1 Q
noncomputable def tNotV (ta : TE) : TE := fun σ H Q => ta σ H fun x H1 => ∃ c, x = .bl c ∧ Q (.bl (!c)) H1
theorem pe_one {op} {t : TE} (h : PE X a t) : PE X (.BoolOp op [a] pos) t := fun pins s σ H Q I hw => BoolOp_one (h pins s σ H Q I hw)
theorem pe_and (ha : PE X a ta) (hb : PE X (.BoolOp .And (b :: rest) pos) tb) : PE X (.BoolOp .And (a :: b :: rest) pos) (tAndV ta tb) := by
  intro pins s σ H Q I h
  refine BoolOp_and (thn (ha pins s σ H _ I h) fun v s1 zq9 => ?_)
  obtain ⟨x, H1, I1, r1, q1⟩ := zq9
  obtain ⟨c, rfl, q1⟩ := q1
  cases r1
  refine wpAny_truthy_bool ?_
  cases c with
  | true => exact hb pins s1 σ H1 Q I1 q1
  | false => exact ⟨.bl false, H1, I1, rfl, q1⟩
theorem pe_or (ha : PE X a ta) (hb : PE X (.BoolOp .Or (b :: rest) pos) tb) : PE X (.BoolOp .Or (a :: b :: rest) pos) (tOrV ta tb) := by
  intro pins s σ H Q I h
  refine BoolOp_or (thn (ha pins s σ H _ I h) fun v s1 zq10 => ?_)
  obtain ⟨x, H1, I1, r1, q1⟩ := zq10
  obtain ⟨c, rfl, q1⟩ := q1
  cases r1
  refine wpAny_truthy_bool ?_
  cases c with
  | false => exact hb pins s1 σ H1 Q I1 q1
  | true => exact ⟨.bl true, H1, I1, rfl, q1⟩
end
end L2
namespace L2
open PySem PySem.Spec PyProof.Rows
noncomputable def SqL (K : PySem.W.Frag) (H : Hp) (a : Addr) (xs : List V) : Prop :=
  Rd H a (.lst xs) ∨
    ∃ (o : Obj) (its : Array Value) (n : Nat), K.lookup a = some o ∧ o.cls = .type "list" ∧ o.dict = none ∧ o.data = .seq its n ∧ its.size ≤ sizeLine ∧ Vals xs its.toList
noncomputable def SqT (K : PySem.W.Frag) (H : Hp) (a : Addr) (xs : List V) : Prop :=
  Rd H a (.tup xs) ∨
    ∃ (o : Obj) (its : Array Value) (n : Nat), K.lookup a = some o ∧ o.cls = .type "tuple" ∧ o.data = .seq its n ∧ its.size ≤ sizeLine ∧ Vals xs its.toList
noncomputable def absV : Value → Option V
  | .none => some .non
  | .bool b => some (.bl b)
  | .int i _ => some (.int i)
  | .str x _ => some (.str x)
  | .bytes b _ => some (.byt b)
  | .float b _ => some (.flt b)
  | .ref a => some (.ref a)
  | .type n => some (.ty n)
  | _ => none
theorem RelV.abs {x : V} {u : Value} (r : RelV x u) : absV u = some x := by
  cases x with
  | non => cases r; rfl
  | bl _ => cases r; rfl
  | int _ => obtain ⟨t, rfl⟩ := r; rfl
  | str _ => obtain ⟨t, rfl⟩ := r; rfl
  | byt _ => obtain ⟨t, rfl⟩ := r; rfl
  | flt _ => obtain ⟨t, rfl⟩ := r; rfl
  | ref _ => cases r; rfl
  | ty _ => cases r; rfl
theorem RelV.inj {x y : V} {u : Value} (r : RelV x u) (q : RelV y u) : x = y := Option.some.inj (r.abs.symm.trans q.abs)
theorem Vals.inj : ∀ {xs ys : List V} {us : List Value}, Vals xs us → Vals ys us → xs = ys
  | _, _, _, .nil, .nil => rfl
  | _, _, _, .cons r t, .cons r' t' => by rw [r.inj r', Vals.inj t t']
section
variable {X : Cx} {pins : List (Addr × Obj)} {σ : St} {H : Hp} {s : Shared} {a : Addr} {xs ys : List V}
theorem SqL.of {K : PySem.W.Frag} (h : H a = some (.lst xs)) : SqL K H a xs := .inl (.inl h)
theorem Inv.list (I : Inv X pins σ H s) (h : SqL X.K H a xs) : ∃ its : List Value, Vals xs its ∧ PlainL s.heap a its.toArray ∧ xs.length ≤ sizeLine := by
  rcases h with h | ⟨o, its, n, hk, hc, hd, hs, hz, r⟩
  · obtain ⟨z, its, n, r, e⟩ := h.ok I.hok
    exact ⟨its, r, ⟨_, n, e, rfl, rfl, rfl⟩, z⟩
  · refine ⟨its.toList, r, ⟨o, n, I.kIn a o hk, hc, hd, by simpa using hs⟩, ?_⟩
    have e := r.length
    simp only [Array.length_toList] at e
    omega
theorem Inv.tuple (I : Inv X pins σ H s) (h : SqT X.K H a xs) : ∃ its : List Value, Vals xs its ∧ IsTup s.heap a its.toArray ∧ xs.length ≤ sizeLine := by
  rcases h with h | ⟨o, its, n, hk, hc, hs, hz, r⟩
  · obtain ⟨z, its, r, p⟩ := h.ok I.hok
    exact ⟨its, r, p, z⟩
  · refine ⟨its.toList, r, ⟨o, I.kIn a o hk, hc, n, by simpa using hs⟩, ?_⟩
    have e := r.length
    simp only [Array.length_toList] at e
    omega
theorem Inv.list_inj (I : Inv X pins σ H s) (h : SqL X.K H a xs) (h' : SqL X.K H a ys) : xs = ys := by
  obtain ⟨its, r, ⟨o, n, e, _, _, d⟩, _⟩ := I.list h
  obtain ⟨its', r', ⟨o', n', e', _, _, d'⟩, _⟩ := I.list h'
  rw [e] at e'; cases e'
  rw [d] at d'
  injection d' with d1 _
  have : its = its' := by simpa using congrArg Array.toList d1
  subst this
  exact r.inj r'
end
noncomputable abbrev Cx.wish (X : Cx) (E : Value → Shared → Prop) : Cx := { X with xe := E }
noncomputable abbrev Cx.nox (X : Cx) : Cx := X.wish fun _ _ => False
theorem Cx.Ok.wish {X : Cx} (ok : X.Ok) (E : Value → Shared → Prop) : (X.wish E).Ok :=
  ⟨ok.mod, ok.kind, ok.glob, ok.blt, ok.above, ok.inj, ok.has, ok.cab, ok.hd, ok.frames, ok.stk, ok.exf, ok.bs, ok.bsz, ok.noex, ok.exfs, ok.funs, ok.frf⟩
theorem Cx.Ok.unwish {X : Cx} {E : Value → Shared → Prop} (ok : (X.wish E).Ok) : X.Ok :=
  ⟨ok.mod, ok.kind, ok.glob, ok.blt, ok.above, ok.inj, ok.has, ok.cab, ok.hd, ok.frames, ok.stk, ok.exf, ok.bs, ok.bsz, ok.noex, ok.exfs, ok.funs, ok.frf⟩
section
variable {X : Cx} {pins : List (Addr × Obj)} {σ : St} {H : Hp} {s : Shared} {E : Value → Shared → Prop}
theorem Inv.wish (I : Inv X pins σ H s) (E : Value → Shared → Prop) : Inv (X.wish E) pins σ H s := ⟨I.ok.wish E, I.os, I.bare, I.base, I.loc, I.cell, I.free, I.freeC, I.pin, I.hok, I.len⟩
theorem Inv.unwish (I : Inv (X.wish E) pins σ H s) : Inv X pins σ H s := ⟨I.ok.unwish, I.os, I.bare, I.base, I.loc, I.cell, I.free, I.freeC, I.pin, I.hok, I.len⟩
theorem SP.unwish {D : Ends} {f : Flow} {s' : Shared} (h : SP (X.wish E) pins D f s') : SP X pins D f s' := by
  cases f with
  | next => obtain ⟨σ', H', I, q⟩ := h; exact ⟨σ', H', I.unwish, q⟩
  | brk => obtain ⟨σ', H', I, q⟩ := h; exact ⟨σ', H', I.unwish, q⟩
  | cont => obtain ⟨σ', H', I, q⟩ := h; exact ⟨σ', H', I.unwish, q⟩
  | ret u => obtain ⟨v, σ', H', I, r, q⟩ := h; exact ⟨v, σ', H', I.unwish, r, q⟩
theorem PSs.nox {st : List Stmt} {t : TS} (h : PSs X.nox st t) : PSs X st t := fun pins s σ H D I hw =>
  wpAny_mono (h pins s σ H D (I.wish _) hw) (fun _ _ q => q.unwish) fun _ _ z => False.elim z
end
section
variable {X : Cx} {st : Stmt} {rest : List Stmt} {t u : TS} {e : Expr} {te : TE} {pos : Pos}
noncomputable def tNext : TS := fun D σ H => D.nx σ H
noncomputable def tSeq (t u : TS) : TS := fun D σ H => t { D with nx := u D } σ H
theorem pss_nil : PSs X [] tNext := fun _ _ σ H _ I h => wpAny_execs_nil ⟨σ, H, I, h⟩
theorem pss_cons (h1 : PS X st t) (h2 : PSs X rest u) : PSs X (st :: rest) (tSeq t u) := by
  intro pins s σ H D I h
  refine wpAny_execs_cons (thn (h1 pins s σ H { D with nx := u D } I h) fun f s1 q => ?_)
  cases f with
  | next =>
    obtain ⟨σ', H', I', q⟩ := q
    exact h2 pins s1 σ' H' D I' q
  | ret v => exact q
  | brk => exact q
  | cont => exact q
theorem pss_one (h1 : PS X st t) : PSs X [st] t := by
  intro pins s σ H D I h
  refine wpAny_execs_cons (thn (h1 pins s σ H D I h) fun f s1 q => ?_)
  cases f with
  | next => exact wpAny_execs_nil q
  | ret v => exact q
  | brk => exact q
  | cont => exact q
noncomputable def tBreak : TS := fun D σ H => D.bk σ H
theorem ps_break : PS X (.Break pos) tBreak := fun _ _ σ H _ I h => wpAny_Break ⟨σ, H, I, h⟩
theorem Inv.quiet {pins : List (Addr × Obj)} {σ : St} {H : Hp} {s : Shared} (I : Inv X pins σ H s) : interactive X.env = false := by simp [interactive, I.ok.kind]
noncomputable def tDrop (te : TE) : TS := fun D σ H => te σ H fun _ H1 => D.nx σ H1
theorem ps_expr (he : PE X e te) (hs : swapsWith e none pos.line X.env = pure false := by rfl) : PS X (.Expr e pos) (tDrop te) := by
  intro pins s σ H D I h
  refine wpAny_Expr_any (thn (he pins s σ H _ I h) fun v s1 zq13 => ?_) I.quiet hs
  obtain ⟨x, H1, I1, r1, q1⟩ := zq13
  exact ⟨σ, H1, I1, q1⟩
noncomputable def tRet (te : TE) : TS := fun D σ H => te σ H D.rt
theorem ps_ret (he : PE X e te) : PS X (.Return (some e) pos) (tRet te) := by
  intro pins s σ H D I h
  refine wpAny_Return_some (thn (he pins s σ H _ I h) fun v s1 zq14 => ?_)
  obtain ⟨x, H1, I1, r1, q1⟩ := zq14
  exact ⟨x, σ, H1, I1, r1, q1⟩
noncomputable def tRetN : TS := fun D _ H => D.rt .non H
noncomputable def tIfS (c : TT) (t u : TS) : TS := fun D σ H => c σ H fun b H1 => if b = true then t D σ H1 else u D σ H1
theorem ps_if {c : Expr} {a b : List Stmt} {tc : TT} (hc : PT X c tc) (ha : PSs X a t) (hb : PSs X b u) : PS X (.If c a b pos) (tIfS tc t u) := by
  intro pins s σ H D I h
  refine wpAny_If (thn (hc pins s σ H _ I h) fun d s1 zq15 => ?_)
  obtain ⟨H1, I1, q1⟩ := zq15
  cases d with
  | true => exact ha pins s1 σ H1 D I1 q1
  | false => exact hb pins s1 σ H1 D I1 q1
end
noncomputable abbrev TG := V → St → Hp → (St → Hp → Prop) → Prop
noncomputable abbrev TGs := List V → St → Hp → (St → Hp → Prop) → Prop
noncomputable def PG (X : Cx) (target : Expr) (t : TG) : Prop :=
  ∀ (pins : List (Addr × Obj)) (s : Shared) (σ : St) (H : Hp) (v : V) (u : Value) (Q : St → Hp → Prop), Inv X pins σ H s → RelV v u → t v σ H Q →
    wpAny (model X.prog X.w) X.A (assign target X.env u) (fun _ s' => ∃ σ' H', Inv X pins σ' H' s' ∧ Q σ' H') X.xe s
noncomputable def PGs (X : Cx) (ts : List Expr) (t : TGs) : Prop :=
  ∀ (pins : List (Addr × Obj)) (s : Shared) (σ : St) (H : Hp) (vs : List V) (us : List Value) (Q : St → Hp → Prop), Inv X pins σ H s → Vals vs us → t vs σ H Q →
    wpAny (model X.prog X.w) X.A (assignInOrder ((assignEach ts X.env).map (·.2)) us) (fun _ s' => ∃ σ' H', Inv X pins σ' H' s' ∧ Q σ' H') X.xe s
noncomputable abbrev TIp := V → V → Hp → VK → Prop
noncomputable def PIp (X : Cx) (op : Operator) (t : TIp) : Prop :=
  ∀ (pins : List (Addr × Obj)) (s : Shared) (σ : St) (H : Hp) (x y : V) (v u : Value) (Q : VK), Inv X pins σ H s → RelV x v → RelV y u → t x y H Q →
    wpAny (model X.prog X.w) X.A (inplaceOp op v u) (EP X pins σ Q) X.xe s
section
variable {X : Cx} {pos : Pos}
noncomputable def gName (i : Nat) : TG := fun v σ H Q => Q (σ.set i (some v)) H
theorem pg_name {i : Nat} {x : Str} (hN : X.N.Nodup) (hi : X.N[i]? = some x) (hx : Loc X.env.scope x) (hf : X.fn x = true ∨ X.env.scope.names.lookup x = some .local := by first | exact .inl rfl | exact .inr rfl | assumption) : PG X (.Name x pos) (gName i) := by
  intro pins s σ H v u Q I r h
  exact wpAny_assign_Name (store_ok I hN hi hx r (fun s' I' => ⟨_, H, I', h⟩) hf)
noncomputable def gNil : TGs := fun vs σ H Q => vs = [] ∧ Q σ H
noncomputable def gCons (t : TG) (u : TGs) : TGs := fun vs σ H Q => ∃ v r, vs = v :: r ∧ t v σ H fun σ' H' => u r σ' H' Q
theorem pgs_nil : PGs X [] gNil := by
  intro pins s σ H vs us Q I r h
  obtain ⟨e, h⟩ := h
  subst e
  cases r
  exact assignInOrder_nil ⟨σ, H, I, h⟩
theorem pgs_cons {e : Expr} {es : List Expr} {t : TG} {u : TGs} (h1 : PG X e t) (h2 : PGs X es u)
    (hs : (assignEach (e :: es) X.env).map (·.2) = assign e X.env :: (assignEach es X.env).map (·.2) := by rfl) : PGs X (e :: es) (gCons t u) := by
  intro pins s σ H vs us Q I r h
  obtain ⟨v, vr, e1, h⟩ := h
  subst e1
  cases r with
  | cons r rr =>
    rw [hs]
    refine assignInOrder_cons (thn (h1 pins s σ H _ _ _ I r h) fun _ s1 zq16 => ?_)
    obtain ⟨σ1, H1, I1, q1⟩ := zq16
    exact h2 pins s1 σ1 H1 _ _ Q I1 rr q1
noncomputable def gTup (K : PySem.W.Frag) (n : Nat) (t : TGs) : TG := fun v σ H Q => ∃ a xs, v = .ref a ∧ SqT K H a xs ∧ xs.length = n ∧ t xs σ H Q
theorem pg_tup {es : List Expr} {k : Nat} {t : TGs} {n : Nat} (hc : X.calm = true) (h : PGs X es t)
    (hn : (assignEach es X.env).length = n := by rfl) (hst : (assignEach es X.env).findIdx? (·.1) = none := by rfl) : PG X (.Tuple es k pos) (gTup X.K n t) := by
  intro pins s σ H v u Q I r hw
  obtain ⟨a, xs, e1, hq, hl, hw⟩ := hw
  subst e1
  cases r
  obtain ⟨its, rv, ht, hz⟩ := I.tuple hq
  refine assign_Tuple_tuple (I.ok.hd hc) ht (by simp [hn, ← hl, rv.length]) hst fun h' hx => ?_
  have I1 : Inv X pins σ H { s with heap := h' } := I.kept (t' := s.toks) fun b o e => hx b o (Nat.ne_of_lt (Heap.lt_size e)) e
  exact h pins _ σ H xs _ Q I1 (by simpa using rv) hw
noncomputable def tAsg (te : TE) (g : TG) : TS := fun D σ H => te σ H fun x H1 => g x σ H1 D.nx
theorem ps_set {i : Nat} {x : Str} {e : Expr} {te : TE} {pos' : Pos} (hN : X.N.Nodup) (hi : X.N[i]? = some x) (hx : Loc X.env.scope x) (he : PE X e te) (hs : swapsWith e (some (.Name x pos')) pos.line X.env = pure false := by rfl) (hf : X.fn x = true ∨ X.env.scope.names.lookup x = some .local := by first | exact .inl rfl | exact .inr rfl | assumption) :
    PS X (.Assign [.Name x pos'] e pos) (tAsg te (gName i)) := by
  intro pins s σ H D I h
  refine wpAny_Assign_Name (thn (he pins s σ H _ I h) fun v s1 zq21 => ?_) hs
  obtain ⟨y, H1, I1, r1, q1⟩ := zq21
  exact store_ok I1 hN hi hx r1 (fun s2 I2 => ⟨_, H1, I2, q1⟩) hf
noncomputable def tAug (i : Nat) (te : TE) (ti : TIp) : TS := fun D σ H => ∃ x, σ[i]? = some (some x) ∧ te σ H fun y H1 => ti x y H1 fun z H2 => D.nx (σ.set i (some z)) H2
theorem ps_aug {i : Nat} {x : Str} {e : Expr} {te : TE} {op : Operator} {ti : TIp} {pos' : Pos} (hN : X.N.Nodup) (hi : X.N[i]? = some x) (hx : Loc X.env.scope x) (he : PE X e te) (ho : PIp X op ti) (hf : X.fn x = true ∨ X.env.scope.names.lookup x = some .local := by first | exact .inl rfl | exact .inr rfl | assumption) :
    PS X (.AugAssign (.Name x pos') op e pos) (tAug i te ti) := by
  intro pins s σ H D I h
  obtain ⟨v, e1, h⟩ := h
  obtain ⟨m, hn, hl⟩ := I.loc
  have vis : Vis X.env.scope x := by rcases hx with k | k; exact .inl k; exact .inr (.inl k)
  obtain ⟨u, r, l⟩ := hl i x v hi e1 vis
  refine wpAny_AugAssign_Name ?_
  have go : wpAny (model X.prog X.w) X.A (eval e X.env) (fun w s₂ => wpAny (model X.prog X.w) X.A (inplaceOp op u w) (fun r s₃ => wpAny (model X.prog X.w) X.A (storeName X.env x r) (fun _ => SP X pins D .next) X.xe s₃) X.xe s₂) X.xe s := by
    refine thn (he pins s σ H _ I h) fun w s1 zq23 => ?_
    obtain ⟨y, H1, I1, r1, q1⟩ := zq23
    refine thn (ho pins s1 σ H1 v y u w _ I1 r r1 q1) fun z s2 zq24 => ?_
    obtain ⟨zv, H2, I2, r2, q2⟩ := zq24
    exact store_ok I2 hN hi hx r2 (fun s3 I3 => ⟨_, H2, I3, q2⟩) hf
  rcases l with ⟨hk, hm⟩ | ⟨hk, c, hc, hcell⟩
  · exact wpAny_loadName_local I.ok.kind hk hn hm go
  · rcases hk with hk | hk
    · exact wpAny_loadName_cell I.ok.kind hk hc hcell go
    · rcases hx with k | k
      · have : X.env.scope.names.lookup x = some .free := hk
        rw [k] at this; cases this
      · have : X.env.scope.names.lookup x = some .free := hk
        rw [k] at this; cases this
noncomputable def ipI (f : Int → Int → Int) : TIp := fun x y H Q => ∃ i j, x = .int i ∧ y = .int j ∧ Q (.int (f i j)) H
theorem ip_add : PIp X .Add (ipI fun i j => i + j) := by
  intro pins s σ H x y v u Q I r1 r2 h
  obtain ⟨i, j, e1, e2, q⟩ := h
  subst e1; subst e2
  obtain ⟨t, rfl⟩ := r1
  obtain ⟨t', rfl⟩ := r2
  exact iadd_int ⟨.int _, H, I.tok _, ⟨_, rfl⟩, q⟩
end
structure It where
  go : Nat → Hp → Prop
  yld : Nat → Hp → V → Hp → Prop
  stop : Nat → Hp → Prop
noncomputable def FpOk (X : Cx) (pins : List (Addr × Obj)) (H : Hp) (b : Addr) : Prop :=
  H b = none ∧ b ≠ X.env.locals ∧ b ∉ X.fs ∧ (b ∈ X.ex ∨ X.s_0.heap.objs.size ≤ b) ∧ (∀ x c, X.env.cells.lookup x = some c → c ≠ b) ∧ ∀ p ∈ X.pn ++ pins, p.1 ≠ b
theorem Inv.fpOk {X : Cx} {pins : List (Addr × Obj)} {σ : St} {H H' : Hp} {s : Shared} {b : Addr} (I : Inv X pins σ H s) (hb : s.heap.objs.size ≤ b) (hn : H' b = none) : FpOk X pins H' b := by
  refine ⟨hn, Nat.ne_of_gt (Nat.lt_of_lt_of_le I.lt hb), I.nofs hb, .inr (Nat.le_trans I.sz hb), fun x c e z => ?_, fun p hp z => ?_⟩
  · obtain ⟨v, q⟩ := I.cell x c e
    exact absurd (Nat.lt_of_lt_of_le q.lt (by rw [z]; exact hb)) (Nat.lt_irrefl _)
  · exact absurd (Nat.lt_of_lt_of_le (Heap.lt_size (I.pin p hp).1) (by rw [z]; exact hb)) (Nat.lt_irrefl _)
structure Turn (P : Program) (w : World) (K : PySem.W.Frag) (tg : Expr) (J : It) (fp : List Addr) (it : Addr) (tn : Nat → Heap → Prop) : Prop where
  mem : it ∈ fp
  obj : ∀ i h, tn i h → ∀ b ∈ fp, ∃ o, h.get? b = some o ∧ ∀ v, o.data ≠ .cell v
  keep : ∀ i h h', tn i h → (∀ b ∈ fp, ∀ o, h.get? b = some o → h'.get? b = some o) → tn i h'
  item : ∀ (X : Cx), X.prog = P → X.w = w → X.K = K → X.calm = true → ∀ (i : Nat) (pins : List (Addr × Obj)) (s : Shared) (σ : St) (H : Hp) (E : Value → Shared → Prop), Inv X pins σ H s → (∀ b ∈ fp, FpOk X pins H b) → tn i s.heap → J.go i H →
    wpAny (model P w) X.A (pyNext (.ref it)) (fun r s1 => ∃ u, r = some u ∧
      wpAny (model P w) X.A (letOwnedTupleGo tg (.ref it) u) (fun _ s2 => ∃ x H', Inv X pins σ H' s2 ∧ RelV x u ∧ J.yld i H x H' ∧ tn (i + 1) s2.heap ∧ ∀ b ∈ fp, H' b = none) E s1) E s
  done : ∀ (X : Cx), X.prog = P → X.w = w → X.K = K → X.calm = true → ∀ (i : Nat) (pins : List (Addr × Obj)) (s : Shared) (σ : St) (H : Hp) (E : Value → Shared → Prop), Inv X pins σ H s → (∀ b ∈ fp, FpOk X pins H b) → tn i s.heap → J.stop i H →
    wpAny (model P w) X.A (pyNext (.ref it)) (fun r s1 => r = none ∧ Inv X pins σ H s1) E s
  self : ∀ (A : Around) (i : Nat) (s : Shared) (Q : Value → Shared → Prop) (E : Value → Shared → Prop), tn i s.heap → Q (.ref it) s → wpAny (model P w) A (pyIter (.ref it)) Q E s
noncomputable abbrev TI := St → Hp → (It → Hp → Prop) → Prop
noncomputable def PIE (X : Cx) (pins : List (Addr × Obj)) (σ : St) (tg : Expr) (R : It → Hp → Prop) (itv : Value) (s2 : Shared) : Prop :=
  ∃ (it : Addr) (fp : List Addr) (tn : Nat → Heap → Prop) (J : It) (H' : Hp), itv = .ref it ∧ Inv X pins σ H' s2 ∧ Turn X.prog X.w X.K tg J fp it tn ∧ tn 0 s2.heap ∧ (∀ b ∈ fp, FpOk X pins H' b) ∧ R J H'
noncomputable def PI (X : Cx) (tg iter : Expr) (wi : TI) : Prop :=
  ∀ (pins : List (Addr × Obj)) (s : Shared) (σ : St) (H : Hp) (R : It → Hp → Prop), Inv X pins σ H s → wi σ H R →
    wpAny (model X.prog X.w) X.A (eval iter X.env) (fun v s1 => wpAny (model X.prog X.w) X.A (pyIter v) (PIE X pins σ tg R) X.xe s1) X.xe s
theorem go_of {M : Model} {A : Around} {E : Value → Shared → Prop} {s : Shared} {tg : Expr} {it : Addr} {u : Value} {o : Obj} {n : String} {vs : Array Value} {Q : Unit → Shared → Prop} (ho : s.heap.get? it = some o) (hc : o.cls = .type n) (hd : o.data = .fields vs)
    (hn : ["enumerate", "zip", "dict_itemiterator", "dict_reverseitemiterator", "odict_iterator", "itertools.zip_longest", "itertools.pairwise"].contains n = false) (hQ : Q () s) : wpAny M A (letOwnedTupleGo tg (.ref it) u) Q E s := by
  unfold letOwnedTupleGo
  cases tg <;> first
    | exact wpAny_pure hQ
    | (cases u <;> first
        | exact wpAny_pure hQ
        | (refine wpAny_bind (wpAny_load ho ?_)
           rw [hc, hd]
           show wpAny M A (if (["enumerate", "zip", "dict_itemiterator", "dict_reverseitemiterator", "odict_iterator", "itertools.zip_longest", "itertools.pairwise"].contains n && vs[0]? == some (rawInt _)) = true then _ else _) Q E s
           rw [if_neg (by intro h; rw [hn, Bool.false_and] at h; cases h)]
           exact wpAny_pure hQ))
noncomputable def Itl (K : PySem.W.Frag) (a : Addr) : It :=
  ⟨fun i H => ∃ xs x, SqL K H a xs ∧ xs[i]? = some x, fun i H x H' => H' = H ∧ ∀ xs, SqL K H a xs → xs[i]? = some x, fun i H => ∃ xs, SqL K H a xs ∧ xs.length ≤ i⟩
noncomputable def Itr (lo : Int) (n : Nat) : It := ⟨fun i _ => i < n, fun i H x H' => H' = H ∧ x = .int (lo + i), fun i _ => n ≤ i⟩
theorem turn_list {P : Program} {w : World} {K : PySem.W.Frag} {tg : Expr} (a it : Addr) : Turn P w K tg (Itl K a) [it] it (fun i h => h.IsListIter it a i) where
  mem := by simp
  obj := fun i h st b hb => by
    have e : b = it := by simpa using hb
    subst e
    obtain ⟨o, e, c, d⟩ := st
    exact ⟨o, e, fun v z => by rw [d] at z; cases z⟩
  keep := fun i h h' st k => st.at fun o e => k it (by simp) o e
  item := by
    intro X hP hw hK hc i pins s σ H E I hf st hg
    subst hP hw hK
    obtain ⟨xs, x, hq, hx⟩ := hg
    obtain ⟨its, rv, p, hz⟩ := I.list hq
    obtain ⟨u, hu, ru⟩ := rv.get hx
    obtain ⟨f0, f1, f2, f3, f4, f5⟩ := hf it (by simp)
    refine wpAny_pyNext_list_item st p.isList (x := u) (by simpa using hu) fun h' st' sb => ?_
    have I1 : Inv X pins σ H { s with heap := h' } := I.turned (t' := s.toks) (fun b o hb e => (sb.2 b hb).trans e) f0 f1 f3 f4 f5
    obtain ⟨o, e, c, d⟩ := id st'
    exact ⟨u, rfl, go_of (s := { s with heap := h' }) e c d (by decide) ⟨x, H, I1, ru, ⟨rfl, fun ys hy => by rw [I.list_inj hy hq]; exact hx⟩, st', fun b hb => (hf b hb).1⟩⟩
  done := by
    intro X hP hw hK hc i pins s σ H E I hf st hg
    subst hP hw hK
    obtain ⟨xs, hq, hx⟩ := hg
    obtain ⟨its, rv, p, hz⟩ := I.list hq
    obtain ⟨f0, f1, f2, f3, f4, f5⟩ := hf it (by simp)
    have hl := rv.length
    exact wpAny_pyNext_list_end (I.ok.hd hc) st p.isList (by simp; omega) fun h' eb => ⟨rfl, I.turned (t' := s.toks) (fun b o hb e => eb b o hb e) f0 f1 f3 f4 f5⟩
  self := fun _ _ _ _ _ st h => wpAny_pyIter_listiter st h
theorem turn_range {P : Program} {w : World} {K : PySem.W.Frag} {tg : Expr} (it : Addr) (lo : Int) (n : Nat) : Turn P w K tg (Itr lo n) [it] it (fun i h => IsRangeIter h it (lo + (i : Nat) * 1) ((n : Int) - (i : Nat)) 1) where
  mem := by simp
  obj := fun i h st b hb => by
    have e : b = it := by simpa using hb
    subst e
    exact ⟨_, st, fun v z => by
      have z' : Data.fields _ = Data.cell v := z
      cases z'⟩
  keep := fun i h h' st k => k it (by simp) _ st
  item := by
    intro X hP hw hK hc i pins s σ H E I hf st hg
    subst hP hw hK
    obtain ⟨f0, f1, f2, f3, f4, f5⟩ := hf it (by simp)
    have W := Walks.range (prog := X.prog) (w := X.w) (I.ok.hd hc) it lo 1 n
    refine W.item i s _ _ hg st fun v h' tk hv st' kk => ?_
    obtain ⟨t, rfl⟩ := hv
    have I1 : Inv X pins σ H { s with heap := h', toks := tk } := I.turned (fun b o hb e => kk b o (by simpa using hb) e) f0 f1 f3 f4 f5
    refine ⟨_, rfl, go_of (s := { s with heap := h', toks := tk }) (n := "range_iterator") st' rfl rfl (by decide) ⟨.int (lo + i), H, I1, ⟨t, ?_⟩, ⟨rfl, rfl⟩, st', fun b hb => (hf b hb).1⟩⟩
    rw [Int.mul_one]
  done := by
    intro X hP hw hK hc i pins s σ H E I hf st hg
    subst hP hw hK
    obtain ⟨f0, f1, f2, f3, f4, f5⟩ := hf it (by simp)
    exact wpAny_pyNext_range_end (I.ok.hd hc) st (by have : n ≤ i := hg; omega) fun h' eb => ⟨rfl, I.turned (t' := s.toks) (fun b o hb e => eb b o hb e) f0 f1 f3 f4 f5⟩
  self := fun _ _ _ _ _ st h => wpAny_pyIter_rangeiter st h
end L2
namespace L2
open PySem PySem.Spec PyProof.Rows
section
variable {X : Cx} {tg : Expr}
noncomputable def iList (K : PySem.W.Frag) (tl : TE) : TI := fun σ H R => tl σ H fun x H1 => ∃ a, x = .ref a ∧ (∃ xs, SqL K H1 a xs) ∧ R (Itl K a) H1
theorem pi_list {l : Expr} {tl : TE} (hl : PE X l tl) : PI X tg l (iList X.K tl) := by
  intro pins s σ H R I h
  refine thn (hl pins s σ H _ I h) fun v s1 zq32 => ?_
  obtain ⟨x, H1, I1, r1, q1⟩ := zq32
  obtain ⟨a, e, ⟨xs, hq⟩, q⟩ := q1
  subst e
  cases r1
  obtain ⟨its, rv, p, hz⟩ := I1.list hq
  refine wpAny_pyIter_list p.isList ?_
  refine ⟨s1.heap.objs.size, [s1.heap.objs.size], _, _, H1, rfl, I1.kept (t' := s1.toks) fun b o e => Heap.get?_push_of_some _ e, turn_list a _, ⟨_, Heap.get?_push_size _ rfl, rfl, rfl⟩, fun b hb => ?_, q⟩
  have e : b = s1.heap.objs.size := by simpa using hb
  subst e
  exact I1.fpOk (Nat.le_refl _) (I1.hok.fresh (Nat.le_refl _))
theorem range_it {pins : List (Addr × Obj)} {σ : St} {H : Hp} {s : Shared} {R : It → Hp → Prop} {E : Value → Shared → Prop} {lo hi : Int} {t u v : Tok} {tk : Nat} (I : Inv X pins σ H s) (h1 : -(2 ^ 62) ≤ lo) (h2 : lo < 2 ^ 62) (h3 : -(2 ^ 62) ≤ hi) (h4 : hi < 2 ^ 62)
    (q : R (Itr lo (hi - lo).toNat) H) : wpAny (model X.prog X.w) X.A (pyIter (.ref s.heap.objs.size)) (PIE X pins σ tg R) E { s with heap := s.heap.push { cls := .type "range", data := .fields #[.int lo t, .int hi u, .int 1 v] }, toks := tk } := by
  refine wpAny_pyIter_range (IsRange.new ..) (small_one h1 h2 h3 h4) ?_
  have I1 : Inv X pins σ H { s with heap := s.heap.push { cls := .type "range", data := .fields #[.int lo t, .int hi u, .int 1 v] }, toks := tk } := I.kept fun b o e => Heap.get?_push_of_some _ e
  refine ⟨(s.heap.push { cls := .type "range", data := .fields #[.int lo t, .int hi u, .int 1 v] }).objs.size, [(s.heap.push { cls := .type "range", data := .fields #[.int lo t, .int hi u, .int 1 v] }).objs.size], _, _, H, rfl,
    I1.kept (t' := tk) fun b o e => Heap.get?_push_of_some _ e, turn_range _ lo (hi - lo).toNat, ?_, fun b hb => ?_, q⟩
  · have e1 : lo + ((0 : Nat) : Int) * 1 = lo := by simp
    have e2 : (((hi - lo).toNat : Nat) : Int) - ((0 : Nat) : Int) = Builtin.Range.rangeSize lo hi 1 := by rw [rangeSize_one]; split <;> omega
    show IsRangeIter _ _ (lo + ((0 : Nat) : Int) * 1) ((((hi - lo).toNat : Nat) : Int) - ((0 : Nat) : Int)) 1
    rw [e1, e2]
    exact Heap.get?_push_size _ rfl
  · have e : b = (s.heap.push { cls := .type "range", data := .fields #[.int lo t, .int hi u, .int 1 v] }).objs.size := by simpa using hb
    subst e
    exact I1.fpOk (Nat.le_refl _) (I1.hok.fresh (Nat.le_refl _))
noncomputable def iRng1 (ta : TA) : TI := fun σ H R => ta σ H fun vs H1 => ∃ j : Int, vs = [.int j] ∧ -(2 ^ 62) ≤ j ∧ j < 2 ^ 62 ∧ R (Itr 0 j.toNat) H1
noncomputable def iRng2 (ta : TA) : TI := fun σ H R => ta σ H fun vs H1 => ∃ i j : Int, vs = [.int i, .int j] ∧ (-(2 ^ 62) ≤ i ∧ i < 2 ^ 62 ∧ -(2 ^ 62) ≤ j ∧ j < 2 ^ 62) ∧ R (Itr i (j - i).toNat) H1
theorem pi_range1 {a : Expr} {ta : TA} {p pos : Pos} (hg : Gl X "range") (hm : X.mg "range" = none) (ha : PA X [a] ta) (hs : starEach [a] X.env = [(false, eval a X.env)] := by rfl) : PI X tg (.Call (.Name "range" p) [a] [] pos) (iRng1 ta) := by
  intro pins s σ H R I h
  refine Call_ (ld_blt I hg hm boot_range (PyProof.Rows.callWith_type1 (thn (ha pos pins s σ H _ I h) fun us s1 zq34 => ?_) hs rfl))
  obtain ⟨vs, H1, I1, r1, q1⟩ := zq34
  obtain ⟨j, e, q1, q2, q⟩ := q1
  subst e
  cases r1 with
  | cons r rr =>
    cases rr
    obtain ⟨t, rfl⟩ := r
    exact call_range_1 (range_it I1 (by omega) (by omega) q1 q2 (by simpa using q))
theorem pi_range2 {a b : Expr} {ta : TA} {p pos : Pos} (hg : Gl X "range") (hm : X.mg "range" = none) (ha : PA X [a, b] ta) (hs : starEach [a, b] X.env = [(false, eval a X.env), (false, eval b X.env)] := by rfl) (hs2 : starEach [b] X.env = [(false, eval b X.env)] := by rfl) :
    PI X tg (.Call (.Name "range" p) [a, b] [] pos) (iRng2 ta) := by
  intro pins s σ H R I h
  refine Call_ (ld_blt I hg hm boot_range (PyProof.Rows.callWith_type1 (thn (ha pos pins s σ H _ I h) fun us s1 zq35 => ?_) (by rw [hs, hs2]) (by rw [hs2]; rfl)))
  obtain ⟨vs, H1, I1, r1, q1⟩ := zq35
  obtain ⟨i, j, e, ⟨q1, q2, q3, q4⟩, q⟩ := q1
  subst e
  cases r1 with
  | cons r rr =>
    cases rr with
    | cons r' rr =>
      cases rr
      obtain ⟨t, rfl⟩ := r
      obtain ⟨t', rfl⟩ := r'
      exact call_range_2 (range_it I1 q1 q2 q3 q4 q)
noncomputable def tFor (wi : TI) (g : TG) (tb : TS) : TS := fun D σ H => wi σ H fun J H1 => ∃ W : Nat → Nat → St → Hp → Prop, (∃ m, W 0 m σ H1) ∧ ∀ i m σ H, W i m σ H →
  (J.stop i H ∧ D.nx σ H) ∨ (J.go i H ∧ ∃ N : St → Hp → Prop, (∀ σ' H', N σ' H' → ∃ m', m' < m ∧ W (i + 1) m' σ' H') ∧ ∀ x H', J.yld i H x H' → g x σ H' fun σ2 H2 => tb { D with nx := N, ct := N, bk := D.nx } σ2 H2)
noncomputable def pinsAt (fp : List Addr) (h : Heap) : List (Addr × Obj) := fp.filterMap fun b => (h.get? b).map fun o => (b, o)
theorem mem_pinsAt {fp : List Addr} {h : Heap} {b : Addr} {o : Obj} (hb : b ∈ fp) (e : h.get? b = some o) : (b, o) ∈ pinsAt fp h := List.mem_filterMap.mpr ⟨b, hb, by rw [e]; rfl⟩
theorem of_pinsAt {fp : List Addr} {h : Heap} {p : Addr × Obj} (hp : p ∈ pinsAt fp h) : p.1 ∈ fp ∧ h.get? p.1 = some p.2 := by
  obtain ⟨b, hb, e⟩ := List.mem_filterMap.mp hp
  cases q : h.get? b with
  | none => rw [q] at e; cases e
  | some o =>
    rw [q] at e
    have e' : (b, o) = p := Option.some.inj e
    subst e'
    exact ⟨hb, q⟩
theorem Inv.pinned {pins : List (Addr × Obj)} {σ : St} {H : Hp} {s : Shared} {fp : List Addr} (I : Inv X pins σ H s) (hf : ∀ b ∈ fp, FpOk X pins H b) (ho : ∀ b ∈ fp, ∃ o, s.heap.get? b = some o ∧ ∀ v, o.data ≠ .cell v) : Inv X (pins ++ pinsAt fp s.heap) σ H s :=
  I.pins_of fun p hp => (List.mem_append.mp hp).elim (fun z => I.pin p (List.mem_append_right _ z)) fun z => by
    obtain ⟨hb, e⟩ := of_pinsAt z
    obtain ⟨f0, f1, f2, _⟩ := hf p.1 hb
    obtain ⟨o, e', d⟩ := ho p.1 hb
    rw [e] at e'; cases e'
    exact ⟨e, f0, f1, f2, d⟩
theorem Inv.unpinned {pins pl : List (Addr × Obj)} {σ : St} {H : Hp} {s : Shared} (I : Inv X (pins ++ pl) σ H s) : Inv X pins σ H s := I.pins_of fun p hp => I.pin p (List.mem_append_right _ (List.mem_append_left _ hp))
theorem ps_for {iter : Expr} {body : List Stmt} {wi : TI} {g : TG} {tb : TS} {pos : Pos} (hp : PassesOwn (model X.prog X.w) X.A X.env X.xe) (hc : X.calm = true) (hi : PI X tg iter wi) (hg : PG X tg g) (hb : PSs X body tb)
    (hs : ∀ x, foldedSetIterable iter X.env x = pure x := by intro _; rfl) : PS X (.For tg iter body [] pos) (tFor wi g tb) := by
  intro pins s σ H D I h
  refine wpAny_For (thn (hi pins s σ H _ I h) fun v s1 h1 => thn h1 fun itv s2 h2 => ?_) hs
  obtain ⟨it, fp, tn, J, H2, e, I2, T, st2, f2, W, ⟨m0, w0⟩, turn⟩ := h2
  subst e
  -- what stays true of the iterator's objects through the loop
  have stat : ∀ {H' : Hp}, (∀ b ∈ fp, H' b = none) → ∀ b ∈ fp, FpOk X pins H' b := fun hn b hb => ⟨hn b hb, (f2 b hb).2⟩
  refine codeAny_forLoop_any (fun n s' => ∃ i σ' H', Inv X pins σ' H' s' ∧ tn i s'.heap ∧ (∀ b ∈ fp, H' b = none) ∧ W i n σ' H') ?_ m0 ⟨0, σ, H2, I2, st2, fun b hb => (f2 b hb).1, w0⟩
  rintro n s3 ⟨i, σ3, H3, I3, st3, fr3, w3⟩
  rcases turn i n σ3 H3 w3 with ⟨stop, qn⟩ | ⟨go, N, hN, step⟩
  · refine wpAny_passesOwn hp (thn (T.done X rfl rfl rfl hc i pins s3 σ3 H3 X.xe I3 (stat fr3) st3 stop) fun r s4 zq36 => ?_)
    obtain ⟨hr, I4⟩ := zq36
    subst hr
    exact wpAny_execs_nil ⟨σ3, H3, I4, qn⟩
  · refine wpAny_passesOwn hp (thn (T.item X rfl rfl rfl hc i pins s3 σ3 H3 X.xe I3 (stat fr3) st3 go) fun r s4 zq37 => ?_)
    obtain ⟨u, hr, h4⟩ := zq37
    subst hr
    refine wpAny_passesOwn hp (thn h4 fun _ s5 zq38 => ?_)
    obtain ⟨x, H5, I5, r5, y5, st5, fr5⟩ := zq38
    have I5' := I5.pinned (stat fr5) (T.obj _ _ st5)
    refine wpAny_passesOwn hp (thn (hg _ s5 σ3 H5 x u _ I5' r5 (step x H5 y5)) fun _ s6 zq39 => ?_)
    obtain ⟨σ6, H6, I6, q6⟩ := zq39
    refine wpAny_passesOwn hp (thn (hb _ s6 σ6 H6 _ I6 q6) fun f s7 q7 => ?_)
    have again : ∀ {σ7 : St} {H7 : Hp}, Inv X (pins ++ pinsAt fp s5.heap) σ7 H7 s7 → N σ7 H7 → ∃ m, m < n ∧ ∃ i σ' H', Inv X pins σ' H' s7 ∧ tn i s7.heap ∧ (∀ b ∈ fp, H' b = none) ∧ W i m σ' H' := fun {σ7 H7} I7 n7 => by
      obtain ⟨m', hm, w7⟩ := hN σ7 H7 n7
      refine ⟨m', hm, i + 1, σ7, H7, I7.unpinned, T.keep _ _ _ st5 fun b hb o e => (I7.pin (b, o) (List.mem_append_right _ (List.mem_append_right _ (mem_pinsAt hb e)))).1, fun b hb => ?_, w7⟩
      obtain ⟨o, e, d⟩ := T.obj _ _ st5 b hb
      exact (I7.pin (b, o) (List.mem_append_right _ (List.mem_append_right _ (mem_pinsAt hb e)))).2.1
    cases f with
    | next => obtain ⟨σ7, H7, I7, n7⟩ := q7; exact again I7 n7
    | cont => obtain ⟨σ7, H7, I7, n7⟩ := q7; exact again I7 n7
    | brk => obtain ⟨σ7, H7, I7, q7⟩ := q7; exact ⟨σ7, H7, I7.unpinned, q7⟩
    | ret v => obtain ⟨x7, σ7, H7, I7, r7, q7⟩ := q7; exact ⟨x7, σ7, H7, I7.unpinned, r7, q7⟩
end
theorem for_list {K : PySem.W.Frag} {a : Addr} {xs : List V} {g : TG} {tb : TS} {D : Ends} {σ : St} {H : Hp} (Pv : Nat → St → Hp → Prop) (h0 : Pv 0 σ H) (hl : ∀ i σ H, i ≤ xs.length → Pv i σ H → SqL K H a xs)
    (hs : ∀ i x σ H, xs[i]? = some x → Pv i σ H → g x σ H fun σ2 H2 => tb { D with nx := Pv (i + 1), ct := Pv (i + 1), bk := D.nx } σ2 H2) (hd : ∀ σ H, Pv xs.length σ H → D.nx σ H) :
    ∃ W : Nat → Nat → St → Hp → Prop, (∃ m, W 0 m σ H) ∧ ∀ i m σ H, W i m σ H →
      ((Itl K a).stop i H ∧ D.nx σ H) ∨ ((Itl K a).go i H ∧ ∃ N : St → Hp → Prop, (∀ σ' H', N σ' H' → ∃ m', m' < m ∧ W (i + 1) m' σ' H') ∧ ∀ x H', (Itl K a).yld i H x H' → g x σ H' fun σ2 H2 => tb { D with nx := N, ct := N, bk := D.nx } σ2 H2) := by
  refine ⟨fun i m σ H => m = xs.length - i ∧ i ≤ xs.length ∧ Pv i σ H, ⟨xs.length, by simp, Nat.zero_le _, h0⟩, ?_⟩
  rintro i m σ H ⟨rfl, hi, p⟩
  have q := hl i σ H hi p
  by_cases hlt : i < xs.length
  · refine .inr ⟨⟨xs, xs[i], q, by simp [hlt]⟩, Pv (i + 1), fun σ' H' p' => ⟨xs.length - (i + 1), by omega, rfl, hlt, p'⟩, fun x H' y => ?_⟩
    obtain ⟨e, y⟩ := y
    subst e
    exact hs i x σ _ (y xs q) p
  · have e : i = xs.length := by omega
    subst e
    exact .inl ⟨⟨xs, q, Nat.le_refl _⟩, hd σ H p⟩
theorem for_range {lo : Int} {n : Nat} {g : TG} {tb : TS} {D : Ends} {σ : St} {H : Hp} (Pv : Nat → St → Hp → Prop) (h0 : Pv 0 σ H)
    (hs : ∀ i σ H, i < n → Pv i σ H → g (.int (lo + i)) σ H fun σ2 H2 => tb { D with nx := Pv (i + 1), ct := Pv (i + 1), bk := D.nx } σ2 H2) (hd : ∀ σ H, Pv n σ H → D.nx σ H) :
    ∃ W : Nat → Nat → St → Hp → Prop, (∃ m, W 0 m σ H) ∧ ∀ i m σ H, W i m σ H →
      ((Itr lo n).stop i H ∧ D.nx σ H) ∨ ((Itr lo n).go i H ∧ ∃ N : St → Hp → Prop, (∀ σ' H', N σ' H' → ∃ m', m' < m ∧ W (i + 1) m' σ' H') ∧ ∀ x H', (Itr lo n).yld i H x H' → g x σ H' fun σ2 H2 => tb { D with nx := N, ct := N, bk := D.nx } σ2 H2) := by
  refine ⟨fun i m σ H => m = n - i ∧ i ≤ n ∧ Pv i σ H, ⟨n, by simp, Nat.zero_le _, h0⟩, ?_⟩
  rintro i m σ H ⟨rfl, hi, p⟩
  by_cases hlt : i < n
  · refine .inr ⟨hlt, Pv (i + 1), fun σ' H' p' => ⟨n - (i + 1), by omega, rfl, hlt, p'⟩, fun x H' y => ?_⟩
    obtain ⟨e, y⟩ := y
    subst e y
    exact hs i σ _ hlt p
  · have e : i = n := by omega
    subst e
    exact .inl ⟨Nat.le_refl _, hd σ H p⟩
end L2
namespace L2
open PySem PySem.Spec PyProof.Rows
noncomputable abbrev R2 := V → V → Hp → VK → Prop
noncomputable def OpR (X : Cx) (f : Value → Value → Sem Value) (r : R2) : Prop :=
  ∀ (pins : List (Addr × Obj)) (s : Shared) (σ : St) (H : Hp) (x y : V) (v u : Value) (Q : VK), Inv X pins σ H s → RelV x v → RelV y u → r x y H Q →
    wpAny (model X.prog X.w) X.A (f v u) (EP X pins σ Q) X.xe s
noncomputable def UnR (X : Cx) (f : Value → Sem Value) (r : V → Hp → VK → Prop) : Prop :=
  ∀ (pins : List (Addr × Obj)) (s : Shared) (σ : St) (H : Hp) (x : V) (v : Value) (Q : VK), Inv X pins σ H s → RelV x v → r x H Q →
    wpAny (model X.prog X.w) X.A (f v) (EP X pins σ Q) X.xe s
noncomputable def CallR (X : Cx) (f : Value) (r : List V → Hp → VK → Prop) : Prop :=
  ∀ (pins : List (Addr × Obj)) (s : Shared) (σ : St) (H : Hp) (xs : List V) (us : List Value) (Q : VK), Inv X pins σ H s → Vals xs us → r xs H Q →
    wpAny (model X.prog X.w) X.A (call f us) (EP X pins σ Q) X.xe s
noncomputable def tOp (r : R2) (ta tb : TE) : TE := fun σ H Q => ta σ H fun x H1 => tb σ H1 fun y H2 => r x y H2 Q
noncomputable def tUn (r : V → Hp → VK → Prop) (ta : TE) : TE := fun σ H Q => ta σ H fun x H1 => r x H1 Q
noncomputable def rI (C : Int → Int → Prop) (g : Int → Int → V) : R2 := fun x y H Q => ∃ i j, x = .int i ∧ y = .int j ∧ C i j ∧ Q (g i j) H
noncomputable def rI0 (g : Int → Int → V) : R2 := fun x y H Q => ∃ i j, x = .int i ∧ y = .int j ∧ Q (g i j) H
noncomputable def rU (g : Int → V) : V → Hp → VK → Prop := fun x H Q => ∃ i, x = .int i ∧ Q (g i) H
section
variable {X : Cx} {a b c : Expr} {ta tb tc : TE} {pos : Pos}
theorem binT (ha : PE X a ta) (hb : PE X b tb) {pins : List (Addr × Obj)} {s : Shared} {σ : St} {H : Hp} {R : V → V → Hp → Prop} (I : Inv X pins σ H s)
    (h : ta σ H fun x H1 => tb σ H1 fun y H2 => R x y H2) {Q : Value → Shared → Prop} {f : Value → Value → Sem Value}
    (hf : ∀ v u s2 x y H2, Inv X pins σ H2 s2 → RelV x v → RelV y u → R x y H2 → wpAny (model X.prog X.w) X.A (f v u) Q X.xe s2) :
    wpAny (model X.prog X.w) X.A (eval a X.env) (fun v s₁ => wpAny (model X.prog X.w) X.A (eval b X.env) (fun u s₂ => wpAny (model X.prog X.w) X.A (f v u) Q X.xe s₂) X.xe s₁) X.xe s := by
  refine thn (ha pins s σ H _ I h) fun v s1 zq40 => ?_
  obtain ⟨x, H1, I1, r1, q1⟩ := zq40
  refine thn (hb pins s1 σ H1 _ I1 q1) fun u s2 zq41 => ?_
  obtain ⟨y, H2, I2, r2, q2⟩ := zq41
  exact hf v u s2 x y H2 I2 r1 r2 q2
theorem pe_op {op : Operator} {r : R2} (ho : OpR X (binaryOp op) r) (ha : PE X a ta) (hb : PE X b tb) : PE X (.BinOp a op b pos) (tOp r ta tb) := by
  intro pins s σ H Q I h
  exact wpAny_BinOp (binT ha hb I h fun v u s2 x y H2 I2 rx ry q => ho pins s2 σ H2 x y v u Q I2 rx ry q)
theorem pe_un {op : UnaryOp} {r : V → Hp → VK → Prop} (ho : UnR X (unaryOp op) r) (ha : PE X a ta) : PE X (.UnaryOp op a pos) (tUn r ta) := by
  intro pins s σ H Q I h
  refine UnaryOp_ (thn (ha pins s σ H _ I h) fun v s1 zq42 => ?_)
  obtain ⟨x, H1, I1, r1, q1⟩ := zq42
  exact ho pins s1 σ H1 x v Q I1 r1 q1
theorem opI {f : Value → Value → Sem Value} {C : Int → Int → Prop} {g : Int → Int → Int}
    (rule : ∀ (i j : Int) (t u : Tok) (s : Shared) (Q : Value → Shared → Prop) (E : Value → Shared → Prop), C i j → Q (.int (g i j) s.toks) { s with toks := s.toks + 1 } → wpAny (model X.prog X.w) X.A (f (.int i t) (.int j u)) Q E s) :
    OpR X f (rI C fun i j => .int (g i j)) := by
  intro pins s σ H x y v u Q I rx ry h
  obtain ⟨i, j, rfl, rfl, hc, q⟩ := h
  obtain ⟨t, rfl⟩ := rx
  obtain ⟨t', rfl⟩ := ry
  exact rule i j t t' s _ _ hc ⟨.int (g i j), H, I.tok _, ⟨_, rfl⟩, q⟩
theorem opI0 {f : Value → Value → Sem Value} {g : Int → Int → Int}
    (rule : ∀ (i j : Int) (t u : Tok) (s : Shared) (Q : Value → Shared → Prop) (E : Value → Shared → Prop), Q (.int (g i j) s.toks) { s with toks := s.toks + 1 } → wpAny (model X.prog X.w) X.A (f (.int i t) (.int j u)) Q E s) :
    OpR X f (rI0 fun i j => .int (g i j)) := by
  intro pins s σ H x y v u Q I rx ry h
  obtain ⟨i, j, rfl, rfl, q⟩ := h
  obtain ⟨t, rfl⟩ := rx
  obtain ⟨t', rfl⟩ := ry
  exact rule i j t t' s _ _ ⟨.int (g i j), H, I.tok _, ⟨_, rfl⟩, q⟩
theorem opB0 {f : Value → Value → Sem Value} {g : Int → Int → Bool}
    (rule : ∀ (i j : Int) (t u : Tok) (s : Shared) (Q : Value → Shared → Prop) (E : Value → Shared → Prop), Q (.bool (g i j)) s → wpAny (model X.prog X.w) X.A (f (.int i t) (.int j u)) Q E s) :
    OpR X f (rI0 fun i j => .bl (g i j)) := by
  intro pins s σ H x y v u Q I rx ry h
  obtain ⟨i, j, rfl, rfl, q⟩ := h
  obtain ⟨t, rfl⟩ := rx
  obtain ⟨t', rfl⟩ := ry
  exact rule i j t t' s _ _ ⟨.bl (g i j), H, I, rfl, q⟩
noncomputable def CDiv (i j : Int) : Prop := 0 < j ∧ j < 1073741824
noncomputable def CMul (i j : Int) : Prop := (-(2 ^ 64) < i ∧ i < 2 ^ 64) ∨ (-(2 ^ 64) < j ∧ j < 2 ^ 64)
theorem CMul.ok {i j : Int} (h : CMul i j) : IntMulOk i j := by
  rcases h with ⟨h1, h2⟩ | ⟨h1, h2⟩
  · exact .of_left (intBits_le_64 h1 h2)
  · exact .of_right (intBits_le_64 h1 h2)
theorem op_add : OpR X (binaryOp .Add) (rI0 fun i j => .int (i + j)) := opI0 fun _ _ _ _ _ _ _ q => add_int q
theorem op_sub : OpR X (binaryOp .Sub) (rI0 fun i j => .int (i - j)) := opI0 fun _ _ _ _ _ _ _ q => sub_int q
theorem op_mul : OpR X (binaryOp .Mult) (rI CMul fun i j => .int (i * j)) := opI fun _ _ _ _ _ _ _ hc q => mul_int q hc.ok
theorem op_fdiv : OpR X (binaryOp .FloorDiv) (rI CDiv fun i j => .int (i / j)) := opI fun i j _ _ _ _ _ hc q => by
  have h1 : (0 : Int) < j := hc.1
  have h2 : j < 1073741824 := hc.2
  exact floordiv_int (by omega) (by rw [Int.fdiv_eq_ediv_of_nonneg i (by omega)]; exact q) (.inl (PyProof.noPylong_small (by omega)))
theorem op_mod : OpR X (binaryOp .Mod) (rI (fun _ j => 0 < j) fun i j => .int (i % j)) := opI fun i j _ _ _ _ _ hc q => by
  have h1 : (0 : Int) < j := hc
  exact mod_int' (by omega) (by rw [Int.fmod_eq_emod_of_nonneg i (by omega)]; exact q)
theorem unI {f : Value → Sem Value} {g : Int → Int}
    (rule : ∀ (i : Int) (t : Tok) (s : Shared) (Q : Value → Shared → Prop) (E : Value → Shared → Prop), Q (.int (g i) s.toks) { s with toks := s.toks + 1 } → wpAny (model X.prog X.w) X.A (f (.int i t)) Q E s) :
    UnR X f (rU fun i => .int (g i)) := by
  intro pins s σ H x v Q I rx h
  obtain ⟨i, rfl, q⟩ := h
  obtain ⟨t, rfl⟩ := rx
  exact rule i t s _ _ ⟨.int (g i), H, I.tok _, ⟨_, rfl⟩, q⟩
theorem un_neg : UnR X (unaryOp .USub) (rU fun i => .int (-i)) := unI fun _ _ _ _ _ q => neg_int q
end
noncomputable def scal : V → V → Bool
  | .non, .non => true | .non, .int _ => true | .int _, .non => true | .non, .bl _ => true | .bl _, .non => true | .non, .str _ => true | .str _, .non => true
  | .int _, .int _ => true | .bl _, .bl _ => true | .str _, .str _ => true | .byt _, .byt _ => true
  | .int _, .str _ => true | .str _, .int _ => true | .bl _, .str _ => true | .str _, .bl _ => true
  | _, _ => false
noncomputable def rEq : R2 := fun x y H Q => scal x y = true ∧ Q (.bl (decide (x = y))) H
noncomputable def rNe : R2 := fun x y H Q => scal x y = true ∧ Q (.bl (!decide (x = y))) H
theorem dec_int {i j : Int} : decide (V.int i = V.int j) = (i == j) := by
  rw [Bool.eq_iff_iff]
  simp
theorem dec_bl {i j : Bool} : decide (V.bl i = V.bl j) = (i == j) := by
  rw [Bool.eq_iff_iff]
  simp
theorem dec_str {i j : Str} : decide (V.str i = V.str j) = (i == j) := by
  rw [Bool.eq_iff_iff]
  simp
theorem dec_byt {i j : Array UInt8} : decide (V.byt i = V.byt j) = (i.toList == j.toList) := by
  rw [Bool.eq_iff_iff]
  cases i
  cases j
  simp
section
variable {X : Cx} {a b c : Expr} {ta tb tc : TE} {pos : Pos}
theorem fin_bl {pins : List (Addr × Obj)} {σ : St} {H : Hp} {s : Shared} {Q : VK} {k k' : Bool} (I : Inv X pins σ H s) (q : Q (.bl k) H) (e : k = k') : EP X pins σ Q (.bool k') s := by
  subst e
  exact ⟨.bl k, H, I, rfl, q⟩
theorem op_eq : OpR X (compareOp .Eq) rEq := by
  intro pins s σ H x y v u Q I rx ry h
  obtain ⟨hs, q⟩ := h
  cases x with
  | non =>
    cases rx
    cases y with
    | non => cases ry; exact PySem.EqNone.eq_none_none (fin_bl I q (by simp))
    | bl j => cases ry; exact PySem.EqNone.eq_none_bool (fin_bl I q (by simp))
    | int j => obtain ⟨t', rfl⟩ := ry; exact PySem.EqNone.eq_none_int (fin_bl I q (by simp))
    | str j => obtain ⟨t', rfl⟩ := ry; exact PySem.EqNone.eq_none_str (fin_bl I q (by simp))
    | _ => exact absurd (show false = true from hs) Bool.false_ne_true
  | bl i =>
    cases rx
    cases y with
    | non => cases ry; exact PySem.EqNone.eq_bool_none (fin_bl I q (by simp))
    | bl j => cases ry; exact eq_bool (fin_bl I q dec_bl)
    | str j => obtain ⟨t', rfl⟩ := ry; exact PySem.EqMixed.eq_bool_str (fin_bl I q (by simp))
    | _ => exact absurd (show false = true from hs) Bool.false_ne_true
  | int i =>
    obtain ⟨t, rfl⟩ := rx
    cases y with
    | non => cases ry; exact PySem.EqNone.eq_int_none (fin_bl I q (by simp))
    | int j => obtain ⟨t', rfl⟩ := ry; exact eq_int (fin_bl I q dec_int)
    | str j => obtain ⟨t', rfl⟩ := ry; exact PySem.EqMixed.eq_int_str (fin_bl I q (by simp))
    | _ => exact absurd (show false = true from hs) Bool.false_ne_true
  | str i =>
    obtain ⟨t, rfl⟩ := rx
    cases y with
    | non => cases ry; exact PySem.EqNone.eq_str_none (fin_bl I q (by simp))
    | bl j => cases ry; exact PySem.EqMixed.eq_str_bool (fin_bl I q (by simp))
    | int j => obtain ⟨t', rfl⟩ := ry; exact PySem.EqMixed.eq_str_int (fin_bl I q (by simp))
    | str j => obtain ⟨t', rfl⟩ := ry; exact eq_str (fin_bl I q dec_str)
    | _ => exact absurd (show false = true from hs) Bool.false_ne_true
  | byt i =>
    obtain ⟨t, rfl⟩ := rx
    cases y with
    | byt j => obtain ⟨t', rfl⟩ := ry; exact PySem.W.eq_bytes (fin_bl I q dec_byt)
    | _ => exact absurd (show false = true from hs) Bool.false_ne_true
  | _ => cases y <;> exact absurd (show false = true from hs) Bool.false_ne_true
theorem op_ne : OpR X (compareOp .NotEq) rNe := by
  intro pins s σ H x y v u Q I rx ry h
  obtain ⟨hs, q⟩ := h
  cases x with
  | non =>
    cases rx
    cases y with
    | non => cases ry; exact PySem.EqNone.ne_none_none (fin_bl I q (by simp))
    | bl j => cases ry; exact PySem.EqNone.ne_none_bool (fin_bl I q (by simp))
    | int j => obtain ⟨t', rfl⟩ := ry; exact PySem.EqNone.ne_none_int (fin_bl I q (by simp))
    | str j => obtain ⟨t', rfl⟩ := ry; exact PySem.EqNone.ne_none_str (fin_bl I q (by simp))
    | _ => exact absurd (show false = true from hs) Bool.false_ne_true
  | bl i =>
    cases rx
    cases y with
    | non => cases ry; exact PySem.EqNone.ne_bool_none (fin_bl I q (by simp))
    | bl j => cases ry; exact ne_bool (fin_bl I q (congrArg not dec_bl))
    | str j => obtain ⟨t', rfl⟩ := ry; exact PySem.EqMixed.ne_bool_str (fin_bl I q (by simp))
    | _ => exact absurd (show false = true from hs) Bool.false_ne_true
  | int i =>
    obtain ⟨t, rfl⟩ := rx
    cases y with
    | non => cases ry; exact PySem.EqNone.ne_int_none (fin_bl I q (by simp))
    | int j => obtain ⟨t', rfl⟩ := ry; exact ne_int (fin_bl I q (congrArg not dec_int))
    | str j => obtain ⟨t', rfl⟩ := ry; exact PySem.EqMixed.ne_int_str (fin_bl I q (by simp))
    | _ => exact absurd (show false = true from hs) Bool.false_ne_true
  | str i =>
    obtain ⟨t, rfl⟩ := rx
    cases y with
    | non => cases ry; exact PySem.EqNone.ne_str_none (fin_bl I q (by simp))
    | bl j => cases ry; exact PySem.EqMixed.ne_str_bool (fin_bl I q (by simp))
    | int j => obtain ⟨t', rfl⟩ := ry; exact PySem.EqMixed.ne_str_int (fin_bl I q (by simp))
    | str j => obtain ⟨t', rfl⟩ := ry; exact ne_str (fin_bl I q (congrArg not dec_str))
    | _ => exact absurd (show false = true from hs) Bool.false_ne_true
  | byt i =>
    obtain ⟨t, rfl⟩ := rx
    cases y with
    | byt j => obtain ⟨t', rfl⟩ := ry; exact PySem.W.ne_bytes (fin_bl I q (congrArg not dec_byt))
    | _ => exact absurd (show false = true from hs) Bool.false_ne_true
  | _ => cases y <;> exact absurd (show false = true from hs) Bool.false_ne_true
theorem op_lt : OpR X (compareOp .Lt) (rI0 fun i j => .bl (decide (i < j))) := opB0 fun _ _ _ _ _ _ _ q => lt_int q
theorem op_le : OpR X (compareOp .LtE) (rI0 fun i j => .bl (decide (i ≤ j))) := opB0 fun _ _ _ _ _ _ _ q => le_int q
theorem op_gt : OpR X (compareOp .Gt) (rI0 fun i j => .bl (decide (j < i))) := opB0 fun _ _ _ _ _ _ _ q => gt_int q
theorem op_ge : OpR X (compareOp .GtE) (rI0 fun i j => .bl (decide (j ≤ i))) := opB0 fun _ _ _ _ _ _ _ q => ge_int q
theorem op_notN : OpR X (compareOp .IsNot) (fun x y H Q => y = .non ∧ Q (.bl (!decide (x = .non))) H) := by
  intro pins s σ H x y v u Q I rx ry h
  obtain ⟨rfl, q⟩ := h
  cases ry
  refine isnot_none_gen (fin_bl I q ?_)
  cases x <;> first
    | (cases rx; rfl)
    | (obtain ⟨t, rfl⟩ := rx; rfl)
theorem nomark (b : Expr) {op : CmpOp} (h : op ≠ .In := by decide) (h2 : op ≠ .NotIn := by decide) : behindInMarks op b = false := nobehind b h h2
theorem pe_cmpR {op : CmpOp} {r : R2} (ho : OpR X (compareOp op) r) (ha : PE X a ta) (hb : PE X b tb) (hm : behindInMarks op b = false) : PE X (.Compare a [op] [b] pos) (tOp r ta tb) := by
  intro pins s σ H Q I h
  exact wpAny_Compare1 (binT ha hb I h fun v u s2 x y H2 I2 rx ry q => ho pins s2 σ H2 x y v u Q I2 rx ry q) hm
noncomputable def tTest (t : TE) : TT := fun σ H Q => t σ H fun x H' => ∃ k, x = .bl k ∧ Q k H'
theorem pt_cmpR {op : CmpOp} {r : R2} (ho : OpR X (compareOp op) r) (ha : PE X a ta) (hb : PE X b tb) (hm : behindInMarks op b = false) : PT X (.Compare a [op] [b] pos) (tTest (tOp r ta tb)) := by
  intro pins s σ H Q I h
  refine wpAny_isTrue_Compare1 (thn (ha pins s σ H _ I h) fun v s1 zq43 => ?_) hm
  obtain ⟨x, H1, I1, r1, q1⟩ := zq43
  refine thn (hb pins s1 σ H1 _ I1 q1) fun u s2 zq44 => ?_
  obtain ⟨y, H2, I2, r2, q2⟩ := zq44
  refine thn (ho pins s2 σ H2 x y v u _ I2 r1 r2 q2) fun c s3 zq45 => ?_
  obtain ⟨z, H3, I3, r3, k, e, q3⟩ := zq45
  subst e
  cases r3
  exact wpAny_truthy_bool ⟨H3, I3, q3⟩
noncomputable def tChain (r r' : R2) (ta tb tc : TE) : TE := fun σ H Q => ta σ H fun x H1 => tb σ H1 fun y H2 => r x y H2 fun z H3 => ∃ k, z = .bl k ∧
  (if k = true then tc σ H3 fun w' H4 => r' y w' H4 Q else Q (.bl false) H3)
theorem pe_chain {op op' : CmpOp} {r r' : R2} (ho : OpR X (compareOp op) r) (ho' : OpR X (compareOp op') r') (ha : PE X a ta) (hb : PE X b tb) (hc : PE X c tc)
    (hm : lastMarks [op, op'] [b, c] = false := by with_unfolding_all rfl) : PE X (.Compare a [op, op'] [b, c] pos) (tChain r r' ta tb tc) := by
  intro pins s σ H Q I h
  refine Compare_chain (thn (ha pins s σ H _ I h) fun v s1 zq46 => ?_) hm
  obtain ⟨x, H1, I1, r1, q1⟩ := zq46
  refine chain_link (thn (hb pins s1 σ H1 _ I1 q1) fun u s2 zq47 => ?_)
  obtain ⟨y, H2, I2, r2, q2⟩ := zq47
  refine thn (ho pins s2 σ H2 x y v u _ I2 r1 r2 q2) fun d s3 zq48 => ?_
  obtain ⟨z, H3, I3, r3, k, e, q3⟩ := zq48
  subst e
  cases r3
  refine wpAny_truthy_bool ?_
  cases k with
  | false => exact ite_ff ⟨.bl false, H3, I3, rfl, q3⟩
  | true => exact ite_tt (chain_last (thn (hc pins s3 σ H3 _ I3 q3) fun w' s4 ⟨z', H4, I4, r4, q4⟩ => ho' pins s4 σ H4 y z' u w' Q I4 r2 r4 q4))
theorem pt_chain {op op' : CmpOp} {r r' : R2} (ho : OpR X (compareOp op) r) (ho' : OpR X (compareOp op') r') (ha : PE X a ta) (hb : PE X b tb) (hc : PE X c tc)
    (hm : lastMarks [op, op'] [b, c] = false := by with_unfolding_all rfl) : PT X (.Compare a [op, op'] [b, c] pos) (tTest (tChain r r' ta tb tc)) := by
  intro pins s σ H Q I h
  refine isTrue_chain (thn (ha pins s σ H _ I h) fun v s1 zq49 => ?_) hm
  obtain ⟨x, H1, I1, r1, q1⟩ := zq49
  refine test_link (thn (hb pins s1 σ H1 _ I1 q1) fun u s2 zq50 => ?_)
  obtain ⟨y, H2, I2, r2, q2⟩ := zq50
  refine thn (ho pins s2 σ H2 x y v u _ I2 r1 r2 q2) fun d s3 zq51 => ?_
  obtain ⟨z, H3, I3, r3, k, e, q3⟩ := zq51
  subst e
  cases r3
  refine wpAny_truthy_bool ?_
  cases k with
  | false =>
    obtain ⟨k', e', q'⟩ := q3
    cases e'
    exact ite_ff ⟨H3, I3, q'⟩
  | true =>
    refine ite_tt (test_last (thn (hc pins s3 σ H3 _ I3 q3) fun w' s4 zq52 => ?_))
    obtain ⟨z', H4, I4, r4, q4⟩ := zq52
    refine thn (ho' pins s4 σ H4 y z' u w' _ I4 r2 r4 q4) fun d' s5 zq53 => ?_
    obtain ⟨z2, H5, I5, r5, k2, e2, q5⟩ := zq53
    subst e2
    cases r5
    exact wpAny_truthy_bool ⟨H5, I5, q5⟩
theorem line63 : (sizeLine : Nat) < 2 ^ 63 := by rw [sizeLine_eq]; decide
noncomputable def PlainIxT (b : Expr) : Prop := ∀ o i, subscripted b false o i = operate [o, i] (getItem o i)
theorem pe_item_str (ha : PE X a ta) (hb : PE X b tb) (hs : PlainIxT b) :
    PE X (.Subscript a b pos) (tOp (fun x y H Q => ∃ z i c, x = .str z ∧ y = .int i ∧ 0 ≤ i ∧ i < 2 ^ 63 ∧ i < z.length ∧ z.cps[i.toNat]? = some c ∧ Q (.str ⟨#[c]⟩) H) ta tb) := by
  intro pins s σ H Q I h
  refine Subscript_ (binT ha hb I h fun v u s2 x y H2 I2 rx ry q => ?_)
  obtain ⟨z, i, c, rfl, rfl, h0, h63, h1, hc, q⟩ := q
  obtain ⟨t, rfl⟩ := rx
  obtain ⟨t', rfl⟩ := ry
  have e : seqIndex? i z.length = some i.toNat := PySem.StrLaws.seqIndex_nonneg h0 h1
  exact tail_any (typeIs_str s2 z t) slot_str_getitem.lookup (getItem_str (c := c) (by
    have e1 : decide (i < -(2 ^ 63 : Int)) = false := decide_eq_false (by omega)
    have e2 : decide (i ≥ 2 ^ 63) = false := decide_eq_false (by omega)
    rw [e1, e2] <;> rfl) (by rw [e]; exact hc) ⟨.str ⟨#[c]⟩, H2, I2.tok _, ⟨_, rfl⟩, q⟩) (hs _ _)
theorem vals1 {x : V} {us : List Value} (r : Vals [x] us) : ∃ u, us = [u] ∧ RelV x u := by
  cases r with
  | cons r1 r2 => cases r2; exact ⟨_, rfl, r1⟩
theorem call_ord : CallR X (.builtin "ord") (fun xs H Q => ∃ x, xs = [.str x] ∧ x.length = 1 ∧ Q (.int (x.cps.getD 0 0 : Nat)) H) := by
  intro pins s σ H xs us Q I r h
  obtain ⟨x, rfl, hz, q⟩ := h
  obtain ⟨u, rfl, t, rfl⟩ := vals1 r
  exact ord_of_one hz ⟨.int _, H, I.tok _, ⟨_, rfl⟩, q⟩
end
end L2
namespace L2
open PySem PySem.Spec PyProof.Rows
structure ObjM (h : Heap) (x dx C : Addr) (mA : Str → Option Value) : Prop where
  obj : h.get? x = some (PySem.W.instObj C dx)
  ns : h.Ns1 dx mA
  ne : dx ≠ x
theorem lookIn_ns {h : Heap} {dx : Addr} {mA : Str → Option Value} (n : h.Ns1 dx mA) : ∃ od, h.get? dx = some od ∧ ∀ name, PySem.W.lookIn name od = some (mA name) := by
  obtain ⟨o, es, ep, ho, hd, hk, _, hm⟩ := n
  refine ⟨o, ho, fun name => ?_⟩
  have e := hm name
  unfold nsFind findBy at e
  rw [← Array.find?_toList] at e
  unfold PySem.W.lookIn
  rw [hd]
  dsimp only
  split
  · rename_i y q
    rw [q] at e
    exact congrArg some e
  · rename_i q
    rw [q] at e
    have a : es.toList.any (·.refKey) = false := by
      rw [List.any_eq_false]
      intro y hy
      obtain ⟨z, t, hkey⟩ := hk y (Array.mem_toList_iff.mp hy)
      simp [DictEntry.refKey, hkey]
    have a' : ¬ es.toList.any (·.refKey) = true := by rw [a]; exact Bool.false_ne_true
    rw [if_neg a']
    exact congrArg some e
theorem ObjM.look {h : Heap} {x dx C : Addr} {mA : Str → Option Value} (I : ObjM h x dx C mA) : ∃ od, PySem.W.InstAt h x (PySem.W.instObj C dx) C (some od) ∧ ∀ name, PySem.W.lookIn name od = some (mA name) :=
  let ⟨od, ho, hl⟩ := lookIn_ns I.ns
  ⟨od, ⟨I.obj, rfl, rfl, ho⟩, hl⟩
section
variable {prog : Program} {w : World} {A : Around} {E : Value → Shared → Prop} {s : Shared} {K : PySem.W.Frag} {x dx C f : Addr} {mA : Str → Option Value} {name : Str} {v : Value}
theorem get_map {expr : Bool} {Q : Value → Shared → Prop} (X : K.In s.heap) (I : ObjM s.heap x dx C mA) (hg : PySem.W.plainGet K C name = true) (hh : PySem.W.hasDictIn K C = true)
    (ha : PySem.W.findIn K (.ref C) name = some none) (hv : mA name = some v) (hv' : PySem.W.handedIn v = true) (h : Q v { s with toks := s.toks + 1 }) :
    wpAny (model prog w) A (getAttr (.ref x) name expr) Q E s := by
  obtain ⟨od, J, hl⟩ := I.look
  exact PySem.W.get_value X J (PySem.W.plainGet_of hg).1 (PySem.W.findObj_own hh ha rfl (by rw [hl, hv])) hv' h
theorem set_map {ns : List Str} {Q : Unit → Shared → Prop} (X : K.In s.heap) (I : ObjM s.heap x dx C mA)
    (hs : PySem.W.findIn K (.ref C) "__setattr__" = some (some (.builtin "object.__setattr__"))) (hp : PySem.W.plainOver K C = true) (ht : PySem.W.takerIn K C name = some none) (hh : PySem.W.hasDictIn K C = true)
    (hw : PySem.Within mA ns) (hsz : ns.length ≤ sizeLine)
    (h : ∀ h', ObjM h' x dx C (fun y => if y = name then some v else mA y) → Heap.SameBut dx s.heap h' → Q () { s with heap := h', toks := s.toks + 2 }) :
    wpAny (model prog w) A (setAttr (.ref x) name v) Q E s := by
  obtain ⟨od, J, hl⟩ := I.look
  refine PySem.W.set_plain X J hs (PySem.W.osa_open (s := { s with toks := s.toks + 1 }) (r := none) X J hp ht fun b => ?_)
  obtain ⟨cd, hc, hd'⟩ := PySem.W.any_some hh
  have hx : s.heap.get? x = some ⟨.ref C, some dx, .plain, #[]⟩ := I.obj
  refine wpAny_bind (wpAny_pure (wpAny_bind (wpAny_bind (wpAny_loadPart hx (wpAny_bind (PySem.W.Looks.here (s := { s with toks := s.toks + 1 }) (PySem.W.looks_clsIn X hc) ?_))))))
  rw [hd']
  refine wpAny_pure (a := some dx) (wpAny_bind (wpAny_pure (wpAny_bind ?_)))
  refine wpAny_nsSet1 (s := { s with toks := s.toks + 1 }) I.ns fun h' hn2 hs2 => ?_
  obtain ⟨oD, esD, epD, hoD, hdD, hcD⟩ := hn2.count (PySem.Within.cons name v hw)
  refine wpAny_bind (wpAny_lookBehind hoD (by rw [hdD]; exact pastItsLine_dict (Nat.le_trans hcD (by rw [List.length_cons]; omega))) ?_)
  exact wpAny_pure (h _ ⟨(hs2.2 _ (Ne.symm I.ne)).trans I.obj, hn2, I.ne⟩ hs2)
theorem make_map {R : Result → Shared → Prop} {vs : List Value} {kw : List (Str × Value)} (X : K.In s.heap) (hm : PySem.W.makesIn K C = true)
    (hi : PySem.W.findIn K (.ref C) "__init__" = some (some (.ref f))) (hf : PySem.W.typeIn K (.ref f) = some (.type "function"))
    (h : codeAny (model prog w) (A.under (.builtin "type.__call__" ⟨.ref C :: vs, kw⟩)) (.call (.ref f) ⟨.ref (s.heap.objs.size + 1) :: vs, kw⟩) (PySem.W.InitBack (s.heap.objs.size + 1) R)
      { s with heap := (s.heap.push PySem.W.emptyDict).push (PySem.W.instObj C s.heap.objs.size) }) :
    codeAny (model prog w) A (.call (.ref C) ⟨vs, kw⟩) R s := by
  obtain ⟨hh, g, d, t, os⟩ := s
  exact PySem.W.make_core (PySem.W.makes_of X hm) (PySem.W.looks_findIn X hi) (fun self => PySem.W.bind_fn X self hf) (.inl rfl) h
end
noncomputable def putF (f : Str) (v : V) : List (Str × V) → List (Str × V)
  | [] => [(f, v)]
  | (g, x) :: r => if g = f then (g, v) :: r else (g, x) :: putF f v r
theorem lookup_putF (f g : Str) (v : V) : ∀ fs : List (Str × V), (putF f v fs).lookup g = if g = f then some v else fs.lookup g
  | [] => by
    show List.lookup g [(f, v)] = _
    by_cases h : g = f
    · have hb : (g == f) = true := beq_iff_eq.mpr h
      simp only [List.lookup, hb, if_pos h]
    · have hb : (g == f) = false := beq_eq_false_iff_ne.mpr h
      simp only [List.lookup, hb, if_neg h]
  | (k, x) :: r => by
    have ih := lookup_putF f g v r
    rw [show putF f v ((k, x) :: r) = (if k = f then (k, v) :: r else (k, x) :: putF f v r) from rfl]
    by_cases hk : k = f
    · rw [if_pos hk]
      by_cases h : g = k
      · have hb : (g == k) = true := beq_iff_eq.mpr h
        simp only [List.lookup, hb, if_pos (h.trans hk)]
      · have hb : (g == k) = false := beq_eq_false_iff_ne.mpr h
        simp only [List.lookup, hb, if_neg (fun e : g = f => h (e.trans hk.symm))]
    · rw [if_neg hk]
      by_cases h : g = k
      · have hb : (g == k) = true := beq_iff_eq.mpr h
        simp only [List.lookup, hb, if_neg (fun e : g = f => hk (h.symm.trans e))]
      · have hb : (g == k) = false := beq_eq_false_iff_ne.mpr h
        simp only [List.lookup, hb]
        exact ih
theorem keys_putF (f : Str) (v : V) : ∀ fs : List (Str × V), f ∈ (putF f v fs).map (·.1) ∧ ∀ g, g ∈ fs.map (·.1) → g ∈ (putF f v fs).map (·.1)
  | [] => ⟨by simp [putF], fun g h => by simp at h⟩
  | (k, x) :: r => by
    obtain ⟨i1, i2⟩ := keys_putF f v r
    rw [show putF f v ((k, x) :: r) = (if k = f then (k, v) :: r else (k, x) :: putF f v r) from rfl]
    by_cases hk : k = f
    · rw [if_pos hk]
      subst hk
      exact ⟨by simp, fun g h => by simpa using h⟩
    · rw [if_neg hk]
      refine ⟨?_, fun g h => ?_⟩
      · rw [List.map_cons]
        exact List.mem_cons_of_mem _ i1
      · rw [List.map_cons] at h ⊢
        rcases List.mem_cons.mp h with e | e
        · exact List.mem_cons.mpr (.inl e)
        · exact List.mem_cons_of_mem _ (i2 g e)
theorem length_putF (f : Str) (v : V) : ∀ fs : List (Str × V), (putF f v fs).length ≤ fs.length + 1
  | [] => by simp [putF]
  | (k, x) :: r => by
    have ih := length_putF f v r
    rw [show putF f v ((k, x) :: r) = (if k = f then (k, v) :: r else (k, x) :: putF f v r) from rfl]
    by_cases hk : k = f
    · rw [if_pos hk, List.length_cons, List.length_cons]; omega
    · rw [if_neg hk, List.length_cons, List.length_cons]; omega
theorem RelO.some_of {v : V} {o : Option Value} (r : RelO (some v) o) : ∃ u, o = some u ∧ RelV v u := by
  cases o with
  | none => exact (show False from r).elim
  | some u => exact ⟨u, rfl, r⟩
theorem handed_of {v : V} {u : Value} (r : RelV v u) : PySem.W.handedIn u = true := by
  cases v with
  | non => cases (show u = Value.none from r); rfl
  | bl b => cases (show u = Value.bool b from r); rfl
  | int i => obtain ⟨t, e⟩ := (show ∃ t, u = Value.int i t from r); cases e; rfl
  | str x => obtain ⟨t, e⟩ := (show ∃ t, u = Value.str x t from r); cases e; rfl
  | byt b => obtain ⟨t, e⟩ := (show ∃ t, u = Value.bytes b t from r); cases e; rfl
  | flt b => obtain ⟨t, e⟩ := (show ∃ t, u = Value.float b t from r); cases e; rfl
  | ref a => cases (show u = Value.ref a from r); rfl
  | ty n => cases (show u = Value.type n from r); rfl
section
variable {P : Program} {w : World} {H H' : Hp} {h h' : Heap} {a C dx : Addr} {fs fs' : List (Str × V)}
theorem ins_get (hok : HOk P w H h) (e : H a = some (.ins C dx fs)) : ∃ mA, ObjM h a dx C mA ∧ (∀ f, RelO (fs.lookup f) (mA f)) ∧ PySem.Within mA (fs.map (·.1)) ∧ fs.length ≤ 1000 ∧ H dx = some (.own a) := by
  obtain ⟨d, z, ne, ob, mA, n, r, q⟩ := (show ObjOk P w H h a (.ins C dx fs) from hok a _ e)
  exact ⟨mA, ⟨ob, n, ne⟩, r, q, z, d⟩
end
structure Cls (K : PySem.W.Frag) (C : Addr) : Prop where
  pg : PySem.W.plainGet K C Str.empty = true
  hd : PySem.W.hasDictIn K C = true
  po : PySem.W.plainOver K C = true
  sa : PySem.W.findIn K (.ref C) "__setattr__" = some (some (.builtin "object.__setattr__"))
theorem Cls.get {K : PySem.W.Frag} {C : Addr} (c : Cls K C) (f : Str) : PySem.W.plainGet K C f = true := c.pg
noncomputable def NoAttr (K : PySem.W.Frag) (C : Addr) (f : Str) : Prop := PySem.W.findIn K (.ref C) f = some none
theorem NoAttr.taker {K : PySem.W.Frag} {C : Addr} {f : Str} (n : NoAttr K C f) : PySem.W.takerIn K C f = some none := by
  unfold PySem.W.takerIn
  rw [show PySem.W.findIn K (.ref C) f = some none from n]
  rfl
section
variable {X : Cx} {pins : List (Addr × Obj)} {σ : St} {H : Hp} {s : Shared} {a C dx : Addr} {fs : List (Str × V)} {f : Str} {v : V} {A : Around} {E : Value → Shared → Prop}
theorem getattr_ok {b : Bool} {Q : Value → Shared → Prop} (I : Inv X pins σ H s) (e : H a = some (.ins C dx fs)) (c : Cls X.K C) (n : NoAttr X.K C f) (l : fs.lookup f = some v)
    (h : ∀ u s', Inv X pins σ H s' → RelV v u → Q u s') : wpAny (model X.prog X.w) A (getAttr (.ref a) f b) Q E s := by
  obtain ⟨mA, O, r, _, _, _⟩ := ins_get I.hok e
  obtain ⟨u, hu, ru⟩ := RelO.some_of (v := v) (o := mA f) (by rw [← l]; exact r f)
  exact get_map I.kIn O (c.get f) c.hd n hu (handed_of ru) (h u _ (I.tok _) ru)
theorem setattr_ok {y : V} {u : Value} {Q : Unit → Shared → Prop} (I : Inv X pins σ H s) (e : H a = some (.ins C dx fs)) (c : Cls X.K C) (n : NoAttr X.K C f) (hl : fs.length < 1000) (ry : RelV y u)
    (h : ∀ s', Inv X pins σ (upd H a (.ins C dx (putF f y fs))) s' → Q () s') : wpAny (model X.prog X.w) A (setAttr (.ref a) f u) Q E s := by
  obtain ⟨mA, O, r, wi, _, ho⟩ := ins_get I.hok e
  have hz : (fs.map (·.1)).length ≤ sizeLine := by rw [List.length_map, sizeLine_eq]; omega
  refine set_map I.kIn O c.sa c.po n.taker c.hd wi hz fun h' O' sb => h _ ?_
  have hd : ∃ o, h'.get? dx = some o := let ⟨o, _, _, e', _⟩ := O'.ns; ⟨o, e'⟩
  refine I.write (x := a) (e := dx) (by rw [e]; exact True.intro) (.inr ho) (fun b q hb z => (sb.2 b hb).trans z) hd ?_
  refine ⟨by rw [upd_ne O.ne]; exact ho, ?_, O.ne, O'.obj, _, O'.ns, fun g => ?_, fun g hg => ?_⟩
  · have := length_putF f y fs; omega
  · show RelO ((putF f y fs).lookup g) (if g = f then some u else mA g)
    rw [lookup_putF]
    by_cases q : g = f
    · rw [if_pos q, if_pos q]; exact ry
    · rw [if_neg q, if_neg q]; exact r g
  · by_cases q : g = f
    · rw [q]; exact (keys_putF f y fs).1
    · refine (keys_putF f y fs).2 g (wi g fun z => hg ?_)
      show (if g = f then some u else mA g) = none
      rw [if_neg q]; exact z
theorem Inv.made (I : Inv X pins σ H s) : Inv X pins σ (upd (upd H s.heap.objs.size (.own (s.heap.objs.size + 1))) (s.heap.objs.size + 1) (.ins C s.heap.objs.size []))
    { s with heap := (s.heap.push PySem.W.emptyDict).push (PySem.W.instObj C s.heap.objs.size) } := by
  have e1 : (s.heap.push PySem.W.emptyDict).get? s.heap.objs.size = some PySem.W.emptyDict := Heap.get?_push_size s.heap rfl
  have e2 : ((s.heap.push PySem.W.emptyDict).push (PySem.W.instObj C s.heap.objs.size)).get? (s.heap.objs.size + 1) = some (PySem.W.instObj C s.heap.objs.size) := by
    have := Heap.get?_push_size (s.heap.push PySem.W.emptyDict) (o := PySem.W.instObj C s.heap.objs.size) rfl
    rwa [Heap.size_push] at this
  have e3 : (s.heap.push PySem.W.emptyDict).Ns s.heap.objs.size (fun _ => none) := ⟨PySem.W.emptyDict, #[], _, e1, rfl, (fun e he => absurd he (by simp)), fun _ => rfl⟩
  have I1 := I.laid (a := s.heap.objs.size) (o := .own (s.heap.objs.size + 1)) (h' := s.heap.push PySem.W.emptyDict) (t' := s.toks) (fun b u q => Heap.get?_push_of_some _ q) (Nat.le_refl _) ⟨_, e1⟩
  refine I1.laid (a := s.heap.objs.size + 1) (o := .ins C s.heap.objs.size []) (t' := s.toks) (fun b u q => Heap.get?_push_of_some _ q) (Nat.le_of_eq (Heap.size_push _ _)) ?_
  have ne : s.heap.objs.size ≠ s.heap.objs.size + 1 := Nat.ne_of_lt (Nat.lt_succ_self _)
  refine ⟨by rw [upd_ne ne, upd_same], Nat.zero_le _, ne, e2, fun _ => none, (Heap.Ns1.of_empty e3).at fun o q => Heap.get?_push_of_some _ q, fun _ => True.intro, fun y hy => absurd rfl hy⟩
theorem attr_of {prog : Program} {w : World} {env : Env} {e : Expr} {f : Str} {pos : Pos} {s : Shared} {Q : Value → Shared → Prop} (hb : attributeBase e f env (eval e env) = eval e env)
    (h : wpAny (model prog w) A (eval e env) (fun o s₁ => wpAny (model prog w) A (getAttr o f true) Q E s₁) E s) : wpAny (model prog w) A (eval (.Attribute e f pos) env) Q E s :=
  Attribute_any_ h (by rw [arm_eval_Attribute, hb])
end
noncomputable def tFld (K : PySem.W.Frag) (ta : TE) (f : Str) : TE := fun σ H Q => ta σ H fun x H1 => ∃ a C dx fs v, x = .ref a ∧ H1 a = some (.ins C dx fs) ∧ Cls K C ∧ NoAttr K C f ∧ fs.lookup f = some v ∧ Q v H1
noncomputable def sFld (K : PySem.W.Frag) (ta tv : TE) (f : Str) : TS := fun D σ H => tv σ H fun y H1 => ta σ H1 fun x H2 => ∃ a C dx fs, x = .ref a ∧ H2 a = some (.ins C dx fs) ∧ Cls K C ∧ NoAttr K C f ∧ fs.length < 1000 ∧
  D.nx σ (upd H2 a (.ins C dx (putF f y fs)))
section
variable {X : Cx} {o e value : Expr} {f : Str} {pos pos' tpos : Pos} {ta tv : TE}
theorem pe_fld (he : PE X e ta) (hb : attributeBase e f X.env (eval e X.env) = eval e X.env) : PE X (.Attribute e f pos) (tFld X.K ta f) := by
  intro pins s σ H Q I h
  refine attr_of hb (thn (he pins s σ H _ I h) fun u s1 zq55 => ?_)
  obtain ⟨x, H1, I1, rx, a, C, dx, fs, v, ex, ea, c, n, l, q⟩ := zq55
  subst ex
  obtain rfl : u = Value.ref a := rx
  exact getattr_ok I1 ea c n l fun u' s2 I2 ru => ⟨v, H1, I2, ru, q⟩
theorem ps_fld (ha : PE X o ta) (hv : PE X value tv) (hs : swapsWith value (some (.Attribute o f pos')) pos.line X.env = pure false) : PS X (.Assign [.Attribute o f pos'] value pos) (sFld X.K ta tv f) := by
  intro pins s σ H D I h
  refine plainObj_wpAny_Assign_Attribute (thn (hv pins s σ H _ I h) fun u s1 zq57 => ?_) hs
  obtain ⟨y, H1, I1, ry, q⟩ := zq57
  refine thn (ha pins s1 σ H1 _ I1 q) fun ov s2 zq58 => ?_
  obtain ⟨x, H2, I2, rx, a, C, dx, fs, ex, ea, c, n, l, q2⟩ := zq58
  subst ex
  obtain rfl : ov = Value.ref a := rx
  exact setattr_ok I2 ea c n l ry fun s3 I3 => ⟨σ, _, I3, q2⟩
end
end L2
namespace L2
open PySem PySem.Spec PyProof.Rows
structure Room (k : Nat) (A : Around) : Prop where
  hd : A.handled = none
  dp : A.depth + 3 * k + 5 < recursionLimit
  un : A.units + 16 * k + 200 < cLine
theorem Room.mono {j k : Nat} {A : Around} (r : Room k A) (h : j ≤ k) : Room j A := ⟨r.hd, by have := r.dp; omega, by have := r.un; omega⟩
theorem Room.deeper {k : Nat} {A : Around} (r : Room (k + 1) A) (env : Env) : Room k (A.deeper env) :=
  ⟨r.hd, by have := r.dp; show A.depth + 1 + 3 * k + 5 < _; omega, by have := r.un; show A.units + 3 + 16 * k + 200 < _; omega⟩
theorem make_depth {A : Around} {C : Addr} {us : List Value} {kw : List (Str × Value)} : (A.under (.builtin "type.__call__" ⟨.ref C :: us, kw⟩)).depth = A.depth + 1 := by
  first | rfl | simp [Around.under, Code.weight, Code.isCreation, Code.isGuard, Code.isCaller, Code.frames, Code.isFrame, guardIds]
theorem make_units {A : Around} {C : Addr} {us : List Value} {kw : List (Str × Value)} : (A.under (.builtin "type.__call__" ⟨.ref C :: us, kw⟩)).units = A.units + 1 := by
  first | rfl | simp [Around.under, Code.cUnits, Code.frames, Code.isFrame]
theorem Room.make {k : Nat} {A : Around} (r : Room (k + 1) A) (C : Addr) (us : List Value) (kw : List (Str × Value)) : Room k (A.under (.builtin "type.__call__" ⟨.ref C :: us, kw⟩)) :=
  ⟨r.hd, by have := r.dp; rw [make_depth]; omega, by have := r.un; rw [make_units]; omega⟩
theorem Room.depth {k : Nat} {A : Around} (r : Room k A) : A.depth < recursionLimit := by have := r.dp; omega
theorem Room.units {k : Nat} {A : Around} (r : Room k A) : A.units + 64 < cLine := by have := r.un; omega
noncomputable def tNil : TA := fun _ H Q => Q [] H
noncomputable def tCons (ta : TE) (tr : TA) : TA := fun σ H Q => ta σ H fun x H1 => tr σ H1 fun xs H2 => Q (x :: xs) H2
section
variable {X : Cx} {e : Expr} {es : List Expr} {te : TE} {t : TA} {pos : Pos}
theorem pa_nil : PA X [] tNil := fun _ _ _ _ H Q I h => Calls.spliced_nil ⟨[], H, I, .nil, h⟩
theorem pa_cons (ha : PE X e te) (hr : PA X es t) (hs : starEach (e :: es) X.env = (false, eval e X.env) :: starEach es X.env := by rfl) : PA X (e :: es) (tCons te t) := by
  intro pos pins s σ H Q I h
  rw [hs]
  show wpAny _ _ (spliced ((false, eval e X.env) :: backTo pos (starEach es X.env))) _ _ s
  refine Calls.spliced_cons (thn (ha pins s σ H _ I h) fun u s1 zq63 => ?_)
  obtain ⟨x, H1, I1, r1, q1⟩ := zq63
  refine thn (hr pos pins s1 σ H1 _ I1 q1) fun us s2 zq64 => ?_
  obtain ⟨xs, H2, I2, r2, q2⟩ := zq64
  exact ⟨x :: xs, H2, I2, .cons r1 r2, q2⟩
noncomputable def tLst (t : TA) : TE := fun σ H Q => t σ H fun xs H1 => xs.length ≤ sizeLine ∧ ∀ p, H1 p = none → Q (.ref p) (upd H1 p (.lst xs))
theorem pe_lst (h : PA X es t) : PE X (.List es pos) (tLst t) := by
  intro pins s σ H Q I hq
  refine wpAny_List_spliced (thn (h pos pins s σ H _ I hq) fun us s1 ⟨xs, H1, I1, r, z, q⟩ => ⟨by rw [← r.length]; exact z, ?_⟩)
  have hf : H1 s1.heap.objs.size = none := I1.hok.fresh (Nat.le_refl _)
  refine ⟨.ref s1.heap.objs.size, upd H1 s1.heap.objs.size (.lst xs), I1.laid (t' := s1.toks) (fun b u e => Heap.get?_push_of_some _ e) (Nat.le_refl _) ?_, rfl, q _ hf⟩
  exact ⟨z, us, 0, r, Heap.get?_push_size _ rfl⟩
end
noncomputable abbrev Sp := List V → Hp → VK → XK → Prop
noncomputable abbrev CXT := List Env → Hp → Shared → XK → Value → Shared → Prop
structure Env0 (P : Program) (w : World) (K : PySem.W.Frag) (mg : Str → Option Value) (base : Heap) (A : Around) (outer : List Env) (s : Shared) (H : Hp) : Prop where
  frames : A.frames = some outer
  mod : Mod K mg base
  bs : ∀ b o, base.get? b = some o → s.heap.get? b = some o ∧ H b = none
  bsz : base.objs.size ≤ s.heap.objs.size
  funs : s.heap.FunFrames base outer
  frf : ∀ b ∈ frs outer, H b = none
  hok : HOk P w H s.heap
  bare : AllBare s.gens
noncomputable def CE (outer : List Env) (P : Program) (w : World) (H : Hp) (s : Shared) (Q : VK) (u : Value) (s' : Shared) : Prop :=
  ∃ v H', s'.os = s.os ∧ AllBare s'.gens ∧ Un (frs outer) [] H H' s.heap s'.heap ∧ HOk P w H' s'.heap ∧ RelV v u ∧ Q v H'
noncomputable def CR (CX : CXT) (outer : List Env) (P : Program) (w : World) (H : Hp) (s : Shared) (Q : VK) (E : XK) (r : Result) (s' : Shared) : Prop :=
  match r with
  | .ok (.ret u) => CE outer P w H s Q u s'
  | .ok _ => False
  | .error e => CX outer H s E e s'
structure FnOk (P : Program) (w : World) (K : PySem.W.Frag) (mg : Str → Option Value) (base : Heap) (CX : CXT) (k : Nat) (f : Addr) (fd : FuncData) (ps : List Str) (sp : Sp) : Prop where
  len : ∀ vs H Q E, sp vs H Q E → vs.length = ps.length
  run : ∀ (A : Around) (outer : List Env) (s : Shared) (H : Hp) (args : Args) (us : List Value) (vs : List V) (Q : VK) (E : XK), Room k A → Env0 P w K mg base A outer s H → BindsTo s fd args (ps.zip us) → Vals vs us → sp vs H Q E →
    codeAny (model P w) A (.call (.ref f) args) (CR CX outer P w H s Q E) s
theorem Env0.make {P : Program} {w : World} {K : PySem.W.Frag} {mg : Str → Option Value} {base : Heap} {A : Around} {outer : List Env} {s : Shared} {H : Hp} (e : Env0 P w K mg base A outer s H) (C : Addr) (us : List Value) (kw : List (Str × Value)) :
    Env0 P w K mg base (A.under (.builtin "type.__call__" ⟨.ref C :: us, kw⟩)) outer s H := ⟨by first | exact e.frames | (simpa [Around.under, Code.envs, Code.isFrame, pushEnvs] using e.frames), e.mod, e.bs, e.bsz, e.funs, e.frf, e.hok, e.bare⟩
section
variable {X : Cx} {pins : List (Addr × Obj)} {σ : St} {H : Hp} {s s' : Shared}
theorem Inv.env0 (I : Inv X pins σ H s) : Env0 X.prog X.w X.K X.mg X.base X.A X.stack s H :=
  ⟨I.ok.frames, I.ok.mod, I.bs, Nat.le_trans I.ok.bsz I.sz, I.stack, I.stkFree, I.hok, I.bare⟩
theorem Inv.after {Q : VK} {u : Value} (I : Inv X pins σ H s) (h : CE X.stack X.prog X.w H s Q u s') : EP X pins σ Q u s' := by
  obtain ⟨v, H', os, bare, un, hok, r, q⟩ := h
  obtain ⟨hh, g, d, t, os'⟩ := s'
  obtain rfl : os' = s.os := os
  exact ⟨v, H', I.call (h' := hh) (g' := g) (d' := d) (t' := t) (ch := []) un hok bare (fun b z => absurd z (by simp)), r, q⟩
end
noncomputable def tCall (sp : Sp) (dvs : List V) (E : XK) (t : TA) : TE := fun σ H Q => t σ H fun vs H1 => sp (vs ++ dvs) H1 Q E
noncomputable def tMake (C : Addr) (sp : Sp) (dvs : List V) (E : XK) (t : TA) : TE := fun σ H Q => t σ H fun vs H1 => ∀ x dx, H1 x = none → H1 dx = none → dx ≠ x →
  sp (.ref x :: (vs ++ dvs)) (upd (upd H1 dx (.own x)) x (.ins C dx [])) (fun v H2 => v = .non ∧ Q (.ref x) H2) E
noncomputable def Binds (K : PySem.W.Frag) (fd : FuncData) (ps : List Str) (ds : List Value) : Prop :=
  ∀ (s : Shared) (us : List Value), K.In s.heap → (us ++ ds).length = ps.length → BindsTo s fd ⟨us, []⟩ (ps.zip (us ++ ds))
theorem Binds.all {K : PySem.W.Frag} {fd : FuncData} {ps : List Str} (h : ∀ us : List Value, us.length = ps.length → bindArgs fd ⟨us, []⟩ = pure (ps.zip us)) : Binds K fd ps [] := fun s us _ hl => by
  rw [List.append_nil] at hl ⊢
  exact .of_eq (h us hl)
noncomputable def Passes (CX : CXT) (X : Cx) (E : XK) : Prop := ∀ (pins : List (Addr × Obj)) (σ : St) (H : Hp) (s : Shared) (e : Value) (s' : Shared), Inv X pins σ H s → CX X.stack H s E e s' → X.xe e s'
section
variable {X : Cx} {CX : CXT} {k : Nat} {f C : Addr} {fd : FuncData} {ps : List Str} {sp : Sp} {dvs : List V} {ds : List Value} {E : XK} {x m : Str} {p pos apos : Pos} {e o : Expr} {es : List Expr} {ta : TE} {t : TA}
theorem run_fn {pins : List (Addr × Obj)} {σ : St} {H : Hp} {s : Shared} {Q : VK} {us : List Value} {vs : List V} (F : FnOk X.prog X.w X.K X.mg X.base CX k f fd ps sp) (hr : Room k X.A) (hb : Binds X.K fd ps ds) (hd : Vals dvs ds) (hx : Passes CX X E)
    (I : Inv X pins σ H s) (r : Vals vs us) (h : sp (vs ++ dvs) H Q E) : wpAny (model X.prog X.w) X.A (call (.ref f) us) (EP X pins σ Q) X.xe s := by
  have r2 : Vals (vs ++ dvs) (us ++ ds) := r.append hd
  have hl : (us ++ ds).length = ps.length := by rw [← r2.length]; exact F.len _ _ _ _ h
  refine wpAny_call (codeAny_mono (F.run X.A X.stack s H ⟨us, []⟩ (us ++ ds) (vs ++ dvs) Q E hr I.env0 (hb s us I.kIn hl) r2 h) fun r s' hq => ?_)
  cases r with
  | error e => exact hx pins σ H s e s' I hq
  | ok fl =>
    cases fl with
    | ret u => exact I.after hq
    | next => exact False.elim hq
    | brk => exact False.elim hq
    | cont => exact False.elim hq
theorem pe_call (F : FnOk X.prog X.w X.K X.mg X.base CX k f fd ps sp) (hr : Room k X.A) (hg : Gl X x) (hm : X.mg x = some (.ref f)) (hk : PySem.W.keepIn X.K (.ref f) = true) (hb : Binds X.K fd ps ds) (hd : Vals dvs ds) (hx : Passes CX X E)
    (ha : PA X (e :: es) t) (hdb : (x == ("__debug__" : Str)) = false := by decide) (he : starEach (e :: es) X.env = (false, eval e X.env) :: starEach es X.env := by rfl) (hpl : (backTo pos (starEach es X.env)).any (·.1) = false := by rfl) :
    PE X (.Call (.Name x p) (e :: es) [] pos) (tCall sp dvs E t) := by
  intro pins s σ H Q I h
  refine wpAny_Call_Name_kw (ld_glob I hg hm ?_ hdb)
  refine PySem.W.callWith_K (h₀ := X.base) I.ok.mod.kin hk (thn (ha pos pins s σ H _ I h) fun us s1 zq65 => ?_) he hpl
  obtain ⟨vs, H1, I1, r, q⟩ := zq65
  refine ⟨I1.kIn, ?_⟩
  exact run_fn F hr hb hd hx I1 r q
structure Mk (K : PySem.W.Frag) (C f : Addr) : Prop where
  makes : PySem.W.makesIn K C = true
  init : PySem.W.findIn K (.ref C) "__init__" = some (some (.ref f))
  fn : PySem.W.isFn K (.ref f) = true
  kp : PySem.W.keepIn K (.ref C) = true
theorem run_make {pins : List (Addr × Obj)} {σ : St} {H : Hp} {s : Shared} {Q : VK} {us : List Value} {vs : List V} (M : Mk X.K C f) (F : FnOk X.prog X.w X.K X.mg X.base CX k f fd ps sp) (hr : Room (k + 1) X.A) (hb : Binds X.K fd ps ds) (hd : Vals dvs ds)
    (hx : Passes CX X E) (I : Inv X pins σ H s) (r : Vals vs us)
    (h : ∀ x dx, H x = none → H dx = none → dx ≠ x → sp (.ref x :: (vs ++ dvs)) (upd (upd H dx (.own x)) x (.ins C dx [])) (fun v H2 => v = .non ∧ Q (.ref x) H2) E) :
    wpAny (model X.prog X.w) X.A (call (.ref C) us) (EP X pins σ Q) X.xe s := by
  have hq := h (s.heap.objs.size + 1) s.heap.objs.size (I.hok.fresh (Nat.le_succ _)) (I.hok.fresh (Nat.le_refl _)) (Nat.ne_of_lt (Nat.lt_succ_self _))
  have I2 := Inv.made (C := C) I
  have r2 : Vals (V.ref (s.heap.objs.size + 1) :: (vs ++ dvs)) (Value.ref (s.heap.objs.size + 1) :: (us ++ ds)) := .cons rfl (r.append hd)
  have hl : (Value.ref (s.heap.objs.size + 1) :: us ++ ds).length = ps.length := by
    have e := r2.length
    rw [F.len _ _ _ _ hq] at e
    exact e.symm
  refine wpAny_call (make_map (f := f) I.kIn M.makes M.init (beq_iff_eq.mp M.fn) (codeAny_mono (F.run _ X.stack _ _ ⟨Value.ref (s.heap.objs.size + 1) :: us, []⟩ (Value.ref (s.heap.objs.size + 1) :: (us ++ ds)) _ _ E (hr.make C us [])
    (I2.env0.make C us []) (hb _ (Value.ref (s.heap.objs.size + 1) :: us) I2.kIn hl) r2 hq) fun r s' hq' => ?_))
  cases r with
  | error e => exact hx pins σ _ _ e s' I2 hq'
  | ok fl =>
    cases fl with
    | ret u =>
      obtain ⟨v, H', I3, rv, ev, q3⟩ := I2.after hq'
      subst ev
      exact ⟨rv, ⟨V.ref (s.heap.objs.size + 1), H', I3, rfl, q3⟩⟩
    | next => exact False.elim hq'
    | brk => exact False.elim hq'
    | cont => exact False.elim hq'
theorem pe_make (M : Mk X.K C f) (F : FnOk X.prog X.w X.K X.mg X.base CX k f fd ps sp) (hr : Room (k + 1) X.A) (hg : Gl X x) (hm : X.mg x = some (.ref C)) (hb : Binds X.K fd ps ds) (hd : Vals dvs ds) (hx : Passes CX X E)
    (ha : PA X (e :: es) t) (hdb : (x == ("__debug__" : Str)) = false := by decide) (he : starEach (e :: es) X.env = (false, eval e X.env) :: starEach es X.env := by rfl) (hpl : (backTo pos (starEach es X.env)).any (·.1) = false := by rfl) :
    PE X (.Call (.Name x p) (e :: es) [] pos) (tMake C sp dvs E t) := by
  intro pins s σ H Q I h
  refine wpAny_Call_Name_kw (ld_glob I hg hm ?_ hdb)
  refine PySem.W.callWith_K (h₀ := X.base) I.ok.mod.kin M.kp (thn (ha pos pins s σ H _ I h) fun us s1 zq69 => ?_) he hpl
  obtain ⟨vs, H1, I1, r, q⟩ := zq69
  refine ⟨I1.kIn, ?_⟩
  exact run_make M F hr hb hd hx I1 r q
end
structure FnScope (N P : List Str) (sc : Scope) : Prop where
  kind : sc.kind = .function
  co : sc.isCoroutine = false
  gen : sc.isGenerator = false
  nd : N.Nodup
  pre : N.take P.length = P
  par : ∀ x ∈ P, sc.names.lookup x = some .local ∨ sc.names.lookup x = some .cell
  nofree : ∀ y ∈ sc.names, y.2 ≠ .free
theorem bindL_out {kindOf : Str → Option NameKind} {x : Str} : ∀ {binds : List (Str × Value)} {m : Str → Option Value}, (∀ v, (x, v) ∉ binds) → bindL kindOf binds m x = m x
  | [], _, _ => rfl
  | (n, v) :: r, m, h => by
    unfold bindL
    rw [bindL_out fun w hw => h w (List.mem_cons_of_mem _ hw)]
    split
    · have : x ≠ n := by rintro rfl; exact h v List.mem_cons_self
      simp [this]
    · rfl
theorem bindC_out {kindOf : Str → Option NameKind} {x : Str} : ∀ {binds : List (Str × Value)} {m : Str → Option Value}, (∀ v, (x, v) ∉ binds) → bindC kindOf binds m x = m x
  | [], _, _ => rfl
  | (n, v) :: r, m, h => by
    unfold bindC
    rw [bindC_out fun w hw => h w (List.mem_cons_of_mem _ hw)]
    split
    · rfl
    · have : x ≠ n := by rintro rfl; exact h v List.mem_cons_self
      simp [this]
theorem bindL_get {kindOf : Str → Option NameKind} {x : Str} {v : Value} : ∀ {P : List Str} {vs : List Value} {i : Nat} {m : Str → Option Value}, P.Nodup → P[i]? = some x → vs[i]? = some v → kindOf x = some .local →
    bindL kindOf (P.zip vs) m x = some v
  | [], _, _, _, _, h, _, _ => by simp at h
  | _ :: _, [], _, _, _, _, h, _ => by simp at h
  | p :: P, w :: vs, 0, m, nd, h1, h2, hk => by
    simp at h1 h2; subst h1; subst h2
    show bindL kindOf ((p, w) :: P.zip vs) m p = _
    unfold bindL
    rw [bindL_out fun v hv => (List.nodup_cons.mp nd).1 (List.of_mem_zip hv).1, if_pos hk]
    simp
  | p :: P, w :: vs, i + 1, m, nd, h1, h2, hk => by
    show bindL kindOf ((p, w) :: P.zip vs) m x = _
    unfold bindL
    exact bindL_get (i := i) (List.nodup_cons.mp nd).2 (by simpa using h1) (by simpa using h2) hk
theorem bindC_get {kindOf : Str → Option NameKind} {x : Str} {v : Value} : ∀ {P : List Str} {vs : List Value} {i : Nat} {m : Str → Option Value}, P.Nodup → P[i]? = some x → vs[i]? = some v → kindOf x ≠ some .local →
    bindC kindOf (P.zip vs) m x = some v
  | [], _, _, _, _, h, _, _ => by simp at h
  | _ :: _, [], _, _, _, _, h, _ => by simp at h
  | p :: P, w :: vs, 0, m, nd, h1, h2, hk => by
    simp at h1 h2; subst h1; subst h2
    show bindC kindOf ((p, w) :: P.zip vs) m p = _
    unfold bindC
    rw [bindC_out fun v hv => (List.nodup_cons.mp nd).1 (List.of_mem_zip hv).1, if_neg hk]
    simp
  | p :: P, w :: vs, i + 1, m, nd, h1, h2, hk => by
    show bindC kindOf ((p, w) :: P.zip vs) m x = _
    unfold bindC
    exact bindC_get (i := i) (List.nodup_cons.mp nd).2 (by simpa using h1) (by simpa using h2) hk
noncomputable def start (N : List Str) (vs : List V) : St := vs.map some ++ List.replicate (N.length - vs.length) none
noncomputable def cxOf (CX : CXT) (P : Program) (w : World) (K : PySem.W.Frag) (mg : Str → Option Value) (base : Heap) (N : List Str) (qual : Str) (scope : Scope) (f : Addr) (cd : Value) (A : Around) (outer : List Env) (s : Shared) (H : Hp) (E : XK) : Cx where
  prog := P
  w := w
  K := K
  mg := mg
  base := base
  A := A.deeper (envOfC qual scope s.heap.objs.size f cd)
  N := N
  s_0 := s
  H_0 := H
  env := envOfC qual scope s.heap.objs.size f cd
  outer := outer
  stack := envOfC qual scope s.heap.objs.size f cd :: outer
  ex := []
  calm := true
  fn := fun _ => true
  pn := []
  xe := fun e s' => wpAny (model P w) (A.deeper (envOfC qual scope s.heap.objs.size f cd)) (leaving (envOfC qual scope s.heap.objs.size f cd) e) (fun _ s'' => CX outer H s E e s'') (fun e' s'' => CX outer H s E e' s'') s'
theorem cell_has {sc : Scope} {n : Nat} {x : Str} (h : sc.names.lookup x = some .cell) : ∃ c, (cellsFrom n sc.names []).lookup x = some c := by
  have q := PySem.W.cellsFrom_some sc.names n [] (.inl h)
  exact Option.isSome_iff_exists.mp q
theorem inv_start {CX : CXT} {P : Program} {w : World} {K : PySem.W.Frag} {mg : Str → Option Value} {base : Heap} {N ps : List Str} {qual : Str} {scope : Scope} {f : Addr} {cd : Value} {A : Around} {outer : List Env} {s s1 : Shared} {H : Hp} {E : XK} {us : List Value} {vs : List V}
    (S : FnScope N ps scope) (hd : A.handled = none) (e0 : Env0 P w K mg base A outer s H) (hl : vs.length = ps.length) (r : Vals vs us)
    (x : InCallC s s.heap.objs.size (bindL (envOfC qual scope s.heap.objs.size f cd).kindOf (ps.zip us) fun _ => none) (cellsFrom (s.heap.objs.size + 1) scope.names []) (bindC (envOfC qual scope s.heap.objs.size f cd).kindOf (ps.zip us) fun _ => none) s1) :
    Inv (cxOf CX P w K mg base N qual scope f cd A outer s H E) [] (start N vs) H s1 := by
  have hpl : ps.length ≤ N.length := by have := congrArg List.length S.pre; rw [List.length_take] at this; omega
  obtain ⟨h1, tk, rfl, hk⟩ := x.done
  have noA : ∀ b : Addr, b ∉ (cxOf CX P w K mg base N qual scope f cd A outer s H E).ex := fun b z => absurd (show b ∈ ([] : List Addr) from z) (by simp)
  refine ⟨⟨e0.mod, S.kind, rfl, rfl, Nat.le_refl _, fun y z c h1 h2 => ?_, fun y hy => ?_, fun y c _ h => ?_, fun _ => hd, Around.frames_deeper e0.frames, .inr ⟨rfl, rfl⟩, fun b z => absurd z (noA b), e0.bs, e0.bsz, fun b _ _ => noA b, fun b z => absurd z (noA b), e0.funs, e0.frf⟩,
    rfl, e0.bare, Un.kept hk, ⟨_, x.toInCall.ns, fun i y v h1 h2 h3 => ?_⟩, fun y c h => ⟨_, x.cell y c h⟩, e0.hok.fresh (Nat.le_refl _), fun y c h => ?_, fun p hp => absurd (show p ∈ ([] : List (Addr × Obj)) from hp) (by simp), e0.hok.kept hk, ?_⟩
  · exact name_of_addr x.apart (PySem.mem_of_lookup h1) (PySem.mem_of_lookup h2)
  · have hy : scope.names.lookup y = some .cell ∨ scope.names.lookup y = some .free := hy
    rcases hy with hy | hy
    · exact cell_has hy
    · exact absurd rfl (S.nofree _ (PySem.mem_of_lookup hy))
  · exact Nat.le_of_lt (x.above y c (PySem.mem_of_lookup h))
  · have hi : i < vs.length := by
      unfold start at h2
      by_cases hi : i < vs.length
      · exact hi
      · rw [List.getElem?_append_right (by simpa using hi)] at h2
        rw [List.getElem?_replicate] at h2
        split at h2 <;> cases h2
    have ha : vs[i]? = some v := by
      unfold start at h2
      rw [List.getElem?_append_left (by simpa using hi), List.getElem?_map] at h2
      cases e : vs[i]? with
      | none => rw [e] at h2; cases h2
      | some a => rw [e] at h2; cases h2; rfl
    obtain ⟨u, hu, rv⟩ := r.get ha
    have hp : ps[i]? = some y := by
      rw [← S.pre, List.getElem?_take_of_lt (by omega)]; exact h1
    have ndP : ps.Nodup := by rw [← S.pre]; exact S.nd.sublist (List.take_sublist _ _)
    refine ⟨u, rv, ?_⟩
    rcases S.par y (List.mem_of_getElem? hp) with k | k
    · exact .inl ⟨k, bindL_get ndP hp hu k⟩
    · obtain ⟨c, e⟩ := cell_has (n := s.heap.objs.size + 1) k
      refine .inr ⟨.inl k, c, e, ?_⟩
      have q := x.cell y c e
      rw [bindC_get ndP hp hu (by show scope.names.lookup y ≠ _; rw [k]; decide)] at q
      exact q
  · exact e0.hok.fresh (Nat.le_of_lt (x.above y c (PySem.mem_of_lookup h)))
  · unfold start
    show _ = N.length
    rw [List.length_append, List.length_map, List.length_replicate]
    omega
theorem fn_of {CX : CXT} {P : Program} {w : World} {K : PySem.W.Frag} {mg : Str → Option Value} {base : Heap} {k : Nat} {f : Addr} {name qual : Str} {params : Arguments} {body : List Stmt} {scope : Scope} {dV kV doc pm cdv ct oc : Value} {an od : Option Addr}
    {osl : Array (Option Value)} {N ps : List Str} {sp : Sp} (lk : K.lookup f = some ⟨oc, od, .func (PySem.W.fnOf name qual params body scope dV kV doc pm an cdv ct), osl⟩) (hcd : PySem.W.codeIn K cdv qual = true) (S : FnScope N ps scope)
    (len : ∀ vs H Q E, sp vs H Q E → vs.length = ps.length)
    (hbody : ∀ (A : Around) (outer : List Env) (s : Shared) (H : Hp) (vs : List V) (Q : VK) (E : XK), Room k (A.deeper (envOfC qual scope s.heap.objs.size f cdv)) → sp vs H Q E →
      ∃ t, PSs (cxOf CX P w K mg base N qual scope f cdv A outer s H E) body t ∧ t { nx := fun _ H' => Q .non H', rt := Q } (start N vs) H) :
    FnOk P w K mg base CX (k + 1) f (PySem.W.fnOf name qual params body scope dV kV doc pm an cdv ct) ps sp := by
  refine ⟨len, fun A outer s H args us vs Q E hr e0 hb r hsp => ?_⟩
  have hl := len _ _ _ _ hsp
  have KX : K.In s.heap := e0.mod.kin.keeps fun b o e => (e0.bs b o e).1
  have lim : s.heap.NoLimit := e0.mod.nolimit.keeps fun b o e => (e0.bs b o e).1
  have hkind : ∀ y ∈ ps.zip us, scope.names.lookup y.1 = some .local ∨ (scope.names.lookup y.1 = some .cell ∧ ((cellsFrom (s.heap.objs.size + 1) scope.names []).lookup y.1).isSome = true) := fun ⟨n, v⟩ hy => by
    rcases S.par n (List.of_mem_zip hy).1 with q | q
    · exact .inl q
    · exact .inr ⟨q, PySem.W.cellsFrom_some _ _ _ (.inl q)⟩
  refine codeAny_call_function hr.depth (KX _ _ lk) rfl S.co S.gen rfl (PySem.W.codeRec_of KX hcd) (hb _ _ _ _ ?_)
  refine wpAny_newFunctionEnv_cells S.kind hkind fun env he s1 x => ?_
  subst he
  refine ⟨lim.keeps x.toInCall.keep, codeAny_func ?_⟩
  obtain ⟨t, ht, hq⟩ := hbody A outer s H vs Q E (hr.deeper _) hsp
  have I : Inv (cxOf CX P w K mg base N qual scope f cdv A outer s H E) [] (start N vs) H s1 := inv_start S hr.hd e0 hl r x
  refine wpAny_mono (ht [] s1 (start N vs) H _ I hq) (fun fl s' hs => ?_) fun e s' hs => hs
  have fin : ∀ {σ' : St} {H' : Hp} {v : V} {u : Value}, Inv (cxOf CX P w K mg base N qual scope f cdv A outer s H E) [] σ' H' s' → RelV v u → Q v H' → CE outer P w H s Q u s' :=
    fun {σ' H' v u} J rv q => ⟨v, H', J.os, J.bare, J.base, J.hok, rv, q⟩
  cases fl with
  | ret u =>
    obtain ⟨v, σ', H', J, rv, q⟩ := hs
    exact fin J rv q
  | next =>
    obtain ⟨σ', H', J, q⟩ := hs
    exact fin (v := V.non) (u := Value.none) J rfl q
  | brk =>
    obtain ⟨_, _, _, q⟩ := hs
    exact False.elim q
  | cont =>
    obtain ⟨_, _, _, q⟩ := hs
    exact False.elim q
end L2
namespace L2
open PySem PySem.Spec PyProof.Rows
section
variable {X : Cx} {x : Str} {p pos : Pos} {e : Expr} {es : List Expr} {t : TA} {id T : String} {r : List V → Hp → VK → Prop}
noncomputable def tCB (r : List V → Hp → VK → Prop) (t : TA) : TE := fun σ H Q => t σ H fun vs H1 => r vs H1 Q
theorem pe_callB (hc : CallR X (.builtin id) r) (hg : Gl X x) (hm : X.mg x = none) (hv : bootBuiltins x = some (.builtin id)) (ha : PA X (e :: es) t) (hn : x ≠ "__name__" := by decide) (hdb : (x == ("__debug__" : Str)) = false := by decide)
    (he : starEach (e :: es) X.env = (false, eval e X.env) :: starEach es X.env := by rfl) (hpl : (backTo pos (starEach es X.env)).any (·.1) = false := by rfl) : PE X (.Call (.Name x p) (e :: es) [] pos) (tCB r t) := by
  intro pins s σ H Q I h
  refine wpAny_Call_Name_kw (ld_blt I hg hm hv ?_ hn hdb)
  refine PyProof.Rows.callWith_builtin1 (thn (ha pos pins s σ H _ I h) fun us s1 zq74 => ?_) he hpl
  obtain ⟨vs, H1, I1, r1, q1⟩ := zq74
  exact hc pins s1 σ H1 vs us Q I1 r1 q1
theorem pe_callTy (hc : CallR X (.type T) r) (hg : Gl X x) (hm : X.mg x = none) (hv : bootBuiltins x = some (.type T)) (ha : PA X (e :: es) t) (hn : x ≠ "__name__" := by decide) (hdb : (x == ("__debug__" : Str)) = false := by decide)
    (he : starEach (e :: es) X.env = (false, eval e X.env) :: starEach es X.env := by rfl) (hpl : (backTo pos (starEach es X.env)).any (·.1) = false := by rfl) : PE X (.Call (.Name x p) (e :: es) [] pos) (tCB r t) := by
  intro pins s σ H Q I h
  refine wpAny_Call_Name_kw (ld_blt I hg hm hv ?_ hn hdb)
  refine PyProof.Rows.callWith_type1 (thn (ha pos pins s σ H _ I h) fun us s1 zq75 => ?_) he hpl
  obtain ⟨vs, H1, I1, r1, q1⟩ := zq75
  exact hc pins s1 σ H1 vs us Q I1 r1 q1
end
end L2
namespace HT
open PySem PyProof.Rows
section
variable {prog : Program} {w : World} {A : Around} {E : Value → Shared → Prop} {s : Shared}
noncomputable def sIx (n d : Nat) : Option Int → Nat
  | none => d
  | some v => if v < 0 then (v + (n : Int)).toNat else min v.toNat n
theorem sIx_none (n d : Nat) : sIx n d none = d := rfl
theorem sIx_nat (n d k : Nat) : sIx n d (some (k : Int)) = min k n := by
  show (if (k : Int) < 0 then ((k : Int) + (n : Int)).toNat else min (k : Int).toNat n) = min k n
  rw [if_neg (by omega), Int.toNat_natCast]
end
end HT
namespace L2
open PySem PySem.Spec PyProof.Rows
noncomputable abbrev TO := St → Hp → (Option Int → Hp → Prop) → Prop
noncomputable def PO (X : Cx) (e : Option Expr) (t : TO) : Prop :=
  ∀ (pins : List (Addr × Obj)) (s : Shared) (σ : St) (H : Hp) (Q : Option Int → Hp → Prop), Inv X pins σ H s → t σ H Q →
    wpAny (model X.prog X.w) X.A (evalPart e X.env) (fun u s' => ∃ o H', Inv X pins σ H' s' ∧ IsPart u o ∧ Q o H') X.xe s
noncomputable def tNoPart : TO := fun _ H Q => Q none H
noncomputable def tPart (t : TE) : TO := fun σ H Q => t σ H fun x H1 => ∃ i, x = .int i ∧ Q (some i) H1
theorem intsAre_of {ns : List Int} : ∀ {us : List Value}, Vals (ns.map V.int) us → IntsAre us ns := by
  induction ns with
  | nil => intro us r; rw [List.map_nil] at r; cases r; exact .nil
  | cons n ns ih =>
    intro us r
    rw [List.map_cons] at r
    cases r with
    | cons r1 r2 =>
      obtain ⟨t, e⟩ := r1
      subst e
      exact .cons n t (ih r2)
section
variable {X : Cx} {e : Expr} {te : TE} {lo hi : Option Expr} {tl th : TO} {pos p2 : Pos}
theorem po_none : PO X none tNoPart := by
  intro pins s σ H Q I h
  rw [evalPart_none]
  exact wpAny_pure ⟨none, H, I, .none, h⟩
theorem po_some (h : PE X e te) : PO X (some e) (tPart te) := by
  intro pins s σ H Q I hw
  rw [evalPart_some]
  refine thn (h pins s σ H _ I hw) fun u s1 zq76 => ?_
  obtain ⟨x, H1, I1, r1, q1⟩ := zq76
  obtain ⟨i, rfl, q⟩ := q1
  obtain ⟨t, rfl⟩ := r1
  exact ⟨some i, H1, I1, .int i t, q⟩
noncomputable def SlR (X : Cx) (r : V → Option Int → Option Int → Hp → VK → Prop) : Prop :=
  ∀ (pins : List (Addr × Obj)) (s : Shared) (σ : St) (H : Hp) (x : V) (v vl vu : Value) (lo hi : Option Int) (sl : Addr) (Q : VK), Inv X pins σ H s → RelV x v → s.heap.IsSliceOf sl vl vu .none → IsPart vl lo → IsPart vu hi → r x lo hi H Q →
    ∃ T id, typeLookup (.type T) "__getitem__" = pure (some (.builtin id)) ∧ s.TypeIs v T ∧ wpAny (model X.prog X.w) X.A (getItem v (.ref sl)) (EP X pins σ Q) X.xe s
noncomputable def tSl (r : V → Option Int → Option Int → Hp → VK → Prop) (te : TE) (tl th : TO) : TE := fun σ H Q => te σ H fun x H1 => tl σ H1 fun l H2 => th σ H2 fun u H3 => r x l u H3 Q
theorem pe_slice {r : V → Option Int → Option Int → Hp → VK → Prop} (hr : SlR X r) (he : PE X e te) (hl : PO X lo tl) (hu : PO X hi th) : PE X (.Subscript e (.Slice lo hi none p2) pos) (tSl r te tl th) := by
  intro pins s σ H Q I h
  refine Subscript_ (thn (he pins s σ H _ I h) fun v s1 zq77 => ?_)
  obtain ⟨x, H1, I1, r1, q1⟩ := zq77
  refine wpAny_Slice (thn (hl pins s1 σ H1 _ I1 q1) fun vl s2 zq78 => ?_)
  obtain ⟨l, H2, I2, pl, q2⟩ := zq78
  refine thn (hu pins s2 σ H2 _ I2 q2) fun vu s3 zq79 => ?_
  obtain ⟨u, H3, I3, pu, q3⟩ := zq79
  rw [evalPart_none]
  refine wpAny_pure ?_
  have I4 : Inv X pins σ H3 { s3 with heap := s3.heap.push { cls := .type "slice", data := .fields #[vl, vu, .none] } } := I3.kept (t' := s3.toks) fun b ob q => Heap.get?_push_of_some _ q
  obtain ⟨T, id, hT, ht, hg⟩ := hr pins { s3 with heap := s3.heap.push { cls := .type "slice", data := .fields #[vl, vu, .none] } } σ H3 x v vl vu l u s3.heap.objs.size Q I4 r1 (Heap.IsSliceOf.new ..) pl pu q3
  show wpAny (model X.prog X.w) X.A (subscriptTail e (.Slice lo hi none p2) v (.ref s3.heap.objs.size)) (EP X pins σ Q) X.xe { s3 with heap := s3.heap.push { cls := .type "slice", data := .fields #[vl, vu, .none] } }
  exact tail_any (ops := [.ref s3.heap.objs.size, v]) ht hT hg (by with_unfolding_all rfl)
noncomputable def cutV (xs : List V) (lo hi : Option Int) : List V := (xs.drop (HT.sIx xs.length 0 lo)).take (HT.sIx xs.length xs.length hi - HT.sIx xs.length 0 lo)
theorem cutV_length (xs : List V) (lo hi : Option Int) : (cutV xs lo hi).length ≤ xs.length := by
  unfold cutV
  rw [List.length_take, List.length_drop]
  omega
end
end L2
namespace L2
open PySem PySem.Spec PyProof.Rows
noncomputable def ixN (n : Nat) (i : Int) : Option Nat := if 0 ≤ i then (if i < n then some i.toNat else none) else if -(n : Int) ≤ i then some (i + n).toNat else none
noncomputable def atI {α : Type} (xs : List α) (i : Int) : Option α := (ixN xs.length i).bind fun j => xs[j]?
theorem ixN_seq {n : Nat} {i : Int} {j : Nat} (h : ixN n i = some j) : seqIndex? i n = some j ∧ j < n ∧ -(n : Int) ≤ i ∧ i < n := by
  unfold ixN at h
  by_cases h0 : 0 ≤ i
  · rw [if_pos h0] at h
    by_cases h1 : i < n
    · rw [if_pos h1] at h
      have e : i.toNat = j := Option.some.inj h
      exact ⟨by rw [seqIndex_of h0 h1, e], by omega, by omega, h1⟩
    · rw [if_neg h1] at h; cases h
  · rw [if_neg h0] at h
    by_cases h1 : -(n : Int) ≤ i
    · rw [if_pos h1] at h
      have e : (i + n).toNat = j := Option.some.inj h
      exact ⟨by rw [seqIndex_neg (by omega) h1, e], by omega, h1, by omega⟩
    · rw [if_neg h1] at h; cases h
theorem atI_get {α : Type} {xs : List α} {i : Int} {v : α} (h : atI xs i = some v) : ∃ j, seqIndex? i xs.length = some j ∧ xs[j]? = some v ∧ j < xs.length ∧ -(xs.length : Int) ≤ i ∧ i < xs.length := by
  unfold atI at h
  cases e : ixN xs.length i with
  | none => rw [e] at h; cases h
  | some j =>
    rw [e] at h
    obtain ⟨h1, h2, h3, h4⟩ := ixN_seq e
    exact ⟨j, h1, h, h2, h3, h4⟩
theorem atI_nat {α : Type} {xs : List α} {j : Nat} {v : α} (h : xs[j]? = some v) : atI xs (j : Int) = some v := by
  have hj : j < xs.length := (List.getElem?_eq_some_iff.mp h).1
  have e : ixN xs.length (j : Int) = some j := by
    unfold ixN
    rw [if_pos (by omega), if_pos (by omega)]; simp
  unfold atI; rw [e]; exact h
noncomputable def PlainIx (b : Expr) : Prop := ∀ o i, subscripted b false o i = operate [o, i] (getItem o i)
noncomputable def IxR (X : Cx) (r : R2) : Prop :=
  ∀ (value slice : Expr) (pins : List (Addr × Obj)) (s : Shared) (σ : St) (H : Hp) (x y : V) (v u : Value) (Q : VK), Inv X pins σ H s → RelV x v → RelV y u → r x y H Q →
    subscripted slice false v u = operate [v, u] (getItem v u) → wpAny (model X.prog X.w) X.A (subscriptTail value slice v u) (EP X pins σ Q) X.xe s
noncomputable def MtR (X : Cx) (id : String) (r : V → List V → Hp → VK → Prop) : Prop :=
  ∀ (pins : List (Addr × Obj)) (s : Shared) (σ : St) (H : Hp) (x : V) (xs : List V) (v : Value) (us : List Value) (Q : VK), Inv X pins σ H s → RelV x v → Vals xs us → r x xs H Q →
    wpAny (model X.prog X.w) X.A (call (.builtin id) (v :: us)) (EP X pins σ Q) X.xe s
section
variable {X : Cx} {a b : Expr} {ta tb : TE} {pos : Pos}
theorem pe_ix {r : R2} (hr : IxR X r) (ha : PE X a ta) (hb : PE X b tb) (hs : PlainIx b) : PE X (.Subscript a b pos) (tOp r ta tb) := by
  intro pins s σ H Q I h
  exact Subscript_ (binT ha hb I h fun v u s2 x y H2 I2 rx ry q => hr a b pins s2 σ H2 x y v u Q I2 rx ry q (hs _ _))
noncomputable def rIxL (K : PySem.W.Frag) : R2 := fun x y H Q => ∃ p xs i v, x = .ref p ∧ y = .int i ∧ SqL K H p xs ∧ atI xs i = some v ∧ Q v H
noncomputable def rIxT (K : PySem.W.Frag) : R2 := fun x y H Q => ∃ p xs i v, x = .ref p ∧ y = .int i ∧ SqT K H p xs ∧ atI xs i = some v ∧ Q v H
theorem ix_list : IxR X (rIxL X.K) := by
  intro value slice pins s σ H x y v u Q I rx ry h hs
  obtain ⟨p, xs, i, z, rfl, rfl, hq, he, q⟩ := h
  cases rx
  obtain ⟨t, rfl⟩ := ry
  obtain ⟨its, r, pl, hz⟩ := I.list hq
  obtain ⟨j, h1, h2, h3, h4, h5⟩ := atI_get he
  obtain ⟨w, ew, rw'⟩ := r.get h2
  have hl := r.length
  have hn := line63
  have fin : EP X pins σ Q w s := ⟨z, H, I, rw', q⟩
  by_cases h0 : 0 ≤ i
  · have hj : i.toNat = j := by
      rw [seqIndex_of h0 h5] at h1
      exact Option.some.inj h1
    exact item_listR pl.isList h0 (by omega) (by rw [hj]; simpa using ew) fin hs
  · have hj : (i + (its.toArray.size : Int)).toNat = j := by
      rw [seqIndex_neg (by omega) h4] at h1
      rw [List.size_toArray, ← hl]
      exact Option.some.inj h1
    exact subscriptTail_builtinR (x := w) pl.isList.typeIs slot_list_getitem.lookup
      (wpAny_getItem_list_neg (Q := fun r s' => r = w ∧ EP X pins σ Q r s') pl.isList (by omega) (by rw [List.size_toArray] <;> omega) (by omega) (by rw [hj]; simpa using ew) ⟨rfl, fin⟩) hs
theorem ix_tup : IxR X (rIxT X.K) := by
  intro value slice pins s σ H x y v u Q I rx ry h hs
  obtain ⟨p, xs, i, z, rfl, rfl, hq, he, q⟩ := h
  cases rx
  obtain ⟨t, rfl⟩ := ry
  obtain ⟨its, r, pl, hz⟩ := I.tuple hq
  obtain ⟨j, h1, h2, h3, h4, h5⟩ := atI_get he
  obtain ⟨w, ew, rw'⟩ := r.get h2
  have hl := r.length
  have hn := line63
  have fin : EP X pins σ Q w s := ⟨z, H, I, rw', q⟩
  exact subscriptTail_builtinR (x := w) pl.typeIs slot_tuple_getitem.lookup
    (getItem_tuple (j := j) (Q := fun r s' => r = w ∧ EP X pins σ Q r s') pl (by omega) (by omega) (by rw [List.size_toArray, ← hl]; exact h1) (by simpa using ew) ⟨rfl, fin⟩) hs
theorem slice_bounds (lo hi : Option Int) (n : Nat) : (sliceBounds lo hi none n).1 = ((HT.sIx n 0 lo : Nat) : Int) ∧ (sliceBounds lo hi none n).2.1 = ((HT.sIx n n hi : Nat) : Int) ∧ (sliceBounds lo hi none n).2.2 = 1 := by
  refine ⟨?_, ?_, rfl⟩
  · cases lo with
    | none => simp [sliceBounds, HT.sIx]
    | some i =>
      simp only [sliceBounds, HT.sIx, Option.getD_none, show (1 : Int) > 0 by decide, if_true]
      by_cases h : i < 0
      · simp only [h, if_true] <;> omega
      · simp only [h, if_false] <;> omega
  · cases hi with
    | none => simp [sliceBounds, HT.sIx]
    | some i =>
      simp only [sliceBounds, HT.sIx, Option.getD_none, show (1 : Int) > 0 by decide, if_true]
      by_cases h : i < 0
      · simp only [h, if_true] <;> omega
      · simp only [h, if_false] <;> omega
theorem slicePick_cut (its : List Value) (lo hi : Option Int) : slicePick its.toArray lo hi none = ((its.drop (HT.sIx its.length 0 lo)).take (HT.sIx its.length its.length hi - HT.sIx its.length 0 lo)).toArray := by
  obtain ⟨h1, h2, h3⟩ := slice_bounds lo hi its.toArray.size
  unfold slicePick
  rw [h1, h2, h3]
  simp only [sliceRange_one, pick_run, List.size_toArray] <;> rfl
noncomputable def rSlL (K : PySem.W.Frag) : V → Option Int → Option Int → Hp → VK → Prop := fun x lo hi H Q => ∃ a xs, x = .ref a ∧ SqL K H a xs ∧ ∀ p, H p = none → Q (.ref p) (upd H p (.lst (cutV xs lo hi)))
theorem sl_list : SlR X (rSlL X.K) := by
  intro pins s σ H x v vl vu lo hi sl Q I rx hs pl pu h
  obtain ⟨a, xs, rfl, hx, q⟩ := h
  cases rx
  obtain ⟨its, r, ht, hz⟩ := I.list hx
  have hlen := r.length
  refine ⟨"list", _, slot_list_getitem.lookup, ht.isList.typeIs, ?_⟩
  refine wpAny_getItem_list_slice ht.isList hs pl pu .none (by simp) ?_ (by rw [List.size_toArray] <;> omega)
  rw [slicePick_cut, ← hlen]
  refine ⟨.ref s.heap.objs.size, _, I.laid (t' := s.toks) (o := .lst (cutV xs lo hi)) (fun b ob q => Heap.get?_push_of_some _ q) (Nat.le_refl _) ?_, rfl, q _ (I.hok.fresh (Nat.le_refl _))⟩
  exact ⟨Nat.le_trans (cutV_length xs lo hi) hz, _, 0, (r.drop (HT.sIx xs.length 0 lo)).take (HT.sIx xs.length xs.length hi - HT.sIx xs.length 0 lo), Heap.get?_push_size _ rfl⟩
noncomputable def flatV : V → Bool
  | .non => true
  | .bl _ => true
  | .int _ => true
  | .str _ => true
  | _ => false
noncomputable def eqV : V → V → Bool
  | .non, .non => true
  | .bl a, .bl b => a == b
  | .bl a, .int b => (if a then 1 else 0) == b
  | .int a, .bl b => a == (if b then 1 else 0)
  | .int a, .int b => a == b
  | .str a, .str b => a == b
  | _, _ => false
theorem eqAt_V {A : Around} {s : Shared} {y x : V} {u v : Value} (ry : RelV y u) (rx : RelV x v) (fy : flatV y = true) (fx : flatV x = true) : SeqAt.EqAt A s u v (eqV y x) := by
  cases y with
  | non =>
    cases ry
    cases x with
    | non => cases rx; exact SeqAt.EqAt.same _
    | bl b => cases rx; exact SeqAt.EqAt.none_bool b
    | int b => obtain ⟨t, rfl⟩ := rx; exact SeqAt.EqAt.none_int b t
    | str b => obtain ⟨t, rfl⟩ := rx; exact SeqAt.EqAt.none_str b t
    | _ => exact absurd (show false = true from fx) Bool.false_ne_true
  | bl a =>
    cases ry
    cases x with
    | non => cases rx; exact SeqAt.EqAt.bool_none a
    | bl b => cases rx; exact SeqAt.EqAt.bool_bool a b
    | int b => obtain ⟨t, rfl⟩ := rx; exact SeqAt.EqAt.bool_int a b t
    | str b => obtain ⟨t, rfl⟩ := rx; exact SeqAt.EqAt.bool_str a b t
    | _ => exact absurd (show false = true from fx) Bool.false_ne_true
  | int a =>
    obtain ⟨t', rfl⟩ := ry
    cases x with
    | non => cases rx; exact SeqAt.EqAt.int_none a t'
    | bl b => cases rx; exact SeqAt.EqAt.int_bool a t' b
    | int b => obtain ⟨t, rfl⟩ := rx; exact SeqAt.EqAt.int_int a t' b t
    | str b => obtain ⟨t, rfl⟩ := rx; exact SeqAt.EqAt.int_str a t' b t
    | _ => exact absurd (show false = true from fx) Bool.false_ne_true
  | str a =>
    obtain ⟨t', rfl⟩ := ry
    cases x with
    | non => cases rx; exact SeqAt.EqAt.str_none a t'
    | bl b => cases rx; exact SeqAt.EqAt.str_bool a t' b
    | int b => obtain ⟨t, rfl⟩ := rx; exact SeqAt.EqAt.str_int a t' b t
    | str b => obtain ⟨t, rfl⟩ := rx; exact SeqAt.EqAt.str_str a t' b t
    | _ => exact absurd (show false = true from fx) Bool.false_ne_true
  | _ => exact absurd (show false = true from fy) Bool.false_ne_true
noncomputable def eqU (x : V) (u : Value) : Bool := match u with
  | .none => eqV .non x
  | .bool b => eqV (.bl b) x
  | .int i _ => eqV (.int i) x
  | .str z _ => eqV (.str z) x
  | _ => false
theorem eqU_of {x y : V} {u : Value} (r : RelV y u) (f : flatV y = true) : eqU x u = eqV y x := by
  cases y with
  | non => cases r; rfl
  | bl b => cases r; rfl
  | int i => obtain ⟨t, rfl⟩ := r; rfl
  | str z => obtain ⟨t, rfl⟩ := r; rfl
  | _ => exact absurd (show false = true from f) Bool.false_ne_true
theorem any_eqU {x : V} : ∀ {xs : List V} {us : List Value}, Vals xs us → xs.all flatV = true → us.any (eqU x) = xs.any fun y => eqV y x
  | _, _, .nil, _ => rfl
  | y :: xs, u :: us, .cons r t, f => by
    rw [List.all_cons, Bool.and_eq_true] at f
    rw [List.any_cons, List.any_cons, eqU_of r f.1, any_eqU t f.2]
theorem mem_eqAt {A : Around} {s : Shared} {x : V} {v : Value} (rx : RelV x v) (fx : flatV x = true) : ∀ {xs : List V} {us : List Value}, Vals xs us → xs.all flatV = true → ∀ u ∈ us, SeqAt.EqAt A s u v (eqU x u)
  | _, _, .nil, _ => fun u hu => by cases hu
  | y :: xs, u :: us, .cons r t, f => fun u' hu => by
    rw [List.all_cons, Bool.and_eq_true] at f
    rcases List.mem_cons.mp hu with rfl | hu
    · rw [eqU_of r f.1]; exact eqAt_V r rx f.1 fx
    · exact mem_eqAt rx fx t f.2 u' hu
noncomputable def inV (x : V) (xs : List V) : Bool := xs.any fun y => eqV y x
noncomputable def rIn (K : PySem.W.Frag) (neg : Bool) : R2 := fun x y H Q => ∃ p xs, y = .ref p ∧ (SqL K H p xs ∨ SqT K H p xs) ∧ flatV x = true ∧ xs.all flatV = true ∧ Q (.bl (if neg then !inV x xs else inV x xs)) H
theorem op_in_seq : OpR X (compareOp .In) (rIn X.K false) := by
  intro pins s σ H x y v u Q I rx ry h
  obtain ⟨p, xs, rfl, hq, fx, fs, q⟩ := h
  cases ry
  rcases hq with hq | hq
  · obtain ⟨its, r, pl, hz⟩ := I.list hq
    refine SeqAt.in_listAt (eqU x) pl.isList (fun w hw => mem_eqAt rx fx r fs w (by simpa using hw)) ⟨.bl _, H, I, rfl, ?_⟩
    rw [show its.toArray.any (eqU x) = its.any (eqU x) by simp, any_eqU r fs]
    exact q
  · obtain ⟨its, r, pl, hz⟩ := I.tuple hq
    refine SeqAt.in_tupleAt (eqU x) pl (fun w hw => mem_eqAt rx fx r fs w (by simpa using hw)) ⟨.bl _, H, I, rfl, ?_⟩
    rw [show its.toArray.any (eqU x) = its.any (eqU x) by simp, any_eqU r fs]
    exact q
theorem call_len_seq : CallR X (.builtin "len") (fun xs H Q => ∃ p ys, xs = [.ref p] ∧ (SqL X.K H p ys ∨ SqT X.K H p ys) ∧ Q (.int ys.length) H) := by
  intro pins s σ H xs us Q I r h
  obtain ⟨p, ys, rfl, hq, q⟩ := h
  obtain ⟨u, rfl, rx⟩ := vals1 r
  cases rx
  have hn := line63
  rcases hq with hq | hq
  · obtain ⟨its, r', pl, hz⟩ := I.list hq
    have hlen := r'.length
    exact Calls.call_len_list pl.isList (by simp only [List.size_toArray] <;> omega) ⟨.int ys.length, H, I.tok _, ⟨s.toks + 1, by rw [List.size_toArray, hlen]⟩, q⟩
  · obtain ⟨its, r', pl, hz⟩ := I.tuple hq
    have hlen := r'.length
    exact len_tuple pl (by simp only [List.size_toArray] <;> omega) ⟨.int ys.length, H, I.tok _, ⟨s.toks + 1, by rw [List.size_toArray, hlen]⟩, q⟩
theorem call_len_str : CallR X (.builtin "len") (fun xs H Q => ∃ z, xs = [.str z] ∧ z.length ≤ sizeLine ∧ Q (.int z.length) H) := by
  intro pins s σ H xs us Q I r h
  obtain ⟨z, rfl, hz, q⟩ := h
  obtain ⟨u, rfl, t, rfl⟩ := vals1 r
  have hn := line63
  exact len_str (by omega) ⟨.int z.length, H, I.tok _, ⟨_, rfl⟩, q⟩
noncomputable def tyV (K : PySem.W.Frag) (T : String) (x : V) (H : Hp) : Prop := match x with
  | .str _ => T = "str"
  | .int _ => T = "int"
  | .ref p => (T = "list" ∧ ∃ xs, SqL K H p xs) ∨ (T = "tuple" ∧ ∃ o, K.lookup p = some o ∧ o.cls = .type "tuple" ∧ o.dict = none) ∨
      (T = "dict" ∧ ((∃ kvs, H p = some (.dK kvs)) ∨ ∃ kvs, H p = some (.dT kvs))) ∨ (T = "set" ∧ ∃ S n, H p = some (.set S n))
  | _ => False
theorem tyV_is {pins : List (Addr × Obj)} {σ : St} {H : Hp} {s : Shared} {T : String} {x : V} {v : Value} (I : Inv X pins σ H s) (r : RelV x v) (ty : tyV X.K T x H) :
    s.TypeIs v T ∧ ∀ a, v = .ref a → ∃ ob, s.heap.get? a = some ob ∧ ob.dict = none := by
  cases x with
  | str z =>
    obtain ⟨t, rfl⟩ := r
    cases (show T = "str" from ty)
    exact ⟨typeIs_str s z t, fun _ e => nomatch e⟩
  | int i =>
    obtain ⟨t, rfl⟩ := r
    cases (show T = "int" from ty)
    exact ⟨typeIs_int s i t, fun _ e => nomatch e⟩
  | ref p =>
    cases r
    rcases ty with ⟨rfl, xs, hq⟩ | ⟨rfl, o, hk, hc, hd⟩ | ⟨rfl, hk⟩ | ⟨rfl, S, n, hk⟩
    · obtain ⟨its, _, pl, _⟩ := I.list hq
      refine ⟨pl.isList.typeIs, fun a e => ?_⟩
      cases e
      obtain ⟨o, n, e, c, hd, _⟩ := pl
      exact ⟨o, e, hd⟩
    · refine ⟨⟨o, I.kIn p o hk, hc⟩, fun a e => ?_⟩
      cases e
      exact ⟨o, I.kIn _ o hk, hd⟩
    · have z : ∃ o, s.heap.get? p = some o ∧ o.ExactDict := by
        rcases hk with ⟨kvs, hk⟩ | ⟨kvs, hk⟩
        · obtain ⟨_, _, _, _, o, _, _, e, ex, _⟩ := I.hok p _ hk
          exact ⟨o, e, ex⟩
        · obtain ⟨_, _, _, _, o, _, _, e, ex, _⟩ := I.hok p _ hk
          exact ⟨o, e, ex⟩
      obtain ⟨o, e, ex⟩ := z
      refine ⟨⟨o, e, ex.1⟩, fun a e2 => ?_⟩
      cases e2
      exact ⟨o, e, ex.2.1⟩
    · obtain ⟨o, _, _, _, e, ex, _⟩ := I.hok p _ hk
      refine ⟨⟨o, e, ex.1⟩, fun a e2 => ?_⟩
      cases e2
      exact ⟨o, e, ex.2.1⟩
  | _ => exact False.elim ty
noncomputable def tBM0 (K : PySem.W.Frag) (T : String) (r : V → List V → Hp → VK → Prop) (to : TE) : TE := fun σ H Q => to σ H fun x H1 => tyV K T x H1 ∧ r x [] H1 Q
noncomputable def tBM (K : PySem.W.Frag) (T : String) (r : V → List V → Hp → VK → Prop) (to : TE) (t : TA) : TE := fun σ H Q => to σ H fun x H1 => tyV K T x H1 ∧ t σ H1 fun xs H2 => r x xs H2 Q
variable {o e : Expr} {es : List Expr} {to : TE} {t : TA} {name : Str} {apos cpos : Pos} {T id : String} {r : V → List V → Hp → VK → Prop}
theorem pe_bm0 (pa : PlainAttrs T) (slot : Slot T name id) (hty : typeOf (.builtin id) = pure (.type "method_descriptor")) (hm : MtR X id r) (ho : PE X o to)
    (hbase : attributeBase o name X.env (eval o X.env) = eval o X.env := by rfl) (hline : (apos.endLine == cpos.line) = true := by rfl) : PE X (.Call (.Attribute o name apos) [] [] cpos) (tBM0 X.K T r to) := by
  intro pins s σ H Q I h
  refine wpAny_Call_method0_late hbase hline (thn (ho pins s σ H _ I h) fun v s1 zq80 => ?_)
  obtain ⟨x, H1, I1, r1, ty, q1⟩ := zq80
  obtain ⟨h1, h2⟩ := tyV_is I1 r1 ty
  exact ⟨T, id, pa, slot, hty, h1, h2, Calls.callWith_builtin rfl (PySem.evalArgs_none (hm pins s1 σ H1 x [] v [] Q I1 r1 .nil q1))⟩
theorem pe_bm (pa : PlainAttrs T) (slot : Slot T name id) (hty : typeOf (.builtin id) = pure (.type "method_descriptor")) (hm : MtR X id r) (ho : PE X o to) (ha : PA X (e :: es) t)
    (hbase : attributeBase o name X.env (eval o X.env) = eval o X.env := by rfl)
    (hfew : ((backTo cpos (starEach (e :: es) X.env)).all (fun x => !x.1) && (backToKw cpos (keywordEach [] X.env)).all (fun x => x.1.isSome)
      && decide ((e :: es).length + ([] : List Keyword).length + (if ([] : List Keyword).isEmpty then 0 else 1) < 30)) = true := by rfl)
    (hline : (apos.endLine == cpos.line) = true := by rfl) (hs : starEach (e :: es) X.env = (false, eval e X.env) :: starEach es X.env := by rfl) (hplain : (backTo cpos (starEach es X.env)).any (·.1) = false := by rfl) :
    PE X (.Call (.Attribute o name apos) (e :: es) [] cpos) (tBM X.K T r to t) := by
  intro pins s σ H Q I h
  refine wpAny_Call_method_late hbase hfew hline rfl (thn (ho pins s σ H _ I h) fun v s1 zq81 => ?_)
  obtain ⟨x, H1, I1, r1, ty, q1⟩ := zq81
  obtain ⟨h1, h2⟩ := tyV_is I1 r1 ty
  refine ⟨T, id, pa, slot, hty, h1, h2, ?_⟩
  have hA := ha cpos pins s1 σ H1 _ I1 q1
  rw [hs] at hA ⊢
  refine Calls.callWith_builtin (by show (false || (backTo cpos (starEach es X.env)).any (·.1)) = false; rw [hplain] <;> rfl) (Calls.evalArgs_plain ?_)
  refine thn hA fun us s2 zq82 => ?_
  obtain ⟨vs, H2, I2, r2, q2⟩ := zq82
  exact hm pins s2 σ H2 x vs v us Q I2 r1 r2 q2
end
end L2
namespace L2
open PySem PySem.Spec PyProof.Rows
noncomputable def MtM (X : Cx) (id : String) (r : V → List V → Hp → VK → Prop) : Prop :=
  ∀ (pins : List (Addr × Obj)) (s : Shared) (σ : St) (H : Hp) (x : V) (xs : List V) (v : Value) (us : List Value) (Q : VK), Inv X pins σ H s → RelV x v → Vals xs us → r x xs H Q →
    wpAny (model X.prog X.w) X.A (call (.builtin id) (v :: us)) (EP X pins σ Q) X.xe s
theorem Vals.one : ∀ {x : V} {us : List Value}, Vals [x] us → ∃ u, us = [u] ∧ RelV x u
  | _, _, .cons r .nil => ⟨_, rfl, r⟩
theorem Vals.zero : ∀ {us : List Value}, Vals [] us → us = []
  | _, .nil => rfl
theorem Vals.dropLast {xs : List V} {us : List Value} (h : Vals xs us) : Vals xs.dropLast us.dropLast := by
  induction h with
  | nil => exact .nil
  | cons r t ih =>
    cases t with
    | nil => exact .nil
    | cons q t' => exact .cons r ih
theorem erase_last {α : Type} (l : List α) : l.eraseIdx (l.length - 1) = l.dropLast := by
  induction l with
  | nil => rfl
  | cons a r ih =>
    cases r with
    | nil => rfl
    | cons b r =>
      have e : (a :: b :: r).length - 1 = ((b :: r).length - 1) + 1 := by
        have h1 : (a :: b :: r).length = r.length + 2 := rfl
        have h2 : (b :: r).length = r.length + 1 := rfl
        omega
      rw [e, List.eraseIdx_cons_succ, ih]
      all_goals rfl
section
variable {X : Cx} {pins : List (Addr × Obj)} {σ : St} {H : Hp} {s : Shared} {l b : Addr} {xs ys zs : List V}
theorem Inv.lset {its its' : List Value} {n : Nat} {f : Array Value → Array Value} {t' : Nat} (I : Inv X pins σ H s) (hH : H l = some (.lst xs))
    (e : s.heap.get? l = some { cls := .type "list", data := .seq its.toArray n }) (hf : f its.toArray = its'.toArray) (hv : Vals ys its') (hz : ys.length ≤ sizeLine) :
    Inv X pins σ (upd H l (.lst ys)) { s with heap := s.heap.update l (Obj.mapSeq f), toks := t' } := by
  have q := PySem.IsL.update e f
  rw [hf] at q
  refine I.write (x := l) (e := l) (by rw [hH]; exact trivial) (.inl rfl) (fun b' u hb hu => (Heap.get?_update_other s.heap (Obj.mapSeq f) (Ne.symm hb)).trans hu) ⟨_, q⟩ ?_
  exact ⟨hz, its', _, hv, q⟩
theorem Inv.lnew {its : List Value} {t' : Nat} (I : Inv X pins σ H s) (hv : Vals ys its) (hz : ys.length ≤ sizeLine) :
    Inv X pins σ (upd H s.heap.objs.size (.lst ys)) { s with heap := s.heap.push { cls := .type "list", data := .seq its.toArray }, toks := t' } :=
  I.laid (fun _ _ q => Heap.get?_push_of_some _ q) (Nat.le_refl _) ⟨hz, its, 0, hv, Heap.get?_push_size _ rfl⟩
theorem Inv.fresh (I : Inv X pins σ H s) : H s.heap.objs.size = none := I.hok.fresh (Nat.le_refl _)
theorem Inv.lstM (I : Inv X pins σ H s) (hH : H l = some (.lst xs)) : xs.length ≤ sizeLine ∧ ∃ (its : List Value) (n : Nat), Vals xs its ∧ xs.length = its.length ∧ s.heap.get? l = some { cls := .type "list", data := .seq its.toArray n } := by
  obtain ⟨z, its, n, r, e⟩ := I.hok l _ hH
  exact ⟨z, its, n, r, r.length, e⟩
theorem notLongL {n : Nat} (h : n ≤ sizeLine) : Builtin.List.listTooLong n = false := by
  unfold Builtin.List.listTooLong
  exact decide_eq_false (by omega)
end
section
variable {X : Cx}
noncomputable def rExtend : V → List V → Hp → VK → Prop := fun x vs H Q => ∃ l b xs zs, x = .ref l ∧ vs = [.ref b] ∧ H l = some (.lst xs) ∧ H b = some (.lst zs) ∧ xs.length + zs.length ≤ sizeLine ∧ Q .non (upd H l (.lst (xs ++ zs)))
theorem mt_extend : MtM X "list.extend" rExtend := by
  intro pins s σ H x vs v us Q I rx rv h
  obtain ⟨l, b, xs, zs, rfl, rfl, hH, hB, hz, q⟩ := h
  cases rx
  obtain ⟨u, rfl, ru⟩ := rv.one
  cases ru
  obtain ⟨z, its, n, r, hl, e⟩ := I.lstM hH
  obtain ⟨z2, its2, n2, r2, hl2, e2⟩ := I.lstM hB
  have hsz : its.toArray.size + its2.toArray.size ≤ sizeLine := by rw [List.size_toArray, List.size_toArray]; omega
  have hlong : ¬ (!its.toArray.isEmpty && Builtin.List.listTooLong (its.toArray.size + its2.toArray.size)) = true := by
    rw [notLongL hsz, Bool.and_false]
    exact Bool.false_ne_true
  refine call_meets F.slot_list_extend ⟨_, e, rfl⟩ F.entry_list_extend (F.args_list_extend_2 _ _)
    (AutoSeq1.list_extend_list_list_0 l its.toArray n b its2.toArray n2 hlong (by rw [List.size_toArray]; omega) (by omega)) ⟨e, e2, ?_⟩
  refine ⟨.non, _, I.lset (its' := its ++ its2) hH e (by simp) (r.append r2) ?_, rfl, q⟩
  rw [List.length_append]
  omega
noncomputable def rPop : V → List V → Hp → VK → Prop := fun x vs H Q => ∃ l xs y, x = .ref l ∧ vs = [] ∧ H l = some (.lst xs) ∧ xs[xs.length - 1]? = some y ∧ Q y (upd H l (.lst xs.dropLast))
theorem mt_pop : MtM X "list.pop" rPop := by
  intro pins s σ H x vs v us Q I rx rv h
  obtain ⟨l, xs, y, rfl, rfl, hH, hy, q⟩ := h
  cases rx
  have hus := rv.zero
  subst hus
  obtain ⟨z, its, n, r, hl, e⟩ := I.lstM hH
  obtain ⟨u, hu, ru⟩ := r.get hy
  have hy' : its.toArray[its.toArray.size - 1]? = some u := by
    show its.toArray[its.length - 1]? = some u
    rw [← Array.getElem?_toList, ← hl]
    exact hu
  refine call_meets F.slot_list_pop ⟨_, e, rfl⟩ F.entry_list_pop (F.args_list_pop_1 _) (MeetsSeq.list_pop_last l its.toArray n u hy' (by rw [List.size_toArray]; omega)) ⟨e, ?_⟩
  refine ⟨y, _, I.lset (its' := its.dropLast) hH e ?_ r.dropLast ?_, ru, q⟩
  · show its.toArray.eraseIdxIfInBounds (its.toArray.size - 1) = its.dropLast.toArray
    rw [List.size_toArray, List.eraseIdxIfInBounds_toArray, erase_last]
  · rw [List.length_dropLast]
    omega
noncomputable def rCat : R2 := fun x y H Q => ∃ l b xs zs, x = .ref l ∧ y = .ref b ∧ H l = some (.lst xs) ∧ H b = some (.lst zs) ∧ xs.length + zs.length ≤ sizeLine ∧ ∀ p, H p = none → Q (.ref p) (upd H p (.lst (xs ++ zs)))
theorem op_cat : OpR X (binaryOp .Add) rCat := by
  intro pins s σ H x y v u Q I rx ry h
  obtain ⟨l, b, xs, zs, rfl, rfl, hH, hB, hz, q⟩ := h
  cases rx
  cases ry
  obtain ⟨z, its, n, r, hl, e⟩ := I.lstM hH
  obtain ⟨z2, its2, n2, r2, hl2, e2⟩ := I.lstM hB
  refine PySem.P.add_list e e2 ?_ (by rw [List.size_toArray, List.size_toArray]; omega)
  have ea : its.toArray ++ its2.toArray = (its ++ its2).toArray := by simp
  rw [ea]
  exact ⟨.ref _, _, I.lnew (t' := s.toks) (r.append r2) (by rw [List.length_append]; omega), rfl, q _ I.fresh⟩
end
end L2
namespace L2
open PySem PySem.Spec PyProof.Rows
theorem vals_of_ints : ∀ {us : List Value} {ns : List Int}, IntsAre us ns → Vals (ns.map V.int) us
  | _, _, .nil => by rw [List.map_nil]; exact Paired.nil
  | _, _, .cons n t h => by rw [List.map_cons]; exact Paired.cons (show RelV (V.int n) (Value.int n t) from ⟨t, rfl⟩) (vals_of_ints h)
theorem Vals.ref1 {a : Addr} {us : List Value} (r : Vals [V.ref a] us) : us = [Value.ref a] := by
  cases r with
  | cons r t =>
    cases t
    cases r
    rfl
section
variable {X : Cx} {pins : List (Addr × Obj)} {σ : St} {H : Hp} {s : Shared}
end
end L2
namespace L2
open PySem PySem.Spec PyProof.Rows
noncomputable abbrev CellAt (h : Heap) (c : Addr) (v : Option Value) : Prop := h.IsCell c v
noncomputable def relS (scope sc : Scope) : Scope :=
  { scope with names := scope.names.map fun (n, k) => if (k == .free && sc.kind == .function && sc.names.lookup n == some .cell) then (n, .cell) else (n, k) }
noncomputable def cloFrom (cells : List (Str × Addr)) : List (Str × NameKind) → List (Str × Addr) → List (Str × Addr)
  | [], acc => acc
  | (n, k) :: r, acc => if k == .free then cloFrom cells r ((n, (cells.lookup n).getD 0) :: acc) else cloFrom cells r acc
theorem closure_loop (env : Env) (f : Str × NameKind → List (Str × Addr) → Sem (ForInStep (List (Str × Addr))))
    (hf : ∀ n k c, f (n, k) c = if k == .free then (do let a ← cellOf env n; pure (.yield ((n, a) :: c))) else pure (.yield c)) :
    ∀ (names : List (Str × NameKind)) (acc : List (Str × Addr)), (∀ y ∈ names, y.2 = .free → ∃ c, env.cells.lookup y.1 = some c) → forIn names acc f = pure (cloFrom env.cells names acc)
  | [], acc, _ => by rw [List.forIn_nil]; rfl
  | (n, k) :: r, acc, h => by
    rw [List.forIn_cons, hf]
    have ih := fun acc => closure_loop env f hf r acc fun y hy => h y (List.mem_cons_of_mem _ hy)
    unfold cloFrom
    by_cases hk : (k == NameKind.free) = true
    · rw [if_pos hk, if_pos hk]
      obtain ⟨c, hc⟩ := h (n, k) List.mem_cons_self (by simpa using hk)
      have e : cellOf env n = pure c := by unfold cellOf; rw [hc]
      rw [e]
      have e2 : (env.cells.lookup n).getD 0 = c := by rw [hc]; rfl
      rw [e2]
      exact ih _
    · rw [if_neg hk, if_neg hk]
      exact ih _
theorem closure_ok {scope : Scope} {env : Env} (h : ∀ y ∈ scope.names, y.2 = .free → ∃ c, env.cells.lookup y.1 = some c) : closureFor scope env = pure (cloFrom env.cells scope.names []) := by
  simp only [closureFor]
  rw [closure_loop env _ (fun n k c => rfl) scope.names [] h]
  rfl
theorem mem_lookup {α : Type} : ∀ {l : List (Str × α)} {n : Str} {c : α}, (n, c) ∈ l → ∃ c', l.lookup n = some c'
  | (k, v) :: r, n, c, h => by
    rw [List.lookup_cons]
    cases hb : n == k with
    | true => exact ⟨_, rfl⟩
    | false =>
      rcases List.mem_cons.mp h with e | h
      · cases e; simp at hb
      · exact mem_lookup h
theorem cloFrom_mem {cells : List (Str × Addr)} : ∀ {names : List (Str × NameKind)} {acc : List (Str × Addr)} {n : Str} {c : Addr}, (n, c) ∈ cloFrom cells names acc → (n, c) ∈ acc ∨ ((n, .free) ∈ names ∧ c = (cells.lookup n).getD 0)
  | [], _, _, _, h => .inl h
  | (m, k) :: r, acc, n, c, h => by
    unfold cloFrom at h
    split at h
    · rename_i hk
      have hk : k = .free := by simpa using hk
      rcases cloFrom_mem h with h | ⟨h1, h2⟩
      · rcases List.mem_cons.mp h with e | h
        · cases e; exact .inr ⟨hk ▸ List.mem_cons_self, rfl⟩
        · exact .inl h
      · exact .inr ⟨List.mem_cons_of_mem _ h1, h2⟩
    · rcases cloFrom_mem h with h | ⟨h1, h2⟩
      · exact .inl h
      · exact .inr ⟨List.mem_cons_of_mem _ h1, h2⟩
theorem cloFrom_acc {cells : List (Str × Addr)} : ∀ {names : List (Str × NameKind)} {acc : List (Str × Addr)} {p : Str × Addr}, p ∈ acc → p ∈ cloFrom cells names acc
  | [], _, _, h => h
  | (m, k) :: r, acc, p, h => by
    unfold cloFrom
    split
    · exact cloFrom_acc (List.mem_cons_of_mem _ h)
    · exact cloFrom_acc h
theorem cloFrom_has {cells : List (Str × Addr)} : ∀ {names : List (Str × NameKind)} {acc : List (Str × Addr)} {n : Str}, (n, .free) ∈ names → (n, (cells.lookup n).getD 0) ∈ cloFrom cells names acc
  | (m, k) :: r, acc, n, h => by
    unfold cloFrom
    rcases List.mem_cons.mp h with e | h
    · cases e
      exact cloFrom_acc List.mem_cons_self
    · split
      · exact cloFrom_has h
      · exact cloFrom_has h
theorem cells_mem : ∀ {names : List (Str × NameKind)} {h : Heap} {acc : List (Str × Addr)} {x : Str} {c : Addr}, (x, c) ∈ cellsFrom h.objs.size names acc →
    (x, c) ∈ acc ∨ ((x, .cell) ∈ names ∧ h.objs.size ≤ c ∧ CellAt (pushCells h names) c none)
  | [], _, _, _, _, h => .inl h
  | (n, k) :: r, h, acc, x, c, hm => by
    unfold cellsFrom at hm
    unfold pushCells
    split at hm
    · rename_i hk
      rw [if_pos hk]
      have hk : k = .cell := by simpa using hk
      rw [← Heap.size_push h { cls := .type "cell", data := .cell none }] at hm
      rcases cells_mem hm with hm | ⟨h1, h2, h3⟩
      · rcases List.mem_cons.mp hm with e | hm
        · cases e
          exact .inr ⟨hk ▸ List.mem_cons_self, Nat.le_refl _, _, pushCells_keeps r _ _ _ (Heap.get?_push_size _ rfl), rfl⟩
        · exact .inl hm
      · rw [Heap.size_push] at h2
        exact .inr ⟨List.mem_cons_of_mem _ h1, Nat.le_of_succ_le h2, h3⟩
    · rename_i hk
      rw [if_neg hk]
      rcases cells_mem hm with hm | ⟨h1, h2, h3⟩
      · exact .inl hm
      · exact .inr ⟨List.mem_cons_of_mem _ h1, h2, h3⟩
theorem cells_acc : ∀ {names : List (Str × NameKind)} {n : Nat} {acc : List (Str × Addr)} {p : Str × Addr}, p ∈ acc → p ∈ cellsFrom n names acc
  | [], _, _, _, h => h
  | (m, k) :: r, n, acc, p, h => by
    unfold cellsFrom
    split
    · exact cells_acc (List.mem_cons_of_mem _ h)
    · exact cells_acc h
theorem cells_has : ∀ {names : List (Str × NameKind)} {n : Nat} {acc : List (Str × Addr)} {x : Str}, (x, .cell) ∈ names → ∃ c, (x, c) ∈ cellsFrom n names acc
  | (m, k) :: r, n, acc, x, h => by
    unfold cellsFrom
    rcases List.mem_cons.mp h with e | h
    · cases e
      exact ⟨n, cells_acc List.mem_cons_self⟩
    · split
      · exact cells_has h
      · exact cells_has h
theorem cells_inj : ∀ {names : List (Str × NameKind)} {h : Heap} {acc : List (Str × Addr)} {x y : Str} {c : Addr}, (∀ p ∈ acc, p.2 < h.objs.size) → (∀ x y c, (x, c) ∈ acc → (y, c) ∈ acc → x = y) →
    (x, c) ∈ cellsFrom h.objs.size names acc → (y, c) ∈ cellsFrom h.objs.size names acc → x = y
  | [], _, _, _, _, _, _, hi, h1, h2 => hi _ _ _ h1 h2
  | (n, k) :: r, h, acc, x, y, c, hl, hi, h1, h2 => by
    unfold cellsFrom at h1 h2
    split at h1
    · rename_i hk
      rw [if_pos hk] at h2
      rw [← Heap.size_push h { cls := .type "cell", data := .cell none }] at h1 h2
      refine cells_inj (h := h.push _) (fun p hp => ?_) (fun x y c a b => ?_) h1 h2
      · rw [Heap.size_push]
        rcases List.mem_cons.mp hp with rfl | hp
        · exact Nat.lt_succ_self _
        · exact Nat.lt_succ_of_lt (hl p hp)
      · rcases List.mem_cons.mp a with e | a <;> rcases List.mem_cons.mp b with e' | b
        · cases e; cases e'; rfl
        · cases e; exact absurd (hl _ b) (Nat.lt_irrefl _)
        · cases e'; exact absurd (hl _ a) (Nat.lt_irrefl _)
        · exact hi _ _ _ a b
    · rename_i hk
      rw [if_neg hk] at h2
      exact cells_inj hl hi h1 h2
theorem newEnv_comp {M : Model} {A : Around} {E : Value → Shared → Prop} {s : Shared} {scope : Scope} {globals : Addr} {closure : List (Str × Addr)} {qual : Str} {func : Option Addr} {code : Value} {around : Env} {builtins : Addr} {Q : Env → Shared → Prop}
    (h : Q (newEnv scope s.heap.objs.size globals (cellsFrom (s.heap.objs.size + 1) scope.names closure) qual func code (some around) builtins)
      { s with heap := pushCells (s.heap.push { cls := .type "dict", data := .dict #[] }) scope.names }) :
    wpAny M A (newFunctionEnv scope globals closure [] qual func code (some around) builtins) Q E s := by
  simp only [newFunctionEnv, Option.isSome_some, if_true]
  refine wpAny_bind (wpAny_alloc ?_)
  refine wpAny_bind (wpAny_layCells _ (fun n k c => rfl) scope.names closure _ _ ?_)
  rw [show ({ s with heap := s.heap.push { cls := .type "dict", data := .dict #[] } } : Shared).heap.objs.size = s.heap.objs.size + 1 from Heap.size_push ..]
  rw [List.forIn_nil]
  exact wpAny_bind (wpAny_pure (wpAny_pure h))
theorem lookup_relS {sc : Scope} : ∀ {names : List (Str × NameKind)} {x : Str} {k : NameKind},
    (names.map fun (n, k) => if (k == NameKind.free && sc.kind == .function && sc.names.lookup n == some .cell) then (n, NameKind.cell) else (n, k)).lookup x = some k →
    ∃ k', names.lookup x = some k' ∧ (k = k' ∨ (k' = .free ∧ k = .cell))
  | [], _, _, h => by simp at h
  | (n, k₀) :: r, x, k, h => by
    have ih := @lookup_relS sc r x k
    have h' : List.lookup x ((if (k₀ == NameKind.free && sc.kind == .function && sc.names.lookup n == some .cell) = true then (n, NameKind.cell) else (n, k₀)) :: (r.map _)) = some k := h
    cases hx : x == n with
    | true =>
      simp only [List.lookup_cons, hx]
      by_cases hc : (k₀ == NameKind.free && sc.kind == .function && sc.names.lookup n == some .cell) = true
      · rw [if_pos hc] at h'
        simp only [List.lookup_cons, hx] at h'
        cases h'
        simp only [Bool.and_eq_true, beq_iff_eq] at hc
        exact ⟨k₀, rfl, .inr ⟨hc.1.1, rfl⟩⟩
      · rw [if_neg hc] at h'
        simp only [List.lookup_cons, hx] at h'
        cases h'
        exact ⟨_, rfl, .inl rfl⟩
    | false =>
      simp only [List.lookup_cons, hx]
      by_cases hc : (k₀ == NameKind.free && sc.kind == .function && sc.names.lookup n == some .cell) = true
      · rw [if_pos hc] at h'
        simp only [List.lookup_cons, hx] at h'
        exact ih h'
      · rw [if_neg hc] at h'
        simp only [List.lookup_cons, hx] at h'
        exact ih h'
structure BlkOk (N : List Str) (sc scope : Scope) (own : List (Str × Nat)) : Prop where
  kind : scope.kind = .function
  uniq : ∀ y ∈ scope.names, scope.names.lookup y.1 = some y.2
  ix : ∀ p ∈ own, N[p.2]? = some p.1
  free : ∀ y ∈ scope.names, y.2 = .free → sc.names.lookup y.1 = some .cell ∨ sc.names.lookup y.1 = some .free
  own : ∀ y ∈ scope.names, y.2 = .local ∨ y.2 = .cell → y.1 ∈ own.map (·.1) ∨ y.1 ∉ N
noncomputable def wipe (σ : St) : List Nat → St
  | [] => σ
  | v :: vs => (wipe σ vs).set v none
theorem wipe_length (σ : St) : ∀ vs : List Nat, (wipe σ vs).length = σ.length
  | [] => rfl
  | v :: vs => by unfold wipe; rw [List.length_set, wipe_length σ vs]
theorem wipe_some {σ : St} {i : Nat} {x : V} : ∀ {vs : List Nat}, (wipe σ vs)[i]? = some (some x) → σ[i]? = some (some x) ∧ i ∉ vs
  | [], h => ⟨h, by simp⟩
  | v :: vs, h => by
    unfold wipe at h
    by_cases hi : v = i
    · subst hi
      by_cases hv : v < (wipe σ vs).length
      · rw [List.getElem?_set_self hv] at h; cases h
      · rw [List.getElem?_eq_none (by simpa using hv)] at h; cases h
    · rw [List.getElem?_set_ne hi] at h
      obtain ⟨h1, h2⟩ := wipe_some h
      exact ⟨h1, by simp only [List.mem_cons, not_or]; exact ⟨fun e => hi e.symm, h2⟩⟩
noncomputable abbrev Cx.blk (X : Cx) (s : Shared) (H : Hp) (scope : Scope) (cenv : Env) (fp : List Addr) : Cx := { X with s_0 := s, H_0 := H, env := cenv, outer := X.stack, ex := fp, fn := fun x => scope.names.lookup x == some .cell, pn := [], xe := fun _ _ => False }
section
variable {X : Cx} {pins : List (Addr × Obj)} {σ : St} {H : Hp} {s : Shared}
theorem block_start {scope : Scope} {own : List (Str × Nat)} {fp : List Addr} (I : Inv X pins σ H s) (ok : BlkOk X.N X.env.scope scope own) (hN : X.N.Nodup) (hfp : ∀ b ∈ fp, FpOk X pins H b ∧ b < s.heap.objs.size) :
    Inv (X.blk s H scope (compEnvC scope (cellsFrom (s.heap.objs.size + 1) scope.names (cloFrom X.env.cells scope.names [])) s.heap.objs.size X.env) fp) [] (wipe σ (own.map (·.2))) H { s with heap := pushCells (s.heap.push { cls := .type "dict", data := .dict #[] }) scope.names } := by
  have hfree : ∀ y ∈ scope.names, y.2 = .free → ∃ c, X.env.cells.lookup y.1 = some c := fun y hy e => by
    rcases ok.free y hy e with k | k
    · exact I.ok.has _ (.inl k)
    · exact I.ok.has _ (.inr k)
  generalize hcenv : compEnvC scope (cellsFrom (s.heap.objs.size + 1) scope.names (cloFrom X.env.cells scope.names [])) s.heap.objs.size X.env = cenv
  have kp : ∀ b o, s.heap.get? b = some o → (pushCells (s.heap.push { cls := .type "dict", data := .dict #[] }) scope.names).get? b = some o := fun b o e => pushCells_keeps _ _ _ _ (Heap.get?_push_of_some _ e)
  have hL : cenv.locals = s.heap.objs.size := by rw [← hcenv]; rfl
  have hcl : cenv.cells = cellsFrom (s.heap.objs.size + 1) scope.names (cloFrom X.env.cells scope.names []) := by rw [← hcenv]; rfl
  have hsc : cenv.scope = relS scope X.env.scope := by rw [← hcenv]; rfl
  rw [← Heap.size_push s.heap { cls := .type "dict", data := .dict #[] }] at hcl
  have cm : ∀ {y c}, (y, c) ∈ cloFrom X.env.cells scope.names [] → X.env.cells.lookup y = some c ∧ c < s.heap.objs.size := fun {y c} hm => by
    rcases cloFrom_mem hm with hm | ⟨h1, rfl⟩
    · cases hm
    · obtain ⟨c, hc⟩ := hfree _ h1 rfl
      rw [hc]
      obtain ⟨w, z⟩ := I.cell _ _ hc
      exact ⟨rfl, z.lt⟩
  have mem : ∀ {y c}, cenv.cells.lookup y = some c → (X.env.cells.lookup y = some c ∧ c < s.heap.objs.size) ∨ (s.heap.objs.size + 1 ≤ c ∧ CellAt (pushCells (s.heap.push { cls := .type "dict", data := .dict #[] }) scope.names) c none) := fun {y c} e => by
    rw [hcl] at e
    rcases cells_mem (PySem.mem_of_lookup e) with hm | ⟨_, h2, h3⟩
    · exact .inl (cm hm)
    · rw [Heap.size_push] at h2; exact .inr ⟨h2, h3⟩
  have look : ∀ {y}, scope.names.lookup y = some .free → ∃ c, cenv.cells.lookup y = some c ∧ X.env.cells.lookup y = some c := fun {y} hl => by
    have hy : (y, NameKind.free) ∈ scope.names := PySem.mem_of_lookup hl
    obtain ⟨c', e'⟩ := mem_lookup (cells_acc (names := scope.names) (n := (s.heap.push { cls := .type "dict", data := .dict #[] }).objs.size) (cloFrom_has (cells := X.env.cells) (acc := []) hy))
    rw [← hcl] at e'
    refine ⟨c', e', ?_⟩
    rw [hcl] at e'
    rcases cells_mem (PySem.mem_of_lookup e') with hm | ⟨h1, _, _⟩
    · exact (cm hm).1
    · have := ok.uniq _ h1
      rw [hl] at this; cases this
  have okB : (X.blk s H scope cenv fp).Ok := by
    refine ⟨I.ok.mod, by show cenv.scope.kind = _; rw [hsc]; exact ok.kind, by show cenv.globals = _; rw [← hcenv]; exact I.ok.glob, by show cenv.builtins = _; rw [← hcenv]; exact I.ok.blt, by show s.heap.objs.size ≤ cenv.locals; rw [hL]; exact Nat.le_refl _,
      fun y z c e1 e2 => ?_, fun y hy => ?_, fun y c z e => ?_, I.ok.hd, I.ok.frames, .inl rfl, fun b hb => ⟨?_, fun y c e z => ?_⟩, I.bs, Nat.le_trans I.ok.bsz I.sz, fun b o e hb => ?_, fun b hb z => ?_, I.stack, I.stkFree⟩
    · have e1 : cenv.cells.lookup y = some c := e1
      have e2 : cenv.cells.lookup z = some c := e2
      rw [hcl] at e1 e2
      refine cells_inj (fun p hp => ?_) (fun y z c a b => I.ok.inj y z c (cm a).1 (cm b).1) (PySem.mem_of_lookup e1) (PySem.mem_of_lookup e2)
      rw [Heap.size_push]
      exact Nat.lt_succ_of_lt (cm (y := p.1) (c := p.2) hp).2
    · show ∃ c, cenv.cells.lookup y = some c
      have key : ∀ k, cenv.kindOf y = some k → (k = .cell ∨ k = .free) → ∃ c, cenv.cells.lookup y = some c := fun k hk hk' => by
        unfold Env.kindOf at hk
        rw [hsc] at hk
        obtain ⟨k', e, r⟩ := lookup_relS hk
        have : k' = .cell ∨ k' = .free := by
          rcases r with rfl | ⟨rfl, _⟩
          · exact hk'
          · exact .inr rfl
        rcases this with rfl | rfl
        · obtain ⟨c, hm⟩ := cells_has (n := (s.heap.push { cls := .type "dict", data := .dict #[] }).objs.size) (acc := cloFrom X.env.cells scope.names []) (PySem.mem_of_lookup e)
          obtain ⟨c', e'⟩ := mem_lookup hm
          exact ⟨c', by rw [hcl]; exact e'⟩
        · obtain ⟨c, h1, _⟩ := look e
          exact ⟨c, h1⟩
      rcases hy with hy | hy
      · exact key _ hy (.inl rfl)
      · exact key _ hy (.inr rfl)
    · have z : (scope.names.lookup y == some NameKind.cell) = true := z
      have z : scope.names.lookup y = some .cell := by simpa using z
      have e : cenv.cells.lookup y = some c := e
      rw [hcl] at e
      rcases cells_mem (PySem.mem_of_lookup e) with hm | ⟨_, h2, _⟩
      · rcases cloFrom_mem hm with hm | ⟨h1, _⟩
        · cases hm
        · have q := ok.uniq _ h1
          rw [z] at q; cases q
      · rw [Heap.size_push] at h2
        exact Nat.le_of_succ_le h2
    · show b ≠ cenv.locals
      rw [hL]; exact Nat.ne_of_lt (hfp b hb).2
    · have e : cenv.cells.lookup y = some c := e
      rcases mem e with ⟨h1, _⟩ | ⟨h1, _⟩
      · exact (hfp b hb).1.2.2.2.2.1 y c h1 z
      · have h2 : s.heap.objs.size + 1 ≤ b := by rw [← z]; exact h1
        exact absurd (Nat.lt_of_lt_of_le (hfp b hb).2 (Nat.le_of_succ_le h2)) (Nat.lt_irrefl _)
    · rcases (hfp b hb).1.2.2.2.1 with z | z
      · exact I.ok.noex b o e z
      · exact absurd (Nat.lt_of_lt_of_le (Heap.lt_size e) (Nat.le_trans I.ok.bsz z)) (Nat.lt_irrefl _)
    · rcases List.mem_cons.mp (I.stkSub b z) with z | z
      · exact (hfp b hb).1.2.1 z
      · exact (hfp b hb).1.2.2.1 z
  refine ⟨okB, rfl, I.bare, Un.kept kp, ⟨fun _ => none, ?_, fun i y av e1 e2 e3 => ?_⟩, fun y c e => ?_, ?_, fun y c e => ?_, fun p hp => ?_, I.hok.kept kp, by rw [wipe_length]; exact I.len⟩
  · show Heap.Ns _ cenv.locals _
    rw [hL]
    exact Heap.Ns.keeps (Heap.Ns.new ..) fun b o e => pushCells_keeps _ _ _ _ e
  · obtain ⟨e2, hne⟩ := wipe_some e2
    have hfr : scope.names.lookup y = some .free ∧ (cenv.kindOf y = some .cell ∨ cenv.kindOf y = some .free) := by
      have key : ∀ k, cenv.scope.names.lookup y = some k → k = .local ∨ k = .cell ∨ k = .free → scope.names.lookup y = some .free ∧ (cenv.kindOf y = some .cell ∨ cenv.kindOf y = some .free) := fun k hk hk' => by
        have hk0 := hk
        rw [hsc] at hk
        obtain ⟨k', e, r⟩ := lookup_relS hk
        have no : ¬ (k' = .local ∨ k' = .cell) := fun hh => by
          rcases ok.own _ (PySem.mem_of_lookup e) hh with e' | e'
          · obtain ⟨p, hp, hpy⟩ := List.mem_map.mp e'
            have e3 := ok.ix p hp
            have : p.1 = y := hpy
            rw [this] at e3
            exact hne (List.mem_map.mpr ⟨p, hp, nodup_ix hN e3 e1⟩)
          · exact e' (List.mem_of_getElem? e1)
        rcases r with rfl | ⟨rfl, rfl⟩
        · rcases hk' with rfl | rfl | rfl
          · exact absurd (.inl rfl) no
          · exact absurd (.inr rfl) no
          · exact ⟨e, .inr hk0⟩
        · exact ⟨e, .inl hk0⟩
      have e3 : Vis cenv.scope y := e3
      rcases e3 with e3 | e3 | e3
      · exact key _ e3 (.inl rfl)
      · exact key _ e3 (.inr (.inl rfl))
      · exact key _ e3 (.inr (.inr rfl))
    obtain ⟨m, hn, hl⟩ := I.loc
    have hvis : Vis X.env.scope y := (ok.free _ (PySem.mem_of_lookup hfr.1) rfl).elim (fun k => .inr (.inl k)) (fun k => .inr (.inr k))
    obtain ⟨w, r, q⟩ := hl i y av e1 e2 hvis
    refine ⟨w, r, .inr ⟨hfr.2, ?_⟩⟩
    obtain ⟨c, h1, h2⟩ := look hfr.1
    rcases q with ⟨k, _⟩ | ⟨_, c', e', z⟩
    · have k : X.env.scope.names.lookup y = some .local := k
      rcases ok.free _ (PySem.mem_of_lookup hfr.1) rfl with k' | k' <;> rw [show X.env.scope.names.lookup y = _ from k'] at k <;> cases k
    · rw [h2] at e'; cases e'
      exact ⟨c, h1, z.keeps kp⟩
  · have e : cenv.cells.lookup y = some c := e
    rcases mem e with ⟨h1, _⟩ | ⟨_, z⟩
    · obtain ⟨w, z⟩ := I.cell y c h1
      exact ⟨w, z.keeps kp⟩
    · exact ⟨_, z⟩
  · show H cenv.locals = none
    rw [hL]; exact I.hok.fresh (Nat.le_refl _)
  · have e : cenv.cells.lookup y = some c := e
    rcases mem e with ⟨h1, _⟩ | ⟨h1, _⟩
    · exact I.freeC y c h1
    · exact I.hok.fresh (Nat.le_of_succ_le h1)
  · exact absurd (show p ∈ ([] : List (Addr × Obj)) ++ [] from hp) (by simp)
theorem app_ok {E : Value → Shared → Prop} {D : Addr} {xs : List V} {y : V} {v : Value} {Q : Value → Shared → Prop} (I : Inv X pins σ H s) (hD : H D = some (.lst xs)) (hz : xs.length < sizeLine) (r : RelV y v)
    (h : ∀ s', Inv X pins σ (upd H D (.lst (xs ++ [y]))) s' → Q .none s') : wpAny (model X.prog X.w) X.A (call (.builtin "list.append") [.ref D, v]) Q E s := by
  obtain ⟨hz', its, n, ri, e⟩ := I.hok D _ hD
  have hl := ri.length
  refine append_at (hsz := by rw [List.size_toArray]; omega) e fun h' sb ho' => ?_
  refine h { s with heap := h' } (I.write (t' := s.toks) (by rw [hD]; trivial) (.inl rfl) (fun b u hb q => (sb.2 b hb).trans q) ⟨_, ho'⟩ ⟨by rw [List.length_append]; exact hz, its ++ [v], n + 1, ri.append (.cons r .nil), ?_⟩)
  rw [ho']
  simp
noncomputable def PTs (X : Cx) (ifs : List Expr) (t : TT) : Prop :=
  ∀ (pins : List (Addr × Obj)) (s : Shared) (σ : St) (H : Hp) (Q : Bool → Hp → Prop), Inv X pins σ H s → t σ H Q →
    wpAny (model X.prog X.w) X.A (forIn ifs true fun c r => if r = true then do let ok ← isTrue c X.env (eval c X.env); pure (ForInStep.yield ok) else pure (ForInStep.yield r)) (TP X pins σ Q) X.xe s
noncomputable def tYes : TT := fun _ H Q => Q true H
theorem pts_nil : PTs X [] tYes := fun _ _ _ H _ I h => wpAny_tests_nil ⟨H, I, h⟩
theorem pts_one {c : Expr} {t : TT} (h : PT X c t) : PTs X [c] t := fun pins s σ H Q I hw => wpAny_tests_one (h pins s σ H Q I hw)
end
theorem thnF {α : Type} {t : Sem α} {Q Q' : α → Shared → Prop} {M : Model} {A : Around} {E : Value → Shared → Prop} {s : Shared} (h : wpAny M A t Q (fun _ _ => False) s) (hQ : ∀ a s, Q a s → Q' a s) : wpAny M A t Q' E s := wpAny_mono h hQ fun _ _ z => False.elim z
theorem compLoop_any {prog : Program} {w : World} {A : Around} {R : Result → Shared → Prop} {s : Shared} {elt target iter : Expr} {ifs : List Expr} {scope : Scope} {pos : Pos} {it acc : Value} {env : Env} (I : Nat → Shared → Prop)
    (turn : ∀ n s, I n s → wpAny (model prog w) A (pyNext it) (fun r s₁ => match r with
      | none => R (.ok .next) s₁
      | some v => wpAny (model prog w) A (letOwnedTupleGo target it v) (fun _ s₁' => wpAny (model prog w) A (assign target env v) (fun _ s₂ =>
          wpAny (model prog w) A (forIn ifs true fun c r => if r = true then do let ok ← isTrue c env (eval c env); pure (ForInStep.yield ok) else pure (ForInStep.yield r)) (fun ok s₃ =>
            if ok = true then wpAny (model prog w) A (eval elt env) (fun x s₄ =>
              wpAny (model prog w) A (call (.builtin "list.append") [acc, x]) (fun _ s₅ => ∃ m, m < n ∧ I m s₅) (notedBy (model prog w) A env fun e s' => R (.error e) s') s₄) (notedBy (model prog w) A env fun e s' => R (.error e) s') s₃
            else ∃ m, m < n ∧ I m s₃) (notedBy (model prog w) A env fun e s' => R (.error e) s') s₂) (notedBy (model prog w) A env fun e s' => R (.error e) s') s₁') (notedBy (model prog w) A env fun e s' => R (.error e) s') s₁) (notedBy (model prog w) A env fun e s' => R (.error e) s') s)
    (n : Nat) (h : I n s) :
    codeAny (model prog w) A (.compLoop (.ListComp elt [⟨target, iter, ifs, 0⟩] scope pos) 0 it acc env) R s := by
  refine codeAny_loop rfl I (fun n s hI => ?_) n h
  show wpAny _ A ((compTurn (.ListComp elt [⟨target, iter, ifs, 0⟩] scope pos) 0 it acc env).onRaise (fun x => do noteFrame x env; theTreesLotGoes x)) _ _ s
  refine wpAny_noted ?_
  rw [compTurn_list]
  refine wpAny_bind (wpAny_standAt (wpAny_bind (wpAny_mono (turn n s hI) (fun r s₁ h₁ => ?_) fun _ _ h' => h')))
  cases r with
  | none => exact wpAny_pure h₁
  | some v =>
    refine wpAny_bind (wpAny_mono h₁ (fun _ s₁' h₁' => ?_) fun _ _ h' => h')
    refine wpAny_bind (wpAny_mono h₁' (fun _ s₂ h₂ => wpAny_bind (wpAny_mono h₂ (fun ok s₃ h₃ => ?_) fun _ _ h' => h')) fun _ _ h' => h')
    cases ok with
    | false => exact wpAny_pure ⟨rfl, h₃⟩
    | true =>
      exact wpAny_bind (wpAny_bind (wpAny_mono h₃ (fun x s₄ h₄ => wpAny_bind (wpAny_mono h₄ (fun _ s₅ h₅ => wpAny_pure (wpAny_pure ⟨rfl, h₅⟩)) fun _ _ h' => h')) fun _ _ h' => h'))
section
variable {X : Cx}
noncomputable def tLc (wi : TI) (g : TG) (tt : TT) (te : TE) (vs : List Nat) : TE := fun σ H Q => wi σ H fun J H1 => ∀ D, H1 D = none → ∃ W : Nat → Nat → Hp → Prop, (∃ m, W 0 m (upd H1 D (.lst []))) ∧ ∀ i m H, W i m H →
  (J.stop i H ∧ Q (.ref D) H) ∨ (J.go i H ∧ ∃ Nx : Hp → Prop, (∀ H', Nx H' → ∃ m', m' < m ∧ W (i + 1) m' H') ∧ ∀ x H', J.yld i H x H' → g x (wipe σ vs) H' fun σ2 H2 => wipe σ2 vs = wipe σ vs ∧ tt σ2 H2 fun b H3 =>
    if b = true then te σ2 H3 fun y H4 => ∃ acc, H4 D = some (.lst acc) ∧ acc.length < sizeLine ∧ Nx (upd H4 D (.lst (acc ++ [y]))) else Nx H3)
theorem sw_true {elt : Expr} {gs : List Comprehension} {scope : Scope} {pos py : Pos} {y : Str} {l : Nat} {env : Env} (hk : env.scope.kind = .function) (hy : env.scope.names.lookup y = some .local) (hl : (py.line == pos.line) = true)
    (ha : (scope.names.any fun (n, k) => n == y && (k == .local || k == .cell)) = false) : swapsWith (.ListComp elt gs scope pos) (some (.Name y py)) l env = pure true := by
  have ky : env.kindOf y = some .local := hy
  have hb : env.blockKind = .function := by unfold Env.blockKind; rw [hk]; rfl
  unfold swapsWith
  have hp : (Expr.ListComp elt gs scope pos).pos = pos := rfl
  have hq : (Expr.Name y py).pos = py := rfl
  simp only [hb, ky, ha, hp, hq, hl]
  rfl
end
theorem lc_range {lo : Int} {n : Nat} {g : TG} {tt : TT} {te : TE} {vs : List Nat} {σ : St} {H1 : Hp} {D : Addr} {Qd : Hp → Prop} (Pv : Nat → Hp → Prop) (h0 : Pv 0 (upd H1 D (.lst [])))
    (hs : ∀ i H, i < n → Pv i H → g (.int (lo + i)) (wipe σ vs) H fun σ2 H2 => wipe σ2 vs = wipe σ vs ∧ tt σ2 H2 fun b H3 =>
      if b = true then te σ2 H3 fun y H4 => ∃ acc, H4 D = some (.lst acc) ∧ acc.length < sizeLine ∧ Pv (i + 1) (upd H4 D (.lst (acc ++ [y]))) else Pv (i + 1) H3) (hd : ∀ H, Pv n H → Qd H) :
    ∃ W : Nat → Nat → Hp → Prop, (∃ m, W 0 m (upd H1 D (.lst []))) ∧ ∀ i m H, W i m H →
      ((Itr lo n).stop i H ∧ Qd H) ∨ ((Itr lo n).go i H ∧ ∃ Nx : Hp → Prop, (∀ H', Nx H' → ∃ m', m' < m ∧ W (i + 1) m' H') ∧ ∀ x H', (Itr lo n).yld i H x H' → g x (wipe σ vs) H' fun σ2 H2 => wipe σ2 vs = wipe σ vs ∧ tt σ2 H2 fun b H3 =>
        if b = true then te σ2 H3 fun y H4 => ∃ acc, H4 D = some (.lst acc) ∧ acc.length < sizeLine ∧ Nx (upd H4 D (.lst (acc ++ [y]))) else Nx H3) := by
  refine ⟨fun i m H => m = n - i ∧ i ≤ n ∧ Pv i H, ⟨n, by simp, Nat.zero_le _, h0⟩, ?_⟩
  rintro i m H ⟨rfl, hi, p⟩
  by_cases hlt : i < n
  · refine .inr ⟨hlt, Pv (i + 1), fun H' p' => ⟨n - (i + 1), by omega, rfl, hlt, p'⟩, fun x H' y => ?_⟩
    obtain ⟨e, y⟩ := y
    subst e y
    exact hs i _ hlt p
  · have e : i = n := by omega
    subst e
    exact .inl ⟨Nat.le_refl _, hd H p⟩
theorem lc_list {K : PySem.W.Frag} {a : Addr} {xs : List V} {g : TG} {tt : TT} {te : TE} {vs : List Nat} {σ : St} {H1 : Hp} {D : Addr} {Qd : Hp → Prop} (Pv : Nat → Hp → Prop) (h0 : Pv 0 (upd H1 D (.lst []))) (hl : ∀ i H, i ≤ xs.length → Pv i H → SqL K H a xs)
    (hs : ∀ i x H, xs[i]? = some x → Pv i H → g x (wipe σ vs) H fun σ2 H2 => wipe σ2 vs = wipe σ vs ∧ tt σ2 H2 fun b H3 =>
      if b = true then te σ2 H3 fun y H4 => ∃ acc, H4 D = some (.lst acc) ∧ acc.length < sizeLine ∧ Pv (i + 1) (upd H4 D (.lst (acc ++ [y]))) else Pv (i + 1) H3) (hd : ∀ H, Pv xs.length H → Qd H) :
    ∃ W : Nat → Nat → Hp → Prop, (∃ m, W 0 m (upd H1 D (.lst []))) ∧ ∀ i m H, W i m H →
      ((Itl K a).stop i H ∧ Qd H) ∨ ((Itl K a).go i H ∧ ∃ Nx : Hp → Prop, (∀ H', Nx H' → ∃ m', m' < m ∧ W (i + 1) m' H') ∧ ∀ x H', (Itl K a).yld i H x H' → g x (wipe σ vs) H' fun σ2 H2 => wipe σ2 vs = wipe σ vs ∧ tt σ2 H2 fun b H3 =>
        if b = true then te σ2 H3 fun y H4 => ∃ acc, H4 D = some (.lst acc) ∧ acc.length < sizeLine ∧ Nx (upd H4 D (.lst (acc ++ [y]))) else Nx H3) := by
  refine ⟨fun i m H => m = xs.length - i ∧ i ≤ xs.length ∧ Pv i H, ⟨xs.length, by simp, Nat.zero_le _, h0⟩, ?_⟩
  rintro i m H ⟨rfl, hi, p⟩
  have q := hl i H hi p
  by_cases hlt : i < xs.length
  · refine .inr ⟨⟨xs, xs[i], q, by simp [hlt]⟩, Pv (i + 1), fun H' p' => ⟨xs.length - (i + 1), by omega, rfl, hlt, p'⟩, fun x H' y => ?_⟩
    obtain ⟨e, y⟩ := y
    subst e
    exact hs i x _ (y xs q) p
  · have e : i = xs.length := by omega
    subst e
    exact .inl ⟨⟨xs, q, Nat.le_refl _⟩, hd H p⟩
noncomputable def blkC (N : List Str) (sc scope : Scope) (own : List (Str × Nat)) : Bool :=
  (match scope.kind with | .function => true | _ => false) && (scope.names.all fun y => decide (scope.names.lookup y.1 = some y.2)) && (own.all fun p => decide (N[p.2]? = some p.1)) &&
    (scope.names.all fun y => match y.2 with
      | .free => (match sc.names.lookup y.1 with | some .cell => true | some .free => true | _ => false)
      | .local => decide (y.1 ∈ own.map (·.1)) || decide (y.1 ∉ N)
      | .cell => decide (y.1 ∈ own.map (·.1)) || decide (y.1 ∉ N)
      | _ => true)
theorem blkOk_by {N : List Str} {sc scope : Scope} {own : List (Str × Nat)} (h : blkC N sc scope own = true) : BlkOk N sc scope own := by
  unfold blkC at h
  simp only [Bool.and_eq_true, List.all_eq_true, decide_eq_true_eq] at h
  obtain ⟨⟨⟨h1, h2⟩, h3⟩, h4⟩ := h
  refine ⟨?_, h2, h3, fun y hy e => ?_, fun y hy e => ?_⟩
  · split at h1
    · assumption
    · cases h1
  · have q := h4 y hy
    simp only [e] at q
    split at q <;> first | exact .inl (by assumption) | exact .inr (by assumption) | cases q
  · have q := h4 y hy
    rcases e with e | e <;> (simp only [e, Bool.or_eq_true, decide_eq_true_eq] at q; exact q)
end L2
namespace L2
open PySem PySem.Spec PyProof.Rows
section
variable {κ : Type} [DecidableEq κ]
noncomputable def valV (kvs : List (κ × V)) (k : κ) : Option V := (kvs.find? fun kv => decide (kv.1 = k)).map (·.2)
noncomputable def putK (kvs : List (κ × V)) (k : κ) (v : V) : List (κ × V) :=
  if (kvs.any fun kv => decide (kv.1 = k)) = true then kvs.map (fun kv => if kv.1 = k then (kv.1, v) else kv) else kvs ++ [(k, v)]
theorem valV_pos {p : κ × V} {r : List (κ × V)} {k : κ} (e : p.1 = k) : valV (p :: r) k = some p.2 := by simp [valV, List.find?_cons, e]
theorem valV_neg {p : κ × V} {r : List (κ × V)} {k : κ} (e : ¬ p.1 = k) : valV (p :: r) k = valV r k := by simp [valV, List.find?_cons, e]
theorem valV_any (k : κ) : ∀ kvs : List (κ × V), (kvs.any fun kv => decide (kv.1 = k)) = (valV kvs k).isSome
  | [] => rfl
  | p :: r => by
    rw [List.any_cons]
    by_cases e : p.1 = k
    · simp only [valV_pos e, decide_eq_true e, Bool.true_or, Option.isSome_some]
    · rw [valV_neg e, decide_eq_false e, Bool.false_or]; exact valV_any k r
theorem valV_map (k j : κ) (y : V) : ∀ kvs : List (κ × V), valV (kvs.map fun kv => if kv.1 = k then (kv.1, y) else kv) j = (valV kvs j).map fun x => if j = k then y else x
  | [] => rfl
  | p :: r => by
    have ih := valV_map k j y r
    rw [List.map_cons]
    by_cases h : p.1 = k
    · rw [if_pos h]
      by_cases e : p.1 = j
      · rw [valV_pos (p := (p.1, y)) e, valV_pos e, Option.map_some, if_pos (e.symm.trans h)]
      · rw [valV_neg (p := (p.1, y)) e, valV_neg e, ih]
    · rw [if_neg h]
      by_cases e : p.1 = j
      · rw [valV_pos (p := p) e, valV_pos e, Option.map_some, if_neg (fun z => h (e.trans z))]
      · rw [valV_neg (p := p) e, valV_neg e, ih]
theorem valV_snoc (k j : κ) (y : V) : ∀ kvs : List (κ × V), valV kvs k = none → valV (kvs ++ [(k, y)]) j = if j = k then some y else valV kvs j
  | [], _ => by
    by_cases e : k = j
    · rw [if_pos e.symm]; exact valV_pos (p := (k, y)) e
    · rw [if_neg (fun z => e z.symm)]; exact valV_neg (p := (k, y)) e
  | p :: r, hn => by
    rw [List.cons_append]
    have hk : ¬ p.1 = k := fun z => by rw [valV_pos z] at hn; cases hn
    rw [valV_neg hk] at hn
    have ih := valV_snoc k j y r hn
    by_cases e : p.1 = j
    · rw [valV_pos e, valV_pos e, if_neg (fun z => hk (e.trans z))]
    · rw [valV_neg e, valV_neg e, ih]
theorem valV_put (kvs : List (κ × V)) (k j : κ) (y : V) : valV (putK kvs k y) j = if j = k then some y else valV kvs j := by
  unfold putK
  by_cases a : (kvs.any fun kv => decide (kv.1 = k)) = true
  · rw [if_pos a, valV_map]
    rw [valV_any] at a
    by_cases e : j = k
    · obtain ⟨x, hx⟩ := Option.isSome_iff_exists.mp a
      rw [if_pos e, e, hx, Option.map_some, if_pos rfl]
    · rw [if_neg e]
      cases valV kvs j with
      | none => rfl
      | some x => rw [Option.map_some, if_neg e]
  · rw [if_neg a]
    refine valV_snoc k j y kvs ?_
    rw [valV_any] at a
    cases q : valV kvs k with
    | none => rfl
    | some x => rw [q] at a; exact (a rfl).elim
theorem length_putK (kvs : List (κ × V)) (k : κ) (v : V) : (putK kvs k v).length ≤ kvs.length + 1 := by
  unfold putK
  split
  · rw [List.length_map]; omega
  · rw [List.length_append, List.length_cons, List.length_nil]; omega
theorem RelO.isSome_eq {o : Option V} {u : Option Value} (r : RelO o u) : o.isSome = u.isSome := by
  cases o with
  | none => cases u with
    | none => rfl
    | some _ => exact (show False from r).elim
  | some _ => cases u with
    | none => exact (show False from r).elim
    | some _ => rfl
theorem RelO.getD {o : Option V} {u : Option Value} {d : V} {d' : Value} (r : RelO o u) (rd : RelV d d') : RelV (o.getD d) (u.getD d') := by
  cases o with
  | none => cases u with
    | none => exact rd
    | some _ => exact (show False from r).elim
  | some _ => cases u with
    | none => exact (show False from r).elim
    | some _ => exact r
theorem KV.val {kvs : List (κ × V)} {vs : List (κ × Value)} (r : KV kvs vs) (k : κ) : RelO (valV kvs k) (valueAt vs k) := by
  unfold KV at r
  induction r with
  | nil => exact True.intro
  | @cons p q ps qs h t ih =>
    obtain ⟨h1, h2⟩ := h
    by_cases e : p.1 = k
    · have e' : q.1 = k := h1.symm.trans e
      have b : valueAt (q :: qs) k = some q.2 := by simp [valueAt, List.find?_cons, e']
      rw [valV_pos e, b]; exact h2
    · have e' : ¬ q.1 = k := fun z => e (h1.trans z)
      have b : valueAt (q :: qs) k = valueAt qs k := by simp [valueAt, List.find?_cons, e']
      rw [valV_neg e, b]; exact ih
theorem KV.any {kvs : List (κ × V)} {vs : List (κ × Value)} (r : KV kvs vs) (k : κ) : (kvs.any fun kv => decide (kv.1 = k)) = vs.any fun kv => decide (kv.1 = k) := by
  unfold KV at r
  induction r with
  | nil => rfl
  | cons h t ih => rw [List.any_cons, List.any_cons, ih, h.1]
theorem KV.repl {kvs : List (κ × V)} {vs : List (κ × Value)} (r : KV kvs vs) (k : κ) {y : V} {u : Value} (ry : RelV y u) :
    KV (kvs.map fun kv => if kv.1 = k then (kv.1, y) else kv) (vs.map fun kv => if kv.1 = k then (kv.1, u) else kv) := by
  unfold KV at r ⊢
  induction r with
  | nil => exact .nil
  | @cons p q ps qs h t ih =>
    rw [List.map_cons, List.map_cons]
    refine .cons ?_ ih
    obtain ⟨h1, h2⟩ := h
    by_cases e : p.1 = k
    · rw [if_pos e, if_pos (h1.symm.trans e)]; exact ⟨h1, ry⟩
    · rw [if_neg e, if_neg (fun z => e (h1.trans z))]; exact ⟨h1, h2⟩
theorem KV.put {kvs : List (κ × V)} {vs : List (κ × Value)} (r : KV kvs vs) (k : κ) {y : V} {u : Value} (ry : RelV y u) : KV (putK kvs k y) (stored vs k u) := by
  unfold putK stored
  rw [r.any k]
  by_cases e : (vs.any fun kv => decide (kv.1 = k)) = true
  · rw [if_pos e, if_pos e]; exact r.repl k ry
  · rw [if_neg e, if_neg e]; exact Paired.snoc r ⟨rfl, ry⟩
theorem KV.keys {kvs : List (κ × V)} {vs : List (κ × Value)} (r : KV kvs vs) : kvs.map (·.1) = vs.map (·.1) := by
  unfold KV at r
  induction r with
  | nil => rfl
  | cons h t ih => rw [List.map_cons, List.map_cons, ih, h.1]
theorem KV.length {kvs : List (κ × V)} {vs : List (κ × Value)} (r : KV kvs vs) : kvs.length = vs.length := Paired.length r
end
theorem kV_is {P : Program} {w : World} {k : Key} {u : Value} (r : RelV (kV k) u) : (mixKind P w).is k u = true := by
  cases k with
  | inl i => obtain ⟨t, e⟩ := (show ∃ t, u = Value.int i t from r); subst e; exact mixKind_int P w i t
  | inr x => obtain ⟨t, e⟩ := (show ∃ t, u = Value.str x t from r); subst e; exact mixKind_str P w x t
theorem items_are {P : Program} {w : World} : ∀ {ks : List Key} {us : List Value}, Vals (ks.map kV) us → ItemsAre (mixKind P w) ks us
  | [], _, r => by rw [List.map_nil] at r; cases r; exact .nil
  | k :: ks, _, r => by
    rw [List.map_cons] at r
    cases r with
    | cons h t => exact .cons (kV_is h) (items_are t)
noncomputable abbrev KT (H : Hp) : List (List Key × V) → List (List Key × Addr × Value) → Prop := Paired fun p q => p.1 = q.1 ∧ H q.2.1 = some (.tup (p.1.map kV)) ∧ RelV p.2 q.2.2
theorem KT.val {H : Hp} {kvs : List (List Key × V)} {xs : List (List Key × Addr × Value)} (r : KT H kvs xs) (k : List Key) : RelO (valV kvs k) ((atKey xs k).map (·.2)) := by
  induction r with
  | nil => exact True.intro
  | @cons p q ps qs h t ih =>
    obtain ⟨h1, _, h2⟩ := h
    by_cases e : p.1 = k
    · have e' : q.1 = k := h1.symm.trans e
      have b : atKey (q :: qs) k = some q.2 := by simp [atKey, List.find?_cons, e']
      rw [valV_pos e, b]; exact h2
    · have e' : ¬ q.1 = k := fun z => e (h1.trans z)
      have b : atKey (q :: qs) k = atKey qs k := by simp [atKey, List.find?_cons, e']
      rw [valV_neg e, b]; exact ih
theorem KT.repl {H : Hp} {kvs : List (List Key × V)} {xs : List (List Key × Addr × Value)} (r : KT H kvs xs) (k : List Key) {y : V} {u : Value} (ry : RelV y u) :
    KT H (kvs.map fun kv => if kv.1 = k then (kv.1, y) else kv) (xs.map (putAt k u)) := by
  induction r with
  | nil => exact .nil
  | @cons p q ps qs h t ih =>
    rw [List.map_cons, List.map_cons]
    refine .cons ?_ ih
    obtain ⟨h1, h2, h3⟩ := h
    unfold putAt
    by_cases e : p.1 = k
    · rw [if_pos e, if_pos (h1.symm.trans e)]; exact ⟨h1, h2, ry⟩
    · rw [if_neg e, if_neg (fun z => e (h1.trans z))]; exact ⟨h1, h2, h3⟩
theorem KT.put {H : Hp} {kvs : List (List Key × V)} {xs : List (List Key × Addr × Value)} (r : KT H kvs xs) (k : List Key) {b : Addr} {y : V} {u : Value} (hb : H b = some (.tup (k.map kV))) (ry : RelV y u) :
    KT H (putK kvs k y) (storedH xs k b u) := by
  have e : (kvs.any fun kv => decide (kv.1 = k)) = (atKey xs k).isSome := by
    rw [valV_any, (r.val k).isSome_eq, Option.isSome_map]
  unfold putK storedH
  rw [e]
  by_cases q : (atKey xs k).isSome = true
  · rw [if_pos q, if_pos q]; exact r.repl k ry
  · rw [if_neg q, if_neg q]; exact Paired.snoc r ⟨rfl, hb, ry⟩
theorem KT.keeps {H H' : Hp} {kvs : List (List Key × V)} {xs : List (List Key × Addr × Value)} (r : KT H kvs xs) (ht : ∀ b ys, H b = some (.tup ys) → H' b = some (.tup ys)) : KT H' kvs xs :=
  Paired.mapP r fun _ _ z => ⟨z.1, ht _ _ z.2.1, z.2.2⟩
section
variable {P : Program} {w : World} {H : Hp} {h : Heap} {a : Addr}
theorem rd_of {u : HO} (ok : HOk P w H h) (e : Rd H a u) : ObjOk P w H h a u := e.ok ok
theorem dk_rd {kvs : List (Key × V)} (ok : HOk P w H h) (e : Rd H a (.dK kvs)) : kvs.length ≤ sizeLine ∧ (a == sysModules) = false ∧ ∃ vs, KV kvs vs ∧ h.DictOf (mixKind P w) a vs :=
  show ObjOk P w H h a (.dK kvs) from rd_of ok e
theorem dk_of {kvs : List (Key × V)} (ok : HOk P w H h) (e : H a = some (.dK kvs)) : kvs.length ≤ sizeLine ∧ (a == sysModules) = false ∧ ∃ vs, KV kvs vs ∧ h.DictOf (mixKind P w) a vs := dk_rd ok (.inl e)
theorem key_of {ks : List Key} (ok : HOk P w H h) (e : H a = some (.tup (ks.map kV))) : (tupleKind (mixKind P w)).is h ks a := by
  obtain ⟨_, its, r, o, h1, h2, n, h3⟩ := (show ObjOk P w H h a (.tup (ks.map kV)) from ok a _ e)
  exact ⟨o, its.toArray, n, h1, h2, h3, by simpa using items_are r⟩
theorem dt_rd {kvs : List (List Key × V)} (ok : HOk P w H h) (e : Rd H a (.dT kvs)) : kvs.length ≤ sizeLine ∧ (a == sysModules) = false ∧
    ∃ xs, KT H kvs xs ∧ h.DictOfH (tupleKind (mixKind P w)) a xs := by
  obtain ⟨z, y, xs, r, o, es, ep, h1, h2, h3, h4, h5⟩ := (show ObjOk P w H h a (.dT kvs) from rd_of ok e)
  refine ⟨z, y, xs, r, o, es, ep, h1, h2, h3, h4, fun x hx => ?_, h5⟩
  have all : ∀ {l : List (List Key × V)} {m : List (List Key × Addr × Value)}, KT H l m → ∀ x ∈ m, (tupleKind (mixKind P w)).is h x.1 x.2.1 := by
    intro l m q
    induction q with
    | nil => intro x hx; exact nomatch hx
    | @cons p q ps qs hq t ih =>
      intro x hx
      rcases List.mem_cons.mp hx with e | hx
      · subst e
        exact key_of ok (by rw [← hq.1]; exact hq.2.1)
      · exact ih x hx
  exact all r x hx
theorem dt_of {kvs : List (List Key × V)} (ok : HOk P w H h) (e : H a = some (.dT kvs)) : kvs.length ≤ sizeLine ∧ (a == sysModules) = false ∧
    ∃ xs, KT H kvs xs ∧ h.DictOfH (tupleKind (mixKind P w)) a xs := dt_rd ok (.inl e)
end
noncomputable def DGet (H : Hp) (a : Addr) (y : V) (r : Option V) : Prop :=
  (∃ kvs k, Rd H a (.dK kvs) ∧ y = kV k ∧ r = valV kvs k) ∨ ∃ kvs k b, Rd H a (.dT kvs) ∧ y = .ref b ∧ H b = some (.tup (k.map kV)) ∧ r = valV kvs k
noncomputable def DPut (H : Hp) (a : Addr) (y v : V) (H' : Hp) : Prop :=
  (∃ kvs k, H a = some (.dK kvs) ∧ y = kV k ∧ kvs.length < sizeLine ∧ H' = upd H a (.dK (putK kvs k v))) ∨
  ∃ kvs k b, H a = some (.dT kvs) ∧ y = .ref b ∧ H b = some (.tup (k.map kV)) ∧ kvs.length < sizeLine ∧ H' = upd H a (.dT (putK kvs k v))
theorem DGet.k {H : Hp} {a : Addr} {kvs : List (Key × V)} {k : Key} (e : H a = some (.dK kvs)) : DGet H a (kV k) (valV kvs k) := .inl ⟨kvs, k, .inl e, rfl, rfl⟩
theorem DPut.k {H : Hp} {a : Addr} {kvs : List (Key × V)} {k : Key} {v : V} (e : H a = some (.dK kvs)) (hl : kvs.length < sizeLine) : DPut H a (kV k) v (upd H a (.dK (putK kvs k v))) := .inl ⟨kvs, k, e, rfl, hl, rfl⟩
section
variable {X : Cx} {pins : List (Addr × Obj)} {σ : St} {H : Hp} {s : Shared} {a : Addr} {y v : V} {u r : Value} {o : Option V} {A : Around} {E : Value → Shared → Prop}
theorem Inv.big (I : Inv X pins σ H s) : sysModules < s.heap.objs.size := by
  have h : mainGlobals < s.heap.objs.size := (I.mod.glob.keeps I.bk).lt
  exact Nat.lt_trans (by decide) h
theorem d_getItem {Q : Value → Shared → Prop} (hu : A.units + 1 < cLine) (I : Inv X pins σ H s) (g : DGet H a y (some v)) (ry : RelV y u) (h : ∀ w' s', Inv X pins σ H s' → RelV v w' → Q w' s') :
    wpAny (model X.prog X.w) A (getItem (.ref a) u) Q E s := by
  rcases g with ⟨kvs, k, e, ey, l⟩ | ⟨kvs, k, b, e, ey, eb, l⟩
  · subst ey
    obtain ⟨z, hd, vs, rel, dd⟩ := dk_rd I.hok e
    obtain ⟨w', hw, rw'⟩ := RelO.some_of (v := v) (o := valueAt vs k) (by rw [l]; exact rel.val k)
    exact wpAny_getItem_of (kV_is ry) dd.mapOf hw (h w' _ (I.tok _) rw')
  · subst ey
    cases (show u = Value.ref b from ry)
    obtain ⟨z, hd, xs, rel, dd⟩ := dt_rd I.hok e
    obtain ⟨w', hw, rw'⟩ := RelO.some_of (v := v) (o := (atKey xs k).map (·.2)) (by rw [l]; exact rel.val k)
    obtain ⟨p, hp, hp2⟩ := Option.map_eq_some_iff.mp hw
    refine wpAny_getItem_heap (tupleKind_room_in1 hu) (key_of I.hok eb) dd hp ?_
    rw [hp2]
    exact h w' _ (I.tok _) rw'
theorem d_notIn {Q : Value → Shared → Prop} (hu : A.units + 1 < cLine) (I : Inv X pins σ H s) (g : DGet H a y o) (ry : RelV y u) (h : ∀ s', Inv X pins σ H s' → Q (.bool (!o.isSome)) s') :
    wpAny (model X.prog X.w) A (compareOp .NotIn u (.ref a)) Q E s := by
  rcases g with ⟨kvs, k, e, ey, l⟩ | ⟨kvs, k, b, e, ey, eb, l⟩
  · subst ey
    obtain ⟨z, hd, vs, rel, dd⟩ := dk_rd I.hok e
    refine wpAny_notIn_of (kV_is ry) hd dd.mapOf ?_
    rw [← (rel.val k).isSome_eq, ← l]
    exact h _ (I.tok _)
  · subst ey
    cases (show u = Value.ref b from ry)
    obtain ⟨z, hd, xs, rel, dd⟩ := dt_rd I.hok e
    refine wpAny_notIn_heap (tupleKind_room_in1 hu) (key_of I.hok eb) hd dd ?_
    have q := (rel.val k).isSome_eq
    rw [Option.isSome_map] at q
    rw [← q, ← l]
    exact h _ (I.tok _)
theorem d_write {h' : Heap} {t' : Nat} {ob : HO} (I : Inv X pins σ H s) (mu : Mut (H a)) (hs : Heap.SameBut a s.heap h') (he : ∃ q, h'.get? a = some q) (new : ObjOk X.prog X.w (upd H a ob) h' a ob) :
    Inv X pins σ (upd H a ob) { s with heap := h', toks := t' } :=
  I.write (x := a) (e := a) mu (.inl rfl) (fun b q hb z => (hs.2 b hb).trans z) he new
theorem dk_new {P : Program} {w : World} {H' : Hp} {h' : Heap} {kvs : List (Key × V)} {vs : List (Key × Value)} (z : kvs.length ≤ sizeLine) (hd : (a == sysModules) = false) (rel : KV kvs vs) (dd : h'.DictOf (mixKind P w) a vs) :
    ObjOk P w H' h' a (.dK kvs) := ⟨z, hd, vs, rel, dd⟩
theorem d_setItem {H' : Hp} {Q : Unit → Shared → Prop} (hu : A.units + 1 < cLine) (I : Inv X pins σ H s) (g : DPut H a y v H') (ry : RelV y u) (rv : RelV v r) (h : ∀ s', Inv X pins σ H' s' → Q () s') :
    wpAny (model X.prog X.w) A (setItem (.ref a) u r) Q E s := by
  rcases g with ⟨kvs, k, e, ey, l, eH⟩ | ⟨kvs, k, b, e, ey, eb, l, eH⟩
  · subst ey eH
    obtain ⟨z, hd, vs, rel, dd⟩ := dk_of I.hok e
    have hz : vs.length ≤ sizeLine := by rw [← rel.length]; exact z
    have hl : (putK kvs k v).length ≤ sizeLine := by have := length_putK kvs k v; omega
    refine wpAny_setItem_pairs (hsz := hz) (kV_is ry) dd fun h' dd' hs => h _ ?_
    have he : ∃ q, h'.get? a = some q := let ⟨q, _, _, hq, _⟩ := dd'; ⟨q, hq⟩
    exact d_write I (by rw [e]; exact True.intro) hs he (dk_new hl hd (rel.put k rv) dd')
  · subst ey eH
    cases (show u = Value.ref b from ry)
    obtain ⟨z, hd, xs, rel, dd⟩ := dt_of I.hok e
    have hz : xs.length ≤ sizeLine := by rw [← Paired.length rel]; exact z
    have hl : (putK kvs k v).length ≤ sizeLine := by have := length_putK kvs k v; omega
    refine wpAny_setItem_heap (hsz := hz) (tupleKind_room_in1 hu) (key_of I.hok eb) dd fun h' dd' hs => h _ ?_
    obtain ⟨q, es, ep, hq, h2, h3, h4, _, h5⟩ := dd'
    refine d_write I (by rw [e]; exact True.intro) hs ⟨q, hq⟩ ⟨hl, hd, _, (rel.put k eb rv).keeps fun c ys ec => ?_, q, es, ep, hq, h2, h3, h4, h5⟩
    rw [upd_ne (ne_of ec e (fun z => nomatch z))]
    exact ec
end
noncomputable def NoSl (i : Expr) : Prop := ∀ ov iv, subscripted i false ov iv = operate [ov, iv] (getItem ov iv)
theorem subD_of {prog : Program} {w : World} {A : Around} {E : Value → Shared → Prop} {s : Shared} {env : Env} {value slice : Expr} {pos : Pos} {T id : String} {Q : Value → Shared → Prop}
    (hl : typeLookup (.type T) "__getitem__" = pure (some (.builtin id))) (hs : NoSl slice)
    (h : wpAny (model prog w) A (eval value env) (fun o s₁ => wpAny (model prog w) A (eval slice env) (fun i s₂ => s₂.TypeIs o T ∧ wpAny (model prog w) A (getItem o i) Q E s₂) E s₁) E s) :
    wpAny (model prog w) A (eval (.Subscript value slice pos) env) Q E s := by
  refine Subscript_ (wpAny_mono h (fun o s₁ h₁ => wpAny_mono h₁ (fun i s₂ h₂ => ?_) fun _ _ x => x) fun _ _ x => x)
  obtain ⟨hT, h₂⟩ := h₂
  unfold subscriptTail
  refine wpAny_bind ?_
  rw [getitemInPython_of_ne hT.not_modules]
  refine wpAny_bind (wpAny_specialOf hT hl ?_)
  have fin : wpAny (model prog w) A (subscripted slice false o i) (fun r s₃ => wpAny (model prog w) A (letTemporaryGo value o r >>= fun _ => pure r) Q E s₃) E s₂ := by
    rw [hs o i]
    exact wpAny_operating (wpAny_mono h₂ (fun r s₃ h₃ => wpAny_bind (wpAny_letTemporaryGo (wpAny_pure h₃))) fun _ _ x => x)
  first
    | exact wpAny_pure (wpAny_bind fin)
    | exact wpAny_bind (wpAny_pure (wpAny_bind fin))
    | exact wpAny_bind fin
theorem dict_typeIs {X : Cx} {pins : List (Addr × Obj)} {σ : St} {H : Hp} {s : Shared} {a : Addr} {y : V} {o : Option V} (I : Inv X pins σ H s) (g : DGet H a y o) : s.TypeIs (.ref a) "dict" := by
  rcases g with ⟨kvs, k, e, _, _⟩ | ⟨kvs, k, b, e, _, _, _⟩
  · obtain ⟨_, _, vs, _, dd⟩ := dk_rd I.hok e
    exact dd.typeIs
  · obtain ⟨_, _, xs, _, dd⟩ := dt_rd I.hok e
    exact dd.typeIs
noncomputable def tDGet (td ty : TE) : TE := fun σ H Q => td σ H fun x H1 => ty σ H1 fun y H2 => ∃ a v, x = .ref a ∧ DGet H2 a y (some v) ∧ Q v H2
noncomputable def tDIn (ty td : TE) : TE := fun σ H Q => ty σ H fun y H1 => td σ H1 fun x H2 => ∃ a o, x = .ref a ∧ DGet H2 a y o ∧ Q (.bl o.isSome) H2
noncomputable def tDNotIn (ty td : TE) : TE := fun σ H Q => ty σ H fun y H1 => td σ H1 fun x H2 => ∃ a o, x = .ref a ∧ DGet H2 a y o ∧ Q (.bl (!o.isSome)) H2
noncomputable def sDPut (td ty tv : TE) : TS := fun D σ H => tv σ H fun v H1 => td σ H1 fun x H2 => ty σ H2 fun y H3 => ∃ a H4, x = .ref a ∧ DPut H3 a y v H4 ∧ D.nx σ H4
section
variable {X : Cx} {o i e value : Expr} {pos pos' tpos : Pos} {td ty tv : TE}
theorem pe_dget (hu : X.A.units + 1 < cLine) (ho : PE X o td) (hi : PE X i ty) (hs : NoSl i) : PE X (.Subscript o i pos) (tDGet td ty) := by
  intro pins s σ H Q I h
  refine subD_of PySem.F.slot_dict_getitem.lookup hs (thn (ho pins s σ H _ I h) fun u s1 zq102 => ?_)
  obtain ⟨x, H1, I1, rx, q1⟩ := zq102
  refine thn (hi pins s1 σ H1 _ I1 q1) fun iv s2 zq103 => ?_
  obtain ⟨y, H2, I2, ry, a, v, ex, g, q2⟩ := zq103
  subst ex
  obtain rfl : u = Value.ref a := rx
  exact ⟨dict_typeIs I2 g, d_getItem hu I2 g ry fun w' s3 I3 rw' => ⟨v, H2, I3, rw', q2⟩⟩
theorem pc_dnotin (hu : X.A.units + 1 < cLine) (hi : PE X i ty) (ho : PE X o td) : PC X .NotIn i o (tDNotIn ty td) := by
  intro pins s σ H Q I h
  refine thn (hi pins s σ H _ I h) fun iv s1 zq106 => ?_
  obtain ⟨y, H1, I1, ry, q1⟩ := zq106
  refine thn (ho pins s1 σ H1 _ I1 q1) fun u s2 zq107 => ?_
  obtain ⟨x, H2, I2, rx, a, ov, ex, g, q2⟩ := zq107
  subst ex
  obtain rfl : u = Value.ref a := rx
  exact d_notIn hu I2 g ry fun s3 I3 => ⟨.bl (!ov.isSome), H2, I3, rfl, q2⟩
theorem ps_dput (hu : X.A.units + 1 < cLine) (ho : PE X o td) (hi : PE X i ty) (hv : PE X value tv) (hs : swapsWith value (some (.Subscript o i pos')) pos.line X.env = pure false) :
    PS X (.Assign [.Subscript o i pos'] value pos) (sDPut td ty tv) := by
  intro pins s σ H D I h
  refine wpAny_Assign_Subscript (thn (hv pins s σ H _ I h) fun r s1 zq108 => ?_) hs
  obtain ⟨v, H1, I1, rv, q1⟩ := zq108
  refine thn (ho pins s1 σ H1 _ I1 q1) fun u s2 zq109 => ?_
  obtain ⟨x, H2, I2, rx, q2⟩ := zq109
  refine thn (hi pins s2 σ H2 _ I2 q2) fun iv s3 zq110 => ?_
  obtain ⟨y, H3, I3, ry, a, H4, ex, g, q3⟩ := zq110
  subst ex
  obtain rfl : u = Value.ref a := rx
  exact d_setItem hu I3 g ry rv fun s4 I4 => ⟨σ, H4, I4, q3⟩
end
theorem dk_empty {P : Program} {w : World} {H : Hp} (h : Heap) (hb : sysModules < h.objs.size) : ObjOk P w H (h.push { cls := .type "dict", data := .dict #[] }) h.objs.size (.dK []) :=
  ⟨Nat.zero_le _, beq_eq_false_iff_ne.mpr (Ne.symm (Nat.ne_of_lt hb)), [], .nil, Heap.DictOf.new h⟩
noncomputable def tDNewK : TE := fun _ H Q => ∀ p, H p = none → Q (.ref p) (upd H p (.dK []))
section
variable {X : Cx} {pos : Pos}
theorem pe_dnewK : PE X (.Dict [] [] pos) tDNewK := fun pins s σ H Q I h =>
  wpAny_Dict_empty ⟨.ref s.heap.objs.size, _, I.laid (a := s.heap.objs.size) (o := .dK []) (t' := s.toks) (fun _ _ q => Heap.get?_push_of_some _ q) (Nat.le_refl _) (dk_empty s.heap I.big), rfl, h _ (I.hok.fresh (Nat.le_refl _))⟩
end
noncomputable def mergeK (kvs more : List (Key × V)) : List (Key × V) := more.foldl (fun acc kv => putK acc kv.1 kv.2) kvs
theorem KV.merge : ∀ {more : List (Key × V)} {rs : List (Key × Value)} {kvs : List (Key × V)} {vs : List (Key × Value)}, KV more rs → KV kvs vs → KV (mergeK kvs more) (merged vs rs) := by
  intro more rs kvs vs r
  unfold KV at r
  induction r generalizing kvs vs with
  | nil => intro q; exact q
  | @cons p q ps qs h t ih =>
    intro r0
    have e : KV (putK kvs p.1 p.2) (stored vs q.1 q.2) := by
      have := r0.put p.1 h.2
      rw [← h.1]; exact this
    exact ih e
theorem length_mergeK : ∀ (more kvs : List (Key × V)), (mergeK kvs more).length ≤ kvs.length + more.length
  | [], kvs => by show kvs.length ≤ kvs.length + 0; omega
  | p :: r, kvs => by
    have h1 := length_mergeK r (putK kvs p.1 p.2)
    have h2 := length_putK kvs p.1 p.2
    show (mergeK (putK kvs p.1 p.2) r).length ≤ _
    rw [List.length_cons]; omega
structure M2 (X : Cx) (o : Expr) (m : Str) (apos : Pos) (e f : Expr) (cpos : Pos) : Prop where
  base : attributeBase o m X.env (eval o X.env) = eval o X.env
  few : ((backTo cpos (starEach [e, f] X.env)).all (fun x => !x.1) && (backToKw cpos (keywordEach [] X.env)).all (fun x => x.1.isSome)
    && decide (([e, f] : List Expr).length + ([] : List Keyword).length + (if ([] : List Keyword).isEmpty then 0 else 1) < 30)) = true
  line : (apos.endLine == cpos.line) = true
  trees : backTo cpos (starEach [e, f] X.env) = [(false, eval e X.env), (false, eval f X.env)]
noncomputable def IsD (H : Hp) (a : Addr) : Prop := (∃ kvs, Rd H a (.dK kvs)) ∨ ∃ kvs, Rd H a (.dT kvs)
theorem isD_at {X : Cx} {pins : List (Addr × Obj)} {σ : St} {H : Hp} {s : Shared} {a : Addr} (I : Inv X pins σ H s) (d : IsD H a) :
    s.TypeIs (.ref a) "dict" ∧ (∀ b, Value.ref a = .ref b → ∃ ob, s.heap.get? b = some ob ∧ ob.dict = none) ∧ (a == sysModules) = false := by
  rcases d with ⟨kvs, e⟩ | ⟨kvs, e⟩
  · obtain ⟨_, hd, vs, _, dd⟩ := dk_rd I.hok e
    refine ⟨dd.typeIs, fun b q => ?_, hd⟩
    cases q
    obtain ⟨ob, _, _, h1, h2, _⟩ := dd
    exact ⟨ob, h1, h2.2.1⟩
  · obtain ⟨_, hd, xs, _, dd⟩ := dt_rd I.hok e
    refine ⟨dd.typeIs, fun b q => ?_, hd⟩
    cases q
    obtain ⟨ob, _, _, h1, h2, _⟩ := dd
    exact ⟨ob, h1, h2.2.1⟩
section
variable {X : Cx} {pins : List (Addr × Obj)} {σ : St} {H : Hp} {s : Shared} {a : Addr} {y d : V} {u r : Value} {o : Option V} {A : Around} {E : Value → Shared → Prop}
theorem d_get2 {Q : Value → Shared → Prop} (hu : A.units + 1 < cLine) (I : Inv X pins σ H s) (g : DGet H a y o) (ry : RelV y u) (rd : RelV d r) (h : ∀ w' s', Inv X pins σ H s' → RelV (o.getD d) w' → Q w' s') :
    wpAny (model X.prog X.w) A (call (.builtin "dict.get") [.ref a, u, r]) Q E s := by
  rcases g with ⟨kvs, k, e, ey, l⟩ | ⟨kvs, k, b, e, ey, eb, l⟩
  · subst ey
    obtain ⟨z, hd, vs, rel, dd⟩ := dk_rd I.hok e
    refine call_meetsIn PySem.F.slot_dict_get dd.typeIs PySem.F.entry_dict_get (PySem.F.args_dict_get_3 _ _ _) (meets_dict_get_default (mixKind X.prog X.w) a (kV_is ry) hd r) ⟨_, dd.mapOf, h _ _ (I.tok _) ?_⟩
    rw [l]
    exact (rel.val k).getD rd
  · subst ey
    cases (show u = Value.ref b from ry)
    obtain ⟨z, hd, xs, rel, dd⟩ := dt_rd I.hok e
    refine call_meetsIn PySem.F.slot_dict_get dd.typeIs PySem.F.entry_dict_get (PySem.F.args_dict_get_3 _ _ _) (meetsH_dict_get_default (tupleKind (mixKind X.prog X.w)) a b hd r) ⟨tupleKind_room_in1 hu, k, xs, key_of I.hok eb, dd, h _ _ (I.tok _) ?_⟩
    rw [l]
    exact (rel.val k).getD rd
end
noncomputable def tDGet2 (td ty tx : TE) : TE := fun σ H Q => td σ H fun x H1 => ∃ a, x = .ref a ∧ IsD H1 a ∧ ty σ H1 fun y H2 => tx σ H2 fun z H3 => ∃ o, DGet H3 a y o ∧ Q (o.getD z) H3
section
variable {X : Cx} {o e f : Expr} {apos cpos : Pos} {td ty tx : TE}
theorem pe_dget2 (hu : X.A.units + 1 < cLine) (ho : PE X o td) (he : PE X e ty) (hf : PE X f tx) (m : M2 X o "get" apos e f cpos) : PE X (.Call (.Attribute o "get" apos) [e, f] [] cpos) (tDGet2 td ty tx) := by
  intro pins s σ H Q I h
  refine wpAny_Call_method m.base m.few m.line PySem.F.plainAttrs_dict PySem.F.slot_dict_get PySem.F.type_dict_get (thn (ho pins s σ H _ I h) fun u s1 zq120 => ?_)
  obtain ⟨x, H1, I1, rx, a, ex, d, q1⟩ := zq120
  subst ex
  obtain rfl : u = Value.ref a := rx
  obtain ⟨t1, t2, _⟩ := isD_at I1 d
  refine ⟨t1, t2, ?_⟩
  rw [m.trees]
  refine Calls.callWith_builtin rfl (Calls.evalArgs_plain (Calls.spliced_cons (thn (he pins s1 σ H1 _ I1 q1) fun iv s2 zq121 => ?_)))
  obtain ⟨y, H2, I2, ry, q2⟩ := zq121
  refine Calls.spliced_cons (thn (hf pins s2 σ H2 _ I2 q2) fun fv s3 zq122 => ?_)
  obtain ⟨z, H3, I3, rz, ov, g, q3⟩ := zq122
  refine Calls.spliced_nil ?_
  exact d_get2 hu I3 g ry rz fun w' s4 I4 rw' => ⟨_, H3, I4, rw', q3⟩
end
end L2
namespace L2
open PySem PySem.Spec PyProof.Rows
theorem ud_entry : entryFor table "dict.update.loop" = some Builtin.«dict.update.loop» := entryFor_of_tree (by kernel_rfl)
theorem ud_plain : plainId "dict.update.loop" = true := by decide +kernel
end L2
namespace L2
open PySem PySem.Spec PyProof.Rows
section
variable {X : Cx} {pins : List (Addr × Obj)} {σ : St} {H : Hp} {s : Shared} {h' : Heap}
theorem Inv.turnedL {t' : Nat} {ch : List Addr} (I : Inv X pins σ H s) (k : ∀ b o, b ∉ ch → s.heap.get? b = some o → h'.get? b = some o) (hf : ∀ b ∈ ch, FpOk X pins H b) : Inv X pins σ H { s with heap := h', toks := t' } := by
  have nit : ∀ b u, H b = some u → b ∉ ch := fun b u e z => by
    have q := (hf b z).1
    rw [q] at e; cases e
  refine I.step (g' := s.gens) (d' := s.drawn) (ch := ch) (fun b hb => ⟨(hf b hb).2.2.2.1, (hf b hb).2.1, (hf b hb).2.2.2.2.1, (hf b hb).2.2.2.2.2⟩) (fun b o _ _ hc e _ => k b o hc e) (fun b o _ _ hc e _ => ⟨o.slots, k b o hc e⟩)
    (fun _ _ _ _ n => n) (fun b o hc e => ⟨o, k b o hc e⟩) (fun _ _ e => e) (fun _ _ _ e => e) (fun b ps e => ⟨#[], by rw [e]; simp⟩) (fun m hm => ?_) (fun b u e => ?_) I.bare
  · obtain ⟨o, es, ep, ho, r⟩ := hm
    exact ⟨o, es, ep, k _ o (fun z => (hf _ z).2.1 rfl) ho, r⟩
  · refine (I.hok b u e).stay (fun c v hc q => k c v ?_ q) (fun _ q => q) fun _ _ q => q
    rcases hc with z | z
    · rw [z]; exact nit b u e
    · exact nit c _ z
theorem Inv.turnedNew {t' : Nat} {ch : List Addr} {T : Addr} {ob : HO} (I : Inv X pins σ H s) (k : ∀ b o, b ∉ ch → s.heap.get? b = some o → h'.get? b = some o) (hf : ∀ b ∈ ch, FpOk X pins H b) (hT : s.heap.objs.size ≤ T)
    (new : ObjOk X.prog X.w (upd H T ob) h' T ob) : Inv X pins σ (upd H T ob) { s with heap := h', toks := t' } := by
  have hn : H T = none := I.hok.fresh hT
  have nit : ∀ b u, H b = some u → b ∉ ch := fun b u e z => by
    have q := (hf b z).1
    rw [q] at e; cases e
  refine I.step (g' := s.gens) (d' := s.drawn) (ch := ch) (fun b hb => ⟨(hf b hb).2.2.2.1, (hf b hb).2.1, (hf b hb).2.2.2.2.1, (hf b hb).2.2.2.2.2⟩) (fun b o _ _ hc e _ => k b o hc e) (fun b o _ _ hc e _ => ⟨o.slots, k b o hc e⟩)
    (fun b o _ e n => ?_) (fun b o hc e => ⟨o, k b o hc e⟩) (fun b xs e => ?_) (fun b o u e => ?_) (fun b ps e => ⟨#[], ?_⟩) (fun m hm => ?_) (fun b u e => ?_) I.bare
  · rw [upd_ne (Nat.ne_of_lt (Nat.lt_of_lt_of_le (Heap.lt_size e) hT))]; exact n
  · rw [upd_ne (ne_of_none e hn)]; exact e
  · rw [upd_ne (ne_of_none e hn)]; exact e
  · rw [upd_ne (ne_of_none e hn), e]; simp
  · obtain ⟨o, es, ep, ho, r⟩ := hm
    exact ⟨o, es, ep, k _ o (fun z => (hf _ z).2.1 rfl) ho, r⟩
  · by_cases hb : b = T
    · subst hb
      rw [upd_same] at e
      cases e
      exact new
    · rw [upd_ne hb] at e
      refine (I.hok b u e).stay (fun c v hc q => k c v ?_ q) (fun c q => by rw [upd_ne (ne_of_none q hn)]; exact q) fun c xs q => by rw [upd_ne (ne_of_none q hn)]; exact q
      rcases hc with z | z
      · rw [z]; exact nit b u e
      · exact nit c _ z
end
section
variable {X : Cx}
theorem pi_one {tg : Expr} {pins : List (Addr × Obj)} {σ : St} {H : Hp} {s : Shared} {R : It → Hp → Prop} {J : It} {tn : Nat → Heap → Prop} {tk : Nat} (I : Inv X pins σ H s) (o : Obj)
    (T : Turn X.prog X.w X.K tg J [s.heap.objs.size] s.heap.objs.size tn) (st : tn 0 (s.heap.push o)) (q : R J H) : PIE X pins σ tg R (.ref s.heap.objs.size) { s with heap := s.heap.push o, toks := tk } := by
  refine ⟨s.heap.objs.size, [s.heap.objs.size], tn, J, H, rfl, I.kept fun b ob e => Heap.get?_push_of_some _ e, T, st, fun b hb => ?_, q⟩
  have e : b = s.heap.objs.size := by simpa using hb
  subst e
  exact I.fpOk (Nat.le_refl _) (I.hok.fresh (Nat.le_refl _))
end
noncomputable def Itc (lo c : Int) (n : Nat) : It := ⟨fun i _ => i < n, fun i H x H' => H' = H ∧ x = .int (lo + (i : Nat) * c), fun i _ => n ≤ i⟩
theorem turn_rangeC {P : Program} {w : World} {K : PySem.W.Frag} {tg : Expr} (it : Addr) (lo c : Int) (n : Nat) : Turn P w K tg (Itc lo c n) [it] it (fun i h => IsRangeIter h it (lo + (i : Nat) * c) ((n : Int) - (i : Nat)) c) where
  mem := by simp
  obj := fun i h st b hb => by
    have e : b = it := by simpa using hb
    subst e
    exact ⟨_, st, fun v z => nomatch z⟩
  keep := fun i h h' st k => k it (by simp) _ st
  item := by
    intro X hP hw hK hc i pins s σ H E I hf st hg
    subst hP hw hK
    obtain ⟨f0, f1, f2, f3, f4, f5⟩ := hf it (by simp)
    have W := Walks.range (prog := X.prog) (w := X.w) (I.ok.hd hc) it lo c n
    refine W.item i s _ _ hg st fun v h' tk hv st' kk => ?_
    obtain ⟨t, rfl⟩ := hv
    have I1 : Inv X pins σ H { s with heap := h', toks := tk } := I.turned (fun b o hb e => kk b o (by simpa using hb) e) f0 f1 f3 f4 f5
    exact ⟨_, rfl, go_of (s := { s with heap := h', toks := tk }) (n := "range_iterator") st' rfl rfl (by decide) ⟨.int (lo + (i : Nat) * c), H, I1, ⟨t, rfl⟩, ⟨rfl, rfl⟩, st', fun b hb => (hf b hb).1⟩⟩
  done := by
    intro X hP hw hK hc i pins s σ H E I hf st hg
    subst hP hw hK
    obtain ⟨f0, f1, f2, f3, f4, f5⟩ := hf it (by simp)
    exact wpAny_pyNext_range_end (I.ok.hd hc) st (by have : n ≤ i := hg; omega) fun h' eb => ⟨rfl, I.turned (t' := s.toks) (fun b o hb e => eb b o hb e) f0 f1 f3 f4 f5⟩
  self := fun A i s Q E st h => wpAny_pyIter_rangeiter st h
noncomputable def RgC (i j c : Int) (n : Nat) : Prop := c ≠ 0 ∧ c.natAbs < 1073741824 ∧ Builtin.Range.small i j c = true ∧ Builtin.Range.rangeSize i j c = n
noncomputable def iRng3 (ta : TA) : TI := fun σ H R => ta σ H fun vs H1 => ∃ (i j c : Int) (n : Nat), vs = [.int i, .int j, .int c] ∧ RgC i j c n ∧ R (Itc i c n) H1
section
variable {X : Cx} {tg : Expr}
theorem pi_range3 {a b c : Expr} {ta : TA} {p pos : Pos} (hg : Gl X "range") (hm : X.mg "range" = none) (ha : PA X [a, b, c] ta)
    (hs : starEach [a, b, c] X.env = (false, eval a X.env) :: starEach [b, c] X.env := by rfl) (hpl : (backTo pos (starEach [b, c] X.env)).any (·.1) = false := by rfl) :
    PI X tg (.Call (.Name "range" p) [a, b, c] [] pos) (iRng3 ta) := by
  intro pins s σ H R I h
  refine Call_ (ld_blt I hg hm boot_range (PyProof.Rows.callWith_type1 (thn (ha pos pins s σ H _ I h) fun us s1 zq129 => ?_) hs hpl))
  obtain ⟨vs, H1, I1, r1, q1⟩ := zq129
  obtain ⟨i, j, k, n, e, ⟨c0, c1, c2, c3⟩, q⟩ := q1
  subst e
  cases r1 with
  | cons r rr =>
    cases rr with
    | cons r' rr =>
      cases rr with
      | cons r'' rr =>
        cases rr
        obtain ⟨t, rfl⟩ := r
        obtain ⟨t', rfl⟩ := r'
        obtain ⟨t'', rfl⟩ := r''
        refine call_range_3 c0 ?_ (.inl (PyProof.noPylong_small c1))
        refine wpAny_pyIter_range (IsRange.new ..) c2 ?_
        have I2 : Inv X pins σ H1 { s1 with heap := s1.heap.push { cls := .type "range", data := .fields #[.int i t, .int j t', .int k t''] } } := I1.kept (t' := s1.toks) fun b o e => Heap.get?_push_of_some _ e
        refine pi_one (tk := s1.toks) I2 _ (turn_rangeC _ i k n) ?_ q
        have e1 : i + ((0 : Nat) : Int) * k = i := by simp
        have e2 : (n : Int) - ((0 : Nat) : Int) = Builtin.Range.rangeSize i j k := by rw [c3]; simp
        show IsRangeIter _ _ (i + ((0 : Nat) : Int) * k) ((n : Int) - ((0 : Nat) : Int)) k
        rw [e1, e2]
        exact Heap.get?_push_size _ rfl
end
theorem for_rangeC {lo c : Int} {n : Nat} {g : TG} {tb : TS} {D : Ends} {σ : St} {H : Hp} (Pv : Nat → St → Hp → Prop) (h0 : Pv 0 σ H)
    (hs : ∀ i σ H, i < n → Pv i σ H → g (.int (lo + (i : Nat) * c)) σ H fun σ2 H2 => tb { D with nx := Pv (i + 1), ct := Pv (i + 1), bk := D.nx } σ2 H2) (hd : ∀ σ H, Pv n σ H → D.nx σ H) :
    ∃ W : Nat → Nat → St → Hp → Prop, (∃ m, W 0 m σ H) ∧ ∀ i m σ H, W i m σ H →
      ((Itc lo c n).stop i H ∧ D.nx σ H) ∨ ((Itc lo c n).go i H ∧ ∃ N : St → Hp → Prop, (∀ σ' H', N σ' H' → ∃ m', m' < m ∧ W (i + 1) m' σ' H') ∧ ∀ x H', (Itc lo c n).yld i H x H' → g x σ H' fun σ2 H2 => tb { D with nx := N, ct := N, bk := D.nx } σ2 H2) := by
  refine ⟨fun i m σ H => m = n - i ∧ i ≤ n ∧ Pv i σ H, ⟨n, by simp, Nat.zero_le _, h0⟩, ?_⟩
  rintro i m σ H ⟨rfl, hi, p⟩
  by_cases hlt : i < n
  · refine .inr ⟨hlt, Pv (i + 1), fun σ' H' p' => ⟨n - (i + 1), by omega, rfl, hlt, p'⟩, fun x H' y => ?_⟩
    obtain ⟨e, y⟩ := y
    subst e y
    exact hs i σ _ hlt p
  · have e : i = n := by omega
    subst e
    exact .inl ⟨Nat.le_refl _, hd σ H p⟩
noncomputable def Its (x : Str) : It := ⟨fun i _ => i < x.cps.size, fun i H v H' => H' = H ∧ ∃ c, x.cps[i]? = some c ∧ v = .str ⟨#[c]⟩, fun i _ => x.cps.size ≤ i⟩
theorem turn_str {P : Program} {w : World} {K : PySem.W.Frag} {tg : Expr} (it : Addr) (x : Str) (t : Tok) (ty : String) (hty : ty = "str_ascii_iterator" ∨ ty = "str_iterator") :
    Turn P w K tg (Its x) [it] it (fun i h => h.IsStrIter it ty x t i) where
  mem := by simp
  obj := fun i h st b hb => by
    have e : b = it := by simpa using hb
    subst e
    obtain ⟨o, e, c, d⟩ := st
    exact ⟨o, e, fun v z => by rw [d] at z; cases z⟩
  keep := fun i h h' st k => let ⟨o, ho, r⟩ := st; ⟨o, k it (by simp) o ho, r⟩
  item := by
    intro X hP hw hK hc i pins s σ H E I hf st hg
    subst hP hw hK
    obtain ⟨f0, f1, f2, f3, f4, f5⟩ := hf it (by simp)
    have W : Walks X.prog X.w X.A it [it] [it] x.cps.size (SignAt x) (fun i h => h.IsStrIter it ty x t i) := by
      rcases hty with e | e
      · rw [e]; exact Walks.strAscii (I.ok.hd hc) it x t
      · rw [e]; exact Walks.strWide (I.ok.hd hc) it x t
    have hno : ["enumerate", "zip", "dict_itemiterator", "dict_reverseitemiterator", "odict_iterator", "itertools.zip_longest", "itertools.pairwise"].contains ty = false := by
      rcases hty with e | e
      · rw [e]; decide
      · rw [e]; decide
    refine W.item i s _ _ hg st fun v h' tk hv st' kk => ?_
    obtain ⟨c, u, hcx, rfl⟩ := hv
    have I1 : Inv X pins σ H { s with heap := h', toks := tk } := I.turned (fun b o hb e => kk b o (by simpa using hb) e) f0 f1 f3 f4 f5
    obtain ⟨oi, e, cc, dd⟩ := id st'
    exact ⟨_, rfl, go_of (s := { s with heap := h', toks := tk }) e cc dd hno ⟨.str ⟨#[c]⟩, H, I1, ⟨u, rfl⟩, ⟨rfl, c, hcx, rfl⟩, st', fun b hb => (hf b hb).1⟩⟩
  done := by
    intro X hP hw hK hc i pins s σ H E I hf st hg
    subst hP hw hK
    obtain ⟨f0, f1, f2, f3, f4, f5⟩ := hf it (by simp)
    have hx : x.cps[i]? = none := Array.getElem?_eq_none hg
    rcases hty with e | e
    · rw [e] at st
      exact wpAny_pyNext_ascii_end (I.ok.hd hc) st hx fun h' eb => ⟨rfl, I.turned (t' := s.toks) (fun b o hb e => eb b o hb e) f0 f1 f3 f4 f5⟩
    · rw [e] at st
      exact wpAny_pyNext_wide_end (I.ok.hd hc) st hx fun h' eb => ⟨rfl, I.turned (t' := s.toks) (fun b o hb e => eb b o hb e) f0 f1 f3 f4 f5⟩
  self := fun A i s Q E st h => by
    rcases hty with e | e
    · rw [e] at st; exact wpAny_pyIter_striter_ascii st h
    · rw [e] at st; exact wpAny_pyIter_striter_wide st h
noncomputable def iStr (te : TE) : TI := fun σ H R => te σ H fun v H1 => ∃ x, v = .str x ∧ R (Its x) H1
theorem pi_str {X : Cx} {tg e : Expr} {te : TE} (he : PE X e te) : PI X tg e (iStr te) := by
  intro pins s σ H R I h
  refine thn (he pins s σ H _ I h) fun v s1 zq131 => ?_
  obtain ⟨y, H1, I1, r1, x, ex, q⟩ := zq131
  subst ex
  obtain ⟨t, rfl⟩ := r1
  cases ha : x.cps.all (· < 128)
  · exact wpAny_pyIter_wide ha (pi_one (tk := s1.toks) I1 _ (turn_str _ x t "str_iterator" (.inr rfl)) ⟨_, Heap.get?_push_size _ rfl, rfl, rfl⟩ q)
  · exact wpAny_pyIter_ascii ha (pi_one (tk := s1.toks) I1 _ (turn_str _ x t "str_ascii_iterator" (.inl rfl)) ⟨_, Heap.get?_push_size _ rfl, rfl, rfl⟩ q)
section
variable {prog : Program} {w : World} {A : Around} {E : Value → Shared → Prop} {s : Shared}
theorem iter_keys {d : Addr} {o : Obj} {es : Array DictEntry} {ep : Nat} {Q : Value → Shared → Prop} (hd : (d == sysModules) = false) (ho : s.heap.get? d = some o) (hc : o.ExactDict) (hdat : o.data = .dict es ep)
    (hQ : Q (.ref s.heap.objs.size) { s with heap := s.heap.push { cls := .type "dict_keyiterator", data := .fields #[.ref d, .int 0 0, .int es.size 0, .int ep 0] } }) :
    wpAny (model prog w) A (pyIter (.ref d)) Q E s := by
  have hT : s.TypeIs (.ref d) "dict" := ⟨o, ho, hc.1⟩
  refine wpAny_pyIter_slot hT F.slot_dict_iter (wpAny_call_entry F.slot_dict_iter hT F.entry_dict_iter ?_ (F.args_dict_iter_1 _))
  unfold Builtin.«dict.__iter__»
  refine wpAny_bind ?_
  unfold Builtin.Dict.dictSlotNone
  refine wpAny_bind (wpAny_notOrdered_dict hT ?_)
  show wpAny _ _ (pure (Value.ref d)) _ _ s
  refine wpAny_pure ?_
  show wpAny _ _ (Builtin.Dict.showsAll d >>= _) _ _ s
  unfold Builtin.Dict.showsAll
  rw [if_neg (by rw [hd]; exact Bool.false_ne_true)]
  refine wpAny_bind (wpAny_pure ?_)
  refine wpAny_bind (wpAny_dictEntries ho hdat ?_)
  refine wpAny_bind (wpAny_dictEpoch ho hdat ?_)
  refine wpAny_bind (wpAny_newObj_type (wpAny_pure ⟨_, rfl, "dict_keyiterator", _, ⟨_, Heap.get?_push_size _ rfl, rfl⟩, F.slot_dict_keyiterator_next.lookup, ?_⟩))
  simpa [rawInt] using hQ
theorem next_key_end {it d : Addr} {i n ep : Nat} {od : Obj} {es : Array DictEntry} {Q : Option Value → Shared → Prop} (hh : A.handled = none) (hit : s.heap.IsKeyIter it d i n ep) (hod : s.heap.get? d = some od) (hdd : od.data = .dict es ep)
    (hsz : es.size = n) (hge : n ≤ i) (hQ : ∀ h', Heap.ExtBut it s.heap h' → Q none { s with heap := h' }) : wpAny (model prog w) A (pyNext (.ref it)) Q E s := by
  obtain ⟨o, ho, hc, hd⟩ := id hit
  unfold pyNext
  refine wpAny_bind (wpAny_attempt (wpAny_callSpecial?_slot (name := Str.ofString "__next__") hit.typeIs F.slot_dict_keyiterator_next
    (wpAny_call_entry F.slot_dict_keyiterator_next hit.typeIs F.entry_dict_keyiterator_next ?_ (F.args_dict_keyiterator_next_1 _))))
  refine wpAny_bind (wpAny_pure ?_)
  refine wpAny_bind ?_
  refine wpAny_bind ?_
  first | refine wpAny_bind (wpAny_typeNameOfWhole_keyiter hit.typeIs (wpAny_pure ?_)) | refine wpAny_bind (wpAny_typeNameOf_keyiter hit.typeIs (wpAny_pure ?_))
  refine wpAny_bind (wpAny_fieldsOf ho hd ?_)
  have hown : Builtin.Dict_items.ownsTuple "dict_keyiterator" = false := by decide
  simp -iota only [hown, Bool.false_eq_true, if_false]
  show wpAny _ _ (if (Value.ref d == Value.none) = true then _ else _) _ _ s
  rw [if_neg (show ¬ ((Value.ref d == Value.none) = true) from Bool.false_ne_true)]
  refine wpAny_bind (wpAny_pure ?_)
  refine wpAny_bind (wpAny_dictEntries hod hdd ?_)
  rw [if_neg (by rw [hsz]; simp)]
  refine wpAny_bind (wpAny_pure ?_)
  refine wpAny_bind (wpAny_dictEpoch hod hdd ?_)
  rw [if_neg (by simp)]
  refine wpAny_pure ?_
  have hge' : es.size ≤ i := by rw [hsz]; exact hge
  dsimp only
  simp -iota only [show ¬ ((i : Int) < 0) from by omega, if_false, Int.toNat_natCast, Array.getElem?_eq_none hge']
  dsimp only
  refine wpAny_bind ?_
  first | refine wpAny_bind (wpAny_typeNameOfWhole_keyiter hit.typeIs (wpAny_pure ?_)) | refine wpAny_bind (wpAny_typeNameOf_keyiter hit.typeIs (wpAny_pure ?_))
  show wpAny _ _ (setField (.ref it) 0 .none >>= _) _ _ s
  refine wpAny_bind (wpAny_setField ho hd (by simp) ?_)
  show wpAny _ _ (newExc (.type "StopIteration") [] >>= _) _ _ _
  refine wpAny_bind ?_
  delta newExc newTuple
  refine wpAny_bind (wpAny_newObj_type ?_ (by size_fits))
  refine wpAny_bind (m := firstArgMember _ _) (wpAny_of_eq (a := Value.none) (by first | rfl | (simp only [firstArgMember]; rfl)) ?_)
  refine wpAny_newObj_type ?_ (by size_fits)
  delta raiseNew
  refine wpAny_bind (wpAny_handled ?_)
  rw [show A.in1.handled = none from hh]
  refine wpAny_bind (wpAny_pure (wpAny_throw ?_))
  refine wpAny_bind (wpAny_isInstance (T := "StopIteration") (b := true) ⟨_, Heap.get?_push_size _ rfl, rfl⟩ isSubtype_stop ?_)
  exact wpAny_pure (hQ _ (((Heap.SameBut.update ..).extBut.push _).push _))
end
theorem kv_get {κ : Type} {kvs : List (κ × V)} {vs : List (κ × Value)} (h : KV kvs vs) : ∀ {i : Nat} {k : κ} {v : V}, kvs[i]? = some (k, v) → ∃ u, vs[i]? = some (k, u) ∧ RelV v u := by
  unfold KV at h
  induction h with
  | nil => intro i k v e; simp at e
  | @cons a b l₁ l₂ r t ih =>
    intro i k v e
    cases i with
    | zero =>
      simp only [List.getElem?_cons_zero, Option.some.injEq] at e
      subst e
      refine ⟨b.2, ?_, r.2⟩
      simp only [List.getElem?_cons_zero]
      exact congrArg some (Prod.ext r.1.symm rfl)
    | succ j =>
      simp only [List.getElem?_cons_succ] at e ⊢
      exact ih e
theorem relV_key {k : Key} {u : Value} (h : keyIs k u = true) : RelV (kV k) u := by
  rcases keyIs_shape h with ⟨i, t, rfl, rfl⟩ | ⟨x, t, rfl, rfl⟩
  · exact ⟨t, rfl⟩
  · exact ⟨t, rfl⟩
theorem boot_zip5 : bootBuiltins "zip" = some (.type "zip") := by decide +kernel
noncomputable def Itz (K : PySem.W.Frag) (a b : Addr) : It :=
  ⟨fun i H => ∃ (xs ys : List V) (x y : V), SqL K H a xs ∧ SqL K H b ys ∧ xs[i]? = some x ∧ ys[i]? = some y,
    fun i H v H' => ∃ T x y, v = .ref T ∧ H T = none ∧ H' = upd H T (.tup [x, y]) ∧ (∀ xs, SqL K H a xs → xs[i]? = some x) ∧ ∀ ys, SqL K H b ys → ys[i]? = some y,
    fun i H => ∃ xs ys : List V, SqL K H a xs ∧ SqL K H b ys ∧ (xs.length ≤ i ∨ ys.length ≤ i)⟩
theorem turn_zip {P : Program} {w : World} {K : PySem.W.Frag} {elts : List Expr} {kk : Nat} {tpos : Pos} {a b z TI TO i1 i2 : Addr} (D : ZipApart z TI TO i1 i2 a b) :
    Turn P w K (.Tuple elts kk tpos) (Itz K a b) [z, TI, TO, i1, i2] z (fun i h => IsZip h z TI TO .none ∧ IsPair h TI (.ref i1) (.ref i2) ∧ (∃ x y, IsPair h TO x y) ∧ h.IsListIter i1 a i ∧ h.IsListIter i2 b i) where
  mem := by simp
  obj := fun i h st c hc => by
    obtain ⟨hz, hTI, ⟨x, y, hTO⟩, ⟨o1, e1, _, d1⟩, ⟨o2, e2, _, d2⟩⟩ := st
    have e' : c = z ∨ c = TI ∨ c = TO ∨ c = i1 ∨ c = i2 := by simpa using hc
    rcases e' with q | q | q | q | q
    · rw [q]; exact ⟨_, hz, fun v q => nomatch q⟩
    · rw [q]; exact ⟨_, hTI, fun v q => nomatch q⟩
    · rw [q]; exact ⟨_, hTO, fun v q => nomatch q⟩
    · rw [q]; exact ⟨o1, e1, fun v q => by rw [d1] at q; cases q⟩
    · rw [q]; exact ⟨o2, e2, fun v q => by rw [d2] at q; cases q⟩
  keep := fun i h h' st k => by
    obtain ⟨hz, hTI, ⟨x, y, hTO⟩, h1, h2⟩ := st
    exact ⟨k z (by simp) _ hz, k TI (by simp) _ hTI, ⟨x, y, k TO (by simp) _ hTO⟩, h1.at fun o q => k i1 (by simp) o q, h2.at fun o q => k i2 (by simp) o q⟩
  item := by
    intro X hP hw hK hc i pins s σ H E I hf st hg
    subst hP hw hK
    obtain ⟨hz, hTI, ⟨x0, y0, hTO⟩, h1, h2⟩ := st
    obtain ⟨xs, ys, x, y, hqx, hqy, hx, hy⟩ := hg
    obtain ⟨its, rv, p, _⟩ := I.list hqx
    obtain ⟨its2, rv2, p2, _⟩ := I.list hqy
    obtain ⟨u, hu, ru⟩ := rv.get hx
    obtain ⟨u2, hu2, ru2⟩ := rv2.get hy
    have hzl : z < s.heap.objs.size := Heap.lt_size hz
    refine wpAny_pyNext_zip_item D hz hTI hTO h1 h2 p.isList p2.isList (x := u) (y := u2) (by simpa using hu) (by simpa using hu2) fun h' z' TO' h1' h2' hT hsz hk => ?_
    refine ⟨_, rfl, wpAny_letOwnedTupleGo_zip (s := { s with heap := h' }) z' fun h'' z'' sb => ?_⟩
    have hT2 : h''.get? s.heap.objs.size = some { cls := .type "tuple", data := .seq #[u, u2] } := (sb.2 _ (Nat.ne_of_gt hzl)).trans hT
    have new : ObjOk X.prog X.w (upd H s.heap.objs.size (.tup [x, y])) h'' s.heap.objs.size (.tup [x, y]) :=
      ⟨by show 2 ≤ sizeLine; decide, [u, u2], .cons ru (.cons ru2 .nil), ⟨_, hT2, rfl, _, rfl⟩⟩
    have I1 : Inv X pins σ (upd H s.heap.objs.size (.tup [x, y])) { s with heap := h'' } :=
      I.turnedNew (t' := s.toks) (ch := [z, TI, TO, i1, i2]) (fun c o hb q => (sb.2 c (fun q' => hb (by simp [q']))).trans (hk c o (fun q' => hb (by simp [q'])) (fun q' => hb (by simp [q'])) (fun q' => hb (by simp [q'])) (fun q' => hb (by simp [q'])) q)) hf (Nat.le_refl _) new
    refine ⟨.ref s.heap.objs.size, _, I1, rfl, ⟨_, x, y, rfl, I.hok.fresh (Nat.le_refl _), rfl, fun l hl => by rw [I.list_inj hl hqx]; exact hx, fun l hl => by rw [I.list_inj hl hqy]; exact hy⟩, ⟨z'', ?_, ⟨u, u2, ?_⟩, ?_, ?_⟩, fun c hcm => ?_⟩
    · exact (sb.2 _ D.TIz).trans (hk _ _ D.TIz D.TITO D.TIi1 D.TIi2 hTI)
    · exact (sb.2 _ D.TOz).trans TO'
    · exact h1'.at fun o q => (sb.2 _ D.i1z).trans q
    · exact h2'.at fun o q => (sb.2 _ D.i2z).trans q
    · have hlt : c < s.heap.objs.size := by
        have e' : c = z ∨ c = TI ∨ c = TO ∨ c = i1 ∨ c = i2 := by simpa using hcm
        rcases e' with q | q | q | q | q
        · rw [q]; exact hzl
        · rw [q]; exact Heap.lt_size hTI
        · rw [q]; exact Heap.lt_size hTO
        · rw [q]; obtain ⟨_, e1, _⟩ := h1; exact Heap.lt_size e1
        · rw [q]; obtain ⟨_, e2, _⟩ := h2; exact Heap.lt_size e2
      rw [upd_ne (Nat.ne_of_lt hlt)]
      exact (hf c hcm).1
  done := by
    intro X hP hw hK hc i pins s σ H E I hf st hg
    subst hP hw hK
    obtain ⟨hz, hTI, ⟨x0, y0, hTO⟩, h1, h2⟩ := st
    obtain ⟨xs, ys, hqx, hqy, hend⟩ := hg
    obtain ⟨its, rv, p, _⟩ := I.list hqx
    obtain ⟨its2, rv2, p2, _⟩ := I.list hqy
    have l1 := rv.length
    have l2 := rv2.length
    have he : its.toArray[i]? = none ∨ its2.toArray[i]? = none := by
      rcases hend with q | q
      · exact .inl (by simp; omega)
      · exact .inr (by simp; omega)
    exact wpAny_pyNext_zip_end (I.ok.hd hc) D hz hTI hTO h1 h2 p.isList p2.isList he fun h' hk => ⟨rfl, I.turnedL (t' := s.toks) (ch := [z, TI, TO, i1, i2]) (fun c o hb q =>
      hk c o (fun q' => hb (by simp [q'])) (fun q' => hb (by simp [q'])) (fun q' => hb (by simp [q'])) (fun q' => hb (by simp [q'])) q) hf⟩
  self := fun A i s Q E st h => wpAny_pyIter_zip st.1 h
noncomputable def iZip (K : PySem.W.Frag) (ta : TA) : TI := fun σ H R => ta σ H fun vs H1 => ∃ a b xs ys, vs = [.ref a, .ref b] ∧ SqL K H1 a xs ∧ SqL K H1 b ys ∧ R (Itz K a b) H1
theorem pi_zip {X : Cx} {e e2 : Expr} {ta : TA} {p pos tpos : Pos} {elts : List Expr} {kk : Nat} (hg : Gl X "zip") (hm : X.mg "zip" = none) (ha : PA X [e, e2] ta)
    (hs : starEach [e, e2] X.env = (false, eval e X.env) :: starEach [e2] X.env := by rfl) (hpl : (backTo pos (starEach [e2] X.env)).any (·.1) = false := by rfl) :
    PI X (.Tuple elts kk tpos) (.Call (.Name "zip" p) [e, e2] [] pos) (iZip X.K ta) := by
  intro pins s σ H R I h
  refine Call_ (ld_blt I hg hm boot_zip5 (PyProof.Rows.callWith_type1 (thn (ha pos pins s σ H _ I h) fun us s1 zq137 => ?_) hs hpl))
  obtain ⟨vs, H1, I1, r1, q1⟩ := zq137
  obtain ⟨a, b, xs, ys, ex, hqx, hqy, q⟩ := q1
  subst ex
  cases r1 with
  | cons r rr =>
    cases rr with
    | cons r' rr =>
      cases rr
      cases r
      cases r'
      obtain ⟨its, rv, p1, _⟩ := I1.list hqx
      obtain ⟨its2, rv2, p2, _⟩ := I1.list hqy
      have la : a < s1.heap.objs.size := p1.lt
      have lb : b < s1.heap.objs.size := p2.lt
      refine call_zip_2 p1.isList p2.isList fun h' hz hTI hTO h1 h2 hsz hk => wpAny_pyIter_zip hz ?_
      have I2 : Inv X pins σ H1 { s1 with heap := h' } := I1.kept (t' := s1.toks) hk
      refine ⟨s1.heap.objs.size + 4, [s1.heap.objs.size + 4, s1.heap.objs.size + 2, s1.heap.objs.size + 3, s1.heap.objs.size, s1.heap.objs.size + 1], _, _, H1, rfl, I2, turn_zip (PySem.W.ktu_apart s1.heap.objs.size a b la lb), ⟨hz, hTI, ⟨_, _, hTO⟩, h1, h2⟩, fun c hcm => ?_, q⟩
      have e' : c = s1.heap.objs.size + 4 ∨ c = s1.heap.objs.size + 2 ∨ c = s1.heap.objs.size + 3 ∨ c = s1.heap.objs.size ∨ c = s1.heap.objs.size + 1 := by simpa using hcm
      have hle : s1.heap.objs.size ≤ c := by
        rcases e' with z | z | z | z | z
        · rw [z]; exact Nat.le_add_right _ _
        · rw [z]; exact Nat.le_add_right _ _
        · rw [z]; exact Nat.le_add_right _ _
        · rw [z]; exact Nat.le_refl _
        · rw [z]; exact Nat.le_add_right _ _
      exact I1.fpOk hle (I1.hok.fresh hle)
end L2
section
end
section
namespace TL
open PySem PySem.Builtin PySem.Builtin.Str PySem.StrLaws
noncomputable abbrev tl (x : Str) : List Nat := x.cps.toList
theorem len_tl (x : Str) : x.length = (tl x).length := by simp [tl, Str.length]
theorem tl_append (x y : Str) : tl (x ++ y) = tl x ++ tl y := by
  show (x ++ y).cps.toList = _
  rw [Str.cps_append, Array.toList_append]
noncomputable def pre (S l : List Nat) : Bool := l.take S.length == S
noncomputable def spl (S : List Nat) : Nat → List Nat → List Nat → List (List Nat)
  | _, acc, [] => [acc]
  | 0, acc, c :: r => if pre S (c :: r) = true then acc :: spl S (S.length - 1) [] r else spl S 0 (acc ++ [c]) r
  | k + 1, acc, _ :: r => spl S k acc r
noncomputable def par (S : List Nat) : List Nat → List Nat → Option (List Nat × List Nat)
  | _, [] => none
  | acc, c :: r => if pre S (c :: r) = true then some (acc, (c :: r).drop S.length) else par S (acc ++ [c]) r
theorem spl_nil (S : List Nat) (k : Nat) (acc : List Nat) : spl S k acc [] = [acc] := by cases k <;> rfl
theorem spl_hit {S acc r : List Nat} {c : Nat} (h : pre S (c :: r) = true) : spl S 0 acc (c :: r) = acc :: spl S (S.length - 1) [] r := by
  show (if pre S (c :: r) = true then acc :: spl S (S.length - 1) [] r else spl S 0 (acc ++ [c]) r) = _
  rw [if_pos h]
theorem spl_miss {S acc r : List Nat} {c : Nat} (h : pre S (c :: r) = false) : spl S 0 acc (c :: r) = spl S 0 (acc ++ [c]) r := by
  show (if pre S (c :: r) = true then acc :: spl S (S.length - 1) [] r else spl S 0 (acc ++ [c]) r) = _
  rw [if_neg (by rw [h]; exact Bool.false_ne_true)]
theorem spl_pass (S : List Nat) : ∀ (k : Nat) (acc l : List Nat), spl S k acc l = spl S 0 acc (l.drop k)
  | 0, _, _ => by rw [List.drop_zero]
  | k + 1, acc, [] => by rw [List.drop_nil, spl_nil, spl_nil]
  | k + 1, acc, c :: r => by
    show spl S k acc r = spl S 0 acc (r.drop k)
    exact spl_pass S k acc r
theorem pre_nil {S : List Nat} (hS : S ≠ []) : pre S [] = false := by
  cases S with
  | nil => exact absurd rfl hS
  | cons s S => rfl
theorem getElem_drop_cons {L : List Nat} {a : Nat} (h : a < L.length) : ∃ c, L.drop a = c :: L.drop (a + 1) := ⟨L[a], List.drop_eq_getElem_cons h⟩
theorem spl_run (S L : List Nat) : ∀ (m a : Nat) (acc : List Nat), a + m ≤ L.length → (∀ k, a ≤ k → k < a + m → pre S (L.drop k) = false) →
    spl S 0 acc (L.drop a) = spl S 0 (acc ++ (L.drop a).take m) (L.drop (a + m))
  | 0, a, acc, _, _ => by rw [List.take_zero, List.append_nil, Nat.add_zero]
  | m + 1, a, acc, h, hn => by
    have hlt : a < L.length := by omega
    obtain ⟨c, e⟩ := getElem_drop_cons hlt
    have h0 := hn a (Nat.le_refl _) (by omega)
    have ih := spl_run S L m (a + 1) (acc ++ [c]) (by omega) (fun k h1 h2 => hn k (by omega) (by omega))
    have e2 : a + 1 + m = a + (m + 1) := by omega
    rw [e2] at ih
    rw [e] at h0
    rw [e, spl_miss h0, ih, List.take_succ_cons, List.append_assoc] <;> rfl
theorem drop_two (L : List Nat) (a b : Nat) : (L.drop a).drop b = L.drop (a + b) := by
  first
    | rw [List.drop_drop]
    | rw [List.drop_drop, Nat.add_comm]
theorem spl_at {S L : List Nat} (hS : S ≠ []) {c : Nat} {acc : List Nat} (h : pre S (L.drop c) = true) : spl S 0 acc (L.drop c) = acc :: spl S 0 [] (L.drop (c + S.length)) := by
  rw [← drop_two]
  cases e : L.drop c with
  | nil => rw [e, pre_nil hS] at h; cases h
  | cons d r =>
    rw [e] at h
    rw [spl_hit h, spl_pass]
    cases S with
    | nil => exact absurd rfl hS
    | cons s S => rfl
theorem at_iff {x y : Str} (hy : tl y ≠ []) (i : Nat) : At x y x.length i ↔ pre (tl y) ((tl x).drop i) = true := by
  have hx := len_tl x
  have hl := len_tl y
  constructor
  · intro h
    have h2 := h.2
    rw [subAt_eq, hl] at h2
    exact h2
  · intro h
    have e : ((tl x).drop i).take (tl y).length = tl y := eq_of_beq h
    have e1 := congrArg List.length e
    rw [List.length_take, List.length_drop] at e1
    have e2 : 0 < (tl y).length := List.length_pos_iff.mpr hy
    refine ⟨by omega, ?_⟩
    rw [subAt_eq, hl]
    exact h
theorem no_at {x y : Str} (hy : tl y ≠ []) {i : Nat} (h : ¬ At x y x.length i) : pre (tl y) ((tl x).drop i) = false := by
  cases hp : pre (tl y) ((tl x).drop i) with
  | false => rfl
  | true => exact absurd ((at_iff hy i).mpr hp) h
theorem len1 {y : Str} (hy : tl y ≠ []) : 1 ≤ y.length := by
  have e2 : 0 < (tl y).length := List.length_pos_iff.mpr hy
  rw [len_tl y]
  exact e2
theorem tl_strSub (x : Str) (i j : Nat) : tl (strSub x i j) = ((tl x).drop i).take (j - i) := strSub_toList x i j
theorem tl_strSub_end (x : Str) (i : Nat) : tl (strSub x i x.length) = (tl x).drop i := by
  rw [tl_strSub, len_tl x]
  exact List.take_of_length_le (by rw [List.length_drop] <;> omega)
theorem parts_spl {x y : Str} (hy : tl y ≠ []) : ∀ (cuts : List Nat) (a f : Nat), a ≤ (tl x).length → ChainG x y x.length a cuts f → (∀ k, f ≤ k → ¬ At x y x.length k) →
    (partsFrom x y.length a cuts).map tl = spl (tl y) 0 [] ((tl x).drop a)
  | [], a, f, ha, h, hn => by
    have e : f = a := h
    subst e
    show [tl (strSub x f x.length)] = _
    have run := spl_run (tl y) (tl x) ((tl x).length - f) f [] (by omega) (fun k h1 _ => no_at hy (hn k h1))
    have e2 : f + ((tl x).length - f) = (tl x).length := by omega
    rw [e2, List.drop_length, spl_nil, List.nil_append, List.take_of_length_le (by rw [List.length_drop] <;> omega)] at run
    rw [run, tl_strSub_end]
  | c :: r, a, f, ha, h, hn => by
    obtain ⟨h1, h2, h3, h4⟩ := h
    have hc : c + y.length ≤ x.length := h2.1
    have hx := len_tl x
    have hl := len_tl y
    have ih := parts_spl hy r (c + y.length) f (by omega) h4 hn
    show tl (strSub x a c) :: (partsFrom x y.length (c + y.length) r).map tl = _
    have run := spl_run (tl y) (tl x) (c - a) a [] (by omega) (fun k k1 k2 => no_at hy (h3 k k1 (by omega)))
    have e2 : a + (c - a) = c := by omega
    rw [e2, List.nil_append, spl_at hy ((at_iff hy c).mp h2)] at run
    rw [run, ih, tl_strSub, hl]
theorem split_spl (x y : Str) (hy : tl y ≠ []) (hk : ¬ Builtin.Str.strKind x < Builtin.Str.strKind y) : (Txt.split x y).map tl = spl (tl y) 0 [] (tl x) := by
  obtain ⟨f, g, hn⟩ := occ_tight x y (len1 hy)
  have key := parts_spl hy _ 0 f (Nat.zero_le _) g hn
  rw [List.drop_zero] at key
  have none_case : occurrences x y 0 x.length (x.length + 1) = [] → [x].map tl = spl (tl y) 0 [] (tl x) := fun ho => by
    rw [ho] at key
    rw [← key]
    show [tl x] = [tl (strSub x 0 x.length)]
    rw [sub_whole]
  unfold Txt.split
  by_cases h1 : (decide (x.length < y.length) || decide (Builtin.Str.strKind x < Builtin.Str.strKind y)) = true
  · rw [if_pos h1]
    have hlt : x.length < y.length := by
      simp only [Bool.or_eq_true, decide_eq_true_eq] at h1
      rcases h1 with h | h
      · exact h
      · exact absurd h hk
    refine none_case ?_
    cases ho : occurrences x y 0 x.length (x.length + 1) with
    | nil => rfl
    | cons c r =>
      rw [ho] at g
      have hc : c + y.length ≤ x.length := g.2.1.1
      omega
  · rw [if_neg h1]
    by_cases h2 : (occurrences x y 0 x.length (x.length + 1)).isEmpty = true
    · rw [if_pos h2]
      exact none_case (List.isEmpty_iff.mp h2)
    · rw [if_neg h2, partsBetween_eq]
      exact key
theorem kind_ok {x y : Str} (h : y.cps.all (· < 256) = true) : ¬ Builtin.Str.strKind x < Builtin.Str.strKind y := by
  have e : Builtin.Str.strKind y = 1 := by unfold PySem.Builtin.Str.strKind; rw [if_pos h]
  rw [e]
  unfold PySem.Builtin.Str.strKind
  split
  · omega
  · split <;> omega
noncomputable def joinL (S : List Nat) : List (List Nat) → List Nat
  | [] => []
  | [p] => p
  | p :: q :: r => p ++ (S ++ joinL S (q :: r))
theorem tl_join (y : Str) : ∀ parts : List Str, tl (Str.join y parts) = joinL (tl y) (parts.map tl)
  | [] => rfl
  | [_] => rfl
  | x :: z :: r => by
    show tl (x ++ y ++ Str.join y (z :: r)) = tl x ++ (tl y ++ joinL (tl y) ((z :: r).map tl))
    rw [tl_append, tl_append, tl_join y (z :: r), List.append_assoc]
theorem join_eq (y : Str) (parts : List Str) : Txt.join y parts = Str.join y parts := glued_eq_join y parts
end TL
end
namespace L2
open PySem PySem.Spec PyProof.Rows
theorem vals_strs : ∀ l : List (Str × Tok), Vals ((l.map (·.1)).map V.str) (strValues l)
  | [] => .nil
  | p :: r => .cons ⟨p.2, rfl⟩ (vals_strs r)
theorem strs_of_vals : ∀ {ys : List Str} {us : List Value}, Vals (ys.map V.str) us → StrsAre us ys
  | [], _, .nil => .nil
  | y :: ys, _, .cons r t => by
    obtain ⟨k, rfl⟩ := r
    exact .cons y k (strs_of_vals t)
noncomputable def rNewStrs (ys : List Str) : Hp → VK → Prop := fun H Q => ∀ p, H p = none → Q (.ref p) (upd H p (.lst (ys.map V.str)))
section
variable {X : Cx} {pins : List (Addr × Obj)} {σ : St} {H : Hp} {s : Shared} {Q : VK}
theorem laid_strs {l : List (Str × Tok)} {ys : List Str} {k : Nat} (I : Inv X pins σ H s) (e : l.map (·.1) = ys) (hz : ys.length ≤ sizeLine) (h : rNewStrs ys H Q) :
    EP X pins σ Q (.ref s.heap.objs.size) { s with toks := k, heap := s.heap.push { cls := .type "list", data := .seq (strValues l).toArray } } := by
  have hp := I.hok.fresh (Nat.le_refl _)
  refine ⟨.ref s.heap.objs.size, upd H s.heap.objs.size (.lst (ys.map V.str)), I.laid (fun b u q => Heap.get?_push_of_some _ q) (Nat.le_refl _) ⟨by rw [List.length_map]; exact hz, strValues l, _, ?_, Heap.get?_push_size _ rfl⟩, rfl, h _ hp⟩
  rw [← e]
  exact vals_strs l
end
section
variable {X : Cx}
theorem mt_split : MtR X "str.split" (fun x xs H Q => ∃ a b, x = .str a ∧ xs = [.str b] ∧ (b.length == 0) = false ∧ a.length + 2 ≤ sizeLine ∧ rNewStrs (Txt.split a b) H Q) := by
  intro pins s σ H x xs v us Q I rx rs h
  obtain ⟨a, b, rfl, rfl, hb, hz, h⟩ := h
  obtain ⟨t, rfl⟩ := rx
  cases rs with
  | cons r1 rs =>
    cases rs
    obtain ⟨u, rfl⟩ := r1
    have hl : (Txt.split a b).length ≤ sizeLine := Nat.le_trans (PyProof.Rows.split_le a b) hz
    have hn : (Builtin.Str.partsBetween a (Builtin.Str.occurrences a b 0 a.length (a.length + 1)) b.length).length ≤ sizeLine := by
      have e1 := StrLaws.occ_length_le a b 0 a.length (a.length + 1)
      rw [length_partsBetween]; omega
    cases h1 : (decide (a.length < b.length) || decide (Builtin.Str.strKind a < Builtin.Str.strKind b))
    · cases hf : (Builtin.Str.occurrences a b 0 a.length (a.length + 1)).isEmpty
      · refine call_meets F.slot_str_split (typeIs_str _ _ _) F.entry_str_split (F.args_str_split_2 _ _) (meets_str_split_sep a b t u h1 hb hf (by omega) hn) ?_
        show EP X pins σ Q (.ref s.heap.objs.size) { s with toks := _, heap := s.heap.push { cls := .type "list", data := .seq (strsFrom s.toks (Builtin.Str.partsBetween a (Builtin.Str.occurrences a b 0 a.length (a.length + 1)) b.length)).toArray } }
        rw [strsFrom_eq]
        exact laid_strs (ys := Txt.split a b) I ((numbered_texts _ _).trans ((if_neg (ne_true_of_eq_false h1)).trans (if_neg (ne_true_of_eq_false hf))).symm) hl h
      · refine call_meets F.slot_str_split (typeIs_str _ _ _) F.entry_str_split (F.args_str_split_2 _ _) (meets_str_split_not_found a b t u h1 hb hf) ?_
        exact laid_strs (l := [(a, t)]) (ys := Txt.split a b) (k := s.toks) I ((if_neg (ne_true_of_eq_false h1)).trans (if_pos hf)).symm hl h
    · refine call_meets F.slot_str_split (typeIs_str _ _ _) F.entry_str_split (F.args_str_split_2 _ _) (meets_str_split_cannot_occur a b t u h1) ?_
      exact laid_strs (l := [(a, t)]) (ys := Txt.split a b) (k := s.toks) I (if_pos h1).symm hl h
theorem mt_join : MtR X "str.join" (fun x xs H Q => ∃ a p, ∃ ys : List Str, x = .str a ∧ xs = [.ref p] ∧ (SqL X.K H p (ys.map V.str) ∨ SqT X.K H p (ys.map V.str)) ∧
    (ys.map (·.length)).sum + ys.length * a.length ≤ 16777216 ∧ Q (.str (Txt.join a ys)) H) := by
  intro pins s σ H x xs v us Q I rx rs h
  obtain ⟨a, p, ys, rfl, rfl, hp, hz, h⟩ := h
  obtain ⟨t, rfl⟩ := rx
  cases rs with
  | cons r1 rs =>
    cases rs
    cases r1
    rcases hp with hp | hp
    · obtain ⟨its, r, ⟨o, n, ho, hc, _, hd⟩, _⟩ := I.list hp
      exact PyProof.Rows.join_list (items := its.toArray) ⟨o, ho, hc, n, hd⟩ (by rw [List.toList_toArray]; exact strs_of_vals r) hz fun t' k => ⟨.str _, H, I.tok k, ⟨t', rfl⟩, h⟩
    · obtain ⟨its, r, ht, _⟩ := I.tuple hp
      exact PyProof.Rows.join_tuple (items := its.toArray) ht (by rw [List.toList_toArray]; exact strs_of_vals r) hz fun t' k => ⟨.str _, H, I.tok k, ⟨t', rfl⟩, h⟩
theorem mt0 {id : String} {C : Str → Prop} {g : Str → V} (rule : ∀ (a : Str) (t : Tok) (s : Shared) (Q : Value → Shared → Prop), C a → (∀ (u : Value) (k : Nat), RelV (g a) u → Q u { s with toks := k }) →
    wpAny (model X.prog X.w) X.A (call (.builtin id) [.str a t]) Q X.xe s) : MtR X id (fun x xs H Q => ∃ a, x = .str a ∧ xs = [] ∧ C a ∧ Q (g a) H) := by
  intro pins s σ H x xs v us Q I rx rs h
  obtain ⟨a, rfl, rfl, hc, h⟩ := h
  obtain ⟨t, rfl⟩ := rx
  cases rs
  exact rule a t s _ hc fun u k r => ⟨g a, H, I.tok k, r, h⟩
theorem mt_isdigit : MtR X "str.isdigit" (fun x xs H Q => ∃ a, x = .str a ∧ xs = [] ∧ True ∧ Q (.bl (Txt.isdigit a)) H) :=
  mt0 (C := fun _ => True) (g := fun a => .bl (Txt.isdigit a)) fun _ _ s _ _ h => PySem.SC.isdigit (h _ s.toks rfl)
theorem call_int_str : CallR X (.type "int") (fun xs H Q => ∃ a n, xs = [.str a] ∧ PySem.intText? a = some n ∧ a.length ≤ 640 ∧ Q (.int n) H) := by
  intro pins s σ H xs us Q I rs h
  obtain ⟨a, n, rfl, hn, hl, h⟩ := h
  cases rs with
  | cons r1 rs =>
    cases rs
    obtain ⟨t, rfl⟩ := r1
    exact PySem.W.KIN.call_text hn hl ⟨.int n, H, I.tok _, ⟨_, rfl⟩, h⟩
end
section
variable {X : Cx} {o e : Expr} {to te : TE}
noncomputable def tM0 (r : V → List V → Hp → VK → Prop) (to : TE) : TE := fun σ H Q => to σ H fun x H1 => (∃ a, x = .str a) ∧ r x [] H1 Q
noncomputable def tM1 (r : V → List V → Hp → VK → Prop) (to te : TE) : TE := fun σ H Q => to σ H fun x H1 => (∃ a, x = .str a) ∧ te σ H1 fun y H2 => r x [y] H2 Q
theorem pe_m0 {id : String} {name : Str} {apos pos : Pos} {r : V → List V → Hp → VK → Prop} (slot : Slot "str" name id) (ty : typeOf (.builtin id) = pure (.type "method_descriptor")) (rule : MtR X id r) (ho : PE X o to)
    (hbase : attributeBase o name X.env (eval o X.env) = eval o X.env := by rfl) (hline : (apos.endLine == pos.line) = true := by rfl) : PE X (.Call (.Attribute o name apos) [] [] pos) (tM0 r to) := by
  intro pins s σ H Q I h
  refine PySem.Call_method0 hbase hline (thn (ho pins s σ H _ I h) fun v s1 zq138 => ?_)
  obtain ⟨x, H1, I1, r1, q1⟩ := zq138
  obtain ⟨⟨a, rfl⟩, q1⟩ := q1
  obtain ⟨t, rfl⟩ := _root_.id r1
  exact ⟨"str", _, F.plainAttrs_str, slot, ty, typeIs_str _ _ _, (fun _ e => nomatch e), Calls.callWith_builtin rfl (PySem.evalArgs_none (rule pins s1 σ H1 _ [] _ [] Q I1 r1 .nil q1))⟩
theorem pe_m1 {id : String} {name : Str} {apos pos : Pos} {r : V → List V → Hp → VK → Prop} (slot : Slot "str" name id) (ty : typeOf (.builtin id) = pure (.type "method_descriptor")) (rule : MtR X id r) (ho : PE X o to) (he : PE X e te)
    (hs : starEach [e] X.env = [(false, eval e X.env)] := by rfl) (hbase : attributeBase o name X.env (eval o X.env) = eval o X.env := by rfl) (hline : (apos.endLine == pos.line) = true := by rfl) :
    PE X (.Call (.Attribute o name apos) [e] [] pos) (tM1 r to te) := by
  intro pins s σ H Q I h
  refine PySem.Call_method1 hbase hs hline (thn (ho pins s σ H _ I h) fun v s1 zq139 => ?_)
  obtain ⟨x, H1, I1, r1, q1⟩ := zq139
  obtain ⟨⟨a, rfl⟩, q1⟩ := q1
  obtain ⟨t, rfl⟩ := _root_.id r1
  refine ⟨"str", _, F.plainAttrs_str, slot, ty, typeIs_str _ _ _, (fun _ e => nomatch e), Calls.callWith_builtin rfl (Calls.evalArgs_plain (Calls.spliced_cons ?_))⟩
  refine thn (he pins s1 σ H1 _ I1 q1) fun u s2 zq140 => ?_
  obtain ⟨y, H2, I2, r2, q2⟩ := zq140
  exact Calls.spliced_nil (rule pins s2 σ H2 _ [y] _ [u] Q I2 r1 (.cons r2 .nil) q2)
theorem pe_split {apos pos : Pos} (ho : PE X o to) (he : PE X e te) (hs : starEach [e] X.env = [(false, eval e X.env)] := by rfl) (hbase : attributeBase o "split" X.env (eval o X.env) = eval o X.env := by rfl) (hline : (apos.endLine == pos.line) = true := by rfl) :
    PE X (.Call (.Attribute o "split" apos) [e] [] pos) (tM1 (fun x xs H Q => ∃ a b, x = .str a ∧ xs = [.str b] ∧ (b.length == 0) = false ∧ a.length + 2 ≤ sizeLine ∧ rNewStrs (Txt.split a b) H Q) to te) :=
  pe_m1 F.slot_str_split F.type_str_split mt_split ho he hs hbase hline
theorem pe_join {apos pos : Pos} (ho : PE X o to) (he : PE X e te) (hs : starEach [e] X.env = [(false, eval e X.env)] := by rfl) (hbase : attributeBase o "join" X.env (eval o X.env) = eval o X.env := by rfl) (hline : (apos.endLine == pos.line) = true := by rfl) :
    PE X (.Call (.Attribute o "join" apos) [e] [] pos) (tM1 (fun x xs H Q => ∃ a p, ∃ ys : List Str, x = .str a ∧ xs = [.ref p] ∧ (SqL X.K H p (ys.map V.str) ∨ SqT X.K H p (ys.map V.str)) ∧
      (ys.map (·.length)).sum + ys.length * a.length ≤ 16777216 ∧ Q (.str (Txt.join a ys)) H) to te) :=
  pe_m1 F.slot_str_join F.type_str_join mt_join ho he hs hbase hline
end
end L2
namespace L2
open PySem PySem.Spec PyProof.Rows
section
variable {X : Cx}
theorem op_in_sign : OpR X (compareOp .In) (fun x y H Q => ∃ (c : Nat) (z : Str), x = .str ⟨#[c]⟩ ∧ y = .str z ∧ Q (.bl (decide (c ∈ z.cps.toList))) H) := by
  intro pins s σ H x y v u Q I rx ry h
  obtain ⟨c, z, rfl, rfl, q⟩ := h
  obtain ⟨t, rfl⟩ := rx
  obtain ⟨t', rfl⟩ := ry
  exact PyProof.Rows.in_str (fin_bl I q (PySem.StrLaws.found_one z c).symm)
theorem op_notIn_sign : OpR X (compareOp .NotIn) (fun x y H Q => ∃ (c : Nat) (z : Str), x = .str ⟨#[c]⟩ ∧ y = .str z ∧ Q (.bl (!decide (c ∈ z.cps.toList))) H) := by
  intro pins s σ H x y v u Q I rx ry h
  obtain ⟨c, z, rfl, rfl, q⟩ := h
  obtain ⟨t, rfl⟩ := rx
  obtain ⟨t', rfl⟩ := ry
  exact PyProof.Rows.notIn_str (fin_bl I q (congrArg Bool.not (PySem.StrLaws.found_one z c).symm))
end
end L2
section
set_option Elab.async false
set_option linter.all false
set_option maxRecDepth 100000
set_option maxHeartbeats 2000000
namespace L2
open PySem PySem.Spec PyProof.Rows
open PySem.W (WData Codec OpenSpec Well WellAll ReadsW ReadsAllW)
mutual
inductive Dw (K : PySem.W.Frag) (H : Hp) : V → WData → Prop
  | non : Dw K H .non .none
  | bl (b : Bool) : Dw K H (.bl b) (.bool b)
  | int (i : Int) : Dw K H (.int i) (.int i)
  | str (x : Str) : Dw K H (.str x) (.str x)
  | byt (b : Array UInt8) : Dw K H (.byt b) (.bytes b.toList)
  | lst {a : Addr} {xs : List V} {ds : List WData} : SqL K H a xs → DwAll K H xs ds → Dw K H (.ref a) (.list ds)
  | tup {a : Addr} {xs : List V} {ds : List WData} : SqT K H a xs → DwAll K H xs ds → Dw K H (.ref a) (.tuple ds)
inductive DwAll (K : PySem.W.Frag) (H : Hp) : List V → List WData → Prop
  | nil : DwAll K H [] []
  | cons {v : V} {vs : List V} {d : WData} {ds : List WData} : Dw K H v d → DwAll K H vs ds → DwAll K H (v :: vs) (d :: ds)
end
theorem dw_ints {K : PySem.W.Frag} {H : Hp} : ∀ ns : List Int, DwAll K H (ns.map V.int) (ns.map WData.int)
  | [] => .nil
  | n :: r => .cons (.int n) (dw_ints r)
theorem ints_dw {K : PySem.W.Frag} {H : Hp} : ∀ (ns : List Int) (xs : List V), DwAll K H xs (ns.map WData.int) → xs = ns.map V.int
  | [], xs, h => by
    cases h
    rfl
  | n :: r, xs, h => by
    cases h with
    | cons h1 h2 =>
      cases h1
      rw [ints_dw r _ h2] <;> rfl
section
variable {P : Program} {w : World} {K : PySem.W.Frag} {H : Hp} {h : Heap} {R : PySem.W.WRecords} {cl : Str → Option Addr}
theorem sqL_at {a : Addr} {xs : List V} (hok : HOk P w H h) (KX : K.In h) (q : SqL K H a xs) : ∃ (its : List Value) (o : Obj) (n : Nat), Vals xs its ∧ h.get? a = some o ∧ o.cls = .type "list" ∧ o.data = .seq its.toArray n := by
  rcases q with q | ⟨o, its, n, e, hc, _, hd, _, hv⟩
  · obtain ⟨_, its, n, hv, e⟩ := (show ObjOk P w H h a (.lst xs) from q.ok hok)
    exact ⟨its, _, n, hv, e, rfl, rfl⟩
  · exact ⟨its.toList, o, n, hv, KX _ _ e, hc, by simp [hd]⟩
theorem sqT_at {a : Addr} {xs : List V} (hok : HOk P w H h) (KX : K.In h) (q : SqT K H a xs) : ∃ (its : List Value) (o : Obj) (n : Nat), Vals xs its ∧ h.get? a = some o ∧ o.cls = .type "tuple" ∧ o.data = .seq its.toArray n := by
  rcases q with q | ⟨o, its, n, e, hc, hd, _, hv⟩
  · obtain ⟨_, its, hv, o, e, hc, n, hd⟩ := (show ObjOk P w H h a (.tup xs) from q.ok hok)
    exact ⟨its, o, n, hv, e, hc, hd⟩
  · exact ⟨its.toList, o, n, hv, KX _ _ e, hc, by simp [hd]⟩
mutual
theorem Dw.reads (hok : HOk P w H h) (KX : K.In h) : ∀ (d : WData) (v : V) (u : Value), Dw K H v d → RelV v u → ∃ as, ReadsW R cl h u d as
  | .none, _, _, x, r => by
    cases x
    cases r
    exact ⟨_, ReadsW.none⟩
  | .bool b, _, _, x, r => by
    cases x
    cases r
    exact ⟨_, ReadsW.bool b⟩
  | .int i, _, _, x, r => by
    cases x
    obtain ⟨t, rfl⟩ := r
    exact ⟨_, ReadsW.int i t⟩
  | .str s, _, _, x, r => by
    cases x
    obtain ⟨t, rfl⟩ := r
    exact ⟨_, ReadsW.str s t⟩
  | .bytes b, _, _, x, r => by
    cases x
    obtain ⟨t, rfl⟩ := r
    exact ⟨_, ReadsW.bytes _ t⟩
  | .list ds, _, _, x, r => by
    cases x with
    | lst hs ha =>
      cases r
      obtain ⟨its, o, n, rv, ho, hc, hd⟩ := sqL_at hok KX hs
      obtain ⟨as, hr⟩ := Dw.readsAll hok KX ds _ its ha rv
      exact ⟨_, ReadsW.list ho hc hd hr⟩
  | .tuple ds, _, _, x, r => by
    cases x with
    | tup hs ha =>
      cases r
      obtain ⟨its, o, n, rv, ho, hc, hd⟩ := sqT_at hok KX hs
      obtain ⟨as, hr⟩ := Dw.readsAll hok KX ds _ its ha rv
      exact ⟨_, ReadsW.tuple ho hc hd hr⟩
  | .float _, _, _, x, _ => by cases x
  | .dict _, _, _, x, _ => by cases x
  | .bytearray _, _, _, x, _ => by cases x
  | .set _, _, _, x, _ => by cases x
  | .frozenset _, _, _, x, _ => by cases x
  | .obj _ _, _, _, x, _ => by cases x
theorem Dw.readsAll (hok : HOk P w H h) (KX : K.In h) : ∀ (ds : List WData) (vs : List V) (us : List Value), DwAll K H vs ds → Vals vs us → ∃ as, ReadsAllW R cl h us ds as
  | [], _, _, x, r => by
    cases x
    cases r
    exact ⟨_, ReadsAllW.nil⟩
  | d :: ds, _, _, x, r => by
    cases x with
    | cons h1 h2 =>
      cases r with
      | cons r1 r2 =>
        obtain ⟨as, q1⟩ := Dw.reads hok KX d _ _ h1 r1
        obtain ⟨bs, q2⟩ := Dw.readsAll hok KX ds _ _ h2 r2
        exact ⟨_, ReadsAllW.cons q1 q2⟩
end
end
mutual
noncomputable def plW : WData → Bool
  | .none => true
  | .bool _ => true
  | .int _ => true
  | .str _ => true
  | .bytes _ => true
  | .list xs => plWs xs
  | .tuple xs => plWs xs
  | _ => false
noncomputable def plWs : List WData → Bool
  | [] => true
  | x :: r => plW x && plWs r
end
theorem plWs_map {α : Type} {f : α → WData} (h : ∀ a, plW (f a) = true) : ∀ l : List α, plWs (l.map f) = true
  | [] => rfl
  | x :: r => by
    show (plW (f x) && plWs (r.map f)) = true
    rw [h x, plWs_map h r] <;> rfl
theorem pl_enc : ∀ (c : Codec) (a : c.denote), plW (c.enc a) = true
  | .unit, _ => rfl
  | .bool, _ => rfl
  | .int _ _, _ => rfl
  | .nat _ _, _ => rfl
  | .u8, _ => rfl
  | .bytes _ _, _ => rfl
  | .text _ _ _ _, _ => rfl
  | .list _ _ c, a => plWs_map (fun x => pl_enc c x) a
  | .pair c d, a => by
    show (plW (c.enc a.1) && (plW (d.enc a.2) && true)) = true
    rw [pl_enc c a.1, pl_enc d a.2] <;> rfl
  | .triple c d e, a => by
    show (plW (c.enc a.1) && (plW (d.enc a.2.1) && (plW (e.enc a.2.2) && true))) = true
    rw [pl_enc c a.1, pl_enc d a.2.1, pl_enc e a.2.2] <;> rfl
  | .option c, none => rfl
  | .option c, some x => pl_enc c x
theorem pl_encAll : ∀ (cs : List Codec) (a : Codec.denoteAll cs), plWs (Codec.encAll cs a) = true
  | [], _ => rfl
  | c :: cs, a => by
    show (plW (c.enc a.1) && plWs (Codec.encAll cs a.2)) = true
    rw [pl_enc c a.1, pl_encAll cs a.2] <;> rfl
theorem weight_mem : ∀ {xs : List WData} {d : WData}, d ∈ xs → d.weight ≤ WData.weightAll xs
  | [], d, h => absurd h (by simp)
  | x :: r, d, h => by
    show d.weight ≤ x.weight + 1 + WData.weightAll r
    rcases List.mem_cons.mp h with e | m
    · rw [e]
      omega
    · have z := weight_mem m
      omega
noncomputable def toV : Value → V
  | .none => .non
  | .bool b => .bl b
  | .int i _ => .int i
  | .str x _ => .str x
  | .bytes b _ => .byt b
  | .ref a => .ref a
  | _ => .non
noncomputable def OkU (A : List Addr) : Value → Prop
  | .none => True
  | .bool _ => True
  | .int _ _ => True
  | .str _ _ => True
  | .bytes _ _ => True
  | .ref a => a ∈ A
  | _ => False
theorem OkU.mono {A B : List Addr} (h : ∀ a ∈ A, a ∈ B) : ∀ {u : Value}, OkU A u → OkU B u := fun {u} x => by
  cases u with
  | ref a => exact h a x
  | none => trivial
  | bool b => trivial
  | int i t => trivial
  | str s t => trivial
  | bytes b t => trivial
  | _ => exact False.elim x
theorem relV_toV {A : List Addr} {u : Value} (x : OkU A u) : RelV (toV u) u := by
  cases u with
  | ref a => rfl
  | none => rfl
  | bool b => rfl
  | int i t => exact ⟨t, rfl⟩
  | str s t => exact ⟨t, rfl⟩
  | bytes b t => exact ⟨t, rfl⟩
  | _ => exact False.elim x
theorem vals_toV {A : List Addr} : ∀ {vs : List Value}, (∀ u ∈ vs, OkU A u) → Vals (vs.map toV) vs
  | [], _ => .nil
  | u :: r, h => .cons (relV_toV (h u (List.mem_cons_self ..))) (vals_toV fun x hx => h x (List.mem_cons_of_mem _ hx))
noncomputable def ArgOb (h : Heap) (A : List Addr) (a : Addr) : Prop := ∃ vs : List Value, vs.length ≤ sizeLine ∧ (∀ u ∈ vs, OkU A u) ∧
  (h.get? a = some { cls := .type "list", data := .seq vs.toArray } ∨ h.get? a = some { cls := .type "tuple", data := .seq vs.toArray })
theorem ArgOb.mono {h : Heap} {A B : List Addr} {a : Addr} (k : ∀ a ∈ A, a ∈ B) (x : ArgOb h A a) : ArgOb h B a := by
  obtain ⟨vs, h1, h2, h3⟩ := x
  exact ⟨vs, h1, fun u hu => (h2 u hu).mono k, h3⟩
theorem wellAll_len {P : Params} {h : Heap} : ∀ {vs : List Value} {ds : List WData}, WellAll P h vs ds → vs.length = ds.length
  | _, _, .nil => rfl
  | _, _, .cons _ b => by
    show _ + 1 = _ + 1
    rw [wellAll_len b]
theorem well_list {P : Params} {h : Heap} {v : Value} {ds : List WData} (x : Well P h v (.list ds)) : ∃ (a : Addr) (vs : List Value), v = .ref a ∧ h.get? a = some { cls := .type "list", data := .seq vs.toArray } ∧ WellAll P h vs ds := by
  cases x with
  | list ho hall => exact ⟨_, _, rfl, ho, hall⟩
theorem well_tuple {P : Params} {h : Heap} {v : Value} {ds : List WData} (x : Well P h v (.tuple ds)) : ∃ (a : Addr) (vs : List Value), v = .ref a ∧ h.get? a = some { cls := .type "tuple", data := .seq vs.toArray } ∧ WellAll P h vs ds := by
  cases x with
  | tuple ho hall => exact ⟨_, _, rfl, ho, hall⟩
theorem well_cons {P : Params} {h : Heap} {us : List Value} {d : WData} {ds : List WData} (x : WellAll P h us (d :: ds)) : ∃ (v : Value) (vs : List Value), us = v :: vs ∧ Well P h v d ∧ WellAll P h vs ds := by
  cases x with
  | cons a b => exact ⟨_, _, rfl, a, b⟩
theorem line_of {n : Nat} (h : n ≤ 1048576) : n ≤ sizeLine := Nat.le_trans h (by decide)
section
variable {P : Params} {h : Heap}
mutual
theorem area_one : ∀ (d : WData) (v : Value), Well P h v d → plW d = true → d.weight ≤ 1048576 → ∃ A : List Addr, OkU A v ∧ ∀ a ∈ A, ArgOb h A a
  | .none, _, x, _, _ => by
    cases x
    exact ⟨[], trivial, fun a m => absurd m (by simp)⟩
  | .bool b, _, x, _, _ => by
    cases x
    exact ⟨[], trivial, fun a m => absurd m (by simp)⟩
  | .int i, _, x, _, _ => by
    cases x
    exact ⟨[], trivial, fun a m => absurd m (by simp)⟩
  | .str s, _, x, _, _ => by
    cases x
    exact ⟨[], trivial, fun a m => absurd m (by simp)⟩
  | .bytes b, _, x, _, _ => by
    cases x
    exact ⟨[], trivial, fun a m => absurd m (by simp)⟩
  | .list ds, _, x, p, z => by
    obtain ⟨a, vs, rfl, ho, hall⟩ := well_list x
    have z2 : WData.weightAll ds ≤ 1048576 := z
    obtain ⟨A, h1, h2⟩ := area_all ds _ hall p fun d hd => Nat.le_trans (weight_mem hd) z2
    have k : ∀ b ∈ A, b ∈ a :: A := fun b hb => List.mem_cons_of_mem _ hb
    refine ⟨a :: A, List.mem_cons_self .., fun b hb => ?_⟩
    rcases List.mem_cons.mp hb with e | m
    · rw [e]
      exact ⟨vs, line_of (by rw [wellAll_len hall]; exact Nat.le_trans (PySem.W.length_le_weightAllW ds) z2), fun u hu => (h1 u hu).mono k, .inl ho⟩
    · exact (h2 b m).mono k
  | .tuple ds, _, x, p, z => by
    obtain ⟨a, vs, rfl, ho, hall⟩ := well_tuple x
    have z2 : WData.weightAll ds ≤ 1048576 := z
    obtain ⟨A, h1, h2⟩ := area_all ds _ hall p fun d hd => Nat.le_trans (weight_mem hd) z2
    have k : ∀ b ∈ A, b ∈ a :: A := fun b hb => List.mem_cons_of_mem _ hb
    refine ⟨a :: A, List.mem_cons_self .., fun b hb => ?_⟩
    rcases List.mem_cons.mp hb with e | m
    · rw [e]
      exact ⟨vs, line_of (by rw [wellAll_len hall]; exact Nat.le_trans (PySem.W.length_le_weightAllW ds) z2), fun u hu => (h1 u hu).mono k, .inr ho⟩
    · exact (h2 b m).mono k
  | .float _, _, _, p, _ => Bool.noConfusion (show false = true from p)
  | .dict _, _, _, p, _ => Bool.noConfusion (show false = true from p)
  | .bytearray _, _, _, p, _ => Bool.noConfusion (show false = true from p)
  | .set _, _, _, p, _ => Bool.noConfusion (show false = true from p)
  | .frozenset _, _, _, p, _ => Bool.noConfusion (show false = true from p)
  | .obj _ _, _, _, p, _ => Bool.noConfusion (show false = true from p)
theorem area_all : ∀ (ds : List WData) (vs : List Value), WellAll P h vs ds → plWs ds = true → (∀ d ∈ ds, d.weight ≤ 1048576) → ∃ A : List Addr, (∀ u ∈ vs, OkU A u) ∧ ∀ a ∈ A, ArgOb h A a
  | [], _, x, _, _ => by
    cases x
    exact ⟨[], fun u m => absurd m (by simp), fun a m => absurd m (by simp)⟩
  | d :: ds, _, x, p, z => by
    obtain ⟨v, vs, rfl, x1, x2⟩ := well_cons x
    have q : plW d = true ∧ plWs ds = true := Bool.and_eq_true_iff.mp p
    obtain ⟨A, a1, a2⟩ := area_one d v x1 q.1 (z d (List.mem_cons_self ..))
    obtain ⟨B, b1, b2⟩ := area_all ds vs x2 q.2 fun e he => z e (List.mem_cons_of_mem _ he)
    have kA : ∀ b ∈ A, b ∈ A ++ B := fun b hb => List.mem_append.mpr (.inl hb)
    have kB : ∀ b ∈ B, b ∈ A ++ B := fun b hb => List.mem_append.mpr (.inr hb)
    refine ⟨A ++ B, fun u hu => ?_, fun b hb => ?_⟩
    · rcases List.mem_cons.mp hu with e | m
      · rw [e]
        exact a1.mono kA
      · exact (b1 u m).mono kB
    · rcases List.mem_append.mp hb with m | m
      · exact (a2 b m).mono kA
      · exact (b2 b m).mono kB
end
end
noncomputable def hoOf (o : Obj) : Option HO := match o.data with
  | .seq vs _ => if (o.cls == Value.type "list") = true then some (.frz o (.lst (vs.toList.map toV))) else some (.frz o (.tup (vs.toList.map toV)))
  | _ => none
noncomputable def argH (K : PySem.W.Frag) (h : Heap) (A : List Addr) : Hp := fun b => if b ∈ A then (if (K.lookup b).isNone = true then (h.get? b).bind hoOf else none) else none
noncomputable def OnlyF (H : Hp) : Prop := ∀ b, H b = none ∨ ∃ o u, H b = some (.frz o u)
theorem hoOf_lst (vs : List Value) : hoOf { cls := .type "list", data := .seq vs.toArray } = some (.frz { cls := .type "list", data := .seq vs.toArray } (.lst (vs.map toV))) := by
  show (if (Value.type "list" == Value.type "list") = true then some (HO.frz { cls := .type "list", data := .seq vs.toArray } (.lst (vs.toArray.toList.map toV))) else some (HO.frz { cls := .type "list", data := .seq vs.toArray } (.tup (vs.toArray.toList.map toV)))) = _
  rw [if_pos (beq_self_eq_true _)]
theorem hoOf_tup (vs : List Value) : hoOf { cls := .type "tuple", data := .seq vs.toArray } = some (.frz { cls := .type "tuple", data := .seq vs.toArray } (.tup (vs.map toV))) := by
  show (if (Value.type "tuple" == Value.type "list") = true then some (HO.frz { cls := .type "tuple", data := .seq vs.toArray } (.lst (vs.toArray.toList.map toV))) else some (HO.frz { cls := .type "tuple", data := .seq vs.toArray } (.tup (vs.toArray.toList.map toV)))) = _
  rw [if_neg (by decide)]
section
variable {P : Program} {w : World} {K : PySem.W.Frag} {h : Heap} {A : List Addr}
theorem argH_at {b : Addr} {o : Obj} (hb : b ∈ A) (hk : K.lookup b = none) (e : h.get? b = some o) : argH K h A b = hoOf o := by
  unfold argH
  rw [if_pos hb, hk, if_pos (show (none : Option Obj).isNone = true from rfl), e] <;> rfl
theorem of_argH {b : Addr} {u : HO} (q : argH K h A b = some u) : b ∈ A ∧ K.lookup b = none := by
  unfold argH at q
  by_cases hb : b ∈ A
  · rw [if_pos hb] at q
    cases hk : K.lookup b with
    | none => exact ⟨hb, rfl⟩
    | some o =>
      rw [hk, if_neg (by simp)] at q
      cases q
  · rw [if_neg hb] at q
    cases q
theorem argH_is (ar : ∀ a ∈ A, ArgOb h A a) {b : Addr} {u : HO} (q : argH K h A b = some u) : K.lookup b = none ∧ ∃ vs : List Value, vs.length ≤ sizeLine ∧ (∀ u ∈ vs, OkU A u) ∧
    ((h.get? b = some { cls := .type "list", data := .seq vs.toArray } ∧ u = .frz { cls := .type "list", data := .seq vs.toArray } (.lst (vs.map toV))) ∨
     (h.get? b = some { cls := .type "tuple", data := .seq vs.toArray } ∧ u = .frz { cls := .type "tuple", data := .seq vs.toArray } (.tup (vs.map toV)))) := by
  obtain ⟨hb, hk⟩ := of_argH q
  obtain ⟨vs, h1, h2, h3⟩ := ar b hb
  refine ⟨hk, vs, h1, h2, ?_⟩
  rcases h3 with e | e
  · rw [argH_at hb hk e, hoOf_lst] at q
    exact .inl ⟨e, (Option.some.inj q).symm⟩
  · rw [argH_at hb hk e, hoOf_tup] at q
    exact .inr ⟨e, (Option.some.inj q).symm⟩
theorem argH_only (ar : ∀ a ∈ A, ArgOb h A a) : OnlyF (argH K h A) := fun b => by
  cases q : argH K h A b with
  | none => exact .inl rfl
  | some u =>
    obtain ⟨_, vs, _, _, ⟨_, e⟩ | ⟨_, e⟩⟩ := argH_is ar q
    · exact .inr ⟨_, _, by rw [e]⟩
    · exact .inr ⟨_, _, by rw [e]⟩
theorem argH_ok (ar : ∀ a ∈ A, ArgOb h A a) : HOk P w (argH K h A) h := fun b u q => by
  obtain ⟨_, vs, h1, h2, ⟨e, rfl⟩ | ⟨e, rfl⟩⟩ := argH_is ar q
  · exact ⟨e, by rw [List.length_map]; exact h1, vs, _, vals_toV h2, e⟩
  · exact ⟨e, by rw [List.length_map]; exact h1, vs, vals_toV h2, _, e, rfl, _, rfl⟩
theorem seq_inj {c c' : Value} {vs us : List Value} (e : (some { cls := c, data := .seq vs.toArray } : Option Obj) = some { cls := c', data := .seq us.toArray }) : c = c' ∧ vs = us := by
  have e1 := Option.some.inj e
  have e2 : c = c' := congrArg Obj.cls e1
  have e3 : Data.seq vs.toArray = Data.seq us.toArray := congrArg Obj.data e1
  injection e3 with e4
  refine ⟨e2, ?_⟩
  have e5 := congrArg Array.toList e4
  simpa using e5
theorem argL (KX : K.In h) (ar : ∀ a ∈ A, ArgOb h A a) {a : Addr} {vs : List Value} (ha : a ∈ A) (e : h.get? a = some { cls := .type "list", data := .seq vs.toArray }) : (∀ u ∈ vs, OkU A u) ∧ SqL K (argH K h A) a (vs.map toV) := by
  obtain ⟨us, h1, h2, h3⟩ := ar a ha
  have hu : us = vs := by
    rcases h3 with q | q
    · rw [e] at q
      exact (seq_inj q).2.symm
    · rw [e] at q
      exact absurd (Value.type.inj (seq_inj q).1) (by decide)
  subst hu
  refine ⟨h2, ?_⟩
  cases hk : K.lookup a with
  | none => exact .inl (.inr ⟨_, by rw [argH_at ha hk e, hoOf_lst]⟩)
  | some o =>
    have e2 := KX a o hk
    rw [e] at e2
    obtain rfl := Option.some.inj e2
    exact .inr ⟨_, us.toArray, _, hk, rfl, rfl, rfl, by rw [List.size_toArray]; exact h1, by simpa using vals_toV h2⟩
theorem argT (KX : K.In h) (ar : ∀ a ∈ A, ArgOb h A a) {a : Addr} {vs : List Value} (ha : a ∈ A) (e : h.get? a = some { cls := .type "tuple", data := .seq vs.toArray }) : (∀ u ∈ vs, OkU A u) ∧ SqT K (argH K h A) a (vs.map toV) := by
  obtain ⟨us, h1, h2, h3⟩ := ar a ha
  have hu : us = vs := by
    rcases h3 with q | q
    · rw [e] at q
      exact absurd (Value.type.inj (seq_inj q).1) (by decide)
    · rw [e] at q
      exact (seq_inj q).2.symm
  subst hu
  refine ⟨h2, ?_⟩
  cases hk : K.lookup a with
  | none => exact .inl (.inr ⟨_, by rw [argH_at ha hk e, hoOf_tup]⟩)
  | some o =>
    have e2 := KX a o hk
    rw [e] at e2
    obtain rfl := Option.some.inj e2
    exact .inr ⟨_, us.toArray, _, hk, rfl, rfl, by rw [List.size_toArray]; exact h1, by simpa using vals_toV h2⟩
mutual
theorem dw_one {Pm : Params} (KX : K.In h) (ar : ∀ a ∈ A, ArgOb h A a) : ∀ (d : WData) (v : Value), Well Pm h v d → plW d = true → OkU A v → Dw K (argH K h A) (toV v) d
  | .none, _, x, _, _ => by
    cases x
    exact .non
  | .bool b, _, x, _, _ => by
    cases x
    exact .bl b
  | .int i, _, x, _, _ => by
    cases x
    exact .int i
  | .str s, _, x, _, _ => by
    cases x
    exact .str s
  | .bytes b, _, x, _, _ => by
    cases x
    have z := Dw.byt (K := K) (H := argH K h A) b.toArray
    exact z
  | .list ds, _, x, p, hu => by
    obtain ⟨a, vs, rfl, ho, hall⟩ := well_list x
    obtain ⟨h2, hs⟩ := argL KX ar hu ho
    exact .lst hs (dw_all KX ar ds _ hall p h2)
  | .tuple ds, _, x, p, hu => by
    obtain ⟨a, vs, rfl, ho, hall⟩ := well_tuple x
    obtain ⟨h2, hs⟩ := argT KX ar hu ho
    exact .tup hs (dw_all KX ar ds _ hall p h2)
  | .float _, _, _, p, _ => Bool.noConfusion (show false = true from p)
  | .dict _, _, _, p, _ => Bool.noConfusion (show false = true from p)
  | .bytearray _, _, _, p, _ => Bool.noConfusion (show false = true from p)
  | .set _, _, _, p, _ => Bool.noConfusion (show false = true from p)
  | .frozenset _, _, _, p, _ => Bool.noConfusion (show false = true from p)
  | .obj _ _, _, _, p, _ => Bool.noConfusion (show false = true from p)
theorem dw_all {Pm : Params} (KX : K.In h) (ar : ∀ a ∈ A, ArgOb h A a) : ∀ (ds : List WData) (vs : List Value), WellAll Pm h vs ds → plWs ds = true → (∀ u ∈ vs, OkU A u) → DwAll K (argH K h A) (vs.map toV) ds
  | [], _, x, _, _ => by
    cases x
    exact .nil
  | d :: ds, _, x, p, hu => by
    obtain ⟨v, vs, rfl, x1, x2⟩ := well_cons x
    have q : plW d = true ∧ plWs ds = true := Bool.and_eq_true_iff.mp p
    exact .cons (dw_one KX ar d v x1 q.1 (hu _ (List.mem_cons_self ..))) (dw_all KX ar ds vs x2 q.2 fun u m => hu u (List.mem_cons_of_mem _ m))
end
end
theorem spec_call {P : Program} {w : World} {K : PySem.W.Frag} {mg mb : Str → Option Value} {CX : CXT} {k : Nat} {fa : Addr} {fd : FuncData} {ps : List Str} {sp : Sp} {s₁ : Shared} {vals : List Value} {ds : List WData} {R : PySem.W.WRecords} {cl : Str → Option Addr} {d0 : WData}
    (KX : K.In s₁.heap) (hns : s₁.heap.Ns mainGlobals mg) (hb : s₁.heap.Ns builtinsNs mb) (hbb : ∀ x : Str, x ≠ "__name__" → mb x = bootBuiltins x) (hlim : s₁.heap.NoLimit) (hg : s₁.gens = #[])
    (hwl : WellAll w.params s₁.heap vals ds) (hpl : plWs ds = true) (hwt : ∀ d ∈ ds, d.weight ≤ 1048576) (hr : Room k callerA)
    (F : ∀ base : Heap, K.In base → base.Ns mainGlobals mg → FnOk P w K mg base CX k fa fd ps sp) (hbind : ∀ (s : Shared) (us : List Value), us.length = ps.length → BindsTo s fd ⟨us, []⟩ (ps.zip us)) (hlen : ds.length = ps.length)
    (hsp : ∀ (H : Hp) (xs : List V), OnlyF H → DwAll K H xs ds → sp xs H (fun v H' => Dw K H' v d0) fun _ _ _ => False)
    (hCX : ∀ H e s', CX [] H s₁ (fun _ _ _ => False) e s' → False) :
    codeAny (model P w) callerA (.call (.ref fa) ⟨vals, []⟩) (fun r s' => ∃ u as, r = .ok (.ret u) ∧ ReadsW R cl s'.heap u d0 as ∧ OldK s₁.heap s'.heap ∧ s'.os = s₁.os ∧ AllBare s'.gens) s₁ := by
  obtain ⟨A, ho, ar⟩ := area_all ds vals hwl hpl hwt
  have hO : OnlyF (argH K s₁.heap A) := argH_only ar
  have hok : HOk P w (argH K s₁.heap A) s₁.heap := argH_ok ar
  have hS := dw_all KX ar ds vals hwl hpl ho
  have hV := vals_toV ho
  have hK : ∀ b u, argH K s₁.heap A b = some u → K.lookup b = none := fun b u q => (argH_is ar q).1
  have noA : ∀ {b : Addr} {o : Obj} {es : Array DictEntry} {ep : Nat}, s₁.heap.get? b = some o → o.data = .dict es ep → argH K s₁.heap A b = none := fun {b o es ep} e d => by
    cases q : argH K s₁.heap A b with
    | none => rfl
    | some u =>
      obtain ⟨_, vs, _, _, ⟨e2, _⟩ | ⟨e2, _⟩⟩ := argH_is ar q
      · rw [e2] at e
        cases e
        have d' : Data.seq vs.toArray _ = Data.dict es ep := d
        cases d'
      · rw [e2] at e
        cases e
        have d' : Data.seq vs.toArray _ = Data.dict es ep := d
        cases d'
  generalize argH K s₁.heap A = H at hO hok hS hK noA
  have base_of : ∀ {b : Addr} {o : Obj}, s₁.heap.get? b = some o → H b = none → (hidT s₁.heap H).get? b = some o := fun e n => hidT_get e n
  have nsK : ∀ {b : Addr} {m : Str → Option Value}, s₁.heap.Ns b m → (hidT s₁.heap H).Ns b m := fun {b m} ⟨o, es, ep, e, d, r⟩ => ⟨o, es, ep, base_of e (noA e d), d, r⟩
  have nK : ∀ b o, K.lookup b = some o → H b = none := fun b o e => by
    cases q : H b with
    | none => rfl
    | some u =>
      rw [hK b u q] at e
      cases e
  have hKb : K.In (hidT s₁.heap H) := fun b o e => base_of (KX b o e) (nK b o e)
  have hM : Mod K mg (hidT s₁.heap H) := ⟨hKb, nsK hns, ⟨mb, nsK hb, hbb⟩, let ⟨mc, h1, h2⟩ := hlim; ⟨mc, nsK h1, h2⟩⟩
  have e0 : Env0 P w K mg (hidT s₁.heap H) callerA [] s₁ H := ⟨rfl, hM, fun b o e => of_hidT e, Nat.le_of_eq (hidT_size _ _), trivial, fun b hb => absurd (show b ∈ ([] : List Addr) from hb) (by simp), hok, .of_eq hg⟩
  have hl : vals.length = ps.length := by rw [wellAll_len hwl]; exact hlen
  refine codeAny_mono ((F _ hKb (nsK hns)).run callerA [] s₁ H ⟨vals, []⟩ vals (vals.map toV) _ _ hr e0 (hbind s₁ vals hl) hV (hsp H _ hO hS)) fun r s' x => ?_
  cases r with
  | error e => exact (hCX H e s' x).elim
  | ok fl =>
    cases fl with
    | next => exact False.elim x
    | brk => exact False.elim x
    | cont => exact False.elim x
    | ret u =>
      obtain ⟨v, H', os, bare, un, hok', r', q⟩ := x
      have kept : ∀ b o, s₁.heap.get? b = some o → s'.heap.get? b = some o := fun b o e => by
        cases q2 : H b with
        | none => exact un.keep b o e q2 (by intro z; exact absurd (show b ∈ ([] : List Addr) from z) (by simp)) (by simp)
        | some u2 =>
          rcases hO b with z | ⟨ob, u3, z⟩
          · rw [q2] at z
            cases z
          · have z2 := un.frzs b ob _ z
            obtain ⟨e1, _⟩ := hok b _ z
            obtain ⟨e2, _⟩ := hok' b _ z2
            rw [e] at e1
            cases e1
            exact e2
      have KX' : K.In s'.heap := fun b o e => kept b o (KX b o e)
      obtain ⟨as, hrd⟩ := Dw.reads (R := R) (cl := cl) hok' KX' d0 v u q r'
      exact ⟨u, as, rfl, hrd, OldK.of_keep kept, os, bare⟩
theorem layable_weight {ds : List WData} (h : WData.layableAll ds = true) : ∀ d ∈ ds, d.weight ≤ 1048576 := fun d hd =>
  (PySem.W.layableW_iff.mp (List.all_eq_true.mp h d hd)).2.2
theorem encAll_len : ∀ (cs : List Codec) (a : Codec.denoteAll cs), (Codec.encAll cs a).length = cs.length
  | [], _ => rfl
  | c :: cs, a => by
    show (Codec.encAll cs a.2).length + 1 = cs.length + 1
    rw [encAll_len cs a.2]
theorem walk_spec {r : OpenSpec} {k : Nat} {q : Program} {loose : List Str} {XP : (Str → Option Value) → Heap → Prop} {YP : World → Heap → Prop} {d : DefRec} {K : Params → PySem.W.Frag} {CX : World → CXT} {ps : List Str} {sp : World → Sp}
    (hwell : r.wellSaid = true) (hdf : d.params.defaults = []) (hlen : r.args.length = ps.length) (hr : Room k callerA)
    (hY : ∀ (w : World) (h : Heap), YP w h → (K w.params).In h)
    (F : ∀ (w : World) (mg : Str → Option Value) (fa : Addr) (h : Heap), YP w h → (K w.params).In h → h.Ns mainGlobals mg → mg d.name = some (.ref fa) →
      ∃ fd : FuncData, (∀ (s : Shared) (us : List Value), us.length = ps.length → BindsTo s fd ⟨us, []⟩ (ps.zip us)) ∧
        ∀ base : Heap, (K w.params).In base → base.Ns mainGlobals mg → FnOk r.prog w (K w.params) mg base (CX w) k fa fd ps (sp w))
    (hsp : ∀ (w : World) (H : Hp) (xs : List V) (a : Codec.denoteAll r.args), OnlyF H → Codec.withinAll r.args a = true → Codec.app r.args r.asked a = true → DwAll (K w.params) H xs (Codec.encAll r.args a) →
      sp w xs H (fun v H' => Dw (K w.params) H' v (r.ret.enc (Codec.app r.args r.f a))) fun _ _ _ => False)
    (hCX : ∀ (w : World) (H : Hp) (s : Shared) (e : Value) (s' : Shared), CX w [] H s (fun _ _ _ => False) e s' → False) :
    PySem.W.WalkOS q loose XP YP r d [] (fun f vs => PySem.call f vs) := by
  intro w s_0 s₁ mg mb G Y fa o pm cd doc dV kV ho hd hcd hD hmg hg args vals as hpre hlay hrd hwl hlo
  obtain ⟨a, e1, e2⟩ := PySem.W.os_pre_some hpre
  obtain ⟨e3, hwi⟩ := Codec.encAll_of_decAll r.args args a e1
  subst e3
  have KX := hY w _ Y
  obtain ⟨fd, hb, hF⟩ := F w mg fa _ Y KX G.T.g hmg
  refine PySem.W.enter_call (codeAny_mono (spec_call (R := []) (cl := classAt s_0.heap) (d0 := r.ret.enc (Codec.app r.args r.f a)) KX G.T.g G.T.b G.T.builtins G.T.nolimit hg hwl (pl_encAll _ _) (layable_weight hlay) hr hF hb (by rw [encAll_len]; exact hlen)
    (fun H xs hO hS => hsp w H xs a hO hwi e2 hS) fun H e s' => hCX w H s₁ e s') fun r' s' hq => ?_)
  obtain ⟨u, as', rfl, h1, h2, h3, h4⟩ := hq
  exact ⟨.inl ⟨u, _, as', rfl, fun _ => rfl, h1, (OpenSpec.post_iff hwell hwi _ _).mpr rfl, fun z => Bool.noConfusion (show false = true from z)⟩, h2, h3, h4⟩
theorem walk_specK {r : OpenSpec} {k : Nat} {q : Program} {loose : List Str} {XP : (Str → Option Value) → Heap → Prop} {YP : World → Heap → Prop} {d : DefRec} {K : Params → PySem.W.Frag} {CX : CXT} {ps : List Str} {sp : PySem.W.Frag → Sp}
    (hwell : r.wellSaid = true) (hdf : d.params.defaults = []) (hlen : r.args.length = ps.length) (hr : Room k callerA)
    (hY : ∀ (w : World) (h : Heap), YP w h → (K w.params).In h)
    (F : ∀ (w : World) (mg : Str → Option Value) (fa : Addr) (h : Heap), YP w h → (K w.params).In h → h.Ns mainGlobals mg → mg d.name = some (.ref fa) →
      ∃ fd : FuncData, (∀ (s : Shared) (us : List Value), us.length = ps.length → BindsTo s fd ⟨us, []⟩ (ps.zip us)) ∧
        ∀ base : Heap, (K w.params).In base → base.Ns mainGlobals mg → FnOk r.prog w (K w.params) mg base CX k fa fd ps (sp (K w.params)))
    (hsp : ∀ (K : PySem.W.Frag) (H : Hp) (xs : List V) (a : Codec.denoteAll r.args), OnlyF H → Codec.withinAll r.args a = true → Codec.app r.args r.asked a = true → DwAll K H xs (Codec.encAll r.args a) →
      sp K xs H (fun v H' => Dw K H' v (r.ret.enc (Codec.app r.args r.f a))) fun _ _ _ => False)
    (hCX : ∀ (H : Hp) (s : Shared) (e : Value) (s' : Shared), CX [] H s (fun _ _ _ => False) e s' → False) :
    PySem.W.WalkOS q loose XP YP r d [] (fun f vs => PySem.call f vs) :=
  walk_spec (K := K) (CX := fun _ => CX) (sp := fun w => sp (K w.params)) hwell hdf hlen hr hY F (fun w H xs a h1 h2 h3 h4 => hsp (K w.params) H xs a h1 h2 h3 h4) fun _ H s e s' => hCX H s e s'
end L2
-- rests on (row put in by the clerk, for the bench that shows a file only what it spells): KE.SpHead KE.OsShapes
end
namespace L2
open PySem PySem.Spec PyProof.Rows
noncomputable def inClass (s : Stmt) (j : Nat) : Stmt := match s with
  | .ClassDef _ _ _ body _ _ _ _ _ _ _ => body.getD j (.Pass ⟨0, 0, 0, 0⟩)
  | _ => .Pass ⟨0, 0, 0, 0⟩
noncomputable def defArgs (s : Stmt) : Arguments := match s with
  | .FunctionDef _ a _ _ _ _ _ _ _ _ => a
  | _ => { posonlyargs := [], args := [], vararg := none, kwonlyargs := [], kw_defaults := [], kwarg := none, defaults := [] }
noncomputable def defBody (s : Stmt) : List Stmt := match s with
  | .FunctionDef _ _ b _ _ _ _ _ _ _ => b
  | _ => []
noncomputable def defScope (s : Stmt) : Scope := match s with
  | .FunctionDef _ _ _ _ _ _ sc _ _ _ => sc
  | _ => { kind := .function, names := [], isGenerator := false, isCoroutine := false }
noncomputable abbrev CX0 : CXT := fun _ _ _ _ _ _ => False
noncomputable abbrev E0 : XK := fun _ _ _ => False
theorem pass0 {X : Cx} : Passes CX0 X E0 := fun _ _ _ _ _ _ _ h => h.elim
structure Fun (K : PySem.W.Frag) (x qual : Str) (st : Stmt) (f : Addr) (fd : FuncData) : Prop where
  ex : ∃ (oc : Value) (od : Option Addr) (kV doc pm : Value) (an : Option Addr) (cdv ct : Value) (osl : Array (Option Value)),
    fd = PySem.W.fnOf x qual (defArgs st) (defBody st) (defScope st) .none kV doc pm an cdv ct ∧ K.lookup f = some ⟨oc, od, .func fd, osl⟩ ∧ PySem.W.codeIn K cdv qual = true
  kp : PySem.W.keepIn K (.ref f) = true
section
variable {P : Program} {w : World} {K : PySem.W.Frag} {mg : Str → Option Value} {base : Heap}
theorem Fun.ok {x qual : Str} {st : Stmt} {f : Addr} {fd : FuncData} {N ps : List Str} {k : Nat} {sp : Sp} (F : Fun K x qual st f fd) (S : FnScope N ps (defScope st)) (len : ∀ vs H Q E, sp vs H Q E → vs.length = ps.length)
    (hbody : ∀ (cdv : Value) (A : Around) (outer : List Env) (s : Shared) (H : Hp) (vs : List V) (Q : VK) (E : XK), Room k (A.deeper (envOfC qual (defScope st) s.heap.objs.size f cdv)) → sp vs H Q E →
      ∃ t, PSs (cxOf CX0 P w K mg base N qual (defScope st) f cdv A outer s H E).nox (defBody st) t ∧ t { nx := fun _ H' => Q .non H', rt := Q } (start N vs) H) : FnOk P w K mg base CX0 (k + 1) f fd ps sp := by
  obtain ⟨oc, od, kV, doc, pm, an, cdv, ct, osl, rfl, lk, hcd⟩ := F.ex
  refine fn_of lk hcd S len fun A outer s H vs Q E hr hsp => ?_
  obtain ⟨t, h, q⟩ := hbody cdv A outer s H vs Q E hr hsp
  exact ⟨t, h.nox, q⟩
theorem Fun.binds {x qual : Str} {st : Stmt} {f : Addr} {fd : FuncData} {ps : List Str} (F : Fun K x qual st f fd)
    (h : ∀ (kV doc pm : Value) (an : Option Addr) (cdv ct : Value) (us : List Value), us.length = ps.length → bindArgs (PySem.W.fnOf x qual (defArgs st) (defBody st) (defScope st) .none kV doc pm an cdv ct) ⟨us, []⟩ = pure (ps.zip us)) : Binds K fd ps [] := by
  obtain ⟨oc, od, kV, doc, pm, an, cdv, ct, osl, rfl, lk, hcd⟩ := F.ex
  exact .all (h kV doc pm an cdv ct)
theorem fun_mk {x qual : Str} {st : Stmt} {f : Addr} {oc : Value} {od an : Option Addr} {osl : Array (Option Value)} {kV doc pm cdv ct : Value} (l : K.lookup f = some ⟨oc, od, .func (PySem.W.fnOf x qual (defArgs st) (defBody st) (defScope st) .none kV doc pm an cdv ct), osl⟩)
    (c : PySem.W.codeIn K cdv qual = true) (k : PySem.W.keepIn K (.ref f) = true) : Fun K x qual st f (PySem.W.fnOf x qual (defArgs st) (defBody st) (defScope st) .none kV doc pm an cdv ct) := ⟨⟨oc, od, kV, doc, pm, an, cdv, ct, osl, rfl, l, c⟩, k⟩
end
theorem hu_of {A : Around} {k : Nat} (hr : Room k A) : A.units + 1 < cLine := Nat.lt_of_le_of_lt (Nat.add_le_add_left (by decide : 1 ≤ 64) _) hr.units
section
variable {X : Cx}
theorem pv (i : Nat) {x : Str} {pos : Pos} (hN : X.N[i]? = some x := by rfl) (hv : Vis X.env.scope x := by first | exact Or.inl rfl | exact Or.inr (Or.inl rfl) | exact Or.inr (Or.inr rfl)) (hd : (x == ("__debug__" : Str)) = false := by decide)
    (hcd : (x == ("__classdict__" : Str)) = false := by decide) : PE X (.Name x pos) (tVar i) := pe_var hN hv hd hcd
end
theorem ite2 {c A B : Prop} [Decidable c] (h1 : c → A) (h2 : ¬ c → B) : if c then A else B := by
  by_cases h : c
  · rw [if_pos h]
    exact h1 h
  · rw [if_neg h]
    exact h2 h
noncomputable def Same (H H' : Hp) : Prop := ∀ b o, H b = some o → H' b = some o
theorem Same.trans {H H1 H2 : Hp} (a : Same H H1) (b : Same H1 H2) : Same H H2 := fun c o h => b c o (a c o h)
theorem Same.free {H H' : Hp} (e : Same H H') {l : Addr} (h : H' l = Option.none) : H l = Option.none := by
  cases q : H l with
  | none => rfl
  | some o =>
    rw [e l o q] at h
    cases h
theorem Same.seq {K : PySem.W.Frag} {H H' : Hp} {a : Addr} {xs : List V} (e : Same H H') (h : SqL K H a xs) : SqL K H' a xs := by
  rcases h with (h | ⟨o, h⟩) | h
  · exact .inl (.inl (e _ _ h))
  · exact .inl (.inr ⟨o, e _ _ h⟩)
  · exact .inr h
theorem at_of {xs : List V} {z : Int} {j : Nat} {v : V} (e : z = (j : Int)) (h : xs[j]? = some v) : atI xs z = some v := by
  rw [e]
  exact atI_nat h
theorem Same.made {H H1 : Hp} {x dx C : Addr} (nx : H x = Option.none) (nd : H dx = Option.none) (k : ∀ b o, (upd (upd H dx (.own x)) x (.ins C dx [])) b = some o → b ≠ x → H1 b = some o) : Same H H1 := fun b o e =>
  k b o (by rw [upd_ne (ne_of_none e nx), upd_ne (ne_of_none e nd)]; exact e) (ne_of_none e nx)
end L2
section
set_option Elab.async false
set_option linter.all false
set_option maxRecDepth 100000
set_option maxHeartbeats 2000000
namespace L2
open PySem PySem.Spec PyProof.Rows
noncomputable def Young (X : Cx) (b : Addr) : Prop := b ∈ X.ex ∨ X.s_0.heap.get? b = none
section
variable {X : Cx} {pins : List (Addr × Obj)} {σ : List (Option V)} {H H' : Hp} {s : Shared} {h' : Heap}
theorem Inv.stepN {g' : Array GenState} {t' : Nat} {d' : Drawn} {ch : List Addr} (I : Inv X pins σ H s)
    (hch : ∀ b ∈ ch, Young X b ∧ b ≠ X.env.locals ∧ (∀ x c, X.env.cells.lookup x = some c → c ≠ b) ∧ ∀ p ∈ X.pn ++ pins, p.1 ≠ b)
    (keep : ∀ b o, b ≠ X.env.locals → b ∉ X.fs → b ∉ ch → s.heap.get? b = some o → H b = none → h'.get? b = some o)
    (slot : ∀ b o, b ≠ X.env.locals → b ∈ X.fs → b ∉ ch → s.heap.get? b = some o → H b = none → ∃ sl, h'.get? b = some { o with slots := sl }) (free : ∀ b o, b ∉ ch → s.heap.get? b = some o → H b = none → H' b = none)
    (there : ∀ b o, b ∉ ch → s.heap.get? b = some o → ∃ o', h'.get? b = some o')
    (tups : ∀ b xs, H b = some (.tup xs) → H' b = some (.tup xs)) (frzs : ∀ b o u, H b = some (.frz o u) → H' b = some (.frz o u)) (tbls : ∀ b ps, H b = some (.tbl ps) → ∃ more, H' b = some (.tbl (ps ++ more)))
    (ns : ∀ m, s.heap.Ns X.env.locals m → h'.Ns X.env.locals m) (hok : HOk X.prog X.w H' h') (hg : AllBare g') :
    Inv X pins σ H' { s with heap := h', gens := g', drawn := d', toks := t' } := by
  have neL : ∀ b o, X.s_0.heap.get? b = some o → b ≠ X.env.locals := fun b o e => Nat.ne_of_lt (Nat.lt_of_lt_of_le (Heap.lt_size e) I.ok.above)
  have neC : ∀ b o, X.s_0.heap.get? b = some o → b ∉ X.ex → b ∉ ch := fun b o e hx hb => by
    rcases (hch b hb).1 with z | z
    · exact hx z
    · rw [e] at z; cases z
  have cellK : ∀ x c, X.env.cells.lookup x = some c → ∀ v, s.heap.IsCell c v → h'.IsCell c v := fun x c e v ⟨o, ho, hd⟩ => by
    have nch : c ∉ ch := fun z => (hch c z).2.2.1 x c e rfl
    by_cases hc : c ∈ X.fs
    · obtain ⟨sl, q⟩ := slot c o (I.cne x c e) hc nch ho (I.freeC x c e)
      exact ⟨_, q, hd⟩
    · exact ⟨o, keep c o (I.cne x c e) hc nch ho (I.freeC x c e), hd⟩
  refine ⟨I.ok, I.os, hg, ⟨fun b o e n hb hx => ?_, fun b o e n hb hx => ?_, fun b o e n hx => ?_, fun b o e hx => ?_, fun b xs e => tups b xs (I.base.tups b xs e), fun b o xs e => frzs b o xs (I.base.frzs b o xs e), fun b ps e => ?_⟩, ?_, fun x c e => ?_, ?_, fun x c e => ?_, fun p hp => ?_, hok, I.len⟩
  · exact keep b o (neL b o e) hb (neC b o e hx) (I.base.keep b o e n hb hx) (I.base.free b o e n hx)
  · obtain ⟨sl, e1⟩ := I.base.slot b o e n hb hx
    obtain ⟨sl', e2⟩ := slot b _ (neL b o e) hb (neC b o e hx) e1 (I.base.free b o e n hx)
    exact ⟨sl', e2⟩
  · obtain ⟨o', e1⟩ := I.base.there b o e hx
    exact free b o' (neC b o e hx) e1 (I.base.free b o e n hx)
  · obtain ⟨o', e1⟩ := I.base.there b o e hx
    exact there b o' (neC b o e hx) e1
  · obtain ⟨m1, e1⟩ := I.base.tbls b ps e
    obtain ⟨m2, e2⟩ := tbls b _ e1
    exact ⟨m1 ++ m2, by rw [e2, Array.append_assoc]⟩
  · obtain ⟨m, hn, hl⟩ := I.loc
    refine ⟨m, ns m hn, fun i x v e1 e2 e3 => ?_⟩
    obtain ⟨u, r, l⟩ := hl i x v e1 e2 e3
    refine ⟨u, r, ?_⟩
    rcases l with l | ⟨k, c, e, z⟩
    · exact .inl l
    · exact .inr ⟨k, c, e, cellK x c e _ z⟩
  · obtain ⟨v, z⟩ := I.cell x c e
    exact ⟨v, cellK x c e v z⟩
  · obtain ⟨m, ⟨o, _, _, ho, _⟩, _⟩ := I.loc
    exact free _ o (fun z => (hch _ z).2.1 rfl) ho I.free
  · obtain ⟨v, o, ho, hd⟩ := I.cell x c e
    exact free c o (fun z => (hch c z).2.2.1 x c e rfl) ho (I.freeC x c e)
  · obtain ⟨e, n, ne, nf, d⟩ := I.pin p hp
    have nch : p.1 ∉ ch := fun z => (hch p.1 z).2.2.2 p hp rfl
    exact ⟨keep p.1 p.2 ne nf nch e n, free p.1 p.2 nch e n, ne, nf, d⟩
end
noncomputable def Fly (yg : Addr → Prop) (H : Hp) (h : Heap) (e : Addr) (cls : Value) (tr : Bool) : Prop :=
  ∃ oe vs, h.get? e = some oe ∧ oe.cls = cls ∧ oe.data = .fields vs ∧ 1 < vs.size ∧ H e = none ∧ yg e ∧
    ((tr = false ∧ vs[1]? = some Value.none) ∨ ∃ T oT ts x, vs[1]? = some (Value.ref T) ∧ T ≠ e ∧ h.get? T = some oT ∧ oT.data = .fields ts ∧ ts[3]? = some x ∧ H T = none ∧ yg T)
theorem Fly.mono {yg yg' : Addr → Prop} {H : Hp} {h : Heap} {e : Addr} {cls : Value} {tr : Bool} (f : Fly yg H h e cls tr) (k : ∀ b, yg b → yg' b) : Fly yg' H h e cls tr := by
  obtain ⟨oe, vs, a1, a2, a3, a4, a5, a6, a7⟩ := f
  refine ⟨oe, vs, a1, a2, a3, a4, a5, k _ a6, ?_⟩
  rcases a7 with a7 | ⟨T, oT, ts, x, b1, b2, b3, b4, b5, b6, b7⟩
  · exact .inl a7
  · exact .inr ⟨T, oT, ts, x, b1, b2, b3, b4, b5, b6, k _ b7⟩
theorem Fly.weak {yg : Addr → Prop} {H : Hp} {h : Heap} {e : Addr} {cls : Value} {tr : Bool} (f : Fly yg H h e cls tr) : Fly yg H h e cls false := by
  obtain ⟨oe, vs, a1, a2, a3, a4, a5, a6, a7⟩ := f
  refine ⟨oe, vs, a1, a2, a3, a4, a5, a6, ?_⟩
  rcases a7 with a7 | a7
  · exact .inl ⟨rfl, a7.2⟩
  · exact .inr a7
theorem Fly.keeps {yg : Addr → Prop} {H : Hp} {h h' : Heap} {e : Addr} {cls : Value} {tr : Bool} (f : Fly yg H h e cls tr) (k : ∀ b o vs, h.get? b = some o → o.data = .fields vs → h'.get? b = some o) : Fly yg H h' e cls tr := by
  obtain ⟨oe, vs, a1, a2, a3, a4, a5, a6, a7⟩ := f
  refine ⟨oe, vs, k _ _ _ a1 a3, a2, a3, a4, a5, a6, ?_⟩
  rcases a7 with a7 | ⟨T, oT, ts, x, b1, b2, b3, b4, b5, b6, b7⟩
  · exact .inl a7
  · exact .inr ⟨T, oT, ts, x, b1, b2, k _ _ _ b3 b4, b4, b5, b6, b7⟩
theorem HOk.there {P : Program} {w : World} {H : Hp} {h : Heap} {a : Addr} {o : HO} (x : HOk P w H h) (q : H a = some o) : ∃ u, h.get? a = some u := by
  have y := x a o q
  cases o with
  | lst xs => obtain ⟨_, _, _, _, e⟩ := y; exact ⟨_, e⟩
  | tup xs => obtain ⟨_, _, _, ob, e, _⟩ := y; exact ⟨_, e⟩
  | dK kvs => obtain ⟨_, _, _, _, o, _, _, e, _⟩ := y; exact ⟨_, e⟩
  | dT kvs => obtain ⟨_, _, _, _, o, _, _, e, _⟩ := y; exact ⟨_, e⟩
  | set S n => obtain ⟨o, _, _, _, e, _⟩ := y; exact ⟨_, e⟩
  | ins C dx fs => obtain ⟨_, _, _, e, _⟩ := y; exact ⟨_, e⟩
  | own z => obtain ⟨_, e⟩ := y; exact ⟨_, e⟩
  | xd fs => obtain ⟨_, ⟨_, _, _, e, _⟩, _⟩ := y; exact ⟨_, e⟩
  | rng lo hi => obtain ⟨_, _, _, e⟩ := y; exact ⟨_, e⟩
  | frz ob u => obtain ⟨e, _⟩ := y; exact ⟨_, e⟩
  | tbl ps => exact ⟨_, show h.get? a = some _ from y⟩
  | met f z => exact ⟨_, show h.get? a = some _ from y⟩
  | ext φ => obtain ⟨_, e, _⟩ := y; exact e
section
variable {X : Cx} {σ : St} {H : Hp} {s : Shared}
theorem Inv.chg {h' : Heap} {ch : List Addr} (I : Inv X [] σ H s) (hpn : X.pn = []) (hch : ∀ b ∈ ch, H b = none ∧ Young X b ∧ ∃ o vs, s.heap.get? b = some o ∧ o.data = .fields vs)
    (hin : ∀ b ∈ ch, ∃ o, h'.get? b = some o)
    (keep : ∀ b o, b ∉ frs X.stack → b ∉ ch → s.heap.get? b = some o → h'.get? b = some o)
    (slot : ∀ b o, b ∈ frs X.stack → b ∉ ch → s.heap.get? b = some o → ∃ sl, h'.get? b = some { o with slots := sl }) : Inv X [] σ H { s with heap := h' } := by
  have any : ∀ b o, b ∉ ch → s.heap.get? b = some o → ∃ sl, h'.get? b = some { o with slots := sl } := fun b o hb q => by
    by_cases hf : b ∈ frs X.stack
    · exact slot b o hf hb q
    · exact ⟨o.slots, keep b o hf hb q⟩
  have hloc : ∀ b ∈ ch, b ≠ X.env.locals := fun b hb z => by
    obtain ⟨_, _, o, vs, q, d⟩ := hch b hb
    obtain ⟨m, ⟨oL, es, ep, qL, dL, _⟩, _⟩ := I.loc
    rw [z, qL] at q
    cases q
    rw [dL] at d
    cases d
  refine I.stepN (g' := s.gens) (d' := s.drawn) (t' := s.toks) (ch := ch) (fun b hb => ⟨(hch b hb).2.1, hloc b hb, fun x c e z => ?_, fun p hp => ?_⟩) (fun b o hL hf hb q _ => keep b o (fun z => ?_) hb q) (fun b o _ _ hb q _ => any b o hb q) (fun _ _ _ _ n => n)
    (fun b o hb q => let ⟨sl, z⟩ := any b o hb q; ⟨_, z⟩) (fun _ _ e => e) (fun _ _ _ e => e) (fun b ps e => ⟨#[], by rw [e]; simp⟩) (fun m hm => ?_) (fun b u e => ?_) I.bare
  · obtain ⟨_, _, o, vs, q, d⟩ := hch b hb
    obtain ⟨v, oc, qc, dc⟩ := I.cell x c e
    rw [z, q] at qc
    cases qc
    rw [d] at dc
    cases dc
  · rw [hpn] at hp
    exact absurd (show p ∈ ([] : List (Addr × Obj)) ++ [] from hp) (by simp)
  · rcases List.mem_cons.mp (I.stkSub b z) with y | y
    · exact hL y
    · exact hf y
  · obtain ⟨o, es, ep, ho, r⟩ := hm
    obtain ⟨sl, q⟩ := any _ o (fun z => hloc _ z rfl) ho
    exact ⟨_, es, ep, q, r⟩
  · have fr : ∀ c v, H c = some v → c ∉ frs X.stack ∧ c ∉ ch := fun c v q => ⟨fun z => (by rw [I.stkFree c z] at q; cases q), fun z => (by rw [(hch c z).1] at q; cases q)⟩
    refine (I.hok b u e).stay (fun c v hc q => ?_) (fun _ q => q) fun _ _ q => q
    rcases hc with z | z
    · subst z
      exact keep c v (fr c _ e).1 (fr c _ e).2 q
    · exact keep c v (fr c _ z).1 (fr c _ z).2 q
variable {e L : Addr} {cls : Value} {tr : Bool} {env0 env1 : Env} {out : List Env} {E : Value → Shared → Prop} {Q : Unit → Shared → Prop}
theorem Inv.noframe (I : Inv X [] σ H s) {b : Addr} {o : Obj} {vs : Array Value} (q : s.heap.get? b = some o) (d : o.data = .fields vs) : b ∉ frs X.stack := fun z => by
  obtain ⟨_, o', q', d'⟩ := I.stack.mem z
  rw [q] at q'
  cases q'
  exact d' vs d
theorem Inv.young (I : Inv X [] σ H s) {b : Addr} (q : s.heap.get? b = none) : Young X b := by
  by_cases hb : b ∈ X.ex
  · exact .inl hb
  · refine .inr ?_
    cases z : X.s_0.heap.get? b with
    | none => rfl
    | some o =>
      obtain ⟨o', y⟩ := I.base.there b o z hb
      rw [q] at y
      cases y
theorem entry_ok {oe : Obj} {vs : Array Value} {head : Value} {had : Bool} (I : Inv X [] σ H s) (hpn : X.pn = []) (hst : X.stack = env1 :: out) (h1 : env1.frame = some L) (h0 : env0.frame = some L)
    (he : s.heap.get? e = some oe) (hc : oe.cls = cls) (hd : oe.data = .fields vs) (hz : 1 < vs.size) (hn : H e = none) (hy : Young X e)
    (k : ∀ h', Inv X [] σ H { s with heap := h' } → Fly (Young X) H h' e cls true → Q () { s with heap := h' }) :
    wpAny (model X.prog X.w) X.A (do let a ← PySem.frameOf env0; let pl ← entryPlaceOf L had; let b ← EntryCells.newEntry head a .none (rawInt L) .none pl; setField (.ref e) 1 b) Q E s := by
  unfold PySem.frameOf
  refine wpAny_bind (wpAny_bind (wpAny_frameEnvs I.ok.frames ?_))
  have hdw : (X.stack.dropWhile fun x => x.frame != env0.frame) = env1 :: out := by
    rw [hst, h0]
    simp [List.dropWhile, h1]
  rw [hdw]
  have ff := I.stack
  have fe := I.noframe he hd
  rw [hst] at ff
  unfold frameObject
  refine wpAny_bind (wpAny_bind (wpAny_readyFrames_fun ff fun g1 so => wpAny_pure ?_))
  rw [h1]
  refine wpAny_pure ?_
  have so : Heap.SlotsOnly (frs X.stack) s.heap g1 := by rw [hst]; exact so
  refine wpAny_bind (wpAny_entryPlaceOf fun pl hpl => ?_)
  unfold EntryCells.newEntry newFields
  refine wpAny_bind (wpAny_newObj_type ?_ (hpl.sizeOk5 _ _ _ _ _))
  have e1 : g1.get? e = some oe := (so.2.1 e fe).trans he
  generalize hob : ({ cls := .type "traceback", dict := none, data := .fields ([head, Value.ref L, .none, rawInt L, .none] ++ (if pl.isEmpty then List.replicate 6 Value.none else pl)).toArray } : Obj) = ob
  have e2 : (g1.push ob).get? e = some oe := Heap.get?_push_of_some _ e1
  have hlt : e < g1.objs.size := Heap.lt_size e1
  refine wpAny_setField e2 hd hz (k _ ?_ ?_)
  · refine I.chg (ch := [e]) hpn (fun b hb => ?_) (fun b hb => ?_) (fun b o hf hb q => ?_) (fun b o hf hb q => ?_)
    · have z : b = e := by simpa using hb
      subst z
      exact ⟨hn, hy, oe, vs, he, hd⟩
    · have z : b = e := by simpa using hb
      subst z
      exact ⟨_, Heap.get?_update_self _ e2 (Obj.isFreed_of_fields (Obj.data_mapFields hd _))⟩
    · have z : e ≠ b := fun y => hb (by simp [y])
      rw [Heap.get?_update_other _ _ z]
      exact Heap.get?_push_of_some _ ((so.2.1 b hf).trans q)
    · have z : e ≠ b := fun y => hb (by simp [y])
      obtain ⟨sl, y⟩ := so.2.2 b o q
      refine ⟨sl, ?_⟩
      rw [Heap.get?_update_other _ _ z]
      exact Heap.get?_push_of_some _ y
  · have hT : g1.objs.size ≠ e := Nat.ne_of_gt hlt
    have hs : g1.objs.size = s.heap.objs.size := so.1
    have d3 := Obj.data_mapFields hd (·.setIfInBounds 1 (Value.ref g1.objs.size))
    refine ⟨_, _, Heap.get?_update_self _ e2 (Obj.isFreed_of_fields d3), (Obj.cls_mapFields _ _).trans hc, d3, by simpa using hz, hn, hy, .inr ⟨g1.objs.size, ob, _, rawInt L, by simp [hz], hT, ?_, by rw [← hob], ?_, ?_, ?_⟩⟩
    · rw [Heap.get?_update_other _ _ (Ne.symm hT)]
      refine Heap.get?_push_size _ ?_
      rw [← hob]
      rfl
    · simp
    · rw [hs]
      exact I.hok.fresh (Nat.le_refl _)
    · rw [hs]
      exact I.young (Heap.get?_none_of_le (Nat.le_refl _))
theorem note_ok (I : Inv X [] σ H s) (hpn : X.pn = []) (hst : X.stack = env1 :: out) (h1 : env1.frame = some L) (h0 : env0.frame = some L) (F : Fly (Young X) H s.heap e cls tr)
    (k : ∀ h', Inv X [] σ H { s with heap := h' } → Fly (Young X) H h' e cls true → Q () { s with heap := h' }) : wpAny (model X.prog X.w) X.A (noteFrame (.ref e) env0) Q E s := by
  obtain ⟨oe, vs, he, hc, hd, hz, hn, hy, hT⟩ := F
  unfold noteFrame
  simp only [h0]
  rcases hT with ⟨_, hv⟩ | ⟨T, oT, ts, x, hv, hne, hT, hdT, h3, hnT, hyT⟩
  · refine wpAny_bind (wpAny_field he hd hv ?_)
    rw [if_neg (by decide)]
    exact entry_ok I hpn hst h1 h0 he hc hd hz hn hy k
  · refine wpAny_bind (wpAny_field he hd hv ?_)
    rw [if_pos (show (Value.ref T != Value.none) = true from by simp)]
    refine wpAny_bind (wpAny_field hT hdT h3 ?_)
    by_cases hx : (x == rawInt L) = true
    · rw [if_pos hx]
      exact wpAny_pure (k s.heap I ⟨oe, vs, he, hc, hd, hz, hn, hy, .inr ⟨T, oT, ts, x, hv, hne, hT, hdT, h3, hnT, hyT⟩⟩)
    · rw [if_neg hx]
      refine wpAny_bind (wpAny_setField hT hdT (Array.getElem?_eq_some_iff.mp h3).1 ?_)
      have I1 : Inv X [] σ H { s with heap := s.heap.update T (Obj.mapFields (·.setIfInBounds 3 Value.none)) } := by
        refine I.chg (ch := [T]) hpn (fun b hb => ?_) (fun b hb => ?_) (fun b o hf hb q => ?_) (fun b o hf hb q => ⟨o.slots, ?_⟩)
        · have z : b = T := by simpa using hb
          subst z
          exact ⟨hnT, hyT, oT, ts, hT, hdT⟩
        · have z : b = T := by simpa using hb
          subst z
          exact ⟨_, Heap.get?_update_self _ hT (Obj.isFreed_of_fields (Obj.data_mapFields hdT _))⟩
        · rw [Heap.get?_update_other _ _ (fun y : T = b => hb (by simp [y]))]
          exact q
        · rw [Heap.get?_update_other _ _ (fun y : T = b => hb (by simp [y]))]
          exact q
      have he1 : (s.heap.update T (Obj.mapFields (·.setIfInBounds 3 Value.none))).get? e = some oe := (Heap.get?_update_other _ _ hne).trans he
      exact entry_ok I1 hpn hst h1 h0 he1 hc hd hz hn hy k
theorem flight_ok {fr : Option Addr} (I : Inv X [] σ H s) (hpn : X.pn = []) (F : Fly (Young X) H s.heap e cls tr)
    (k : ∀ h', Inv X [] σ H { s with heap := h' } → Fly (Young X) H h' e cls tr → Q () { s with heap := h' }) : wpAny (model X.prog X.w) X.A (setFlight (.ref e) fr) Q E s := by
  obtain ⟨oe, vs, he, hc, hd, hz, hn, hy, hT⟩ := F
  unfold setFlight
  rcases hT with ⟨ht, hv⟩ | ⟨T, oT, ts, x, hv, hne, hT, hdT, h3, hnT, hyT⟩
  · refine wpAny_bind (wpAny_field he hd hv ?_)
    rw [if_neg (by decide)]
    exact wpAny_pure (k s.heap I ⟨oe, vs, he, hc, hd, hz, hn, hy, .inl ⟨ht, hv⟩⟩)
  · refine wpAny_bind (wpAny_field he hd hv ?_)
    rw [if_pos (show (Value.ref T != Value.none) = true from by simp)]
    have hz3 := (Array.getElem?_eq_some_iff.mp h3).1
    generalize (fr.elim Value.none fun f => rawInt f) = v
    refine wpAny_setField hT hdT hz3 (k _ ?_ ?_)
    · refine I.chg (ch := [T]) hpn (fun b hb => ?_) (fun b hb => ?_) (fun b o hf hb q => ?_) (fun b o hf hb q => ⟨o.slots, ?_⟩)
      · have z : b = T := by simpa using hb
        subst z
        exact ⟨hnT, hyT, oT, ts, hT, hdT⟩
      · have z : b = T := by simpa using hb
        subst z
        exact ⟨_, Heap.get?_update_self _ hT (Obj.isFreed_of_fields (Obj.data_mapFields hdT _))⟩
      · rw [Heap.get?_update_other _ _ (fun y : T = b => hb (by simp [y]))]
        exact q
      · rw [Heap.get?_update_other _ _ (fun y : T = b => hb (by simp [y]))]
        exact q
    · have d3 := Obj.data_mapFields hdT (·.setIfInBounds 3 v)
      exact ⟨oe, vs, (Heap.get?_update_other _ _ hne).trans he, hc, hd, hz, hn, hy, .inr ⟨T, _, _, v, hv, hne, Heap.get?_update_self _ hT (Obj.isFreed_of_fields d3), d3, by simp [hz3], hnT, hyT⟩⟩
end
noncomputable def XR (X : Cx) (E : XK) : Prop := ∀ (σ : St) (H : Hp) (s : Shared) (e : Addr) (cls : Value), Inv X [] σ H s → Fly (Young X) H s.heap e cls false → E cls none H → X.xe (.ref e) s
noncomputable def CXN (P : Program) (w : World) : CXT := fun outer H s E e s' => ∃ a H' cls, e = .ref a ∧ s'.os = s.os ∧ AllBare s'.gens ∧ Un (frs outer) [] H H' s.heap s'.heap ∧ HOk P w H' s'.heap ∧ Fly (fun b => s.heap.get? b = none) H' s'.heap a cls false ∧ E cls none H'
theorem xr_def {P : Program} {w : World} {K : PySem.W.Frag} {mg : Str → Option Value} {base : Heap} {N : List Str} {qual : Str} {scope : Scope} {f : Addr} {cd : Value} {A : Around} {outer : List Env} {s : Shared} {H : Hp} {E : XK} :
    XR (cxOf (CXN P w) P w K mg base N qual scope f cd A outer s H E) E := by
  intro σ H' s' e cls I F hE
  show wpAny _ _ (leaving _ (.ref e)) _ _ s'
  unfold leaving
  refine wpAny_bind (note_ok I rfl rfl rfl rfl F fun g1 I1 F1 => flight_ok I1 rfl F1.weak fun g2 I2 F2 => ?_)
  refine ⟨e, H', cls, rfl, I2.os, I2.bare, I2.base, I2.hok, F2.mono fun b hb => ?_, hE⟩
  rcases hb with z | z
  · exact absurd (show b ∈ ([] : List Addr) from z) (by simp)
  · exact z
theorem passN {X : Cx} {E : XK} (xr : XR X E) : Passes (CXN X.prog X.w) X E := by
  rintro pins σ H s e s' I ⟨a, H', cls, rfl, os, bare, un, hok, F, hE⟩
  have I0 : Inv X [] σ H s := I.pins_of fun p hp => absurd hp (by simp)
  have I1 : Inv X [] σ H' s' := I0.call' (ch := []) os un hok bare fun b hb => absurd hb (by simp)
  exact xr σ H' s' a cls I1 (F.mono fun b hb => I0.young hb) hE
theorem exc_obj {K : PySem.W.Frag} {h : Heap} {mg : Str → Option Value} {C : Addr} {bmB : List Value} {newId : String} (X : K.In h) (q : PySem.W.excIn K C bmB newId = true) :
    ∃ bm N nm qn bs hdct sn sub ab col dd k0 k1 k2 k3 k5 mN, h.get? C = some (excClassObj nm qn C N bs bm hdct sn sub ab col dd k0 k1 k2 k3 k5 newId) ∧ h.Ns N mN ∧ mN "__init__" = none ∧ OwnTail h bmB bm := by
  unfold PySem.W.excIn at q
  split at q
  · rename_i dd cd sl ho
    split at q
    · rename_i C' bm k0 k1 k2 k3 n k5 hm hs
      simp only [Bool.and_eq_true, beq_iff_eq, Bool.not_eq_true'] at q
      obtain ⟨⟨⟨⟨⟨e1, e2⟩, hdel⟩, ht⟩, hok⟩, hni⟩ := q
      obtain ⟨nm, bs, mro, ns, qn, hd, sn, sub, ab, col, del⟩ := cd
      dsimp only at hm hdel hok hni
      subst hm hdel e1 e2
      obtain ⟨l⟩ := sl
      simp only at hs
      subst hs
      exact ⟨bm, ns, nm, qn, bs, hd, sn, sub, ab, col, dd, k0, k1, k2, k3, k5, _, X _ _ ho, .of_isNs (PySem.W.isNs_of_in X hok), PySem.W.nsMap_none_of_in X hok hni, PySem.W.tail_of_in X ht⟩
    · cases q
  · cases q
noncomputable def tRaise (t : TA) (E : XK) (C : Addr) : TS := fun _ σ H => t σ H fun vs H1 => vs.length ≤ sizeLine ∧ E (.ref C) none H1
theorem ps_raise {X : Cx} {E : XK} {x : Str} {C : Addr} {bmB : List Value} {newId initId B : String} {e₀ : Expr} {rest : List Expr} {t : TA} {np cpos pos : Pos} (xr : XR X E) (hc : X.calm = true) (hg : Gl X x) (hm : X.mg x = some (.ref C))
    (q : PySem.W.excIn X.K C bmB newId = true) (FB : ExcBaseFacts B newId initId bmB) (ha : PA X (e₀ :: rest) t) (hdb : (x == ("__debug__" : Str)) = false := by decide)
    (he : starEach (e₀ :: rest) X.env = (false, eval e₀ X.env) :: starEach rest X.env := by rfl) (hpl : (backTo cpos (starEach rest X.env)).any (·.1) = false := by rfl) :
    PS X (.Raise (some (.Call (.Name x np) (e₀ :: rest) [] cpos)) none pos) (tRaise t E C) := by
  intro pins s σ H D I h
  obtain ⟨bm, N, nm, qn, bs, hdct, sn, sub, ab, col, dd, k0, k1, k2, k3, k5, mN, hC, hN, hni, TL⟩ := exc_obj (mg := X.mg) I.ok.mod.kin q
  have hall : (backTo cpos (starEach (e₀ :: rest) X.env)).any (·.1) = false := by
    rw [he]
    show (false || (backTo cpos (starEach rest X.env)).any (·.1)) = false
    rw [hpl]
    rfl
  refine wpAny_Raise_call_subT (C := C) (nm := nm) (q := qn) (N := N) (bs := bs) (bm := bm) (hdct := hdct) (sn := sn) (sub := sub) (ab := ab) (col := col) (dd := dd) (k0 := k0) (k1 := k1) (k2 := k2) (k3 := k3) (k5 := k5) FB (mN := mN) (TL.hasType FB.hasBase) (I.ok.hd hc) hall hni (ld_glob I hg hm ⟨rfl, ?_⟩ hdb)
  have hs := ha cpos pins s σ H _ I h
  rw [he] at hs ⊢
  refine Calls.evalArgs_plain (thn hs fun vs s2 ⟨xs, H2, I2, r2, hl, hE⟩ => ⟨rfl, by rw [← r2.length]; exact hl, I2.bk _ _ hC, hN.keeps I2.bk, TL.keeps I2.bk, fun h' ex hx => ?_⟩)
  have I3 : Inv X [] σ H2 { s2 with heap := h' } := (I2.kept (t' := s2.toks) hx.keeps).pins_of fun p hp => absurd hp (by simp)
  obtain ⟨tp, ht, _, _⟩ := hx.there
  refine xr σ H2 { s2 with heap := h' } ex (.ref C) I3 ⟨_, _, ht, rfl, rfl, by show 1 < 6; decide, ?_, ?_, .inl ⟨rfl, rfl⟩⟩ hE
  · cases z : H2 ex with
    | none => rfl
    | some o =>
      obtain ⟨u, y⟩ := I2.hok.there z
      rw [hx.new] at y
      cases y
  · exact (I2.pins_of (pins' := []) fun p hp => absurd hp (by simp)).young hx.new
theorem Fun.okX {P : Program} {w : World} {K : PySem.W.Frag} {mg : Str → Option Value} {base : Heap} {x qual : Str} {st : Stmt} {f : Addr} {fd : FuncData} {N ps : List Str} {k : Nat} {sp : Sp} (F : Fun K x qual st f fd) (S : FnScope N ps (defScope st)) (len : ∀ vs H Q E, sp vs H Q E → vs.length = ps.length)
    (hbody : ∀ (cdv : Value) (A : Around) (outer : List Env) (s : Shared) (H : Hp) (vs : List V) (Q : VK) (E : XK), Room k (A.deeper (envOfC qual (defScope st) s.heap.objs.size f cdv)) → sp vs H Q E →
      ∃ t, PSs (cxOf (CXN P w) P w K mg base N qual (defScope st) f cdv A outer s H E) (defBody st) t ∧ t { nx := fun _ H' => Q .non H', rt := Q } (start N vs) H) : FnOk P w K mg base (CXN P w) (k + 1) f fd ps sp := by
  obtain ⟨oc, od, kV, doc, pm, an, cdv, ct, osl, rfl, lk, hcd⟩ := F.ex
  exact fn_of lk hcd S len fun A outer s H vs Q E hr hsp => hbody cdv A outer s H vs Q E hr hsp
end L2
end
section
set_option Elab.async false
set_option linter.all false
set_option maxRecDepth 100000
set_option maxHeartbeats 2000000
namespace L2
open PySem PySem.Spec PyProof.Rows
noncomputable def xeB (Y : Cx) (E : XK) : Value → Shared → Prop := fun v s' => ∃ e σ' H' cls, v = .ref e ∧ Inv Y [] σ' H' s' ∧ Fly (Young Y) H' s'.heap e cls false ∧ E cls none H'
noncomputable abbrev Cx.blkX (X : Cx) (E : XK) (s : Shared) (H : Hp) (scope : Scope) (cenv : Env) (fp : List Addr) : Cx := (X.blk s H scope cenv fp).wish (xeB (X.blk s H scope cenv fp) E)
theorem xr_blk {X : Cx} {E : XK} {s : Shared} {H : Hp} {scope : Scope} {cenv : Env} {fp : List Addr} : XR (X.blkX E s H scope cenv fp) E := fun σ H' s' e cls I F hE => ⟨e, σ, H', cls, rfl, I.unwish, F, hE⟩
section
variable {X : Cx}
theorem lc_coreX {E : XK} {pins : List (Addr × Obj)} {s : Shared} {σ : St} {H : Hp} {Q : VK} {elt tg iter : Expr} {ifs : List Expr} {scope : Scope} {own : List (Str × Nat)} {pos pos' : Pos} {wi : TI} {g : TG} {tt : TT} {te : TE} {use : Option (Value → Sem Unit)} {Qf : Value → Shared → Prop}
    (hpn : X.pn = []) (hst : X.stack = X.env :: X.outer) (hfr : X.env.frame = some X.env.locals) (xr : XR X E) (hc : X.calm = true) (hN : X.N.Nodup) (I : Inv X pins σ H s) (hi : PI X tg iter wi) (ok : BlkOk X.N X.env.scope scope own)
    (hg : ∀ (s : Shared) (H : Hp) (C : Addr) (cl : List (Str × Addr)) (fp : List Addr), PG (X.blkX E s H scope (compEnvC scope cl C X.env) fp) tg g) (ht : ∀ (s : Shared) (H : Hp) (C : Addr) (cl : List (Str × Addr)) (fp : List Addr), PTs (X.blkX E s H scope (compEnvC scope cl C X.env) fp) ifs tt)
    (he : ∀ (s : Shared) (H : Hp) (C : Addr) (cl : List (Str × Addr)) (fp : List Addr), PE (X.blkX E s H scope (compEnvC scope cl C X.env) fp) elt te) (hs : ∀ x, foldedSetIterable iter X.env x = pure x)
    (h : tLc wi g tt te (own.map (·.2)) σ H Q)
    (hRR : ∀ D C s' m H', Inv X pins σ H' s' → Q (.ref D) H' → s'.heap.Ns C m → FpOk X pins H' C → compPost (model X.prog X.w) X.A X.xe use Qf (.ref D) C (.ok .next) s') :
    wpAny (model X.prog X.w) X.A (comprehension (.ListComp elt [⟨tg, iter, ifs, 0⟩] scope pos) scope X.env pos' (newList []) false (eval iter X.env) use) Qf X.xe s := by
  have hfree : ∀ y ∈ scope.names, y.2 = .free → ∃ c, X.env.cells.lookup y.1 = some c := fun y hy e => by
    rcases ok.free y hy e with k | k
    · exact I.ok.has _ (.inl k)
    · exact I.ok.has _ (.inr k)
  refine wpAny_comprehension_free (use := use) rfl hs (closure_ok hfree) ok.kind (fun y hy e => by rw [ok.uniq y hy, e])
    (thn (hi pins s σ H _ I h) fun xv s1 hx => thn hx fun itv s2 h2 => ?_)
  obtain ⟨it, fp, tn, J, H2, e, I2, T, st2, f2, q⟩ := h2
  subst e
  refine wpAny_newObj_type (newEnv_comp ?_) (by show 0 ≤ sizeLine; decide)
  generalize hD : s2.heap.objs.size = D
  have hDn : H2 D = none := I2.hok.fresh (Nat.le_of_eq hD)
  obtain ⟨W, ⟨m0, w0⟩, turn⟩ := q D hDn
  -- the new list
  generalize hs3 : ({ s2 with heap := s2.heap.push { cls := .type "list", data := .seq ([] : List Value).toArray } } : Shared) = s3
  have I3 : Inv X pins σ (upd H2 D (.lst [])) s3 := by
    rw [← hs3]
    refine I2.laid (t' := s2.toks) (fun b o e => Heap.get?_push_of_some _ e) (Nat.le_of_eq hD) ⟨Nat.zero_le _, [], 0, .nil, ?_⟩
    rw [← hD]
    exact Heap.get?_push_size _ rfl
  have h3 : s3.heap = s2.heap.push { cls := .type "list", data := .seq ([] : List Value).toArray } := by rw [← hs3]
  have sz : ∀ b ∈ fp, b < s2.heap.objs.size := fun b hb => by
    obtain ⟨o, e, _⟩ := T.obj _ _ st2 b hb
    exact Heap.lt_size e
  have f3 : ∀ b ∈ fp, FpOk X pins (upd H2 D (.lst [])) b ∧ b < s3.heap.objs.size := fun b hb => by
    have hlt := sz b hb
    refine ⟨⟨?_, (f2 b hb).2⟩, by rw [h3, Heap.size_push]; exact Nat.lt_succ_of_lt hlt⟩
    rw [upd_ne (by rw [← hD]; exact Nat.ne_of_lt hlt)]
    exact (f2 b hb).1
  have st3 : tn 0 s3.heap := T.keep _ _ _ st2 fun b _ o e => by rw [h3]; exact Heap.get?_push_of_some _ e
  have I4 := block_start I3 ok hN f3
  have pg := hg s3 (upd H2 D (.lst [])) s3.heap.objs.size (cellsFrom (s3.heap.objs.size + 1) scope.names (cloFrom X.env.cells scope.names [])) fp
  have pt := ht s3 (upd H2 D (.lst [])) s3.heap.objs.size (cellsFrom (s3.heap.objs.size + 1) scope.names (cloFrom X.env.cells scope.names [])) fp
  have pe := he s3 (upd H2 D (.lst [])) s3.heap.objs.size (cellsFrom (s3.heap.objs.size + 1) scope.names (cloFrom X.env.cells scope.names [])) fp
  show codeAny _ _ (.compStart (.ListComp elt [⟨tg, iter, ifs, 0⟩] scope pos) 0 (.ref it) (.ref D) (compEnvC scope (cellsFrom (s3.heap.objs.size + 1) scope.names (cloFrom X.env.cells scope.names [])) s3.heap.objs.size X.env)) (compPost (model X.prog X.w) X.A X.xe use Qf (.ref D) s3.heap.objs.size) { s3 with heap := pushCells (s3.heap.push { cls := .type "dict", data := .dict #[] }) scope.names }
  have nfp : ∀ b ∈ fp, (upd H2 D (.lst [])) b = none := fun b hb => (f3 b hb).1.1
  generalize hce : compEnvC scope (cellsFrom (s3.heap.objs.size + 1) scope.names (cloFrom X.env.cells scope.names [])) s3.heap.objs.size X.env = ce at I4 pg pt pe ⊢
  have cL : ce.locals = s3.heap.objs.size := by subst hce; rfl
  generalize hH3 : upd H2 D (.lst []) = H3 at I3 I4 pg pt pe w0 nfp f3
  generalize hs4 : ({ s3 with heap := pushCells (s3.heap.push { cls := .type "dict", data := .dict #[] }) scope.names } : Shared) = s4 at I4 ⊢
  have cF : ce.frame = X.env.frame := by subst hce; rfl
  have errB : ∀ v s', xeB (X.blk s3 H3 scope ce fp) E v s' → notedBy (model X.prog X.w) X.A ce (fun e s' => compPost (model X.prog X.w) X.A X.xe use Qf (.ref D) s3.heap.objs.size (.error e) s') v s' := by
    rintro v s' ⟨e, σ', H', cls, rfl, I', F', hE⟩
    refine note_ok (X := X.blk s3 H3 scope ce fp) I' rfl hst hfr (cF.trans hfr) F' fun g1 I1 F1 => ?_
    obtain ⟨m, hn, _⟩ := I1.loc
    have hn : g1.Ns ce.locals m := hn
    rw [cL] at hn
    have J7 : Inv X pins σ H' { s' with heap := g1 } := I3.call' (ch := fp) I1.os I1.base I1.hok I1.bare fun b hb => ⟨(f3 b hb).1.2.2.2.1, (f3 b hb).1.2.1, (f3 b hb).1.2.2.2.2.1, (f3 b hb).1.2.2.2.2.2⟩
    have nC : H' s3.heap.objs.size = none := by
      have z : H' ce.locals = none := I1.free
      rw [cL] at z
      exact z
    obtain ⟨f0, f1, f2', f3', f4, f5⟩ := I3.fpOk (Nat.le_refl _) nC
    have yg : ∀ b, Young (X.blk s3 H3 scope ce fp) b → Young X b := fun b hb => by
      rcases hb with z | z
      · rcases (f3 b z).1.2.2.2.1 with y | y
        · exact .inl y
        · exact .inr (Heap.get?_none_of_le y)
      · exact (I3.pins_of (pins' := []) fun p hp => absurd hp (by simp)).young z
    have key : ∃ m, g1.Ns s3.heap.objs.size m ∧ ∀ h', Heap.SameBut s3.heap.objs.size g1 h' → ∀ cenv : Env, cenv.locals = s3.heap.objs.size → wpAny (model X.prog X.w) X.A (PySem.passOn "comprehension.variables-let-go" (.ref e) cenv : Sem Value) (fun _ _ => False) X.xe { s' with heap := h' } := by
      refine ⟨m, hn, fun g2 sb cenv' _ => ?_⟩
      have J8 : Inv X pins σ H' { s' with heap := g2 } := J7.turned (t' := s'.toks) (fun b o hb q => (sb.2 b hb).trans q) f0 f1 f3' f4 f5
      have J9 : Inv X [] σ H' { s' with heap := g2 } := J8.pins_of fun p hp => absurd hp (by simp)
      have F9 : Fly (Young X) H' g2 e cls true := (F1.mono yg).keeps fun b o vs q d => by
        refine (sb.2 b fun z => ?_).trans q
        obtain ⟨oC, es, ep, qC, dC, _⟩ := hn
        rw [z] at q
        rw [qC] at q
        cases q
        rw [dC] at d
        cases d
      obtain ⟨oe, vs, he', hc', hd', hz', hn', hy', hT'⟩ := id F9
      rcases hT' with ⟨z, _⟩ | ⟨T', oT', ts', x', hv', _⟩
      · cases z
      · unfold PySem.passOn
        refine wpAny_bind (wpAny_field he' hd' hv' ?_)
        rw [if_neg (show ¬ ((Value.ref T' == Value.none) = true) from by simp)]
        first
          | exact wpAny_bind (flight_ok J9 hpn F9 fun g3 J10 F10 => wpAny_throw (xr σ H' _ e cls J10 F10.weak hE))
          | exact wpAny_bind (wpAny_pure (wpAny_bind (flight_ok J9 hpn F9 fun g3 J10 F10 => wpAny_throw (xr σ H' _ e cls J10 F10.weak hE))))
    cases use <;> exact key
  have st4 : tn 0 s4.heap := T.keep _ _ _ st3 fun b _ o e => by rw [← hs4]; exact pushCells_keeps _ _ _ _ (Heap.get?_push_of_some _ e)
  have stat : ∀ {σ' : St} {H' : Hp} {s' : Shared}, Inv (X.blk s3 H3 scope ce fp) [] σ' H' s' → (∀ b ∈ fp, H' b = none) → ∀ b ∈ fp, FpOk (X.blk s3 H3 scope ce fp) [] H' b := fun {σ' H' s'} I' hn b hb =>
    ⟨hn b hb, (I'.ok.exf b hb).1, I'.ok.exfs b hb, .inl hb, fun x c e => (I'.ok.exf b hb).2 x c e, fun p hp => absurd (show p ∈ ([] : List (Addr × Obj)) ++ [] from hp) (by simp)⟩
  have loop : codeAny (model X.prog X.w) X.A (.compLoop (.ListComp elt [⟨tg, iter, ifs, 0⟩] scope pos) 0 (.ref it) (.ref D) ce) (compPost (model X.prog X.w) X.A X.xe use Qf (.ref D) s3.heap.objs.size) s4 := by
    refine compLoop_any (fun n s' => ∃ i H', Inv (X.blk s3 H3 scope ce fp) [] (wipe σ (own.map (·.2))) H' s' ∧ tn i s'.heap ∧ (∀ b ∈ fp, H' b = none) ∧ W i n H') ?_ m0 ⟨0, H3, I4, st4, nfp, w0⟩
    rintro n s5 ⟨i, H5, I5, st5, n5, w5⟩
    rcases turn i n H5 w5 with ⟨stop, qq⟩ | ⟨go, Nx, hNx, step⟩
    · have td := T.done (X.blk s3 H3 scope ce fp) rfl rfl rfl hc i [] s5 _ H5 (fun _ _ => False) I5 (stat I5 n5) st5 stop
      refine thnF td fun r s6 zq1 => ?_
      obtain ⟨hr, I6⟩ := zq1
      subst hr
      -- back in the def's context
      have I7 : Inv X pins σ H5 s6 := I3.call' (ch := fp) I6.os I6.base I6.hok I6.bare fun b hb => ⟨(f3 b hb).1.2.2.2.1, (f3 b hb).1.2.1, (f3 b hb).1.2.2.2.2.1, (f3 b hb).1.2.2.2.2.2⟩
      have nC : H5 s3.heap.objs.size = none := by
        have z : H5 ce.locals = none := I6.free
        rw [cL] at z
        exact z
      obtain ⟨m, hn, _⟩ := I6.loc
      have hn : s6.heap.Ns ce.locals m := hn
      rw [cL] at hn
      exact hRR D s3.heap.objs.size s6 m H5 I7 qq hn (I3.fpOk (Nat.le_refl _) nC)
    · have ti := T.item (X.blk s3 H3 scope ce fp) rfl rfl rfl hc i [] s5 _ H5 (fun _ _ => False) I5 (stat I5 n5) st5 go
      refine thnF ti fun r s6 zq2 => ?_
      obtain ⟨u, hr, h6⟩ := zq2
      subst hr
      refine thnF h6 fun _ s7 zq3 => ?_
      obtain ⟨x, H7, I7, r7, y7, st7, n7⟩ := zq3
      have I7' := I7.pinned (stat I7 n7) (T.obj _ _ st7)
      refine wpAny_mono (pg _ s7 _ H7 x u _ (I7'.wish _) r7 (step x H7 y7)) (fun _ s8 zq4 => ?_) errB
      obtain ⟨σ8, H8, I8, hw8, q8⟩ := zq4
      refine wpAny_mono (pt _ s8 σ8 H8 _ I8 q8) (fun b s9 zq5 => ?_) errB
      obtain ⟨H9, I9w, q9⟩ := zq5
      have I9 := I9w.unwish
      -- the turn's end
      have fin : ∀ {s' : Shared} {H' : Hp}, Inv (X.blk s3 H3 scope ce fp) ([] ++ pinsAt fp s7.heap) σ8 H' s' → Nx H' → ∃ m, m < n ∧ ∃ i H', Inv (X.blk s3 H3 scope ce fp) [] (wipe σ (own.map (·.2))) H' s' ∧ tn i s'.heap ∧ (∀ b ∈ fp, H' b = none) ∧ W i m H' := fun {s' H'} I' nx => by
        obtain ⟨m', hm, w'⟩ := hNx H' nx
        have pin' : ∀ b ∈ fp, ∀ o, s7.heap.get? b = some o → s'.heap.get? b = some o ∧ H' b = none := fun b hb o e =>
          let z := I'.pin (b, o) (List.mem_append_right _ (List.mem_append_right _ (mem_pinsAt hb e)))
          ⟨z.1, z.2.1⟩
        have hl : (wipe σ (own.map (·.2))).length = σ8.length := by rw [← hw8, wipe_length]
        refine ⟨m', hm, i + 1, H', (I'.unpinned (pins := [])).weak hl (fun j v e => ?_), T.keep _ _ _ st7 fun b hb o e => (pin' b hb o e).1, fun b hb => ?_, w'⟩
        · rw [← hw8] at e
          exact (wipe_some e).1
        · obtain ⟨o, e, _⟩ := T.obj _ _ st7 b hb
          exact (pin' b hb o e).2
      cases b with
      | false =>
        simp only [Bool.false_eq_true, if_false] at q9 ⊢
        exact fin I9 q9
      | true =>
        simp only [if_true] at q9 ⊢
        refine wpAny_mono (pe _ s9 σ8 H9 _ I9w q9) (fun z s10 zq6 => ?_) errB
        obtain ⟨yv, H10, I10, r10, acc, hD10, hz10, nx⟩ := zq6
        exact app_ok (X := X.blk s3 H3 scope ce fp) I10.unwish hD10 hz10 r10 fun s11 I11 => fin I11 nx
  exact codeAny_compStart_list loop (T.self X.A 0 _ _ _ st4 loop)
theorem pe_lcX {E : XK} {elt tg iter : Expr} {ifs : List Expr} {scope : Scope} {own : List (Str × Nat)} {pos : Pos} {wi : TI} {g : TG} {tt : TT} {te : TE} (hpn : X.pn = []) (hst : X.stack = X.env :: X.outer) (hfr : X.env.frame = some X.env.locals) (xr : XR X E) (hc : X.calm = true) (hN : X.N.Nodup) (hi : PI X tg iter wi) (ok : BlkOk X.N X.env.scope scope own)
    (hg : ∀ (s : Shared) (H : Hp) (C : Addr) (cl : List (Str × Addr)) (fp : List Addr), PG (X.blkX E s H scope (compEnvC scope cl C X.env) fp) tg g) (ht : ∀ (s : Shared) (H : Hp) (C : Addr) (cl : List (Str × Addr)) (fp : List Addr), PTs (X.blkX E s H scope (compEnvC scope cl C X.env) fp) ifs tt)
    (he : ∀ (s : Shared) (H : Hp) (C : Addr) (cl : List (Str × Addr)) (fp : List Addr), PE (X.blkX E s H scope (compEnvC scope cl C X.env) fp) elt te) (hs : ∀ x, foldedSetIterable iter X.env x = pure x := by intro _; rfl) :
    PE X (.ListComp elt [⟨tg, iter, ifs, 0⟩] scope pos) (tLc wi g tt te (own.map (·.2))) := by
  intro pins s σ H Q I h
  rw [eval_ListComp]
  refine lc_coreX hpn hst hfr xr hc hN I hi ok hg ht he hs h fun D C s' m H' I' q hn f => ⟨m, hn, fun h'' sb => ?_⟩
  obtain ⟨f0, f1, f2, f3, f4, f5⟩ := f
  exact ⟨.ref D, H', I'.turned (t' := s'.toks) (fun b o hb e => (sb.2 b hb).trans e) f0 f1 f3 f4 f5, rfl, q⟩
theorem ps_setLcX {E : XK} {i : Nat} {y : Str} {py : Pos} {elt tg iter : Expr} {ifs : List Expr} {scope : Scope} {own : List (Str × Nat)} {pos spos : Pos} {wi : TI} {g : TG} {tt : TT} {te : TE} (hpn : X.pn = []) (hst : X.stack = X.env :: X.outer) (hfr : X.env.frame = some X.env.locals) (xr : XR X E) (hc : X.calm = true) (hN : X.N.Nodup) (hy : X.N[i]? = some y) (hyl : X.env.scope.names.lookup y = some .local)
    (hsw : swapsWith (.ListComp elt [⟨tg, iter, ifs, 0⟩] scope pos) (some (.Name y py)) spos.line X.env = pure true) (hi : PI X tg iter wi) (ok : BlkOk X.N X.env.scope scope own)
    (hg : ∀ (s : Shared) (H : Hp) (C : Addr) (cl : List (Str × Addr)) (fp : List Addr), PG (X.blkX E s H scope (compEnvC scope cl C X.env) fp) tg g) (ht : ∀ (s : Shared) (H : Hp) (C : Addr) (cl : List (Str × Addr)) (fp : List Addr), PTs (X.blkX E s H scope (compEnvC scope cl C X.env) fp) ifs tt)
    (he : ∀ (s : Shared) (H : Hp) (C : Addr) (cl : List (Str × Addr)) (fp : List Addr), PE (X.blkX E s H scope (compEnvC scope cl C X.env) fp) elt te) (hs : ∀ x, foldedSetIterable iter X.env x = pure x := by intro _; rfl) :
    PS X (.Assign [.Name y py] (.ListComp elt [⟨tg, iter, ifs, 0⟩] scope pos) spos) (tAsg (tLc wi g tt te (own.map (·.2))) (gName i)) := by
  intro pins s σ H D I h
  rw [exec_Assign_Name_used _ _ _ _ hsw]
  refine wpAny_bind (wpAny_standAt (wpAny_bind ?_))
  show wpAny _ X.A (do let _ ← comprehension (.ListComp elt [⟨tg, iter, ifs, 0⟩] scope pos) scope X.env (firstIterPos [⟨tg, iter, ifs, 0⟩] pos) (newList []) false (eval iter X.env) (some (assign (.Name y py) X.env))) _ _ s
  have h : tLc wi g tt te (own.map (·.2)) σ H (fun x H1 => gName i x σ H1 D.nx) := h
  refine wpAny_bind (thn (lc_coreX (Qf := fun _ s' => SP X pins D .next s') hpn hst hfr xr hc hN I hi ok hg ht he hs h fun L C s' m H' I' q hn f => ?_) fun _ s' hq => wpAny_pure (wpAny_pure hq))
  show wpAny _ _ (assign (.Name y py) X.env (.ref L)) _ _ _
  refine wpAny_assign_Name (store_ok2 (v := V.ref L) I' hN hy (.inl hyl) rfl (fun s2 I2 zq7 => ?_) (.inr hyl))
  obtain ⟨a, sb, ha⟩ := zq7
  obtain ⟨f0, f1, f2, f3, f4, f5⟩ := f
  have haC : C ≠ a := by
    rcases ha with z | z
    · rw [z]; exact f1
    · exact fun e => f4 y a z e.symm
  refine ⟨m, hn.sameBut sb haC, fun h3 sb3 => ?_⟩
  exact ⟨_, H', I2.turned (t' := s2.toks) (fun b o hb e => (sb3.2 b hb).trans e) f0 f1 f3 f4 f5, q⟩
end
noncomputable def PS0 (X : Cx) (st : Stmt) (t : TS) : Prop := ∀ (s : Shared) (σ : St) (H : Hp) (D : Ends), Inv X [] σ H s → t D σ H → wpAny (model X.prog X.w) X.A (exec st X.env) (SP X [] D) X.xe s
noncomputable def PSs0 (X : Cx) (st : List Stmt) (t : TS) : Prop := ∀ (s : Shared) (σ : St) (H : Hp) (D : Ends), Inv X [] σ H s → t D σ H → wpAny (model X.prog X.w) X.A (execs st X.env) (SP X [] D) X.xe s
theorem PS.ps0 {X : Cx} {st : Stmt} {t : TS} (h : PS X st t) : PS0 X st t := fun s σ H D I q => h [] s σ H D I q
theorem PSs.pss0 {X : Cx} {st : List Stmt} {t : TS} (h : PSs X st t) : PSs0 X st t := fun s σ H D I q => h [] s σ H D I q
theorem pss0_cons {X : Cx} {st : Stmt} {rest : List Stmt} {t u : TS} (h1 : PS0 X st t) (h2 : PSs0 X rest u) : PSs0 X (st :: rest) (tSeq t u) := by
  intro s σ H D I h
  refine wpAny_execs_cons (thn (h1 s σ H { D with nx := u D } I h) fun f s1 q => ?_)
  cases f with
  | next =>
    obtain ⟨σ', H', I', q⟩ := q
    exact h2 s1 σ' H' D I' q
  | ret v => exact q
  | brk => exact q
  | cont => exact q
noncomputable abbrev Cx.suite (X : Cx) (e : Value) (xe : Value → Shared → Prop) : Cx := { X with A := X.A.mark (some e), calm := false, xe := xe }
theorem Inv.suite {X : Cx} {pins : List (Addr × Obj)} {σ : St} {H : Hp} {s : Shared} (I : Inv X pins σ H s) (e : Value) (xe : Value → Shared → Prop) : Inv (X.suite e xe) pins σ H s :=
  ⟨⟨I.ok.mod, I.ok.kind, I.ok.glob, I.ok.blt, I.ok.above, I.ok.inj, I.ok.has, I.ok.cab, fun z => Bool.noConfusion z, I.ok.frames, I.ok.stk, I.ok.exf, I.ok.bs, I.ok.bsz, I.ok.noex, I.ok.exfs, I.ok.funs, I.ok.frf⟩, I.os, I.bare, I.base, I.loc, I.cell, I.free, I.freeC, I.pin, I.hok, I.len⟩
theorem Inv.unsuite {X : Cx} {pins : List (Addr × Obj)} {σ : St} {H : Hp} {s : Shared} {e : Value} {xe : Value → Shared → Prop} (I : Inv (X.suite e xe) pins σ H s) (ok : X.Ok) : Inv X pins σ H s :=
  ⟨ok, I.os, I.bare, I.base, I.loc, I.cell, I.free, I.freeC, I.pin, I.hok, I.len⟩
theorem SP.unsuite {X : Cx} {pins : List (Addr × Obj)} {D : Ends} {f : Flow} {s' : Shared} {e : Value} {xe : Value → Shared → Prop} (h : SP (X.suite e xe) pins D f s') (ok : X.Ok) : SP X pins D f s' := by
  cases f with
  | next => obtain ⟨σ', H', I, q⟩ := h; exact ⟨σ', H', I.unsuite ok, q⟩
  | brk => obtain ⟨σ', H', I, q⟩ := h; exact ⟨σ', H', I.unsuite ok, q⟩
  | cont => obtain ⟨σ', H', I, q⟩ := h; exact ⟨σ', H', I.unsuite ok, q⟩
  | ret u => obtain ⟨v, σ', H', I, r, q⟩ := h; exact ⟨v, σ', H', I.unsuite ok, r, q⟩
noncomputable def tTry (C : Addr) (tb : XK → TS) (th : TS) : TS := fun D σ H => ∃ E : XK, tb E D σ H ∧ ∀ (σ' : St) (H' : Hp) (cls : Value) (d : Option Addr), E cls d H' → cls = .ref C ∧ th D σ' H'
theorem ps0_try {X : Cx} {x : Str} {C : Addr} {bmB : List Value} {newId : String} {body suite : List Stmt} {b0 : Stmt} {tb : XK → TS} {th : TS} {np hpos pos : Pos} (hpn : X.pn = []) (hst : X.stack = X.env :: X.outer) (hfr : X.env.frame = some X.env.locals)
    (hg : Gl X x) (hm : X.mg x = some (.ref C)) (q : PySem.W.excIn X.K C bmB newId = true) (hbase : bmB.contains (.type "BaseException") = true)
    (hb : ∀ (E : XK) (xe : Value → Shared → Prop), XR (X.wish xe) E → PSs (X.wish xe) body (tb E)) (hs : ∀ (e : Value) (xe : Value → Shared → Prop), PSs (X.suite e xe) (b0 :: suite) th) (hdb : (x == ("__debug__" : Str)) = false := by decide) :
    PS0 X (.Try body [.ExceptHandler (some (.Name x np)) none (b0 :: suite) hpos] [] [] pos) (tTry C tb th) := by
  intro s σ H D I h
  obtain ⟨E, h1, h2⟩ := h
  refine wpAny_Try_except ?_
  have run := hb E (xeB X E) (fun σ' H' s' e cls I' F' hE => ⟨e, σ', H', cls, rfl, I'.unwish, F', hE⟩) [] s σ H D (I.wish _) h1
  refine wpAny_mono run (fun f s1 z => ?_) fun v s1 z => ?_
  · cases f with
    | next => exact wpAny_execs_nil (SP.unwish (f := .next) z)
    | ret u => exact SP.unwish (f := .ret u) z
    | brk => exact SP.unwish (f := .brk) z
    | cont => exact SP.unwish (f := .cont) z
  · obtain ⟨e, σ', H', cls, rfl, I1, F1, hE⟩ := z
    obtain ⟨rfl, hth⟩ := h2 σ' H' cls none hE
    refine note_ok I1 hpn hst hfr hfr F1 fun g1 I2 F2 => flight_ok I2 hpn F2 fun g2 I3 F3 => ?_
    refine wpAny_handleBy_cons (codeAny_handlers_test (ld_glob (X := X.suite (.ref e) fun _ _ => False) (I3.suite _ _) hg hm ?_ hdb)) (by intro y; cases y)
    obtain ⟨bm, N, nm, qn, bs, hdct, sn, sub, ab, col, dd, k0, k1, k2, k3, k5, mN, hC, hN, hni, TL⟩ := exc_obj (mg := X.mg) I.ok.mod.kin q
    obtain ⟨oe, vs, he, hc, _⟩ := id F3
    refine wpAny_excMatches_sub_self (I3.bk _ _ hC) he hc (TL.hasType hbase) (codeAny_handlers_suite ?_)
    refine flight_ok (X := X.suite (.ref e) fun _ _ => False) (I3.suite _ _) hpn F3 fun g3 I4 F4 => ?_
    have run2 := hs (.ref e) (notedBy (model X.prog X.w) (X.A.mark (some (.ref e))) X.env fun x s₂ => cameBackBy (model X.prog X.w) X.A X.env X.xe x s₂) [] _ σ' H' D ((I4.unsuite I.ok).suite (.ref e) _) hth
    exact wpAny_mono run2 (fun f s5 z => z.unsuite I.ok) fun v s5 z => z
theorem fn_of0 {CX : CXT} {P : Program} {w : World} {K : PySem.W.Frag} {mg : Str → Option Value} {base : Heap} {k : Nat} {f : Addr} {name qual : Str} {params : Arguments} {body : List Stmt} {scope : Scope} {dV kV doc pm cdv ct oc : Value} {an od : Option Addr}
    {osl : Array (Option Value)} {N ps : List Str} {sp : Sp} (lk : K.lookup f = some ⟨oc, od, .func (PySem.W.fnOf name qual params body scope dV kV doc pm an cdv ct), osl⟩) (hcd : PySem.W.codeIn K cdv qual = true) (S : FnScope N ps scope)
    (len : ∀ vs H Q E, sp vs H Q E → vs.length = ps.length)
    (hbody : ∀ (A : Around) (outer : List Env) (s : Shared) (H : Hp) (vs : List V) (Q : VK) (E : XK), Room k (A.deeper (envOfC qual scope s.heap.objs.size f cdv)) → sp vs H Q E →
      ∃ t, PSs0 (cxOf CX P w K mg base N qual scope f cdv A outer s H E) body t ∧ t { nx := fun _ H' => Q .non H', rt := Q } (start N vs) H) :
    FnOk P w K mg base CX (k + 1) f (PySem.W.fnOf name qual params body scope dV kV doc pm an cdv ct) ps sp := by
  refine ⟨len, fun A outer s H args us vs Q E hr e0 hb r hsp => ?_⟩
  have hl := len _ _ _ _ hsp
  have KX : K.In s.heap := e0.mod.kin.keeps fun b o e => (e0.bs b o e).1
  have lim : s.heap.NoLimit := e0.mod.nolimit.keeps fun b o e => (e0.bs b o e).1
  have hkind : ∀ y ∈ ps.zip us, scope.names.lookup y.1 = some .local ∨ (scope.names.lookup y.1 = some .cell ∧ ((cellsFrom (s.heap.objs.size + 1) scope.names []).lookup y.1).isSome = true) := fun ⟨n, v⟩ hy => by
    rcases S.par n (List.of_mem_zip hy).1 with q | q
    · exact .inl q
    · exact .inr ⟨q, PySem.W.cellsFrom_some _ _ _ (.inl q)⟩
  refine codeAny_call_function hr.depth (KX _ _ lk) rfl S.co S.gen rfl (PySem.W.codeRec_of KX hcd) (hb _ _ _ _ ?_)
  refine wpAny_newFunctionEnv_cells S.kind hkind fun env he s1 x => ?_
  subst he
  refine ⟨lim.keeps x.toInCall.keep, codeAny_func ?_⟩
  obtain ⟨t, ht, hq⟩ := hbody A outer s H vs Q E (hr.deeper _) hsp
  have I : Inv (cxOf CX P w K mg base N qual scope f cdv A outer s H E) [] (start N vs) H s1 := inv_start S hr.hd e0 hl r x
  refine wpAny_mono (ht s1 (start N vs) H _ I hq) (fun fl s' hs => ?_) fun e s' hs => hs
  have fin : ∀ {σ' : St} {H' : Hp} {v : V} {u : Value}, Inv (cxOf CX P w K mg base N qual scope f cdv A outer s H E) [] σ' H' s' → RelV v u → Q v H' → CE outer P w H s Q u s' :=
    fun {σ' H' v u} J rv q => ⟨v, H', J.os, J.bare, J.base, J.hok, rv, q⟩
  cases fl with
  | ret u =>
    obtain ⟨v, σ', H', J, rv, q⟩ := hs
    exact fin J rv q
  | next =>
    obtain ⟨σ', H', J, q⟩ := hs
    exact fin (v := V.non) (u := Value.none) J rfl q
  | brk =>
    obtain ⟨_, _, _, q⟩ := hs
    exact False.elim q
  | cont =>
    obtain ⟨_, _, _, q⟩ := hs
    exact False.elim q
theorem PSs0.nox {X : Cx} {st : List Stmt} {t : TS} (h : PSs0 X.nox st t) : PSs0 X st t := fun s σ H D I hw =>
  wpAny_mono (h s σ H D (I.wish _) hw) (fun _ _ q => q.unwish) fun _ _ z => False.elim z
theorem Fun.ok0 {P : Program} {w : World} {K : PySem.W.Frag} {mg : Str → Option Value} {base : Heap} {x qual : Str} {st : Stmt} {f : Addr} {fd : FuncData} {N ps : List Str} {k : Nat} {sp : Sp} (F : Fun K x qual st f fd) (S : FnScope N ps (defScope st)) (len : ∀ vs H Q E, sp vs H Q E → vs.length = ps.length)
    (hbody : ∀ (cdv : Value) (A : Around) (outer : List Env) (s : Shared) (H : Hp) (vs : List V) (Q : VK) (E : XK), Room k (A.deeper (envOfC qual (defScope st) s.heap.objs.size f cdv)) → sp vs H Q E →
      ∃ t, PSs0 (cxOf CX0 P w K mg base N qual (defScope st) f cdv A outer s H E).nox (defBody st) t ∧ t { nx := fun _ H' => Q .non H', rt := Q } (start N vs) H) : FnOk P w K mg base CX0 (k + 1) f fd ps sp := by
  obtain ⟨oc, od, kV, doc, pm, an, cdv, ct, osl, rfl, lk, hcd⟩ := F.ex
  refine fn_of0 lk hcd S len fun A outer s H vs Q E hr hsp => ?_
  obtain ⟨t, h, q⟩ := hbody cdv A outer s H vs Q E hr hsp
  exact ⟨t, h.nox, q⟩
end L2
end
section
set_option Elab.async false
set_option linter.all false
set_option maxRecDepth 100000
set_option maxHeartbeats 2000000
namespace L2
open PySem PySem.Spec PyProof.Rows
noncomputable def evens {α : Type} : List α → List α
  | a :: _ :: r => a :: evens r
  | [a] => [a]
  | [] => []
noncomputable def odds {α : Type} (l : List α) : List α := evens (l.drop 1)
theorem odds_cc {α : Type} (a b : α) (r : List α) : odds (a :: b :: r) = b :: odds r := by cases r <;> rfl
theorem evens_range {α : Type} : ∀ its : List α, (List.range ((its.length + 1) / 2)).filterMap (fun k => its[2 * k]?) = evens its
  | [] => by simp [evens]
  | [_] => by simp [evens]
  | a :: b :: r => by
    have e : ((a :: b :: r).length + 1) / 2 = (r.length + 1) / 2 + 1 := by
      simp only [List.length_cons]
      omega
    rw [e, List.range_succ_eq_map, List.filterMap_cons]
    show a :: _ = a :: evens r
    rw [List.filterMap_map, ← evens_range r]
    congr 1
theorem evens_len {α : Type} : ∀ its : List α, (evens its).length ≤ its.length
  | [] => Nat.le_refl _
  | [_] => Nat.le_refl _
  | _ :: _ :: r => by
    have := evens_len r
    simp only [evens, List.length_cons]
    omega
theorem Vals.evens : ∀ {xs : List V} {us : List Value}, Vals xs us → Vals (L2.evens xs) (L2.evens us)
  | _, _, .nil => .nil
  | _, _, .cons r .nil => .cons r .nil
  | _, _, .cons r (.cons _ t) => .cons r (Vals.evens t)
theorem Vals.drop1 : ∀ {xs : List V} {us : List Value} (n : Nat), Vals xs us → Vals (xs.drop n) (us.drop n)
  | _, _, 0, h => h
  | _, _, _ + 1, .nil => .nil
  | _, _, n + 1, .cons _ t => Vals.drop1 n t
theorem pick_evens (its : List Value) (s : Nat) : slicePick its.toArray (some (s : Int)) none (some 2) = (evens (its.drop s)).toArray := by
  unfold slicePick
  rw [← evens_range (its.drop s)]
  congr 1
  have h1 : (sliceBounds (some (s : Int)) none (some 2) its.toArray.size).1 = ((min s its.length : Nat) : Int) := by
    simp [sliceBounds]
    omega
  have h2 : (sliceBounds (some (s : Int)) none (some 2) its.toArray.size).2.1 = (its.length : Int) := by simp [sliceBounds]
  have h3 : (sliceBounds (some (s : Int)) none (some 2) its.toArray.size).2.2 = 2 := by simp [sliceBounds]
  rw [h1, h2, h3]
  have hc : (if (2 : Int) > 0 then (if ((min s its.length : Nat) : Int) < (its.length : Int) then ((its.length : Int) - ((min s its.length : Nat) : Int) + 2 - 1) / 2 else 0)
                     else (if ((min s its.length : Nat) : Int) > (its.length : Int) then (((min s its.length : Nat) : Int) - (its.length : Int) - 2 - 1) / (-2) else 0)).toNat = ((its.drop s).length + 1) / 2 := by
    rw [if_pos (by decide), List.length_drop]
    split <;> omega
  unfold sliceRange
  simp only [hc]
  rw [List.filterMap_map]
  by_cases c : s ≤ its.length
  · rw [Nat.min_eq_left c]
    congr 1
    funext k
    have : ((s : Int) + 2 * (k : Int)).toNat = s + 2 * k := by omega
    show its.toArray[((s : Int) + 2 * (k : Int)).toNat]? = (its.drop s)[2 * k]?
    rw [this, List.getElem?_drop]
    simp
  · have e : ((its.drop s).length + 1) / 2 = 0 := by rw [List.length_drop]; omega
    rw [e]
    rfl
noncomputable def tStep (K : PySem.W.Frag) (te tl ts : TE) : TE := fun σ H Q => te σ H fun x H1 => tl σ H1 fun y H2 => ts σ H2 fun z H3 => ∃ (a : Addr) (xs : List V) (n : Nat), x = .ref a ∧ y = .int n ∧ z = .int 2 ∧ SqL K H3 a xs ∧ ∀ p, H3 p = none → Q (.ref p) (upd H3 p (.lst (evens (xs.drop n))))
theorem pe_step {X : Cx} {e lo st : Expr} {te tl ts : TE} {pos p2 : Pos} (he : PE X e te) (hl : PE X lo tl) (hst : PE X st ts) : PE X (.Subscript e (.Slice (some lo) none (some st) p2) pos) (tStep X.K te tl ts) := by
  intro pins s σ H Q I h
  refine Subscript_ (thn (he pins s σ H _ I h) fun v s1 zx => ?_)
  obtain ⟨x, H1, I1, r1, q1⟩ := zx
  refine wpAny_Slice ?_
  rw [evalPart_some]
  refine thn (hl pins s1 σ H1 _ I1 q1) fun vl s2 zy => ?_
  obtain ⟨y, H2, I2, r2, q2⟩ := zy
  rw [evalPart_none]
  refine wpAny_pure ?_
  rw [evalPart_some]
  refine thn (hst pins s2 σ H2 _ I2 q2) fun vs s3 zz => ?_
  obtain ⟨z, H3, I3, r3, a, xs, n, ex, ey, ez, hs, q⟩ := zz
  subst ex ey ez
  obtain rfl : v = Value.ref a := r1
  obtain ⟨t2, rfl⟩ := r2
  obtain ⟨t3, rfl⟩ := r3
  have I4 : Inv X pins σ H3 { s3 with heap := s3.heap.push { cls := .type "slice", data := .fields #[Value.int n t2, Value.none, Value.int 2 t3] } } := I3.kept (t' := s3.toks) fun b ob q => Heap.get?_push_of_some _ q
  obtain ⟨its, r, ht, hz⟩ := I4.list hs
  have hlen := r.length
  show wpAny (model X.prog X.w) X.A (subscriptTail e (.Slice (some lo) none (some st) p2) (.ref a) (.ref s3.heap.objs.size)) (EP X pins σ Q) X.xe { s3 with heap := s3.heap.push { cls := .type "slice", data := .fields #[Value.int n t2, Value.none, Value.int 2 t3] } }
  refine tail_any (ops := [.ref a, .ref s3.heap.objs.size]) ht.isList.typeIs slot_list_getitem.lookup ?_ (by with_unfolding_all rfl)
  refine wpAny_getItem_list_slice ht.isList (Heap.IsSliceOf.new ..) (.int n t2) .none (.int 2 t3) (by decide) ?_ (by rw [List.size_toArray] <;> omega)
  rw [pick_evens]
  refine ⟨.ref _, _, I4.laid (t' := s3.toks) (o := .lst (evens (xs.drop n))) (fun b ob q => Heap.get?_push_of_some _ q) (Nat.le_refl _) ?_, rfl, q _ (I4.hok.fresh (Nat.le_refl _))⟩
  exact ⟨Nat.le_trans (evens_len _) (Nat.le_trans (by rw [List.length_drop]; exact Nat.sub_le _ _) hz), _, 0, (r.drop1 n).evens, Heap.get?_push_size _ rfl⟩
structure KD (P : Program) (w : World) (K : PySem.W.Frag) (d : Addr) (kvs : List (Key × V)) : Prop where
  at_ : ∃ (o : Obj) (es : Array DictEntry) (ep : Nat) (vs : List (Key × Value)), K.lookup d = some o ∧ (d == sysModules) = false ∧ o.ExactDict ∧ o.data = .dict es ep ∧ es.size = kvs.length ∧ KV kvs vs ∧ KeysOf (mixKind P w) es ∧ Pairs (mixKind P w) es.toList vs ∧ (vs.map (·.1)).Nodup
section
variable {X : Cx} {pins : List (Addr × Obj)} {σ : St} {H : Hp} {s : Shared} {d : Addr} {kvs : List (Key × V)}
theorem KD.dictOf (D : KD X.prog X.w X.K d kvs) (I : Inv X pins σ H s) : ∃ vs, KV kvs vs ∧ s.heap.DictOf (mixKind X.prog X.w) d vs := by
  obtain ⟨o, es, ep, vs, h1, h2, h3, h4, h5, h6, h7, h8, h9⟩ := D.at_
  exact ⟨vs, h6, o, es, ep, I.kIn _ _ h1, h3, h4, h7, h8, h9⟩
theorem KD.noSys (D : KD X.prog X.w X.K d kvs) : (d == sysModules) = false := by
  obtain ⟨o, es, ep, vs, h1, h2, _⟩ := D.at_
  exact h2
variable {e i : Expr} {td ty : TE} {pos : Pos}
noncomputable def tKIn (P : Program) (w : World) (K : PySem.W.Frag) (ty td : TE) : TE := fun σ H Q => ty σ H fun y H1 => td σ H1 fun x H2 => ∃ d kvs k, x = .ref d ∧ y = kV k ∧ KD P w K d kvs ∧ Q (.bl (valV kvs k).isSome) H2
theorem pc_kin (hi : PE X i ty) (hd : PE X e td) : PC X .In i e (tKIn X.prog X.w X.K ty td) := by
  intro pins s σ H Q I h
  refine thn (hi pins s σ H _ I h) fun iv s1 zq8 => ?_
  obtain ⟨y, H1, I1, ry, q1⟩ := zq8
  refine thn (hd pins s1 σ H1 _ I1 q1) fun u s2 zq9 => ?_
  obtain ⟨x, H2, I2, rx, d, kvs, k, ex, ey, D, q2⟩ := zq9
  subst ex ey
  obtain rfl : u = Value.ref d := rx
  obtain ⟨vs, rel, dd⟩ := D.dictOf I2
  refine wpAny_in_of (kV_is ry) D.noSys dd.mapOf ?_
  rw [← (rel.val k).isSome_eq]
  exact ⟨.bl _, H2, I2.tok _, rfl, q2⟩
noncomputable def tKGet (P : Program) (w : World) (K : PySem.W.Frag) (td ty : TE) : TE := fun σ H Q => td σ H fun x H1 => ty σ H1 fun y H2 => ∃ d kvs k v, x = .ref d ∧ y = kV k ∧ KD P w K d kvs ∧ valV kvs k = some v ∧ Q v H2
theorem pe_kget (hd : PE X e td) (hi : PE X i ty) (hs : NoSl i) : PE X (.Subscript e i pos) (tKGet X.prog X.w X.K td ty) := by
  intro pins s σ H Q I h
  refine subD_of PySem.F.slot_dict_getitem.lookup hs (thn (hd pins s σ H _ I h) fun u s1 zq10 => ?_)
  obtain ⟨x, H1, I1, rx, q1⟩ := zq10
  refine thn (hi pins s1 σ H1 _ I1 q1) fun iv s2 zq11 => ?_
  obtain ⟨y, H2, I2, ry, d, kvs, k, v, ex, ey, D, hv, q2⟩ := zq11
  subst ex ey
  obtain rfl : u = Value.ref d := rx
  obtain ⟨vs, rel, dd⟩ := D.dictOf I2
  obtain ⟨w', hw, rw'⟩ := RelO.some_of (v := v) (o := valueAt vs k) (by rw [← hv]; exact rel.val k)
  obtain ⟨o, es, ep, ho, hx, _⟩ := id dd
  exact ⟨⟨o, ho, hx.1⟩, wpAny_getItem_of (kV_is ry) dd.mapOf hw ⟨v, H2, I2.tok _, rw', q2⟩⟩
end
noncomputable def Itm (kvs : List (Key × V)) : It := ⟨fun i _ => i < kvs.length, fun i H x H' => H' = H ∧ ∃ k v, kvs[i]? = some (k, v) ∧ x = kV k, fun i _ => kvs.length ≤ i⟩
theorem turn_keysM {P : Program} {w : World} {K : PySem.W.Frag} {tg : Expr} {d : Addr} {o : Obj} {es : Array DictEntry} {ep : Nat} {kvs : List (Key × V)} {vs : List (Key × Value)} (it : Addr) (h1 : K.lookup d = some o) (h3 : o.ExactDict) (h4 : o.data = .dict es ep) (h5 : es.size = kvs.length)
    (h6 : KV kvs vs) (h7 : KeysOf (mixKind P w) es) (h8 : Pairs (mixKind P w) es.toList vs) (h9 : (vs.map (·.1)).Nodup) : Turn P w K tg (Itm kvs) [it] it (fun i h => h.IsKeyIter it d i kvs.length ep) where
  mem := by simp
  obj := fun i h st b hb => by
    have e : b = it := by simpa using hb
    subst e
    obtain ⟨oi, e, c, dd⟩ := st
    exact ⟨oi, e, fun v z => by rw [dd] at z; cases z⟩
  keep := fun i h h' st k => st.at fun oi e => k it (by simp) oi e
  item := by
    intro X hP hw hK hc i pins s σ H E I hf st hi
    subst hP hw hK
    obtain ⟨f0, f1, f2, f3, f4, f5⟩ := hf it (by simp)
    obtain ⟨⟨k, v⟩, hkv⟩ : ∃ p, kvs[i]? = some p := ⟨kvs[i], List.getElem?_eq_getElem hi⟩
    obtain ⟨u, hu, ru⟩ := kv_get h6 hkv
    have hl : kvs.length = vs.length := Paired.length h6
    have hm : s.heap.DictAt (mixKind X.prog X.w) d vs ep := ⟨o, es, I.kIn _ _ h1, h3, h4, h7, h8, h9⟩
    rw [hl] at st
    refine wpAny_pyNext_dict_item st hm hu fun key h' hkey st' sb => ?_
    have I1 : Inv X pins σ H { s with heap := h' } := I.turned (t' := s.toks) (fun b ob hb e => (sb.2 b hb).trans e) f0 f1 f3 f4 f5
    obtain ⟨oi, e, c, dd⟩ := id st'
    refine ⟨key, rfl, go_of (s := { s with heap := h' }) e c dd (by decide) ⟨kV k, H, I1, relV_key (show keyIs k key = true from hkey), ⟨rfl, k, v, hkv, rfl⟩, ?_, fun b hb => (hf b hb).1⟩⟩
    show h'.IsKeyIter it d (i + 1) kvs.length _
    rw [hl]
    exact st'
  done := by
    intro X hP hw hK hc i pins s σ H E I hf st hi
    subst hP hw hK
    obtain ⟨f0, f1, f2, f3, f4, f5⟩ := hf it (by simp)
    exact next_key_end (I.ok.hd hc) st (I.kIn _ _ h1) h4 h5 hi fun h' eb => ⟨rfl, I.turned (t' := s.toks) (fun b ob hb e => eb b ob hb e) f0 f1 f3 f4 f5⟩
  self := fun A i s Q E st h => wpAny_pyIter_keyiter st h
noncomputable def iKeysD (P : Program) (w : World) (K : PySem.W.Frag) (td : TE) : TI := fun σ H R => td σ H fun x H1 => ∃ d kvs, x = .ref d ∧ KD P w K d kvs ∧ R (Itm kvs) H1
theorem pi_keysD {X : Cx} {tg e : Expr} {td : TE} (he : PE X e td) : PI X tg e (iKeysD X.prog X.w X.K td) := by
  intro pins s σ H R I h
  refine thn (he pins s σ H _ I h) fun u s1 zq12 => ?_
  obtain ⟨x, H1, I1, rx, d, kvs, ex, D, q⟩ := zq12
  subst ex
  obtain rfl : u = Value.ref d := rx
  obtain ⟨o, es, ep, vs, h1, h2, h3, h4, h5, h6, h7, h8, h9⟩ := D.at_
  refine iter_keys h2 (I1.kIn _ _ h1) h3 h4 (pi_one (tk := s1.toks) I1 _ (turn_keysM _ h1 h3 h4 h5 h6 h7 h8 h9) ⟨_, Heap.get?_push_size _ rfl, rfl, ?_⟩ q)
  rw [h5] <;> rfl
theorem for_keysD {kvs : List (Key × V)} {g : TG} {tb : TS} {D : Ends} {σ : St} {H : Hp} (Pv : Nat → St → Hp → Prop) (h0 : Pv 0 σ H)
    (hs : ∀ i k v σ H, kvs[i]? = some (k, v) → Pv i σ H → g (kV k) σ H fun σ2 H2 => tb { D with nx := Pv (i + 1), ct := Pv (i + 1), bk := D.nx } σ2 H2) (hd : ∀ σ H, Pv kvs.length σ H → D.nx σ H) :
    ∃ W : Nat → Nat → St → Hp → Prop, (∃ m, W 0 m σ H) ∧ ∀ i m σ H, W i m σ H →
      ((Itm kvs).stop i H ∧ D.nx σ H) ∨ ((Itm kvs).go i H ∧ ∃ N : St → Hp → Prop, (∀ σ' H', N σ' H' → ∃ m', m' < m ∧ W (i + 1) m' σ' H') ∧ ∀ x H', (Itm kvs).yld i H x H' → g x σ H' fun σ2 H2 => tb { D with nx := N, ct := N, bk := D.nx } σ2 H2) := by
  refine ⟨fun i m σ H => m = kvs.length - i ∧ i ≤ kvs.length ∧ Pv i σ H, ⟨kvs.length, by simp, Nat.zero_le _, h0⟩, ?_⟩
  rintro i m σ H ⟨rfl, hi, p⟩
  by_cases hlt : i < kvs.length
  · refine .inr ⟨hlt, Pv (i + 1), fun σ' H' p' => ⟨kvs.length - (i + 1), by omega, rfl, hlt, p'⟩, fun x H' y => ?_⟩
    obtain ⟨e, k, v, hkv, y⟩ := y
    subst e y
    exact hs i k v σ _ hkv p
  · have e : i = kvs.length := by omega
    subst e
    exact .inl ⟨Nat.le_refl _, hd σ H p⟩
end L2
end
section
set_option Elab.async false
set_option linter.all false
set_option maxRecDepth 100000
set_option maxHeartbeats 2000000
namespace L2
open PySem PySem.Spec PyProof.Rows
section
variable {X : Cx}
noncomputable def ipMul : TIp := fun x y H Q => ∃ i j, x = .int i ∧ y = .int j ∧ CMul i j ∧ Q (.int (i * j)) H
theorem ip_mul : PIp X .Mult ipMul := by
  intro pins s σ H x y v u Q I r1 r2 h
  obtain ⟨i, j, e1, e2, hc, q⟩ := h
  subst e1; subst e2
  obtain ⟨t, rfl⟩ := r1
  obtain ⟨t', rfl⟩ := r2
  exact imul_int ⟨.int _, H, I.tok _, ⟨_, rfl⟩, q⟩ hc.ok
theorem boolsAre_of : ∀ {bs : List Bool} {us : List Value}, Vals (bs.map V.bl) us → LSm.BoolsAre us bs
  | [], _, .nil => .nil
  | n :: _, _, .cons r t => by
    cases r
    exact .cons n (boolsAre_of t)
theorem call_sum (hc : X.calm = true) : CallR X (.builtin "sum") (fun xs H Q => ∃ (p : Addr) (ns : List Int), xs = [.ref p] ∧ SqL X.K H p (ns.map V.int) ∧ Q (.int ns.sum) H) := by
  intro pins s σ H xs us Q I r h
  obtain ⟨p, ns, rfl, hq, q⟩ := h
  obtain ⟨u, rfl, rx⟩ := vals1 r
  cases rx
  obtain ⟨its, r', pl, hz⟩ := I.list hq
  have hi := intsAre_of r'
  obtain ⟨xs, hx⟩ := hi.allInts.items
  have hl' : s.heap.IsList p (intItems xs) := hx ▸ pl.isList
  refine sum_intListG (I.ok.hd hc) hl' fun h' tk t' hk => ?_
  have e1 : ns = xs.toList.map (·.1) := by
    rw [← nums_intItems, ← hx]
    exact (show numsOf its.toArray.toList = ns from hi.numsOf).symm
  have e2 : preSum (numAt xs) xs.size = ns.sum := by
    rw [preSum_eq, List.take_of_length_le (by simp), e1]
  rw [e2]
  exact ⟨.int ns.sum, H, I.kept hk, ⟨_, rfl⟩, q⟩
theorem call_allB (hc : X.calm = true) : CallR X (.builtin "all") (fun xs H Q => ∃ (p : Addr) (bs : List Bool), xs = [.ref p] ∧ SqL X.K H p (bs.map V.bl) ∧ Q (.bl (bs.all id)) H) := by
  intro pins s σ H xs us Q I r h
  obtain ⟨p, bs, rfl, hq, q⟩ := h
  obtain ⟨u, rfl, rx⟩ := vals1 r
  cases rx
  obtain ⟨its, r', pl, hz⟩ := I.list hq
  have hb := boolsAre_of r'
  have hl := pl.isList
  have hlt : p < s.heap.objs.size := by obtain ⟨_, e, _⟩ := hl; exact Heap.lt_size e
  refine call_all_walk (wpAny_pyIter_list hl ?_)
  refine ⟨s.heap.objs.size, [s.heap.objs.size, p], [s.heap.objs.size], its.toArray.size, _, _, fun i => (bs[i]?).getD true, rfl, Walks.list (A := X.A.in1) (I.ok.hd hc) _ p (Nat.ne_of_lt hlt) its.toArray,
    ⟨⟨_, Heap.get?_push_size _ rfl, rfl, rfl⟩, hl.push _⟩, fun i v s' Q' E' hP hQ => ?_, fun h' tk hk => ?_⟩
  · obtain ⟨b, e, rfl⟩ := hb.get i v (by simpa using hP)
    simp only [e, Option.getD_some] at hQ
    exact wpAny_truthy_bool hQ
  · have e : ((List.range its.toArray.size).all fun i => (bs[i]?).getD true) = bs.all id := by
      rw [List.size_toArray, hb.length]; exact LSm.range_all bs
    rw [e]
    exact ⟨.bl _, H, I.kept (LSm.kept_iter hk), rfl, q⟩
end
theorem RgC.up {i j c : Int} {n : Nat} (hc : 0 < c) (hc' : c < 1073741824) (ha : -(2 ^ 60) ≤ i) (ha' : i < 2 ^ 60) (hb : -(2 ^ 60) ≤ j) (hb' : j < 2 ^ 60) (hn : (n : Int) = if i < j then (j - i - 1) / c + 1 else 0) : RgC i j c n := by
  have hs : Builtin.Range.rangeSize i j c = if i < j then (j - i - 1) / c + 1 else 0 := by
    unfold Builtin.Range.rangeSize
    rw [if_pos hc]
  refine ⟨by omega, by omega, ?_, by rw [hs, hn]⟩
  have h1 : i < j → 0 ≤ (j - i - 1) / c ∧ (j - i - 1) / c * c ≤ j - i - 1 := fun h => ⟨Int.ediv_nonneg (by omega) (by omega), Int.ediv_mul_le _ (by omega)⟩
  have h2 : i < j → (j - i - 1) / c ≤ j - i - 1 := fun h => by
    refine Int.ediv_le_self _ (by omega)
  unfold Builtin.Range.small
  rw [hs]
  simp only [Builtin.Range.rangeFitsLong, Bool.and_eq_true, Bool.or_eq_true, decide_eq_true_eq, beq_iff_eq]
  rw [if_pos hc]
  split
  · rename_i h
    have := h1 h
    have := h2 h
    have e : (j - i - 1) / c + 1 - 1 = (j - i - 1) / c := by omega
    refine ⟨by omega, .inr ?_⟩
    rw [Bool.and_eq_true, decide_eq_true_eq, decide_eq_true_eq]
    omega
  · omega
end L2
end
section
set_option Elab.async false
set_option linter.all false
set_option maxRecDepth 100000
set_option maxHeartbeats 2000000
namespace L2
open PySem PySem.Spec PyProof.Rows
section
variable {X : Cx} {o e f : Expr} {apos cpos : Pos} {td ty tx : TE}
noncomputable def tKGet2 (P : Program) (w : World) (K : PySem.W.Frag) (td ty tx : TE) : TE := fun σ H Q => td σ H fun x H1 => ∃ d kvs, x = .ref d ∧ KD P w K d kvs ∧ ty σ H1 fun y H2 => tx σ H2 fun z H3 => ∃ k, y = kV k ∧ Q ((valV kvs k).getD z) H3
theorem pe_kget2 (ho : PE X o td) (he : PE X e ty) (hf : PE X f tx) (m : M2 X o "get" apos e f cpos) : PE X (.Call (.Attribute o "get" apos) [e, f] [] cpos) (tKGet2 X.prog X.w X.K td ty tx) := by
  intro pins s σ H Q I h
  refine wpAny_Call_method m.base m.few m.line PySem.F.plainAttrs_dict PySem.F.slot_dict_get PySem.F.type_dict_get (thn (ho pins s σ H _ I h) fun u s1 zq13 => ?_)
  obtain ⟨x, H1, I1, rx, a, kvs, ex, D, q1⟩ := zq13
  subst ex
  obtain rfl : u = Value.ref a := rx
  obtain ⟨vs0, rel0, dd0⟩ := D.dictOf I1
  obtain ⟨ob, es0, ep0, hob, hx0, _⟩ := id dd0
  refine ⟨dd0.typeIs, fun b q => ?_, ?_⟩
  · cases q
    exact ⟨ob, hob, hx0.2.1⟩
  rw [m.trees]
  refine Calls.callWith_builtin rfl (Calls.evalArgs_plain (Calls.spliced_cons (thn (he pins s1 σ H1 _ I1 q1) fun iv s2 zq14 => ?_)))
  obtain ⟨y, H2, I2, ry, q2⟩ := zq14
  refine Calls.spliced_cons (thn (hf pins s2 σ H2 _ I2 q2) fun fv s3 zq15 => ?_)
  obtain ⟨z, H3, I3, rz, k, ey, q3⟩ := zq15
  refine Calls.spliced_nil ?_
  subst ey
  obtain ⟨vs, rel, dd⟩ := D.dictOf I3
  refine call_meetsIn PySem.F.slot_dict_get dd.typeIs PySem.F.entry_dict_get (PySem.F.args_dict_get_3 _ _ _) (meets_dict_get_default (mixKind X.prog X.w) a (kV_is ry) D.noSys fv) ⟨_, dd.mapOf, ?_⟩
  exact ⟨_, H3, I3.tok _, (rel.val k).getD rz, q3⟩
end
end L2
end
section
set_option Elab.async false
set_option linter.all false
set_option maxRecDepth 100000
set_option maxHeartbeats 2000000
namespace L2
open PySem PySem.Spec PyProof.Rows
structure RoomN (k : Nat) (A : Around) : Prop where
  dp : A.depth + 3 * k + 5 < recursionLimit
  un : A.units + 16 * k + 200 < cLine
theorem Room.n {j k : Nat} {A : Around} (r : Room k A) (h : j ≤ k) : RoomN j A := ⟨(r.mono h).dp, (r.mono h).un⟩
theorem Room.nm {j k : Nat} {A : Around} {e : Option Value} (r : Room k A) (h : j ≤ k) : RoomN j (A.mark e) := ⟨(r.mono h).dp, (r.mono h).un⟩
theorem RoomN.deeper {k : Nat} {A : Around} (r : RoomN (k + 1) A) (env : Env) : RoomN k (A.deeper env) :=
  ⟨by have := r.dp; show A.depth + 1 + 3 * k + 5 < _; omega, by have := r.un; show A.units + 3 + 16 * k + 200 < _; omega⟩
theorem RoomN.make {k : Nat} {A : Around} (r : RoomN (k + 1) A) (C : Addr) (us : List Value) (kw : List (Str × Value)) : RoomN k (A.under (.builtin "type.__call__" ⟨.ref C :: us, kw⟩)) :=
  ⟨by have := r.dp; rw [make_depth]; omega, by have := r.un; rw [make_units]; omega⟩
theorem RoomN.depth {k : Nat} {A : Around} (r : RoomN k A) : A.depth < recursionLimit := by have := r.dp; omega
structure FnOkN (P : Program) (w : World) (K : PySem.W.Frag) (mg : Str → Option Value) (base : Heap) (CX : CXT) (k : Nat) (f : Addr) (fd : FuncData) (ps : List Str) (sp : Sp) : Prop where
  len : ∀ vs H Q E, sp vs H Q E → vs.length = ps.length
  run : ∀ (A : Around) (outer : List Env) (s : Shared) (H : Hp) (args : Args) (us : List Value) (vs : List V) (Q : VK) (E : XK), RoomN k A → Env0 P w K mg base A outer s H → BindsTo s fd args (ps.zip us) → Vals vs us → sp vs H Q E →
    codeAny (model P w) A (.call (.ref f) args) (CR CX outer P w H s Q E) s
noncomputable abbrev cxN (CX : CXT) (P : Program) (w : World) (K : PySem.W.Frag) (mg : Str → Option Value) (base : Heap) (N : List Str) (qual : Str) (scope : Scope) (f : Addr) (cd : Value) (A : Around) (outer : List Env) (s : Shared) (H : Hp) (E : XK) : Cx :=
  { cxOf CX P w K mg base N qual scope f cd A outer s H E with calm := false }
theorem inv_startN {CX : CXT} {P : Program} {w : World} {K : PySem.W.Frag} {mg : Str → Option Value} {base : Heap} {N ps : List Str} {qual : Str} {scope : Scope} {f : Addr} {cd : Value} {A : Around} {outer : List Env} {s s1 : Shared} {H : Hp} {E : XK} {us : List Value} {vs : List V}
    (S : FnScope N ps scope) (e0 : Env0 P w K mg base A outer s H) (hl : vs.length = ps.length) (r : Vals vs us)
    (x : InCallC s s.heap.objs.size (bindL (envOfC qual scope s.heap.objs.size f cd).kindOf (ps.zip us) fun _ => none) (cellsFrom (s.heap.objs.size + 1) scope.names []) (bindC (envOfC qual scope s.heap.objs.size f cd).kindOf (ps.zip us) fun _ => none) s1) :
    Inv (cxN CX P w K mg base N qual scope f cd A outer s H E) [] (start N vs) H s1 := by
  have e1 : Env0 P w K mg base { A with handled := none } outer s H := ⟨e0.frames, e0.mod, e0.bs, e0.bsz, e0.funs, e0.frf, e0.hok, e0.bare⟩
  have I := inv_start (CX := CX) (E := E) S (show ({ A with handled := none } : Around).handled = none from rfl) e1 hl r x
  exact ⟨⟨I.ok.mod, I.ok.kind, I.ok.glob, I.ok.blt, I.ok.above, I.ok.inj, I.ok.has, I.ok.cab, fun z => Bool.noConfusion z, I.ok.frames, I.ok.stk, I.ok.exf, I.ok.bs, I.ok.bsz, I.ok.noex, I.ok.exfs, I.ok.funs, I.ok.frf⟩, I.os, I.bare, I.base, I.loc, I.cell, I.free, I.freeC, I.pin, I.hok, I.len⟩
theorem fn_ofN {CX : CXT} {P : Program} {w : World} {K : PySem.W.Frag} {mg : Str → Option Value} {base : Heap} {k : Nat} {f : Addr} {name qual : Str} {params : Arguments} {body : List Stmt} {scope : Scope} {dV kV doc pm cdv ct oc : Value} {an od : Option Addr}
    {osl : Array (Option Value)} {N ps : List Str} {sp : Sp} (lk : K.lookup f = some ⟨oc, od, .func (PySem.W.fnOf name qual params body scope dV kV doc pm an cdv ct), osl⟩) (hcd : PySem.W.codeIn K cdv qual = true) (S : FnScope N ps scope)
    (len : ∀ vs H Q E, sp vs H Q E → vs.length = ps.length)
    (hbody : ∀ (A : Around) (outer : List Env) (s : Shared) (H : Hp) (vs : List V) (Q : VK) (E : XK), RoomN k (A.deeper (envOfC qual scope s.heap.objs.size f cdv)) → sp vs H Q E →
      ∃ t, PSs (cxN CX P w K mg base N qual scope f cdv A outer s H E) body t ∧ t { nx := fun _ H' => Q .non H', rt := Q } (start N vs) H) :
    FnOkN P w K mg base CX (k + 1) f (PySem.W.fnOf name qual params body scope dV kV doc pm an cdv ct) ps sp := by
  refine ⟨len, fun A outer s H args us vs Q E hr e0 hb r hsp => ?_⟩
  have hl := len _ _ _ _ hsp
  have KX : K.In s.heap := e0.mod.kin.keeps fun b o e => (e0.bs b o e).1
  have lim : s.heap.NoLimit := e0.mod.nolimit.keeps fun b o e => (e0.bs b o e).1
  have hkind : ∀ y ∈ ps.zip us, scope.names.lookup y.1 = some .local ∨ (scope.names.lookup y.1 = some .cell ∧ ((cellsFrom (s.heap.objs.size + 1) scope.names []).lookup y.1).isSome = true) := fun ⟨n, v⟩ hy => by
    rcases S.par n (List.of_mem_zip hy).1 with q | q
    · exact .inl q
    · exact .inr ⟨q, PySem.W.cellsFrom_some _ _ _ (.inl q)⟩
  refine codeAny_call_function hr.depth (KX _ _ lk) rfl S.co S.gen rfl (PySem.W.codeRec_of KX hcd) (hb _ _ _ _ ?_)
  refine wpAny_newFunctionEnv_cells S.kind hkind fun env he s1 x => ?_
  subst he
  refine ⟨lim.keeps x.toInCall.keep, codeAny_func ?_⟩
  obtain ⟨t, ht, hq⟩ := hbody A outer s H vs Q E (hr.deeper _) hsp
  have I : Inv (cxN CX P w K mg base N qual scope f cdv A outer s H E) [] (start N vs) H s1 := inv_startN S e0 hl r x
  refine wpAny_mono (ht [] s1 (start N vs) H _ I hq) (fun fl s' hs => ?_) fun e s' hs => hs
  have fin : ∀ {σ' : St} {H' : Hp} {v : V} {u : Value}, Inv (cxN CX P w K mg base N qual scope f cdv A outer s H E) [] σ' H' s' → RelV v u → Q v H' → CE outer P w H s Q u s' :=
    fun {σ' H' v u} J rv q => ⟨v, H', J.os, J.bare, J.base, J.hok, rv, q⟩
  cases fl with
  | ret u =>
    obtain ⟨v, σ', H', J, rv, q⟩ := hs
    exact fin J rv q
  | next =>
    obtain ⟨σ', H', J, q⟩ := hs
    exact fin (v := V.non) (u := Value.none) J rfl q
  | brk =>
    obtain ⟨_, _, _, q⟩ := hs
    exact False.elim q
  | cont =>
    obtain ⟨_, _, _, q⟩ := hs
    exact False.elim q
section
variable {X : Cx} {CX : CXT} {k : Nat} {f C : Addr} {fd : FuncData} {ps : List Str} {sp : Sp} {dvs : List V} {ds : List Value} {E : XK} {x m : Str} {p pos apos : Pos} {e o : Expr} {es : List Expr} {ta : TE} {t : TA}
theorem run_makeN {pins : List (Addr × Obj)} {σ : St} {H : Hp} {s : Shared} {Q : VK} {us : List Value} {vs : List V} (M : Mk X.K C f) (F : FnOkN X.prog X.w X.K X.mg X.base CX k f fd ps sp) (hr : RoomN (k + 1) X.A) (hb : Binds X.K fd ps ds) (hd : Vals dvs ds)
    (hx : Passes CX X E) (I : Inv X pins σ H s) (r : Vals vs us)
    (h : ∀ x dx, H x = none → H dx = none → dx ≠ x → sp (.ref x :: (vs ++ dvs)) (upd (upd H dx (.own x)) x (.ins C dx [])) (fun v H2 => v = .non ∧ Q (.ref x) H2) E) :
    wpAny (model X.prog X.w) X.A (call (.ref C) us) (EP X pins σ Q) X.xe s := by
  have hq := h (s.heap.objs.size + 1) s.heap.objs.size (I.hok.fresh (Nat.le_succ _)) (I.hok.fresh (Nat.le_refl _)) (Nat.ne_of_lt (Nat.lt_succ_self _))
  have I2 := Inv.made (C := C) I
  have r2 : Vals (V.ref (s.heap.objs.size + 1) :: (vs ++ dvs)) (Value.ref (s.heap.objs.size + 1) :: (us ++ ds)) := .cons rfl (r.append hd)
  have hl : (Value.ref (s.heap.objs.size + 1) :: us ++ ds).length = ps.length := by
    have e := r2.length
    rw [F.len _ _ _ _ hq] at e
    exact e.symm
  refine wpAny_call (make_map (f := f) I.kIn M.makes M.init (beq_iff_eq.mp M.fn) (codeAny_mono (F.run _ X.stack _ _ ⟨Value.ref (s.heap.objs.size + 1) :: us, []⟩ (Value.ref (s.heap.objs.size + 1) :: (us ++ ds)) _ _ E (hr.make C us [])
    (I2.env0.make C us []) (hb _ (Value.ref (s.heap.objs.size + 1) :: us) I2.kIn hl) r2 hq) fun r s' hq' => ?_))
  cases r with
  | error e => exact hx pins σ _ _ e s' I2 hq'
  | ok fl =>
    cases fl with
    | ret u =>
      obtain ⟨v, H', I3, rv, ev, q3⟩ := I2.after hq'
      subst ev
      exact ⟨rv, ⟨V.ref (s.heap.objs.size + 1), H', I3, rfl, q3⟩⟩
    | next => exact False.elim hq'
    | brk => exact False.elim hq'
    | cont => exact False.elim hq'
theorem pe_makeN (M : Mk X.K C f) (F : FnOkN X.prog X.w X.K X.mg X.base CX k f fd ps sp) (hr : RoomN (k + 1) X.A) (hg : Gl X x) (hm : X.mg x = some (.ref C)) (hb : Binds X.K fd ps ds) (hd : Vals dvs ds) (hx : Passes CX X E)
    (ha : PA X (e :: es) t) (hdb : (x == ("__debug__" : Str)) = false := by decide) (he : starEach (e :: es) X.env = (false, eval e X.env) :: starEach es X.env := by rfl) (hpl : (backTo pos (starEach es X.env)).any (·.1) = false := by rfl) :
    PE X (.Call (.Name x p) (e :: es) [] pos) (tMake C sp dvs E t) := by
  intro pins s σ H Q I h
  refine wpAny_Call_Name_kw (ld_glob I hg hm ?_ hdb)
  refine PySem.W.callWith_K (h₀ := X.base) I.ok.mod.kin M.kp (thn (ha pos pins s σ H _ I h) fun us s1 zq16 => ?_) he hpl
  obtain ⟨vs, H1, I1, r, q⟩ := zq16
  refine ⟨I1.kIn, ?_⟩
  exact run_makeN M F hr hb hd hx I1 r q
end
section
variable {X : Cx}
theorem xr_none : XR X E0 := fun _ _ _ _ _ _ _ h => h.elim
theorem pe_lc0 {elt tg iter : Expr} {ifs : List Expr} {scope : Scope} {own : List (Str × Nat)} {pos : Pos} {wi : TI} {g : TG} {tt : TT} {te : TE} (hc : X.calm = true) (hN : X.N.Nodup) (hi : PI X tg iter wi) (ok : BlkOk X.N X.env.scope scope own)
    (hg : ∀ (s : Shared) (H : Hp) (C : Addr) (cl : List (Str × Addr)) (fp : List Addr), PG (X.blkX E0 s H scope (compEnvC scope cl C X.env) fp) tg g) (ht : ∀ (s : Shared) (H : Hp) (C : Addr) (cl : List (Str × Addr)) (fp : List Addr), PTs (X.blkX E0 s H scope (compEnvC scope cl C X.env) fp) ifs tt)
    (he : ∀ (s : Shared) (H : Hp) (C : Addr) (cl : List (Str × Addr)) (fp : List Addr), PE (X.blkX E0 s H scope (compEnvC scope cl C X.env) fp) elt te) (hs : ∀ x, foldedSetIterable iter X.env x = pure x := by intro _; rfl)
    (hpn : X.pn = [] := by rfl) (hst : X.stack = X.env :: X.outer := by rfl) (hfr : X.env.frame = some X.env.locals := by rfl) : PE X (.ListComp elt [⟨tg, iter, ifs, 0⟩] scope pos) (tLc wi g tt te (own.map (·.2))) :=
  pe_lcX hpn hst hfr xr_none hc hN hi ok hg ht he hs
end
structure FunD (K : PySem.W.Frag) (x qual : Str) (st : Stmt) (dV : Value) (f : Addr) (fd : FuncData) : Prop where
  ex : ∃ (oc : Value) (od : Option Addr) (kV doc pm : Value) (an : Option Addr) (cdv ct : Value) (osl : Array (Option Value)),
    fd = PySem.W.fnOf x qual (defArgs st) (defBody st) (defScope st) dV kV doc pm an cdv ct ∧ K.lookup f = some ⟨oc, od, .func fd, osl⟩ ∧ PySem.W.codeIn K cdv qual = true
  kp : PySem.W.keepIn K (.ref f) = true
section
variable {P : Program} {w : World} {K : PySem.W.Frag} {mg : Str → Option Value} {base : Heap}
theorem FunD.okN {x qual : Str} {st : Stmt} {dV : Value} {f : Addr} {fd : FuncData} {N ps : List Str} {k : Nat} {sp : Sp} (F : FunD K x qual st dV f fd) (S : FnScope N ps (defScope st)) (len : ∀ vs H Q E, sp vs H Q E → vs.length = ps.length)
    (hbody : ∀ (cdv : Value) (A : Around) (outer : List Env) (s : Shared) (H : Hp) (vs : List V) (Q : VK) (E : XK), sp vs H Q E →
      ∃ t, PSs (cxN CX0 P w K mg base N qual (defScope st) f cdv A outer s H E).nox (defBody st) t ∧ t { nx := fun _ H' => Q .non H', rt := Q } (start N vs) H) : FnOkN P w K mg base CX0 (k + 1) f fd ps sp := by
  obtain ⟨oc, od, kV, doc, pm, an, cdv, ct, osl, rfl, lk, hcd⟩ := F.ex
  refine fn_ofN lk hcd S len fun A outer s H vs Q E hr hsp => ?_
  obtain ⟨t, h, q⟩ := hbody cdv A outer s H vs Q E hsp
  exact ⟨t, h.nox, q⟩
structure CLD (P : Program) (w : World) (K : PySem.W.Frag) (mg : Str → Option Value) (base : Heap) (x : Str) (C : Addr) (ps : List Str) (sp : Sp) (fs : List Str) (dss : List (List V)) : Prop where
  ex : ∃ f fd, Mk K C f ∧ FnOkN P w K mg base CX0 1 f fd ps sp ∧ ∀ dvs ∈ dss, ∃ ds, Binds K fd ps ds ∧ Vals dvs ds
  mg : mg x = some (.ref C)
  cl : Cls K C
  no : ∀ f ∈ fs, NoAttr K C f
end
section
variable {X : Cx} {pos p : Pos}
theorem pe_mkD {x : Str} {C : Addr} {ps fs : List Str} {sp : Sp} {dss : List (List V)} {dvs : List V} {e : Expr} {es : List Expr} {t : TA} (G : CLD X.prog X.w X.K X.mg X.base x C ps sp fs dss) (hm : dvs ∈ dss) (hr : RoomN 2 X.A) (hg : Gl X x)
    (ha : PA X (e :: es) t) (hdb : (x == ("__debug__" : Str)) = false := by decide) (he : starEach (e :: es) X.env = (false, eval e X.env) :: starEach es X.env := by rfl) (hpl : (backTo pos (starEach es X.env)).any (·.1) = false := by rfl) :
    PE X (.Call (.Name x p) (e :: es) [] pos) (tMake C sp dvs E0 t) := by
  obtain ⟨f, fd, M, F, B⟩ := G.ex
  obtain ⟨ds, hb, hv⟩ := B dvs hm
  exact pe_makeN M F hr hg G.mg hb hv pass0 ha hdb he hpl
end
end L2
end
section
set_option Elab.async false
set_option linter.all false
namespace Pd
open Tote
noncomputable def isLet (c : Nat) : Bool := decide (97 ≤ c) && decide (c ≤ 122)
noncomputable def isDig (c : Nat) : Bool := decide (48 ≤ c) && decide (c ≤ 57)
noncomputable def sg (n : Nat) : Nat := if 97 ≤ n ∧ n ≤ 122 then n else if 48 ≤ n ∧ n ≤ 57 then n else if n = 32 then 32 else if n = 10 then 10 else if n = 44 then 44 else if n = 47 then 47 else 63
noncomputable def cut (c : Nat) : List Nat → List Nat → List (List Nat)
  | acc, [] => [acc]
  | acc, x :: r => if x = c then acc :: cut c [] r else cut c (acc ++ [x]) r
noncomputable def nameM (w : List Nat) : Bool := !w.isEmpty && (decide (w.length ≤ 12) && ((w.head?.map isLet).getD false && w.all fun c => isLet c || isDig c))
noncomputable def valM (w : List Nat) : Nat := w.foldl (fun n c => 10 * n + (c - 48)) 0
noncomputable def numM (w : List Nat) : Int := if 7 < w.length then -1 else if (!w.isEmpty && w.all isDig) = false then -1 else if w.head? = some 48 ∧ w ≠ [48] then -1 else (valM w : Int)
noncomputable def within (w : List Nat) (lo hi : Int) : Option Int := if lo ≤ numM w ∧ numM w ≤ hi then some (numM w) else none
noncomputable def wDay : List Nat := [100, 97, 121]
noncomputable def wRace : List Nat := [114, 97, 99, 101]
noncomputable def wCouple : List Nat := [99, 111, 117, 112, 108, 101]
noncomputable def wPool : List Nat := [112, 111, 111, 108]
noncomputable def wFrom : List Nat := [102, 114, 111, 109]
noncomputable def wTake : List Nat := [116, 97, 107, 101]
noncomputable def wBreak : List Nat := [98, 114, 101, 97, 107]
noncomputable def wLeast : List Nat := [108, 101, 97, 115, 116]
noncomputable def wUnit : List Nat := [117, 110, 105, 116]
noncomputable def wNone : List Nat := [110, 111, 110, 101]
noncomputable def wPlace : List Nat := [112, 108, 97, 99, 101]
noncomputable def wOrder : List Nat := [111, 114, 100, 101, 114]
noncomputable def wAny : List Nat := [97, 110, 121]
noncomputable def wLegs : List Nat := [108, 101, 103, 115]
noncomputable def wRefund : List Nat := [114, 101, 102, 117, 110, 100]
noncomputable def wCarry : List Nat := [99, 97, 114, 114, 121]
noncomputable def wFewer : List Nat := [102, 101, 119, 101, 114]
noncomputable def couplesM (runners : Int) : List Int → List Int → List (List Nat) → Option (List Int)
  | _, fs, [] => some fs
  | hs, fs, c :: a :: b :: r => if c = wCouple then
      match within a 1 runners with
      | none => none
      | some h => match within b (h + 1) runners with
        | none => none
        | some f => if h ∈ fs then none else if f ∈ hs ∨ f ∈ fs then none else couplesM runners (hs ++ [h]) (fs ++ [f]) r
    else none
  | _, _, _ => none
noncomputable def headsM (n : Nat) (fs : List Int) : List Int := ((List.range n).map fun (i : Nat) => (1 : Int) + (i : Int)).filter fun x => !decide (x ∈ fs)
noncomputable def raceM (ws : List (List Nat)) : Option (List Int) :=
  if ws.length % 3 ≠ 2 ∨ 26 < ws.length then none else
    match within (ws.getD 1 []) 2 24 with
    | none => none
    | some n => match couplesM n [] [] (ws.drop 2) with
      | none => none
      | some fs => some (headsM n.toNat fs)
structure MP where
  name : List Nat
  kind : List Nat
  k : Int
  race : Int
  u : Int
  deriving DecidableEq
noncomputable def kindB (w : List Nat) : Option (Int × Int) := if w = wPlace then some (1, 4) else if w = wOrder then some (2, 4) else if w = wAny then some (2, 3) else if w = wLegs then some (2, 6) else none
noncomputable def poolRaceM (w kind : List Nat) (k : Int) (races : List (List Int)) : Option Int :=
  match within w 1 (races.length : Int) with
  | none => none
  | some r => if kind = wLegs then (if r + k - 1 ≤ (races.length : Int) then some r else none)
    else (if k ≤ ((races.getD (r - 1).toNat []).length : Int) then some r else none)
noncomputable def fixedM (ws : List (List Nat)) : Bool := decide (ws.getD 0 [] = wPool) && (decide (ws.getD 4 [] = wFrom) && (decide (ws.getD 6 [] = wTake) && (decide (ws.getD 8 [] = wBreak) && (decide (ws.getD 10 [] = wLeast) && (decide (ws.getD 12 [] = wUnit) && decide (ws.getD 14 [] = wNone))))))
noncomputable def poolM (ws : List (List Nat)) (races : List (List Int)) : Option MP :=
  if ws.length ≠ 16 then none else if fixedM ws = false then none else if nameM (ws.getD 1 []) = false then none else
  match kindB (ws.getD 2 []) with
  | none => none
  | some lh => match within (ws.getD 3 []) lh.1 lh.2 with
    | none => none
    | some k => match poolRaceM (ws.getD 5 []) (ws.getD 2 []) k races with
      | none => none
      | some race => match within (ws.getD 7 []) 0 400 with
        | none => none
        | some _ => match within (ws.getD 9 []) 1 1000 with
          | none => none
          | some _ => match within (ws.getD 13 []) 1 10000 with
            | none => none
            | some u => match within (ws.getD 11 []) 0 (2 * u) with
              | none => none
              | some l => if ¬ (l = 0 ∨ l ≥ u) then none else if ¬ (ws.getD 15 [] = wRefund ∨ ws.getD 15 [] = wCarry ∨ ws.getD 15 [] = wFewer) then none else
                if ¬ (ws.getD 15 [] ≠ wFewer ∨ ws.getD 2 [] ≠ wPlace) then none else some ⟨ws.getD 1 [], ws.getD 2 [], k, race, u⟩
noncomputable def mapO {α β : Type} (f : α → Option β) : List α → Option (List β)
  | [] => some []
  | x :: r => match f x with
    | none => none
    | some y => match mapO f r with
      | none => none
      | some ys => some (y :: ys)
noncomputable def linesM (codes : List Nat) : Option (List (List (List Nat))) := if (cut 10 [] codes).getLast?.getD [] = [] then some ((cut 10 [] codes).dropLast.map (cut 32 [])) else none
noncomputable def isRaceL (ws : List (List Nat)) : Bool := decide (ws.head? = some wRace)
noncomputable def dayM (ws : List (List Nat)) : Bool := decide (ws.length = 2) && (decide (ws.getD 0 [] = wDay) && nameM (ws.getD 1 []))
noncomputable def cardM (codes : List Nat) : Option (List (List Int) × List MP) :=
  match linesM codes with
  | none => none
  | some [] => none
  | some (d :: ls) => if dayM d = false then none else
    if ¬ (1 ≤ (ls.takeWhile isRaceL).length ∧ (ls.takeWhile isRaceL).length ≤ 16) then none else
    match mapO raceM (ls.takeWhile isRaceL) with
    | none => none
    | some races => if 64 < (ls.dropWhile isRaceL).length then none else
      match mapO (fun ws => poolM ws races) (ls.dropWhile isRaceL) with
      | none => none
      | some pools => if (pools.map (·.name)).Nodup then some (races, pools) else none
noncomputable def cw (w : Bytes) : List Nat := w.map fun c => sg c.toNat
noncomputable def cutB (c : UInt8) : Bytes → Bytes → List Bytes
  | acc, [] => [acc]
  | acc, x :: r => if x = c then acc :: cutB c [] r else cutB c (acc ++ [x]) r
theorem sg_10 (c : UInt8) : sg c.toNat = 10 ↔ c = 10 := by
  unfold sg
  constructor
  · intro h
    repeat' split at h
    all_goals first | omega | (apply UInt8.toNat_inj.mp; simpa using by assumption)
  · rintro rfl; decide
theorem sg_32 (c : UInt8) : sg c.toNat = 32 ↔ c = 32 := by
  unfold sg
  constructor
  · intro h
    repeat' split at h
    all_goals first | omega | (apply UInt8.toNat_inj.mp; simpa using by assumption)
  · rintro rfl; decide
theorem cut_cw {c : UInt8} (h : ∀ x : UInt8, sg x.toNat = c.toNat ↔ x = c) : ∀ (l acc : Bytes), cut c.toNat (cw acc) (cw l) = (cutB c acc l).map cw
  | [], acc => rfl
  | x :: r, acc => by
    show (if sg x.toNat = c.toNat then cw acc :: cut c.toNat [] (cw r) else cut c.toNat (cw acc ++ [sg x.toNat]) (cw r)) = (if x = c then acc :: cutB c [] r else cutB c (acc ++ [x]) r).map cw
    by_cases e : x = c
    · rw [if_pos e, if_pos ((h x).mpr e), List.map_cons, ← cut_cw h r []]
      rfl
    · rw [if_neg e, if_neg (fun q => e ((h x).mp q)), ← cut_cw h r (acc ++ [x])]
      congr 1
      simp [cw]
theorem cut10 (l acc : Bytes) : cut 10 (cw acc) (cw l) = (cutB 10 acc l).map cw := cut_cw (c := 10) sg_10 l acc
theorem cut32 (l acc : Bytes) : cut 32 (cw acc) (cw l) = (cutB 32 acc l).map cw := cut_cw (c := 32) sg_32 l acc
theorem sg_plain {n : Nat} (h : (isLet n || isDig n) = true) : sg n = n := by
  unfold isLet isDig at h
  simp only [Bool.or_eq_true, Bool.and_eq_true, decide_eq_true_eq] at h
  unfold sg
  rcases h with h | h
  · rw [if_pos h]
  · rw [if_neg (by omega), if_pos h]
theorem sg_all : ∀ n, n < 256 → (isLet (sg n) = isLet n ∧ isDig (sg n) = isDig n ∧ ((isLet (sg n) || isDig (sg n)) = true → sg n = n)) := by decide +kernel
theorem plain_sg {c : UInt8} (h : (isLet (sg c.toNat) || isDig (sg c.toNat)) = true) : sg c.toNat = c.toNat := (sg_all _ c.toNat_lt).2.2 h
theorem isLet_sg (c : UInt8) : isLet (sg c.toNat) = isLet c.toNat := (sg_all _ c.toNat_lt).1
theorem isDig_sg (c : UInt8) : isDig (sg c.toNat) = isDig c.toNat := (sg_all _ c.toNat_lt).2.1
theorem isSmall_eq (c : UInt8) : isSmall c = isLet c.toNat := by
  unfold isSmall isLet
  simp only [UInt8.le_iff_toNat_le]
  rfl
theorem isDigit_eq (c : UInt8) : isDigit c = isDig c.toNat := by
  unfold isDigit isDig
  simp only [UInt8.le_iff_toNat_le]
  rfl
theorem all_cw (p : Nat → Bool) (q : UInt8 → Bool) (h : ∀ c : UInt8, p (sg c.toNat) = q c) (w : Bytes) : (cw w).all p = w.all q := by
  unfold cw
  rw [List.all_map]
  congr 1
  funext c
  exact h c
theorem name_cw (w : Bytes) : nameM (cw w) = isName w := by
  unfold nameM isName NAME
  have e1 : (cw w).all (fun c => isLet c || isDig c) = w.all (fun c => isSmall c || isDigit c) := all_cw _ _ (fun c => by rw [isLet_sg, isDig_sg, isSmall_eq, isDigit_eq]) w
  rw [e1]
  cases w with
  | nil => rfl
  | cons c r =>
    have e2 : ((cw (c :: r)).head?.map isLet).getD false = ((c :: r).head?.map isSmall).getD false := by
      show isLet (sg c.toNat) = isSmall c
      rw [isLet_sg, isSmall_eq]
    have e3 : (cw (c :: r)).length = (c :: r).length := by unfold cw; rw [List.length_map]
    have e4 : (cw (c :: r)).isEmpty = false := rfl
    rw [e2, e3, e4]
    have e5 : decide (1 ≤ (c :: r).length) = true := by simp
    rw [e5]
    simp only [Bool.not_false, Bool.true_and]
    rw [Bool.and_comm (x := ((c :: r).head?.map isSmall).getD false)]
noncomputable def toN (w : Bytes) : List Nat := w.map (·.toNat)
theorem cw_eq {w : Bytes} {t : List Nat} (ht : t.all (fun c => isLet c || isDig c) = true) : cw w = t ↔ toN w = t := by
  induction w generalizing t with
  | nil => exact Iff.rfl
  | cons c r ih =>
    cases t with
    | nil => constructor <;> (intro h; cases h)
    | cons d t =>
      rw [List.all_cons, Bool.and_eq_true] at ht
      have i := ih ht.2
      constructor
      · intro h
        have h1 : sg c.toNat = d := (List.cons.inj h).1
        have h2 : cw r = t := (List.cons.inj h).2
        have e : sg c.toNat = c.toNat := plain_sg (by rw [h1]; exact ht.1)
        show c.toNat :: toN r = d :: t
        rw [← e, h1, i.mp h2]
      · intro h
        have h1 : c.toNat = d := (List.cons.inj h).1
        have h2 : toN r = t := (List.cons.inj h).2
        show sg c.toNat :: cw r = d :: t
        rw [sg_plain (by rw [h1]; exact ht.1), h1, i.mpr h2]
theorem toN_inj {v w : Bytes} (h : toN v = toN w) : v = w := by
  unfold toN at h
  exact (List.map_inj_right (fun _ _ => UInt8.toNat_inj.mp)).mp h
theorem cw_word {w v : Bytes} {t : List Nat} (e : toN v = t) (ht : t.all (fun c => isLet c || isDig c) = true) : cw w = t ↔ w = v := by
  rw [cw_eq ht]
  exact ⟨fun h => toN_inj (h.trans e.symm), fun h => by rw [h]; exact e⟩
theorem cw_day (w : Bytes) : cw w = wDay ↔ w = ascii "day" := cw_word (by decide) (by decide)
theorem cw_race (w : Bytes) : cw w = wRace ↔ w = ascii "race" := cw_word (by decide) (by decide)
theorem cw_couple (w : Bytes) : cw w = wCouple ↔ w = ascii "couple" := cw_word (by decide) (by decide)
theorem cw_pool (w : Bytes) : cw w = wPool ↔ w = ascii "pool" := cw_word (by decide) (by decide)
theorem cw_from (w : Bytes) : cw w = wFrom ↔ w = ascii "from" := cw_word (by decide) (by decide)
theorem cw_take (w : Bytes) : cw w = wTake ↔ w = ascii "take" := cw_word (by decide) (by decide)
theorem cw_break (w : Bytes) : cw w = wBreak ↔ w = ascii "break" := cw_word (by decide) (by decide)
theorem cw_least (w : Bytes) : cw w = wLeast ↔ w = ascii "least" := cw_word (by decide) (by decide)
theorem cw_unit (w : Bytes) : cw w = wUnit ↔ w = ascii "unit" := cw_word (by decide) (by decide)
theorem cw_none (w : Bytes) : cw w = wNone ↔ w = ascii "none" := cw_word (by decide) (by decide)
theorem cw_place (w : Bytes) : cw w = wPlace ↔ w = ascii "place" := cw_word (by decide) (by decide)
theorem cw_order (w : Bytes) : cw w = wOrder ↔ w = ascii "order" := cw_word (by decide) (by decide)
theorem cw_any (w : Bytes) : cw w = wAny ↔ w = ascii "any" := cw_word (by decide) (by decide)
theorem cw_legs (w : Bytes) : cw w = wLegs ↔ w = ascii "legs" := cw_word (by decide) (by decide)
theorem cw_refund (w : Bytes) : cw w = wRefund ↔ w = ascii "refund" := cw_word (by decide) (by decide)
theorem cw_carry (w : Bytes) : cw w = wCarry ↔ w = ascii "carry" := cw_word (by decide) (by decide)
theorem cw_fewer (w : Bytes) : cw w = wFewer ↔ w = ascii "fewer" := cw_word (by decide) (by decide)
theorem foldl_cw (w : Bytes) (h : w.all isDigit = true) : ∀ n : Nat, (cw w).foldl (fun n c => 10 * n + (c - 48)) n = w.foldl (fun (n : Nat) (c : UInt8) => 10 * n + (c.toNat - 48)) n := by
  induction w with
  | nil => intro n; rfl
  | cons c r ih =>
    intro n
    rw [List.all_cons, Bool.and_eq_true] at h
    show (cw r).foldl _ (10 * n + (sg c.toNat - 48)) = r.foldl _ (10 * n + (c.toNat - 48))
    rw [sg_plain (by rw [Bool.or_eq_true]; exact .inr (by rw [← isDigit_eq]; exact h.1))]
    exact ih h.2 _
theorem fold_ge (w : Bytes) (h : w.all isDigit = true) : ∀ n : Nat, n * 10 ^ w.length ≤ w.foldl (fun (n : Nat) (c : UInt8) => 10 * n + (c.toNat - 48)) n := by
  induction w with
  | nil => intro n; simp
  | cons c r ih =>
    intro n
    rw [List.all_cons, Bool.and_eq_true] at h
    have := ih h.2 (10 * n + (c.toNat - 48))
    rw [List.foldl_cons]
    refine Nat.le_trans ?_ this
    rw [List.length_cons, Nat.pow_succ]
    have e : n * (10 ^ r.length * 10) = (10 * n) * 10 ^ r.length := by
      rw [Nat.mul_comm (10 ^ r.length) 10, ← Nat.mul_assoc, Nat.mul_comm n 10]
    rw [e]
    exact Nat.mul_le_mul_right _ (Nat.le_add_right _ _)
theorem numberOf_some {w : Bytes} {n : Nat} : numberOf w = some n ↔ (w.isEmpty = false ∧ w.all isDigit = true ∧ ¬ (w.head? = some 48 ∧ w ≠ [48])) ∧ n = w.foldl (fun (n : Nat) (c : UInt8) => 10 * n + (c.toNat - 48)) 0 := by
  unfold numberOf
  constructor
  · intro h
    split at h
    · cases h
    · rename_i hc
      have e := Option.some.inj h
      refine ⟨⟨?_, ?_, ?_⟩, e.symm⟩
      · cases q : w.isEmpty with
        | false => rfl
        | true => exact absurd (.inl q) hc
      · cases q : w.all isDigit with
        | true => rfl
        | false => exact absurd (.inr (.inl q)) hc
      · exact fun q => hc (.inr (.inr q))
  · rintro ⟨⟨h1, h2, h3⟩, rfl⟩
    rw [if_neg]
    rintro (q | q | q)
    · rw [h1] at q; cases q
    · rw [h2] at q; cases q
    · exact h3 q
theorem numM_cw_of {w : Bytes} {n : Nat} (h : numberOf w = some n) (hn : n < 10000000) : numM (cw w) = (n : Int) := by
  obtain ⟨⟨h1, h2, h3⟩, e⟩ := numberOf_some.mp h
  have hl : (cw w).length = w.length := by unfold cw; rw [List.length_map]
  have len : w.length ≤ 7 := by
    rcases Nat.lt_or_ge 7 w.length with q | q
    · exfalso
      cases w with
      | nil => simp at q
      | cons c r =>
        rw [List.all_cons, Bool.and_eq_true] at h2
        have hc : c ≠ 48 := fun z => h3 ⟨by rw [z]; rfl, by
          intro y
          have := (List.cons.inj y).2
          rw [this] at q
          simp at q⟩
        have h48 : 48 ≤ c.toNat := by
          have := h2.1
          rw [isDigit_eq] at this
          unfold isDig at this
          simp only [Bool.and_eq_true, decide_eq_true_eq] at this
          exact this.1
        have hc' : c.toNat ≠ 48 := fun z => hc (UInt8.toNat_inj.mp (by rw [z]; rfl))
        have g := fold_ge r h2.2 (10 * 0 + (c.toNat - 48))
        rw [List.foldl_cons] at e
        rw [← e] at g
        have p1 : 1 ≤ 10 * 0 + (c.toNat - 48) := by omega
        have p2 : (10 : Nat) ^ 7 ≤ 10 ^ r.length := Nat.pow_le_pow_right (by decide) (by rw [List.length_cons] at q; omega)
        have p3 : 1 * 10 ^ r.length ≤ (10 * 0 + (c.toNat - 48)) * 10 ^ r.length := Nat.mul_le_mul_right _ p1
        have p4 : (10 : Nat) ^ 7 = 10000000 := by decide
        omega
    · exact q
  unfold numM
  rw [if_neg (by rw [hl]; omega)]
  have e1 : (!(cw w).isEmpty && (cw w).all isDig) = true := by
    rw [all_cw isDig isDigit (fun c => by rw [isDig_sg, isDigit_eq]) w, h2]
    cases w with
    | nil => cases h1
    | cons c r => rfl
  rw [if_neg (by rw [e1]; intro q; cases q), if_neg]
  · unfold valM
    rw [foldl_cw w h2 0, ← e]
  · rintro ⟨q1, q2⟩
    cases w with
    | nil => cases h1
    | cons c r =>
      rw [List.all_cons, Bool.and_eq_true] at h2
      have p : sg c.toNat = c.toNat := sg_plain (by rw [Bool.or_eq_true]; exact .inr (by rw [← isDigit_eq]; exact h2.1))
      have hc : c = 48 := by
        have z : sg c.toNat = 48 := Option.some.inj q1
        rw [p] at z
        exact UInt8.toNat_inj.mp (by rw [z]; rfl)
      refine h3 ⟨by rw [hc]; rfl, fun y => q2 ?_⟩
      rw [y]
      rfl
theorem of_numM_cw {w : Bytes} (h : 0 ≤ numM (cw w)) : numberOf w = some (numM (cw w)).toNat ∧ (numM (cw w)).toNat < 10000000 := by
  unfold numM at h
  split at h
  · omega
  · rename_i g1
    split at h
    · omega
    · rename_i g2
      split at h
      · omega
      · rename_i g3
        have hl : (cw w).length = w.length := by unfold cw; rw [List.length_map]
        have e1 : (!(cw w).isEmpty && (cw w).all isDig) = true := by
          cases q : (!(cw w).isEmpty && (cw w).all isDig) with
          | true => rfl
          | false => exact absurd q g2
        rw [all_cw isDig isDigit (fun c => by rw [isDig_sg, isDigit_eq]) w, Bool.and_eq_true] at e1
        have h2 := e1.2
        have nm : numberOf w = some (valM (cw w)) := by
          refine numberOf_some.mpr ⟨⟨?_, h2, ?_⟩, ?_⟩
          · cases w with
            | nil => cases e1.1
            | cons c r => rfl
          · rintro ⟨q1, q2⟩
            refine g3 ⟨?_, fun y => q2 ?_⟩
            · cases w with
              | nil => cases q1
              | cons c r =>
                have z : c = 48 := Option.some.inj q1
                rw [z]
                rfl
            · exact (cw_word (v := [48]) (by decide) (by decide)).mp y
          · unfold valM
            rw [foldl_cw w h2 0]
        have val : numM (cw w) = (valM (cw w) : Int) := by
          unfold numM
          rw [if_neg g1, if_neg g2, if_neg g3]
        rw [val]
        refine ⟨by rw [nm]; rfl, ?_⟩
        -- at most seven figures
        have up : ∀ (l : List Nat), l.all isDig = true → ∀ n : Nat, l.foldl (fun n c => 10 * n + (c - 48)) n < (n + 1) * 10 ^ l.length := by
          intro l
          induction l with
          | nil => intro _ n; simp
          | cons c r ih =>
            intro hd n
            rw [List.all_cons, Bool.and_eq_true] at hd
            have hc := hd.1
            unfold isDig at hc
            simp only [Bool.and_eq_true, decide_eq_true_eq] at hc
            have := ih hd.2 (10 * n + (c - 48))
            rw [List.foldl_cons]
            refine Nat.lt_of_lt_of_le this ?_
            rw [List.length_cons, Nat.pow_succ]
            have e : (n + 1) * (10 ^ r.length * 10) = (10 * (n + 1)) * 10 ^ r.length := by
              rw [Nat.mul_comm (10 ^ r.length) 10, ← Nat.mul_assoc, Nat.mul_comm (n + 1) 10]
            rw [e]
            exact Nat.mul_le_mul_right _ (by omega)
        have u := up (cw w) (by rw [all_cw isDig isDigit (fun c => by rw [isDig_sg, isDigit_eq]) w]; exact h2) 0
        have p : (10 : Nat) ^ (cw w).length ≤ 10 ^ 7 := Nat.pow_le_pow_right (by decide) (by omega)
        have p4 : (10 : Nat) ^ 7 = 10000000 := by decide
        show valM (cw w) < 10000000
        unfold valM
        omega
theorem within_cw {w : Bytes} {lo hi : Nat} (hhi : hi < 10000000) {n : Int} : within (cw w) (lo : Int) (hi : Int) = some n ↔ ∃ k : Nat, n = (k : Int) ∧ numberOf w = some k ∧ lo ≤ k ∧ k ≤ hi := by
  unfold within
  constructor
  · intro h
    split at h
    · rename_i q
      have e := Option.some.inj h
      have z := of_numM_cw (w := w) (by omega)
      refine ⟨(numM (cw w)).toNat, by omega, z.1, by omega, by omega⟩
    · cases h
  · rintro ⟨k, rfl, hk, h1, h2⟩
    have e := numM_cw_of hk (by omega)
    rw [e, if_pos (by omega)]
end Pd
end
section
set_option Elab.async false
set_option linter.all false
namespace Pd
open Tote
theorem bind_ok {ε α β : Type} {x : Except ε α} {f : α → Except ε β} {b : β} : (x >>= f) = .ok b ↔ ∃ a, x = .ok a ∧ f a = .ok b := by
  cases x with
  | error e => exact ⟨fun h => (by cases h), fun ⟨a, h, _⟩ => (by cases h)⟩
  | ok a => exact ⟨fun h => ⟨a, rfl, h⟩, fun ⟨a', h, h2⟩ => (by cases h; exact h2)⟩
theorem map_ok {ε α β : Type} {x : Except ε α} {f : α → β} {b : β} : x.map f = .ok b ↔ ∃ a, x = .ok a ∧ f a = b := by
  cases x with
  | error e => exact ⟨fun h => (by cases h), fun ⟨a, h, _⟩ => (by cases h)⟩
  | ok a => exact ⟨fun h => ⟨a, rfl, (by cases h; rfl)⟩, fun ⟨a', h, h2⟩ => (by cases h; rw [← h2]; rfl)⟩
theorem next_ok {e : Nat} {l : List Word} {x : Word × List Word} : next e l = .ok x ↔ l = x.1 :: x.2 := by
  cases l with
  | nil => exact ⟨fun h => (by cases h), fun h => (by cases h)⟩
  | cons w r => exact ⟨fun h => (by cases h; rfl), fun h => (by cases h; rfl)⟩
theorem must_ok {e : Nat} {s : String} {l m : List Word} : must e s l = .ok m ↔ ∃ w, l = w :: m ∧ w.w = ascii s := by
  unfold must
  rw [bind_ok]
  constructor
  · rintro ⟨x, h1, h2⟩
    split at h2
    · rename_i q
      cases h2
      exact ⟨x.1, next_ok.mp h1, q⟩
    · cases h2
  · rintro ⟨w, rfl, q⟩
    exact ⟨(w, m), rfl, by rw [if_pos q]; rfl⟩
theorem closed_ok {l : List Word} {u : Unit} : closed l = .ok u ↔ l = [] := by
  cases l with
  | nil => exact ⟨fun _ => rfl, fun _ => rfl⟩
  | cons w r => exact ⟨fun h => (by cases h), fun h => (by cases h)⟩
theorem newName_ok {e : Nat} {had : List Bytes} {l : List Word} {x : Bytes × List Word} : newName e had l = .ok x ↔ ∃ w, l = w :: x.2 ∧ x.1 = w.w ∧ isName w.w = true ∧ w.w ∉ had := by
  unfold newName
  rw [bind_ok]
  constructor
  · rintro ⟨y, h1, h2⟩
    split at h2
    · cases h2
    · rename_i q
      split at h2
      · cases h2
      · rename_i q2
        cases h2
        exact ⟨y.1, next_ok.mp h1, rfl, by simpa using q, by simpa using q2⟩
  · rintro ⟨w, rfl, q0, q1, q2⟩
    obtain ⟨a, b⟩ := x
    have q0 : a = w.w := q0
    subst q0
    refine ⟨(w, b), rfl, ?_⟩
    rw [if_neg (by rw [q1]; intro z; cases z), if_neg (by simpa using q2)]
    rfl
theorem number_ok {e lo hi : Nat} {l : List Word} {x : (Nat × Nat) × List Word} : number e lo hi l = .ok x ↔ ∃ w, l = w :: x.2 ∧ numberOf w.w = some x.1.1 ∧ lo ≤ x.1.1 ∧ x.1.1 ≤ hi ∧ x.1.2 = w.at_ := by
  unfold number
  rw [bind_ok]
  constructor
  · rintro ⟨y, h1, h2⟩
    split at h2
    · cases h2
    · rename_i n q
      split at h2
      · cases h2
      · rename_i q2
        cases h2
        exact ⟨y.1, next_ok.mp h1, q, (show lo ≤ n by omega), (show n ≤ hi by omega), rfl⟩
  · rintro ⟨w, rfl, q0, q1, q2, q3⟩
    obtain ⟨⟨a, b⟩, c⟩ := x
    have q3 : b = w.at_ := q3
    have q1 : lo ≤ a := q1
    have q2 : a ≤ hi := q2
    subst q3
    refine ⟨(w, c), rfl, ?_⟩
    simp only [q0]
    rw [if_neg (by show ¬ (a < lo ∨ hi < a); omega)]
    rfl
theorem holds_ok {b : Bool} {k p : Nat} {u : Unit} : holds b k p = .ok u ↔ b = true := by
  unfold holds
  cases b
  · exact ⟨fun h => (by cases h), fun h => (by cases h)⟩
  · exact ⟨fun _ => rfl, fun _ => rfl⟩
theorem oneOf_ok {α : Type} {e : Nat} {t : List (α × String)} {l : List Word} {x : (α × Nat) × List Word} : oneOf e t l = .ok x ↔ ∃ w y, l = w :: x.2 ∧ t.find? (fun (y : α × String) => ascii y.2 == w.w) = some y ∧ x.1.1 = y.1 ∧ x.1.2 = w.at_ := by
  unfold oneOf
  rw [bind_ok]
  constructor
  · rintro ⟨z, h1, h2⟩
    split at h2
    · cases h2
    · rename_i y q
      cases h2
      exact ⟨z.1, y, next_ok.mp h1, q, rfl, rfl⟩
  · rintro ⟨w, y, rfl, q1, q2, q3⟩
    obtain ⟨⟨a, b⟩, c⟩ := x
    have q2 : a = y.1 := q2
    have q3 : b = w.at_ := q3
    subst q2 q3
    refine ⟨(w, c), rfl, ?_⟩
    simp only [q1]
    rfl
noncomputable def coupS (runners : Nat) : Nat → List (Nat × Nat) → List Bytes → Option (List (Nat × Nat))
  | 0, had, [] => some had
  | 0, _, _ :: _ => none
  | _ + 1, had, [] => some had
  | k + 1, had, c :: a :: b :: r => if c = ascii "couple" then
      match numberOf a with
      | none => none
      | some x => match numberOf b with
        | none => none
        | some y => if 1 ≤ x ∧ x ≤ runners ∧ (had.any fun (z : Nat × Nat) => z.2 == x) = false ∧ 1 ≤ y ∧ y ≤ runners ∧ x < y ∧ (had.any fun (z : Nat × Nat) => z.1 == y || z.2 == y) = false then coupS runners k (putB (x, y) had) r else none
    else none
  | _ + 1, _, _ => none
theorem couplesIn_ok {e runners : Nat} : ∀ (k : Nat) (had : List (Nat × Nat)) (l : List Word) (z : List (Nat × Nat)), couplesIn e runners k had l = .ok z ↔ coupS runners k had (l.map (·.w)) = some z
  | 0, had, [], z => by
    show Except.ok had = .ok z ↔ some had = some z
    exact ⟨fun h => (by cases h; rfl), fun h => (by cases h; rfl)⟩
  | 0, had, w :: r, z => by
    show (if w.w = ascii "couple" then Except.error _ else Except.error _) = .ok z ↔ none = some z
    constructor
    · intro h
      split at h <;> cases h
    · intro h; cases h
  | k + 1, had, [], z => by
    show Except.ok had = .ok z ↔ some had = some z
    exact ⟨fun h => (by cases h; rfl), fun h => (by cases h; rfl)⟩
  | k + 1, had, w :: l, z => by
    unfold couplesIn
    rw [if_neg (by simp)]
    simp only [bind_ok, must_ok, number_ok, holds_ok]
    constructor
    · rintro ⟨m, ⟨c, h1, h2⟩, ⟨⟨x, px⟩, m2⟩, ⟨wa, h3, h4, h5, h6, h7⟩, _, h8, ⟨⟨y, py⟩, m3⟩, ⟨wb, h9, h10, h11, h12, h13⟩, _, h14, h15⟩
      cases h1
      have h3 : l = wa :: m2 := h3
      have h9 : m2 = wb :: m3 := h9
      subst h3 h9
      rw [couplesIn_ok k] at h15
      simp only [Bool.and_eq_true, decide_eq_true_eq, Bool.not_eq_true'] at h8 h14
      show (if w.w = ascii "couple" then _ else none) = some z
      rw [if_pos h2]
      simp only [h4, h10]
      rw [if_pos ⟨h5, h6, h8, h11, h12, h14.1, h14.2⟩]
      exact h15
    · intro h
      cases l with
      | nil => cases h
      | cons wa l =>
        cases l with
        | nil => cases h
        | cons wb r =>
          have h : (if w.w = ascii "couple" then
            match numberOf wa.w with
            | none => none
            | some x => match numberOf wb.w with
              | none => none
              | some y => if 1 ≤ x ∧ x ≤ runners ∧ (had.any fun (z : Nat × Nat) => z.2 == x) = false ∧ 1 ≤ y ∧ y ≤ runners ∧ x < y ∧ (had.any fun (z : Nat × Nat) => z.1 == y || z.2 == y) = false then coupS runners k (putB (x, y) had) (r.map (·.w)) else none
            else none) = some z := h
          split at h
          · rename_i hc
            split at h
            · cases h
            · rename_i x hx
              split at h
              · cases h
              · rename_i y hy
                split at h
                · rename_i q
                  obtain ⟨q1, q2, q3, q4, q5, q6, q7⟩ := q
                  refine ⟨_, ⟨w, rfl, hc⟩, ((x, wa.at_), wb :: r), ⟨wa, rfl, hx, q1, q2, rfl⟩, (), ?_, ((y, wb.at_), r), ⟨wb, rfl, hy, q4, q5, rfl⟩, (), ?_, ?_⟩
                  · simp only [q3, Bool.not_false]
                  · simp only [q6, q7, decide_true, Bool.not_false, Bool.and_self]
                  · exact (couplesIn_ok k _ r z).mpr h
                · cases h
          · cases h
noncomputable def RaceOk (ws : List Bytes) (r : Race) : Prop := ∃ w cs, ws = w :: cs ∧ numberOf w = some r.runners ∧ 2 ≤ r.runners ∧ r.runners ≤ 24 ∧ coupS r.runners 8 [] cs = some r.couples
theorem raceIn_ok {e : Nat} {l : List Word} {r : Race} : raceIn e l = .ok r ↔ RaceOk (l.map (·.w)) r := by
  unfold raceIn
  simp only [bind_ok, number_ok]
  constructor
  · rintro ⟨⟨⟨n, p⟩, m⟩, ⟨w, h1, h2, h3, h4, h5⟩, c, h6, h7⟩
    have h1 : l = w :: m := h1
    subst h1
    cases h7
    exact ⟨w.w, m.map (·.w), rfl, h2, h3, h4, (couplesIn_ok 8 [] m c).mp h6⟩
  · rintro ⟨w, cs, h1, h2, h3, h4, h5⟩
    cases l with
    | nil => cases h1
    | cons x m =>
      obtain ⟨e1, e2⟩ := List.cons.inj h1
      obtain ⟨rn, co⟩ := r
      refine ⟨((rn, x.at_), m), ⟨x, rfl, ?_, h3, h4, rfl⟩, co, ?_, rfl⟩
      · have e1 : x.w = w := e1
        rw [e1]; exact h2
      · refine (couplesIn_ok 8 [] m co).mpr ?_
        rw [e2]; exact h5
noncomputable def kindW : Kind → Bytes
  | .place => ascii "place"
  | .order => ascii "order"
  | .any => ascii "any"
  | .legs => ascii "legs"
noncomputable def noneW : None_ → Bytes
  | .refund => ascii "refund"
  | .carry => ascii "carry"
  | .fewer => ascii "fewer"
theorem kinds_find {w : Bytes} {k : Kind} : (∃ y, KINDS.find? (fun (y : Kind × String) => ascii y.2 == w) = some y ∧ k = y.1) ↔ w = kindW k := by
  constructor
  · rintro ⟨y, h, rfl⟩
    have h1 := List.find?_some h
    have h2 := List.mem_of_find?_eq_some h
    have h1 : (ascii y.2 == w) = true := h1
    have h1 := eq_of_beq h1
    rw [← h1]
    simp only [KINDS, List.mem_cons, List.not_mem_nil, or_false] at h2
    rcases h2 with rfl | rfl | rfl | rfl <;> rfl
  · rintro rfl
    cases k
    · exact ⟨(.place, "place"), by decide, rfl⟩
    · exact ⟨(.order, "order"), by decide, rfl⟩
    · exact ⟨(.any, "any"), by decide, rfl⟩
    · exact ⟨(.legs, "legs"), by decide, rfl⟩
theorem nones_find {w : Bytes} {k : None_} {kd : Kind} : (∃ y, (if kd = .place then NONES.take 2 else NONES).find? (fun (y : None_ × String) => ascii y.2 == w) = some y ∧ k = y.1) ↔ w = noneW k ∧ ¬ (kd = .place ∧ k = .fewer) := by
  constructor
  · rintro ⟨y, h, rfl⟩
    have h1 := List.find?_some h
    have h2 := List.mem_of_find?_eq_some h
    have h1 : (ascii y.2 == w) = true := h1
    have h1 := eq_of_beq h1
    rw [← h1]
    split at h2
    · rename_i hk
      simp only [NONES, List.take, List.mem_cons, List.not_mem_nil, or_false] at h2
      rcases h2 with rfl | rfl
      · exact ⟨rfl, fun z => by cases z.2⟩
      · exact ⟨rfl, fun z => by cases z.2⟩
    · rename_i hk
      simp only [NONES, List.mem_cons, List.not_mem_nil, or_false] at h2
      refine ⟨?_, fun z => hk z.1⟩
      rcases h2 with rfl | rfl | rfl <;> rfl
  · rintro ⟨rfl, hn⟩
    by_cases hk : kd = .place
    · rw [if_pos hk]
      cases k
      · exact ⟨(.refund, "refund"), by decide, rfl⟩
      · exact ⟨(.carry, "carry"), by decide, rfl⟩
      · exact absurd ⟨hk, rfl⟩ hn
    · rw [if_neg hk]
      cases k
      · exact ⟨(.refund, "refund"), by decide, rfl⟩
      · exact ⟨(.carry, "carry"), by decide, rfl⟩
      · exact ⟨(.fewer, "fewer"), by decide, rfl⟩
structure PoolW where
  n : Bytes
  kd : Bytes
  k : Bytes
  r : Bytes
  t : Bytes
  b : Bytes
  m : Bytes
  u : Bytes
  z : Bytes
noncomputable def PoolW.ws (x : PoolW) : List Bytes := [x.n, x.kd, x.k, ascii "from", x.r, ascii "take", x.t, ascii "break", x.b, ascii "least", x.m, ascii "unit", x.u, ascii "none", x.z]
structure PoolOk (races : List Race) (ws : List Bytes) (x : PoolW) (p : Pool) : Prop where
  ws : ws = x.ws
  name : x.n = p.name
  isN : isName p.name = true
  kd : x.kd = kindW p.kind
  k : numberOf x.k = some p.k
  k1 : leastK p.kind ≤ p.k
  k2 : p.k ≤ mostK p.kind
  r : numberOf x.r = some p.race
  r1 : 1 ≤ p.race
  r2 : p.race ≤ races.length
  legs : p.kind = .legs → p.race + p.k ≤ races.length + 1
  heads : p.kind ≠ .legs → ((races[p.race - 1]?).map fun (x : Race) => decide (p.k ≤ x.heads.length)).getD false = true
  t : numberOf x.t = some p.take
  t2 : p.take ≤ 400
  b : numberOf x.b = some p.brk
  b1 : 1 ≤ p.brk
  b2 : p.brk ≤ 1000
  m : numberOf x.m = some p.least
  m2 : p.least ≤ 20000
  u : numberOf x.u = some p.unit
  u1 : 1 ≤ p.unit
  u2 : p.unit ≤ 10000
  mu : p.least = 0 ∨ (p.unit ≤ p.least ∧ p.least ≤ 2 * p.unit)
  z : x.z = noneW p.none_
  pf : ¬ (p.kind = .place ∧ p.none_ = .fewer)
theorem list2 {α : Type} {l : List α} (h : l.length = 2) : ∃ a b, l = [a, b] := match l, h with | [a, b], _ => ⟨a, b, rfl⟩
theorem ls_0 {α : Type} {us : List α} (h : us.length = 0) : us = [] := List.length_eq_zero_iff.mp h
theorem ls_s {α : Type} {us : List α} {n : Nat} (h : us.length = n + 1) : ∃ a r, us = a :: r ∧ r.length = n := by
  cases us with
  | nil => cases h
  | cons a r => exact ⟨a, r, rfl, Nat.succ.inj h⟩
theorem ls_5 {α : Type} {us : List α} {n : Nat} (h : us.length = n + 5) : ∃ a b c d x r, us = a :: b :: c :: d :: x :: r ∧ r.length = n := by
  obtain ⟨a, r1, e1, h⟩ := ls_s h
  obtain ⟨b, r2, e2, h⟩ := ls_s h
  obtain ⟨c, r3, e3, h⟩ := ls_s h
  obtain ⟨d, r4, e4, h⟩ := ls_s h
  obtain ⟨x, r5, e5, h⟩ := ls_s h
  exact ⟨a, b, c, d, x, r5, by rw [e1, e2, e3, e4, e5], h⟩
theorem list15 {α : Type} {l : List α} (h : l.length = 15) : ∃ a1 a2 a3 a4 a5 a6 a7 a8 a9 a10 a11 a12 a13 a14 a15, l = [a1, a2, a3, a4, a5, a6, a7, a8, a9, a10, a11, a12, a13, a14, a15] := by
  obtain ⟨a1, a2, a3, a4, a5, r, e, h⟩ := ls_5 h
  obtain ⟨a6, a7, a8, a9, a10, r', e', h⟩ := ls_5 h
  obtain ⟨a11, a12, a13, a14, a15, r'', e'', h⟩ := ls_5 h
  exact ⟨a1, a2, a3, a4, a5, a6, a7, a8, a9, a10, a11, a12, a13, a14, a15, by rw [e, e', e'', ls_0 h]⟩
theorem poolIn_ok {e : Nat} {C : Card} {l : List Word} {p : Pool} : poolIn e C l = .ok p ↔ p.name ∉ C.pools.map (fun (p : Pool) => p.name) ∧ ∃ x, PoolOk C.races (l.map (·.w)) x p := by
  unfold poolIn
  simp only [bind_ok, newName_ok, number_ok, holds_ok, oneOf_ok, must_ok, closed_ok]
  constructor
  · rintro ⟨⟨nm, l1⟩, ⟨wn, h1, h2, h3, h4⟩, ⟨⟨kd, pk⟩, l2⟩, ⟨wk, y, h5, h6, h7, h8⟩, ⟨⟨k, pk2⟩, l3⟩, ⟨wk2, h9, h10, h11, h12, h13⟩, l4, ⟨wf, h14, h15⟩, ⟨⟨r, pr⟩, l5⟩, ⟨wr, h16, h17, h18, h19, h20⟩, _, h21, _, h22, l6, ⟨wt, h23, h24⟩,
      ⟨⟨t, pt⟩, l7⟩, ⟨wt2, h25, h26, h27, h28, h29⟩, l8, ⟨wb, h30, h31⟩, ⟨⟨b, pb⟩, l9⟩, ⟨wb2, h32, h33, h34, h35, h36⟩, l10, ⟨wl, h37, h38⟩, ⟨⟨m, pm⟩, l11⟩, ⟨wm, h39, h40, h41, h42, h43⟩, l12, ⟨wu, h44, h45⟩, ⟨⟨u, pu⟩, l13⟩, ⟨wu2, h46, h47, h48, h49, h50⟩, _, h51,
      l14, ⟨wz, h52, h53⟩, ⟨⟨z, pz⟩, l15⟩, ⟨wz2, y2, h54, h55, h56, h57⟩, _, h58, h59⟩
    dsimp only at *
    subst h1 h5 h9 h14 h16 h23 h25 h30 h32 h37 h39 h44 h46 h52 h54 h58
    cases h59
    subst h2
    refine ⟨h4, ⟨wn.w, wk.w, wk2.w, wr.w, wt2.w, wb2.w, wm.w, wu2.w, wz2.w⟩, ?_⟩
    have hk := kinds_find.mp ⟨y, h6, h7⟩
    have hz := nones_find.mp ⟨y2, h55, h56⟩
    refine ⟨?_, rfl, h3, hk, h10, h11, h12, h17, h18, h19, ?_, ?_, h26, h28, h33, h34, h35, h40, h42, h47, h48, h49, ?_, hz.1, hz.2⟩
    · simp only [List.map_cons, List.map_nil, h15, h24, h31, h38, h45, h53]
      rfl
    · intro q
      have q : kd = .legs := q
      subst q
      simp only [bne_self_eq_false, Bool.false_or, decide_eq_true_eq] at h21
      exact h21
    · intro q
      have q : kd ≠ .legs := q
      have e : (kd == Kind.legs) = false := by simpa using q
      rw [e, Bool.false_or] at h22
      exact h22
    · simp only [inside, Bool.or_eq_true, beq_iff_eq, Bool.and_eq_true, decide_eq_true_eq] at h51
      exact h51
  · rintro ⟨hn, x, P⟩
    have hw := P.ws
    unfold PoolW.ws at hw
    have hlen := congrArg List.length hw
    rw [List.length_map] at hlen
    obtain ⟨a1, a2, a3, a4, a5, a6, a7, a8, a9, a10, a11, a12, a13, a14, a15, rfl⟩ := list15 hlen
    · simp only [List.map_cons, List.map_nil, List.cons.injEq, and_true] at hw
      obtain ⟨e1, e2, e3, e4, e5, e6, e7, e8, e9, e10, e11, e12, e13, e14, e15⟩ := hw
      obtain ⟨y, hy1, hy2⟩ := kinds_find.mpr P.kd
      obtain ⟨y2, hz1, hz2⟩ := nones_find.mpr ⟨P.z, P.pf⟩
      obtain ⟨nm, kd, k, r, z, t, b, m, u⟩ := p
      refine ⟨(nm, _), ⟨a1, rfl, ?_, ?_, ?_⟩, ((kd, a2.at_), _), ⟨a2, y, rfl, ?_, hy2, rfl⟩, ((k, a3.at_), _), ⟨a3, rfl, ?_, P.k1, P.k2, rfl⟩, _, ⟨a4, rfl, e4⟩, ((r, a5.at_), _), ⟨a5, rfl, ?_, P.r1, P.r2, rfl⟩, (), ?_, (), ?_, _, ⟨a6, rfl, e6⟩,
        ((t, a7.at_), _), ⟨a7, rfl, ?_, Nat.zero_le _, P.t2, rfl⟩, _, ⟨a8, rfl, e8⟩, ((b, a9.at_), _), ⟨a9, rfl, ?_, P.b1, P.b2, rfl⟩, _, ⟨a10, rfl, e10⟩, ((m, a11.at_), _), ⟨a11, rfl, ?_, Nat.zero_le _, P.m2, rfl⟩, _, ⟨a12, rfl, e12⟩, ((u, a13.at_), _), ⟨a13, rfl, ?_, P.u1, P.u2, rfl⟩, (), ?_,
        _, ⟨a14, rfl, e14⟩, ((z, a15.at_), _), ⟨a15, y2, rfl, ?_, hz2, rfl⟩, (), rfl, rfl⟩
      · show nm = a1.w
        rw [e1]; exact P.name.symm
      · rw [e1, P.name]; exact P.isN
      · rw [e1, P.name]; exact hn
      · rw [e2]; exact hy1
      · rw [e3]; exact P.k
      · rw [e5]; exact P.r
      · by_cases q : kd = .legs
        · subst q
          simp only [bne_self_eq_false, Bool.false_or, decide_eq_true_eq]
          exact P.legs rfl
        · have e : (kd != Kind.legs) = true := by simpa using q
          simp only [e, Bool.true_or]
      · by_cases q : kd = .legs
        · subst q
          simp only [BEq.rfl, Bool.true_or]
        · have e : (kd == Kind.legs) = false := by simpa using q
          simp only [e, Bool.false_or]
          exact P.heads q
      · rw [e7]; exact P.t
      · rw [e9]; exact P.b
      · rw [e11]; exact P.m
      · rw [e13]; exact P.u
      · simp only [inside, Bool.or_eq_true, beq_iff_eq, Bool.and_eq_true, decide_eq_true_eq]
        exact P.mu
      · rw [e15]; exact hz1
noncomputable def LineOk : Option Card → List Bytes → Option Card → Prop
  | none, ws, t => ∃ n, ws = [ascii "day", n] ∧ isName n = true ∧ t = some { noCard with name := n }
  | some C, ws, t => (∃ r rest, ws = ascii "race" :: rest ∧ C.pools = [] ∧ C.races.length < 16 ∧ RaceOk rest r ∧ t = some { C with races := C.races ++ [r] }) ∨
    ∃ p rest x, ws = ascii "pool" :: rest ∧ C.races ≠ [] ∧ C.pools.length < 64 ∧ p.name ∉ C.pools.map (fun (p : Pool) => p.name) ∧ PoolOk C.races rest x p ∧ t = some { C with pools := C.pools ++ [p] }
theorem lineIn_ok {h t : Option Card} {ws : List Word} {e : Nat} : lineIn h ⟨ws, e⟩ = .ok t ↔ LineOk h (ws.map (·.w)) t := by
  unfold lineIn
  have hb : ∀ {α β : Type} (x : Except Fault α) (f : α → Except Fault β), x.bind f = (x >>= f) := fun _ _ => rfl
  rw [hb, bind_ok]
  simp only [next_ok]
  constructor
  · rintro ⟨⟨w, r⟩, h1, h2⟩
    have h1 : ws = w :: r := h1
    subst h1
    cases h with
    | none =>
      simp only at h2
      split at h2
      · rename_i q
        unfold dayIn at h2
        simp only [bind_ok, newName_ok, closed_ok] at h2
        obtain ⟨⟨n, m⟩, ⟨wn, g1, g2, g3, g4⟩, _, g5, g6⟩ := h2
        simp only at g1 g2 g5
        subst g5 g1
        cases g6
        refine ⟨n, ?_, by rw [g2]; exact g3, rfl⟩
        simp only [List.map_cons, List.map_nil, q, g2]
      · cases h2
    | some C =>
      simp only at h2
      split at h2
      · rename_i q
        split at h2
        · cases h2
        · rename_i q2
          unfold withRace at h2
          rw [map_ok] at h2
          obtain ⟨rc, g1, g2⟩ := h2
          refine .inl ⟨rc, r.map (·.w), by simp only [List.map_cons, q.1], q.2, by unfold RACES at q2; omega, raceIn_ok.mp g1, g2.symm⟩
      · rename_i q
        split at h2
        · rename_i q1
          split at h2
          · cases h2
          · rename_i q2
            unfold withPool at h2
            rw [map_ok] at h2
            obtain ⟨pc, g1, g2⟩ := h2
            obtain ⟨g3, x, g4⟩ := poolIn_ok.mp g1
            exact .inr ⟨pc, r.map (·.w), x, by simp only [List.map_cons, q1.1], q1.2, by unfold POOLS at q2; omega, g3, g4, g2.symm⟩
        · cases h2
  · intro hl
    cases h with
    | none =>
      obtain ⟨n, h1, h2, h3⟩ := hl
      have hlen := congrArg List.length h1
      rw [List.length_map] at hlen
      obtain ⟨w1, w2, rfl⟩ := list2 hlen
      · simp only [List.map_cons, List.map_nil, List.cons.injEq, and_true] at h1
        refine ⟨(w1, [w2]), rfl, ?_⟩
        simp only
        rw [if_pos h1.1]
        unfold dayIn
        simp only [bind_ok, newName_ok, closed_ok]
        refine ⟨(n, []), ⟨w2, rfl, h1.2.symm, by rw [h1.2]; exact h2, by simp⟩, (), rfl, ?_⟩
        rw [h3]
        rfl
    | some C =>
      rcases hl with ⟨r, rest, h1, h2, h3, h4, h5⟩ | ⟨p, rest, x, h1, h2, h3, h4, h5, h6⟩
      · cases ws with
        | nil => cases h1
        | cons w m =>
          obtain ⟨e1, e2⟩ := List.cons.inj h1
          refine ⟨(w, m), rfl, ?_⟩
          simp only
          rw [if_pos ⟨e1, h2⟩, if_neg (by unfold RACES; omega)]
          unfold withRace
          rw [map_ok]
          exact ⟨r, raceIn_ok.mpr (by rw [e2]; exact h4), h5.symm⟩
      · cases ws with
        | nil => cases h1
        | cons w m =>
          obtain ⟨e1, e2⟩ := List.cons.inj h1
          refine ⟨(w, m), rfl, ?_⟩
          simp only
          have e1 : w.w = ascii "pool" := e1
          rw [if_neg (by rw [e1]; intro z; exact absurd z.1 (by decide)), if_pos ⟨e1, h2⟩, if_neg (by unfold POOLS; omega)]
          unfold withPool
          rw [map_ok]
          exact ⟨p, poolIn_ok.mpr ⟨h4, x, by rw [e2]; exact h5⟩, h6.symm⟩
end Pd
end
section
set_option Elab.async false
set_option linter.all false
namespace Pd
open Tote
theorem words_of {p q : Nat} : ∀ (l acc : Bytes), badByte acc.isEmpty q l = none → (wordsFrom p acc l).map (·.w) = cutB 32 acc l
  | [], acc, h => by
    unfold badByte at h
    cases acc with
    | nil => simp at h
    | cons c r => rfl
  | c :: r, acc, h => by
    unfold badByte at h
    split at h
    · cases h
    · unfold wordsFrom cutB
      split at h
      · rename_i hc
        rw [if_pos hc, if_pos hc]
        split at h
        · cases h
        · split at h
          · cases h
          · rw [List.map_cons, words_of (p := p + 1) (q := q + 1) r [] h]
      · rename_i hc
        rw [if_neg hc, if_neg hc]
        refine words_of (p := p + 1) (q := q + 1) r (acc ++ [c]) ?_
        have e : (acc ++ [c]).isEmpty = false := by simp
        rw [e]
        exact h
noncomputable def Plain (w : Bytes) : Prop := w ≠ [] ∧ ∀ c ∈ w, 33 ≤ c.toNat ∧ c.toNat ≤ 126
theorem cutB_head (c : UInt8) : ∀ (l acc : Bytes), ∃ w ws, cutB c acc l = (acc ++ w) :: ws ∧ ∀ x ∈ w, x ≠ c
  | [], acc => ⟨[], [], by simp [cutB], by simp⟩
  | x :: r, acc => by
    unfold cutB
    by_cases h : x = c
    · rw [if_pos h]
      exact ⟨[], _, by rw [List.append_nil], by simp⟩
    · rw [if_neg h]
      obtain ⟨w, ws, h1, h2⟩ := cutB_head c r (acc ++ [x])
      refine ⟨x :: w, ws, ?_, ?_⟩
      · rw [h1]
        simp
      · intro y hy
        rcases List.mem_cons.mp hy with rfl | hy
        · exact h
        · exact h2 y hy
theorem badByte_none {q : Nat} : ∀ (l acc : Bytes), (∀ w ∈ cutB 32 acc l, Plain w) → badByte acc.isEmpty q l = none
  | [], acc, h => by
    unfold badByte
    have := h acc (by simp [cutB])
    cases acc with
    | nil => exact absurd rfl this.1
    | cons c r => rfl
  | c :: r, acc, h => by
    unfold cutB at h
    unfold badByte
    by_cases hc : c = 32
    · rw [if_pos hc] at h
      subst hc
      rw [if_neg (by decide), if_pos rfl]
      have h1 := h acc (by simp)
      have h2 : ∀ w ∈ cutB 32 [] r, Plain w := fun w hw => h w (List.mem_cons_of_mem _ hw)
      have e : acc.isEmpty = false := by
        cases acc with
        | nil => exact absurd rfl h1.1
        | cons c r => rfl
      rw [e]
      have e2 : r.isEmpty = false := by
        cases r with
        | nil => exact absurd rfl (h2 [] (by simp [cutB])).1
        | cons c r => rfl
      rw [e2]
      simp only [Bool.false_eq_true, if_false]
      exact badByte_none (q := q + 1) r [] h2
    · rw [if_neg hc] at h
      obtain ⟨w, ws, h1, h2⟩ := cutB_head 32 r (acc ++ [c])
      have h3 := (h _ (by rw [h1]; exact List.mem_cons_self)).2 c (by simp)
      have h4 : ¬ (c < 32 ∨ 126 < c) := by
        rw [UInt8.lt_iff_toNat_lt, UInt8.lt_iff_toNat_lt]
        have e1 : (32 : UInt8).toNat = 32 := rfl
        have e2 : (126 : UInt8).toNat = 126 := rfl
        omega
      rw [if_neg h4, if_neg hc]
      have := badByte_none (q := q + 1) r (acc ++ [c]) h
      have e : (acc ++ [c]).isEmpty = false := by simp
      rw [e] at this
      exact this
theorem plain_of {w : Bytes} (h0 : w ≠ []) (h : w.all (fun c => isSmall c || isDigit c) = true) : Plain w := by
  refine ⟨h0, fun c hc => ?_⟩
  have := List.all_eq_true.mp h c hc
  rw [isSmall_eq, isDigit_eq] at this
  unfold isLet isDig at this
  simp only [Bool.or_eq_true, Bool.and_eq_true, decide_eq_true_eq] at this
  omega
theorem plain_num {w : Bytes} {n : Nat} (h : numberOf w = some n) : Plain w := by
  obtain ⟨⟨h1, h2, _⟩, _⟩ := numberOf_some.mp h
  refine plain_of (fun z => by rw [z] at h1; cases h1) ?_
  rw [List.all_eq_true] at h2 ⊢
  intro c hc
  rw [h2 c hc, Bool.or_true]
theorem plain_name {w : Bytes} (h : isName w = true) : Plain w := by
  unfold isName at h
  simp only [Bool.and_eq_true, decide_eq_true_eq] at h
  exact plain_of (fun z => by rw [z] at h; simp at h) h.2.2.1
theorem plain_lit {w : Bytes} (h : (!w.isEmpty && w.all (fun c => isSmall c || isDigit c)) = true) : Plain w := by
  rw [Bool.and_eq_true] at h
  exact plain_of (fun z => by rw [z] at h; simp at h) h.2
theorem plain_coup {runners : Nat} : ∀ (k : Nat) (had : List (Nat × Nat)) (ws : List Bytes) (z : List (Nat × Nat)), coupS runners k had ws = some z → ∀ w ∈ ws, Plain w
  | 0, _, [], _, _, w, hw => by cases hw
  | 0, _, _ :: _, _, h, _, _ => by cases h
  | k + 1, _, [], _, _, w, hw => by cases hw
  | k + 1, had, [a], _, h, _, _ => by cases h
  | k + 1, had, [a, b], _, h, _, _ => by cases h
  | k + 1, had, c :: a :: b :: r, z, h, w, hw => by
    unfold coupS at h
    split at h
    · rename_i hc
      split at h
      · cases h
      · rename_i x hx
        split at h
        · cases h
        · rename_i y hy
          split at h
          · have ih := plain_coup k _ r z h
            rcases List.mem_cons.mp hw with rfl | hw
            · rw [hc]; exact plain_lit (by decide)
            rcases List.mem_cons.mp hw with rfl | hw
            · exact plain_num hx
            rcases List.mem_cons.mp hw with rfl | hw
            · exact plain_num hy
            · exact ih w hw
          · cases h
    · cases h
theorem LineOk.plain {s t : Option Card} {ws : List Bytes} (h : LineOk s ws t) : ∀ w ∈ ws, Plain w := by
  cases s with
  | none =>
    obtain ⟨n, rfl, h2, _⟩ := h
    intro w hw
    rcases List.mem_cons.mp hw with rfl | hw
    · exact plain_lit (by decide)
    rcases List.mem_cons.mp hw with rfl | hw
    · exact plain_name h2
    · cases hw
  | some C =>
    rcases h with ⟨r, rest, rfl, _, _, ⟨w0, cs, rfl, h1, _, _, h2⟩, _⟩ | ⟨p, rest, x, rfl, _, _, _, P, _⟩
    · intro w hw
      rcases List.mem_cons.mp hw with rfl | hw
      · exact plain_lit (by decide)
      rcases List.mem_cons.mp hw with rfl | hw
      · exact plain_num h1
      · exact plain_coup 8 [] cs _ h2 w hw
    · rw [P.ws]
      unfold PoolW.ws
      intro w hw
      simp only [List.mem_cons, List.not_mem_nil, or_false] at hw
      rcases hw with rfl | rfl | rfl | rfl | rfl | rfl | rfl | rfl | rfl | rfl | rfl | rfl | rfl | rfl | rfl | rfl
      · exact plain_lit (by decide)
      · rw [P.name]; exact plain_name P.isN
      · rw [P.kd]; cases p.kind <;> exact plain_lit (by decide)
      · exact plain_num P.k
      · exact plain_lit (by decide)
      · exact plain_num P.r
      · exact plain_lit (by decide)
      · exact plain_num P.t
      · exact plain_lit (by decide)
      · exact plain_num P.b
      · exact plain_lit (by decide)
      · exact plain_num P.m
      · exact plain_lit (by decide)
      · exact plain_num P.u
      · exact plain_lit (by decide)
      · rw [P.z]; cases p.none_ <;> exact plain_lit (by decide)
theorem line_ok {s t : Option Card} {l : Bytes} {p e : Nat} : (badByte true 0 l = none ∧ lineIn s ⟨wordsFrom p [] l, e⟩ = .ok t) ↔ LineOk s (cutB 32 [] l) t := by
  rw [lineIn_ok]
  constructor
  · rintro ⟨h1, h2⟩
    rw [words_of (p := p) l [] h1] at h2
    exact h2
  · intro h
    have h1 : badByte true 0 l = none := badByte_none l [] h.plain
    refine ⟨h1, ?_⟩
    rw [words_of (p := p) l [] h1]
    exact h
theorem cutB_cons (c x : UInt8) (r acc : Bytes) : cutB c acc (x :: r) = if x = c then acc :: cutB c [] r else cutB c (acc ++ [x]) r := rfl
theorem upTo_none : ∀ (b acc : Bytes), upTo b = none ↔ cutB 10 acc b = [acc ++ b]
  | [], acc => by simp [upTo, cutB]
  | c :: r, acc => by
    rw [cutB_cons]
    unfold upTo
    by_cases h : c = 10
    · rw [if_pos h, if_pos h]
      constructor
      · intro q; cases q
      · intro q
        obtain ⟨w, ws, h1, _⟩ := cutB_head 10 r []
        rw [h1] at q
        have := congrArg List.length q
        simp at this
    · rw [if_neg h, if_neg h]
      have ih := upTo_none r (acc ++ [c])
      rw [List.append_assoc] at ih
      rw [Option.map_eq_none_iff]
      exact ih
theorem upTo_some : ∀ (b acc l r : Bytes), upTo b = some (l, r) → cutB 10 acc b = (acc ++ l) :: cutB 10 [] r ∧ r.length < b.length
  | [], acc, l, r, h => by cases h
  | c :: m, acc, l, r, h => by
    unfold upTo at h
    rw [cutB_cons]
    by_cases hc : c = 10
    · rw [if_pos hc] at h ⊢
      cases h
      exact ⟨by rw [List.append_nil], Nat.lt_succ_self _⟩
    · rw [if_neg hc] at h ⊢
      cases q : upTo m with
      | none => rw [q] at h; cases h
      | some x =>
        obtain ⟨l', r'⟩ := x
        rw [q] at h
        cases h
        obtain ⟨h1, h2⟩ := upTo_some m (acc ++ [c]) l' r' q
        refine ⟨?_, Nat.lt_succ_of_lt h2⟩
        rw [h1, List.append_assoc]
        rfl
noncomputable def FoldOk : Option Card → List (List Bytes) → Option Card → Prop
  | s, [], t => t = s
  | s, l :: ls, t => ∃ u, LineOk s l u ∧ FoldOk u ls t
theorem linesIn_ok : ∀ (k : Nat) (p : Nat) (s t : Option Card) (b : Bytes), b.length < k → (linesIn lineIn k p s b = .ok t ↔ ∃ ls, cutB 10 [] b = ls ++ [[]] ∧ FoldOk s (ls.map (cutB 32 [])) t)
  | 0, _, _, _, _, h => by cases h
  | k + 1, p, s, t, b, h => by
    unfold linesIn
    cases b with
    | nil =>
      rw [if_pos (by rfl)]
      constructor
      · intro q; cases q; exact ⟨[], rfl, rfl⟩
      · rintro ⟨ls, h1, h2⟩
        have : ls = [] := by
          have h1 : [[]] = ls ++ [[]] := h1
          cases ls with
          | nil => rfl
          | cons x r =>
            have := congrArg List.length h1
            simp at this
        subst this
        cases h2
        rfl
    | cons c r =>
      rw [if_neg (by simp)]
      cases q : upTo (c :: r) with
      | none =>
        have e := (upTo_none (c :: r) []).mp q
        simp only
        constructor
        · intro z; cases z
        · rintro ⟨ls, h1, h2⟩
          rw [e] at h1
          exfalso
          cases ls with
          | nil => cases h1
          | cons x m =>
            have := congrArg List.length h1
            simp at this
      | some x =>
        obtain ⟨l, m⟩ := x
        obtain ⟨e, hm⟩ := upTo_some (c :: r) [] l m q
        rw [List.nil_append] at e
        simp only
        have ih := fun u => linesIn_ok k (p + l.length + 1) u t m (by omega)
        have lo := fun u => line_ok (s := s) (t := u) (l := l) (p := p) (e := p + l.length)
        constructor
        · intro z
          split at z
          · cases z
          · rename_i hb
            split at z
            · cases z
            · rename_i u hu
              obtain ⟨ls, h1, h2⟩ := (ih u).mp z
              refine ⟨l :: ls, by rw [e, h1]; rfl, u, (lo u).mp ⟨hb, hu⟩, h2⟩
        · rintro ⟨ls, h1, h2⟩
          rw [e] at h1
          cases ls with
          | nil =>
            obtain ⟨w, ws, h3, _⟩ := cutB_head 10 m []
            rw [h3] at h1
            cases h1
          | cons x ls =>
            obtain ⟨e1, e2⟩ := List.cons.inj h1
            subst e1
            obtain ⟨u, h3, h4⟩ := h2
            obtain ⟨hb, hu⟩ := (lo u).mpr h3
            rw [hb]
            simp only [hu]
            exact (ih u).mpr ⟨ls, e2, h4⟩
theorem readCard_ok {b : Bytes} {C : Card} : readCard b = .ok C ↔ (∃ ls, cutB 10 [] b = ls ++ [[]] ∧ FoldOk none (ls.map (cutB 32 [])) (some C)) ∧ C.races ≠ [] := by
  unfold readCard
  have key := fun t => linesIn_ok (b.length + 1) 0 none t b (Nat.lt_succ_self _)
  constructor
  · intro h
    split at h
    · cases h
    · cases h
    · rename_i D q
      split at h
      · cases h
      · rename_i hr
        cases h
        exact ⟨(key _).mp q, hr⟩
  · rintro ⟨h1, h2⟩
    rw [(key _).mpr h1]
    simp only
    rw [if_neg h2]
end Pd
end
section
set_option Elab.async false
set_option linter.all false
namespace Pd
open Tote
noncomputable def hI (r : Race) : List Int := r.heads.map fun (n : Nat) => (n : Int)
theorem mem_putB {c x : Nat × Nat} : ∀ {l : List (Nat × Nat)}, c ∈ putB x l ↔ c = x ∨ c ∈ l
  | [] => by simp [putB]
  | y :: l => by
    unfold putB
    split
    · simp
    · rw [List.mem_cons, mem_putB (l := l), List.mem_cons]
      constructor
      · rintro (h | h | h)
        · exact .inr (.inl h)
        · exact .inl h
        · exact .inr (.inr h)
      · rintro (h | h | h)
        · exact .inr (.inl h)
        · exact .inl h
        · exact .inr (.inr h)
structure CRel (hs fs : List Int) (had : List (Nat × Nat)) : Prop where
  a : ∀ n : Nat, (n : Int) ∈ hs ↔ ∃ c ∈ had, c.1 = n
  b : ∀ n : Nat, (n : Int) ∈ fs ↔ ∃ c ∈ had, c.2 = n
  lt : ∀ c ∈ had, c.1 < c.2
theorem CRel.put {hs fs : List Int} {had : List (Nat × Nat)} {x y : Nat} (R : CRel hs fs had) (h : x < y) : CRel (hs ++ [(x : Int)]) (fs ++ [(y : Int)]) (putB (x, y) had) := by
  refine ⟨fun n => ?_, fun n => ?_, fun c hc => ?_⟩
  · rw [List.mem_append, R.a n]
    constructor
    · rintro (⟨c, h1, h2⟩ | h1)
      · exact ⟨c, mem_putB.mpr (.inr h1), h2⟩
      · exact ⟨(x, y), mem_putB.mpr (.inl rfl), by simp at h1; omega⟩
    · rintro ⟨c, h1, h2⟩
      rcases mem_putB.mp h1 with rfl | h1
      · exact .inr (by simp at h2 ⊢; omega)
      · exact .inl ⟨c, h1, h2⟩
  · rw [List.mem_append, R.b n]
    constructor
    · rintro (⟨c, h1, h2⟩ | h1)
      · exact ⟨c, mem_putB.mpr (.inr h1), h2⟩
      · exact ⟨(x, y), mem_putB.mpr (.inl rfl), by simp at h1; omega⟩
    · rintro ⟨c, h1, h2⟩
      rcases mem_putB.mp h1 with rfl | h1
      · exact .inr (by simp at h2 ⊢; omega)
      · exact .inl ⟨c, h1, h2⟩
  · rcases mem_putB.mp hc with rfl | hc
    · exact h
    · exact R.lt c hc
theorem couplesM_eq (n : Int) (hs fs : List Int) (c a b : List Nat) (r : List (List Nat)) : couplesM n hs fs (c :: a :: b :: r) = if c = wCouple then
      match within a 1 n with
      | none => none
      | some h => match within b (h + 1) n with
        | none => none
        | some f => if h ∈ fs then none else if f ∈ hs ∨ f ∈ fs then none else couplesM n (hs ++ [h]) (fs ++ [f]) r
    else none := by
  rw [couplesM] <;> rfl
theorem coupS_eq (n k : Nat) (had : List (Nat × Nat)) (c a b : Bytes) (r : List Bytes) : coupS n (k + 1) had (c :: a :: b :: r) = if c = ascii "couple" then
      match numberOf a with
      | none => none
      | some x => match numberOf b with
        | none => none
        | some y => if 1 ≤ x ∧ x ≤ n ∧ (had.any fun (z : Nat × Nat) => z.2 == x) = false ∧ 1 ≤ y ∧ y ≤ n ∧ x < y ∧ (had.any fun (z : Nat × Nat) => z.1 == y || z.2 == y) = false then coupS n k (putB (x, y) had) r else none
    else none := by
  rw [coupS] <;> rfl
theorem any_b {had : List (Nat × Nat)} {x : Nat} : (had.any fun (z : Nat × Nat) => z.2 == x) = false ↔ ¬ ∃ c ∈ had, c.2 = x := by
  rw [← Bool.not_eq_true, List.any_eq_true]
  simp only [beq_iff_eq]
theorem any_ab {had : List (Nat × Nat)} {x : Nat} : (had.any fun (z : Nat × Nat) => z.1 == x || z.2 == x) = false ↔ ¬ ((∃ c ∈ had, c.1 = x) ∨ ∃ c ∈ had, c.2 = x) := by
  rw [← Bool.not_eq_true, List.any_eq_true]
  simp only [Bool.or_eq_true, beq_iff_eq]
  constructor
  · rintro h (⟨c, h1, h2⟩ | ⟨c, h1, h2⟩)
    · exact h ⟨c, h1, .inl h2⟩
    · exact h ⟨c, h1, .inr h2⟩
  · rintro h ⟨c, h1, h2 | h2⟩
    · exact h (.inl ⟨c, h1, h2⟩)
    · exact h (.inr ⟨c, h1, h2⟩)
theorem coup_cw {n : Nat} (hn : n ≤ 24) : ∀ (j k : Nat) (hs fs : List Int) (had : List (Nat × Nat)) (cs : List Bytes), j ≤ k → cs.length = 3 * j → CRel hs fs had →
    (couplesM (n : Int) hs fs (cs.map cw) = none ∧ coupS n k had cs = none) ∨ ∃ hs' fs' z, couplesM (n : Int) hs fs (cs.map cw) = some fs' ∧ coupS n k had cs = some z ∧ CRel hs' fs' z
  | 0, k, hs, fs, had, cs, _, hl, R => by
    have : cs = [] := List.length_eq_zero_iff.mp (by omega)
    subst this
    refine .inr ⟨hs, fs, had, by simp [couplesM], ?_, R⟩
    cases k <;> rfl
  | j + 1, 0, _, _, _, _, hk, _, _ => absurd hk (by omega)
  | j + 1, k + 1, hs, fs, had, cs, hk, hl, R => by
    match cs, hl with
    | [], hl => exact absurd hl (by simp)
    | [_], hl => exact absurd hl (by simp; omega)
    | [_, _], hl => exact absurd hl (by simp; omega)
    | c :: a :: b :: r, hl =>
      rw [List.map_cons, List.map_cons, List.map_cons, couplesM_eq, coupS_eq]
      by_cases hc : c = ascii "couple"
      · rw [if_pos hc, if_pos ((cw_couple c).mpr hc)]
        cases ha : within (cw a) 1 (n : Int) with
        | none =>
          left
          refine ⟨rfl, ?_⟩
          cases hx : numberOf a with
          | none => rfl
          | some x =>
            have no : ¬ (1 ≤ x ∧ x ≤ n) := fun q => by
              have := (within_cw (w := a) (lo := 1) (hi := n) (by omega) (n := (x : Int))).mpr ⟨x, rfl, hx, q.1, q.2⟩
              have this : within (cw a) 1 (n : Int) = some (x : Int) := this
              rw [ha] at this
              cases this
            simp only
            cases numberOf b with
            | none => rfl
            | some y =>
              simp only
              rw [if_neg fun q => no ⟨q.1, q.2.1⟩]
        | some h =>
          obtain ⟨x, rfl, hx, x1, x2⟩ := (within_cw (w := a) (lo := 1) (hi := n) (by omega) (n := h)).mp ha
          simp only [hx]
          cases hb : within (cw b) ((x : Int) + 1) (n : Int) with
          | none =>
            left
            refine ⟨rfl, ?_⟩
            cases hy : numberOf b with
            | none => rfl
            | some y =>
              simp only
              rw [if_neg]
              rintro ⟨_, _, _, _, q5, q6, _⟩
              have := (within_cw (w := b) (lo := x + 1) (hi := n) (by omega) (n := (y : Int))).mpr ⟨y, rfl, hy, q6, q5⟩
              have this : within (cw b) ((x : Int) + 1) (n : Int) = some (y : Int) := this
              rw [hb] at this
              cases this
          | some f =>
            obtain ⟨y, rfl, hy, y1, y2⟩ := (within_cw (w := b) (lo := x + 1) (hi := n) (by omega) (n := f)).mp hb
            simp only [hy]
            by_cases q1 : (x : Int) ∈ fs
            · left
              rw [if_pos q1]
              refine ⟨rfl, ?_⟩
              rw [if_neg]
              rintro ⟨_, _, q, _⟩
              exact any_b.mp q ((R.b x).mp q1)
            · rw [if_neg q1]
              by_cases q2 : (y : Int) ∈ hs ∨ (y : Int) ∈ fs
              · left
                rw [if_pos q2]
                refine ⟨rfl, ?_⟩
                rw [if_neg]
                rintro ⟨_, _, _, _, _, _, q⟩
                exact any_ab.mp q (q2.elim (fun z => .inl ((R.a y).mp z)) fun z => .inr ((R.b y).mp z))
              · rw [if_neg q2, if_pos ⟨x1, x2, any_b.mpr (fun z => q1 ((R.b x).mpr z)), by omega, y2, y1, any_ab.mpr (fun z => q2 (z.elim (fun z => .inl ((R.a y).mpr z)) fun z => .inr ((R.b y).mpr z)))⟩]
                exact coup_cw hn j k _ _ _ r (by omega) (by simp at hl; omega) (R.put y1)
      · left
        rw [if_neg hc, if_neg (fun q => hc ((cw_couple c).mp q))]
        exact ⟨rfl, rfl⟩
theorem coupS_len {n : Nat} : ∀ (k : Nat) (had : List (Nat × Nat)) (cs : List Bytes) (z : List (Nat × Nat)), coupS n k had cs = some z → ∃ j, j ≤ k ∧ cs.length = 3 * j
  | 0, _, [], _, _ => ⟨0, Nat.le_refl _, rfl⟩
  | 0, _, _ :: _, _, h => by cases h
  | k + 1, _, [], _, _ => ⟨0, Nat.zero_le _, rfl⟩
  | k + 1, _, [_], _, h => by cases h
  | k + 1, _, [_, _], _, h => by cases h
  | k + 1, had, c :: a :: b :: r, z, h => by
    rw [coupS_eq] at h
    split at h
    · split at h
      · cases h
      · split at h
        · cases h
        · split at h
          · obtain ⟨j, h1, h2⟩ := coupS_len k _ r z h
            exact ⟨j + 1, by omega, by simp only [List.length_cons]; omega⟩
          · cases h
    · cases h
theorem heads_eq {r : Race} {hs fs : List Int} (R : CRel hs fs r.couples) : headsM r.runners fs = hI r := by
  unfold headsM hI Race.heads
  have e1 : ∀ n : Nat, (r.head n == n) = !decide ((n : Int) ∈ fs) := by
    intro n
    have hb := R.b n
    unfold Race.head
    cases q : r.couples.find? fun (c : Nat × Nat) => c.2 == n with
    | none =>
      have no : ¬ (n : Int) ∈ fs := fun z => by
        obtain ⟨c, h1, h2⟩ := hb.mp z
        have := List.find?_eq_none.mp q c h1
        exact this (by rw [h2]; exact beq_self_eq_true n)
      simp [no]
    | some c =>
      have h1 := List.mem_of_find?_eq_some q
      have h2 := List.find?_some q
      have h2 : c.2 = n := eq_of_beq h2
      have yes : (n : Int) ∈ fs := hb.mpr ⟨c, h1, h2⟩
      have hlt := R.lt c h1
      have ne : ¬ c.1 = n := by omega
      simp [yes, ne]
  rw [List.filter_map, List.filter_map, List.map_map]
  have e2 : ((fun x : Int => !decide (x ∈ fs)) ∘ fun (i : Nat) => (1 : Int) + (i : Int)) = ((fun (n : Nat) => r.head n == n) ∘ fun (i : Nat) => i + 1) := by
    funext i
    show (!decide ((1 : Int) + (i : Int) ∈ fs)) = (r.head (i + 1) == i + 1)
    rw [e1 (i + 1)]
    have : ((i + 1 : Nat) : Int) = (1 : Int) + (i : Int) := by omega
    rw [this]
  rw [e2]
  congr 1
  funext i
  show (1 : Int) + (i : Int) = ((i + 1 : Nat) : Int)
  omega
theorem RaceOk.uniq {ws : List Bytes} {r q : Race} (h : RaceOk ws r) (h' : RaceOk ws q) : r = q := by
  obtain ⟨w, cs, e, h1, _, _, h2⟩ := h
  obtain ⟨w', cs', e', h1', _, _, h2'⟩ := h'
  rw [e] at e'
  cases e'
  obtain ⟨rn, rc⟩ := r
  obtain ⟨qn, qc⟩ := q
  have z : rn = qn := Option.some.inj (h1.symm.trans h1')
  subst z
  have z : rc = qc := Option.some.inj (h2.symm.trans h2')
  subst z
  rfl
theorem raceM_cons (f w : List Nat) (cs : List (List Nat)) : raceM (f :: w :: cs) = if (cs.length + 2) % 3 ≠ 2 ∨ 26 < cs.length + 2 then none else
    match within w 2 24 with
    | none => none
    | some n => match couplesM n [] [] cs with
      | none => none
      | some fs => some (headsM n.toNat fs) := rfl
theorem race_cw (f : Bytes) (rest : List Bytes) : (raceM ((f :: rest).map cw) = none ∧ ∀ r, ¬ RaceOk rest r) ∨ ∃ r, RaceOk rest r ∧ raceM ((f :: rest).map cw) = some (hI r) := by
  cases rest with
  | nil => exact .inl ⟨rfl, fun r ⟨w, cs, e, _⟩ => by cases e⟩
  | cons w cs =>
    rw [List.map_cons, List.map_cons, raceM_cons, List.length_map]
    by_cases hl : (cs.length + 2) % 3 ≠ 2 ∨ 26 < cs.length + 2
    · left
      rw [if_pos hl]
      refine ⟨rfl, ?_⟩
      rintro r ⟨w', cs', e, _, _, _, h⟩
      cases e
      obtain ⟨j, h1, h2⟩ := coupS_len 8 [] cs _ h
      omega
    · rw [if_neg hl]
      cases hw : within (cw w) 2 24 with
      | none =>
        left
        refine ⟨rfl, ?_⟩
        rintro r ⟨w', cs', e, h1, h2, h3, _⟩
        cases e
        have := (within_cw (w := w) (lo := 2) (hi := 24) (by omega) (n := (r.runners : Int))).mpr ⟨r.runners, rfl, h1, h2, h3⟩
        have this : within (cw w) 2 24 = some (r.runners : Int) := this
        rw [hw] at this
        cases this
      | some n =>
        obtain ⟨k, rfl, hk, k1, k2⟩ := (within_cw (w := w) (lo := 2) (hi := 24) (by omega) (n := n)).mp hw
        simp only
        have R0 : CRel [] [] [] := ⟨fun n => by simp, fun n => by simp, fun c hc => by cases hc⟩
        rcases coup_cw (n := k) k2 (cs.length / 3) 8 [] [] [] cs (by omega) (by omega) R0 with ⟨e1, e2⟩ | ⟨hs', fs', z, e1, e2, R⟩
        · left
          rw [e1]
          refine ⟨rfl, ?_⟩
          rintro r ⟨w', cs', e, h1, _, _, h⟩
          cases e
          have : r.runners = k := Option.some.inj (h1.symm.trans hk)
          rw [this, e2] at h
          cases h
        · right
          rw [e1]
          refine ⟨⟨k, z⟩, ⟨w, cs, rfl, hk, k1, k2, e2⟩, ?_⟩
          show some (headsM (k : Int).toNat fs') = some (hI ⟨k, z⟩)
          rw [Int.toNat_natCast, heads_eq (r := ⟨k, z⟩) R]
noncomputable def mp (p : Pool) : MP := ⟨cw p.name, cw (kindW p.kind), (p.k : Int), (p.race : Int), (p.unit : Int)⟩
theorem kindB_some {w : Bytes} {lh : Int × Int} : kindB (cw w) = some lh ↔ ∃ k, w = kindW k ∧ lh = ((leastK k : Int), (mostK k : Int)) := by
  unfold kindB
  simp only [cw_place, cw_order, cw_any, cw_legs]
  constructor
  · intro h
    split at h
    · rename_i q; cases h; exact ⟨.place, q, rfl⟩
    · split at h
      · rename_i q; cases h; exact ⟨.order, q, rfl⟩
      · split at h
        · rename_i q; cases h; exact ⟨.any, q, rfl⟩
        · split at h
          · rename_i q; cases h; exact ⟨.legs, q, rfl⟩
          · cases h
  · rintro ⟨k, rfl, rfl⟩
    cases k
    · rw [if_pos (by rfl)]; rfl
    · rw [if_neg (by decide), if_pos (by rfl)]; rfl
    · rw [if_neg (by decide), if_neg (by decide), if_pos (by rfl)]; rfl
    · rw [if_neg (by decide), if_neg (by decide), if_neg (by decide), if_pos (by rfl)]; rfl
theorem kindW_inj {k j : Kind} (h : kindW k = kindW j) : k = j := by
  cases k <;> cases j <;> first | rfl | exact absurd h (by decide)
theorem kindW_legs {k : Kind} : cw (kindW k) = wLegs ↔ k = .legs := by
  rw [cw_legs]
  constructor
  · intro h; exact kindW_inj (j := .legs) h
  · rintro rfl; rfl
theorem kindW_place {k : Kind} : cw (kindW k) = wPlace ↔ k = .place := by
  rw [cw_place]
  constructor
  · intro h; exact kindW_inj (j := .place) h
  · rintro rfl; rfl
theorem poolRace_some {w : Bytes} {kd : Kind} {k : Nat} {races : List Race} (hr : races.length ≤ 16) {n : Int} : poolRaceM (cw w) (cw (kindW kd)) (k : Int) (races.map hI) = some n ↔
    ∃ r : Nat, n = (r : Int) ∧ numberOf w = some r ∧ 1 ≤ r ∧ r ≤ races.length ∧ (kd = .legs → r + k ≤ races.length + 1) ∧ (kd ≠ .legs → ((races[r - 1]?).map fun (x : Race) => decide (k ≤ x.heads.length)).getD false = true) := by
  unfold poolRaceM
  rw [List.length_map]
  have wi := fun n => within_cw (w := w) (lo := 1) (hi := races.length) (by omega) (n := n)
  constructor
  · intro h
    split at h
    · cases h
    · rename_i r hr'
      obtain ⟨r, rfl, h1, h2, h3⟩ := (wi r).mp hr'
      simp only [kindW_legs] at h
      split at h
      · rename_i q
        split at h
        · cases h
          exact ⟨r, rfl, h1, h2, h3, fun _ => by omega, fun z => absurd q z⟩
        · cases h
      · rename_i q
        split at h
        · rename_i q2
          cases h
          refine ⟨r, rfl, h1, h2, h3, fun z => absurd z q, fun _ => ?_⟩
          have e : ((r : Int) - 1).toNat = r - 1 := by omega
          rw [e, List.getD_eq_getElem?_getD, List.getElem?_map] at q2
          cases g : races[r - 1]? with
          | none => exact absurd (List.getElem?_eq_none_iff.mp g) (by omega)
          | some x =>
            rw [g] at q2
            simp only [Option.map_some, Option.getD_some, hI, List.length_map] at q2
            simp only [Option.map_some, Option.getD_some, decide_eq_true_eq]
            omega
        · cases h
  · rintro ⟨r, rfl, h1, h2, h3, h4, h5⟩
    have := (wi (r : Int)).mpr ⟨r, rfl, h1, h2, h3⟩
    have this : within (cw w) 1 (races.length : Int) = some (r : Int) := this
    rw [this]
    simp only [kindW_legs]
    by_cases q : kd = .legs
    · rw [if_pos q, if_pos (by have := h4 q; omega)]
    · rw [if_neg q, if_pos]
      have h5 := h5 q
      have e : ((r : Int) - 1).toNat = r - 1 := by omega
      rw [e, List.getD_eq_getElem?_getD, List.getElem?_map]
      cases g : races[r - 1]? with
      | none => exact absurd (List.getElem?_eq_none_iff.mp g) (by omega)
      | some x =>
        rw [g] at h5
        simp only [Option.map_some, Option.getD_some, decide_eq_true_eq] at h5
        simp only [Option.map_some, Option.getD_some, hI, List.length_map]
        omega
theorem list16 {α : Type} {l : List α} (h : l.length = 16) : ∃ a0 a1 a2 a3 a4 a5 a6 a7 a8 a9 a10 a11 a12 a13 a14 a15, l = [a0, a1, a2, a3, a4, a5, a6, a7, a8, a9, a10, a11, a12, a13, a14, a15] := by
  obtain ⟨a0, r, e, h⟩ := ls_s h
  obtain ⟨a1, a2, a3, a4, a5, a6, a7, a8, a9, a10, a11, a12, a13, a14, a15, q⟩ := list15 h
  exact ⟨a0, a1, a2, a3, a4, a5, a6, a7, a8, a9, a10, a11, a12, a13, a14, a15, by rw [e, q]⟩
theorem noneW_or {w : Bytes} : (cw w = wRefund ∨ cw w = wCarry ∨ cw w = wFewer) ↔ ∃ z, w = noneW z := by
  rw [cw_refund, cw_carry, cw_fewer]
  constructor
  · rintro (h | h | h)
    · exact ⟨.refund, h⟩
    · exact ⟨.carry, h⟩
    · exact ⟨.fewer, h⟩
  · rintro ⟨z, rfl⟩
    cases z
    · exact .inl rfl
    · exact .inr (.inl rfl)
    · exact .inr (.inr rfl)
theorem noneW_fewer {z : None_} : cw (noneW z) = wFewer ↔ z = .fewer := by
  rw [cw_fewer]
  cases z
  · exact ⟨fun h => absurd h (by decide), fun h => by cases h⟩
  · exact ⟨fun h => absurd h (by decide), fun h => by cases h⟩
  · exact ⟨fun _ => rfl, fun _ => rfl⟩
noncomputable def poolW (a0 a1 a2 a3 a4 a5 a6 a7 a8 a9 a10 a11 a12 a13 a14 a15 : List Nat) (races : List (List Int)) : Option MP :=
  if (decide (a0 = wPool) && (decide (a4 = wFrom) && (decide (a6 = wTake) && (decide (a8 = wBreak) && (decide (a10 = wLeast) && (decide (a12 = wUnit) && decide (a14 = wNone))))))) = false then none else if nameM (a1) = false then none else
  match kindB (a2) with
  | none => none
  | some lh => match within (a3) lh.1 lh.2 with
    | none => none
    | some k => match poolRaceM (a5) (a2) k races with
      | none => none
      | some race => match within (a7) 0 400 with
        | none => none
        | some _ => match within (a9) 1 1000 with
          | none => none
          | some _ => match within (a13) 1 10000 with
            | none => none
            | some u => match within (a11) 0 (2 * u) with
              | none => none
              | some l => if ¬ (l = 0 ∨ l ≥ u) then none else if ¬ (a15 = wRefund ∨ a15 = wCarry ∨ a15 = wFewer) then none else
                if ¬ (a15 ≠ wFewer ∨ a2 ≠ wPlace) then none else some ⟨a1, a2, k, race, u⟩
theorem pool_cw {ws : List Bytes} {races : List Race} (hr : races.length ≤ 16) {q : MP} : poolM (ws.map cw) (races.map hI) = some q ↔ ∃ rest x p, ws = ascii "pool" :: rest ∧ PoolOk races rest x p ∧ q = mp p := by
  constructor
  · intro h
    have hl : ws.length = 16 := by
      by_cases c : (ws.map cw).length = 16
      · rw [← List.length_map (f := cw)]
        exact c
      · unfold poolM at h
        rw [if_pos c] at h
        cases h
    obtain ⟨a0, a1, a2, a3, a4, a5, a6, a7, a8, a9, a10, a11, a12, a13, a14, a15, rfl⟩ := list16 (l := ws) hl
    replace h : poolW (cw a0) (cw a1) (cw a2) (cw a3) (cw a4) (cw a5) (cw a6) (cw a7) (cw a8) (cw a9) (cw a10) (cw a11) (cw a12) (cw a13) (cw a14) (cw a15) (races.map hI) = some q := h
    unfold poolW at h
    split at h
    · cases h
    rename_i hf
    simp only [Bool.not_eq_false, Bool.and_eq_true, decide_eq_true_eq, cw_pool, cw_from, cw_take, cw_break, cw_least, cw_unit, cw_none] at hf
    obtain ⟨f0, f4, f6, f8, f10, f12, f14⟩ := hf
    subst f0 f4 f6 f8 f10 f12 f14
    rw [name_cw] at h
    split at h
    · cases h
    rename_i hn
    split at h
    · cases h
    rename_i lh hk
    obtain ⟨kd, rfl, rfl⟩ := kindB_some.mp hk
    split at h
    · cases h
    rename_i k hkk
    have mk : mostK kd < 10000000 := by cases kd <;> decide
    obtain ⟨k, rfl, k1, k2, k3⟩ := (within_cw (lo := leastK kd) (hi := mostK kd) mk).mp hkk
    split at h
    · cases h
    rename_i race hra
    obtain ⟨r, rfl, r1, r2, r3, r4, r5⟩ := (poolRace_some hr).mp hra
    split at h
    · cases h
    rename_i t ht
    obtain ⟨t, rfl, t1, t2, t3⟩ := (within_cw (lo := 0) (hi := 400) (by decide)).mp ht
    split at h
    · cases h
    rename_i b hb
    obtain ⟨b, rfl, b1, b2, b3⟩ := (within_cw (lo := 1) (hi := 1000) (by decide)).mp hb
    split at h
    · cases h
    rename_i u hu
    obtain ⟨u, rfl, u1, u2, u3⟩ := (within_cw (lo := 1) (hi := 10000) (by decide)).mp hu
    split at h
    · cases h
    rename_i l hlst
    obtain ⟨l, rfl, l1, l2, l3⟩ := (within_cw (lo := 0) (hi := 2 * u) (by omega)).mp hlst
    split at h
    · cases h
    rename_i hlu
    split at h
    · cases h
    rename_i hz
    obtain ⟨z, rfl⟩ := noneW_or.mp (Classical.not_not.mp hz)
    split at h
    · cases h
    rename_i hzf
    cases h
    refine ⟨_, ⟨a1, kindW kd, a3, a5, a7, a9, a11, a13, noneW z⟩, ⟨a1, kd, k, r, z, t, b, l, u⟩, rfl, ?_, rfl⟩
    exact ⟨rfl, rfl, by simpa using hn, rfl, k1, k2, k3, r1, r2, r3, r4, r5, t1, t3, b1, b2, b3, l1, (by show l ≤ 20000; omega), u1, u2, u3, (by show l = 0 ∨ (u ≤ l ∧ l ≤ 2 * u); omega), rfl, fun y => by
      refine hzf fun c => ?_
      rcases c with c | c
      · exact c (noneW_fewer.mpr y.2)
      · exact c (kindW_place.mpr y.1)⟩
  · rintro ⟨rest, x, p, rfl, P, rfl⟩
    rw [P.ws]
    obtain ⟨nm, kd, k, r, z, t, b, m, u⟩ := p
    obtain ⟨xn, xkd, xk, xr, xt, xb, xm, xu, xz⟩ := x
    have e1 : xn = nm := P.name
    have e2 : xkd = kindW kd := P.kd
    have e3 : xz = noneW z := P.z
    subst e1 e2 e3
    show poolW (cw (ascii "pool")) (cw xn) (cw (kindW kd)) (cw xk) (cw (ascii "from")) (cw xr) (cw (ascii "take")) (cw xt) (cw (ascii "break")) (cw xb) (cw (ascii "least")) (cw xm) (cw (ascii "unit")) (cw xu) (cw (ascii "none")) (cw (noneW z)) (races.map hI) = _
    unfold poolW
    have mk : mostK kd < 10000000 := by cases kd <;> decide
    have g1 : isName xn = true := P.isN
    have g2 : kindB (cw (kindW kd)) = some ((leastK kd : Int), (mostK kd : Int)) := kindB_some.mpr ⟨kd, rfl, rfl⟩
    have g3 : within (cw xk) (leastK kd : Int) (mostK kd : Int) = some (k : Int) := (within_cw (lo := leastK kd) (hi := mostK kd) mk).mpr ⟨k, rfl, P.k, P.k1, P.k2⟩
    have g4 : poolRaceM (cw xr) (cw (kindW kd)) (k : Int) (races.map hI) = some (r : Int) := (poolRace_some hr).mpr ⟨r, rfl, P.r, P.r1, P.r2, P.legs, P.heads⟩
    have g5 : within (cw xt) 0 400 = some (t : Int) := (within_cw (lo := 0) (hi := 400) (by decide)).mpr ⟨t, rfl, P.t, Nat.zero_le _, P.t2⟩
    have g6 : within (cw xb) 1 1000 = some (b : Int) := (within_cw (lo := 1) (hi := 1000) (by decide)).mpr ⟨b, rfl, P.b, P.b1, P.b2⟩
    have g7 : within (cw xu) 1 10000 = some (u : Int) := (within_cw (lo := 1) (hi := 10000) (by decide)).mpr ⟨u, rfl, P.u, P.u1, P.u2⟩
    have pm := P.mu
    have u2 := P.u2
    simp only at pm u2
    have g8 : within (cw xm) 0 (2 * (u : Int)) = some (m : Int) := (within_cw (lo := 0) (hi := 2 * u) (by omega)).mpr ⟨m, rfl, P.m, Nat.zero_le _, by omega⟩
    have fx : (decide (cw (ascii "pool") = wPool) && (decide (cw (ascii "from") = wFrom) && (decide (cw (ascii "take") = wTake) && (decide (cw (ascii "break") = wBreak) && (decide (cw (ascii "least") = wLeast) && (decide (cw (ascii "unit") = wUnit) && decide (cw (ascii "none") = wNone))))))) = true := by decide
    rw [fx, if_neg (by decide), name_cw, g1, if_neg (by decide), g2]
    simp only [g3, g4, g5, g6, g7, g8]
    rw [if_neg (by omega), if_neg (Classical.not_not.mpr (noneW_or.mpr ⟨z, rfl⟩)), if_neg]
    · rfl
    · intro c
      refine c ?_
      by_cases q : z = .fewer
      · exact .inr fun y => P.pf ⟨kindW_place.mp y, q⟩
      · exact .inl fun y => q (noneW_fewer.mp y)
end Pd
end
section
set_option Elab.async false
set_option linter.all false
namespace Pd
open Tote
theorem mapO_nil {α β : Type} (f : α → Option β) : mapO f [] = some [] := rfl
theorem mapO_cons_some {α β : Type} {f : α → Option β} {x : α} {r : List α} {zs : List β} : mapO f (x :: r) = some zs ↔ ∃ y ys, f x = some y ∧ mapO f r = some ys ∧ zs = y :: ys := by
  show (match f x with | none => none | some y => match mapO f r with | none => none | some ys => some (y :: ys)) = some zs ↔ _
  cases f x with
  | none => simp
  | some y =>
    cases mapO f r with
    | none => simp
    | some ys =>
      simp only [Option.some.injEq]
      constructor
      · intro h; exact ⟨y, ys, rfl, rfl, h.symm⟩
      · rintro ⟨_, _, rfl, rfl, h⟩; exact h.symm
theorem mapO_snoc {α β : Type} {f : α → Option β} {x : α} : ∀ {l : List α}, mapO f (l ++ [x]) = match mapO f l with | none => none | some ys => match f x with | none => none | some y => some (ys ++ [y])
  | [] => by
    show (match f x with | none => none | some y => some [y]) = _
    simp only [mapO_nil]
    cases f x <;> rfl
  | a :: l => by
    show (match f a with | none => none | some y => match mapO f (l ++ [x]) with | none => none | some ys => some (y :: ys)) = match (match f a with | none => none | some y => match mapO f l with | none => none | some ys => some (y :: ys)) with | none => none | some ys => match f x with | none => none | some y => some (ys ++ [y])
    cases f a with
    | none => rfl
    | some y =>
      rw [mapO_snoc (l := l)]
      cases mapO f l with
      | none => rfl
      | some ys => cases f x <;> rfl
theorem mapO_len {α β : Type} {f : α → Option β} : ∀ {l : List α} {ys : List β}, mapO f l = some ys → ys.length = l.length
  | [], ys, h => by cases h; rfl
  | a :: l, ys, h => by
    obtain ⟨y, zs, _, h2, rfl⟩ := mapO_cons_some.mp h
    rw [List.length_cons, List.length_cons, mapO_len h2]
theorem mapO_prefix {α β : Type} {f : α → Option β} : ∀ {l m : List α}, mapO f l = none → mapO f (l ++ m) = none
  | [], _, h => by cases h
  | a :: l, m, h => by
    show (match f a with | none => none | some y => match mapO f (l ++ m) with | none => none | some ys => some (y :: ys)) = none
    have h : (match f a with | none => none | some y => match mapO f l with | none => none | some ys => some (y :: ys)) = none := h
    cases q : f a with
    | none => rfl
    | some y =>
      rw [q] at h
      cases q2 : mapO f l with
      | none => rw [mapO_prefix (m := m) q2]
      | some ys => rw [q2] at h; cases h
theorem name_inj {v w : Bytes} (hv : isName v = true) (h : cw v = cw w) (hw : isName w = true) : v = w := by
  have p : ∀ {u : Bytes}, isName u = true → u.all (fun c => isSmall c || isDigit c) = true := fun {u} q => by
    unfold isName at q
    simp only [Bool.and_eq_true] at q
    exact q.2.2.1
  have e : ∀ {u : Bytes}, u.all (fun c => isSmall c || isDigit c) = true → cw u = toN u := fun {u} q => by
    unfold cw toN
    apply List.map_congr_left
    intro c hc
    have := List.all_eq_true.mp q c hc
    rw [isSmall_eq, isDigit_eq] at this
    exact sg_plain this
  rw [e (p hv), e (p hw)] at h
  exact toN_inj h
noncomputable abbrev cl (l : List Bytes) : List (List Nat) := l.map cw
theorem foldP : ∀ (ls : List (List Bytes)) (C0 C : Card), C0.races.length ≤ 16 → (C0.pools ≠ [] ∨ ∀ l, ls.head? = some l → l.head? ≠ some (ascii "race")) → (∀ p ∈ C0.pools, isName p.name = true) → (C0.pools.map (·.name)).Nodup → C0.pools.length ≤ 64 →
    FoldOk (some C0) ls (some C) → ∃ ps, C = { C0 with pools := C0.pools ++ ps } ∧ mapO (fun ws => poolM ws (C0.races.map hI)) (ls.map cl) = some (ps.map mp) ∧ C.pools.length ≤ 64 ∧ (C.pools.map (·.name)).Nodup ∧ (∀ p ∈ C.pools, isName p.name = true)
  | [], C0, C, _, _, hn, nd, hl, h => by
    cases h
    exact ⟨[], by simp, rfl, hl, nd, hn⟩
  | l :: ls, C0, C, hr, hh, hn, nd, hl, h => by
    obtain ⟨u, h1, h2⟩ := h
    rcases h1 with ⟨r, rest, e, e1, _, _, _⟩ | ⟨p, rest, x, e, e1, e2, e3, P, e4⟩
    · exfalso
      rcases hh with hh | hh
      · exact hh e1
      · exact hh l rfl (by rw [e]; rfl)
    · subst e4
      have nd' : ((C0.pools ++ [p]).map (·.name)).Nodup := by
        rw [List.map_append, List.nodup_append]
        refine ⟨nd, by simp, fun a ha b hb => ?_⟩
        simp at hb
        subst hb
        rintro rfl
        exact e3 ha
      obtain ⟨ps, g1, g2, g3, g4, g5⟩ := foldP ls { C0 with pools := C0.pools ++ [p] } C hr (.inl (by simp)) (fun q hq => by
        rcases List.mem_append.mp hq with hq | hq
        · exact hn q hq
        · simp at hq; subst hq; exact P.isN) nd' (by simp; omega) h2
      refine ⟨p :: ps, by rw [g1]; simp, ?_, g3, g4, g5⟩
      rw [List.map_cons, List.map_cons]
      exact mapO_cons_some.mpr ⟨mp p, ps.map mp, (pool_cw hr).mpr ⟨rest, x, p, e, P, rfl⟩, g2, rfl⟩
theorem foldP' : ∀ (ls : List (List Bytes)) (C0 : Card) (qs : List MP), C0.races ≠ [] → C0.races.length ≤ 16 → (∀ p ∈ C0.pools, isName p.name = true) → mapO (fun ws => poolM ws (C0.races.map hI)) (ls.map cl) = some qs → C0.pools.length + qs.length ≤ 64 →
    (C0.pools.map (fun p => cw p.name) ++ qs.map (·.name)).Nodup → ∃ ps, qs = ps.map mp ∧ FoldOk (some C0) ls (some { C0 with pools := C0.pools ++ ps })
  | [], C0, qs, _, _, _, h, _, _ => by
    cases h
    exact ⟨[], rfl, by simp [FoldOk]⟩
  | l :: ls, C0, qs, h0, hr, hn, h, hl, nd => by
    rw [List.map_cons] at h
    obtain ⟨q, qs, h1, h2, rfl⟩ := mapO_cons_some.mp h
    obtain ⟨rest, x, p, e, P, rfl⟩ := (pool_cw hr).mp h1
    have nd2 : ((C0.pools ++ [p]).map (fun p => cw p.name) ++ qs.map (·.name)).Nodup := by
      rw [List.map_append, List.append_assoc]
      exact nd
    obtain ⟨ps, g1, g2⟩ := foldP' ls { C0 with pools := C0.pools ++ [p] } qs h0 hr (fun q hq => by
        rcases List.mem_append.mp hq with hq | hq
        · exact hn q hq
        · simp at hq; subst hq; exact P.isN) h2 (by simp at hl ⊢; omega) nd2
    refine ⟨p :: ps, by rw [g1]; rfl, some { C0 with pools := C0.pools ++ [p] }, .inr ⟨p, rest, x, e, h0, by simp at hl; omega, fun hm => ?_, P, rfl⟩, ?_⟩
    · obtain ⟨p', hp', e'⟩ := List.mem_map.mp hm
      rw [List.nodup_append] at nd
      have e' : p'.name = p.name := e'
      refine nd.2.2 (cw p'.name) (List.mem_map.mpr ⟨p', hp', rfl⟩) (cw p.name) ?_ (by rw [e'])
      rw [List.map_cons]
      exact List.mem_cons_self
    · have : C0.pools ++ p :: ps = C0.pools ++ [p] ++ ps := by simp
      rw [this]
      exact g2
theorem isRaceL_cl (l : List Bytes) : isRaceL (cl l) = decide (l.head? = some (ascii "race")) := by
  unfold isRaceL
  cases l with
  | nil => rfl
  | cons w r =>
    have : (cl (w :: r)).head? = some (cw w) := rfl
    rw [this]
    simp only [Option.some.injEq, List.head?_cons, cw_race]
theorem foldR : ∀ (ls : List (List Bytes)) (C0 C : Card), C0.pools = [] → C0.races.length ≤ 16 → FoldOk (some C0) ls (some C) →
    ∃ rs, mapO raceM ((ls.map cl).takeWhile isRaceL) = some (rs.map hI) ∧ C0.races.length + rs.length ≤ 16 ∧ FoldOk (some { C0 with races := C0.races ++ rs }) (ls.dropWhile fun l => decide (l.head? = some (ascii "race"))) (some C)
  | [], C0, C, _, hl, h => ⟨[], rfl, by simpa using hl, by simpa using h⟩
  | l :: ls, C0, C, hp, hl, h => by
    rw [List.map_cons, List.takeWhile_cons, List.dropWhile_cons, isRaceL_cl]
    by_cases hc : l.head? = some (ascii "race")
    · rw [decide_eq_true hc, if_pos rfl, if_pos rfl]
      obtain ⟨u, h1, h2⟩ := h
      rcases h1 with ⟨r, rest, e, e1, e2, e3, e4⟩ | ⟨p, rest, x, e, _⟩
      · subst e4
        obtain ⟨rs, g1, g2, g3⟩ := foldR ls { C0 with races := C0.races ++ [r] } C hp (by simp; omega) h2
        refine ⟨r :: rs, ?_, by simp at g2 ⊢; omega, by simpa using g3⟩
        rw [List.map_cons]
        refine mapO_cons_some.mpr ⟨hI r, rs.map hI, ?_, g1, rfl⟩
        rcases race_cw (ascii "race") rest with ⟨_, q⟩ | ⟨r', q1, q2⟩
        · exact absurd e3 (q r)
        · rw [e3.uniq q1]
          rw [← q2, e]
      · exfalso
        rw [e] at hc
        exact absurd (Option.some.inj hc) (by decide)
    · rw [decide_eq_false hc]
      simp only [Bool.false_eq_true, if_false]
      exact ⟨[], rfl, by simpa using hl, by simpa using h⟩
theorem foldR' : ∀ (ls : List (List Bytes)) (C0 : Card) (hs : List (List Int)), C0.pools = [] → mapO raceM ((ls.map cl).takeWhile isRaceL) = some hs → C0.races.length + hs.length ≤ 16 →
    ∃ rs, hs = rs.map hI ∧ ∀ C, (FoldOk (some { C0 with races := C0.races ++ rs }) (ls.dropWhile fun l => decide (l.head? = some (ascii "race"))) (some C) → FoldOk (some C0) ls (some C))
  | [], C0, hs, _, h, _ => by
    cases h
    exact ⟨[], rfl, fun C q => by simpa using q⟩
  | l :: ls, C0, hs, hp, h, hl => by
    rw [List.map_cons, List.takeWhile_cons, isRaceL_cl] at h
    rw [List.dropWhile_cons]
    by_cases hc : l.head? = some (ascii "race")
    · rw [decide_eq_true hc, if_pos rfl] at h
      rw [decide_eq_true hc, if_pos rfl]
      obtain ⟨y, ys, h1, h2, rfl⟩ := mapO_cons_some.mp h
      cases l with
      | nil => cases hc
      | cons w rest =>
        have hw : w = ascii "race" := Option.some.inj hc
        rcases race_cw w rest with ⟨q, _⟩ | ⟨r, q1, q2⟩
        · have h1 : raceM ((w :: rest).map cw) = some y := h1
          rw [q] at h1; cases h1
        · have h1 : raceM ((w :: rest).map cw) = some y := h1
          rw [q2] at h1
          cases h1
          obtain ⟨rs, g1, g2⟩ := foldR' ls { C0 with races := C0.races ++ [r] } ys hp h2 (by simp at hl ⊢; omega)
          refine ⟨r :: rs, by rw [g1]; rfl, fun C q => ⟨some { C0 with races := C0.races ++ [r] }, .inl ⟨r, rest, by rw [hw], hp, by simp at hl; omega, q1, rfl⟩, g2 C ?_⟩⟩
          simpa using q
    · rw [decide_eq_false hc] at h
      rw [decide_eq_false hc]
      simp only [Bool.false_eq_true, if_false] at h ⊢
      cases h
      exact ⟨[], rfl, fun C q => by simpa using q⟩
theorem linesM_cw (b : Bytes) : linesM (cw b) = if (cutB 10 [] b).getLast?.getD [] = [] then some ((cutB 10 [] b).dropLast.map fun l => cl (cutB 32 [] l)) else none := by
  unfold linesM
  have e : cut 10 [] (cw b) = (cutB 10 [] b).map cw := cut10 b []
  rw [e, List.getLast?_map]
  have e2 : (Option.map cw (cutB 10 [] b).getLast?).getD [] = [] ↔ (cutB 10 [] b).getLast?.getD [] = [] := by
    cases (cutB 10 [] b).getLast? with
    | none => simp
    | some x =>
      show cw x = [] ↔ x = []
      unfold cw
      rw [List.map_eq_nil_iff]
  simp only [e2]
  split
  · congr 1
    rw [← List.map_dropLast, List.map_map]
    apply List.map_congr_left
    intro l _
    exact cut32 l []
  · rfl
theorem cutB_split {b : Bytes} {ls : List Bytes} : cutB 10 [] b = ls ++ [[]] ↔ (cutB 10 [] b).getLast?.getD [] = [] ∧ ls = (cutB 10 [] b).dropLast := by
  obtain ⟨w, ws, h1, _⟩ := cutB_head 10 b []
  constructor
  · intro h
    rw [h]
    simp
  · rintro ⟨h2, rfl⟩
    have ne : cutB 10 [] b ≠ [] := by rw [h1]; simp
    have := List.dropLast_concat_getLast ne
    rw [List.getLast?_eq_some_getLast ne] at h2
    have h2 : (cutB 10 [] b).getLast ne = [] := h2
    rw [h2] at this
    exact this.symm
theorem dropWhile_map_cl (ls : List (List Bytes)) : (ls.map cl).dropWhile isRaceL = (ls.dropWhile fun l => decide (l.head? = some (ascii "race"))).map cl := by
  induction ls with
  | nil => rfl
  | cons l ls ih =>
    rw [List.map_cons, List.dropWhile_cons, List.dropWhile_cons, isRaceL_cl]
    split
    · exact ih
    · rfl
theorem drop_head (ls : List (List Bytes)) : ∀ l, (ls.dropWhile fun l => decide (l.head? = some (ascii "race"))).head? = some l → l.head? ≠ some (ascii "race") := by
  induction ls with
  | nil => intro l h; cases h
  | cons a r ih =>
    intro l h
    rw [List.dropWhile_cons] at h
    by_cases hc : a.head? = some (ascii "race")
    · rw [decide_eq_true hc, if_pos rfl] at h
      exact ih l h
    · rw [decide_eq_false hc] at h
      simp only [Bool.false_eq_true, if_false] at h
      have : a = l := Option.some.inj h
      subst this
      exact hc
theorem names_nodup {ps : List Pool} (hn : ∀ p ∈ ps, isName p.name = true) : ((ps.map mp).map (·.name)).Nodup ↔ (ps.map (·.name)).Nodup := by
  rw [List.map_map]
  induction ps with
  | nil => simp
  | cons p ps ih =>
    have ih := ih fun q hq => hn q (List.mem_cons_of_mem _ hq)
    rw [List.map_cons, List.map_cons, List.nodup_cons, List.nodup_cons, ih]
    have : ((fun x : MP => x.name) ∘ mp) p ∈ List.map ((fun x : MP => x.name) ∘ mp) ps ↔ p.name ∈ ps.map (·.name) := by
      rw [List.mem_map, List.mem_map]
      constructor
      · rintro ⟨q, h1, h2⟩
        have h2 : cw q.name = cw p.name := h2
        exact ⟨q, h1, name_inj (hn q (List.mem_cons_of_mem _ h1)) h2 (hn p List.mem_cons_self)⟩
      · rintro ⟨q, h1, h2⟩
        refine ⟨q, h1, ?_⟩
        show cw q.name = cw p.name
        rw [h2]
    rw [this]
theorem card_ok {b : Bytes} {C : Card} (h : readCard b = .ok C) : cardM (cw b) = some (C.races.map hI, C.pools.map mp) ∧ C.races.length ≤ 16 := by
  obtain ⟨⟨ls, h1, h2⟩, h3⟩ := readCard_ok.mp h
  obtain ⟨e1, e2⟩ := cutB_split.mp h1
  unfold cardM
  rw [linesM_cw, if_pos e1, ← e2]
  cases ls with
  | nil => exact absurd h2 (by simp [FoldOk])
  | cons d ls =>
    obtain ⟨u, ⟨n, g1, g2, g3⟩, h2⟩ := h2
    subst g3
    rw [List.map_cons]
    simp only
    have hd : dayM (cl (cutB 32 [] d)) = true := by
      rw [g1]
      unfold dayM
      simp only [cl, List.map_cons, List.map_nil, List.length_cons, List.length_nil, List.getD_cons_zero, List.getD_cons_succ, name_cw, g2]
      decide
    rw [hd, if_neg (by decide)]
    have em : (ls.map fun l => cl (cutB 32 [] l)) = (ls.map (cutB 32 [])).map cl := by rw [List.map_map]; rfl
    rw [em]
    obtain ⟨rs, r1, r2, r3⟩ := foldR (ls.map (cutB 32 [])) { noCard with name := n } C rfl (Nat.zero_le _) h2
    have r2 : rs.length ≤ 16 := by simpa [noCard] using r2
    obtain ⟨ps, p1, p2, p3, p4, p5⟩ := foldP _ _ C (by simpa [noCard] using r2) (.inr (drop_head _)) (by simp [noCard]) (by simp [noCard]) (by simp [noCard]) r3
    have er : C.races = rs := by rw [p1]; simp [noCard]
    have ep : C.pools = ps := by rw [p1]; simp [noCard]
    have lr := mapO_len r1
    rw [List.length_map] at lr
    have ne : rs ≠ [] := by rw [← er]; exact h3
    have l1 : 1 ≤ rs.length := List.length_pos_iff.mpr ne
    refine ⟨?_, by rw [er]; exact r2⟩
    rw [if_neg (by rw [← lr]; omega), r1]
    simp only
    have lp := mapO_len p2
    rw [List.length_map] at lp
    rw [dropWhile_map_cl]
    have p2' : mapO (fun ws => poolM ws (rs.map hI)) ((List.dropWhile (fun l => decide (l.head? = some (ascii "race"))) (ls.map (cutB 32 []))).map cl) = some (ps.map mp) := by
      simpa [noCard] using p2
    rw [p2', if_neg (by rw [← lp, ← ep]; omega)]
    simp only
    rw [if_pos]
    · rw [er, ep]
    · rw [← ep]
      exact (names_nodup p5).mpr p4
theorem of_cardM {b : Bytes} {rs : List (List Int)} {qs : List MP} (h : cardM (cw b) = some (rs, qs)) : ∃ C, readCard b = .ok C ∧ rs = C.races.map hI ∧ qs = C.pools.map mp := by
  unfold cardM at h
  rw [linesM_cw] at h
  split at h
  · cases h
  · cases h
  · rename_i d ls hls
    split at hls
    · rename_i e1
      split at h
      · cases h
      rename_i hd
      split at h
      · cases h
      rename_i hrc
      split at h
      · cases h
      rename_i races hra
      split at h
      · cases h
      rename_i hpl
      split at h
      · cases h
      rename_i pools hpo
      split at h
      · rename_i nd
        cases h
        have hls := Option.some.inj hls
        generalize hL : (cutB 10 [] b).dropLast = L at hls
        cases L with
        | nil => cases hls
        | cons d0 L =>
          rw [List.map_cons] at hls
          obtain ⟨rfl, rfl⟩ := List.cons.inj hls
          have em : (L.map fun l => cl (cutB 32 [] l)) = (L.map (cutB 32 [])).map cl := by rw [List.map_map]; rfl
          rw [em] at hra hrc hpl hpo
          have hd : dayM (cl (cutB 32 [] d0)) = true := by simpa using hd
          obtain ⟨n, g1, g2⟩ : ∃ n, cutB 32 [] d0 = [ascii "day", n] ∧ isName n = true := by
            unfold dayM at hd
            simp only [Bool.and_eq_true, decide_eq_true_eq] at hd
            obtain ⟨q1, q2, q3⟩ := hd
            rw [List.length_map] at q1
            obtain ⟨a, c, e⟩ := list2 q1
            rw [e] at q2 q3
            have q2 : cw a = wDay := q2
            have q3 : nameM (cw c) = true := q3
            rw [name_cw] at q3
            exact ⟨c, by rw [e, (cw_day a).mp q2], q3⟩
          have lr := mapO_len hra
          obtain ⟨rl, r1, r2⟩ := foldR' (L.map (cutB 32 [])) { noCard with name := n } rs rfl hra (by simp [noCard]; omega)
          have lrl : rl.length = rs.length := by rw [r1, List.length_map]
          have hne : rl ≠ [] := fun z => by
            rw [z] at lrl
            simp at lrl
            omega
          rw [dropWhile_map_cl] at hpo hpl
          have lp := mapO_len hpo
          rw [r1] at hpo
          obtain ⟨ps, p1, p2⟩ := foldP' _ { noCard with name := n, races := rl } qs hne (by simp; omega) (by simp [noCard]) hpo (by simp [noCard]; omega) (by simpa [noCard] using nd)
          refine ⟨⟨n, rl, ps⟩, readCard_ok.mpr ⟨⟨d0 :: L, cutB_split.mpr ⟨e1, hL.symm⟩, some { noCard with name := n }, ⟨n, g1, g2, rfl⟩, ?_⟩, hne⟩, r1, p1⟩
          refine r2 _ ?_
          simpa [noCard] using p2
      · cases h
    · cases hls
end Pd
end
section
set_option Elab.async false
set_option linter.all false
namespace Pd
open Tote TotePoolCalls
noncomputable def rowsM (n : Int) (k : Nat) : Int := (List.range k).foldl (fun r (t : Nat) => r * (n - (t : Int))) 1
noncomputable def legsM (races : List (List Int)) : Int := races.foldl (fun r (l : List Int) => r * (l.length : Int)) 1
noncomputable def countM (races : List (List Int)) (p : MP) : Int :=
  if p.kind = wLegs then legsM ((races.drop (p.race - 1).toNat).take p.k.toNat) else
    let n : Int := ((races.getD (p.race - 1).toNat []).length : Int)
    if p.kind = wPlace then n else if p.kind = wOrder then rowsM n p.k.toNat else Int.fdiv (rowsM n p.k.toNat) (rowsM p.k p.k.toNat)
theorem rowsM_succ (n : Int) (k : Nat) : rowsM n (k + 1) = rowsM n k * (n - (k : Int)) := by
  unfold rowsM
  rw [List.range_succ, List.foldl_append]
  rfl
theorem orders_succ : ∀ (n k : Nat), (orders n (k + 1) : Int) = (orders n k : Int) * ((n : Int) - (k : Int))
  | 0, 0 => by simp [orders]
  | 0, k + 1 => by simp [orders]
  | n + 1, 0 => by simp [orders]
  | n + 1, k + 1 => by
    show (((n + 1) * orders n (k + 1) : Nat) : Int) = (((n + 1) * orders n k : Nat) : Int) * (((n + 1 : Nat) : Int) - ((k + 1 : Nat) : Int))
    have e : ((n + 1 : Nat) : Int) - ((k + 1 : Nat) : Int) = (n : Int) - (k : Int) := by omega
    rw [e, Int.natCast_mul, Int.natCast_mul, orders_succ n k, Int.mul_assoc]
theorem rows_orders (n : Nat) : ∀ k : Nat, rowsM (n : Int) k = (orders n k : Int)
  | 0 => by
    have : orders n 0 = 1 := by cases n <;> rfl
    rw [this]
    rfl
  | k + 1 => by rw [rowsM_succ, rows_orders n k, orders_succ]
theorem legs_prod : ∀ (l : List Race) (a : Nat), (l.map hI).foldl (fun r (x : List Int) => r * (x.length : Int)) (a : Int) = ((((l.map Race.heads).map List.length).foldl (fun (x y : Nat) => x * y) a : Nat) : Int)
  | [], a => rfl
  | r :: l, a => by
    rw [List.map_cons, List.foldl_cons, List.map_cons, List.map_cons, List.foldl_cons, ← legs_prod l]
    congr 1
    unfold hI
    rw [List.length_map, Int.natCast_mul]
structure PIn (races : List (List Int)) (p : MP) : Prop where
  kd : p.kind = wPlace ∨ p.kind = wOrder ∨ p.kind = wAny ∨ p.kind = wLegs
  k1 : 1 ≤ p.k
  k2 : p.k ≤ 6
  r1 : 1 ≤ p.race
  r2 : p.race ≤ (races.length : Int)
  legs : p.kind = wLegs → p.race + p.k - 1 ≤ (races.length : Int)
theorem within_some {w : List Nat} {lo hi n : Int} (h : within w lo hi = some n) : lo ≤ n ∧ n ≤ hi ∧ n = numM w := by
  unfold within at h
  split at h
  · rename_i q; cases h; exact ⟨q.1, q.2, rfl⟩
  · cases h
theorem poolM_in {ws : List (List Nat)} {races : List (List Int)} {p : MP} (h : poolM ws races = some p) : PIn races p := by
  unfold poolM at h
  split at h
  · cases h
  split at h
  · cases h
  split at h
  · cases h
  split at h
  · cases h
  rename_i lh hk
  split at h
  · cases h
  rename_i k hkk
  split at h
  · cases h
  rename_i race hra
  split at h
  · cases h
  split at h
  · cases h
  split at h
  · cases h
  split at h
  · cases h
  split at h
  · cases h
  split at h
  · cases h
  split at h
  · cases h
  cases h
  obtain ⟨k1, k2, _⟩ := within_some hkk
  have hkd : (ws.getD 2 [] = wPlace ∨ ws.getD 2 [] = wOrder ∨ ws.getD 2 [] = wAny ∨ ws.getD 2 [] = wLegs) ∧ 1 ≤ lh.1 ∧ lh.2 ≤ 6 := by
    unfold kindB at hk
    split at hk
    · rename_i q; cases hk; exact ⟨.inl q, by decide, by decide⟩
    split at hk
    · rename_i q; cases hk; exact ⟨.inr (.inl q), by decide, by decide⟩
    split at hk
    · rename_i q; cases hk; exact ⟨.inr (.inr (.inl q)), by decide, by decide⟩
    split at hk
    · rename_i q; cases hk; exact ⟨.inr (.inr (.inr q)), by decide, by decide⟩
    cases hk
  unfold poolRaceM at hra
  split at hra
  · cases hra
  rename_i r hr
  obtain ⟨r1, r2, _⟩ := within_some hr
  split at hra
  · rename_i q
    split at hra
    · rename_i q2
      cases hra
      exact ⟨hkd.1, by show 1 ≤ k; omega, by show k ≤ 6; omega, r1, r2, fun _ => q2⟩
    · cases hra
  · rename_i q
    split at hra
    · cases hra
      exact ⟨hkd.1, by show 1 ≤ k; omega, by show k ≤ 6; omega, r1, r2, fun z => absurd z q⟩
    · cases hra
theorem mapO_mem {α β : Type} {f : α → Option β} : ∀ {l : List α} {ys : List β}, mapO f l = some ys → ∀ y ∈ ys, ∃ x ∈ l, f x = some y
  | [], ys, h, y, hy => by cases h; cases hy
  | a :: l, ys, h, y, hy => by
    obtain ⟨z, zs, h1, h2, rfl⟩ := mapO_cons_some.mp h
    rcases List.mem_cons.mp hy with rfl | hy
    · exact ⟨a, List.mem_cons_self, h1⟩
    · obtain ⟨x, h3, h4⟩ := mapO_mem h2 y hy
      exact ⟨x, List.mem_cons_of_mem _ h3, h4⟩
theorem count_eq {C : Card} {p : Pool} (P : PIn (C.races.map hI) (mp p)) : countM (C.races.map hI) (mp p) = (C.many p : Int) := by
  have r1 : 1 ≤ (p.race : Int) := P.r1
  have r2 : (p.race : Int) ≤ ((C.races.map hI).length : Int) := P.r2
  rw [List.length_map] at r2
  have e : ((mp p).race - 1).toNat = p.race - 1 := by show ((p.race : Int) - 1).toNat = _; omega
  have ek : (mp p).k.toNat = p.k := by show ((p.k : Int)).toNat = _; omega
  unfold countM Card.many
  rw [e, ek]
  have hd : ∀ i, p.legs = i + 1 → ((C.sets p).headD []).length = ((C.races.map hI).getD (p.race - 1) []).length := fun i hi => by
    unfold Card.sets
    rw [hi, List.range_succ_eq_map, List.map_cons, List.headD_cons]
    unfold Card.headsOf
    rw [Nat.add_zero, List.getD_eq_getElem?_getD, List.getElem?_map]
    cases C.races[p.race - 1]? with
    | none => rfl
    | some x => simp [hI]
  obtain ⟨nm, kd, k, r, z, t, b, m, u⟩ := p
  cases kd with
  | legs =>
    rw [if_pos (show (mp ⟨nm, .legs, k, r, z, t, b, m, u⟩).kind = wLegs from kindW_legs.mpr rfl)]
    have hl : (r : Int) + (k : Int) - 1 ≤ ((C.races.map hI).length : Int) := P.legs (kindW_legs.mpr rfl)
    rw [List.length_map] at hl
    show legsM (((C.races.map hI).drop (r - 1)).take k) = ((product (((List.range k).map fun (i : Nat) => C.headsOf (r + i)).map List.length) : Nat) : Int)
    have es : ((List.range k).map fun (i : Nat) => C.headsOf (r + i)) = ((C.races.drop (r - 1)).take k).map Race.heads := by
      apply List.ext_getElem
      · have r1 : 1 ≤ (r : Int) := r1
        simp only [List.length_map, List.length_range, List.length_take, List.length_drop]
        omega
      · intro i h1 h2
        have r1 : 1 ≤ (r : Int) := r1
        simp only [List.getElem_map, List.getElem_range, List.getElem_take, List.getElem_drop]
        simp only [List.length_map, List.length_range] at h1
        unfold Card.headsOf
        have hb : r - 1 + i < C.races.length := by omega
        have e1 : r + i - 1 = r - 1 + i := by omega
        rw [e1, List.getElem?_eq_getElem hb]
        rfl
    rw [es]
    unfold legsM product
    rw [← List.map_drop, ← List.map_take]
    exact legs_prod _ 1
  | place =>
    rw [if_neg (show ¬ (mp ⟨nm, .place, k, r, z, t, b, m, u⟩).kind = wLegs from fun q => by cases kindW_legs.mp q)]
    simp only
    rw [if_pos (show (mp ⟨nm, .place, k, r, z, t, b, m, u⟩).kind = wPlace from kindW_place.mpr rfl)]
    have := hd 0 rfl
    rw [this]
  | order =>
    rw [if_neg (show ¬ (mp ⟨nm, .order, k, r, z, t, b, m, u⟩).kind = wLegs from fun q => by cases kindW_legs.mp q)]
    simp only
    rw [if_neg (show ¬ (mp ⟨nm, .order, k, r, z, t, b, m, u⟩).kind = wPlace from fun q => by cases kindW_place.mp q),
      if_pos (show (mp ⟨nm, .order, k, r, z, t, b, m, u⟩).kind = wOrder from (by decide : cw (kindW .order) = wOrder))]
    have := hd 0 rfl
    rw [rows_orders, this]
  | any =>
    rw [if_neg (show ¬ (mp ⟨nm, .any, k, r, z, t, b, m, u⟩).kind = wLegs from fun q => by cases kindW_legs.mp q)]
    simp only
    rw [if_neg (show ¬ (mp ⟨nm, .any, k, r, z, t, b, m, u⟩).kind = wPlace from fun q => by cases kindW_place.mp q),
      if_neg (show ¬ (mp ⟨nm, .any, k, r, z, t, b, m, u⟩).kind = wOrder from (by decide : ¬ cw (kindW .any) = wOrder))]
    have := hd 0 rfl
    have ek2 : (mp ⟨nm, .any, k, r, z, t, b, m, u⟩).k = (k : Int) := rfl
    rw [rows_orders, ek2, rows_orders, this]
    unfold choose
    rw [Int.fdiv_eq_ediv_of_nonneg _ (Int.natCast_nonneg _)]
    exact Int.ofNat_ediv_ofNat
noncomputable def goodM (n : Int) : Int → List Int → Bool
  | before, a :: b :: r => decide (before < a) && (decide (a < n) && (decide (1 ≤ b) && goodM n a r))
  | _, _ => true
noncomputable def oddsM : List Int → List Int
  | _ :: b :: r => b :: oddsM r
  | _ => []
noncomputable def centsM (money : List Int) : Int := (oddsM money).sum
noncomputable def rightM (money : List Int) (n : Int) : Bool := decide (money.length ≤ 524288) && (goodM n (-1) money && decide (centsM money ≤ 281474976710655))
theorem pairs_total : ∀ (l : List Int) (a : Nat), (∀ x ∈ l, 0 ≤ x) → ((((PoolNeutral.pairs l).map fun (x : Nat × Nat) => x.2).foldl (fun (a b : Nat) => a + b) a : Nat) : Int) = (a : Int) + (oddsM l).sum
  | [], a, _ => by simp [PoolNeutral.pairs, oddsM]
  | [x], a, _ => by simp [PoolNeutral.pairs, oddsM]
  | x :: y :: r, a, h => by
    have h2 := h y (by simp)
    show ((((PoolNeutral.pairs r).map fun (x : Nat × Nat) => x.2).foldl (fun (a b : Nat) => a + b) (a + y.toNat) : Nat) : Int) = (a : Int) + (y :: oddsM r).sum
    rw [pairs_total r (a + y.toNat) fun z hz => h z (by simp [hz]), List.sum_cons]
    omega
theorem cents_total {l : List Int} (h : ∀ x ∈ l, 0 ≤ x) : ((Money.total (PoolNeutral.pairs l) : Nat) : Int) = centsM l := by
  unfold Money.total centsM
  rw [pairs_total l 0 h]
  simp
theorem pairs_len : ∀ l : List Int, (PoolNeutral.pairs l).length = l.length / 2
  | [] => by simp [PoolNeutral.pairs]
  | [x] => by simp [PoolNeutral.pairs]
  | x :: y :: r => by
    have := pairs_len r
    simp only [PoolNeutral.pairs, List.length_cons]
    omega
theorem good_eq {n : Nat} : ∀ (l : List Int), (∀ x ∈ l, 0 ≤ x) → ∀ before : Int, goodM (n : Int) before l = true ↔
    (∀ x, (PoolNeutral.pairs l).head? = some x → before < (x.1 : Int)) ∧ risesN ((PoolNeutral.pairs l).map fun (x : Nat × Nat) => x.1) = true ∧ (PoolNeutral.pairs l).all (fun (x : Nat × Nat) => decide (x.1 < n) && decide (0 < x.2)) = true
  | [], _, before => by simp [goodM, PoolNeutral.pairs, risesN]
  | [x], _, before => by simp [goodM, PoolNeutral.pairs, risesN]
  | x :: y :: r, h, before => by
    have hx := h x (by simp)
    have hy := h y (by simp)
    have ih := good_eq (n := n) r (fun z hz => h z (by simp [hz])) x
    show (decide (before < x) && (decide (x < (n : Int)) && (decide (1 ≤ y) && goodM (n : Int) x r))) = true ↔ (∀ z, some (x.toNat, y.toNat) = some z → before < (z.1 : Int)) ∧ risesN (x.toNat :: (PoolNeutral.pairs r).map fun (x : Nat × Nat) => x.1) = true ∧ ((decide (x.toNat < n) && decide (0 < y.toNat)) && (PoolNeutral.pairs r).all (fun (x : Nat × Nat) => decide (x.1 < n) && decide (0 < x.2))) = true
    simp only [Bool.and_eq_true, decide_eq_true_eq]
    rw [ih]
    have er : risesN (x.toNat :: (PoolNeutral.pairs r).map fun (x : Nat × Nat) => x.1) = true ↔ (∀ z, (PoolNeutral.pairs r).head? = some z → x < (z.1 : Int)) ∧ risesN ((PoolNeutral.pairs r).map fun (x : Nat × Nat) => x.1) = true := by
      cases PoolNeutral.pairs r with
      | nil => simp [risesN]
      | cons z zs =>
        show (decide (x.toNat < z.1) && risesN (z.1 :: zs.map fun (x : Nat × Nat) => x.1)) = true ↔ (∀ q, some z = some q → x < (q.1 : Int)) ∧ risesN (z.1 :: zs.map fun (x : Nat × Nat) => x.1) = true
        rw [Bool.and_eq_true, decide_eq_true_eq]
        constructor
        · rintro ⟨h1, h2⟩
          exact ⟨fun q hq => by cases hq; omega, h2⟩
        · rintro ⟨h1, h2⟩
          exact ⟨by have := h1 z rfl; omega, h2⟩
    rw [er]
    constructor
    · rintro ⟨h1, h2, h3, h4, h5, h6⟩
      exact ⟨fun z hz => by cases hz; show before < ((x.toNat : Nat) : Int); omega, ⟨h4, h5⟩, ⟨by omega, by omega⟩, h6⟩
    · rintro ⟨h1, ⟨h4, h5⟩, ⟨h2, h3⟩, h6⟩
      have h1 : before < ((x.toNat : Nat) : Int) := h1 _ rfl
      exact ⟨by omega, by omega, by omega, h4, h5, h6⟩
theorem right_eq {n : Nat} {l : List Int} (h : ∀ x ∈ l, 0 ≤ x) (hl : l.length % 2 = 0) : rightM l (n : Int) = Money.right n (PoolNeutral.pairs l) := by
  rw [Bool.eq_iff_iff]
  unfold rightM Money.right
  rw [Bool.and_eq_true, Bool.and_eq_true, good_eq l h (-1)]
  simp only [Bool.and_eq_true, decide_eq_true_eq]
  have hp := pairs_len l
  have ht := cents_total h
  unfold ENTRIES CENTS
  constructor
  · rintro ⟨h1, ⟨_, h2, h3⟩, h4⟩
    exact ⟨h2, h3, by omega, by omega⟩
  · rintro ⟨h2, h3, h4, h5⟩
    exact ⟨by omega, ⟨fun x _ => by omega, h2, h3⟩, by omega⟩
noncomputable def codesOf (card : List Int) : List Nat := card.map fun i => sg i.toNat
noncomputable def askM (pool : Int) (card : List Int) (moneys : List (List Int)) : Int × Int :=
  if 65536 < card.length then (-2, 0) else
    match cardM (codesOf card) with
    | none => (-8, 0)
    | some c => match c.2[pool.toNat]? with
      | none => (-4, 0)
      | some p => if moneys.all (fun m => rightM m (countM c.1 p)) = true then (0, countM c.1 p) else (-3, 0)
theorem codes_text {card : List Int} (h : ∀ x ∈ card, 0 ≤ x ∧ x ≤ 255) : codesOf card = cw (PoolNeutral.text card) := by
  unfold codesOf cw PoolNeutral.text PoolNeutral.nats
  rw [List.map_map, List.map_map]
  apply List.map_congr_left
  intro x hx
  have := h x hx
  show sg x.toNat = sg (UInt8.ofNat x.toNat).toNat
  rw [UInt8.toNat_ofNat', Nat.mod_eq_of_lt (by omega)]
theorem cardM_in {codes : List Nat} {rs : List (List Int)} {ps : List MP} (h : cardM codes = some (rs, ps)) : ∀ p ∈ ps, PIn rs p := by
  unfold cardM at h
  split at h
  · cases h
  · cases h
  split at h
  · cases h
  split at h
  · cases h
  split at h
  · cases h
  split at h
  · cases h
  split at h
  · cases h
  rename_i hq
  split at h
  · cases h
    intro p hp
    obtain ⟨ws, _, h1⟩ := mapO_mem hq p hp
    exact poolM_in h1
  · cases h
theorem answer_eq {pool : Int} {card money : List Int} {others : List (List Int)} {g : Card → Nat → Ans} {gm : Int × Int → List Int} (hc : ∀ x ∈ card, 0 ≤ x ∧ x ≤ 255) (hm : ∀ x ∈ money, 0 ≤ x) (hml : money.length % 2 = 0)
    (hneg : ∀ z : Int, z < 0 → gm (z, 0) = [z]) (hok : ∀ C (n : Nat), rightM money n = true → others.all (fun m => rightM m n) = true → (let a := g C n; a.code :: a.nums) = gm (0, n)) (hbad : ∀ C (n : Nat), others.all (fun m => rightM m n) = false → (let a := g C n; a.code :: a.nums) = [-3]) :
    (let a := ofMoney (PoolNeutral.text card) pool.toNat (PoolNeutral.pairs money) g; a.code :: a.nums) = gm (askM pool card (money :: others)) := by
  unfold ofMoney ofCard askM TEXT
  have el : (PoolNeutral.text card).length = card.length := by unfold PoolNeutral.text PoolNeutral.nats; rw [List.length_map, List.length_map]
  rw [el]
  by_cases h1 : 65536 < card.length
  · rw [if_pos h1, if_pos h1, hneg _ (by decide)]
    rfl
  · rw [if_neg h1, if_neg h1, codes_text hc]
    cases hr : readCard (PoolNeutral.text card) with
    | error e =>
      cases hq : cardM (cw (PoolNeutral.text card)) with
      | none => exact (hneg (-8) (by decide)).symm
      | some c =>
        obtain ⟨rs, ps⟩ := c
        obtain ⟨C, z, _⟩ := of_cardM hq
        rw [hr] at z
        cases z
    | ok C =>
      obtain ⟨hq, _⟩ := card_ok hr
      rw [hq]
      simp only
      rw [List.getElem?_map]
      cases hp : C.pools[pool.toNat]? with
      | none => exact (hneg (-4) (by decide)).symm
      | some p =>
        have hin := cardM_in hq (mp p) (List.mem_map.mpr ⟨p, List.mem_of_getElem? hp, rfl⟩)
        simp only [Option.map_some]
        rw [count_eq hin, ← right_eq hm hml, List.all_cons]
        by_cases hz : rightM money (C.many p : Int) = true
        · rw [if_pos hz, hz, Bool.true_and]
          by_cases ho : others.all (fun m => rightM m (C.many p : Int)) = true
          · rw [if_pos ho]
            exact hok C (C.many p) hz ho
          · rw [if_neg ho, hneg _ (by decide)]
            exact hbad C _ (by simpa using ho)
        · rw [if_neg hz, if_neg (by rw [Bool.and_eq_true]; exact fun y => hz y.1)]
          exact (hneg (-3) (by decide)).symm
noncomputable def atM (k : Int) : List Int → Option Int
  | a :: b :: r => if a = k then some b else atM k r
  | _ => none
theorem on_atM {n : Nat} : ∀ l : List Int, (∀ x ∈ l, 0 ≤ x) → ((Money.on (PoolNeutral.pairs l) n : Nat) : Int) = (atM (n : Int) l).getD 0
  | [], _ => by rfl
  | [x], _ => by rfl
  | a :: b :: r, h => by
    have ih := on_atM (n := n) r (fun z hz => h z (by simp [hz]))
    have ha := h a (by simp)
    have hb := h b (by simp)
    show ((Money.on ((a.toNat, b.toNat) :: PoolNeutral.pairs r) n : Nat) : Int) = (if a = (n : Int) then some b else atM n r).getD 0
    unfold Money.on at ih ⊢
    by_cases e : a = (n : Int)
    · rw [if_pos e, List.find?_cons_of_pos (by simp [e])]
      show ((b.toNat : Nat) : Int) = b
      omega
    · rw [if_neg e, List.find?_cons_of_neg (by simp; omega)]
      exact ih
end Pd
end
section
set_option Elab.async false
set_option linter.all false
set_option maxRecDepth 100000
set_option maxHeartbeats 2000000
namespace L2
open PySem PySem.Spec PyProof.Rows
theorem us_0 {α : Type} {us : List α} (h : us.length = 0) : us = [] := List.length_eq_zero_iff.mp h
theorem us_s {α : Type} {us : List α} {n : Nat} (h : us.length = n + 1) : ∃ a r, us = a :: r ∧ r.length = n := by
  cases us with
  | nil => cases h
  | cons a r => exact ⟨a, r, rfl, Nat.succ.inj h⟩
theorem us_1 {α : Type} {us : List α} (h : us.length = 1) : ∃ a, us = [a] := by
  obtain ⟨a, r, e, h⟩ := us_s h
  rw [e, us_0 h]
  exact ⟨a, rfl⟩
theorem us_2 {α : Type} {us : List α} (h : us.length = 2) : ∃ a b, us = [a, b] := by
  obtain ⟨a, r, e, h⟩ := us_s h
  obtain ⟨b, q⟩ := us_1 h
  exact ⟨a, b, by rw [e, q]⟩
theorem us_3 {α : Type} {us : List α} (h : us.length = 3) : ∃ a b c, us = [a, b, c] := by
  obtain ⟨a, r, e, h⟩ := us_s h
  obtain ⟨b, c, q⟩ := us_2 h
  exact ⟨a, b, c, by rw [e, q]⟩
theorem us_4 {α : Type} {us : List α} (h : us.length = 4) : ∃ a b c d, us = [a, b, c, d] := by
  obtain ⟨a, r, e, h⟩ := us_s h
  obtain ⟨b, c, d, q⟩ := us_3 h
  exact ⟨a, b, c, d, by rw [e, q]⟩
theorem us_5 {α : Type} {us : List α} (h : us.length = 5) : ∃ a b c d x, us = [a, b, c, d, x] := by
  obtain ⟨a, r, e, h⟩ := us_s h
  obtain ⟨b, c, d, x, q⟩ := us_4 h
  exact ⟨a, b, c, d, x, by rw [e, q]⟩
theorem us_6 {α : Type} {us : List α} (h : us.length = 6) : ∃ a b c d x y, us = [a, b, c, d, x, y] := by
  obtain ⟨a, r, e, h⟩ := us_s h
  obtain ⟨b, c, d, x, y, q⟩ := us_5 h
  exact ⟨a, b, c, d, x, y, by rw [e, q]⟩
structure Def (K : PySem.W.Frag) (mg : Str → Option Value) (x : Str) (st : Stmt) (ps : List Str) : Prop where
  ex : ∃ f fd, mg x = some (.ref f) ∧ Fun K x x st f fd ∧ Binds K fd ps []
structure Ok (P : Program) (w : World) (K : PySem.W.Frag) (mg : Str → Option Value) (base : Heap) (CX : CXT) (k : Nat) (x : Str) (ps : List Str) (sp : Sp) : Prop where
  ex : ∃ f fd, FnOk P w K mg base CX k f fd ps sp ∧ mg x = some (.ref f) ∧ PySem.W.keepIn K (.ref f) = true ∧ Binds K fd ps []
section
variable {P : Program} {w : World} {K : PySem.W.Frag} {mg : Str → Option Value} {base : Heap} {x : Str} {st : Stmt} {N ps : List Str} {k : Nat} {sp : Sp}
theorem Def.ok (D : Def K mg x st ps) (S : FnScope N ps (defScope st)) (len : ∀ vs H Q E, sp vs H Q E → vs.length = ps.length)
    (hbody : ∀ (f : Addr) (cdv : Value) (A : Around) (outer : List Env) (s : Shared) (H : Hp) (vs : List V) (Q : VK) (E : XK), Room k (A.deeper (envOfC x (defScope st) s.heap.objs.size f cdv)) → sp vs H Q E →
      ∃ t, PSs (cxOf CX0 P w K mg base N x (defScope st) f cdv A outer s H E).nox (defBody st) t ∧ t { nx := fun _ H' => Q .non H', rt := Q } (start N vs) H) : Ok P w K mg base CX0 (k + 1) x ps sp := by
  obtain ⟨f, fd, hm, F, B⟩ := D.ex
  exact ⟨f, fd, F.ok S len (hbody f), hm, F.kp, B⟩
theorem Def.okX (D : Def K mg x st ps) (S : FnScope N ps (defScope st)) (len : ∀ vs H Q E, sp vs H Q E → vs.length = ps.length)
    (hbody : ∀ (f : Addr) (cdv : Value) (A : Around) (outer : List Env) (s : Shared) (H : Hp) (vs : List V) (Q : VK) (E : XK), Room k (A.deeper (envOfC x (defScope st) s.heap.objs.size f cdv)) → sp vs H Q E →
      ∃ t, PSs (cxOf (CXN P w) P w K mg base N x (defScope st) f cdv A outer s H E) (defBody st) t ∧ t { nx := fun _ H' => Q .non H', rt := Q } (start N vs) H) : Ok P w K mg base (CXN P w) (k + 1) x ps sp := by
  obtain ⟨f, fd, hm, F, B⟩ := D.ex
  exact ⟨f, fd, F.okX S len (hbody f), hm, F.kp, B⟩
theorem Def.ok0 (D : Def K mg x st ps) (S : FnScope N ps (defScope st)) (len : ∀ vs H Q E, sp vs H Q E → vs.length = ps.length)
    (hbody : ∀ (f : Addr) (cdv : Value) (A : Around) (outer : List Env) (s : Shared) (H : Hp) (vs : List V) (Q : VK) (E : XK), Room k (A.deeper (envOfC x (defScope st) s.heap.objs.size f cdv)) → sp vs H Q E →
      ∃ t, PSs0 (cxOf CX0 P w K mg base N x (defScope st) f cdv A outer s H E).nox (defBody st) t ∧ t { nx := fun _ H' => Q .non H', rt := Q } (start N vs) H) : Ok P w K mg base CX0 (k + 1) x ps sp := by
  obtain ⟨f, fd, hm, F, B⟩ := D.ex
  exact ⟨f, fd, F.ok0 S len (hbody f), hm, F.kp, B⟩
end
section
variable {X : Cx} {x : Str} {pos p : Pos}
theorem pe_own {CX : CXT} {k : Nat} {ps : List Str} {sp : Sp} {E : XK} {e : Expr} {es : List Expr} {t : TA} (G : Ok X.prog X.w X.K X.mg X.base CX k x ps sp) (hr : Room k X.A) (hg : Gl X x) (hx : Passes CX X E)
    (ha : PA X (e :: es) t) (hdb : (x == ("__debug__" : Str)) = false := by decide) (he : starEach (e :: es) X.env = (false, eval e X.env) :: starEach es X.env := by rfl) (hpl : (backTo pos (starEach es X.env)).any (·.1) = false := by rfl) :
    PE X (.Call (.Name x p) (e :: es) [] pos) (tCall sp [] E t) := by
  obtain ⟨f, fd, F, a, b, c⟩ := G.ex
  exact pe_call F hr hg a b c .nil hx ha hdb he hpl
structure CL (P : Program) (w : World) (K : PySem.W.Frag) (mg : Str → Option Value) (base : Heap) (x : Str) (C : Addr) (ps : List Str) (sp : Sp) (fs : List Str) : Prop where
  ex : ∃ f fd, Mk K C f ∧ FnOk P w K mg base CX0 1 f fd ps sp ∧ Binds K fd ps []
  mg : mg x = some (.ref C)
  cl : Cls K C
  no : ∀ f ∈ fs, NoAttr K C f
theorem pe_mk {x : Str} {C : Addr} {ps fs : List Str} {sp : Sp} {e : Expr} {es : List Expr} {t : TA} (G : CL X.prog X.w X.K X.mg X.base x C ps sp fs) (hr : Room 2 X.A) (hg : Gl X x)
    (ha : PA X (e :: es) t) (hdb : (x == ("__debug__" : Str)) = false := by decide) (he : starEach (e :: es) X.env = (false, eval e X.env) :: starEach es X.env := by rfl) (hpl : (backTo pos (starEach es X.env)).any (·.1) = false := by rfl) :
    PE X (.Call (.Name x p) (e :: es) [] pos) (tMake C sp [] E0 t) := by
  obtain ⟨f, fd, M, F, B⟩ := G.ex
  exact pe_make M F hr hg G.mg B .nil pass0 ha hdb he hpl
theorem ite_chain {a b A B : Prop} [Decidable a] [Decidable b] : (if a then (if b then A else B) else B) = (if a ∧ b then A else B) := by
  by_cases h : a <;> by_cases h' : b <;> simp [h, h']
theorem ite_chor {a b A B : Prop} [Decidable a] [Decidable b] : (if a then A else (if b then A else B)) = (if a ∨ b then A else B) := by
  by_cases h : a <;> by_cases h' : b <;> simp [h, h']
noncomputable def GInt (mg : Str → Option Value) (x : Str) (n : Int) : Prop := ∃ t, mg x = some (.int n t)
noncomputable def GStr (mg : Str → Option Value) (x : Str) (y : Str) : Prop := ∃ t, mg x = some (.str y t)
theorem pe_gint {n : Int} (h : GInt X.mg x n) (hg : Gl X x) (hd : (x == ("__debug__" : Str)) = false := by decide) : PE X (.Name x pos) (tC (.int n)) := by
  obtain ⟨t, e⟩ := h
  exact pe_glob hg e ⟨t, rfl⟩ hd
theorem pe_gstr {y : Str} (h : GStr X.mg x y) (hg : Gl X x) (hd : (x == ("__debug__" : Str)) = false := by decide) : PE X (.Name x pos) (tC (.str y)) := by
  obtain ⟨t, e⟩ := h
  exact pe_glob hg e ⟨t, rfl⟩ hd
theorem pe_gref {a : Addr} (h : X.mg x = some (.ref a)) (hg : Gl X x) (hd : (x == ("__debug__" : Str)) = false := by decide) : PE X (.Name x pos) (tC (.ref a)) := pe_glob hg h rfl hd
end
end L2
end
section
set_option Elab.async false
set_option linter.all false
set_option maxRecDepth 100000
set_option maxHeartbeats 2000000
namespace L2
open PySem PySem.Spec PyProof.Rows
open Pd (mapO mapO_snoc mapO_prefix)
section
variable {CX : CXT} {P : Program} {w : World} {K : PySem.W.Frag} {mg : Str → Option Value} {base : Heap} {N : List Str} {qual : Str} {scope : Scope} {f : Addr} {cd : Value} {A : Around} {outer : List Env} {s : Shared} {H : Hp} {E : XK}
theorem cxOf_K : (cxOf CX P w K mg base N qual scope f cd A outer s H E).K = K := rfl
theorem cxOf_P : (cxOf CX P w K mg base N qual scope f cd A outer s H E).prog = P := rfl
theorem cxOf_W : (cxOf CX P w K mg base N qual scope f cd A outer s H E).w = w := rfl
end
theorem sc_ii {a b : Int} : scal (.int a) (.int b) = true := rfl
theorem sc_ss {a b : Str} : scal (.str a) (.str b) = true := rfl
theorem sc_bb {a b : Bool} : scal (.bl a) (.bl b) = true := rfl
theorem sc_is {a : Int} {b : Str} : scal (.int a) (.str b) = true := rfl
theorem sc_si {a : Str} {b : Int} : scal (.str a) (.int b) = true := rfl
theorem eqV_ss {a b : Str} : eqV (.str a) (.str b) = (a == b) := rfl
theorem Same.rfl' {H : Hp} : Same H H := fun _ _ h => h
noncomputable def SameB (D : Addr) (H H' : Hp) : Prop := ∀ b o, b ≠ D → H b = some o → H' b = some o
theorem Same.new {H : Hp} {D : Addr} {o : HO} (h : H D = Option.none) : Same H (upd H D o) := fun b u e => by
  rw [upd_ne (ne_of_none e h)]
  exact e
theorem Same.newer {H H' : Hp} {D : Addr} {o : HO} (s : Same H H') (h : H D = Option.none) : Same H (upd H' D o) := fun b u e => by
  rw [upd_ne (ne_of_none e h)]
  exact s _ _ e
theorem SameB.upd {D : Addr} {H : Hp} {o : HO} : SameB D H (upd H D o) := fun b u hb e => by
  rw [upd_ne hb]
  exact e
theorem Paired.len' {α β : Type} {F : α → β → Prop} : ∀ {l : List α} {m : List β}, Paired F l m → l.length = m.length
  | _, _, .nil => rfl
  | _, _, .cons _ r => congrArg Nat.succ (Paired.len' r)
theorem Paired.at' {α β : Type} {F : α → β → Prop} : ∀ {l : List α} {m : List β} {i : Nat} {x : α}, Paired F l m → l[i]? = some x → ∃ y, m[i]? = some y ∧ F x y
  | _, _, _, _, .nil, e => by simp at e
  | _, _, 0, _, .cons r _, e => by
    simp at e
    subst e
    exact ⟨_, rfl, r⟩
  | _, _, i + 1, x, .cons _ t, e => by
    obtain ⟨u, h1, h2⟩ := Paired.at' (i := i) (x := x) t (by simpa using e)
    exact ⟨u, by simpa using h1, h2⟩
theorem Paired.atR {α β : Type} {F : α → β → Prop} : ∀ {l : List α} {m : List β} {i : Nat} {y : β}, Paired F l m → m[i]? = some y → ∃ x, l[i]? = some x ∧ F x y
  | _, _, _, _, .nil, e => by simp at e
  | _, _, 0, _, .cons r _, e => by
    simp at e
    subst e
    exact ⟨_, rfl, r⟩
  | _, _, i + 1, x, .cons _ t, e => by
    obtain ⟨u, h1, h2⟩ := Paired.atR (i := i) (y := x) t (by simpa using e)
    exact ⟨u, by simpa using h1, h2⟩
theorem take_snoc' {α : Type} : ∀ {l : List α} {i : Nat} {x : α}, l[i]? = some x → l.take (i + 1) = l.take i ++ [x]
  | [], i, x, h => by simp at h
  | a :: l, 0, x, h => by
    have e : a = x := Option.some.inj h
    subst e
    rfl
  | a :: l, i + 1, x, h => by
    have ih := take_snoc' (l := l) (i := i) (x := x) h
    show a :: l.take (i + 1) = a :: l.take i ++ [x]
    rw [ih]
    rfl
theorem lc_relS {α β : Type} {K : PySem.W.Frag} {a : Addr} {xs : List V} {te : TE} {j : Nat} {σ : St} {H1 : Hp} {D : Addr} {Qd : Hp → Prop} (rel : Hp → V → α → Prop) (us : List β) (f : β → Option α)
    (hlen : us.length = xs.length) (hz : xs.length ≤ sizeLine) (hD : H1 D = none) (hl : SqL K H1 a xs)
    (stab : ∀ H H' v z, SameB D H H' → rel H v z → rel H' v z)
    (hs : ∀ (i : Nat) (x : V) (u : β) (H' : Hp), xs[i]? = some x → us[i]? = some u → Same H1 H' → (∃ acc, H' D = some (.lst acc)) → ∀ R : VK, (∀ y H4 z, f u = some z → Same H' H4 → rel H4 y z → R y H4) → te (σ.set j (some x)) H' R)
    (hd : ∀ H' ys zs, Same H1 H' → H' D = some (.lst ys) → mapO f us = some zs → Paired (rel H') ys zs → Qd H') :
    ∃ W : Nat → Nat → Hp → Prop, (∃ m, W 0 m (upd H1 D (.lst []))) ∧ ∀ i m H, W i m H →
      ((Itl K a).stop i H ∧ Qd H) ∨ ((Itl K a).go i H ∧ ∃ Nx : Hp → Prop, (∀ H', Nx H' → ∃ m', m' < m ∧ W (i + 1) m' H') ∧ ∀ x H', (Itl K a).yld i H x H' → gName j x (wipe σ [j]) H' fun σ2 H2 => wipe σ2 [j] = wipe σ [j] ∧ tYes σ2 H2 fun b H3 =>
        if b = true then te σ2 H3 fun y H4 => ∃ acc, H4 D = some (.lst acc) ∧ acc.length < sizeLine ∧ Nx (upd H4 D (.lst (acc ++ [y]))) else Nx H3) := by
  refine lc_list (xs := xs) (fun i H' => Same H1 H' ∧ ∃ ys zs, H' D = some (.lst ys) ∧ mapO f (us.take i) = some zs ∧ Paired (rel H') ys zs) ⟨Same.new hD, [], [], upd_same, rfl, .nil⟩ (fun i H' _ h => h.1.seq hl) ?_ ?_
  · rintro i x H' hx ⟨sm, ys, zs, hys, hm, hp⟩
    have hi : i < us.length := by rw [hlen]; exact (List.getElem?_eq_some_iff.mp hx).1
    obtain ⟨u, hu⟩ : ∃ u, us[i]? = some u := ⟨_, List.getElem?_eq_getElem hi⟩
    have hn : ys.length < sizeLine := by
      have e1 := Paired.len' hp
      have e2 := Pd.mapO_len hm
      rw [e1, e2, List.length_take, Nat.min_eq_left (Nat.le_of_lt hi)]
      omega
    refine ⟨?_, ?_⟩
    · show (((σ.set j none).set j (some x)).set j none) = σ.set j none
      rw [List.set_set, List.set_set]
    · show te ((σ.set j none).set j (some x)) H' _
      rw [List.set_set]
      refine hs i x u H' hx hu sm ⟨ys, hys⟩ _ fun y H4 z hf s4 r4 => ⟨ys, s4 _ _ hys, hn, ?_⟩
      refine ⟨fun b o e => ?_, ys ++ [y], zs ++ [z], upd_same, ?_, ?_⟩
      · rw [upd_ne (ne_of_none e hD)]
        exact s4 _ _ (sm _ _ e)
      · rw [take_snoc' hu, mapO_snoc, hm]
        show (match f u with | none => none | some y => some (zs ++ [y])) = _
        rw [hf]
      · refine Paired.snoc (Paired.mapP hp fun v z h => stab H' _ v z (fun b o hb e => ?_) h) (stab H4 _ y z SameB.upd r4)
        rw [upd_ne hb]
        exact s4 _ _ e
  · rintro H' ⟨sm, ys, zs, hys, hm, hp⟩
    rw [← hlen, List.take_length] at hm
    exact hd H' ys zs sm hys hm hp
theorem lc_relJ {α β : Type} {J : It} {xs : List V} {te : TE} {j : Nat} {σ : St} {H1 : Hp} {D : Addr} {Qd : Hp → Prop} (rel : Hp → V → α → Prop) (us : List β) (f : β → Option α)
    (hlen : us.length = xs.length) (hz : xs.length ≤ sizeLine) (hD : H1 D = none) (hgo : ∀ (i : Nat) (H' : Hp), Same H1 H' → i < xs.length → J.go i H') (hyl : ∀ (i : Nat) (H' : Hp) (x : V) (H2 : Hp), Same H1 H' → i < xs.length → J.yld i H' x H2 → H2 = H' ∧ xs[i]? = some x) (hst : ∀ H', Same H1 H' → J.stop xs.length H')
    (stab : ∀ H H' v z, SameB D H H' → rel H v z → rel H' v z)
    (hs : ∀ (i : Nat) (x : V) (u : β) (H' : Hp), xs[i]? = some x → us[i]? = some u → Same H1 H' → (∃ acc, H' D = some (.lst acc)) → ∀ R : VK, (∀ y H4 z, f u = some z → Same H' H4 → rel H4 y z → R y H4) → te (σ.set j (some x)) H' R)
    (hd : ∀ H' ys zs, Same H1 H' → H' D = some (.lst ys) → mapO f us = some zs → Paired (rel H') ys zs → Qd H') :
    ∃ W : Nat → Nat → Hp → Prop, (∃ m, W 0 m (upd H1 D (.lst []))) ∧ ∀ i m H, W i m H →
      (J.stop i H ∧ Qd H) ∨ (J.go i H ∧ ∃ Nx : Hp → Prop, (∀ H', Nx H' → ∃ m', m' < m ∧ W (i + 1) m' H') ∧ ∀ x H', J.yld i H x H' → gName j x (wipe σ [j]) H' fun σ2 H2 => wipe σ2 [j] = wipe σ [j] ∧ tYes σ2 H2 fun b H3 =>
        if b = true then te σ2 H3 fun y H4 => ∃ acc, H4 D = some (.lst acc) ∧ acc.length < sizeLine ∧ Nx (upd H4 D (.lst (acc ++ [y]))) else Nx H3) := by
  refine ⟨fun i m H' => m = xs.length - i ∧ i ≤ xs.length ∧ Same H1 H' ∧ ∃ ys zs, H' D = some (.lst ys) ∧ mapO f (us.take i) = some zs ∧ Paired (rel H') ys zs, ⟨xs.length, by simp, Nat.zero_le _, Same.new hD, [], [], upd_same, rfl, .nil⟩, ?_⟩
  rintro i m H' ⟨rfl, hi0, sm, ys, zs, hys, hm, hp⟩
  by_cases hlt : i < xs.length
  · refine .inr ⟨hgo i H' sm hlt, fun H' => Same H1 H' ∧ ∃ ys zs, H' D = some (.lst ys) ∧ mapO f (us.take (i + 1)) = some zs ∧ Paired (rel H') ys zs, fun H' p' => ⟨xs.length - (i + 1), by omega, rfl, hlt, p'⟩, fun x H2 y => ?_⟩
    obtain ⟨e, hx⟩ := hyl i H' x H2 sm hlt y
    subst e
    have hi : i < us.length := by rw [hlen]; exact (List.getElem?_eq_some_iff.mp hx).1
    obtain ⟨u, hu⟩ : ∃ u, us[i]? = some u := ⟨_, List.getElem?_eq_getElem hi⟩
    have hn : ys.length < sizeLine := by
      have e1 := Paired.len' hp
      have e2 := Pd.mapO_len hm
      rw [e1, e2, List.length_take, Nat.min_eq_left (Nat.le_of_lt hi)]
      omega
    refine ⟨?_, ?_⟩
    · show (((σ.set j none).set j (some x)).set j none) = σ.set j none
      rw [List.set_set, List.set_set]
    · show te ((σ.set j none).set j (some x)) H2 _
      rw [List.set_set]
      refine hs i x u H2 hx hu sm ⟨ys, hys⟩ _ fun y H4 z hf s4 r4 => ⟨ys, s4 _ _ hys, hn, ?_⟩
      refine ⟨fun b o e => ?_, ys ++ [y], zs ++ [z], upd_same, ?_, ?_⟩
      · rw [upd_ne (ne_of_none e hD)]
        exact s4 _ _ (sm _ _ e)
      · rw [take_snoc' hu, mapO_snoc, hm]
        show (match f u with | none => none | some y => some (zs ++ [y])) = _
        rw [hf]
      · refine Paired.snoc (Paired.mapP hp fun v z h => stab H2 _ v z (fun b o hb e => ?_) h) (stab H4 _ y z SameB.upd r4)
        rw [upd_ne hb]
        exact s4 _ _ e
  · have e : i = xs.length := by omega
    subst e
    rw [← hlen, List.take_length] at hm
    exact .inl ⟨hst H' sm, hd H' ys zs sm hys hm hp⟩
theorem lc_relStr {α : Type} {w : Str} {te : TE} {j : Nat} {σ : St} {H1 : Hp} {D : Addr} {Qd : Hp → Prop} (rel : Hp → V → α → Prop) (f : Nat → Option α)
    (hz : w.cps.size ≤ sizeLine) (hD : H1 D = none) (stab : ∀ H H' v z, SameB D H H' → rel H v z → rel H' v z)
    (hs : ∀ (c : Nat) (H' : Hp), c ∈ w.cps.toList → Same H1 H' → (∃ acc, H' D = some (.lst acc)) → ∀ R : VK, (∀ y H4 z, f c = some z → Same H' H4 → rel H4 y z → R y H4) → te (σ.set j (some (.str ⟨#[c]⟩))) H' R)
    (hd : ∀ H' ys zs, Same H1 H' → H' D = some (.lst ys) → mapO f w.cps.toList = some zs → Paired (rel H') ys zs → Qd H') :
    ∃ W : Nat → Nat → Hp → Prop, (∃ m, W 0 m (upd H1 D (.lst []))) ∧ ∀ i m H, W i m H →
      ((Its w).stop i H ∧ Qd H) ∨ ((Its w).go i H ∧ ∃ Nx : Hp → Prop, (∀ H', Nx H' → ∃ m', m' < m ∧ W (i + 1) m' H') ∧ ∀ x H', (Its w).yld i H x H' → gName j x (wipe σ [j]) H' fun σ2 H2 => wipe σ2 [j] = wipe σ [j] ∧ tYes σ2 H2 fun b H3 =>
        if b = true then te σ2 H3 fun y H4 => ∃ acc, H4 D = some (.lst acc) ∧ acc.length < sizeLine ∧ Nx (upd H4 D (.lst (acc ++ [y]))) else Nx H3) := by
  refine lc_relJ (J := Its w) (xs := w.cps.toList.map fun c => V.str ⟨#[c]⟩) rel w.cps.toList f (by simp) (by simpa using hz) hD (fun i H' _ h => ?_) (fun i H' x H2 _ h y => ?_) (fun H' _ => ?_) stab ?_ hd
  · show i < w.cps.size
    simpa using h
  · obtain ⟨e, c, hc, rfl⟩ := y
    refine ⟨e, ?_⟩
    rw [List.getElem?_map, Array.getElem?_toList, hc]
    rfl
  · show w.cps.size ≤ _
    simp
  · intro i x u H' hx hu sm ha R k
    rw [List.getElem?_map, hu] at hx
    have e := Option.some.inj hx
    subst e
    exact hs u H' (List.mem_of_getElem? hu) sm ha R k
end L2
end
section
set_option Elab.async false
set_option linter.all false
set_option maxRecDepth 100000
set_option maxHeartbeats 2000000
namespace Pd
open PySem PySem.Spec PyProof.Rows L2 TL
noncomputable abbrev S (w : List Nat) : Str := ⟨w.toArray⟩
theorem S_of (x : Str) : S (tl x) = x := by
  cases x
  simp [S, tl]
theorem tl_S (w : List Nat) : tl (S w) = w := by simp [S, tl]
theorem S_len (w : List Nat) : (S w).length = w.length := by
  show (w.toArray).size = _
  simp
theorem S_inj {v w : List Nat} : S v = S w ↔ v = w := by
  constructor
  · intro h
    rw [← tl_S v, h, tl_S]
  · intro h
    rw [h]
theorem joinL_nil : ∀ l : List (List Nat), joinL [] l = l.flatten
  | [] => rfl
  | [p] => by simp [joinL]
  | p :: q :: r => by
    show p ++ ([] ++ joinL [] (q :: r)) = _
    rw [joinL_nil (q :: r)]
    simp
theorem join_signs (l : List Nat) : Txt.join (Str.ofString "") (l.map fun c => S [c]) = S l := by
  rw [join_eq, ← S_of (Str.join _ _), tl_join, S_inj]
  have e : tl (Str.ofString "") = [] := by decide +kernel
  rw [e, joinL_nil, List.map_map]
  induction l with
  | nil => rfl
  | cons c r ih =>
    rw [List.map_cons, List.flatten_cons, ih]
    show tl (S [c]) ++ r = _
    rw [tl_S]
    rfl
theorem spl_cut (c : Nat) : ∀ l acc : List Nat, spl [c] 0 acc l = cut c acc l
  | [], acc => rfl
  | x :: r, acc => by
    show (if pre [c] (x :: r) = true then acc :: spl [c] ([c].length - 1) [] r else spl [c] 0 (acc ++ [x]) r) = if x = c then acc :: cut c [] r else cut c (acc ++ [x]) r
    have e : (pre [c] (x :: r) = true) ↔ x = c := by
      unfold pre
      simp
    by_cases h : x = c
    · rw [if_pos h, if_pos (e.mpr h)]
      show acc :: spl [c] 0 [] r = _
      rw [spl_cut c r]
    · rw [if_neg h, if_neg (fun z => h (e.mp z)), spl_cut c r]
theorem split_cut {y : Str} {c : Nat} (hy : tl y = [c]) (hk : y.cps.all (· < 256) = true) (t : List Nat) : Txt.split (S t) y = (cut c [] t).map S := by
  have e := split_spl (S t) y (by rw [hy]; simp) (kind_ok hk)
  rw [hy, tl_S, spl_cut] at e
  rw [← e, List.map_map]
  conv => lhs; rw [← List.map_id (Txt.split (S t) y)]
  exact List.map_congr_left fun x _ => (S_of x).symm
noncomputable def OkW (w : List Nat) : Prop := w.length ≤ 70000 ∧ ∀ c ∈ w, c < 128
theorem sg_lt (n : Nat) : sg n < 128 := by
  unfold sg
  repeat' split
  all_goals omega
theorem cut_ok {c : Nat} : ∀ {l acc : List Nat}, (∀ x ∈ l, x < 128) → (∀ x ∈ acc, x < 128) → ∀ w ∈ cut c acc l, w.length ≤ acc.length + l.length ∧ ∀ x ∈ w, x < 128
  | [], acc, _, ha, w, hw => by
    have e : w = acc := by simpa [cut] using hw
    subst e
    exact ⟨by simp, ha⟩
  | x :: r, acc, hl, ha, w, hw => by
    have hr : ∀ y ∈ r, y < 128 := fun y hy => hl y (List.mem_cons_of_mem _ hy)
    have hw : w ∈ (if x = c then acc :: cut c [] r else cut c (acc ++ [x]) r) := hw
    split at hw
    · rcases List.mem_cons.mp hw with e | hw
      · subst e
        exact ⟨by simp, ha⟩
      · have := cut_ok hr (by simp) w hw
        exact ⟨by simp at this ⊢; omega, this.2⟩
    · have := cut_ok hr (acc := acc ++ [x]) (by
        intro y hy
        rcases List.mem_append.mp hy with h | h
        · exact ha y h
        · simp at h; subst h; exact hl y (by simp)) w hw
      exact ⟨by simp at this ⊢; omega, this.2⟩
theorem cut_ne {c : Nat} : ∀ {l acc : List Nat}, cut c acc l ≠ []
  | [], acc => by simp [cut]
  | x :: r, acc => by
    show (if x = c then acc :: cut c [] r else cut c (acc ++ [x]) r) ≠ []
    split
    · simp
    · exact cut_ne
theorem cut_len {c : Nat} : ∀ {l acc : List Nat}, (cut c acc l).length ≤ l.length + 1
  | [], acc => by simp [cut]
  | x :: r, acc => by
    show (if x = c then acc :: cut c [] r else cut c (acc ++ [x]) r).length ≤ _
    split
    · have := cut_len (c := c) (l := r) (acc := [])
      simp
      omega
    · have := cut_len (c := c) (l := r) (acc := acc ++ [x])
      simp
      omega
theorem sizeLine_is : 70010 ≤ sizeLine := by rw [sizeLine_eq]; decide
theorem isdigit_S {w : List Nat} (h : ∀ c ∈ w, c < 128) : Txt.isdigit (S w) = (!w.isEmpty && w.all isDig) := by
  unfold Txt.isdigit
  have e1 : (decide ((S w).length > 0)) = !w.isEmpty := by
    rw [S_len]
    cases w <;> simp
  rw [e1]
  congr 1
  show w.toArray.all Unicode.isDigit = _
  rw [List.all_toArray]
  rw [Bool.eq_iff_iff, List.all_eq_true, List.all_eq_true]
  have e : ∀ c ∈ w, Unicode.isDigit c = isDig c := fun c hc => by
    rw [cls_isdigit c (h c hc)]
    have : ∀ c < 128, inR 48 57 ⟨#[c]⟩ = isDig c := by decide +kernel
    exact this c (h c hc)
  exact ⟨fun z c hc => by rw [← e c hc]; exact z c hc, fun z c hc => by rw [e c hc]; exact z c hc⟩
theorem int_S {w : List Nat} (h : (!w.isEmpty && w.all isDig) = true) (hl : w.length ≤ 4300) : intText? (S w) = some (valM w : Int) := by
  rw [Bool.and_eq_true] at h
  have hd : NumText.AllDigits (S w).cps.toList := fun c hc => by
    have hc : c ∈ w := by simpa [S] using hc
    have := List.all_eq_true.mp h.2 c hc
    simp [isDig] at this
    exact this
  have e := intText_digits (x := S w) hd (fun z => by
    have z2 : w = [] := by simpa [S] using z
    rw [z2] at h
    simp at h) (by rw [S_len]; exact hl)
  rw [e]
  congr 2
  show NumText.digitsVal w.toArray.toList = _
  rw [List.toList_toArray]
  unfold NumText.digitsVal valM
  have : (fun (acc c : Nat) => acc * 10 + (c - 48)) = fun n c => 10 * n + (c - 48) := by
    funext a c
    omega
  first | rw [← this] | (simp only [← this])
end Pd
end
section
set_option Elab.async false
set_option linter.all false
set_option maxRecDepth 100000
set_option maxHeartbeats 2000000
namespace Pd
open PySem PySem.Spec PyProof.Rows L2 TL
noncomputable def top (i : Nat) : Stmt := PySem.Challenge.pw_poolday_s06_join.main.body.getD i (.Pass ⟨0, 0, 0, 0⟩)
noncomputable abbrev sSign : Stmt := top 20
structure Tx (mg : Str → Option Value) : Prop where
  g_MOST_PAIRS : GInt mg "MOST_PAIRS" 262144
  g_MOST_CENTS : GInt mg "MOST_CENTS" 281474976710655
  g_LETTERS : GStr mg "LETTERS" "abcdefghijklmnopqrstuvwxyz"
  g_DIGITS : GStr mg "DIGITS" "0123456789"
  g_STRANGE : GStr mg "STRANGE" "?"
  g_MOST_NAME_BYTES : GInt mg "MOST_NAME_BYTES" 12
  g_MOST_DIGITS : GInt mg "MOST_DIGITS" 7
  g_MOST_RACES : GInt mg "MOST_RACES" 16
  g_MOST_POOLS : GInt mg "MOST_POOLS" 64
  g_LEAST_RUNNERS : GInt mg "LEAST_RUNNERS" 2
  g_MOST_RUNNERS : GInt mg "MOST_RUNNERS" 24
  g_MOST_COUPLES : GInt mg "MOST_COUPLES" 8
  g_MOST_TAKE : GInt mg "MOST_TAKE" 400
  g_MOST_BREAK : GInt mg "MOST_BREAK" 1000
  g_MOST_UNIT : GInt mg "MOST_UNIT" 10000
  g_POOL_LENGTH : GInt mg "POOL_LENGTH" 16
  g_MOST_CARD_BYTES : GInt mg "MOST_CARD_BYTES" 65536
  b_all : mg "all" = none
  b_dict : mg "dict" = none
  b_int : mg "int" = none
  b_len : mg "len" = none
  b_ord : mg "ord" = none
  b_range : mg "range" = none
  b_sorted : mg "sorted" = none
  b_sum : mg "sum" = none
  b_zip : mg "zip" = none
section
variable {P : Program} {w : World} {K : PySem.W.Frag} {mg : Str → Option Value} {base : Heap}
noncomputable def spSign : Sp := fun vs H Q _ => ∃ n : Int, vs = [.int n] ∧ 0 ≤ n ∧ n ≤ 255 ∧ Q (.str (S [sg n.toNat])) H
theorem scSign : FnScope ["byte"] ["byte"] (defScope sSign) := ⟨rfl, rfl, rfl, by decide +kernel, rfl, by decide +kernel, by decide +kernel⟩
theorem letters_at {n : Nat} (h : n < 26) : ("abcdefghijklmnopqrstuvwxyz" : Str).cps[n]? = some (97 + n) := by
  have : ∀ n < 26, ("abcdefghijklmnopqrstuvwxyz" : Str).cps[n]? = some (97 + n) := by decide +kernel
  exact this n h
theorem digits_at {n : Nat} (h : n < 10) : ("0123456789" : Str).cps[n]? = some (48 + n) := by
  have : ∀ n < 10, ("0123456789" : Str).cps[n]? = some (48 + n) := by decide +kernel
  exact this n h
theorem c_a : (Str.ofString "a").cps.getD 0 0 = 97 ∧ (Str.ofString "a").length = 1 := by decide +kernel
theorem c_z : (Str.ofString "z").cps.getD 0 0 = 122 ∧ (Str.ofString "z").length = 1 := by decide +kernel
theorem c_0 : (Str.ofString "0").cps.getD 0 0 = 48 ∧ (Str.ofString "0").length = 1 := by decide +kernel
theorem c_9 : (Str.ofString "9").cps.getD 0 0 = 57 ∧ (Str.ofString "9").length = 1 := by decide +kernel
theorem l_letters : (Str.ofString "abcdefghijklmnopqrstuvwxyz").length = 26 := by decide +kernel
theorem l_digits : (Str.ofString "0123456789").length = 10 := by decide +kernel
noncomputable def MK : List (Int × List Nat) := [(32, [32]), (10, [10]), (44, [44]), (47, [47])]
theorem mk_all : ∀ n : Nat, n < 256 → ¬ (97 ≤ n ∧ n ≤ 122) → ¬ (48 ≤ n ∧ n ≤ 57) → ((MK.find? fun q => decide (q.1 = (n : Int))).map (·.2)).getD [63] = [sg n] := by decide +kernel
theorem mk_val : ∀ (l : List (Int × List Nat)) (n : Int), valV (l.map fun p => ((Sum.inl p.1 : Key), V.str (S p.2))) (Sum.inl n) = ((l.find? fun q => decide (q.1 = n)).map (·.2)).map fun w => V.str (S w)
  | [], _ => rfl
  | q :: l, n => by
    rw [List.map_cons, List.find?_cons]
    by_cases h : q.1 = n
    · rw [valV_pos (by rw [h]), decide_eq_true h]
      rfl
    · rw [valV_neg (fun z => h (Sum.inl.inj z)), decide_eq_false h, mk_val l n]
theorem mk_at (n : Int) (hn : 0 ≤ n) (h25 : n ≤ 255) (h1 : ¬ (97 ≤ n ∧ n ≤ 122)) (h2 : ¬ (48 ≤ n ∧ n ≤ 57)) : (valV (MK.map fun p => ((Sum.inl p.1 : Key), V.str (S p.2))) (Sum.inl n)).getD (.str "?") = .str (S [sg n.toNat]) := by
  have eq : ("?" : Str) = S [63] := by decide +kernel
  have h := mk_all n.toNat (by omega) (by omega) (by omega)
  rw [Int.toNat_of_nonneg hn] at h
  rw [mk_val, eq, ← h]
  cases (MK.find? fun q => decide (q.1 = n)).map (·.2) <;> rfl
theorem ok_sign (D : Def K mg "sign_of" sSign ["byte"]) (T : Tx mg) (TM : ∃ dm, mg "MARKS" = some (.ref dm) ∧ KD P w K dm (MK.map fun p => ((Sum.inl p.1 : Key), V.str (S p.2)))) : Ok P w K mg base CX0 1 "sign_of" ["byte"] spSign := by
  refine D.ok scSign (fun vs H Q E h => ?_) (fun f cdv A outer s H vs Q E hr h => ?_)
  · obtain ⟨n, rfl, _⟩ := h
    rfl
  · obtain ⟨n, rfl, h0, h1, k⟩ := h
    obtain ⟨dm, g_MARKS, kdm⟩ := TM
    refine ⟨_, (pss_cons (ps_if (pt_chain op_le op_le (pe_callB call_ord (by rfl) T.b_ord boot_ord (pa_cons pe_str pa_nil)) (pv 0) (pe_callB call_ord (by rfl) T.b_ord boot_ord (pa_cons pe_str pa_nil))) (pss_one (ps_ret (pe_item_str (pe_gstr T.g_LETTERS rfl) (pe_op op_sub (pv 0) (pe_callB call_ord (by rfl) T.b_ord boot_ord (pa_cons pe_str pa_nil))) (fun _ _ => rfl)))) pss_nil) (pss_cons (ps_if (pt_chain op_le op_le (pe_callB call_ord (by rfl) T.b_ord boot_ord (pa_cons pe_str pa_nil)) (pv 0) (pe_callB call_ord (by rfl) T.b_ord boot_ord (pa_cons pe_str pa_nil))) (pss_one (ps_ret (pe_item_str (pe_gstr T.g_DIGITS rfl) (pe_op op_sub (pv 0) (pe_callB call_ord (by rfl) T.b_ord boot_ord (pa_cons pe_str pa_nil))) (fun _ _ => rfl)))) pss_nil) (pss_one (ps_ret (pe_kget2 (pe_gref g_MARKS rfl) (pv 0) (pe_gstr T.g_STRANGE rfl) ⟨rfl, rfl, rfl, rfl⟩))))), ?_⟩
    try dsimp only [tSeq, tMake, cxOf_K, cxOf_P, cxOf_W, rIxT, tDIn, tDNotIn, sDPut, tAug, ipI, ipMul, tBreak, tSl, tPart, tNoPart, rSlL, rIxL, tRaise, tAnd, tOr, tM0, tM1, tIfS, tTest, tB, tChain, tCB, tCons, tNil, tC, tVar, tOp, tUn, rU, rI0, rI, rEq, rNe, tRet, tRetN, tDrop, tAsg, gName, tCall, tAndV, tOrV, tNotV, tNot, L2.start, List.map, List.replicate, List.cons_append, List.nil_append, List.getElem?_cons_zero, List.getElem?_cons_succ, List.set_cons_zero, List.set_cons_succ]
    try simp only [tSeq, tMake, cxOf_K, cxOf_P, cxOf_W, rIxT, tDIn, tDNotIn, sDPut, tAug, ipI, ipMul, tBreak, tSl, tPart, tNoPart, rSlL, rIxL, tRaise, tAnd, tOr, tM0, tM1, tIfS, tTest, tB, tChain, tCB, tCons, tNil, tC, tVar, tOp, tUn, rU, rI0, rI, rEq, rNe, sc_ii, sc_ss, sc_bb, sc_is, sc_si, tRet, tRetN, tDrop, tAsg, gName, tCall, tAndV, tOrV, tNotV, tNot, L2.start, List.map, List.replicate, List.length_cons, List.length_nil, Nat.sub_self, Nat.reduceAdd, Nat.reduceSub, List.cons_append, List.nil_append, List.append_nil, List.getElem?_cons_zero, List.getElem?_cons_succ, List.set_cons_zero, List.set_cons_succ, Option.some.injEq, V.int.injEq, V.str.injEq, V.bl.injEq, V.ref.injEq, List.cons.injEq, exists_and_left, exists_and_right, exists_eq_left, exists_eq_left', exists_eq_right, exists_eq, true_and, and_true, exists_eq_right_right, decide_eq_true_eq, Bool.not_eq_true', decide_eq_false_iff_not, Bool.and_eq_true, ite_chain, ite_chor, Int.cast_ofNat_Int, Int.natCast_add, Classical.not_not, Bool.false_eq_true, ↓reduceIte, c_a, c_z, l_letters]
    have en : (n.toNat : Int) = n := Int.toNat_of_nonneg h0
    refine ite2 (fun a => ?_) (fun a => ?_)
    · refine ⟨by omega, by omega, by omega, 97 + (n - 97).toNat, letters_at (by omega), ?_⟩
      have e : sg n.toNat = 97 + (n - 97).toNat := by unfold sg; rw [if_pos (by omega)]; omega
      rw [← e]
      exact k
    try dsimp only [tNext, tSeq, tMake, cxOf_K, cxOf_P, cxOf_W, rIxT, tDIn, tDNotIn, sDPut, tAug, ipI, ipMul, tBreak, tSl, tPart, tNoPart, rSlL, rIxL, tRaise, tAnd, tOr, tM0, tM1, tIfS, tTest, tB, tChain, tCB, tCons, tNil, tC, tVar, tOp, tUn, rU, rI0, rI, rEq, rNe, tRet, tRetN, tDrop, tAsg, gName, tCall, tAndV, tOrV, tNotV, tNot, L2.start, List.map, List.replicate, List.cons_append, List.nil_append, List.getElem?_cons_zero, List.getElem?_cons_succ, List.set_cons_zero, List.set_cons_succ]
    try simp only [tNext, tSeq, tMake, cxOf_K, cxOf_P, cxOf_W, rIxT, tDIn, tDNotIn, sDPut, tAug, ipI, ipMul, tBreak, tSl, tPart, tNoPart, rSlL, rIxL, tRaise, tAnd, tOr, tM0, tM1, tIfS, tTest, tB, tChain, tCB, tCons, tNil, tC, tVar, tOp, tUn, rU, rI0, rI, rEq, rNe, sc_ii, sc_ss, sc_bb, sc_is, sc_si, tRet, tRetN, tDrop, tAsg, gName, tCall, tAndV, tOrV, tNotV, tNot, L2.start, List.map, List.replicate, List.length_cons, List.length_nil, Nat.sub_self, Nat.reduceAdd, Nat.reduceSub, List.cons_append, List.nil_append, List.append_nil, List.getElem?_cons_zero, List.getElem?_cons_succ, List.set_cons_zero, List.set_cons_succ, Option.some.injEq, V.int.injEq, V.str.injEq, V.bl.injEq, V.ref.injEq, List.cons.injEq, exists_and_left, exists_and_right, exists_eq_left, exists_eq_left', exists_eq_right, exists_eq, true_and, and_true, exists_eq_right_right, decide_eq_true_eq, Bool.not_eq_true', decide_eq_false_iff_not, Bool.and_eq_true, ite_chain, ite_chor, Int.cast_ofNat_Int, Int.natCast_add, Classical.not_not, Bool.false_eq_true, ↓reduceIte, c_0, c_9, l_digits]
    refine ite2 (fun b => ?_) (fun b => ?_)
    · refine ⟨by omega, by omega, by omega, 48 + (n - 48).toNat, digits_at (by omega), ?_⟩
      have e : sg n.toNat = 48 + (n - 48).toNat := by unfold sg; rw [if_neg (by omega), if_pos (by omega)]; omega
      rw [← e]
      exact k
    refine ⟨dm, _, rfl, kdm, _, rfl, Sum.inl n, rfl, ?_⟩
    rw [mk_at n h0 h1 (by omega) (by omega)]
    exact k
end
end Pd
end
section
set_option Elab.async false
set_option linter.all false
set_option maxRecDepth 100000
set_option maxHeartbeats 2000000
namespace Pd
open PySem PySem.Spec PyProof.Rows L2 TL
noncomputable abbrev sText : Stmt := top 21
noncomputable abbrev sLines : Stmt := top 22
noncomputable abbrev sName : Stmt := top 23
noncomputable abbrev sNumber : Stmt := top 24
section
variable {P : Program} {w : World} {K : PySem.W.Frag} {mg : Str → Option Value} {base : Heap}
noncomputable def spText (K : PySem.W.Frag) : Sp := fun vs H Q _ => ∃ (a : Addr) (ns : List Int), vs = [.ref a] ∧ SqL K H a (ns.map V.int) ∧ (∀ n ∈ ns, 0 ≤ n ∧ n ≤ 255) ∧ ns.length ≤ 66000 ∧ ∀ H', Same H H' → Q (.str (S (ns.map fun n => sg n.toNat))) H'
theorem scText : FnScope ["codes", "byte"] ["codes"] (defScope sText) := ⟨rfl, rfl, rfl, by decide +kernel, rfl, by decide +kernel, by decide +kernel⟩
theorem mapO_some {α β : Type} {f : α → β} : ∀ l : List α, mapO (fun a => some (f a)) l = some (l.map f)
  | [] => rfl
  | a :: l => by
    show (match mapO (fun a => some (f a)) l with | none => none | some ys => some (f a :: ys)) = _
    rw [mapO_some l]
    rfl
theorem paired_eq {α : Type} {f : α → V} : ∀ {ys : List V} {zs : List α}, Paired (fun v z => v = f z) ys zs → ys = zs.map f
  | _, _, .nil => rfl
  | _, _, .cons e r => by rw [e, paired_eq r]; rfl
theorem ok_text (D : Def K mg "text_of" sText ["codes"]) (G1 : Ok P w K mg base CX0 1 "sign_of" ["byte"] spSign) : Ok P w K mg base CX0 2 "text_of" ["codes"] (spText K) := by
  refine D.ok scText (fun vs H Q E h => ?_) (fun f cdv A outer s H vs Q E hr h => ?_)
  · obtain ⟨a, ns, rfl, _⟩ := h
    rfl
  · obtain ⟨a, ns, rfl, hS, hb, hl, k⟩ := h
    refine ⟨_, pss_one (ps_ret (pe_join pe_str (pe_lc0 (own := [("byte", 1)]) rfl scText.nd (pi_list (pv 0)) (blkOk_by (N := ["codes", "byte"]) (sc := defScope sText) (by decide +kernel)) (fun _ _ _ _ _ => pg_name (i := 1) scText.nd rfl (Or.inl rfl)) (fun _ _ _ _ _ => pts_nil)
      (fun _ _ _ _ _ => pe_own G1 hr rfl pass0 (pa_cons (pv 1) pa_nil))))), ?_⟩
    refine ⟨⟨_, rfl⟩, _, rfl, a, rfl, ⟨_, hS⟩, fun L hL => ?_⟩
    refine lc_relS (xs := ns.map V.int) (fun H v (z : Nat) => v = .str (S [z])) ns (fun n => some (sg n.toNat)) (by simp) (by rw [List.length_map]; exact Nat.le_trans hl (by have := sizeLine_is; omega)) hL hS (fun _ _ _ _ _ h => h) ?_ ?_
    · intro i x u H' hx hu sm _ R k2
      have e : x = .int u := by rw [List.getElem?_map, hu] at hx; exact (Option.some.inj hx).symm
      subst e
      have hm := hb u (List.mem_of_getElem? hu)
      exact ⟨_, rfl, u, rfl, hm.1, hm.2, k2 _ _ _ rfl (fun _ _ h => h) rfl⟩
    · intro H' ys zs sm hys hm hp
      rw [mapO_some] at hm
      have e := Option.some.inj hm
      subst e
      have e2 := paired_eq (f := fun z => V.str (S [z])) hp
      subst e2
      refine ⟨_, L, (ns.map fun n => sg n.toNat).map fun c => S [c], rfl, rfl, .inl (SqL.of (by rw [hys]; simp only [List.map_map]; rfl)), ?_, ?_⟩
      · have e3 : ∀ l : List Nat, ((l.map fun c => S [c]).map (·.length)).sum = l.length := fun l => by
          induction l with
          | nil => rfl
          | cons a r ih =>
            simp only [List.map_cons, List.sum_cons, List.length_cons, ih]
            show 1 + r.length = _
            omega
        have e4 : (Str.ofString "").length = 0 := by decide +kernel
        rw [e3, e4]
        simp
        omega
      · rw [join_signs]
        exact k _ sm
noncomputable def Words (H : Hp) (a : Addr) (ws : List (List Nat)) : Prop := H a = some (.lst (ws.map fun w => V.str (S w))) ∧ ws ≠ [] ∧ ws.length ≤ 70000 ∧ ∀ w ∈ ws, OkW w
noncomputable def Lines (H : Hp) (L : Addr) (ls : List (List (List Nat))) : Prop := ls.length ≤ 70000 ∧ ∃ as, H L = some (.lst as) ∧ Paired (fun v ws => ∃ p, v = .ref p ∧ Words H p ws) as ls
theorem Words.same {H H' : Hp} {a : Addr} {ws : List (List Nat)} (h : Words H a ws) (s : Same H H') : Words H' a ws := ⟨s _ _ h.1, h.2⟩
theorem Lines.same {H H' : Hp} {a : Addr} {ls : List (List (List Nat))} (h : Lines H a ls) (s : Same H H') : Lines H' a ls := by
  obtain ⟨h0, as, h1, h2⟩ := h
  refine ⟨h0, as, s _ _ h1, Paired.mapP h2 fun v ws zq17 => ?_⟩
  obtain ⟨p, e, q⟩ := zq17
  exact ⟨p, e, q.same s⟩
noncomputable def spLines : Sp := fun vs H Q _ => ∃ t : List Nat, vs = [.str (S t)] ∧ t.length ≤ 66000 ∧ (∀ c ∈ t, c < 128) ∧
  match linesM t with
  | none => ∀ H', Same H H' → Q .non H'
  | some ls => ∀ H' L, Same H H' → Lines H' L ls → Q (.ref L) H'
theorem scLines : FnScope ["text", "lines", "line"] ["text"] (defScope sLines) := ⟨rfl, rfl, rfl, by decide +kernel, rfl, by decide +kernel, by decide +kernel⟩
theorem t_nl : tl (Str.ofString "\n") = [10] ∧ (Str.ofString "\n").cps.all (· < 256) = true := by decide +kernel
theorem t_sp : tl (Str.ofString " ") = [32] ∧ (Str.ofString " ").cps.all (· < 256) = true := by decide +kernel
theorem t_empty : Str.ofString "" = S [] := by decide +kernel
theorem dropLast_map {α β : Type} (f : α → β) (l : List α) : (l.map f).dropLast = l.dropLast.map f := by
  induction l with
  | nil => rfl
  | cons a r ih => cases r with
    | nil => rfl
    | cons b r => simp only [List.map_cons, List.dropLast] at ih ⊢; rw [ih]
theorem ok_lines (D : Def K mg "lines_of" sLines ["text"]) : Ok P w K mg base CX0 2 "lines_of" ["text"] spLines := by
  refine D.ok scLines (fun vs H Q E h => ?_) (fun f cdv A outer s H vs Q E hr h => ?_)
  · obtain ⟨a, rfl, _⟩ := h
    rfl
  · obtain ⟨t, rfl, hl, hc, k⟩ := h
    refine ⟨_, pss_cons (ps_set (i := 1) scLines.nd rfl (Or.inl rfl) (pe_split (pv 0) pe_str))
      (pss_cons (ps_if (pt_cmpR op_ne (pe_bm0 PySem.F.plainAttrs_list PySem.F.slot_list_pop PySem.F.type_list_pop mt_pop (pv 1)) pe_str (nomark _)) (pss_one (ps_ret pe_non)) pss_nil)
      (pss_one (ps_ret (pe_lc0 (own := [("line", 2)]) rfl scLines.nd (pi_list (pv 1)) (blkOk_by (N := ["text", "lines", "line"]) (sc := defScope sLines) (by decide +kernel)) (fun _ _ _ _ _ => pg_name (i := 2) scLines.nd rfl (Or.inl rfl)) (fun _ _ _ _ _ => pts_nil)
        (fun _ _ _ _ _ => pe_split (pv 2) pe_str))))), ?_⟩
    have hz := sizeLine_is
    refine ⟨_, rfl, ⟨_, rfl⟩, _, _, rfl, rfl, by decide +kernel, by rw [S_len]; omega, fun p hp => ?_⟩
    rw [split_cut t_nl.1 t_nl.2]
    obtain ⟨c0, cs, ec⟩ : ∃ init last, cut 10 [] t = init ++ [last] := ⟨_, _, (List.dropLast_concat_getLast cut_ne).symm⟩
    have eL : linesM t = if cs = [] then some (c0.map (cut 32 [])) else none := by
      unfold linesM
      rw [ec]
      simp
    rw [eL] at k
    have hlast : (((cut 10 [] t).map S).map V.str)[(((cut 10 [] t).map S).map V.str).length - 1]? = some (.str (S cs)) := by
      rw [ec]
      simp
    have hcut := cut_ok (c := 10) (acc := []) hc (by simp)
    have hcl := cut_len (c := 10) (acc := []) (l := t)
    rw [ec] at hcut hcl
    refine ⟨_, rfl, .inl ⟨rfl, _, SqL.of upd_same⟩, p, _, _, rfl, rfl, upd_same, hlast, rfl, ?_⟩
    rw [upd_upd, dropLast_map, dropLast_map, ec, List.dropLast_concat]
    have s1 : Same H (upd H p (.lst ((c0.map S).map V.str))) := Same.new hp
    refine ⟨_, rfl, ?_⟩
    rw [t_empty]
    simp only [V.str.injEq, S_inj]
    by_cases he : cs = []
    · rw [if_pos he] at k
      simp only [he, decide_true, Bool.not_true, Bool.false_eq_true, if_false]
      refine ⟨_, rfl, p, rfl, ⟨_, SqL.of upd_same⟩, fun L hL => ?_⟩
      refine lc_relS (xs := (c0.map S).map V.str) (fun H v (z : List (List Nat)) => ∃ q, v = .ref q ∧ q ≠ L ∧ Words H q z) c0 (fun c => some (cut 32 [] c)) (by simp) (by simp at hcl ⊢; omega) hL (SqL.of upd_same) ?_ ?_ ?_
      · rintro H1 H2 v z sb ⟨q, e, n, h1, h2⟩
        exact ⟨q, e, n, sb _ _ n h1, h2⟩
      · intro i x u H' hx hu sm hacc R k2
        have e : x = .str (S u) := by
          rw [List.getElem?_map, List.getElem?_map, hu] at hx
          exact (Option.some.inj hx).symm
        subst e
        have hm := hcut u (List.mem_append_left _ (List.mem_of_getElem? hu))
        have hm2 := cut_ok (c := 32) (acc := []) hm.2 (by simp)
        have hm3 := cut_len (c := 32) (acc := []) (l := u)
        simp at hm
        refine ⟨_, rfl, ⟨_, rfl⟩, _, _, rfl, rfl, by decide +kernel, by rw [S_len]; omega, fun q hq => ?_⟩
        rw [split_cut t_sp.1 t_sp.2]
        obtain ⟨acc, hacc⟩ := hacc
        refine k2 _ _ _ rfl (Same.new hq) ⟨q, rfl, fun z => (by rw [z, hacc] at hq; cases hq), by rw [upd_same, List.map_map]; rfl, cut_ne, by omega, fun w hw => ?_⟩
        have := hm2 w hw
        simp at this
        exact ⟨by omega, this.2⟩
      · intro H' ys zs sm hys hm hp'
        rw [mapO_some] at hm
        have e := Option.some.inj hm
        subst e
        refine k H' L (s1.trans sm) ⟨by simp at hcl ⊢; omega, ys, hys, Paired.mapP hp' fun v ws ⟨q, e, _, h⟩ => ⟨q, e, h⟩⟩
    · rw [if_neg he] at k
      simp only [he, decide_false, Bool.not_false, if_true]
      exact k _ s1
end
end Pd
end
section
set_option Elab.async false
set_option linter.all false
set_option maxRecDepth 100000
set_option maxHeartbeats 2000000
namespace Pd
open PySem PySem.Spec PyProof.Rows L2 TL
section
variable {P : Program} {w : World} {K : PySem.W.Frag} {mg : Str → Option Value} {base : Heap}
noncomputable def spName : Sp := fun vs H Q _ => ∃ t : List Nat, vs = [.str (S t)] ∧ OkW t ∧ ∀ H', Same H H' → Q (.bl (nameM t)) H'
theorem scName : FnScope ["word", "sign"] ["word"] (defScope sName) := ⟨rfl, rfl, rfl, by decide +kernel, rfl, by decide +kernel, by decide +kernel⟩
theorem boot_allB : bootBuiltins "all" = some (.builtin "all") := by decide +kernel
theorem mem_letters (c : Nat) : (c ∈ (Str.ofString "abcdefghijklmnopqrstuvwxyz").cps.toList) ↔ isLet c = true := by
  have e : (Str.ofString "abcdefghijklmnopqrstuvwxyz").cps.toList = (List.range 26).map (97 + ·) := by decide +kernel
  rw [e]
  simp [isLet]
  constructor
  · rintro ⟨a, h, rfl⟩
    omega
  · intro h
    exact ⟨c - 97, by omega, by omega⟩
theorem mem_digits (c : Nat) : (c ∈ (Str.ofString "0123456789").cps.toList) ↔ isDig c = true := by
  have e : (Str.ofString "0123456789").cps.toList = (List.range 10).map (48 + ·) := by decide +kernel
  rw [e]
  simp [isDig]
  constructor
  · rintro ⟨a, h, rfl⟩
    omega
  · intro h
    exact ⟨c - 48, by omega, by omega⟩
theorem ok_name (D : Def K mg "is_name" sName ["word"]) (T : Tx mg) : Ok P w K mg base CX0 2 "is_name" ["word"] spName := by
  refine D.ok scName (fun vs H Q E h => ?_) (fun f cdv A outer s H vs Q E hr h => ?_)
  · obtain ⟨a, rfl, _⟩ := h
    rfl
  · obtain ⟨t, rfl, ht, k⟩ := h
    refine ⟨_, pss_cons (ps_if (PW.pt (pw_or (pt_cmpR op_eq (pv 0) pe_str (nomark _)) (pw_or1 (pt_cmpR op_gt (pe_callB call_len_str (by rfl) T.b_len PySem.boot_len (pa_cons (pv 0) pa_nil)) (pe_gint T.g_MOST_NAME_BYTES rfl) (nomark _))))) (pss_one (ps_ret pe_bl)) pss_nil)
      (pss_cons (ps_if (pt_cmpR op_notIn_sign (pe_item_str (pv 0) pe_int (fun _ _ => rfl)) (pe_gstr T.g_LETTERS rfl) rfl) (pss_one (ps_ret pe_bl)) pss_nil)
      (pss_one (ps_ret (pe_callB (call_allB rfl) (by rfl) T.b_all boot_allB (pa_cons (pe_lc0 (own := [("sign", 1)]) rfl scName.nd (pi_str (pv 0)) (blkOk_by (N := ["word", "sign"]) (sc := defScope sName) (by decide +kernel)) (fun _ _ _ _ _ => pg_name (i := 1) scName.nd rfl (Or.inl rfl)) (fun _ _ _ _ _ => pts_nil)
        (fun _ _ _ _ _ => pe_or (pe_cmpR op_in_sign (pv 1) (pe_gstr T.g_LETTERS rfl) rfl) (pe_one (pe_cmpR op_in_sign (pv 1) (pe_gstr T.g_DIGITS rfl) rfl)))) pa_nil))))), ?_⟩
    have hz := sizeLine_is
    have hl := ht.1
    try dsimp only [tSeq, tMake, cxOf_K, cxOf_P, cxOf_W, rIxT, tDIn, tDNotIn, sDPut, tAug, ipI, ipMul, tBreak, tSl, tPart, tNoPart, rSlL, rIxL, tRaise, tAnd, tOr, tM0, tM1, tIfS, tTest, tB, tChain, tCB, tCons, tNil, tC, tVar, tOp, tUn, rU, rI0, rI, rEq, rNe, tRet, tRetN, tDrop, tAsg, gName, tCall, tAndV, tOrV, tNotV, tNot, L2.start, List.map, List.replicate, List.cons_append, List.nil_append, List.getElem?_cons_zero, List.getElem?_cons_succ, List.set_cons_zero, List.set_cons_succ]
    try simp only [tSeq, tMake, cxOf_K, cxOf_P, cxOf_W, rIxT, tDIn, tDNotIn, sDPut, tAug, ipI, ipMul, tBreak, tSl, tPart, tNoPart, rSlL, rIxL, tRaise, tAnd, tOr, tM0, tM1, tIfS, tTest, tB, tChain, tCB, tCons, tNil, tC, tVar, tOp, tUn, rU, rI0, rI, rEq, rNe, sc_ii, sc_ss, sc_bb, sc_is, sc_si, tRet, tRetN, tDrop, tAsg, gName, tCall, tAndV, tOrV, tNotV, tNot, L2.start, List.map, List.replicate, List.length_cons, List.length_nil, Nat.sub_self, Nat.reduceAdd, Nat.reduceSub, List.cons_append, List.nil_append, List.append_nil, List.getElem?_cons_zero, List.getElem?_cons_succ, List.set_cons_zero, List.set_cons_succ, Option.some.injEq, V.int.injEq, V.str.injEq, V.bl.injEq, V.ref.injEq, List.cons.injEq, exists_and_left, exists_and_right, exists_eq_left, exists_eq_left', exists_eq_right, exists_eq, true_and, and_true, exists_eq_right_right, decide_eq_true_eq, Bool.not_eq_true', decide_eq_false_iff_not, Bool.and_eq_true, ite_chain, ite_chor, Int.cast_ofNat_Int, Int.natCast_add, Classical.not_not, Bool.false_eq_true, ↓reduceIte, t_empty, S_inj, S_len]
    refine ite2 (fun a => ?_) (fun a => ?_)
    · subst a
      exact k _ (fun _ _ h => h)
    refine ⟨by omega, ite2 (fun b => ?_) (fun b => ?_)⟩
    · have e : nameM t = false := by
        unfold nameM
        rw [decide_eq_false (show ¬ t.length ≤ 12 by omega)]
        simp
      rw [e] at k
      exact k _ (fun _ _ h => h)
    obtain ⟨c, r, rfl⟩ := List.exists_cons_of_ne_nil a
    try dsimp only [tNext, tSeq, tMake, cxOf_K, cxOf_P, cxOf_W, rIxT, tDIn, tDNotIn, sDPut, tAug, ipI, ipMul, tBreak, tSl, tPart, tNoPart, rSlL, rIxL, tRaise, tAnd, tOr, tM0, tM1, tIfS, tTest, tB, tChain, tCB, tCons, tNil, tC, tVar, tOp, tUn, rU, rI0, rI, rEq, rNe, tRet, tRetN, tDrop, tAsg, gName, tCall, tAndV, tOrV, tNotV, tNot, L2.start, List.map, List.replicate, List.cons_append, List.nil_append, List.getElem?_cons_zero, List.getElem?_cons_succ, List.set_cons_zero, List.set_cons_succ]
    try simp only [tNext, tSeq, tMake, cxOf_K, cxOf_P, cxOf_W, rIxT, tDIn, tDNotIn, sDPut, tAug, ipI, ipMul, tBreak, tSl, tPart, tNoPart, rSlL, rIxL, tRaise, tAnd, tOr, tM0, tM1, tIfS, tTest, tB, tChain, tCB, tCons, tNil, tC, tVar, tOp, tUn, rU, rI0, rI, rEq, rNe, sc_ii, sc_ss, sc_bb, sc_is, sc_si, tRet, tRetN, tDrop, tAsg, gName, tCall, tAndV, tOrV, tNotV, tNot, L2.start, List.map, List.replicate, List.length_cons, List.length_nil, Nat.sub_self, Nat.reduceAdd, Nat.reduceSub, List.cons_append, List.nil_append, List.append_nil, List.getElem?_cons_zero, List.getElem?_cons_succ, List.set_cons_zero, List.set_cons_succ, Option.some.injEq, V.int.injEq, V.str.injEq, V.bl.injEq, V.ref.injEq, List.cons.injEq, exists_and_left, exists_and_right, exists_eq_left, exists_eq_left', exists_eq_right, exists_eq, true_and, and_true, exists_eq_right_right, decide_eq_true_eq, Bool.not_eq_true', decide_eq_false_iff_not, Bool.and_eq_true, ite_chain, ite_chor, Int.cast_ofNat_Int, Int.natCast_add, Classical.not_not, Bool.false_eq_true, ↓reduceIte, S_len]
    refine ⟨by omega, by omega, by omega, c, rfl, c, rfl, ?_⟩
    simp only [mem_letters]
    refine ite2 (fun d => ?_) (fun d => ?_)
    · have e : nameM (c :: r) = false := by
        unfold nameM
        simp only [List.head?_cons, Option.map_some, Option.getD_some]
        rw [show isLet c = false by simpa using d]
        simp
      rw [e] at k
      exact k _ (fun _ _ h => h)
    have d : isLet c = true := Classical.not_not.mp d
    refine ⟨_, rfl, _, rfl, fun L hL => ?_⟩
    refine lc_relStr (w := S (c :: r)) (fun H v (z : Bool) => v = .bl z) (fun c => some (isLet c || isDig c)) (by show (c :: r).toArray.size ≤ _; rw [List.size_toArray]; omega) hL (fun _ _ _ _ _ h => h) ?_ ?_
    · intro c' H' hc' sm _ R k2
      try dsimp only [tSeq, tMake, cxOf_K, cxOf_P, cxOf_W, rIxT, tDIn, tDNotIn, sDPut, tAug, ipI, ipMul, tBreak, tSl, tPart, tNoPart, rSlL, rIxL, tRaise, tAnd, tOr, tM0, tM1, tIfS, tTest, tB, tChain, tCB, tCons, tNil, tC, tVar, tOp, tUn, rU, rI0, rI, rEq, rNe, tRet, tRetN, tDrop, tAsg, gName, tCall, tAndV, tOrV, tNotV, tNot, L2.start, List.map, List.replicate, List.cons_append, List.nil_append, List.getElem?_cons_zero, List.getElem?_cons_succ, List.set_cons_zero, List.set_cons_succ]
      try simp only [tSeq, tMake, cxOf_K, cxOf_P, cxOf_W, rIxT, tDIn, tDNotIn, sDPut, tAug, ipI, ipMul, tBreak, tSl, tPart, tNoPart, rSlL, rIxL, tRaise, tAnd, tOr, tM0, tM1, tIfS, tTest, tB, tChain, tCB, tCons, tNil, tC, tVar, tOp, tUn, rU, rI0, rI, rEq, rNe, sc_ii, sc_ss, sc_bb, sc_is, sc_si, tRet, tRetN, tDrop, tAsg, gName, tCall, tAndV, tOrV, tNotV, tNot, L2.start, List.map, List.replicate, List.length_cons, List.length_nil, Nat.sub_self, Nat.reduceAdd, Nat.reduceSub, List.cons_append, List.nil_append, List.append_nil, List.getElem?_cons_zero, List.getElem?_cons_succ, List.set_cons_zero, List.set_cons_succ, Option.some.injEq, V.int.injEq, V.str.injEq, V.bl.injEq, V.ref.injEq, List.cons.injEq, exists_and_left, exists_and_right, exists_eq_left, exists_eq_left', exists_eq_right, exists_eq, true_and, and_true, exists_eq_right_right, decide_eq_true_eq, Bool.not_eq_true', decide_eq_false_iff_not, Bool.and_eq_true, ite_chain, ite_chor, Int.cast_ofNat_Int, Int.natCast_add, Classical.not_not, Bool.false_eq_true, ↓reduceIte, mem_letters, mem_digits]
      refine ⟨c', rfl, ?_⟩
      refine ite2 (fun d => ?_) (fun d => ?_)
      · exact k2 _ _ _ rfl (fun _ _ h => h) (by rw [d]; rfl)
      · refine ⟨c', rfl, k2 _ _ _ rfl (fun _ _ h => h) ?_⟩
        rw [show isLet c' = false by simpa using d]
        simp
    · intro H' ys zs sm hys hm hp
      rw [mapO_some] at hm
      have e := Option.some.inj hm
      subst e
      have e2 := paired_eq (f := fun z => V.bl z) hp
      subst e2
      refine ⟨L, rfl, _, SqL.of hys, ?_⟩
      have e : nameM (c :: r) = (((S (c :: r)).cps.toList.map fun c => isLet c || isDig c).all id) := by
        unfold nameM
        rw [decide_eq_true (show (c :: r).length ≤ 12 by omega)]
        simp only [List.head?_cons, Option.map_some, Option.getD_some, d, List.isEmpty_cons, Bool.not_false, Bool.true_and]
        show _ = (((c :: r).toArray.toList.map fun c => isLet c || isDig c).all id)
        rw [List.toList_toArray, List.all_map]
        rfl
      rw [← e]
      exact k _ sm
noncomputable def spNumber : Sp := fun vs H Q _ => ∃ t : List Nat, vs = [.str (S t)] ∧ OkW t ∧ Q (.int (numM t)) H
theorem scNumber : FnScope ["word"] ["word"] (defScope sNumber) := ⟨rfl, rfl, rfl, by decide +kernel, rfl, by decide +kernel, by decide +kernel⟩
theorem t_zero : Str.ofString "0" = S [48] := by decide +kernel
theorem ok_number (D : Def K mg "number_of" sNumber ["word"]) (T : Tx mg) : Ok P w K mg base CX0 1 "number_of" ["word"] spNumber := by
  refine D.ok scNumber (fun vs H Q E h => ?_) (fun f cdv A outer s H vs Q E hr h => ?_)
  · obtain ⟨a, rfl, _⟩ := h
    rfl
  · obtain ⟨t, rfl, ht, k⟩ := h
    refine ⟨_, pss_cons (ps_if (pt_cmpR op_gt (pe_callB call_len_str (by rfl) T.b_len PySem.boot_len (pa_cons (pv 0) pa_nil)) (pe_gint T.g_MOST_DIGITS rfl) (nomark _)) (pss_one (ps_ret (pe_un un_neg pe_int))) pss_nil)
      (pss_cons (ps_if (pt_not (pt_val (pe_m0 PySem.F.slot_str_isdigit PySem.F.type_str_isdigit mt_isdigit (pv 0)))) (pss_one (ps_ret (pe_un un_neg pe_int))) pss_nil)
      (pss_cons (ps_if (PW.pt (pw_and (pt_cmpR op_eq (pe_item_str (pv 0) pe_int (fun _ _ => rfl)) pe_str (nomark _)) (pw_and1 (pt_cmpR op_ne (pv 0) pe_str (nomark _))))) (pss_one (ps_ret (pe_un un_neg pe_int))) pss_nil)
      (pss_one (ps_ret (pe_callTy call_int_str (by rfl) T.b_int boot_int (pa_cons (pv 0) pa_nil)))))), ?_⟩
    have hz := sizeLine_is
    have hl := ht.1
    try dsimp only [tSeq, tMake, cxOf_K, cxOf_P, cxOf_W, rIxT, tDIn, tDNotIn, sDPut, tAug, ipI, ipMul, tBreak, tSl, tPart, tNoPart, rSlL, rIxL, tRaise, tAnd, tOr, tM0, tM1, tIfS, tTest, tB, tChain, tCB, tCons, tNil, tC, tVar, tOp, tUn, rU, rI0, rI, rEq, rNe, tRet, tRetN, tDrop, tAsg, gName, tCall, tAndV, tOrV, tNotV, tNot, L2.start, List.map, List.replicate, List.cons_append, List.nil_append, List.getElem?_cons_zero, List.getElem?_cons_succ, List.set_cons_zero, List.set_cons_succ]
    try simp only [tSeq, tMake, cxOf_K, cxOf_P, cxOf_W, rIxT, tDIn, tDNotIn, sDPut, tAug, ipI, ipMul, tBreak, tSl, tPart, tNoPart, rSlL, rIxL, tRaise, tAnd, tOr, tM0, tM1, tIfS, tTest, tB, tChain, tCB, tCons, tNil, tC, tVar, tOp, tUn, rU, rI0, rI, rEq, rNe, sc_ii, sc_ss, sc_bb, sc_is, sc_si, tRet, tRetN, tDrop, tAsg, gName, tCall, tAndV, tOrV, tNotV, tNot, L2.start, List.map, List.replicate, List.length_cons, List.length_nil, Nat.sub_self, Nat.reduceAdd, Nat.reduceSub, List.cons_append, List.nil_append, List.append_nil, List.getElem?_cons_zero, List.getElem?_cons_succ, List.set_cons_zero, List.set_cons_succ, Option.some.injEq, V.int.injEq, V.str.injEq, V.bl.injEq, V.ref.injEq, List.cons.injEq, exists_and_left, exists_and_right, exists_eq_left, exists_eq_left', exists_eq_right, exists_eq, true_and, and_true, exists_eq_right_right, decide_eq_true_eq, Bool.not_eq_true', decide_eq_false_iff_not, Bool.and_eq_true, ite_chain, ite_chor, Int.cast_ofNat_Int, Int.natCast_add, Classical.not_not, Bool.false_eq_true, ↓reduceIte, S_len]
    refine ⟨by omega, ite2 (fun a => ?_) (fun a => ?_)⟩
    · have e : numM t = -1 := by unfold numM; rw [if_pos (by omega)]
      rw [e] at k
      exact k
    simp only [tNext, tSeq, tMake, cxOf_K, cxOf_P, cxOf_W, rIxT, tDIn, tDNotIn, sDPut, tAug, ipI, ipMul, tBreak, tSl, tPart, tNoPart, rSlL, rIxL, tRaise, tAnd, tOr, tM0, tM1, tIfS, tTest, tB, tChain, tCB, tCons, tNil, tC, tVar, tOp, tUn, rU, rI0, rI, rEq, rNe, sc_ii, sc_ss, sc_bb, sc_is, sc_si, tRet, tRetN, tDrop, tAsg, gName, tCall, tAndV, tOrV, tNotV, tNot, L2.start, List.map, List.replicate, List.length_cons, List.length_nil, Nat.sub_self, Nat.reduceAdd, Nat.reduceSub, List.cons_append, List.nil_append, List.append_nil, List.getElem?_cons_zero, List.getElem?_cons_succ, List.set_cons_zero, List.set_cons_succ, Option.some.injEq, V.int.injEq, V.str.injEq, V.bl.injEq, V.ref.injEq, List.cons.injEq, exists_and_left, exists_and_right, exists_eq_left, exists_eq_left', exists_eq_right, exists_eq, true_and, and_true, exists_eq_right_right, decide_eq_true_eq, Bool.not_eq_true', decide_eq_false_iff_not, Bool.and_eq_true, ite_chain, ite_chor, Int.cast_ofNat_Int, Int.natCast_add, Classical.not_not, Bool.false_eq_true, ↓reduceIte, isdigit_S ht.2]
    refine ⟨⟨_, rfl⟩, ite2 (fun b => ?_) (fun b => ?_)⟩
    · have e : numM t = -1 := by unfold numM; rw [if_neg (by omega), if_pos b]
      rw [e] at k
      exact k
    have b2 : (!t.isEmpty && t.all isDig) = true := by
      cases q : (!t.isEmpty && t.all isDig) with
      | true => rfl
      | false => exact absurd q b
    obtain ⟨c, r, rfl⟩ : ∃ c r, t = c :: r := by
      cases t with
      | nil => simp at b2
      | cons c r => exact ⟨c, r, rfl⟩
    refine ⟨by omega, by omega, by rw [S_len]; simp, c, rfl, ?_⟩
    have e1 : ((⟨#[c]⟩ : Str) = Str.ofString "0" ∧ ¬S (c :: r) = Str.ofString "0") ↔ ((c :: r).head? = some 48 ∧ (c :: r) ≠ [48]) := by
      rw [t_zero, S_inj, S_inj]
      simp
    refine ite2 (fun d => ?_) (fun d => ?_)
    · have e : numM (c :: r) = -1 := by unfold numM; rw [if_neg (by omega), if_neg b, if_pos (e1.mp d)]
      rw [e] at k
      exact k
    · have e : numM (c :: r) = (valM (c :: r) : Int) := by unfold numM; rw [if_neg (by omega), if_neg b, if_neg (fun z => d (e1.mpr z))]
      rw [e] at k
      exact ⟨_, int_S b2 (by omega), by rw [S_len]; omega, k⟩
end
end Pd
end
section
set_option Elab.async false
set_option linter.all false
set_option maxRecDepth 100000
set_option maxHeartbeats 2000000
namespace Pd
open PySem PySem.Spec PyProof.Rows L2 TL
noncomputable abbrev sDemand : Stmt := top 40
noncomputable abbrev sWithin : Stmt := top 41
noncomputable abbrev sDay : Stmt := top 43
noncomputable abbrev sRaces : Stmt := top 44
structure Nc (K : PySem.W.Frag) (mg : Str → Option Value) (NC : Addr) : Prop where
  mg : mg "NoCard" = some (.ref NC)
  ex : PySem.W.excIn K NC [.type "ValueError", .type "Exception", .type "BaseException", .type "object"] "ValueError.__new__" = true
section
variable {P : Program} {w : World} {K : PySem.W.Frag} {mg : Str → Option Value} {base : Heap} {NC : Addr}
noncomputable def spDemand (NC : Addr) : Sp := fun vs H Q E => ∃ b : Bool, vs = [.bl b] ∧ if b = true then Q .non H else E (.ref NC) none H
theorem scDemand : FnScope ["holds"] ["holds"] (defScope sDemand) := ⟨rfl, rfl, rfl, by decide +kernel, rfl, by decide +kernel, by decide +kernel⟩
theorem ok_demand (D : Def K mg "demand" sDemand ["holds"]) (N : Nc K mg NC) : Ok P w K mg base (CXN P w) 1 "demand" ["holds"] (spDemand NC) := by
  refine D.okX scDemand (fun vs H Q E h => ?_) (fun f cdv A outer s H vs Q E hr h => ?_)
  · obtain ⟨a, rfl, _⟩ := h
    rfl
  · obtain ⟨b, rfl, k⟩ := h
    refine ⟨_, pss_one (ps_if (pt_not (pt_val (pv 0))) (pss_one (ps_raise (E := E) xr_def rfl rfl N.mg N.ex PySem.F.excBase_ValueError (pa_cons pe_str pa_nil))) pss_nil), ?_⟩
    try dsimp only [tNext, tSeq, tMake, cxOf_K, cxOf_P, cxOf_W, rIxT, tDIn, tDNotIn, sDPut, tAug, ipI, ipMul, tBreak, tSl, tPart, tNoPart, rSlL, rIxL, tRaise, tAnd, tOr, tM0, tM1, tIfS, tTest, tB, tChain, tCB, tCons, tNil, tC, tVar, tOp, tUn, rU, rI0, rI, rEq, rNe, tRet, tRetN, tDrop, tAsg, gName, tCall, tAndV, tOrV, tNotV, tNot, L2.start, List.map, List.replicate, List.cons_append, List.nil_append, List.getElem?_cons_zero, List.getElem?_cons_succ, List.set_cons_zero, List.set_cons_succ]
    try simp only [tNext, tSeq, tMake, cxOf_K, cxOf_P, cxOf_W, rIxT, tDIn, tDNotIn, sDPut, tAug, ipI, ipMul, tBreak, tSl, tPart, tNoPart, rSlL, rIxL, tRaise, tAnd, tOr, tM0, tM1, tIfS, tTest, tB, tChain, tCB, tCons, tNil, tC, tVar, tOp, tUn, rU, rI0, rI, rEq, rNe, sc_ii, sc_ss, sc_bb, sc_is, sc_si, tRet, tRetN, tDrop, tAsg, gName, tCall, tAndV, tOrV, tNotV, tNot, L2.start, List.map, List.replicate, List.length_cons, List.length_nil, Nat.sub_self, Nat.reduceAdd, Nat.reduceSub, List.cons_append, List.nil_append, List.append_nil, List.getElem?_cons_zero, List.getElem?_cons_succ, List.set_cons_zero, List.set_cons_succ, Option.some.injEq, V.int.injEq, V.str.injEq, V.bl.injEq, V.ref.injEq, List.cons.injEq, exists_and_left, exists_and_right, exists_eq_left, exists_eq_left', exists_eq_right, exists_eq, true_and, and_true, exists_eq_right_right, decide_eq_true_eq, Bool.not_eq_true', decide_eq_false_iff_not, Bool.and_eq_true, ite_chain, ite_chor, Int.cast_ofNat_Int, Int.natCast_add, Classical.not_not, Bool.false_eq_true, ↓reduceIte]
    refine ite2 (fun a => ?_) (fun a => ?_)
    · subst a
      exact ⟨by have := sizeLine_is; omega, k⟩
    · cases b with
      | true => exact k
      | false => exact absurd rfl a
noncomputable def spWithin (NC : Addr) : Sp := fun vs H Q E => ∃ (t : List Nat) (lo hi : Int), vs = [.str (S t), .int lo, .int hi] ∧ OkW t ∧ match within t lo hi with
  | some n => Q (.int n) H
  | none => E (.ref NC) none H
theorem scWithin : FnScope ["word", "lowest", "highest", "number"] ["word", "lowest", "highest"] (defScope sWithin) := ⟨rfl, rfl, rfl, by decide +kernel, rfl, by decide +kernel, by decide +kernel⟩
theorem ok_within (D : Def K mg "number_within" sWithin ["word", "lowest", "highest"]) (G1 : Ok P w K mg base CX0 1 "number_of" ["word"] spNumber) (G2 : Ok P w K mg base (CXN P w) 1 "demand" ["holds"] (spDemand NC)) :
    Ok P w K mg base (CXN P w) 2 "number_within" ["word", "lowest", "highest"] (spWithin NC) := by
  refine D.okX scWithin (fun vs H Q E h => ?_) (fun f cdv A outer s H vs Q E hr h => ?_)
  · obtain ⟨a, lo, hi, rfl, _⟩ := h
    rfl
  · obtain ⟨t, lo, hi, rfl, ht, k⟩ := h
    refine ⟨_, pss_cons (ps_set (i := 3) scWithin.nd rfl (Or.inl rfl) (pe_own G1 hr rfl pass0 (pa_cons (pv 0) pa_nil)))
      (pss_cons (ps_expr (pe_own (E := E) G2 hr rfl (passN xr_def) (pa_cons (pe_chain op_le op_le (pv 1) (pv 3) (pv 2)) pa_nil)))
      (pss_one (ps_ret (pv 3)))), ?_⟩
    try dsimp only [tNext, spDemand, tSeq, tMake, cxOf_K, cxOf_P, cxOf_W, rIxT, tDIn, tDNotIn, sDPut, tAug, ipI, ipMul, tBreak, tSl, tPart, tNoPart, rSlL, rIxL, tRaise, tAnd, tOr, tM0, tM1, tIfS, tTest, tB, tChain, tCB, tCons, tNil, tC, tVar, tOp, tUn, rU, rI0, rI, rEq, rNe, tRet, tRetN, tDrop, tAsg, gName, tCall, tAndV, tOrV, tNotV, tNot, L2.start, List.map, List.replicate, List.cons_append, List.nil_append, List.getElem?_cons_zero, List.getElem?_cons_succ, List.set_cons_zero, List.set_cons_succ]
    try simp only [tNext, tSeq, tMake, cxOf_K, cxOf_P, cxOf_W, rIxT, tDIn, tDNotIn, sDPut, tAug, ipI, ipMul, tBreak, tSl, tPart, tNoPart, rSlL, rIxL, tRaise, tAnd, tOr, tM0, tM1, tIfS, tTest, tB, tChain, tCB, tCons, tNil, tC, tVar, tOp, tUn, rU, rI0, rI, rEq, rNe, sc_ii, sc_ss, sc_bb, sc_is, sc_si, tRet, tRetN, tDrop, tAsg, gName, tCall, tAndV, tOrV, tNotV, tNot, L2.start, List.map, List.replicate, List.length_cons, List.length_nil, Nat.sub_self, Nat.reduceAdd, Nat.reduceSub, List.cons_append, List.nil_append, List.append_nil, List.getElem?_cons_zero, List.getElem?_cons_succ, List.set_cons_zero, List.set_cons_succ, Option.some.injEq, V.int.injEq, V.str.injEq, V.bl.injEq, V.ref.injEq, List.cons.injEq, exists_and_left, exists_and_right, exists_eq_left, exists_eq_left', exists_eq_right, exists_eq, true_and, and_true, exists_eq_right_right, decide_eq_true_eq, Bool.not_eq_true', decide_eq_false_iff_not, Bool.and_eq_true, ite_chain, ite_chor, Int.cast_ofNat_Int, Int.natCast_add, Classical.not_not, Bool.false_eq_true, ↓reduceIte, spNumber, spDemand]
    refine ⟨t, rfl, ht, ?_⟩
    unfold within at k
    refine ite2 (fun a => ?_) (fun a => ?_)
    · rw [if_pos a] at k
      exact k
    · rw [if_neg a] at k
      exact k
theorem cutV_from (xs : List V) (k : Nat) : cutV xs (some (k : Int)) none = xs.drop k := by
  unfold cutV
  rw [HT.sIx_nat, HT.sIx_none]
  by_cases h : k ≤ xs.length
  · rw [Nat.min_eq_left h, List.take_of_length_le (by simp)]
  · rw [Nat.min_eq_right (by omega), List.drop_of_length_le (l := xs) (i := k) (by omega), List.drop_length]
    simp
theorem cutV_two (xs : List V) (i j : Nat) : cutV xs (some (i : Int)) (some (j : Int)) = (xs.drop i).take (j - i) := by
  unfold cutV
  rw [HT.sIx_nat, HT.sIx_nat]
  by_cases h : i ≤ xs.length
  · rw [Nat.min_eq_left h]
    by_cases h2 : j ≤ xs.length
    · rw [Nat.min_eq_left h2]
    · rw [Nat.min_eq_right (by omega), List.take_of_length_le (by simp), List.take_of_length_le (by simp; omega)]
  · rw [Nat.min_eq_right (show xs.length ≤ i by omega), List.drop_of_length_le (l := xs) (i := i) (by omega), List.drop_length]
    simp
theorem Words.at {H : Hp} {a : Addr} {ws : List (List Nat)} (h : Words H a ws) {i : Nat} {x : List Nat} (e : ws[i]? = some x) : atI (ws.map fun w => V.str (S w)) (i : Int) = some (.str (S x)) ∧ OkW x :=
  ⟨atI_nat (by rw [List.getElem?_map, e]; rfl), h.2.2.2 x (List.mem_of_getElem? e)⟩
noncomputable def spDay (NC : Addr) : Sp := fun vs H Q E => ∃ (a : Addr) (ws : List (List Nat)), vs = [.ref a] ∧ Words H a ws ∧ ∀ H', Same H H' → if dayM ws = true then Q .non H' else E (.ref NC) none H'
theorem scDay : FnScope ["words"] ["words"] (defScope sDay) := ⟨rfl, rfl, rfl, by decide +kernel, rfl, by decide +kernel, by decide +kernel⟩
theorem t_day : Str.ofString "day" = S wDay := by decide +kernel
theorem ok_day (D : Def K mg "check_day" sDay ["words"]) (T : Tx mg) (G1 : Ok P w K mg base CX0 2 "is_name" ["word"] spName) (G2 : Ok P w K mg base (CXN P w) 1 "demand" ["holds"] (spDemand NC)) :
    Ok P w K mg base (CXN P w) 3 "check_day" ["words"] (spDay NC) := by
  refine D.okX scDay (fun vs H Q E h => ?_) (fun f cdv A outer s H vs Q E hr h => ?_)
  · obtain ⟨a, ws, rfl, _⟩ := h
    rfl
  · obtain ⟨a, ws, rfl, hw, k⟩ := h
    refine ⟨_, pss_one (ps_expr (pe_own (E := E) G2 (hr.mono (by decide)) rfl (passN xr_def) (pa_cons (pe_and (pe_cmpR op_eq (pe_callB call_len_seq (by rfl) T.b_len PySem.boot_len (pa_cons (pv 0) pa_nil)) pe_int (nomark _))
      (pe_and (pe_cmpR op_eq (pe_ix ix_list (pv 0) pe_int (fun _ _ => rfl)) pe_str (nomark _)) (pe_one (pe_own G1 hr rfl pass0 (pa_cons (pe_ix ix_list (pv 0) pe_int (fun _ _ => rfl)) pa_nil))))) pa_nil))), ?_⟩
    try dsimp only [tNext, spDemand, tSeq, tMake, cxOf_K, cxOf_P, cxOf_W, rIxT, tDIn, tDNotIn, sDPut, tAug, ipI, ipMul, tBreak, tSl, tPart, tNoPart, rSlL, rIxL, tRaise, tAnd, tOr, tM0, tM1, tIfS, tTest, tB, tChain, tCB, tCons, tNil, tC, tVar, tOp, tUn, rU, rI0, rI, rEq, rNe, tRet, tRetN, tDrop, tAsg, gName, tCall, tAndV, tOrV, tNotV, tNot, L2.start, List.map, List.replicate, List.cons_append, List.nil_append, List.getElem?_cons_zero, List.getElem?_cons_succ, List.set_cons_zero, List.set_cons_succ]
    try simp only [tNext, tSeq, tMake, cxOf_K, cxOf_P, cxOf_W, rIxT, tDIn, tDNotIn, sDPut, tAug, ipI, ipMul, tBreak, tSl, tPart, tNoPart, rSlL, rIxL, tRaise, tAnd, tOr, tM0, tM1, tIfS, tTest, tB, tChain, tCB, tCons, tNil, tC, tVar, tOp, tUn, rU, rI0, rI, rEq, rNe, sc_ii, sc_ss, sc_bb, sc_is, sc_si, tRet, tRetN, tDrop, tAsg, gName, tCall, tAndV, tOrV, tNotV, tNot, L2.start, List.map, List.replicate, List.length_cons, List.length_nil, Nat.sub_self, Nat.reduceAdd, Nat.reduceSub, List.cons_append, List.nil_append, List.append_nil, List.getElem?_cons_zero, List.getElem?_cons_succ, List.set_cons_zero, List.set_cons_succ, Option.some.injEq, V.int.injEq, V.str.injEq, V.bl.injEq, V.ref.injEq, List.cons.injEq, exists_and_left, exists_and_right, exists_eq_left, exists_eq_left', exists_eq_right, exists_eq, true_and, and_true, exists_eq_right_right, decide_eq_true_eq, Bool.not_eq_true', decide_eq_false_iff_not, Bool.and_eq_true, ite_chain, ite_chor, Int.cast_ofNat_Int, Int.natCast_add, Classical.not_not, Bool.false_eq_true, ↓reduceIte, spName, spDemand]
    refine ⟨_, .inl (SqL.of hw.1), ?_⟩
    rw [List.length_map]
    have k0 := k H (fun _ _ h => h)
    refine ite2 (fun b => ?_) (fun b => ?_)
    · have b : ws.length = 2 := by omega
      obtain ⟨w0, w1, rfl⟩ := list2 b
      have a0 := hw.at (i := 0) rfl
      have a1 := hw.at (i := 1) rfl
      refine ⟨_, SqL.of hw.1, _, a0.1, ?_⟩
      simp only [sc_ss, V.str.injEq, t_day, S_inj, true_and]
      refine ite2 (fun c => ?_) (fun c => ?_)
      · refine ⟨_, SqL.of hw.1, _, a1.1, _, rfl, a1.2, fun H' sm => ?_⟩
        have e : dayM [w0, w1] = nameM w1 := by
          unfold dayM
          simp [c]
        have k1 := k H' sm
        rw [e] at k1
        exact k1
      · have e : dayM [w0, w1] = false := by
          unfold dayM
          simp [c]
        rw [e] at k0
        exact k0
    · have e : dayM ws = false := by
        unfold dayM
        rw [decide_eq_false (by omega)]
        rfl
      rw [e] at k0
      exact k0
noncomputable def spRaces : Sp := fun vs H Q _ => ∃ (L : Addr) (d : List (List Nat)) (ls : List (List (List Nat))), vs = [.ref L] ∧ Lines H L (d :: ls) ∧ ∀ H', Same H H' → Q (.int ((ls.takeWhile isRaceL).length : Nat)) H'
theorem scRaces : FnScope ["lines", "races", "words"] ["lines"] (defScope sRaces) := ⟨rfl, rfl, rfl, by decide +kernel, rfl, by decide +kernel, by decide +kernel⟩
theorem t_race : Str.ofString "race" = S wRace := by decide +kernel
theorem takeWhile_all {α : Type} {p : α → Bool} : ∀ {l : List α}, (∀ x ∈ l, p x = true) → l.takeWhile p = l
  | [], _ => rfl
  | a :: l, h => by
    rw [List.takeWhile_cons, if_pos (h a (by simp)), takeWhile_all fun x hx => h x (by simp [hx])]
theorem takeWhile_stop {α : Type} {p : α → Bool} : ∀ {l : List α} {i : Nat} {x : α}, (∀ y ∈ l.take i, p y = true) → l[i]? = some x → p x = false → (l.takeWhile p).length = i
  | [], i, x, _, h, _ => by simp at h
  | a :: l, 0, x, _, h, hp => by
    have e : a = x := Option.some.inj h
    subst e
    rw [List.takeWhile_cons, if_neg (by rw [hp]; exact Bool.false_ne_true)]
    rfl
  | a :: l, i + 1, x, h, hx, hp => by
    rw [List.takeWhile_cons, if_pos (h a (by simp)), List.length_cons, takeWhile_stop (i := i) (x := x) (fun y hy => h y (by simp [hy])) (by simpa using hx) hp]
theorem ok_races (D : Def K mg "count_races" sRaces ["lines"]) : Ok P w K mg base CX0 1 "count_races" ["lines"] spRaces := by
  refine D.ok scRaces (fun vs H Q E h => ?_) (fun f cdv A outer s H vs Q E hr h => ?_)
  · obtain ⟨a, d, ls, rfl, _⟩ := h
    rfl
  · obtain ⟨L, d, ls, rfl, hL, k⟩ := h
    refine ⟨_, pss_cons (ps_set (i := 1) scRaces.nd rfl (Or.inl rfl) pe_int)
      (pss_cons (ps_for PassesOwn.never rfl (pi_list (pe_slice sl_list (pv 0) (po_some pe_int) po_none)) (pg_name (i := 2) scRaces.nd rfl (Or.inl rfl))
        (pss_cons (ps_if (pt_cmpR op_ne (pe_ix ix_list (pv 2) pe_int (fun _ _ => rfl)) pe_str (nomark _)) (pss_one ps_break) pss_nil)
        (pss_one (ps_aug (i := 1) scRaces.nd rfl (Or.inl rfl) pe_int ip_add))))
      (pss_one (ps_ret (pv 1)))), ?_⟩
    obtain ⟨hn, as, hA, hp⟩ := hL
    cases hp with
    | @cons a0 d0 as ls0 h0 hp =>
    refine ⟨_, rfl, _, rfl, L, _, rfl, SqL.of hA, fun p hp0 => ?_⟩
    rw [show ((1 : Int)) = ((1 : Nat) : Int) from rfl, cutV_from]
    have s1 : Same H (upd H p (.lst as)) := Same.new hp0
    have hlen := Paired.len' hp
    refine ⟨p, rfl, ⟨_, SqL.of upd_same⟩, for_list (K := K) (a := p) (xs := as) (fun i σ H' => ∃ v : Option V, σ = [some (.ref L), some (.int i), v] ∧ Same (upd H p (.lst as)) H' ∧ ∀ y ∈ ls.take i, isRaceL y = true)
      ⟨none, rfl, fun _ _ h => h, by simp⟩ (fun i σ H' _ ⟨_, _, s5, _⟩ => SqL.of (s5 _ _ upd_same)) ?_ ?_⟩
    · rintro i y σ H' hi ⟨v, rfl, s5, ha⟩
      obtain ⟨ws, hw1, q, rfl, hw⟩ := Paired.at' hp hi
      have hw := (hw.same s1).same s5
      obtain ⟨w0, wr, rfl⟩ := List.exists_cons_of_ne_nil hw.2.1
      have a0 := hw.at (i := 0) rfl
      try dsimp only [tSeq, tMake, cxOf_K, cxOf_P, cxOf_W, rIxT, tDIn, tDNotIn, sDPut, tAug, ipI, ipMul, tBreak, tSl, tPart, tNoPart, rSlL, rIxL, tRaise, tAnd, tOr, tM0, tM1, tIfS, tTest, tB, tChain, tCB, tCons, tNil, tC, tVar, tOp, tUn, rU, rI0, rI, rEq, rNe, tRet, tRetN, tDrop, tAsg, gName, tCall, tAndV, tOrV, tNotV, tNot, L2.start, List.map, List.replicate, List.cons_append, List.nil_append, List.getElem?_cons_zero, List.getElem?_cons_succ, List.set_cons_zero, List.set_cons_succ]
      try simp only [tSeq, tMake, cxOf_K, cxOf_P, cxOf_W, rIxT, tDIn, tDNotIn, sDPut, tAug, ipI, ipMul, tBreak, tSl, tPart, tNoPart, rSlL, rIxL, tRaise, tAnd, tOr, tM0, tM1, tIfS, tTest, tB, tChain, tCB, tCons, tNil, tC, tVar, tOp, tUn, rU, rI0, rI, rEq, rNe, sc_ii, sc_ss, sc_bb, sc_is, sc_si, tRet, tRetN, tDrop, tAsg, gName, tCall, tAndV, tOrV, tNotV, tNot, L2.start, List.map, List.replicate, List.length_cons, List.length_nil, Nat.sub_self, Nat.reduceAdd, Nat.reduceSub, List.cons_append, List.nil_append, List.append_nil, List.getElem?_cons_zero, List.getElem?_cons_succ, List.set_cons_zero, List.set_cons_succ, Option.some.injEq, V.int.injEq, V.str.injEq, V.bl.injEq, V.ref.injEq, List.cons.injEq, exists_and_left, exists_and_right, exists_eq_left, exists_eq_left', exists_eq_right, exists_eq, true_and, and_true, exists_eq_right_right, decide_eq_true_eq, Bool.not_eq_true', decide_eq_false_iff_not, Bool.and_eq_true, ite_chain, ite_chor, Int.cast_ofNat_Int, Int.natCast_add, Classical.not_not, Bool.false_eq_true, ↓reduceIte]
      refine ⟨_, SqL.of hw.1, _, a0.1, ?_⟩
      simp only [sc_ss, V.str.injEq, t_race, S_inj, true_and]
      refine ite2 (fun b => ?_) (fun b => ?_)
      · have e := takeWhile_stop ha hw1 (p := isRaceL) (by
          unfold isRaceL
          simpa using b)
        have k1 := k H' (s1.trans s5)
        rw [e] at k1
        exact k1
      · refine ⟨_, rfl, _, _, rfl, rfl, ⟨_, rfl⟩, s5, fun y hy => ?_⟩
        rw [take_snoc' hw1] at hy
        rcases List.mem_append.mp hy with h | h
        · exact ha y h
        · have e : y = w0 :: wr := by simpa using h
          subst e
          unfold isRaceL
          have b : w0 = wRace := Classical.not_not.mp b
          simp [b]
    · rintro σ H' ⟨v, rfl, s5, ha⟩
      refine ⟨_, rfl, ?_⟩
      rw [hlen, List.take_length] at ha
      have k1 := k H' (s1.trans s5)
      rw [takeWhile_all ha] at k1
      rw [hlen]
      exact k1
end
end Pd
end
section
set_option Elab.async false
set_option linter.all false
set_option maxRecDepth 100000
set_option maxHeartbeats 2000000
namespace Pd
open PySem PySem.Spec PyProof.Rows L2 TL
noncomputable abbrev sRace : Stmt := top 45
noncomputable def KeysI (kvs : List (Key × V)) (ks : List Int) : Prop := ∀ k : Int, (valV kvs (Sum.inl k)).isSome = decide (k ∈ ks)
theorem KeysI.put {kvs : List (Key × V)} {ks : List Int} {h : Int} {v : V} (x : KeysI kvs ks) : KeysI (putK kvs (Sum.inl h) v) (ks ++ [h]) := fun k => by
  rw [valV_put]
  by_cases e : k = h
  · subst e
    rw [if_pos rfl]
    simp
  · rw [if_neg (fun z => e (Sum.inl.inj z)), x k]
    simp [e]
theorem putK_len {κ : Type} [DecidableEq κ] {kvs : List (κ × V)} {k : κ} {v : V} : (putK kvs k v).length ≤ kvs.length + 1 := by
  unfold putK
  split <;> simp
section
variable {P : Program} {w : World} {K : PySem.W.Frag} {mg : Str → Option Value} {base : Heap} {NC : Addr}
noncomputable def RInv (a dh df : Addr) (n : Int) (H : Hp) (ws : List (List Nat)) (i : Nat) (σ : L2.St) (H' : Hp) : Prop := ∃ (v4 v5 v6 : Option V) (hs fs : List Int) (kh kf : List (Key × V)),
  σ = [some (.ref a), some (.int n), some (.ref dh), some (.ref df), v4, v5, v6, none] ∧ Same H H' ∧ H' dh = some (.dK kh) ∧ H' df = some (.dK kf) ∧ KeysI kh hs ∧ KeysI kf fs ∧ kh.length ≤ i ∧ kf.length ≤ i ∧
    couplesM n [] [] (ws.drop 2) = couplesM n hs fs (ws.drop (2 + 3 * i))
theorem Words.atZ {H : Hp} {a : Addr} {ws : List (List Nat)} (h : Words H a ws) {i : Nat} {z : Int} {x : List Nat} (ez : z = (i : Int)) (e : ws[i]? = some x) : atI (ws.map fun w => V.str (S w)) z = some (.str (S x)) ∧ OkW x := by
  rw [ez]
  exact h.at e
theorem drop3 {α : Type} {l : List α} {j : Nat} (h : j + 2 < l.length) : ∃ a b c, l[j]? = some a ∧ l[j + 1]? = some b ∧ l[j + 2]? = some c ∧ l.drop j = a :: b :: c :: l.drop (j + 3) := by
  refine ⟨l[j], l[j + 1], l[j + 2], List.getElem?_eq_getElem _, List.getElem?_eq_getElem _, List.getElem?_eq_getElem _, ?_⟩
  rw [List.drop_eq_getElem_cons (show j < l.length by omega), List.drop_eq_getElem_cons (show j + 1 < l.length by omega), List.drop_eq_getElem_cons (show j + 1 + 1 < l.length by omega)]
theorem headsM_succ (n : Nat) (fs : List Int) : headsM (n + 1) fs = if (1 : Int) + (n : Int) ∈ fs then headsM n fs else headsM n fs ++ [(1 : Int) + (n : Int)] := by
  unfold headsM
  rw [List.range_succ, List.map_append, List.filter_append]
  simp only [List.map_cons, List.map_nil, List.filter_cons, List.filter_nil]
  by_cases h : (1 : Int) + (n : Int) ∈ fs
  · simp [h]
  · simp [h]
noncomputable def spRace (NC : Addr) : Sp := fun vs H Q E => ∃ (a : Addr) (ws : List (List Nat)), vs = [.ref a] ∧ Words H a ws ∧ (∀ r, raceM ws = some r → ∀ H' b, Same H H' → H' b = some (.lst (r.map V.int)) → H b = none → Q (.ref b) H') ∧ (raceM ws = none → ∀ H', Same H H' → E (.ref NC) none H')
theorem scRace : FnScope ["words", "runners", "heads", "followers", "at", "head", "follower", "runner"] ["words"] (defScope sRace) := ⟨rfl, rfl, rfl, by decide +kernel, rfl, by decide +kernel, by decide +kernel⟩
theorem t_couple : Str.ofString "couple" = S wCouple := by decide +kernel
theorem ok_race (D : Def K mg "read_race" sRace ["words"]) (T : Tx mg) (G_number_within : Ok P w K mg base (CXN P w) 2 "number_within" ["word", "lowest", "highest"] (spWithin NC)) (G_demand : Ok P w K mg base (CXN P w) 1 "demand" ["holds"] (spDemand NC)) :
    Ok P w K mg base (CXN P w) 3 "read_race" ["words"] (spRace NC) := by
  refine D.okX scRace (fun vs H Q E h => ?_) (fun f cdv A outer s H vs Q E hr h => ?_)
  · obtain ⟨a, ws, rfl, _⟩ := h
    rfl
  · obtain ⟨a, ws, rfl, hw, kQ, kE⟩ := h
    have hr1 : Room 1 _ := hr.mono (show 1 ≤ 2 by decide)
    have hu := hu_of hr
    obtain ⟨tT, hT, kT⟩ : ∃ tT : TS, PSs (cxOf (CXN P w) P w K mg base ["words", "runners", "heads", "followers", "at", "head", "follower", "runner"] "read_race" (defScope sRace) f cdv A outer s H E) ((defBody sRace).drop 3) tT ∧
        ∀ (w0 w1 : List Nat) (r : List (List Nat)) (n : Int), ws = w0 :: w1 :: r → ws.length % 3 = 2 → ws.length ≤ 26 → 2 ≤ n → n ≤ 24 → (raceM ws = match couplesM n [] [] r with | none => none | some fs => some (headsM n.toNat fs)) → tT { nx := fun _ H' => Q .non H', rt := Q } [some (.ref a), some (.int n), none, none, none, none, none, none] H := by
      refine ⟨_, (pss_cons (ps_set (i := 2) scRace.nd rfl (Or.inl rfl) pe_dnewK) (pss_cons (ps_set (i := 3) scRace.nd rfl (Or.inr rfl) pe_dnewK) (pss_cons (ps_for PassesOwn.leaving rfl (pi_range3 rfl T.b_range (pa_cons pe_int (pa_cons (pe_callB call_len_seq (by rfl) T.b_len PySem.boot_len (pa_cons (pv 0) pa_nil)) (pa_cons pe_int pa_nil)))) (pg_name (i := 4) scRace.nd rfl (Or.inl rfl)) (pss_cons (ps_expr (pe_own (E := E) G_demand (hr.mono (by decide)) rfl (passN xr_def) (pa_cons (pe_cmpR op_eq (pe_ix ix_list (pv 0) (pv 4) (fun _ _ => rfl)) pe_str (nomark _)) pa_nil))) (pss_cons (ps_set (i := 5) scRace.nd rfl (Or.inl rfl) (pe_own (E := E) G_number_within (hr.mono (by decide)) rfl (passN xr_def) (pa_cons (pe_ix ix_list (pv 0) (pe_op op_add (pv 4) pe_int) (fun _ _ => rfl)) (pa_cons pe_int (pa_cons (pv 1) pa_nil))))) (pss_cons (ps_set (i := 6) scRace.nd rfl (Or.inl rfl) (pe_own (E := E) G_number_within (hr.mono (by decide)) rfl (passN xr_def) (pa_cons (pe_ix ix_list (pv 0) (pe_op op_add (pv 4) pe_int) (fun _ _ => rfl)) (pa_cons (pe_op op_add (pv 5) pe_int) (pa_cons (pv 1) pa_nil))))) (pss_cons (ps_expr (pe_own (E := E) G_demand (hr.mono (by decide)) rfl (passN xr_def) (pa_cons (pe_cmp (pc_dnotin hu (pv 5) (pv 3))) pa_nil))) (pss_cons (ps_expr (pe_own (E := E) G_demand (hr.mono (by decide)) rfl (passN xr_def) (pa_cons (pe_and (pe_cmp (pc_dnotin hu (pv 6) (pv 2))) (pe_one (pe_cmp (pc_dnotin hu (pv 6) (pv 3))))) pa_nil))) (pss_cons (ps_dput hu (pv 2) (pv 5) pe_bl rfl) (pss_one (ps_dput hu (pv 3) (pv 6) pe_bl rfl))))))))) (pss_one (ps_ret (pe_lc0 (own := [("runner", 7)]) rfl scRace.nd (pi_range2 rfl T.b_range (pa_cons pe_int (pa_cons (pe_op op_add (pv 1) pe_int) pa_nil))) (blkOk_by (N := ["words", "runners", "heads", "followers", "at", "head", "follower", "runner"]) (sc := defScope sRace) (by decide +kernel)) (fun _ _ _ _ _ => pg_name (i := 7) scRace.nd rfl (Or.inl rfl)) (fun _ _ _ _ _ => (pts_one (pt_cmp (pc_dnotin hu (pv 7) (pv 3))))) (fun _ _ _ _ _ => (pv 7)))))))), fun w0 w1 r n ews b1 b2 hn1 hn2 eR => ?_⟩
      subst ews
      have hz := sizeLine_is
      have hwl := hw.2.2.1
      try dsimp only [tSeq, tMake, cxOf_K, cxOf_P, cxOf_W, rIxT, tDIn, tDNotIn, sDPut, tAug, ipI, ipMul, tBreak, tSl, tPart, tNoPart, rSlL, rIxL, tRaise, tAnd, tOr, tM0, tM1, tIfS, tTest, tB, tChain, tCB, tCons, tNil, tC, tVar, tOp, tUn, rU, rI0, rI, rEq, rNe, tRet, tRetN, tDrop, tAsg, gName, tCall, tAndV, tOrV, tNotV, tNot, L2.start, List.map, List.replicate, List.cons_append, List.nil_append, List.getElem?_cons_zero, List.getElem?_cons_succ, List.set_cons_zero, List.set_cons_succ, spDemand]
      try dsimp only [spDemand, tSeq, tMake, cxOf_K, cxOf_P, cxOf_W, rIxT, tDIn, tDNotIn, sDPut, tAug, ipI, ipMul, tBreak, tSl, tPart, tNoPart, rSlL, rIxL, tRaise, tAnd, tOr, tM0, tM1, tIfS, tTest, tB, tChain, tCB, tCons, tNil, tC, tVar, tOp, tUn, rU, rI0, rI, rEq, rNe, tRet, tRetN, tDrop, tAsg, gName, tCall, tAndV, tOrV, tNotV, tNot, L2.start, List.map, List.replicate, List.cons_append, List.nil_append, List.getElem?_cons_zero, List.getElem?_cons_succ, List.set_cons_zero, List.set_cons_succ]
      try simp only [tSeq, tMake, cxOf_K, cxOf_P, cxOf_W, rIxT, tDIn, tDNotIn, sDPut, tAug, ipI, ipMul, tBreak, tSl, tPart, tNoPart, rSlL, rIxL, tRaise, tAnd, tOr, tM0, tM1, tIfS, tTest, tB, tChain, tCB, tCons, tNil, tC, tVar, tOp, tUn, rU, rI0, rI, rEq, rNe, sc_ii, sc_ss, sc_bb, sc_is, sc_si, tRet, tRetN, tDrop, tAsg, gName, tCall, tAndV, tOrV, tNotV, tNot, L2.start, List.map, List.replicate, List.length_cons, List.length_nil, Nat.sub_self, Nat.reduceAdd, Nat.reduceSub, List.cons_append, List.nil_append, List.append_nil, List.getElem?_cons_zero, List.getElem?_cons_succ, List.set_cons_zero, List.set_cons_succ, Option.some.injEq, V.int.injEq, V.str.injEq, V.bl.injEq, V.ref.injEq, List.cons.injEq, exists_and_left, exists_and_right, exists_eq_left, exists_eq_left', exists_eq_right, exists_eq, true_and, and_true, exists_eq_right_right, decide_eq_true_eq, Bool.not_eq_true', decide_eq_false_iff_not, Bool.and_eq_true, ite_chain, ite_chor, Int.cast_ofNat_Int, Int.natCast_add, Classical.not_not, Bool.false_eq_true, ↓reduceIte, spDemand]
      intro dh hdh df hdf
      have ndf : df ≠ dh := fun z => by rw [z, upd_same] at hdf; cases hdf
      have hdf0 : H df = none := by rw [upd_ne ndf] at hdf; exact hdf
      have s2 : Same H (upd (upd H dh (.dK [])) df (.dK [])) := (Same.new hdh).newer hdf0
      have hw2 := hw.same s2
      obtain ⟨m, hm⟩ : ∃ m, r.length = 3 * m := ⟨r.length / 3, by simp at b1; omega⟩
      refine ⟨_, rfl, a, rfl, _, .inl (SqL.of hw2.1), 2, _, 3, m, rfl, ?_, ?_⟩
      · rw [List.length_map]
        simp only [List.length_cons] at b2 ⊢
        refine RgC.up (by decide) (by decide) (by decide) (by decide) (by omega) (by omega) ?_
        split <;> omega
      refine for_rangeC (RInv a dh df n H (w0 :: w1 :: r)) ⟨none, none, none, [], [], [], [], rfl, s2, by rw [upd_ne (Ne.symm ndf), upd_same], upd_same, fun _ => rfl, fun _ => rfl, Nat.le_refl _, Nat.le_refl _, rfl⟩ ?_ ?_
      · rintro i σ H' hi ⟨v4, v5, v6, hs, fs, kh, kf, rfl, sm, h1, h2, K1, K2, l1, l2, ec⟩
        have hw3 := hw.same sm
        obtain ⟨x0, x1, x2, g0, g1, g2, gd⟩ := drop3 (l := w0 :: w1 :: r) (j := 2 + 3 * i) (by simp; omega)
        have q0 := hw3.atZ (z := 2 + (i : Int) * 3) (by omega) g0
        have q1 := hw3.atZ (z := 2 + (i : Int) * 3 + 1) (by omega) g1
        have q2 := hw3.atZ (z := 2 + (i : Int) * 3 + 2) (by omega) g2
        rw [gd] at ec
        have ecE : ∀ {x}, couplesM n hs fs (x0 :: x1 :: x2 :: (w0 :: w1 :: r).drop (2 + 3 * i + 3)) = x → couplesM n [] [] r = x := fun z => ec.trans z
        have kE2 : couplesM n [] [] r = none → E (.ref NC) none H' := fun z => kE (by rw [eR, z]) H' sm
        try dsimp only [spDemand, tSeq, tMake, cxOf_K, cxOf_P, cxOf_W, rIxT, tDIn, tDNotIn, sDPut, tAug, ipI, ipMul, tBreak, tSl, tPart, tNoPart, rSlL, rIxL, tRaise, tAnd, tOr, tM0, tM1, tIfS, tTest, tB, tChain, tCB, tCons, tNil, tC, tVar, tOp, tUn, rU, rI0, rI, rEq, rNe, tRet, tRetN, tDrop, tAsg, gName, tCall, tAndV, tOrV, tNotV, tNot, L2.start, List.map, List.replicate, List.cons_append, List.nil_append, List.getElem?_cons_zero, List.getElem?_cons_succ, List.set_cons_zero, List.set_cons_succ]
        try simp only [tSeq, tMake, cxOf_K, cxOf_P, cxOf_W, rIxT, tDIn, tDNotIn, sDPut, tAug, ipI, ipMul, tBreak, tSl, tPart, tNoPart, rSlL, rIxL, tRaise, tAnd, tOr, tM0, tM1, tIfS, tTest, tB, tChain, tCB, tCons, tNil, tC, tVar, tOp, tUn, rU, rI0, rI, rEq, rNe, sc_ii, sc_ss, sc_bb, sc_is, sc_si, tRet, tRetN, tDrop, tAsg, gName, tCall, tAndV, tOrV, tNotV, tNot, L2.start, List.map, List.replicate, List.length_cons, List.length_nil, Nat.sub_self, Nat.reduceAdd, Nat.reduceSub, List.cons_append, List.nil_append, List.append_nil, List.getElem?_cons_zero, List.getElem?_cons_succ, List.set_cons_zero, List.set_cons_succ, Option.some.injEq, V.int.injEq, V.str.injEq, V.bl.injEq, V.ref.injEq, List.cons.injEq, exists_and_left, exists_and_right, exists_eq_left, exists_eq_left', exists_eq_right, exists_eq, true_and, and_true, exists_eq_right_right, decide_eq_true_eq, Bool.not_eq_true', decide_eq_false_iff_not, Bool.and_eq_true, ite_chain, ite_chor, Int.cast_ofNat_Int, Int.natCast_add, Classical.not_not, Bool.false_eq_true, ↓reduceIte, spDemand]
        refine ⟨_, SqL.of hw3.1, _, q0.1, ?_⟩
        simp only [sc_ss, V.str.injEq, t_couple, S_inj, true_and]
        rw [couplesM_eq] at ecE
        refine ite2 (fun b3 => ?_) (fun b3 => kE2 (ecE (by rw [if_neg b3])))
        rw [if_pos b3] at ecE
        refine ⟨_, SqL.of hw3.1, _, q1.1, _, _, _, rfl, q1.2, ?_⟩
        cases e1 : within x1 1 n with
        | none => exact kE2 (ecE (by rw [e1]))
        | some h =>
          rw [e1] at ecE
          dsimp only at ecE ⊢
          try dsimp only [spDemand, tSeq, tMake, cxOf_K, cxOf_P, cxOf_W, rIxT, tDIn, tDNotIn, sDPut, tAug, ipI, ipMul, tBreak, tSl, tPart, tNoPart, rSlL, rIxL, tRaise, tAnd, tOr, tM0, tM1, tIfS, tTest, tB, tChain, tCB, tCons, tNil, tC, tVar, tOp, tUn, rU, rI0, rI, rEq, rNe, tRet, tRetN, tDrop, tAsg, gName, tCall, tAndV, tOrV, tNotV, tNot, L2.start, List.map, List.replicate, List.cons_append, List.nil_append, List.getElem?_cons_zero, List.getElem?_cons_succ, List.set_cons_zero, List.set_cons_succ]
          try simp only [tSeq, tMake, cxOf_K, cxOf_P, cxOf_W, rIxT, tDIn, tDNotIn, sDPut, tAug, ipI, ipMul, tBreak, tSl, tPart, tNoPart, rSlL, rIxL, tRaise, tAnd, tOr, tM0, tM1, tIfS, tTest, tB, tChain, tCB, tCons, tNil, tC, tVar, tOp, tUn, rU, rI0, rI, rEq, rNe, sc_ii, sc_ss, sc_bb, sc_is, sc_si, tRet, tRetN, tDrop, tAsg, gName, tCall, tAndV, tOrV, tNotV, tNot, L2.start, List.map, List.replicate, List.length_cons, List.length_nil, Nat.sub_self, Nat.reduceAdd, Nat.reduceSub, List.cons_append, List.nil_append, List.append_nil, List.getElem?_cons_zero, List.getElem?_cons_succ, List.set_cons_zero, List.set_cons_succ, Option.some.injEq, V.int.injEq, V.str.injEq, V.bl.injEq, V.ref.injEq, List.cons.injEq, exists_and_left, exists_and_right, exists_eq_left, exists_eq_left', exists_eq_right, exists_eq, true_and, and_true, exists_eq_right_right, decide_eq_true_eq, Bool.not_eq_true', decide_eq_false_iff_not, Bool.and_eq_true, ite_chain, ite_chor, Int.cast_ofNat_Int, Int.natCast_add, Classical.not_not, Bool.false_eq_true, ↓reduceIte, spDemand]
          refine ⟨_, SqL.of hw3.1, _, q2.1, _, _, _, rfl, q2.2, ?_⟩
          cases e2 : within x2 (h + 1) n with
          | none => exact kE2 (ecE (by rw [e2]))
          | some g =>
            rw [e2] at ecE
            dsimp only at ecE ⊢
            refine ⟨_, DGet.k (k := Sum.inl h) h2, ?_⟩
            rw [K2 h]
            refine ite2 (fun b4 => ?_) (fun b4 => kE2 (ecE (by rw [if_pos (by simpa using b4)])))
            have b4 : ¬ h ∈ fs := by simpa using b4
            rw [if_neg b4] at ecE
            refine ⟨_, DGet.k (k := Sum.inl g) h1, ?_⟩
            rw [K1 g]
            refine ite2 (fun b5 => ?_) (fun b5 => kE2 (ecE (by rw [if_pos (.inl (by simpa using b5))])))
            refine ⟨_, DGet.k (k := Sum.inl g) h2, ?_⟩
            rw [K2 g]
            refine ite2 (fun b6 => ?_) (fun b6 => kE2 (ecE (by rw [if_pos (.inr (by simpa using b6))])))
            have b5 : ¬ g ∈ hs := by simpa using b5
            have b6 : ¬ g ∈ fs := by simpa using b6
            rw [if_neg (by rintro (z | z); exact b5 z; exact b6 z)] at ecE
            have hi2 : i < 70000 := by simp at hwl; omega
            refine ⟨_, DPut.k (k := Sum.inl h) h1 (by omega), _, DPut.k (k := Sum.inl g) (by rw [upd_ne ndf]; exact h2) (by omega), ?_⟩
            refine ⟨_, _, _, hs ++ [h], fs ++ [g], _, _, rfl, (sm.newer hdh).newer hdf0, by rw [upd_ne (Ne.symm ndf), upd_same], upd_same, K1.put, K2.put, ?_, ?_, ecE rfl⟩
            · have := putK_len (kvs := kh) (k := Sum.inl h) (v := V.bl true)
              omega
            · have := putK_len (kvs := kf) (k := Sum.inl g) (v := V.bl true)
              omega
      · rintro σ H' ⟨v4, v5, v6, hs, fs, kh, kf, rfl, sm, h1, h2, K1, K2, l1, l2, ec⟩
        have e0 : (w0 :: w1 :: r).drop (2 + 3 * m) = [] := List.drop_of_length_le (by simp; omega)
        rw [e0] at ec
        have ec : couplesM n [] [] r = some fs := ec
        rw [ec] at eR
        refine ⟨_, rfl, n, 1, rfl, rfl, 1, n + 1, rfl, ⟨by decide, by decide, by omega, by omega⟩, fun L hL => ?_⟩
        have hL0 : H L = none := sm.free hL
        refine lc_range (lo := 1) (n := (n + 1 - 1).toNat) (fun i H2 => Same H' H2 ∧ H2 L = some (.lst ((headsM i fs).map V.int))) ⟨Same.new hL, upd_same⟩ ?_ ?_
        · rintro i H2 hi ⟨sm2, hL2⟩
          refine ⟨rfl, _, rfl, _, rfl, df, _, rfl, DGet.k (k := Sum.inl (1 + (i : Int))) (sm2 _ _ h2), _, rfl, ?_⟩
          rw [K2]
          have hlen : (headsM i fs).length ≤ i := by
            unfold headsM
            refine Nat.le_trans (List.length_filter_le _ _) ?_
            simp
          dsimp only
          rw [headsM_succ]
          by_cases hin : (1 : Int) + (i : Int) ∈ fs
          · rw [decide_eq_true hin, if_pos hin]
            exact ⟨sm2, hL2⟩
          · rw [decide_eq_false hin, if_neg hin]
            refine ⟨_, rfl, _, hL2, by rw [List.length_map]; omega, fun b o e => by rw [upd_ne (ne_of_none e hL)]; exact sm2 _ _ e, ?_⟩
            rw [upd_same, List.map_append]
            rfl
        · rintro H2 ⟨sm2, hL2⟩
          refine kQ _ eR _ L (sm.trans sm2) ?_ hL0
          rw [hL2]
          congr 4
          omega
    refine ⟨_, (pss_cons (ps_expr (pe_own (E := E) G_demand (hr.mono (by decide)) rfl (passN xr_def) (pa_cons (pe_cmpR op_eq (pe_op op_mod (pe_callB call_len_seq (by rfl) T.b_len PySem.boot_len (pa_cons (pv 0) pa_nil)) pe_int) pe_int (nomark _)) pa_nil))) (pss_cons (ps_expr (pe_own (E := E) G_demand (hr.mono (by decide)) rfl (passN xr_def) (pa_cons (pe_cmpR op_le (pe_callB call_len_seq (by rfl) T.b_len PySem.boot_len (pa_cons (pv 0) pa_nil)) (pe_op op_add pe_int (pe_op op_mul pe_int (pe_gint T.g_MOST_COUPLES rfl))) (nomark _)) pa_nil))) (pss_cons (ps_set (i := 1) scRace.nd rfl (Or.inl rfl) (pe_own (E := E) G_number_within (hr.mono (by decide)) rfl (passN xr_def) (pa_cons (pe_ix ix_list (pv 0) pe_int (fun _ _ => rfl)) (pa_cons (pe_gint T.g_LEAST_RUNNERS rfl) (pa_cons (pe_gint T.g_MOST_RUNNERS rfl) pa_nil))))) hT))), ?_⟩
    have hz := sizeLine_is
    have hwl := hw.2.2.1
    have kE0 : raceM ws = none → E (.ref NC) none H := fun z => kE z H fun _ _ h => h
    try dsimp only [spDemand, tSeq, tMake, cxOf_K, cxOf_P, cxOf_W, rIxT, tDIn, tDNotIn, sDPut, tAug, ipI, ipMul, tBreak, tSl, tPart, tNoPart, rSlL, rIxL, tRaise, tAnd, tOr, tM0, tM1, tIfS, tTest, tB, tChain, tCB, tCons, tNil, tC, tVar, tOp, tUn, rU, rI0, rI, rEq, rNe, tRet, tRetN, tDrop, tAsg, gName, tCall, tAndV, tOrV, tNotV, tNot, L2.start, List.map, List.replicate, List.cons_append, List.nil_append, List.getElem?_cons_zero, List.getElem?_cons_succ, List.set_cons_zero, List.set_cons_succ]
    try simp only [tSeq, tMake, cxOf_K, cxOf_P, cxOf_W, rIxT, tDIn, tDNotIn, sDPut, tAug, ipI, ipMul, tBreak, tSl, tPart, tNoPart, rSlL, rIxL, tRaise, tAnd, tOr, tM0, tM1, tIfS, tTest, tB, tChain, tCB, tCons, tNil, tC, tVar, tOp, tUn, rU, rI0, rI, rEq, rNe, sc_ii, sc_ss, sc_bb, sc_is, sc_si, tRet, tRetN, tDrop, tAsg, gName, tCall, tAndV, tOrV, tNotV, tNot, L2.start, List.map, List.replicate, List.length_cons, List.length_nil, Nat.sub_self, Nat.reduceAdd, Nat.reduceSub, List.cons_append, List.nil_append, List.append_nil, List.getElem?_cons_zero, List.getElem?_cons_succ, List.set_cons_zero, List.set_cons_succ, Option.some.injEq, V.int.injEq, V.str.injEq, V.bl.injEq, V.ref.injEq, List.cons.injEq, exists_and_left, exists_and_right, exists_eq_left, exists_eq_left', exists_eq_right, exists_eq, true_and, and_true, exists_eq_right_right, decide_eq_true_eq, Bool.not_eq_true', decide_eq_false_iff_not, Bool.and_eq_true, ite_chain, ite_chor, Int.cast_ofNat_Int, Int.natCast_add, Classical.not_not, Bool.false_eq_true, ↓reduceIte, spDemand]
    refine ⟨_, .inl (SqL.of hw.1), by omega, ?_⟩
    rw [List.length_map]
    refine ite2 (fun b1 => ?_) (fun b1 => kE0 (by unfold raceM; rw [if_pos (.inl (by omega))]))
    refine ⟨_, .inl (SqL.of hw.1), .inl (by decide), ?_⟩
    rw [List.length_map]
    refine ite2 (fun b2 => ?_) (fun b2 => kE0 (by unfold raceM; rw [if_pos (.inr (by omega))]))
    obtain ⟨w0, w1, r, rfl⟩ : ∃ w0 w1 r, ws = w0 :: w1 :: r := by
      match ws, b1 with
      | [], b1 => simp at b1
      | [_], b1 => simp at b1
      | w0 :: w1 :: r, _ => exact ⟨w0, w1, r, rfl⟩
    have a1 := hw.at (i := 1) rfl
    refine ⟨_, SqL.of hw.1, _, a1.1, _, _, _, rfl, a1.2, ?_⟩
    have eR : raceM (w0 :: w1 :: r) = match within w1 2 24 with | none => none | some n => match couplesM n [] [] r with | none => none | some fs => some (headsM n.toNat fs) := by
      unfold raceM
      rw [if_neg (by omega)]
      rfl
    cases ew : within w1 2 24 with
    | none => exact kE0 (by rw [eR, ew])
    | some n =>
      have hn := within_some ew
      rw [ew] at eR
      dsimp only at eR ⊢
      exact kT w0 w1 r n rfl (by omega) (by omega) hn.1 hn.2.1 eR
end
end Pd
end
section
set_option Elab.async false
set_option linter.all false
set_option maxRecDepth 100000
set_option maxHeartbeats 2000000
namespace Pd
open PySem PySem.Spec PyProof.Rows L2 TL
noncomputable abbrev sPoolRace : Stmt := top 47
noncomputable abbrev sPool : Stmt := top 46
noncomputable abbrev sDiffer : Stmt := top 48
noncomputable abbrev sPoolInit : Stmt := inClass (top 39) 0
structure Tg (P : Program) (w : World) (K : PySem.W.Frag) (mg : Str → Option Value) : Prop where
  kinds : ∃ d p1 p2 p3 p4, mg "KINDS" = some (.ref d) ∧ KD P w K d [(Sum.inr (S wPlace), .ref p1), (Sum.inr (S wOrder), .ref p2), (Sum.inr (S wAny), .ref p3), (Sum.inr (S wLegs), .ref p4)] ∧
    (∀ H, SqT K H p1 [.int 1, .int 4]) ∧ (∀ H, SqT K H p2 [.int 2, .int 4]) ∧ (∀ H, SqT K H p3 [.int 2, .int 3]) ∧ (∀ H, SqT K H p4 [.int 2, .int 6])
  words : ∃ d, mg "POOL_WORDS" = some (.ref d) ∧ KD P w K d [(Sum.inl 0, .str (S wPool)), (Sum.inl 4, .str (S wFrom)), (Sum.inl 6, .str (S wTake)), (Sum.inl 8, .str (S wBreak)), (Sum.inl 10, .str (S wLeast)), (Sum.inl 12, .str (S wUnit)), (Sum.inl 14, .str (S wNone))]
  nones : ∃ t, mg "NONES" = some (.ref t) ∧ ∀ H, SqT K H t [.str (S wRefund), .str (S wCarry), .str (S wFewer)]
section
variable {P : Program} {w : World} {K : PySem.W.Frag} {mg : Str → Option Value} {base : Heap} {NC Cp Cc : Addr}
noncomputable def RaceAt (H : Hp) (v : V) (r : List Int) : Prop := ∃ p, v = .ref p ∧ H p = some (.lst (r.map V.int))
noncomputable def Races (H : Hp) (R : Addr) (rs : List (List Int)) : Prop := ∃ as, H R = some (.lst as) ∧ Paired (RaceAt H) as rs
theorem RaceAt.same {H H' : Hp} {v : V} {r : List Int} (h : RaceAt H v r) (s : Same H H') : RaceAt H' v r := by
  obtain ⟨p, e, q⟩ := h
  exact ⟨p, e, s _ _ q⟩
noncomputable def ownL {α : Type} (d : α) (l : List α) (kd : List Nat) (k r : Int) : List α := if kd = wLegs then (l.drop (r - 1).toNat).take k.toNat else [l.getD (r - 1).toNat d]
noncomputable def poolF (Rr : Addr) (q : MP) : List (Str × V) := [("name", .str (S q.name)), ("kind", .str (S q.kind)), ("k", .int q.k), ("races", .ref Rr), ("unit", .int q.u)]
noncomputable def PoolIn (Cp : Addr) (H : Hp) (as : List V) (v : V) (q : MP) : Prop := ∃ p dx Rr, v = .ref p ∧ H p = some (.ins Cp dx (poolF Rr q)) ∧ H Rr = some (.lst (ownL .non as q.kind q.k q.race))
noncomputable def PoolAt (Cp : Addr) (H : Hp) (v : V) (rs : List (List Int)) (q : MP) : Prop := ∃ p dx Rr, v = .ref p ∧ H p = some (.ins Cp dx (poolF Rr q)) ∧ Races H Rr (ownL [] rs q.kind q.k q.race)
noncomputable def spPoolRace (NC : Addr) : Sp := fun vs H Q E => ∃ (t kd : List Nat) (k : Int) (R : Addr) (as : List V) (rs : List (List Int)), vs = [.str (S t), .str (S kd), .int k, .ref R] ∧ OkW t ∧ H R = some (.lst as) ∧ Paired (RaceAt H) as rs ∧ 1 ≤ k ∧ k ≤ 6 ∧
  (∀ r, poolRaceM t kd k rs = some r → ∀ H' Rr, Same H H' → H Rr = none → H' Rr = some (.lst (ownL .non as kd k r)) → Q (.ref Rr) H') ∧ (poolRaceM t kd k rs = none → E (.ref NC) none H)
theorem scPoolRace : FnScope ["word", "kind", "k", "races", "race"] ["word", "kind", "k", "races"] (defScope sPoolRace) := ⟨rfl, rfl, rfl, by decide +kernel, rfl, by decide +kernel, by decide +kernel⟩
theorem t_legs : Str.ofString "legs" = S wLegs := by decide +kernel
theorem ok_poolrace (D : Def K mg "read_pool_races" sPoolRace ["word", "kind", "k", "races"]) (T : Tx mg) (G_number_within : Ok P w K mg base (CXN P w) 2 "number_within" ["word", "lowest", "highest"] (spWithin NC)) (G_demand : Ok P w K mg base (CXN P w) 1 "demand" ["holds"] (spDemand NC)) :
    Ok P w K mg base (CXN P w) 3 "read_pool_races" ["word", "kind", "k", "races"] (spPoolRace NC) := by
  refine D.okX scPoolRace (fun vs H Q E h => ?_) (fun f cdv A outer s H vs Q E hr h => ?_)
  · obtain ⟨_, _, _, _, _, _, rfl, _⟩ := h
    rfl
  · obtain ⟨t, kd, k, R, as, rs, rfl, ht, hA, hp, k1, k6, kQ, kE⟩ := h
    refine ⟨_, (pss_cons (ps_set (i := 4) scPoolRace.nd rfl (Or.inl rfl) (pe_own (E := E) G_number_within (hr.mono (by decide)) rfl (passN xr_def) (pa_cons (pv 0) (pa_cons pe_int (pa_cons (pe_callB call_len_seq (by rfl) T.b_len PySem.boot_len (pa_cons (pv 3) pa_nil)) pa_nil))))) (pss_cons (ps_if (pt_cmpR op_eq (pv 1) pe_str (nomark _)) (pss_cons (ps_expr (pe_own (E := E) G_demand (hr.mono (by decide)) rfl (passN xr_def) (pa_cons (pe_cmpR op_le (pe_op op_sub (pe_op op_add (pv 4) (pv 2)) pe_int) (pe_callB call_len_seq (by rfl) T.b_len PySem.boot_len (pa_cons (pv 3) pa_nil)) (nomark _)) pa_nil))) (pss_one (ps_ret (pe_slice sl_list (pv 3) (po_some (pe_op op_sub (pv 4) pe_int)) (po_some (pe_op op_add (pe_op op_sub (pv 4) pe_int) (pv 2))))))) pss_nil) (pss_cons (ps_expr (pe_own (E := E) G_demand (hr.mono (by decide)) rfl (passN xr_def) (pa_cons (pe_cmpR op_ge (pe_callB call_len_seq (by rfl) T.b_len PySem.boot_len (pa_cons (pe_ix ix_list (pv 3) (pe_op op_sub (pv 4) pe_int) (fun _ _ => rfl)) pa_nil)) (pv 2) (nomark _)) pa_nil))) (pss_one (ps_ret (pe_lst (pa_cons (pe_ix ix_list (pv 3) (pe_op op_sub (pv 4) pe_int) (fun _ _ => rfl)) pa_nil))))))), ?_⟩
    have hlen := Paired.len' hp
    have hz := sizeLine_is
    try dsimp only [spDemand, tSeq, tMake, cxOf_K, cxOf_P, cxOf_W, rIxT, tDIn, tDNotIn, sDPut, tAug, ipI, ipMul, tBreak, tSl, tPart, tNoPart, rSlL, rIxL, tRaise, tAnd, tOr, tM0, tM1, tIfS, tTest, tB, tChain, tCB, tCons, tNil, tC, tVar, tOp, tUn, rU, rI0, rI, rEq, rNe, tRet, tRetN, tDrop, tAsg, gName, tCall, tAndV, tOrV, tNotV, tNot, L2.start, List.map, List.replicate, List.cons_append, List.nil_append, List.getElem?_cons_zero, List.getElem?_cons_succ, List.set_cons_zero, List.set_cons_succ]
    try simp only [tSeq, tMake, cxOf_K, cxOf_P, cxOf_W, rIxT, tDIn, tDNotIn, sDPut, tAug, ipI, ipMul, tBreak, tSl, tPart, tNoPart, rSlL, rIxL, tRaise, tAnd, tOr, tM0, tM1, tIfS, tTest, tB, tChain, tCB, tCons, tNil, tC, tVar, tOp, tUn, rU, rI0, rI, rEq, rNe, sc_ii, sc_ss, sc_bb, sc_is, sc_si, tRet, tRetN, tDrop, tAsg, gName, tCall, tAndV, tOrV, tNotV, tNot, L2.start, List.map, List.replicate, List.length_cons, List.length_nil, Nat.sub_self, Nat.reduceAdd, Nat.reduceSub, List.cons_append, List.nil_append, List.append_nil, List.getElem?_cons_zero, List.getElem?_cons_succ, List.set_cons_zero, List.set_cons_succ, Option.some.injEq, V.int.injEq, V.str.injEq, V.bl.injEq, V.ref.injEq, List.cons.injEq, exists_and_left, exists_and_right, exists_eq_left, exists_eq_left', exists_eq_right, exists_eq, true_and, and_true, exists_eq_right_right, decide_eq_true_eq, Bool.not_eq_true', decide_eq_false_iff_not, Bool.and_eq_true, ite_chain, ite_chor, Int.cast_ofNat_Int, Int.natCast_add, Classical.not_not, Bool.false_eq_true, ↓reduceIte, spDemand]
    refine ⟨_, .inl (SqL.of hA), _, _, _, rfl, ht, ?_⟩
    unfold poolRaceM at kQ kE
    rw [hlen]
    cases e1 : within t 1 (rs.length : Int) with
    | none =>
      rw [e1] at kE
      exact kE rfl
    | some r =>
      rw [e1] at kQ kE
      have hn := within_some e1
      obtain ⟨j, hj⟩ : ∃ j : Nat, r - 1 = (j : Int) := ⟨(r - 1).toNat, by omega⟩
      have hjl : j < rs.length := by omega
      dsimp only at kQ kE ⊢
      simp only [t_legs, S_inj]
      refine ite2 (fun b => ?_) (fun b => ?_)
      · simp only [if_pos b] at kQ kE
        try dsimp only [tNext, spDemand, tSeq, tMake, cxOf_K, cxOf_P, cxOf_W, rIxT, tDIn, tDNotIn, sDPut, tAug, ipI, ipMul, tBreak, tSl, tPart, tNoPart, rSlL, rIxL, tRaise, tAnd, tOr, tM0, tM1, tIfS, tTest, tB, tChain, tCB, tCons, tNil, tC, tVar, tOp, tUn, rU, rI0, rI, rEq, rNe, tRet, tRetN, tDrop, tAsg, gName, tCall, tAndV, tOrV, tNotV, tNot, L2.start, List.map, List.replicate, List.cons_append, List.nil_append, List.getElem?_cons_zero, List.getElem?_cons_succ, List.set_cons_zero, List.set_cons_succ]
        try simp only [tNext, tSeq, tMake, cxOf_K, cxOf_P, cxOf_W, rIxT, tDIn, tDNotIn, sDPut, tAug, ipI, ipMul, tBreak, tSl, tPart, tNoPart, rSlL, rIxL, tRaise, tAnd, tOr, tM0, tM1, tIfS, tTest, tB, tChain, tCB, tCons, tNil, tC, tVar, tOp, tUn, rU, rI0, rI, rEq, rNe, sc_ii, sc_ss, sc_bb, sc_is, sc_si, tRet, tRetN, tDrop, tAsg, gName, tCall, tAndV, tOrV, tNotV, tNot, L2.start, List.map, List.replicate, List.length_cons, List.length_nil, Nat.sub_self, Nat.reduceAdd, Nat.reduceSub, List.cons_append, List.nil_append, List.append_nil, List.getElem?_cons_zero, List.getElem?_cons_succ, List.set_cons_zero, List.set_cons_succ, Option.some.injEq, V.int.injEq, V.str.injEq, V.bl.injEq, V.ref.injEq, List.cons.injEq, exists_and_left, exists_and_right, exists_eq_left, exists_eq_left', exists_eq_right, exists_eq, true_and, and_true, exists_eq_right_right, decide_eq_true_eq, Bool.not_eq_true', decide_eq_false_iff_not, Bool.and_eq_true, ite_chain, ite_chor, Int.cast_ofNat_Int, Int.natCast_add, Classical.not_not, Bool.false_eq_true, ↓reduceIte, spDemand]
        refine ⟨_, .inl (SqL.of hA), ?_⟩
        rw [hlen]
        refine ite2 (fun c => ?_) (fun c => kE (by rw [if_neg c]))
        have ec : cutV as (some (r - 1)) (some (r - 1 + k)) = ownL .non as kd k r := by
          have := cutV_two as j (j + k.toNat)
          rw [Nat.add_sub_cancel_left] at this
          unfold ownL
          rw [if_pos b, show (r - 1).toNat = j by omega, ← this, hj]
          congr 2
          omega
        refine ⟨_, SqL.of hA, fun p hp0 => ?_⟩
        rw [ec]
        exact kQ r (by rw [if_pos c]) _ p (Same.new hp0) hp0 upd_same
      · simp only [if_neg b] at kQ kE
        try dsimp only [tNext, spDemand, tLst, tSeq, tMake, cxOf_K, cxOf_P, cxOf_W, rIxT, tDIn, tDNotIn, sDPut, tAug, ipI, ipMul, tBreak, tSl, tPart, tNoPart, rSlL, rIxL, tRaise, tAnd, tOr, tM0, tM1, tIfS, tTest, tB, tChain, tCB, tCons, tNil, tC, tVar, tOp, tUn, rU, rI0, rI, rEq, rNe, tRet, tRetN, tDrop, tAsg, gName, tCall, tAndV, tOrV, tNotV, tNot, L2.start, List.map, List.replicate, List.cons_append, List.nil_append, List.getElem?_cons_zero, List.getElem?_cons_succ, List.set_cons_zero, List.set_cons_succ]
        try simp only [tNext, tSeq, tMake, cxOf_K, cxOf_P, cxOf_W, rIxT, tDIn, tDNotIn, sDPut, tAug, ipI, ipMul, tBreak, tSl, tPart, tNoPart, rSlL, rIxL, tRaise, tAnd, tOr, tM0, tM1, tIfS, tTest, tB, tChain, tCB, tCons, tNil, tC, tVar, tOp, tUn, rU, rI0, rI, rEq, rNe, sc_ii, sc_ss, sc_bb, sc_is, sc_si, tRet, tRetN, tDrop, tAsg, gName, tCall, tAndV, tOrV, tNotV, tNot, L2.start, List.map, List.replicate, List.length_cons, List.length_nil, Nat.sub_self, Nat.reduceAdd, Nat.reduceSub, List.cons_append, List.nil_append, List.append_nil, List.getElem?_cons_zero, List.getElem?_cons_succ, List.set_cons_zero, List.set_cons_succ, Option.some.injEq, V.int.injEq, V.str.injEq, V.bl.injEq, V.ref.injEq, List.cons.injEq, exists_and_left, exists_and_right, exists_eq_left, exists_eq_left', exists_eq_right, exists_eq, true_and, and_true, exists_eq_right_right, decide_eq_true_eq, Bool.not_eq_true', decide_eq_false_iff_not, Bool.and_eq_true, ite_chain, ite_chor, Int.cast_ofNat_Int, Int.natCast_add, Classical.not_not, Bool.false_eq_true, ↓reduceIte, spDemand, tLst]
        obtain ⟨v, hv, p, rfl, hpp⟩ := Paired.atR hp (List.getElem?_eq_getElem hjl)
        refine ⟨_, SqL.of hA, _, at_of hj hv, _, rfl, _, .inl (SqL.of hpp), ?_⟩
        rw [List.length_map]
        have e2 : rs.getD (r - 1).toNat [] = rs[j] := by
          rw [hj, Int.toNat_natCast, List.getD_eq_getElem?_getD, List.getElem?_eq_getElem hjl]
          rfl
        have e3 : ownL .non as kd k r = [V.ref p] := by
          unfold ownL
          rw [if_neg b, hj, Int.toNat_natCast, List.getD_eq_getElem?_getD, hv]
          rfl
        rw [e2] at kQ kE
        refine ite2 (fun c => ?_) (fun c => kE (by rw [if_neg c]))
        refine ⟨_, SqL.of hA, _, at_of hj hv, ?_, fun x hx => kQ r (by rw [if_pos c]) _ x (Same.new hx) hx (by rw [upd_same, e3])⟩
        show 1 ≤ _
        omega
end
end Pd
end
section
set_option Elab.async false
set_option linter.all false
set_option maxRecDepth 100000
set_option maxHeartbeats 2000000
namespace Pd
open PySem PySem.Spec PyProof.Rows L2 TL
section
variable {P : Program} {w : World} {K : PySem.W.Frag} {mg : Str → Option Value} {base : Heap} {NC Cp Cc : Addr}
theorem putF_lt {f : Str} {v : V} {n : Nat} : ∀ {fs : List (Str × V)}, fs.length < n → (putF f v fs).length < n + 1
  | [], h => by simp [putF]; omega
  | (g, x) :: r, h => by
    unfold putF
    split
    · simp at h ⊢
      omega
    · have := putF_lt (f := f) (v := v) (n := n - 1) (fs := r) (by simp at h; omega)
      simp at h ⊢
      omega
theorem putF_1 {f : Str} {v : V} : (putF f v []).length < 1000 := putF_lt (n := 999) (by decide)
theorem putF_2 {f g : Str} {v u : V} : (putF g u (putF f v [])).length < 1000 := putF_lt (n := 999) (putF_lt (n := 998) (by decide))
theorem putF_3 {f g h : Str} {v u t : V} : (putF h t (putF g u (putF f v []))).length < 1000 := putF_lt (n := 999) (putF_lt (n := 998) (putF_lt (n := 997) (by decide)))
theorem putF_4 {f g h j : Str} {v u t z : V} : (putF j z (putF h t (putF g u (putF f v [])))).length < 1000 := putF_lt (n := 999) (putF_lt (n := 998) (putF_lt (n := 997) (putF_lt (n := 996) (by decide))))
noncomputable def spPoolInit (Cp : Addr) : Sp := fun vs H Q _ => ∃ (p dx Rr : Addr) (q : MP), vs = [.ref p, .str (S q.name), .str (S q.kind), .int q.k, .ref Rr, .int q.u] ∧ H p = some (.ins Cp dx []) ∧ ∀ H', H' p = some (.ins Cp dx (poolF Rr q)) → (∀ b o, H b = some o → b ≠ p → H' b = some o) → Q .non H'
theorem scPoolInit : FnScope ["self", "name", "kind", "k", "races", "unit"] ["self", "name", "kind", "k", "races", "unit"] (defScope sPoolInit) := ⟨rfl, rfl, rfl, by decide +kernel, rfl, by decide +kernel, by decide +kernel⟩
theorem ok_poolinit {f : Addr} {fd : FuncData} (F : Fun K "__init__" "Pool.__init__" sPoolInit f fd) (C : Cls K Cp) (n1 : NoAttr K Cp "name") (n2 : NoAttr K Cp "kind") (n3 : NoAttr K Cp "k") (n4 : NoAttr K Cp "races") (n5 : NoAttr K Cp "unit") :
    FnOk P w K mg base CX0 1 f fd ["self", "name", "kind", "k", "races", "unit"] (spPoolInit Cp) := by
  refine F.ok scPoolInit (fun vs H Q E h => ?_) (fun cdv A outer s H vs Q E hr h => ?_)
  · obtain ⟨p, dx, Rr, q, rfl, _⟩ := h
    rfl
  · obtain ⟨p, dx, Rr, q, rfl, hp, k⟩ := h
    refine ⟨_, (pss_cons (ps_fld (pv 0) (pv 1) rfl) (pss_cons (ps_fld (pv 0) (pv 2) rfl) (pss_cons (ps_fld (pv 0) (pv 3) rfl) (pss_cons (ps_fld (pv 0) (pv 4) rfl) (pss_one (ps_fld (pv 0) (pv 5) rfl)))))), ?_⟩
    refine ⟨_, rfl, _, rfl, p, Cp, dx, [], rfl, hp, C, n1, (by decide), ?_⟩
    refine ⟨_, rfl, _, rfl, p, Cp, dx, _, rfl, upd_same, C, n2, putF_1, ?_⟩
    rw [upd_upd]
    refine ⟨_, rfl, _, rfl, p, Cp, dx, _, rfl, upd_same, C, n3, putF_2, ?_⟩
    rw [upd_upd]
    refine ⟨_, rfl, _, rfl, p, Cp, dx, _, rfl, upd_same, C, n4, putF_3, ?_⟩
    rw [upd_upd]
    refine ⟨_, rfl, _, rfl, p, Cp, dx, _, rfl, upd_same, C, n5, putF_4, ?_⟩
    rw [upd_upd]
    refine k _ ?_ fun b o e hb => by rw [upd_ne hb]; exact e
    rw [upd_same]
    rfl
noncomputable def Pools (Cp : Addr) (H : Hp) (L : Addr) (rv : List V) (ps : List MP) : Prop := ps.length ≤ 70000 ∧ ∃ as, H L = some (.lst as) ∧ Paired (PoolIn Cp H rv) as ps
theorem PoolIn.same {H H' : Hp} {rv : List V} {v : V} {q : MP} (h : PoolIn Cp H rv v q) (s : Same H H') : PoolIn Cp H' rv v q := by
  obtain ⟨p, dx, Rr, e, z, y⟩ := h
  exact ⟨p, dx, Rr, e, s _ _ z, s _ _ y⟩
theorem Pools.same {H H' : Hp} {L : Addr} {rv : List V} {ps : List MP} (h : Pools Cp H L rv ps) (s : Same H H') : Pools Cp H' L rv ps := by
  obtain ⟨l, as, e, z⟩ := h
  exact ⟨l, as, s _ _ e, Paired.mapP z fun _ _ y => y.same s⟩
noncomputable def KeysS (kvs : List (Key × V)) (ks : List (List Nat)) : Prop := ∀ k : List Nat, (valV kvs (Sum.inr (S k))).isSome = decide (k ∈ ks)
theorem KeysS.put {kvs : List (Key × V)} {ks : List (List Nat)} {h : List Nat} {v : V} (x : KeysS kvs ks) : KeysS (putK kvs (Sum.inr (S h)) v) (ks ++ [h]) := fun k => by
  rw [valV_put]
  by_cases e : k = h
  · subst e
    rw [if_pos rfl]
    simp
  · rw [if_neg (fun z => e (S_inj.mp (Sum.inr.inj z))), x k]
    simp [e]
noncomputable def spDiffer (NC Cp : Addr) : Sp := fun vs H Q E => ∃ (L : Addr) (rv : List V) (ps : List MP), vs = [.ref L] ∧ Pools Cp H L rv ps ∧ ∀ H', Same H H' → if (ps.map (·.name)).Nodup then Q .non H' else E (.ref NC) none H'
theorem scDiffer : FnScope ["pools", "names", "pool"] ["pools"] (defScope sDiffer) := ⟨rfl, rfl, rfl, by decide +kernel, rfl, by decide +kernel, by decide +kernel⟩
theorem nodup_take_snoc {α : Type} {l : List α} {i : Nat} {x : α} (hx : l[i]? = some x) (h : (l.take i).Nodup) : (l.take (i + 1)).Nodup ↔ x ∉ l.take i := by
  rw [take_snoc' hx, List.nodup_append]
  constructor
  · rintro ⟨_, _, z⟩ hm
    exact z x hm x (by simp) rfl
  · intro z
    refine ⟨h, by simp, fun a ha b hb e => ?_⟩
    have : b = x := by simpa using hb
    subst this
    subst e
    exact z ha
theorem nodup_of_take {α : Type} {l : List α} {i : Nat} (h : l.Nodup) : (l.take i).Nodup := h.sublist (List.take_sublist i l)
theorem ok_differ (D : Def K mg "check_names_differ" sDiffer ["pools"]) (C : Cls K Cp) (n1 : NoAttr K Cp "name") (G_demand : Ok P w K mg base (CXN P w) 1 "demand" ["holds"] (spDemand NC)) :
    Ok P w K mg base (CXN P w) 2 "check_names_differ" ["pools"] (spDiffer NC Cp) := by
  refine D.okX scDiffer (fun vs H Q E h => ?_) (fun f cdv A outer s H vs Q E hr h => ?_)
  · obtain ⟨_, _, _, rfl, _⟩ := h
    rfl
  · obtain ⟨L, rv, ps, rfl, hL, k⟩ := h
    have hu := hu_of hr
    refine ⟨_, (pss_cons (ps_set (i := 1) scDiffer.nd rfl (Or.inl rfl) pe_dnewK) (pss_one (ps_for PassesOwn.leaving rfl (pi_list (pv 0)) (pg_name (i := 2) scDiffer.nd rfl (Or.inl rfl)) (pss_cons (ps_expr (pe_own (E := E) G_demand (hr.mono (by decide)) rfl (passN xr_def) (pa_cons (pe_cmp (pc_dnotin hu (pe_fld (pv 2) rfl) (pv 1))) pa_nil))) (pss_one (ps_dput hu (pv 1) (pe_fld (pv 2) rfl) pe_bl rfl)))))), ?_⟩
    obtain ⟨hl, as, hA, hp⟩ := hL
    have hlen := Paired.len' hp
    have hz := sizeLine_is
    intro d hd
    refine ⟨_, rfl, L, rfl, ⟨_, SqL.of (Same.new hd _ _ hA)⟩, for_list (K := K) (a := L) (xs := as) (fun i σ H' => ∃ (v : Option V) (kvs : List (Key × V)), σ = [some (.ref L), some (.ref d), v] ∧ Same H H' ∧ H' d = some (.dK kvs) ∧ KeysS kvs ((ps.map (·.name)).take i) ∧ kvs.length ≤ i ∧ ((ps.map (·.name)).take i).Nodup)
      ⟨none, [], rfl, Same.new hd, upd_same, fun _ => by simp [valV], Nat.le_refl _, by simp⟩ (fun i σ H' _ ⟨_, _, _, s5, _⟩ => SqL.of (s5 _ _ hA)) ?_ ?_⟩
    · rintro i y σ H' hi ⟨v, kvs, rfl, s5, h1, K1, l1, nd⟩
      obtain ⟨q, hq, p, dx, Rr, rfl, hpp, _⟩ := Paired.at' hp hi
      have hpp := s5 _ _ hpp
      have hi2 := (List.getElem?_eq_some_iff.mp hq).1
      have hqn : (ps.map (·.name))[i]? = some q.name := by rw [List.getElem?_map, hq]; rfl
      refine ⟨_, rfl, p, Cp, dx, _, _, rfl, hpp, C, n1, rfl, _, rfl, d, _, rfl, DGet.k (k := Sum.inr (S q.name)) h1, _, rfl, ?_⟩
      rw [K1]
      refine ite2 (fun b => ?_) (fun b => ?_)
      · have b : ¬ q.name ∈ (ps.map (·.name)).take i := by simpa using b
        refine ⟨_, rfl, _, rfl, p, Cp, dx, _, _, rfl, hpp, C, n1, rfl, d, _, rfl, DPut.k (k := Sum.inr (S q.name)) h1 (by omega), _, _, rfl, s5.newer hd, upd_same, ?_, ?_, (nodup_take_snoc hqn nd).mpr b⟩
        · rw [take_snoc' hqn]
          exact K1.put
        · have := putK_len (kvs := kvs) (k := Sum.inr (S q.name)) (v := V.bl true)
          omega
      · have b : q.name ∈ (ps.map (·.name)).take i := by simpa using b
        have k1 := k H' s5
        rw [if_neg (fun z => (nodup_take_snoc hqn nd).mp (nodup_of_take z) b)] at k1
        exact k1
    · rintro σ H' ⟨v, kvs, rfl, s5, h1, K1, l1, nd⟩
      have k1 := k H' s5
      rw [hlen, ← List.length_map (f := (·.name)), List.take_length] at nd
      rw [if_pos nd] at k1
      exact k1
end
end Pd
end
section
set_option Elab.async false
set_option linter.all false
set_option maxRecDepth 100000
set_option maxHeartbeats 2000000
namespace Pd
open PySem PySem.Spec PyProof.Rows L2 TL
section
variable {P : Program} {w : World} {K : PySem.W.Frag} {mg : Str → Option Value} {base : Heap} {NC Cp Cc : Addr}
noncomputable def PW : List (Int × List Nat) := [(0, wPool), (4, wFrom), (6, wTake), (8, wBreak), (10, wLeast), (12, wUnit), (14, wNone)]
theorem fixedM_iff (ws : List (List Nat)) : fixedM ws = true ↔ ∀ p ∈ PW, ws.getD p.1.toNat [] = p.2 := by
  unfold fixedM PW
  simp only [Bool.and_eq_true, decide_eq_true_eq, List.forall_mem_cons, List.not_mem_nil, false_imp_iff, implies_true, and_true]
  exact Iff.rfl
theorem PW_lt : ∀ p ∈ PW, 0 ≤ p.1 ∧ p.1 < 16 := by decide
theorem kinds_at {p1 p2 p3 p4 : Addr} (tp1 : ∀ H, SqT K H p1 [.int 1, .int 4]) (tp2 : ∀ H, SqT K H p2 [.int 2, .int 4]) (tp3 : ∀ H, SqT K H p3 [.int 2, .int 3]) (tp4 : ∀ H, SqT K H p4 [.int 2, .int 6]) (t : List Nat) :
    (kindB t = none ∧ valV [((Sum.inr (S wPlace) : Key), V.ref p1), (Sum.inr (S wOrder), .ref p2), (Sum.inr (S wAny), .ref p3), (Sum.inr (S wLegs), .ref p4)] (Sum.inr (S t)) = none) ∨
    ∃ (lh : Int × Int) (p : Addr), kindB t = some lh ∧ valV [((Sum.inr (S wPlace) : Key), V.ref p1), (Sum.inr (S wOrder), .ref p2), (Sum.inr (S wAny), .ref p3), (Sum.inr (S wLegs), .ref p4)] (Sum.inr (S t)) = some (.ref p) ∧ ∀ H, SqT K H p [.int lh.1, .int lh.2] := by
  have ne : ∀ {u : List Nat}, t ≠ u → ¬ ((Sum.inr (S u) : Key) = Sum.inr (S t)) := fun h z => h (S_inj.mp (Sum.inr.inj z)).symm
  unfold kindB
  by_cases h1 : t = wPlace
  · rw [if_pos h1, h1]
    exact .inr ⟨_, p1, rfl, valV_pos rfl, tp1⟩
  rw [if_neg h1, valV_neg (ne h1)]
  by_cases h2 : t = wOrder
  · rw [if_pos h2, h2]
    exact .inr ⟨_, p2, rfl, valV_pos rfl, tp2⟩
  rw [if_neg h2, valV_neg (ne h2)]
  by_cases h3 : t = wAny
  · rw [if_pos h3, h3]
    exact .inr ⟨_, p3, rfl, valV_pos rfl, tp3⟩
  rw [if_neg h3, valV_neg (ne h3)]
  by_cases h4 : t = wLegs
  · rw [if_pos h4, h4]
    exact .inr ⟨_, p4, rfl, valV_pos rfl, tp4⟩
  rw [if_neg h4, valV_neg (ne h4)]
  exact .inl ⟨rfl, rfl⟩
theorem kindB_in {t : List Nat} {lh : Int × Int} (hk : kindB t = some lh) : 1 ≤ lh.1 ∧ lh.2 ≤ 6 := by
  unfold kindB at hk
  split at hk
  · cases hk; decide
  split at hk
  · cases hk; decide
  split at hk
  · cases hk; decide
  split at hk
  · cases hk; decide
  cases hk
noncomputable def poolT (ws : List (List Nat)) (k race : Int) : Option MP := match within (ws.getD 7 []) 0 400 with
        | none => none
        | some _ => match within (ws.getD 9 []) 1 1000 with
          | none => none
          | some _ => match within (ws.getD 13 []) 1 10000 with
            | none => none
            | some u => match within (ws.getD 11 []) 0 (2 * u) with
              | none => none
              | some l => if ¬ (l = 0 ∨ l ≥ u) then none else if ¬ (ws.getD 15 [] = wRefund ∨ ws.getD 15 [] = wCarry ∨ ws.getD 15 [] = wFewer) then none else
                if ¬ (ws.getD 15 [] ≠ wFewer ∨ ws.getD 2 [] ≠ wPlace) then none else some ⟨ws.getD 1 [], ws.getD 2 [], k, race, u⟩
noncomputable def spPool (NC Cp : Addr) : Sp := fun vs H Q E => ∃ (a R : Addr) (ws : List (List Nat)) (rv : List V) (rs : List (List Int)), vs = [.ref a, .ref R] ∧ Words H a ws ∧ H R = some (.lst rv) ∧ Paired (RaceAt H) rv rs ∧
  (∀ q, poolM ws rs = some q → ∀ H' p dx Rr, Same H H' → H' p = some (.ins Cp dx (poolF Rr q)) → H' Rr = some (.lst (ownL .non rv q.kind q.k q.race)) → H p = none → H Rr = none → Q (.ref p) H') ∧ (poolM ws rs = none → ∀ H', Same H H' → E (.ref NC) none H')
theorem scPool : FnScope ["words", "races", "at", "kind", "k", "own_races", "unit", "least"] ["words", "races"] (defScope sPool) := ⟨rfl, rfl, rfl, by decide +kernel, rfl, by decide +kernel, by decide +kernel⟩
theorem ok_pool (D : Def K mg "read_pool" sPool ["words", "races"]) (T : Tx mg) (TG : Tg P w K mg) (G_is_name : Ok P w K mg base CX0 2 "is_name" ["word"] spName) (G_number_within : Ok P w K mg base (CXN P w) 2 "number_within" ["word", "lowest", "highest"] (spWithin NC))
    (G_demand : Ok P w K mg base (CXN P w) 1 "demand" ["holds"] (spDemand NC)) (G_read_pool_races : Ok P w K mg base (CXN P w) 3 "read_pool_races" ["word", "kind", "k", "races"] (spPoolRace NC)) (G_Pool : CL P w K mg base "Pool" Cp ["self", "name", "kind", "k", "races", "unit"] (spPoolInit Cp) ["name", "kind", "k", "races", "unit"]) :
    Ok P w K mg base (CXN P w) 4 "read_pool" ["words", "races"] (spPool NC Cp) := by
  refine D.okX scPool (fun vs H Q E h => ?_) (fun f cdv A outer s H vs Q E hr h => ?_)
  · obtain ⟨_, _, _, _, _, rfl, _⟩ := h
    rfl
  · obtain ⟨a, R, ws, rv, rs, rfl, hw, hA, hR, kQ, kE⟩ := h
    have hu := hu_of hr
    obtain ⟨dk, p1, p2, p3, p4, g_KINDS, kdk, tp1, tp2, tp3, tp4⟩ := TG.kinds
    obtain ⟨dw, g_POOL_WORDS, kdw⟩ := TG.words
    obtain ⟨tn, g_NONES, stn⟩ := TG.nones
    have gat : ws.length = 16 → ∀ i : Nat, i < 16 → ws[i]? = some (ws.getD i []) := fun b1 i hi => by
      rw [List.getD_eq_getElem?_getD, List.getElem?_eq_getElem (by omega)]
      rfl
    obtain ⟨tT, hT, kT⟩ : ∃ tT : TS, PSs (cxOf (CXN P w) P w K mg base ["words", "races", "at", "kind", "k", "own_races", "unit", "least"] "read_pool" (defScope sPool) f cdv A outer s H E) ((defBody sPool).drop 7) tT ∧
        ∀ (v : Option V) (k race : Int) (H2 : Hp) (Rr : Addr), ws.length = 16 → Same H H2 → H Rr = none → H2 Rr = some (.lst (ownL .non rv (ws.getD 2 []) k race)) → poolM ws rs = poolT ws k race → tT { nx := fun _ H' => Q .non H', rt := Q } [some (.ref a), some (.ref R), v, some (.str (S (ws.getD 2 []))), some (.int k), some (.ref Rr), none, none] H2 := by
      refine ⟨_, (pss_cons (ps_expr (pe_own (E := E) G_number_within (hr.mono (by decide)) rfl (passN xr_def) (pa_cons (pe_ix ix_list (pv 0) pe_int (fun _ _ => rfl)) (pa_cons pe_int (pa_cons (pe_gint T.g_MOST_TAKE rfl) pa_nil))))) (pss_cons (ps_expr (pe_own (E := E) G_number_within (hr.mono (by decide)) rfl (passN xr_def) (pa_cons (pe_ix ix_list (pv 0) pe_int (fun _ _ => rfl)) (pa_cons pe_int (pa_cons (pe_gint T.g_MOST_BREAK rfl) pa_nil))))) (pss_cons (ps_set (i := 6) scPool.nd rfl (Or.inl rfl) (pe_own (E := E) G_number_within (hr.mono (by decide)) rfl (passN xr_def) (pa_cons (pe_ix ix_list (pv 0) pe_int (fun _ _ => rfl)) (pa_cons pe_int (pa_cons (pe_gint T.g_MOST_UNIT rfl) pa_nil))))) (pss_cons (ps_set (i := 7) scPool.nd rfl (Or.inl rfl) (pe_own (E := E) G_number_within (hr.mono (by decide)) rfl (passN xr_def) (pa_cons (pe_ix ix_list (pv 0) pe_int (fun _ _ => rfl)) (pa_cons pe_int (pa_cons (pe_op op_mul pe_int (pv 6)) pa_nil))))) (pss_cons (ps_expr (pe_own (E := E) G_demand (hr.mono (by decide)) rfl (passN xr_def) (pa_cons (pe_or (pe_cmpR op_eq (pv 7) pe_int (nomark _)) (pe_one (pe_cmpR op_ge (pv 7) (pv 6) (nomark _)))) pa_nil))) (pss_cons (ps_expr (pe_own (E := E) G_demand (hr.mono (by decide)) rfl (passN xr_def) (pa_cons (pe_cmpR op_in_seq (pe_ix ix_list (pv 0) pe_int (fun _ _ => rfl)) (pe_gref g_NONES rfl) rfl) pa_nil))) (pss_cons (ps_expr (pe_own (E := E) G_demand (hr.mono (by decide)) rfl (passN xr_def) (pa_cons (pe_or (pe_cmpR op_ne (pe_ix ix_list (pv 0) pe_int (fun _ _ => rfl)) pe_str (nomark _)) (pe_one (pe_cmpR op_ne (pv 3) pe_str (nomark _)))) pa_nil))) (pss_one (ps_ret (pe_mk G_Pool (hr.mono (by decide)) rfl (pa_cons (pe_ix ix_list (pv 0) pe_int (fun _ _ => rfl)) (pa_cons (pv 3) (pa_cons (pv 4) (pa_cons (pv 5) (pa_cons (pv 6) pa_nil))))))))))))))), fun v k race H2 Rr b1 sm2 nR hRr pm => ?_⟩
      replace gat := gat b1
      unfold poolT at pm
      try dsimp only [tSeq, tMake, cxOf_K, cxOf_P, cxOf_W, rIxT, tDIn, tDNotIn, sDPut, tAug, ipI, ipMul, tBreak, tSl, tPart, tNoPart, rSlL, rIxL, tRaise, tAnd, tOr, tM0, tM1, tIfS, tTest, tB, tChain, tCB, tCons, tNil, tC, tVar, tOp, tUn, rU, rI0, rI, rEq, rNe, tRet, tRetN, tDrop, tAsg, gName, tCall, tAndV, tOrV, tNotV, tNot, L2.start, List.map, List.replicate, List.cons_append, List.nil_append, List.getElem?_cons_zero, List.getElem?_cons_succ, List.set_cons_zero, List.set_cons_succ, spDemand]
      try dsimp only [spDemand, tSeq, tMake, cxOf_K, cxOf_P, cxOf_W, rIxT, tDIn, tDNotIn, sDPut, tAug, ipI, ipMul, tBreak, tSl, tPart, tNoPart, rSlL, rIxL, tRaise, tAnd, tOr, tM0, tM1, tIfS, tTest, tB, tChain, tCB, tCons, tNil, tC, tVar, tOp, tUn, rU, rI0, rI, rEq, rNe, tRet, tRetN, tDrop, tAsg, gName, tCall, tAndV, tOrV, tNotV, tNot, L2.start, List.map, List.replicate, List.cons_append, List.nil_append, List.getElem?_cons_zero, List.getElem?_cons_succ, List.set_cons_zero, List.set_cons_succ]
      try simp only [tSeq, tMake, cxOf_K, cxOf_P, cxOf_W, rIxT, tDIn, tDNotIn, sDPut, tAug, ipI, ipMul, tBreak, tSl, tPart, tNoPart, rSlL, rIxL, tRaise, tAnd, tOr, tM0, tM1, tIfS, tTest, tB, tChain, tCB, tCons, tNil, tC, tVar, tOp, tUn, rU, rI0, rI, rEq, rNe, sc_ii, sc_ss, sc_bb, sc_is, sc_si, tRet, tRetN, tDrop, tAsg, gName, tCall, tAndV, tOrV, tNotV, tNot, L2.start, List.map, List.replicate, List.length_cons, List.length_nil, Nat.sub_self, Nat.reduceAdd, Nat.reduceSub, List.cons_append, List.nil_append, List.append_nil, List.getElem?_cons_zero, List.getElem?_cons_succ, List.set_cons_zero, List.set_cons_succ, Option.some.injEq, V.int.injEq, V.str.injEq, V.bl.injEq, V.ref.injEq, List.cons.injEq, exists_and_left, exists_and_right, exists_eq_left, exists_eq_left', exists_eq_right, exists_eq, true_and, and_true, exists_eq_right_right, decide_eq_true_eq, Bool.not_eq_true', decide_eq_false_iff_not, Bool.and_eq_true, ite_chain, ite_chor, Int.cast_ofNat_Int, Int.natCast_add, Classical.not_not, Bool.false_eq_true, ↓reduceIte, spDemand]
      have hw2 := hw.same sm2
      have kE2 : poolM ws rs = none → E (.ref NC) none H2 := fun z => kE z H2 sm2
      have q7 := hw2.at (gat 7 (by decide))
      refine ⟨_, SqL.of hw2.1, _, q7.1, _, _, _, rfl, q7.2, ?_⟩
      cases e7 : within (ws.getD 7 []) 0 400 with
      | none => exact kE2 (by rw [pm, e7])
      | some tk =>
      rw [e7] at pm
      dsimp only at pm ⊢
      have q9 := hw2.at (gat 9 (by decide))
      refine ⟨_, SqL.of hw2.1, _, q9.1, _, _, _, rfl, q9.2, ?_⟩
      cases e9 : within (ws.getD 9 []) 1 1000 with
      | none => exact kE2 (by rw [pm, e9])
      | some bk =>
      rw [e9] at pm
      dsimp only at pm ⊢
      have q13 := hw2.at (gat 13 (by decide))
      refine ⟨_, SqL.of hw2.1, _, q13.1, _, _, _, rfl, q13.2, ?_⟩
      cases e13 : within (ws.getD 13 []) 1 10000 with
      | none => exact kE2 (by rw [pm, e13])
      | some u =>
      rw [e13] at pm
      dsimp only at pm ⊢
      have hun := within_some e13
      try dsimp only [spDemand, tSeq, tMake, cxOf_K, cxOf_P, cxOf_W, rIxT, tDIn, tDNotIn, sDPut, tAug, ipI, ipMul, tBreak, tSl, tPart, tNoPart, rSlL, rIxL, tRaise, tAnd, tOr, tM0, tM1, tIfS, tTest, tB, tChain, tCB, tCons, tNil, tC, tVar, tOp, tUn, rU, rI0, rI, rEq, rNe, tRet, tRetN, tDrop, tAsg, gName, tCall, tAndV, tOrV, tNotV, tNot, L2.start, List.map, List.replicate, List.cons_append, List.nil_append, List.getElem?_cons_zero, List.getElem?_cons_succ, List.set_cons_zero, List.set_cons_succ]
      try simp only [tSeq, tMake, cxOf_K, cxOf_P, cxOf_W, rIxT, tDIn, tDNotIn, sDPut, tAug, ipI, ipMul, tBreak, tSl, tPart, tNoPart, rSlL, rIxL, tRaise, tAnd, tOr, tM0, tM1, tIfS, tTest, tB, tChain, tCB, tCons, tNil, tC, tVar, tOp, tUn, rU, rI0, rI, rEq, rNe, sc_ii, sc_ss, sc_bb, sc_is, sc_si, tRet, tRetN, tDrop, tAsg, gName, tCall, tAndV, tOrV, tNotV, tNot, L2.start, List.map, List.replicate, List.length_cons, List.length_nil, Nat.sub_self, Nat.reduceAdd, Nat.reduceSub, List.cons_append, List.nil_append, List.append_nil, List.getElem?_cons_zero, List.getElem?_cons_succ, List.set_cons_zero, List.set_cons_succ, Option.some.injEq, V.int.injEq, V.str.injEq, V.bl.injEq, V.ref.injEq, List.cons.injEq, exists_and_left, exists_and_right, exists_eq_left, exists_eq_left', exists_eq_right, exists_eq, true_and, and_true, exists_eq_right_right, decide_eq_true_eq, Bool.not_eq_true', decide_eq_false_iff_not, Bool.and_eq_true, ite_chain, ite_chor, Int.cast_ofNat_Int, Int.natCast_add, Classical.not_not, Bool.false_eq_true, ↓reduceIte, spDemand]
      have q11 := hw2.at (gat 11 (by decide))
      refine ⟨_, SqL.of hw2.1, _, q11.1, ?_⟩
      refine ⟨.inl (by decide), _, _, _, rfl, q11.2, ?_⟩
      cases e11 : within (ws.getD 11 []) 0 (2 * u) with
      | none => exact kE2 (by rw [pm, e11])
      | some l =>
      rw [e11] at pm
      dsimp only at pm ⊢
      try dsimp only [spDemand, rIn, tSeq, tMake, cxOf_K, cxOf_P, cxOf_W, rIxT, tDIn, tDNotIn, sDPut, tAug, ipI, ipMul, tBreak, tSl, tPart, tNoPart, rSlL, rIxL, tRaise, tAnd, tOr, tM0, tM1, tIfS, tTest, tB, tChain, tCB, tCons, tNil, tC, tVar, tOp, tUn, rU, rI0, rI, rEq, rNe, tRet, tRetN, tDrop, tAsg, gName, tCall, tAndV, tOrV, tNotV, tNot, L2.start, List.map, List.replicate, List.cons_append, List.nil_append, List.getElem?_cons_zero, List.getElem?_cons_succ, List.set_cons_zero, List.set_cons_succ]
      try simp only [tSeq, tMake, cxOf_K, cxOf_P, cxOf_W, rIxT, tDIn, tDNotIn, sDPut, tAug, ipI, ipMul, tBreak, tSl, tPart, tNoPart, rSlL, rIxL, tRaise, tAnd, tOr, tM0, tM1, tIfS, tTest, tB, tChain, tCB, tCons, tNil, tC, tVar, tOp, tUn, rU, rI0, rI, rEq, rNe, sc_ii, sc_ss, sc_bb, sc_is, sc_si, tRet, tRetN, tDrop, tAsg, gName, tCall, tAndV, tOrV, tNotV, tNot, L2.start, List.map, List.replicate, List.length_cons, List.length_nil, Nat.sub_self, Nat.reduceAdd, Nat.reduceSub, List.cons_append, List.nil_append, List.append_nil, List.getElem?_cons_zero, List.getElem?_cons_succ, List.set_cons_zero, List.set_cons_succ, Option.some.injEq, V.int.injEq, V.str.injEq, V.bl.injEq, V.ref.injEq, List.cons.injEq, exists_and_left, exists_and_right, exists_eq_left, exists_eq_left', exists_eq_right, exists_eq, true_and, and_true, exists_eq_right_right, decide_eq_true_eq, Bool.not_eq_true', decide_eq_false_iff_not, Bool.and_eq_true, ite_chain, ite_chor, Int.cast_ofNat_Int, Int.natCast_add, Classical.not_not, Bool.false_eq_true, ↓reduceIte, spDemand, rIn]
      have q15 := hw2.at (gat 15 (by decide))
      refine ite2 (fun c1 => ?_) (fun c1 => kE2 (by rw [pm, if_pos c1]))
      rw [if_neg (Classical.not_not.mpr c1)] at pm
      refine ⟨_, SqL.of hw2.1, _, q15.1, _, .inr (stn H2), rfl, rfl, ?_⟩
      have eN : inV (.str (S (ws.getD 15 []))) [.str (S wRefund), .str (S wCarry), .str (S wFewer)] = decide (ws.getD 15 [] = wRefund ∨ ws.getD 15 [] = wCarry ∨ ws.getD 15 [] = wFewer) := by
        simp only [inV, List.any_cons, List.any_nil, eqV_ss, Bool.or_false]
        rw [Bool.eq_iff_iff]
        simp only [Bool.or_eq_true, beq_iff_eq, S_inj, decide_eq_true_eq]
        exact or_congr eq_comm (or_congr eq_comm eq_comm)
      rw [eN]
      simp only [decide_eq_true_eq]
      refine ite2 (fun c2 => ?_) (fun c2 => kE2 (by rw [pm, if_pos c2]))
      rw [if_neg (Classical.not_not.mpr c2)] at pm
      refine ⟨_, SqL.of hw2.1, _, q15.1, rfl, ?_⟩
      have eF : Str.ofString "fewer" = S wFewer := by decide +kernel
      have eP : Str.ofString "place" = S wPlace := by decide +kernel
      simp only [eF, eP, V.str.injEq, S_inj, ite_chor]
      refine ite2 (fun c3 => ?_) (fun c3 => kE2 (by rw [pm, if_pos c3]))
      rw [if_neg (Classical.not_not.mpr c3)] at pm
      have q1' := hw2.at (gat 1 (by decide))
      try dsimp only [tSeq, tMake, cxOf_K, cxOf_P, cxOf_W, rIxT, tDIn, tDNotIn, sDPut, tAug, ipI, ipMul, tBreak, tSl, tPart, tNoPart, rSlL, rIxL, tRaise, tAnd, tOr, tM0, tM1, tIfS, tTest, tB, tChain, tCB, tCons, tNil, tC, tVar, tOp, tUn, rU, rI0, rI, rEq, rNe, tRet, tRetN, tDrop, tAsg, gName, tCall, tAndV, tOrV, tNotV, tNot, L2.start, List.map, List.replicate, List.cons_append, List.nil_append, List.getElem?_cons_zero, List.getElem?_cons_succ, List.set_cons_zero, List.set_cons_succ]
      try simp only [tMake, tSeq, tMake, cxOf_K, cxOf_P, cxOf_W, rIxT, tDIn, tDNotIn, sDPut, tAug, ipI, ipMul, tBreak, tSl, tPart, tNoPart, rSlL, rIxL, tRaise, tAnd, tOr, tM0, tM1, tIfS, tTest, tB, tChain, tCB, tCons, tNil, tC, tVar, tOp, tUn, rU, rI0, rI, rEq, rNe, sc_ii, sc_ss, sc_bb, sc_is, sc_si, tRet, tRetN, tDrop, tAsg, gName, tCall, tAndV, tOrV, tNotV, tNot, L2.start, List.map, List.replicate, List.length_cons, List.length_nil, Nat.sub_self, Nat.reduceAdd, Nat.reduceSub, List.cons_append, List.nil_append, List.append_nil, List.getElem?_cons_zero, List.getElem?_cons_succ, List.set_cons_zero, List.set_cons_succ, Option.some.injEq, V.int.injEq, V.str.injEq, V.bl.injEq, V.ref.injEq, List.cons.injEq, exists_and_left, exists_and_right, exists_eq_left, exists_eq_left', exists_eq_right, exists_eq, true_and, and_true, exists_eq_right_right, decide_eq_true_eq, Bool.not_eq_true', decide_eq_false_iff_not, Bool.and_eq_true, ite_chain, ite_chor, Int.cast_ofNat_Int, Int.natCast_add, Classical.not_not, Bool.false_eq_true, ↓reduceIte]
      refine ⟨_, SqL.of hw2.1, _, q1'.1, fun x dx nx ndx nex => ?_⟩
      refine ⟨x, dx, Rr, ⟨_, _, _, race, _⟩, rfl, upd_same, fun H3 h3' k2 => ⟨rfl, ?_⟩⟩
      have s3 : Same H2 H3 := Same.made nx ndx k2
      exact kQ _ pm H3 x dx Rr (sm2.trans s3) h3' (s3 _ _ hRr) (sm2.free nx) nR
    refine ⟨_, (pss_cons (ps_expr (pe_own (E := E) G_demand (hr.mono (by decide)) rfl (passN xr_def) (pa_cons (pe_cmpR op_eq (pe_callB call_len_seq (by rfl) T.b_len PySem.boot_len (pa_cons (pv 0) pa_nil)) (pe_gint T.g_POOL_LENGTH rfl) (nomark _)) pa_nil))) (pss_cons (ps_for PassesOwn.leaving rfl (pi_keysD (pe_gref g_POOL_WORDS rfl)) (pg_name (i := 2) scPool.nd rfl (Or.inl rfl)) (pss_one (ps_expr (pe_own (E := E) G_demand (hr.mono (by decide)) rfl (passN xr_def) (pa_cons (pe_cmpR op_eq (pe_ix ix_list (pv 0) (pv 2) (fun _ _ => rfl)) (pe_kget (pe_gref g_POOL_WORDS rfl) (pv 2) (fun _ _ => rfl)) (nomark _)) pa_nil))))) (pss_cons (ps_expr (pe_own (E := E) G_demand (hr.mono (by decide)) rfl (passN xr_def) (pa_cons (pe_own G_is_name (hr.mono (by decide)) rfl pass0 (pa_cons (pe_ix ix_list (pv 0) pe_int (fun _ _ => rfl)) pa_nil)) pa_nil))) (pss_cons (ps_set (i := 3) scPool.nd rfl (Or.inl rfl) (pe_ix ix_list (pv 0) pe_int (fun _ _ => rfl))) (pss_cons (ps_expr (pe_own (E := E) G_demand (hr.mono (by decide)) rfl (passN xr_def) (pa_cons (pe_cmp (pc_kin (pv 3) (pe_gref g_KINDS rfl))) pa_nil))) (pss_cons (ps_set (i := 4) scPool.nd rfl (Or.inl rfl) (pe_own (E := E) G_number_within (hr.mono (by decide)) rfl (passN xr_def) (pa_cons (pe_ix ix_list (pv 0) pe_int (fun _ _ => rfl)) (pa_cons (pe_ix ix_tup (pe_kget (pe_gref g_KINDS rfl) (pv 3) (fun _ _ => rfl)) pe_int (fun _ _ => rfl)) (pa_cons (pe_ix ix_tup (pe_kget (pe_gref g_KINDS rfl) (pv 3) (fun _ _ => rfl)) pe_int (fun _ _ => rfl)) pa_nil))))) (pss_cons (ps_set (i := 5) scPool.nd rfl (Or.inl rfl) (pe_own (E := E) G_read_pool_races (hr.mono (by decide)) rfl (passN xr_def) (pa_cons (pe_ix ix_list (pv 0) pe_int (fun _ _ => rfl)) (pa_cons (pv 3) (pa_cons (pv 4) (pa_cons (pv 1) pa_nil)))))) hT))))))), ?_⟩
    have kE0 : poolM ws rs = none → E (.ref NC) none H := fun z => kE z H fun _ _ h => h
    try dsimp only [spDemand, tSeq, tMake, cxOf_K, cxOf_P, cxOf_W, rIxT, tDIn, tDNotIn, sDPut, tAug, ipI, ipMul, tBreak, tSl, tPart, tNoPart, rSlL, rIxL, tRaise, tAnd, tOr, tM0, tM1, tIfS, tTest, tB, tChain, tCB, tCons, tNil, tC, tVar, tOp, tUn, rU, rI0, rI, rEq, rNe, tRet, tRetN, tDrop, tAsg, gName, tCall, tAndV, tOrV, tNotV, tNot, L2.start, List.map, List.replicate, List.cons_append, List.nil_append, List.getElem?_cons_zero, List.getElem?_cons_succ, List.set_cons_zero, List.set_cons_succ]
    try simp only [tSeq, tMake, cxOf_K, cxOf_P, cxOf_W, rIxT, tDIn, tDNotIn, sDPut, tAug, ipI, ipMul, tBreak, tSl, tPart, tNoPart, rSlL, rIxL, tRaise, tAnd, tOr, tM0, tM1, tIfS, tTest, tB, tChain, tCB, tCons, tNil, tC, tVar, tOp, tUn, rU, rI0, rI, rEq, rNe, sc_ii, sc_ss, sc_bb, sc_is, sc_si, tRet, tRetN, tDrop, tAsg, gName, tCall, tAndV, tOrV, tNotV, tNot, L2.start, List.map, List.replicate, List.length_cons, List.length_nil, Nat.sub_self, Nat.reduceAdd, Nat.reduceSub, List.cons_append, List.nil_append, List.append_nil, List.getElem?_cons_zero, List.getElem?_cons_succ, List.set_cons_zero, List.set_cons_succ, Option.some.injEq, V.int.injEq, V.str.injEq, V.bl.injEq, V.ref.injEq, List.cons.injEq, exists_and_left, exists_and_right, exists_eq_left, exists_eq_left', exists_eq_right, exists_eq, true_and, and_true, exists_eq_right_right, decide_eq_true_eq, Bool.not_eq_true', decide_eq_false_iff_not, Bool.and_eq_true, ite_chain, ite_chor, Int.cast_ofNat_Int, Int.natCast_add, Classical.not_not, Bool.false_eq_true, ↓reduceIte, spDemand]
    refine ⟨_, .inl (SqL.of hw.1), ?_⟩
    rw [List.length_map]
    refine ite2 (fun b1 => ?_) (fun b1 => kE0 (by unfold poolM; rw [if_pos (by omega)]))
    have b1 : ws.length = 16 := by omega
    have gat : ∀ i : Nat, i < 16 → ws[i]? = some (ws.getD i []) := fun i hi => by
      rw [List.getD_eq_getElem?_getD, List.getElem?_eq_getElem (by omega)]
      rfl
    refine ⟨dw, _, rfl, kdw, for_keysD (fun i σ H' => ∃ v : Option V, σ = [some (.ref a), some (.ref R), v, none, none, none, none, none] ∧ H' = H ∧ ∀ p ∈ PW.take i, ws.getD p.1.toNat [] = p.2) ⟨none, rfl, rfl, by simp⟩ ?_ ?_⟩
    · rintro i k v σ H' hk ⟨v2, rfl, e, hI⟩
      subst e
      obtain ⟨p, hp, rfl, rfl⟩ : ∃ p, PW[i]? = some p ∧ k = Sum.inl p.1 ∧ v = .str (S p.2) := by
        have hk : (PW.map fun p => ((Sum.inl p.1 : Key), V.str (S p.2)))[i]? = some (k, v) := hk
        rw [List.getElem?_map] at hk
        cases q : PW[i]? with
        | none => rw [q] at hk; cases hk
        | some p =>
          rw [q] at hk
          cases hk
          exact ⟨p, rfl, rfl, rfl⟩
      have hpm := List.mem_of_getElem? hp
      have hlt := PW_lt p hpm
      have g := gat p.1.toNat (by omega)
      have q := hw.atZ (z := p.1) (by omega) g
      have hv : valV (PW.map fun p => ((Sum.inl p.1 : Key), V.str (S p.2))) (Sum.inl p.1) = some (.str (S p.2)) := by
        have : ∀ p ∈ PW, valV (PW.map fun p => ((Sum.inl p.1 : Key), V.str (S p.2))) (Sum.inl p.1) = some (.str (S p.2)) := by decide +kernel
        exact this p hpm
      refine ⟨_, rfl, _, rfl, a, _, p.1, _, rfl, rfl, SqL.of hw.1, q.1, _, rfl, dw, _, Sum.inl p.1, _, rfl, rfl, kdw, hv, rfl, _, rfl, ?_⟩
      simp only [V.str.injEq, S_inj]
      refine ite2 (fun b => ?_) (fun b => ?_)
      · have b : ws.getD p.1.toNat [] = p.2 := by simpa using b
        refine ⟨_, rfl, trivial, fun x hx => ?_⟩
        rw [take_snoc' hp] at hx
        rcases List.mem_append.mp hx with z | z
        · exact hI x z
        · have e : x = p := by simpa using z
          subst e
          exact b
      · have b : ¬ ws.getD p.1.toNat [] = p.2 := by simpa using b
        refine kE0 ?_
        unfold poolM
        rw [if_neg (by omega), if_pos]
        cases z : fixedM ws with
        | false => rfl
        | true => exact absurd ((fixedM_iff ws).mp z p hpm) b
    · rintro σ H' ⟨v2, rfl, e, hI⟩
      subst e
      have hF : fixedM ws = true := (fixedM_iff ws).mpr hI
      have pm : poolM ws rs = poolM ws rs := rfl
      conv at pm => rhs; unfold poolM
      rw [if_neg (by omega), if_neg (by rw [hF]; decide)] at pm
      clear hI
      try dsimp only [spDemand, tSeq, tMake, cxOf_K, cxOf_P, cxOf_W, rIxT, tDIn, tDNotIn, sDPut, tAug, ipI, ipMul, tBreak, tSl, tPart, tNoPart, rSlL, rIxL, tRaise, tAnd, tOr, tM0, tM1, tIfS, tTest, tB, tChain, tCB, tCons, tNil, tC, tVar, tOp, tUn, rU, rI0, rI, rEq, rNe, tRet, tRetN, tDrop, tAsg, gName, tCall, tAndV, tOrV, tNotV, tNot, L2.start, List.map, List.replicate, List.cons_append, List.nil_append, List.getElem?_cons_zero, List.getElem?_cons_succ, List.set_cons_zero, List.set_cons_succ]
      try simp only [tSeq, tMake, cxOf_K, cxOf_P, cxOf_W, rIxT, tDIn, tDNotIn, sDPut, tAug, ipI, ipMul, tBreak, tSl, tPart, tNoPart, rSlL, rIxL, tRaise, tAnd, tOr, tM0, tM1, tIfS, tTest, tB, tChain, tCB, tCons, tNil, tC, tVar, tOp, tUn, rU, rI0, rI, rEq, rNe, sc_ii, sc_ss, sc_bb, sc_is, sc_si, tRet, tRetN, tDrop, tAsg, gName, tCall, tAndV, tOrV, tNotV, tNot, L2.start, List.map, List.replicate, List.length_cons, List.length_nil, Nat.sub_self, Nat.reduceAdd, Nat.reduceSub, List.cons_append, List.nil_append, List.append_nil, List.getElem?_cons_zero, List.getElem?_cons_succ, List.set_cons_zero, List.set_cons_succ, Option.some.injEq, V.int.injEq, V.str.injEq, V.bl.injEq, V.ref.injEq, List.cons.injEq, exists_and_left, exists_and_right, exists_eq_left, exists_eq_left', exists_eq_right, exists_eq, true_and, and_true, exists_eq_right_right, decide_eq_true_eq, Bool.not_eq_true', decide_eq_false_iff_not, Bool.and_eq_true, ite_chain, ite_chor, Int.cast_ofNat_Int, Int.natCast_add, Classical.not_not, Bool.false_eq_true, ↓reduceIte, spDemand]
      have q1 := hw.at (gat 1 (by decide))
      refine ⟨_, SqL.of hw.1, _, q1.1, _, rfl, q1.2, fun H1 sm => ⟨_, rfl, ?_⟩⟩
      have hw1 := hw.same sm
      have hA1 := sm _ _ hA
      have hR1 : Paired (RaceAt H1) rv rs := Paired.mapP hR fun _ _ z => z.same sm
      have kE1 : poolM ws rs = none → E (.ref NC) none H1 := fun z => kE z H1 sm
      refine ite2 (fun b2 => ?_) (fun b2 => kE1 (by rw [pm, if_pos (by simpa using b2)]))
      rw [if_neg (by rw [b2]; decide)] at pm
      have q2 := hw1.at (gat 2 (by decide))
      refine ⟨_, SqL.of hw1.1, _, q2.1, _, rfl, dk, _, Sum.inr (S (ws.getD 2 [])), rfl, rfl, kdk, _, rfl, ?_⟩
      rcases kinds_at tp1 tp2 tp3 tp4 (ws.getD 2 []) with ⟨ek, ev⟩ | ⟨lh, pk, ek, ev, tk⟩
      · rw [ev]
        exact kE1 (by rw [pm, ek])
      rw [ek] at pm
      dsimp only at pm
      rw [ev]
      have q3 := hw1.at (gat 3 (by decide))
      refine ⟨_, SqL.of hw1.1, _, q3.1, ?_⟩
      refine ⟨_, rfl, dk, _, Sum.inr (S (ws.getD 2 [])), _, rfl, rfl, kdk, ev, ?_⟩
      refine ⟨pk, rfl, _, tk H1, _, atI_nat (j := 0) rfl, ?_⟩
      refine ⟨_, rfl, dk, _, Sum.inr (S (ws.getD 2 [])), _, rfl, rfl, kdk, ev, pk, rfl, _, tk H1, _, atI_nat (j := 1) rfl, _, _, _, rfl, q3.2, ?_⟩
      cases e3 : within (ws.getD 3 []) lh.1 lh.2 with
      | none => exact kE1 (by rw [pm, e3])
      | some k =>
      rw [e3] at pm
      dsimp only at pm ⊢
      have q5 := hw1.at (gat 5 (by decide))
      have h3 := within_some e3
      have hk16 : 1 ≤ lh.1 ∧ lh.2 ≤ 6 := kindB_in ek
      refine ⟨_, SqL.of hw1.1, _, q5.1, _, _, _, _, rv, rs, rfl, q5.2, hA1, hR1, by omega, by omega, fun race e5 H2 Rr s2 nR hRr => ?_, fun e5 => kE1 (by rw [pm, e5])⟩
      rw [e5] at pm
      dsimp only at pm
      exact kT _ k race H2 Rr b1 (sm.trans s2) (sm.free nR) hRr pm
end
end Pd
end
section
set_option Elab.async false
set_option linter.all false
set_option maxRecDepth 100000
set_option maxHeartbeats 2000000
namespace Pd
open PySem PySem.Spec PyProof.Rows L2 TL
noncomputable abbrev sCard : Stmt := top 42
theorem Paired.drop' {α β : Type} {F : α → β → Prop} : ∀ {l : List α} {m : List β} (n : Nat), Paired F l m → Paired F (l.drop n) (m.drop n)
  | _, _, 0, h => h
  | _, _, _ + 1, .nil => .nil
  | _, _, n + 1, .cons _ t => Paired.drop' n t
theorem Paired.take' {α β : Type} {F : α → β → Prop} : ∀ {l : List α} {m : List β} (n : Nat), Paired F l m → Paired F (l.take n) (m.take n)
  | _, _, 0, h => .nil
  | _, _, _ + 1, .nil => .nil
  | _, _, n + 1, .cons r t => .cons r (Paired.take' n t)
theorem take_takeWhile {α : Type} (p : α → Bool) : ∀ l : List α, l.take (l.takeWhile p).length = l.takeWhile p
  | [] => rfl
  | a :: l => by
    by_cases h : p a = true
    · rw [List.takeWhile_cons, if_pos h, List.length_cons, List.take_succ_cons, take_takeWhile p l]
    · rw [List.takeWhile_cons, if_neg h]
      rfl
theorem drop_takeWhile {α : Type} (p : α → Bool) : ∀ l : List α, l.drop (l.takeWhile p).length = l.dropWhile p
  | [] => rfl
  | a :: l => by
    by_cases h : p a = true
    · rw [List.takeWhile_cons, if_pos h, List.length_cons, List.drop_succ_cons, drop_takeWhile p l, List.dropWhile_cons, if_pos h]
    · rw [List.takeWhile_cons, if_neg h, List.dropWhile_cons, if_neg h]
      rfl
theorem mapO_bad {α β : Type} {f : α → Option β} : ∀ {l : List α} {i : Nat} {x : α}, l[i]? = some x → f x = none → mapO f l = none
  | [], i, x, h, _ => by simp at h
  | a :: l, 0, x, h, hf => by
    have e : a = x := Option.some.inj h
    subst e
    unfold mapO
    rw [hf]
  | a :: l, i + 1, x, h, hf => by
    unfold mapO
    rw [mapO_bad (l := l) (i := i) (x := x) (by simpa using h) hf]
    cases f a <;> rfl
section
variable {P : Program} {w : World} {K : PySem.W.Frag} {mg : Str → Option Value} {base : Heap} {NC Cp Cc : Addr}
noncomputable def CardAt (Cp : Addr) (H : Hp) (L : Addr) (rs : List (List Int)) (ps : List MP) : Prop := ∃ rv, Paired (RaceAt H) rv rs ∧ Pools Cp H L rv ps
noncomputable def codesI (ns : List Int) : List Nat := ns.map fun n => sg n.toNat
noncomputable def cardT (rs : List (List Int)) (pls : List (List (List Nat))) : Option (List (List Int) × List MP) := match mapO (fun ws => poolM ws rs) pls with
  | none => none
  | some pools => if (pools.map (·.name)).Nodup then some (rs, pools) else none
noncomputable def spCard (K : PySem.W.Frag) (NC Cp : Addr) : Sp := fun vs H Q E => ∃ (a : Addr) (ns : List Int), vs = [.ref a] ∧ SqL K H a (ns.map V.int) ∧ (∀ n ∈ ns, 0 ≤ n ∧ n ≤ 255) ∧ ns.length ≤ 66000 ∧
  (∀ rs ps, cardM (codesI ns) = some (rs, ps) → ∀ H' c, Same H H' → CardAt Cp H' c rs ps → Q (.ref c) H') ∧ (cardM (codesI ns) = none → ∀ H', Same H H' → E (.ref NC) none H')
theorem scCard : FnScope ["codes", "lines", "race_count", "races", "pool_lines", "pools", "words"] ["codes"] (defScope sCard) := ⟨rfl, rfl, rfl, by decide +kernel, rfl, by decide +kernel, by decide +kernel⟩
theorem ok_card (D : Def K mg "read_card" sCard ["codes"]) (T : Tx mg) (G_text_of : Ok P w K mg base CX0 2 "text_of" ["codes"] (spText K)) (G_lines_of : Ok P w K mg base CX0 2 "lines_of" ["text"] spLines)
    (G_demand : Ok P w K mg base (CXN P w) 1 "demand" ["holds"] (spDemand NC)) (G_check_day : Ok P w K mg base (CXN P w) 3 "check_day" ["words"] (spDay NC)) (G_count_races : Ok P w K mg base CX0 1 "count_races" ["lines"] spRaces)
    (G_read_race : Ok P w K mg base (CXN P w) 3 "read_race" ["words"] (spRace NC)) (G_read_pool : Ok P w K mg base (CXN P w) 4 "read_pool" ["words", "races"] (spPool NC Cp)) (G_check_names_differ : Ok P w K mg base (CXN P w) 2 "check_names_differ" ["pools"] (spDiffer NC Cp)) :
    Ok P w K mg base (CXN P w) 5 "read_card" ["codes"] (spCard K NC Cp) := by
  refine D.okX scCard (fun vs H Q E h => ?_) (fun f cdv A outer s H vs Q E hr h => ?_)
  · obtain ⟨_, _, rfl, _⟩ := h
    rfl
  · obtain ⟨a, ns, rfl, hS, hb, hl, kQ, kE⟩ := h
    obtain ⟨tT, hT, kT⟩ : ∃ tT : TS, PSs (cxOf (CXN P w) P w K mg base ["codes", "lines", "race_count", "races", "pool_lines", "pools", "words"] "read_card" (defScope sCard) f cdv A outer s H E) ((defBody sCard).drop 8) tT ∧
        ∀ (L D1 p2 : Addr) (m : Int) (H6 : Hp) (ys xs2 : List V) (rs : List (List Int)) (pls : List (List (List Nat))), Same H H6 → H6 D1 = some (.lst ys) → Paired (RaceAt H6) ys rs → H6 p2 = some (.lst xs2) → Paired (fun v ws => ∃ p, v = .ref p ∧ Words H6 p ws) xs2 pls → pls.length ≤ 70000 → cardM (codesI ns) = cardT rs pls →
          tT { nx := fun _ H' => Q .non H', rt := Q } [some (.ref a), some (.ref L), some (.int m), some (.ref D1), some (.ref p2), none, none] H6 := by
      refine ⟨_, (pss_cons (ps_setLcX (own := [("words", 6)]) (E := E) rfl rfl rfl xr_def rfl scCard.nd (i := 5) rfl rfl (sw_true rfl rfl rfl rfl) (pi_list (pv 4)) (blkOk_by (N := ["codes", "lines", "race_count", "races", "pool_lines", "pools", "words"]) (sc := defScope sCard) (by decide +kernel)) (fun _ _ _ _ _ => pg_name (i := 6) scCard.nd rfl (Or.inl rfl)) (fun _ _ _ _ _ => pts_nil) (fun _ _ _ _ _ => (pe_own (E := E) G_read_pool (hr.mono (by decide)) rfl (passN xr_blk) (pa_cons (pv 6) (pa_cons (pv 3) pa_nil))))) (pss_cons (ps_expr (pe_own (E := E) G_check_names_differ (hr.mono (by decide)) rfl (passN xr_def) (pa_cons (pv 5) pa_nil))) (pss_one (ps_ret (pv 5))))), fun L D1 p2 m H6 ys xs2 rs pls s06 hys hR5 hx2 hpD hl2 pm => ?_⟩
      have hz := sizeLine_is
      have hlen2 := Paired.len' hpD
      unfold cardT at pm
      refine ⟨_, rfl, p2, rfl, ⟨_, SqL.of hx2⟩, fun D2 hD2 => ?_⟩
      refine lc_relS (xs := xs2) (fun H v (r : MP) => ∃ q dx Rr, v = .ref q ∧ q ≠ D2 ∧ Rr ≠ D2 ∧ H q = some (.ins Cp dx (poolF Rr r)) ∧ H Rr = some (.lst (ownL .non ys r.kind r.k r.race))) pls (fun ws => poolM ws rs) (by rw [hlen2]) (by rw [hlen2]; omega) hD2 (SqL.of hx2) ?_ ?_ ?_
      · rintro H7 H8 v r sb ⟨q, dx, Rr, e, n, n2, h1, h2⟩
        exact ⟨q, dx, Rr, e, n, n2, sb _ _ n h1, sb _ _ n2 h2⟩
      · intro i x u H' hx hu sm hacc R k2
        obtain ⟨u', hu', q, rfl, hw⟩ := Paired.at' hpD hx
        have eu : u' = u := Option.some.inj (hu'.symm.trans hu)
        subst eu
        obtain ⟨acc, hacc⟩ := hacc
        refine ⟨_, rfl, _, rfl, q, D1, u', ys, rs, rfl, hw.same sm, sm _ _ hys, Paired.mapP hR5 fun _ _ z => z.same sm, fun r er H7 b dx Rr s7 hb hb2 hn hn2 => ?_, fun er H7 s7 => ?_⟩
        · exact k2 _ _ _ er s7 ⟨b, dx, Rr, rfl, fun z => (by rw [z, hacc] at hn; cases hn), fun z => (by rw [z, hacc] at hn2; cases hn2), hb, hb2⟩
        · exact kE (by rw [pm, mapO_bad (f := fun ws => poolM ws rs) hu er]) H7 (s06.trans (sm.trans s7))
      · intro H7 ys2 ps sm7 hys2 hm2 hpy2
        rw [hm2] at pm
        dsimp only at pm
        have s07 := s06.trans sm7
        have hP7 : Pools Cp H7 D2 ys ps := ⟨by rw [mapO_len hm2]; omega, ys2, hys2, Paired.mapP hpy2 fun v r ⟨q, dx, Rr, e, _, _, h, h'⟩ => ⟨q, dx, Rr, e, h, h'⟩⟩
        refine ⟨_, rfl, D2, ys, ps, rfl, hP7, fun H8 s8 => ?_⟩
        refine ite2 (fun b4 => ?_) (fun b4 => kE (by rw [pm, if_neg b4]) H8 (s07.trans s8))
        rw [if_pos b4] at pm
        exact ⟨_, rfl, kQ rs ps pm H8 D2 (s07.trans s8) ⟨ys, Paired.mapP hR5 fun _ _ z => z.same (sm7.trans s8), hP7.same s8⟩⟩
    refine ⟨_, (pss_cons (ps_set (i := 1) scCard.nd rfl (Or.inl rfl) (pe_own G_lines_of (hr.mono (by decide)) rfl pass0 (pa_cons (pe_own G_text_of (hr.mono (by decide)) rfl pass0 (pa_cons (pv 0) pa_nil)) pa_nil))) (pss_cons (ps_expr (pe_own (E := E) G_demand (hr.mono (by decide)) rfl (passN xr_def) (pa_cons (pe_and (pe_cmpR op_notN (pv 1) pe_non (nomark _)) (pe_one (pe_cmpR op_gt (pe_callB call_len_seq (by rfl) T.b_len PySem.boot_len (pa_cons (pv 1) pa_nil)) pe_int (nomark _)))) pa_nil))) (pss_cons (ps_expr (pe_own (E := E) G_check_day (hr.mono (by decide)) rfl (passN xr_def) (pa_cons (pe_ix ix_list (pv 1) pe_int (fun _ _ => rfl)) pa_nil))) (pss_cons (ps_set (i := 2) scCard.nd rfl (Or.inl rfl) (pe_own G_count_races (hr.mono (by decide)) rfl pass0 (pa_cons (pv 1) pa_nil))) (pss_cons (ps_expr (pe_own (E := E) G_demand (hr.mono (by decide)) rfl (passN xr_def) (pa_cons (pe_chain op_le op_le pe_int (pv 2) (pe_gint T.g_MOST_RACES rfl)) pa_nil))) (pss_cons (ps_set (i := 3) scCard.nd rfl (Or.inr rfl) (pe_lcX (own := [("words", 6)]) (E := E) rfl rfl rfl xr_def rfl scCard.nd (pi_list (pe_slice sl_list (pv 1) (po_some pe_int) (po_some (pe_op op_add pe_int (pv 2))))) (blkOk_by (N := ["codes", "lines", "race_count", "races", "pool_lines", "pools", "words"]) (sc := defScope sCard) (by decide +kernel)) (fun _ _ _ _ _ => pg_name (i := 6) scCard.nd rfl (Or.inl rfl)) (fun _ _ _ _ _ => pts_nil) (fun _ _ _ _ _ => (pe_own (E := E) G_read_race (hr.mono (by decide)) rfl (passN xr_blk) (pa_cons (pv 6) pa_nil))))) (pss_cons (ps_set (i := 4) scCard.nd rfl (Or.inl rfl) (pe_slice sl_list (pv 1) (po_some (pe_op op_add pe_int (pv 2))) po_none)) (pss_cons (ps_expr (pe_own (E := E) G_demand (hr.mono (by decide)) rfl (passN xr_def) (pa_cons (pe_cmpR op_le (pe_callB call_len_seq (by rfl) T.b_len PySem.boot_len (pa_cons (pv 4) pa_nil)) (pe_gint T.g_MOST_POOLS rfl) (nomark _)) pa_nil))) hT)))))))), ?_⟩
    have hz := sizeLine_is
    have hcl : (codesI ns).length ≤ 66000 := by unfold codesI; rw [List.length_map]; exact hl
    have hc1 : ∀ c ∈ codesI ns, c < 128 := fun c hc => by
      unfold codesI at hc
      obtain ⟨n, _, rfl⟩ := List.mem_map.mp hc
      exact sg_lt _
    try dsimp only [spDemand, tSeq, tMake, cxOf_K, cxOf_P, cxOf_W, rIxT, tDIn, tDNotIn, sDPut, tAug, ipI, ipMul, tBreak, tSl, tPart, tNoPart, rSlL, rIxL, tRaise, tAnd, tOr, tM0, tM1, tIfS, tTest, tB, tChain, tCB, tCons, tNil, tC, tVar, tOp, tUn, rU, rI0, rI, rEq, rNe, tRet, tRetN, tDrop, tAsg, gName, tCall, tAndV, tOrV, tNotV, tNot, L2.start, List.map, List.replicate, List.cons_append, List.nil_append, List.getElem?_cons_zero, List.getElem?_cons_succ, List.set_cons_zero, List.set_cons_succ]
    try simp only [tSeq, tMake, cxOf_K, cxOf_P, cxOf_W, rIxT, tDIn, tDNotIn, sDPut, tAug, ipI, ipMul, tBreak, tSl, tPart, tNoPart, rSlL, rIxL, tRaise, tAnd, tOr, tM0, tM1, tIfS, tTest, tB, tChain, tCB, tCons, tNil, tC, tVar, tOp, tUn, rU, rI0, rI, rEq, rNe, sc_ii, sc_ss, sc_bb, sc_is, sc_si, tRet, tRetN, tDrop, tAsg, gName, tCall, tAndV, tOrV, tNotV, tNot, L2.start, List.map, List.replicate, List.length_cons, List.length_nil, Nat.sub_self, Nat.reduceAdd, Nat.reduceSub, List.cons_append, List.nil_append, List.append_nil, List.getElem?_cons_zero, List.getElem?_cons_succ, List.set_cons_zero, List.set_cons_succ, Option.some.injEq, V.int.injEq, V.str.injEq, V.bl.injEq, V.ref.injEq, List.cons.injEq, exists_and_left, exists_and_right, exists_eq_left, exists_eq_left', exists_eq_right, exists_eq, true_and, and_true, exists_eq_right_right, decide_eq_true_eq, Bool.not_eq_true', decide_eq_false_iff_not, Bool.and_eq_true, ite_chain, ite_chor, Int.cast_ofNat_Int, Int.natCast_add, Classical.not_not, Bool.false_eq_true, ↓reduceIte, spDemand]
    refine ⟨a, ns, rfl, hS, hb, hl, fun H1 s1 => ⟨codesI ns, rfl, hcl, hc1, ?_⟩⟩
    have pm : cardM (codesI ns) = cardM (codesI ns) := rfl
    conv at pm => rhs; unfold cardM
    cases eL : linesM (codesI ns) with
    | none =>
      rw [eL] at pm
      intro H2 s2
      rw [if_neg (Classical.not_not.mpr rfl)]
      exact kE pm H2 (s1.trans s2)
    | some ls =>
    rw [eL] at pm
    intro H2 L s2 hL
    have s02 := s1.trans s2
    have kE2 : cardM (codesI ns) = none → E (.ref NC) none H2 := fun z => kE z H2 s02
    try dsimp only [spDemand, tSeq, tMake, cxOf_K, cxOf_P, cxOf_W, rIxT, tDIn, tDNotIn, sDPut, tAug, ipI, ipMul, tBreak, tSl, tPart, tNoPart, rSlL, rIxL, tRaise, tAnd, tOr, tM0, tM1, tIfS, tTest, tB, tChain, tCB, tCons, tNil, tC, tVar, tOp, tUn, rU, rI0, rI, rEq, rNe, tRet, tRetN, tDrop, tAsg, gName, tCall, tAndV, tOrV, tNotV, tNot, L2.start, List.map, List.replicate, List.cons_append, List.nil_append, List.getElem?_cons_zero, List.getElem?_cons_succ, List.set_cons_zero, List.set_cons_succ]
    try simp only [tSeq, tMake, cxOf_K, cxOf_P, cxOf_W, rIxT, tDIn, tDNotIn, sDPut, tAug, ipI, ipMul, tBreak, tSl, tPart, tNoPart, rSlL, rIxL, tRaise, tAnd, tOr, tM0, tM1, tIfS, tTest, tB, tChain, tCB, tCons, tNil, tC, tVar, tOp, tUn, rU, rI0, rI, rEq, rNe, sc_ii, sc_ss, sc_bb, sc_is, sc_si, tRet, tRetN, tDrop, tAsg, gName, tCall, tAndV, tOrV, tNotV, tNot, L2.start, List.map, List.replicate, List.length_cons, List.length_nil, Nat.sub_self, Nat.reduceAdd, Nat.reduceSub, List.cons_append, List.nil_append, List.append_nil, List.getElem?_cons_zero, List.getElem?_cons_succ, List.set_cons_zero, List.set_cons_succ, Option.some.injEq, V.int.injEq, V.str.injEq, V.bl.injEq, V.ref.injEq, List.cons.injEq, exists_and_left, exists_and_right, exists_eq_left, exists_eq_left', exists_eq_right, exists_eq, true_and, and_true, exists_eq_right_right, decide_eq_true_eq, Bool.not_eq_true', decide_eq_false_iff_not, Bool.and_eq_true, ite_chain, ite_chor, Int.cast_ofNat_Int, Int.natCast_add, Classical.not_not, Bool.false_eq_true, ↓reduceIte, spDemand, reduceCtorEq, not_false_eq_true]
    obtain ⟨hll, as, hA, hp⟩ := id hL
    have hlen := Paired.len' hp
    refine ⟨_, .inl (SqL.of hA), ?_⟩
    cases ls with
    | nil =>
      have e0 : as.length = 0 := by rw [hlen]; rfl
      rw [e0]
      exact kE2 pm
    | cons d ls =>
    refine ite2 (fun _ => ?_) (fun z => absurd (show (0 : Int) < as.length by rw [hlen]; simp) z)
    obtain ⟨v0, hv0, p0, rfl, hw0⟩ := Paired.atR hp (i := 0) rfl
    refine ⟨_, SqL.of hA, _, atI_nat hv0, p0, d, rfl, hw0, fun H3 s3 => ?_⟩
    have s03 := s02.trans s3
    dsimp only at pm
    refine ite2 (fun b1 => ?_) (fun b1 => kE (by rw [pm, if_pos (by simpa using b1)]) H3 s03)
    rw [if_neg (by rw [b1]; decide)] at pm
    refine ⟨L, d, ls, rfl, hL.same s3, fun H4 s4 => ?_⟩
    have s04 := s03.trans s4
    have s24 := s3.trans s4
    have hL4 := hL.same s24
    try dsimp only [spDemand, tSeq, tMake, cxOf_K, cxOf_P, cxOf_W, rIxT, tDIn, tDNotIn, sDPut, tAug, ipI, ipMul, tBreak, tSl, tPart, tNoPart, rSlL, rIxL, tRaise, tAnd, tOr, tM0, tM1, tIfS, tTest, tB, tChain, tCB, tCons, tNil, tC, tVar, tOp, tUn, rU, rI0, rI, rEq, rNe, tRet, tRetN, tDrop, tAsg, gName, tCall, tAndV, tOrV, tNotV, tNot, L2.start, List.map, List.replicate, List.cons_append, List.nil_append, List.getElem?_cons_zero, List.getElem?_cons_succ, List.set_cons_zero, List.set_cons_succ]
    try simp only [tSeq, tMake, cxOf_K, cxOf_P, cxOf_W, rIxT, tDIn, tDNotIn, sDPut, tAug, ipI, ipMul, tBreak, tSl, tPart, tNoPart, rSlL, rIxL, tRaise, tAnd, tOr, tM0, tM1, tIfS, tTest, tB, tChain, tCB, tCons, tNil, tC, tVar, tOp, tUn, rU, rI0, rI, rEq, rNe, sc_ii, sc_ss, sc_bb, sc_is, sc_si, tRet, tRetN, tDrop, tAsg, gName, tCall, tAndV, tOrV, tNotV, tNot, L2.start, List.map, List.replicate, List.length_cons, List.length_nil, Nat.sub_self, Nat.reduceAdd, Nat.reduceSub, List.cons_append, List.nil_append, List.append_nil, List.getElem?_cons_zero, List.getElem?_cons_succ, List.set_cons_zero, List.set_cons_succ, Option.some.injEq, V.int.injEq, V.str.injEq, V.bl.injEq, V.ref.injEq, List.cons.injEq, exists_and_left, exists_and_right, exists_eq_left, exists_eq_left', exists_eq_right, exists_eq, true_and, and_true, exists_eq_right_right, decide_eq_true_eq, Bool.not_eq_true', decide_eq_false_iff_not, Bool.and_eq_true, ite_chain, ite_chor, Int.cast_ofNat_Int, Int.natCast_add, Classical.not_not, Bool.false_eq_true, ↓reduceIte, spDemand]
    generalize hm0 : (List.takeWhile isRaceL ls).length = m at *
    have eT : ls.take m = ls.takeWhile isRaceL := by rw [← hm0, take_takeWhile]
    have eD : ls.drop m = ls.dropWhile isRaceL := by rw [← hm0, drop_takeWhile]
    refine ite2 (fun b2 => ?_) (fun b2 => kE (by rw [pm, if_pos (by omega)]) H4 s04)
    rw [if_neg (by omega), ← eT, ← eD] at pm
    have hA4 := s24 _ _ hA
    refine ⟨_, rfl, _, rfl, _, rfl, _, _, rfl, rfl, _, rfl, L, _, rfl, SqL.of hA4, fun p hp0 => ⟨p, rfl, ⟨_, SqL.of upd_same⟩, fun D1 hD1 => ?_⟩⟩
    have ec : cutV as (some 1) (some (1 + (m : Int))) = (as.drop 1).take m := by
      have := cutV_two as 1 (1 + m)
      rw [Nat.add_sub_cancel_left] at this
      rw [← this]
      congr 2
    rw [ec] at hD1 ⊢
    have s5 : Same H4 (upd H4 p (.lst ((as.drop 1).take m))) := Same.new hp0
    have s25 := s24.trans s5
    have hpL : Paired (fun v ws => ∃ p, v = .ref p ∧ Words H2 p ws) (as.drop 1) ls := Paired.drop' 1 hp
    have hlen1 := Paired.len' hpL
    simp only [List.length_cons] at hll
    refine lc_relS (xs := (as.drop 1).take m) (fun H v (r : List Int) => ∃ q, v = .ref q ∧ q ≠ D1 ∧ H q = some (.lst (r.map V.int))) (ls.take m) raceM (by rw [List.length_take, List.length_take, hlen1]) (by rw [List.length_take]; omega) hD1 (SqL.of upd_same) ?_ ?_ ?_
    · rintro H5 H6 v r sb ⟨q, e, n, h1⟩
      exact ⟨q, e, n, sb _ _ n h1⟩
    · intro i x u H' hx hu sm hacc R k2
      obtain ⟨u', hu', q, rfl, hw⟩ := Paired.at' (Paired.take' m hpL) hx
      have eu : u' = u := Option.some.inj (hu'.symm.trans hu)
      subst eu
      obtain ⟨acc, hacc⟩ := hacc
      refine ⟨_, rfl, q, u', rfl, hw.same (s25.trans sm), fun r er H6 b s6 hb hn => ?_, fun er H6 s6 => ?_⟩
      · exact k2 _ _ _ er s6 ⟨b, rfl, fun z => (by rw [z, hacc] at hn; cases hn), hb⟩
      · exact kE (by rw [pm, mapO_bad hu er]) H6 ((s02.trans s25).trans (sm.trans s6))
    · intro H5 ys rs sm5 hys hm hpy
      rw [hm] at pm
      dsimp only at pm
      have s25' := s25.trans sm5
      have s05 := s02.trans s25'
      have hR5 : Paired (RaceAt H5) ys rs := Paired.mapP hpy fun v r ⟨q, e, _, h⟩ => ⟨q, e, h⟩
      refine ⟨_, SqL.of (s25' _ _ hA), fun p2 hp2 => ?_⟩
      have ec2 : cutV as (some (1 + (m : Int))) none = (as.drop 1).drop m := by
        rw [List.drop_drop, ← cutV_from]
        congr 2
      rw [ec2]
      have hpD := Paired.drop' m hpL
      have hlen2 := Paired.len' hpD
      refine ⟨_, .inl (SqL.of upd_same), ?_⟩
      rw [hlen2]
      have s6 : Same H5 (upd H5 p2 (.lst ((as.drop 1).drop m))) := Same.new hp2
      have s06 := s05.trans s6
      have s26 := s25'.trans s6
      refine ite2 (fun b3 => ?_) (fun b3 => kE (by rw [pm, if_pos (by omega)]) _ s06)
      rw [if_neg (by omega)] at pm
      refine kT L D1 p2 m _ ys _ rs (ls.drop m) s06 (s6 _ _ hys) (Paired.mapP hR5 fun _ _ z => z.same s6) upd_same (Paired.mapP hpD fun _ _ zq18 => ?_) (by rw [List.length_drop]; omega) pm
      obtain ⟨p, e, z⟩ := zq18
      exact ⟨p, e, z.same s26⟩
end
end Pd
end
section
set_option Elab.async false
set_option linter.all false
set_option maxRecDepth 100000
set_option maxHeartbeats 2000000
namespace Pd
open PySem PySem.Spec PyProof.Rows L2 TL
noncomputable abbrev sCRows : Stmt := top 11
noncomputable abbrev sCLegs : Stmt := top 10
noncomputable abbrev sCSets : Stmt := top 12
noncomputable abbrev sCount : Stmt := top 9
noncomputable abbrev sRight : Stmt := top 3
noncomputable abbrev sCents : Stmt := top 4
section
variable {P : Program} {w : World} {K : PySem.W.Frag} {mg : Str → Option Value} {base : Heap} {NC Cp Cc : Addr}
noncomputable def spCRows : Sp := fun vs H Q _ => ∃ n k : Int, vs = [.int n, .int k] ∧ 0 ≤ n ∧ n ≤ 70000 ∧ 0 ≤ k ∧ k ≤ 100 ∧ Q (.int (rowsM n k.toNat)) H
theorem scCRows : FnScope ["interests", "k", "rows", "taken"] ["interests", "k"] (defScope sCRows) := ⟨rfl, rfl, rfl, by decide +kernel, rfl, by decide +kernel, by decide +kernel⟩
theorem ok_crows (D : Def K mg "count_rows" sCRows ["interests", "k"]) (T : Tx mg) : Ok P w K mg base CX0 1 "count_rows" ["interests", "k"] spCRows := by
  refine D.ok scCRows (fun vs H Q E h => ?_) (fun f cdv A outer s H vs Q E hr h => ?_)
  · obtain ⟨_, _, rfl, _⟩ := h
    rfl
  · obtain ⟨n, k, rfl, n0, n1, k0, k1, kQ⟩ := h
    refine ⟨_, (pss_cons (ps_set (i := 2) scCRows.nd rfl (Or.inl rfl) pe_int) (pss_cons (ps_for PassesOwn.never rfl (pi_range1 rfl T.b_range (pa_cons (pv 1) pa_nil)) (pg_name (i := 3) scCRows.nd rfl (Or.inl rfl)) (pss_one (ps_aug (i := 2) scCRows.nd rfl (Or.inl rfl) (pe_op op_sub (pv 0) (pv 3)) ip_mul))) (pss_one (ps_ret (pv 2))))), ?_⟩
    refine ⟨_, rfl, k, rfl, by omega, by omega, for_range (lo := 0) (n := k.toNat) (fun i σ H' => ∃ v : Option V, σ = [some (.int n), some (.int k), some (.int (rowsM n i)), v] ∧ H' = H) ⟨none, rfl, rfl⟩ ?_ ?_⟩
    · rintro i σ H' hi ⟨v, rfl, e⟩
      subst e
      refine ⟨_, rfl, _, rfl, _, rfl, _, _, rfl, rfl, _, _, rfl, rfl, .inr (by omega), some (.int (0 + (i : Int))), ?_, rfl⟩
      rw [rowsM_succ, Int.zero_add]
      rfl
    · rintro σ H' ⟨v, rfl, e⟩
      subst e
      exact ⟨_, rfl, kQ⟩
noncomputable def spCLegs : Sp := fun vs H Q _ => ∃ (R : Addr) (rs : List (List Int)), vs = [.ref R] ∧ Races H R rs ∧ (∀ r ∈ rs, r.length ≤ 70000) ∧ Q (.int (legsM rs)) H
theorem scCLegs : FnScope ["lists", "rows", "choices"] ["lists"] (defScope sCLegs) := ⟨rfl, rfl, rfl, by decide +kernel, rfl, by decide +kernel, by decide +kernel⟩
theorem ok_clegs (D : Def K mg "count_choices" sCLegs ["lists"]) (T : Tx mg) : Ok P w K mg base CX0 1 "count_choices" ["lists"] spCLegs := by
  refine D.ok scCLegs (fun vs H Q E h => ?_) (fun f cdv A outer s H vs Q E hr h => ?_)
  · obtain ⟨_, _, rfl, _⟩ := h
    rfl
  · obtain ⟨R, rs, rfl, ⟨as, hA, hp⟩, hb, kQ⟩ := h
    refine ⟨_, (pss_cons (ps_set (i := 1) scCLegs.nd rfl (Or.inl rfl) pe_int) (pss_cons (ps_for PassesOwn.never rfl (pi_list (pv 0)) (pg_name (i := 2) scCLegs.nd rfl (Or.inl rfl)) (pss_one (ps_aug (i := 1) scCLegs.nd rfl (Or.inl rfl) (pe_callB call_len_seq (by rfl) T.b_len PySem.boot_len (pa_cons (pv 2) pa_nil)) ip_mul))) (pss_one (ps_ret (pv 1))))), ?_⟩
    have hlen := Paired.len' hp
    refine ⟨_, rfl, R, rfl, ⟨_, SqL.of hA⟩, for_list (K := K) (a := R) (xs := as) (fun i σ H' => ∃ v : Option V, σ = [some (.ref R), some (.int (legsM (rs.take i))), v] ∧ H' = H) ⟨none, rfl, rfl⟩ (fun i σ H' _ ⟨_, _, e⟩ => by rw [e]; exact SqL.of hA) ?_ ?_⟩
    · rintro i y σ H' hi ⟨v, rfl, e⟩
      subst e
      obtain ⟨r, hr', p, rfl, hpp⟩ := Paired.at' hp hi
      have := hb r (List.mem_of_getElem? hr')
      refine ⟨_, rfl, _, rfl, p, _, rfl, .inl (SqL.of hpp), _, _, rfl, rfl, .inr (by rw [List.length_map]; omega), some (.ref p), ?_, rfl⟩
      rw [List.length_map, take_snoc' hr']
      unfold legsM
      rw [List.foldl_append]
      rfl
    · rintro σ H' ⟨v, rfl, e⟩
      subst e
      rw [hlen, List.take_length]
      exact ⟨_, rfl, kQ⟩
noncomputable def setsM (n k : Int) : Int := rowsM n k.toNat / rowsM k k.toNat
theorem rows_kk {k : Int} (h0 : 0 ≤ k) (h6 : k ≤ 6) : 0 < rowsM k k.toNat ∧ rowsM k k.toNat < 1073741824 := by
  have : ∀ k : Fin 7, 0 < rowsM (k.val : Int) k.val ∧ rowsM (k.val : Int) k.val < 1073741824 := by decide +kernel
  have h := this ⟨k.toNat, by omega⟩
  have e : ((k.toNat : Nat) : Int) = k := by omega
  simpa [e] using h
noncomputable def spCSets : Sp := fun vs H Q _ => ∃ n k : Int, vs = [.int n, .int k] ∧ 0 ≤ n ∧ n ≤ 70000 ∧ 0 ≤ k ∧ k ≤ 6 ∧ Q (.int (setsM n k)) H
theorem scCSets : FnScope ["interests", "k"] ["interests", "k"] (defScope sCSets) := ⟨rfl, rfl, rfl, by decide +kernel, rfl, by decide +kernel, by decide +kernel⟩
theorem ok_csets (D : Def K mg "count_sets" sCSets ["interests", "k"]) (G_count_rows : Ok P w K mg base CX0 1 "count_rows" ["interests", "k"] spCRows) : Ok P w K mg base CX0 2 "count_sets" ["interests", "k"] spCSets := by
  refine D.ok scCSets (fun vs H Q E h => ?_) (fun f cdv A outer s H vs Q E hr h => ?_)
  · obtain ⟨_, _, rfl, _⟩ := h
    rfl
  · obtain ⟨n, k, rfl, n0, n1, k0, k1, kQ⟩ := h
    refine ⟨_, (pss_one (ps_ret (pe_op op_fdiv (pe_own G_count_rows (hr.mono (by decide)) rfl pass0 (pa_cons (pv 0) (pa_cons (pv 1) pa_nil))) (pe_own G_count_rows (hr.mono (by decide)) rfl pass0 (pa_cons (pv 1) (pa_cons (pv 1) pa_nil)))))), ?_⟩
    have hd := rows_kk k0 k1
    unfold setsM at kQ
    exact ⟨_, rfl, _, rfl, _, _, rfl, by omega, by omega, by omega, by omega, _, rfl, _, rfl, _, _, rfl, by omega, by omega, by omega, by omega, _, _, rfl, rfl, hd, kQ⟩
noncomputable def spCents (K : PySem.W.Frag) : Sp := fun vs H Q _ => ∃ (a : Addr) (ms : List Int), vs = [.ref a] ∧ SqL K H a (ms.map V.int) ∧ ∀ H', Same H H' → Q (.int (centsM ms)) H'
theorem scCents : FnScope ["money"] ["money"] (defScope sCents) := ⟨rfl, rfl, rfl, by decide +kernel, rfl, by decide +kernel, by decide +kernel⟩
theorem odds_map : ∀ ms : List Int, L2.odds (ms.map V.int) = (oddsM ms).map V.int
  | [] => rfl
  | [_] => rfl
  | _ :: b :: r => by
    rw [List.map_cons, List.map_cons, odds_cc, odds_map r]
    rfl
theorem ok_cents (D : Def K mg "sum_of_cents" sCents ["money"]) (T : Tx mg) : Ok P w K mg base CX0 1 "sum_of_cents" ["money"] (spCents K) := by
  refine D.ok scCents (fun vs H Q E h => ?_) (fun f cdv A outer s H vs Q E hr h => ?_)
  · obtain ⟨_, _, rfl, _⟩ := h
    rfl
  · obtain ⟨a, ms, rfl, hS, kQ⟩ := h
    refine ⟨_, (pss_one (ps_ret (pe_callB (call_sum rfl) (by rfl) T.b_sum boot_sum (pa_cons (pe_step (pv 0) pe_int pe_int) pa_nil)))), ?_⟩
    refine ⟨_, rfl, a, _, 1, rfl, rfl, rfl, hS, fun p hp => ?_⟩
    rw [show L2.evens ((ms.map V.int).drop 1) = L2.odds (ms.map V.int) from rfl, odds_map]
    exact ⟨p, _, rfl, SqL.of upd_same, kQ _ (Same.new hp)⟩
noncomputable def spRight (K : PySem.W.Frag) : Sp := fun vs H Q _ => ∃ (a : Addr) (ms : List Int) (n : Int), vs = [.ref a, .int n] ∧ SqL K H a (ms.map V.int) ∧ ms.length ≤ 2000000 ∧ ms.length % 2 = 0 ∧ ∀ H', Same H H' → Q (.bl (rightM ms n)) H'
theorem scRight : FnScope ["money", "combinations", "before", "at"] ["money", "combinations"] (defScope sRight) := ⟨rfl, rfl, rfl, by decide +kernel, rfl, by decide +kernel, by decide +kernel⟩
theorem drop2 {α : Type} {l : List α} {j : Nat} (h : j + 1 < l.length) : ∃ a b, l[j]? = some a ∧ l[j + 1]? = some b ∧ l.drop j = a :: b :: l.drop (j + 2) := by
  refine ⟨l[j], l[j + 1], List.getElem?_eq_getElem _, List.getElem?_eq_getElem _, ?_⟩
  rw [List.drop_eq_getElem_cons (show j < l.length by omega), List.drop_eq_getElem_cons (show j + 1 < l.length by omega)]
theorem ints_at {ms : List Int} {z : Int} {j : Nat} {x : Int} (e : z = (j : Int)) (h : ms[j]? = some x) : atI (ms.map V.int) z = some (.int x) := at_of e (by rw [List.getElem?_map, h]; rfl)
theorem ok_right (D : Def K mg "is_right" sRight ["money", "combinations"]) (T : Tx mg) (G_sum_of_cents : Ok P w K mg base CX0 1 "sum_of_cents" ["money"] (spCents K)) : Ok P w K mg base CX0 2 "is_right" ["money", "combinations"] (spRight K) := by
  refine D.ok scRight (fun vs H Q E h => ?_) (fun f cdv A outer s H vs Q E hr h => ?_)
  · obtain ⟨_, _, _, rfl, _⟩ := h
    rfl
  · obtain ⟨a, ms, n, rfl, hS, hl, h2, kQ⟩ := h
    refine ⟨_, (pss_cons (ps_if (pt_cmpR op_gt (pe_callB call_len_seq (by rfl) T.b_len PySem.boot_len (pa_cons (pv 0) pa_nil)) (pe_op op_mul pe_int (pe_gint T.g_MOST_PAIRS rfl)) (nomark _)) (pss_one (ps_ret pe_bl)) pss_nil) (pss_cons (ps_set (i := 2) scRight.nd rfl (Or.inl rfl) (pe_un un_neg pe_int)) (pss_cons (ps_for PassesOwn.never rfl (pi_range3 rfl T.b_range (pa_cons pe_int (pa_cons (pe_callB call_len_seq (by rfl) T.b_len PySem.boot_len (pa_cons (pv 0) pa_nil)) (pa_cons pe_int pa_nil)))) (pg_name (i := 3) scRight.nd rfl (Or.inl rfl)) (pss_cons (ps_if (pt_not (pt_chain op_lt op_lt (pv 2) (pe_ix ix_list (pv 0) (pv 3) (fun _ _ => rfl)) (pv 1))) (pss_one (ps_ret pe_bl)) pss_nil) (pss_cons (ps_if (pt_cmpR op_lt (pe_ix ix_list (pv 0) (pe_op op_add (pv 3) pe_int) (fun _ _ => rfl)) pe_int (nomark _)) (pss_one (ps_ret pe_bl)) pss_nil) (pss_one (ps_set (i := 2) scRight.nd rfl (Or.inl rfl) (pe_ix ix_list (pv 0) (pv 3) (fun _ _ => rfl))))))) (pss_one (ps_ret (pe_cmpR op_le (pe_own G_sum_of_cents (hr.mono (by decide)) rfl pass0 (pa_cons (pv 0) pa_nil)) (pe_gint T.g_MOST_CENTS rfl) (nomark _))))))), ?_⟩
    have kQ0 := kQ H fun _ _ h => h
    try dsimp only [tSeq, tMake, cxOf_K, cxOf_P, cxOf_W, rIxT, tDIn, tDNotIn, sDPut, tAug, ipI, ipMul, tBreak, tSl, tPart, tNoPart, rSlL, rIxL, tRaise, tAnd, tOr, tM0, tM1, tIfS, tTest, tB, tChain, tCB, tCons, tNil, tC, tVar, tOp, tUn, rU, rI0, rI, rEq, rNe, tRet, tRetN, tDrop, tAsg, gName, tCall, tAndV, tOrV, tNotV, tNot, L2.start, List.map, List.replicate, List.cons_append, List.nil_append, List.getElem?_cons_zero, List.getElem?_cons_succ, List.set_cons_zero, List.set_cons_succ]
    try simp only [tSeq, tMake, cxOf_K, cxOf_P, cxOf_W, rIxT, tDIn, tDNotIn, sDPut, tAug, ipI, ipMul, tBreak, tSl, tPart, tNoPart, rSlL, rIxL, tRaise, tAnd, tOr, tM0, tM1, tIfS, tTest, tB, tChain, tCB, tCons, tNil, tC, tVar, tOp, tUn, rU, rI0, rI, rEq, rNe, sc_ii, sc_ss, sc_bb, sc_is, sc_si, tRet, tRetN, tDrop, tAsg, gName, tCall, tAndV, tOrV, tNotV, tNot, L2.start, List.map, List.replicate, List.length_cons, List.length_nil, Nat.sub_self, Nat.reduceAdd, Nat.reduceSub, List.cons_append, List.nil_append, List.append_nil, List.getElem?_cons_zero, List.getElem?_cons_succ, List.set_cons_zero, List.set_cons_succ, Option.some.injEq, V.int.injEq, V.str.injEq, V.bl.injEq, V.ref.injEq, List.cons.injEq, exists_and_left, exists_and_right, exists_eq_left, exists_eq_left', exists_eq_right, exists_eq, true_and, and_true, exists_eq_right_right, decide_eq_true_eq, Bool.not_eq_true', decide_eq_false_iff_not, Bool.and_eq_true, ite_chain, ite_chor, Int.cast_ofNat_Int, Int.natCast_add, Classical.not_not, Bool.false_eq_true, ↓reduceIte]
    refine ⟨_, .inl hS, .inl (by decide), ?_⟩
    rw [List.length_map]
    refine ite2 (fun b => ?_) (fun b0 => ?_)
    · unfold rightM at kQ0
      rw [decide_eq_false (by omega)] at kQ0
      exact kQ0
    have hl5 : decide (ms.length ≤ 524288) = true := decide_eq_true (by omega)
    obtain ⟨m, hm⟩ : ∃ m, ms.length = 2 * m := ⟨ms.length / 2, by omega⟩
    try dsimp only [tNext, tSeq, tMake, cxOf_K, cxOf_P, cxOf_W, rIxT, tDIn, tDNotIn, sDPut, tAug, ipI, ipMul, tBreak, tSl, tPart, tNoPart, rSlL, rIxL, tRaise, tAnd, tOr, tM0, tM1, tIfS, tTest, tB, tChain, tCB, tCons, tNil, tC, tVar, tOp, tUn, rU, rI0, rI, rEq, rNe, tRet, tRetN, tDrop, tAsg, gName, tCall, tAndV, tOrV, tNotV, tNot, L2.start, List.map, List.replicate, List.cons_append, List.nil_append, List.getElem?_cons_zero, List.getElem?_cons_succ, List.set_cons_zero, List.set_cons_succ]
    try simp only [tNext, tSeq, tMake, cxOf_K, cxOf_P, cxOf_W, rIxT, tDIn, tDNotIn, sDPut, tAug, ipI, ipMul, tBreak, tSl, tPart, tNoPart, rSlL, rIxL, tRaise, tAnd, tOr, tM0, tM1, tIfS, tTest, tB, tChain, tCB, tCons, tNil, tC, tVar, tOp, tUn, rU, rI0, rI, rEq, rNe, sc_ii, sc_ss, sc_bb, sc_is, sc_si, tRet, tRetN, tDrop, tAsg, gName, tCall, tAndV, tOrV, tNotV, tNot, L2.start, List.map, List.replicate, List.length_cons, List.length_nil, Nat.sub_self, Nat.reduceAdd, Nat.reduceSub, List.cons_append, List.nil_append, List.append_nil, List.getElem?_cons_zero, List.getElem?_cons_succ, List.set_cons_zero, List.set_cons_succ, Option.some.injEq, V.int.injEq, V.str.injEq, V.bl.injEq, V.ref.injEq, List.cons.injEq, exists_and_left, exists_and_right, exists_eq_left, exists_eq_left', exists_eq_right, exists_eq, true_and, and_true, exists_eq_right_right, decide_eq_true_eq, Bool.not_eq_true', decide_eq_false_iff_not, Bool.and_eq_true, ite_chain, ite_chor, Int.cast_ofNat_Int, Int.natCast_add, Classical.not_not, Bool.false_eq_true, ↓reduceIte]
    refine ⟨_, rfl, a, rfl, _, .inl hS, 0, _, 2, m, rfl, ?_, ?_⟩
    · rw [List.length_map]
      refine RgC.up (by decide) (by decide) (by decide) (by decide) (by omega) (by omega) ?_
      split <;> omega
    refine for_rangeC (fun i σ H' => ∃ (v : Option V) (bf : Int), σ = [some (.ref a), some (.int n), some (.int bf), v] ∧ H' = H ∧ goodM n (-1) ms = goodM n bf (ms.drop (2 * i))) ⟨none, -1, rfl, rfl, rfl⟩ ?_ ?_
    · rintro i σ H' hi ⟨v, bf, rfl, e, hg⟩
      subst e
      obtain ⟨x, y, gx, gy, gd⟩ := drop2 (l := ms) (j := 2 * i) (by omega)
      rw [gd] at hg
      have qx := ints_at (z := 0 + (i : Int) * 2) (by omega) gx
      have qy := ints_at (z := 0 + (i : Int) * 2 + 1) (by omega) gy
      try dsimp only [tSeq, tMake, cxOf_K, cxOf_P, cxOf_W, rIxT, tDIn, tDNotIn, sDPut, tAug, ipI, ipMul, tBreak, tSl, tPart, tNoPart, rSlL, rIxL, tRaise, tAnd, tOr, tM0, tM1, tIfS, tTest, tB, tChain, tCB, tCons, tNil, tC, tVar, tOp, tUn, rU, rI0, rI, rEq, rNe, tRet, tRetN, tDrop, tAsg, gName, tCall, tAndV, tOrV, tNotV, tNot, L2.start, List.map, List.replicate, List.cons_append, List.nil_append, List.getElem?_cons_zero, List.getElem?_cons_succ, List.set_cons_zero, List.set_cons_succ]
      try simp only [tSeq, tMake, cxOf_K, cxOf_P, cxOf_W, rIxT, tDIn, tDNotIn, sDPut, tAug, ipI, ipMul, tBreak, tSl, tPart, tNoPart, rSlL, rIxL, tRaise, tAnd, tOr, tM0, tM1, tIfS, tTest, tB, tChain, tCB, tCons, tNil, tC, tVar, tOp, tUn, rU, rI0, rI, rEq, rNe, sc_ii, sc_ss, sc_bb, sc_is, sc_si, tRet, tRetN, tDrop, tAsg, gName, tCall, tAndV, tOrV, tNotV, tNot, L2.start, List.map, List.replicate, List.length_cons, List.length_nil, Nat.sub_self, Nat.reduceAdd, Nat.reduceSub, List.cons_append, List.nil_append, List.append_nil, List.getElem?_cons_zero, List.getElem?_cons_succ, List.set_cons_zero, List.set_cons_succ, Option.some.injEq, V.int.injEq, V.str.injEq, V.bl.injEq, V.ref.injEq, List.cons.injEq, exists_and_left, exists_and_right, exists_eq_left, exists_eq_left', exists_eq_right, exists_eq, true_and, and_true, exists_eq_right_right, decide_eq_true_eq, Bool.not_eq_true', decide_eq_false_iff_not, Bool.and_eq_true, ite_chain, ite_chor, Int.cast_ofNat_Int, Int.natCast_add, Classical.not_not, Bool.false_eq_true, ↓reduceIte]
      have kF : goodM n (-1) ms = false → Q (.bl false) H' := fun z => by
        have k1 := kQ0
        unfold rightM at k1
        rw [z, Bool.false_and, Bool.and_false] at k1
        exact k1
      have hg2 : goodM n bf (x :: y :: ms.drop (2 * i + 2)) = (decide (bf < x) && (decide (x < n) && (decide (1 ≤ y) && goodM n x (ms.drop (2 * i + 2))))) := rfl
      rw [hg2] at hg
      refine ⟨_, hS, _, qx, x, rfl, ?_⟩
      refine ite2 (fun b1 => ⟨x, rfl, ?_⟩) (fun b1 => ?_)
      · refine ite2 (fun b2 => kF (by rw [hg, decide_eq_false b2]; simp)) (fun b2 => ?_)
        have b2 : x < n := Classical.not_not.mp b2
        try dsimp only [tNext, tSeq, tMake, cxOf_K, cxOf_P, cxOf_W, rIxT, tDIn, tDNotIn, sDPut, tAug, ipI, ipMul, tBreak, tSl, tPart, tNoPart, rSlL, rIxL, tRaise, tAnd, tOr, tM0, tM1, tIfS, tTest, tB, tChain, tCB, tCons, tNil, tC, tVar, tOp, tUn, rU, rI0, rI, rEq, rNe, tRet, tRetN, tDrop, tAsg, gName, tCall, tAndV, tOrV, tNotV, tNot, L2.start, List.map, List.replicate, List.cons_append, List.nil_append, List.getElem?_cons_zero, List.getElem?_cons_succ, List.set_cons_zero, List.set_cons_succ]
        try simp only [tNext, tSeq, tMake, cxOf_K, cxOf_P, cxOf_W, rIxT, tDIn, tDNotIn, sDPut, tAug, ipI, ipMul, tBreak, tSl, tPart, tNoPart, rSlL, rIxL, tRaise, tAnd, tOr, tM0, tM1, tIfS, tTest, tB, tChain, tCB, tCons, tNil, tC, tVar, tOp, tUn, rU, rI0, rI, rEq, rNe, sc_ii, sc_ss, sc_bb, sc_is, sc_si, tRet, tRetN, tDrop, tAsg, gName, tCall, tAndV, tOrV, tNotV, tNot, L2.start, List.map, List.replicate, List.length_cons, List.length_nil, Nat.sub_self, Nat.reduceAdd, Nat.reduceSub, List.cons_append, List.nil_append, List.append_nil, List.getElem?_cons_zero, List.getElem?_cons_succ, List.set_cons_zero, List.set_cons_succ, Option.some.injEq, V.int.injEq, V.str.injEq, V.bl.injEq, V.ref.injEq, List.cons.injEq, exists_and_left, exists_and_right, exists_eq_left, exists_eq_left', exists_eq_right, exists_eq, true_and, and_true, exists_eq_right_right, decide_eq_true_eq, Bool.not_eq_true', decide_eq_false_iff_not, Bool.and_eq_true, ite_chain, ite_chor, Int.cast_ofNat_Int, Int.natCast_add, Classical.not_not, Bool.false_eq_true, ↓reduceIte]
        refine ⟨_, hS, _, qy, y, rfl, ?_⟩
        refine ite2 (fun b3 => kF (by rw [hg, decide_eq_false (show ¬ 1 ≤ y by omega)]; simp)) (fun b3 => ?_)
        refine ⟨_, hS, _, qx, some (.int (0 + (i : Int) * 2)), x, ⟨rfl, rfl⟩, ?_⟩
        rw [hg, decide_eq_true b1, decide_eq_true b2, decide_eq_true (show 1 ≤ y by omega)]
        rfl
      · exact kF (by rw [hg, decide_eq_false b1]; rfl)
    · rintro σ H' ⟨v, bf, rfl, e, hg⟩
      subst e
      rw [List.drop_of_length_le (by omega)] at hg
      refine ⟨_, rfl, a, ms, rfl, hS, fun H1 s1 => ⟨_, _, rfl, rfl, ?_⟩⟩
      have k1 := kQ H1 s1
      unfold rightM at k1
      rw [hg, hl5] at k1
      exact k1
end
end Pd
end
section
set_option Elab.async false
set_option linter.all false
set_option maxRecDepth 100000
set_option maxHeartbeats 2000000
namespace Pd
open PySem PySem.Spec PyProof.Rows L2 TL
noncomputable abbrev sAskedInit : Stmt := inClass (top 51) 0
theorem headsM_len (n : Nat) (fs : List Int) : (headsM n fs).length ≤ n := by
  unfold headsM
  refine Nat.le_trans (List.length_filter_le _ _) ?_
  simp
theorem raceM_len {ws : List (List Nat)} {r : List Int} (h : raceM ws = some r) : r.length ≤ 24 := by
  unfold raceM at h
  split at h
  · cases h
  split at h
  · cases h
  rename_i n hw
  have hn := within_some hw
  split at h
  · cases h
  cases h
  exact Nat.le_trans (headsM_len _ _) (by omega)
theorem cardM_lens {codes : List Nat} {rs : List (List Int)} {ps : List MP} (h : cardM codes = some (rs, ps)) : ∀ r ∈ rs, r.length ≤ 24 := by
  unfold cardM at h
  split at h
  · cases h
  · cases h
  split at h
  · cases h
  split at h
  · cases h
  split at h
  · cases h
  rename_i hr
  split at h
  · cases h
  split at h
  · cases h
  split at h
  · cases h
    intro r hm
    obtain ⟨ws, _, h1⟩ := mapO_mem hr r hm
    exact raceM_len h1
  · cases h
theorem own_pair {F : V → List Int → Prop} {rv : List V} {rs : List (List Int)} {q : MP} (h : Paired F rv rs) (pin : PIn rs q) : Paired F (ownL .non rv q.kind q.k q.race) (ownL [] rs q.kind q.k q.race) := by
  have r1 := pin.r1
  have r2 := pin.r2
  unfold ownL
  by_cases b : q.kind = wLegs
  · rw [if_pos b, if_pos b]
    exact Paired.take' _ (Paired.drop' _ h)
  · rw [if_neg b, if_neg b]
    have hl : (q.race - 1).toNat < rs.length := by omega
    obtain ⟨v, hv, hf⟩ := Paired.atR h (List.getElem?_eq_getElem hl)
    rw [List.getD_eq_getElem?_getD, List.getD_eq_getElem?_getD, hv, List.getElem?_eq_getElem hl]
    exact .cons hf .nil
section
variable {P : Program} {w : World} {K : PySem.W.Frag} {mg : Str → Option Value} {base : Heap} {NC Cp Ca : Addr}
theorem PoolIn.at {H : Hp} {rv : List V} {rs : List (List Int)} {v : V} {q : MP} (h : PoolIn Cp H rv v q) (hp : Paired (RaceAt H) rv rs) (pin : PIn rs q) : PoolAt Cp H v rs q := by
  obtain ⟨p, dx, Rr, e, h1, h2⟩ := h
  exact ⟨p, dx, Rr, e, h1, _, h2, own_pair hp pin⟩
noncomputable def spCount (Cp : Addr) : Sp := fun vs H Q _ => ∃ (p : Addr) (rs : List (List Int)) (q : MP), vs = [.ref p] ∧ PoolAt Cp H (.ref p) rs q ∧ PIn rs q ∧ (∀ r ∈ rs, r.length ≤ 24) ∧ ∀ H', Same H H' → Q (.int (countM rs q)) H'
theorem scCount : FnScope ["pool", "interests"] ["pool"] (defScope sCount) := ⟨rfl, rfl, rfl, by decide +kernel, rfl, by decide +kernel, by decide +kernel⟩
theorem t_place : Str.ofString "place" = S wPlace := by decide +kernel
theorem t_order : Str.ofString "order" = S wOrder := by decide +kernel
theorem ok_count (D : Def K mg "count_combinations" sCount ["pool"]) (Pl : Cls K Cp) (p2 : NoAttr K Cp "kind") (p3 : NoAttr K Cp "k") (p4 : NoAttr K Cp "races") (T : Tx mg)
    (G_count_rows : Ok P w K mg base CX0 1 "count_rows" ["interests", "k"] spCRows) (G_count_sets : Ok P w K mg base CX0 2 "count_sets" ["interests", "k"] spCSets) (G_count_choices : Ok P w K mg base CX0 1 "count_choices" ["lists"] spCLegs) : Ok P w K mg base CX0 3 "count_combinations" ["pool"] (spCount Cp) := by
  refine D.ok scCount (fun vs H Q E h => ?_) (fun f cdv A outer s H vs Q E hr h => ?_)
  · obtain ⟨_, _, _, rfl, _⟩ := h
    rfl
  · obtain ⟨p, rs, q, rfl, ⟨p', dp, Rr, e, hp, hR⟩, pin, hb, kQ⟩ := h
    cases e
    refine ⟨_, (pss_cons (ps_if (pt_cmpR op_eq (pe_fld (pv 0) rfl) pe_str (nomark _)) (pss_one (ps_ret (pe_own G_count_choices (hr.mono (by decide)) rfl pass0 (pa_cons (pe_fld (pv 0) rfl) pa_nil)))) pss_nil) (pss_cons (ps_set (i := 1) scCount.nd rfl (Or.inl rfl) (pe_callB call_len_seq (by rfl) T.b_len PySem.boot_len (pa_cons (pe_ix ix_list (pe_fld (pv 0) rfl) pe_int (fun _ _ => rfl)) pa_nil))) (pss_cons (ps_if (pt_cmpR op_eq (pe_fld (pv 0) rfl) pe_str (nomark _)) (pss_one (ps_ret (pv 1))) pss_nil) (pss_cons (ps_if (pt_cmpR op_eq (pe_fld (pv 0) rfl) pe_str (nomark _)) (pss_one (ps_ret (pe_own G_count_rows (hr.mono (by decide)) rfl pass0 (pa_cons (pv 1) (pa_cons (pe_fld (pv 0) rfl) pa_nil))))) pss_nil) (pss_one (ps_ret (pe_own G_count_sets (hr.mono (by decide)) rfl pass0 (pa_cons (pv 1) (pa_cons (pe_fld (pv 0) rfl) pa_nil))))))))), ?_⟩
    have kQ0 := kQ H fun _ _ h => h
    have k1 := pin.k1
    have k2 := pin.k2
    have r1 := pin.r1
    have r2 := pin.r2
    refine ⟨_, rfl, p, Cp, dp, _, _, rfl, hp, Pl, p2, rfl, rfl, _, rfl, ?_⟩
    rw [t_legs]
    simp only [V.str.injEq, S_inj, decide_eq_true_eq]
    unfold countM at kQ kQ0
    unfold ownL at hR
    refine ite2 (fun b => ?_) (fun b => ?_)
    · simp only [if_pos b] at kQ kQ0 hR
      refine ⟨_, rfl, p, Cp, dp, _, _, rfl, hp, Pl, p4, rfl, Rr, _, rfl, hR, fun r hr' => ?_, kQ0⟩
      have := hb r (List.mem_of_mem_drop (List.mem_of_mem_take hr'))
      omega
    · simp only [if_neg b] at kQ kQ0 hR
      obtain ⟨as, hA, hpr⟩ := hR
      obtain ⟨v, hv, pr, rfl, hpp⟩ := Paired.atR hpr (i := 0) rfl
      have hrl : (rs.getD (q.race - 1).toNat []).length ≤ 24 := by
        refine hb _ ?_
        rw [List.getD_eq_getElem?_getD, List.getElem?_eq_getElem (show (q.race - 1).toNat < rs.length by omega)]
        exact List.getElem_mem _
      refine ⟨_, rfl, p, Cp, dp, _, _, rfl, hp, Pl, p4, rfl, Rr, _, _, _, rfl, rfl, SqL.of hA, atI_nat hv, pr, _, rfl, .inl (SqL.of hpp), ?_⟩
      refine ⟨_, rfl, p, Cp, dp, _, _, rfl, hp, Pl, p2, rfl, rfl, _, rfl, ?_⟩
      rw [t_place]
      simp only [V.str.injEq, S_inj, decide_eq_true_eq, List.length_map]
      refine ite2 (fun b1 => ?_) (fun b1 => ?_)
      · rw [if_pos b1] at kQ0
        exact ⟨_, rfl, kQ0⟩
      rw [if_neg b1] at kQ0
      refine ⟨_, rfl, p, Cp, dp, _, _, rfl, hp, Pl, p2, rfl, rfl, _, rfl, ?_⟩
      rw [t_order]
      simp only [V.str.injEq, S_inj, decide_eq_true_eq, List.length_map]
      refine ite2 (fun b2 => ?_) (fun b2 => ?_)
      · rw [if_pos b2] at kQ0
        exact ⟨_, rfl, _, rfl, p, Cp, dp, _, _, rfl, hp, Pl, p3, rfl, _, _, rfl, by omega, by omega, by omega, by omega, kQ0⟩
      rw [if_neg b2] at kQ0
      have hd := rows_kk (k := q.k) (by omega) (by omega)
      rw [Int.fdiv_eq_ediv_of_nonneg _ (by omega)] at kQ0
      exact ⟨_, rfl, _, rfl, p, Cp, dp, _, _, rfl, hp, Pl, p3, rfl, _, _, rfl, by omega, by omega, by omega, by omega, kQ0⟩
noncomputable def askF (r c : Int) (v : V) : List (Str × V) := [("refusal", .int r), ("combinations", .int c), ("bet", v)]
noncomputable def spAskedInit (Ca : Addr) : Sp := fun vs H Q _ => ∃ (p dx : Addr) (r c : Int) (v : V), vs = [.ref p, .int r, .int c, v] ∧ H p = some (.ins Ca dx []) ∧ ∀ H', H' p = some (.ins Ca dx (askF r c v)) → (∀ b o, H b = some o → b ≠ p → H' b = some o) → Q .non H'
theorem scAskedInit : FnScope ["self", "refusal", "combinations", "bet"] ["self", "refusal", "combinations", "bet"] (defScope sAskedInit) := ⟨rfl, rfl, rfl, by decide +kernel, rfl, by decide +kernel, by decide +kernel⟩
theorem ok_askedinit {f : Addr} {fd : FuncData} {dV : Value} (F : FunD K "__init__" "Asked.__init__" sAskedInit dV f fd) (C : Cls K Ca) (n1 : NoAttr K Ca "refusal") (n2 : NoAttr K Ca "combinations") (n3 : NoAttr K Ca "bet") :
    FnOkN P w K mg base CX0 1 f fd ["self", "refusal", "combinations", "bet"] (spAskedInit Ca) := by
  refine F.okN scAskedInit (fun vs H Q E h => ?_) (fun cdv A outer s H vs Q E h => ?_)
  · obtain ⟨p, dx, r, c, v, rfl, _⟩ := h
    rfl
  · obtain ⟨p, dx, r, c, v, rfl, hp, k⟩ := h
    refine ⟨_, (pss_cons (ps_fld (pv 0) (pv 1) rfl) (pss_cons (ps_fld (pv 0) (pv 2) rfl) (pss_one (ps_fld (pv 0) (pv 3) rfl)))), ?_⟩
    refine ⟨_, rfl, _, rfl, p, Ca, dx, [], rfl, hp, C, n1, (by decide), ?_⟩
    refine ⟨_, rfl, _, rfl, p, Ca, dx, _, rfl, upd_same, C, n2, putF_1, ?_⟩
    rw [upd_upd]
    refine ⟨_, rfl, _, rfl, p, Ca, dx, _, rfl, upd_same, C, n3, putF_2, ?_⟩
    rw [upd_upd]
    refine k _ ?_ fun b o e hb => by rw [upd_ne hb]; exact e
    rw [upd_same]
    rfl
theorem asked_binds {T : Addr} {t : Tok} {n : Nat} {kV dc pm cd ct : Value} {an : Option Addr} (o : K.lookup T = some { cls := .type "tuple", data := .seq #[.int 0 t, .none] n }) :
    ∀ dvs ∈ ([[], [.non], [.int 0, .non]] : List (List V)), ∃ ds, Binds K (PySem.W.fnOf "__init__" "Asked.__init__" (defArgs sAskedInit) (defBody sAskedInit) (defScope sAskedInit) (.ref T) kV dc pm an cd ct) ["self", "refusal", "combinations", "bet"] ds ∧ Vals dvs ds := by
  intro dvs hd
  simp only [List.mem_cons, List.not_mem_nil, or_false] at hd
  rcases hd with rfl | rfl | rfl
  · exact ⟨[], fun s us KX hl => by obtain ⟨_, _, _, _, rfl⟩ := us_4 (show us.length = 4 by simpa using hl); exact .of_defaults rfl (KX _ _ o) rfl rfl rfl, .nil⟩
  · exact ⟨[.none], fun s us KX hl => by obtain ⟨_, _, _, rfl⟩ := us_3 (show us.length = 3 by simpa using hl); exact .of_defaults rfl (KX _ _ o) rfl rfl rfl, .cons rfl .nil⟩
  · exact ⟨[.int 0 t, .none], fun s us KX hl => by obtain ⟨_, _, rfl⟩ := us_2 (show us.length = 2 by simpa using hl); exact .of_defaults rfl (KX _ _ o) rfl rfl rfl, .cons ⟨_, rfl⟩ (.cons rfl .nil)⟩
noncomputable abbrev CLA (P : Program) (w : World) (K : PySem.W.Frag) (mg : Str → Option Value) (base : Heap) (Ca : Addr) : Prop := CLD P w K mg base "Asked" Ca ["self", "refusal", "combinations", "bet"] (spAskedInit Ca) ["refusal", "combinations", "bet"] [[], [.non], [.int 0, .non]]
end
end Pd
end
section
set_option Elab.async false
set_option linter.all false
set_option maxRecDepth 100000
set_option maxHeartbeats 2000000
namespace Pd
open PySem PySem.Spec PyProof.Rows L2 TL
theorem paired_map {α β : Type} {g : β → α} : ∀ {ys : List α} {zs : List β}, Paired (fun v z => v = g z) ys zs → ys = zs.map g
  | _, _, .nil => rfl
  | _, _, .cons e t => by rw [e, paired_map t]; rfl
section
variable {P : Program} {w : World} {K : PySem.W.Frag} {mg : Str → Option Value} {base : Heap} {NC Cp Ca : Addr}
noncomputable def Moneys (K : PySem.W.Frag) (H : Hp) (M : Addr) (mss : List (List Int)) : Prop := ∃ vs, H M = some (.lst vs) ∧ Paired (fun v m => ∃ p, v = .ref p ∧ SqL K H p (m.map V.int)) vs mss
noncomputable abbrev sAsk : Stmt := top 53
noncomputable def spAsk (K : PySem.W.Frag) (Ca : Addr) : Sp := fun vs H Q _ => ∃ (n : Int) (a M : Addr) (ns : List Int) (mss : List (List Int)), vs = [.int n, .ref a, .ref M] ∧ 0 ≤ n ∧ SqL K H a (ns.map V.int) ∧ (∀ x ∈ ns, 0 ≤ x ∧ x ≤ 255) ∧ ns.length ≤ 66000 ∧ Moneys K H M mss ∧ mss.length ≤ 100 ∧ (∀ m ∈ mss, m.length ≤ 16000 ∧ m.length % 2 = 0) ∧
  ∀ H' x dx, Same H H' → H' x = some (.ins Ca dx (askF (askM n ns mss).1 (askM n ns mss).2 .non)) → Q (.ref x) H'
theorem scAsk : FnScope ["pool", "card", "moneys", "pools", "combinations", "money"] ["pool", "card", "moneys"] (defScope sAsk) := ⟨rfl, rfl, rfl, by decide +kernel, rfl, by decide +kernel, by decide +kernel⟩
theorem ok_ask (D : Def K mg "ask_pool" sAsk ["pool", "card", "moneys"]) (T : Tx mg) (NCF : Nc K mg NC) (G_Asked : CLA P w K mg base Ca) (G_read_card : Ok P w K mg base (CXN P w) 5 "read_card" ["codes"] (spCard K NC Cp))
    (G_is_right : Ok P w K mg base CX0 2 "is_right" ["money", "combinations"] (spRight K)) (G_count_combinations : Ok P w K mg base CX0 3 "count_combinations" ["pool"] (spCount Cp)) : Ok P w K mg base CX0 6 "ask_pool" ["pool", "card", "moneys"] (spAsk K Ca) := by
  refine D.ok0 scAsk (fun vs H Q E h => ?_) (fun f cdv A outer s H vs Q E hr h => ?_)
  · obtain ⟨_, _, _, _, _, rfl, _⟩ := h
    rfl
  · obtain ⟨n, a, M, ns, mss, rfl, n0, hS, hb, hl, ⟨vs, hM, hms⟩, hml, hmm, kQ⟩ := h
    refine ⟨_, (pss0_cons (PS.ps0 (ps_if (pt_cmpR op_gt (pe_callB call_len_seq (by rfl) T.b_len PySem.boot_len (pa_cons (pv 1) pa_nil)) (pe_gint T.g_MOST_CARD_BYTES rfl) (nomark _)) (pss_one (ps_ret (pe_mkD G_Asked (List.Mem.tail _ (List.Mem.tail _ (List.Mem.head _))) (hr.n (by decide)) rfl (pa_cons (pe_un un_neg pe_int) pa_nil)))) pss_nil)) (pss0_cons (ps0_try rfl rfl rfl rfl NCF.mg NCF.ex (by decide +kernel) (fun E xe xr => (pss_one (ps_set (i := 3) scAsk.nd rfl (Or.inl rfl) (pe_own (E := E) G_read_card (hr.mono (by decide)) rfl (passN xr) (pa_cons (pv 1) pa_nil))))) (fun e xe => (pss_one (ps_ret (pe_mkD G_Asked (List.Mem.tail _ (List.Mem.tail _ (List.Mem.head _))) (hr.nm (by decide)) rfl (pa_cons (pe_un un_neg pe_int) pa_nil)))))) (PSs.pss0 (pss_cons (ps_if (pt_cmpR op_ge (pv 0) (pe_callB call_len_seq (by rfl) T.b_len PySem.boot_len (pa_cons (pv 3) pa_nil)) (nomark _)) (pss_one (ps_ret (pe_mkD G_Asked (List.Mem.tail _ (List.Mem.tail _ (List.Mem.head _))) (hr.n (by decide)) rfl (pa_cons (pe_un un_neg pe_int) pa_nil)))) pss_nil) (pss_cons (ps_set (i := 4) scAsk.nd rfl (Or.inr rfl) (pe_own G_count_combinations (hr.mono (by decide)) rfl pass0 (pa_cons (pe_ix ix_list (pv 3) (pv 0) (fun _ _ => rfl)) pa_nil))) (pss_cons (ps_if (pt_not (pt_val (pe_callB (call_allB rfl) (by rfl) T.b_all boot_allB (pa_cons (pe_lc0 (own := [("money", 5)]) rfl scAsk.nd (pi_list (pv 2)) (blkOk_by (N := ["pool", "card", "moneys", "pools", "combinations", "money"]) (sc := defScope sAsk) (by decide +kernel)) (fun _ _ _ _ _ => pg_name (i := 5) scAsk.nd rfl (Or.inl rfl)) (fun _ _ _ _ _ => pts_nil) (fun _ _ _ _ _ => (pe_own G_is_right (hr.mono (by decide)) rfl pass0 (pa_cons (pv 5) (pa_cons (pv 4) pa_nil))))) pa_nil)))) (pss_one (ps_ret (pe_mkD G_Asked (List.Mem.tail _ (List.Mem.tail _ (List.Mem.head _))) (hr.n (by decide)) rfl (pa_cons (pe_un un_neg pe_int) pa_nil)))) pss_nil) (pss_one (ps_ret (pe_mkD G_Asked (List.Mem.tail _ (List.Mem.head _)) (hr.n (by decide)) rfl (pa_cons pe_int (pa_cons (pv 4) pa_nil))))))))))), ?_⟩
    have hz := sizeLine_is
    have eF : askM n ns mss = askM n ns mss := rfl
    conv at eF => rhs; unfold askM
    have mk : ∀ (H1 : Hp) (r c : Int), Same H H1 → askM n ns mss = (r, c) → ∀ x dx, H1 x = none → H1 dx = none → dx ≠ x → spAskedInit Ca [.ref x, .int r, .int c, .non] (upd (upd H1 dx (.own x)) x (.ins Ca dx [])) (fun v H2 => v = .non ∧ Q (.ref x) H2) E0 := by
      intro H1 r c s1 e x dx nx ndx nex
      refine ⟨x, dx, r, c, .non, rfl, upd_same, fun H2 h2 k2 => ⟨rfl, kQ H2 x dx (s1.trans (Same.made nx ndx k2)) ?_⟩⟩
      rw [e]
      exact h2
    try dsimp only [tSeq, tMake, cxOf_K, cxOf_P, cxOf_W, rIxT, tDIn, tDNotIn, sDPut, tAug, ipI, ipMul, tBreak, tSl, tPart, tNoPart, rSlL, rIxL, tRaise, tAnd, tOr, tM0, tM1, tIfS, tTest, tB, tChain, tCB, tCons, tNil, tC, tVar, tOp, tUn, rU, rI0, rI, rEq, rNe, tRet, tRetN, tDrop, tAsg, gName, tCall, tAndV, tOrV, tNotV, tNot, L2.start, List.map, List.replicate, List.cons_append, List.nil_append, List.getElem?_cons_zero, List.getElem?_cons_succ, List.set_cons_zero, List.set_cons_succ]
    try simp only [tSeq, tMake, cxOf_K, cxOf_P, cxOf_W, rIxT, tDIn, tDNotIn, sDPut, tAug, ipI, ipMul, tBreak, tSl, tPart, tNoPart, rSlL, rIxL, tRaise, tAnd, tOr, tM0, tM1, tIfS, tTest, tB, tChain, tCB, tCons, tNil, tC, tVar, tOp, tUn, rU, rI0, rI, rEq, rNe, sc_ii, sc_ss, sc_bb, sc_is, sc_si, tRet, tRetN, tDrop, tAsg, gName, tCall, tAndV, tOrV, tNotV, tNot, L2.start, List.map, List.replicate, List.length_cons, List.length_nil, Nat.sub_self, Nat.reduceAdd, Nat.reduceSub, List.cons_append, List.nil_append, List.append_nil, List.getElem?_cons_zero, List.getElem?_cons_succ, List.set_cons_zero, List.set_cons_succ, Option.some.injEq, V.int.injEq, V.str.injEq, V.bl.injEq, V.ref.injEq, List.cons.injEq, exists_and_left, exists_and_right, exists_eq_left, exists_eq_left', exists_eq_right, exists_eq, true_and, and_true, exists_eq_right_right, decide_eq_true_eq, Bool.not_eq_true', decide_eq_false_iff_not, Bool.and_eq_true, ite_chain, ite_chor, Int.cast_ofNat_Int, Int.natCast_add, Classical.not_not, Bool.false_eq_true, ↓reduceIte]
    refine ⟨_, .inl hS, ?_⟩
    rw [List.length_map]
    refine ite2 (fun b => ?_) (fun b => ?_)
    · rw [if_pos (by omega)] at eF
      exact mk H _ _ Same.rfl' eF
    rw [if_neg (by omega)] at eF
    refine ⟨fun cls _ H' => cls = .ref NC ∧ cardM (codesI ns) = none ∧ Same H H', ?_, ?_⟩
    · refine ⟨_, rfl, a, ns, rfl, hS, hb, hl, fun rs ps ec H1 L s1 hc => ?_, fun ec H1 s1 => ⟨rfl, ec, s1⟩⟩
      have ec' : cardM (codesOf ns) = some (rs, ps) := ec
      rw [ec'] at eF
      dsimp only at eF
      obtain ⟨rv, hR, hll, as, hA, hp⟩ := id hc
      have hlen := Paired.len' hp
      try dsimp only [tSeq, tMake, cxOf_K, cxOf_P, cxOf_W, rIxT, tDIn, tDNotIn, sDPut, tAug, ipI, ipMul, tBreak, tSl, tPart, tNoPart, rSlL, rIxL, tRaise, tAnd, tOr, tM0, tM1, tIfS, tTest, tB, tChain, tCB, tCons, tNil, tC, tVar, tOp, tUn, rU, rI0, rI, rEq, rNe, tRet, tRetN, tDrop, tAsg, gName, tCall, tAndV, tOrV, tNotV, tNot, L2.start, List.map, List.replicate, List.cons_append, List.nil_append, List.getElem?_cons_zero, List.getElem?_cons_succ, List.set_cons_zero, List.set_cons_succ]
      try simp only [gName, tSeq, tMake, cxOf_K, cxOf_P, cxOf_W, rIxT, tDIn, tDNotIn, sDPut, tAug, ipI, ipMul, tBreak, tSl, tPart, tNoPart, rSlL, rIxL, tRaise, tAnd, tOr, tM0, tM1, tIfS, tTest, tB, tChain, tCB, tCons, tNil, tC, tVar, tOp, tUn, rU, rI0, rI, rEq, rNe, sc_ii, sc_ss, sc_bb, sc_is, sc_si, tRet, tRetN, tDrop, tAsg, gName, tCall, tAndV, tOrV, tNotV, tNot, L2.start, List.map, List.replicate, List.length_cons, List.length_nil, Nat.sub_self, Nat.reduceAdd, Nat.reduceSub, List.cons_append, List.nil_append, List.append_nil, List.getElem?_cons_zero, List.getElem?_cons_succ, List.set_cons_zero, List.set_cons_succ, Option.some.injEq, V.int.injEq, V.str.injEq, V.bl.injEq, V.ref.injEq, List.cons.injEq, exists_and_left, exists_and_right, exists_eq_left, exists_eq_left', exists_eq_right, exists_eq, true_and, and_true, exists_eq_right_right, decide_eq_true_eq, Bool.not_eq_true', decide_eq_false_iff_not, Bool.and_eq_true, ite_chain, ite_chor, Int.cast_ofNat_Int, Int.natCast_add, Classical.not_not, Bool.false_eq_true, ↓reduceIte]
      refine ⟨_, .inl (SqL.of hA), ?_⟩
      rw [hlen]
      obtain ⟨j, hj⟩ : ∃ j : Nat, n = (j : Int) := ⟨n.toNat, by omega⟩
      have ej : n.toNat = j := by omega
      rw [ej] at eF
      refine ite2 (fun b1 => ?_) (fun b1 => ?_)
      · rw [List.getElem?_eq_none (by omega)] at eF
        exact mk H1 _ _ s1 eF
      have hjl : j < ps.length := by omega
      rw [List.getElem?_eq_getElem hjl] at eF
      dsimp only at eF
      obtain ⟨v, hv, hpi⟩ := Paired.atR hp (List.getElem?_eq_getElem hjl)
      have pin := cardM_in ec _ (List.getElem_mem hjl)
      have hpa := hpi.at hR pin
      obtain ⟨pp, dp, Rr, rfl, _⟩ := id hpa
      try dsimp only [tNext, tSeq, tMake, cxOf_K, cxOf_P, cxOf_W, rIxT, tDIn, tDNotIn, sDPut, tAug, ipI, ipMul, tBreak, tSl, tPart, tNoPart, rSlL, rIxL, tRaise, tAnd, tOr, tM0, tM1, tIfS, tTest, tB, tChain, tCB, tCons, tNil, tC, tVar, tOp, tUn, rU, rI0, rI, rEq, rNe, tRet, tRetN, tDrop, tAsg, gName, tCall, tAndV, tOrV, tNotV, tNot, L2.start, List.map, List.replicate, List.cons_append, List.nil_append, List.getElem?_cons_zero, List.getElem?_cons_succ, List.set_cons_zero, List.set_cons_succ]
      try simp only [tNext, gName, tSeq, tMake, cxOf_K, cxOf_P, cxOf_W, rIxT, tDIn, tDNotIn, sDPut, tAug, ipI, ipMul, tBreak, tSl, tPart, tNoPart, rSlL, rIxL, tRaise, tAnd, tOr, tM0, tM1, tIfS, tTest, tB, tChain, tCB, tCons, tNil, tC, tVar, tOp, tUn, rU, rI0, rI, rEq, rNe, sc_ii, sc_ss, sc_bb, sc_is, sc_si, tRet, tRetN, tDrop, tAsg, gName, tCall, tAndV, tOrV, tNotV, tNot, L2.start, List.map, List.replicate, List.length_cons, List.length_nil, Nat.sub_self, Nat.reduceAdd, Nat.reduceSub, List.cons_append, List.nil_append, List.append_nil, List.getElem?_cons_zero, List.getElem?_cons_succ, List.set_cons_zero, List.set_cons_succ, Option.some.injEq, V.int.injEq, V.str.injEq, V.bl.injEq, V.ref.injEq, List.cons.injEq, exists_and_left, exists_and_right, exists_eq_left, exists_eq_left', exists_eq_right, exists_eq, true_and, and_true, exists_eq_right_right, decide_eq_true_eq, Bool.not_eq_true', decide_eq_false_iff_not, Bool.and_eq_true, ite_chain, ite_chor, Int.cast_ofNat_Int, Int.natCast_add, Classical.not_not, Bool.false_eq_true, ↓reduceIte]
      refine ⟨_, SqL.of hA, _, at_of hj hv, pp, rs, ps[j], rfl, hpa, pin, cardM_lens ec, fun H2 s2 => ?_⟩
      try dsimp only [tNext, tSeq, tMake, cxOf_K, cxOf_P, cxOf_W, rIxT, tDIn, tDNotIn, sDPut, tAug, ipI, ipMul, tBreak, tSl, tPart, tNoPart, rSlL, rIxL, tRaise, tAnd, tOr, tM0, tM1, tIfS, tTest, tB, tChain, tCB, tCons, tNil, tC, tVar, tOp, tUn, rU, rI0, rI, rEq, rNe, tRet, tRetN, tDrop, tAsg, gName, tCall, tAndV, tOrV, tNotV, tNot, L2.start, List.map, List.replicate, List.cons_append, List.nil_append, List.getElem?_cons_zero, List.getElem?_cons_succ, List.set_cons_zero, List.set_cons_succ]
      try simp only [tNext, gName, tSeq, tMake, cxOf_K, cxOf_P, cxOf_W, rIxT, tDIn, tDNotIn, sDPut, tAug, ipI, ipMul, tBreak, tSl, tPart, tNoPart, rSlL, rIxL, tRaise, tAnd, tOr, tM0, tM1, tIfS, tTest, tB, tChain, tCB, tCons, tNil, tC, tVar, tOp, tUn, rU, rI0, rI, rEq, rNe, sc_ii, sc_ss, sc_bb, sc_is, sc_si, tRet, tRetN, tDrop, tAsg, gName, tCall, tAndV, tOrV, tNotV, tNot, L2.start, List.map, List.replicate, List.length_cons, List.length_nil, Nat.sub_self, Nat.reduceAdd, Nat.reduceSub, List.cons_append, List.nil_append, List.append_nil, List.getElem?_cons_zero, List.getElem?_cons_succ, List.set_cons_zero, List.set_cons_succ, Option.some.injEq, V.int.injEq, V.str.injEq, V.bl.injEq, V.ref.injEq, List.cons.injEq, exists_and_left, exists_and_right, exists_eq_left, exists_eq_left', exists_eq_right, exists_eq, true_and, and_true, exists_eq_right_right, decide_eq_true_eq, Bool.not_eq_true', decide_eq_false_iff_not, Bool.and_eq_true, ite_chain, ite_chor, Int.cast_ofNat_Int, Int.natCast_add, Classical.not_not, Bool.false_eq_true, ↓reduceIte]
      have s12 := s1.trans s2
      have hM2 := s12 _ _ hM
      have hlen2 := Paired.len' hms
      refine ⟨_, rfl, M, rfl, ⟨_, SqL.of hM2⟩, fun D hD => ?_⟩
      refine lc_relS (xs := vs) (fun H v (b : Bool) => v = .bl b) mss (fun m => some (rightM m (countM rs ps[j]))) hlen2.symm (by omega) hD (SqL.of hM2) (fun _ _ _ _ _ e => e) ?_ ?_
      · intro i x m H3 hx hm s3 _ R k
        obtain ⟨m', hm', p, rfl, hsp⟩ := Paired.at' hms hx
        have eu : m' = m := Option.some.inj (hm'.symm.trans hm)
        subst eu
        have := hmm m' (List.mem_of_getElem? hm)
        exact ⟨_, rfl, _, rfl, p, m', _, rfl, (s12.trans s3).seq hsp, by omega, this.2, fun H4 s4 => k _ _ _ rfl s4 rfl⟩
      · intro H3 ys zs s3 hys hm hp3
        rw [mapO_some] at hm
        cases hm
        refine ⟨D, rfl, mss.map fun m => rightM m (countM rs ps[j]), SqL.of (by rw [hys, paired_map hp3]), ?_⟩
        rw [List.all_map]
        refine ite2 (fun b2 => ?_) (fun b2 => ?_)
        · rw [if_neg (by rw [show mss.all (fun m => rightM m (countM rs ps[j])) = false from b2]; decide)] at eF
          exact mk H3 _ _ (s12.trans s3) eF
        · rw [if_pos (by simpa using b2)] at eF
          exact mk H3 _ _ (s12.trans s3) eF
    · rintro σ' H' cls d ⟨rfl, ec, s1⟩
      have ec' : cardM (codesOf ns) = none := ec
      rw [ec'] at eF
      refine ⟨rfl, ?_⟩
      try dsimp only [tSeq, tMake, cxOf_K, cxOf_P, cxOf_W, rIxT, tDIn, tDNotIn, sDPut, tAug, ipI, ipMul, tBreak, tSl, tPart, tNoPart, rSlL, rIxL, tRaise, tAnd, tOr, tM0, tM1, tIfS, tTest, tB, tChain, tCB, tCons, tNil, tC, tVar, tOp, tUn, rU, rI0, rI, rEq, rNe, tRet, tRetN, tDrop, tAsg, gName, tCall, tAndV, tOrV, tNotV, tNot, L2.start, List.map, List.replicate, List.cons_append, List.nil_append, List.getElem?_cons_zero, List.getElem?_cons_succ, List.set_cons_zero, List.set_cons_succ]
      try simp only [tSeq, tMake, cxOf_K, cxOf_P, cxOf_W, rIxT, tDIn, tDNotIn, sDPut, tAug, ipI, ipMul, tBreak, tSl, tPart, tNoPart, rSlL, rIxL, tRaise, tAnd, tOr, tM0, tM1, tIfS, tTest, tB, tChain, tCB, tCons, tNil, tC, tVar, tOp, tUn, rU, rI0, rI, rEq, rNe, sc_ii, sc_ss, sc_bb, sc_is, sc_si, tRet, tRetN, tDrop, tAsg, gName, tCall, tAndV, tOrV, tNotV, tNot, L2.start, List.map, List.replicate, List.length_cons, List.length_nil, Nat.sub_self, Nat.reduceAdd, Nat.reduceSub, List.cons_append, List.nil_append, List.append_nil, List.getElem?_cons_zero, List.getElem?_cons_succ, List.set_cons_zero, List.set_cons_succ, Option.some.injEq, V.int.injEq, V.str.injEq, V.bl.injEq, V.ref.injEq, List.cons.injEq, exists_and_left, exists_and_right, exists_eq_left, exists_eq_left', exists_eq_right, exists_eq, true_and, and_true, exists_eq_right_right, decide_eq_true_eq, Bool.not_eq_true', decide_eq_false_iff_not, Bool.and_eq_true, ite_chain, ite_chor, Int.cast_ofNat_Int, Int.natCast_add, Classical.not_not, Bool.false_eq_true, ↓reduceIte]
      exact mk H' _ _ s1 eF
end
end Pd
end
section
set_option Elab.async false
set_option linter.all false
set_option maxRecDepth 100000
set_option maxHeartbeats 2000000
namespace L2
open PySem PySem.Spec PyProof.Rows
noncomputable abbrev IsZipB (h : Heap) (z TI TO T : Addr) (b : Bool) : Prop :=
  h.get? z = some { cls := .type "zip", dict := none, data := .fields #[rawInt T, .bool b, .bool false, .ref TI, .ref TO], slots := #[] }
section
variable {prog : Program} {w : World} {A : Around} {E : Value → Shared → Prop} {s : Shared}
theorem wpAny_loadIfAlive {M : Model} {a : Addr} {Q : Option Obj → Shared → Prop} (h : Q (s.heap.get? a) s) : wpAny M A (loadIfAlive a) Q E s := fun Γ p _ => h
theorem zip_busy {z TI TO T : Addr} {b : Bool} {oT : Obj} {Q : Bool → Shared → Prop} (hz : IsZipB s.heap z TI TO T b) (hT : s.heap.get? T = some oT)
    (h : ∀ h', IsZipB h' z TI TO T true → Heap.SameBut z s.heap h' → Q false { s with heap := h' }) : wpAny (model prog w) A (Builtin.SmallTypes.ownedTupleIsFree (.ref z)) Q E s := by
  unfold Builtin.SmallTypes.ownedTupleIsFree
  refine wpAny_bind (wpAny_field hz rfl (x := rawInt T) rfl ?_)
  show wpAny _ _ (loadIfAlive (Int.toNat (T : Int)) >>= _) _ _ _
  rw [Int.toNat_natCast]
  refine wpAny_bind (wpAny_loadIfAlive ?_)
  rw [hT, if_neg (by simp)]
  refine wpAny_bind (wpAny_field hz rfl (x := .bool b) rfl ?_)
  cases b with
  | true =>
    rw [if_neg (by simp)]
    exact wpAny_pure (h s.heap hz ⟨rfl, fun _ _ => rfl⟩)
  | false =>
    rw [if_pos (by decide)]
    refine wpAny_bind (wpAny_setField_rec hz (by simp) fun h₁ hz₁ hs₁ => ?_)
    exact wpAny_pure (h h₁ hz₁ hs₁)
theorem zip_next_busy {z TI TO T i1 i2 l1 l2 : Addr} {k1 k2 : Nat} {xs ys : Array Value} {x y : Value} {b : Bool} {oT : Obj} {Q : Value → Shared → Prop} (D : ZipApart z TI TO i1 i2 l1 l2)
    (hz : IsZipB s.heap z TI TO T b) (hT : s.heap.get? T = some oT) (hTI : IsPair s.heap TI (.ref i1) (.ref i2))
    (h1 : s.heap.IsListIter i1 l1 k1) (h2 : s.heap.IsListIter i2 l2 k2) (hl1 : s.heap.IsList l1 xs) (hl2 : s.heap.IsList l2 ys) (hx : xs[k1]? = some x) (hy : ys[k2]? = some y)
    (hQ : ∀ h', IsZipB h' z TI TO T true → h'.IsListIter i1 l1 (k1 + 1) → h'.IsListIter i2 l2 (k2 + 1) → IsPair h' s.heap.objs.size x y →
      (∀ c o, c ≠ z → c ≠ i1 → c ≠ i2 → s.heap.get? c = some o → h'.get? c = some o) → Q (.ref s.heap.objs.size) { s with heap := h' }) :
    wpAny (model prog w) A (Builtin.«zip.__next__» ⟨[.ref z], []⟩) (fun fin s' => ∃ v, fin = .done (.ret v) ∧ Q v s') E s := by
  show wpAny _ _ (field (.ref z) 2 >>= _) _ _ _
  refine wpAny_bind (wpAny_field hz rfl (x := .bool false) rfl ?_)
  show wpAny _ _ (field (.ref z) 3 >>= _) _ _ _
  refine wpAny_bind (wpAny_field hz rfl (x := .ref TI) rfl ?_)
  refine wpAny_bind (wpAny_seqItems hTI rfl ?_)
  show wpAny _ _ (Builtin.SmallTypes.ownedTupleIsFree (.ref z) >>= _) _ _ _
  refine wpAny_bind (zip_busy hz hT fun h₁ hz₁ hs₁ => ?_)
  rw [if_neg (by simp)]
  have hsz1 := hs₁.1
  dsimp only
  refine wpAny_bind ?_
  rw [← Array.forIn_toList]
  show wpAny _ _ (forIn [Value.ref i1, Value.ref i2] _ _) _ _ _
  simp only [List.forIn_cons, List.forIn_nil]
  refine wpAny_bind (wpAny_bind (wpAny_holding ?_))
  show wpAny _ _ (Builtin.SmallTypes.nextOf (.ref i1) >>= _) _ _ _
  refine wpAny_bind (wpAny_nextOf_list_item (h1.extBut hs₁.extBut D.i1z) (hl1.extBut hs₁.extBut D.l1z) hx fun h₂ h1₂ hs₂ => wpAny_pure ?_)
  refine wpAny_pure ?_
  dsimp only
  refine wpAny_bind (wpAny_bind (wpAny_holding ?_))
  show wpAny _ _ (Builtin.SmallTypes.nextOf (.ref i2) >>= _) _ _ _
  refine wpAny_bind (wpAny_nextOf_list_item ((h2.extBut hs₁.extBut D.i2z).extBut hs₂.extBut D.i12.symm)
    ((hl2.extBut hs₁.extBut D.l2z).extBut hs₂.extBut D.l2i1) hy fun h₃ h2₃ hs₃ => wpAny_pure ?_)
  refine wpAny_pure ?_
  dsimp only
  refine wpAny_pure ?_
  dsimp only
  refine wpAny_bind (wpAny_newTuple ?_ (by show 2 ≤ sizeLine; rw [sizeLine_eq]; decide))
  have hsz : h₃.objs.size = s.heap.objs.size := by rw [hs₃.1, hs₂.1, hs₁.1]
  refine wpAny_pure ⟨_, rfl, ?_⟩
  show Q (.ref h₃.objs.size) { s with heap := h₃.push { cls := .type "tuple", data := .seq #[x, y] } }
  rw [hsz]
  have up : ∀ c o, h₃.get? c = some o → (h₃.push { cls := .type "tuple", data := .seq #[x, y] }).get? c = some o := fun c o e => Heap.get?_push_of_some _ e
  refine hQ _ (up _ _ (hs₃.extBut _ _ D.i2z.symm (hs₂.extBut _ _ D.i1z.symm hz₁))) ((h1₂.extBut hs₃.extBut D.i12).at fun o e => up _ o e) (h2₃.at fun o e => up _ o e) ?_ fun c o c1 c2 c3 e => up c o (hs₃.extBut _ _ c3 (hs₂.extBut _ _ c2 (hs₁.extBut _ _ c1 e)))
  rw [← hsz]
  exact Heap.get?_push_size _ rfl
theorem zip_end_busy {z TI TO T i1 i2 l1 l2 : Addr} {k1 k2 : Nat} {xs ys : Array Value} {b : Bool} {oT : Obj} {Q : Fin → Shared → Prop} (hh : A.handled = none) (D : ZipApart z TI TO i1 i2 l1 l2)
    (hz : IsZipB s.heap z TI TO T b) (hT : s.heap.get? T = some oT) (hTI : IsPair s.heap TI (.ref i1) (.ref i2))
    (h1 : s.heap.IsListIter i1 l1 k1) (hl1 : s.heap.IsList l1 xs) (hx : xs[k1]? = none)
    (hE : ∀ h' e, (∀ c o, c ≠ z → c ≠ i1 → s.heap.get? c = some o → h'.get? c = some o) → (∃ o, h'.get? e = some o ∧ o.cls = .type "StopIteration") → E (.ref e) { s with heap := h' }) :
    wpAny (model prog w) A (Builtin.«zip.__next__» ⟨[.ref z], []⟩) Q E s := by
  show wpAny _ _ (field (.ref z) 2 >>= _) _ _ _
  refine wpAny_bind (wpAny_field hz rfl (x := .bool false) rfl ?_)
  show wpAny _ _ (field (.ref z) 3 >>= _) _ _ _
  refine wpAny_bind (wpAny_field hz rfl (x := .ref TI) rfl ?_)
  refine wpAny_bind (wpAny_seqItems hTI rfl ?_)
  show wpAny _ _ (Builtin.SmallTypes.ownedTupleIsFree (.ref z) >>= _) _ _ _
  refine wpAny_bind (zip_busy hz hT fun h₁ hz₁ hs₁ => ?_)
  rw [if_neg (by simp)]
  dsimp only
  refine wpAny_bind ?_
  rw [← Array.forIn_toList]
  show wpAny _ _ (forIn [Value.ref i1, Value.ref i2] _ _) _ _ _
  simp only [List.forIn_cons, List.forIn_nil]
  refine wpAny_bind (wpAny_bind (wpAny_holding ?_))
  show wpAny _ _ (Builtin.SmallTypes.nextOf (.ref i1) >>= _) _ _ _
  refine wpAny_bind (wpAny_nextOf_list_end hh (h1.extBut hs₁.extBut D.i1z) (hl1.extBut hs₁.extBut D.l1z) hx fun h₂ e hs₂ he => ?_)
  exact hE h₂ e (fun c o c1 c3 x => hs₂ _ _ c3 (hs₁.extBut _ _ c1 x)) he
theorem pyNext_zip_busy {z TI TO T i1 i2 l1 l2 : Addr} {k1 k2 : Nat} {xs ys : Array Value} {x y : Value} {b : Bool} {oT : Obj} {Q : Option Value → Shared → Prop} (D : ZipApart z TI TO i1 i2 l1 l2)
    (hz : IsZipB s.heap z TI TO T b) (hT : s.heap.get? T = some oT) (hTI : IsPair s.heap TI (.ref i1) (.ref i2))
    (h1 : s.heap.IsListIter i1 l1 k1) (h2 : s.heap.IsListIter i2 l2 k2) (hl1 : s.heap.IsList l1 xs) (hl2 : s.heap.IsList l2 ys) (hx : xs[k1]? = some x) (hy : ys[k2]? = some y)
    (hQ : ∀ h', IsZipB h' z TI TO T true → h'.IsListIter i1 l1 (k1 + 1) → h'.IsListIter i2 l2 (k2 + 1) → IsPair h' s.heap.objs.size x y →
      (∀ c o, c ≠ z → c ≠ i1 → c ≠ i2 → s.heap.get? c = some o → h'.get? c = some o) → Q (some (.ref s.heap.objs.size)) { s with heap := h' }) :
    wpAny (model prog w) A (pyNext (.ref z)) Q E s := by
  have hTy : s.TypeIs (.ref z) "zip" := ⟨_, hz, rfl⟩
  unfold pyNext
  exact wpAny_bind (wpAny_attempt (wpAny_callSpecial?_slot (name := Str.ofString "__next__") hTy PySem.F.slot_zip_next
    (wpAny_call_entry PySem.F.slot_zip_next hTy PySem.F.entry_zip_next
      (zip_next_busy D hz hT hTI h1 h2 hl1 hl2 hx hy fun h' a1 a2 a3 a4 a5 => wpAny_pure (hQ h' a1 a2 a3 a4 a5)) (PySem.F.args_zip_next_1 _))))
theorem pyNext_zip_endB {z TI TO T i1 i2 l1 l2 : Addr} {k1 k2 : Nat} {xs ys : Array Value} {b : Bool} {oT : Obj} {Q : Option Value → Shared → Prop} (hh : A.handled = none) (D : ZipApart z TI TO i1 i2 l1 l2)
    (hz : IsZipB s.heap z TI TO T b) (hT : s.heap.get? T = some oT) (hTI : IsPair s.heap TI (.ref i1) (.ref i2))
    (h1 : s.heap.IsListIter i1 l1 k1) (hl1 : s.heap.IsList l1 xs) (hx : xs[k1]? = none)
    (hQ : ∀ h', (∀ c o, c ≠ z → c ≠ i1 → s.heap.get? c = some o → h'.get? c = some o) → Q none { s with heap := h' }) : wpAny (model prog w) A (pyNext (.ref z)) Q E s := by
  have hTy : s.TypeIs (.ref z) "zip" := ⟨_, hz, rfl⟩
  unfold pyNext
  refine wpAny_bind (wpAny_attempt (wpAny_callSpecial?_slot (name := Str.ofString "__next__") hTy PySem.F.slot_zip_next
    (wpAny_call_entry PySem.F.slot_zip_next hTy PySem.F.entry_zip_next (zip_end_busy (i2 := i2) (l2 := l2) (ys := ys) (k2 := k2) hh D hz hT hTI h1 hl1 hx fun h' e hk he => ?_) (PySem.F.args_zip_next_1 _))))
  obtain ⟨o, ho, hc⟩ := he
  refine wpAny_bind (wpAny_isInstance (T := "StopIteration") (b := true) ⟨o, ho, hc⟩ isSubtype_stop ?_)
  exact wpAny_pure (hQ _ hk)
theorem zip_keys_none : typeLookup (.type "zip") "keys" = pure none := am_miss_of_fast (by first | decide +kernel | rfl)
theorem zip_getattr_none : typeLookup (.type "zip") "__getattr__" = pure none := am_miss_of_fast (by first | decide +kernel | rfl)
theorem entry_zip_getattribute : entryFor table "zip.__getattribute__" = some Builtin.«object.__getattribute__» :=
  entryFor_alias (id' := "object.__getattribute__") (by kernel_rfl) (by decide +kernel) (by decide +kernel) (by kernel_rfl)
theorem meets_miss_zip (a : Addr) (fs : Array Value) (sl : Array (Option Value)) (name : Str) (u : Tok) (hmiss : typeLookup (.type "zip") name = pure none) (hname : (["__module__", "__name__", "__qualname__", "__doc__", "__annotations__"] : List Str).contains name = false) (hsz : name.length + 100 ≤ sizeLine := by size_fits) :
    Meets (Builtin.«object.__getattribute__» ⟨[.ref a, .str name u], []⟩) (fun A R s => s.heap.get? a = some { cls := .type "zip", dict := none, data := .fields fs, slots := sl } ∧ raisesAttr (.ref a) name A R s) :=
  Meets.of_wp fun prog w A R s hs => by
    obtain ⟨hp, g, d, tk, os⟩ := s
    obtain ⟨hx, hs⟩ := hs
    have hT : (⟨hp, g, d, tk, os⟩ : Shared).TypeIs (.ref a) "zip" := ⟨_, hx, rfl⟩
    unfold Builtin.«object.__getattribute__»
    repeat (any_goals (first | assumption | wp_step))
    simp -iota only [hname, Bool.false_eq_true, if_false]
    repeat (any_goals (first | assumption | wp_step))
    exact wpAny_raiseAttrError hs.1 hs.2 (attrMsg_fits (by decide +kernel) hsz)
theorem miss_zip {a : Addr} {fs : Array Value} {Q : Option Value → Shared → Prop} (hx : s.heap.get? a = some { cls := .type "zip", dict := none, data := .fields fs, slots := #[] }) (hA : A.handled = none)
    (h : ∀ h' tk, (∀ b ob, s.heap.get? b = some ob → h'.get? b = some ob) → Q none { s with heap := h', toks := tk }) : wpAny (model prog w) A (getAttr? (.ref a) "keys") Q E s := by
  obtain ⟨hp, g, d, tk, os⟩ := s
  have hT : ∀ tk', (⟨hp, g, d, tk', os⟩ : Shared).TypeIs (.ref a) "zip" := fun _ => ⟨_, hx, rfl⟩
  have hmiss := zip_keys_none
  have hname : (["__module__", "__name__", "__qualname__", "__doc__", "__annotations__"] : List Str).contains "keys" = false := by decide +kernel
  have hsz : ("keys" : Str).length + 100 ≤ sizeLine := by first | size_fits | decide +kernel
  have f1 := sub_AttributeError
  have f3 := PySem.F.slot_zip_getattribute.lookup
  have f4 := PySem.F.slot_zip_getattribute.bind (.ref a)
  have f5 := zip_getattr_none
  unfold getAttr? getAttrBy? getAttrBy
  repeat (any_goals (first | assumption | exact hT _ | ((with_reducible show wpAny _ _ (call (Value.builtin "zip.__getattribute__") _ _) _ _ _); refine call_meets PySem.F.slot_zip_getattribute (hT _) entry_zip_getattribute (PySem.F.args_zip_getattribute_2 _ _) (meets_miss_zip a fs #[] "keys" _ hmiss hname hsz) ⟨hx, hA, fun h' tk' e hx' => ?_⟩) | wp_step))
  obtain ⟨t', u', he⟩ := hx'.there
  show wpAny _ _ (getattributeRaised _ _ _ _ _ _ _) _ _ _
  unfold getattributeRaised
  repeat (any_goals (first | assumption | wp_step))
  all_goals first | exact h _ _ hx'.keeps | (dsimp only; repeat (any_goals (first | assumption | exact h _ _ hx'.keeps | wp_step)))
end
end L2
end
section
set_option Elab.async false
set_option linter.all false
set_option maxRecDepth 100000
set_option maxHeartbeats 2000000
namespace L2
open PySem PySem.Spec PyProof.Rows
noncomputable def ZipSt (h : Heap) (z TI TO : Addr) : Prop := (IsZip h z TI TO .none ∧ ∃ a b, IsPair h TO a b) ∨ ∃ T b oT, IsZipB h z TI TO T b ∧ h.get? T = some oT ∧ T ≠ z
structure ZipAt (h : Heap) (z TI TO i1 i2 l1 l2 : Addr) (k : Nat) (xs ys : Array Value) : Prop where
  st : ZipSt h z TI TO
  ti : IsPair h TI (.ref i1) (.ref i2)
  i1 : h.IsListIter i1 l1 k
  i2 : h.IsListIter i2 l2 k
  l1 : h.IsList l1 xs
  l2 : h.IsList l2 ys
section
variable {prog : Program} {w : World} {A : Around} {E : Value → Shared → Prop}
theorem zip_step {s : Shared} {z TI TO i1 i2 l1 l2 : Addr} {k : Nat} {xs ys : Array Value} {x y : Value} {Q : Option Value → Shared → Prop} (D : ZipApart z TI TO i1 i2 l1 l2) (Z : ZipAt s.heap z TI TO i1 i2 l1 l2 k xs ys) (hx : xs[k]? = some x) (hy : ys[k]? = some y)
    (hQ : ∀ h', ZipAt h' z TI TO i1 i2 l1 l2 (k + 1) xs ys → IsPair h' s.heap.objs.size x y → (∀ c o, c ≠ z → c ≠ TO → c ≠ i1 → c ≠ i2 → s.heap.get? c = some o → h'.get? c = some o) → Q (some (.ref s.heap.objs.size)) { s with heap := h' }) :
    wpAny (model prog w) A (pyNext (.ref z)) Q E s := by
  rcases Z.st with ⟨hz, a, b, hTO⟩ | ⟨T, b, oT, hz, hT, hTz⟩
  · have hzl : z < s.heap.objs.size := Heap.lt_size hz
    refine wpAny_pyNext_zip_item D hz Z.ti hTO Z.i1 Z.i2 Z.l1 Z.l2 hx hy fun h' z' TO' h1' h2' hT hsz hk => ?_
    refine hQ h' ⟨.inr ⟨_, false, _, z', hT, Nat.ne_of_gt hzl⟩, hk _ _ D.TIz D.TITO D.TIi1 D.TIi2 Z.ti, h1', h2', Z.l1.at fun o e => hk _ o D.l1z D.l1TO D.l1i1 D.l1i2 e, Z.l2.at fun o e => hk _ o D.l2z D.l2TO D.l2i1 D.l2i2 e⟩ hT hk
  · refine pyNext_zip_busy D hz hT Z.ti Z.i1 Z.i2 Z.l1 Z.l2 hx hy fun h' z' h1' h2' hT' hk => ?_
    have hT2 : ∃ oT', h'.get? T = some oT' := by
      by_cases c1 : T = i1
      · subst c1
        obtain ⟨o, e, _⟩ := h1'
        exact ⟨o, e⟩
      · by_cases c2 : T = i2
        · subst c2
          obtain ⟨o, e, _⟩ := h2'
          exact ⟨o, e⟩
        · exact ⟨oT, hk _ _ hTz c1 c2 hT⟩
    obtain ⟨oT', hT2⟩ := hT2
    exact hQ h' ⟨.inr ⟨T, true, oT', z', hT2, hTz⟩, hk _ _ D.TIz D.TIi1 D.TIi2 Z.ti, h1', h2', Z.l1.at fun o e => hk _ o D.l1z D.l1i1 D.l1i2 e, Z.l2.at fun o e => hk _ o D.l2z D.l2i1 D.l2i2 e⟩ hT' fun c o c1 _ c3 c4 e => hk c o c1 c3 c4 e
theorem zip_stop {s : Shared} {z TI TO i1 i2 l1 l2 : Addr} {k : Nat} {xs ys : Array Value} {Q : Option Value → Shared → Prop} (hh : A.handled = none) (D : ZipApart z TI TO i1 i2 l1 l2) (Z : ZipAt s.heap z TI TO i1 i2 l1 l2 k xs ys) (hx : xs[k]? = none)
    (hQ : ∀ h', (∀ c o, c ≠ z → c ≠ TO → c ≠ i1 → c ≠ i2 → s.heap.get? c = some o → h'.get? c = some o) → Q none { s with heap := h' }) :
    wpAny (model prog w) A (pyNext (.ref z)) Q E s := by
  rcases Z.st with ⟨hz, a, b, hTO⟩ | ⟨T, b, oT, hz, hT, hTz⟩
  · exact wpAny_pyNext_zip_end hh D hz Z.ti hTO Z.i1 Z.i2 Z.l1 Z.l2 (.inl hx) hQ
  · exact pyNext_zip_endB (ys := ys) (k2 := k) hh D hz hT Z.ti Z.i1 Z.l1 hx fun h' hk => hQ h' fun c o c1 _ c3 _ e => hk c o c1 c3 e
theorem ZipAt.at {h h' : Heap} {z TI TO i1 i2 l1 l2 : Addr} {k : Nat} {xs ys : Array Value} (Z : ZipAt h z TI TO i1 i2 l1 l2 k xs ys) {S : Addr} (hS : ∀ c, c = z ∨ c = TI ∨ c = TO ∨ c = i1 ∨ c = i2 ∨ c = l1 ∨ c = l2 → c ≠ S) (there : ∀ b, (∃ o, h.get? b = some o) → ∃ o, h'.get? b = some o) (hk : ∀ c o, c ≠ S → h.get? c = some o → h'.get? c = some o) : ZipAt h' z TI TO i1 i2 l1 l2 k xs ys := by
  refine ⟨?_, hk _ _ (hS _ (by simp)) Z.ti, Z.i1.at fun o e => hk _ o (hS _ (by simp)) e, Z.i2.at fun o e => hk _ o (hS _ (by simp)) e, Z.l1.at fun o e => hk _ o (hS _ (by simp)) e, Z.l2.at fun o e => hk _ o (hS _ (by simp)) e⟩
  rcases Z.st with ⟨hz, a, b, hTO⟩ | ⟨T, b, oT, hz, hT, hTz⟩
  · exact .inl ⟨hk _ _ (hS _ (by simp)) hz, a, b, hk _ _ (hS _ (by simp)) hTO⟩
  · obtain ⟨o', e'⟩ := there T ⟨_, hT⟩
    exact .inr ⟨T, b, o', hk _ _ (hS _ (by simp)) hz, e', hTz⟩
theorem upd_loopZ {R : Result → Shared → Prop} {S z TI TO i1 i2 l1 l2 : Addr} {xs ys : Array Value} {res : Value} (hh : A.handled = none) (D : ZipApart z TI TO i1 i2 l1 l2) (hS : ∀ c, c = z ∨ c = TI ∨ c = TO ∨ c = i1 ∨ c = i2 ∨ c = l1 ∨ c = l2 → c ≠ S) :
    ∀ (rest : List (Key × Value)) (i : Nat) (acc : List (Key × Value)) (ix : Int) (t : Tok) (s : Shared), xs.size = i + rest.length → acc.length + rest.length ≤ sizeLine →
      (∀ (j : Nat) (q : Key × Value), rest[j]? = some q → ∃ u : Value, xs[i + j]? = some u ∧ ys[i + j]? = some q.2 ∧ keyIs q.1 u = true) →
      ZipAt s.heap z TI TO i1 i2 l1 l2 i xs ys → s.heap.DictOf (mixKind prog w) S acc →
      (∀ h' tk, h'.DictOf (mixKind prog w) S (merged acc rest) → (∀ b o, b ≠ S → b ≠ z → b ≠ TO → b ≠ i1 → b ≠ i2 → s.heap.get? b = some o → h'.get? b = some o) → R (.ok (.ret res)) { s with heap := h', toks := tk }) →
      codeAny (model prog w) A (.builtin "dict.update.loop" ⟨[.ref S, .ref z, .int ix t, res], []⟩) R s
  | [], i, acc, ix, t, s, hsz, hln, ht, Z, hm, hR => by
    refine codeAny_builtin ud_entry ?_
    rw [Around.under_plainId ud_plain _]
    show wpAny _ A.in1 (pyNext (.ref z) >>= _) _ _ s
    refine wpAny_bind (zip_stop (A := A.in1) hh D Z (by simp at hsz; simp; omega) fun h' he => ?_)
    show wpAny _ A.in1 (Builtin.Dict.addKeywords S [] >>= _) _ _ _
    refine wpAny_bind (wpAny_pure (wpAny_pure ?_))
    exact hR h' s.toks (hm.at fun o e => he _ o (hS _ (by simp)).symm (hS _ (by simp)).symm (hS _ (by simp)).symm (hS _ (by simp)).symm e) fun b o _ h1 h2 h3 h4 e => he b o h1 h2 h3 h4 e
  | q :: rest, i, acc, ix, t, s, hsz, hln, ht, Z, hm, hR => by
    obtain ⟨u, hxu, hyq, hk⟩ := ht 0 q rfl
    rw [List.length_cons] at hsz hln
    refine codeAny_builtin ud_entry ?_
    rw [Around.under_plainId ud_plain _]
    show wpAny _ A.in1 (pyNext (.ref z) >>= _) _ _ s
    refine wpAny_bind (zip_step D Z (by simpa using hxu) (by simpa using hyq) fun h1 Z1 hT1 hk1 => ?_)
    have hSlt : S < s.heap.objs.size := by
      obtain ⟨o, es, ep, ho, _⟩ := id hm
      exact Heap.lt_size ho
    have hm1 : h1.DictOf (mixKind prog w) S acc := hm.at fun o e => hk1 _ o (hS _ (by simp)).symm (hS _ (by simp)).symm (hS _ (by simp)).symm (hS _ (by simp)).symm e
    show wpAny _ A.in1 (holding [Value.ref s.heap.objs.size] _ >>= _) _ _ _
    refine wpAny_bind (wpAny_holding ?_)
    refine wpAny_bind (wpAny_tryCatch ?_)
    unfold Builtin.Dict.pairItems
    refine wpAny_bind (wpAny_typeOf (T := "tuple") ⟨_, hT1, rfl⟩ ?_)
    rw [if_pos (by first | decide | rfl | simp)]
    refine wpAny_bind (wpAny_seqItems hT1 rfl (wpAny_pure ?_))
    show wpAny _ A.in1 (holding [u, q.2] (dictSet S u q.2)) _ _ _
    refine wpAny_holding (wpAny_dictSet_pairs (knd := mixKind prog w) (k := q.1) hk hm1 (fun h2 hm2 hs2 => ?_) (by omega))
    have Z2 : ZipAt h2 z TI TO i1 i2 l1 l2 (i + 1) xs ys := Z1.at hS (fun b ⟨o, e⟩ => by
      by_cases c : b = S
      · subst c
        obtain ⟨o', _, _, ho', _⟩ := id hm2
        exact ⟨o', ho'⟩
      · exact ⟨o, hs2.extBut b o c e⟩) fun c o h3 e => hs2.extBut c o h3 e
    refine wpAny_pure ⟨plainId_quiet ud_plain _, upd_loopZ hh D hS rest (i + 1) (stored acc q.1 q.2) (ix + 1) 0 _ (show xs.size = i + 1 + rest.length by omega) ?_ (fun j q' e => ?_) Z2 hm2 fun h' tk hd' k => ?_⟩
    · have z := stored_length_le acc q.1 q.2
      omega
    · obtain ⟨u', e1, e2, e3⟩ := ht (j + 1) q' (by simpa using e)
      rw [show i + 1 + j = i + (j + 1) by omega]
      exact ⟨u', e1, e2, e3⟩
    · exact hR h' tk hd' fun c oc h3 h4 h5 h6 h7 e => k c oc h3 h4 h5 h6 h7 (hs2.extBut c oc h3 (hk1 c oc h4 h5 h6 h7 e))
theorem call_dict_zip {s : Shared} {z TI TO i1 i2 l1 l2 : Addr} {xs ys : Array Value} {prs : List (Key × Value)} {Q : Value → Shared → Prop} (hh : A.handled = none) (D : ZipApart z TI TO i1 i2 l1 l2) (hz : IsZip s.heap z TI TO .none) (Z : ZipAt s.heap z TI TO i1 i2 l1 l2 0 xs ys) (hTOl : TO < s.heap.objs.size)
    (hsz : xs.size = prs.length) (hln : prs.length ≤ sizeLine) (ht : ∀ (j : Nat) (q : Key × Value), prs[j]? = some q → ∃ u : Value, xs[j]? = some u ∧ ys[j]? = some q.2 ∧ keyIs q.1 u = true)
    (h : ∀ h' tk, h'.DictOf (mixKind prog w) s.heap.objs.size (merged [] prs) → (∀ b o, b ≠ z → b ≠ TO → b ≠ i1 → b ≠ i2 → s.heap.get? b = some o → h'.get? b = some o) → Q (.ref s.heap.objs.size) { s with heap := h', toks := tk }) :
    wpAny (model prog w) A (call (.type "dict") [.ref z]) Q E s := by
  refine callType_codes (Q₁ := fun obj s₁ => obj = .ref s.heap.objs.size ∧ s₁ = { s with heap := s.heap.push { cls := .type "dict", data := .dict #[] } }) PySem.F.kt_called_dict (PySem.F.kt_typeCall_dict_1 _) PySem.F.entry_dict_init (kt_code_dict_new _ ⟨rfl, rfl⟩) ?_
  rintro obj s₁ ⟨rfl, rfl⟩
  have hnew : (s.heap.push { cls := .type "dict", data := .dict #[] }).DictOf (mixKind prog w) s.heap.objs.size [] := Heap.DictOf.new s.heap
  have k0 : ∀ b o, s.heap.get? b = some o → (s.heap.push { cls := .type "dict", data := .dict #[] }).get? b = some o := fun b o e => Heap.get?_push_of_some _ e
  refine ⟨hnew.typeIs, PySem.F.args_dict_init_2 _ _, ?_⟩
  unfold Builtin.«dict.__init__»
  refine wpAny_bind ?_
  unfold Builtin.Dict.selfAndRest
  refine wpAny_bind (wpAny_notOrdered_dict hnew.typeIs ?_)
  show wpAny _ _ (pure (s.heap.objs.size, [Value.ref z])) _ _ _
  refine wpAny_pure ?_
  show wpAny _ _ (Builtin.Dict.updateFrom "dict.__init__" s.heap.objs.size (.ref z) [] .none) _ _ _
  unfold Builtin.Dict.updateFrom
  refine wpAny_bind (wpAny_typeOf (T := "zip") ⟨_, k0 _ _ hz, rfl⟩ ?_)
  rw [if_pos (by first | decide | rfl | simp)]
  refine wpAny_bind (miss_zip (k0 _ _ hz) hh fun h1 tk1 hk1 => ?_)
  rw [if_pos (show (none : Option Value).isNone = true from rfl)]
  refine wpAny_bind (wpAny_rule ?_)
  have k1 : ∀ b o, s.heap.get? b = some o → h1.get? b = some o := fun b o e => hk1 _ _ (k0 _ _ e)
  refine wpAny_bind (wpAny_pyIter_zip (k1 _ _ hz) ?_)
  have lt : ∀ {c o}, s.heap.get? c = some o → c ≠ s.heap.objs.size := fun e => Nat.ne_of_lt (Heap.lt_size e)
  have hS : ∀ c, c = z ∨ c = TI ∨ c = TO ∨ c = i1 ∨ c = i2 ∨ c = l1 ∨ c = l2 → c ≠ s.heap.objs.size := by
    rintro c (e | e | e | e | e | e | e) <;> subst e
    · exact lt hz
    · exact lt Z.ti
    · exact Nat.ne_of_lt hTOl
    · obtain ⟨_, e, _⟩ := Z.i1
      exact lt e
    · obtain ⟨_, e, _⟩ := Z.i2
      exact lt e
    · obtain ⟨_, e, _⟩ := Z.l1
      exact lt e
    · obtain ⟨_, e, _⟩ := Z.l2
      exact lt e
  have Z1 : ZipAt h1 z TI TO i1 i2 l1 l2 0 xs ys := Z.at hS (fun b ⟨o, e⟩ => ⟨o, k1 b o e⟩) fun c o _ e => k1 c o e
  have key := upd_loopZ (prog := prog) (w := w) (A := A.in1) (R := wants (fun r s₂ => r = .none ∧ Q (.ref s.heap.objs.size) s₂) E) (S := s.heap.objs.size) (res := Value.none) hh D hS prs 0 [] 0 0
    { s with heap := h1, toks := tk1 } (by rw [hsz, Nat.zero_add]) (by rw [List.length_nil, Nat.zero_add]; exact hln)
    (fun j q e => by rw [Nat.zero_add]; exact ht j q e) Z1 (hnew.at fun o e => hk1 _ _ e)
    (fun h' tk hd' k => ⟨rfl, h h' tk hd' fun b o c1 c2 c3 c4 e => k b o (lt e) c1 c2 c3 c4 (k1 _ _ e)⟩)
  first
    | exact wpAny_pure ⟨plainId_quiet ud_plain _, key⟩
    | exact wpAny_bind (wpAny_pure (wpAny_pure ⟨plainId_quiet ud_plain _, key⟩))
end
end L2
end
section
set_option Elab.async false
set_option linter.all false
set_option maxRecDepth 100000
set_option maxHeartbeats 2000000
namespace L2
open PySem PySem.Spec PyProof.Rows
theorem boot_dict0 : bootBuiltins "dict" = some (.type "dict") := by decide +kernel
noncomputable def tDictZip (K : PySem.W.Frag) (ta : TA) : TE := fun σ H Q => ta σ H fun vs H1 => ∃ (a b : Addr) (ks : List Key) (ys : List V), vs = [.ref a, .ref b] ∧ SqL K H1 a (ks.map kV) ∧ SqL K H1 b ys ∧ ks.length = ys.length ∧ ∀ p, H1 p = none → Q (.ref p) (upd H1 p (.dK (mergeK [] (ks.zip ys))))
theorem keys_at {P : Program} {w : World} : ∀ {ks : List Key} {its : List Value} {j : Nat} {k : Key}, Vals (ks.map kV) its → ks[j]? = some k → ∃ u, its[j]? = some u ∧ keyIs k u = true
  | [], _, j, k, _, h => by simp at h
  | k0 :: ks, _, j, k, .cons (b := u) r t, h => by
    cases j with
    | zero =>
      have e : k0 = k := Option.some.inj h
      subst e
      exact ⟨u, rfl, kV_is (P := P) (w := w) r⟩
    | succ j =>
      obtain ⟨u', h1, h2⟩ := keys_at (P := P) (w := w) (j := j) (k := k) t (by simpa using h)
      exact ⟨u', by simpa using h1, h2⟩
theorem kv_zip : ∀ {ks : List Key} {ys : List V} {us : List Value}, Vals ys us → KV (ks.zip ys) (ks.zip us)
  | [], _, _, _ => .nil
  | _ :: _, _, _, .nil => .nil
  | _ :: ks, _, _, .cons r t => .cons ⟨rfl, r⟩ (kv_zip t)
theorem pe_dictzip {X : Cx} {e e2 : Expr} {ta : TA} {p p2 pos pos2 : Pos} (hcalm : X.calm = true) (hgd : Gl X "dict") (hmd : X.mg "dict" = none) (hgz : Gl X "zip") (hmz : X.mg "zip" = none) (ha : PA X [e, e2] ta)
    (hs : starEach [e, e2] X.env = (false, eval e X.env) :: starEach [e2] X.env := by rfl) (hpl : (backTo pos2 (starEach [e2] X.env)).any (·.1) = false := by rfl)
    (hsd : starEach [.Call (.Name "zip" p2) [e, e2] [] pos2] X.env = (false, eval (.Call (.Name "zip" p2) [e, e2] [] pos2) X.env) :: starEach [] X.env := by rfl) (hpd : (backTo pos (starEach [] X.env)).any (·.1) = false := by rfl) :
    PE X (.Call (.Name "dict" p) [.Call (.Name "zip" p2) [e, e2] [] pos2] [] pos) (tDictZip X.K ta) := by
  intro pins s σ H Q I h
  refine wpAny_Call_Name_kw (ld_blt I hgd hmd boot_dict0 ?_)
  refine PyProof.Rows.callWith_type1 ?_ hsd hpd
  rw [hsd]
  show wpAny _ _ (spliced ((false, eval (.Call (.Name "zip" p2) [e, e2] [] pos2) X.env) :: backTo pos (starEach [] X.env))) _ _ s
  refine Calls.spliced_cons ?_
  refine wpAny_Call_Name_kw (ld_blt I hgz hmz boot_zip5 ?_)
  refine PyProof.Rows.callWith_type1 (thn (ha pos2 pins s σ H _ I h) fun us s1 zq19 => ?_) hs hpl
  obtain ⟨vs, H1, I1, r1, q1⟩ := zq19
  obtain ⟨a, b, ks, ys, ex, hqx, hqy, hlen, q⟩ := q1
  subst ex
  cases r1 with
  | cons r rr =>
    cases rr with
    | cons r' rr =>
      cases rr
      cases r
      cases r'
      obtain ⟨its, rv, p1, z1⟩ := I1.list hqx
      obtain ⟨its2, rv2, p2, z2⟩ := I1.list hqy
      have la : a < s1.heap.objs.size := p1.lt
      have lb : b < s1.heap.objs.size := p2.lt
      have l1 := rv.length
      have l2 := rv2.length
      rw [List.length_map] at l1 z1
      refine call_zip_2 p1.isList p2.isList fun h' hz hTI hTO h1 h2 hsz hk => Calls.spliced_nil ?_
      have I2 : Inv X pins σ H1 { s1 with heap := h' } := I1.kept (t' := s1.toks) hk
      have D := PySem.W.ktu_apart s1.heap.objs.size a b la lb
      have Z : ZipAt h' (s1.heap.objs.size + 4) (s1.heap.objs.size + 2) (s1.heap.objs.size + 3) s1.heap.objs.size (s1.heap.objs.size + 1) a b 0 its.toArray its2.toArray :=
        ⟨.inl ⟨hz, _, _, hTO⟩, hTI, h1, h2, p1.isList.at fun o e => hk _ o e, p2.isList.at fun o e => hk _ o e⟩
      refine call_dict_zip (s := { s1 with heap := h' }) (prs := ks.zip its2) (I2.ok.hd hcalm) D hz Z (Heap.lt_size hTO) ?_ ?_ (fun j q' e' => ?_) fun h'' tk hd' k => ?_
      · rw [List.size_toArray, List.length_zip]
        omega
      · rw [List.length_zip]
        omega
      · obtain ⟨k1, k2⟩ := q'
        have e1 : ks[j]? = some k1 ∧ its2[j]? = some k2 := by
          rw [List.getElem?_zip_eq_some] at e'
          exact e'
        obtain ⟨u, hu, hku⟩ := keys_at (P := X.prog) (w := X.w) rv e1.1
        exact ⟨u, by simpa using hu, by simpa using e1.2, hku⟩
      · have rel : KV (ks.zip ys) (ks.zip its2) := kv_zip rv2
        have hm : (h'.objs.size == sysModules) = false := beq_eq_false_iff_ne.mpr (Nat.ne_of_gt I2.big)
        have hzl : (mergeK [] (ks.zip ys)).length ≤ sizeLine := by
          refine Nat.le_trans (length_mergeK _ []) ?_
          rw [List.length_nil, Nat.zero_add, List.length_zip]
          omega
        have hn : ∀ c, s1.heap.objs.size ≤ c → H1 c = none := fun c hc => I1.hok.fresh hc
        have fp : ∀ c, s1.heap.objs.size ≤ c → FpOk X pins H1 c := fun c hc => I1.fpOk hc (hn c hc)
        have hle : ∀ c ∈ [s1.heap.objs.size + 4, s1.heap.objs.size + 3, s1.heap.objs.size, s1.heap.objs.size + 1], s1.heap.objs.size ≤ c := by
          intro c hc
          have e' : c = s1.heap.objs.size + 4 ∨ c = s1.heap.objs.size + 3 ∨ c = s1.heap.objs.size ∨ c = s1.heap.objs.size + 1 := by simpa using hc
          rcases e' with z | z | z | z
          · rw [z]; exact Nat.le_add_right _ _
          · rw [z]; exact Nat.le_add_right _ _
          · rw [z]; exact Nat.le_refl _
          · rw [z]; exact Nat.le_add_right _ _
        have I3 : Inv X pins σ (upd H1 h'.objs.size (.dK (mergeK [] (ks.zip ys)))) { s1 with heap := h'', toks := tk } :=
          I2.turnedNew (t' := tk) (ch := [s1.heap.objs.size + 4, s1.heap.objs.size + 3, s1.heap.objs.size, s1.heap.objs.size + 1]) (fun c o hb e => k c o (fun z => hb (by simp [z])) (fun z => hb (by simp [z])) (fun z => hb (by simp [z])) (fun z => hb (by simp [z])) e)
            (fun c hc => fp c (hle c hc)) (Nat.le_refl _) (show ObjOk X.prog X.w _ _ _ (.dK (mergeK [] (ks.zip ys))) from ⟨hzl, hm, merged [] (ks.zip its2), KV.merge rel .nil, hd'⟩)
        exact ⟨.ref h'.objs.size, _, I3, rfl, q _ (I2.hok.fresh (Nat.le_refl _))⟩
end L2
end
section
set_option Elab.async false
set_option linter.all false
set_option maxRecDepth 100000
set_option maxHeartbeats 2000000
namespace L2
open PySem PySem.Spec PyProof.Rows
section
variable {prog : Program} {w : World} {A : Around} {E : Value → Shared → Prop} {s : Shared}
theorem collect_src {T : String} {r d : Addr} {n : Nat} {P : Nat → Value → Prop} {OK : Heap → Prop} {R : List Value → Shared → Prop} (K : PySem.W.KdlSrc prog w T r d n P OK) (hh : A.handled = none) (hok : OK s.heap) (hn : n ≤ sizeLine)
    (go : ∀ (hp : Heap) (tk : Nat) (us : Array Value), s.heap.objs.size < hp.objs.size → (∀ b o, s.heap.get? b = some o → hp.get? b = some o) → ItemsOf P us n → R us.toList { s with heap := hp, toks := tk }) :
    wpAny (model prog w) A (collect (.ref r)) R E s := by
  have lts := K.there _ hok
  unfold collect
  refine wpAny_bind (wpAny_runValue (codeAny_builtin entry_proto_collect' ?_))
  rw [Around.under_plainId PySem.F.plain_proto_collect _]
  show wpAny _ A.in1 (newList [] >>= fun m => again (.builtin "list.__iadd__" ⟨[m, .ref r], []⟩)) _ _ s
  refine wpAny_bind (wpAny_newObj_type (wpAny_pure ⟨plainId_quiet PySem.F.plain_list_iadd _, codeAny_builtin entry_list_iadd' ?_⟩))
  rw [Around.under_plainId PySem.F.plain_list_iadd _]
  have new : (s.heap.push { cls := .type "list", data := .seq ([] : List Value).toArray }).get? s.heap.objs.size = some { cls := .type "list", data := .seq #[] } := Heap.get?_push_size _ rfl
  show wpAny _ A.in1 (Builtin.List.listExtendWith (.ref s.heap.objs.size) (.ref r) (.ref s.heap.objs.size)) _ _ _
  have run := PySem.W.kdl_extend (A := A) (s := { s with heap := s.heap.push { cls := .type "list", data := .seq ([] : List Value).toArray } })
    (R := fun (q : Result) (s2 : Shared) => ∃ (hp : Heap) (tk : Nat) (us : Array Value) (c : Nat), q = .ok (.ret (.ref s.heap.objs.size)) ∧ s2 = { s with heap := hp, toks := tk } ∧ (∀ b o, s.heap.get? b = some o → hp.get? b = some o) ∧
      hp.get? s.heap.objs.size = some { cls := .type "list", dict := none, data := .seq us c, slots := #[] } ∧ ItemsOf P us n)
    K hh (K.keep _ _ hok fun b _ o e => Heap.get?_push_of_some _ e) s.heap.objs.size (Nat.ne_of_gt lts.1) (Nat.ne_of_gt lts.2) (.ref s.heap.objs.size) 0 new
    (fun hp tk us c hk hu it => ⟨hp, tk, us, c, rfl, rfl, fun b o e => hk b o (Nat.ne_of_lt (Heap.lt_size e)) (Heap.get?_push_of_some _ e), hu, it⟩) hn
  refine wpAny_mono run (fun fin s2 x => ?_) fun e s2 ⟨_, _, _, _, z, _⟩ => by cases z
  cases fin with
  | again code =>
    refine ⟨x.1, codeAny_mono x.2 fun q s3 zq20 => ?_⟩
    obtain ⟨hp, tk, us, c, e1, e2, hk, hu, it⟩ := zq20
    subst e1 e2
    show wpAny _ A (load s.heap.objs.size >>= _) _ _ _
    exact wpAny_bind (wpAny_load hu (wpAny_pure (go hp tk us (Heap.lt_size hu) hk it)))
  | done f =>
    obtain ⟨hp, tk, us, c, e1, e2, hk, hu, it⟩ := x
    cases e1
    subst e2
    show wpAny _ A (load s.heap.objs.size >>= _) _ _ _
    exact wpAny_bind (wpAny_load hu (wpAny_pure (go hp tk us (Heap.lt_size hu) hk it)))
theorem sorted_src {T : String} {r d : Addr} {n : Nat} {P : Nat → Value → Prop} {OK : Heap → Prop} {Q : Value → Shared → Prop} {ns : List Int} (K : PySem.W.KdlSrc prog w T r d n P OK) (hh : A.handled = none) (hok : OK s.heap) (hn : n ≤ sizeLine)
    (hP : ∀ vs : List Value, vs.length = n → (∀ (j : Nat) (v : Value), vs[j]? = some v → P j v) → IntsAre vs ns)
    (h : ∀ (D : Addr) (hp : Heap) (tk : Nat) (out : Array Value) (ep : Nat) (ns' : List Int), s.heap.objs.size ≤ D → (∀ b o, s.heap.get? b = some o → hp.get? b = some o) → hp.get? D = some (seqObj "list" out ep) → IntsAre out.toList ns' → ns'.Perm ns → ns'.Pairwise (· ≤ ·) → Q (.ref D) { s with heap := hp, toks := tk }) :
    wpAny (model prog w) A (call (.builtin "sorted") [.ref r]) Q E s := by
  refine Calls.call_function_entry kind_sorted plain_sorted entry_sorted (args_sorted1 _) ?_
  unfold Builtin.«sorted»
  refine wpAny_bind (m := checkCount "sorted" 1 1 _) (wpAny_pure (wpAny_bind (collect_src (A := A.in1) K hh hok hn fun hp tk us lt hk it => ?_)))
  have hl : us.toList.length = n := by rw [Array.length_toList]; exact it.1
  refine wpAny_bind (wpAny_newList ?_ (by rw [hl]; exact hn))
  have hi : IntsAre us.toList ns := hP _ hl fun j v e => it.2 j v (by rw [← Array.getElem?_toList]; exact e)
  have hoL : (hp.push (seqObj "list" us.toList.toArray 0)).get? hp.objs.size = some (seqObj "list" us.toList.toArray 0) := Heap.get?_push_size _ rfl
  show wpAny _ _ _ _ _ { s with heap := hp.push (seqObj "list" us.toList.toArray 0), toks := tk }
  refine wpAny_bind (wpAny_holding (wpAny_call_entry slot_list_sort ⟨_, hoL, rfl⟩ entry_list_sort (list_sort_treeAny hoL hi (by rw [hl]; exact hn) fun out ns' a1 a2 a3 => ⟨_, rfl, wpAny_pure ⟨_, rfl, ?_⟩⟩) (args_list_sort _)))
  obtain ⟨ep, he'⟩ := PyProof.Rows.sortedHeap_at (vs := us.toList) (out := out) hoL
  refine h _ _ _ out ep ns' (Nat.le_of_lt lt) (fun b o e => ?_) he' a1 a2 a3
  have hb := Heap.lt_size (hk _ _ e)
  rw [PyProof.Rows.sortedHeap_old (Nat.ne_of_lt hb) (by rw [Heap.size_push]; exact Nat.lt_succ_of_lt hb)]
  exact Heap.get?_push_of_some _ (hk _ _ e)
end
section
variable {X : Cx}
theorem ints_of_keys : ∀ {ns : List Int} {vs : List Value}, vs.length = ns.length → (∀ (j : Nat) (v : Value) (n : Int), vs[j]? = some v → ns[j]? = some n → keyIs (Sum.inl n) v = true) → IntsAre vs ns
  | [], [], _, _ => .nil
  | n :: ns, v :: vs, hl, h => by
    have h0 := h 0 v n rfl rfl
    obtain ⟨t, rfl⟩ : ∃ t, v = .int n t := relV_key h0
    exact .cons n t (ints_of_keys (by simpa using hl) fun j v' n' e1 e2 => h (j + 1) v' n' (by simpa using e1) (by simpa using e2))
theorem call_sortedD (hcalm : X.calm = true) : CallR X (.builtin "sorted") (fun xs H Q => ∃ (a : Addr) (kvs : List (Key × V)) (ns : List Int), xs = [.ref a] ∧ H a = some (.dK kvs) ∧ kvs.map (·.1) = ns.map Sum.inl ∧
    ∀ (ns' : List Int) (p : Addr), ns'.Perm ns → ns'.Pairwise (· ≤ ·) → H p = none → Q (.ref p) (upd H p (.lst (ns'.map V.int)))) := by
  intro pins s σ H xs us Q I r q
  obtain ⟨a, kvs, ns, ex, ha, hk, q⟩ := q
  subst ex
  rw [Vals.ref1 r]
  obtain ⟨hz, hd, vs, rel, dd⟩ := dk_of I.hok ha
  obtain ⟨ep, hat⟩ := dd.dictAt
  have e1 : kvs.length = vs.length := rel.length
  have e2 : kvs.length = ns.length := by simpa using congrArg List.length hk
  refine sorted_src (PySem.W.kdl_dict (knd := mixKind X.prog X.w) (kvs := vs) (ep := ep) hd) (I.ok.hd hcalm) hat (by rw [← e1]; exact hz) (ns := ns) (fun us' hl hp => ints_of_keys (by omega) fun j v n h1 h2 => ?_) fun D hp tk out ep' ns' hD keep hout a1 a2 a3 => ?_
  · obtain ⟨k, x, hx, hkx⟩ := hp j v h1
    have e3 : (kvs.map (·.1))[j]? = some k := by
      have : (vs.map (·.1))[j]? = some k := by rw [List.getElem?_map, hx]; rfl
      rw [← rel.keys] at this
      exact this
    rw [hk, List.getElem?_map, h2] at e3
    cases e3
    exact hkx
  · have hlen : (ns'.map V.int).length ≤ sizeLine := by rw [List.length_map, a2.length_eq]; omega
    exact ⟨.ref D, upd H D (.lst (ns'.map V.int)), I.laid (t' := tk) keep hD ⟨hlen, out.toList, ep', vals_of_ints a1, hout⟩, rfl, q ns' D a2 a3 (I.hok.fresh hD)⟩
end
end L2
end
section
set_option Elab.async false
set_option linter.all false
namespace Pd
open Tote TotePoolCalls
noncomputable abbrev Grp := List (Int × Int)
noncomputable def lookG (g : Grp) (k : Int) : Option Int := (g.find? fun p => decide (p.1 = k)).map (·.2)
noncomputable def putG (g : Grp) (k v : Int) : Grp := if (g.any fun p => decide (p.1 = k)) = true then g.map (fun p => if p.1 = k then (p.1, v) else p) else g ++ [(k, v)]
noncomputable def keysG (g : Grp) : List Int := g.map (·.1)
theorem lookG_cons (p : Int × Int) (g : Grp) (k : Int) : lookG (p :: g) k = if p.1 = k then some p.2 else lookG g k := by
  unfold lookG
  rw [List.find?_cons]
  by_cases h : p.1 = k
  · rw [if_pos h]
    simp [h]
  · rw [if_neg h]
    simp [h]
theorem lookG_none {g : Grp} {k : Int} : lookG g k = none ↔ k ∉ keysG g := by
  induction g with
  | nil => simp [lookG, keysG]
  | cons p g ih =>
    rw [lookG_cons]
    by_cases h : p.1 = k
    · rw [if_pos h]
      simp [keysG, h]
    · rw [if_neg h, ih]
      simp only [keysG, List.map_cons, List.mem_cons, not_or]
      exact ⟨fun z => ⟨fun e => h e.symm, z⟩, fun z => z.2⟩
theorem lookG_append (g h : Grp) (k : Int) : lookG (g ++ h) k = (lookG g k).or (lookG h k) := by
  induction g with
  | nil => rfl
  | cons p g ih =>
    rw [List.cons_append, lookG_cons, lookG_cons, ih]
    by_cases e : p.1 = k
    · rw [if_pos e, if_pos e]
      rfl
    · rw [if_neg e, if_neg e]
theorem lookG_set {g : Grp} {k v j : Int} : lookG (g.map (fun p => if p.1 = k then (p.1, v) else p)) j = if j = k then (lookG g k).map (fun _ => v) else lookG g j := by
  induction g with
  | nil => simp [lookG]
  | cons p g ih =>
    rw [List.map_cons, lookG_cons, ih, lookG_cons, lookG_cons]
    by_cases h : p.1 = k
    · rw [if_pos h]
      by_cases hj : j = k
      · subst hj
        rw [if_pos h, if_pos rfl, if_pos h]
        rfl
      · rw [if_neg (fun z => hj (z.symm.trans h)), if_neg hj, if_neg hj, if_neg (fun z => hj (z.symm.trans h))]
    · rw [if_neg h]
      by_cases hj : p.1 = j
      · rw [if_pos hj, if_neg (fun z => h (hj.trans z)), if_pos hj]
      · rw [if_neg hj, if_neg hj, if_neg h]
theorem any_keys {g : Grp} {k : Int} : (g.any fun p => decide (p.1 = k)) = true ↔ k ∈ keysG g := by
  rw [List.any_eq_true]
  constructor
  · rintro ⟨p, hp, e⟩
    exact List.mem_map.mpr ⟨p, hp, by simpa using e⟩
  · intro h
    obtain ⟨p, hp, e⟩ := List.mem_map.mp h
    exact ⟨p, hp, by simpa using e⟩
theorem lookG_put (g : Grp) (k v j : Int) : lookG (putG g k v) j = if j = k then some v else lookG g j := by
  unfold putG
  split
  · rename_i h
    rw [lookG_set]
    by_cases hj : j = k
    · rw [if_pos hj, if_pos hj]
      cases e : lookG g k with
      | none => exact absurd (any_keys.mp h) (lookG_none.mp e)
      | some x => rfl
    · rw [if_neg hj, if_neg hj]
  · rename_i h
    rw [lookG_append]
    by_cases hj : j = k
    · subst hj
      rw [if_pos rfl, lookG_none.mpr (fun z => h (any_keys.mpr z)), lookG_cons, if_pos rfl]
      rfl
    · rw [if_neg hj, lookG_cons, if_neg (fun z => hj z.symm)]
      cases lookG g j <;> rfl
theorem keysG_put (g : Grp) (k v : Int) : keysG (putG g k v) = if k ∈ keysG g then keysG g else keysG g ++ [k] := by
  unfold putG
  by_cases h : k ∈ keysG g
  · rw [if_pos (any_keys.mpr h), if_pos h]
    unfold keysG
    rw [List.map_map]
    apply List.map_congr_left
    intro p _
    show (if p.1 = k then (p.1, v) else p).1 = p.1
    split <;> rfl
  · rw [if_neg (fun z => h (any_keys.mp z)), if_neg h]
    simp [keysG]
theorem nodup_put {g : Grp} (k v : Int) (h : (keysG g).Nodup) : (keysG (putG g k v)).Nodup := by
  rw [keysG_put]
  split
  · exact h
  · rename_i hk
    rw [List.nodup_append]
    refine ⟨h, by simp, fun a ha b hb e => ?_⟩
    have : b = k := by simpa using hb
    subst this
    subst e
    exact hk ha
theorem len_put (g : Grp) (k v : Int) : (putG g k v).length ≤ g.length + 1 := by
  unfold putG
  split <;> simp
theorem mem_put {g : Grp} {k v x : Int} (h : x ∈ keysG (putG g k v)) : x = k ∨ x ∈ keysG g := by
  rw [keysG_put] at h
  split at h
  · exact .inr h
  · rcases List.mem_append.mp h with z | z
    · exact .inr z
    · exact .inl (by simpa using z)
noncomputable def pairsI : List Int → Grp
  | a :: b :: r => (a, b) :: pairsI r
  | _ => []
theorem look_pairs (k : Int) : ∀ l : List Int, lookG (pairsI l) k = atM k l
  | [] => rfl
  | [_] => rfl
  | a :: b :: r => by
    show lookG ((a, b) :: pairsI r) k = if a = k then some b else atM k r
    rw [lookG_cons, look_pairs k r]
theorem len_pairsI : ∀ l : List Int, (pairsI l).length = l.length / 2
  | [] => by simp [pairsI]
  | [_] => by simp [pairsI]
  | a :: b :: r => by
    show (pairsI r).length + 1 = (r.length + 1 + 1) / 2
    rw [len_pairsI r]
    omega
theorem good_up {n : Int} : ∀ {l : List Int} {bf : Int}, goodM n bf l = true → (keysG (pairsI l)).Pairwise (· < ·) ∧ ∀ x ∈ keysG (pairsI l), bf < x
  | [], _, _ => ⟨List.Pairwise.nil, by simp [pairsI, keysG]⟩
  | [_], _, _ => ⟨List.Pairwise.nil, by simp [pairsI, keysG]⟩
  | a :: b :: r, bf, h => by
    have h : (decide (bf < a) && (decide (a < n) && (decide (1 ≤ b) && goodM n a r))) = true := h
    simp only [Bool.and_eq_true, decide_eq_true_eq] at h
    obtain ⟨h1, h2, h3, h4⟩ := h
    obtain ⟨i1, i2⟩ := good_up h4
    show (a :: keysG (pairsI r)).Pairwise (· < ·) ∧ ∀ x ∈ a :: keysG (pairsI r), bf < x
    refine ⟨List.pairwise_cons.mpr ⟨i2, i1⟩, fun x hx => ?_⟩
    rcases List.mem_cons.mp hx with e | e
    · omega
    · have := i2 x e
      omega
theorem right_good {l : List Int} {n : Int} (h : rightM l n = true) : goodM n (-1) l = true := by
  unfold rightM at h
  simp only [Bool.and_eq_true] at h
  exact h.2.1
theorem up_nodup {l : List Int} (h : l.Pairwise (· < ·)) : l.Nodup := h.imp (fun z e => by omega)
theorem right_nodup {l : List Int} {n : Int} (h : rightM l n = true) : (keysG (pairsI l)).Nodup := up_nodup (good_up (right_good h)).1
theorem askM_right {n : Int} {ns : List Int} {mss : List (List Int)} (h : ¬ (askM n ns mss).1 < 0) : ∀ m ∈ mss, rightM m (askM n ns mss).2 = true := by
  unfold askM at h ⊢
  split at h
  · exact absurd (show (-2 : Int) < 0 by decide) h
  · rename_i h1
    rw [if_neg h1]
    split at h
    · exact absurd (show (-8 : Int) < 0 by decide) h
    · rename_i c hc
      split at h
      · exact absurd (show (-4 : Int) < 0 by decide) h
      · rename_i p hp
        split at h
        · rename_i hr
          simp only [hp, hr]
          intro m hm
          exact List.all_eq_true.mp hr m hm
        · exact absurd (show (-3 : Int) < 0 by decide) h
noncomputable def addG (g : Grp) (l : Grp) : Grp := l.foldl (fun g p => putG g p.1 ((lookG g p.1).getD 0 + p.2)) g
theorem addG_snoc (g l : Grp) (p : Int × Int) : addG g (l ++ [p]) = putG (addG g l) p.1 ((lookG (addG g l) p.1).getD 0 + p.2) := by
  unfold addG
  rw [List.foldl_append]
  rfl
theorem nodup_add : ∀ (l g : Grp), (keysG g).Nodup → (keysG (addG g l)).Nodup
  | [], _, h => h
  | p :: l, g, h => nodup_add l _ (nodup_put _ _ h)
theorem len_add : ∀ (l g : Grp), (addG g l).length ≤ g.length + l.length
  | [], g => Nat.le_refl _
  | p :: l, g => by
    have h1 := len_add l (putG g p.1 ((lookG g p.1).getD 0 + p.2))
    have h2 := len_put g p.1 ((lookG g p.1).getD 0 + p.2)
    show (addG (putG g p.1 ((lookG g p.1).getD 0 + p.2)) l).length ≤ g.length + (l.length + 1)
    omega
theorem keys_add {P : Int → Prop} : ∀ (l g : Grp), (∀ x ∈ keysG g, P x) → (∀ p ∈ l, P p.1) → ∀ x ∈ keysG (addG g l), P x
  | [], _, h, _ => h
  | p :: l, g, h, hl => keys_add l _ (fun x hx => by
      rcases mem_put hx with e | e
      · rw [e]
        exact hl p (by simp)
      · exact h x e) (fun q hq => hl q (by simp [hq]))
theorem look_add (k : Int) : ∀ (l g : Grp), (keysG l).Nodup → (lookG (addG g l) k).getD 0 = (lookG g k).getD 0 + (lookG l k).getD 0
  | [], g, _ => by show (lookG g k).getD 0 = _; simp [lookG]
  | p :: l, g, h => by
    have hn : (p.1 :: keysG l).Nodup := h
    have hp := (List.nodup_cons.mp hn)
    show (lookG (addG (putG g p.1 ((lookG g p.1).getD 0 + p.2)) l) k).getD 0 = _
    rw [look_add k l _ hp.2, lookG_put, lookG_cons]
    by_cases e : k = p.1
    · have hl : lookG l k = none := lookG_none.mpr (by rw [e]; exact hp.1)
      rw [if_pos e, if_pos e.symm, hl, e]
      simp
    · rw [if_neg e, if_neg (fun z => e z.symm)]
noncomputable def flatP (g : Grp) : List Int → List Int
  | [] => []
  | k :: ns => (if 0 < (lookG g k).getD 0 then [k, (lookG g k).getD 0] else []) ++ flatP g ns
theorem flatP_append (g : Grp) : ∀ l m : List Int, flatP g (l ++ m) = flatP g l ++ flatP g m
  | [], m => rfl
  | k :: l, m => by
    show _ ++ flatP g (l ++ m) = (_ ++ flatP g l) ++ flatP g m
    rw [flatP_append g l m, List.append_assoc]
theorem flatP_snoc (g : Grp) (l : List Int) (k : Int) : flatP g (l ++ [k]) = flatP g l ++ (if 0 < (lookG g k).getD 0 then [k, (lookG g k).getD 0] else []) := by
  rw [flatP_append]
  show _ ++ (_ ++ []) = _
  rw [List.append_nil]
theorem flatP_even (g : Grp) : ∀ l : List Int, (flatP g l).length % 2 = 0
  | [] => rfl
  | k :: l => by
    have := flatP_even g l
    show ((if 0 < (lookG g k).getD 0 then [k, (lookG g k).getD 0] else []) ++ flatP g l).length % 2 = 0
    rw [List.length_append]
    split <;> (simp; omega)
theorem flatP_len (g : Grp) : ∀ l : List Int, (flatP g l).length ≤ 2 * l.length
  | [] => Nat.le_refl _
  | k :: l => by
    have := flatP_len g l
    show ((if 0 < (lookG g k).getD 0 then [k, (lookG g k).getD 0] else []) ++ flatP g l).length ≤ 2 * (l.length + 1)
    rw [List.length_append]
    split
    · show 2 + _ ≤ _
      omega
    · show 0 + _ ≤ _
      omega
theorem flatP_nonneg (g : Grp) : ∀ l : List Int, (∀ x ∈ l, 0 ≤ x) → ∀ x ∈ flatP g l, 0 ≤ x
  | [], _, x, hx => by simp [flatP] at hx
  | k :: l, h, x, hx => by
    have hx : x ∈ (if 0 < (lookG g k).getD 0 then [k, (lookG g k).getD 0] else []) ++ flatP g l := hx
    rcases List.mem_append.mp hx with z | z
    · split at z
      · simp only [List.mem_cons, List.not_mem_nil, or_false] at z
        rcases z with z | z
        · rw [z]
          exact h k (by simp)
        · omega
      · simp at z
    · exact flatP_nonneg g l (fun y hy => h y (by simp [hy])) x z
noncomputable def OutOf (g : Grp) (out : List Int) : Prop := ∃ ns : List Int, ns.Perm (keysG g) ∧ ns.Pairwise (· ≤ ·) ∧ out = flatP g ns
theorem outOf_even {g : Grp} {out : List Int} (h : OutOf g out) : out.length % 2 = 0 := by
  obtain ⟨ns, _, _, e⟩ := h
  rw [e]
  exact flatP_even g ns
theorem outOf_len {g : Grp} {out : List Int} (h : OutOf g out) : out.length ≤ 2 * g.length := by
  obtain ⟨ns, p, _, e⟩ := h
  rw [e]
  have h1 := flatP_len g ns
  have h2 := p.length_eq
  unfold keysG at h2
  rw [List.length_map] at h2
  omega
noncomputable def JoinAns (n : Int) (ns ms os ans : List Int) : Prop :=
  if (askM n ns [ms, os]).1 < 0 then ans = [(askM n ns [ms, os]).1] else ∃ out, OutOf (addG (pairsI ms) (pairsI os)) out ∧ ans = if rightM out (askM n ns [ms, os]).2 = true then 0 :: out else [-9]
end Pd
end
section
set_option Elab.async false
set_option linter.all false
set_option maxRecDepth 100000
set_option maxHeartbeats 2000000
namespace L2
open PySem PySem.Spec PyProof.Rows
theorem for_zip {K : PySem.W.Frag} {a b : Addr} {xs ys : List V} {g : TG} {tb : TS} {D : Ends} {σ : St} {H : Hp} (Pv : Nat → St → Hp → Prop) (hlen : xs.length = ys.length) (h0 : Pv 0 σ H) (hl : ∀ i σ H, i ≤ xs.length → Pv i σ H → SqL K H a xs ∧ SqL K H b ys)
    (hs : ∀ i x y T σ H, xs[i]? = some x → ys[i]? = some y → Pv i σ H → H T = none → g (.ref T) σ (upd H T (.tup [x, y])) fun σ2 H2 => tb { D with nx := Pv (i + 1), ct := Pv (i + 1), bk := D.nx } σ2 H2) (hd : ∀ σ H, Pv xs.length σ H → D.nx σ H) :
    ∃ W : Nat → Nat → St → Hp → Prop, (∃ m, W 0 m σ H) ∧ ∀ i m σ H, W i m σ H →
      ((Itz K a b).stop i H ∧ D.nx σ H) ∨ ((Itz K a b).go i H ∧ ∃ N : St → Hp → Prop, (∀ σ' H', N σ' H' → ∃ m', m' < m ∧ W (i + 1) m' σ' H') ∧ ∀ x H', (Itz K a b).yld i H x H' → g x σ H' fun σ2 H2 => tb { D with nx := N, ct := N, bk := D.nx } σ2 H2) := by
  refine ⟨fun i m σ H => m = xs.length - i ∧ i ≤ xs.length ∧ Pv i σ H, ⟨xs.length, by simp, Nat.zero_le _, h0⟩, ?_⟩
  rintro i m σ H ⟨rfl, hi, p⟩
  obtain ⟨qa, qb⟩ := hl i σ H hi p
  by_cases hlt : i < xs.length
  · have hlt2 : i < ys.length := by omega
    refine .inr ⟨⟨xs, ys, xs[i], ys[i], qa, qb, List.getElem?_eq_getElem hlt, List.getElem?_eq_getElem hlt2⟩, Pv (i + 1), fun σ' H' p' => ⟨xs.length - (i + 1), by omega, rfl, hlt, p'⟩, fun x H' y => ?_⟩
    obtain ⟨T, u, v, e1, nT, e2, k1, k2⟩ := y
    subst e1 e2
    exact hs i u v T σ _ (k1 xs qa) (k2 ys qb) p nT
  · have e : i = xs.length := by omega
    subst e
    exact .inl ⟨⟨xs, ys, qa, qb, .inl (Nat.le_refl _)⟩, hd σ H p⟩
end L2
end
section
set_option Elab.async false
set_option linter.all false
namespace Pd
open Tote
noncomputable abbrev Up (l : List Nat) : Prop := l.Pairwise (· < ·)
theorem rises_iff : ∀ l : List Nat, risesN l = true ↔ Up l
  | [] => by simp [risesN]
  | [x] => by simp [risesN]
  | x :: y :: l => by
    show (decide (x < y) && risesN (y :: l)) = true ↔ _
    rw [Bool.and_eq_true, decide_eq_true_eq, rises_iff (y :: l)]
    rw [show Up (x :: y :: l) ↔ (∀ z ∈ y :: l, x < z) ∧ Up (y :: l) from List.pairwise_cons]
    constructor
    · rintro ⟨h, p⟩
      refine ⟨fun z hz => ?_, p⟩
      rcases List.mem_cons.mp hz with e | hz
      · rw [e]; exact h
      · exact Nat.lt_trans h ((List.pairwise_cons.mp p).1 z hz)
    · rintro ⟨h, p⟩
      exact ⟨h y (by simp), p⟩
structure MOk (m : Money) : Prop where
  up : Up (m.map fun (x : Nat × Nat) => x.1)
  pos : ∀ e ∈ m, 0 < e.2
theorem on_nil (n : Nat) : Money.on [] n = 0 := rfl
theorem on_cons (a c : Nat) (l : Money) (n : Nat) : Money.on ((a, c) :: l) n = if a = n then c else Money.on l n := by
  unfold Money.on
  rw [List.find?_cons]
  by_cases h : a = n
  · have : ((a, c).1 == n) = true := by simpa using h
    rw [this, if_pos h]
    rfl
  · have : ((a, c).1 == n) = false := by simpa using h
    rw [this, if_neg h]
theorem MOk.tail {a : Nat × Nat} {l : Money} (h : MOk (a :: l)) : MOk l := ⟨(List.pairwise_cons.mp h.up).2, fun e he => h.pos e (by simp [he])⟩
theorem MOk.lt {a c : Nat} {l : Money} (h : MOk ((a, c) :: l)) : ∀ e ∈ l, a < e.1 := fun e he => (List.pairwise_cons.mp h.up).1 e.1 (List.mem_map.mpr ⟨e, he, rfl⟩)
theorem MOk.cons {a c : Nat} {l : Money} (h : MOk l) (hc : 0 < c) (hl : ∀ e ∈ l, a < e.1) : MOk ((a, c) :: l) := by
  refine ⟨List.pairwise_cons.mpr ⟨fun x hx => ?_, h.up⟩, fun e he => ?_⟩
  · obtain ⟨e, he, rfl⟩ := List.mem_map.mp hx
    exact hl e he
  · rcases List.mem_cons.mp he with z | z
    · rw [z]; exact hc
    · exact h.pos e z
theorem on_out : ∀ {l : Money} {n : Nat}, (∀ e ∈ l, e.1 ≠ n) → Money.on l n = 0
  | [], n, _ => rfl
  | (a, c) :: l, n, h => by
    rw [on_cons, if_neg (h (a, c) (by simp)), on_out fun e he => h e (by simp [he])]
theorem on_mem : ∀ {l : Money}, MOk l → ∀ e ∈ l, Money.on l e.1 = e.2
  | [], _, e, he => by simp at he
  | (a, c) :: l, h, e, he => by
    rw [on_cons]
    rcases List.mem_cons.mp he with z | z
    · rw [z, if_pos rfl]
    · have := h.lt e z
      rw [if_neg (by omega), on_mem h.tail e z]
theorem money_ext : ∀ {m o : Money}, MOk m → MOk o → (∀ n, Money.on m n = Money.on o n) → m = o
  | [], [], _, _, _ => rfl
  | [], (b, d) :: o, _, ho, h => by
    have := h b
    rw [on_nil, on_cons, if_pos rfl] at this
    have := ho.pos (b, d) (by simp)
    omega
  | (a, c) :: m, [], hm, _, h => by
    have := h a
    rw [on_nil, on_cons, if_pos rfl] at this
    have := hm.pos (a, c) (by simp)
    omega
  | (a, c) :: m, (b, d) :: o, hm, ho, h => by
    have pc := hm.pos (a, c) (by simp)
    have pd := ho.pos (b, d) (by simp)
    have hab : a = b := by
      rcases Nat.lt_trichotomy a b with z | z | z
      · have e := h a
        rw [on_cons, if_pos rfl, on_cons, if_neg (by omega), on_out fun e he => by have := ho.lt e he; omega] at e
        have pc : 0 < c := pc
        omega
      · exact z
      · have e := h b
        rw [on_cons, if_neg (by omega), on_cons, if_pos rfl, on_out fun e he => by have := hm.lt e he; omega] at e
        have pd : 0 < d := pd
        omega
    subst hab
    have hcd : c = d := by
      have e := h a
      rw [on_cons, if_pos rfl, on_cons, if_pos rfl] at e
      exact e
    subst hcd
    rw [money_ext hm.tail ho.tail fun n => ?_]
    by_cases e : a = n
    · subst e
      rw [on_out fun e he => by have := hm.lt e he; omega, on_out fun e he => by have := ho.lt e he; omega]
    · have := h n
      rw [on_cons, if_neg e, on_cons, if_neg e] at this
      exact this
theorem join_keys : ∀ {m o : Money} {k : Nat}, (∀ e ∈ m, k < e.1) → (∀ e ∈ o, k < e.1) → ∀ e ∈ Money.join m o, k < e.1 := by
  intro m o
  induction m, o using Money.join.induct with
  | case1 m => intro k _ h2 e he; rw [Money.join] at he; exact h2 e he
  | case2 m hne => intro k h1 _ e he; rw [Money.join] at he; exact h1 e he; exact hne
  | case3 x l y m hlt ih =>
    intro k h1 h2 e he
    rw [Money.join, if_pos hlt] at he
    rcases List.mem_cons.mp he with z | z
    · rw [z]; exact h1 x (by simp)
    · exact ih (fun e he => h1 e (by simp [he])) h2 e z
  | case4 x l y m h1' h2' ih =>
    intro k h1 h2 e he
    rw [Money.join, if_neg h1', if_pos h2'] at he
    rcases List.mem_cons.mp he with z | z
    · rw [z]; exact h2 y (by simp)
    · exact ih h1 (fun e he => h2 e (by simp [he])) e z
  | case5 x l y m h1' h2' ih =>
    intro k h1 h2 e he
    rw [Money.join, if_neg h1', if_neg h2'] at he
    rcases List.mem_cons.mp he with z | z
    · rw [z]; exact h1 x (by simp)
    · exact ih (fun e he => h1 e (by simp [he])) (fun e he => h2 e (by simp [he])) e z
theorem join_ok : ∀ {m o : Money}, MOk m → MOk o → MOk (Money.join m o) ∧ ∀ n, Money.on (Money.join m o) n = Money.on m n + Money.on o n := by
  intro m o
  induction m, o using Money.join.induct with
  | case1 m => intro _ h2; rw [Money.join]; exact ⟨h2, fun n => by rw [on_nil, Nat.zero_add]⟩
  | case2 m hne => intro h1 _; rw [Money.join]; exact ⟨h1, fun n => by rw [on_nil, Nat.add_zero]⟩; exact hne
  | case3 x l y m hlt ih =>
    intro h1 h2
    obtain ⟨a, c⟩ := x
    obtain ⟨b, d⟩ := y
    have hlt : a < b := hlt
    obtain ⟨i1, i2⟩ := ih h1.tail h2
    rw [Money.join, if_pos hlt]
    have hk : ∀ e ∈ (b, d) :: m, a < e.1 := fun e he => by
      rcases List.mem_cons.mp he with z | z
      · rw [z]; exact hlt
      · exact Nat.lt_trans hlt (h2.lt e z)
    refine ⟨i1.cons (h1.pos (a, c) (by simp)) (join_keys h1.lt hk), fun n => ?_⟩
    rw [on_cons, on_cons, i2]
    by_cases e : a = n
    · rw [if_pos e, if_pos e, on_out (l := (b, d) :: m) fun e' he' => by have := hk e' he'; omega]
      rfl
    · rw [if_neg e, if_neg e]
  | case4 x l y m h1' h2' ih =>
    intro h1 h2
    obtain ⟨a, c⟩ := x
    obtain ⟨b, d⟩ := y
    have h2' : b < a := h2'
    obtain ⟨i1, i2⟩ := ih h1 h2.tail
    rw [Money.join, if_neg h1', if_pos h2']
    have hk : ∀ e ∈ (a, c) :: l, b < e.1 := fun e he => by
      rcases List.mem_cons.mp he with z | z
      · rw [z]; exact h2'
      · exact Nat.lt_trans h2' (h1.lt e z)
    refine ⟨i1.cons (h2.pos (b, d) (by simp)) (join_keys hk h2.lt), fun n => ?_⟩
    rw [on_cons (l := Money.join _ _), i2, on_cons (a := b) (l := m)]
    by_cases e : b = n
    · rw [if_pos e, if_pos e, on_out (l := (a, c) :: l) fun e' he' => by have := hk e' he'; omega, Nat.zero_add]
    · rw [if_neg e, if_neg e]
  | case5 x l y m h1' h2' ih =>
    intro h1 h2
    obtain ⟨a, c⟩ := x
    obtain ⟨b, d⟩ := y
    have hab : a = b := by
      have h1' : ¬ a < b := h1'
      have h2' : ¬ b < a := h2'
      omega
    subst hab
    obtain ⟨i1, i2⟩ := ih h1.tail h2.tail
    rw [Money.join, if_neg h1', if_neg h2']
    have pc : 0 < c := h1.pos (a, c) (by simp)
    refine ⟨i1.cons (show 0 < c + d by omega) (join_keys h1.lt h2.lt), fun n => ?_⟩
    rw [on_cons (l := Money.join _ _), i2, on_cons, on_cons]
    by_cases e : a = n
    · rw [if_pos e, if_pos e, if_pos e]
    · rw [if_neg e, if_neg e, if_neg e]
theorem right_iff {many : Nat} {m : Money} : m.right many = true ↔ MOk m ∧ (∀ e ∈ m, e.1 < many) ∧ m.length ≤ 262144 ∧ m.total ≤ CENTS := by
  unfold Money.right
  simp only [Bool.and_eq_true, List.all_eq_true, decide_eq_true_eq, rises_iff]
  constructor
  · rintro ⟨h1, h2, h3, h4⟩
    exact ⟨⟨h1, fun e he => (h2 e he).2⟩, fun e he => (h2 e he).1, h3, h4⟩
  · rintro ⟨h1, h2, h3, h4⟩
    exact ⟨h1.up, fun e he => ⟨h2 e he, h1.pos e he⟩, h3, h4⟩
end Pd
end
section
set_option Elab.async false
set_option linter.all false
namespace Pd
open Tote TotePoolCalls
theorem pairs_append : ∀ {l m : List Int}, l.length % 2 = 0 → PoolNeutral.pairs (l ++ m) = PoolNeutral.pairs l ++ PoolNeutral.pairs m
  | [], m, _ => rfl
  | [_], m, h => by simp at h
  | a :: b :: r, m, h => by
    show (a.toNat, b.toNat) :: PoolNeutral.pairs (r ++ m) = (a.toNat, b.toNat) :: (PoolNeutral.pairs r ++ PoolNeutral.pairs m)
    rw [pairs_append (by simp at h; omega)]
theorem pairs_flat (g : Grp) : ∀ ns : List Int, PoolNeutral.pairs (flatP g ns) = (ns.filter fun k => decide (0 < (lookG g k).getD 0)).map fun k => (k.toNat, ((lookG g k).getD 0).toNat)
  | [] => rfl
  | k :: ns => by
    show PoolNeutral.pairs ((if 0 < (lookG g k).getD 0 then [k, (lookG g k).getD 0] else []) ++ flatP g ns) = _
    rw [pairs_append (by split <;> simp), pairs_flat g ns, List.filter_cons]
    by_cases h : 0 < (lookG g k).getD 0
    · rw [if_pos h, if_pos (by simpa using h)]
      rfl
    · rw [if_neg h, if_neg (by simpa using h)]
      rfl
theorem moneyNums_pairs : ∀ {l : List Int}, l.length % 2 = 0 → (∀ x ∈ l, 0 ≤ x) → (moneyNums (PoolNeutral.pairs l)).map (fun (n : Nat) => (n : Int)) = l
  | [], _, _ => rfl
  | [_], h, _ => by simp at h
  | a :: b :: r, h, hp => by
    have h1 := hp a (by simp)
    have h2 := hp b (by simp)
    show ((a.toNat : Nat) : Int) :: ((b.toNat : Nat) : Int) :: (moneyNums (PoolNeutral.pairs r)).map (fun (n : Nat) => (n : Int)) = a :: b :: r
    rw [moneyNums_pairs (by simp at h; omega) fun x hx => hp x (by simp [hx]), Int.toNat_of_nonneg h1, Int.toNat_of_nonneg h2]
theorem out_mok {g : Grp} {out : List Int} (h : OutOf g out) (nd : (keysG g).Nodup) (hk : ∀ x ∈ keysG g, 0 ≤ x) : MOk (PoolNeutral.pairs out) ∧ (∀ x ∈ out, 0 ≤ x) ∧ ∀ n : Nat, ((Money.on (PoolNeutral.pairs out) n : Nat) : Int) = max 0 ((lookG g n).getD 0) := by
  obtain ⟨ns, pm, up, rfl⟩ := h
  have h0 : ∀ x ∈ ns, 0 ≤ x := fun x hx => hk x (pm.mem_iff.mp hx)
  have lt : ns.Pairwise (· < ·) := by
    have nd2 : ns.Nodup := pm.nodup_iff.mpr nd
    exact (up.and nd2).imp fun ⟨h1, h2⟩ => by omega
  have hp := flatP_nonneg g ns h0
  have mok : MOk (PoolNeutral.pairs (flatP g ns)) := by
    rw [pairs_flat]
    refine ⟨?_, fun e he => ?_⟩
    · rw [List.map_map]
      refine List.pairwise_map.mpr ?_
      refine (lt.sublist List.filter_sublist).imp_of_mem fun {a b} ha hb hab => ?_
      have := h0 a (List.mem_filter.mp ha).1
      show a.toNat < b.toNat
      omega
    · obtain ⟨k, hk', rfl⟩ := List.mem_map.mp he
      have := (List.mem_filter.mp hk').2
      simp only [decide_eq_true_eq] at this
      show 0 < ((lookG g k).getD 0).toNat
      omega
  refine ⟨mok, hp, fun n => ?_⟩
  by_cases hc : 0 < (lookG g n).getD 0
  · have hm : (n : Int) ∈ ns := by
      refine pm.mem_iff.mpr ?_
      by_cases z : (n : Int) ∈ keysG g
      · exact z
      · rw [lookG_none.mpr z] at hc
        exact absurd hc (by decide)
    have hmem : (n, ((lookG g n).getD 0).toNat) ∈ PoolNeutral.pairs (flatP g ns) := by
      rw [pairs_flat]
      refine List.mem_map.mpr ⟨(n : Int), List.mem_filter.mpr ⟨hm, by simpa using hc⟩, ?_⟩
      rw [Int.toNat_natCast]
    have e := on_mem mok _ hmem
    have e : Money.on (PoolNeutral.pairs (flatP g ns)) n = ((lookG g n).getD 0).toNat := e
    rw [e]
    omega
  · have e : Money.on (PoolNeutral.pairs (flatP g ns)) n = 0 := by
      refine on_out fun x hx z => ?_
      rw [pairs_flat] at hx
      obtain ⟨k, hk', rfl⟩ := List.mem_map.mp hx
      have h3 := List.mem_filter.mp hk'
      have h4 := h0 k h3.1
      have z : k.toNat = n := z
      have ek : k = (n : Int) := by omega
      have h5 := h3.2
      simp only [decide_eq_true_eq] at h5
      rw [ek] at h5
      exact hc h5
    rw [e]
    omega
theorem right_mok {l : List Int} {n : Nat} (h0 : ∀ x ∈ l, 0 ≤ x) (h2 : l.length % 2 = 0) (h : rightM l (n : Int) = true) : MOk (PoolNeutral.pairs l) := by
  rw [right_eq h0 h2] at h
  exact (right_iff.mp h).1
theorem pairs_nonneg : ∀ {l : List Int}, (∀ x ∈ l, 0 ≤ x) → (∀ p ∈ pairsI l, 0 ≤ p.1 ∧ 0 ≤ p.2)
  | [], _, p, hp => by simp [pairsI] at hp
  | [_], _, p, hp => by simp [pairsI] at hp
  | a :: b :: r, h, p, hp => by
    rcases List.mem_cons.mp (show p ∈ (a, b) :: pairsI r from hp) with e | e
    · rw [e]
      exact ⟨h a (by simp), h b (by simp)⟩
    · exact pairs_nonneg (fun x hx => h x (by simp [hx])) p e
theorem keys_nonneg {l : List Int} (h : ∀ x ∈ l, 0 ≤ x) : ∀ x ∈ keysG (pairsI l), 0 ≤ x := fun x hx => by
  obtain ⟨p, hp, rfl⟩ := List.mem_map.mp hx
  exact (pairs_nonneg h p hp).1
theorem on_look {l : List Int} (h : ∀ x ∈ l, 0 ≤ x) (n : Nat) : ((Money.on (PoolNeutral.pairs l) n : Nat) : Int) = (lookG (pairsI l) n).getD 0 := by
  rw [on_atM l h, look_pairs]
theorem join_out {ms os out : List Int} {n : Nat} (m0 : ∀ x ∈ ms, 0 ≤ x) (m2 : ms.length % 2 = 0) (o0 : ∀ x ∈ os, 0 ≤ x) (o2 : os.length % 2 = 0) (hm : rightM ms (n : Int) = true) (ho : rightM os (n : Int) = true)
    (h : OutOf (addG (pairsI ms) (pairsI os)) out) : PoolNeutral.pairs out = Money.join (PoolNeutral.pairs ms) (PoolNeutral.pairs os) ∧ ∀ x ∈ out, 0 ≤ x := by
  have nd := nodup_add (pairsI os) (pairsI ms) (right_nodup hm)
  have hk := keys_add (P := fun x => 0 ≤ x) (pairsI os) (pairsI ms) (keys_nonneg m0) (fun p hp => (pairs_nonneg o0 p hp).1)
  obtain ⟨h1, h2, h3⟩ := out_mok h nd hk
  have hj := join_ok (right_mok m0 m2 hm) (right_mok o0 o2 ho)
  refine ⟨money_ext h1 hj.1 fun k => ?_, h2⟩
  rw [hj.2]
  have e := h3 k
  rw [look_add (k : Int) _ _ (right_nodup ho), ← on_look m0, ← on_look o0] at e
  omega
theorem askM_nat {pool : Int} {card : List Int} {mss : List (List Int)} (hc : ∀ x ∈ card, 0 ≤ x ∧ x ≤ 255) : ∃ n : Nat, (askM pool card mss).2 = (n : Int) := by
  unfold askM
  split
  · exact ⟨0, rfl⟩
  · split
    · exact ⟨0, rfl⟩
    · rename_i c hcm
      obtain ⟨rs, ps⟩ := c
      split
      · exact ⟨0, rfl⟩
      · rename_i p hp
        split
        · have hq := hcm
          rw [codes_text hc] at hq
          obtain ⟨C, _, rfl, rfl⟩ := of_cardM hq
          have hp : (C.pools.map mp)[pool.toNat]? = some p := hp
          rw [List.getElem?_map] at hp
          cases e : C.pools[pool.toNat]? with
          | none => rw [e] at hp; cases hp
          | some q =>
            rw [e] at hp
            cases hp
            exact ⟨_, count_eq (cardM_in hcm _ (List.mem_map.mpr ⟨q, List.mem_of_getElem? e, rfl⟩))⟩
        · exact ⟨0, rfl⟩
theorem join_eq {pool : Int} {card ms os ans : List Int} (hc : ∀ x ∈ card, 0 ≤ x ∧ x ≤ 255) (m0 : ∀ x ∈ ms, 0 ≤ x) (m2 : ms.length % 2 = 0) (o0 : ∀ x ∈ os, 0 ≤ x) (o2 : os.length % 2 = 0) (h : JoinAns pool card ms os ans) : PyWqaqcm.join pool card ms os = ans := by
  have e : PyWqaqcm.join pool card ms os = (let a := ofMoney (PoolNeutral.text card) pool.toNat (PoolNeutral.pairs ms) (fun _ many => if Money.right many (PoolNeutral.pairs os) = false then says (-3) else
    let z := Money.join (PoolNeutral.pairs ms) (PoolNeutral.pairs os)
    if Money.right many z = true then hands z else says (-9)); a.code :: a.nums) := rfl
  rw [e, answer_eq (gm := fun z => if z.1 < 0 then [z.1] else (let a := (if Money.right z.2.toNat (Money.join (PoolNeutral.pairs ms) (PoolNeutral.pairs os)) = true then hands (Money.join (PoolNeutral.pairs ms) (PoolNeutral.pairs os)) else says (-9)); a.code :: a.nums)) (others := [os]) hc m0 m2 (fun z hz => if_pos hz) (fun _ n h1 h2 => ?_) (fun _ n h2 => ?_)]
  · unfold JoinAns at h
    by_cases hn : (askM pool card [ms, os]).1 < 0
    · rw [if_pos hn] at h
      rw [if_pos hn, h]
    · rw [if_neg hn] at h
      rw [if_neg hn]
      obtain ⟨out, ho, rfl⟩ := h
      obtain ⟨k, hk⟩ := askM_nat (pool := pool) (mss := [ms, os]) hc
      have r1 : rightM ms (k : Int) = true := by rw [← hk]; exact askM_right hn ms (by simp)
      have r2 : rightM os (k : Int) = true := by rw [← hk]; exact askM_right hn os (by simp)
      obtain ⟨e1, e2⟩ := join_out m0 m2 o0 o2 r1 r2 ho
      have e3 := outOf_even ho
      rw [hk, Int.toNat_natCast, ← e1, ← right_eq e2 e3]
      by_cases hr : rightM out (k : Int) = true
      · rw [if_pos hr, if_pos hr]
        show (0 : Int) :: (moneyNums (PoolNeutral.pairs out)).map (fun (n : Nat) => (n : Int)) = 0 :: out
        rw [moneyNums_pairs e3 e2]
      · rw [if_neg hr, if_neg hr]
        rfl
  · have h3 : rightM os (n : Int) = true := by simpa using h2
    rw [right_eq o0 o2] at h3
    rw [if_neg (by rw [h3]; decide), if_neg (show ¬ (0 : Int) < 0 by decide), Int.toNat_natCast]
  · have h3 : rightM os (n : Int) = false := by simpa using h2
    rw [right_eq o0 o2] at h3
    rw [if_pos h3]
    rfl
end Pd
end
section
set_option Elab.async false
set_option linter.all false
set_option maxRecDepth 100000
set_option maxHeartbeats 2000000
namespace Pd
open PySem PySem.Spec PyProof.Rows L2 TL
noncomputable def toK (g : Grp) : List (Key × V) := g.map fun p => (Sum.inl p.1, V.int p.2)
theorem toK_keys (g : Grp) : (toK g).map (·.1) = (keysG g).map Sum.inl := by
  unfold toK keysG
  rw [List.map_map, List.map_map]
  rfl
theorem toK_len (g : Grp) : (toK g).length = g.length := by unfold toK; rw [List.length_map]
theorem toK_val (g : Grp) (k : Int) : valV (toK g) (Sum.inl k) = (lookG g k).map V.int := by
  induction g with
  | nil => rfl
  | cons p g ih =>
    show valV ((Sum.inl p.1, V.int p.2) :: toK g) (Sum.inl k) = _
    rw [lookG_cons]
    by_cases h : p.1 = k
    · rw [if_pos h, valV_pos (by rw [h])]
      rfl
    · rw [if_neg h, valV_neg (fun z => h (Sum.inl.inj z)), ih]
theorem toK_put (g : Grp) (k v : Int) : putK (toK g) (Sum.inl k) (V.int v) = toK (putG g k v) := by
  have e : ((toK g).any fun kv => decide (kv.1 = Sum.inl k)) = (g.any fun p => decide (p.1 = k)) := by
    unfold toK
    rw [List.any_map]
    congr 1
    funext p
    show decide ((Sum.inl p.1 : Key) = Sum.inl k) = decide (p.1 = k)
    by_cases h : p.1 = k
    · rw [decide_eq_true h, decide_eq_true (by rw [h])]
    · rw [decide_eq_false h, decide_eq_false (fun z => h (Sum.inl.inj z))]
  unfold putK putG
  rw [e]
  split
  · unfold toK
    rw [List.map_map, List.map_map]
    apply List.map_congr_left
    intro p _
    show (if (Sum.inl p.1 : Key) = Sum.inl k then ((Sum.inl p.1 : Key), V.int v) else (Sum.inl p.1, V.int p.2)) = _
    by_cases h : p.1 = k
    · rw [if_pos (by rw [h])]
      show _ = (Sum.inl (if p.1 = k then (p.1, v) else p).1, V.int (if p.1 = k then (p.1, v) else p).2)
      rw [if_pos h]
    · rw [if_neg (fun z => h (Sum.inl.inj z))]
      show _ = (Sum.inl (if p.1 = k then (p.1, v) else p).1, V.int (if p.1 = k then (p.1, v) else p).2)
      rw [if_neg h]
  · unfold toK
    rw [List.map_append]
    rfl
theorem merge_new : ∀ (l g : Grp), (keysG (g ++ l)).Nodup → mergeK (toK g) (toK l) = toK (g ++ l)
  | [], g, _ => by
    rw [List.append_nil]
    rfl
  | p :: l, g, h => by
    have hk : p.1 ∉ keysG g := by
      intro z
      unfold keysG at h z
      rw [List.map_append, List.nodup_append] at h
      exact h.2.2 _ z _ (by simp) rfl
    have e : putG g p.1 p.2 = g ++ [p] := by
      unfold putG
      rw [if_neg (fun z => hk (any_keys.mp z))]
    show mergeK (putK (toK g) (Sum.inl p.1) (V.int p.2)) (toK l) = _
    rw [toK_put, e, merge_new l (g ++ [p]) (by rw [List.append_assoc]; exact h), List.append_assoc]
    rfl
theorem evens_keys : ∀ ms : List Int, ms.length % 2 = 0 → L2.evens (ms.map V.int) = ((keysG (pairsI ms)).map (Sum.inl : Int → Key)).map kV
  | [], _ => rfl
  | [_], h => by simp at h
  | a :: b :: r, h => by
    show V.int a :: L2.evens (r.map V.int) = kV (Sum.inl a) :: ((keysG (pairsI r)).map (Sum.inl : Int → Key)).map kV
    rw [evens_keys r (by simp at h; omega)]
    rfl
theorem odds_vals : ∀ ms : List Int, L2.odds (ms.map V.int) = (pairsI ms).map fun p => V.int p.2
  | [] => rfl
  | [_] => rfl
  | a :: b :: r => by
    rw [List.map_cons, List.map_cons, odds_cc, odds_vals r]
    rfl
theorem zip_toK (g : Grp) : ((keysG g).map (Sum.inl : Int → Key)).zip (g.map fun p => V.int p.2) = toK g := by
  induction g with
  | nil => rfl
  | cons p g ih =>
    show (Sum.inl p.1, V.int p.2) :: (((keysG g).map (Sum.inl : Int → Key)).zip (g.map fun p => V.int p.2)) = _
    rw [ih]
    rfl
section
variable {P : Program} {w : World} {K : PySem.W.Frag} {mg : Str → Option Value} {base : Heap} {NC Cp Ca : Addr}
noncomputable abbrev sByNum : Stmt := top 5
noncomputable def spByNum (K : PySem.W.Frag) : Sp := fun vs H Q _ => ∃ (a : Addr) (ms : List Int), vs = [.ref a] ∧ SqL K H a (ms.map V.int) ∧ ms.length % 2 = 0 ∧ (keysG (pairsI ms)).Nodup ∧ ∀ H' d, Same H H' → H d = none → H' d = some (.dK (toK (pairsI ms))) → Q (.ref d) H'
theorem scByNum : FnScope ["money"] ["money"] (defScope sByNum) := ⟨rfl, rfl, rfl, by decide +kernel, rfl, by decide +kernel, by decide +kernel⟩
theorem ok_bynum (D : Def K mg "by_number" sByNum ["money"]) (T : Tx mg) : Ok P w K mg base CX0 1 "by_number" ["money"] (spByNum K) := by
  refine D.ok scByNum (fun vs H Q E h => ?_) (fun f cdv A outer s H vs Q E hr h => ?_)
  · obtain ⟨_, _, rfl, _⟩ := h
    rfl
  · obtain ⟨a, ms, rfl, hS, h2, nd, kQ⟩ := h
    refine ⟨_, (pss_one (ps_ret (pe_dictzip rfl rfl T.b_dict rfl T.b_zip (pa_cons (pe_step (pv 0) pe_int pe_int) (pa_cons (pe_step (pv 0) pe_int pe_int) pa_nil))))), ?_⟩
    refine ⟨_, rfl, a, _, 0, rfl, rfl, rfl, hS, fun p hp => ?_⟩
    refine ⟨_, rfl, a, _, 1, rfl, rfl, rfl, (Same.new hp).seq hS, fun q hq => ?_⟩
    rw [List.drop_zero] at hq ⊢
    rw [show L2.evens ((ms.map V.int).drop 1) = L2.odds (ms.map V.int) from rfl]
    rw [evens_keys ms h2] at hq ⊢
    rw [odds_vals]
    have hqp : p ≠ q := fun z => by rw [← z, upd_same] at hq; cases hq
    have s1 : Same H (upd H p (.lst (((keysG (pairsI ms)).map (Sum.inl : Int → Key)).map kV))) := Same.new hp
    have hq0 : H q = none := by
      have := hq
      rw [upd_ne (Ne.symm hqp)] at this
      exact this
    refine ⟨p, q, (keysG (pairsI ms)).map Sum.inl, _, rfl, SqL.of ?_, SqL.of upd_same, by unfold keysG; rw [List.length_map, List.length_map, List.length_map], fun x hx => ?_⟩
    · rw [upd_ne hqp, upd_same]
    · rw [zip_toK]
      have e : mergeK [] (toK (pairsI ms)) = toK (pairsI ms) := merge_new (pairsI ms) [] nd
      rw [e]
      have hx1 : (upd H p (.lst (((keysG (pairsI ms)).map (Sum.inl : Int → Key)).map kV))) x = none := by
        by_cases z : x = q
        · rw [z, upd_same] at hx; cases hx
        · rw [upd_ne z] at hx
          exact hx
      have hx0 : H x = none := by
        by_cases z : x = p
        · rw [z, upd_same] at hx1; cases hx1
        · rw [upd_ne z] at hx1
          exact hx1
      exact kQ _ x ((s1.trans (Same.new hq)).trans (Same.new hx)) hx0 upd_same
end
end Pd
end
section
set_option Elab.async false
set_option linter.all false
set_option maxRecDepth 100000
set_option maxHeartbeats 2000000
namespace Pd
open PySem PySem.Spec PyProof.Rows L2 TL
section
variable {P : Program} {w : World} {K : PySem.W.Frag} {mg : Str → Option Value} {base : Heap} {NC Cp Ca : Addr}
noncomputable abbrev sInPairs : Stmt := top 6
noncomputable def spInPairs : Sp := fun vs H Q _ => ∃ (d : Addr) (g : Grp), vs = [.ref d] ∧ H d = some (.dK (toK g)) ∧ (keysG g).Nodup ∧ g.length ≤ 1000000 ∧ ∀ out H' p, OutOf g out → Same H H' → H p = none → H' p = some (.lst (out.map V.int)) → Q (.ref p) H'
theorem scInPairs : FnScope ["cents", "money", "number"] ["cents"] (defScope sInPairs) := ⟨rfl, rfl, rfl, by decide +kernel, rfl, by decide +kernel, by decide +kernel⟩
theorem ok_inpairs (D : Def K mg "in_pairs" sInPairs ["cents"]) (T : Tx mg) : Ok P w K mg base CX0 1 "in_pairs" ["cents"] spInPairs := by
  refine D.ok scInPairs (fun vs H Q E h => ?_) (fun f cdv A outer s H vs Q E hr h => ?_)
  · obtain ⟨_, _, rfl, _⟩ := h
    rfl
  · obtain ⟨d, g, rfl, hd, nd, hg, kQ⟩ := h
    have hu := hu_of hr
    have hz := sizeLine_is
    refine ⟨_, (pss_cons (ps_set (i := 1) scInPairs.nd rfl (Or.inl rfl) (pe_lst pa_nil)) (pss_cons (ps_for PassesOwn.never rfl (pi_list (pe_callB (call_sortedD rfl) (by rfl) T.b_sorted boot_sorted (pa_cons (pv 0) pa_nil))) (pg_name (i := 2) scInPairs.nd rfl (Or.inl rfl)) (pss_one (ps_if (pt_cmpR op_gt (pe_dget hu (pv 0) (pv 2) (fun _ _ => rfl)) pe_int (nomark _)) (pss_one (ps_expr (pe_bm PySem.F.plainAttrs_list PySem.F.slot_list_extend PySem.F.type_list_extend mt_extend (pv 1) (pa_cons (pe_lst (pa_cons (pv 2) (pa_cons (pe_dget hu (pv 0) (pv 2) (fun _ _ => rfl)) pa_nil))) pa_nil)))) pss_nil))) (pss_one (ps_ret (pv 1))))), ?_⟩
    refine ⟨by show 0 ≤ _; omega, fun m hm => ⟨_, rfl, d, toK g, keysG g, rfl, (Same.new hm) _ _ hd, toK_keys g, fun ns p pm up hp => ?_⟩⟩
    have hmp : m ≠ p := fun z => by rw [← z, upd_same] at hp; cases hp
    have hp0 : H p = none := by rw [upd_ne (Ne.symm hmp)] at hp; exact hp
    have nlen : ns.length = g.length := by rw [pm.length_eq]; unfold keysG; rw [List.length_map]
    refine ⟨p, rfl, ⟨_, SqL.of upd_same⟩, for_list (K := K) (a := p) (xs := ns.map V.int) (fun i σ H' => ∃ v : Option V, σ = [some (.ref d), some (.ref m), v] ∧ Same H H' ∧ H' p = some (.lst (ns.map V.int)) ∧ H' m = some (.lst ((flatP g (ns.take i)).map V.int)))
      ⟨none, rfl, (Same.new hm).trans (Same.new hp), upd_same, by rw [upd_ne hmp, upd_same]; rfl⟩ (fun i σ H' _ ⟨_, _, _, h, _⟩ => SqL.of h) ?_ ?_⟩
    · rintro i y σ H' hi ⟨v, rfl, s1, h1, h2⟩
      rw [List.getElem?_map] at hi
      cases hn : ns[i]? with
      | none => rw [hn] at hi; cases hi
      | some n =>
      rw [hn] at hi
      cases hi
      have hmem : n ∈ keysG g := pm.mem_iff.mp (List.mem_of_getElem? hn)
      have hdd := s1 _ _ hd
      cases hv : lookG g n with
      | none => exact absurd hmem (lookG_none.mp hv)
      | some c =>
      have hval : valV (toK g) (Sum.inl n) = some (.int c) := by rw [toK_val, hv]; rfl
      have ht : ns.take (i + 1) = ns.take i ++ [n] := take_snoc' hn
      have hfl : (flatP g (ns.take i)).length + 2 ≤ sizeLine := by
        have h7 := flatP_len g (ns.take i)
        have h8 : (ns.take i).length ≤ 1000000 := by
          rw [List.length_take]
          exact Nat.le_trans (Nat.min_le_right _ _) (by omega)
        rw [sizeLine_eq]
        omega
      try dsimp only [tLst, tDGet, tBM, rExtend, tSeq, tMake, cxOf_K, cxOf_P, cxOf_W, rIxT, tDIn, tDNotIn, sDPut, tAug, ipI, ipMul, tBreak, tSl, tPart, tNoPart, rSlL, rIxL, tRaise, tAnd, tOr, tM0, tM1, tIfS, tTest, tB, tChain, tCB, tCons, tNil, tC, tVar, tOp, tUn, rU, rI0, rI, rEq, rNe, tRet, tRetN, tDrop, tAsg, gName, tCall, tAndV, tOrV, tNotV, tNot, L2.start, List.map, List.replicate, List.cons_append, List.nil_append, List.getElem?_cons_zero, List.getElem?_cons_succ, List.set_cons_zero, List.set_cons_succ]
      try simp only [tSeq, tMake, cxOf_K, cxOf_P, cxOf_W, rIxT, tDIn, tDNotIn, sDPut, tAug, ipI, ipMul, tBreak, tSl, tPart, tNoPart, rSlL, rIxL, tRaise, tAnd, tOr, tM0, tM1, tIfS, tTest, tB, tChain, tCB, tCons, tNil, tC, tVar, tOp, tUn, rU, rI0, rI, rEq, rNe, sc_ii, sc_ss, sc_bb, sc_is, sc_si, tRet, tRetN, tDrop, tAsg, gName, tCall, tAndV, tOrV, tNotV, tNot, L2.start, List.map, List.replicate, List.length_cons, List.length_nil, Nat.sub_self, Nat.reduceAdd, Nat.reduceSub, List.cons_append, List.nil_append, List.append_nil, List.getElem?_cons_zero, List.getElem?_cons_succ, List.set_cons_zero, List.set_cons_succ, Option.some.injEq, V.int.injEq, V.str.injEq, V.bl.injEq, V.ref.injEq, List.cons.injEq, exists_and_left, exists_and_right, exists_eq_left, exists_eq_left', exists_eq_right, exists_eq, true_and, and_true, exists_eq_right_right, decide_eq_true_eq, Bool.not_eq_true', decide_eq_false_iff_not, Bool.and_eq_true, ite_chain, ite_chor, Int.cast_ofNat_Int, Int.natCast_add, Classical.not_not, Bool.false_eq_true, ↓reduceIte, tLst, tDGet, tBM, rExtend]
      have hdg : DGet H' d (.int n) (some (.int c)) := by
        rw [← hval]
        exact DGet.k (k := Sum.inl n) hdd
      refine ⟨_, hdg, c, rfl, ?_⟩
      refine ite2 (fun b => ?_) (fun b => ?_)
      · refine ⟨(.inl ⟨rfl, _, SqL.of h2⟩ : tyV K "list" (.ref m) H'), _, hdg, by omega, fun t ht0 => ?_⟩
        have htm : m ≠ t := fun z => by rw [← z, h2] at ht0; cases ht0
        have htp : p ≠ t := fun z => by rw [← z, h1] at ht0; cases ht0
        have s2 : Same H' (upd H' t (.lst [.int n, .int c])) := Same.new ht0
        refine ⟨_, s2 _ _ h2, _, upd_same, by rw [List.length_map]; exact hfl, ⟨_, rfl⟩, (s1.trans s2).newer hm, ?_, ?_⟩
        · rw [upd_ne (Ne.symm hmp)]
          exact s2 _ _ h1
        · rw [upd_same, ht, flatP_snoc, hv]
          show some (HO.lst (_ ++ [V.int n, V.int c])) = some (HO.lst (List.map V.int (flatP g (List.take i ns) ++ if 0 < c then [n, c] else [])))
          rw [if_pos b, List.map_append]
          rfl
      · refine ⟨⟨_, rfl⟩, s1, h1, ?_⟩
        rw [h2, ht, flatP_snoc, hv]
        show _ = some (HO.lst (List.map V.int (flatP g (List.take i ns) ++ if 0 < c then [n, c] else [])))
        rw [if_neg b, List.append_nil]
    · rintro σ H' ⟨v, rfl, s1, h1, h2⟩
      rw [List.length_map, List.take_length] at h2
      exact ⟨_, rfl, kQ _ H' m ⟨ns, pm, up, rfl⟩ s1 hm h2⟩
noncomputable abbrev sWithOther : Stmt := top 7
noncomputable def spWithOther (K : PySem.W.Frag) : Sp := fun vs H Q _ => ∃ (a b : Addr) (ms os : List Int), vs = [.ref a, .ref b] ∧ SqL K H a (ms.map V.int) ∧ ms.length % 2 = 0 ∧ ms.length ≤ 16000 ∧ (keysG (pairsI ms)).Nodup ∧ SqL K H b (os.map V.int) ∧ os.length % 2 = 0 ∧ os.length ≤ 16000 ∧
  ∀ out H' p, OutOf (addG (pairsI ms) (pairsI os)) out → Same H H' → H p = none → H' p = some (.lst (out.map V.int)) → Q (.ref p) H'
theorem scWithOther : FnScope ["money", "other", "cents", "number", "more"] ["money", "other"] (defScope sWithOther) := ⟨rfl, rfl, rfl, by decide +kernel, rfl, by decide +kernel, by decide +kernel⟩
theorem ok_withother (D : Def K mg "with_other" sWithOther ["money", "other"]) (T : Tx mg) (G_by_number : Ok P w K mg base CX0 1 "by_number" ["money"] (spByNum K)) (G_in_pairs : Ok P w K mg base CX0 1 "in_pairs" ["cents"] spInPairs) : Ok P w K mg base CX0 2 "with_other" ["money", "other"] (spWithOther K) := by
  refine D.ok scWithOther (fun vs H Q E h => ?_) (fun f cdv A outer s H vs Q E hr h => ?_)
  · obtain ⟨_, _, _, _, rfl, _⟩ := h
    rfl
  · obtain ⟨a, b, ms, os, rfl, hS, m2, ml, nd, hO, o2, ol, kQ⟩ := h
    have hu := hu_of hr
    have hz := sizeLine_is
    refine ⟨_, (pss_cons (ps_set (i := 2) scWithOther.nd rfl (Or.inl rfl) (pe_own G_by_number (hr.mono (by decide)) rfl pass0 (pa_cons (pv 0) pa_nil))) (pss_cons (ps_for PassesOwn.never rfl (pi_zip rfl T.b_zip (pa_cons (pe_step (pv 1) pe_int pe_int) (pa_cons (pe_step (pv 1) pe_int pe_int) pa_nil))) (pg_tup rfl (pgs_cons (pg_name (i := 3) scWithOther.nd rfl (Or.inl rfl)) (pgs_cons (pg_name (i := 4) scWithOther.nd rfl (Or.inl rfl)) pgs_nil))) (pss_one (ps_dput hu (pv 2) (pv 3) (pe_op op_add (pe_dget2 hu (pv 2) (pv 3) pe_int ⟨rfl, rfl, rfl, rfl⟩) (pv 4)) rfl))) (pss_one (ps_ret (pe_own G_in_pairs (hr.mono (by decide)) rfl pass0 (pa_cons (pv 2) pa_nil)))))), ?_⟩
    have lk : (pairsI ms).length ≤ 8000 := by rw [len_pairsI]; omega
    have lo : (pairsI os).length ≤ 8000 := by rw [len_pairsI]; omega
    refine ⟨_, rfl, a, ms, rfl, hS, m2, nd, fun H1 d s1 nd1 hd => ?_⟩
    refine ⟨_, rfl, b, _, 0, rfl, rfl, rfl, s1.seq hO, fun p hp => ?_⟩
    refine ⟨_, rfl, b, _, 1, rfl, rfl, rfl, (s1.trans (Same.new hp)).seq hO, fun q hq => ?_⟩
    rw [List.drop_zero] at hq ⊢
    rw [show L2.evens ((os.map V.int).drop 1) = L2.odds (os.map V.int) from rfl]
    rw [evens_keys os o2] at hq ⊢
    rw [odds_vals]
    have hqp : p ≠ q := fun z => by rw [← z, upd_same] at hq; cases hq
    have hq1 : H1 q = none := by rw [upd_ne (Ne.symm hqp)] at hq; exact hq
    have hdp : d ≠ p := fun z => by rw [z, hp] at hd; cases hd
    have hdq : d ≠ q := fun z => by rw [z, hq1] at hd; cases hd
    have hp0 := s1.free hp
    have hq0 := s1.free hq1
    have hpp : (upd (upd H1 p (.lst (((keysG (pairsI os)).map (Sum.inl : Int → Key)).map kV))) q (.lst ((pairsI os).map fun p => V.int p.2))) p = some (.lst (((keysG (pairsI os)).map (Sum.inl : Int → Key)).map kV)) := by rw [upd_ne hqp, upd_same]
    have hlen : (((keysG (pairsI os)).map (Sum.inl : Int → Key)).map kV).length = ((pairsI os).map fun p => V.int p.2).length := by unfold keysG; simp
    refine ⟨p, q, _, _, rfl, SqL.of hpp, SqL.of upd_same, ?_⟩
    refine for_zip (K := K) (a := p) (b := q) (xs := ((keysG (pairsI os)).map (Sum.inl : Int → Key)).map kV) (ys := (pairsI os).map fun p => V.int p.2) (fun i σ H' => ∃ v1 v2 : Option V, σ = [some (.ref a), some (.ref b), some (.ref d), v1, v2] ∧ Same H H' ∧ H' p = some (.lst (((keysG (pairsI os)).map (Sum.inl : Int → Key)).map kV)) ∧ H' q = some (.lst ((pairsI os).map fun p => V.int p.2)) ∧ H' d = some (.dK (toK (addG (pairsI ms) ((pairsI os).take i)))))
      hlen ⟨none, none, rfl, (s1.trans (Same.new hp)).trans (Same.new hq), hpp, upd_same, by rw [upd_ne hdq, upd_ne hdp]; exact hd⟩ (fun i σ H' _ ⟨_, _, _, _, h3, h4, _⟩ => ⟨SqL.of h3, SqL.of h4⟩) ?_ ?_
    · rintro i x y t σ H' hx hy ⟨v1, v2, rfl, sm, h3, h4, h5⟩ ht
      obtain ⟨z, hzz, rfl, rfl⟩ : ∃ z, (pairsI os)[i]? = some z ∧ x = .int z.1 ∧ y = .int z.2 := by
        unfold keysG at hx
        rw [List.getElem?_map, List.getElem?_map, List.getElem?_map] at hx
        rw [List.getElem?_map] at hy
        cases e : (pairsI os)[i]? with
        | none => rw [e] at hx; cases hx
        | some z =>
          rw [e] at hx hy
          cases hx
          cases hy
          exact ⟨z, rfl, rfl, rfl⟩
      have htd : d ≠ t := fun z => by rw [z, ht] at h5; cases h5
      have htp : p ≠ t := fun z => by rw [z, ht] at h3; cases h3
      have htq : q ≠ t := fun z => by rw [z, ht] at h4; cases h4
      have st : Same H' (upd H' t (.tup [.int z.1, .int z.2])) := Same.new ht
      have hd5 := st _ _ h5
      generalize hG : addG (pairsI ms) ((pairsI os).take i) = G at *
      have hGl : (toK G).length ≤ 16000 := by
        rw [toK_len, ← hG]
        have h6 := len_add ((pairsI os).take i) (pairsI ms)
        have h7 : ((pairsI os).take i).length ≤ (pairsI os).length := by rw [List.length_take]; exact Nat.min_le_right _ _
        omega
      refine ⟨t, _, rfl, .inl (.inl upd_same), rfl, _, _, rfl, _, _, rfl, rfl, ?_⟩
      try dsimp only [tDGet2, tSeq, tMake, cxOf_K, cxOf_P, cxOf_W, rIxT, tDIn, tDNotIn, sDPut, tAug, ipI, ipMul, tBreak, tSl, tPart, tNoPart, rSlL, rIxL, tRaise, tAnd, tOr, tM0, tM1, tIfS, tTest, tB, tChain, tCB, tCons, tNil, tC, tVar, tOp, tUn, rU, rI0, rI, rEq, rNe, tRet, tRetN, tDrop, tAsg, gName, tCall, tAndV, tOrV, tNotV, tNot, L2.start, List.map, List.replicate, List.cons_append, List.nil_append, List.getElem?_cons_zero, List.getElem?_cons_succ, List.set_cons_zero, List.set_cons_succ]
      try simp only [tSeq, tMake, cxOf_K, cxOf_P, cxOf_W, rIxT, tDIn, tDNotIn, sDPut, tAug, ipI, ipMul, tBreak, tSl, tPart, tNoPart, rSlL, rIxL, tRaise, tAnd, tOr, tM0, tM1, tIfS, tTest, tB, tChain, tCB, tCons, tNil, tC, tVar, tOp, tUn, rU, rI0, rI, rEq, rNe, sc_ii, sc_ss, sc_bb, sc_is, sc_si, tRet, tRetN, tDrop, tAsg, gName, tCall, tAndV, tOrV, tNotV, tNot, L2.start, List.map, List.replicate, List.length_cons, List.length_nil, Nat.sub_self, Nat.reduceAdd, Nat.reduceSub, List.cons_append, List.nil_append, List.append_nil, List.getElem?_cons_zero, List.getElem?_cons_succ, List.set_cons_zero, List.set_cons_succ, Option.some.injEq, V.int.injEq, V.str.injEq, V.bl.injEq, V.ref.injEq, List.cons.injEq, exists_and_left, exists_and_right, exists_eq_left, exists_eq_left', exists_eq_right, exists_eq, true_and, and_true, exists_eq_right_right, decide_eq_true_eq, Bool.not_eq_true', decide_eq_false_iff_not, Bool.and_eq_true, ite_chain, ite_chor, Int.cast_ofNat_Int, Int.natCast_add, Classical.not_not, Bool.false_eq_true, ↓reduceIte, tDGet2]
      have ev : (valV (toK G) (Sum.inl z.1)).getD (V.int 0) = .int ((lookG G z.1).getD 0) := by
        rw [toK_val]
        cases lookG G z.1 <;> rfl
      refine ⟨.inl ⟨_, .inl hd5⟩, _, DGet.k (k := Sum.inl z.1) hd5, _, ev, _, DPut.k (k := Sum.inl z.1) hd5 (by omega), ⟨⟨_, rfl⟩, ⟨_, rfl⟩⟩, (sm.trans st).newer nd1, ?_, ?_, ?_⟩
      · rw [upd_ne (Ne.symm hdp)]
        exact st _ _ h3
      · rw [upd_ne (Ne.symm hdq)]
        exact st _ _ h4
      · rw [upd_same, toK_put, take_snoc' hzz, addG_snoc, hG]
    · rintro σ H' ⟨v1, v2, rfl, sm, h3, h4, h5⟩
      have hl8 : (((keysG (pairsI os)).map (Sum.inl : Int → Key)).map kV).length = (pairsI os).length := by rw [hlen, List.length_map]
      rw [hl8, List.take_length] at h5
      refine ⟨_, rfl, d, addG (pairsI ms) (pairsI os), rfl, h5, nodup_add _ _ nd, ?_, fun out H2 x ho s2 nx hx => kQ out H2 x ho (sm.trans s2) (sm.free nx) hx⟩
      have h6 := len_add (pairsI os) (pairsI ms)
      omega
noncomputable abbrev sJoin : Stmt := top 52
noncomputable def spJoin (K : PySem.W.Frag) : Sp := fun vs H Q _ => ∃ (n : Int) (a m o : Addr) (ns ms os : List Int), vs = [.int n, .ref a, .ref m, .ref o] ∧ 0 ≤ n ∧ SqL K H a (ns.map V.int) ∧ (∀ x ∈ ns, 0 ≤ x ∧ x ≤ 255) ∧ ns.length ≤ 66000 ∧ SqL K H m (ms.map V.int) ∧ ms.length ≤ 16000 ∧ ms.length % 2 = 0 ∧ SqL K H o (os.map V.int) ∧ os.length ≤ 16000 ∧ os.length % 2 = 0 ∧
  ∀ ans H' p, JoinAns n ns ms os ans → H' p = some (.lst (ans.map V.int)) → Q (.ref p) H'
theorem scJoin : FnScope ["pool", "card", "money", "other", "asked", "after"] ["pool", "card", "money", "other"] (defScope sJoin) := ⟨rfl, rfl, rfl, by decide +kernel, rfl, by decide +kernel, by decide +kernel⟩
theorem ok_join {f : Addr} {fd : FuncData} (F : Fun K "join" "join" sJoin f fd) (T : Tx mg) (G_Asked : CLA P w K mg base Ca) (G_ask_pool : Ok P w K mg base CX0 6 "ask_pool" ["pool", "card", "moneys"] (spAsk K Ca)) (G_with_other : Ok P w K mg base CX0 2 "with_other" ["money", "other"] (spWithOther K)) (G_is_right : Ok P w K mg base CX0 2 "is_right" ["money", "combinations"] (spRight K)) : FnOk P w K mg base CX0 7 f fd ["pool", "card", "money", "other"] (spJoin K) := by
  refine F.ok scJoin (fun vs H Q E h => ?_) (fun cdv A outer s H vs Q E hr h => ?_)
  · obtain ⟨_, _, _, _, _, _, _, rfl, _⟩ := h
    rfl
  · obtain ⟨n, a, m, o, ns, ms, os, rfl, n0, hS, hb, hl, hM, ml, m2, hO, ol, o2, kQ⟩ := h
    refine ⟨_, (pss_cons (ps_set (i := 4) scJoin.nd rfl (Or.inl rfl) (pe_own G_ask_pool (hr.mono (by decide)) rfl pass0 (pa_cons (pv 0) (pa_cons (pv 1) (pa_cons (pe_lst (pa_cons (pv 2) (pa_cons (pv 3) pa_nil))) pa_nil))))) (pss_cons (ps_if (pt_cmpR op_lt (pe_fld (pv 4) rfl) pe_int (nomark _)) (pss_one (ps_ret (pe_lst (pa_cons (pe_fld (pv 4) rfl) pa_nil)))) pss_nil) (pss_cons (ps_set (i := 5) scJoin.nd rfl (Or.inl rfl) (pe_own G_with_other (hr.mono (by decide)) rfl pass0 (pa_cons (pv 2) (pa_cons (pv 3) pa_nil)))) (pss_cons (ps_if (pt_not (pt_val (pe_own G_is_right (hr.mono (by decide)) rfl pass0 (pa_cons (pv 5) (pa_cons (pe_fld (pv 4) rfl) pa_nil))))) (pss_one (ps_ret (pe_lst (pa_cons (pe_un un_neg pe_int) pa_nil)))) pss_nil) (pss_one (ps_ret (pe_op op_cat (pe_lst (pa_cons pe_int pa_nil)) (pv 5)))))))), ?_⟩
    have hz := sizeLine_is
    try dsimp only [tLst, tFld, tSeq, tMake, cxOf_K, cxOf_P, cxOf_W, rIxT, tDIn, tDNotIn, sDPut, tAug, ipI, ipMul, tBreak, tSl, tPart, tNoPart, rSlL, rIxL, tRaise, tAnd, tOr, tM0, tM1, tIfS, tTest, tB, tChain, tCB, tCons, tNil, tC, tVar, tOp, tUn, rU, rI0, rI, rEq, rNe, tRet, tRetN, tDrop, tAsg, gName, tCall, tAndV, tOrV, tNotV, tNot, L2.start, List.map, List.replicate, List.cons_append, List.nil_append, List.getElem?_cons_zero, List.getElem?_cons_succ, List.set_cons_zero, List.set_cons_succ]
    try simp only [tSeq, tMake, cxOf_K, cxOf_P, cxOf_W, rIxT, tDIn, tDNotIn, sDPut, tAug, ipI, ipMul, tBreak, tSl, tPart, tNoPart, rSlL, rIxL, tRaise, tAnd, tOr, tM0, tM1, tIfS, tTest, tB, tChain, tCB, tCons, tNil, tC, tVar, tOp, tUn, rU, rI0, rI, rEq, rNe, sc_ii, sc_ss, sc_bb, sc_is, sc_si, tRet, tRetN, tDrop, tAsg, gName, tCall, tAndV, tOrV, tNotV, tNot, L2.start, List.map, List.replicate, List.length_cons, List.length_nil, Nat.sub_self, Nat.reduceAdd, Nat.reduceSub, List.cons_append, List.nil_append, List.append_nil, List.getElem?_cons_zero, List.getElem?_cons_succ, List.set_cons_zero, List.set_cons_succ, Option.some.injEq, V.int.injEq, V.str.injEq, V.bl.injEq, V.ref.injEq, List.cons.injEq, exists_and_left, exists_and_right, exists_eq_left, exists_eq_left', exists_eq_right, exists_eq, true_and, and_true, exists_eq_right_right, decide_eq_true_eq, Bool.not_eq_true', decide_eq_false_iff_not, Bool.and_eq_true, ite_chain, ite_chor, Int.cast_ofNat_Int, Int.natCast_add, Classical.not_not, Bool.false_eq_true, ↓reduceIte, tLst, tFld]
    refine ⟨by omega, fun p hp => ⟨n, a, p, ns, [ms, os], rfl, n0, (Same.new hp).seq hS, hb, hl, ⟨_, upd_same, .cons ⟨m, rfl, (Same.new hp).seq hM⟩ (.cons ⟨o, rfl, (Same.new hp).seq hO⟩ .nil)⟩, by simp, by simp; omega, fun H1 x dx s1 h1 => ?_⟩⟩
    have s01 := (Same.new hp).trans s1
    refine ⟨x, rfl, Ca, dx, _, h1, G_Asked.cl, G_Asked.no "refusal" (by simp), _, rfl, _, rfl, ?_⟩
    refine ite2 (fun b => ?_) (fun b => ?_)
    · refine ⟨x, rfl, Ca, dx, _, h1, G_Asked.cl, G_Asked.no "refusal" (by simp), _, rfl, by omega, fun y hy => kQ [(askM n ns [ms, os]).1] _ y (by unfold JoinAns; rw [if_pos b]) upd_same⟩
    · simp only [tNext, tSeq, tMake, cxOf_K, cxOf_P, cxOf_W, rIxT, tDIn, tDNotIn, sDPut, tAug, ipI, ipMul, tBreak, tSl, tPart, tNoPart, rSlL, rIxL, tRaise, tAnd, tOr, tM0, tM1, tIfS, tTest, tB, tChain, tCB, tCons, tNil, tC, tVar, tOp, tUn, rU, rI0, rI, rEq, rNe, sc_ii, sc_ss, sc_bb, sc_is, sc_si, tRet, tRetN, tDrop, tAsg, gName, tCall, tAndV, tOrV, tNotV, tNot, L2.start, List.map, List.replicate, List.length_cons, List.length_nil, Nat.sub_self, Nat.reduceAdd, Nat.reduceSub, List.cons_append, List.nil_append, List.append_nil, List.getElem?_cons_zero, List.getElem?_cons_succ, List.set_cons_zero, List.set_cons_succ, Option.some.injEq, V.int.injEq, V.str.injEq, V.bl.injEq, V.ref.injEq, List.cons.injEq, exists_and_left, exists_and_right, exists_eq_left, exists_eq_left', exists_eq_right, exists_eq, true_and, and_true, exists_eq_right_right, decide_eq_true_eq, Bool.not_eq_true', decide_eq_false_iff_not, Bool.and_eq_true, ite_chain, ite_chor, Int.cast_ofNat_Int, Int.natCast_add, Classical.not_not, Bool.false_eq_true, ↓reduceIte, tLst, tFld]
      have r1 : rightM ms (askM n ns [ms, os]).2 = true := askM_right b ms (by simp)
      have r2 : rightM os (askM n ns [ms, os]).2 = true := askM_right b os (by simp)
      refine ⟨m, o, ms, os, rfl, s01.seq hM, m2, ml, right_nodup r1, s01.seq hO, o2, ol, fun out H2 q ho s2 nq hq => ?_⟩
      have ho2 := outOf_even ho
      have hol : out.length ≤ 40000 := by
        have h3 := outOf_len ho
        have h4 := len_add (pairsI os) (pairsI ms)
        have h5 := len_pairsI ms
        have h6 := len_pairsI os
        omega
      refine ⟨Ca, dx, _, s2 _ _ h1, G_Asked.cl, G_Asked.no "combinations" (by simp), _, rfl, q, out, _, rfl, SqL.of hq, by omega, ho2, fun H3 s3 => ⟨_, rfl, ?_⟩⟩
      have hj : ∀ ans, (ans = if rightM out (askM n ns [ms, os]).2 = true then 0 :: out else [-9]) → JoinAns n ns ms os ans := fun ans e => by
        unfold JoinAns
        rw [if_neg b]
        exact ⟨out, ho, e⟩
      refine ite2 (fun b2 => ⟨by omega, fun y hy => kQ [-9] _ y (hj _ (by rw [b2]; rfl)) upd_same⟩) (fun b2 => ?_)
      have b3 : rightM out (askM n ns [ms, os]).2 = true := by simpa using b2
      refine ⟨by omega, fun y hy => ⟨y, q, _, _, rfl, rfl, upd_same, (s3.trans (Same.new hy)) _ _ hq, by rw [List.length_map]; show 1 + _ ≤ _; omega, fun x2 hx2 => kQ (0 :: out) _ x2 (hj _ (by rw [b3]; rfl)) (by rw [upd_same]; rfl)⟩⟩
end
end Pd
end
section
set_option Elab.async false
set_option linter.all false
set_option maxRecDepth 100000
set_option maxHeartbeats 2000000
namespace L2
open PySem PySem.Spec PyProof.Rows
inductive Ent (w : World) : List DictEntry → List (Key × V) → Prop
  | nil : Ent w [] []
  | cons {e : DictEntry} {es : List DictEntry} {k : Key} {v : V} {kvs : List (Key × V)} : keyIs k e.key = true → e.hash = keyH w k → RelV v e.val → Ent w es kvs → Ent w (e :: es) ((k, v) :: kvs)
theorem Ent.pairs {P : Program} {w : World} : ∀ {es : List DictEntry} {kvs : List (Key × V)}, Ent w es kvs → ∃ vs : List (Key × Value), KV kvs vs ∧ Pairs (mixKind P w) es vs ∧ vs.map (·.1) = kvs.map (·.1) ∧ es.length = kvs.length ∧ ∀ e ∈ es, ∃ k, keyIs k e.key = true ∧ e.hash = keyH w k
  | _, _, .nil => ⟨[], .nil, .nil, rfl, rfl, by simp⟩
  | _, _, .cons (e := e) (k := k) (v := v) a b c r => by
    obtain ⟨vs, h1, h2, h3, h4, h5⟩ := Ent.pairs (P := P) r
    refine ⟨(k, e.val) :: vs, .cons ⟨rfl, c⟩ h1, .cons a rfl h2, by rw [List.map_cons, List.map_cons, h3], by rw [List.length_cons, List.length_cons, h4], fun x hx => ?_⟩
    rcases List.mem_cons.mp hx with z | z
    · subst z
      exact ⟨k, a, b⟩
    · exact h5 x z
theorem kd_of {P : Program} {w : World} {K : PySem.W.Frag} {d : Addr} {es : Array DictEntry} {ep : Nat} {kvs : List (Key × V)} (l : K.lookup d = some { cls := .type "dict", data := .dict es ep }) (hd : (d == sysModules) = false) (h : Ent w es.toList kvs) (nd : (kvs.map (·.1)).Nodup) : KD P w K d kvs := by
  obtain ⟨vs, h1, h2, h3, h4, h5⟩ := h.pairs (P := P)
  refine ⟨_, es, ep, vs, l, hd, ⟨rfl, rfl, rfl⟩, rfl, by rw [← h4, Array.length_toList], h1, fun e he => h5 e (by simpa using he), h2, by rw [h3]; exact nd⟩
theorem ks_is (x : Str) (t : Tok) : keyIs (Sum.inr x) (.str x t) = true := by simp [keyIs, Value.isStrOf]
theorem ki_is (x : Int) (t : Tok) : keyIs (Sum.inl x) (.int x t) = true := by simp [keyIs, Value.isInt]
theorem tup2 {K : PySem.W.Frag} {H : Hp} {p : Addr} {a b : Int} {t u : Tok} {e : Nat} (l : K.lookup p = some { cls := .type "tuple", data := .seq #[.int a t, .int b u] e }) : SqT K H p [.int a, .int b] :=
  .inr ⟨_, _, _, l, rfl, rfl, by rw [sizeLine_eq]; show 2 ≤ 16777216; decide, .cons ⟨_, rfl⟩ (.cons ⟨_, rfl⟩ .nil)⟩
end L2
namespace Pd
open PySem PySem.Spec PyProof.Rows L2 TL
theorem kinds_nd : ([Sum.inr (Str.ofString "place"), Sum.inr (Str.ofString "order"), Sum.inr (Str.ofString "any"), Sum.inr (Str.ofString "legs")] : List Key).Nodup := by decide +kernel
theorem words_nd : ([Sum.inl 0, Sum.inl 4, Sum.inl 6, Sum.inl 8, Sum.inl 10, Sum.inl 12, Sum.inl 14] : List Key).Nodup := by decide +kernel
theorem marks_nd : ([Sum.inl 32, Sum.inl 10, Sum.inl 44, Sum.inl 47] : List Key).Nodup := by decide +kernel
theorem t_m32 : Str.ofString " " = S [32] := by decide +kernel
theorem t_m10 : Str.ofString "\n" = S [10] := by decide +kernel
theorem t_m44 : Str.ofString "," = S [44] := by decide +kernel
theorem t_m47 : Str.ofString "/" = S [47] := by decide +kernel
theorem t_any : Str.ofString "any" = S wAny := by decide +kernel
theorem t_pool : Str.ofString "pool" = S wPool := by decide +kernel
theorem t_from : Str.ofString "from" = S wFrom := by decide +kernel
theorem t_take : Str.ofString "take" = S wTake := by decide +kernel
theorem t_break : Str.ofString "break" = S wBreak := by decide +kernel
theorem t_least : Str.ofString "least" = S wLeast := by decide +kernel
theorem t_unit : Str.ofString "unit" = S wUnit := by decide +kernel
theorem t_none : Str.ofString "none" = S wNone := by decide +kernel
theorem t_refund : Str.ofString "refund" = S wRefund := by decide +kernel
theorem t_carry : Str.ofString "carry" = S wCarry := by decide +kernel
theorem t_fewer : Str.ofString "fewer" = S wFewer := by decide +kernel
theorem even_of {p : Int} {card money other : List Int} (h : PoolNeutral.asked [[6, p], card, money, other] = true) : money.length % 2 = 0 ∧ other.length % 2 = 0 := by
  unfold PoolNeutral.asked at h
  simp only [Bool.and_eq_true] at h
  have h2 := h.2.2.1
  simp [PoolNeutral.pairRows, PoolNeutral.nats] at h2
  omega
theorem all_mk {P : Program} {w : World} {K : PySem.W.Frag} {h : Heap} {mg : Str → Option Value} {fa : Addr} (X : K.In h) (G : h.Ns mainGlobals mg) (hfa : mg "join" = some (.ref fa))
    {f_is_right : Addr} {od_is_right an_is_right : Option Addr} {sl_is_right : Array (Option Value)} {oc_is_right kV_is_right dc_is_right pm_is_right cd_is_right ct_is_right : Value}
    {f_sum_of_cents : Addr} {od_sum_of_cents an_sum_of_cents : Option Addr} {sl_sum_of_cents : Array (Option Value)} {oc_sum_of_cents kV_sum_of_cents dc_sum_of_cents pm_sum_of_cents cd_sum_of_cents ct_sum_of_cents : Value}
    {f_by_number : Addr} {od_by_number an_by_number : Option Addr} {sl_by_number : Array (Option Value)} {oc_by_number kV_by_number dc_by_number pm_by_number cd_by_number ct_by_number : Value}
    {f_in_pairs : Addr} {od_in_pairs an_in_pairs : Option Addr} {sl_in_pairs : Array (Option Value)} {oc_in_pairs kV_in_pairs dc_in_pairs pm_in_pairs cd_in_pairs ct_in_pairs : Value}
    {f_with_other : Addr} {od_with_other an_with_other : Option Addr} {sl_with_other : Array (Option Value)} {oc_with_other kV_with_other dc_with_other pm_with_other cd_with_other ct_with_other : Value}
    {f_count_combinations : Addr} {od_count_combinations an_count_combinations : Option Addr} {sl_count_combinations : Array (Option Value)} {oc_count_combinations kV_count_combinations dc_count_combinations pm_count_combinations cd_count_combinations ct_count_combinations : Value}
    {f_count_choices : Addr} {od_count_choices an_count_choices : Option Addr} {sl_count_choices : Array (Option Value)} {oc_count_choices kV_count_choices dc_count_choices pm_count_choices cd_count_choices ct_count_choices : Value}
    {f_count_rows : Addr} {od_count_rows an_count_rows : Option Addr} {sl_count_rows : Array (Option Value)} {oc_count_rows kV_count_rows dc_count_rows pm_count_rows cd_count_rows ct_count_rows : Value}
    {f_count_sets : Addr} {od_count_sets an_count_sets : Option Addr} {sl_count_sets : Array (Option Value)} {oc_count_sets kV_count_sets dc_count_sets pm_count_sets cd_count_sets ct_count_sets : Value}
    {f_sign_of : Addr} {od_sign_of an_sign_of : Option Addr} {sl_sign_of : Array (Option Value)} {oc_sign_of kV_sign_of dc_sign_of pm_sign_of cd_sign_of ct_sign_of : Value}
    {f_text_of : Addr} {od_text_of an_text_of : Option Addr} {sl_text_of : Array (Option Value)} {oc_text_of kV_text_of dc_text_of pm_text_of cd_text_of ct_text_of : Value}
    {f_lines_of : Addr} {od_lines_of an_lines_of : Option Addr} {sl_lines_of : Array (Option Value)} {oc_lines_of kV_lines_of dc_lines_of pm_lines_of cd_lines_of ct_lines_of : Value}
    {f_is_name : Addr} {od_is_name an_is_name : Option Addr} {sl_is_name : Array (Option Value)} {oc_is_name kV_is_name dc_is_name pm_is_name cd_is_name ct_is_name : Value}
    {f_number_of : Addr} {od_number_of an_number_of : Option Addr} {sl_number_of : Array (Option Value)} {oc_number_of kV_number_of dc_number_of pm_number_of cd_number_of ct_number_of : Value}
    {f_demand : Addr} {od_demand an_demand : Option Addr} {sl_demand : Array (Option Value)} {oc_demand kV_demand dc_demand pm_demand cd_demand ct_demand : Value}
    {f_number_within : Addr} {od_number_within an_number_within : Option Addr} {sl_number_within : Array (Option Value)} {oc_number_within kV_number_within dc_number_within pm_number_within cd_number_within ct_number_within : Value}
    {f_read_card : Addr} {od_read_card an_read_card : Option Addr} {sl_read_card : Array (Option Value)} {oc_read_card kV_read_card dc_read_card pm_read_card cd_read_card ct_read_card : Value}
    {f_check_day : Addr} {od_check_day an_check_day : Option Addr} {sl_check_day : Array (Option Value)} {oc_check_day kV_check_day dc_check_day pm_check_day cd_check_day ct_check_day : Value}
    {f_count_races : Addr} {od_count_races an_count_races : Option Addr} {sl_count_races : Array (Option Value)} {oc_count_races kV_count_races dc_count_races pm_count_races cd_count_races ct_count_races : Value}
    {f_read_race : Addr} {od_read_race an_read_race : Option Addr} {sl_read_race : Array (Option Value)} {oc_read_race kV_read_race dc_read_race pm_read_race cd_read_race ct_read_race : Value}
    {f_read_pool : Addr} {od_read_pool an_read_pool : Option Addr} {sl_read_pool : Array (Option Value)} {oc_read_pool kV_read_pool dc_read_pool pm_read_pool cd_read_pool ct_read_pool : Value}
    {f_read_pool_races : Addr} {od_read_pool_races an_read_pool_races : Option Addr} {sl_read_pool_races : Array (Option Value)} {oc_read_pool_races kV_read_pool_races dc_read_pool_races pm_read_pool_races cd_read_pool_races ct_read_pool_races : Value}
    {f_check_names_differ : Addr} {od_check_names_differ an_check_names_differ : Option Addr} {sl_check_names_differ : Array (Option Value)} {oc_check_names_differ kV_check_names_differ dc_check_names_differ pm_check_names_differ cd_check_names_differ ct_check_names_differ : Value}
    {f_join : Addr} {od_join an_join : Option Addr} {sl_join : Array (Option Value)} {oc_join kV_join dc_join pm_join cd_join ct_join : Value}
    {f_ask_pool : Addr} {od_ask_pool an_ask_pool : Option Addr} {sl_ask_pool : Array (Option Value)} {oc_ask_pool kV_ask_pool dc_ask_pool pm_ask_pool cd_ask_pool ct_ask_pool : Value}
    {t_MOST_PAIRS : Tok}
    {t_MOST_CENTS : Tok}
    {t_LETTERS : Tok}
    {t_DIGITS : Tok}
    {t_STRANGE : Tok}
    {t_MOST_NAME_BYTES : Tok}
    {t_MOST_DIGITS : Tok}
    {t_MOST_RACES : Tok}
    {t_MOST_POOLS : Tok}
    {t_LEAST_RUNNERS : Tok}
    {t_MOST_RUNNERS : Tok}
    {t_MOST_COUPLES : Tok}
    {t_MOST_TAKE : Tok}
    {t_MOST_BREAK : Tok}
    {t_MOST_UNIT : Tok}
    {t_POOL_LENGTH : Tok}
    {t_MOST_CARD_BYTES : Tok}
    {CNoCard : Addr}
    {CPool : Addr}
    {fIPool : Addr} {odIPool anIPool : Option Addr} {slIPool : Array (Option Value)} {ocIPool kVIPool dcIPool pmIPool cdIPool ctIPool : Value}
    {CAsked : Addr}
    {dTAsked : Addr} {dtAsked : Tok} {dnAsked : Nat}
    {fIAsked : Addr} {odIAsked anIAsked : Option Addr} {slIAsked : Array (Option Value)} {ocIAsked kVIAsked dcIAsked pmIAsked cdIAsked ctIAsked : Value}
    {d_MARKS : Addr}
    {h_MARKS0 h_MARKS1 h_MARKS2 h_MARKS3 : Int} {t_MARKS0 t_MARKS1 t_MARKS2 t_MARKS3 : Tok} {e_MARKS : Nat}
    {u_MARKS0 : Tok}
    {u_MARKS1 : Tok}
    {u_MARKS2 : Tok}
    {u_MARKS3 : Tok}
    {d_KINDS : Addr}
    {h_KINDS0 h_KINDS1 h_KINDS2 h_KINDS3 : Int} {t_KINDS0 t_KINDS1 t_KINDS2 t_KINDS3 : Tok} {e_KINDS : Nat}
    {p_KINDS0 : Addr} {u_KINDS0 v_KINDS0 : Tok} {w_KINDS0 : Nat}
    {p_KINDS1 : Addr} {u_KINDS1 v_KINDS1 : Tok} {w_KINDS1 : Nat}
    {p_KINDS2 : Addr} {u_KINDS2 v_KINDS2 : Tok} {w_KINDS2 : Nat}
    {p_KINDS3 : Addr} {u_KINDS3 v_KINDS3 : Tok} {w_KINDS3 : Nat}
    {d_NONES : Addr}
    {t_NONES0 t_NONES1 t_NONES2 : Tok} {e_NONES : Nat}
    {d_POOL_WORDS : Addr}
    {h_POOL_WORDS0 h_POOL_WORDS1 h_POOL_WORDS2 h_POOL_WORDS3 h_POOL_WORDS4 h_POOL_WORDS5 h_POOL_WORDS6 : Int} {t_POOL_WORDS0 t_POOL_WORDS1 t_POOL_WORDS2 t_POOL_WORDS3 t_POOL_WORDS4 t_POOL_WORDS5 t_POOL_WORDS6 : Tok} {e_POOL_WORDS : Nat}
    {u_POOL_WORDS0 : Tok}
    {u_POOL_WORDS1 : Tok}
    {u_POOL_WORDS2 : Tok}
    {u_POOL_WORDS3 : Tok}
    {u_POOL_WORDS4 : Tok}
    {u_POOL_WORDS5 : Tok}
    {u_POOL_WORDS6 : Tok}
    (a_is_right : PySem.W.nsIn K mainGlobals "is_right" = some (some (.ref f_is_right)))
    (l_is_right : K.lookup f_is_right = some ⟨oc_is_right, od_is_right, .func (PySem.W.fnOf "is_right" "is_right" (defArgs sRight) (defBody sRight) (defScope sRight) .none kV_is_right dc_is_right pm_is_right an_is_right cd_is_right ct_is_right), sl_is_right⟩)
    (c_is_right : PySem.W.codeIn K cd_is_right "is_right" = true)
    (k_is_right : PySem.W.keepIn K (.ref f_is_right) = true)
    (a_sum_of_cents : PySem.W.nsIn K mainGlobals "sum_of_cents" = some (some (.ref f_sum_of_cents)))
    (l_sum_of_cents : K.lookup f_sum_of_cents = some ⟨oc_sum_of_cents, od_sum_of_cents, .func (PySem.W.fnOf "sum_of_cents" "sum_of_cents" (defArgs sCents) (defBody sCents) (defScope sCents) .none kV_sum_of_cents dc_sum_of_cents pm_sum_of_cents an_sum_of_cents cd_sum_of_cents ct_sum_of_cents), sl_sum_of_cents⟩)
    (c_sum_of_cents : PySem.W.codeIn K cd_sum_of_cents "sum_of_cents" = true)
    (k_sum_of_cents : PySem.W.keepIn K (.ref f_sum_of_cents) = true)
    (a_by_number : PySem.W.nsIn K mainGlobals "by_number" = some (some (.ref f_by_number)))
    (l_by_number : K.lookup f_by_number = some ⟨oc_by_number, od_by_number, .func (PySem.W.fnOf "by_number" "by_number" (defArgs sByNum) (defBody sByNum) (defScope sByNum) .none kV_by_number dc_by_number pm_by_number an_by_number cd_by_number ct_by_number), sl_by_number⟩)
    (c_by_number : PySem.W.codeIn K cd_by_number "by_number" = true)
    (k_by_number : PySem.W.keepIn K (.ref f_by_number) = true)
    (a_in_pairs : PySem.W.nsIn K mainGlobals "in_pairs" = some (some (.ref f_in_pairs)))
    (l_in_pairs : K.lookup f_in_pairs = some ⟨oc_in_pairs, od_in_pairs, .func (PySem.W.fnOf "in_pairs" "in_pairs" (defArgs sInPairs) (defBody sInPairs) (defScope sInPairs) .none kV_in_pairs dc_in_pairs pm_in_pairs an_in_pairs cd_in_pairs ct_in_pairs), sl_in_pairs⟩)
    (c_in_pairs : PySem.W.codeIn K cd_in_pairs "in_pairs" = true)
    (k_in_pairs : PySem.W.keepIn K (.ref f_in_pairs) = true)
    (a_with_other : PySem.W.nsIn K mainGlobals "with_other" = some (some (.ref f_with_other)))
    (l_with_other : K.lookup f_with_other = some ⟨oc_with_other, od_with_other, .func (PySem.W.fnOf "with_other" "with_other" (defArgs sWithOther) (defBody sWithOther) (defScope sWithOther) .none kV_with_other dc_with_other pm_with_other an_with_other cd_with_other ct_with_other), sl_with_other⟩)
    (c_with_other : PySem.W.codeIn K cd_with_other "with_other" = true)
    (k_with_other : PySem.W.keepIn K (.ref f_with_other) = true)
    (a_count_combinations : PySem.W.nsIn K mainGlobals "count_combinations" = some (some (.ref f_count_combinations)))
    (l_count_combinations : K.lookup f_count_combinations = some ⟨oc_count_combinations, od_count_combinations, .func (PySem.W.fnOf "count_combinations" "count_combinations" (defArgs sCount) (defBody sCount) (defScope sCount) .none kV_count_combinations dc_count_combinations pm_count_combinations an_count_combinations cd_count_combinations ct_count_combinations), sl_count_combinations⟩)
    (c_count_combinations : PySem.W.codeIn K cd_count_combinations "count_combinations" = true)
    (k_count_combinations : PySem.W.keepIn K (.ref f_count_combinations) = true)
    (a_count_choices : PySem.W.nsIn K mainGlobals "count_choices" = some (some (.ref f_count_choices)))
    (l_count_choices : K.lookup f_count_choices = some ⟨oc_count_choices, od_count_choices, .func (PySem.W.fnOf "count_choices" "count_choices" (defArgs sCLegs) (defBody sCLegs) (defScope sCLegs) .none kV_count_choices dc_count_choices pm_count_choices an_count_choices cd_count_choices ct_count_choices), sl_count_choices⟩)
    (c_count_choices : PySem.W.codeIn K cd_count_choices "count_choices" = true)
    (k_count_choices : PySem.W.keepIn K (.ref f_count_choices) = true)
    (a_count_rows : PySem.W.nsIn K mainGlobals "count_rows" = some (some (.ref f_count_rows)))
    (l_count_rows : K.lookup f_count_rows = some ⟨oc_count_rows, od_count_rows, .func (PySem.W.fnOf "count_rows" "count_rows" (defArgs sCRows) (defBody sCRows) (defScope sCRows) .none kV_count_rows dc_count_rows pm_count_rows an_count_rows cd_count_rows ct_count_rows), sl_count_rows⟩)
    (c_count_rows : PySem.W.codeIn K cd_count_rows "count_rows" = true)
    (k_count_rows : PySem.W.keepIn K (.ref f_count_rows) = true)
    (a_count_sets : PySem.W.nsIn K mainGlobals "count_sets" = some (some (.ref f_count_sets)))
    (l_count_sets : K.lookup f_count_sets = some ⟨oc_count_sets, od_count_sets, .func (PySem.W.fnOf "count_sets" "count_sets" (defArgs sCSets) (defBody sCSets) (defScope sCSets) .none kV_count_sets dc_count_sets pm_count_sets an_count_sets cd_count_sets ct_count_sets), sl_count_sets⟩)
    (c_count_sets : PySem.W.codeIn K cd_count_sets "count_sets" = true)
    (k_count_sets : PySem.W.keepIn K (.ref f_count_sets) = true)
    (a_sign_of : PySem.W.nsIn K mainGlobals "sign_of" = some (some (.ref f_sign_of)))
    (l_sign_of : K.lookup f_sign_of = some ⟨oc_sign_of, od_sign_of, .func (PySem.W.fnOf "sign_of" "sign_of" (defArgs sSign) (defBody sSign) (defScope sSign) .none kV_sign_of dc_sign_of pm_sign_of an_sign_of cd_sign_of ct_sign_of), sl_sign_of⟩)
    (c_sign_of : PySem.W.codeIn K cd_sign_of "sign_of" = true)
    (k_sign_of : PySem.W.keepIn K (.ref f_sign_of) = true)
    (a_text_of : PySem.W.nsIn K mainGlobals "text_of" = some (some (.ref f_text_of)))
    (l_text_of : K.lookup f_text_of = some ⟨oc_text_of, od_text_of, .func (PySem.W.fnOf "text_of" "text_of" (defArgs sText) (defBody sText) (defScope sText) .none kV_text_of dc_text_of pm_text_of an_text_of cd_text_of ct_text_of), sl_text_of⟩)
    (c_text_of : PySem.W.codeIn K cd_text_of "text_of" = true)
    (k_text_of : PySem.W.keepIn K (.ref f_text_of) = true)
    (a_lines_of : PySem.W.nsIn K mainGlobals "lines_of" = some (some (.ref f_lines_of)))
    (l_lines_of : K.lookup f_lines_of = some ⟨oc_lines_of, od_lines_of, .func (PySem.W.fnOf "lines_of" "lines_of" (defArgs sLines) (defBody sLines) (defScope sLines) .none kV_lines_of dc_lines_of pm_lines_of an_lines_of cd_lines_of ct_lines_of), sl_lines_of⟩)
    (c_lines_of : PySem.W.codeIn K cd_lines_of "lines_of" = true)
    (k_lines_of : PySem.W.keepIn K (.ref f_lines_of) = true)
    (a_is_name : PySem.W.nsIn K mainGlobals "is_name" = some (some (.ref f_is_name)))
    (l_is_name : K.lookup f_is_name = some ⟨oc_is_name, od_is_name, .func (PySem.W.fnOf "is_name" "is_name" (defArgs sName) (defBody sName) (defScope sName) .none kV_is_name dc_is_name pm_is_name an_is_name cd_is_name ct_is_name), sl_is_name⟩)
    (c_is_name : PySem.W.codeIn K cd_is_name "is_name" = true)
    (k_is_name : PySem.W.keepIn K (.ref f_is_name) = true)
    (a_number_of : PySem.W.nsIn K mainGlobals "number_of" = some (some (.ref f_number_of)))
    (l_number_of : K.lookup f_number_of = some ⟨oc_number_of, od_number_of, .func (PySem.W.fnOf "number_of" "number_of" (defArgs sNumber) (defBody sNumber) (defScope sNumber) .none kV_number_of dc_number_of pm_number_of an_number_of cd_number_of ct_number_of), sl_number_of⟩)
    (c_number_of : PySem.W.codeIn K cd_number_of "number_of" = true)
    (k_number_of : PySem.W.keepIn K (.ref f_number_of) = true)
    (a_demand : PySem.W.nsIn K mainGlobals "demand" = some (some (.ref f_demand)))
    (l_demand : K.lookup f_demand = some ⟨oc_demand, od_demand, .func (PySem.W.fnOf "demand" "demand" (defArgs sDemand) (defBody sDemand) (defScope sDemand) .none kV_demand dc_demand pm_demand an_demand cd_demand ct_demand), sl_demand⟩)
    (c_demand : PySem.W.codeIn K cd_demand "demand" = true)
    (k_demand : PySem.W.keepIn K (.ref f_demand) = true)
    (a_number_within : PySem.W.nsIn K mainGlobals "number_within" = some (some (.ref f_number_within)))
    (l_number_within : K.lookup f_number_within = some ⟨oc_number_within, od_number_within, .func (PySem.W.fnOf "number_within" "number_within" (defArgs sWithin) (defBody sWithin) (defScope sWithin) .none kV_number_within dc_number_within pm_number_within an_number_within cd_number_within ct_number_within), sl_number_within⟩)
    (c_number_within : PySem.W.codeIn K cd_number_within "number_within" = true)
    (k_number_within : PySem.W.keepIn K (.ref f_number_within) = true)
    (a_read_card : PySem.W.nsIn K mainGlobals "read_card" = some (some (.ref f_read_card)))
    (l_read_card : K.lookup f_read_card = some ⟨oc_read_card, od_read_card, .func (PySem.W.fnOf "read_card" "read_card" (defArgs sCard) (defBody sCard) (defScope sCard) .none kV_read_card dc_read_card pm_read_card an_read_card cd_read_card ct_read_card), sl_read_card⟩)
    (c_read_card : PySem.W.codeIn K cd_read_card "read_card" = true)
    (k_read_card : PySem.W.keepIn K (.ref f_read_card) = true)
    (a_check_day : PySem.W.nsIn K mainGlobals "check_day" = some (some (.ref f_check_day)))
    (l_check_day : K.lookup f_check_day = some ⟨oc_check_day, od_check_day, .func (PySem.W.fnOf "check_day" "check_day" (defArgs sDay) (defBody sDay) (defScope sDay) .none kV_check_day dc_check_day pm_check_day an_check_day cd_check_day ct_check_day), sl_check_day⟩)
    (c_check_day : PySem.W.codeIn K cd_check_day "check_day" = true)
    (k_check_day : PySem.W.keepIn K (.ref f_check_day) = true)
    (a_count_races : PySem.W.nsIn K mainGlobals "count_races" = some (some (.ref f_count_races)))
    (l_count_races : K.lookup f_count_races = some ⟨oc_count_races, od_count_races, .func (PySem.W.fnOf "count_races" "count_races" (defArgs sRaces) (defBody sRaces) (defScope sRaces) .none kV_count_races dc_count_races pm_count_races an_count_races cd_count_races ct_count_races), sl_count_races⟩)
    (c_count_races : PySem.W.codeIn K cd_count_races "count_races" = true)
    (k_count_races : PySem.W.keepIn K (.ref f_count_races) = true)
    (a_read_race : PySem.W.nsIn K mainGlobals "read_race" = some (some (.ref f_read_race)))
    (l_read_race : K.lookup f_read_race = some ⟨oc_read_race, od_read_race, .func (PySem.W.fnOf "read_race" "read_race" (defArgs sRace) (defBody sRace) (defScope sRace) .none kV_read_race dc_read_race pm_read_race an_read_race cd_read_race ct_read_race), sl_read_race⟩)
    (c_read_race : PySem.W.codeIn K cd_read_race "read_race" = true)
    (k_read_race : PySem.W.keepIn K (.ref f_read_race) = true)
    (a_read_pool : PySem.W.nsIn K mainGlobals "read_pool" = some (some (.ref f_read_pool)))
    (l_read_pool : K.lookup f_read_pool = some ⟨oc_read_pool, od_read_pool, .func (PySem.W.fnOf "read_pool" "read_pool" (defArgs sPool) (defBody sPool) (defScope sPool) .none kV_read_pool dc_read_pool pm_read_pool an_read_pool cd_read_pool ct_read_pool), sl_read_pool⟩)
    (c_read_pool : PySem.W.codeIn K cd_read_pool "read_pool" = true)
    (k_read_pool : PySem.W.keepIn K (.ref f_read_pool) = true)
    (a_read_pool_races : PySem.W.nsIn K mainGlobals "read_pool_races" = some (some (.ref f_read_pool_races)))
    (l_read_pool_races : K.lookup f_read_pool_races = some ⟨oc_read_pool_races, od_read_pool_races, .func (PySem.W.fnOf "read_pool_races" "read_pool_races" (defArgs sPoolRace) (defBody sPoolRace) (defScope sPoolRace) .none kV_read_pool_races dc_read_pool_races pm_read_pool_races an_read_pool_races cd_read_pool_races ct_read_pool_races), sl_read_pool_races⟩)
    (c_read_pool_races : PySem.W.codeIn K cd_read_pool_races "read_pool_races" = true)
    (k_read_pool_races : PySem.W.keepIn K (.ref f_read_pool_races) = true)
    (a_check_names_differ : PySem.W.nsIn K mainGlobals "check_names_differ" = some (some (.ref f_check_names_differ)))
    (l_check_names_differ : K.lookup f_check_names_differ = some ⟨oc_check_names_differ, od_check_names_differ, .func (PySem.W.fnOf "check_names_differ" "check_names_differ" (defArgs sDiffer) (defBody sDiffer) (defScope sDiffer) .none kV_check_names_differ dc_check_names_differ pm_check_names_differ an_check_names_differ cd_check_names_differ ct_check_names_differ), sl_check_names_differ⟩)
    (c_check_names_differ : PySem.W.codeIn K cd_check_names_differ "check_names_differ" = true)
    (k_check_names_differ : PySem.W.keepIn K (.ref f_check_names_differ) = true)
    (a_join : PySem.W.nsIn K mainGlobals "join" = some (some (.ref f_join)))
    (l_join : K.lookup f_join = some ⟨oc_join, od_join, .func (PySem.W.fnOf "join" "join" (defArgs sJoin) (defBody sJoin) (defScope sJoin) .none kV_join dc_join pm_join an_join cd_join ct_join), sl_join⟩)
    (c_join : PySem.W.codeIn K cd_join "join" = true)
    (k_join : PySem.W.keepIn K (.ref f_join) = true)
    (a_ask_pool : PySem.W.nsIn K mainGlobals "ask_pool" = some (some (.ref f_ask_pool)))
    (l_ask_pool : K.lookup f_ask_pool = some ⟨oc_ask_pool, od_ask_pool, .func (PySem.W.fnOf "ask_pool" "ask_pool" (defArgs sAsk) (defBody sAsk) (defScope sAsk) .none kV_ask_pool dc_ask_pool pm_ask_pool an_ask_pool cd_ask_pool ct_ask_pool), sl_ask_pool⟩)
    (c_ask_pool : PySem.W.codeIn K cd_ask_pool "ask_pool" = true)
    (k_ask_pool : PySem.W.keepIn K (.ref f_ask_pool) = true)
    (g_MOST_PAIRS : PySem.W.nsIn K mainGlobals "MOST_PAIRS" = some (some (.int 262144 t_MOST_PAIRS)))
    (g_MOST_CENTS : PySem.W.nsIn K mainGlobals "MOST_CENTS" = some (some (.int 281474976710655 t_MOST_CENTS)))
    (g_LETTERS : PySem.W.nsIn K mainGlobals "LETTERS" = some (some (.str "abcdefghijklmnopqrstuvwxyz" t_LETTERS)))
    (g_DIGITS : PySem.W.nsIn K mainGlobals "DIGITS" = some (some (.str "0123456789" t_DIGITS)))
    (g_STRANGE : PySem.W.nsIn K mainGlobals "STRANGE" = some (some (.str "?" t_STRANGE)))
    (g_MOST_NAME_BYTES : PySem.W.nsIn K mainGlobals "MOST_NAME_BYTES" = some (some (.int 12 t_MOST_NAME_BYTES)))
    (g_MOST_DIGITS : PySem.W.nsIn K mainGlobals "MOST_DIGITS" = some (some (.int 7 t_MOST_DIGITS)))
    (g_MOST_RACES : PySem.W.nsIn K mainGlobals "MOST_RACES" = some (some (.int 16 t_MOST_RACES)))
    (g_MOST_POOLS : PySem.W.nsIn K mainGlobals "MOST_POOLS" = some (some (.int 64 t_MOST_POOLS)))
    (g_LEAST_RUNNERS : PySem.W.nsIn K mainGlobals "LEAST_RUNNERS" = some (some (.int 2 t_LEAST_RUNNERS)))
    (g_MOST_RUNNERS : PySem.W.nsIn K mainGlobals "MOST_RUNNERS" = some (some (.int 24 t_MOST_RUNNERS)))
    (g_MOST_COUPLES : PySem.W.nsIn K mainGlobals "MOST_COUPLES" = some (some (.int 8 t_MOST_COUPLES)))
    (g_MOST_TAKE : PySem.W.nsIn K mainGlobals "MOST_TAKE" = some (some (.int 400 t_MOST_TAKE)))
    (g_MOST_BREAK : PySem.W.nsIn K mainGlobals "MOST_BREAK" = some (some (.int 1000 t_MOST_BREAK)))
    (g_MOST_UNIT : PySem.W.nsIn K mainGlobals "MOST_UNIT" = some (some (.int 10000 t_MOST_UNIT)))
    (g_POOL_LENGTH : PySem.W.nsIn K mainGlobals "POOL_LENGTH" = some (some (.int 16 t_POOL_LENGTH)))
    (g_MOST_CARD_BYTES : PySem.W.nsIn K mainGlobals "MOST_CARD_BYTES" = some (some (.int 65536 t_MOST_CARD_BYTES)))
    (b_all : PySem.W.nsIn K mainGlobals "all" = some none)
    (b_dict : PySem.W.nsIn K mainGlobals "dict" = some none)
    (b_int : PySem.W.nsIn K mainGlobals "int" = some none)
    (b_len : PySem.W.nsIn K mainGlobals "len" = some none)
    (b_ord : PySem.W.nsIn K mainGlobals "ord" = some none)
    (b_range : PySem.W.nsIn K mainGlobals "range" = some none)
    (b_sorted : PySem.W.nsIn K mainGlobals "sorted" = some none)
    (b_sum : PySem.W.nsIn K mainGlobals "sum" = some none)
    (b_zip : PySem.W.nsIn K mainGlobals "zip" = some none)
    (aCNoCard : PySem.W.nsIn K mainGlobals "NoCard" = some (some (.ref CNoCard)))
    (eCNoCard : PySem.W.excIn K CNoCard [.type "ValueError", .type "Exception", .type "BaseException", .type "object"] "ValueError.__new__" = true)
    (aCPool : PySem.W.nsIn K mainGlobals "Pool" = some (some (.ref CPool)))
    (aIPool : PySem.W.findIn K (.ref CPool) "__init__" = some (some (.ref fIPool)))
    (lIPool : K.lookup fIPool = some ⟨ocIPool, odIPool, .func (PySem.W.fnOf "__init__" "Pool.__init__" (defArgs sPoolInit) (defBody sPoolInit) (defScope sPoolInit) .none kVIPool dcIPool pmIPool anIPool cdIPool ctIPool), slIPool⟩)
    (cIPool : PySem.W.codeIn K cdIPool "Pool.__init__" = true)
    (kIPool : PySem.W.keepIn K (.ref fIPool) = true)
    (iIPool : PySem.W.isFn K (.ref fIPool) = true)
    (pgPool : PySem.W.plainGet K CPool Str.empty = true)
    (hdPool : PySem.W.hasDictIn K CPool = true)
    (poPool : PySem.W.plainOver K CPool = true)
    (saPool : PySem.W.findIn K (.ref CPool) "__setattr__" = some (some (.builtin "object.__setattr__")))
    (mkPool : PySem.W.makesIn K CPool = true)
    (kcPool : PySem.W.keepIn K (.ref CPool) = true)
    (nPool_name : PySem.W.findIn K (.ref CPool) "name" = some none)
    (nPool_kind : PySem.W.findIn K (.ref CPool) "kind" = some none)
    (nPool_k : PySem.W.findIn K (.ref CPool) "k" = some none)
    (nPool_races : PySem.W.findIn K (.ref CPool) "races" = some none)
    (nPool_unit : PySem.W.findIn K (.ref CPool) "unit" = some none)
    (aCAsked : PySem.W.nsIn K mainGlobals "Asked" = some (some (.ref CAsked)))
    (aIAsked : PySem.W.findIn K (.ref CAsked) "__init__" = some (some (.ref fIAsked)))
    (lIAsked : K.lookup fIAsked = some ⟨ocIAsked, odIAsked, .func (PySem.W.fnOf "__init__" "Asked.__init__" (defArgs sAskedInit) (defBody sAskedInit) (defScope sAskedInit) (.ref dTAsked) kVIAsked dcIAsked pmIAsked anIAsked cdIAsked ctIAsked), slIAsked⟩)
    (cIAsked : PySem.W.codeIn K cdIAsked "Asked.__init__" = true)
    (kIAsked : PySem.W.keepIn K (.ref fIAsked) = true)
    (oIAsked : K.lookup dTAsked = some { cls := .type "tuple", data := .seq #[.int 0 dtAsked, .none] dnAsked })
    (iIAsked : PySem.W.isFn K (.ref fIAsked) = true)
    (pgAsked : PySem.W.plainGet K CAsked Str.empty = true)
    (hdAsked : PySem.W.hasDictIn K CAsked = true)
    (poAsked : PySem.W.plainOver K CAsked = true)
    (saAsked : PySem.W.findIn K (.ref CAsked) "__setattr__" = some (some (.builtin "object.__setattr__")))
    (mkAsked : PySem.W.makesIn K CAsked = true)
    (kcAsked : PySem.W.keepIn K (.ref CAsked) = true)
    (nAsked_refusal : PySem.W.findIn K (.ref CAsked) "refusal" = some none)
    (nAsked_combinations : PySem.W.findIn K (.ref CAsked) "combinations" = some none)
    (nAsked_bet : PySem.W.findIn K (.ref CAsked) "bet" = some none)
    (a_MARKS : PySem.W.nsIn K mainGlobals "MARKS" = some (some (.ref d_MARKS)))
    (o_MARKS : K.lookup d_MARKS = some { cls := .type "dict", data := .dict #[⟨h_MARKS0, .int 32 t_MARKS0, .str " " u_MARKS0⟩, ⟨h_MARKS1, .int 10 t_MARKS1, .str "\n" u_MARKS1⟩, ⟨h_MARKS2, .int 44 t_MARKS2, .str "," u_MARKS2⟩, ⟨h_MARKS3, .int 47 t_MARKS3, .str "/" u_MARKS3⟩] e_MARKS })
    (s_MARKS : (d_MARKS == sysModules) = false)
    (q_MARKS0 : h_MARKS0 = keyH w (Sum.inl 32))
    (q_MARKS1 : h_MARKS1 = keyH w (Sum.inl 10))
    (q_MARKS2 : h_MARKS2 = keyH w (Sum.inl 44))
    (q_MARKS3 : h_MARKS3 = keyH w (Sum.inl 47))
    (a_KINDS : PySem.W.nsIn K mainGlobals "KINDS" = some (some (.ref d_KINDS)))
    (o_KINDS : K.lookup d_KINDS = some { cls := .type "dict", data := .dict #[⟨h_KINDS0, .str "place" t_KINDS0, .ref p_KINDS0⟩, ⟨h_KINDS1, .str "order" t_KINDS1, .ref p_KINDS1⟩, ⟨h_KINDS2, .str "any" t_KINDS2, .ref p_KINDS2⟩, ⟨h_KINDS3, .str "legs" t_KINDS3, .ref p_KINDS3⟩] e_KINDS })
    (s_KINDS : (d_KINDS == sysModules) = false)
    (q_KINDS0 : h_KINDS0 = keyH w (Sum.inr (Str.ofString "place")))
    (o_KINDS0 : K.lookup p_KINDS0 = some { cls := .type "tuple", data := .seq #[.int 1 u_KINDS0, .int 4 v_KINDS0] w_KINDS0 })
    (q_KINDS1 : h_KINDS1 = keyH w (Sum.inr (Str.ofString "order")))
    (o_KINDS1 : K.lookup p_KINDS1 = some { cls := .type "tuple", data := .seq #[.int 2 u_KINDS1, .int 4 v_KINDS1] w_KINDS1 })
    (q_KINDS2 : h_KINDS2 = keyH w (Sum.inr (Str.ofString "any")))
    (o_KINDS2 : K.lookup p_KINDS2 = some { cls := .type "tuple", data := .seq #[.int 2 u_KINDS2, .int 3 v_KINDS2] w_KINDS2 })
    (q_KINDS3 : h_KINDS3 = keyH w (Sum.inr (Str.ofString "legs")))
    (o_KINDS3 : K.lookup p_KINDS3 = some { cls := .type "tuple", data := .seq #[.int 2 u_KINDS3, .int 6 v_KINDS3] w_KINDS3 })
    (a_NONES : PySem.W.nsIn K mainGlobals "NONES" = some (some (.ref d_NONES)))
    (o_NONES : K.lookup d_NONES = some { cls := .type "tuple", data := .seq #[.str "refund" t_NONES0, .str "carry" t_NONES1, .str "fewer" t_NONES2] e_NONES })
    (a_POOL_WORDS : PySem.W.nsIn K mainGlobals "POOL_WORDS" = some (some (.ref d_POOL_WORDS)))
    (o_POOL_WORDS : K.lookup d_POOL_WORDS = some { cls := .type "dict", data := .dict #[⟨h_POOL_WORDS0, .int 0 t_POOL_WORDS0, .str "pool" u_POOL_WORDS0⟩, ⟨h_POOL_WORDS1, .int 4 t_POOL_WORDS1, .str "from" u_POOL_WORDS1⟩, ⟨h_POOL_WORDS2, .int 6 t_POOL_WORDS2, .str "take" u_POOL_WORDS2⟩, ⟨h_POOL_WORDS3, .int 8 t_POOL_WORDS3, .str "break" u_POOL_WORDS3⟩, ⟨h_POOL_WORDS4, .int 10 t_POOL_WORDS4, .str "least" u_POOL_WORDS4⟩, ⟨h_POOL_WORDS5, .int 12 t_POOL_WORDS5, .str "unit" u_POOL_WORDS5⟩, ⟨h_POOL_WORDS6, .int 14 t_POOL_WORDS6, .str "none" u_POOL_WORDS6⟩] e_POOL_WORDS })
    (s_POOL_WORDS : (d_POOL_WORDS == sysModules) = false)
    (q_POOL_WORDS0 : h_POOL_WORDS0 = keyH w (Sum.inl 0))
    (q_POOL_WORDS1 : h_POOL_WORDS1 = keyH w (Sum.inl 4))
    (q_POOL_WORDS2 : h_POOL_WORDS2 = keyH w (Sum.inl 6))
    (q_POOL_WORDS3 : h_POOL_WORDS3 = keyH w (Sum.inl 8))
    (q_POOL_WORDS4 : h_POOL_WORDS4 = keyH w (Sum.inl 10))
    (q_POOL_WORDS5 : h_POOL_WORDS5 = keyH w (Sum.inl 12))
    (q_POOL_WORDS6 : h_POOL_WORDS6 = keyH w (Sum.inl 14)) :
    ∃ fd : FuncData, (∀ (s : Shared) (us : List Value), us.length = (["pool", "card", "money", "other"] : List Str).length → BindsTo s fd ⟨us, []⟩ ((["pool", "card", "money", "other"] : List Str).zip us)) ∧ ∀ base : Heap, K.In base → base.Ns mainGlobals mg → FnOk P w K mg base CX0 7 fa fd ["pool", "card", "money", "other"] (spJoin K) := by
  have e := hfa.symm.trans (PySem.W.mg_of X G a_join)
  cases e
  have F_is_right := fun_mk (st := sRight) l_is_right c_is_right k_is_right
  have b_is_right := F_is_right.binds (ps := ["money", "combinations"]) fun _ _ _ _ _ _ us hl => by obtain ⟨_, _, rfl⟩ := us_2 hl; rfl
  have D_is_right : Def K mg "is_right" sRight ["money", "combinations"] := ⟨_, _, PySem.W.mg_of X G a_is_right, F_is_right, b_is_right⟩
  have F_sum_of_cents := fun_mk (st := sCents) l_sum_of_cents c_sum_of_cents k_sum_of_cents
  have b_sum_of_cents := F_sum_of_cents.binds (ps := ["money"]) fun _ _ _ _ _ _ us hl => by obtain ⟨_, rfl⟩ := us_1 hl; rfl
  have D_sum_of_cents : Def K mg "sum_of_cents" sCents ["money"] := ⟨_, _, PySem.W.mg_of X G a_sum_of_cents, F_sum_of_cents, b_sum_of_cents⟩
  have F_by_number := fun_mk (st := sByNum) l_by_number c_by_number k_by_number
  have b_by_number := F_by_number.binds (ps := ["money"]) fun _ _ _ _ _ _ us hl => by obtain ⟨_, rfl⟩ := us_1 hl; rfl
  have D_by_number : Def K mg "by_number" sByNum ["money"] := ⟨_, _, PySem.W.mg_of X G a_by_number, F_by_number, b_by_number⟩
  have F_in_pairs := fun_mk (st := sInPairs) l_in_pairs c_in_pairs k_in_pairs
  have b_in_pairs := F_in_pairs.binds (ps := ["cents"]) fun _ _ _ _ _ _ us hl => by obtain ⟨_, rfl⟩ := us_1 hl; rfl
  have D_in_pairs : Def K mg "in_pairs" sInPairs ["cents"] := ⟨_, _, PySem.W.mg_of X G a_in_pairs, F_in_pairs, b_in_pairs⟩
  have F_with_other := fun_mk (st := sWithOther) l_with_other c_with_other k_with_other
  have b_with_other := F_with_other.binds (ps := ["money", "other"]) fun _ _ _ _ _ _ us hl => by obtain ⟨_, _, rfl⟩ := us_2 hl; rfl
  have D_with_other : Def K mg "with_other" sWithOther ["money", "other"] := ⟨_, _, PySem.W.mg_of X G a_with_other, F_with_other, b_with_other⟩
  have F_count_combinations := fun_mk (st := sCount) l_count_combinations c_count_combinations k_count_combinations
  have b_count_combinations := F_count_combinations.binds (ps := ["pool"]) fun _ _ _ _ _ _ us hl => by obtain ⟨_, rfl⟩ := us_1 hl; rfl
  have D_count_combinations : Def K mg "count_combinations" sCount ["pool"] := ⟨_, _, PySem.W.mg_of X G a_count_combinations, F_count_combinations, b_count_combinations⟩
  have F_count_choices := fun_mk (st := sCLegs) l_count_choices c_count_choices k_count_choices
  have b_count_choices := F_count_choices.binds (ps := ["lists"]) fun _ _ _ _ _ _ us hl => by obtain ⟨_, rfl⟩ := us_1 hl; rfl
  have D_count_choices : Def K mg "count_choices" sCLegs ["lists"] := ⟨_, _, PySem.W.mg_of X G a_count_choices, F_count_choices, b_count_choices⟩
  have F_count_rows := fun_mk (st := sCRows) l_count_rows c_count_rows k_count_rows
  have b_count_rows := F_count_rows.binds (ps := ["interests", "k"]) fun _ _ _ _ _ _ us hl => by obtain ⟨_, _, rfl⟩ := us_2 hl; rfl
  have D_count_rows : Def K mg "count_rows" sCRows ["interests", "k"] := ⟨_, _, PySem.W.mg_of X G a_count_rows, F_count_rows, b_count_rows⟩
  have F_count_sets := fun_mk (st := sCSets) l_count_sets c_count_sets k_count_sets
  have b_count_sets := F_count_sets.binds (ps := ["interests", "k"]) fun _ _ _ _ _ _ us hl => by obtain ⟨_, _, rfl⟩ := us_2 hl; rfl
  have D_count_sets : Def K mg "count_sets" sCSets ["interests", "k"] := ⟨_, _, PySem.W.mg_of X G a_count_sets, F_count_sets, b_count_sets⟩
  have F_sign_of := fun_mk (st := sSign) l_sign_of c_sign_of k_sign_of
  have b_sign_of := F_sign_of.binds (ps := ["byte"]) fun _ _ _ _ _ _ us hl => by obtain ⟨_, rfl⟩ := us_1 hl; rfl
  have D_sign_of : Def K mg "sign_of" sSign ["byte"] := ⟨_, _, PySem.W.mg_of X G a_sign_of, F_sign_of, b_sign_of⟩
  have F_text_of := fun_mk (st := sText) l_text_of c_text_of k_text_of
  have b_text_of := F_text_of.binds (ps := ["codes"]) fun _ _ _ _ _ _ us hl => by obtain ⟨_, rfl⟩ := us_1 hl; rfl
  have D_text_of : Def K mg "text_of" sText ["codes"] := ⟨_, _, PySem.W.mg_of X G a_text_of, F_text_of, b_text_of⟩
  have F_lines_of := fun_mk (st := sLines) l_lines_of c_lines_of k_lines_of
  have b_lines_of := F_lines_of.binds (ps := ["text"]) fun _ _ _ _ _ _ us hl => by obtain ⟨_, rfl⟩ := us_1 hl; rfl
  have D_lines_of : Def K mg "lines_of" sLines ["text"] := ⟨_, _, PySem.W.mg_of X G a_lines_of, F_lines_of, b_lines_of⟩
  have F_is_name := fun_mk (st := sName) l_is_name c_is_name k_is_name
  have b_is_name := F_is_name.binds (ps := ["word"]) fun _ _ _ _ _ _ us hl => by obtain ⟨_, rfl⟩ := us_1 hl; rfl
  have D_is_name : Def K mg "is_name" sName ["word"] := ⟨_, _, PySem.W.mg_of X G a_is_name, F_is_name, b_is_name⟩
  have F_number_of := fun_mk (st := sNumber) l_number_of c_number_of k_number_of
  have b_number_of := F_number_of.binds (ps := ["word"]) fun _ _ _ _ _ _ us hl => by obtain ⟨_, rfl⟩ := us_1 hl; rfl
  have D_number_of : Def K mg "number_of" sNumber ["word"] := ⟨_, _, PySem.W.mg_of X G a_number_of, F_number_of, b_number_of⟩
  have F_demand := fun_mk (st := sDemand) l_demand c_demand k_demand
  have b_demand := F_demand.binds (ps := ["holds"]) fun _ _ _ _ _ _ us hl => by obtain ⟨_, rfl⟩ := us_1 hl; rfl
  have D_demand : Def K mg "demand" sDemand ["holds"] := ⟨_, _, PySem.W.mg_of X G a_demand, F_demand, b_demand⟩
  have F_number_within := fun_mk (st := sWithin) l_number_within c_number_within k_number_within
  have b_number_within := F_number_within.binds (ps := ["word", "lowest", "highest"]) fun _ _ _ _ _ _ us hl => by obtain ⟨_, _, _, rfl⟩ := us_3 hl; rfl
  have D_number_within : Def K mg "number_within" sWithin ["word", "lowest", "highest"] := ⟨_, _, PySem.W.mg_of X G a_number_within, F_number_within, b_number_within⟩
  have F_read_card := fun_mk (st := sCard) l_read_card c_read_card k_read_card
  have b_read_card := F_read_card.binds (ps := ["codes"]) fun _ _ _ _ _ _ us hl => by obtain ⟨_, rfl⟩ := us_1 hl; rfl
  have D_read_card : Def K mg "read_card" sCard ["codes"] := ⟨_, _, PySem.W.mg_of X G a_read_card, F_read_card, b_read_card⟩
  have F_check_day := fun_mk (st := sDay) l_check_day c_check_day k_check_day
  have b_check_day := F_check_day.binds (ps := ["words"]) fun _ _ _ _ _ _ us hl => by obtain ⟨_, rfl⟩ := us_1 hl; rfl
  have D_check_day : Def K mg "check_day" sDay ["words"] := ⟨_, _, PySem.W.mg_of X G a_check_day, F_check_day, b_check_day⟩
  have F_count_races := fun_mk (st := sRaces) l_count_races c_count_races k_count_races
  have b_count_races := F_count_races.binds (ps := ["lines"]) fun _ _ _ _ _ _ us hl => by obtain ⟨_, rfl⟩ := us_1 hl; rfl
  have D_count_races : Def K mg "count_races" sRaces ["lines"] := ⟨_, _, PySem.W.mg_of X G a_count_races, F_count_races, b_count_races⟩
  have F_read_race := fun_mk (st := sRace) l_read_race c_read_race k_read_race
  have b_read_race := F_read_race.binds (ps := ["words"]) fun _ _ _ _ _ _ us hl => by obtain ⟨_, rfl⟩ := us_1 hl; rfl
  have D_read_race : Def K mg "read_race" sRace ["words"] := ⟨_, _, PySem.W.mg_of X G a_read_race, F_read_race, b_read_race⟩
  have F_read_pool := fun_mk (st := sPool) l_read_pool c_read_pool k_read_pool
  have b_read_pool := F_read_pool.binds (ps := ["words", "races"]) fun _ _ _ _ _ _ us hl => by obtain ⟨_, _, rfl⟩ := us_2 hl; rfl
  have D_read_pool : Def K mg "read_pool" sPool ["words", "races"] := ⟨_, _, PySem.W.mg_of X G a_read_pool, F_read_pool, b_read_pool⟩
  have F_read_pool_races := fun_mk (st := sPoolRace) l_read_pool_races c_read_pool_races k_read_pool_races
  have b_read_pool_races := F_read_pool_races.binds (ps := ["word", "kind", "k", "races"]) fun _ _ _ _ _ _ us hl => by obtain ⟨_, _, _, _, rfl⟩ := us_4 hl; rfl
  have D_read_pool_races : Def K mg "read_pool_races" sPoolRace ["word", "kind", "k", "races"] := ⟨_, _, PySem.W.mg_of X G a_read_pool_races, F_read_pool_races, b_read_pool_races⟩
  have F_check_names_differ := fun_mk (st := sDiffer) l_check_names_differ c_check_names_differ k_check_names_differ
  have b_check_names_differ := F_check_names_differ.binds (ps := ["pools"]) fun _ _ _ _ _ _ us hl => by obtain ⟨_, rfl⟩ := us_1 hl; rfl
  have D_check_names_differ : Def K mg "check_names_differ" sDiffer ["pools"] := ⟨_, _, PySem.W.mg_of X G a_check_names_differ, F_check_names_differ, b_check_names_differ⟩
  have F_join := fun_mk (st := sJoin) l_join c_join k_join
  have b_join := F_join.binds (ps := ["pool", "card", "money", "other"]) fun _ _ _ _ _ _ us hl => by obtain ⟨_, _, _, _, rfl⟩ := us_4 hl; rfl
  have D_join : Def K mg "join" sJoin ["pool", "card", "money", "other"] := ⟨_, _, PySem.W.mg_of X G a_join, F_join, b_join⟩
  have F_ask_pool := fun_mk (st := sAsk) l_ask_pool c_ask_pool k_ask_pool
  have b_ask_pool := F_ask_pool.binds (ps := ["pool", "card", "moneys"]) fun _ _ _ _ _ _ us hl => by obtain ⟨_, _, _, rfl⟩ := us_3 hl; rfl
  have D_ask_pool : Def K mg "ask_pool" sAsk ["pool", "card", "moneys"] := ⟨_, _, PySem.W.mg_of X G a_ask_pool, F_ask_pool, b_ask_pool⟩
  have T : Tx mg := ⟨⟨_, PySem.W.mg_of X G g_MOST_PAIRS⟩, ⟨_, PySem.W.mg_of X G g_MOST_CENTS⟩, ⟨_, PySem.W.mg_of X G g_LETTERS⟩, ⟨_, PySem.W.mg_of X G g_DIGITS⟩, ⟨_, PySem.W.mg_of X G g_STRANGE⟩, ⟨_, PySem.W.mg_of X G g_MOST_NAME_BYTES⟩, ⟨_, PySem.W.mg_of X G g_MOST_DIGITS⟩, ⟨_, PySem.W.mg_of X G g_MOST_RACES⟩, ⟨_, PySem.W.mg_of X G g_MOST_POOLS⟩, ⟨_, PySem.W.mg_of X G g_LEAST_RUNNERS⟩, ⟨_, PySem.W.mg_of X G g_MOST_RUNNERS⟩, ⟨_, PySem.W.mg_of X G g_MOST_COUPLES⟩, ⟨_, PySem.W.mg_of X G g_MOST_TAKE⟩, ⟨_, PySem.W.mg_of X G g_MOST_BREAK⟩, ⟨_, PySem.W.mg_of X G g_MOST_UNIT⟩, ⟨_, PySem.W.mg_of X G g_POOL_LENGTH⟩, ⟨_, PySem.W.mg_of X G g_MOST_CARD_BYTES⟩, PySem.W.mg_none_of X G b_all, PySem.W.mg_none_of X G b_dict, PySem.W.mg_none_of X G b_int, PySem.W.mg_none_of X G b_len, PySem.W.mg_none_of X G b_ord, PySem.W.mg_none_of X G b_range, PySem.W.mg_none_of X G b_sorted, PySem.W.mg_none_of X G b_sum, PySem.W.mg_none_of X G b_zip⟩
  have NCF : Nc K mg CNoCard := ⟨PySem.W.mg_of X G aCNoCard, eCNoCard⟩
  have FIPool := fun_mk (st := sPoolInit) lIPool cIPool kIPool
  have bIPool := FIPool.binds (ps := ["self", "name", "kind", "k", "races", "unit"]) fun _ _ _ _ _ _ us hl => by obtain ⟨_, _, _, _, _, _, rfl⟩ := us_6 hl; rfl
  have ClPool : Cls K CPool := ⟨pgPool, hdPool, poPool, saPool⟩
  have FIAsked : FunD K "__init__" "Asked.__init__" sAskedInit (.ref dTAsked) fIAsked _ := ⟨⟨_, _, _, _, _, _, _, _, _, rfl, lIAsked, cIAsked⟩, kIAsked⟩
  have ClAsked : Cls K CAsked := ⟨pgAsked, hdAsked, poAsked, saAsked⟩
  have TG : Tg P w K mg := by
    refine ⟨⟨d_KINDS, p_KINDS0, p_KINDS1, p_KINDS2, p_KINDS3, PySem.W.mg_of X G a_KINDS, ?_, fun H => tup2 o_KINDS0, fun H => tup2 o_KINDS1, fun H => tup2 o_KINDS2, fun H => tup2 o_KINDS3⟩, ⟨d_POOL_WORDS, PySem.W.mg_of X G a_POOL_WORDS, ?_⟩, ⟨d_NONES, PySem.W.mg_of X G a_NONES, fun H => ?_⟩⟩
    · rw [← t_place, ← t_order, ← t_any, ← t_legs]
      exact kd_of o_KINDS s_KINDS (.cons (ks_is _ _) q_KINDS0 rfl (.cons (ks_is _ _) q_KINDS1 rfl (.cons (ks_is _ _) q_KINDS2 rfl (.cons (ks_is _ _) q_KINDS3 rfl .nil)))) kinds_nd
    · rw [← t_pool, ← t_from, ← t_take, ← t_break, ← t_least, ← t_unit, ← t_none]
      exact kd_of o_POOL_WORDS s_POOL_WORDS (.cons (ki_is _ _) q_POOL_WORDS0 ⟨_, rfl⟩ (.cons (ki_is _ _) q_POOL_WORDS1 ⟨_, rfl⟩ (.cons (ki_is _ _) q_POOL_WORDS2 ⟨_, rfl⟩ (.cons (ki_is _ _) q_POOL_WORDS3 ⟨_, rfl⟩ (.cons (ki_is _ _) q_POOL_WORDS4 ⟨_, rfl⟩ (.cons (ki_is _ _) q_POOL_WORDS5 ⟨_, rfl⟩ (.cons (ki_is _ _) q_POOL_WORDS6 ⟨_, rfl⟩ .nil))))))) words_nd
    · rw [← t_refund, ← t_carry, ← t_fewer]
      exact .inr ⟨_, _, _, o_NONES, rfl, rfl, by have := sizeLine_is; show 3 ≤ _; omega, .cons ⟨_, rfl⟩ (.cons ⟨_, rfl⟩ (.cons ⟨_, rfl⟩ .nil))⟩
  have TM : ∃ dm, mg "MARKS" = some (.ref dm) ∧ KD P w K dm (MK.map fun p => ((Sum.inl p.1 : Key), V.str (S p.2))) := by
    refine ⟨d_MARKS, PySem.W.mg_of X G a_MARKS, ?_⟩
    show KD P w K d_MARKS [(Sum.inl 32, V.str (S [32])), (Sum.inl 10, V.str (S [10])), (Sum.inl 44, V.str (S [44])), (Sum.inl 47, V.str (S [47]))]
    rw [← t_m32, ← t_m10, ← t_m44, ← t_m47]
    exact kd_of o_MARKS s_MARKS (.cons (ki_is _ _) q_MARKS0 ⟨_, rfl⟩ (.cons (ki_is _ _) q_MARKS1 ⟨_, rfl⟩ (.cons (ki_is _ _) q_MARKS2 ⟨_, rfl⟩ (.cons (ki_is _ _) q_MARKS3 ⟨_, rfl⟩ .nil)))) marks_nd
  refine ⟨PySem.W.fnOf "join" "join" (defArgs sJoin) (defBody sJoin) (defScope sJoin) .none kV_join dc_join pm_join an_join cd_join ct_join, fun s us hu => by obtain ⟨_, _, _, _, rfl⟩ := us_4 hu; exact .of_eq rfl, fun base _ _ => ?_⟩
  have G_sign_of := ok_sign (P := P) (w := w) (base := base) D_sign_of T TM
  have G_text_of := ok_text D_text_of G_sign_of
  have G_lines_of := ok_lines (P := P) (w := w) (base := base) D_lines_of
  have G_is_name := ok_name (P := P) (w := w) (base := base) D_is_name T
  have G_number_of := ok_number (P := P) (w := w) (base := base) D_number_of T
  have G_demand := ok_demand (P := P) (w := w) (base := base) D_demand NCF
  have G_number_within := ok_within D_number_within G_number_of G_demand
  have G_check_day := ok_day D_check_day T G_is_name G_demand
  have G_count_races := ok_races (P := P) (w := w) (base := base) D_count_races
  have G_read_race := ok_race D_read_race T G_number_within G_demand
  have G_read_pool_races := ok_poolrace D_read_pool_races T G_number_within G_demand
  have G_Pool : CL P w K mg base "Pool" CPool ["self", "name", "kind", "k", "races", "unit"] (spPoolInit CPool) ["name", "kind", "k", "races", "unit"] := ⟨⟨_, _, ⟨mkPool, aIPool, iIPool, kcPool⟩, ok_poolinit FIPool ClPool nPool_name nPool_kind nPool_k nPool_races nPool_unit, bIPool⟩, PySem.W.mg_of X G aCPool, ClPool, by
    intro f hf
    simp only [List.mem_cons, List.not_mem_nil, or_false] at hf
    rcases hf with rfl | rfl | rfl | rfl | rfl
    · exact nPool_name
    · exact nPool_kind
    · exact nPool_k
    · exact nPool_races
    · exact nPool_unit⟩
  have G_Asked : CLA P w K mg base CAsked := ⟨⟨_, _, ⟨mkAsked, aIAsked, iIAsked, kcAsked⟩, ok_askedinit FIAsked ClAsked nAsked_refusal nAsked_combinations nAsked_bet, asked_binds oIAsked⟩, PySem.W.mg_of X G aCAsked, ClAsked, by
    intro f hf
    simp only [List.mem_cons, List.not_mem_nil, or_false] at hf
    rcases hf with rfl | rfl | rfl
    · exact nAsked_refusal
    · exact nAsked_combinations
    · exact nAsked_bet⟩
  have G_read_pool := ok_pool D_read_pool T TG G_is_name G_number_within G_demand G_read_pool_races G_Pool
  have G_check_names_differ := ok_differ D_check_names_differ ClPool nPool_name G_demand
  have G_read_card := ok_card D_read_card T G_text_of G_lines_of G_demand G_check_day G_count_races G_read_race G_read_pool G_check_names_differ
  have G_count_rows := ok_crows (P := P) (w := w) (base := base) D_count_rows T
  have G_count_choices := ok_clegs (P := P) (w := w) (base := base) D_count_choices T
  have G_count_sets := ok_csets D_count_sets G_count_rows
  have G_sum_of_cents := ok_cents (P := P) (w := w) (base := base) D_sum_of_cents T
  have G_is_right := ok_right D_is_right T G_sum_of_cents
  have G_count_combinations := ok_count D_count_combinations ClPool nPool_kind nPool_k nPool_races T G_count_rows G_count_sets G_count_choices
  have G_ask_pool := ok_ask D_ask_pool T NCF G_Asked G_read_card G_is_right G_count_combinations
  have G_by_number := ok_bynum (P := P) (w := w) (base := base) D_by_number T
  have G_in_pairs := ok_inpairs (P := P) (w := w) (base := base) D_in_pairs T
  have G_with_other := ok_withother D_with_other T G_by_number G_in_pairs
  exact ok_join F_join T G_Asked G_ask_pool G_with_other G_is_right
end Pd
end
open PySem PySem.W PyProof.Rows
set_option maxRecDepth 100000 in
set_option maxHeartbeats 0 in
theorem PySem.Challenge.cw_poolday_s06_join_holds : PySem.Challenge.rw_poolday_s06_join.Holds := by
  w_on; k_headS; (case hw => exact ⟨[.int 0, .list [], .list [], .list []], by decide +kernel, by decide +kernel⟩)
  k_fillS
  refine L2.walk_specK (r := PySem.Challenge.rw_poolday_s06_join) (k := 7) (CX := L2.CX0) (ps := ["pool", "card", "money", "other"]) (sp := Pd.spJoin) (by decide +kernel) rfl rfl ⟨rfl, by decide, by decide⟩ (fun w h Y => PySem.W.kIn_of Y) ?F ?S (fun _ _ _ _ z => z)
  case F =>
    intro w mg fa h Y KX G hmg
    refine' Pd.all_mk KX G hmg ?a_is_right ?l_is_right ?c_is_right ?k_is_right ?a_sum_of_cents ?l_sum_of_cents ?c_sum_of_cents ?k_sum_of_cents ?a_by_number ?l_by_number ?c_by_number ?k_by_number ?a_in_pairs ?l_in_pairs ?c_in_pairs ?k_in_pairs ?a_with_other ?l_with_other ?c_with_other ?k_with_other ?a_count_combinations ?l_count_combinations ?c_count_combinations ?k_count_combinations ?a_count_choices ?l_count_choices ?c_count_choices ?k_count_choices ?a_count_rows ?l_count_rows ?c_count_rows ?k_count_rows ?a_count_sets ?l_count_sets ?c_count_sets ?k_count_sets ?a_sign_of ?l_sign_of ?c_sign_of ?k_sign_of ?a_text_of ?l_text_of ?c_text_of ?k_text_of ?a_lines_of ?l_lines_of ?c_lines_of ?k_lines_of ?a_is_name ?l_is_name ?c_is_name ?k_is_name ?a_number_of ?l_number_of ?c_number_of ?k_number_of ?a_demand ?l_demand ?c_demand ?k_demand ?a_number_within ?l_number_within ?c_number_within ?k_number_within ?a_read_card ?l_read_card ?c_read_card ?k_read_card ?a_check_day ?l_check_day ?c_check_day ?k_check_day ?a_count_races ?l_count_races ?c_count_races ?k_count_races ?a_read_race ?l_read_race ?c_read_race ?k_read_race ?a_read_pool ?l_read_pool ?c_read_pool ?k_read_pool ?a_read_pool_races ?l_read_pool_races ?c_read_pool_races ?k_read_pool_races ?a_check_names_differ ?l_check_names_differ ?c_check_names_differ ?k_check_names_differ ?a_join ?l_join ?c_join ?k_join ?a_ask_pool ?l_ask_pool ?c_ask_pool ?k_ask_pool ?g_MOST_PAIRS ?g_MOST_CENTS ?g_LETTERS ?g_DIGITS ?g_STRANGE ?g_MOST_NAME_BYTES ?g_MOST_DIGITS ?g_MOST_RACES ?g_MOST_POOLS ?g_LEAST_RUNNERS ?g_MOST_RUNNERS ?g_MOST_COUPLES ?g_MOST_TAKE ?g_MOST_BREAK ?g_MOST_UNIT ?g_POOL_LENGTH ?g_MOST_CARD_BYTES ?b_all ?b_dict ?b_int ?b_len ?b_ord ?b_range ?b_sorted ?b_sum ?b_zip ?aCNoCard ?eCNoCard ?aCPool ?aIPool ?lIPool ?cIPool ?kIPool ?iIPool ?pgPool ?hdPool ?poPool ?saPool ?mkPool ?kcPool ?nPool_name ?nPool_kind ?nPool_k ?nPool_races ?nPool_unit ?aCAsked ?aIAsked ?lIAsked ?cIAsked ?kIAsked ?oIAsked ?iIAsked ?pgAsked ?hdAsked ?poAsked ?saAsked ?mkAsked ?kcAsked ?nAsked_refusal ?nAsked_combinations ?nAsked_bet ?a_MARKS ?o_MARKS ?s_MARKS ?q_MARKS0 ?q_MARKS1 ?q_MARKS2 ?q_MARKS3 ?a_KINDS ?o_KINDS ?s_KINDS ?q_KINDS0 ?o_KINDS0 ?q_KINDS1 ?o_KINDS1 ?q_KINDS2 ?o_KINDS2 ?q_KINDS3 ?o_KINDS3 ?a_NONES ?o_NONES ?a_POOL_WORDS ?o_POOL_WORDS ?s_POOL_WORDS ?q_POOL_WORDS0 ?q_POOL_WORDS1 ?q_POOL_WORDS2 ?q_POOL_WORDS3 ?q_POOL_WORDS4 ?q_POOL_WORDS5 ?q_POOL_WORDS6
    (case a_is_right => k_is)
    (case l_is_right => k_is)
    (case c_is_right => k_is)
    (case k_is_right => k_is)
    (case a_sum_of_cents => k_is)
    (case l_sum_of_cents => k_is)
    (case c_sum_of_cents => k_is)
    (case k_sum_of_cents => k_is)
    (case a_by_number => k_is)
    (case l_by_number => k_is)
    (case c_by_number => k_is)
    (case k_by_number => k_is)
    (case a_in_pairs => k_is)
    (case l_in_pairs => k_is)
    (case c_in_pairs => k_is)
    (case k_in_pairs => k_is)
    (case a_with_other => k_is)
    (case l_with_other => k_is)
    (case c_with_other => k_is)
    (case k_with_other => k_is)
    (case a_count_combinations => k_is)
    (case l_count_combinations => k_is)
    (case c_count_combinations => k_is)
    (case k_count_combinations => k_is)
    (case a_count_choices => k_is)
    (case l_count_choices => k_is)
    (case c_count_choices => k_is)
    (case k_count_choices => k_is)
    (case a_count_rows => k_is)
    (case l_count_rows => k_is)
    (case c_count_rows => k_is)
    (case k_count_rows => k_is)
    (case a_count_sets => k_is)
    (case l_count_sets => k_is)
    (case c_count_sets => k_is)
    (case k_count_sets => k_is)
    (case a_sign_of => k_is)
    (case l_sign_of => k_is)
    (case c_sign_of => k_is)
    (case k_sign_of => k_is)
    (case a_text_of => k_is)
    (case l_text_of => k_is)
    (case c_text_of => k_is)
    (case k_text_of => k_is)
    (case a_lines_of => k_is)
    (case l_lines_of => k_is)
    (case c_lines_of => k_is)
    (case k_lines_of => k_is)
    (case a_is_name => k_is)
    (case l_is_name => k_is)
    (case c_is_name => k_is)
    (case k_is_name => k_is)
    (case a_number_of => k_is)
    (case l_number_of => k_is)
    (case c_number_of => k_is)
    (case k_number_of => k_is)
    (case a_demand => k_is)
    (case l_demand => k_is)
    (case c_demand => k_is)
    (case k_demand => k_is)
    (case a_number_within => k_is)
    (case l_number_within => k_is)
    (case c_number_within => k_is)
    (case k_number_within => k_is)
    (case a_read_card => k_is)
    (case l_read_card => k_is)
    (case c_read_card => k_is)
    (case k_read_card => k_is)
    (case a_check_day => k_is)
    (case l_check_day => k_is)
    (case c_check_day => k_is)
    (case k_check_day => k_is)
    (case a_count_races => k_is)
    (case l_count_races => k_is)
    (case c_count_races => k_is)
    (case k_count_races => k_is)
    (case a_read_race => k_is)
    (case l_read_race => k_is)
    (case c_read_race => k_is)
    (case k_read_race => k_is)
    (case a_read_pool => k_is)
    (case l_read_pool => k_is)
    (case c_read_pool => k_is)
    (case k_read_pool => k_is)
    (case a_read_pool_races => k_is)
    (case l_read_pool_races => k_is)
    (case c_read_pool_races => k_is)
    (case k_read_pool_races => k_is)
    (case a_check_names_differ => k_is)
    (case l_check_names_differ => k_is)
    (case c_check_names_differ => k_is)
    (case k_check_names_differ => k_is)
    (case a_join => k_is)
    (case l_join => k_is)
    (case c_join => k_is)
    (case k_join => k_is)
    (case a_ask_pool => k_is)
    (case l_ask_pool => k_is)
    (case c_ask_pool => k_is)
    (case k_ask_pool => k_is)
    (case g_MOST_PAIRS => k_is)
    (case g_MOST_CENTS => k_is)
    (case g_LETTERS => k_is)
    (case g_DIGITS => k_is)
    (case g_STRANGE => k_is)
    (case g_MOST_NAME_BYTES => k_is)
    (case g_MOST_DIGITS => k_is)
    (case g_MOST_RACES => k_is)
    (case g_MOST_POOLS => k_is)
    (case g_LEAST_RUNNERS => k_is)
    (case g_MOST_RUNNERS => k_is)
    (case g_MOST_COUPLES => k_is)
    (case g_MOST_TAKE => k_is)
    (case g_MOST_BREAK => k_is)
    (case g_MOST_UNIT => k_is)
    (case g_POOL_LENGTH => k_is)
    (case g_MOST_CARD_BYTES => k_is)
    (case b_all => k_is)
    (case b_dict => k_is)
    (case b_int => k_is)
    (case b_len => k_is)
    (case b_ord => k_is)
    (case b_range => k_is)
    (case b_sorted => k_is)
    (case b_sum => k_is)
    (case b_zip => k_is)
    (case aCNoCard => k_is)
    (case eCNoCard => k_exc)
    (case aCPool => k_is)
    (case aIPool => k_is)
    (case lIPool => k_is)
    (case cIPool => k_is)
    (case kIPool => k_is)
    (case iIPool => k_is)
    (case pgPool => k_is)
    (case hdPool => k_is)
    (case poPool => k_is)
    (case saPool => k_is)
    (case mkPool => k_is)
    (case kcPool => k_is)
    (case nPool_name => k_is)
    (case nPool_kind => k_is)
    (case nPool_k => k_is)
    (case nPool_races => k_is)
    (case nPool_unit => k_is)
    (case aCAsked => k_is)
    (case aIAsked => k_is)
    (case lIAsked => k_is)
    (case cIAsked => k_is)
    (case kIAsked => k_is)
    (case oIAsked => k_is)
    (case iIAsked => k_is)
    (case pgAsked => k_is)
    (case hdAsked => k_is)
    (case poAsked => k_is)
    (case saAsked => k_is)
    (case mkAsked => k_is)
    (case kcAsked => k_is)
    (case nAsked_refusal => k_is)
    (case nAsked_combinations => k_is)
    (case nAsked_bet => k_is)
    (case a_MARKS => k_is)
    (case o_MARKS => k_is)
    (case s_MARKS => rfl)
    (case q_MARKS0 => rfl)
    (case q_MARKS1 => rfl)
    (case q_MARKS2 => rfl)
    (case q_MARKS3 => rfl)
    (case a_KINDS => k_is)
    (case o_KINDS => k_is)
    (case s_KINDS => rfl)
    (case q_KINDS0 => rfl)
    (case o_KINDS0 => k_is)
    (case q_KINDS1 => rfl)
    (case o_KINDS1 => k_is)
    (case q_KINDS2 => rfl)
    (case o_KINDS2 => k_is)
    (case q_KINDS3 => rfl)
    (case o_KINDS3 => k_is)
    (case a_NONES => k_is)
    (case o_NONES => k_is)
    (case a_POOL_WORDS => k_is)
    (case o_POOL_WORDS => k_is)
    (case s_POOL_WORDS => rfl)
    (case q_POOL_WORDS0 => rfl)
    (case q_POOL_WORDS1 => rfl)
    (case q_POOL_WORDS2 => rfl)
    (case q_POOL_WORDS3 => rfl)
    (case q_POOL_WORDS4 => rfl)
    (case q_POOL_WORDS5 => rfl)
    (case q_POOL_WORDS6 => rfl)
  case S =>
    intro K H xs a hO hwi hask hx
    obtain ⟨pool, card, money, other, u⟩ := a
    cases hx with
    | cons h1 hx =>
    cases hx with
    | cons h2 hx =>
    cases hx with
    | cons h3 hx =>
    cases hx with
    | cons h4 hx =>
    cases hx
    cases h1
    cases h2 with
    | lst s2 d2 =>
    cases h3 with
    | lst s3 d3 =>
    cases h4 with
    | lst s4 d4 =>
    have e2 := L2.ints_dw card _ d2
    subst e2
    have e3 := L2.ints_dw money _ d3
    subst e3
    have e4 := L2.ints_dw other _ d4
    subst e4
    have hw : (Codec.inInt 0 4294967295 pool && ((Codec.inLen 0 66000 card && card.all (Codec.inInt 0 255)) && ((Codec.inLen 0 16000 money && money.all (Codec.inInt 0 18446744073709551615)) && ((Codec.inLen 0 16000 other && other.all (Codec.inInt 0 18446744073709551615)) && true)))) = true := hwi
    simp only [Bool.and_eq_true, List.all_eq_true, Codec.inInt_iff, Codec.inNat_iff] at hw
    have hev := Pd.even_of (p := pool) (card := card) (money := money) (other := other) hask
    refine ⟨pool, _, _, _, card, money, other, rfl, hw.1.1, s2, hw.2.1.2, (Codec.inNat_iff.mp hw.2.1.1).2, s3, (Codec.inNat_iff.mp hw.2.2.1.1).2, hev.1, s4, (Codec.inNat_iff.mp hw.2.2.2.1.1).2, hev.2, fun ans H' p ha hp => ?_⟩
    show L2.Dw K H' (.ref p) (.list ((PyWqaqcm.join pool card money other).map WData.int))
    rw [Pd.join_eq hw.2.1.2 (fun x hx => (hw.2.2.1.2 x hx).1) hev.1 (fun x hx => (hw.2.2.2.1.2 x hx).1) hev.2 ha]
    exact .lst (L2.SqL.of hp) (L2.dw_ints _)
