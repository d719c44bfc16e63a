import PyProof.Rows.All
import Wide.All
import OpenK.AllK
import Wide.FinOn
import PyProof.EqAt
import PyProof.EqKinds
import PyProof.TupleCall
import KE.BitLaws
import Open.SpecLaws
import KE.OsHead
import KE.OsGo
import KE.KFind
import PyWqatag
import PySem.Challenge.RW_tworooms_s01_answers
section
-- CHANGE: your row's module here, as the last of these rows
set_option Elab.async false
set_option linter.all false
set_option maxRecDepth 100000
/-! THE HAND LAYER, for ints, bools, texts, own classes, lists, tuples, dicts, comprehensions, walks over dicts, enumerate, zip, reversed, texts, calls, loops. Paste it whole ahead of your own text; what your proof does not reach may be deleted. -/
namespace L2
open PySem PySem.Spec PyProof.Rows
/-- a key: an int or a str -/
abbrev Key := Sum Int Str
def keyIs : Key → Value → Bool
  | .inl k, v => Value.isInt k v
  | .inr x, v => Value.isStrOf x v
def keyH (w : World) : Key → Int
  | .inl k => hashInt k
  | .inr x => hashStr w x
theorem keyIs_shape : ∀ {k : Key} {v : Value}, keyIs k v = true → (∃ i t, k = Sum.inl i ∧ v = Value.int i t) ∨ (∃ x t, k = Sum.inr x ∧ v = Value.str x t)
  | .inl i, v, h => by
    obtain ⟨t, e⟩ := Value.isInt_shape (k := i) (v := v) h
    exact .inl ⟨i, t, rfl, e⟩
  | .inr x, v, h => by
    obtain ⟨t, e⟩ := Value.isStrOf_shape (x := x) (v := v) h
    exact .inr ⟨x, t, rfl, e⟩
theorem keyIs_int (i : Int) (t : Tok) : keyIs (.inl i) (.int i t) = true := by simp [keyIs, Value.isInt]
theorem keyIs_str (x : Str) (t : Tok) : keyIs (.inr x) (.str x t) = true := by simp [keyIs, Value.isStrOf]
theorem key_ll (a b : Int) : decide ((Sum.inl a : Key) = Sum.inl b) = (a == b) := by
  by_cases e : a = b
  · subst e; simp
  · have h : ¬ (Sum.inl a : Key) = Sum.inl b := fun q => e (Sum.inl.inj q)
    rw [decide_eq_false h]
    exact (beq_eq_false_iff_ne.mpr e).symm
theorem key_rr (a b : Str) : decide ((Sum.inr a : Key) = Sum.inr b) = decide (a = b) := by
  by_cases e : a = b
  · subst e; simp
  · have h : ¬ (Sum.inr a : Key) = Sum.inr b := fun q => e (Sum.inr.inj q)
    rw [decide_eq_false h, decide_eq_false e]
theorem key_lr (a : Int) (b : Str) : decide ((Sum.inl a : Key) = Sum.inr b) = false := decide_eq_false (fun q => nomatch q)
theorem key_rl (a : Str) (b : Int) : decide ((Sum.inr a : Key) = Sum.inl b) = false := decide_eq_false (fun q => nomatch q)
def mixKind (prog : Program) (w : World) : PySem.KeyKind prog w Key where
  is := keyIs
  hash := keyH w
  inj := fun v a b ha hb => by
    rcases keyIs_shape ha with ⟨i, t, rfl, rfl⟩ | ⟨x, t, rfl, rfl⟩
    · rcases keyIs_shape hb with ⟨j, u, rfl, e⟩ | ⟨y, u, rfl, e⟩
      · injection e with e1 _; rw [e1]
      · exact nomatch e
    · rcases keyIs_shape hb with ⟨j, u, rfl, e⟩ | ⟨y, u, rfl, e⟩
      · exact nomatch e
      · injection e with e1 _; rw [e1]
  byValue := fun k v h => by
    rcases keyIs_shape h with ⟨i, t, rfl, rfl⟩ | ⟨x, t, rfl, rfl⟩ <;> rfl
  pyHash := fun hv h => by
    rcases keyIs_shape hv with ⟨i, t, rfl, rfl⟩ | ⟨x, t, rfl, rfl⟩
    · exact wpAny_pyHash_int h
    · exact wpAny_pyHash_str h
  eqBool := fun hu hv h => by
    rcases keyIs_shape hu with ⟨i, t, rfl, rfl⟩ | ⟨x, t, rfl, rfl⟩
    · rcases keyIs_shape hv with ⟨j, u, rfl, rfl⟩ | ⟨y, u, rfl, rfl⟩
      · rw [key_ll] at h; exact wpAny_eqBool_int h
      · rw [key_lr] at h; exact SeqAt.EqAt.int_str i t y u _ _ _ _ h
    · rcases keyIs_shape hv with ⟨j, u, rfl, rfl⟩ | ⟨y, u, rfl, rfl⟩
      · rw [key_rl] at h; exact SeqAt.EqAt.str_int x t j u _ _ _ _ h
      · rw [key_rr] at h; exact wpAny_eqBool_str h
  «strs» := fun k x t v h => by
    rcases keyIs_shape h with ⟨i, u, rfl, e⟩ | ⟨y, u, rfl, e⟩
    · exact nomatch e
    · injection e with e1 _
      subst e1
      cases v <;> rfl
theorem mixKind_int (prog : Program) (w : World) (i : Int) (t : Tok) : (mixKind prog w).is (.inl i) (.int i t) = true := keyIs_int i t
theorem mixKind_str (prog : Program) (w : World) (x : Str) (t : Tok) : (mixKind prog w).is (.inr x) (.str x t) = true := keyIs_str x t
end L2
namespace L2
open PySem PySem.Spec PyProof.Rows
/-- a value, without the heap -/
inductive V where
  | non | bl (b : Bool) | int (i : Int) | str (x : Str) | byt (b : Array UInt8) | flt (b : UInt64) | ref (a : Addr) | ty (n : String)
  deriving DecidableEq
def RelV : V → Value → Prop
  | .non, u => u = Value.none
  | .bl b, u => u = Value.bool b
  | .int i, u => ∃ t, u = Value.int i t
  | .str x, u => ∃ t, u = Value.str x t
  | .byt b, u => ∃ t, u = Value.bytes b t
  | .flt b, u => ∃ t, u = Value.float b t
  | .ref a, u => u = Value.ref a
  | .ty n, u => u = Value.type n
abbrev Vals : List V → List Value → Prop := Paired RelV
theorem Vals.length {xs : List V} {us : List Value} (r : Vals xs us) : xs.length = us.length := Paired.length r
theorem Vals.get : ∀ {xs : List V} {us : List Value} {i : Nat} {x : V}, Vals xs us → xs[i]? = some x → ∃ u, us[i]? = some u ∧ RelV x u
  | _, _, _, _, .nil, e => by simp at e
  | _, _, 0, _, .cons r _, e => by simp at e; subst e; exact ⟨_, rfl, r⟩
  | _, _, i + 1, x, .cons _ t, e => by
    obtain ⟨u, h1, h2⟩ := Vals.get (i := i) (x := x) t (by simpa using e)
    exact ⟨u, by simpa using h1, h2⟩
theorem Vals.set {x : V} {u : Value} (r : RelV x u) : ∀ {xs : List V} {us : List Value} (i : Nat), Vals xs us → Vals (xs.set i x) (us.set i u)
  | _, _, _, .nil => .nil
  | _, _, 0, .cons _ t => .cons r t
  | _, _, i + 1, .cons q t => .cons q (Vals.set r i t)
theorem Vals.append : ∀ {xs ys : List V} {us ws : List Value}, Vals xs us → Vals ys ws → Vals (xs ++ ys) (us ++ ws)
  | _, _, _, _, .nil, s => s
  | _, _, _, _, .cons r t, s => .cons r (Vals.append t s)
theorem Vals.take : ∀ {xs : List V} {us : List Value} (n : Nat), Vals xs us → Vals (xs.take n) (us.take n)
  | _, _, 0, _ => .nil
  | _, _, _ + 1, .nil => .nil
  | _, _, n + 1, .cons r t => .cons r (Vals.take n t)
theorem Vals.drop : ∀ {xs : List V} {us : List Value} (n : Nat), Vals xs us → Vals (xs.drop n) (us.drop n)
  | _, _, 0, r => r
  | _, _, _ + 1, .nil => .nil
  | _, _, n + 1, .cons _ t => Vals.drop n t
theorem Vals.none_of : ∀ {xs : List V} {us : List Value} {i : Nat}, Vals xs us → xs[i]? = none → us[i]? = none := fun {xs us i} r e => by
  have h1 := r.length
  have h2 : xs.length ≤ i := List.getElem?_eq_none_iff.mp e
  exact List.getElem?_eq_none_iff.mpr (by omega)
def RelO : Option V → Option Value → Prop
  | some v, some u => RelV v u
  | none, none => True
  | _, _ => False
def KV {κ : Type} : List (κ × V) → List (κ × Value) → Prop := Paired fun (p : κ × V) (q : κ × Value) => p.1 = q.1 ∧ RelV p.2 q.2
/-- a key of a dict (00_mix): an int or a text -/
def kV : Key → V
  | .inl i => .int i
  | .inr x => .str x
/-- what stands at a tracked address -/
inductive HO where
  /-- a list -/
  | lst (xs : List V)
  /-- a tuple (never changes) -/
  | tup (xs : List V)
  /-- a dict whose keys are ints and texts; one whose keys are tuples of ints and texts (the empty one is both) -/
  | dK (kvs : List (Key × V)) | dT (kvs : List (List Key × V))
  /-- a set of ints: its members, its size -/
  | set (S : Int → Bool) (n : Nat)
  /-- an instance of the class at C, its dict at dx, its attributes -/
  | ins (C dx : Addr) (fs : List (Str × V))
  /-- the dict of the instance at x -/
  | own (x : Addr)
  /-- the dict of an exception -/
  | xd (fs : List (Str × V))
  /-- a bound method, f of x -/
  | met (f x : Addr)
  /-- a range object lo, lo + 1, .. below hi -/
  | rng (lo hi : Int)
  /-- a thing that is known to the object (the script; a dict while a loop walks it): read, never written while it is so -/
  | frz (o : Obj) (u : HO)
  /-- a code object's table -/
  | tbl (ps : Array Value)
  /-- any other thing, by what is true of its one object (a def of one's own: SetO a S n := HO.ext fun h => ..) -/
  | ext (φ : Heap → Prop)
abbrev Hp := Addr → Option HO
def upd (H : Hp) (a : Addr) (o : HO) : Hp := fun b => if b = a then some o else H b
theorem upd_same {H : Hp} {a : Addr} {o : HO} : upd H a o a = some o := by unfold upd; rw [if_pos rfl]
theorem upd_ne {H : Hp} {a b : Addr} {o : HO} (h : b ≠ a) : upd H a o b = H b := by unfold upd; rw [if_neg h]
/-- two objects of different content stand apart -/
theorem ne_of {H : Hp} {a b : Addr} {o u : HO} (h : H a = some o) (h' : H b = some u) (d : o ≠ u) : a ≠ b := by
  intro e; subst e; rw [h] at h'; exact d (Option.some.inj h')
theorem ne_of_none {H : Hp} {a b : Addr} {o : HO} (h : H a = some o) (h' : H b = none) : a ≠ b := by
  intro e; subst e; rw [h] at h'; cases h'
section
variable (P : Program) (w : World)
def ObjOk (H : Hp) (h : Heap) (a : Addr) : HO → Prop
  | .lst xs => xs.length ≤ sizeLine ∧ ∃ (its : List Value) (n : Nat), Vals xs its ∧ h.get? a = some { cls := .type "list", data := .seq its.toArray n }
  | .tup xs => xs.length ≤ sizeLine ∧ ∃ its : List Value, Vals xs its ∧ IsTup h a its.toArray
  | .dK kvs => kvs.length ≤ sizeLine ∧ (a == sysModules) = false ∧ ∃ vs, KV kvs vs ∧ h.DictOf (mixKind P w) a vs
  | .dT kvs => kvs.length ≤ sizeLine ∧ (a == sysModules) = false ∧ ∃ xs : List (List Key × Addr × Value),
      Paired (fun (p : List Key × V) (q : List Key × Addr × Value) => p.1 = q.1 ∧ H q.2.1 = some (.tup (p.1.map kV)) ∧ RelV p.2 q.2.2) kvs xs ∧
      ∃ o es ep, h.get? a = some o ∧ o.ExactDict ∧ o.data = .dict es ep ∧ es.toList = xs.map (entryOfKey (tupleKind (mixKind P w))) ∧ (xs.map (·.1)).Nodup
  | .set S n => h.SetOf (intKind P w) a S n
  | .ins C dx fs => H dx = some (.own a) ∧ fs.length ≤ 1000 ∧ dx ≠ a ∧ h.get? a = some (PySem.W.instObj C dx) ∧
      ∃ mA, h.Ns1 dx mA ∧ (∀ f, RelO (fs.lookup f) (mA f)) ∧ PySem.Within mA (fs.map (·.1))
  | .own _ => ∃ o, h.get? a = some o
  | .xd fs => ∃ mA, h.Ns1 a mA ∧ ∀ f, RelO (fs.lookup f) (mA f)
  | .rng lo hi => ∃ t u v, h.get? a = some { cls := .type "range", data := .fields #[.int lo t, .int hi u, .int 1 v] }
  | .frz o u => h.get? a = some o ∧ ObjOk H h a u
  | .tbl ps => h.get? a = some { cls := .none, data := .fields ps }
  | .met f x => h.get? a = some (PySem.W.methodObj (.ref f) (.ref x))
  | .ext φ => φ h ∧ (∃ o, h.get? a = some o) ∧ ∀ h1 h2 : Heap, φ h1 → (∀ o, h1.get? a = some o → h2.get? a = some o) → φ h2
/-- the abstract heap is held -/
def HOk (H : Hp) (h : Heap) : Prop := ∀ a o, H a = some o → ObjOk P w H h a o
end
section
variable {P : Program} {w : World} {H H' : Hp} {h h' : Heap} {a : Addr} {o : HO}
theorem ObjOk.lt (x : ObjOk P w H h a o) : a < h.objs.size := by
  cases o with
  | lst xs => obtain ⟨_, _, _, _, e⟩ := x; exact Heap.lt_size e
  | tup xs => obtain ⟨_, _, _, p⟩ := x; exact p.lt
  | dK kvs => obtain ⟨_, _, _, _, o, _, _, e, _⟩ := x; exact Heap.lt_size e
  | dT kvs => obtain ⟨_, _, _, _, o, _, _, e, _⟩ := x; exact Heap.lt_size e
  | set S n => obtain ⟨o, _, _, _, e, _⟩ := x; exact Heap.lt_size e
  | ins C dx fs => obtain ⟨_, _, _, e, _⟩ := x; exact Heap.lt_size e
  | own y => obtain ⟨_, e⟩ := x; exact Heap.lt_size e
  | xd fs => obtain ⟨_, ⟨_, _, _, e, _⟩, _⟩ := x; exact Heap.lt_size e
  | rng lo hi => obtain ⟨_, _, _, e⟩ := x; exact Heap.lt_size e
  | frz ob u => obtain ⟨e, _⟩ := x; exact Heap.lt_size e
  | tbl ps => exact Heap.lt_size (show h.get? a = some _ from x)
  | met f y => exact Heap.lt_size (show h.get? a = some _ from x)
  | ext φ => obtain ⟨_, ⟨_, e⟩, _⟩ := x; exact Heap.lt_size e
theorem Paired.mapP {α β : Type} {F G : α → β → Prop} : ∀ {l₁ : List α} {l₂ : List β}, Paired F l₁ l₂ → (∀ a b, F a b → G a b) → Paired G l₁ l₂
  | _, _, .nil, _ => .nil
  | _, _, .cons r t, f => .cons (f _ _ r) (Paired.mapP t f)
/-- what an object's description leans on: its own object, its own dict, the tuples -/
theorem ObjOk.stay (x : ObjOk P w H h a o) (k : ∀ b u, (b = a ∨ H b = some (.own a)) → h.get? b = some u → h'.get? b = some u)
    (ho : ∀ b, H b = some (.own a) → H' b = some (.own a)) (ht : ∀ b xs, H b = some (.tup xs) → H' b = some (.tup xs)) : ObjOk P w H' h' a o := by
  induction o with
  | lst xs => obtain ⟨z, its, n, r, e⟩ := x; exact ⟨z, its, n, r, k _ _ (.inl rfl) e⟩
  | tup xs => obtain ⟨z, its, r, ob, e, c⟩ := x; exact ⟨z, its, r, ob, k _ _ (.inl rfl) e, c⟩
  | dK kvs => obtain ⟨z, y, vs, r, ob, es, ep, e, c⟩ := x; exact ⟨z, y, vs, r, ob, es, ep, k _ _ (.inl rfl) e, c⟩
  | dT kvs =>
    obtain ⟨z, y, xs, r, ob, es, ep, e, c⟩ := x
    exact ⟨z, y, xs, Paired.mapP r fun p q z => ⟨z.1, ht _ _ z.2.1, z.2.2⟩, ob, es, ep, k _ _ (.inl rfl) e, c⟩
  | set S n => obtain ⟨ob, es, ep, t, e, c⟩ := x; exact ⟨ob, es, ep, t, k _ _ (.inl rfl) e, c⟩
  | ins C dx fs =>
    obtain ⟨d, z, ne, e, mA, ⟨od, es, ep, e2, c⟩, r⟩ := x
    exact ⟨ho _ d, z, ne, k _ _ (.inl rfl) e, mA, ⟨od, es, ep, k _ _ (.inr d) e2, c⟩, r⟩
  | own y => obtain ⟨ob, e⟩ := x; exact ⟨ob, k _ _ (.inl rfl) e⟩
  | xd fs => obtain ⟨mA, ⟨od, es, ep, e, c⟩, r⟩ := x; exact ⟨mA, ⟨od, es, ep, k _ _ (.inl rfl) e, c⟩, r⟩
  | rng lo hi => obtain ⟨t, u, v, e⟩ := x; exact ⟨t, u, v, k _ _ (.inl rfl) e⟩
  | frz ob u ih => obtain ⟨e, q⟩ := x; exact ⟨k _ _ (.inl rfl) e, ih q⟩
  | tbl ps =>
    have e : h.get? a = some { cls := .none, data := .fields ps } := x
    show h'.get? a = some { cls := .none, data := .fields ps }
    exact k a _ (.inl rfl) e
  | met f y =>
    have e : h.get? a = some (PySem.W.methodObj (.ref f) (.ref y)) := x
    show h'.get? a = some (PySem.W.methodObj (.ref f) (.ref y))
    exact k a _ (.inl rfl) e
  | ext φ => obtain ⟨p, ⟨o, e⟩, st⟩ := x; exact ⟨st _ _ p fun o q => k _ _ (.inl rfl) q, ⟨o, k _ _ (.inl rfl) e⟩, st⟩
theorem HOk.lt (x : HOk P w H h) (e : H a = some o) : a < h.objs.size := (x a o e).lt
theorem HOk.fresh (x : HOk P w H h) (e : h.objs.size ≤ a) : H a = none := by
  cases q : H a with
  | none => rfl
  | some u => exact absurd (Nat.lt_of_lt_of_le (x.lt q) e) (Nat.lt_irrefl _)
/-- every object of the heap is kept -/
theorem HOk.kept (x : HOk P w H h) (k : ∀ b u, h.get? b = some u → h'.get? b = some u) : HOk P w H h' := fun a o e =>
  (x a o e).stay (fun b u _ q => k b u q) (fun _ q => q) fun _ _ q => q
/-- a new object is laid and tracked -/
theorem HOk.laid (x : HOk P w H h) (k : ∀ b u, h.get? b = some u → h'.get? b = some u) (hp : h.objs.size ≤ a) (new : ObjOk P w (upd H a o) h' a o) : HOk P w (upd H a o) h' := fun b u e => by
  have hn := x.fresh hp
  by_cases hb : b = a
  · subst hb; rw [upd_same] at e; cases e; exact new
  · rw [upd_ne hb] at e
    exact (x b u e).stay (fun c v _ q => k c v q) (fun c q => by rw [upd_ne (ne_of_none q hn)]; exact q) fun c xs q => by rw [upd_ne (ne_of_none q hn)]; exact q
end
/-- what may be read as u: it is u, or a known u -/
def Rd (H : Hp) (a : Addr) (u : HO) : Prop := H a = some u ∨ ∃ o, H a = some (.frz o u)
theorem Rd.of {H : Hp} {a : Addr} {u : HO} (h : H a = some u) : Rd H a u := .inl h
theorem Rd.ok {P : Program} {w : World} {H : Hp} {h : Heap} {a : Addr} {u : HO} (r : Rd H a u) (x : HOk P w H h) : ObjOk P w H h a u := by
  rcases r with r | ⟨o, r⟩
  · exact x a u r
  · obtain ⟨_, q⟩ := x a _ r
    exact q
/-- what may be written -/
def Mut : Option HO → Prop
  | some (.lst _) => True
  | some (.dK _) => True
  | some (.dT _) => True
  | some (.set _ _) => True
  | some (.ins _ _ _) => True
  | some (.ext _) => True
  | _ => False
section
variable {P : Program} {w : World} {H : Hp} {h h' : Heap} {x e : Addr} {o' : HO}
/-- the object at e is changed: x itself, or the dict of the instance x -/
theorem HOk.write (ok : HOk P w H h) (mu : Mut (H x)) (he : e = x ∨ H e = some (.own x)) (k : ∀ b u, b ≠ e → h.get? b = some u → h'.get? b = some u) (heo : ∃ u, h'.get? e = some u)
    (new : ObjOk P w (upd H x o') h' x o') : HOk P w (upd H x o') h' := fun b u q => by
  have nown : ∀ c y, H c = some (.own y) → c ≠ x := fun c y r z => by subst z; rw [r] at mu; exact mu
  have ntup : ∀ c xs, H c = some (.tup xs) → c ≠ x := fun c xs r z => by subst z; rw [r] at mu; exact mu
  by_cases hb : b = x
  · subst hb; rw [upd_same] at q; cases q; exact new
  · rw [upd_ne hb] at q
    by_cases hbe : b = e
    · have q' : H b = some (.own x) := by
        rcases he with z | z
        · exact absurd (hbe.trans z) hb
        · rw [hbe]; exact z
      rw [q] at q'; cases q'
      obtain ⟨v, hv⟩ := heo
      exact ⟨v, by rw [hbe]; exact hv⟩
    · refine (ok b u q).stay (fun c v hc r => k c v ?_ r) (fun c r => by rw [upd_ne (nown c b r)]; exact r) fun c xs r => by rw [upd_ne (ntup c xs r)]; exact r
      rcases hc with rfl | hc
      · exact hbe
      · rintro rfl
        rcases he with z | z
        · exact nown c b hc z
        · rw [hc] at z; cases z; exact hb rfl
end
/-! ### kept unless tracked; of the frames at fs (the callers') the slots may change (an exception that passes writes there); of the records at ex (iterators) nothing is said -/
structure Un (fs ex : List Addr) (H H' : Hp) (h h' : Heap) : Prop where
  keep : ∀ b o, h.get? b = some o → H b = none → b ∉ fs → b ∉ ex → h'.get? b = some o
  slot : ∀ b o, h.get? b = some o → H b = none → b ∈ fs → b ∉ ex → ∃ sl, h'.get? b = some { o with slots := sl }
  free : ∀ b o, h.get? b = some o → H b = none → b ∉ ex → H' b = none
  there : ∀ b o, h.get? b = some o → b ∉ ex → ∃ o', h'.get? b = some o'
  tups : ∀ b xs, H b = some (.tup xs) → H' b = some (.tup xs)
  frzs : ∀ b o u, H b = some (.frz o u) → H' b = some (.frz o u)
  tbls : ∀ b ps, H b = some (.tbl ps) → ∃ more, H' b = some (.tbl (ps ++ more))
section
variable {fs fs' ex ex' : List Addr} {H H1 H2 : Hp} {h h1 h2 h' : Heap} {a x e : Addr} {o : HO}
theorem Un.any (u : Un fs ex H H1 h h1) {b : Addr} {ob : Obj} (q : h.get? b = some ob) (n : H b = none) (hx : b ∉ ex) : ∃ sl, h1.get? b = some { ob with slots := sl } := by
  by_cases hb : b ∈ fs
  · exact u.slot b ob q n hb hx
  · exact ⟨ob.slots, u.keep b ob q n hb hx⟩
theorem Un.trans (a : Un fs ex H H1 h h1) (b : Un fs ex H1 H2 h1 h2) : Un fs ex H H2 h h2 where
  keep := fun c ob q n hc hx => b.keep c ob (a.keep c ob q n hc hx) (a.free c ob q n hx) hc hx
  slot := fun c ob q n hc hx => by
    obtain ⟨sl, e1⟩ := a.slot c ob q n hc hx
    obtain ⟨sl', e2⟩ := b.slot c _ e1 (a.free c ob q n hx) hc hx
    exact ⟨sl', e2⟩
  free := fun c ob q n hx => by
    obtain ⟨o', e1⟩ := a.there c ob q hx
    exact b.free c o' e1 (a.free c ob q n hx) hx
  there := fun c ob q hx => by
    obtain ⟨o', e1⟩ := a.there c ob q hx
    exact b.there c o' e1 hx
  tups := fun c xs q => b.tups c xs (a.tups c xs q)
  frzs := fun c ob xs q => b.frzs c ob xs (a.frzs c ob xs q)
  tbls := fun c ps q => by
    obtain ⟨m1, e1⟩ := a.tbls c ps q
    obtain ⟨m2, e2⟩ := b.tbls c _ e1
    exact ⟨m1 ++ m2, by rw [e2, Array.append_assoc]⟩
theorem Un.kept (k : ∀ b u, h.get? b = some u → h'.get? b = some u) : Un fs ex H H h h' :=
  ⟨fun b ob q _ _ _ => k b ob q, fun b ob q _ _ _ => ⟨ob.slots, k b ob q⟩, fun _ _ _ n _ => n, fun b ob q _ => ⟨ob, k b ob q⟩, fun _ _ q => q, fun _ _ _ q => q, fun _ ps q => ⟨#[], by rw [q]; simp⟩⟩
theorem Un.refl : Un fs ex H H h h := Un.kept fun _ _ q => q
theorem Un.laid (k : ∀ b u, h.get? b = some u → h'.get? b = some u) (hp : h.objs.size ≤ a) (hn : H a = none) : Un fs ex H (upd H a o) h h' where
  keep := fun b u q _ _ _ => k b u q
  slot := fun b u q _ _ _ => ⟨u.slots, k b u q⟩
  free := fun b u q n _ => by rw [upd_ne (Nat.ne_of_lt (Nat.lt_of_lt_of_le (Heap.lt_size q) hp))]; exact n
  there := fun b u q _ => ⟨u, k b u q⟩
  tups := fun b xs q => by rw [upd_ne (ne_of_none q hn)]; exact q
  frzs := fun b u xs q => by rw [upd_ne (ne_of_none q hn)]; exact q
  tbls := fun b ps q => ⟨#[], by rw [upd_ne (ne_of_none q hn), q]; simp⟩
theorem Un.write (mu : Mut (H x)) (he : e = x ∨ H e = some (.own x)) (k : ∀ b u, b ≠ e → h.get? b = some u → h'.get? b = some u) (heo : ∃ u, h'.get? e = some u) : Un fs ex H (upd H x o) h h' := by
  have hx : ∀ b, H b = none → b ≠ x := fun b n z => by subst z; rw [n] at mu; exact mu
  have hb : ∀ b, H b = none → b ≠ e := fun b n z => by
    subst z
    rcases he with r | r
    · exact hx b n r
    · rw [n] at r; cases r
  have hm : ∀ b u, H b = some u → ¬ Mut (some u) → b ≠ x := fun b u q nm z => by subst z; rw [q] at mu; exact nm mu
  refine ⟨fun b u q n _ _ => k b u (hb b n) q, fun b u q n _ _ => ⟨u.slots, k b u (hb b n) q⟩, fun b u q n _ => by rw [upd_ne (hx b n)]; exact n, fun b u q _ => ?_,
    fun b xs q => by rw [upd_ne (hm b _ q fun z => z)]; exact q, fun b u xs q => by rw [upd_ne (hm b _ q fun z => z)]; exact q, fun b ps q => ⟨#[], by rw [upd_ne (hm b _ q fun z => z), q]; simp⟩⟩
  by_cases hbe : b = e
  · subst hbe; exact heo
  · exact ⟨u, k b u hbe q⟩
theorem Un.mono (u : Un fs ex H H1 h h1) (hs : ∀ b ∈ fs, b ∈ fs') (hx : ∀ b ∈ ex, b ∈ ex') : Un fs' ex' H H1 h h1 :=
  ⟨fun b ob q n hb he => u.keep b ob q n (fun z => hb (hs b z)) fun z => he (hx b z), fun _ _ q n _ he => u.any q n fun z => he (hx _ z), fun b ob q n he => u.free b ob q n fun z => he (hx b z), fun b ob q he => u.there b ob q fun z => he (hx b z), u.tups, u.frzs, u.tbls⟩
end
/-! ### the heap without what is tracked -/
def trk (h : Heap) (H : Hp) : List Addr := (List.range h.objs.size).filter fun a => (H a).isSome
def hidT (h : Heap) (H : Hp) : Heap := PySem.W.hideAll h (trk h H)
theorem hidT_size (h : Heap) (H : Hp) : (hidT h H).objs.size = h.objs.size := PySem.W.hideAll_size _ _
theorem hidT_get {h : Heap} {H : Hp} {b : Addr} {o : Obj} (e : h.get? b = some o) (n : H b = none) : (hidT h H).get? b = some o :=
  PySem.W.hideAll_get _ e fun hm => by
    have q : (H b).isSome = true := (List.mem_filter.mp hm).2
    rw [n] at q; simp at q
theorem of_hidT {h : Heap} {H : Hp} {b : Addr} {o : Obj} (e : (hidT h H).get? b = some o) : h.get? b = some o ∧ H b = none := by
  have e' : h.get? b = some o := PySem.W.of_hideAll (trk h H) e
  refine ⟨e', ?_⟩
  cases q : H b with
  | none => rfl
  | some x =>
    have hm : b ∈ trk h H := List.mem_filter.mpr ⟨List.mem_range.mpr (Heap.lt_size e'), by simp [q]⟩
    have z : (hidT h H).get? b = none := PySem.W.hideAll_none (trk h H) hm
    rw [z] at e; cases e
/-! ### OpenK's ledger, filled with every new object but one -/
def allNews (g h : Heap) (L : Addr) : List (Addr × Obj) := (List.range h.objs.size).filterMap fun a => if a = L ∨ (g.get? a).isSome = true then none else (h.get? a).map fun o => (a, o)
def rest (g h : Heap) (L d : Addr) : List (Addr × Obj) := (allNews g h L).filter fun p => decide (p.1 ≠ d)
end L2
namespace L2
open PySem PySem.Spec PyProof.Rows
/-- the module's facts, over the base: the heap at the law's entry without what is tracked there -/
structure Mod (K : PySem.W.Frag) (mg : Str → Option Value) (base : Heap) : Prop where
  kin : K.In base
  glob : base.Ns mainGlobals mg
  blt : ∃ mb, base.Ns builtinsNs mb ∧ ∀ x : Str, x ≠ "__name__" → mb x = bootBuiltins x
  nolimit : base.NoLimit
/-- the context: a def's body (or a comprehension's block) running. base: fixed through the whole law; s₀, H₀: the entry; outer: the frames whose slots others may change (a def's callers); stack: all frames that run;
   ex: iterators that were made ahead of the entry and are walked here (a comprehension's); fn: the names whose cells were made at the entry (a def: all; a comprehension's block: its own); calm: not within an except suite; pn: pins that every state bears; xe: what is wanted of an exception that leaves the code -/
structure Cx where
  prog : Program
  w : World
  K : PySem.W.Frag
  mg : Str → Option Value
  base : Heap
  A : Around
  N : List Str
  s_0 : Shared
  H_0 : Hp
  env : Env
  outer : List Env
  stack : List Env
  ex : List Addr
  fn : Str → Bool
  calm : Bool
  pn : List (Addr × Obj)
  xe : Value → Shared → Prop
/-- the callers' frames -/
def frs (l : List Env) : List Addr := l.filterMap (·.frame)
abbrev Cx.fs (X : Cx) : List Addr := frs X.outer
def Vis (sc : Scope) (x : Str) : Prop := sc.names.lookup x = some .local ∨ sc.names.lookup x = some .cell ∨ sc.names.lookup x = some .free
def Loc (sc : Scope) (x : Str) : Prop := sc.names.lookup x = some .local ∨ sc.names.lookup x = some .cell
def Look (env : Env) (h : Heap) (m : Str → Option Value) (x : Str) (u : Value) : Prop :=
  (env.kindOf x = some .local ∧ m x = some u) ∨ ((env.kindOf x = some .cell ∨ env.kindOf x = some .free) ∧ ∃ c, env.cells.lookup x = some c ∧ h.IsCell c (some u))
structure Cx.Ok (X : Cx) : Prop where
  mod : Mod X.K X.mg X.base
  kind : X.env.scope.kind = .function
  glob : X.env.globals = mainGlobals
  blt : X.env.builtins = builtinsNs
  above : X.s_0.heap.objs.size ≤ X.env.locals
  inj : ∀ x y c, X.env.cells.lookup x = some c → X.env.cells.lookup y = some c → x = y
  has : ∀ x, (X.env.kindOf x = some .cell ∨ X.env.kindOf x = some .free) → ∃ c, X.env.cells.lookup x = some c
  cab : ∀ x c, X.fn x = true → X.env.cells.lookup x = some c → X.s_0.heap.objs.size ≤ c
  hd : X.calm = true → X.A.handled = none
  frames : X.A.frames = some X.stack
  stk : X.stack = X.outer ∨ (X.stack = X.env :: X.outer ∧ X.env.frame = some X.env.locals)
  exf : ∀ b ∈ X.ex, b ≠ X.env.locals ∧ ∀ x c, X.env.cells.lookup x = some c → c ≠ b
  bs : ∀ b o, X.base.get? b = some o → X.s_0.heap.get? b = some o ∧ X.H_0 b = none
  bsz : X.base.objs.size ≤ X.s_0.heap.objs.size
  noex : ∀ b o, X.base.get? b = some o → b ∉ X.ex
  exfs : ∀ b ∈ X.ex, b ∉ X.fs
  funs : X.s_0.heap.FunFrames X.base X.outer
  frf : ∀ b ∈ X.fs, X.H_0 b = none
structure Inv (X : Cx) (pins : List (Addr × Obj)) (σ : List (Option V)) (H : Hp) (s : Shared) : Prop where
  ok : X.Ok
  os : s.os = X.s_0.os
  bare : AllBare s.gens
  base : Un X.fs X.ex X.H_0 H X.s_0.heap s.heap
  loc : ∃ m, s.heap.Ns X.env.locals m ∧ ∀ (i : Nat) (x : Str) (v : V), X.N[i]? = some x → σ[i]? = some (some v) → Vis X.env.scope x → ∃ u, RelV v u ∧ Look X.env s.heap m x u
  cell : ∀ x c, X.env.cells.lookup x = some c → ∃ v, s.heap.IsCell c v
  free : H X.env.locals = none
  freeC : ∀ x c, X.env.cells.lookup x = some c → H c = none
  pin : ∀ p ∈ X.pn ++ pins, s.heap.get? p.1 = some p.2 ∧ H p.1 = none ∧ p.1 ≠ X.env.locals ∧ p.1 ∉ X.fs ∧ ∀ v, p.2.data ≠ .cell v
  hok : HOk X.prog X.w H s.heap
  len : σ.length = X.N.length
section
variable {X : Cx} {pins : List (Addr × Obj)} {σ : List (Option V)} {H H' : Hp} {s : Shared} {h' : Heap}
theorem Cx.Ok.nofr (ok : X.Ok) {b : Addr} {o : Obj} (e : X.base.get? b = some o) : b ∉ X.fs := fun hb => by
  have := (ok.funs.mem hb).1
  rw [e] at this; cases this
theorem Inv.bs (I : Inv X pins σ H s) : ∀ b o, X.base.get? b = some o → s.heap.get? b = some o ∧ H b = none := fun b o e =>
  ⟨I.base.keep b o (I.ok.bs b o e).1 (I.ok.bs b o e).2 (I.ok.nofr e) (I.ok.noex b o e), I.base.free b o (I.ok.bs b o e).1 (I.ok.bs b o e).2 (I.ok.noex b o e)⟩
theorem Inv.bk (I : Inv X pins σ H s) : ∀ b o, X.base.get? b = some o → s.heap.get? b = some o := fun b o e => (I.bs b o e).1
theorem Inv.mod (I : Inv X pins σ H s) : Mod X.K X.mg X.base := I.ok.mod
theorem Inv.kIn (I : Inv X pins σ H s) : X.K.In s.heap := I.ok.mod.kin.keeps I.bk
theorem Inv.nolimit (I : Inv X pins σ H s) : s.heap.NoLimit := I.ok.mod.nolimit.keeps I.bk
/-- the frame over the base: for OpenK's rules (K.In X.base is I.mod.kin) -/
theorem Inv.fr (I : Inv X pins σ H s) : ∃ m, Fr X.base X.env.locals s.heap m :=
  let ⟨m, hn, _⟩ := I.loc
  ⟨m, hn, I.bk, Nat.le_trans I.ok.bsz I.ok.above⟩
theorem Inv.lt (I : Inv X pins σ H s) : X.env.locals < s.heap.objs.size := let ⟨_, hn, _⟩ := I.loc; hn.lt
theorem Inv.sz (I : Inv X pins σ H s) : X.s_0.heap.objs.size ≤ s.heap.objs.size := Nat.le_trans I.ok.above (Nat.le_of_lt I.lt)
theorem Inv.nofs (I : Inv X pins σ H s) {a : Addr} (h : s.heap.objs.size ≤ a) : a ∉ X.fs := fun hb => by
  obtain ⟨_, o, ho, _⟩ := I.ok.funs.mem hb
  exact absurd (Nat.lt_of_lt_of_le (Heap.lt_size ho) (Nat.le_trans I.sz h)) (Nat.lt_irrefl _)
theorem Inv.cne (I : Inv X pins σ H s) : ∀ x c, X.env.cells.lookup x = some c → c ≠ X.env.locals := fun x c e z => by
  obtain ⟨v, o, ho, hd⟩ := I.cell x c e
  obtain ⟨m, ⟨o', es, ep, ho', hd', _⟩, _⟩ := I.loc
  rw [z, ho'] at ho; cases ho; rw [hd'] at hd; cases hd
theorem Inv.funs (I : Inv X pins σ H s) : s.heap.FunFrames X.base X.outer := by
  have all : ∀ (l : List Env), (∀ b ∈ frs l, b ∈ X.fs) → X.s_0.heap.FunFrames X.base l → s.heap.FunFrames X.base l := by
    intro l
    induction l with
    | nil => intro _ _; trivial
    | cons env r ih =>
      intro hs hl
      obtain ⟨hk, ⟨L, o, hf, hn, ho, hd⟩, hr⟩ := hl
      have hL : L ∈ X.fs := hs L (by unfold frs; rw [List.filterMap_cons, hf]; exact List.mem_cons_self)
      obtain ⟨sl, e⟩ := I.base.slot L o ho (I.ok.frf L hL) hL fun z => I.ok.exfs L z hL
      exact ⟨hk, ⟨L, _, hf, hn, e, hd⟩, ih (fun b hb => hs b (by unfold frs; rw [List.filterMap_cons, hf]; exact List.mem_cons_of_mem _ hb)) hr⟩
  exact all X.outer (fun _ hb => hb) I.ok.funs
/-- the frames that run, for a call -/
theorem Inv.stack (I : Inv X pins σ H s) : s.heap.FunFrames X.base X.stack := by
  rcases I.ok.stk with e | ⟨e, hf⟩
  · rw [e]; exact I.funs
  · rw [e]
    obtain ⟨m, hn, _⟩ := I.loc
    refine .cons (by rw [I.ok.kind]; decide) hf hn ?_ I.funs
    exact Heap.get?_none_of_le (Nat.le_trans I.ok.bsz I.ok.above)
theorem Inv.stkSub (I : Inv X pins σ H s) : ∀ b ∈ frs X.stack, b ∈ X.env.locals :: X.fs := fun b hb => by
  rcases I.ok.stk with e | ⟨e, hf⟩
  · rw [e] at hb; exact List.mem_cons_of_mem _ hb
  · rw [e] at hb
    unfold frs at hb
    rw [List.filterMap_cons, hf] at hb
    exact hb
theorem Inv.stkFree (I : Inv X pins σ H s) : ∀ b ∈ frs X.stack, H b = none := fun b hb => by
  rcases List.mem_cons.mp (I.stkSub b hb) with e | hb
  · rw [e]; exact I.free
  · obtain ⟨_, o, ho, _⟩ := I.ok.funs.mem hb
    exact I.base.free b o ho (I.ok.frf b hb) fun z => I.ok.exfs b z hb
/-- THE STEP: the untracked objects but the frame and the records at ch are kept (the callers' frames up to slots), the frame's map is kept, the new abstract heap is held -/
theorem Inv.step {g' : Array GenState} {t' : Nat} {d' : Drawn} {ch : List Addr} (I : Inv X pins σ H s)
    (hch : ∀ b ∈ ch, (b ∈ X.ex ∨ X.s_0.heap.objs.size ≤ b) ∧ b ≠ X.env.locals ∧ (∀ x c, X.env.cells.lookup x = some c → c ≠ b) ∧ ∀ p ∈ X.pn ++ pins, p.1 ≠ b)
    (keep : ∀ b o, b ≠ X.env.locals → b ∉ X.fs → b ∉ ch → s.heap.get? b = some o → H b = none → h'.get? b = some o)
    (slot : ∀ b o, b ≠ X.env.locals → b ∈ X.fs → b ∉ ch → s.heap.get? b = some o → H b = none → ∃ sl, h'.get? b = some { o with slots := sl }) (free : ∀ b o, b ∉ ch → s.heap.get? b = some o → H b = none → H' b = none)
    (there : ∀ b o, b ∉ ch → s.heap.get? b = some o → ∃ o', h'.get? b = some o')
    (tups : ∀ b xs, H b = some (.tup xs) → H' b = some (.tup xs)) (frzs : ∀ b o u, H b = some (.frz o u) → H' b = some (.frz o u)) (tbls : ∀ b ps, H b = some (.tbl ps) → ∃ more, H' b = some (.tbl (ps ++ more)))
    (ns : ∀ m, s.heap.Ns X.env.locals m → h'.Ns X.env.locals m) (hok : HOk X.prog X.w H' h') (hg : AllBare g') :
    Inv X pins σ H' { s with heap := h', gens := g', drawn := d', toks := t' } := by
  have neL : ∀ b o, X.s_0.heap.get? b = some o → b ≠ X.env.locals := fun b o e => Nat.ne_of_lt (Nat.lt_of_lt_of_le (Heap.lt_size e) I.ok.above)
  have neC : ∀ b o, X.s_0.heap.get? b = some o → b ∉ X.ex → b ∉ ch := fun b o e hx hb => by
    rcases (hch b hb).1 with z | z
    · exact hx z
    · exact absurd (Nat.lt_of_lt_of_le (Heap.lt_size e) z) (Nat.lt_irrefl _)
  have cellK : ∀ x c, X.env.cells.lookup x = some c → ∀ v, s.heap.IsCell c v → h'.IsCell c v := fun x c e v ⟨o, ho, hd⟩ => by
    have nch : c ∉ ch := fun z => (hch c z).2.2.1 x c e rfl
    by_cases hc : c ∈ X.fs
    · obtain ⟨sl, q⟩ := slot c o (I.cne x c e) hc nch ho (I.freeC x c e)
      exact ⟨_, q, hd⟩
    · exact ⟨o, keep c o (I.cne x c e) hc nch ho (I.freeC x c e), hd⟩
  refine ⟨I.ok, I.os, hg, ⟨fun b o e n hb hx => ?_, fun b o e n hb hx => ?_, fun b o e n hx => ?_, fun b o e hx => ?_, fun b xs e => tups b xs (I.base.tups b xs e), fun b o xs e => frzs b o xs (I.base.frzs b o xs e), fun b ps e => ?_⟩, ?_, fun x c e => ?_, ?_, fun x c e => ?_, fun p hp => ?_, hok, I.len⟩
  · exact keep b o (neL b o e) hb (neC b o e hx) (I.base.keep b o e n hb hx) (I.base.free b o e n hx)
  · obtain ⟨sl, e1⟩ := I.base.slot b o e n hb hx
    obtain ⟨sl', e2⟩ := slot b _ (neL b o e) hb (neC b o e hx) e1 (I.base.free b o e n hx)
    exact ⟨sl', e2⟩
  · obtain ⟨o', e1⟩ := I.base.there b o e hx
    exact free b o' (neC b o e hx) e1 (I.base.free b o e n hx)
  · obtain ⟨o', e1⟩ := I.base.there b o e hx
    exact there b o' (neC b o e hx) e1
  · obtain ⟨m1, e1⟩ := I.base.tbls b ps e
    obtain ⟨m2, e2⟩ := tbls b _ e1
    exact ⟨m1 ++ m2, by rw [e2, Array.append_assoc]⟩
  · obtain ⟨m, hn, hl⟩ := I.loc
    refine ⟨m, ns m hn, fun i x v e1 e2 e3 => ?_⟩
    obtain ⟨u, r, l⟩ := hl i x v e1 e2 e3
    refine ⟨u, r, ?_⟩
    rcases l with l | ⟨k, c, e, z⟩
    · exact .inl l
    · exact .inr ⟨k, c, e, cellK x c e _ z⟩
  · obtain ⟨v, z⟩ := I.cell x c e
    exact ⟨v, cellK x c e v z⟩
  · obtain ⟨m, ⟨o, _, _, ho, _⟩, _⟩ := I.loc
    exact free _ o (fun z => (hch _ z).2.1 rfl) ho I.free
  · obtain ⟨v, o, ho, hd⟩ := I.cell x c e
    exact free c o (fun z => (hch c z).2.2.1 x c e rfl) ho (I.freeC x c e)
  · obtain ⟨e, n, ne, nf, d⟩ := I.pin p hp
    have nch : p.1 ∉ ch := fun z => (hch p.1 z).2.2.2 p hp rfl
    exact ⟨keep p.1 p.2 ne nf nch e n, free p.1 p.2 nch e n, ne, nf, d⟩
/-- .. where the frame's own object is kept too -/
theorem Inv.un {t' : Nat} (I : Inv X pins σ H s) (u : Un X.fs [] H H' s.heap h') (hok : HOk X.prog X.w H' h') : Inv X pins σ H' { s with heap := h', toks := t' } := by
  obtain ⟨m, ⟨o, es, ep, ho, r⟩, _⟩ := id I.loc
  obtain ⟨sl, hL⟩ := u.any ho I.free (by simp)
  exact I.step (g' := s.gens) (d' := s.drawn) (ch := []) (fun _ z => nomatch z) (fun b o _ hb _ e n => u.keep b o e n hb (by simp)) (fun b o _ hb _ e n => u.slot b o e n hb (by simp)) (fun b o _ e n => u.free b o e n (by simp)) (fun b o _ e => u.there b o e (by simp)) u.tups u.frzs u.tbls (fun m' hm => by
    obtain ⟨o', es', ep', ho', r'⟩ := hm
    rw [ho] at ho'; cases ho'
    exact ⟨_, es', ep', hL, r'⟩) hok I.bare
/-- behind a call (or a comprehension's block): the slots of this frame may have changed too, the records at ch may have turned -/
theorem Inv.call {g' : Array GenState} {t' : Nat} {d' : Drawn} {ch : List Addr} (I : Inv X pins σ H s) (u : Un (frs X.stack) ch H H' s.heap h') (hok : HOk X.prog X.w H' h') (hg : AllBare g')
    (hch : ∀ b ∈ ch, (b ∈ X.ex ∨ X.s_0.heap.objs.size ≤ b) ∧ b ≠ X.env.locals ∧ (∀ x c, X.env.cells.lookup x = some c → c ≠ b) ∧ ∀ p ∈ X.pn ++ pins, p.1 ≠ b) :
    Inv X pins σ H' { s with heap := h', gens := g', drawn := d', toks := t' } := by
  obtain ⟨m, ⟨o, es, ep, ho, r⟩, _⟩ := id I.loc
  obtain ⟨sl, hL⟩ := u.any ho I.free fun z => (hch _ z).2.1 rfl
  exact I.step (ch := ch) hch (fun b o hL hb hc e n => u.keep b o e n (fun z => (List.mem_cons.mp (I.stkSub b z)).elim hL hb) hc) (fun b o _ _ hc e n => u.any e n hc) (fun b o hc e n => u.free b o e n hc) (fun b o hc e => u.there b o e hc) u.tups u.frzs u.tbls (fun m' hm => by
    obtain ⟨o', es', ep', ho', r'⟩ := hm
    rw [ho] at ho'; cases ho'
    exact ⟨_, es', ep', hL, r'⟩) hok hg
/-- an untracked record of ours (an iterator) has turned -/
theorem Inv.turned {t' : Nat} {it : Addr} (I : Inv X pins σ H s) (k : ∀ b o, b ≠ it → s.heap.get? b = some o → h'.get? b = some o) (hn : H it = none) (hL : it ≠ X.env.locals)
    (h1 : it ∈ X.ex ∨ X.s_0.heap.objs.size ≤ it) (h2 : ∀ x c, X.env.cells.lookup x = some c → c ≠ it) (h3 : ∀ p ∈ X.pn ++ pins, p.1 ≠ it) : Inv X pins σ H { s with heap := h', toks := t' } := by
  have nit : ∀ b u, H b = some u → b ≠ it := fun b u e z => by rw [z, hn] at e; cases e
  refine I.step (g' := s.gens) (d' := s.drawn) (ch := [it]) (fun b hb => ?_) (fun b o _ _ hc e _ => k b o (fun z => hc (by simp [z])) e) (fun b o _ _ hc e _ => ⟨o.slots, k b o (fun z => hc (by simp [z])) e⟩) (fun _ _ _ _ n => n)
    (fun b o hc e => ⟨o, k b o (fun z => hc (by simp [z])) e⟩) (fun _ _ e => e) (fun _ _ _ e => e) (fun b ps e => ⟨#[], by rw [e]; simp⟩) (fun m hm => ?_) (fun b u e => ?_) I.bare
  · have e : b = it := by simpa using hb
    subst e
    exact ⟨h1, hL, h2, h3⟩
  · obtain ⟨o, es, ep, ho, r⟩ := hm
    exact ⟨o, es, ep, k _ o (Ne.symm hL) ho, r⟩
  · refine (I.hok b u e).stay (fun c v hc q => k c v ?_ q) (fun _ q => q) fun _ _ q => q
    rcases hc with z | z
    · rw [z]; exact nit b u e
    · exact nit c _ z
theorem Inv.tok (I : Inv X pins σ H s) (t : Nat) : Inv X pins σ H { s with toks := t } := I.un (h' := s.heap) (t' := t) Un.refl I.hok
/-- all objects kept -/
theorem Inv.kept {t' : Nat} (I : Inv X pins σ H s) (k : ∀ b u, s.heap.get? b = some u → h'.get? b = some u) : Inv X pins σ H { s with heap := h', toks := t' } := I.un (Un.kept k) (I.hok.kept k)
/-- a new object laid and tracked -/
theorem Inv.laid {a : Addr} {o : HO} {t' : Nat} (I : Inv X pins σ H s) (k : ∀ b u, s.heap.get? b = some u → h'.get? b = some u) (hp : s.heap.objs.size ≤ a) (new : ObjOk X.prog X.w (upd H a o) h' a o) :
    Inv X pins σ (upd H a o) { s with heap := h', toks := t' } := I.un (Un.laid k hp (I.hok.fresh hp)) (I.hok.laid k hp new)
/-- an object written -/
theorem Inv.write {x e : Addr} {o : HO} {t' : Nat} (I : Inv X pins σ H s) (mu : Mut (H x)) (he : e = x ∨ H e = some (.own x)) (k : ∀ b u, b ≠ e → s.heap.get? b = some u → h'.get? b = some u) (heo : ∃ u, h'.get? e = some u)
    (new : ObjOk X.prog X.w (upd H x o) h' x o) : Inv X pins σ (upd H x o) { s with heap := h', toks := t' } := I.un (Un.write mu he k heo) (I.hok.write mu he k heo new)
/-- forgetting slots, pins -/
theorem Inv.weak {σ' : List (Option V)} (I : Inv X pins σ H s) (hl : σ'.length = σ.length) (w : ∀ (i : Nat) v, σ'[i]? = some (some v) → σ[i]? = some (some v)) : Inv X pins σ' H s :=
  ⟨I.ok, I.os, I.bare, I.base, let ⟨m, hn, hl'⟩ := I.loc; ⟨m, hn, fun i x v e1 e2 e3 => hl' i x v e1 (w i v e2) e3⟩, I.cell, I.free, I.freeC, I.pin, I.hok, hl.trans I.len⟩
theorem Inv.pins_of {pins' : List (Addr × Obj)} (I : Inv X pins σ H s) (h : ∀ p ∈ pins', s.heap.get? p.1 = some p.2 ∧ H p.1 = none ∧ p.1 ≠ X.env.locals ∧ p.1 ∉ X.fs ∧ ∀ v, p.2.data ≠ .cell v) : Inv X pins' σ H s :=
  ⟨I.ok, I.os, I.bare, I.base, I.loc, I.cell, I.free, I.freeC, fun p hp => (List.mem_append.mp hp).elim (fun z => I.pin p (List.mem_append_left _ z)) (h p), I.hok, I.len⟩
theorem nodup_ix {N : List Str} (hN : N.Nodup) {i j : Nat} {x : Str} (a : N[i]? = some x) (b : N[j]? = some x) : i = j := by
  obtain ⟨h1, e1⟩ := List.getElem?_eq_some_iff.mp a
  obtain ⟨h2, e2⟩ := List.getElem?_eq_some_iff.mp b
  exact (List.getElem_inj hN).mp (e1.trans e2.symm)
/-- a name is stored; what changed -/
theorem store_ok2 {M : Model} {A : Around} {E : Value → Shared → Prop} {i : Nat} {x : Str} {v : V} {u : Value} {Q : Unit → Shared → Prop} (I : Inv X pins σ H s) (hN : X.N.Nodup) (hi : X.N[i]? = some x) (hx : Loc X.env.scope x) (r : RelV v u)
    (h : ∀ s', Inv X pins (σ.set i (some v)) H s' → (∃ a, Heap.SameBut a s.heap s'.heap ∧ (a = X.env.locals ∨ X.env.cells.lookup x = some a)) → Q () s') (hf : X.fn x = true ∨ X.env.scope.names.lookup x = some .local := by first | exact .inl rfl | exact .inr rfl | assumption) : wpAny M A (storeName X.env x u) Q E s := by
  obtain ⟨m, hn, hl⟩ := id I.loc
  have hcls : (X.env.scope.kind == .class || (X.env.scope.kind == .module && X.env.locals != X.env.globals)) = false := by rw [I.ok.kind]; rfl
  have hiσ : i < σ.length := by rw [I.len]; exact (List.getElem?_eq_some_iff.mp hi).1
  have cne := I.cne
  have tracked : ∀ {a : Addr} {h' : Heap}, (∃ o, s.heap.get? a = some o ∧ H a = none) → Heap.SameBut a s.heap h' → HOk X.prog X.w H h' := fun {a h'} ha hs b ob e => by
    obtain ⟨_, _, hfree⟩ := ha
    refine (I.hok b ob e).stay (fun c w' hc q => (hs.2 c ?_).trans q) (fun _ q => q) fun _ _ q => q
    rintro rfl
    rcases hc with rfl | hc
    · rw [hfree] at e; cases e
    · rw [hfree] at hc; cases hc
  rcases hx with hk | hk
  · refine wpAny_storeName_local hk hn (fun h' hn' hs => ?_) hcls
    obtain ⟨oL, _, _, hoL, _⟩ := id hn
    refine h _ ⟨I.ok, I.os, I.bare, ⟨fun b o e n hb hx => ?_, fun b o e n hb hx => ?_, I.base.free, fun b o e hx => ?_, I.base.tups, I.base.frzs, I.base.tbls⟩, ⟨_, hn', fun j y v' e1 e2 e3 => ?_⟩, fun y c e => ?_, I.free, I.freeC, fun p hp => ?_, tracked ⟨oL, hoL, I.free⟩ hs, by simpa using I.len⟩ ⟨_, hs, .inl rfl⟩
    · exact (hs.2 b (Nat.ne_of_lt (Nat.lt_of_lt_of_le (Heap.lt_size e) I.ok.above))).trans (I.base.keep b o e n hb hx)
    · obtain ⟨sl, e1⟩ := I.base.slot b o e n hb hx
      exact ⟨sl, (hs.2 b (Nat.ne_of_lt (Nat.lt_of_lt_of_le (Heap.lt_size e) I.ok.above))).trans e1⟩
    · obtain ⟨o', e1⟩ := I.base.there b o e hx
      exact ⟨o', (hs.2 b (Nat.ne_of_lt (Nat.lt_of_lt_of_le (Heap.lt_size e) I.ok.above))).trans e1⟩
    · by_cases hj : j = i
      · subst hj
        rw [hi] at e1; cases e1
        rw [List.getElem?_set_self hiσ] at e2
        cases e2
        exact ⟨u, r, .inl ⟨hk, by simp⟩⟩
      · rw [List.getElem?_set_ne (Ne.symm hj)] at e2
        obtain ⟨u', r', q⟩ := hl j y v' e1 e2 e3
        refine ⟨u', r', ?_⟩
        rcases q with ⟨k, e⟩ | ⟨k, c, e, z⟩
        · refine .inl ⟨k, ?_⟩
          have : y ≠ x := fun e => hj (nodup_ix hN e1 (e ▸ hi))
          simp [this, e]
        · exact .inr ⟨k, c, e, z.sameBut hs (cne y c e)⟩
    · obtain ⟨w', z⟩ := I.cell y c e
      exact ⟨w', z.sameBut hs (cne y c e)⟩
    · obtain ⟨e, n, ne, nf, d⟩ := I.pin p hp
      exact ⟨(hs.2 p.1 ne).trans e, n, ne, nf, d⟩
  · have hfn : X.fn x = true := by
      rcases hf with z | z
      · exact z
      · rw [z] at hk; cases hk
    obtain ⟨c, hc⟩ := I.ok.has x (.inl hk)
    obtain ⟨w', z⟩ := I.cell x c hc
    refine wpAny_storeName_cell I.ok.kind hk hc z (fun h' hc' hs => ?_)
    obtain ⟨oc, hoc, hocd⟩ := id z
    refine h { s with heap := h' } ⟨I.ok, I.os, I.bare, ⟨fun b o e n hb hx => ?_, fun b o e n hb hx => ?_, I.base.free, fun b o e hx => ?_, I.base.tups, I.base.frzs, I.base.tbls⟩, ⟨m, hn.sameBut hs (Ne.symm (cne x c hc)), fun j y v' e1 e2 e3 => ?_⟩, fun y c' e => ?_, I.free, I.freeC, fun p hp => ?_, tracked ⟨oc, hoc, I.freeC x c hc⟩ hs, by simpa using I.len⟩ ⟨c, hs, .inr hc⟩
    · exact (hs.2 b (Nat.ne_of_lt (Nat.lt_of_lt_of_le (Heap.lt_size e) (I.ok.cab x c hfn hc)))).trans (I.base.keep b o e n hb hx)
    · obtain ⟨sl, e1⟩ := I.base.slot b o e n hb hx
      exact ⟨sl, (hs.2 b (Nat.ne_of_lt (Nat.lt_of_lt_of_le (Heap.lt_size e) (I.ok.cab x c hfn hc)))).trans e1⟩
    · obtain ⟨o', e1⟩ := I.base.there b o e hx
      exact ⟨o', (hs.2 b (Nat.ne_of_lt (Nat.lt_of_lt_of_le (Heap.lt_size e) (I.ok.cab x c hfn hc)))).trans e1⟩
    · by_cases hj : j = i
      · subst hj
        rw [hi] at e1; cases e1
        rw [List.getElem?_set_self hiσ] at e2
        cases e2
        exact ⟨u, r, .inr ⟨.inl hk, c, hc, hc'⟩⟩
      · rw [List.getElem?_set_ne (Ne.symm hj)] at e2
        obtain ⟨u', r', q⟩ := hl j y v' e1 e2 e3
        refine ⟨u', r', ?_⟩
        rcases q with q | ⟨k, c', e, z'⟩
        · exact .inl q
        · refine .inr ⟨k, c', e, z'.sameBut hs ?_⟩
          rintro rfl
          exact hj (nodup_ix hN e1 (I.ok.inj _ _ _ e hc ▸ hi))
    · by_cases hcc : c' = c
      · subst hcc; exact ⟨_, hc'⟩
      · obtain ⟨w2, z2⟩ := I.cell y c' e
        exact ⟨w2, z2.sameBut hs hcc⟩
    · obtain ⟨e, n, ne, nf, d⟩ := I.pin p hp
      refine ⟨(hs.2 p.1 ?_).trans e, n, ne, nf, d⟩
      intro q
      rw [q, hoc] at e
      have q' : oc = p.2 := Option.some.inj e
      exact d w' (by rw [← q']; exact hocd)
theorem store_ok {M : Model} {A : Around} {E : Value → Shared → Prop} {i : Nat} {x : Str} {v : V} {u : Value} {Q : Unit → Shared → Prop} (I : Inv X pins σ H s) (hN : X.N.Nodup) (hi : X.N[i]? = some x) (hx : Loc X.env.scope x) (r : RelV v u)
    (h : ∀ s', Inv X pins (σ.set i (some v)) H s' → Q () s') (hf : X.fn x = true ∨ X.env.scope.names.lookup x = some .local := by first | exact .inl rfl | exact .inr rfl | assumption) : wpAny M A (storeName X.env x u) Q E s :=
  store_ok2 I hN hi hx r (fun s' I' _ => h s' I') hf
/-- behind a call or a block, the state as it is -/
theorem Inv.call' {s' : Shared} {ch : List Addr} (I : Inv X pins σ H s) (ho : s'.os = s.os) (u : Un (frs X.stack) ch H H' s.heap s'.heap) (hok : HOk X.prog X.w H' s'.heap) (hg : AllBare s'.gens)
    (hch : ∀ b ∈ ch, (b ∈ X.ex ∨ X.s_0.heap.objs.size ≤ b) ∧ b ≠ X.env.locals ∧ (∀ x c, X.env.cells.lookup x = some c → c ≠ b) ∧ ∀ p ∈ X.pn ++ pins, p.1 ≠ b) : Inv X pins σ H' s' := by
  obtain ⟨h', g', d', t', o'⟩ := s'
  have e : o' = s.os := ho
  subst e
  exact I.call (g' := g') (t' := t') (d' := d') u hok hg hch
end
/-! ### the judgements -/
/-- an exception: its class, its own dict's address (where it has one), the abstract heap behind it -/
abbrev XK := Value → Option Addr → Hp → Prop
abbrev St := List (Option V)
abbrev VK := V → Hp → Prop
/-- an expression's reading; a test's; an argument list's -/
abbrev TE := St → Hp → VK → Prop
abbrev TT := St → Hp → (Bool → Hp → Prop) → Prop
abbrev TA := St → Hp → (List V → Hp → Prop) → Prop
/-- what is wanted behind a statement -/
structure Ends where
  nx : St → Hp → Prop
  rt : VK
  bk : St → Hp → Prop := fun _ _ => False
  ct : St → Hp → Prop := fun _ _ => False
abbrev TS := Ends → St → Hp → Prop
def EP (X : Cx) (pins : List (Addr × Obj)) (σ : St) (Q : VK) (u : Value) (s' : Shared) : Prop := ∃ v H', Inv X pins σ H' s' ∧ RelV v u ∧ Q v H'
def TP (X : Cx) (pins : List (Addr × Obj)) (σ : St) (Q : Bool → Hp → Prop) (b : Bool) (s' : Shared) : Prop := ∃ H', Inv X pins σ H' s' ∧ Q b H'
def AP (X : Cx) (pins : List (Addr × Obj)) (σ : St) (Q : List V → Hp → Prop) (us : List Value) (s' : Shared) : Prop := ∃ vs H', Inv X pins σ H' s' ∧ Vals vs us ∧ Q vs H'
def SP (X : Cx) (pins : List (Addr × Obj)) (D : Ends) (f : Flow) (s' : Shared) : Prop :=
  match f with
  | .next => ∃ σ' H', Inv X pins σ' H' s' ∧ D.nx σ' H'
  | .brk => ∃ σ' H', Inv X pins σ' H' s' ∧ D.bk σ' H'
  | .cont => ∃ σ' H', Inv X pins σ' H' s' ∧ D.ct σ' H'
  | .ret u => ∃ v σ' H', Inv X pins σ' H' s' ∧ RelV v u ∧ D.rt v H'
def PE (X : Cx) (e : Expr) (t : TE) : Prop :=
  ∀ (pins : List (Addr × Obj)) (s : Shared) (σ : St) (H : Hp) (Q : VK), Inv X pins σ H s → t σ H Q → wpAny (model X.prog X.w) X.A (eval e X.env) (EP X pins σ Q) X.xe s
def PT (X : Cx) (e : Expr) (t : TT) : Prop :=
  ∀ (pins : List (Addr × Obj)) (s : Shared) (σ : St) (H : Hp) (Q : Bool → Hp → Prop), Inv X pins σ H s → t σ H Q → wpAny (model X.prog X.w) X.A (isTrue e X.env (eval e X.env)) (TP X pins σ Q) X.xe s
/-- a test whatever its 'whole' is (and, or) -/
def PW (X : Cx) (e : Expr) (t : TT) : Prop :=
  ∀ (whole : Sem Value) (pins : List (Addr × Obj)) (s : Shared) (σ : St) (H : Hp) (Q : Bool → Hp → Prop), Inv X pins σ H s → t σ H Q → wpAny (model X.prog X.w) X.A (isTrue e X.env whole) (TP X pins σ Q) X.xe s
theorem PW.pt {X : Cx} {e : Expr} {t : TT} (h : PW X e t) : PT X e t := h _
/-- an argument list (no star), from the left -/
def PA (X : Cx) (es : List Expr) (t : TA) : Prop :=
  ∀ (pos : Pos) (pins : List (Addr × Obj)) (s : Shared) (σ : St) (H : Hp) (Q : List V → Hp → Prop), Inv X pins σ H s → t σ H Q → wpAny (model X.prog X.w) X.A (spliced (backTo pos (starEach es X.env))) (AP X pins σ Q) X.xe s
def PS (X : Cx) (st : Stmt) (t : TS) : Prop :=
  ∀ (pins : List (Addr × Obj)) (s : Shared) (σ : St) (H : Hp) (D : Ends), Inv X pins σ H s → t D σ H → wpAny (model X.prog X.w) X.A (exec st X.env) (SP X pins D) X.xe s
def PSs (X : Cx) (st : List Stmt) (t : TS) : Prop :=
  ∀ (pins : List (Addr × Obj)) (s : Shared) (σ : St) (H : Hp) (D : Ends), Inv X pins σ H s → t D σ H → wpAny (model X.prog X.w) X.A (execs st X.env) (SP X pins D) X.xe s
/-- weaken the end -/
theorem thn {α : Type} {t : Sem α} {Q Q' : α → Shared → Prop} {M : Model} {A : Around} {E : Value → Shared → Prop} {s : Shared} (h : wpAny M A t Q E s) (hQ : ∀ a s, Q a s → Q' a s) : wpAny M A t Q' E s := wpAny_mono h hQ fun _ _ x => x
end L2
namespace L2
open PySem PySem.Spec PyProof.Rows
section
variable {X : Cx}
/-! ### names and constants -/
def tVar (i : Nat) : TE := fun σ H Q => ∃ v, σ[i]? = some (some v) ∧ Q v H
def tC (v : V) : TE := fun _ H Q => Q v H
theorem pe_var {i : Nat} {x : Str} {pos : Pos} (hN : X.N[i]? = some x) (hv : Vis X.env.scope x) (hd : (x == ("__debug__" : Str)) = false := by decide) (hcd : (x == ("__classdict__" : Str)) = false := by decide) : PE X (.Name x pos) (tVar i) := by
  intro pins s σ H Q I h
  obtain ⟨v, e, h⟩ := h
  obtain ⟨m, hn, hl⟩ := I.loc
  obtain ⟨u, r, l⟩ := hl i x v hN e hv
  have fin : EP X pins σ Q u s := ⟨v, H, I, r, h⟩
  rcases l with ⟨hk, hm⟩ | ⟨hk, c, hc, hcell⟩
  · exact wpAny_Name (wpAny_loadName_local I.ok.kind hk hn hm fin) hd
  · rcases hk with hk | hk
    · exact wpAny_Name (wpAny_loadName_cell I.ok.kind hk hc hcell fin) hd
    · exact wpAny_Name (wpAny_loadName_free I.ok.kind hk hc hcell fin hcd) hd
theorem pe_int {i j pos} : PE X (.Constant (.int i) j pos) (tC (.int i)) := fun _ _ _ H _ I h => wpAny_Constant_int ⟨.int i, H, I.tok _, ⟨_, rfl⟩, h⟩
/-- a global name of the def -/
def Gl (X : Cx) (x : Str) : Prop := X.env.kindOf x = some .globalImplicit
theorem ld_glob {E : Value → Shared → Prop} {pins : List (Addr × Obj)} {s : Shared} {σ : St} {H : Hp} {x : Str} {u : Value} {pos : Pos} {Q : Value → Shared → Prop} (I : Inv X pins σ H s) (hg : Gl X x) (hm : X.mg x = some u) (h : Q u s)
    (hd : (x == ("__debug__" : Str)) = false := by decide) : wpAny (model X.prog X.w) X.A (eval (.Name x pos) X.env) Q E s :=
  Calls.Name_function_global I.ok.kind hg (Calls.loadGlobal_global (by rw [I.ok.glob]; exact I.mod.glob.keeps I.bk) hm h) hd
theorem ld_blt {E : Value → Shared → Prop} {pins : List (Addr × Obj)} {s : Shared} {σ : St} {H : Hp} {x : Str} {u : Value} {pos : Pos} {Q : Value → Shared → Prop} (I : Inv X pins σ H s) (hg : Gl X x) (hm : X.mg x = none) (hv : bootBuiltins x = some u) (h : Q u s)
    (hn : x ≠ "__name__" := by decide) (hd : (x == ("__debug__" : Str)) = false := by decide) : wpAny (model X.prog X.w) X.A (eval (.Name x pos) X.env) Q E s := by
  obtain ⟨mb, h1, h2⟩ := I.mod.blt
  exact Calls.Name_function_global I.ok.kind hg (Calls.loadGlobal_builtin (by rw [I.ok.glob]; exact I.mod.glob.keeps I.bk) hm (by rw [I.ok.blt]; exact h1.keeps I.bk) ((h2 x hn).trans hv) h) hd
/-- a module's constant, a class, a function, as a value -/
theorem pe_glob {x : Str} {v : V} {u : Value} {pos : Pos} (hg : Gl X x) (hm : X.mg x = some u) (r : RelV v u) (hd : (x == ("__debug__" : Str)) = false := by decide) : PE X (.Name x pos) (tC v) :=
  fun _ _ _ H _ I h => ld_glob I hg hm ⟨v, H, I, r, h⟩ hd
/-! ### arithmetic -/
variable {a b : Expr} {ta tb : TE} {pos : Pos}
/-! ### comparisons -/
def PC (X : Cx) (op : CmpOp) (a b : Expr) (t : TE) : Prop :=
  ∀ (pins : List (Addr × Obj)) (s : Shared) (σ : St) (H : Hp) (Q : VK), Inv X pins σ H s → t σ H Q →
    wpAny (model X.prog X.w) X.A (eval a X.env) (fun v s₁ => wpAny (model X.prog X.w) X.A (eval b X.env) (fun u s₂ => wpAny (model X.prog X.w) X.A (compareOp op v u) (EP X pins σ Q) X.xe s₂) X.xe s₁) X.xe s
theorem nobehind (b : Expr) {op : CmpOp} (h : op ≠ .In) (h2 : op ≠ .NotIn) : behindInMarks op b = false := by
  have e1 : (op == CmpOp.In) = false := by cases op <;> first | rfl | exact absurd rfl h
  have e2 : (op == CmpOp.NotIn) = false := by cases op <;> first | rfl | exact absurd rfl h2
  cases b <;> simp [behindInMarks, e1, e2]
/-- a comparison as a value, as a test -/
def tB (t : TE) : TT := fun σ H Q => t σ H fun x H1 => ∃ c, x = .bl c ∧ Q c H1
theorem pt_cmp {op : CmpOp} {t : TE} (h : PC X op a b t) (h1 : behindInMarks op b = false := by first | exact nobehind _ (by decide) (by decide) | rfl) : PT X (.Compare a [op] [b] pos) (tB t) := by
  intro pins s σ H Q I hw
  refine wpAny_isTrue_Compare1 (thn (h pins s σ H _ I hw) fun v s1 h1 => thn h1 fun u s2 h2 => thn h2 fun c s3 ⟨x, H1, I1, r1, q1⟩ => ?_) h1
  obtain ⟨d, rfl, q⟩ := q1
  cases r1
  exact wpAny_truthy_bool ⟨H1, I1, q⟩
/-- an expression whose value is a bool, as a test -/
theorem pt_val {e : Expr} {t : TE} (h : PE X e t) (he : ∀ whole, isTrue e X.env whole = (do let v ← whole; standAt e.pos; holding [v] (truthy v)) := by intro _; rfl) : PT X e (tB t) := by
  intro pins s σ H Q I hw
  refine isTrue_plain (thn (h pins s σ H _ I hw) fun v s1 ⟨x, H1, I1, r1, q1⟩ => ?_) (he _)
  obtain ⟨d, rfl, q⟩ := q1
  cases r1
  exact wpAny_truthy_bool ⟨H1, I1, q⟩
/-! ### and, or, not -/
variable {tA tB' : TT} {rest : List Expr}
def tAnd (t u : TT) : TT := fun σ H Q => t σ H fun c H1 => if c = true then u σ H1 Q else Q false H1
def tNot (t : TT) : TT := fun σ H Q => t σ H fun c H1 => Q (!c) H1
theorem pw_and1 (ha : PT X a tA) : PW X (.BoolOp .And [a] pos) tA := by
  intro wh pins s σ H Q I h
  refine isTrue_and (thn (ha pins s σ H Q I h) fun c s1 e => ?_)
  cases c with
  | true => exact isTrue_and_nil e
  | false => exact e
theorem pw_and (ha : PT X a tA) (hb : PW X (.BoolOp .And (b :: rest) pos) tB') : PW X (.BoolOp .And (a :: b :: rest) pos) (tAnd tA tB') := by
  intro wh pins s σ H Q I h
  refine isTrue_and (thn (ha pins s σ H _ I h) fun c s1 ⟨H1, I1, q1⟩ => ?_)
  cases c with
  | true => exact hb wh pins s1 σ H1 Q I1 q1
  | false => exact ⟨H1, I1, q1⟩
theorem pt_not (ha : PT X a tA) : PT X (.UnaryOp .Not a pos) (tNot tA) := by
  intro pins s σ H Q I h
  exact isTrue_not (ha pins s σ H (fun c H1 => Q (!c) H1) I h)
/-- .. as values (bools) -/
def tAndV (ta tb : TE) : TE := fun σ H Q => ta σ H fun x H1 => ∃ c, x = .bl c ∧ if c = true then tb σ H1 Q else Q (.bl false) H1
def tOrV (ta tb : TE) : TE := fun σ H Q => ta σ H fun x H1 => ∃ c, x = .bl c ∧ if c = true then Q (.bl true) H1 else tb σ H1 Q
theorem pe_one {op} {t : TE} (h : PE X a t) : PE X (.BoolOp op [a] pos) t := fun pins s σ H Q I hw => BoolOp_one (h pins s σ H Q I hw)
theorem pe_and (ha : PE X a ta) (hb : PE X (.BoolOp .And (b :: rest) pos) tb) : PE X (.BoolOp .And (a :: b :: rest) pos) (tAndV ta tb) := by
  intro pins s σ H Q I h
  refine BoolOp_and (thn (ha pins s σ H _ I h) fun v s1 ⟨x, H1, I1, r1, q1⟩ => ?_)
  obtain ⟨c, rfl, q1⟩ := q1
  cases r1
  refine wpAny_truthy_bool ?_
  cases c with
  | true => exact hb pins s1 σ H1 Q I1 q1
  | false => exact ⟨.bl false, H1, I1, rfl, q1⟩
theorem pe_or (ha : PE X a ta) (hb : PE X (.BoolOp .Or (b :: rest) pos) tb) : PE X (.BoolOp .Or (a :: b :: rest) pos) (tOrV ta tb) := by
  intro pins s σ H Q I h
  refine BoolOp_or (thn (ha pins s σ H _ I h) fun v s1 ⟨x, H1, I1, r1, q1⟩ => ?_)
  obtain ⟨c, rfl, q1⟩ := q1
  cases r1
  refine wpAny_truthy_bool ?_
  cases c with
  | false => exact hb pins s1 σ H1 Q I1 q1
  | true => exact ⟨.bl true, H1, I1, rfl, q1⟩
end
end L2
namespace L2
open PySem PySem.Spec PyProof.Rows
/-! ### a list, a tuple that is read: tracked, frozen, or an object of the module -/
def SqL (K : PySem.W.Frag) (H : Hp) (a : Addr) (xs : List V) : Prop :=
  Rd H a (.lst xs) ∨
    ∃ (o : Obj) (its : Array Value) (n : Nat), K.lookup a = some o ∧ o.cls = .type "list" ∧ o.dict = none ∧ o.data = .seq its n ∧ its.size ≤ sizeLine ∧ Vals xs its.toList
def SqT (K : PySem.W.Frag) (H : Hp) (a : Addr) (xs : List V) : Prop :=
  Rd H a (.tup xs) ∨
    ∃ (o : Obj) (its : Array Value) (n : Nat), K.lookup a = some o ∧ o.cls = .type "tuple" ∧ o.data = .seq its n ∧ its.size ≤ sizeLine ∧ Vals xs its.toList
def absV : Value → Option V
  | .none => some .non
  | .bool b => some (.bl b)
  | .int i _ => some (.int i)
  | .str x _ => some (.str x)
  | .bytes b _ => some (.byt b)
  | .float b _ => some (.flt b)
  | .ref a => some (.ref a)
  | .type n => some (.ty n)
  | _ => none
theorem RelV.abs {x : V} {u : Value} (r : RelV x u) : absV u = some x := by
  cases x with
  | non => cases r; rfl
  | bl _ => cases r; rfl
  | int _ => obtain ⟨t, rfl⟩ := r; rfl
  | str _ => obtain ⟨t, rfl⟩ := r; rfl
  | byt _ => obtain ⟨t, rfl⟩ := r; rfl
  | flt _ => obtain ⟨t, rfl⟩ := r; rfl
  | ref _ => cases r; rfl
  | ty _ => cases r; rfl
theorem RelV.inj {x y : V} {u : Value} (r : RelV x u) (q : RelV y u) : x = y := Option.some.inj (r.abs.symm.trans q.abs)
theorem Vals.inj : ∀ {xs ys : List V} {us : List Value}, Vals xs us → Vals ys us → xs = ys
  | _, _, _, .nil, .nil => rfl
  | _, _, _, .cons r t, .cons r' t' => by rw [r.inj r', Vals.inj t t']
section
variable {X : Cx} {pins : List (Addr × Obj)} {σ : St} {H : Hp} {s : Shared} {a : Addr} {xs ys : List V}
theorem SqL.of {K : PySem.W.Frag} (h : H a = some (.lst xs)) : SqL K H a xs := .inl (.inl h)
theorem SqT.of {K : PySem.W.Frag} (h : H a = some (.tup xs)) : SqT K H a xs := .inl (.inl h)
theorem Inv.list (I : Inv X pins σ H s) (h : SqL X.K H a xs) : ∃ its : List Value, Vals xs its ∧ PlainL s.heap a its.toArray ∧ xs.length ≤ sizeLine := by
  rcases h with h | ⟨o, its, n, hk, hc, hd, hs, hz, r⟩
  · obtain ⟨z, its, n, r, e⟩ := h.ok I.hok
    exact ⟨its, r, ⟨_, n, e, rfl, rfl, rfl⟩, z⟩
  · refine ⟨its.toList, r, ⟨o, n, I.kIn a o hk, hc, hd, by simpa using hs⟩, ?_⟩
    have e := r.length
    simp only [Array.length_toList] at e
    omega
theorem Inv.tuple (I : Inv X pins σ H s) (h : SqT X.K H a xs) : ∃ its : List Value, Vals xs its ∧ IsTup s.heap a its.toArray ∧ xs.length ≤ sizeLine := by
  rcases h with h | ⟨o, its, n, hk, hc, hs, hz, r⟩
  · obtain ⟨z, its, r, p⟩ := h.ok I.hok
    exact ⟨its, r, p, z⟩
  · refine ⟨its.toList, r, ⟨o, I.kIn a o hk, hc, n, by simpa using hs⟩, ?_⟩
    have e := r.length
    simp only [Array.length_toList] at e
    omega
theorem Inv.list_inj (I : Inv X pins σ H s) (h : SqL X.K H a xs) (h' : SqL X.K H a ys) : xs = ys := by
  obtain ⟨its, r, ⟨o, n, e, _, _, d⟩, _⟩ := I.list h
  obtain ⟨its', r', ⟨o', n', e', _, _, d'⟩, _⟩ := I.list h'
  rw [e] at e'; cases e'
  rw [d] at d'
  injection d' with d1 _
  have : its = its' := by simpa using congrArg Array.toList d1
  subst this
  exact r.inj r'
theorem Inv.tuple_inj (I : Inv X pins σ H s) (h : SqT X.K H a xs) (h' : SqT X.K H a ys) : xs = ys := by
  obtain ⟨its, r, ⟨o, e, _, n, d⟩, _⟩ := I.tuple h
  obtain ⟨its', r', ⟨o', e', _, n', d'⟩, _⟩ := I.tuple h'
  rw [e] at e'; cases e'
  rw [d] at d'
  injection d' with d1 _
  have : its = its' := by simpa using congrArg Array.toList d1
  subst this
  exact r.inj r'
end
/-! ### another wish about exceptions -/
abbrev Cx.wish (X : Cx) (E : Value → Shared → Prop) : Cx := { X with xe := E }
/-- no exception leaves -/
abbrev Cx.nox (X : Cx) : Cx := X.wish fun _ _ => False
theorem Cx.Ok.wish {X : Cx} (ok : X.Ok) (E : Value → Shared → Prop) : (X.wish E).Ok :=
  ⟨ok.mod, ok.kind, ok.glob, ok.blt, ok.above, ok.inj, ok.has, ok.cab, ok.hd, ok.frames, ok.stk, ok.exf, ok.bs, ok.bsz, ok.noex, ok.exfs, ok.funs, ok.frf⟩
theorem Cx.Ok.unwish {X : Cx} {E : Value → Shared → Prop} (ok : (X.wish E).Ok) : X.Ok :=
  ⟨ok.mod, ok.kind, ok.glob, ok.blt, ok.above, ok.inj, ok.has, ok.cab, ok.hd, ok.frames, ok.stk, ok.exf, ok.bs, ok.bsz, ok.noex, ok.exfs, ok.funs, ok.frf⟩
section
variable {X : Cx} {pins : List (Addr × Obj)} {σ : St} {H : Hp} {s : Shared} {E : Value → Shared → Prop}
theorem Inv.wish (I : Inv X pins σ H s) (E : Value → Shared → Prop) : Inv (X.wish E) pins σ H s := ⟨I.ok.wish E, I.os, I.bare, I.base, I.loc, I.cell, I.free, I.freeC, I.pin, I.hok, I.len⟩
theorem Inv.unwish (I : Inv (X.wish E) pins σ H s) : Inv X pins σ H s := ⟨I.ok.unwish, I.os, I.bare, I.base, I.loc, I.cell, I.free, I.freeC, I.pin, I.hok, I.len⟩
theorem SP.unwish {D : Ends} {f : Flow} {s' : Shared} (h : SP (X.wish E) pins D f s') : SP X pins D f s' := by
  cases f with
  | next => obtain ⟨σ', H', I, q⟩ := h; exact ⟨σ', H', I.unwish, q⟩
  | brk => obtain ⟨σ', H', I, q⟩ := h; exact ⟨σ', H', I.unwish, q⟩
  | cont => obtain ⟨σ', H', I, q⟩ := h; exact ⟨σ', H', I.unwish, q⟩
  | ret u => obtain ⟨v, σ', H', I, r, q⟩ := h; exact ⟨v, σ', H', I.unwish, r, q⟩
theorem PE.nox {e : Expr} {t : TE} (h : PE X.nox e t) : PE X e t := fun pins s σ H Q I hw =>
  wpAny_mono (h pins s σ H Q (I.wish _) hw) (fun _ _ ⟨v, H', I', r, q⟩ => ⟨v, H', I'.unwish, r, q⟩) fun _ _ z => False.elim z
theorem PT.nox {e : Expr} {t : TT} (h : PT X.nox e t) : PT X e t := fun pins s σ H Q I hw =>
  wpAny_mono (h pins s σ H Q (I.wish _) hw) (fun _ _ ⟨H', I', q⟩ => ⟨H', I'.unwish, q⟩) fun _ _ z => False.elim z
theorem PSs.nox {st : List Stmt} {t : TS} (h : PSs X.nox st t) : PSs X st t := fun pins s σ H D I hw =>
  wpAny_mono (h pins s σ H D (I.wish _) hw) (fun _ _ q => q.unwish) fun _ _ z => False.elim z
end
/-! ### blocks and small statements -/
section
variable {X : Cx} {st : Stmt} {rest : List Stmt} {t u : TS} {e : Expr} {te : TE} {pos : Pos}
def tNext : TS := fun D σ H => D.nx σ H
def tSeq (t u : TS) : TS := fun D σ H => t { D with nx := u D } σ H
theorem pss_nil : PSs X [] tNext := fun _ _ σ H _ I h => wpAny_execs_nil ⟨σ, H, I, h⟩
theorem pss_cons (h1 : PS X st t) (h2 : PSs X rest u) : PSs X (st :: rest) (tSeq t u) := by
  intro pins s σ H D I h
  refine wpAny_execs_cons (thn (h1 pins s σ H { D with nx := u D } I h) fun f s1 q => ?_)
  cases f with
  | next =>
    obtain ⟨σ', H', I', q⟩ := q
    exact h2 pins s1 σ' H' D I' q
  | ret v => exact q
  | brk => exact q
  | cont => exact q
theorem pss_one (h1 : PS X st t) : PSs X [st] t := by
  intro pins s σ H D I h
  refine wpAny_execs_cons (thn (h1 pins s σ H D I h) fun f s1 q => ?_)
  cases f with
  | next => exact wpAny_execs_nil q
  | ret v => exact q
  | brk => exact q
  | cont => exact q
/-- in a def's body nothing is shown -/
theorem Inv.quiet {pins : List (Addr × Obj)} {σ : St} {H : Hp} {s : Shared} (I : Inv X pins σ H s) : interactive X.env = false := by simp [interactive, I.ok.kind]
/-- an expression whose value is dropped -/
def tDrop (te : TE) : TS := fun D σ H => te σ H fun _ H1 => D.nx σ H1
theorem ps_expr (he : PE X e te) (hs : swapsWith e none pos.line X.env = pure false := by rfl) : PS X (.Expr e pos) (tDrop te) := by
  intro pins s σ H D I h
  exact wpAny_Expr_any (thn (he pins s σ H _ I h) fun v s1 ⟨x, H1, I1, r1, q1⟩ => ⟨σ, H1, I1, q1⟩) I.quiet hs
def tRet (te : TE) : TS := fun D σ H => te σ H D.rt
theorem ps_ret (he : PE X e te) : PS X (.Return (some e) pos) (tRet te) := by
  intro pins s σ H D I h
  exact wpAny_Return_some (thn (he pins s σ H _ I h) fun v s1 ⟨x, H1, I1, r1, q1⟩ => ⟨x, σ, H1, I1, r1, q1⟩)
def tIfS (c : TT) (t u : TS) : TS := fun D σ H => c σ H fun b H1 => if b = true then t D σ H1 else u D σ H1
theorem ps_if {c : Expr} {a b : List Stmt} {tc : TT} (hc : PT X c tc) (ha : PSs X a t) (hb : PSs X b u) : PS X (.If c a b pos) (tIfS tc t u) := by
  intro pins s σ H D I h
  refine wpAny_If (thn (hc pins s σ H _ I h) fun d s1 ⟨H1, I1, q1⟩ => ?_)
  cases d with
  | true => exact ha pins s1 σ H1 D I1 q1
  | false => exact hb pins s1 σ H1 D I1 q1
end
/-! ### targets -/
abbrev TG := V → St → Hp → (St → Hp → Prop) → Prop
def PG (X : Cx) (target : Expr) (t : TG) : Prop :=
  ∀ (pins : List (Addr × Obj)) (s : Shared) (σ : St) (H : Hp) (v : V) (u : Value) (Q : St → Hp → Prop), Inv X pins σ H s → RelV v u → t v σ H Q →
    wpAny (model X.prog X.w) X.A (assign target X.env u) (fun _ s' => ∃ σ' H', Inv X pins σ' H' s' ∧ Q σ' H') X.xe s
section
variable {X : Cx} {pos : Pos}
def gName (i : Nat) : TG := fun v σ H Q => Q (σ.set i (some v)) H
theorem pg_name {i : Nat} {x : Str} (hN : X.N.Nodup) (hi : X.N[i]? = some x) (hx : Loc X.env.scope x) (hf : X.fn x = true ∨ X.env.scope.names.lookup x = some .local := by first | exact .inl rfl | exact .inr rfl | assumption) : PG X (.Name x pos) (gName i) := by
  intro pins s σ H v u Q I r h
  exact wpAny_assign_Name (store_ok I hN hi hx r (fun s' I' => ⟨_, H, I', h⟩) hf)
/-- target = value -/
def tAsg (te : TE) (g : TG) : TS := fun D σ H => te σ H fun x H1 => g x σ H1 D.nx
/-- name = value -/
theorem ps_set {i : Nat} {x : Str} {e : Expr} {te : TE} {pos' : Pos} (hN : X.N.Nodup) (hi : X.N[i]? = some x) (hx : Loc X.env.scope x) (he : PE X e te) (hs : swapsWith e (some (.Name x pos')) pos.line X.env = pure false := by rfl) (hf : X.fn x = true ∨ X.env.scope.names.lookup x = some .local := by first | exact .inl rfl | exact .inr rfl | assumption) :
    PS X (.Assign [.Name x pos'] e pos) (tAsg te (gName i)) := by
  intro pins s σ H D I h
  refine wpAny_Assign_Name (thn (he pins s σ H _ I h) fun v s1 ⟨y, H1, I1, r1, q1⟩ => ?_) hs
  exact store_ok I1 hN hi hx r1 (fun s2 I2 => ⟨_, H1, I2, q1⟩) hf
end
/-! ### while -/
section
variable {X : Cx} {pos : Pos}
/-- the invariant W with its measure -/
def tWhile (c : TT) (tb : TS) : TS := fun D σ H => ∃ W : Nat → St → Hp → Prop, (∃ m, W m σ H) ∧ ∀ m σ H, W m σ H →
  c σ H fun b H1 => if b = true then ∃ N : St → Hp → Prop, (∀ σ' H', N σ' H' → ∃ m', m' < m ∧ W m' σ' H') ∧ tb { D with nx := N, ct := N, bk := D.nx } σ H1 else D.nx σ H1
theorem ps_while {c : Expr} {body : List Stmt} {tc : TT} {tb : TS} (hp : PassesOwn (model X.prog X.w) X.A X.env X.xe) (hc : PT X c tc) (hb : PSs X body tb) : PS X (.While c body [] pos) (tWhile tc tb) := by
  intro pins s σ H D I h
  obtain ⟨W, ⟨m0, w0⟩, turn⟩ := h
  refine wpAny_While (codeAny_whileLoop (fun n s' => ∃ σ' H', Inv X pins σ' H' s' ∧ W n σ' H') ?_ m0 ⟨σ, H, I, w0⟩)
  rintro n s1 ⟨σ1, H1, I1, w1⟩
  refine wpAny_passesOwn hp (thn (hc pins s1 σ1 H1 _ I1 (turn n σ1 H1 w1)) fun b s2 ⟨H2, I2, q2⟩ => ?_)
  cases b with
  | true =>
    obtain ⟨N, hN, q2⟩ := q2
    rw [if_pos rfl]
    refine wpAny_passesOwn hp (thn (hb pins s2 σ1 H2 _ I2 q2) fun f s3 q3 => ?_)
    cases f with
    | next =>
      obtain ⟨σ3, H3, I3, n3⟩ := q3
      obtain ⟨m', hm, w3⟩ := hN σ3 H3 n3
      exact ⟨m', hm, σ3, H3, I3, w3⟩
    | cont =>
      obtain ⟨σ3, H3, I3, n3⟩ := q3
      obtain ⟨m', hm, w3⟩ := hN σ3 H3 n3
      exact ⟨m', hm, σ3, H3, I3, w3⟩
    | brk => exact q3
    | ret v => exact q3
  | false =>
    rw [if_neg Bool.false_ne_true]
    exact wpAny_execs_nil ⟨σ1, H2, I2, q2⟩
end
/-! ### what a loop or a comprehension walks -/
/-- at turn i: it yields x (the heap may grow), or it stops -/
structure It where
  go : Nat → Hp → Prop
  yld : Nat → Hp → V → Hp → Prop
  stop : Nat → Hp → Prop
/-- the iterator's own objects may turn: they are not the frame's, not pinned, younger than the entry (or a comprehension's own) -/
def FpOk (X : Cx) (pins : List (Addr × Obj)) (H : Hp) (b : Addr) : Prop :=
  H b = none ∧ b ≠ X.env.locals ∧ b ∉ X.fs ∧ (b ∈ X.ex ∨ X.s_0.heap.objs.size ≤ b) ∧ (∀ x c, X.env.cells.lookup x = some c → c ≠ b) ∧ ∀ p ∈ X.pn ++ pins, p.1 ≠ b
theorem Inv.fpOk {X : Cx} {pins : List (Addr × Obj)} {σ : St} {H H' : Hp} {s : Shared} {b : Addr} (I : Inv X pins σ H s) (hb : s.heap.objs.size ≤ b) (hn : H' b = none) : FpOk X pins H' b := by
  refine ⟨hn, Nat.ne_of_gt (Nat.lt_of_lt_of_le I.lt hb), I.nofs hb, .inr (Nat.le_trans I.sz hb), fun x c e z => ?_, fun p hp z => ?_⟩
  · obtain ⟨v, q⟩ := I.cell x c e
    exact absurd (Nat.lt_of_lt_of_le q.lt (by rw [z]; exact hb)) (Nat.lt_irrefl _)
  · exact absurd (Nat.lt_of_lt_of_le (Heap.lt_size (I.pin p hp).1) (by rw [z]; exact hb)) (Nat.lt_irrefl _)
structure Turn (P : Program) (w : World) (K : PySem.W.Frag) (tg : Expr) (J : It) (fp : List Addr) (it : Addr) (tn : Nat → Heap → Prop) : Prop where
  mem : it ∈ fp
  obj : ∀ i h, tn i h → ∀ b ∈ fp, ∃ o, h.get? b = some o ∧ ∀ v, o.data ≠ .cell v
  keep : ∀ i h h', tn i h → (∀ b ∈ fp, ∀ o, h.get? b = some o → h'.get? b = some o) → tn i h'
  item : ∀ (X : Cx), X.prog = P → X.w = w → X.K = K → X.calm = true → ∀ (i : Nat) (pins : List (Addr × Obj)) (s : Shared) (σ : St) (H : Hp) (E : Value → Shared → Prop), Inv X pins σ H s → (∀ b ∈ fp, FpOk X pins H b) → tn i s.heap → J.go i H →
    wpAny (model P w) X.A (pyNext (.ref it)) (fun r s1 => ∃ u, r = some u ∧
      wpAny (model P w) X.A (letOwnedTupleGo tg (.ref it) u) (fun _ s2 => ∃ x H', Inv X pins σ H' s2 ∧ RelV x u ∧ J.yld i H x H' ∧ tn (i + 1) s2.heap ∧ ∀ b ∈ fp, H' b = none) E s1) E s
  done : ∀ (X : Cx), X.prog = P → X.w = w → X.K = K → X.calm = true → ∀ (i : Nat) (pins : List (Addr × Obj)) (s : Shared) (σ : St) (H : Hp) (E : Value → Shared → Prop), Inv X pins σ H s → (∀ b ∈ fp, FpOk X pins H b) → tn i s.heap → J.stop i H →
    wpAny (model P w) X.A (pyNext (.ref it)) (fun r s1 => r = none ∧ Inv X pins σ H s1) E s
  self : ∀ (A : Around) (i : Nat) (s : Shared) (Q : Value → Shared → Prop) (E : Value → Shared → Prop), tn i s.heap → Q (.ref it) s → wpAny (model P w) A (pyIter (.ref it)) Q E s
abbrev TI := St → Hp → (It → Hp → Prop) → Prop
/-- an iterator has come -/
def PIE (X : Cx) (pins : List (Addr × Obj)) (σ : St) (tg : Expr) (R : It → Hp → Prop) (itv : Value) (s2 : Shared) : Prop :=
  ∃ (it : Addr) (fp : List Addr) (tn : Nat → Heap → Prop) (J : It) (H' : Hp), itv = .ref it ∧ Inv X pins σ H' s2 ∧ Turn X.prog X.w X.K tg J fp it tn ∧ tn 0 s2.heap ∧ (∀ b ∈ fp, FpOk X pins H' b) ∧ R J H'
def PI (X : Cx) (tg iter : Expr) (wi : TI) : Prop :=
  ∀ (pins : List (Addr × Obj)) (s : Shared) (σ : St) (H : Hp) (R : It → Hp → Prop), Inv X pins σ H s → wi σ H R →
    wpAny (model X.prog X.w) X.A (eval iter X.env) (fun v s1 => wpAny (model X.prog X.w) X.A (pyIter v) (PIE X pins σ tg R) X.xe s1) X.xe s
/-- the step ahead of the store is nothing for an iterator that keeps no tuple -/
theorem go_of {M : Model} {A : Around} {E : Value → Shared → Prop} {s : Shared} {tg : Expr} {it : Addr} {u : Value} {o : Obj} {n : String} {vs : Array Value} {Q : Unit → Shared → Prop} (ho : s.heap.get? it = some o) (hc : o.cls = .type n) (hd : o.data = .fields vs)
    (hn : ["enumerate", "zip", "dict_itemiterator", "dict_reverseitemiterator", "odict_iterator", "itertools.zip_longest", "itertools.pairwise"].contains n = false) (hQ : Q () s) : wpAny M A (letOwnedTupleGo tg (.ref it) u) Q E s := by
  unfold letOwnedTupleGo
  cases tg <;> first
    | exact wpAny_pure hQ
    | (cases u <;> first
        | exact wpAny_pure hQ
        | (refine wpAny_bind (wpAny_load ho ?_)
           rw [hc, hd]
           show wpAny M A (if (["enumerate", "zip", "dict_itemiterator", "dict_reverseitemiterator", "odict_iterator", "itertools.zip_longest", "itertools.pairwise"].contains n && vs[0]? == some (rawInt _)) = true then _ else _) Q E s
           rw [if_neg (by intro h; rw [hn, Bool.false_and] at h; cases h)]
           exact wpAny_pure hQ))
def Itt (K : PySem.W.Frag) (a : Addr) : It :=
  ⟨fun i H => ∃ xs x, SqT K H a xs ∧ xs[i]? = some x, fun i H x H' => H' = H ∧ ∀ xs, SqT K H a xs → xs[i]? = some x, fun i H => ∃ xs, SqT K H a xs ∧ xs.length ≤ i⟩
theorem turn_tuple {P : Program} {w : World} {K : PySem.W.Frag} {tg : Expr} (a it : Addr) : Turn P w K tg (Itt K a) [it] it (fun i h => h.IsTupleIter it a i) where
  mem := by simp
  obj := fun i h st b hb => by
    have e : b = it := by simpa using hb
    subst e
    obtain ⟨o, e, c, d⟩ := st
    exact ⟨o, e, fun v z => by rw [d] at z; cases z⟩
  keep := fun i h h' st k => st.at fun o e => k it (by simp) o e
  item := by
    intro X hP hw hK hc i pins s σ H E I hf st hg
    subst hP hw hK
    obtain ⟨xs, x, hq, hx⟩ := hg
    obtain ⟨its, rv, p, hz⟩ := I.tuple hq
    obtain ⟨u, hu, ru⟩ := rv.get hx
    obtain ⟨f0, f1, f2, f3, f4, f5⟩ := hf it (by simp)
    refine wpAny_pyNext_tuple_item st (show s.heap.IsTuple a its.toArray from p) (x := u) (by simpa using hu) fun h' st' sb => ?_
    have I1 : Inv X pins σ H { s with heap := h' } := I.turned (t' := s.toks) (fun b o hb e => (sb.2 b hb).trans e) f0 f1 f3 f4 f5
    obtain ⟨o, e, c, d⟩ := id st'
    exact ⟨u, rfl, go_of (s := { s with heap := h' }) e c d (by decide) ⟨x, H, I1, ru, ⟨rfl, fun ys hy => by rw [I.tuple_inj hy hq]; exact hx⟩, st', fun b hb => (hf b hb).1⟩⟩
  done := by
    intro X hP hw hK hc i pins s σ H E I hf st hg
    subst hP hw hK
    obtain ⟨xs, hq, hx⟩ := hg
    obtain ⟨its, rv, p, hz⟩ := I.tuple hq
    obtain ⟨f0, f1, f2, f3, f4, f5⟩ := hf it (by simp)
    have hl := rv.length
    exact wpAny_pyNext_tuple_end (I.ok.hd hc) st (show s.heap.IsTuple a its.toArray from p) (by simp; omega) fun h' eb => ⟨rfl, I.turned (t' := s.toks) (fun b o hb e => eb b o hb e) f0 f1 f3 f4 f5⟩
  self := fun _ _ _ _ _ st h => wpAny_pyIter_tupleiter st h
end L2
namespace L2
open PySem PySem.Spec PyProof.Rows
section
variable {X : Cx} {tg : Expr}
def iTup (K : PySem.W.Frag) (tl : TE) : TI := fun σ H R => tl σ H fun x H1 => ∃ a, x = .ref a ∧ (∃ xs, SqT K H1 a xs) ∧ R (Itt K a) H1
theorem pi_tup {l : Expr} {tl : TE} (hl : PE X l tl) : PI X tg l (iTup X.K tl) := by
  intro pins s σ H R I h
  refine thn (hl pins s σ H _ I h) fun v s1 ⟨x, H1, I1, r1, q1⟩ => ?_
  obtain ⟨a, e, ⟨xs, hq⟩, q⟩ := q1
  subst e
  cases r1
  obtain ⟨its, rv, p, hz⟩ := I1.tuple hq
  refine wpAny_pyIter_tuple (show s1.heap.IsTuple a its.toArray from p) ?_
  refine ⟨s1.heap.objs.size, [s1.heap.objs.size], _, _, H1, rfl, I1.kept (t' := s1.toks) fun b o e => Heap.get?_push_of_some _ e, turn_tuple a _, ⟨_, Heap.get?_push_size _ rfl, rfl, rfl⟩, fun b hb => ?_, q⟩
  have e : b = s1.heap.objs.size := by simpa using hb
  subst e
  exact I1.fpOk (Nat.le_refl _) (I1.hok.fresh (Nat.le_refl _))
/-! ### for -/
/-- W: the invariant by the turn and a measure; N: what the body is to reach -/
def tFor (wi : TI) (g : TG) (tb : TS) : TS := fun D σ H => wi σ H fun J H1 => ∃ W : Nat → Nat → St → Hp → Prop, (∃ m, W 0 m σ H1) ∧ ∀ i m σ H, W i m σ H →
  (J.stop i H ∧ D.nx σ H) ∨ (J.go i H ∧ ∃ N : St → Hp → Prop, (∀ σ' H', N σ' H' → ∃ m', m' < m ∧ W (i + 1) m' σ' H') ∧ ∀ x H', J.yld i H x H' → g x σ H' fun σ2 H2 => tb { D with nx := N, ct := N, bk := D.nx } σ2 H2)
/-- the records at fp as they stand -/
def pinsAt (fp : List Addr) (h : Heap) : List (Addr × Obj) := fp.filterMap fun b => (h.get? b).map fun o => (b, o)
theorem mem_pinsAt {fp : List Addr} {h : Heap} {b : Addr} {o : Obj} (hb : b ∈ fp) (e : h.get? b = some o) : (b, o) ∈ pinsAt fp h := List.mem_filterMap.mpr ⟨b, hb, by rw [e]; rfl⟩
theorem of_pinsAt {fp : List Addr} {h : Heap} {p : Addr × Obj} (hp : p ∈ pinsAt fp h) : p.1 ∈ fp ∧ h.get? p.1 = some p.2 := by
  obtain ⟨b, hb, e⟩ := List.mem_filterMap.mp hp
  cases q : h.get? b with
  | none => rw [q] at e; cases e
  | some o =>
    rw [q] at e
    have e' : (b, o) = p := Option.some.inj e
    subst e'
    exact ⟨hb, q⟩
theorem Inv.pinned {pins : List (Addr × Obj)} {σ : St} {H : Hp} {s : Shared} {fp : List Addr} (I : Inv X pins σ H s) (hf : ∀ b ∈ fp, FpOk X pins H b) (ho : ∀ b ∈ fp, ∃ o, s.heap.get? b = some o ∧ ∀ v, o.data ≠ .cell v) : Inv X (pins ++ pinsAt fp s.heap) σ H s :=
  I.pins_of fun p hp => (List.mem_append.mp hp).elim (fun z => I.pin p (List.mem_append_right _ z)) fun z => by
    obtain ⟨hb, e⟩ := of_pinsAt z
    obtain ⟨f0, f1, f2, _⟩ := hf p.1 hb
    obtain ⟨o, e', d⟩ := ho p.1 hb
    rw [e] at e'; cases e'
    exact ⟨e, f0, f1, f2, d⟩
theorem Inv.unpinned {pins pl : List (Addr × Obj)} {σ : St} {H : Hp} {s : Shared} (I : Inv X (pins ++ pl) σ H s) : Inv X pins σ H s := I.pins_of fun p hp => I.pin p (List.mem_append_right _ (List.mem_append_left _ hp))
theorem ps_for {iter : Expr} {body : List Stmt} {wi : TI} {g : TG} {tb : TS} {pos : Pos} (hp : PassesOwn (model X.prog X.w) X.A X.env X.xe) (hc : X.calm = true) (hi : PI X tg iter wi) (hg : PG X tg g) (hb : PSs X body tb)
    (hs : ∀ x, foldedSetIterable iter X.env x = pure x := by intro _; rfl) : PS X (.For tg iter body [] pos) (tFor wi g tb) := by
  intro pins s σ H D I h
  refine wpAny_For (thn (hi pins s σ H _ I h) fun v s1 h1 => thn h1 fun itv s2 h2 => ?_) hs
  obtain ⟨it, fp, tn, J, H2, e, I2, T, st2, f2, W, ⟨m0, w0⟩, turn⟩ := h2
  subst e
  -- what stays true of the iterator's objects through the loop
  have stat : ∀ {H' : Hp}, (∀ b ∈ fp, H' b = none) → ∀ b ∈ fp, FpOk X pins H' b := fun hn b hb => ⟨hn b hb, (f2 b hb).2⟩
  refine codeAny_forLoop_any (fun n s' => ∃ i σ' H', Inv X pins σ' H' s' ∧ tn i s'.heap ∧ (∀ b ∈ fp, H' b = none) ∧ W i n σ' H') ?_ m0 ⟨0, σ, H2, I2, st2, fun b hb => (f2 b hb).1, w0⟩
  rintro n s3 ⟨i, σ3, H3, I3, st3, fr3, w3⟩
  rcases turn i n σ3 H3 w3 with ⟨stop, qn⟩ | ⟨go, N, hN, step⟩
  · refine wpAny_passesOwn hp (thn (T.done X rfl rfl rfl hc i pins s3 σ3 H3 X.xe I3 (stat fr3) st3 stop) fun r s4 ⟨hr, I4⟩ => ?_)
    subst hr
    exact wpAny_execs_nil ⟨σ3, H3, I4, qn⟩
  · refine wpAny_passesOwn hp (thn (T.item X rfl rfl rfl hc i pins s3 σ3 H3 X.xe I3 (stat fr3) st3 go) fun r s4 ⟨u, hr, h4⟩ => ?_)
    subst hr
    refine wpAny_passesOwn hp (thn h4 fun _ s5 ⟨x, H5, I5, r5, y5, st5, fr5⟩ => ?_)
    have I5' := I5.pinned (stat fr5) (T.obj _ _ st5)
    refine wpAny_passesOwn hp (thn (hg _ s5 σ3 H5 x u _ I5' r5 (step x H5 y5)) fun _ s6 ⟨σ6, H6, I6, q6⟩ => ?_)
    refine wpAny_passesOwn hp (thn (hb _ s6 σ6 H6 _ I6 q6) fun f s7 q7 => ?_)
    have again : ∀ {σ7 : St} {H7 : Hp}, Inv X (pins ++ pinsAt fp s5.heap) σ7 H7 s7 → N σ7 H7 → ∃ m, m < n ∧ ∃ i σ' H', Inv X pins σ' H' s7 ∧ tn i s7.heap ∧ (∀ b ∈ fp, H' b = none) ∧ W i m σ' H' := fun {σ7 H7} I7 n7 => by
      obtain ⟨m', hm, w7⟩ := hN σ7 H7 n7
      refine ⟨m', hm, i + 1, σ7, H7, I7.unpinned, T.keep _ _ _ st5 fun b hb o e => (I7.pin (b, o) (List.mem_append_right _ (List.mem_append_right _ (mem_pinsAt hb e)))).1, fun b hb => ?_, w7⟩
      obtain ⟨o, e, d⟩ := T.obj _ _ st5 b hb
      exact (I7.pin (b, o) (List.mem_append_right _ (List.mem_append_right _ (mem_pinsAt hb e)))).2.1
    cases f with
    | next => obtain ⟨σ7, H7, I7, n7⟩ := q7; exact again I7 n7
    | cont => obtain ⟨σ7, H7, I7, n7⟩ := q7; exact again I7 n7
    | brk => obtain ⟨σ7, H7, I7, q7⟩ := q7; exact ⟨σ7, H7, I7.unpinned, q7⟩
    | ret v => obtain ⟨x7, σ7, H7, I7, r7, q7⟩ := q7; exact ⟨x7, σ7, H7, I7.unpinned, r7, q7⟩
end
/-! ### the forms one uses -/
theorem for_tup {K : PySem.W.Frag} {a : Addr} {xs : List V} {g : TG} {tb : TS} {D : Ends} {σ : St} {H : Hp} (Pv : Nat → St → Hp → Prop) (h0 : Pv 0 σ H) (hl : ∀ i σ H, i ≤ xs.length → Pv i σ H → SqT K H a xs)
    (hs : ∀ i x σ H, xs[i]? = some x → Pv i σ H → g x σ H fun σ2 H2 => tb { D with nx := Pv (i + 1), ct := Pv (i + 1), bk := D.nx } σ2 H2) (hd : ∀ σ H, Pv xs.length σ H → D.nx σ H) :
    ∃ W : Nat → Nat → St → Hp → Prop, (∃ m, W 0 m σ H) ∧ ∀ i m σ H, W i m σ H →
      ((Itt K a).stop i H ∧ D.nx σ H) ∨ ((Itt K a).go i H ∧ ∃ N : St → Hp → Prop, (∀ σ' H', N σ' H' → ∃ m', m' < m ∧ W (i + 1) m' σ' H') ∧ ∀ x H', (Itt K a).yld i H x H' → g x σ H' fun σ2 H2 => tb { D with nx := N, ct := N, bk := D.nx } σ2 H2) := by
  refine ⟨fun i m σ H => m = xs.length - i ∧ i ≤ xs.length ∧ Pv i σ H, ⟨xs.length, by simp, Nat.zero_le _, h0⟩, ?_⟩
  rintro i m σ H ⟨rfl, hi, p⟩
  have q := hl i σ H hi p
  by_cases hlt : i < xs.length
  · refine .inr ⟨⟨xs, xs[i], q, by simp [hlt]⟩, Pv (i + 1), fun σ' H' p' => ⟨xs.length - (i + 1), by omega, rfl, hlt, p'⟩, fun x H' y => ?_⟩
    obtain ⟨e, y⟩ := y
    subst e
    exact hs i x σ _ (y xs q) p
  · have e : i = xs.length := by omega
    subst e
    exact .inl ⟨⟨xs, q, Nat.le_refl _⟩, hd σ H p⟩
/-- while, by a word and a measure of the state -/
theorem while_by {c : TT} {tb : TS} {D : Ends} {σ : St} {H : Hp} (Pv : St → Hp → Prop) (μ : St → Hp → Nat) (h0 : Pv σ H)
    (hs : ∀ σ H, Pv σ H → c σ H fun b H1 => if b = true then tb { D with nx := fun σ' H' => Pv σ' H' ∧ μ σ' H' < μ σ H, ct := fun σ' H' => Pv σ' H' ∧ μ σ' H' < μ σ H, bk := D.nx } σ H1 else D.nx σ H1)
    (mono : ∀ σ H Q Q', (∀ b H1, Q b H1 → Q' b H1) → c σ H Q → c σ H Q') : tWhile c tb D σ H := by
  refine ⟨fun m σ H => m = μ σ H ∧ Pv σ H, ⟨_, rfl, h0⟩, ?_⟩
  rintro m σ H ⟨rfl, p⟩
  refine mono σ H _ _ (fun b H1 q => ?_) (hs σ H p)
  cases b with
  | true => exact ⟨_, fun σ' H' ⟨p', l⟩ => ⟨_, l, rfl, p'⟩, q⟩
  | false => exact q
end L2
namespace L2
open PySem PySem.Spec PyProof.Rows
abbrev R2 := V → V → Hp → VK → Prop
/-- a two-place operation on values: f is binaryOp op, inplaceOp op or compareOp op -/
def OpR (X : Cx) (f : Value → Value → Sem Value) (r : R2) : Prop :=
  ∀ (pins : List (Addr × Obj)) (s : Shared) (σ : St) (H : Hp) (x y : V) (v u : Value) (Q : VK), Inv X pins σ H s → RelV x v → RelV y u → r x y H Q →
    wpAny (model X.prog X.w) X.A (f v u) (EP X pins σ Q) X.xe s
/-- a one-place operation -/
def UnR (X : Cx) (f : Value → Sem Value) (r : V → Hp → VK → Prop) : Prop :=
  ∀ (pins : List (Addr × Obj)) (s : Shared) (σ : St) (H : Hp) (x : V) (v : Value) (Q : VK), Inv X pins σ H s → RelV x v → r x H Q →
    wpAny (model X.prog X.w) X.A (f v) (EP X pins σ Q) X.xe s
/-- a call of a value that is known (a builtin, a type) with values -/
def CallR (X : Cx) (f : Value) (r : List V → Hp → VK → Prop) : Prop :=
  ∀ (pins : List (Addr × Obj)) (s : Shared) (σ : St) (H : Hp) (xs : List V) (us : List Value) (Q : VK), Inv X pins σ H s → Vals xs us → r xs H Q →
    wpAny (model X.prog X.w) X.A (call f us) (EP X pins σ Q) X.xe s
def tOp (r : R2) (ta tb : TE) : TE := fun σ H Q => ta σ H fun x H1 => tb σ H1 fun y H2 => r x y H2 Q
def tUn (r : V → Hp → VK → Prop) (ta : TE) : TE := fun σ H Q => ta σ H fun x H1 => r x H1 Q
/-- ints in, under C, and a value out -/
def rI (C : Int → Int → Prop) (g : Int → Int → V) : R2 := fun x y H Q => ∃ i j, x = .int i ∧ y = .int j ∧ C i j ∧ Q (g i j) H
def rI0 (g : Int → Int → V) : R2 := fun x y H Q => ∃ i j, x = .int i ∧ y = .int j ∧ Q (g i j) H
def rU (g : Int → V) : V → Hp → VK → Prop := fun x H Q => ∃ i, x = .int i ∧ Q (g i) H
section
variable {X : Cx} {a b c : Expr} {ta tb tc : TE} {pos : Pos}
theorem binT (ha : PE X a ta) (hb : PE X b tb) {pins : List (Addr × Obj)} {s : Shared} {σ : St} {H : Hp} {R : V → V → Hp → Prop} (I : Inv X pins σ H s)
    (h : ta σ H fun x H1 => tb σ H1 fun y H2 => R x y H2) {Q : Value → Shared → Prop} {f : Value → Value → Sem Value}
    (hf : ∀ v u s2 x y H2, Inv X pins σ H2 s2 → RelV x v → RelV y u → R x y H2 → wpAny (model X.prog X.w) X.A (f v u) Q X.xe s2) :
    wpAny (model X.prog X.w) X.A (eval a X.env) (fun v s₁ => wpAny (model X.prog X.w) X.A (eval b X.env) (fun u s₂ => wpAny (model X.prog X.w) X.A (f v u) Q X.xe s₂) X.xe s₁) X.xe s := by
  refine thn (ha pins s σ H _ I h) fun v s1 ⟨x, H1, I1, r1, q1⟩ => ?_
  refine thn (hb pins s1 σ H1 _ I1 q1) fun u s2 ⟨y, H2, I2, r2, q2⟩ => ?_
  exact hf v u s2 x y H2 I2 r1 r2 q2
theorem pe_op {op : Operator} {r : R2} (ho : OpR X (binaryOp op) r) (ha : PE X a ta) (hb : PE X b tb) : PE X (.BinOp a op b pos) (tOp r ta tb) := by
  intro pins s σ H Q I h
  exact wpAny_BinOp (binT ha hb I h fun v u s2 x y H2 I2 rx ry q => ho pins s2 σ H2 x y v u Q I2 rx ry q)
theorem pe_un {op : UnaryOp} {r : V → Hp → VK → Prop} (ho : UnR X (unaryOp op) r) (ha : PE X a ta) : PE X (.UnaryOp op a pos) (tUn r ta) := by
  intro pins s σ H Q I h
  exact UnaryOp_ (thn (ha pins s σ H _ I h) fun v s1 ⟨x, H1, I1, r1, q1⟩ => ho pins s1 σ H1 x v Q I1 r1 q1)
/-! ### ints -/
theorem opI {f : Value → Value → Sem Value} {C : Int → Int → Prop} {g : Int → Int → Int}
    (rule : ∀ (i j : Int) (t u : Tok) (s : Shared) (Q : Value → Shared → Prop) (E : Value → Shared → Prop), C i j → Q (.int (g i j) s.toks) { s with toks := s.toks + 1 } → wpAny (model X.prog X.w) X.A (f (.int i t) (.int j u)) Q E s) :
    OpR X f (rI C fun i j => .int (g i j)) := by
  intro pins s σ H x y v u Q I rx ry h
  obtain ⟨i, j, rfl, rfl, hc, q⟩ := h
  obtain ⟨t, rfl⟩ := rx
  obtain ⟨t', rfl⟩ := ry
  exact rule i j t t' s _ _ hc ⟨.int (g i j), H, I.tok _, ⟨_, rfl⟩, q⟩
theorem opI0 {f : Value → Value → Sem Value} {g : Int → Int → Int}
    (rule : ∀ (i j : Int) (t u : Tok) (s : Shared) (Q : Value → Shared → Prop) (E : Value → Shared → Prop), Q (.int (g i j) s.toks) { s with toks := s.toks + 1 } → wpAny (model X.prog X.w) X.A (f (.int i t) (.int j u)) Q E s) :
    OpR X f (rI0 fun i j => .int (g i j)) := by
  intro pins s σ H x y v u Q I rx ry h
  obtain ⟨i, j, rfl, rfl, q⟩ := h
  obtain ⟨t, rfl⟩ := rx
  obtain ⟨t', rfl⟩ := ry
  exact rule i j t t' s _ _ ⟨.int (g i j), H, I.tok _, ⟨_, rfl⟩, q⟩
theorem opB0 {f : Value → Value → Sem Value} {g : Int → Int → Bool}
    (rule : ∀ (i j : Int) (t u : Tok) (s : Shared) (Q : Value → Shared → Prop) (E : Value → Shared → Prop), Q (.bool (g i j)) s → wpAny (model X.prog X.w) X.A (f (.int i t) (.int j u)) Q E s) :
    OpR X f (rI0 fun i j => .bl (g i j)) := by
  intro pins s σ H x y v u Q I rx ry h
  obtain ⟨i, j, rfl, rfl, q⟩ := h
  obtain ⟨t, rfl⟩ := rx
  obtain ⟨t', rfl⟩ := ry
  exact rule i j t t' s _ _ ⟨.bl (g i j), H, I, rfl, q⟩
def CDiv (i j : Int) : Prop := 0 < j ∧ j < 1073741824
def CMul (i j : Int) : Prop := (-(2 ^ 64) < i ∧ i < 2 ^ 64) ∨ (-(2 ^ 64) < j ∧ j < 2 ^ 64)
theorem CMul.ok {i j : Int} (h : CMul i j) : IntMulOk i j := by
  rcases h with ⟨h1, h2⟩ | ⟨h1, h2⟩
  · exact .of_left (intBits_le_64 h1 h2)
  · exact .of_right (intBits_le_64 h1 h2)
theorem op_add : OpR X (binaryOp .Add) (rI0 fun i j => .int (i + j)) := opI0 fun _ _ _ _ _ _ _ q => add_int q
theorem op_sub : OpR X (binaryOp .Sub) (rI0 fun i j => .int (i - j)) := opI0 fun _ _ _ _ _ _ _ q => sub_int q
theorem op_mul : OpR X (binaryOp .Mult) (rI CMul fun i j => .int (i * j)) := opI fun _ _ _ _ _ _ _ hc q => mul_int q hc.ok
/-- // by a positive divisor -/
theorem op_fdiv : OpR X (binaryOp .FloorDiv) (rI CDiv fun i j => .int (i / j)) := opI fun i j _ _ _ _ _ hc q => by
  have h1 : (0 : Int) < j := hc.1
  have h2 : j < 1073741824 := hc.2
  exact floordiv_int (by omega) (by rw [Int.fdiv_eq_ediv_of_nonneg i (by omega)]; exact q) (.inl (PyProof.noPylong_small (by omega)))
theorem unI {f : Value → Sem Value} {g : Int → Int}
    (rule : ∀ (i : Int) (t : Tok) (s : Shared) (Q : Value → Shared → Prop) (E : Value → Shared → Prop), Q (.int (g i) s.toks) { s with toks := s.toks + 1 } → wpAny (model X.prog X.w) X.A (f (.int i t)) Q E s) :
    UnR X f (rU fun i => .int (g i)) := by
  intro pins s σ H x v Q I rx h
  obtain ⟨i, rfl, q⟩ := h
  obtain ⟨t, rfl⟩ := rx
  exact rule i t s _ _ ⟨.int (g i), H, I.tok _, ⟨_, rfl⟩, q⟩
theorem un_neg : UnR X (unaryOp .USub) (rU fun i => .int (-i)) := unI fun _ _ _ _ _ q => neg_int q
/-! ### bools among ints: n += (a < b) -/
end
/-! ### comparisons -/
/-- the scalars that == tells apart as data does -/
def scal : V → V → Bool
  | .non, .non => true | .non, .int _ => true | .int _, .non => true | .non, .bl _ => true | .bl _, .non => true | .non, .str _ => true | .str _, .non => true
  | .int _, .int _ => true | .bl _, .bl _ => true | .str _, .str _ => true | .byt _, .byt _ => true
  | .int _, .str _ => true | .str _, .int _ => true | .bl _, .str _ => true | .str _, .bl _ => true
  | _, _ => false
def rEq : R2 := fun x y H Q => scal x y = true ∧ Q (.bl (decide (x = y))) H
theorem dec_int {i j : Int} : decide (V.int i = V.int j) = (i == j) := by
  rw [Bool.eq_iff_iff]
  simp
theorem dec_bl {i j : Bool} : decide (V.bl i = V.bl j) = (i == j) := by
  rw [Bool.eq_iff_iff]
  simp
theorem dec_str {i j : Str} : decide (V.str i = V.str j) = (i == j) := by
  rw [Bool.eq_iff_iff]
  simp
theorem dec_byt {i j : Array UInt8} : decide (V.byt i = V.byt j) = (i.toList == j.toList) := by
  rw [Bool.eq_iff_iff]
  cases i
  cases j
  simp
section
variable {X : Cx} {a b c : Expr} {ta tb tc : TE} {pos : Pos}
theorem fin_bl {pins : List (Addr × Obj)} {σ : St} {H : Hp} {s : Shared} {Q : VK} {k k' : Bool} (I : Inv X pins σ H s) (q : Q (.bl k) H) (e : k = k') : EP X pins σ Q (.bool k') s := by
  subst e
  exact ⟨.bl k, H, I, rfl, q⟩
theorem op_eq : OpR X (compareOp .Eq) rEq := by
  intro pins s σ H x y v u Q I rx ry h
  obtain ⟨hs, q⟩ := h
  cases x with
  | non =>
    cases rx
    cases y with
    | non => cases ry; exact PySem.EqNone.eq_none_none (fin_bl I q (by simp))
    | bl j => cases ry; exact PySem.EqNone.eq_none_bool (fin_bl I q (by simp))
    | int j => obtain ⟨t', rfl⟩ := ry; exact PySem.EqNone.eq_none_int (fin_bl I q (by simp))
    | str j => obtain ⟨t', rfl⟩ := ry; exact PySem.EqNone.eq_none_str (fin_bl I q (by simp))
    | _ => exact absurd (show false = true from hs) Bool.false_ne_true
  | bl i =>
    cases rx
    cases y with
    | non => cases ry; exact PySem.EqNone.eq_bool_none (fin_bl I q (by simp))
    | bl j => cases ry; exact eq_bool (fin_bl I q dec_bl)
    | str j => obtain ⟨t', rfl⟩ := ry; exact PySem.EqMixed.eq_bool_str (fin_bl I q (by simp))
    | _ => exact absurd (show false = true from hs) Bool.false_ne_true
  | int i =>
    obtain ⟨t, rfl⟩ := rx
    cases y with
    | non => cases ry; exact PySem.EqNone.eq_int_none (fin_bl I q (by simp))
    | int j => obtain ⟨t', rfl⟩ := ry; exact eq_int (fin_bl I q dec_int)
    | str j => obtain ⟨t', rfl⟩ := ry; exact PySem.EqMixed.eq_int_str (fin_bl I q (by simp))
    | _ => exact absurd (show false = true from hs) Bool.false_ne_true
  | str i =>
    obtain ⟨t, rfl⟩ := rx
    cases y with
    | non => cases ry; exact PySem.EqNone.eq_str_none (fin_bl I q (by simp))
    | bl j => cases ry; exact PySem.EqMixed.eq_str_bool (fin_bl I q (by simp))
    | int j => obtain ⟨t', rfl⟩ := ry; exact PySem.EqMixed.eq_str_int (fin_bl I q (by simp))
    | str j => obtain ⟨t', rfl⟩ := ry; exact eq_str (fin_bl I q dec_str)
    | _ => exact absurd (show false = true from hs) Bool.false_ne_true
  | byt i =>
    obtain ⟨t, rfl⟩ := rx
    cases y with
    | byt j => obtain ⟨t', rfl⟩ := ry; exact PySem.W.eq_bytes (fin_bl I q dec_byt)
    | _ => exact absurd (show false = true from hs) Bool.false_ne_true
  | _ => cases y <;> exact absurd (show false = true from hs) Bool.false_ne_true
theorem op_lt : OpR X (compareOp .Lt) (rI0 fun i j => .bl (decide (i < j))) := opB0 fun _ _ _ _ _ _ _ q => lt_int q
theorem op_le : OpR X (compareOp .LtE) (rI0 fun i j => .bl (decide (i ≤ j))) := opB0 fun _ _ _ _ _ _ _ q => le_int q
theorem op_gt : OpR X (compareOp .Gt) (rI0 fun i j => .bl (decide (j < i))) := opB0 fun _ _ _ _ _ _ _ q => gt_int q
theorem op_ge : OpR X (compareOp .GtE) (rI0 fun i j => .bl (decide (j ≤ i))) := opB0 fun _ _ _ _ _ _ _ q => ge_int q
/-- two rules for one operation: by cases -/
theorem OpR.or {f : Value → Value → Sem Value} {r r' : R2} (h : OpR X f r) (h' : OpR X f r') : OpR X f (fun x y H Q => r x y H Q ∨ r' x y H Q) := by
  intro pins s σ H x y v u Q I rx ry q
  rcases q with q | q
  · exact h pins s σ H x y v u Q I rx ry q
  · exact h' pins s σ H x y v u Q I rx ry q
theorem nomark (b : Expr) {op : CmpOp} (h : op ≠ .In := by decide) (h2 : op ≠ .NotIn := by decide) : behindInMarks op b = false := by
  have e1 : (op == CmpOp.In) = false := by cases op <;> first | rfl | exact absurd rfl h
  have e2 : (op == CmpOp.NotIn) = false := by cases op <;> first | rfl | exact absurd rfl h2
  cases b <;> simp [behindInMarks, e1, e2]
/-- a comparison as a value; hm: nomark b, or (for in, not in) by with_unfolding_all rfl -/
theorem pe_cmpR {op : CmpOp} {r : R2} (ho : OpR X (compareOp op) r) (ha : PE X a ta) (hb : PE X b tb) (hm : behindInMarks op b = false) : PE X (.Compare a [op] [b] pos) (tOp r ta tb) := by
  intro pins s σ H Q I h
  exact wpAny_Compare1 (binT ha hb I h fun v u s2 x y H2 I2 rx ry q => ho pins s2 σ H2 x y v u Q I2 rx ry q) hm
/-- a reading of a value as a test -/
def tTest (t : TE) : TT := fun σ H Q => t σ H fun x H' => ∃ k, x = .bl k ∧ Q k H'
theorem pt_cmpR {op : CmpOp} {r : R2} (ho : OpR X (compareOp op) r) (ha : PE X a ta) (hb : PE X b tb) (hm : behindInMarks op b = false) : PT X (.Compare a [op] [b] pos) (tTest (tOp r ta tb)) := by
  intro pins s σ H Q I h
  refine wpAny_isTrue_Compare1 (thn (ha pins s σ H _ I h) fun v s1 ⟨x, H1, I1, r1, q1⟩ => thn (hb pins s1 σ H1 _ I1 q1) fun u s2 ⟨y, H2, I2, r2, q2⟩ =>
    thn (ho pins s2 σ H2 x y v u _ I2 r1 r2 q2) fun c s3 ⟨z, H3, I3, r3, k, e, q3⟩ => ?_) hm
  subst e
  cases r3
  exact wpAny_truthy_bool ⟨H3, I3, q3⟩
/-! ### truth -/
theorem line63 : (sizeLine : Nat) < 2 ^ 63 := by rw [sizeLine_eq]; decide
/-! ### strs and bytes -/
/-! ### scalar builtins, by CallR -/
theorem vals1 {x : V} {us : List Value} (r : Vals [x] us) : ∃ u, us = [u] ∧ RelV x u := by
  cases r with
  | cons r1 r2 => cases r2; exact ⟨_, rfl, r1⟩
theorem vals2 {x y : V} {us : List Value} (r : Vals [x, y] us) : ∃ u w', us = [u, w'] ∧ RelV x u ∧ RelV y w' := by
  cases r with
  | cons r1 r2 =>
    cases r2 with
    | cons r3 r4 => cases r4; exact ⟨_, _, rfl, r1, r3⟩
theorem call_max2 (hc : X.calm = true) : CallR X (.builtin "max") (fun xs H Q => ∃ i j, xs = [.int i, .int j] ∧ Q (.int (if j > i then j else i)) H) := by
  intro pins s σ H xs us Q I r h
  obtain ⟨i, j, rfl, q⟩ := h
  obtain ⟨u, w', rfl, ⟨t, rfl⟩, ⟨t', rfl⟩⟩ := vals2 r
  refine max_two_ints (I.ok.hd hc) fun h' tk k => ⟨_, H, I.kept k, ?_, q⟩
  by_cases hj : j > i
  · rw [if_pos hj, if_pos hj]; exact ⟨_, rfl⟩
  · rw [if_neg hj, if_neg hj]; exact ⟨_, rfl⟩
theorem call_min2 (hc : X.calm = true) : CallR X (.builtin "min") (fun xs H Q => ∃ i j, xs = [.int i, .int j] ∧ Q (.int (if j < i then j else i)) H) := by
  intro pins s σ H xs us Q I r h
  obtain ⟨i, j, rfl, q⟩ := h
  obtain ⟨u, w', rfl, ⟨t, rfl⟩, ⟨t', rfl⟩⟩ := vals2 r
  refine min_two_ints (I.ok.hd hc) fun h' tk k => ⟨_, H, I.kept k, ?_, q⟩
  by_cases hj : j < i
  · rw [if_pos hj, if_pos hj]; exact ⟨_, rfl⟩
  · rw [if_neg hj, if_neg hj]; exact ⟨_, rfl⟩
end
end L2
namespace L2
open PySem PySem.Spec PyProof.Rows
/-! ### an instance, its attributes a map -/
structure ObjM (h : Heap) (x dx C : Addr) (mA : Str → Option Value) : Prop where
  obj : h.get? x = some (PySem.W.instObj C dx)
  ns : h.Ns1 dx mA
  ne : dx ≠ x
theorem lookIn_ns {h : Heap} {dx : Addr} {mA : Str → Option Value} (n : h.Ns1 dx mA) : ∃ od, h.get? dx = some od ∧ ∀ name, PySem.W.lookIn name od = some (mA name) := by
  obtain ⟨o, es, ep, ho, hd, hk, _, hm⟩ := n
  refine ⟨o, ho, fun name => ?_⟩
  have e := hm name
  unfold nsFind findBy at e
  rw [← Array.find?_toList] at e
  unfold PySem.W.lookIn
  rw [hd]
  dsimp only
  split
  · rename_i y q
    rw [q] at e
    exact congrArg some e
  · rename_i q
    rw [q] at e
    have a : es.toList.any (·.refKey) = false := by
      rw [List.any_eq_false]
      intro y hy
      obtain ⟨z, t, hkey⟩ := hk y (Array.mem_toList_iff.mp hy)
      simp [DictEntry.refKey, hkey]
    have a' : ¬ es.toList.any (·.refKey) = true := by rw [a]; exact Bool.false_ne_true
    rw [if_neg a']
    exact congrArg some e
theorem ObjM.look {h : Heap} {x dx C : Addr} {mA : Str → Option Value} (I : ObjM h x dx C mA) : ∃ od, PySem.W.InstAt h x (PySem.W.instObj C dx) C (some od) ∧ ∀ name, PySem.W.lookIn name od = some (mA name) :=
  let ⟨od, ho, hl⟩ := lookIn_ns I.ns
  ⟨od, ⟨I.obj, rfl, rfl, ho⟩, hl⟩
section
variable {prog : Program} {w : World} {A : Around} {E : Value → Shared → Prop} {s : Shared} {K : PySem.W.Frag} {x dx C f : Addr} {mA : Str → Option Value} {name : Str} {v : Value}
theorem get_map {expr : Bool} {Q : Value → Shared → Prop} (X : K.In s.heap) (I : ObjM s.heap x dx C mA) (hg : PySem.W.plainGet K C name = true) (hh : PySem.W.hasDictIn K C = true)
    (ha : PySem.W.findIn K (.ref C) name = some none) (hv : mA name = some v) (hv' : PySem.W.handedIn v = true) (h : Q v { s with toks := s.toks + 1 }) :
    wpAny (model prog w) A (getAttr (.ref x) name expr) Q E s := by
  obtain ⟨od, J, hl⟩ := I.look
  exact PySem.W.get_value X J (PySem.W.plainGet_of hg).1 (PySem.W.findObj_own hh ha rfl (by rw [hl, hv])) hv' h
theorem get_meth {pl : Sem Bool} {Q : Value × List Value → Shared → Prop} (X : K.In s.heap) (I : ObjM s.heap x dx C mA) (hg : PySem.W.plainGet K C name = true)
    (hf : PySem.W.findIn K (.ref C) name = some (some (.ref f))) (ht : PySem.W.isFn K (.ref f) = true) (hv : mA name = none) (h : Q (.ref f, [.ref x]) s) :
    wpAny (model prog w) A (getMethod (.ref x) name pl) Q E s := by
  obtain ⟨od, J, hl⟩ := I.look
  exact PySem.W.method_fn X J (PySem.W.plainGet_of hg).1 (PySem.W.plainGet_of hg).2 hf (beq_iff_eq.mp ht) (by show (PySem.W.lookIn name od).map (·.isSome) = some false; rw [hl, hv]; rfl) h
theorem set_map {ns : List Str} {Q : Unit → Shared → Prop} (X : K.In s.heap) (I : ObjM s.heap x dx C mA)
    (hs : PySem.W.findIn K (.ref C) "__setattr__" = some (some (.builtin "object.__setattr__"))) (hp : PySem.W.plainOver K C = true) (ht : PySem.W.takerIn K C name = some none) (hh : PySem.W.hasDictIn K C = true)
    (hw : PySem.Within mA ns) (hsz : ns.length ≤ sizeLine)
    (h : ∀ h', ObjM h' x dx C (fun y => if y = name then some v else mA y) → Heap.SameBut dx s.heap h' → Q () { s with heap := h', toks := s.toks + 2 }) :
    wpAny (model prog w) A (setAttr (.ref x) name v) Q E s := by
  obtain ⟨od, J, hl⟩ := I.look
  refine PySem.W.set_plain X J hs (PySem.W.osa_open (s := { s with toks := s.toks + 1 }) (r := none) X J hp ht fun b => ?_)
  obtain ⟨cd, hc, hd'⟩ := PySem.W.any_some hh
  have hx : s.heap.get? x = some ⟨.ref C, some dx, .plain, #[]⟩ := I.obj
  refine wpAny_bind (wpAny_pure (wpAny_bind (wpAny_bind (wpAny_loadPart hx (wpAny_bind (PySem.W.Looks.here (s := { s with toks := s.toks + 1 }) (PySem.W.looks_clsIn X hc) ?_))))))
  rw [hd']
  refine wpAny_pure (a := some dx) (wpAny_bind (wpAny_pure (wpAny_bind ?_)))
  refine wpAny_nsSet1 (s := { s with toks := s.toks + 1 }) I.ns fun h' hn2 hs2 => ?_
  obtain ⟨oD, esD, epD, hoD, hdD, hcD⟩ := hn2.count (PySem.Within.cons name v hw)
  refine wpAny_bind (wpAny_lookBehind hoD (by rw [hdD]; exact pastItsLine_dict (Nat.le_trans hcD (by rw [List.length_cons]; omega))) ?_)
  exact wpAny_pure (h _ ⟨(hs2.2 _ (Ne.symm I.ne)).trans I.obj, hn2, I.ne⟩ hs2)
/-- C(..): the dict at the heap's end, the instance behind it; then its __init__ -/
theorem make_map {R : Result → Shared → Prop} {vs : List Value} {kw : List (Str × Value)} (X : K.In s.heap) (hm : PySem.W.makesIn K C = true)
    (hi : PySem.W.findIn K (.ref C) "__init__" = some (some (.ref f))) (hf : PySem.W.typeIn K (.ref f) = some (.type "function"))
    (h : codeAny (model prog w) (A.under (.builtin "type.__call__" ⟨.ref C :: vs, kw⟩)) (.call (.ref f) ⟨.ref (s.heap.objs.size + 1) :: vs, kw⟩) (PySem.W.InitBack (s.heap.objs.size + 1) R)
      { s with heap := (s.heap.push PySem.W.emptyDict).push (PySem.W.instObj C s.heap.objs.size) }) :
    codeAny (model prog w) A (.call (.ref C) ⟨vs, kw⟩) R s := by
  obtain ⟨hh, g, d, t, os⟩ := s
  exact PySem.W.make_core (PySem.W.makes_of X hm) (PySem.W.looks_findIn X hi) (fun self => PySem.W.bind_fn X self hf) (.inl rfl) h
end
/-! ### the attributes as a list of pairs -/
def putF (f : Str) (v : V) : List (Str × V) → List (Str × V)
  | [] => [(f, v)]
  | (g, x) :: r => if g = f then (g, v) :: r else (g, x) :: putF f v r
theorem lookup_putF (f g : Str) (v : V) : ∀ fs : List (Str × V), (putF f v fs).lookup g = if g = f then some v else fs.lookup g
  | [] => by
    show List.lookup g [(f, v)] = _
    by_cases h : g = f
    · have hb : (g == f) = true := beq_iff_eq.mpr h
      simp only [List.lookup, hb, if_pos h]
    · have hb : (g == f) = false := beq_eq_false_iff_ne.mpr h
      simp only [List.lookup, hb, if_neg h]
  | (k, x) :: r => by
    have ih := lookup_putF f g v r
    rw [show putF f v ((k, x) :: r) = (if k = f then (k, v) :: r else (k, x) :: putF f v r) from rfl]
    by_cases hk : k = f
    · rw [if_pos hk]
      by_cases h : g = k
      · have hb : (g == k) = true := beq_iff_eq.mpr h
        simp only [List.lookup, hb, if_pos (h.trans hk)]
      · have hb : (g == k) = false := beq_eq_false_iff_ne.mpr h
        simp only [List.lookup, hb, if_neg (fun e : g = f => h (e.trans hk.symm))]
    · rw [if_neg hk]
      by_cases h : g = k
      · have hb : (g == k) = true := beq_iff_eq.mpr h
        simp only [List.lookup, hb, if_neg (fun e : g = f => hk (h.symm.trans e))]
      · have hb : (g == k) = false := beq_eq_false_iff_ne.mpr h
        simp only [List.lookup, hb]
        exact ih
theorem keys_putF (f : Str) (v : V) : ∀ fs : List (Str × V), f ∈ (putF f v fs).map (·.1) ∧ ∀ g, g ∈ fs.map (·.1) → g ∈ (putF f v fs).map (·.1)
  | [] => ⟨by simp [putF], fun g h => by simp at h⟩
  | (k, x) :: r => by
    obtain ⟨i1, i2⟩ := keys_putF f v r
    rw [show putF f v ((k, x) :: r) = (if k = f then (k, v) :: r else (k, x) :: putF f v r) from rfl]
    by_cases hk : k = f
    · rw [if_pos hk]
      subst hk
      exact ⟨by simp, fun g h => by simpa using h⟩
    · rw [if_neg hk]
      refine ⟨?_, fun g h => ?_⟩
      · rw [List.map_cons]
        exact List.mem_cons_of_mem _ i1
      · rw [List.map_cons] at h ⊢
        rcases List.mem_cons.mp h with e | e
        · exact List.mem_cons.mpr (.inl e)
        · exact List.mem_cons_of_mem _ (i2 g e)
theorem length_putF (f : Str) (v : V) : ∀ fs : List (Str × V), (putF f v fs).length ≤ fs.length + 1
  | [] => by simp [putF]
  | (k, x) :: r => by
    have ih := length_putF f v r
    rw [show putF f v ((k, x) :: r) = (if k = f then (k, v) :: r else (k, x) :: putF f v r) from rfl]
    by_cases hk : k = f
    · rw [if_pos hk, List.length_cons, List.length_cons]; omega
    · rw [if_neg hk, List.length_cons, List.length_cons]; omega
theorem RelO.some_of {v : V} {o : Option Value} (r : RelO (some v) o) : ∃ u, o = some u ∧ RelV v u := by
  cases o with
  | none => exact (show False from r).elim
  | some u => exact ⟨u, rfl, r⟩
theorem RelO.none_of {o : Option Value} (r : RelO none o) : o = none := by
  cases o with
  | none => rfl
  | some u => exact (show False from r).elim
theorem handed_of {v : V} {u : Value} (r : RelV v u) : PySem.W.handedIn u = true := by
  cases v with
  | non => cases (show u = Value.none from r); rfl
  | bl b => cases (show u = Value.bool b from r); rfl
  | int i => obtain ⟨t, e⟩ := (show ∃ t, u = Value.int i t from r); cases e; rfl
  | str x => obtain ⟨t, e⟩ := (show ∃ t, u = Value.str x t from r); cases e; rfl
  | byt b => obtain ⟨t, e⟩ := (show ∃ t, u = Value.bytes b t from r); cases e; rfl
  | flt b => obtain ⟨t, e⟩ := (show ∃ t, u = Value.float b t from r); cases e; rfl
  | ref a => cases (show u = Value.ref a from r); rfl
  | ty n => cases (show u = Value.type n from r); rfl
section
variable {P : Program} {w : World} {H H' : Hp} {h h' : Heap} {a C dx : Addr} {fs fs' : List (Str × V)}
theorem ins_get (hok : HOk P w H h) (e : H a = some (.ins C dx fs)) : ∃ mA, ObjM h a dx C mA ∧ (∀ f, RelO (fs.lookup f) (mA f)) ∧ PySem.Within mA (fs.map (·.1)) ∧ fs.length ≤ 1000 ∧ H dx = some (.own a) := by
  obtain ⟨d, z, ne, ob, mA, n, r, q⟩ := (show ObjOk P w H h a (.ins C dx fs) from hok a _ e)
  exact ⟨mA, ⟨ob, n, ne⟩, r, q, z, d⟩
end
/-! ### what of the text a class must have -/
structure Cls (K : PySem.W.Frag) (C : Addr) : Prop where
  pg : PySem.W.plainGet K C Str.empty = true
  hd : PySem.W.hasDictIn K C = true
  po : PySem.W.plainOver K C = true
  sa : PySem.W.findIn K (.ref C) "__setattr__" = some (some (.builtin "object.__setattr__"))
theorem Cls.get {K : PySem.W.Frag} {C : Addr} (c : Cls K C) (f : Str) : PySem.W.plainGet K C f = true := c.pg
/-- no class of it has the name -/
def NoAttr (K : PySem.W.Frag) (C : Addr) (f : Str) : Prop := PySem.W.findIn K (.ref C) f = some none
theorem NoAttr.taker {K : PySem.W.Frag} {C : Addr} {f : Str} (n : NoAttr K C f) : PySem.W.takerIn K C f = some none := by
  unfold PySem.W.takerIn
  rw [show PySem.W.findIn K (.ref C) f = some none from n]
  rfl
/-- a method: a plain def of the class or of one above it -/
structure Meth (K : PySem.W.Frag) (C : Addr) (m : Str) (f : Addr) : Prop where
  at_ : PySem.W.findIn K (.ref C) m = some (some (.ref f))
  fn : PySem.W.isFn K (.ref f) = true
  kp : PySem.W.keepIn K (.ref f) = true
section
variable {X : Cx} {pins : List (Addr × Obj)} {σ : St} {H : Hp} {s : Shared} {a C dx : Addr} {fs : List (Str × V)} {f : Str} {v : V} {A : Around} {E : Value → Shared → Prop}
theorem getattr_ok {b : Bool} {Q : Value → Shared → Prop} (I : Inv X pins σ H s) (e : H a = some (.ins C dx fs)) (c : Cls X.K C) (n : NoAttr X.K C f) (l : fs.lookup f = some v)
    (h : ∀ u s', Inv X pins σ H s' → RelV v u → Q u s') : wpAny (model X.prog X.w) A (getAttr (.ref a) f b) Q E s := by
  obtain ⟨mA, O, r, _, _, _⟩ := ins_get I.hok e
  obtain ⟨u, hu, ru⟩ := RelO.some_of (v := v) (o := mA f) (by rw [← l]; exact r f)
  exact get_map I.kIn O (c.get f) c.hd n hu (handed_of ru) (h u _ (I.tok _) ru)
theorem getmeth_ok {m : Str} {g : Addr} {pl : Sem Bool} {Q : Value × List Value → Shared → Prop} (I : Inv X pins σ H s) (e : H a = some (.ins C dx fs)) (c : Cls X.K C) (k : Meth X.K C m g) (l : fs.lookup m = none)
    (h : Q (.ref g, [.ref a]) s) : wpAny (model X.prog X.w) A (getMethod (.ref a) m pl) Q E s := by
  obtain ⟨mA, O, r, _, _, _⟩ := ins_get I.hok e
  have hn : mA m = none := RelO.none_of (by rw [← l]; exact r m)
  exact get_meth I.kIn O (c.get m) k.at_ k.fn hn h
theorem setattr_ok {y : V} {u : Value} {Q : Unit → Shared → Prop} (I : Inv X pins σ H s) (e : H a = some (.ins C dx fs)) (c : Cls X.K C) (n : NoAttr X.K C f) (hl : fs.length < 1000) (ry : RelV y u)
    (h : ∀ s', Inv X pins σ (upd H a (.ins C dx (putF f y fs))) s' → Q () s') : wpAny (model X.prog X.w) A (setAttr (.ref a) f u) Q E s := by
  obtain ⟨mA, O, r, wi, _, ho⟩ := ins_get I.hok e
  have hz : (fs.map (·.1)).length ≤ sizeLine := by rw [List.length_map, sizeLine_eq]; omega
  refine set_map I.kIn O c.sa c.po n.taker c.hd wi hz fun h' O' sb => h _ ?_
  have hd : ∃ o, h'.get? dx = some o := let ⟨o, _, _, e', _⟩ := O'.ns; ⟨o, e'⟩
  refine I.write (x := a) (e := dx) (by rw [e]; exact True.intro) (.inr ho) (fun b q hb z => (sb.2 b hb).trans z) hd ?_
  refine ⟨by rw [upd_ne O.ne]; exact ho, ?_, O.ne, O'.obj, _, O'.ns, fun g => ?_, fun g hg => ?_⟩
  · have := length_putF f y fs; omega
  · show RelO ((putF f y fs).lookup g) (if g = f then some u else mA g)
    rw [lookup_putF]
    by_cases q : g = f
    · rw [if_pos q, if_pos q]; exact ry
    · rw [if_neg q, if_neg q]; exact r g
  · by_cases q : g = f
    · rw [q]; exact (keys_putF f y fs).1
    · refine (keys_putF f y fs).2 g (wi g fun z => hg ?_)
      show (if g = f then some u else mA g) = none
      rw [if_neg q]; exact z
/-- a new instance, tracked, without attributes -/
theorem Inv.made (I : Inv X pins σ H s) : Inv X pins σ (upd (upd H s.heap.objs.size (.own (s.heap.objs.size + 1))) (s.heap.objs.size + 1) (.ins C s.heap.objs.size []))
    { s with heap := (s.heap.push PySem.W.emptyDict).push (PySem.W.instObj C s.heap.objs.size) } := by
  have e1 : (s.heap.push PySem.W.emptyDict).get? s.heap.objs.size = some PySem.W.emptyDict := Heap.get?_push_size s.heap rfl
  have e2 : ((s.heap.push PySem.W.emptyDict).push (PySem.W.instObj C s.heap.objs.size)).get? (s.heap.objs.size + 1) = some (PySem.W.instObj C s.heap.objs.size) := by
    have := Heap.get?_push_size (s.heap.push PySem.W.emptyDict) (o := PySem.W.instObj C s.heap.objs.size) rfl
    rwa [Heap.size_push] at this
  have e3 : (s.heap.push PySem.W.emptyDict).Ns s.heap.objs.size (fun _ => none) := ⟨PySem.W.emptyDict, #[], _, e1, rfl, (fun e he => absurd he (by simp)), fun _ => rfl⟩
  have I1 := I.laid (a := s.heap.objs.size) (o := .own (s.heap.objs.size + 1)) (h' := s.heap.push PySem.W.emptyDict) (t' := s.toks) (fun b u q => Heap.get?_push_of_some _ q) (Nat.le_refl _) ⟨_, e1⟩
  refine I1.laid (a := s.heap.objs.size + 1) (o := .ins C s.heap.objs.size []) (t' := s.toks) (fun b u q => Heap.get?_push_of_some _ q) (Nat.le_of_eq (Heap.size_push _ _)) ?_
  have ne : s.heap.objs.size ≠ s.heap.objs.size + 1 := Nat.ne_of_lt (Nat.lt_succ_self _)
  refine ⟨by rw [upd_ne ne, upd_same], Nat.zero_le _, ne, e2, fun _ => none, (Heap.Ns1.of_empty e3).at fun o q => Heap.get?_push_of_some _ q, fun _ => True.intro, fun y hy => absurd rfl hy⟩
/-- e.f where nothing but the object is asked: through attributeBase (super) and the last hold -/
theorem attr_of {prog : Program} {w : World} {env : Env} {e : Expr} {f : Str} {pos : Pos} {s : Shared} {Q : Value → Shared → Prop} (hb : attributeBase e f env (eval e env) = eval e env)
    (h : wpAny (model prog w) A (eval e env) (fun o s₁ => wpAny (model prog w) A (getAttr o f true) Q E s₁) E s) : wpAny (model prog w) A (eval (.Attribute e f pos) env) Q E s :=
  Attribute_any_ h (by rw [arm_eval_Attribute, hb])
end
/-! ### readings and rules -/
/-- e.f, an attribute of the instance -/
def tFld (K : PySem.W.Frag) (ta : TE) (f : Str) : TE := fun σ H Q => ta σ H fun x H1 => ∃ a C dx fs v, x = .ref a ∧ H1 a = some (.ins C dx fs) ∧ Cls K C ∧ NoAttr K C f ∧ fs.lookup f = some v ∧ Q v H1
/-- e.f = value -/
def sFld (K : PySem.W.Frag) (ta tv : TE) (f : Str) : TS := fun D σ H => tv σ H fun y H1 => ta σ H1 fun x H2 => ∃ a C dx fs, x = .ref a ∧ H2 a = some (.ins C dx fs) ∧ Cls K C ∧ NoAttr K C f ∧ fs.length < 1000 ∧
  D.nx σ (upd H2 a (.ins C dx (putF f y fs)))
section
variable {X : Cx} {o e value : Expr} {f : Str} {pos pos' tpos : Pos} {ta tv : TE}
theorem pe_fld (he : PE X e ta) (hb : attributeBase e f X.env (eval e X.env) = eval e X.env) : PE X (.Attribute e f pos) (tFld X.K ta f) := by
  intro pins s σ H Q I h
  refine attr_of hb (thn (he pins s σ H _ I h) fun u s1 ⟨x, H1, I1, rx, a, C, dx, fs, v, ex, ea, c, n, l, q⟩ => ?_)
  subst ex
  obtain rfl : u = Value.ref a := rx
  exact getattr_ok I1 ea c n l fun u' s2 I2 ru => ⟨v, H1, I2, ru, q⟩
theorem ps_fld (ha : PE X o ta) (hv : PE X value tv) (hs : swapsWith value (some (.Attribute o f pos')) pos.line X.env = pure false) : PS X (.Assign [.Attribute o f pos'] value pos) (sFld X.K ta tv f) := by
  intro pins s σ H D I h
  refine plainObj_wpAny_Assign_Attribute (thn (hv pins s σ H _ I h) fun u s1 ⟨y, H1, I1, ry, q⟩ => thn (ha pins s1 σ H1 _ I1 q) fun ov s2 ⟨x, H2, I2, rx, a, C, dx, fs, ex, ea, c, n, l, q2⟩ => ?_) hs
  subst ex
  obtain rfl : ov = Value.ref a := rx
  exact setattr_ok I2 ea c n l ry fun s3 I3 => ⟨σ, _, I3, q2⟩
end
/-! ### isinstance -/
section
variable {X : Cx} {pins : List (Addr × Obj)} {σ : St} {H : Hp} {s : Shared} {A : Around} {E : Value → Shared → Prop} {Q : Value → Shared → Prop} {c : Value} {b : Bool}
end
end L2
namespace L2
open PySem PySem.Spec PyProof.Rows
/-! ### room -/
structure Room (k : Nat) (A : Around) : Prop where
  hd : A.handled = none
  dp : A.depth + 3 * k + 5 < recursionLimit
  un : A.units + 16 * k + 200 < cLine
theorem Room.mono {j k : Nat} {A : Around} (r : Room k A) (h : j ≤ k) : Room j A := ⟨r.hd, by have := r.dp; omega, by have := r.un; omega⟩
theorem Room.deeper {k : Nat} {A : Around} (r : Room (k + 1) A) (env : Env) : Room k (A.deeper env) :=
  ⟨r.hd, by have := r.dp; show A.depth + 1 + 3 * k + 5 < _; omega, by have := r.un; show A.units + 3 + 16 * k + 200 < _; omega⟩
theorem make_depth {A : Around} {C : Addr} {us : List Value} {kw : List (Str × Value)} : (A.under (.builtin "type.__call__" ⟨.ref C :: us, kw⟩)).depth = A.depth + 1 := by
  first | rfl | simp [Around.under, Code.weight, Code.isCreation, Code.isGuard, Code.isCaller, Code.frames, Code.isFrame, guardIds]
theorem make_units {A : Around} {C : Addr} {us : List Value} {kw : List (Str × Value)} : (A.under (.builtin "type.__call__" ⟨.ref C :: us, kw⟩)).units = A.units + 1 := by
  first | rfl | simp [Around.under, Code.cUnits, Code.frames, Code.isFrame]
theorem Room.make {k : Nat} {A : Around} (r : Room (k + 1) A) (C : Addr) (us : List Value) (kw : List (Str × Value)) : Room k (A.under (.builtin "type.__call__" ⟨.ref C :: us, kw⟩)) :=
  ⟨r.hd, by have := r.dp; rw [make_depth]; omega, by have := r.un; rw [make_units]; omega⟩
theorem Room.depth {k : Nat} {A : Around} (r : Room k A) : A.depth < recursionLimit := by have := r.dp; omega
theorem Room.units {k : Nat} {A : Around} (r : Room k A) : A.units + 64 < cLine := by have := r.un; omega
/-! ### argument lists and displays -/
def tNil : TA := fun _ H Q => Q [] H
def tCons (ta : TE) (tr : TA) : TA := fun σ H Q => ta σ H fun x H1 => tr σ H1 fun xs H2 => Q (x :: xs) H2
section
variable {X : Cx} {e : Expr} {es : List Expr} {te : TE} {t : TA} {pos : Pos}
theorem pa_nil : PA X [] tNil := fun _ _ _ _ H Q I h => Calls.spliced_nil ⟨[], H, I, .nil, h⟩
theorem pa_cons (ha : PE X e te) (hr : PA X es t) (hs : starEach (e :: es) X.env = (false, eval e X.env) :: starEach es X.env := by rfl) : PA X (e :: es) (tCons te t) := by
  intro pos pins s σ H Q I h
  rw [hs]
  show wpAny _ _ (spliced ((false, eval e X.env) :: backTo pos (starEach es X.env))) _ _ s
  refine Calls.spliced_cons (thn (ha pins s σ H _ I h) fun u s1 ⟨x, H1, I1, r1, q1⟩ => ?_)
  exact thn (hr pos pins s1 σ H1 _ I1 q1) fun us s2 ⟨xs, H2, I2, r2, q2⟩ => ⟨x :: xs, H2, I2, .cons r1 r2, q2⟩
/-- a tuple, a list of written items -/
def tTup (t : TA) : TE := fun σ H Q => t σ H fun xs H1 => xs.length ≤ sizeLine ∧ ∀ p, H1 p = none → Q (.ref p) (upd H1 p (.tup xs))
def tLst (t : TA) : TE := fun σ H Q => t σ H fun xs H1 => xs.length ≤ sizeLine ∧ ∀ p, H1 p = none → Q (.ref p) (upd H1 p (.lst xs))
theorem pe_tup {x1} (h : PA X es t) : PE X (.Tuple es x1 pos) (tTup t) := by
  intro pins s σ H Q I hq
  refine wpAny_Tuple_spliced (thn (h pos pins s σ H _ I hq) fun us s1 ⟨xs, H1, I1, r, z, q⟩ => ⟨by rw [← r.length]; exact z, ?_⟩)
  have hf : H1 s1.heap.objs.size = none := I1.hok.fresh (Nat.le_refl _)
  refine ⟨.ref s1.heap.objs.size, upd H1 s1.heap.objs.size (.tup xs), I1.laid (t' := s1.toks) (fun b u e => Heap.get?_push_of_some _ e) (Nat.le_refl _) ?_, rfl, q _ hf⟩
  exact ⟨z, us, r, ⟨_, Heap.get?_push_size _ rfl, rfl, _, rfl⟩⟩
theorem pe_lst (h : PA X es t) : PE X (.List es pos) (tLst t) := by
  intro pins s σ H Q I hq
  refine wpAny_List_spliced (thn (h pos pins s σ H _ I hq) fun us s1 ⟨xs, H1, I1, r, z, q⟩ => ⟨by rw [← r.length]; exact z, ?_⟩)
  have hf : H1 s1.heap.objs.size = none := I1.hok.fresh (Nat.le_refl _)
  refine ⟨.ref s1.heap.objs.size, upd H1 s1.heap.objs.size (.lst xs), I1.laid (t' := s1.toks) (fun b u e => Heap.get?_push_of_some _ e) (Nat.le_refl _) ?_, rfl, q _ hf⟩
  exact ⟨z, us, 0, r, Heap.get?_push_size _ rfl⟩
end
/-! ### what a def promises -/
/-- a def's promise: the bound arguments in the parameters' order, the heap, the wanted end, the wanted exception -/
abbrev Sp := List V → Hp → VK → XK → Prop
/-- how an exception lies behind a call (file 08 gives it): the callers' frames, abstract heap and state ahead of the call, the wish, the exception, the state -/
abbrev CXT := List Env → Hp → Shared → XK → Value → Shared → Prop
/-- the state at a call -/
structure Env0 (P : Program) (w : World) (K : PySem.W.Frag) (mg : Str → Option Value) (base : Heap) (A : Around) (outer : List Env) (s : Shared) (H : Hp) : Prop where
  frames : A.frames = some outer
  mod : Mod K mg base
  bs : ∀ b o, base.get? b = some o → s.heap.get? b = some o ∧ H b = none
  bsz : base.objs.size ≤ s.heap.objs.size
  funs : s.heap.FunFrames base outer
  frf : ∀ b ∈ frs outer, H b = none
  hok : HOk P w H s.heap
  bare : AllBare s.gens
/-- a call's end -/
def CE (outer : List Env) (P : Program) (w : World) (H : Hp) (s : Shared) (Q : VK) (u : Value) (s' : Shared) : Prop :=
  ∃ v H', s'.os = s.os ∧ AllBare s'.gens ∧ Un (frs outer) [] H H' s.heap s'.heap ∧ HOk P w H' s'.heap ∧ RelV v u ∧ Q v H'
def CR (CX : CXT) (outer : List Env) (P : Program) (w : World) (H : Hp) (s : Shared) (Q : VK) (E : XK) (r : Result) (s' : Shared) : Prop :=
  match r with
  | .ok (.ret u) => CE outer P w H s Q u s'
  | .ok _ => False
  | .error e => CX outer H s E e s'
structure FnOk (P : Program) (w : World) (K : PySem.W.Frag) (mg : Str → Option Value) (base : Heap) (CX : CXT) (k : Nat) (f : Addr) (fd : FuncData) (ps : List Str) (sp : Sp) : Prop where
  len : ∀ vs H Q E, sp vs H Q E → vs.length = ps.length
  run : ∀ (A : Around) (outer : List Env) (s : Shared) (H : Hp) (args : Args) (us : List Value) (vs : List V) (Q : VK) (E : XK), Room k A → Env0 P w K mg base A outer s H → BindsTo s fd args (ps.zip us) → Vals vs us → sp vs H Q E →
    codeAny (model P w) A (.call (.ref f) args) (CR CX outer P w H s Q E) s
theorem FnOk.mono {P : Program} {w : World} {K : PySem.W.Frag} {mg : Str → Option Value} {base : Heap} {CX : CXT} {j k : Nat} {f : Addr} {fd : FuncData} {ps : List Str} {sp : Sp} (F : FnOk P w K mg base CX j f fd ps sp) (h : j ≤ k) :
    FnOk P w K mg base CX k f fd ps sp := ⟨F.len, fun A outer s H args us vs Q E hr => F.run A outer s H args us vs Q E (hr.mono h)⟩
theorem Env0.make {P : Program} {w : World} {K : PySem.W.Frag} {mg : Str → Option Value} {base : Heap} {A : Around} {outer : List Env} {s : Shared} {H : Hp} (e : Env0 P w K mg base A outer s H) (C : Addr) (us : List Value) (kw : List (Str × Value)) :
    Env0 P w K mg base (A.under (.builtin "type.__call__" ⟨.ref C :: us, kw⟩)) outer s H := ⟨by first | exact e.frames | (simpa [Around.under, Code.envs, Code.isFrame, pushEnvs] using e.frames), e.mod, e.bs, e.bsz, e.funs, e.frf, e.hok, e.bare⟩
section
variable {X : Cx} {pins : List (Addr × Obj)} {σ : St} {H : Hp} {s s' : Shared}
/-- from a body: what a callee wants -/
theorem Inv.env0 (I : Inv X pins σ H s) : Env0 X.prog X.w X.K X.mg X.base X.A X.stack s H :=
  ⟨I.ok.frames, I.ok.mod, I.bs, Nat.le_trans I.ok.bsz I.sz, I.stack, I.stkFree, I.hok, I.bare⟩
/-- behind a call -/
theorem Inv.after {Q : VK} {u : Value} (I : Inv X pins σ H s) (h : CE X.stack X.prog X.w H s Q u s') : EP X pins σ Q u s' := by
  obtain ⟨v, H', os, bare, un, hok, r, q⟩ := h
  obtain ⟨hh, g, d, t, os'⟩ := s'
  obtain rfl : os' = s.os := os
  exact ⟨v, H', I.call (h' := hh) (g' := g) (d' := d) (t' := t) (ch := []) un hok bare (fun b z => absurd z (by simp)), r, q⟩
end
/-! ### calls -/
/-- f(..): the written arguments, then the defaults dvs; E: what is wanted of an exception -/
def tCall (sp : Sp) (dvs : List V) (E : XK) (t : TA) : TE := fun σ H Q => t σ H fun vs H1 => sp (vs ++ dvs) H1 Q E
/-- o.m(..) of an instance of the class at C -/
def tMeth (C : Addr) (m : Str) (sp : Sp) (dvs : List V) (E : XK) (ta : TE) (t : TA) : TE := fun σ H Q => ta σ H fun x H1 => ∃ a dx fs, x = .ref a ∧ H1 a = some (.ins C dx fs) ∧ fs.lookup m = none ∧
  t σ H1 fun vs H2 => sp (x :: (vs ++ dvs)) H2 Q E
/-- C(..): a new instance and its dict, then __init__ -/
def tMake (C : Addr) (sp : Sp) (dvs : List V) (E : XK) (t : TA) : TE := fun σ H Q => t σ H fun vs H1 => ∀ x dx, H1 x = none → H1 dx = none → dx ≠ x →
  sp (.ref x :: (vs ++ dvs)) (upd (upd H1 dx (.own x)) x (.ins C dx [])) (fun v H2 => v = .non ∧ Q (.ref x) H2) E
/-- how the parameters are bound: us the positional arguments, kw the keywords' values by name, ds the defaults that fill up -/
def Binds (K : PySem.W.Frag) (fd : FuncData) (ps : List Str) (ds : List Value) : Prop :=
  ∀ (s : Shared) (us : List Value), K.In s.heap → (us ++ ds).length = ps.length → BindsTo s fd ⟨us, []⟩ (ps.zip (us ++ ds))
/-- every parameter is given -/
theorem Binds.all {K : PySem.W.Frag} {fd : FuncData} {ps : List Str} (h : ∀ us : List Value, us.length = ps.length → bindArgs fd ⟨us, []⟩ = pure (ps.zip us)) : Binds K fd ps [] := fun s us _ hl => by
  rw [List.append_nil] at hl ⊢
  exact .of_eq (h us hl)
/-- an exception of a callee reaches what this body wants of exceptions -/
def Passes (CX : CXT) (X : Cx) (E : XK) : Prop := ∀ (pins : List (Addr × Obj)) (σ : St) (H : Hp) (s : Shared) (e : Value) (s' : Shared), Inv X pins σ H s → CX X.stack H s E e s' → X.xe e s'
section
variable {X : Cx} {CX : CXT} {k : Nat} {f C : Addr} {fd : FuncData} {ps : List Str} {sp : Sp} {dvs : List V} {ds : List Value} {E : XK} {x m : Str} {p pos apos : Pos} {e o : Expr} {es : List Expr} {ta : TE} {t : TA}
/-- the callee runs -/
theorem run_fn {pins : List (Addr × Obj)} {σ : St} {H : Hp} {s : Shared} {Q : VK} {us : List Value} {vs : List V} (F : FnOk X.prog X.w X.K X.mg X.base CX k f fd ps sp) (hr : Room k X.A) (hb : Binds X.K fd ps ds) (hd : Vals dvs ds) (hx : Passes CX X E)
    (I : Inv X pins σ H s) (r : Vals vs us) (h : sp (vs ++ dvs) H Q E) : wpAny (model X.prog X.w) X.A (call (.ref f) us) (EP X pins σ Q) X.xe s := by
  have r2 : Vals (vs ++ dvs) (us ++ ds) := r.append hd
  have hl : (us ++ ds).length = ps.length := by rw [← r2.length]; exact F.len _ _ _ _ h
  refine wpAny_call (codeAny_mono (F.run X.A X.stack s H ⟨us, []⟩ (us ++ ds) (vs ++ dvs) Q E hr I.env0 (hb s us I.kIn hl) r2 h) fun r s' hq => ?_)
  cases r with
  | error e => exact hx pins σ H s e s' I hq
  | ok fl =>
    cases fl with
    | ret u => exact I.after hq
    | next => exact False.elim hq
    | brk => exact False.elim hq
    | cont => exact False.elim hq
theorem pe_call (F : FnOk X.prog X.w X.K X.mg X.base CX k f fd ps sp) (hr : Room k X.A) (hg : Gl X x) (hm : X.mg x = some (.ref f)) (hk : PySem.W.keepIn X.K (.ref f) = true) (hb : Binds X.K fd ps ds) (hd : Vals dvs ds) (hx : Passes CX X E)
    (ha : PA X (e :: es) t) (hdb : (x == ("__debug__" : Str)) = false := by decide) (he : starEach (e :: es) X.env = (false, eval e X.env) :: starEach es X.env := by rfl) (hpl : (backTo pos (starEach es X.env)).any (·.1) = false := by rfl) :
    PE X (.Call (.Name x p) (e :: es) [] pos) (tCall sp dvs E t) := by
  intro pins s σ H Q I h
  refine wpAny_Call_Name_kw (ld_glob I hg hm ?_ hdb)
  refine PySem.W.callWith_K (h₀ := X.base) I.ok.mod.kin hk (thn (ha pos pins s σ H _ I h) fun us s1 ⟨vs, H1, I1, r, q⟩ => ⟨I1.kIn, ?_⟩) he hpl
  exact run_fn F hr hb hd hx I1 r q
/-- o.m(e, ..) -/
theorem pe_meth {pl : Sem Bool} (he : PE X o ta) (c : Cls X.K C) (hm : Meth X.K C m f) (F : FnOk X.prog X.w X.K X.mg X.base CX k f fd ps sp) (hr : Room k X.A) (hb : Binds X.K fd ps ds) (hd : Vals dvs ds) (hx : Passes CX X E) (ha : PA X (e :: es) t)
    (hst : starEach (e :: es) X.env = (false, eval e X.env) :: starEach es X.env := by rfl) (hpl : (backTo pos (starEach es X.env)).any (·.1) = false := by rfl)
    (ht : eval (.Call (.Attribute o m apos) (e :: es) [] pos) X.env = (do
      let ov ← eval o X.env
      standAt apos.atName
      let (f, first) ← holding [ov] (getMethod ov m pl)
      callWith pos f first (backTo pos (starEach (e :: es) X.env)) (backToKw pos (keywordEach [] X.env))) := by rfl) :
    PE X (.Call (.Attribute o m apos) (e :: es) [] pos) (tMeth C m sp dvs E ta t) := by
  intro pins s σ H Q I h
  refine PySem.W.methodCall_KW (pl := pl) (thn (he pins s σ H _ I h) fun u s1 ⟨x, H1, I1, rx, a, dx, fs, ex, ea, l, q⟩ => ?_) ht
  subst ex
  obtain rfl : u = Value.ref a := rx
  refine getmeth_ok I1 ea c hm l ?_
  refine PySem.W.callWith_K (first := [.ref a]) (h₀ := X.base) I.ok.mod.kin hm.kp (thn (ha pos pins s1 σ H1 _ I1 q) fun us s2 ⟨vs, H2, I2, r, q2⟩ => ⟨I2.kIn, ?_⟩) hst hpl
  exact run_fn (us := .ref a :: us) (vs := .ref a :: vs) F hr hb hd hx I2 (.cons rfl r) q2
/-- o.m() -/
theorem pe_meth0 {pl : Sem Bool} (he : PE X o ta) (c : Cls X.K C) (hm : Meth X.K C m f) (F : FnOk X.prog X.w X.K X.mg X.base CX k f fd ps sp) (hr : Room k X.A) (hb : Binds X.K fd ps ds) (hd : Vals dvs ds) (hx : Passes CX X E)
    (ht : eval (.Call (.Attribute o m apos) [] [] pos) X.env = (do
      let ov ← eval o X.env
      standAt apos.atName
      let (f, first) ← holding [ov] (getMethod ov m pl)
      callWith pos f first (backTo pos (starEach [] X.env)) (backToKw pos (keywordEach [] X.env))) := by rfl) :
    PE X (.Call (.Attribute o m apos) [] [] pos) (tMeth C m sp dvs E ta tNil) := by
  intro pins s σ H Q I h
  refine PySem.W.methodCall_KW (pl := pl) (thn (he pins s σ H _ I h) fun u s1 ⟨x, H1, I1, rx, a, dx, fs, ex, ea, l, q⟩ => ?_) ht
  subst ex
  obtain rfl : u = Value.ref a := rx
  refine getmeth_ok I1 ea c hm l ?_
  exact PySem.W.callWith_K0 (first := [.ref a]) I1.kIn hm.kp (run_fn (us := [.ref a]) (vs := [.ref a]) F hr hb hd hx I1 (.cons rfl .nil) q)
/-- what a class must have to be made -/
structure Mk (K : PySem.W.Frag) (C f : Addr) : Prop where
  makes : PySem.W.makesIn K C = true
  init : PySem.W.findIn K (.ref C) "__init__" = some (some (.ref f))
  fn : PySem.W.isFn K (.ref f) = true
  kp : PySem.W.keepIn K (.ref C) = true
theorem run_make {pins : List (Addr × Obj)} {σ : St} {H : Hp} {s : Shared} {Q : VK} {us : List Value} {vs : List V} (M : Mk X.K C f) (F : FnOk X.prog X.w X.K X.mg X.base CX k f fd ps sp) (hr : Room (k + 1) X.A) (hb : Binds X.K fd ps ds) (hd : Vals dvs ds)
    (hx : Passes CX X E) (I : Inv X pins σ H s) (r : Vals vs us)
    (h : ∀ x dx, H x = none → H dx = none → dx ≠ x → sp (.ref x :: (vs ++ dvs)) (upd (upd H dx (.own x)) x (.ins C dx [])) (fun v H2 => v = .non ∧ Q (.ref x) H2) E) :
    wpAny (model X.prog X.w) X.A (call (.ref C) us) (EP X pins σ Q) X.xe s := by
  have hq := h (s.heap.objs.size + 1) s.heap.objs.size (I.hok.fresh (Nat.le_succ _)) (I.hok.fresh (Nat.le_refl _)) (Nat.ne_of_lt (Nat.lt_succ_self _))
  have I2 := Inv.made (C := C) I
  have r2 : Vals (V.ref (s.heap.objs.size + 1) :: (vs ++ dvs)) (Value.ref (s.heap.objs.size + 1) :: (us ++ ds)) := .cons rfl (r.append hd)
  have hl : (Value.ref (s.heap.objs.size + 1) :: us ++ ds).length = ps.length := by
    have e := r2.length
    rw [F.len _ _ _ _ hq] at e
    exact e.symm
  refine wpAny_call (make_map (f := f) I.kIn M.makes M.init (beq_iff_eq.mp M.fn) (codeAny_mono (F.run _ X.stack _ _ ⟨Value.ref (s.heap.objs.size + 1) :: us, []⟩ (Value.ref (s.heap.objs.size + 1) :: (us ++ ds)) _ _ E (hr.make C us [])
    (I2.env0.make C us []) (hb _ (Value.ref (s.heap.objs.size + 1) :: us) I2.kIn hl) r2 hq) fun r s' hq' => ?_))
  cases r with
  | error e => exact hx pins σ _ _ e s' I2 hq'
  | ok fl =>
    cases fl with
    | ret u =>
      obtain ⟨v, H', I3, rv, ev, q3⟩ := I2.after hq'
      subst ev
      exact ⟨rv, ⟨V.ref (s.heap.objs.size + 1), H', I3, rfl, q3⟩⟩
    | next => exact False.elim hq'
    | brk => exact False.elim hq'
    | cont => exact False.elim hq'
theorem pe_make0 (M : Mk X.K C f) (F : FnOk X.prog X.w X.K X.mg X.base CX k f fd ps sp) (hr : Room (k + 1) X.A) (hg : Gl X x) (hm : X.mg x = some (.ref C)) (hb : Binds X.K fd ps ds) (hd : Vals dvs ds) (hx : Passes CX X E)
    (hdb : (x == ("__debug__" : Str)) = false := by decide) : PE X (.Call (.Name x p) [] [] pos) (tMake C sp dvs E tNil) := by
  intro pins s σ H Q I h
  refine wpAny_Call_Name_kw (ld_glob I hg hm ?_ hdb)
  exact PySem.W.callWith_K0 I.kIn M.kp (run_make (us := []) M F hr hb hd hx I .nil h)
end
/-! ### keywords -/
section
variable {X : Cx} {CX : CXT} {k : Nat} {f C : Addr} {fd : FuncData} {ps ks : List Str} {sp : Sp} {E : XK} {x m : Str} {p pos apos kpos : Pos} {e o : Expr} {es : List Expr} {kws : List Keyword} {te ta : TE} {t tk : TA} {nm : Option Str}
variable {g : List Value → List Value → List Value} {gV : List V → List V → List V}
end
/-! ### a def's body keeps its promise -/
/-- names: the parameters first -/
structure FnScope (N P : List Str) (sc : Scope) : Prop where
  kind : sc.kind = .function
  co : sc.isCoroutine = false
  gen : sc.isGenerator = false
  nd : N.Nodup
  pre : N.take P.length = P
  par : ∀ x ∈ P, sc.names.lookup x = some .local ∨ sc.names.lookup x = some .cell
  nofree : ∀ y ∈ sc.names, y.2 ≠ .free
theorem bindL_out {kindOf : Str → Option NameKind} {x : Str} : ∀ {binds : List (Str × Value)} {m : Str → Option Value}, (∀ v, (x, v) ∉ binds) → bindL kindOf binds m x = m x
  | [], _, _ => rfl
  | (n, v) :: r, m, h => by
    unfold bindL
    rw [bindL_out fun w hw => h w (List.mem_cons_of_mem _ hw)]
    split
    · have : x ≠ n := by rintro rfl; exact h v List.mem_cons_self
      simp [this]
    · rfl
theorem bindC_out {kindOf : Str → Option NameKind} {x : Str} : ∀ {binds : List (Str × Value)} {m : Str → Option Value}, (∀ v, (x, v) ∉ binds) → bindC kindOf binds m x = m x
  | [], _, _ => rfl
  | (n, v) :: r, m, h => by
    unfold bindC
    rw [bindC_out fun w hw => h w (List.mem_cons_of_mem _ hw)]
    split
    · rfl
    · have : x ≠ n := by rintro rfl; exact h v List.mem_cons_self
      simp [this]
theorem bindL_get {kindOf : Str → Option NameKind} {x : Str} {v : Value} : ∀ {P : List Str} {vs : List Value} {i : Nat} {m : Str → Option Value}, P.Nodup → P[i]? = some x → vs[i]? = some v → kindOf x = some .local →
    bindL kindOf (P.zip vs) m x = some v
  | [], _, _, _, _, h, _, _ => by simp at h
  | _ :: _, [], _, _, _, _, h, _ => by simp at h
  | p :: P, w :: vs, 0, m, nd, h1, h2, hk => by
    simp at h1 h2; subst h1; subst h2
    show bindL kindOf ((p, w) :: P.zip vs) m p = _
    unfold bindL
    rw [bindL_out fun v hv => (List.nodup_cons.mp nd).1 (List.of_mem_zip hv).1, if_pos hk]
    simp
  | p :: P, w :: vs, i + 1, m, nd, h1, h2, hk => by
    show bindL kindOf ((p, w) :: P.zip vs) m x = _
    unfold bindL
    exact bindL_get (i := i) (List.nodup_cons.mp nd).2 (by simpa using h1) (by simpa using h2) hk
theorem bindC_get {kindOf : Str → Option NameKind} {x : Str} {v : Value} : ∀ {P : List Str} {vs : List Value} {i : Nat} {m : Str → Option Value}, P.Nodup → P[i]? = some x → vs[i]? = some v → kindOf x ≠ some .local →
    bindC kindOf (P.zip vs) m x = some v
  | [], _, _, _, _, h, _, _ => by simp at h
  | _ :: _, [], _, _, _, _, h, _ => by simp at h
  | p :: P, w :: vs, 0, m, nd, h1, h2, hk => by
    simp at h1 h2; subst h1; subst h2
    show bindC kindOf ((p, w) :: P.zip vs) m p = _
    unfold bindC
    rw [bindC_out fun v hv => (List.nodup_cons.mp nd).1 (List.of_mem_zip hv).1, if_neg hk]
    simp
  | p :: P, w :: vs, i + 1, m, nd, h1, h2, hk => by
    show bindC kindOf ((p, w) :: P.zip vs) m x = _
    unfold bindC
    exact bindC_get (i := i) (List.nodup_cons.mp nd).2 (by simpa using h1) (by simpa using h2) hk
/-- the names' values at the entry -/
def start (N : List Str) (vs : List V) : St := vs.map some ++ List.replicate (N.length - vs.length) none
/-- the context of a def's body, at its entry; an exception leaves the frame, then lies as CX says -/
def cxOf (CX : CXT) (P : Program) (w : World) (K : PySem.W.Frag) (mg : Str → Option Value) (base : Heap) (N : List Str) (qual : Str) (scope : Scope) (f : Addr) (cd : Value) (A : Around) (outer : List Env) (s : Shared) (H : Hp) (E : XK) : Cx where
  prog := P
  w := w
  K := K
  mg := mg
  base := base
  A := A.deeper (envOfC qual scope s.heap.objs.size f cd)
  N := N
  s_0 := s
  H_0 := H
  env := envOfC qual scope s.heap.objs.size f cd
  outer := outer
  stack := envOfC qual scope s.heap.objs.size f cd :: outer
  ex := []
  calm := true
  fn := fun _ => true
  pn := []
  xe := fun e s' => wpAny (model P w) (A.deeper (envOfC qual scope s.heap.objs.size f cd)) (leaving (envOfC qual scope s.heap.objs.size f cd) e) (fun _ s'' => CX outer H s E e s'') (fun e' s'' => CX outer H s E e' s'') s'
theorem cell_has {sc : Scope} {n : Nat} {x : Str} (h : sc.names.lookup x = some .cell) : ∃ c, (cellsFrom n sc.names []).lookup x = some c := by
  have q := PySem.W.cellsFrom_some sc.names n [] (.inl h)
  exact Option.isSome_iff_exists.mp q
theorem inv_start {CX : CXT} {P : Program} {w : World} {K : PySem.W.Frag} {mg : Str → Option Value} {base : Heap} {N ps : List Str} {qual : Str} {scope : Scope} {f : Addr} {cd : Value} {A : Around} {outer : List Env} {s s1 : Shared} {H : Hp} {E : XK} {us : List Value} {vs : List V}
    (S : FnScope N ps scope) (hd : A.handled = none) (e0 : Env0 P w K mg base A outer s H) (hl : vs.length = ps.length) (r : Vals vs us)
    (x : InCallC s s.heap.objs.size (bindL (envOfC qual scope s.heap.objs.size f cd).kindOf (ps.zip us) fun _ => none) (cellsFrom (s.heap.objs.size + 1) scope.names []) (bindC (envOfC qual scope s.heap.objs.size f cd).kindOf (ps.zip us) fun _ => none) s1) :
    Inv (cxOf CX P w K mg base N qual scope f cd A outer s H E) [] (start N vs) H s1 := by
  have hpl : ps.length ≤ N.length := by have := congrArg List.length S.pre; rw [List.length_take] at this; omega
  obtain ⟨h1, tk, rfl, hk⟩ := x.done
  have noA : ∀ b : Addr, b ∉ (cxOf CX P w K mg base N qual scope f cd A outer s H E).ex := fun b z => absurd (show b ∈ ([] : List Addr) from z) (by simp)
  refine ⟨⟨e0.mod, S.kind, rfl, rfl, Nat.le_refl _, fun y z c h1 h2 => ?_, fun y hy => ?_, fun y c _ h => ?_, fun _ => hd, Around.frames_deeper e0.frames, .inr ⟨rfl, rfl⟩, fun b z => absurd z (noA b), e0.bs, e0.bsz, fun b _ _ => noA b, fun b z => absurd z (noA b), e0.funs, e0.frf⟩,
    rfl, e0.bare, Un.kept hk, ⟨_, x.toInCall.ns, fun i y v h1 h2 h3 => ?_⟩, fun y c h => ⟨_, x.cell y c h⟩, e0.hok.fresh (Nat.le_refl _), fun y c h => ?_, fun p hp => absurd (show p ∈ ([] : List (Addr × Obj)) from hp) (by simp), e0.hok.kept hk, ?_⟩
  · exact name_of_addr x.apart (PySem.mem_of_lookup h1) (PySem.mem_of_lookup h2)
  · have hy : scope.names.lookup y = some .cell ∨ scope.names.lookup y = some .free := hy
    rcases hy with hy | hy
    · exact cell_has hy
    · exact absurd rfl (S.nofree _ (PySem.mem_of_lookup hy))
  · exact Nat.le_of_lt (x.above y c (PySem.mem_of_lookup h))
  · have hi : i < vs.length := by
      unfold start at h2
      by_cases hi : i < vs.length
      · exact hi
      · rw [List.getElem?_append_right (by simpa using hi)] at h2
        rw [List.getElem?_replicate] at h2
        split at h2 <;> cases h2
    have ha : vs[i]? = some v := by
      unfold start at h2
      rw [List.getElem?_append_left (by simpa using hi), List.getElem?_map] at h2
      cases e : vs[i]? with
      | none => rw [e] at h2; cases h2
      | some a => rw [e] at h2; cases h2; rfl
    obtain ⟨u, hu, rv⟩ := r.get ha
    have hp : ps[i]? = some y := by
      rw [← S.pre, List.getElem?_take_of_lt (by omega)]; exact h1
    have ndP : ps.Nodup := by rw [← S.pre]; exact S.nd.sublist (List.take_sublist _ _)
    refine ⟨u, rv, ?_⟩
    rcases S.par y (List.mem_of_getElem? hp) with k | k
    · exact .inl ⟨k, bindL_get ndP hp hu k⟩
    · obtain ⟨c, e⟩ := cell_has (n := s.heap.objs.size + 1) k
      refine .inr ⟨.inl k, c, e, ?_⟩
      have q := x.cell y c e
      rw [bindC_get ndP hp hu (by show scope.names.lookup y ≠ _; rw [k]; decide)] at q
      exact q
  · exact e0.hok.fresh (Nat.le_of_lt (x.above y c (PySem.mem_of_lookup h)))
  · unfold start
    show _ = N.length
    rw [List.length_append, List.length_map, List.length_replicate]
    omega
/-- THE RULE: a def (or a method) of the text, by its body. The body's reading t is chosen for each entry; it is run at the parameters' values -/
theorem fn_of {CX : CXT} {P : Program} {w : World} {K : PySem.W.Frag} {mg : Str → Option Value} {base : Heap} {k : Nat} {f : Addr} {name qual : Str} {params : Arguments} {body : List Stmt} {scope : Scope} {dV kV doc pm cdv ct oc : Value} {an od : Option Addr}
    {osl : Array (Option Value)} {N ps : List Str} {sp : Sp} (lk : K.lookup f = some ⟨oc, od, .func (PySem.W.fnOf name qual params body scope dV kV doc pm an cdv ct), osl⟩) (hcd : PySem.W.codeIn K cdv qual = true) (S : FnScope N ps scope)
    (len : ∀ vs H Q E, sp vs H Q E → vs.length = ps.length)
    (hbody : ∀ (A : Around) (outer : List Env) (s : Shared) (H : Hp) (vs : List V) (Q : VK) (E : XK), Room k (A.deeper (envOfC qual scope s.heap.objs.size f cdv)) → sp vs H Q E →
      ∃ t, PSs (cxOf CX P w K mg base N qual scope f cdv A outer s H E) body t ∧ t { nx := fun _ H' => Q .non H', rt := Q } (start N vs) H) :
    FnOk P w K mg base CX (k + 1) f (PySem.W.fnOf name qual params body scope dV kV doc pm an cdv ct) ps sp := by
  refine ⟨len, fun A outer s H args us vs Q E hr e0 hb r hsp => ?_⟩
  have hl := len _ _ _ _ hsp
  have KX : K.In s.heap := e0.mod.kin.keeps fun b o e => (e0.bs b o e).1
  have lim : s.heap.NoLimit := e0.mod.nolimit.keeps fun b o e => (e0.bs b o e).1
  have hkind : ∀ y ∈ ps.zip us, scope.names.lookup y.1 = some .local ∨ (scope.names.lookup y.1 = some .cell ∧ ((cellsFrom (s.heap.objs.size + 1) scope.names []).lookup y.1).isSome = true) := fun ⟨n, v⟩ hy => by
    rcases S.par n (List.of_mem_zip hy).1 with q | q
    · exact .inl q
    · exact .inr ⟨q, PySem.W.cellsFrom_some _ _ _ (.inl q)⟩
  refine codeAny_call_function hr.depth (KX _ _ lk) rfl S.co S.gen rfl (PySem.W.codeRec_of KX hcd) (hb _ _ _ _ ?_)
  refine wpAny_newFunctionEnv_cells S.kind hkind fun env he s1 x => ?_
  subst he
  refine ⟨lim.keeps x.toInCall.keep, codeAny_func ?_⟩
  obtain ⟨t, ht, hq⟩ := hbody A outer s H vs Q E (hr.deeper _) hsp
  have I : Inv (cxOf CX P w K mg base N qual scope f cdv A outer s H E) [] (start N vs) H s1 := inv_start S hr.hd e0 hl r x
  refine wpAny_mono (ht [] s1 (start N vs) H _ I hq) (fun fl s' hs => ?_) fun e s' hs => hs
  have fin : ∀ {σ' : St} {H' : Hp} {v : V} {u : Value}, Inv (cxOf CX P w K mg base N qual scope f cdv A outer s H E) [] σ' H' s' → RelV v u → Q v H' → CE outer P w H s Q u s' :=
    fun {σ' H' v u} J rv q => ⟨v, H', J.os, J.bare, J.base, J.hok, rv, q⟩
  cases fl with
  | ret u =>
    obtain ⟨v, σ', H', J, rv, q⟩ := hs
    exact fin J rv q
  | next =>
    obtain ⟨σ', H', J, q⟩ := hs
    exact fin (v := V.non) (u := Value.none) J rfl q
  | brk =>
    obtain ⟨_, _, _, q⟩ := hs
    exact False.elim q
  | cont =>
    obtain ⟨_, _, _, q⟩ := hs
    exact False.elim q
end L2
namespace L2
open PySem PySem.Spec PyProof.Rows
section
variable {X : Cx} {x : Str} {p pos : Pos} {e : Expr} {es : List Expr} {t : TA} {id T : String} {r : List V → Hp → VK → Prop}
def tCB (r : List V → Hp → VK → Prop) (t : TA) : TE := fun σ H Q => t σ H fun vs H1 => r vs H1 Q
/-- f(e, ..), f a built-in function -/
theorem pe_callB (hc : CallR X (.builtin id) r) (hg : Gl X x) (hm : X.mg x = none) (hv : bootBuiltins x = some (.builtin id)) (ha : PA X (e :: es) t) (hn : x ≠ "__name__" := by decide) (hdb : (x == ("__debug__" : Str)) = false := by decide)
    (he : starEach (e :: es) X.env = (false, eval e X.env) :: starEach es X.env := by rfl) (hpl : (backTo pos (starEach es X.env)).any (·.1) = false := by rfl) : PE X (.Call (.Name x p) (e :: es) [] pos) (tCB r t) := by
  intro pins s σ H Q I h
  refine wpAny_Call_Name_kw (ld_blt I hg hm hv ?_ hn hdb)
  exact PyProof.Rows.callWith_builtin1 (thn (ha pos pins s σ H _ I h) fun us s1 ⟨vs, H1, I1, r1, q1⟩ => hc pins s1 σ H1 vs us Q I1 r1 q1) he hpl
end
end L2
namespace HT
open PySem PyProof.Rows
section
open PySem.SeqAt
open PySem.AutoSeq1 (wpAny_loadPart')
open PySem.MeetsSeq PySem.MeetsSeq2 PySem.MeetsSeq3
end
section
variable {prog : Program} {w : World} {A : Around} {E : Value → Shared → Prop} {s : Shared}
/-! ### t[a:b], not the whole -/
/-- a slice's bound as a place among n (d where it is left out) -/
def sIx (n d : Nat) : Option Int → Nat
  | none => d
  | some v => if v < 0 then (v + (n : Int)).toNat else min v.toNat n
theorem sIx_nat (n d k : Nat) : sIx n d (some (k : Int)) = min k n := by
  show (if (k : Int) < 0 then ((k : Int) + (n : Int)).toNat else min (k : Int).toNat n) = min k n
  rw [if_neg (by omega), Int.toNat_natCast]
end
end HT
namespace L2
open PySem PySem.Spec PyProof.Rows
/-! ### the parts of a slice -/
abbrev TO := St → Hp → (Option Int → Hp → Prop) → Prop
/-- a slice's part (left out, or an int) -/
def PO (X : Cx) (e : Option Expr) (t : TO) : Prop :=
  ∀ (pins : List (Addr × Obj)) (s : Shared) (σ : St) (H : Hp) (Q : Option Int → Hp → Prop), Inv X pins σ H s → t σ H Q →
    wpAny (model X.prog X.w) X.A (evalPart e X.env) (fun u s' => ∃ o H', Inv X pins σ H' s' ∧ IsPart u o ∧ Q o H') X.xe s
def tPart (t : TE) : TO := fun σ H Q => t σ H fun x H1 => ∃ i, x = .int i ∧ Q (some i) H1
section
variable {X : Cx} {e : Expr} {te : TE} {lo hi : Option Expr} {tl th : TO} {pos p2 : Pos}
theorem po_some (h : PE X e te) : PO X (some e) (tPart te) := by
  intro pins s σ H Q I hw
  rw [evalPart_some]
  refine thn (h pins s σ H _ I hw) fun u s1 ⟨x, H1, I1, r1, q1⟩ => ?_
  obtain ⟨i, rfl, q⟩ := q1
  obtain ⟨t, rfl⟩ := r1
  exact ⟨some i, H1, I1, .int i t, q⟩
/-- what a slice of a value is, by values: the slice object stands at sl -/
def SlR (X : Cx) (r : V → Option Int → Option Int → Hp → VK → Prop) : Prop :=
  ∀ (pins : List (Addr × Obj)) (s : Shared) (σ : St) (H : Hp) (x : V) (v vl vu : Value) (lo hi : Option Int) (sl : Addr) (Q : VK), Inv X pins σ H s → RelV x v → s.heap.IsSliceOf sl vl vu .none → IsPart vl lo → IsPart vu hi → r x lo hi H Q →
    ∃ T id, typeLookup (.type T) "__getitem__" = pure (some (.builtin id)) ∧ s.TypeIs v T ∧ wpAny (model X.prog X.w) X.A (getItem v (.ref sl)) (EP X pins σ Q) X.xe s
theorem SlR.or {r r' : V → Option Int → Option Int → Hp → VK → Prop} (h : SlR X r) (h' : SlR X r') : SlR X (fun x lo hi H Q => r x lo hi H Q ∨ r' x lo hi H Q) := by
  intro pins s σ H x v vl vu lo hi sl Q I rx hs pl pu q
  rcases q with q | q
  · exact h pins s σ H x v vl vu lo hi sl Q I rx hs pl pu q
  · exact h' pins s σ H x v vl vu lo hi sl Q I rx hs pl pu q
def tSl (r : V → Option Int → Option Int → Hp → VK → Prop) (te : TE) (tl th : TO) : TE := fun σ H Q => te σ H fun x H1 => tl σ H1 fun l H2 => th σ H2 fun u H3 => r x l u H3 Q
/-- a[lo:hi], any a -/
theorem pe_slice {r : V → Option Int → Option Int → Hp → VK → Prop} (hr : SlR X r) (he : PE X e te) (hl : PO X lo tl) (hu : PO X hi th) : PE X (.Subscript e (.Slice lo hi none p2) pos) (tSl r te tl th) := by
  intro pins s σ H Q I h
  refine Subscript_ (thn (he pins s σ H _ I h) fun v s1 ⟨x, H1, I1, r1, q1⟩ => ?_)
  refine wpAny_Slice (thn (hl pins s1 σ H1 _ I1 q1) fun vl s2 ⟨l, H2, I2, pl, q2⟩ => thn (hu pins s2 σ H2 _ I2 q2) fun vu s3 ⟨u, H3, I3, pu, q3⟩ => ?_)
  rw [evalPart_none]
  refine wpAny_pure ?_
  have I4 : Inv X pins σ H3 { s3 with heap := s3.heap.push { cls := .type "slice", data := .fields #[vl, vu, .none] } } := I3.kept (t' := s3.toks) fun b ob q => Heap.get?_push_of_some _ q
  obtain ⟨T, id, hT, ht, hg⟩ := hr pins { s3 with heap := s3.heap.push { cls := .type "slice", data := .fields #[vl, vu, .none] } } σ H3 x v vl vu l u s3.heap.objs.size Q I4 r1 (Heap.IsSliceOf.new ..) pl pu q3
  show wpAny (model X.prog X.w) X.A (subscriptTail e (.Slice lo hi none p2) v (.ref s3.heap.objs.size)) (EP X pins σ Q) X.xe { s3 with heap := s3.heap.push { cls := .type "slice", data := .fields #[vl, vu, .none] } }
  exact tail_any (ops := [.ref s3.heap.objs.size, v]) ht hT hg (by with_unfolding_all rfl)
/-- the items of xs[lo:hi] -/
def cutV (xs : List V) (lo hi : Option Int) : List V := (xs.drop (HT.sIx xs.length 0 lo)).take (HT.sIx xs.length xs.length hi - HT.sIx xs.length 0 lo)
theorem cutV_length (xs : List V) (lo hi : Option Int) : (cutV xs lo hi).length ≤ xs.length := by
  unfold cutV
  rw [List.length_take, List.length_drop]
  omega
/-! ### t < u, t + u -/
end
end L2
namespace L2
open PySem PySem.Spec PyProof.Rows
/-! ### places -/
/-- the place that an index of any sign means -/
def ixN (n : Nat) (i : Int) : Option Nat := if 0 ≤ i then (if i < n then some i.toNat else none) else if -(n : Int) ≤ i then some (i + n).toNat else none
def atI {α : Type} (xs : List α) (i : Int) : Option α := (ixN xs.length i).bind fun j => xs[j]?
theorem ixN_seq {n : Nat} {i : Int} {j : Nat} (h : ixN n i = some j) : seqIndex? i n = some j ∧ j < n ∧ -(n : Int) ≤ i ∧ i < n := by
  unfold ixN at h
  by_cases h0 : 0 ≤ i
  · rw [if_pos h0] at h
    by_cases h1 : i < n
    · rw [if_pos h1] at h
      have e : i.toNat = j := Option.some.inj h
      exact ⟨by rw [seqIndex_of h0 h1, e], by omega, by omega, h1⟩
    · rw [if_neg h1] at h; cases h
  · rw [if_neg h0] at h
    by_cases h1 : -(n : Int) ≤ i
    · rw [if_pos h1] at h
      have e : (i + n).toNat = j := Option.some.inj h
      exact ⟨by rw [seqIndex_neg (by omega) h1, e], by omega, h1, by omega⟩
    · rw [if_neg h1] at h; cases h
theorem atI_get {α : Type} {xs : List α} {i : Int} {v : α} (h : atI xs i = some v) : ∃ j, seqIndex? i xs.length = some j ∧ xs[j]? = some v ∧ j < xs.length ∧ -(xs.length : Int) ≤ i ∧ i < xs.length := by
  unfold atI at h
  cases e : ixN xs.length i with
  | none => rw [e] at h; cases h
  | some j =>
    rw [e] at h
    obtain ⟨h1, h2, h3, h4⟩ := ixN_seq e
    exact ⟨j, h1, h, h2, h3, h4⟩
theorem atI_nat {α : Type} {xs : List α} {j : Nat} {v : α} (h : xs[j]? = some v) : atI xs (j : Int) = some v := by
  have hj : j < xs.length := (List.getElem?_eq_some_iff.mp h).1
  have e : ixN xs.length (j : Int) = some j := by
    unfold ixN
    rw [if_pos (by omega), if_pos (by omega)]; simp
  unfold atI; rw [e]; exact h
/-! ### what may be subscripted -/
/-- what stands as an index of a plain subscript -/
def PlainIx (b : Expr) : Prop := ∀ o i, subscripted b false o i = operate [o, i] (getItem o i)
/-- a subscript by values -/
def IxR (X : Cx) (r : R2) : Prop :=
  ∀ (value slice : Expr) (pins : List (Addr × Obj)) (s : Shared) (σ : St) (H : Hp) (x y : V) (v u : Value) (Q : VK), Inv X pins σ H s → RelV x v → RelV y u → r x y H Q →
    subscripted slice false v u = operate [v, u] (getItem v u) → wpAny (model X.prog X.w) X.A (subscriptTail value slice v u) (EP X pins σ Q) X.xe s
/-- a call of a builtin's method by values: the receiver, the arguments -/
def MtR (X : Cx) (id : String) (r : V → List V → Hp → VK → Prop) : Prop :=
  ∀ (pins : List (Addr × Obj)) (s : Shared) (σ : St) (H : Hp) (x : V) (xs : List V) (v : Value) (us : List Value) (Q : VK), Inv X pins σ H s → RelV x v → Vals xs us → r x xs H Q →
    wpAny (model X.prog X.w) X.A (call (.builtin id) (v :: us)) (EP X pins σ Q) X.xe s
section
variable {X : Cx} {a b : Expr} {ta tb : TE} {pos : Pos}
theorem IxR.or {r r' : R2} (h : IxR X r) (h' : IxR X r') : IxR X (fun x y H Q => r x y H Q ∨ r' x y H Q) := by
  intro value slice pins s σ H x y v u Q I rx ry q hs
  rcases q with q | q
  · exact h value slice pins s σ H x y v u Q I rx ry q hs
  · exact h' value slice pins s σ H x y v u Q I rx ry q hs
theorem MtR.or {id : String} {r r' : V → List V → Hp → VK → Prop} (h : MtR X id r) (h' : MtR X id r') : MtR X id (fun x xs H Q => r x xs H Q ∨ r' x xs H Q) := by
  intro pins s σ H x xs v us Q I rx rs q
  rcases q with q | q
  · exact h pins s σ H x xs v us Q I rx rs q
  · exact h' pins s σ H x xs v us Q I rx rs q
/-- a[b] -/
theorem pe_ix {r : R2} (hr : IxR X r) (ha : PE X a ta) (hb : PE X b tb) (hs : PlainIx b) : PE X (.Subscript a b pos) (tOp r ta tb) := by
  intro pins s σ H Q I h
  exact Subscript_ (binT ha hb I h fun v u s2 x y H2 I2 rx ry q => hr a b pins s2 σ H2 x y v u Q I2 rx ry q (hs _ _))
def rIxL (K : PySem.W.Frag) : R2 := fun x y H Q => ∃ p xs i v, x = .ref p ∧ y = .int i ∧ SqL K H p xs ∧ atI xs i = some v ∧ Q v H
def rIxT (K : PySem.W.Frag) : R2 := fun x y H Q => ∃ p xs i v, x = .ref p ∧ y = .int i ∧ SqT K H p xs ∧ atI xs i = some v ∧ Q v H
theorem ix_list : IxR X (rIxL X.K) := by
  intro value slice pins s σ H x y v u Q I rx ry h hs
  obtain ⟨p, xs, i, z, rfl, rfl, hq, he, q⟩ := h
  cases rx
  obtain ⟨t, rfl⟩ := ry
  obtain ⟨its, r, pl, hz⟩ := I.list hq
  obtain ⟨j, h1, h2, h3, h4, h5⟩ := atI_get he
  obtain ⟨w, ew, rw'⟩ := r.get h2
  have hl := r.length
  have hn := line63
  have fin : EP X pins σ Q w s := ⟨z, H, I, rw', q⟩
  by_cases h0 : 0 ≤ i
  · have hj : i.toNat = j := by
      rw [seqIndex_of h0 h5] at h1
      exact Option.some.inj h1
    exact item_listR pl.isList h0 (by omega) (by rw [hj]; simpa using ew) fin hs
  · have hj : (i + (its.toArray.size : Int)).toNat = j := by
      rw [seqIndex_neg (by omega) h4] at h1
      rw [List.size_toArray, ← hl]
      exact Option.some.inj h1
    exact subscriptTail_builtinR (x := w) pl.isList.typeIs slot_list_getitem.lookup
      (wpAny_getItem_list_neg (Q := fun r s' => r = w ∧ EP X pins σ Q r s') pl.isList (by omega) (by rw [List.size_toArray] <;> omega) (by omega) (by rw [hj]; simpa using ew) ⟨rfl, fin⟩) hs
theorem ix_tup : IxR X (rIxT X.K) := by
  intro value slice pins s σ H x y v u Q I rx ry h hs
  obtain ⟨p, xs, i, z, rfl, rfl, hq, he, q⟩ := h
  cases rx
  obtain ⟨t, rfl⟩ := ry
  obtain ⟨its, r, pl, hz⟩ := I.tuple hq
  obtain ⟨j, h1, h2, h3, h4, h5⟩ := atI_get he
  obtain ⟨w, ew, rw'⟩ := r.get h2
  have hl := r.length
  have hn := line63
  have fin : EP X pins σ Q w s := ⟨z, H, I, rw', q⟩
  exact subscriptTail_builtinR (x := w) pl.typeIs slot_tuple_getitem.lookup
    (getItem_tuple (j := j) (Q := fun r s' => r = w ∧ EP X pins σ Q r s') pl (by omega) (by omega) (by rw [List.size_toArray, ← hl]; exact h1) (by simpa using ew) ⟨rfl, fin⟩) hs
/-! ### xs[i] = v, any sign -/
theorem Inv.lst {pins : List (Addr × Obj)} {σ : St} {H : Hp} {s : Shared} {p : Addr} {xs : List V} (I : Inv X pins σ H s) (h : H p = some (.lst xs)) :
    ∃ (its : List Value) (n : Nat), Vals xs its ∧ s.heap.get? p = some { cls := .type "list", data := .seq its.toArray n } ∧ xs.length ≤ sizeLine := by
  obtain ⟨z, its, n, r, e⟩ := I.hok p _ h
  exact ⟨its, n, r, e, z⟩
/-! ### slices -/
theorem slice_bounds (lo hi : Option Int) (n : Nat) : (sliceBounds lo hi none n).1 = ((HT.sIx n 0 lo : Nat) : Int) ∧ (sliceBounds lo hi none n).2.1 = ((HT.sIx n n hi : Nat) : Int) ∧ (sliceBounds lo hi none n).2.2 = 1 := by
  refine ⟨?_, ?_, rfl⟩
  · cases lo with
    | none => simp [sliceBounds, HT.sIx]
    | some i =>
      simp only [sliceBounds, HT.sIx, Option.getD_none, show (1 : Int) > 0 by decide, if_true]
      by_cases h : i < 0
      · simp only [h, if_true] <;> omega
      · simp only [h, if_false] <;> omega
  · cases hi with
    | none => simp [sliceBounds, HT.sIx]
    | some i =>
      simp only [sliceBounds, HT.sIx, Option.getD_none, show (1 : Int) > 0 by decide, if_true]
      by_cases h : i < 0
      · simp only [h, if_true] <;> omega
      · simp only [h, if_false] <;> omega
theorem slicePick_cut (its : List Value) (lo hi : Option Int) : slicePick its.toArray lo hi none = ((its.drop (HT.sIx its.length 0 lo)).take (HT.sIx its.length its.length hi - HT.sIx its.length 0 lo)).toArray := by
  obtain ⟨h1, h2, h3⟩ := slice_bounds lo hi its.toArray.size
  unfold slicePick
  rw [h1, h2, h3]
  simp only [sliceRange_one, pick_run, List.size_toArray] <;> rfl
/-- xs[lo:hi] of a list: a new list -/
def rSlL (K : PySem.W.Frag) : V → Option Int → Option Int → Hp → VK → Prop := fun x lo hi H Q => ∃ a xs, x = .ref a ∧ SqL K H a xs ∧ ∀ p, H p = none → Q (.ref p) (upd H p (.lst (cutV xs lo hi)))
theorem sl_list : SlR X (rSlL X.K) := by
  intro pins s σ H x v vl vu lo hi sl Q I rx hs pl pu h
  obtain ⟨a, xs, rfl, hx, q⟩ := h
  cases rx
  obtain ⟨its, r, ht, hz⟩ := I.list hx
  have hlen := r.length
  refine ⟨"list", _, slot_list_getitem.lookup, ht.isList.typeIs, ?_⟩
  refine wpAny_getItem_list_slice ht.isList hs pl pu .none (by simp) ?_ (by rw [List.size_toArray] <;> omega)
  rw [slicePick_cut, ← hlen]
  refine ⟨.ref s.heap.objs.size, _, I.laid (t' := s.toks) (o := .lst (cutV xs lo hi)) (fun b ob q => Heap.get?_push_of_some _ q) (Nat.le_refl _) ?_, rfl, q _ (I.hok.fresh (Nat.le_refl _))⟩
  exact ⟨Nat.le_trans (cutV_length xs lo hi) hz, _, 0, (r.drop (HT.sIx xs.length 0 lo)).take (HT.sIx xs.length xs.length hi - HT.sIx xs.length 0 lo), Heap.get?_push_size _ rfl⟩
/-! ### in, not in: flat items -/
def flatV : V → Bool
  | .non => true
  | .bl _ => true
  | .int _ => true
  | .str _ => true
  | _ => false
/-- == of flat values -/
def eqV : V → V → Bool
  | .non, .non => true
  | .bl a, .bl b => a == b
  | .bl a, .int b => (if a then 1 else 0) == b
  | .int a, .bl b => a == (if b then 1 else 0)
  | .int a, .int b => a == b
  | .str a, .str b => a == b
  | _, _ => false
theorem eqAt_V {A : Around} {s : Shared} {y x : V} {u v : Value} (ry : RelV y u) (rx : RelV x v) (fy : flatV y = true) (fx : flatV x = true) : SeqAt.EqAt A s u v (eqV y x) := by
  cases y with
  | non =>
    cases ry
    cases x with
    | non => cases rx; exact SeqAt.EqAt.same _
    | bl b => cases rx; exact SeqAt.EqAt.none_bool b
    | int b => obtain ⟨t, rfl⟩ := rx; exact SeqAt.EqAt.none_int b t
    | str b => obtain ⟨t, rfl⟩ := rx; exact SeqAt.EqAt.none_str b t
    | _ => exact absurd (show false = true from fx) Bool.false_ne_true
  | bl a =>
    cases ry
    cases x with
    | non => cases rx; exact SeqAt.EqAt.bool_none a
    | bl b => cases rx; exact SeqAt.EqAt.bool_bool a b
    | int b => obtain ⟨t, rfl⟩ := rx; exact SeqAt.EqAt.bool_int a b t
    | str b => obtain ⟨t, rfl⟩ := rx; exact SeqAt.EqAt.bool_str a b t
    | _ => exact absurd (show false = true from fx) Bool.false_ne_true
  | int a =>
    obtain ⟨t', rfl⟩ := ry
    cases x with
    | non => cases rx; exact SeqAt.EqAt.int_none a t'
    | bl b => cases rx; exact SeqAt.EqAt.int_bool a t' b
    | int b => obtain ⟨t, rfl⟩ := rx; exact SeqAt.EqAt.int_int a t' b t
    | str b => obtain ⟨t, rfl⟩ := rx; exact SeqAt.EqAt.int_str a t' b t
    | _ => exact absurd (show false = true from fx) Bool.false_ne_true
  | str a =>
    obtain ⟨t', rfl⟩ := ry
    cases x with
    | non => cases rx; exact SeqAt.EqAt.str_none a t'
    | bl b => cases rx; exact SeqAt.EqAt.str_bool a t' b
    | int b => obtain ⟨t, rfl⟩ := rx; exact SeqAt.EqAt.str_int a t' b t
    | str b => obtain ⟨t, rfl⟩ := rx; exact SeqAt.EqAt.str_str a t' b t
    | _ => exact absurd (show false = true from fx) Bool.false_ne_true
  | _ => exact absurd (show false = true from fy) Bool.false_ne_true
/-- the items' answers, read off the values (a value's own answer does not lean on its token) -/
def eqU (x : V) (u : Value) : Bool := match u with
  | .none => eqV .non x
  | .bool b => eqV (.bl b) x
  | .int i _ => eqV (.int i) x
  | .str z _ => eqV (.str z) x
  | _ => false
theorem eqU_of {x y : V} {u : Value} (r : RelV y u) (f : flatV y = true) : eqU x u = eqV y x := by
  cases y with
  | non => cases r; rfl
  | bl b => cases r; rfl
  | int i => obtain ⟨t, rfl⟩ := r; rfl
  | str z => obtain ⟨t, rfl⟩ := r; rfl
  | _ => exact absurd (show false = true from f) Bool.false_ne_true
theorem any_eqU {x : V} : ∀ {xs : List V} {us : List Value}, Vals xs us → xs.all flatV = true → us.any (eqU x) = xs.any fun y => eqV y x
  | _, _, .nil, _ => rfl
  | y :: xs, u :: us, .cons r t, f => by
    rw [List.all_cons, Bool.and_eq_true] at f
    rw [List.any_cons, List.any_cons, eqU_of r f.1, any_eqU t f.2]
theorem mem_eqAt {A : Around} {s : Shared} {x : V} {v : Value} (rx : RelV x v) (fx : flatV x = true) : ∀ {xs : List V} {us : List Value}, Vals xs us → xs.all flatV = true → ∀ u ∈ us, SeqAt.EqAt A s u v (eqU x u)
  | _, _, .nil, _ => fun u hu => by cases hu
  | y :: xs, u :: us, .cons r t, f => fun u' hu => by
    rw [List.all_cons, Bool.and_eq_true] at f
    rcases List.mem_cons.mp hu with rfl | hu
    · rw [eqU_of r f.1]; exact eqAt_V r rx f.1 fx
    · exact mem_eqAt rx fx t f.2 u' hu
def inV (x : V) (xs : List V) : Bool := xs.any fun y => eqV y x
/-- x in a list or tuple of flat items -/
def rIn (K : PySem.W.Frag) (neg : Bool) : R2 := fun x y H Q => ∃ p xs, y = .ref p ∧ (SqL K H p xs ∨ SqT K H p xs) ∧ flatV x = true ∧ xs.all flatV = true ∧ Q (.bl (if neg then !inV x xs else inV x xs)) H
theorem op_in_seq : OpR X (compareOp .In) (rIn X.K false) := by
  intro pins s σ H x y v u Q I rx ry h
  obtain ⟨p, xs, rfl, hq, fx, fs, q⟩ := h
  cases ry
  rcases hq with hq | hq
  · obtain ⟨its, r, pl, hz⟩ := I.list hq
    refine SeqAt.in_listAt (eqU x) pl.isList (fun w hw => mem_eqAt rx fx r fs w (by simpa using hw)) ⟨.bl _, H, I, rfl, ?_⟩
    rw [show its.toArray.any (eqU x) = its.any (eqU x) by simp, any_eqU r fs]
    exact q
  · obtain ⟨its, r, pl, hz⟩ := I.tuple hq
    refine SeqAt.in_tupleAt (eqU x) pl (fun w hw => mem_eqAt rx fx r fs w (by simpa using hw)) ⟨.bl _, H, I, rfl, ?_⟩
    rw [show its.toArray.any (eqU x) = its.any (eqU x) by simp, any_eqU r fs]
    exact q
/-! ### len, list(x), tuple(x) of any list or tuple that is read -/
theorem call_len_seq : CallR X (.builtin "len") (fun xs H Q => ∃ p ys, xs = [.ref p] ∧ (SqL X.K H p ys ∨ SqT X.K H p ys) ∧ Q (.int ys.length) H) := by
  intro pins s σ H xs us Q I r h
  obtain ⟨p, ys, rfl, hq, q⟩ := h
  obtain ⟨u, rfl, rx⟩ := vals1 r
  cases rx
  have hn := line63
  rcases hq with hq | hq
  · obtain ⟨its, r', pl, hz⟩ := I.list hq
    have hlen := r'.length
    exact Calls.call_len_list pl.isList (by simp only [List.size_toArray] <;> omega) ⟨.int ys.length, H, I.tok _, ⟨s.toks + 1, by rw [List.size_toArray, hlen]⟩, q⟩
  · obtain ⟨its, r', pl, hz⟩ := I.tuple hq
    have hlen := r'.length
    exact len_tuple pl (by simp only [List.size_toArray] <;> omega) ⟨.int ys.length, H, I.tok _, ⟨s.toks + 1, by rw [List.size_toArray, hlen]⟩, q⟩
theorem CallR.or {f : Value} {r r' : List V → Hp → VK → Prop} (h : CallR X f r) (h' : CallR X f r') : CallR X f (fun xs H Q => r xs H Q ∨ r' xs H Q) := by
  intro pins s σ H xs us Q I rs q
  rcases q with q | q
  · exact h pins s σ H xs us Q I rs q
  · exact h' pins s σ H xs us Q I rs q
/-! ### the call of a builtin's method: o.m(..) -/
/-- the value is of that builtin type -/
def tyV (K : PySem.W.Frag) (T : String) (x : V) (H : Hp) : Prop := match x with
  | .str _ => T = "str"
  | .int _ => T = "int"
  | .ref p => (T = "list" ∧ ∃ xs, SqL K H p xs) ∨ (T = "tuple" ∧ ∃ o, K.lookup p = some o ∧ o.cls = .type "tuple" ∧ o.dict = none) ∨
      (T = "dict" ∧ ((∃ kvs, H p = some (.dK kvs)) ∨ ∃ kvs, H p = some (.dT kvs))) ∨ (T = "set" ∧ ∃ S n, H p = some (.set S n))
  | _ => False
theorem tyV_is {pins : List (Addr × Obj)} {σ : St} {H : Hp} {s : Shared} {T : String} {x : V} {v : Value} (I : Inv X pins σ H s) (r : RelV x v) (ty : tyV X.K T x H) :
    s.TypeIs v T ∧ ∀ a, v = .ref a → ∃ ob, s.heap.get? a = some ob ∧ ob.dict = none := by
  cases x with
  | str z =>
    obtain ⟨t, rfl⟩ := r
    cases (show T = "str" from ty)
    exact ⟨typeIs_str s z t, fun _ e => nomatch e⟩
  | int i =>
    obtain ⟨t, rfl⟩ := r
    cases (show T = "int" from ty)
    exact ⟨typeIs_int s i t, fun _ e => nomatch e⟩
  | ref p =>
    cases r
    rcases ty with ⟨rfl, xs, hq⟩ | ⟨rfl, o, hk, hc, hd⟩ | ⟨rfl, hk⟩ | ⟨rfl, S, n, hk⟩
    · obtain ⟨its, _, pl, _⟩ := I.list hq
      refine ⟨pl.isList.typeIs, fun a e => ?_⟩
      cases e
      obtain ⟨o, n, e, c, hd, _⟩ := pl
      exact ⟨o, e, hd⟩
    · refine ⟨⟨o, I.kIn p o hk, hc⟩, fun a e => ?_⟩
      cases e
      exact ⟨o, I.kIn _ o hk, hd⟩
    · have z : ∃ o, s.heap.get? p = some o ∧ o.ExactDict := by
        rcases hk with ⟨kvs, hk⟩ | ⟨kvs, hk⟩
        · obtain ⟨_, _, _, _, o, _, _, e, ex, _⟩ := I.hok p _ hk
          exact ⟨o, e, ex⟩
        · obtain ⟨_, _, _, _, o, _, _, e, ex, _⟩ := I.hok p _ hk
          exact ⟨o, e, ex⟩
      obtain ⟨o, e, ex⟩ := z
      refine ⟨⟨o, e, ex.1⟩, fun a e2 => ?_⟩
      cases e2
      exact ⟨o, e, ex.2.1⟩
    · obtain ⟨o, _, _, _, e, ex, _⟩ := I.hok p _ hk
      refine ⟨⟨o, e, ex.1⟩, fun a e2 => ?_⟩
      cases e2
      exact ⟨o, e, ex.2.1⟩
  | _ => exact False.elim ty
def tBM0 (K : PySem.W.Frag) (T : String) (r : V → List V → Hp → VK → Prop) (to : TE) : TE := fun σ H Q => to σ H fun x H1 => tyV K T x H1 ∧ r x [] H1 Q
def tBM (K : PySem.W.Frag) (T : String) (r : V → List V → Hp → VK → Prop) (to : TE) (t : TA) : TE := fun σ H Q => to σ H fun x H1 => tyV K T x H1 ∧ t σ H1 fun xs H2 => r x xs H2 Q
variable {o e : Expr} {es : List Expr} {to : TE} {t : TA} {name : Str} {apos cpos : Pos} {T id : String} {r : V → List V → Hp → VK → Prop}
theorem pe_bm0 (pa : PlainAttrs T) (slot : Slot T name id) (hty : typeOf (.builtin id) = pure (.type "method_descriptor")) (hm : MtR X id r) (ho : PE X o to)
    (hbase : attributeBase o name X.env (eval o X.env) = eval o X.env := by rfl) (hline : (apos.endLine == cpos.line) = true := by rfl) : PE X (.Call (.Attribute o name apos) [] [] cpos) (tBM0 X.K T r to) := by
  intro pins s σ H Q I h
  refine wpAny_Call_method0_late hbase hline (thn (ho pins s σ H _ I h) fun v s1 ⟨x, H1, I1, r1, ty, q1⟩ => ?_)
  obtain ⟨h1, h2⟩ := tyV_is I1 r1 ty
  exact ⟨T, id, pa, slot, hty, h1, h2, Calls.callWith_builtin rfl (PySem.evalArgs_none (hm pins s1 σ H1 x [] v [] Q I1 r1 .nil q1))⟩
theorem pe_bm (pa : PlainAttrs T) (slot : Slot T name id) (hty : typeOf (.builtin id) = pure (.type "method_descriptor")) (hm : MtR X id r) (ho : PE X o to) (ha : PA X (e :: es) t)
    (hbase : attributeBase o name X.env (eval o X.env) = eval o X.env := by rfl)
    (hfew : ((backTo cpos (starEach (e :: es) X.env)).all (fun x => !x.1) && (backToKw cpos (keywordEach [] X.env)).all (fun x => x.1.isSome)
      && decide ((e :: es).length + ([] : List Keyword).length + (if ([] : List Keyword).isEmpty then 0 else 1) < 30)) = true := by rfl)
    (hline : (apos.endLine == cpos.line) = true := by rfl) (hs : starEach (e :: es) X.env = (false, eval e X.env) :: starEach es X.env := by rfl) (hplain : (backTo cpos (starEach es X.env)).any (·.1) = false := by rfl) :
    PE X (.Call (.Attribute o name apos) (e :: es) [] cpos) (tBM X.K T r to t) := by
  intro pins s σ H Q I h
  refine wpAny_Call_method_late hbase hfew hline rfl (thn (ho pins s σ H _ I h) fun v s1 ⟨x, H1, I1, r1, ty, q1⟩ => ?_)
  obtain ⟨h1, h2⟩ := tyV_is I1 r1 ty
  refine ⟨T, id, pa, slot, hty, h1, h2, ?_⟩
  have hA := ha cpos pins s1 σ H1 _ I1 q1
  rw [hs] at hA ⊢
  refine Calls.callWith_builtin (by show (false || (backTo cpos (starEach es X.env)).any (·.1)) = false; rw [hplain] <;> rfl) (Calls.evalArgs_plain ?_)
  exact thn hA fun us s2 ⟨vs, H2, I2, r2, q2⟩ => hm pins s2 σ H2 x vs v us Q I2 r1 r2 q2
/- xs.append(e), list.index on a module's tuple .. are MtR facts of 06m -/
end
end L2
namespace L2
open PySem PySem.Spec PyProof.Rows
def MtM (X : Cx) (id : String) (r : V → List V → Hp → VK → Prop) : Prop :=
  ∀ (pins : List (Addr × Obj)) (s : Shared) (σ : St) (H : Hp) (x : V) (xs : List V) (v : Value) (us : List Value) (Q : VK), Inv X pins σ H s → RelV x v → Vals xs us → r x xs H Q →
    wpAny (model X.prog X.w) X.A (call (.builtin id) (v :: us)) (EP X pins σ Q) X.xe s
/-! ### lists of values -/
theorem Vals.one : ∀ {x : V} {us : List Value}, Vals [x] us → ∃ u, us = [u] ∧ RelV x u
  | _, _, .cons r .nil => ⟨_, rfl, r⟩
theorem Vals.two : ∀ {x y : V} {us : List Value}, Vals [x, y] us → ∃ u v, us = [u, v] ∧ RelV x u ∧ RelV y v
  | _, _, _, .cons r (.cons q .nil) => ⟨_, _, rfl, r, q⟩
theorem Vals.zero : ∀ {us : List Value}, Vals [] us → us = []
  | _, .nil => rfl
theorem Vals.dropLast {xs : List V} {us : List Value} (h : Vals xs us) : Vals xs.dropLast us.dropLast := by
  induction h with
  | nil => exact .nil
  | cons r t ih =>
    cases t with
    | nil => exact .nil
    | cons q t' => exact .cons r ih
theorem Vals.eraseIdx : ∀ {xs : List V} {us : List Value} (i : Nat), Vals xs us → Vals (xs.eraseIdx i) (us.eraseIdx i)
  | _, _, _, .nil => .nil
  | _, _, 0, .cons _ t => t
  | _, _, i + 1, .cons r t => .cons r (Vals.eraseIdx i t)
theorem Vals.reverse {xs : List V} {us : List Value} (h : Vals xs us) : Vals xs.reverse us.reverse := by
  induction h with
  | nil => exact .nil
  | cons r t ih => rw [List.reverse_cons, List.reverse_cons]; exact Vals.append ih (.cons r .nil)
theorem erase_last {α : Type} (l : List α) : l.eraseIdx (l.length - 1) = l.dropLast := by
  induction l with
  | nil => rfl
  | cons a r ih =>
    cases r with
    | nil => rfl
    | cons b r =>
      have e : (a :: b :: r).length - 1 = ((b :: r).length - 1) + 1 := by
        have h1 : (a :: b :: r).length = r.length + 2 := rfl
        have h2 : (b :: r).length = r.length + 1 := rfl
        omega
      rw [e, List.eraseIdx_cons_succ, ih]
      all_goals rfl
theorem len_erase {α : Type} : ∀ (l : List α) (i : Nat), (l.eraseIdx i).length ≤ l.length
  | [], _ => Nat.le_refl _
  | _ :: _, 0 => Nat.le_succ _
  | _ :: r, i + 1 => Nat.succ_le_succ (len_erase r i)
section
variable {X : Cx} {pins : List (Addr × Obj)} {σ : St} {H : Hp} {s : Shared} {l b : Addr} {xs ys zs : List V}
/-! ### the two steps: a tracked list is rewritten, a new list is laid -/
theorem Inv.lset {its its' : List Value} {n : Nat} {f : Array Value → Array Value} {t' : Nat} (I : Inv X pins σ H s) (hH : H l = some (.lst xs))
    (e : s.heap.get? l = some { cls := .type "list", data := .seq its.toArray n }) (hf : f its.toArray = its'.toArray) (hv : Vals ys its') (hz : ys.length ≤ sizeLine) :
    Inv X pins σ (upd H l (.lst ys)) { s with heap := s.heap.update l (Obj.mapSeq f), toks := t' } := by
  have q := PySem.IsL.update e f
  rw [hf] at q
  refine I.write (x := l) (e := l) (by rw [hH]; exact trivial) (.inl rfl) (fun b' u hb hu => (Heap.get?_update_other s.heap (Obj.mapSeq f) (Ne.symm hb)).trans hu) ⟨_, q⟩ ?_
  exact ⟨hz, its', _, hv, q⟩
theorem Inv.lnew {its : List Value} {t' : Nat} (I : Inv X pins σ H s) (hv : Vals ys its) (hz : ys.length ≤ sizeLine) :
    Inv X pins σ (upd H s.heap.objs.size (.lst ys)) { s with heap := s.heap.push { cls := .type "list", data := .seq its.toArray }, toks := t' } :=
  I.laid (fun _ _ q => Heap.get?_push_of_some _ q) (Nat.le_refl _) ⟨hz, its, 0, hv, Heap.get?_push_size _ rfl⟩
theorem Inv.fresh (I : Inv X pins σ H s) : H s.heap.objs.size = none := I.hok.fresh (Nat.le_refl _)
theorem Inv.lstM (I : Inv X pins σ H s) (hH : H l = some (.lst xs)) : xs.length ≤ sizeLine ∧ ∃ (its : List Value) (n : Nat), Vals xs its ∧ xs.length = its.length ∧ s.heap.get? l = some { cls := .type "list", data := .seq its.toArray n } := by
  obtain ⟨z, its, n, r, e⟩ := I.hok l _ hH
  exact ⟨z, its, n, r, r.length, e⟩
theorem notLongL {n : Nat} (h : n ≤ sizeLine) : Builtin.List.listTooLong n = false := by
  unfold Builtin.List.listTooLong
  exact decide_eq_false (by omega)
end
section
variable {X : Cx}
/-! ### methods -/
def rAppend : V → List V → Hp → VK → Prop := fun x vs H Q => ∃ l xs y, x = .ref l ∧ vs = [y] ∧ H l = some (.lst xs) ∧ xs.length < sizeLine ∧ Q .non (upd H l (.lst (xs ++ [y])))
theorem mt_append : MtM X "list.append" rAppend := by
  intro pins s σ H x vs v us Q I rx rv h
  obtain ⟨l, xs, y, rfl, rfl, hH, hz, q⟩ := h
  cases rx
  obtain ⟨u, rfl, ru⟩ := rv.one
  obtain ⟨z, its, n, r, hl, e⟩ := I.lstM hH
  refine call_meets F.slot_list_append ⟨_, e, rfl⟩ F.entry_list_append (F.args_list_append_2 _ _) (PySem.list_append l its.toArray n u (by rw [List.size_toArray]; omega)) ⟨e, ?_⟩
  refine ⟨.non, _, I.lset (its' := its ++ [u]) hH e (by simp) (r.append (.cons ru .nil)) ?_, rfl, q⟩
  rw [List.length_append, List.length_singleton]
  omega
def rExtend : V → List V → Hp → VK → Prop := fun x vs H Q => ∃ l b xs zs, x = .ref l ∧ vs = [.ref b] ∧ H l = some (.lst xs) ∧ H b = some (.lst zs) ∧ xs.length + zs.length ≤ sizeLine ∧ Q .non (upd H l (.lst (xs ++ zs)))
theorem mt_extend : MtM X "list.extend" rExtend := by
  intro pins s σ H x vs v us Q I rx rv h
  obtain ⟨l, b, xs, zs, rfl, rfl, hH, hB, hz, q⟩ := h
  cases rx
  obtain ⟨u, rfl, ru⟩ := rv.one
  cases ru
  obtain ⟨z, its, n, r, hl, e⟩ := I.lstM hH
  obtain ⟨z2, its2, n2, r2, hl2, e2⟩ := I.lstM hB
  have hsz : its.toArray.size + its2.toArray.size ≤ sizeLine := by rw [List.size_toArray, List.size_toArray]; omega
  have hlong : ¬ (!its.toArray.isEmpty && Builtin.List.listTooLong (its.toArray.size + its2.toArray.size)) = true := by
    rw [notLongL hsz, Bool.and_false]
    exact Bool.false_ne_true
  refine call_meets F.slot_list_extend ⟨_, e, rfl⟩ F.entry_list_extend (F.args_list_extend_2 _ _)
    (AutoSeq1.list_extend_list_list_0 l its.toArray n b its2.toArray n2 hlong (by rw [List.size_toArray]; omega) (by omega)) ⟨e, e2, ?_⟩
  refine ⟨.non, _, I.lset (its' := its ++ its2) hH e (by simp) (r.append r2) ?_, rfl, q⟩
  rw [List.length_append]
  omega
def rPop : V → List V → Hp → VK → Prop := fun x vs H Q => ∃ l xs y, x = .ref l ∧ vs = [] ∧ H l = some (.lst xs) ∧ xs[xs.length - 1]? = some y ∧ Q y (upd H l (.lst xs.dropLast))
theorem mt_pop : MtM X "list.pop" rPop := by
  intro pins s σ H x vs v us Q I rx rv h
  obtain ⟨l, xs, y, rfl, rfl, hH, hy, q⟩ := h
  cases rx
  have hus := rv.zero
  subst hus
  obtain ⟨z, its, n, r, hl, e⟩ := I.lstM hH
  obtain ⟨u, hu, ru⟩ := r.get hy
  have hy' : its.toArray[its.toArray.size - 1]? = some u := by
    show its.toArray[its.length - 1]? = some u
    rw [← Array.getElem?_toList, ← hl]
    exact hu
  refine call_meets F.slot_list_pop ⟨_, e, rfl⟩ F.entry_list_pop (F.args_list_pop_1 _) (MeetsSeq.list_pop_last l its.toArray n u hy' (by rw [List.size_toArray]; omega)) ⟨e, ?_⟩
  refine ⟨y, _, I.lset (its' := its.dropLast) hH e ?_ r.dropLast ?_, ru, q⟩
  · show its.toArray.eraseIdxIfInBounds (its.toArray.size - 1) = its.dropLast.toArray
    rw [List.size_toArray, List.eraseIdxIfInBounds_toArray, erase_last]
  · rw [List.length_dropLast]
    omega
/-! ### list + list, list += list, list * int -/
def rCat : R2 := fun x y H Q => ∃ l b xs zs, x = .ref l ∧ y = .ref b ∧ H l = some (.lst xs) ∧ H b = some (.lst zs) ∧ xs.length + zs.length ≤ sizeLine ∧ ∀ p, H p = none → Q (.ref p) (upd H p (.lst (xs ++ zs)))
theorem op_cat : OpR X (binaryOp .Add) rCat := by
  intro pins s σ H x y v u Q I rx ry h
  obtain ⟨l, b, xs, zs, rfl, rfl, hH, hB, hz, q⟩ := h
  cases rx
  cases ry
  obtain ⟨z, its, n, r, hl, e⟩ := I.lstM hH
  obtain ⟨z2, its2, n2, r2, hl2, e2⟩ := I.lstM hB
  refine PySem.P.add_list e e2 ?_ (by rw [List.size_toArray, List.size_toArray]; omega)
  have ea : its.toArray ++ its2.toArray = (its ++ its2).toArray := by simp
  rw [ea]
  exact ⟨.ref _, _, I.lnew (t' := s.toks) (r.append r2) (by rw [List.length_append]; omega), rfl, q _ I.fresh⟩
/-! ### del xs[i] -/
end
/-! ### xs[a:b] = ys -/
section
variable {prog : Program} {w : World} {A : Around} {E : Value → Shared → Prop} {s : Shared}
end
section
variable {X : Cx}
end
end L2
namespace L2
open PySem PySem.Spec PyProof.Rows
theorem Vals.ints : ∀ {ns : List Int} {us : List Value}, Vals (ns.map V.int) us → IntsAre us ns
  | [], us, h => by
    rw [List.map_nil] at h
    cases h
    exact IntsAre.nil
  | n :: ns, us, h => by
    rw [List.map_cons] at h
    cases h with
    | cons r t =>
      obtain ⟨k, rfl⟩ := r
      exact IntsAre.cons n k (Vals.ints t)
theorem Vals.strs : ∀ {xs : List Str} {us : List Value}, Vals (xs.map V.str) us → StrsAre us xs
  | [], us, h => by
    rw [List.map_nil] at h
    cases h
    exact StrsAre.nil
  | x :: xs, us, h => by
    rw [List.map_cons] at h
    cases h with
    | cons r t =>
      obtain ⟨k, rfl⟩ := r
      exact StrsAre.cons x k (Vals.strs t)
theorem Vals.ref1 {a : Addr} {us : List Value} (r : Vals [V.ref a] us) : us = [Value.ref a] := by
  cases r with
  | cons r t =>
    cases t
    cases r
    rfl
/-! ### the library's walks over a list of ints, kept objects alone -/
section
variable {prog : Program} {w : World} {A : Around} {E : Value → Shared → Prop} {s : Shared} {l : Addr} {its : List Value} {ns : List Int} {Q : Value → Shared → Prop}
theorem sum_raw (hh : A.handled = none) (hl : s.heap.IsList l its.toArray) (hi : IntsAre its ns)
    (h : ∀ h' tk t', (∀ b o, s.heap.get? b = some o → h'.get? b = some o) → Q (.int ns.sum t') { s with heap := h', toks := tk }) : wpAny (model prog w) A (call (.builtin "sum") [.ref l]) Q E s := by
  obtain ⟨xs, e⟩ := hi.allInts.items
  have hn : numsOf (intItems xs).toList = ns := by rw [← e]; exact hi.numsOf
  rw [nums_intItems] at hn
  rw [e] at hl
  refine PySem.sum_intListG hh hl fun h' tk t' hk => ?_
  have := h h' tk t' hk
  rw [preSum_eq, List.take_of_length_le (by simp), hn]; exact this
end
/-! ### the calls, by values (CallR of 03t; MtR of 06l) -/
section
variable {X : Cx}
/-- sum(xs) of a list of ints -/
def rSum (K : PySem.W.Frag) : List V → Hp → VK → Prop := fun vs H Q => ∃ (a : Addr) (ns : List Int), vs = [V.ref a] ∧ SqL K H a (ns.map V.int) ∧ Q (.int ns.sum) H
theorem cr_sum (hc : X.calm = true) : CallR X (.builtin "sum") (rSum X.K) := by
  intro pins s σ H vs us Q I r h
  obtain ⟨a, ns, rfl, hs, q⟩ := h
  obtain ⟨its, rv, hl, _⟩ := I.list hs
  rw [Vals.ref1 r]
  exact sum_raw (I.ok.hd hc) hl.isList rv.ints fun h' tk t' hk => ⟨.int _, H, I.kept hk, ⟨_, rfl⟩, q⟩
/-! sorted, sort (fewer than 64 items: the library's own bound) -/
end
/-! ### list.index, flat items -/
section
variable {X : Cx}
end
/-! ### type(x) of an own instance; is, is not of a module's class -/
section
variable {X : Cx}
end
/-! ### any(xs), all(xs) of a list of bools -/
section
variable {X : Cx}
end
/-! ### == and != of data at any depth: none, bools, ints, texts, lists, tuples -/
mutual
inductive Dp (K : PySem.W.Frag) (H : Hp) : V → PyData → Prop
  | non : Dp K H .non .none
  | bl (b : Bool) : Dp K H (.bl b) (.bool b)
  | int (i : Int) : Dp K H (.int i) (.int i)
  | str (x : Str) : Dp K H (.str x) (.str x)
  | lst {a : Addr} {xs : List V} {ds : List PyData} : SqL K H a xs → DpAll K H xs ds → Dp K H (.ref a) (.list ds)
  | tup {a : Addr} {xs : List V} {ds : List PyData} : SqT K H a xs → DpAll K H xs ds → Dp K H (.ref a) (.tuple ds)
inductive DpAll (K : PySem.W.Frag) (H : Hp) : List V → List PyData → Prop
  | nil : DpAll K H [] []
  | cons {v : V} {vs : List V} {d : PyData} {ds : List PyData} : Dp K H v d → DpAll K H vs ds → DpAll K H (v :: vs) (d :: ds)
end
section
variable {X : Cx} {pins : List (Addr × Obj)} {σ : St} {H : Hp} {s : Shared}
mutual
theorem Dp.reads (I : Inv X pins σ H s) : ∀ (d : PyData) (v : V) (u : Value), Dp X.K H v d → RelV v u → ∃ as, Reads s.heap u d as
  | .none, _, _, h, r => by
    cases h
    cases r
    exact ⟨_, Reads.none⟩
  | .bool b, _, _, h, r => by
    cases h
    cases r
    exact ⟨_, Reads.bool b⟩
  | .int i, _, _, h, r => by
    cases h
    obtain ⟨t, rfl⟩ := r
    exact ⟨_, Reads.int i t⟩
  | .str x, _, _, h, r => by
    cases h
    obtain ⟨t, rfl⟩ := r
    exact ⟨_, Reads.str x t⟩
  | .list ds, _, _, h, r => by
    cases h with
    | lst hs ha =>
      cases r
      obtain ⟨its, rv, ⟨o, n, ho, hc, _, hd⟩, _⟩ := I.list hs
      obtain ⟨as, hr⟩ := Dp.readsAll I ds _ its ha rv
      exact ⟨_, Reads.list ho hc hd hr⟩
  | .tuple ds, _, _, h, r => by
    cases h with
    | tup hs ha =>
      cases r
      obtain ⟨its, rv, ⟨o, ho, hc, n, hd⟩, _⟩ := I.tuple hs
      obtain ⟨as, hr⟩ := Dp.readsAll I ds _ its ha rv
      exact ⟨_, Reads.tuple ho hc hd hr⟩
  | .dict _, _, _, h, _ => by cases h
theorem Dp.readsAll (I : Inv X pins σ H s) : ∀ (ds : List PyData) (vs : List V) (us : List Value), DpAll X.K H vs ds → Vals vs us → ∃ as, ReadsAll s.heap us ds as
  | [], _, _, h, r => by
    cases h
    cases r
    exact ⟨_, ReadsAll.nil⟩
  | d :: ds, _, _, h, r => by
    cases h with
    | cons h1 h2 =>
      cases r with
      | cons r1 r2 =>
        obtain ⟨as, q1⟩ := Dp.reads I d _ _ h1 r1
        obtain ⟨bs, q2⟩ := Dp.readsAll I ds _ _ h2 r2
        exact ⟨_, ReadsAll.cons q1 q2⟩
end
end
section
variable {X : Cx}
end
end L2
namespace L2
open PySem PySem.Spec PyProof.Rows
abbrev CellAt (h : Heap) (c : Addr) (v : Option Value) : Prop := h.IsCell c v
def relS (scope sc : Scope) : Scope :=
  { scope with names := scope.names.map fun (n, k) => if (k == .free && sc.kind == .function && sc.names.lookup n == some .cell) then (n, .cell) else (n, k) }
def cloFrom (cells : List (Str × Addr)) : List (Str × NameKind) → List (Str × Addr) → List (Str × Addr)
  | [], acc => acc
  | (n, k) :: r, acc => if k == .free then cloFrom cells r ((n, (cells.lookup n).getD 0) :: acc) else cloFrom cells r acc
theorem closure_loop (env : Env) (f : Str × NameKind → List (Str × Addr) → Sem (ForInStep (List (Str × Addr))))
    (hf : ∀ n k c, f (n, k) c = if k == .free then (do let a ← cellOf env n; pure (.yield ((n, a) :: c))) else pure (.yield c)) :
    ∀ (names : List (Str × NameKind)) (acc : List (Str × Addr)), (∀ y ∈ names, y.2 = .free → ∃ c, env.cells.lookup y.1 = some c) → forIn names acc f = pure (cloFrom env.cells names acc)
  | [], acc, _ => by rw [List.forIn_nil]; rfl
  | (n, k) :: r, acc, h => by
    rw [List.forIn_cons, hf]
    have ih := fun acc => closure_loop env f hf r acc fun y hy => h y (List.mem_cons_of_mem _ hy)
    unfold cloFrom
    by_cases hk : (k == NameKind.free) = true
    · rw [if_pos hk, if_pos hk]
      obtain ⟨c, hc⟩ := h (n, k) List.mem_cons_self (by simpa using hk)
      have e : cellOf env n = pure c := by unfold cellOf; rw [hc]
      rw [e]
      have e2 : (env.cells.lookup n).getD 0 = c := by rw [hc]; rfl
      rw [e2]
      exact ih _
    · rw [if_neg hk, if_neg hk]
      exact ih _
theorem closure_ok {scope : Scope} {env : Env} (h : ∀ y ∈ scope.names, y.2 = .free → ∃ c, env.cells.lookup y.1 = some c) : closureFor scope env = pure (cloFrom env.cells scope.names []) := by
  simp only [closureFor]
  rw [closure_loop env _ (fun n k c => rfl) scope.names [] h]
  rfl
theorem mem_lookup {α : Type} : ∀ {l : List (Str × α)} {n : Str} {c : α}, (n, c) ∈ l → ∃ c', l.lookup n = some c'
  | (k, v) :: r, n, c, h => by
    rw [List.lookup_cons]
    cases hb : n == k with
    | true => exact ⟨_, rfl⟩
    | false =>
      rcases List.mem_cons.mp h with e | h
      · cases e; simp at hb
      · exact mem_lookup h
theorem cloFrom_mem {cells : List (Str × Addr)} : ∀ {names : List (Str × NameKind)} {acc : List (Str × Addr)} {n : Str} {c : Addr}, (n, c) ∈ cloFrom cells names acc → (n, c) ∈ acc ∨ ((n, .free) ∈ names ∧ c = (cells.lookup n).getD 0)
  | [], _, _, _, h => .inl h
  | (m, k) :: r, acc, n, c, h => by
    unfold cloFrom at h
    split at h
    · rename_i hk
      have hk : k = .free := by simpa using hk
      rcases cloFrom_mem h with h | ⟨h1, h2⟩
      · rcases List.mem_cons.mp h with e | h
        · cases e; exact .inr ⟨hk ▸ List.mem_cons_self, rfl⟩
        · exact .inl h
      · exact .inr ⟨List.mem_cons_of_mem _ h1, h2⟩
    · rcases cloFrom_mem h with h | ⟨h1, h2⟩
      · exact .inl h
      · exact .inr ⟨List.mem_cons_of_mem _ h1, h2⟩
theorem cloFrom_acc {cells : List (Str × Addr)} : ∀ {names : List (Str × NameKind)} {acc : List (Str × Addr)} {p : Str × Addr}, p ∈ acc → p ∈ cloFrom cells names acc
  | [], _, _, h => h
  | (m, k) :: r, acc, p, h => by
    unfold cloFrom
    split
    · exact cloFrom_acc (List.mem_cons_of_mem _ h)
    · exact cloFrom_acc h
theorem cloFrom_has {cells : List (Str × Addr)} : ∀ {names : List (Str × NameKind)} {acc : List (Str × Addr)} {n : Str}, (n, .free) ∈ names → (n, (cells.lookup n).getD 0) ∈ cloFrom cells names acc
  | (m, k) :: r, acc, n, h => by
    unfold cloFrom
    rcases List.mem_cons.mp h with e | h
    · cases e
      exact cloFrom_acc List.mem_cons_self
    · split
      · exact cloFrom_has h
      · exact cloFrom_has h
theorem cells_mem : ∀ {names : List (Str × NameKind)} {h : Heap} {acc : List (Str × Addr)} {x : Str} {c : Addr}, (x, c) ∈ cellsFrom h.objs.size names acc →
    (x, c) ∈ acc ∨ ((x, .cell) ∈ names ∧ h.objs.size ≤ c ∧ CellAt (pushCells h names) c none)
  | [], _, _, _, _, h => .inl h
  | (n, k) :: r, h, acc, x, c, hm => by
    unfold cellsFrom at hm
    unfold pushCells
    split at hm
    · rename_i hk
      rw [if_pos hk]
      have hk : k = .cell := by simpa using hk
      rw [← Heap.size_push h { cls := .type "cell", data := .cell none }] at hm
      rcases cells_mem hm with hm | ⟨h1, h2, h3⟩
      · rcases List.mem_cons.mp hm with e | hm
        · cases e
          exact .inr ⟨hk ▸ List.mem_cons_self, Nat.le_refl _, _, pushCells_keeps r _ _ _ (Heap.get?_push_size _ rfl), rfl⟩
        · exact .inl hm
      · rw [Heap.size_push] at h2
        exact .inr ⟨List.mem_cons_of_mem _ h1, Nat.le_of_succ_le h2, h3⟩
    · rename_i hk
      rw [if_neg hk]
      rcases cells_mem hm with hm | ⟨h1, h2, h3⟩
      · exact .inl hm
      · exact .inr ⟨List.mem_cons_of_mem _ h1, h2, h3⟩
theorem cells_acc : ∀ {names : List (Str × NameKind)} {n : Nat} {acc : List (Str × Addr)} {p : Str × Addr}, p ∈ acc → p ∈ cellsFrom n names acc
  | [], _, _, _, h => h
  | (m, k) :: r, n, acc, p, h => by
    unfold cellsFrom
    split
    · exact cells_acc (List.mem_cons_of_mem _ h)
    · exact cells_acc h
theorem cells_has : ∀ {names : List (Str × NameKind)} {n : Nat} {acc : List (Str × Addr)} {x : Str}, (x, .cell) ∈ names → ∃ c, (x, c) ∈ cellsFrom n names acc
  | (m, k) :: r, n, acc, x, h => by
    unfold cellsFrom
    rcases List.mem_cons.mp h with e | h
    · cases e
      exact ⟨n, cells_acc List.mem_cons_self⟩
    · split
      · exact cells_has h
      · exact cells_has h
theorem cells_inj : ∀ {names : List (Str × NameKind)} {h : Heap} {acc : List (Str × Addr)} {x y : Str} {c : Addr}, (∀ p ∈ acc, p.2 < h.objs.size) → (∀ x y c, (x, c) ∈ acc → (y, c) ∈ acc → x = y) →
    (x, c) ∈ cellsFrom h.objs.size names acc → (y, c) ∈ cellsFrom h.objs.size names acc → x = y
  | [], _, _, _, _, _, _, hi, h1, h2 => hi _ _ _ h1 h2
  | (n, k) :: r, h, acc, x, y, c, hl, hi, h1, h2 => by
    unfold cellsFrom at h1 h2
    split at h1
    · rename_i hk
      rw [if_pos hk] at h2
      rw [← Heap.size_push h { cls := .type "cell", data := .cell none }] at h1 h2
      refine cells_inj (h := h.push _) (fun p hp => ?_) (fun x y c a b => ?_) h1 h2
      · rw [Heap.size_push]
        rcases List.mem_cons.mp hp with rfl | hp
        · exact Nat.lt_succ_self _
        · exact Nat.lt_succ_of_lt (hl p hp)
      · rcases List.mem_cons.mp a with e | a <;> rcases List.mem_cons.mp b with e' | b
        · cases e; cases e'; rfl
        · cases e; exact absurd (hl _ b) (Nat.lt_irrefl _)
        · cases e'; exact absurd (hl _ a) (Nat.lt_irrefl _)
        · exact hi _ _ _ a b
    · rename_i hk
      rw [if_neg hk] at h2
      exact cells_inj hl hi h1 h2
theorem newEnv_comp {M : Model} {A : Around} {E : Value → Shared → Prop} {s : Shared} {scope : Scope} {globals : Addr} {closure : List (Str × Addr)} {qual : Str} {func : Option Addr} {code : Value} {around : Env} {builtins : Addr} {Q : Env → Shared → Prop}
    (h : Q (newEnv scope s.heap.objs.size globals (cellsFrom (s.heap.objs.size + 1) scope.names closure) qual func code (some around) builtins)
      { s with heap := pushCells (s.heap.push { cls := .type "dict", data := .dict #[] }) scope.names }) :
    wpAny M A (newFunctionEnv scope globals closure [] qual func code (some around) builtins) Q E s := by
  simp only [newFunctionEnv, Option.isSome_some, if_true]
  refine wpAny_bind (wpAny_alloc ?_)
  refine wpAny_bind (wpAny_layCells _ (fun n k c => rfl) scope.names closure _ _ ?_)
  rw [show ({ s with heap := s.heap.push { cls := .type "dict", data := .dict #[] } } : Shared).heap.objs.size = s.heap.objs.size + 1 from Heap.size_push ..]
  rw [List.forIn_nil]
  exact wpAny_bind (wpAny_pure (wpAny_pure h))
/-- every name of the written scope, in the scope that runs -/
theorem lookup_relS {sc : Scope} : ∀ {names : List (Str × NameKind)} {x : Str} {k : NameKind},
    (names.map fun (n, k) => if (k == NameKind.free && sc.kind == .function && sc.names.lookup n == some .cell) then (n, NameKind.cell) else (n, k)).lookup x = some k →
    ∃ k', names.lookup x = some k' ∧ (k = k' ∨ (k' = .free ∧ k = .cell))
  | [], _, _, h => by simp at h
  | (n, k₀) :: r, x, k, h => by
    have ih := @lookup_relS sc r x k
    have h' : List.lookup x ((if (k₀ == NameKind.free && sc.kind == .function && sc.names.lookup n == some .cell) = true then (n, NameKind.cell) else (n, k₀)) :: (r.map _)) = some k := h
    cases hx : x == n with
    | true =>
      simp only [List.lookup_cons, hx]
      by_cases hc : (k₀ == NameKind.free && sc.kind == .function && sc.names.lookup n == some .cell) = true
      · rw [if_pos hc] at h'
        simp only [List.lookup_cons, hx] at h'
        cases h'
        simp only [Bool.and_eq_true, beq_iff_eq] at hc
        exact ⟨k₀, rfl, .inr ⟨hc.1.1, rfl⟩⟩
      · rw [if_neg hc] at h'
        simp only [List.lookup_cons, hx] at h'
        cases h'
        exact ⟨_, rfl, .inl rfl⟩
    | false =>
      simp only [List.lookup_cons, hx]
      by_cases hc : (k₀ == NameKind.free && sc.kind == .function && sc.names.lookup n == some .cell) = true
      · rw [if_pos hc] at h'
        simp only [List.lookup_cons, hx] at h'
        exact ih h'
      · rw [if_neg hc] at h'
        simp only [List.lookup_cons, hx] at h'
        exact ih h'
/-- the names of a comprehension's block: its own (with their places in N), or captured -/
structure BlkOk (N : List Str) (sc scope : Scope) (own : List (Str × Nat)) : Prop where
  kind : scope.kind = .function
  uniq : ∀ y ∈ scope.names, scope.names.lookup y.1 = some y.2
  ix : ∀ p ∈ own, N[p.2]? = some p.1
  free : ∀ y ∈ scope.names, y.2 = .free → sc.names.lookup y.1 = some .cell ∨ sc.names.lookup y.1 = some .free
  own : ∀ y ∈ scope.names, y.2 = .local ∨ y.2 = .cell → y.1 ∈ own.map (·.1) ∨ y.1 ∉ N
/-- the slots of the block's own names forgotten -/
def wipe (σ : St) : List Nat → St
  | [] => σ
  | v :: vs => (wipe σ vs).set v none
theorem wipe_length (σ : St) : ∀ vs : List Nat, (wipe σ vs).length = σ.length
  | [] => rfl
  | v :: vs => by unfold wipe; rw [List.length_set, wipe_length σ vs]
theorem wipe_some {σ : St} {i : Nat} {x : V} : ∀ {vs : List Nat}, (wipe σ vs)[i]? = some (some x) → σ[i]? = some (some x) ∧ i ∉ vs
  | [], h => ⟨h, by simp⟩
  | v :: vs, h => by
    unfold wipe at h
    by_cases hi : v = i
    · subst hi
      by_cases hv : v < (wipe σ vs).length
      · rw [List.getElem?_set_self hv] at h; cases h
      · rw [List.getElem?_eq_none (by simpa using hv)] at h; cases h
    · rw [List.getElem?_set_ne hi] at h
      obtain ⟨h1, h2⟩ := wipe_some h
      exact ⟨h1, by simp only [List.mem_cons, not_or]; exact ⟨fun e => hi e.symm, h2⟩⟩
/-- the context of a block that starts at s, its iterator's objects at fp -/
abbrev Cx.blk (X : Cx) (s : Shared) (H : Hp) (scope : Scope) (cenv : Env) (fp : List Addr) : Cx := { X with s_0 := s, H_0 := H, env := cenv, outer := X.stack, ex := fp, fn := fun x => scope.names.lookup x == some .cell, pn := [], xe := fun _ _ => False }
section
variable {X : Cx} {pins : List (Addr × Obj)} {σ : St} {H : Hp} {s : Shared}
theorem block_start {scope : Scope} {own : List (Str × Nat)} {fp : List Addr} (I : Inv X pins σ H s) (ok : BlkOk X.N X.env.scope scope own) (hN : X.N.Nodup) (hfp : ∀ b ∈ fp, FpOk X pins H b ∧ b < s.heap.objs.size) :
    Inv (X.blk s H scope (compEnvC scope (cellsFrom (s.heap.objs.size + 1) scope.names (cloFrom X.env.cells scope.names [])) s.heap.objs.size X.env) fp) [] (wipe σ (own.map (·.2))) H { s with heap := pushCells (s.heap.push { cls := .type "dict", data := .dict #[] }) scope.names } := by
  have hfree : ∀ y ∈ scope.names, y.2 = .free → ∃ c, X.env.cells.lookup y.1 = some c := fun y hy e => by
    rcases ok.free y hy e with k | k
    · exact I.ok.has _ (.inl k)
    · exact I.ok.has _ (.inr k)
  generalize hcenv : compEnvC scope (cellsFrom (s.heap.objs.size + 1) scope.names (cloFrom X.env.cells scope.names [])) s.heap.objs.size X.env = cenv
  have kp : ∀ b o, s.heap.get? b = some o → (pushCells (s.heap.push { cls := .type "dict", data := .dict #[] }) scope.names).get? b = some o := fun b o e => pushCells_keeps _ _ _ _ (Heap.get?_push_of_some _ e)
  have hL : cenv.locals = s.heap.objs.size := by rw [← hcenv]; rfl
  have hcl : cenv.cells = cellsFrom (s.heap.objs.size + 1) scope.names (cloFrom X.env.cells scope.names []) := by rw [← hcenv]; rfl
  have hsc : cenv.scope = relS scope X.env.scope := by rw [← hcenv]; rfl
  rw [← Heap.size_push s.heap { cls := .type "dict", data := .dict #[] }] at hcl
  have cm : ∀ {y c}, (y, c) ∈ cloFrom X.env.cells scope.names [] → X.env.cells.lookup y = some c ∧ c < s.heap.objs.size := fun {y c} hm => by
    rcases cloFrom_mem hm with hm | ⟨h1, rfl⟩
    · cases hm
    · obtain ⟨c, hc⟩ := hfree _ h1 rfl
      rw [hc]
      obtain ⟨w, z⟩ := I.cell _ _ hc
      exact ⟨rfl, z.lt⟩
  have mem : ∀ {y c}, cenv.cells.lookup y = some c → (X.env.cells.lookup y = some c ∧ c < s.heap.objs.size) ∨ (s.heap.objs.size + 1 ≤ c ∧ CellAt (pushCells (s.heap.push { cls := .type "dict", data := .dict #[] }) scope.names) c none) := fun {y c} e => by
    rw [hcl] at e
    rcases cells_mem (PySem.mem_of_lookup e) with hm | ⟨_, h2, h3⟩
    · exact .inl (cm hm)
    · rw [Heap.size_push] at h2; exact .inr ⟨h2, h3⟩
  have look : ∀ {y}, scope.names.lookup y = some .free → ∃ c, cenv.cells.lookup y = some c ∧ X.env.cells.lookup y = some c := fun {y} hl => by
    have hy : (y, NameKind.free) ∈ scope.names := PySem.mem_of_lookup hl
    obtain ⟨c', e'⟩ := mem_lookup (cells_acc (names := scope.names) (n := (s.heap.push { cls := .type "dict", data := .dict #[] }).objs.size) (cloFrom_has (cells := X.env.cells) (acc := []) hy))
    rw [← hcl] at e'
    refine ⟨c', e', ?_⟩
    rw [hcl] at e'
    rcases cells_mem (PySem.mem_of_lookup e') with hm | ⟨h1, _, _⟩
    · exact (cm hm).1
    · have := ok.uniq _ h1
      rw [hl] at this; cases this
  have okB : (X.blk s H scope cenv fp).Ok := by
    refine ⟨I.ok.mod, by show cenv.scope.kind = _; rw [hsc]; exact ok.kind, by show cenv.globals = _; rw [← hcenv]; exact I.ok.glob, by show cenv.builtins = _; rw [← hcenv]; exact I.ok.blt, by show s.heap.objs.size ≤ cenv.locals; rw [hL]; exact Nat.le_refl _,
      fun y z c e1 e2 => ?_, fun y hy => ?_, fun y c z e => ?_, I.ok.hd, I.ok.frames, .inl rfl, fun b hb => ⟨?_, fun y c e z => ?_⟩, I.bs, Nat.le_trans I.ok.bsz I.sz, fun b o e hb => ?_, fun b hb z => ?_, I.stack, I.stkFree⟩
    · have e1 : cenv.cells.lookup y = some c := e1
      have e2 : cenv.cells.lookup z = some c := e2
      rw [hcl] at e1 e2
      refine cells_inj (fun p hp => ?_) (fun y z c a b => I.ok.inj y z c (cm a).1 (cm b).1) (PySem.mem_of_lookup e1) (PySem.mem_of_lookup e2)
      rw [Heap.size_push]
      exact Nat.lt_succ_of_lt (cm (y := p.1) (c := p.2) hp).2
    · show ∃ c, cenv.cells.lookup y = some c
      have key : ∀ k, cenv.kindOf y = some k → (k = .cell ∨ k = .free) → ∃ c, cenv.cells.lookup y = some c := fun k hk hk' => by
        unfold Env.kindOf at hk
        rw [hsc] at hk
        obtain ⟨k', e, r⟩ := lookup_relS hk
        have : k' = .cell ∨ k' = .free := by
          rcases r with rfl | ⟨rfl, _⟩
          · exact hk'
          · exact .inr rfl
        rcases this with rfl | rfl
        · obtain ⟨c, hm⟩ := cells_has (n := (s.heap.push { cls := .type "dict", data := .dict #[] }).objs.size) (acc := cloFrom X.env.cells scope.names []) (PySem.mem_of_lookup e)
          obtain ⟨c', e'⟩ := mem_lookup hm
          exact ⟨c', by rw [hcl]; exact e'⟩
        · obtain ⟨c, h1, _⟩ := look e
          exact ⟨c, h1⟩
      rcases hy with hy | hy
      · exact key _ hy (.inl rfl)
      · exact key _ hy (.inr rfl)
    · have z : (scope.names.lookup y == some NameKind.cell) = true := z
      have z : scope.names.lookup y = some .cell := by simpa using z
      have e : cenv.cells.lookup y = some c := e
      rw [hcl] at e
      rcases cells_mem (PySem.mem_of_lookup e) with hm | ⟨_, h2, _⟩
      · rcases cloFrom_mem hm with hm | ⟨h1, _⟩
        · cases hm
        · have q := ok.uniq _ h1
          rw [z] at q; cases q
      · rw [Heap.size_push] at h2
        exact Nat.le_of_succ_le h2
    · show b ≠ cenv.locals
      rw [hL]; exact Nat.ne_of_lt (hfp b hb).2
    · have e : cenv.cells.lookup y = some c := e
      rcases mem e with ⟨h1, _⟩ | ⟨h1, _⟩
      · exact (hfp b hb).1.2.2.2.2.1 y c h1 z
      · have h2 : s.heap.objs.size + 1 ≤ b := by rw [← z]; exact h1
        exact absurd (Nat.lt_of_lt_of_le (hfp b hb).2 (Nat.le_of_succ_le h2)) (Nat.lt_irrefl _)
    · rcases (hfp b hb).1.2.2.2.1 with z | z
      · exact I.ok.noex b o e z
      · exact absurd (Nat.lt_of_lt_of_le (Heap.lt_size e) (Nat.le_trans I.ok.bsz z)) (Nat.lt_irrefl _)
    · rcases List.mem_cons.mp (I.stkSub b z) with z | z
      · exact (hfp b hb).1.2.1 z
      · exact (hfp b hb).1.2.2.1 z
  refine ⟨okB, rfl, I.bare, Un.kept kp, ⟨fun _ => none, ?_, fun i y av e1 e2 e3 => ?_⟩, fun y c e => ?_, ?_, fun y c e => ?_, fun p hp => ?_, I.hok.kept kp, by rw [wipe_length]; exact I.len⟩
  · show Heap.Ns _ cenv.locals _
    rw [hL]
    exact Heap.Ns.keeps (Heap.Ns.new ..) fun b o e => pushCells_keeps _ _ _ _ e
  · obtain ⟨e2, hne⟩ := wipe_some e2
    have hfr : scope.names.lookup y = some .free ∧ (cenv.kindOf y = some .cell ∨ cenv.kindOf y = some .free) := by
      have key : ∀ k, cenv.scope.names.lookup y = some k → k = .local ∨ k = .cell ∨ k = .free → scope.names.lookup y = some .free ∧ (cenv.kindOf y = some .cell ∨ cenv.kindOf y = some .free) := fun k hk hk' => by
        have hk0 := hk
        rw [hsc] at hk
        obtain ⟨k', e, r⟩ := lookup_relS hk
        have no : ¬ (k' = .local ∨ k' = .cell) := fun hh => by
          rcases ok.own _ (PySem.mem_of_lookup e) hh with e' | e'
          · obtain ⟨p, hp, hpy⟩ := List.mem_map.mp e'
            have e3 := ok.ix p hp
            have : p.1 = y := hpy
            rw [this] at e3
            exact hne (List.mem_map.mpr ⟨p, hp, nodup_ix hN e3 e1⟩)
          · exact e' (List.mem_of_getElem? e1)
        rcases r with rfl | ⟨rfl, rfl⟩
        · rcases hk' with rfl | rfl | rfl
          · exact absurd (.inl rfl) no
          · exact absurd (.inr rfl) no
          · exact ⟨e, .inr hk0⟩
        · exact ⟨e, .inl hk0⟩
      have e3 : Vis cenv.scope y := e3
      rcases e3 with e3 | e3 | e3
      · exact key _ e3 (.inl rfl)
      · exact key _ e3 (.inr (.inl rfl))
      · exact key _ e3 (.inr (.inr rfl))
    obtain ⟨m, hn, hl⟩ := I.loc
    have hvis : Vis X.env.scope y := (ok.free _ (PySem.mem_of_lookup hfr.1) rfl).elim (fun k => .inr (.inl k)) (fun k => .inr (.inr k))
    obtain ⟨w, r, q⟩ := hl i y av e1 e2 hvis
    refine ⟨w, r, .inr ⟨hfr.2, ?_⟩⟩
    obtain ⟨c, h1, h2⟩ := look hfr.1
    rcases q with ⟨k, _⟩ | ⟨_, c', e', z⟩
    · have k : X.env.scope.names.lookup y = some .local := k
      rcases ok.free _ (PySem.mem_of_lookup hfr.1) rfl with k' | k' <;> rw [show X.env.scope.names.lookup y = _ from k'] at k <;> cases k
    · rw [h2] at e'; cases e'
      exact ⟨c, h1, z.keeps kp⟩
  · have e : cenv.cells.lookup y = some c := e
    rcases mem e with ⟨h1, _⟩ | ⟨_, z⟩
    · obtain ⟨w, z⟩ := I.cell y c h1
      exact ⟨w, z.keeps kp⟩
    · exact ⟨_, z⟩
  · show H cenv.locals = none
    rw [hL]; exact I.hok.fresh (Nat.le_refl _)
  · have e : cenv.cells.lookup y = some c := e
    rcases mem e with ⟨h1, _⟩ | ⟨h1, _⟩
    · exact I.freeC y c h1
    · exact I.hok.fresh (Nat.le_of_succ_le h1)
  · exact absurd (show p ∈ ([] : List (Addr × Obj)) ++ [] from hp) (by simp)
/-- an item appended to a tracked list -/
theorem app_ok {E : Value → Shared → Prop} {D : Addr} {xs : List V} {y : V} {v : Value} {Q : Value → Shared → Prop} (I : Inv X pins σ H s) (hD : H D = some (.lst xs)) (hz : xs.length < sizeLine) (r : RelV y v)
    (h : ∀ s', Inv X pins σ (upd H D (.lst (xs ++ [y]))) s' → Q .none s') : wpAny (model X.prog X.w) X.A (call (.builtin "list.append") [.ref D, v]) Q E s := by
  obtain ⟨hz', its, n, ri, e⟩ := I.hok D _ hD
  have hl := ri.length
  refine append_at (hsz := by rw [List.size_toArray]; omega) e fun h' sb ho' => ?_
  refine h { s with heap := h' } (I.write (t' := s.toks) (by rw [hD]; trivial) (.inl rfl) (fun b u hb q => (sb.2 b hb).trans q) ⟨_, ho'⟩ ⟨by rw [List.length_append]; exact hz, its ++ [v], n + 1, ri.append (.cons r .nil), ?_⟩)
  rw [ho']
  simp
/-- a clause's tests -/
def PTs (X : Cx) (ifs : List Expr) (t : TT) : Prop :=
  ∀ (pins : List (Addr × Obj)) (s : Shared) (σ : St) (H : Hp) (Q : Bool → Hp → Prop), Inv X pins σ H s → t σ H Q →
    wpAny (model X.prog X.w) X.A (forIn ifs true fun c r => if r = true then do let ok ← isTrue c X.env (eval c X.env); pure (ForInStep.yield ok) else pure (ForInStep.yield r)) (TP X pins σ Q) X.xe s
def tYes : TT := fun _ H Q => Q true H
theorem pts_nil : PTs X [] tYes := fun _ _ _ H _ I h => wpAny_tests_nil ⟨H, I, h⟩
end
theorem thnF {α : Type} {t : Sem α} {Q Q' : α → Shared → Prop} {M : Model} {A : Around} {E : Value → Shared → Prop} {s : Shared} (h : wpAny M A t Q (fun _ _ => False) s) (hQ : ∀ a s, Q a s → Q' a s) : wpAny M A t Q' E s := wpAny_mono h hQ fun _ _ z => False.elim z
/-- the loop of a list comprehension's block, the target of any form (codeAny_compLoop_tests asks a target that no tuple goes to; statement and proof follow it, PyProof/CompMap.lean:41-61, with the step letOwnedTupleGo kept) -/
theorem compLoop_any {prog : Program} {w : World} {A : Around} {R : Result → Shared → Prop} {s : Shared} {elt target iter : Expr} {ifs : List Expr} {scope : Scope} {pos : Pos} {it acc : Value} {env : Env} (I : Nat → Shared → Prop)
    (turn : ∀ n s, I n s → wpAny (model prog w) A (pyNext it) (fun r s₁ => match r with
      | none => R (.ok .next) s₁
      | some v => wpAny (model prog w) A (letOwnedTupleGo target it v) (fun _ s₁' => wpAny (model prog w) A (assign target env v) (fun _ s₂ =>
          wpAny (model prog w) A (forIn ifs true fun c r => if r = true then do let ok ← isTrue c env (eval c env); pure (ForInStep.yield ok) else pure (ForInStep.yield r)) (fun ok s₃ =>
            if ok = true then wpAny (model prog w) A (eval elt env) (fun x s₄ =>
              wpAny (model prog w) A (call (.builtin "list.append") [acc, x]) (fun _ s₅ => ∃ m, m < n ∧ I m s₅) (notedBy (model prog w) A env fun e s' => R (.error e) s') s₄) (notedBy (model prog w) A env fun e s' => R (.error e) s') s₃
            else ∃ m, m < n ∧ I m s₃) (notedBy (model prog w) A env fun e s' => R (.error e) s') s₂) (notedBy (model prog w) A env fun e s' => R (.error e) s') s₁') (notedBy (model prog w) A env fun e s' => R (.error e) s') s₁) (notedBy (model prog w) A env fun e s' => R (.error e) s') s)
    (n : Nat) (h : I n s) :
    codeAny (model prog w) A (.compLoop (.ListComp elt [⟨target, iter, ifs, 0⟩] scope pos) 0 it acc env) R s := by
  refine codeAny_loop rfl I (fun n s hI => ?_) n h
  show wpAny _ A ((compTurn (.ListComp elt [⟨target, iter, ifs, 0⟩] scope pos) 0 it acc env).onRaise (fun x => do noteFrame x env; theTreesLotGoes x)) _ _ s
  refine wpAny_noted ?_
  rw [compTurn_list]
  refine wpAny_bind (wpAny_standAt (wpAny_bind (wpAny_mono (turn n s hI) (fun r s₁ h₁ => ?_) fun _ _ h' => h')))
  cases r with
  | none => exact wpAny_pure h₁
  | some v =>
    refine wpAny_bind (wpAny_mono h₁ (fun _ s₁' h₁' => ?_) fun _ _ h' => h')
    refine wpAny_bind (wpAny_mono h₁' (fun _ s₂ h₂ => wpAny_bind (wpAny_mono h₂ (fun ok s₃ h₃ => ?_) fun _ _ h' => h')) fun _ _ h' => h')
    cases ok with
    | false => exact wpAny_pure ⟨rfl, h₃⟩
    | true =>
      exact wpAny_bind (wpAny_bind (wpAny_mono h₃ (fun x s₄ h₄ => wpAny_bind (wpAny_mono h₄ (fun _ s₅ h₅ => wpAny_pure (wpAny_pure ⟨rfl, h₅⟩)) fun _ _ h' => h')) fun _ _ h' => h'))
section
variable {X : Cx}
/-- [elt for target in iter if ..]: D the new list; W by the turn and a measure, Nx what a turn is to reach -/
def tLc (wi : TI) (g : TG) (tt : TT) (te : TE) (vs : List Nat) : TE := fun σ H Q => wi σ H fun J H1 => ∀ D, H1 D = none → ∃ W : Nat → Nat → Hp → Prop, (∃ m, W 0 m (upd H1 D (.lst []))) ∧ ∀ i m H, W i m H →
  (J.stop i H ∧ Q (.ref D) H) ∨ (J.go i H ∧ ∃ Nx : Hp → Prop, (∀ H', Nx H' → ∃ m', m' < m ∧ W (i + 1) m' H') ∧ ∀ x H', J.yld i H x H' → g x (wipe σ vs) H' fun σ2 H2 => wipe σ2 vs = wipe σ vs ∧ tt σ2 H2 fun b H3 =>
    if b = true then te σ2 H3 fun y H4 => ∃ acc, H4 D = some (.lst acc) ∧ acc.length < sizeLine ∧ Nx (upd H4 D (.lst (acc ++ [y]))) else Nx H3)
theorem lc_core {pins : List (Addr × Obj)} {s : Shared} {σ : St} {H : Hp} {Q : VK} {elt tg iter : Expr} {ifs : List Expr} {scope : Scope} {own : List (Str × Nat)} {pos pos' : Pos} {wi : TI} {g : TG} {tt : TT} {te : TE} {use : Option (Value → Sem Unit)} {Qf : Value → Shared → Prop}
    (hc : X.calm = true) (hN : X.N.Nodup) (I : Inv X pins σ H s) (hi : PI X tg iter wi) (ok : BlkOk X.N X.env.scope scope own)
    (hg : ∀ (s : Shared) (H : Hp) (C : Addr) (cl : List (Str × Addr)) (fp : List Addr), PG (X.blk s H scope (compEnvC scope cl C X.env) fp) tg g) (ht : ∀ (s : Shared) (H : Hp) (C : Addr) (cl : List (Str × Addr)) (fp : List Addr), PTs (X.blk s H scope (compEnvC scope cl C X.env) fp) ifs tt)
    (he : ∀ (s : Shared) (H : Hp) (C : Addr) (cl : List (Str × Addr)) (fp : List Addr), PE (X.blk s H scope (compEnvC scope cl C X.env) fp) elt te) (hs : ∀ x, foldedSetIterable iter X.env x = pure x)
    (h : tLc wi g tt te (own.map (·.2)) σ H Q)
    (hRR : ∀ D C s' m H', Inv X pins σ H' s' → Q (.ref D) H' → s'.heap.Ns C m → FpOk X pins H' C → compPost (model X.prog X.w) X.A X.xe use Qf (.ref D) C (.ok .next) s') :
    wpAny (model X.prog X.w) X.A (comprehension (.ListComp elt [⟨tg, iter, ifs, 0⟩] scope pos) scope X.env pos' (newList []) false (eval iter X.env) use) Qf X.xe s := by
  have hfree : ∀ y ∈ scope.names, y.2 = .free → ∃ c, X.env.cells.lookup y.1 = some c := fun y hy e => by
    rcases ok.free y hy e with k | k
    · exact I.ok.has _ (.inl k)
    · exact I.ok.has _ (.inr k)
  refine wpAny_comprehension_free (use := use) rfl hs (closure_ok hfree) ok.kind (fun y hy e => by rw [ok.uniq y hy, e])
    (thn (hi pins s σ H _ I h) fun xv s1 hx => thn hx fun itv s2 h2 => ?_)
  obtain ⟨it, fp, tn, J, H2, e, I2, T, st2, f2, q⟩ := h2
  subst e
  refine wpAny_newObj_type (newEnv_comp ?_) (by show 0 ≤ sizeLine; decide)
  generalize hD : s2.heap.objs.size = D
  have hDn : H2 D = none := I2.hok.fresh (Nat.le_of_eq hD)
  obtain ⟨W, ⟨m0, w0⟩, turn⟩ := q D hDn
  -- the new list
  generalize hs3 : ({ s2 with heap := s2.heap.push { cls := .type "list", data := .seq ([] : List Value).toArray } } : Shared) = s3
  have I3 : Inv X pins σ (upd H2 D (.lst [])) s3 := by
    rw [← hs3]
    refine I2.laid (t' := s2.toks) (fun b o e => Heap.get?_push_of_some _ e) (Nat.le_of_eq hD) ⟨Nat.zero_le _, [], 0, .nil, ?_⟩
    rw [← hD]
    exact Heap.get?_push_size _ rfl
  have h3 : s3.heap = s2.heap.push { cls := .type "list", data := .seq ([] : List Value).toArray } := by rw [← hs3]
  have sz : ∀ b ∈ fp, b < s2.heap.objs.size := fun b hb => by
    obtain ⟨o, e, _⟩ := T.obj _ _ st2 b hb
    exact Heap.lt_size e
  have f3 : ∀ b ∈ fp, FpOk X pins (upd H2 D (.lst [])) b ∧ b < s3.heap.objs.size := fun b hb => by
    have hlt := sz b hb
    refine ⟨⟨?_, (f2 b hb).2⟩, by rw [h3, Heap.size_push]; exact Nat.lt_succ_of_lt hlt⟩
    rw [upd_ne (by rw [← hD]; exact Nat.ne_of_lt hlt)]
    exact (f2 b hb).1
  have st3 : tn 0 s3.heap := T.keep _ _ _ st2 fun b _ o e => by rw [h3]; exact Heap.get?_push_of_some _ e
  have I4 := block_start I3 ok hN f3
  have pg := hg s3 (upd H2 D (.lst [])) s3.heap.objs.size (cellsFrom (s3.heap.objs.size + 1) scope.names (cloFrom X.env.cells scope.names [])) fp
  have pt := ht s3 (upd H2 D (.lst [])) s3.heap.objs.size (cellsFrom (s3.heap.objs.size + 1) scope.names (cloFrom X.env.cells scope.names [])) fp
  have pe := he s3 (upd H2 D (.lst [])) s3.heap.objs.size (cellsFrom (s3.heap.objs.size + 1) scope.names (cloFrom X.env.cells scope.names [])) fp
  show codeAny _ _ (.compStart (.ListComp elt [⟨tg, iter, ifs, 0⟩] scope pos) 0 (.ref it) (.ref D) (compEnvC scope (cellsFrom (s3.heap.objs.size + 1) scope.names (cloFrom X.env.cells scope.names [])) s3.heap.objs.size X.env)) (compPost (model X.prog X.w) X.A X.xe use Qf (.ref D) s3.heap.objs.size) { s3 with heap := pushCells (s3.heap.push { cls := .type "dict", data := .dict #[] }) scope.names }
  have nfp : ∀ b ∈ fp, (upd H2 D (.lst [])) b = none := fun b hb => (f3 b hb).1.1
  generalize hce : compEnvC scope (cellsFrom (s3.heap.objs.size + 1) scope.names (cloFrom X.env.cells scope.names [])) s3.heap.objs.size X.env = ce at I4 pg pt pe ⊢
  have cL : ce.locals = s3.heap.objs.size := by subst hce; rfl
  generalize hH3 : upd H2 D (.lst []) = H3 at I3 I4 pg pt pe w0 nfp f3
  generalize hs4 : ({ s3 with heap := pushCells (s3.heap.push { cls := .type "dict", data := .dict #[] }) scope.names } : Shared) = s4 at I4 ⊢
  have st4 : tn 0 s4.heap := T.keep _ _ _ st3 fun b _ o e => by rw [← hs4]; exact pushCells_keeps _ _ _ _ (Heap.get?_push_of_some _ e)
  have stat : ∀ {σ' : St} {H' : Hp} {s' : Shared}, Inv (X.blk s3 H3 scope ce fp) [] σ' H' s' → (∀ b ∈ fp, H' b = none) → ∀ b ∈ fp, FpOk (X.blk s3 H3 scope ce fp) [] H' b := fun {σ' H' s'} I' hn b hb =>
    ⟨hn b hb, (I'.ok.exf b hb).1, I'.ok.exfs b hb, .inl hb, fun x c e => (I'.ok.exf b hb).2 x c e, fun p hp => absurd (show p ∈ ([] : List (Addr × Obj)) ++ [] from hp) (by simp)⟩
  have loop : codeAny (model X.prog X.w) X.A (.compLoop (.ListComp elt [⟨tg, iter, ifs, 0⟩] scope pos) 0 (.ref it) (.ref D) ce) (compPost (model X.prog X.w) X.A X.xe use Qf (.ref D) s3.heap.objs.size) s4 := by
    refine compLoop_any (fun n s' => ∃ i H', Inv (X.blk s3 H3 scope ce fp) [] (wipe σ (own.map (·.2))) H' s' ∧ tn i s'.heap ∧ (∀ b ∈ fp, H' b = none) ∧ W i n H') ?_ m0 ⟨0, H3, I4, st4, nfp, w0⟩
    rintro n s5 ⟨i, H5, I5, st5, n5, w5⟩
    rcases turn i n H5 w5 with ⟨stop, qq⟩ | ⟨go, Nx, hNx, step⟩
    · have td := T.done (X.blk s3 H3 scope ce fp) rfl rfl rfl hc i [] s5 _ H5 (fun _ _ => False) I5 (stat I5 n5) st5 stop
      refine thnF td fun r s6 ⟨hr, I6⟩ => ?_
      subst hr
      -- back in the def's context
      have I7 : Inv X pins σ H5 s6 := I3.call' (ch := fp) I6.os I6.base I6.hok I6.bare fun b hb => ⟨(f3 b hb).1.2.2.2.1, (f3 b hb).1.2.1, (f3 b hb).1.2.2.2.2.1, (f3 b hb).1.2.2.2.2.2⟩
      have nC : H5 s3.heap.objs.size = none := by
        have z : H5 ce.locals = none := I6.free
        rw [cL] at z
        exact z
      obtain ⟨m, hn, _⟩ := I6.loc
      have hn : s6.heap.Ns ce.locals m := hn
      rw [cL] at hn
      exact hRR D s3.heap.objs.size s6 m H5 I7 qq hn (I3.fpOk (Nat.le_refl _) nC)
    · have ti := T.item (X.blk s3 H3 scope ce fp) rfl rfl rfl hc i [] s5 _ H5 (fun _ _ => False) I5 (stat I5 n5) st5 go
      refine thnF ti fun r s6 ⟨u, hr, h6⟩ => ?_
      subst hr
      refine thnF h6 fun _ s7 ⟨x, H7, I7, r7, y7, st7, n7⟩ => ?_
      have I7' := I7.pinned (stat I7 n7) (T.obj _ _ st7)
      refine thnF (pg _ s7 _ H7 x u _ I7' r7 (step x H7 y7)) fun _ s8 ⟨σ8, H8, I8, hw8, q8⟩ => ?_
      refine thnF (pt _ s8 σ8 H8 _ I8 q8) fun b s9 ⟨H9, I9, q9⟩ => ?_
      -- the turn's end
      have fin : ∀ {s' : Shared} {H' : Hp}, Inv (X.blk s3 H3 scope ce fp) ([] ++ pinsAt fp s7.heap) σ8 H' s' → Nx H' → ∃ m, m < n ∧ ∃ i H', Inv (X.blk s3 H3 scope ce fp) [] (wipe σ (own.map (·.2))) H' s' ∧ tn i s'.heap ∧ (∀ b ∈ fp, H' b = none) ∧ W i m H' := fun {s' H'} I' nx => by
        obtain ⟨m', hm, w'⟩ := hNx H' nx
        have pin' : ∀ b ∈ fp, ∀ o, s7.heap.get? b = some o → s'.heap.get? b = some o ∧ H' b = none := fun b hb o e =>
          let z := I'.pin (b, o) (List.mem_append_right _ (List.mem_append_right _ (mem_pinsAt hb e)))
          ⟨z.1, z.2.1⟩
        have hl : (wipe σ (own.map (·.2))).length = σ8.length := by rw [← hw8, wipe_length]
        refine ⟨m', hm, i + 1, H', (I'.unpinned (pins := [])).weak hl (fun j v e => ?_), T.keep _ _ _ st7 fun b hb o e => (pin' b hb o e).1, fun b hb => ?_, w'⟩
        · rw [← hw8] at e
          exact (wipe_some e).1
        · obtain ⟨o, e, _⟩ := T.obj _ _ st7 b hb
          exact (pin' b hb o e).2
      cases b with
      | false =>
        simp only [Bool.false_eq_true, if_false] at q9 ⊢
        exact fin I9 q9
      | true =>
        simp only [if_true] at q9 ⊢
        refine thnF (pe _ s9 σ8 H9 _ I9 q9) fun z s10 ⟨yv, H10, I10, r10, acc, hD10, hz10, nx⟩ => ?_
        exact app_ok (X := X.blk s3 H3 scope ce fp) I10 hD10 hz10 r10 fun s11 I11 => fin I11 nx
  exact codeAny_compStart_list loop (T.self X.A 0 _ _ _ st4 loop)
/-- as a value -/
theorem pe_lc {elt tg iter : Expr} {ifs : List Expr} {scope : Scope} {own : List (Str × Nat)} {pos : Pos} {wi : TI} {g : TG} {tt : TT} {te : TE} (hc : X.calm = true) (hN : X.N.Nodup) (hi : PI X tg iter wi) (ok : BlkOk X.N X.env.scope scope own)
    (hg : ∀ (s : Shared) (H : Hp) (C : Addr) (cl : List (Str × Addr)) (fp : List Addr), PG (X.blk s H scope (compEnvC scope cl C X.env) fp) tg g) (ht : ∀ (s : Shared) (H : Hp) (C : Addr) (cl : List (Str × Addr)) (fp : List Addr), PTs (X.blk s H scope (compEnvC scope cl C X.env) fp) ifs tt)
    (he : ∀ (s : Shared) (H : Hp) (C : Addr) (cl : List (Str × Addr)) (fp : List Addr), PE (X.blk s H scope (compEnvC scope cl C X.env) fp) elt te) (hs : ∀ x, foldedSetIterable iter X.env x = pure x := by intro _; rfl) :
    PE X (.ListComp elt [⟨tg, iter, ifs, 0⟩] scope pos) (tLc wi g tt te (own.map (·.2))) := by
  intro pins s σ H Q I h
  rw [eval_ListComp]
  refine lc_core hc hN I hi ok hg ht he hs h fun D C s' m H' I' q hn f => ⟨m, hn, fun h'' sb => ?_⟩
  obtain ⟨f0, f1, f2, f3, f4, f5⟩ := f
  exact ⟨.ref D, H', I'.turned (t' := s'.toks) (fun b o hb e => (sb.2 b hb).trans e) f0 f1 f3 f4 f5, rfl, q⟩
end
/-! ### the forms one uses -/
/-- over a tuple -/
theorem lc_tup {K : PySem.W.Frag} {a : Addr} {xs : List V} {g : TG} {tt : TT} {te : TE} {vs : List Nat} {σ : St} {H1 : Hp} {D : Addr} {Qd : Hp → Prop} (Pv : Nat → Hp → Prop) (h0 : Pv 0 (upd H1 D (.lst []))) (hl : ∀ i H, i ≤ xs.length → Pv i H → SqT K H a xs)
    (hs : ∀ i x H, xs[i]? = some x → Pv i H → g x (wipe σ vs) H fun σ2 H2 => wipe σ2 vs = wipe σ vs ∧ tt σ2 H2 fun b H3 =>
      if b = true then te σ2 H3 fun y H4 => ∃ acc, H4 D = some (.lst acc) ∧ acc.length < sizeLine ∧ Pv (i + 1) (upd H4 D (.lst (acc ++ [y]))) else Pv (i + 1) H3) (hd : ∀ H, Pv xs.length H → Qd H) :
    ∃ W : Nat → Nat → Hp → Prop, (∃ m, W 0 m (upd H1 D (.lst []))) ∧ ∀ i m H, W i m H →
      ((Itt K a).stop i H ∧ Qd H) ∨ ((Itt K a).go i H ∧ ∃ Nx : Hp → Prop, (∀ H', Nx H' → ∃ m', m' < m ∧ W (i + 1) m' H') ∧ ∀ x H', (Itt K a).yld i H x H' → g x (wipe σ vs) H' fun σ2 H2 => wipe σ2 vs = wipe σ vs ∧ tt σ2 H2 fun b H3 =>
        if b = true then te σ2 H3 fun y H4 => ∃ acc, H4 D = some (.lst acc) ∧ acc.length < sizeLine ∧ Nx (upd H4 D (.lst (acc ++ [y]))) else Nx H3) := by
  refine ⟨fun i m H => m = xs.length - i ∧ i ≤ xs.length ∧ Pv i H, ⟨xs.length, by simp, Nat.zero_le _, h0⟩, ?_⟩
  rintro i m H ⟨rfl, hi, p⟩
  have q := hl i H hi p
  by_cases hlt : i < xs.length
  · refine .inr ⟨⟨xs, xs[i], q, by simp [hlt]⟩, Pv (i + 1), fun H' p' => ⟨xs.length - (i + 1), by omega, rfl, hlt, p'⟩, fun x H' y => ?_⟩
    obtain ⟨e, y⟩ := y
    subst e
    exact hs i x _ (y xs q) p
  · have e : i = xs.length := by omega
    subst e
    exact .inl ⟨⟨xs, q, Nat.le_refl _⟩, hd H p⟩
def blkC (N : List Str) (sc scope : Scope) (own : List (Str × Nat)) : Bool :=
  (match scope.kind with | .function => true | _ => false) && (scope.names.all fun y => decide (scope.names.lookup y.1 = some y.2)) && (own.all fun p => decide (N[p.2]? = some p.1)) &&
    (scope.names.all fun y => match y.2 with
      | .free => (match sc.names.lookup y.1 with | some .cell => true | some .free => true | _ => false)
      | .local => decide (y.1 ∈ own.map (·.1)) || decide (y.1 ∉ N)
      | .cell => decide (y.1 ∈ own.map (·.1)) || decide (y.1 ∉ N)
      | _ => true)
theorem blkOk_by {N : List Str} {sc scope : Scope} {own : List (Str × Nat)} (h : blkC N sc scope own = true) : BlkOk N sc scope own := by
  unfold blkC at h
  simp only [Bool.and_eq_true, List.all_eq_true, decide_eq_true_eq] at h
  obtain ⟨⟨⟨h1, h2⟩, h3⟩, h4⟩ := h
  refine ⟨?_, h2, h3, fun y hy e => ?_, fun y hy e => ?_⟩
  · split at h1
    · assumption
    · cases h1
  · have q := h4 y hy
    simp only [e] at q
    split at q <;> first | exact .inl (by assumption) | exact .inr (by assumption) | cases q
  · have q := h4 y hy
    rcases e with e | e <;> (simp only [e, Bool.or_eq_true, decide_eq_true_eq] at q; exact q)
end L2
namespace L2
open PySem PySem.Spec PyProof.Rows
section
variable {prog : Program} {w : World} {A : Around} {R : Result → Shared → Prop} {s : Shared} {elt t0 i0 t1 i1 : Expr} {ifs0 ifs1 : List Expr} {scope : Scope} {pos : Pos} {it acc : Value} {env : Env}
end
section
variable {X : Cx}
end
end L2
namespace L2
open PySem PySem.Spec PyProof.Rows
/-! ### lists of pairs as tables -/
section
variable {κ : Type} [DecidableEq κ]
def valV (kvs : List (κ × V)) (k : κ) : Option V := (kvs.find? fun kv => decide (kv.1 = k)).map (·.2)
/-- in its place, or at the end -/
def putK (kvs : List (κ × V)) (k : κ) (v : V) : List (κ × V) :=
  if (kvs.any fun kv => decide (kv.1 = k)) = true then kvs.map (fun kv => if kv.1 = k then (kv.1, v) else kv) else kvs ++ [(k, v)]
def dropK (kvs : List (κ × V)) (k : κ) : List (κ × V) := kvs.filter fun kv => decide (kv.1 ≠ k)
theorem valV_pos {p : κ × V} {r : List (κ × V)} {k : κ} (e : p.1 = k) : valV (p :: r) k = some p.2 := by simp [valV, List.find?_cons, e]
theorem valV_neg {p : κ × V} {r : List (κ × V)} {k : κ} (e : ¬ p.1 = k) : valV (p :: r) k = valV r k := by simp [valV, List.find?_cons, e]
theorem valV_any (k : κ) : ∀ kvs : List (κ × V), (kvs.any fun kv => decide (kv.1 = k)) = (valV kvs k).isSome
  | [] => rfl
  | p :: r => by
    rw [List.any_cons]
    by_cases e : p.1 = k
    · simp only [valV_pos e, decide_eq_true e, Bool.true_or, Option.isSome_some]
    · rw [valV_neg e, decide_eq_false e, Bool.false_or]; exact valV_any k r
theorem length_putK (kvs : List (κ × V)) (k : κ) (v : V) : (putK kvs k v).length ≤ kvs.length + 1 := by
  unfold putK
  split
  · rw [List.length_map]; omega
  · rw [List.length_append, List.length_cons, List.length_nil]; omega
theorem RelO.isSome_eq {o : Option V} {u : Option Value} (r : RelO o u) : o.isSome = u.isSome := by
  cases o with
  | none => cases u with
    | none => rfl
    | some _ => exact (show False from r).elim
  | some _ => cases u with
    | none => exact (show False from r).elim
    | some _ => rfl
theorem RelO.getD {o : Option V} {u : Option Value} {d : V} {d' : Value} (r : RelO o u) (rd : RelV d d') : RelV (o.getD d) (u.getD d') := by
  cases o with
  | none => cases u with
    | none => exact rd
    | some _ => exact (show False from r).elim
  | some _ => cases u with
    | none => exact (show False from r).elim
    | some _ => exact r
/-- raw tables of the same keys -/
theorem KV.val {kvs : List (κ × V)} {vs : List (κ × Value)} (r : KV kvs vs) (k : κ) : RelO (valV kvs k) (valueAt vs k) := by
  unfold KV at r
  induction r with
  | nil => exact True.intro
  | @cons p q ps qs h t ih =>
    obtain ⟨h1, h2⟩ := h
    by_cases e : p.1 = k
    · have e' : q.1 = k := h1.symm.trans e
      have b : valueAt (q :: qs) k = some q.2 := by simp [valueAt, List.find?_cons, e']
      rw [valV_pos e, b]; exact h2
    · have e' : ¬ q.1 = k := fun z => e (h1.trans z)
      have b : valueAt (q :: qs) k = valueAt qs k := by simp [valueAt, List.find?_cons, e']
      rw [valV_neg e, b]; exact ih
theorem KV.any {kvs : List (κ × V)} {vs : List (κ × Value)} (r : KV kvs vs) (k : κ) : (kvs.any fun kv => decide (kv.1 = k)) = vs.any fun kv => decide (kv.1 = k) := by
  unfold KV at r
  induction r with
  | nil => rfl
  | cons h t ih => rw [List.any_cons, List.any_cons, ih, h.1]
theorem KV.repl {kvs : List (κ × V)} {vs : List (κ × Value)} (r : KV kvs vs) (k : κ) {y : V} {u : Value} (ry : RelV y u) :
    KV (kvs.map fun kv => if kv.1 = k then (kv.1, y) else kv) (vs.map fun kv => if kv.1 = k then (kv.1, u) else kv) := by
  unfold KV at r ⊢
  induction r with
  | nil => exact .nil
  | @cons p q ps qs h t ih =>
    rw [List.map_cons, List.map_cons]
    refine .cons ?_ ih
    obtain ⟨h1, h2⟩ := h
    by_cases e : p.1 = k
    · rw [if_pos e, if_pos (h1.symm.trans e)]; exact ⟨h1, ry⟩
    · rw [if_neg e, if_neg (fun z => e (h1.trans z))]; exact ⟨h1, h2⟩
theorem KV.put {kvs : List (κ × V)} {vs : List (κ × Value)} (r : KV kvs vs) (k : κ) {y : V} {u : Value} (ry : RelV y u) : KV (putK kvs k y) (stored vs k u) := by
  unfold putK stored
  rw [r.any k]
  by_cases e : (vs.any fun kv => decide (kv.1 = k)) = true
  · rw [if_pos e, if_pos e]; exact r.repl k ry
  · rw [if_neg e, if_neg e]; exact Paired.snoc r ⟨rfl, ry⟩
theorem KV.drop {kvs : List (κ × V)} {vs : List (κ × Value)} (r : KV kvs vs) (k : κ) : KV (dropK kvs k) (without vs k) := by
  unfold KV at r ⊢
  unfold dropK without
  induction r with
  | nil => exact .nil
  | @cons p q ps qs h t ih =>
    obtain ⟨h1, h2⟩ := h
    rw [List.filter_cons, List.filter_cons]
    by_cases e : p.1 = k
    · have a : ¬ decide (p.1 ≠ k) = true := by simp [e]
      have b : ¬ decide (q.1 ≠ k) = true := by simp [h1.symm.trans e]
      rw [if_neg a, if_neg b]; exact ih
    · have e' : ¬ q.1 = k := fun z => e (h1.trans z)
      have a : decide (p.1 ≠ k) = true := by simp [e]
      have b : decide (q.1 ≠ k) = true := by simp [e']
      rw [if_pos a, if_pos b]; exact .cons ⟨h1, h2⟩ ih
theorem KV.keys {kvs : List (κ × V)} {vs : List (κ × Value)} (r : KV kvs vs) : kvs.map (·.1) = vs.map (·.1) := by
  unfold KV at r
  induction r with
  | nil => rfl
  | cons h t ih => rw [List.map_cons, List.map_cons, ih, h.1]
theorem KV.length {kvs : List (κ × V)} {vs : List (κ × Value)} (r : KV kvs vs) : kvs.length = vs.length := Paired.length r
theorem dropK_le (kvs : List (κ × V)) (k : κ) : (dropK kvs k).length ≤ kvs.length := List.length_filter_le _ _
end
/-! ### a tracked dict, its keys ints and texts or tuples of these -/
theorem kV_is {P : Program} {w : World} {k : Key} {u : Value} (r : RelV (kV k) u) : (mixKind P w).is k u = true := by
  cases k with
  | inl i => obtain ⟨t, e⟩ := (show ∃ t, u = Value.int i t from r); subst e; exact mixKind_int P w i t
  | inr x => obtain ⟨t, e⟩ := (show ∃ t, u = Value.str x t from r); subst e; exact mixKind_str P w x t
theorem items_are {P : Program} {w : World} : ∀ {ks : List Key} {us : List Value}, Vals (ks.map kV) us → ItemsAre (mixKind P w) ks us
  | [], _, r => by rw [List.map_nil] at r; cases r; exact .nil
  | k :: ks, _, r => by
    rw [List.map_cons] at r
    cases r with
    | cons h t => exact .cons (kV_is h) (items_are t)
/-- raw entries of a dict with tuple keys -/
abbrev KT (H : Hp) : List (List Key × V) → List (List Key × Addr × Value) → Prop := Paired fun p q => p.1 = q.1 ∧ H q.2.1 = some (.tup (p.1.map kV)) ∧ RelV p.2 q.2.2
theorem KT.val {H : Hp} {kvs : List (List Key × V)} {xs : List (List Key × Addr × Value)} (r : KT H kvs xs) (k : List Key) : RelO (valV kvs k) ((atKey xs k).map (·.2)) := by
  induction r with
  | nil => exact True.intro
  | @cons p q ps qs h t ih =>
    obtain ⟨h1, _, h2⟩ := h
    by_cases e : p.1 = k
    · have e' : q.1 = k := h1.symm.trans e
      have b : atKey (q :: qs) k = some q.2 := by simp [atKey, List.find?_cons, e']
      rw [valV_pos e, b]; exact h2
    · have e' : ¬ q.1 = k := fun z => e (h1.trans z)
      have b : atKey (q :: qs) k = atKey qs k := by simp [atKey, List.find?_cons, e']
      rw [valV_neg e, b]; exact ih
theorem KT.repl {H : Hp} {kvs : List (List Key × V)} {xs : List (List Key × Addr × Value)} (r : KT H kvs xs) (k : List Key) {y : V} {u : Value} (ry : RelV y u) :
    KT H (kvs.map fun kv => if kv.1 = k then (kv.1, y) else kv) (xs.map (putAt k u)) := by
  induction r with
  | nil => exact .nil
  | @cons p q ps qs h t ih =>
    rw [List.map_cons, List.map_cons]
    refine .cons ?_ ih
    obtain ⟨h1, h2, h3⟩ := h
    unfold putAt
    by_cases e : p.1 = k
    · rw [if_pos e, if_pos (h1.symm.trans e)]; exact ⟨h1, h2, ry⟩
    · rw [if_neg e, if_neg (fun z => e (h1.trans z))]; exact ⟨h1, h2, h3⟩
theorem KT.put {H : Hp} {kvs : List (List Key × V)} {xs : List (List Key × Addr × Value)} (r : KT H kvs xs) (k : List Key) {b : Addr} {y : V} {u : Value} (hb : H b = some (.tup (k.map kV))) (ry : RelV y u) :
    KT H (putK kvs k y) (storedH xs k b u) := by
  have e : (kvs.any fun kv => decide (kv.1 = k)) = (atKey xs k).isSome := by
    rw [valV_any, (r.val k).isSome_eq, Option.isSome_map]
  unfold putK storedH
  rw [e]
  by_cases q : (atKey xs k).isSome = true
  · rw [if_pos q, if_pos q]; exact r.repl k ry
  · rw [if_neg q, if_neg q]; exact Paired.snoc r ⟨rfl, hb, ry⟩
theorem KT.keeps {H H' : Hp} {kvs : List (List Key × V)} {xs : List (List Key × Addr × Value)} (r : KT H kvs xs) (ht : ∀ b ys, H b = some (.tup ys) → H' b = some (.tup ys)) : KT H' kvs xs :=
  Paired.mapP r fun _ _ z => ⟨z.1, ht _ _ z.2.1, z.2.2⟩
section
variable {P : Program} {w : World} {H : Hp} {h : Heap} {a : Addr}
theorem rd_of {u : HO} (ok : HOk P w H h) (e : Rd H a u) : ObjOk P w H h a u := e.ok ok
theorem dk_rd {kvs : List (Key × V)} (ok : HOk P w H h) (e : Rd H a (.dK kvs)) : kvs.length ≤ sizeLine ∧ (a == sysModules) = false ∧ ∃ vs, KV kvs vs ∧ h.DictOf (mixKind P w) a vs :=
  show ObjOk P w H h a (.dK kvs) from rd_of ok e
theorem dk_of {kvs : List (Key × V)} (ok : HOk P w H h) (e : H a = some (.dK kvs)) : kvs.length ≤ sizeLine ∧ (a == sysModules) = false ∧ ∃ vs, KV kvs vs ∧ h.DictOf (mixKind P w) a vs := dk_rd ok (.inl e)
/-- a tracked tuple of ints and texts is a key -/
theorem key_of {ks : List Key} (ok : HOk P w H h) (e : H a = some (.tup (ks.map kV))) : (tupleKind (mixKind P w)).is h ks a := by
  obtain ⟨_, its, r, o, h1, h2, n, h3⟩ := (show ObjOk P w H h a (.tup (ks.map kV)) from ok a _ e)
  exact ⟨o, its.toArray, n, h1, h2, h3, by simpa using items_are r⟩
theorem dt_rd {kvs : List (List Key × V)} (ok : HOk P w H h) (e : Rd H a (.dT kvs)) : kvs.length ≤ sizeLine ∧ (a == sysModules) = false ∧
    ∃ xs, KT H kvs xs ∧ h.DictOfH (tupleKind (mixKind P w)) a xs := by
  obtain ⟨z, y, xs, r, o, es, ep, h1, h2, h3, h4, h5⟩ := (show ObjOk P w H h a (.dT kvs) from rd_of ok e)
  refine ⟨z, y, xs, r, o, es, ep, h1, h2, h3, h4, fun x hx => ?_, h5⟩
  have all : ∀ {l : List (List Key × V)} {m : List (List Key × Addr × Value)}, KT H l m → ∀ x ∈ m, (tupleKind (mixKind P w)).is h x.1 x.2.1 := by
    intro l m q
    induction q with
    | nil => intro x hx; exact nomatch hx
    | @cons p q ps qs hq t ih =>
      intro x hx
      rcases List.mem_cons.mp hx with e | hx
      · subst e
        exact key_of ok (by rw [← hq.1]; exact hq.2.1)
      · exact ih x hx
  exact all r x hx
theorem dt_of {kvs : List (List Key × V)} (ok : HOk P w H h) (e : H a = some (.dT kvs)) : kvs.length ≤ sizeLine ∧ (a == sysModules) = false ∧
    ∃ xs, KT H kvs xs ∧ h.DictOfH (tupleKind (mixKind P w)) a xs := dt_rd ok (.inl e)
end
/-- what the dict at a holds at the key y -/
def DGet (H : Hp) (a : Addr) (y : V) (r : Option V) : Prop :=
  (∃ kvs k, Rd H a (.dK kvs) ∧ y = kV k ∧ r = valV kvs k) ∨ ∃ kvs k b, Rd H a (.dT kvs) ∧ y = .ref b ∧ H b = some (.tup (k.map kV)) ∧ r = valV kvs k
/-- the heap behind a[y] = v -/
def DPut (H : Hp) (a : Addr) (y v : V) (H' : Hp) : Prop :=
  (∃ kvs k, H a = some (.dK kvs) ∧ y = kV k ∧ kvs.length < sizeLine ∧ H' = upd H a (.dK (putK kvs k v))) ∨
  ∃ kvs k b, H a = some (.dT kvs) ∧ y = .ref b ∧ H b = some (.tup (k.map kV)) ∧ kvs.length < sizeLine ∧ H' = upd H a (.dT (putK kvs k v))
theorem DGet.k {H : Hp} {a : Addr} {kvs : List (Key × V)} {k : Key} (e : H a = some (.dK kvs)) : DGet H a (kV k) (valV kvs k) := .inl ⟨kvs, k, .inl e, rfl, rfl⟩
theorem DGet.t {H : Hp} {a b : Addr} {kvs : List (List Key × V)} {k : List Key} (e : H a = some (.dT kvs)) (eb : H b = some (.tup (k.map kV))) : DGet H a (.ref b) (valV kvs k) := .inr ⟨kvs, k, b, .inl e, rfl, eb, rfl⟩
theorem DPut.k {H : Hp} {a : Addr} {kvs : List (Key × V)} {k : Key} {v : V} (e : H a = some (.dK kvs)) (hl : kvs.length < sizeLine) : DPut H a (kV k) v (upd H a (.dK (putK kvs k v))) := .inl ⟨kvs, k, e, rfl, hl, rfl⟩
theorem DPut.t {H : Hp} {a b : Addr} {kvs : List (List Key × V)} {k : List Key} {v : V} (e : H a = some (.dT kvs)) (eb : H b = some (.tup (k.map kV))) (hl : kvs.length < sizeLine) :
    DPut H a (.ref b) v (upd H a (.dT (putK kvs k v))) := .inr ⟨kvs, k, b, e, rfl, eb, hl, rfl⟩
section
variable {X : Cx} {pins : List (Addr × Obj)} {σ : St} {H : Hp} {s : Shared} {a : Addr} {y v : V} {u r : Value} {o : Option V} {A : Around} {E : Value → Shared → Prop}
theorem Inv.big (I : Inv X pins σ H s) : sysModules < s.heap.objs.size := by
  have h : mainGlobals < s.heap.objs.size := (I.mod.glob.keeps I.bk).lt
  exact Nat.lt_trans (by decide) h
/-- d[y], there -/
theorem d_getItem {Q : Value → Shared → Prop} (hu : A.units + 1 < cLine) (I : Inv X pins σ H s) (g : DGet H a y (some v)) (ry : RelV y u) (h : ∀ w' s', Inv X pins σ H s' → RelV v w' → Q w' s') :
    wpAny (model X.prog X.w) A (getItem (.ref a) u) Q E s := by
  rcases g with ⟨kvs, k, e, ey, l⟩ | ⟨kvs, k, b, e, ey, eb, l⟩
  · subst ey
    obtain ⟨z, hd, vs, rel, dd⟩ := dk_rd I.hok e
    obtain ⟨w', hw, rw'⟩ := RelO.some_of (v := v) (o := valueAt vs k) (by rw [l]; exact rel.val k)
    exact wpAny_getItem_of (kV_is ry) dd.mapOf hw (h w' _ (I.tok _) rw')
  · subst ey
    cases (show u = Value.ref b from ry)
    obtain ⟨z, hd, xs, rel, dd⟩ := dt_rd I.hok e
    obtain ⟨w', hw, rw'⟩ := RelO.some_of (v := v) (o := (atKey xs k).map (·.2)) (by rw [l]; exact rel.val k)
    obtain ⟨p, hp, hp2⟩ := Option.map_eq_some_iff.mp hw
    refine wpAny_getItem_heap (tupleKind_room_in1 hu) (key_of I.hok eb) dd hp ?_
    rw [hp2]
    exact h w' _ (I.tok _) rw'
/-- y in d -/
theorem d_in {Q : Value → Shared → Prop} (hu : A.units + 1 < cLine) (I : Inv X pins σ H s) (g : DGet H a y o) (ry : RelV y u) (h : ∀ s', Inv X pins σ H s' → Q (.bool o.isSome) s') :
    wpAny (model X.prog X.w) A (compareOp .In u (.ref a)) Q E s := by
  rcases g with ⟨kvs, k, e, ey, l⟩ | ⟨kvs, k, b, e, ey, eb, l⟩
  · subst ey
    obtain ⟨z, hd, vs, rel, dd⟩ := dk_rd I.hok e
    refine wpAny_in_of (kV_is ry) hd dd.mapOf ?_
    rw [← (rel.val k).isSome_eq, ← l]
    exact h _ (I.tok _)
  · subst ey
    cases (show u = Value.ref b from ry)
    obtain ⟨z, hd, xs, rel, dd⟩ := dt_rd I.hok e
    refine wpAny_in_heap (tupleKind_room_in1 hu) (key_of I.hok eb) hd dd ?_
    have q := (rel.val k).isSome_eq
    rw [Option.isSome_map] at q
    rw [← q, ← l]
    exact h _ (I.tok _)
theorem d_notIn {Q : Value → Shared → Prop} (hu : A.units + 1 < cLine) (I : Inv X pins σ H s) (g : DGet H a y o) (ry : RelV y u) (h : ∀ s', Inv X pins σ H s' → Q (.bool (!o.isSome)) s') :
    wpAny (model X.prog X.w) A (compareOp .NotIn u (.ref a)) Q E s := by
  rcases g with ⟨kvs, k, e, ey, l⟩ | ⟨kvs, k, b, e, ey, eb, l⟩
  · subst ey
    obtain ⟨z, hd, vs, rel, dd⟩ := dk_rd I.hok e
    refine wpAny_notIn_of (kV_is ry) hd dd.mapOf ?_
    rw [← (rel.val k).isSome_eq, ← l]
    exact h _ (I.tok _)
  · subst ey
    cases (show u = Value.ref b from ry)
    obtain ⟨z, hd, xs, rel, dd⟩ := dt_rd I.hok e
    refine wpAny_notIn_heap (tupleKind_room_in1 hu) (key_of I.hok eb) hd dd ?_
    have q := (rel.val k).isSome_eq
    rw [Option.isSome_map] at q
    rw [← q, ← l]
    exact h _ (I.tok _)
/-- a dict's object is replaced -/
theorem d_write {h' : Heap} {t' : Nat} {ob : HO} (I : Inv X pins σ H s) (mu : Mut (H a)) (hs : Heap.SameBut a s.heap h') (he : ∃ q, h'.get? a = some q) (new : ObjOk X.prog X.w (upd H a ob) h' a ob) :
    Inv X pins σ (upd H a ob) { s with heap := h', toks := t' } :=
  I.write (x := a) (e := a) mu (.inl rfl) (fun b q hb z => (hs.2 b hb).trans z) he new
theorem dk_new {P : Program} {w : World} {H' : Hp} {h' : Heap} {kvs : List (Key × V)} {vs : List (Key × Value)} (z : kvs.length ≤ sizeLine) (hd : (a == sysModules) = false) (rel : KV kvs vs) (dd : h'.DictOf (mixKind P w) a vs) :
    ObjOk P w H' h' a (.dK kvs) := ⟨z, hd, vs, rel, dd⟩
/-- d[y] = v -/
theorem d_setItem {H' : Hp} {Q : Unit → Shared → Prop} (hu : A.units + 1 < cLine) (I : Inv X pins σ H s) (g : DPut H a y v H') (ry : RelV y u) (rv : RelV v r) (h : ∀ s', Inv X pins σ H' s' → Q () s') :
    wpAny (model X.prog X.w) A (setItem (.ref a) u r) Q E s := by
  rcases g with ⟨kvs, k, e, ey, l, eH⟩ | ⟨kvs, k, b, e, ey, eb, l, eH⟩
  · subst ey eH
    obtain ⟨z, hd, vs, rel, dd⟩ := dk_of I.hok e
    have hz : vs.length ≤ sizeLine := by rw [← rel.length]; exact z
    have hl : (putK kvs k v).length ≤ sizeLine := by have := length_putK kvs k v; omega
    refine wpAny_setItem_pairs (hsz := hz) (kV_is ry) dd fun h' dd' hs => h _ ?_
    have he : ∃ q, h'.get? a = some q := let ⟨q, _, _, hq, _⟩ := dd'; ⟨q, hq⟩
    exact d_write I (by rw [e]; exact True.intro) hs he (dk_new hl hd (rel.put k rv) dd')
  · subst ey eH
    cases (show u = Value.ref b from ry)
    obtain ⟨z, hd, xs, rel, dd⟩ := dt_of I.hok e
    have hz : xs.length ≤ sizeLine := by rw [← Paired.length rel]; exact z
    have hl : (putK kvs k v).length ≤ sizeLine := by have := length_putK kvs k v; omega
    refine wpAny_setItem_heap (hsz := hz) (tupleKind_room_in1 hu) (key_of I.hok eb) dd fun h' dd' hs => h _ ?_
    obtain ⟨q, es, ep, hq, h2, h3, h4, _, h5⟩ := dd'
    refine d_write I (by rw [e]; exact True.intro) hs ⟨q, hq⟩ ⟨hl, hd, _, (rel.put k eb rv).keeps fun c ys ec => ?_, q, es, ep, hq, h2, h3, h4, h5⟩
    rw [upd_ne (ne_of ec e (fun z => nomatch z))]
    exact ec
end
section
variable {X : Cx} {pins : List (Addr × Obj)} {σ : St} {H : Hp} {s : Shared} {a : Addr} {kvs : List (Key × V)} {k : Key} {u : Value} {A : Around} {E : Value → Shared → Prop}
/-- d.pop(k[, x]), there -/
theorem d_pop {v : V} {more : List Value} {Q : Value → Shared → Prop} (I : Inv X pins σ H s) (e : H a = some (.dK kvs)) (ry : RelV (kV k) u) (l : valV kvs k = some v) (hm : more = [] ∨ ∃ x, more = [x])
    (h : ∀ w' s', Inv X pins σ (upd H a (.dK (dropK kvs k))) s' → RelV v w' → Q w' s') : wpAny (model X.prog X.w) A (call (.builtin "dict.pop") (.ref a :: u :: more)) Q E s := by
  obtain ⟨z, hd, vs, rel, dd⟩ := dk_of I.hok e
  obtain ⟨w', hw, rw'⟩ := RelO.some_of (v := v) (o := valueAt vs k) (by rw [← l]; exact rel.val k)
  have hp : (keyPart u).isSome = true := by
    cases k with
    | inl i => obtain ⟨t, q⟩ := (show ∃ t, u = Value.int i t from ry); subst q; rfl
    | inr x => obtain ⟨t, q⟩ := (show ∃ t, u = Value.str x t from ry); subst q; rfl
  have ha : argsOk "dict.pop" ⟨.ref a :: u :: more, []⟩ := by
    rcases hm with q | ⟨x, q⟩
    · subst q; exact PySem.F.args_dict_pop_2 _ _
    · subst q; exact PySem.F.args_dict_pop_3 _ _ _
  refine call_meetsIn PySem.F.slot_dict_pop dd.typeIs PySem.F.entry_dict_pop ha (meets_dict_pop_there (mixKind X.prog X.w) a (kV_is ry) more hm hp)
    ⟨vs, w', dd, by rw [← rel.length]; exact z, hw, fun h' dd' hs => h w' _ ?_ rw'⟩
  have he : ∃ q, h'.get? a = some q := let ⟨q, _, _, hq, _⟩ := dd'; ⟨q, hq⟩
  exact d_write I (by rw [e]; exact True.intro) hs he (dk_new (Nat.le_trans (dropK_le kvs k) z) hd (rel.drop k) dd')
/-- len(d) -/
theorem d_len {Q : Value → Shared → Prop} (I : Inv X pins σ H s) (e : Rd H a (.dK kvs)) (h : ∀ t s', Inv X pins σ H s' → Q (.int kvs.length t) s') : wpAny (model X.prog X.w) A (call (.builtin "len") [.ref a]) Q E s := by
  obtain ⟨z, hd, vs, rel, dd⟩ := dk_rd I.hok e
  refine call_len_dict hd dd (by rw [← rel.length]; rw [sizeLine_eq] at z; omega) ?_
  rw [← rel.length]
  exact h _ _ (I.tok _)
end
/-! ### readings and rules -/
/-- the element of a subscription, not a slice -/
def NoSl (i : Expr) : Prop := ∀ ov iv, subscripted i false ov iv = operate [ov, iv] (getItem ov iv)
theorem subD_of {prog : Program} {w : World} {A : Around} {E : Value → Shared → Prop} {s : Shared} {env : Env} {value slice : Expr} {pos : Pos} {T id : String} {Q : Value → Shared → Prop}
    (hl : typeLookup (.type T) "__getitem__" = pure (some (.builtin id))) (hs : NoSl slice)
    (h : wpAny (model prog w) A (eval value env) (fun o s₁ => wpAny (model prog w) A (eval slice env) (fun i s₂ => s₂.TypeIs o T ∧ wpAny (model prog w) A (getItem o i) Q E s₂) E s₁) E s) :
    wpAny (model prog w) A (eval (.Subscript value slice pos) env) Q E s := by
  refine Subscript_ (wpAny_mono h (fun o s₁ h₁ => wpAny_mono h₁ (fun i s₂ h₂ => ?_) fun _ _ x => x) fun _ _ x => x)
  obtain ⟨hT, h₂⟩ := h₂
  unfold subscriptTail
  refine wpAny_bind ?_
  rw [getitemInPython_of_ne hT.not_modules]
  refine wpAny_bind (wpAny_specialOf hT hl ?_)
  have fin : wpAny (model prog w) A (subscripted slice false o i) (fun r s₃ => wpAny (model prog w) A (letTemporaryGo value o r >>= fun _ => pure r) Q E s₃) E s₂ := by
    rw [hs o i]
    exact wpAny_operating (wpAny_mono h₂ (fun r s₃ h₃ => wpAny_bind (wpAny_letTemporaryGo (wpAny_pure h₃))) fun _ _ x => x)
  first
    | exact wpAny_pure (wpAny_bind fin)
    | exact wpAny_bind (wpAny_pure (wpAny_bind fin))
    | exact wpAny_bind fin
theorem dict_typeIs {X : Cx} {pins : List (Addr × Obj)} {σ : St} {H : Hp} {s : Shared} {a : Addr} {y : V} {o : Option V} (I : Inv X pins σ H s) (g : DGet H a y o) : s.TypeIs (.ref a) "dict" := by
  rcases g with ⟨kvs, k, e, _, _⟩ | ⟨kvs, k, b, e, _, _, _⟩
  · obtain ⟨_, _, vs, _, dd⟩ := dk_rd I.hok e
    exact dd.typeIs
  · obtain ⟨_, _, xs, _, dd⟩ := dt_rd I.hok e
    exact dd.typeIs
/-- d[y] -/
def tDGet (td ty : TE) : TE := fun σ H Q => td σ H fun x H1 => ty σ H1 fun y H2 => ∃ a v, x = .ref a ∧ DGet H2 a y (some v) ∧ Q v H2
/-- y in d, y not in d -/
def tDIn (ty td : TE) : TE := fun σ H Q => ty σ H fun y H1 => td σ H1 fun x H2 => ∃ a o, x = .ref a ∧ DGet H2 a y o ∧ Q (.bl o.isSome) H2
def tDNotIn (ty td : TE) : TE := fun σ H Q => ty σ H fun y H1 => td σ H1 fun x H2 => ∃ a o, x = .ref a ∧ DGet H2 a y o ∧ Q (.bl (!o.isSome)) H2
/-- d[y] = v -/
def sDPut (td ty tv : TE) : TS := fun D σ H => tv σ H fun v H1 => td σ H1 fun x H2 => ty σ H2 fun y H3 => ∃ a H4, x = .ref a ∧ DPut H3 a y v H4 ∧ D.nx σ H4
section
variable {X : Cx} {o i e value : Expr} {pos pos' tpos : Pos} {td ty tv : TE}
theorem pe_dget (hu : X.A.units + 1 < cLine) (ho : PE X o td) (hi : PE X i ty) (hs : NoSl i) : PE X (.Subscript o i pos) (tDGet td ty) := by
  intro pins s σ H Q I h
  refine subD_of PySem.F.slot_dict_getitem.lookup hs (thn (ho pins s σ H _ I h) fun u s1 ⟨x, H1, I1, rx, q1⟩ => thn (hi pins s1 σ H1 _ I1 q1) fun iv s2 ⟨y, H2, I2, ry, a, v, ex, g, q2⟩ => ?_)
  subst ex
  obtain rfl : u = Value.ref a := rx
  exact ⟨dict_typeIs I2 g, d_getItem hu I2 g ry fun w' s3 I3 rw' => ⟨v, H2, I3, rw', q2⟩⟩
theorem pc_din (hu : X.A.units + 1 < cLine) (hi : PE X i ty) (ho : PE X o td) : PC X .In i o (tDIn ty td) := by
  intro pins s σ H Q I h
  refine thn (hi pins s σ H _ I h) fun iv s1 ⟨y, H1, I1, ry, q1⟩ => thn (ho pins s1 σ H1 _ I1 q1) fun u s2 ⟨x, H2, I2, rx, a, ov, ex, g, q2⟩ => ?_
  subst ex
  obtain rfl : u = Value.ref a := rx
  exact d_in hu I2 g ry fun s3 I3 => ⟨.bl ov.isSome, H2, I3, rfl, q2⟩
theorem pc_dnotin (hu : X.A.units + 1 < cLine) (hi : PE X i ty) (ho : PE X o td) : PC X .NotIn i o (tDNotIn ty td) := by
  intro pins s σ H Q I h
  refine thn (hi pins s σ H _ I h) fun iv s1 ⟨y, H1, I1, ry, q1⟩ => thn (ho pins s1 σ H1 _ I1 q1) fun u s2 ⟨x, H2, I2, rx, a, ov, ex, g, q2⟩ => ?_
  subst ex
  obtain rfl : u = Value.ref a := rx
  exact d_notIn hu I2 g ry fun s3 I3 => ⟨.bl (!ov.isSome), H2, I3, rfl, q2⟩
theorem ps_dput (hu : X.A.units + 1 < cLine) (ho : PE X o td) (hi : PE X i ty) (hv : PE X value tv) (hs : swapsWith value (some (.Subscript o i pos')) pos.line X.env = pure false) :
    PS X (.Assign [.Subscript o i pos'] value pos) (sDPut td ty tv) := by
  intro pins s σ H D I h
  refine wpAny_Assign_Subscript (thn (hv pins s σ H _ I h) fun r s1 ⟨v, H1, I1, rv, q1⟩ => thn (ho pins s1 σ H1 _ I1 q1) fun u s2 ⟨x, H2, I2, rx, q2⟩ => thn (hi pins s2 σ H2 _ I2 q2) fun iv s3 ⟨y, H3, I3, ry, a, H4, ex, g, q3⟩ => ?_) hs
  subst ex
  obtain rfl : u = Value.ref a := rx
  exact d_setItem hu I3 g ry rv fun s4 I4 => ⟨σ, H4, I4, q3⟩
end
/-! ### displays -/
theorem dk_empty {P : Program} {w : World} {H : Hp} (h : Heap) (hb : sysModules < h.objs.size) : ObjOk P w H (h.push { cls := .type "dict", data := .dict #[] }) h.objs.size (.dK []) :=
  ⟨Nat.zero_le _, beq_eq_false_iff_ne.mpr (Ne.symm (Nat.ne_of_lt hb)), [], .nil, Heap.DictOf.new h⟩
/-- {}, to be a dict of the kind that is wanted -/
def tDNewK : TE := fun _ H Q => ∀ p, H p = none → Q (.ref p) (upd H p (.dK []))
section
variable {X : Cx} {pos : Pos}
theorem pe_dnewK : PE X (.Dict [] [] pos) tDNewK := fun pins s σ H Q I h =>
  wpAny_Dict_empty ⟨.ref s.heap.objs.size, _, I.laid (a := s.heap.objs.size) (o := .dK []) (t' := s.toks) (fun _ _ q => Heap.get?_push_of_some _ q) (Nat.le_refl _) (dk_empty s.heap I.big), rfl, h _ (I.hok.fresh (Nat.le_refl _))⟩
end
/-- the pairs of a display, from the left -/
def tPairs : List (TE × TE) → St → Hp → (List (V × V) → Hp → Prop) → Prop
  | [], _, H, Q => Q [] H
  | (tk, tv) :: r, σ, H, Q => tk σ H fun x H1 => tv σ H1 fun y H2 => tPairs r σ H2 fun ps H3 => Q ((x, y) :: ps) H3
abbrev VV : List (V × V) → List (Value × Value) → Prop := Paired fun p q => RelV p.1 q.1 ∧ RelV p.2 q.2
def PPs (X : Cx) (pos : Pos) (keys : List (Option Expr)) (values : List Expr) (trs : List (TE × TE)) : Prop :=
  ∀ (pins : List (Addr × Obj)) (s : Shared) (σ : St) (H : Hp) (Q : List (V × V) → Hp → Prop), Inv X pins σ H s → tPairs trs σ H Q →
    wpAny (model X.prog X.w) X.A (evalPairs (pairTrees keys values X.env pos)) (fun vs s' => ∃ ps H', Inv X pins σ H' s' ∧ VV ps vs ∧ Q ps H') X.xe s
theorem pps_nil {X : Cx} {pos : Pos} : PPs X pos [] [] [] := fun pins s σ H Q I h => pairTrees_nil_walk ⟨[], H, I, .nil, h⟩
theorem pps_cons {X : Cx} {pos : Pos} {k v : Expr} {ks : List (Option Expr)} {vs : List Expr} {tk tv : TE} {trs : List (TE × TE)} (hk : PE X k tk) (hv : PE X v tv) (hr : PPs X pos ks vs trs) :
    PPs X pos (some k :: ks) (v :: vs) ((tk, tv) :: trs) := fun pins s σ H Q I h =>
  pairTrees_cons_walk (thn (hk pins s σ H _ I h) fun u s1 ⟨x, H1, I1, rx, q1⟩ => thn (hv pins s1 σ H1 _ I1 q1) fun w2 s2 ⟨y, H2, I2, ry, q2⟩ =>
    thn (hr pins s2 σ H2 _ I2 q2) fun ws s3 ⟨ps, H3, I3, rel, q3⟩ => ⟨(x, y) :: ps, H3, I3, .cons ⟨rx, ry⟩ rel, q3⟩)
def mergeK (kvs more : List (Key × V)) : List (Key × V) := more.foldl (fun acc kv => putK acc kv.1 kv.2) kvs
theorem KV.merge : ∀ {more : List (Key × V)} {rs : List (Key × Value)} {kvs : List (Key × V)} {vs : List (Key × Value)}, KV more rs → KV kvs vs → KV (mergeK kvs more) (merged vs rs) := by
  intro more rs kvs vs r
  unfold KV at r
  induction r generalizing kvs vs with
  | nil => intro q; exact q
  | @cons p q ps qs h t ih =>
    intro r0
    have e : KV (putK kvs p.1 p.2) (stored vs q.1 q.2) := by
      have := r0.put p.1 h.2
      rw [← h.1]; exact this
    exact ih e
theorem length_mergeK : ∀ (more kvs : List (Key × V)), (mergeK kvs more).length ≤ kvs.length + more.length
  | [], kvs => by show kvs.length ≤ kvs.length + 0; omega
  | p :: r, kvs => by
    have h1 := length_mergeK r (putK kvs p.1 p.2)
    have h2 := length_putK kvs p.1 p.2
    show (mergeK (putK kvs p.1 p.2) r).length ≤ _
    rw [List.length_cons]; omega
theorem carries_of {P : Program} {w : World} : ∀ {kvs : List (Key × V)} {ws : List (Value × Value)}, VV (kvs.map fun kv => (kV kv.1, kv.2)) ws → ∃ rs, Carries (mixKind P w) ws rs ∧ KV kvs rs
  | [], _, r => by rw [List.map_nil] at r; cases r; exact ⟨[], True.intro, .nil⟩
  | p :: kvs, _, r => by
    rw [List.map_cons] at r
    cases r with
    | @cons a b as bs h t =>
      obtain ⟨rs, c, q⟩ := carries_of (P := P) (w := w) t
      obtain ⟨b1, b2⟩ := b
      exact ⟨(p.1, b2) :: rs, ⟨kV_is h.1, rfl, c⟩, .cons ⟨rfl, h.2⟩ q⟩
/-- {k: v, ..} with keys ints and texts; the new dict stands empty while the pairs are made -/
def tDisp (trs : List (TE × TE)) : TE := fun σ H Q => ∀ p, H p = none → tPairs trs σ (upd H p (.dK [])) fun ps H2 => H2 p = some (.dK []) ∧ ∃ kvs : List (Key × V), ps = kvs.map (fun kv => (kV kv.1, kv.2)) ∧ kvs.length ≤ 15 ∧ Q (.ref p) (upd H2 p (.dK (mergeK [] kvs)))
theorem pe_disp {X : Cx} {pos : Pos} {keys : List (Option Expr)} {values : List Expr} {trs : List (TE × TE)} (h : PPs X pos keys values trs) (hall : keys.all (·.isSome) = true) (hl : keys.length = values.length) (h0 : keys ≠ [])
    (h15 : keys.length ≤ 15) : PE X (.Dict keys values pos) (tDisp trs) := by
  intro pins s σ H Q I q
  have hn := I.hok.fresh (Nat.le_refl s.heap.objs.size)
  have I1 := I.laid (a := s.heap.objs.size) (o := .dK []) (h' := s.heap.push { cls := .type "dict", data := .dict #[] }) (t' := s.toks) (fun _ _ q => Heap.get?_push_of_some _ q) (Nat.le_refl _) (dk_empty s.heap I.big)
  refine wpAny_Dict_walk (knd := mixKind X.prog X.w) hall hl h0 h15 (thn (h pins _ σ _ _ I1 (q _ hn)) fun ws s2 ⟨ps, H2, I2, rel, e, kvs, ep, lk, q2⟩ => ?_)
  subst ep
  obtain ⟨rs, c, rk⟩ := carries_of (P := X.prog) (w := X.w) rel
  obtain ⟨z, hd, vs0, r0, dd⟩ := dk_of I2.hok e
  cases r0
  refine ⟨rs, c, dd, fun h' dd' hs => ⟨.ref s.heap.objs.size, _, ?_, rfl, q2⟩⟩
  have hz : (mergeK [] kvs).length ≤ sizeLine := by
    have h1 := length_mergeK kvs []
    rw [List.length_nil] at h1
    rw [sizeLine_eq]; omega
  have he : ∃ q, h'.get? s.heap.objs.size = some q := let ⟨q, _, _, hq, _⟩ := dd'; ⟨q, hq⟩
  exact d_write I2 (by rw [e]; exact True.intro) hs he (dk_new hz hd (rk.merge .nil) dd')
/-! ### methods -/
/-- a method call o.m(e) of a built-in, with one argument: what must be seen of the text -/
structure M1 (X : Cx) (o : Expr) (m : Str) (apos : Pos) (e : Expr) (cpos : Pos) : Prop where
  base : attributeBase o m X.env (eval o X.env) = eval o X.env
  few : ((backTo cpos (starEach [e] X.env)).all (fun x => !x.1) && (backToKw cpos (keywordEach [] X.env)).all (fun x => x.1.isSome)
    && decide (([e] : List Expr).length + ([] : List Keyword).length + (if ([] : List Keyword).isEmpty then 0 else 1) < 30)) = true
  line : (apos.endLine == cpos.line) = true
  trees : backTo cpos (starEach [e] X.env) = [(false, eval e X.env)]
structure M2 (X : Cx) (o : Expr) (m : Str) (apos : Pos) (e f : Expr) (cpos : Pos) : Prop where
  base : attributeBase o m X.env (eval o X.env) = eval o X.env
  few : ((backTo cpos (starEach [e, f] X.env)).all (fun x => !x.1) && (backToKw cpos (keywordEach [] X.env)).all (fun x => x.1.isSome)
    && decide (([e, f] : List Expr).length + ([] : List Keyword).length + (if ([] : List Keyword).isEmpty then 0 else 1) < 30)) = true
  line : (apos.endLine == cpos.line) = true
  trees : backTo cpos (starEach [e, f] X.env) = [(false, eval e X.env), (false, eval f X.env)]
/-- a is a dict, whatever its keys -/
def IsD (H : Hp) (a : Addr) : Prop := (∃ kvs, Rd H a (.dK kvs)) ∨ ∃ kvs, Rd H a (.dT kvs)
theorem isD_at {X : Cx} {pins : List (Addr × Obj)} {σ : St} {H : Hp} {s : Shared} {a : Addr} (I : Inv X pins σ H s) (d : IsD H a) :
    s.TypeIs (.ref a) "dict" ∧ (∀ b, Value.ref a = .ref b → ∃ ob, s.heap.get? b = some ob ∧ ob.dict = none) ∧ (a == sysModules) = false := by
  rcases d with ⟨kvs, e⟩ | ⟨kvs, e⟩
  · obtain ⟨_, hd, vs, _, dd⟩ := dk_rd I.hok e
    refine ⟨dd.typeIs, fun b q => ?_, hd⟩
    cases q
    obtain ⟨ob, _, _, h1, h2, _⟩ := dd
    exact ⟨ob, h1, h2.2.1⟩
  · obtain ⟨_, hd, xs, _, dd⟩ := dt_rd I.hok e
    refine ⟨dd.typeIs, fun b q => ?_, hd⟩
    cases q
    obtain ⟨ob, _, _, h1, h2, _⟩ := dd
    exact ⟨ob, h1, h2.2.1⟩
section
variable {X : Cx} {pins : List (Addr × Obj)} {σ : St} {H : Hp} {s : Shared} {a : Addr} {y d : V} {u r : Value} {o : Option V} {A : Around} {E : Value → Shared → Prop}
end
/-- d.pop(k): there; d.pop(k, x): there or not -/
def tDPop1 (td ty : TE) : TE := fun σ H Q => td σ H fun x H1 => ∃ a, x = .ref a ∧ IsD H1 a ∧ ty σ H1 fun y H2 => ∃ kvs k v, H2 a = some (.dK kvs) ∧ y = kV k ∧ valV kvs k = some v ∧ Q v (upd H2 a (.dK (dropK kvs k)))
section
variable {X : Cx} {o e f : Expr} {apos cpos : Pos} {td ty tx : TE}
theorem pe_dpop1 (ho : PE X o td) (he : PE X e ty) (m : M1 X o "pop" apos e cpos) : PE X (.Call (.Attribute o "pop" apos) [e] [] cpos) (tDPop1 td ty) := by
  intro pins s σ H Q I h
  refine wpAny_Call_method m.base m.few m.line PySem.F.plainAttrs_dict PySem.F.slot_dict_pop PySem.F.type_dict_pop (thn (ho pins s σ H _ I h) fun u s1 ⟨x, H1, I1, rx, a, ex, d, q1⟩ => ?_)
  subst ex
  obtain rfl : u = Value.ref a := rx
  obtain ⟨t1, t2, _⟩ := isD_at I1 d
  refine ⟨t1, t2, ?_⟩
  rw [m.trees]
  refine Calls.callWith_builtin rfl (Calls.evalArgs_plain (Calls.spliced_cons (thn (he pins s1 σ H1 _ I1 q1) fun iv s2 ⟨y, H2, I2, ry, kvs, k, v, ea, ey, l, q2⟩ => Calls.spliced_nil ?_)))
  subst ey
  exact d_pop I2 ea ry l (.inl rfl) fun w' s3 I3 rw' => ⟨v, _, I3, rw', q2⟩
end
/-! ### dict(d): a copy -/
section
variable {X : Cx} {pins : List (Addr × Obj)} {σ : St} {H : Hp} {s : Shared} {a : Addr} {kvs : List (Key × V)} {A : Around} {E : Value → Shared → Prop}
end
section
variable {X : Cx} {pins : List (Addr × Obj)} {σ : St} {H : Hp} {s : Shared} {a : Addr} {y : V} {u : Value} {A : Around} {E : Value → Shared → Prop}
end
end L2
namespace L2
open PySem PySem.Spec PyProof.Rows
section
variable {prog : Program} {w : World} {A : Around} {E : Value → Shared → Prop}
end
section
variable {X : Cx}
end
end L2
namespace L2
open PySem PySem.Spec PyProof.Rows
theorem boot_reversed5 : bootBuiltins "reversed" = some (.type "reversed") := by decide +kernel
section
variable {X : Cx} {pins : List (Addr × Obj)} {σ : St} {H : Hp} {s : Shared} {h' : Heap}
/-! ### locking a thing while a statement runs -/
end
section
variable {X : Cx}
/-! ### one iterator just laid -/
theorem pi_one {tg : Expr} {pins : List (Addr × Obj)} {σ : St} {H : Hp} {s : Shared} {R : It → Hp → Prop} {J : It} {tn : Nat → Heap → Prop} {tk : Nat} (I : Inv X pins σ H s) (o : Obj)
    (T : Turn X.prog X.w X.K tg J [s.heap.objs.size] s.heap.objs.size tn) (st : tn 0 (s.heap.push o)) (q : R J H) : PIE X pins σ tg R (.ref s.heap.objs.size) { s with heap := s.heap.push o, toks := tk } := by
  refine ⟨s.heap.objs.size, [s.heap.objs.size], tn, J, H, rfl, I.kept fun b ob e => Heap.get?_push_of_some _ e, T, st, fun b hb => ?_, q⟩
  have e : b = s.heap.objs.size := by simpa using hb
  subst e
  exact I.fpOk (Nat.le_refl _) (I.hok.fresh (Nat.le_refl _))
end
/-! ### range with a step -/
/-- range(i, j, c): small bounds, n items -/
def RgC (i j c : Int) (n : Nat) : Prop := c ≠ 0 ∧ c.natAbs < 1073741824 ∧ Builtin.Range.small i j c = true ∧ Builtin.Range.rangeSize i j c = n
theorem RgC.neg {i j : Int} (ha : -(2 ^ 62) ≤ i) (ha' : i < 2 ^ 62) (hb : -(2 ^ 62) ≤ j) (hb' : j < 2 ^ 62) : RgC i j (-1) (i - j).toNat :=
  ⟨by decide, by decide, PySem.W.small_down ha ha' hb hb', PySem.W.rangeSize_downNat i j⟩
section
variable {X : Cx} {tg : Expr}
end
/-! ### reversed(list) -/
/-- the list at a (n items at the start, which the loop leaves there), from its end -/
def Itv (K : PySem.W.Frag) (a : Addr) (n : Nat) : It :=
  ⟨fun i H => i < n ∧ ∃ (xs : List V) (x : V), SqL K H a xs ∧ xs[n - 1 - i]? = some x, fun i H x H' => H' = H ∧ ∀ xs, SqL K H a xs → xs[n - 1 - i]? = some x, fun i _ => n ≤ i⟩
theorem turn_rev {P : Program} {w : World} {K : PySem.W.Frag} {tg : Expr} (a it : Addr) (n : Nat) : Turn P w K tg (Itv K a n) [it] it (fun i h => i ≤ n ∧ h.IsRevIter it a ((n : Int) - 1 - (i : Nat))) where
  mem := by simp
  obj := fun i h st b hb => by
    have e : b = it := by simpa using hb
    subst e
    obtain ⟨_, o, e, c, d⟩ := st
    exact ⟨o, e, fun v z => by rw [d] at z; cases z⟩
  keep := fun i h h' st k => ⟨st.1, st.2.at fun o e => k it (by simp) o e⟩
  item := by
    intro X hP hw hK hc i pins s σ H E I hf st hg
    subst hP hw hK
    obtain ⟨hin, xs, x, hq, hx⟩ := hg
    obtain ⟨its, rv, p, hz⟩ := I.list hq
    obtain ⟨u, hu, ru⟩ := rv.get hx
    obtain ⟨f0, f1, f2, f3, f4, f5⟩ := hf it (by simp)
    obtain ⟨_, hit⟩ := st
    have e1 : (n : Int) - 1 - ((i : Nat) : Int) = ((n - 1 - i : Nat) : Int) := by omega
    rw [e1] at hit
    refine wpAny_pyNext_rev_item hit p.isList (x := u) (by simpa using hu) fun h' st' sb => ?_
    have e2 : ((n - 1 - i : Nat) : Int) - 1 = (n : Int) - 1 - ((i + 1 : Nat) : Int) := by omega
    rw [e2] at st'
    have I1 : Inv X pins σ H { s with heap := h' } := I.turned (t' := s.toks) (fun b o hb e => (sb.2 b hb).trans e) f0 f1 f3 f4 f5
    obtain ⟨o, e, c, d⟩ := id st'
    exact ⟨u, rfl, go_of (s := { s with heap := h' }) e c d (by decide) ⟨x, H, I1, ru, ⟨rfl, fun ys hy => by rw [I.list_inj hy hq]; exact hx⟩, ⟨hin, st'⟩, fun b hb => (hf b hb).1⟩⟩
  done := by
    intro X hP hw hK hc i pins s σ H E I hf st hg
    subst hP hw hK
    obtain ⟨f0, f1, f2, f3, f4, f5⟩ := hf it (by simp)
    obtain ⟨hin, hit⟩ := st
    have hge : n ≤ i := hg
    have e1 : (n : Int) - 1 - ((i : Nat) : Int) = -1 := by omega
    rw [e1] at hit
    exact wpAny_pyNext_rev_end (I.ok.hd hc) hit fun h' eb => ⟨rfl, I.turned (t' := s.toks) (fun b o hb e => eb b o hb e) f0 f1 f3 f4 f5⟩
  self := fun A i s Q E st h => wpAny_pyIter_revIter st.2 h
def iRev (K : PySem.W.Frag) (ta : TA) : TI := fun σ H R => ta σ H fun vs H1 => ∃ (a : Addr) (xs : List V), vs = [.ref a] ∧ SqL K H1 a xs ∧ R (Itv K a xs.length) H1
section
variable {X : Cx} {tg : Expr}
theorem pi_reversed {e : Expr} {ta : TA} {p pos : Pos} (hg : Gl X "reversed") (hm : X.mg "reversed" = none) (ha : PA X [e] ta) (hs : starEach [e] X.env = [(false, eval e X.env)] := by rfl) : PI X tg (.Call (.Name "reversed" p) [e] [] pos) (iRev X.K ta) := by
  intro pins s σ H R I h
  refine Call_ (ld_blt I hg hm boot_reversed5 (PyProof.Rows.callWith_type1 (thn (ha pos pins s σ H _ I h) fun us s1 ⟨vs, H1, I1, r1, q1⟩ => ?_) hs rfl))
  obtain ⟨a, xs, e, hq, q⟩ := q1
  subst e
  cases r1 with
  | cons r rr =>
    cases rr
    cases r
    obtain ⟨its, rv, p', hz⟩ := I1.list hq
    have hl := rv.length
    have e1 : ((its.toArray.size : Nat) : Int) - 1 = (xs.length : Int) - 1 - ((0 : Nat) : Int) := by simp only [List.size_toArray]; omega
    refine call_reversed_list p'.isList (wpAny_pyIter_revIter (l := a) (i := ((its.toArray.size : Nat) : Int) - 1) ⟨_, Heap.get?_push_size _ rfl, rfl, rfl⟩ ?_)
    refine pi_one (tk := s1.toks) I1 _ (turn_rev a _ xs.length) ⟨Nat.zero_le _, ?_⟩ q
    rw [← e1]
    exact ⟨_, Heap.get?_push_size _ rfl, rfl, rfl⟩
end
/-! ### a str -/
/-! ### a dict's keys: any dict's entries -/
section
variable {prog : Program} {w : World} {A : Around} {E : Value → Shared → Prop} {s : Shared}
end
/-! ### a locked dict -/
section
variable {X : Cx} {pins : List (Addr × Obj)} {σ : St} {H : Hp} {s : Shared} {d : Addr} {o : Obj}
end
section
variable {P : Program} {w : World} {K : PySem.W.Frag} {tg : Expr} {d : Addr} {o : Obj} {es : Array DictEntry} {ep : Nat}
end
/-! ### for k in d, d.keys(), d.values(), d.items() -/
section
variable {X : Cx} {tg e : Expr} {td : TE} {apos cpos : Pos}
end
/-! ### enumerate(list) -/
/-! ### zip(list, list) -/
end L2
section 
namespace Bits
open PySem PyProof.Rows
end Bits
end 
section 
namespace TL
open PySem PySem.Builtin PySem.Builtin.Str PySem.StrLaws
abbrev tl (x : Str) : List Nat := x.cps.toList
/-! ### the list functions -/
/-- S stands at the head of l -/
def pre (S l : List Nat) : Bool := l.take S.length == S
/-- l cut at each S from the left; k signs are still to be passed over -/
def spl (S : List Nat) : Nat → List Nat → List Nat → List (List Nat)
  | _, acc, [] => [acc]
  | 0, acc, c :: r => if pre S (c :: r) = true then acc :: spl S (S.length - 1) [] r else spl S 0 (acc ++ [c]) r
  | k + 1, acc, _ :: r => spl S k acc r
/-- what stands before the first S, and behind it -/
def par (S : List Nat) : List Nat → List Nat → Option (List Nat × List Nat)
  | _, [] => none
  | acc, c :: r => if pre S (c :: r) = true then some (acc, (c :: r).drop S.length) else par S (acc ++ [c]) r
/-! ### the model's split and partition are these -/
/-! ### computing spl and par -/
/-! ### digits -/
/-! ### words: x.split() -/
end TL
end 
namespace L2
open PySem PySem.Spec PyProof.Rows
section
variable {X : Cx} {pins : List (Addr × Obj)} {σ : St} {H : Hp} {s : Shared} {Q : VK}
end
section
variable {X : Cx}
/-! ### of a text alone -/
/-! ### of a text and a text -/
end
section
variable {X : Cx} {o e : Expr} {to te : TE}
end
end L2
namespace L2
open PySem PySem.Spec PyProof.Rows
section
variable {X : Cx}
end
/-! ### slices of a text -/
theorem IsPart.raw {v : Value} {o : Option Int} (p : IsPart v o) : ∃ l : Option (Int × Tok), v = partValue l ∧ l.map (·.1) = o := by
  cases p with
  | none => exact ⟨none, rfl, rfl⟩
  | int i t => exact ⟨some (i, t), rfl, rfl⟩
end L2
namespace Att
open PySem PySem.W PySem.Calls PyProof.Rows
/-! ### the script -/
theorem ints_of_wellAll {P : Params} {h : Heap} : ∀ (ns : List Int) (vs : List Value), WellAll P h vs (ns.map WData.int) → IntsAre vs ns := by
  intro ns
  induction ns with
  | nil =>
    intro vs w
    rw [List.map_nil] at w
    cases w
    exact .nil
  | cons n ns ih =>
    intro vs w
    rw [List.map_cons] at w
    cases w with
    | cons a b =>
      cases a
      exact .cons _ _ (ih _ b)
theorem script_of {l : OpenLaw} {n : Nat} (hn : l.most = some n) {P : Params} {h : Heap} {args : List WData} {vals : List Value}
    (hpre : l.row.toRowW.claim.pre args = true) (hwl : WellAll P h vals args) :
    ∃ a vs ns, vals = [Value.ref a] ∧ args = [WData.list (ns.map WData.int)] ∧ h.get? a = some { cls := .type "list", data := .seq vs.toArray } ∧ IntsAre vs ns ∧ ns.length ≤ n := by
  have hsh : WShape.hasAll [] args [.list .int] = true := (pre_splitW hpre).1
  have hc : l.pre.holds [] { args := args } = true := (pre_splitW hpre).2
  obtain ⟨d, r, rfl, h1, h2⟩ := hasAllW_cons hsh
  obtain rfl := hasAllW_nil h2
  obtain ⟨xs, rfl, h3⟩ := hasW_list h1
  obtain ⟨ns, rfl⟩ := items_int h3
  have hlen : ns.length ≤ n := by
    unfold OpenLaw.pre at hc
    have h4 : (WTm.not (.lt (.lit (.int (n : Int))) (.len (.arg 0)))).holds [] { args := [.list (ns.map .int)] } = true := by
      have h4 := (holds_andW hc).1
      rw [hn] at h4
      exact h4
    have h5 := condW_of h4 (w_not (w_lt w_lit (w_len_list (w_arg rfl))))
    rw [List.length_map] at h5
    refine Nat.le_of_not_lt fun q => ?_
    have q' : (n : Int) < ((ns.length : Nat) : Int) := by omega
    first
      | (rw [decide_eq_true q'] at h5; exact absurd h5 (by decide))
      | (simp at h5; omega)
  cases hwl with
  | cons w1 w2 =>
    cases w2
    cases w1 with
    | list ho hall => exact ⟨_, _, ns, rfl, rfl, ho, ints_of_wellAll ns _ hall, hlen⟩
theorem post_true (l : OpenLaw) (args : List WData) : l.row.toRowW.claim.post args (.bool true) args = true :=
  postW_of (r := l.row.toRowW) (X := (true == true))
    (show WShape.has [] (.bool true) .bool = true by first | rfl | decide | simp [WShape.has, WShape.arms, WShape.armsAll])
    (show (WTm.eq .res (.lit (.bool true))).value [] { args := args, res := some (.bool true), after := args } = some (.bool (true == true)) from w_eq_bool (w_res rfl) w_lit) rfl
/-! ### the attachment: holds_open's last premise (the goal 'hc' behind k_head) from a wpAny of the law's body -/
/-- the same from a codeAny of the CALL (for a layer whose function contracts speak of calls) -/
theorem attach_call {l : OpenLaw} {n : Nat} {q : Program} {loose : List Str} {XP : (Str → Option Value) → Heap → Prop} {YP : World → Heap → Prop} {d : DefRec}
    (hn : l.most = some n) (hdf : d.params.defaults = [])
    (call : ∀ (w : World) (s₀ s₁ : Shared) (mg mb : Str → Option Value) (fa : Addr) (o : Obj) (pm cd doc : Value) (a : Addr) (vs : List Value) (ns : List Int),
      Ground q loose [] XP w s₀ mg mb s₁.heap → YP w s₁.heap →
      s₁.heap.get? fa = some o → o.data = .func (docDef d.name d.params d.body d.scope pm cd doc) → s₁.heap.CodeRec cd d.name → mg d.name = some (.ref fa) →
      s₁.heap.get? a = some { cls := .type "list", data := .seq vs.toArray } → IntsAre vs ns → ns.length ≤ n → s₁.gens = #[] →
      codeAny (model l.prog w) callerA (.call (.ref fa) ⟨[.ref a], []⟩) (fun r s' => r = .ok (.ret (.bool true)) ∧ OldK s₁.heap s'.heap ∧ s'.os = s₁.os ∧ AllBare s'.gens) s₁) :
    WalkO q loose XP YP l.row.toRowW d [] (fun f vs => PySem.call f vs) := by
  intro w s₀ s₁ mg mb G Y fa o pm cd doc dV kV ho hd hcd hD hmg hg args vals as hpre hlay hrd hwl hlo
  obtain rfl : dV = .none := Dflts.none hD hdf
  obtain rfl : kV = .none := Dflts.noKw hD
  obtain ⟨a, vs, ns, rfl, rfl, hobj, hints, hlen⟩ := script_of hn hpre hwl
  refine enter_call (codeAny_mono (call w s₀ s₁ mg mb fa o pm cd doc a vs ns G Y ho (fd_plain hd) hcd hmg hobj hints hlen hg) fun r s' hq => ?_)
  obtain ⟨rfl, h2, h3, h4⟩ := hq
  exact ⟨.inl ⟨.bool true, .bool true, [], rfl, fun _ => rfl, .bool true, post_true l _, fun _ => ⟨List.Pairwise.nil, fun _ hm => (nomatch hm)⟩⟩, h2, h3, h4⟩
/-! ### rules over ANY heap (no ledger) from facts about the written part K: the library's own take a ledger (News) for what they write -/
section
variable {prog : Program} {w : World} {A : Around} {E : Value → Shared → Prop} {s : Shared} {K : Frag}
/-! the whole heap as the ledger: makes every rule that writes through a ledger a rule over any heap -/
def ledger (h : Heap) (L d : Addr) : List (Addr × Obj) := (List.range h.objs.size).filterMap fun a => if a = L ∨ a = d then none else (h.get? a).map fun o => (a, o)
end
end Att
namespace L2
open PySem PySem.Spec PyProof.Rows
theorem vals_ints : ∀ {vs : List Value} {ns : List Int}, IntsAre vs ns → Vals (ns.map V.int) vs
  | _, _, .nil => .nil
  | _, _, .cons n t h => .cons ⟨t, rfl⟩ (vals_ints h)
/-- nothing is tracked but the script, known to the object (or it is an object of the module) -/
def Only (H : Hp) : Prop := ∀ b, H b = none ∨ ∃ o xs, H b = some (.frz o (.lst xs))
/-- THE HEAD: the law's promise, at the heap behind the top. F, the promise of the law's def, may use that base is part of the heap (so K.In base, base.Ns mainGlobals mg stand in Mod) -/
theorem law_call {P : Program} {w : World} {K : PySem.W.Frag} {mg mb : Str → Option Value} {CX : CXT} {k : Nat} {fa a : Addr} {fd : FuncData} {x : Str} {sp : Sp} {s₁ : Shared} {vs : List Value} {ns : List Int}
    (KX : K.In s₁.heap) (hns : s₁.heap.Ns mainGlobals mg) (hb : s₁.heap.Ns builtinsNs mb) (hbb : ∀ x : Str, x ≠ "__name__" → mb x = bootBuiltins x) (hlim : s₁.heap.NoLimit) (hg : s₁.gens = #[])
    (ha : s₁.heap.get? a = some { cls := .type "list", data := .seq vs.toArray }) (hi : IntsAre vs ns) (hl : ns.length ≤ sizeLine) (hr : Room k callerA)
    (F : ∀ base : Heap, K.In base → base.Ns mainGlobals mg → FnOk P w K mg base CX k fa fd [x] sp) (hbind : ∀ (s : Shared) (u : Value), BindsTo s fd ⟨[u], []⟩ [(x, u)])
    (hsp : ∀ H : Hp, Only H → SqL K H a (ns.map V.int) → sp [.ref a] H (fun v _ => v = .bl true) fun _ _ _ => False)
    (hCX : ∀ H e s', CX [] H s₁ (fun _ _ _ => False) e s' → False) :
    codeAny (model P w) callerA (.call (.ref fa) ⟨[.ref a], []⟩) (fun r s' => r = .ok (.ret (.bool true)) ∧ OldK s₁.heap s'.heap ∧ s'.os = s₁.os ∧ AllBare s'.gens) s₁ := by
  have rv := vals_ints hi
  have lenV := hi.length
  -- from an abstract heap in which nothing but the script may be tracked
  have core : ∀ H : Hp, Only H → SqL K H a (ns.map V.int) → HOk P w H s₁.heap → (∀ b, H b ≠ none → b = a) → (H a ≠ none → K.lookup a = none) →
      codeAny (model P w) callerA (.call (.ref fa) ⟨[.ref a], []⟩) (fun r s' => r = .ok (.ret (.bool true)) ∧ OldK s₁.heap s'.heap ∧ s'.os = s₁.os ∧ AllBare s'.gens) s₁ := by
    intro H hO hS hok hA hK
    have base_of : ∀ {b : Addr} {o : Obj}, s₁.heap.get? b = some o → H b = none → (hidT s₁.heap H).get? b = some o := fun e n => hidT_get e n
    have noA : ∀ {b : Addr} {o : Obj} {es : Array DictEntry} {ep : Nat}, s₁.heap.get? b = some o → o.data = .dict es ep → H b = none := fun {b o es ep} e d => by
      cases q : H b with
      | none => rfl
      | some u =>
        have e' : b = a := hA b (by rw [q]; simp)
        subst e'
        rw [ha] at e; cases e
        have d' : Data.seq vs.toArray _ = Data.dict es ep := d
        cases d'
    have nsK : ∀ {b : Addr} {m : Str → Option Value}, s₁.heap.Ns b m → (hidT s₁.heap H).Ns b m := fun {b m} ⟨o, es, ep, e, d, r⟩ => ⟨o, es, ep, base_of e (noA e d), d, r⟩
    have hKb : K.In (hidT s₁.heap H) := fun b o e => base_of (KX b o e) (by
      cases q : H b with
      | none => rfl
      | some u =>
        have e' : b = a := hA b (by rw [q]; simp)
        subst e'
        rw [hK (by rw [q]; simp)] at e; cases e)
    have hM : Mod K mg (hidT s₁.heap H) := ⟨hKb, nsK hns, ⟨mb, nsK hb, hbb⟩, let ⟨mc, h1, h2⟩ := hlim; ⟨mc, nsK h1, h2⟩⟩
    have e0 : Env0 P w K mg (hidT s₁.heap H) callerA [] s₁ H := ⟨rfl, hM, fun b o e => of_hidT e, Nat.le_of_eq (hidT_size _ _), trivial, fun b hb => absurd (show b ∈ ([] : List Addr) from hb) (by simp), hok, .of_eq hg⟩
    refine codeAny_mono ((F _ hKb (nsK hns)).run callerA [] s₁ H ⟨[.ref a], []⟩ [.ref a] [.ref a] _ _ hr e0 (hbind s₁ (.ref a)) (.cons rfl .nil) (hsp H hO hS)) fun r s' h => ?_
    cases r with
    | error e => exact (hCX H e s' h).elim
    | ok fl =>
      cases fl with
      | next => exact False.elim h
      | brk => exact False.elim h
      | cont => exact False.elim h
      | ret u =>
        obtain ⟨v, H', os, bare, un, hok', r', q⟩ := h
        have q' : v = .bl true := q
        subst q'
        obtain rfl : u = Value.bool true := r'
        refine ⟨rfl, OldK.of_keep fun b o e => ?_, os, bare⟩
        cases q : H b with
        | none => exact un.keep b o e q (by intro z; exact absurd (show b ∈ ([] : List Addr) from z) (by simp)) (by simp)
        | some u =>
          rcases hO b with z | ⟨ob, xs, z⟩
          · rw [q] at z; cases z
          · have z2 := un.frzs b ob _ z
            obtain ⟨e1, _⟩ := hok b _ z
            obtain ⟨e2, _⟩ := hok' b _ z2
            rw [e] at e1; cases e1
            exact e2
  cases hk : K.lookup a with
  | some o =>
    -- the script is one of the module's own objects
    have e := KX a o hk
    rw [ha] at e
    cases e
    refine core (fun _ => none) (fun _ => .inl rfl) (.inr ⟨_, vs.toArray, _, hk, rfl, rfl, rfl, by rw [List.size_toArray, lenV]; exact hl, by simpa using rv⟩) (fun b u z => by have z' : (none : Option HO) = some u := z; cases z') (fun b z => absurd rfl z) fun z => absurd rfl z
  | none =>
    refine core (fun b => if b = a then some (.frz { cls := .type "list", data := .seq vs.toArray } (.lst (ns.map V.int))) else none) (fun b => ?_) (.inl (.inr ⟨{ cls := .type "list", data := .seq vs.toArray }, if_pos rfl⟩)) (fun b u z => ?_) (fun b z => ?_) fun _ => hk
    · by_cases hb : b = a
      · exact .inr ⟨_, _, if_pos hb⟩
      · exact .inl (if_neg hb)
    · by_cases hb : b = a
      · have z' := (if_pos hb).symm.trans z
        cases z'
        subst hb
        exact ⟨ha, by rw [List.length_map]; exact hl, vs, _, rv, ha⟩
      · have z' := (if_neg hb).symm.trans z
        cases z'
    · by_cases hb : b = a
      · exact hb
      · exact absurd (if_neg hb) z
end L2
namespace L2
open PySem PySem.Spec PyProof.Rows
abbrev KOf {K : PySem.W.Frag} {h : Heap} (_ : K.In h) : PySem.W.Frag := K
/-- the goal that k_head leaves (case hc), from the law's promise. F gives the function object fd (K's own) once, then the promise over every base -/
theorem walk_of {l : PySem.W.OpenLaw} {n k : Nat} {q : Program} {loose : List Str} {XP : (Str → Option Value) → Heap → Prop} {YP : World → Heap → Prop} {d : DefRec} {K : Params → PySem.W.Frag} {CX : World → CXT} {sp : World → Sp} {x : Str}
    (hn : l.most = some n) (hn2 : n ≤ sizeLine) (hdf : d.params.defaults = []) (hr : Room k callerA)
    (hY : ∀ (w : World) (h : Heap), YP w h → (K w.params).In h)
    (F : ∀ (w : World) (mg : Str → Option Value) (fa : Addr) (h : Heap), (K w.params).In h → h.Ns mainGlobals mg → mg d.name = some (.ref fa) →
      ∃ fd : FuncData, (∀ (s : Shared) (u : Value), BindsTo s fd ⟨[u], []⟩ [(x, u)]) ∧
        ∀ base : Heap, (K w.params).In base → base.Ns mainGlobals mg → FnOk l.prog w (K w.params) mg base (CX w) k fa fd [x] (sp w))
    (hsp : ∀ (w : World) (H : Hp) (a : Addr) (ns : List Int), ns.length ≤ n → Only H → SqL (K w.params) H a (ns.map V.int) → sp w [.ref a] H (fun v _ => v = .bl true) fun _ _ _ => False)
    (hCX : ∀ (w : World) (H : Hp) (s : Shared) (e : Value) (s' : Shared), CX w [] H s (fun _ _ _ => False) e s' → False) :
    PySem.W.WalkO q loose XP YP l.row.toRowW d [] (fun f vs => PySem.call f vs) := by
  refine Att.attach_call hn hdf fun w s₀ s₁ mg mb fa o pm cd doc a vs ns G Y ho hd hcd hmg hobj hints hlen hg => ?_
  have KX := hY w _ Y
  obtain ⟨fd, hb, hF⟩ := F w mg fa _ KX G.T.g hmg
  exact law_call KX G.T.g G.T.b G.T.builtins G.T.nolimit hg hobj hints (Nat.le_trans hlen hn2) hr hF hb (fun H hO hS => hsp w H a ns hlen hO hS) fun H e s' => hCX w H s₁ e s'
end L2
/- THE LAST THEOREM (shape; LID, My.* are yours):
   My.Adr: a structure of the addresses that your layer names (classes, functions); My.Txt K t: a structure (Prop) of the equations over K;
   My.txt_mk : {K} {implicit addresses ..} (e1 : nsIn K mainGlobals "law" = some (some (.ref f))) (e2 : K.lookup f = some ⟨oc, od, .func (fnOf "law" "law" params body scope dV kV doc pm an cdv ct), sl⟩) (e3 : codeIn K cdv "law" = true) .. : ∃ t, My.Txt K t
set_option maxRecDepth 100000 in
set_option maxHeartbeats 0 in
theorem PySem.Challenge.cw_LID_holds : PySem.Challenge.rw_LID.Holds := by
  w_on; o_law; k_head; (case hw => w_witness2)
  k_fill
  refine L2.walk_of (l := PySem.Challenge.rw_LID) (n := 63) (k := 40) (x := "script") (CX := fun w => ..) (sp := fun _ => My.sp_law) rfl (by decide) rfl ⟨rfl, by decide, by decide⟩ (fun w h Y => PySem.W.kIn_of Y) ?F ?S ?C
  case F =>
    intro w mg fa h KX G hmg
    have T : ∃ t, My.Txt (L2.KOf KX) t := by
      dsimp only [L2.KOf]                          -- K must stand as «<heap const> w.params» for k_is
      refine' My.txt_mk ?e1 ?e2 ?e3 ..
      (case e1 => PySem.W.k_is)                    -- in the order: a name -> its address -> its object -> its parts
      (case e2 => PySem.W.k_is)
      ..
    obtain ⟨t, T⟩ := T
    have e0 := hmg.symm.trans (PySem.W.mg_of KX G T.law)
    cases e0                                       -- fa is the law's own address
    exact ⟨_, fun s u => .of_eq rfl, fun base kb nb => My.law_fn T kb nb⟩     -- if «.of_eq rfl» comes too early: refine' ⟨_, ?b, fun base kb nb => My.law_fn T kb nb⟩; exact fun s u => .of_eq rfl
  case S => exact fun w H a ns hl hO hS => ..
  case C => exact ..
(the tactic k_is has no namespace: write k_is) -/
/-! SHORT WORDS over the layer: a def of the text, its body, what a loop and a test want. -/
namespace L2
open PySem PySem.Spec PyProof.Rows
/-! ### the text by places -/
/-- the j-th statement of a class's body -/
def inClass (s : Stmt) (j : Nat) : Stmt := match s with
  | .ClassDef _ _ _ body _ _ _ _ _ _ _ => body.getD j (.Pass ⟨0, 0, 0, 0⟩)
  | _ => .Pass ⟨0, 0, 0, 0⟩
def defArgs (s : Stmt) : Arguments := match s with
  | .FunctionDef _ a _ _ _ _ _ _ _ _ => a
  | _ => { posonlyargs := [], args := [], vararg := none, kwonlyargs := [], kw_defaults := [], kwarg := none, defaults := [] }
def defBody (s : Stmt) : List Stmt := match s with
  | .FunctionDef _ _ b _ _ _ _ _ _ _ => b
  | _ => []
def defScope (s : Stmt) : Scope := match s with
  | .FunctionDef _ _ _ _ _ _ sc _ _ _ => sc
  | _ => { kind := .function, names := [], isGenerator := false, isCoroutine := false }
/-! ### no exception leaves a def -/
abbrev CX0 : CXT := fun _ _ _ _ _ _ => False
abbrev E0 : XK := fun _ _ _ => False
theorem pass0 {X : Cx} : Passes CX0 X E0 := fun _ _ _ _ _ _ _ h => h.elim
/-! ### a def (or method) of the text as it stands behind the top -/
structure Fun (K : PySem.W.Frag) (x qual : Str) (st : Stmt) (f : Addr) (fd : FuncData) : Prop where
  ex : ∃ (oc : Value) (od : Option Addr) (kV doc pm : Value) (an : Option Addr) (cdv ct : Value) (osl : Array (Option Value)),
    fd = PySem.W.fnOf x qual (defArgs st) (defBody st) (defScope st) .none kV doc pm an cdv ct ∧ K.lookup f = some ⟨oc, od, .func fd, osl⟩ ∧ PySem.W.codeIn K cdv qual = true
  kp : PySem.W.keepIn K (.ref f) = true
section
variable {P : Program} {w : World} {K : PySem.W.Frag} {mg : Str → Option Value} {base : Heap}
/-- THE RULE for a def: its body as a term of rules, and the reading of that term -/
theorem Fun.ok {x qual : Str} {st : Stmt} {f : Addr} {fd : FuncData} {N ps : List Str} {k : Nat} {sp : Sp} (F : Fun K x qual st f fd) (S : FnScope N ps (defScope st)) (len : ∀ vs H Q E, sp vs H Q E → vs.length = ps.length)
    (hbody : ∀ (cdv : Value) (A : Around) (outer : List Env) (s : Shared) (H : Hp) (vs : List V) (Q : VK) (E : XK), Room k (A.deeper (envOfC qual (defScope st) s.heap.objs.size f cdv)) → sp vs H Q E →
      ∃ t, PSs (cxOf CX0 P w K mg base N qual (defScope st) f cdv A outer s H E).nox (defBody st) t ∧ t { nx := fun _ H' => Q .non H', rt := Q } (start N vs) H) : FnOk P w K mg base CX0 (k + 1) f fd ps sp := by
  obtain ⟨oc, od, kV, doc, pm, an, cdv, ct, osl, rfl, lk, hcd⟩ := F.ex
  refine fn_of lk hcd S len fun A outer s H vs Q E hr hsp => ?_
  obtain ⟨t, h, q⟩ := hbody cdv A outer s H vs Q E hr hsp
  exact ⟨t, h.nox, q⟩
/-- how its arguments bind (no defaults): h is «fun _ _ _ _ _ _ us hl => match us, hl with | [_, _], _ => rfl», one _ a parameter -/
theorem Fun.binds {x qual : Str} {st : Stmt} {f : Addr} {fd : FuncData} {ps : List Str} (F : Fun K x qual st f fd)
    (h : ∀ (kV doc pm : Value) (an : Option Addr) (cdv ct : Value) (us : List Value), us.length = ps.length → bindArgs (PySem.W.fnOf x qual (defArgs st) (defBody st) (defScope st) .none kV doc pm an cdv ct) ⟨us, []⟩ = pure (ps.zip us)) : Binds K fd ps [] := by
  obtain ⟨oc, od, kV, doc, pm, an, cdv, ct, osl, rfl, lk, hcd⟩ := F.ex
  exact .all (h kV doc pm an cdv ct)
theorem fun_mk {x qual : Str} {st : Stmt} {f : Addr} {oc : Value} {od an : Option Addr} {osl : Array (Option Value)} {kV doc pm cdv ct : Value} (l : K.lookup f = some ⟨oc, od, .func (PySem.W.fnOf x qual (defArgs st) (defBody st) (defScope st) .none kV doc pm an cdv ct), osl⟩)
    (c : PySem.W.codeIn K cdv qual = true) (k : PySem.W.keepIn K (.ref f) = true) : Fun K x qual st f (PySem.W.fnOf x qual (defArgs st) (defBody st) (defScope st) .none kV doc pm an cdv ct) := ⟨⟨oc, od, kV, doc, pm, an, cdv, ct, osl, rfl, l, c⟩, k⟩
end
theorem hu_of {A : Around} {k : Nat} (hr : Room k A) : A.units + 1 < cLine := Nat.lt_of_le_of_lt (Nat.add_le_add_left (by decide : 1 ≤ 64) _) hr.units
/-! ### expressions in short: the name that stands in the i-th slot -/
section
variable {X : Cx}
theorem pv (i : Nat) {x : Str} {pos : Pos} (hN : X.N[i]? = some x := by rfl) (hv : Vis X.env.scope x := by first | exact Or.inl rfl | exact Or.inr (Or.inl rfl) | exact Or.inr (Or.inr rfl)) (hd : (x == ("__debug__" : Str)) = false := by decide)
    (hcd : (x == ("__classdict__" : Str)) = false := by decide) : PE X (.Name x pos) (tVar i) := pe_var hN hv hd hcd
/-- len of a dict -/
theorem call_lenD : CallR X (.builtin "len") (fun xs H Q => ∃ a kvs, xs = [V.ref a] ∧ H a = some (.dK kvs) ∧ Q (.int kvs.length) H) := by
  intro pins s σ H xs us Q I r h
  obtain ⟨a, kvs, rfl, ha, q⟩ := h
  obtain ⟨u, rfl, ru⟩ := vals1 r
  cases ru
  exact d_len I (.inl ha) fun t s' I' => ⟨.int kvs.length, H, I', ⟨t, rfl⟩, q⟩
end
/-! ### tests -/
theorem iteF {A B : Prop} (h : B) : if false = true then A else B := by
  rw [if_neg Bool.false_ne_true]
  exact h
theorem iteT {A B : Prop} (h : A) : if true = true then A else B := by
  rw [if_pos rfl]
  exact h
theorem ite2 {c A B : Prop} [Decidable c] (h1 : c → A) (h2 : ¬ c → B) : if c then A else B := by
  by_cases h : c
  · rw [if_pos h]
    exact h1 h
  · rw [if_neg h]
    exact h2 h
/-! ### heaps -/
/-- all that was tracked is as it was -/
def Same (H H' : Hp) : Prop := ∀ b o, H b = some o → H' b = some o
theorem Same.refl (H : Hp) : Same H H := fun _ _ h => h
theorem Same.trans {H H1 H2 : Hp} (a : Same H H1) (b : Same H1 H2) : Same H H2 := fun c o h => b c o (a c o h)
theorem Same.free {H H' : Hp} (e : Same H H') {l : Addr} (h : H' l = Option.none) : H l = Option.none := by
  cases q : H l with
  | none => rfl
  | some o =>
    rw [e l o q] at h
    cases h
theorem Same.seq {K : PySem.W.Frag} {H H' : Hp} {a : Addr} {xs : List V} (e : Same H H') (h : SqL K H a xs) : SqL K H' a xs := by
  rcases h with (h | ⟨o, h⟩) | h
  · exact .inl (.inl (e _ _ h))
  · exact .inl (.inr ⟨o, e _ _ h⟩)
  · exact .inr h
/-! ### a dict's pairs: keys that differ -/
section
variable {κ : Type} [DecidableEq κ]
end
/-! ### lists -/
/-- a new instance and its __init__ leave all that was tracked as it was -/
theorem Same.made {H H1 : Hp} {x dx C : Addr} (nx : H x = Option.none) (nd : H dx = Option.none) (k : ∀ b o, (upd (upd H dx (.own x)) x (.ins C dx [])) b = some o → b ≠ x → H1 b = some o) : Same H H1 := fun b o e =>
  k b o (by rw [upd_ne (ne_of_none e nx), upd_ne (ne_of_none e nd)]; exact e) (ne_of_none e nx)
end L2
end
section
section
set_option Elab.async false
set_option linter.all false
set_option maxRecDepth 100000
set_option maxHeartbeats 2000000
namespace L2
open PySem PySem.Spec PyProof.Rows
open PySem.W (WData Codec OpenSpec Well WellAll ReadsW ReadsAllW)
/-! ### an answer as data -/
mutual
/-- x stands for the datum d, lists and tuples all the way -/
inductive Dw (K : PySem.W.Frag) (H : Hp) : V → WData → Prop
  | non : Dw K H .non .none
  | bl (b : Bool) : Dw K H (.bl b) (.bool b)
  | int (i : Int) : Dw K H (.int i) (.int i)
  | str (x : Str) : Dw K H (.str x) (.str x)
  | byt (b : Array UInt8) : Dw K H (.byt b) (.bytes b.toList)
  | lst {a : Addr} {xs : List V} {ds : List WData} : SqL K H a xs → DwAll K H xs ds → Dw K H (.ref a) (.list ds)
  | tup {a : Addr} {xs : List V} {ds : List WData} : SqT K H a xs → DwAll K H xs ds → Dw K H (.ref a) (.tuple ds)
inductive DwAll (K : PySem.W.Frag) (H : Hp) : List V → List WData → Prop
  | nil : DwAll K H [] []
  | cons {v : V} {vs : List V} {d : WData} {ds : List WData} : Dw K H v d → DwAll K H vs ds → DwAll K H (v :: vs) (d :: ds)
end
theorem dw_ints {K : PySem.W.Frag} {H : Hp} : ∀ ns : List Int, DwAll K H (ns.map V.int) (ns.map WData.int)
  | [] => .nil
  | n :: r => .cons (.int n) (dw_ints r)
theorem ints_dw {K : PySem.W.Frag} {H : Hp} : ∀ (ns : List Int) (xs : List V), DwAll K H xs (ns.map WData.int) → xs = ns.map V.int
  | [], xs, h => by
    cases h
    rfl
  | n :: r, xs, h => by
    cases h with
    | cons h1 h2 =>
      cases h1
      rw [ints_dw r _ h2] <;> rfl
section
variable {P : Program} {w : World} {K : PySem.W.Frag} {H : Hp} {h : Heap} {R : PySem.W.WRecords} {cl : Str → Option Addr}
theorem sqL_at {a : Addr} {xs : List V} (hok : HOk P w H h) (KX : K.In h) (q : SqL K H a xs) : ∃ (its : List Value) (o : Obj) (n : Nat), Vals xs its ∧ h.get? a = some o ∧ o.cls = .type "list" ∧ o.data = .seq its.toArray n := by
  rcases q with q | ⟨o, its, n, e, hc, _, hd, _, hv⟩
  · obtain ⟨_, its, n, hv, e⟩ := (show ObjOk P w H h a (.lst xs) from q.ok hok)
    exact ⟨its, _, n, hv, e, rfl, rfl⟩
  · exact ⟨its.toList, o, n, hv, KX _ _ e, hc, by simp [hd]⟩
theorem sqT_at {a : Addr} {xs : List V} (hok : HOk P w H h) (KX : K.In h) (q : SqT K H a xs) : ∃ (its : List Value) (o : Obj) (n : Nat), Vals xs its ∧ h.get? a = some o ∧ o.cls = .type "tuple" ∧ o.data = .seq its.toArray n := by
  rcases q with q | ⟨o, its, n, e, hc, hd, _, hv⟩
  · obtain ⟨_, its, hv, o, e, hc, n, hd⟩ := (show ObjOk P w H h a (.tup xs) from q.ok hok)
    exact ⟨its, o, n, hv, e, hc, hd⟩
  · exact ⟨its.toList, o, n, hv, KX _ _ e, hc, by simp [hd]⟩
mutual
theorem Dw.reads (hok : HOk P w H h) (KX : K.In h) : ∀ (d : WData) (v : V) (u : Value), Dw K H v d → RelV v u → ∃ as, ReadsW R cl h u d as
  | .none, _, _, x, r => by
    cases x
    cases r
    exact ⟨_, ReadsW.none⟩
  | .bool b, _, _, x, r => by
    cases x
    cases r
    exact ⟨_, ReadsW.bool b⟩
  | .int i, _, _, x, r => by
    cases x
    obtain ⟨t, rfl⟩ := r
    exact ⟨_, ReadsW.int i t⟩
  | .str s, _, _, x, r => by
    cases x
    obtain ⟨t, rfl⟩ := r
    exact ⟨_, ReadsW.str s t⟩
  | .bytes b, _, _, x, r => by
    cases x
    obtain ⟨t, rfl⟩ := r
    exact ⟨_, ReadsW.bytes _ t⟩
  | .list ds, _, _, x, r => by
    cases x with
    | lst hs ha =>
      cases r
      obtain ⟨its, o, n, rv, ho, hc, hd⟩ := sqL_at hok KX hs
      obtain ⟨as, hr⟩ := Dw.readsAll hok KX ds _ its ha rv
      exact ⟨_, ReadsW.list ho hc hd hr⟩
  | .tuple ds, _, _, x, r => by
    cases x with
    | tup hs ha =>
      cases r
      obtain ⟨its, o, n, rv, ho, hc, hd⟩ := sqT_at hok KX hs
      obtain ⟨as, hr⟩ := Dw.readsAll hok KX ds _ its ha rv
      exact ⟨_, ReadsW.tuple ho hc hd hr⟩
  | .float _, _, _, x, _ => by cases x
  | .dict _, _, _, x, _ => by cases x
  | .bytearray _, _, _, x, _ => by cases x
  | .set _, _, _, x, _ => by cases x
  | .frozenset _, _, _, x, _ => by cases x
  | .obj _ _, _, _, x, _ => by cases x
theorem Dw.readsAll (hok : HOk P w H h) (KX : K.In h) : ∀ (ds : List WData) (vs : List V) (us : List Value), DwAll K H vs ds → Vals vs us → ∃ as, ReadsAllW R cl h us ds as
  | [], _, _, x, r => by
    cases x
    cases r
    exact ⟨_, ReadsAllW.nil⟩
  | d :: ds, _, _, x, r => by
    cases x with
    | cons h1 h2 =>
      cases r with
      | cons r1 r2 =>
        obtain ⟨as, q1⟩ := Dw.reads hok KX d _ _ h1 r1
        obtain ⟨bs, q2⟩ := Dw.readsAll hok KX ds _ _ h2 r2
        exact ⟨_, ReadsAllW.cons q1 q2⟩
end
end
/-! ### the arguments -/
mutual
/-- data that a codec tells -/
def plW : WData → Bool
  | .none => true
  | .bool _ => true
  | .int _ => true
  | .str _ => true
  | .bytes _ => true
  | .list xs => plWs xs
  | .tuple xs => plWs xs
  | _ => false
def plWs : List WData → Bool
  | [] => true
  | x :: r => plW x && plWs r
end
theorem plWs_map {α : Type} {f : α → WData} (h : ∀ a, plW (f a) = true) : ∀ l : List α, plWs (l.map f) = true
  | [] => rfl
  | x :: r => by
    show (plW (f x) && plWs (r.map f)) = true
    rw [h x, plWs_map h r] <;> rfl
theorem pl_enc : ∀ (c : Codec) (a : c.denote), plW (c.enc a) = true
  | .unit, _ => rfl
  | .bool, _ => rfl
  | .int _ _, _ => rfl
  | .nat _ _, _ => rfl
  | .u8, _ => rfl
  | .bytes _ _, _ => rfl
  | .text _ _ _ _, _ => rfl
  | .list _ _ c, a => plWs_map (fun x => pl_enc c x) a
  | .pair c d, a => by
    show (plW (c.enc a.1) && (plW (d.enc a.2) && true)) = true
    rw [pl_enc c a.1, pl_enc d a.2] <;> rfl
  | .triple c d e, a => by
    show (plW (c.enc a.1) && (plW (d.enc a.2.1) && (plW (e.enc a.2.2) && true))) = true
    rw [pl_enc c a.1, pl_enc d a.2.1, pl_enc e a.2.2] <;> rfl
  | .option c, none => rfl
  | .option c, some x => pl_enc c x
theorem pl_encAll : ∀ (cs : List Codec) (a : Codec.denoteAll cs), plWs (Codec.encAll cs a) = true
  | [], _ => rfl
  | c :: cs, a => by
    show (plW (c.enc a.1) && plWs (Codec.encAll cs a.2)) = true
    rw [pl_enc c a.1, pl_encAll cs a.2] <;> rfl
theorem weight_mem : ∀ {xs : List WData} {d : WData}, d ∈ xs → d.weight ≤ WData.weightAll xs
  | [], d, h => absurd h (by simp)
  | x :: r, d, h => by
    show d.weight ≤ x.weight + 1 + WData.weightAll r
    rcases List.mem_cons.mp h with e | m
    · rw [e]
      omega
    · have z := weight_mem m
      omega
def toV : Value → V
  | .none => .non
  | .bool b => .bl b
  | .int i _ => .int i
  | .str x _ => .str x
  | .bytes b _ => .byt b
  | .ref a => .ref a
  | _ => .non
/-- a value of the arguments, its objects among A -/
def OkU (A : List Addr) : Value → Prop
  | .none => True
  | .bool _ => True
  | .int _ _ => True
  | .str _ _ => True
  | .bytes _ _ => True
  | .ref a => a ∈ A
  | _ => False
theorem OkU.mono {A B : List Addr} (h : ∀ a ∈ A, a ∈ B) : ∀ {u : Value}, OkU A u → OkU B u := fun {u} x => by
  cases u with
  | ref a => exact h a x
  | none => trivial
  | bool b => trivial
  | int i t => trivial
  | str s t => trivial
  | bytes b t => trivial
  | _ => exact False.elim x
theorem relV_toV {A : List Addr} {u : Value} (x : OkU A u) : RelV (toV u) u := by
  cases u with
  | ref a => rfl
  | none => rfl
  | bool b => rfl
  | int i t => exact ⟨t, rfl⟩
  | str s t => exact ⟨t, rfl⟩
  | bytes b t => exact ⟨t, rfl⟩
  | _ => exact False.elim x
theorem vals_toV {A : List Addr} : ∀ {vs : List Value}, (∀ u ∈ vs, OkU A u) → Vals (vs.map toV) vs
  | [], _ => .nil
  | u :: r, h => .cons (relV_toV (h u (List.mem_cons_self ..))) (vals_toV fun x hx => h x (List.mem_cons_of_mem _ hx))
/-- an object of the arguments -/
def ArgOb (h : Heap) (A : List Addr) (a : Addr) : Prop := ∃ vs : List Value, vs.length ≤ sizeLine ∧ (∀ u ∈ vs, OkU A u) ∧
  (h.get? a = some { cls := .type "list", data := .seq vs.toArray } ∨ h.get? a = some { cls := .type "tuple", data := .seq vs.toArray })
theorem ArgOb.mono {h : Heap} {A B : List Addr} {a : Addr} (k : ∀ a ∈ A, a ∈ B) (x : ArgOb h A a) : ArgOb h B a := by
  obtain ⟨vs, h1, h2, h3⟩ := x
  exact ⟨vs, h1, fun u hu => (h2 u hu).mono k, h3⟩
theorem wellAll_len {P : Params} {h : Heap} : ∀ {vs : List Value} {ds : List WData}, WellAll P h vs ds → vs.length = ds.length
  | _, _, .nil => rfl
  | _, _, .cons _ b => by
    show _ + 1 = _ + 1
    rw [wellAll_len b]
theorem well_list {P : Params} {h : Heap} {v : Value} {ds : List WData} (x : Well P h v (.list ds)) : ∃ (a : Addr) (vs : List Value), v = .ref a ∧ h.get? a = some { cls := .type "list", data := .seq vs.toArray } ∧ WellAll P h vs ds := by
  cases x with
  | list ho hall => exact ⟨_, _, rfl, ho, hall⟩
theorem well_tuple {P : Params} {h : Heap} {v : Value} {ds : List WData} (x : Well P h v (.tuple ds)) : ∃ (a : Addr) (vs : List Value), v = .ref a ∧ h.get? a = some { cls := .type "tuple", data := .seq vs.toArray } ∧ WellAll P h vs ds := by
  cases x with
  | tuple ho hall => exact ⟨_, _, rfl, ho, hall⟩
theorem well_cons {P : Params} {h : Heap} {us : List Value} {d : WData} {ds : List WData} (x : WellAll P h us (d :: ds)) : ∃ (v : Value) (vs : List Value), us = v :: vs ∧ Well P h v d ∧ WellAll P h vs ds := by
  cases x with
  | cons a b => exact ⟨_, _, rfl, a, b⟩
theorem line_of {n : Nat} (h : n ≤ 1048576) : n ≤ sizeLine := Nat.le_trans h (by decide)
section
variable {P : Params} {h : Heap}
mutual
theorem area_one : ∀ (d : WData) (v : Value), Well P h v d → plW d = true → d.weight ≤ 1048576 → ∃ A : List Addr, OkU A v ∧ ∀ a ∈ A, ArgOb h A a
  | .none, _, x, _, _ => by
    cases x
    exact ⟨[], trivial, fun a m => absurd m (by simp)⟩
  | .bool b, _, x, _, _ => by
    cases x
    exact ⟨[], trivial, fun a m => absurd m (by simp)⟩
  | .int i, _, x, _, _ => by
    cases x
    exact ⟨[], trivial, fun a m => absurd m (by simp)⟩
  | .str s, _, x, _, _ => by
    cases x
    exact ⟨[], trivial, fun a m => absurd m (by simp)⟩
  | .bytes b, _, x, _, _ => by
    cases x
    exact ⟨[], trivial, fun a m => absurd m (by simp)⟩
  | .list ds, _, x, p, z => by
    obtain ⟨a, vs, rfl, ho, hall⟩ := well_list x
    have z2 : WData.weightAll ds ≤ 1048576 := z
    obtain ⟨A, h1, h2⟩ := area_all ds _ hall p fun d hd => Nat.le_trans (weight_mem hd) z2
    have k : ∀ b ∈ A, b ∈ a :: A := fun b hb => List.mem_cons_of_mem _ hb
    refine ⟨a :: A, List.mem_cons_self .., fun b hb => ?_⟩
    rcases List.mem_cons.mp hb with e | m
    · rw [e]
      exact ⟨vs, line_of (by rw [wellAll_len hall]; exact Nat.le_trans (PySem.W.length_le_weightAllW ds) z2), fun u hu => (h1 u hu).mono k, .inl ho⟩
    · exact (h2 b m).mono k
  | .tuple ds, _, x, p, z => by
    obtain ⟨a, vs, rfl, ho, hall⟩ := well_tuple x
    have z2 : WData.weightAll ds ≤ 1048576 := z
    obtain ⟨A, h1, h2⟩ := area_all ds _ hall p fun d hd => Nat.le_trans (weight_mem hd) z2
    have k : ∀ b ∈ A, b ∈ a :: A := fun b hb => List.mem_cons_of_mem _ hb
    refine ⟨a :: A, List.mem_cons_self .., fun b hb => ?_⟩
    rcases List.mem_cons.mp hb with e | m
    · rw [e]
      exact ⟨vs, line_of (by rw [wellAll_len hall]; exact Nat.le_trans (PySem.W.length_le_weightAllW ds) z2), fun u hu => (h1 u hu).mono k, .inr ho⟩
    · exact (h2 b m).mono k
  | .float _, _, _, p, _ => Bool.noConfusion (show false = true from p)
  | .dict _, _, _, p, _ => Bool.noConfusion (show false = true from p)
  | .bytearray _, _, _, p, _ => Bool.noConfusion (show false = true from p)
  | .set _, _, _, p, _ => Bool.noConfusion (show false = true from p)
  | .frozenset _, _, _, p, _ => Bool.noConfusion (show false = true from p)
  | .obj _ _, _, _, p, _ => Bool.noConfusion (show false = true from p)
theorem area_all : ∀ (ds : List WData) (vs : List Value), WellAll P h vs ds → plWs ds = true → (∀ d ∈ ds, d.weight ≤ 1048576) → ∃ A : List Addr, (∀ u ∈ vs, OkU A u) ∧ ∀ a ∈ A, ArgOb h A a
  | [], _, x, _, _ => by
    cases x
    exact ⟨[], fun u m => absurd m (by simp), fun a m => absurd m (by simp)⟩
  | d :: ds, _, x, p, z => by
    obtain ⟨v, vs, rfl, x1, x2⟩ := well_cons x
    have q : plW d = true ∧ plWs ds = true := Bool.and_eq_true_iff.mp p
    obtain ⟨A, a1, a2⟩ := area_one d v x1 q.1 (z d (List.mem_cons_self ..))
    obtain ⟨B, b1, b2⟩ := area_all ds vs x2 q.2 fun e he => z e (List.mem_cons_of_mem _ he)
    have kA : ∀ b ∈ A, b ∈ A ++ B := fun b hb => List.mem_append.mpr (.inl hb)
    have kB : ∀ b ∈ B, b ∈ A ++ B := fun b hb => List.mem_append.mpr (.inr hb)
    refine ⟨A ++ B, fun u hu => ?_, fun b hb => ?_⟩
    · rcases List.mem_cons.mp hu with e | m
      · rw [e]
        exact a1.mono kA
      · exact (b1 u m).mono kB
    · rcases List.mem_append.mp hb with m | m
      · exact (a2 b m).mono kA
      · exact (b2 b m).mono kB
end
end
/-- what is tracked of an argument's object -/
def hoOf (o : Obj) : Option HO := match o.data with
  | .seq vs _ => if (o.cls == Value.type "list") = true then some (.frz o (.lst (vs.toList.map toV))) else some (.frz o (.tup (vs.toList.map toV)))
  | _ => none
def argH (K : PySem.W.Frag) (h : Heap) (A : List Addr) : Hp := fun b => if b ∈ A then (if (K.lookup b).isNone = true then (h.get? b).bind hoOf else none) else none
/-- nothing is tracked but what is known to the object -/
def OnlyF (H : Hp) : Prop := ∀ b, H b = none ∨ ∃ o u, H b = some (.frz o u)
theorem hoOf_lst (vs : List Value) : hoOf { cls := .type "list", data := .seq vs.toArray } = some (.frz { cls := .type "list", data := .seq vs.toArray } (.lst (vs.map toV))) := by
  show (if (Value.type "list" == Value.type "list") = true then some (HO.frz { cls := .type "list", data := .seq vs.toArray } (.lst (vs.toArray.toList.map toV))) else some (HO.frz { cls := .type "list", data := .seq vs.toArray } (.tup (vs.toArray.toList.map toV)))) = _
  rw [if_pos (beq_self_eq_true _)]
theorem hoOf_tup (vs : List Value) : hoOf { cls := .type "tuple", data := .seq vs.toArray } = some (.frz { cls := .type "tuple", data := .seq vs.toArray } (.tup (vs.map toV))) := by
  show (if (Value.type "tuple" == Value.type "list") = true then some (HO.frz { cls := .type "tuple", data := .seq vs.toArray } (.lst (vs.toArray.toList.map toV))) else some (HO.frz { cls := .type "tuple", data := .seq vs.toArray } (.tup (vs.toArray.toList.map toV)))) = _
  rw [if_neg (by decide)]
section
variable {P : Program} {w : World} {K : PySem.W.Frag} {h : Heap} {A : List Addr}
theorem argH_at {b : Addr} {o : Obj} (hb : b ∈ A) (hk : K.lookup b = none) (e : h.get? b = some o) : argH K h A b = hoOf o := by
  unfold argH
  rw [if_pos hb, hk, if_pos (show (none : Option Obj).isNone = true from rfl), e] <;> rfl
theorem of_argH {b : Addr} {u : HO} (q : argH K h A b = some u) : b ∈ A ∧ K.lookup b = none := by
  unfold argH at q
  by_cases hb : b ∈ A
  · rw [if_pos hb] at q
    cases hk : K.lookup b with
    | none => exact ⟨hb, rfl⟩
    | some o =>
      rw [hk, if_neg (by simp)] at q
      cases q
  · rw [if_neg hb] at q
    cases q
/-- what stands tracked -/
theorem argH_is (ar : ∀ a ∈ A, ArgOb h A a) {b : Addr} {u : HO} (q : argH K h A b = some u) : K.lookup b = none ∧ ∃ vs : List Value, vs.length ≤ sizeLine ∧ (∀ u ∈ vs, OkU A u) ∧
    ((h.get? b = some { cls := .type "list", data := .seq vs.toArray } ∧ u = .frz { cls := .type "list", data := .seq vs.toArray } (.lst (vs.map toV))) ∨
     (h.get? b = some { cls := .type "tuple", data := .seq vs.toArray } ∧ u = .frz { cls := .type "tuple", data := .seq vs.toArray } (.tup (vs.map toV)))) := by
  obtain ⟨hb, hk⟩ := of_argH q
  obtain ⟨vs, h1, h2, h3⟩ := ar b hb
  refine ⟨hk, vs, h1, h2, ?_⟩
  rcases h3 with e | e
  · rw [argH_at hb hk e, hoOf_lst] at q
    exact .inl ⟨e, (Option.some.inj q).symm⟩
  · rw [argH_at hb hk e, hoOf_tup] at q
    exact .inr ⟨e, (Option.some.inj q).symm⟩
theorem argH_only (ar : ∀ a ∈ A, ArgOb h A a) : OnlyF (argH K h A) := fun b => by
  cases q : argH K h A b with
  | none => exact .inl rfl
  | some u =>
    obtain ⟨_, vs, _, _, ⟨_, e⟩ | ⟨_, e⟩⟩ := argH_is ar q
    · exact .inr ⟨_, _, by rw [e]⟩
    · exact .inr ⟨_, _, by rw [e]⟩
theorem argH_ok (ar : ∀ a ∈ A, ArgOb h A a) : HOk P w (argH K h A) h := fun b u q => by
  obtain ⟨_, vs, h1, h2, ⟨e, rfl⟩ | ⟨e, rfl⟩⟩ := argH_is ar q
  · exact ⟨e, by rw [List.length_map]; exact h1, vs, _, vals_toV h2, e⟩
  · exact ⟨e, by rw [List.length_map]; exact h1, vs, vals_toV h2, _, e, rfl, _, rfl⟩
theorem seq_inj {c c' : Value} {vs us : List Value} (e : (some { cls := c, data := .seq vs.toArray } : Option Obj) = some { cls := c', data := .seq us.toArray }) : c = c' ∧ vs = us := by
  have e1 := Option.some.inj e
  have e2 : c = c' := congrArg Obj.cls e1
  have e3 : Data.seq vs.toArray = Data.seq us.toArray := congrArg Obj.data e1
  injection e3 with e4
  refine ⟨e2, ?_⟩
  have e5 := congrArg Array.toList e4
  simpa using e5
/-- a list argument -/
theorem argL (KX : K.In h) (ar : ∀ a ∈ A, ArgOb h A a) {a : Addr} {vs : List Value} (ha : a ∈ A) (e : h.get? a = some { cls := .type "list", data := .seq vs.toArray }) : (∀ u ∈ vs, OkU A u) ∧ SqL K (argH K h A) a (vs.map toV) := by
  obtain ⟨us, h1, h2, h3⟩ := ar a ha
  have hu : us = vs := by
    rcases h3 with q | q
    · rw [e] at q
      exact (seq_inj q).2.symm
    · rw [e] at q
      exact absurd (Value.type.inj (seq_inj q).1) (by decide)
  subst hu
  refine ⟨h2, ?_⟩
  cases hk : K.lookup a with
  | none => exact .inl (.inr ⟨_, by rw [argH_at ha hk e, hoOf_lst]⟩)
  | some o =>
    have e2 := KX a o hk
    rw [e] at e2
    obtain rfl := Option.some.inj e2
    exact .inr ⟨_, us.toArray, _, hk, rfl, rfl, rfl, by rw [List.size_toArray]; exact h1, by simpa using vals_toV h2⟩
theorem argT (KX : K.In h) (ar : ∀ a ∈ A, ArgOb h A a) {a : Addr} {vs : List Value} (ha : a ∈ A) (e : h.get? a = some { cls := .type "tuple", data := .seq vs.toArray }) : (∀ u ∈ vs, OkU A u) ∧ SqT K (argH K h A) a (vs.map toV) := by
  obtain ⟨us, h1, h2, h3⟩ := ar a ha
  have hu : us = vs := by
    rcases h3 with q | q
    · rw [e] at q
      exact absurd (Value.type.inj (seq_inj q).1) (by decide)
    · rw [e] at q
      exact (seq_inj q).2.symm
  subst hu
  refine ⟨h2, ?_⟩
  cases hk : K.lookup a with
  | none => exact .inl (.inr ⟨_, by rw [argH_at ha hk e, hoOf_tup]⟩)
  | some o =>
    have e2 := KX a o hk
    rw [e] at e2
    obtain rfl := Option.some.inj e2
    exact .inr ⟨_, us.toArray, _, hk, rfl, rfl, by rw [List.size_toArray]; exact h1, by simpa using vals_toV h2⟩
mutual
theorem dw_one {Pm : Params} (KX : K.In h) (ar : ∀ a ∈ A, ArgOb h A a) : ∀ (d : WData) (v : Value), Well Pm h v d → plW d = true → OkU A v → Dw K (argH K h A) (toV v) d
  | .none, _, x, _, _ => by
    cases x
    exact .non
  | .bool b, _, x, _, _ => by
    cases x
    exact .bl b
  | .int i, _, x, _, _ => by
    cases x
    exact .int i
  | .str s, _, x, _, _ => by
    cases x
    exact .str s
  | .bytes b, _, x, _, _ => by
    cases x
    have z := Dw.byt (K := K) (H := argH K h A) b.toArray
    exact z
  | .list ds, _, x, p, hu => by
    obtain ⟨a, vs, rfl, ho, hall⟩ := well_list x
    obtain ⟨h2, hs⟩ := argL KX ar hu ho
    exact .lst hs (dw_all KX ar ds _ hall p h2)
  | .tuple ds, _, x, p, hu => by
    obtain ⟨a, vs, rfl, ho, hall⟩ := well_tuple x
    obtain ⟨h2, hs⟩ := argT KX ar hu ho
    exact .tup hs (dw_all KX ar ds _ hall p h2)
  | .float _, _, _, p, _ => Bool.noConfusion (show false = true from p)
  | .dict _, _, _, p, _ => Bool.noConfusion (show false = true from p)
  | .bytearray _, _, _, p, _ => Bool.noConfusion (show false = true from p)
  | .set _, _, _, p, _ => Bool.noConfusion (show false = true from p)
  | .frozenset _, _, _, p, _ => Bool.noConfusion (show false = true from p)
  | .obj _ _, _, _, p, _ => Bool.noConfusion (show false = true from p)
theorem dw_all {Pm : Params} (KX : K.In h) (ar : ∀ a ∈ A, ArgOb h A a) : ∀ (ds : List WData) (vs : List Value), WellAll Pm h vs ds → plWs ds = true → (∀ u ∈ vs, OkU A u) → DwAll K (argH K h A) (vs.map toV) ds
  | [], _, x, _, _ => by
    cases x
    exact .nil
  | d :: ds, _, x, p, hu => by
    obtain ⟨v, vs, rfl, x1, x2⟩ := well_cons x
    have q : plW d = true ∧ plWs ds = true := Bool.and_eq_true_iff.mp p
    exact .cons (dw_one KX ar d v x1 q.1 (hu _ (List.mem_cons_self ..))) (dw_all KX ar ds vs x2 q.2 fun u m => hu u (List.mem_cons_of_mem _ m))
end
end
/-! ### the call -/
theorem spec_call {P : Program} {w : World} {K : PySem.W.Frag} {mg mb : Str → Option Value} {CX : CXT} {k : Nat} {fa : Addr} {fd : FuncData} {ps : List Str} {sp : Sp} {s₁ : Shared} {vals : List Value} {ds : List WData} {R : PySem.W.WRecords} {cl : Str → Option Addr} {d0 : WData}
    (KX : K.In s₁.heap) (hns : s₁.heap.Ns mainGlobals mg) (hb : s₁.heap.Ns builtinsNs mb) (hbb : ∀ x : Str, x ≠ "__name__" → mb x = bootBuiltins x) (hlim : s₁.heap.NoLimit) (hg : s₁.gens = #[])
    (hwl : WellAll w.params s₁.heap vals ds) (hpl : plWs ds = true) (hwt : ∀ d ∈ ds, d.weight ≤ 1048576) (hr : Room k callerA)
    (F : ∀ base : Heap, K.In base → base.Ns mainGlobals mg → FnOk P w K mg base CX k fa fd ps sp) (hbind : ∀ (s : Shared) (us : List Value), us.length = ps.length → BindsTo s fd ⟨us, []⟩ (ps.zip us)) (hlen : ds.length = ps.length)
    (hsp : ∀ (H : Hp) (xs : List V), OnlyF H → DwAll K H xs ds → sp xs H (fun v H' => Dw K H' v d0) fun _ _ _ => False)
    (hCX : ∀ H e s', CX [] H s₁ (fun _ _ _ => False) e s' → False) :
    codeAny (model P w) callerA (.call (.ref fa) ⟨vals, []⟩) (fun r s' => ∃ u as, r = .ok (.ret u) ∧ ReadsW R cl s'.heap u d0 as ∧ OldK s₁.heap s'.heap ∧ s'.os = s₁.os ∧ AllBare s'.gens) s₁ := by
  obtain ⟨A, ho, ar⟩ := area_all ds vals hwl hpl hwt
  have hO : OnlyF (argH K s₁.heap A) := argH_only ar
  have hok : HOk P w (argH K s₁.heap A) s₁.heap := argH_ok ar
  have hS := dw_all KX ar ds vals hwl hpl ho
  have hV := vals_toV ho
  have hK : ∀ b u, argH K s₁.heap A b = some u → K.lookup b = none := fun b u q => (argH_is ar q).1
  have noA : ∀ {b : Addr} {o : Obj} {es : Array DictEntry} {ep : Nat}, s₁.heap.get? b = some o → o.data = .dict es ep → argH K s₁.heap A b = none := fun {b o es ep} e d => by
    cases q : argH K s₁.heap A b with
    | none => rfl
    | some u =>
      obtain ⟨_, vs, _, _, ⟨e2, _⟩ | ⟨e2, _⟩⟩ := argH_is ar q
      · rw [e2] at e
        cases e
        have d' : Data.seq vs.toArray _ = Data.dict es ep := d
        cases d'
      · rw [e2] at e
        cases e
        have d' : Data.seq vs.toArray _ = Data.dict es ep := d
        cases d'
  generalize argH K s₁.heap A = H at hO hok hS hK noA
  have base_of : ∀ {b : Addr} {o : Obj}, s₁.heap.get? b = some o → H b = none → (hidT s₁.heap H).get? b = some o := fun e n => hidT_get e n
  have nsK : ∀ {b : Addr} {m : Str → Option Value}, s₁.heap.Ns b m → (hidT s₁.heap H).Ns b m := fun {b m} ⟨o, es, ep, e, d, r⟩ => ⟨o, es, ep, base_of e (noA e d), d, r⟩
  have nK : ∀ b o, K.lookup b = some o → H b = none := fun b o e => by
    cases q : H b with
    | none => rfl
    | some u =>
      rw [hK b u q] at e
      cases e
  have hKb : K.In (hidT s₁.heap H) := fun b o e => base_of (KX b o e) (nK b o e)
  have hM : Mod K mg (hidT s₁.heap H) := ⟨hKb, nsK hns, ⟨mb, nsK hb, hbb⟩, let ⟨mc, h1, h2⟩ := hlim; ⟨mc, nsK h1, h2⟩⟩
  have e0 : Env0 P w K mg (hidT s₁.heap H) callerA [] s₁ H := ⟨rfl, hM, fun b o e => of_hidT e, Nat.le_of_eq (hidT_size _ _), trivial, fun b hb => absurd (show b ∈ ([] : List Addr) from hb) (by simp), hok, .of_eq hg⟩
  have hl : vals.length = ps.length := by rw [wellAll_len hwl]; exact hlen
  refine codeAny_mono ((F _ hKb (nsK hns)).run callerA [] s₁ H ⟨vals, []⟩ vals (vals.map toV) _ _ hr e0 (hbind s₁ vals hl) hV (hsp H _ hO hS)) fun r s' x => ?_
  cases r with
  | error e => exact (hCX H e s' x).elim
  | ok fl =>
    cases fl with
    | next => exact False.elim x
    | brk => exact False.elim x
    | cont => exact False.elim x
    | ret u =>
      obtain ⟨v, H', os, bare, un, hok', r', q⟩ := x
      have kept : ∀ b o, s₁.heap.get? b = some o → s'.heap.get? b = some o := fun b o e => by
        cases q2 : H b with
        | none => exact un.keep b o e q2 (by intro z; exact absurd (show b ∈ ([] : List Addr) from z) (by simp)) (by simp)
        | some u2 =>
          rcases hO b with z | ⟨ob, u3, z⟩
          · rw [q2] at z
            cases z
          · have z2 := un.frzs b ob _ z
            obtain ⟨e1, _⟩ := hok b _ z
            obtain ⟨e2, _⟩ := hok' b _ z2
            rw [e] at e1
            cases e1
            exact e2
      have KX' : K.In s'.heap := fun b o e => kept b o (KX b o e)
      obtain ⟨as, hrd⟩ := Dw.reads (R := R) (cl := cl) hok' KX' d0 v u q r'
      exact ⟨u, as, rfl, hrd, OldK.of_keep kept, os, bare⟩
/-! ### the row -/
theorem layable_weight {ds : List WData} (h : WData.layableAll ds = true) : ∀ d ∈ ds, d.weight ≤ 1048576 := fun d hd =>
  (PySem.W.layableW_iff.mp (List.all_eq_true.mp h d hd)).2.2
theorem encAll_len : ∀ (cs : List Codec) (a : Codec.denoteAll cs), (Codec.encAll cs a).length = cs.length
  | [], _ => rfl
  | c :: cs, a => by
    show (Codec.encAll cs a.2).length + 1 = cs.length + 1
    rw [encAll_len cs a.2]
/-- the goal that k_headS leaves (case hc), from the promise of the row's def: whatever the arguments that the codecs let and the row asks for, the def gives what stands for enc (f ..) -/
theorem walk_spec {r : OpenSpec} {k : Nat} {q : Program} {loose : List Str} {XP : (Str → Option Value) → Heap → Prop} {YP : World → Heap → Prop} {d : DefRec} {K : Params → PySem.W.Frag} {CX : World → CXT} {ps : List Str} {sp : World → Sp}
    (hwell : r.wellSaid = true) (hdf : d.params.defaults = []) (hlen : r.args.length = ps.length) (hr : Room k callerA)
    (hY : ∀ (w : World) (h : Heap), YP w h → (K w.params).In h)
    (F : ∀ (w : World) (mg : Str → Option Value) (fa : Addr) (h : Heap), YP w h → (K w.params).In h → h.Ns mainGlobals mg → mg d.name = some (.ref fa) →
      ∃ fd : FuncData, (∀ (s : Shared) (us : List Value), us.length = ps.length → BindsTo s fd ⟨us, []⟩ (ps.zip us)) ∧
        ∀ base : Heap, (K w.params).In base → base.Ns mainGlobals mg → FnOk r.prog w (K w.params) mg base (CX w) k fa fd ps (sp w))
    (hsp : ∀ (w : World) (H : Hp) (xs : List V) (a : Codec.denoteAll r.args), OnlyF H → Codec.withinAll r.args a = true → Codec.app r.args r.asked a = true → DwAll (K w.params) H xs (Codec.encAll r.args a) →
      sp w xs H (fun v H' => Dw (K w.params) H' v (r.ret.enc (Codec.app r.args r.f a))) fun _ _ _ => False)
    (hCX : ∀ (w : World) (H : Hp) (s : Shared) (e : Value) (s' : Shared), CX w [] H s (fun _ _ _ => False) e s' → False) :
    PySem.W.WalkOS q loose XP YP r d [] (fun f vs => PySem.call f vs) := by
  intro w s_0 s₁ mg mb G Y fa o pm cd doc dV kV ho hd hcd hD hmg hg args vals as hpre hlay hrd hwl hlo
  obtain ⟨a, e1, e2⟩ := PySem.W.os_pre_some hpre
  obtain ⟨e3, hwi⟩ := Codec.encAll_of_decAll r.args args a e1
  subst e3
  have KX := hY w _ Y
  obtain ⟨fd, hb, hF⟩ := F w mg fa _ Y KX G.T.g hmg
  refine PySem.W.enter_call (codeAny_mono (spec_call (R := []) (cl := classAt s_0.heap) (d0 := r.ret.enc (Codec.app r.args r.f a)) KX G.T.g G.T.b G.T.builtins G.T.nolimit hg hwl (pl_encAll _ _) (layable_weight hlay) hr hF hb (by rw [encAll_len]; exact hlen)
    (fun H xs hO hS => hsp w H xs a hO hwi e2 hS) fun H e s' => hCX w H s₁ e s') fun r' s' hq => ?_)
  obtain ⟨u, as', rfl, h1, h2, h3, h4⟩ := hq
  exact ⟨.inl ⟨u, _, as', rfl, fun _ => rfl, h1, (OpenSpec.post_iff hwell hwi _ _).mpr rfl, fun z => Bool.noConfusion (show false = true from z)⟩, h2, h3, h4⟩
/-- the same where the promise hangs on the written part alone -/
theorem walk_specK {r : OpenSpec} {k : Nat} {q : Program} {loose : List Str} {XP : (Str → Option Value) → Heap → Prop} {YP : World → Heap → Prop} {d : DefRec} {K : Params → PySem.W.Frag} {CX : CXT} {ps : List Str} {sp : PySem.W.Frag → Sp}
    (hwell : r.wellSaid = true) (hdf : d.params.defaults = []) (hlen : r.args.length = ps.length) (hr : Room k callerA)
    (hY : ∀ (w : World) (h : Heap), YP w h → (K w.params).In h)
    (F : ∀ (w : World) (mg : Str → Option Value) (fa : Addr) (h : Heap), YP w h → (K w.params).In h → h.Ns mainGlobals mg → mg d.name = some (.ref fa) →
      ∃ fd : FuncData, (∀ (s : Shared) (us : List Value), us.length = ps.length → BindsTo s fd ⟨us, []⟩ (ps.zip us)) ∧
        ∀ base : Heap, (K w.params).In base → base.Ns mainGlobals mg → FnOk r.prog w (K w.params) mg base CX k fa fd ps (sp (K w.params)))
    (hsp : ∀ (K : PySem.W.Frag) (H : Hp) (xs : List V) (a : Codec.denoteAll r.args), OnlyF H → Codec.withinAll r.args a = true → Codec.app r.args r.asked a = true → DwAll K H xs (Codec.encAll r.args a) →
      sp K xs H (fun v H' => Dw K H' v (r.ret.enc (Codec.app r.args r.f a))) fun _ _ _ => False)
    (hCX : ∀ (H : Hp) (s : Shared) (e : Value) (s' : Shared), CX [] H s (fun _ _ _ => False) e s' → False) :
    PySem.W.WalkOS q loose XP YP r d [] (fun f vs => PySem.call f vs) :=
  walk_spec (K := K) (CX := fun _ => CX) (sp := fun w => sp (K w.params)) hwell hdf hlen hr hY F (fun w H xs a h1 h2 h3 h4 => hsp (K w.params) H xs a h1 h2 h3 h4) fun _ H s e s' => hCX H s e s'
end L2
-- rests on (row put in by the clerk, for the bench that shows a file only what it spells): KE.SpHead KE.OsShapes
end
end
section
set_option Elab.async false
set_option linter.all false
set_option maxRecDepth 100000
set_option maxHeartbeats 2000000
/-! Rules that the hand layer lacks: list.insert(0, x), list.remove(k) of a list of ints, names of the module that hold whole numbers. -/
namespace L2
open PySem PySem.Spec PyProof.Rows
section
variable {X : Cx}
def rInsert0 : V → List V → Hp → VK → Prop := fun x vs H Q => ∃ l xs y, x = .ref l ∧ vs = [.int 0, y] ∧ H l = some (.lst xs) ∧ xs.length < sizeLine ∧ Q .non (upd H l (.lst (y :: xs)))
theorem mt_insert0 : MtM X "list.insert" rInsert0 := by
  intro pins s σ H x vs v us Q I rx rv h
  obtain ⟨l, xs, y, rfl, rfl, hH, hz, q⟩ := h
  cases rx
  obtain ⟨u0, u, rfl, r0, ru⟩ := rv.two
  obtain ⟨t, rfl⟩ := r0
  obtain ⟨z, its, n, r, hl, e⟩ := I.lstM hH
  refine call_meets F.slot_list_insert ⟨_, e, rfl⟩ F.entry_list_insert (F.args_list_insert_3 _ _ _)
    (AutoSeq1.list_insert_list_int_val_1 l its.toArray n 0 t u (by decide) (by rw [List.size_toArray]; omega)) ⟨e, ?_⟩
  refine ⟨.non, _, I.lset (its' := u :: its) hH e ?_ (.cons ru r) ?_, rfl, q⟩
  · show (its.toArray.extract 0 (if (0 : Int) < 0 then ((0 : Int) + (its.toArray.size : Int)).toNat else min (0 : Int).toNat its.toArray.size)).push u ++ its.toArray.extract (if (0 : Int) < 0 then ((0 : Int) + (its.toArray.size : Int)).toNat else min (0 : Int).toNat its.toArray.size) = (u :: its).toArray
    rw [PySem.W.kl_ins_eq]
    simp
  · rw [List.length_cons]
    omega
theorem kf_ints_of : ∀ {ns : List Int} {us : List Value}, Vals (ns.map V.int) us → PySem.W.kf_ints us = true
  | [], us, r => by
    cases r
    rfl
  | n :: ns, us, r => by
    cases r with
    | cons r1 r2 =>
      obtain ⟨t, rfl⟩ := r1
      have z := kf_ints_of r2
      exact z
theorem kf_at_of {k : Int} : ∀ {ns : List Int} {us : List Value}, Vals (ns.map V.int) us → k ∈ ns → ∃ j, PySem.W.kf_at k us = some j ∧ ns.erase k = ns.eraseIdx j
  | [], us, r, h => by cases h
  | n :: ns, us, r, h => by
    cases r with
    | cons r1 r2 =>
      obtain ⟨t, rfl⟩ := r1
      by_cases e : n = k
      · subst e
        refine ⟨0, ?_, by simp⟩
        unfold PySem.W.kf_at
        have e2 : PyProof.Rows.isInt n (Value.int n t) = true := by simp [PyProof.Rows.isInt]
        rw [e2] <;> rfl
      · have h2 : k ∈ ns := by
          rcases List.mem_cons.mp h with z | z
          · exact absurd z.symm e
          · exact z
        obtain ⟨j, hj, he⟩ := kf_at_of r2 h2
        refine ⟨j + 1, ?_, ?_⟩
        · unfold PySem.W.kf_at
          have e2 : PyProof.Rows.isInt k (Value.int n t) = false := by simp [PyProof.Rows.isInt]; exact e
          rw [e2, hj] <;> rfl
        · rw [List.erase_cons_tail (by simpa using e), he, List.eraseIdx_cons_succ]
theorem map_erase {α β : Type} (f : α → β) : ∀ (l : List α) (j : Nat), (l.eraseIdx j).map f = (l.map f).eraseIdx j
  | [], _ => rfl
  | _ :: _, 0 => rfl
  | x :: l, j + 1 => congrArg (List.cons (f x)) (map_erase f l j)
/-- xs.remove(k), a list of ints that has k -/
def rRemove : V → List V → Hp → VK → Prop := fun x vs H Q => ∃ (l : Addr) (ns : List Int) (k : Int), x = .ref l ∧ vs = [.int k] ∧ H l = some (.lst (ns.map V.int)) ∧ k ∈ ns ∧ Q .non (upd H l (.lst ((ns.erase k).map V.int)))
theorem mt_remove : MtM X "list.remove" rRemove := by
  intro pins s σ H x vs v us Q I rx rv h
  obtain ⟨l, ns, k, rfl, rfl, hH, hk, q⟩ := h
  cases rx
  obtain ⟨u, rfl, ru⟩ := rv.one
  obtain ⟨t, rfl⟩ := ru
  obtain ⟨z, its, n, r, hl, e⟩ := I.lstM hH
  obtain ⟨j, hj, he⟩ := kf_at_of r hk
  obtain ⟨a, b, c⟩ := PySem.W.kf_at_spec hj
  have hi := kf_ints_of r
  have hz : its.toArray.size ≤ sizeLine := by rw [List.size_toArray]; omega
  refine call_meets F.slot_list_remove ⟨_, e, rfl⟩ F.entry_list_remove (F.args_list_remove_2 _ _)
    (MeetsSeq.list_remove l its.toArray n (.int k t) (PyProof.Rows.isInt k) (fun y hy => PySem.W.kf_eq hi y (by simpa using hy)) j (by simpa using a) (by simpa using b) (fun i hi hlt => (c i (by simpa using hi) hlt)) hz) ⟨e, ?_⟩
  refine ⟨.non, _, I.lset (its' := its.eraseIdx j) (t' := s.toks) hH e ?_ ?_ ?_, rfl, q⟩
  · show its.toArray.eraseIdxIfInBounds j = (its.eraseIdx j).toArray
    rw [List.eraseIdxIfInBounds_toArray]
  · rw [he, map_erase]
    exact r.eraseIdx j
  · have h1 := len_erase ns j
    rw [List.length_map] at z ⊢
    rw [he]
    omega
/-- a name of the module that holds a whole number -/
theorem pk {x : Str} {i : Int} {pos : Pos} (hm : ∃ t, X.mg x = some (.int i t)) (hg : Gl X x := by rfl) (hd : (x == ("__debug__" : Str)) = false := by decide) : PE X (.Name x pos) (tC (.int i)) := by
  obtain ⟨t, e⟩ := hm
  exact pe_glob hg e ⟨t, rfl⟩ hd
end
end L2
end
section
set_option linter.all false
/-! What the specification's state keeps between two calls. -/
namespace Tw
open Ac
def ks (l : List Entry) : List Nat := l.map fun e => e.1
theorem ks_len (l : List Entry) : (ks l).length = l.length := List.length_map ..
theorem ks_app (l l' : List Entry) : ks (l ++ l') = ks l ++ ks l' := List.map_append ..
theorem ks_cons (e : Entry) (l : List Entry) : ks (e :: l) = e.1 :: ks l := rfl
theorem ks_nil : ks [] = [] := rfl
theorem keys_eq (s : St) : s.keys = ks s.recent ++ ks s.frequent ++ (s.once ++ s.again) := by
  show ((s.recent ++ s.frequent).map fun e => e.1) ++ _ = _
  rw [List.map_append] <;> rfl
theorem keys_len (s : St) : s.keys.length = s.recent.length + s.frequent.length + s.once.length + s.again.length := by
  rw [keys_eq]
  simp [ks_len]
  omega
theorem held_len (s : St) : s.held.length = s.recent.length + s.frequent.length := by
  show (s.recent ++ s.frequent).length = _
  rw [List.length_append]
theorem count_rid (l : List Nat) (k a : Nat) : (rid l k).count a = if a = k then 0 else l.count a := by
  unfold rid
  by_cases e : a = k
  · rw [if_pos e, List.count_eq_zero]
    intro h
    rw [List.mem_filter] at h
    simp [e] at h
  · rw [if_neg e]
    exact List.count_filter (by simpa using e)
theorem len_rid (l : List Nat) (k : Nat) : (rid l k).length + l.count k = l.length := by
  induction l with
  | nil => rfl
  | cons x l ih =>
    unfold rid at ih ⊢
    rw [List.filter_cons, List.count_cons]
    by_cases e : x = k
    · subst e
      simp
      omega
    · have e1 : (x != k) = true := by simpa using e
      have e2 : (x == k) = false := by simpa using e
      rw [e1, e2]
      simp
      omega
theorem rid_none {l : List Nat} {k : Nat} (h : l.count k = 0) : rid l k = l := by
  unfold rid
  rw [List.filter_eq_self]
  intro a ha
  rw [List.count_eq_zero] at h
  simp
  intro e
  subst e
  exact h ha
theorem ks_without (l : List Entry) (k : Nat) : ks (without l k) = rid (ks l) k := by
  unfold ks without rid
  rw [List.filter_map]
  rfl
theorem len_without (l : List Entry) (k : Nat) : (without l k).length + (ks l).count k = l.length := by
  have h := len_rid (ks l) k
  rw [← ks_without, ks_len, ks_len] at h
  exact h
theorem without_none {l : List Entry} {k : Nat} (h : (ks l).count k = 0) : without l k = l := by
  unfold without
  rw [List.filter_eq_self]
  intro e he
  rw [List.count_eq_zero] at h
  simp
  intro q
  subst q
  exact h (List.mem_map.mpr ⟨e, he, rfl⟩)
/-- the state between two calls -/
structure Good (s : St) : Prop where
  nd : ∀ a, (ks s.recent).count a + (ks s.frequent).count a + s.once.count a + s.again.count a ≤ 1
  lo : 1 ≤ s.most
  hi : s.most ≤ 64
  tg : s.target ≤ s.most
  h1 : s.recent.length + s.frequent.length ≤ s.most
  h2 : s.recent.length + s.once.length ≤ s.most
  h3 : s.recent.length + s.frequent.length + s.once.length + s.again.length ≤ 2 * s.most
theorem good_new {c : Nat} (h1 : 1 ≤ c) (h2 : c ≤ 64) : Good (new c) := ⟨fun a => Nat.zero_le _, h1, h2, Nat.zero_le _, Nat.zero_le _, Nat.zero_le _, Nat.zero_le _⟩
theorem last_split {α : Type} {l : List α} (h : l ≠ []) : ∃ ys e, l = ys ++ [e] := ⟨l.dropLast, l.getLast h, (List.dropLast_concat_getLast h).symm⟩
/-! ### one goes -/
def goesRecent (s : St) (back : Bool) : Prop := s.recent ≠ [] ∧ (s.target < s.recent.length ∨ (back = true ∧ s.recent.length = s.target))
theorem fromRecent_eq {s : St} {ys : List Entry} {e : Entry} (h : s.recent = ys ++ [e]) : fromRecent s = ({ s with recent := ys, once := e.1 :: s.once }, [e]) := by
  unfold fromRecent
  rw [h, List.getLast?_concat, List.dropLast_concat]
theorem fromFrequent_eq {s : St} {ys : List Entry} {e : Entry} (h : s.frequent = ys ++ [e]) : fromFrequent s = ({ s with frequent := ys, again := e.1 :: s.again }, [e]) := by
  unfold fromFrequent
  rw [h, List.getLast?_concat, List.dropLast_concat]
theorem oneGoes_eq {s : St} {back : Bool} (hp : s.frequent = [] → s.target < s.recent.length) :
    (∃ ys e, goesRecent s back ∧ s.recent = ys ++ [e] ∧ oneGoes s back = ({ s with recent := ys, once := e.1 :: s.once }, [e])) ∨
    (∃ ys e, ¬ goesRecent s back ∧ s.frequent = ys ++ [e] ∧ oneGoes s back = ({ s with frequent := ys, again := e.1 :: s.again }, [e])) := by
  by_cases c : goesRecent s back
  · obtain ⟨ys, e, h⟩ := last_split c.1
    refine .inl ⟨ys, e, c, h, ?_⟩
    unfold oneGoes
    unfold goesRecent at c
    rw [if_pos c, fromRecent_eq h]
  · have hf : s.frequent ≠ [] := fun q => c ⟨fun z => by have := hp q; rw [z] at this; exact absurd this (Nat.not_lt_zero _), .inl (hp q)⟩
    obtain ⟨ys, e, h⟩ := last_split hf
    refine .inr ⟨ys, e, c, h, ?_⟩
    unfold oneGoes
    unfold goesRecent at c
    rw [if_neg c, fromFrequent_eq h]
/-- what making room leaves -/
structure Less (s t : St) : Prop where
  most : t.most = s.most
  target : t.target = s.target
  c1 : ∀ a, (ks t.recent).count a + t.once.count a = (ks s.recent).count a + s.once.count a
  c2 : ∀ a, (ks t.frequent).count a + t.again.count a = (ks s.frequent).count a + s.again.count a
  d1 : ∀ a, (ks t.recent).count a ≤ (ks s.recent).count a
  d2 : ∀ a, (ks t.frequent).count a ≤ (ks s.frequent).count a
  l1 : t.recent.length + t.once.length = s.recent.length + s.once.length
  l2 : t.frequent.length + t.again.length = s.frequent.length + s.again.length
  m1 : t.recent.length ≤ s.recent.length
  m2 : t.frequent.length ≤ s.frequent.length
theorem Less.refl (s : St) : Less s s := ⟨rfl, rfl, fun _ => rfl, fun _ => rfl, fun _ => Nat.le_refl _, fun _ => Nat.le_refl _, rfl, rfl, Nat.le_refl _, Nat.le_refl _⟩
theorem Less.trans {s t u : St} (a : Less s t) (b : Less t u) : Less s u :=
  ⟨b.most.trans a.most, b.target.trans a.target, fun x => (b.c1 x).trans (a.c1 x), fun x => (b.c2 x).trans (a.c2 x), fun x => Nat.le_trans (b.d1 x) (a.d1 x), fun x => Nat.le_trans (b.d2 x) (a.d2 x),
    b.l1.trans a.l1, b.l2.trans a.l2, Nat.le_trans b.m1 a.m1, Nat.le_trans b.m2 a.m2⟩
theorem less_recent {s : St} {ys : List Entry} {e : Entry} (h : s.recent = ys ++ [e]) : Less s { s with recent := ys, once := e.1 :: s.once } := by
  refine ⟨rfl, rfl, fun a => ?_, fun _ => rfl, fun a => ?_, fun _ => Nat.le_refl _, ?_, rfl, ?_, Nat.le_refl _⟩
  · show (ks ys).count a + (e.1 :: s.once).count a = _
    rw [h, ks_app, List.count_append, List.count_cons]
    show _ = _ + [e.1].count a + _
    rw [List.count_cons, List.count_nil]
    omega
  · show (ks ys).count a ≤ _
    rw [h, ks_app, List.count_append]
    omega
  · show ys.length + (e.1 :: s.once).length = _
    rw [h]
    simp
    omega
  · show ys.length ≤ _
    rw [h]
    simp
theorem less_frequent {s : St} {ys : List Entry} {e : Entry} (h : s.frequent = ys ++ [e]) : Less s { s with frequent := ys, again := e.1 :: s.again } := by
  refine ⟨rfl, rfl, fun _ => rfl, fun a => ?_, fun _ => Nat.le_refl _, fun a => ?_, rfl, ?_, Nat.le_refl _, ?_⟩
  · show (ks ys).count a + (e.1 :: s.again).count a = _
    rw [h, ks_app, List.count_append, List.count_cons]
    show _ = _ + [e.1].count a + _
    rw [List.count_cons, List.count_nil]
    omega
  · show (ks ys).count a ≤ _
    rw [h, ks_app, List.count_append]
    omega
  · show ys.length + (e.1 :: s.again).length = _
    rw [h]
    simp
    omega
  · show ys.length ≤ _
    rw [h]
    simp
theorem oneGoes_less {s : St} {back : Bool} (hp : s.frequent = [] → s.target < s.recent.length) :
    Less s (oneGoes s back).1 ∧ (oneGoes s back).1.recent.length + (oneGoes s back).1.frequent.length + 1 = s.recent.length + s.frequent.length := by
  rcases oneGoes_eq (back := back) hp with ⟨ys, e, _, h, q⟩ | ⟨ys, e, _, h, q⟩
  · rw [q]
    refine ⟨less_recent h, ?_⟩
    show ys.length + s.frequent.length + 1 = _
    rw [h, List.length_append]
    simp
    omega
  · rw [q]
    refine ⟨less_frequent h, ?_⟩
    show s.recent.length + ys.length + 1 = _
    rw [h, List.length_append]
    simp
    omega
theorem room_less {s : St} {back : Bool} (h1 : s.recent.length + s.frequent.length ≤ s.most) (hp : ¬ s.recent.length + s.frequent.length < s.most → s.frequent = [] → s.target < s.recent.length) :
    Less s (room s back).1 ∧ (1 ≤ s.most → (room s back).1.recent.length + (room s back).1.frequent.length < s.most) := by
  unfold room
  rw [held_len]
  by_cases c : s.recent.length + s.frequent.length < s.most
  · rw [if_pos c]
    exact ⟨Less.refl s, fun _ => c⟩
  · rw [if_neg c]
    obtain ⟨a, b⟩ := oneGoes_less (back := back) (hp c)
    exact ⟨a, fun _ => by omega⟩
/-! ### a put -/
theorem count_held (s : St) (k : Nat) : (ks s.held).count k = (ks s.recent).count k + (ks s.frequent).count k := by
  show (ks (s.recent ++ s.frequent)).count k = _
  rw [ks_app, List.count_append]
theorem valueIn_none {l : List Entry} {k : Nat} : valueIn l k = none ↔ (ks l).count k = 0 := by
  unfold valueIn ks
  rw [Option.map_eq_none_iff, List.find?_eq_none, List.count_eq_zero, List.mem_map]
  constructor
  · intro h ⟨e, he, q⟩
    exact h e he (by simpa using q)
  · intro h e he q
    exact h ⟨e, he, by simpa using q⟩
theorem contains_pos {l : List Nat} {k : Nat} : l.contains k = true ↔ 0 < l.count k := by
  rw [List.contains_iff_mem, List.count_pos_iff]
theorem pos_contains {l : List Nat} {k : Nat} (h : ¬ l.contains k = true) : l.count k = 0 := by
  rw [contains_pos] at h
  omega
theorem good_use {s : St} {k v w : Nat} (g : Good s) (h : valueIn s.held k = some w) : Good (use s k v) := by
  have hk : 0 < (ks s.held).count k := by
    rcases Nat.eq_zero_or_pos ((ks s.held).count k) with z | z
    · rw [valueIn_none.mpr z] at h
      cases h
    · exact z
  rw [count_held] at hk
  have nk := g.nd k
  have l1 := len_without s.recent k
  have l2 := len_without s.frequent k
  have h1 := g.h1
  have h2 := g.h2
  have h3 := g.h3
  refine ⟨fun a => ?_, g.lo, g.hi, g.tg, ?_, ?_, ?_⟩
  · show (ks (without s.recent k)).count a + (ks ((k, v) :: without s.frequent k)).count a + s.once.count a + s.again.count a ≤ 1
    rw [ks_cons, List.count_cons, ks_without, ks_without, count_rid, count_rid]
    have na := g.nd a
    by_cases e : a = k
    · subst e
      simp
      omega
    · have e2 : ¬ k = a := fun q => e q.symm
      simp [e, e2]
      omega
  · show (without s.recent k).length + ((k, v) :: without s.frequent k).length ≤ s.most
    rw [List.length_cons]
    omega
  · show (without s.recent k).length + s.once.length ≤ s.most
    omega
  · show (without s.recent k).length + ((k, v) :: without s.frequent k).length + s.once.length + s.again.length ≤ 2 * s.most
    rw [List.length_cons]
    omega
/-- the three ways of a put of a key that isn't held end so -/
theorem good_once {s t : St} {k v : Nat} (g : Good s) (hk : 0 < s.once.count k) (L : Less s t) (ht : t.recent.length + t.frequent.length < t.most) (z : t.target ≤ t.most) : Good { t with frequent := (k, v) :: t.frequent, once := rid t.once k } := by
  have nk := g.nd k
  have c1 := L.c1 k
  have d1 := L.d1 k
  have lr := len_rid t.once k
  have e1 := L.l1
  have e2 := L.l2
  have h2 := g.h2
  have h3 := g.h3
  have em := L.most
  refine ⟨fun a => ?_, by show 1 ≤ t.most; rw [em]; exact g.lo, by show t.most ≤ 64; rw [em]; exact g.hi, z, ?_, ?_, ?_⟩
  · show (ks t.recent).count a + (ks ((k, v) :: t.frequent)).count a + (rid t.once k).count a + t.again.count a ≤ 1
    rw [ks_cons, List.count_cons, count_rid]
    have na := g.nd a
    have a1 := L.c1 a
    have a2 := L.c2 a
    have b1 := L.d1 a
    have b2 := L.d2 a
    by_cases e : a = k
    · subst e
      simp
      omega
    · have e2 : ¬ k = a := fun q => e q.symm
      simp [e, e2]
      omega
  · show t.recent.length + ((k, v) :: t.frequent).length ≤ t.most
    rw [List.length_cons]
    omega
  · show t.recent.length + (rid t.once k).length ≤ t.most
    omega
  · show t.recent.length + ((k, v) :: t.frequent).length + (rid t.once k).length + t.again.length ≤ 2 * t.most
    rw [List.length_cons]
    omega
theorem good_again {s t : St} {k v : Nat} (g : Good s) (hk : 0 < s.again.count k) (L : Less s t) (ht : t.recent.length + t.frequent.length < t.most) (z : t.target ≤ t.most) : Good { t with frequent := (k, v) :: t.frequent, again := rid t.again k } := by
  have nk := g.nd k
  have c1 := L.c2 k
  have d1 := L.d2 k
  have lr := len_rid t.again k
  have e1 := L.l1
  have e2 := L.l2
  have h2 := g.h2
  have h3 := g.h3
  have em := L.most
  refine ⟨fun a => ?_, by show 1 ≤ t.most; rw [em]; exact g.lo, by show t.most ≤ 64; rw [em]; exact g.hi, z, ?_, ?_, ?_⟩
  · show (ks t.recent).count a + (ks ((k, v) :: t.frequent)).count a + t.once.count a + (rid t.again k).count a ≤ 1
    rw [ks_cons, List.count_cons, count_rid]
    have na := g.nd a
    have a1 := L.c1 a
    have a2 := L.c2 a
    have b1 := L.d1 a
    have b2 := L.d2 a
    by_cases e : a = k
    · subst e
      simp
      omega
    · have e2 : ¬ k = a := fun q => e q.symm
      simp [e, e2]
      omega
  · show t.recent.length + ((k, v) :: t.frequent).length ≤ t.most
    rw [List.length_cons]
    omega
  · show t.recent.length + t.once.length ≤ t.most
    omega
  · show t.recent.length + ((k, v) :: t.frequent).length + t.once.length + (rid t.again k).length ≤ 2 * t.most
    rw [List.length_cons]
    omega
theorem good_fresh {t : St} {k v : Nat} (nd : ∀ a, (ks t.recent).count a + (ks t.frequent).count a + t.once.count a + t.again.count a ≤ 1) (n0 : (ks t.recent).count k + (ks t.frequent).count k + t.once.count k + t.again.count k = 0)
    (lo : 1 ≤ t.most) (hi : t.most ≤ 64) (tg : t.target ≤ t.most) (h1 : t.recent.length + t.frequent.length < t.most) (h2 : t.recent.length + t.once.length < t.most)
    (h3 : t.recent.length + t.frequent.length + t.once.length + t.again.length < 2 * t.most) : Good { t with recent := (k, v) :: t.recent } := by
  refine ⟨fun a => ?_, lo, hi, tg, ?_, ?_, ?_⟩
  · show (ks ((k, v) :: t.recent)).count a + (ks t.frequent).count a + t.once.count a + t.again.count a ≤ 1
    rw [ks_cons, List.count_cons]
    have na := nd a
    by_cases e : a = k
    · subst e
      simp
      omega
    · have e2 : ¬ k = a := fun q => e q.symm
      simp [e2]
      omega
  · show ((k, v) :: t.recent).length + t.frequent.length ≤ t.most
    rw [List.length_cons]
    omega
  · show ((k, v) :: t.recent).length + t.once.length ≤ t.most
    rw [List.length_cons]
    omega
  · show ((k, v) :: t.recent).length + t.frequent.length + t.once.length + t.again.length ≤ 2 * t.most
    rw [List.length_cons]
    omega
theorem max_pos (a : Nat) : 1 ≤ max 1 a := Nat.le_max_left ..
theorem good_cameOnce {s : St} (g : Good s) : Good (cameOnce s) := ⟨g.nd, g.lo, g.hi, Nat.min_le_right _ _, g.h1, g.h2, g.h3⟩
theorem good_cameAgain {s : St} (g : Good s) : Good (cameAgain s) := ⟨g.nd, g.lo, g.hi, Nat.le_trans (Nat.sub_le _ _) g.tg, g.h1, g.h2, g.h3⟩
theorem len0 {α : Type} {l : List α} (h : l = []) : l.length = 0 := by rw [h]; rfl
theorem pre_once {s : St} {k : Nat} (g : Good s) (hk : 0 < s.once.count k) : ¬ (cameOnce s).recent.length + (cameOnce s).frequent.length < (cameOnce s).most → (cameOnce s).frequent = [] → (cameOnce s).target < (cameOnce s).recent.length := by
  show ¬ s.recent.length + s.frequent.length < s.most → s.frequent = [] → _
  intro h1 h2
  have z := len0 h2
  have h3 := g.h2
  have h4 : s.once.count k ≤ s.once.length := List.count_le_length ..
  omega
theorem pre_again {s : St} (g : Good s) : ¬ (cameAgain s).recent.length + (cameAgain s).frequent.length < (cameAgain s).most → (cameAgain s).frequent = [] → (cameAgain s).target < (cameAgain s).recent.length := by
  show ¬ s.recent.length + s.frequent.length < s.most → s.frequent = [] → s.target - max 1 _ < s.recent.length
  intro h1 h2
  have z := len0 h2
  have h3 := g.tg
  have h4 := g.lo
  have h5 := max_pos (s.once.length / s.again.length)
  omega
/-- a state from which some keys were forgotten -/
theorem good_forget {s : St} {o' g' : List Nat} (g : Good s) (ho : o'.Sublist s.once) (hg : g'.Sublist s.again) : Good { s with once := o', again := g' } := by
  have l1 := ho.length_le
  have l2 := hg.length_le
  have h2 := g.h2
  have h3 := g.h3
  refine ⟨fun a => ?_, g.lo, g.hi, g.tg, g.h1, ?_, ?_⟩
  · have na := g.nd a
    have a1 := ho.count_le a
    have a2 := hg.count_le a
    show (ks s.recent).count a + (ks s.frequent).count a + o'.count a + g'.count a ≤ 1
    omega
  · show s.recent.length + o'.length ≤ s.most
    omega
  · show s.recent.length + s.frequent.length + o'.length + g'.length ≤ 2 * s.most
    omega
theorem good_makeNew {s : St} {k v : Nat} (g : Good s) (n0 : (ks s.recent).count k + (ks s.frequent).count k + s.once.count k + s.again.count k = 0) : Good { (makeNew s).1 with recent := (k, v) :: (makeNew s).1.recent } := by
  have lo := g.lo
  have h1 := g.h1
  have h2 := g.h2
  have h3 := g.h3
  -- making room from a good state that has lost a key
  have fin : ∀ t : St, Good t → t.most = s.most → (∀ a, (ks t.recent).count a + (ks t.frequent).count a + t.once.count a + t.again.count a ≤ (ks s.recent).count a + (ks s.frequent).count a + s.once.count a + s.again.count a) →
      t.recent.length < t.most → t.recent.length + t.once.length < t.most → t.recent.length + t.frequent.length + t.once.length + t.again.length < 2 * t.most → Good { (room t false).1 with recent := (k, v) :: (room t false).1.recent } := by
    intro t gt em hc hr ho ha
    obtain ⟨L, hl⟩ := room_less (back := false) gt.h1 (fun h q => by have z := len0 q; have := gt.h1; omega)
    have em2 := L.most
    have hl := hl gt.lo
    have e1 := L.l1
    have e2 := L.l2
    refine good_fresh (fun a => ?_) ?_ (by rw [em2]; exact gt.lo) (by rw [em2]; exact gt.hi) (by rw [em2, L.target]; exact gt.tg) (by omega) (by omega) (by omega)
    · have := gt.nd a
      have := L.c1 a
      have := L.c2 a
      omega
    · have := hc k
      have := L.c1 k
      have := L.c2 k
      omega
  unfold makeNew
  by_cases c1 : s.recent.length + s.once.length = s.most
  · rw [if_pos c1]
    by_cases c2 : s.recent.length < s.most
    · rw [if_pos c2]
      have hs : s.once.dropLast.Sublist s.once := List.dropLast_sublist _
      have hl : s.once.dropLast.length = s.once.length - 1 := List.length_dropLast
      refine fin { s with once := s.once.dropLast } (good_forget g hs (List.Sublist.refl _)) rfl (fun a => ?_) c2 ?_ ?_
      · have := hs.count_le a
        show (ks s.recent).count a + (ks s.frequent).count a + s.once.dropLast.count a + s.again.count a ≤ _
        omega
      · show s.recent.length + s.once.dropLast.length < s.most
        omega
      · show s.recent.length + s.frequent.length + s.once.dropLast.length + s.again.length < 2 * s.most
        omega
    · rw [if_neg c2]
      have hne : s.recent ≠ [] := fun q => by have z := len0 q; omega
      obtain ⟨ys, e, h⟩ := last_split hne
      rw [h, List.getLast?_concat, List.dropLast_concat]
      have hl : s.recent.length = ys.length + 1 := by rw [h]; simp
      refine good_fresh (t := { s with recent := ys }) (fun a => ?_) ?_ g.lo g.hi g.tg ?_ ?_ ?_
      · have := g.nd a
        rw [h, ks_app, List.count_append] at this
        show (ks ys).count a + (ks s.frequent).count a + s.once.count a + s.again.count a ≤ 1
        omega
      · rw [h, ks_app, List.count_append] at n0
        show (ks ys).count k + (ks s.frequent).count k + s.once.count k + s.again.count k = 0
        omega
      · show ys.length + s.frequent.length < s.most
        omega
      · show ys.length + s.once.length < s.most
        omega
      · show ys.length + s.frequent.length + s.once.length + s.again.length < 2 * s.most
        omega
  · rw [if_neg c1, keys_len]
    by_cases c2 : s.recent.length + s.frequent.length + s.once.length + s.again.length = 2 * s.most
    · rw [if_pos c2]
      have hs : s.again.dropLast.Sublist s.again := List.dropLast_sublist _
      have hl : s.again.dropLast.length = s.again.length - 1 := List.length_dropLast
      refine fin { s with again := s.again.dropLast } (good_forget g (List.Sublist.refl _) hs) rfl (fun a => ?_) ?_ ?_ ?_
      · have := hs.count_le a
        show (ks s.recent).count a + (ks s.frequent).count a + s.once.count a + s.again.dropLast.count a ≤ _
        omega
      · show s.recent.length < s.most
        omega
      · show s.recent.length + s.once.length < s.most
        omega
      · show s.recent.length + s.frequent.length + s.once.length + s.again.dropLast.length < 2 * s.most
        omega
    · rw [if_neg c2]
      exact fin s g rfl (fun a => Nat.le_refl _) (by omega) (by omega) (by omega)
theorem good_put {s : St} {k v : Nat} (g : Good s) : Good (Ac.put s k v).1 := by
  unfold Ac.put
  cases h : valueIn s.held k with
  | some w => exact good_use g h
  | none =>
    rw [valueIn_none, count_held] at h
    by_cases c1 : s.once.contains k = true
    · simp only [c1, if_true]
      have hk := contains_pos.mp c1
      have g1 := good_cameOnce g
      obtain ⟨L, hl⟩ := room_less (back := false) g1.h1 (pre_once g hk)
      have hl := hl g1.lo
      exact good_once (s := cameOnce s) g1 hk L (by rw [L.most]; exact hl) (by rw [L.most, L.target]; exact g1.tg)
    · simp only [c1, if_false]
      by_cases c2 : s.again.contains k = true
      · simp only [c2, if_true]
        have hk := contains_pos.mp c2
        have g1 := good_cameAgain g
        obtain ⟨L, hl⟩ := room_less (back := true) g1.h1 (pre_again g)
        have hl := hl g1.lo
        exact good_again (s := cameAgain s) g1 hk L (by rw [L.most]; exact hl) (by rw [L.most, L.target]; exact g1.tg)
      · simp only [c2, if_false]
        have := pos_contains c1
        have := pos_contains c2
        exact good_makeNew g (by omega)
/-! ### a new size -/
theorem shrink_less : ∀ (n : Nat) (s : St), s.target ≤ s.most → s.recent.length + s.frequent.length ≤ n → Less s (shrink n s).1 ∧ (shrink n s).1.recent.length + (shrink n s).1.frequent.length ≤ s.most
  | 0, s, _, h => ⟨Less.refl s, by show s.recent.length + s.frequent.length ≤ s.most; omega⟩
  | n + 1, s, ht, h => by
    unfold shrink
    rw [held_len]
    by_cases c : s.recent.length + s.frequent.length ≤ s.most
    · rw [if_pos c]
      exact ⟨Less.refl s, c⟩
    · rw [if_neg c]
      obtain ⟨a, b⟩ := oneGoes_less (s := s) (back := false) (fun q => by have z := len0 q; omega)
      obtain ⟨a2, b2⟩ := shrink_less n (oneGoes s false).1 (by rw [a.target, a.most]; exact ht) (by omega)
      refine ⟨a.trans a2, ?_⟩
      have em := a.most
      show (shrink n (oneGoes s false).1).1.recent.length + (shrink n (oneGoes s false).1).1.frequent.length ≤ s.most
      omega
theorem good_resized {s : St} {c : Nat} (g : Good s) (lo : 1 ≤ c) (hi : c ≤ 64) : Good (resized s c).1 := by
  unfold resized
  obtain ⟨L, hl⟩ := shrink_less s.held.length { s with most := c, target := min s.target c } (Nat.min_le_right _ _) (by show s.recent.length + s.frequent.length ≤ _; rw [held_len]; exact Nat.le_refl _)
  generalize shrink s.held.length { s with most := c, target := min s.target c } = x at L hl ⊢
  have em : x.1.most = c := L.most
  have et : x.1.target = min s.target c := L.target
  have hl : x.1.recent.length + x.1.frequent.length ≤ c := hl
  have s1 : (x.1.once.take (c - x.1.recent.length)).Sublist x.1.once := List.take_sublist _ _
  have s2 : (x.1.again.take (2 * c - (x.1.held.length + (x.1.once.take (c - x.1.recent.length)).length))).Sublist x.1.again := List.take_sublist _ _
  refine ⟨fun a => ?_, by show 1 ≤ x.1.most; rw [em]; exact lo, by show x.1.most ≤ 64; rw [em]; exact hi, by show x.1.target ≤ x.1.most; rw [em, et]; exact Nat.min_le_right _ _, by show x.1.recent.length + x.1.frequent.length ≤ x.1.most; rw [em]; exact hl, ?_, ?_⟩
  · have a1 := s1.count_le a
    have a2 := s2.count_le a
    have b1 : (ks x.1.recent).count a + x.1.once.count a = (ks s.recent).count a + s.once.count a := L.c1 a
    have b2 : (ks x.1.frequent).count a + x.1.again.count a = (ks s.frequent).count a + s.again.count a := L.c2 a
    have na := g.nd a
    show (ks x.1.recent).count a + (ks x.1.frequent).count a + (x.1.once.take _).count a + (x.1.again.take _).count a ≤ 1
    omega
  · show x.1.recent.length + (x.1.once.take (c - x.1.recent.length)).length ≤ x.1.most
    rw [List.length_take, em]
    omega
  · show x.1.recent.length + x.1.frequent.length + (x.1.once.take (c - x.1.recent.length)).length + (x.1.again.take _).length ≤ 2 * x.1.most
    rw [List.length_take, List.length_take, held_len, em]
    omega
theorem okSize_iff {c : Nat} : okSize c = true ↔ 1 ≤ c ∧ c ≤ 64 := by
  unfold okSize LIMIT
  rw [Bool.and_eq_true, decide_eq_true_iff, decide_eq_true_iff]
theorem good_drop {s : St} {k : Nat} (g : Good s) : Good (Wqatag.dropOf s k).1 := by
  have h1 := g.h1
  have h2 := g.h2
  have h3 := g.h3
  unfold Wqatag.dropOf
  cases h : valueIn s.held k with
  | some w =>
    have l1 := len_without s.recent k
    have l2 := len_without s.frequent k
    refine ⟨fun a => ?_, g.lo, g.hi, g.tg, ?_, ?_, ?_⟩
    · show (ks (without s.recent k)).count a + (ks (without s.frequent k)).count a + s.once.count a + s.again.count a ≤ 1
      rw [ks_without, ks_without, count_rid, count_rid]
      have na := g.nd a
      by_cases e : a = k
      · simp [e]
        have nk := g.nd k
        omega
      · simp [e]
        omega
    · show (without s.recent k).length + (without s.frequent k).length ≤ s.most
      omega
    · show (without s.recent k).length + s.once.length ≤ s.most
      omega
    · show (without s.recent k).length + (without s.frequent k).length + s.once.length + s.again.length ≤ 2 * s.most
      omega
  | none => exact good_forget g List.filter_sublist List.filter_sublist
theorem good_step {s : St} (g : Good s) (c : Wqatag.Call) : Good (Wqatag.step s c).1 := by
  cases c with
  | begin_ n =>
    show Good (if okSize n = true then (new n, Wqatag.says 0) else (s, Wqatag.BAD)).1
    by_cases h : okSize n = true
    · rw [if_pos h]
      exact good_new (okSize_iff.mp h).1 (okSize_iff.mp h).2
    · rw [if_neg h]
      exact g
  | get k =>
    show Good (match valueIn s.held k with | some v => (use s k v, Wqatag.tells 1 [v]) | none => (s, Wqatag.says 0)).1
    cases h : valueIn s.held k with
    | some v => exact good_use g h
    | none => exact g
  | put k v => exact good_put g
  | drop k => exact good_drop g
  | place k => exact g
  | nth r i => exact g
  | sizes => exact g
  | resize n =>
    show Good (if okSize n = true then ((resized s n).1, Wqatag.outs 0 (resized s n).2) else (s, Wqatag.BAD)).1
    by_cases h : okSize n = true
    · rw [if_pos h]
      exact good_resized g (okSize_iff.mp h).1 (okSize_iff.mp h).2
    · rw [if_neg h]
      exact g
  | flush => exact good_new g.lo g.hi
end Tw
end
section
set_option linter.all false
/-! The mirror: each method of the program as a total function over plain lists. -/
namespace Tw
structure M where
  most : Int
  target : Int
  r1 : List Int
  r2 : List Int
  r3 : List Int
  r4 : List Int
  held : List (Int × Int)
def M.row (m : M) (i : Int) : List Int := if i = 1 then m.r1 else if i = 2 then m.r2 else if i = 3 then m.r3 else m.r4
def M.setRow (m : M) (i : Int) (l : List Int) : M := if i = 1 then { m with r1 := l } else if i = 2 then { m with r2 := l } else if i = 3 then { m with r3 := l } else { m with r4 := l }
def look (h : List (Int × Int)) (k : Int) : Option Int := (h.find? fun e => decide (e.1 = k)).map fun e => e.2
def hput (h : List (Int × Int)) (k v : Int) : List (Int × Int) := if (h.any fun e => decide (e.1 = k)) = true then h.map (fun e => if e.1 = k then (e.1, v) else e) else h ++ [(k, v)]
def hdrop (h : List (Int × Int)) (k : Int) : List (Int × Int) := h.filter fun e => decide (e.1 ≠ k)
def place (m : M) (k : Int) : Int := if k ∈ m.r1 then 1 else if k ∈ m.r2 then 2 else if k ∈ m.r3 then 3 else if k ∈ m.r4 then 4 else 0
def takeOut (m : M) (k : Int) : M := m.setRow (place m k) ((m.row (place m k)).erase k)
def moveF (m : M) (k : Int) : M := (takeOut m k).setRow 2 (k :: (takeOut m k).row 2)
/-- the last of row i, with its value -/
def lastOf (m : M) (i : Int) : Option (Int × Int) := match (m.row i).getLast? with
  | some k => (look m.held k).map fun v => (k, v)
  | none => none
def letGo (m : M) (i k : Int) : M := { m.setRow i (m.row i).dropLast with held := hdrop m.held k }
def keep (m : M) (i j k : Int) : M := (letGo m i k).setRow j (k :: (letGo m i k).row j)
def goesCond (m : M) (pl : Int) : Prop := 0 < m.r1.length ∧ (m.target < (m.r1.length : Int) ∨ ((m.r1.length : Int) = m.target ∧ pl = 4))
instance (m : M) (pl : Int) : Decidable (goesCond m pl) := by unfold goesCond; exact inferInstance
def flat (o : Option (Int × Int)) : List Int := match o with
  | some e => [e.1, e.2]
  | none => []
def oneGoes (m : M) (pl : Int) : M × List Int :=
  if goesCond m pl then (match lastOf m 1 with | some e => (keep m 1 3 e.1, [e.1, e.2]) | none => (m, []))
  else (match lastOf m 2 with | some e => (keep m 2 4 e.1, [e.1, e.2]) | none => (m, []))
/-- one can go -/
def CanGo (m : M) (pl : Int) : Prop := (goesCond m pl → (lastOf m 1).isSome = true) ∧ (¬ goesCond m pl → (lastOf m 2).isSome = true)
def makeRoom (m : M) (pl : Int) : M × List Int := if (m.held.length : Int) < m.most then (m, []) else oneGoes m pl
def CanRoom (m : M) (pl : Int) : Prop := ¬ (m.held.length : Int) < m.most → CanGo m pl
def grow (m : M) : M := { m with target :=
  let q := (m.r4.length : Int) / (m.r3.length : Int)
  let t := m.target + (if q > 1 then q else 1)
  if t < m.most then t else m.most }
def fall (m : M) : M := { m with target :=
  let q := (m.r3.length : Int) / (m.r4.length : Int)
  let t := m.target - (if q > 1 then q else 1)
  if t > 0 then t else 0 }
def known (m : M) : Int := ((m.r1.length : Int) + (m.r2.length : Int)) + ((m.r3.length : Int) + (m.r4.length : Int))
def forNew (m : M) : M × List Int :=
  if (m.r1.length : Int) + (m.r3.length : Int) = m.most then
    if m.r3.length = 0 then (match lastOf m 1 with | some e => (letGo m 1 e.1, [e.1, e.2]) | none => (m, []))
    else makeRoom (m.setRow 3 m.r3.dropLast) 0
  else if known m = 2 * m.most then makeRoom (m.setRow 4 m.r4.dropLast) 0
  else makeRoom m 0
structure CanNew (m : M) : Prop where
  a : (m.r1.length : Int) + (m.r3.length : Int) = m.most → m.r3.length = 0 → (lastOf m 1).isSome = true
  b : (m.r1.length : Int) + (m.r3.length : Int) = m.most → ¬ m.r3.length = 0 → CanRoom (m.setRow 3 m.r3.dropLast) 0
  c : ¬ (m.r1.length : Int) + (m.r3.length : Int) = m.most → known m = 2 * m.most → m.r4 ≠ [] ∧ CanRoom (m.setRow 4 m.r4.dropLast) 0
  d : ¬ (m.r1.length : Int) + (m.r3.length : Int) = m.most → ¬ known m = 2 * m.most → CanRoom m 0
def letIn (m : M) (k : Int) : M × List Int :=
  if place m k = 0 then ((forNew m).1.setRow 1 (k :: (forNew m).1.row 1), (forNew m).2)
  else if place m k = 3 then (moveF (makeRoom (grow m) 3).1 k, (makeRoom (grow m) 3).2)
  else (moveF (makeRoom (fall m) (place m k)).1 k, (makeRoom (fall m) (place m k)).2)
/-- every list short enough to be written -/
structure Small (m : M) : Prop where
  s1 : m.r1.length ≤ 1000
  s2 : m.r2.length ≤ 1000
  s3 : m.r3.length ≤ 1000
  s4 : m.r4.length ≤ 1000
  sh : m.held.length ≤ 1000
structure CanIn (m : M) (k : Int) : Prop where
  a : place m k = 0 → CanNew m ∧ Small (forNew m).1
  b : place m k = 3 → CanRoom (grow m) 3 ∧ Small (makeRoom (grow m) 3).1 ∧ ¬ place (makeRoom (grow m) 3).1 k = 0
  c : ¬ place m k = 0 → ¬ place m k = 3 → m.r4 ≠ [] ∧ CanRoom (fall m) (place m k) ∧ Small (makeRoom (fall m) (place m k)).1 ∧ ¬ place (makeRoom (fall m) (place m k)).1 k = 0
def put (m : M) (k v : Int) : M × List Int := match look m.held k with
  | some w => ({ moveF m k with held := hput (moveF m k).held k v }, [1, k, w])
  | none => ({ (letIn m k).1 with held := hput (letIn m k).1.held k v }, 0 :: (letIn m k).2)
def get (m : M) (k : Int) : M × List Int := match look m.held k with
  | some v => (moveF m k, [1, v])
  | none => (m, [0])
def drop (m : M) (k : Int) : M × List Int := if place m k = 0 then (m, [0]) else match look m.held k with
  | some v => ({ takeOut m k with held := hdrop (takeOut m k).held k }, [2, k, v])
  | none => (takeOut m k, [1])
/-- the i-th key of a row -/
def nth (m : M) (r i : Nat) : List Int := if 1 ≤ r ∧ r ≤ 4 then (match (m.row (r : Int))[i]? with | some k => [1, k] | none => [0]) else [-1]
def lens4 (m : M) : List Int := [(m.r1.length : Int), (m.r2.length : Int), (m.r3.length : Int), (m.r4.length : Int)]
def sizes (m : M) : List Int := [m.most] ++ lens4 m ++ [m.target]
/-- as many go as are too many, within n steps -/
def shrinkM : Nat → M → M × List Int
  | 0, m => (m, [])
  | n + 1, m => if m.most < (m.held.length : Int) then ((shrinkM n (oneGoes m 0).1).1, (oneGoes m 0).2 ++ (shrinkM n (oneGoes m 0).1).2) else (m, [])
def CanShrink : Nat → M → Prop
  | 0, m => ¬ m.most < (m.held.length : Int)
  | n + 1, m => m.most < (m.held.length : Int) → CanGo m 0 ∧ Small m ∧ CanShrink n (oneGoes m 0).1
/-- keys past the bounds are forgotten -/
def forget3 (m : M) : M := { m with r3 := m.r3.take (m.most - (m.r1.length : Int)).toNat }
def forget4 (m : M) : M := { m with r4 := m.r4.take (2 * m.most - ((m.r1.length : Int) + (m.r2.length : Int) + (m.r3.length : Int))).toNat }
def forget (m : M) : M := forget4 (forget3 m)
def CanForget (m : M) : Prop := (m.r1.length : Int) + (m.r2.length : Int) ≤ m.most
def fit (m : M) (c : Int) : M := { m with most := c, target := if c < m.target then c else m.target }
def resize (m : M) (c : Int) : M × List Int := if 1 ≤ c ∧ c ≤ 64 then (forget (shrinkM m.held.length (fit m c)).1, 0 :: (shrinkM m.held.length (fit m c)).2) else (m, [-1])
structure CanResize (m : M) (c : Int) : Prop where
  a : CanShrink m.held.length (fit m c)
  b : CanForget (shrinkM m.held.length (fit m c)).1
  sh : m.held.length ≤ 1000
/-- what is told of a row's entries, from the last to the first -/
def back (h : List (Int × Int)) (l : List Int) : List Int := l.reverse.flatMap fun k => [k, (look h k).getD 0]
def flush (m : M) : List Int := (m.held.length : Int) :: (back m.held m.r1 ++ back m.held m.r2)
structure CanFlush (m : M) : Prop where
  sm : Small m
  a : ∀ k, k ∈ m.r1 ∨ k ∈ m.r2 → (look m.held k).isSome = true
def blank (most : Int) : M := ⟨most, 0, [], [], [], [], []⟩
def begin_ (m : M) (c : Int) : M × List Int := if c < 1 ∨ c > 64 then (m, [-1]) else (blank c, [0])
end Tw
end
section
set_option Elab.async false
set_option linter.all false
set_option maxRecDepth 100000
set_option maxHeartbeats 2000000
/-! The object in the heap, and what reading and writing it asks. -/
namespace Tw
open PySem PySem.Spec PyProof.Rows L2
/-! ### the text by places -/
def top (i : Nat) : Stmt := PySem.Challenge.pw_tworooms_s01_answers.main.body.getD i (.Pass ⟨0, 0, 0, 0⟩)
abbrev sMay : Stmt := top 17
abbrev kls : Stmt := top 18
abbrev sInit : Stmt := inClass kls 0
abbrev sForget : Stmt := inClass kls 1
abbrev sBegin : Stmt := inClass kls 2
abbrev sGet : Stmt := inClass kls 3
abbrev sPut : Stmt := inClass kls 4
abbrev sDrop : Stmt := inClass kls 5
abbrev sPlace : Stmt := inClass kls 6
abbrev sNth : Stmt := inClass kls 7
abbrev sSizes : Stmt := inClass kls 8
abbrev sResize : Stmt := inClass kls 9
abbrev sFlush : Stmt := inClass kls 10
abbrev sTake : Stmt := inClass kls 11
abbrev sMove : Stmt := inClass kls 12
abbrev sLetIn : Stmt := inClass kls 13
abbrev sGrow : Stmt := inClass kls 14
abbrev sFall : Stmt := inClass kls 15
abbrev sNew : Stmt := inClass kls 16
abbrev sSurplus : Stmt := inClass kls 17
abbrev sLens : Stmt := inClass kls 18
abbrev sKnown : Stmt := inClass kls 19
abbrev sRoom : Stmt := inClass kls 20
abbrev sOne : Stmt := inClass kls 21
abbrev sKeep : Stmt := inClass kls 22
abbrev sLetGo : Stmt := inClass kls 23
abbrev sCall : Stmt := top 19
abbrev sAns : Stmt := top 20
/-! ### attributes -/
theorem q1 : (("most" : Str) = "target") = False := eq_false (by decide +kernel)
theorem q2 : (("most" : Str) = "rows") = False := eq_false (by decide +kernel)
theorem q3 : (("most" : Str) = "held") = False := eq_false (by decide +kernel)
theorem q4 : (("target" : Str) = "rows") = False := eq_false (by decide +kernel)
theorem q5 : (("target" : Str) = "held") = False := eq_false (by decide +kernel)
theorem q6 : (("rows" : Str) = "held") = False := eq_false (by decide +kernel)
def flds (a b : Int) (r h : Addr) : List (Str × V) := [("most", .int a), ("target", .int b), ("rows", .ref r), ("held", .ref h)]
theorem fl_made (a b : Int) (r h : Addr) : putF "held" (.ref h) (putF "rows" (.ref r) (putF "target" (.int b) (putF "most" (.int a) []))) = flds a b r h := by
  unfold flds
  simp only [putF, q1, q2, q3, q4, q5, q6, if_false]
theorem fl_most (a b : Int) (r h : Addr) : (flds a b r h).lookup ("most" : Str) = some (.int a) := by
  rw [← fl_made, lookup_putF, lookup_putF, lookup_putF, lookup_putF]
  simp only [q1, q2, q3, if_false, if_true]
theorem fl_target (a b : Int) (r h : Addr) : (flds a b r h).lookup ("target" : Str) = some (.int b) := by
  rw [← fl_made, lookup_putF, lookup_putF, lookup_putF]
  simp only [q4, q5, if_false, if_true]
theorem fl_rows (a b : Int) (r h : Addr) : (flds a b r h).lookup ("rows" : Str) = some (.ref r) := by
  rw [← fl_made, lookup_putF, lookup_putF]
  simp only [q6, if_false, if_true]
theorem fl_held (a b : Int) (r h : Addr) : (flds a b r h).lookup ("held" : Str) = some (.ref h) := by
  rw [← fl_made, lookup_putF]
  simp only [if_true]
theorem fl_no (a b : Int) (r h : Addr) {x : Str} (n : (["most", "target", "rows", "held"] : List Str).contains x = false) : (flds a b r h).lookup x = none := by
  have e : ∀ y ∈ (["most", "target", "rows", "held"] : List Str), ¬ x = y := fun y hy q => by
    subst q
    rw [List.contains_iff_mem.mpr hy] at n
    cases n
  rw [← fl_made, lookup_putF, lookup_putF, lookup_putF, lookup_putF, if_neg (e _ (by simp)), if_neg (e _ (by simp)), if_neg (e _ (by simp)), if_neg (e _ (by simp))]
  rfl
theorem fl_put_most (a b : Int) (r h : Addr) (z : Int) : putF "most" (.int z) (flds a b r h) = flds z b r h := by
  unfold flds
  simp only [putF, if_true]
theorem fl_put_target (a b : Int) (r h : Addr) (z : Int) : putF "target" (.int z) (flds a b r h) = flds a z r h := by
  unfold flds
  simp only [putF, q1, if_false, if_true]
theorem fl_put_rows (a b : Int) (r h : Addr) (z : Addr) : putF "rows" (.ref z) (flds a b r h) = flds a b z h := by
  unfold flds
  simp only [putF, q2, q4, if_false, if_true]
theorem fl_put_held (a b : Int) (r h : Addr) (z : Addr) : putF "held" (.ref z) (flds a b r h) = flds a b r z := by
  unfold flds
  simp only [putF, q3, q5, q6, if_false, if_true]
/-! ### the dict of values -/
def encH (h : List (Int × Int)) : List (Key × V) := h.map fun e => (Sum.inl e.1, V.int e.2)
theorem val_enc (h : List (Int × Int)) (k : Int) : valV (encH h) (Sum.inl k : Key) = (look h k).map V.int := by
  induction h with
  | nil => rfl
  | cons e h ih =>
    unfold encH look at ih ⊢
    rw [List.map_cons, List.find?_cons]
    by_cases q : e.1 = k
    · rw [valV_pos (by show (Sum.inl e.1 : Key) = Sum.inl k; rw [q]), decide_eq_true q]
      rfl
    · rw [valV_neg (by show ¬ (Sum.inl e.1 : Key) = Sum.inl k; exact fun z => q (Sum.inl.inj z)), decide_eq_false q]
      exact ih
theorem inl_iff {a k : Int} : ((Sum.inl a : Key) = Sum.inl k) = (a = k) := propext ⟨fun z => Sum.inl.inj z, fun z => by rw [z]⟩
theorem put_enc (h : List (Int × Int)) (k v : Int) : putK (encH h) (Sum.inl k : Key) (V.int v) = encH (hput h k v) := by
  unfold putK hput encH
  rw [List.any_map]
  have e : ((fun kv : Key × V => decide (kv.1 = Sum.inl k)) ∘ fun e : Int × Int => ((Sum.inl e.1 : Key), V.int e.2)) = fun e => decide (e.1 = k) := by
    funext x
    simp only [Function.comp, inl_iff]
  rw [e]
  by_cases c : (h.any fun e => decide (e.1 = k)) = true
  · rw [if_pos c, if_pos c, List.map_map, List.map_map]
    congr 1
    funext x
    simp only [Function.comp, inl_iff]
    by_cases q : x.1 = k
    · rw [if_pos q, if_pos q]
    · rw [if_neg q, if_neg q]
  · rw [if_neg c, if_neg c, List.map_append]
    rfl
theorem drop_enc (h : List (Int × Int)) (k : Int) : dropK (encH h) (Sum.inl k : Key) = encH (hdrop h k) := by
  unfold dropK hdrop encH
  rw [List.filter_map]
  congr 1
  congr 1
  funext x
  simp only [Function.comp, ne_eq, inl_iff]
theorem enc_len (h : List (Int × Int)) : (encH h).length = h.length := List.length_map ..
/-! ### the object -/
/-- where its parts stand -/
structure Ft where
  dR : Addr
  a1 : Addr
  a2 : Addr
  a3 : Addr
  a4 : Addr
  dH : Addr
def Ft.at (F : Ft) (i : Int) : Addr := if i = 1 then F.a1 else if i = 2 then F.a2 else if i = 3 then F.a3 else F.a4
/-- an address of the object -/
def In (p : Addr) (F : Ft) (b : Addr) : Prop := b = p ∨ b = F.dR ∨ b = F.dH ∨ b = F.a1 ∨ b = F.a2 ∨ b = F.a3 ∨ b = F.a4
structure Rep (C : Addr) (H : Hp) (p : Addr) (F : Ft) (m : M) : Prop where
  ob : ∃ dx, H p = some (.ins C dx (flds m.most m.target F.dR F.dH))
  dr : H F.dR = some (.dK [(Sum.inl 1, .ref F.a1), (Sum.inl 2, .ref F.a2), (Sum.inl 3, .ref F.a3), (Sum.inl 4, .ref F.a4)])
  l1 : H F.a1 = some (.lst (m.r1.map V.int))
  l2 : H F.a2 = some (.lst (m.r2.map V.int))
  l3 : H F.a3 = some (.lst (m.r3.map V.int))
  l4 : H F.a4 = some (.lst (m.r4.map V.int))
  dh : H F.dH = some (.dK (encH m.held))
  nd : F.dR ≠ F.dH
  n12 : F.a1 ≠ F.a2
  n13 : F.a1 ≠ F.a3
  n14 : F.a1 ≠ F.a4
  n23 : F.a2 ≠ F.a3
  n24 : F.a2 ≠ F.a4
  n34 : F.a3 ≠ F.a4
/-- all that was tracked outside the object is as it was -/
def Kp (p : Addr) (F : Ft) (H H' : Hp) : Prop := ∀ b o, H b = some o → ¬ In p F b → H' b = some o
theorem Kp.trans {p : Addr} {F : Ft} {H H1 H2 : Hp} (a : Kp p F H H1) (b : Kp p F H1 H2) : Kp p F H H2 := fun c o h n => b c o (a c o h n) n
theorem Kp.of {p : Addr} {F : Ft} {H H1 : Hp} (a : Same H H1) : Kp p F H H1 := fun c o h _ => a c o h
theorem Kp.refl {p : Addr} {F : Ft} {H : Hp} : Kp p F H H := fun _ _ h _ => h
theorem same_new {H : Hp} {l : Addr} {o : HO} (h : H l = none) : Same H (upd H l o) := fun b u e => by
  rw [upd_ne (ne_of_none e h)]
  exact e
theorem kp_upd {p : Addr} {F : Ft} {H : Hp} {b : Addr} {o : HO} (h : In p F b) : Kp p F H (upd H b o) := fun c u e n => by
  have z : c ≠ b := fun q => n (by rw [q]; exact h)
  rw [upd_ne z]
  exact e
section
variable {C : Addr} {H H' : Hp} {p : Addr} {F : Ft} {m : M}
theorem Rep.same (R : Rep C H p F m) (s : Same H H') : Rep C H' p F m := by
  obtain ⟨dx, h⟩ := R.ob
  exact ⟨⟨dx, s _ _ h⟩, s _ _ R.dr, s _ _ R.l1, s _ _ R.l2, s _ _ R.l3, s _ _ R.l4, s _ _ R.dh, R.nd, R.n12, R.n13, R.n14, R.n23, R.n24, R.n34⟩
theorem Rep.tracked (R : Rep C H p F m) {b : Addr} (h : In p F b) : ∃ o, H b = some o := by
  obtain ⟨dx, h0⟩ := R.ob
  rcases h with rfl | rfl | rfl | rfl | rfl | rfl | rfl
  · exact ⟨_, h0⟩
  · exact ⟨_, R.dr⟩
  · exact ⟨_, R.dh⟩
  · exact ⟨_, R.l1⟩
  · exact ⟨_, R.l2⟩
  · exact ⟨_, R.l3⟩
  · exact ⟨_, R.l4⟩
theorem Rep.fresh (R : Rep C H p F m) {b : Addr} (h : H b = none) : ¬ In p F b := fun q => by
  obtain ⟨o, e⟩ := R.tracked q
  rw [h] at e
  cases e
theorem Rep.in_at (F : Ft) (p : Addr) (i : Int) : In p F (F.at i) := by
  unfold Ft.at
  split
  · exact .inr (.inr (.inr (.inl rfl)))
  · split
    · exact .inr (.inr (.inr (.inr (.inl rfl))))
    · split
      · exact .inr (.inr (.inr (.inr (.inr (.inl rfl)))))
      · exact .inr (.inr (.inr (.inr (.inr (.inr rfl)))))
theorem Rep.row (R : Rep C H p F m) (i : Int) : H (F.at i) = some (.lst ((m.row i).map V.int)) := by
  unfold Ft.at M.row
  split
  · exact R.l1
  · split
    · exact R.l2
    · split
      · exact R.l3
      · exact R.l4
theorem Rep.get (R : Rep C H p F m) {i : Int} (h1 : 1 ≤ i) (h4 : i ≤ 4) : DGet H F.dR (.int i) (some (.ref (F.at i))) := by
  have e : valV ([(Sum.inl 1, .ref F.a1), (Sum.inl 2, .ref F.a2), (Sum.inl 3, .ref F.a3), (Sum.inl 4, .ref F.a4)] : List (Key × V)) (Sum.inl i) = some (.ref (F.at i)) := by
    rcases (by omega : i = 1 ∨ i = 2 ∨ i = 3 ∨ i = 4) with rfl | rfl | rfl | rfl <;> rfl
  rw [← e]
  exact DGet.k (k := Sum.inl i) R.dr
theorem Rep.pR (R : Rep C H p F m) : p ≠ F.dR := by
  obtain ⟨dx, h⟩ := R.ob
  exact ne_of h R.dr (by intro z; cases z)
theorem Rep.pH (R : Rep C H p F m) : p ≠ F.dH := by
  obtain ⟨dx, h⟩ := R.ob
  exact ne_of h R.dh (by intro z; cases z)
theorem Rep.pA (R : Rep C H p F m) (i : Int) : p ≠ F.at i := by
  obtain ⟨dx, h⟩ := R.ob
  exact ne_of h (R.row i) (by intro z; cases z)
theorem Rep.rA (R : Rep C H p F m) (i : Int) : F.dR ≠ F.at i := ne_of R.dr (R.row i) (by intro z; cases z)
theorem Rep.hA (R : Rep C H p F m) (i : Int) : F.dH ≠ F.at i := ne_of R.dh (R.row i) (by intro z; cases z)
theorem Rep.setRow (R : Rep C H p F m) (i : Int) (l : List Int) : Rep C (upd H (F.at i) (.lst (l.map V.int))) p F (m.setRow i l) := by
  obtain ⟨dx, h⟩ := R.ob
  have pA := R.pA i
  have rA := R.rA i
  have hA := R.hA i
  have hr := R.dr
  have hh := R.dh
  have n12 := R.n12
  have n13 := R.n13
  have n14 := R.n14
  have n23 := R.n23
  have n24 := R.n24
  have n34 := R.n34
  unfold Ft.at at pA rA hA ⊢
  unfold M.setRow
  split
  · rename_i c
    rw [if_pos c] at pA rA hA
    exact ⟨⟨dx, by rw [upd_ne pA]; exact h⟩, by rw [upd_ne rA]; exact hr, upd_same, by rw [upd_ne n12.symm]; exact R.l2, by rw [upd_ne n13.symm]; exact R.l3, by rw [upd_ne n14.symm]; exact R.l4, by rw [upd_ne hA]; exact hh, R.nd, n12, n13, n14, n23, n24, n34⟩
  · rename_i c
    rw [if_neg c] at pA rA hA
    split
    · rename_i c
      rw [if_pos c] at pA rA hA
      exact ⟨⟨dx, by rw [upd_ne pA]; exact h⟩, by rw [upd_ne rA]; exact hr, by rw [upd_ne n12]; exact R.l1, upd_same, by rw [upd_ne n23.symm]; exact R.l3, by rw [upd_ne n24.symm]; exact R.l4, by rw [upd_ne hA]; exact hh, R.nd, n12, n13, n14, n23, n24, n34⟩
    · rename_i c
      rw [if_neg c] at pA rA hA
      split
      · rename_i c
        rw [if_pos c] at pA rA hA
        exact ⟨⟨dx, by rw [upd_ne pA]; exact h⟩, by rw [upd_ne rA]; exact hr, by rw [upd_ne n13]; exact R.l1, by rw [upd_ne n23]; exact R.l2, upd_same, by rw [upd_ne n34.symm]; exact R.l4, by rw [upd_ne hA]; exact hh, R.nd, n12, n13, n14, n23, n24, n34⟩
      · rename_i c
        rw [if_neg c] at pA rA hA
        exact ⟨⟨dx, by rw [upd_ne pA]; exact h⟩, by rw [upd_ne rA]; exact hr, by rw [upd_ne n14]; exact R.l1, by rw [upd_ne n24]; exact R.l2, by rw [upd_ne n34]; exact R.l3, upd_same, by rw [upd_ne hA]; exact hh, R.nd, n12, n13, n14, n23, n24, n34⟩
theorem Rep.ne_row (R : Rep C H p F m) {b : Addr} {o : HO} (h : H b = some o) (hn : ∀ xs, o ≠ .lst xs) (i : Int) : F.at i ≠ b := fun q => by
  rw [← q, R.row i] at h
  cases h
  exact hn _ rfl
theorem Rep.setHeld (R : Rep C H p F m) (h' : List (Int × Int)) : Rep C (upd H F.dH (.dK (encH h'))) p F { m with held := h' } := by
  obtain ⟨dx, h⟩ := R.ob
  have a : ∀ i, F.at i ≠ F.dH := fun i => (R.hA i).symm
  exact ⟨⟨dx, by rw [upd_ne R.pH]; exact h⟩, by rw [upd_ne R.nd]; exact R.dr, by rw [upd_ne (show F.a1 ≠ _ from a 1)]; exact R.l1, by rw [upd_ne (show F.a2 ≠ _ from a 2)]; exact R.l2, by rw [upd_ne (show F.a3 ≠ _ from a 3)]; exact R.l3, by rw [upd_ne (show F.a4 ≠ _ from a 4)]; exact R.l4, upd_same, R.nd, R.n12, R.n13, R.n14, R.n23, R.n24, R.n34⟩
theorem Rep.setObj (R : Rep C H p F m) {dx : Addr} {x y : Int} : Rep C (upd H p (.ins C dx (flds x y F.dR F.dH))) p F { m with most := x, target := y } := by
  have a : ∀ i, F.at i ≠ p := fun i => (R.pA i).symm
  exact ⟨⟨dx, upd_same⟩, by rw [upd_ne R.pR.symm]; exact R.dr, by rw [upd_ne (show F.a1 ≠ _ from a 1)]; exact R.l1, by rw [upd_ne (show F.a2 ≠ _ from a 2)]; exact R.l2, by rw [upd_ne (show F.a3 ≠ _ from a 3)]; exact R.l3, by rw [upd_ne (show F.a4 ≠ _ from a 4)]; exact R.l4, by rw [upd_ne R.pH.symm]; exact R.dh, R.nd, R.n12, R.n13, R.n14, R.n23, R.n24, R.n34⟩
end
/-! ### what the module holds -/
structure Txt (K : PySem.W.Frag) (mg : Str → Option Value) (C : Addr) : Prop where
  cl : Cls K C
  nM : NoAttr K C "most"
  nT : NoAttr K C "target"
  nR : NoAttr K C "rows"
  nH : NoAttr K C "held"
  mgC : mg "Cache" = some (.ref C)
  len : mg "len" = none
  max : mg "max" = none
  min : mg "min" = none
  sum : mg "sum" = none
  rev : mg "reversed" = none
  kFirst : ∃ t, mg "MOST_AT_FIRST" = some (.int 16 t)
  kLargest : ∃ t, mg "LARGEST_MOST" = some (.int 64 t)
  k0 : ∃ t, mg "NOT_KNOWN" = some (.int 0 t)
  k1 : ∃ t, mg "RECENT" = some (.int 1 t)
  k2 : ∃ t, mg "FREQUENT" = some (.int 2 t)
  k3 : ∃ t, mg "LEFT_RECENT" = some (.int 3 t)
  k4 : ∃ t, mg "LEFT_FREQUENT" = some (.int 4 t)
  kB : ∃ t, mg "BEGIN" = some (.int 0 t)
  kG : ∃ t, mg "GET" = some (.int 1 t)
  kP : ∃ t, mg "PUT" = some (.int 2 t)
  kD : ∃ t, mg "DROP" = some (.int 3 t)
  kPl : ∃ t, mg "PLACE" = some (.int 4 t)
  kN : ∃ t, mg "NTH" = some (.int 5 t)
  kS : ∃ t, mg "SIZES" = some (.int 6 t)
  kR : ∃ t, mg "RESIZE" = some (.int 7 t)
/-- a method, as its callers see it -/
structure Mth (P : Program) (w : World) (K : PySem.W.Frag) (mg : Str → Option Value) (base : Heap) (C : Addr) (nm : Str) (k : Nat) (ps : List Str) (sp : Sp) : Prop where
  ex : ∃ f fd, FnOk P w K mg base CX0 k f fd ps sp ∧ Binds K fd ps [] ∧ Meth K C nm f
/-- a function of the module, as its callers see it -/
structure Glb (P : Program) (w : World) (K : PySem.W.Frag) (mg : Str → Option Value) (base : Heap) (nm : Str) (k : Nat) (ps : List Str) (sp : Sp) : Prop where
  ex : ∃ f fd, FnOk P w K mg base CX0 k f fd ps sp ∧ Binds K fd ps [] ∧ mg nm = some (.ref f) ∧ PySem.W.keepIn K (.ref f) = true
/-! ### readings -/
section
variable {K : PySem.W.Frag} {mg : Str → Option Value} {C : Addr} {H : Hp} {p : Addr} {F : Ft} {m : M} {σ : L2.St} {Q : VK}
theorem rd_most (T : Txt K mg C) (R : Rep C H p F m) (q : Q (.int m.most) H) (h0 : σ[0]? = some (some (.ref p)) := by rfl) : tFld K (tVar 0) "most" σ H Q := by
  obtain ⟨dx, h⟩ := R.ob
  exact ⟨_, h0, p, C, dx, _, _, rfl, h, T.cl, T.nM, fl_most .., q⟩
theorem rd_target (T : Txt K mg C) (R : Rep C H p F m) (q : Q (.int m.target) H) (h0 : σ[0]? = some (some (.ref p)) := by rfl) : tFld K (tVar 0) "target" σ H Q := by
  obtain ⟨dx, h⟩ := R.ob
  exact ⟨_, h0, p, C, dx, _, _, rfl, h, T.cl, T.nT, fl_target .., q⟩
theorem rd_rows (T : Txt K mg C) (R : Rep C H p F m) (q : Q (.ref F.dR) H) (h0 : σ[0]? = some (some (.ref p)) := by rfl) : tFld K (tVar 0) "rows" σ H Q := by
  obtain ⟨dx, h⟩ := R.ob
  exact ⟨_, h0, p, C, dx, _, _, rfl, h, T.cl, T.nR, fl_rows .., q⟩
theorem rd_held (T : Txt K mg C) (R : Rep C H p F m) (q : Q (.ref F.dH) H) (h0 : σ[0]? = some (some (.ref p)) := by rfl) : tFld K (tVar 0) "held" σ H Q := by
  obtain ⟨dx, h⟩ := R.ob
  exact ⟨_, h0, p, C, dx, _, _, rfl, h, T.cl, T.nH, fl_held .., q⟩
/-- self.rows[i], i whatever it is told by -/
theorem rd_row {tx : TE} {i : Int} (T : Txt K mg C) (R : Rep C H p F m) (h1 : 1 ≤ i) (h4 : i ≤ 4) (hx : ∀ Q' : VK, Q' (.int i) H → tx σ H Q') (q : Q (.ref (F.at i)) H) (h0 : σ[0]? = some (some (.ref p)) := by rfl) :
    tDGet (tFld K (tVar 0) "rows") tx σ H Q := rd_rows T R (hx _ ⟨F.dR, _, rfl, R.get h1 h4, q⟩) h0
theorem ix_c {i : Int} : ∀ Q' : VK, Q' (.int i) H → tC (.int i) σ H Q' := fun _ q => q
theorem ix_v {i : Int} {j : Nat} (h : σ[j]? = some (some (.int i))) : ∀ Q' : VK, Q' (.int i) H → tVar j σ H Q' := fun _ q => ⟨_, h, q⟩
theorem rd_len {tx : TE} {i : Int} (T : Txt K mg C) (R : Rep C H p F m) (h1 : 1 ≤ i) (h4 : i ≤ 4) (hx : ∀ Q' : VK, Q' (.int i) H → tx σ H Q') (q : Q (.int ((m.row i).length : Nat)) H) (h0 : σ[0]? = some (some (.ref p)) := by rfl) :
    tCB (fun xs H Q => ∃ p ys, xs = [.ref p] ∧ (SqL K H p ys ∨ SqT K H p ys) ∧ Q (.int ys.length) H) (tCons (tDGet (tFld K (tVar 0) "rows") tx) tNil) σ H Q :=
  rd_row T R h1 h4 hx ⟨_, _, rfl, .inl (SqL.of (R.row i)), by rw [List.length_map]; exact q⟩ h0
/-- self.m(..) -/
theorem rd_meth {nm : Str} {sp : Sp} {t : TA} (R : Rep C H p F m) (q : t σ H fun vs H2 => sp (.ref p :: (vs ++ [])) H2 Q E0) (h0 : σ[0]? = some (some (.ref p)) := by rfl) (n : (["most", "target", "rows", "held"] : List Str).contains nm = false := by decide +kernel) :
    tMeth C nm sp [] E0 (tVar 0) t σ H Q := by
  obtain ⟨dx, h⟩ := R.ob
  exact ⟨_, h0, p, dx, _, rfl, h, fl_no _ _ _ _ n, q⟩
end
theorem isz {n : Nat} (h : n ≤ 1001) : n < sizeLine := Nat.lt_of_le_of_lt h (by decide)
end Tw
end
section
set_option Elab.async false
set_option linter.all false
set_option maxRecDepth 100000
set_option maxHeartbeats 2000000
/-! Rules for what the methods say of self: each reading is a tuple that names the object. -/
namespace Tw
open PySem PySem.Spec PyProof.Rows L2
theorem weak {X : Cx} {e : Expr} {t t' : TE} (h : PE X e t) (i : ∀ σ H Q, t' σ H Q → t σ H Q) : PE X e t' := fun pins s σ H Q I q => h pins s σ H Q I (i σ H Q q)
/-- a value of self -/
def tSelf (C : Addr) (g : Addr → Ft → M → V) : TE := fun σ H Q => ∃ p F m, σ[0]? = some (some (.ref p)) ∧ Rep C H p F m ∧ Q (g p F m) H
/-- self.rows[i], i in slot j -/
def tRowV (C : Addr) (j : Nat) : TE := fun σ H Q => ∃ p F m i, σ[0]? = some (some (.ref p)) ∧ σ[j]? = some (some (.int i)) ∧ 1 ≤ i ∧ i ≤ 4 ∧ Rep C H p F m ∧ Q (.ref (F.at i)) H
def tLenV (C : Addr) (j : Nat) : TE := fun σ H Q => ∃ p F m i, σ[0]? = some (some (.ref p)) ∧ σ[j]? = some (some (.int i)) ∧ 1 ≤ i ∧ i ≤ 4 ∧ Rep C H p F m ∧ Q (.int ((m.row i).length : Nat)) H
/-- self.m(..) -/
def tSelfM (C : Addr) (sp : Sp) (t : TA) : TE := fun σ H Q => ∃ p F m, σ[0]? = some (some (.ref p)) ∧ Rep C H p F m ∧ t σ H fun vs H2 => sp (.ref p :: (vs ++ [])) H2 Q E0
section
variable {X : Cx} {C : Addr} {x : Str} {p1 p2 p3 p4 p5 p6 : Pos}
theorem se_most (T : Txt X.K X.mg C) (hN : X.N[0]? = some x := by rfl) (hv : Vis X.env.scope x := by first | exact Or.inl rfl | exact Or.inr (Or.inl rfl) | exact Or.inr (Or.inr rfl)) (hd : (x == ("__debug__" : Str)) = false := by decide)
    (hcd : (x == ("__classdict__" : Str)) = false := by decide) (hb : attributeBase (.Name x p1) "most" X.env (eval (.Name x p1) X.env) = eval (.Name x p1) X.env := by rfl) : PE X (.Attribute (.Name x p1) "most" p2) (tSelf C fun _ _ m => .int m.most) :=
  weak (pe_fld (pv 0 hN hv hd hcd) hb) fun σ H Q ⟨p, F, m, h0, R, q⟩ => rd_most T R q h0
theorem se_target (T : Txt X.K X.mg C) (hN : X.N[0]? = some x := by rfl) (hv : Vis X.env.scope x := by first | exact Or.inl rfl | exact Or.inr (Or.inl rfl) | exact Or.inr (Or.inr rfl)) (hd : (x == ("__debug__" : Str)) = false := by decide)
    (hcd : (x == ("__classdict__" : Str)) = false := by decide) (hb : attributeBase (.Name x p1) "target" X.env (eval (.Name x p1) X.env) = eval (.Name x p1) X.env := by rfl) : PE X (.Attribute (.Name x p1) "target" p2) (tSelf C fun _ _ m => .int m.target) :=
  weak (pe_fld (pv 0 hN hv hd hcd) hb) fun σ H Q ⟨p, F, m, h0, R, q⟩ => rd_target T R q h0
theorem se_rows (T : Txt X.K X.mg C) (hN : X.N[0]? = some x := by rfl) (hv : Vis X.env.scope x := by first | exact Or.inl rfl | exact Or.inr (Or.inl rfl) | exact Or.inr (Or.inr rfl)) (hd : (x == ("__debug__" : Str)) = false := by decide)
    (hcd : (x == ("__classdict__" : Str)) = false := by decide) (hb : attributeBase (.Name x p1) "rows" X.env (eval (.Name x p1) X.env) = eval (.Name x p1) X.env := by rfl) : PE X (.Attribute (.Name x p1) "rows" p2) (tSelf C fun _ F _ => .ref F.dR) :=
  weak (pe_fld (pv 0 hN hv hd hcd) hb) fun σ H Q ⟨p, F, m, h0, R, q⟩ => rd_rows T R q h0
theorem se_held (T : Txt X.K X.mg C) (hN : X.N[0]? = some x := by rfl) (hv : Vis X.env.scope x := by first | exact Or.inl rfl | exact Or.inr (Or.inl rfl) | exact Or.inr (Or.inr rfl)) (hd : (x == ("__debug__" : Str)) = false := by decide)
    (hcd : (x == ("__classdict__" : Str)) = false := by decide) (hb : attributeBase (.Name x p1) "held" X.env (eval (.Name x p1) X.env) = eval (.Name x p1) X.env := by rfl) : PE X (.Attribute (.Name x p1) "held" p2) (tSelf C fun _ F _ => .ref F.dH) :=
  weak (pe_fld (pv 0 hN hv hd hcd) hb) fun σ H Q ⟨p, F, m, h0, R, q⟩ => rd_held T R q h0
/-- self.rows[I], I a name of the module -/
theorem se_row {y : Str} {i : Int} (T : Txt X.K X.mg C) (hu : X.A.units + 1 < cLine) (hk : ∃ t, X.mg y = some (.int i t)) (h1 : 1 ≤ i) (h4 : i ≤ 4) (hg : Gl X y := by rfl) (hdy : (y == ("__debug__" : Str)) = false := by decide)
    (hN : X.N[0]? = some x := by rfl) (hv : Vis X.env.scope x := by first | exact Or.inl rfl | exact Or.inr (Or.inl rfl) | exact Or.inr (Or.inr rfl)) (hd : (x == ("__debug__" : Str)) = false := by decide)
    (hcd : (x == ("__classdict__" : Str)) = false := by decide) (hb : attributeBase (.Name x p1) "rows" X.env (eval (.Name x p1) X.env) = eval (.Name x p1) X.env := by rfl) :
    PE X (.Subscript (.Attribute (.Name x p1) "rows" p2) (.Name y p3) p4) (tSelf C fun _ F _ => .ref (F.at i)) :=
  weak (pe_dget hu (pe_fld (pv 0 hN hv hd hcd) hb) (pk hk hg hdy) (fun _ _ => rfl)) fun σ H Q ⟨p, F, m, h0, R, q⟩ => rd_row (i := i) T R h1 h4 ix_c q h0
/-- len(self.rows[I]) -/
theorem se_len {y : Str} {i : Int} (T : Txt X.K X.mg C) (hu : X.A.units + 1 < cLine) (hk : ∃ t, X.mg y = some (.int i t)) (h1 : 1 ≤ i) (h4 : i ≤ 4) (hg : Gl X y := by rfl) (hdy : (y == ("__debug__" : Str)) = false := by decide)
    (hN : X.N[0]? = some x := by rfl) (hv : Vis X.env.scope x := by first | exact Or.inl rfl | exact Or.inr (Or.inl rfl) | exact Or.inr (Or.inr rfl)) (hd : (x == ("__debug__" : Str)) = false := by decide)
    (hcd : (x == ("__classdict__" : Str)) = false := by decide) (hb : attributeBase (.Name x p1) "rows" X.env (eval (.Name x p1) X.env) = eval (.Name x p1) X.env := by rfl) (hgl : Gl X "len" := by rfl)
    (hs : starEach [.Subscript (.Attribute (.Name x p1) "rows" p2) (.Name y p3) p4] X.env = [(false, eval (.Subscript (.Attribute (.Name x p1) "rows" p2) (.Name y p3) p4) X.env)] := by rfl) :
    PE X (.Call (.Name "len" p5) [.Subscript (.Attribute (.Name x p1) "rows" p2) (.Name y p3) p4] [] p6) (tSelf C fun _ _ m => .int ((m.row i).length : Nat)) :=
  weak (pe_callB call_len_seq hgl T.len PySem.boot_len (pa_cons (pe_dget hu (pe_fld (pv 0 hN hv hd hcd) hb) (pk hk hg hdy) (fun _ _ => rfl)) pa_nil hs)) fun σ H Q ⟨p, F, m, h0, R, q⟩ => rd_len (i := i) T R h1 h4 ix_c q h0
/-- len(self.held) -/
theorem se_count (T : Txt X.K X.mg C) (hN : X.N[0]? = some x := by rfl) (hv : Vis X.env.scope x := by first | exact Or.inl rfl | exact Or.inr (Or.inl rfl) | exact Or.inr (Or.inr rfl)) (hd : (x == ("__debug__" : Str)) = false := by decide)
    (hcd : (x == ("__classdict__" : Str)) = false := by decide) (hb : attributeBase (.Name x p1) "held" X.env (eval (.Name x p1) X.env) = eval (.Name x p1) X.env := by rfl) (hgl : Gl X "len" := by rfl)
    (hs : starEach [.Attribute (.Name x p1) "held" p2] X.env = [(false, eval (.Attribute (.Name x p1) "held" p2) X.env)] := by rfl) : PE X (.Call (.Name "len" p5) [.Attribute (.Name x p1) "held" p2] [] p6) (tSelf C fun _ _ m => .int (m.held.length : Nat)) :=
  weak (pe_callB call_lenD hgl T.len PySem.boot_len (pa_cons (se_held T hN hv hd hcd hb) pa_nil hs)) fun σ H Q ⟨p, F, m, h0, R, q⟩ => ⟨p, F, m, h0, R, F.dH, _, rfl, R.dh, by rw [enc_len]; exact q⟩
/-- self.rows[i], i a local -/
theorem se_rowv (j : Nat) {y : Str} (T : Txt X.K X.mg C) (hu : X.A.units + 1 < cLine) (hNy : X.N[j]? = some y := by rfl) (hvy : Vis X.env.scope y := by first | exact Or.inl rfl | exact Or.inr (Or.inl rfl) | exact Or.inr (Or.inr rfl)) (hdy : (y == ("__debug__" : Str)) = false := by decide)
    (hcy : (y == ("__classdict__" : Str)) = false := by decide)
    (hN : X.N[0]? = some x := by rfl) (hv : Vis X.env.scope x := by first | exact Or.inl rfl | exact Or.inr (Or.inl rfl) | exact Or.inr (Or.inr rfl)) (hd : (x == ("__debug__" : Str)) = false := by decide)
    (hcd : (x == ("__classdict__" : Str)) = false := by decide) (hb : attributeBase (.Name x p1) "rows" X.env (eval (.Name x p1) X.env) = eval (.Name x p1) X.env := by rfl) :
    PE X (.Subscript (.Attribute (.Name x p1) "rows" p2) (.Name y p3) p4) (tRowV C j) :=
  weak (pe_dget hu (pe_fld (pv 0 hN hv hd hcd) hb) (pv j hNy hvy hdy hcy) (fun _ _ => rfl)) fun σ H Q ⟨p, F, m, i, h0, hj, h1, h4, R, q⟩ => rd_row (i := i) T R h1 h4 (ix_v hj) q h0
theorem se_meth {nm : Str} {k : Nat} {ps : List Str} {sp : Sp} {e : Expr} {es : List Expr} {t : TA} {pl : Sem Bool} (T : Txt X.K X.mg C) (M : Mth X.prog X.w X.K X.mg X.base C nm k ps sp) (hr : Room k X.A) (ha : PA X (e :: es) t)
    (hn : (["most", "target", "rows", "held"] : List Str).contains nm = false := by decide +kernel)
    (hN : X.N[0]? = some x := by rfl) (hv : Vis X.env.scope x := by first | exact Or.inl rfl | exact Or.inr (Or.inl rfl) | exact Or.inr (Or.inr rfl)) (hd : (x == ("__debug__" : Str)) = false := by decide)
    (hcd : (x == ("__classdict__" : Str)) = false := by decide)
    (hst : starEach (e :: es) X.env = (false, eval e X.env) :: starEach es X.env := by rfl) (hpl : (backTo p3 (starEach es X.env)).any (·.1) = false := by rfl)
    (ht : eval (.Call (.Attribute (.Name x p1) nm p2) (e :: es) [] p3) X.env = (do
      let ov ← eval (.Name x p1) X.env
      standAt p2.atName
      let (f, first) ← holding [ov] (getMethod ov nm pl)
      callWith p3 f first (backTo p3 (starEach (e :: es) X.env)) (backToKw p3 (keywordEach [] X.env))) := by rfl) :
    PE X (.Call (.Attribute (.Name x p1) nm p2) (e :: es) [] p3) (tSelfM C sp t) := by
  obtain ⟨f, fd, G, b, m⟩ := M.ex
  exact weak (pe_meth (pv 0 hN hv hd hcd) T.cl m G hr b .nil pass0 ha hst hpl ht) fun σ H Q ⟨p, F, m, h0, R, q⟩ => rd_meth R q h0 hn
theorem se_meth0 {nm : Str} {k : Nat} {ps : List Str} {sp : Sp} {pl : Sem Bool} (T : Txt X.K X.mg C) (M : Mth X.prog X.w X.K X.mg X.base C nm k ps sp) (hr : Room k X.A)
    (hn : (["most", "target", "rows", "held"] : List Str).contains nm = false := by decide +kernel)
    (hN : X.N[0]? = some x := by rfl) (hv : Vis X.env.scope x := by first | exact Or.inl rfl | exact Or.inr (Or.inl rfl) | exact Or.inr (Or.inr rfl)) (hd : (x == ("__debug__" : Str)) = false := by decide)
    (hcd : (x == ("__classdict__" : Str)) = false := by decide)
    (ht : eval (.Call (.Attribute (.Name x p1) nm p2) [] [] p3) X.env = (do
      let ov ← eval (.Name x p1) X.env
      standAt p2.atName
      let (f, first) ← holding [ov] (getMethod ov nm pl)
      callWith p3 f first (backTo p3 (starEach [] X.env)) (backToKw p3 (keywordEach [] X.env))) := by rfl) :
    PE X (.Call (.Attribute (.Name x p1) nm p2) [] [] p3) (tSelfM C sp tNil) := by
  obtain ⟨f, fd, G, b, m⟩ := M.ex
  exact weak (pe_meth0 (pv 0 hN hv hd hcd) T.cl m G hr b .nil pass0 ht) fun σ H Q ⟨p, F, m, h0, R, q⟩ => rd_meth R q h0 hn
end
end Tw
end
section
set_option Elab.async false
set_option linter.all false
set_option maxRecDepth 100000
set_option maxHeartbeats 2000000
/-! place, take_out, move_to_frequent, let_go, let_go_and_keep_key -/
namespace Tw
open PySem PySem.Spec PyProof.Rows L2
def spPlace (C : Addr) : Sp := fun vs H Q _ => ∃ (p : Addr) (F : Ft) (m : M) (k : Int), vs = [.ref p, .int k] ∧ Rep C H p F m ∧ ∀ H', Same H H' → Q (.int (place m k)) H'
def spTake (C : Addr) : Sp := fun vs H Q _ => ∃ (p : Addr) (F : Ft) (m : M) (k : Int), vs = [.ref p, .int k] ∧ Rep C H p F m ∧ ¬ place m k = 0 ∧ ∀ H', Rep C H' p F (takeOut m k) → Kp p F H H' → Q .non H'
def spMove (C : Addr) : Sp := fun vs H Q _ => ∃ (p : Addr) (F : Ft) (m : M) (k : Int), vs = [.ref p, .int k] ∧ Rep C H p F m ∧ ¬ place m k = 0 ∧ m.r2.length ≤ 1000 ∧ ∀ H', Rep C H' p F (moveF m k) → Kp p F H H' → Q .non H'
def spLetGo (C : Addr) : Sp := fun vs H Q _ => ∃ (p : Addr) (F : Ft) (m : M) (i : Int) (e : Int × Int), vs = [.ref p, .int i] ∧ Rep C H p F m ∧ 1 ≤ i ∧ i ≤ 4 ∧ lastOf m i = some e ∧
  ∀ (l : Addr) (H' : Hp), H' l = some (.lst [.int e.1, .int e.2]) → ¬ In p F l → H l = none → Rep C H' p F (letGo m i e.1) → Kp p F H H' → Q (.ref l) H'
def spKeep (C : Addr) : Sp := fun vs H Q _ => ∃ (p : Addr) (F : Ft) (m : M) (i j : Int) (e : Int × Int), vs = [.ref p, .int i, .int j] ∧ Rep C H p F m ∧ 1 ≤ i ∧ i ≤ 4 ∧ 1 ≤ j ∧ j ≤ 4 ∧ lastOf m i = some e ∧ ((letGo m i e.1).row j).length ≤ 1000 ∧
  ∀ (l : Addr) (H' : Hp), H' l = some (.lst [.int e.1, .int e.2]) → ¬ In p F l → H l = none → Rep C H' p F (keep m i j e.1) → Kp p F H H' → Q (.ref l) H'
theorem flat_ints (ns : List Int) : (ns.map V.int).all flatV = true := by
  induction ns with
  | nil => rfl
  | cons n ns ih =>
    rw [List.map_cons, List.all_cons, ih] <;> rfl
theorem in_ints (k : Int) (ns : List Int) : inV (.int k) (ns.map V.int) = decide (k ∈ ns) := by
  unfold inV
  rw [List.any_map, Bool.eq_iff_iff, List.any_eq_true, decide_eq_true_iff]
  constructor
  · rintro ⟨x, hx, e⟩
    have e2 : x = k := by
      have e3 : eqV (.int x) (.int k) = true := e
      simpa [eqV] using e3
    rw [← e2]
    exact hx
  · intro h
    refine ⟨k, h, ?_⟩
    show eqV (.int k) (.int k) = true
    simp [eqV]
theorem place_le (m : M) (k : Int) : 0 ≤ place m k ∧ place m k ≤ 4 := by
  unfold place
  split
  · omega
  · split
    · omega
    · split
      · omega
      · split <;> omega
theorem place_mem {m : M} {k : Int} (h : ¬ place m k = 0) : k ∈ m.row (place m k) := by
  unfold place M.row at *
  by_cases c1 : k ∈ m.r1
  · simp only [c1, if_true]
  · by_cases c2 : k ∈ m.r2
    · simp [c1, c2]
    · by_cases c3 : k ∈ m.r3
      · simp [c1, c2, c3]
      · by_cases c4 : k ∈ m.r4
        · simp [c1, c2, c3, c4]
        · simp [c1, c2, c3, c4] at h
theorem setRow_held (m : M) (i : Int) (l : List Int) : (m.setRow i l).held = m.held := by
  unfold M.setRow
  split
  · rfl
  · split
    · rfl
    · split <;> rfl
theorem take_len (m : M) (k : Int) : ((takeOut m k).row 2).length ≤ m.r2.length := by
  unfold takeOut M.setRow
  have e : ∀ n : M, n.row 2 = n.r2 := fun _ => rfl
  rw [e]
  split
  · exact Nat.le_refl _
  · split
    · rename_i c
      show ((m.row (place m k)).erase k).length ≤ _
      rw [c]
      exact List.length_erase_le
    · split <;> exact Nat.le_refl _
theorem lastOf_spec {m : M} {i : Int} {e : Int × Int} (h : lastOf m i = some e) : (m.row i).getLast? = some e.1 ∧ look m.held e.1 = some e.2 := by
  unfold lastOf at h
  cases q : (m.row i).getLast? with
  | none =>
    rw [q] at h
    cases h
  | some k =>
    rw [q] at h
    cases z : look m.held k with
    | none =>
      have h : (look m.held k).map (fun v => (k, v)) = some e := h
      rw [z] at h
      cases h
    | some v =>
      have h : (look m.held k).map (fun v => (k, v)) = some e := h
      rw [z] at h
      cases h
      exact ⟨rfl, z⟩
section
variable {P : Program} {w : World} {K : PySem.W.Frag} {mg : Str → Option Value} {base : Heap}
theorem scPlace : FnScope ["self", "key", "place"] ["self", "key"] (defScope sPlace) := ⟨rfl, rfl, rfl, by decide +kernel, rfl, by decide +kernel, by decide +kernel⟩
theorem ok_place {f C : Addr} {fd : FuncData} (Fn : Fun K "place" "Cache.place" sPlace f fd) (T : Txt K mg C) : FnOk P w K mg base CX0 1 f fd ["self", "key"] (spPlace C) := by
  refine Fn.ok scPlace (fun vs H Q E h => ?_) (fun cdv A outer s H vs Q E hr h => ?_)
  · obtain ⟨p, F, m, k, rfl, _⟩ := h
    rfl
  · obtain ⟨p, F, m, k, rfl, R, kont⟩ := h
    have hu := hu_of hr
    refine ⟨_, pss_cons (ps_for PassesOwn.never rfl (pi_tup (pe_tup (pa_cons (pk T.k1) (pa_cons (pk T.k2) (pa_cons (pk T.k3) (pa_cons (pk T.k4) pa_nil)))))) (pg_name (i := 2) scPlace.nd rfl (Or.inl rfl))
        (pss_one (ps_if (pt_cmpR op_in_seq (pv 1) (pe_dget hu (pe_fld (pv 0) rfl) (pv 2) (fun _ _ => rfl)) (by with_unfolding_all rfl)) (pss_one (ps_ret (pv 2))) pss_nil)))
      (pss_one (ps_ret (pk T.k0))), ?_⟩
    refine ⟨(by show 4 ≤ sizeLine; decide), fun t ht => ?_⟩
    have s1 : Same H (upd H t (.tup [.int 1, .int 2, .int 3, .int 4])) := same_new ht
    generalize hH1 : upd H t (.tup [.int 1, .int 2, .int 3, .int 4]) = H1 at s1 ⊢
    have hT : H1 t = some (.tup [.int 1, .int 2, .int 3, .int 4]) := by rw [← hH1]; exact upd_same
    have R1 := R.same s1
    refine ⟨t, rfl, ⟨_, SqT.of hT⟩, for_tup (K := K) (a := t) (xs := [.int 1, .int 2, .int 3, .int 4]) (fun i σ H' => ∃ v : Option V, σ = [some (.ref p), some (.int k), v] ∧ H' = H1 ∧ ∀ j : Nat, j < i → ¬ k ∈ m.row ((j : Int) + 1))
      ⟨none, rfl, rfl, fun j hj => absurd hj (Nat.not_lt_zero _)⟩ (fun i σ H' _ ⟨_, _, e, _⟩ => by rw [e]; exact SqT.of hT) ?_ ?_⟩
    · rintro i x σ H' hi ⟨v, rfl, rfl, hno⟩
      obtain ⟨rfl, hi4⟩ : x = .int ((i : Int) + 1) ∧ i < 4 := by
        match i, hi with
        | 0, hi => exact ⟨(Option.some.inj hi).symm, by omega⟩
        | 1, hi => exact ⟨(Option.some.inj hi).symm, by omega⟩
        | 2, hi => exact ⟨(Option.some.inj hi).symm, by omega⟩
        | 3, hi => exact ⟨(Option.some.inj hi).symm, by omega⟩
        | i + 4, hi => simp at hi
      refine ⟨_, rfl, rd_row (i := (i : Int) + 1) T R1 (by omega) (by omega) (ix_v (by rfl)) ⟨_, _, rfl, .inl (SqL.of (R1.row _)), rfl, flat_ints _, _, rfl, ?_⟩⟩
      rw [if_neg Bool.false_ne_true, in_ints]
      refine ite2 (fun c => ?_) (fun c => ?_)
      · have c := of_decide_eq_true c
        refine ⟨_, rfl, ?_⟩
        have e : place m k = (i : Int) + 1 := by
          unfold place
          match i, hi4, hno, c with
          | 0, _, _, c => rw [if_pos (show k ∈ m.r1 from c)]; rfl
          | 1, _, hno, c => rw [if_neg (show ¬ k ∈ m.r1 from hno 0 (by omega)), if_pos (show k ∈ m.r2 from c)]; rfl
          | 2, _, hno, c => rw [if_neg (show ¬ k ∈ m.r1 from hno 0 (by omega)), if_neg (show ¬ k ∈ m.r2 from hno 1 (by omega)), if_pos (show k ∈ m.r3 from c)]; rfl
          | 3, _, hno, c => rw [if_neg (show ¬ k ∈ m.r1 from hno 0 (by omega)), if_neg (show ¬ k ∈ m.r2 from hno 1 (by omega)), if_neg (show ¬ k ∈ m.r3 from hno 2 (by omega)), if_pos (show k ∈ m.r4 from c)]; rfl
        have z := kont H' s1
        rw [e] at z
        exact z
      · refine ⟨_, rfl, rfl, fun j hj => ?_⟩
        by_cases q : j = i
        · rw [q]
          exact fun z => c (decide_eq_true z)
        · exact hno j (by omega)
    · rintro σ H' ⟨v, rfl, rfl, hno⟩
      have e : place m k = 0 := by
        unfold place
        rw [if_neg (show ¬ k ∈ m.r1 from hno 0 (by decide)), if_neg (show ¬ k ∈ m.r2 from hno 1 (by decide)), if_neg (show ¬ k ∈ m.r3 from hno 2 (by decide)), if_neg (show ¬ k ∈ m.r4 from hno 3 (by decide))]
      have z := kont H' s1
      rw [e] at z
      exact z
theorem scTake : FnScope ["self", "key"] ["self", "key"] (defScope sTake) := ⟨rfl, rfl, rfl, by decide +kernel, rfl, by decide +kernel, by decide +kernel⟩
theorem ok_take {f C : Addr} {fd : FuncData} (Fn : Fun K "take_out" "Cache.take_out" sTake f fd) (T : Txt K mg C) (M1 : Mth P w K mg base C "place" 1 ["self", "key"] (spPlace C)) : FnOk P w K mg base CX0 2 f fd ["self", "key"] (spTake C) := by
  obtain ⟨f1, fd1, G1, b1, m1⟩ := M1.ex
  refine Fn.ok scTake (fun vs H Q E h => ?_) (fun cdv A outer s H vs Q E hr h => ?_)
  · obtain ⟨p, F, m, k, rfl, _⟩ := h
    rfl
  · obtain ⟨p, F, m, k, rfl, R, hk, kont⟩ := h
    have hu := hu_of hr
    refine ⟨_, pss_one (ps_expr (pe_bm PySem.F.plainAttrs_list PySem.F.slot_list_remove PySem.F.type_list_remove mt_remove (pe_dget hu (pe_fld (pv 0) rfl) (pe_meth (pv 0) T.cl m1 G1 hr b1 .nil pass0 (pa_cons (pv 1) pa_nil)) (fun _ _ => rfl)) (pa_cons (pv 1) pa_nil))), ?_⟩
    have hp := place_le m k
    dsimp only [tDrop, tBM, tDGet]
    refine rd_rows T R ?_
    refine rd_meth R ?_
    refine ⟨_, rfl, p, F, m, k, rfl, R, fun H1 s1 => ?_⟩
    have R1 := R.same s1
    refine ⟨F.dR, _, rfl, R1.get (by omega) (by omega), .inl ⟨rfl, _, SqL.of (R1.row _)⟩, _, rfl, _, m.row (place m k), k, rfl, rfl, R1.row _, place_mem hk, ?_⟩
    exact kont _ (R1.setRow _ _) ((Kp.of s1).trans (kp_upd (Rep.in_at F p _)))
theorem scMove : FnScope ["self", "key"] ["self", "key"] (defScope sMove) := ⟨rfl, rfl, rfl, by decide +kernel, rfl, by decide +kernel, by decide +kernel⟩
theorem ok_move {f C : Addr} {fd : FuncData} (Fn : Fun K "move_to_frequent" "Cache.move_to_frequent" sMove f fd) (T : Txt K mg C) (M1 : Mth P w K mg base C "take_out" 2 ["self", "key"] (spTake C)) : FnOk P w K mg base CX0 3 f fd ["self", "key"] (spMove C) := by
  obtain ⟨f1, fd1, G1, b1, m1⟩ := M1.ex
  refine Fn.ok scMove (fun vs H Q E h => ?_) (fun cdv A outer s H vs Q E hr h => ?_)
  · obtain ⟨p, F, m, k, rfl, _⟩ := h
    rfl
  · obtain ⟨p, F, m, k, rfl, R, hk, h2, kont⟩ := h
    have hu := hu_of hr
    refine ⟨_, pss_cons (ps_expr (pe_meth (pv 0) T.cl m1 G1 hr b1 .nil pass0 (pa_cons (pv 1) pa_nil)))
      (pss_one (ps_expr (pe_bm PySem.F.plainAttrs_list PySem.F.slot_list_insert PySem.F.type_list_insert mt_insert0 (pe_dget hu (pe_fld (pv 0) rfl) (pk T.k2) (fun _ _ => rfl)) (pa_cons pe_int (pa_cons (pv 1) pa_nil))))), ?_⟩
    refine rd_meth R ?_
    refine ⟨_, rfl, p, F, m, k, rfl, R, hk, fun H1 R1 k1 => ?_⟩
    refine rd_row (i := 2) T R1 (by decide) (by decide) ix_c ?_
    have hl : ((takeOut m k).row 2).length ≤ m.r2.length := take_len m k
    refine ⟨.inl ⟨rfl, _, SqL.of (R1.row 2)⟩, _, rfl, _, _, _, rfl, rfl, R1.row 2, isz (by rw [List.length_map]; omega), ?_⟩
    exact kont _ (R1.setRow 2 (k :: (takeOut m k).row 2)) (k1.trans (kp_upd (Rep.in_at F p _)))
theorem scLetGo : FnScope ["self", "place", "key"] ["self", "place"] (defScope sLetGo) := ⟨rfl, rfl, rfl, by decide +kernel, rfl, by decide +kernel, by decide +kernel⟩
theorem ok_letGo {f C : Addr} {fd : FuncData} (Fn : Fun K "let_go" "Cache.let_go" sLetGo f fd) (T : Txt K mg C) : FnOk P w K mg base CX0 1 f fd ["self", "place"] (spLetGo C) := by
  refine Fn.ok scLetGo (fun vs H Q E h => ?_) (fun cdv A outer s H vs Q E hr h => ?_)
  · obtain ⟨p, F, m, i, e, rfl, _⟩ := h
    rfl
  · obtain ⟨p, F, m, i, e, rfl, R, i1, i4, hl, kont⟩ := h
    have hu := hu_of hr
    obtain ⟨h1, h2⟩ := lastOf_spec hl
    refine ⟨_, pss_cons (ps_set (i := 2) scLetGo.nd rfl (Or.inl rfl) (pe_bm0 PySem.F.plainAttrs_list PySem.F.slot_list_pop PySem.F.type_list_pop mt_pop (pe_dget hu (pe_fld (pv 0) rfl) (pv 1) (fun _ _ => rfl))))
      (pss_one (ps_ret (pe_lst (pa_cons (pv 2) (pa_cons (pe_dpop1 (pe_fld (pv 0) rfl) (pv 2) ⟨rfl, rfl, rfl, rfl⟩) pa_nil))))), ?_⟩
    refine rd_row (i := i) T R i1 i4 (ix_v (by rfl)) ?_
    have hy : ((m.row i).map V.int)[((m.row i).map V.int).length - 1]? = some (.int e.1) := by
      rw [List.length_map, List.getElem?_map, ← List.getLast?_eq_getElem?, h1] <;> rfl
    refine ⟨.inl ⟨rfl, _, SqL.of (R.row i)⟩, _, _, _, rfl, rfl, R.row i, hy, ?_⟩
    rw [← List.map_dropLast]
    have R1 := R.setRow i (m.row i).dropLast
    refine ⟨_, rfl, ?_⟩
    dsimp only [tCons, tDPop1]
    refine rd_held T R1 ?_
    have hh : (m.setRow i (m.row i).dropLast).held = m.held := setRow_held m i _
    refine ⟨F.dH, rfl, .inl ⟨_, .inl R1.dh⟩, _, rfl, _, Sum.inl e.1, .int e.2, R1.dh, rfl, ?_, ?_⟩
    · rw [hh, val_enc, h2] <;> rfl
    rw [hh, drop_enc]
    have R2 := R1.setHeld (hdrop m.held e.1)
    refine ⟨(by show 2 ≤ sizeLine; decide), fun l hl2 => ?_⟩
    have k2 : Kp p F H _ := (kp_upd (H := H) (o := .lst ((m.row i).dropLast.map V.int)) (Rep.in_at F p i)).trans (kp_upd (o := .dK (encH (hdrop m.held e.1))) (.inr (.inr (.inl rfl))))
    refine kont l _ upd_same (R2.fresh hl2) ?_ (R2.same (same_new hl2)) (k2.trans (Kp.of (same_new hl2)))
    have n1 := R2.fresh hl2
    have z := hl2
    rw [upd_ne (fun q => n1 (.inr (.inr (.inl q)))), upd_ne (fun q => n1 (by rw [q]; exact Rep.in_at F p i))] at z
    exact z
theorem scKeep : FnScope ["self", "place", "place_after", "left"] ["self", "place", "place_after"] (defScope sKeep) := ⟨rfl, rfl, rfl, by decide +kernel, rfl, by decide +kernel, by decide +kernel⟩
theorem ok_keep {f C : Addr} {fd : FuncData} (Fn : Fun K "let_go_and_keep_key" "Cache.let_go_and_keep_key" sKeep f fd) (T : Txt K mg C) (M1 : Mth P w K mg base C "let_go" 1 ["self", "place"] (spLetGo C)) : FnOk P w K mg base CX0 2 f fd ["self", "place", "place_after"] (spKeep C) := by
  obtain ⟨f1, fd1, G1, b1, m1⟩ := M1.ex
  refine Fn.ok scKeep (fun vs H Q E h => ?_) (fun cdv A outer s H vs Q E hr h => ?_)
  · obtain ⟨p, F, m, i, j, e, rfl, _⟩ := h
    rfl
  · obtain ⟨p, F, m, i, j, e, rfl, R, i1, i4, j1, j4, hl, hs, kont⟩ := h
    have hu := hu_of hr
    refine ⟨_, pss_cons (ps_set (i := 3) scKeep.nd rfl (Or.inl rfl) (pe_meth (pv 0) T.cl m1 G1 hr b1 .nil pass0 (pa_cons (pv 1) pa_nil)))
      (pss_cons (ps_expr (pe_bm PySem.F.plainAttrs_list PySem.F.slot_list_insert PySem.F.type_list_insert mt_insert0 (pe_dget hu (pe_fld (pv 0) rfl) (pv 2) (fun _ _ => rfl)) (pa_cons pe_int (pa_cons (pe_ix ix_list (pv 3) pe_int (fun _ _ => rfl)) pa_nil))))
      (pss_one (ps_ret (pv 3)))), ?_⟩
    refine rd_meth R ?_
    refine ⟨_, rfl, p, F, m, i, e, rfl, R, i1, i4, hl, fun l H1 hl1 nl fl R1 k1 => ?_⟩
    refine rd_row (i := j) T R1 j1 j4 (ix_v (by rfl)) ?_
    refine ⟨.inl ⟨rfl, _, SqL.of (R1.row j)⟩, _, rfl, l, _, _, .int e.1, rfl, rfl, SqL.of hl1, rfl, _, _, _, rfl, rfl, R1.row j, isz (by rw [List.length_map]; omega), ?_⟩
    refine ⟨_, rfl, ?_⟩
    refine kont l _ ?_ nl fl (R1.setRow j (e.1 :: (letGo m i e.1).row j)) (k1.trans (kp_upd (Rep.in_at F p _)))
    rw [upd_ne (fun q => nl (by rw [q]; exact Rep.in_at F p j))]
    exact hl1
end
end Tw
end
section
set_option Elab.async false
set_option linter.all false
set_option maxRecDepth 100000
set_option maxHeartbeats 2000000
/-! one_goes, make_room, grow_target, shrink_target, count_known, make_room_for_unknown, let_in -/
namespace Tw
open PySem PySem.Spec PyProof.Rows L2
def spOne (C : Addr) : Sp := fun vs H Q _ => ∃ (p : Addr) (F : Ft) (m : M) (pl : Int), vs = [.ref p, .int pl] ∧ Rep C H p F m ∧ CanGo m pl ∧ Small m ∧
  ∀ (l : Addr) (H' : Hp), H' l = some (.lst ((oneGoes m pl).2.map V.int)) → ¬ In p F l → H l = none → Rep C H' p F (oneGoes m pl).1 → Kp p F H H' → Q (.ref l) H'
def spRoom (C : Addr) : Sp := fun vs H Q _ => ∃ (p : Addr) (F : Ft) (m : M) (pl : Int), vs = [.ref p, .int pl] ∧ Rep C H p F m ∧ CanRoom m pl ∧ Small m ∧
  ∀ (l : Addr) (H' : Hp), H' l = some (.lst ((makeRoom m pl).2.map V.int)) → ¬ In p F l → H l = none → Rep C H' p F (makeRoom m pl).1 → Kp p F H H' → Q (.ref l) H'
def spGrow (C : Addr) : Sp := fun vs H Q _ => ∃ (p : Addr) (F : Ft) (m : M), vs = [.ref p] ∧ Rep C H p F m ∧ m.r3 ≠ [] ∧ Small m ∧ ∀ H' : Hp, Rep C H' p F (grow m) → Kp p F H H' → Q .non H'
def spFall (C : Addr) : Sp := fun vs H Q _ => ∃ (p : Addr) (F : Ft) (m : M), vs = [.ref p] ∧ Rep C H p F m ∧ m.r4 ≠ [] ∧ Small m ∧ ∀ H' : Hp, Rep C H' p F (fall m) → Kp p F H H' → Q .non H'
def spKnown (C : Addr) : Sp := fun vs H Q _ => ∃ (p : Addr) (F : Ft) (m : M), vs = [.ref p] ∧ Rep C H p F m ∧ ∀ H' : Hp, Same H H' → Q (.int (known m)) H'
def spNew (C : Addr) : Sp := fun vs H Q _ => ∃ (p : Addr) (F : Ft) (m : M), vs = [.ref p] ∧ Rep C H p F m ∧ CanNew m ∧ Small m ∧
  ∀ (l : Addr) (H' : Hp), H' l = some (.lst ((forNew m).2.map V.int)) → ¬ In p F l → H l = none → Rep C H' p F (forNew m).1 → Kp p F H H' → Q (.ref l) H'
def spLetIn (C : Addr) : Sp := fun vs H Q _ => ∃ (p : Addr) (F : Ft) (m : M) (k : Int), vs = [.ref p, .int k] ∧ Rep C H p F m ∧ CanIn m k ∧ Small m ∧
  ∀ (l : Addr) (H' : Hp), H' l = some (.lst ((letIn m k).2.map V.int)) → ¬ In p F l → H l = none → Rep C H' p F (letIn m k).1 → Kp p F H H' → Q (.ref l) H'
theorem isSome_ex {α : Type} {o : Option α} (h : o.isSome = true) : ∃ e, o = some e := Option.isSome_iff_exists.mp h
theorem letGo_row (m : M) (k : Int) : ((letGo m 1 k).row 3) = m.r3 ∧ ((letGo m 2 k).row 4) = m.r4 := ⟨rfl, rfl⟩
theorem oneGoes_1 {m : M} {pl : Int} {e : Int × Int} (c : goesCond m pl) (h : lastOf m 1 = some e) : oneGoes m pl = (keep m 1 3 e.1, [e.1, e.2]) := by
  unfold oneGoes
  rw [if_pos c, h]
theorem oneGoes_2 {m : M} {pl : Int} {e : Int × Int} (c : ¬ goesCond m pl) (h : lastOf m 2 = some e) : oneGoes m pl = (keep m 2 4 e.1, [e.1, e.2]) := by
  unfold oneGoes
  rw [if_neg c, h]
section
variable {P : Program} {w : World} {K : PySem.W.Frag} {mg : Str → Option Value} {base : Heap}
theorem scOne : FnScope ["self", "place", "count", "too_many"] ["self", "place"] (defScope sOne) := ⟨rfl, rfl, rfl, by decide +kernel, rfl, by decide +kernel, by decide +kernel⟩
theorem ok_one {f C : Addr} {fd : FuncData} (Fn : Fun K "one_goes" "Cache.one_goes" sOne f fd) (T : Txt K mg C) (M1 : Mth P w K mg base C "let_go_and_keep_key" 2 ["self", "place", "place_after"] (spKeep C)) : FnOk P w K mg base CX0 3 f fd ["self", "place"] (spOne C) := by
  obtain ⟨f1, fd1, G1, b1, m1⟩ := M1.ex
  refine Fn.ok scOne (fun vs H Q E h => ?_) (fun cdv A outer s H vs Q E hr h => ?_)
  · obtain ⟨p, F, m, pl, rfl, _⟩ := h
    rfl
  · obtain ⟨p, F, m, pl, rfl, R, can, sm, kont⟩ := h
    have hu := hu_of hr
    refine ⟨_, pss_cons (ps_set (i := 2) scOne.nd rfl (Or.inl rfl) (pe_callB call_len_seq (by rfl) T.len PySem.boot_len (pa_cons (pe_dget hu (pe_fld (pv 0) rfl) (pk T.k1) (fun _ _ => rfl)) pa_nil)))
      (pss_cons (ps_set (i := 3) scOne.nd rfl (Or.inl rfl) (pe_or (pe_cmpR op_gt (pv 2) (pe_fld (pv 0) rfl) (nomark _)) (pe_one (pe_and (pe_cmpR op_eq (pv 2) (pe_fld (pv 0) rfl) (nomark _)) (pe_one (pe_cmpR op_eq (pv 1) (pk T.k4) (nomark _)))))))
      (pss_cons (ps_if (PW.pt (pw_and (pt_cmpR op_gt (pv 2) pe_int (nomark _)) (pw_and1 (pt_val (pv 3)))))
        (pss_one (ps_ret (pe_meth (pv 0) T.cl m1 G1 hr b1 .nil pass0 (pa_cons (pk T.k1) (pa_cons (pk T.k3) pa_nil))))) pss_nil)
      (pss_one (ps_ret (pe_meth (pv 0) T.cl m1 G1 hr b1 .nil pass0 (pa_cons (pk T.k2) (pa_cons (pk T.k4) pa_nil))))))), ?_⟩
    dsimp only [tSeq, tAsg]
    refine rd_len (i := 1) T R (by decide) (by decide) ix_c ?_
    have er : m.row 1 = m.r1 := rfl
    rw [er]
    -- the last two statements, whatever too_many is
    have fin : ∀ b : Bool, (0 < m.r1.length → (b = true ↔ (m.target < (m.r1.length : Int) ∨ ((m.r1.length : Int) = m.target ∧ pl = 4)))) →
        (tSeq (tIfS (tAnd (tTest (tOp (rI0 fun i j => .bl (decide (j < i))) (tVar 2) (tC (.int 0)))) (tB (tVar 3))) (tRet (tMeth C "let_go_and_keep_key" (spKeep C) [] E0 (tVar 0) (tCons (tC (.int 1)) (tCons (tC (.int 3)) tNil)))) tNext)
          (tRet (tMeth C "let_go_and_keep_key" (spKeep C) [] E0 (tVar 0) (tCons (tC (.int 2)) (tCons (tC (.int 4)) tNil))))) { nx := fun _ H' => Q .non H', rt := Q } [some (.ref p), some (.int pl), some (.int (m.r1.length : Nat)), some (.bl b)] H := by
      intro b hb
      have last : ¬ goesCond m pl → tRet (tMeth C "let_go_and_keep_key" (spKeep C) [] E0 (tVar 0) (tCons (tC (.int 2)) (tCons (tC (.int 4)) tNil))) { nx := fun _ H' => Q .non H', rt := Q } [some (.ref p), some (.int pl), some (.int (m.r1.length : Nat)), some (.bl b)] H := fun c => by
        obtain ⟨e, he⟩ := isSome_ex (can.2 c)
        try dsimp only [tRet]
        refine rd_meth R ?_
        refine ⟨p, F, m, 2, 4, e, rfl, R, by decide, by decide, by decide, by decide, he, sm.s4, fun l H1 hl nl fl R1 k1 => ?_⟩
        have q := oneGoes_2 c he
        exact kont l H1 (by rw [q]; exact hl) nl fl (by rw [q]; exact R1) k1
      refine ⟨_, rfl, _, _, rfl, rfl, _, rfl, ?_⟩
      refine ite2 (fun c => ?_) (fun c => ?_)
      · have c0 : (0 : Int) < (m.r1.length : Int) := of_decide_eq_true c
        have c1 : 0 < m.r1.length := by omega
        refine ⟨_, rfl, _, rfl, ?_⟩
        refine ite2 (fun c2 => ?_) (fun c2 => ?_)
        · have c : goesCond m pl := ⟨c1, (hb c1).mp c2⟩
          obtain ⟨e, he⟩ := isSome_ex (can.1 c)
          try dsimp only [tRet]
          refine rd_meth R ?_
          refine ⟨p, F, m, 1, 3, e, rfl, R, by decide, by decide, by decide, by decide, he, sm.s3, fun l H1 hl nl fl R1 k1 => ?_⟩
          have q := oneGoes_1 c he
          exact kont l H1 (by rw [q]; exact hl) nl fl (by rw [q]; exact R1) k1
        · exact last fun z => c2 ((hb c1).mpr z.2)
      · refine last fun z => c (decide_eq_true ?_)
        have := z.1
        omega
    -- too_many
    refine ⟨_, rfl, ?_⟩
    refine rd_target T R ?_
    refine ⟨_, _, rfl, rfl, _, rfl, ?_⟩
    refine ite2 (fun c => ?_) (fun c => ?_)
    · have c := of_decide_eq_true c
      exact fin true fun _ => ⟨fun _ => .inl c, fun _ => rfl⟩
    · have c : ¬ m.target < (m.r1.length : Int) := fun z => c (decide_eq_true z)
      refine ⟨_, rfl, ?_⟩
      refine rd_target T R ?_
      refine ⟨rfl, _, rfl, ?_⟩
      refine ite2 (fun c2 => ?_) (fun c2 => ?_)
      · have c2 : V.int (m.r1.length : Nat) = V.int m.target := of_decide_eq_true c2
        have c2 : (m.r1.length : Int) = m.target := by injection c2
        refine ⟨_, rfl, rfl, ?_⟩
        refine fin _ fun _ => ?_
        rw [decide_eq_true_iff]
        constructor
        · intro z
          injection z with z
          exact .inr ⟨c2, z⟩
        · rintro (z | z)
          · exact absurd z c
          · rw [z.2]
      · refine fin false fun _ => ⟨fun z => (by cases z), ?_⟩
        rintro (z | z)
        · exact absurd z c
        · exact absurd (decide_eq_true (by rw [z.1])) c2
theorem scRoom : FnScope ["self", "place"] ["self", "place"] (defScope sRoom) := ⟨rfl, rfl, rfl, by decide +kernel, rfl, by decide +kernel, by decide +kernel⟩
theorem ok_room {f C : Addr} {fd : FuncData} (Fn : Fun K "make_room" "Cache.make_room" sRoom f fd) (T : Txt K mg C) (M1 : Mth P w K mg base C "one_goes" 3 ["self", "place"] (spOne C)) : FnOk P w K mg base CX0 4 f fd ["self", "place"] (spRoom C) := by
  obtain ⟨f1, fd1, G1, b1, m1⟩ := M1.ex
  refine Fn.ok scRoom (fun vs H Q E h => ?_) (fun cdv A outer s H vs Q E hr h => ?_)
  · obtain ⟨p, F, m, pl, rfl, _⟩ := h
    rfl
  · obtain ⟨p, F, m, pl, rfl, R, can, sm, kont⟩ := h
    have hu := hu_of hr
    refine ⟨_, pss_cons (ps_if (pt_cmpR op_lt (pe_callB call_lenD (by rfl) T.len PySem.boot_len (pa_cons (pe_fld (pv 0) rfl) pa_nil)) (pe_fld (pv 0) rfl) (nomark _)) (pss_one (ps_ret (pe_lst pa_nil))) pss_nil)
      (pss_one (ps_ret (pe_meth (pv 0) T.cl m1 G1 hr b1 .nil pass0 (pa_cons (pv 1) pa_nil)))), ?_⟩
    dsimp only [tSeq, tIfS, tTest, tOp, tCB, tCons]
    refine rd_held T R ?_
    refine ⟨F.dH, _, rfl, R.dh, ?_⟩
    refine rd_most T R ?_
    refine ⟨_, _, rfl, rfl, _, rfl, ?_⟩
    rw [enc_len]
    refine ite2 (fun c => ?_) (fun c => ?_)
    · have c := of_decide_eq_true c
      refine ⟨Nat.zero_le _, fun l hl => ?_⟩
      have q : makeRoom m pl = (m, []) := by
        unfold makeRoom
        rw [if_pos c]
      exact kont l _ (by rw [q]; exact upd_same) (R.fresh hl) hl (by rw [q]; exact R.same (same_new hl)) (Kp.of (same_new hl))
    · have c : ¬ (m.held.length : Int) < m.most := fun z => c (decide_eq_true z)
      try dsimp only [tRet]
      refine rd_meth R ?_
      have q : makeRoom m pl = oneGoes m pl := by
        unfold makeRoom
        rw [if_neg c]
      refine ⟨_, rfl, p, F, m, pl, rfl, R, can c, sm, fun l H1 hl nl fl R1 k1 => ?_⟩
      exact kont l H1 (by rw [q]; exact hl) nl fl (by rw [q]; exact R1) k1
end
end Tw
end
section
set_option Elab.async false
set_option linter.all false
set_option maxRecDepth 100000
set_option maxHeartbeats 2000000
namespace Tw
open PySem PySem.Spec PyProof.Rows L2
theorem len_pos {α : Type} {l : List α} (h : l ≠ []) : 0 < l.length := List.length_pos_iff.mpr h
section
variable {P : Program} {w : World} {K : PySem.W.Frag} {mg : Str → Option Value} {base : Heap}
theorem scGrow : FnScope ["self", "step"] ["self"] (defScope sGrow) := ⟨rfl, rfl, rfl, by decide +kernel, rfl, by decide +kernel, by decide +kernel⟩
theorem ok_grow {f C : Addr} {fd : FuncData} (Fn : Fun K "grow_target" "Cache.grow_target" sGrow f fd) (T : Txt K mg C) : FnOk P w K mg base CX0 1 f fd ["self"] (spGrow C) := by
  refine Fn.ok scGrow (fun vs H Q E h => ?_) (fun cdv A outer s H vs Q E hr h => ?_)
  · obtain ⟨p, F, m, rfl, _⟩ := h
    rfl
  · obtain ⟨p, F, m, rfl, R, h3, sm, kont⟩ := h
    have hu := hu_of hr
    refine ⟨_, pss_cons (ps_set (i := 1) scGrow.nd rfl (Or.inl rfl) (pe_callB (call_max2 rfl) (by rfl) T.max boot_max (pa_cons pe_int (pa_cons (pe_op op_fdiv (se_len T hu T.k4 (by decide) (by decide)) (se_len T hu T.k3 (by decide) (by decide))) pa_nil))))
      (pss_one (ps_fld (pv 0) (pe_callB (call_min2 rfl) (by rfl) T.min boot_min (pa_cons (se_most T) (pa_cons (pe_op op_add (se_target T) (pv 1)) pa_nil))) rfl)), ?_⟩
    have l3 := len_pos h3
    have s3 := sm.s3
    refine ⟨p, F, m, rfl, R, p, F, m, rfl, R, _, _, rfl, rfl, ⟨?_, ?_⟩, _, _, rfl, ?_⟩
    · show (0 : Int) < (m.r3.length : Int)
      omega
    · show (m.r3.length : Int) < 1073741824
      omega
    obtain ⟨dx, hp⟩ := R.ob
    refine ⟨p, F, m, rfl, R, p, F, m, rfl, R, _, rfl, _, _, rfl, rfl, _, _, rfl, _, rfl, p, C, dx, _, rfl, hp, T.cl, T.nT, (by show 4 < 1000; decide), ?_⟩
    rw [fl_put_target]
    exact kont _ R.setObj (kp_upd (.inl rfl))
theorem scFall : FnScope ["self", "step"] ["self"] (defScope sFall) := ⟨rfl, rfl, rfl, by decide +kernel, rfl, by decide +kernel, by decide +kernel⟩
theorem ok_fall {f C : Addr} {fd : FuncData} (Fn : Fun K "shrink_target" "Cache.shrink_target" sFall f fd) (T : Txt K mg C) : FnOk P w K mg base CX0 1 f fd ["self"] (spFall C) := by
  refine Fn.ok scFall (fun vs H Q E h => ?_) (fun cdv A outer s H vs Q E hr h => ?_)
  · obtain ⟨p, F, m, rfl, _⟩ := h
    rfl
  · obtain ⟨p, F, m, rfl, R, h3, sm, kont⟩ := h
    have hu := hu_of hr
    refine ⟨_, pss_cons (ps_set (i := 1) scFall.nd rfl (Or.inl rfl) (pe_callB (call_max2 rfl) (by rfl) T.max boot_max (pa_cons pe_int (pa_cons (pe_op op_fdiv (se_len T hu T.k3 (by decide) (by decide)) (se_len T hu T.k4 (by decide) (by decide))) pa_nil))))
      (pss_one (ps_fld (pv 0) (pe_callB (call_max2 rfl) (by rfl) T.max boot_max (pa_cons pe_int (pa_cons (pe_op op_sub (se_target T) (pv 1)) pa_nil))) rfl)), ?_⟩
    have l3 := len_pos h3
    have s3 := sm.s4
    refine ⟨p, F, m, rfl, R, p, F, m, rfl, R, _, _, rfl, rfl, ⟨?_, ?_⟩, _, _, rfl, ?_⟩
    · show (0 : Int) < (m.r4.length : Int)
      omega
    · show (m.r4.length : Int) < 1073741824
      omega
    obtain ⟨dx, hp⟩ := R.ob
    refine ⟨p, F, m, rfl, R, _, rfl, _, _, rfl, rfl, _, _, rfl, _, rfl, p, C, dx, _, rfl, hp, T.cl, T.nT, (by show 4 < 1000; decide), ?_⟩
    rw [fl_put_target]
    exact kont _ R.setObj (kp_upd (.inl rfl))
end
end Tw
end
section
set_option Elab.async false
set_option linter.all false
set_option maxRecDepth 100000
set_option maxHeartbeats 2000000
/-! row_lengths, count_known -/
namespace Tw
open PySem PySem.Spec PyProof.Rows L2
def spLens (C : Addr) : Sp := fun vs H Q _ => ∃ (p : Addr) (F : Ft) (m : M), vs = [.ref p] ∧ Rep C H p F m ∧
  ∀ (l : Addr) (H' : Hp), H' l = some (.lst ((lens4 m).map V.int)) → H l = none → Same H H' → Q (.ref l) H'
section
variable {P : Program} {w : World} {K : PySem.W.Frag} {mg : Str → Option Value} {base : Heap}
theorem scLens : FnScope ["self", "place"] ["self"] (defScope sLens) := ⟨rfl, rfl, rfl, by decide +kernel, rfl, by decide +kernel, by decide +kernel⟩
theorem ok_lens {f C : Addr} {fd : FuncData} (Fn : Fun K "row_lengths" "Cache.row_lengths" sLens f fd) (T : Txt K mg C) : FnOk P w K mg base CX0 1 f fd ["self"] (spLens C) := by
  refine Fn.ok scLens (fun vs H Q E h => ?_) (fun cdv A outer s H vs Q E hr h => ?_)
  · obtain ⟨p, F, m, rfl, _⟩ := h
    rfl
  · obtain ⟨p, F, m, rfl, R, kont⟩ := h
    have hu := hu_of hr
    refine ⟨_, pss_one (ps_ret (pe_lc (own := [("place", 1)]) (te := tCB (fun xs H Q => ∃ p ys, xs = [V.ref p] ∧ (SqL K H p ys ∨ SqT K H p ys) ∧ Q (V.int (ys.length : Nat)) H) (tCons (tDGet (tFld K (tVar 0) "rows") (tVar 1)) tNil)) rfl scLens.nd
      (pi_tup (pe_tup (pa_cons (pk T.k1) (pa_cons (pk T.k2) (pa_cons (pk T.k3) (pa_cons (pk T.k4) pa_nil)))))) (show BlkOk ["self", "place"] (defScope sLens) _ _ from blkOk_by (by decide +kernel))
      (fun _ _ _ _ _ => pg_name (i := 1) scLens.nd rfl (Or.inl rfl)) (fun _ _ _ _ _ => pts_nil) (fun _ _ _ _ _ => pe_callB call_len_seq (by rfl) T.len PySem.boot_len (pa_cons (pe_dget hu (pe_fld (pv 0) rfl) (pv 1) (fun _ _ => rfl)) pa_nil)))), ?_⟩
    refine ⟨(by show 4 ≤ sizeLine; decide), fun t ht => ?_⟩
    have s1 : Same H (upd H t (.tup [.int 1, .int 2, .int 3, .int 4])) := same_new ht
    generalize hH1 : upd H t (.tup [.int 1, .int 2, .int 3, .int 4]) = H1 at s1 ⊢
    have hT : H1 t = some (.tup [.int 1, .int 2, .int 3, .int 4]) := by rw [← hH1]; exact upd_same
    refine ⟨t, rfl, ⟨_, SqT.of hT⟩, fun D fD => ?_⟩
    have nD : ∀ b o, H1 b = some o → b ≠ D := fun b o e => ne_of_none e fD
    refine lc_tup (K := K) (a := t) (xs := [.int 1, .int 2, .int 3, .int 4]) (fun i H' => H' D = some (.lst (((lens4 m).take i).map V.int)) ∧ Same H1 H')
      ⟨upd_same, same_new fD⟩ (fun i H' _ ⟨_, s⟩ => SqT.of (s _ _ hT)) ?_ ?_
    · rintro i x H' hi ⟨hD', sm⟩
      have hx : ∃ j : Int, x = .int j ∧ 1 ≤ j ∧ j ≤ 4 ∧ i < 4 ∧ (lens4 m)[i]? = some ((m.row j).length : Int) := by
        match i, hi with
        | 0, hi => exact ⟨1, (Option.some.inj hi).symm, by omega, by omega, by omega, rfl⟩
        | 1, hi => exact ⟨2, (Option.some.inj hi).symm, by omega, by omega, by omega, rfl⟩
        | 2, hi => exact ⟨3, (Option.some.inj hi).symm, by omega, by omega, by omega, rfl⟩
        | 3, hi => exact ⟨4, (Option.some.inj hi).symm, by omega, by omega, by omega, rfl⟩
        | i + 4, hi => simp at hi
      obtain ⟨j, rfl, j1, j4, hi4, hlen⟩ := hx
      refine ⟨rfl, ?_⟩
      dsimp only [tYes]
      rw [if_pos rfl]
      refine rd_len (i := j) T (R.same (s1.trans sm)) j1 j4 (ix_v (by rfl)) ⟨_, hD', ?_, ?_, ?_⟩
      · rw [List.length_map, List.length_take]
        exact Nat.lt_of_le_of_lt (Nat.min_le_left _ _) (isz (by omega))
      · rw [upd_same]
        obtain ⟨hlt, he⟩ := List.getElem?_eq_some_iff.mp hlen
        rw [List.take_succ_eq_append_getElem hlt, List.map_append, he]
        rfl
      · intro b o e
        rw [upd_ne (nD b o e)]
        exact sm b o e
    · rintro H' ⟨hD', sm⟩
      exact kont D H' hD' (s1.free fD) (s1.trans sm)
theorem scKnown : FnScope ["self"] ["self"] (defScope sKnown) := ⟨rfl, rfl, rfl, by decide +kernel, rfl, by decide +kernel, by decide +kernel⟩
theorem ok_known {f C : Addr} {fd : FuncData} (Fn : Fun K "count_known" "Cache.count_known" sKnown f fd) (T : Txt K mg C) (M1 : Mth P w K mg base C "row_lengths" 1 ["self"] (spLens C)) : FnOk P w K mg base CX0 2 f fd ["self"] (spKnown C) := by
  refine Fn.ok scKnown (fun vs H Q E h => ?_) (fun cdv A outer s H vs Q E hr h => ?_)
  · obtain ⟨p, F, m, rfl, _⟩ := h
    rfl
  · obtain ⟨p, F, m, rfl, R, kont⟩ := h
    refine ⟨_, pss_one (ps_ret (pe_callB (cr_sum rfl) (by rfl) T.sum boot_sum (pa_cons (se_meth0 T M1 hr) pa_nil))), ?_⟩
    refine ⟨p, F, m, rfl, R, p, F, m, rfl, R, fun l H' hl fl s1 => ⟨l, lens4 m, rfl, SqL.of hl, ?_⟩⟩
    have e : (lens4 m).sum = known m := by
      unfold known lens4
      simp only [List.sum_cons, List.sum_nil]
      omega
    rw [e]
    exact kont H' s1
end
end Tw
end
section
set_option Elab.async false
set_option linter.all false
set_option maxRecDepth 100000
set_option maxHeartbeats 2000000
namespace Tw
open PySem PySem.Spec PyProof.Rows L2
theorem kp_free {p : Addr} {F : Ft} {H H1 : Hp} {l : Addr} (k : Kp p F H H1) (h : H1 l = none) (n : ¬ In p F l) : H l = none := by
  cases q : H l with
  | none => rfl
  | some o =>
    rw [k l o q n] at h
    cases h
theorem last_map {l : List Int} (h : l ≠ []) : ∃ y, (l.map V.int)[(l.map V.int).length - 1]? = some y := by
  rw [← List.getLast?_eq_getElem?]
  exact ⟨_, List.getLast?_eq_some_getLast (by simpa using h)⟩
theorem vint {a b : Int} : (decide (V.int a = V.int b) = true) ↔ a = b := by
  rw [decide_eq_true_iff]
  exact ⟨fun z => by injection z, fun z => by rw [z]⟩
section
variable {P : Program} {w : World} {K : PySem.W.Frag} {mg : Str → Option Value} {base : Heap}
theorem scNew : FnScope ["self", "left_recent"] ["self"] (defScope sNew) := ⟨rfl, rfl, rfl, by decide +kernel, rfl, by decide +kernel, by decide +kernel⟩
theorem ok_new {f C : Addr} {fd : FuncData} (Fn : Fun K "make_room_for_unknown" "Cache.make_room_for_unknown" sNew f fd) (T : Txt K mg C) (M1 : Mth P w K mg base C "let_go" 1 ["self", "place"] (spLetGo C)) (M2 : Mth P w K mg base C "count_known" 2 ["self"] (spKnown C))
    (M3 : Mth P w K mg base C "make_room" 4 ["self", "place"] (spRoom C)) : FnOk P w K mg base CX0 5 f fd ["self"] (spNew C) := by
  refine Fn.ok scNew (fun vs H Q E h => ?_) (fun cdv A outer s H vs Q E hr h => ?_)
  · obtain ⟨p, F, m, rfl, _⟩ := h
    rfl
  · obtain ⟨p, F, m, rfl, R, can, sm, kont⟩ := h
    have hu := hu_of hr
    have hr1 := hr.mono (show 1 ≤ 4 by decide)
    refine ⟨_, pss_cons (ps_set (i := 1) scNew.nd rfl (Or.inl rfl) (se_row T hu T.k3 (by decide) (by decide)))
      (pss_cons (ps_if (pt_cmpR op_eq (pe_op op_add (se_len T hu T.k1 (by decide) (by decide)) (pe_callB call_len_seq (by rfl) T.len PySem.boot_len (pa_cons (pv 1) pa_nil))) (se_most T) (nomark _))
        (pss_cons (ps_if (pt_cmpR op_eq (pe_callB call_len_seq (by rfl) T.len PySem.boot_len (pa_cons (pv 1) pa_nil)) pe_int (nomark _)) (pss_one (ps_ret (se_meth T M1 hr1 (pa_cons (pk T.k1) pa_nil)))) pss_nil)
          (pss_one (ps_expr (pe_bm0 PySem.F.plainAttrs_list PySem.F.slot_list_pop PySem.F.type_list_pop mt_pop (pv 1)))))
        (pss_one (ps_if (pt_cmpR op_eq (se_meth0 T M2 (hr.mono (by decide))) (pe_op op_mul pe_int (se_most T)) (nomark _))
          (pss_one (ps_expr (pe_bm0 PySem.F.plainAttrs_list PySem.F.slot_list_pop PySem.F.type_list_pop mt_pop (se_row T hu T.k4 (by decide) (by decide))))) pss_nil)))
      (pss_one (ps_ret (se_meth T M3 hr (pa_cons (pk T.k0) pa_nil))))), ?_⟩
    have el : ((m.row 3).map V.int).length = m.r3.length := List.length_map ..
    -- the last statement
    have fin : ∀ (n : M) (H1 : Hp), Rep C H1 p F n → Kp p F H H1 → CanRoom n 0 → Small n → forNew m = makeRoom n 0 →
        (tRet (tSelfM C (spRoom C) (tCons (tC (.int 0)) tNil))) { nx := fun _ H' => Q .non H', rt := Q } [some (.ref p), some (.ref (F.at 3))] H1 := by
      intro n H1 R1 k1 cr sn e
      refine ⟨p, F, n, rfl, R1, p, F, n, 0, rfl, R1, cr, sn, fun l H2 hl nl fl R2 k2 => ?_⟩
      exact kont l H2 (by rw [e]; exact hl) nl (kp_free k1 fl nl) (by rw [e]; exact R2) (k1.trans k2)
    refine ⟨p, F, m, rfl, R, ?_⟩
    refine ⟨p, F, m, rfl, R, _, rfl, _, _, rfl, .inl (SqL.of (R.row 3)), _, _, rfl, rfl, p, F, m, rfl, R, rfl, _, rfl, ?_⟩
    rw [el]
    refine ite2 (fun c => ?_) (fun c => ?_)
    · have c : (m.r1.length : Int) + (m.r3.length : Int) = m.most := vint.mp c
      refine ⟨_, rfl, _, _, rfl, .inl (SqL.of (R.row 3)), rfl, _, rfl, ?_⟩
      rw [el]
      refine ite2 (fun c2 => ?_) (fun c2 => ?_)
      · have c2 : (m.r3.length : Int) = 0 := vint.mp c2
        have c2 : m.r3.length = 0 := by omega
        obtain ⟨e, he⟩ := isSome_ex (can.a c c2)
        have q : forNew m = (letGo m 1 e.1, [e.1, e.2]) := by
          unfold forNew
          rw [if_pos c, if_pos c2, he]
        refine ⟨p, F, m, rfl, R, p, F, m, 1, e, rfl, R, by decide, by decide, he, fun l H1 hl nl fl R1 k1 => ?_⟩
        exact kont l H1 (by rw [q]; exact hl) nl fl (by rw [q]; exact R1) k1
      · have c2 : ¬ m.r3.length = 0 := fun z => c2 (vint.mpr (by omega))
        have ne : m.r3 ≠ [] := fun z => c2 (by rw [z]; rfl)
        obtain ⟨y, hy⟩ := last_map (l := m.row 3) ne
        refine ⟨_, rfl, .inl ⟨rfl, _, SqL.of (R.row 3)⟩, _, _, _, rfl, rfl, R.row 3, hy, ?_⟩
        rw [← List.map_dropLast]
        refine fin (m.setRow 3 m.r3.dropLast) _ (R.setRow 3 m.r3.dropLast) (kp_upd (Rep.in_at F p 3)) (can.b c c2) ⟨sm.s1, sm.s2, ?_, sm.s4, sm.sh⟩ ?_
        · show m.r3.dropLast.length ≤ 1000
          rw [List.length_dropLast]
          have := sm.s3
          omega
        · unfold forNew
          rw [if_pos c, if_neg c2]
    · have c : ¬ (m.r1.length : Int) + (m.r3.length : Int) = m.most := fun z => c (vint.mpr z)
      refine ⟨p, F, m, rfl, R, p, F, m, rfl, R, fun H1 s1 => ?_⟩
      have R1 := R.same s1
      refine ⟨p, F, m, rfl, R1, _, _, rfl, rfl, .inl ⟨by decide, by decide⟩, rfl, _, rfl, ?_⟩
      refine ite2 (fun c2 => ?_) (fun c2 => ?_)
      · have c2 : known m = 2 * m.most := vint.mp c2
        obtain ⟨ne, cr⟩ := can.c c c2
        obtain ⟨y, hy⟩ := last_map (l := m.row 4) ne
        refine ⟨p, F, m, rfl, R1, .inl ⟨rfl, _, SqL.of (R1.row 4)⟩, _, _, _, rfl, rfl, R1.row 4, hy, ?_⟩
        rw [← List.map_dropLast]
        refine fin (m.setRow 4 m.r4.dropLast) _ (R1.setRow 4 m.r4.dropLast) ((Kp.of s1).trans (kp_upd (Rep.in_at F p 4))) cr ⟨sm.s1, sm.s2, sm.s3, ?_, sm.sh⟩ ?_
        · show m.r4.dropLast.length ≤ 1000
          rw [List.length_dropLast]
          have := sm.s4
          omega
        · unfold forNew
          rw [if_neg c, if_pos c2]
      · have c2 : ¬ known m = 2 * m.most := fun z => c2 (vint.mpr z)
        refine fin m H1 R1 (Kp.of s1) (can.d c c2) sm ?_
        unfold forNew
        rw [if_neg c, if_neg c2]
theorem scLetIn : FnScope ["self", "key", "place", "left"] ["self", "key"] (defScope sLetIn) := ⟨rfl, rfl, rfl, by decide +kernel, rfl, by decide +kernel, by decide +kernel⟩
theorem ok_letIn {f C : Addr} {fd : FuncData} (Fn : Fun K "let_in" "Cache.let_in" sLetIn f fd) (T : Txt K mg C) (M1 : Mth P w K mg base C "place" 1 ["self", "key"] (spPlace C)) (M2 : Mth P w K mg base C "make_room_for_unknown" 5 ["self"] (spNew C))
    (M3 : Mth P w K mg base C "grow_target" 1 ["self"] (spGrow C)) (M4 : Mth P w K mg base C "shrink_target" 1 ["self"] (spFall C)) (M5 : Mth P w K mg base C "make_room" 4 ["self", "place"] (spRoom C)) (M6 : Mth P w K mg base C "move_to_frequent" 3 ["self", "key"] (spMove C)) :
    FnOk P w K mg base CX0 6 f fd ["self", "key"] (spLetIn C) := by
  refine Fn.ok scLetIn (fun vs H Q E h => ?_) (fun cdv A outer s H vs Q E hr h => ?_)
  · obtain ⟨p, F, m, k, rfl, _⟩ := h
    rfl
  · obtain ⟨p, F, m, k, rfl, R, can, sm, kont⟩ := h
    have hu := hu_of hr
    have hr1 := hr.mono (show 1 ≤ 5 by decide)
    have hr3 := hr.mono (show 3 ≤ 5 by decide)
    have hr4 := hr.mono (show 4 ≤ 5 by decide)
    refine ⟨_, pss_cons (ps_set (i := 2) scLetIn.nd rfl (Or.inl rfl) (se_meth T M1 hr1 (pa_cons (pv 1) pa_nil)))
      (pss_cons (ps_if (pt_cmpR op_eq (pv 2) (pk T.k0) (nomark _))
        (pss_cons (ps_set (i := 3) scLetIn.nd rfl (Or.inl rfl) (se_meth0 T M2 hr))
        (pss_cons (ps_expr (pe_bm PySem.F.plainAttrs_list PySem.F.slot_list_insert PySem.F.type_list_insert mt_insert0 (se_row T hu T.k1 (by decide) (by decide)) (pa_cons pe_int (pa_cons (pv 1) pa_nil))))
        (pss_one (ps_ret (pv 3))))) pss_nil)
      (pss_cons (ps_if (pt_cmpR op_eq (pv 2) (pk T.k3) (nomark _)) (pss_one (ps_expr (se_meth0 T M3 hr1))) (pss_one (ps_expr (se_meth0 T M4 hr1))))
      (pss_cons (ps_set (i := 3) scLetIn.nd rfl (Or.inl rfl) (se_meth T M5 hr4 (pa_cons (pv 2) pa_nil)))
      (pss_cons (ps_expr (se_meth T M6 hr3 (pa_cons (pv 1) pa_nil)))
      (pss_one (ps_ret (pv 3))))))), ?_⟩
    refine ⟨p, F, m, rfl, R, _, rfl, p, F, m, k, rfl, R, fun H1 s1 => ?_⟩
    have R1 := R.same s1
    have k1 : Kp p F H H1 := Kp.of s1
    -- the last three statements
    have fin : ∀ (n : M) (H2 : Hp), Rep C H2 p F n → Kp p F H H2 → CanRoom n (place m k) → Small n → Small (makeRoom n (place m k)).1 → ¬ place (makeRoom n (place m k)).1 k = 0 → letIn m k = (moveF (makeRoom n (place m k)).1 k, (makeRoom n (place m k)).2) →
        (tSeq (tAsg (tSelfM C (spRoom C) (tCons (tVar 2) tNil)) (gName 3)) (tSeq (tDrop (tSelfM C (spMove C) (tCons (tVar 1) tNil))) (tRet (tVar 3)))) { nx := fun _ H' => Q .non H', rt := Q } [some (.ref p), some (.int k), some (.int (place m k)), none] H2 := by
      intro n H2 R2 k2 cr sn sr np e
      refine ⟨p, F, n, rfl, R2, _, rfl, p, F, n, place m k, rfl, R2, cr, sn, fun l H3 hl nl fl R3 k3 => ?_⟩
      refine ⟨p, F, _, rfl, R3, _, rfl, p, F, _, k, rfl, R3, np, sr.s2, fun H4 R4 k4 => ?_⟩
      refine ⟨_, rfl, ?_⟩
      exact kont l H4 (by rw [e]; exact k4 l _ hl nl) nl (kp_free k2 fl nl) (by rw [e]; exact R4) ((k2.trans k3).trans k4)
    refine ⟨_, rfl, rfl, _, rfl, ?_⟩
    refine ite2 (fun c => ?_) (fun c => ?_)
    · have c : place m k = 0 := vint.mp c
      obtain ⟨cn, sn⟩ := can.a c
      refine ⟨p, F, m, rfl, R1, p, F, m, rfl, R1, cn, sm, fun l H2 hl nl fl R2 k2 => ?_⟩
      have s1' := sn.s1
      refine ⟨p, F, _, rfl, R2, .inl ⟨rfl, _, SqL.of (R2.row 1)⟩, _, rfl, _, _, _, rfl, rfl, R2.row 1, isz (by rw [List.length_map]; show (forNew m).1.r1.length ≤ 1001; omega), ?_⟩
      refine ⟨_, rfl, ?_⟩
      have e : letIn m k = ((forNew m).1.setRow 1 (k :: (forNew m).1.row 1), (forNew m).2) := by
        unfold letIn
        rw [if_pos c]
      refine kont l _ ?_ nl (kp_free k1 fl nl) (by rw [e]; exact R2.setRow 1 (k :: (forNew m).1.row 1)) ((k1.trans k2).trans (kp_upd (Rep.in_at F p 1)))
      rw [upd_ne (fun q => nl (by rw [q]; exact Rep.in_at F p 1)), e]
      exact hl
    · have c : ¬ place m k = 0 := fun z => c (vint.mpr z)
      refine ⟨_, rfl, rfl, _, rfl, ?_⟩
      refine ite2 (fun c2 => ?_) (fun c2 => ?_)
      · have c2 : place m k = 3 := vint.mp c2
        obtain ⟨cr, sr, np⟩ := can.b c2
        have h3 : m.r3 ≠ [] := fun z => by
          have := place_mem c
          rw [c2] at this
          have this : k ∈ m.r3 := this
          rw [z] at this
          cases this
        refine ⟨p, F, m, rfl, R1, p, F, m, rfl, R1, h3, sm, fun H2 R2 k2 => ?_⟩
        refine fin (grow m) H2 R2 (k1.trans k2) (by rw [c2]; exact cr) ⟨sm.s1, sm.s2, sm.s3, sm.s4, sm.sh⟩ (by rw [c2]; exact sr) (by rw [c2]; exact np) ?_
        unfold letIn
        rw [if_neg c, if_pos c2, c2]
      · have c2 : ¬ place m k = 3 := fun z => c2 (vint.mpr z)
        obtain ⟨h4, cr, sr, np⟩ := can.c c c2
        refine ⟨p, F, m, rfl, R1, p, F, m, rfl, R1, h4, sm, fun H2 R2 k2 => ?_⟩
        refine fin (fall m) H2 R2 (k1.trans k2) cr ⟨sm.s1, sm.s2, sm.s3, sm.s4, sm.sh⟩ sr np ?_
        unfold letIn
        rw [if_neg c, if_neg c2]
end
end Tw
end
section
set_option Elab.async false
set_option linter.all false
set_option maxRecDepth 100000
set_option maxHeartbeats 2000000
/-! put, get, drop -/
namespace Tw
open PySem PySem.Spec PyProof.Rows L2
structure CanPut (m : M) (k : Int) : Prop where
  sm : Small m
  a : (look m.held k).isSome = true → ¬ place m k = 0
  b : look m.held k = none → CanIn m k ∧ Small (letIn m k).1
def spPut (C : Addr) : Sp := fun vs H Q _ => ∃ (p : Addr) (F : Ft) (m : M) (k v : Int), vs = [.ref p, .int k, .int v] ∧ Rep C H p F m ∧ CanPut m k ∧
  ∀ (l : Addr) (H' : Hp), H' l = some (.lst ((put m k v).2.map V.int)) → ¬ In p F l → H l = none → Rep C H' p F (put m k v).1 → Kp p F H H' → Q (.ref l) H'
def spGet (C : Addr) : Sp := fun vs H Q _ => ∃ (p : Addr) (F : Ft) (m : M) (k : Int), vs = [.ref p, .int k] ∧ Rep C H p F m ∧ m.r2.length ≤ 1000 ∧ ((look m.held k).isSome = true → ¬ place m k = 0) ∧
  ∀ (l : Addr) (H' : Hp), H' l = some (.lst ((get m k).2.map V.int)) → ¬ In p F l → H l = none → Rep C H' p F (get m k).1 → Kp p F H H' → Q (.ref l) H'
def spDrop (C : Addr) : Sp := fun vs H Q _ => ∃ (p : Addr) (F : Ft) (m : M) (k : Int), vs = [.ref p, .int k] ∧ Rep C H p F m ∧
  ∀ (l : Addr) (H' : Hp), H' l = some (.lst ((drop m k).2.map V.int)) → ¬ In p F l → H l = none → Rep C H' p F (drop m k).1 → Kp p F H H' → Q (.ref l) H'
theorem two_le {o : Option (Int × Int)} {a b : M × List Int} {g : Int × Int → M} : (match o with | some e => (g e, [e.1, e.2]) | none => (a.1, ([] : List Int))).2.length ≤ 2 := by
  cases o <;> simp
theorem one_len (m : M) (pl : Int) : (oneGoes m pl).2.length ≤ 2 := by
  unfold oneGoes
  split
  · cases lastOf m 1 <;> simp
  · cases lastOf m 2 <;> simp
theorem room_len (m : M) (pl : Int) : (makeRoom m pl).2.length ≤ 2 := by
  unfold makeRoom
  split
  · simp
  · exact one_len m pl
theorem new_len (m : M) : (forNew m).2.length ≤ 2 := by
  unfold forNew
  split
  · split
    · cases lastOf m 1 <;> simp
    · exact room_len _ _
  · split
    · exact room_len _ _
    · exact room_len _ _
theorem in_len (m : M) (k : Int) : (letIn m k).2.length ≤ 2 := by
  unfold letIn
  split
  · exact new_len m
  · split
    · exact room_len _ _
    · exact room_len _ _
theorem moveF_held (m : M) (k : Int) : (moveF m k).held = m.held := by
  unfold moveF takeOut
  rw [setRow_held, setRow_held]
theorem takeOut_held (m : M) (k : Int) : (takeOut m k).held = m.held := by
  unfold takeOut
  rw [setRow_held]
section
variable {P : Program} {w : World} {K : PySem.W.Frag} {mg : Str → Option Value} {base : Heap}
theorem scPut : FnScope ["self", "key", "value", "answer"] ["self", "key", "value"] (defScope sPut) := ⟨rfl, rfl, rfl, by decide +kernel, rfl, by decide +kernel, by decide +kernel⟩
theorem ok_put {f C : Addr} {fd : FuncData} (Fn : Fun K "put" "Cache.put" sPut f fd) (T : Txt K mg C) (M1 : Mth P w K mg base C "move_to_frequent" 3 ["self", "key"] (spMove C)) (M2 : Mth P w K mg base C "let_in" 6 ["self", "key"] (spLetIn C)) :
    FnOk P w K mg base CX0 7 f fd ["self", "key", "value"] (spPut C) := by
  refine Fn.ok scPut (fun vs H Q E h => ?_) (fun cdv A outer s H vs Q E hr h => ?_)
  · obtain ⟨p, F, m, k, v, rfl, _⟩ := h
    rfl
  · obtain ⟨p, F, m, k, v, rfl, R, can, kont⟩ := h
    have hu := hu_of hr
    have hr3 := hr.mono (show 3 ≤ 6 by decide)
    refine ⟨_, pss_cons (ps_if (pt_cmp (pc_din hu (pv 1) (se_held T)))
        (pss_cons (ps_set (i := 3) scPut.nd rfl (Or.inl rfl) (pe_lst (pa_cons pe_int (pa_cons (pv 1) (pa_cons (pe_dget hu (se_held T) (pv 1) (fun _ _ => rfl)) pa_nil)))))
        (pss_one (ps_expr (se_meth T M1 hr3 (pa_cons (pv 1) pa_nil)))))
        (pss_one (ps_set (i := 3) scPut.nd rfl (Or.inl rfl) (pe_op op_cat (pe_lst (pa_cons pe_int pa_nil)) (se_meth T M2 hr (pa_cons (pv 1) pa_nil))))))
      (pss_cons (ps_dput hu (se_held T) (pv 1) (pv 2) rfl)
      (pss_one (ps_ret (pv 3)))), ?_⟩
    -- the last two statements
    have fin : ∀ (n : M) (H1 : Hp) (l : Addr) (ans : List Int), Rep C H1 p F n → Kp p F H H1 → n.held.length ≤ 1000 → H1 l = some (.lst (ans.map V.int)) → ¬ In p F l → H l = none → put m k v = ({ n with held := hput n.held k v }, ans) →
        (tSeq (sDPut (tSelf C fun _ F _ => .ref F.dH) (tVar 1) (tVar 2)) (tRet (tVar 3))) { nx := fun _ H' => Q .non H', rt := Q } [some (.ref p), some (.int k), some (.int v), some (.ref l)] H1 := by
      intro n H1 l ans R1 k1 hs hl nl fl e
      refine ⟨_, rfl, p, F, n, rfl, R1, _, rfl, F.dH, _, rfl, DPut.k (k := Sum.inl k) R1.dh (isz (by rw [enc_len]; omega)), ?_⟩
      refine ⟨_, rfl, ?_⟩
      rw [put_enc]
      refine kont l _ ?_ nl fl (by rw [e]; exact R1.setHeld _) (k1.trans (kp_upd (.inr (.inr (.inl rfl)))))
      rw [upd_ne (fun q => nl (.inr (.inr (.inl q)))), e]
      exact hl
    refine ⟨_, rfl, p, F, m, rfl, R, F.dH, _, rfl, DGet.k (k := Sum.inl k) R.dh, _, rfl, ?_⟩
    rw [val_enc]
    cases hl : look m.held k with
    | some w =>
      have np := can.a (by rw [hl]; rfl)
      refine iteT ?_
      have hg : DGet H F.dH (.int k) (some (.int w)) := by
        have z := DGet.k (k := Sum.inl k) R.dh
        rw [val_enc, hl] at z
        exact z
      refine ⟨_, rfl, p, F, m, rfl, R, _, rfl, F.dH, _, rfl, hg, (by show 3 ≤ sizeLine; decide), fun l fl => ?_⟩
      have R1 := R.same (same_new (o := .lst [.int 1, .int k, .int w]) fl)
      refine ⟨p, F, m, rfl, R1, _, rfl, p, F, m, k, rfl, R1, np, can.sm.s2, fun H2 R2 k2 => ?_⟩
      refine fin (moveF m k) H2 l [1, k, w] R2 ((Kp.of (same_new fl)).trans k2) (by rw [moveF_held]; exact can.sm.sh) (k2 l _ upd_same (R.fresh fl)) (R.fresh fl) fl ?_
      unfold put
      rw [hl]
    | none =>
      obtain ⟨ci, si⟩ := can.b hl
      refine iteF ?_
      refine ⟨(by show 1 ≤ sizeLine; decide), fun l0 f0 => ?_⟩
      have s0 := same_new (o := .lst [.int 0]) f0
      have R1 := R.same s0
      refine ⟨p, F, m, rfl, R1, _, rfl, p, F, m, k, rfl, R1, ci, can.sm, fun l H2 hl2 nl fl R2 k2 => ?_⟩
      have n0 := R.fresh f0
      refine ⟨l0, l, _, _, rfl, rfl, k2 l0 _ upd_same n0, hl2, ?_, fun l3 f3 => ?_⟩
      · have := in_len m k
        rw [List.length_map]
        exact Nat.le_of_lt (isz (by show 1 + (letIn m k).2.length ≤ 1001; omega))
      have s3 := same_new (o := .lst (([.int 0] : List V) ++ (letIn m k).2.map V.int)) f3
      have k3 : Kp p F H H2 := (Kp.of s0).trans k2
      refine fin (letIn m k).1 _ l3 (0 :: (letIn m k).2) (R2.same s3) (k3.trans (Kp.of s3)) si.sh upd_same (R2.fresh f3) (kp_free k3 f3 (R2.fresh f3)) ?_
      unfold put
      rw [hl]
theorem scGet : FnScope ["self", "key"] ["self", "key"] (defScope sGet) := ⟨rfl, rfl, rfl, by decide +kernel, rfl, by decide +kernel, by decide +kernel⟩
theorem ok_get {f C : Addr} {fd : FuncData} (Fn : Fun K "get" "Cache.get" sGet f fd) (T : Txt K mg C) (M1 : Mth P w K mg base C "move_to_frequent" 3 ["self", "key"] (spMove C)) : FnOk P w K mg base CX0 4 f fd ["self", "key"] (spGet C) := by
  refine Fn.ok scGet (fun vs H Q E h => ?_) (fun cdv A outer s H vs Q E hr h => ?_)
  · obtain ⟨p, F, m, k, rfl, _⟩ := h
    rfl
  · obtain ⟨p, F, m, k, rfl, R, h2, hk, kont⟩ := h
    have hu := hu_of hr
    refine ⟨_, pss_cons (ps_if (pt_cmp (pc_dnotin hu (pv 1) (se_held T))) (pss_one (ps_ret (pe_lst (pa_cons pe_int pa_nil)))) pss_nil)
      (pss_cons (ps_expr (se_meth T M1 hr (pa_cons (pv 1) pa_nil)))
      (pss_one (ps_ret (pe_lst (pa_cons pe_int (pa_cons (pe_dget hu (se_held T) (pv 1) (fun _ _ => rfl)) pa_nil)))))), ?_⟩
    refine ⟨_, rfl, p, F, m, rfl, R, F.dH, _, rfl, DGet.k (k := Sum.inl k) R.dh, _, rfl, ?_⟩
    rw [val_enc]
    cases hl : look m.held k with
    | none =>
      have e : get m k = (m, [0]) := by
        unfold get
        rw [hl]
      refine iteT ?_
      refine ⟨(by show 1 ≤ sizeLine; decide), fun l fl => ?_⟩
      exact kont l _ (by rw [e]; exact upd_same) (R.fresh fl) fl (by rw [e]; exact R.same (same_new fl)) (Kp.of (same_new fl))
    | some v =>
      have e : get m k = (moveF m k, [1, v]) := by
        unfold get
        rw [hl]
      refine iteF ?_
      refine ⟨p, F, m, rfl, R, _, rfl, p, F, m, k, rfl, R, hk (by rw [hl]; rfl), h2, fun H1 R1 k1 => ?_⟩
      have hg : DGet H1 F.dH (.int k) (some (.int v)) := by
        have z := DGet.k (k := Sum.inl k) R1.dh
        rw [val_enc, moveF_held, hl] at z
        exact z
      refine ⟨p, F, _, rfl, R1, _, rfl, F.dH, _, rfl, hg, (by show 2 ≤ sizeLine; decide), fun l fl => ?_⟩
      exact kont l _ (by rw [e]; exact upd_same) (R1.fresh fl) (kp_free k1 fl (R1.fresh fl)) (by rw [e]; exact R1.same (same_new fl)) (k1.trans (Kp.of (same_new fl)))
theorem scDrop : FnScope ["self", "key"] ["self", "key"] (defScope sDrop) := ⟨rfl, rfl, rfl, by decide +kernel, rfl, by decide +kernel, by decide +kernel⟩
theorem ok_drop {f C : Addr} {fd : FuncData} (Fn : Fun K "drop" "Cache.drop" sDrop f fd) (T : Txt K mg C) (M1 : Mth P w K mg base C "place" 1 ["self", "key"] (spPlace C)) (M2 : Mth P w K mg base C "take_out" 2 ["self", "key"] (spTake C)) : FnOk P w K mg base CX0 3 f fd ["self", "key"] (spDrop C) := by
  refine Fn.ok scDrop (fun vs H Q E h => ?_) (fun cdv A outer s H vs Q E hr h => ?_)
  · obtain ⟨p, F, m, k, rfl, _⟩ := h
    rfl
  · obtain ⟨p, F, m, k, rfl, R, kont⟩ := h
    have hu := hu_of hr
    have hr1 := hr.mono (show 1 ≤ 2 by decide)
    refine ⟨_, pss_cons (ps_if (pt_cmpR op_eq (se_meth T M1 hr1 (pa_cons (pv 1) pa_nil)) (pk T.k0) (nomark _)) (pss_one (ps_ret (pe_lst (pa_cons pe_int pa_nil)))) pss_nil)
      (pss_cons (ps_expr (se_meth T M2 hr (pa_cons (pv 1) pa_nil)))
      (pss_cons (ps_if (pt_cmp (pc_din hu (pv 1) (se_held T))) (pss_one (ps_ret (pe_lst (pa_cons pe_int (pa_cons (pv 1) (pa_cons (pe_dpop1 (se_held T) (pv 1) ⟨rfl, rfl, rfl, rfl⟩) pa_nil)))))) pss_nil)
      (pss_one (ps_ret (pe_lst (pa_cons pe_int pa_nil)))))), ?_⟩
    refine ⟨p, F, m, rfl, R, _, rfl, p, F, m, k, rfl, R, fun H1 s1 => ?_⟩
    have R1 := R.same s1
    have k1 : Kp p F H H1 := Kp.of s1
    refine ⟨rfl, _, rfl, ?_⟩
    refine ite2 (fun c => ?_) (fun c => ?_)
    · have c : place m k = 0 := vint.mp c
      have e : drop m k = (m, [0]) := by
        unfold drop
        rw [if_pos c]
      refine ⟨(by show 1 ≤ sizeLine; decide), fun l fl => ?_⟩
      exact kont l _ (by rw [e]; exact upd_same) (R1.fresh fl) (kp_free k1 fl (R1.fresh fl)) (by rw [e]; exact R1.same (same_new fl)) (k1.trans (Kp.of (same_new fl)))
    · have c : ¬ place m k = 0 := fun z => c (vint.mpr z)
      refine ⟨p, F, m, rfl, R1, _, rfl, p, F, m, k, rfl, R1, c, fun H2 R2 k2 => ?_⟩
      have k12 := k1.trans k2
      refine ⟨_, rfl, p, F, _, rfl, R2, F.dH, _, rfl, DGet.k (k := Sum.inl k) R2.dh, _, rfl, ?_⟩
      rw [val_enc, takeOut_held]
      cases hl : look m.held k with
      | none =>
        have e : drop m k = (takeOut m k, [1]) := by
          unfold drop
          rw [if_neg c, hl]
        refine iteF ?_
        refine ⟨(by show 1 ≤ sizeLine; decide), fun l fl => ?_⟩
        exact kont l _ (by rw [e]; exact upd_same) (R2.fresh fl) (kp_free k12 fl (R2.fresh fl)) (by rw [e]; exact R2.same (same_new fl)) (k12.trans (Kp.of (same_new fl)))
      | some v =>
        have e : drop m k = ({ takeOut m k with held := hdrop (takeOut m k).held k }, [2, k, v]) := by
          unfold drop
          rw [if_neg c, hl]
        refine iteT ?_
        refine ⟨_, rfl, p, F, _, rfl, R2, F.dH, rfl, .inl ⟨_, .inl R2.dh⟩, _, rfl, _, Sum.inl k, .int v, R2.dh, rfl, ?_, ?_⟩
        · rw [val_enc, takeOut_held, hl] <;> rfl
        rw [drop_enc]
        have R3 := R2.setHeld (hdrop (takeOut m k).held k)
        have k3 : Kp p F H _ := k12.trans (kp_upd (o := .dK (encH (hdrop (takeOut m k).held k))) (.inr (.inr (.inl rfl))))
        refine ⟨(by show 3 ≤ sizeLine; decide), fun l fl => ?_⟩
        exact kont l _ (by rw [e]; exact upd_same) (R3.fresh fl) (kp_free k3 fl (R3.fresh fl)) (by rw [e]; exact R3.same (same_new fl)) (k3.trans (Kp.of (same_new fl)))
end
end Tw
end
section
set_option Elab.async false
set_option linter.all false
set_option maxRecDepth 100000
set_option maxHeartbeats 2000000
/-! forget_all, __init__, may_be_most, begin -/
namespace Tw
open PySem PySem.Spec PyProof.Rows L2
/-- all that was tracked outside the object is as it was, and is outside it still -/
def Fr (p : Addr) (H : Hp) (F' : Ft) (H' : Hp) : Prop := ∀ b o, H b = some o → b ≠ p → H' b = some o ∧ (¬ In p F' b)
/-- forget_all's: whatever attributes stand already, if the three that it writes make the four -/
def spForget (C : Addr) : Sp := fun vs H Q _ => ∃ (p dx : Addr) (fs : List (Str × V)) (a : Int), vs = [.ref p] ∧ H p = some (.ins C dx fs) ∧ fs.length ≤ 10 ∧
  (∀ r h : Addr, putF "held" (.ref h) (putF "rows" (.ref r) (putF "target" (.int 0) fs)) = flds a 0 r h) ∧ ∀ (F' : Ft) (H' : Hp), Rep C H' p F' (blank a) → Fr p H F' H' → Q .non H'
def spBegin (C : Addr) : Sp := fun vs H Q _ => ∃ (p : Addr) (F : Ft) (m : M) (c : Int), vs = [.ref p, .int c] ∧ Rep C H p F m ∧
  ∀ (l : Addr) (F' : Ft) (H' : Hp), H' l = some (.lst ((begin_ m c).2.map V.int)) → ¬ In p F' l → H l = none → Rep C H' p F' (begin_ m c).1 → (∀ b o, H b = some o → ¬ In p F b → H' b = some o ∧ (¬ In p F' b)) → Q (.ref l) H'
def spInit (C : Addr) : Sp := fun vs H Q _ => ∃ (p dx : Addr), vs = [.ref p] ∧ H p = some (.ins C dx []) ∧ ∀ (F' : Ft) (H' : Hp), Rep C H' p F' (blank 16) → Fr p H F' H' → Q .non H'
theorem putF_len (f : Str) (v : V) : ∀ fs : List (Str × V), (putF f v fs).length ≤ fs.length + 1
  | [] => Nat.le_refl _
  | (g, x) :: r => by
    have ih := putF_len f v r
    unfold putF
    split
    · simp
    · simp only [List.length_cons]
      omega
section
variable {P : Program} {w : World} {K : PySem.W.Frag} {mg : Str → Option Value} {base : Heap}
theorem scForget : FnScope ["self"] ["self"] (defScope sForget) := ⟨rfl, rfl, rfl, by decide +kernel, rfl, by decide +kernel, by decide +kernel⟩
theorem ok_forget {f C : Addr} {fd : FuncData} (Fn : Fun K "forget_all" "Cache.forget_all" sForget f fd) (T : Txt K mg C) : FnOk P w K mg base CX0 1 f fd ["self"] (spForget C) := by
  refine Fn.ok scForget (fun vs H Q E h => ?_) (fun cdv A outer s H vs Q E hr h => ?_)
  · obtain ⟨p, dx, fs, a, rfl, _⟩ := h
    rfl
  · obtain ⟨p, dx, fs, a, rfl, hp, hl, hf, kont⟩ := h
    have hu := hu_of hr
    have l1 := putF_len "target" (.int 0) fs
    refine ⟨_, pss_cons (ps_fld (pv 0) pe_int rfl)
      (pss_cons (ps_fld (pv 0) (pe_disp (pps_cons (pk T.k1) (pe_lst pa_nil) (pps_cons (pk T.k2) (pe_lst pa_nil) (pps_cons (pk T.k3) (pe_lst pa_nil) (pps_cons (pk T.k4) (pe_lst pa_nil) pps_nil)))) rfl rfl (by intro z; cases z) (by decide)) rfl)
      (pss_one (ps_fld (pv 0) pe_dnewK rfl))), ?_⟩
    refine ⟨_, rfl, p, C, dx, fs, rfl, hp, T.cl, T.nT, (by omega), ?_⟩
    intro r fr
    refine ⟨Nat.zero_le _, fun a1 f1 => ⟨Nat.zero_le _, fun a2 f2 => ⟨Nat.zero_le _, fun a3 f3 => ⟨Nat.zero_le _, fun a4 f4 => ?_⟩⟩⟩⟩
    generalize e0 : upd H p (.ins C dx (putF "target" (.int 0) fs)) = H0 at fr f1 f2 f3 f4 ⊢
    have g0 : H0 p = some (.ins C dx (putF "target" (.int 0) fs)) := by rw [← e0]; exact upd_same
    generalize e1 : upd H0 r (.dK []) = H1 at f1 f2 f3 f4 ⊢
    have s1 : Same H0 H1 := by rw [← e1]; exact same_new fr
    have gr : H1 r = some (.dK []) := by rw [← e1]; exact upd_same
    generalize e2 : upd H1 a1 (.lst []) = H2 at f2 f3 f4 ⊢
    have s2 : Same H1 H2 := by rw [← e2]; exact same_new f1
    have g1 : H2 a1 = some (.lst []) := by rw [← e2]; exact upd_same
    generalize e3 : upd H2 a2 (.lst []) = H3 at f3 f4 ⊢
    have s3 : Same H2 H3 := by rw [← e3]; exact same_new f2
    have g2 : H3 a2 = some (.lst []) := by rw [← e3]; exact upd_same
    generalize e4 : upd H3 a3 (.lst []) = H4 at f4 ⊢
    have s4 : Same H3 H4 := by rw [← e4]; exact same_new f3
    have g3 : H4 a3 = some (.lst []) := by rw [← e4]; exact upd_same
    generalize e5 : upd H4 a4 (.lst []) = H5
    have s5 : Same H4 H5 := by rw [← e5]; exact same_new f4
    have g4 : H5 a4 = some (.lst []) := by rw [← e5]; exact upd_same
    have gr5 : H5 r = some (.dK []) := s5 _ _ (s4 _ _ (s3 _ _ (s2 _ _ gr)))
    have gp5 : H5 p = some (.ins C dx (putF "target" (.int 0) fs)) := s5 _ _ (s4 _ _ (s3 _ _ (s2 _ _ (s1 _ _ g0))))
    have g15 : H5 a1 = some (.lst []) := s5 _ _ (s4 _ _ (s3 _ _ g1))
    have g25 : H5 a2 = some (.lst []) := s5 _ _ (s4 _ _ g2)
    have g35 : H5 a3 = some (.lst []) := s5 _ _ g3
    have n12 : a1 ≠ a2 := ne_of_none g1 f2
    have n13 : a1 ≠ a3 := ne_of_none (s3 _ _ g1) f3
    have n14 : a1 ≠ a4 := ne_of_none (s4 _ _ (s3 _ _ g1)) f4
    have n23 : a2 ≠ a3 := ne_of_none g2 f3
    have n24 : a2 ≠ a4 := ne_of_none (s4 _ _ g2) f4
    have n34 : a3 ≠ a4 := ne_of_none g3 f4
    have npr : p ≠ r := ne_of_none g0 fr
    refine ⟨gr5, [(Sum.inl 1, .ref a1), (Sum.inl 2, .ref a2), (Sum.inl 3, .ref a3), (Sum.inl 4, .ref a4)], rfl, (by show 4 ≤ 15; decide), ?_⟩
    have em : mergeK [] [(Sum.inl 1, .ref a1), (Sum.inl 2, .ref a2), (Sum.inl 3, .ref a3), (Sum.inl 4, .ref a4)] = ([(Sum.inl 1, .ref a1), (Sum.inl 2, .ref a2), (Sum.inl 3, .ref a3), (Sum.inl 4, .ref a4)] : List (Key × V)) := rfl
    rw [em]
    generalize e6 : upd H5 r (.dK [(Sum.inl 1, .ref a1), (Sum.inl 2, .ref a2), (Sum.inl 3, .ref a3), (Sum.inl 4, .ref a4)]) = H6
    have o6 : ∀ b, b ≠ r → H6 b = H5 b := fun b hb => by rw [← e6, upd_ne hb]
    have gr6 : H6 r = some (.dK [(Sum.inl 1, .ref a1), (Sum.inl 2, .ref a2), (Sum.inl 3, .ref a3), (Sum.inl 4, .ref a4)]) := by rw [← e6]; exact upd_same
    have l2 := putF_len "rows" (.ref r) (putF "target" (.int 0) fs)
    refine ⟨_, rfl, p, C, dx, _, rfl, (by rw [o6 p npr]; exact gp5), T.cl, T.nR, (by omega), ?_⟩
    intro h fh
    generalize e7 : upd H6 p (.ins C dx (putF "rows" (.ref r) (putF "target" (.int 0) fs))) = H7 at fh ⊢
    have o7 : ∀ b, b ≠ p → H7 b = H6 b := fun b hb => by rw [← e7, upd_ne hb]
    have gp7 : H7 p = some (.ins C dx (putF "rows" (.ref r) (putF "target" (.int 0) fs))) := by rw [← e7]; exact upd_same
    have nph : p ≠ h := ne_of_none gp7 fh
    refine ⟨_, rfl, p, C, dx, _, rfl, (by rw [upd_ne nph]; exact gp7), T.cl, T.nH, (by omega), ?_⟩
    rw [hf r h]
    have nR : ∀ {x : Addr} {xs : List V}, H5 x = some (.lst xs) → x ≠ r := fun e => ne_of e gr5 (by intro z; cases z)
    have nP : ∀ {x : Addr} {xs : List V}, H5 x = some (.lst xs) → x ≠ p := fun e => ne_of e gp5 (by intro z; cases z)
    have at7 : ∀ {x : Addr} {xs : List V}, H5 x = some (.lst xs) → H7 x = some (.lst xs) := fun e => by rw [o7 _ (nP e), o6 _ (nR e)]; exact e
    have r7 : H7 r = some (.dK [(Sum.inl 1, .ref a1), (Sum.inl 2, .ref a2), (Sum.inl 3, .ref a3), (Sum.inl 4, .ref a4)]) := by rw [o7 r npr.symm]; exact gr6
    have fin : ∀ {x : Addr} {o : HO}, H7 x = some o → x ≠ p → (upd (upd H7 h (.dK [])) p (.ins C dx (flds a 0 r h))) x = some o := fun e q => by
      rw [upd_ne q, upd_ne (ne_of_none e fh)]
      exact e
    refine kont ⟨r, a1, a2, a3, a4, h⟩ _ ⟨⟨dx, upd_same⟩, fin r7 npr.symm, fin (at7 g15) (nP g15), fin (at7 g25) (nP g25), fin (at7 g35) (nP g35), fin (at7 g4) (nP g4), ?_, ne_of_none r7 fh, n12, n13, n14, n23, n24, n34⟩ ?_
    · rw [upd_ne nph.symm]
      exact upd_same
    · intro b o e nb
      have c0 : H0 b = some o := by rw [← e0, upd_ne nb]; exact e
      have c1 := s1 _ _ c0
      have c2 := s2 _ _ c1
      have c3 := s3 _ _ c2
      have c4 := s4 _ _ c3
      have c5 := s5 _ _ c4
      have nr : b ≠ r := ne_of_none c0 fr
      have c7 : H7 b = some o := by rw [o7 b nb, o6 b nr]; exact c5
      refine ⟨fin c7 nb, ?_⟩
      rintro (q | q | q | q | q | q | q)
      · exact nb q
      · exact nr q
      · exact ne_of_none c7 fh q
      · exact ne_of_none c1 f1 q
      · exact ne_of_none c2 f2 q
      · exact ne_of_none c3 f3 q
      · exact ne_of_none c4 f4 q
theorem scInit : FnScope ["self"] ["self"] (defScope sInit) := ⟨rfl, rfl, rfl, by decide +kernel, rfl, by decide +kernel, by decide +kernel⟩
theorem ok_init {f C : Addr} {fd : FuncData} (Fn : Fun K "__init__" "Cache.__init__" sInit f fd) (T : Txt K mg C) (M1 : Mth P w K mg base C "forget_all" 1 ["self"] (spForget C)) : FnOk P w K mg base CX0 2 f fd ["self"] (spInit C) := by
  obtain ⟨f1, fd1, G1, b1, m1⟩ := M1.ex
  refine Fn.ok scInit (fun vs H Q E h => ?_) (fun cdv A outer s H vs Q E hr h => ?_)
  · obtain ⟨p, dx, rfl, _⟩ := h
    rfl
  · obtain ⟨p, dx, rfl, hp, kont⟩ := h
    refine ⟨_, pss_cons (ps_fld (pv 0) (pk T.kFirst) rfl) (pss_one (ps_expr (pe_meth0 (pv 0) T.cl m1 G1 hr b1 .nil pass0))), ?_⟩
    refine ⟨_, rfl, p, C, dx, [], rfl, hp, T.cl, T.nM, (by show 0 < 1000; decide), ?_⟩
    refine ⟨_, rfl, p, dx, _, rfl, upd_same, ?_, p, dx, _, 16, rfl, upd_same, (by show 1 ≤ 10; decide), fun r h => ?_, fun F' H' R' fr => ?_⟩
    · show (putF "most" (V.int 16) []).lookup ("forget_all" : Str) = none
      rw [lookup_putF, if_neg (by decide +kernel)]
      rfl
    · exact fl_made 16 0 r h
    · refine kont F' H' R' fun b o e nb => fr b o ?_ nb
      rw [upd_ne nb]
      exact e
def spMay : Sp := fun vs H Q _ => ∃ n : Int, vs = [.int n] ∧ Q (.bl (decide (1 ≤ n ∧ n ≤ 64))) H
theorem scMay : FnScope ["number"] ["number"] (defScope sMay) := ⟨rfl, rfl, rfl, by decide +kernel, rfl, by decide +kernel, by decide +kernel⟩
theorem ok_may {f C : Addr} {fd : FuncData} (Fn : Fun K "may_be_most" "may_be_most" sMay f fd) (T : Txt K mg C) : FnOk P w K mg base CX0 1 f fd ["number"] spMay := by
  refine Fn.ok scMay (fun vs H Q E h => ?_) (fun cdv A outer s H vs Q E hr h => ?_)
  · obtain ⟨n, rfl, _⟩ := h
    rfl
  · obtain ⟨n, rfl, kont⟩ := h
    refine ⟨_, pss_one (ps_ret (pe_and (pe_cmpR op_ge (pv 0) pe_int (nomark _)) (pe_one (pe_cmpR op_le (pv 0) (pk T.kLargest) (nomark _))))), ?_⟩
    refine ⟨_, rfl, _, _, rfl, rfl, _, rfl, ?_⟩
    refine ite2 (fun c => ?_) (fun c => ?_)
    · have c : (1 : Int) ≤ n := of_decide_eq_true c
      refine ⟨_, rfl, _, _, rfl, rfl, ?_⟩
      have e : decide (n ≤ 64) = decide (1 ≤ n ∧ n ≤ 64) := by
        rw [decide_eq_decide]
        exact ⟨fun z => ⟨c, z⟩, fun z => z.2⟩
      show Q (.bl (decide (n ≤ 64))) H
      rw [e]
      exact kont
    · have c : ¬ (1 : Int) ≤ n := fun z => c (decide_eq_true z)
      have e : false = decide (1 ≤ n ∧ n ≤ 64) := (decide_eq_false fun z => c z.1).symm
      show Q (.bl false) H
      rw [e]
      exact kont
theorem scBegin : FnScope ["self", "most"] ["self", "most"] (defScope sBegin) := ⟨rfl, rfl, rfl, by decide +kernel, rfl, by decide +kernel, by decide +kernel⟩
theorem ok_begin {f C : Addr} {fd : FuncData} (Fn : Fun K "begin" "Cache.begin" sBegin f fd) (T : Txt K mg C) (M0 : Glb P w K mg base "may_be_most" 1 ["number"] spMay) (M1 : Mth P w K mg base C "forget_all" 1 ["self"] (spForget C)) : FnOk P w K mg base CX0 2 f fd ["self", "most"] (spBegin C) := by
  obtain ⟨f1, fd1, G1, b1, m1⟩ := M1.ex
  obtain ⟨f0, fd0, G0, b0, m0, k0⟩ := M0.ex
  refine Fn.ok scBegin (fun vs H Q E h => ?_) (fun cdv A outer s H vs Q E hr h => ?_)
  · obtain ⟨p, F, m, c, rfl, _⟩ := h
    rfl
  · obtain ⟨p, F, m, c, rfl, R, kont⟩ := h
    refine ⟨_, pss_cons (ps_if (pt_not (pt_val (pe_call G0 hr rfl m0 k0 b0 .nil pass0 (pa_cons (pv 1) pa_nil)))) (pss_one (ps_ret (pe_lst (pa_cons (pe_un un_neg pe_int) pa_nil)))) pss_nil)
      (pss_cons (ps_fld (pv 0) (pv 1) rfl)
      (pss_cons (ps_expr (pe_meth0 (pv 0) T.cl m1 G1 hr b1 .nil pass0))
      (pss_one (ps_ret (pe_lst (pa_cons pe_int pa_nil)))))), ?_⟩
    refine ⟨_, rfl, c, rfl, _, rfl, ?_⟩
    refine ite2 (fun c1 => ?_) (fun c1 => ?_)
    · have hc : c < 1 ∨ c > 64 := by
        rw [Bool.not_eq_true', decide_eq_false_iff_not] at c1
        omega
      have e : begin_ m c = (m, [-1]) := by
        unfold begin_
        rw [if_pos hc]
      refine ⟨_, rfl, (by show 1 ≤ sizeLine; decide), fun l fl => ?_⟩
      refine kont l F _ (by rw [e]; exact upd_same) (R.fresh fl) fl (by rw [e]; exact R.same (same_new fl)) fun b o eb nb => ⟨?_, nb⟩
      exact same_new fl b o eb
    · have hc : 1 ≤ c ∧ c ≤ 64 := by
        rw [Bool.not_eq_true', decide_eq_false_iff_not] at c1
        omega
      have e : begin_ m c = (blank c, [0]) := by
        unfold begin_
        rw [if_neg (by omega)]
      obtain ⟨dx, hp⟩ := R.ob
      refine ⟨_, rfl, _, rfl, p, C, dx, _, rfl, hp, T.cl, T.nM, (by show 4 < 1000; decide), ?_⟩
      rw [fl_put_most]
      refine ⟨_, rfl, p, dx, _, rfl, upd_same, fl_no _ _ _ _ (by decide +kernel), p, dx, _, c, rfl, upd_same, (by show 4 ≤ 10; decide), fun r h => ?_, fun F' H' R' fr => ?_⟩
      · rw [fl_put_target, fl_put_rows, fl_put_held]
      · refine ⟨(by show 1 ≤ sizeLine; decide), fun l fl => ?_⟩
        have keep : ∀ b o, H b = some o → ¬ In p F b → H' b = some o ∧ (¬ In p F' b) := fun b o eb nb => fr b o (by rw [upd_ne (fun q => nb (.inl q))]; exact eb) (fun q => nb (.inl q))
        refine kont l F' _ (by rw [e]; exact upd_same) (R'.fresh fl) ?_ (by rw [e]; exact R'.same (same_new fl)) fun b o eb nb => ?_
        · cases q : H l with
          | none => rfl
          | some o =>
            by_cases hin : In p F l
            · exfalso
              by_cases hlp : l = p
              · obtain ⟨dx', z⟩ := R'.ob
                rw [hlp, z] at fl
                cases fl
              · have z := (fr l o (by rw [upd_ne hlp]; exact q) hlp).1
                rw [fl] at z
                cases z
            · rw [(keep l o q hin).1] at fl
              cases fl
        · obtain ⟨z1, z2⟩ := keep b o eb nb
          exact ⟨same_new fl b o z1, z2⟩
end
end Tw
end
section
set_option Elab.async false
set_option linter.all false
set_option maxRecDepth 100000
set_option maxHeartbeats 2000000
/-! nth, sizes, forget_surplus -/
namespace Tw
open PySem PySem.Spec PyProof.Rows L2
def spNth (C : Addr) : Sp := fun vs H Q _ => ∃ (p : Addr) (F : Ft) (m : M) (r i : Nat), vs = [.ref p, .int (r : Int), .int (i : Int)] ∧ Rep C H p F m ∧
  ∀ (l : Addr) (H' : Hp), H' l = some (.lst ((nth m r i).map V.int)) → H l = none → Same H H' → Q (.ref l) H'
def spSizes (C : Addr) : Sp := fun vs H Q _ => ∃ (p : Addr) (F : Ft) (m : M), vs = [.ref p] ∧ Rep C H p F m ∧
  ∀ (l : Addr) (H' : Hp), H' l = some (.lst ((sizes m).map V.int)) → H l = none → Same H H' → Q (.ref l) H'
def spSurplus (C : Addr) : Sp := fun vs H Q _ => ∃ (p : Addr) (F : Ft) (m : M), vs = [.ref p] ∧ Rep C H p F m ∧ CanForget m ∧ ∀ H' : Hp, Rep C H' p F (forget m) → Kp p F H H' → Q .non H'
theorem rows_no (F : Ft) {r : Nat} (h : ¬ (1 ≤ r ∧ r ≤ 4)) : valV ([(Sum.inl 1, .ref F.a1), (Sum.inl 2, .ref F.a2), (Sum.inl 3, .ref F.a3), (Sum.inl 4, .ref F.a4)] : List (Key × V)) (Sum.inl (r : Int)) = none := by
  have z : ∀ i : Int, 1 ≤ i → i ≤ 4 → ¬ (Sum.inl i : Key) = Sum.inl (r : Int) := fun i a b e => by
    have e : i = (r : Int) := Sum.inl.inj e
    exact h ⟨by omega, by omega⟩
  rw [valV_neg (z 1 (by decide) (by decide)), valV_neg (z 2 (by decide) (by decide)), valV_neg (z 3 (by decide) (by decide)), valV_neg (z 4 (by decide) (by decide))]
  rfl
section
variable {P : Program} {w : World} {K : PySem.W.Frag} {mg : Str → Option Value} {base : Heap}
theorem scNth : FnScope ["self", "row", "i", "keys"] ["self", "row", "i"] (defScope sNth) := ⟨rfl, rfl, rfl, by decide +kernel, rfl, by decide +kernel, by decide +kernel⟩
theorem ok_nth {f C : Addr} {fd : FuncData} (Fn : Fun K "nth" "Cache.nth" sNth f fd) (T : Txt K mg C) : FnOk P w K mg base CX0 1 f fd ["self", "row", "i"] (spNth C) := by
  refine Fn.ok scNth (fun vs H Q E h => ?_) (fun cdv A outer s H vs Q E hr h => ?_)
  · obtain ⟨p, F, m, r, i, rfl, _⟩ := h
    rfl
  · obtain ⟨p, F, m, r, i, rfl, R, kont⟩ := h
    have hu := hu_of hr
    refine ⟨_, pss_cons (ps_if (pt_cmp (pc_dnotin hu (pv 1) (se_rows T))) (pss_one (ps_ret (pe_lst (pa_cons (pe_un un_neg pe_int) pa_nil)))) pss_nil)
      (pss_cons (ps_set (i := 3) scNth.nd rfl (Or.inl rfl) (se_rowv 1 T hu))
      (pss_cons (ps_if (pt_cmpR op_ge (pv 2) (pe_callB call_len_seq (by rfl) T.len PySem.boot_len (pa_cons (pv 3) pa_nil)) (nomark _)) (pss_one (ps_ret (pe_lst (pa_cons pe_int pa_nil)))) pss_nil)
      (pss_one (ps_ret (pe_lst (pa_cons pe_int (pa_cons (pe_ix ix_list (pv 3) (pv 2) (fun _ _ => rfl)) pa_nil))))))), ?_⟩
    refine ⟨_, rfl, p, F, m, rfl, R, F.dR, _, rfl, DGet.k (k := Sum.inl (r : Int)) R.dr, _, rfl, ?_⟩
    by_cases hr4 : 1 ≤ r ∧ r ≤ 4
    · have e0 : valV ([(Sum.inl 1, .ref F.a1), (Sum.inl 2, .ref F.a2), (Sum.inl 3, .ref F.a3), (Sum.inl 4, .ref F.a4)] : List (Key × V)) (Sum.inl (r : Int)) = some (.ref (F.at (r : Int))) := by
        rcases (by omega : r = 1 ∨ r = 2 ∨ r = 3 ∨ r = 4) with rfl | rfl | rfl | rfl <;> rfl
      rw [e0]
      refine iteF ?_
      refine ⟨p, F, m, (r : Int), rfl, rfl, by omega, by omega, R, ?_⟩
      refine ⟨_, rfl, _, rfl, _, _, rfl, .inl (SqL.of (R.row r)), _, _, rfl, rfl, _, rfl, ?_⟩
      rw [List.length_map]
      refine ite2 (fun c => ?_) (fun c => ?_)
      · have c : ((m.row (r : Int)).length : Int) ≤ (i : Int) := of_decide_eq_true c
        have e : nth m r i = [0] := by
          unfold nth
          rw [if_pos hr4, List.getElem?_eq_none (by omega)]
        refine ⟨(by show 1 ≤ sizeLine; decide), fun l fl => ?_⟩
        exact kont l _ (by rw [e]; exact upd_same) fl (same_new fl)
      · have c : ¬ ((m.row (r : Int)).length : Int) ≤ (i : Int) := fun z => c (decide_eq_true z)
        have hi : i < (m.row (r : Int)).length := by omega
        have e : nth m r i = [1, (m.row (r : Int))[i]] := by
          unfold nth
          rw [if_pos hr4, List.getElem?_eq_getElem hi]
        refine ⟨_, rfl, _, rfl, _, _, _, .int ((m.row (r : Int))[i]), rfl, rfl, SqL.of (R.row r), atI_nat (by rw [List.getElem?_map, List.getElem?_eq_getElem hi]; rfl), (by show 2 ≤ sizeLine; decide), fun l fl => ?_⟩
        exact kont l _ (by rw [e]; exact upd_same) fl (same_new fl)
    · rw [rows_no F hr4]
      refine iteT ?_
      have e : nth m r i = [-1] := by
        unfold nth
        rw [if_neg hr4]
      refine ⟨_, rfl, (by show 1 ≤ sizeLine; decide), fun l fl => ?_⟩
      exact kont l _ (by rw [e]; exact upd_same) fl (same_new fl)
theorem scSizes : FnScope ["self"] ["self"] (defScope sSizes) := ⟨rfl, rfl, rfl, by decide +kernel, rfl, by decide +kernel, by decide +kernel⟩
theorem ok_sizes {f C : Addr} {fd : FuncData} (Fn : Fun K "sizes" "Cache.sizes" sSizes f fd) (T : Txt K mg C) (M1 : Mth P w K mg base C "row_lengths" 1 ["self"] (spLens C)) : FnOk P w K mg base CX0 2 f fd ["self"] (spSizes C) := by
  refine Fn.ok scSizes (fun vs H Q E h => ?_) (fun cdv A outer s H vs Q E hr h => ?_)
  · obtain ⟨p, F, m, rfl, _⟩ := h
    rfl
  · obtain ⟨p, F, m, rfl, R, kont⟩ := h
    refine ⟨_, pss_one (ps_ret (pe_op op_cat (pe_op op_cat (pe_lst (pa_cons (se_most T) pa_nil)) (se_meth0 T M1 hr)) (pe_lst (pa_cons (se_target T) pa_nil)))), ?_⟩
    refine ⟨p, F, m, rfl, R, (by show 1 ≤ sizeLine; decide), fun l0 f0 => ?_⟩
    have s0 := same_new (o := .lst [.int m.most]) f0
    have R0 := R.same s0
    refine ⟨p, F, m, rfl, R0, p, F, m, rfl, R0, fun l H1 hl fl s1 => ?_⟩
    refine ⟨l0, l, _, _, rfl, rfl, s1 _ _ upd_same, hl, (by show 1 + 4 ≤ sizeLine; decide), fun l2 f2 => ?_⟩
    have s2 := same_new (o := .lst ([.int m.most] ++ (lens4 m).map V.int)) f2
    have s02 := (s0.trans s1).trans s2
    refine ⟨p, F, m, rfl, R.same s02, (by show 1 ≤ sizeLine; decide), fun l3 f3 => ?_⟩
    have s3 := same_new (o := .lst [.int m.target]) f3
    refine ⟨l2, l3, _, _, rfl, rfl, s3 _ _ upd_same, upd_same, (by show 5 + 1 ≤ sizeLine; decide), fun l4 f4 => ?_⟩
    have s4 := same_new (o := .lst (([.int m.most] ++ (lens4 m).map V.int) ++ [.int m.target])) f4
    exact kont l4 _ upd_same ((s02.trans s3).free f4) ((s02.trans s3).trans s4)
theorem take_drop_last {c : Nat} {l : List Int} (h : c < l.length) : l.dropLast.take c = l.take c := by
  rw [List.dropLast_eq_take, List.take_take, Nat.min_eq_left (by omega)]
theorem scSurplus : FnScope ["self", "left_recent"] ["self"] (defScope sSurplus) := ⟨rfl, rfl, rfl, by decide +kernel, rfl, by decide +kernel, by decide +kernel⟩
theorem ok_surplus {f C : Addr} {fd : FuncData} (Fn : Fun K "forget_surplus" "Cache.forget_surplus" sSurplus f fd) (T : Txt K mg C) (M1 : Mth P w K mg base C "count_known" 2 ["self"] (spKnown C)) : FnOk P w K mg base CX0 3 f fd ["self"] (spSurplus C) := by
  refine Fn.ok scSurplus (fun vs H Q E h => ?_) (fun cdv A outer s H vs Q E hr h => ?_)
  · obtain ⟨p, F, m, rfl, _⟩ := h
    rfl
  · obtain ⟨p, F, m, rfl, R, can, kont⟩ := h
    have hu := hu_of hr
    refine ⟨_, pss_cons (ps_set (i := 1) scSurplus.nd rfl (Or.inl rfl) (se_row T hu T.k3 (by decide) (by decide)))
      (pss_cons (ps_while PassesOwn.never (pt_cmpR op_gt (pe_op op_add (se_len T hu T.k1 (by decide) (by decide)) (pe_callB call_len_seq (by rfl) T.len PySem.boot_len (pa_cons (pv 1) pa_nil))) (se_most T) (nomark _))
        (pss_one (ps_expr (pe_bm0 PySem.F.plainAttrs_list PySem.F.slot_list_pop PySem.F.type_list_pop mt_pop (pv 1)))))
      (pss_one (ps_while PassesOwn.never (pt_cmpR op_gt (se_meth0 T M1 hr) (pe_op op_mul pe_int (se_most T)) (nomark _))
        (pss_one (ps_expr (pe_bm0 PySem.F.plainAttrs_list PySem.F.slot_list_pop PySem.F.type_list_pop mt_pop (se_row T hu T.k4 (by decide) (by decide)))))))), ?_⟩
    unfold CanForget at can
    refine ⟨p, F, m, rfl, R, ?_⟩
    refine ⟨fun n σ H' => σ = [some (.ref p), some (.ref (F.at 3))] ∧ ∃ l : List Int, n = l.length ∧ Rep C H' p F (m.setRow 3 l) ∧ Kp p F H H' ∧ l.take (m.most - (m.r1.length : Int)).toNat = m.r3.take (m.most - (m.r1.length : Int)).toNat,
      ⟨m.r3.length, rfl, m.r3, rfl, R, Kp.refl, rfl⟩, ?_⟩
    rintro n σ H1 ⟨rfl, l, rfl, R1, k1, ht⟩
    refine ⟨p, F, _, rfl, R1, _, rfl, _, _, rfl, .inl (SqL.of (R1.row 3)), _, _, rfl, rfl, p, F, _, rfl, R1, _, _, rfl, rfl, _, rfl, ?_⟩
    rw [List.length_map]
    refine ite2 (fun c => ?_) (fun c => ?_)
    · have c : m.most < (m.r1.length : Int) + (l.length : Int) := of_decide_eq_true c
      have ne : l ≠ [] := fun z => by
        rw [z] at c
        have c : m.most < (m.r1.length : Int) + (0 : Int) := c
        omega
      have hl : 0 < l.length := len_pos ne
      obtain ⟨y, hy⟩ := last_map (l := l) ne
      refine ⟨fun σ' H' => ∃ n', n' < l.length ∧ (σ' = [some (.ref p), some (.ref (F.at 3))] ∧ ∃ l' : List Int, n' = l'.length ∧ Rep C H' p F (m.setRow 3 l') ∧ Kp p F H H' ∧ l'.take (m.most - (m.r1.length : Int)).toNat = m.r3.take (m.most - (m.r1.length : Int)).toNat), fun _ _ z => z, ?_⟩
      refine ⟨_, rfl, .inl ⟨rfl, _, SqL.of (R1.row 3)⟩, _, _, _, rfl, rfl, R1.row 3, hy, ?_⟩
      refine ⟨l.dropLast.length, by rw [List.length_dropLast]; omega, rfl, l.dropLast, rfl, ?_, k1.trans (kp_upd (Rep.in_at F p 3)), ?_⟩
      · rw [← List.map_dropLast]
        exact R1.setRow 3 l.dropLast
      · rw [take_drop_last (by omega)]
        exact ht
    · have c : ¬ m.most < (m.r1.length : Int) + (l.length : Int) := fun z => c (decide_eq_true z)
      have el : l = m.r3.take (m.most - (m.r1.length : Int)).toNat := by
        rw [← ht, List.take_of_length_le (by omega)]
      have R2 : Rep C H1 p F (forget3 m) := by
        have z := R1
        rw [el] at z
        exact z
      have l3 : (m.r1.length : Int) + ((forget3 m).r3.length : Int) ≤ m.most := by
        have e : (forget3 m).r3 = l := el.symm
        rw [e]
        omega
      have e4 : (forget m).r4 = m.r4.take (2 * m.most - ((m.r1.length : Int) + (m.r2.length : Int) + ((forget3 m).r3.length : Int))).toNat := rfl
      refine ⟨fun n σ H' => σ = [some (.ref p), some (.ref (F.at 3))] ∧ ∃ l : List Int, n = l.length ∧ Rep C H' p F ((forget3 m).setRow 4 l) ∧ Kp p F H H' ∧ l.take (2 * m.most - ((m.r1.length : Int) + (m.r2.length : Int) + ((forget3 m).r3.length : Int))).toNat = (forget m).r4,
        ⟨m.r4.length, rfl, m.r4, rfl, R2, k1, rfl⟩, ?_⟩
      rintro n σ H2 ⟨rfl, g, rfl, R3, k3, hg⟩
      refine ⟨p, F, _, rfl, R3, p, F, _, rfl, R3, fun H3 s3 => ?_⟩
      have R4 := R3.same s3
      refine ⟨p, F, _, rfl, R4, _, _, rfl, rfl, .inl ⟨by decide, by decide⟩, _, _, rfl, rfl, _, rfl, ?_⟩
      have ek : known ((forget3 m).setRow 4 g) = ((m.r1.length : Int) + (m.r2.length : Int)) + (((forget3 m).r3.length : Int) + (g.length : Int)) := rfl
      refine ite2 (fun c2 => ?_) (fun c2 => ?_)
      · have c2 : 2 * m.most < known ((forget3 m).setRow 4 g) := of_decide_eq_true c2
        rw [ek] at c2
        have ne : g ≠ [] := fun z => by
          rw [z] at c2
          have c2 : 2 * m.most < ((m.r1.length : Int) + (m.r2.length : Int)) + (((forget3 m).r3.length : Int) + (0 : Int)) := c2
          omega
        have hl : 0 < g.length := len_pos ne
        obtain ⟨y, hy⟩ := last_map (l := g) ne
        refine ⟨fun σ' H' => ∃ n', n' < g.length ∧ (σ' = [some (.ref p), some (.ref (F.at 3))] ∧ ∃ l : List Int, n' = l.length ∧ Rep C H' p F ((forget3 m).setRow 4 l) ∧ Kp p F H H' ∧ l.take (2 * m.most - ((m.r1.length : Int) + (m.r2.length : Int) + ((forget3 m).r3.length : Int))).toNat = (forget m).r4), fun _ _ z => z, ?_⟩
        refine ⟨p, F, _, rfl, R4, .inl ⟨rfl, _, SqL.of (R4.row 4)⟩, _, _, _, rfl, rfl, R4.row 4, hy, ?_⟩
        refine ⟨g.dropLast.length, by rw [List.length_dropLast]; omega, rfl, g.dropLast, rfl, ?_, (k3.trans (Kp.of s3)).trans (kp_upd (Rep.in_at F p 4)), ?_⟩
        · rw [← List.map_dropLast]
          exact R4.setRow 4 g.dropLast
        · rw [take_drop_last (by omega)]
          exact hg
      · have c2 : ¬ 2 * m.most < known ((forget3 m).setRow 4 g) := fun z => c2 (decide_eq_true z)
        rw [ek] at c2
        have eg : g = (forget m).r4 := by
          rw [← hg, List.take_of_length_le (by omega)]
        refine kont H3 ?_ (k3.trans (Kp.of s3))
        have z := R4
        rw [eg] at z
        exact z
end
end Tw
end
section
set_option Elab.async false
set_option linter.all false
set_option maxRecDepth 100000
set_option maxHeartbeats 2000000
/-! resize, flush -/
namespace L2
open PySem PySem.Spec PyProof.Rows
/-- over a list that the body leaves as it is, from its end -/
theorem for_rev {K : PySem.W.Frag} {a : Addr} {xs : List V} {g : TG} {tb : TS} {D : Ends} {σ : St} {H : Hp} (Pv : Nat → St → Hp → Prop) (h0 : Pv 0 σ H) (hl : ∀ i σ H, i ≤ xs.length → Pv i σ H → SqL K H a xs)
    (hs : ∀ i x σ H, xs.reverse[i]? = some x → Pv i σ H → g x σ H fun σ2 H2 => tb { D with nx := Pv (i + 1), ct := Pv (i + 1), bk := D.nx } σ2 H2) (hd : ∀ σ H, Pv xs.length σ H → D.nx σ H) :
    ∃ W : Nat → Nat → St → Hp → Prop, (∃ m, W 0 m σ H) ∧ ∀ i m σ H, W i m σ H →
      ((Itv K a xs.length).stop i H ∧ D.nx σ H) ∨ ((Itv K a xs.length).go i H ∧ ∃ N : St → Hp → Prop, (∀ σ' H', N σ' H' → ∃ m', m' < m ∧ W (i + 1) m' σ' H') ∧ ∀ x H', (Itv K a xs.length).yld i H x H' → g x σ H' fun σ2 H2 => tb { D with nx := N, ct := N, bk := D.nx } σ2 H2) := by
  refine ⟨fun i m σ H => m = xs.length - i ∧ i ≤ xs.length ∧ Pv i σ H, ⟨xs.length, by simp, Nat.zero_le _, h0⟩, ?_⟩
  rintro i m σ H ⟨rfl, hi, p⟩
  have q := hl i σ H hi p
  by_cases hlt : i < xs.length
  · have hx : xs.length - 1 - i < xs.length := by omega
    refine .inr ⟨⟨hlt, xs, xs[xs.length - 1 - i], q, List.getElem?_eq_getElem hx⟩, Pv (i + 1), fun σ' H' p' => ⟨xs.length - (i + 1), by omega, rfl, hlt, p'⟩, fun x H' y => ?_⟩
    obtain ⟨e, y⟩ := y
    subst e
    refine hs i x σ _ ?_ p
    rw [List.getElem?_reverse hlt]
    exact y xs q
  · have e : i = xs.length := by omega
    subst e
    exact .inl ⟨Nat.le_refl _, hd σ H p⟩
end L2
namespace Tw
open PySem PySem.Spec PyProof.Rows L2
def spResize (C : Addr) : Sp := fun vs H Q _ => ∃ (p : Addr) (F : Ft) (m : M) (c : Int), vs = [.ref p, .int c] ∧ Rep C H p F m ∧ (1 ≤ c ∧ c ≤ 64 → CanResize m c) ∧
  ∀ (l : Addr) (H' : Hp), H' l = some (.lst ((resize m c).2.map V.int)) → ¬ In p F l → H l = none → Rep C H' p F (resize m c).1 → Kp p F H H' → Q (.ref l) H'
def spFlush (C : Addr) : Sp := fun vs H Q _ => ∃ (p : Addr) (F : Ft) (m : M), vs = [.ref p] ∧ Rep C H p F m ∧ CanFlush m ∧
  ∀ (l : Addr) (F' : Ft) (H' : Hp), H' l = some (.lst ((flush m).map V.int)) → ¬ In p F' l → H l = none → Rep C H' p F' (blank m.most) → (∀ b o, H b = some o → ¬ In p F b → H' b = some o ∧ (¬ In p F' b)) → Q (.ref l) H'
theorem Rep.off' {C p q : Addr} {H : Hp} {F : Ft} {m : M} {o : HO} (R : Rep C H p F m) (n : ¬ In p F q) : Rep C (upd H q o) p F m := by
  have z : ∀ {b : Addr}, In p F b → upd H q o b = H b := fun {b} h => upd_ne fun e => n (by rw [← e]; exact h)
  obtain ⟨dx, h⟩ := R.ob
  exact ⟨⟨dx, by rw [z (.inl rfl)]; exact h⟩, by rw [z (.inr (.inl rfl))]; exact R.dr, by rw [z (.inr (.inr (.inr (.inl rfl))))]; exact R.l1, by rw [z (.inr (.inr (.inr (.inr (.inl rfl)))))]; exact R.l2,
    by rw [z (.inr (.inr (.inr (.inr (.inr (.inl rfl))))))]; exact R.l3, by rw [z (.inr (.inr (.inr (.inr (.inr (.inr rfl))))))]; exact R.l4, by rw [z (.inr (.inr (.inl rfl)))]; exact R.dh, R.nd, R.n12, R.n13, R.n14, R.n23, R.n24, R.n34⟩
theorem Rep.hold {C p : Addr} {H H' : Hp} {F : Ft} {m : M} (R : Rep C H p F m) (z : ∀ b o, H b = some o → In p F b → H' b = some o) : Rep C H' p F m := by
  obtain ⟨dx, h⟩ := R.ob
  exact ⟨⟨dx, z _ _ h (.inl rfl)⟩, z _ _ R.dr (.inr (.inl rfl)), z _ _ R.l1 (.inr (.inr (.inr (.inl rfl)))), z _ _ R.l2 (.inr (.inr (.inr (.inr (.inl rfl))))),
    z _ _ R.l3 (.inr (.inr (.inr (.inr (.inr (.inl rfl)))))), z _ _ R.l4 (.inr (.inr (.inr (.inr (.inr (.inr rfl)))))), z _ _ R.dh (.inr (.inr (.inl rfl))), R.nd, R.n12, R.n13, R.n14, R.n23, R.n24, R.n34⟩
theorem one_most (m : M) (pl : Int) : (oneGoes m pl).1.most = m.most := by
  have k : ∀ (i j k : Int), (keep m i j k).most = m.most := fun i j k => by
    unfold keep letGo M.setRow
    repeat' split
    all_goals rfl
  unfold oneGoes
  split
  · cases lastOf m 1
    · rfl
    · exact k ..
  · cases lastOf m 2
    · rfl
    · exact k ..
section
variable {P : Program} {w : World} {K : PySem.W.Frag} {mg : Str → Option Value} {base : Heap}
/-- what holds ahead of each turn of resize's loop -/
def ShrI (C p q : Addr) (F : Ft) (c : Int) (N : Nat) (m0 : M) (H : Hp) (n : Nat) (σ : L2.St) (H' : Hp) : Prop :=
  σ = [some (.ref p), some (.int c), some (.ref q)] ∧ ∃ (m : M) (acc : List Int), Rep C H' p F m ∧ Kp p F H H' ∧ H' q = some (.lst ((0 :: acc).map V.int)) ∧ m.most = c ∧ CanShrink n m ∧ acc.length + 2 * n ≤ 2 * N ∧ shrinkM N m0 = ((shrinkM n m).1, acc ++ (shrinkM n m).2)
theorem scResize : FnScope ["self", "most", "answer"] ["self", "most"] (defScope sResize) := ⟨rfl, rfl, rfl, by decide +kernel, rfl, by decide +kernel, by decide +kernel⟩
theorem ok_resize {f C : Addr} {fd : FuncData} (Fn : Fun K "resize" "Cache.resize" sResize f fd) (T : Txt K mg C) (M0 : Glb P w K mg base "may_be_most" 1 ["number"] spMay) (M1 : Mth P w K mg base C "one_goes" 3 ["self", "place"] (spOne C)) (M2 : Mth P w K mg base C "forget_surplus" 3 ["self"] (spSurplus C)) :
    FnOk P w K mg base CX0 4 f fd ["self", "most"] (spResize C) := by
  obtain ⟨f0, fd0, G0, b0, m0, k0⟩ := M0.ex
  refine Fn.ok scResize (fun vs H Q E h => ?_) (fun cdv A outer s H vs Q E hr h => ?_)
  · obtain ⟨p, F, m, c, rfl, _⟩ := h
    rfl
  · obtain ⟨p, F, m, c, rfl, R, can, kont⟩ := h
    refine ⟨_, pss_cons (ps_if (pt_not (pt_val (pe_call G0 (hr.mono (by decide)) rfl m0 k0 b0 .nil pass0 (pa_cons (pv 1) pa_nil)))) (pss_one (ps_ret (pe_lst (pa_cons (pe_un un_neg pe_int) pa_nil)))) pss_nil)
      (pss_cons (ps_fld (pv 0) (pv 1) rfl)
      (pss_cons (ps_fld (pv 0) (pe_callB (call_min2 rfl) (by rfl) T.min boot_min (pa_cons (se_target T) (pa_cons (pv 1) pa_nil))) rfl)
      (pss_cons (ps_set (i := 2) scResize.nd rfl (Or.inl rfl) (pe_lst (pa_cons pe_int pa_nil)))
      (pss_cons (ps_while PassesOwn.never (pt_cmpR op_gt (se_count T) (pv 1) (nomark _))
        (pss_one (ps_expr (pe_bm PySem.F.plainAttrs_list PySem.F.slot_list_extend PySem.F.type_list_extend mt_extend (pv 2) (pa_cons (se_meth T M1 hr (pa_cons (pk T.k0) pa_nil)) pa_nil)))))
      (pss_cons (ps_expr (se_meth0 T M2 hr))
      (pss_one (ps_ret (pv 2)))))))), ?_⟩
    refine ⟨_, rfl, c, rfl, _, rfl, ?_⟩
    refine ite2 (fun c1 => ?_) (fun c1 => ?_)
    · have hc : ¬ (1 ≤ c ∧ c ≤ 64) := by
        rw [Bool.not_eq_true', decide_eq_false_iff_not] at c1
        exact c1
      have e : resize m c = (m, [-1]) := by
        unfold resize
        rw [if_neg hc]
      refine ⟨_, rfl, (by show 1 ≤ sizeLine; decide), fun l fl => ?_⟩
      exact kont l _ (by rw [e]; exact upd_same) (R.fresh fl) fl (by rw [e]; exact R.same (same_new fl)) (Kp.of (same_new fl))
    · have hc : 1 ≤ c ∧ c ≤ 64 := by
        rw [Bool.not_eq_true', decide_eq_false_iff_not, Decidable.not_not] at c1
        exact c1
      obtain ⟨ca, cb, sh⟩ := can hc
      have e : resize m c = (forget (shrinkM m.held.length (fit m c)).1, 0 :: (shrinkM m.held.length (fit m c)).2) := by
        unfold resize
        rw [if_pos hc]
      obtain ⟨dx, hp⟩ := R.ob
      refine ⟨_, rfl, _, rfl, p, C, dx, _, rfl, hp, T.cl, T.nM, (by show 4 < 1000; decide), ?_⟩
      rw [fl_put_most]
      have R1 : Rep C (upd H p (.ins C dx (flds c m.target F.dR F.dH))) p F { m with most := c } := R.setObj (x := c) (y := m.target)
      have k1 : Kp p F H (upd H p (.ins C dx (flds c m.target F.dR F.dH))) := kp_upd (.inl rfl)
      generalize hH1 : upd H p (.ins C dx (flds c m.target F.dR F.dH)) = H1 at R1 k1 ⊢
      have hp1 : H1 p = some (.ins C dx (flds c m.target F.dR F.dH)) := by rw [← hH1]; exact upd_same
      refine ⟨p, F, _, rfl, R1, _, rfl, _, _, rfl, _, rfl, p, C, dx, _, rfl, hp1, T.cl, T.nT, (by show 4 < 1000; decide), ?_⟩
      rw [fl_put_target]
      have R2 : Rep C (upd H1 p (.ins C dx (flds c (if c < m.target then c else m.target) F.dR F.dH))) p F (fit m c) := R1.setObj (x := c) (y := if c < m.target then c else m.target)
      have k2 : Kp p F H (upd H1 p (.ins C dx (flds c (if c < m.target then c else m.target) F.dR F.dH))) := k1.trans (kp_upd (.inl rfl))
      show (tSeq (tAsg (tLst (tCons (tC (.int 0)) tNil)) (gName 2)) _) _ _ (upd H1 p (.ins C dx (flds c (if c < m.target then c else m.target) F.dR F.dH)))
      generalize upd H1 p (.ins C dx (flds c (if c < m.target then c else m.target) F.dR F.dH)) = H2 at R2 k2 ⊢
      refine ⟨(by show 1 ≤ sizeLine; decide), fun q fq => ?_⟩
      have nq := R2.fresh fq
      have s3 := same_new (o := .lst [.int 0]) fq
      refine ⟨ShrI C p q F c m.held.length (fit m c) H, ⟨m.held.length, rfl, fit m c, [], R2.same s3, k2.trans (Kp.of s3), upd_same, rfl, ca, (by show 0 + _ ≤ _; omega), rfl⟩, ?_⟩
      rintro n σ H3 ⟨rfl, m', acc, R3, k3, hq, em, cs, hl, es⟩
      refine ⟨p, F, m', rfl, R3, _, rfl, _, _, rfl, rfl, _, rfl, ?_⟩
      refine ite2 (fun c2 => ?_) (fun c2 => ?_)
      · have c2 : c < (m'.held.length : Int) := of_decide_eq_true c2
        have c2 : m'.most < (m'.held.length : Int) := by rw [em]; exact c2
        cases n with
        | zero => exact absurd c2 cs
        | succ n =>
          obtain ⟨cg, sm, cs2⟩ := cs c2
          have eS : shrinkM (n + 1) m' = ((shrinkM n (oneGoes m' 0).1).1, (oneGoes m' 0).2 ++ (shrinkM n (oneGoes m' 0).1).2) := by
            rw [shrinkM, if_pos c2]
          have ol := one_len m' 0
          refine ⟨fun σ' H' => ∃ n', n' < n + 1 ∧ ShrI C p q F c m.held.length (fit m c) H n' σ' H', fun _ _ z => z, ?_⟩
          refine ⟨_, rfl, .inl ⟨rfl, _, SqL.of hq⟩, p, F, m', rfl, R3, p, F, m', 0, rfl, R3, cg, sm, fun l H4 hl4 nl fl R4 k4 => ?_⟩
          refine ⟨q, l, _, _, rfl, rfl, k4 q _ hq nq, hl4, ?_, ?_⟩
          · rw [List.length_map, List.length_map, List.length_cons]
            exact Nat.le_of_lt (Nat.lt_of_le_of_lt (show acc.length + 1 + (oneGoes m' 0).2.length ≤ 52400 by omega) (by decide))
          refine ⟨n, Nat.lt_succ_self n, rfl, (oneGoes m' 0).1, acc ++ (oneGoes m' 0).2, R4.off' nq, ?_, ?_, ?_, cs2, ?_, ?_⟩
          · intro b o eb nb
            have z := (k3.trans k4) b o eb nb
            have nbq : b ≠ q := fun z2 => by
              rw [z2] at eb
              rw [k2 q o eb nq] at fq
              cases fq
            rw [upd_ne nbq]
            exact z
          · rw [upd_same, ← List.map_append]
            rfl
          · rw [one_most]
            exact em
          · rw [List.length_append]
            omega
          · rw [es, eS, List.append_assoc]
      · have c2 : ¬ m'.most < (m'.held.length : Int) := fun z => c2 (decide_eq_true (by rw [← em]; exact z))
        have eS : shrinkM n m' = (m', []) := by
          cases n with
          | zero => rfl
          | succ n => rw [shrinkM, if_neg c2]
        rw [eS, List.append_nil] at es
        rw [es] at e cb
        refine ⟨p, F, m', rfl, R3, p, F, m', rfl, R3, cb, fun H4 R4 k4 => ?_⟩
        refine ⟨_, rfl, ?_⟩
        exact kont q H4 (by rw [e]; exact k4 q _ hq nq) nq (kp_free k2 fq nq) (by rw [e]; exact R4) (k3.trans k4)
end
end Tw
end
section
set_option Elab.async false
set_option linter.all false
set_option maxRecDepth 100000
set_option maxHeartbeats 2000000
/-! flush -/
namespace Tw
open PySem PySem.Spec PyProof.Rows L2
/-- what is told of one key -/
def tellK (h : List (Int × Int)) (k : Int) : List Int := [k, (look h k).getD 0]
theorem tell_len (h : List (Int × Int)) : ∀ l : List Int, (l.flatMap (tellK h)).length = 2 * l.length
  | [] => rfl
  | k :: l => by
    rw [List.flatMap_cons, List.length_append, tell_len h l]
    show 2 + 2 * l.length = 2 * (l.length + 1)
    omega
theorem back_eq (h : List (Int × Int)) (l : List Int) : back h l = l.reverse.flatMap (tellK h) := rfl
/-- what is told of the first i rows -/
def toldRows (m : M) (i : Nat) : List Int := (m.held.length : Int) :: (([back m.held m.r1, back m.held m.r2] : List (List Int)).take i).flatten
theorem told_len {m : M} (sm : Small m) (i : Nat) : (toldRows m i).length ≤ 4001 := by
  have h1 := sm.s1
  have h2 := sm.s2
  have a : (back m.held m.r1).length = 2 * m.r1.length := by rw [back_eq, tell_len, List.length_reverse]
  have b : (back m.held m.r2).length = 2 * m.r2.length := by rw [back_eq, tell_len, List.length_reverse]
  unfold toldRows
  match i with
  | 0 => show 1 ≤ 4001; omega
  | 1 =>
    show ((m.held.length : Int) :: (back m.held m.r1 ++ [])).length ≤ 4001
    rw [List.length_cons, List.append_nil, a]
    omega
  | i + 2 =>
    show ((m.held.length : Int) :: (back m.held m.r1 ++ (back m.held m.r2 ++ (List.take i []).flatten))).length ≤ 4001
    rw [List.take_nil, List.length_cons, List.length_append, List.length_append, a, b]
    show 2 * m.r1.length + (2 * m.r2.length + 0) + 1 ≤ 4001
    omega
section
variable {P : Program} {w : World} {K : PySem.W.Frag} {mg : Str → Option Value} {base : Heap}
theorem scFlush : FnScope ["self", "answer", "place", "key"] ["self"] (defScope sFlush) := ⟨rfl, rfl, rfl, by decide +kernel, rfl, by decide +kernel, by decide +kernel⟩
theorem ok_flush {f C : Addr} {fd : FuncData} (Fn : Fun K "flush" "Cache.flush" sFlush f fd) (T : Txt K mg C) (M1 : Mth P w K mg base C "forget_all" 1 ["self"] (spForget C)) : FnOk P w K mg base CX0 2 f fd ["self"] (spFlush C) := by
  refine Fn.ok scFlush (fun vs H Q E h => ?_) (fun cdv A outer s H vs Q E hr h => ?_)
  · obtain ⟨p, F, m, rfl, _⟩ := h
    rfl
  · obtain ⟨p, F, m, rfl, R, can, kont⟩ := h
    have hu := hu_of hr
    refine ⟨_, pss_cons (ps_set (i := 1) scFlush.nd rfl (Or.inl rfl) (pe_lst (pa_cons (se_count T) pa_nil)))
      (pss_cons (ps_for PassesOwn.never rfl (pi_tup (pe_tup (pa_cons (pk T.k1) (pa_cons (pk T.k2) pa_nil)))) (pg_name (i := 2) scFlush.nd rfl (Or.inl rfl))
        (pss_one (ps_for PassesOwn.never rfl (pi_reversed (by rfl) T.rev (pa_cons (se_rowv 2 T hu) pa_nil)) (pg_name (i := 3) scFlush.nd rfl (Or.inl rfl))
          (pss_one (ps_expr (pe_bm PySem.F.plainAttrs_list PySem.F.slot_list_extend PySem.F.type_list_extend mt_extend (pv 1) (pa_cons (pe_lst (pa_cons (pv 3) (pa_cons (pe_dget hu (se_held T) (pv 3) (fun _ _ => rfl)) pa_nil))) pa_nil)))))))
      (pss_cons (ps_expr (se_meth0 T M1 hr))
      (pss_one (ps_ret (pv 1))))), ?_⟩
    refine ⟨p, F, m, rfl, R, (by show 1 ≤ sizeLine; decide), fun q fq => ?_⟩
    have nq := R.fresh fq
    have s1 := same_new (o := .lst [.int (m.held.length : Nat)]) fq
    generalize hH1 : upd H q (.lst [.int (m.held.length : Nat)]) = H1 at s1 ⊢
    have hq1 : H1 q = some (.lst [.int (m.held.length : Nat)]) := by rw [← hH1]; exact upd_same
    refine ⟨(by show 2 ≤ sizeLine; decide), fun t ft => ?_⟩
    have s2 := same_new (o := .tup [.int 1, .int 2]) ft
    generalize hH2 : upd H1 t (.tup [.int 1, .int 2]) = H2 at s2 ⊢
    have hT : H2 t = some (.tup [.int 1, .int 2]) := by rw [← hH2]; exact upd_same
    have hq2 : H2 q = some (.lst [.int (m.held.length : Nat)]) := s2 _ _ hq1
    have ntq : t ≠ q := fun z => by
      rw [z, hq1] at ft
      cases ft
    have R2 := R.same (s1.trans s2)
    refine ⟨t, rfl, ⟨_, SqT.of hT⟩, for_tup (K := K) (a := t) (xs := [.int 1, .int 2]) (fun i σ H' => ∃ v k : Option V, σ = [some (.ref p), some (.ref q), v, k] ∧ H' q = some (.lst ((toldRows m i).map V.int)) ∧ ∀ b o, H2 b = some o → b ≠ q → H' b = some o)
      ⟨none, none, rfl, hq2, fun b o e _ => e⟩ (fun i σ H' _ ⟨_, _, _, _, h⟩ => SqT.of (h _ _ hT ntq)) ?_ ?_⟩
    · rintro i x σ H3 hi ⟨v, k, rfl, hq3, h3⟩
      have hx : ∃ j : Int, x = .int j ∧ 1 ≤ j ∧ j ≤ 2 ∧ i < 2 ∧ toldRows m (i + 1) = toldRows m i ++ (m.row j).reverse.flatMap (tellK m.held) ∧ (m.row j).length ≤ 1000 ∧ (∀ k, k ∈ m.row j → (look m.held k).isSome = true) := by
        match i, hi with
        | 0, hi => exact ⟨1, (Option.some.inj hi).symm, by omega, by omega, by omega, by show (m.held.length : Int) :: (back m.held m.r1 ++ []) = _; rw [List.append_nil]; rfl, can.sm.s1, fun k z => can.a k (.inl z)⟩
        | 1, hi => exact ⟨2, (Option.some.inj hi).symm, by omega, by omega, by omega, by show (m.held.length : Int) :: (back m.held m.r1 ++ (back m.held m.r2 ++ [])) = (m.held.length : Int) :: ((back m.held m.r1 ++ []) ++ back m.held m.r2); rw [List.append_nil, List.append_nil], can.sm.s2, fun k z => can.a k (.inr z)⟩
        | i + 2, hi => simp at hi
      obtain ⟨j, rfl, j1, j2, hi2, et, hlen, hsome⟩ := hx
      have R3 : Rep C H3 p F m := R2.hold fun b o e hb => h3 b o e (fun z => nq (by rw [← z]; exact hb))
      refine ⟨p, F, m, j, rfl, rfl, j1, by omega, R3, F.at j, (m.row j).map V.int, rfl, SqL.of (R3.row j), ?_⟩
      refine for_rev (K := K) (a := F.at j) (xs := (m.row j).map V.int) (fun n σ H' => ∃ k : Option V, σ = [some (.ref p), some (.ref q), some (.int j), k] ∧ H' q = some (.lst ((toldRows m i ++ ((m.row j).reverse.take n).flatMap (tellK m.held)).map V.int)) ∧ ∀ b o, H2 b = some o → b ≠ q → H' b = some o)
        ⟨k, rfl, (by rw [List.take_zero, List.flatMap_nil, List.append_nil]; exact hq3), h3⟩ ?_ ?_ ?_
      · rintro n σ H' _ ⟨_, _, _, h⟩
        have R' : Rep C H' p F m := R2.hold fun b o e hb => h b o e (fun z => nq (by rw [← z]; exact hb))
        exact SqL.of (R'.row j)
      · rintro n x σ H4 hn ⟨k, rfl, hq4, h4⟩
        rw [← List.map_reverse, List.getElem?_map] at hn
        obtain ⟨y, hy, rfl⟩ := Option.map_eq_some_iff.mp hn
        have R4 : Rep C H4 p F m := R2.hold fun b o e hb => h4 b o e (fun z => nq (by rw [← z]; exact hb))
        have hmem : y ∈ m.row j := List.mem_reverse.mp (List.mem_of_getElem? hy)
        obtain ⟨v, hv⟩ := isSome_ex (hsome y hmem)
        have hg : DGet H4 F.dH (.int y) (some (.int v)) := by
          have z := DGet.k (k := Sum.inl y) R4.dh
          rw [val_enc, hv] at z
          exact z
        obtain ⟨hlt, hge⟩ := List.getElem?_eq_some_iff.mp hy
        have hlt2 : n < (m.row j).length := by
          rw [List.length_reverse] at hlt
          exact hlt
        refine ⟨_, rfl, .inl ⟨rfl, _, SqL.of hq4⟩, _, rfl, p, F, m, rfl, R4, _, rfl, F.dH, _, rfl, hg, (by show 2 ≤ sizeLine; decide), fun l fl => ?_⟩
        have nlq : q ≠ l := ne_of_none hq4 fl
        refine ⟨q, l, _, _, rfl, rfl, (by rw [upd_ne nlq]; exact hq4), upd_same, ?_, ?_⟩
        · rw [List.length_map, List.length_append, tell_len, List.length_take]
          have tl := told_len can.sm i
          have z : min n (m.row j).reverse.length ≤ n := Nat.min_le_left _ _
          exact Nat.le_of_lt (Nat.lt_of_le_of_lt (show (toldRows m i).length + 2 * min n (m.row j).reverse.length + 2 ≤ 52400 by omega) (by decide))
        refine ⟨_, rfl, ?_, fun b o e nb => ?_⟩
        · rw [upd_same, List.take_succ_eq_append_getElem hlt, hge, List.flatMap_append, ← List.append_assoc, List.map_append (l₁ := toldRows m i ++ _)]
          show _ = some (HO.lst (_ ++ List.map V.int ([y, (look m.held y).getD 0] ++ [])))
          rw [hv]
          rfl
        · have z := h4 b o e nb
          rw [upd_ne nb, upd_ne (ne_of_none z fl)]
          exact z
      · rintro σ H4 ⟨k, rfl, hq4, h4⟩
        refine ⟨_, _, rfl, ?_, h4⟩
        rw [et, hq4, List.length_map, ← List.length_reverse, List.take_length]
    · rintro σ H3 ⟨v, k, rfl, hq3, h3⟩
      have R3 : Rep C H3 p F m := R2.hold fun b o e hb => h3 b o e (fun z => nq (by rw [← z]; exact hb))
      have ef : toldRows m 2 = flush m := by
        show (m.held.length : Int) :: (back m.held m.r1 ++ (back m.held m.r2 ++ [])) = (m.held.length : Int) :: (back m.held m.r1 ++ back m.held m.r2)
        rw [List.append_nil]
      have hq3 : H3 q = some (.lst ((flush m).map V.int)) := by rw [← ef]; exact hq3
      obtain ⟨dx, hp⟩ := R3.ob
      refine ⟨p, F, m, rfl, R3, p, dx, _, m.most, rfl, hp, (by show 4 ≤ 10; decide), fun r h => ?_, fun F' H' R' fr => ?_⟩
      · rw [fl_put_target, fl_put_rows, fl_put_held]
      · have nqp : q ≠ p := fun z => nq (.inl z)
        obtain ⟨hq5, nq5⟩ := fr q _ hq3 nqp
        refine ⟨_, rfl, kont q F' H' hq5 nq5 fq R' fun b o e nb => ?_⟩
        have nbq : b ≠ q := ne_of_none e fq
        exact fr b o (h3 b o (s2 _ _ (s1 _ _ e)) nbq) (fun z => nb (.inl z))
end
end Tw
end
section
set_option linter.all false
/-! The mirror does what the specification says. -/
namespace Tw
def nz (l : List Nat) : List Int := l.map fun n : Nat => (n : Int)
def ce (l : List Ac.Entry) : List (Int × Int) := l.map fun e => ((e.1 : Int), (e.2 : Int))
def flatE (l : List Ac.Entry) : List Int := l.flatMap fun e => [(e.1 : Int), (e.2 : Int)]
structure Rows (s : Ac.St) (m : M) : Prop where
  most : m.most = (s.most : Int)
  target : m.target = (s.target : Int)
  r1 : m.r1 = nz (ks s.recent)
  r2 : m.r2 = nz (ks s.frequent)
  r3 : m.r3 = nz s.once
  r4 : m.r4 = nz s.again
structure Rel (s : Ac.St) (m : M) : Prop where
  rows : Rows s m
  held : m.held.Perm (ce s.held)
theorem nz_len (l : List Nat) : (nz l).length = l.length := List.length_map ..
theorem ce_len (l : List Ac.Entry) : (ce l).length = l.length := List.length_map ..
theorem nz_cons (n : Nat) (l : List Nat) : nz (n :: l) = (n : Int) :: nz l := rfl
theorem nz_mem {l : List Nat} {k : Nat} : (k : Int) ∈ nz l ↔ k ∈ l := by
  unfold nz
  rw [List.mem_map]
  exact ⟨fun ⟨n, h, e⟩ => by have e : n = k := by omega
                             rw [← e]; exact h, fun h => ⟨k, h, rfl⟩⟩
theorem nz_dropLast (l : List Nat) : (nz l).dropLast = nz l.dropLast := (List.map_dropLast ..).symm
theorem nz_last (l : List Nat) : (nz l).getLast? = l.getLast?.map fun n : Nat => (n : Int) := List.getLast?_map ..
theorem nz_erase {k : Nat} : ∀ {l : List Nat}, l.count k ≤ 1 → (nz l).erase (k : Int) = nz (Ac.rid l k)
  | [], _ => rfl
  | x :: l, h => by
    unfold Ac.rid
    rw [List.filter_cons, nz_cons]
    rw [List.count_cons] at h
    by_cases e : x = k
    · subst e
      rw [List.erase_cons_head]
      simp at h
      have := rid_none h
      unfold Ac.rid at this
      simp [this]
    · have e2 : ¬ (x : Int) = (k : Int) := by omega
      rw [List.erase_cons_tail (by simpa using e2)]
      have e3 : (x != k) = true := by simpa using e
      have ih := nz_erase (k := k) (l := l) (by omega)
      rw [ih, if_pos e3]
      rfl
theorem nz_erase_none {k : Nat} {l : List Nat} (h : l.count k = 0) : Ac.rid l k = l := rid_none h
/-! ### the dict -/
def fs (h : List (Int × Int)) : List Int := h.map fun e => e.1
theorem look_mem {h : List (Int × Int)} {k v : Int} (e : look h k = some v) : (k, v) ∈ h := by
  unfold look at e
  rw [Option.map_eq_some_iff] at e
  obtain ⟨x, hx, rfl⟩ := e
  have h1 := List.find?_some hx
  have h1 : x.1 = k := of_decide_eq_true h1
  have h2 := List.mem_of_find?_eq_some hx
  rw [← h1]
  exact h2
theorem look_none {h : List (Int × Int)} {k : Int} (e : look h k = none) (v : Int) : ¬ (k, v) ∈ h := by
  unfold look at e
  rw [Option.map_eq_none_iff, List.find?_eq_none] at e
  intro q
  exact e _ q (decide_eq_true rfl)
theorem value_mem {l : List Ac.Entry} {k v : Nat} (e : Ac.valueIn l k = some v) : (k, v) ∈ l := by
  unfold Ac.valueIn at e
  rw [Option.map_eq_some_iff] at e
  obtain ⟨x, hx, rfl⟩ := e
  have h1 := List.find?_some hx
  have h1 : x.1 = k := by simpa using h1
  have h2 := List.mem_of_find?_eq_some hx
  rw [← h1]
  exact h2
theorem mem_count {l : List Ac.Entry} {k v : Nat} (h : (k, v) ∈ l) : 0 < (ks l).count k := List.count_pos_iff.mpr (List.mem_map.mpr ⟨_, h, rfl⟩)
theorem uniq {k : Nat} : ∀ {l : List Ac.Entry} {v w : Nat}, (ks l).count k ≤ 1 → (k, v) ∈ l → (k, w) ∈ l → v = w
  | [], _, _, _, h, _ => by cases h
  | e :: l, v, w, c, h1, h2 => by
    rw [ks_cons, List.count_cons] at c
    rcases List.mem_cons.mp h1 with a | a
    · rcases List.mem_cons.mp h2 with b | b
      · rw [← a] at b
        exact (Prod.mk.inj b).2.symm
      · have := mem_count b
        rw [← a] at c
        simp at c
        omega
    · rcases List.mem_cons.mp h2 with b | b
      · have := mem_count a
        rw [← b] at c
        simp at c
        omega
      · exact uniq (by omega) a b
theorem mem_value {l : List Ac.Entry} {k v : Nat} (c : (ks l).count k ≤ 1) (h : (k, v) ∈ l) : Ac.valueIn l k = some v := by
  cases e : Ac.valueIn l k with
  | none =>
    have := valueIn_none.mp e
    have := mem_count h
    omega
  | some w => rw [uniq c (value_mem e) h]
theorem mem_ce {l : List Ac.Entry} {k : Nat} {v : Int} : ((k : Int), v) ∈ ce l ↔ ∃ w : Nat, v = (w : Int) ∧ (k, w) ∈ l := by
  unfold ce
  rw [List.mem_map]
  constructor
  · rintro ⟨e, he, q⟩
    have q1 : (e.1 : Int) = (k : Int) := (Prod.mk.inj q).1
    have q2 : (e.2 : Int) = v := (Prod.mk.inj q).2
    refine ⟨e.2, q2.symm, ?_⟩
    have q3 : e.1 = k := by omega
    rw [← q3]
    exact he
  · rintro ⟨w, rfl, h⟩
    exact ⟨_, h, rfl⟩
theorem look_eq {l : List Ac.Entry} {h : List (Int × Int)} {k : Nat} (p : h.Perm (ce l)) (c : (ks l).count k ≤ 1) : look h (k : Int) = (Ac.valueIn l k).map fun n : Nat => (n : Int) := by
  cases e : look h (k : Int) with
  | none =>
    cases e2 : Ac.valueIn l k with
    | none => rfl
    | some w => exact absurd (p.mem_iff.mpr (mem_ce.mpr ⟨w, rfl, value_mem e2⟩)) (look_none e _)
  | some v =>
    obtain ⟨w, rfl, hw⟩ := mem_ce.mp (p.mem_iff.mp (look_mem e))
    rw [mem_value c hw]
    rfl
theorem fs_ce (l : List Ac.Entry) : fs (ce l) = nz (ks l) := by
  unfold fs ce nz ks
  rw [List.map_map, List.map_map]
  rfl
theorem nz_count (l : List Nat) (k : Nat) : (nz l).count (k : Int) = l.count k := by
  induction l with
  | nil => rfl
  | cons x l ih =>
    rw [nz_cons, List.count_cons, List.count_cons, ih]
    by_cases e : x = k
    · subst e
      simp
    · have e2 : ¬ (x : Int) = (k : Int) := by omega
      simp [e, e2]
theorem fs_count {l : List Ac.Entry} {h : List (Int × Int)} (p : h.Perm (ce l)) (k : Nat) : (fs h).count (k : Int) = (ks l).count k := by
  have q : (fs h).Perm (fs (ce l)) := p.map _
  rw [q.count_eq, fs_ce, nz_count]
theorem drop_ce (l : List Ac.Entry) (k : Nat) : hdrop (ce l) (k : Int) = ce (Ac.without l k) := by
  unfold hdrop ce Ac.without
  rw [List.filter_map]
  congr 1
  congr 1
  funext e
  simp only [Function.comp]
  by_cases q : e.1 = k
  · subst q
    simp
  · have q2 : ¬ (e.1 : Int) = (k : Int) := by omega
    simp [q, q2]
theorem drop_perm {l : List Ac.Entry} {h : List (Int × Int)} (p : h.Perm (ce l)) (k : Nat) : (hdrop h (k : Int)).Perm (ce (Ac.without l k)) := by
  rw [← drop_ce]
  exact p.filter _
theorem hdrop_none {h : List (Int × Int)} {k : Int} (c : (fs h).count k = 0) : hdrop h k = h := by
  unfold hdrop
  rw [List.filter_eq_self]
  intro e he
  rw [List.count_eq_zero] at c
  exact decide_eq_true fun q => c (List.mem_map.mpr ⟨e, he, q⟩)
theorem map_none {h : List (Int × Int)} {k v : Int} (c : (fs h).count k = 0) : h.map (fun e => if e.1 = k then (e.1, v) else e) = h := by
  conv => rhs; rw [← List.map_id h]
  refine List.map_congr_left fun e he => ?_
  rw [List.count_eq_zero] at c
  rw [if_neg fun q => c (List.mem_map.mpr ⟨e, he, q⟩)]
  rfl
theorem map_perm {k v : Int} : ∀ {h : List (Int × Int)}, (fs h).count k = 1 → (h.map (fun e => if e.1 = k then (e.1, v) else e)).Perm ((k, v) :: hdrop h k)
  | [], c => by cases c
  | e :: h, c => by
    have c : ((e.1 :: fs h).count k) = 1 := c
    rw [List.count_cons] at c
    by_cases q : e.1 = k
    · have c0 : (fs h).count k = 0 := by
        rw [if_pos (by simpa using q)] at c
        omega
      rw [List.map_cons, if_pos q, map_none c0, q]
      have : hdrop (e :: h) k = hdrop h k := by
        unfold hdrop
        rw [List.filter_cons, if_neg (by simpa using q)]
      rw [this, hdrop_none c0]
    · have c1 : (fs h).count k = 1 := by
        rw [if_neg (by simpa using q)] at c
        omega
      have : hdrop (e :: h) k = e :: hdrop h k := by
        unfold hdrop
        rw [List.filter_cons, if_pos (by simpa using q)]
      rw [List.map_cons, if_neg q, this]
      exact ((map_perm c1).cons e).trans (List.Perm.swap ..)
theorem any_iff {h : List (Int × Int)} {k : Int} : (h.any fun e => decide (e.1 = k)) = true ↔ 0 < (fs h).count k := by
  rw [List.any_eq_true, List.count_pos_iff]
  unfold fs
  rw [List.mem_map]
  exact ⟨fun ⟨e, a, b⟩ => ⟨e, a, of_decide_eq_true b⟩, fun ⟨e, a, b⟩ => ⟨e, a, decide_eq_true b⟩⟩
theorem hput_perm {h : List (Int × Int)} {k v : Int} (c : (fs h).count k ≤ 1) : (hput h k v).Perm ((k, v) :: hdrop h k) := by
  unfold hput
  by_cases q : (h.any fun e => decide (e.1 = k)) = true
  · rw [if_pos q]
    have := any_iff.mp q
    exact map_perm (by omega)
  · rw [if_neg q]
    rw [any_iff] at q
    rw [hdrop_none (by omega)]
    exact List.perm_append_singleton ..
theorem perm_without {k v : Nat} : ∀ {l : List Ac.Entry}, (ks l).count k ≤ 1 → (k, v) ∈ l → l.Perm ((k, v) :: Ac.without l k)
  | [], _, h => by cases h
  | e :: l, c, h => by
    rw [ks_cons, List.count_cons] at c
    rcases List.mem_cons.mp h with a | a
    · subst a
      simp at c
      have c0 : (ks l).count k = 0 := by first | exact c | exact List.count_eq_zero.mpr c
      have : Ac.without ((k, v) :: l) k = Ac.without l k := by
        unfold Ac.without
        rw [List.filter_cons, if_neg (by simp)]
      rw [this, without_none c0]
    · have := mem_count a
      have q : ¬ e.1 = k := fun q => by
        rw [if_pos (by simpa using q)] at c
        omega
      have e2 : Ac.without (e :: l) k = e :: Ac.without l k := by
        unfold Ac.without
        rw [List.filter_cons, if_pos (by simpa using q)]
      rw [e2]
      exact ((perm_without (by omega) a).cons e).trans (List.Perm.swap ..)
theorem without_app (a b : List Ac.Entry) (k : Nat) : Ac.without (a ++ b) k = Ac.without a k ++ Ac.without b k := List.filter_append ..
theorem ce_app (a b : List Ac.Entry) : ce (a ++ b) = ce a ++ ce b := List.map_append ..
theorem ce_cons (k v : Nat) (b : List Ac.Entry) : ce ((k, v) :: b) = ((k : Int), (v : Int)) :: ce b := rfl
theorem ce_perm {a b : List Ac.Entry} (p : a.Perm b) : (ce a).Perm (ce b) := p.map _
theorem rel_len {s : Ac.St} {m : M} (R : Rel s m) : m.held.length = s.recent.length + s.frequent.length := by
  rw [R.held.length_eq, ce_len, held_len]
/-! ### places -/
theorem isSome_count {l : List Ac.Entry} {k : Nat} : (Ac.valueIn l k).isSome = true ↔ k ∈ ks l := by
  rw [← List.count_pos_iff]
  cases e : Ac.valueIn l k with
  | none =>
    have := valueIn_none.mp e
    constructor
    · intro z
      cases z
    · intro z
      omega
  | some v =>
    have := mem_count (value_mem e)
    exact ⟨fun _ => this, fun _ => rfl⟩
theorem place_rel {s : Ac.St} {m : M} (R : Rows s m) (k : Nat) : place m (k : Int) = Ac.placeOf s k := by
  unfold place Ac.placeOf
  rw [R.r1, R.r2, R.r3, R.r4]
  simp only [nz_mem, isSome_count, List.contains_iff_mem]
theorem nd_held {s : Ac.St} (nd : ∀ a, (ks s.recent).count a + (ks s.frequent).count a + s.once.count a + s.again.count a ≤ 1) (k : Nat) : (ks s.held).count k ≤ 1 := by
  have := nd k
  rw [count_held]
  omega
/-- no key twice -/
def Nd (s : Ac.St) : Prop := ∀ a, (ks s.recent).count a + (ks s.frequent).count a + s.once.count a + s.again.count a ≤ 1
theorem mem_r1 {s : Ac.St} {m : M} (R : Rows s m) {k : Nat} : (k : Int) ∈ m.r1 ↔ 0 < (ks s.recent).count k := by rw [R.r1, nz_mem, List.count_pos_iff]
theorem mem_r2 {s : Ac.St} {m : M} (R : Rows s m) {k : Nat} : (k : Int) ∈ m.r2 ↔ 0 < (ks s.frequent).count k := by rw [R.r2, nz_mem, List.count_pos_iff]
theorem mem_r3 {s : Ac.St} {m : M} (R : Rows s m) {k : Nat} : (k : Int) ∈ m.r3 ↔ 0 < s.once.count k := by rw [R.r3, nz_mem, List.count_pos_iff]
theorem mem_r4 {s : Ac.St} {m : M} (R : Rows s m) {k : Nat} : (k : Int) ∈ m.r4 ↔ 0 < s.again.count k := by rw [R.r4, nz_mem, List.count_pos_iff]
theorem place0 {s : Ac.St} {m : M} (R : Rows s m) {k : Nat} : place m (k : Int) = 0 ↔ (ks s.recent).count k + (ks s.frequent).count k + s.once.count k + s.again.count k = 0 := by
  unfold place
  simp only [mem_r1 R, mem_r2 R, mem_r3 R, mem_r4 R]
  split
  · constructor
    · intro z; cases z
    · intro z; omega
  · split
    · constructor
      · intro z; cases z
      · intro z; omega
    · split
      · constructor
        · intro z; cases z
        · intro z; omega
      · split
        · constructor
          · intro z; cases z
          · intro z; omega
        · constructor
          · intro _; omega
          · intro _; rfl
/-- what stands where a key was taken out -/
structure Out (s : Ac.St) (m : M) (k : Nat) : Prop where
  most : m.most = (s.most : Int)
  target : m.target = (s.target : Int)
  r1 : m.r1 = nz (Ac.rid (ks s.recent) k)
  r2 : m.r2 = nz (Ac.rid (ks s.frequent) k)
  r3 : m.r3 = nz (Ac.rid s.once k)
  r4 : m.r4 = nz (Ac.rid s.again k)
theorem out_rel {s : Ac.St} {m : M} (R : Rows s m) (nd : Nd s) {k : Nat} (hk : ¬ place m (k : Int) = 0) : Out s (takeOut m (k : Int)) k := by
  have n := nd k
  unfold takeOut
  unfold place at hk ⊢
  by_cases c1 : (k : Int) ∈ m.r1
  · have z := (mem_r1 R).mp c1
    simp only [c1, if_true]
    refine ⟨R.most, R.target, ?_, ?_, ?_, ?_⟩
    · show m.r1.erase _ = _
      rw [R.r1, nz_erase (by omega)]
    · show m.r2 = _
      rw [rid_none (by omega)]; exact R.r2
    · show m.r3 = _
      rw [rid_none (by omega)]; exact R.r3
    · show m.r4 = _
      rw [rid_none (by omega)]; exact R.r4
  · have z1 := fun q => c1 ((mem_r1 R).mpr q)
    simp only [c1, if_false] at hk ⊢
    by_cases c2 : (k : Int) ∈ m.r2
    · have z := (mem_r2 R).mp c2
      simp only [c2, if_true]
      refine ⟨R.most, R.target, ?_, ?_, ?_, ?_⟩
      · show m.r1 = _
        rw [rid_none (by omega)]; exact R.r1
      · show m.r2.erase _ = _
        rw [R.r2, nz_erase (by omega)]
      · show m.r3 = _
        rw [rid_none (by omega)]; exact R.r3
      · show m.r4 = _
        rw [rid_none (by omega)]; exact R.r4
    · have z2 := fun q => c2 ((mem_r2 R).mpr q)
      simp only [c2, if_false] at hk ⊢
      by_cases c3 : (k : Int) ∈ m.r3
      · have z := (mem_r3 R).mp c3
        simp only [c3, if_true]
        refine ⟨R.most, R.target, ?_, ?_, ?_, ?_⟩
        · show m.r1 = _
          rw [rid_none (by omega)]; exact R.r1
        · show m.r2 = _
          rw [rid_none (by omega)]; exact R.r2
        · show m.r3.erase _ = _
          rw [R.r3, nz_erase (by omega)]
        · show m.r4 = _
          rw [rid_none (by omega)]; exact R.r4
      · have z3 := fun q => c3 ((mem_r3 R).mpr q)
        simp only [c3, if_false] at hk ⊢
        by_cases c4 : (k : Int) ∈ m.r4
        · have z := (mem_r4 R).mp c4
          simp only [c4, if_true]
          refine ⟨R.most, R.target, ?_, ?_, ?_, ?_⟩
          · show m.r1 = _
            rw [rid_none (by omega)]; exact R.r1
          · show m.r2 = _
            rw [rid_none (by omega)]; exact R.r2
          · show m.r3 = _
            rw [rid_none (by omega)]; exact R.r3
          · show m.r4.erase _ = _
            rw [R.r4, nz_erase (by omega)]
        · simp only [c4, if_false] at hk
          exact absurd trivial hk
theorem setRow_held' (m : M) (i : Int) (l : List Int) : (m.setRow i l).held = m.held := by
  unfold M.setRow
  split
  · rfl
  · split
    · rfl
    · split <;> rfl
theorem move_held (m : M) (k : Int) : (moveF m k).held = m.held := by
  unfold moveF takeOut
  rw [setRow_held', setRow_held']
/-- a key taken out and put first among the frequent ones -/
theorem move_rel {s : Ac.St} {m : M} (R : Rows s m) (nd : Nd s) {k : Nat} (hk : ¬ place m (k : Int) = 0) (v : Nat) :
    Rows { s with recent := Ac.without s.recent k, frequent := (k, v) :: Ac.without s.frequent k, once := Ac.rid s.once k, again := Ac.rid s.again k } (moveF m (k : Int)) := by
  have O := out_rel R nd hk
  refine ⟨O.most, O.target, ?_, ?_, O.r3, O.r4⟩
  · show (takeOut m (k : Int)).r1 = nz (ks (Ac.without s.recent k))
    rw [ks_without]
    exact O.r1
  · show (k : Int) :: (takeOut m (k : Int)).r2 = nz (ks ((k, v) :: Ac.without s.frequent k))
    rw [ks_cons, nz_cons, ks_without, ← O.r2]
/-! ### one goes -/
theorem look_held {s : Ac.St} {m : M} (R : Rel s m) (nd : Nd s) (k : Nat) : look m.held (k : Int) = (Ac.valueIn s.held k).map fun n : Nat => (n : Int) := look_eq R.held (nd_held nd k)
theorem cond_rel {s : Ac.St} {m : M} (R : Rows s m) {back : Bool} {pl : Int} (hb : back = true ↔ pl = 4) : goesCond m pl ↔ goesRecent s back := by
  unfold goesCond goesRecent
  rw [R.r1, nz_len, ks_len, R.target, hb]
  have e : s.recent ≠ [] ↔ 0 < s.recent.length := (List.length_pos_iff (l := s.recent)).symm
  rw [e]
  constructor
  · rintro ⟨a, b | b⟩
    · exact ⟨a, .inl (by omega)⟩
    · exact ⟨a, .inr ⟨b.2, by omega⟩⟩
  · rintro ⟨a, b | b⟩
    · exact ⟨a, .inl (by omega)⟩
    · exact ⟨a, .inr ⟨by omega, b.1⟩⟩
theorem one_rel {s : Ac.St} {m : M} (R : Rel s m) (nd : Nd s) {back : Bool} {pl : Int} (hb : back = true ↔ pl = 4) (hp : s.frequent = [] → s.target < s.recent.length) :
    CanGo m pl ∧ Rel (Ac.oneGoes s back).1 (oneGoes m pl).1 ∧ (oneGoes m pl).2 = flatE (Ac.oneGoes s back).2 := by
  have hc := cond_rel R.rows hb
  rcases oneGoes_eq (back := back) hp with ⟨ys, e, c, h, q⟩ | ⟨ys, e, c, h, q⟩
  · have cm := hc.mpr c
    have ne := nd e.1
    have c0 : (ks ys).count e.1 = 0 ∧ (ks s.frequent).count e.1 = 0 := by
      rw [h, ks_app, List.count_append] at ne
      have z : (ks [e]).count e.1 = 1 := by simp [ks]
      omega
    have hl : lastOf m 1 = some ((e.1 : Int), (e.2 : Int)) := by
      have h1 : (m.row 1).getLast? = some (e.1 : Int) := by
        show m.r1.getLast? = _
        rw [R.rows.r1, nz_last, h, ks_app]
        show ((ks ys ++ [e.1]).getLast?).map _ = _
        rw [List.getLast?_concat]
        rfl
      have h2 : look m.held (e.1 : Int) = some (e.2 : Int) := by
        rw [look_held R nd, mem_value (nd_held nd e.1) (v := e.2) ?_]
        · rfl
        · show (e.1, e.2) ∈ s.recent ++ s.frequent
          rw [h]
          simp
      unfold lastOf
      rw [h1]
      show (look m.held (e.1 : Int)).map _ = _
      rw [h2]
      rfl
    have e1 : oneGoes m pl = (keep m 1 3 (e.1 : Int), [(e.1 : Int), (e.2 : Int)]) := by
      unfold oneGoes
      rw [if_pos cm, hl]
    rw [q, e1]
    refine ⟨⟨fun _ => by rw [hl]; rfl, fun z => absurd cm z⟩, ⟨⟨R.rows.most, R.rows.target, ?_, R.rows.r2, ?_, R.rows.r4⟩, ?_⟩, rfl⟩
    · show m.r1.dropLast = nz (ks ys)
      rw [R.rows.r1, nz_dropLast, h, ks_app]
      show nz (ks ys ++ [e.1]).dropLast = _
      rw [List.dropLast_concat]
    · show (e.1 : Int) :: m.r3 = nz (e.1 :: s.once)
      rw [R.rows.r3]
      rfl
    · show (hdrop m.held (e.1 : Int)).Perm (ce (ys ++ s.frequent))
      have z := drop_perm R.held e.1
      have z2 : Ac.without s.held e.1 = ys ++ s.frequent := by
        show Ac.without (s.recent ++ s.frequent) e.1 = _
        rw [h, without_app, without_app, without_none c0.1, without_none c0.2]
        have z3 : Ac.without [e] e.1 = [] := by simp [Ac.without]
        rw [z3, List.append_nil]
      rw [z2] at z
      exact z
  · have cm := fun z => c (hc.mp z)
    have ne := nd e.1
    have c0 : (ks ys).count e.1 = 0 ∧ (ks s.recent).count e.1 = 0 := by
      rw [h, ks_app, List.count_append] at ne
      have z : (ks [e]).count e.1 = 1 := by simp [ks]
      omega
    have hl : lastOf m 2 = some ((e.1 : Int), (e.2 : Int)) := by
      have h1 : (m.row 2).getLast? = some (e.1 : Int) := by
        show m.r2.getLast? = _
        rw [R.rows.r2, nz_last, h, ks_app]
        show ((ks ys ++ [e.1]).getLast?).map _ = _
        rw [List.getLast?_concat]
        rfl
      have h2 : look m.held (e.1 : Int) = some (e.2 : Int) := by
        rw [look_held R nd, mem_value (nd_held nd e.1) (v := e.2) ?_]
        · rfl
        · show (e.1, e.2) ∈ s.recent ++ s.frequent
          rw [h]
          simp
      unfold lastOf
      rw [h1]
      show (look m.held (e.1 : Int)).map _ = _
      rw [h2]
      rfl
    have e1 : oneGoes m pl = (keep m 2 4 (e.1 : Int), [(e.1 : Int), (e.2 : Int)]) := by
      unfold oneGoes
      rw [if_neg cm, hl]
    rw [q, e1]
    refine ⟨⟨fun z => absurd z cm, fun _ => by rw [hl]; rfl⟩, ⟨⟨R.rows.most, R.rows.target, R.rows.r1, ?_, R.rows.r3, ?_⟩, ?_⟩, rfl⟩
    · show m.r2.dropLast = nz (ks ys)
      rw [R.rows.r2, nz_dropLast, h, ks_app]
      show nz (ks ys ++ [e.1]).dropLast = _
      rw [List.dropLast_concat]
    · show (e.1 : Int) :: m.r4 = nz (e.1 :: s.again)
      rw [R.rows.r4]
      rfl
    · show (hdrop m.held (e.1 : Int)).Perm (ce (s.recent ++ ys))
      have z := drop_perm R.held e.1
      have z2 : Ac.without s.held e.1 = s.recent ++ ys := by
        show Ac.without (s.recent ++ s.frequent) e.1 = _
        rw [h, without_app, without_app, without_none c0.1, without_none c0.2]
        have z3 : Ac.without [e] e.1 = [] := by simp [Ac.without]
        rw [z3, List.append_nil]
      rw [z2] at z
      exact z
theorem room_rel {s : Ac.St} {m : M} (R : Rel s m) (nd : Nd s) {back : Bool} {pl : Int} (hb : back = true ↔ pl = 4) (hp : ¬ s.recent.length + s.frequent.length < s.most → s.frequent = [] → s.target < s.recent.length) :
    CanRoom m pl ∧ Rel (Ac.room s back).1 (makeRoom m pl).1 ∧ (makeRoom m pl).2 = flatE (Ac.room s back).2 := by
  have hl := rel_len R
  have hm := R.rows.most
  unfold CanRoom makeRoom Ac.room
  rw [held_len]
  by_cases c : s.recent.length + s.frequent.length < s.most
  · rw [if_pos c, if_pos (by omega)]
    exact ⟨fun z => absurd (by omega) z, R, rfl⟩
  · rw [if_neg c, if_neg (by omega)]
    obtain ⟨a, b⟩ := one_rel R nd hb (hp c)
    exact ⟨fun _ => a, b⟩
/-! ### the target -/
theorem grow_rel {s : Ac.St} {m : M} (R : Rel s m) : Rel (Ac.cameOnce s) (grow m) := by
  refine ⟨⟨R.rows.most, ?_, R.rows.r1, R.rows.r2, R.rows.r3, R.rows.r4⟩, R.held⟩
  show (let q := (m.r4.length : Int) / (m.r3.length : Int); let t := m.target + (if q > 1 then q else 1); if t < m.most then t else m.most) = ((min (s.target + max 1 (s.again.length / s.once.length)) s.most : Nat) : Int)
  rw [R.rows.r3, R.rows.r4, R.rows.most, R.rows.target, nz_len, nz_len, ← Int.natCast_ediv]
  generalize s.again.length / s.once.length = q
  dsimp only
  by_cases c : (q : Int) > 1
  · rw [if_pos c]
    have e : max 1 q = q := by omega
    rw [e]
    by_cases d : (s.target : Int) + (q : Int) < (s.most : Int)
    · rw [if_pos d]
      omega
    · rw [if_neg d]
      omega
  · rw [if_neg c]
    have e : max 1 q = 1 := by omega
    rw [e]
    by_cases d : (s.target : Int) + 1 < (s.most : Int)
    · rw [if_pos d]
      omega
    · rw [if_neg d]
      omega
theorem fall_rel {s : Ac.St} {m : M} (R : Rel s m) : Rel (Ac.cameAgain s) (fall m) := by
  refine ⟨⟨R.rows.most, ?_, R.rows.r1, R.rows.r2, R.rows.r3, R.rows.r4⟩, R.held⟩
  show (let q := (m.r3.length : Int) / (m.r4.length : Int); let t := m.target - (if q > 1 then q else 1); if t > 0 then t else 0) = ((s.target - max 1 (s.once.length / s.again.length) : Nat) : Int)
  rw [R.rows.r3, R.rows.r4, R.rows.target, nz_len, nz_len, ← Int.natCast_ediv]
  generalize s.once.length / s.again.length = q
  dsimp only
  by_cases c : (q : Int) > 1
  · rw [if_pos c]
    have e : max 1 q = q := by omega
    rw [e]
    by_cases d : (s.target : Int) - (q : Int) > 0
    · rw [if_pos d]
      omega
    · rw [if_neg d]
      omega
  · rw [if_neg c]
    have e : max 1 q = 1 := by omega
    rw [e]
    by_cases d : (s.target : Int) - 1 > 0
    · rw [if_pos d]
      omega
    · rw [if_neg d]
      omega
end Tw
end
section
set_option Elab.async false
set_option linter.all false
set_option maxHeartbeats 1000000
/-! Each call of the mirror is the specification's. -/
namespace Tw
def tot (s : Ac.St) (a : Nat) : Nat := (ks s.recent).count a + (ks s.frequent).count a + s.once.count a + s.again.count a
def len4 (s : Ac.St) : Nat := s.recent.length + s.frequent.length + s.once.length + s.again.length
theorem small_of {s : Ac.St} {m : M} (R : Rel s m) (h : len4 s ≤ 1000) : Small m := by
  have hl := rel_len R
  unfold len4 at h
  refine ⟨?_, ?_, ?_, ?_, ?_⟩
  · rw [R.rows.r1, nz_len, ks_len]; omega
  · rw [R.rows.r2, nz_len, ks_len]; omega
  · rw [R.rows.r3, nz_len]; omega
  · rw [R.rows.r4, nz_len]; omega
  · omega
theorem len4_good {s : Ac.St} (g : Good s) : len4 s ≤ 128 := by
  have := g.h3
  have := g.hi
  unfold len4
  omega
theorem len4_less {s t : Ac.St} (L : Less s t) : len4 t = len4 s := by
  have := L.l1
  have := L.l2
  unfold len4
  omega
theorem tot_less {s t : Ac.St} (L : Less s t) (a : Nat) : tot t a = tot s a := by
  have := L.c1 a
  have := L.c2 a
  unfold tot
  omega
theorem nd_of {s : Ac.St} (g : Good s) : Nd s := g.nd
theorem nd_less {s t : Ac.St} (L : Less s t) (nd : Nd s) : Nd t := fun a => by
  have := L.c1 a
  have := L.c2 a
  have := nd a
  omega
theorem no4 : (false = true) ↔ ((0 : Int) = 4) := by constructor <;> (intro z; cases z)
theorem no34 : (false = true) ↔ ((3 : Int) = 4) := by constructor <;> (intro z; cases z)
theorem fs_zero {s : Ac.St} {m : M} (R : Rel s m) {k : Nat} (h : (ks s.recent).count k + (ks s.frequent).count k = 0) : (fs m.held).count (k : Int) = 0 := by
  rw [fs_count R.held, count_held]
  exact h
/-- a value put under a key that is in no row of entries -/
theorem hput_new {s : Ac.St} {m : M} (R : Rel s m) {k v : Nat} (h : (ks s.recent).count k + (ks s.frequent).count k = 0) : (hput m.held (k : Int) (v : Int)).Perm (((k : Int), (v : Int)) :: ce s.held) := by
  have z := fs_zero R h
  have q := hput_perm (h := m.held) (k := (k : Int)) (v := (v : Int)) (by omega)
  rw [hdrop_none z] at q
  exact q.trans (R.held.cons _)
theorem new_rel {s : Ac.St} {m : M} (g : Good s) (R : Rel s m) :
    CanNew m ∧ Rel (Ac.makeNew s).1 (forNew m).1 ∧ (forNew m).2 = flatE (Ac.makeNew s).2 ∧ (∀ a, tot (Ac.makeNew s).1 a ≤ tot s a) ∧ len4 (Ac.makeNew s).1 ≤ len4 s := by
  have lo := g.lo
  have h1 := g.h1
  have h2 := g.h2
  have h3 := g.h3
  have nd := nd_of g
  have e1 : m.r1.length = s.recent.length := by rw [R.rows.r1, nz_len, ks_len]
  have e2 : m.r2.length = s.frequent.length := by rw [R.rows.r2, nz_len, ks_len]
  have e3 : m.r3.length = s.once.length := by rw [R.rows.r3, nz_len]
  have e4 : m.r4.length = s.again.length := by rw [R.rows.r4, nz_len]
  have em := R.rows.most
  have ek : known m = ((s.recent.length + s.frequent.length + s.once.length + s.again.length : Nat) : Int) := by
    unfold known
    omega
  -- making room from a state that has lost a key
  have fin : ∀ (t : Ac.St) (n : M), Rel t n → Nd t → t.most = s.most → t.recent = s.recent → t.frequent = s.frequent → t.recent.length < t.most →
      CanRoom n 0 ∧ Rel (Ac.room t false).1 (makeRoom n 0).1 ∧ (makeRoom n 0).2 = flatE (Ac.room t false).2 ∧ (∀ a, tot (Ac.room t false).1 a = tot t a) ∧ len4 (Ac.room t false).1 = len4 t := by
    intro t n Rt nt tm tr tf hr
    have hp : ¬ t.recent.length + t.frequent.length < t.most → t.frequent = [] → t.target < t.recent.length := fun h q => by have z := len0 q; omega
    obtain ⟨a, b, c⟩ := room_rel (back := false) (pl := 0) Rt nt no4 hp
    obtain ⟨L, _⟩ := room_less (s := t) (back := false) (by rw [tr, tf, tm]; exact h1) hp
    exact ⟨a, b, c, tot_less L, len4_less L⟩
  unfold Ac.makeNew forNew
  rw [e1, e3, em, ek, keys_len]
  by_cases c1 : s.recent.length + s.once.length = s.most
  · have c1' : (s.recent.length : Int) + (s.once.length : Int) = (s.most : Int) := by omega
    rw [if_pos c1, if_pos c1']
    by_cases c2 : s.recent.length < s.most
    · have c2' : ¬ s.once.length = 0 := by omega
      rw [if_pos c2, if_neg c2']
      have Rt : Rel { s with once := s.once.dropLast } (m.setRow 3 m.r3.dropLast) := by
        refine ⟨⟨R.rows.most, R.rows.target, R.rows.r1, R.rows.r2, ?_, R.rows.r4⟩, R.held⟩
        show m.r3.dropLast = nz s.once.dropLast
        rw [R.rows.r3, nz_dropLast]
      have hs : s.once.dropLast.Sublist s.once := List.dropLast_sublist _
      have nt : Nd { s with once := s.once.dropLast } := fun a => by
        have := hs.count_le a
        have := nd a
        show (ks s.recent).count a + (ks s.frequent).count a + s.once.dropLast.count a + s.again.count a ≤ 1
        omega
      obtain ⟨a, b, c, d, e⟩ := fin _ _ Rt nt rfl rfl rfl c2
      refine ⟨⟨fun _ z => absurd (e3 ▸ z) c2', fun _ _ => a, fun z => absurd (by rw [e1, e3, em]; exact c1') z, fun z => absurd (by rw [e1, e3, em]; exact c1') z⟩, b, c, fun x => ?_, ?_⟩
      · rw [d x]
        have := hs.count_le x
        show (ks s.recent).count x + (ks s.frequent).count x + s.once.dropLast.count x + s.again.count x ≤ tot s x
        unfold tot
        omega
      · rw [e]
        have := hs.length_le
        show s.recent.length + s.frequent.length + s.once.dropLast.length + s.again.length ≤ len4 s
        unfold len4
        omega
    · have c2' : s.once.length = 0 := by omega
      rw [if_neg c2, if_pos c2']
      have hne : s.recent ≠ [] := fun q => by have z := len0 q; omega
      obtain ⟨ys, e, h⟩ := last_split hne
      have ne := nd e.1
      have c0 : (ks ys).count e.1 = 0 ∧ (ks s.frequent).count e.1 = 0 := by
        rw [h, ks_app, List.count_append] at ne
        have z : (ks [e]).count e.1 = 1 := by simp [ks]
        omega
      have hl : lastOf m 1 = some ((e.1 : Int), (e.2 : Int)) := by
        have h1 : (m.row 1).getLast? = some (e.1 : Int) := by
          show m.r1.getLast? = _
          rw [R.rows.r1, nz_last, h, ks_app]
          show ((ks ys ++ [e.1]).getLast?).map _ = _
          rw [List.getLast?_concat]
          rfl
        have h2 : look m.held (e.1 : Int) = some (e.2 : Int) := by
          rw [look_held R nd, mem_value (nd_held nd e.1) (v := e.2) ?_]
          · rfl
          · show (e.1, e.2) ∈ s.recent ++ s.frequent
            rw [h]
            simp
        unfold lastOf
        rw [h1]
        show (look m.held (e.1 : Int)).map _ = _
        rw [h2]
        rfl
      have q : s.recent.getLast? = some e := by rw [h, List.getLast?_concat]
      have q2 : s.recent.dropLast = ys := by rw [h, List.dropLast_concat]
      rw [hl, q, q2]
      refine ⟨⟨fun _ _ => by rw [hl]; rfl, fun _ z => absurd (by rw [e3]; exact c2') z, fun z => absurd (by rw [e1, e3, em]; exact c1') z, fun z => absurd (by rw [e1, e3, em]; exact c1') z⟩,
        ⟨⟨R.rows.most, R.rows.target, ?_, R.rows.r2, R.rows.r3, R.rows.r4⟩, ?_⟩, rfl, fun x => ?_, ?_⟩
      · show m.r1.dropLast = nz (ks ys)
        rw [R.rows.r1, nz_dropLast, h, ks_app]
        show nz (ks ys ++ [e.1]).dropLast = _
        rw [List.dropLast_concat]
      · show (hdrop m.held (e.1 : Int)).Perm (ce (ys ++ s.frequent))
        have z := drop_perm R.held e.1
        have z2 : Ac.without s.held e.1 = ys ++ s.frequent := by
          show Ac.without (s.recent ++ s.frequent) e.1 = _
          rw [h, without_app, without_app, without_none c0.1, without_none c0.2]
          have z3 : Ac.without [e] e.1 = [] := by simp [Ac.without]
          rw [z3, List.append_nil]
        rw [z2] at z
        exact z
      · show (ks ys).count x + (ks s.frequent).count x + s.once.count x + s.again.count x ≤ tot s x
        unfold tot
        rw [h, ks_app, List.count_append]
        omega
      · show ys.length + s.frequent.length + s.once.length + s.again.length ≤ len4 s
        unfold len4
        rw [h, List.length_append]
        omega
  · have c1' : ¬ (s.recent.length : Int) + (s.once.length : Int) = (s.most : Int) := by omega
    rw [if_neg c1, if_neg c1']
    have hr : s.recent.length < s.most := by omega
    by_cases c2 : s.recent.length + s.frequent.length + s.once.length + s.again.length = 2 * s.most
    · have c2' : ((s.recent.length + s.frequent.length + s.once.length + s.again.length : Nat) : Int) = 2 * (s.most : Int) := by omega
      rw [if_pos c2, if_pos c2']
      have Rt : Rel { s with again := s.again.dropLast } (m.setRow 4 m.r4.dropLast) := by
        refine ⟨⟨R.rows.most, R.rows.target, R.rows.r1, R.rows.r2, R.rows.r3, ?_⟩, R.held⟩
        show m.r4.dropLast = nz s.again.dropLast
        rw [R.rows.r4, nz_dropLast]
      have hs : s.again.dropLast.Sublist s.again := List.dropLast_sublist _
      have nt : Nd { s with again := s.again.dropLast } := fun a => by
        have := hs.count_le a
        have := nd a
        show (ks s.recent).count a + (ks s.frequent).count a + s.once.count a + s.again.dropLast.count a ≤ 1
        omega
      obtain ⟨a, b, c, d, e⟩ := fin _ _ Rt nt rfl rfl rfl hr
      have h4 : m.r4 ≠ [] := fun z => by rw [z] at e4; simp at e4; omega
      refine ⟨⟨fun z => absurd (by rw [← e1, ← e3, ← em]; exact z) c1', fun z => absurd (by rw [← e1, ← e3, ← em]; exact z) c1', fun _ _ => ⟨h4, a⟩, fun _ z => absurd (by rw [ek, em]; exact c2') z⟩, b, c, fun x => ?_, ?_⟩
      · rw [d x]
        have := hs.count_le x
        show (ks s.recent).count x + (ks s.frequent).count x + s.once.count x + s.again.dropLast.count x ≤ tot s x
        unfold tot
        omega
      · rw [e]
        have := hs.length_le
        show s.recent.length + s.frequent.length + s.once.length + s.again.dropLast.length ≤ len4 s
        unfold len4
        omega
    · have c2' : ¬ ((s.recent.length + s.frequent.length + s.once.length + s.again.length : Nat) : Int) = 2 * (s.most : Int) := by omega
      rw [if_neg c2, if_neg c2']
      obtain ⟨a, b, c, d, e⟩ := fin s m R nd rfl rfl rfl hr
      exact ⟨⟨fun z => absurd (by rw [← e1, ← e3, ← em]; exact z) c1', fun z => absurd (by rw [← e1, ← e3, ← em]; exact z) c1', fun _ z => absurd (by rw [← ek, ← em]; exact z) c2', fun _ _ => a⟩, b, c, fun x => Nat.le_of_eq (d x), Nat.le_of_eq e⟩
end Tw
end
section
set_option Elab.async false
set_option linter.all false
set_option maxHeartbeats 1000000
namespace Tw
theorem mid (a b : List Ac.Entry) (k v : Nat) : (((k : Int), (v : Int)) :: ce (a ++ b)).Perm (ce (a ++ (k, v) :: b)) := by
  have q : ((k, v) :: (a ++ b)).Perm (a ++ (k, v) :: b) := List.perm_middle.symm
  exact ce_perm q
theorem rows_eq {s t : Ac.St} {m : M} (R : Rows s m) (h : s = t) : Rows t m := h ▸ R
theorem place_ne {s : Ac.St} {m : M} (R : Rows s m) {k : Nat} (h : 0 < tot s k) : ¬ place m (k : Int) = 0 := fun z => by
  have := (place0 R).mp z
  unfold tot at h
  omega
/-- a key that comes back, once room is made -/
theorem back_rel {x : Ac.St} {n : M} (R : Rel x n) (nd : Nd x) {k v : Nat} (h0 : (ks x.recent).count k + (ks x.frequent).count k = 0) (h1 : 0 < x.once.count k + x.again.count k) :
    Rel { x with frequent := (k, v) :: x.frequent, once := Ac.rid x.once k, again := Ac.rid x.again k } { moveF n (k : Int) with held := hput (moveF n (k : Int)).held (k : Int) (v : Int) } := by
  have np : ¬ place n (k : Int) = 0 := place_ne R.rows (by unfold tot; omega)
  have Rm := move_rel R.rows nd np v
  refine ⟨⟨Rm.most, Rm.target, ?_, ?_, Rm.r3, Rm.r4⟩, ?_⟩
  · have z : (moveF n (k : Int)).r1 = nz (ks (Ac.without x.recent k)) := Rm.r1
    rw [without_none (by omega)] at z
    exact z
  · have z : (moveF n (k : Int)).r2 = nz (ks ((k, v) :: Ac.without x.frequent k)) := Rm.r2
    rw [without_none (by omega)] at z
    exact z
  · show (hput (moveF n (k : Int)).held (k : Int) (v : Int)).Perm (ce (x.recent ++ (k, v) :: x.frequent))
    rw [move_held]
    exact (hput_new R h0).trans (mid _ _ _ _)
theorem put_rel {s : Ac.St} {m : M} (g : Good s) (R : Rel s m) (k v : Nat) :
    CanPut m (k : Int) ∧ Rel (Ac.put s k v).1 (put m (k : Int) (v : Int)).1 ∧ (put m (k : Int) (v : Int)).2 = (if (Ac.valueIn s.held k).isSome = true then 1 else 0) :: flatE (Ac.put s k v).2 := by
  have nd := nd_of g
  have sm : Small m := small_of R (by have := len4_good g; omega)
  have lk := look_held R nd k
  have nk := nd k
  cases h : Ac.valueIn s.held k with
  | some w =>
    rw [h] at lk
    have lk : look m.held (k : Int) = some (w : Int) := lk
    have hm := value_mem h
    have hc := mem_count hm
    rw [count_held] at hc
    have np : ¬ place m (k : Int) = 0 := place_ne R.rows (by unfold tot; omega)
    have e1 : put m (k : Int) (v : Int) = ({ moveF m (k : Int) with held := hput (moveF m (k : Int)).held (k : Int) (v : Int) }, [1, (k : Int), (w : Int)]) := by
      unfold put
      rw [lk]
    have e2 : Ac.put s k v = (Ac.use s k v, [(k, w)]) := by
      unfold Ac.put
      rw [h]
    rw [e1, e2]
    refine ⟨⟨sm, fun _ => np, fun z => (by rw [lk] at z; cases z)⟩, ⟨?_, ?_⟩, rfl⟩
    · have Rm := move_rel R.rows nd np v
      refine ⟨Rm.most, Rm.target, Rm.r1, Rm.r2, ?_, ?_⟩
      · have z : (moveF m (k : Int)).r3 = nz (Ac.rid s.once k) := Rm.r3
        rw [rid_none (by omega)] at z
        exact z
      · have z : (moveF m (k : Int)).r4 = nz (Ac.rid s.again k) := Rm.r4
        rw [rid_none (by omega)] at z
        exact z
    · show (hput (moveF m (k : Int)).held (k : Int) (v : Int)).Perm (ce (Ac.without s.recent k ++ (k, v) :: Ac.without s.frequent k))
      rw [move_held]
      have c : (fs m.held).count (k : Int) ≤ 1 := by
        rw [fs_count R.held]
        exact nd_held nd k
      refine (hput_perm c).trans (((drop_perm R.held k).cons _).trans ?_)
      show (((k : Int), (v : Int)) :: ce (Ac.without (s.recent ++ s.frequent) k)).Perm _
      rw [without_app]
      exact mid _ _ _ _
  | none =>
    rw [h] at lk
    have lk : look m.held (k : Int) = none := lk
    have hc := valueIn_none.mp h
    rw [count_held] at hc
    have e1 : put m (k : Int) (v : Int) = ({ (letIn m (k : Int)).1 with held := hput (letIn m (k : Int)).1.held (k : Int) (v : Int) }, 0 :: (letIn m (k : Int)).2) := by
      unfold put
      rw [lk]
    have n1 : ¬ (k : Int) ∈ m.r1 := fun z => by have := (mem_r1 R.rows).mp z; omega
    have n2 : ¬ (k : Int) ∈ m.r2 := fun z => by have := (mem_r2 R.rows).mp z; omega
    rw [e1]
    by_cases c1 : s.once.contains k = true
    · -- it had left the recent ones
      have hk := contains_pos.mp c1
      have g1 := good_cameOnce g
      have pl : place m (k : Int) = 3 := by
        unfold place
        rw [if_neg n1, if_neg n2, if_pos ((mem_r3 R.rows).mpr hk)]
      have pre := pre_once g hk
      obtain ⟨cr, Rx, ex⟩ := room_rel (back := false) (pl := 3) (grow_rel R) (nd_of g1) no34 pre
      obtain ⟨L, _⟩ := room_less (s := Ac.cameOnce s) (back := false) g1.h1 pre
      have ndx : Nd (Ac.room (Ac.cameOnce s) false).1 := nd_less L (nd_of g1)
      have c1' : (ks (Ac.room (Ac.cameOnce s) false).1.recent).count k + (Ac.room (Ac.cameOnce s) false).1.once.count k = (ks s.recent).count k + s.once.count k := L.c1 k
      have c2' : (ks (Ac.room (Ac.cameOnce s) false).1.frequent).count k + (Ac.room (Ac.cameOnce s) false).1.again.count k = (ks s.frequent).count k + s.again.count k := L.c2 k
      have d1' : (ks (Ac.room (Ac.cameOnce s) false).1.recent).count k ≤ (ks s.recent).count k := L.d1 k
      have lx : len4 (Ac.room (Ac.cameOnce s) false).1 = len4 s := (len4_less L).trans rfl
      have lg := len4_good g
      have sx : Small (makeRoom (grow m) 3).1 := small_of Rx (by omega)
      have npx : ¬ place (makeRoom (grow m) 3).1 (k : Int) = 0 := place_ne Rx.rows (by unfold tot; omega)
      have eI : letIn m (k : Int) = (moveF (makeRoom (grow m) 3).1 (k : Int), (makeRoom (grow m) 3).2) := by
        unfold letIn
        rw [if_neg (by omega), if_pos pl]
      have e2 : Ac.put s k v = ({ (Ac.room (Ac.cameOnce s) false).1 with frequent := (k, v) :: (Ac.room (Ac.cameOnce s) false).1.frequent, once := Ac.rid (Ac.room (Ac.cameOnce s) false).1.once k }, (Ac.room (Ac.cameOnce s) false).2) := by
        unfold Ac.put
        rw [h]
        simp only [c1, if_true]
      have B := back_rel Rx ndx (k := k) (v := v) (by omega) (by omega)
      rw [rid_none (l := (Ac.room (Ac.cameOnce s) false).1.again) (by omega)] at B
      have sm2 : Small (letIn m (k : Int)).1 := by
        rw [eI]
        have Rm := move_rel Rx.rows ndx npx v
        have hl := rel_len Rx
        have a1 := len_without (Ac.room (Ac.cameOnce s) false).1.recent k
        have a2 := len_without (Ac.room (Ac.cameOnce s) false).1.frequent k
        have a3 := len_rid (Ac.room (Ac.cameOnce s) false).1.once k
        have a4 := len_rid (Ac.room (Ac.cameOnce s) false).1.again k
        unfold len4 at lx lg
        refine ⟨?_, ?_, ?_, ?_, ?_⟩
        · rw [Rm.r1, nz_len, ks_len]; show (Ac.without _ k).length ≤ 1000; omega
        · rw [Rm.r2, nz_len, ks_len]; show ((k, v) :: Ac.without _ k).length ≤ 1000; rw [List.length_cons]; omega
        · rw [Rm.r3, nz_len]; show (Ac.rid _ k).length ≤ 1000; omega
        · rw [Rm.r4, nz_len]; show (Ac.rid _ k).length ≤ 1000; omega
        · rw [move_held]; omega
      rw [e2]
      refine ⟨⟨sm, fun z => (by rw [lk] at z; cases z), fun _ => ⟨⟨fun z => (by omega), fun _ => ⟨cr, sx, npx⟩, fun _ z => absurd pl z⟩, sm2⟩⟩, ?_, ?_⟩
      · rw [eI]
        exact B
      · rw [eI]
        show 0 :: (makeRoom (grow m) 3).2 = _
        rw [ex]
        rfl
    · have k1 := pos_contains c1
      have n3 : ¬ (k : Int) ∈ m.r3 := fun z => by have := (mem_r3 R.rows).mp z; omega
      by_cases c2 : s.again.contains k = true
      · -- it had left the frequent ones
        have hk := contains_pos.mp c2
        have g1 := good_cameAgain g
        have pl : place m (k : Int) = 4 := by
          unfold place
          rw [if_neg n1, if_neg n2, if_neg n3, if_pos ((mem_r4 R.rows).mpr hk)]
        have h4 : m.r4 ≠ [] := fun z => by
          have := (mem_r4 R.rows).mpr hk
          rw [z] at this
          cases this
        have pre := pre_again g
        obtain ⟨cr, Rx, ex⟩ := room_rel (back := true) (pl := 4) (fall_rel R) (nd_of g1) ⟨fun _ => rfl, fun _ => rfl⟩ pre
        obtain ⟨L, _⟩ := room_less (s := Ac.cameAgain s) (back := true) g1.h1 pre
        have ndx : Nd (Ac.room (Ac.cameAgain s) true).1 := nd_less L (nd_of g1)
        have c1' : (ks (Ac.room (Ac.cameAgain s) true).1.recent).count k + (Ac.room (Ac.cameAgain s) true).1.once.count k = (ks s.recent).count k + s.once.count k := L.c1 k
        have c2' : (ks (Ac.room (Ac.cameAgain s) true).1.frequent).count k + (Ac.room (Ac.cameAgain s) true).1.again.count k = (ks s.frequent).count k + s.again.count k := L.c2 k
        have d1' : (ks (Ac.room (Ac.cameAgain s) true).1.frequent).count k ≤ (ks s.frequent).count k := L.d2 k
        have lx : len4 (Ac.room (Ac.cameAgain s) true).1 = len4 s := (len4_less L).trans rfl
        have lg := len4_good g
        have sx : Small (makeRoom (fall m) 4).1 := small_of Rx (by omega)
        have npx : ¬ place (makeRoom (fall m) 4).1 (k : Int) = 0 := place_ne Rx.rows (by unfold tot; omega)
        have eI : letIn m (k : Int) = (moveF (makeRoom (fall m) 4).1 (k : Int), (makeRoom (fall m) 4).2) := by
          unfold letIn
          rw [if_neg (by omega), if_neg (by omega), pl]
        have e2 : Ac.put s k v = ({ (Ac.room (Ac.cameAgain s) true).1 with frequent := (k, v) :: (Ac.room (Ac.cameAgain s) true).1.frequent, again := Ac.rid (Ac.room (Ac.cameAgain s) true).1.again k }, (Ac.room (Ac.cameAgain s) true).2) := by
          unfold Ac.put
          rw [h]
          simp only [c1, c2, if_true, if_false]
          rfl
        have B := back_rel Rx ndx (k := k) (v := v) (by omega) (by omega)
        rw [rid_none (l := (Ac.room (Ac.cameAgain s) true).1.once) (by omega)] at B
        have sm2 : Small (letIn m (k : Int)).1 := by
          rw [eI]
          have Rm := move_rel Rx.rows ndx npx v
          have hl := rel_len Rx
          have a1 := len_without (Ac.room (Ac.cameAgain s) true).1.recent k
          have a2 := len_without (Ac.room (Ac.cameAgain s) true).1.frequent k
          have a3 := len_rid (Ac.room (Ac.cameAgain s) true).1.once k
          have a4 := len_rid (Ac.room (Ac.cameAgain s) true).1.again k
          unfold len4 at lx lg
          refine ⟨?_, ?_, ?_, ?_, ?_⟩
          · rw [Rm.r1, nz_len, ks_len]; show (Ac.without _ k).length ≤ 1000; omega
          · rw [Rm.r2, nz_len, ks_len]; show ((k, v) :: Ac.without _ k).length ≤ 1000; rw [List.length_cons]; omega
          · rw [Rm.r3, nz_len]; show (Ac.rid _ k).length ≤ 1000; omega
          · rw [Rm.r4, nz_len]; show (Ac.rid _ k).length ≤ 1000; omega
          · rw [move_held]; omega
        rw [e2]
        refine ⟨⟨sm, fun z => (by rw [lk] at z; cases z), fun _ => ⟨⟨fun z => (by omega), fun z => (by omega), fun _ _ => (by rw [pl]; exact ⟨h4, cr, sx, npx⟩)⟩, sm2⟩⟩, ?_, ?_⟩
        · rw [eI]
          exact B
        · rw [eI]
          show 0 :: (makeRoom (fall m) 4).2 = _
          rw [ex]
          rfl
      · -- it isn't known
        have k2 := pos_contains c2
        have n4 : ¬ (k : Int) ∈ m.r4 := fun z => by have := (mem_r4 R.rows).mp z; omega
        have pl : place m (k : Int) = 0 := by
          unfold place
          rw [if_neg n1, if_neg n2, if_neg n3, if_neg n4]
        obtain ⟨cn, Rx, ex, tx, lx⟩ := new_rel g R
        have lg := len4_good g
        have sx : Small (forNew m).1 := small_of Rx (by omega)
        have eI : letIn m (k : Int) = ((forNew m).1.setRow 1 ((k : Int) :: (forNew m).1.row 1), (forNew m).2) := by
          unfold letIn
          rw [if_pos pl]
        have e2 : Ac.put s k v = ({ (Ac.makeNew s).1 with recent := (k, v) :: (Ac.makeNew s).1.recent }, (Ac.makeNew s).2) := by
          unfold Ac.put
          rw [h]
          simp only [c1, c2, if_false]
          rfl
        have t0 := tx k
        unfold tot at t0
        have sm2 : Small (letIn m (k : Int)).1 := by
          rw [eI]
          have q1 := Rx.rows.r1
          have q2 := sx.s2
          have q3 := sx.s3
          have q4 := sx.s4
          have q5 := sx.sh
          have l1 : (forNew m).1.r1.length = (Ac.makeNew s).1.recent.length := by rw [q1, nz_len, ks_len]
          unfold len4 at lx lg
          refine ⟨?_, q2, q3, q4, q5⟩
          show ((k : Int) :: (forNew m).1.r1).length ≤ 1000
          rw [List.length_cons]
          omega
        rw [e2]
        refine ⟨⟨sm, fun z => (by rw [lk] at z; cases z), fun _ => ⟨⟨fun _ => ⟨cn, sx⟩, fun z => (by omega), fun z => absurd pl z⟩, sm2⟩⟩, ?_, ?_⟩
        · rw [eI]
          refine ⟨⟨Rx.rows.most, Rx.rows.target, ?_, Rx.rows.r2, Rx.rows.r3, Rx.rows.r4⟩, ?_⟩
          · show (k : Int) :: (forNew m).1.r1 = nz (ks ((k, v) :: (Ac.makeNew s).1.recent))
            rw [Rx.rows.r1]
            rfl
          · show (hput (forNew m).1.held (k : Int) (v : Int)).Perm (ce ((k, v) :: (Ac.makeNew s).1.recent ++ (Ac.makeNew s).1.frequent))
            exact hput_new Rx (by omega)
        · rw [eI]
          show 0 :: (forNew m).2 = _
          rw [ex]
          rfl
theorem get_rel {s : Ac.St} {m : M} (g : Good s) (R : Rel s m) (k : Nat) :
    m.r2.length ≤ 1000 ∧ ((look m.held (k : Int)).isSome = true → ¬ place m (k : Int) = 0) ∧ Rel (Wqatag.step s (.get k)).1 (get m (k : Int)).1 ∧ (get m (k : Int)).2 = (Wqatag.step s (.get k)).2.ret :: (Wqatag.step s (.get k)).2.all.map WqatagNeutral.int := by
  have nd := nd_of g
  have sm : Small m := small_of R (by have := len4_good g; omega)
  have lk := look_held R nd k
  have nk := nd k
  refine ⟨sm.s2, ?_⟩
  have es : Wqatag.step s (.get k) = (match Ac.valueIn s.held k with | some v => (Ac.use s k v, Wqatag.tells 1 [v]) | none => (s, Wqatag.says 0)) := rfl
  rw [es]
  cases h : Ac.valueIn s.held k with
  | none =>
    rw [h] at lk
    have lk : look m.held (k : Int) = none := lk
    have e : get m (k : Int) = (m, [0]) := by
      unfold get
      rw [lk]
    rw [e]
    exact ⟨fun z => (by rw [lk] at z; cases z), R, rfl⟩
  | some w =>
    rw [h] at lk
    have lk : look m.held (k : Int) = some (w : Int) := lk
    have hm := value_mem h
    have hc := mem_count hm
    rw [count_held] at hc
    have np : ¬ place m (k : Int) = 0 := place_ne R.rows (by unfold tot; omega)
    have e : get m (k : Int) = (moveF m (k : Int), [1, (w : Int)]) := by
      unfold get
      rw [lk]
    rw [e]
    refine ⟨fun _ => np, ⟨?_, ?_⟩, rfl⟩
    · have Rm := move_rel R.rows nd np w
      refine ⟨Rm.most, Rm.target, Rm.r1, Rm.r2, ?_, ?_⟩
      · have z : (moveF m (k : Int)).r3 = nz (Ac.rid s.once k) := Rm.r3
        rw [rid_none (by omega)] at z
        exact z
      · have z : (moveF m (k : Int)).r4 = nz (Ac.rid s.again k) := Rm.r4
        rw [rid_none (by omega)] at z
        exact z
    · show (moveF m (k : Int)).held.Perm (ce (Ac.without s.recent k ++ (k, w) :: Ac.without s.frequent k))
      rw [move_held]
      refine R.held.trans ((ce_perm (perm_without (nd_held nd k) hm)).trans ?_)
      show (((k : Int), (w : Int)) :: ce (Ac.without (s.recent ++ s.frequent) k)).Perm _
      rw [without_app]
      exact mid _ _ _ _
theorem drop_rel {s : Ac.St} {m : M} (g : Good s) (R : Rel s m) (k : Nat) :
    Rel (Wqatag.dropOf s k).1 (drop m (k : Int)).1 ∧ (drop m (k : Int)).2 = (Wqatag.dropOf s k).2.ret :: (Wqatag.dropOf s k).2.all.map WqatagNeutral.int := by
  have nd := nd_of g
  have lk := look_held R nd k
  have nk := nd k
  have ep := place_rel R.rows k
  unfold Wqatag.dropOf
  cases h : Ac.valueIn s.held k with
  | some w =>
    rw [h] at lk
    have lk : look m.held (k : Int) = some (w : Int) := lk
    have hm := value_mem h
    have hc := mem_count hm
    rw [count_held] at hc
    have np : ¬ place m (k : Int) = 0 := place_ne R.rows (by unfold tot; omega)
    have O := out_rel R.rows nd np
    have e : drop m (k : Int) = ({ takeOut m (k : Int) with held := hdrop (takeOut m (k : Int)).held (k : Int) }, [2, (k : Int), (w : Int)]) := by
      unfold drop
      rw [if_neg np, lk]
    rw [e]
    refine ⟨⟨⟨O.most, O.target, ?_, ?_, ?_, ?_⟩, ?_⟩, rfl⟩
    · show (takeOut m (k : Int)).r1 = nz (ks (Ac.without s.recent k))
      rw [ks_without]
      exact O.r1
    · show (takeOut m (k : Int)).r2 = nz (ks (Ac.without s.frequent k))
      rw [ks_without]
      exact O.r2
    · have z := O.r3
      rw [rid_none (by omega)] at z
      exact z
    · have z := O.r4
      rw [rid_none (by omega)] at z
      exact z
    · show (hdrop (takeOut m (k : Int)).held (k : Int)).Perm (ce (Ac.without s.recent k ++ Ac.without s.frequent k))
      rw [takeOut_held, ← without_app]
      exact drop_perm R.held k
  | none =>
    rw [h] at lk
    have lk : look m.held (k : Int) = none := lk
    have hc := valueIn_none.mp h
    rw [count_held] at hc
    by_cases c : place m (k : Int) = 0
    · have z := (place0 R.rows).mp c
      have e : drop m (k : Int) = (m, [0]) := by
        unfold drop
        rw [if_pos c]
      rw [e]
      refine ⟨⟨⟨R.rows.most, R.rows.target, R.rows.r1, R.rows.r2, ?_, ?_⟩, R.held⟩, ?_⟩
      · show m.r3 = nz (Ac.rid s.once k)
        rw [rid_none (by omega)]
        exact R.rows.r3
      · show m.r4 = nz (Ac.rid s.again k)
        rw [rid_none (by omega)]
        exact R.rows.r4
      · rw [← ep, c]
        rfl
    · have O := out_rel R.rows nd c
      have e : drop m (k : Int) = (takeOut m (k : Int), [1]) := by
        unfold drop
        rw [if_neg c, lk]
      rw [e]
      refine ⟨⟨⟨O.most, O.target, ?_, ?_, O.r3, O.r4⟩, ?_⟩, ?_⟩
      · have z := O.r1
        rw [rid_none (by omega)] at z
        exact z
      · have z := O.r2
        rw [rid_none (by omega)] at z
        exact z
      · show (takeOut m (k : Int)).held.Perm _
        rw [takeOut_held]
        exact R.held
      · rw [← ep, if_neg c]
        rfl
theorem blank_rel (c : Nat) : Rel (Ac.new c) (blank (c : Int)) := ⟨⟨rfl, rfl, rfl, rfl, rfl, rfl⟩, List.Perm.refl _⟩
theorem begin_rel {s : Ac.St} {m : M} (R : Rel s m) (c : Nat) :
    Rel (Wqatag.step s (.begin_ c)).1 (begin_ m (c : Int)).1 ∧ (begin_ m (c : Int)).2 = (Wqatag.step s (.begin_ c)).2.ret :: (Wqatag.step s (.begin_ c)).2.all.map WqatagNeutral.int := by
  have es : Wqatag.step s (.begin_ c) = (if Ac.okSize c = true then (Ac.new c, Wqatag.says 0) else (s, Wqatag.BAD)) := rfl
  rw [es]
  unfold begin_
  by_cases h : Ac.okSize c = true
  · have h2 := okSize_iff.mp h
    rw [if_pos h, if_neg (by omega)]
    exact ⟨blank_rel c, rfl⟩
  · rw [okSize_iff] at h
    rw [if_neg (by rw [okSize_iff]; exact h), if_pos (by omega)]
    exact ⟨R, rfl⟩
theorem flatE_all (l : List Ac.Entry) : flatE l = (l.flatMap fun (e : Ac.Entry) => [e.1, e.2]).map WqatagNeutral.int := by
  unfold flatE
  rw [List.map_flatMap]
  rfl
end Tw
end
section
set_option linter.all false
/-! The list of calls, read from its start; how long an answer is. -/
namespace Tw
open Wqatag
theorem whole_eq (c : List (List Int)) : PyWqatag.whole c = c := by
  unfold PyWqatag.whole
  split <;> rfl
theorem map_whole (cs : List (List (List Int))) : cs.map PyWqatag.whole = cs := by
  have e : PyWqatag.whole = id := funext whole_eq
  rw [e, List.map_id]
theorem shape_rows {p : Int} {n k : Nat} (h : PyWqatag.shape p = some (n, k)) : k = 0 ∧ n ≤ 2 ∧ 0 ≤ p ∧ p ≤ 8 ∧ (n = if p = 2 ∨ p = 5 then 2 else if p = 6 ∨ p = 8 then 0 else 1) := by
  unfold PyWqatag.shape at h
  repeat' split at h
  all_goals first
    | (subst_vars; injection h with h; injection h with h1 h2; subst h1 h2; decide)
    | cases h
theorem call_of {p : Int} {r : List Int} {c : List (List Int)} {t : List Int} (h : PyFlat.call PyWqatag.shape (p :: r) = some (c, t)) :
    ∃ n, PyWqatag.shape p = some (n, 0) ∧ n ≤ r.length ∧ c = [p :: r.take n] ∧ t = r.drop n := by
  have h : (match PyWqatag.shape p with | none => none | some (n, k) => if r.length < n then none else match PyFlat.rows k (r.drop n) with | none => none | some (xs, t) => some ((p :: r.take n) :: xs, t)) = some (c, t) := h
  cases e : PyWqatag.shape p with
  | none =>
    rw [e] at h
    cases h
  | some x =>
    obtain ⟨n, k⟩ := x
    obtain ⟨hk, _⟩ := shape_rows e
    subst hk
    rw [e] at h
    have h : (if r.length < n then none else match PyFlat.rows 0 (r.drop n) with | none => none | some (xs, t) => some ((p :: r.take n) :: xs, t)) = some (c, t) := h
    by_cases q : r.length < n
    · rw [if_pos q] at h
      cases h
    · rw [if_neg q] at h
      have h : some ((p :: r.take n) :: ([] : List (List Int)), r.drop n) = some (c, t) := h
      injection h with h
      injection h with h1 h2
      exact ⟨n, rfl, by omega, h1.symm, h2.symm⟩
theorem calls_nil (f : Nat) : PyFlat.calls PyWqatag.shape f [] = some [] := by cases f <;> rfl
theorem calls_cons {f : Nat} {p : Int} {r : List Int} {cs : List (List (List Int))} (h : PyFlat.calls PyWqatag.shape f (p :: r) = some cs) :
    ∃ f' n cs', PyWqatag.shape p = some (n, 0) ∧ n ≤ r.length ∧ cs = [p :: r.take n] :: cs' ∧ PyFlat.calls PyWqatag.shape f' (r.drop n) = some cs' := by
  cases f with
  | zero => cases h
  | succ f =>
    have h : (match PyFlat.call PyWqatag.shape (p :: r) with | none => none | some (c, t) => match PyFlat.calls PyWqatag.shape f t with | none => none | some cs => some (c :: cs)) = some cs := h
    cases e : PyFlat.call PyWqatag.shape (p :: r) with
    | none =>
      rw [e] at h
      cases h
    | some x =>
      obtain ⟨c, t⟩ := x
      rw [e] at h
      have h : (match PyFlat.calls PyWqatag.shape f t with | none => none | some cs => some (c :: cs)) = some cs := h
      cases e2 : PyFlat.calls PyWqatag.shape f t with
      | none =>
        rw [e2] at h
        cases h
      | some cs' =>
        rw [e2] at h
        have h : some (c :: cs') = some cs := h
        obtain ⟨n, a, b, d, g⟩ := call_of e
        injection h with h
        refine ⟨f, n, cs', a, b, ?_, ?_⟩
        · rw [← h, d]
        · rw [← g]
          exact e2
theorem nat_of {z : Int} {b : Nat} (h : WqatagNeutral.natural z b = true) : ∃ n : Nat, z = (n : Int) := by
  unfold WqatagNeutral.natural at h
  rw [Bool.and_eq_true, decide_eq_true_iff, decide_eq_true_iff] at h
  exact ⟨z.toNat, by omega⟩
/-- a call that may be asked is one of the specification's, in its one way -/
theorem asked_call {c : List (List Int)} (h : WqatagNeutral.asked1 c = true) : ∃ x, c = WqatagNeutral.rowsOf x ∧ WqatagNeutral.callOf c = some x := by
  unfold WqatagNeutral.asked1 at h
  split at h
  · obtain ⟨n, rfl⟩ := nat_of h
    exact ⟨.begin_ n, rfl, rfl⟩
  · obtain ⟨n, rfl⟩ := nat_of h
    exact ⟨.get n, rfl, rfl⟩
  · rw [Bool.and_eq_true] at h
    obtain ⟨n, rfl⟩ := nat_of h.1
    obtain ⟨v, rfl⟩ := nat_of h.2
    exact ⟨.put n v, rfl, rfl⟩
  · obtain ⟨n, rfl⟩ := nat_of h
    exact ⟨.drop n, rfl, rfl⟩
  · obtain ⟨n, rfl⟩ := nat_of h
    exact ⟨.place n, rfl, rfl⟩
  · rw [Bool.and_eq_true] at h
    obtain ⟨n, rfl⟩ := nat_of h.1
    obtain ⟨v, rfl⟩ := nat_of h.2
    exact ⟨.nth n v, rfl, rfl⟩
  · exact ⟨.sizes, rfl, rfl⟩
  · obtain ⟨n, rfl⟩ := nat_of h
    exact ⟨.resize n, rfl, rfl⟩
  · exact ⟨.flush, rfl, rfl⟩
  · cases h
/-- what a call answers -/
def ansOf (s : Ac.St) (x : Call) : List Int := (Wqatag.step s x).2.ret :: (Wqatag.step s x).2.all.map WqatagNeutral.int
theorem step_of {s : Ac.St} {c : List (List Int)} {x : Call} (h : WqatagNeutral.callOf c = some x) : WqatagNeutral.step s c = ((Wqatag.step s x).1, ansOf s x) := by
  unfold WqatagNeutral.step
  rw [h]
  rfl
/-! ### how long an answer is -/
theorem flat_len (l : List Ac.Entry) : (l.flatMap fun (e : Ac.Entry) => [e.1, e.2]).length = 2 * l.length := by
  induction l with
  | nil => rfl
  | cons e l ih =>
    rw [List.flatMap_cons, List.length_append, ih]
    show 2 + 2 * l.length = 2 * (l.length + 1)
    omega
theorem from_len (s : Ac.St) (b : Bool) : (Ac.oneGoes s b).2.length ≤ 1 := by
  unfold Ac.oneGoes
  split
  · unfold Ac.fromRecent
    split <;> simp
  · unfold Ac.fromFrequent
    split <;> simp
theorem roomA_len (s : Ac.St) (b : Bool) : (Ac.room s b).2.length ≤ 1 := by
  unfold Ac.room
  split
  · simp
  · exact from_len s b
theorem newA_len (s : Ac.St) : (Ac.makeNew s).2.length ≤ 1 := by
  unfold Ac.makeNew
  split
  · split
    · exact roomA_len _ _
    · split <;> simp
  · split
    · exact roomA_len _ _
    · exact roomA_len _ _
theorem putA_len (s : Ac.St) (k v : Nat) : (Ac.put s k v).2.length ≤ 1 := by
  unfold Ac.put
  split
  · simp
  · split
    · exact roomA_len _ _
    · split
      · exact roomA_len _ _
      · exact newA_len _
theorem shrink_len : ∀ (n : Nat) (s : Ac.St), (Ac.shrink n s).2.length ≤ n
  | 0, s => Nat.zero_le _
  | n + 1, s => by
    unfold Ac.shrink
    split
    · exact Nat.zero_le _
    · have h1 := from_len s false
      have h2 := shrink_len n (Ac.oneGoes s false).1
      show ((Ac.oneGoes s false).2 ++ (Ac.shrink n (Ac.oneGoes s false).1).2).length ≤ n + 1
      rw [List.length_append]
      omega
theorem ans_len {s : Ac.St} (g : Good s) (x : Call) : (ansOf s x).length ≤ 130 := by
  have hl : s.held.length ≤ 64 := by
    have := g.h1
    have := g.hi
    rw [held_len]
    omega
  have key : (Wqatag.step s x).2.nums.length + 2 * (Wqatag.step s x).2.left.length ≤ 129 := by
    cases x with
    | begin_ n =>
      show ((if Ac.okSize n = true then (Ac.new n, Wqatag.says 0) else (s, Wqatag.BAD)) : Ac.St × Ans).2.nums.length + 2 * ((if Ac.okSize n = true then (Ac.new n, Wqatag.says 0) else (s, Wqatag.BAD)) : Ac.St × Ans).2.left.length ≤ 129
      split
      · show 0 + 2 * 0 ≤ 129; omega
      · show 0 + 2 * 0 ≤ 129; omega
    | get k =>
      show (match Ac.valueIn s.held k with | some v => (Ac.use s k v, Wqatag.tells 1 [v]) | none => (s, Wqatag.says 0)).2.nums.length + 2 * (match Ac.valueIn s.held k with | some v => (Ac.use s k v, Wqatag.tells 1 [v]) | none => (s, Wqatag.says 0)).2.left.length ≤ 129
      cases Ac.valueIn s.held k with
      | none => show 0 + 2 * 0 ≤ 129; omega
      | some v => show 1 + 2 * 0 ≤ 129; omega
    | put k v =>
      have := putA_len s k v
      show 0 + 2 * (Ac.put s k v).2.length ≤ 129
      omega
    | drop k =>
      show (Wqatag.dropOf s k).2.nums.length + 2 * (Wqatag.dropOf s k).2.left.length ≤ 129
      unfold Wqatag.dropOf
      cases Ac.valueIn s.held k with
      | none => show 0 + 2 * 0 ≤ 129; omega
      | some v => show 0 + 2 * 1 ≤ 129; omega
    | place k => show 0 + 2 * 0 ≤ 129; omega
    | nth r i =>
      show (Wqatag.nthOf s r i).nums.length + 2 * (Wqatag.nthOf s r i).left.length ≤ 129
      unfold Wqatag.nthOf
      cases Ac.rowOf s r with
      | none => show 0 + 2 * 0 ≤ 129; omega
      | some l =>
        show (match l[i]? with | some k => Wqatag.tells 1 [k] | none => Wqatag.says 0).nums.length + 2 * (match l[i]? with | some k => Wqatag.tells 1 [k] | none => Wqatag.says 0).left.length ≤ 129
        cases l[i]? with
        | none => show 0 + 2 * 0 ≤ 129; omega
        | some k => show 1 + 2 * 0 ≤ 129; omega
    | sizes => show 5 + 2 * 0 ≤ 129; omega
    | resize n =>
      show ((if Ac.okSize n = true then ((Ac.resized s n).1, Wqatag.outs 0 (Ac.resized s n).2) else (s, Wqatag.BAD)) : Ac.St × Ans).2.nums.length + 2 * ((if Ac.okSize n = true then ((Ac.resized s n).1, Wqatag.outs 0 (Ac.resized s n).2) else (s, Wqatag.BAD)) : Ac.St × Ans).2.left.length ≤ 129
      by_cases c : Ac.okSize n = true
      · rw [if_pos c]
        have := shrink_len s.held.length { s with most := n, target := min s.target n }
        show 0 + 2 * (Ac.shrink s.held.length { s with most := n, target := min s.target n }).2.length ≤ 129
        omega
      · rw [if_neg c]
        show 0 + 2 * 0 ≤ 129
        omega
    | flush =>
      show 0 + 2 * (s.recent.reverse ++ s.frequent.reverse).length ≤ 129
      rw [List.length_append, List.length_reverse, List.length_reverse]
      rw [held_len] at hl
      omega
  unfold ansOf Wqatag.Ans.all
  rw [List.length_cons, List.length_map, List.length_append, flat_len]
  omega
end Tw
end
section
set_option Elab.async false
set_option linter.all false
set_option maxHeartbeats 1000000
/-! nth, sizes, resize, flush of the mirror are the specification's. -/
namespace Tw
theorem nz_get (l : List Nat) (i : Nat) : (nz l)[i]? = (l[i]?).map fun n : Nat => (n : Int) := List.getElem?_map ..
theorem nz_take (l : List Nat) (i : Nat) : (nz l).take i = nz (l.take i) := (List.map_take ..).symm
theorem nz_rev (l : List Nat) : (nz l).reverse = nz l.reverse := (List.map_reverse ..).symm
theorem ks_rev (l : List Ac.Entry) : (ks l).reverse = ks l.reverse := (List.map_reverse ..).symm
theorem nth_rel {s : Ac.St} {m : M} (R : Rows s m) (r i : Nat) : nth m r i = ansOf s (.nth r i) := by
  have key : ∀ (l : List Nat), Ac.rowOf s r = some l → m.row (r : Int) = nz l → 1 ≤ r ∧ r ≤ 4 → nth m r i = ansOf s (.nth r i) := by
    intro l h1 h2 h3
    unfold nth
    rw [if_pos h3, h2, nz_get]
    have e : Wqatag.step s (.nth r i) = (s, match l[i]? with | some k => Wqatag.tells 1 [k] | none => Wqatag.says 0) := by
      show (s, Wqatag.nthOf s r i) = _
      unfold Wqatag.nthOf
      rw [h1] <;> rfl
    unfold ansOf
    rw [e]
    cases l[i]? with
    | none => rfl
    | some k => rfl
  by_cases c : 1 ≤ r ∧ r ≤ 4
  · rcases (by omega : r = 1 ∨ r = 2 ∨ r = 3 ∨ r = 4) with rfl | rfl | rfl | rfl
    · exact key (ks s.recent) rfl R.r1 c
    · exact key (ks s.frequent) rfl R.r2 c
    · exact key s.once rfl R.r3 c
    · exact key s.again rfl R.r4 c
  · have e0 : Ac.rowOf s r = none := by
      unfold Ac.rowOf
      rw [if_neg (by omega), if_neg (by omega), if_neg (by omega), if_neg (by omega)]
    have e : Wqatag.step s (.nth r i) = (s, Wqatag.BAD) := by
      show (s, Wqatag.nthOf s r i) = _
      unfold Wqatag.nthOf
      rw [e0]
    unfold nth ansOf
    rw [if_neg c, e]
    rfl
theorem sizes_rel {s : Ac.St} {m : M} (R : Rows s m) : sizes m = ansOf s .sizes := by
  have e1 : m.r1.length = s.recent.length := by rw [R.r1, nz_len, ks_len]
  have e2 : m.r2.length = s.frequent.length := by rw [R.r2, nz_len, ks_len]
  have e3 : m.r3.length = s.once.length := by rw [R.r3, nz_len]
  have e4 : m.r4.length = s.again.length := by rw [R.r4, nz_len]
  unfold sizes lens4
  rw [e1, e2, e3, e4, R.most, R.target]
  rfl
theorem flatE_app (a b : List Ac.Entry) : flatE (a ++ b) = flatE a ++ flatE b := List.flatMap_append ..
theorem shrink_rel : ∀ (n : Nat) {t : Ac.St} {m : M}, Rel t m → Nd t → t.target ≤ t.most → t.recent.length + t.frequent.length ≤ n → len4 t ≤ 1000 →
    CanShrink n m ∧ Rel (Ac.shrink n t).1 (shrinkM n m).1 ∧ (shrinkM n m).2 = flatE (Ac.shrink n t).2
  | 0, t, m, R, nd, ht, h, hs => by
    have hl := rel_len R
    have hm := R.rows.most
    refine ⟨?_, R, rfl⟩
    show ¬ m.most < (m.held.length : Int)
    omega
  | n + 1, t, m, R, nd, ht, h, hs => by
    have hl := rel_len R
    have hm := R.rows.most
    by_cases c : t.recent.length + t.frequent.length ≤ t.most
    · have c' : ¬ m.most < (m.held.length : Int) := by omega
      have e1 : shrinkM (n + 1) m = (m, []) := by
        rw [shrinkM, if_neg c']
      have e2 : Ac.shrink (n + 1) t = (t, []) := by
        unfold Ac.shrink
        rw [held_len, if_pos c]
      rw [e1, e2]
      exact ⟨fun z => absurd z c', R, rfl⟩
    · have c' : m.most < (m.held.length : Int) := by omega
      have hp : t.frequent = [] → t.target < t.recent.length := fun q => by have z := len0 q; omega
      obtain ⟨a, b, d⟩ := one_rel (back := false) (pl := 0) R nd no4 hp
      obtain ⟨L, l1⟩ := oneGoes_less (s := t) (back := false) hp
      obtain ⟨a2, b2, d2⟩ := shrink_rel n b (nd_less L nd) (by rw [L.target, L.most]; exact ht) (by omega) (by rw [len4_less L]; exact hs)
      have e1 : shrinkM (n + 1) m = ((shrinkM n (oneGoes m 0).1).1, (oneGoes m 0).2 ++ (shrinkM n (oneGoes m 0).1).2) := by
        rw [shrinkM, if_pos c']
      have e2 : Ac.shrink (n + 1) t = ((Ac.shrink n (Ac.oneGoes t false).1).1, (Ac.oneGoes t false).2 ++ (Ac.shrink n (Ac.oneGoes t false).1).2) := by
        rw [Ac.shrink, held_len, if_neg c]
      rw [e1, e2]
      refine ⟨fun _ => ⟨a, small_of R hs, a2⟩, b2, ?_⟩
      show (oneGoes m 0).2 ++ (shrinkM n (oneGoes m 0).1).2 = flatE ((Ac.oneGoes t false).2 ++ (Ac.shrink n (Ac.oneGoes t false).1).2)
      rw [flatE_app, d, d2]
theorem resize_rel {s : Ac.St} {m : M} (g : Good s) (R : Rel s m) (c : Nat) :
    (1 ≤ (c : Int) ∧ (c : Int) ≤ 64 → CanResize m (c : Int)) ∧ Rel (Wqatag.step s (.resize c)).1 (resize m (c : Int)).1 ∧ (resize m (c : Int)).2 = ansOf s (.resize c) := by
  have es : Wqatag.step s (.resize c) = (if Ac.okSize c = true then ((Ac.resized s c).1, Wqatag.outs 0 (Ac.resized s c).2) else (s, Wqatag.BAD)) := rfl
  unfold ansOf
  rw [es]
  by_cases hc : 1 ≤ c ∧ c ≤ 64
  · have hc' : 1 ≤ (c : Int) ∧ (c : Int) ≤ 64 := by omega
    have ok : Ac.okSize c = true := okSize_iff.mpr hc
    rw [if_pos ok]
    have hl := rel_len R
    have nd := nd_of g
    have l4 := len4_good g
    have Rt : Rel { s with most := c, target := min s.target c } (fit m (c : Int)) := by
      refine ⟨⟨rfl, ?_, R.rows.r1, R.rows.r2, R.rows.r3, R.rows.r4⟩, R.held⟩
      show (if (c : Int) < m.target then (c : Int) else m.target) = ((min s.target c : Nat) : Int)
      rw [R.rows.target]
      split <;> omega
    have hn : m.held.length = s.held.length := by rw [hl, held_len]
    obtain ⟨a, b, d⟩ := shrink_rel s.held.length (t := { s with most := c, target := min s.target c }) Rt nd (Nat.min_le_right _ _) (by rw [held_len]; exact Nat.le_refl _) (by show len4 s ≤ 1000; omega)
    obtain ⟨L, hL⟩ := shrink_less s.held.length { s with most := c, target := min s.target c } (Nat.min_le_right _ _) (by show s.recent.length + s.frequent.length ≤ _; rw [held_len]; exact Nat.le_refl _)
    have er : resize m (c : Int) = (forget (shrinkM s.held.length (fit m (c : Int))).1, 0 :: (shrinkM s.held.length (fit m (c : Int))).2) := by
      unfold resize
      rw [if_pos hc', hn]
    have ez : Ac.resized s c = ({ (Ac.shrink s.held.length { s with most := c, target := min s.target c }).1 with
        once := (Ac.shrink s.held.length { s with most := c, target := min s.target c }).1.once.take (c - (Ac.shrink s.held.length { s with most := c, target := min s.target c }).1.recent.length),
        again := (Ac.shrink s.held.length { s with most := c, target := min s.target c }).1.again.take (2 * c - ((Ac.shrink s.held.length { s with most := c, target := min s.target c }).1.held.length + ((Ac.shrink s.held.length { s with most := c, target := min s.target c }).1.once.take (c - (Ac.shrink s.held.length { s with most := c, target := min s.target c }).1.recent.length)).length)) },
        (Ac.shrink s.held.length { s with most := c, target := min s.target c }).2) := rfl
    have em : (Ac.shrink s.held.length { s with most := c, target := min s.target c }).1.most = c := L.most
    have hL : (Ac.shrink s.held.length { s with most := c, target := min s.target c }).1.recent.length + (Ac.shrink s.held.length { s with most := c, target := min s.target c }).1.frequent.length ≤ c := hL
    have cr : CanShrink s.held.length (fit m (c : Int)) ∧ CanForget (shrinkM s.held.length (fit m (c : Int))).1 → CanResize m (c : Int) := fun ⟨z1, z2⟩ => ⟨by rw [hn]; exact z1, by rw [hn]; exact z2, by rw [hn, held_len]; unfold len4 at l4; omega⟩
    rw [er, ez]
    generalize Ac.shrink s.held.length { s with most := c, target := min s.target c } = x at b d em hL ⊢
    generalize shrinkM s.held.length (fit m (c : Int)) = y at b d cr ⊢
    have e1 : y.1.r1.length = x.1.recent.length := by rw [b.rows.r1, nz_len, ks_len]
    have e2 : y.1.r2.length = x.1.frequent.length := by rw [b.rows.r2, nz_len, ks_len]
    have ey : y.1.most = (c : Int) := by rw [b.rows.most, em]
    have c3 : (y.1.most - (y.1.r1.length : Int)).toNat = c - x.1.recent.length := by
      rw [ey, e1]
      omega
    have h3 : (forget y.1).r3 = nz (x.1.once.take (c - x.1.recent.length)) := by
      show y.1.r3.take (y.1.most - (y.1.r1.length : Int)).toNat = _
      rw [c3, b.rows.r3, nz_take]
    have h3l : (y.1.r3.take (y.1.most - (y.1.r1.length : Int)).toNat).length = (x.1.once.take (c - x.1.recent.length)).length := by
      rw [c3, b.rows.r3, nz_take, nz_len]
    have h4 : (forget y.1).r4 = nz (x.1.again.take (2 * c - (x.1.held.length + (x.1.once.take (c - x.1.recent.length)).length))) := by
      show y.1.r4.take (2 * y.1.most - ((y.1.r1.length : Int) + (y.1.r2.length : Int) + ((y.1.r3.take (y.1.most - (y.1.r1.length : Int)).toNat).length : Int))).toNat = _
      rw [h3l, ey, e1, e2, b.rows.r4, held_len, nz_take]
      congr 2
      omega
    refine ⟨fun _ => cr ⟨a, ?_⟩, ⟨⟨b.rows.most, b.rows.target, b.rows.r1, b.rows.r2, h3, h4⟩, b.held⟩, ?_⟩
    · show (y.1.r1.length : Int) + (y.1.r2.length : Int) ≤ y.1.most
      rw [ey, e1, e2]
      omega
    · show 0 :: y.2 = _
      rw [d, flatE_all]
      rfl
  · have hc' : ¬ (1 ≤ (c : Int) ∧ (c : Int) ≤ 64) := by omega
    have ok : ¬ Ac.okSize c = true := fun z => hc (okSize_iff.mp z)
    rw [if_neg ok]
    have er : resize m (c : Int) = (m, [-1]) := by
      unfold resize
      rw [if_neg hc']
    rw [er]
    exact ⟨fun z => absurd z hc', R, rfl⟩
theorem tell_ks (h : List (Int × Int)) : ∀ l : List Ac.Entry, (∀ e ∈ l, look h (e.1 : Int) = some (e.2 : Int)) → ((nz (ks l)).flatMap fun k => [k, (look h k).getD 0]) = flatE l
  | [], _ => rfl
  | e :: l, hl => by
    have ih := tell_ks h l fun x hx => hl x (List.mem_cons_of_mem _ hx)
    have h0 := hl e (List.mem_cons_self ..)
    show (((e.1 : Int) :: nz (ks l)).flatMap fun k => [k, (look h k).getD 0]) = _
    rw [List.flatMap_cons, ih, h0]
    rfl
theorem flush_rel {s : Ac.St} {m : M} (g : Good s) (R : Rel s m) : CanFlush m ∧ Rel (Wqatag.step s .flush).1 (blank m.most) ∧ flush m = ansOf s .flush := by
  have nd := nd_of g
  have hl := rel_len R
  have lk : ∀ e : Ac.Entry, e ∈ s.held → look m.held (e.1 : Int) = some (e.2 : Int) := fun e he => by
    rw [look_held R nd, mem_value (nd_held nd e.1) (v := e.2) he]
    rfl
  have lr : ∀ e : Ac.Entry, e ∈ s.recent → look m.held (e.1 : Int) = some (e.2 : Int) := fun e he => lk e (List.mem_append_left _ he)
  have lf : ∀ e : Ac.Entry, e ∈ s.frequent → look m.held (e.1 : Int) = some (e.2 : Int) := fun e he => lk e (List.mem_append_right _ he)
  have some_of : ∀ (l : List Ac.Entry), (∀ e ∈ l, look m.held (e.1 : Int) = some (e.2 : Int)) → ∀ k ∈ nz (ks l), (look m.held k).isSome = true := fun l h k hk => by
    obtain ⟨n, hn, rfl⟩ := List.mem_map.mp hk
    obtain ⟨e, he, rfl⟩ := List.mem_map.mp hn
    rw [h e he]
    rfl
  refine ⟨⟨small_of R (by have := len4_good g; omega), ?_⟩, ?_, ?_⟩
  · rintro k (hk | hk)
    · rw [R.rows.r1] at hk
      exact some_of _ lr k hk
    · rw [R.rows.r2] at hk
      exact some_of _ lf k hk
  · show Rel (Ac.new s.most) (blank m.most)
    rw [R.rows.most]
    exact blank_rel s.most
  · have b1 : back m.held m.r1 = flatE s.recent.reverse := by
      unfold back
      rw [R.rows.r1, nz_rev, ks_rev]
      exact tell_ks _ _ fun e he => lr e (List.mem_reverse.mp he)
    have b2 : back m.held m.r2 = flatE s.frequent.reverse := by
      unfold back
      rw [R.rows.r2, nz_rev, ks_rev]
      exact tell_ks _ _ fun e he => lf e (List.mem_reverse.mp he)
    unfold flush
    rw [b1, b2, ← flatE_app, hl, flatE_all]
    show _ = ((s.held.length : Nat) : Int) :: ([] ++ (s.recent.reverse ++ s.frequent.reverse).flatMap fun (e : Ac.Entry) => [e.1, e.2]).map WqatagNeutral.int
    rw [held_len]
    rfl
end Tw
end
section
set_option Elab.async false
set_option linter.all false
set_option maxRecDepth 100000
set_option maxHeartbeats 2000000
/-! answer_call -/
namespace Tw
open PySem PySem.Spec PyProof.Rows L2
/-- answer_call's, for all nine calls -/
def spCallA (C : Addr) : Sp := fun vs H Q _ => ∃ (p : Addr) (F : Ft) (m : M) (s : Ac.St) (x : Wqatag.Call) (c : Addr) (cs : List Int), vs = [.ref p, .ref c] ∧ Rep C H p F m ∧ Rel s m ∧ Good s ∧ WqatagNeutral.rowsOf x = [cs] ∧ H c = some (.lst (cs.map V.int)) ∧
  ∀ (l : Addr) (F' : Ft) (m' : M) (H' : Hp), H' l = some (.lst ((ansOf s x).map V.int)) → ¬ In p F' l → H l = none → Rep C H' p F' m' → Rel (Wqatag.step s x).1 m' → (∀ b o, H b = some o → ¬ In p F b → H' b = some o ∧ (¬ In p F' b)) → Q (.ref l) H'
section
variable {P : Program} {w : World} {K : PySem.W.Frag} {mg : Str → Option Value} {base : Heap}
theorem scCall : FnScope ["cache", "call", "number"] ["cache", "call"] (defScope sCall) := ⟨rfl, rfl, rfl, by decide +kernel, rfl, by decide +kernel, by decide +kernel⟩
theorem no {a b : Int} {A B : Prop} (h : ¬ a = b) (q : B) : if decide (V.int a = V.int b) = true then A else B := by
  rw [if_neg (fun z => h (vint.mp z))]
  exact q
theorem yes {a b : Int} {A B : Prop} (h : a = b) (q : A) : if decide (V.int a = V.int b) = true then A else B := by
  rw [if_pos (vint.mpr h)]
  exact q
theorem ok_call {f C : Addr} {fd : FuncData} (Fn : Fun K "answer_call" "answer_call" sCall f fd) (T : Txt K mg C) (M1 : Mth P w K mg base C "begin" 2 ["self", "most"] (spBegin C)) (M2 : Mth P w K mg base C "get" 4 ["self", "key"] (spGet C))
    (M3 : Mth P w K mg base C "put" 7 ["self", "key", "value"] (spPut C)) (M4 : Mth P w K mg base C "drop" 3 ["self", "key"] (spDrop C)) (M5 : Mth P w K mg base C "place" 1 ["self", "key"] (spPlace C))
    (M6 : Mth P w K mg base C "nth" 1 ["self", "row", "i"] (spNth C)) (M7 : Mth P w K mg base C "sizes" 2 ["self"] (spSizes C)) (M8 : Mth P w K mg base C "resize" 4 ["self", "most"] (spResize C)) (M9 : Mth P w K mg base C "flush" 2 ["self"] (spFlush C)) :
    FnOk P w K mg base CX0 8 f fd ["cache", "call"] (spCallA C) := by
  refine Fn.ok scCall (fun vs H Q E h => ?_) (fun cdv A outer s H vs Q E hr h => ?_)
  · obtain ⟨p, F, m, s, x, c, cs, rfl, _⟩ := h
    rfl
  · obtain ⟨p, F, m, st, x, c, cs, rfl, R, Rl, g, hx, hc, kont⟩ := h
    refine ⟨_, pss_cons (ps_set (i := 2) scCall.nd rfl (Or.inl rfl) (pe_ix ix_list (pv 1) pe_int (fun _ _ => rfl)))
      (pss_cons (ps_if (pt_cmpR op_eq (pv 2) (pk T.kB) (nomark _)) (pss_one (ps_ret (se_meth T M1 (hr.mono (by decide)) (pa_cons (pe_ix ix_list (pv 1) pe_int (fun _ _ => rfl)) pa_nil)))) pss_nil)
      (pss_cons (ps_if (pt_cmpR op_eq (pv 2) (pk T.kG) (nomark _)) (pss_one (ps_ret (se_meth T M2 (hr.mono (by decide)) (pa_cons (pe_ix ix_list (pv 1) pe_int (fun _ _ => rfl)) pa_nil)))) pss_nil)
      (pss_cons (ps_if (pt_cmpR op_eq (pv 2) (pk T.kP) (nomark _)) (pss_one (ps_ret (se_meth T M3 hr (pa_cons (pe_ix ix_list (pv 1) pe_int (fun _ _ => rfl)) (pa_cons (pe_ix ix_list (pv 1) pe_int (fun _ _ => rfl)) pa_nil))))) pss_nil)
      (pss_cons (ps_if (pt_cmpR op_eq (pv 2) (pk T.kD) (nomark _)) (pss_one (ps_ret (se_meth T M4 (hr.mono (by decide)) (pa_cons (pe_ix ix_list (pv 1) pe_int (fun _ _ => rfl)) pa_nil)))) pss_nil)
      (pss_cons (ps_if (pt_cmpR op_eq (pv 2) (pk T.kPl) (nomark _)) (pss_one (ps_ret (pe_lst (pa_cons (se_meth T M5 (hr.mono (by decide)) (pa_cons (pe_ix ix_list (pv 1) pe_int (fun _ _ => rfl)) pa_nil)) pa_nil)))) pss_nil)
      (pss_cons (ps_if (pt_cmpR op_eq (pv 2) (pk T.kN) (nomark _)) (pss_one (ps_ret (se_meth T M6 (hr.mono (by decide)) (pa_cons (pe_ix ix_list (pv 1) pe_int (fun _ _ => rfl)) (pa_cons (pe_ix ix_list (pv 1) pe_int (fun _ _ => rfl)) pa_nil))))) pss_nil)
      (pss_cons (ps_if (pt_cmpR op_eq (pv 2) (pk T.kS) (nomark _)) (pss_one (ps_ret (se_meth0 T M7 (hr.mono (by decide))))) pss_nil)
      (pss_cons (ps_if (pt_cmpR op_eq (pv 2) (pk T.kR) (nomark _)) (pss_one (ps_ret (se_meth T M8 (hr.mono (by decide)) (pa_cons (pe_ix ix_list (pv 1) pe_int (fun _ _ => rfl)) pa_nil)))) pss_nil)
      (pss_one (ps_ret (se_meth0 T M9 (hr.mono (by decide))))))))))))), ?_⟩
    have kp : ∀ {H' : Hp}, Kp p F H H' → ∀ b o, H b = some o → ¬ In p F b → H' b = some o ∧ (¬ In p F b) := fun k b o e n => ⟨k b o e n, n⟩
    cases x with
    | begin_ n =>
      injection hx with hx
      subst hx
      refine ⟨_, rfl, c, _, _, .int 0, rfl, rfl, SqL.of hc, rfl, ?_⟩
      refine ⟨_, rfl, rfl, _, rfl, yes rfl ?_⟩
      refine ⟨p, F, m, rfl, R, _, rfl, c, _, _, .int (n : Int), rfl, rfl, SqL.of hc, rfl, p, F, m, n, rfl, R, fun l F' H' hl nl fl R' fr => ?_⟩
      obtain ⟨a, b⟩ := begin_rel Rl n
      exact kont l F' _ H' (by rw [show ansOf st (.begin_ n) = _ from b.symm]; exact hl) nl fl R' a fr
    | get n =>
      injection hx with hx
      subst hx
      refine ⟨_, rfl, c, _, _, .int 1, rfl, rfl, SqL.of hc, rfl, ?_⟩
      refine ⟨_, rfl, rfl, _, rfl, no (by decide) ?_⟩
      refine ⟨_, rfl, rfl, _, rfl, yes rfl ?_⟩
      obtain ⟨a, b, d, e⟩ := get_rel g Rl n
      refine ⟨p, F, m, rfl, R, _, rfl, c, _, _, .int (n : Int), rfl, rfl, SqL.of hc, rfl, p, F, m, n, rfl, R, a, b, fun l H' hl nl fl R' k' => ?_⟩
      exact kont l F _ H' (by rw [show ansOf st (.get n) = _ from e.symm]; exact hl) nl fl R' d (kp k')
    | put n v =>
      injection hx with hx
      subst hx
      refine ⟨_, rfl, c, _, _, .int 2, rfl, rfl, SqL.of hc, rfl, ?_⟩
      refine ⟨_, rfl, rfl, _, rfl, no (by decide) ?_⟩
      refine ⟨_, rfl, rfl, _, rfl, no (by decide) ?_⟩
      refine ⟨_, rfl, rfl, _, rfl, yes rfl ?_⟩
      obtain ⟨a, d, e⟩ := put_rel g Rl n v
      refine ⟨p, F, m, rfl, R, _, rfl, c, _, _, .int (n : Int), rfl, rfl, SqL.of hc, rfl, _, rfl, c, _, _, .int (v : Int), rfl, rfl, SqL.of hc, rfl, p, F, m, n, v, rfl, R, a, fun l H' hl nl fl R' k' => ?_⟩
      refine kont l F _ H' ?_ nl fl R' d (kp k')
      have q : ansOf st (.put n v) = (put m (n : Int) (v : Int)).2 := by
        rw [e, flatE_all]
        rfl
      rw [q]
      exact hl
    | drop n =>
      injection hx with hx
      subst hx
      refine ⟨_, rfl, c, _, _, .int 3, rfl, rfl, SqL.of hc, rfl, ?_⟩
      refine ⟨_, rfl, rfl, _, rfl, no (by decide) ?_⟩
      refine ⟨_, rfl, rfl, _, rfl, no (by decide) ?_⟩
      refine ⟨_, rfl, rfl, _, rfl, no (by decide) ?_⟩
      refine ⟨_, rfl, rfl, _, rfl, yes rfl ?_⟩
      obtain ⟨d, e⟩ := drop_rel g Rl n
      refine ⟨p, F, m, rfl, R, _, rfl, c, _, _, .int (n : Int), rfl, rfl, SqL.of hc, rfl, p, F, m, n, rfl, R, fun l H' hl nl fl R' k' => ?_⟩
      exact kont l F _ H' (by rw [show ansOf st (.drop n) = _ from e.symm]; exact hl) nl fl R' d (kp k')
    | place n =>
      injection hx with hx
      subst hx
      refine ⟨_, rfl, c, _, _, .int 4, rfl, rfl, SqL.of hc, rfl, ?_⟩
      refine ⟨_, rfl, rfl, _, rfl, no (by decide) ?_⟩
      refine ⟨_, rfl, rfl, _, rfl, no (by decide) ?_⟩
      refine ⟨_, rfl, rfl, _, rfl, no (by decide) ?_⟩
      refine ⟨_, rfl, rfl, _, rfl, no (by decide) ?_⟩
      refine ⟨_, rfl, rfl, _, rfl, yes rfl ?_⟩
      refine ⟨p, F, m, rfl, R, _, rfl, c, _, _, .int (n : Int), rfl, rfl, SqL.of hc, rfl, p, F, m, n, rfl, R, fun H1 s1 => ?_⟩
      have R1 := R.same s1
      refine ⟨(by show 1 ≤ sizeLine; decide), fun l fl => ?_⟩
      have k1 : Kp p F H (upd H1 l (.lst [.int (place m (n : Int))])) := (Kp.of s1).trans (Kp.of (same_new fl))
      refine kont l F m _ ?_ (R1.fresh fl) (s1.free fl) (R1.same (same_new fl)) Rl (kp k1)
      have q : ansOf st (.place n) = [place m (n : Int)] := by
        rw [place_rel Rl.rows]
        rfl
      rw [q]
      exact upd_same
    | nth r i =>
      injection hx with hx
      subst hx
      refine ⟨_, rfl, c, _, _, .int 5, rfl, rfl, SqL.of hc, rfl, ?_⟩
      refine ⟨_, rfl, rfl, _, rfl, no (by decide) ?_⟩
      refine ⟨_, rfl, rfl, _, rfl, no (by decide) ?_⟩
      refine ⟨_, rfl, rfl, _, rfl, no (by decide) ?_⟩
      refine ⟨_, rfl, rfl, _, rfl, no (by decide) ?_⟩
      refine ⟨_, rfl, rfl, _, rfl, no (by decide) ?_⟩
      refine ⟨_, rfl, rfl, _, rfl, yes rfl ?_⟩
      refine ⟨p, F, m, rfl, R, _, rfl, c, _, _, .int (r : Int), rfl, rfl, SqL.of hc, rfl, _, rfl, c, _, _, .int (i : Int), rfl, rfl, SqL.of hc, rfl, p, F, m, r, i, rfl, R, fun l H' hl fl s1 => ?_⟩
      have R' := R.same s1
      exact kont l F m H' (by rw [← nth_rel Rl.rows]; exact hl) (fun z => (R.fresh fl) z) fl R' Rl (kp (Kp.of s1))
    | sizes =>
      injection hx with hx
      subst hx
      refine ⟨_, rfl, c, _, _, .int 6, rfl, rfl, SqL.of hc, rfl, ?_⟩
      refine ⟨_, rfl, rfl, _, rfl, no (by decide) ?_⟩
      refine ⟨_, rfl, rfl, _, rfl, no (by decide) ?_⟩
      refine ⟨_, rfl, rfl, _, rfl, no (by decide) ?_⟩
      refine ⟨_, rfl, rfl, _, rfl, no (by decide) ?_⟩
      refine ⟨_, rfl, rfl, _, rfl, no (by decide) ?_⟩
      refine ⟨_, rfl, rfl, _, rfl, no (by decide) ?_⟩
      refine ⟨_, rfl, rfl, _, rfl, yes rfl ?_⟩
      refine ⟨p, F, m, rfl, R, p, F, m, rfl, R, fun l H' hl fl s1 => ?_⟩
      have R' := R.same s1
      exact kont l F m H' (by rw [← sizes_rel Rl.rows]; exact hl) (R.fresh fl) fl R' Rl (kp (Kp.of s1))
    | resize n =>
      injection hx with hx
      subst hx
      refine ⟨_, rfl, c, _, _, .int 7, rfl, rfl, SqL.of hc, rfl, ?_⟩
      refine ⟨_, rfl, rfl, _, rfl, no (by decide) ?_⟩
      refine ⟨_, rfl, rfl, _, rfl, no (by decide) ?_⟩
      refine ⟨_, rfl, rfl, _, rfl, no (by decide) ?_⟩
      refine ⟨_, rfl, rfl, _, rfl, no (by decide) ?_⟩
      refine ⟨_, rfl, rfl, _, rfl, no (by decide) ?_⟩
      refine ⟨_, rfl, rfl, _, rfl, no (by decide) ?_⟩
      refine ⟨_, rfl, rfl, _, rfl, no (by decide) ?_⟩
      refine ⟨_, rfl, rfl, _, rfl, yes rfl ?_⟩
      obtain ⟨a, d, e⟩ := resize_rel g Rl n
      refine ⟨p, F, m, rfl, R, _, rfl, c, _, _, .int (n : Int), rfl, rfl, SqL.of hc, rfl, p, F, m, n, rfl, R, a, fun l H' hl nl fl R' k' => ?_⟩
      exact kont l F _ H' (by rw [← e]; exact hl) nl fl R' d (kp k')
    | flush =>
      injection hx with hx
      subst hx
      refine ⟨_, rfl, c, _, _, .int 8, rfl, rfl, SqL.of hc, rfl, ?_⟩
      refine ⟨_, rfl, rfl, _, rfl, no (by decide) ?_⟩
      refine ⟨_, rfl, rfl, _, rfl, no (by decide) ?_⟩
      refine ⟨_, rfl, rfl, _, rfl, no (by decide) ?_⟩
      refine ⟨_, rfl, rfl, _, rfl, no (by decide) ?_⟩
      refine ⟨_, rfl, rfl, _, rfl, no (by decide) ?_⟩
      refine ⟨_, rfl, rfl, _, rfl, no (by decide) ?_⟩
      refine ⟨_, rfl, rfl, _, rfl, no (by decide) ?_⟩
      refine ⟨_, rfl, rfl, _, rfl, no (by decide) ?_⟩
      obtain ⟨a, d, e⟩ := flush_rel g Rl
      refine ⟨p, F, m, rfl, R, p, F, m, rfl, R, a, fun l F' H' hl nl fl R' fr => ?_⟩
      exact kont l F' _ H' (by rw [← e]; exact hl) nl fl R' d fr
end
end Tw
end
section
set_option Elab.async false
set_option linter.all false
set_option maxRecDepth 100000
set_option maxHeartbeats 2000000
/-! answers: the calls one behind another -/
namespace Tw
open PySem PySem.Spec PyProof.Rows L2
def lens : List Int := [2, 2, 3, 2, 2, 3, 1, 2, 1]
theorem lens_at {p : Int} {n : Nat} (h : PyWqatag.shape p = some (n, 0)) : ∃ k : Nat, p = (k : Int) ∧ (lens.map V.int)[k]? = some (.int ((n : Int) + 1)) := by
  obtain ⟨_, _, h0, h8, hn⟩ := shape_rows h
  rcases (by omega : p = 0 ∨ p = 1 ∨ p = 2 ∨ p = 3 ∨ p = 4 ∨ p = 5 ∨ p = 6 ∨ p = 7 ∨ p = 8) with rfl | rfl | rfl | rfl | rfl | rfl | rfl | rfl | rfl
  · subst hn; exact ⟨0, rfl, rfl⟩
  · subst hn; exact ⟨1, rfl, rfl⟩
  · subst hn; exact ⟨2, rfl, rfl⟩
  · subst hn; exact ⟨3, rfl, rfl⟩
  · subst hn; exact ⟨4, rfl, rfl⟩
  · subst hn; exact ⟨5, rfl, rfl⟩
  · subst hn; exact ⟨6, rfl, rfl⟩
  · subst hn; exact ⟨7, rfl, rfl⟩
  · subst hn; exact ⟨8, rfl, rfl⟩
/-- what is told so far, and that the rest is as the specification says -/
structure Todo (ns acc : List Int) (j : Nat) (s : Ac.St) : Prop where
  le : j ≤ ns.length
  good : Good s
  ex : ∃ f cs, PyFlat.calls PyWqatag.shape f (ns.drop j) = some cs ∧ (∀ c ∈ cs, WqatagNeutral.asked1 c = true) ∧ PyWqatag.answers ns = acc ++ PyFlat.told (PyFlat.played WqatagNeutral.step s cs) ∧ acc.length + 131 * cs.length ≤ 52400
theorem todo_start {ns : List Int} (h : PyWqatag.answers_asked ns = true) : Todo ns [] 0 Wqatag.start := by
  refine ⟨Nat.zero_le _, good_new (by decide) (by decide), ?_⟩
  unfold PyWqatag.answers_asked at h
  cases e : PyWqatag.calls ns with
  | none =>
    rw [e] at h
    cases h
  | some cs =>
    rw [e] at h
    have h : (PyFlat.atMost 400 cs && WqatagNeutral.asked cs) = true := h
    rw [Bool.and_eq_true] at h
    have h1 : cs.length ≤ 400 := of_decide_eq_true h.1
    have h2 := h.2
    unfold WqatagNeutral.asked at h2
    rw [Bool.and_eq_true, Bool.and_eq_true, Bool.and_eq_true] at h2
    have h3 : ∀ c ∈ cs, WqatagNeutral.asked1 c = true := List.all_eq_true.mp h2.1.1.1
    have e0 : PyFlat.calls PyWqatag.shape ns.length ns = some cs := by
      unfold PyWqatag.calls at e
      cases q : PyFlat.calls PyWqatag.shape ns.length ns with
      | none =>
        rw [q] at e
        cases e
      | some c0 =>
        rw [q] at e
        have e : some (c0.map PyWqatag.whole) = some cs := e
        rw [map_whole] at e
        exact e
    refine ⟨ns.length, cs, e0, h3, ?_, ?_⟩
    · unfold PyWqatag.answers
      rw [e]
      rfl
    · show 0 + 131 * cs.length ≤ 52400
      omega
theorem todo_step {ns acc : List Int} {j : Nat} {s : Ac.St} (t : Todo ns acc j s) (hj : j < ns.length) :
    ∃ (p : Int) (n : Nat) (x : Wqatag.Call), ns[j]? = some p ∧ PyWqatag.shape p = some (n, 0) ∧ j + (n + 1) ≤ ns.length ∧ WqatagNeutral.rowsOf x = [(ns.drop j).take (n + 1)] ∧
      acc.length + 131 ≤ 52400 ∧ (ansOf s x).length ≤ 130 ∧ Todo ns (acc ++ [((ansOf s x).length : Int)] ++ ansOf s x) (j + (n + 1)) (Wqatag.step s x).1 := by
  obtain ⟨f, cs, hc, ha, he, hl⟩ := t.ex
  have hd : ns.drop j = ns[j] :: ns.drop (j + 1) := List.drop_eq_getElem_cons hj
  rw [hd] at hc
  obtain ⟨f', n, cs', hs, hn, rfl, hc'⟩ := calls_cons hc
  obtain ⟨x, hx, hx2⟩ := asked_call (ha _ (List.mem_cons_self ..))
  rw [List.length_drop] at hn
  rw [List.length_cons] at hl
  have lx := ans_len t.good x
  refine ⟨ns[j], n, x, List.getElem?_eq_getElem hj, hs, by omega, ?_, by omega, lx, by omega, good_step t.good x, f', cs', ?_, fun c m => ha c (List.mem_cons_of_mem _ m), ?_, ?_⟩
  · rw [← hx, hd]
    rfl
  · rw [List.drop_drop] at hc'
    rw [show j + (n + 1) = j + 1 + n by omega]
    exact hc'
  · rw [he]
    show acc ++ PyFlat.told ((WqatagNeutral.step s _).2 :: PyFlat.played WqatagNeutral.step (WqatagNeutral.step s _).1 cs') = _
    rw [step_of hx2]
    show acc ++ (((ansOf s x).length : Int) :: ansOf s x ++ PyFlat.told (PyFlat.played WqatagNeutral.step (Wqatag.step s x).1 cs')) = _
    rw [List.append_assoc, List.append_assoc]
    rfl
  · rw [List.length_append, List.length_append]
    show acc.length + 1 + (ansOf s x).length + 131 * cs'.length ≤ 52400
    omega
theorem todo_end {ns acc : List Int} {s : Ac.St} (t : Todo ns acc ns.length s) : PyWqatag.answers ns = acc := by
  obtain ⟨f, cs, hc, _, he, _⟩ := t.ex
  rw [List.drop_length, calls_nil] at hc
  cases hc
  rw [he]
  show acc ++ [] = acc
  rw [List.append_nil]
/-- answers': a list of calls is handed in, the specification's list comes out -/
def spAns (K : PySem.W.Frag) : Sp := fun vs H Q _ => ∃ (a : Addr) (ns : List Int), vs = [.ref a] ∧ SqL K H a (ns.map V.int) ∧ PyWqatag.answers_asked ns = true ∧
  ∀ (H' : Hp) (p : Addr), H' p = some (.lst ((PyWqatag.answers ns).map V.int)) → Q (.ref p) H'
theorem cut_nat (ns : List Int) (j n : Nat) (h : j + n ≤ ns.length) : cutV (ns.map V.int) (some (j : Int)) (some ((j : Int) + (n : Int))) = ((ns.drop j).take n).map V.int := by
  unfold cutV
  rw [show ((j : Int) + (n : Int)) = ((j + n : Nat) : Int) by omega, HT.sIx_nat, HT.sIx_nat, List.length_map, Nat.min_eq_left (show j ≤ ns.length by omega), Nat.min_eq_left h, show j + n - j = n by omega, List.map_take, List.map_drop]
theorem Rep.off {C p q : Addr} {H : Hp} {F : Ft} {m : M} {o : HO} (R : Rep C H p F m) (n : ¬ In p F q) : Rep C (upd H q o) p F m := by
  have z : ∀ {b : Addr}, In p F b → upd H q o b = H b := fun {b} h => upd_ne fun e => n (by rw [← e]; exact h)
  obtain ⟨dx, h⟩ := R.ob
  exact ⟨⟨dx, by rw [z (.inl rfl)]; exact h⟩, by rw [z (.inr (.inl rfl))]; exact R.dr, by rw [z (.inr (.inr (.inr (.inl rfl))))]; exact R.l1, by rw [z (.inr (.inr (.inr (.inr (.inl rfl)))))]; exact R.l2,
    by rw [z (.inr (.inr (.inr (.inr (.inr (.inl rfl))))))]; exact R.l3, by rw [z (.inr (.inr (.inr (.inr (.inr (.inr rfl))))))]; exact R.l4, by rw [z (.inr (.inr (.inl rfl)))]; exact R.dh, R.nd, R.n12, R.n13, R.n14, R.n23, R.n24, R.n34⟩
section
variable {P : Program} {w : World} {K : PySem.W.Frag} {mg : Str → Option Value} {base : Heap}
theorem scAns : FnScope ["calls", "cache", "told", "start", "end", "answer"] ["calls"] (defScope sAns) := ⟨rfl, rfl, rfl, by decide +kernel, rfl, by decide +kernel, by decide +kernel⟩
/-- what holds ahead of each turn -/
def LoopI (K : PySem.W.Frag) (C a p q : Addr) (ns : List Int) (H0 : Hp) (j : Nat) (H : Hp) : Prop :=
  ∃ (F : Ft) (m : M) (s : Ac.St) (acc : List Int), Todo ns acc j s ∧ Rep C H p F m ∧ Rel s m ∧ H q = some (.lst (acc.map V.int)) ∧ ¬ In p F q ∧ ∀ b o, H0 b = some o → b ≠ q ∧ H b = some o ∧ ¬ In p F b
theorem ok_ans {k : Nat} {f C fI fC t : Addr} {fd fdI fdC : FuncData} (k2 : 2 + 1 ≤ k) (Fn : Fun K "answers" "answers" sAns f fd) (T : Txt K mg C) (M : Mk K C fI) (GI : FnOk P w K mg base CX0 2 fI fdI ["self"] (spInit C)) (bI : Binds K fdI ["self"] [])
    (GC : FnOk P w K mg base CX0 k fC fdC ["cache", "call"] (spCallA C)) (bC : Binds K fdC ["cache", "call"] []) (mC : mg "answer_call" = some (.ref fC)) (kC : PySem.W.keepIn K (.ref fC) = true)
    (mL : mg "CALL_LENGTHS" = some (.ref t)) (hL : ∀ H, SqT K H t (lens.map V.int)) :
    FnOk P w K mg base CX0 (k + 1) f fd ["calls"] (spAns K) := by
  refine Fn.ok scAns (fun vs H Q E h => ?_) (fun cdv A outer s H vs Q E hr h => ?_)
  · obtain ⟨a, ns, rfl, _⟩ := h
    rfl
  · obtain ⟨a, ns, rfl, hS, hask, kont⟩ := h
    refine ⟨_, pss_cons (ps_set (i := 1) scAns.nd rfl (Or.inl rfl) (pe_make0 M GI (hr.mono k2) rfl T.mgC bI .nil pass0))
      (pss_cons (ps_set (i := 2) scAns.nd rfl (Or.inl rfl) (pe_lst pa_nil))
      (pss_cons (ps_set (i := 3) scAns.nd rfl (Or.inl rfl) pe_int)
      (pss_cons (ps_while PassesOwn.never (pt_cmpR op_lt (pv 3) (pe_callB call_len_seq (by rfl) T.len PySem.boot_len (pa_cons (pv 0) pa_nil)) (nomark _))
        (pss_cons (ps_set (i := 4) scAns.nd rfl (Or.inl rfl) (pe_op op_add (pv 3) (pe_ix ix_tup (pe_glob (v := .ref t) rfl mL rfl) (pe_ix ix_list (pv 0) (pv 3) (fun _ _ => rfl)) (fun _ _ => rfl))))
        (pss_cons (ps_set (i := 5) scAns.nd rfl (Or.inl rfl) (pe_call GC hr rfl mC kC bC .nil pass0 (pa_cons (pv 1) (pa_cons (pe_slice sl_list (pv 0) (po_some (pv 3)) (po_some (pv 4))) pa_nil))))
        (pss_cons (ps_expr (pe_bm PySem.F.plainAttrs_list PySem.F.slot_list_append PySem.F.type_list_append mt_append (pv 2) (pa_cons (pe_callB call_len_seq (by rfl) T.len PySem.boot_len (pa_cons (pv 5) pa_nil)) pa_nil)))
        (pss_cons (ps_expr (pe_bm PySem.F.plainAttrs_list PySem.F.slot_list_extend PySem.F.type_list_extend mt_extend (pv 2) (pa_cons (pv 5) pa_nil)))
        (pss_one (ps_set (i := 3) scAns.nd rfl (Or.inl rfl) (pv 4))))))))
      (pss_one (ps_ret (pv 2)))))), ?_⟩
    -- cache = Cache()
    intro p d n0 m0 e0
    refine ⟨p, d, rfl, upd_same, fun F0 H1 R1 fr => ⟨rfl, ?_⟩⟩
    have fr0 : ∀ b o, H b = some o → H1 b = some o ∧ ¬ In p F0 b := fun b o e => fr b o (by rw [upd_ne (ne_of_none e n0), upd_ne (ne_of_none e m0)]; exact e) (ne_of_none e n0)
    -- told = []
    refine ⟨Nat.zero_le _, fun q hq => ?_⟩
    -- start = 0
    have L0 : LoopI K C a p q ns H 0 (upd H1 q (.lst [])) := ⟨F0, blank 16, Wqatag.start, [], todo_start hask, R1.same (same_new hq), blank_rel 16, upd_same, R1.fresh hq, fun b o e => by
      obtain ⟨e1, e2⟩ := fr0 b o e
      have nb := ne_of_none e1 hq
      exact ⟨nb, by rw [upd_ne nb]; exact e1, e2⟩⟩
    refine while_by (fun σ H' => ∃ (j : Nat) (v4 v5 : Option V), σ = [some (.ref a), some (.ref p), some (.ref q), some (.int (j : Int)), v4, v5] ∧ LoopI K C a p q ns H j H')
      (fun (σ : L2.St) _ => match σ[3]? with | some (some (V.int i)) => ns.length - i.toNat | _ => 0) ⟨0, none, none, rfl, L0⟩ ?_ ?_
    · rintro σ H2 ⟨j, v4, v5, rfl, F, m, st, acc, td, R, Rl, hq2, nq, fr2⟩
      have hS2 : SqL K H2 a (ns.map V.int) := Same.seq (fun b o e => (fr2 b o e).2.1) hS
      refine ⟨_, rfl, _, rfl, a, _, rfl, .inl hS2, _, _, rfl, rfl, _, rfl, ?_⟩
      rw [List.length_map]
      refine ite2 (fun c => ?_) (fun c => ?_)
      · have c : (j : Int) < (ns.length : Int) := of_decide_eq_true c
        obtain ⟨z, n, x, hz, hs, hjn, hx, hacc, hlen, td2⟩ := todo_step td (by omega)
        obtain ⟨i, rfl, hi⟩ := lens_at hs
        -- end = start + CALL_LENGTHS[calls[start]]
        refine ⟨_, rfl, _, rfl, _, rfl, a, _, _, .int (i : Int), rfl, rfl, hS2, atI_nat (by rw [List.getElem?_map, hz]; rfl), t, _, _, .int ((n : Int) + 1), rfl, rfl, hL _, atI_nat hi, _, _, rfl, rfl, ?_⟩
        -- answer = answer_call(cache, calls[start:end])
        refine ⟨_, rfl, _, rfl, _, rfl, (j : Int), rfl, _, rfl, (j : Int) + ((n : Int) + 1), rfl, a, _, rfl, hS2, fun c2 hc2 => ?_⟩
        have s3 : Same H2 (upd H2 c2 (.lst (cutV (ns.map V.int) (some (j : Int)) (some ((j : Int) + ((n : Int) + 1)))))) := same_new hc2
        have ec : cutV (ns.map V.int) (some (j : Int)) (some ((j : Int) + ((n : Int) + 1))) = ((ns.drop j).take (n + 1)).map V.int := cut_nat ns j (n + 1) hjn
        rw [ec] at s3 ⊢
        generalize hH3 : upd H2 c2 (.lst (((ns.drop j).take (n + 1)).map V.int)) = H3 at s3 ⊢
        have hc3 : H3 c2 = some (.lst (((ns.drop j).take (n + 1)).map V.int)) := by rw [← hH3]; exact upd_same
        refine ⟨p, F, m, st, x, c2, _, rfl, R.same s3, Rl, td.good, hx, hc3, fun l F' m' H4 hl nl fl R4 Rl4 fr4 => ?_⟩
        obtain ⟨hq4, nq4⟩ := fr4 q _ (s3 _ _ hq2) nq
        have nlq : l ≠ q := fun e => by
          rw [e, s3 _ _ hq2] at fl
          cases fl
        -- told.append(len(answer))
        refine ⟨_, rfl, .inl ⟨rfl, _, SqL.of hq4⟩, _, rfl, l, _, rfl, .inl (SqL.of hl), q, _, _, rfl, rfl, hq4, (by rw [List.length_map]; exact Nat.lt_of_le_of_lt (show acc.length ≤ 52400 by omega) (by decide)), ?_⟩
        rw [List.length_map]
        -- told.extend(answer)
        refine ⟨_, rfl, .inl ⟨rfl, _, SqL.of upd_same⟩, _, rfl, q, l, _, _, rfl, rfl, upd_same, (by rw [upd_ne nlq]; exact hl), (by rw [List.length_append, List.length_map, List.length_map]; exact Nat.le_trans (show acc.length + 1 + (ansOf st x).length ≤ 52400 + 130 by omega) (by decide)), ?_⟩
        -- start = end
        refine ⟨_, rfl, ⟨j + (n + 1), some (.int ((j : Int) + ((n : Int) + 1))), some (.ref l), rfl, F', m', _, _, td2, (R4.off nq4).off nq4, Rl4, ?_, nq4, fun b o e => ?_⟩, ?_⟩
        · rw [upd_same, List.map_append, List.map_append]
          rfl
        · obtain ⟨b1, b2, b3⟩ := fr2 b o e
          obtain ⟨b4, b5⟩ := fr4 b o (s3 _ _ b2) b3
          exact ⟨b1, by rw [upd_ne b1, upd_ne b1]; exact b4, b5⟩
        · show ns.length - ((j : Int) + ((n : Int) + 1)).toNat < ns.length - (j : Int).toNat
          omega
      · have c : ¬ (j : Int) < (ns.length : Int) := fun z => c (decide_eq_true z)
        have ej : j = ns.length := by
          have := td.le
          omega
        subst ej
        refine ⟨_, rfl, ?_⟩
        exact kont H2 q (by rw [todo_end td]; exact hq2)
    · rintro σ H2 Q1 Q2 hQ ⟨v, h1, v2, h2, a2, ys, h3, h4, i1, i2, h5, h6, b, h7, h8⟩
      exact ⟨v, h1, v2, h2, a2, ys, h3, h4, i1, i2, h5, h6, b, h7, hQ _ _ h8⟩
end
end Tw
end
set_option Elab.async false
set_option linter.all false
set_option maxRecDepth 100000
set_option maxHeartbeats 4000000
/-! What the top has written, and the row's head -/
namespace Tw
open PySem PySem.Spec PyProof.Rows L2
theorem seq_of {K : PySem.W.Frag} {t : Addr} {od : Option Addr} {its : Array Value} {n : Nat} {sl : Array (Option Value)} {xs : List V} (l : K.lookup t = some ⟨.type "tuple", od, .seq its n, sl⟩) (z : its.size ≤ sizeLine) (v : Vals xs its.toList) (H : Hp) : SqT K H t xs :=
  .inr ⟨_, _, _, l, rfl, rfl, z, v⟩
theorem all_mk {P : Program} {w : World} {K : PySem.W.Frag} {h : Heap} {mg : Str → Option Value} {fa C L f1 f2 f3 f4 f5 f6 f7 f8 f9 f10 f11 f12 f13 f14 f15 f16 f17 f18 f19 f20 f21 f22 f23 f24 f25 f26 f27 : Addr} (X : K.In h) (G : h.Ns mainGlobals mg) (hfa : mg "answers" = some (.ref fa))
    {odL od1 an1 od2 an2 od3 an3 od4 an4 od5 an5 od6 an6 od7 an7 od8 an8 od9 an9 od10 an10 od11 an11 od12 an12 od13 an13 od14 an14 od15 an15 od16 an16 od17 an17 od18 an18 od19 an19 od20 an20 od21 an21 od22 an22 od23 an23 od24 an24 od25 an25 od26 an26 od27 an27 : Option Addr} {slL sl1 sl2 sl3 sl4 sl5 sl6 sl7 sl8 sl9 sl10 sl11 sl12 sl13 sl14 sl15 sl16 sl17 sl18 sl19 sl20 sl21 sl22 sl23 sl24 sl25 sl26 sl27 : Array (Option Value)} {itsL : Array Value} {nL : Nat} {oc1 kV1 dc1 pm1 cd1 ct1 oc2 kV2 dc2 pm2 cd2 ct2 oc3 kV3 dc3 pm3 cd3 ct3 oc4 kV4 dc4 pm4 cd4 ct4 oc5 kV5 dc5 pm5 cd5 ct5 oc6 kV6 dc6 pm6 cd6 ct6 oc7 kV7 dc7 pm7 cd7 ct7 oc8 kV8 dc8 pm8 cd8 ct8 oc9 kV9 dc9 pm9 cd9 ct9 oc10 kV10 dc10 pm10 cd10 ct10 oc11 kV11 dc11 pm11 cd11 ct11 oc12 kV12 dc12 pm12 cd12 ct12 oc13 kV13 dc13 pm13 cd13 ct13 oc14 kV14 dc14 pm14 cd14 ct14 oc15 kV15 dc15 pm15 cd15 ct15 oc16 kV16 dc16 pm16 cd16 ct16 oc17 kV17 dc17 pm17 cd17 ct17 oc18 kV18 dc18 pm18 cd18 ct18 oc19 kV19 dc19 pm19 cd19 ct19 oc20 kV20 dc20 pm20 cd20 ct20 oc21 kV21 dc21 pm21 cd21 ct21 oc22 kV22 dc22 pm22 cd22 ct22 oc23 kV23 dc23 pm23 cd23 ct23 oc24 kV24 dc24 pm24 cd24 ct24 oc25 kV25 dc25 pm25 cd25 ct25 oc26 kV26 dc26 pm26 cd26 ct26 oc27 kV27 dc27 pm27 cd27 ct27 : Value} {t0 t1 t2 t3 t4 t5 t6 t7 t8 t9 t10 t11 t12 t13 t14 : Tok}
    (aC : PySem.W.nsIn K mainGlobals "Cache" = some (some (.ref C)))
    (a1 : PySem.W.findIn K (.ref C) "place" = some (some (.ref f1))) (i1 : PySem.W.isFn K (.ref f1) = true)
    (l1 : K.lookup f1 = some ⟨oc1, od1, .func (PySem.W.fnOf "place" "Cache.place" (defArgs sPlace) (defBody sPlace) (defScope sPlace) .none kV1 dc1 pm1 an1 cd1 ct1), sl1⟩) (c1 : PySem.W.codeIn K cd1 "Cache.place" = true) (k1 : PySem.W.keepIn K (.ref f1) = true)
    (a2 : PySem.W.findIn K (.ref C) "take_out" = some (some (.ref f2))) (i2 : PySem.W.isFn K (.ref f2) = true)
    (l2 : K.lookup f2 = some ⟨oc2, od2, .func (PySem.W.fnOf "take_out" "Cache.take_out" (defArgs sTake) (defBody sTake) (defScope sTake) .none kV2 dc2 pm2 an2 cd2 ct2), sl2⟩) (c2 : PySem.W.codeIn K cd2 "Cache.take_out" = true) (k2 : PySem.W.keepIn K (.ref f2) = true)
    (a3 : PySem.W.findIn K (.ref C) "move_to_frequent" = some (some (.ref f3))) (i3 : PySem.W.isFn K (.ref f3) = true)
    (l3 : K.lookup f3 = some ⟨oc3, od3, .func (PySem.W.fnOf "move_to_frequent" "Cache.move_to_frequent" (defArgs sMove) (defBody sMove) (defScope sMove) .none kV3 dc3 pm3 an3 cd3 ct3), sl3⟩) (c3 : PySem.W.codeIn K cd3 "Cache.move_to_frequent" = true) (k3 : PySem.W.keepIn K (.ref f3) = true)
    (a4 : PySem.W.findIn K (.ref C) "let_go" = some (some (.ref f4))) (i4 : PySem.W.isFn K (.ref f4) = true)
    (l4 : K.lookup f4 = some ⟨oc4, od4, .func (PySem.W.fnOf "let_go" "Cache.let_go" (defArgs sLetGo) (defBody sLetGo) (defScope sLetGo) .none kV4 dc4 pm4 an4 cd4 ct4), sl4⟩) (c4 : PySem.W.codeIn K cd4 "Cache.let_go" = true) (k4 : PySem.W.keepIn K (.ref f4) = true)
    (a5 : PySem.W.findIn K (.ref C) "let_go_and_keep_key" = some (some (.ref f5))) (i5 : PySem.W.isFn K (.ref f5) = true)
    (l5 : K.lookup f5 = some ⟨oc5, od5, .func (PySem.W.fnOf "let_go_and_keep_key" "Cache.let_go_and_keep_key" (defArgs sKeep) (defBody sKeep) (defScope sKeep) .none kV5 dc5 pm5 an5 cd5 ct5), sl5⟩) (c5 : PySem.W.codeIn K cd5 "Cache.let_go_and_keep_key" = true) (k5 : PySem.W.keepIn K (.ref f5) = true)
    (a6 : PySem.W.findIn K (.ref C) "one_goes" = some (some (.ref f6))) (i6 : PySem.W.isFn K (.ref f6) = true)
    (l6 : K.lookup f6 = some ⟨oc6, od6, .func (PySem.W.fnOf "one_goes" "Cache.one_goes" (defArgs sOne) (defBody sOne) (defScope sOne) .none kV6 dc6 pm6 an6 cd6 ct6), sl6⟩) (c6 : PySem.W.codeIn K cd6 "Cache.one_goes" = true) (k6 : PySem.W.keepIn K (.ref f6) = true)
    (a7 : PySem.W.findIn K (.ref C) "make_room" = some (some (.ref f7))) (i7 : PySem.W.isFn K (.ref f7) = true)
    (l7 : K.lookup f7 = some ⟨oc7, od7, .func (PySem.W.fnOf "make_room" "Cache.make_room" (defArgs sRoom) (defBody sRoom) (defScope sRoom) .none kV7 dc7 pm7 an7 cd7 ct7), sl7⟩) (c7 : PySem.W.codeIn K cd7 "Cache.make_room" = true) (k7 : PySem.W.keepIn K (.ref f7) = true)
    (a8 : PySem.W.findIn K (.ref C) "grow_target" = some (some (.ref f8))) (i8 : PySem.W.isFn K (.ref f8) = true)
    (l8 : K.lookup f8 = some ⟨oc8, od8, .func (PySem.W.fnOf "grow_target" "Cache.grow_target" (defArgs sGrow) (defBody sGrow) (defScope sGrow) .none kV8 dc8 pm8 an8 cd8 ct8), sl8⟩) (c8 : PySem.W.codeIn K cd8 "Cache.grow_target" = true) (k8 : PySem.W.keepIn K (.ref f8) = true)
    (a9 : PySem.W.findIn K (.ref C) "shrink_target" = some (some (.ref f9))) (i9 : PySem.W.isFn K (.ref f9) = true)
    (l9 : K.lookup f9 = some ⟨oc9, od9, .func (PySem.W.fnOf "shrink_target" "Cache.shrink_target" (defArgs sFall) (defBody sFall) (defScope sFall) .none kV9 dc9 pm9 an9 cd9 ct9), sl9⟩) (c9 : PySem.W.codeIn K cd9 "Cache.shrink_target" = true) (k9 : PySem.W.keepIn K (.ref f9) = true)
    (a10 : PySem.W.findIn K (.ref C) "row_lengths" = some (some (.ref f10))) (i10 : PySem.W.isFn K (.ref f10) = true)
    (l10 : K.lookup f10 = some ⟨oc10, od10, .func (PySem.W.fnOf "row_lengths" "Cache.row_lengths" (defArgs sLens) (defBody sLens) (defScope sLens) .none kV10 dc10 pm10 an10 cd10 ct10), sl10⟩) (c10 : PySem.W.codeIn K cd10 "Cache.row_lengths" = true) (k10 : PySem.W.keepIn K (.ref f10) = true)
    (a11 : PySem.W.findIn K (.ref C) "count_known" = some (some (.ref f11))) (i11 : PySem.W.isFn K (.ref f11) = true)
    (l11 : K.lookup f11 = some ⟨oc11, od11, .func (PySem.W.fnOf "count_known" "Cache.count_known" (defArgs sKnown) (defBody sKnown) (defScope sKnown) .none kV11 dc11 pm11 an11 cd11 ct11), sl11⟩) (c11 : PySem.W.codeIn K cd11 "Cache.count_known" = true) (k11 : PySem.W.keepIn K (.ref f11) = true)
    (a12 : PySem.W.findIn K (.ref C) "make_room_for_unknown" = some (some (.ref f12))) (i12 : PySem.W.isFn K (.ref f12) = true)
    (l12 : K.lookup f12 = some ⟨oc12, od12, .func (PySem.W.fnOf "make_room_for_unknown" "Cache.make_room_for_unknown" (defArgs sNew) (defBody sNew) (defScope sNew) .none kV12 dc12 pm12 an12 cd12 ct12), sl12⟩) (c12 : PySem.W.codeIn K cd12 "Cache.make_room_for_unknown" = true) (k12 : PySem.W.keepIn K (.ref f12) = true)
    (a13 : PySem.W.findIn K (.ref C) "let_in" = some (some (.ref f13))) (i13 : PySem.W.isFn K (.ref f13) = true)
    (l13 : K.lookup f13 = some ⟨oc13, od13, .func (PySem.W.fnOf "let_in" "Cache.let_in" (defArgs sLetIn) (defBody sLetIn) (defScope sLetIn) .none kV13 dc13 pm13 an13 cd13 ct13), sl13⟩) (c13 : PySem.W.codeIn K cd13 "Cache.let_in" = true) (k13 : PySem.W.keepIn K (.ref f13) = true)
    (a14 : PySem.W.findIn K (.ref C) "put" = some (some (.ref f14))) (i14 : PySem.W.isFn K (.ref f14) = true)
    (l14 : K.lookup f14 = some ⟨oc14, od14, .func (PySem.W.fnOf "put" "Cache.put" (defArgs sPut) (defBody sPut) (defScope sPut) .none kV14 dc14 pm14 an14 cd14 ct14), sl14⟩) (c14 : PySem.W.codeIn K cd14 "Cache.put" = true) (k14 : PySem.W.keepIn K (.ref f14) = true)
    (a15 : PySem.W.findIn K (.ref C) "get" = some (some (.ref f15))) (i15 : PySem.W.isFn K (.ref f15) = true)
    (l15 : K.lookup f15 = some ⟨oc15, od15, .func (PySem.W.fnOf "get" "Cache.get" (defArgs sGet) (defBody sGet) (defScope sGet) .none kV15 dc15 pm15 an15 cd15 ct15), sl15⟩) (c15 : PySem.W.codeIn K cd15 "Cache.get" = true) (k15 : PySem.W.keepIn K (.ref f15) = true)
    (a16 : PySem.W.findIn K (.ref C) "drop" = some (some (.ref f16))) (i16 : PySem.W.isFn K (.ref f16) = true)
    (l16 : K.lookup f16 = some ⟨oc16, od16, .func (PySem.W.fnOf "drop" "Cache.drop" (defArgs sDrop) (defBody sDrop) (defScope sDrop) .none kV16 dc16 pm16 an16 cd16 ct16), sl16⟩) (c16 : PySem.W.codeIn K cd16 "Cache.drop" = true) (k16 : PySem.W.keepIn K (.ref f16) = true)
    (a17 : PySem.W.findIn K (.ref C) "forget_all" = some (some (.ref f17))) (i17 : PySem.W.isFn K (.ref f17) = true)
    (l17 : K.lookup f17 = some ⟨oc17, od17, .func (PySem.W.fnOf "forget_all" "Cache.forget_all" (defArgs sForget) (defBody sForget) (defScope sForget) .none kV17 dc17 pm17 an17 cd17 ct17), sl17⟩) (c17 : PySem.W.codeIn K cd17 "Cache.forget_all" = true) (k17 : PySem.W.keepIn K (.ref f17) = true)
    (a18 : PySem.W.findIn K (.ref C) "__init__" = some (some (.ref f18))) (i18 : PySem.W.isFn K (.ref f18) = true)
    (l18 : K.lookup f18 = some ⟨oc18, od18, .func (PySem.W.fnOf "__init__" "Cache.__init__" (defArgs sInit) (defBody sInit) (defScope sInit) .none kV18 dc18 pm18 an18 cd18 ct18), sl18⟩) (c18 : PySem.W.codeIn K cd18 "Cache.__init__" = true) (k18 : PySem.W.keepIn K (.ref f18) = true)
    (a19 : PySem.W.findIn K (.ref C) "begin" = some (some (.ref f19))) (i19 : PySem.W.isFn K (.ref f19) = true)
    (l19 : K.lookup f19 = some ⟨oc19, od19, .func (PySem.W.fnOf "begin" "Cache.begin" (defArgs sBegin) (defBody sBegin) (defScope sBegin) .none kV19 dc19 pm19 an19 cd19 ct19), sl19⟩) (c19 : PySem.W.codeIn K cd19 "Cache.begin" = true) (k19 : PySem.W.keepIn K (.ref f19) = true)
    (a20 : PySem.W.findIn K (.ref C) "nth" = some (some (.ref f20))) (i20 : PySem.W.isFn K (.ref f20) = true)
    (l20 : K.lookup f20 = some ⟨oc20, od20, .func (PySem.W.fnOf "nth" "Cache.nth" (defArgs sNth) (defBody sNth) (defScope sNth) .none kV20 dc20 pm20 an20 cd20 ct20), sl20⟩) (c20 : PySem.W.codeIn K cd20 "Cache.nth" = true) (k20 : PySem.W.keepIn K (.ref f20) = true)
    (a21 : PySem.W.findIn K (.ref C) "sizes" = some (some (.ref f21))) (i21 : PySem.W.isFn K (.ref f21) = true)
    (l21 : K.lookup f21 = some ⟨oc21, od21, .func (PySem.W.fnOf "sizes" "Cache.sizes" (defArgs sSizes) (defBody sSizes) (defScope sSizes) .none kV21 dc21 pm21 an21 cd21 ct21), sl21⟩) (c21 : PySem.W.codeIn K cd21 "Cache.sizes" = true) (k21 : PySem.W.keepIn K (.ref f21) = true)
    (a22 : PySem.W.findIn K (.ref C) "forget_surplus" = some (some (.ref f22))) (i22 : PySem.W.isFn K (.ref f22) = true)
    (l22 : K.lookup f22 = some ⟨oc22, od22, .func (PySem.W.fnOf "forget_surplus" "Cache.forget_surplus" (defArgs sSurplus) (defBody sSurplus) (defScope sSurplus) .none kV22 dc22 pm22 an22 cd22 ct22), sl22⟩) (c22 : PySem.W.codeIn K cd22 "Cache.forget_surplus" = true) (k22 : PySem.W.keepIn K (.ref f22) = true)
    (a23 : PySem.W.findIn K (.ref C) "resize" = some (some (.ref f23))) (i23 : PySem.W.isFn K (.ref f23) = true)
    (l23 : K.lookup f23 = some ⟨oc23, od23, .func (PySem.W.fnOf "resize" "Cache.resize" (defArgs sResize) (defBody sResize) (defScope sResize) .none kV23 dc23 pm23 an23 cd23 ct23), sl23⟩) (c23 : PySem.W.codeIn K cd23 "Cache.resize" = true) (k23 : PySem.W.keepIn K (.ref f23) = true)
    (a24 : PySem.W.findIn K (.ref C) "flush" = some (some (.ref f24))) (i24 : PySem.W.isFn K (.ref f24) = true)
    (l24 : K.lookup f24 = some ⟨oc24, od24, .func (PySem.W.fnOf "flush" "Cache.flush" (defArgs sFlush) (defBody sFlush) (defScope sFlush) .none kV24 dc24 pm24 an24 cd24 ct24), sl24⟩) (c24 : PySem.W.codeIn K cd24 "Cache.flush" = true) (k24 : PySem.W.keepIn K (.ref f24) = true)
    (a25 : PySem.W.nsIn K mainGlobals "may_be_most" = some (some (.ref f25)))
    (l25 : K.lookup f25 = some ⟨oc25, od25, .func (PySem.W.fnOf "may_be_most" "may_be_most" (defArgs sMay) (defBody sMay) (defScope sMay) .none kV25 dc25 pm25 an25 cd25 ct25), sl25⟩) (c25 : PySem.W.codeIn K cd25 "may_be_most" = true) (k25 : PySem.W.keepIn K (.ref f25) = true)
    (a26 : PySem.W.nsIn K mainGlobals "answer_call" = some (some (.ref f26)))
    (l26 : K.lookup f26 = some ⟨oc26, od26, .func (PySem.W.fnOf "answer_call" "answer_call" (defArgs sCall) (defBody sCall) (defScope sCall) .none kV26 dc26 pm26 an26 cd26 ct26), sl26⟩) (c26 : PySem.W.codeIn K cd26 "answer_call" = true) (k26 : PySem.W.keepIn K (.ref f26) = true)
    (a27 : PySem.W.nsIn K mainGlobals "answers" = some (some (.ref f27)))
    (l27 : K.lookup f27 = some ⟨oc27, od27, .func (PySem.W.fnOf "answers" "answers" (defArgs sAns) (defBody sAns) (defScope sAns) .none kV27 dc27 pm27 an27 cd27 ct27), sl27⟩) (c27 : PySem.W.codeIn K cd27 "answers" = true) (k27 : PySem.W.keepIn K (.ref f27) = true)
    (pg : PySem.W.plainGet K C Str.empty = true) (hd : PySem.W.hasDictIn K C = true) (po : PySem.W.plainOver K C = true) (sa : PySem.W.findIn K (.ref C) "__setattr__" = some (some (.builtin "object.__setattr__"))) (mk : PySem.W.makesIn K C = true) (kc : PySem.W.keepIn K (.ref C) = true)
    (na0 : PySem.W.findIn K (.ref C) "most" = some none)
    (na1 : PySem.W.findIn K (.ref C) "target" = some none)
    (na2 : PySem.W.findIn K (.ref C) "rows" = some none)
    (na3 : PySem.W.findIn K (.ref C) "held" = some none)
    (nb0 : PySem.W.nsIn K mainGlobals "len" = some none)
    (nb1 : PySem.W.nsIn K mainGlobals "max" = some none)
    (nb2 : PySem.W.nsIn K mainGlobals "min" = some none)
    (nb3 : PySem.W.nsIn K mainGlobals "sum" = some none)
    (nb4 : PySem.W.nsIn K mainGlobals "reversed" = some none)
    (kst0 : PySem.W.nsIn K mainGlobals "MOST_AT_FIRST" = some (some (.int 16 t0)))
    (kst1 : PySem.W.nsIn K mainGlobals "LARGEST_MOST" = some (some (.int 64 t1)))
    (kst2 : PySem.W.nsIn K mainGlobals "NOT_KNOWN" = some (some (.int 0 t2)))
    (kst3 : PySem.W.nsIn K mainGlobals "RECENT" = some (some (.int 1 t3)))
    (kst4 : PySem.W.nsIn K mainGlobals "FREQUENT" = some (some (.int 2 t4)))
    (kst5 : PySem.W.nsIn K mainGlobals "LEFT_RECENT" = some (some (.int 3 t5)))
    (kst6 : PySem.W.nsIn K mainGlobals "LEFT_FREQUENT" = some (some (.int 4 t6)))
    (kst7 : PySem.W.nsIn K mainGlobals "BEGIN" = some (some (.int 0 t7)))
    (kst8 : PySem.W.nsIn K mainGlobals "GET" = some (some (.int 1 t8)))
    (kst9 : PySem.W.nsIn K mainGlobals "PUT" = some (some (.int 2 t9)))
    (kst10 : PySem.W.nsIn K mainGlobals "DROP" = some (some (.int 3 t10)))
    (kst11 : PySem.W.nsIn K mainGlobals "PLACE" = some (some (.int 4 t11)))
    (kst12 : PySem.W.nsIn K mainGlobals "NTH" = some (some (.int 5 t12)))
    (kst13 : PySem.W.nsIn K mainGlobals "SIZES" = some (some (.int 6 t13)))
    (kst14 : PySem.W.nsIn K mainGlobals "RESIZE" = some (some (.int 7 t14)))
    (aL : PySem.W.nsIn K mainGlobals "CALL_LENGTHS" = some (some (.ref L))) (lL : K.lookup L = some ⟨.type "tuple", odL, .seq itsL nL, slL⟩)
    (zL : itsL.size ≤ sizeLine) (vL : Vals (lens.map V.int) itsL.toList) :
    ∃ fd : FuncData, (∀ (s : Shared) (us : List Value), us.length = (["calls"] : List Str).length → BindsTo s fd ⟨us, []⟩ ((["calls"] : List Str).zip us)) ∧ ∀ base : Heap, K.In base → base.Ns mainGlobals mg → FnOk P w K mg base CX0 9 fa fd ["calls"] (spAns K) := by
  have e := hfa.symm.trans (PySem.W.mg_of X G a27)
  cases e
  have T : Txt K mg C := ⟨⟨pg, hd, po, sa⟩, na0, na1, na2, na3, PySem.W.mg_of X G aC, PySem.W.mg_none_of X G nb0, PySem.W.mg_none_of X G nb1, PySem.W.mg_none_of X G nb2, PySem.W.mg_none_of X G nb3, PySem.W.mg_none_of X G nb4, ⟨_, PySem.W.mg_of X G kst0⟩, ⟨_, PySem.W.mg_of X G kst1⟩, ⟨_, PySem.W.mg_of X G kst2⟩, ⟨_, PySem.W.mg_of X G kst3⟩, ⟨_, PySem.W.mg_of X G kst4⟩, ⟨_, PySem.W.mg_of X G kst5⟩, ⟨_, PySem.W.mg_of X G kst6⟩, ⟨_, PySem.W.mg_of X G kst7⟩, ⟨_, PySem.W.mg_of X G kst8⟩, ⟨_, PySem.W.mg_of X G kst9⟩, ⟨_, PySem.W.mg_of X G kst10⟩, ⟨_, PySem.W.mg_of X G kst11⟩, ⟨_, PySem.W.mg_of X G kst12⟩, ⟨_, PySem.W.mg_of X G kst13⟩, ⟨_, PySem.W.mg_of X G kst14⟩⟩
  have F1 := fun_mk (st := sPlace) l1 c1 k1
  have F2 := fun_mk (st := sTake) l2 c2 k2
  have F3 := fun_mk (st := sMove) l3 c3 k3
  have F4 := fun_mk (st := sLetGo) l4 c4 k4
  have F5 := fun_mk (st := sKeep) l5 c5 k5
  have F6 := fun_mk (st := sOne) l6 c6 k6
  have F7 := fun_mk (st := sRoom) l7 c7 k7
  have F8 := fun_mk (st := sGrow) l8 c8 k8
  have F9 := fun_mk (st := sFall) l9 c9 k9
  have F10 := fun_mk (st := sLens) l10 c10 k10
  have F11 := fun_mk (st := sKnown) l11 c11 k11
  have F12 := fun_mk (st := sNew) l12 c12 k12
  have F13 := fun_mk (st := sLetIn) l13 c13 k13
  have F14 := fun_mk (st := sPut) l14 c14 k14
  have F15 := fun_mk (st := sGet) l15 c15 k15
  have F16 := fun_mk (st := sDrop) l16 c16 k16
  have F17 := fun_mk (st := sForget) l17 c17 k17
  have F18 := fun_mk (st := sInit) l18 c18 k18
  have F19 := fun_mk (st := sBegin) l19 c19 k19
  have F20 := fun_mk (st := sNth) l20 c20 k20
  have F21 := fun_mk (st := sSizes) l21 c21 k21
  have F22 := fun_mk (st := sSurplus) l22 c22 k22
  have F23 := fun_mk (st := sResize) l23 c23 k23
  have F24 := fun_mk (st := sFlush) l24 c24 k24
  have F25 := fun_mk (st := sMay) l25 c25 k25
  have F26 := fun_mk (st := sCall) l26 c26 k26
  have F27 := fun_mk (st := sAns) l27 c27 k27
  have b1 := F1.binds (ps := ["self", "key"]) fun _ _ _ _ _ _ us hl => match us, hl with | [_, _], _ => rfl
  have b2 := F2.binds (ps := ["self", "key"]) fun _ _ _ _ _ _ us hl => match us, hl with | [_, _], _ => rfl
  have b3 := F3.binds (ps := ["self", "key"]) fun _ _ _ _ _ _ us hl => match us, hl with | [_, _], _ => rfl
  have b4 := F4.binds (ps := ["self", "place"]) fun _ _ _ _ _ _ us hl => match us, hl with | [_, _], _ => rfl
  have b5 := F5.binds (ps := ["self", "place", "place_after"]) fun _ _ _ _ _ _ us hl => match us, hl with | [_, _, _], _ => rfl
  have b6 := F6.binds (ps := ["self", "place"]) fun _ _ _ _ _ _ us hl => match us, hl with | [_, _], _ => rfl
  have b7 := F7.binds (ps := ["self", "place"]) fun _ _ _ _ _ _ us hl => match us, hl with | [_, _], _ => rfl
  have b8 := F8.binds (ps := ["self"]) fun _ _ _ _ _ _ us hl => match us, hl with | [_], _ => rfl
  have b9 := F9.binds (ps := ["self"]) fun _ _ _ _ _ _ us hl => match us, hl with | [_], _ => rfl
  have b10 := F10.binds (ps := ["self"]) fun _ _ _ _ _ _ us hl => match us, hl with | [_], _ => rfl
  have b11 := F11.binds (ps := ["self"]) fun _ _ _ _ _ _ us hl => match us, hl with | [_], _ => rfl
  have b12 := F12.binds (ps := ["self"]) fun _ _ _ _ _ _ us hl => match us, hl with | [_], _ => rfl
  have b13 := F13.binds (ps := ["self", "key"]) fun _ _ _ _ _ _ us hl => match us, hl with | [_, _], _ => rfl
  have b14 := F14.binds (ps := ["self", "key", "value"]) fun _ _ _ _ _ _ us hl => match us, hl with | [_, _, _], _ => rfl
  have b15 := F15.binds (ps := ["self", "key"]) fun _ _ _ _ _ _ us hl => match us, hl with | [_, _], _ => rfl
  have b16 := F16.binds (ps := ["self", "key"]) fun _ _ _ _ _ _ us hl => match us, hl with | [_, _], _ => rfl
  have b17 := F17.binds (ps := ["self"]) fun _ _ _ _ _ _ us hl => match us, hl with | [_], _ => rfl
  have b18 := F18.binds (ps := ["self"]) fun _ _ _ _ _ _ us hl => match us, hl with | [_], _ => rfl
  have b19 := F19.binds (ps := ["self", "most"]) fun _ _ _ _ _ _ us hl => match us, hl with | [_, _], _ => rfl
  have b20 := F20.binds (ps := ["self", "row", "i"]) fun _ _ _ _ _ _ us hl => match us, hl with | [_, _, _], _ => rfl
  have b21 := F21.binds (ps := ["self"]) fun _ _ _ _ _ _ us hl => match us, hl with | [_], _ => rfl
  have b22 := F22.binds (ps := ["self"]) fun _ _ _ _ _ _ us hl => match us, hl with | [_], _ => rfl
  have b23 := F23.binds (ps := ["self", "most"]) fun _ _ _ _ _ _ us hl => match us, hl with | [_, _], _ => rfl
  have b24 := F24.binds (ps := ["self"]) fun _ _ _ _ _ _ us hl => match us, hl with | [_], _ => rfl
  have b25 := F25.binds (ps := ["number"]) fun _ _ _ _ _ _ us hl => match us, hl with | [_], _ => rfl
  have b26 := F26.binds (ps := ["cache", "call"]) fun _ _ _ _ _ _ us hl => match us, hl with | [_, _], _ => rfl
  refine ⟨PySem.W.fnOf "answers" "answers" (defArgs sAns) (defBody sAns) (defScope sAns) .none kV27 dc27 pm27 an27 cd27 ct27, fun s us hu => match us, hu with | [_], _ => .of_eq rfl, fun base _ _ => ?_⟩
  have G25 : FnOk P w K mg base CX0 1 f25 _ ["number"] (spMay) := ok_may F25 T
  have M25 : Glb P w K mg base "may_be_most" 1 ["number"] (spMay) := ⟨_, _, G25, b25, PySem.W.mg_of X G a25, k25⟩
  have G1 : FnOk P w K mg base CX0 1 f1 _ ["self", "key"] (spPlace C) := ok_place F1 T
  have M1 : Mth P w K mg base C "place" 1 ["self", "key"] (spPlace C) := ⟨_, _, G1, b1, ⟨a1, i1, k1⟩⟩
  have G2 : FnOk P w K mg base CX0 2 f2 _ ["self", "key"] (spTake C) := ok_take F2 T M1
  have M2 : Mth P w K mg base C "take_out" 2 ["self", "key"] (spTake C) := ⟨_, _, G2, b2, ⟨a2, i2, k2⟩⟩
  have G3 : FnOk P w K mg base CX0 3 f3 _ ["self", "key"] (spMove C) := ok_move F3 T M2
  have M3 : Mth P w K mg base C "move_to_frequent" 3 ["self", "key"] (spMove C) := ⟨_, _, G3, b3, ⟨a3, i3, k3⟩⟩
  have G4 : FnOk P w K mg base CX0 1 f4 _ ["self", "place"] (spLetGo C) := ok_letGo F4 T
  have M4 : Mth P w K mg base C "let_go" 1 ["self", "place"] (spLetGo C) := ⟨_, _, G4, b4, ⟨a4, i4, k4⟩⟩
  have G5 : FnOk P w K mg base CX0 2 f5 _ ["self", "place", "place_after"] (spKeep C) := ok_keep F5 T M4
  have M5 : Mth P w K mg base C "let_go_and_keep_key" 2 ["self", "place", "place_after"] (spKeep C) := ⟨_, _, G5, b5, ⟨a5, i5, k5⟩⟩
  have G6 : FnOk P w K mg base CX0 3 f6 _ ["self", "place"] (spOne C) := ok_one F6 T M5
  have M6 : Mth P w K mg base C "one_goes" 3 ["self", "place"] (spOne C) := ⟨_, _, G6, b6, ⟨a6, i6, k6⟩⟩
  have G7 : FnOk P w K mg base CX0 4 f7 _ ["self", "place"] (spRoom C) := ok_room F7 T M6
  have M7 : Mth P w K mg base C "make_room" 4 ["self", "place"] (spRoom C) := ⟨_, _, G7, b7, ⟨a7, i7, k7⟩⟩
  have G8 : FnOk P w K mg base CX0 1 f8 _ ["self"] (spGrow C) := ok_grow F8 T
  have M8 : Mth P w K mg base C "grow_target" 1 ["self"] (spGrow C) := ⟨_, _, G8, b8, ⟨a8, i8, k8⟩⟩
  have G9 : FnOk P w K mg base CX0 1 f9 _ ["self"] (spFall C) := ok_fall F9 T
  have M9 : Mth P w K mg base C "shrink_target" 1 ["self"] (spFall C) := ⟨_, _, G9, b9, ⟨a9, i9, k9⟩⟩
  have G10 : FnOk P w K mg base CX0 1 f10 _ ["self"] (spLens C) := ok_lens F10 T
  have M10 : Mth P w K mg base C "row_lengths" 1 ["self"] (spLens C) := ⟨_, _, G10, b10, ⟨a10, i10, k10⟩⟩
  have G11 : FnOk P w K mg base CX0 2 f11 _ ["self"] (spKnown C) := ok_known F11 T M10
  have M11 : Mth P w K mg base C "count_known" 2 ["self"] (spKnown C) := ⟨_, _, G11, b11, ⟨a11, i11, k11⟩⟩
  have G12 : FnOk P w K mg base CX0 5 f12 _ ["self"] (spNew C) := ok_new F12 T M4 M11 M7
  have M12 : Mth P w K mg base C "make_room_for_unknown" 5 ["self"] (spNew C) := ⟨_, _, G12, b12, ⟨a12, i12, k12⟩⟩
  have G13 : FnOk P w K mg base CX0 6 f13 _ ["self", "key"] (spLetIn C) := ok_letIn F13 T M1 M12 M8 M9 M7 M3
  have M13 : Mth P w K mg base C "let_in" 6 ["self", "key"] (spLetIn C) := ⟨_, _, G13, b13, ⟨a13, i13, k13⟩⟩
  have G14 : FnOk P w K mg base CX0 7 f14 _ ["self", "key", "value"] (spPut C) := ok_put F14 T M3 M13
  have M14 : Mth P w K mg base C "put" 7 ["self", "key", "value"] (spPut C) := ⟨_, _, G14, b14, ⟨a14, i14, k14⟩⟩
  have G15 : FnOk P w K mg base CX0 4 f15 _ ["self", "key"] (spGet C) := ok_get F15 T M3
  have M15 : Mth P w K mg base C "get" 4 ["self", "key"] (spGet C) := ⟨_, _, G15, b15, ⟨a15, i15, k15⟩⟩
  have G16 : FnOk P w K mg base CX0 3 f16 _ ["self", "key"] (spDrop C) := ok_drop F16 T M1 M2
  have M16 : Mth P w K mg base C "drop" 3 ["self", "key"] (spDrop C) := ⟨_, _, G16, b16, ⟨a16, i16, k16⟩⟩
  have G17 : FnOk P w K mg base CX0 1 f17 _ ["self"] (spForget C) := ok_forget F17 T
  have M17 : Mth P w K mg base C "forget_all" 1 ["self"] (spForget C) := ⟨_, _, G17, b17, ⟨a17, i17, k17⟩⟩
  have G18 : FnOk P w K mg base CX0 2 f18 _ ["self"] (spInit C) := ok_init F18 T M17
  have M18 : Mth P w K mg base C "__init__" 2 ["self"] (spInit C) := ⟨_, _, G18, b18, ⟨a18, i18, k18⟩⟩
  have G19 : FnOk P w K mg base CX0 2 f19 _ ["self", "most"] (spBegin C) := ok_begin F19 T M25 M17
  have M19 : Mth P w K mg base C "begin" 2 ["self", "most"] (spBegin C) := ⟨_, _, G19, b19, ⟨a19, i19, k19⟩⟩
  have G20 : FnOk P w K mg base CX0 1 f20 _ ["self", "row", "i"] (spNth C) := ok_nth F20 T
  have M20 : Mth P w K mg base C "nth" 1 ["self", "row", "i"] (spNth C) := ⟨_, _, G20, b20, ⟨a20, i20, k20⟩⟩
  have G21 : FnOk P w K mg base CX0 2 f21 _ ["self"] (spSizes C) := ok_sizes F21 T M10
  have M21 : Mth P w K mg base C "sizes" 2 ["self"] (spSizes C) := ⟨_, _, G21, b21, ⟨a21, i21, k21⟩⟩
  have G22 : FnOk P w K mg base CX0 3 f22 _ ["self"] (spSurplus C) := ok_surplus F22 T M11
  have M22 : Mth P w K mg base C "forget_surplus" 3 ["self"] (spSurplus C) := ⟨_, _, G22, b22, ⟨a22, i22, k22⟩⟩
  have G23 : FnOk P w K mg base CX0 4 f23 _ ["self", "most"] (spResize C) := ok_resize F23 T M25 M6 M22
  have M23 : Mth P w K mg base C "resize" 4 ["self", "most"] (spResize C) := ⟨_, _, G23, b23, ⟨a23, i23, k23⟩⟩
  have G24 : FnOk P w K mg base CX0 2 f24 _ ["self"] (spFlush C) := ok_flush F24 T M17
  have M24 : Mth P w K mg base C "flush" 2 ["self"] (spFlush C) := ⟨_, _, G24, b24, ⟨a24, i24, k24⟩⟩
  have GC : FnOk P w K mg base CX0 8 f26 (PySem.W.fnOf "answer_call" "answer_call" (defArgs sCall) (defBody sCall) (defScope sCall) .none kV26 dc26 pm26 an26 cd26 ct26) ["cache", "call"] (spCallA C) := ok_call F26 T M19 M15 M14 M16 M1 M20 M21 M23 M24
  exact ok_ans (by decide) F27 T ⟨mk, a18, i18, kc⟩ G18 b18 GC b26 (PySem.W.mg_of X G a26) k26 (PySem.W.mg_of X G aL) (seq_of lL zL vL)
end Tw
open PySem PySem.W PyProof.Rows
set_option maxRecDepth 100000 in
set_option maxHeartbeats 0 in
theorem PySem.Challenge.cw_tworooms_s01_answers_holds : PySem.Challenge.rw_tworooms_s01_answers.Holds := by
  w_on; k_headS; (case hw => exact ⟨[.list [.int 6]], by decide +kernel, by decide +kernel⟩)
  k_fillS
  refine L2.walk_specK (r := PySem.Challenge.rw_tworooms_s01_answers) (k := 9) (CX := L2.CX0) (ps := ["calls"]) (sp := Tw.spAns) (by decide +kernel) rfl rfl ⟨rfl, by decide, by decide⟩ (fun w h Y => PySem.W.kIn_of Y) ?F ?S (fun _ _ _ _ z => z)
  case F =>
    intro w mg fa h Y KX G hmg
    refine' Tw.all_mk KX G hmg ?aC ?a1 ?i1 ?l1 ?c1 ?k1 ?a2 ?i2 ?l2 ?c2 ?k2 ?a3 ?i3 ?l3 ?c3 ?k3 ?a4 ?i4 ?l4 ?c4 ?k4 ?a5 ?i5 ?l5 ?c5 ?k5 ?a6 ?i6 ?l6 ?c6 ?k6 ?a7 ?i7 ?l7 ?c7 ?k7 ?a8 ?i8 ?l8 ?c8 ?k8 ?a9 ?i9 ?l9 ?c9 ?k9 ?a10 ?i10 ?l10 ?c10 ?k10 ?a11 ?i11 ?l11 ?c11 ?k11 ?a12 ?i12 ?l12 ?c12 ?k12 ?a13 ?i13 ?l13 ?c13 ?k13 ?a14 ?i14 ?l14 ?c14 ?k14 ?a15 ?i15 ?l15 ?c15 ?k15 ?a16 ?i16 ?l16 ?c16 ?k16 ?a17 ?i17 ?l17 ?c17 ?k17 ?a18 ?i18 ?l18 ?c18 ?k18 ?a19 ?i19 ?l19 ?c19 ?k19 ?a20 ?i20 ?l20 ?c20 ?k20 ?a21 ?i21 ?l21 ?c21 ?k21 ?a22 ?i22 ?l22 ?c22 ?k22 ?a23 ?i23 ?l23 ?c23 ?k23 ?a24 ?i24 ?l24 ?c24 ?k24 ?a25 ?l25 ?c25 ?k25 ?a26 ?l26 ?c26 ?k26 ?a27 ?l27 ?c27 ?k27 ?pg ?hd ?po ?sa ?mk ?kc ?na0 ?na1 ?na2 ?na3 ?nb0 ?nb1 ?nb2 ?nb3 ?nb4 ?kst0 ?kst1 ?kst2 ?kst3 ?kst4 ?kst5 ?kst6 ?kst7 ?kst8 ?kst9 ?kst10 ?kst11 ?kst12 ?kst13 ?kst14 ?aL ?lL ?zL ?vL
    (case aC => k_is); (case a1 => k_is); (case i1 => k_is); (case l1 => k_is); (case c1 => k_is); (case k1 => k_is); (case a2 => k_is); (case i2 => k_is)
    (case l2 => k_is); (case c2 => k_is); (case k2 => k_is); (case a3 => k_is); (case i3 => k_is); (case l3 => k_is); (case c3 => k_is); (case k3 => k_is)
    (case a4 => k_is); (case i4 => k_is); (case l4 => k_is); (case c4 => k_is); (case k4 => k_is); (case a5 => k_is); (case i5 => k_is); (case l5 => k_is)
    (case c5 => k_is); (case k5 => k_is); (case a6 => k_is); (case i6 => k_is); (case l6 => k_is); (case c6 => k_is); (case k6 => k_is); (case a7 => k_is)
    (case i7 => k_is); (case l7 => k_is); (case c7 => k_is); (case k7 => k_is); (case a8 => k_is); (case i8 => k_is); (case l8 => k_is); (case c8 => k_is)
    (case k8 => k_is); (case a9 => k_is); (case i9 => k_is); (case l9 => k_is); (case c9 => k_is); (case k9 => k_is); (case a10 => k_is); (case i10 => k_is)
    (case l10 => k_is); (case c10 => k_is); (case k10 => k_is); (case a11 => k_is); (case i11 => k_is); (case l11 => k_is); (case c11 => k_is); (case k11 => k_is)
    (case a12 => k_is); (case i12 => k_is); (case l12 => k_is); (case c12 => k_is); (case k12 => k_is); (case a13 => k_is); (case i13 => k_is); (case l13 => k_is)
    (case c13 => k_is); (case k13 => k_is); (case a14 => k_is); (case i14 => k_is); (case l14 => k_is); (case c14 => k_is); (case k14 => k_is); (case a15 => k_is)
    (case i15 => k_is); (case l15 => k_is); (case c15 => k_is); (case k15 => k_is); (case a16 => k_is); (case i16 => k_is); (case l16 => k_is); (case c16 => k_is)
    (case k16 => k_is); (case a17 => k_is); (case i17 => k_is); (case l17 => k_is); (case c17 => k_is); (case k17 => k_is); (case a18 => k_is); (case i18 => k_is)
    (case l18 => k_is); (case c18 => k_is); (case k18 => k_is); (case a19 => k_is); (case i19 => k_is); (case l19 => k_is); (case c19 => k_is); (case k19 => k_is)
    (case a20 => k_is); (case i20 => k_is); (case l20 => k_is); (case c20 => k_is); (case k20 => k_is); (case a21 => k_is); (case i21 => k_is); (case l21 => k_is)
    (case c21 => k_is); (case k21 => k_is); (case a22 => k_is); (case i22 => k_is); (case l22 => k_is); (case c22 => k_is); (case k22 => k_is); (case a23 => k_is)
    (case i23 => k_is); (case l23 => k_is); (case c23 => k_is); (case k23 => k_is); (case a24 => k_is); (case i24 => k_is); (case l24 => k_is); (case c24 => k_is)
    (case k24 => k_is); (case a25 => k_is); (case l25 => k_is); (case c25 => k_is); (case k25 => k_is); (case a26 => k_is); (case l26 => k_is); (case c26 => k_is)
    (case k26 => k_is); (case a27 => k_is); (case l27 => k_is); (case c27 => k_is); (case k27 => k_is); (case pg => k_is); (case hd => k_is); (case po => k_is)
    (case sa => k_is); (case mk => k_is); (case kc => k_is); (case na0 => k_is); (case na1 => k_is); (case na2 => k_is); (case na3 => k_is); (case nb0 => k_is)
    (case nb1 => k_is); (case nb2 => k_is); (case nb3 => k_is); (case nb4 => k_is); (case kst0 => k_is); (case kst1 => k_is); (case kst2 => k_is); (case kst3 => k_is)
    (case kst4 => k_is); (case kst5 => k_is); (case kst6 => k_is); (case kst7 => k_is); (case kst8 => k_is); (case kst9 => k_is); (case kst10 => k_is); (case kst11 => k_is)
    (case kst12 => k_is); (case kst13 => k_is); (case kst14 => k_is); (case aL => k_is); (case lL => k_is)
    (case zL => decide)
    (case vL => exact .cons ⟨_, rfl⟩ (.cons ⟨_, rfl⟩ (.cons ⟨_, rfl⟩ (.cons ⟨_, rfl⟩ (.cons ⟨_, rfl⟩ (.cons ⟨_, rfl⟩ (.cons ⟨_, rfl⟩ (.cons ⟨_, rfl⟩ (.cons ⟨_, rfl⟩ (.nil))))))))))
  case S =>
    intro K H xs a hO hwi hask hx
    cases hx with
    | cons h1 h2 =>
      cases h2
      cases h1 with
      | lst hs ha =>
        have e := L2.ints_dw a.1 _ ha
        subst e
        exact ⟨_, a.1, rfl, hs, hask, fun H' p hp => .lst (L2.SqL.of hp) (L2.dw_ints _)⟩
#print axioms PySem.Challenge.cw_tworooms_s01_answers_holds
