import PyProof.Rows.All
import Wide.All
import OpenK.AllK
import Wide.FinOn
import PyProof.EqAt
import PyProof.EqKinds
import PyProof.TupleCall
import KE.BitLaws
import KE.OsGo
import KE.OsArgs
import PyFlatLaws
import PySem.Challenge.RW_childkeep_s01_answers
set_option Elab.async false
set_option linter.all false
set_option maxRecDepth 100000
/-! THE HAND LAYER, for ints, bools, texts, own classes, lists, tuples, dicts, comprehensions, walks over dicts, enumerate, zip, reversed, texts, calls, loops. Paste it whole ahead of your own text; what your proof does not reach may be deleted. -/
namespace L2
open PySem PySem.Spec PyProof.Rows

/-- a key: an int or a str -/
abbrev Key := Sum Int Str
def keyIs : Key → Value → Bool
  | .inl k, v => Value.isInt k v
  | .inr x, v => Value.isStrOf x v
def keyH (w : World) : Key → Int
  | .inl k => hashInt k
  | .inr x => hashStr w x
theorem keyIs_shape : ∀ {k : Key} {v : Value}, keyIs k v = true → (∃ i t, k = Sum.inl i ∧ v = Value.int i t) ∨ (∃ x t, k = Sum.inr x ∧ v = Value.str x t)
  | .inl i, v, h => by
    obtain ⟨t, e⟩ := Value.isInt_shape (k := i) (v := v) h
    exact .inl ⟨i, t, rfl, e⟩
  | .inr x, v, h => by
    obtain ⟨t, e⟩ := Value.isStrOf_shape (x := x) (v := v) h
    exact .inr ⟨x, t, rfl, e⟩
theorem keyIs_int (i : Int) (t : Tok) : keyIs (.inl i) (.int i t) = true := by simp [keyIs, Value.isInt]
theorem keyIs_str (x : Str) (t : Tok) : keyIs (.inr x) (.str x t) = true := by simp [keyIs, Value.isStrOf]
theorem key_ll (a b : Int) : decide ((Sum.inl a : Key) = Sum.inl b) = (a == b) := by
  by_cases e : a = b
  · subst e; simp
  · have h : ¬ (Sum.inl a : Key) = Sum.inl b := fun q => e (Sum.inl.inj q)
    rw [decide_eq_false h]
    exact (beq_eq_false_iff_ne.mpr e).symm
theorem key_rr (a b : Str) : decide ((Sum.inr a : Key) = Sum.inr b) = decide (a = b) := by
  by_cases e : a = b
  · subst e; simp
  · have h : ¬ (Sum.inr a : Key) = Sum.inr b := fun q => e (Sum.inr.inj q)
    rw [decide_eq_false h, decide_eq_false e]
theorem key_lr (a : Int) (b : Str) : decide ((Sum.inl a : Key) = Sum.inr b) = false := decide_eq_false (fun q => nomatch q)
theorem key_rl (a : Str) (b : Int) : decide ((Sum.inr a : Key) = Sum.inl b) = false := decide_eq_false (fun q => nomatch q)

def mixKind (prog : Program) (w : World) : PySem.KeyKind prog w Key where
  is := keyIs
  hash := keyH w
  inj := fun v a b ha hb => by
    rcases keyIs_shape ha with ⟨i, t, rfl, rfl⟩ | ⟨x, t, rfl, rfl⟩
    · rcases keyIs_shape hb with ⟨j, u, rfl, e⟩ | ⟨y, u, rfl, e⟩
      · injection e with e1 _; rw [e1]
      · exact nomatch e
    · rcases keyIs_shape hb with ⟨j, u, rfl, e⟩ | ⟨y, u, rfl, e⟩
      · exact nomatch e
      · injection e with e1 _; rw [e1]
  byValue := fun k v h => by
    rcases keyIs_shape h with ⟨i, t, rfl, rfl⟩ | ⟨x, t, rfl, rfl⟩ <;> rfl
  pyHash := fun hv h => by
    rcases keyIs_shape hv with ⟨i, t, rfl, rfl⟩ | ⟨x, t, rfl, rfl⟩
    · exact wpAny_pyHash_int h
    · exact wpAny_pyHash_str h
  eqBool := fun hu hv h => by
    rcases keyIs_shape hu with ⟨i, t, rfl, rfl⟩ | ⟨x, t, rfl, rfl⟩
    · rcases keyIs_shape hv with ⟨j, u, rfl, rfl⟩ | ⟨y, u, rfl, rfl⟩
      · rw [key_ll] at h; exact wpAny_eqBool_int h
      · rw [key_lr] at h; exact SeqAt.EqAt.int_str i t y u _ _ _ _ h
    · rcases keyIs_shape hv with ⟨j, u, rfl, rfl⟩ | ⟨y, u, rfl, rfl⟩
      · rw [key_rl] at h; exact SeqAt.EqAt.str_int x t j u _ _ _ _ h
      · rw [key_rr] at h; exact wpAny_eqBool_str h
  «strs» := fun k x t v h => by
    rcases keyIs_shape h with ⟨i, u, rfl, e⟩ | ⟨y, u, rfl, e⟩
    · exact nomatch e
    · injection e with e1 _
      subst e1
      cases v <;> rfl

theorem mixKind_is (prog : Program) (w : World) (k : Key) (v : Value) : (mixKind prog w).is k v = keyIs k v := rfl
theorem mixKind_int (prog : Program) (w : World) (i : Int) (t : Tok) : (mixKind prog w).is (.inl i) (.int i t) = true := keyIs_int i t
theorem mixKind_str (prog : Program) (w : World) (x : Str) (t : Tok) : (mixKind prog w).is (.inr x) (.str x t) = true := keyIs_str x t
end L2

namespace L2
open PySem PySem.Spec PyProof.Rows

/-- a value, without the heap -/
inductive V where
  | non | bl (b : Bool) | int (i : Int) | str (x : Str) | byt (b : Array UInt8) | flt (b : UInt64) | ref (a : Addr) | ty (n : String)
  deriving DecidableEq

def RelV : V → Value → Prop
  | .non, u => u = Value.none
  | .bl b, u => u = Value.bool b
  | .int i, u => ∃ t, u = Value.int i t
  | .str x, u => ∃ t, u = Value.str x t
  | .byt b, u => ∃ t, u = Value.bytes b t
  | .flt b, u => ∃ t, u = Value.float b t
  | .ref a, u => u = Value.ref a
  | .ty n, u => u = Value.type n

abbrev Vals : List V → List Value → Prop := Paired RelV
theorem Vals.length {xs : List V} {us : List Value} (r : Vals xs us) : xs.length = us.length := Paired.length r
theorem Vals.get : ∀ {xs : List V} {us : List Value} {i : Nat} {x : V}, Vals xs us → xs[i]? = some x → ∃ u, us[i]? = some u ∧ RelV x u
  | _, _, _, _, .nil, e => by simp at e
  | _, _, 0, _, .cons r _, e => by simp at e; subst e; exact ⟨_, rfl, r⟩
  | _, _, i + 1, x, .cons _ t, e => by
    obtain ⟨u, h1, h2⟩ := Vals.get (i := i) (x := x) t (by simpa using e)
    exact ⟨u, by simpa using h1, h2⟩
theorem Vals.set {x : V} {u : Value} (r : RelV x u) : ∀ {xs : List V} {us : List Value} (i : Nat), Vals xs us → Vals (xs.set i x) (us.set i u)
  | _, _, _, .nil => .nil
  | _, _, 0, .cons _ t => .cons r t
  | _, _, i + 1, .cons q t => .cons q (Vals.set r i t)
theorem Vals.append : ∀ {xs ys : List V} {us ws : List Value}, Vals xs us → Vals ys ws → Vals (xs ++ ys) (us ++ ws)
  | _, _, _, _, .nil, s => s
  | _, _, _, _, .cons r t, s => .cons r (Vals.append t s)
theorem Vals.take : ∀ {xs : List V} {us : List Value} (n : Nat), Vals xs us → Vals (xs.take n) (us.take n)
  | _, _, 0, _ => .nil
  | _, _, _ + 1, .nil => .nil
  | _, _, n + 1, .cons r t => .cons r (Vals.take n t)
theorem Vals.drop : ∀ {xs : List V} {us : List Value} (n : Nat), Vals xs us → Vals (xs.drop n) (us.drop n)
  | _, _, 0, r => r
  | _, _, _ + 1, .nil => .nil
  | _, _, n + 1, .cons _ t => Vals.drop n t
theorem Vals.none_of : ∀ {xs : List V} {us : List Value} {i : Nat}, Vals xs us → xs[i]? = none → us[i]? = none := fun {xs us i} r e => by
  have h1 := r.length
  have h2 : xs.length ≤ i := List.getElem?_eq_none_iff.mp e
  exact List.getElem?_eq_none_iff.mpr (by omega)

def RelO : Option V → Option Value → Prop
  | some v, some u => RelV v u
  | none, none => True
  | _, _ => False
def KV {κ : Type} : List (κ × V) → List (κ × Value) → Prop := Paired fun (p : κ × V) (q : κ × Value) => p.1 = q.1 ∧ RelV p.2 q.2

/-- a key of a dict (00_mix): an int or a text -/
def kV : Key → V
  | .inl i => .int i
  | .inr x => .str x

/-- what stands at a tracked address -/
inductive HO where
  /-- a list -/
  | lst (xs : List V)
  /-- a tuple (never changes) -/
  | tup (xs : List V)
  /-- a dict whose keys are ints and texts; one whose keys are tuples of ints and texts (the empty one is both) -/
  | dK (kvs : List (Key × V)) | dT (kvs : List (List Key × V))
  /-- a set of ints: its members, its size -/
  | set (S : Int → Bool) (n : Nat)
  /-- an instance of the class at C, its dict at dx, its attributes -/
  | ins (C dx : Addr) (fs : List (Str × V))
  /-- the dict of the instance at x -/
  | own (x : Addr)
  /-- the dict of an exception -/
  | xd (fs : List (Str × V))
  /-- a bound method, f of x -/
  | met (f x : Addr)
  /-- a range object lo, lo + 1, .. below hi -/
  | rng (lo hi : Int)
  /-- a thing that is known to the object (the script; a dict while a loop walks it): read, never written while it is so -/
  | frz (o : Obj) (u : HO)
  /-- a code object's table -/
  | tbl (ps : Array Value)
  /-- any other thing, by what is true of its one object (a def of one's own: SetO a S n := HO.ext fun h => ..) -/
  | ext (φ : Heap → Prop)

abbrev Hp := Addr → Option HO
def upd (H : Hp) (a : Addr) (o : HO) : Hp := fun b => if b = a then some o else H b
theorem upd_same {H : Hp} {a : Addr} {o : HO} : upd H a o a = some o := by unfold upd; rw [if_pos rfl]
theorem upd_ne {H : Hp} {a b : Addr} {o : HO} (h : b ≠ a) : upd H a o b = H b := by unfold upd; rw [if_neg h]
theorem upd_upd {H : Hp} {a : Addr} {o u : HO} : upd (upd H a o) a u = upd H a u := by
  funext b; unfold upd; split <;> rfl
/-- two objects of different content stand apart -/
theorem ne_of {H : Hp} {a b : Addr} {o u : HO} (h : H a = some o) (h' : H b = some u) (d : o ≠ u) : a ≠ b := by
  intro e; subst e; rw [h] at h'; exact d (Option.some.inj h')
theorem ne_of_none {H : Hp} {a b : Addr} {o : HO} (h : H a = some o) (h' : H b = none) : a ≠ b := by
  intro e; subst e; rw [h] at h'; cases h'

section
variable (P : Program) (w : World)
def ObjOk (H : Hp) (h : Heap) (a : Addr) : HO → Prop
  | .lst xs => xs.length ≤ sizeLine ∧ ∃ (its : List Value) (n : Nat), Vals xs its ∧ h.get? a = some { cls := .type "list", data := .seq its.toArray n }
  | .tup xs => xs.length ≤ sizeLine ∧ ∃ its : List Value, Vals xs its ∧ IsTup h a its.toArray
  | .dK kvs => kvs.length ≤ sizeLine ∧ (a == sysModules) = false ∧ ∃ vs, KV kvs vs ∧ h.DictOf (mixKind P w) a vs
  | .dT kvs => kvs.length ≤ sizeLine ∧ (a == sysModules) = false ∧ ∃ xs : List (List Key × Addr × Value),
      Paired (fun (p : List Key × V) (q : List Key × Addr × Value) => p.1 = q.1 ∧ H q.2.1 = some (.tup (p.1.map kV)) ∧ RelV p.2 q.2.2) kvs xs ∧
      ∃ o es ep, h.get? a = some o ∧ o.ExactDict ∧ o.data = .dict es ep ∧ es.toList = xs.map (entryOfKey (tupleKind (mixKind P w))) ∧ (xs.map (·.1)).Nodup
  | .set S n => h.SetOf (intKind P w) a S n
  | .ins C dx fs => H dx = some (.own a) ∧ fs.length ≤ 1000 ∧ dx ≠ a ∧ h.get? a = some (PySem.W.instObj C dx) ∧
      ∃ mA, h.Ns1 dx mA ∧ (∀ f, RelO (fs.lookup f) (mA f)) ∧ PySem.Within mA (fs.map (·.1))
  | .own _ => ∃ o, h.get? a = some o
  | .xd fs => ∃ mA, h.Ns1 a mA ∧ ∀ f, RelO (fs.lookup f) (mA f)
  | .rng lo hi => ∃ t u v, h.get? a = some { cls := .type "range", data := .fields #[.int lo t, .int hi u, .int 1 v] }
  | .frz o u => h.get? a = some o ∧ ObjOk H h a u
  | .tbl ps => h.get? a = some { cls := .none, data := .fields ps }
  | .met f x => h.get? a = some (PySem.W.methodObj (.ref f) (.ref x))
  | .ext φ => φ h ∧ (∃ o, h.get? a = some o) ∧ ∀ h1 h2 : Heap, φ h1 → (∀ o, h1.get? a = some o → h2.get? a = some o) → φ h2
/-- the abstract heap is held -/
def HOk (H : Hp) (h : Heap) : Prop := ∀ a o, H a = some o → ObjOk P w H h a o
end

section
variable {P : Program} {w : World} {H H' : Hp} {h h' : Heap} {a : Addr} {o : HO}
theorem ObjOk.lt (x : ObjOk P w H h a o) : a < h.objs.size := by
  cases o with
  | lst xs => obtain ⟨_, _, _, _, e⟩ := x; exact Heap.lt_size e
  | tup xs => obtain ⟨_, _, _, p⟩ := x; exact p.lt
  | dK kvs => obtain ⟨_, _, _, _, o, _, _, e, _⟩ := x; exact Heap.lt_size e
  | dT kvs => obtain ⟨_, _, _, _, o, _, _, e, _⟩ := x; exact Heap.lt_size e
  | set S n => obtain ⟨o, _, _, _, e, _⟩ := x; exact Heap.lt_size e
  | ins C dx fs => obtain ⟨_, _, _, e, _⟩ := x; exact Heap.lt_size e
  | own y => obtain ⟨_, e⟩ := x; exact Heap.lt_size e
  | xd fs => obtain ⟨_, ⟨_, _, _, e, _⟩, _⟩ := x; exact Heap.lt_size e
  | rng lo hi => obtain ⟨_, _, _, e⟩ := x; exact Heap.lt_size e
  | frz ob u => obtain ⟨e, _⟩ := x; exact Heap.lt_size e
  | tbl ps => exact Heap.lt_size (show h.get? a = some _ from x)
  | met f y => exact Heap.lt_size (show h.get? a = some _ from x)
  | ext φ => obtain ⟨_, ⟨_, e⟩, _⟩ := x; exact Heap.lt_size e
theorem Paired.mapP {α β : Type} {F G : α → β → Prop} : ∀ {l₁ : List α} {l₂ : List β}, Paired F l₁ l₂ → (∀ a b, F a b → G a b) → Paired G l₁ l₂
  | _, _, .nil, _ => .nil
  | _, _, .cons r t, f => .cons (f _ _ r) (Paired.mapP t f)
theorem Paired.imp' {α β : Type} {F G : α → β → Prop} (f : ∀ a b, F a b → G a b) {l₁ : List α} {l₂ : List β} (r : Paired F l₁ l₂) : Paired G l₁ l₂ := Paired.mapP r f
/-- what an object's description leans on: its own object, its own dict, the tuples -/
theorem ObjOk.stay (x : ObjOk P w H h a o) (k : ∀ b u, (b = a ∨ H b = some (.own a)) → h.get? b = some u → h'.get? b = some u)
    (ho : ∀ b, H b = some (.own a) → H' b = some (.own a)) (ht : ∀ b xs, H b = some (.tup xs) → H' b = some (.tup xs)) : ObjOk P w H' h' a o := by
  induction o with
  | lst xs => obtain ⟨z, its, n, r, e⟩ := x; exact ⟨z, its, n, r, k _ _ (.inl rfl) e⟩
  | tup xs => obtain ⟨z, its, r, ob, e, c⟩ := x; exact ⟨z, its, r, ob, k _ _ (.inl rfl) e, c⟩
  | dK kvs => obtain ⟨z, y, vs, r, ob, es, ep, e, c⟩ := x; exact ⟨z, y, vs, r, ob, es, ep, k _ _ (.inl rfl) e, c⟩
  | dT kvs =>
    obtain ⟨z, y, xs, r, ob, es, ep, e, c⟩ := x
    exact ⟨z, y, xs, Paired.mapP r fun p q z => ⟨z.1, ht _ _ z.2.1, z.2.2⟩, ob, es, ep, k _ _ (.inl rfl) e, c⟩
  | set S n => obtain ⟨ob, es, ep, t, e, c⟩ := x; exact ⟨ob, es, ep, t, k _ _ (.inl rfl) e, c⟩
  | ins C dx fs =>
    obtain ⟨d, z, ne, e, mA, ⟨od, es, ep, e2, c⟩, r⟩ := x
    exact ⟨ho _ d, z, ne, k _ _ (.inl rfl) e, mA, ⟨od, es, ep, k _ _ (.inr d) e2, c⟩, r⟩
  | own y => obtain ⟨ob, e⟩ := x; exact ⟨ob, k _ _ (.inl rfl) e⟩
  | xd fs => obtain ⟨mA, ⟨od, es, ep, e, c⟩, r⟩ := x; exact ⟨mA, ⟨od, es, ep, k _ _ (.inl rfl) e, c⟩, r⟩
  | rng lo hi => obtain ⟨t, u, v, e⟩ := x; exact ⟨t, u, v, k _ _ (.inl rfl) e⟩
  | frz ob u ih => obtain ⟨e, q⟩ := x; exact ⟨k _ _ (.inl rfl) e, ih q⟩
  | tbl ps =>
    have e : h.get? a = some { cls := .none, data := .fields ps } := x
    show h'.get? a = some { cls := .none, data := .fields ps }
    exact k a _ (.inl rfl) e
  | met f y =>
    have e : h.get? a = some (PySem.W.methodObj (.ref f) (.ref y)) := x
    show h'.get? a = some (PySem.W.methodObj (.ref f) (.ref y))
    exact k a _ (.inl rfl) e
  | ext φ => obtain ⟨p, ⟨o, e⟩, st⟩ := x; exact ⟨st _ _ p fun o q => k _ _ (.inl rfl) q, ⟨o, k _ _ (.inl rfl) e⟩, st⟩
theorem HOk.lt (x : HOk P w H h) (e : H a = some o) : a < h.objs.size := (x a o e).lt
theorem HOk.fresh (x : HOk P w H h) (e : h.objs.size ≤ a) : H a = none := by
  cases q : H a with
  | none => rfl
  | some u => exact absurd (Nat.lt_of_lt_of_le (x.lt q) e) (Nat.lt_irrefl _)
/-- every object of the heap is kept -/
theorem HOk.kept (x : HOk P w H h) (k : ∀ b u, h.get? b = some u → h'.get? b = some u) : HOk P w H h' := fun a o e =>
  (x a o e).stay (fun b u _ q => k b u q) (fun _ q => q) fun _ _ q => q
/-- a new object is laid and tracked -/
theorem HOk.laid (x : HOk P w H h) (k : ∀ b u, h.get? b = some u → h'.get? b = some u) (hp : h.objs.size ≤ a) (new : ObjOk P w (upd H a o) h' a o) : HOk P w (upd H a o) h' := fun b u e => by
  have hn := x.fresh hp
  by_cases hb : b = a
  · subst hb; rw [upd_same] at e; cases e; exact new
  · rw [upd_ne hb] at e
    exact (x b u e).stay (fun c v _ q => k c v q) (fun c q => by rw [upd_ne (ne_of_none q hn)]; exact q) fun c xs q => by rw [upd_ne (ne_of_none q hn)]; exact q
end

/-- what may be read as u: it is u, or a known u -/
def Rd (H : Hp) (a : Addr) (u : HO) : Prop := H a = some u ∨ ∃ o, H a = some (.frz o u)
theorem Rd.of {H : Hp} {a : Addr} {u : HO} (h : H a = some u) : Rd H a u := .inl h
theorem Rd.ok {P : Program} {w : World} {H : Hp} {h : Heap} {a : Addr} {u : HO} (r : Rd H a u) (x : HOk P w H h) : ObjOk P w H h a u := by
  rcases r with r | ⟨o, r⟩
  · exact x a u r
  · obtain ⟨_, q⟩ := x a _ r
    exact q
/-- what may be written -/
def Mut : Option HO → Prop
  | some (.lst _) => True
  | some (.dK _) => True
  | some (.dT _) => True
  | some (.set _ _) => True
  | some (.ins _ _ _) => True
  | some (.ext _) => True
  | _ => False
section
variable {P : Program} {w : World} {H : Hp} {h h' : Heap} {x e : Addr} {o' : HO}
/-- the object at e is changed: x itself, or the dict of the instance x -/
theorem HOk.write (ok : HOk P w H h) (mu : Mut (H x)) (he : e = x ∨ H e = some (.own x)) (k : ∀ b u, b ≠ e → h.get? b = some u → h'.get? b = some u) (heo : ∃ u, h'.get? e = some u)
    (new : ObjOk P w (upd H x o') h' x o') : HOk P w (upd H x o') h' := fun b u q => by
  have nown : ∀ c y, H c = some (.own y) → c ≠ x := fun c y r z => by subst z; rw [r] at mu; exact mu
  have ntup : ∀ c xs, H c = some (.tup xs) → c ≠ x := fun c xs r z => by subst z; rw [r] at mu; exact mu
  by_cases hb : b = x
  · subst hb; rw [upd_same] at q; cases q; exact new
  · rw [upd_ne hb] at q
    by_cases hbe : b = e
    · have q' : H b = some (.own x) := by
        rcases he with z | z
        · exact absurd (hbe.trans z) hb
        · rw [hbe]; exact z
      rw [q] at q'; cases q'
      obtain ⟨v, hv⟩ := heo
      exact ⟨v, by rw [hbe]; exact hv⟩
    · refine (ok b u q).stay (fun c v hc r => k c v ?_ r) (fun c r => by rw [upd_ne (nown c b r)]; exact r) fun c xs r => by rw [upd_ne (ntup c xs r)]; exact r
      rcases hc with rfl | hc
      · exact hbe
      · rintro rfl
        rcases he with z | z
        · exact nown c b hc z
        · rw [hc] at z; cases z; exact hb rfl
end

/-! ### kept unless tracked; of the frames at fs (the callers') the slots may change (an exception that passes writes there); of the records at ex (iterators) nothing is said -/
structure Un (fs ex : List Addr) (H H' : Hp) (h h' : Heap) : Prop where
  keep : ∀ b o, h.get? b = some o → H b = none → b ∉ fs → b ∉ ex → h'.get? b = some o
  slot : ∀ b o, h.get? b = some o → H b = none → b ∈ fs → b ∉ ex → ∃ sl, h'.get? b = some { o with slots := sl }
  free : ∀ b o, h.get? b = some o → H b = none → b ∉ ex → H' b = none
  there : ∀ b o, h.get? b = some o → b ∉ ex → ∃ o', h'.get? b = some o'
  tups : ∀ b xs, H b = some (.tup xs) → H' b = some (.tup xs)
  frzs : ∀ b o u, H b = some (.frz o u) → H' b = some (.frz o u)
  tbls : ∀ b ps, H b = some (.tbl ps) → ∃ more, H' b = some (.tbl (ps ++ more))
section
variable {fs fs' ex ex' : List Addr} {H H1 H2 : Hp} {h h1 h2 h' : Heap} {a x e : Addr} {o : HO}
theorem Un.any (u : Un fs ex H H1 h h1) {b : Addr} {ob : Obj} (q : h.get? b = some ob) (n : H b = none) (hx : b ∉ ex) : ∃ sl, h1.get? b = some { ob with slots := sl } := by
  by_cases hb : b ∈ fs
  · exact u.slot b ob q n hb hx
  · exact ⟨ob.slots, u.keep b ob q n hb hx⟩
theorem Un.trans (a : Un fs ex H H1 h h1) (b : Un fs ex H1 H2 h1 h2) : Un fs ex H H2 h h2 where
  keep := fun c ob q n hc hx => b.keep c ob (a.keep c ob q n hc hx) (a.free c ob q n hx) hc hx
  slot := fun c ob q n hc hx => by
    obtain ⟨sl, e1⟩ := a.slot c ob q n hc hx
    obtain ⟨sl', e2⟩ := b.slot c _ e1 (a.free c ob q n hx) hc hx
    exact ⟨sl', e2⟩
  free := fun c ob q n hx => by
    obtain ⟨o', e1⟩ := a.there c ob q hx
    exact b.free c o' e1 (a.free c ob q n hx) hx
  there := fun c ob q hx => by
    obtain ⟨o', e1⟩ := a.there c ob q hx
    exact b.there c o' e1 hx
  tups := fun c xs q => b.tups c xs (a.tups c xs q)
  frzs := fun c ob xs q => b.frzs c ob xs (a.frzs c ob xs q)
  tbls := fun c ps q => by
    obtain ⟨m1, e1⟩ := a.tbls c ps q
    obtain ⟨m2, e2⟩ := b.tbls c _ e1
    exact ⟨m1 ++ m2, by rw [e2, Array.append_assoc]⟩
theorem Un.kept (k : ∀ b u, h.get? b = some u → h'.get? b = some u) : Un fs ex H H h h' :=
  ⟨fun b ob q _ _ _ => k b ob q, fun b ob q _ _ _ => ⟨ob.slots, k b ob q⟩, fun _ _ _ n _ => n, fun b ob q _ => ⟨ob, k b ob q⟩, fun _ _ q => q, fun _ _ _ q => q, fun _ ps q => ⟨#[], by rw [q]; simp⟩⟩
theorem Un.refl : Un fs ex H H h h := Un.kept fun _ _ q => q
theorem Un.laid (k : ∀ b u, h.get? b = some u → h'.get? b = some u) (hp : h.objs.size ≤ a) (hn : H a = none) : Un fs ex H (upd H a o) h h' where
  keep := fun b u q _ _ _ => k b u q
  slot := fun b u q _ _ _ => ⟨u.slots, k b u q⟩
  free := fun b u q n _ => by rw [upd_ne (Nat.ne_of_lt (Nat.lt_of_lt_of_le (Heap.lt_size q) hp))]; exact n
  there := fun b u q _ => ⟨u, k b u q⟩
  tups := fun b xs q => by rw [upd_ne (ne_of_none q hn)]; exact q
  frzs := fun b u xs q => by rw [upd_ne (ne_of_none q hn)]; exact q
  tbls := fun b ps q => ⟨#[], by rw [upd_ne (ne_of_none q hn), q]; simp⟩
theorem Un.write (mu : Mut (H x)) (he : e = x ∨ H e = some (.own x)) (k : ∀ b u, b ≠ e → h.get? b = some u → h'.get? b = some u) (heo : ∃ u, h'.get? e = some u) : Un fs ex H (upd H x o) h h' := by
  have hx : ∀ b, H b = none → b ≠ x := fun b n z => by subst z; rw [n] at mu; exact mu
  have hb : ∀ b, H b = none → b ≠ e := fun b n z => by
    subst z
    rcases he with r | r
    · exact hx b n r
    · rw [n] at r; cases r
  have hm : ∀ b u, H b = some u → ¬ Mut (some u) → b ≠ x := fun b u q nm z => by subst z; rw [q] at mu; exact nm mu
  refine ⟨fun b u q n _ _ => k b u (hb b n) q, fun b u q n _ _ => ⟨u.slots, k b u (hb b n) q⟩, fun b u q n _ => by rw [upd_ne (hx b n)]; exact n, fun b u q _ => ?_,
    fun b xs q => by rw [upd_ne (hm b _ q fun z => z)]; exact q, fun b u xs q => by rw [upd_ne (hm b _ q fun z => z)]; exact q, fun b ps q => ⟨#[], by rw [upd_ne (hm b _ q fun z => z), q]; simp⟩⟩
  by_cases hbe : b = e
  · subst hbe; exact heo
  · exact ⟨u, k b u hbe q⟩
theorem Un.mono (u : Un fs ex H H1 h h1) (hs : ∀ b ∈ fs, b ∈ fs') (hx : ∀ b ∈ ex, b ∈ ex') : Un fs' ex' H H1 h h1 :=
  ⟨fun b ob q n hb he => u.keep b ob q n (fun z => hb (hs b z)) fun z => he (hx b z), fun _ _ q n _ he => u.any q n fun z => he (hx _ z), fun b ob q n he => u.free b ob q n fun z => he (hx b z), fun b ob q he => u.there b ob q fun z => he (hx b z), u.tups, u.frzs, u.tbls⟩
end

/-! ### the heap without what is tracked -/
def trk (h : Heap) (H : Hp) : List Addr := (List.range h.objs.size).filter fun a => (H a).isSome
def hidT (h : Heap) (H : Hp) : Heap := PySem.W.hideAll h (trk h H)
theorem hidT_size (h : Heap) (H : Hp) : (hidT h H).objs.size = h.objs.size := PySem.W.hideAll_size _ _
theorem hidT_get {h : Heap} {H : Hp} {b : Addr} {o : Obj} (e : h.get? b = some o) (n : H b = none) : (hidT h H).get? b = some o :=
  PySem.W.hideAll_get _ e fun hm => by
    have q : (H b).isSome = true := (List.mem_filter.mp hm).2
    rw [n] at q; simp at q
theorem of_hidT {h : Heap} {H : Hp} {b : Addr} {o : Obj} (e : (hidT h H).get? b = some o) : h.get? b = some o ∧ H b = none := by
  have e' : h.get? b = some o := PySem.W.of_hideAll (trk h H) e
  refine ⟨e', ?_⟩
  cases q : H b with
  | none => rfl
  | some x =>
    have hm : b ∈ trk h H := List.mem_filter.mpr ⟨List.mem_range.mpr (Heap.lt_size e'), by simp [q]⟩
    have z : (hidT h H).get? b = none := PySem.W.hideAll_none (trk h H) hm
    rw [z] at e; cases e

/-! ### OpenK's ledger, filled with every new object but one -/
def allNews (g h : Heap) (L : Addr) : List (Addr × Obj) := (List.range h.objs.size).filterMap fun a => if a = L ∨ (g.get? a).isSome = true then none else (h.get? a).map fun o => (a, o)
theorem mem_allNews {g h : Heap} {L a : Addr} {o : Obj} (h1 : a ≠ L) (h2 : g.get? a = none) (h3 : h.get? a = some o) : (a, o) ∈ allNews g h L :=
  List.mem_filterMap.mpr ⟨a, List.mem_range.mpr (Heap.lt_size h3), by simp [h1, h2, h3]⟩
theorem of_mem_allNews {g h : Heap} {L : Addr} {p : Addr × Obj} (hp : p ∈ allNews g h L) : p.1 ≠ L ∧ g.get? p.1 = none ∧ h.get? p.1 = some p.2 := by
  obtain ⟨b, _, e⟩ := List.mem_filterMap.mp hp
  split at e
  · cases e
  · rename_i hn
    cases q : h.get? b with
    | none => rw [q] at e; simp at e
    | some u =>
      rw [q] at e
      simp only [Option.map_some, Option.some.injEq] at e
      subst e
      refine ⟨fun z => hn (.inl z), ?_, q⟩
      show g.get? b = none
      cases r : g.get? b with
      | none => rfl
      | some v => exact (hn (.inr (by simp [r]))).elim
def rest (g h : Heap) (L d : Addr) : List (Addr × Obj) := (allNews g h L).filter fun p => decide (p.1 ≠ d)
theorem rest_ne {g h : Heap} {L d : Addr} : ∀ p ∈ rest g h L d, p.1 ≠ d := fun p hp => of_decide_eq_true (List.mem_filter.mp hp).2
theorem mem_rest {g h : Heap} {L d a : Addr} {o : Obj} (h1 : a ≠ L) (h2 : g.get? a = none) (h3 : h.get? a = some o) (h4 : a ≠ d) : (a, o) ∈ rest g h L d :=
  List.mem_filter.mpr ⟨mem_allNews h1 h2 h3, decide_eq_true h4⟩
theorem news_all {g h : Heap} {L : Addr} : News g L h (allNews g h L) := fun p hp => let ⟨a, b, c⟩ := of_mem_allNews hp; ⟨c, a, b⟩
theorem news_at {g h : Heap} {L d : Addr} {o : Obj} (h1 : d ≠ L) (h2 : g.get? d = none) (h3 : h.get? d = some o) : News g L h ((d, o) :: rest g h L d) := fun p hp => by
  rcases List.mem_cons.mp hp with rfl | hp
  · exact ⟨h3, h1, h2⟩
  · exact news_all p (List.mem_filter.mp hp).1
/-- behind a rule that changed d alone: all else but the frame is kept -/
theorem kept_of_news {g h h' : Heap} {L d : Addr} {m : Str → Option Value} (k : ∀ b o, g.get? b = some o → h.get? b = some o) (F : Fr g L h' m) (N : News g L h' (rest g h L d)) :
    ∀ b o, b ≠ L → b ≠ d → h.get? b = some o → h'.get? b = some o := fun b o h1 h2 e => by
  cases q : g.get? b with
  | some u =>
    have := k b u q
    rw [e] at this; cases this
    exact F.keep b _ q
  | none => exact (N (b, o) (mem_rest h1 q e h2)).1
end L2

namespace L2
open PySem PySem.Spec PyProof.Rows

/-- the module's facts, over the base: the heap at the law's entry without what is tracked there -/
structure Mod (K : PySem.W.Frag) (mg : Str → Option Value) (base : Heap) : Prop where
  kin : K.In base
  glob : base.Ns mainGlobals mg
  blt : ∃ mb, base.Ns builtinsNs mb ∧ ∀ x : Str, x ≠ "__name__" → mb x = bootBuiltins x
  nolimit : base.NoLimit

/-- the context: a def's body (or a comprehension's block) running. base: fixed through the whole law; s₀, H₀: the entry; outer: the frames whose slots others may change (a def's callers); stack: all frames that run;
   ex: iterators that were made ahead of the entry and are walked here (a comprehension's); fn: the names whose cells were made at the entry (a def: all; a comprehension's block: its own); calm: not within an except suite; pn: pins that every state bears; xe: what is wanted of an exception that leaves the code -/
structure Cx where
  prog : Program
  w : World
  K : PySem.W.Frag
  mg : Str → Option Value
  base : Heap
  A : Around
  N : List Str
  s_0 : Shared
  H_0 : Hp
  env : Env
  outer : List Env
  stack : List Env
  ex : List Addr
  fn : Str → Bool
  calm : Bool
  pn : List (Addr × Obj)
  xe : Value → Shared → Prop
/-- the callers' frames -/
def frs (l : List Env) : List Addr := l.filterMap (·.frame)
abbrev Cx.fs (X : Cx) : List Addr := frs X.outer

def Vis (sc : Scope) (x : Str) : Prop := sc.names.lookup x = some .local ∨ sc.names.lookup x = some .cell ∨ sc.names.lookup x = some .free
def Loc (sc : Scope) (x : Str) : Prop := sc.names.lookup x = some .local ∨ sc.names.lookup x = some .cell
def Look (env : Env) (h : Heap) (m : Str → Option Value) (x : Str) (u : Value) : Prop :=
  (env.kindOf x = some .local ∧ m x = some u) ∨ ((env.kindOf x = some .cell ∨ env.kindOf x = some .free) ∧ ∃ c, env.cells.lookup x = some c ∧ h.IsCell c (some u))

structure Cx.Ok (X : Cx) : Prop where
  mod : Mod X.K X.mg X.base
  kind : X.env.scope.kind = .function
  glob : X.env.globals = mainGlobals
  blt : X.env.builtins = builtinsNs
  above : X.s_0.heap.objs.size ≤ X.env.locals
  inj : ∀ x y c, X.env.cells.lookup x = some c → X.env.cells.lookup y = some c → x = y
  has : ∀ x, (X.env.kindOf x = some .cell ∨ X.env.kindOf x = some .free) → ∃ c, X.env.cells.lookup x = some c
  cab : ∀ x c, X.fn x = true → X.env.cells.lookup x = some c → X.s_0.heap.objs.size ≤ c
  hd : X.calm = true → X.A.handled = none
  frames : X.A.frames = some X.stack
  stk : X.stack = X.outer ∨ (X.stack = X.env :: X.outer ∧ X.env.frame = some X.env.locals)
  exf : ∀ b ∈ X.ex, b ≠ X.env.locals ∧ ∀ x c, X.env.cells.lookup x = some c → c ≠ b
  bs : ∀ b o, X.base.get? b = some o → X.s_0.heap.get? b = some o ∧ X.H_0 b = none
  bsz : X.base.objs.size ≤ X.s_0.heap.objs.size
  noex : ∀ b o, X.base.get? b = some o → b ∉ X.ex
  exfs : ∀ b ∈ X.ex, b ∉ X.fs
  funs : X.s_0.heap.FunFrames X.base X.outer
  frf : ∀ b ∈ X.fs, X.H_0 b = none

structure Inv (X : Cx) (pins : List (Addr × Obj)) (σ : List (Option V)) (H : Hp) (s : Shared) : Prop where
  ok : X.Ok
  os : s.os = X.s_0.os
  bare : AllBare s.gens
  base : Un X.fs X.ex X.H_0 H X.s_0.heap s.heap
  loc : ∃ m, s.heap.Ns X.env.locals m ∧ ∀ (i : Nat) (x : Str) (v : V), X.N[i]? = some x → σ[i]? = some (some v) → Vis X.env.scope x → ∃ u, RelV v u ∧ Look X.env s.heap m x u
  cell : ∀ x c, X.env.cells.lookup x = some c → ∃ v, s.heap.IsCell c v
  free : H X.env.locals = none
  freeC : ∀ x c, X.env.cells.lookup x = some c → H c = none
  pin : ∀ p ∈ X.pn ++ pins, s.heap.get? p.1 = some p.2 ∧ H p.1 = none ∧ p.1 ≠ X.env.locals ∧ p.1 ∉ X.fs ∧ ∀ v, p.2.data ≠ .cell v
  hok : HOk X.prog X.w H s.heap
  len : σ.length = X.N.length

section
variable {X : Cx} {pins : List (Addr × Obj)} {σ : List (Option V)} {H H' : Hp} {s : Shared} {h' : Heap}

theorem Cx.Ok.nofr (ok : X.Ok) {b : Addr} {o : Obj} (e : X.base.get? b = some o) : b ∉ X.fs := fun hb => by
  have := (ok.funs.mem hb).1
  rw [e] at this; cases this
theorem Inv.bs (I : Inv X pins σ H s) : ∀ b o, X.base.get? b = some o → s.heap.get? b = some o ∧ H b = none := fun b o e =>
  ⟨I.base.keep b o (I.ok.bs b o e).1 (I.ok.bs b o e).2 (I.ok.nofr e) (I.ok.noex b o e), I.base.free b o (I.ok.bs b o e).1 (I.ok.bs b o e).2 (I.ok.noex b o e)⟩
theorem Inv.bk (I : Inv X pins σ H s) : ∀ b o, X.base.get? b = some o → s.heap.get? b = some o := fun b o e => (I.bs b o e).1
theorem Inv.mod (I : Inv X pins σ H s) : Mod X.K X.mg X.base := I.ok.mod
theorem Inv.kIn (I : Inv X pins σ H s) : X.K.In s.heap := I.ok.mod.kin.keeps I.bk
theorem Inv.nolimit (I : Inv X pins σ H s) : s.heap.NoLimit := I.ok.mod.nolimit.keeps I.bk
/-- the frame over the base: for OpenK's rules (K.In X.base is I.mod.kin) -/
theorem Inv.fr (I : Inv X pins σ H s) : ∃ m, Fr X.base X.env.locals s.heap m :=
  let ⟨m, hn, _⟩ := I.loc
  ⟨m, hn, I.bk, Nat.le_trans I.ok.bsz I.ok.above⟩
theorem Inv.lt (I : Inv X pins σ H s) : X.env.locals < s.heap.objs.size := let ⟨_, hn, _⟩ := I.loc; hn.lt
theorem Inv.sz (I : Inv X pins σ H s) : X.s_0.heap.objs.size ≤ s.heap.objs.size := Nat.le_trans I.ok.above (Nat.le_of_lt I.lt)
theorem Inv.nofs (I : Inv X pins σ H s) {a : Addr} (h : s.heap.objs.size ≤ a) : a ∉ X.fs := fun hb => by
  obtain ⟨_, o, ho, _⟩ := I.ok.funs.mem hb
  exact absurd (Nat.lt_of_lt_of_le (Heap.lt_size ho) (Nat.le_trans I.sz h)) (Nat.lt_irrefl _)
theorem Inv.cne (I : Inv X pins σ H s) : ∀ x c, X.env.cells.lookup x = some c → c ≠ X.env.locals := fun x c e z => by
  obtain ⟨v, o, ho, hd⟩ := I.cell x c e
  obtain ⟨m, ⟨o', es, ep, ho', hd', _⟩, _⟩ := I.loc
  rw [z, ho'] at ho; cases ho; rw [hd'] at hd; cases hd
theorem Inv.funs (I : Inv X pins σ H s) : s.heap.FunFrames X.base X.outer := by
  have all : ∀ (l : List Env), (∀ b ∈ frs l, b ∈ X.fs) → X.s_0.heap.FunFrames X.base l → s.heap.FunFrames X.base l := by
    intro l
    induction l with
    | nil => intro _ _; trivial
    | cons env r ih =>
      intro hs hl
      obtain ⟨hk, ⟨L, o, hf, hn, ho, hd⟩, hr⟩ := hl
      have hL : L ∈ X.fs := hs L (by unfold frs; rw [List.filterMap_cons, hf]; exact List.mem_cons_self)
      obtain ⟨sl, e⟩ := I.base.slot L o ho (I.ok.frf L hL) hL fun z => I.ok.exfs L z hL
      exact ⟨hk, ⟨L, _, hf, hn, e, hd⟩, ih (fun b hb => hs b (by unfold frs; rw [List.filterMap_cons, hf]; exact List.mem_cons_of_mem _ hb)) hr⟩
  exact all X.outer (fun _ hb => hb) I.ok.funs

/-- the frames that run, for a call -/
theorem Inv.stack (I : Inv X pins σ H s) : s.heap.FunFrames X.base X.stack := by
  rcases I.ok.stk with e | ⟨e, hf⟩
  · rw [e]; exact I.funs
  · rw [e]
    obtain ⟨m, hn, _⟩ := I.loc
    refine .cons (by rw [I.ok.kind]; decide) hf hn ?_ I.funs
    exact Heap.get?_none_of_le (Nat.le_trans I.ok.bsz I.ok.above)
theorem Inv.stkSub (I : Inv X pins σ H s) : ∀ b ∈ frs X.stack, b ∈ X.env.locals :: X.fs := fun b hb => by
  rcases I.ok.stk with e | ⟨e, hf⟩
  · rw [e] at hb; exact List.mem_cons_of_mem _ hb
  · rw [e] at hb
    unfold frs at hb
    rw [List.filterMap_cons, hf] at hb
    exact hb
theorem Inv.stkFree (I : Inv X pins σ H s) : ∀ b ∈ frs X.stack, H b = none := fun b hb => by
  rcases List.mem_cons.mp (I.stkSub b hb) with e | hb
  · rw [e]; exact I.free
  · obtain ⟨_, o, ho, _⟩ := I.ok.funs.mem hb
    exact I.base.free b o ho (I.ok.frf b hb) fun z => I.ok.exfs b z hb

/-- THE STEP: the untracked objects but the frame and the records at ch are kept (the callers' frames up to slots), the frame's map is kept, the new abstract heap is held -/
theorem Inv.step {g' : Array GenState} {t' : Nat} {d' : Drawn} {ch : List Addr} (I : Inv X pins σ H s)
    (hch : ∀ b ∈ ch, (b ∈ X.ex ∨ X.s_0.heap.objs.size ≤ b) ∧ b ≠ X.env.locals ∧ (∀ x c, X.env.cells.lookup x = some c → c ≠ b) ∧ ∀ p ∈ X.pn ++ pins, p.1 ≠ b)
    (keep : ∀ b o, b ≠ X.env.locals → b ∉ X.fs → b ∉ ch → s.heap.get? b = some o → H b = none → h'.get? b = some o)
    (slot : ∀ b o, b ≠ X.env.locals → b ∈ X.fs → b ∉ ch → s.heap.get? b = some o → H b = none → ∃ sl, h'.get? b = some { o with slots := sl }) (free : ∀ b o, b ∉ ch → s.heap.get? b = some o → H b = none → H' b = none)
    (there : ∀ b o, b ∉ ch → s.heap.get? b = some o → ∃ o', h'.get? b = some o')
    (tups : ∀ b xs, H b = some (.tup xs) → H' b = some (.tup xs)) (frzs : ∀ b o u, H b = some (.frz o u) → H' b = some (.frz o u)) (tbls : ∀ b ps, H b = some (.tbl ps) → ∃ more, H' b = some (.tbl (ps ++ more)))
    (ns : ∀ m, s.heap.Ns X.env.locals m → h'.Ns X.env.locals m) (hok : HOk X.prog X.w H' h') (hg : AllBare g') :
    Inv X pins σ H' { s with heap := h', gens := g', drawn := d', toks := t' } := by
  have neL : ∀ b o, X.s_0.heap.get? b = some o → b ≠ X.env.locals := fun b o e => Nat.ne_of_lt (Nat.lt_of_lt_of_le (Heap.lt_size e) I.ok.above)
  have neC : ∀ b o, X.s_0.heap.get? b = some o → b ∉ X.ex → b ∉ ch := fun b o e hx hb => by
    rcases (hch b hb).1 with z | z
    · exact hx z
    · exact absurd (Nat.lt_of_lt_of_le (Heap.lt_size e) z) (Nat.lt_irrefl _)
  have cellK : ∀ x c, X.env.cells.lookup x = some c → ∀ v, s.heap.IsCell c v → h'.IsCell c v := fun x c e v ⟨o, ho, hd⟩ => by
    have nch : c ∉ ch := fun z => (hch c z).2.2.1 x c e rfl
    by_cases hc : c ∈ X.fs
    · obtain ⟨sl, q⟩ := slot c o (I.cne x c e) hc nch ho (I.freeC x c e)
      exact ⟨_, q, hd⟩
    · exact ⟨o, keep c o (I.cne x c e) hc nch ho (I.freeC x c e), hd⟩
  refine ⟨I.ok, I.os, hg, ⟨fun b o e n hb hx => ?_, fun b o e n hb hx => ?_, fun b o e n hx => ?_, fun b o e hx => ?_, fun b xs e => tups b xs (I.base.tups b xs e), fun b o xs e => frzs b o xs (I.base.frzs b o xs e), fun b ps e => ?_⟩, ?_, fun x c e => ?_, ?_, fun x c e => ?_, fun p hp => ?_, hok, I.len⟩
  · exact keep b o (neL b o e) hb (neC b o e hx) (I.base.keep b o e n hb hx) (I.base.free b o e n hx)
  · obtain ⟨sl, e1⟩ := I.base.slot b o e n hb hx
    obtain ⟨sl', e2⟩ := slot b _ (neL b o e) hb (neC b o e hx) e1 (I.base.free b o e n hx)
    exact ⟨sl', e2⟩
  · obtain ⟨o', e1⟩ := I.base.there b o e hx
    exact free b o' (neC b o e hx) e1 (I.base.free b o e n hx)
  · obtain ⟨o', e1⟩ := I.base.there b o e hx
    exact there b o' (neC b o e hx) e1
  · obtain ⟨m1, e1⟩ := I.base.tbls b ps e
    obtain ⟨m2, e2⟩ := tbls b _ e1
    exact ⟨m1 ++ m2, by rw [e2, Array.append_assoc]⟩
  · obtain ⟨m, hn, hl⟩ := I.loc
    refine ⟨m, ns m hn, fun i x v e1 e2 e3 => ?_⟩
    obtain ⟨u, r, l⟩ := hl i x v e1 e2 e3
    refine ⟨u, r, ?_⟩
    rcases l with l | ⟨k, c, e, z⟩
    · exact .inl l
    · exact .inr ⟨k, c, e, cellK x c e _ z⟩
  · obtain ⟨v, z⟩ := I.cell x c e
    exact ⟨v, cellK x c e v z⟩
  · obtain ⟨m, ⟨o, _, _, ho, _⟩, _⟩ := I.loc
    exact free _ o (fun z => (hch _ z).2.1 rfl) ho I.free
  · obtain ⟨v, o, ho, hd⟩ := I.cell x c e
    exact free c o (fun z => (hch c z).2.2.1 x c e rfl) ho (I.freeC x c e)
  · obtain ⟨e, n, ne, nf, d⟩ := I.pin p hp
    have nch : p.1 ∉ ch := fun z => (hch p.1 z).2.2.2 p hp rfl
    exact ⟨keep p.1 p.2 ne nf nch e n, free p.1 p.2 nch e n, ne, nf, d⟩
/-- .. where the frame's own object is kept too -/
theorem Inv.un {t' : Nat} (I : Inv X pins σ H s) (u : Un X.fs [] H H' s.heap h') (hok : HOk X.prog X.w H' h') : Inv X pins σ H' { s with heap := h', toks := t' } := by
  obtain ⟨m, ⟨o, es, ep, ho, r⟩, _⟩ := id I.loc
  obtain ⟨sl, hL⟩ := u.any ho I.free (by simp)
  exact I.step (g' := s.gens) (d' := s.drawn) (ch := []) (fun _ z => nomatch z) (fun b o _ hb _ e n => u.keep b o e n hb (by simp)) (fun b o _ hb _ e n => u.slot b o e n hb (by simp)) (fun b o _ e n => u.free b o e n (by simp)) (fun b o _ e => u.there b o e (by simp)) u.tups u.frzs u.tbls (fun m' hm => by
    obtain ⟨o', es', ep', ho', r'⟩ := hm
    rw [ho] at ho'; cases ho'
    exact ⟨_, es', ep', hL, r'⟩) hok I.bare
/-- behind a call (or a comprehension's block): the slots of this frame may have changed too, the records at ch may have turned -/
theorem Inv.call {g' : Array GenState} {t' : Nat} {d' : Drawn} {ch : List Addr} (I : Inv X pins σ H s) (u : Un (frs X.stack) ch H H' s.heap h') (hok : HOk X.prog X.w H' h') (hg : AllBare g')
    (hch : ∀ b ∈ ch, (b ∈ X.ex ∨ X.s_0.heap.objs.size ≤ b) ∧ b ≠ X.env.locals ∧ (∀ x c, X.env.cells.lookup x = some c → c ≠ b) ∧ ∀ p ∈ X.pn ++ pins, p.1 ≠ b) :
    Inv X pins σ H' { s with heap := h', gens := g', drawn := d', toks := t' } := by
  obtain ⟨m, ⟨o, es, ep, ho, r⟩, _⟩ := id I.loc
  obtain ⟨sl, hL⟩ := u.any ho I.free fun z => (hch _ z).2.1 rfl
  exact I.step (ch := ch) hch (fun b o hL hb hc e n => u.keep b o e n (fun z => (List.mem_cons.mp (I.stkSub b z)).elim hL hb) hc) (fun b o _ _ hc e n => u.any e n hc) (fun b o hc e n => u.free b o e n hc) (fun b o hc e => u.there b o e hc) u.tups u.frzs u.tbls (fun m' hm => by
    obtain ⟨o', es', ep', ho', r'⟩ := hm
    rw [ho] at ho'; cases ho'
    exact ⟨_, es', ep', hL, r'⟩) hok hg
/-- an untracked record of ours (an iterator) has turned -/
theorem Inv.turned {t' : Nat} {it : Addr} (I : Inv X pins σ H s) (k : ∀ b o, b ≠ it → s.heap.get? b = some o → h'.get? b = some o) (hn : H it = none) (hL : it ≠ X.env.locals)
    (h1 : it ∈ X.ex ∨ X.s_0.heap.objs.size ≤ it) (h2 : ∀ x c, X.env.cells.lookup x = some c → c ≠ it) (h3 : ∀ p ∈ X.pn ++ pins, p.1 ≠ it) : Inv X pins σ H { s with heap := h', toks := t' } := by
  have nit : ∀ b u, H b = some u → b ≠ it := fun b u e z => by rw [z, hn] at e; cases e
  refine I.step (g' := s.gens) (d' := s.drawn) (ch := [it]) (fun b hb => ?_) (fun b o _ _ hc e _ => k b o (fun z => hc (by simp [z])) e) (fun b o _ _ hc e _ => ⟨o.slots, k b o (fun z => hc (by simp [z])) e⟩) (fun _ _ _ _ n => n)
    (fun b o hc e => ⟨o, k b o (fun z => hc (by simp [z])) e⟩) (fun _ _ e => e) (fun _ _ _ e => e) (fun b ps e => ⟨#[], by rw [e]; simp⟩) (fun m hm => ?_) (fun b u e => ?_) I.bare
  · have e : b = it := by simpa using hb
    subst e
    exact ⟨h1, hL, h2, h3⟩
  · obtain ⟨o, es, ep, ho, r⟩ := hm
    exact ⟨o, es, ep, k _ o (Ne.symm hL) ho, r⟩
  · refine (I.hok b u e).stay (fun c v hc q => k c v ?_ q) (fun _ q => q) fun _ _ q => q
    rcases hc with z | z
    · rw [z]; exact nit b u e
    · exact nit c _ z
theorem Inv.tok (I : Inv X pins σ H s) (t : Nat) : Inv X pins σ H { s with toks := t } := I.un (h' := s.heap) (t' := t) Un.refl I.hok
/-- all objects kept -/
theorem Inv.kept {t' : Nat} (I : Inv X pins σ H s) (k : ∀ b u, s.heap.get? b = some u → h'.get? b = some u) : Inv X pins σ H { s with heap := h', toks := t' } := I.un (Un.kept k) (I.hok.kept k)
/-- a new object laid and tracked -/
theorem Inv.laid {a : Addr} {o : HO} {t' : Nat} (I : Inv X pins σ H s) (k : ∀ b u, s.heap.get? b = some u → h'.get? b = some u) (hp : s.heap.objs.size ≤ a) (new : ObjOk X.prog X.w (upd H a o) h' a o) :
    Inv X pins σ (upd H a o) { s with heap := h', toks := t' } := I.un (Un.laid k hp (I.hok.fresh hp)) (I.hok.laid k hp new)
/-- an object written -/
theorem Inv.write {x e : Addr} {o : HO} {t' : Nat} (I : Inv X pins σ H s) (mu : Mut (H x)) (he : e = x ∨ H e = some (.own x)) (k : ∀ b u, b ≠ e → s.heap.get? b = some u → h'.get? b = some u) (heo : ∃ u, h'.get? e = some u)
    (new : ObjOk X.prog X.w (upd H x o) h' x o) : Inv X pins σ (upd H x o) { s with heap := h', toks := t' } := I.un (Un.write mu he k heo) (I.hok.write mu he k heo new)
/-- forgetting slots, pins -/
theorem Inv.weak {σ' : List (Option V)} (I : Inv X pins σ H s) (hl : σ'.length = σ.length) (w : ∀ (i : Nat) v, σ'[i]? = some (some v) → σ[i]? = some (some v)) : Inv X pins σ' H s :=
  ⟨I.ok, I.os, I.bare, I.base, let ⟨m, hn, hl'⟩ := I.loc; ⟨m, hn, fun i x v e1 e2 e3 => hl' i x v e1 (w i v e2) e3⟩, I.cell, I.free, I.freeC, I.pin, I.hok, hl.trans I.len⟩
theorem Inv.pins_of {pins' : List (Addr × Obj)} (I : Inv X pins σ H s) (h : ∀ p ∈ pins', s.heap.get? p.1 = some p.2 ∧ H p.1 = none ∧ p.1 ≠ X.env.locals ∧ p.1 ∉ X.fs ∧ ∀ v, p.2.data ≠ .cell v) : Inv X pins' σ H s :=
  ⟨I.ok, I.os, I.bare, I.base, I.loc, I.cell, I.free, I.freeC, fun p hp => (List.mem_append.mp hp).elim (fun z => I.pin p (List.mem_append_left _ z)) (h p), I.hok, I.len⟩

theorem nodup_ix {N : List Str} (hN : N.Nodup) {i j : Nat} {x : Str} (a : N[i]? = some x) (b : N[j]? = some x) : i = j := by
  obtain ⟨h1, e1⟩ := List.getElem?_eq_some_iff.mp a
  obtain ⟨h2, e2⟩ := List.getElem?_eq_some_iff.mp b
  exact (List.getElem_inj hN).mp (e1.trans e2.symm)

/-- a name is stored; what changed -/
theorem store_ok2 {M : Model} {A : Around} {E : Value → Shared → Prop} {i : Nat} {x : Str} {v : V} {u : Value} {Q : Unit → Shared → Prop} (I : Inv X pins σ H s) (hN : X.N.Nodup) (hi : X.N[i]? = some x) (hx : Loc X.env.scope x) (r : RelV v u)
    (h : ∀ s', Inv X pins (σ.set i (some v)) H s' → (∃ a, Heap.SameBut a s.heap s'.heap ∧ (a = X.env.locals ∨ X.env.cells.lookup x = some a)) → Q () s') (hf : X.fn x = true ∨ X.env.scope.names.lookup x = some .local := by first | exact .inl rfl | exact .inr rfl | assumption) : wpAny M A (storeName X.env x u) Q E s := by
  obtain ⟨m, hn, hl⟩ := id I.loc
  have hcls : (X.env.scope.kind == .class || (X.env.scope.kind == .module && X.env.locals != X.env.globals)) = false := by rw [I.ok.kind]; rfl
  have hiσ : i < σ.length := by rw [I.len]; exact (List.getElem?_eq_some_iff.mp hi).1
  have cne := I.cne
  have tracked : ∀ {a : Addr} {h' : Heap}, (∃ o, s.heap.get? a = some o ∧ H a = none) → Heap.SameBut a s.heap h' → HOk X.prog X.w H h' := fun {a h'} ha hs b ob e => by
    obtain ⟨_, _, hfree⟩ := ha
    refine (I.hok b ob e).stay (fun c w' hc q => (hs.2 c ?_).trans q) (fun _ q => q) fun _ _ q => q
    rintro rfl
    rcases hc with rfl | hc
    · rw [hfree] at e; cases e
    · rw [hfree] at hc; cases hc
  rcases hx with hk | hk
  · refine wpAny_storeName_local hk hn (fun h' hn' hs => ?_) hcls
    obtain ⟨oL, _, _, hoL, _⟩ := id hn
    refine h _ ⟨I.ok, I.os, I.bare, ⟨fun b o e n hb hx => ?_, fun b o e n hb hx => ?_, I.base.free, fun b o e hx => ?_, I.base.tups, I.base.frzs, I.base.tbls⟩, ⟨_, hn', fun j y v' e1 e2 e3 => ?_⟩, fun y c e => ?_, I.free, I.freeC, fun p hp => ?_, tracked ⟨oL, hoL, I.free⟩ hs, by simpa using I.len⟩ ⟨_, hs, .inl rfl⟩
    · exact (hs.2 b (Nat.ne_of_lt (Nat.lt_of_lt_of_le (Heap.lt_size e) I.ok.above))).trans (I.base.keep b o e n hb hx)
    · obtain ⟨sl, e1⟩ := I.base.slot b o e n hb hx
      exact ⟨sl, (hs.2 b (Nat.ne_of_lt (Nat.lt_of_lt_of_le (Heap.lt_size e) I.ok.above))).trans e1⟩
    · obtain ⟨o', e1⟩ := I.base.there b o e hx
      exact ⟨o', (hs.2 b (Nat.ne_of_lt (Nat.lt_of_lt_of_le (Heap.lt_size e) I.ok.above))).trans e1⟩
    · by_cases hj : j = i
      · subst hj
        rw [hi] at e1; cases e1
        rw [List.getElem?_set_self hiσ] at e2
        cases e2
        exact ⟨u, r, .inl ⟨hk, by simp⟩⟩
      · rw [List.getElem?_set_ne (Ne.symm hj)] at e2
        obtain ⟨u', r', q⟩ := hl j y v' e1 e2 e3
        refine ⟨u', r', ?_⟩
        rcases q with ⟨k, e⟩ | ⟨k, c, e, z⟩
        · refine .inl ⟨k, ?_⟩
          have : y ≠ x := fun e => hj (nodup_ix hN e1 (e ▸ hi))
          simp [this, e]
        · exact .inr ⟨k, c, e, z.sameBut hs (cne y c e)⟩
    · obtain ⟨w', z⟩ := I.cell y c e
      exact ⟨w', z.sameBut hs (cne y c e)⟩
    · obtain ⟨e, n, ne, nf, d⟩ := I.pin p hp
      exact ⟨(hs.2 p.1 ne).trans e, n, ne, nf, d⟩
  · have hfn : X.fn x = true := by
      rcases hf with z | z
      · exact z
      · rw [z] at hk; cases hk
    obtain ⟨c, hc⟩ := I.ok.has x (.inl hk)
    obtain ⟨w', z⟩ := I.cell x c hc
    refine wpAny_storeName_cell I.ok.kind hk hc z (fun h' hc' hs => ?_)
    obtain ⟨oc, hoc, hocd⟩ := id z
    refine h { s with heap := h' } ⟨I.ok, I.os, I.bare, ⟨fun b o e n hb hx => ?_, fun b o e n hb hx => ?_, I.base.free, fun b o e hx => ?_, I.base.tups, I.base.frzs, I.base.tbls⟩, ⟨m, hn.sameBut hs (Ne.symm (cne x c hc)), fun j y v' e1 e2 e3 => ?_⟩, fun y c' e => ?_, I.free, I.freeC, fun p hp => ?_, tracked ⟨oc, hoc, I.freeC x c hc⟩ hs, by simpa using I.len⟩ ⟨c, hs, .inr hc⟩
    · exact (hs.2 b (Nat.ne_of_lt (Nat.lt_of_lt_of_le (Heap.lt_size e) (I.ok.cab x c hfn hc)))).trans (I.base.keep b o e n hb hx)
    · obtain ⟨sl, e1⟩ := I.base.slot b o e n hb hx
      exact ⟨sl, (hs.2 b (Nat.ne_of_lt (Nat.lt_of_lt_of_le (Heap.lt_size e) (I.ok.cab x c hfn hc)))).trans e1⟩
    · obtain ⟨o', e1⟩ := I.base.there b o e hx
      exact ⟨o', (hs.2 b (Nat.ne_of_lt (Nat.lt_of_lt_of_le (Heap.lt_size e) (I.ok.cab x c hfn hc)))).trans e1⟩
    · by_cases hj : j = i
      · subst hj
        rw [hi] at e1; cases e1
        rw [List.getElem?_set_self hiσ] at e2
        cases e2
        exact ⟨u, r, .inr ⟨.inl hk, c, hc, hc'⟩⟩
      · rw [List.getElem?_set_ne (Ne.symm hj)] at e2
        obtain ⟨u', r', q⟩ := hl j y v' e1 e2 e3
        refine ⟨u', r', ?_⟩
        rcases q with q | ⟨k, c', e, z'⟩
        · exact .inl q
        · refine .inr ⟨k, c', e, z'.sameBut hs ?_⟩
          rintro rfl
          exact hj (nodup_ix hN e1 (I.ok.inj _ _ _ e hc ▸ hi))
    · by_cases hcc : c' = c
      · subst hcc; exact ⟨_, hc'⟩
      · obtain ⟨w2, z2⟩ := I.cell y c' e
        exact ⟨w2, z2.sameBut hs hcc⟩
    · obtain ⟨e, n, ne, nf, d⟩ := I.pin p hp
      refine ⟨(hs.2 p.1 ?_).trans e, n, ne, nf, d⟩
      intro q
      rw [q, hoc] at e
      have q' : oc = p.2 := Option.some.inj e
      exact d w' (by rw [← q']; exact hocd)
theorem store_ok {M : Model} {A : Around} {E : Value → Shared → Prop} {i : Nat} {x : Str} {v : V} {u : Value} {Q : Unit → Shared → Prop} (I : Inv X pins σ H s) (hN : X.N.Nodup) (hi : X.N[i]? = some x) (hx : Loc X.env.scope x) (r : RelV v u)
    (h : ∀ s', Inv X pins (σ.set i (some v)) H s' → Q () s') (hf : X.fn x = true ∨ X.env.scope.names.lookup x = some .local := by first | exact .inl rfl | exact .inr rfl | assumption) : wpAny M A (storeName X.env x u) Q E s :=
  store_ok2 I hN hi hx r (fun s' I' _ => h s' I') hf
/-- behind a call or a block, the state as it is -/
theorem Inv.call' {s' : Shared} {ch : List Addr} (I : Inv X pins σ H s) (ho : s'.os = s.os) (u : Un (frs X.stack) ch H H' s.heap s'.heap) (hok : HOk X.prog X.w H' s'.heap) (hg : AllBare s'.gens)
    (hch : ∀ b ∈ ch, (b ∈ X.ex ∨ X.s_0.heap.objs.size ≤ b) ∧ b ≠ X.env.locals ∧ (∀ x c, X.env.cells.lookup x = some c → c ≠ b) ∧ ∀ p ∈ X.pn ++ pins, p.1 ≠ b) : Inv X pins σ H' s' := by
  obtain ⟨h', g', d', t', o'⟩ := s'
  have e : o' = s.os := ho
  subst e
  exact I.call (g' := g') (t' := t') (d' := d') u hok hg hch
end

/-! ### the judgements -/
/-- an exception: its class, its own dict's address (where it has one), the abstract heap behind it -/
abbrev XK := Value → Option Addr → Hp → Prop
abbrev St := List (Option V)
abbrev VK := V → Hp → Prop
/-- an expression's reading; a test's; an argument list's -/
abbrev TE := St → Hp → VK → Prop
abbrev TT := St → Hp → (Bool → Hp → Prop) → Prop
abbrev TA := St → Hp → (List V → Hp → Prop) → Prop
/-- what is wanted behind a statement -/
structure Ends where
  nx : St → Hp → Prop
  rt : VK
  bk : St → Hp → Prop := fun _ _ => False
  ct : St → Hp → Prop := fun _ _ => False
abbrev TS := Ends → St → Hp → Prop

def EP (X : Cx) (pins : List (Addr × Obj)) (σ : St) (Q : VK) (u : Value) (s' : Shared) : Prop := ∃ v H', Inv X pins σ H' s' ∧ RelV v u ∧ Q v H'
def TP (X : Cx) (pins : List (Addr × Obj)) (σ : St) (Q : Bool → Hp → Prop) (b : Bool) (s' : Shared) : Prop := ∃ H', Inv X pins σ H' s' ∧ Q b H'
def AP (X : Cx) (pins : List (Addr × Obj)) (σ : St) (Q : List V → Hp → Prop) (us : List Value) (s' : Shared) : Prop := ∃ vs H', Inv X pins σ H' s' ∧ Vals vs us ∧ Q vs H'
def SP (X : Cx) (pins : List (Addr × Obj)) (D : Ends) (f : Flow) (s' : Shared) : Prop :=
  match f with
  | .next => ∃ σ' H', Inv X pins σ' H' s' ∧ D.nx σ' H'
  | .brk => ∃ σ' H', Inv X pins σ' H' s' ∧ D.bk σ' H'
  | .cont => ∃ σ' H', Inv X pins σ' H' s' ∧ D.ct σ' H'
  | .ret u => ∃ v σ' H', Inv X pins σ' H' s' ∧ RelV v u ∧ D.rt v H'

def PE (X : Cx) (e : Expr) (t : TE) : Prop :=
  ∀ (pins : List (Addr × Obj)) (s : Shared) (σ : St) (H : Hp) (Q : VK), Inv X pins σ H s → t σ H Q → wpAny (model X.prog X.w) X.A (eval e X.env) (EP X pins σ Q) X.xe s
def PT (X : Cx) (e : Expr) (t : TT) : Prop :=
  ∀ (pins : List (Addr × Obj)) (s : Shared) (σ : St) (H : Hp) (Q : Bool → Hp → Prop), Inv X pins σ H s → t σ H Q → wpAny (model X.prog X.w) X.A (isTrue e X.env (eval e X.env)) (TP X pins σ Q) X.xe s
/-- a test whatever its 'whole' is (and, or) -/
def PW (X : Cx) (e : Expr) (t : TT) : Prop :=
  ∀ (whole : Sem Value) (pins : List (Addr × Obj)) (s : Shared) (σ : St) (H : Hp) (Q : Bool → Hp → Prop), Inv X pins σ H s → t σ H Q → wpAny (model X.prog X.w) X.A (isTrue e X.env whole) (TP X pins σ Q) X.xe s
theorem PW.pt {X : Cx} {e : Expr} {t : TT} (h : PW X e t) : PT X e t := h _
/-- an argument list (no star), from the left -/
def PA (X : Cx) (es : List Expr) (t : TA) : Prop :=
  ∀ (pos : Pos) (pins : List (Addr × Obj)) (s : Shared) (σ : St) (H : Hp) (Q : List V → Hp → Prop), Inv X pins σ H s → t σ H Q → wpAny (model X.prog X.w) X.A (spliced (backTo pos (starEach es X.env))) (AP X pins σ Q) X.xe s
def PS (X : Cx) (st : Stmt) (t : TS) : Prop :=
  ∀ (pins : List (Addr × Obj)) (s : Shared) (σ : St) (H : Hp) (D : Ends), Inv X pins σ H s → t D σ H → wpAny (model X.prog X.w) X.A (exec st X.env) (SP X pins D) X.xe s
def PSs (X : Cx) (st : List Stmt) (t : TS) : Prop :=
  ∀ (pins : List (Addr × Obj)) (s : Shared) (σ : St) (H : Hp) (D : Ends), Inv X pins σ H s → t D σ H → wpAny (model X.prog X.w) X.A (execs st X.env) (SP X pins D) X.xe s
/-- weaken the end -/
theorem thn {α : Type} {t : Sem α} {Q Q' : α → Shared → Prop} {M : Model} {A : Around} {E : Value → Shared → Prop} {s : Shared} (h : wpAny M A t Q E s) (hQ : ∀ a s, Q a s → Q' a s) : wpAny M A t Q' E s := wpAny_mono h hQ fun _ _ x => x
end L2

namespace L2
open PySem PySem.Spec PyProof.Rows
section
variable {X : Cx}

/-- two expressions in a row -/
theorem bin {a b : Expr} {ta tb : TE} (ha : PE X a ta) (hb : PE X b tb) {pins : List (Addr × Obj)} {s : Shared} {σ : St} {H : Hp} {R : V → V → Hp → Prop} (I : Inv X pins σ H s) (h : ta σ H fun x H1 => tb σ H1 fun y H2 => R x y H2)
    {α : Type} {Q : α → Shared → Prop} {f : Value → Value → Sem α}
    (hf : ∀ v u s2 x y H2, Inv X pins σ H2 s2 → RelV x v → RelV y u → R x y H2 → wpAny (model X.prog X.w) X.A (f v u) Q X.xe s2) :
    wpAny (model X.prog X.w) X.A (eval a X.env) (fun v s₁ => wpAny (model X.prog X.w) X.A (eval b X.env) (fun u s₂ => wpAny (model X.prog X.w) X.A (f v u) Q X.xe s₂) X.xe s₁) X.xe s := by
  refine thn (ha pins s σ H _ I h) fun v s1 ⟨x, H1, I1, r1, q1⟩ => ?_
  refine thn (hb pins s1 σ H1 _ I1 q1) fun u s2 ⟨y, H2, I2, r2, q2⟩ => ?_
  exact hf v u s2 x y H2 I2 r1 r2 q2

/-! ### names and constants -/
def tVar (i : Nat) : TE := fun σ H Q => ∃ v, σ[i]? = some (some v) ∧ Q v H
def tC (v : V) : TE := fun _ H Q => Q v H
theorem pe_var {i : Nat} {x : Str} {pos : Pos} (hN : X.N[i]? = some x) (hv : Vis X.env.scope x) (hd : (x == ("__debug__" : Str)) = false := by decide) (hcd : (x == ("__classdict__" : Str)) = false := by decide) : PE X (.Name x pos) (tVar i) := by
  intro pins s σ H Q I h
  obtain ⟨v, e, h⟩ := h
  obtain ⟨m, hn, hl⟩ := I.loc
  obtain ⟨u, r, l⟩ := hl i x v hN e hv
  have fin : EP X pins σ Q u s := ⟨v, H, I, r, h⟩
  rcases l with ⟨hk, hm⟩ | ⟨hk, c, hc, hcell⟩
  · exact wpAny_Name (wpAny_loadName_local I.ok.kind hk hn hm fin) hd
  · rcases hk with hk | hk
    · exact wpAny_Name (wpAny_loadName_cell I.ok.kind hk hc hcell fin) hd
    · exact wpAny_Name (wpAny_loadName_free I.ok.kind hk hc hcell fin hcd) hd
theorem pe_int {i j pos} : PE X (.Constant (.int i) j pos) (tC (.int i)) := fun _ _ _ H _ I h => wpAny_Constant_int ⟨.int i, H, I.tok _, ⟨_, rfl⟩, h⟩
theorem pe_bl {b j pos} : PE X (.Constant (.bool b) j pos) (tC (.bl b)) := fun _ _ _ H _ I h => Constant_bool ⟨.bl b, H, I, rfl, h⟩
theorem pe_non {j pos} : PE X (.Constant .none j pos) (tC .non) := fun _ _ _ H _ I h => Constant_none ⟨.non, H, I, rfl, h⟩
theorem pe_str {x j pos} : PE X (.Constant (.str x) j pos) (tC (.str x)) := fun _ _ _ H _ I h => Calls.Constant_str ⟨.str x, H, I.tok _, ⟨_, rfl⟩, h⟩

/-- a global name of the def -/
def Gl (X : Cx) (x : Str) : Prop := X.env.kindOf x = some .globalImplicit
theorem ld_glob {E : Value → Shared → Prop} {pins : List (Addr × Obj)} {s : Shared} {σ : St} {H : Hp} {x : Str} {u : Value} {pos : Pos} {Q : Value → Shared → Prop} (I : Inv X pins σ H s) (hg : Gl X x) (hm : X.mg x = some u) (h : Q u s)
    (hd : (x == ("__debug__" : Str)) = false := by decide) : wpAny (model X.prog X.w) X.A (eval (.Name x pos) X.env) Q E s :=
  Calls.Name_function_global I.ok.kind hg (Calls.loadGlobal_global (by rw [I.ok.glob]; exact I.mod.glob.keeps I.bk) hm h) hd
theorem ld_blt {E : Value → Shared → Prop} {pins : List (Addr × Obj)} {s : Shared} {σ : St} {H : Hp} {x : Str} {u : Value} {pos : Pos} {Q : Value → Shared → Prop} (I : Inv X pins σ H s) (hg : Gl X x) (hm : X.mg x = none) (hv : bootBuiltins x = some u) (h : Q u s)
    (hn : x ≠ "__name__" := by decide) (hd : (x == ("__debug__" : Str)) = false := by decide) : wpAny (model X.prog X.w) X.A (eval (.Name x pos) X.env) Q E s := by
  obtain ⟨mb, h1, h2⟩ := I.mod.blt
  exact Calls.Name_function_global I.ok.kind hg (Calls.loadGlobal_builtin (by rw [I.ok.glob]; exact I.mod.glob.keeps I.bk) hm (by rw [I.ok.blt]; exact h1.keeps I.bk) ((h2 x hn).trans hv) h) hd
/-- a module's constant, a class, a function, as a value -/
theorem pe_glob {x : Str} {v : V} {u : Value} {pos : Pos} (hg : Gl X x) (hm : X.mg x = some u) (r : RelV v u) (hd : (x == ("__debug__" : Str)) = false := by decide) : PE X (.Name x pos) (tC v) :=
  fun _ _ _ H _ I h => ld_glob I hg hm ⟨v, H, I, r, h⟩ hd
theorem pe_bltn {x : Str} {v : V} {u : Value} {pos : Pos} (hg : Gl X x) (hm : X.mg x = none) (hv : bootBuiltins x = some u) (r : RelV v u) (hn : x ≠ "__name__" := by decide) (hd : (x == ("__debug__" : Str)) = false := by decide) : PE X (.Name x pos) (tC v) :=
  fun _ _ _ H _ I h => ld_blt I hg hm hv ⟨v, H, I, r, h⟩ hn hd

/-! ### arithmetic -/
/-- two ints -/
def t2I (ta tb : TE) (k : Int → Int → Hp → Prop) : St → Hp → Prop := fun σ H => ta σ H fun x H1 => tb σ H1 fun y H2 => ∃ i j, x = .int i ∧ y = .int j ∧ k i j H2
def tAdd (ta tb : TE) : TE := fun σ H Q => t2I ta tb (fun i j H2 => Q (.int (i + j)) H2) σ H
def tSub (ta tb : TE) : TE := fun σ H Q => t2I ta tb (fun i j H2 => Q (.int (i - j)) H2) σ H
/-- the left factor below 2^64 -/
def tMul (ta tb : TE) : TE := fun σ H Q => t2I ta tb (fun i j H2 => (-(2 ^ 64) < i ∧ i < 2 ^ 64) ∧ Q (.int (i * j)) H2) σ H
variable {a b : Expr} {ta tb : TE} {pos : Pos}
theorem pe_add (ha : PE X a ta) (hb : PE X b tb) : PE X (.BinOp a .Add b pos) (tAdd ta tb) := by
  intro pins s σ H Q I h
  refine wpAny_BinOp (bin ha hb I h fun v u s2 x y H2 I2 rx ry q => ?_)
  obtain ⟨i, j, rfl, rfl, q⟩ := q
  obtain ⟨t, rfl⟩ := rx
  obtain ⟨t', rfl⟩ := ry
  exact add_int ⟨.int _, H2, I2.tok _, ⟨_, rfl⟩, q⟩
theorem pe_sub (ha : PE X a ta) (hb : PE X b tb) : PE X (.BinOp a .Sub b pos) (tSub ta tb) := by
  intro pins s σ H Q I h
  refine wpAny_BinOp (bin ha hb I h fun v u s2 x y H2 I2 rx ry q => ?_)
  obtain ⟨i, j, rfl, rfl, q⟩ := q
  obtain ⟨t, rfl⟩ := rx
  obtain ⟨t', rfl⟩ := ry
  exact sub_int ⟨.int _, H2, I2.tok _, ⟨_, rfl⟩, q⟩
theorem pe_mul (ha : PE X a ta) (hb : PE X b tb) : PE X (.BinOp a .Mult b pos) (tMul ta tb) := by
  intro pins s σ H Q I h
  refine wpAny_BinOp (bin ha hb I h fun v u s2 x y H2 I2 rx ry q => ?_)
  obtain ⟨i, j, rfl, rfl, ⟨q1, q2⟩, q⟩ := q
  obtain ⟨t, rfl⟩ := rx
  obtain ⟨t', rfl⟩ := ry
  exact mul_int ⟨.int _, H2, I2.tok _, ⟨_, rfl⟩, q⟩ (.of_left (intBits_le_64 q1 q2))

/-! ### comparisons -/
def PC (X : Cx) (op : CmpOp) (a b : Expr) (t : TE) : Prop :=
  ∀ (pins : List (Addr × Obj)) (s : Shared) (σ : St) (H : Hp) (Q : VK), Inv X pins σ H s → t σ H Q →
    wpAny (model X.prog X.w) X.A (eval a X.env) (fun v s₁ => wpAny (model X.prog X.w) X.A (eval b X.env) (fun u s₂ => wpAny (model X.prog X.w) X.A (compareOp op v u) (EP X pins σ Q) X.xe s₂) X.xe s₁) X.xe s
theorem nobehind (b : Expr) {op : CmpOp} (h : op ≠ .In) (h2 : op ≠ .NotIn) : behindInMarks op b = false := by
  have e1 : (op == CmpOp.In) = false := by cases op <;> first | rfl | exact absurd rfl h
  have e2 : (op == CmpOp.NotIn) = false := by cases op <;> first | rfl | exact absurd rfl h2
  cases b <;> simp [behindInMarks, e1, e2]
def tCmp (p : Int → Int → Bool) (ta tb : TE) : TE := fun σ H Q => t2I ta tb (fun i j H2 => Q (.bl (p i j)) H2) σ H
abbrev tLt : TE → TE → TE := tCmp fun i j => decide (i < j)
abbrev tLe : TE → TE → TE := tCmp fun i j => decide (i ≤ j)
abbrev tGt : TE → TE → TE := tCmp fun i j => decide (j < i)
abbrev tGe : TE → TE → TE := tCmp fun i j => decide (j ≤ i)
abbrev tEqI : TE → TE → TE := tCmp fun i j => decide (i = j)
abbrev tNeI : TE → TE → TE := tCmp fun i j => !decide (i = j)
/-- a comparison of two ints, by its rule -/
theorem pc_int {op : CmpOp} {p : Int → Int → Bool} (ha : PE X a ta) (hb : PE X b tb)
    (rule : ∀ (i j : Int) (t u : Tok) (Q : Value → Shared → Prop) (s : Shared), Q (.bool (p i j)) s → wpAny (model X.prog X.w) X.A (compareOp op (.int i t) (.int j u)) Q X.xe s) : PC X op a b (tCmp p ta tb) := by
  intro pins s σ H Q I h
  refine bin ha hb I h fun v u s2 x y H2 I2 rx ry q => ?_
  obtain ⟨i, j, rfl, rfl, q⟩ := q
  obtain ⟨t, rfl⟩ := rx
  obtain ⟨t', rfl⟩ := ry
  exact rule i j t t' _ s2 ⟨.bl _, H2, I2, rfl, q⟩
theorem pc_lt (ha : PE X a ta) (hb : PE X b tb) : PC X .Lt a b (tLt ta tb) := pc_int ha hb fun _ _ _ _ _ _ h => lt_int h
theorem pc_le (ha : PE X a ta) (hb : PE X b tb) : PC X .LtE a b (tLe ta tb) := pc_int ha hb fun _ _ _ _ _ _ h => le_int h
theorem pc_gt (ha : PE X a ta) (hb : PE X b tb) : PC X .Gt a b (tGt ta tb) := pc_int ha hb fun _ _ _ _ _ _ h => gt_int h
theorem pc_ge (ha : PE X a ta) (hb : PE X b tb) : PC X .GtE a b (tGe ta tb) := pc_int ha hb fun _ _ _ _ _ _ h => ge_int h
theorem pc_eqI (ha : PE X a ta) (hb : PE X b tb) : PC X .Eq a b (tEqI ta tb) := pc_int ha hb fun _ _ _ _ _ _ h => eq_int (by rw [Bool.beq_eq_decide_eq]; exact h)
theorem pc_neI (ha : PE X a ta) (hb : PE X b tb) : PC X .NotEq a b (tNeI ta tb) := pc_int ha hb fun _ _ _ _ _ _ h => ne_int (by rw [bne, Bool.beq_eq_decide_eq]; exact h)
/-- is None -/
def tIsN (ta : TE) : TE := fun σ H Q => ta σ H fun x H1 => Q (.bl (decide (x = .non))) H1
def tNotN (ta : TE) : TE := fun σ H Q => ta σ H fun x H1 => Q (.bl (!decide (x = .non))) H1
theorem RelV.none_iff {x : V} {v : Value} (r : RelV x v) : (v == Value.none) = decide (x = .non) := by
  cases x with
  | non => cases r; rfl
  | bl _ => cases r; rfl
  | int _ => obtain ⟨t, rfl⟩ := r; rfl
  | str _ => obtain ⟨t, rfl⟩ := r; rfl
  | byt _ => obtain ⟨t, rfl⟩ := r; rfl
  | flt _ => obtain ⟨t, rfl⟩ := r; rfl
  | ref _ => cases r; rfl
  | ty _ => cases r; rfl
theorem pc_isN {j pos'} (ha : PE X a ta) : PC X .Is a (.Constant .none j pos') (tIsN ta) := by
  intro pins s σ H Q I h
  refine thn (ha pins s σ H _ I h) fun v s1 ⟨x, H1, I1, r1, q1⟩ => ?_
  exact Constant_none (is_none_gen ⟨.bl _, H1, I1, by rw [r1.none_iff]; rfl, q1⟩)
theorem pc_notN {j pos'} (ha : PE X a ta) : PC X .IsNot a (.Constant .none j pos') (tNotN ta) := by
  intro pins s σ H Q I h
  refine thn (ha pins s σ H _ I h) fun v s1 ⟨x, H1, I1, r1, q1⟩ => ?_
  exact Constant_none (isnot_none_gen ⟨.bl _, H1, I1, by rw [r1.none_iff]; rfl, q1⟩)
/-- a comparison as a value, as a test -/
def tB (t : TE) : TT := fun σ H Q => t σ H fun x H1 => ∃ c, x = .bl c ∧ Q c H1
theorem pe_cmp {op : CmpOp} {t : TE} (h : PC X op a b t) (h1 : behindInMarks op b = false := by first | exact nobehind _ (by decide) (by decide) | rfl) : PE X (.Compare a [op] [b] pos) t := fun pins s σ H Q I hw => wpAny_Compare1 (h pins s σ H Q I hw) h1
theorem pt_cmp {op : CmpOp} {t : TE} (h : PC X op a b t) (h1 : behindInMarks op b = false := by first | exact nobehind _ (by decide) (by decide) | rfl) : PT X (.Compare a [op] [b] pos) (tB t) := by
  intro pins s σ H Q I hw
  refine wpAny_isTrue_Compare1 (thn (h pins s σ H _ I hw) fun v s1 h1 => thn h1 fun u s2 h2 => thn h2 fun c s3 ⟨x, H1, I1, r1, q1⟩ => ?_) h1
  obtain ⟨d, rfl, q⟩ := q1
  cases r1
  exact wpAny_truthy_bool ⟨H1, I1, q⟩
/-- an expression whose value is a bool, as a test -/
theorem pt_val {e : Expr} {t : TE} (h : PE X e t) (he : ∀ whole, isTrue e X.env whole = (do let v ← whole; standAt e.pos; holding [v] (truthy v)) := by intro _; rfl) : PT X e (tB t) := by
  intro pins s σ H Q I hw
  refine isTrue_plain (thn (h pins s σ H _ I hw) fun v s1 ⟨x, H1, I1, r1, q1⟩ => ?_) (he _)
  obtain ⟨d, rfl, q⟩ := q1
  cases r1
  exact wpAny_truthy_bool ⟨H1, I1, q⟩

/-! ### and, or, not -/
variable {tA tB' : TT} {rest : List Expr}
def tAnd (t u : TT) : TT := fun σ H Q => t σ H fun c H1 => if c = true then u σ H1 Q else Q false H1
def tOr (t u : TT) : TT := fun σ H Q => t σ H fun c H1 => if c = true then Q true H1 else u σ H1 Q
def tNot (t : TT) : TT := fun σ H Q => t σ H fun c H1 => Q (!c) H1
theorem pw_and1 (ha : PT X a tA) : PW X (.BoolOp .And [a] pos) tA := by
  intro wh pins s σ H Q I h
  refine isTrue_and (thn (ha pins s σ H Q I h) fun c s1 e => ?_)
  cases c with
  | true => exact isTrue_and_nil e
  | false => exact e
theorem pw_or1 (ha : PT X a tA) : PW X (.BoolOp .Or [a] pos) tA := by
  intro wh pins s σ H Q I h
  refine isTrue_or (thn (ha pins s σ H Q I h) fun c s1 e => ?_)
  cases c with
  | false => exact isTrue_or_nil e
  | true => exact e
theorem pw_and (ha : PT X a tA) (hb : PW X (.BoolOp .And (b :: rest) pos) tB') : PW X (.BoolOp .And (a :: b :: rest) pos) (tAnd tA tB') := by
  intro wh pins s σ H Q I h
  refine isTrue_and (thn (ha pins s σ H _ I h) fun c s1 ⟨H1, I1, q1⟩ => ?_)
  cases c with
  | true => exact hb wh pins s1 σ H1 Q I1 q1
  | false => exact ⟨H1, I1, q1⟩
theorem pw_or (ha : PT X a tA) (hb : PW X (.BoolOp .Or (b :: rest) pos) tB') : PW X (.BoolOp .Or (a :: b :: rest) pos) (tOr tA tB') := by
  intro wh pins s σ H Q I h
  refine isTrue_or (thn (ha pins s σ H _ I h) fun c s1 ⟨H1, I1, q1⟩ => ?_)
  cases c with
  | true => exact ⟨H1, I1, q1⟩
  | false => exact hb wh pins s1 σ H1 Q I1 q1
theorem pt_not (ha : PT X a tA) : PT X (.UnaryOp .Not a pos) (tNot tA) := by
  intro pins s σ H Q I h
  exact isTrue_not (ha pins s σ H (fun c H1 => Q (!c) H1) I h)
/-- .. as values (bools) -/
def tAndV (ta tb : TE) : TE := fun σ H Q => ta σ H fun x H1 => ∃ c, x = .bl c ∧ if c = true then tb σ H1 Q else Q (.bl false) H1
def tOrV (ta tb : TE) : TE := fun σ H Q => ta σ H fun x H1 => ∃ c, x = .bl c ∧ if c = true then Q (.bl true) H1 else tb σ H1 Q
def tNotV (ta : TE) : TE := fun σ H Q => ta σ H fun x H1 => ∃ c, x = .bl c ∧ Q (.bl (!c)) H1
theorem pe_one {op} {t : TE} (h : PE X a t) : PE X (.BoolOp op [a] pos) t := fun pins s σ H Q I hw => BoolOp_one (h pins s σ H Q I hw)
theorem pe_and (ha : PE X a ta) (hb : PE X (.BoolOp .And (b :: rest) pos) tb) : PE X (.BoolOp .And (a :: b :: rest) pos) (tAndV ta tb) := by
  intro pins s σ H Q I h
  refine BoolOp_and (thn (ha pins s σ H _ I h) fun v s1 ⟨x, H1, I1, r1, q1⟩ => ?_)
  obtain ⟨c, rfl, q1⟩ := q1
  cases r1
  refine wpAny_truthy_bool ?_
  cases c with
  | true => exact hb pins s1 σ H1 Q I1 q1
  | false => exact ⟨.bl false, H1, I1, rfl, q1⟩
theorem pe_or (ha : PE X a ta) (hb : PE X (.BoolOp .Or (b :: rest) pos) tb) : PE X (.BoolOp .Or (a :: b :: rest) pos) (tOrV ta tb) := by
  intro pins s σ H Q I h
  refine BoolOp_or (thn (ha pins s σ H _ I h) fun v s1 ⟨x, H1, I1, r1, q1⟩ => ?_)
  obtain ⟨c, rfl, q1⟩ := q1
  cases r1
  refine wpAny_truthy_bool ?_
  cases c with
  | false => exact hb pins s1 σ H1 Q I1 q1
  | true => exact ⟨.bl true, H1, I1, rfl, q1⟩
theorem pe_not (ha : PE X a ta) : PE X (.UnaryOp .Not a pos) (tNotV ta) := by
  intro pins s σ H Q I h
  refine UnaryOp_ (thn (ha pins s σ H _ I h) fun v s1 ⟨x, H1, I1, r1, q1⟩ => ?_)
  obtain ⟨c, rfl, q1⟩ := q1
  cases r1
  exact not_of (wpAny_truthy_bool ⟨.bl (!c), H1, I1, rfl, q1⟩)
/-- a if t else b -/
def tIf (t : TT) (ta tb : TE) : TE := fun σ H Q => t σ H fun c H1 => if c = true then ta σ H1 Q else tb σ H1 Q
theorem pe_ifExp {c : Expr} (hc : PT X c tA) (ha : PE X a ta) (hb : PE X b tb) : PE X (.IfExp c a b pos) (tIf tA ta tb) := by
  intro pins s σ H Q I h
  refine wpAny_IfExp (thn (hc pins s σ H _ I h) fun d s1 ⟨H1, I1, q1⟩ => ?_)
  cases d with
  | true => exact ha pins s1 σ H1 Q I1 q1
  | false => exact hb pins s1 σ H1 Q I1 q1
end
end L2

namespace L2
open PySem PySem.Spec PyProof.Rows

/-! ### a list, a tuple that is read: tracked, frozen, or an object of the module -/
def SqL (K : PySem.W.Frag) (H : Hp) (a : Addr) (xs : List V) : Prop :=
  Rd H a (.lst xs) ∨
    ∃ (o : Obj) (its : Array Value) (n : Nat), K.lookup a = some o ∧ o.cls = .type "list" ∧ o.dict = none ∧ o.data = .seq its n ∧ its.size ≤ sizeLine ∧ Vals xs its.toList
def SqT (K : PySem.W.Frag) (H : Hp) (a : Addr) (xs : List V) : Prop :=
  Rd H a (.tup xs) ∨
    ∃ (o : Obj) (its : Array Value) (n : Nat), K.lookup a = some o ∧ o.cls = .type "tuple" ∧ o.data = .seq its n ∧ its.size ≤ sizeLine ∧ Vals xs its.toList
def absV : Value → Option V
  | .none => some .non
  | .bool b => some (.bl b)
  | .int i _ => some (.int i)
  | .str x _ => some (.str x)
  | .bytes b _ => some (.byt b)
  | .float b _ => some (.flt b)
  | .ref a => some (.ref a)
  | .type n => some (.ty n)
  | _ => none
theorem RelV.abs {x : V} {u : Value} (r : RelV x u) : absV u = some x := by
  cases x with
  | non => cases r; rfl
  | bl _ => cases r; rfl
  | int _ => obtain ⟨t, rfl⟩ := r; rfl
  | str _ => obtain ⟨t, rfl⟩ := r; rfl
  | byt _ => obtain ⟨t, rfl⟩ := r; rfl
  | flt _ => obtain ⟨t, rfl⟩ := r; rfl
  | ref _ => cases r; rfl
  | ty _ => cases r; rfl
theorem RelV.inj {x y : V} {u : Value} (r : RelV x u) (q : RelV y u) : x = y := Option.some.inj (r.abs.symm.trans q.abs)
theorem Vals.inj : ∀ {xs ys : List V} {us : List Value}, Vals xs us → Vals ys us → xs = ys
  | _, _, _, .nil, .nil => rfl
  | _, _, _, .cons r t, .cons r' t' => by rw [r.inj r', Vals.inj t t']
section
variable {X : Cx} {pins : List (Addr × Obj)} {σ : St} {H : Hp} {s : Shared} {a : Addr} {xs ys : List V}
theorem SqL.of {K : PySem.W.Frag} (h : H a = some (.lst xs)) : SqL K H a xs := .inl (.inl h)
theorem SqT.of {K : PySem.W.Frag} (h : H a = some (.tup xs)) : SqT K H a xs := .inl (.inl h)
theorem Inv.list (I : Inv X pins σ H s) (h : SqL X.K H a xs) : ∃ its : List Value, Vals xs its ∧ PlainL s.heap a its.toArray ∧ xs.length ≤ sizeLine := by
  rcases h with h | ⟨o, its, n, hk, hc, hd, hs, hz, r⟩
  · obtain ⟨z, its, n, r, e⟩ := h.ok I.hok
    exact ⟨its, r, ⟨_, n, e, rfl, rfl, rfl⟩, z⟩
  · refine ⟨its.toList, r, ⟨o, n, I.kIn a o hk, hc, hd, by simpa using hs⟩, ?_⟩
    have e := r.length
    simp only [Array.length_toList] at e
    omega
theorem Inv.tuple (I : Inv X pins σ H s) (h : SqT X.K H a xs) : ∃ its : List Value, Vals xs its ∧ IsTup s.heap a its.toArray ∧ xs.length ≤ sizeLine := by
  rcases h with h | ⟨o, its, n, hk, hc, hs, hz, r⟩
  · obtain ⟨z, its, r, p⟩ := h.ok I.hok
    exact ⟨its, r, p, z⟩
  · refine ⟨its.toList, r, ⟨o, I.kIn a o hk, hc, n, by simpa using hs⟩, ?_⟩
    have e := r.length
    simp only [Array.length_toList] at e
    omega
theorem Inv.list_inj (I : Inv X pins σ H s) (h : SqL X.K H a xs) (h' : SqL X.K H a ys) : xs = ys := by
  obtain ⟨its, r, ⟨o, n, e, _, _, d⟩, _⟩ := I.list h
  obtain ⟨its', r', ⟨o', n', e', _, _, d'⟩, _⟩ := I.list h'
  rw [e] at e'; cases e'
  rw [d] at d'
  injection d' with d1 _
  have : its = its' := by simpa using congrArg Array.toList d1
  subst this
  exact r.inj r'
theorem Inv.tuple_inj (I : Inv X pins σ H s) (h : SqT X.K H a xs) (h' : SqT X.K H a ys) : xs = ys := by
  obtain ⟨its, r, ⟨o, e, _, n, d⟩, _⟩ := I.tuple h
  obtain ⟨its', r', ⟨o', e', _, n', d'⟩, _⟩ := I.tuple h'
  rw [e] at e'; cases e'
  rw [d] at d'
  injection d' with d1 _
  have : its = its' := by simpa using congrArg Array.toList d1
  subst this
  exact r.inj r'
end

/-! ### another wish about exceptions -/
abbrev Cx.wish (X : Cx) (E : Value → Shared → Prop) : Cx := { X with xe := E }
/-- no exception leaves -/
abbrev Cx.nox (X : Cx) : Cx := X.wish fun _ _ => False
theorem Cx.Ok.wish {X : Cx} (ok : X.Ok) (E : Value → Shared → Prop) : (X.wish E).Ok :=
  ⟨ok.mod, ok.kind, ok.glob, ok.blt, ok.above, ok.inj, ok.has, ok.cab, ok.hd, ok.frames, ok.stk, ok.exf, ok.bs, ok.bsz, ok.noex, ok.exfs, ok.funs, ok.frf⟩
theorem Cx.Ok.unwish {X : Cx} {E : Value → Shared → Prop} (ok : (X.wish E).Ok) : X.Ok :=
  ⟨ok.mod, ok.kind, ok.glob, ok.blt, ok.above, ok.inj, ok.has, ok.cab, ok.hd, ok.frames, ok.stk, ok.exf, ok.bs, ok.bsz, ok.noex, ok.exfs, ok.funs, ok.frf⟩
section
variable {X : Cx} {pins : List (Addr × Obj)} {σ : St} {H : Hp} {s : Shared} {E : Value → Shared → Prop}
theorem Inv.wish (I : Inv X pins σ H s) (E : Value → Shared → Prop) : Inv (X.wish E) pins σ H s := ⟨I.ok.wish E, I.os, I.bare, I.base, I.loc, I.cell, I.free, I.freeC, I.pin, I.hok, I.len⟩
theorem Inv.unwish (I : Inv (X.wish E) pins σ H s) : Inv X pins σ H s := ⟨I.ok.unwish, I.os, I.bare, I.base, I.loc, I.cell, I.free, I.freeC, I.pin, I.hok, I.len⟩
theorem SP.unwish {D : Ends} {f : Flow} {s' : Shared} (h : SP (X.wish E) pins D f s') : SP X pins D f s' := by
  cases f with
  | next => obtain ⟨σ', H', I, q⟩ := h; exact ⟨σ', H', I.unwish, q⟩
  | brk => obtain ⟨σ', H', I, q⟩ := h; exact ⟨σ', H', I.unwish, q⟩
  | cont => obtain ⟨σ', H', I, q⟩ := h; exact ⟨σ', H', I.unwish, q⟩
  | ret u => obtain ⟨v, σ', H', I, r, q⟩ := h; exact ⟨v, σ', H', I.unwish, r, q⟩
theorem PE.nox {e : Expr} {t : TE} (h : PE X.nox e t) : PE X e t := fun pins s σ H Q I hw =>
  wpAny_mono (h pins s σ H Q (I.wish _) hw) (fun _ _ ⟨v, H', I', r, q⟩ => ⟨v, H', I'.unwish, r, q⟩) fun _ _ z => False.elim z
theorem PT.nox {e : Expr} {t : TT} (h : PT X.nox e t) : PT X e t := fun pins s σ H Q I hw =>
  wpAny_mono (h pins s σ H Q (I.wish _) hw) (fun _ _ ⟨H', I', q⟩ => ⟨H', I'.unwish, q⟩) fun _ _ z => False.elim z
theorem PSs.nox {st : List Stmt} {t : TS} (h : PSs X.nox st t) : PSs X st t := fun pins s σ H D I hw =>
  wpAny_mono (h pins s σ H D (I.wish _) hw) (fun _ _ q => q.unwish) fun _ _ z => False.elim z
end

/-! ### blocks and small statements -/
section
variable {X : Cx} {st : Stmt} {rest : List Stmt} {t u : TS} {e : Expr} {te : TE} {pos : Pos}
def tNext : TS := fun D σ H => D.nx σ H
def tSeq (t u : TS) : TS := fun D σ H => t { D with nx := u D } σ H
theorem pss_nil : PSs X [] tNext := fun _ _ σ H _ I h => wpAny_execs_nil ⟨σ, H, I, h⟩
theorem pss_cons (h1 : PS X st t) (h2 : PSs X rest u) : PSs X (st :: rest) (tSeq t u) := by
  intro pins s σ H D I h
  refine wpAny_execs_cons (thn (h1 pins s σ H { D with nx := u D } I h) fun f s1 q => ?_)
  cases f with
  | next =>
    obtain ⟨σ', H', I', q⟩ := q
    exact h2 pins s1 σ' H' D I' q
  | ret v => exact q
  | brk => exact q
  | cont => exact q
theorem pss_one (h1 : PS X st t) : PSs X [st] t := by
  intro pins s σ H D I h
  refine wpAny_execs_cons (thn (h1 pins s σ H D I h) fun f s1 q => ?_)
  cases f with
  | next => exact wpAny_execs_nil q
  | ret v => exact q
  | brk => exact q
  | cont => exact q
def tBreak : TS := fun D σ H => D.bk σ H
def tCont : TS := fun D σ H => D.ct σ H
theorem ps_pass : PS X (.Pass pos) tNext := fun _ _ σ H _ I h => wpAny_Pass ⟨σ, H, I, h⟩
theorem ps_break : PS X (.Break pos) tBreak := fun _ _ σ H _ I h => wpAny_Break ⟨σ, H, I, h⟩
theorem ps_continue : PS X (.Continue pos) tCont := fun _ _ σ H _ I h => wpAny_Continue ⟨σ, H, I, h⟩
/-- in a def's body nothing is shown -/
theorem Inv.quiet {pins : List (Addr × Obj)} {σ : St} {H : Hp} {s : Shared} (I : Inv X pins σ H s) : interactive X.env = false := by simp [interactive, I.ok.kind]
/-- a docstring -/
theorem ps_doc {x j pos pos'} : PS X (.Expr (.Constant (.str x) j pos) pos') tNext := fun _ s σ H _ I h => wpAny_Expr (Calls.Constant_str (show SP X _ _ .next { s with toks := s.toks + 1 } from ⟨σ, H, I.tok _, h⟩)) I.quiet
/-- an expression whose value is dropped -/
def tDrop (te : TE) : TS := fun D σ H => te σ H fun _ H1 => D.nx σ H1
theorem ps_expr (he : PE X e te) (hs : swapsWith e none pos.line X.env = pure false := by rfl) : PS X (.Expr e pos) (tDrop te) := by
  intro pins s σ H D I h
  exact wpAny_Expr_any (thn (he pins s σ H _ I h) fun v s1 ⟨x, H1, I1, r1, q1⟩ => ⟨σ, H1, I1, q1⟩) I.quiet hs
def tRet (te : TE) : TS := fun D σ H => te σ H D.rt
theorem ps_ret (he : PE X e te) : PS X (.Return (some e) pos) (tRet te) := by
  intro pins s σ H D I h
  exact wpAny_Return_some (thn (he pins s σ H _ I h) fun v s1 ⟨x, H1, I1, r1, q1⟩ => ⟨x, σ, H1, I1, r1, q1⟩)
def tRetN : TS := fun D _ H => D.rt .non H
theorem ps_retN : PS X (.Return none pos) tRetN := fun _ _ σ H _ I h => wpAny_Return_none ⟨.non, σ, H, I, rfl, h⟩
def tIfS (c : TT) (t u : TS) : TS := fun D σ H => c σ H fun b H1 => if b = true then t D σ H1 else u D σ H1
theorem ps_if {c : Expr} {a b : List Stmt} {tc : TT} (hc : PT X c tc) (ha : PSs X a t) (hb : PSs X b u) : PS X (.If c a b pos) (tIfS tc t u) := by
  intro pins s σ H D I h
  refine wpAny_If (thn (hc pins s σ H _ I h) fun d s1 ⟨H1, I1, q1⟩ => ?_)
  cases d with
  | true => exact ha pins s1 σ H1 D I1 q1
  | false => exact hb pins s1 σ H1 D I1 q1
/-- code that the proof never comes to -/
def tNever : TS := fun _ _ _ => False
theorem ps_never : PS X st tNever := fun _ _ _ _ _ _ h => h.elim
theorem pss_never {sts : List Stmt} : PSs X sts tNever := fun _ _ _ _ _ _ h => h.elim
end

/-! ### targets -/
abbrev TG := V → St → Hp → (St → Hp → Prop) → Prop
abbrev TGs := List V → St → Hp → (St → Hp → Prop) → Prop
def PG (X : Cx) (target : Expr) (t : TG) : Prop :=
  ∀ (pins : List (Addr × Obj)) (s : Shared) (σ : St) (H : Hp) (v : V) (u : Value) (Q : St → Hp → Prop), Inv X pins σ H s → RelV v u → t v σ H Q →
    wpAny (model X.prog X.w) X.A (assign target X.env u) (fun _ s' => ∃ σ' H', Inv X pins σ' H' s' ∧ Q σ' H') X.xe s
/-- several targets, one after another -/
def PGs (X : Cx) (ts : List Expr) (t : TGs) : Prop :=
  ∀ (pins : List (Addr × Obj)) (s : Shared) (σ : St) (H : Hp) (vs : List V) (us : List Value) (Q : St → Hp → Prop), Inv X pins σ H s → Vals vs us → t vs σ H Q →
    wpAny (model X.prog X.w) X.A (assignInOrder ((assignEach ts X.env).map (·.2)) us) (fun _ s' => ∃ σ' H', Inv X pins σ' H' s' ∧ Q σ' H') X.xe s
/-- o[i] = v, by values -/
abbrev TSet := V → V → V → Hp → (Hp → Prop) → Prop
def PSet (X : Cx) (t : TSet) : Prop :=
  ∀ (pins : List (Addr × Obj)) (s : Shared) (σ : St) (H : Hp) (o i v : V) (ov iv u : Value) (Q : Hp → Prop), Inv X pins σ H s → RelV o ov → RelV i iv → RelV v u → t o i v H Q →
    wpAny (model X.prog X.w) X.A (setItem ov iv u) (fun _ s' => ∃ H', Inv X pins σ H' s' ∧ Q H') X.xe s
/-- a op= b, by values -/
abbrev TIp := V → V → Hp → VK → Prop
def PIp (X : Cx) (op : Operator) (t : TIp) : Prop :=
  ∀ (pins : List (Addr × Obj)) (s : Shared) (σ : St) (H : Hp) (x y : V) (v u : Value) (Q : VK), Inv X pins σ H s → RelV x v → RelV y u → t x y H Q →
    wpAny (model X.prog X.w) X.A (inplaceOp op v u) (EP X pins σ Q) X.xe s
section
variable {X : Cx} {pos : Pos}
def gName (i : Nat) : TG := fun v σ H Q => Q (σ.set i (some v)) H
theorem pg_name {i : Nat} {x : Str} (hN : X.N.Nodup) (hi : X.N[i]? = some x) (hx : Loc X.env.scope x) (hf : X.fn x = true ∨ X.env.scope.names.lookup x = some .local := by first | exact .inl rfl | exact .inr rfl | assumption) : PG X (.Name x pos) (gName i) := by
  intro pins s σ H v u Q I r h
  exact wpAny_assign_Name (store_ok I hN hi hx r (fun s' I' => ⟨_, H, I', h⟩) hf)
def gNil : TGs := fun vs σ H Q => vs = [] ∧ Q σ H
def gCons (t : TG) (u : TGs) : TGs := fun vs σ H Q => ∃ v r, vs = v :: r ∧ t v σ H fun σ' H' => u r σ' H' Q
theorem pgs_nil : PGs X [] gNil := by
  intro pins s σ H vs us Q I r h
  obtain ⟨e, h⟩ := h
  subst e
  cases r
  exact assignInOrder_nil ⟨σ, H, I, h⟩
theorem pgs_cons {e : Expr} {es : List Expr} {t : TG} {u : TGs} (h1 : PG X e t) (h2 : PGs X es u)
    (hs : (assignEach (e :: es) X.env).map (·.2) = assign e X.env :: (assignEach es X.env).map (·.2) := by rfl) : PGs X (e :: es) (gCons t u) := by
  intro pins s σ H vs us Q I r h
  obtain ⟨v, vr, e1, h⟩ := h
  subst e1
  cases r with
  | cons r rr =>
    rw [hs]
    refine assignInOrder_cons (thn (h1 pins s σ H _ _ _ I r h) fun _ s1 ⟨σ1, H1, I1, q1⟩ => ?_)
    exact h2 pins s1 σ1 H1 _ _ Q I1 rr q1
/-- (a, b, ..) = a tuple of that length -/
def gTup (K : PySem.W.Frag) (n : Nat) (t : TGs) : TG := fun v σ H Q => ∃ a xs, v = .ref a ∧ SqT K H a xs ∧ xs.length = n ∧ t xs σ H Q
theorem pg_tup {es : List Expr} {k : Nat} {t : TGs} {n : Nat} (hc : X.calm = true) (h : PGs X es t)
    (hn : (assignEach es X.env).length = n := by rfl) (hst : (assignEach es X.env).findIdx? (·.1) = none := by rfl) : PG X (.Tuple es k pos) (gTup X.K n t) := by
  intro pins s σ H v u Q I r hw
  obtain ⟨a, xs, e1, hq, hl, hw⟩ := hw
  subst e1
  cases r
  obtain ⟨its, rv, ht, hz⟩ := I.tuple hq
  refine assign_Tuple_tuple (I.ok.hd hc) ht (by simp [hn, ← hl, rv.length]) hst fun h' hx => ?_
  have I1 : Inv X pins σ H { s with heap := h' } := I.kept (t' := s.toks) fun b o e => hx b o (Nat.ne_of_lt (Heap.lt_size e)) e
  exact h pins _ σ H xs _ Q I1 (by simpa using rv) hw
/-- o[i] = .. -/
def gSub (to ti : TE) (t : TSet) : TG := fun v σ H Q => to σ H fun o H1 => ti σ H1 fun i H2 => t o i v H2 fun H3 => Q σ H3
theorem pg_sub {o i : Expr} {to ti : TE} {t : TSet} (ho : PE X o to) (hi : PE X i ti) (hs : PSet X t)
    (ha : ∀ v, assign (.Subscript o i pos) X.env v = (do
      let ov ← holding [v] (eval o X.env)
      let iv ← holding [v, ov] (eval i X.env)
      standAt pos
      holding [v, ov, iv] (setItem ov iv v)
      release [v, ov, iv] []) := by intro _; rfl) : PG X (.Subscript o i pos) (gSub to ti t) := by
  intro pins s σ H v u Q I r h
  rw [ha]
  refine wpAny_bind (wpAny_holding (thn (ho pins s σ H _ I h) fun ov s1 ⟨x, H1, I1, r1, q1⟩ => ?_))
  refine wpAny_bind (wpAny_holding (thn (hi pins s1 σ H1 _ I1 q1) fun iv s2 ⟨y, H2, I2, r2, q2⟩ => ?_))
  refine wpAny_bind (wpAny_standAt (wpAny_bind (wpAny_holding (thn (hs pins s2 σ H2 x y v ov iv u _ I2 r1 r2 r q2) fun _ s3 ⟨H3, I3, q3⟩ => ?_))))
  exact wpAny_release ⟨σ, H3, I3, q3⟩
/-- target = value -/
def tAsg (te : TE) (g : TG) : TS := fun D σ H => te σ H fun x H1 => g x σ H1 D.nx
theorem ps_asg {tg e : Expr} {te : TE} {g : TG} (he : PE X e te) (hg : PG X tg g) (hs : swapsWithSole [tg] e pos.line X.env = pure false := by rfl) (hw : swappedStores [tg] e X.env = pure none := by rfl)
    (h1 : (assignEach [tg] X.env).map (·.2) = [assign tg X.env] := by rfl) : PS X (.Assign [tg] e pos) (tAsg te g) := by
  intro pins s σ H D I h
  refine wpAny_Assign_stores (thn (he pins s σ H _ I h) fun v s1 ⟨x, H1, I1, r1, q1⟩ => ?_) hs hw
  rw [h1]
  exact thn (hg pins s1 σ H1 x v _ I1 r1 q1) fun _ s2 q => q
/-- name = value -/
theorem ps_set {i : Nat} {x : Str} {e : Expr} {te : TE} {pos' : Pos} (hN : X.N.Nodup) (hi : X.N[i]? = some x) (hx : Loc X.env.scope x) (he : PE X e te) (hs : swapsWith e (some (.Name x pos')) pos.line X.env = pure false := by rfl) (hf : X.fn x = true ∨ X.env.scope.names.lookup x = some .local := by first | exact .inl rfl | exact .inr rfl | assumption) :
    PS X (.Assign [.Name x pos'] e pos) (tAsg te (gName i)) := by
  intro pins s σ H D I h
  refine wpAny_Assign_Name (thn (he pins s σ H _ I h) fun v s1 ⟨y, H1, I1, r1, q1⟩ => ?_) hs
  exact store_ok I1 hN hi hx r1 (fun s2 I2 => ⟨_, H1, I2, q1⟩) hf
/-- a, b = x, y with plain local names: stored from the right; the pair itself is not tracked (the opening rows as in PyProof/Rows/TupAssign.lean:23) -/
def tPar (i j : Nat) (ta : TA) : TS := fun D σ H => ta σ H fun vs H1 => ∃ v w, vs = [v, w] ∧ D.nx ((σ.set i (some v)).set j (some w)) H1
theorem ps_par {i j : Nat} {x y : Str} {a b : Expr} {ta : TA} {px py pt : Pos} {kt k2 pt2} (hc : X.calm = true) (hN : X.N.Nodup) (hi : X.N[i]? = some x) (hj : X.N[j]? = some y) (hij : i ≠ j)
    (hx : X.env.scope.names.lookup x = some .local) (hy : X.env.scope.names.lookup y = some .local) (ha : PA X [a, b] ta)
    (hw : swappedStores [.Tuple [.Name x px, .Name y py] kt pt] (.Tuple [a, b] k2 pt2) X.env = pure (some [x, y]))
    (hs : swapsWithSole [.Tuple [.Name x px, .Name y py] kt pt] (.Tuple [a, b] k2 pt2) pos.line X.env = pure false := by rfl) :
    PS X (.Assign [.Tuple [.Name x px, .Name y py] kt pt] (.Tuple [a, b] k2 pt2) pos) (tPar i j ta) := by
  intro pins s σ H D I h
  rw [exec_Assign_arm]
  refine wpAny_bind (wpAny_standAt ?_)
  rw [hs]
  refine wpAny_bind (wpAny_pure ?_)
  rw [if_neg (by decide)]
  refine wpAny_bind (Tuple_ (thn (ha _ pins s σ H _ I h) fun us s1 ⟨vs, H1, I1, r1, q1⟩ => ?_))
  obtain ⟨v, w, e1, q1⟩ := q1
  subst e1
  obtain ⟨u1, u2, rfl, rv, rw'⟩ : ∃ u1 u2, us = [u1, u2] ∧ RelV v u1 ∧ RelV w u2 := by
    cases r1 with
    | cons p q =>
      cases q with
      | cons p' q' =>
        cases q'
        exact ⟨_, _, rfl, p, p'⟩
  refine wpAny_newObj_type ?_ (by show 2 ≤ sizeLine; decide)
  have I2 : Inv X pins σ H1 { s1 with heap := s1.heap.push { cls := .type "tuple", data := .seq [u1, u2].toArray } } := I1.kept (t' := s1.toks) fun b o e => Heap.get?_push_of_some _ e
  rw [hw]
  refine wpAny_bind (wpAny_pure ?_)
  show wpAny (model X.prog X.w) X.A (do rule "assign.swapped-stores"; let items ← unpackItems (.ref s1.heap.objs.size) 2 none; assignInOrder [fun v => bindName X.env y v, fun v => bindName X.env x v] items.reverse; pure Flow.next) _ _ _
  refine wpAny_bind (wpAny_rule (wpAny_bind (unpackItems_tuple (items := #[u1, u2]) (I.ok.hd hc) (IsTup.new s1.heap _) fun h' hx' => ?_)))
  have I3 := I2.kept (h' := h') (t' := s1.toks) fun b o e => hx' b o (Nat.ne_of_lt (Heap.lt_size e)) e
  show wpAny _ _ (assignInOrder [fun v => bindName X.env y v, fun v => bindName X.env x v] [u2, u1] >>= fun _ => pure Flow.next) _ _ _
  refine wpAny_bind (assignInOrder_cons (wpAny_bindName (store_ok I3 hN hj (.inl hy) rw' (fun s2 I4 => ?_) (.inr hy))))
  refine assignInOrder_cons (wpAny_bindName (store_ok I4 hN hi (.inl hx) rv (fun s3 I5 => assignInOrder_nil (wpAny_pure ?_)) (.inr hx)))
  rw [List.set_comm _ _ (Ne.symm hij)] at I5
  exact ⟨_, H1, I5, q1⟩
/-- name op= e -/
def tAug (i : Nat) (te : TE) (ti : TIp) : TS := fun D σ H => ∃ x, σ[i]? = some (some x) ∧ te σ H fun y H1 => ti x y H1 fun z H2 => D.nx (σ.set i (some z)) H2
theorem ps_aug {i : Nat} {x : Str} {e : Expr} {te : TE} {op : Operator} {ti : TIp} {pos' : Pos} (hN : X.N.Nodup) (hi : X.N[i]? = some x) (hx : Loc X.env.scope x) (he : PE X e te) (ho : PIp X op ti) (hf : X.fn x = true ∨ X.env.scope.names.lookup x = some .local := by first | exact .inl rfl | exact .inr rfl | assumption) :
    PS X (.AugAssign (.Name x pos') op e pos) (tAug i te ti) := by
  intro pins s σ H D I h
  obtain ⟨v, e1, h⟩ := h
  obtain ⟨m, hn, hl⟩ := I.loc
  have vis : Vis X.env.scope x := by rcases hx with k | k; exact .inl k; exact .inr (.inl k)
  obtain ⟨u, r, l⟩ := hl i x v hi e1 vis
  refine wpAny_AugAssign_Name ?_
  have go : wpAny (model X.prog X.w) X.A (eval e X.env) (fun w s₂ => wpAny (model X.prog X.w) X.A (inplaceOp op u w) (fun r s₃ => wpAny (model X.prog X.w) X.A (storeName X.env x r) (fun _ => SP X pins D .next) X.xe s₃) X.xe s₂) X.xe s := by
    refine thn (he pins s σ H _ I h) fun w s1 ⟨y, H1, I1, r1, q1⟩ => ?_
    refine thn (ho pins s1 σ H1 v y u w _ I1 r r1 q1) fun z s2 ⟨zv, H2, I2, r2, q2⟩ => ?_
    exact store_ok I2 hN hi hx r2 (fun s3 I3 => ⟨_, H2, I3, q2⟩) hf
  rcases l with ⟨hk, hm⟩ | ⟨hk, c, hc, hcell⟩
  · exact wpAny_loadName_local I.ok.kind hk hn hm go
  · rcases hk with hk | hk
    · exact wpAny_loadName_cell I.ok.kind hk hc hcell go
    · rcases hx with k | k
      · have : X.env.scope.names.lookup x = some .free := hk
        rw [k] at this; cases this
      · have : X.env.scope.names.lookup x = some .free := hk
        rw [k] at this; cases this
/-- o[i] op= e -/
def tAugS (to ti te : TE) (tget : V → V → Hp → VK → Prop) (tip : TIp) (tset : TSet) : TS := fun D σ H => to σ H fun o H1 => ti σ H1 fun i H2 => tget o i H2 fun x H3 => te σ H3 fun y H4 => tip x y H4 fun z H5 => tset o i z H5 fun H6 => D.nx σ H6
/-- o[i], by values -/
def PGet (X : Cx) (t : V → V → Hp → VK → Prop) : Prop :=
  ∀ (pins : List (Addr × Obj)) (s : Shared) (σ : St) (H : Hp) (o i : V) (ov iv : Value) (Q : VK), Inv X pins σ H s → RelV o ov → RelV i iv → t o i H Q →
    wpAny (model X.prog X.w) X.A (getItem ov iv) (EP X pins σ Q) X.xe s
theorem ps_augS {o i e : Expr} {to ti te : TE} {tget : V → V → Hp → VK → Prop} {tip : TIp} {tset : TSet} {op : Operator} {tpos : Pos} (ho : PE X o to) (hi : PE X i ti) (hg : PGet X tget) (he : PE X e te) (hp : PIp X op tip) (hs : PSet X tset)
    (ha : ∀ ov iv new, augStore i ov iv new = (do holding [new, ov, iv] (setItem ov iv new); release [new, ov, iv] []; pure .next) := by intros; rfl) : PS X (.AugAssign (.Subscript o i tpos) op e pos) (tAugS to ti te tget tip tset) := by
  intro pins s σ H D I h
  refine wpAny_AugAssign_SubscriptAny (thn (ho pins s σ H _ I h) fun ov s1 ⟨x1, H1, I1, r1, q1⟩ => ?_) ha
  refine thn (hi pins s1 σ H1 _ I1 q1) fun iv s2 ⟨x2, H2, I2, r2, q2⟩ => ?_
  refine thn (hg pins s2 σ H2 x1 x2 ov iv _ I2 r1 r2 q2) fun old s3 ⟨x3, H3, I3, r3, q3⟩ => ?_
  refine thn (he pins s3 σ H3 _ I3 q3) fun v s4 ⟨x4, H4, I4, r4, q4⟩ => ?_
  refine thn (hp pins s4 σ H4 x3 x4 old v _ I4 r3 r4 q4) fun new s5 ⟨x5, H5, I5, r5, q5⟩ => ?_
  exact thn (hs pins s5 σ H5 x1 x2 x5 ov iv new _ I5 r1 r2 r5 q5) fun _ s6 ⟨H6, I6, q6⟩ => ⟨σ, H6, I6, q6⟩
/-- ints -/
def ipI (f : Int → Int → Int) : TIp := fun x y H Q => ∃ i j, x = .int i ∧ y = .int j ∧ Q (.int (f i j)) H
theorem ip_add : PIp X .Add (ipI fun i j => i + j) := by
  intro pins s σ H x y v u Q I r1 r2 h
  obtain ⟨i, j, e1, e2, q⟩ := h
  subst e1; subst e2
  obtain ⟨t, rfl⟩ := r1
  obtain ⟨t', rfl⟩ := r2
  exact iadd_int ⟨.int _, H, I.tok _, ⟨_, rfl⟩, q⟩
theorem ip_sub : PIp X .Sub (ipI fun i j => i - j) := by
  intro pins s σ H x y v u Q I r1 r2 h
  obtain ⟨i, j, e1, e2, q⟩ := h
  subst e1; subst e2
  obtain ⟨t, rfl⟩ := r1
  obtain ⟨t', rfl⟩ := r2
  exact isub_int ⟨.int _, H, I.tok _, ⟨_, rfl⟩, q⟩
end

/-! ### while -/
section
variable {X : Cx} {pos : Pos}
/-- the invariant W with its measure -/
def tWhile (c : TT) (tb : TS) : TS := fun D σ H => ∃ W : Nat → St → Hp → Prop, (∃ m, W m σ H) ∧ ∀ m σ H, W m σ H →
  c σ H fun b H1 => if b = true then ∃ N : St → Hp → Prop, (∀ σ' H', N σ' H' → ∃ m', m' < m ∧ W m' σ' H') ∧ tb { D with nx := N, ct := N, bk := D.nx } σ H1 else D.nx σ H1
theorem ps_while {c : Expr} {body : List Stmt} {tc : TT} {tb : TS} (hp : PassesOwn (model X.prog X.w) X.A X.env X.xe) (hc : PT X c tc) (hb : PSs X body tb) : PS X (.While c body [] pos) (tWhile tc tb) := by
  intro pins s σ H D I h
  obtain ⟨W, ⟨m0, w0⟩, turn⟩ := h
  refine wpAny_While (codeAny_whileLoop (fun n s' => ∃ σ' H', Inv X pins σ' H' s' ∧ W n σ' H') ?_ m0 ⟨σ, H, I, w0⟩)
  rintro n s1 ⟨σ1, H1, I1, w1⟩
  refine wpAny_passesOwn hp (thn (hc pins s1 σ1 H1 _ I1 (turn n σ1 H1 w1)) fun b s2 ⟨H2, I2, q2⟩ => ?_)
  cases b with
  | true =>
    obtain ⟨N, hN, q2⟩ := q2
    rw [if_pos rfl]
    refine wpAny_passesOwn hp (thn (hb pins s2 σ1 H2 _ I2 q2) fun f s3 q3 => ?_)
    cases f with
    | next =>
      obtain ⟨σ3, H3, I3, n3⟩ := q3
      obtain ⟨m', hm, w3⟩ := hN σ3 H3 n3
      exact ⟨m', hm, σ3, H3, I3, w3⟩
    | cont =>
      obtain ⟨σ3, H3, I3, n3⟩ := q3
      obtain ⟨m', hm, w3⟩ := hN σ3 H3 n3
      exact ⟨m', hm, σ3, H3, I3, w3⟩
    | brk => exact q3
    | ret v => exact q3
  | false =>
    rw [if_neg Bool.false_ne_true]
    exact wpAny_execs_nil ⟨σ1, H2, I2, q2⟩
end

/-! ### what a loop or a comprehension walks -/
/-- at turn i: it yields x (the heap may grow), or it stops -/
structure It where
  go : Nat → Hp → Prop
  yld : Nat → Hp → V → Hp → Prop
  stop : Nat → Hp → Prop
/-- the iterator's own objects may turn: they are not the frame's, not pinned, younger than the entry (or a comprehension's own) -/
def FpOk (X : Cx) (pins : List (Addr × Obj)) (H : Hp) (b : Addr) : Prop :=
  H b = none ∧ b ≠ X.env.locals ∧ b ∉ X.fs ∧ (b ∈ X.ex ∨ X.s_0.heap.objs.size ≤ b) ∧ (∀ x c, X.env.cells.lookup x = some c → c ≠ b) ∧ ∀ p ∈ X.pn ++ pins, p.1 ≠ b
theorem Inv.fpOk {X : Cx} {pins : List (Addr × Obj)} {σ : St} {H H' : Hp} {s : Shared} {b : Addr} (I : Inv X pins σ H s) (hb : s.heap.objs.size ≤ b) (hn : H' b = none) : FpOk X pins H' b := by
  refine ⟨hn, Nat.ne_of_gt (Nat.lt_of_lt_of_le I.lt hb), I.nofs hb, .inr (Nat.le_trans I.sz hb), fun x c e z => ?_, fun p hp z => ?_⟩
  · obtain ⟨v, q⟩ := I.cell x c e
    exact absurd (Nat.lt_of_lt_of_le q.lt (by rw [z]; exact hb)) (Nat.lt_irrefl _)
  · exact absurd (Nat.lt_of_lt_of_le (Heap.lt_size (I.pin p hp).1) (by rw [z]; exact hb)) (Nat.lt_irrefl _)
structure Turn (P : Program) (w : World) (K : PySem.W.Frag) (tg : Expr) (J : It) (fp : List Addr) (it : Addr) (tn : Nat → Heap → Prop) : Prop where
  mem : it ∈ fp
  obj : ∀ i h, tn i h → ∀ b ∈ fp, ∃ o, h.get? b = some o ∧ ∀ v, o.data ≠ .cell v
  keep : ∀ i h h', tn i h → (∀ b ∈ fp, ∀ o, h.get? b = some o → h'.get? b = some o) → tn i h'
  item : ∀ (X : Cx), X.prog = P → X.w = w → X.K = K → X.calm = true → ∀ (i : Nat) (pins : List (Addr × Obj)) (s : Shared) (σ : St) (H : Hp) (E : Value → Shared → Prop), Inv X pins σ H s → (∀ b ∈ fp, FpOk X pins H b) → tn i s.heap → J.go i H →
    wpAny (model P w) X.A (pyNext (.ref it)) (fun r s1 => ∃ u, r = some u ∧
      wpAny (model P w) X.A (letOwnedTupleGo tg (.ref it) u) (fun _ s2 => ∃ x H', Inv X pins σ H' s2 ∧ RelV x u ∧ J.yld i H x H' ∧ tn (i + 1) s2.heap ∧ ∀ b ∈ fp, H' b = none) E s1) E s
  done : ∀ (X : Cx), X.prog = P → X.w = w → X.K = K → X.calm = true → ∀ (i : Nat) (pins : List (Addr × Obj)) (s : Shared) (σ : St) (H : Hp) (E : Value → Shared → Prop), Inv X pins σ H s → (∀ b ∈ fp, FpOk X pins H b) → tn i s.heap → J.stop i H →
    wpAny (model P w) X.A (pyNext (.ref it)) (fun r s1 => r = none ∧ Inv X pins σ H s1) E s
  self : ∀ (A : Around) (i : Nat) (s : Shared) (Q : Value → Shared → Prop) (E : Value → Shared → Prop), tn i s.heap → Q (.ref it) s → wpAny (model P w) A (pyIter (.ref it)) Q E s
abbrev TI := St → Hp → (It → Hp → Prop) → Prop
/-- an iterator has come -/
def PIE (X : Cx) (pins : List (Addr × Obj)) (σ : St) (tg : Expr) (R : It → Hp → Prop) (itv : Value) (s2 : Shared) : Prop :=
  ∃ (it : Addr) (fp : List Addr) (tn : Nat → Heap → Prop) (J : It) (H' : Hp), itv = .ref it ∧ Inv X pins σ H' s2 ∧ Turn X.prog X.w X.K tg J fp it tn ∧ tn 0 s2.heap ∧ (∀ b ∈ fp, FpOk X pins H' b) ∧ R J H'
def PI (X : Cx) (tg iter : Expr) (wi : TI) : Prop :=
  ∀ (pins : List (Addr × Obj)) (s : Shared) (σ : St) (H : Hp) (R : It → Hp → Prop), Inv X pins σ H s → wi σ H R →
    wpAny (model X.prog X.w) X.A (eval iter X.env) (fun v s1 => wpAny (model X.prog X.w) X.A (pyIter v) (PIE X pins σ tg R) X.xe s1) X.xe s

/-- the step ahead of the store is nothing for an iterator that keeps no tuple -/
theorem go_of {M : Model} {A : Around} {E : Value → Shared → Prop} {s : Shared} {tg : Expr} {it : Addr} {u : Value} {o : Obj} {n : String} {vs : Array Value} {Q : Unit → Shared → Prop} (ho : s.heap.get? it = some o) (hc : o.cls = .type n) (hd : o.data = .fields vs)
    (hn : ["enumerate", "zip", "dict_itemiterator", "dict_reverseitemiterator", "odict_iterator", "itertools.zip_longest", "itertools.pairwise"].contains n = false) (hQ : Q () s) : wpAny M A (letOwnedTupleGo tg (.ref it) u) Q E s := by
  unfold letOwnedTupleGo
  cases tg <;> first
    | exact wpAny_pure hQ
    | (cases u <;> first
        | exact wpAny_pure hQ
        | (refine wpAny_bind (wpAny_load ho ?_)
           rw [hc, hd]
           show wpAny M A (if (["enumerate", "zip", "dict_itemiterator", "dict_reverseitemiterator", "odict_iterator", "itertools.zip_longest", "itertools.pairwise"].contains n && vs[0]? == some (rawInt _)) = true then _ else _) Q E s
           rw [if_neg (by intro h; rw [hn, Bool.false_and] at h; cases h)]
           exact wpAny_pure hQ))

/-- the list at a, as it stands at each turn (a loop may append to it) -/
def Itl (K : PySem.W.Frag) (a : Addr) : It :=
  ⟨fun i H => ∃ xs x, SqL K H a xs ∧ xs[i]? = some x, fun i H x H' => H' = H ∧ ∀ xs, SqL K H a xs → xs[i]? = some x, fun i H => ∃ xs, SqL K H a xs ∧ xs.length ≤ i⟩
def Itt (K : PySem.W.Frag) (a : Addr) : It :=
  ⟨fun i H => ∃ xs x, SqT K H a xs ∧ xs[i]? = some x, fun i H x H' => H' = H ∧ ∀ xs, SqT K H a xs → xs[i]? = some x, fun i H => ∃ xs, SqT K H a xs ∧ xs.length ≤ i⟩
/-- lo, lo + 1, .. (n of them) -/
def Itr (lo : Int) (n : Nat) : It := ⟨fun i _ => i < n, fun i H x H' => H' = H ∧ x = .int (lo + i), fun i _ => n ≤ i⟩
theorem turn_list {P : Program} {w : World} {K : PySem.W.Frag} {tg : Expr} (a it : Addr) : Turn P w K tg (Itl K a) [it] it (fun i h => h.IsListIter it a i) where
  mem := by simp
  obj := fun i h st b hb => by
    have e : b = it := by simpa using hb
    subst e
    obtain ⟨o, e, c, d⟩ := st
    exact ⟨o, e, fun v z => by rw [d] at z; cases z⟩
  keep := fun i h h' st k => st.at fun o e => k it (by simp) o e
  item := by
    intro X hP hw hK hc i pins s σ H E I hf st hg
    subst hP hw hK
    obtain ⟨xs, x, hq, hx⟩ := hg
    obtain ⟨its, rv, p, hz⟩ := I.list hq
    obtain ⟨u, hu, ru⟩ := rv.get hx
    obtain ⟨f0, f1, f2, f3, f4, f5⟩ := hf it (by simp)
    refine wpAny_pyNext_list_item st p.isList (x := u) (by simpa using hu) fun h' st' sb => ?_
    have I1 : Inv X pins σ H { s with heap := h' } := I.turned (t' := s.toks) (fun b o hb e => (sb.2 b hb).trans e) f0 f1 f3 f4 f5
    obtain ⟨o, e, c, d⟩ := id st'
    exact ⟨u, rfl, go_of (s := { s with heap := h' }) e c d (by decide) ⟨x, H, I1, ru, ⟨rfl, fun ys hy => by rw [I.list_inj hy hq]; exact hx⟩, st', fun b hb => (hf b hb).1⟩⟩
  done := by
    intro X hP hw hK hc i pins s σ H E I hf st hg
    subst hP hw hK
    obtain ⟨xs, hq, hx⟩ := hg
    obtain ⟨its, rv, p, hz⟩ := I.list hq
    obtain ⟨f0, f1, f2, f3, f4, f5⟩ := hf it (by simp)
    have hl := rv.length
    exact wpAny_pyNext_list_end (I.ok.hd hc) st p.isList (by simp; omega) fun h' eb => ⟨rfl, I.turned (t' := s.toks) (fun b o hb e => eb b o hb e) f0 f1 f3 f4 f5⟩
  self := fun _ _ _ _ _ st h => wpAny_pyIter_listiter st h
theorem turn_tuple {P : Program} {w : World} {K : PySem.W.Frag} {tg : Expr} (a it : Addr) : Turn P w K tg (Itt K a) [it] it (fun i h => h.IsTupleIter it a i) where
  mem := by simp
  obj := fun i h st b hb => by
    have e : b = it := by simpa using hb
    subst e
    obtain ⟨o, e, c, d⟩ := st
    exact ⟨o, e, fun v z => by rw [d] at z; cases z⟩
  keep := fun i h h' st k => st.at fun o e => k it (by simp) o e
  item := by
    intro X hP hw hK hc i pins s σ H E I hf st hg
    subst hP hw hK
    obtain ⟨xs, x, hq, hx⟩ := hg
    obtain ⟨its, rv, p, hz⟩ := I.tuple hq
    obtain ⟨u, hu, ru⟩ := rv.get hx
    obtain ⟨f0, f1, f2, f3, f4, f5⟩ := hf it (by simp)
    refine wpAny_pyNext_tuple_item st (show s.heap.IsTuple a its.toArray from p) (x := u) (by simpa using hu) fun h' st' sb => ?_
    have I1 : Inv X pins σ H { s with heap := h' } := I.turned (t' := s.toks) (fun b o hb e => (sb.2 b hb).trans e) f0 f1 f3 f4 f5
    obtain ⟨o, e, c, d⟩ := id st'
    exact ⟨u, rfl, go_of (s := { s with heap := h' }) e c d (by decide) ⟨x, H, I1, ru, ⟨rfl, fun ys hy => by rw [I.tuple_inj hy hq]; exact hx⟩, st', fun b hb => (hf b hb).1⟩⟩
  done := by
    intro X hP hw hK hc i pins s σ H E I hf st hg
    subst hP hw hK
    obtain ⟨xs, hq, hx⟩ := hg
    obtain ⟨its, rv, p, hz⟩ := I.tuple hq
    obtain ⟨f0, f1, f2, f3, f4, f5⟩ := hf it (by simp)
    have hl := rv.length
    exact wpAny_pyNext_tuple_end (I.ok.hd hc) st (show s.heap.IsTuple a its.toArray from p) (by simp; omega) fun h' eb => ⟨rfl, I.turned (t' := s.toks) (fun b o hb e => eb b o hb e) f0 f1 f3 f4 f5⟩
  self := fun _ _ _ _ _ st h => wpAny_pyIter_tupleiter st h
theorem turn_range {P : Program} {w : World} {K : PySem.W.Frag} {tg : Expr} (it : Addr) (lo : Int) (n : Nat) : Turn P w K tg (Itr lo n) [it] it (fun i h => IsRangeIter h it (lo + (i : Nat) * 1) ((n : Int) - (i : Nat)) 1) where
  mem := by simp
  obj := fun i h st b hb => by
    have e : b = it := by simpa using hb
    subst e
    exact ⟨_, st, fun v z => by
      have z' : Data.fields _ = Data.cell v := z
      cases z'⟩
  keep := fun i h h' st k => k it (by simp) _ st
  item := by
    intro X hP hw hK hc i pins s σ H E I hf st hg
    subst hP hw hK
    obtain ⟨f0, f1, f2, f3, f4, f5⟩ := hf it (by simp)
    have W := Walks.range (prog := X.prog) (w := X.w) (I.ok.hd hc) it lo 1 n
    refine W.item i s _ _ hg st fun v h' tk hv st' kk => ?_
    obtain ⟨t, rfl⟩ := hv
    have I1 : Inv X pins σ H { s with heap := h', toks := tk } := I.turned (fun b o hb e => kk b o (by simpa using hb) e) f0 f1 f3 f4 f5
    refine ⟨_, rfl, go_of (s := { s with heap := h', toks := tk }) (n := "range_iterator") st' rfl rfl (by decide) ⟨.int (lo + i), H, I1, ⟨t, ?_⟩, ⟨rfl, rfl⟩, st', fun b hb => (hf b hb).1⟩⟩
    rw [Int.mul_one]
  done := by
    intro X hP hw hK hc i pins s σ H E I hf st hg
    subst hP hw hK
    obtain ⟨f0, f1, f2, f3, f4, f5⟩ := hf it (by simp)
    exact wpAny_pyNext_range_end (I.ok.hd hc) st (by have : n ≤ i := hg; omega) fun h' eb => ⟨rfl, I.turned (t' := s.toks) (fun b o hb e => eb b o hb e) f0 f1 f3 f4 f5⟩
  self := fun _ _ _ _ _ st h => wpAny_pyIter_rangeiter st h
end L2

namespace L2
open PySem PySem.Spec PyProof.Rows
section
variable {X : Cx} {tg : Expr}
def iList (K : PySem.W.Frag) (tl : TE) : TI := fun σ H R => tl σ H fun x H1 => ∃ a, x = .ref a ∧ (∃ xs, SqL K H1 a xs) ∧ R (Itl K a) H1
def iTup (K : PySem.W.Frag) (tl : TE) : TI := fun σ H R => tl σ H fun x H1 => ∃ a, x = .ref a ∧ (∃ xs, SqT K H1 a xs) ∧ R (Itt K a) H1
theorem pi_list {l : Expr} {tl : TE} (hl : PE X l tl) : PI X tg l (iList X.K tl) := by
  intro pins s σ H R I h
  refine thn (hl pins s σ H _ I h) fun v s1 ⟨x, H1, I1, r1, q1⟩ => ?_
  obtain ⟨a, e, ⟨xs, hq⟩, q⟩ := q1
  subst e
  cases r1
  obtain ⟨its, rv, p, hz⟩ := I1.list hq
  refine wpAny_pyIter_list p.isList ?_
  refine ⟨s1.heap.objs.size, [s1.heap.objs.size], _, _, H1, rfl, I1.kept (t' := s1.toks) fun b o e => Heap.get?_push_of_some _ e, turn_list a _, ⟨_, Heap.get?_push_size _ rfl, rfl, rfl⟩, fun b hb => ?_, q⟩
  have e : b = s1.heap.objs.size := by simpa using hb
  subst e
  exact I1.fpOk (Nat.le_refl _) (I1.hok.fresh (Nat.le_refl _))
theorem pi_tup {l : Expr} {tl : TE} (hl : PE X l tl) : PI X tg l (iTup X.K tl) := by
  intro pins s σ H R I h
  refine thn (hl pins s σ H _ I h) fun v s1 ⟨x, H1, I1, r1, q1⟩ => ?_
  obtain ⟨a, e, ⟨xs, hq⟩, q⟩ := q1
  subst e
  cases r1
  obtain ⟨its, rv, p, hz⟩ := I1.tuple hq
  refine wpAny_pyIter_tuple (show s1.heap.IsTuple a its.toArray from p) ?_
  refine ⟨s1.heap.objs.size, [s1.heap.objs.size], _, _, H1, rfl, I1.kept (t' := s1.toks) fun b o e => Heap.get?_push_of_some _ e, turn_tuple a _, ⟨_, Heap.get?_push_size _ rfl, rfl, rfl⟩, fun b hb => ?_, q⟩
  have e : b = s1.heap.objs.size := by simpa using hb
  subst e
  exact I1.fpOk (Nat.le_refl _) (I1.hok.fresh (Nat.le_refl _))
/-- a range object just made, walked -/
theorem range_it {pins : List (Addr × Obj)} {σ : St} {H : Hp} {s : Shared} {R : It → Hp → Prop} {E : Value → Shared → Prop} {lo hi : Int} {t u v : Tok} {tk : Nat} (I : Inv X pins σ H s) (h1 : -(2 ^ 62) ≤ lo) (h2 : lo < 2 ^ 62) (h3 : -(2 ^ 62) ≤ hi) (h4 : hi < 2 ^ 62)
    (q : R (Itr lo (hi - lo).toNat) H) : wpAny (model X.prog X.w) X.A (pyIter (.ref s.heap.objs.size)) (PIE X pins σ tg R) E { s with heap := s.heap.push { cls := .type "range", data := .fields #[.int lo t, .int hi u, .int 1 v] }, toks := tk } := by
  refine wpAny_pyIter_range (IsRange.new ..) (small_one h1 h2 h3 h4) ?_
  have I1 : Inv X pins σ H { s with heap := s.heap.push { cls := .type "range", data := .fields #[.int lo t, .int hi u, .int 1 v] }, toks := tk } := I.kept fun b o e => Heap.get?_push_of_some _ e
  refine ⟨(s.heap.push { cls := .type "range", data := .fields #[.int lo t, .int hi u, .int 1 v] }).objs.size, [(s.heap.push { cls := .type "range", data := .fields #[.int lo t, .int hi u, .int 1 v] }).objs.size], _, _, H, rfl,
    I1.kept (t' := tk) fun b o e => Heap.get?_push_of_some _ e, turn_range _ lo (hi - lo).toNat, ?_, fun b hb => ?_, q⟩
  · have e1 : lo + ((0 : Nat) : Int) * 1 = lo := by simp
    have e2 : (((hi - lo).toNat : Nat) : Int) - ((0 : Nat) : Int) = Builtin.Range.rangeSize lo hi 1 := by rw [rangeSize_one]; split <;> omega
    show IsRangeIter _ _ (lo + ((0 : Nat) : Int) * 1) ((((hi - lo).toNat : Nat) : Int) - ((0 : Nat) : Int)) 1
    rw [e1, e2]
    exact Heap.get?_push_size _ rfl
  · have e : b = (s.heap.push { cls := .type "range", data := .fields #[.int lo t, .int hi u, .int 1 v] }).objs.size := by simpa using hb
    subst e
    exact I1.fpOk (Nat.le_refl _) (I1.hok.fresh (Nat.le_refl _))
def iRng1 (ta : TA) : TI := fun σ H R => ta σ H fun vs H1 => ∃ j : Int, vs = [.int j] ∧ -(2 ^ 62) ≤ j ∧ j < 2 ^ 62 ∧ R (Itr 0 j.toNat) H1
def iRng2 (ta : TA) : TI := fun σ H R => ta σ H fun vs H1 => ∃ i j : Int, vs = [.int i, .int j] ∧ (-(2 ^ 62) ≤ i ∧ i < 2 ^ 62 ∧ -(2 ^ 62) ≤ j ∧ j < 2 ^ 62) ∧ R (Itr i (j - i).toNat) H1
theorem pi_range1 {a : Expr} {ta : TA} {p pos : Pos} (hg : Gl X "range") (hm : X.mg "range" = none) (ha : PA X [a] ta) (hs : starEach [a] X.env = [(false, eval a X.env)] := by rfl) : PI X tg (.Call (.Name "range" p) [a] [] pos) (iRng1 ta) := by
  intro pins s σ H R I h
  refine Call_ (ld_blt I hg hm boot_range (PyProof.Rows.callWith_type1 (thn (ha pos pins s σ H _ I h) fun us s1 ⟨vs, H1, I1, r1, q1⟩ => ?_) hs rfl))
  obtain ⟨j, e, q1, q2, q⟩ := q1
  subst e
  cases r1 with
  | cons r rr =>
    cases rr
    obtain ⟨t, rfl⟩ := r
    exact call_range_1 (range_it I1 (by omega) (by omega) q1 q2 (by simpa using q))
theorem pi_range2 {a b : Expr} {ta : TA} {p pos : Pos} (hg : Gl X "range") (hm : X.mg "range" = none) (ha : PA X [a, b] ta) (hs : starEach [a, b] X.env = [(false, eval a X.env), (false, eval b X.env)] := by rfl) (hs2 : starEach [b] X.env = [(false, eval b X.env)] := by rfl) :
    PI X tg (.Call (.Name "range" p) [a, b] [] pos) (iRng2 ta) := by
  intro pins s σ H R I h
  refine Call_ (ld_blt I hg hm boot_range (PyProof.Rows.callWith_type1 (thn (ha pos pins s σ H _ I h) fun us s1 ⟨vs, H1, I1, r1, q1⟩ => ?_) (by rw [hs, hs2]) (by rw [hs2]; rfl)))
  obtain ⟨i, j, e, ⟨q1, q2, q3, q4⟩, q⟩ := q1
  subst e
  cases r1 with
  | cons r rr =>
    cases rr with
    | cons r' rr =>
      cases rr
      obtain ⟨t, rfl⟩ := r
      obtain ⟨t', rfl⟩ := r'
      exact call_range_2 (range_it I1 q1 q2 q3 q4 q)

/-! ### for -/
/-- W: the invariant by the turn and a measure; N: what the body is to reach -/
def tFor (wi : TI) (g : TG) (tb : TS) : TS := fun D σ H => wi σ H fun J H1 => ∃ W : Nat → Nat → St → Hp → Prop, (∃ m, W 0 m σ H1) ∧ ∀ i m σ H, W i m σ H →
  (J.stop i H ∧ D.nx σ H) ∨ (J.go i H ∧ ∃ N : St → Hp → Prop, (∀ σ' H', N σ' H' → ∃ m', m' < m ∧ W (i + 1) m' σ' H') ∧ ∀ x H', J.yld i H x H' → g x σ H' fun σ2 H2 => tb { D with nx := N, ct := N, bk := D.nx } σ2 H2)
/-- the records at fp as they stand -/
def pinsAt (fp : List Addr) (h : Heap) : List (Addr × Obj) := fp.filterMap fun b => (h.get? b).map fun o => (b, o)
theorem mem_pinsAt {fp : List Addr} {h : Heap} {b : Addr} {o : Obj} (hb : b ∈ fp) (e : h.get? b = some o) : (b, o) ∈ pinsAt fp h := List.mem_filterMap.mpr ⟨b, hb, by rw [e]; rfl⟩
theorem of_pinsAt {fp : List Addr} {h : Heap} {p : Addr × Obj} (hp : p ∈ pinsAt fp h) : p.1 ∈ fp ∧ h.get? p.1 = some p.2 := by
  obtain ⟨b, hb, e⟩ := List.mem_filterMap.mp hp
  cases q : h.get? b with
  | none => rw [q] at e; cases e
  | some o =>
    rw [q] at e
    have e' : (b, o) = p := Option.some.inj e
    subst e'
    exact ⟨hb, q⟩
theorem Inv.pinned {pins : List (Addr × Obj)} {σ : St} {H : Hp} {s : Shared} {fp : List Addr} (I : Inv X pins σ H s) (hf : ∀ b ∈ fp, FpOk X pins H b) (ho : ∀ b ∈ fp, ∃ o, s.heap.get? b = some o ∧ ∀ v, o.data ≠ .cell v) : Inv X (pins ++ pinsAt fp s.heap) σ H s :=
  I.pins_of fun p hp => (List.mem_append.mp hp).elim (fun z => I.pin p (List.mem_append_right _ z)) fun z => by
    obtain ⟨hb, e⟩ := of_pinsAt z
    obtain ⟨f0, f1, f2, _⟩ := hf p.1 hb
    obtain ⟨o, e', d⟩ := ho p.1 hb
    rw [e] at e'; cases e'
    exact ⟨e, f0, f1, f2, d⟩
theorem Inv.unpinned {pins pl : List (Addr × Obj)} {σ : St} {H : Hp} {s : Shared} (I : Inv X (pins ++ pl) σ H s) : Inv X pins σ H s := I.pins_of fun p hp => I.pin p (List.mem_append_right _ (List.mem_append_left _ hp))
theorem ps_for {iter : Expr} {body : List Stmt} {wi : TI} {g : TG} {tb : TS} {pos : Pos} (hp : PassesOwn (model X.prog X.w) X.A X.env X.xe) (hc : X.calm = true) (hi : PI X tg iter wi) (hg : PG X tg g) (hb : PSs X body tb)
    (hs : ∀ x, foldedSetIterable iter X.env x = pure x := by intro _; rfl) : PS X (.For tg iter body [] pos) (tFor wi g tb) := by
  intro pins s σ H D I h
  refine wpAny_For (thn (hi pins s σ H _ I h) fun v s1 h1 => thn h1 fun itv s2 h2 => ?_) hs
  obtain ⟨it, fp, tn, J, H2, e, I2, T, st2, f2, W, ⟨m0, w0⟩, turn⟩ := h2
  subst e
  -- what stays true of the iterator's objects through the loop
  have stat : ∀ {H' : Hp}, (∀ b ∈ fp, H' b = none) → ∀ b ∈ fp, FpOk X pins H' b := fun hn b hb => ⟨hn b hb, (f2 b hb).2⟩
  refine codeAny_forLoop_any (fun n s' => ∃ i σ' H', Inv X pins σ' H' s' ∧ tn i s'.heap ∧ (∀ b ∈ fp, H' b = none) ∧ W i n σ' H') ?_ m0 ⟨0, σ, H2, I2, st2, fun b hb => (f2 b hb).1, w0⟩
  rintro n s3 ⟨i, σ3, H3, I3, st3, fr3, w3⟩
  rcases turn i n σ3 H3 w3 with ⟨stop, qn⟩ | ⟨go, N, hN, step⟩
  · refine wpAny_passesOwn hp (thn (T.done X rfl rfl rfl hc i pins s3 σ3 H3 X.xe I3 (stat fr3) st3 stop) fun r s4 ⟨hr, I4⟩ => ?_)
    subst hr
    exact wpAny_execs_nil ⟨σ3, H3, I4, qn⟩
  · refine wpAny_passesOwn hp (thn (T.item X rfl rfl rfl hc i pins s3 σ3 H3 X.xe I3 (stat fr3) st3 go) fun r s4 ⟨u, hr, h4⟩ => ?_)
    subst hr
    refine wpAny_passesOwn hp (thn h4 fun _ s5 ⟨x, H5, I5, r5, y5, st5, fr5⟩ => ?_)
    have I5' := I5.pinned (stat fr5) (T.obj _ _ st5)
    refine wpAny_passesOwn hp (thn (hg _ s5 σ3 H5 x u _ I5' r5 (step x H5 y5)) fun _ s6 ⟨σ6, H6, I6, q6⟩ => ?_)
    refine wpAny_passesOwn hp (thn (hb _ s6 σ6 H6 _ I6 q6) fun f s7 q7 => ?_)
    have again : ∀ {σ7 : St} {H7 : Hp}, Inv X (pins ++ pinsAt fp s5.heap) σ7 H7 s7 → N σ7 H7 → ∃ m, m < n ∧ ∃ i σ' H', Inv X pins σ' H' s7 ∧ tn i s7.heap ∧ (∀ b ∈ fp, H' b = none) ∧ W i m σ' H' := fun {σ7 H7} I7 n7 => by
      obtain ⟨m', hm, w7⟩ := hN σ7 H7 n7
      refine ⟨m', hm, i + 1, σ7, H7, I7.unpinned, T.keep _ _ _ st5 fun b hb o e => (I7.pin (b, o) (List.mem_append_right _ (List.mem_append_right _ (mem_pinsAt hb e)))).1, fun b hb => ?_, w7⟩
      obtain ⟨o, e, d⟩ := T.obj _ _ st5 b hb
      exact (I7.pin (b, o) (List.mem_append_right _ (List.mem_append_right _ (mem_pinsAt hb e)))).2.1
    cases f with
    | next => obtain ⟨σ7, H7, I7, n7⟩ := q7; exact again I7 n7
    | cont => obtain ⟨σ7, H7, I7, n7⟩ := q7; exact again I7 n7
    | brk => obtain ⟨σ7, H7, I7, q7⟩ := q7; exact ⟨σ7, H7, I7.unpinned, q7⟩
    | ret v => obtain ⟨x7, σ7, H7, I7, r7, q7⟩ := q7; exact ⟨x7, σ7, H7, I7.unpinned, r7, q7⟩
end

/-! ### the forms one uses -/
/-- over a list that the body leaves as it is -/
theorem for_list {K : PySem.W.Frag} {a : Addr} {xs : List V} {g : TG} {tb : TS} {D : Ends} {σ : St} {H : Hp} (Pv : Nat → St → Hp → Prop) (h0 : Pv 0 σ H) (hl : ∀ i σ H, i ≤ xs.length → Pv i σ H → SqL K H a xs)
    (hs : ∀ i x σ H, xs[i]? = some x → Pv i σ H → g x σ H fun σ2 H2 => tb { D with nx := Pv (i + 1), ct := Pv (i + 1), bk := D.nx } σ2 H2) (hd : ∀ σ H, Pv xs.length σ H → D.nx σ H) :
    ∃ W : Nat → Nat → St → Hp → Prop, (∃ m, W 0 m σ H) ∧ ∀ i m σ H, W i m σ H →
      ((Itl K a).stop i H ∧ D.nx σ H) ∨ ((Itl K a).go i H ∧ ∃ N : St → Hp → Prop, (∀ σ' H', N σ' H' → ∃ m', m' < m ∧ W (i + 1) m' σ' H') ∧ ∀ x H', (Itl K a).yld i H x H' → g x σ H' fun σ2 H2 => tb { D with nx := N, ct := N, bk := D.nx } σ2 H2) := by
  refine ⟨fun i m σ H => m = xs.length - i ∧ i ≤ xs.length ∧ Pv i σ H, ⟨xs.length, by simp, Nat.zero_le _, h0⟩, ?_⟩
  rintro i m σ H ⟨rfl, hi, p⟩
  have q := hl i σ H hi p
  by_cases hlt : i < xs.length
  · refine .inr ⟨⟨xs, xs[i], q, by simp [hlt]⟩, Pv (i + 1), fun σ' H' p' => ⟨xs.length - (i + 1), by omega, rfl, hlt, p'⟩, fun x H' y => ?_⟩
    obtain ⟨e, y⟩ := y
    subst e
    exact hs i x σ _ (y xs q) p
  · have e : i = xs.length := by omega
    subst e
    exact .inl ⟨⟨xs, q, Nat.le_refl _⟩, hd σ H p⟩
theorem for_tup {K : PySem.W.Frag} {a : Addr} {xs : List V} {g : TG} {tb : TS} {D : Ends} {σ : St} {H : Hp} (Pv : Nat → St → Hp → Prop) (h0 : Pv 0 σ H) (hl : ∀ i σ H, i ≤ xs.length → Pv i σ H → SqT K H a xs)
    (hs : ∀ i x σ H, xs[i]? = some x → Pv i σ H → g x σ H fun σ2 H2 => tb { D with nx := Pv (i + 1), ct := Pv (i + 1), bk := D.nx } σ2 H2) (hd : ∀ σ H, Pv xs.length σ H → D.nx σ H) :
    ∃ W : Nat → Nat → St → Hp → Prop, (∃ m, W 0 m σ H) ∧ ∀ i m σ H, W i m σ H →
      ((Itt K a).stop i H ∧ D.nx σ H) ∨ ((Itt K a).go i H ∧ ∃ N : St → Hp → Prop, (∀ σ' H', N σ' H' → ∃ m', m' < m ∧ W (i + 1) m' σ' H') ∧ ∀ x H', (Itt K a).yld i H x H' → g x σ H' fun σ2 H2 => tb { D with nx := N, ct := N, bk := D.nx } σ2 H2) := by
  refine ⟨fun i m σ H => m = xs.length - i ∧ i ≤ xs.length ∧ Pv i σ H, ⟨xs.length, by simp, Nat.zero_le _, h0⟩, ?_⟩
  rintro i m σ H ⟨rfl, hi, p⟩
  have q := hl i σ H hi p
  by_cases hlt : i < xs.length
  · refine .inr ⟨⟨xs, xs[i], q, by simp [hlt]⟩, Pv (i + 1), fun σ' H' p' => ⟨xs.length - (i + 1), by omega, rfl, hlt, p'⟩, fun x H' y => ?_⟩
    obtain ⟨e, y⟩ := y
    subst e
    exact hs i x σ _ (y xs q) p
  · have e : i = xs.length := by omega
    subst e
    exact .inl ⟨⟨xs, q, Nat.le_refl _⟩, hd σ H p⟩
theorem for_range {lo : Int} {n : Nat} {g : TG} {tb : TS} {D : Ends} {σ : St} {H : Hp} (Pv : Nat → St → Hp → Prop) (h0 : Pv 0 σ H)
    (hs : ∀ i σ H, i < n → Pv i σ H → g (.int (lo + i)) σ H fun σ2 H2 => tb { D with nx := Pv (i + 1), ct := Pv (i + 1), bk := D.nx } σ2 H2) (hd : ∀ σ H, Pv n σ H → D.nx σ H) :
    ∃ W : Nat → Nat → St → Hp → Prop, (∃ m, W 0 m σ H) ∧ ∀ i m σ H, W i m σ H →
      ((Itr lo n).stop i H ∧ D.nx σ H) ∨ ((Itr lo n).go i H ∧ ∃ N : St → Hp → Prop, (∀ σ' H', N σ' H' → ∃ m', m' < m ∧ W (i + 1) m' σ' H') ∧ ∀ x H', (Itr lo n).yld i H x H' → g x σ H' fun σ2 H2 => tb { D with nx := N, ct := N, bk := D.nx } σ2 H2) := by
  refine ⟨fun i m σ H => m = n - i ∧ i ≤ n ∧ Pv i σ H, ⟨n, by simp, Nat.zero_le _, h0⟩, ?_⟩
  rintro i m σ H ⟨rfl, hi, p⟩
  by_cases hlt : i < n
  · refine .inr ⟨hlt, Pv (i + 1), fun σ' H' p' => ⟨n - (i + 1), by omega, rfl, hlt, p'⟩, fun x H' y => ?_⟩
    obtain ⟨e, y⟩ := y
    subst e y
    exact hs i σ _ hlt p
  · have e : i = n := by omega
    subst e
    exact .inl ⟨Nat.le_refl _, hd σ H p⟩
/-- while, by a word and a measure of the state -/
theorem while_by {c : TT} {tb : TS} {D : Ends} {σ : St} {H : Hp} (Pv : St → Hp → Prop) (μ : St → Hp → Nat) (h0 : Pv σ H)
    (hs : ∀ σ H, Pv σ H → c σ H fun b H1 => if b = true then tb { D with nx := fun σ' H' => Pv σ' H' ∧ μ σ' H' < μ σ H, ct := fun σ' H' => Pv σ' H' ∧ μ σ' H' < μ σ H, bk := D.nx } σ H1 else D.nx σ H1)
    (mono : ∀ σ H Q Q', (∀ b H1, Q b H1 → Q' b H1) → c σ H Q → c σ H Q') : tWhile c tb D σ H := by
  refine ⟨fun m σ H => m = μ σ H ∧ Pv σ H, ⟨_, rfl, h0⟩, ?_⟩
  rintro m σ H ⟨rfl, p⟩
  refine mono σ H _ _ (fun b H1 q => ?_) (hs σ H p)
  cases b with
  | true => exact ⟨_, fun σ' H' ⟨p', l⟩ => ⟨_, l, rfl, p'⟩, q⟩
  | false => exact q
end L2

namespace L2
open PySem PySem.Spec PyProof.Rows

abbrev R2 := V → V → Hp → VK → Prop
/-- a two-place operation on values: f is binaryOp op, inplaceOp op or compareOp op -/
def OpR (X : Cx) (f : Value → Value → Sem Value) (r : R2) : Prop :=
  ∀ (pins : List (Addr × Obj)) (s : Shared) (σ : St) (H : Hp) (x y : V) (v u : Value) (Q : VK), Inv X pins σ H s → RelV x v → RelV y u → r x y H Q →
    wpAny (model X.prog X.w) X.A (f v u) (EP X pins σ Q) X.xe s
/-- a one-place operation -/
def UnR (X : Cx) (f : Value → Sem Value) (r : V → Hp → VK → Prop) : Prop :=
  ∀ (pins : List (Addr × Obj)) (s : Shared) (σ : St) (H : Hp) (x : V) (v : Value) (Q : VK), Inv X pins σ H s → RelV x v → r x H Q →
    wpAny (model X.prog X.w) X.A (f v) (EP X pins σ Q) X.xe s
/-- a call of a value that is known (a builtin, a type) with values -/
def CallR (X : Cx) (f : Value) (r : List V → Hp → VK → Prop) : Prop :=
  ∀ (pins : List (Addr × Obj)) (s : Shared) (σ : St) (H : Hp) (xs : List V) (us : List Value) (Q : VK), Inv X pins σ H s → Vals xs us → r xs H Q →
    wpAny (model X.prog X.w) X.A (call f us) (EP X pins σ Q) X.xe s
/-- a value's truth -/
def TruR (X : Cx) (r : V → Hp → (Bool → Hp → Prop) → Prop) : Prop :=
  ∀ (pins : List (Addr × Obj)) (s : Shared) (σ : St) (H : Hp) (x : V) (v : Value) (Q : Bool → Hp → Prop), Inv X pins σ H s → RelV x v → r x H Q →
    wpAny (model X.prog X.w) X.A (truthy v) (TP X pins σ Q) X.xe s

def tOp (r : R2) (ta tb : TE) : TE := fun σ H Q => ta σ H fun x H1 => tb σ H1 fun y H2 => r x y H2 Q
def tUn (r : V → Hp → VK → Prop) (ta : TE) : TE := fun σ H Q => ta σ H fun x H1 => r x H1 Q
/-- ints in, under C, and a value out -/
def rI (C : Int → Int → Prop) (g : Int → Int → V) : R2 := fun x y H Q => ∃ i j, x = .int i ∧ y = .int j ∧ C i j ∧ Q (g i j) H
def rI0 (g : Int → Int → V) : R2 := fun x y H Q => ∃ i j, x = .int i ∧ y = .int j ∧ Q (g i j) H
def rU (g : Int → V) : V → Hp → VK → Prop := fun x H Q => ∃ i, x = .int i ∧ Q (g i) H

section
variable {X : Cx} {a b c : Expr} {ta tb tc : TE} {pos : Pos}

theorem binT (ha : PE X a ta) (hb : PE X b tb) {pins : List (Addr × Obj)} {s : Shared} {σ : St} {H : Hp} {R : V → V → Hp → Prop} (I : Inv X pins σ H s)
    (h : ta σ H fun x H1 => tb σ H1 fun y H2 => R x y H2) {Q : Value → Shared → Prop} {f : Value → Value → Sem Value}
    (hf : ∀ v u s2 x y H2, Inv X pins σ H2 s2 → RelV x v → RelV y u → R x y H2 → wpAny (model X.prog X.w) X.A (f v u) Q X.xe s2) :
    wpAny (model X.prog X.w) X.A (eval a X.env) (fun v s₁ => wpAny (model X.prog X.w) X.A (eval b X.env) (fun u s₂ => wpAny (model X.prog X.w) X.A (f v u) Q X.xe s₂) X.xe s₁) X.xe s := by
  refine thn (ha pins s σ H _ I h) fun v s1 ⟨x, H1, I1, r1, q1⟩ => ?_
  refine thn (hb pins s1 σ H1 _ I1 q1) fun u s2 ⟨y, H2, I2, r2, q2⟩ => ?_
  exact hf v u s2 x y H2 I2 r1 r2 q2

theorem pe_op {op : Operator} {r : R2} (ho : OpR X (binaryOp op) r) (ha : PE X a ta) (hb : PE X b tb) : PE X (.BinOp a op b pos) (tOp r ta tb) := by
  intro pins s σ H Q I h
  exact wpAny_BinOp (binT ha hb I h fun v u s2 x y H2 I2 rx ry q => ho pins s2 σ H2 x y v u Q I2 rx ry q)
theorem pe_un {op : UnaryOp} {r : V → Hp → VK → Prop} (ho : UnR X (unaryOp op) r) (ha : PE X a ta) : PE X (.UnaryOp op a pos) (tUn r ta) := by
  intro pins s σ H Q I h
  exact UnaryOp_ (thn (ha pins s σ H _ I h) fun v s1 ⟨x, H1, I1, r1, q1⟩ => ho pins s1 σ H1 x v Q I1 r1 q1)
/-- a op= e at a name: the name's slot i -/
theorem augR {op : Operator} {r : R2} (ho : OpR X (inplaceOp op) r) {pins : List (Addr × Obj)} {s : Shared} {σ : St} {H : Hp} {x y : V} {v u : Value} {Q : VK} (I : Inv X pins σ H s)
    (rx : RelV x v) (ry : RelV y u) (q : r x y H Q) : wpAny (model X.prog X.w) X.A (inplaceOp op v u) (EP X pins σ Q) X.xe s := ho pins s σ H x y v u Q I rx ry q

/-! ### ints -/
theorem opI {f : Value → Value → Sem Value} {C : Int → Int → Prop} {g : Int → Int → Int}
    (rule : ∀ (i j : Int) (t u : Tok) (s : Shared) (Q : Value → Shared → Prop) (E : Value → Shared → Prop), C i j → Q (.int (g i j) s.toks) { s with toks := s.toks + 1 } → wpAny (model X.prog X.w) X.A (f (.int i t) (.int j u)) Q E s) :
    OpR X f (rI C fun i j => .int (g i j)) := by
  intro pins s σ H x y v u Q I rx ry h
  obtain ⟨i, j, rfl, rfl, hc, q⟩ := h
  obtain ⟨t, rfl⟩ := rx
  obtain ⟨t', rfl⟩ := ry
  exact rule i j t t' s _ _ hc ⟨.int (g i j), H, I.tok _, ⟨_, rfl⟩, q⟩
theorem opI0 {f : Value → Value → Sem Value} {g : Int → Int → Int}
    (rule : ∀ (i j : Int) (t u : Tok) (s : Shared) (Q : Value → Shared → Prop) (E : Value → Shared → Prop), Q (.int (g i j) s.toks) { s with toks := s.toks + 1 } → wpAny (model X.prog X.w) X.A (f (.int i t) (.int j u)) Q E s) :
    OpR X f (rI0 fun i j => .int (g i j)) := by
  intro pins s σ H x y v u Q I rx ry h
  obtain ⟨i, j, rfl, rfl, q⟩ := h
  obtain ⟨t, rfl⟩ := rx
  obtain ⟨t', rfl⟩ := ry
  exact rule i j t t' s _ _ ⟨.int (g i j), H, I.tok _, ⟨_, rfl⟩, q⟩
theorem opB0 {f : Value → Value → Sem Value} {g : Int → Int → Bool}
    (rule : ∀ (i j : Int) (t u : Tok) (s : Shared) (Q : Value → Shared → Prop) (E : Value → Shared → Prop), Q (.bool (g i j)) s → wpAny (model X.prog X.w) X.A (f (.int i t) (.int j u)) Q E s) :
    OpR X f (rI0 fun i j => .bl (g i j)) := by
  intro pins s σ H x y v u Q I rx ry h
  obtain ⟨i, j, rfl, rfl, q⟩ := h
  obtain ⟨t, rfl⟩ := rx
  obtain ⟨t', rfl⟩ := ry
  exact rule i j t t' s _ _ ⟨.bl (g i j), H, I, rfl, q⟩

def CDiv (i j : Int) : Prop := 0 < j ∧ j < 1073741824
def CDivN (i j : Int) : Prop := j ≠ 0 ∧ j.natAbs < 1073741824
def CPow (i j : Int) : Prop := 0 ≤ j ∧ j ≤ 1000000 ∧ i.natAbs < 2 ^ 64
def CMul (i j : Int) : Prop := (-(2 ^ 64) < i ∧ i < 2 ^ 64) ∨ (-(2 ^ 64) < j ∧ j < 2 ^ 64)
theorem CMul.ok {i j : Int} (h : CMul i j) : IntMulOk i j := by
  rcases h with ⟨h1, h2⟩ | ⟨h1, h2⟩
  · exact .of_left (intBits_le_64 h1 h2)
  · exact .of_right (intBits_le_64 h1 h2)
theorem two_pow_nn (k : Nat) : (0 : Int) ≤ 2 ^ k := by
  rw [two_pow_cast]
  exact Int.natCast_nonneg _

theorem op_add : OpR X (binaryOp .Add) (rI0 fun i j => .int (i + j)) := opI0 fun _ _ _ _ _ _ _ q => add_int q
theorem op_sub : OpR X (binaryOp .Sub) (rI0 fun i j => .int (i - j)) := opI0 fun _ _ _ _ _ _ _ q => sub_int q
theorem op_mul : OpR X (binaryOp .Mult) (rI CMul fun i j => .int (i * j)) := opI fun _ _ _ _ _ _ _ hc q => mul_int q hc.ok
/-- // by a positive divisor -/
theorem op_fdiv : OpR X (binaryOp .FloorDiv) (rI CDiv fun i j => .int (i / j)) := opI fun i j _ _ _ _ _ hc q => by
  have h1 : (0 : Int) < j := hc.1
  have h2 : j < 1073741824 := hc.2
  exact floordiv_int (by omega) (by rw [Int.fdiv_eq_ediv_of_nonneg i (by omega)]; exact q) (.inl (PyProof.noPylong_small (by omega)))
theorem op_fdivN : OpR X (binaryOp .FloorDiv) (rI CDivN fun i j => .int (i.fdiv j)) := opI fun _ _ _ _ _ _ _ hc q => floordiv_int hc.1 q (.inl (PyProof.noPylong_small hc.2))
/-- % by a positive divisor of any size -/
theorem op_mod : OpR X (binaryOp .Mod) (rI (fun _ j => 0 < j) fun i j => .int (i % j)) := opI fun i j _ _ _ _ _ hc q => by
  have h1 : (0 : Int) < j := hc
  exact mod_int' (by omega) (by rw [Int.fmod_eq_emod_of_nonneg i (by omega)]; exact q)
theorem op_modN : OpR X (binaryOp .Mod) (rI (fun _ j => j ≠ 0) fun i j => .int (i.fmod j)) := opI fun _ _ _ _ _ _ _ hc q => mod_int' hc q
theorem op_pow : OpR X (binaryOp .Pow) (rI CPow fun i j => .int (i ^ j.toNat)) := opI fun _ _ _ _ _ _ _ hc q => pow_int_small hc.1 hc.2.1 hc.2.2 q
theorem op_shl : OpR X (binaryOp .LShift) (rI CPow fun i j => .int (i * 2 ^ j.toNat)) := opI fun _ _ _ _ _ _ _ hc q => lshift_int_small hc.1 hc.2.1 hc.2.2 q
theorem op_shr : OpR X (binaryOp .RShift) (rI (fun _ j => 0 ≤ j) fun i j => .int (i / 2 ^ j.toNat)) := opI fun i j _ _ _ _ _ hc q =>
  rshift_int hc (by rw [Int.fdiv_eq_ediv_of_nonneg i (two_pow_nn _)]; exact q)
theorem op_and : OpR X (binaryOp .BitAnd) (rI0 fun i j => .int (Builtin.bitAnd i j)) := opI0 fun _ _ _ _ _ _ _ q => and_int q
theorem op_or : OpR X (binaryOp .BitOr) (rI0 fun i j => .int (Builtin.bitOr i j)) := opI0 fun _ _ _ _ _ _ _ q => or_int q
theorem op_xor : OpR X (binaryOp .BitXor) (rI0 fun i j => .int (Builtin.bitXor i j)) := opI0 fun _ _ _ _ _ _ _ q => xor_int q

theorem iop_add : OpR X (inplaceOp .Add) (rI0 fun i j => .int (i + j)) := opI0 fun _ _ _ _ _ _ _ q => iadd_int q
theorem iop_sub : OpR X (inplaceOp .Sub) (rI0 fun i j => .int (i - j)) := opI0 fun _ _ _ _ _ _ _ q => isub_int q
theorem iop_mul : OpR X (inplaceOp .Mult) (rI CMul fun i j => .int (i * j)) := opI fun _ _ _ _ _ _ _ hc q => imul_int q hc.ok
theorem iop_fdiv : OpR X (inplaceOp .FloorDiv) (rI CDiv fun i j => .int (i / j)) := opI fun i j _ _ _ _ _ hc q => by
  have h1 : (0 : Int) < j := hc.1
  have h2 : j < 1073741824 := hc.2
  exact ifloordiv_int (by omega) (by rw [Int.fdiv_eq_ediv_of_nonneg i (by omega)]; exact q) (.inl (PyProof.noPylong_small (by omega)))
theorem iop_mod : OpR X (inplaceOp .Mod) (rI (fun _ j => 0 < j) fun i j => .int (i % j)) := opI fun i j _ _ _ _ _ hc q => by
  have h1 : (0 : Int) < j := hc
  exact imod_int (by omega) (by rw [Int.fmod_eq_emod_of_nonneg i (by omega)]; exact q)
theorem iop_shl : OpR X (inplaceOp .LShift) (rI CPow fun i j => .int (i * 2 ^ j.toNat)) := opI fun _ _ _ _ _ _ _ hc q => ilshift_int_small hc.1 hc.2.1 hc.2.2 q
theorem iop_shr : OpR X (inplaceOp .RShift) (rI (fun _ j => 0 ≤ j) fun i j => .int (i / 2 ^ j.toNat)) := opI fun i j _ _ _ _ _ hc q =>
  irshift_int hc (by rw [Int.fdiv_eq_ediv_of_nonneg i (two_pow_nn _)]; exact q)
theorem iop_and : OpR X (inplaceOp .BitAnd) (rI0 fun i j => .int (Builtin.bitAnd i j)) := opI0 fun _ _ _ _ _ _ _ q => iand_int q
theorem iop_or : OpR X (inplaceOp .BitOr) (rI0 fun i j => .int (Builtin.bitOr i j)) := opI0 fun _ _ _ _ _ _ _ q => ior_int q
theorem iop_xor : OpR X (inplaceOp .BitXor) (rI0 fun i j => .int (Builtin.bitXor i j)) := opI0 fun _ _ _ _ _ _ _ q => ixor_int q

theorem unI {f : Value → Sem Value} {g : Int → Int}
    (rule : ∀ (i : Int) (t : Tok) (s : Shared) (Q : Value → Shared → Prop) (E : Value → Shared → Prop), Q (.int (g i) s.toks) { s with toks := s.toks + 1 } → wpAny (model X.prog X.w) X.A (f (.int i t)) Q E s) :
    UnR X f (rU fun i => .int (g i)) := by
  intro pins s σ H x v Q I rx h
  obtain ⟨i, rfl, q⟩ := h
  obtain ⟨t, rfl⟩ := rx
  exact rule i t s _ _ ⟨.int (g i), H, I.tok _, ⟨_, rfl⟩, q⟩
theorem un_neg : UnR X (unaryOp .USub) (rU fun i => .int (-i)) := unI fun _ _ _ _ _ q => neg_int q
theorem un_inv : UnR X (unaryOp .Invert) (rU fun i => .int (Builtin.bitNot i)) := unI fun _ _ _ _ _ q => invert_int q

/-! ### bools among ints: n += (a < b) -/
theorem op_add_ib : OpR X (binaryOp .Add) (fun x y H Q => ∃ i k, x = .int i ∧ y = .bl k ∧ Q (.int (i + b2i k)) H) := by
  intro pins s σ H x y v u Q I rx ry h
  obtain ⟨i, k, rfl, rfl, q⟩ := h
  obtain ⟨t, rfl⟩ := rx
  cases ry
  exact add_int_bool ⟨.int (i + b2i k), H, I.tok _, ⟨_, rfl⟩, q⟩
end

/-! ### comparisons -/
/-- the scalars that == tells apart as data does -/
def scal : V → V → Bool
  | .non, .non => true | .non, .int _ => true | .int _, .non => true | .non, .bl _ => true | .bl _, .non => true | .non, .str _ => true | .str _, .non => true
  | .int _, .int _ => true | .bl _, .bl _ => true | .str _, .str _ => true | .byt _, .byt _ => true
  | .int _, .str _ => true | .str _, .int _ => true | .bl _, .str _ => true | .str _, .bl _ => true
  | _, _ => false
def rEq : R2 := fun x y H Q => scal x y = true ∧ Q (.bl (decide (x = y))) H
def rNe : R2 := fun x y H Q => scal x y = true ∧ Q (.bl (!decide (x = y))) H

theorem dec_int {i j : Int} : decide (V.int i = V.int j) = (i == j) := by
  rw [Bool.eq_iff_iff]
  simp
theorem dec_bl {i j : Bool} : decide (V.bl i = V.bl j) = (i == j) := by
  rw [Bool.eq_iff_iff]
  simp
theorem dec_str {i j : Str} : decide (V.str i = V.str j) = (i == j) := by
  rw [Bool.eq_iff_iff]
  simp
theorem dec_byt {i j : Array UInt8} : decide (V.byt i = V.byt j) = (i.toList == j.toList) := by
  rw [Bool.eq_iff_iff]
  cases i
  cases j
  simp

section
variable {X : Cx} {a b c : Expr} {ta tb tc : TE} {pos : Pos}
theorem fin_bl {pins : List (Addr × Obj)} {σ : St} {H : Hp} {s : Shared} {Q : VK} {k k' : Bool} (I : Inv X pins σ H s) (q : Q (.bl k) H) (e : k = k') : EP X pins σ Q (.bool k') s := by
  subst e
  exact ⟨.bl k, H, I, rfl, q⟩
theorem op_eq : OpR X (compareOp .Eq) rEq := by
  intro pins s σ H x y v u Q I rx ry h
  obtain ⟨hs, q⟩ := h
  cases x with
  | non =>
    cases rx
    cases y with
    | non => cases ry; exact PySem.EqNone.eq_none_none (fin_bl I q (by simp))
    | bl j => cases ry; exact PySem.EqNone.eq_none_bool (fin_bl I q (by simp))
    | int j => obtain ⟨t', rfl⟩ := ry; exact PySem.EqNone.eq_none_int (fin_bl I q (by simp))
    | str j => obtain ⟨t', rfl⟩ := ry; exact PySem.EqNone.eq_none_str (fin_bl I q (by simp))
    | _ => exact absurd (show false = true from hs) Bool.false_ne_true
  | bl i =>
    cases rx
    cases y with
    | non => cases ry; exact PySem.EqNone.eq_bool_none (fin_bl I q (by simp))
    | bl j => cases ry; exact eq_bool (fin_bl I q dec_bl)
    | str j => obtain ⟨t', rfl⟩ := ry; exact PySem.EqMixed.eq_bool_str (fin_bl I q (by simp))
    | _ => exact absurd (show false = true from hs) Bool.false_ne_true
  | int i =>
    obtain ⟨t, rfl⟩ := rx
    cases y with
    | non => cases ry; exact PySem.EqNone.eq_int_none (fin_bl I q (by simp))
    | int j => obtain ⟨t', rfl⟩ := ry; exact eq_int (fin_bl I q dec_int)
    | str j => obtain ⟨t', rfl⟩ := ry; exact PySem.EqMixed.eq_int_str (fin_bl I q (by simp))
    | _ => exact absurd (show false = true from hs) Bool.false_ne_true
  | str i =>
    obtain ⟨t, rfl⟩ := rx
    cases y with
    | non => cases ry; exact PySem.EqNone.eq_str_none (fin_bl I q (by simp))
    | bl j => cases ry; exact PySem.EqMixed.eq_str_bool (fin_bl I q (by simp))
    | int j => obtain ⟨t', rfl⟩ := ry; exact PySem.EqMixed.eq_str_int (fin_bl I q (by simp))
    | str j => obtain ⟨t', rfl⟩ := ry; exact eq_str (fin_bl I q dec_str)
    | _ => exact absurd (show false = true from hs) Bool.false_ne_true
  | byt i =>
    obtain ⟨t, rfl⟩ := rx
    cases y with
    | byt j => obtain ⟨t', rfl⟩ := ry; exact PySem.W.eq_bytes (fin_bl I q dec_byt)
    | _ => exact absurd (show false = true from hs) Bool.false_ne_true
  | _ => cases y <;> exact absurd (show false = true from hs) Bool.false_ne_true
theorem op_ne : OpR X (compareOp .NotEq) rNe := by
  intro pins s σ H x y v u Q I rx ry h
  obtain ⟨hs, q⟩ := h
  cases x with
  | non =>
    cases rx
    cases y with
    | non => cases ry; exact PySem.EqNone.ne_none_none (fin_bl I q (by simp))
    | bl j => cases ry; exact PySem.EqNone.ne_none_bool (fin_bl I q (by simp))
    | int j => obtain ⟨t', rfl⟩ := ry; exact PySem.EqNone.ne_none_int (fin_bl I q (by simp))
    | str j => obtain ⟨t', rfl⟩ := ry; exact PySem.EqNone.ne_none_str (fin_bl I q (by simp))
    | _ => exact absurd (show false = true from hs) Bool.false_ne_true
  | bl i =>
    cases rx
    cases y with
    | non => cases ry; exact PySem.EqNone.ne_bool_none (fin_bl I q (by simp))
    | bl j => cases ry; exact ne_bool (fin_bl I q (congrArg not dec_bl))
    | str j => obtain ⟨t', rfl⟩ := ry; exact PySem.EqMixed.ne_bool_str (fin_bl I q (by simp))
    | _ => exact absurd (show false = true from hs) Bool.false_ne_true
  | int i =>
    obtain ⟨t, rfl⟩ := rx
    cases y with
    | non => cases ry; exact PySem.EqNone.ne_int_none (fin_bl I q (by simp))
    | int j => obtain ⟨t', rfl⟩ := ry; exact ne_int (fin_bl I q (congrArg not dec_int))
    | str j => obtain ⟨t', rfl⟩ := ry; exact PySem.EqMixed.ne_int_str (fin_bl I q (by simp))
    | _ => exact absurd (show false = true from hs) Bool.false_ne_true
  | str i =>
    obtain ⟨t, rfl⟩ := rx
    cases y with
    | non => cases ry; exact PySem.EqNone.ne_str_none (fin_bl I q (by simp))
    | bl j => cases ry; exact PySem.EqMixed.ne_str_bool (fin_bl I q (by simp))
    | int j => obtain ⟨t', rfl⟩ := ry; exact PySem.EqMixed.ne_str_int (fin_bl I q (by simp))
    | str j => obtain ⟨t', rfl⟩ := ry; exact ne_str (fin_bl I q (congrArg not dec_str))
    | _ => exact absurd (show false = true from hs) Bool.false_ne_true
  | byt i =>
    obtain ⟨t, rfl⟩ := rx
    cases y with
    | byt j => obtain ⟨t', rfl⟩ := ry; exact PySem.W.ne_bytes (fin_bl I q (congrArg not dec_byt))
    | _ => exact absurd (show false = true from hs) Bool.false_ne_true
  | _ => cases y <;> exact absurd (show false = true from hs) Bool.false_ne_true

theorem op_lt : OpR X (compareOp .Lt) (rI0 fun i j => .bl (decide (i < j))) := opB0 fun _ _ _ _ _ _ _ q => lt_int q
theorem op_le : OpR X (compareOp .LtE) (rI0 fun i j => .bl (decide (i ≤ j))) := opB0 fun _ _ _ _ _ _ _ q => le_int q
theorem op_gt : OpR X (compareOp .Gt) (rI0 fun i j => .bl (decide (j < i))) := opB0 fun _ _ _ _ _ _ _ q => gt_int q
theorem op_ge : OpR X (compareOp .GtE) (rI0 fun i j => .bl (decide (j ≤ i))) := opB0 fun _ _ _ _ _ _ _ q => ge_int q
theorem op_lt_str : OpR X (compareOp .Lt) (fun x y H Q => ∃ i j, x = .str i ∧ y = .str j ∧ Q (.bl (decide (i.cps.toList < j.cps.toList))) H) := by
  intro pins s σ H x y v u Q I rx ry h
  obtain ⟨i, j, rfl, rfl, q⟩ := h
  obtain ⟨t, rfl⟩ := rx
  obtain ⟨t', rfl⟩ := ry
  exact lt_str (fin_bl I q rfl)
/-- the one string within the other -/
theorem op_in_str : OpR X (compareOp .In) (fun x y H Q => ∃ i j, x = .str i ∧ y = .str j ∧ Q (.bl (!(Builtin.Str.occurrences j i 0 j.length 1).isEmpty)) H) := by
  intro pins s σ H x y v u Q I rx ry h
  obtain ⟨i, j, rfl, rfl, q⟩ := h
  obtain ⟨t, rfl⟩ := rx
  obtain ⟨t', rfl⟩ := ry
  exact in_str (fin_bl I q rfl)

/-- is None, is not None: the right side a value none -/
theorem op_isN : OpR X (compareOp .Is) (fun x y H Q => y = .non ∧ Q (.bl (decide (x = .non))) H) := by
  intro pins s σ H x y v u Q I rx ry h
  obtain ⟨rfl, q⟩ := h
  cases ry
  refine is_none_gen (fin_bl I q ?_)
  cases x <;> first
    | (cases rx; rfl)
    | (obtain ⟨t, rfl⟩ := rx; rfl)
theorem op_notN : OpR X (compareOp .IsNot) (fun x y H Q => y = .non ∧ Q (.bl (!decide (x = .non))) H) := by
  intro pins s σ H x y v u Q I rx ry h
  obtain ⟨rfl, q⟩ := h
  cases ry
  refine isnot_none_gen (fin_bl I q ?_)
  cases x <;> first
    | (cases rx; rfl)
    | (obtain ⟨t, rfl⟩ := rx; rfl)

theorem op_notin_str : OpR X (compareOp .NotIn) (fun x y H Q => ∃ i j, x = .str i ∧ y = .str j ∧ Q (.bl (!(!(Builtin.Str.occurrences j i 0 j.length 1).isEmpty))) H) := by
  intro pins s σ H x y v u Q I rx ry h
  obtain ⟨i, j, rfl, rfl, q⟩ := h
  obtain ⟨t, rfl⟩ := rx
  obtain ⟨t', rfl⟩ := ry
  exact notIn_str (fin_bl I q rfl)
/-- is, is not of two objects that are tracked lists or instances -/
def isObj : HO → Bool
  | .lst _ => true
  | .ins _ _ _ => true
  | _ => false
theorem obj_there {pins : List (Addr × Obj)} {s : Shared} {σ : St} {H : Hp} {a : Addr} {o : HO} (I : Inv X pins σ H s) (h : H a = some o) (p : isObj o = true) : ∃ ob, s.heap.get? a = some ob ∧ ob.cls ≠ .type "tuple" := by
  cases o with
  | lst xs =>
    obtain ⟨_, its, n, _, e⟩ : xs.length ≤ sizeLine ∧ ∃ (its : List Value) (n : Nat), Vals xs its ∧ s.heap.get? a = some { cls := .type "list", data := .seq its.toArray n } := I.hok a _ h
    exact ⟨_, e, (by show Value.type "list" ≠ .type "tuple"; decide +kernel)⟩
  | ins C dx fs =>
    have x := I.hok a _ h
    obtain ⟨_, _, _, e, _⟩ := x
    exact ⟨_, e, (by show Value.ref C ≠ .type "tuple"; exact fun z => by cases z)⟩
  | _ => exact absurd (show false = true from p) Bool.false_ne_true
theorem op_is_ref : OpR X (compareOp .Is) (fun x y H Q => ∃ a b oa ob, x = .ref a ∧ y = .ref b ∧ H a = some oa ∧ isObj oa = true ∧ H b = some ob ∧ isObj ob = true ∧ Q (.bl (decide (a = b))) H) := by
  intro pins s σ H x y v u Q I rx ry h
  obtain ⟨a, b, oa, ob, rfl, rfl, ha, pa, hb, pb, q⟩ := h
  cases rx
  cases ry
  obtain ⟨o1, e1, n1⟩ := obj_there I ha pa
  obtain ⟨o2, e2, _⟩ := obj_there I hb pb
  by_cases z : a = b
  · subst z
    exact wpAny_is_ref_self (fin_bl I q (by simp))
  · exact wpAny_is_ref_other z e1 e2 n1 (fin_bl I q (by simp [z]))
theorem op_isnot_ref : OpR X (compareOp .IsNot) (fun x y H Q => ∃ a b oa ob, x = .ref a ∧ y = .ref b ∧ H a = some oa ∧ isObj oa = true ∧ H b = some ob ∧ isObj ob = true ∧ Q (.bl (!decide (a = b))) H) := by
  intro pins s σ H x y v u Q I rx ry h
  obtain ⟨a, b, oa, ob, rfl, rfl, ha, pa, hb, pb, q⟩ := h
  cases rx
  cases ry
  obtain ⟨o1, e1, n1⟩ := obj_there I ha pa
  obtain ⟨o2, e2, _⟩ := obj_there I hb pb
  by_cases z : a = b
  · subst z
    exact wpAny_isNot_ref_self (fin_bl I q (by simp))
  · exact wpAny_isNot_ref_other z e1 e2 n1 (fin_bl I q (by simp [z]))

/-- two rules for one operation: by cases -/
theorem OpR.or {f : Value → Value → Sem Value} {r r' : R2} (h : OpR X f r) (h' : OpR X f r') : OpR X f (fun x y H Q => r x y H Q ∨ r' x y H Q) := by
  intro pins s σ H x y v u Q I rx ry q
  rcases q with q | q
  · exact h pins s σ H x y v u Q I rx ry q
  · exact h' pins s σ H x y v u Q I rx ry q

theorem nomark (b : Expr) {op : CmpOp} (h : op ≠ .In := by decide) (h2 : op ≠ .NotIn := by decide) : behindInMarks op b = false := by
  have e1 : (op == CmpOp.In) = false := by cases op <;> first | rfl | exact absurd rfl h
  have e2 : (op == CmpOp.NotIn) = false := by cases op <;> first | rfl | exact absurd rfl h2
  cases b <;> simp [behindInMarks, e1, e2]
/-- a comparison as a value; hm: nomark b, or (for in, not in) by with_unfolding_all rfl -/
theorem pe_cmpR {op : CmpOp} {r : R2} (ho : OpR X (compareOp op) r) (ha : PE X a ta) (hb : PE X b tb) (hm : behindInMarks op b = false) : PE X (.Compare a [op] [b] pos) (tOp r ta tb) := by
  intro pins s σ H Q I h
  exact wpAny_Compare1 (binT ha hb I h fun v u s2 x y H2 I2 rx ry q => ho pins s2 σ H2 x y v u Q I2 rx ry q) hm
/-- a reading of a value as a test -/
def tTest (t : TE) : TT := fun σ H Q => t σ H fun x H' => ∃ k, x = .bl k ∧ Q k H'
theorem pt_cmpR {op : CmpOp} {r : R2} (ho : OpR X (compareOp op) r) (ha : PE X a ta) (hb : PE X b tb) (hm : behindInMarks op b = false) : PT X (.Compare a [op] [b] pos) (tTest (tOp r ta tb)) := by
  intro pins s σ H Q I h
  refine wpAny_isTrue_Compare1 (thn (ha pins s σ H _ I h) fun v s1 ⟨x, H1, I1, r1, q1⟩ => thn (hb pins s1 σ H1 _ I1 q1) fun u s2 ⟨y, H2, I2, r2, q2⟩ =>
    thn (ho pins s2 σ H2 x y v u _ I2 r1 r2 q2) fun c s3 ⟨z, H3, I3, r3, k, e, q3⟩ => ?_) hm
  subst e
  cases r3
  exact wpAny_truthy_bool ⟨H3, I3, q3⟩
/-- a op1 b op2 c -/
def tChain (r r' : R2) (ta tb tc : TE) : TE := fun σ H Q => ta σ H fun x H1 => tb σ H1 fun y H2 => r x y H2 fun z H3 => ∃ k, z = .bl k ∧
  (if k = true then tc σ H3 fun w' H4 => r' y w' H4 Q else Q (.bl false) H3)
theorem pe_chain {op op' : CmpOp} {r r' : R2} (ho : OpR X (compareOp op) r) (ho' : OpR X (compareOp op') r') (ha : PE X a ta) (hb : PE X b tb) (hc : PE X c tc)
    (hm : lastMarks [op, op'] [b, c] = false := by with_unfolding_all rfl) : PE X (.Compare a [op, op'] [b, c] pos) (tChain r r' ta tb tc) := by
  intro pins s σ H Q I h
  refine Compare_chain (thn (ha pins s σ H _ I h) fun v s1 ⟨x, H1, I1, r1, q1⟩ => chain_link (thn (hb pins s1 σ H1 _ I1 q1) fun u s2 ⟨y, H2, I2, r2, q2⟩ =>
    thn (ho pins s2 σ H2 x y v u _ I2 r1 r2 q2) fun d s3 ⟨z, H3, I3, r3, k, e, q3⟩ => ?_)) hm
  subst e
  cases r3
  refine wpAny_truthy_bool ?_
  cases k with
  | false => exact ite_ff ⟨.bl false, H3, I3, rfl, q3⟩
  | true => exact ite_tt (chain_last (thn (hc pins s3 σ H3 _ I3 q3) fun w' s4 ⟨z', H4, I4, r4, q4⟩ => ho' pins s4 σ H4 y z' u w' Q I4 r2 r4 q4))
theorem pt_chain {op op' : CmpOp} {r r' : R2} (ho : OpR X (compareOp op) r) (ho' : OpR X (compareOp op') r') (ha : PE X a ta) (hb : PE X b tb) (hc : PE X c tc)
    (hm : lastMarks [op, op'] [b, c] = false := by with_unfolding_all rfl) : PT X (.Compare a [op, op'] [b, c] pos) (tTest (tChain r r' ta tb tc)) := by
  intro pins s σ H Q I h
  refine isTrue_chain (thn (ha pins s σ H _ I h) fun v s1 ⟨x, H1, I1, r1, q1⟩ => test_link (thn (hb pins s1 σ H1 _ I1 q1) fun u s2 ⟨y, H2, I2, r2, q2⟩ =>
    thn (ho pins s2 σ H2 x y v u _ I2 r1 r2 q2) fun d s3 ⟨z, H3, I3, r3, k, e, q3⟩ => ?_)) hm
  subst e
  cases r3
  refine wpAny_truthy_bool ?_
  cases k with
  | false =>
    obtain ⟨k', e', q'⟩ := q3
    cases e'
    exact ite_ff ⟨H3, I3, q'⟩
  | true =>
    refine ite_tt (test_last (thn (hc pins s3 σ H3 _ I3 q3) fun w' s4 ⟨z', H4, I4, r4, q4⟩ => thn (ho' pins s4 σ H4 y z' u w' _ I4 r2 r4 q4) fun d' s5 ⟨z2, H5, I5, r5, k2, e2, q5⟩ => ?_))
    subst e2
    cases r5
    exact wpAny_truthy_bool ⟨H5, I5, q5⟩

/-! ### truth -/
/-- a value's truth by the abstract heap -/
def TruV (K : PySem.W.Frag) (x : V) (H : Hp) (k : Bool) : Prop :=
  match x with
  | .non => k = false
  | .bl b => k = b
  | .int i => k = (i != 0)
  | .str y => y.length ≤ sizeLine ∧ k = ((y.length : Int) != 0)
  | .byt y => y.size ≤ sizeLine ∧ k = ((y.size : Int) != 0)
  | .ref p => (∃ xs, SqL K H p xs ∧ k = !xs.isEmpty) ∨ (∃ xs, SqT K H p xs ∧ k = !xs.isEmpty) ∨ ∃ kvs, H p = some (.dK kvs) ∧ k = !kvs.isEmpty
  | _ => False
theorem isEmpty_kv {κ : Type} {kvs : List (κ × V)} {vs : List (κ × Value)} (r : KV kvs vs) : (!vs.isEmpty) = !kvs.isEmpty := by
  cases r <;> rfl
theorem isEmpty_of {xs : List V} {its : List Value} (r : Vals xs its) : (!its.toArray.isEmpty) = !xs.isEmpty := by
  cases r <;> simp
theorem line63 : (sizeLine : Nat) < 2 ^ 63 := by rw [sizeLine_eq]; decide
theorem tru_ok : TruR X (fun x H Q => ∃ k, TruV X.K x H k ∧ Q k H) := by
  intro pins s σ H x v Q I rx h
  obtain ⟨k, e, q⟩ := h
  have hl := line63
  have hs : sizeLine = 16777216 := sizeLine_eq
  cases x with
  | non =>
    cases rx
    have e' : k = false := e
    subst e'
    exact truthy_none ⟨H, I, q⟩
  | bl b =>
    cases rx
    have e' : k = b := e
    subst e'
    exact wpAny_truthy_bool ⟨H, I, q⟩
  | int i =>
    obtain ⟨t, rfl⟩ := rx
    have e' : k = (i != 0) := e
    subst e'
    exact PySem.P.truthy_int ⟨H, I, q⟩
  | str y =>
    obtain ⟨t, rfl⟩ := rx
    obtain ⟨hy, e'⟩ : y.length ≤ sizeLine ∧ k = ((y.length : Int) != 0) := e
    subst e'
    exact PySem.P.truthy_str (by omega) ⟨H, I.tok _, q⟩
  | byt y =>
    obtain ⟨t, rfl⟩ := rx
    obtain ⟨hy, e'⟩ : y.size ≤ sizeLine ∧ k = ((y.size : Int) != 0) := e
    subst e'
    exact PySem.W.truthy_bytes (by omega) ⟨H, I.tok _, q⟩
  | ref p =>
    cases rx
    have e' : (∃ xs, SqL X.K H p xs ∧ k = !xs.isEmpty) ∨ (∃ xs, SqT X.K H p xs ∧ k = !xs.isEmpty) ∨ ∃ kvs, H p = some (.dK kvs) ∧ k = !kvs.isEmpty := e
    rcases e' with ⟨xs, hx, e'⟩ | ⟨xs, hx, e'⟩ | ⟨kvs, hx, e'⟩
    · subst e'
      obtain ⟨its, r, pl, hz⟩ := I.list hx
      have hlen := r.length
      exact wpAny_truthy_list pl.isList (by simp only [List.size_toArray]; omega) ⟨H, I.tok _, by rw [isEmpty_of r]; exact q⟩
    · subst e'
      obtain ⟨its, r, pl, hz⟩ := I.tuple hx
      have hlen := r.length
      exact truthy_tuple pl (by simp only [List.size_toArray]; omega) ⟨H, I.tok _, by rw [isEmpty_of r]; exact q⟩
    · subst e'
      obtain ⟨hz, hS, vs, r, m⟩ : kvs.length ≤ sizeLine ∧ (p == sysModules) = false ∧ ∃ vs, KV kvs vs ∧ s.heap.DictOf (mixKind X.prog X.w) p vs := I.hok p _ hx
      have hlen : kvs.length = vs.length := Paired.length r
      exact wpAny_truthy_dict hS m (by omega) ⟨H, I.tok _, by rw [isEmpty_kv r]; exact q⟩
  | _ => exact (show False from e).elim
/-- any expression whose test is its value's truth (a name, a call, a subscript, a field ..: he by fun _ => rfl) -/
theorem pt_truth (ha : PE X a ta) (he : ∀ whole, isTrue a X.env whole = (do let v ← whole; standAt a.pos; holding [v] (truthy v))) :
    PT X a (fun σ H Q => ta σ H fun x H' => ∃ k, TruV X.K x H' k ∧ Q k H') := by
  intro pins s σ H Q I h
  exact isTrue_plain (thn (ha pins s σ H _ I h) fun v s1 ⟨x, H1, I1, r1, q1⟩ => tru_ok pins s1 σ H1 x v Q I1 r1 q1) (he _)

/-! ### strs and bytes -/
theorem pe_byt {x : List UInt8} {k : Nat} : PE X (.Constant (.bytes x) k pos) (fun _ H Q => Q (.byt x.toArray) H) := fun _ _ _ H _ I h => PySem.W.Constant_bytes ⟨.byt x.toArray, H, I.tok _, ⟨_, rfl⟩, h⟩
theorem op_add_str : OpR X (binaryOp .Add) (fun x y H Q => ∃ i j, x = .str i ∧ y = .str j ∧ i.length + j.length ≤ sizeLine ∧ Q (.str (i ++ j)) H) := by
  intro pins s σ H x y v u Q I rx ry h
  obtain ⟨i, j, rfl, rfl, hz, q⟩ := h
  obtain ⟨t, rfl⟩ := rx
  obtain ⟨t', rfl⟩ := ry
  exact add_str (fun t' tk => ⟨.str (i ++ j), H, I.tok _, ⟨_, rfl⟩, q⟩) hz
theorem iop_add_str : OpR X (inplaceOp .Add) (fun x y H Q => ∃ i j, x = .str i ∧ y = .str j ∧ i.length + j.length ≤ sizeLine ∧ Q (.str (i ++ j)) H) := by
  intro pins s σ H x y v u Q I rx ry h
  obtain ⟨i, j, rfl, rfl, hz, q⟩ := h
  obtain ⟨t, rfl⟩ := rx
  obtain ⟨t', rfl⟩ := ry
  exact iadd_str (fun t' tk => ⟨.str (i ++ j), H, I.tok _, ⟨_, rfl⟩, q⟩) hz
theorem op_add_byt : OpR X (binaryOp .Add) (fun x y H Q => ∃ i j, x = .byt i ∧ y = .byt j ∧ i.size + j.size ≤ 16777216 ∧ Q (.byt (i ++ j)) H) := by
  intro pins s σ H x y v u Q I rx ry h
  obtain ⟨i, j, rfl, rfl, hz, q⟩ := h
  obtain ⟨t, rfl⟩ := rx
  obtain ⟨t', rfl⟩ := ry
  exact PySem.W.KBy.add_bytes hz (fun t' tk => ⟨.byt (i ++ j), H, I.tok _, ⟨_, rfl⟩, q⟩)

def PlainIxT (b : Expr) : Prop := ∀ o i, subscripted b false o i = operate [o, i] (getItem o i)
/-- s[i], 0 ≤ i < len -/
theorem pe_item_str (ha : PE X a ta) (hb : PE X b tb) (hs : PlainIxT b) :
    PE X (.Subscript a b pos) (tOp (fun x y H Q => ∃ z i c, x = .str z ∧ y = .int i ∧ 0 ≤ i ∧ i < 2 ^ 63 ∧ i < z.length ∧ z.cps[i.toNat]? = some c ∧ Q (.str ⟨#[c]⟩) H) ta tb) := by
  intro pins s σ H Q I h
  refine Subscript_ (binT ha hb I h fun v u s2 x y H2 I2 rx ry q => ?_)
  obtain ⟨z, i, c, rfl, rfl, h0, h63, h1, hc, q⟩ := q
  obtain ⟨t, rfl⟩ := rx
  obtain ⟨t', rfl⟩ := ry
  have e : seqIndex? i z.length = some i.toNat := PySem.StrLaws.seqIndex_nonneg h0 h1
  exact tail_any (typeIs_str s2 z t) slot_str_getitem.lookup (getItem_str (c := c) (by
    have e1 : decide (i < -(2 ^ 63 : Int)) = false := decide_eq_false (by omega)
    have e2 : decide (i ≥ 2 ^ 63) = false := decide_eq_false (by omega)
    rw [e1, e2] <;> rfl) (by rw [e]; exact hc) ⟨.str ⟨#[c]⟩, H2, I2.tok _, ⟨_, rfl⟩, q⟩) (hs _ _)
/-- b[i], 0 ≤ i < len -/
theorem pe_item_byt (ha : PE X a ta) (hb : PE X b tb) (hs : PlainIxT b) :
    PE X (.Subscript a b pos) (tOp (fun x y H Q => ∃ (z : List UInt8) (i : Int), x = .byt z.toArray ∧ y = .int i ∧ z.length ≤ sizeLine ∧ 0 ≤ i ∧ i < z.length ∧ Q (.int ((z.getD i.toNat 0).toNat : Nat)) H) ta tb) := by
  intro pins s σ H Q I h
  refine Subscript_ (binT ha hb I h fun v u s2 x y H2 I2 rx ry q => ?_)
  obtain ⟨z, i, rfl, rfl, hz, h0, h1, q⟩ := q
  obtain ⟨t, rfl⟩ := rx
  obtain ⟨t', rfl⟩ := ry
  have hl : sizeLine = 16777216 := sizeLine_eq
  exact tail_any (PySem.W.typeIs_bytes s2 z.toArray t) PySem.W.FB.slot_bytes_getitem.lookup (PySem.W.getItem_bytes (by omega) h0 h1 ⟨.int ((z.getD i.toNat 0).toNat : Nat), H2, I2.tok _, ⟨_, rfl⟩, q⟩) (hs _ _)

/-! ### scalar builtins, by CallR -/
theorem vals1 {x : V} {us : List Value} (r : Vals [x] us) : ∃ u, us = [u] ∧ RelV x u := by
  cases r with
  | cons r1 r2 => cases r2; exact ⟨_, rfl, r1⟩
theorem vals2 {x y : V} {us : List Value} (r : Vals [x, y] us) : ∃ u w', us = [u, w'] ∧ RelV x u ∧ RelV y w' := by
  cases r with
  | cons r1 r2 =>
    cases r2 with
    | cons r3 r4 => cases r4; exact ⟨_, _, rfl, r1, r3⟩
theorem call_abs : CallR X (.builtin "abs") (fun xs H Q => ∃ i, xs = [.int i] ∧ Q (.int (if i < 0 then -i else i)) H) := by
  intro pins s σ H xs us Q I r h
  obtain ⟨i, rfl, q⟩ := h
  obtain ⟨u, rfl, t, rfl⟩ := vals1 r
  exact call_abs_int fun u tk => ⟨.int (if i < 0 then -i else i), H, I.tok _, ⟨_, rfl⟩, q⟩
theorem call_max2 (hc : X.calm = true) : CallR X (.builtin "max") (fun xs H Q => ∃ i j, xs = [.int i, .int j] ∧ Q (.int (if j > i then j else i)) H) := by
  intro pins s σ H xs us Q I r h
  obtain ⟨i, j, rfl, q⟩ := h
  obtain ⟨u, w', rfl, ⟨t, rfl⟩, ⟨t', rfl⟩⟩ := vals2 r
  refine max_two_ints (I.ok.hd hc) fun h' tk k => ⟨_, H, I.kept k, ?_, q⟩
  by_cases hj : j > i
  · rw [if_pos hj, if_pos hj]; exact ⟨_, rfl⟩
  · rw [if_neg hj, if_neg hj]; exact ⟨_, rfl⟩
theorem call_min2 (hc : X.calm = true) : CallR X (.builtin "min") (fun xs H Q => ∃ i j, xs = [.int i, .int j] ∧ Q (.int (if j < i then j else i)) H) := by
  intro pins s σ H xs us Q I r h
  obtain ⟨i, j, rfl, q⟩ := h
  obtain ⟨u, w', rfl, ⟨t, rfl⟩, ⟨t', rfl⟩⟩ := vals2 r
  refine min_two_ints (I.ok.hd hc) fun h' tk k => ⟨_, H, I.kept k, ?_, q⟩
  by_cases hj : j < i
  · rw [if_pos hj, if_pos hj]; exact ⟨_, rfl⟩
  · rw [if_neg hj, if_neg hj]; exact ⟨_, rfl⟩
theorem call_int1 : CallR X (.type "int") (fun xs H Q => (∃ i, xs = [.int i] ∧ Q (.int i) H) ∨ ∃ k, xs = [.bl k] ∧ Q (.int (if k then 1 else 0)) H) := by
  intro pins s σ H xs us Q I r h
  rcases h with ⟨i, rfl, q⟩ | ⟨k, rfl, q⟩
  · obtain ⟨u, rfl, t, rfl⟩ := vals1 r
    exact call_int_int ⟨.int i, H, I, ⟨_, rfl⟩, q⟩
  · obtain ⟨u, rfl, r1⟩ := vals1 r
    cases r1
    exact call_int_bool ⟨.int (if k then 1 else 0), H, I.tok _, ⟨_, rfl⟩, q⟩
theorem call_bool1 : CallR X (.type "bool") (fun xs H Q => (∃ i, xs = [.int i] ∧ Q (.bl (i != 0)) H) ∨ ∃ k, xs = [.bl k] ∧ Q (.bl k) H) := by
  intro pins s σ H xs us Q I r h
  rcases h with ⟨i, rfl, q⟩ | ⟨k, rfl, q⟩
  · obtain ⟨u, rfl, t, rfl⟩ := vals1 r
    exact call_bool_int ⟨.bl (i != 0), H, I, rfl, q⟩
  · obtain ⟨u, rfl, r1⟩ := vals1 r
    cases r1
    exact call_bool_bool ⟨.bl k, H, I, rfl, q⟩
theorem call_str_int : CallR X (.type "str") (fun xs H Q => ∃ i, xs = [.int i] ∧ i.natAbs.log2 < 1920 ∧ Q (.str (toString i)) H) := by
  intro pins s σ H xs us Q I r h
  obtain ⟨i, rfl, hz, q⟩ := h
  obtain ⟨u, rfl, t, rfl⟩ := vals1 r
  exact PySem.P.str_of_int hz ⟨.str _, H, I.tok _, ⟨_, rfl⟩, q⟩
theorem call_ord : CallR X (.builtin "ord") (fun xs H Q => ∃ x, xs = [.str x] ∧ x.length = 1 ∧ Q (.int (x.cps.getD 0 0 : Nat)) H) := by
  intro pins s σ H xs us Q I r h
  obtain ⟨x, rfl, hz, q⟩ := h
  obtain ⟨u, rfl, t, rfl⟩ := vals1 r
  exact ord_of_one hz ⟨.int _, H, I.tok _, ⟨_, rfl⟩, q⟩
theorem call_chr : CallR X (.builtin "chr") (fun xs H Q => ∃ i, xs = [.int i] ∧ 0 ≤ i ∧ i ≤ 1114111 ∧ Q (.str ⟨#[i.toNat]⟩) H) := by
  intro pins s σ H xs us Q I r h
  obtain ⟨i, rfl, h0, h1, q⟩ := h
  obtain ⟨u, rfl, t, rfl⟩ := vals1 r
  exact chr_of_range h0 h1 ⟨.str _, H, I.tok _, ⟨_, rfl⟩, q⟩
/-- len of a str, a bytes, a list, a tuple -/
def LenV (K : PySem.W.Frag) (x : V) (H : Hp) (n : Nat) : Prop :=
  match x with
  | .str y => y.length ≤ sizeLine ∧ n = y.length
  | .byt y => y.size ≤ sizeLine ∧ n = y.size
  | .ref p => (∃ xs, SqL K H p xs ∧ n = xs.length) ∨ ∃ xs, SqT K H p xs ∧ n = xs.length
  | _ => False
theorem call_len : CallR X (.builtin "len") (fun xs H Q => ∃ x n, xs = [x] ∧ LenV X.K x H n ∧ Q (.int n) H) := by
  intro pins s σ H xs us Q I r h
  obtain ⟨x, n, rfl, e, q⟩ := h
  obtain ⟨u, rfl, rx⟩ := vals1 r
  have hl := line63
  have hs : sizeLine = 16777216 := sizeLine_eq
  cases x with
  | str y =>
    obtain ⟨t, rfl⟩ := rx
    obtain ⟨hy, e'⟩ : y.length ≤ sizeLine ∧ n = y.length := e
    subst e'
    exact len_str (by omega) ⟨.int _, H, I.tok _, ⟨_, rfl⟩, q⟩
  | byt y =>
    obtain ⟨t, rfl⟩ := rx
    obtain ⟨hy, e'⟩ : y.size ≤ sizeLine ∧ n = y.size := e
    subst e'
    exact PySem.W.len_bytes (by omega) ⟨.int _, H, I.tok _, ⟨_, rfl⟩, q⟩
  | ref p =>
    cases rx
    have e' : (∃ xs, SqL X.K H p xs ∧ n = xs.length) ∨ ∃ xs, SqT X.K H p xs ∧ n = xs.length := e
    rcases e' with ⟨xs, hx, e'⟩ | ⟨xs, hx, e'⟩
    · subst e'
      obtain ⟨its, r', pl, hz⟩ := I.list hx
      have hlen := r'.length
      exact Calls.call_len_list pl.isList (by simp only [List.size_toArray]; omega) ⟨.int xs.length, H, I.tok _, ⟨_, by simp only [List.size_toArray]; rw [hlen]⟩, q⟩
    · subst e'
      obtain ⟨its, r', pl, hz⟩ := I.tuple hx
      have hlen := r'.length
      exact len_tuple pl (by simp only [List.size_toArray]; omega) ⟨.int xs.length, H, I.tok _, ⟨_, by simp only [List.size_toArray]; rw [hlen]⟩, q⟩
  | _ => exact (show False from e).elim
/-- divmod: a new tuple -/
theorem call_divmod : CallR X (.builtin "divmod") (fun xs H Q => ∃ i j, xs = [.int i, .int j] ∧ CDiv i j ∧ ∀ p, H p = none → Q (.ref p) (upd H p (.tup [.int (i / j), .int (i % j)]))) := by
  intro pins s σ H xs us Q I r h
  obtain ⟨i, j, rfl, ⟨h1, h2⟩, q⟩ := h
  obtain ⟨u, w', rfl, ⟨t, rfl⟩, ⟨t', rfl⟩⟩ := vals2 r
  refine divmod_int (by omega) ?_ (.inl (PyProof.noPylong_small (by omega)))
  rw [Int.fdiv_eq_ediv_of_nonneg i (by omega), Int.fmod_eq_emod_of_nonneg i (by omega)]
  have hn : H s.heap.objs.size = none := I.hok.fresh (Nat.le_refl _)
  refine ⟨.ref s.heap.objs.size, _, ?_, rfl, q _ hn⟩
  refine I.laid (fun b o e => Heap.get?_push_of_some _ e) (Nat.le_refl _) ⟨by simp only [List.length_cons, List.length_nil]; rw [sizeLine_eq]; decide, [.int (i / j) s.toks, .int (i % j) (s.toks + 1)], .cons ⟨_, rfl⟩ (.cons ⟨_, rfl⟩ .nil), ?_⟩
  exact ⟨_, Heap.get?_push_size s.heap rfl, rfl, 0, rfl⟩
end
end L2

namespace L2
open PySem PySem.Spec PyProof.Rows

/-! ### an instance, its attributes a map -/
structure ObjM (h : Heap) (x dx C : Addr) (mA : Str → Option Value) : Prop where
  obj : h.get? x = some (PySem.W.instObj C dx)
  ns : h.Ns1 dx mA
  ne : dx ≠ x

theorem lookIn_ns {h : Heap} {dx : Addr} {mA : Str → Option Value} (n : h.Ns1 dx mA) : ∃ od, h.get? dx = some od ∧ ∀ name, PySem.W.lookIn name od = some (mA name) := by
  obtain ⟨o, es, ep, ho, hd, hk, _, hm⟩ := n
  refine ⟨o, ho, fun name => ?_⟩
  have e := hm name
  unfold nsFind findBy at e
  rw [← Array.find?_toList] at e
  unfold PySem.W.lookIn
  rw [hd]
  dsimp only
  split
  · rename_i y q
    rw [q] at e
    exact congrArg some e
  · rename_i q
    rw [q] at e
    have a : es.toList.any (·.refKey) = false := by
      rw [List.any_eq_false]
      intro y hy
      obtain ⟨z, t, hkey⟩ := hk y (Array.mem_toList_iff.mp hy)
      simp [DictEntry.refKey, hkey]
    have a' : ¬ es.toList.any (·.refKey) = true := by rw [a]; exact Bool.false_ne_true
    rw [if_neg a']
    exact congrArg some e

theorem ObjM.look {h : Heap} {x dx C : Addr} {mA : Str → Option Value} (I : ObjM h x dx C mA) : ∃ od, PySem.W.InstAt h x (PySem.W.instObj C dx) C (some od) ∧ ∀ name, PySem.W.lookIn name od = some (mA name) :=
  let ⟨od, ho, hl⟩ := lookIn_ns I.ns
  ⟨od, ⟨I.obj, rfl, rfl, ho⟩, hl⟩

section
variable {prog : Program} {w : World} {A : Around} {E : Value → Shared → Prop} {s : Shared} {K : PySem.W.Frag} {x dx C f : Addr} {mA : Str → Option Value} {name : Str} {v : Value}

theorem get_map {expr : Bool} {Q : Value → Shared → Prop} (X : K.In s.heap) (I : ObjM s.heap x dx C mA) (hg : PySem.W.plainGet K C name = true) (hh : PySem.W.hasDictIn K C = true)
    (ha : PySem.W.findIn K (.ref C) name = some none) (hv : mA name = some v) (hv' : PySem.W.handedIn v = true) (h : Q v { s with toks := s.toks + 1 }) :
    wpAny (model prog w) A (getAttr (.ref x) name expr) Q E s := by
  obtain ⟨od, J, hl⟩ := I.look
  exact PySem.W.get_value X J (PySem.W.plainGet_of hg).1 (PySem.W.findObj_own hh ha rfl (by rw [hl, hv])) hv' h

theorem get_const {expr : Bool} {a : Value} {Q : Value → Shared → Prop} (X : K.In s.heap) (I : ObjM s.heap x dx C mA) (hg : PySem.W.plainGet K C name = true) (hh : PySem.W.hasDictIn K C = true)
    (ha : PySem.W.findIn K (.ref C) name = some (some a)) (hn : PySem.W.specialIn K a "__get__" = some none) (hc : PySem.W.copiedNames.contains name = false) (hv : mA name = none) (hv' : PySem.W.handedIn a = true)
    (h : Q a { s with toks := s.toks + 1 }) : wpAny (model prog w) A (getAttr (.ref x) name expr) Q E s := by
  obtain ⟨od, J, hl⟩ := I.look
  exact PySem.W.get_value X J (PySem.W.plainGet_of hg).1 (PySem.W.findObj_cls hh ha hn hv' hc (by rw [hl, hv])) hv' h

theorem get_meth {pl : Sem Bool} {Q : Value × List Value → Shared → Prop} (X : K.In s.heap) (I : ObjM s.heap x dx C mA) (hg : PySem.W.plainGet K C name = true)
    (hf : PySem.W.findIn K (.ref C) name = some (some (.ref f))) (ht : PySem.W.isFn K (.ref f) = true) (hv : mA name = none) (h : Q (.ref f, [.ref x]) s) :
    wpAny (model prog w) A (getMethod (.ref x) name pl) Q E s := by
  obtain ⟨od, J, hl⟩ := I.look
  exact PySem.W.method_fn X J (PySem.W.plainGet_of hg).1 (PySem.W.plainGet_of hg).2 hf (beq_iff_eq.mp ht) (by show (PySem.W.lookIn name od).map (·.isSome) = some false; rw [hl, hv]; rfl) h

theorem set_map {ns : List Str} {Q : Unit → Shared → Prop} (X : K.In s.heap) (I : ObjM s.heap x dx C mA)
    (hs : PySem.W.findIn K (.ref C) "__setattr__" = some (some (.builtin "object.__setattr__"))) (hp : PySem.W.plainOver K C = true) (ht : PySem.W.takerIn K C name = some none) (hh : PySem.W.hasDictIn K C = true)
    (hw : PySem.Within mA ns) (hsz : ns.length ≤ sizeLine)
    (h : ∀ h', ObjM h' x dx C (fun y => if y = name then some v else mA y) → Heap.SameBut dx s.heap h' → Q () { s with heap := h', toks := s.toks + 2 }) :
    wpAny (model prog w) A (setAttr (.ref x) name v) Q E s := by
  obtain ⟨od, J, hl⟩ := I.look
  refine PySem.W.set_plain X J hs (PySem.W.osa_open (s := { s with toks := s.toks + 1 }) (r := none) X J hp ht fun b => ?_)
  obtain ⟨cd, hc, hd'⟩ := PySem.W.any_some hh
  have hx : s.heap.get? x = some ⟨.ref C, some dx, .plain, #[]⟩ := I.obj
  refine wpAny_bind (wpAny_pure (wpAny_bind (wpAny_bind (wpAny_loadPart hx (wpAny_bind (PySem.W.Looks.here (s := { s with toks := s.toks + 1 }) (PySem.W.looks_clsIn X hc) ?_))))))
  rw [hd']
  refine wpAny_pure (a := some dx) (wpAny_bind (wpAny_pure (wpAny_bind ?_)))
  refine wpAny_nsSet1 (s := { s with toks := s.toks + 1 }) I.ns fun h' hn2 hs2 => ?_
  obtain ⟨oD, esD, epD, hoD, hdD, hcD⟩ := hn2.count (PySem.Within.cons name v hw)
  refine wpAny_bind (wpAny_lookBehind hoD (by rw [hdD]; exact pastItsLine_dict (Nat.le_trans hcD (by rw [List.length_cons]; omega))) ?_)
  exact wpAny_pure (h _ ⟨(hs2.2 _ (Ne.symm I.ne)).trans I.obj, hn2, I.ne⟩ hs2)

/-- C(..): the dict at the heap's end, the instance behind it; then its __init__ -/
theorem make_map {R : Result → Shared → Prop} {vs : List Value} {kw : List (Str × Value)} (X : K.In s.heap) (hm : PySem.W.makesIn K C = true)
    (hi : PySem.W.findIn K (.ref C) "__init__" = some (some (.ref f))) (hf : PySem.W.typeIn K (.ref f) = some (.type "function"))
    (h : codeAny (model prog w) (A.under (.builtin "type.__call__" ⟨.ref C :: vs, kw⟩)) (.call (.ref f) ⟨.ref (s.heap.objs.size + 1) :: vs, kw⟩) (PySem.W.InitBack (s.heap.objs.size + 1) R)
      { s with heap := (s.heap.push PySem.W.emptyDict).push (PySem.W.instObj C s.heap.objs.size) }) :
    codeAny (model prog w) A (.call (.ref C) ⟨vs, kw⟩) R s := by
  obtain ⟨hh, g, d, t, os⟩ := s
  exact PySem.W.make_core (PySem.W.makes_of X hm) (PySem.W.looks_findIn X hi) (fun self => PySem.W.bind_fn X self hf) (.inl rfl) h
/-- C() where there is no __init__ but object's -/
theorem make_map0 {R : Result → Shared → Prop} (X : K.In s.heap) (hm : PySem.W.makesIn K C = true)
    (hi : PySem.W.findIn K (.ref C) "__init__" = some (some (.builtin "object.__init__")))
    (hb : ∀ self, PySem.W.Looks (model prog w) s.heap (bindSpecial (.builtin "object.__init__") self) (.builtin "object.__init__", [self]))
    (h : codeAny (model prog w) (A.under (.builtin "type.__call__" ⟨[.ref C], []⟩)) (.call (.builtin "object.__init__") ⟨[.ref (s.heap.objs.size + 1)], []⟩) (PySem.W.InitBack (s.heap.objs.size + 1) R)
      { s with heap := (s.heap.push PySem.W.emptyDict).push (PySem.W.instObj C s.heap.objs.size) }) :
    codeAny (model prog w) A (.call (.ref C) ⟨[], []⟩) R s := by
  obtain ⟨hh, g, d, t, os⟩ := s
  exact PySem.W.make_core (PySem.W.makes_of X hm) (PySem.W.looks_findIn X hi) hb (.inr ⟨rfl, rfl⟩) h
end

/-! ### the attributes as a list of pairs -/
def putF (f : Str) (v : V) : List (Str × V) → List (Str × V)
  | [] => [(f, v)]
  | (g, x) :: r => if g = f then (g, v) :: r else (g, x) :: putF f v r
theorem lookup_putF (f g : Str) (v : V) : ∀ fs : List (Str × V), (putF f v fs).lookup g = if g = f then some v else fs.lookup g
  | [] => by
    show List.lookup g [(f, v)] = _
    by_cases h : g = f
    · have hb : (g == f) = true := beq_iff_eq.mpr h
      simp only [List.lookup, hb, if_pos h]
    · have hb : (g == f) = false := beq_eq_false_iff_ne.mpr h
      simp only [List.lookup, hb, if_neg h]
  | (k, x) :: r => by
    have ih := lookup_putF f g v r
    rw [show putF f v ((k, x) :: r) = (if k = f then (k, v) :: r else (k, x) :: putF f v r) from rfl]
    by_cases hk : k = f
    · rw [if_pos hk]
      by_cases h : g = k
      · have hb : (g == k) = true := beq_iff_eq.mpr h
        simp only [List.lookup, hb, if_pos (h.trans hk)]
      · have hb : (g == k) = false := beq_eq_false_iff_ne.mpr h
        simp only [List.lookup, hb, if_neg (fun e : g = f => h (e.trans hk.symm))]
    · rw [if_neg hk]
      by_cases h : g = k
      · have hb : (g == k) = true := beq_iff_eq.mpr h
        simp only [List.lookup, hb, if_neg (fun e : g = f => hk (h.symm.trans e))]
      · have hb : (g == k) = false := beq_eq_false_iff_ne.mpr h
        simp only [List.lookup, hb]
        exact ih
theorem keys_putF (f : Str) (v : V) : ∀ fs : List (Str × V), f ∈ (putF f v fs).map (·.1) ∧ ∀ g, g ∈ fs.map (·.1) → g ∈ (putF f v fs).map (·.1)
  | [] => ⟨by simp [putF], fun g h => by simp at h⟩
  | (k, x) :: r => by
    obtain ⟨i1, i2⟩ := keys_putF f v r
    rw [show putF f v ((k, x) :: r) = (if k = f then (k, v) :: r else (k, x) :: putF f v r) from rfl]
    by_cases hk : k = f
    · rw [if_pos hk]
      subst hk
      exact ⟨by simp, fun g h => by simpa using h⟩
    · rw [if_neg hk]
      refine ⟨?_, fun g h => ?_⟩
      · rw [List.map_cons]
        exact List.mem_cons_of_mem _ i1
      · rw [List.map_cons] at h ⊢
        rcases List.mem_cons.mp h with e | e
        · exact List.mem_cons.mpr (.inl e)
        · exact List.mem_cons_of_mem _ (i2 g e)
theorem length_putF (f : Str) (v : V) : ∀ fs : List (Str × V), (putF f v fs).length ≤ fs.length + 1
  | [] => by simp [putF]
  | (k, x) :: r => by
    have ih := length_putF f v r
    rw [show putF f v ((k, x) :: r) = (if k = f then (k, v) :: r else (k, x) :: putF f v r) from rfl]
    by_cases hk : k = f
    · rw [if_pos hk, List.length_cons, List.length_cons]; omega
    · rw [if_neg hk, List.length_cons, List.length_cons]; omega

theorem RelO.some_of {v : V} {o : Option Value} (r : RelO (some v) o) : ∃ u, o = some u ∧ RelV v u := by
  cases o with
  | none => exact (show False from r).elim
  | some u => exact ⟨u, rfl, r⟩
theorem RelO.none_of {o : Option Value} (r : RelO none o) : o = none := by
  cases o with
  | none => rfl
  | some u => exact (show False from r).elim
theorem handed_of {v : V} {u : Value} (r : RelV v u) : PySem.W.handedIn u = true := by
  cases v with
  | non => cases (show u = Value.none from r); rfl
  | bl b => cases (show u = Value.bool b from r); rfl
  | int i => obtain ⟨t, e⟩ := (show ∃ t, u = Value.int i t from r); cases e; rfl
  | str x => obtain ⟨t, e⟩ := (show ∃ t, u = Value.str x t from r); cases e; rfl
  | byt b => obtain ⟨t, e⟩ := (show ∃ t, u = Value.bytes b t from r); cases e; rfl
  | flt b => obtain ⟨t, e⟩ := (show ∃ t, u = Value.float b t from r); cases e; rfl
  | ref a => cases (show u = Value.ref a from r); rfl
  | ty n => cases (show u = Value.type n from r); rfl

section
variable {P : Program} {w : World} {H H' : Hp} {h h' : Heap} {a C dx : Addr} {fs fs' : List (Str × V)}
theorem ins_get (hok : HOk P w H h) (e : H a = some (.ins C dx fs)) : ∃ mA, ObjM h a dx C mA ∧ (∀ f, RelO (fs.lookup f) (mA f)) ∧ PySem.Within mA (fs.map (·.1)) ∧ fs.length ≤ 1000 ∧ H dx = some (.own a) := by
  obtain ⟨d, z, ne, ob, mA, n, r, q⟩ := (show ObjOk P w H h a (.ins C dx fs) from hok a _ e)
  exact ⟨mA, ⟨ob, n, ne⟩, r, q, z, d⟩
end

/-! ### what of the text a class must have -/
structure Cls (K : PySem.W.Frag) (C : Addr) : Prop where
  pg : PySem.W.plainGet K C Str.empty = true
  hd : PySem.W.hasDictIn K C = true
  po : PySem.W.plainOver K C = true
  sa : PySem.W.findIn K (.ref C) "__setattr__" = some (some (.builtin "object.__setattr__"))
theorem Cls.get {K : PySem.W.Frag} {C : Addr} (c : Cls K C) (f : Str) : PySem.W.plainGet K C f = true := c.pg
/-- no class of it has the name -/
def NoAttr (K : PySem.W.Frag) (C : Addr) (f : Str) : Prop := PySem.W.findIn K (.ref C) f = some none
theorem NoAttr.taker {K : PySem.W.Frag} {C : Addr} {f : Str} (n : NoAttr K C f) : PySem.W.takerIn K C f = some none := by
  unfold PySem.W.takerIn
  rw [show PySem.W.findIn K (.ref C) f = some none from n]
  rfl
/-- a constant of the class -/
structure Con (K : PySem.W.Frag) (C : Addr) (f : Str) (v : V) (u : Value) : Prop where
  at_ : PySem.W.findIn K (.ref C) f = some (some u)
  rel : RelV v u
  get : PySem.W.specialIn K u "__get__" = some none
  cp : PySem.W.copiedNames.contains f = false
/-- a method: a plain def of the class or of one above it -/
structure Meth (K : PySem.W.Frag) (C : Addr) (m : Str) (f : Addr) : Prop where
  at_ : PySem.W.findIn K (.ref C) m = some (some (.ref f))
  fn : PySem.W.isFn K (.ref f) = true
  kp : PySem.W.keepIn K (.ref f) = true

section
variable {X : Cx} {pins : List (Addr × Obj)} {σ : St} {H : Hp} {s : Shared} {a C dx : Addr} {fs : List (Str × V)} {f : Str} {v : V} {A : Around} {E : Value → Shared → Prop}

theorem getattr_ok {b : Bool} {Q : Value → Shared → Prop} (I : Inv X pins σ H s) (e : H a = some (.ins C dx fs)) (c : Cls X.K C) (n : NoAttr X.K C f) (l : fs.lookup f = some v)
    (h : ∀ u s', Inv X pins σ H s' → RelV v u → Q u s') : wpAny (model X.prog X.w) A (getAttr (.ref a) f b) Q E s := by
  obtain ⟨mA, O, r, _, _, _⟩ := ins_get I.hok e
  obtain ⟨u, hu, ru⟩ := RelO.some_of (v := v) (o := mA f) (by rw [← l]; exact r f)
  exact get_map I.kIn O (c.get f) c.hd n hu (handed_of ru) (h u _ (I.tok _) ru)

theorem getcon_ok {b : Bool} {u : Value} {Q : Value → Shared → Prop} (I : Inv X pins σ H s) (e : H a = some (.ins C dx fs)) (c : Cls X.K C) (k : Con X.K C f v u) (l : fs.lookup f = none)
    (h : ∀ s', Inv X pins σ H s' → Q u s') : wpAny (model X.prog X.w) A (getAttr (.ref a) f b) Q E s := by
  obtain ⟨mA, O, r, _, _, _⟩ := ins_get I.hok e
  have hn : mA f = none := RelO.none_of (by rw [← l]; exact r f)
  exact get_const I.kIn O (c.get f) c.hd k.at_ k.get k.cp hn (handed_of k.rel) (h _ (I.tok _))

theorem getmeth_ok {m : Str} {g : Addr} {pl : Sem Bool} {Q : Value × List Value → Shared → Prop} (I : Inv X pins σ H s) (e : H a = some (.ins C dx fs)) (c : Cls X.K C) (k : Meth X.K C m g) (l : fs.lookup m = none)
    (h : Q (.ref g, [.ref a]) s) : wpAny (model X.prog X.w) A (getMethod (.ref a) m pl) Q E s := by
  obtain ⟨mA, O, r, _, _, _⟩ := ins_get I.hok e
  have hn : mA m = none := RelO.none_of (by rw [← l]; exact r m)
  exact get_meth I.kIn O (c.get m) k.at_ k.fn hn h

theorem setattr_ok {y : V} {u : Value} {Q : Unit → Shared → Prop} (I : Inv X pins σ H s) (e : H a = some (.ins C dx fs)) (c : Cls X.K C) (n : NoAttr X.K C f) (hl : fs.length < 1000) (ry : RelV y u)
    (h : ∀ s', Inv X pins σ (upd H a (.ins C dx (putF f y fs))) s' → Q () s') : wpAny (model X.prog X.w) A (setAttr (.ref a) f u) Q E s := by
  obtain ⟨mA, O, r, wi, _, ho⟩ := ins_get I.hok e
  have hz : (fs.map (·.1)).length ≤ sizeLine := by rw [List.length_map, sizeLine_eq]; omega
  refine set_map I.kIn O c.sa c.po n.taker c.hd wi hz fun h' O' sb => h _ ?_
  have hd : ∃ o, h'.get? dx = some o := let ⟨o, _, _, e', _⟩ := O'.ns; ⟨o, e'⟩
  refine I.write (x := a) (e := dx) (by rw [e]; exact True.intro) (.inr ho) (fun b q hb z => (sb.2 b hb).trans z) hd ?_
  refine ⟨by rw [upd_ne O.ne]; exact ho, ?_, O.ne, O'.obj, _, O'.ns, fun g => ?_, fun g hg => ?_⟩
  · have := length_putF f y fs; omega
  · show RelO ((putF f y fs).lookup g) (if g = f then some u else mA g)
    rw [lookup_putF]
    by_cases q : g = f
    · rw [if_pos q, if_pos q]; exact ry
    · rw [if_neg q, if_neg q]; exact r g
  · by_cases q : g = f
    · rw [q]; exact (keys_putF f y fs).1
    · refine (keys_putF f y fs).2 g (wi g fun z => hg ?_)
      show (if g = f then some u else mA g) = none
      rw [if_neg q]; exact z

/-- a new instance, tracked, without attributes -/
theorem Inv.made (I : Inv X pins σ H s) : Inv X pins σ (upd (upd H s.heap.objs.size (.own (s.heap.objs.size + 1))) (s.heap.objs.size + 1) (.ins C s.heap.objs.size []))
    { s with heap := (s.heap.push PySem.W.emptyDict).push (PySem.W.instObj C s.heap.objs.size) } := by
  have e1 : (s.heap.push PySem.W.emptyDict).get? s.heap.objs.size = some PySem.W.emptyDict := Heap.get?_push_size s.heap rfl
  have e2 : ((s.heap.push PySem.W.emptyDict).push (PySem.W.instObj C s.heap.objs.size)).get? (s.heap.objs.size + 1) = some (PySem.W.instObj C s.heap.objs.size) := by
    have := Heap.get?_push_size (s.heap.push PySem.W.emptyDict) (o := PySem.W.instObj C s.heap.objs.size) rfl
    rwa [Heap.size_push] at this
  have e3 : (s.heap.push PySem.W.emptyDict).Ns s.heap.objs.size (fun _ => none) := ⟨PySem.W.emptyDict, #[], _, e1, rfl, (fun e he => absurd he (by simp)), fun _ => rfl⟩
  have I1 := I.laid (a := s.heap.objs.size) (o := .own (s.heap.objs.size + 1)) (h' := s.heap.push PySem.W.emptyDict) (t' := s.toks) (fun b u q => Heap.get?_push_of_some _ q) (Nat.le_refl _) ⟨_, e1⟩
  refine I1.laid (a := s.heap.objs.size + 1) (o := .ins C s.heap.objs.size []) (t' := s.toks) (fun b u q => Heap.get?_push_of_some _ q) (Nat.le_of_eq (Heap.size_push _ _)) ?_
  have ne : s.heap.objs.size ≠ s.heap.objs.size + 1 := Nat.ne_of_lt (Nat.lt_succ_self _)
  refine ⟨by rw [upd_ne ne, upd_same], Nat.zero_le _, ne, e2, fun _ => none, (Heap.Ns1.of_empty e3).at fun o q => Heap.get?_push_of_some _ q, fun _ => True.intro, fun y hy => absurd rfl hy⟩

/-- e.f where nothing but the object is asked: through attributeBase (super) and the last hold -/
theorem attr_of {prog : Program} {w : World} {env : Env} {e : Expr} {f : Str} {pos : Pos} {s : Shared} {Q : Value → Shared → Prop} (hb : attributeBase e f env (eval e env) = eval e env)
    (h : wpAny (model prog w) A (eval e env) (fun o s₁ => wpAny (model prog w) A (getAttr o f true) Q E s₁) E s) : wpAny (model prog w) A (eval (.Attribute e f pos) env) Q E s :=
  Attribute_any_ h (by rw [arm_eval_Attribute, hb])
end

/-! ### readings and rules -/
/-- e.f, an attribute of the instance -/
def tFld (K : PySem.W.Frag) (ta : TE) (f : Str) : TE := fun σ H Q => ta σ H fun x H1 => ∃ a C dx fs v, x = .ref a ∧ H1 a = some (.ins C dx fs) ∧ Cls K C ∧ NoAttr K C f ∧ fs.lookup f = some v ∧ Q v H1
/-- e.f, a constant of the class -/
def tCon (K : PySem.W.Frag) (ta : TE) (f : Str) : TE := fun σ H Q => ta σ H fun x H1 => ∃ a C dx fs v u, x = .ref a ∧ H1 a = some (.ins C dx fs) ∧ Cls K C ∧ Con K C f v u ∧ fs.lookup f = none ∧ Q v H1
/-- e.f = value -/
def sFld (K : PySem.W.Frag) (ta tv : TE) (f : Str) : TS := fun D σ H => tv σ H fun y H1 => ta σ H1 fun x H2 => ∃ a C dx fs, x = .ref a ∧ H2 a = some (.ins C dx fs) ∧ Cls K C ∧ NoAttr K C f ∧ fs.length < 1000 ∧
  D.nx σ (upd H2 a (.ins C dx (putF f y fs)))
/-- an augmented operator on two values -/
def InOp (X : Cx) (op : Operator) (rd : V → V → Hp → VK → Prop) : Prop :=
  ∀ (pins : List (Addr × Obj)) (s : Shared) (σ : St) (H : Hp) (x y : V) (u v : Value) (Q : VK), Inv X pins σ H s → RelV x u → RelV y v → rd x y H Q → wpAny (model X.prog X.w) X.A (inplaceOp op u v) (EP X pins σ Q) X.xe s
/-- e.f op= value -/
def sFldAug (K : PySem.W.Frag) (ta tv : TE) (rd : V → V → Hp → VK → Prop) (f : Str) : TS := fun D σ H => ta σ H fun x H1 => ∃ a C dx fs v, x = .ref a ∧ H1 a = some (.ins C dx fs) ∧ Cls K C ∧ NoAttr K C f ∧ fs.lookup f = some v ∧
  tv σ H1 fun y H2 => rd v y H2 fun z H3 => ∃ dx' fs', H3 a = some (.ins C dx' fs') ∧ fs'.length < 1000 ∧ D.nx σ (upd H3 a (.ins C dx' (putF f z fs')))

section
variable {X : Cx} {o e value : Expr} {f : Str} {pos pos' tpos : Pos} {ta tv : TE}
theorem pe_fld (he : PE X e ta) (hb : attributeBase e f X.env (eval e X.env) = eval e X.env) : PE X (.Attribute e f pos) (tFld X.K ta f) := by
  intro pins s σ H Q I h
  refine attr_of hb (thn (he pins s σ H _ I h) fun u s1 ⟨x, H1, I1, rx, a, C, dx, fs, v, ex, ea, c, n, l, q⟩ => ?_)
  subst ex
  obtain rfl : u = Value.ref a := rx
  exact getattr_ok I1 ea c n l fun u' s2 I2 ru => ⟨v, H1, I2, ru, q⟩
theorem pe_con (he : PE X e ta) (hb : attributeBase e f X.env (eval e X.env) = eval e X.env) : PE X (.Attribute e f pos) (tCon X.K ta f) := by
  intro pins s σ H Q I h
  refine attr_of hb (thn (he pins s σ H _ I h) fun u s1 ⟨x, H1, I1, rx, a, C, dx, fs, v, u0, ex, ea, c, k, l, q⟩ => ?_)
  subst ex
  obtain rfl : u = Value.ref a := rx
  exact getcon_ok I1 ea c k l fun s2 I2 => ⟨v, H1, I2, k.rel, q⟩
theorem ps_fld (ha : PE X o ta) (hv : PE X value tv) (hs : swapsWith value (some (.Attribute o f pos')) pos.line X.env = pure false) : PS X (.Assign [.Attribute o f pos'] value pos) (sFld X.K ta tv f) := by
  intro pins s σ H D I h
  refine plainObj_wpAny_Assign_Attribute (thn (hv pins s σ H _ I h) fun u s1 ⟨y, H1, I1, ry, q⟩ => thn (ha pins s1 σ H1 _ I1 q) fun ov s2 ⟨x, H2, I2, rx, a, C, dx, fs, ex, ea, c, n, l, q2⟩ => ?_) hs
  subst ex
  obtain rfl : ov = Value.ref a := rx
  exact setattr_ok I2 ea c n l ry fun s3 I3 => ⟨σ, _, I3, q2⟩
theorem ps_fldaug {op : Operator} {rd : V → V → Hp → VK → Prop} (ha : PE X o ta) (hv : PE X value tv) (hop : InOp X op rd) : PS X (.AugAssign (.Attribute o f tpos) op value pos) (sFldAug X.K ta tv rd f) := by
  intro pins s σ H D I h
  refine wpAny_AugAssign_AttributeAny (thn (ha pins s σ H _ I h) fun ov s1 ⟨x, H1, I1, rx, a, C, dx, fs, v, ex, ea, c, n, l, q⟩ => ?_)
  subst ex
  obtain rfl : ov = Value.ref a := rx
  refine getattr_ok I1 ea c n l fun u s2 I2 ru => thn (hv pins s2 σ H1 _ I2 q) fun w3 s3 ⟨y, H2, I3, ry, q3⟩ => thn (hop pins s3 σ H2 v y u w3 _ I3 ru ry q3) fun w4 s4 ⟨z, H3, I4, rz, dx', fs', ea', l', q4⟩ => ?_
  exact setattr_ok I4 ea' c n l' rz fun s5 I5 => ⟨σ, _, I5, q4⟩
def rAdd : V → V → Hp → VK → Prop := fun x y H Q => ∃ i j, x = .int i ∧ y = .int j ∧ Q (.int (i + j)) H
def rSub : V → V → Hp → VK → Prop := fun x y H Q => ∃ i j, x = .int i ∧ y = .int j ∧ Q (.int (i - j)) H
theorem in_add : InOp X .Add rAdd := by
  rintro pins s σ H x y u v Q I rx ry ⟨i, j, rfl, rfl, q⟩
  obtain ⟨t, rfl⟩ := (show ∃ t, u = Value.int i t from rx)
  obtain ⟨t', rfl⟩ := (show ∃ t', v = Value.int j t' from ry)
  exact PyProof.Rows.iadd_int ⟨.int (i + j), H, I.tok _, ⟨_, rfl⟩, q⟩
theorem in_sub : InOp X .Sub rSub := by
  rintro pins s σ H x y u v Q I rx ry ⟨i, j, rfl, rfl, q⟩
  obtain ⟨t, rfl⟩ := (show ∃ t, u = Value.int i t from rx)
  obtain ⟨t', rfl⟩ := (show ∃ t', v = Value.int j t' from ry)
  exact PyProof.Rows.isub_int ⟨.int (i - j), H, I.tok _, ⟨_, rfl⟩, q⟩

/-- what is between an instance and its method: the tree of a method call -/
theorem methcall_of {pl : Sem Bool} {m : Str} {apos : Pos} {args : List Expr} {pins : List (Addr × Obj)} {s : Shared} {σ : St} {H : Hp} {Q : Value → Shared → Prop} {te : TE} (he : PE X e te) (I : Inv X pins σ H s)
    (h : te σ H fun x H1 => ∃ a C dx fs g, x = .ref a ∧ H1 a = some (.ins C dx fs) ∧ Cls X.K C ∧ Meth X.K C m g ∧ fs.lookup m = none ∧
      ∀ s1, Inv X pins σ H1 s1 → wpAny (model X.prog X.w) X.A (callWith pos (.ref g) [.ref a] (backTo pos (starEach args X.env)) (backToKw pos (keywordEach [] X.env))) Q X.xe s1)
    (ht : eval (.Call (.Attribute e m apos) args [] pos) X.env = (do
      let ov ← eval e X.env
      standAt apos.atName
      let (f, first) ← holding [ov] (getMethod ov m pl)
      callWith pos f first (backTo pos (starEach args X.env)) (backToKw pos (keywordEach [] X.env)))) :
    wpAny (model X.prog X.w) X.A (eval (.Call (.Attribute e m apos) args [] pos) X.env) Q X.xe s := by
  refine PySem.W.methodCall_KW (pl := pl) (thn (he pins s σ H _ I h) fun u s1 ⟨x, H1, I1, rx, a, C, dx, fs, g, ex, ea, c, k, l, q⟩ => ?_) ht
  subst ex
  obtain rfl : u = Value.ref a := rx
  exact getmeth_ok I1 ea c k l (q s1 I1)
end

/-! ### isinstance -/
section
variable {X : Cx} {pins : List (Addr × Obj)} {σ : St} {H : Hp} {s : Shared} {A : Around} {E : Value → Shared → Prop} {Q : Value → Shared → Prop} {c : Value} {b : Bool}
/-- the type of a value, as the fragment's deciders take it; for an instance its class -/
inductive TyOf (K : PySem.W.Frag) (H : Hp) : V → Value → Prop where
  | non : TyOf K H .non (.type "NoneType")
  | bl (x : Bool) : TyOf K H (.bl x) (.type "bool")
  | int (i : Int) : TyOf K H (.int i) (.type "int")
  | str (x : Str) : TyOf K H (.str x) (.type "str")
  | flt (x : UInt64) : TyOf K H (.flt x) (.type "float")
  | lst {a : Addr} {xs : List V} (e : H a = some (.lst xs)) : TyOf K H (.ref a) (.type "list")
  | frz {a : Addr} {o : Obj} {xs : List V} (e : H a = some (.frz o (.lst xs))) : TyOf K H (.ref a) (.type "list")
  | tup {a : Addr} {xs : List V} (e : H a = some (.tup xs)) : TyOf K H (.ref a) (.type "tuple")
  | dK {a : Addr} {kvs : List (Key × V)} (e : H a = some (.dK kvs)) : TyOf K H (.ref a) (.type "dict")
  | dT {a : Addr} {kvs : List (List Key × V)} (e : H a = some (.dT kvs)) : TyOf K H (.ref a) (.type "dict")
  | ins {a C dx : Addr} {fs : List (Str × V)} (e : H a = some (.ins C dx fs)) (cl : Cls K C) (ha : PySem.W.findIn K (.ref C) "__class__" = some (some (.builtin "object.__class__")))
      (hn : PySem.W.specialIn K (.builtin "object.__class__") "__get__" = some (some (.builtin "getset_descriptor.__get__"))) (htk : PySem.W.takesIn K (.builtin "object.__class__") = some true)
      (hm : PySem.W.mroIn K C (.type "object") = some true) : TyOf K H (.ref a) (.ref C)
/-- isinstance(x, c) for one class c, a built-in or an own one: kitOne's answer -/
theorem isinst_ok {x : V} {u t : Value} (I : Inv X pins σ H s) (rx : RelV x u) (ty : TyOf X.K H x t) (e : PySem.W.kitOne X.K t c = some b) (h : ∀ tk, Q (.bool b) { s with toks := tk }) :
    wpAny (model X.prog X.w) A (call (.builtin "isinstance") [u, c]) Q E s := by
  cases ty with
  | non => cases (show u = Value.none from rx); exact PySem.W.kia_one PySem.W.kitx_none I.kIn True.intro e (fun z => nomatch z) h
  | bl y => cases (show u = Value.bool y from rx); exact PySem.W.kia_one PySem.W.kitx_bool I.kIn True.intro e (fun z => nomatch z) h
  | int i => obtain ⟨t, q⟩ := (show ∃ t, u = Value.int i t from rx); cases q; exact PySem.W.kia_one PySem.W.kitx_int I.kIn True.intro e (fun z => nomatch z) h
  | str y => obtain ⟨t, q⟩ := (show ∃ t, u = Value.str y t from rx); cases q; exact PySem.W.kia_one PySem.W.kitx_str I.kIn True.intro e (fun z => nomatch z) h
  | flt y => obtain ⟨t, q⟩ := (show ∃ t, u = Value.float y t from rx); cases q; exact PySem.W.kia_one PySem.W.kitx_float I.kIn True.intro e (fun z => nomatch z) h
  | @lst a xs ea =>
    cases (show u = Value.ref a from rx)
    obtain ⟨_, _, n, _, h1⟩ := (show ObjOk X.prog X.w H s.heap a (.lst xs) from I.hok a _ ea)
    exact PySem.W.kia_one PySem.W.kitx_list I.kIn ⟨_, h1, rfl⟩ e (fun z => nomatch z) h
  | @frz a ob xs ea =>
    cases (show u = Value.ref a from rx)
    obtain ⟨_, _, _, n, _, h1⟩ := (show ObjOk X.prog X.w H s.heap a (.frz ob (.lst xs)) from I.hok a _ ea)
    exact PySem.W.kia_one PySem.W.kitx_list I.kIn ⟨_, h1, rfl⟩ e (fun z => nomatch z) h
  | @tup a xs ea =>
    cases (show u = Value.ref a from rx)
    obtain ⟨_, _, _, p⟩ := (show ObjOk X.prog X.w H s.heap a (.tup xs) from I.hok a _ ea)
    obtain ⟨o, h1, h2, _⟩ := p
    exact PySem.W.kia_one PySem.W.kitx_tuple I.kIn ⟨o, h1, h2⟩ e (fun z => nomatch z) h
  | @dK a kvs ea =>
    cases (show u = Value.ref a from rx)
    obtain ⟨_, _, vs, _, p⟩ := (show ObjOk X.prog X.w H s.heap a (.dK kvs) from I.hok a _ ea)
    obtain ⟨o, es, ep, h1, h2, _⟩ := p
    exact PySem.W.kia_one PySem.W.kitx_dict I.kIn ⟨o, h1, h2.1⟩ e (fun z => nomatch z) h
  | @dT a kvs ea =>
    cases (show u = Value.ref a from rx)
    obtain ⟨_, _, xs, _, o, es, ep, h1, h2, _⟩ := (show ObjOk X.prog X.w H s.heap a (.dT kvs) from I.hok a _ ea)
    exact PySem.W.kia_one PySem.W.kitx_dict I.kIn ⟨o, h1, h2.1⟩ e (fun z => nomatch z) h
  | @ins a C dx fs ea cl ha hn htk hm =>
    cases (show u = Value.ref a from rx)
    obtain ⟨mA, O, _⟩ := ins_get I.hok ea
    obtain ⟨od, J, _⟩ := O.look
    exact PySem.W.kia_one (PySem.W.kitx_own (cl.get _) cl.hd ha hn htk hm) I.kIn J e (fun z => nomatch z) h
end
end L2

namespace L2
open PySem PySem.Spec PyProof.Rows

/-! ### room -/
structure Room (k : Nat) (A : Around) : Prop where
  hd : A.handled = none
  dp : A.depth + 3 * k + 5 < recursionLimit
  un : A.units + 16 * k + 200 < cLine
theorem Room.mono {j k : Nat} {A : Around} (r : Room k A) (h : j ≤ k) : Room j A := ⟨r.hd, by have := r.dp; omega, by have := r.un; omega⟩
theorem Room.deeper {k : Nat} {A : Around} (r : Room (k + 1) A) (env : Env) : Room k (A.deeper env) :=
  ⟨r.hd, by have := r.dp; show A.depth + 1 + 3 * k + 5 < _; omega, by have := r.un; show A.units + 3 + 16 * k + 200 < _; omega⟩
theorem Room.in1 {k : Nat} {A : Around} (r : Room (k + 1) A) : Room k A.in1 :=
  ⟨r.hd, by have := r.dp; show A.depth + 3 * k + 5 < _; omega, by have := r.un; show A.units + 1 + 16 * k + 200 < _; omega⟩
theorem make_depth {A : Around} {C : Addr} {us : List Value} {kw : List (Str × Value)} : (A.under (.builtin "type.__call__" ⟨.ref C :: us, kw⟩)).depth = A.depth + 1 := by
  first | rfl | simp [Around.under, Code.weight, Code.isCreation, Code.isGuard, Code.isCaller, Code.frames, Code.isFrame, guardIds]
theorem make_units {A : Around} {C : Addr} {us : List Value} {kw : List (Str × Value)} : (A.under (.builtin "type.__call__" ⟨.ref C :: us, kw⟩)).units = A.units + 1 := by
  first | rfl | simp [Around.under, Code.cUnits, Code.frames, Code.isFrame]
theorem Room.make {k : Nat} {A : Around} (r : Room (k + 1) A) (C : Addr) (us : List Value) (kw : List (Str × Value)) : Room k (A.under (.builtin "type.__call__" ⟨.ref C :: us, kw⟩)) :=
  ⟨r.hd, by have := r.dp; rw [make_depth]; omega, by have := r.un; rw [make_units]; omega⟩
theorem Room.depth {k : Nat} {A : Around} (r : Room k A) : A.depth < recursionLimit := by have := r.dp; omega
theorem Room.units {k : Nat} {A : Around} (r : Room k A) : A.units + 64 < cLine := by have := r.un; omega
theorem Room.units0 {k : Nat} {A : Around} (r : Room k A) : A.units < cLine := by have := r.un; omega

/-! ### argument lists and displays -/
def tNil : TA := fun _ H Q => Q [] H
def tCons (ta : TE) (tr : TA) : TA := fun σ H Q => ta σ H fun x H1 => tr σ H1 fun xs H2 => Q (x :: xs) H2
section
variable {X : Cx} {e : Expr} {es : List Expr} {te : TE} {t : TA} {pos : Pos}
theorem pa_nil : PA X [] tNil := fun _ _ _ _ H Q I h => Calls.spliced_nil ⟨[], H, I, .nil, h⟩
theorem pa_cons (ha : PE X e te) (hr : PA X es t) (hs : starEach (e :: es) X.env = (false, eval e X.env) :: starEach es X.env := by rfl) : PA X (e :: es) (tCons te t) := by
  intro pos pins s σ H Q I h
  rw [hs]
  show wpAny _ _ (spliced ((false, eval e X.env) :: backTo pos (starEach es X.env))) _ _ s
  refine Calls.spliced_cons (thn (ha pins s σ H _ I h) fun u s1 ⟨x, H1, I1, r1, q1⟩ => ?_)
  exact thn (hr pos pins s1 σ H1 _ I1 q1) fun us s2 ⟨xs, H2, I2, r2, q2⟩ => ⟨x :: xs, H2, I2, .cons r1 r2, q2⟩

/-- a tuple, a list of written items -/
def tTup (t : TA) : TE := fun σ H Q => t σ H fun xs H1 => xs.length ≤ sizeLine ∧ ∀ p, H1 p = none → Q (.ref p) (upd H1 p (.tup xs))
def tLst (t : TA) : TE := fun σ H Q => t σ H fun xs H1 => xs.length ≤ sizeLine ∧ ∀ p, H1 p = none → Q (.ref p) (upd H1 p (.lst xs))
theorem pe_tup {x1} (h : PA X es t) : PE X (.Tuple es x1 pos) (tTup t) := by
  intro pins s σ H Q I hq
  refine wpAny_Tuple_spliced (thn (h pos pins s σ H _ I hq) fun us s1 ⟨xs, H1, I1, r, z, q⟩ => ⟨by rw [← r.length]; exact z, ?_⟩)
  have hf : H1 s1.heap.objs.size = none := I1.hok.fresh (Nat.le_refl _)
  refine ⟨.ref s1.heap.objs.size, upd H1 s1.heap.objs.size (.tup xs), I1.laid (t' := s1.toks) (fun b u e => Heap.get?_push_of_some _ e) (Nat.le_refl _) ?_, rfl, q _ hf⟩
  exact ⟨z, us, r, ⟨_, Heap.get?_push_size _ rfl, rfl, _, rfl⟩⟩
theorem pe_lst (h : PA X es t) : PE X (.List es pos) (tLst t) := by
  intro pins s σ H Q I hq
  refine wpAny_List_spliced (thn (h pos pins s σ H _ I hq) fun us s1 ⟨xs, H1, I1, r, z, q⟩ => ⟨by rw [← r.length]; exact z, ?_⟩)
  have hf : H1 s1.heap.objs.size = none := I1.hok.fresh (Nat.le_refl _)
  refine ⟨.ref s1.heap.objs.size, upd H1 s1.heap.objs.size (.lst xs), I1.laid (t' := s1.toks) (fun b u e => Heap.get?_push_of_some _ e) (Nat.le_refl _) ?_, rfl, q _ hf⟩
  exact ⟨z, us, 0, r, Heap.get?_push_size _ rfl⟩
end

/-! ### what a def promises -/
/-- a def's promise: the bound arguments in the parameters' order, the heap, the wanted end, the wanted exception -/
abbrev Sp := List V → Hp → VK → XK → Prop
/-- how an exception lies behind a call (file 08 gives it): the callers' frames, abstract heap and state ahead of the call, the wish, the exception, the state -/
abbrev CXT := List Env → Hp → Shared → XK → Value → Shared → Prop

/-- the state at a call -/
structure Env0 (P : Program) (w : World) (K : PySem.W.Frag) (mg : Str → Option Value) (base : Heap) (A : Around) (outer : List Env) (s : Shared) (H : Hp) : Prop where
  frames : A.frames = some outer
  mod : Mod K mg base
  bs : ∀ b o, base.get? b = some o → s.heap.get? b = some o ∧ H b = none
  bsz : base.objs.size ≤ s.heap.objs.size
  funs : s.heap.FunFrames base outer
  frf : ∀ b ∈ frs outer, H b = none
  hok : HOk P w H s.heap
  bare : AllBare s.gens
/-- a call's end -/
def CE (outer : List Env) (P : Program) (w : World) (H : Hp) (s : Shared) (Q : VK) (u : Value) (s' : Shared) : Prop :=
  ∃ v H', s'.os = s.os ∧ AllBare s'.gens ∧ Un (frs outer) [] H H' s.heap s'.heap ∧ HOk P w H' s'.heap ∧ RelV v u ∧ Q v H'
def CR (CX : CXT) (outer : List Env) (P : Program) (w : World) (H : Hp) (s : Shared) (Q : VK) (E : XK) (r : Result) (s' : Shared) : Prop :=
  match r with
  | .ok (.ret u) => CE outer P w H s Q u s'
  | .ok _ => False
  | .error e => CX outer H s E e s'
structure FnOk (P : Program) (w : World) (K : PySem.W.Frag) (mg : Str → Option Value) (base : Heap) (CX : CXT) (k : Nat) (f : Addr) (fd : FuncData) (ps : List Str) (sp : Sp) : Prop where
  len : ∀ vs H Q E, sp vs H Q E → vs.length = ps.length
  run : ∀ (A : Around) (outer : List Env) (s : Shared) (H : Hp) (args : Args) (us : List Value) (vs : List V) (Q : VK) (E : XK), Room k A → Env0 P w K mg base A outer s H → BindsTo s fd args (ps.zip us) → Vals vs us → sp vs H Q E →
    codeAny (model P w) A (.call (.ref f) args) (CR CX outer P w H s Q E) s
theorem FnOk.mono {P : Program} {w : World} {K : PySem.W.Frag} {mg : Str → Option Value} {base : Heap} {CX : CXT} {j k : Nat} {f : Addr} {fd : FuncData} {ps : List Str} {sp : Sp} (F : FnOk P w K mg base CX j f fd ps sp) (h : j ≤ k) :
    FnOk P w K mg base CX k f fd ps sp := ⟨F.len, fun A outer s H args us vs Q E hr => F.run A outer s H args us vs Q E (hr.mono h)⟩
/-- a weaker promise -/
theorem FnOk.imp {P : Program} {w : World} {K : PySem.W.Frag} {mg : Str → Option Value} {base : Heap} {CX : CXT} {k : Nat} {f : Addr} {fd : FuncData} {ps : List Str} {sp sp' : Sp} (F : FnOk P w K mg base CX k f fd ps sp)
    (h : ∀ vs H Q E, sp' vs H Q E → sp vs H Q E) : FnOk P w K mg base CX k f fd ps sp' :=
  ⟨fun vs H Q E q => F.len vs H Q E (h _ _ _ _ q), fun A outer s H args us vs Q E hr he hb hv hs => F.run A outer s H args us vs Q E hr he hb hv (h _ _ _ _ hs)⟩

theorem Env0.make {P : Program} {w : World} {K : PySem.W.Frag} {mg : Str → Option Value} {base : Heap} {A : Around} {outer : List Env} {s : Shared} {H : Hp} (e : Env0 P w K mg base A outer s H) (C : Addr) (us : List Value) (kw : List (Str × Value)) :
    Env0 P w K mg base (A.under (.builtin "type.__call__" ⟨.ref C :: us, kw⟩)) outer s H := ⟨by first | exact e.frames | (simpa [Around.under, Code.envs, Code.isFrame, pushEnvs] using e.frames), e.mod, e.bs, e.bsz, e.funs, e.frf, e.hok, e.bare⟩
theorem Env0.in1 {P : Program} {w : World} {K : PySem.W.Frag} {mg : Str → Option Value} {base : Heap} {A : Around} {outer : List Env} {s : Shared} {H : Hp} (e : Env0 P w K mg base A outer s H) :
    Env0 P w K mg base A.in1 outer s H := ⟨e.frames, e.mod, e.bs, e.bsz, e.funs, e.frf, e.hok, e.bare⟩

section
variable {X : Cx} {pins : List (Addr × Obj)} {σ : St} {H : Hp} {s s' : Shared}
/-- from a body: what a callee wants -/
theorem Inv.env0 (I : Inv X pins σ H s) : Env0 X.prog X.w X.K X.mg X.base X.A X.stack s H :=
  ⟨I.ok.frames, I.ok.mod, I.bs, Nat.le_trans I.ok.bsz I.sz, I.stack, I.stkFree, I.hok, I.bare⟩
/-- behind a call -/
theorem Inv.after {Q : VK} {u : Value} (I : Inv X pins σ H s) (h : CE X.stack X.prog X.w H s Q u s') : EP X pins σ Q u s' := by
  obtain ⟨v, H', os, bare, un, hok, r, q⟩ := h
  obtain ⟨hh, g, d, t, os'⟩ := s'
  obtain rfl : os' = s.os := os
  exact ⟨v, H', I.call (h' := hh) (g' := g) (d' := d) (t' := t) (ch := []) un hok bare (fun b z => absurd z (by simp)), r, q⟩
end

/-! ### calls -/
/-- f(..): the written arguments, then the defaults dvs; E: what is wanted of an exception -/
def tCall (sp : Sp) (dvs : List V) (E : XK) (t : TA) : TE := fun σ H Q => t σ H fun vs H1 => sp (vs ++ dvs) H1 Q E
/-- o.m(..) of an instance of the class at C -/
def tMeth (C : Addr) (m : Str) (sp : Sp) (dvs : List V) (E : XK) (ta : TE) (t : TA) : TE := fun σ H Q => ta σ H fun x H1 => ∃ a dx fs, x = .ref a ∧ H1 a = some (.ins C dx fs) ∧ fs.lookup m = none ∧
  t σ H1 fun vs H2 => sp (x :: (vs ++ dvs)) H2 Q E
/-- C(..): a new instance and its dict, then __init__ -/
def tMake (C : Addr) (sp : Sp) (dvs : List V) (E : XK) (t : TA) : TE := fun σ H Q => t σ H fun vs H1 => ∀ x dx, H1 x = none → H1 dx = none → dx ≠ x →
  sp (.ref x :: (vs ++ dvs)) (upd (upd H1 dx (.own x)) x (.ins C dx [])) (fun v H2 => v = .non ∧ Q (.ref x) H2) E

/-- how the parameters are bound: us the positional arguments, kw the keywords' values by name, ds the defaults that fill up -/
def Binds (K : PySem.W.Frag) (fd : FuncData) (ps : List Str) (ds : List Value) : Prop :=
  ∀ (s : Shared) (us : List Value), K.In s.heap → (us ++ ds).length = ps.length → BindsTo s fd ⟨us, []⟩ (ps.zip (us ++ ds))
/-- every parameter is given -/
theorem Binds.all {K : PySem.W.Frag} {fd : FuncData} {ps : List Str} (h : ∀ us : List Value, us.length = ps.length → bindArgs fd ⟨us, []⟩ = pure (ps.zip us)) : Binds K fd ps [] := fun s us _ hl => by
  rw [List.append_nil] at hl ⊢
  exact .of_eq (h us hl)

/-- an exception of a callee reaches what this body wants of exceptions -/
def Passes (CX : CXT) (X : Cx) (E : XK) : Prop := ∀ (pins : List (Addr × Obj)) (σ : St) (H : Hp) (s : Shared) (e : Value) (s' : Shared), Inv X pins σ H s → CX X.stack H s E e s' → X.xe e s'

section
variable {X : Cx} {CX : CXT} {k : Nat} {f C : Addr} {fd : FuncData} {ps : List Str} {sp : Sp} {dvs : List V} {ds : List Value} {E : XK} {x m : Str} {p pos apos : Pos} {e o : Expr} {es : List Expr} {ta : TE} {t : TA}

/-- the callee runs -/
theorem run_fn {pins : List (Addr × Obj)} {σ : St} {H : Hp} {s : Shared} {Q : VK} {us : List Value} {vs : List V} (F : FnOk X.prog X.w X.K X.mg X.base CX k f fd ps sp) (hr : Room k X.A) (hb : Binds X.K fd ps ds) (hd : Vals dvs ds) (hx : Passes CX X E)
    (I : Inv X pins σ H s) (r : Vals vs us) (h : sp (vs ++ dvs) H Q E) : wpAny (model X.prog X.w) X.A (call (.ref f) us) (EP X pins σ Q) X.xe s := by
  have r2 : Vals (vs ++ dvs) (us ++ ds) := r.append hd
  have hl : (us ++ ds).length = ps.length := by rw [← r2.length]; exact F.len _ _ _ _ h
  refine wpAny_call (codeAny_mono (F.run X.A X.stack s H ⟨us, []⟩ (us ++ ds) (vs ++ dvs) Q E hr I.env0 (hb s us I.kIn hl) r2 h) fun r s' hq => ?_)
  cases r with
  | error e => exact hx pins σ H s e s' I hq
  | ok fl =>
    cases fl with
    | ret u => exact I.after hq
    | next => exact False.elim hq
    | brk => exact False.elim hq
    | cont => exact False.elim hq

theorem pe_call (F : FnOk X.prog X.w X.K X.mg X.base CX k f fd ps sp) (hr : Room k X.A) (hg : Gl X x) (hm : X.mg x = some (.ref f)) (hk : PySem.W.keepIn X.K (.ref f) = true) (hb : Binds X.K fd ps ds) (hd : Vals dvs ds) (hx : Passes CX X E)
    (ha : PA X (e :: es) t) (hdb : (x == ("__debug__" : Str)) = false := by decide) (he : starEach (e :: es) X.env = (false, eval e X.env) :: starEach es X.env := by rfl) (hpl : (backTo pos (starEach es X.env)).any (·.1) = false := by rfl) :
    PE X (.Call (.Name x p) (e :: es) [] pos) (tCall sp dvs E t) := by
  intro pins s σ H Q I h
  refine wpAny_Call_Name_kw (ld_glob I hg hm ?_ hdb)
  refine PySem.W.callWith_K (h₀ := X.base) I.ok.mod.kin hk (thn (ha pos pins s σ H _ I h) fun us s1 ⟨vs, H1, I1, r, q⟩ => ⟨I1.kIn, ?_⟩) he hpl
  exact run_fn F hr hb hd hx I1 r q
theorem pe_call0 (F : FnOk X.prog X.w X.K X.mg X.base CX k f fd ps sp) (hr : Room k X.A) (hg : Gl X x) (hm : X.mg x = some (.ref f)) (hk : PySem.W.keepIn X.K (.ref f) = true) (hb : Binds X.K fd ps ds) (hd : Vals dvs ds) (hx : Passes CX X E)
    (hdb : (x == ("__debug__" : Str)) = false := by decide) : PE X (.Call (.Name x p) [] [] pos) (tCall sp dvs E tNil) := by
  intro pins s σ H Q I h
  refine wpAny_Call_Name_kw (ld_glob I hg hm ?_ hdb)
  exact PySem.W.callWith_K0 I.kIn hk (run_fn (us := []) F hr hb hd hx I .nil h)

/-- o.m(e, ..) -/
theorem pe_meth {pl : Sem Bool} (he : PE X o ta) (c : Cls X.K C) (hm : Meth X.K C m f) (F : FnOk X.prog X.w X.K X.mg X.base CX k f fd ps sp) (hr : Room k X.A) (hb : Binds X.K fd ps ds) (hd : Vals dvs ds) (hx : Passes CX X E) (ha : PA X (e :: es) t)
    (hst : starEach (e :: es) X.env = (false, eval e X.env) :: starEach es X.env := by rfl) (hpl : (backTo pos (starEach es X.env)).any (·.1) = false := by rfl)
    (ht : eval (.Call (.Attribute o m apos) (e :: es) [] pos) X.env = (do
      let ov ← eval o X.env
      standAt apos.atName
      let (f, first) ← holding [ov] (getMethod ov m pl)
      callWith pos f first (backTo pos (starEach (e :: es) X.env)) (backToKw pos (keywordEach [] X.env))) := by rfl) :
    PE X (.Call (.Attribute o m apos) (e :: es) [] pos) (tMeth C m sp dvs E ta t) := by
  intro pins s σ H Q I h
  refine PySem.W.methodCall_KW (pl := pl) (thn (he pins s σ H _ I h) fun u s1 ⟨x, H1, I1, rx, a, dx, fs, ex, ea, l, q⟩ => ?_) ht
  subst ex
  obtain rfl : u = Value.ref a := rx
  refine getmeth_ok I1 ea c hm l ?_
  refine PySem.W.callWith_K (first := [.ref a]) (h₀ := X.base) I.ok.mod.kin hm.kp (thn (ha pos pins s1 σ H1 _ I1 q) fun us s2 ⟨vs, H2, I2, r, q2⟩ => ⟨I2.kIn, ?_⟩) hst hpl
  exact run_fn (us := .ref a :: us) (vs := .ref a :: vs) F hr hb hd hx I2 (.cons rfl r) q2
/-- o.m() -/
theorem pe_meth0 {pl : Sem Bool} (he : PE X o ta) (c : Cls X.K C) (hm : Meth X.K C m f) (F : FnOk X.prog X.w X.K X.mg X.base CX k f fd ps sp) (hr : Room k X.A) (hb : Binds X.K fd ps ds) (hd : Vals dvs ds) (hx : Passes CX X E)
    (ht : eval (.Call (.Attribute o m apos) [] [] pos) X.env = (do
      let ov ← eval o X.env
      standAt apos.atName
      let (f, first) ← holding [ov] (getMethod ov m pl)
      callWith pos f first (backTo pos (starEach [] X.env)) (backToKw pos (keywordEach [] X.env))) := by rfl) :
    PE X (.Call (.Attribute o m apos) [] [] pos) (tMeth C m sp dvs E ta tNil) := by
  intro pins s σ H Q I h
  refine PySem.W.methodCall_KW (pl := pl) (thn (he pins s σ H _ I h) fun u s1 ⟨x, H1, I1, rx, a, dx, fs, ex, ea, l, q⟩ => ?_) ht
  subst ex
  obtain rfl : u = Value.ref a := rx
  refine getmeth_ok I1 ea c hm l ?_
  exact PySem.W.callWith_K0 (first := [.ref a]) I1.kIn hm.kp (run_fn (us := [.ref a]) (vs := [.ref a]) F hr hb hd hx I1 (.cons rfl .nil) q)

/-- what a class must have to be made -/
structure Mk (K : PySem.W.Frag) (C f : Addr) : Prop where
  makes : PySem.W.makesIn K C = true
  init : PySem.W.findIn K (.ref C) "__init__" = some (some (.ref f))
  fn : PySem.W.isFn K (.ref f) = true
  kp : PySem.W.keepIn K (.ref C) = true

theorem run_make {pins : List (Addr × Obj)} {σ : St} {H : Hp} {s : Shared} {Q : VK} {us : List Value} {vs : List V} (M : Mk X.K C f) (F : FnOk X.prog X.w X.K X.mg X.base CX k f fd ps sp) (hr : Room (k + 1) X.A) (hb : Binds X.K fd ps ds) (hd : Vals dvs ds)
    (hx : Passes CX X E) (I : Inv X pins σ H s) (r : Vals vs us)
    (h : ∀ x dx, H x = none → H dx = none → dx ≠ x → sp (.ref x :: (vs ++ dvs)) (upd (upd H dx (.own x)) x (.ins C dx [])) (fun v H2 => v = .non ∧ Q (.ref x) H2) E) :
    wpAny (model X.prog X.w) X.A (call (.ref C) us) (EP X pins σ Q) X.xe s := by
  have hq := h (s.heap.objs.size + 1) s.heap.objs.size (I.hok.fresh (Nat.le_succ _)) (I.hok.fresh (Nat.le_refl _)) (Nat.ne_of_lt (Nat.lt_succ_self _))
  have I2 := Inv.made (C := C) I
  have r2 : Vals (V.ref (s.heap.objs.size + 1) :: (vs ++ dvs)) (Value.ref (s.heap.objs.size + 1) :: (us ++ ds)) := .cons rfl (r.append hd)
  have hl : (Value.ref (s.heap.objs.size + 1) :: us ++ ds).length = ps.length := by
    have e := r2.length
    rw [F.len _ _ _ _ hq] at e
    exact e.symm
  refine wpAny_call (make_map (f := f) I.kIn M.makes M.init (beq_iff_eq.mp M.fn) (codeAny_mono (F.run _ X.stack _ _ ⟨Value.ref (s.heap.objs.size + 1) :: us, []⟩ (Value.ref (s.heap.objs.size + 1) :: (us ++ ds)) _ _ E (hr.make C us [])
    (I2.env0.make C us []) (hb _ (Value.ref (s.heap.objs.size + 1) :: us) I2.kIn hl) r2 hq) fun r s' hq' => ?_))
  cases r with
  | error e => exact hx pins σ _ _ e s' I2 hq'
  | ok fl =>
    cases fl with
    | ret u =>
      obtain ⟨v, H', I3, rv, ev, q3⟩ := I2.after hq'
      subst ev
      exact ⟨rv, ⟨V.ref (s.heap.objs.size + 1), H', I3, rfl, q3⟩⟩
    | next => exact False.elim hq'
    | brk => exact False.elim hq'
    | cont => exact False.elim hq'
theorem pe_make (M : Mk X.K C f) (F : FnOk X.prog X.w X.K X.mg X.base CX k f fd ps sp) (hr : Room (k + 1) X.A) (hg : Gl X x) (hm : X.mg x = some (.ref C)) (hb : Binds X.K fd ps ds) (hd : Vals dvs ds) (hx : Passes CX X E)
    (ha : PA X (e :: es) t) (hdb : (x == ("__debug__" : Str)) = false := by decide) (he : starEach (e :: es) X.env = (false, eval e X.env) :: starEach es X.env := by rfl) (hpl : (backTo pos (starEach es X.env)).any (·.1) = false := by rfl) :
    PE X (.Call (.Name x p) (e :: es) [] pos) (tMake C sp dvs E t) := by
  intro pins s σ H Q I h
  refine wpAny_Call_Name_kw (ld_glob I hg hm ?_ hdb)
  refine PySem.W.callWith_K (h₀ := X.base) I.ok.mod.kin M.kp (thn (ha pos pins s σ H _ I h) fun us s1 ⟨vs, H1, I1, r, q⟩ => ⟨I1.kIn, ?_⟩) he hpl
  exact run_make M F hr hb hd hx I1 r q
theorem pe_make0 (M : Mk X.K C f) (F : FnOk X.prog X.w X.K X.mg X.base CX k f fd ps sp) (hr : Room (k + 1) X.A) (hg : Gl X x) (hm : X.mg x = some (.ref C)) (hb : Binds X.K fd ps ds) (hd : Vals dvs ds) (hx : Passes CX X E)
    (hdb : (x == ("__debug__" : Str)) = false := by decide) : PE X (.Call (.Name x p) [] [] pos) (tMake C sp dvs E tNil) := by
  intro pins s σ H Q I h
  refine wpAny_Call_Name_kw (ld_glob I hg hm ?_ hdb)
  exact PySem.W.callWith_K0 I.kIn M.kp (run_make (us := []) M F hr hb hd hx I .nil h)
end

/-! ### keywords -/
/-- the values of the keywords, from the left -/
def PK (X : Cx) (kws : List Keyword) (t : TA) : Prop :=
  ∀ (pos : Pos) (pins : List (Addr × Obj)) (s : Shared) (σ : St) (H : Hp) (Q : List V → Hp → Prop), Inv X pins σ H s → t σ H Q → wpAny (model X.prog X.w) X.A (evalAll ((backToKw pos (keywordEach kws X.env)).map (·.2))) (AP X pins σ Q) X.xe s
section
variable {X : Cx} {CX : CXT} {k : Nat} {f C : Addr} {fd : FuncData} {ps ks : List Str} {sp : Sp} {E : XK} {x m : Str} {p pos apos kpos : Pos} {e o : Expr} {es : List Expr} {kws : List Keyword} {te ta : TE} {t tk : TA} {nm : Option Str}
theorem pk_nil : PK X [] tNil := fun _ _ _ _ H Q I h => wpAny_evalAll_nil ⟨[], H, I, .nil, h⟩
theorem pk_cons (ha : PE X e te) (hr : PK X kws t) : PK X (⟨nm, e, kpos⟩ :: kws) (tCons te t) := by
  intro pos pins s σ H Q I h
  show wpAny _ _ (evalAll ((do let v ← eval e X.env; standAt pos; pure v) :: (backToKw pos (keywordEach kws X.env)).map (·.2))) _ _ s
  refine wpAny_evalAll_cons (wpAny_bind (thn (ha pins s σ H _ I h) fun u s1 ⟨x, H1, I1, r1, q1⟩ => wpAny_bind (wpAny_standAt (wpAny_pure ?_))))
  exact thn (hr pos pins s1 σ H1 _ I1 q1) fun us s2 ⟨xs, H2, I2, r2, q2⟩ => ⟨x :: xs, H2, I2, .cons r1 r2, q2⟩

/-- how a call with keywords binds: g puts the positional values us and the keywords' values ws (names ks) in the parameters' order, defaults among them -/
structure KBinds (K : PySem.W.Frag) (fd : FuncData) (ps ks : List Str) (g : List Value → List Value → List Value) (gV : List V → List V → List V) : Prop where
  to : ∀ (s : Shared) (us ws : List Value), K.In s.heap → (g us ws).length = ps.length → BindsTo s fd ⟨us, ks.zip ws⟩ (ps.zip (g us ws))
  rel : ∀ {vs : List V} {us : List Value} {zs : List V} {ws : List Value}, Vals vs us → Vals zs ws → Vals (gV vs zs) (g us ws)
def tCallK (sp : Sp) (gV : List V → List V → List V) (E : XK) (t tk : TA) : TE := fun σ H Q => t σ H fun vs H1 => tk σ H1 fun zs H2 => sp (gV vs zs) H2 Q E
variable {g : List Value → List Value → List Value} {gV : List V → List V → List V}
theorem run_fnk {pins : List (Addr × Obj)} {σ : St} {H : Hp} {s : Shared} {Q : VK} {us ws : List Value} {vs zs : List V} (F : FnOk X.prog X.w X.K X.mg X.base CX k f fd ps sp) (hr : Room k X.A) (hb : KBinds X.K fd ps ks g gV) (hx : Passes CX X E)
    (I : Inv X pins σ H s) (r : Vals vs us) (rz : Vals zs ws) (h : sp (gV vs zs) H Q E) : wpAny (model X.prog X.w) X.A (call (.ref f) us (ks.zip ws)) (EP X pins σ Q) X.xe s := by
  have r2 := hb.rel r rz
  have hl : (g us ws).length = ps.length := by rw [← r2.length]; exact F.len _ _ _ _ h
  refine wpAny_call (codeAny_mono (F.run X.A X.stack s H ⟨us, ks.zip ws⟩ (g us ws) (gV vs zs) Q E hr I.env0 (hb.to s us ws I.kIn hl) r2 h) fun r s' hq => ?_)
  cases r with
  | error e => exact hx pins σ H s e s' I hq
  | ok fl =>
    cases fl with
    | ret u => exact I.after hq
    | next => exact False.elim hq
    | brk => exact False.elim hq
    | cont => exact False.elim hq
/-- f(e, .., k = v, ..) -/
theorem pe_callK (F : FnOk X.prog X.w X.K X.mg X.base CX k f fd ps sp) (hr : Room k X.A) (hg : Gl X x) (hm : X.mg x = some (.ref f)) (hk : PySem.W.keepIn X.K (.ref f) = true) (hb : KBinds X.K fd ps ks g gV) (hx : Passes CX X E)
    (ha : PA X (e :: es) t) (hkw : PK X kws tk) (hall : (backToKw pos (keywordEach kws X.env)).all (·.1.isSome) = true := by rfl) (hks : (backToKw pos (keywordEach kws X.env)).filterMap (·.1) = ks := by rfl)
    (hdb : (x == ("__debug__" : Str)) = false := by decide) (he : starEach (e :: es) X.env = (false, eval e X.env) :: starEach es X.env := by rfl)
    (hpl : ((backTo pos (starEach (e :: es) X.env)).any (·.1) || (backToKw pos (keywordEach kws X.env)).any (·.1.isNone)) = false := by rfl) :
    PE X (.Call (.Name x p) (e :: es) kws pos) (tCallK sp gV E t tk) := by
  intro pins s σ H Q I h
  refine wpAny_Call_Name_kw (ld_glob I hg hm ?_ hdb)
  refine PySem.W.callWith_KW (h₀ := X.base) I.ok.mod.kin hk hall (thn (ha pos pins s σ H _ I h) fun us s1 ⟨vs, H1, I1, r, q⟩ => ?_) hpl he
  refine thn (hkw pos pins s1 σ H1 _ I1 q) fun ws s2 ⟨zs, H2, I2, rz, q2⟩ => ⟨I2.kIn, ?_⟩
  rw [hks]
  exact run_fnk F hr hb hx I2 r rz q2
end

/-! ### a def's body keeps its promise -/
/-- names: the parameters first -/
structure FnScope (N P : List Str) (sc : Scope) : Prop where
  kind : sc.kind = .function
  co : sc.isCoroutine = false
  gen : sc.isGenerator = false
  nd : N.Nodup
  pre : N.take P.length = P
  par : ∀ x ∈ P, sc.names.lookup x = some .local ∨ sc.names.lookup x = some .cell
  nofree : ∀ y ∈ sc.names, y.2 ≠ .free

theorem bindL_out {kindOf : Str → Option NameKind} {x : Str} : ∀ {binds : List (Str × Value)} {m : Str → Option Value}, (∀ v, (x, v) ∉ binds) → bindL kindOf binds m x = m x
  | [], _, _ => rfl
  | (n, v) :: r, m, h => by
    unfold bindL
    rw [bindL_out fun w hw => h w (List.mem_cons_of_mem _ hw)]
    split
    · have : x ≠ n := by rintro rfl; exact h v List.mem_cons_self
      simp [this]
    · rfl
theorem bindC_out {kindOf : Str → Option NameKind} {x : Str} : ∀ {binds : List (Str × Value)} {m : Str → Option Value}, (∀ v, (x, v) ∉ binds) → bindC kindOf binds m x = m x
  | [], _, _ => rfl
  | (n, v) :: r, m, h => by
    unfold bindC
    rw [bindC_out fun w hw => h w (List.mem_cons_of_mem _ hw)]
    split
    · rfl
    · have : x ≠ n := by rintro rfl; exact h v List.mem_cons_self
      simp [this]
theorem bindL_get {kindOf : Str → Option NameKind} {x : Str} {v : Value} : ∀ {P : List Str} {vs : List Value} {i : Nat} {m : Str → Option Value}, P.Nodup → P[i]? = some x → vs[i]? = some v → kindOf x = some .local →
    bindL kindOf (P.zip vs) m x = some v
  | [], _, _, _, _, h, _, _ => by simp at h
  | _ :: _, [], _, _, _, _, h, _ => by simp at h
  | p :: P, w :: vs, 0, m, nd, h1, h2, hk => by
    simp at h1 h2; subst h1; subst h2
    show bindL kindOf ((p, w) :: P.zip vs) m p = _
    unfold bindL
    rw [bindL_out fun v hv => (List.nodup_cons.mp nd).1 (List.of_mem_zip hv).1, if_pos hk]
    simp
  | p :: P, w :: vs, i + 1, m, nd, h1, h2, hk => by
    show bindL kindOf ((p, w) :: P.zip vs) m x = _
    unfold bindL
    exact bindL_get (i := i) (List.nodup_cons.mp nd).2 (by simpa using h1) (by simpa using h2) hk
theorem bindC_get {kindOf : Str → Option NameKind} {x : Str} {v : Value} : ∀ {P : List Str} {vs : List Value} {i : Nat} {m : Str → Option Value}, P.Nodup → P[i]? = some x → vs[i]? = some v → kindOf x ≠ some .local →
    bindC kindOf (P.zip vs) m x = some v
  | [], _, _, _, _, h, _, _ => by simp at h
  | _ :: _, [], _, _, _, _, h, _ => by simp at h
  | p :: P, w :: vs, 0, m, nd, h1, h2, hk => by
    simp at h1 h2; subst h1; subst h2
    show bindC kindOf ((p, w) :: P.zip vs) m p = _
    unfold bindC
    rw [bindC_out fun v hv => (List.nodup_cons.mp nd).1 (List.of_mem_zip hv).1, if_neg hk]
    simp
  | p :: P, w :: vs, i + 1, m, nd, h1, h2, hk => by
    show bindC kindOf ((p, w) :: P.zip vs) m x = _
    unfold bindC
    exact bindC_get (i := i) (List.nodup_cons.mp nd).2 (by simpa using h1) (by simpa using h2) hk

/-- the names' values at the entry -/
def start (N : List Str) (vs : List V) : St := vs.map some ++ List.replicate (N.length - vs.length) none

/-- the context of a def's body, at its entry; an exception leaves the frame, then lies as CX says -/
def cxOf (CX : CXT) (P : Program) (w : World) (K : PySem.W.Frag) (mg : Str → Option Value) (base : Heap) (N : List Str) (qual : Str) (scope : Scope) (f : Addr) (cd : Value) (A : Around) (outer : List Env) (s : Shared) (H : Hp) (E : XK) : Cx where
  prog := P
  w := w
  K := K
  mg := mg
  base := base
  A := A.deeper (envOfC qual scope s.heap.objs.size f cd)
  N := N
  s_0 := s
  H_0 := H
  env := envOfC qual scope s.heap.objs.size f cd
  outer := outer
  stack := envOfC qual scope s.heap.objs.size f cd :: outer
  ex := []
  calm := true
  fn := fun _ => true
  pn := []
  xe := fun e s' => wpAny (model P w) (A.deeper (envOfC qual scope s.heap.objs.size f cd)) (leaving (envOfC qual scope s.heap.objs.size f cd) e) (fun _ s'' => CX outer H s E e s'') (fun e' s'' => CX outer H s E e' s'') s'

theorem cell_has {sc : Scope} {n : Nat} {x : Str} (h : sc.names.lookup x = some .cell) : ∃ c, (cellsFrom n sc.names []).lookup x = some c := by
  have q := PySem.W.cellsFrom_some sc.names n [] (.inl h)
  exact Option.isSome_iff_exists.mp q

theorem inv_start {CX : CXT} {P : Program} {w : World} {K : PySem.W.Frag} {mg : Str → Option Value} {base : Heap} {N ps : List Str} {qual : Str} {scope : Scope} {f : Addr} {cd : Value} {A : Around} {outer : List Env} {s s1 : Shared} {H : Hp} {E : XK} {us : List Value} {vs : List V}
    (S : FnScope N ps scope) (hd : A.handled = none) (e0 : Env0 P w K mg base A outer s H) (hl : vs.length = ps.length) (r : Vals vs us)
    (x : InCallC s s.heap.objs.size (bindL (envOfC qual scope s.heap.objs.size f cd).kindOf (ps.zip us) fun _ => none) (cellsFrom (s.heap.objs.size + 1) scope.names []) (bindC (envOfC qual scope s.heap.objs.size f cd).kindOf (ps.zip us) fun _ => none) s1) :
    Inv (cxOf CX P w K mg base N qual scope f cd A outer s H E) [] (start N vs) H s1 := by
  have hpl : ps.length ≤ N.length := by have := congrArg List.length S.pre; rw [List.length_take] at this; omega
  obtain ⟨h1, tk, rfl, hk⟩ := x.done
  have noA : ∀ b : Addr, b ∉ (cxOf CX P w K mg base N qual scope f cd A outer s H E).ex := fun b z => absurd (show b ∈ ([] : List Addr) from z) (by simp)
  refine ⟨⟨e0.mod, S.kind, rfl, rfl, Nat.le_refl _, fun y z c h1 h2 => ?_, fun y hy => ?_, fun y c _ h => ?_, fun _ => hd, Around.frames_deeper e0.frames, .inr ⟨rfl, rfl⟩, fun b z => absurd z (noA b), e0.bs, e0.bsz, fun b _ _ => noA b, fun b z => absurd z (noA b), e0.funs, e0.frf⟩,
    rfl, e0.bare, Un.kept hk, ⟨_, x.toInCall.ns, fun i y v h1 h2 h3 => ?_⟩, fun y c h => ⟨_, x.cell y c h⟩, e0.hok.fresh (Nat.le_refl _), fun y c h => ?_, fun p hp => absurd (show p ∈ ([] : List (Addr × Obj)) from hp) (by simp), e0.hok.kept hk, ?_⟩
  · exact name_of_addr x.apart (PySem.mem_of_lookup h1) (PySem.mem_of_lookup h2)
  · have hy : scope.names.lookup y = some .cell ∨ scope.names.lookup y = some .free := hy
    rcases hy with hy | hy
    · exact cell_has hy
    · exact absurd rfl (S.nofree _ (PySem.mem_of_lookup hy))
  · exact Nat.le_of_lt (x.above y c (PySem.mem_of_lookup h))
  · have hi : i < vs.length := by
      unfold start at h2
      by_cases hi : i < vs.length
      · exact hi
      · rw [List.getElem?_append_right (by simpa using hi)] at h2
        rw [List.getElem?_replicate] at h2
        split at h2 <;> cases h2
    have ha : vs[i]? = some v := by
      unfold start at h2
      rw [List.getElem?_append_left (by simpa using hi), List.getElem?_map] at h2
      cases e : vs[i]? with
      | none => rw [e] at h2; cases h2
      | some a => rw [e] at h2; cases h2; rfl
    obtain ⟨u, hu, rv⟩ := r.get ha
    have hp : ps[i]? = some y := by
      rw [← S.pre, List.getElem?_take_of_lt (by omega)]; exact h1
    have ndP : ps.Nodup := by rw [← S.pre]; exact S.nd.sublist (List.take_sublist _ _)
    refine ⟨u, rv, ?_⟩
    rcases S.par y (List.mem_of_getElem? hp) with k | k
    · exact .inl ⟨k, bindL_get ndP hp hu k⟩
    · obtain ⟨c, e⟩ := cell_has (n := s.heap.objs.size + 1) k
      refine .inr ⟨.inl k, c, e, ?_⟩
      have q := x.cell y c e
      rw [bindC_get ndP hp hu (by show scope.names.lookup y ≠ _; rw [k]; decide)] at q
      exact q
  · exact e0.hok.fresh (Nat.le_of_lt (x.above y c (PySem.mem_of_lookup h)))
  · unfold start
    show _ = N.length
    rw [List.length_append, List.length_map, List.length_replicate]
    omega

/-- THE RULE: a def (or a method) of the text, by its body. The body's reading t is chosen for each entry; it is run at the parameters' values -/
theorem fn_of {CX : CXT} {P : Program} {w : World} {K : PySem.W.Frag} {mg : Str → Option Value} {base : Heap} {k : Nat} {f : Addr} {name qual : Str} {params : Arguments} {body : List Stmt} {scope : Scope} {dV kV doc pm cdv ct oc : Value} {an od : Option Addr}
    {osl : Array (Option Value)} {N ps : List Str} {sp : Sp} (lk : K.lookup f = some ⟨oc, od, .func (PySem.W.fnOf name qual params body scope dV kV doc pm an cdv ct), osl⟩) (hcd : PySem.W.codeIn K cdv qual = true) (S : FnScope N ps scope)
    (len : ∀ vs H Q E, sp vs H Q E → vs.length = ps.length)
    (hbody : ∀ (A : Around) (outer : List Env) (s : Shared) (H : Hp) (vs : List V) (Q : VK) (E : XK), Room k (A.deeper (envOfC qual scope s.heap.objs.size f cdv)) → sp vs H Q E →
      ∃ t, PSs (cxOf CX P w K mg base N qual scope f cdv A outer s H E) body t ∧ t { nx := fun _ H' => Q .non H', rt := Q } (start N vs) H) :
    FnOk P w K mg base CX (k + 1) f (PySem.W.fnOf name qual params body scope dV kV doc pm an cdv ct) ps sp := by
  refine ⟨len, fun A outer s H args us vs Q E hr e0 hb r hsp => ?_⟩
  have hl := len _ _ _ _ hsp
  have KX : K.In s.heap := e0.mod.kin.keeps fun b o e => (e0.bs b o e).1
  have lim : s.heap.NoLimit := e0.mod.nolimit.keeps fun b o e => (e0.bs b o e).1
  have hkind : ∀ y ∈ ps.zip us, scope.names.lookup y.1 = some .local ∨ (scope.names.lookup y.1 = some .cell ∧ ((cellsFrom (s.heap.objs.size + 1) scope.names []).lookup y.1).isSome = true) := fun ⟨n, v⟩ hy => by
    rcases S.par n (List.of_mem_zip hy).1 with q | q
    · exact .inl q
    · exact .inr ⟨q, PySem.W.cellsFrom_some _ _ _ (.inl q)⟩
  refine codeAny_call_function hr.depth (KX _ _ lk) rfl S.co S.gen rfl (PySem.W.codeRec_of KX hcd) (hb _ _ _ _ ?_)
  refine wpAny_newFunctionEnv_cells S.kind hkind fun env he s1 x => ?_
  subst he
  refine ⟨lim.keeps x.toInCall.keep, codeAny_func ?_⟩
  obtain ⟨t, ht, hq⟩ := hbody A outer s H vs Q E (hr.deeper _) hsp
  have I : Inv (cxOf CX P w K mg base N qual scope f cdv A outer s H E) [] (start N vs) H s1 := inv_start S hr.hd e0 hl r x
  refine wpAny_mono (ht [] s1 (start N vs) H _ I hq) (fun fl s' hs => ?_) fun e s' hs => hs
  have fin : ∀ {σ' : St} {H' : Hp} {v : V} {u : Value}, Inv (cxOf CX P w K mg base N qual scope f cdv A outer s H E) [] σ' H' s' → RelV v u → Q v H' → CE outer P w H s Q u s' :=
    fun {σ' H' v u} J rv q => ⟨v, H', J.os, J.bare, J.base, J.hok, rv, q⟩
  cases fl with
  | ret u =>
    obtain ⟨v, σ', H', J, rv, q⟩ := hs
    exact fin J rv q
  | next =>
    obtain ⟨σ', H', J, q⟩ := hs
    exact fin (v := V.non) (u := Value.none) J rfl q
  | brk =>
    obtain ⟨_, _, _, q⟩ := hs
    exact False.elim q
  | cont =>
    obtain ⟨_, _, _, q⟩ := hs
    exact False.elim q
end L2

namespace L2
open PySem PySem.Spec PyProof.Rows
section
variable {X : Cx} {x : Str} {p pos : Pos} {e : Expr} {es : List Expr} {t : TA} {id T : String} {r : List V → Hp → VK → Prop}

def tCB (r : List V → Hp → VK → Prop) (t : TA) : TE := fun σ H Q => t σ H fun vs H1 => r vs H1 Q
/-- f(e, ..), f a built-in function -/
theorem pe_callB (hc : CallR X (.builtin id) r) (hg : Gl X x) (hm : X.mg x = none) (hv : bootBuiltins x = some (.builtin id)) (ha : PA X (e :: es) t) (hn : x ≠ "__name__" := by decide) (hdb : (x == ("__debug__" : Str)) = false := by decide)
    (he : starEach (e :: es) X.env = (false, eval e X.env) :: starEach es X.env := by rfl) (hpl : (backTo pos (starEach es X.env)).any (·.1) = false := by rfl) : PE X (.Call (.Name x p) (e :: es) [] pos) (tCB r t) := by
  intro pins s σ H Q I h
  refine wpAny_Call_Name_kw (ld_blt I hg hm hv ?_ hn hdb)
  exact PyProof.Rows.callWith_builtin1 (thn (ha pos pins s σ H _ I h) fun us s1 ⟨vs, H1, I1, r1, q1⟩ => hc pins s1 σ H1 vs us Q I1 r1 q1) he hpl
/-- T(e, ..), T a built-in type -/
theorem pe_callTy (hc : CallR X (.type T) r) (hg : Gl X x) (hm : X.mg x = none) (hv : bootBuiltins x = some (.type T)) (ha : PA X (e :: es) t) (hn : x ≠ "__name__" := by decide) (hdb : (x == ("__debug__" : Str)) = false := by decide)
    (he : starEach (e :: es) X.env = (false, eval e X.env) :: starEach es X.env := by rfl) (hpl : (backTo pos (starEach es X.env)).any (·.1) = false := by rfl) : PE X (.Call (.Name x p) (e :: es) [] pos) (tCB r t) := by
  intro pins s σ H Q I h
  refine wpAny_Call_Name_kw (ld_blt I hg hm hv ?_ hn hdb)
  exact PyProof.Rows.callWith_type1 (thn (ha pos pins s σ H _ I h) fun us s1 ⟨vs, H1, I1, r1, q1⟩ => hc pins s1 σ H1 vs us Q I1 r1 q1) he hpl
/-- T() -/
theorem pe_callTy0 (hc : CallR X (.type T) r) (hg : Gl X x) (hm : X.mg x = none) (hv : bootBuiltins x = some (.type T)) (hn : x ≠ "__name__" := by decide) (hdb : (x == ("__debug__" : Str)) = false := by decide) :
    PE X (.Call (.Name x p) [] [] pos) (tCB r tNil) := by
  intro pins s σ H Q I h
  refine wpAny_Call_Name_kw (ld_blt I hg hm hv ?_ hn hdb)
  exact PyProof.Rows.callWith_type0 (hc pins s σ H [] [] Q I .nil h)
end
end L2

namespace HT
open PySem PyProof.Rows

/-- t < u of tuples of ints -/
def lexLt : List Int → List Int → Bool
  | [], [] => false
  | [], _ :: _ => true
  | _ :: _, [] => false
  | x :: xs, y :: ys => if x = y then lexLt xs ys else decide (x < y)
theorem lexLt_cons (x y : Int) (xs ys : List Int) : lexLt (x :: xs) (y :: ys) = if x = y then lexLt xs ys else decide (x < y) := rfl
theorem lexLt_nil_nil : lexLt [] [] = false := rfl
theorem lexLt_nil_cons (y : Int) (ys : List Int) : lexLt [] (y :: ys) = true := rfl
theorem lexLt_cons_nil (x : Int) (xs : List Int) : lexLt (x :: xs) [] = false := rfl

theorem eqAt_int (A : Around) (s : Shared) (a : Int) (t : Tok) (c : Int) (u : Tok) : ∃ e, SeqAt.EqAt A s (.int a t) (.int c u) e ∧ (e = true ↔ a = c) :=
  ⟨(a == c), SeqAt.EqAt.int_int a t c u, by simp⟩
theorem rcLt_int (A : Around) (s : Shared) (a : Int) (t : Tok) (c : Int) (u : Tok) (prog : Program) (w : World) (E : Value → Shared → Prop) (Q : Value → Shared → Prop) (h : Q (.bool (decide (a < c))) s) :
    wpAny (model prog w) A (richCompare .Lt (.int a t) (.int c u)) Q E s :=
  (PyProof.Rows.lt_int h : wpAny (model prog w) A (compareOp .Lt (.int a t) (.int c u)) Q E s)

section
open PySem.SeqAt
open PySem.AutoSeq1 (wpAny_loadPart')
open PySem.MeetsSeq PySem.MeetsSeq2 PySem.MeetsSeq3

theorem tuple_lt_ints (l b : Addr) (items items2 : Array Value) (n n2 : Nat) (dd dd2 : Option Addr) (sl sl2 : Array (Option Value)) (ns ms : List Int) (hi : IntsAre items.toList ns) (hj : IntsAre items2.toList ms) :
    Meets (Builtin.«tuple.__lt__» ⟨[.ref l, .ref b], []⟩)
      (fun _ R s => s.heap.get? l = some { cls := .type "tuple", dict := dd, data := .seq items n, slots := sl } ∧ s.heap.get? b = some { cls := .type "tuple", dict := dd2, data := .seq items2 n2, slots := sl2 } ∧
        R (.ok (.ret (.bool (lexLt ns ms)))) s) :=
  .of_wp fun prog w A R s h => by
    obtain ⟨hp, g, d, tk, os⟩ := s; obtain ⟨hl, hb, h⟩ := h
    have f2 := AutoSeq1.sub_tuple_tuple
    have z1 : items.size = ns.length := by rw [← hi.length]; simp
    have z2 : items2.size = ms.length := by rw [← hj.length]; simp
    wp_walk using wpAny_loadPart' hl, wpAny_loadPart' hb, wpAny_forIn_list _ (fun rest b s' => b.1 = none ∧ s' = ⟨hp, g, d, tk, os⟩ ∧ ∃ (vs ws : List Value) (ns' ms' : List Int), rest = vs.zip ws ∧
      IntsAre vs ns' ∧ IntsAre ws ms' ∧ ns'.length + items2.size = ms'.length + items.size ∧ R (.ok (.ret (.bool (lexLt ns' ms')))) ⟨hp, g, d, tk, os⟩) _
    case turn =>
      rintro ⟨y, x⟩ rest b s' ⟨hb', rfl, vs, ws, ns', ms', hz, hvi, hwi, hlen, hR⟩
      cases hvi with
      | nil => rw [List.zip_nil_left] at hz; cases hz
      | cons a t hvi' =>
        cases hwi with
        | nil => rw [List.zip_nil_right] at hz; cases hz
        | cons c u hwi' =>
          rw [List.zip_cons_cons] at hz
          injection hz with hyx hrest
          injection hyx with hy hx
          subst hy hx
          rw [lexLt_cons] at hR
          simp only [List.length_cons] at hlen
          obtain ⟨e, he, hiff⟩ := eqAt_int A.in1 ⟨hp, g, d, tk, os⟩ a t c u
          refine wpAny_bind (he prog w _ _ ?_)
          cases e with
          | true =>
            rw [if_pos (hiff.mp rfl)] at hR
            wp_walk
            exact ⟨rfl, rfl, _, _, _, _, hrest, hvi', hwi', by omega, hR⟩
          | false =>
            rw [if_neg (fun q => absurd (hiff.mpr q) Bool.false_ne_true)] at hR
            have hri := rcLt_int A.in1 ⟨hp, g, d, tk, os⟩ a t c u prog w
            wp_walk using hri
            exact ⟨_, rfl, by simpa using hR⟩
    case fin =>
      rintro ⟨b1, b2⟩ s' ⟨hb', rfl, vs, ws, ns', ms', hz, hvi, hwi, hlen, hR⟩
      simp only at hb'
      subst hb'
      have hv : lexLt ns' ms' = decide (items.size < items2.size) := by
        cases hvi with
        | nil =>
          cases hwi with
          | nil =>
            simp only [List.length_nil] at hlen
            rw [lexLt_nil_nil]
            exact (decide_eq_false (by omega)).symm
          | cons c u hw =>
            simp only [List.length_nil, List.length_cons] at hlen
            rw [lexLt_nil_cons]
            exact (decide_eq_true (by omega)).symm
        | cons a t hv =>
          cases hwi with
          | nil =>
            simp only [List.length_nil, List.length_cons] at hlen
            rw [lexLt_cons_nil]
            exact (decide_eq_false (by omega)).symm
          | cons c u hw =>
            rw [List.zip_cons_cons] at hz
            cases hz
      rw [hv] at hR
      wp_walk
      exact ⟨_, rfl, by simpa [Builtin.Tuple.tupleCompareSizes] using hR⟩
    case h =>
      exact ⟨rfl, rfl, items.toList, items2.toList, ns, ms, rfl, hi, hj, by omega, h⟩
end

section
variable {prog : Program} {w : World} {A : Around} {E : Value → Shared → Prop} {s : Shared}

theorem lt_tupInts {l b : Addr} {items items2 : Array Value} {ns ms : List Int} {Q : Value → Shared → Prop} (hl : IsTup s.heap l items) (hb : IsTup s.heap b items2) (hi : IntsAre items.toList ns) (hj : IntsAre items2.toList ms)
    (hu : A.units < cLine) (h : Q (.bool (lexLt ns ms)) s) : wpAny (model prog w) A (compareOp .Lt (.ref l) (.ref b)) Q E s := by
  obtain ⟨⟨cls, dd, data, sl⟩, ho, hc, n, hd⟩ := id hl
  obtain ⟨⟨cls2, dd2, data2, sl2⟩, ho2, hc2, n2, hd2⟩ := id hb
  simp only at hc hd hc2 hd2
  subst hc hd hc2 hd2
  exact richCompare_meets_room (op := .Lt) ⟨_, ho, rfl⟩ ⟨_, ho2, rfl⟩ PySem.F.slot_tuple_lt PySem.F.entry_tuple_lt (PySem.F.args_tuple_lt_2 _ _) (tuple_lt_ints l b items items2 n n2 dd dd2 sl sl2 ns ms hi hj)
    ⟨ho, ho2, show Value.bool (lexLt ns ms) ≠ Value.notImplemented ∧ Q (.bool (lexLt ns ms)) s from ⟨(fun x => nomatch x), h⟩⟩ hu

/-- t + u, t not empty -/
theorem cat_tup {t b : Addr} {vs ws : List Value} {Q : Value → Shared → Prop} (ht : IsTup s.heap t vs.toArray) (hb : IsTup s.heap b ws.toArray) (hv : vs ≠ [])
    (h1 : ws = [] → Q (.ref t) s) (h2 : ws ≠ [] → Q (.ref s.heap.objs.size) { s with heap := s.heap.push { cls := .type "tuple", data := .seq (vs ++ ws).toArray } })
    (hsz : vs.length + ws.length ≤ sizeLine) : wpAny (model prog w) A (binaryOp .Add (.ref t) (.ref b)) Q E s := by
  obtain ⟨⟨cls, dd, data, sl⟩, ho, hc, n, hd⟩ := id ht
  obtain ⟨⟨cls2, dd2, data2, sl2⟩, ho2, hc2, n2, hd2⟩ := id hb
  simp only at hc hd hc2 hd2
  subst hc hd hc2 hd2
  have e : vs.toArray ++ ws.toArray = (vs ++ ws).toArray := by simp
  by_cases hw : ws = []
  · exact concat_meets ⟨_, ho, rfl⟩ ⟨_, ho2, rfl⟩ noFill_tuple_add seq_tuple_add PySem.F.slot_tuple_add PySem.F.entry_tuple_add (PySem.F.args_tuple_add_2 _ _)
      (tuple_addW1 t b vs.toArray ws.toArray n n2 dd dd2 sl sl2 (by simpa using hv) (by simp [hw])) ⟨ho, ho2, h1 hw⟩
  · refine concat_meets ⟨_, ho, rfl⟩ ⟨_, ho2, rfl⟩ noFill_tuple_add seq_tuple_add PySem.F.slot_tuple_add PySem.F.entry_tuple_add (PySem.F.args_tuple_add_2 _ _)
      (tuple_addW2 t b vs.toArray ws.toArray n n2 dd dd2 sl sl2 (by simpa using hv) (by simpa using hw) (by rw [List.size_toArray, List.size_toArray]; exact hsz)) ⟨ho, ho2, ?_⟩
    rw [e]
    exact h2 hw

/-! ### t[a:b], not the whole -/
/-- a slice's bound as a place among n (d where it is left out) -/
def sIx (n d : Nat) : Option Int → Nat
  | none => d
  | some v => if v < 0 then (v + (n : Int)).toNat else min v.toNat n
theorem sIx_none (n d : Nat) : sIx n d none = d := rfl
theorem sIx_nat (n d k : Nat) : sIx n d (some (k : Int)) = min k n := by
  show (if (k : Int) < 0 then ((k : Int) + (n : Int)).toNat else min (k : Int).toNat n) = min k n
  rw [if_neg (by omega), Int.toNat_natCast]
theorem sIx_le (n d : Nat) (hd : d ≤ n) (o : Option Int) : sIx n d o ≤ n := by
  cases o with
  | none => exact hd
  | some v =>
    show (if v < 0 then (v + (n : Int)).toNat else min v.toNat n) ≤ n
    by_cases hv : v < 0
    · rw [if_pos hv]; omega
    · rw [if_neg hv]; exact Nat.min_le_right _ _
theorem clip_eq (v : Int) (n d : Nat) : (if v < 0 then max (v + (n : Int)) 0 else min v (n : Int)) = ((sIx n d (some v) : Nat) : Int) := by
  show (if v < 0 then max (v + (n : Int)) 0 else min v (n : Int)) = (((if v < 0 then (v + (n : Int)).toNat else min v.toNat n) : Nat) : Int)
  by_cases hv : v < 0
  · simp only [if_pos hv]; omega
  · simp only [if_neg hv]; omega
theorem adjust_gen (lo hi : Option Int) (n : Nat) : Builtin.Slice.sliceAdjust lo hi 1 (n : Int) = (((sIx n 0 lo : Nat) : Int), ((sIx n n hi : Nat) : Int)) := by
  have h1 : ¬ ((1 : Int) < 0) := by omega
  unfold Builtin.Slice.sliceAdjust
  simp only [h1, if_false]
  refine Prod.ext ?_ ?_
  · cases lo with
    | none => rfl
    | some v => exact clip_eq v n 0
  · cases hi with
    | none => rfl
    | some v => exact clip_eq v n n
theorem places_gen (i j : Nat) : Builtin.Slice.slicePlaces (i : Int) (j : Int) 1 = j - i := by
  unfold Builtin.Slice.slicePlaces
  have h1 : (1 : Int) > 0 := by omega
  simp only [h1, if_true, Int.ediv_one]
  split <;> omega
theorem slicePart_ {v : Value} {o : Option Int} {Q : Option Int → Shared → Prop} (p : IsPart v o) (h : Q o s) : wpAny (model prog w) A (Builtin.Slice.slicePartIndex v) Q E s := by
  cases p with
  | none => exact slicePart_none h
  | int i t => exact slicePart_int h
theorem sliceApplied_gen {sl : Addr} {vl vu : Value} {lo hi : Option Int} {n : Nat} {Q : Int × Int × Nat → Shared → Prop} (hs : s.heap.IsSliceOf sl vl vu .none) (pl : IsPart vl lo) (pu : IsPart vu hi)
    (h : Q (((sIx n 0 lo : Nat) : Int), 1, sIx n n hi - sIx n 0 lo) s) : wpAny (model prog w) A (Builtin.Slice.sliceApplied (.ref sl) (pure (n : Int))) Q E s := by
  obtain ⟨os, hos, hcs, hds⟩ := id hs
  unfold Builtin.Slice.sliceApplied Builtin.Slice.sliceFields
  refine wpAny_bind (wpAny_bind (wpAny_field hos hds (x := vl) rfl (wpAny_bind (wpAny_field hos hds (x := vu) rfl (wpAny_bind (wpAny_field hos hds (x := .none) rfl (wpAny_pure ?_)))))))
  refine wpAny_bind (slicePart_none ?_)
  show wpAny _ _ (if ((1 : Int) == 0) = true then _ else _) _ _ s
  rw [if_neg (by decide)]
  refine wpAny_bind (slicePart_ pl (wpAny_bind (slicePart_ pu (wpAny_bind (wpAny_pure ?_)))))
  show wpAny _ _ (match Builtin.Slice.sliceAdjust lo hi 1 (n : Int) with | (lo, hi) => pure (lo, (1 : Int), Builtin.Slice.slicePlaces lo hi 1)) _ _ s
  rw [adjust_gen lo hi n]
  show wpAny _ _ (pure (((sIx n 0 lo : Nat) : Int), (1 : Int), Builtin.Slice.slicePlaces ((sIx n 0 lo : Nat) : Int) ((sIx n n hi : Nat) : Int) 1)) _ _ s
  rw [places_gen]
  exact wpAny_pure h
theorem pick_gen (xs : Array Value) (i k : Nat) : ((List.range k).filterMap fun (m : Nat) => xs[((i : Int) + (m : Int) * 1).toNat]?).toArray = ((xs.toList.drop i).take k).toArray := by
  have e : (fun (m : Nat) => xs[((i : Int) + (m : Int) * 1).toNat]?) = fun m => xs[i + m]? := by
    funext m
    have : ((i : Int) + (m : Int) * 1).toNat = i + m := by omega
    rw [this]
  rw [e]
  have := pick_run xs i k
  rw [List.filterMap_map] at this
  have e2 : ((fun x => xs[x]?) ∘ fun x => i + x) = fun m => xs[i + m]? := rfl
  rw [e2] at this
  rw [this]

theorem getItem_tuple_cut {t sl : Addr} {items : Array Value} {vl vu : Value} {lo hi : Option Int} {Q : Value → Shared → Prop} (ht : IsTup s.heap t items) (hs : s.heap.IsSliceOf sl vl vu .none) (pl : IsPart vl lo) (pu : IsPart vu hi)
    (hw : ¬ (sIx items.size 0 lo = 0 ∧ sIx items.size items.size hi = items.size))
    (h : Q (.ref s.heap.objs.size) { s with heap := s.heap.push { cls := .type "tuple", data := .seq ((items.toList.drop (sIx items.size 0 lo)).take (sIx items.size items.size hi - sIx items.size 0 lo)).toArray } })
    (hsz : items.size ≤ sizeLine) : wpAny (model prog w) A (getItem (.ref t) (.ref sl)) Q E s := by
  have htake : sizeOk (.seq ((items.toList.drop (sIx items.size 0 lo)).take (sIx items.size items.size hi - sIx items.size 0 lo)).toArray) := by
    show ((items.toList.drop (sIx items.size 0 lo)).take (sIx items.size items.size hi - sIx items.size 0 lo)).toArray.size ≤ sizeLine
    rw [List.size_toArray, List.length_take, List.length_drop, Array.length_toList]
    omega
  have hj : sIx items.size items.size hi ≤ items.size := sIx_le _ _ (Nat.le_refl _) hi
  obtain ⟨os, hos, hcs, hds⟩ := id hs
  have hTs : s.TypeIs (.ref sl) "slice" := ⟨os, hos, hcs⟩
  unfold getItem
  try with_reducible refine wpAny_holding ?_
  first | refine wpAny_bind (wpAny_pure ?_) | skip
  refine wpAny_bind (wpAny_sequenceKey ht.typeIs (by decide) ?_)
  refine wpAny_bind (wpAny_callSpecial?_slot (name := Str.ofString "__getitem__") ht.typeIs PyProof.Rows.slot_tuple_getitem
    (wpAny_call_entry PyProof.Rows.slot_tuple_getitem ht.typeIs entry_tuple_getitem ?_ (args_tuple_getitem _ _)))
  show wpAny _ _ (Builtin.Tuple.tupleItemsOf (.ref t) >>= _) _ _ s
  refine wpAny_bind (tupleItemsOf_ ht ?_)
  refine wpAny_bind (wpAny_typeOf hTs ?_)
  rw [if_pos (by decide)]
  refine wpAny_bind (sliceApplied_gen hs pl pu ?_)
  have hno : ¬ ((((sIx items.size 0 lo : Nat) : Int) == 0 && (1 : Int) == 1 && (sIx items.size items.size hi - sIx items.size 0 lo) == items.size) = true) := by
    intro q
    rw [Bool.and_eq_true, Bool.and_eq_true] at q
    have q1 : ((sIx items.size 0 lo : Nat) : Int) = 0 := eq_of_beq q.1.1
    have q2 : sIx items.size items.size hi - sIx items.size 0 lo = items.size := eq_of_beq q.2
    exact hw ⟨by omega, by omega⟩
  show wpAny _ _ (if (((sIx items.size 0 lo : Nat) : Int) == 0 && (1 : Int) == 1 && (sIx items.size items.size hi - sIx items.size 0 lo) == items.size) = true then _ else _) _ _ s
  rw [if_neg hno, pick_gen]
  first
    | exact wpAny_bind (m := Builtin.Tuple.tupleExact _) (wpAny_newObj_type (wpAny_pure ⟨_, rfl, wpAny_pure h⟩) htake)
    | exact wpAny_bind (m := Builtin.Tuple.tupleExact _) (wpAny_newObj_type (wpAny_bind (wpAny_pure (wpAny_pure ⟨_, rfl, wpAny_pure h⟩))) htake)
    | exact wpAny_bind (wpAny_bind (m := Builtin.Tuple.tupleExact _) (wpAny_newObj_type (wpAny_pure (wpAny_pure ⟨_, rfl, wpAny_pure h⟩)) htake))
    | exact wpAny_bind (wpAny_bind (m := Builtin.Tuple.tupleExact _) (wpAny_newObj_type (wpAny_pure ⟨_, rfl, wpAny_pure h⟩) htake))
end
end HT

namespace L2
open PySem PySem.Spec PyProof.Rows

/-! ### the parts of a slice -/
abbrev TO := St → Hp → (Option Int → Hp → Prop) → Prop
/-- a slice's part (left out, or an int) -/
def PO (X : Cx) (e : Option Expr) (t : TO) : Prop :=
  ∀ (pins : List (Addr × Obj)) (s : Shared) (σ : St) (H : Hp) (Q : Option Int → Hp → Prop), Inv X pins σ H s → t σ H Q →
    wpAny (model X.prog X.w) X.A (evalPart e X.env) (fun u s' => ∃ o H', Inv X pins σ H' s' ∧ IsPart u o ∧ Q o H') X.xe s
def tNoPart : TO := fun _ H Q => Q none H
def tPart (t : TE) : TO := fun σ H Q => t σ H fun x H1 => ∃ i, x = .int i ∧ Q (some i) H1

theorem intsAre_of {ns : List Int} : ∀ {us : List Value}, Vals (ns.map V.int) us → IntsAre us ns := by
  induction ns with
  | nil => intro us r; rw [List.map_nil] at r; cases r; exact .nil
  | cons n ns ih =>
    intro us r
    rw [List.map_cons] at r
    cases r with
    | cons r1 r2 =>
      obtain ⟨t, e⟩ := r1
      subst e
      exact .cons n t (ih r2)

section
variable {X : Cx} {e : Expr} {te : TE} {lo hi : Option Expr} {tl th : TO} {pos p2 : Pos}

theorem po_none : PO X none tNoPart := by
  intro pins s σ H Q I h
  rw [evalPart_none]
  exact wpAny_pure ⟨none, H, I, .none, h⟩
theorem po_some (h : PE X e te) : PO X (some e) (tPart te) := by
  intro pins s σ H Q I hw
  rw [evalPart_some]
  refine thn (h pins s σ H _ I hw) fun u s1 ⟨x, H1, I1, r1, q1⟩ => ?_
  obtain ⟨i, rfl, q⟩ := q1
  obtain ⟨t, rfl⟩ := r1
  exact ⟨some i, H1, I1, .int i t, q⟩

/-- what a slice of a value is, by values: the slice object stands at sl -/
def SlR (X : Cx) (r : V → Option Int → Option Int → Hp → VK → Prop) : Prop :=
  ∀ (pins : List (Addr × Obj)) (s : Shared) (σ : St) (H : Hp) (x : V) (v vl vu : Value) (lo hi : Option Int) (sl : Addr) (Q : VK), Inv X pins σ H s → RelV x v → s.heap.IsSliceOf sl vl vu .none → IsPart vl lo → IsPart vu hi → r x lo hi H Q →
    ∃ T id, typeLookup (.type T) "__getitem__" = pure (some (.builtin id)) ∧ s.TypeIs v T ∧ wpAny (model X.prog X.w) X.A (getItem v (.ref sl)) (EP X pins σ Q) X.xe s
theorem SlR.or {r r' : V → Option Int → Option Int → Hp → VK → Prop} (h : SlR X r) (h' : SlR X r') : SlR X (fun x lo hi H Q => r x lo hi H Q ∨ r' x lo hi H Q) := by
  intro pins s σ H x v vl vu lo hi sl Q I rx hs pl pu q
  rcases q with q | q
  · exact h pins s σ H x v vl vu lo hi sl Q I rx hs pl pu q
  · exact h' pins s σ H x v vl vu lo hi sl Q I rx hs pl pu q
def tSl (r : V → Option Int → Option Int → Hp → VK → Prop) (te : TE) (tl th : TO) : TE := fun σ H Q => te σ H fun x H1 => tl σ H1 fun l H2 => th σ H2 fun u H3 => r x l u H3 Q
/-- a[lo:hi], any a -/
theorem pe_slice {r : V → Option Int → Option Int → Hp → VK → Prop} (hr : SlR X r) (he : PE X e te) (hl : PO X lo tl) (hu : PO X hi th) : PE X (.Subscript e (.Slice lo hi none p2) pos) (tSl r te tl th) := by
  intro pins s σ H Q I h
  refine Subscript_ (thn (he pins s σ H _ I h) fun v s1 ⟨x, H1, I1, r1, q1⟩ => ?_)
  refine wpAny_Slice (thn (hl pins s1 σ H1 _ I1 q1) fun vl s2 ⟨l, H2, I2, pl, q2⟩ => thn (hu pins s2 σ H2 _ I2 q2) fun vu s3 ⟨u, H3, I3, pu, q3⟩ => ?_)
  rw [evalPart_none]
  refine wpAny_pure ?_
  have I4 : Inv X pins σ H3 { s3 with heap := s3.heap.push { cls := .type "slice", data := .fields #[vl, vu, .none] } } := I3.kept (t' := s3.toks) fun b ob q => Heap.get?_push_of_some _ q
  obtain ⟨T, id, hT, ht, hg⟩ := hr pins { s3 with heap := s3.heap.push { cls := .type "slice", data := .fields #[vl, vu, .none] } } σ H3 x v vl vu l u s3.heap.objs.size Q I4 r1 (Heap.IsSliceOf.new ..) pl pu q3
  show wpAny (model X.prog X.w) X.A (subscriptTail e (.Slice lo hi none p2) v (.ref s3.heap.objs.size)) (EP X pins σ Q) X.xe { s3 with heap := s3.heap.push { cls := .type "slice", data := .fields #[vl, vu, .none] } }
  exact tail_any (ops := [.ref s3.heap.objs.size, v]) ht hT hg (by with_unfolding_all rfl)

/-- the items of xs[lo:hi] -/
def cutV (xs : List V) (lo hi : Option Int) : List V := (xs.drop (HT.sIx xs.length 0 lo)).take (HT.sIx xs.length xs.length hi - HT.sIx xs.length 0 lo)
theorem cutV_length (xs : List V) (lo hi : Option Int) : (cutV xs lo hi).length ≤ xs.length := by
  unfold cutV
  rw [List.length_take, List.length_drop]
  omega
/-- t[lo:hi], not the whole of it (the whole would be t itself) -/
def rSlT (K : PySem.W.Frag) : V → Option Int → Option Int → Hp → VK → Prop := fun x lo hi H Q => ∃ a xs, x = .ref a ∧ SqT K H a xs ∧
  ¬ (HT.sIx xs.length 0 lo = 0 ∧ HT.sIx xs.length xs.length hi = xs.length) ∧ ∀ p, H p = none → Q (.ref p) (upd H p (.tup (cutV xs lo hi)))
theorem sl_tup : SlR X (rSlT X.K) := by
  intro pins s σ H x v vl vu lo hi sl Q I rx hs pl pu h
  obtain ⟨a, xs, rfl, hx, hw, q⟩ := h
  cases rx
  obtain ⟨its, r, ht, hz⟩ := I.tuple hx
  have hlen : its.toArray.size = xs.length := by rw [List.size_toArray]; exact r.length.symm
  refine ⟨"tuple", _, PyProof.Rows.slot_tuple_getitem.lookup, ht.typeIs, ?_⟩
  refine HT.getItem_tuple_cut ht hs pl pu (by rw [hlen]; exact hw) ?_ (by rw [hlen]; exact hz)
  rw [hlen]
  refine ⟨.ref s.heap.objs.size, _, I.laid (t' := s.toks) (o := .tup (cutV xs lo hi)) (fun b ob q => Heap.get?_push_of_some _ q) (Nat.le_refl _) ?_, rfl, q _ (I.hok.fresh (Nat.le_refl _))⟩
  exact ⟨Nat.le_trans (cutV_length xs lo hi) hz, _, (r.drop (HT.sIx xs.length 0 lo)).take (HT.sIx xs.length xs.length hi - HT.sIx xs.length 0 lo), IsTup.new _ _⟩

/-! ### t < u, t + u -/
def rLtT (K : PySem.W.Frag) : R2 := fun x y H Q => ∃ a b ns ms, x = .ref a ∧ y = .ref b ∧ SqT K H a (ns.map V.int) ∧ SqT K H b (ms.map V.int) ∧ Q (.bl (HT.lexLt ns ms)) H
theorem op_ltT (hu : X.A.units < cLine) : OpR X (compareOp .Lt) (rLtT X.K) := by
  intro pins s σ H x y v u Q I rx ry h
  obtain ⟨a, b, ns, ms, rfl, rfl, ha, hb, q⟩ := h
  cases rx
  cases ry
  obtain ⟨its, r1, p1, _⟩ := I.tuple ha
  obtain ⟨its2, r2, p2, _⟩ := I.tuple hb
  have i1 : IntsAre its.toArray.toList ns := intsAre_of r1
  have i2 : IntsAre its2.toArray.toList ms := intsAre_of r2
  exact HT.lt_tupInts p1 p2 i1 i2 hu ⟨.bl (HT.lexLt ns ms), H, I, rfl, q⟩
/-- t + u, t not empty: u empty gives t itself -/
def rCatT (K : PySem.W.Frag) : R2 := fun x y H Q => ∃ a b xs ys, x = .ref a ∧ y = .ref b ∧ SqT K H a xs ∧ SqT K H b ys ∧ xs ≠ [] ∧ xs.length + ys.length ≤ sizeLine ∧
  (ys = [] → Q (.ref a) H) ∧ (ys ≠ [] → ∀ p, H p = none → Q (.ref p) (upd H p (.tup (xs ++ ys))))
theorem Vals.nil_iff {xs : List V} {us : List Value} (r : Vals xs us) : us = [] ↔ xs = [] := by
  cases r with
  | nil => simp
  | cons _ _ => simp
theorem op_catT : OpR X (binaryOp .Add) (rCatT X.K) := by
  intro pins s σ H x y v u Q I rx ry h
  obtain ⟨a, b, xs, ys, rfl, rfl, ha, hb, hx, hz, q1, q2⟩ := h
  cases rx
  cases ry
  obtain ⟨its, r1, p1, _⟩ := I.tuple ha
  obtain ⟨its2, r2, p2, _⟩ := I.tuple hb
  refine HT.cat_tup p1 p2 (fun z => hx (r1.nil_iff.mp z)) (fun z => ⟨.ref a, H, I, rfl, q1 (r2.nil_iff.mp z)⟩) (fun z => ?_) (by rw [← r1.length, ← r2.length]; exact hz)
  refine ⟨.ref s.heap.objs.size, _, I.laid (t' := s.toks) (o := .tup (xs ++ ys)) (fun b ob q => Heap.get?_push_of_some _ q) (Nat.le_refl _) ?_, rfl, q2 (fun w => z (r2.nil_iff.mpr w)) _ (I.hok.fresh (Nat.le_refl _))⟩
  exact ⟨by rw [List.length_append]; exact hz, _, r1.append r2, IsTup.new _ _⟩
/-- tuple(t) -/
theorem call_tupleT : CallR X (.type "tuple") (fun xs H Q => ∃ a ys, xs = [.ref a] ∧ SqT X.K H a ys ∧ Q (.ref a) H) := by
  intro pins s σ H xs us Q I r h
  obtain ⟨a, ys, rfl, ha, q⟩ := h
  obtain ⟨u, rfl, ru⟩ := vals1 r
  cases ru
  obtain ⟨its, _, p1, _⟩ := I.tuple ha
  exact call_tuple_same (items := its.toArray) p1 ⟨.ref a, H, I, rfl, q⟩
end
end L2

namespace L2
open PySem PySem.Spec PyProof.Rows

/-! ### places -/
/-- the place that an index of any sign means -/
def ixN (n : Nat) (i : Int) : Option Nat := if 0 ≤ i then (if i < n then some i.toNat else none) else if -(n : Int) ≤ i then some (i + n).toNat else none
def atI {α : Type} (xs : List α) (i : Int) : Option α := (ixN xs.length i).bind fun j => xs[j]?
theorem ixN_seq {n : Nat} {i : Int} {j : Nat} (h : ixN n i = some j) : seqIndex? i n = some j ∧ j < n ∧ -(n : Int) ≤ i ∧ i < n := by
  unfold ixN at h
  by_cases h0 : 0 ≤ i
  · rw [if_pos h0] at h
    by_cases h1 : i < n
    · rw [if_pos h1] at h
      have e : i.toNat = j := Option.some.inj h
      exact ⟨by rw [seqIndex_of h0 h1, e], by omega, by omega, h1⟩
    · rw [if_neg h1] at h; cases h
  · rw [if_neg h0] at h
    by_cases h1 : -(n : Int) ≤ i
    · rw [if_pos h1] at h
      have e : (i + n).toNat = j := Option.some.inj h
      exact ⟨by rw [seqIndex_neg (by omega) h1, e], by omega, h1, by omega⟩
    · rw [if_neg h1] at h; cases h
theorem atI_get {α : Type} {xs : List α} {i : Int} {v : α} (h : atI xs i = some v) : ∃ j, seqIndex? i xs.length = some j ∧ xs[j]? = some v ∧ j < xs.length ∧ -(xs.length : Int) ≤ i ∧ i < xs.length := by
  unfold atI at h
  cases e : ixN xs.length i with
  | none => rw [e] at h; cases h
  | some j =>
    rw [e] at h
    obtain ⟨h1, h2, h3, h4⟩ := ixN_seq e
    exact ⟨j, h1, h, h2, h3, h4⟩
theorem atI_nat {α : Type} {xs : List α} {j : Nat} {v : α} (h : xs[j]? = some v) : atI xs (j : Int) = some v := by
  have hj : j < xs.length := (List.getElem?_eq_some_iff.mp h).1
  have e : ixN xs.length (j : Int) = some j := by
    unfold ixN
    rw [if_pos (by omega), if_pos (by omega)]; simp
  unfold atI; rw [e]; exact h
theorem atI_last {α : Type} (xs : List α) (v : α) : atI (xs ++ [v]) (-1) = some v := by
  have hl : (xs ++ [v]).length = xs.length + 1 := by simp
  have e : ixN (xs ++ [v]).length (-1) = some xs.length := by
    unfold ixN
    rw [hl, if_neg (by decide), if_pos (by omega)]
    congr 1
    omega
  unfold atI
  rw [e]
  show (xs ++ [v])[xs.length]? = some v
  simp

/-! ### what may be subscripted -/
/-- what stands as an index of a plain subscript -/
def PlainIx (b : Expr) : Prop := ∀ o i, subscripted b false o i = operate [o, i] (getItem o i)
/-- a subscript by values -/
def IxR (X : Cx) (r : R2) : Prop :=
  ∀ (value slice : Expr) (pins : List (Addr × Obj)) (s : Shared) (σ : St) (H : Hp) (x y : V) (v u : Value) (Q : VK), Inv X pins σ H s → RelV x v → RelV y u → r x y H Q →
    subscripted slice false v u = operate [v, u] (getItem v u) → wpAny (model X.prog X.w) X.A (subscriptTail value slice v u) (EP X pins σ Q) X.xe s
/-- a call of a builtin's method by values: the receiver, the arguments -/
def MtR (X : Cx) (id : String) (r : V → List V → Hp → VK → Prop) : Prop :=
  ∀ (pins : List (Addr × Obj)) (s : Shared) (σ : St) (H : Hp) (x : V) (xs : List V) (v : Value) (us : List Value) (Q : VK), Inv X pins σ H s → RelV x v → Vals xs us → r x xs H Q →
    wpAny (model X.prog X.w) X.A (call (.builtin id) (v :: us)) (EP X pins σ Q) X.xe s
section
variable {X : Cx} {a b : Expr} {ta tb : TE} {pos : Pos}
theorem IxR.or {r r' : R2} (h : IxR X r) (h' : IxR X r') : IxR X (fun x y H Q => r x y H Q ∨ r' x y H Q) := by
  intro value slice pins s σ H x y v u Q I rx ry q hs
  rcases q with q | q
  · exact h value slice pins s σ H x y v u Q I rx ry q hs
  · exact h' value slice pins s σ H x y v u Q I rx ry q hs
theorem MtR.or {id : String} {r r' : V → List V → Hp → VK → Prop} (h : MtR X id r) (h' : MtR X id r') : MtR X id (fun x xs H Q => r x xs H Q ∨ r' x xs H Q) := by
  intro pins s σ H x xs v us Q I rx rs q
  rcases q with q | q
  · exact h pins s σ H x xs v us Q I rx rs q
  · exact h' pins s σ H x xs v us Q I rx rs q
/-- a[b] -/
theorem pe_ix {r : R2} (hr : IxR X r) (ha : PE X a ta) (hb : PE X b tb) (hs : PlainIx b) : PE X (.Subscript a b pos) (tOp r ta tb) := by
  intro pins s σ H Q I h
  exact Subscript_ (binT ha hb I h fun v u s2 x y H2 I2 rx ry q => hr a b pins s2 σ H2 x y v u Q I2 rx ry q (hs _ _))

def rIxL (K : PySem.W.Frag) : R2 := fun x y H Q => ∃ p xs i v, x = .ref p ∧ y = .int i ∧ SqL K H p xs ∧ atI xs i = some v ∧ Q v H
def rIxT (K : PySem.W.Frag) : R2 := fun x y H Q => ∃ p xs i v, x = .ref p ∧ y = .int i ∧ SqT K H p xs ∧ atI xs i = some v ∧ Q v H
def rIxS : R2 := fun x y H Q => ∃ z i c, x = .str z ∧ y = .int i ∧ z.length ≤ sizeLine ∧ atI z.cps.toList i = some c ∧ Q (.str ⟨#[c]⟩) H
theorem ix_list : IxR X (rIxL X.K) := by
  intro value slice pins s σ H x y v u Q I rx ry h hs
  obtain ⟨p, xs, i, z, rfl, rfl, hq, he, q⟩ := h
  cases rx
  obtain ⟨t, rfl⟩ := ry
  obtain ⟨its, r, pl, hz⟩ := I.list hq
  obtain ⟨j, h1, h2, h3, h4, h5⟩ := atI_get he
  obtain ⟨w, ew, rw'⟩ := r.get h2
  have hl := r.length
  have hn := line63
  have fin : EP X pins σ Q w s := ⟨z, H, I, rw', q⟩
  by_cases h0 : 0 ≤ i
  · have hj : i.toNat = j := by
      rw [seqIndex_of h0 h5] at h1
      exact Option.some.inj h1
    exact item_listR pl.isList h0 (by omega) (by rw [hj]; simpa using ew) fin hs
  · have hj : (i + (its.toArray.size : Int)).toNat = j := by
      rw [seqIndex_neg (by omega) h4] at h1
      rw [List.size_toArray, ← hl]
      exact Option.some.inj h1
    exact subscriptTail_builtinR (x := w) pl.isList.typeIs slot_list_getitem.lookup
      (wpAny_getItem_list_neg (Q := fun r s' => r = w ∧ EP X pins σ Q r s') pl.isList (by omega) (by rw [List.size_toArray] <;> omega) (by omega) (by rw [hj]; simpa using ew) ⟨rfl, fin⟩) hs
theorem ix_tup : IxR X (rIxT X.K) := by
  intro value slice pins s σ H x y v u Q I rx ry h hs
  obtain ⟨p, xs, i, z, rfl, rfl, hq, he, q⟩ := h
  cases rx
  obtain ⟨t, rfl⟩ := ry
  obtain ⟨its, r, pl, hz⟩ := I.tuple hq
  obtain ⟨j, h1, h2, h3, h4, h5⟩ := atI_get he
  obtain ⟨w, ew, rw'⟩ := r.get h2
  have hl := r.length
  have hn := line63
  have fin : EP X pins σ Q w s := ⟨z, H, I, rw', q⟩
  exact subscriptTail_builtinR (x := w) pl.typeIs slot_tuple_getitem.lookup
    (getItem_tuple (j := j) (Q := fun r s' => r = w ∧ EP X pins σ Q r s') pl (by omega) (by omega) (by rw [List.size_toArray, ← hl]; exact h1) (by simpa using ew) ⟨rfl, fin⟩) hs
theorem ix_str : IxR X rIxS := by
  intro value slice pins s σ H x y v u Q I rx ry h hs
  obtain ⟨z, i, c, rfl, rfl, hz, he, q⟩ := h
  obtain ⟨t, rfl⟩ := rx
  obtain ⟨t', rfl⟩ := ry
  obtain ⟨j, h1, h2, h3, h4, h5⟩ := atI_get he
  have hl : z.cps.toList.length = z.length := by simp [Str.length]
  rw [hl] at h1 h4 h5
  have hn := line63
  exact tail_any (typeIs_str s z t) slot_str_getitem.lookup (getItem_str (c := c) (by
    have e1 : decide (i < -(2 ^ 63 : Int)) = false := decide_eq_false (by omega)
    have e2 : decide (i ≥ 2 ^ 63) = false := decide_eq_false (by omega)
    rw [e1, e2, Bool.or_false]) (by rw [h1]; simpa using h2) ⟨.str ⟨#[c]⟩, H, I.tok _, ⟨_, rfl⟩, q⟩) hs
/-- list, tuple or str -/
def rIx (K : PySem.W.Frag) : R2 := fun x y H Q => rIxL K x y H Q ∨ rIxT K x y H Q ∨ rIxS x y H Q
theorem ix_seq : IxR X (rIx X.K) := ix_list.or (ix_tup.or ix_str)

/-! ### xs[i] = v, any sign -/
/-- the list's object behind a store -/
theorem mapSeq_set (its : List Value) (n j : Nat) (u : Value) : Obj.mapSeq (·.setIfInBounds j u) { cls := .type "list", data := .seq its.toArray n } = { cls := .type "list", data := .seq (its.set j u).toArray n } := by
  simp [Obj.mapSeq]
theorem Inv.lst {pins : List (Addr × Obj)} {σ : St} {H : Hp} {s : Shared} {p : Addr} {xs : List V} (I : Inv X pins σ H s) (h : H p = some (.lst xs)) :
    ∃ (its : List Value) (n : Nat), Vals xs its ∧ s.heap.get? p = some { cls := .type "list", data := .seq its.toArray n } ∧ xs.length ≤ sizeLine := by
  obtain ⟨z, its, n, r, e⟩ := I.hok p _ h
  exact ⟨its, n, r, e, z⟩
/-- the list at p is written by an update of its object -/
theorem Inv.lstUpd {pins : List (Addr × Obj)} {σ : St} {H : Hp} {s : Shared} {p : Addr} {xs ys : List V} {its its' : List Value} {n n' : Nat} {f : Obj → Obj} (I : Inv X pins σ H s) (h : H p = some (.lst xs))
    (ho : s.heap.get? p = some { cls := .type "list", data := .seq its.toArray n }) (hf : f { cls := .type "list", data := .seq its.toArray n } = { cls := .type "list", data := .seq its'.toArray n' }) (r : Vals ys its') (hz : ys.length ≤ sizeLine) (t : Nat) :
    Inv X pins σ (upd H p (.lst ys)) { s with heap := s.heap.update p f, toks := t } := by
  have e : (s.heap.update p f).get? p = some { cls := .type "list", data := .seq its'.toArray n' } := by
    rw [Heap.get?_update_self f ho (by rw [hf] <;> rfl), hf]
  refine I.write (x := p) (e := p) (by rw [h]; trivial) (.inl rfl) (fun b u hb q => (Heap.get?_update_other _ _ (Ne.symm hb)).trans q) ⟨_, e⟩ ?_
  exact ⟨hz, its', n', r, e⟩
def rSetL : V → V → V → Hp → (Hp → Prop) → Prop := fun o i v H Q => ∃ p xs k j, o = .ref p ∧ i = .int k ∧ H p = some (.lst xs) ∧ ixN xs.length k = some j ∧ Q (upd H p (.lst (xs.set j v)))
theorem set_list : PSet X rSetL := by
  intro pins s σ H o i v ov iv u Q I ro ri rv h
  obtain ⟨p, xs, k, j, rfl, rfl, hp, hj, q⟩ := h
  cases ro
  obtain ⟨t, rfl⟩ := ri
  obtain ⟨its, n, r, ho, hz⟩ := I.lst hp
  obtain ⟨h1, h2, h3, h4⟩ := ixN_seq hj
  have hl := r.length
  have hn := line63
  have I' : Inv X pins σ (upd H p (.lst (xs.set j v))) { s with heap := s.heap.update p (Obj.mapSeq (·.setIfInBounds j u)) } :=
    I.lstUpd hp ho (mapSeq_set its n j u) (r.set rv j) (by rw [List.length_set]; exact hz) s.toks
  by_cases h0 : 0 ≤ k
  · have hk : k.toNat = j := by
      rw [seqIndex_of h0 h4] at h1
      exact Option.some.inj h1
    exact PySem.W.ki_setAt ho h0 (by omega) (by rw [List.size_toArray, ← hl]; exact h4) (by rw [hk]; exact ⟨_, I', q⟩)
  · have hk : (k + (its.toArray.size : Int)).toNat = j := by
      rw [seqIndex_neg (by omega) h3] at h1
      rw [List.size_toArray, ← hl]
      exact Option.some.inj h1
    exact PySem.W.ki_setBack ho (by omega) (by rw [List.size_toArray, ← hl]; exact h3) (by omega) (by rw [hk]; exact ⟨_, I', q⟩)

/-! ### slices -/
theorem slice_bounds (lo hi : Option Int) (n : Nat) : (sliceBounds lo hi none n).1 = ((HT.sIx n 0 lo : Nat) : Int) ∧ (sliceBounds lo hi none n).2.1 = ((HT.sIx n n hi : Nat) : Int) ∧ (sliceBounds lo hi none n).2.2 = 1 := by
  refine ⟨?_, ?_, rfl⟩
  · cases lo with
    | none => simp [sliceBounds, HT.sIx]
    | some i =>
      simp only [sliceBounds, HT.sIx, Option.getD_none, show (1 : Int) > 0 by decide, if_true]
      by_cases h : i < 0
      · simp only [h, if_true] <;> omega
      · simp only [h, if_false] <;> omega
  · cases hi with
    | none => simp [sliceBounds, HT.sIx]
    | some i =>
      simp only [sliceBounds, HT.sIx, Option.getD_none, show (1 : Int) > 0 by decide, if_true]
      by_cases h : i < 0
      · simp only [h, if_true] <;> omega
      · simp only [h, if_false] <;> omega
theorem slicePick_cut (its : List Value) (lo hi : Option Int) : slicePick its.toArray lo hi none = ((its.drop (HT.sIx its.length 0 lo)).take (HT.sIx its.length its.length hi - HT.sIx its.length 0 lo)).toArray := by
  obtain ⟨h1, h2, h3⟩ := slice_bounds lo hi its.toArray.size
  unfold slicePick
  rw [h1, h2, h3]
  simp only [sliceRange_one, pick_run, List.size_toArray] <;> rfl
/-- xs[lo:hi] of a list: a new list -/
def rSlL (K : PySem.W.Frag) : V → Option Int → Option Int → Hp → VK → Prop := fun x lo hi H Q => ∃ a xs, x = .ref a ∧ SqL K H a xs ∧ ∀ p, H p = none → Q (.ref p) (upd H p (.lst (cutV xs lo hi)))
theorem sl_list : SlR X (rSlL X.K) := by
  intro pins s σ H x v vl vu lo hi sl Q I rx hs pl pu h
  obtain ⟨a, xs, rfl, hx, q⟩ := h
  cases rx
  obtain ⟨its, r, ht, hz⟩ := I.list hx
  have hlen := r.length
  refine ⟨"list", _, slot_list_getitem.lookup, ht.isList.typeIs, ?_⟩
  refine wpAny_getItem_list_slice ht.isList hs pl pu .none (by simp) ?_ (by rw [List.size_toArray] <;> omega)
  rw [slicePick_cut, ← hlen]
  refine ⟨.ref s.heap.objs.size, _, I.laid (t' := s.toks) (o := .lst (cutV xs lo hi)) (fun b ob q => Heap.get?_push_of_some _ q) (Nat.le_refl _) ?_, rfl, q _ (I.hok.fresh (Nat.le_refl _))⟩
  exact ⟨Nat.le_trans (cutV_length xs lo hi) hz, _, 0, (r.drop (HT.sIx xs.length 0 lo)).take (HT.sIx xs.length xs.length hi - HT.sIx xs.length 0 lo), Heap.get?_push_size _ rfl⟩

/-! ### in, not in: flat items -/
def flatV : V → Bool
  | .non => true
  | .bl _ => true
  | .int _ => true
  | .str _ => true
  | _ => false
/-- == of flat values -/
def eqV : V → V → Bool
  | .non, .non => true
  | .bl a, .bl b => a == b
  | .bl a, .int b => (if a then 1 else 0) == b
  | .int a, .bl b => a == (if b then 1 else 0)
  | .int a, .int b => a == b
  | .str a, .str b => a == b
  | _, _ => false
theorem eqAt_V {A : Around} {s : Shared} {y x : V} {u v : Value} (ry : RelV y u) (rx : RelV x v) (fy : flatV y = true) (fx : flatV x = true) : SeqAt.EqAt A s u v (eqV y x) := by
  cases y with
  | non =>
    cases ry
    cases x with
    | non => cases rx; exact SeqAt.EqAt.same _
    | bl b => cases rx; exact SeqAt.EqAt.none_bool b
    | int b => obtain ⟨t, rfl⟩ := rx; exact SeqAt.EqAt.none_int b t
    | str b => obtain ⟨t, rfl⟩ := rx; exact SeqAt.EqAt.none_str b t
    | _ => exact absurd (show false = true from fx) Bool.false_ne_true
  | bl a =>
    cases ry
    cases x with
    | non => cases rx; exact SeqAt.EqAt.bool_none a
    | bl b => cases rx; exact SeqAt.EqAt.bool_bool a b
    | int b => obtain ⟨t, rfl⟩ := rx; exact SeqAt.EqAt.bool_int a b t
    | str b => obtain ⟨t, rfl⟩ := rx; exact SeqAt.EqAt.bool_str a b t
    | _ => exact absurd (show false = true from fx) Bool.false_ne_true
  | int a =>
    obtain ⟨t', rfl⟩ := ry
    cases x with
    | non => cases rx; exact SeqAt.EqAt.int_none a t'
    | bl b => cases rx; exact SeqAt.EqAt.int_bool a t' b
    | int b => obtain ⟨t, rfl⟩ := rx; exact SeqAt.EqAt.int_int a t' b t
    | str b => obtain ⟨t, rfl⟩ := rx; exact SeqAt.EqAt.int_str a t' b t
    | _ => exact absurd (show false = true from fx) Bool.false_ne_true
  | str a =>
    obtain ⟨t', rfl⟩ := ry
    cases x with
    | non => cases rx; exact SeqAt.EqAt.str_none a t'
    | bl b => cases rx; exact SeqAt.EqAt.str_bool a t' b
    | int b => obtain ⟨t, rfl⟩ := rx; exact SeqAt.EqAt.str_int a t' b t
    | str b => obtain ⟨t, rfl⟩ := rx; exact SeqAt.EqAt.str_str a t' b t
    | _ => exact absurd (show false = true from fx) Bool.false_ne_true
  | _ => exact absurd (show false = true from fy) Bool.false_ne_true
/-- the items' answers, read off the values (a value's own answer does not lean on its token) -/
def eqU (x : V) (u : Value) : Bool := match u with
  | .none => eqV .non x
  | .bool b => eqV (.bl b) x
  | .int i _ => eqV (.int i) x
  | .str z _ => eqV (.str z) x
  | _ => false
theorem eqU_of {x y : V} {u : Value} (r : RelV y u) (f : flatV y = true) : eqU x u = eqV y x := by
  cases y with
  | non => cases r; rfl
  | bl b => cases r; rfl
  | int i => obtain ⟨t, rfl⟩ := r; rfl
  | str z => obtain ⟨t, rfl⟩ := r; rfl
  | _ => exact absurd (show false = true from f) Bool.false_ne_true
theorem any_eqU {x : V} : ∀ {xs : List V} {us : List Value}, Vals xs us → xs.all flatV = true → us.any (eqU x) = xs.any fun y => eqV y x
  | _, _, .nil, _ => rfl
  | y :: xs, u :: us, .cons r t, f => by
    rw [List.all_cons, Bool.and_eq_true] at f
    rw [List.any_cons, List.any_cons, eqU_of r f.1, any_eqU t f.2]
theorem mem_eqAt {A : Around} {s : Shared} {x : V} {v : Value} (rx : RelV x v) (fx : flatV x = true) : ∀ {xs : List V} {us : List Value}, Vals xs us → xs.all flatV = true → ∀ u ∈ us, SeqAt.EqAt A s u v (eqU x u)
  | _, _, .nil, _ => fun u hu => by cases hu
  | y :: xs, u :: us, .cons r t, f => fun u' hu => by
    rw [List.all_cons, Bool.and_eq_true] at f
    rcases List.mem_cons.mp hu with rfl | hu
    · rw [eqU_of r f.1]; exact eqAt_V r rx f.1 fx
    · exact mem_eqAt rx fx t f.2 u' hu
def inV (x : V) (xs : List V) : Bool := xs.any fun y => eqV y x
/-- x in a list or tuple of flat items -/
def rIn (K : PySem.W.Frag) (neg : Bool) : R2 := fun x y H Q => ∃ p xs, y = .ref p ∧ (SqL K H p xs ∨ SqT K H p xs) ∧ flatV x = true ∧ xs.all flatV = true ∧ Q (.bl (if neg then !inV x xs else inV x xs)) H
theorem op_in_seq : OpR X (compareOp .In) (rIn X.K false) := by
  intro pins s σ H x y v u Q I rx ry h
  obtain ⟨p, xs, rfl, hq, fx, fs, q⟩ := h
  cases ry
  rcases hq with hq | hq
  · obtain ⟨its, r, pl, hz⟩ := I.list hq
    refine SeqAt.in_listAt (eqU x) pl.isList (fun w hw => mem_eqAt rx fx r fs w (by simpa using hw)) ⟨.bl _, H, I, rfl, ?_⟩
    rw [show its.toArray.any (eqU x) = its.any (eqU x) by simp, any_eqU r fs]
    exact q
  · obtain ⟨its, r, pl, hz⟩ := I.tuple hq
    refine SeqAt.in_tupleAt (eqU x) pl (fun w hw => mem_eqAt rx fx r fs w (by simpa using hw)) ⟨.bl _, H, I, rfl, ?_⟩
    rw [show its.toArray.any (eqU x) = its.any (eqU x) by simp, any_eqU r fs]
    exact q
theorem op_notIn_seq : OpR X (compareOp .NotIn) (rIn X.K true) := by
  intro pins s σ H x y v u Q I rx ry h
  obtain ⟨p, xs, rfl, hq, fx, fs, q⟩ := h
  cases ry
  rcases hq with hq | hq
  · obtain ⟨its, r, pl, hz⟩ := I.list hq
    refine SeqAt.notIn_listAt (eqU x) pl.isList (fun w hw => mem_eqAt rx fx r fs w (by simpa using hw)) ⟨.bl _, H, I, rfl, ?_⟩
    rw [show its.toArray.any (eqU x) = its.any (eqU x) by simp, any_eqU r fs]
    exact q
  · obtain ⟨its, r, pl, hz⟩ := I.tuple hq
    refine SeqAt.notIn_tupleAt (eqU x) pl (fun w hw => mem_eqAt rx fx r fs w (by simpa using hw)) ⟨.bl _, H, I, rfl, ?_⟩
    rw [show its.toArray.any (eqU x) = its.any (eqU x) by simp, any_eqU r fs]
    exact q
theorem op_notIn_str : OpR X (compareOp .NotIn) (fun x y H Q => ∃ i j, x = .str i ∧ y = .str j ∧ Q (.bl (!(!(Builtin.Str.occurrences j i 0 j.length 1).isEmpty))) H) := by
  intro pins s σ H x y v u Q I rx ry h
  obtain ⟨i, j, rfl, rfl, q⟩ := h
  obtain ⟨t, rfl⟩ := rx
  obtain ⟨t', rfl⟩ := ry
  exact notIn_str ⟨.bl _, H, I, rfl, q⟩

/-! ### len, list(x), tuple(x) of any list or tuple that is read -/
theorem call_len_seq : CallR X (.builtin "len") (fun xs H Q => ∃ p ys, xs = [.ref p] ∧ (SqL X.K H p ys ∨ SqT X.K H p ys) ∧ Q (.int ys.length) H) := by
  intro pins s σ H xs us Q I r h
  obtain ⟨p, ys, rfl, hq, q⟩ := h
  obtain ⟨u, rfl, rx⟩ := vals1 r
  cases rx
  have hn := line63
  rcases hq with hq | hq
  · obtain ⟨its, r', pl, hz⟩ := I.list hq
    have hlen := r'.length
    exact Calls.call_len_list pl.isList (by simp only [List.size_toArray] <;> omega) ⟨.int ys.length, H, I.tok _, ⟨s.toks + 1, by rw [List.size_toArray, hlen]⟩, q⟩
  · obtain ⟨its, r', pl, hz⟩ := I.tuple hq
    have hlen := r'.length
    exact len_tuple pl (by simp only [List.size_toArray] <;> omega) ⟨.int ys.length, H, I.tok _, ⟨s.toks + 1, by rw [List.size_toArray, hlen]⟩, q⟩
theorem call_len_str : CallR X (.builtin "len") (fun xs H Q => ∃ z, xs = [.str z] ∧ z.length ≤ sizeLine ∧ Q (.int z.length) H) := by
  intro pins s σ H xs us Q I r h
  obtain ⟨z, rfl, hz, q⟩ := h
  obtain ⟨u, rfl, t, rfl⟩ := vals1 r
  have hn := line63
  exact len_str (by omega) ⟨.int z.length, H, I.tok _, ⟨_, rfl⟩, q⟩
theorem CallR.or {f : Value} {r r' : List V → Hp → VK → Prop} (h : CallR X f r) (h' : CallR X f r') : CallR X f (fun xs H Q => r xs H Q ∨ r' xs H Q) := by
  intro pins s σ H xs us Q I rs q
  rcases q with q | q
  · exact h pins s σ H xs us Q I rs q
  · exact h' pins s σ H xs us Q I rs q
theorem call_list_of : CallR X (.type "list") (fun xs H Q => ∃ p ys, xs = [.ref p] ∧ (SqL X.K H p ys ∨ SqT X.K H p ys) ∧ ∀ l, H l = none → Q (.ref l) (upd H l (.lst ys))) := by
  intro pins s σ H xs us Q I r h
  obtain ⟨p, ys, rfl, hq, q⟩ := h
  obtain ⟨u, rfl, rx⟩ := vals1 r
  cases rx
  have fin : ∀ (its : List Value), Vals ys its → ys.length ≤ sizeLine → ∀ (h' : Heap) (c' : Nat), (∀ b o', s.heap.get? b = some o' → h'.get? b = some o') →
      h'.get? s.heap.objs.size = some { cls := .type "list", dict := none, data := .seq its.toArray c', slots := #[] } → EP X pins σ Q (.ref s.heap.objs.size) { s with heap := h' } := fun its r' hz h' c' kp e =>
    ⟨.ref s.heap.objs.size, _, I.laid (t' := s.toks) kp (Nat.le_refl _) (show ObjOk X.prog X.w _ h' _ (.lst ys) from ⟨hz, its, c', r', e⟩), rfl, q _ (I.hok.fresh (Nat.le_refl _))⟩
  rcases hq with hq | hq
  · obtain ⟨its, r', pl, hz⟩ := I.list hq
    have hlen := r'.length
    obtain ⟨o, ho, hc, n, hd⟩ := pl.isList
    exact call_list_seq p (.inl rfl) ho hc hd (fun h' c' kp e => fin its r' hz h' c' kp e) (by simp only [List.size_toArray] <;> omega)
  · obtain ⟨its, r', pl, hz⟩ := I.tuple hq
    have hlen := r'.length
    obtain ⟨o, ho, hc, n, hd⟩ := pl
    exact call_list_seq p (.inr rfl) ho hc hd (fun h' c' kp e => fin its r' hz h' c' kp e) (by simp only [List.size_toArray] <;> omega)
theorem call_tuple_of : CallR X (.type "tuple") (fun xs H Q => ∃ p ys, xs = [.ref p] ∧ ((SqL X.K H p ys ∧ ∀ l, H l = none → Q (.ref l) (upd H l (.tup ys))) ∨ (SqT X.K H p ys ∧ Q (.ref p) H))) := by
  intro pins s σ H xs us Q I r h
  obtain ⟨p, ys, rfl, h⟩ := h
  obtain ⟨u, rfl, rx⟩ := vals1 r
  cases rx
  rcases h with ⟨hq, q⟩ | ⟨hq, q⟩
  · obtain ⟨its, r', pl, hz⟩ := I.list hq
    have hlen := r'.length
    refine call_tuple_list pl.isList (fun h' kp => ?_) (by simp only [List.size_toArray] <;> omega)
    have I1 : Inv X pins σ H { s with heap := h' } := I.kept (t' := s.toks) kp
    have I2 : Inv X pins σ (upd H h'.objs.size (.tup ys)) { s with heap := h'.push { cls := .type "tuple", data := .seq its.toArray } } :=
      I1.laid (t' := s.toks) (fun b o e => Heap.get?_push_of_some _ e) (Nat.le_refl _) (show ObjOk X.prog X.w _ _ _ (.tup ys) from ⟨hz, its, r', IsTup.new _ _⟩)
    exact ⟨.ref h'.objs.size, _, I2, rfl, q _ (I1.hok.fresh (Nat.le_refl _))⟩
  · obtain ⟨its, r', pl, hz⟩ := I.tuple hq
    exact call_tuple_same pl ⟨.ref p, H, I, rfl, q⟩

/-! ### the call of a builtin's method: o.m(..) -/
/-- the value is of that builtin type -/
def tyV (K : PySem.W.Frag) (T : String) (x : V) (H : Hp) : Prop := match x with
  | .str _ => T = "str"
  | .int _ => T = "int"
  | .ref p => (T = "list" ∧ ∃ xs, SqL K H p xs) ∨ (T = "tuple" ∧ ∃ o, K.lookup p = some o ∧ o.cls = .type "tuple" ∧ o.dict = none) ∨
      (T = "dict" ∧ ((∃ kvs, H p = some (.dK kvs)) ∨ ∃ kvs, H p = some (.dT kvs))) ∨ (T = "set" ∧ ∃ S n, H p = some (.set S n))
  | _ => False
theorem tyV_is {pins : List (Addr × Obj)} {σ : St} {H : Hp} {s : Shared} {T : String} {x : V} {v : Value} (I : Inv X pins σ H s) (r : RelV x v) (ty : tyV X.K T x H) :
    s.TypeIs v T ∧ ∀ a, v = .ref a → ∃ ob, s.heap.get? a = some ob ∧ ob.dict = none := by
  cases x with
  | str z =>
    obtain ⟨t, rfl⟩ := r
    cases (show T = "str" from ty)
    exact ⟨typeIs_str s z t, fun _ e => nomatch e⟩
  | int i =>
    obtain ⟨t, rfl⟩ := r
    cases (show T = "int" from ty)
    exact ⟨typeIs_int s i t, fun _ e => nomatch e⟩
  | ref p =>
    cases r
    rcases ty with ⟨rfl, xs, hq⟩ | ⟨rfl, o, hk, hc, hd⟩ | ⟨rfl, hk⟩ | ⟨rfl, S, n, hk⟩
    · obtain ⟨its, _, pl, _⟩ := I.list hq
      refine ⟨pl.isList.typeIs, fun a e => ?_⟩
      cases e
      obtain ⟨o, n, e, c, hd, _⟩ := pl
      exact ⟨o, e, hd⟩
    · refine ⟨⟨o, I.kIn p o hk, hc⟩, fun a e => ?_⟩
      cases e
      exact ⟨o, I.kIn _ o hk, hd⟩
    · have z : ∃ o, s.heap.get? p = some o ∧ o.ExactDict := by
        rcases hk with ⟨kvs, hk⟩ | ⟨kvs, hk⟩
        · obtain ⟨_, _, _, _, o, _, _, e, ex, _⟩ := I.hok p _ hk
          exact ⟨o, e, ex⟩
        · obtain ⟨_, _, _, _, o, _, _, e, ex, _⟩ := I.hok p _ hk
          exact ⟨o, e, ex⟩
      obtain ⟨o, e, ex⟩ := z
      refine ⟨⟨o, e, ex.1⟩, fun a e2 => ?_⟩
      cases e2
      exact ⟨o, e, ex.2.1⟩
    · obtain ⟨o, _, _, _, e, ex, _⟩ := I.hok p _ hk
      refine ⟨⟨o, e, ex.1⟩, fun a e2 => ?_⟩
      cases e2
      exact ⟨o, e, ex.2.1⟩
  | _ => exact False.elim ty
def tBM0 (K : PySem.W.Frag) (T : String) (r : V → List V → Hp → VK → Prop) (to : TE) : TE := fun σ H Q => to σ H fun x H1 => tyV K T x H1 ∧ r x [] H1 Q
def tBM (K : PySem.W.Frag) (T : String) (r : V → List V → Hp → VK → Prop) (to : TE) (t : TA) : TE := fun σ H Q => to σ H fun x H1 => tyV K T x H1 ∧ t σ H1 fun xs H2 => r x xs H2 Q
variable {o e : Expr} {es : List Expr} {to : TE} {t : TA} {name : Str} {apos cpos : Pos} {T id : String} {r : V → List V → Hp → VK → Prop}
theorem pe_bm0 (pa : PlainAttrs T) (slot : Slot T name id) (hty : typeOf (.builtin id) = pure (.type "method_descriptor")) (hm : MtR X id r) (ho : PE X o to)
    (hbase : attributeBase o name X.env (eval o X.env) = eval o X.env := by rfl) (hline : (apos.endLine == cpos.line) = true := by rfl) : PE X (.Call (.Attribute o name apos) [] [] cpos) (tBM0 X.K T r to) := by
  intro pins s σ H Q I h
  refine wpAny_Call_method0_late hbase hline (thn (ho pins s σ H _ I h) fun v s1 ⟨x, H1, I1, r1, ty, q1⟩ => ?_)
  obtain ⟨h1, h2⟩ := tyV_is I1 r1 ty
  exact ⟨T, id, pa, slot, hty, h1, h2, Calls.callWith_builtin rfl (PySem.evalArgs_none (hm pins s1 σ H1 x [] v [] Q I1 r1 .nil q1))⟩
theorem pe_bm (pa : PlainAttrs T) (slot : Slot T name id) (hty : typeOf (.builtin id) = pure (.type "method_descriptor")) (hm : MtR X id r) (ho : PE X o to) (ha : PA X (e :: es) t)
    (hbase : attributeBase o name X.env (eval o X.env) = eval o X.env := by rfl)
    (hfew : ((backTo cpos (starEach (e :: es) X.env)).all (fun x => !x.1) && (backToKw cpos (keywordEach [] X.env)).all (fun x => x.1.isSome)
      && decide ((e :: es).length + ([] : List Keyword).length + (if ([] : List Keyword).isEmpty then 0 else 1) < 30)) = true := by rfl)
    (hline : (apos.endLine == cpos.line) = true := by rfl) (hs : starEach (e :: es) X.env = (false, eval e X.env) :: starEach es X.env := by rfl) (hplain : (backTo cpos (starEach es X.env)).any (·.1) = false := by rfl) :
    PE X (.Call (.Attribute o name apos) (e :: es) [] cpos) (tBM X.K T r to t) := by
  intro pins s σ H Q I h
  refine wpAny_Call_method_late hbase hfew hline rfl (thn (ho pins s σ H _ I h) fun v s1 ⟨x, H1, I1, r1, ty, q1⟩ => ?_)
  obtain ⟨h1, h2⟩ := tyV_is I1 r1 ty
  refine ⟨T, id, pa, slot, hty, h1, h2, ?_⟩
  have hA := ha cpos pins s1 σ H1 _ I1 q1
  rw [hs] at hA ⊢
  refine Calls.callWith_builtin (by show (false || (backTo cpos (starEach es X.env)).any (·.1)) = false; rw [hplain] <;> rfl) (Calls.evalArgs_plain ?_)
  exact thn hA fun us s2 ⟨vs, H2, I2, r2, q2⟩ => hm pins s2 σ H2 x vs v us Q I2 r1 r2 q2
/- xs.append(e), list.index on a module's tuple .. are MtR facts of 06m -/
end
end L2

namespace L2
open PySem PySem.Spec PyProof.Rows

def MtM (X : Cx) (id : String) (r : V → List V → Hp → VK → Prop) : Prop :=
  ∀ (pins : List (Addr × Obj)) (s : Shared) (σ : St) (H : Hp) (x : V) (xs : List V) (v : Value) (us : List Value) (Q : VK), Inv X pins σ H s → RelV x v → Vals xs us → r x xs H Q →
    wpAny (model X.prog X.w) X.A (call (.builtin id) (v :: us)) (EP X pins σ Q) X.xe s

/-! ### lists of values -/
theorem Vals.one : ∀ {x : V} {us : List Value}, Vals [x] us → ∃ u, us = [u] ∧ RelV x u
  | _, _, .cons r .nil => ⟨_, rfl, r⟩
theorem Vals.two : ∀ {x y : V} {us : List Value}, Vals [x, y] us → ∃ u v, us = [u, v] ∧ RelV x u ∧ RelV y v
  | _, _, _, .cons r (.cons q .nil) => ⟨_, _, rfl, r, q⟩
theorem Vals.zero : ∀ {us : List Value}, Vals [] us → us = []
  | _, .nil => rfl
theorem Vals.dropLast {xs : List V} {us : List Value} (h : Vals xs us) : Vals xs.dropLast us.dropLast := by
  induction h with
  | nil => exact .nil
  | cons r t ih =>
    cases t with
    | nil => exact .nil
    | cons q t' => exact .cons r ih
theorem Vals.eraseIdx : ∀ {xs : List V} {us : List Value} (i : Nat), Vals xs us → Vals (xs.eraseIdx i) (us.eraseIdx i)
  | _, _, _, .nil => .nil
  | _, _, 0, .cons _ t => t
  | _, _, i + 1, .cons r t => .cons r (Vals.eraseIdx i t)
theorem Vals.reverse {xs : List V} {us : List Value} (h : Vals xs us) : Vals xs.reverse us.reverse := by
  induction h with
  | nil => exact .nil
  | cons r t ih => rw [List.reverse_cons, List.reverse_cons]; exact Vals.append ih (.cons r .nil)
theorem Vals.rep {xs : List V} {us : List Value} (h : Vals xs us) : ∀ k : Nat, Vals (List.replicate k xs).flatten (List.replicate k us).flatten
  | 0 => .nil
  | k + 1 => by
    rw [List.replicate_succ, List.replicate_succ, List.flatten_cons, List.flatten_cons]
    exact Vals.append h (Vals.rep h k)
theorem erase_last {α : Type} (l : List α) : l.eraseIdx (l.length - 1) = l.dropLast := by
  induction l with
  | nil => rfl
  | cons a r ih =>
    cases r with
    | nil => rfl
    | cons b r =>
      have e : (a :: b :: r).length - 1 = ((b :: r).length - 1) + 1 := by
        have h1 : (a :: b :: r).length = r.length + 2 := rfl
        have h2 : (b :: r).length = r.length + 1 := rfl
        omega
      rw [e, List.eraseIdx_cons_succ, ih]
      all_goals rfl
theorem len_erase {α : Type} : ∀ (l : List α) (i : Nat), (l.eraseIdx i).length ≤ l.length
  | [], _ => Nat.le_refl _
  | _ :: _, 0 => Nat.le_succ _
  | _ :: r, i + 1 => Nat.succ_le_succ (len_erase r i)
theorem foldl_rep (its : List Value) : ∀ (k : Nat) (acc : List Value),
    List.foldl (fun x1 x2 => x1 ++ x2) acc.toArray (List.replicate k its.toArray) = (acc ++ (List.replicate k its).flatten).toArray
  | 0, acc => by simp
  | k + 1, acc => by
    have e : acc.toArray ++ its.toArray = (acc ++ its).toArray := by simp
    have e2 : (acc ++ its) ++ (List.replicate k its).flatten = acc ++ (List.replicate (k + 1) its).flatten := by
      rw [List.replicate_succ, List.flatten_cons, List.append_assoc]
    rw [← e2, ← foldl_rep its k (acc ++ its), ← e, List.replicate_succ, List.foldl_cons]

section
variable {X : Cx} {pins : List (Addr × Obj)} {σ : St} {H : Hp} {s : Shared} {l b : Addr} {xs ys zs : List V}

/-! ### the two steps: a tracked list is rewritten, a new list is laid -/
theorem Inv.lset {its its' : List Value} {n : Nat} {f : Array Value → Array Value} {t' : Nat} (I : Inv X pins σ H s) (hH : H l = some (.lst xs))
    (e : s.heap.get? l = some { cls := .type "list", data := .seq its.toArray n }) (hf : f its.toArray = its'.toArray) (hv : Vals ys its') (hz : ys.length ≤ sizeLine) :
    Inv X pins σ (upd H l (.lst ys)) { s with heap := s.heap.update l (Obj.mapSeq f), toks := t' } := by
  have q := PySem.IsL.update e f
  rw [hf] at q
  refine I.write (x := l) (e := l) (by rw [hH]; exact trivial) (.inl rfl) (fun b' u hb hu => (Heap.get?_update_other s.heap (Obj.mapSeq f) (Ne.symm hb)).trans hu) ⟨_, q⟩ ?_
  exact ⟨hz, its', _, hv, q⟩
theorem Inv.lnew {its : List Value} {t' : Nat} (I : Inv X pins σ H s) (hv : Vals ys its) (hz : ys.length ≤ sizeLine) :
    Inv X pins σ (upd H s.heap.objs.size (.lst ys)) { s with heap := s.heap.push { cls := .type "list", data := .seq its.toArray }, toks := t' } :=
  I.laid (fun _ _ q => Heap.get?_push_of_some _ q) (Nat.le_refl _) ⟨hz, its, 0, hv, Heap.get?_push_size _ rfl⟩
theorem Inv.fresh (I : Inv X pins σ H s) : H s.heap.objs.size = none := I.hok.fresh (Nat.le_refl _)
theorem Inv.lstM (I : Inv X pins σ H s) (hH : H l = some (.lst xs)) : xs.length ≤ sizeLine ∧ ∃ (its : List Value) (n : Nat), Vals xs its ∧ xs.length = its.length ∧ s.heap.get? l = some { cls := .type "list", data := .seq its.toArray n } := by
  obtain ⟨z, its, n, r, e⟩ := I.hok l _ hH
  exact ⟨z, its, n, r, r.length, e⟩

theorem notLongL {n : Nat} (h : n ≤ sizeLine) : Builtin.List.listTooLong n = false := by
  unfold Builtin.List.listTooLong
  exact decide_eq_false (by omega)
end

section
variable {X : Cx}

/-! ### methods -/
def rAppend : V → List V → Hp → VK → Prop := fun x vs H Q => ∃ l xs y, x = .ref l ∧ vs = [y] ∧ H l = some (.lst xs) ∧ xs.length < sizeLine ∧ Q .non (upd H l (.lst (xs ++ [y])))
theorem mt_append : MtM X "list.append" rAppend := by
  intro pins s σ H x vs v us Q I rx rv h
  obtain ⟨l, xs, y, rfl, rfl, hH, hz, q⟩ := h
  cases rx
  obtain ⟨u, rfl, ru⟩ := rv.one
  obtain ⟨z, its, n, r, hl, e⟩ := I.lstM hH
  refine call_meets F.slot_list_append ⟨_, e, rfl⟩ F.entry_list_append (F.args_list_append_2 _ _) (PySem.list_append l its.toArray n u (by rw [List.size_toArray]; omega)) ⟨e, ?_⟩
  refine ⟨.non, _, I.lset (its' := its ++ [u]) hH e (by simp) (r.append (.cons ru .nil)) ?_, rfl, q⟩
  rw [List.length_append, List.length_singleton]
  omega

def rExtend : V → List V → Hp → VK → Prop := fun x vs H Q => ∃ l b xs zs, x = .ref l ∧ vs = [.ref b] ∧ H l = some (.lst xs) ∧ H b = some (.lst zs) ∧ xs.length + zs.length ≤ sizeLine ∧ Q .non (upd H l (.lst (xs ++ zs)))
theorem mt_extend : MtM X "list.extend" rExtend := by
  intro pins s σ H x vs v us Q I rx rv h
  obtain ⟨l, b, xs, zs, rfl, rfl, hH, hB, hz, q⟩ := h
  cases rx
  obtain ⟨u, rfl, ru⟩ := rv.one
  cases ru
  obtain ⟨z, its, n, r, hl, e⟩ := I.lstM hH
  obtain ⟨z2, its2, n2, r2, hl2, e2⟩ := I.lstM hB
  have hsz : its.toArray.size + its2.toArray.size ≤ sizeLine := by rw [List.size_toArray, List.size_toArray]; omega
  have hlong : ¬ (!its.toArray.isEmpty && Builtin.List.listTooLong (its.toArray.size + its2.toArray.size)) = true := by
    rw [notLongL hsz, Bool.and_false]
    exact Bool.false_ne_true
  refine call_meets F.slot_list_extend ⟨_, e, rfl⟩ F.entry_list_extend (F.args_list_extend_2 _ _)
    (AutoSeq1.list_extend_list_list_0 l its.toArray n b its2.toArray n2 hlong (by rw [List.size_toArray]; omega) (by omega)) ⟨e, e2, ?_⟩
  refine ⟨.non, _, I.lset (its' := its ++ its2) hH e (by simp) (r.append r2) ?_, rfl, q⟩
  rw [List.length_append]
  omega

def rPop : V → List V → Hp → VK → Prop := fun x vs H Q => ∃ l xs y, x = .ref l ∧ vs = [] ∧ H l = some (.lst xs) ∧ xs[xs.length - 1]? = some y ∧ Q y (upd H l (.lst xs.dropLast))
theorem mt_pop : MtM X "list.pop" rPop := by
  intro pins s σ H x vs v us Q I rx rv h
  obtain ⟨l, xs, y, rfl, rfl, hH, hy, q⟩ := h
  cases rx
  have hus := rv.zero
  subst hus
  obtain ⟨z, its, n, r, hl, e⟩ := I.lstM hH
  obtain ⟨u, hu, ru⟩ := r.get hy
  have hy' : its.toArray[its.toArray.size - 1]? = some u := by
    show its.toArray[its.length - 1]? = some u
    rw [← Array.getElem?_toList, ← hl]
    exact hu
  refine call_meets F.slot_list_pop ⟨_, e, rfl⟩ F.entry_list_pop (F.args_list_pop_1 _) (MeetsSeq.list_pop_last l its.toArray n u hy' (by rw [List.size_toArray]; omega)) ⟨e, ?_⟩
  refine ⟨y, _, I.lset (its' := its.dropLast) hH e ?_ r.dropLast ?_, ru, q⟩
  · show its.toArray.eraseIdxIfInBounds (its.toArray.size - 1) = its.dropLast.toArray
    rw [List.size_toArray, List.eraseIdxIfInBounds_toArray, erase_last]
  · rw [List.length_dropLast]
    omega

def rPopAt : V → List V → Hp → VK → Prop := fun x vs H Q => ∃ l xs i k y, x = .ref l ∧ vs = [.int i] ∧ H l = some (.lst xs) ∧ -(2 ^ 63) ≤ i ∧ i < 2 ^ 63 ∧ seqIndex? i xs.length = some k ∧ xs[k]? = some y ∧ Q y (upd H l (.lst (xs.eraseIdx k)))
theorem mt_popAt : MtM X "list.pop" rPopAt := by
  intro pins s σ H x vs v us Q I rx rv h
  obtain ⟨l, xs, i, k, y, rfl, rfl, hH, h1, h2, hk, hy, q⟩ := h
  cases rx
  obtain ⟨u, rfl, ru⟩ := rv.one
  obtain ⟨t, rfl⟩ := ru
  obtain ⟨z, its, n, r, hl, e⟩ := I.lstM hH
  obtain ⟨w, hw, rw'⟩ := r.get hy
  refine call_meets F.slot_list_pop ⟨_, e, rfl⟩ F.entry_list_pop (F.args_list_pop_2 _ _)
    (MeetsSeq.list_pop_at l its.toArray n i t k w (fitsIndex_both h1 h2) (by rw [List.size_toArray, ← hl]; exact hk) (by rw [← Array.getElem?_toList]; exact hw) (by rw [List.size_toArray]; omega)) ⟨e, ?_⟩
  refine ⟨y, _, I.lset (its' := its.eraseIdx k) hH e ?_ (r.eraseIdx k) ?_, rw', q⟩
  · show its.toArray.eraseIdxIfInBounds k = (its.eraseIdx k).toArray
    rw [List.eraseIdxIfInBounds_toArray]
  · have := len_erase xs k
    omega

def rReverse : V → List V → Hp → VK → Prop := fun x vs H Q => ∃ l xs, x = .ref l ∧ vs = [] ∧ H l = some (.lst xs) ∧ Q .non (upd H l (.lst xs.reverse))
theorem mt_reverse : MtM X "list.reverse" rReverse := by
  intro pins s σ H x vs v us Q I rx rv h
  obtain ⟨l, xs, rfl, rfl, hH, q⟩ := h
  cases rx
  have hus := rv.zero
  subst hus
  obtain ⟨z, its, n, r, hl, e⟩ := I.lstM hH
  refine call_meets F.slot_list_reverse ⟨_, e, rfl⟩ F.entry_list_reverse (F.args_list_reverse_1 _) (AutoSeq1.list_reverse_list_0 l its.toArray n (by rw [List.size_toArray]; omega)) ⟨e, ?_⟩
  refine ⟨.non, _, I.lset (its' := its.reverse) hH e (by simp) r.reverse ?_, rfl, q⟩
  rw [List.length_reverse]
  omega

def rClear : V → List V → Hp → VK → Prop := fun x vs H Q => ∃ l xs, x = .ref l ∧ vs = [] ∧ H l = some (.lst xs) ∧ Q .non (upd H l (.lst []))
theorem mt_clear : MtM X "list.clear" rClear := by
  intro pins s σ H x vs v us Q I rx rv h
  obtain ⟨l, xs, rfl, rfl, hH, q⟩ := h
  cases rx
  have hus := rv.zero
  subst hus
  obtain ⟨z, its, n, r, hl, e⟩ := I.lstM hH
  refine call_meets F.slot_list_clear ⟨_, e, rfl⟩ F.entry_list_clear (F.args_list_clear_1 _) (AutoSeq1.list_clear_list_0 l its.toArray n (by rw [List.size_toArray]; omega)) ⟨e, ?_⟩
  exact ⟨.non, _, I.lset (its' := []) (ys := []) hH e rfl .nil (Nat.zero_le _), rfl, q⟩

/-! ### list + list, list += list, list * int -/
def rCat : R2 := fun x y H Q => ∃ l b xs zs, x = .ref l ∧ y = .ref b ∧ H l = some (.lst xs) ∧ H b = some (.lst zs) ∧ xs.length + zs.length ≤ sizeLine ∧ ∀ p, H p = none → Q (.ref p) (upd H p (.lst (xs ++ zs)))
theorem op_cat : OpR X (binaryOp .Add) rCat := by
  intro pins s σ H x y v u Q I rx ry h
  obtain ⟨l, b, xs, zs, rfl, rfl, hH, hB, hz, q⟩ := h
  cases rx
  cases ry
  obtain ⟨z, its, n, r, hl, e⟩ := I.lstM hH
  obtain ⟨z2, its2, n2, r2, hl2, e2⟩ := I.lstM hB
  refine PySem.P.add_list e e2 ?_ (by rw [List.size_toArray, List.size_toArray]; omega)
  have ea : its.toArray ++ its2.toArray = (its ++ its2).toArray := by simp
  rw [ea]
  exact ⟨.ref _, _, I.lnew (t' := s.toks) (r.append r2) (by rw [List.length_append]; omega), rfl, q _ I.fresh⟩
/-- a list times an int (a negative one is nothing) -/
def rRep : R2 := fun x y H Q => ∃ l k xs, x = .ref l ∧ y = .int k ∧ H l = some (.lst xs) ∧ -(2 ^ 63) ≤ k ∧ k < 2 ^ 63 ∧ xs.length * k.toNat ≤ sizeLine ∧
  ∀ p, H p = none → Q (.ref p) (upd H p (.lst (List.replicate k.toNat xs).flatten))
theorem len_rep {α : Type} (xs : List α) (k : Nat) : (List.replicate k xs).flatten.length = k * xs.length := by
  induction k with
  | zero => simp
  | succ k ih => rw [List.replicate_succ, List.flatten_cons, List.length_append, ih, Nat.succ_mul, Nat.add_comm]
theorem op_rep : OpR X (binaryOp .Mult) rRep := by
  intro pins s σ H x y v u Q I rx ry h
  obtain ⟨l, k, xs, rfl, rfl, hH, h1, h2, hz, q⟩ := h
  cases rx
  obtain ⟨t, rfl⟩ := ry
  obtain ⟨z, its, n, r, hl, e⟩ := I.lstM hH
  have hlen : its.toArray.size * k.toNat ≤ sizeLine := by rw [List.size_toArray, ← hl]; exact hz
  have hcap : ¬ its.toArray.size * k.toNat > (2 ^ 63 - 1) / 8 := by
    have : (sizeLine : Nat) ≤ (2 ^ 63 - 1) / 8 := by decide
    omega
  have hfit : ¬ (!Builtin.List.listFitsIndex k) = true := by
    rw [fitsIndex_both h1 h2]
    exact Bool.false_ne_true
  have hlong : ¬ Builtin.List.listTooLong (its.toArray.size * k.toNat) = true := by
    rw [notLongL hlen]
    exact Bool.false_ne_true
  have hnew : List.foldl (fun x1 x2 => x1 ++ x2) #[] (List.replicate (if its.toArray.isEmpty = true then 0 else k.toNat) its.toArray) = (List.replicate k.toNat its).flatten.toArray := by
    have f0 : ∀ m : Nat, List.foldl (fun x1 x2 => x1 ++ x2) #[] (List.replicate m its.toArray) = (List.replicate m its).flatten.toArray := fun m => by
      have := foldl_rep its m []
      rw [List.nil_append] at this
      exact this
    rw [f0]
    cases its with
    | nil => simp
    | cons a r' => rw [if_neg (by simp)]
  refine wpAny_binaryOp_repeat_ref (T := "list") (U := "int") (by decide) ⟨_, e, rfl⟩ (fun s' => typeIs_int s' k t) noFill_list_mul F.fills_int_mul F.slot_int_rmul repeat_list F.slot_int_index.lookup
    (call_meets F.slot_int_rmul (typeIs_int s k t) F.entry_int_rmul (F.args_int_rmul_2 _ _) (int___rmul___int_list k t l its.toArray n)
      ⟨e, rfl, ⟨_, e, rfl⟩, call_meets F.slot_list_mul ⟨_, e, rfl⟩ F.entry_list_mul (F.args_list_mul_2 _ _) (AutoListH.list___mul___list_int_3 l its.toArray n k t hfit hcap hlong) ⟨e, ?_⟩⟩)
  rw [hnew]
  exact ⟨.ref _, _, I.lnew (t' := s.toks) (r.rep k.toNat) (by rw [len_rep, Nat.mul_comm]; exact hz), rfl, q _ I.fresh⟩

/-! ### del xs[i] -/
theorem del_list {pins : List (Addr × Obj)} {s : Shared} {σ : St} {H : Hp} {l : Addr} {xs : List V} {i : Int} {t : Tok} {k : Nat} {Q : Unit → Shared → Prop} (I : Inv X pins σ H s) (hH : H l = some (.lst xs))
    (h1 : -(2 ^ 63) ≤ i) (h2 : i < 2 ^ 63) (hk : seqIndex? i xs.length = some k) (h : ∀ s', Inv X pins σ (upd H l (.lst (xs.eraseIdx k))) s' → Q () s') :
    wpAny (model X.prog X.w) X.A (delItem (.ref l) (.int i t)) Q X.xe s := by
  obtain ⟨z, its, n, r, hl, e⟩ := I.lstM hH
  refine PySem.P.delItem_list (k := k) e (fitsIndex_both h1 h2) (by rw [List.size_toArray, ← hl]; exact hk) (h _ ?_) (by rw [List.size_toArray]; omega)
  refine I.lset (its' := its.eraseIdx k) (t' := s.toks) hH e ?_ (r.eraseIdx k) ?_
  · show its.toArray.eraseIdxIfInBounds k = (its.eraseIdx k).toArray
    rw [List.eraseIdxIfInBounds_toArray]
  · have := len_erase xs k
    omega
end

/-! ### xs[a:b] = ys -/
section
variable {prog : Program} {w : World} {A : Around} {E : Value → Shared → Prop} {s : Shared}
theorem splice_eq (its its2 : List Value) (a c : Nat) : its.toArray.extract 0 a ++ its2.toArray ++ its.toArray.extract c its.toArray.size = (its.take a ++ its2 ++ its.drop c).toArray := by
  apply Array.toList_inj.mp
  first
    | (simp
       exact List.take_of_length_le (by simp))
    | simp [List.take_of_length_le]
    | simp
theorem bounds_run {a c n : Nat} (hac : a ≤ c) (hc : c ≤ n) : sliceBounds (some (a : Int)) (some (c : Int)) none n = ((a : Int), (c : Int), 1) := by
  simp only [sliceBounds, Option.getD_none]
  have h1 : ¬ ((a : Int) < 0) := by omega
  have h2 : ¬ ((c : Int) < 0) := by omega
  simp only [h1, h2, if_false, show (1 : Int) > 0 by decide, if_true]
  congr 1
  · omega
  · congr 1; omega
set_option maxRecDepth 100000 in
/-- list.__setitem__ with a slice of step one and another list -/
theorem setItem_slice {l b sl : Addr} {items new : Array Value} {n n2 : Nat} {vl vu : Value} {a c : Nat} {Q : Unit → Shared → Prop}
    (e : s.heap.get? l = some { cls := .type "list", data := .seq items n }) (e2 : s.heap.get? b = some { cls := .type "list", data := .seq new n2 }) (hne : l ≠ b)
    (hs : s.heap.IsSliceOf sl vl vu .none) (pl : IsPart vl (some (a : Int))) (pu : IsPart vu (some (c : Int))) (hac : a ≤ c) (hc : c ≤ items.size)
    (hsz : items.size + new.size ≤ sizeLine) (h : Q () { s with heap := s.heap.update l (Obj.mapSeq fun xs => xs.extract 0 a ++ new ++ xs.extract c xs.size) }) :
    wpAny (model prog w) A (setItem (.ref l) (.ref sl) (.ref b)) Q E s := by
  have hl : s.heap.IsList l items := PySem.IsL.isList e
  have hb : s.heap.IsList b new := PySem.IsL.isList e2
  obtain ⟨os, hos, hcs, hds⟩ := id hs
  have hTs : s.TypeIs (.ref sl) "slice" := ⟨os, hos, hcs⟩
  have hstep : ¬ ((rawPart none == rawInt 0) = true) := Bool.false_ne_true
  have hsame : Builtin.List.listSameRef (.ref l) (.ref b) = false := by
    unfold Builtin.List.listSameRef
    exact beq_eq_false_iff_ne.mpr hne
  have hmax : (max (a : Int) (c : Int)).toNat = c := by omega
  have hz' : ((fun xs : Array Value => xs.extract 0 a ++ new ++ xs.extract c xs.size) items).size ≤ sizeLine + 1 := by
    simp only [Array.size_append, Array.size_extract]
    omega
  unfold setItem
  try with_reducible refine wpAny_holding ?_
  first | refine wpAny_bind (wpAny_pure ?_) | skip
  refine wpAny_bind (wpAny_sequenceKey hl.typeIs (by decide) ?_)
  refine wpAny_bind (wpAny_callSpecial?_slot (name := Str.ofString "__setitem__") hl.typeIs slot_list_setitem
    (wpAny_call_entry slot_list_setitem hl.typeIs entry_list_setitem ?_ (args_list_setitem _ _ _)))
  show wpAny _ _ (Builtin.List.listSubscript? (.ref sl) >>= _) _ _ s
  refine wpAny_bind ?_
  unfold Builtin.List.listSubscript?
  refine wpAny_bind (wpAny_specialOf hTs slice_no_index ?_)
  simp only [Option.isNone_none, if_true]
  refine wpAny_pure ?_
  show wpAny _ _ (typeOf (.ref sl) >>= _) _ _ s
  refine wpAny_bind (wpAny_typeOf hTs ?_)
  first
    | rw [if_neg (by decide)]
    | refine PySem.W.KFB.if_not (by decide) ?_
  rw [listSliceParts_eq]
  refine wpAny_bind (wpAny_bind (wpAny_field hos hds (x := .none) rfl (wpAny_bind (wpAny_listPart .none ?_))))
  rw [if_neg hstep]
  refine wpAny_bind (wpAny_field hos hds (x := vl) rfl (wpAny_bind (wpAny_listPart pl ?_)))
  refine wpAny_bind (wpAny_field hos hds (x := vu) rfl (wpAny_bind (wpAny_listPart pu (wpAny_pure ?_))))
  first
    | simp only [hsame, Bool.false_eq_true, if_false]
    | refine PySem.W.KFB.if_not hsame ?_
    | (dsimp only
       rw [if_neg (by rw [hsame]; exact Bool.false_ne_true)])
  refine wpAny_bind (m := Builtin.List.listAllItems (.ref b) "must assign iterable to extended slice") ?_
  unfold Builtin.List.listAllItems
  refine wpAny_bind (wpAny_typeOf hb.typeIs ?_)
  first
    | refine PySem.W.KFB.if_so (by decide) ?_
    | rw [if_pos (by decide)]
    | simp only [beq_self_eq_true, Bool.true_or, if_true]
  unfold Builtin.List.listItems
  refine wpAny_bind (wpAny_seqItems e2 rfl (wpAny_pure ?_))
  refine wpAny_bind (wpAny_bind (wpAny_seqItems e rfl (wpAny_pure ?_)))
  refine wpAny_bind (wpAny_of_eq ((sliceIndices_raw (some (a : Int)) (some (c : Int)) none items.size (by simp)).trans (congrArg (pure : Int × Int × Int → Sem (Int × Int × Int)) (bounds_run hac hc))) ?_)
  show wpAny _ _ (if ((1 : Int) == 1) = true then _ else _) _ _ s
  rw [if_pos (by decide)]
  refine wpAny_bind (wpAny_rule ?_)
  first
    | simp only [notLongL hsz, Bool.false_eq_true, if_false]
    | refine PySem.W.KFB.if_not (notLongL hsz) ?_
  first | refine wpAny_bind (wpAny_pure ?_) | skip
  show wpAny _ _ (updateSeq l (fun xs => xs.extract 0 ((a : Int)).toNat ++ new ++ xs.extract (max (a : Int) (c : Int)).toNat xs.size) >>= _) _ _ s
  rw [hmax, Int.toNat_natCast]
  refine wpAny_bind (wpAny_updateSeq (hz := Nat.le_trans (Nat.le_add_right _ _) hsz) (_hz' := hz') e rfl ?_)
  refine wpAny_bind (wpAny_letGo ?_)
  first
    | exact wpAny_bind (wpAny_pure (wpAny_pure ⟨.none, rfl, wpAny_pure h⟩))
    | exact wpAny_pure ⟨.none, rfl, wpAny_pure h⟩
end

section
variable {X : Cx}
/-- xs[a:c] = ys of another list, at the value level: sl is the slice object that was just made -/
theorem set_slice {pins : List (Addr × Obj)} {s : Shared} {σ : St} {H : Hp} {l b sl : Addr} {xs ys : List V} {a c : Int} {vl vu : Value} {Q : Unit → Shared → Prop} (I : Inv X pins σ H s)
    (hH : H l = some (.lst xs)) (hB : H b = some (.lst ys)) (hne : l ≠ b) (hs : s.heap.IsSliceOf sl vl vu .none) (ra : RelV (.int a) vl) (rc : RelV (.int c) vu) (h0 : 0 ≤ a) (hac : a ≤ c) (hc : c ≤ xs.length)
    (hz : xs.length + ys.length ≤ sizeLine) (h : ∀ s', Inv X pins σ (upd H l (.lst (xs.take a.toNat ++ ys ++ xs.drop c.toNat))) s' → Q () s') :
    wpAny (model X.prog X.w) X.A (setItem (.ref l) (.ref sl) (.ref b)) Q X.xe s := by
  obtain ⟨ta, rfl⟩ := ra
  obtain ⟨tc, rfl⟩ := rc
  obtain ⟨z, its, n, r, hl, e⟩ := I.lstM hH
  obtain ⟨z2, its2, n2, r2, hl2, e2⟩ := I.lstM hB
  obtain ⟨a', rfl⟩ := Int.eq_ofNat_of_zero_le h0
  obtain ⟨c', rfl⟩ := Int.eq_ofNat_of_zero_le (Int.le_trans h0 hac)
  simp only [Int.toNat_natCast] at h
  refine setItem_slice (a := a') (c := c') e e2 hne hs (.int _ _) (.int _ _) (by omega) (by rw [List.size_toArray]; omega) (by rw [List.size_toArray, List.size_toArray]; omega) (h _ ?_)
  refine I.lset (its' := its.take a' ++ its2 ++ its.drop c') (t' := s.toks) hH e ?_ (Vals.append (Vals.append (r.take _) r2) (r.drop _)) ?_
  · exact splice_eq its its2 a' c'
  · rw [List.length_append, List.length_append, List.length_take, List.length_drop]
    omega
end
end L2

namespace L2
open PySem PySem.Spec PyProof.Rows

theorem Vals.ints : ∀ {ns : List Int} {us : List Value}, Vals (ns.map V.int) us → IntsAre us ns
  | [], us, h => by
    rw [List.map_nil] at h
    cases h
    exact IntsAre.nil
  | n :: ns, us, h => by
    rw [List.map_cons] at h
    cases h with
    | cons r t =>
      obtain ⟨k, rfl⟩ := r
      exact IntsAre.cons n k (Vals.ints t)
theorem vals_of_ints : ∀ {us : List Value} {ns : List Int}, IntsAre us ns → Vals (ns.map V.int) us
  | _, _, .nil => by rw [List.map_nil]; exact Paired.nil
  | _, _, .cons n t h => by rw [List.map_cons]; exact Paired.cons (show RelV (V.int n) (Value.int n t) from ⟨t, rfl⟩) (vals_of_ints h)
theorem Vals.strs : ∀ {xs : List Str} {us : List Value}, Vals (xs.map V.str) us → StrsAre us xs
  | [], us, h => by
    rw [List.map_nil] at h
    cases h
    exact StrsAre.nil
  | x :: xs, us, h => by
    rw [List.map_cons] at h
    cases h with
    | cons r t =>
      obtain ⟨k, rfl⟩ := r
      exact StrsAre.cons x k (Vals.strs t)
theorem vals_of_strs : ∀ {us : List Value} {xs : List Str}, StrsAre us xs → Vals (xs.map V.str) us
  | _, _, .nil => by rw [List.map_nil]; exact Paired.nil
  | _, _, .cons x t h => by rw [List.map_cons]; exact Paired.cons (show RelV (V.str x) (Value.str x t) from ⟨t, rfl⟩) (vals_of_strs h)
theorem Vals.bls : ∀ {bs : List Bool} {us : List Value}, Vals (bs.map V.bl) us → us = bs.map Value.bool
  | [], us, h => by
    rw [List.map_nil] at h
    cases h
    rfl
  | b :: bs, us, h => by
    rw [List.map_cons] at h
    cases h with
    | cons r t =>
      cases r
      rw [Vals.bls t, List.map_cons]
theorem Vals.ref1 {a : Addr} {us : List Value} (r : Vals [V.ref a] us) : us = [Value.ref a] := by
  cases r with
  | cons r t =>
    cases t
    cases r
    rfl
theorem Vals.int2 {i j : Int} {us : List Value} (r : Vals [V.int i, V.int j] us) : ∃ t u, us = [Value.int i t, Value.int j u] := by
  cases r with
  | cons r t =>
    cases t with
    | cons r2 t2 =>
      cases t2
      obtain ⟨t, rfl⟩ := r
      obtain ⟨u, rfl⟩ := r2
      exact ⟨t, u, rfl⟩

/-! ### the library's walks over a list of ints, kept objects alone -/
section
variable {prog : Program} {w : World} {A : Around} {E : Value → Shared → Prop} {s : Shared} {l : Addr} {its : List Value} {ns : List Int} {Q : Value → Shared → Prop}
theorem sum_raw (hh : A.handled = none) (hl : s.heap.IsList l its.toArray) (hi : IntsAre its ns)
    (h : ∀ h' tk t', (∀ b o, s.heap.get? b = some o → h'.get? b = some o) → Q (.int ns.sum t') { s with heap := h', toks := tk }) : wpAny (model prog w) A (call (.builtin "sum") [.ref l]) Q E s := by
  obtain ⟨xs, e⟩ := hi.allInts.items
  have hn : numsOf (intItems xs).toList = ns := by rw [← e]; exact hi.numsOf
  rw [nums_intItems] at hn
  rw [e] at hl
  refine PySem.sum_intListG hh hl fun h' tk t' hk => ?_
  have := h h' tk t' hk
  rw [preSum_eq, List.take_of_length_le (by simp), hn]; exact this
theorem max_raw (hh : A.handled = none) (hl : s.heap.IsList l its.toArray) (hi : IntsAre its ns) (hne : 0 < ns.length)
    (h : ∀ h' tk M t', (∀ b o, s.heap.get? b = some o → h'.get? b = some o) → M ∈ ns → (∀ a, a ∈ ns → a ≤ M) → Q (.int M t') { s with heap := h', toks := tk }) : wpAny (model prog w) A (call (.builtin "max") [.ref l]) Q E s := by
  obtain ⟨xs, e⟩ := hi.allInts.items
  have hn : numsOf (intItems xs).toList = ns := by rw [← e]; exact hi.numsOf
  rw [nums_intItems] at hn
  subst hn
  rw [e] at hl
  have hsz : 0 < xs.size := by simpa using hne
  refine PySem.max_intList hh hl hsz fun v h' tk hv hk => ?_
  obtain ⟨t, rfl⟩ := intItems_at hv
  obtain ⟨h1, h2⟩ := argBest_gt (numAt xs) (xs.size - 1)
  refine h h' tk _ t hk ?_ fun a ha => ?_
  · rw [numAt_eq]; exact PySem.getD_mem (by rw [List.length_map, Array.length_toList]; omega)
  · obtain ⟨j, hj, rfl⟩ := mem_getD ha
    rw [List.length_map, Array.length_toList] at hj
    rw [← numAt_eq]; exact h2 j (by omega)
theorem min_raw (hh : A.handled = none) (hl : s.heap.IsList l its.toArray) (hi : IntsAre its ns) (hne : 0 < ns.length)
    (h : ∀ h' tk M t', (∀ b o, s.heap.get? b = some o → h'.get? b = some o) → M ∈ ns → (∀ a, a ∈ ns → M ≤ a) → Q (.int M t') { s with heap := h', toks := tk }) : wpAny (model prog w) A (call (.builtin "min") [.ref l]) Q E s := by
  obtain ⟨xs, e⟩ := hi.allInts.items
  have hn : numsOf (intItems xs).toList = ns := by rw [← e]; exact hi.numsOf
  rw [nums_intItems] at hn
  subst hn
  rw [e] at hl
  have hsz : 0 < xs.size := by simpa using hne
  refine PySem.min_intList hh hl hsz fun v h' tk hv hk => ?_
  obtain ⟨t, rfl⟩ := intItems_at hv
  obtain ⟨h1, h2⟩ := argBest_lt (numAt xs) (xs.size - 1)
  refine h h' tk _ t hk ?_ fun a ha => ?_
  · rw [numAt_eq]; exact PySem.getD_mem (by rw [List.length_map, Array.length_toList]; omega)
  · obtain ⟨j, hj, rfl⟩ := mem_getD ha
    rw [List.length_map, Array.length_toList] at hj
    rw [← numAt_eq]; exact h2 j (by omega)
end

/-! ### the calls, by values (CallR of 03t; MtR of 06l) -/
section
variable {X : Cx}
/-- sum(xs) of a list of ints -/
def rSum (K : PySem.W.Frag) : List V → Hp → VK → Prop := fun vs H Q => ∃ (a : Addr) (ns : List Int), vs = [V.ref a] ∧ SqL K H a (ns.map V.int) ∧ Q (.int ns.sum) H
/-- max(xs), min(xs) of a list of ints -/
def rMax (K : PySem.W.Frag) : List V → Hp → VK → Prop := fun vs H Q => ∃ (a : Addr) (ns : List Int), vs = [V.ref a] ∧ SqL K H a (ns.map V.int) ∧ 0 < ns.length ∧ ∀ m, m ∈ ns → (∀ y, y ∈ ns → y ≤ m) → Q (.int m) H
def rMin (K : PySem.W.Frag) : List V → Hp → VK → Prop := fun vs H Q => ∃ (a : Addr) (ns : List Int), vs = [V.ref a] ∧ SqL K H a (ns.map V.int) ∧ 0 < ns.length ∧ ∀ m, m ∈ ns → (∀ y, y ∈ ns → m ≤ y) → Q (.int m) H
theorem cr_sum (hc : X.calm = true) : CallR X (.builtin "sum") (rSum X.K) := by
  intro pins s σ H vs us Q I r h
  obtain ⟨a, ns, rfl, hs, q⟩ := h
  obtain ⟨its, rv, hl, _⟩ := I.list hs
  rw [Vals.ref1 r]
  exact sum_raw (I.ok.hd hc) hl.isList rv.ints fun h' tk t' hk => ⟨.int _, H, I.kept hk, ⟨_, rfl⟩, q⟩
theorem cr_max (hc : X.calm = true) : CallR X (.builtin "max") (rMax X.K) := by
  intro pins s σ H vs us Q I r h
  obtain ⟨a, ns, rfl, hs, hne, q⟩ := h
  obtain ⟨its, rv, hl, _⟩ := I.list hs
  rw [Vals.ref1 r]
  exact max_raw (I.ok.hd hc) hl.isList rv.ints hne fun h' tk m t' hk h1 h2 => ⟨.int _, H, I.kept hk, ⟨_, rfl⟩, q m h1 h2⟩
theorem cr_min (hc : X.calm = true) : CallR X (.builtin "min") (rMin X.K) := by
  intro pins s σ H vs us Q I r h
  obtain ⟨a, ns, rfl, hs, hne, q⟩ := h
  obtain ⟨its, rv, hl, _⟩ := I.list hs
  rw [Vals.ref1 r]
  exact min_raw (I.ok.hd hc) hl.isList rv.ints hne fun h' tk m t' hk h1 h2 => ⟨.int _, H, I.kept hk, ⟨_, rfl⟩, q m h1 h2⟩

/-! sorted, sort (fewer than 64 items: the library's own bound) -/
def rSorted (K : PySem.W.Frag) : List V → Hp → VK → Prop := fun vs H Q => ∃ (a : Addr) (ns : List Int), vs = [V.ref a] ∧ SqL K H a (ns.map V.int) ∧ ns.length < 64 ∧
  ∀ (ns' : List Int) (p : Addr), ns'.Perm ns → ns'.Pairwise (· ≤ ·) → H p = none → Q (.ref p) (upd H p (.lst (ns'.map V.int)))
def rSortedS (K : PySem.W.Frag) : List V → Hp → VK → Prop := fun vs H Q => ∃ (a : Addr) (xs : List Str), vs = [V.ref a] ∧ SqL K H a (xs.map V.str) ∧ xs.length < 64 ∧
  ∀ (ys : List Str) (p : Addr), ys.Perm xs → sortedS ys = true → H p = none → Q (.ref p) (upd H p (.lst (ys.map V.str)))
theorem small64 {n : Nat} (h : n < 64) : n ≤ sizeLine := by rw [sizeLine_eq]; omega
theorem cr_sorted : CallR X (.builtin "sorted") (rSorted X.K) := by
  intro pins s σ H vs us Q I r h
  obtain ⟨a, ns, rfl, hs, h64, q⟩ := h
  obtain ⟨its, rv, hl, _⟩ := I.list hs
  rw [Vals.ref1 r]
  have hi := rv.ints
  refine PyProof.Rows.sorted_ints hl.isList hi (by rw [hi.length]; exact h64) fun out ns' h1 h2 h3 => ?_
  obtain ⟨ep, he'⟩ := PyProof.Rows.sortedAll_at s.heap its out
  have hlen : (ns'.map V.int).length ≤ sizeLine := by rw [List.length_map, h2.length_eq]; exact small64 h64
  exact ⟨.ref _, upd H (s.heap.objs.size + 1) (.lst (ns'.map V.int)), I.laid (t' := s.toks) (fun _ _ => PyProof.Rows.sortedAll_old) (Nat.le_succ _) ⟨hlen, out.toList, ep, vals_of_ints h1, he'⟩, rfl, q ns' _ h2 h3 (I.hok.fresh (Nat.le_succ _))⟩
theorem cr_sortedS : CallR X (.builtin "sorted") (rSortedS X.K) := by
  intro pins s σ H vs us Q I r h
  obtain ⟨a, xs, rfl, hs, h64, q⟩ := h
  obtain ⟨its, rv, hl, _⟩ := I.list hs
  rw [Vals.ref1 r]
  have hlen0 := rv.length
  rw [List.length_map] at hlen0
  refine PyProof.Rows.sorted_strs hl.isList rv.strs (by rw [← hlen0]; exact h64) fun out ys h1 h2 h3 => ?_
  obtain ⟨ep, he'⟩ := PyProof.Rows.sortedAll_at s.heap its out
  have hlen : (ys.map V.str).length ≤ sizeLine := by rw [List.length_map, h2.length_eq]; exact small64 h64
  exact ⟨.ref _, upd H (s.heap.objs.size + 1) (.lst (ys.map V.str)), I.laid (t' := s.toks) (fun _ _ => PyProof.Rows.sortedAll_old) (Nat.le_succ _) ⟨hlen, out.toList, ep, vals_of_strs h1, he'⟩, rfl, q ys _ h2 h3 (I.hok.fresh (Nat.le_succ _))⟩
/-- xs.sort(), ints -/
def rSort : V → List V → Hp → VK → Prop := fun x xs H Q => ∃ (a : Addr) (ns : List Int), x = V.ref a ∧ xs = [] ∧ H a = some (.lst (ns.map V.int)) ∧ ns.length < 64 ∧
  ∀ ns' : List Int, ns'.Perm ns → ns'.Pairwise (· ≤ ·) → Q .non (upd H a (.lst (ns'.map V.int)))
theorem mt_sort : MtR X "list.sort" rSort := by
  intro pins s σ H x xs v us Q I rx rxs h
  obtain ⟨a, ns, rfl, rfl, ha, h64, q⟩ := h
  cases rx
  cases rxs
  obtain ⟨hz, its, n, rv, hob⟩ := I.hok a _ ha
  have hi := rv.ints
  refine wpAny_call_entry PyProof.Rows.slot_list_sort ⟨_, hob, rfl⟩ PyProof.Rows.entry_list_sort
    (PyProof.Rows.list_sort_tree hob hi (by rw [hi.length]; exact h64) fun out ns' h1 h2 h3 => ⟨.none, rfl, ?_⟩) (PyProof.Rows.args_list_sort _)
  obtain ⟨ep, he'⟩ := PyProof.Rows.sortedHeap_at (vs := its) (out := out) hob
  have hlen : (ns'.map V.int).length ≤ sizeLine := by rw [List.length_map, h2.length_eq]; exact small64 h64
  refine ⟨.non, upd H a (.lst (ns'.map V.int)), I.write (e := a) (t' := s.toks) (by rw [ha]; trivial) (.inl rfl) (fun b u hb hu => ?_) ⟨_, he'⟩ ⟨hlen, out.toList, ep, vals_of_ints h1, he'⟩, rfl, q ns' h2 h3⟩
  rw [PyProof.Rows.sortedHeap_old hb (Heap.lt_size hu)]; exact hu
end

/-! ### list.index, flat items -/
section
variable {X : Cx}
def rIndex (K : PySem.W.Frag) : V → List V → Hp → VK → Prop := fun x xs H Q => ∃ (a : Addr) (ys : List V) (y : V) (j : Nat) (z : V), x = V.ref a ∧ xs = [y] ∧ SqL K H a ys ∧ flatV y = true ∧ ys.all flatV = true ∧ ys[j]? = some z ∧ eqV z y = true ∧
  (∀ (m : Nat) (z' : V), m < j → ys[m]? = some z' → eqV z' y = false) ∧ Q (.int (j : Nat)) H
theorem flat_at {ys : List V} (f : ys.all flatV = true) {j : Nat} {z : V} (h : ys[j]? = some z) : flatV z = true := List.all_eq_true.mp f z (List.mem_of_getElem? h)
theorem mt_index : MtR X "list.index" (rIndex X.K) := by
  intro pins s σ H x xs v us Q I rx rxs h
  obtain ⟨a, ys, y, j, z, rfl, rfl, hs, fy, fys, hz, hzj, hno, q⟩ := h
  cases rx
  cases rxs with
  | cons ry rt =>
    rename_i uy ut
    cases rt
    obtain ⟨its, rv, ⟨⟨cls, dd, data, sl⟩, n, ho, hc, hdn, hd⟩, hlen⟩ := I.list hs
    simp only at hc hd
    subst hc hd
    obtain ⟨u, hu, ru⟩ := rv.get hz
    obtain ⟨hjl, hje⟩ := List.getElem?_eq_some_iff.mp hu
    have hvl := rv.length
    have hj : j < its.toArray.size := by simpa using hjl
    have hsl := sizeLine_eq
    refine call_meets PySem.F.slot_list_index ⟨_, ho, rfl⟩ PySem.F.entry_list_index (PySem.F.args_list_index_2 _ _)
      (SeqAt.list_indexAt a its.toArray n dd sl uy (eqU y) j hj (by omega) ?_ ?_) ⟨ho, fun u' hu' => mem_eqAt ry fy rv fys u' (by simpa using hu'), ?_⟩
    · have e1 : its.toArray[j] = u := by simpa using hje
      rw [e1, eqU_of ru (flat_at fys hz)]
      exact hzj
    · intro m hm hmj
      have hml : m < its.length := by simpa using hm
      have hmy : m < ys.length := by omega
      have hy' : ys[m]? = some ys[m] := List.getElem?_eq_getElem hmy
      obtain ⟨u2, hu2, ru2⟩ := rv.get hy'
      obtain ⟨_, hme⟩ := List.getElem?_eq_some_iff.mp hu2
      have e1 : its.toArray[m] = u2 := by simpa using hme
      rw [e1, eqU_of ru2 (flat_at fys hy')]
      exact hno m _ hmj hy'
    · exact ⟨.int (j : Nat), H, I.tok _, ⟨_, rfl⟩, q⟩
end

/-! ### type(x) of an own instance; is, is not of a module's class -/
section
variable {X : Cx}
theorem cr_type : CallR X (.type "type") (fun xs H Q => ∃ a C dx fs, xs = [V.ref a] ∧ H a = some (.ins C dx fs) ∧ Q (.ref C) H) := by
  intro pins s σ H xs us Q I r h
  obtain ⟨a, C, dx, fs, rfl, ha, q⟩ := h
  rw [Vals.ref1 r]
  obtain ⟨mA, O, _⟩ := ins_get I.hok ha
  obtain ⟨od, J, _⟩ := O.look
  exact PySem.W.kto_own J ⟨.ref C, H, I, rfl, q⟩
/-- an object of the module whose class is no tuple: a class of the text (makesIn says that its type is a type's heir) -/
theorem cls_there {K : PySem.W.Frag} {C : Addr} (h : PySem.W.makesIn K C = true) : ∃ o, K.lookup C = some o ∧ o.cls ≠ .type "tuple" := by
  unfold PySem.W.makesIn at h
  split at h
  · rename_i oc od cd sl ho
    refine ⟨_, ho, fun e => ?_⟩
    rw [Bool.and_eq_true] at h
    have h2 : PySem.W.instIn K (.ref C) (.type "type") = some true := beq_iff_eq.mp h.2
    have e2 : oc = .type "tuple" := e
    have h3 : PySem.W.instIn K (.ref C) (.type "type") = PySem.W.subIn K oc (.type "type") := by
      show ((K.lookup C).map (fun o => o.cls)).bind (fun t => PySem.W.subIn K t (.type "type")) = _
      rw [ho]
      all_goals rfl
    rw [h3, e2] at h2
    have h4 : PySem.W.subIn K (.type "tuple") (.type "type") = some false := by
      show (fastBuiltinMro "tuple").map (·.contains (.type "type")) = some false
      decide +kernel
    rw [h4] at h2
    cases h2
  · cases h
theorem op_is_cls : OpR X (compareOp .Is) (fun x y H Q => ∃ a b, x = V.ref a ∧ y = V.ref b ∧ (a = b ∨ (PySem.W.makesIn X.K a = true ∧ PySem.W.makesIn X.K b = true)) ∧ Q (.bl (decide (a = b))) H) := by
  intro pins s σ H x y v u Q I rx ry h
  obtain ⟨a, b, rfl, rfl, hab, q⟩ := h
  cases rx
  cases ry
  by_cases z : a = b
  · subst z
    exact wpAny_is_ref_self ⟨.bl _, H, I, by simp [RelV], q⟩
  · rcases hab with e | ⟨h1, h2⟩
    · exact absurd e z
    · obtain ⟨o1, e1, n1⟩ := cls_there h1
      obtain ⟨o2, e2, _⟩ := cls_there h2
      exact wpAny_is_ref_other z (I.kIn _ _ e1) (I.kIn _ _ e2) n1 ⟨.bl _, H, I, by simp [RelV, z], q⟩
theorem op_isnot_cls : OpR X (compareOp .IsNot) (fun x y H Q => ∃ a b, x = V.ref a ∧ y = V.ref b ∧ (a = b ∨ (PySem.W.makesIn X.K a = true ∧ PySem.W.makesIn X.K b = true)) ∧ Q (.bl (!decide (a = b))) H) := by
  intro pins s σ H x y v u Q I rx ry h
  obtain ⟨a, b, rfl, rfl, hab, q⟩ := h
  cases rx
  cases ry
  by_cases z : a = b
  · subst z
    exact wpAny_isNot_ref_self ⟨.bl _, H, I, by simp [RelV], q⟩
  · rcases hab with e | ⟨h1, h2⟩
    · exact absurd e z
    · obtain ⟨o1, e1, n1⟩ := cls_there h1
      obtain ⟨o2, e2, _⟩ := cls_there h2
      exact wpAny_isNot_ref_other z (I.kIn _ _ e1) (I.kIn _ _ e2) n1 ⟨.bl _, H, I, by simp [RelV, z], q⟩
end

/-! ### any(xs), all(xs) of a list of bools -/
theorem iter_any {prog : Program} {w : World} {A : Around} {E : Value → Shared → Prop} {s : Shared} {l : Addr} {items : Array Value} {Q : Value → Shared → Prop} (hl : s.heap.IsList l items)
    (h : ∀ s₂ : Shared, s₂ = { s with heap := s.heap.push { cls := .type "list_iterator", data := .fields #[.ref l, .int 0 0] } } →
      (s₂.heap.IsListIter s.heap.objs.size l 0 ∧ s₂.heap.IsList l items) → l ≠ s.heap.objs.size → Q (.ref s.heap.objs.size) s₂) : wpAny (model prog w) A (pyIter (.ref l)) Q E s := by
  have hlt : l < s.heap.objs.size := by obtain ⟨_, e, _⟩ := hl; exact Heap.lt_size e
  exact wpAny_pyIter_list hl (h _ rfl ⟨⟨_, Heap.get?_push_size _ rfl, rfl, rfl⟩, hl.push _⟩ (Nat.ne_of_lt hlt))
theorem truth_bools {prog : Program} {w : World} {A : Around} {bs : List Bool} {its : List Value} (e : its = bs.map Value.bool) :
    TruthOf prog w A (fun i v => its.toArray[i]? = some v) (fun i => bs.getD i false) := fun i v s Q E hv hq => by
  have hv' : its[i]? = some v := by simpa using hv
  rw [e, List.getElem?_map] at hv'
  obtain ⟨b, hb, rfl⟩ := Option.map_eq_some_iff.mp hv'
  have hg : bs.getD i false = b := by rw [List.getD_eq_getElem?_getD, hb] <;> rfl
  have hq' : Q (bs.getD i false) s := hq
  rw [hg] at hq'
  exact wpAny_truthy_bool hq'
theorem any_range : ∀ bs : List Bool, (List.range bs.length).any (fun i => bs.getD i false) = bs.any id
  | [] => rfl
  | b :: bs => by
    rw [List.length_cons, List.range_succ_eq_map, List.any_cons, List.any_map, List.any_cons, ← any_range bs]
    all_goals rfl
theorem all_range : ∀ bs : List Bool, (List.range bs.length).all (fun i => bs.getD i false) = bs.all id
  | [] => rfl
  | b :: bs => by
    rw [List.length_cons, List.range_succ_eq_map, List.all_cons, List.all_map, List.all_cons, ← all_range bs]
    all_goals rfl
section
variable {X : Cx}
def rAny (K : PySem.W.Frag) : List V → Hp → VK → Prop := fun vs H Q => ∃ (a : Addr) (bs : List Bool), vs = [V.ref a] ∧ SqL K H a (bs.map V.bl) ∧ Q (.bl (bs.any id)) H
def rAll (K : PySem.W.Frag) : List V → Hp → VK → Prop := fun vs H Q => ∃ (a : Addr) (bs : List Bool), vs = [V.ref a] ∧ SqL K H a (bs.map V.bl) ∧ Q (.bl (bs.all id)) H
theorem cr_any (hc : X.calm = true) : CallR X (.builtin "any") (rAny X.K) := by
  intro pins s σ H vs us Q I r h
  obtain ⟨a, bs, rfl, hs, q⟩ := h
  obtain ⟨its, rv, hl, _⟩ := I.list hs
  rw [Vals.ref1 r]
  have hb := rv.bls
  refine call_any_walk (iter_any hl.isList fun s₂ e2 st hne => ?_)
  subst e2
  refine ⟨_, _, _, _, _, _, _, rfl, Walks.list (A := X.A.in1) (I.ok.hd hc) _ a hne its.toArray, st, truth_bools hb, fun h' tk hk => ?_⟩
  refine ⟨.bl _, H, I.kept fun b o eo => hk b o (fun hmem => ?_) (Heap.get?_push_of_some _ eo), ?_, q⟩
  · rcases List.mem_cons.mp hmem with e1 | hmem
    · exact absurd (e1 ▸ Heap.lt_size eo) (Nat.lt_irrefl _)
    · cases hmem
  · show Value.bool _ = Value.bool _
    rw [← any_range, hb, List.size_toArray, List.length_map]
theorem cr_all (hc : X.calm = true) : CallR X (.builtin "all") (rAll X.K) := by
  intro pins s σ H vs us Q I r h
  obtain ⟨a, bs, rfl, hs, q⟩ := h
  obtain ⟨its, rv, hl, _⟩ := I.list hs
  rw [Vals.ref1 r]
  have hb := rv.bls
  refine call_all_walk (iter_any hl.isList fun s₂ e2 st hne => ?_)
  subst e2
  refine ⟨_, _, _, _, _, _, _, rfl, Walks.list (A := X.A.in1) (I.ok.hd hc) _ a hne its.toArray, st, truth_bools hb, fun h' tk hk => ?_⟩
  refine ⟨.bl _, H, I.kept fun b o eo => hk b o (fun hmem => ?_) (Heap.get?_push_of_some _ eo), ?_, q⟩
  · rcases List.mem_cons.mp hmem with e1 | hmem
    · exact absurd (e1 ▸ Heap.lt_size eo) (Nat.lt_irrefl _)
    · cases hmem
  · show Value.bool _ = Value.bool _
    rw [← all_range, hb, List.size_toArray, List.length_map]
end

/-! ### == and != of data at any depth: none, bools, ints, texts, lists, tuples -/
mutual
inductive Dp (K : PySem.W.Frag) (H : Hp) : V → PyData → Prop
  | non : Dp K H .non .none
  | bl (b : Bool) : Dp K H (.bl b) (.bool b)
  | int (i : Int) : Dp K H (.int i) (.int i)
  | str (x : Str) : Dp K H (.str x) (.str x)
  | lst {a : Addr} {xs : List V} {ds : List PyData} : SqL K H a xs → DpAll K H xs ds → Dp K H (.ref a) (.list ds)
  | tup {a : Addr} {xs : List V} {ds : List PyData} : SqT K H a xs → DpAll K H xs ds → Dp K H (.ref a) (.tuple ds)
inductive DpAll (K : PySem.W.Frag) (H : Hp) : List V → List PyData → Prop
  | nil : DpAll K H [] []
  | cons {v : V} {vs : List V} {d : PyData} {ds : List PyData} : Dp K H v d → DpAll K H vs ds → DpAll K H (v :: vs) (d :: ds)
end
section
variable {X : Cx} {pins : List (Addr × Obj)} {σ : St} {H : Hp} {s : Shared}
mutual
theorem Dp.reads (I : Inv X pins σ H s) : ∀ (d : PyData) (v : V) (u : Value), Dp X.K H v d → RelV v u → ∃ as, Reads s.heap u d as
  | .none, _, _, h, r => by
    cases h
    cases r
    exact ⟨_, Reads.none⟩
  | .bool b, _, _, h, r => by
    cases h
    cases r
    exact ⟨_, Reads.bool b⟩
  | .int i, _, _, h, r => by
    cases h
    obtain ⟨t, rfl⟩ := r
    exact ⟨_, Reads.int i t⟩
  | .str x, _, _, h, r => by
    cases h
    obtain ⟨t, rfl⟩ := r
    exact ⟨_, Reads.str x t⟩
  | .list ds, _, _, h, r => by
    cases h with
    | lst hs ha =>
      cases r
      obtain ⟨its, rv, ⟨o, n, ho, hc, _, hd⟩, _⟩ := I.list hs
      obtain ⟨as, hr⟩ := Dp.readsAll I ds _ its ha rv
      exact ⟨_, Reads.list ho hc hd hr⟩
  | .tuple ds, _, _, h, r => by
    cases h with
    | tup hs ha =>
      cases r
      obtain ⟨its, rv, ⟨o, ho, hc, n, hd⟩, _⟩ := I.tuple hs
      obtain ⟨as, hr⟩ := Dp.readsAll I ds _ its ha rv
      exact ⟨_, Reads.tuple ho hc hd hr⟩
  | .dict _, _, _, h, _ => by cases h
theorem Dp.readsAll (I : Inv X pins σ H s) : ∀ (ds : List PyData) (vs : List V) (us : List Value), DpAll X.K H vs ds → Vals vs us → ∃ as, ReadsAll s.heap us ds as
  | [], _, _, h, r => by
    cases h
    cases r
    exact ⟨_, ReadsAll.nil⟩
  | d :: ds, _, _, h, r => by
    cases h with
    | cons h1 h2 =>
      cases r with
      | cons r1 r2 =>
        obtain ⟨as, q1⟩ := Dp.reads I d _ _ h1 r1
        obtain ⟨bs, q2⟩ := Dp.readsAll I ds _ _ h2 r2
        exact ⟨_, ReadsAll.cons q1 q2⟩
end
end
section
variable {X : Cx}
def rEqD (K : PySem.W.Frag) : R2 := fun x y H Q => ∃ d e, Dp K H x d ∧ Dp K H y e ∧ SeqAt.shaped d = true ∧ SeqAt.shaped e = true ∧ Q (.bl (PyData.eqv d e)) H
def rNeD (K : PySem.W.Frag) : R2 := fun x y H Q => ∃ d e, Dp K H x d ∧ Dp K H y e ∧ SeqAt.shaped d = true ∧ SeqAt.shaped e = true ∧ Q (.bl (!PyData.eqv d e)) H
theorem op_eqD (hu : X.A.units + 64 < cLine) : OpR X (compareOp .Eq) (rEqD X.K) := by
  intro pins s σ H x y v u Q I rx ry h
  obtain ⟨d, e, hd, he, sd, se, q⟩ := h
  obtain ⟨as, r1⟩ := Dp.reads I d x v hd rx
  obtain ⟨bs, r2⟩ := Dp.reads I e y u he ry
  exact SeqAt.compareEq_shaped r1 r2 sd se hu ⟨.bl _, H, I, rfl, q⟩
theorem op_neD (hu : X.A.units + 64 < cLine) : OpR X (compareOp .NotEq) (rNeD X.K) := by
  intro pins s σ H x y v u Q I rx ry h
  obtain ⟨d, e, hd, he, sd, se, q⟩ := h
  obtain ⟨as, r1⟩ := Dp.reads I d x v hd rx
  obtain ⟨bs, r2⟩ := Dp.reads I e y u he ry
  exact SeqAt.compareNe_shaped r1 r2 sd se hu ⟨.bl _, H, I, rfl, q⟩
end
end L2

namespace L2
open PySem PySem.Spec PyProof.Rows
abbrev CellAt (h : Heap) (c : Addr) (v : Option Value) : Prop := h.IsCell c v
def relS (scope sc : Scope) : Scope :=
  { scope with names := scope.names.map fun (n, k) => if (k == .free && sc.kind == .function && sc.names.lookup n == some .cell) then (n, .cell) else (n, k) }

def cloFrom (cells : List (Str × Addr)) : List (Str × NameKind) → List (Str × Addr) → List (Str × Addr)
  | [], acc => acc
  | (n, k) :: r, acc => if k == .free then cloFrom cells r ((n, (cells.lookup n).getD 0) :: acc) else cloFrom cells r acc

theorem closure_loop (env : Env) (f : Str × NameKind → List (Str × Addr) → Sem (ForInStep (List (Str × Addr))))
    (hf : ∀ n k c, f (n, k) c = if k == .free then (do let a ← cellOf env n; pure (.yield ((n, a) :: c))) else pure (.yield c)) :
    ∀ (names : List (Str × NameKind)) (acc : List (Str × Addr)), (∀ y ∈ names, y.2 = .free → ∃ c, env.cells.lookup y.1 = some c) → forIn names acc f = pure (cloFrom env.cells names acc)
  | [], acc, _ => by rw [List.forIn_nil]; rfl
  | (n, k) :: r, acc, h => by
    rw [List.forIn_cons, hf]
    have ih := fun acc => closure_loop env f hf r acc fun y hy => h y (List.mem_cons_of_mem _ hy)
    unfold cloFrom
    by_cases hk : (k == NameKind.free) = true
    · rw [if_pos hk, if_pos hk]
      obtain ⟨c, hc⟩ := h (n, k) List.mem_cons_self (by simpa using hk)
      have e : cellOf env n = pure c := by unfold cellOf; rw [hc]
      rw [e]
      have e2 : (env.cells.lookup n).getD 0 = c := by rw [hc]; rfl
      rw [e2]
      exact ih _
    · rw [if_neg hk, if_neg hk]
      exact ih _
theorem closure_ok {scope : Scope} {env : Env} (h : ∀ y ∈ scope.names, y.2 = .free → ∃ c, env.cells.lookup y.1 = some c) : closureFor scope env = pure (cloFrom env.cells scope.names []) := by
  simp only [closureFor]
  rw [closure_loop env _ (fun n k c => rfl) scope.names [] h]
  rfl

theorem mem_lookup {α : Type} : ∀ {l : List (Str × α)} {n : Str} {c : α}, (n, c) ∈ l → ∃ c', l.lookup n = some c'
  | (k, v) :: r, n, c, h => by
    rw [List.lookup_cons]
    cases hb : n == k with
    | true => exact ⟨_, rfl⟩
    | false =>
      rcases List.mem_cons.mp h with e | h
      · cases e; simp at hb
      · exact mem_lookup h

theorem cloFrom_mem {cells : List (Str × Addr)} : ∀ {names : List (Str × NameKind)} {acc : List (Str × Addr)} {n : Str} {c : Addr}, (n, c) ∈ cloFrom cells names acc → (n, c) ∈ acc ∨ ((n, .free) ∈ names ∧ c = (cells.lookup n).getD 0)
  | [], _, _, _, h => .inl h
  | (m, k) :: r, acc, n, c, h => by
    unfold cloFrom at h
    split at h
    · rename_i hk
      have hk : k = .free := by simpa using hk
      rcases cloFrom_mem h with h | ⟨h1, h2⟩
      · rcases List.mem_cons.mp h with e | h
        · cases e; exact .inr ⟨hk ▸ List.mem_cons_self, rfl⟩
        · exact .inl h
      · exact .inr ⟨List.mem_cons_of_mem _ h1, h2⟩
    · rcases cloFrom_mem h with h | ⟨h1, h2⟩
      · exact .inl h
      · exact .inr ⟨List.mem_cons_of_mem _ h1, h2⟩
theorem cloFrom_acc {cells : List (Str × Addr)} : ∀ {names : List (Str × NameKind)} {acc : List (Str × Addr)} {p : Str × Addr}, p ∈ acc → p ∈ cloFrom cells names acc
  | [], _, _, h => h
  | (m, k) :: r, acc, p, h => by
    unfold cloFrom
    split
    · exact cloFrom_acc (List.mem_cons_of_mem _ h)
    · exact cloFrom_acc h
theorem cloFrom_has {cells : List (Str × Addr)} : ∀ {names : List (Str × NameKind)} {acc : List (Str × Addr)} {n : Str}, (n, .free) ∈ names → (n, (cells.lookup n).getD 0) ∈ cloFrom cells names acc
  | (m, k) :: r, acc, n, h => by
    unfold cloFrom
    rcases List.mem_cons.mp h with e | h
    · cases e
      exact cloFrom_acc List.mem_cons_self
    · split
      · exact cloFrom_has h
      · exact cloFrom_has h

theorem cells_mem : ∀ {names : List (Str × NameKind)} {h : Heap} {acc : List (Str × Addr)} {x : Str} {c : Addr}, (x, c) ∈ cellsFrom h.objs.size names acc →
    (x, c) ∈ acc ∨ ((x, .cell) ∈ names ∧ h.objs.size ≤ c ∧ CellAt (pushCells h names) c none)
  | [], _, _, _, _, h => .inl h
  | (n, k) :: r, h, acc, x, c, hm => by
    unfold cellsFrom at hm
    unfold pushCells
    split at hm
    · rename_i hk
      rw [if_pos hk]
      have hk : k = .cell := by simpa using hk
      rw [← Heap.size_push h { cls := .type "cell", data := .cell none }] at hm
      rcases cells_mem hm with hm | ⟨h1, h2, h3⟩
      · rcases List.mem_cons.mp hm with e | hm
        · cases e
          exact .inr ⟨hk ▸ List.mem_cons_self, Nat.le_refl _, _, pushCells_keeps r _ _ _ (Heap.get?_push_size _ rfl), rfl⟩
        · exact .inl hm
      · rw [Heap.size_push] at h2
        exact .inr ⟨List.mem_cons_of_mem _ h1, Nat.le_of_succ_le h2, h3⟩
    · rename_i hk
      rw [if_neg hk]
      rcases cells_mem hm with hm | ⟨h1, h2, h3⟩
      · exact .inl hm
      · exact .inr ⟨List.mem_cons_of_mem _ h1, h2, h3⟩
theorem cells_acc : ∀ {names : List (Str × NameKind)} {n : Nat} {acc : List (Str × Addr)} {p : Str × Addr}, p ∈ acc → p ∈ cellsFrom n names acc
  | [], _, _, _, h => h
  | (m, k) :: r, n, acc, p, h => by
    unfold cellsFrom
    split
    · exact cells_acc (List.mem_cons_of_mem _ h)
    · exact cells_acc h
theorem cells_has : ∀ {names : List (Str × NameKind)} {n : Nat} {acc : List (Str × Addr)} {x : Str}, (x, .cell) ∈ names → ∃ c, (x, c) ∈ cellsFrom n names acc
  | (m, k) :: r, n, acc, x, h => by
    unfold cellsFrom
    rcases List.mem_cons.mp h with e | h
    · cases e
      exact ⟨n, cells_acc List.mem_cons_self⟩
    · split
      · exact cells_has h
      · exact cells_has h
theorem cells_inj : ∀ {names : List (Str × NameKind)} {h : Heap} {acc : List (Str × Addr)} {x y : Str} {c : Addr}, (∀ p ∈ acc, p.2 < h.objs.size) → (∀ x y c, (x, c) ∈ acc → (y, c) ∈ acc → x = y) →
    (x, c) ∈ cellsFrom h.objs.size names acc → (y, c) ∈ cellsFrom h.objs.size names acc → x = y
  | [], _, _, _, _, _, _, hi, h1, h2 => hi _ _ _ h1 h2
  | (n, k) :: r, h, acc, x, y, c, hl, hi, h1, h2 => by
    unfold cellsFrom at h1 h2
    split at h1
    · rename_i hk
      rw [if_pos hk] at h2
      rw [← Heap.size_push h { cls := .type "cell", data := .cell none }] at h1 h2
      refine cells_inj (h := h.push _) (fun p hp => ?_) (fun x y c a b => ?_) h1 h2
      · rw [Heap.size_push]
        rcases List.mem_cons.mp hp with rfl | hp
        · exact Nat.lt_succ_self _
        · exact Nat.lt_succ_of_lt (hl p hp)
      · rcases List.mem_cons.mp a with e | a <;> rcases List.mem_cons.mp b with e' | b
        · cases e; cases e'; rfl
        · cases e; exact absurd (hl _ b) (Nat.lt_irrefl _)
        · cases e'; exact absurd (hl _ a) (Nat.lt_irrefl _)
        · exact hi _ _ _ a b
    · rename_i hk
      rw [if_neg hk] at h2
      exact cells_inj hl hi h1 h2

theorem newEnv_comp {M : Model} {A : Around} {E : Value → Shared → Prop} {s : Shared} {scope : Scope} {globals : Addr} {closure : List (Str × Addr)} {qual : Str} {func : Option Addr} {code : Value} {around : Env} {builtins : Addr} {Q : Env → Shared → Prop}
    (h : Q (newEnv scope s.heap.objs.size globals (cellsFrom (s.heap.objs.size + 1) scope.names closure) qual func code (some around) builtins)
      { s with heap := pushCells (s.heap.push { cls := .type "dict", data := .dict #[] }) scope.names }) :
    wpAny M A (newFunctionEnv scope globals closure [] qual func code (some around) builtins) Q E s := by
  simp only [newFunctionEnv, Option.isSome_some, if_true]
  refine wpAny_bind (wpAny_alloc ?_)
  refine wpAny_bind (wpAny_layCells _ (fun n k c => rfl) scope.names closure _ _ ?_)
  rw [show ({ s with heap := s.heap.push { cls := .type "dict", data := .dict #[] } } : Shared).heap.objs.size = s.heap.objs.size + 1 from Heap.size_push ..]
  rw [List.forIn_nil]
  exact wpAny_bind (wpAny_pure (wpAny_pure h))

/-- every name of the written scope, in the scope that runs -/
theorem lookup_relS {sc : Scope} : ∀ {names : List (Str × NameKind)} {x : Str} {k : NameKind},
    (names.map fun (n, k) => if (k == NameKind.free && sc.kind == .function && sc.names.lookup n == some .cell) then (n, NameKind.cell) else (n, k)).lookup x = some k →
    ∃ k', names.lookup x = some k' ∧ (k = k' ∨ (k' = .free ∧ k = .cell))
  | [], _, _, h => by simp at h
  | (n, k₀) :: r, x, k, h => by
    have ih := @lookup_relS sc r x k
    have h' : List.lookup x ((if (k₀ == NameKind.free && sc.kind == .function && sc.names.lookup n == some .cell) = true then (n, NameKind.cell) else (n, k₀)) :: (r.map _)) = some k := h
    cases hx : x == n with
    | true =>
      simp only [List.lookup_cons, hx]
      by_cases hc : (k₀ == NameKind.free && sc.kind == .function && sc.names.lookup n == some .cell) = true
      · rw [if_pos hc] at h'
        simp only [List.lookup_cons, hx] at h'
        cases h'
        simp only [Bool.and_eq_true, beq_iff_eq] at hc
        exact ⟨k₀, rfl, .inr ⟨hc.1.1, rfl⟩⟩
      · rw [if_neg hc] at h'
        simp only [List.lookup_cons, hx] at h'
        cases h'
        exact ⟨_, rfl, .inl rfl⟩
    | false =>
      simp only [List.lookup_cons, hx]
      by_cases hc : (k₀ == NameKind.free && sc.kind == .function && sc.names.lookup n == some .cell) = true
      · rw [if_pos hc] at h'
        simp only [List.lookup_cons, hx] at h'
        exact ih h'
      · rw [if_neg hc] at h'
        simp only [List.lookup_cons, hx] at h'
        exact ih h'
theorem lookup_relS_keep {sc : Scope} : ∀ {names : List (Str × NameKind)} {x : Str} {k : NameKind}, k ≠ .free → names.lookup x = some k →
    (names.map fun (n, k) => if (k == NameKind.free && sc.kind == .function && sc.names.lookup n == some .cell) then (n, NameKind.cell) else (n, k)).lookup x = some k
  | [], _, _, _, h => by simp at h
  | (n, k₀) :: r, x, k, hk, h => by
    have ih := @lookup_relS_keep sc r x k hk
    show List.lookup x ((if (k₀ == NameKind.free && sc.kind == .function && sc.names.lookup n == some .cell) = true then (n, NameKind.cell) else (n, k₀)) :: (r.map _)) = some k
    cases hx : x == n with
    | true =>
      simp only [List.lookup_cons, hx] at h
      cases h
      have : ¬ (k₀ == NameKind.free && sc.kind == .function && sc.names.lookup n == some .cell) = true := by simp [hk]
      rw [if_neg this]
      simp only [List.lookup_cons, hx]
    | false =>
      simp only [List.lookup_cons, hx] at h
      by_cases hc : (k₀ == NameKind.free && sc.kind == .function && sc.names.lookup n == some .cell) = true
      · rw [if_pos hc]; simp only [List.lookup_cons, hx]; exact ih h
      · rw [if_neg hc]; simp only [List.lookup_cons, hx]; exact ih h

theorem pushCells_size : ∀ (names : List (Str × NameKind)) (h : Heap), h.objs.size ≤ (pushCells h names).objs.size
  | [], _ => Nat.le_refl _
  | (_, k) :: r, h => by
    unfold pushCells
    split
    · refine Nat.le_trans ?_ (pushCells_size r _)
      rw [Heap.size_push]; exact Nat.le_succ _
    · exact pushCells_size r h


/-- the names of a comprehension's block: its own (with their places in N), or captured -/
structure BlkOk (N : List Str) (sc scope : Scope) (own : List (Str × Nat)) : Prop where
  kind : scope.kind = .function
  uniq : ∀ y ∈ scope.names, scope.names.lookup y.1 = some y.2
  ix : ∀ p ∈ own, N[p.2]? = some p.1
  free : ∀ y ∈ scope.names, y.2 = .free → sc.names.lookup y.1 = some .cell ∨ sc.names.lookup y.1 = some .free
  own : ∀ y ∈ scope.names, y.2 = .local ∨ y.2 = .cell → y.1 ∈ own.map (·.1) ∨ y.1 ∉ N
/-- the slots of the block's own names forgotten -/
def wipe (σ : St) : List Nat → St
  | [] => σ
  | v :: vs => (wipe σ vs).set v none
theorem wipe_length (σ : St) : ∀ vs : List Nat, (wipe σ vs).length = σ.length
  | [] => rfl
  | v :: vs => by unfold wipe; rw [List.length_set, wipe_length σ vs]
theorem wipe_some {σ : St} {i : Nat} {x : V} : ∀ {vs : List Nat}, (wipe σ vs)[i]? = some (some x) → σ[i]? = some (some x) ∧ i ∉ vs
  | [], h => ⟨h, by simp⟩
  | v :: vs, h => by
    unfold wipe at h
    by_cases hi : v = i
    · subst hi
      by_cases hv : v < (wipe σ vs).length
      · rw [List.getElem?_set_self hv] at h; cases h
      · rw [List.getElem?_eq_none (by simpa using hv)] at h; cases h
    · rw [List.getElem?_set_ne hi] at h
      obtain ⟨h1, h2⟩ := wipe_some h
      exact ⟨h1, by simp only [List.mem_cons, not_or]; exact ⟨fun e => hi e.symm, h2⟩⟩

/-- the context of a block that starts at s, its iterator's objects at fp -/
abbrev Cx.blk (X : Cx) (s : Shared) (H : Hp) (scope : Scope) (cenv : Env) (fp : List Addr) : Cx := { X with s_0 := s, H_0 := H, env := cenv, outer := X.stack, ex := fp, fn := fun x => scope.names.lookup x == some .cell, pn := [], xe := fun _ _ => False }
section
variable {X : Cx} {pins : List (Addr × Obj)} {σ : St} {H : Hp} {s : Shared}
theorem block_start {scope : Scope} {own : List (Str × Nat)} {fp : List Addr} (I : Inv X pins σ H s) (ok : BlkOk X.N X.env.scope scope own) (hN : X.N.Nodup) (hfp : ∀ b ∈ fp, FpOk X pins H b ∧ b < s.heap.objs.size) :
    Inv (X.blk s H scope (compEnvC scope (cellsFrom (s.heap.objs.size + 1) scope.names (cloFrom X.env.cells scope.names [])) s.heap.objs.size X.env) fp) [] (wipe σ (own.map (·.2))) H { s with heap := pushCells (s.heap.push { cls := .type "dict", data := .dict #[] }) scope.names } := by
  have hfree : ∀ y ∈ scope.names, y.2 = .free → ∃ c, X.env.cells.lookup y.1 = some c := fun y hy e => by
    rcases ok.free y hy e with k | k
    · exact I.ok.has _ (.inl k)
    · exact I.ok.has _ (.inr k)
  generalize hcenv : compEnvC scope (cellsFrom (s.heap.objs.size + 1) scope.names (cloFrom X.env.cells scope.names [])) s.heap.objs.size X.env = cenv
  have kp : ∀ b o, s.heap.get? b = some o → (pushCells (s.heap.push { cls := .type "dict", data := .dict #[] }) scope.names).get? b = some o := fun b o e => pushCells_keeps _ _ _ _ (Heap.get?_push_of_some _ e)
  have hL : cenv.locals = s.heap.objs.size := by rw [← hcenv]; rfl
  have hcl : cenv.cells = cellsFrom (s.heap.objs.size + 1) scope.names (cloFrom X.env.cells scope.names []) := by rw [← hcenv]; rfl
  have hsc : cenv.scope = relS scope X.env.scope := by rw [← hcenv]; rfl
  rw [← Heap.size_push s.heap { cls := .type "dict", data := .dict #[] }] at hcl
  have cm : ∀ {y c}, (y, c) ∈ cloFrom X.env.cells scope.names [] → X.env.cells.lookup y = some c ∧ c < s.heap.objs.size := fun {y c} hm => by
    rcases cloFrom_mem hm with hm | ⟨h1, rfl⟩
    · cases hm
    · obtain ⟨c, hc⟩ := hfree _ h1 rfl
      rw [hc]
      obtain ⟨w, z⟩ := I.cell _ _ hc
      exact ⟨rfl, z.lt⟩
  have mem : ∀ {y c}, cenv.cells.lookup y = some c → (X.env.cells.lookup y = some c ∧ c < s.heap.objs.size) ∨ (s.heap.objs.size + 1 ≤ c ∧ CellAt (pushCells (s.heap.push { cls := .type "dict", data := .dict #[] }) scope.names) c none) := fun {y c} e => by
    rw [hcl] at e
    rcases cells_mem (PySem.mem_of_lookup e) with hm | ⟨_, h2, h3⟩
    · exact .inl (cm hm)
    · rw [Heap.size_push] at h2; exact .inr ⟨h2, h3⟩
  have look : ∀ {y}, scope.names.lookup y = some .free → ∃ c, cenv.cells.lookup y = some c ∧ X.env.cells.lookup y = some c := fun {y} hl => by
    have hy : (y, NameKind.free) ∈ scope.names := PySem.mem_of_lookup hl
    obtain ⟨c', e'⟩ := mem_lookup (cells_acc (names := scope.names) (n := (s.heap.push { cls := .type "dict", data := .dict #[] }).objs.size) (cloFrom_has (cells := X.env.cells) (acc := []) hy))
    rw [← hcl] at e'
    refine ⟨c', e', ?_⟩
    rw [hcl] at e'
    rcases cells_mem (PySem.mem_of_lookup e') with hm | ⟨h1, _, _⟩
    · exact (cm hm).1
    · have := ok.uniq _ h1
      rw [hl] at this; cases this
  have okB : (X.blk s H scope cenv fp).Ok := by
    refine ⟨I.ok.mod, by show cenv.scope.kind = _; rw [hsc]; exact ok.kind, by show cenv.globals = _; rw [← hcenv]; exact I.ok.glob, by show cenv.builtins = _; rw [← hcenv]; exact I.ok.blt, by show s.heap.objs.size ≤ cenv.locals; rw [hL]; exact Nat.le_refl _,
      fun y z c e1 e2 => ?_, fun y hy => ?_, fun y c z e => ?_, I.ok.hd, I.ok.frames, .inl rfl, fun b hb => ⟨?_, fun y c e z => ?_⟩, I.bs, Nat.le_trans I.ok.bsz I.sz, fun b o e hb => ?_, fun b hb z => ?_, I.stack, I.stkFree⟩
    · have e1 : cenv.cells.lookup y = some c := e1
      have e2 : cenv.cells.lookup z = some c := e2
      rw [hcl] at e1 e2
      refine cells_inj (fun p hp => ?_) (fun y z c a b => I.ok.inj y z c (cm a).1 (cm b).1) (PySem.mem_of_lookup e1) (PySem.mem_of_lookup e2)
      rw [Heap.size_push]
      exact Nat.lt_succ_of_lt (cm (y := p.1) (c := p.2) hp).2
    · show ∃ c, cenv.cells.lookup y = some c
      have key : ∀ k, cenv.kindOf y = some k → (k = .cell ∨ k = .free) → ∃ c, cenv.cells.lookup y = some c := fun k hk hk' => by
        unfold Env.kindOf at hk
        rw [hsc] at hk
        obtain ⟨k', e, r⟩ := lookup_relS hk
        have : k' = .cell ∨ k' = .free := by
          rcases r with rfl | ⟨rfl, _⟩
          · exact hk'
          · exact .inr rfl
        rcases this with rfl | rfl
        · obtain ⟨c, hm⟩ := cells_has (n := (s.heap.push { cls := .type "dict", data := .dict #[] }).objs.size) (acc := cloFrom X.env.cells scope.names []) (PySem.mem_of_lookup e)
          obtain ⟨c', e'⟩ := mem_lookup hm
          exact ⟨c', by rw [hcl]; exact e'⟩
        · obtain ⟨c, h1, _⟩ := look e
          exact ⟨c, h1⟩
      rcases hy with hy | hy
      · exact key _ hy (.inl rfl)
      · exact key _ hy (.inr rfl)
    · have z : (scope.names.lookup y == some NameKind.cell) = true := z
      have z : scope.names.lookup y = some .cell := by simpa using z
      have e : cenv.cells.lookup y = some c := e
      rw [hcl] at e
      rcases cells_mem (PySem.mem_of_lookup e) with hm | ⟨_, h2, _⟩
      · rcases cloFrom_mem hm with hm | ⟨h1, _⟩
        · cases hm
        · have q := ok.uniq _ h1
          rw [z] at q; cases q
      · rw [Heap.size_push] at h2
        exact Nat.le_of_succ_le h2
    · show b ≠ cenv.locals
      rw [hL]; exact Nat.ne_of_lt (hfp b hb).2
    · have e : cenv.cells.lookup y = some c := e
      rcases mem e with ⟨h1, _⟩ | ⟨h1, _⟩
      · exact (hfp b hb).1.2.2.2.2.1 y c h1 z
      · have h2 : s.heap.objs.size + 1 ≤ b := by rw [← z]; exact h1
        exact absurd (Nat.lt_of_lt_of_le (hfp b hb).2 (Nat.le_of_succ_le h2)) (Nat.lt_irrefl _)
    · rcases (hfp b hb).1.2.2.2.1 with z | z
      · exact I.ok.noex b o e z
      · exact absurd (Nat.lt_of_lt_of_le (Heap.lt_size e) (Nat.le_trans I.ok.bsz z)) (Nat.lt_irrefl _)
    · rcases List.mem_cons.mp (I.stkSub b z) with z | z
      · exact (hfp b hb).1.2.1 z
      · exact (hfp b hb).1.2.2.1 z
  refine ⟨okB, rfl, I.bare, Un.kept kp, ⟨fun _ => none, ?_, fun i y av e1 e2 e3 => ?_⟩, fun y c e => ?_, ?_, fun y c e => ?_, fun p hp => ?_, I.hok.kept kp, by rw [wipe_length]; exact I.len⟩
  · show Heap.Ns _ cenv.locals _
    rw [hL]
    exact Heap.Ns.keeps (Heap.Ns.new ..) fun b o e => pushCells_keeps _ _ _ _ e
  · obtain ⟨e2, hne⟩ := wipe_some e2
    have hfr : scope.names.lookup y = some .free ∧ (cenv.kindOf y = some .cell ∨ cenv.kindOf y = some .free) := by
      have key : ∀ k, cenv.scope.names.lookup y = some k → k = .local ∨ k = .cell ∨ k = .free → scope.names.lookup y = some .free ∧ (cenv.kindOf y = some .cell ∨ cenv.kindOf y = some .free) := fun k hk hk' => by
        have hk0 := hk
        rw [hsc] at hk
        obtain ⟨k', e, r⟩ := lookup_relS hk
        have no : ¬ (k' = .local ∨ k' = .cell) := fun hh => by
          rcases ok.own _ (PySem.mem_of_lookup e) hh with e' | e'
          · obtain ⟨p, hp, hpy⟩ := List.mem_map.mp e'
            have e3 := ok.ix p hp
            have : p.1 = y := hpy
            rw [this] at e3
            exact hne (List.mem_map.mpr ⟨p, hp, nodup_ix hN e3 e1⟩)
          · exact e' (List.mem_of_getElem? e1)
        rcases r with rfl | ⟨rfl, rfl⟩
        · rcases hk' with rfl | rfl | rfl
          · exact absurd (.inl rfl) no
          · exact absurd (.inr rfl) no
          · exact ⟨e, .inr hk0⟩
        · exact ⟨e, .inl hk0⟩
      have e3 : Vis cenv.scope y := e3
      rcases e3 with e3 | e3 | e3
      · exact key _ e3 (.inl rfl)
      · exact key _ e3 (.inr (.inl rfl))
      · exact key _ e3 (.inr (.inr rfl))
    obtain ⟨m, hn, hl⟩ := I.loc
    have hvis : Vis X.env.scope y := (ok.free _ (PySem.mem_of_lookup hfr.1) rfl).elim (fun k => .inr (.inl k)) (fun k => .inr (.inr k))
    obtain ⟨w, r, q⟩ := hl i y av e1 e2 hvis
    refine ⟨w, r, .inr ⟨hfr.2, ?_⟩⟩
    obtain ⟨c, h1, h2⟩ := look hfr.1
    rcases q with ⟨k, _⟩ | ⟨_, c', e', z⟩
    · have k : X.env.scope.names.lookup y = some .local := k
      rcases ok.free _ (PySem.mem_of_lookup hfr.1) rfl with k' | k' <;> rw [show X.env.scope.names.lookup y = _ from k'] at k <;> cases k
    · rw [h2] at e'; cases e'
      exact ⟨c, h1, z.keeps kp⟩
  · have e : cenv.cells.lookup y = some c := e
    rcases mem e with ⟨h1, _⟩ | ⟨_, z⟩
    · obtain ⟨w, z⟩ := I.cell y c h1
      exact ⟨w, z.keeps kp⟩
    · exact ⟨_, z⟩
  · show H cenv.locals = none
    rw [hL]; exact I.hok.fresh (Nat.le_refl _)
  · have e : cenv.cells.lookup y = some c := e
    rcases mem e with ⟨h1, _⟩ | ⟨h1, _⟩
    · exact I.freeC y c h1
    · exact I.hok.fresh (Nat.le_of_succ_le h1)
  · exact absurd (show p ∈ ([] : List (Addr × Obj)) ++ [] from hp) (by simp)

/-- an item appended to a tracked list -/
theorem app_ok {E : Value → Shared → Prop} {D : Addr} {xs : List V} {y : V} {v : Value} {Q : Value → Shared → Prop} (I : Inv X pins σ H s) (hD : H D = some (.lst xs)) (hz : xs.length < sizeLine) (r : RelV y v)
    (h : ∀ s', Inv X pins σ (upd H D (.lst (xs ++ [y]))) s' → Q .none s') : wpAny (model X.prog X.w) X.A (call (.builtin "list.append") [.ref D, v]) Q E s := by
  obtain ⟨hz', its, n, ri, e⟩ := I.hok D _ hD
  have hl := ri.length
  refine append_at (hsz := by rw [List.size_toArray]; omega) e fun h' sb ho' => ?_
  refine h { s with heap := h' } (I.write (t' := s.toks) (by rw [hD]; trivial) (.inl rfl) (fun b u hb q => (sb.2 b hb).trans q) ⟨_, ho'⟩ ⟨by rw [List.length_append]; exact hz, its ++ [v], n + 1, ri.append (.cons r .nil), ?_⟩)
  rw [ho']
  simp

/-- a clause's tests -/
def PTs (X : Cx) (ifs : List Expr) (t : TT) : Prop :=
  ∀ (pins : List (Addr × Obj)) (s : Shared) (σ : St) (H : Hp) (Q : Bool → Hp → Prop), Inv X pins σ H s → t σ H Q →
    wpAny (model X.prog X.w) X.A (forIn ifs true fun c r => if r = true then do let ok ← isTrue c X.env (eval c X.env); pure (ForInStep.yield ok) else pure (ForInStep.yield r)) (TP X pins σ Q) X.xe s
def tYes : TT := fun _ H Q => Q true H
theorem pts_nil : PTs X [] tYes := fun _ _ _ H _ I h => wpAny_tests_nil ⟨H, I, h⟩
theorem pts_one {c : Expr} {t : TT} (h : PT X c t) : PTs X [c] t := fun pins s σ H Q I hw => wpAny_tests_one (h pins s σ H Q I hw)
end

theorem thnF {α : Type} {t : Sem α} {Q Q' : α → Shared → Prop} {M : Model} {A : Around} {E : Value → Shared → Prop} {s : Shared} (h : wpAny M A t Q (fun _ _ => False) s) (hQ : ∀ a s, Q a s → Q' a s) : wpAny M A t Q' E s := wpAny_mono h hQ fun _ _ z => False.elim z

/-- the loop of a list comprehension's block, the target of any form (codeAny_compLoop_tests asks a target that no tuple goes to; statement and proof follow it, PyProof/CompMap.lean:41-61, with the step letOwnedTupleGo kept) -/
theorem compLoop_any {prog : Program} {w : World} {A : Around} {R : Result → Shared → Prop} {s : Shared} {elt target iter : Expr} {ifs : List Expr} {scope : Scope} {pos : Pos} {it acc : Value} {env : Env} (I : Nat → Shared → Prop)
    (turn : ∀ n s, I n s → wpAny (model prog w) A (pyNext it) (fun r s₁ => match r with
      | none => R (.ok .next) s₁
      | some v => wpAny (model prog w) A (letOwnedTupleGo target it v) (fun _ s₁' => wpAny (model prog w) A (assign target env v) (fun _ s₂ =>
          wpAny (model prog w) A (forIn ifs true fun c r => if r = true then do let ok ← isTrue c env (eval c env); pure (ForInStep.yield ok) else pure (ForInStep.yield r)) (fun ok s₃ =>
            if ok = true then wpAny (model prog w) A (eval elt env) (fun x s₄ =>
              wpAny (model prog w) A (call (.builtin "list.append") [acc, x]) (fun _ s₅ => ∃ m, m < n ∧ I m s₅) (notedBy (model prog w) A env fun e s' => R (.error e) s') s₄) (notedBy (model prog w) A env fun e s' => R (.error e) s') s₃
            else ∃ m, m < n ∧ I m s₃) (notedBy (model prog w) A env fun e s' => R (.error e) s') s₂) (notedBy (model prog w) A env fun e s' => R (.error e) s') s₁') (notedBy (model prog w) A env fun e s' => R (.error e) s') s₁) (notedBy (model prog w) A env fun e s' => R (.error e) s') s)
    (n : Nat) (h : I n s) :
    codeAny (model prog w) A (.compLoop (.ListComp elt [⟨target, iter, ifs, 0⟩] scope pos) 0 it acc env) R s := by
  refine codeAny_loop rfl I (fun n s hI => ?_) n h
  show wpAny _ A ((compTurn (.ListComp elt [⟨target, iter, ifs, 0⟩] scope pos) 0 it acc env).onRaise (fun x => do noteFrame x env; theTreesLotGoes x)) _ _ s
  refine wpAny_noted ?_
  rw [compTurn_list]
  refine wpAny_bind (wpAny_standAt (wpAny_bind (wpAny_mono (turn n s hI) (fun r s₁ h₁ => ?_) fun _ _ h' => h')))
  cases r with
  | none => exact wpAny_pure h₁
  | some v =>
    refine wpAny_bind (wpAny_mono h₁ (fun _ s₁' h₁' => ?_) fun _ _ h' => h')
    refine wpAny_bind (wpAny_mono h₁' (fun _ s₂ h₂ => wpAny_bind (wpAny_mono h₂ (fun ok s₃ h₃ => ?_) fun _ _ h' => h')) fun _ _ h' => h')
    cases ok with
    | false => exact wpAny_pure ⟨rfl, h₃⟩
    | true =>
      exact wpAny_bind (wpAny_bind (wpAny_mono h₃ (fun x s₄ h₄ => wpAny_bind (wpAny_mono h₄ (fun _ s₅ h₅ => wpAny_pure (wpAny_pure ⟨rfl, h₅⟩)) fun _ _ h' => h')) fun _ _ h' => h'))

section
variable {X : Cx}
/-- [elt for target in iter if ..]: D the new list; W by the turn and a measure, Nx what a turn is to reach -/
def tLc (wi : TI) (g : TG) (tt : TT) (te : TE) (vs : List Nat) : TE := fun σ H Q => wi σ H fun J H1 => ∀ D, H1 D = none → ∃ W : Nat → Nat → Hp → Prop, (∃ m, W 0 m (upd H1 D (.lst []))) ∧ ∀ i m H, W i m H →
  (J.stop i H ∧ Q (.ref D) H) ∨ (J.go i H ∧ ∃ Nx : Hp → Prop, (∀ H', Nx H' → ∃ m', m' < m ∧ W (i + 1) m' H') ∧ ∀ x H', J.yld i H x H' → g x (wipe σ vs) H' fun σ2 H2 => wipe σ2 vs = wipe σ vs ∧ tt σ2 H2 fun b H3 =>
    if b = true then te σ2 H3 fun y H4 => ∃ acc, H4 D = some (.lst acc) ∧ acc.length < sizeLine ∧ Nx (upd H4 D (.lst (acc ++ [y]))) else Nx H3)
theorem lc_core {pins : List (Addr × Obj)} {s : Shared} {σ : St} {H : Hp} {Q : VK} {elt tg iter : Expr} {ifs : List Expr} {scope : Scope} {own : List (Str × Nat)} {pos pos' : Pos} {wi : TI} {g : TG} {tt : TT} {te : TE} {use : Option (Value → Sem Unit)} {Qf : Value → Shared → Prop}
    (hc : X.calm = true) (hN : X.N.Nodup) (I : Inv X pins σ H s) (hi : PI X tg iter wi) (ok : BlkOk X.N X.env.scope scope own)
    (hg : ∀ (s : Shared) (H : Hp) (C : Addr) (cl : List (Str × Addr)) (fp : List Addr), PG (X.blk s H scope (compEnvC scope cl C X.env) fp) tg g) (ht : ∀ (s : Shared) (H : Hp) (C : Addr) (cl : List (Str × Addr)) (fp : List Addr), PTs (X.blk s H scope (compEnvC scope cl C X.env) fp) ifs tt)
    (he : ∀ (s : Shared) (H : Hp) (C : Addr) (cl : List (Str × Addr)) (fp : List Addr), PE (X.blk s H scope (compEnvC scope cl C X.env) fp) elt te) (hs : ∀ x, foldedSetIterable iter X.env x = pure x)
    (h : tLc wi g tt te (own.map (·.2)) σ H Q)
    (hRR : ∀ D C s' m H', Inv X pins σ H' s' → Q (.ref D) H' → s'.heap.Ns C m → FpOk X pins H' C → compPost (model X.prog X.w) X.A X.xe use Qf (.ref D) C (.ok .next) s') :
    wpAny (model X.prog X.w) X.A (comprehension (.ListComp elt [⟨tg, iter, ifs, 0⟩] scope pos) scope X.env pos' (newList []) false (eval iter X.env) use) Qf X.xe s := by
  have hfree : ∀ y ∈ scope.names, y.2 = .free → ∃ c, X.env.cells.lookup y.1 = some c := fun y hy e => by
    rcases ok.free y hy e with k | k
    · exact I.ok.has _ (.inl k)
    · exact I.ok.has _ (.inr k)
  refine wpAny_comprehension_free (use := use) rfl hs (closure_ok hfree) ok.kind (fun y hy e => by rw [ok.uniq y hy, e])
    (thn (hi pins s σ H _ I h) fun xv s1 hx => thn hx fun itv s2 h2 => ?_)
  obtain ⟨it, fp, tn, J, H2, e, I2, T, st2, f2, q⟩ := h2
  subst e
  refine wpAny_newObj_type (newEnv_comp ?_) (by show 0 ≤ sizeLine; decide)
  generalize hD : s2.heap.objs.size = D
  have hDn : H2 D = none := I2.hok.fresh (Nat.le_of_eq hD)
  obtain ⟨W, ⟨m0, w0⟩, turn⟩ := q D hDn
  -- the new list
  generalize hs3 : ({ s2 with heap := s2.heap.push { cls := .type "list", data := .seq ([] : List Value).toArray } } : Shared) = s3
  have I3 : Inv X pins σ (upd H2 D (.lst [])) s3 := by
    rw [← hs3]
    refine I2.laid (t' := s2.toks) (fun b o e => Heap.get?_push_of_some _ e) (Nat.le_of_eq hD) ⟨Nat.zero_le _, [], 0, .nil, ?_⟩
    rw [← hD]
    exact Heap.get?_push_size _ rfl
  have h3 : s3.heap = s2.heap.push { cls := .type "list", data := .seq ([] : List Value).toArray } := by rw [← hs3]
  have sz : ∀ b ∈ fp, b < s2.heap.objs.size := fun b hb => by
    obtain ⟨o, e, _⟩ := T.obj _ _ st2 b hb
    exact Heap.lt_size e
  have f3 : ∀ b ∈ fp, FpOk X pins (upd H2 D (.lst [])) b ∧ b < s3.heap.objs.size := fun b hb => by
    have hlt := sz b hb
    refine ⟨⟨?_, (f2 b hb).2⟩, by rw [h3, Heap.size_push]; exact Nat.lt_succ_of_lt hlt⟩
    rw [upd_ne (by rw [← hD]; exact Nat.ne_of_lt hlt)]
    exact (f2 b hb).1
  have st3 : tn 0 s3.heap := T.keep _ _ _ st2 fun b _ o e => by rw [h3]; exact Heap.get?_push_of_some _ e
  have I4 := block_start I3 ok hN f3
  have pg := hg s3 (upd H2 D (.lst [])) s3.heap.objs.size (cellsFrom (s3.heap.objs.size + 1) scope.names (cloFrom X.env.cells scope.names [])) fp
  have pt := ht s3 (upd H2 D (.lst [])) s3.heap.objs.size (cellsFrom (s3.heap.objs.size + 1) scope.names (cloFrom X.env.cells scope.names [])) fp
  have pe := he s3 (upd H2 D (.lst [])) s3.heap.objs.size (cellsFrom (s3.heap.objs.size + 1) scope.names (cloFrom X.env.cells scope.names [])) fp
  show codeAny _ _ (.compStart (.ListComp elt [⟨tg, iter, ifs, 0⟩] scope pos) 0 (.ref it) (.ref D) (compEnvC scope (cellsFrom (s3.heap.objs.size + 1) scope.names (cloFrom X.env.cells scope.names [])) s3.heap.objs.size X.env)) (compPost (model X.prog X.w) X.A X.xe use Qf (.ref D) s3.heap.objs.size) { s3 with heap := pushCells (s3.heap.push { cls := .type "dict", data := .dict #[] }) scope.names }
  have nfp : ∀ b ∈ fp, (upd H2 D (.lst [])) b = none := fun b hb => (f3 b hb).1.1
  generalize hce : compEnvC scope (cellsFrom (s3.heap.objs.size + 1) scope.names (cloFrom X.env.cells scope.names [])) s3.heap.objs.size X.env = ce at I4 pg pt pe ⊢
  have cL : ce.locals = s3.heap.objs.size := by subst hce; rfl
  generalize hH3 : upd H2 D (.lst []) = H3 at I3 I4 pg pt pe w0 nfp f3
  generalize hs4 : ({ s3 with heap := pushCells (s3.heap.push { cls := .type "dict", data := .dict #[] }) scope.names } : Shared) = s4 at I4 ⊢
  have st4 : tn 0 s4.heap := T.keep _ _ _ st3 fun b _ o e => by rw [← hs4]; exact pushCells_keeps _ _ _ _ (Heap.get?_push_of_some _ e)
  have stat : ∀ {σ' : St} {H' : Hp} {s' : Shared}, Inv (X.blk s3 H3 scope ce fp) [] σ' H' s' → (∀ b ∈ fp, H' b = none) → ∀ b ∈ fp, FpOk (X.blk s3 H3 scope ce fp) [] H' b := fun {σ' H' s'} I' hn b hb =>
    ⟨hn b hb, (I'.ok.exf b hb).1, I'.ok.exfs b hb, .inl hb, fun x c e => (I'.ok.exf b hb).2 x c e, fun p hp => absurd (show p ∈ ([] : List (Addr × Obj)) ++ [] from hp) (by simp)⟩
  have loop : codeAny (model X.prog X.w) X.A (.compLoop (.ListComp elt [⟨tg, iter, ifs, 0⟩] scope pos) 0 (.ref it) (.ref D) ce) (compPost (model X.prog X.w) X.A X.xe use Qf (.ref D) s3.heap.objs.size) s4 := by
    refine compLoop_any (fun n s' => ∃ i H', Inv (X.blk s3 H3 scope ce fp) [] (wipe σ (own.map (·.2))) H' s' ∧ tn i s'.heap ∧ (∀ b ∈ fp, H' b = none) ∧ W i n H') ?_ m0 ⟨0, H3, I4, st4, nfp, w0⟩
    rintro n s5 ⟨i, H5, I5, st5, n5, w5⟩
    rcases turn i n H5 w5 with ⟨stop, qq⟩ | ⟨go, Nx, hNx, step⟩
    · have td := T.done (X.blk s3 H3 scope ce fp) rfl rfl rfl hc i [] s5 _ H5 (fun _ _ => False) I5 (stat I5 n5) st5 stop
      refine thnF td fun r s6 ⟨hr, I6⟩ => ?_
      subst hr
      -- back in the def's context
      have I7 : Inv X pins σ H5 s6 := I3.call' (ch := fp) I6.os I6.base I6.hok I6.bare fun b hb => ⟨(f3 b hb).1.2.2.2.1, (f3 b hb).1.2.1, (f3 b hb).1.2.2.2.2.1, (f3 b hb).1.2.2.2.2.2⟩
      have nC : H5 s3.heap.objs.size = none := by
        have z : H5 ce.locals = none := I6.free
        rw [cL] at z
        exact z
      obtain ⟨m, hn, _⟩ := I6.loc
      have hn : s6.heap.Ns ce.locals m := hn
      rw [cL] at hn
      exact hRR D s3.heap.objs.size s6 m H5 I7 qq hn (I3.fpOk (Nat.le_refl _) nC)
    · have ti := T.item (X.blk s3 H3 scope ce fp) rfl rfl rfl hc i [] s5 _ H5 (fun _ _ => False) I5 (stat I5 n5) st5 go
      refine thnF ti fun r s6 ⟨u, hr, h6⟩ => ?_
      subst hr
      refine thnF h6 fun _ s7 ⟨x, H7, I7, r7, y7, st7, n7⟩ => ?_
      have I7' := I7.pinned (stat I7 n7) (T.obj _ _ st7)
      refine thnF (pg _ s7 _ H7 x u _ I7' r7 (step x H7 y7)) fun _ s8 ⟨σ8, H8, I8, hw8, q8⟩ => ?_
      refine thnF (pt _ s8 σ8 H8 _ I8 q8) fun b s9 ⟨H9, I9, q9⟩ => ?_
      -- the turn's end
      have fin : ∀ {s' : Shared} {H' : Hp}, Inv (X.blk s3 H3 scope ce fp) ([] ++ pinsAt fp s7.heap) σ8 H' s' → Nx H' → ∃ m, m < n ∧ ∃ i H', Inv (X.blk s3 H3 scope ce fp) [] (wipe σ (own.map (·.2))) H' s' ∧ tn i s'.heap ∧ (∀ b ∈ fp, H' b = none) ∧ W i m H' := fun {s' H'} I' nx => by
        obtain ⟨m', hm, w'⟩ := hNx H' nx
        have pin' : ∀ b ∈ fp, ∀ o, s7.heap.get? b = some o → s'.heap.get? b = some o ∧ H' b = none := fun b hb o e =>
          let z := I'.pin (b, o) (List.mem_append_right _ (List.mem_append_right _ (mem_pinsAt hb e)))
          ⟨z.1, z.2.1⟩
        have hl : (wipe σ (own.map (·.2))).length = σ8.length := by rw [← hw8, wipe_length]
        refine ⟨m', hm, i + 1, H', (I'.unpinned (pins := [])).weak hl (fun j v e => ?_), T.keep _ _ _ st7 fun b hb o e => (pin' b hb o e).1, fun b hb => ?_, w'⟩
        · rw [← hw8] at e
          exact (wipe_some e).1
        · obtain ⟨o, e, _⟩ := T.obj _ _ st7 b hb
          exact (pin' b hb o e).2
      cases b with
      | false =>
        simp only [Bool.false_eq_true, if_false] at q9 ⊢
        exact fin I9 q9
      | true =>
        simp only [if_true] at q9 ⊢
        refine thnF (pe _ s9 σ8 H9 _ I9 q9) fun z s10 ⟨yv, H10, I10, r10, acc, hD10, hz10, nx⟩ => ?_
        exact app_ok (X := X.blk s3 H3 scope ce fp) I10 hD10 hz10 r10 fun s11 I11 => fin I11 nx
  exact codeAny_compStart_list loop (T.self X.A 0 _ _ _ st4 loop)
/-- as a value -/
theorem pe_lc {elt tg iter : Expr} {ifs : List Expr} {scope : Scope} {own : List (Str × Nat)} {pos : Pos} {wi : TI} {g : TG} {tt : TT} {te : TE} (hc : X.calm = true) (hN : X.N.Nodup) (hi : PI X tg iter wi) (ok : BlkOk X.N X.env.scope scope own)
    (hg : ∀ (s : Shared) (H : Hp) (C : Addr) (cl : List (Str × Addr)) (fp : List Addr), PG (X.blk s H scope (compEnvC scope cl C X.env) fp) tg g) (ht : ∀ (s : Shared) (H : Hp) (C : Addr) (cl : List (Str × Addr)) (fp : List Addr), PTs (X.blk s H scope (compEnvC scope cl C X.env) fp) ifs tt)
    (he : ∀ (s : Shared) (H : Hp) (C : Addr) (cl : List (Str × Addr)) (fp : List Addr), PE (X.blk s H scope (compEnvC scope cl C X.env) fp) elt te) (hs : ∀ x, foldedSetIterable iter X.env x = pure x := by intro _; rfl) :
    PE X (.ListComp elt [⟨tg, iter, ifs, 0⟩] scope pos) (tLc wi g tt te (own.map (·.2))) := by
  intro pins s σ H Q I h
  rw [eval_ListComp]
  refine lc_core hc hN I hi ok hg ht he hs h fun D C s' m H' I' q hn f => ⟨m, hn, fun h'' sb => ?_⟩
  obtain ⟨f0, f1, f2, f3, f4, f5⟩ := f
  exact ⟨.ref D, H', I'.turned (t' := s'.toks) (fun b o hb e => (sb.2 b hb).trans e) f0 f1 f3 f4 f5, rfl, q⟩
/-- name = [..] on one line, the name a local -/
theorem ps_setLc {i : Nat} {y : Str} {py : Pos} {elt tg iter : Expr} {ifs : List Expr} {scope : Scope} {own : List (Str × Nat)} {pos spos : Pos} {wi : TI} {g : TG} {tt : TT} {te : TE} (hc : X.calm = true) (hN : X.N.Nodup) (hy : X.N[i]? = some y) (hyl : X.env.scope.names.lookup y = some .local)
    (hsw : swapsWith (.ListComp elt [⟨tg, iter, ifs, 0⟩] scope pos) (some (.Name y py)) spos.line X.env = pure true) (hi : PI X tg iter wi) (ok : BlkOk X.N X.env.scope scope own)
    (hg : ∀ (s : Shared) (H : Hp) (C : Addr) (cl : List (Str × Addr)) (fp : List Addr), PG (X.blk s H scope (compEnvC scope cl C X.env) fp) tg g) (ht : ∀ (s : Shared) (H : Hp) (C : Addr) (cl : List (Str × Addr)) (fp : List Addr), PTs (X.blk s H scope (compEnvC scope cl C X.env) fp) ifs tt)
    (he : ∀ (s : Shared) (H : Hp) (C : Addr) (cl : List (Str × Addr)) (fp : List Addr), PE (X.blk s H scope (compEnvC scope cl C X.env) fp) elt te) (hs : ∀ x, foldedSetIterable iter X.env x = pure x := by intro _; rfl) :
    PS X (.Assign [.Name y py] (.ListComp elt [⟨tg, iter, ifs, 0⟩] scope pos) spos) (tAsg (tLc wi g tt te (own.map (·.2))) (gName i)) := by
  intro pins s σ H D I h
  rw [exec_Assign_Name_used _ _ _ _ hsw]
  refine wpAny_bind (wpAny_standAt (wpAny_bind ?_))
  show wpAny _ X.A (do let _ ← comprehension (.ListComp elt [⟨tg, iter, ifs, 0⟩] scope pos) scope X.env (firstIterPos [⟨tg, iter, ifs, 0⟩] pos) (newList []) false (eval iter X.env) (some (assign (.Name y py) X.env))) _ _ s
  have h : tLc wi g tt te (own.map (·.2)) σ H (fun x H1 => gName i x σ H1 D.nx) := h
  refine wpAny_bind (thn (lc_core (Qf := fun _ s' => SP X pins D .next s') hc hN I hi ok hg ht he hs h fun L C s' m H' I' q hn f => ?_) fun _ s' hq => wpAny_pure (wpAny_pure hq))
  show wpAny _ _ (assign (.Name y py) X.env (.ref L)) _ _ _
  refine wpAny_assign_Name (store_ok2 (v := V.ref L) I' hN hy (.inl hyl) rfl (fun s2 I2 ⟨a, sb, ha⟩ => ?_) (.inr hyl))
  obtain ⟨f0, f1, f2, f3, f4, f5⟩ := f
  have haC : C ≠ a := by
    rcases ha with z | z
    · rw [z]; exact f1
    · exact fun e => f4 y a z e.symm
  refine ⟨m, hn.sameBut sb haC, fun h3 sb3 => ?_⟩
  exact ⟨_, H', I2.turned (t' := s2.toks) (fun b o hb e => (sb3.2 b hb).trans e) f0 f1 f3 f4 f5, q⟩
theorem sw_true {elt : Expr} {gs : List Comprehension} {scope : Scope} {pos py : Pos} {y : Str} {l : Nat} {env : Env} (hk : env.scope.kind = .function) (hy : env.scope.names.lookup y = some .local) (hl : (py.line == pos.line) = true)
    (ha : (scope.names.any fun (n, k) => n == y && (k == .local || k == .cell)) = false) : swapsWith (.ListComp elt gs scope pos) (some (.Name y py)) l env = pure true := by
  have ky : env.kindOf y = some .local := hy
  have hb : env.blockKind = .function := by unfold Env.blockKind; rw [hk]; rfl
  unfold swapsWith
  simp only [hb, ky, ha, Expr.pos, hl]
  rfl
end

/-! ### the forms one uses -/
/-- over a range: Pv by the turn and the heap (the new list at D within) -/
theorem lc_range {lo : Int} {n : Nat} {g : TG} {tt : TT} {te : TE} {vs : List Nat} {σ : St} {H1 : Hp} {D : Addr} {Qd : Hp → Prop} (Pv : Nat → Hp → Prop) (h0 : Pv 0 (upd H1 D (.lst [])))
    (hs : ∀ i H, i < n → Pv i H → g (.int (lo + i)) (wipe σ vs) H fun σ2 H2 => wipe σ2 vs = wipe σ vs ∧ tt σ2 H2 fun b H3 =>
      if b = true then te σ2 H3 fun y H4 => ∃ acc, H4 D = some (.lst acc) ∧ acc.length < sizeLine ∧ Pv (i + 1) (upd H4 D (.lst (acc ++ [y]))) else Pv (i + 1) H3) (hd : ∀ H, Pv n H → Qd H) :
    ∃ W : Nat → Nat → Hp → Prop, (∃ m, W 0 m (upd H1 D (.lst []))) ∧ ∀ i m H, W i m H →
      ((Itr lo n).stop i H ∧ Qd H) ∨ ((Itr lo n).go i H ∧ ∃ Nx : Hp → Prop, (∀ H', Nx H' → ∃ m', m' < m ∧ W (i + 1) m' H') ∧ ∀ x H', (Itr lo n).yld i H x H' → g x (wipe σ vs) H' fun σ2 H2 => wipe σ2 vs = wipe σ vs ∧ tt σ2 H2 fun b H3 =>
        if b = true then te σ2 H3 fun y H4 => ∃ acc, H4 D = some (.lst acc) ∧ acc.length < sizeLine ∧ Nx (upd H4 D (.lst (acc ++ [y]))) else Nx H3) := by
  refine ⟨fun i m H => m = n - i ∧ i ≤ n ∧ Pv i H, ⟨n, by simp, Nat.zero_le _, h0⟩, ?_⟩
  rintro i m H ⟨rfl, hi, p⟩
  by_cases hlt : i < n
  · refine .inr ⟨hlt, Pv (i + 1), fun H' p' => ⟨n - (i + 1), by omega, rfl, hlt, p'⟩, fun x H' y => ?_⟩
    obtain ⟨e, y⟩ := y
    subst e y
    exact hs i _ hlt p
  · have e : i = n := by omega
    subst e
    exact .inl ⟨Nat.le_refl _, hd H p⟩
/-- over a list that the block leaves as it is -/
theorem lc_list {K : PySem.W.Frag} {a : Addr} {xs : List V} {g : TG} {tt : TT} {te : TE} {vs : List Nat} {σ : St} {H1 : Hp} {D : Addr} {Qd : Hp → Prop} (Pv : Nat → Hp → Prop) (h0 : Pv 0 (upd H1 D (.lst []))) (hl : ∀ i H, i ≤ xs.length → Pv i H → SqL K H a xs)
    (hs : ∀ i x H, xs[i]? = some x → Pv i H → g x (wipe σ vs) H fun σ2 H2 => wipe σ2 vs = wipe σ vs ∧ tt σ2 H2 fun b H3 =>
      if b = true then te σ2 H3 fun y H4 => ∃ acc, H4 D = some (.lst acc) ∧ acc.length < sizeLine ∧ Pv (i + 1) (upd H4 D (.lst (acc ++ [y]))) else Pv (i + 1) H3) (hd : ∀ H, Pv xs.length H → Qd H) :
    ∃ W : Nat → Nat → Hp → Prop, (∃ m, W 0 m (upd H1 D (.lst []))) ∧ ∀ i m H, W i m H →
      ((Itl K a).stop i H ∧ Qd H) ∨ ((Itl K a).go i H ∧ ∃ Nx : Hp → Prop, (∀ H', Nx H' → ∃ m', m' < m ∧ W (i + 1) m' H') ∧ ∀ x H', (Itl K a).yld i H x H' → g x (wipe σ vs) H' fun σ2 H2 => wipe σ2 vs = wipe σ vs ∧ tt σ2 H2 fun b H3 =>
        if b = true then te σ2 H3 fun y H4 => ∃ acc, H4 D = some (.lst acc) ∧ acc.length < sizeLine ∧ Nx (upd H4 D (.lst (acc ++ [y]))) else Nx H3) := by
  refine ⟨fun i m H => m = xs.length - i ∧ i ≤ xs.length ∧ Pv i H, ⟨xs.length, by simp, Nat.zero_le _, h0⟩, ?_⟩
  rintro i m H ⟨rfl, hi, p⟩
  have q := hl i H hi p
  by_cases hlt : i < xs.length
  · refine .inr ⟨⟨xs, xs[i], q, by simp [hlt]⟩, Pv (i + 1), fun H' p' => ⟨xs.length - (i + 1), by omega, rfl, hlt, p'⟩, fun x H' y => ?_⟩
    obtain ⟨e, y⟩ := y
    subst e
    exact hs i x _ (y xs q) p
  · have e : i = xs.length := by omega
    subst e
    exact .inl ⟨⟨xs, q, Nat.le_refl _⟩, hd H p⟩
/-- over a tuple -/
theorem lc_tup {K : PySem.W.Frag} {a : Addr} {xs : List V} {g : TG} {tt : TT} {te : TE} {vs : List Nat} {σ : St} {H1 : Hp} {D : Addr} {Qd : Hp → Prop} (Pv : Nat → Hp → Prop) (h0 : Pv 0 (upd H1 D (.lst []))) (hl : ∀ i H, i ≤ xs.length → Pv i H → SqT K H a xs)
    (hs : ∀ i x H, xs[i]? = some x → Pv i H → g x (wipe σ vs) H fun σ2 H2 => wipe σ2 vs = wipe σ vs ∧ tt σ2 H2 fun b H3 =>
      if b = true then te σ2 H3 fun y H4 => ∃ acc, H4 D = some (.lst acc) ∧ acc.length < sizeLine ∧ Pv (i + 1) (upd H4 D (.lst (acc ++ [y]))) else Pv (i + 1) H3) (hd : ∀ H, Pv xs.length H → Qd H) :
    ∃ W : Nat → Nat → Hp → Prop, (∃ m, W 0 m (upd H1 D (.lst []))) ∧ ∀ i m H, W i m H →
      ((Itt K a).stop i H ∧ Qd H) ∨ ((Itt K a).go i H ∧ ∃ Nx : Hp → Prop, (∀ H', Nx H' → ∃ m', m' < m ∧ W (i + 1) m' H') ∧ ∀ x H', (Itt K a).yld i H x H' → g x (wipe σ vs) H' fun σ2 H2 => wipe σ2 vs = wipe σ vs ∧ tt σ2 H2 fun b H3 =>
        if b = true then te σ2 H3 fun y H4 => ∃ acc, H4 D = some (.lst acc) ∧ acc.length < sizeLine ∧ Nx (upd H4 D (.lst (acc ++ [y]))) else Nx H3) := by
  refine ⟨fun i m H => m = xs.length - i ∧ i ≤ xs.length ∧ Pv i H, ⟨xs.length, by simp, Nat.zero_le _, h0⟩, ?_⟩
  rintro i m H ⟨rfl, hi, p⟩
  have q := hl i H hi p
  by_cases hlt : i < xs.length
  · refine .inr ⟨⟨xs, xs[i], q, by simp [hlt]⟩, Pv (i + 1), fun H' p' => ⟨xs.length - (i + 1), by omega, rfl, hlt, p'⟩, fun x H' y => ?_⟩
    obtain ⟨e, y⟩ := y
    subst e
    exact hs i x _ (y xs q) p
  · have e : i = xs.length := by omega
    subst e
    exact .inl ⟨⟨xs, q, Nat.le_refl _⟩, hd H p⟩
def blkC (N : List Str) (sc scope : Scope) (own : List (Str × Nat)) : Bool :=
  (match scope.kind with | .function => true | _ => false) && (scope.names.all fun y => decide (scope.names.lookup y.1 = some y.2)) && (own.all fun p => decide (N[p.2]? = some p.1)) &&
    (scope.names.all fun y => match y.2 with
      | .free => (match sc.names.lookup y.1 with | some .cell => true | some .free => true | _ => false)
      | .local => decide (y.1 ∈ own.map (·.1)) || decide (y.1 ∉ N)
      | .cell => decide (y.1 ∈ own.map (·.1)) || decide (y.1 ∉ N)
      | _ => true)
theorem blkOk_by {N : List Str} {sc scope : Scope} {own : List (Str × Nat)} (h : blkC N sc scope own = true) : BlkOk N sc scope own := by
  unfold blkC at h
  simp only [Bool.and_eq_true, List.all_eq_true, decide_eq_true_eq] at h
  obtain ⟨⟨⟨h1, h2⟩, h3⟩, h4⟩ := h
  refine ⟨?_, h2, h3, fun y hy e => ?_, fun y hy e => ?_⟩
  · split at h1
    · assumption
    · cases h1
  · have q := h4 y hy
    simp only [e] at q
    split at q <;> first | exact .inl (by assumption) | exact .inr (by assumption) | cases q
  · have q := h4 y hy
    rcases e with e | e <;> (simp only [e, Bool.or_eq_true, decide_eq_true_eq] at q; exact q)
end L2


namespace Att
open PySem PySem.W PySem.Calls PyProof.Rows

/-! ### the script -/
theorem ints_of_wellAll {P : Params} {h : Heap} : ∀ (ns : List Int) (vs : List Value), WellAll P h vs (ns.map WData.int) → IntsAre vs ns := by
  intro ns
  induction ns with
  | nil =>
    intro vs w
    rw [List.map_nil] at w
    cases w
    exact .nil
  | cons n ns ih =>
    intro vs w
    rw [List.map_cons] at w
    cases w with
    | cons a b =>
      cases a
      exact .cons _ _ (ih _ b)

end Att

namespace L2
open PySem PySem.Spec PyProof.Rows

theorem vals_ints : ∀ {vs : List Value} {ns : List Int}, IntsAre vs ns → Vals (ns.map V.int) vs
  | _, _, .nil => .nil
  | _, _, .cons n t h => .cons ⟨t, rfl⟩ (vals_ints h)

/-- nothing is tracked but the script, known to the object (or it is an object of the module) -/
def Only (H : Hp) : Prop := ∀ b, H b = none ∨ ∃ o xs, H b = some (.frz o (.lst xs))

end L2

/-! SHORT WORDS over the layer: a def of the text, its body, what a loop and a test want. -/
namespace L2
open PySem PySem.Spec PyProof.Rows

/-! ### the text by places -/
/-- the j-th statement of a class's body -/
def inClass (s : Stmt) (j : Nat) : Stmt := match s with
  | .ClassDef _ _ _ body _ _ _ _ _ _ _ => body.getD j (.Pass ⟨0, 0, 0, 0⟩)
  | _ => .Pass ⟨0, 0, 0, 0⟩
def defArgs (s : Stmt) : Arguments := match s with
  | .FunctionDef _ a _ _ _ _ _ _ _ _ => a
  | _ => { posonlyargs := [], args := [], vararg := none, kwonlyargs := [], kw_defaults := [], kwarg := none, defaults := [] }
def defBody (s : Stmt) : List Stmt := match s with
  | .FunctionDef _ _ b _ _ _ _ _ _ _ => b
  | _ => []
def defScope (s : Stmt) : Scope := match s with
  | .FunctionDef _ _ _ _ _ _ sc _ _ _ => sc
  | _ => { kind := .function, names := [], isGenerator := false, isCoroutine := false }

/-! ### no exception leaves a def -/
abbrev CX0 : CXT := fun _ _ _ _ _ _ => False
abbrev E0 : XK := fun _ _ _ => False
theorem pass0 {X : Cx} : Passes CX0 X E0 := fun _ _ _ _ _ _ _ h => h.elim

/-! ### a def (or method) of the text as it stands behind the top -/
structure Fun (K : PySem.W.Frag) (x qual : Str) (st : Stmt) (f : Addr) (fd : FuncData) : Prop where
  ex : ∃ (oc : Value) (od : Option Addr) (kV doc pm : Value) (an : Option Addr) (cdv ct : Value) (osl : Array (Option Value)),
    fd = PySem.W.fnOf x qual (defArgs st) (defBody st) (defScope st) .none kV doc pm an cdv ct ∧ K.lookup f = some ⟨oc, od, .func fd, osl⟩ ∧ PySem.W.codeIn K cdv qual = true
  kp : PySem.W.keepIn K (.ref f) = true
section
variable {P : Program} {w : World} {K : PySem.W.Frag} {mg : Str → Option Value} {base : Heap}
/-- THE RULE for a def: its body as a term of rules, and the reading of that term -/
theorem Fun.ok {x qual : Str} {st : Stmt} {f : Addr} {fd : FuncData} {N ps : List Str} {k : Nat} {sp : Sp} (F : Fun K x qual st f fd) (S : FnScope N ps (defScope st)) (len : ∀ vs H Q E, sp vs H Q E → vs.length = ps.length)
    (hbody : ∀ (cdv : Value) (A : Around) (outer : List Env) (s : Shared) (H : Hp) (vs : List V) (Q : VK) (E : XK), Room k (A.deeper (envOfC qual (defScope st) s.heap.objs.size f cdv)) → sp vs H Q E →
      ∃ t, PSs (cxOf CX0 P w K mg base N qual (defScope st) f cdv A outer s H E).nox (defBody st) t ∧ t { nx := fun _ H' => Q .non H', rt := Q } (start N vs) H) : FnOk P w K mg base CX0 (k + 1) f fd ps sp := by
  obtain ⟨oc, od, kV, doc, pm, an, cdv, ct, osl, rfl, lk, hcd⟩ := F.ex
  refine fn_of lk hcd S len fun A outer s H vs Q E hr hsp => ?_
  obtain ⟨t, h, q⟩ := hbody cdv A outer s H vs Q E hr hsp
  exact ⟨t, h.nox, q⟩
/-- how its arguments bind (no defaults): h is «fun _ _ _ _ _ _ us hl => match us, hl with | [_, _], _ => rfl», one _ a parameter -/
theorem Fun.binds {x qual : Str} {st : Stmt} {f : Addr} {fd : FuncData} {ps : List Str} (F : Fun K x qual st f fd)
    (h : ∀ (kV doc pm : Value) (an : Option Addr) (cdv ct : Value) (us : List Value), us.length = ps.length → bindArgs (PySem.W.fnOf x qual (defArgs st) (defBody st) (defScope st) .none kV doc pm an cdv ct) ⟨us, []⟩ = pure (ps.zip us)) : Binds K fd ps [] := by
  obtain ⟨oc, od, kV, doc, pm, an, cdv, ct, osl, rfl, lk, hcd⟩ := F.ex
  exact .all (h kV doc pm an cdv ct)
theorem fun_mk {x qual : Str} {st : Stmt} {f : Addr} {oc : Value} {od an : Option Addr} {osl : Array (Option Value)} {kV doc pm cdv ct : Value} (l : K.lookup f = some ⟨oc, od, .func (PySem.W.fnOf x qual (defArgs st) (defBody st) (defScope st) .none kV doc pm an cdv ct), osl⟩)
    (c : PySem.W.codeIn K cdv qual = true) (k : PySem.W.keepIn K (.ref f) = true) : Fun K x qual st f (PySem.W.fnOf x qual (defArgs st) (defBody st) (defScope st) .none kV doc pm an cdv ct) := ⟨⟨oc, od, kV, doc, pm, an, cdv, ct, osl, rfl, l, c⟩, k⟩
end
theorem hu_of {A : Around} {k : Nat} (hr : Room k A) : A.units + 1 < cLine := Nat.lt_of_le_of_lt (Nat.add_le_add_left (by decide : 1 ≤ 64) _) hr.units
theorem small1000 {n : Nat} (h : n ≤ 1000) : n < sizeLine := Nat.lt_of_le_of_lt h (by decide)

/-! ### expressions in short: the name that stands in the i-th slot -/
section
variable {X : Cx}
theorem pv (i : Nat) {x : Str} {pos : Pos} (hN : X.N[i]? = some x := by rfl) (hv : Vis X.env.scope x := by first | exact Or.inl rfl | exact Or.inr (Or.inl rfl) | exact Or.inr (Or.inr rfl)) (hd : (x == ("__debug__" : Str)) = false := by decide)
    (hcd : (x == ("__classdict__" : Str)) = false := by decide) : PE X (.Name x pos) (tVar i) := pe_var hN hv hd hcd
end

/-! ### tests -/
theorem iteF {A B : Prop} (h : B) : if false = true then A else B := by
  rw [if_neg Bool.false_ne_true]
  exact h
theorem iteT {A B : Prop} (h : A) : if true = true then A else B := by
  rw [if_pos rfl]
  exact h
theorem ite2 {c A B : Prop} [Decidable c] (h1 : c → A) (h2 : ¬ c → B) : if c then A else B := by
  by_cases h : c
  · rw [if_pos h]
    exact h1 h
  · rw [if_neg h]
    exact h2 h
theorem iteNS {c A B : Prop} [Decidable c] (hc : c) (h : B) : if (!decide c) = true then A else B := by
  rw [decide_eq_true hc]
  exact iteF h

/-! ### heaps -/
/-- all that was tracked is as it was -/
def Same (H H' : Hp) : Prop := ∀ b o, H b = some o → H' b = some o
theorem Same.refl (H : Hp) : Same H H := fun _ _ h => h
theorem Same.trans {H H1 H2 : Hp} (a : Same H H1) (b : Same H1 H2) : Same H H2 := fun c o h => b c o (a c o h)
theorem Same.free {H H' : Hp} (e : Same H H') {l : Addr} (h : H' l = Option.none) : H l = Option.none := by
  cases q : H l with
  | none => rfl
  | some o =>
    rw [e l o q] at h
    cases h
theorem Same.seq {K : PySem.W.Frag} {H H' : Hp} {a : Addr} {xs : List V} (e : Same H H') (h : SqL K H a xs) : SqL K H' a xs := by
  rcases h with (h | ⟨o, h⟩) | h
  · exact .inl (.inl (e _ _ h))
  · exact .inl (.inr ⟨o, e _ _ h⟩)
  · exact .inr h

/-! ### lists -/
theorem at_of {xs : List V} {z : Int} {j : Nat} {v : V} (e : z = (j : Int)) (h : xs[j]? = some v) : atI xs z = some v := by
  rw [e]
  exact atI_nat h
theorem nd_ix {α : Type} {l : List α} (hN : l.Nodup) {i j : Nat} {x : α} (a : l[i]? = some x) (b : l[j]? = some x) : i = j := by
  obtain ⟨h1, e1⟩ := List.getElem?_eq_some_iff.mp a
  obtain ⟨h2, e2⟩ := List.getElem?_eq_some_iff.mp b
  exact (List.getElem_inj hN).mp (e1.trans e2.symm)
theorem sum_set : ∀ {l : List Int} {j : Nat} {z y : Int}, l[j]? = some z → (l.set j y).sum = l.sum - z + y
  | [], j, z, y, h => by simp at h
  | a :: r, 0, z, y, h => by
    have e : a = z := Option.some.inj h
    subst e
    show (y :: r).sum = (a :: r).sum - a + y
    rw [List.sum_cons, List.sum_cons]
    omega
  | a :: r, j + 1, z, y, h => by
    have ih := sum_set (l := r) (j := j) (z := z) (y := y) h
    show (a :: r.set j y).sum = (a :: r).sum - z + y
    rw [List.sum_cons, List.sum_cons, ih]
    omega
theorem sum_take : ∀ {l : List Int} {i : Nat} {z : Int}, l[i]? = some z → (l.take (i + 1)).sum = (l.take i).sum + z
  | [], i, z, h => by simp at h
  | a :: r, 0, z, h => by
    have e : a = z := Option.some.inj h
    subst e
    show ([a] : List Int).sum = ([] : List Int).sum + a
    rw [List.sum_cons]
    exact Int.add_comm _ _
  | a :: r, i + 1, z, h => by
    have ih := sum_take (l := r) (i := i) (z := z) h
    show (a :: r.take (i + 1)).sum = (a :: r.take i).sum + z
    rw [List.sum_cons, List.sum_cons, ih]
    omega
/-- a new instance and its __init__ leave all that was tracked as it was -/
theorem Same.made {H H1 : Hp} {x dx C : Addr} (nx : H x = Option.none) (nd : H dx = Option.none) (k : ∀ b o, (upd (upd H dx (.own x)) x (.ins C dx [])) b = some o → b ≠ x → H1 b = some o) : Same H H1 := fun b o e =>
  k b o (by rw [upd_ne (ne_of_none e nx), upd_ne (ne_of_none e nd)]; exact e) (ne_of_none e nx)
end L2
set_option maxHeartbeats 4000000
/-! THE MIRROR: each method of the keeper as a plain function over plain lists -/
namespace Ck
structure KS where
  told : List Int
  mode : Nat
  why : Nat
  now : Nat
  notes : List Nat
  on : List Bool
  marked : List Bool
  stopping : Option Nat
  left : Nat
def tellM (m : KS) (a b c : Int) : KS := { m with told := m.told ++ [a, b, c] }
def beginM (m : KS) (c : Nat) : KS := { m with on := m.on.set c true, told := m.told ++ [0, (c : Int), 0] }
def askM (pl : Kgo2.Plan) (m : KS) (c : Nat) : KS :=
  { m with on := m.on.set c false, stopping := some c, left := pl.patience.getD c 0, told := m.told ++ [1, (c : Int), if pl.patience.getD c 0 = 0 then 1 else 0] }
def unmarkM (pl : Kgo2.Plan) (m : KS) : KS := { m with marked := List.replicate pl.count false }
def toAsk (m : KS) (c : Nat) : Bool := m.on.getD c false && (m.marked.getD c false || m.mode == 2)
def dueL (pl : Kgo2.Plan) (m : KS) : List Nat := (List.range pl.count).filter (toAsk m)
def beginUp (m : KS) : Nat → KS
  | 0 => m
  | i + 1 => beginM (beginUp m i) i
def markedUp (m : KS) : Nat → KS
  | 0 => m
  | i + 1 => if m.marked.getD i false = true then beginM (markedUp m i) i else markedUp m i
def beginMarkedM (pl : Kgo2.Plan) (m : KS) : KS := { unmarkM pl (markedUp m pl.count) with mode := 0 }
def overM (m : KS) : KS := tellM { m with mode := 3 } 2 (m.why : Int) 0
def onWithM (pl : Kgo2.Plan) (m : KS) : KS :=
  if m.stopping.isSome = true then m else
    match (dueL pl m).getLast? with
    | some c => askM pl m c
    | none => if m.mode = 1 then beginMarkedM pl m else overM m
def endForM (pl : Kgo2.Plan) (m : KS) (w : Nat) : KS := onWithM pl (unmarkM pl { m with mode := 2, why := w })
def noteM (pl : Kgo2.Plan) (m : KS) : KS := { m with notes := m.notes.filter (fun (n : Nat) => decide ((m.now : Int) - (n : Int) < (pl.within : Int))) ++ [m.now] }
def besideL (pl : Kgo2.Plan) (c : Nat) : List Nat := if pl.way = 1 then List.range pl.count else if pl.way = 2 then List.range' (c + 1) (pl.count - (c + 1)) else []
def markStep (m : KS) (mk : List Bool) (o : Nat) : List Bool := if (m.on.getD o false || decide (m.stopping = some o)) = true then mk.set o true else mk
def markM (pl : Kgo2.Plan) (m : KS) (c : Nat) : KS := { m with marked := (besideL pl c).foldl (markStep m) (m.marked.set c true) }
def beginAnewM (pl : Kgo2.Plan) (m : KS) (c : Nat) : KS :=
  if pl.most < (noteM pl m).notes.length then endForM pl (noteM pl m) 1 else onWithM pl { markM pl (noteM pl m) c with mode := 1 }
def begunB (pl : Kgo2.Plan) (c y : Nat) : Bool := if pl.how.getD c 0 = 1 then y != 0 else pl.how.getD c 0 == 0
def endedM (pl : Kgo2.Plan) (m : KS) (c y : Nat) : Int × KS :=
  if pl.count ≤ c then (-22, m) else
  if m.stopping = some c then (0, onWithM pl { m with stopping := none }) else
  if m.on.getD c false = false then (-2, m) else
  if (m.marked.getD c false || m.mode == 2) = true then (0, { m with on := m.on.set c false }) else
  if begunB pl c y = true then (0, beginAnewM pl { m with on := m.on.set c false } c) else (0, { m with on := m.on.set c false })
def stopM (pl : Kgo2.Plan) (m : KS) : Int × KS := if m.mode = 2 ∨ m.mode = 3 then (-11, m) else (0, endForM pl m 0)
def tickM (m : KS) : KS :=
  match m.stopping with
  | none => { m with now := m.now + 1 }
  | some c => if 0 < m.left then (if m.left = 1 then tellM { m with now := m.now + 1, left := m.left - 1 } 1 (c : Int) 1 else { m with now := m.now + 1, left := m.left - 1 }) else { m with now := m.now + 1 }
def bitsM (pl : Kgo2.Plan) (m : KS) : Int := (((List.range pl.count).filter fun c => m.on.getD c false).map fun (c : Nat) => (1 : Int) * 2 ^ c).sum
def lookM (pl : Kgo2.Plan) (m : KS) : List Int := [(m.mode : Int), bitsM pl m, (match m.stopping with | none => 0 | some c => (c : Int) + 1), (m.notes.length : Int)]
def rightB (pl : Kgo2.Plan) : Bool :=
  decide (pl.way ≤ 2) && decide (pl.most ≤ 15) && decide (1 ≤ pl.within) && decide (pl.within ≤ 65535) && decide (1 ≤ pl.count) && decide (pl.count ≤ 8) &&
    (pl.how.take pl.count).all (fun n => decide (n ≤ 2)) && (pl.patience.take pl.count).all (fun n => decide (n ≤ 65535))
def freshM (pl : Kgo2.Plan) (m : KS) : KS := unmarkM pl { m with mode := 0, now := 0, notes := [], on := List.replicate pl.count false, stopping := none }
def startM (pl : Kgo2.Plan) (m : KS) : KS := beginUp (freshM pl m) pl.count
def newM : KS := ⟨[], 3, 0, 0, [], [], [], none, 0⟩
/-- what holds of a plan that stands, and of the state beside it -/
structure Wf (pl : Kgo2.Plan) (m : KS) : Prop where
  onl : m.on.length = pl.count
  mkl : m.marked.length = pl.count
  cnt : pl.count ≤ 8
  hl : pl.how.length = 8
  ql : pl.patience.length = 8
  st : ∀ c, m.stopping = some c → c < pl.count
  nl : m.notes.length ≤ 20
theorem beginUp_told (m : KS) : ∀ i, (beginUp m i).told.length = m.told.length + 3 * i
  | 0 => rfl
  | i + 1 => by
    show ((beginUp m i).told ++ [0, (i : Int), 0]).length = _
    rw [List.length_append, beginUp_told m i]
    show m.told.length + 3 * i + 3 = _
    omega
theorem markedUp_told (m : KS) : ∀ i, (markedUp m i).told.length ≤ m.told.length + 3 * i
  | 0 => Nat.le_refl _
  | i + 1 => by
    have h := markedUp_told m i
    unfold markedUp
    split
    · show ((markedUp m i).told ++ [0, (i : Int), 0]).length ≤ _
      rw [List.length_append]
      show (markedUp m i).told.length + 3 ≤ _
      omega
    · omega
theorem markedUp_marked (m : KS) : ∀ i, (markedUp m i).marked = m.marked
  | 0 => rfl
  | i + 1 => by
    unfold markedUp
    split
    · exact markedUp_marked m i
    · exact markedUp_marked m i
theorem beginUp_wf {pl : Kgo2.Plan} {m : KS} (w : Wf pl m) : ∀ i, Wf pl (beginUp m i)
  | 0 => w
  | i + 1 => by
    have h := beginUp_wf w i
    refine ⟨?_, h.mkl, h.cnt, h.hl, h.ql, h.st, h.nl⟩
    show ((beginUp m i).on.set i true).length = _
    rw [List.length_set]
    exact h.onl
theorem markedUp_wf {pl : Kgo2.Plan} {m : KS} (w : Wf pl m) : ∀ i, Wf pl (markedUp m i)
  | 0 => w
  | i + 1 => by
    have h := markedUp_wf w i
    unfold markedUp
    split
    · refine ⟨?_, h.mkl, h.cnt, h.hl, h.ql, h.st, h.nl⟩
      show ((markedUp m i).on.set i true).length = _
      rw [List.length_set]
      exact h.onl
    · exact h
theorem unmark_wf {pl : Kgo2.Plan} {m : KS} (w : Wf pl m) : Wf pl (unmarkM pl m) :=
  ⟨w.onl, by show (List.replicate pl.count false).length = _; rw [List.length_replicate], w.cnt, w.hl, w.ql, w.st, w.nl⟩
theorem off_wf {pl : Kgo2.Plan} {m : KS} (w : Wf pl m) (c : Nat) : Wf pl { m with on := m.on.set c false } :=
  ⟨by show (m.on.set c false).length = _; rw [List.length_set]; exact w.onl, w.mkl, w.cnt, w.hl, w.ql, w.st, w.nl⟩
theorem free_wf {pl : Kgo2.Plan} {m : KS} (w : Wf pl m) : Wf pl { m with stopping := none } :=
  ⟨w.onl, w.mkl, w.cnt, w.hl, w.ql, (fun _ e => by cases e), w.nl⟩
theorem mode_wf {pl : Kgo2.Plan} {m : KS} (w : Wf pl m) (x y : Nat) : Wf pl { m with mode := x, why := y } := ⟨w.onl, w.mkl, w.cnt, w.hl, w.ql, w.st, w.nl⟩
theorem mark_fold_len (m : KS) : ∀ (l : List Nat) (mk : List Bool), (l.foldl (markStep m) mk).length = mk.length
  | [], _ => rfl
  | o :: l, mk => by
    rw [List.foldl_cons, mark_fold_len m l]
    unfold markStep
    split
    · rw [List.length_set]
    · rfl
theorem mark_wf {pl : Kgo2.Plan} {m : KS} (w : Wf pl m) (c : Nat) : Wf pl (markM pl m c) :=
  ⟨w.onl, by show ((besideL pl c).foldl (markStep m) (m.marked.set c true)).length = _; rw [mark_fold_len, List.length_set]; exact w.mkl, w.cnt, w.hl, w.ql, w.st, w.nl⟩
end Ck
/-! THE TEXT BY PLACES, its addresses, and what the walk asks of them -/
namespace Ck
open PySem L2
def top (i : Nat) : Stmt := PySem.Challenge.pw_childkeep_s01_answers.main.body.getD i (.Pass ⟨0, 0, 0, 0⟩)
abbrev sPinit : Stmt := inClass (top 28) 0
abbrev sPis_right : Stmt := inClass (top 28) 1
abbrev sPis_begun_anew : Stmt := inClass (top 28) 2
abbrev sPbeside : Stmt := inClass (top 28) 3
abbrev sKinit : Stmt := inClass (top 29) 0
abbrev sKstart : Stmt := inClass (top 29) 1
abbrev sKended : Stmt := inClass (top 29) 2
abbrev sKstop : Stmt := inClass (top 29) 3
abbrev sKtick : Stmt := inClass (top 29) 4
abbrev sKlook : Stmt := inClass (top 29) 5
abbrev sKtell : Stmt := inClass (top 29) 6
abbrev sKbegin : Stmt := inClass (top 29) 7
abbrev sKask : Stmt := inClass (top 29) 8
abbrev sKunmark : Stmt := inClass (top 29) 9
abbrev sKmark : Stmt := inClass (top 29) 10
abbrev sKnote : Stmt := inClass (top 29) 11
abbrev sKbegin_anew : Stmt := inClass (top 29) 12
abbrev sKend_for : Stmt := inClass (top 29) 13
abbrev sKon_with_it : Stmt := inClass (top 29) 14
abbrev sKis_to_be_asked : Stmt := inClass (top 29) 15
abbrev sKbegin_marked : Stmt := inClass (top 29) 16
abbrev sRinit : Stmt := inClass (top 30) 0
abbrev sRhas_more : Stmt := inClass (top 30) 1
abbrev sRnumber : Stmt := inClass (top 30) 2
abbrev sRrow : Stmt := inClass (top 30) 3
abbrev sGread_plan : Stmt := top 31
abbrev sGanswer : Stmt := top 32
abbrev sGanswers : Stmt := top 33
/-- the addresses of the classes and the defs -/
structure Adr where
  cP : Addr
  cK : Addr
  cR : Addr
  fPinit : Addr
  dPinit : FuncData
  fPis_right : Addr
  dPis_right : FuncData
  fPis_begun_anew : Addr
  dPis_begun_anew : FuncData
  fPbeside : Addr
  dPbeside : FuncData
  fKinit : Addr
  dKinit : FuncData
  fKstart : Addr
  dKstart : FuncData
  fKended : Addr
  dKended : FuncData
  fKstop : Addr
  dKstop : FuncData
  fKtick : Addr
  dKtick : FuncData
  fKlook : Addr
  dKlook : FuncData
  fKtell : Addr
  dKtell : FuncData
  fKbegin : Addr
  dKbegin : FuncData
  fKask : Addr
  dKask : FuncData
  fKunmark : Addr
  dKunmark : FuncData
  fKmark : Addr
  dKmark : FuncData
  fKnote : Addr
  dKnote : FuncData
  fKbegin_anew : Addr
  dKbegin_anew : FuncData
  fKend_for : Addr
  dKend_for : FuncData
  fKon_with_it : Addr
  dKon_with_it : FuncData
  fKis_to_be_asked : Addr
  dKis_to_be_asked : FuncData
  fKbegin_marked : Addr
  dKbegin_marked : FuncData
  fRinit : Addr
  dRinit : FuncData
  fRhas_more : Addr
  dRhas_more : FuncData
  fRnumber : Addr
  dRnumber : FuncData
  fRrow : Addr
  dRrow : FuncData
  fGread_plan : Addr
  dGread_plan : FuncData
  fGanswer : Addr
  dGanswer : FuncData
  fGanswers : Addr
  dGanswers : FuncData
/-- a name of the module that holds an int -/
def GI (mg : Str → Option Value) (x : Str) (i : Int) : Prop := ∃ t, mg x = some (.int i t)
structure Txt (K : PySem.W.Frag) (mg : Str → Option Value) (A : Adr) : Prop where
  clP : Cls K A.cP
  mgP : mg "Plan" = some (.ref A.cP)
  mkP : Mk K A.cP A.fPinit
  nPway : NoAttr K A.cP "way"
  nPmost : NoAttr K A.cP "most"
  nPwithin : NoAttr K A.cP "within"
  nPcount : NoAttr K A.cP "count"
  nPhow : NoAttr K A.cP "how"
  nPpatience : NoAttr K A.cP "patience"
  clK : Cls K A.cK
  mgK : mg "Keeper" = some (.ref A.cK)
  mkK : Mk K A.cK A.fKinit
  nKtold : NoAttr K A.cK "told"
  nKplan : NoAttr K A.cK "plan"
  nKmode : NoAttr K A.cK "mode"
  nKwhy : NoAttr K A.cK "why"
  nKnow : NoAttr K A.cK "now"
  nKnotes : NoAttr K A.cK "notes"
  nKon : NoAttr K A.cK "on"
  nKmarked : NoAttr K A.cK "marked"
  nKstopping : NoAttr K A.cK "stopping"
  nKleft : NoAttr K A.cK "left"
  clR : Cls K A.cR
  mgR : mg "Reader" = some (.ref A.cR)
  mkR : Mk K A.cR A.fRinit
  nRnumbers : NoAttr K A.cR "numbers"
  nRplace : NoAttr K A.cR "place"
  FPinit : Fun K "__init__" "Plan.__init__" sPinit A.fPinit A.dPinit
  bPinit : Binds K A.dPinit ["self", "way", "most", "within", "count", "how", "patience"] []
  FPis_right : Fun K "is_right" "Plan.is_right" sPis_right A.fPis_right A.dPis_right
  bPis_right : Binds K A.dPis_right ["self"] []
  mPis_right : Meth K A.cP "is_right" A.fPis_right
  FPis_begun_anew : Fun K "is_begun_anew" "Plan.is_begun_anew" sPis_begun_anew A.fPis_begun_anew A.dPis_begun_anew
  bPis_begun_anew : Binds K A.dPis_begun_anew ["self", "child", "why"] []
  mPis_begun_anew : Meth K A.cP "is_begun_anew" A.fPis_begun_anew
  FPbeside : Fun K "beside" "Plan.beside" sPbeside A.fPbeside A.dPbeside
  bPbeside : Binds K A.dPbeside ["self", "child"] []
  mPbeside : Meth K A.cP "beside" A.fPbeside
  FKinit : Fun K "__init__" "Keeper.__init__" sKinit A.fKinit A.dKinit
  bKinit : Binds K A.dKinit ["self"] []
  FKstart : Fun K "start" "Keeper.start" sKstart A.fKstart A.dKstart
  bKstart : Binds K A.dKstart ["self", "plan"] []
  mKstart : Meth K A.cK "start" A.fKstart
  FKended : Fun K "ended" "Keeper.ended" sKended A.fKended A.dKended
  bKended : Binds K A.dKended ["self", "child", "why"] []
  mKended : Meth K A.cK "ended" A.fKended
  FKstop : Fun K "stop" "Keeper.stop" sKstop A.fKstop A.dKstop
  bKstop : Binds K A.dKstop ["self"] []
  mKstop : Meth K A.cK "stop" A.fKstop
  FKtick : Fun K "tick" "Keeper.tick" sKtick A.fKtick A.dKtick
  bKtick : Binds K A.dKtick ["self"] []
  mKtick : Meth K A.cK "tick" A.fKtick
  FKlook : Fun K "look" "Keeper.look" sKlook A.fKlook A.dKlook
  bKlook : Binds K A.dKlook ["self"] []
  mKlook : Meth K A.cK "look" A.fKlook
  FKtell : Fun K "tell" "Keeper.tell" sKtell A.fKtell A.dKtell
  bKtell : Binds K A.dKtell ["self", "thing", "about", "besides"] []
  mKtell : Meth K A.cK "tell" A.fKtell
  FKbegin : Fun K "begin" "Keeper.begin" sKbegin A.fKbegin A.dKbegin
  bKbegin : Binds K A.dKbegin ["self", "child"] []
  mKbegin : Meth K A.cK "begin" A.fKbegin
  FKask : Fun K "ask" "Keeper.ask" sKask A.fKask A.dKask
  bKask : Binds K A.dKask ["self", "child"] []
  mKask : Meth K A.cK "ask" A.fKask
  FKunmark : Fun K "unmark" "Keeper.unmark" sKunmark A.fKunmark A.dKunmark
  bKunmark : Binds K A.dKunmark ["self"] []
  mKunmark : Meth K A.cK "unmark" A.fKunmark
  FKmark : Fun K "mark" "Keeper.mark" sKmark A.fKmark A.dKmark
  bKmark : Binds K A.dKmark ["self", "child"] []
  mKmark : Meth K A.cK "mark" A.fKmark
  FKnote : Fun K "note" "Keeper.note" sKnote A.fKnote A.dKnote
  bKnote : Binds K A.dKnote ["self"] []
  mKnote : Meth K A.cK "note" A.fKnote
  FKbegin_anew : Fun K "begin_anew" "Keeper.begin_anew" sKbegin_anew A.fKbegin_anew A.dKbegin_anew
  bKbegin_anew : Binds K A.dKbegin_anew ["self", "child"] []
  mKbegin_anew : Meth K A.cK "begin_anew" A.fKbegin_anew
  FKend_for : Fun K "end_for" "Keeper.end_for" sKend_for A.fKend_for A.dKend_for
  bKend_for : Binds K A.dKend_for ["self", "why"] []
  mKend_for : Meth K A.cK "end_for" A.fKend_for
  FKon_with_it : Fun K "on_with_it" "Keeper.on_with_it" sKon_with_it A.fKon_with_it A.dKon_with_it
  bKon_with_it : Binds K A.dKon_with_it ["self"] []
  mKon_with_it : Meth K A.cK "on_with_it" A.fKon_with_it
  FKis_to_be_asked : Fun K "is_to_be_asked" "Keeper.is_to_be_asked" sKis_to_be_asked A.fKis_to_be_asked A.dKis_to_be_asked
  bKis_to_be_asked : Binds K A.dKis_to_be_asked ["self", "child"] []
  mKis_to_be_asked : Meth K A.cK "is_to_be_asked" A.fKis_to_be_asked
  FKbegin_marked : Fun K "begin_marked" "Keeper.begin_marked" sKbegin_marked A.fKbegin_marked A.dKbegin_marked
  bKbegin_marked : Binds K A.dKbegin_marked ["self"] []
  mKbegin_marked : Meth K A.cK "begin_marked" A.fKbegin_marked
  FRinit : Fun K "__init__" "Reader.__init__" sRinit A.fRinit A.dRinit
  bRinit : Binds K A.dRinit ["self", "numbers"] []
  FRhas_more : Fun K "has_more" "Reader.has_more" sRhas_more A.fRhas_more A.dRhas_more
  bRhas_more : Binds K A.dRhas_more ["self"] []
  mRhas_more : Meth K A.cR "has_more" A.fRhas_more
  FRnumber : Fun K "number" "Reader.number" sRnumber A.fRnumber A.dRnumber
  bRnumber : Binds K A.dRnumber ["self"] []
  mRnumber : Meth K A.cR "number" A.fRnumber
  FRrow : Fun K "row" "Reader.row" sRrow A.fRrow A.dRrow
  bRrow : Binds K A.dRrow ["self"] []
  mRrow : Meth K A.cR "row" A.fRrow
  FGread_plan : Fun K "read_plan" "read_plan" sGread_plan A.fGread_plan A.dGread_plan
  bGread_plan : Binds K A.dGread_plan ["reader"] []
  gGread_plan : mg "read_plan" = some (.ref A.fGread_plan)
  kGread_plan : PySem.W.keepIn K (.ref A.fGread_plan) = true
  FGanswer : Fun K "answer" "answer" sGanswer A.fGanswer A.dGanswer
  bGanswer : Binds K A.dGanswer ["keeper", "reader"] []
  gGanswer : mg "answer" = some (.ref A.fGanswer)
  kGanswer : PySem.W.keepIn K (.ref A.fGanswer) = true
  FGanswers : Fun K "answers" "answers" sGanswers A.fGanswers A.dGanswers
  bGanswers : Binds K A.dGanswers ["calls"] []
  gGanswers : mg "answers" = some (.ref A.fGanswers)
  kGanswers : PySem.W.keepIn K (.ref A.fGanswers) = true
  iCALL_START : GI mg "CALL_START" (0)
  iCALL_ENDED : GI mg "CALL_ENDED" (1)
  iCALL_STOP : GI mg "CALL_STOP" (2)
  iCALL_TICK : GI mg "CALL_TICK" (3)
  iDONE : GI mg "DONE" (0)
  iWRONG : GI mg "WRONG" (-22)
  iIS_OFF : GI mg "IS_OFF" (-2)
  iTOO_LATE : GI mg "TOO_LATE" (-11)
  iTELL_BEGIN : GI mg "TELL_BEGIN" (0)
  iTELL_HALT : GI mg "TELL_HALT" (1)
  iTELL_OVER : GI mg "TELL_OVER" (2)
  iKEEPING : GI mg "KEEPING" (0)
  iBEGINNING_ANEW : GI mg "BEGINNING_ANEW" (1)
  iENDING : GI mg "ENDING" (2)
  iOVER : GI mg "OVER" (3)
  iWAY_ALL : GI mg "WAY_ALL" (1)
  iWAY_BEHIND : GI mg "WAY_BEHIND" (2)
  iHOW_ALWAYS : GI mg "HOW_ALWAYS" (0)
  iHOW_UNLESS_WELL : GI mg "HOW_UNLESS_WELL" (1)
  iWHY_ASKED_FOR : GI mg "WHY_ASKED_FOR" (0)
  iWHY_TOO_OFTEN : GI mg "WHY_TOO_OFTEN" (1)
  iLARGEST_WAY : GI mg "LARGEST_WAY" (2)
  iLARGEST_MOST : GI mg "LARGEST_MOST" (15)
  iLARGEST_WITHIN : GI mg "LARGEST_WITHIN" (65535)
  iLARGEST_COUNT : GI mg "LARGEST_COUNT" (8)
  iLARGEST_HOW : GI mg "LARGEST_HOW" (2)
  iLARGEST_PATIENCE : GI mg "LARGEST_PATIENCE" (65535)
  orange : mg "range" = none
  omax : mg "max" = none
  osum : mg "sum" = none
  olen : mg "len" = none
  olist : mg "list" = none
end Ck
/-! THE OBJECTS AS THEY STAND -/
namespace Ck
open PySem L2
/-- a number that is no less than 0 -/
abbrev nI (n : Nat) : V := .int (n : Int)
structure KF where
  told : V
  plan : V
  mode : V
  why : V
  now : V
  notes : V
  on : V
  marked : V
  stopping : V
  left : V
def KF.l (x : KF) : List (Str × V) := [("told", x.told), ("plan", x.plan), ("mode", x.mode), ("why", x.why), ("now", x.now), ("notes", x.notes), ("on", x.on), ("marked", x.marked), ("stopping", x.stopping), ("left", x.left)]
structure PF where
  way : V
  most : V
  within : V
  count : V
  how : V
  patience : V
def PF.l (x : PF) : List (Str × V) := [("way", x.way), ("most", x.most), ("within", x.within), ("count", x.count), ("how", x.how), ("patience", x.patience)]
structure RF where
  numbers : V
  place : V
def RF.l (x : RF) : List (Str × V) := [("numbers", x.numbers), ("place", x.place)]
section
variable (x : KF) (v : V)
theorem KF.g_told : x.l.lookup ("told" : Str) = some x.told := rfl
theorem KF.g_plan : x.l.lookup ("plan" : Str) = some x.plan := rfl
theorem KF.g_mode : x.l.lookup ("mode" : Str) = some x.mode := rfl
theorem KF.g_why : x.l.lookup ("why" : Str) = some x.why := rfl
theorem KF.g_now : x.l.lookup ("now" : Str) = some x.now := rfl
theorem KF.g_notes : x.l.lookup ("notes" : Str) = some x.notes := rfl
theorem KF.g_on : x.l.lookup ("on" : Str) = some x.on := rfl
theorem KF.g_marked : x.l.lookup ("marked" : Str) = some x.marked := rfl
theorem KF.g_stopping : x.l.lookup ("stopping" : Str) = some x.stopping := rfl
theorem KF.g_left : x.l.lookup ("left" : Str) = some x.left := rfl
theorem KF.p_told : putF "told" v x.l = ({ x with told := v } : KF).l := rfl
theorem KF.p_plan : putF "plan" v x.l = ({ x with plan := v } : KF).l := rfl
theorem KF.p_mode : putF "mode" v x.l = ({ x with mode := v } : KF).l := rfl
theorem KF.p_why : putF "why" v x.l = ({ x with why := v } : KF).l := rfl
theorem KF.p_now : putF "now" v x.l = ({ x with now := v } : KF).l := rfl
theorem KF.p_notes : putF "notes" v x.l = ({ x with notes := v } : KF).l := rfl
theorem KF.p_on : putF "on" v x.l = ({ x with on := v } : KF).l := rfl
theorem KF.p_marked : putF "marked" v x.l = ({ x with marked := v } : KF).l := rfl
theorem KF.p_stopping : putF "stopping" v x.l = ({ x with stopping := v } : KF).l := rfl
theorem KF.p_left : putF "left" v x.l = ({ x with left := v } : KF).l := rfl
theorem KF.few : x.l.length < 1000 := by show 10 < 1000; decide
end
section
variable (x : PF)
theorem PF.g_way : x.l.lookup ("way" : Str) = some x.way := rfl
theorem PF.g_most : x.l.lookup ("most" : Str) = some x.most := rfl
theorem PF.g_within : x.l.lookup ("within" : Str) = some x.within := rfl
theorem PF.g_count : x.l.lookup ("count" : Str) = some x.count := rfl
theorem PF.g_how : x.l.lookup ("how" : Str) = some x.how := rfl
theorem PF.g_patience : x.l.lookup ("patience" : Str) = some x.patience := rfl
end
section
variable (x : RF) (v : V)
theorem RF.g_numbers : x.l.lookup ("numbers" : Str) = some x.numbers := rfl
theorem RF.g_place : x.l.lookup ("place" : Str) = some x.place := rfl
theorem RF.p_place : putF "place" v x.l = ({ x with place := v } : RF).l := rfl
theorem RF.few : x.l.length < 1000 := by show 2 < 1000; decide
end
def stV : Option Nat → V
  | none => .non
  | some c => nI c
def plF (pl : Kgo2.Plan) (lh lq : Addr) : PF := ⟨nI pl.way, nI pl.most, nI pl.within, nI pl.count, .ref lh, .ref lq⟩
/-- a plan stands at p -/
structure PlanAt (A : Adr) (F : Hp) (p lh lq : Addr) (pl : Kgo2.Plan) : Prop where
  ob : ∃ dx, F p = some (.ins A.cP dx (plF pl lh lq).l)
  how : F lh = some (.lst (pl.how.map nI))
  pat : F lq = some (.lst (pl.patience.map nI))
/-- the keeper's plan, if it has one; ps: its addresses -/
def PlanV (A : Adr) (F : Hp) (pv : V) (po : Option Kgo2.Plan) (ps : List Addr) : Prop := match po with
  | none => pv = .non ∧ ps = []
  | some pl => ∃ p lh lq, pv = .ref p ∧ ps = [p, lh, lq] ∧ PlanAt A F p lh lq pl
theorem PlanAt.sub {A : Adr} {F F' : Hp} {p lh lq : Addr} {pl : Kgo2.Plan} (P : PlanAt A F p lh lq pl) (s : ∀ b o, b ∈ [p, lh, lq] → F b = some o → F' b = some o) : PlanAt A F' p lh lq pl := by
  obtain ⟨⟨dx, h1⟩, h2, h3⟩ := P
  exact ⟨⟨dx, s _ _ (by simp) h1⟩, s _ _ (by simp) h2, s _ _ (by simp) h3⟩
theorem PlanV.sub {A : Adr} {F F' : Hp} {pv : V} {po : Option Kgo2.Plan} {ps : List Addr} (P : PlanV A F pv po ps) (s : ∀ b o, b ∈ ps → F b = some o → F' b = some o) : PlanV A F' pv po ps := by
  cases po with
  | none => exact P
  | some pl =>
    obtain ⟨p, lh, lq, e1, e2, P⟩ := P
    subst e2
    exact ⟨p, lh, lq, e1, rfl, P.sub s⟩
theorem PlanV.there {A : Adr} {F : Hp} {pv : V} {po : Option Kgo2.Plan} {ps : List Addr} (P : PlanV A F pv po ps) : ∀ b ∈ ps, ∃ o, F b = some o := by
  cases po with
  | none =>
    obtain ⟨_, e⟩ := P
    subst e
    intro b hb
    cases hb
  | some pl =>
    obtain ⟨p, lh, lq, e1, e2, ⟨dx, h1⟩, h2, h3⟩ := P
    subst e2
    intro b hb
    simp only [List.mem_cons, List.not_mem_nil, or_false] at hb
    rcases hb with rfl | rfl | rfl
    · exact ⟨_, h1⟩
    · exact ⟨_, h2⟩
    · exact ⟨_, h3⟩
def mF (m : KS) (pv : V) (lt ln lo lm : Addr) : KF := ⟨.ref lt, pv, nI m.mode, nI m.why, nI m.now, .ref ln, .ref lo, .ref lm, stV m.stopping, nI m.left⟩
/-- a keeper stands at k, its own lists at lt, ln, lo, lm; F is all that is not its own (its plan lies in F) -/
structure KO (A : Adr) (F H : Hp) (k : Addr) (po : Option Kgo2.Plan) (ps : List Addr) (m : KS) (dx lt ln lo lm : Addr) (pv : V) : Prop where
  ob : H k = some (.ins A.cK dx (mF m pv lt ln lo lm).l)
  told : H lt = some (.lst (m.told.map V.int))
  notes : H ln = some (.lst (m.notes.map nI))
  on : H lo = some (.lst (m.on.map V.bl))
  marked : H lm = some (.lst (m.marked.map V.bl))
  same : Same F H
  fk : F k = none
  ft : F lt = none
  fn : F ln = none
  fo : F lo = none
  fm : F lm = none
  tn : lt ≠ ln
  to : lt ≠ lo
  tm : lt ≠ lm
  no : ln ≠ lo
  nm : ln ≠ lm
  om : lo ≠ lm
  plan : PlanV A F pv po ps
def KAt (A : Adr) (F H : Hp) (k : Addr) (po : Option Kgo2.Plan) (ps : List Addr) (m : KS) : Prop := ∃ dx lt ln lo lm pv, KO A F H k po ps m dx lt ln lo lm pv
section
variable {A : Adr} {F H : Hp} {k : Addr} {po : Option Kgo2.Plan} {ps : List Addr} {m : KS} {dx lt ln lo lm : Addr} {pv : V}
theorem insLst {C dx : Addr} {fs : List (Str × V)} {xs : List V} : HO.ins C dx fs ≠ HO.lst xs := fun z => by cases z
theorem KO.kt (O : KO A F H k po ps m dx lt ln lo lm pv) : k ≠ lt := ne_of O.ob O.told insLst
theorem KO.kn (O : KO A F H k po ps m dx lt ln lo lm pv) : k ≠ ln := ne_of O.ob O.notes insLst
theorem KO.ko (O : KO A F H k po ps m dx lt ln lo lm pv) : k ≠ lo := ne_of O.ob O.on insLst
theorem KO.km (O : KO A F H k po ps m dx lt ln lo lm pv) : k ≠ lm := ne_of O.ob O.marked insLst
/-- what is in F is not written where it is not -/
theorem same_own {F H : Hp} {a : Addr} {o : HO} (s : Same F H) (h : F a = none) : Same F (upd H a o) := fun b u e => by
  rw [upd_ne (ne_of_none e h)]
  exact s b u e
theorem fresh_F {F H : Hp} {l : Addr} (s : Same F H) (h : H l = none) : F l = none := s.free h
/-- another object, not the keeper's: new, or one of F that isn't the plan's -/
theorem KO.add (O : KO A F H k po ps m dx lt ln lo lm pv) {r : Addr} {o : HO} (hr : H r = none ∨ (F r ≠ none ∧ r ∉ ps)) : KO A (upd F r o) (upd H r o) k po ps m dx lt ln lo lm pv := by
  have hne : ∀ {b : Addr} {u : HO}, H b = some u → F b = none → b ≠ r := fun {b u} e f z => by
    subst z
    rcases hr with h | h
    · rw [h] at e
      cases e
    · exact h.1 f
  have hps : r ∉ ps := by
    rcases hr with h | h
    · intro z
      obtain ⟨u, e⟩ := O.plan.there r z
      rw [O.same r u e] at h
      cases h
    · exact h.2
  have h1 := hne O.ob O.fk
  have h2 := hne O.told O.ft
  have h3 := hne O.notes O.fn
  have h4 := hne O.on O.fo
  have h5 := hne O.marked O.fm
  refine ⟨by rw [upd_ne h1]; exact O.ob, by rw [upd_ne h2]; exact O.told, by rw [upd_ne h3]; exact O.notes, by rw [upd_ne h4]; exact O.on, by rw [upd_ne h5]; exact O.marked, ?_,
    by rw [upd_ne h1]; exact O.fk, by rw [upd_ne h2]; exact O.ft, by rw [upd_ne h3]; exact O.fn, by rw [upd_ne h4]; exact O.fo, by rw [upd_ne h5]; exact O.fm, O.tn, O.to, O.tm, O.no, O.nm, O.om, ?_⟩
  · intro b u e
    by_cases hb : b = r
    · subst hb
      rw [upd_same] at e ⊢
      exact e
    · rw [upd_ne hb] at e ⊢
      exact O.same b u e
  · refine O.plan.sub fun b u hb e => ?_
    rw [upd_ne (fun z => hps (by rw [← z]; exact hb))]
    exact e
theorem KAt.add (O : KAt A F H k po ps m) {r : Addr} {o : HO} (hr : H r = none ∨ (F r ≠ none ∧ r ∉ ps)) : KAt A (upd F r o) (upd H r o) k po ps m := by
  obtain ⟨dx, lt, ln, lo, lm, pv, O⟩ := O
  exact ⟨dx, lt, ln, lo, lm, pv, O.add hr⟩
/-- a new object that nobody keeps in mind -/
theorem KO.fresh (O : KO A F H k po ps m dx lt ln lo lm pv) {r : Addr} {o : HO} (hr : H r = none) : KO A F (upd H r o) k po ps m dx lt ln lo lm pv := by
  have hne : ∀ {b : Addr} {u : HO}, H b = some u → b ≠ r := fun {b u} e => ne_of_none e hr
  refine ⟨by rw [upd_ne (hne O.ob)]; exact O.ob, by rw [upd_ne (hne O.told)]; exact O.told, by rw [upd_ne (hne O.notes)]; exact O.notes, by rw [upd_ne (hne O.on)]; exact O.on, by rw [upd_ne (hne O.marked)]; exact O.marked,
    same_own O.same (fresh_F O.same hr), O.fk, O.ft, O.fn, O.fo, O.fm, O.tn, O.to, O.tm, O.no, O.nm, O.om, O.plan⟩
/-- the keeper's numbers changed -/
theorem KO.nums (O : KO A F H k po ps m dx lt ln lo lm pv) {m' : KS} {fs : List (Str × V)} (e : fs = (mF m' pv lt ln lo lm).l) (h1 : m'.told = m.told) (h2 : m'.notes = m.notes) (h3 : m'.on = m.on) (h4 : m'.marked = m.marked) : KO A F (upd H k (.ins A.cK dx fs)) k po ps m' dx lt ln lo lm pv := by
  subst e
  refine ⟨upd_same, by rw [upd_ne O.kt.symm, h1]; exact O.told, by rw [upd_ne O.kn.symm, h2]; exact O.notes, by rw [upd_ne O.ko.symm, h3]; exact O.on, by rw [upd_ne O.km.symm, h4]; exact O.marked,
    same_own O.same O.fk, O.fk, O.ft, O.fn, O.fo, O.fm, O.tn, O.to, O.tm, O.no, O.nm, O.om, O.plan⟩
/-- a list of the keeper's written -/
theorem KO.setTold (O : KO A F H k po ps m dx lt ln lo lm pv) {xs : List Int} {ys : List V} (e : ys = xs.map V.int) : KO A F (upd H lt (.lst ys)) k po ps { m with told := xs } dx lt ln lo lm pv := by
  subst e
  refine ⟨by rw [upd_ne O.kt]; exact O.ob, upd_same, by rw [upd_ne O.tn.symm]; exact O.notes, by rw [upd_ne O.to.symm]; exact O.on, by rw [upd_ne O.tm.symm]; exact O.marked,
    same_own O.same O.ft, O.fk, O.ft, O.fn, O.fo, O.fm, O.tn, O.to, O.tm, O.no, O.nm, O.om, O.plan⟩
theorem KO.setOn (O : KO A F H k po ps m dx lt ln lo lm pv) {xs : List Bool} {ys : List V} (e : ys = xs.map V.bl) : KO A F (upd H lo (.lst ys)) k po ps { m with on := xs } dx lt ln lo lm pv := by
  subst e
  refine ⟨by rw [upd_ne O.ko]; exact O.ob, by rw [upd_ne O.to]; exact O.told, by rw [upd_ne O.no]; exact O.notes, upd_same, by rw [upd_ne O.om.symm]; exact O.marked,
    same_own O.same O.fo, O.fk, O.ft, O.fn, O.fo, O.fm, O.tn, O.to, O.tm, O.no, O.nm, O.om, O.plan⟩
theorem KO.setMarked (O : KO A F H k po ps m dx lt ln lo lm pv) {xs : List Bool} {ys : List V} (e : ys = xs.map V.bl) : KO A F (upd H lm (.lst ys)) k po ps { m with marked := xs } dx lt ln lo lm pv := by
  subst e
  refine ⟨by rw [upd_ne O.km]; exact O.ob, by rw [upd_ne O.tm]; exact O.told, by rw [upd_ne O.nm]; exact O.notes, by rw [upd_ne O.om]; exact O.on, upd_same,
    same_own O.same O.fm, O.fk, O.ft, O.fn, O.fo, O.fm, O.tn, O.to, O.tm, O.no, O.nm, O.om, O.plan⟩
/-- a new list is the keeper's from here on (the old one is left where it is) -/
theorem KO.newTold (O : KO A F H k po ps m dx lt ln lo lm pv) {l : Addr} {xs : List Int} {fs : List (Str × V)} (hl : H l = some (.lst (xs.map V.int))) (fl : F l = none) (n2 : l ≠ ln) (n3 : l ≠ lo) (n4 : l ≠ lm)
    (e : fs = (mF { m with told := xs } pv l ln lo lm).l) : KO A F (upd H k (.ins A.cK dx fs)) k po ps { m with told := xs } dx l ln lo lm pv := by
  subst e
  refine ⟨upd_same, by rw [upd_ne (ne_of O.ob hl insLst).symm]; exact hl, by rw [upd_ne O.kn.symm]; exact O.notes, by rw [upd_ne O.ko.symm]; exact O.on, by rw [upd_ne O.km.symm]; exact O.marked,
    same_own O.same O.fk, O.fk, fl, O.fn, O.fo, O.fm, n2, n3, n4, O.no, O.nm, O.om, O.plan⟩
theorem KO.newNotes (O : KO A F H k po ps m dx lt ln lo lm pv) {l : Addr} {xs : List Nat} {fs : List (Str × V)} (hl : H l = some (.lst (xs.map nI))) (fl : F l = none) (n1 : lt ≠ l) (n3 : l ≠ lo) (n4 : l ≠ lm)
    (e : fs = (mF { m with notes := xs } pv lt l lo lm).l) : KO A F (upd H k (.ins A.cK dx fs)) k po ps { m with notes := xs } dx lt l lo lm pv := by
  subst e
  refine ⟨upd_same, by rw [upd_ne O.kt.symm]; exact O.told, by rw [upd_ne (ne_of O.ob hl insLst).symm]; exact hl, by rw [upd_ne O.ko.symm]; exact O.on, by rw [upd_ne O.km.symm]; exact O.marked,
    same_own O.same O.fk, O.fk, O.ft, fl, O.fo, O.fm, n1, O.to, O.tm, n3, n4, O.om, O.plan⟩
theorem KO.newOn (O : KO A F H k po ps m dx lt ln lo lm pv) {l : Addr} {xs : List Bool} {fs : List (Str × V)} (hl : H l = some (.lst (xs.map V.bl))) (fl : F l = none) (n1 : lt ≠ l) (n2 : ln ≠ l) (n4 : l ≠ lm)
    (e : fs = (mF { m with on := xs } pv lt ln l lm).l) : KO A F (upd H k (.ins A.cK dx fs)) k po ps { m with on := xs } dx lt ln l lm pv := by
  subst e
  refine ⟨upd_same, by rw [upd_ne O.kt.symm]; exact O.told, by rw [upd_ne O.kn.symm]; exact O.notes, by rw [upd_ne (ne_of O.ob hl insLst).symm]; exact hl, by rw [upd_ne O.km.symm]; exact O.marked,
    same_own O.same O.fk, O.fk, O.ft, O.fn, fl, O.fm, O.tn, n1, O.tm, n2, O.nm, n4, O.plan⟩
theorem KO.newMarked (O : KO A F H k po ps m dx lt ln lo lm pv) {l : Addr} {xs : List Bool} {fs : List (Str × V)} (hl : H l = some (.lst (xs.map V.bl))) (fl : F l = none) (n1 : lt ≠ l) (n2 : ln ≠ l) (n3 : lo ≠ l)
    (e : fs = (mF { m with marked := xs } pv lt ln lo l).l) : KO A F (upd H k (.ins A.cK dx fs)) k po ps { m with marked := xs } dx lt ln lo l pv := by
  subst e
  refine ⟨upd_same, by rw [upd_ne O.kt.symm]; exact O.told, by rw [upd_ne O.kn.symm]; exact O.notes, by rw [upd_ne O.ko.symm]; exact O.on, by rw [upd_ne (ne_of O.ob hl insLst).symm]; exact hl,
    same_own O.same O.fk, O.fk, O.ft, O.fn, O.fo, fl, O.tn, O.to, n1, O.no, n2, n3, O.plan⟩
/-- the plan's own numbers, read through the keeper's heap -/
theorem KO.thePlan {pl : Kgo2.Plan} (O : KO A F H k (some pl) ps m dx lt ln lo lm pv) : ∃ p lh lq dp, pv = .ref p ∧ H p = some (.ins A.cP dp (plF pl lh lq).l) ∧ H lh = some (.lst (pl.how.map nI)) ∧ H lq = some (.lst (pl.patience.map nI)) := by
  obtain ⟨p, lh, lq, e, _, ⟨dp, h1⟩, h2, h3⟩ := O.plan
  exact ⟨p, lh, lq, dp, e, O.same _ _ h1, O.same _ _ h2, O.same _ _ h3⟩
end
section
variable {X : Cx}
/-- a number that stands at a name of the module -/
theorem pgi {x : Str} {i : Int} {pos : Pos} (h : GI X.mg x i) (hg : Gl X x := by rfl) (hd : (x == ("__debug__" : Str)) = false := by decide) : PE X (.Name x pos) (tC (.int i)) := by
  obtain ⟨t, e⟩ := h
  exact pe_glob hg e ⟨t, rfl⟩ hd
end
/-! lists of bools and numbers by place -/
theorem getD_at {α : Type} {l : List α} {c : Nat} {d : α} (h : c < l.length) : l[c]? = some (l.getD c d) := by
  rw [List.getD_eq_getElem?_getD, List.getElem?_eq_getElem h]
  rfl
theorem bl_at {l : List Bool} {c : Nat} (h : c < l.length) : atI (l.map V.bl) (c : Int) = some (V.bl (l.getD c false)) := atI_nat (by rw [List.getElem?_map, getD_at h]; rfl)
theorem n_at {l : List Nat} {c : Nat} (h : c < l.length) : atI (l.map nI) (c : Int) = some (nI (l.getD c 0)) := atI_nat (by rw [List.getElem?_map, getD_at h]; rfl)
theorem ixN_nat {n c : Nat} (h : c < n) : ixN n (c : Int) = some c := by
  unfold ixN
  rw [if_pos (by omega), if_pos (by omega)]
  simp
theorem set_bl (l : List Bool) (c : Nat) (b : Bool) : (l.map V.bl).set c (V.bl b) = (l.set c b).map V.bl := by rw [List.map_set]
end Ck
namespace Ck
open PySem L2
section
variable {A : Adr} {F H H' : Hp} {k : Addr} {po : Option Kgo2.Plan} {ps : List Addr} {m : KS} {dx lt ln lo lm : Addr} {pv : V}
theorem KO.mono (O : KO A F H k po ps m dx lt ln lo lm pv) (s : Same H H') : KO A F H' k po ps m dx lt ln lo lm pv :=
  ⟨s _ _ O.ob, s _ _ O.told, s _ _ O.notes, s _ _ O.on, s _ _ O.marked, O.same.trans s, O.fk, O.ft, O.fn, O.fo, O.fm, O.tn, O.to, O.tm, O.no, O.nm, O.om, O.plan⟩
theorem KAt.mono (O : KAt A F H k po ps m) (s : Same H H') : KAt A F H' k po ps m := by
  obtain ⟨dx, lt, ln, lo, lm, pv, O⟩ := O
  exact ⟨dx, lt, ln, lo, lm, pv, O.mono s⟩
theorem Same.new {H : Hp} {l : Addr} {o : HO} (h : H l = none) : Same H (upd H l o) := fun b u e => by
  rw [upd_ne (ne_of_none e h)]
  exact e
theorem KAt.sameF (O : KAt A F H k po ps m) : Same F H := by
  obtain ⟨_, _, _, _, _, _, O⟩ := O
  exact O.same
/-- what was held apart is let go -/
theorem KAt.forget {l : Addr} {o : HO} (O : KAt A (upd F l o) H k po ps m) (hF : F l = none) (hp : l ∉ ps) : KAt A F H k po ps m := by
  obtain ⟨dx, lt, ln, lo, lm, pv, O⟩ := O
  have hn : ∀ {b : Addr}, upd F l o b = none → F b = none := fun {b} e => by
    by_cases hb : b = l
    · rw [hb, upd_same] at e
      cases e
    · rw [upd_ne hb] at e
      exact e
  refine ⟨dx, lt, ln, lo, lm, pv, O.ob, O.told, O.notes, O.on, O.marked, fun b u e => O.same b u ?_, hn O.fk, hn O.ft, hn O.fn, hn O.fo, hn O.fm, O.tn, O.to, O.tm, O.no, O.nm, O.om, ?_⟩
  · rw [upd_ne (ne_of_none e hF)]
    exact e
  · refine O.plan.sub fun b u hb e => ?_
    rw [upd_ne (fun z => hp (by rw [← z]; exact hb))] at e
    exact e
theorem KAt.notPlan (O : KAt A F H k po ps m) {l : Addr} (h : H l = none) : l ∉ ps := by
  obtain ⟨dx, lt, ln, lo, lm, pv, O⟩ := O
  intro z
  obtain ⟨u, e⟩ := O.plan.there l z
  rw [O.same l u e] at h
  cases h
end
theorem rep_flat (n : Nat) : (List.replicate n [V.bl false]).flatten = (List.replicate n false).map V.bl := by
  induction n with
  | zero => rfl
  | succ n ih =>
    rw [List.replicate_succ, List.flatten_cons, ih, List.replicate_succ]
    rfl
theorem z_add (i : Nat) : (0 : Int) + (i : Int) = (i : Int) := by omega
end Ck
namespace Ck
open PySem L2
section
variable {A : Adr} {F H H' : Hp} {k : Addr} {po : Option Kgo2.Plan} {ps : List Addr} {m : KS} {dx lt ln lo lm : Addr} {pv : V}
theorem KO.setMode (O : KO A F H k po ps m dx lt ln lo lm pv) (x : Nat) : KO A F (upd H k (.ins A.cK dx (putF "mode" (nI x) (mF m pv lt ln lo lm).l))) k po ps { m with mode := x } dx lt ln lo lm pv :=
  O.nums (m' := { m with mode := x }) (KF.p_mode (mF m pv lt ln lo lm) (nI x)) rfl rfl rfl rfl
theorem KO.setWhy (O : KO A F H k po ps m dx lt ln lo lm pv) (x : Nat) : KO A F (upd H k (.ins A.cK dx (putF "why" (nI x) (mF m pv lt ln lo lm).l))) k po ps { m with why := x } dx lt ln lo lm pv :=
  O.nums (m' := { m with why := x }) (KF.p_why (mF m pv lt ln lo lm) (nI x)) rfl rfl rfl rfl
theorem KO.setNow (O : KO A F H k po ps m dx lt ln lo lm pv) (x : Nat) : KO A F (upd H k (.ins A.cK dx (putF "now" (nI x) (mF m pv lt ln lo lm).l))) k po ps { m with now := x } dx lt ln lo lm pv :=
  O.nums (m' := { m with now := x }) (KF.p_now (mF m pv lt ln lo lm) (nI x)) rfl rfl rfl rfl
theorem KO.setLeft (O : KO A F H k po ps m dx lt ln lo lm pv) (x : Nat) : KO A F (upd H k (.ins A.cK dx (putF "left" (nI x) (mF m pv lt ln lo lm).l))) k po ps { m with left := x } dx lt ln lo lm pv :=
  O.nums (m' := { m with left := x }) (KF.p_left (mF m pv lt ln lo lm) (nI x)) rfl rfl rfl rfl
theorem KO.setStopping (O : KO A F H k po ps m dx lt ln lo lm pv) (c : Nat) : KO A F (upd H k (.ins A.cK dx (putF "stopping" (nI c) (mF m pv lt ln lo lm).l))) k po ps { m with stopping := some c } dx lt ln lo lm pv :=
  O.nums (m' := { m with stopping := some c }) (KF.p_stopping (mF m pv lt ln lo lm) (nI c)) rfl rfl rfl rfl
theorem KO.noStopping (O : KO A F H k po ps m dx lt ln lo lm pv) : KO A F (upd H k (.ins A.cK dx (putF "stopping" .non (mF m pv lt ln lo lm).l))) k po ps { m with stopping := none } dx lt ln lo lm pv :=
  O.nums (m' := { m with stopping := none }) (KF.p_stopping (mF m pv lt ln lo lm) .non) rfl rfl rfl rfl
/-- a list that was just laid -/
theorem KO.putTold (O : KO A F H k po ps m dx lt ln lo lm pv) {l : Addr} (xs : List Int) {ys : List V} (hl : H l = none) (e : ys = xs.map V.int) :
    KO A F (upd (upd H l (.lst ys)) k (.ins A.cK dx (putF "told" (.ref l) (mF m pv lt ln lo lm).l))) k po ps { m with told := xs } dx l ln lo lm pv := by
  subst e
  exact (O.fresh hl).newTold upd_same (fresh_F O.same hl) (ne_of_none O.notes hl).symm (ne_of_none O.on hl).symm (ne_of_none O.marked hl).symm (KF.p_told (mF m pv lt ln lo lm) (.ref l))
theorem KO.putNotes (O : KO A F H k po ps m dx lt ln lo lm pv) {l : Addr} (xs : List Nat) {ys : List V} (hl : H l = none) (e : ys = xs.map nI) :
    KO A F (upd (upd H l (.lst ys)) k (.ins A.cK dx (putF "notes" (.ref l) (mF m pv lt ln lo lm).l))) k po ps { m with notes := xs } dx lt l lo lm pv := by
  subst e
  exact (O.fresh hl).newNotes upd_same (fresh_F O.same hl) (ne_of_none O.told hl) (ne_of_none O.on hl).symm (ne_of_none O.marked hl).symm (KF.p_notes (mF m pv lt ln lo lm) (.ref l))
theorem KO.putOn (O : KO A F H k po ps m dx lt ln lo lm pv) {l : Addr} (xs : List Bool) {ys : List V} (hl : H l = none) (e : ys = xs.map V.bl) :
    KO A F (upd (upd H l (.lst ys)) k (.ins A.cK dx (putF "on" (.ref l) (mF m pv lt ln lo lm).l))) k po ps { m with on := xs } dx lt ln l lm pv := by
  subst e
  exact (O.fresh hl).newOn upd_same (fresh_F O.same hl) (ne_of_none O.told hl) (ne_of_none O.notes hl) (ne_of_none O.marked hl).symm (KF.p_on (mF m pv lt ln lo lm) (.ref l))
theorem KO.putMarked (O : KO A F H k po ps m dx lt ln lo lm pv) {l : Addr} (xs : List Bool) {ys : List V} (hl : H l = none) (e : ys = xs.map V.bl) :
    KO A F (upd (upd H l (.lst ys)) k (.ins A.cK dx (putF "marked" (.ref l) (mF m pv lt ln lo lm).l))) k po ps { m with marked := xs } dx lt ln lo l pv := by
  subst e
  exact (O.fresh hl).newMarked upd_same (fresh_F O.same hl) (ne_of_none O.told hl) (ne_of_none O.notes hl) (ne_of_none O.on hl) (KF.p_marked (mF m pv lt ln lo lm) (.ref l))
end
end Ck
/-! THE KEEPER'S SMALL METHODS -/
namespace Ck
open PySem L2
section
variable {P : Program} {w : World} {K : PySem.W.Frag} {mg : Str → Option Value} {base : Heap} {A : Adr}
def spTell (A : Adr) : Sp := fun vs H Q _ => ∃ (k : Addr) (F : Hp) (po : Option Kgo2.Plan) (ps : List Addr) (m : KS) (a b c : Int), vs = [.ref k, .int a, .int b, .int c] ∧ KAt A F H k po ps m ∧ m.told.length ≤ 900 ∧
  ∀ H', KAt A F H' k po ps (tellM m a b c) → Q .non H'
theorem scKtell : FnScope ["self", "thing", "about", "besides"] ["self", "thing", "about", "besides"] (defScope sKtell) := ⟨rfl, rfl, rfl, by decide +kernel, rfl, by decide +kernel, by decide +kernel⟩
theorem ok_tell (T : Txt K mg A) : FnOk P w K mg base CX0 1 A.fKtell A.dKtell ["self", "thing", "about", "besides"] (spTell A) := by
  refine T.FKtell.ok scKtell (fun vs H Q E h => ?_) (fun cdv Ar outer s H vs Q E hr h => ?_)
  · obtain ⟨k, F, po, ps, m, a, b, c, rfl, _⟩ := h
    rfl
  · obtain ⟨k, F, po, ps, m, a, b, c, rfl, ⟨dx, lt, ln, lo, lm, pv0, O⟩, hl, q⟩ := h
    refine ⟨_, pss_one (ps_expr (pe_bm PySem.F.plainAttrs_list PySem.F.slot_list_extend PySem.F.type_list_extend mt_extend (pe_fld (pv 0) rfl) (pa_cons (pe_lst (pa_cons (pv 1) (pa_cons (pv 2) (pa_cons (pv 3) pa_nil)))) pa_nil))), ?_⟩
    refine ⟨_, rfl, k, A.cK, dx, _, _, rfl, O.ob, T.clK, T.nKtold, KF.g_told _, .inl ⟨rfl, _, SqL.of O.told⟩, _, rfl, _, rfl, _, rfl, (by show 3 ≤ sizeLine; decide), fun l hl0 => ?_⟩
    have O1 := O.fresh (o := .lst [V.int a, V.int b, V.int c]) hl0
    refine ⟨lt, l, _, _, rfl, rfl, O1.told, upd_same, ?_, ?_⟩
    · rw [List.length_map]
      show m.told.length + 3 ≤ sizeLine
      rw [sizeLine_eq]
      omega
    · exact q _ ⟨dx, lt, ln, lo, lm, pv0, O1.setTold (xs := m.told ++ [a, b, c]) (by rw [List.map_append]; rfl)⟩
end
end Ck
/-! RULES OF MY OWN: range(..) as an object, list(range(..)) -/
namespace Ck
open PySem L2 PySem.Spec PyProof.Rows
section
variable {X : Cx}
def rRange1 : List V → Hp → VK → Prop := fun xs H Q => ∃ j : Int, xs = [.int j] ∧ ∀ r, H r = none → Q (.ref r) (upd H r (.rng 0 j))
def rRange2 : List V → Hp → VK → Prop := fun xs H Q => ∃ i j : Int, xs = [.int i, .int j] ∧ ∀ r, H r = none → Q (.ref r) (upd H r (.rng i j))
theorem cr_range1 : CallR X (.type "range") rRange1 := by
  intro pins s σ H xs us Q I r h
  obtain ⟨j, rfl, q⟩ := h
  obtain ⟨u, rfl, t, rfl⟩ := vals1 r
  refine call_range_1 ⟨.ref s.heap.objs.size, _, I.laid (o := .rng 0 j) (fun b ob e => Heap.get?_push_of_some _ e) (Nat.le_refl _) ?_, rfl, q _ (I.hok.fresh (Nat.le_refl _))⟩
  exact ⟨_, _, _, Heap.get?_push_size _ rfl⟩
theorem cr_range2 : CallR X (.type "range") rRange2 := by
  intro pins s σ H xs us Q I r h
  obtain ⟨i, j, rfl, q⟩ := h
  obtain ⟨t, u, rfl⟩ := Vals.int2 r
  refine call_range_2 ⟨.ref s.heap.objs.size, _, I.laid (o := .rng i j) (fun b ob e => Heap.get?_push_of_some _ e) (Nat.le_refl _) ?_, rfl, q _ (I.hok.fresh (Nat.le_refl _))⟩
  exact ⟨_, _, _, Heap.get?_push_size _ rfl⟩
theorem vals_items {lo : Int} : ∀ (n : Nat) (us : List Value), us.length = n → (∀ (j : Nat) (v : Value), us[j]? = some v → ∃ t, v = Value.int (lo + (j : Int) * 1) t) → Vals ((List.range n).map fun i : Nat => V.int (lo + (i : Int))) us := by
  intro n
  induction n with
  | zero =>
    intro us hl _
    have e : us = [] := List.eq_nil_of_length_eq_zero hl
    subst e
    exact .nil
  | succ n ih =>
    intro us hl h
    have e : us = us.take n ++ us.drop n := (List.take_append_drop n us).symm
    have hd : ∃ v, us.drop n = [v] := by
      have h1 : (us.drop n).length = 1 := by rw [List.length_drop]; omega
      match q : us.drop n, h1 with
      | [v], _ => exact ⟨v, rfl⟩
    obtain ⟨v, hv⟩ := hd
    have hv' : us[n]? = some v := by
      have := congrArg (fun l => l[0]?) hv
      simpa using this
    obtain ⟨t, et⟩ := h n v hv'
    rw [e, hv, List.range_succ, List.map_append]
    refine Vals.append (ih _ (by rw [List.length_take]; omega) fun j u hj => ?_) (.cons ⟨t, ?_⟩ .nil)
    · have hjn : j < n := by
        have := (List.getElem?_eq_some_iff.mp hj).1
        rw [List.length_take] at this
        omega
      rw [List.getElem?_take_of_lt hjn] at hj
      exact h j u hj
    · rw [et, Int.mul_one]
def rListRange : List V → Hp → VK → Prop := fun xs H Q => ∃ (p : Addr) (lo hi : Int), xs = [.ref p] ∧ H p = some (.rng lo hi) ∧ (-(2 ^ 62) ≤ lo ∧ lo < 2 ^ 62 ∧ -(2 ^ 62) ≤ hi ∧ hi < 2 ^ 62) ∧ (hi - lo).toNat ≤ 1000 ∧
  ∀ l, H l = none → Q (.ref l) (upd H l (.lst ((List.range (hi - lo).toNat).map fun i : Nat => V.int (lo + (i : Int)))))
theorem cr_listRange (hc : X.calm = true) : CallR X (.type "list") rListRange := by
  intro pins s σ H xs us Q I r h
  obtain ⟨p, lo, hi, rfl, hp, ⟨h1, h2, h3, h4⟩, hn, q⟩ := h
  have e := Vals.ref1 r
  subst e
  obtain ⟨t, u, v, ho⟩ : ∃ t u v, s.heap.get? p = some { cls := .type "range", data := .fields #[.int lo t, .int hi u, .int 1 v] } := I.hok p _ hp
  refine call_list_range (n := (hi - lo).toNat) (I.ok.hd hc) ho (small_one h1 h2 h3 h4) (by rw [rangeSize_one]; split <;> omega) (by omega) fun h' tk acc' c' kp e ha => ?_
  refine ⟨.ref s.heap.objs.size, _, I.laid (o := .lst ((List.range (hi - lo).toNat).map fun i : Nat => V.int (lo + (i : Int)))) kp (Nat.le_refl _) ?_, rfl, q _ (I.hok.fresh (Nat.le_refl _))⟩
  refine ⟨by rw [List.length_map, List.length_range, sizeLine_eq]; omega, acc'.toList, c', vals_items _ _ (by rw [Array.length_toList]; exact ha.1) (fun j w hj => ha.2 j w (by rw [← Array.getElem?_toList]; exact hj)), ?_⟩
  simpa using e
/-- list(range(a)), list(range(a, b)): the call of the call -/
theorem pe_range1 {a : Expr} {ta : TA} {p pos : Pos} (hm : X.mg "range" = none) (ha : PA X [a] ta) (hg : Gl X "range" := by rfl) (hs : starEach [a] X.env = [(false, eval a X.env)] := by rfl) : PE X (.Call (.Name "range" p) [a] [] pos) (tCB rRange1 ta) :=
  pe_callTy cr_range1 hg hm boot_range ha (by decide) (by decide) hs rfl
end
end Ck
namespace Ck
open PySem L2
section
variable {X : Cx}
/-- within a comprehension's block: the written part named -/
theorem pe_fldK {e : Expr} {f : Str} {pos : Pos} {ta : TE} (K : PySem.W.Frag) (he : PE X e ta) (hb : attributeBase e f X.env (eval e X.env) = eval e X.env) (hK : X.K = K := by rfl) : PE X (.Attribute e f pos) (tFld K ta f) := by
  subst hK
  exact pe_fld he hb
theorem ix_listK (K : PySem.W.Frag) (hK : X.K = K := by rfl) : IxR X (rIxL K) := by
  subst hK
  exact ix_list
end
end Ck
namespace Ck
open PySem L2
section
variable {P : Program} {w : World} {K : PySem.W.Frag} {mg : Str → Option Value} {base : Heap} {A : Adr}
/-! begin -/
def spBegin (A : Adr) : Sp := fun vs H Q _ => ∃ (k : Addr) (F : Hp) (po : Option Kgo2.Plan) (ps : List Addr) (m : KS) (c : Nat), vs = [.ref k, nI c] ∧ KAt A F H k po ps m ∧ c < m.on.length ∧ m.told.length ≤ 900 ∧
  ∀ H', KAt A F H' k po ps (beginM m c) → Q .non H'
theorem scKbegin : FnScope ["self", "child"] ["self", "child"] (defScope sKbegin) := ⟨rfl, rfl, rfl, by decide +kernel, rfl, by decide +kernel, by decide +kernel⟩
theorem ok_begin (T : Txt K mg A) : FnOk P w K mg base CX0 2 A.fKbegin A.dKbegin ["self", "child"] (spBegin A) := by
  refine T.FKbegin.ok scKbegin (fun vs H Q E h => ?_) (fun cdv Ar outer s H vs Q E hr h => ?_)
  · obtain ⟨k, F, po, ps, m, c, rfl, _⟩ := h
    rfl
  · obtain ⟨k, F, po, ps, m, c, rfl, ⟨dx, lt, ln, lo, lm, pv0, O⟩, hc, hl, q⟩ := h
    refine ⟨_, pss_cons (ps_asg pe_bl (pg_sub (pe_fld (pv 0) rfl) (pv 1) set_list))
      (pss_one (ps_expr (pe_meth (pv 0) T.clK T.mKtell (ok_tell T) hr T.bKtell .nil pass0 (pa_cons (pgi T.iTELL_BEGIN) (pa_cons (pv 1) (pa_cons pe_int pa_nil)))))), ?_⟩
    refine ⟨_, rfl, k, A.cK, dx, _, _, rfl, O.ob, T.clK, T.nKon, KF.g_on _, _, rfl, lo, _, (c : Int), c, rfl, rfl, O.on, ixN_nat (by rw [List.length_map]; exact hc), ?_⟩
    have O1 := O.setOn (set_bl m.on c true)
    refine ⟨_, rfl, k, dx, _, rfl, O1.ob, rfl, _, rfl, k, F, po, ps, { m with on := m.on.set c true }, 0, (c : Int), 0, rfl, ⟨dx, lt, ln, lo, lm, pv0, O1⟩, hl, fun H' h => ?_⟩
    exact q H' h
/-! ask -/
def spAsk (A : Adr) : Sp := fun vs H Q _ => ∃ (k : Addr) (F : Hp) (pl : Kgo2.Plan) (ps : List Addr) (m : KS) (c : Nat), vs = [.ref k, nI c] ∧ KAt A F H k (some pl) ps m ∧ c < m.on.length ∧ c < pl.patience.length ∧ m.told.length ≤ 900 ∧
  ∀ H', KAt A F H' k (some pl) ps (askM pl m c) → Q .non H'
theorem scKask : FnScope ["self", "child"] ["self", "child"] (defScope sKask) := ⟨rfl, rfl, rfl, by decide +kernel, rfl, by decide +kernel, by decide +kernel⟩
theorem ok_ask (T : Txt K mg A) : FnOk P w K mg base CX0 2 A.fKask A.dKask ["self", "child"] (spAsk A) := by
  refine T.FKask.ok scKask (fun vs H Q E h => ?_) (fun cdv Ar outer s H vs Q E hr h => ?_)
  · obtain ⟨k, F, pl, ps, m, c, rfl, _⟩ := h
    rfl
  · obtain ⟨k, F, pl, ps, m, c, rfl, ⟨dx, lt, ln, lo, lm, pv0, O⟩, hc, hq, hl, q⟩ := h
    refine ⟨_, pss_cons (ps_asg pe_bl (pg_sub (pe_fld (pv 0) rfl) (pv 1) set_list))
      (pss_cons (ps_fld (pv 0) (pv 1) rfl)
      (pss_cons (ps_fld (pv 0) (pe_ix ix_list (pe_fld (pe_fld (pv 0) rfl) rfl) (pv 1) (fun _ _ => rfl)) rfl)
      (pss_one (ps_expr (pe_meth (pv 0) T.clK T.mKtell (ok_tell T) hr T.bKtell .nil pass0 (pa_cons (pgi T.iTELL_HALT) (pa_cons (pv 1) (pa_cons (pe_ifExp (pt_cmpR op_eq (pe_fld (pv 0) rfl) pe_int (nomark _)) pe_int pe_int) pa_nil)))))))), ?_⟩
    refine ⟨_, rfl, k, A.cK, dx, _, _, rfl, O.ob, T.clK, T.nKon, KF.g_on _, _, rfl, lo, _, (c : Int), c, rfl, rfl, O.on, ixN_nat (by rw [List.length_map]; exact hc), ?_⟩
    have O1 := O.setOn (set_bl m.on c false)
    refine ⟨_, rfl, _, rfl, k, A.cK, dx, _, rfl, O1.ob, T.clK, T.nKstopping, KF.few _, ?_⟩
    have O2 := O1.setStopping c
    obtain ⟨p, lh, lq, dp, e, hp, hhw, hpt⟩ := O2.thePlan
    subst e
    refine ⟨_, rfl, k, A.cK, dx, _, _, rfl, O2.ob, T.clK, T.nKplan, KF.g_plan _, p, A.cP, dp, _, _, rfl, hp, T.clP, T.nPpatience, PF.g_patience _, _, rfl, lq, _, (c : Int), _, rfl, rfl, SqL.of hpt, n_at hq,
      _, rfl, k, A.cK, dx, _, rfl, O2.ob, T.clK, T.nKleft, KF.few _, ?_⟩
    have O3 := O2.setLeft (pl.patience.getD c 0)
    refine ⟨_, rfl, k, dx, _, rfl, O3.ob, rfl, _, rfl, _, rfl, k, A.cK, dx, _, _, rfl, O3.ob, T.clK, T.nKleft, KF.g_left _, rfl, _, rfl, ?_⟩
    by_cases hz : pl.patience.getD c 0 = 0
    · have e1 : decide (nI (pl.patience.getD c 0) = V.int 0) = true := decide_eq_true (by rw [hz]; rfl)
      have e1' : decide ((mF { m with on := m.on.set c false, stopping := some c, left := pl.patience.getD c 0 } (.ref p) lt ln lo lm).left = V.int 0) = true := e1
      rw [e1']
      refine iteT ?_
      refine ⟨k, F, some pl, ps, { m with on := m.on.set c false, stopping := some c, left := pl.patience.getD c 0 }, 1, (c : Int), 1, rfl, ⟨dx, lt, ln, lo, lm, .ref p, O3⟩, hl, fun H' h => q H' ?_⟩
      unfold askM
      rw [if_pos hz]
      exact h
    · have e1 : decide (nI (pl.patience.getD c 0) = V.int 0) = false := decide_eq_false (fun z => hz (by have := V.int.inj z; omega))
      have e1' : decide ((mF { m with on := m.on.set c false, stopping := some c, left := pl.patience.getD c 0 } (.ref p) lt ln lo lm).left = V.int 0) = false := e1
      rw [e1']
      refine iteF ?_
      refine ⟨k, F, some pl, ps, { m with on := m.on.set c false, stopping := some c, left := pl.patience.getD c 0 }, 1, (c : Int), 0, rfl, ⟨dx, lt, ln, lo, lm, .ref p, O3⟩, hl, fun H' h => q H' ?_⟩
      unfold askM
      rw [if_neg hz]
      exact h
/-! unmark -/
def spUnmark (A : Adr) : Sp := fun vs H Q _ => ∃ (k : Addr) (F : Hp) (pl : Kgo2.Plan) (ps : List Addr) (m : KS), vs = [.ref k] ∧ KAt A F H k (some pl) ps m ∧ pl.count ≤ 8 ∧
  ∀ H', KAt A F H' k (some pl) ps (unmarkM pl m) → Q .non H'
theorem scKunmark : FnScope ["self"] ["self"] (defScope sKunmark) := ⟨rfl, rfl, rfl, by decide +kernel, rfl, by decide +kernel, by decide +kernel⟩
theorem ok_unmark (T : Txt K mg A) : FnOk P w K mg base CX0 1 A.fKunmark A.dKunmark ["self"] (spUnmark A) := by
  refine T.FKunmark.ok scKunmark (fun vs H Q E h => ?_) (fun cdv Ar outer s H vs Q E hr h => ?_)
  · obtain ⟨k, F, pl, ps, m, rfl, _⟩ := h
    rfl
  · obtain ⟨k, F, pl, ps, m, rfl, ⟨dx, lt, ln, lo, lm, pv0, O⟩, hc, q⟩ := h
    refine ⟨_, pss_one (ps_fld (pv 0) (pe_op op_rep (pe_lst (pa_cons pe_bl pa_nil)) (pe_fld (pe_fld (pv 0) rfl) rfl)) rfl), ?_⟩
    refine ⟨(by show 1 ≤ sizeLine; decide), fun l0 hl0 => ?_⟩
    have O1 := O.fresh (o := .lst [V.bl false]) hl0
    obtain ⟨p, lh, lq, dp, e, hp, hhw, hpt⟩ := O1.thePlan
    subst e
    refine ⟨_, rfl, k, A.cK, dx, _, _, rfl, O1.ob, T.clK, T.nKplan, KF.g_plan _, p, A.cP, dp, _, _, rfl, hp, T.clP, T.nPcount, PF.g_count _, l0, (pl.count : Int), _, rfl, rfl, upd_same, by omega, by omega, ?_, fun l hl => ?_⟩
    · show 1 * ((pl.count : Int)).toNat ≤ sizeLine
      rw [sizeLine_eq, Int.toNat_natCast]
      omega
    · have e : (List.replicate ((pl.count : Int)).toNat [V.bl false]).flatten = (List.replicate pl.count false).map V.bl := rep_flat pl.count
      refine ⟨_, rfl, k, A.cK, dx, _, rfl, (O1.fresh hl).ob, T.clK, T.nKmarked, KF.few _, ?_⟩
      exact q _ ⟨dx, lt, ln, lo, l, .ref p, O1.putMarked (List.replicate pl.count false) hl e⟩
/-! is_to_be_asked -/
def spToAsk (A : Adr) : Sp := fun vs H Q _ => ∃ (k : Addr) (F : Hp) (po : Option Kgo2.Plan) (ps : List Addr) (m : KS) (c : Nat), vs = [.ref k, nI c] ∧ KAt A F H k po ps m ∧ c < m.on.length ∧ c < m.marked.length ∧ Q (.bl (toAsk m c)) H
theorem scKis_to_be_asked : FnScope ["self", "child"] ["self", "child"] (defScope sKis_to_be_asked) := ⟨rfl, rfl, rfl, by decide +kernel, rfl, by decide +kernel, by decide +kernel⟩
theorem ok_toAsk (T : Txt K mg A) : FnOk P w K mg base CX0 1 A.fKis_to_be_asked A.dKis_to_be_asked ["self", "child"] (spToAsk A) := by
  refine T.FKis_to_be_asked.ok scKis_to_be_asked (fun vs H Q E h => ?_) (fun cdv Ar outer s H vs Q E hr h => ?_)
  · obtain ⟨k, F, po, ps, m, c, rfl, _⟩ := h
    rfl
  · obtain ⟨k, F, po, ps, m, c, rfl, ⟨dx, lt, ln, lo, lm, pv0, O⟩, hc, hc2, q⟩ := h
    refine ⟨_, pss_one (ps_ret (pe_and (pe_ix ix_list (pe_fld (pv 0) rfl) (pv 1) (fun _ _ => rfl)) (pe_one (pe_or (pe_ix ix_list (pe_fld (pv 0) rfl) (pv 1) (fun _ _ => rfl)) (pe_one (pe_cmpR op_eq (pe_fld (pv 0) rfl) (pgi T.iENDING) (nomark _))))))), ?_⟩
    refine ⟨_, rfl, k, A.cK, dx, _, _, rfl, O.ob, T.clK, T.nKon, KF.g_on _, _, rfl, lo, _, (c : Int), _, rfl, rfl, SqL.of O.on, bl_at hc, _, rfl, ?_⟩
    unfold toAsk at q
    cases h1 : m.on.getD c false with
    | false =>
      rw [h1] at q
      exact iteF q
    | true =>
      rw [h1] at q
      refine iteT ?_
      refine ⟨_, rfl, k, A.cK, dx, _, _, rfl, O.ob, T.clK, T.nKmarked, KF.g_marked _, _, rfl, lm, _, (c : Int), _, rfl, rfl, SqL.of O.marked, bl_at hc2, _, rfl, ?_⟩
      cases h2 : m.marked.getD c false with
      | true =>
        rw [h2] at q
        exact iteT q
      | false =>
        rw [h2] at q
        refine iteF ?_
        refine ⟨_, rfl, k, A.cK, dx, _, _, rfl, O.ob, T.clK, T.nKmode, KF.g_mode _, rfl, ?_⟩
        have e : decide (nI m.mode = V.int 2) = (m.mode == 2) := by
          rw [Bool.eq_iff_iff]
          simp
          omega
        have e' : decide ((mF m pv0 lt ln lo lm).mode = V.int 2) = (m.mode == 2) := e
        show Q (V.bl (decide ((mF m pv0 lt ln lo lm).mode = V.int 2))) H
        rw [e']
        exact q
end
end Ck
/-! THE PLAN'S METHODS -/
namespace Ck
open PySem L2
section
variable {P : Program} {w : World} {K : PySem.W.Frag} {mg : Str → Option Value} {base : Heap} {A : Adr}
/-! __init__ -/
def spPinit (A : Adr) : Sp := fun vs H Q _ => ∃ (x dx lh lq : Addr) (a b c d : V), vs = [.ref x, a, b, c, d, .ref lh, .ref lq] ∧ H x = some (.ins A.cP dx []) ∧ Q .non (upd H x (.ins A.cP dx (PF.l ⟨a, b, c, d, .ref lh, .ref lq⟩)))
theorem scPinit : FnScope ["self", "way", "most", "within", "count", "how", "patience"] ["self", "way", "most", "within", "count", "how", "patience"] (defScope sPinit) := ⟨rfl, rfl, rfl, by decide +kernel, rfl, by decide +kernel, by decide +kernel⟩
theorem ok_Pinit (T : Txt K mg A) : FnOk P w K mg base CX0 1 A.fPinit A.dPinit ["self", "way", "most", "within", "count", "how", "patience"] (spPinit A) := by
  refine T.FPinit.ok scPinit (fun vs H Q E h => ?_) (fun cdv Ar outer s H vs Q E hr h => ?_)
  · obtain ⟨x, dx, lh, lq, a, b, c, d, rfl, _⟩ := h
    rfl
  · obtain ⟨x, dx, lh, lq, a, b, c, d, rfl, hx, q⟩ := h
    refine ⟨_, pss_cons (ps_fld (pv 0) (pv 1) rfl) (pss_cons (ps_fld (pv 0) (pv 2) rfl) (pss_cons (ps_fld (pv 0) (pv 3) rfl) (pss_cons (ps_fld (pv 0) (pv 4) rfl) (pss_cons (ps_fld (pv 0) (pv 5) rfl) (pss_one (ps_fld (pv 0) (pv 6) rfl)))))), ?_⟩
    refine ⟨_, rfl, _, rfl, x, A.cP, dx, _, rfl, hx, T.clP, T.nPway, (by show 0 < 1000; decide), ?_⟩
    refine ⟨_, rfl, _, rfl, x, A.cP, dx, _, rfl, upd_same, T.clP, T.nPmost, (by show 1 < 1000; decide), ?_⟩
    refine ⟨_, rfl, _, rfl, x, A.cP, dx, _, rfl, upd_same, T.clP, T.nPwithin, (by show 2 < 1000; decide), ?_⟩
    refine ⟨_, rfl, _, rfl, x, A.cP, dx, _, rfl, upd_same, T.clP, T.nPcount, (by show 3 < 1000; decide), ?_⟩
    refine ⟨_, rfl, _, rfl, x, A.cP, dx, _, rfl, upd_same, T.clP, T.nPhow, (by show 4 < 1000; decide), ?_⟩
    refine ⟨_, rfl, _, rfl, x, A.cP, dx, _, rfl, upd_same, T.clP, T.nPpatience, (by show 5 < 1000; decide), ?_⟩
    simp only [upd_upd]
    exact q
/-! is_begun_anew -/
def spBegun (A : Adr) : Sp := fun vs H Q _ => ∃ (p lh lq : Addr) (pl : Kgo2.Plan) (c y : Nat), vs = [.ref p, nI c, nI y] ∧ PlanAt A H p lh lq pl ∧ c < pl.how.length ∧ Q (.bl (begunB pl c y)) H
theorem scPis_begun_anew : FnScope ["self", "child", "why"] ["self", "child", "why"] (defScope sPis_begun_anew) := ⟨rfl, rfl, rfl, by decide +kernel, rfl, by decide +kernel, by decide +kernel⟩
theorem dec_nI (a b : Nat) : decide (nI a = V.int (b : Int)) = decide (a = b) := by
  rw [Bool.eq_iff_iff]
  simp
  omega
theorem ok_begun (T : Txt K mg A) : FnOk P w K mg base CX0 1 A.fPis_begun_anew A.dPis_begun_anew ["self", "child", "why"] (spBegun A) := by
  refine T.FPis_begun_anew.ok scPis_begun_anew (fun vs H Q E h => ?_) (fun cdv Ar outer s H vs Q E hr h => ?_)
  · obtain ⟨p, lh, lq, pl, c, y, rfl, _⟩ := h
    rfl
  · obtain ⟨p, lh, lq, pl, c, y, rfl, ⟨⟨dp, hp⟩, hhw, hpt⟩, hc, q⟩ := h
    refine ⟨_, pss_cons (ps_if (pt_cmpR op_eq (pe_ix ix_list (pe_fld (pv 0) rfl) (pv 1) (fun _ _ => rfl)) (pgi T.iHOW_UNLESS_WELL) (nomark _)) (pss_one (ps_ret (pe_cmpR op_ne (pv 2) pe_int (nomark _)))) pss_nil)
      (pss_one (ps_ret (pe_cmpR op_eq (pe_ix ix_list (pe_fld (pv 0) rfl) (pv 1) (fun _ _ => rfl)) (pgi T.iHOW_ALWAYS) (nomark _)))), ?_⟩
    refine ⟨_, rfl, p, A.cP, dp, _, _, rfl, hp, T.clP, T.nPhow, PF.g_how _, _, rfl, lh, _, (c : Int), _, rfl, rfl, SqL.of hhw, n_at hc, rfl, _, rfl, ?_⟩
    unfold begunB at q
    have e1 := dec_nI (pl.how.getD c 0) 1
    by_cases h1 : pl.how.getD c 0 = 1
    · rw [if_pos h1] at q
      have e2 : decide (nI (pl.how.getD c 0) = V.int 1) = true := e1.trans (decide_eq_true h1)
      rw [e2]
      refine iteT ?_
      refine ⟨_, rfl, rfl, ?_⟩
      have e3 : (!decide (nI y = V.int 0)) = (y != 0) := by
        have := dec_nI y 0
        rw [show (V.int 0) = V.int ((0 : Nat) : Int) from rfl, this]
        rw [Bool.eq_iff_iff]
        simp
      rw [e3]
      exact q
    · rw [if_neg h1] at q
      have e2 : decide (nI (pl.how.getD c 0) = V.int 1) = false := e1.trans (decide_eq_false h1)
      rw [e2]
      refine iteF ?_
      refine ⟨_, rfl, p, A.cP, dp, _, _, rfl, hp, T.clP, T.nPhow, PF.g_how _, _, rfl, lh, _, (c : Int), _, rfl, rfl, SqL.of hhw, n_at hc, rfl, ?_⟩
      have e3 : decide (nI (pl.how.getD c 0) = V.int 0) = (pl.how.getD c 0 == 0) := by
        have := dec_nI (pl.how.getD c 0) 0
        rw [show (V.int 0) = V.int ((0 : Nat) : Int) from rfl, this]
        rw [Bool.eq_iff_iff]
        simp
      rw [e3]
      exact q
/-! beside -/
def spBeside (A : Adr) : Sp := fun vs H Q _ => ∃ (p lh lq : Addr) (pl : Kgo2.Plan) (c : Nat), vs = [.ref p, nI c] ∧ PlanAt A H p lh lq pl ∧ pl.count ≤ 8 ∧ c < 1000 ∧
  ∀ H' l, Same H H' → H l = none → H' l = some (.lst ((besideL pl c).map nI)) → Q (.ref l) H'
theorem scPbeside : FnScope ["self", "child"] ["self", "child"] (defScope sPbeside) := ⟨rfl, rfl, rfl, by decide +kernel, rfl, by decide +kernel, by decide +kernel⟩
theorem rng_list (lo n : Nat) : ((List.range n).map fun i : Nat => V.int ((lo : Int) + (i : Int))) = (List.range' lo n).map nI := by
  rw [List.range'_eq_map_range, List.map_map]
  refine List.map_congr_left fun i _ => ?_
  show V.int ((lo : Int) + (i : Int)) = V.int ((lo + i : Nat) : Int)
  rw [Int.natCast_add]
theorem ok_beside (T : Txt K mg A) : FnOk P w K mg base CX0 1 A.fPbeside A.dPbeside ["self", "child"] (spBeside A) := by
  refine T.FPbeside.ok scPbeside (fun vs H Q E h => ?_) (fun cdv Ar outer s H vs Q E hr h => ?_)
  · obtain ⟨p, lh, lq, pl, c, rfl, _⟩ := h
    rfl
  · obtain ⟨p, lh, lq, pl, c, rfl, ⟨⟨dp, hp⟩, hhw, hpt⟩, h8, hc, q⟩ := h
    refine ⟨_, pss_cons (ps_if (pt_cmpR op_eq (pe_fld (pv 0) rfl) (pgi T.iWAY_ALL) (nomark _))
        (pss_one (ps_ret (pe_callTy (cr_listRange rfl) rfl T.olist PyProof.Rows.boot_list (pa_cons (pe_callTy cr_range1 rfl T.orange PyProof.Rows.boot_range (pa_cons (pe_fld (pv 0) rfl) pa_nil)) pa_nil)))) pss_nil)
      (pss_cons (ps_if (pt_cmpR op_eq (pe_fld (pv 0) rfl) (pgi T.iWAY_BEHIND) (nomark _))
        (pss_one (ps_ret (pe_callTy (cr_listRange rfl) rfl T.olist PyProof.Rows.boot_list (pa_cons (pe_callTy cr_range2 rfl T.orange PyProof.Rows.boot_range (pa_cons (pe_op op_add (pv 1) pe_int) (pa_cons (pe_fld (pv 0) rfl) pa_nil))) pa_nil)))) pss_nil)
      (pss_one (ps_ret (pe_lst pa_nil)))), ?_⟩
    refine ⟨_, rfl, p, A.cP, dp, _, _, rfl, hp, T.clP, T.nPway, PF.g_way _, rfl, _, rfl, ?_⟩
    have e1 := dec_nI pl.way 1
    by_cases h1 : pl.way = 1
    · have e2 : decide ((plF pl lh lq).way = V.int 1) = true := e1.trans (decide_eq_true h1)
      rw [e2]
      refine iteT ?_
      refine ⟨_, rfl, p, A.cP, dp, _, _, rfl, hp, T.clP, T.nPcount, PF.g_count _, (pl.count : Int), rfl, fun r hr0 => ?_⟩
      refine ⟨r, 0, (pl.count : Int), rfl, upd_same, ⟨by omega, by omega, by omega, by omega⟩, by omega, fun l hl => ?_⟩
      have hlr : l ≠ r := fun z => by rw [z, upd_same] at hl; cases hl
      refine q _ l ((Same.new hr0).trans (Same.new hl)) (by rw [upd_ne hlr] at hl; exact hl) ?_
      rw [upd_same]
      have e3 : ((pl.count : Int) - 0).toNat = pl.count := by omega
      have e4 : besideL pl c = List.range pl.count := by unfold besideL; rw [if_pos h1]
      rw [e3, e4, List.range_eq_range']
      have e5 := rng_list 0 pl.count
      rw [List.range_eq_range'] at e5
      exact congrArg (fun z => some (HO.lst z)) e5
    · have e2 : decide ((plF pl lh lq).way = V.int 1) = false := e1.trans (decide_eq_false h1)
      rw [e2]
      refine iteF ?_
      refine ⟨_, rfl, p, A.cP, dp, _, _, rfl, hp, T.clP, T.nPway, PF.g_way _, rfl, _, rfl, ?_⟩
      have e3 := dec_nI pl.way 2
      by_cases h2 : pl.way = 2
      · have e4 : decide ((plF pl lh lq).way = V.int 2) = true := e3.trans (decide_eq_true h2)
        rw [e4]
        refine iteT ?_
        refine ⟨_, rfl, _, _, rfl, rfl, _, rfl, p, A.cP, dp, _, _, rfl, hp, T.clP, T.nPcount, PF.g_count _, _, (pl.count : Int), rfl, fun r hr0 => ?_⟩
        refine ⟨r, (c : Int) + 1, (pl.count : Int), rfl, upd_same, ⟨by omega, by omega, by omega, by omega⟩, by omega, fun l hl => ?_⟩
        have hlr : l ≠ r := fun z => by rw [z, upd_same] at hl; cases hl
        refine q _ l ((Same.new hr0).trans (Same.new hl)) (by rw [upd_ne hlr] at hl; exact hl) ?_
        rw [upd_same]
        have e5 : ((pl.count : Int) - ((c : Int) + 1)).toNat = pl.count - (c + 1) := by omega
        have e6 : besideL pl c = List.range' (c + 1) (pl.count - (c + 1)) := by unfold besideL; rw [if_neg h1, if_pos h2]
        rw [e5, e6]
        exact congrArg (fun z => some (HO.lst z)) (rng_list (c + 1) (pl.count - (c + 1)))
      · have e4 : decide ((plF pl lh lq).way = V.int 2) = false := e3.trans (decide_eq_false h2)
        rw [e4]
        refine iteF ?_
        refine ⟨(by show 0 ≤ sizeLine; decide), fun l hl => ?_⟩
        refine q _ l (Same.new hl) hl ?_
        rw [upd_same]
        have e6 : besideL pl c = [] := by unfold besideL; rw [if_neg h1, if_neg h2]
        rw [e6]
        rfl
end
end Ck
/-! THE PLAN: is_right -/
namespace Ck
open PySem L2
section
variable {P : Program} {w : World} {K : PySem.W.Frag} {mg : Str → Option Value} {base : Heap} {A : Adr}
def spRight (A : Adr) : Sp := fun vs H Q _ => ∃ (p lh lq : Addr) (pl : Kgo2.Plan), vs = [.ref p] ∧ PlanAt A H p lh lq pl ∧ pl.how.length = 8 ∧ pl.patience.length = 8 ∧ ∀ H', Same H H' → Q (.bl (rightB pl)) H'
theorem scPis_right : FnScope ["self"] ["self"] (defScope sPis_right) := ⟨rfl, rfl, rfl, by decide +kernel, rfl, by decide +kernel, by decide +kernel⟩
theorem cut_take (xs : List Nat) (n : Nat) : cutV (xs.map nI) none (some (n : Int)) = ((xs.take n).map fun (x : Nat) => (x : Int)).map V.int := by
  unfold cutV
  rw [HT.sIx_none, HT.sIx_nat, Nat.sub_zero, List.drop_zero, List.length_map, List.map_map, ← List.map_take]
  have e : xs.take (min n xs.length) = xs.take n := by
    by_cases h : n ≤ xs.length
    · rw [Nat.min_eq_left h]
    · rw [Nat.min_eq_right (by omega), List.take_of_length_le (Nat.le_refl _), List.take_of_length_le (by omega)]
  rw [e]
  rfl
theorem max_all (xs : List Nat) (b : Nat) (m : Int) (hm : m ∈ xs.map fun (x : Nat) => (x : Int)) (hle : ∀ y ∈ xs.map (fun (x : Nat) => (x : Int)), y ≤ m) : decide (m ≤ (b : Int)) = xs.all (fun n => decide (n ≤ b)) := by
  rw [Bool.eq_iff_iff, decide_eq_true_eq, List.all_eq_true]
  constructor
  · intro h n hn
    have := hle (n : Int) (List.mem_map.mpr ⟨n, hn, rfl⟩)
    exact decide_eq_true (by omega)
  · intro h
    obtain ⟨n, hn, e⟩ := List.mem_map.mp hm
    have := of_decide_eq_true (h n hn)
    omega
theorem ok_right (T : Txt K mg A) : FnOk P w K mg base CX0 1 A.fPis_right A.dPis_right ["self"] (spRight A) := by
  refine T.FPis_right.ok scPis_right (fun vs H Q E h => ?_) (fun cdv Ar outer s H vs Q E hr h => ?_)
  · obtain ⟨p, lh, lq, pl, rfl, _⟩ := h
    rfl
  · obtain ⟨p, lh, lq, pl, rfl, ⟨⟨dp, hp⟩, hhw, hpt⟩, h8, q8, q⟩ := h
    refine ⟨_, pss_cons (ps_if (pw_or (pt_cmpR op_gt (pe_fld (pv 0) rfl) (pgi T.iLARGEST_WAY) (nomark _)) (pw_or1 (pt_cmpR op_gt (pe_fld (pv 0) rfl) (pgi T.iLARGEST_MOST) (nomark _)))).pt (pss_one (ps_ret pe_bl)) pss_nil)
      (pss_cons (ps_if (pw_or (pt_cmpR op_lt (pe_fld (pv 0) rfl) pe_int (nomark _)) (pw_or1 (pt_cmpR op_gt (pe_fld (pv 0) rfl) (pgi T.iLARGEST_WITHIN) (nomark _)))).pt (pss_one (ps_ret pe_bl)) pss_nil)
      (pss_cons (ps_if (pw_or (pt_cmpR op_lt (pe_fld (pv 0) rfl) pe_int (nomark _)) (pw_or1 (pt_cmpR op_gt (pe_fld (pv 0) rfl) (pgi T.iLARGEST_COUNT) (nomark _)))).pt (pss_one (ps_ret pe_bl)) pss_nil)
      (pss_one (ps_ret (pe_and (pe_cmpR op_le (pe_callB (cr_max rfl) rfl T.omax PyProof.Rows.boot_max (pa_cons (pe_slice sl_list (pe_fld (pv 0) rfl) po_none (po_some (pe_fld (pv 0) rfl))) pa_nil)) (pgi T.iLARGEST_HOW) (nomark _))
        (pe_one (pe_cmpR op_le (pe_callB (cr_max rfl) rfl T.omax PyProof.Rows.boot_max (pa_cons (pe_slice sl_list (pe_fld (pv 0) rfl) po_none (po_some (pe_fld (pv 0) rfl))) pa_nil)) (pgi T.iLARGEST_PATIENCE) (nomark _)))))))), ?_⟩
    have no : rightB pl = false → Q (.bl false) H := fun e => by rw [← e]; exact q H (Same.refl H)
    refine ⟨_, rfl, p, A.cP, dp, _, _, rfl, hp, T.clP, T.nPway, PF.g_way _, (pl.way : Int), 2, rfl, rfl, _, rfl, ?_⟩
    refine ite2 (fun h => iteT (no (by unfold rightB; have h' := of_decide_eq_true h; rw [decide_eq_false (show ¬ pl.way ≤ 2 by omega)]; rfl))) fun h1 => ?_
    refine ⟨_, rfl, p, A.cP, dp, _, _, rfl, hp, T.clP, T.nPmost, PF.g_most _, (pl.most : Int), 15, rfl, rfl, _, rfl, ?_⟩
    refine ite2 (fun h => (no (by unfold rightB; have h' := of_decide_eq_true h; rw [decide_eq_false (show ¬ pl.most ≤ 15 by omega)]; simp))) fun h2 => ?_
    refine ⟨_, rfl, p, A.cP, dp, _, _, rfl, hp, T.clP, T.nPwithin, PF.g_within _, (pl.within : Int), 1, rfl, rfl, _, rfl, ?_⟩
    refine ite2 (fun h => iteT (no (by unfold rightB; have h' := of_decide_eq_true h; rw [decide_eq_false (show ¬ 1 ≤ pl.within by omega)]; simp))) fun h3 => ?_
    refine ⟨_, rfl, p, A.cP, dp, _, _, rfl, hp, T.clP, T.nPwithin, PF.g_within _, (pl.within : Int), 65535, rfl, rfl, _, rfl, ?_⟩
    refine ite2 (fun h => (no (by unfold rightB; have h' := of_decide_eq_true h; rw [decide_eq_false (show ¬ pl.within ≤ 65535 by omega)]; simp))) fun h4 => ?_
    refine ⟨_, rfl, p, A.cP, dp, _, _, rfl, hp, T.clP, T.nPcount, PF.g_count _, (pl.count : Int), 1, rfl, rfl, _, rfl, ?_⟩
    refine ite2 (fun h => iteT (no (by unfold rightB; have h' := of_decide_eq_true h; rw [decide_eq_false (show ¬ 1 ≤ pl.count by omega)]; simp))) fun h5 => ?_
    refine ⟨_, rfl, p, A.cP, dp, _, _, rfl, hp, T.clP, T.nPcount, PF.g_count _, (pl.count : Int), 8, rfl, rfl, _, rfl, ?_⟩
    refine ite2 (fun h => (no (by unfold rightB; have h' := of_decide_eq_true h; rw [decide_eq_false (show ¬ pl.count ≤ 8 by omega)]; simp))) fun h6 => ?_
    have g1 : pl.way ≤ 2 := by have h := h1; rw [decide_eq_true_eq] at h; omega
    have g2 : pl.most ≤ 15 := by have h := h2; rw [decide_eq_true_eq] at h; omega
    have g3 : 1 ≤ pl.within := by have h := h3; rw [decide_eq_true_eq] at h; omega
    have g4 : pl.within ≤ 65535 := by have h := h4; rw [decide_eq_true_eq] at h; omega
    have g5 : 1 ≤ pl.count := by have h := h5; rw [decide_eq_true_eq] at h; omega
    have g6 : pl.count ≤ 8 := by have h := h6; rw [decide_eq_true_eq] at h; omega
    have er : rightB pl = ((pl.how.take pl.count).all (fun n => decide (n ≤ 2)) && (pl.patience.take pl.count).all (fun n => decide (n ≤ 65535))) := by
      unfold rightB
      rw [decide_eq_true g1, decide_eq_true g2, decide_eq_true g3, decide_eq_true g4, decide_eq_true g5, decide_eq_true g6]
      rfl
    rw [er] at q
    refine ⟨_, rfl, p, A.cP, dp, _, _, rfl, hp, T.clP, T.nPhow, PF.g_how _, _, rfl, p, A.cP, dp, _, _, rfl, hp, T.clP, T.nPcount, PF.g_count _, (pl.count : Int), rfl, lh, _, rfl, SqL.of hhw, fun l hl => ?_⟩
    have s1 : Same H (upd H l (.lst (cutV (pl.how.map nI) none (some (pl.count : Int))))) := Same.new hl
    refine ⟨l, (pl.how.take pl.count).map (fun (x : Nat) => (x : Int)), rfl, SqL.of (by rw [upd_same, cut_take]), by rw [List.length_map, List.length_take]; omega, fun mx hm hle => ?_⟩
    refine ⟨mx, 2, rfl, rfl, _, rfl, ?_⟩
    have e1 := max_all (pl.how.take pl.count) 2 mx hm hle
    have e1' : decide (mx ≤ 2) = (pl.how.take pl.count).all (fun n => decide (n ≤ 2)) := e1
    rw [e1']
    cases hA : (pl.how.take pl.count).all (fun n => decide (n ≤ 2)) with
    | false =>
      rw [hA] at q
      exact iteF (q _ s1)
    | true =>
      rw [hA] at q
      refine iteT ?_
      refine ⟨_, rfl, p, A.cP, dp, _, _, rfl, s1 _ _ hp, T.clP, T.nPpatience, PF.g_patience _, _, rfl, p, A.cP, dp, _, _, rfl, s1 _ _ hp, T.clP, T.nPcount, PF.g_count _, (pl.count : Int), rfl, lq, _, rfl, SqL.of (s1 _ _ hpt), fun l2 hl2 => ?_⟩
      refine ⟨l2, (pl.patience.take pl.count).map (fun (x : Nat) => (x : Int)), rfl, SqL.of (by rw [upd_same, cut_take]), by rw [List.length_map, List.length_take]; omega, fun mx2 hm2 hle2 => ?_⟩
      refine ⟨mx2, 65535, rfl, rfl, ?_⟩
      have e2 : decide (mx2 ≤ 65535) = (pl.patience.take pl.count).all (fun n => decide (n ≤ 65535)) := max_all (pl.patience.take pl.count) 65535 mx2 hm2 hle2
      show Q (V.bl (decide (mx2 ≤ 65535))) _
      rw [e2]
      exact q _ (s1.trans (Same.new hl2))
end
end Ck
/-! THE KEEPER: begin_marked, on_with_it -/
namespace Ck
open PySem L2
section
variable {P : Program} {w : World} {K : PySem.W.Frag} {mg : Str → Option Value} {base : Heap} {A : Adr}
def spBeginMarked (A : Adr) : Sp := fun vs H Q _ => ∃ (k : Addr) (F : Hp) (pl : Kgo2.Plan) (ps : List Addr) (m : KS), vs = [.ref k] ∧ KAt A F H k (some pl) ps m ∧ Wf pl m ∧ m.told.length ≤ 800 ∧
  ∀ H', KAt A F H' k (some pl) ps (beginMarkedM pl m) → Q .non H'
theorem scKbegin_marked : FnScope ["self", "child"] ["self"] (defScope sKbegin_marked) := ⟨rfl, rfl, rfl, by decide +kernel, rfl, by decide +kernel, by decide +kernel⟩
theorem ok_begin_marked (T : Txt K mg A) : FnOk P w K mg base CX0 3 A.fKbegin_marked A.dKbegin_marked ["self"] (spBeginMarked A) := by
  refine T.FKbegin_marked.ok scKbegin_marked (fun vs H Q E h => ?_) (fun cdv Ar outer s H vs Q E hr h => ?_)
  · obtain ⟨k, F, pl, ps, m, rfl, _⟩ := h
    rfl
  · obtain ⟨k, F, pl, ps, m, rfl, KA, W, hl, q⟩ := h
    have hr1 : Room 1 _ := hr.mono (by decide)
    have KA' := KA
    obtain ⟨dx, lt, ln, lo, lm, pv0, O⟩ := KA'
    obtain ⟨p, lh, lq, dp, e, hp, hhw, hpt⟩ := O.thePlan
    subst e
    have h8 := W.cnt
    refine ⟨_, pss_cons (ps_for PassesOwn.never rfl (pi_range1 rfl T.orange (pa_cons (pe_fld (pe_fld (pv 0) rfl) rfl) pa_nil)) (pg_name (i := 1) scKbegin_marked.nd rfl (Or.inl rfl))
        (pss_one (ps_if (pt_val (pe_ix ix_list (pe_fld (pv 0) rfl) (pv 1) (fun _ _ => rfl))) (pss_one (ps_expr (pe_meth (pv 0) T.clK T.mKbegin (ok_begin T) hr T.bKbegin .nil pass0 (pa_cons (pv 1) pa_nil)))) pss_nil)))
      (pss_cons (ps_expr (pe_meth0 (pv 0) T.clK T.mKunmark (ok_unmark T) hr1 T.bKunmark .nil pass0)) (pss_one (ps_fld (pv 0) (pgi T.iKEEPING) rfl))), ?_⟩
    refine ⟨_, rfl, k, A.cK, dx, _, _, rfl, O.ob, T.clK, T.nKplan, KF.g_plan _, p, A.cP, dp, _, _, rfl, hp, T.clP, T.nPcount, PF.g_count _, (pl.count : Int), rfl, by omega, by omega,
      for_range (n := pl.count) (fun i σ H' => ∃ v1, σ = [some (.ref k), v1] ∧ KAt A F H' k (some pl) ps (markedUp m i)) ⟨none, rfl, KA⟩ ?_ ?_⟩
    · rintro i σ H2 hi ⟨v1, rfl, KA2⟩
      rw [z_add]
      have KA2' := KA2
      obtain ⟨dx2, lt2, ln2, lo2, lm2, pv2, O2⟩ := KA2'
      have W2 := markedUp_wf W i
      have hmk := markedUp_marked m i
      refine ⟨_, rfl, k, A.cK, dx2, _, _, rfl, O2.ob, T.clK, T.nKmarked, KF.g_marked _, _, rfl, lm2, _, (i : Int), _, rfl, rfl, SqL.of O2.marked, bl_at (by rw [W2.mkl]; exact hi), _, rfl, ?_⟩
      rw [hmk]
      cases hb : m.marked.getD i false with
      | true =>
        refine iteT ?_
        refine ⟨_, rfl, k, dx2, _, rfl, O2.ob, rfl, _, rfl, k, F, some pl, ps, markedUp m i, i, rfl, KA2, by rw [W2.onl]; exact hi, ?_, fun H' h => ⟨_, rfl, ?_⟩⟩
        · have := markedUp_told m i
          omega
        · show KAt A F H' k (some pl) ps (if m.marked.getD i false = true then beginM (markedUp m i) i else markedUp m i)
          rw [if_pos hb]
          exact h
      | false =>
        refine iteF ?_
        refine ⟨_, rfl, ?_⟩
        show KAt A F H2 k (some pl) ps (if m.marked.getD i false = true then beginM (markedUp m i) i else markedUp m i)
        rw [if_neg (by rw [hb]; exact Bool.false_ne_true)]
        exact KA2
    · rintro σ H2 ⟨v1, rfl, KA2⟩
      have KA2' := KA2
      obtain ⟨dx2, lt2, ln2, lo2, lm2, pv2, O2⟩ := KA2'
      refine ⟨_, rfl, k, dx2, _, rfl, O2.ob, rfl, k, F, pl, ps, _, rfl, KA2, h8, fun H3 KA3 => ?_⟩
      obtain ⟨dx3, lt3, ln3, lo3, lm3, pv3, O3⟩ := KA3
      refine ⟨_, rfl, k, A.cK, dx3, _, rfl, O3.ob, T.clK, T.nKmode, KF.few _, ?_⟩
      exact q _ ⟨dx3, lt3, ln3, lo3, lm3, pv3, O3.setMode 0⟩
/-! on_with_it -/
theorem last_cases {α : Type} (l : List α) : l = [] ∨ ∃ l' c, l = l' ++ [c] ∧ l.getLast? = some c := by
  by_cases h : l = []
  · exact .inl h
  · exact .inr ⟨l.dropLast, l.getLast h, (List.dropLast_concat_getLast h).symm, List.getLast?_eq_some_getLast h⟩
def spOnWith (A : Adr) : Sp := fun vs H Q _ => ∃ (k : Addr) (F : Hp) (pl : Kgo2.Plan) (ps : List Addr) (m : KS), vs = [.ref k] ∧ KAt A F H k (some pl) ps m ∧ Wf pl m ∧ m.told.length ≤ 800 ∧
  ∀ H', KAt A F H' k (some pl) ps (onWithM pl m) → Q .non H'
theorem scKon_with_it : FnScope ["self", "due", "child"] ["self"] (defScope sKon_with_it) := ⟨rfl, rfl, rfl, by decide +kernel, rfl, by decide +kernel, by decide +kernel⟩
theorem filter_succ (p : Nat → Bool) (i : Nat) : (List.range (i + 1)).filter p = (List.range i).filter p ++ (if p i = true then [i] else []) := by
  rw [List.range_succ, List.filter_append]
  congr 1
  by_cases h : p i = true
  · rw [if_pos h, List.filter_cons_of_pos h, List.filter_nil]
  · rw [if_neg h, List.filter_cons_of_neg h, List.filter_nil]
theorem filter_le (p : Nat → Bool) (i : Nat) : ((List.range i).filter p).length ≤ i := Nat.le_trans (List.length_filter_le _ _) (Nat.le_of_eq List.length_range)
theorem ok_on_with_it (T : Txt K mg A) : FnOk P w K mg base CX0 4 A.fKon_with_it A.dKon_with_it ["self"] (spOnWith A) := by
  refine T.FKon_with_it.ok scKon_with_it (fun vs H Q E h => ?_) (fun cdv Ar outer s H vs Q E hr h => ?_)
  · obtain ⟨k, F, pl, ps, m, rfl, _⟩ := h
    rfl
  · obtain ⟨k, F, pl, ps, m, rfl, KA, W, hl, q⟩ := h
    have hr1 : Room 1 _ := hr.mono (by decide)
    have hr2 : Room 2 _ := hr.mono (by decide)
    have KA' := KA
    obtain ⟨dx, lt, ln, lo, lm, pv0, O⟩ := KA'
    obtain ⟨p, lh, lq, dp, e, hp, hhw, hpt⟩ := O.thePlan
    subst e
    have h8 := W.cnt
    refine ⟨_, pss_cons (ps_if (pt_cmpR op_notN (pe_fld (pv 0) rfl) pe_non (nomark _)) (pss_one ps_retN) pss_nil)
      (pss_cons (ps_setLc (i := 1) rfl scKon_with_it.nd rfl rfl (sw_true rfl rfl rfl rfl) (pi_range1 rfl T.orange (pa_cons (pe_fld (pe_fld (pv 0) rfl) rfl) pa_nil)) (blkOk_by (N := ["self", "due", "child"]) (sc := defScope sKon_with_it) (own := [("child", 2)]) (by decide +kernel))
        (fun _ _ _ _ _ => pg_name (i := 2) scKon_with_it.nd rfl (Or.inl rfl)) (fun _ _ _ _ _ => pts_one (pt_val (pe_meth (pv 0) T.clK T.mKis_to_be_asked (ok_toAsk T) hr1 T.bKis_to_be_asked .nil pass0 (pa_cons (pv 2) pa_nil)))) (fun _ _ _ _ _ => pv 2))
      (pss_one (ps_if (pt_truth (pv 1) (fun _ => rfl)) (pss_one (ps_expr (pe_meth (pv 0) T.clK T.mKask (ok_ask T) hr2 T.bKask .nil pass0 (pa_cons (pe_ix ix_list (pv 1) (pe_un un_neg pe_int) (fun _ _ => rfl)) pa_nil))))
        (pss_one (ps_if (pt_cmpR op_eq (pe_fld (pv 0) rfl) (pgi T.iBEGINNING_ANEW) (nomark _)) (pss_one (ps_expr (pe_meth0 (pv 0) T.clK T.mKbegin_marked (ok_begin_marked T) hr T.bKbegin_marked .nil pass0)))
          (pss_cons (ps_fld (pv 0) (pgi T.iOVER) rfl) (pss_one (ps_expr (pe_meth (pv 0) T.clK T.mKtell (ok_tell T) hr1 T.bKtell .nil pass0 (pa_cons (pgi T.iTELL_OVER) (pa_cons (pe_fld (pv 0) rfl) (pa_cons pe_int pa_nil)))))))))))), ?_⟩
    refine ⟨_, rfl, k, A.cK, dx, _, _, rfl, O.ob, T.clK, T.nKstopping, KF.g_stopping _, rfl, _, rfl, ?_⟩
    unfold onWithM at q
    cases hst : m.stopping with
    | some c =>
      rw [hst] at q
      have e : (!decide ((mF m (.ref p) lt ln lo lm).stopping = V.non)) = true := by
        have e2 : (mF m (.ref p) lt ln lo lm).stopping = nI c := by unfold mF; rw [hst]; rfl
        rw [e2]
        rfl
      rw [e]
      refine iteT ?_
      exact q H KA
    | none =>
      rw [hst, if_neg (by simp)] at q
      have e : (!decide ((mF m (.ref p) lt ln lo lm).stopping = V.non)) = false := by
        have e2 : (mF m (.ref p) lt ln lo lm).stopping = V.non := by unfold mF; rw [hst]; rfl
        rw [e2]
        rfl
      rw [e]
      refine iteF ?_
      refine ⟨_, rfl, k, A.cK, dx, _, _, rfl, O.ob, T.clK, T.nKplan, KF.g_plan _, p, A.cP, dp, _, _, rfl, hp, T.clP, T.nPcount, PF.g_count _, (pl.count : Int), rfl, by omega, by omega, fun D hD => ?_⟩
      refine lc_range (n := pl.count) (fun i H' => H' = upd H D (.lst (((List.range i).filter (toAsk m)).map nI))) rfl ?_ ?_
      · rintro i H2 hi rfl
        rw [z_add]
        have O2 := O.fresh (o := .lst (((List.range i).filter (toAsk m)).map nI)) hD
        refine ⟨rfl, _, rfl, k, dx, _, rfl, O2.ob, rfl, _, rfl, k, F, some pl, ps, m, i, rfl, ⟨dx, lt, ln, lo, lm, .ref p, O2⟩, by rw [W.onl]; exact hi, by rw [W.mkl]; exact hi, _, rfl, ?_⟩
        cases hb : toAsk m i with
        | true =>
          refine iteT ?_
          refine ⟨_, rfl, _, upd_same, ?_, ?_⟩
          · rw [List.length_map]
            have := filter_le (toAsk m) i
            rw [sizeLine_eq]
            omega
          · rw [upd_upd, filter_succ, if_pos hb, List.map_append]
            rfl
        | false =>
          refine iteF ?_
          rw [filter_succ, if_neg (by rw [hb]; exact Bool.false_ne_true), List.append_nil]
      · rintro H2 rfl
        have O2 := O.fresh (o := .lst (((List.range pl.count).filter (toAsk m)).map nI)) hD
        have KA2 : KAt A F _ k (some pl) ps m := ⟨dx, lt, ln, lo, lm, .ref p, O2⟩
        refine ⟨_, rfl, _, .inl ⟨_, SqL.of upd_same, rfl⟩, ?_⟩
        have eD : (List.range pl.count).filter (toAsk m) = dueL pl m := rfl
        rcases last_cases (dueL pl m) with hn | ⟨l', c, h1, h2⟩
        · have hne : (!(((List.range pl.count).filter (toAsk m)).map nI).isEmpty) = false := by
            rw [eD, hn]
            rfl
          rw [hne]
          rw [hn] at q
          refine iteF ?_
          refine ⟨_, rfl, k, A.cK, dx, _, _, rfl, O2.ob, T.clK, T.nKmode, KF.g_mode _, rfl, _, rfl, ?_⟩
          have q' : ∀ H', KAt A F H' k (some pl) ps (if m.mode = 1 then beginMarkedM pl m else overM m) → Q .non H' := q
          by_cases hm : m.mode = 1
          · have e1 : decide ((mF m (.ref p) lt ln lo lm).mode = V.int 1) = true := decide_eq_true (by show nI m.mode = V.int 1; rw [hm]; rfl)
            rw [e1]
            refine iteT ?_
            rw [if_pos hm] at q'
            exact ⟨_, rfl, k, dx, _, rfl, O2.ob, rfl, k, F, pl, ps, m, rfl, KA2, W, hl, fun H' h => q' H' h⟩
          · have e1 : decide ((mF m (.ref p) lt ln lo lm).mode = V.int 1) = false := decide_eq_false (fun z => hm (by have z' : nI m.mode = V.int 1 := z; have := V.int.inj z'; omega))
            rw [e1]
            refine iteF ?_
            rw [if_neg hm] at q'
            refine ⟨_, rfl, k, A.cK, dx, _, rfl, O2.ob, T.clK, T.nKmode, KF.few _, ?_⟩
            have O3 := O2.setMode 3
            refine ⟨_, rfl, k, dx, _, rfl, O3.ob, rfl, _, rfl, k, A.cK, dx, _, _, rfl, O3.ob, T.clK, T.nKwhy, KF.g_why _, k, F, some pl, ps, { m with mode := 3 }, 2, (m.why : Int), 0, rfl, ⟨dx, lt, ln, lo, lm, .ref p, O3⟩, by show m.told.length ≤ 900; omega, fun H' h => ?_⟩
            exact q' H' h
        · have hne : (!(((List.range pl.count).filter (toAsk m)).map nI).isEmpty) = true := by
            rw [eD, h1]
            simp
          rw [hne]
          refine iteT ?_
          rw [h2] at q
          have hcm : c ∈ dueL pl m := by rw [h1]; simp
          have hc : c < pl.count := List.mem_range.mp (List.mem_filter.mp hcm).1
          refine ⟨_, rfl, k, dx, _, rfl, O2.ob, rfl, _, rfl, 1, rfl, D, _, -1, nI c, rfl, rfl, SqL.of upd_same, ?_, k, F, pl, ps, m, c, rfl, KA2, by rw [W.onl]; exact hc, by rw [W.ql]; omega, by omega, fun H' h => q H' h⟩
          rw [eD, h1, List.map_append]
          exact atI_last _ _
end
end Ck
/-! THE KEEPER: note, mark -/
namespace Ck
open PySem L2
section
variable {P : Program} {w : World} {K : PySem.W.Frag} {mg : Str → Option Value} {base : Heap} {A : Adr}
def spNote (A : Adr) : Sp := fun vs H Q _ => ∃ (k : Addr) (F : Hp) (pl : Kgo2.Plan) (ps : List Addr) (m : KS), vs = [.ref k] ∧ KAt A F H k (some pl) ps m ∧ m.notes.length ≤ 1000 ∧
  ∀ H', KAt A F H' k (some pl) ps (noteM pl m) → Q .non H'
theorem scKnote : FnScope ["self", "kept", "noted"] ["self"] (defScope sKnote) := ⟨rfl, rfl, rfl, by decide +kernel, rfl, by decide +kernel, by decide +kernel⟩
theorem take_succ_at {α : Type} {l : List α} {i : Nat} {x : α} (h : l[i]? = some x) : l.take (i + 1) = l.take i ++ [x] := by
  rw [List.take_add_one, h]
  rfl
theorem filter_one (p : Nat → Bool) (n : Nat) : [n].filter p = if p n = true then [n] else [] := by
  by_cases h : p n = true
  · rw [if_pos h, List.filter_cons_of_pos h, List.filter_nil]
  · rw [if_neg h, List.filter_cons_of_neg h, List.filter_nil]
theorem ok_note (T : Txt K mg A) : FnOk P w K mg base CX0 1 A.fKnote A.dKnote ["self"] (spNote A) := by
  refine T.FKnote.ok scKnote (fun vs H Q E h => ?_) (fun cdv Ar outer s H vs Q E hr h => ?_)
  · obtain ⟨k, F, pl, ps, m, rfl, _⟩ := h
    rfl
  · obtain ⟨k, F, pl, ps, m, rfl, ⟨dx, lt, ln, lo, lm, pv0, O⟩, hl, q⟩ := h
    obtain ⟨p, lh, lq, dp, e, hp, hhw, hpt⟩ := O.thePlan
    subst e
    refine ⟨_, pss_cons (ps_setLc (i := 1) rfl scKnote.nd rfl rfl (sw_true rfl rfl rfl rfl) (pi_list (pe_fld (pv 0) rfl)) (blkOk_by (N := ["self", "kept", "noted"]) (sc := defScope sKnote) (own := [("noted", 2)]) (by decide +kernel))
        (fun _ _ _ _ _ => pg_name (i := 2) scKnote.nd rfl (Or.inl rfl)) (fun _ _ _ _ _ => pts_one (pt_cmp (pc_lt (pe_sub (pe_fldK K (pv 0) rfl) (pv 2)) (pe_fldK K (pe_fldK K (pv 0) rfl) rfl)))) (fun _ _ _ _ _ => pv 2))
      (pss_one (ps_fld (pv 0) (pe_op op_cat (pv 1) (pe_lst (pa_cons (pe_fld (pv 0) rfl) pa_nil))) rfl)), ?_⟩
    refine ⟨_, rfl, k, A.cK, dx, _, _, rfl, O.ob, T.clK, T.nKnotes, KF.g_notes _, ln, rfl, ⟨_, SqL.of O.notes⟩, fun D hD => ?_⟩
    refine lc_list (K := K) (a := ln) (xs := m.notes.map nI) (fun i H' => H' = upd H D (.lst (((m.notes.take i).filter (fun (n : Nat) => decide ((m.now : Int) - (n : Int) < (pl.within : Int)))).map nI))) rfl ?_ ?_ ?_
    · rintro i H2 _ rfl
      exact SqL.of (O.fresh hD).notes
    · rintro i x H2 hi rfl
      obtain ⟨n, hn, rfl⟩ : ∃ n, m.notes[i]? = some n ∧ x = nI n := by
        rw [List.getElem?_map] at hi
        cases e : m.notes[i]? with
        | none =>
          rw [e] at hi
          cases hi
        | some z =>
          rw [e] at hi
          exact ⟨z, rfl, (Option.some.inj hi).symm⟩
      have O2 := O.fresh (o := .lst (((m.notes.take i).filter (fun (n : Nat) => decide ((m.now : Int) - (n : Int) < (pl.within : Int)))).map nI)) hD
      have hp2 := (Same.new (o := .lst (((m.notes.take i).filter (fun (n : Nat) => decide ((m.now : Int) - (n : Int) < (pl.within : Int)))).map nI)) hD) _ _ hp
      refine ⟨rfl, _, rfl, k, A.cK, dx, _, _, rfl, O2.ob, T.clK, T.nKnow, KF.g_now _, _, rfl, (m.now : Int), (n : Int), rfl, rfl, _, rfl, k, A.cK, dx, _, _, rfl, O2.ob, T.clK, T.nKplan, KF.g_plan _, p, A.cP, dp, _, _, rfl, hp2, T.clP, T.nPwithin, PF.g_within _, (m.now : Int) - (n : Int), (pl.within : Int), rfl, rfl, _, rfl, ?_⟩
      show (if decide ((m.now : Int) - (n : Int) < (pl.within : Int)) = true then _ else _)
      rw [take_succ_at hn, List.filter_append]
      by_cases hb : (m.now : Int) - (n : Int) < (pl.within : Int)
      · rw [decide_eq_true hb]
        refine iteT ?_
        refine ⟨_, rfl, _, upd_same, ?_, ?_⟩
        · rw [List.length_map, sizeLine_eq]
          have h1 := List.length_filter_le (fun (n : Nat) => decide ((m.now : Int) - (n : Int) < (pl.within : Int))) (m.notes.take i)
          have h2 : (m.notes.take i).length ≤ m.notes.length := by rw [List.length_take]; omega
          omega
        · rw [upd_upd, filter_one, if_pos (decide_eq_true hb), List.map_append]
          rfl
      · rw [decide_eq_false hb]
        refine iteF ?_
        rw [filter_one, if_neg (by rw [decide_eq_false hb]; exact Bool.false_ne_true), List.append_nil]
    · rintro H2 rfl
      rw [List.length_map, List.take_of_length_le (Nat.le_refl _)]
      generalize hk : m.notes.filter (fun (n : Nat) => decide ((m.now : Int) - (n : Int) < (pl.within : Int))) = kept
      have hkl : kept.length ≤ m.notes.length := by rw [← hk]; exact List.length_filter_le _ _
      have O2 := O.fresh (o := .lst (kept.map nI)) hD
      refine ⟨_, rfl, _, rfl, k, A.cK, dx, _, _, rfl, O2.ob, T.clK, T.nKnow, KF.g_now _, (by show 1 ≤ sizeLine; decide), fun l1 hl1 => ?_⟩
      have O3 := O2.fresh (o := .lst [nI m.now]) hl1
      have hD3 : upd (upd H D (.lst (kept.map nI))) l1 (.lst [nI m.now]) D = some (.lst (kept.map nI)) := by
        rw [upd_ne (fun z => by rw [← z, upd_same] at hl1; cases hl1), upd_same]
      refine ⟨D, l1, kept.map nI, [nI m.now], rfl, rfl, hD3, upd_same, ?_, fun l2 hl2 => ?_⟩
      · rw [List.length_map, sizeLine_eq]
        show kept.length + 1 ≤ _
        omega
      · have O4 := O3.fresh (o := .lst (kept.map nI ++ [nI m.now])) hl2
        refine ⟨_, rfl, k, A.cK, dx, _, rfl, O4.ob, T.clK, T.nKnotes, KF.few _, ?_⟩
        refine q _ ⟨dx, lt, l2, lo, lm, .ref p, ?_⟩
        unfold noteM
        rw [hk]
        exact O3.putNotes (kept ++ [m.now]) hl2 (by rw [List.map_append]; rfl)
/-! mark -/
def spMark (A : Adr) : Sp := fun vs H Q _ => ∃ (k : Addr) (F : Hp) (pl : Kgo2.Plan) (ps : List Addr) (m : KS) (c : Nat), vs = [.ref k, nI c] ∧ KAt A F H k (some pl) ps m ∧ Wf pl m ∧ c < pl.count ∧
  ∀ H', KAt A F H' k (some pl) ps (markM pl m c) → Q .non H'
theorem scKmark : FnScope ["self", "child", "other"] ["self", "child"] (defScope sKmark) := ⟨rfl, rfl, rfl, by decide +kernel, rfl, by decide +kernel, by decide +kernel⟩
theorem beside_lt {pl : Kgo2.Plan} {c o : Nat} (h : o ∈ besideL pl c) : o < pl.count := by
  unfold besideL at h
  split at h
  · exact List.mem_range.mp h
  · split at h
    · have := List.mem_range'_1.mp h
      omega
    · cases h
theorem dec_st (o : Nat) (st : Option Nat) : decide (nI o = stV st) = decide (st = some o) := by
  cases st with
  | none => rfl
  | some c =>
    show decide (V.int (o : Int) = V.int (c : Int)) = _
    rw [Bool.eq_iff_iff]
    simp
    omega
theorem ok_mark (T : Txt K mg A) : FnOk P w K mg base CX0 2 A.fKmark A.dKmark ["self", "child"] (spMark A) := by
  refine T.FKmark.ok scKmark (fun vs H Q E h => ?_) (fun cdv Ar outer s H vs Q E hr h => ?_)
  · obtain ⟨k, F, pl, ps, m, c, rfl, _⟩ := h
    rfl
  · obtain ⟨k, F, pl, ps, m, c, rfl, ⟨dx, lt, ln, lo, lm, pv0, O⟩, W, hc, q⟩ := h
    have h8 := W.cnt
    refine ⟨_, pss_cons (ps_asg pe_bl (pg_sub (pe_fld (pv 0) rfl) (pv 1) set_list))
      (pss_one (ps_for PassesOwn.never rfl (pi_list (pe_meth (pe_fld (pv 0) rfl) T.clP T.mPbeside (ok_beside T) hr T.bPbeside .nil pass0 (pa_cons (pv 1) pa_nil))) (pg_name (i := 2) scKmark.nd rfl (Or.inl rfl))
        (pss_one (ps_if (pw_or (pt_val (pe_ix ix_list (pe_fld (pv 0) rfl) (pv 2) (fun _ _ => rfl))) (pw_or1 (pt_cmpR op_eq (pv 2) (pe_fld (pv 0) rfl) (nomark _)))).pt (pss_one (ps_asg pe_bl (pg_sub (pe_fld (pv 0) rfl) (pv 2) set_list))) pss_nil)))), ?_⟩
    refine ⟨_, rfl, k, A.cK, dx, _, _, rfl, O.ob, T.clK, T.nKmarked, KF.g_marked _, _, rfl, lm, _, (c : Int), c, rfl, rfl, O.marked, ixN_nat (by rw [List.length_map, W.mkl]; exact hc), ?_⟩
    have O1 := O.setMarked (set_bl m.marked c true)
    obtain ⟨p, lh, lq, dp, e, hp, hhw, hpt⟩ := O1.thePlan
    subst e
    have KA1 : KAt A F _ k (some pl) ps { m with marked := m.marked.set c true } := ⟨dx, lt, ln, lo, lm, .ref p, O1⟩
    refine ⟨_, rfl, k, A.cK, dx, _, _, rfl, O1.ob, T.clK, T.nKplan, KF.g_plan _, p, dp, _, rfl, hp, rfl, _, rfl, p, lh, lq, pl, c, rfl, ⟨⟨dp, hp⟩, hhw, hpt⟩, h8, by omega, fun H2 l s2 hl0 hl2 => ?_⟩
    have KA2 : KAt A (upd F l (.lst ((besideL pl c).map nI))) H2 k (some pl) ps { m with marked := m.marked.set c true } := (KA1.add (o := .lst ((besideL pl c).map nI)) (.inl hl0)).mono (fun b u hb => by
      by_cases z : b = l
      · rw [z, upd_same] at hb
        rw [z, hl2]
        exact hb
      · rw [upd_ne z] at hb
        exact s2 b u hb)
    refine ⟨l, rfl, ⟨_, SqL.of hl2⟩, for_list (K := K) (a := l) (xs := (besideL pl c).map nI) (fun i σ H' => ∃ v2, σ = [some (.ref k), some (nI c), v2] ∧ KAt A (upd F l (.lst ((besideL pl c).map nI))) H' k (some pl) ps { m with marked := ((besideL pl c).take i).foldl (markStep m) (m.marked.set c true) })
      ⟨none, rfl, KA2⟩ (fun i σ H' _ ⟨_, _, KA⟩ => SqL.of (KA.sameF l _ upd_same)) ?_ ?_⟩
    · rintro i x σ H3 hi ⟨v2, rfl, KA3⟩
      obtain ⟨o, ho, rfl⟩ : ∃ o, (besideL pl c)[i]? = some o ∧ x = nI o := by
        rw [List.getElem?_map] at hi
        cases e : (besideL pl c)[i]? with
        | none =>
          rw [e] at hi
          cases hi
        | some z =>
          rw [e] at hi
          exact ⟨z, rfl, (Option.some.inj hi).symm⟩
      have hoc : o < pl.count := beside_lt (List.mem_of_getElem? ho)
      have KA3' := KA3
      obtain ⟨dx3, lt3, ln3, lo3, lm3, pv3, O3⟩ := KA3'
      have et : ((besideL pl c).take (i + 1)).foldl (markStep m) (m.marked.set c true) = markStep m (((besideL pl c).take i).foldl (markStep m) (m.marked.set c true)) o := by
        rw [take_succ_at ho, List.foldl_append]
        rfl
      have hml : (((besideL pl c).take i).foldl (markStep m) (m.marked.set c true)).length = pl.count := by rw [mark_fold_len, List.length_set]; exact W.mkl
      have sto : (m.on.getD o false || decide (m.stopping = some o)) = true → KAt A (upd F l (.lst ((besideL pl c).map nI))) (upd H3 lm3 (.lst (((((besideL pl c).take i).foldl (markStep m) (m.marked.set c true)).map V.bl).set o (V.bl true)))) k (some pl) ps { m with marked := ((besideL pl c).take (i + 1)).foldl (markStep m) (m.marked.set c true) } := fun h => by
        rw [et]
        unfold markStep
        rw [if_pos h]
        exact ⟨dx3, lt3, ln3, lo3, lm3, pv3, O3.setMarked (set_bl _ o true)⟩
      have nst : ¬ (m.on.getD o false || decide (m.stopping = some o)) = true → KAt A (upd F l (.lst ((besideL pl c).map nI))) H3 k (some pl) ps { m with marked := ((besideL pl c).take (i + 1)).foldl (markStep m) (m.marked.set c true) } := fun h => by
        rw [et]
        unfold markStep
        rw [if_neg h]
        exact KA3
      refine ⟨_, rfl, k, A.cK, dx3, _, _, rfl, O3.ob, T.clK, T.nKon, KF.g_on _, _, rfl, lo3, _, (o : Int), _, rfl, rfl, SqL.of O3.on, bl_at (by show o < m.on.length; rw [W.onl]; exact hoc), _, rfl, ?_⟩
      show if m.on.getD o false = true then _ else _
      cases hon : m.on.getD o false with
      | true =>
        refine iteT (iteT ?_)
        refine ⟨_, rfl, k, A.cK, dx3, _, _, rfl, O3.ob, T.clK, T.nKmarked, KF.g_marked _, _, rfl, lm3, _, (o : Int), o, rfl, rfl, O3.marked, ixN_nat (by rw [List.length_map, hml]; exact hoc), _, rfl, sto (by rw [hon]; rfl)⟩
      | false =>
        refine iteF ?_
        refine ⟨_, rfl, _, rfl, k, A.cK, dx3, _, _, rfl, O3.ob, T.clK, T.nKstopping, KF.g_stopping _, (by show scal (nI o) (stV m.stopping) = true; cases m.stopping <;> rfl), _, rfl, ?_⟩
        have ed : decide (nI o = (mF { m with marked := ((besideL pl c).take i).foldl (markStep m) (m.marked.set c true) } pv3 lt3 ln3 lo3 lm3).stopping) = decide (m.stopping = some o) := dec_st o m.stopping
        rw [ed]
        by_cases hst : m.stopping = some o
        · rw [decide_eq_true hst]
          refine iteT ?_
          refine ⟨_, rfl, k, A.cK, dx3, _, _, rfl, O3.ob, T.clK, T.nKmarked, KF.g_marked _, _, rfl, lm3, _, (o : Int), o, rfl, rfl, O3.marked, ixN_nat (by rw [List.length_map, hml]; exact hoc), _, rfl, sto (by rw [decide_eq_true hst]; simp)⟩
        · rw [decide_eq_false hst]
          refine iteF ?_
          exact ⟨_, rfl, nst (by rw [hon, decide_eq_false hst]; simp)⟩
    · rintro σ H3 ⟨v2, rfl, KA3⟩
      refine q H3 ?_
      rw [List.length_map, List.take_of_length_le (Nat.le_refl _)] at KA3
      exact KA3.forget (fresh_F KA1.sameF hl0) (KA1.notPlan hl0)
end
end Ck
/-! THE KEEPER: end_for, begin_anew, stop, tick -/
namespace Ck
open PySem L2
section
variable {P : Program} {w : World} {K : PySem.W.Frag} {mg : Str → Option Value} {base : Heap} {A : Adr}
def spEndFor (A : Adr) : Sp := fun vs H Q _ => ∃ (k : Addr) (F : Hp) (pl : Kgo2.Plan) (ps : List Addr) (m : KS) (y : Nat), vs = [.ref k, nI y] ∧ KAt A F H k (some pl) ps m ∧ Wf pl m ∧ m.told.length ≤ 800 ∧
  ∀ H', KAt A F H' k (some pl) ps (endForM pl m y) → Q .non H'
theorem scKend_for : FnScope ["self", "why"] ["self", "why"] (defScope sKend_for) := ⟨rfl, rfl, rfl, by decide +kernel, rfl, by decide +kernel, by decide +kernel⟩
theorem ok_end_for (T : Txt K mg A) : FnOk P w K mg base CX0 5 A.fKend_for A.dKend_for ["self", "why"] (spEndFor A) := by
  refine T.FKend_for.ok scKend_for (fun vs H Q E h => ?_) (fun cdv Ar outer s H vs Q E hr h => ?_)
  · obtain ⟨k, F, pl, ps, m, y, rfl, _⟩ := h
    rfl
  · obtain ⟨k, F, pl, ps, m, y, rfl, ⟨dx, lt, ln, lo, lm, pv0, O⟩, W, hl, q⟩ := h
    have hr1 : Room 1 _ := hr.mono (by decide)
    refine ⟨_, pss_cons (ps_fld (pv 0) (pgi T.iENDING) rfl) (pss_cons (ps_fld (pv 0) (pv 1) rfl) (pss_cons (ps_expr (pe_meth0 (pv 0) T.clK T.mKunmark (ok_unmark T) hr1 T.bKunmark .nil pass0)) (pss_one (ps_expr (pe_meth0 (pv 0) T.clK T.mKon_with_it (ok_on_with_it T) hr T.bKon_with_it .nil pass0))))), ?_⟩
    refine ⟨_, rfl, k, A.cK, dx, _, rfl, O.ob, T.clK, T.nKmode, KF.few _, ?_⟩
    have O1 := O.setMode 2
    refine ⟨_, rfl, _, rfl, k, A.cK, dx, _, rfl, O1.ob, T.clK, T.nKwhy, KF.few _, ?_⟩
    have O2 := O1.setWhy y
    refine ⟨_, rfl, k, dx, _, rfl, O2.ob, rfl, k, F, pl, ps, { m with mode := 2, why := y }, rfl, ⟨dx, lt, ln, lo, lm, pv0, O2⟩, W.cnt, fun H3 KA3 => ?_⟩
    have KA3' := KA3
    obtain ⟨dx3, lt3, ln3, lo3, lm3, pv3, O3⟩ := KA3'
    exact ⟨_, rfl, k, dx3, _, rfl, O3.ob, rfl, k, F, pl, ps, _, rfl, KA3, unmark_wf (mode_wf W 2 y), hl, fun H' h => q H' h⟩
/-! begin_anew -/
def spBeginAnew (A : Adr) : Sp := fun vs H Q _ => ∃ (k : Addr) (F : Hp) (pl : Kgo2.Plan) (ps : List Addr) (m : KS) (c : Nat), vs = [.ref k, nI c] ∧ KAt A F H k (some pl) ps m ∧ Wf pl m ∧ m.notes.length ≤ 19 ∧ c < pl.count ∧ m.told.length ≤ 800 ∧
  ∀ H', KAt A F H' k (some pl) ps (beginAnewM pl m c) → Q .non H'
theorem scKbegin_anew : FnScope ["self", "child"] ["self", "child"] (defScope sKbegin_anew) := ⟨rfl, rfl, rfl, by decide +kernel, rfl, by decide +kernel, by decide +kernel⟩
theorem note_wf {pl : Kgo2.Plan} {m : KS} (w : Wf pl m) (h : m.notes.length ≤ 19) : Wf pl (noteM pl m) := by
  refine ⟨w.onl, w.mkl, w.cnt, w.hl, w.ql, w.st, ?_⟩
  show (m.notes.filter _ ++ [m.now]).length ≤ 20
  rw [List.length_append]
  have := List.length_filter_le (fun (n : Nat) => decide ((m.now : Int) - (n : Int) < (pl.within : Int))) m.notes
  show _ + 1 ≤ 20
  omega
theorem ok_begin_anew (T : Txt K mg A) : FnOk P w K mg base CX0 6 A.fKbegin_anew A.dKbegin_anew ["self", "child"] (spBeginAnew A) := by
  refine T.FKbegin_anew.ok scKbegin_anew (fun vs H Q E h => ?_) (fun cdv Ar outer s H vs Q E hr h => ?_)
  · obtain ⟨k, F, pl, ps, m, c, rfl, _⟩ := h
    rfl
  · obtain ⟨k, F, pl, ps, m, c, rfl, KA, W, hn, hc, hl, q⟩ := h
    have hr1 : Room 1 _ := hr.mono (by decide)
    have hr2 : Room 2 _ := hr.mono (by decide)
    have hr4 : Room 4 _ := hr.mono (by decide)
    have KA' := KA
    obtain ⟨dx, lt, ln, lo, lm, pv0, O⟩ := KA'
    refine ⟨_, pss_cons (ps_expr (pe_meth0 (pv 0) T.clK T.mKnote (ok_note T) hr1 T.bKnote .nil pass0))
      (pss_cons (ps_if (pt_cmpR op_gt (pe_callB call_len_seq rfl T.olen PySem.boot_len (pa_cons (pe_fld (pv 0) rfl) pa_nil)) (pe_fld (pe_fld (pv 0) rfl) rfl) (nomark _))
        (pss_cons (ps_expr (pe_meth (pv 0) T.clK T.mKend_for (ok_end_for T) hr T.bKend_for .nil pass0 (pa_cons (pgi T.iWHY_TOO_OFTEN) pa_nil))) (pss_one ps_retN)) pss_nil)
      (pss_cons (ps_expr (pe_meth (pv 0) T.clK T.mKmark (ok_mark T) hr2 T.bKmark .nil pass0 (pa_cons (pv 1) pa_nil)))
      (pss_cons (ps_fld (pv 0) (pgi T.iBEGINNING_ANEW) rfl) (pss_one (ps_expr (pe_meth0 (pv 0) T.clK T.mKon_with_it (ok_on_with_it T) hr4 T.bKon_with_it .nil pass0)))))), ?_⟩
    refine ⟨_, rfl, k, dx, _, rfl, O.ob, rfl, k, F, pl, ps, m, rfl, KA, by omega, fun H1 KA1 => ?_⟩
    have W1 := note_wf W hn
    have KA1' := KA1
    obtain ⟨dx1, lt1, ln1, lo1, lm1, pv1, O1⟩ := KA1'
    obtain ⟨p, lh, lq, dp, e, hp, hhw, hpt⟩ := O1.thePlan
    subst e
    refine ⟨_, rfl, k, A.cK, dx1, _, _, rfl, O1.ob, T.clK, T.nKnotes, KF.g_notes _, ln1, _, rfl, .inl (SqL.of O1.notes), _, rfl, k, A.cK, dx1, _, _, rfl, O1.ob, T.clK, T.nKplan, KF.g_plan _, p, A.cP, dp, _, _, rfl, hp, T.clP, T.nPmost, PF.g_most _, _, (pl.most : Int), rfl, rfl, _, rfl, ?_⟩
    show (if decide ((pl.most : Int) < ((((noteM pl m).notes.map nI).length : Nat) : Int)) = true then _ else _)
    rw [List.length_map]
    unfold beginAnewM at q
    by_cases hm : pl.most < (noteM pl m).notes.length
    · rw [if_pos hm] at q
      rw [decide_eq_true (show (pl.most : Int) < (((noteM pl m).notes.length : Nat) : Int) by omega)]
      refine iteT ?_
      exact ⟨_, rfl, k, dx1, _, rfl, O1.ob, rfl, k, F, pl, ps, noteM pl m, 1, rfl, KA1, W1, hl, fun H' h => q H' h⟩
    · rw [if_neg hm] at q
      rw [decide_eq_false (show ¬ (pl.most : Int) < (((noteM pl m).notes.length : Nat) : Int) by omega)]
      refine iteF ?_
      refine ⟨_, rfl, k, dx1, _, rfl, O1.ob, rfl, _, rfl, k, F, pl, ps, noteM pl m, c, rfl, KA1, W1, hc, fun H2 KA2 => ?_⟩
      obtain ⟨dx2, lt2, ln2, lo2, lm2, pv2, O2⟩ := KA2
      have W2 := mark_wf W1 c
      refine ⟨_, rfl, k, A.cK, dx2, _, rfl, O2.ob, T.clK, T.nKmode, KF.few _, ?_⟩
      have O3 := O2.setMode 1
      exact ⟨_, rfl, k, dx2, _, rfl, O3.ob, rfl, k, F, pl, ps, _, rfl, ⟨dx2, lt2, ln2, lo2, lm2, pv2, O3⟩, mode_wf W2 1 _, hl, fun H' h => q H' h⟩
/-! stop -/
def spStop (A : Adr) : Sp := fun vs H Q _ => ∃ (k : Addr) (F : Hp) (pl : Kgo2.Plan) (ps : List Addr) (m : KS), vs = [.ref k] ∧ KAt A F H k (some pl) ps m ∧ Wf pl m ∧ m.told.length ≤ 800 ∧
  ∀ H', KAt A F H' k (some pl) ps (stopM pl m).2 → Q (.int (stopM pl m).1) H'
theorem scKstop : FnScope ["self"] ["self"] (defScope sKstop) := ⟨rfl, rfl, rfl, by decide +kernel, rfl, by decide +kernel, by decide +kernel⟩
theorem ok_stop (T : Txt K mg A) : FnOk P w K mg base CX0 6 A.fKstop A.dKstop ["self"] (spStop A) := by
  refine T.FKstop.ok scKstop (fun vs H Q E h => ?_) (fun cdv Ar outer s H vs Q E hr h => ?_)
  · obtain ⟨k, F, pl, ps, m, rfl, _⟩ := h
    rfl
  · obtain ⟨k, F, pl, ps, m, rfl, KA, W, hl, q⟩ := h
    have KA' := KA
    obtain ⟨dx, lt, ln, lo, lm, pv0, O⟩ := KA'
    refine ⟨_, pss_cons (ps_if (pw_or (pt_cmpR op_eq (pe_fld (pv 0) rfl) (pgi T.iENDING) (nomark _)) (pw_or1 (pt_cmpR op_eq (pe_fld (pv 0) rfl) (pgi T.iOVER) (nomark _)))).pt (pss_one (ps_ret (pgi T.iTOO_LATE))) pss_nil)
      (pss_cons (ps_expr (pe_meth (pv 0) T.clK T.mKend_for (ok_end_for T) hr T.bKend_for .nil pass0 (pa_cons (pgi T.iWHY_ASKED_FOR) pa_nil))) (pss_one (ps_ret (pgi T.iDONE)))), ?_⟩
    refine ⟨_, rfl, k, A.cK, dx, _, _, rfl, O.ob, T.clK, T.nKmode, KF.g_mode _, rfl, _, rfl, ?_⟩
    unfold stopM at q
    have e1 : decide ((mF m pv0 lt ln lo lm).mode = V.int 2) = decide (m.mode = 2) := dec_nI m.mode 2
    have e2 : decide ((mF m pv0 lt ln lo lm).mode = V.int 3) = decide (m.mode = 3) := dec_nI m.mode 3
    rw [e1]
    refine ite2 (fun h => iteT ?_) fun h => ?_
    · rw [if_pos (Or.inl (of_decide_eq_true h))] at q
      exact q H KA
    · refine ⟨_, rfl, k, A.cK, dx, _, _, rfl, O.ob, T.clK, T.nKmode, KF.g_mode _, rfl, _, rfl, ?_⟩
      rw [e2]
      refine ite2 (fun h' => ?_) fun h' => ?_
      · rw [if_pos (Or.inr (of_decide_eq_true h'))] at q
        exact q H KA
      · rw [decide_eq_true_eq] at h h'
        rw [if_neg (by rintro (z | z); exact h z; exact h' z)] at q
        exact ⟨_, rfl, k, dx, _, rfl, O.ob, rfl, k, F, pl, ps, m, 0, rfl, KA, W, hl, fun H' h => q H' h⟩
/-! tick -/
def spTick (A : Adr) : Sp := fun vs H Q _ => ∃ (k : Addr) (F : Hp) (po : Option Kgo2.Plan) (ps : List Addr) (m : KS), vs = [.ref k] ∧ KAt A F H k po ps m ∧ m.told.length ≤ 800 ∧
  ∀ H', KAt A F H' k po ps (tickM m) → Q .non H'
theorem scKtick : FnScope ["self"] ["self"] (defScope sKtick) := ⟨rfl, rfl, rfl, by decide +kernel, rfl, by decide +kernel, by decide +kernel⟩
theorem tickM_none {m : KS} (h : m.stopping = none) : tickM m = { m with now := m.now + 1 } := by
  unfold tickM
  split
  · rfl
  · rename_i e
    rw [h] at e
    cases e
theorem tickM_some {m : KS} {c : Nat} (h : m.stopping = some c) : tickM m = if 0 < m.left then (if m.left = 1 then tellM { m with now := m.now + 1, left := m.left - 1 } 1 (c : Int) 1 else { m with now := m.now + 1, left := m.left - 1 }) else { m with now := m.now + 1 } := by
  unfold tickM
  split
  · rename_i e
    rw [h] at e
    cases e
  · rename_i c' e
    rw [h] at e
    cases e
    rfl
theorem ok_tick (T : Txt K mg A) : FnOk P w K mg base CX0 2 A.fKtick A.dKtick ["self"] (spTick A) := by
  refine T.FKtick.ok scKtick (fun vs H Q E h => ?_) (fun cdv Ar outer s H vs Q E hr h => ?_)
  · obtain ⟨k, F, po, ps, m, rfl, _⟩ := h
    rfl
  · obtain ⟨k, F, po, ps, m, rfl, ⟨dx, lt, ln, lo, lm, pv0, O⟩, hl, q⟩ := h
    refine ⟨_, pss_cons (ps_fldaug (pv 0) pe_int in_add) (pss_one (ps_if (pw_and (pt_cmpR op_notN (pe_fld (pv 0) rfl) pe_non (nomark _)) (pw_and1 (pt_cmpR op_gt (pe_fld (pv 0) rfl) pe_int (nomark _)))).pt
      (pss_cons (ps_fldaug (pv 0) pe_int in_sub) (pss_one (ps_if (pt_cmpR op_eq (pe_fld (pv 0) rfl) pe_int (nomark _)) (pss_one (ps_expr (pe_meth (pv 0) T.clK T.mKtell (ok_tell T) hr T.bKtell .nil pass0 (pa_cons (pgi T.iTELL_HALT) (pa_cons (pe_fld (pv 0) rfl) (pa_cons pe_int pa_nil)))))) pss_nil))) pss_nil)), ?_⟩
    refine ⟨_, rfl, k, A.cK, dx, _, _, rfl, O.ob, T.clK, T.nKnow, KF.g_now _, (m.now : Int), 1, rfl, rfl, dx, _, O.ob, KF.few _, ?_⟩
    have en : (m.now : Int) + 1 = ((m.now + 1 : Nat) : Int) := rfl
    rw [en]
    have O1 := O.setNow (m.now + 1)
    refine ⟨_, rfl, k, A.cK, dx, _, _, rfl, O1.ob, T.clK, T.nKstopping, KF.g_stopping _, rfl, _, rfl, ?_⟩
    obtain hst | ⟨c, hst⟩ : m.stopping = none ∨ ∃ c, m.stopping = some c := by
      cases m.stopping with
      | none => exact .inl rfl
      | some c => exact .inr ⟨c, rfl⟩
    · rw [tickM_none hst] at q
      have e : (!decide ((mF { m with now := m.now + 1 } pv0 lt ln lo lm).stopping = V.non)) = false := by
        have e2 : (mF { m with now := m.now + 1 } pv0 lt ln lo lm).stopping = V.non := by unfold mF; rw [hst]; rfl
        rw [e2]
        rfl
      rw [e]
      refine iteF (iteF ?_)
      exact q _ ⟨dx, lt, ln, lo, lm, pv0, O1⟩
    · rw [tickM_some hst] at q
      have e : (!decide ((mF { m with now := m.now + 1 } pv0 lt ln lo lm).stopping = V.non)) = true := by
        have e2 : (mF { m with now := m.now + 1 } pv0 lt ln lo lm).stopping = nI c := by unfold mF; rw [hst]; rfl
        rw [e2]
        rfl
      rw [e]
      refine iteT ?_
      refine ⟨_, rfl, k, A.cK, dx, _, _, rfl, O1.ob, T.clK, T.nKleft, KF.g_left _, (m.left : Int), 0, rfl, rfl, _, rfl, ?_⟩
      show (if decide ((0 : Int) < (m.left : Int)) = true then _ else _)
      have q' := q
      by_cases h0 : 0 < m.left
      · rw [decide_eq_true (show (0 : Int) < (m.left : Int) by omega)]
        rw [if_pos h0] at q'
        refine iteT ?_
        refine ⟨_, rfl, k, A.cK, dx, _, _, rfl, O1.ob, T.clK, T.nKleft, KF.g_left _, (m.left : Int), 1, rfl, rfl, dx, _, O1.ob, KF.few _, ?_⟩
        have el : (m.left : Int) - 1 = ((m.left - 1 : Nat) : Int) := by omega
        rw [el]
        have O2 := O1.setLeft (m.left - 1)
        refine ⟨_, rfl, k, A.cK, dx, _, _, rfl, O2.ob, T.clK, T.nKleft, KF.g_left _, rfl, _, rfl, ?_⟩
        have e3 : decide ((mF { m with now := m.now + 1, left := m.left - 1 } pv0 lt ln lo lm).left = V.int 0) = decide (m.left - 1 = 0) := dec_nI (m.left - 1) 0
        rw [e3]
        by_cases h1 : m.left = 1
        · rw [if_pos h1] at q'
          rw [decide_eq_true (show m.left - 1 = 0 by omega)]
          refine iteT ?_
          refine ⟨_, rfl, k, dx, _, rfl, O2.ob, rfl, _, rfl, k, A.cK, dx, _, _, rfl, O2.ob, T.clK, T.nKstopping, KF.g_stopping _, k, F, po, ps, { m with now := m.now + 1, left := m.left - 1 }, 1, (c : Int), 1, ?_, ⟨dx, lt, ln, lo, lm, pv0, O2⟩, (by show m.told.length ≤ 900; omega), fun H' h => q' H' h⟩
          have e2 : (mF { m with now := m.now + 1, left := m.left - 1 } pv0 lt ln lo lm).stopping = nI c := by unfold mF; rw [hst]; rfl
          show [V.ref k, V.int 1, (mF { m with now := m.now + 1, left := m.left - 1 } pv0 lt ln lo lm).stopping, V.int 1] = _
          rw [e2]
        · rw [if_neg h1] at q'
          rw [decide_eq_false (show ¬ m.left - 1 = 0 by omega)]
          refine iteF ?_
          exact q' _ ⟨dx, lt, ln, lo, lm, pv0, O2⟩
      · rw [decide_eq_false (show ¬ (0 : Int) < (m.left : Int) by omega)]
        rw [if_neg h0] at q'
        refine iteF ?_
        exact q' _ ⟨dx, lt, ln, lo, lm, pv0, O1⟩
end
end Ck
/-! THE KEEPER: ended, look, start, __init__ -/
namespace Ck
open PySem L2
section
variable {P : Program} {w : World} {K : PySem.W.Frag} {mg : Str → Option Value} {base : Heap} {A : Adr}
def spEnded (A : Adr) : Sp := fun vs H Q _ => ∃ (k : Addr) (F : Hp) (pl : Kgo2.Plan) (ps : List Addr) (m : KS) (c y : Nat), vs = [.ref k, nI c, nI y] ∧ KAt A F H k (some pl) ps m ∧ Wf pl m ∧ (m.mode ≠ 2 → m.notes.length ≤ 19) ∧ m.told.length ≤ 800 ∧
  ∀ H', KAt A F H' k (some pl) ps (endedM pl m c y).2 → Q (.int (endedM pl m c y).1) H'
theorem scKended : FnScope ["self", "child", "why"] ["self", "child", "why"] (defScope sKended) := ⟨rfl, rfl, rfl, by decide +kernel, rfl, by decide +kernel, by decide +kernel⟩
theorem scal_st (c : Nat) (o : Option Nat) : scal (nI c) (stV o) = true := by cases o <;> rfl
theorem ok_ended (T : Txt K mg A) : FnOk P w K mg base CX0 7 A.fKended A.dKended ["self", "child", "why"] (spEnded A) := by
  refine T.FKended.ok scKended (fun vs H Q E h => ?_) (fun cdv Ar outer s H vs Q E hr h => ?_)
  · obtain ⟨k, F, pl, ps, m, c, y, rfl, _⟩ := h
    rfl
  · obtain ⟨k, F, pl, ps, m, c, y, rfl, KA, W, hnn, hl, q⟩ := h
    have hr1 : Room 1 _ := hr.mono (by decide)
    have hr4 : Room 4 _ := hr.mono (by decide)
    have KA' := KA
    obtain ⟨dx, lt, ln, lo, lm, pv0, O⟩ := KA'
    obtain ⟨p, lh, lq, dp, e, hp, hhw, hpt⟩ := O.thePlan
    subst e
    refine ⟨_, pss_cons (ps_if (pt_cmpR op_ge (pv 1) (pe_fld (pe_fld (pv 0) rfl) rfl) (nomark _)) (pss_one (ps_ret (pgi T.iWRONG))) pss_nil)
      (pss_cons (ps_if (pt_cmpR op_eq (pv 1) (pe_fld (pv 0) rfl) (nomark _)) (pss_cons (ps_fld (pv 0) pe_non rfl) (pss_cons (ps_expr (pe_meth0 (pv 0) T.clK T.mKon_with_it (ok_on_with_it T) hr4 T.bKon_with_it .nil pass0)) (pss_one (ps_ret (pgi T.iDONE))))) pss_nil)
      (pss_cons (ps_if (pt_not (pt_val (pe_ix ix_list (pe_fld (pv 0) rfl) (pv 1) (fun _ _ => rfl)))) (pss_one (ps_ret (pgi T.iIS_OFF))) pss_nil)
      (pss_cons (ps_asg pe_bl (pg_sub (pe_fld (pv 0) rfl) (pv 1) set_list))
      (pss_cons (ps_if (pw_or (pt_val (pe_ix ix_list (pe_fld (pv 0) rfl) (pv 1) (fun _ _ => rfl))) (pw_or1 (pt_cmpR op_eq (pe_fld (pv 0) rfl) (pgi T.iENDING) (nomark _)))).pt (pss_one (ps_ret (pgi T.iDONE))) pss_nil)
      (pss_cons (ps_if (pt_val (pe_meth (pe_fld (pv 0) rfl) T.clP T.mPis_begun_anew (ok_begun T) hr1 T.bPis_begun_anew .nil pass0 (pa_cons (pv 1) (pa_cons (pv 2) pa_nil)))) (pss_one (ps_expr (pe_meth (pv 0) T.clK T.mKbegin_anew (ok_begin_anew T) hr T.bKbegin_anew .nil pass0 (pa_cons (pv 1) pa_nil)))) pss_nil)
      (pss_one (ps_ret (pgi T.iDONE)))))))), ?_⟩
    refine ⟨_, rfl, _, rfl, k, A.cK, dx, _, _, rfl, O.ob, T.clK, T.nKplan, KF.g_plan _, p, A.cP, dp, _, _, rfl, hp, T.clP, T.nPcount, PF.g_count _, (c : Int), (pl.count : Int), rfl, rfl, _, rfl, ?_⟩
    show (if decide ((pl.count : Int) ≤ (c : Int)) = true then _ else _)
    unfold endedM at q
    by_cases h1 : pl.count ≤ c
    · rw [if_pos h1] at q
      rw [decide_eq_true (show (pl.count : Int) ≤ (c : Int) by omega)]
      exact iteT (q H KA)
    · rw [if_neg h1] at q
      rw [decide_eq_false (show ¬ (pl.count : Int) ≤ (c : Int) by omega)]
      refine iteF ?_
      refine ⟨_, rfl, _, rfl, k, A.cK, dx, _, _, rfl, O.ob, T.clK, T.nKstopping, KF.g_stopping _, scal_st c m.stopping, _, rfl, ?_⟩
      have e2 : decide (nI c = (mF m (.ref p) lt ln lo lm).stopping) = decide (m.stopping = some c) := dec_st c m.stopping
      rw [e2]
      by_cases h2 : m.stopping = some c
      · rw [if_pos h2] at q
        rw [decide_eq_true h2]
        refine iteT ?_
        refine ⟨_, rfl, k, A.cK, dx, _, rfl, O.ob, T.clK, T.nKstopping, KF.few _, ?_⟩
        have O1 := O.noStopping
        exact ⟨_, rfl, k, dx, _, rfl, O1.ob, rfl, k, F, pl, ps, _, rfl, ⟨dx, lt, ln, lo, lm, .ref p, O1⟩, free_wf W, hl, fun H' h => q H' h⟩
      · rw [if_neg h2] at q
        rw [decide_eq_false h2]
        refine iteF ?_
        have hc : c < m.on.length := by rw [W.onl]; omega
        have hc2 : c < m.marked.length := by rw [W.mkl]; omega
        refine ⟨_, rfl, k, A.cK, dx, _, _, rfl, O.ob, T.clK, T.nKon, KF.g_on _, _, rfl, lo, _, (c : Int), _, rfl, rfl, SqL.of O.on, bl_at hc, _, rfl, ?_⟩
        show (if (!m.on.getD c false) = true then _ else _)
        cases h3 : m.on.getD c false with
        | false =>
          rw [if_pos h3] at q
          exact iteT (q H KA)
        | true =>
          rw [if_neg (by rw [h3]; simp)] at q
          refine iteF ?_
          refine ⟨_, rfl, k, A.cK, dx, _, _, rfl, O.ob, T.clK, T.nKon, KF.g_on _, _, rfl, lo, _, (c : Int), c, rfl, rfl, O.on, ixN_nat (by rw [List.length_map]; exact hc), ?_⟩
          have O1 := O.setOn (set_bl m.on c false)
          have KA1 : KAt A F _ k (some pl) ps { m with on := m.on.set c false } := ⟨dx, lt, ln, lo, lm, .ref p, O1⟩
          have W1 := off_wf W c
          obtain ⟨p', lh', lq', dp', e', hp', hhw', hpt'⟩ := O1.thePlan
          cases e'
          refine ⟨_, rfl, k, A.cK, dx, _, _, rfl, O1.ob, T.clK, T.nKmarked, KF.g_marked _, _, rfl, lm, _, (c : Int), _, rfl, rfl, SqL.of O1.marked, bl_at hc2, _, rfl, ?_⟩
          show (if m.marked.getD c false = true then _ else _)
          cases h4 : m.marked.getD c false with
          | true =>
            rw [if_pos (by rw [h4]; rfl)] at q
            exact iteT (iteT (q _ KA1))
          | false =>
            refine iteF ?_
            refine ⟨_, rfl, k, A.cK, dx, _, _, rfl, O1.ob, T.clK, T.nKmode, KF.g_mode _, rfl, _, rfl, ?_⟩
            have e5 : decide ((mF { m with on := m.on.set c false } (.ref p) lt ln lo lm).mode = V.int 2) = decide (m.mode = 2) := dec_nI m.mode 2
            rw [e5]
            by_cases h5 : m.mode = 2
            · rw [if_pos (by rw [h4, h5]; rfl)] at q
              rw [decide_eq_true h5]
              exact iteT (q _ KA1)
            · rw [if_neg (by rw [h4]; simp [h5])] at q
              rw [decide_eq_false h5]
              refine iteF ?_
              refine ⟨_, rfl, k, A.cK, dx, _, _, rfl, O1.ob, T.clK, T.nKplan, KF.g_plan _, p, dp', _, rfl, hp', rfl, _, rfl, _, rfl, p, lh', lq', pl, c, y, rfl, ⟨⟨dp', hp'⟩, hhw', hpt'⟩, by rw [W.hl]; have := W.cnt; omega, _, rfl, ?_⟩
              cases h6 : begunB pl c y with
              | true =>
                rw [if_pos h6] at q
                refine iteT ?_
                exact ⟨_, rfl, k, dx, _, rfl, O1.ob, rfl, _, rfl, k, F, pl, ps, _, c, rfl, KA1, W1, hnn h5, by omega, hl, fun H' h => q H' h⟩
              | false =>
                rw [if_neg (by rw [h6]; simp)] at q
                refine iteF ?_
                exact q _ KA1
/-! look -/
def spLook (A : Adr) : Sp := fun vs H Q _ => ∃ (k : Addr) (F : Hp) (pl : Kgo2.Plan) (ps : List Addr) (m : KS), vs = [.ref k] ∧ KAt A F H k (some pl) ps m ∧ Wf pl m ∧
  ∀ H' l, Same H H' → H l = none → H' l = some (.lst ((lookM pl m).map V.int)) → Q (.ref l) H'
theorem scKlook : FnScope ["self", "bits", "stopping", "child"] ["self"] (defScope sKlook) := ⟨rfl, rfl, rfl, by decide +kernel, rfl, by decide +kernel, by decide +kernel⟩
theorem ok_look (T : Txt K mg A) : FnOk P w K mg base CX0 1 A.fKlook A.dKlook ["self"] (spLook A) := by
  refine T.FKlook.ok scKlook (fun vs H Q E h => ?_) (fun cdv Ar outer s H vs Q E hr h => ?_)
  · obtain ⟨k, F, pl, ps, m, rfl, _⟩ := h
    rfl
  · obtain ⟨k, F, pl, ps, m, rfl, ⟨dx, lt, ln, lo, lm, pv0, O⟩, W, q⟩ := h
    obtain ⟨p, lh, lq, dp, e, hp, hhw, hpt⟩ := O.thePlan
    subst e
    have h8 := W.cnt
    refine ⟨_, pss_cons (ps_set (i := 1) scKlook.nd rfl (Or.inl rfl) (pe_callB (cr_sum rfl) rfl T.osum PyProof.Rows.boot_sum (pa_cons (pe_lc rfl scKlook.nd (pi_range1 rfl T.orange (pa_cons (pe_fld (pe_fld (pv 0) rfl) rfl) pa_nil))
          (blkOk_by (N := ["self", "bits", "stopping", "child"]) (sc := defScope sKlook) (own := [("child", 3)]) (by decide +kernel)) (fun _ _ _ _ _ => pg_name (i := 3) scKlook.nd rfl (Or.inl rfl))
          (fun _ _ _ _ _ => pts_one (pt_val (pe_ix (ix_listK K) (pe_fldK K (pv 0) rfl) (pv 3) (fun _ _ => rfl)))) (fun _ _ _ _ _ => pe_op op_shl pe_int (pv 3))) pa_nil)))
      (pss_cons (ps_set (i := 2) scKlook.nd rfl (Or.inl rfl) (pe_ifExp (pt_cmpR op_isN (pe_fld (pv 0) rfl) pe_non (nomark _)) pe_int (pe_op op_add (pe_fld (pv 0) rfl) pe_int)))
      (pss_one (ps_ret (pe_lst (pa_cons (pe_fld (pv 0) rfl) (pa_cons (pv 1) (pa_cons (pv 2) (pa_cons (pe_callB call_len_seq rfl T.olen PySem.boot_len (pa_cons (pe_fld (pv 0) rfl) pa_nil)) pa_nil)))))))), ?_⟩
    refine ⟨_, rfl, k, A.cK, dx, _, _, rfl, O.ob, T.clK, T.nKplan, KF.g_plan _, p, A.cP, dp, _, _, rfl, hp, T.clP, T.nPcount, PF.g_count _, (pl.count : Int), rfl, by omega, by omega, fun D hD => ?_⟩
    refine lc_range (n := pl.count) (fun i H' => H' = upd H D (.lst ((((List.range i).filter fun c => m.on.getD c false).map fun (c : Nat) => (1 : Int) * 2 ^ c).map V.int))) rfl ?_ ?_
    · rintro i H2 hi rfl
      rw [z_add]
      have O2 := O.fresh (o := .lst ((((List.range i).filter fun c => m.on.getD c false).map fun (c : Nat) => (1 : Int) * 2 ^ c).map V.int)) hD
      refine ⟨rfl, _, rfl, k, A.cK, dx, _, _, rfl, O2.ob, T.clK, T.nKon, KF.g_on _, _, rfl, lo, _, (i : Int), _, rfl, rfl, SqL.of O2.on, bl_at (by rw [W.onl]; exact hi), _, rfl, ?_⟩
      rw [filter_succ]
      cases hb : m.on.getD i false with
      | true =>
        refine iteT ?_
        refine ⟨_, rfl, 1, (i : Int), rfl, rfl, ⟨by omega, by omega, by decide⟩, _, upd_same, ?_, ?_⟩
        · rw [List.length_map, List.length_map, sizeLine_eq]
          have := filter_le (fun c => m.on.getD c false) i
          omega
        · rw [upd_upd, if_pos rfl, List.map_append, List.map_append]
          rfl
      | false =>
        refine iteF ?_
        rw [if_neg Bool.false_ne_true, List.append_nil]
    · rintro H2 rfl
      have s2 : Same H _ := Same.new (o := .lst ((((List.range pl.count).filter fun c => m.on.getD c false).map fun (c : Nat) => (1 : Int) * 2 ^ c).map V.int)) hD
      have O2 := O.mono s2
      refine ⟨D, ((List.range pl.count).filter fun c => m.on.getD c false).map (fun (c : Nat) => (1 : Int) * 2 ^ c), rfl, SqL.of upd_same, ?_⟩
      refine ⟨_, rfl, k, A.cK, dx, _, _, rfl, O2.ob, T.clK, T.nKstopping, KF.g_stopping _, rfl, _, rfl, ?_⟩
      obtain hst | ⟨c, hst⟩ : m.stopping = none ∨ ∃ c, m.stopping = some c := by
        cases m.stopping with
        | none => exact .inl rfl
        | some c => exact .inr ⟨c, rfl⟩
      · have e2 : (mF m (.ref p) lt ln lo lm).stopping = V.non := by unfold mF; rw [hst]; rfl
        rw [e2]
        refine iteT ?_
        refine ⟨_, rfl, k, A.cK, dx, _, _, rfl, O2.ob, T.clK, T.nKmode, KF.g_mode _, _, rfl, _, rfl, _, rfl, k, A.cK, dx, _, _, rfl, O2.ob, T.clK, T.nKnotes, KF.g_notes _, ln, _, rfl, .inl (SqL.of O2.notes), (by show 4 ≤ sizeLine; decide), fun l hl => ?_⟩
        refine q _ l (s2.trans (Same.new hl)) (s2.free hl) ?_
        rw [upd_same, List.length_map]
        unfold lookM
        rw [hst]
        rfl
      · have e2 : (mF m (.ref p) lt ln lo lm).stopping = nI c := by unfold mF; rw [hst]; rfl
        rw [e2]
        refine iteF ?_
        refine ⟨_, rfl, k, A.cK, dx, _, _, rfl, O2.ob, T.clK, T.nKstopping, KF.g_stopping _, (c : Int), 1, e2, rfl, ?_⟩
        refine ⟨_, rfl, k, A.cK, dx, _, _, rfl, O2.ob, T.clK, T.nKmode, KF.g_mode _, _, rfl, _, rfl, _, rfl, k, A.cK, dx, _, _, rfl, O2.ob, T.clK, T.nKnotes, KF.g_notes _, ln, _, rfl, .inl (SqL.of O2.notes), (by show 4 ≤ sizeLine; decide), fun l hl => ?_⟩
        refine q _ l (s2.trans (Same.new hl)) (s2.free hl) ?_
        rw [upd_same, List.length_map]
        unfold lookM
        rw [hst]
        rfl
end
end Ck
/-! THE KEEPER: start, __init__ -/
namespace Ck
open PySem L2
section
variable {P : Program} {w : World} {K : PySem.W.Frag} {mg : Str → Option Value} {base : Heap} {A : Adr}
theorem KO.setPlan {F H : Hp} {k : Addr} {po : Option Kgo2.Plan} {ps : List Addr} {m : KS} {dx lt ln lo lm : Addr} {pv : V} {p lh lq : Addr} {pl : Kgo2.Plan} (O : KO A F H k po ps m dx lt ln lo lm pv) (PA : PlanAt A F p lh lq pl) :
    KO A F (upd H k (.ins A.cK dx (putF "plan" (.ref p) (mF m pv lt ln lo lm).l))) k (some pl) [p, lh, lq] m dx lt ln lo lm (.ref p) := by
  rw [KF.p_plan]
  exact ⟨upd_same, by rw [upd_ne O.kt.symm]; exact O.told, by rw [upd_ne O.kn.symm]; exact O.notes, by rw [upd_ne O.ko.symm]; exact O.on, by rw [upd_ne O.km.symm]; exact O.marked,
    same_own O.same O.fk, O.fk, O.ft, O.fn, O.fo, O.fm, O.tn, O.to, O.tm, O.no, O.nm, O.om, p, lh, lq, rfl, rfl, PA⟩
def spStart (A : Adr) : Sp := fun vs H Q _ => ∃ (k : Addr) (F : Hp) (po : Option Kgo2.Plan) (ps : List Addr) (m : KS) (p lh lq : Addr) (pl : Kgo2.Plan), vs = [.ref k, .ref p] ∧ KAt A F H k po ps m ∧ PlanAt A F p lh lq pl ∧ pl.how.length = 8 ∧ pl.patience.length = 8 ∧ m.told.length ≤ 800 ∧
  (rightB pl = false → ∀ H', KAt A F H' k po ps m → Q (.int (-22)) H') ∧ (rightB pl = true → ∀ H', KAt A F H' k (some pl) [p, lh, lq] (startM pl m) → Q (.int 0) H')
theorem scKstart : FnScope ["self", "plan", "child"] ["self", "plan"] (defScope sKstart) := ⟨rfl, rfl, rfl, by decide +kernel, rfl, by decide +kernel, by decide +kernel⟩
theorem right_cnt {pl : Kgo2.Plan} (h : rightB pl = true) : pl.count ≤ 8 ∧ 1 ≤ pl.count ∧ 1 ≤ pl.within ∧ pl.most ≤ 15 := by
  unfold rightB at h
  simp only [Bool.and_eq_true, decide_eq_true_eq] at h
  omega
theorem fresh_wf {pl : Kgo2.Plan} (m : KS) (h : rightB pl = true) (h1 : pl.how.length = 8) (h2 : pl.patience.length = 8) : Wf pl (freshM pl m) :=
  ⟨by show (List.replicate pl.count false).length = _; rw [List.length_replicate], by show (List.replicate pl.count false).length = _; rw [List.length_replicate], (right_cnt h).1, h1, h2, (fun _ e => by cases e), by show 0 ≤ 20; decide⟩
theorem ok_start (T : Txt K mg A) : FnOk P w K mg base CX0 3 A.fKstart A.dKstart ["self", "plan"] (spStart A) := by
  refine T.FKstart.ok scKstart (fun vs H Q E h => ?_) (fun cdv Ar outer s H vs Q E hr h => ?_)
  · obtain ⟨k, F, po, ps, m, p, lh, lq, pl, rfl, _⟩ := h
    rfl
  · obtain ⟨k, F, po, ps, m, p, lh, lq, pl, rfl, KA, PA, h8, q8, hl, qn, qy⟩ := h
    have hr1 : Room 1 _ := hr.mono (by decide)
    refine ⟨_, pss_cons (ps_if (pt_not (pt_val (pe_meth0 (pv 1) T.clP T.mPis_right (ok_right T) hr1 T.bPis_right .nil pass0))) (pss_one (ps_ret (pgi T.iWRONG))) pss_nil)
      (pss_cons (ps_fld (pv 0) (pv 1) rfl)
      (pss_cons (ps_fld (pv 0) (pgi T.iKEEPING) rfl)
      (pss_cons (ps_fld (pv 0) pe_int rfl)
      (pss_cons (ps_fld (pv 0) (pe_lst pa_nil) rfl)
      (pss_cons (ps_fld (pv 0) (pe_op op_rep (pe_lst (pa_cons pe_bl pa_nil)) (pe_fld (pv 1) rfl)) rfl)
      (pss_cons (ps_fld (pv 0) pe_non rfl)
      (pss_cons (ps_expr (pe_meth0 (pv 0) T.clK T.mKunmark (ok_unmark T) hr1 T.bKunmark .nil pass0))
      (pss_cons (ps_for PassesOwn.never rfl (pi_range1 rfl T.orange (pa_cons (pe_fld (pv 1) rfl) pa_nil)) (pg_name (i := 2) scKstart.nd rfl (Or.inl rfl)) (pss_one (ps_expr (pe_meth (pv 0) T.clK T.mKbegin (ok_begin T) hr T.bKbegin .nil pass0 (pa_cons (pv 2) pa_nil)))))
      (pss_one (ps_ret (pgi T.iDONE))))))))))), ?_⟩
    have sF := KA.sameF
    have PAH : PlanAt A H p lh lq pl := PA.sub fun b o _ e => sF b o e
    obtain ⟨dp, hp⟩ := PA.ob
    refine ⟨_, rfl, p, dp, _, rfl, sF _ _ hp, rfl, p, lh, lq, pl, rfl, PAH, h8, q8, fun H1 s1 => ⟨_, rfl, ?_⟩⟩
    have KA1 := KA.mono s1
    cases hrt : rightB pl with
    | false => exact iteT (qn hrt H1 KA1)
    | true =>
      refine iteF ?_
      obtain ⟨dx, lt, ln, lo, lm, pv0, O⟩ := KA1
      have hc := (right_cnt hrt).1
      refine ⟨_, rfl, _, rfl, k, A.cK, dx, _, rfl, O.ob, T.clK, T.nKplan, KF.few _, ?_⟩
      have O1 := O.setPlan PA
      refine ⟨_, rfl, k, A.cK, dx, _, rfl, O1.ob, T.clK, T.nKmode, KF.few _, ?_⟩
      have O2 := O1.setMode 0
      refine ⟨_, rfl, k, A.cK, dx, _, rfl, O2.ob, T.clK, T.nKnow, KF.few _, ?_⟩
      have O3 := O2.setNow 0
      refine ⟨(by show 0 ≤ sizeLine; decide), fun l1 hl1 => ⟨_, rfl, k, A.cK, dx, _, rfl, (O3.fresh hl1).ob, T.clK, T.nKnotes, KF.few _, ?_⟩⟩
      have O4 := O3.putNotes [] hl1 (ys := []) rfl
      refine ⟨(by show 1 ≤ sizeLine; decide), fun l2 hl2 => ?_⟩
      have O5 := O4.fresh (o := .lst [V.bl false]) hl2
      refine ⟨_, rfl, p, A.cP, dp, _, _, rfl, O5.same _ _ hp, T.clP, T.nPcount, PF.g_count _, l2, (pl.count : Int), _, rfl, rfl, upd_same, by omega, by omega, ?_, fun l3 hl3 => ?_⟩
      · show 1 * ((pl.count : Int)).toNat ≤ sizeLine
        rw [sizeLine_eq, Int.toNat_natCast]
        omega
      refine ⟨_, rfl, k, A.cK, dx, _, rfl, (O5.fresh hl3).ob, T.clK, T.nKon, KF.few _, ?_⟩
      have O6 := O5.putOn (List.replicate pl.count false) hl3 (ys := (List.replicate ((pl.count : Int)).toNat [V.bl false]).flatten) (rep_flat pl.count)
      refine ⟨_, rfl, k, A.cK, dx, _, rfl, O6.ob, T.clK, T.nKstopping, KF.few _, ?_⟩
      have O7 := O6.noStopping
      refine ⟨_, rfl, k, dx, _, rfl, O7.ob, rfl, k, F, pl, [p, lh, lq], _, rfl, ⟨dx, lt, l1, l3, lm, .ref p, O7⟩, hc, fun H8 KA8 => ?_⟩
      have W8 := fresh_wf m hrt h8 q8
      have KA9 : KAt A F H8 k (some pl) [p, lh, lq] (freshM pl m) := KA8
      refine ⟨_, rfl, p, A.cP, dp, _, _, rfl, KA9.sameF _ _ hp, T.clP, T.nPcount, PF.g_count _, (pl.count : Int), rfl, by omega, by omega,
        for_range (n := pl.count) (fun i σ H' => ∃ v2, σ = [some (.ref k), some (.ref p), v2] ∧ KAt A F H' k (some pl) [p, lh, lq] (beginUp (freshM pl m) i)) ⟨none, rfl, KA9⟩ ?_ ?_⟩
      · rintro i σ H9 hi ⟨v2, rfl, KA10⟩
        rw [z_add]
        have KA10' := KA10
        obtain ⟨dx2, lt2, ln2, lo2, lm2, pv2, O10⟩ := KA10'
        have Wi := beginUp_wf W8 i
        refine ⟨_, rfl, k, dx2, _, rfl, O10.ob, rfl, _, rfl, k, F, some pl, [p, lh, lq], _, i, rfl, KA10, by rw [Wi.onl]; exact hi, ?_, fun H' h => ⟨_, rfl, h⟩⟩
        rw [beginUp_told]
        show m.told.length + 3 * i ≤ 900
        omega
      · rintro σ H9 ⟨v2, rfl, KA10⟩
        exact qy hrt H9 KA10
/-! __init__ -/
def spKinit (A : Adr) : Sp := fun vs H Q _ => ∃ (x dx : Addr) (F : Hp), vs = [.ref x] ∧ H x = some (.ins A.cK dx []) ∧ Same F H ∧ F x = none ∧ ∀ H', KAt A F H' x none [] newM → Q .non H'
theorem scKinit : FnScope ["self"] ["self"] (defScope sKinit) := ⟨rfl, rfl, rfl, by decide +kernel, rfl, by decide +kernel, by decide +kernel⟩
theorem look_ne {H : Hp} {a b : Addr} {o u : HO} (e : H b = some o) (h : b ≠ a) : upd H a u b = some o := by rw [upd_ne h]; exact e
theorem look_new {H : Hp} {a b : Addr} {o u : HO} (e : H b = some o) (h : H a = none) : upd H a u b = some o := look_ne e (ne_of_none e h)
theorem none_back {H : Hp} {a b : Addr} {u : HO} (h : upd H a u b = none) : b ≠ a ∧ H b = none := by
  have n : b ≠ a := fun z => by
    rw [z, upd_same] at h
    cases h
  rw [upd_ne n] at h
  exact ⟨n, h⟩
theorem ok_Kinit (T : Txt K mg A) : FnOk P w K mg base CX0 1 A.fKinit A.dKinit ["self"] (spKinit A) := by
  refine T.FKinit.ok scKinit (fun vs H Q E h => ?_) (fun cdv Ar outer s H vs Q E hr h => ?_)
  · obtain ⟨x, dx, F, rfl, _⟩ := h
    rfl
  · obtain ⟨x, dx, F, rfl, hx, sF, fx, q⟩ := h
    refine ⟨_, pss_cons (ps_fld (pv 0) (pe_lst pa_nil) rfl) (pss_cons (ps_fld (pv 0) pe_non rfl) (pss_cons (ps_fld (pv 0) (pgi T.iOVER) rfl) (pss_cons (ps_fld (pv 0) (pgi T.iWHY_ASKED_FOR) rfl) (pss_cons (ps_fld (pv 0) pe_int rfl)
      (pss_cons (ps_fld (pv 0) (pe_lst pa_nil) rfl) (pss_cons (ps_fld (pv 0) (pe_lst pa_nil) rfl) (pss_cons (ps_fld (pv 0) (pe_lst pa_nil) rfl) (pss_cons (ps_fld (pv 0) pe_non rfl) (pss_one (ps_fld (pv 0) pe_int rfl)))))))))), ?_⟩
    refine ⟨(by show 0 ≤ sizeLine; decide), fun l1 h1 => ⟨_, rfl, x, A.cK, dx, _, rfl, look_new hx h1, T.clK, T.nKtold, (by show 0 < 1000; decide), ?_⟩⟩
    have n1 : l1 ≠ x := (ne_of_none hx h1).symm
    refine ⟨_, rfl, x, A.cK, dx, _, rfl, upd_same, T.clK, T.nKplan, (by show 1 < 1000; decide), ?_⟩
    refine ⟨_, rfl, x, A.cK, dx, _, rfl, upd_same, T.clK, T.nKmode, (by show 2 < 1000; decide), ?_⟩
    refine ⟨_, rfl, x, A.cK, dx, _, rfl, upd_same, T.clK, T.nKwhy, (by show 3 < 1000; decide), ?_⟩
    refine ⟨_, rfl, x, A.cK, dx, _, rfl, upd_same, T.clK, T.nKnow, (by show 4 < 1000; decide), ?_⟩
    simp only [upd_upd]
    refine ⟨(by show 0 ≤ sizeLine; decide), fun l2 h2 => ⟨_, rfl, x, A.cK, dx, _, rfl, look_new upd_same h2, T.clK, T.nKnotes, (by show 5 < 1000; decide), ?_⟩⟩
    obtain ⟨n2, h2'⟩ := none_back h2
    obtain ⟨n21, h2''⟩ := none_back h2'
    refine ⟨(by show 0 ≤ sizeLine; decide), fun l3 h3 => ⟨_, rfl, x, A.cK, dx, _, rfl, look_new upd_same h3, T.clK, T.nKon, (by show 6 < 1000; decide), ?_⟩⟩
    obtain ⟨n3, h3'⟩ := none_back h3
    obtain ⟨n32, h3''⟩ := none_back h3'
    obtain ⟨_, h3'''⟩ := none_back h3''
    obtain ⟨n31, h3''''⟩ := none_back h3'''
    refine ⟨(by show 0 ≤ sizeLine; decide), fun l4 h4 => ⟨_, rfl, x, A.cK, dx, _, rfl, look_new upd_same h4, T.clK, T.nKmarked, (by show 7 < 1000; decide), ?_⟩⟩
    obtain ⟨n4, h4'⟩ := none_back h4
    obtain ⟨n43, g1⟩ := none_back h4'
    obtain ⟨_, g2⟩ := none_back g1
    obtain ⟨n42, g3⟩ := none_back g2
    obtain ⟨_, g4⟩ := none_back g3
    obtain ⟨n41, g5⟩ := none_back g4
    refine ⟨_, rfl, x, A.cK, dx, _, rfl, upd_same, T.clK, T.nKstopping, (by show 8 < 1000; decide), ?_⟩
    refine ⟨_, rfl, x, A.cK, dx, _, rfl, upd_same, T.clK, T.nKleft, (by show 9 < 1000; decide), ?_⟩
    simp only [upd_upd]
    refine q _ ⟨dx, l1, l2, l3, l4, .non, upd_same, ?_, ?_, ?_, ?_, ?_, fx, sF.free h1, sF.free h2'', sF.free h3'''', sF.free g5, n21.symm, n31.symm, n41.symm, n32.symm, n42.symm, n43.symm, rfl, rfl⟩
    · rw [upd_ne n1, upd_ne n41.symm, upd_ne n1, upd_ne n31.symm, upd_ne n1, upd_ne n21.symm, upd_ne n1, upd_same]
      rfl
    · rw [upd_ne n2, upd_ne n42.symm, upd_ne n2, upd_ne n32.symm, upd_ne n2, upd_same]
      rfl
    · rw [upd_ne n3, upd_ne n43.symm, upd_ne n3, upd_same]
      rfl
    · rw [upd_ne n4, upd_same]
      rfl
    · exact same_own (same_own (same_own (same_own (same_own (same_own (same_own (same_own sF (sF.free h1)) fx) (sF.free h2'')) fx) (sF.free h3'''')) fx) (sF.free g5)) fx
end
end Ck
/-! THE READER, read_plan -/
namespace Ck
open PySem L2
section
variable {P : Program} {w : World} {K : PySem.W.Frag} {mg : Str → Option Value} {base : Heap} {A : Adr}
/-- a reader's attributes: the list at a, the place i -/
abbrev rF (a : Addr) (i : Nat) : List (Str × V) := RF.l ⟨.ref a, nI i⟩
theorem SqL.wr {H : Hp} {a r : Addr} {xs : List V} {C dr : Addr} {fs : List (Str × V)} {o : HO} (h : SqL K H a xs) (hr : H r = some (.ins C dr fs)) : SqL K (upd H r o) a xs := by
  rcases h with (h | ⟨u, h⟩) | h
  · exact .inl (.inl (by rw [upd_ne (ne_of h hr (fun z => by cases z))]; exact h))
  · exact .inl (.inr ⟨u, by rw [upd_ne (ne_of h hr (fun z => by cases z))]; exact h⟩)
  · exact .inr h
def spRinit (A : Adr) : Sp := fun vs H Q _ => ∃ (x dx a : Addr), vs = [.ref x, .ref a] ∧ H x = some (.ins A.cR dx []) ∧ Q .non (upd H x (.ins A.cR dx (rF a 0)))
theorem scRinit : FnScope ["self", "numbers"] ["self", "numbers"] (defScope sRinit) := ⟨rfl, rfl, rfl, by decide +kernel, rfl, by decide +kernel, by decide +kernel⟩
theorem ok_Rinit (T : Txt K mg A) : FnOk P w K mg base CX0 1 A.fRinit A.dRinit ["self", "numbers"] (spRinit A) := by
  refine T.FRinit.ok scRinit (fun vs H Q E h => ?_) (fun cdv Ar outer s H vs Q E hr h => ?_)
  · obtain ⟨x, dx, a, rfl, _⟩ := h
    rfl
  · obtain ⟨x, dx, a, rfl, hx, q⟩ := h
    refine ⟨_, pss_cons (ps_fld (pv 0) (pv 1) rfl) (pss_one (ps_fld (pv 0) pe_int rfl)), ?_⟩
    refine ⟨_, rfl, _, rfl, x, A.cR, dx, _, rfl, hx, T.clR, T.nRnumbers, (by show 0 < 1000; decide), ?_⟩
    refine ⟨_, rfl, x, A.cR, dx, _, rfl, upd_same, T.clR, T.nRplace, (by show 1 < 1000; decide), ?_⟩
    rw [upd_upd]
    exact q
def spMore (A : Adr) (K : PySem.W.Frag) : Sp := fun vs H Q _ => ∃ (r dr a : Addr) (i : Nat) (ns : List Int), vs = [.ref r] ∧ H r = some (.ins A.cR dr (rF a i)) ∧ SqL K H a (ns.map V.int) ∧ Q (.bl (decide (i < ns.length))) H
theorem scRhas_more : FnScope ["self"] ["self"] (defScope sRhas_more) := ⟨rfl, rfl, rfl, by decide +kernel, rfl, by decide +kernel, by decide +kernel⟩
theorem ok_more (T : Txt K mg A) : FnOk P w K mg base CX0 1 A.fRhas_more A.dRhas_more ["self"] (spMore A K) := by
  refine T.FRhas_more.ok scRhas_more (fun vs H Q E h => ?_) (fun cdv Ar outer s H vs Q E hr h => ?_)
  · obtain ⟨r, dr, a, i, ns, rfl, _⟩ := h
    rfl
  · obtain ⟨r, dr, a, i, ns, rfl, hR, hS, q⟩ := h
    refine ⟨_, pss_one (ps_ret (pe_cmpR op_lt (pe_fld (pv 0) rfl) (pe_callB call_len_seq rfl T.olen PySem.boot_len (pa_cons (pe_fld (pv 0) rfl) pa_nil)) (nomark _))), ?_⟩
    refine ⟨_, rfl, r, A.cR, dr, _, _, rfl, hR, T.clR, T.nRplace, RF.g_place _, _, rfl, r, A.cR, dr, _, _, rfl, hR, T.clR, T.nRnumbers, RF.g_numbers _, a, _, rfl, .inl hS, (i : Int), _, rfl, rfl, ?_⟩
    show Q (V.bl (decide ((i : Int) < (((ns.map V.int).length : Nat) : Int)))) H
    rw [List.length_map]
    have e : decide ((i : Int) < ((ns.length : Nat) : Int)) = decide (i < ns.length) := by
      rw [Bool.eq_iff_iff]
      simp
    rw [e]
    exact q
def spNumber (A : Adr) (K : PySem.W.Frag) : Sp := fun vs H Q _ => ∃ (r dr a : Addr) (i : Nat) (ns : List Int) (v : Int), vs = [.ref r] ∧ H r = some (.ins A.cR dr (rF a i)) ∧ SqL K H a (ns.map V.int) ∧ ns[i]? = some v ∧
  Q (.int v) (upd H r (.ins A.cR dr (rF a (i + 1))))
theorem scRnumber : FnScope ["self", "value"] ["self"] (defScope sRnumber) := ⟨rfl, rfl, rfl, by decide +kernel, rfl, by decide +kernel, by decide +kernel⟩
theorem ok_number (T : Txt K mg A) : FnOk P w K mg base CX0 1 A.fRnumber A.dRnumber ["self"] (spNumber A K) := by
  refine T.FRnumber.ok scRnumber (fun vs H Q E h => ?_) (fun cdv Ar outer s H vs Q E hr h => ?_)
  · obtain ⟨r, dr, a, i, ns, v, rfl, _⟩ := h
    rfl
  · obtain ⟨r, dr, a, i, ns, v, rfl, hR, hS, hv, q⟩ := h
    refine ⟨_, pss_cons (ps_set (i := 1) scRnumber.nd rfl (Or.inl rfl) (pe_ix ix_list (pe_fld (pv 0) rfl) (pe_fld (pv 0) rfl) (fun _ _ => rfl))) (pss_cons (ps_fldaug (pv 0) pe_int in_add) (pss_one (ps_ret (pv 1)))), ?_⟩
    refine ⟨_, rfl, r, A.cR, dr, _, _, rfl, hR, T.clR, T.nRnumbers, RF.g_numbers _, _, rfl, r, A.cR, dr, _, _, rfl, hR, T.clR, T.nRplace, RF.g_place _, a, _, (i : Int), V.int v, rfl, rfl, hS, atI_nat (by rw [List.getElem?_map, hv]; rfl), ?_⟩
    refine ⟨_, rfl, r, A.cR, dr, _, _, rfl, hR, T.clR, T.nRplace, RF.g_place _, (i : Int), 1, rfl, rfl, dr, _, hR, RF.few _, ?_⟩
    exact ⟨_, rfl, q⟩
def spRow (A : Adr) (K : PySem.W.Frag) : Sp := fun vs H Q _ => ∃ (r dr a : Addr) (i n : Nat) (ns : List Int), vs = [.ref r] ∧ H r = some (.ins A.cR dr (rF a i)) ∧ SqL K H a (ns.map V.int) ∧ ns[i]? = some (n : Int) ∧ i + 1 + n ≤ ns.length ∧
  ∀ l, H l = none → Q (.ref l) (upd (upd H r (.ins A.cR dr (rF a (i + 1 + n)))) l (.lst (((ns.drop (i + 1)).take n).map V.int)))
theorem scRrow : FnScope ["self", "size", "first"] ["self"] (defScope sRrow) := ⟨rfl, rfl, rfl, by decide +kernel, rfl, by decide +kernel, by decide +kernel⟩
theorem cut_mid (ns : List Int) (i n : Nat) (h : i + n ≤ ns.length) : cutV (ns.map V.int) (some (i : Int)) (some ((i + n : Nat) : Int)) = ((ns.drop i).take n).map V.int := by
  unfold cutV
  rw [HT.sIx_nat, HT.sIx_nat, List.length_map, Nat.min_eq_left (by omega), Nat.min_eq_left (by omega), List.map_take, List.map_drop]
  congr 1
  omega
theorem ok_row (T : Txt K mg A) : FnOk P w K mg base CX0 2 A.fRrow A.dRrow ["self"] (spRow A K) := by
  refine T.FRrow.ok scRrow (fun vs H Q E h => ?_) (fun cdv Ar outer s H vs Q E hr h => ?_)
  · obtain ⟨r, dr, a, i, n, ns, rfl, _⟩ := h
    rfl
  · obtain ⟨r, dr, a, i, n, ns, rfl, hR, hS, hv, hlen, q⟩ := h
    refine ⟨_, pss_cons (ps_set (i := 1) scRrow.nd rfl (Or.inl rfl) (pe_meth0 (pv 0) T.clR T.mRnumber (ok_number T) hr T.bRnumber .nil pass0)) (pss_cons (ps_set (i := 2) scRrow.nd rfl (Or.inl rfl) (pe_fld (pv 0) rfl))
      (pss_cons (ps_fldaug (pv 0) (pv 1) in_add) (pss_one (ps_ret (pe_slice sl_list (pe_fld (pv 0) rfl) (po_some (pv 2)) (po_some (pe_fld (pv 0) rfl))))))), ?_⟩
    refine ⟨_, rfl, r, dr, _, rfl, hR, rfl, r, dr, a, i, ns, (n : Int), rfl, hR, hS, hv, ?_⟩
    refine ⟨_, rfl, r, A.cR, dr, _, _, rfl, upd_same, T.clR, T.nRplace, RF.g_place _, ?_⟩
    refine ⟨_, rfl, r, A.cR, dr, _, _, rfl, upd_same, T.clR, T.nRplace, RF.g_place _, _, rfl, ((i + 1 : Nat) : Int), (n : Int), rfl, rfl, dr, _, upd_same, RF.few _, ?_⟩
    have e1 : ((i + 1 : Nat) : Int) + (n : Int) = ((i + 1 + n : Nat) : Int) := by omega
    rw [e1, upd_upd]
    have hS2 : SqL K (upd H r (.ins A.cR dr (putF "place" (V.int ((i + 1 + n : Nat) : Int)) (rF a (i + 1))))) a (ns.map V.int) := SqL.wr hS hR
    refine ⟨_, rfl, r, A.cR, dr, _, _, rfl, upd_same, T.clR, T.nRnumbers, RF.g_numbers ⟨.ref a, nI (i + 1 + n)⟩, _, rfl, _, rfl, _, rfl, r, A.cR, dr, _, _, rfl, upd_same, T.clR, T.nRplace, RF.g_place ⟨.ref a, nI (i + 1 + n)⟩, _, rfl, a, _, rfl, hS2, fun l hl => ?_⟩
    rw [cut_mid ns (i + 1) n hlen]
    have hl' : H l = none := by
      have n1 : l ≠ r := fun z => by
        rw [z, upd_same] at hl
        cases hl
      rw [upd_ne n1] at hl
      exact hl
    exact q l hl'
end
end Ck
/-! read_plan -/
namespace Ck
open PySem L2
section
variable {P : Program} {w : World} {K : PySem.W.Frag} {mg : Str → Option Value} {base : Heap} {A : Adr}
def spReadPlan (A : Adr) (K : PySem.W.Frag) : Sp := fun vs H Q _ => ∃ (r dr a : Addr) (i : Nat) (ns rest : List Int) (pl : Kgo2.Plan), vs = [.ref r] ∧ H r = some (.ins A.cR dr (rF a i)) ∧ SqL K H a (ns.map V.int) ∧ pl.how.length = 8 ∧ pl.patience.length = 8 ∧
  ns.drop i = (pl.way : Int) :: (pl.most : Int) :: (pl.within : Int) :: (pl.count : Int) :: 8 :: (pl.how.map (fun (n : Nat) => (n : Int)) ++ 8 :: (pl.patience.map (fun (n : Nat) => (n : Int)) ++ rest)) ∧
  ∀ (H' : Hp) (p lh lq : Addr), PlanAt A H' p lh lq pl → H' r = some (.ins A.cR dr (rF a (i + 22))) → (∀ b o, b ≠ r → H b = some o → H' b = some o) → H p = none → H lh = none → H lq = none → Q (.ref p) H'
theorem scGread_plan : FnScope ["reader", "way", "most", "within", "count", "how", "patience"] ["reader"] (defScope sGread_plan) := ⟨rfl, rfl, rfl, by decide +kernel, rfl, by decide +kernel, by decide +kernel⟩
theorem map_nI (l : List Nat) : (l.map fun (n : Nat) => (n : Int)).map V.int = l.map nI := by rw [List.map_map]; rfl
theorem ok_read_plan (T : Txt K mg A) : FnOk P w K mg base CX0 3 A.fGread_plan A.dGread_plan ["reader"] (spReadPlan A K) := by
  refine T.FGread_plan.ok scGread_plan (fun vs H Q E h => ?_) (fun cdv Ar outer s H vs Q E hr h => ?_)
  · obtain ⟨r, dr, a, i, ns, rest, pl, rfl, _⟩ := h
    rfl
  · obtain ⟨r, dr, a, i, ns, rest, pl, rfl, hR, hS, h8, q8, hd, q⟩ := h
    have hr1 : Room 1 _ := hr.mono (by decide)
    have g : ∀ j, ns[i + j]? = ((pl.way : Int) :: (pl.most : Int) :: (pl.within : Int) :: (pl.count : Int) :: 8 :: (pl.how.map (fun (n : Nat) => (n : Int)) ++ 8 :: (pl.patience.map (fun (n : Nat) => (n : Int)) ++ rest)))[j]? := fun j => by
      rw [← hd, List.getElem?_drop]
    have hlen : ns.length = i + (5 + (8 + (1 + (8 + rest.length)))) ∨ ns.length ≤ i := by
      have e := congrArg List.length hd
      rw [List.length_drop] at e
      simp only [List.length_cons, List.length_append, List.length_map, h8, q8] at e
      omega
    have hlen : ns.length = i + (5 + (8 + (1 + (8 + rest.length)))) := by
      rcases hlen with h | h
      · exact h
      · have e := g 0
        rw [Nat.add_zero, List.getElem?_eq_none h] at e
        cases e
    have hd5 : (ns.drop (i + 4 + 1)).take 8 = pl.how.map (fun (n : Nat) => (n : Int)) := by
      rw [show i + 4 + 1 = i + 5 by omega, ← List.drop_drop, hd]
      show (pl.how.map (fun (n : Nat) => (n : Int)) ++ _).take 8 = _
      rw [List.take_append_of_le_length (by rw [List.length_map, h8]; exact Nat.le_refl _), List.take_of_length_le (by rw [List.length_map, h8]; exact Nat.le_refl _)]
    have g13 : ns[i + 4 + 1 + 8]? = some ((8 : Nat) : Int) := by
      rw [show i + 4 + 1 + 8 = i + 13 by omega, g 13]
      show (pl.how.map (fun (n : Nat) => (n : Int)) ++ 8 :: (pl.patience.map (fun (n : Nat) => (n : Int)) ++ rest))[8]? = _
      rw [List.getElem?_append_right (by rw [List.length_map, h8]; exact Nat.le_refl _), List.length_map, h8]
      rfl
    have hd14 : (ns.drop (i + 4 + 1 + 8 + 1)).take 8 = pl.patience.map (fun (n : Nat) => (n : Int)) := by
      rw [show i + 4 + 1 + 8 + 1 = i + (5 + (8 + 1)) by omega, ← List.drop_drop, hd]
      show ((pl.how.map (fun (n : Nat) => (n : Int)) ++ 8 :: (pl.patience.map (fun (n : Nat) => (n : Int)) ++ rest)).drop (8 + 1)).take 8 = _
      rw [← List.drop_drop, List.drop_left' (by rw [List.length_map, h8])]
      show (pl.patience.map (fun (n : Nat) => (n : Int)) ++ rest).take 8 = _
      rw [List.take_append_of_le_length (by rw [List.length_map, q8]; exact Nat.le_refl _), List.take_of_length_le (by rw [List.length_map, q8]; exact Nat.le_refl _)]
    refine ⟨_, pss_cons (ps_set (i := 1) scGread_plan.nd rfl (Or.inl rfl) (pe_meth0 (pv 0) T.clR T.mRnumber (ok_number T) hr1 T.bRnumber .nil pass0))
      (pss_cons (ps_set (i := 2) scGread_plan.nd rfl (Or.inl rfl) (pe_meth0 (pv 0) T.clR T.mRnumber (ok_number T) hr1 T.bRnumber .nil pass0))
      (pss_cons (ps_set (i := 3) scGread_plan.nd rfl (Or.inl rfl) (pe_meth0 (pv 0) T.clR T.mRnumber (ok_number T) hr1 T.bRnumber .nil pass0))
      (pss_cons (ps_set (i := 4) scGread_plan.nd rfl (Or.inl rfl) (pe_meth0 (pv 0) T.clR T.mRnumber (ok_number T) hr1 T.bRnumber .nil pass0))
      (pss_cons (ps_set (i := 5) scGread_plan.nd rfl (Or.inl rfl) (pe_meth0 (pv 0) T.clR T.mRrow (ok_row T) hr T.bRrow .nil pass0))
      (pss_cons (ps_set (i := 6) scGread_plan.nd rfl (Or.inl rfl) (pe_meth0 (pv 0) T.clR T.mRrow (ok_row T) hr T.bRrow .nil pass0))
      (pss_one (ps_ret (pe_make T.mkP (ok_Pinit T) hr rfl T.mgP T.bPinit .nil pass0 (pa_cons (pv 1) (pa_cons (pv 2) (pa_cons (pv 3) (pa_cons (pv 4) (pa_cons (pv 5) (pa_cons (pv 6) pa_nil)))))))))))))), ?_⟩
    refine ⟨_, rfl, r, dr, _, rfl, hR, rfl, r, dr, a, i, ns, (pl.way : Int), rfl, hR, hS, g 0, ?_⟩
    refine ⟨_, rfl, r, dr, _, rfl, upd_same, rfl, r, dr, a, i + 1, ns, (pl.most : Int), rfl, upd_same, SqL.wr hS hR, g 1, ?_⟩
    rw [upd_upd]
    refine ⟨_, rfl, r, dr, _, rfl, upd_same, rfl, r, dr, a, i + 2, ns, (pl.within : Int), rfl, upd_same, SqL.wr hS hR, g 2, ?_⟩
    rw [upd_upd]
    refine ⟨_, rfl, r, dr, _, rfl, upd_same, rfl, r, dr, a, i + 3, ns, (pl.count : Int), rfl, upd_same, SqL.wr hS hR, g 3, ?_⟩
    rw [upd_upd]
    refine ⟨_, rfl, r, dr, _, rfl, upd_same, rfl, r, dr, a, i + 4, 8, ns, rfl, upd_same, SqL.wr hS hR, g 4, by omega, fun lh h1 => ?_⟩
    rw [upd_upd, hd5, map_nI]
    have n1 : lh ≠ r := fun z => by
      rw [z, upd_same] at h1
      cases h1
    have h1' : H lh = none := by rw [upd_ne n1] at h1; exact h1
    have hR1 : upd (upd H r (.ins A.cR dr (rF a (i + 4 + 1 + 8)))) lh (.lst (pl.how.map nI)) r = some (.ins A.cR dr (rF a (i + 4 + 1 + 8))) := by rw [upd_ne n1.symm, upd_same]
    have hS1 : SqL K (upd (upd H r (.ins A.cR dr (rF a (i + 4 + 1 + 8)))) lh (.lst (pl.how.map nI))) a (ns.map V.int) :=
      (Same.new (H := upd H r (.ins A.cR dr (rF a (i + 4 + 1 + 8)))) (by rw [upd_ne n1]; exact h1')).seq (SqL.wr hS hR)
    refine ⟨_, rfl, r, dr, _, rfl, hR1, rfl, r, dr, a, i + 4 + 1 + 8, 8, ns, rfl, hR1, hS1, g13, by omega, fun lq h2 => ?_⟩
    rw [hd14, map_nI]
    obtain ⟨n21, h2a⟩ : lq ≠ lh ∧ upd H r (.ins A.cR dr (rF a (i + 4 + 1 + 8))) lq = none := none_back h2
    obtain ⟨n2, h2'⟩ := none_back h2a
    refine ⟨_, rfl, _, rfl, _, rfl, _, rfl, _, rfl, _, rfl, fun x dx nx ndx ne => ?_⟩
    obtain ⟨x1, x2⟩ := none_back nx
    obtain ⟨x3, x4⟩ := none_back x2
    obtain ⟨x5, x6⟩ := none_back x4
    obtain ⟨_, x7⟩ := none_back x6
    obtain ⟨y1, y2⟩ := none_back ndx
    obtain ⟨y3, y4⟩ := none_back y2
    obtain ⟨y5, y6⟩ := none_back y4
    obtain ⟨_, y7⟩ := none_back y6
    refine ⟨x, dx, lh, lq, _, _, _, _, rfl, upd_same, rfl, ?_⟩
    rw [upd_upd]
    refine q _ x lh lq ⟨⟨dx, upd_same⟩, ?_, ?_⟩ ?_ (fun b o hb e => ?_) x7 h1' h2'
    · rw [upd_ne x5.symm, upd_ne y5.symm, upd_ne n21.symm, upd_ne n1, upd_same]
    · rw [upd_ne x1.symm, upd_ne y1.symm, upd_same]
    · rw [upd_ne x3.symm, upd_ne y3.symm, upd_ne n2.symm, upd_same]
    · have b1 : b ≠ x := fun z => by rw [z, x7] at e; cases e
      have b2 : b ≠ dx := fun z => by rw [z, y7] at e; cases e
      have b3 : b ≠ lq := fun z => by rw [z, h2'] at e; cases e
      have b4 : b ≠ lh := fun z => by rw [z, h1'] at e; cases e
      rw [upd_ne b1, upd_ne b2, upd_ne b3, upd_ne hb, upd_ne b4, upd_ne hb]
      exact e
end
end Ck
/-! THE MIRROR AND THE SPECIFICATION GO TOGETHER -/
namespace Ck
open Kgo2 (Abs Plan Ask Ans Phase)
structure Sim (a : Kgo2.Abs) (m : KS) : Prop where
  mode : m.mode = Kgo2.phaseNo a.phase
  why : ∀ w, a.phase = .ending w → m.why = w
  now : m.now = a.ticks
  notes : m.notes = a.notes
  on : m.on = a.on
  marked : m.marked = a.marked
  stop : m.stopping = a.halting.map (·.1)
  left : ∀ k t, a.halting = some (k, some t) → m.left = t ∧ 0 < t
  left0 : ∀ k, a.halting = some (k, none) → m.left = 0
structure Good (a : Kgo2.Abs) : Prop where
  right : Kgo2.right a.p = true
  hl : a.p.how.length = 8
  ql : a.p.patience.length = 8
  onl : a.on.length = a.p.count
  mkl : a.marked.length = a.p.count
  hlt : ∀ k o, a.halting = some (k, o) → k < a.p.count ∧ (a.phase = .anew ∨ ∃ w, a.phase = .ending w)
  over : a.phase = .over → ∀ k, a.on.getD k false = false
  nk : a.phase = .keeping ∨ a.phase = .anew → a.notes.length ≤ 15
  ns : a.notes.length ≤ 16
def Rel (s : Option Kgo2.Abs) (po : Option Kgo2.Plan) (m : KS) : Prop := match s with
  | none => po = none
  | some a => po = some a.p ∧ Sim a m ∧ Good a
/-- what the call's three parts are worth: the number, what is told, what is answered besides -/
def Simd (r : Option (List Kgo2.Ask × Option Kgo2.Abs × Kgo2.Ans)) (n : Int) (po : Option Kgo2.Plan) (m : KS) (b : List Int) : Prop :=
  ∃ q t an, r = some (q, t, an) ∧ an.value = n ∧ m.told = q.flatMap Kgo2Neutral.told ∧ q.length ≤ 8 ∧ Kgo2Neutral.ints an.out = b ∧ Rel t po m
theorem right_of {p : Kgo2.Plan} (h : Kgo2.right p = true) : p.way ≤ 2 ∧ p.most ≤ 15 ∧ 1 ≤ p.within ∧ 1 ≤ p.count ∧ p.count ≤ 8 := by
  unfold Kgo2.right at h
  simp only [Bool.and_eq_true, decide_eq_true_eq] at h
  omega
theorem Good.wf {a : Kgo2.Abs} {m : KS} (G : Good a) (S : Sim a m) : Wf a.p m := by
  refine ⟨by rw [S.on]; exact G.onl, by rw [S.marked]; exact G.mkl, (right_of G.right).2.2.2.2, G.hl, G.ql, fun c e => ?_, by rw [S.notes]; have := G.ns; omega⟩
  rw [S.stop] at e
  cases h : a.halting with
  | none =>
    rw [h] at e
    cases e
  | some x =>
    obtain ⟨k, o⟩ := x
    rw [h] at e
    cases e
    exact (G.hlt _ _ h).1
theorem filt1 (p : Nat → Bool) (n : Nat) : [n].filter p = if p n = true then [n] else [] := by
  by_cases h : p n = true
  · rw [if_pos h, List.filter_cons_of_pos h, List.filter_nil]
  · rw [if_neg h, List.filter_cons_of_neg h, List.filter_nil]
/-! lists by place -/
theorem getD_ext {l l' : List Bool} (hl : l.length = l'.length) (h : ∀ j, j < l.length → l.getD j false = l'.getD j false) : l = l' := by
  apply List.ext_getElem hl
  intro i h1 h2
  have e := h i h1
  rw [List.getD_eq_getElem?_getD, List.getD_eq_getElem?_getD, List.getElem?_eq_getElem h1, List.getElem?_eq_getElem h2] at e
  exact e
theorem getD_set (l : List Bool) (i j : Nat) (b : Bool) (h : i < l.length) : (l.set i b).getD j false = if i = j then b else l.getD j false := by
  rw [List.getD_eq_getElem?_getD, List.getD_eq_getElem?_getD, List.getElem?_set]
  by_cases e : i = j
  · rw [if_pos e, if_pos e, if_pos (by omega)]
    rfl
  · rw [if_neg e, if_neg e]
theorem getD_range_map (f : Nat → Bool) (n j : Nat) (h : j < n) : ((List.range n).map f).getD j false = f j := by
  rw [List.getD_eq_getElem?_getD, List.getElem?_map, List.getElem?_range h]
  rfl
theorem getD_rep (n j : Nat) (b : Bool) (h : j < n) : (List.replicate n b).getD j false = b := by
  rw [List.getD_eq_getElem?_getD, List.getElem?_replicate, if_pos h]
  rfl
/-! begin_marked, start's loop -/
theorem markedUp_on {m : KS} : ∀ i, i ≤ m.on.length → (markedUp m i).on.length = m.on.length ∧ ∀ j, (markedUp m i).on.getD j false = (m.on.getD j false || (decide (j < i) && m.marked.getD j false))
  | 0, _ => ⟨rfl, fun j => by show m.on.getD j false = _; simp⟩
  | i + 1, h => by
    obtain ⟨h1, h2⟩ := markedUp_on (m := m) i (by omega)
    unfold markedUp
    split
    · rename_i hm
      refine ⟨by show ((markedUp m i).on.set i true).length = _; rw [List.length_set, h1], fun j => ?_⟩
      show ((markedUp m i).on.set i true).getD j false = _
      rw [getD_set _ _ _ _ (by omega)]
      by_cases e : i = j
      · subst e
        rw [if_pos rfl, hm, decide_eq_true (show i < i + 1 by omega)]
        simp
      · rw [if_neg e, h2]
        have e2 : decide (j < i + 1) = decide (j < i) := by
          rw [Bool.eq_iff_iff, decide_eq_true_eq, decide_eq_true_eq]
          omega
        rw [e2]
    · rename_i hm
      refine ⟨h1, fun j => ?_⟩
      rw [h2]
      by_cases e : i = j
      · subst e
        have hm' : m.marked.getD i false = false := by simpa using hm
        rw [hm']
        simp
      · have e2 : decide (j < i + 1) = decide (j < i) := by
          rw [Bool.eq_iff_iff, decide_eq_true_eq, decide_eq_true_eq]
          omega
        rw [e2]
theorem markedUp_tells (m : KS) : ∀ i, (markedUp m i).told = m.told ++ (((List.range i).filter fun k => m.marked.getD k false).map Kgo2.Ask.begin_).flatMap Kgo2Neutral.told
  | 0 => by simp [markedUp]
  | i + 1 => by
    have ih := markedUp_tells m i
    unfold markedUp
    rw [List.range_succ, List.filter_append, List.map_append, List.flatMap_append]
    split
    · rename_i hm
      show (markedUp m i).told ++ [0, (i : Int), 0] = _
      rw [ih, filt1, if_pos hm, List.append_assoc]
      rfl
    · rename_i hm
      rw [ih, filt1, if_neg hm]
      simp
theorem beginUp_on {m : KS} : ∀ i, i ≤ m.on.length → (beginUp m i).on.length = m.on.length ∧ ∀ j, (beginUp m i).on.getD j false = (m.on.getD j false || decide (j < i))
  | 0, _ => ⟨rfl, fun j => by show m.on.getD j false = _; simp⟩
  | i + 1, h => by
    obtain ⟨h1, h2⟩ := beginUp_on (m := m) i (by omega)
    refine ⟨by show ((beginUp m i).on.set i true).length = _; rw [List.length_set, h1], fun j => ?_⟩
    show ((beginUp m i).on.set i true).getD j false = _
    rw [getD_set _ _ _ _ (by omega)]
    by_cases e : i = j
    · subst e
      rw [if_pos rfl, decide_eq_true (show i < i + 1 by omega)]
      simp
    · rw [if_neg e, h2]
      have e2 : decide (j < i + 1) = decide (j < i) := by
        rw [Bool.eq_iff_iff, decide_eq_true_eq, decide_eq_true_eq]
        omega
      rw [e2]
theorem beginUp_tells (m : KS) : ∀ i, (beginUp m i).told = m.told ++ ((List.range i).map Kgo2.Ask.begin_).flatMap Kgo2Neutral.told
  | 0 => by simp [beginUp]
  | i + 1 => by
    show (beginUp m i).told ++ [0, (i : Int), 0] = _
    rw [beginUp_tells m i, List.range_succ, List.map_append, List.flatMap_append, List.append_assoc]
    rfl
theorem markedUp_rest (m : KS) : ∀ i, (markedUp m i).mode = m.mode ∧ (markedUp m i).why = m.why ∧ (markedUp m i).now = m.now ∧ (markedUp m i).notes = m.notes ∧ (markedUp m i).stopping = m.stopping ∧ (markedUp m i).left = m.left
  | 0 => ⟨rfl, rfl, rfl, rfl, rfl, rfl⟩
  | i + 1 => by
    have h := markedUp_rest m i
    unfold markedUp
    split
    · exact h
    · exact h
theorem beginUp_rest (m : KS) : ∀ i, (beginUp m i).mode = m.mode ∧ (beginUp m i).why = m.why ∧ (beginUp m i).now = m.now ∧ (beginUp m i).notes = m.notes ∧ (beginUp m i).stopping = m.stopping ∧ (beginUp m i).left = m.left ∧ (beginUp m i).marked = m.marked
  | 0 => ⟨rfl, rfl, rfl, rfl, rfl, rfl, rfl⟩
  | i + 1 => beginUp_rest m i
/-! on with it -/
def Busy (a : Kgo2.Abs) : Prop := a.phase = .anew ∨ ∃ w, a.phase = .ending w
theorem due_next {a : Kgo2.Abs} {m : KS} (S : Sim a m) (B : Busy a) : (dueL a.p m).getLast? = Kgo2.next a := by
  unfold dueL Kgo2.next
  congr 2
  funext k
  unfold toAsk Kgo2.isOn Kgo2.isMarked
  rw [S.on, S.marked, S.mode]
  rcases B with h | ⟨w, h⟩
  · rw [h]
    show (_ && (_ || (1 == 2))) = (_ && ((Phase.anew != Phase.anew) || _))
    have e : (Phase.anew != Phase.anew) = false := by decide
    rw [e, Bool.false_or]
    have e2 : ((1 : Nat) == 2) = false := rfl
    rw [e2, Bool.or_false]
  · rw [h]
    show (_ && (_ || (2 == 2))) = (_ && ((Phase.ending w != Phase.anew) || _))
    have e : (Phase.ending w != Phase.anew) = true := by simp
    rw [e, Bool.true_or]
    have e2 : ((2 : Nat) == 2) = true := rfl
    rw [e2, Bool.or_true]
theorem next_lt {a : Kgo2.Abs} {k : Nat} (h : Kgo2.next a = some k) : k < a.p.count ∧ Kgo2.isOn a k = true := by
  unfold Kgo2.next at h
  have hm := List.mem_of_getLast? h
  have h1 := List.mem_filter.mp hm
  refine ⟨List.mem_range.mp h1.1, ?_⟩
  have := h1.2
  rw [Bool.and_eq_true] at this
  exact this.1
theorem ask_sim {a : Kgo2.Abs} {m : KS} {k : Nat} (S : Sim a m) (G : Good a) (B : Busy a) (hT : m.told = []) (hk : k < a.p.count) :
    Sim { Kgo2.off a k with halting := some (k, if a.p.patience.getD k 0 = 0 then none else some (a.p.patience.getD k 0)) } (askM a.p m k) ∧
    Good { Kgo2.off a k with halting := some (k, if a.p.patience.getD k 0 = 0 then none else some (a.p.patience.getD k 0)) } ∧
    (askM a.p m k).told = [Kgo2.Ask.halt k (if a.p.patience.getD k 0 = 0 then 1 else 0)].flatMap Kgo2Neutral.told := by
  refine ⟨⟨S.mode, S.why, S.now, S.notes, ?_, S.marked, rfl, fun k' t e => ?_, fun k' e => ?_⟩, ⟨G.right, G.hl, G.ql, ?_, G.mkl, fun k' o e => ?_, fun e => ?_, G.nk, G.ns⟩, ?_⟩
  · show m.on.set k false = a.on.set k false
    rw [S.on]
  · have e2 := Option.some.inj e
    have e3 := congrArg Prod.snd e2
    dsimp only at e3
    split at e3
    · cases e3
    · rename_i hz
      have e4 := Option.some.inj e3
      exact ⟨e4, by omega⟩
  · have e2 := Option.some.inj e
    have e3 := congrArg Prod.snd e2
    dsimp only at e3
    split at e3
    · rename_i hz
      exact hz
    · cases e3
  · show (a.on.set k false).length = _
    rw [List.length_set]
    exact G.onl
  · have e2 := Option.some.inj e
    have e3 := congrArg Prod.fst e2
    dsimp only at e3
    subst e3
    exact ⟨hk, B⟩
  · rcases B with h | ⟨w, h⟩
    · have e' : a.phase = .over := e
      rw [h] at e'
      cases e'
    · have e' : a.phase = .over := e
      rw [h] at e'
      cases e'
  · show m.told ++ [1, (k : Int), if a.p.patience.getD k 0 = 0 then 1 else 0] = [1, (k : Int), (((if a.p.patience.getD k 0 = 0 then 1 else 0 : Nat)) : Int)] ++ []
    rw [hT]
    split <;> rfl
theorem onWith_sim {a : Kgo2.Abs} {m : KS} (S : Sim a m) (G : Good a) (B : Busy a) (hT : m.told = []) :
    Sim (Kgo2.onWith a).1 (onWithM a.p m) ∧ Good (Kgo2.onWith a).1 ∧ (onWithM a.p m).told = (Kgo2.onWith a).2.flatMap Kgo2Neutral.told ∧ (Kgo2.onWith a).2.length ≤ 8 ∧ (Kgo2.onWith a).1.p = a.p := by
  unfold onWithM
  rw [S.stop]
  cases hh : a.halting with
  | some x =>
    have e : Kgo2.onWith a = (a, []) := by
      unfold Kgo2.onWith
      rw [hh]
      rfl
    rw [if_pos (show (Option.map (fun (x : Nat × Option Nat) => x.fst) (some x)).isSome = true from rfl), e]
    exact ⟨S, G, hT, by show 0 ≤ 8; decide, rfl⟩
  | none =>
    rw [if_neg (by simp), due_next S B]
    have hn : ¬ a.halting.isSome = true := by rw [hh]; simp
    cases hx : Kgo2.next a with
    | some k =>
      have e : Kgo2.onWith a = ({ Kgo2.off a k with halting := some (k, if a.p.patience.getD k 0 = 0 then none else some (a.p.patience.getD k 0)) }, [Kgo2.Ask.halt k (if a.p.patience.getD k 0 = 0 then 1 else 0)]) := by
        unfold Kgo2.onWith
        rw [if_neg hn]
        rcases B with h | ⟨w, h⟩
        · rw [h]
          show (match Kgo2.next a with | some k => _ | none => _) = _
          rw [hx]
        · rw [h]
          show (match Kgo2.next a with | some k => _ | none => _) = _
          rw [hx]
      rw [e]
      obtain ⟨h1, h2, h3⟩ := ask_sim S G B hT (next_lt hx).1
      exact ⟨h1, h2, h3, by show 1 ≤ 8; decide, rfl⟩
    | none =>
      have g8 := (right_of G.right).2.2.2.2
      rcases B with h | ⟨w, h⟩
      · have e : Kgo2.onWith a = ({ a with phase := .keeping, on := (List.range a.p.count).map fun k => Kgo2.isOn a k || Kgo2.isMarked a k, marked := Kgo2.nobody a.p }, ((List.range a.p.count).filter (Kgo2.isMarked a)).map Kgo2.Ask.begin_) := by
          unfold Kgo2.onWith
          rw [if_neg hn, h]
          show (match Kgo2.next a with | some k => _ | none => _) = _
          rw [hx]
        have hm1 : m.mode = 1 := by rw [S.mode, h]; rfl
        show Sim _ (if m.mode = 1 then beginMarkedM a.p m else overM m) ∧ _
        rw [if_pos hm1, e]
        obtain ⟨r1, r2, r3, r4, r5, r6⟩ := markedUp_rest m a.p.count
        have hol : a.p.count ≤ m.on.length := by rw [S.on, G.onl]; exact Nat.le_refl _
        obtain ⟨o1, o2⟩ := markedUp_on a.p.count hol
        have eon : (markedUp m a.p.count).on = (List.range a.p.count).map fun k => Kgo2.isOn a k || Kgo2.isMarked a k := by
          apply getD_ext
          · rw [o1, S.on, G.onl, List.length_map, List.length_range]
          · intro j hj
            rw [o1, S.on, G.onl] at hj
            rw [o2, getD_range_map _ _ _ hj, decide_eq_true hj, Bool.true_and, S.on, S.marked]
            rfl
        refine ⟨⟨rfl, (fun w e => by cases e), ?_, ?_, ?_, rfl, ?_, fun k t e => ?_, fun k e => ?_⟩, ⟨G.right, G.hl, G.ql, ?_, ?_, fun k o e => ?_, (fun e => by cases e), fun _ => ?_, G.ns⟩, ?_, ?_, rfl⟩
        · exact r3.trans S.now
        · exact r4.trans S.notes
        · exact eon
        · exact r5.trans S.stop
        · have e' : a.halting = some (k, some t) := e
          rw [hh] at e'
          cases e'
        · have e' : a.halting = some (k, none) := e
          rw [hh] at e'
          cases e'
        · show ((List.range a.p.count).map _).length = _
          rw [List.length_map, List.length_range]
        · show (List.replicate a.p.count false).length = _
          rw [List.length_replicate]
        · have e' : a.halting = some (k, o) := e
          rw [hh] at e'
          cases e'
        · exact G.nk (.inr h)
        · show (markedUp m a.p.count).told = _
          rw [markedUp_tells, hT, List.nil_append]
          have ef : (fun k => m.marked.getD k false) = Kgo2.isMarked a := by
            funext k
            rw [S.marked]
            rfl
          rw [ef]
        · show (((List.range a.p.count).filter (Kgo2.isMarked a)).map Kgo2.Ask.begin_).length ≤ 8
          rw [List.length_map]
          have := List.length_filter_le (Kgo2.isMarked a) (List.range a.p.count)
          rw [List.length_range] at this
          omega
      · have e : Kgo2.onWith a = ({ a with phase := .over }, [Kgo2.Ask.over w]) := by
          unfold Kgo2.onWith
          rw [if_neg hn, h]
          show (match Kgo2.next a with | some k => _ | none => _) = _
          rw [hx]
        have hm2 : m.mode = 2 := by rw [S.mode, h]; rfl
        show Sim _ (if m.mode = 1 then beginMarkedM a.p m else overM m) ∧ _
        rw [if_neg (by omega), e]
        refine ⟨⟨rfl, (fun w e => by cases e), S.now, S.notes, S.on, S.marked, S.stop, S.left, S.left0⟩, ⟨G.right, G.hl, G.ql, G.onl, G.mkl, fun k o e => ?_, fun _ k => ?_, fun e => ?_, G.ns⟩, ?_, by show 1 ≤ 8; decide, rfl⟩
        · have e' : a.halting = some (k, o) := e
          rw [hh] at e'
          cases e'
        · show a.on.getD k false = false
          by_cases hk : k < a.p.count
          · unfold Kgo2.next at hx
            have hx' := List.getLast?_eq_none_iff.mp hx
            have := List.filter_eq_nil_iff.mp hx' k (List.mem_range.mpr hk)
            have e1 : (a.phase != Phase.anew) = true := by rw [h]; simp
            rw [e1] at this
            simpa [Kgo2.isOn] using this
          · rw [List.getD_eq_getElem?_getD, List.getElem?_eq_none (by rw [G.onl]; omega)]
            rfl
        · rcases e with e | e <;> cases e
        · show m.told ++ [2, (m.why : Int), 0] = [2, (w : Int), 0] ++ []
          rw [hT, S.why w h]
          rfl
end Ck
/-! CALL BY CALL -/
namespace Ck
open Kgo2 (Abs Plan Ask Ans Phase)
theorem beq_dec (x y : Option Nat) : (x == y) = decide (x = y) := by
  rw [Bool.eq_iff_iff]
  simp
theorem fold_mark (m : KS) : ∀ (l : List Nat) (mk : List Bool) (j : Nat), j < mk.length → (l.foldl (markStep m) mk).getD j false = (mk.getD j false || (decide (j ∈ l) && (m.on.getD j false || decide (m.stopping = some j))))
  | [], mk, j, _ => by simp
  | o :: l, mk, j, h => by
    have hl : (markStep m mk o).length = mk.length := by
      unfold markStep
      split
      · rw [List.length_set]
      · rfl
    rw [List.foldl_cons, fold_mark m l _ j (by rw [hl]; exact h)]
    unfold markStep
    by_cases e : o = j
    · subst e
      by_cases hb : (m.on.getD o false || decide (m.stopping = some o)) = true
      · rw [if_pos hb, getD_set _ _ _ _ h, if_pos rfl, hb]
        simp
      · rw [if_neg hb]
        have hb' : (m.on.getD o false || decide (m.stopping = some o)) = false := by simpa using hb
        rw [hb']
        simp
    · have e2 : (if (m.on.getD o false || decide (m.stopping = some o)) = true then mk.set o true else mk).getD j false = mk.getD j false := by
        split
        · by_cases ho : o < mk.length
          · rw [getD_set _ _ _ _ ho, if_neg e]
          · rw [List.set_eq_of_length_le (by omega)]
        · rfl
      have e3 : decide (j ∈ o :: l) = decide (j ∈ l) := by
        rw [Bool.eq_iff_iff, decide_eq_true_eq, decide_eq_true_eq, List.mem_cons]
        exact ⟨fun h => h.elim (fun z => absurd z.symm e) id, .inr⟩
      rw [e2, e3]
theorem mark_spec {a : Kgo2.Abs} {m : KS} {c : Nat} (S : Sim a m) (G : Good a) (hc : c < a.p.count) :
    (markM a.p m c).marked = (List.range a.p.count).map fun k => Kgo2.isMarked a k || k == c || (a.p.way == 1 && (Kgo2.isOn a k || Kgo2.isHalting a k)) || (a.p.way == 2 && decide (c < k) && (Kgo2.isOn a k || Kgo2.isHalting a k)) := by
  have hml : m.marked.length = a.p.count := by rw [S.marked]; exact G.mkl
  apply getD_ext
  · show ((besideL a.p c).foldl (markStep m) (m.marked.set c true)).length = _
    rw [mark_fold_len, List.length_set, hml, List.length_map, List.length_range]
  · intro j hj
    have hj' : j < a.p.count := by
      have : j < ((besideL a.p c).foldl (markStep m) (m.marked.set c true)).length := hj
      rw [mark_fold_len, List.length_set, hml] at this
      exact this
    show ((besideL a.p c).foldl (markStep m) (m.marked.set c true)).getD j false = _
    rw [fold_mark _ _ _ _ (by rw [List.length_set, hml]; exact hj'), getD_set _ _ _ _ (by rw [hml]; exact hc), getD_range_map _ _ _ hj']
    have et : (m.on.getD j false || decide (m.stopping = some j)) = (Kgo2.isOn a j || Kgo2.isHalting a j) := by
      unfold Kgo2.isOn Kgo2.isHalting
      rw [S.on, S.stop]
      congr 1
      exact (beq_dec _ _).symm
    have em : Kgo2.isMarked a j = m.marked.getD j false := by
      unfold Kgo2.isMarked
      rw [S.marked]
    rw [et, em]
    generalize (Kgo2.isOn a j || Kgo2.isHalting a j) = th
    have e1 : (if c = j then true else m.marked.getD j false) = (m.marked.getD j false || j == c) := by
      by_cases h : c = j
      · rw [if_pos h, h]
        simp
      · rw [if_neg h]
        have : (j == c) = false := by
          rw [beq_eq_false_iff_ne]
          exact fun z => h z.symm
        rw [this, Bool.or_false]
    rw [e1, Bool.or_assoc (m.marked.getD j false || j == c)]
    congr 1
    unfold besideL
    by_cases h1 : a.p.way = 1
    · rw [if_pos h1, h1, decide_eq_true (List.mem_range.mpr hj')]
      simp
    · rw [if_neg h1]
      have e2 : (a.p.way == 1) = false := by rw [beq_eq_false_iff_ne]; exact h1
      rw [e2, Bool.false_and, Bool.false_or]
      by_cases h2 : a.p.way = 2
      · rw [if_pos h2, h2]
        have e3 : decide (j ∈ List.range' (c + 1) (a.p.count - (c + 1))) = decide (c < j) := by
          rw [Bool.eq_iff_iff, decide_eq_true_eq, decide_eq_true_eq, List.mem_range'_1]
          omega
        rw [e3]
        simp
      · rw [if_neg h2]
        have e3 : (a.p.way == 2) = false := by rw [beq_eq_false_iff_ne]; exact h2
        rw [e3]
        simp
theorem note_spec {a : Kgo2.Abs} {m : KS} (S : Sim a m) (hw : 1 ≤ a.p.within) : (noteM a.p m).notes = (a.notes ++ [a.ticks]).filter fun n => decide (a.ticks < n + a.p.within) := by
  show m.notes.filter _ ++ [m.now] = _
  rw [S.notes, S.now, List.filter_append, filt1, if_pos (decide_eq_true (by omega))]
  congr 1
  congr 1
  funext n
  rw [Bool.eq_iff_iff, decide_eq_true_eq, decide_eq_true_eq]
  omega
theorem toBegin_sim {a : Kgo2.Abs} {m : KS} {c : Nat} (S : Sim a m) (G : Good a) (hc : c < a.p.count) (hp : a.phase = .keeping ∨ a.phase = .anew) (hT : m.told = []) :
    Sim (Kgo2.toBegin a c).1 (beginAnewM a.p m c) ∧ Good (Kgo2.toBegin a c).1 ∧ (beginAnewM a.p m c).told = (Kgo2.toBegin a c).2.flatMap Kgo2Neutral.told ∧ (Kgo2.toBegin a c).2.length ≤ 8 ∧ (Kgo2.toBegin a c).1.p = a.p := by
  obtain ⟨r1, r2, r3, r4, r5⟩ := right_of G.right
  have en := note_spec S r3
  have hnl : ((a.notes ++ [a.ticks]).filter fun n => decide (a.ticks < n + a.p.within)).length ≤ 16 := by
    have h1 := List.length_filter_le (fun n => decide (a.ticks < n + a.p.within)) (a.notes ++ [a.ticks])
    rw [List.length_append] at h1
    have h2 := G.nk hp
    have h3 : [a.ticks].length = 1 := rfl
    omega
  unfold beginAnewM Kgo2.toBegin
  dsimp only
  rw [en]
  by_cases hm : a.p.most < ((a.notes ++ [a.ticks]).filter fun n => decide (a.ticks < n + a.p.within)).length
  · rw [if_pos hm, if_pos hm]
    have S1 : Sim { a with notes := (a.notes ++ [a.ticks]).filter fun n => decide (a.ticks < n + a.p.within), phase := .ending 1, marked := Kgo2.nobody a.p } (unmarkM a.p { noteM a.p m with mode := 2, why := 1 }) :=
      ⟨rfl, (fun w e => by cases e; rfl), S.now, en, S.on, rfl, S.stop, S.left, S.left0⟩
    have G1 : Good { a with notes := (a.notes ++ [a.ticks]).filter fun n => decide (a.ticks < n + a.p.within), phase := .ending 1, marked := Kgo2.nobody a.p } :=
      ⟨G.right, G.hl, G.ql, G.onl, by show (List.replicate a.p.count false).length = _; rw [List.length_replicate], (fun k o e => ⟨(G.hlt k o e).1, .inr ⟨1, rfl⟩⟩), (fun e => by cases e), (fun e => by rcases e with e | e <;> cases e), hnl⟩
    exact onWith_sim S1 G1 (.inr ⟨1, rfl⟩) hT
  · rw [if_neg hm, if_neg hm]
    have S0 : Sim { a with notes := (a.notes ++ [a.ticks]).filter fun n => decide (a.ticks < n + a.p.within) } (noteM a.p m) := ⟨S.mode, S.why, S.now, en, S.on, S.marked, S.stop, S.left, S.left0⟩
    have G0 : Good { a with notes := (a.notes ++ [a.ticks]).filter fun n => decide (a.ticks < n + a.p.within) } := ⟨G.right, G.hl, G.ql, G.onl, G.mkl, G.hlt, G.over, (fun _ => by show List.length (List.filter _ _) ≤ 15; omega), hnl⟩
    have ek := mark_spec S0 G0 hc
    have S1 : Sim { a with notes := (a.notes ++ [a.ticks]).filter fun n => decide (a.ticks < n + a.p.within), phase := .anew, marked := (List.range a.p.count).map fun k => Kgo2.isMarked a k || k == c || (a.p.way == 1 && (Kgo2.isOn a k || Kgo2.isHalting a k)) || (a.p.way == 2 && decide (c < k) && (Kgo2.isOn a k || Kgo2.isHalting a k)) } { markM a.p (noteM a.p m) c with mode := 1 } :=
      ⟨rfl, (fun w e => by cases e), S.now, en, S.on, ek, S.stop, S.left, S.left0⟩
    have G1 : Good { a with notes := (a.notes ++ [a.ticks]).filter fun n => decide (a.ticks < n + a.p.within), phase := .anew, marked := (List.range a.p.count).map fun k => Kgo2.isMarked a k || k == c || (a.p.way == 1 && (Kgo2.isOn a k || Kgo2.isHalting a k)) || (a.p.way == 2 && decide (c < k) && (Kgo2.isOn a k || Kgo2.isHalting a k)) } :=
      ⟨G.right, G.hl, G.ql, G.onl, by show ((List.range a.p.count).map _).length = _; rw [List.length_map, List.length_range], (fun k o e => ⟨(G.hlt k o e).1, .inl rfl⟩), (fun e => by cases e), (fun _ => by show List.length (List.filter _ _) ≤ 15; omega), hnl⟩
    exact onWith_sim S1 G1 (.inl rfl) hT
theorem off_sim {a : Kgo2.Abs} {m : KS} (S : Sim a m) (G : Good a) (c : Nat) : Sim (Kgo2.off a c) { m with on := m.on.set c false } ∧ Good (Kgo2.off a c) := by
  refine ⟨⟨S.mode, S.why, S.now, S.notes, by show m.on.set c false = a.on.set c false; rw [S.on], S.marked, S.stop, S.left, S.left0⟩,
    ⟨G.right, G.hl, G.ql, by show (a.on.set c false).length = _; rw [List.length_set]; exact G.onl, G.mkl, G.hlt, fun e k => ?_, G.nk, G.ns⟩⟩
  show (a.on.set c false).getD k false = false
  have h := G.over e k
  by_cases hc : c < a.on.length
  · rw [getD_set _ _ _ _ hc]
    split
    · rfl
    · exact h
  · rw [List.set_eq_of_length_le (by omega)]
    exact h
theorem wanted_eq (p : Kgo2.Plan) (c y : Nat) : begunB p c y = Kgo2.wanted p c y := by
  unfold begunB Kgo2.wanted
  by_cases h : p.how.getD c 0 = 1
  · rw [if_pos h, h]
    simp
  · rw [if_neg h]
    have e : (p.how.getD c 0 == 1) = false := by rw [beq_eq_false_iff_ne]; exact h
    rw [e]
    simp
theorem sim_ended {a : Kgo2.Abs} {m : KS} (S : Sim a m) (G : Good a) (hT : m.told = []) (c y : Nat) : Simd (Kgo2.acts (some a) (.ended c y)) (endedM a.p m c y).1 (some a.p) (endedM a.p m c y).2 [] := by
  have hst : Kgo2.isHalting a c = decide (m.stopping = some c) := by
    unfold Kgo2.isHalting
    rw [S.stop]
    exact beq_dec _ _
  have hon : Kgo2.isOn a c = m.on.getD c false := by unfold Kgo2.isOn; rw [S.on]
  have hmk : Kgo2.isMarked a c = m.marked.getD c false := by unfold Kgo2.isMarked; rw [S.marked]
  unfold endedM Simd
  show ∃ q t an, some (if a.p.count ≤ c then ([], some a, Kgo2.say (-22)) else if Kgo2.isHalting a c = true then _ else _) = some (q, t, an) ∧ _
  by_cases h1 : a.p.count ≤ c
  · rw [if_pos h1, if_pos h1]
    exact ⟨[], some a, Kgo2.say (-22), rfl, rfl, hT, by show 0 ≤ 8; decide, rfl, rfl, S, G⟩
  · rw [if_neg h1, if_neg h1, hst]
    by_cases h2 : m.stopping = some c
    · rw [if_pos (decide_eq_true h2), if_pos h2]
      have hh : ∃ o, a.halting = some (c, o) := by
        rw [S.stop] at h2
        cases e : a.halting with
        | none =>
          rw [e] at h2
          cases h2
        | some x =>
          obtain ⟨k, o⟩ := x
          rw [e] at h2
          cases h2
          exact ⟨o, rfl⟩
      obtain ⟨o, hh⟩ := hh
      have B := (G.hlt c o hh).2
      have S1 : Sim { a with halting := none } { m with stopping := none } := ⟨S.mode, S.why, S.now, S.notes, S.on, S.marked, rfl, (fun k t e => by cases e), (fun k e => by cases e)⟩
      have G1 : Good { a with halting := none } := ⟨G.right, G.hl, G.ql, G.onl, G.mkl, (fun k o e => by cases e), G.over, G.nk, G.ns⟩
      obtain ⟨x1, x2, x3, x4, x5⟩ := onWith_sim S1 G1 B hT
      exact ⟨_, _, _, rfl, rfl, x3, x4, rfl, by rw [x5], x1, x2⟩
    · rw [if_neg (by rw [decide_eq_false h2]; simp), if_neg h2, hon]
      by_cases h3 : m.on.getD c false = false
      · rw [if_pos h3, if_pos h3]
        exact ⟨[], some a, Kgo2.say (-2), rfl, rfl, hT, by show 0 ≤ 8; decide, rfl, rfl, S, G⟩
      · rw [if_neg h3, if_neg h3]
        dsimp only
        obtain ⟨S1, G1⟩ := off_sim S G c
        have hno : a.phase ≠ .over := fun e => h3 (by rw [← hon]; exact G.over e c)
        rw [hmk, ← wanted_eq]
        have hie : Kgo2.isEnding a.phase = (m.mode == 2) := by
          rw [S.mode]
          cases e : a.phase with
          | keeping => rfl
          | anew => rfl
          | ending w => rfl
          | over => exact absurd e hno
        rw [hie]
        by_cases h4 : (m.marked.getD c false || m.mode == 2) = true
        · rw [if_pos (by rw [h4]; rfl), if_pos h4]
          exact ⟨[], _, _, rfl, rfl, hT, by show 0 ≤ 8; decide, rfl, rfl, S1, G1⟩
        · have h4' : (m.marked.getD c false || m.mode == 2) = false := by simpa using h4
          rw [if_neg h4, h4']
          by_cases h5 : begunB a.p c y = true
          · rw [if_pos h5, h5]
            rw [if_neg (by simp)]
            have hp : (Kgo2.off a c).phase = .keeping ∨ (Kgo2.off a c).phase = .anew := by
              show a.phase = .keeping ∨ a.phase = .anew
              have h6 : m.mode ≠ 2 := fun z => by rw [z] at h4; simp at h4
              rw [S.mode] at h6
              cases e : a.phase with
              | keeping => exact .inl rfl
              | anew => exact .inr rfl
              | ending w =>
                rw [e] at h6
                exact absurd rfl h6
              | over => exact absurd e hno
            obtain ⟨x1, x2, x3, x4, x5⟩ := toBegin_sim S1 G1 (show c < a.p.count by omega) hp hT
            exact ⟨_, _, _, rfl, rfl, x3, x4, rfl, by rw [x5]; rfl, x1, x2⟩
          · rw [if_neg h5]
            have h5' : begunB a.p c y = false := by simpa using h5
            rw [h5', if_pos (by rfl)]
            exact ⟨[], _, _, rfl, rfl, hT, by show 0 ≤ 8; decide, rfl, rfl, S1, G1⟩
theorem sim_stop {a : Kgo2.Abs} {m : KS} (S : Sim a m) (G : Good a) (hT : m.told = []) : Simd (Kgo2.acts (some a) .halt_) (stopM a.p m).1 (some a.p) (stopM a.p m).2 [] := by
  unfold stopM Simd
  show ∃ q t an, some (if Kgo2.isEnding a.phase = true then ([], some a, Kgo2.say (-11)) else _) = some (q, t, an) ∧ _
  have hie : Kgo2.isEnding a.phase = true ↔ (m.mode = 2 ∨ m.mode = 3) := by
    rw [S.mode]
    cases e : a.phase with
    | keeping => exact ⟨(fun z => by cases z), (fun z => by rcases z with z | z <;> cases z)⟩
    | anew => exact ⟨(fun z => by cases z), (fun z => by rcases z with z | z <;> cases z)⟩
    | ending w => exact ⟨fun _ => .inl rfl, fun _ => rfl⟩
    | over => exact ⟨fun _ => .inr rfl, fun _ => rfl⟩
  by_cases h : m.mode = 2 ∨ m.mode = 3
  · rw [if_pos (hie.mpr h), if_pos h]
    exact ⟨[], some a, Kgo2.say (-11), rfl, rfl, hT, by show 0 ≤ 8; decide, rfl, rfl, S, G⟩
  · rw [if_neg (fun z => h (hie.mp z)), if_neg h]
    have S1 : Sim { a with phase := .ending 0, marked := Kgo2.nobody a.p } (unmarkM a.p { m with mode := 2, why := 0 }) :=
      ⟨rfl, (fun w e => by cases e; rfl), S.now, S.notes, S.on, rfl, S.stop, S.left, S.left0⟩
    have G1 : Good { a with phase := .ending 0, marked := Kgo2.nobody a.p } :=
      ⟨G.right, G.hl, G.ql, G.onl, by show (List.replicate a.p.count false).length = _; rw [List.length_replicate], (fun k o e => ⟨(G.hlt k o e).1, .inr ⟨0, rfl⟩⟩), (fun e => by cases e), (fun e => by rcases e with e | e <;> cases e), G.ns⟩
    obtain ⟨x1, x2, x3, x4, x5⟩ := onWith_sim S1 G1 (.inr ⟨0, rfl⟩) hT
    exact ⟨_, _, _, rfl, rfl, x3, x4, rfl, by rw [x5], x1, x2⟩
theorem sim_tick {a : Kgo2.Abs} {m : KS} (S : Sim a m) (G : Good a) (hT : m.told = []) : Simd (Kgo2.acts (some a) .tick) 0 (some a.p) (tickM m) [] := by
  unfold Simd
  cases hh : a.halting with
  | none =>
    have e : Kgo2.acts (some a) .tick = some ([], some { a with ticks := a.ticks + 1 }, Kgo2.say 0) := by
      unfold Kgo2.acts
      show some (match a.halting with | some (k, some t) => _ | _ => _) = _
      rw [hh]
    have hs : m.stopping = none := by rw [S.stop, hh]; rfl
    have em : tickM m = { m with now := m.now + 1 } := by
      unfold tickM
      split
      · rfl
      · rename_i z
        rw [hs] at z
        cases z
    rw [e, em]
    exact ⟨_, _, _, rfl, rfl, hT, by show 0 ≤ 8; decide, rfl, rfl, ⟨S.mode, S.why, by show m.now + 1 = a.ticks + 1; rw [S.now], S.notes, S.on, S.marked, S.stop, S.left, S.left0⟩, ⟨G.right, G.hl, G.ql, G.onl, G.mkl, G.hlt, G.over, G.nk, G.ns⟩⟩
  | some x =>
    obtain ⟨k, o⟩ := x
    have hs : m.stopping = some k := by rw [S.stop, hh]; rfl
    have em : tickM m = if 0 < m.left then (if m.left = 1 then tellM { m with now := m.now + 1, left := m.left - 1 } 1 (k : Int) 1 else { m with now := m.now + 1, left := m.left - 1 }) else { m with now := m.now + 1 } := by
      unfold tickM
      split
      · rename_i z
        rw [hs] at z
        cases z
      · rename_i c' z
        rw [hs] at z
        cases z
        rfl
    have hg := G.hlt k o hh
    cases o with
    | none =>
      have e : Kgo2.acts (some a) .tick = some ([], some { a with ticks := a.ticks + 1 }, Kgo2.say 0) := by
        unfold Kgo2.acts
        show some (match a.halting with | some (k, some t) => _ | _ => _) = _
        rw [hh]
      have hl := S.left0 k hh
      rw [e, em, if_neg (show ¬ 0 < m.left by omega)]
      exact ⟨_, _, _, rfl, rfl, hT, by show 0 ≤ 8; decide, rfl, rfl, ⟨S.mode, S.why, by show m.now + 1 = a.ticks + 1; rw [S.now], S.notes, S.on, S.marked, S.stop, S.left, S.left0⟩, ⟨G.right, G.hl, G.ql, G.onl, G.mkl, G.hlt, G.over, G.nk, G.ns⟩⟩
    | some t =>
      obtain ⟨hl, ht⟩ := S.left k t hh
      have e : Kgo2.acts (some a) .tick = some (if t ≤ 1 then ([.halt k 1], some { a with ticks := a.ticks + 1, halting := some (k, none) }, Kgo2.say 0) else ([], some { a with ticks := a.ticks + 1, halting := some (k, some (t - 1)) }, Kgo2.say 0)) := by
        unfold Kgo2.acts
        show some (match a.halting with | some (k, some t) => _ | _ => _) = _
        rw [hh]
      rw [e, em, if_pos (show 0 < m.left by omega)]
      by_cases h1 : t ≤ 1
      · rw [if_pos h1, if_pos (show m.left = 1 by omega)]
        refine ⟨_, _, _, rfl, rfl, ?_, by show 1 ≤ 8; decide, rfl, rfl, ⟨S.mode, S.why, by show m.now + 1 = a.ticks + 1; rw [S.now], S.notes, S.on, S.marked, by show m.stopping = some k; exact hs, fun k' t' z => ?_, fun k' z => ?_⟩, ⟨G.right, G.hl, G.ql, G.onl, G.mkl, fun k' o' z => ?_, G.over, G.nk, G.ns⟩⟩
        · show m.told ++ [1, (k : Int), 1] = [1, (k : Int), ((1 : Nat) : Int)] ++ []
          rw [hT]
          rfl
        · cases z
        · show m.left - 1 = 0
          omega
        · have z' : k = k' := congrArg Prod.fst (Option.some.inj z)
          subst z'
          exact hg
      · rw [if_neg h1, if_neg (show ¬ m.left = 1 by omega)]
        refine ⟨_, _, _, rfl, rfl, hT, by show 0 ≤ 8; decide, rfl, rfl, ⟨S.mode, S.why, by show m.now + 1 = a.ticks + 1; rw [S.now], S.notes, S.on, S.marked, by show m.stopping = some k; exact hs, fun k' t' z => ?_, fun k' z => ?_⟩, ⟨G.right, G.hl, G.ql, G.onl, G.mkl, fun k' o' z => ?_, G.over, G.nk, G.ns⟩⟩
        · have z' : some (t - 1) = some t' := congrArg Prod.snd (Option.some.inj z)
          have z'' := Option.some.inj z'
          exact ⟨by show m.left - 1 = t'; omega, by omega⟩
        · have z' : some (t - 1) = none := congrArg Prod.snd (Option.some.inj z)
          cases z'
        · have z' : k = k' := congrArg Prod.fst (Option.some.inj z)
          subst z'
          exact hg
/-! look -/
theorem bits_sum : ∀ l : List Bool, ((Kgo2.bits l : Nat) : Int) = (((List.range l.length).filter fun c => l.getD c false).map fun (c : Nat) => (1 : Int) * 2 ^ c).sum
  | [] => rfl
  | b :: r => by
    have ih := bits_sum r
    have e1 : Kgo2.bits (b :: r) = (if b then 1 else 0) + 2 * Kgo2.bits r := rfl
    rw [e1, List.length_cons, List.range_succ_eq_map]
    have e2 : (((List.range r.length).map Nat.succ).filter fun c => (b :: r).getD c false) = ((List.range r.length).filter fun c => r.getD c false).map Nat.succ := by
      rw [List.filter_map]
      rfl
    have e3 : ∀ l : List Nat, ((l.map Nat.succ).map fun (c : Nat) => (1 : Int) * 2 ^ c).sum = 2 * (l.map fun (c : Nat) => (1 : Int) * 2 ^ c).sum := by
      intro l
      induction l with
      | nil => rfl
      | cons x l ih =>
        rw [List.map_cons, List.map_cons, List.map_cons, List.sum_cons, List.sum_cons, ih]
        rw [show Nat.succ x = x + 1 from rfl, Int.pow_succ]
        omega
    cases b with
    | true =>
      rw [List.filter_cons_of_pos (by rfl), e2, List.map_cons, List.sum_cons, e3, ← ih]
      simp
    | false =>
      rw [List.filter_cons_of_neg (by simp), e2, e3, ← ih]
      simp
theorem sim_look {a : Kgo2.Abs} {m : KS} (S : Sim a m) (G : Good a) (hT : m.told = []) : Simd (Kgo2.acts (some a) .look) 0 (some a.p) m (lookM a.p m) := by
  refine ⟨[], some a, _, rfl, rfl, hT, by show 0 ≤ 8; decide, ?_, rfl, S, G⟩
  show [((Kgo2.phaseNo a.phase : Nat) : Int), ((Kgo2.bits a.on : Nat) : Int), (((match a.halting with | some h => h.1 + 1 | none => 0 : Nat)) : Int), ((a.notes.length : Nat) : Int)] = _
  unfold lookM bitsM
  rw [S.mode, S.notes, S.stop, bits_sum, G.onl, S.on]
  cases a.halting with
  | none => rfl
  | some x => rfl
/-! start -/
theorem all_take (l : List Nat) (p : Nat → Bool) : ∀ n, n ≤ l.length → ((List.range n).all fun k => p (l.getD k 0)) = (l.take n).all p
  | 0, _ => rfl
  | n + 1, h => by
    have hn : n < l.length := h
    rw [List.range_succ, List.all_append, all_take l p n (by omega), List.take_add_one, List.all_append]
    have e : l.getD n 0 = l[n] := by rw [List.getD_eq_getElem?_getD, List.getElem?_eq_getElem hn]; rfl
    rw [List.getElem?_eq_getElem hn]
    simp [e, hn]
theorem all_and (l : List Nat) (p q : Nat → Bool) : (l.all fun k => p k && q k) = (l.all p && l.all q) := by
  induction l with
  | nil => rfl
  | cons x l ih =>
    rw [List.all_cons, List.all_cons, List.all_cons, ih]
    cases p x <;> cases q x <;> simp
theorem right_eq {p : Kgo2.Plan} (h1 : p.how.length = 8) (h2 : p.patience.length = 8) : rightB p = Kgo2.right p := by
  unfold rightB Kgo2.right
  by_cases hc : p.count ≤ 8
  · rw [all_and (List.range p.count) (fun k => decide (p.how.getD k 0 ≤ 2)) (fun k => decide (p.patience.getD k 0 ≤ 65535)), all_take p.how (fun n => decide (n ≤ 2)) p.count (by omega), all_take p.patience (fun n => decide (n ≤ 65535)) p.count (by omega), Bool.and_assoc]
  · rw [decide_eq_false hc]
    simp
theorem sim_start_no {s : Option Kgo2.Abs} {po : Option Kgo2.Plan} {m : KS} {pl : Kgo2.Plan} (R : Rel s po m) (hT : m.told = []) (h1 : pl.how.length = 8) (h2 : pl.patience.length = 8) (h : rightB pl = false) : Simd (Kgo2.acts s (.start pl)) (-22) po m [] := by
  rw [right_eq h1 h2] at h
  refine ⟨[], s, Kgo2.say (-22), ?_, rfl, hT, by show 0 ≤ 8; decide, rfl, R⟩
  show (if Kgo2.right pl = true then _ else _) = _
  rw [if_neg (by rw [h]; simp)]
theorem sim_start {s : Option Kgo2.Abs} {m : KS} {pl : Kgo2.Plan} (hT : m.told = []) (h1 : pl.how.length = 8) (h2 : pl.patience.length = 8) (h : rightB pl = true) : Simd (Kgo2.acts s (.start pl)) 0 (some pl) (startM pl m) [] := by
  rw [right_eq h1 h2] at h
  obtain ⟨r1, r2, r3, r4, r5⟩ := right_of h
  refine ⟨(List.range pl.count).map Kgo2.Ask.begin_, some ⟨pl, .keeping, List.replicate pl.count true, none, Kgo2.nobody pl, 0, []⟩, Kgo2.say 0, ?_, rfl, ?_, ?_, rfl, rfl, ?_, ?_⟩
  · show (if Kgo2.right pl = true then _ else _) = _
    rw [if_pos h]
  · show (beginUp (freshM pl m) pl.count).told = _
    rw [beginUp_tells]
    show m.told ++ _ = _
    rw [hT]
    rfl
  · rw [List.length_map, List.length_range]
    exact r5
  · obtain ⟨x1, x2, x3, x4, x5, x6, x7⟩ := beginUp_rest (freshM pl m) pl.count
    have hol : (freshM pl m).on.length = pl.count := by
      show (List.replicate pl.count false).length = _
      rw [List.length_replicate]
    obtain ⟨o1, o2⟩ := beginUp_on (m := freshM pl m) pl.count (by rw [hol]; exact Nat.le_refl _)
    refine ⟨x1, (fun w e => by cases e), x3, x4, ?_, x7, x5, (fun k t e => by cases e), (fun k e => by cases e)⟩
    show (beginUp (freshM pl m) pl.count).on = List.replicate pl.count true
    apply getD_ext
    · rw [o1, hol, List.length_replicate]
    · intro j hj
      rw [o1, hol] at hj
      rw [o2, decide_eq_true hj, getD_rep _ _ _ hj]
      simp
  · exact ⟨h, h1, h2, by show (List.replicate pl.count true).length = _; rw [List.length_replicate], by show (List.replicate pl.count false).length = _; rw [List.length_replicate], (fun k o e => by cases e), (fun e => by cases e), (fun _ => by show 0 ≤ 15; decide), by show 0 ≤ 16; decide⟩
end Ck
/-! THE CALLS AS THEY ARE WRITTEN -/
namespace Ck
abbrev cI (l : List Nat) : List Int := l.map fun (n : Nat) => (n : Int)
theorem told3 (q : List Kgo2.Ask) : (q.flatMap Kgo2Neutral.told).length = 3 * q.length := by
  induction q with
  | nil => rfl
  | cons x q ih =>
    rw [List.flatMap_cons, List.length_append, ih, List.length_cons]
    have : (Kgo2Neutral.told x).length = 3 := by cases x <;> rfl
    omega
theorem step_simd {s : Option Kgo2.Abs} {c : List (List Int)} {cl : Kgo2.Call} {n : Int} {po : Option Kgo2.Plan} {m : KS} {b : List Int} (hc : Kgo2Neutral.callOf c = some cl) (h : Simd (Kgo2.acts s cl) n po m b) :
    Rel (Kgo2Neutral.step s c).1 po m ∧ (Kgo2Neutral.step s c).2 = n :: ((m.told.length : Nat) : Int) / 3 :: (m.told ++ b) ∧ m.told.length ≤ 24 := by
  obtain ⟨q, t, an, h1, h2, h3, h4, h5, h6⟩ := h
  have e : Kgo2Neutral.step s c = (t, an.value :: (q.length : Int) :: (q.flatMap Kgo2Neutral.told ++ Kgo2Neutral.ints an.out)) := by
    unfold Kgo2Neutral.step
    rw [hc]
    show (match Kgo2.acts s cl with | none => _ | some (q, t, a) => _) = _
    rw [h1]
  have hl : m.told.length = 3 * q.length := by rw [h3, told3]
  rw [e]
  refine ⟨h6, ?_, by omega⟩
  show an.value :: (q.length : Int) :: (q.flatMap Kgo2Neutral.told ++ Kgo2Neutral.ints an.out) = _
  rw [h2, h5, ← h3, hl]
  congr 2
  omega
theorem toNat_map {l : List Int} (h : ∀ z ∈ l, 0 ≤ z) : cI (Kgo2Neutral.natsOf l) = l := by
  unfold Kgo2Neutral.natsOf
  show ((l.map Int.toNat).map fun (n : Nat) => (n : Int)) = l
  rw [List.map_map]
  conv => rhs; rw [← List.map_id l]
  refine List.map_congr_left fun z hz => ?_
  show ((z.toNat : Nat) : Int) = z
  exact Int.toNat_of_nonneg (h z hz)
theorem nat_of {z : Int} {k : Nat} (h : Kgo2Neutral.natural z k = true) : 0 ≤ z := by
  unfold Kgo2Neutral.natural at h
  rw [Bool.and_eq_true] at h
  exact of_decide_eq_true h.1
theorem asked_nat {c : List (List Int)} (h : Kgo2Neutral.asked1 c = true) :
    (∃ pl : Kgo2.Plan, pl.how.length = 8 ∧ pl.patience.length = 8 ∧ Kgo2Neutral.callOf c = some (.start pl) ∧
      PyFlat.put1 c = 0 :: (pl.way : Int) :: (pl.most : Int) :: (pl.within : Int) :: (pl.count : Int) :: 8 :: (cI pl.how ++ 8 :: (cI pl.patience ++ []))) ∨
    (∃ k y : Nat, Kgo2Neutral.callOf c = some (.ended k y) ∧ PyFlat.put1 c = [1, (k : Int), (y : Int)]) ∨
    (Kgo2Neutral.callOf c = some .halt_ ∧ PyFlat.put1 c = [2]) ∨ (Kgo2Neutral.callOf c = some .tick ∧ PyFlat.put1 c = [3]) ∨ (Kgo2Neutral.callOf c = some .look ∧ PyFlat.put1 c = [4]) := by
  unfold Kgo2Neutral.asked1 at h
  split at h
  · rename_i a b d e x g
    simp only [Bool.and_eq_true, decide_eq_true_eq, List.all_eq_true] at h
    obtain ⟨ha, hb, hd, he, ⟨hx, hx8⟩, hg, hg8⟩ := h
    refine .inl ⟨⟨a.toNat, b.toNat, d.toNat, e.toNat, Kgo2Neutral.natsOf x, Kgo2Neutral.natsOf g⟩, ?_, ?_, rfl, ?_⟩
    · show (x.map Int.toNat).length = 8
      rw [List.length_map]
      exact hx8
    · show (g.map Int.toNat).length = 8
      rw [List.length_map]
      exact hg8
    · have e1 : ((a.toNat : Nat) : Int) = a := Int.toNat_of_nonneg (nat_of ha)
      have e2 : ((b.toNat : Nat) : Int) = b := Int.toNat_of_nonneg (nat_of hb)
      have e3 : ((d.toNat : Nat) : Int) = d := Int.toNat_of_nonneg (nat_of hd)
      have e4 : ((e.toNat : Nat) : Int) = e := Int.toNat_of_nonneg (nat_of he)
      show [0, a, b, d, e] ++ ((x.length : Int) :: x ++ ((g.length : Int) :: g ++ [])) = 0 :: ((a.toNat : Nat) : Int) :: ((b.toNat : Nat) : Int) :: ((d.toNat : Nat) : Int) :: ((e.toNat : Nat) : Int) :: 8 :: (cI (Kgo2Neutral.natsOf x) ++ 8 :: (cI (Kgo2Neutral.natsOf g) ++ []))
      rw [e1, e2, e3, e4, toNat_map (fun z hz => nat_of (hx z hz)), toNat_map (fun z hz => nat_of (hg z hz)), hx8, hg8]
      simp
  · rename_i a b
    simp only [Bool.and_eq_true] at h
    refine .inr (.inl ⟨a.toNat, b.toNat, rfl, ?_⟩)
    rw [Int.toNat_of_nonneg (nat_of h.1), Int.toNat_of_nonneg (nat_of h.2)]
    rfl
  · exact .inr (.inr (.inl ⟨rfl, rfl⟩))
  · exact .inr (.inr (.inr (.inl ⟨rfl, rfl⟩)))
  · exact .inr (.inr (.inr (.inr ⟨rfl, rfl⟩)))
  · cases h
theorem Rel.told {s : Option Kgo2.Abs} {po : Option Kgo2.Plan} {m : KS} (R : Rel s po m) (xs : List Int) : Rel s po { m with told := xs } := by
  cases s with
  | none => exact R
  | some a =>
    obtain ⟨h1, S, G⟩ := R
    exact ⟨h1, ⟨S.mode, S.why, S.now, S.notes, S.on, S.marked, S.stop, S.left, S.left0⟩, G⟩
/-- a call other than start that may come finds an object -/
theorem step_some {s : Option Kgo2.Abs} {c : List (List Int)} {cl : Kgo2.Call} (hc : Kgo2Neutral.callOf c = some cl) (hn : (Kgo2Neutral.step s c).2 ≠ []) (hs : ∀ p, cl ≠ .start p) : ∃ a, s = some a := by
  cases s with
  | some a => exact ⟨a, rfl⟩
  | none =>
    refine absurd ?_ hn
    unfold Kgo2Neutral.step
    rw [hc]
    cases cl with
    | start p => exact absurd rfl (hs p)
    | ended k y => rfl
    | halt_ => rfl
    | tick => rfl
    | look => rfl
theorem whole_id (c : List (List Int)) : PyKgo2.whole c = c := by
  unfold PyKgo2.whole
  split <;> rfl
theorem whole_map (cs : List (List (List Int))) : cs.map PyKgo2.whole = cs := by
  conv => rhs; rw [← List.map_id cs]
  exact List.map_congr_left fun c _ => whole_id c
end Ck
/-! answer -/
namespace Ck
open PySem L2
section
variable {X : Cx} {st : Stmt} {rest : List Stmt} {t u : TS}
/-- two statements with a word of one's own between them -/
def tCut (t u : TS) : TS := fun D σ H => ∃ N : St → Hp → Prop, t { D with nx := N } σ H ∧ ∀ σ' H', N σ' H' → u D σ' H'
theorem pss_cut (h1 : PS X st t) (h2 : PSs X rest u) : PSs X (st :: rest) (tCut t u) := by
  intro pins s σ H D I h
  obtain ⟨N, h, hN⟩ := h
  refine wpAny_execs_cons (thn (h1 pins s σ H { D with nx := N } I h) fun f s1 q => ?_)
  cases f with
  | next =>
    obtain ⟨σ', H', I', q⟩ := q
    exact h2 pins s1 σ' H' D I' (hN σ' H' q)
  | ret v => exact q
  | brk => exact q
  | cont => exact q
end
section
variable {P : Program} {w : World} {K : PySem.W.Frag} {mg : Str → Option Value} {base : Heap} {A : Adr}
/-- F with r and the new ones as H has them -/
def extF (F H : Hp) (r : Addr) (S : List Addr) : Hp := fun b => if b = r ∨ b ∈ S then H b else F b
theorem KAt.extend {F H H' : Hp} {k r : Addr} {po : Option Kgo2.Plan} {ps S : List Addr} {m : KS} (KA : KAt A F H k po ps m) (hr : F r ≠ none) (hp : r ∉ ps) (hH : ∀ b o, b ≠ r → H b = some o → H' b = some o) (hS : ∀ b ∈ S, H b = none) :
    KAt A (extF F H' r S) H' k po ps m := by
  obtain ⟨dx, lt, ln, lo, lm, pv, O⟩ := KA
  have hne : ∀ {b : Addr} {u : HO}, H b = some u → F b = none → H' b = some u ∧ extF F H' r S b = none := fun {b u} e f => by
    have n1 : b ≠ r := fun z => by
      subst z
      exact hr f
    have n2 : b ∉ S := fun z => by
      rw [hS b z] at e
      cases e
    refine ⟨hH b u n1 e, ?_⟩
    unfold extF
    rw [if_neg (by rintro (z | z); exact n1 z; exact n2 z)]
    exact f
  refine ⟨dx, lt, ln, lo, lm, pv, (hne O.ob O.fk).1, (hne O.told O.ft).1, (hne O.notes O.fn).1, (hne O.on O.fo).1, (hne O.marked O.fm).1, fun b u e => ?_, (hne O.ob O.fk).2, (hne O.told O.ft).2, (hne O.notes O.fn).2, (hne O.on O.fo).2, (hne O.marked O.fm).2, O.tn, O.to, O.tm, O.no, O.nm, O.om, ?_⟩
  · unfold extF at e
    split at e
    · exact e
    · rename_i hz
      exact hH b u (fun z => hz (.inl z)) (O.same b u e)
  · refine O.plan.sub fun b u hb e => ?_
    unfold extF
    have n1 : b ≠ r := fun z => hp (by rw [← z]; exact hb)
    have n2 : b ∉ S := fun z => by
      have := O.same b u e
      rw [hS b z] at this
      cases this
    rw [if_neg (by rintro (z | z); exact n1 z; exact n2 z)]
    exact e
def spAnswer (A : Adr) (K : PySem.W.Frag) : Sp := fun vs H Q _ => ∃ (k r dr a : Addr) (i : Nat) (ns rest : List Int) (F : Hp) (po : Option Kgo2.Plan) (ps : List Addr) (m : KS) (s : Option Kgo2.Abs) (c : List (List Int)),
  vs = [.ref k, .ref r] ∧ KAt A F H k po ps m ∧ F r = some (.ins A.cR dr (rF a i)) ∧ r ∉ ps ∧ SqL K F a (ns.map V.int) ∧ ns.drop i = PyFlat.put1 c ++ rest ∧ Kgo2Neutral.asked1 c = true ∧ Rel s po m ∧ (Kgo2Neutral.step s c).2 ≠ [] ∧
  ∀ (H' F' : Hp) (po' : Option Kgo2.Plan) (ps' : List Addr) (m' : KS) (l : Addr), KAt A F' H' k po' ps' m' → Rel (Kgo2Neutral.step s c).1 po' m' → F' r = some (.ins A.cR dr (rF a (i + (PyFlat.put1 c).length))) →
    (∀ b o, b ≠ r → F b = some o → F' b = some o) → (ps' = ps ∨ ∀ b ∈ ps', F b = none) → F l = none → F' l = some (.lst ((Kgo2Neutral.step s c).2.map V.int)) → (Kgo2Neutral.step s c).2.length ≤ 40 → Q (.ref l) H'
theorem scGanswer : FnScope ["keeper", "reader", "number", "besides", "call", "child"] ["keeper", "reader"] (defScope sGanswer) := ⟨rfl, rfl, rfl, by decide +kernel, rfl, by decide +kernel, by decide +kernel⟩
theorem ok_answer (T : Txt K mg A) : FnOk P w K mg base CX0 8 A.fGanswer A.dGanswer ["keeper", "reader"] (spAnswer A K) := by
  refine T.FGanswer.ok scGanswer (fun vs H Q E h => ?_) (fun cdv Ar outer sh H vs Q E hr h => ?_)
  · obtain ⟨k, r, dr, a, i, ns, rest, F, po, ps, m, s, c, rfl, _⟩ := h
    rfl
  · obtain ⟨k, r, dr, a, i, ns, rest, F, po, ps, m, s, c, rfl, KA, hR, hrp, hS, hd, hask, R, hne, q⟩ := h
    have hr1 : Room 1 _ := hr.mono (by decide)
    have hr2 : Room 2 _ := hr.mono (by decide)
    have hr3 : Room 3 _ := hr.mono (by decide)
    have hr6 : Room 6 _ := hr.mono (by decide)
    refine ⟨_, pss_cons (ps_fld (pv 0) (pe_lst pa_nil) rfl)
      (pss_cons (ps_set (i := 2) scGanswer.nd rfl (Or.inl rfl) (pgi T.iDONE))
      (pss_cons (ps_set (i := 3) scGanswer.nd rfl (Or.inl rfl) (pe_lst pa_nil))
      (pss_cons (ps_set (i := 4) scGanswer.nd rfl (Or.inl rfl) (pe_meth0 (pv 1) T.clR T.mRnumber (ok_number T) hr1 T.bRnumber .nil pass0))
      (pss_cut (ps_if (pt_cmpR op_eq (pv 4) (pgi T.iCALL_START) (nomark _))
          (pss_one (ps_set (i := 2) scGanswer.nd rfl (Or.inl rfl) (pe_meth (pv 0) T.clK T.mKstart (ok_start T) hr3 T.bKstart .nil pass0 (pa_cons (pe_call (ok_read_plan T) hr3 rfl T.gGread_plan T.kGread_plan T.bGread_plan .nil pass0 (pa_cons (pv 1) pa_nil)) pa_nil))))
        (pss_one (ps_if (pt_cmpR op_eq (pv 4) (pgi T.iCALL_ENDED) (nomark _))
          (pss_cons (ps_set (i := 5) scGanswer.nd rfl (Or.inl rfl) (pe_meth0 (pv 1) T.clR T.mRnumber (ok_number T) hr1 T.bRnumber .nil pass0))
            (pss_one (ps_set (i := 2) scGanswer.nd rfl (Or.inl rfl) (pe_meth (pv 0) T.clK T.mKended (ok_ended T) hr T.bKended .nil pass0 (pa_cons (pv 5) (pa_cons (pe_meth0 (pv 1) T.clR T.mRnumber (ok_number T) hr1 T.bRnumber .nil pass0) pa_nil))))))
        (pss_one (ps_if (pt_cmpR op_eq (pv 4) (pgi T.iCALL_STOP) (nomark _))
          (pss_one (ps_set (i := 2) scGanswer.nd rfl (Or.inl rfl) (pe_meth0 (pv 0) T.clK T.mKstop (ok_stop T) hr6 T.bKstop .nil pass0)))
        (pss_one (ps_if (pt_cmpR op_eq (pv 4) (pgi T.iCALL_TICK) (nomark _))
          (pss_one (ps_expr (pe_meth0 (pv 0) T.clK T.mKtick (ok_tick T) hr2 T.bKtick .nil pass0)))
          (pss_one (ps_set (i := 3) scGanswer.nd rfl (Or.inl rfl) (pe_meth0 (pv 0) T.clK T.mKlook (ok_look T) hr1 T.bKlook .nil pass0))))))))))
      (pss_one (ps_ret (pe_op op_cat (pe_op op_cat (pe_lst (pa_cons (pv 2) (pa_cons (pe_op op_fdiv (pe_callB call_len_seq rfl T.olen PySem.boot_len (pa_cons (pe_fld (pv 0) rfl) pa_nil)) pe_int) pa_nil))) (pe_fld (pv 0) rfl)) (pv 3)))))))), ?_⟩
    obtain ⟨dx, lt, ln, lo, lm, pv0, O⟩ := KA
    -- keeper.told = []
    refine ⟨(by show 0 ≤ sizeLine; decide), fun l1 h1 => ⟨_, rfl, k, A.cK, dx, _, rfl, (O.fresh h1).ob, T.clK, T.nKtold, KF.few _, ?_⟩⟩
    have O1 := O.putTold [] h1 (ys := []) rfl
    have KA1 : KAt A F _ k po ps { m with told := [] } := ⟨dx, l1, ln, lo, lm, pv0, O1⟩
    have R1 := R.told []
    -- number = DONE; besides = []
    refine ⟨(by show 0 ≤ sizeLine; decide), fun lb hlb => ?_⟩
    have flb : F lb = none := fresh_F KA1.sameF hlb
    have KA2 := KA1.add (o := .lst []) (.inl hlb)
    have hrb : r ≠ lb := ne_of_none hR flb
    have hR2 : upd F lb (.lst []) r = some (.ins A.cR dr (rF a i)) := by rw [upd_ne hrb]; exact hR
    have hS2 : SqL K (upd F lb (.lst [])) a (ns.map V.int) := (Same.new flb).seq hS
    -- call = reader.number()
    have hn : ∀ j, ns[i + j]? = (PyFlat.put1 c ++ rest)[j]? := fun j => by rw [← hd, List.getElem?_drop]
    obtain ⟨cn, hcn⟩ : ∃ cn, (PyFlat.put1 c ++ rest)[0]? = some cn := by
      rcases asked_nat hask with ⟨pl, _, _, _, e⟩ | ⟨_, _, _, e⟩ | ⟨_, e⟩ | ⟨_, e⟩ | ⟨_, e⟩ <;> (rw [e]; exact ⟨_, rfl⟩)
    refine ⟨_, rfl, r, dr, _, rfl, KA2.sameF _ _ hR2, rfl, r, dr, a, i, ns, cn, rfl, KA2.sameF _ _ hR2, KA2.sameF.seq hS2, (hn 0).trans hcn, ?_⟩
    have KA3 := KA2.add (r := r) (o := .ins A.cR dr (rF a (i + 1))) (.inr ⟨by rw [hR2]; simp, hrp⟩)
    have hR3 : upd (upd F lb (.lst [])) r (.ins A.cR dr (rF a (i + 1))) r = some (.ins A.cR dr (rF a (i + 1))) := upd_same
    have hS3 : SqL K (upd (upd F lb (.lst [])) r (.ins A.cR dr (rF a (i + 1)))) a (ns.map V.int) := SqL.wr hS2 hR2
    have hB3 : upd (upd F lb (.lst [])) r (.ins A.cR dr (rF a (i + 1))) lb = some (.lst (([] : List Int).map V.int)) := by rw [upd_ne hrb.symm, upd_same]; rfl
    have kp3 : ∀ b o, b ≠ r → F b = some o → upd (upd F lb (.lst [])) r (.ins A.cR dr (rF a (i + 1))) b = some o := fun b o hb e => by
      rw [upd_ne hb, upd_ne (ne_of_none e flb)]
      exact e
    generalize hF3 : upd (upd F lb (.lst [])) r (.ins A.cR dr (rF a (i + 1))) = F3 at KA3 hR3 hS3 hB3 kp3
    generalize hH3 : upd (upd (upd (upd H l1 (.lst [])) k (.ins A.cK dx (putF "told" (.ref l1) (mF m pv0 lt ln lo lm).l))) lb (.lst [])) r (.ins A.cR dr (rF a (i + 1))) = H3 at KA3
    clear KA2 O1 O KA1 hR2 hS2 hF3
    refine ⟨fun σ' H' => ∃ (n : Int) (b : List Int) (lb' : Addr) (v4 v5 : Option V) (F' : Hp) (po' : Option Kgo2.Plan) (ps' : List Addr) (m1 : KS), σ' = [some (.ref k), some (.ref r), some (.int n), some (.ref lb'), v4, v5] ∧ KAt A F' H' k po' ps' m1 ∧ F' lb' = some (.lst (b.map V.int)) ∧
      F' r = some (.ins A.cR dr (rF a (i + (PyFlat.put1 c).length))) ∧ (∀ b o, b ≠ r → F b = some o → F' b = some o) ∧ (ps' = ps ∨ ∀ b ∈ ps', F b = none) ∧ Rel (Kgo2Neutral.step s c).1 po' m1 ∧ (Kgo2Neutral.step s c).2 = n :: ((m1.told.length : Nat) : Int) / 3 :: (m1.told ++ b) ∧ m1.told.length ≤ 24 ∧ b.length ≤ 4, ?_, ?_⟩
    · have fps : ∀ b, F3 b = none → F b = none := fun b e => by
        cases hz : F b with
        | none => rfl
        | some u =>
          by_cases hbr : b = r
          · subst hbr
            rw [hR3] at e
            cases e
          · rw [kp3 b u hbr hz] at e
            cases e
      have KA3' := KA3
      obtain ⟨dx3, lt3, ln3, lo3, lm3, pv3, O3⟩ := KA3'
      have hRH : H3 r = some (.ins A.cR dr (rF a (i + 1))) := KA3.sameF _ _ hR3
      have hSH : SqL K H3 a (ns.map V.int) := KA3.sameF.seq hS3
      refine ⟨_, rfl, rfl, _, rfl, ?_⟩
      rcases asked_nat hask with ⟨pl, g8, q8, hcl, ep⟩ | ⟨ck, cy, hcl, ep⟩ | ⟨hcl, ep⟩ | ⟨hcl, ep⟩ | ⟨hcl, ep⟩
      · -- start
        have e0 : cn = 0 := by rw [ep] at hcn; exact (Option.some.inj hcn).symm
        subst e0
        refine iteT ?_
        have hd1 : ns.drop (i + 1) = (pl.way : Int) :: (pl.most : Int) :: (pl.within : Int) :: (pl.count : Int) :: 8 :: (pl.how.map (fun (n : Nat) => (n : Int)) ++ 8 :: (pl.patience.map (fun (n : Nat) => (n : Int)) ++ rest)) := by
          rw [← List.drop_drop, hd, ep]
          simp [cI]
        have elen : (PyFlat.put1 c).length = 23 := by
          rw [ep]
          simp only [List.length_cons, List.length_append, List.length_map, List.length_nil, g8, q8]
        refine ⟨_, rfl, k, dx3, _, rfl, O3.ob, rfl, _, rfl, r, dr, a, i + 1, ns, rest, pl, rfl, hRH, hSH, g8, q8, hd1, fun H4 p lh lq PA hR4 kp4 fp fh fq => ?_⟩
        have KA4 := KA3.extend (S := [p, lh, lq]) (H' := H4) (by rw [hR3]; simp) hrp kp4 (fun b hb => by
          simp only [List.mem_cons, List.not_mem_nil, or_false] at hb
          rcases hb with rfl | rfl | rfl
          · exact fp
          · exact fh
          · exact fq)
        have PA4 : PlanAt A (extF F3 H4 r [p, lh, lq]) p lh lq pl := PA.sub fun b o hb e => by
          unfold extF
          rw [if_pos (.inr hb)]
          exact e
        have hR5 : extF F3 H4 r [p, lh, lq] r = some (.ins A.cR dr (rF a (i + (PyFlat.put1 c).length))) := by
          unfold extF
          rw [if_pos (.inl rfl), hR4, elen]
        have kp5 : ∀ b o, b ≠ r → F b = some o → extF F3 H4 r [p, lh, lq] b = some o := fun b o hb e => by
          unfold extF
          split
          · exact kp4 b o hb (KA3.sameF b o (kp3 b o hb e))
          · exact kp3 b o hb e
        have hB5 : extF F3 H4 r [p, lh, lq] lb = some (.lst (([] : List Int).map V.int)) := by
          unfold extF
          split
          · exact kp4 lb _ hrb.symm (KA3.sameF lb _ hB3)
          · exact hB3
        have fnew : ∀ b ∈ [p, lh, lq], F b = none := fun b hb => fps b (KA3.sameF.free (by
          simp only [List.mem_cons, List.not_mem_nil, or_false] at hb
          rcases hb with rfl | rfl | rfl
          · exact fp
          · exact fh
          · exact fq))
        refine ⟨k, _, po, ps, { m with told := [] }, p, lh, lq, pl, rfl, KA4, PA4, g8, q8, by show 0 ≤ 800; decide, fun hno H5 KA5 => ?_, fun hyes H5 KA5 => ?_⟩
        · obtain ⟨x1, x2, x3⟩ := step_simd hcl (sim_start_no R1 rfl g8 q8 hno)
          exact ⟨-22, [], lb, _, _, _, po, ps, _, rfl, KA5, hB5, hR5, kp5, .inl rfl, x1, x2, x3, by show 0 ≤ 4; decide⟩
        · obtain ⟨x1, x2, x3⟩ := step_simd hcl (sim_start (s := s) (m := { m with told := [] }) rfl g8 q8 hyes)
          exact ⟨0, [], lb, _, _, _, some pl, [p, lh, lq], _, rfl, KA5, hB5, hR5, kp5, .inr fnew, x1, x2, x3, by show 0 ≤ 4; decide⟩
      · -- ended
        have e0 : cn = 1 := by rw [ep] at hcn; exact (Option.some.inj hcn).symm
        subst e0
        refine iteF ?_
        refine ⟨_, rfl, rfl, _, rfl, ?_⟩
        refine iteT ?_
        obtain ⟨ab, rfl⟩ := step_some hcl hne (fun p z => by cases z)
        obtain ⟨epo, S, G⟩ := R1
        subst epo
        have g1 : ns[i + 1]? = some (ck : Int) := by rw [hn 1, ep]; rfl
        have g2 : ns[i + 1 + 1]? = some (cy : Int) := by rw [show i + 1 + 1 = i + 2 by omega, hn 2, ep]; rfl
        refine ⟨_, rfl, r, dr, _, rfl, hRH, rfl, r, dr, a, i + 1, ns, (ck : Int), rfl, hRH, hSH, g1, ?_⟩
        have KA4 := KA3.add (r := r) (o := .ins A.cR dr (rF a (i + 1 + 1))) (.inr ⟨by rw [hR3]; simp, hrp⟩)
        have KA4' := KA4
        obtain ⟨dx4, lt4, ln4, lo4, lm4, pv4, O4⟩ := KA4'
        refine ⟨_, rfl, k, dx4, _, rfl, O4.ob, rfl, _, rfl, _, rfl, r, dr, _, rfl, upd_same, rfl, r, dr, a, i + 1 + 1, ns, (cy : Int), rfl, upd_same, SqL.wr hSH hRH, g2, ?_⟩
        rw [upd_upd]
        have KA5 := KA3.add (r := r) (o := .ins A.cR dr (rF a (i + 1 + 1 + 1))) (.inr ⟨by rw [hR3]; simp, hrp⟩)
        refine ⟨k, _, ab.p, ps, { m with told := [] }, ck, cy, rfl, KA5, G.wf S, fun _ => ?_, by show 0 ≤ 800; decide, fun H6 KA6 => ?_⟩
        · have e1 := S.notes
          have e2 := G.ns
          rw [e1]
          omega
        · obtain ⟨x1, x2, x3⟩ := step_simd hcl (sim_ended S G rfl ck cy)
          refine ⟨_, [], lb, _, _, _, some ab.p, ps, _, rfl, KA6, ?_, ?_, fun b o hb e => ?_, .inl rfl, x1, x2, x3, by show 0 ≤ 4; decide⟩
          · rw [upd_ne hrb.symm]
            exact hB3
          · rw [upd_same, ep]
            rfl
          · rw [upd_ne hb]
            exact kp3 b o hb e
      · -- stop
        have e0 : cn = 2 := by rw [ep] at hcn; exact (Option.some.inj hcn).symm
        subst e0
        refine iteF ?_
        refine ⟨_, rfl, rfl, _, rfl, ?_⟩
        refine iteF ?_
        refine ⟨_, rfl, rfl, _, rfl, ?_⟩
        refine iteT ?_
        obtain ⟨ab, rfl⟩ := step_some hcl hne (fun p z => by cases z)
        obtain ⟨epo, S, G⟩ := R1
        subst epo
        refine ⟨_, rfl, k, dx3, _, rfl, O3.ob, rfl, k, F3, ab.p, ps, { m with told := [] }, rfl, KA3, G.wf S, by show 0 ≤ 800; decide, fun H6 KA6 => ?_⟩
        obtain ⟨x1, x2, x3⟩ := step_simd hcl (sim_stop S G rfl)
        exact ⟨_, [], lb, _, _, _, some ab.p, ps, _, rfl, KA6, hB3, by rw [hR3, ep]; rfl, kp3, .inl rfl, x1, x2, x3, by show 0 ≤ 4; decide⟩
      · -- tick
        have e0 : cn = 3 := by rw [ep] at hcn; exact (Option.some.inj hcn).symm
        subst e0
        refine iteF ?_
        refine ⟨_, rfl, rfl, _, rfl, ?_⟩
        refine iteF ?_
        refine ⟨_, rfl, rfl, _, rfl, ?_⟩
        refine iteF ?_
        refine ⟨_, rfl, rfl, _, rfl, ?_⟩
        refine iteT ?_
        obtain ⟨ab, rfl⟩ := step_some hcl hne (fun p z => by cases z)
        obtain ⟨epo, S, G⟩ := R1
        subst epo
        refine ⟨_, rfl, k, dx3, _, rfl, O3.ob, rfl, k, F3, some ab.p, ps, { m with told := [] }, rfl, KA3, by show 0 ≤ 800; decide, fun H6 KA6 => ?_⟩
        obtain ⟨x1, x2, x3⟩ := step_simd hcl (sim_tick S G rfl)
        exact ⟨_, [], lb, _, _, _, some ab.p, ps, _, rfl, KA6, hB3, by rw [hR3, ep]; rfl, kp3, .inl rfl, x1, x2, x3, by show 0 ≤ 4; decide⟩
      · -- look
        have e0 : cn = 4 := by rw [ep] at hcn; exact (Option.some.inj hcn).symm
        subst e0
        refine iteF ?_
        refine ⟨_, rfl, rfl, _, rfl, ?_⟩
        refine iteF ?_
        refine ⟨_, rfl, rfl, _, rfl, ?_⟩
        refine iteF ?_
        refine ⟨_, rfl, rfl, _, rfl, ?_⟩
        refine iteF ?_
        obtain ⟨ab, rfl⟩ := step_some hcl hne (fun p z => by cases z)
        obtain ⟨epo, S, G⟩ := R1
        subst epo
        refine ⟨_, rfl, k, dx3, _, rfl, O3.ob, rfl, k, F3, ab.p, ps, { m with told := [] }, rfl, KA3, G.wf S, fun H6 l6 s6 hl6 hl6' => ?_⟩
        have KA6 : KAt A (upd F3 l6 (.lst ((lookM ab.p { m with told := [] }).map V.int))) H6 k (some ab.p) ps { m with told := [] } := (KA3.add (o := .lst ((lookM ab.p { m with told := [] }).map V.int)) (.inl hl6)).mono (fun b u hb => by
          by_cases z : b = l6
          · rw [z, upd_same] at hb
            rw [z, hl6']
            exact hb
          · rw [upd_ne z] at hb
            exact s6 b u hb)
        have n6 : ∀ {b : Addr} {o : HO}, F3 b = some o → b ≠ l6 := fun {b o} e => ne_of_none (KA3.sameF b o e) hl6
        obtain ⟨x1, x2, x3⟩ := step_simd hcl (sim_look S G rfl)
        refine ⟨0, _, l6, _, _, _, some ab.p, ps, _, rfl, KA6, upd_same, ?_, fun b o hb e => ?_, .inl rfl, x1, x2, x3, by show 4 ≤ 4; decide⟩
        · rw [upd_ne (n6 hR3), hR3, ep]
          rfl
        · rw [upd_ne (n6 (kp3 b o hb e))]
          exact kp3 b o hb e
    · -- return [number, len(keeper.told) // 3] + keeper.told + besides
      rintro σ' H' ⟨n, b, lb', v4, v5, F', po', ps', m1, rfl, KA', hB', hR', kp', hps', R', e2, htl, hbl⟩
      have KA'' := KA'
      obtain ⟨dx', lt', ln', lo', lm', pv', O'⟩ := KA''
      refine ⟨_, rfl, _, rfl, k, A.cK, dx', _, _, rfl, O'.ob, T.clK, T.nKtold, KF.g_told _, lt', _, rfl, .inl (SqL.of O'.told), _, 3, rfl, rfl, ⟨by decide, by decide⟩, (by show 2 ≤ sizeLine; decide), fun p1 h1 => ?_⟩
      rw [List.length_map]
      have O1 := O'.fresh (o := .lst [V.int n, V.int (((m1.told.length : Nat) : Int) / 3)]) h1
      refine ⟨_, rfl, k, A.cK, dx', _, _, rfl, O1.ob, T.clK, T.nKtold, KF.g_told _, p1, lt', _, _, rfl, rfl, upd_same, O1.told, ?_, fun p2 h2 => ?_⟩
      · rw [List.length_map, sizeLine_eq]
        show 2 + m1.told.length ≤ 16777216
        omega
      have O2 := O1.fresh (o := .lst ([V.int n, V.int (((m1.told.length : Nat) : Int) / 3)] ++ m1.told.map V.int)) h2
      refine ⟨_, rfl, p2, lb', _, _, rfl, rfl, upd_same, O2.same _ _ hB', ?_, fun p3 h3 => ?_⟩
      · rw [List.length_append, List.length_map, List.length_map, sizeLine_eq]
        show 2 + m1.told.length + b.length ≤ 16777216
        omega
      have KA3' : KAt A F' _ k po' ps' m1 := ⟨dx', lt', ln', lo', lm', pv', O2⟩
      have f3 : F' p3 = none := fresh_F O2.same h3
      have f3' : F p3 = none := by
        cases hz : F p3 with
        | none => rfl
        | some u =>
          by_cases hbr : p3 = r
          · rw [hbr, hR'] at f3
            cases f3
          · rw [kp' p3 u hbr hz] at f3
            cases f3
      have KA4 := KA3'.add (o := .lst ([V.int n, V.int (((m1.told.length : Nat) : Int) / 3)] ++ m1.told.map V.int ++ b.map V.int)) (.inl h3)
      refine q _ _ po' ps' m1 p3 KA4 R' ?_ (fun b' o hb e => ?_) hps' f3' ?_ ?_
      · rw [upd_ne (ne_of_none hR' f3)]
        exact hR'
      · rw [upd_ne (ne_of_none (kp' b' o hb e) f3)]
        exact kp' b' o hb e
      · rw [upd_same, e2]
        congr 2
        rw [List.map_cons, List.map_cons, List.map_append]
        rfl
      · rw [e2]
        show (m1.told ++ b).length + 1 + 1 ≤ 40
        rw [List.length_append]
        omega
end
end Ck
/-! answers -/
namespace Ck
open PySem L2
theorem asked_open {ns : List Int} (h : PyKgo2.answers_asked ns = true) : ∃ cs, ns = PyFlat.put cs ∧ cs.length ≤ 4000 ∧ (∀ c ∈ cs, Kgo2Neutral.asked1 c = true) ∧ Kgo2Neutral.may none cs = true ∧ PyKgo2.answers ns = PyFlat.told (PyFlat.played Kgo2Neutral.step none cs) := by
  unfold PyKgo2.answers_asked at h
  cases e : PyFlat.calls PyKgo2.shape ns.length ns with
  | none =>
    have e2 : PyKgo2.calls ns = none := by unfold PyKgo2.calls; rw [e]
    rw [e2] at h
    cases h
  | some cs =>
    have e2 : PyKgo2.calls ns = some cs := by unfold PyKgo2.calls; rw [e]; show some (cs.map PyKgo2.whole) = _; rw [whole_map]
    rw [e2] at h
    have h' : (PyFlat.atMost 4000 cs && Kgo2Neutral.asked cs) = true := h
    rw [Bool.and_eq_true] at h'
    obtain ⟨h1, h2⟩ := h'
    unfold Kgo2Neutral.asked at h2
    simp only [Bool.and_eq_true, decide_eq_true_eq, List.all_eq_true] at h2
    obtain ⟨⟨⟨_, h3⟩, h4⟩, h5⟩ := h2
    refine ⟨cs, (PyFlat.put_calls _ _ _ e).1, h3, h4, h5, ?_⟩
    unfold PyKgo2.answers
    rw [e2]
    rfl
theorem put1_ne {c : List (List Int)} (h : Kgo2Neutral.asked1 c = true) : 0 < (PyFlat.put1 c).length := by
  rcases asked_nat h with ⟨pl, _, _, _, e⟩ | ⟨_, _, _, e⟩ | ⟨_, e⟩ | ⟨_, e⟩ | ⟨_, e⟩ <;> (rw [e]; simp)
section
variable {P : Program} {w : World} {K : PySem.W.Frag} {mg : Str → Option Value} {base : Heap} {A : Adr}
def spAnswers (K : PySem.W.Frag) : Sp := fun vs H Q _ => ∃ (a : Addr) (ns : List Int), vs = [.ref a] ∧ SqL K H a (ns.map V.int) ∧ PyKgo2.answers_asked ns = true ∧ ∀ H' l, H' l = some (.lst ((PyKgo2.answers ns).map V.int)) → Q (.ref l) H'
theorem scGanswers : FnScope ["calls", "keeper", "reader", "given", "numbers"] ["calls"] (defScope sGanswers) := ⟨rfl, rfl, rfl, by decide +kernel, rfl, by decide +kernel, by decide +kernel⟩
theorem ok_answers (T : Txt K mg A) : FnOk P w K mg base CX0 9 A.fGanswers A.dGanswers ["calls"] (spAnswers K) := by
  refine T.FGanswers.ok scGanswers (fun vs H Q E h => ?_) (fun cdv Ar outer sh H vs Q E hr h => ?_)
  · obtain ⟨a, ns, rfl, _⟩ := h
    rfl
  · obtain ⟨a, ns, rfl, hS, hask, q⟩ := h
    obtain ⟨cs0, hput, hlen, hall, hmay, hans⟩ := asked_open hask
    have hr1 : Room 1 _ := hr.mono (by decide)
    have hr2 : Room 2 _ := hr.mono (by decide)
    refine ⟨_, pss_cons (ps_set (i := 1) scGanswers.nd rfl (Or.inl rfl) (pe_make0 T.mkK (ok_Kinit T) hr2 rfl T.mgK T.bKinit .nil pass0))
      (pss_cons (ps_set (i := 2) scGanswers.nd rfl (Or.inl rfl) (pe_make T.mkR (ok_Rinit T) hr2 rfl T.mgR T.bRinit .nil pass0 (pa_cons (pv 0) pa_nil)))
      (pss_cons (ps_set (i := 3) scGanswers.nd rfl (Or.inl rfl) (pe_lst pa_nil))
      (pss_cons (ps_while PassesOwn.never (pt_val (pe_meth0 (pv 2) T.clR T.mRhas_more (ok_more T) hr1 T.bRhas_more .nil pass0))
        (pss_cons (ps_set (i := 4) scGanswers.nd rfl (Or.inl rfl) (pe_call (ok_answer T) hr rfl T.gGanswer T.kGanswer T.bGanswer .nil pass0 (pa_cons (pv 1) (pa_cons (pv 2) pa_nil))))
        (pss_cons (ps_expr (pe_bm PySem.F.plainAttrs_list PySem.F.slot_list_append PySem.F.type_list_append mt_append (pv 3) (pa_cons (pe_callB call_len_seq rfl T.olen PySem.boot_len (pa_cons (pv 4) pa_nil)) pa_nil)))
        (pss_one (ps_expr (pe_bm PySem.F.plainAttrs_list PySem.F.slot_list_extend PySem.F.type_list_extend mt_extend (pv 3) (pa_cons (pv 4) pa_nil)))))))
      (pss_one (ps_ret (pv 3)))))), ?_⟩
    -- keeper = Keeper()
    intro k dk nk ndk nek
    have sk : Same H (upd (upd H dk (.own k)) k (.ins A.cK dk [])) := (Same.new ndk).trans (Same.new (by rw [upd_ne (fun z => nek z.symm)]; exact nk))
    refine ⟨k, dk, H, rfl, upd_same, sk, nk, fun H1 KA1 => ⟨rfl, ?_⟩⟩
    -- reader = Reader(calls)
    refine ⟨_, rfl, fun r dr nr ndr ner => ?_⟩
    have KA2 := KA1.add (o := .own r) (.inl ndr)
    have nr2 : upd H1 dr (.own r) r = none := by rw [upd_ne (fun z => ner z.symm)]; exact nr
    have KA3 := KA2.add (o := .ins A.cR dr (rF a 0)) (.inl nr2)
    refine ⟨r, dr, a, rfl, upd_same, rfl, ?_⟩
    rw [upd_upd]
    have hd0 : H dr = none := KA1.sameF.free ndr
    have hr0 : H r = none := KA1.sameF.free nr
    have hr0' : upd H dr (.own r) r = none := by rw [upd_ne (fun z => ner z.symm)]; exact hr0
    have s3 : Same H (upd (upd H dr (.own r)) r (.ins A.cR dr (rF a 0))) := (Same.new hd0).trans (Same.new hr0')
    have hR3 : upd (upd H dr (.own r)) r (.ins A.cR dr (rF a 0)) r = some (.ins A.cR dr (rF a 0)) := upd_same
    generalize upd (upd H dr (.own r)) r (.ins A.cR dr (rF a 0)) = F3 at KA3 s3 hR3
    generalize upd (upd H1 dr (.own r)) r (.ins A.cR dr (rF a 0)) = H3 at KA3
    -- given = []
    refine ⟨(by show 0 ≤ sizeLine; decide), fun g hg => ?_⟩
    have fg : F3 g = none := fresh_F KA3.sameF hg
    have KA4 := KA3.add (o := .lst []) (.inl hg)
    have hR4 : upd F3 g (.lst []) r = some (.ins A.cR dr (rF a 0)) := by rw [upd_ne (ne_of_none hR3 fg)]; exact hR3
    have s4 : Same H (upd F3 g (.lst [])) := s3.trans (Same.new fg)
    have hg0 : H g = none := s3.free fg
    have hG4 : upd F3 g (.lst []) g = some (.lst (([] : List Int).map V.int)) := upd_same
    have hgr : g ≠ r := (ne_of_none hR3 fg).symm
    generalize upd F3 g (.lst []) = F4 at KA4 hR4 s4 hG4
    -- the loop
    refine ⟨fun mz σ H' => ∃ (i : Nat) (F : Hp) (po : Option Kgo2.Plan) (ps : List Addr) (m : KS) (s : Option Kgo2.Abs) (cs : List (List (List Int))) (gv : List Int) (v4 : Option V), mz = cs.length ∧ σ = [some (.ref a), some (.ref k), some (.ref r), some (.ref g), v4] ∧ KAt A F H' k po ps m ∧
      F r = some (.ins A.cR dr (rF a i)) ∧ r ∉ ps ∧ g ∉ ps ∧ F g = some (.lst (gv.map V.int)) ∧ Same H F ∧ ns.drop i = PyFlat.put cs ∧ (∀ c ∈ cs, Kgo2Neutral.asked1 c = true) ∧ Kgo2Neutral.may s cs = true ∧ Rel s po m ∧
      gv ++ PyFlat.told (PyFlat.played Kgo2Neutral.step s cs) = PyKgo2.answers ns ∧ gv.length + 50 * cs.length ≤ 300000,
      ⟨cs0.length, 0, F4, none, [], newM, none, cs0, [], none, rfl, rfl, KA4, hR4, by simp, by simp, hG4, s4, hput, hall, hmay, rfl, hans.symm, by show 0 + 50 * cs0.length ≤ 300000; omega⟩, ?_⟩
    rintro mz σ H5 ⟨i, F, po, ps, m, s, cs, gv, v4, rfl, rfl, KA, hR, hrp, hgp, hG, sHF, hdr, hak, hmy, R, htot, hbnd⟩
    have hSq : SqL K F a (ns.map V.int) := sHF.seq hS
    refine ⟨_, rfl, r, dr, _, rfl, KA.sameF _ _ hR, rfl, r, dr, a, i, ns, rfl, KA.sameF _ _ hR, KA.sameF.seq hSq, _, rfl, ?_⟩
    cases cs with
    | nil =>
      have hi : ns.length ≤ i := List.drop_eq_nil_iff.mp hdr
      rw [decide_eq_false (show ¬ i < ns.length by omega)]
      refine iteF ?_
      refine ⟨_, rfl, q H5 g ?_⟩
      have e : gv = PyKgo2.answers ns := by
        have : gv ++ [] = PyKgo2.answers ns := htot
        rw [List.append_nil] at this
        exact this
      rw [← e]
      exact KA.sameF _ _ hG
    | cons c cs =>
      have hdr' : ns.drop i = PyFlat.put1 c ++ PyFlat.put cs := hdr
      have hac := hak c (List.mem_cons_self ..)
      have hi : i < ns.length := by
        have h1 := put1_ne hac
        have h2 := congrArg List.length hdr'
        rw [List.length_drop, List.length_append] at h2
        omega
      rw [decide_eq_true hi]
      refine iteT ?_
      have hmy' : (!((Kgo2Neutral.step s c).2.isEmpty) && Kgo2Neutral.may (Kgo2Neutral.step s c).1 cs) = true := hmy
      rw [Bool.and_eq_true] at hmy'
      have hne : (Kgo2Neutral.step s c).2 ≠ [] := fun z => by
        have := hmy'.1
        rw [z] at this
        cases this
      refine ⟨fun σ' H' => ∃ (i : Nat) (F : Hp) (po : Option Kgo2.Plan) (ps : List Addr) (m : KS) (s : Option Kgo2.Abs) (gv : List Int) (v4 : Option V), σ' = [some (.ref a), some (.ref k), some (.ref r), some (.ref g), v4] ∧ KAt A F H' k po ps m ∧
        F r = some (.ins A.cR dr (rF a i)) ∧ r ∉ ps ∧ g ∉ ps ∧ F g = some (.lst (gv.map V.int)) ∧ Same H F ∧ ns.drop i = PyFlat.put cs ∧ (∀ c ∈ cs, Kgo2Neutral.asked1 c = true) ∧ Kgo2Neutral.may s cs = true ∧ Rel s po m ∧
        gv ++ PyFlat.told (PyFlat.played Kgo2Neutral.step s cs) = PyKgo2.answers ns ∧ gv.length + 50 * cs.length ≤ 300000, ?_, ?_⟩
      · rintro σ' H' ⟨i, F, po, ps, m, s, gv, v4, h1, hrest⟩
        exact ⟨cs.length, Nat.lt_succ_self _, i, F, po, ps, m, s, cs, gv, v4, rfl, h1, hrest⟩
      -- numbers = answer(keeper, reader)
      refine ⟨_, rfl, _, rfl, k, r, dr, a, i, ns, PyFlat.put cs, F, po, ps, m, s, c, rfl, KA, hR, hrp, hSq, hdr', hac, R, hne, fun H6 F6 po6 ps6 m6 l KA6 R6 hR6 kp6 hps6 fl hl h40 => ?_⟩
      have hG6 : F6 g = some (.lst (gv.map V.int)) := kp6 g _ hgr hG
      have hgp6 : g ∉ ps6 := by
        rcases hps6 with z | z
        · rw [z]
          exact hgp
        · intro y
          rw [z g y] at hG
          cases hG
      have hrp6 : r ∉ ps6 := by
        rcases hps6 with z | z
        · rw [z]
          exact hrp
        · intro y
          rw [z r y] at hR
          cases hR
      have hlg : l ≠ g := fun z => by
        rw [z, hG] at fl
        cases fl
      have hlr : l ≠ r := fun z => by
        rw [z, hR] at fl
        cases fl
      have hb0 : gv.length + 50 * (cs.length + 1) ≤ 300000 := hbnd
      -- given.append(len(numbers))
      refine ⟨_, rfl, .inl ⟨rfl, _, SqL.of (KA6.sameF _ _ hG6)⟩, _, rfl, l, _, rfl, .inl (SqL.of (KA6.sameF _ _ hl)), g, _, _, rfl, rfl, KA6.sameF _ _ hG6, ?_, ?_⟩
      · rw [List.length_map, sizeLine_eq]
        omega
      have KA7 := KA6.add (r := g) (o := .lst (gv.map V.int ++ [V.int ((((Kgo2Neutral.step s c).2.map V.int).length : Nat) : Int)])) (.inr ⟨by rw [hG6]; simp, hgp6⟩)
      have hl7 : upd F6 g (.lst (gv.map V.int ++ [V.int ((((Kgo2Neutral.step s c).2.map V.int).length : Nat) : Int)])) l = some (.lst ((Kgo2Neutral.step s c).2.map V.int)) := by rw [upd_ne hlg]; exact hl
      -- given.extend(numbers)
      refine ⟨_, rfl, .inl ⟨rfl, _, SqL.of upd_same⟩, _, rfl, g, l, _, _, rfl, rfl, upd_same, KA7.sameF _ _ hl7, ?_, ?_⟩
      · rw [List.length_append, List.length_map, List.length_map, sizeLine_eq]
        show gv.length + 1 + _ ≤ _
        omega
      have KA8 := KA7.add (r := g) (o := .lst (gv.map V.int ++ [V.int ((((Kgo2Neutral.step s c).2.map V.int).length : Nat) : Int)] ++ (Kgo2Neutral.step s c).2.map V.int)) (.inr ⟨by rw [upd_same]; simp, hgp6⟩)
      rw [upd_upd] at KA8
      refine ⟨i + (PyFlat.put1 c).length, _, po6, ps6, m6, (Kgo2Neutral.step s c).1, gv ++ (((Kgo2Neutral.step s c).2.length : Nat) : Int) :: (Kgo2Neutral.step s c).2, _, rfl, KA8, ?_, hrp6, hgp6, ?_, ?_, ?_, fun c' hc' => hak c' (List.mem_cons_of_mem _ hc'), hmy'.2, R6, ?_, ?_⟩
      · rw [upd_ne hgr.symm]
        exact hR6
      · rw [upd_same]
        congr 2
        rw [List.length_map, List.map_append, List.map_cons, List.append_assoc]
        rfl
      · -- all that stood ahead of the loop
        intro b o e
        have b1 : b ≠ g := ne_of_none e hg0
        have b2 : b ≠ r := ne_of_none e hr0
        rw [upd_ne b1]
        exact kp6 b o b2 (sHF b o e)
      · rw [← List.drop_drop, hdr', List.drop_left]
      · rw [← htot, List.append_assoc]
        rfl
      · rw [List.length_append]
        show gv.length + ((Kgo2Neutral.step s c).2.length + 1) + 50 * cs.length ≤ 300000
        omega
end
end Ck
/-! THE CALL'S END: a list of whole numbers handed back; what was there stands -/
namespace Ck
open PySem PySem.Spec PyProof.Rows L2
theorem list_call {P : Program} {w : World} {K : PySem.W.Frag} {mg mb : Str → Option Value} {k : Nat} {fa a : Addr} {fd : FuncData} {x : Str} {sp : Sp} {s₁ : Shared} {vs : List Value} {ns out : List Int}
    (KX : K.In s₁.heap) (hns : s₁.heap.Ns mainGlobals mg) (hb : s₁.heap.Ns builtinsNs mb) (hbb : ∀ x : Str, x ≠ "__name__" → mb x = bootBuiltins x) (hlim : s₁.heap.NoLimit) (hg : s₁.gens = #[])
    (ha : s₁.heap.get? a = some { cls := .type "list", data := .seq vs.toArray }) (hi : IntsAre vs ns) (hl : ns.length ≤ sizeLine) (hr : Room k callerA)
    (F : ∀ base : Heap, K.In base → base.Ns mainGlobals mg → FnOk P w K mg base CX0 k fa fd [x] sp) (hbind : ∀ (s : Shared) (u : Value), BindsTo s fd ⟨[u], []⟩ [(x, u)])
    (hsp : ∀ H : Hp, SqL K H a (ns.map V.int) → sp [.ref a] H (fun v H' => ∃ l, v = .ref l ∧ H' l = some (.lst (out.map V.int))) fun _ _ _ => False) :
    codeAny (model P w) callerA (.call (.ref fa) ⟨[.ref a], []⟩)
      (fun r s' => (∃ l us n, r = .ok (.ret (.ref l)) ∧ s'.heap.get? l = some { cls := .type "list", data := .seq (List.toArray us) n } ∧ IntsAre us out) ∧ OldK s₁.heap s'.heap ∧ s'.os = s₁.os ∧ AllBare s'.gens) s₁ := by
  have rv := vals_ints hi
  have lenV := hi.length
  have core : ∀ H : Hp, Only H → SqL K H a (ns.map V.int) → HOk P w H s₁.heap → (∀ b, H b ≠ none → b = a) → (H a ≠ none → K.lookup a = none) →
      codeAny (model P w) callerA (.call (.ref fa) ⟨[.ref a], []⟩)
        (fun r s' => (∃ l us n, r = .ok (.ret (.ref l)) ∧ s'.heap.get? l = some { cls := .type "list", data := .seq (List.toArray us) n } ∧ IntsAre us out) ∧ OldK s₁.heap s'.heap ∧ s'.os = s₁.os ∧ AllBare s'.gens) s₁ := by
    intro H hO hS hok hA hK
    have base_of : ∀ {b : Addr} {o : Obj}, s₁.heap.get? b = some o → H b = none → (hidT s₁.heap H).get? b = some o := fun e n => hidT_get e n
    have noA : ∀ {b : Addr} {o : Obj} {es : Array DictEntry} {ep : Nat}, s₁.heap.get? b = some o → o.data = .dict es ep → H b = none := fun {b o es ep} e d => by
      cases q : H b with
      | none => rfl
      | some u =>
        have e' : b = a := hA b (by rw [q]; simp)
        subst e'
        rw [ha] at e; cases e
        have d' : Data.seq vs.toArray _ = Data.dict es ep := d
        cases d'
    have nsK : ∀ {b : Addr} {m : Str → Option Value}, s₁.heap.Ns b m → (hidT s₁.heap H).Ns b m := fun {b m} ⟨o, es, ep, e, d, r⟩ => ⟨o, es, ep, base_of e (noA e d), d, r⟩
    have hKb : K.In (hidT s₁.heap H) := fun b o e => base_of (KX b o e) (by
      cases q : H b with
      | none => rfl
      | some u =>
        have e' : b = a := hA b (by rw [q]; simp)
        subst e'
        rw [hK (by rw [q]; simp)] at e; cases e)
    have hM : Mod K mg (hidT s₁.heap H) := ⟨hKb, nsK hns, ⟨mb, nsK hb, hbb⟩, let ⟨mc, h1, h2⟩ := hlim; ⟨mc, nsK h1, h2⟩⟩
    have e0 : Env0 P w K mg (hidT s₁.heap H) callerA [] s₁ H := ⟨rfl, hM, fun b o e => of_hidT e, Nat.le_of_eq (hidT_size _ _), trivial, fun b hb => absurd (show b ∈ ([] : List Addr) from hb) (by simp), hok, .of_eq hg⟩
    refine codeAny_mono ((F _ hKb (nsK hns)).run callerA [] s₁ H ⟨[.ref a], []⟩ [.ref a] [.ref a] _ _ hr e0 (hbind s₁ (.ref a)) (.cons rfl .nil) (hsp H hS)) fun r s' h => ?_
    cases r with
    | error e => exact False.elim h
    | ok fl =>
      cases fl with
      | next => exact False.elim h
      | brk => exact False.elim h
      | cont => exact False.elim h
      | ret u =>
        obtain ⟨v, H', os, bare, un, hok', r', q⟩ := h
        obtain ⟨l, ev, hl'⟩ : ∃ l, v = .ref l ∧ H' l = some (.lst (out.map V.int)) := q
        subst ev
        obtain rfl : u = Value.ref l := r'
        obtain ⟨_, its, n, rr, e1⟩ : (out.map V.int).length ≤ sizeLine ∧ ∃ (its : List Value) (n : Nat), Vals (out.map V.int) its ∧ s'.heap.get? l = some { cls := .type "list", data := .seq its.toArray n } := hok' l _ hl'
        refine ⟨⟨l, its, n, rfl, e1, Vals.ints rr⟩, OldK.of_keep fun b o e => ?_, os, bare⟩
        cases q : H b with
        | none => exact un.keep b o e q (by intro z; exact absurd (show b ∈ ([] : List Addr) from z) (by simp)) (by simp)
        | some u =>
          rcases hO b with z | ⟨ob, xs, z⟩
          · rw [q] at z; cases z
          · have z2 := un.frzs b ob _ z
            obtain ⟨e1, _⟩ := hok b _ z
            obtain ⟨e2, _⟩ := hok' b _ z2
            rw [e] at e1; cases e1
            exact e2
  cases hk : K.lookup a with
  | some o =>
    have e := KX a o hk
    rw [ha] at e
    cases e
    refine core (fun _ => none) (fun _ => .inl rfl) (.inr ⟨_, vs.toArray, _, hk, rfl, rfl, rfl, by rw [List.size_toArray, lenV]; exact hl, by simpa using rv⟩) (fun b u z => by have z' : (none : Option HO) = some u := z; cases z') (fun b z => absurd rfl z) fun z => absurd rfl z
  | none =>
    refine core (fun b => if b = a then some (.frz { cls := .type "list", data := .seq vs.toArray } (.lst (ns.map V.int))) else none) (fun b => ?_) (.inl (.inr ⟨{ cls := .type "list", data := .seq vs.toArray }, if_pos rfl⟩)) (fun b u z => ?_) (fun b z => ?_) fun _ => hk
    · by_cases hb : b = a
      · exact .inr ⟨_, _, if_pos hb⟩
      · exact .inl (if_neg hb)
    · by_cases hb : b = a
      · have z' := (if_pos hb).symm.trans z
        cases z'
        subst hb
        exact ⟨ha, by rw [List.length_map]; exact hl, vs, _, rv, ha⟩
      · have z' := (if_neg hb).symm.trans z
        cases z'
    · by_cases hb : b = a
      · exact hb
      · exact absurd (if_neg hb) z
theorem reads_ints {R : PySem.W.WRecords} {cl : Str → Option Addr} {h : Heap} : ∀ {us : List Value} {ns : List Int}, IntsAre us ns → PySem.W.ReadsAllW R cl h us (ns.map PySem.W.WData.int) []
  | _, _, .nil => .nil
  | _, _, .cons n t r => .cons (.int n t) (reads_ints r)
/-- THE ATTACHMENT: from the promise of answers to what the row's head asks -/
theorem walkS {k : Nat} {q : Program} {loose : List Str} {XP : (Str → Option Value) → Heap → Prop} {YP : World → Heap → Prop} {d : DefRec} {K : Params → PySem.W.Frag}
    (said : PySem.Challenge.rw_childkeep_s01_answers.wellSaid = true) (hdf : d.params.defaults = []) (hr : Room k callerA)
    (hY : ∀ (w : World) (h : Heap), YP w h → (K w.params).In h)
    (F : ∀ (w : World) (mg : Str → Option Value) (fa : Addr) (h : Heap), (K w.params).In h → h.Ns mainGlobals mg → mg d.name = some (.ref fa) →
      ∃ fd : FuncData, (∀ (s : Shared) (u : Value), BindsTo s fd ⟨[u], []⟩ [("calls", u)]) ∧
        ∀ base : Heap, (K w.params).In base → base.Ns mainGlobals mg → FnOk PySem.Challenge.rw_childkeep_s01_answers.prog w (K w.params) mg base CX0 k fa fd ["calls"] (spAnswers (K w.params))) :
    PySem.W.WalkOS q loose XP YP PySem.Challenge.rw_childkeep_s01_answers d [] (fun f vs => PySem.call f vs) := by
  intro w s₀ s₁ mg mb G Y fa o pm cd doc dV kV ho hd hcd hD hmg hg args vals as hpre hlay hrd hwl hlo
  obtain ⟨av, hw, hq, rfl⟩ := PySem.W.os_pre said hpre
  obtain ⟨ns, u⟩ := av
  have hask : PyKgo2.answers_asked ns = true := hq
  have hw1 : PySem.W.Codec.inList 0 30000 (PySem.W.Codec.inInt (Int.ofNat 0) (Int.ofNat 4294967295)) ns = true := (PySem.W.Codec.and_of (show (PySem.W.Codec.inList 0 30000 (PySem.W.Codec.inInt (Int.ofNat 0) (Int.ofNat 4294967295)) ns && true) = true from hw)).1
  have hlen : ns.length ≤ 30000 := (PySem.W.Codec.inNat_iff.mp (PySem.W.Codec.and_of (show (PySem.W.Codec.inLen 0 30000 ns && ns.all (PySem.W.Codec.inInt (Int.ofNat 0) (Int.ofNat 4294967295))) = true from hw1)).1).2
  have hwl' : PySem.W.WellAll w.params s₁.heap vals [PySem.W.WData.list (ns.map PySem.W.WData.int)] := hwl
  obtain ⟨a, vs, rfl, hobj, hints⟩ : ∃ a vs, vals = [Value.ref a] ∧ s₁.heap.get? a = some { cls := .type "list", data := .seq (List.toArray vs) } ∧ IntsAre vs ns := by
    cases hwl' with
    | cons w1 w2 =>
      cases w2
      cases w1 with
      | list ho hall => exact ⟨_, _, rfl, ho, Att.ints_of_wellAll ns _ hall⟩
  have KX := hY w _ Y
  obtain ⟨fd, hbd, hF⟩ := F w mg fa _ KX G.T.g hmg
  refine PySem.W.enter_call (codeAny_mono (list_call (out := PyKgo2.answers ns) KX G.T.g G.T.b G.T.builtins G.T.nolimit hg hobj hints (by rw [sizeLine_eq]; omega) hr hF hbd fun H hS => ⟨a, ns, rfl, hS, hask, fun H' l hl => ⟨l, rfl, hl⟩⟩) fun r s' hq' => ?_)
  obtain ⟨⟨l, us, n, rfl, hl, hus⟩, h2, h3, h4⟩ := hq'
  refine ⟨.inl ⟨.ref l, .list ((PyKgo2.answers ns).map PySem.W.WData.int), [l], rfl, fun _ => rfl, .list hl rfl rfl (by simpa using reads_ints hus), ?_, fun z => absurd z Bool.false_ne_true⟩, h2, h3, h4⟩
  exact PySem.W.osPost (PySem.W.os_shut said hw rfl)
end Ck
/-! WHAT THE TOP HAS WRITTEN: each a fact that k_is finds -/
namespace Ck
open PySem L2
theorem all_mk {P : Program} {w : World} {K : PySem.W.Frag} {h : Heap} {mg : Str → Option Value} {fa : Addr} (X : K.In h) (G : h.Ns mainGlobals mg) (hfa : mg "answers" = some (.ref fa))
    {cP cK cR fPinit fPis_right fPis_begun_anew fPbeside fKinit fKstart fKended fKstop fKtick fKlook fKtell fKbegin fKask fKunmark fKmark fKnote fKbegin_anew fKend_for fKon_with_it fKis_to_be_asked fKbegin_marked fRinit fRhas_more fRnumber fRrow fGread_plan fGanswer fGanswers : Addr}
    {odPinit anPinit odPis_right anPis_right odPis_begun_anew anPis_begun_anew odPbeside anPbeside odKinit anKinit odKstart anKstart odKended anKended odKstop anKstop odKtick anKtick odKlook anKlook odKtell anKtell odKbegin anKbegin odKask anKask odKunmark anKunmark odKmark anKmark odKnote anKnote odKbegin_anew anKbegin_anew odKend_for anKend_for odKon_with_it anKon_with_it odKis_to_be_asked anKis_to_be_asked odKbegin_marked anKbegin_marked odRinit anRinit odRhas_more anRhas_more odRnumber anRnumber odRrow anRrow odGread_plan anGread_plan odGanswer anGanswer odGanswers anGanswers : Option Addr}
    {slPinit slPis_right slPis_begun_anew slPbeside slKinit slKstart slKended slKstop slKtick slKlook slKtell slKbegin slKask slKunmark slKmark slKnote slKbegin_anew slKend_for slKon_with_it slKis_to_be_asked slKbegin_marked slRinit slRhas_more slRnumber slRrow slGread_plan slGanswer slGanswers : Array (Option Value)}
    {ocPinit kVPinit dcPinit pmPinit cdPinit ctPinit ocPis_right kVPis_right dcPis_right pmPis_right cdPis_right ctPis_right ocPis_begun_anew kVPis_begun_anew dcPis_begun_anew pmPis_begun_anew cdPis_begun_anew ctPis_begun_anew ocPbeside kVPbeside dcPbeside pmPbeside cdPbeside ctPbeside ocKinit kVKinit dcKinit pmKinit cdKinit ctKinit ocKstart kVKstart dcKstart pmKstart cdKstart ctKstart ocKended kVKended dcKended pmKended cdKended ctKended ocKstop kVKstop dcKstop pmKstop cdKstop ctKstop ocKtick kVKtick dcKtick pmKtick cdKtick ctKtick ocKlook kVKlook dcKlook pmKlook cdKlook ctKlook ocKtell kVKtell dcKtell pmKtell cdKtell ctKtell ocKbegin kVKbegin dcKbegin pmKbegin cdKbegin ctKbegin ocKask kVKask dcKask pmKask cdKask ctKask ocKunmark kVKunmark dcKunmark pmKunmark cdKunmark ctKunmark ocKmark kVKmark dcKmark pmKmark cdKmark ctKmark ocKnote kVKnote dcKnote pmKnote cdKnote ctKnote ocKbegin_anew kVKbegin_anew dcKbegin_anew pmKbegin_anew cdKbegin_anew ctKbegin_anew ocKend_for kVKend_for dcKend_for pmKend_for cdKend_for ctKend_for ocKon_with_it kVKon_with_it dcKon_with_it pmKon_with_it cdKon_with_it ctKon_with_it ocKis_to_be_asked kVKis_to_be_asked dcKis_to_be_asked pmKis_to_be_asked cdKis_to_be_asked ctKis_to_be_asked ocKbegin_marked kVKbegin_marked dcKbegin_marked pmKbegin_marked cdKbegin_marked ctKbegin_marked ocRinit kVRinit dcRinit pmRinit cdRinit ctRinit ocRhas_more kVRhas_more dcRhas_more pmRhas_more cdRhas_more ctRhas_more ocRnumber kVRnumber dcRnumber pmRnumber cdRnumber ctRnumber ocRrow kVRrow dcRrow pmRrow cdRrow ctRrow ocGread_plan kVGread_plan dcGread_plan pmGread_plan cdGread_plan ctGread_plan ocGanswer kVGanswer dcGanswer pmGanswer cdGanswer ctGanswer ocGanswers kVGanswers dcGanswers pmGanswers cdGanswers ctGanswers : Value}
    {tCALL_START tCALL_ENDED tCALL_STOP tCALL_TICK tDONE tWRONG tIS_OFF tTOO_LATE tTELL_BEGIN tTELL_HALT tTELL_OVER tKEEPING tBEGINNING_ANEW tENDING tOVER tWAY_ALL tWAY_BEHIND tHOW_ALWAYS tHOW_UNLESS_WELL tWHY_ASKED_FOR tWHY_TOO_OFTEN tLARGEST_WAY tLARGEST_MOST tLARGEST_WITHIN tLARGEST_COUNT tLARGEST_HOW tLARGEST_PATIENCE : Tok}
    (aP : PySem.W.nsIn K mainGlobals "Plan" = some (some (.ref cP)))
    (aK : PySem.W.nsIn K mainGlobals "Keeper" = some (some (.ref cK)))
    (aR : PySem.W.nsIn K mainGlobals "Reader" = some (some (.ref cR)))
    (aPinit : PySem.W.findIn K (.ref cP) "__init__" = some (some (.ref fPinit)))
    (iPinit : PySem.W.isFn K (.ref fPinit) = true)
    (lPinit : K.lookup fPinit = some ⟨ocPinit, odPinit, .func (PySem.W.fnOf "__init__" "Plan.__init__" (defArgs sPinit) (defBody sPinit) (defScope sPinit) .none kVPinit dcPinit pmPinit anPinit cdPinit ctPinit), slPinit⟩)
    (cPinit : PySem.W.codeIn K cdPinit "Plan.__init__" = true)
    (kPinit : PySem.W.keepIn K (.ref fPinit) = true)
    (aPis_right : PySem.W.findIn K (.ref cP) "is_right" = some (some (.ref fPis_right)))
    (iPis_right : PySem.W.isFn K (.ref fPis_right) = true)
    (lPis_right : K.lookup fPis_right = some ⟨ocPis_right, odPis_right, .func (PySem.W.fnOf "is_right" "Plan.is_right" (defArgs sPis_right) (defBody sPis_right) (defScope sPis_right) .none kVPis_right dcPis_right pmPis_right anPis_right cdPis_right ctPis_right), slPis_right⟩)
    (cPis_right : PySem.W.codeIn K cdPis_right "Plan.is_right" = true)
    (kPis_right : PySem.W.keepIn K (.ref fPis_right) = true)
    (aPis_begun_anew : PySem.W.findIn K (.ref cP) "is_begun_anew" = some (some (.ref fPis_begun_anew)))
    (iPis_begun_anew : PySem.W.isFn K (.ref fPis_begun_anew) = true)
    (lPis_begun_anew : K.lookup fPis_begun_anew = some ⟨ocPis_begun_anew, odPis_begun_anew, .func (PySem.W.fnOf "is_begun_anew" "Plan.is_begun_anew" (defArgs sPis_begun_anew) (defBody sPis_begun_anew) (defScope sPis_begun_anew) .none kVPis_begun_anew dcPis_begun_anew pmPis_begun_anew anPis_begun_anew cdPis_begun_anew ctPis_begun_anew), slPis_begun_anew⟩)
    (cPis_begun_anew : PySem.W.codeIn K cdPis_begun_anew "Plan.is_begun_anew" = true)
    (kPis_begun_anew : PySem.W.keepIn K (.ref fPis_begun_anew) = true)
    (aPbeside : PySem.W.findIn K (.ref cP) "beside" = some (some (.ref fPbeside)))
    (iPbeside : PySem.W.isFn K (.ref fPbeside) = true)
    (lPbeside : K.lookup fPbeside = some ⟨ocPbeside, odPbeside, .func (PySem.W.fnOf "beside" "Plan.beside" (defArgs sPbeside) (defBody sPbeside) (defScope sPbeside) .none kVPbeside dcPbeside pmPbeside anPbeside cdPbeside ctPbeside), slPbeside⟩)
    (cPbeside : PySem.W.codeIn K cdPbeside "Plan.beside" = true)
    (kPbeside : PySem.W.keepIn K (.ref fPbeside) = true)
    (aKinit : PySem.W.findIn K (.ref cK) "__init__" = some (some (.ref fKinit)))
    (iKinit : PySem.W.isFn K (.ref fKinit) = true)
    (lKinit : K.lookup fKinit = some ⟨ocKinit, odKinit, .func (PySem.W.fnOf "__init__" "Keeper.__init__" (defArgs sKinit) (defBody sKinit) (defScope sKinit) .none kVKinit dcKinit pmKinit anKinit cdKinit ctKinit), slKinit⟩)
    (cKinit : PySem.W.codeIn K cdKinit "Keeper.__init__" = true)
    (kKinit : PySem.W.keepIn K (.ref fKinit) = true)
    (aKstart : PySem.W.findIn K (.ref cK) "start" = some (some (.ref fKstart)))
    (iKstart : PySem.W.isFn K (.ref fKstart) = true)
    (lKstart : K.lookup fKstart = some ⟨ocKstart, odKstart, .func (PySem.W.fnOf "start" "Keeper.start" (defArgs sKstart) (defBody sKstart) (defScope sKstart) .none kVKstart dcKstart pmKstart anKstart cdKstart ctKstart), slKstart⟩)
    (cKstart : PySem.W.codeIn K cdKstart "Keeper.start" = true)
    (kKstart : PySem.W.keepIn K (.ref fKstart) = true)
    (aKended : PySem.W.findIn K (.ref cK) "ended" = some (some (.ref fKended)))
    (iKended : PySem.W.isFn K (.ref fKended) = true)
    (lKended : K.lookup fKended = some ⟨ocKended, odKended, .func (PySem.W.fnOf "ended" "Keeper.ended" (defArgs sKended) (defBody sKended) (defScope sKended) .none kVKended dcKended pmKended anKended cdKended ctKended), slKended⟩)
    (cKended : PySem.W.codeIn K cdKended "Keeper.ended" = true)
    (kKended : PySem.W.keepIn K (.ref fKended) = true)
    (aKstop : PySem.W.findIn K (.ref cK) "stop" = some (some (.ref fKstop)))
    (iKstop : PySem.W.isFn K (.ref fKstop) = true)
    (lKstop : K.lookup fKstop = some ⟨ocKstop, odKstop, .func (PySem.W.fnOf "stop" "Keeper.stop" (defArgs sKstop) (defBody sKstop) (defScope sKstop) .none kVKstop dcKstop pmKstop anKstop cdKstop ctKstop), slKstop⟩)
    (cKstop : PySem.W.codeIn K cdKstop "Keeper.stop" = true)
    (kKstop : PySem.W.keepIn K (.ref fKstop) = true)
    (aKtick : PySem.W.findIn K (.ref cK) "tick" = some (some (.ref fKtick)))
    (iKtick : PySem.W.isFn K (.ref fKtick) = true)
    (lKtick : K.lookup fKtick = some ⟨ocKtick, odKtick, .func (PySem.W.fnOf "tick" "Keeper.tick" (defArgs sKtick) (defBody sKtick) (defScope sKtick) .none kVKtick dcKtick pmKtick anKtick cdKtick ctKtick), slKtick⟩)
    (cKtick : PySem.W.codeIn K cdKtick "Keeper.tick" = true)
    (kKtick : PySem.W.keepIn K (.ref fKtick) = true)
    (aKlook : PySem.W.findIn K (.ref cK) "look" = some (some (.ref fKlook)))
    (iKlook : PySem.W.isFn K (.ref fKlook) = true)
    (lKlook : K.lookup fKlook = some ⟨ocKlook, odKlook, .func (PySem.W.fnOf "look" "Keeper.look" (defArgs sKlook) (defBody sKlook) (defScope sKlook) .none kVKlook dcKlook pmKlook anKlook cdKlook ctKlook), slKlook⟩)
    (cKlook : PySem.W.codeIn K cdKlook "Keeper.look" = true)
    (kKlook : PySem.W.keepIn K (.ref fKlook) = true)
    (aKtell : PySem.W.findIn K (.ref cK) "tell" = some (some (.ref fKtell)))
    (iKtell : PySem.W.isFn K (.ref fKtell) = true)
    (lKtell : K.lookup fKtell = some ⟨ocKtell, odKtell, .func (PySem.W.fnOf "tell" "Keeper.tell" (defArgs sKtell) (defBody sKtell) (defScope sKtell) .none kVKtell dcKtell pmKtell anKtell cdKtell ctKtell), slKtell⟩)
    (cKtell : PySem.W.codeIn K cdKtell "Keeper.tell" = true)
    (kKtell : PySem.W.keepIn K (.ref fKtell) = true)
    (aKbegin : PySem.W.findIn K (.ref cK) "begin" = some (some (.ref fKbegin)))
    (iKbegin : PySem.W.isFn K (.ref fKbegin) = true)
    (lKbegin : K.lookup fKbegin = some ⟨ocKbegin, odKbegin, .func (PySem.W.fnOf "begin" "Keeper.begin" (defArgs sKbegin) (defBody sKbegin) (defScope sKbegin) .none kVKbegin dcKbegin pmKbegin anKbegin cdKbegin ctKbegin), slKbegin⟩)
    (cKbegin : PySem.W.codeIn K cdKbegin "Keeper.begin" = true)
    (kKbegin : PySem.W.keepIn K (.ref fKbegin) = true)
    (aKask : PySem.W.findIn K (.ref cK) "ask" = some (some (.ref fKask)))
    (iKask : PySem.W.isFn K (.ref fKask) = true)
    (lKask : K.lookup fKask = some ⟨ocKask, odKask, .func (PySem.W.fnOf "ask" "Keeper.ask" (defArgs sKask) (defBody sKask) (defScope sKask) .none kVKask dcKask pmKask anKask cdKask ctKask), slKask⟩)
    (cKask : PySem.W.codeIn K cdKask "Keeper.ask" = true)
    (kKask : PySem.W.keepIn K (.ref fKask) = true)
    (aKunmark : PySem.W.findIn K (.ref cK) "unmark" = some (some (.ref fKunmark)))
    (iKunmark : PySem.W.isFn K (.ref fKunmark) = true)
    (lKunmark : K.lookup fKunmark = some ⟨ocKunmark, odKunmark, .func (PySem.W.fnOf "unmark" "Keeper.unmark" (defArgs sKunmark) (defBody sKunmark) (defScope sKunmark) .none kVKunmark dcKunmark pmKunmark anKunmark cdKunmark ctKunmark), slKunmark⟩)
    (cKunmark : PySem.W.codeIn K cdKunmark "Keeper.unmark" = true)
    (kKunmark : PySem.W.keepIn K (.ref fKunmark) = true)
    (aKmark : PySem.W.findIn K (.ref cK) "mark" = some (some (.ref fKmark)))
    (iKmark : PySem.W.isFn K (.ref fKmark) = true)
    (lKmark : K.lookup fKmark = some ⟨ocKmark, odKmark, .func (PySem.W.fnOf "mark" "Keeper.mark" (defArgs sKmark) (defBody sKmark) (defScope sKmark) .none kVKmark dcKmark pmKmark anKmark cdKmark ctKmark), slKmark⟩)
    (cKmark : PySem.W.codeIn K cdKmark "Keeper.mark" = true)
    (kKmark : PySem.W.keepIn K (.ref fKmark) = true)
    (aKnote : PySem.W.findIn K (.ref cK) "note" = some (some (.ref fKnote)))
    (iKnote : PySem.W.isFn K (.ref fKnote) = true)
    (lKnote : K.lookup fKnote = some ⟨ocKnote, odKnote, .func (PySem.W.fnOf "note" "Keeper.note" (defArgs sKnote) (defBody sKnote) (defScope sKnote) .none kVKnote dcKnote pmKnote anKnote cdKnote ctKnote), slKnote⟩)
    (cKnote : PySem.W.codeIn K cdKnote "Keeper.note" = true)
    (kKnote : PySem.W.keepIn K (.ref fKnote) = true)
    (aKbegin_anew : PySem.W.findIn K (.ref cK) "begin_anew" = some (some (.ref fKbegin_anew)))
    (iKbegin_anew : PySem.W.isFn K (.ref fKbegin_anew) = true)
    (lKbegin_anew : K.lookup fKbegin_anew = some ⟨ocKbegin_anew, odKbegin_anew, .func (PySem.W.fnOf "begin_anew" "Keeper.begin_anew" (defArgs sKbegin_anew) (defBody sKbegin_anew) (defScope sKbegin_anew) .none kVKbegin_anew dcKbegin_anew pmKbegin_anew anKbegin_anew cdKbegin_anew ctKbegin_anew), slKbegin_anew⟩)
    (cKbegin_anew : PySem.W.codeIn K cdKbegin_anew "Keeper.begin_anew" = true)
    (kKbegin_anew : PySem.W.keepIn K (.ref fKbegin_anew) = true)
    (aKend_for : PySem.W.findIn K (.ref cK) "end_for" = some (some (.ref fKend_for)))
    (iKend_for : PySem.W.isFn K (.ref fKend_for) = true)
    (lKend_for : K.lookup fKend_for = some ⟨ocKend_for, odKend_for, .func (PySem.W.fnOf "end_for" "Keeper.end_for" (defArgs sKend_for) (defBody sKend_for) (defScope sKend_for) .none kVKend_for dcKend_for pmKend_for anKend_for cdKend_for ctKend_for), slKend_for⟩)
    (cKend_for : PySem.W.codeIn K cdKend_for "Keeper.end_for" = true)
    (kKend_for : PySem.W.keepIn K (.ref fKend_for) = true)
    (aKon_with_it : PySem.W.findIn K (.ref cK) "on_with_it" = some (some (.ref fKon_with_it)))
    (iKon_with_it : PySem.W.isFn K (.ref fKon_with_it) = true)
    (lKon_with_it : K.lookup fKon_with_it = some ⟨ocKon_with_it, odKon_with_it, .func (PySem.W.fnOf "on_with_it" "Keeper.on_with_it" (defArgs sKon_with_it) (defBody sKon_with_it) (defScope sKon_with_it) .none kVKon_with_it dcKon_with_it pmKon_with_it anKon_with_it cdKon_with_it ctKon_with_it), slKon_with_it⟩)
    (cKon_with_it : PySem.W.codeIn K cdKon_with_it "Keeper.on_with_it" = true)
    (kKon_with_it : PySem.W.keepIn K (.ref fKon_with_it) = true)
    (aKis_to_be_asked : PySem.W.findIn K (.ref cK) "is_to_be_asked" = some (some (.ref fKis_to_be_asked)))
    (iKis_to_be_asked : PySem.W.isFn K (.ref fKis_to_be_asked) = true)
    (lKis_to_be_asked : K.lookup fKis_to_be_asked = some ⟨ocKis_to_be_asked, odKis_to_be_asked, .func (PySem.W.fnOf "is_to_be_asked" "Keeper.is_to_be_asked" (defArgs sKis_to_be_asked) (defBody sKis_to_be_asked) (defScope sKis_to_be_asked) .none kVKis_to_be_asked dcKis_to_be_asked pmKis_to_be_asked anKis_to_be_asked cdKis_to_be_asked ctKis_to_be_asked), slKis_to_be_asked⟩)
    (cKis_to_be_asked : PySem.W.codeIn K cdKis_to_be_asked "Keeper.is_to_be_asked" = true)
    (kKis_to_be_asked : PySem.W.keepIn K (.ref fKis_to_be_asked) = true)
    (aKbegin_marked : PySem.W.findIn K (.ref cK) "begin_marked" = some (some (.ref fKbegin_marked)))
    (iKbegin_marked : PySem.W.isFn K (.ref fKbegin_marked) = true)
    (lKbegin_marked : K.lookup fKbegin_marked = some ⟨ocKbegin_marked, odKbegin_marked, .func (PySem.W.fnOf "begin_marked" "Keeper.begin_marked" (defArgs sKbegin_marked) (defBody sKbegin_marked) (defScope sKbegin_marked) .none kVKbegin_marked dcKbegin_marked pmKbegin_marked anKbegin_marked cdKbegin_marked ctKbegin_marked), slKbegin_marked⟩)
    (cKbegin_marked : PySem.W.codeIn K cdKbegin_marked "Keeper.begin_marked" = true)
    (kKbegin_marked : PySem.W.keepIn K (.ref fKbegin_marked) = true)
    (aRinit : PySem.W.findIn K (.ref cR) "__init__" = some (some (.ref fRinit)))
    (iRinit : PySem.W.isFn K (.ref fRinit) = true)
    (lRinit : K.lookup fRinit = some ⟨ocRinit, odRinit, .func (PySem.W.fnOf "__init__" "Reader.__init__" (defArgs sRinit) (defBody sRinit) (defScope sRinit) .none kVRinit dcRinit pmRinit anRinit cdRinit ctRinit), slRinit⟩)
    (cRinit : PySem.W.codeIn K cdRinit "Reader.__init__" = true)
    (kRinit : PySem.W.keepIn K (.ref fRinit) = true)
    (aRhas_more : PySem.W.findIn K (.ref cR) "has_more" = some (some (.ref fRhas_more)))
    (iRhas_more : PySem.W.isFn K (.ref fRhas_more) = true)
    (lRhas_more : K.lookup fRhas_more = some ⟨ocRhas_more, odRhas_more, .func (PySem.W.fnOf "has_more" "Reader.has_more" (defArgs sRhas_more) (defBody sRhas_more) (defScope sRhas_more) .none kVRhas_more dcRhas_more pmRhas_more anRhas_more cdRhas_more ctRhas_more), slRhas_more⟩)
    (cRhas_more : PySem.W.codeIn K cdRhas_more "Reader.has_more" = true)
    (kRhas_more : PySem.W.keepIn K (.ref fRhas_more) = true)
    (aRnumber : PySem.W.findIn K (.ref cR) "number" = some (some (.ref fRnumber)))
    (iRnumber : PySem.W.isFn K (.ref fRnumber) = true)
    (lRnumber : K.lookup fRnumber = some ⟨ocRnumber, odRnumber, .func (PySem.W.fnOf "number" "Reader.number" (defArgs sRnumber) (defBody sRnumber) (defScope sRnumber) .none kVRnumber dcRnumber pmRnumber anRnumber cdRnumber ctRnumber), slRnumber⟩)
    (cRnumber : PySem.W.codeIn K cdRnumber "Reader.number" = true)
    (kRnumber : PySem.W.keepIn K (.ref fRnumber) = true)
    (aRrow : PySem.W.findIn K (.ref cR) "row" = some (some (.ref fRrow)))
    (iRrow : PySem.W.isFn K (.ref fRrow) = true)
    (lRrow : K.lookup fRrow = some ⟨ocRrow, odRrow, .func (PySem.W.fnOf "row" "Reader.row" (defArgs sRrow) (defBody sRrow) (defScope sRrow) .none kVRrow dcRrow pmRrow anRrow cdRrow ctRrow), slRrow⟩)
    (cRrow : PySem.W.codeIn K cdRrow "Reader.row" = true)
    (kRrow : PySem.W.keepIn K (.ref fRrow) = true)
    (aGread_plan : PySem.W.nsIn K mainGlobals "read_plan" = some (some (.ref fGread_plan)))
    (lGread_plan : K.lookup fGread_plan = some ⟨ocGread_plan, odGread_plan, .func (PySem.W.fnOf "read_plan" "read_plan" (defArgs sGread_plan) (defBody sGread_plan) (defScope sGread_plan) .none kVGread_plan dcGread_plan pmGread_plan anGread_plan cdGread_plan ctGread_plan), slGread_plan⟩)
    (cGread_plan : PySem.W.codeIn K cdGread_plan "read_plan" = true)
    (kGread_plan : PySem.W.keepIn K (.ref fGread_plan) = true)
    (aGanswer : PySem.W.nsIn K mainGlobals "answer" = some (some (.ref fGanswer)))
    (lGanswer : K.lookup fGanswer = some ⟨ocGanswer, odGanswer, .func (PySem.W.fnOf "answer" "answer" (defArgs sGanswer) (defBody sGanswer) (defScope sGanswer) .none kVGanswer dcGanswer pmGanswer anGanswer cdGanswer ctGanswer), slGanswer⟩)
    (cGanswer : PySem.W.codeIn K cdGanswer "answer" = true)
    (kGanswer : PySem.W.keepIn K (.ref fGanswer) = true)
    (aGanswers : PySem.W.nsIn K mainGlobals "answers" = some (some (.ref fGanswers)))
    (lGanswers : K.lookup fGanswers = some ⟨ocGanswers, odGanswers, .func (PySem.W.fnOf "answers" "answers" (defArgs sGanswers) (defBody sGanswers) (defScope sGanswers) .none kVGanswers dcGanswers pmGanswers anGanswers cdGanswers ctGanswers), slGanswers⟩)
    (cGanswers : PySem.W.codeIn K cdGanswers "answers" = true)
    (kGanswers : PySem.W.keepIn K (.ref fGanswers) = true)
    (pgP : PySem.W.plainGet K cP Str.empty = true)
    (hdP : PySem.W.hasDictIn K cP = true)
    (poP : PySem.W.plainOver K cP = true)
    (saP : PySem.W.findIn K (.ref cP) "__setattr__" = some (some (.builtin "object.__setattr__")))
    (mkP : PySem.W.makesIn K cP = true)
    (kcP : PySem.W.keepIn K (.ref cP) = true)
    (nPway : PySem.W.findIn K (.ref cP) "way" = some none)
    (nPmost : PySem.W.findIn K (.ref cP) "most" = some none)
    (nPwithin : PySem.W.findIn K (.ref cP) "within" = some none)
    (nPcount : PySem.W.findIn K (.ref cP) "count" = some none)
    (nPhow : PySem.W.findIn K (.ref cP) "how" = some none)
    (nPpatience : PySem.W.findIn K (.ref cP) "patience" = some none)
    (pgK : PySem.W.plainGet K cK Str.empty = true)
    (hdK : PySem.W.hasDictIn K cK = true)
    (poK : PySem.W.plainOver K cK = true)
    (saK : PySem.W.findIn K (.ref cK) "__setattr__" = some (some (.builtin "object.__setattr__")))
    (mkK : PySem.W.makesIn K cK = true)
    (kcK : PySem.W.keepIn K (.ref cK) = true)
    (nKtold : PySem.W.findIn K (.ref cK) "told" = some none)
    (nKplan : PySem.W.findIn K (.ref cK) "plan" = some none)
    (nKmode : PySem.W.findIn K (.ref cK) "mode" = some none)
    (nKwhy : PySem.W.findIn K (.ref cK) "why" = some none)
    (nKnow : PySem.W.findIn K (.ref cK) "now" = some none)
    (nKnotes : PySem.W.findIn K (.ref cK) "notes" = some none)
    (nKon : PySem.W.findIn K (.ref cK) "on" = some none)
    (nKmarked : PySem.W.findIn K (.ref cK) "marked" = some none)
    (nKstopping : PySem.W.findIn K (.ref cK) "stopping" = some none)
    (nKleft : PySem.W.findIn K (.ref cK) "left" = some none)
    (pgR : PySem.W.plainGet K cR Str.empty = true)
    (hdR : PySem.W.hasDictIn K cR = true)
    (poR : PySem.W.plainOver K cR = true)
    (saR : PySem.W.findIn K (.ref cR) "__setattr__" = some (some (.builtin "object.__setattr__")))
    (mkR : PySem.W.makesIn K cR = true)
    (kcR : PySem.W.keepIn K (.ref cR) = true)
    (nRnumbers : PySem.W.findIn K (.ref cR) "numbers" = some none)
    (nRplace : PySem.W.findIn K (.ref cR) "place" = some none)
    (gCALL_START : PySem.W.nsIn K mainGlobals "CALL_START" = some (some (.int (0) tCALL_START)))
    (gCALL_ENDED : PySem.W.nsIn K mainGlobals "CALL_ENDED" = some (some (.int (1) tCALL_ENDED)))
    (gCALL_STOP : PySem.W.nsIn K mainGlobals "CALL_STOP" = some (some (.int (2) tCALL_STOP)))
    (gCALL_TICK : PySem.W.nsIn K mainGlobals "CALL_TICK" = some (some (.int (3) tCALL_TICK)))
    (gDONE : PySem.W.nsIn K mainGlobals "DONE" = some (some (.int (0) tDONE)))
    (gWRONG : PySem.W.nsIn K mainGlobals "WRONG" = some (some (.int (-22) tWRONG)))
    (gIS_OFF : PySem.W.nsIn K mainGlobals "IS_OFF" = some (some (.int (-2) tIS_OFF)))
    (gTOO_LATE : PySem.W.nsIn K mainGlobals "TOO_LATE" = some (some (.int (-11) tTOO_LATE)))
    (gTELL_BEGIN : PySem.W.nsIn K mainGlobals "TELL_BEGIN" = some (some (.int (0) tTELL_BEGIN)))
    (gTELL_HALT : PySem.W.nsIn K mainGlobals "TELL_HALT" = some (some (.int (1) tTELL_HALT)))
    (gTELL_OVER : PySem.W.nsIn K mainGlobals "TELL_OVER" = some (some (.int (2) tTELL_OVER)))
    (gKEEPING : PySem.W.nsIn K mainGlobals "KEEPING" = some (some (.int (0) tKEEPING)))
    (gBEGINNING_ANEW : PySem.W.nsIn K mainGlobals "BEGINNING_ANEW" = some (some (.int (1) tBEGINNING_ANEW)))
    (gENDING : PySem.W.nsIn K mainGlobals "ENDING" = some (some (.int (2) tENDING)))
    (gOVER : PySem.W.nsIn K mainGlobals "OVER" = some (some (.int (3) tOVER)))
    (gWAY_ALL : PySem.W.nsIn K mainGlobals "WAY_ALL" = some (some (.int (1) tWAY_ALL)))
    (gWAY_BEHIND : PySem.W.nsIn K mainGlobals "WAY_BEHIND" = some (some (.int (2) tWAY_BEHIND)))
    (gHOW_ALWAYS : PySem.W.nsIn K mainGlobals "HOW_ALWAYS" = some (some (.int (0) tHOW_ALWAYS)))
    (gHOW_UNLESS_WELL : PySem.W.nsIn K mainGlobals "HOW_UNLESS_WELL" = some (some (.int (1) tHOW_UNLESS_WELL)))
    (gWHY_ASKED_FOR : PySem.W.nsIn K mainGlobals "WHY_ASKED_FOR" = some (some (.int (0) tWHY_ASKED_FOR)))
    (gWHY_TOO_OFTEN : PySem.W.nsIn K mainGlobals "WHY_TOO_OFTEN" = some (some (.int (1) tWHY_TOO_OFTEN)))
    (gLARGEST_WAY : PySem.W.nsIn K mainGlobals "LARGEST_WAY" = some (some (.int (2) tLARGEST_WAY)))
    (gLARGEST_MOST : PySem.W.nsIn K mainGlobals "LARGEST_MOST" = some (some (.int (15) tLARGEST_MOST)))
    (gLARGEST_WITHIN : PySem.W.nsIn K mainGlobals "LARGEST_WITHIN" = some (some (.int (65535) tLARGEST_WITHIN)))
    (gLARGEST_COUNT : PySem.W.nsIn K mainGlobals "LARGEST_COUNT" = some (some (.int (8) tLARGEST_COUNT)))
    (gLARGEST_HOW : PySem.W.nsIn K mainGlobals "LARGEST_HOW" = some (some (.int (2) tLARGEST_HOW)))
    (gLARGEST_PATIENCE : PySem.W.nsIn K mainGlobals "LARGEST_PATIENCE" = some (some (.int (65535) tLARGEST_PATIENCE)))
    (brange : PySem.W.nsIn K mainGlobals "range" = some none)
    (bmax : PySem.W.nsIn K mainGlobals "max" = some none)
    (bsum : PySem.W.nsIn K mainGlobals "sum" = some none)
    (blen : PySem.W.nsIn K mainGlobals "len" = some none)
    (blist : PySem.W.nsIn K mainGlobals "list" = some none)
    : ∃ fd : FuncData, (∀ (s : Shared) (u : Value), BindsTo s fd ⟨[u], []⟩ [("calls", u)]) ∧ ∀ base : Heap, K.In base → base.Ns mainGlobals mg → FnOk P w K mg base CX0 9 fa fd ["calls"] (spAnswers K) := by
  have e := hfa.symm.trans (PySem.W.mg_of X G aGanswers)
  cases e
  have FPinit := fun_mk (st := sPinit) lPinit cPinit kPinit
  have FPis_right := fun_mk (st := sPis_right) lPis_right cPis_right kPis_right
  have FPis_begun_anew := fun_mk (st := sPis_begun_anew) lPis_begun_anew cPis_begun_anew kPis_begun_anew
  have FPbeside := fun_mk (st := sPbeside) lPbeside cPbeside kPbeside
  have FKinit := fun_mk (st := sKinit) lKinit cKinit kKinit
  have FKstart := fun_mk (st := sKstart) lKstart cKstart kKstart
  have FKended := fun_mk (st := sKended) lKended cKended kKended
  have FKstop := fun_mk (st := sKstop) lKstop cKstop kKstop
  have FKtick := fun_mk (st := sKtick) lKtick cKtick kKtick
  have FKlook := fun_mk (st := sKlook) lKlook cKlook kKlook
  have FKtell := fun_mk (st := sKtell) lKtell cKtell kKtell
  have FKbegin := fun_mk (st := sKbegin) lKbegin cKbegin kKbegin
  have FKask := fun_mk (st := sKask) lKask cKask kKask
  have FKunmark := fun_mk (st := sKunmark) lKunmark cKunmark kKunmark
  have FKmark := fun_mk (st := sKmark) lKmark cKmark kKmark
  have FKnote := fun_mk (st := sKnote) lKnote cKnote kKnote
  have FKbegin_anew := fun_mk (st := sKbegin_anew) lKbegin_anew cKbegin_anew kKbegin_anew
  have FKend_for := fun_mk (st := sKend_for) lKend_for cKend_for kKend_for
  have FKon_with_it := fun_mk (st := sKon_with_it) lKon_with_it cKon_with_it kKon_with_it
  have FKis_to_be_asked := fun_mk (st := sKis_to_be_asked) lKis_to_be_asked cKis_to_be_asked kKis_to_be_asked
  have FKbegin_marked := fun_mk (st := sKbegin_marked) lKbegin_marked cKbegin_marked kKbegin_marked
  have FRinit := fun_mk (st := sRinit) lRinit cRinit kRinit
  have FRhas_more := fun_mk (st := sRhas_more) lRhas_more cRhas_more kRhas_more
  have FRnumber := fun_mk (st := sRnumber) lRnumber cRnumber kRnumber
  have FRrow := fun_mk (st := sRrow) lRrow cRrow kRrow
  have FGread_plan := fun_mk (st := sGread_plan) lGread_plan cGread_plan kGread_plan
  have FGanswer := fun_mk (st := sGanswer) lGanswer cGanswer kGanswer
  have FGanswers := fun_mk (st := sGanswers) lGanswers cGanswers kGanswers
  have bPinit := FPinit.binds (ps := ["self", "way", "most", "within", "count", "how", "patience"]) fun _ _ _ _ _ _ us hl => match us, hl with | [_, _, _, _, _, _, _], _ => rfl
  have bPis_right := FPis_right.binds (ps := ["self"]) fun _ _ _ _ _ _ us hl => match us, hl with | [_], _ => rfl
  have bPis_begun_anew := FPis_begun_anew.binds (ps := ["self", "child", "why"]) fun _ _ _ _ _ _ us hl => match us, hl with | [_, _, _], _ => rfl
  have bPbeside := FPbeside.binds (ps := ["self", "child"]) fun _ _ _ _ _ _ us hl => match us, hl with | [_, _], _ => rfl
  have bKinit := FKinit.binds (ps := ["self"]) fun _ _ _ _ _ _ us hl => match us, hl with | [_], _ => rfl
  have bKstart := FKstart.binds (ps := ["self", "plan"]) fun _ _ _ _ _ _ us hl => match us, hl with | [_, _], _ => rfl
  have bKended := FKended.binds (ps := ["self", "child", "why"]) fun _ _ _ _ _ _ us hl => match us, hl with | [_, _, _], _ => rfl
  have bKstop := FKstop.binds (ps := ["self"]) fun _ _ _ _ _ _ us hl => match us, hl with | [_], _ => rfl
  have bKtick := FKtick.binds (ps := ["self"]) fun _ _ _ _ _ _ us hl => match us, hl with | [_], _ => rfl
  have bKlook := FKlook.binds (ps := ["self"]) fun _ _ _ _ _ _ us hl => match us, hl with | [_], _ => rfl
  have bKtell := FKtell.binds (ps := ["self", "thing", "about", "besides"]) fun _ _ _ _ _ _ us hl => match us, hl with | [_, _, _, _], _ => rfl
  have bKbegin := FKbegin.binds (ps := ["self", "child"]) fun _ _ _ _ _ _ us hl => match us, hl with | [_, _], _ => rfl
  have bKask := FKask.binds (ps := ["self", "child"]) fun _ _ _ _ _ _ us hl => match us, hl with | [_, _], _ => rfl
  have bKunmark := FKunmark.binds (ps := ["self"]) fun _ _ _ _ _ _ us hl => match us, hl with | [_], _ => rfl
  have bKmark := FKmark.binds (ps := ["self", "child"]) fun _ _ _ _ _ _ us hl => match us, hl with | [_, _], _ => rfl
  have bKnote := FKnote.binds (ps := ["self"]) fun _ _ _ _ _ _ us hl => match us, hl with | [_], _ => rfl
  have bKbegin_anew := FKbegin_anew.binds (ps := ["self", "child"]) fun _ _ _ _ _ _ us hl => match us, hl with | [_, _], _ => rfl
  have bKend_for := FKend_for.binds (ps := ["self", "why"]) fun _ _ _ _ _ _ us hl => match us, hl with | [_, _], _ => rfl
  have bKon_with_it := FKon_with_it.binds (ps := ["self"]) fun _ _ _ _ _ _ us hl => match us, hl with | [_], _ => rfl
  have bKis_to_be_asked := FKis_to_be_asked.binds (ps := ["self", "child"]) fun _ _ _ _ _ _ us hl => match us, hl with | [_, _], _ => rfl
  have bKbegin_marked := FKbegin_marked.binds (ps := ["self"]) fun _ _ _ _ _ _ us hl => match us, hl with | [_], _ => rfl
  have bRinit := FRinit.binds (ps := ["self", "numbers"]) fun _ _ _ _ _ _ us hl => match us, hl with | [_, _], _ => rfl
  have bRhas_more := FRhas_more.binds (ps := ["self"]) fun _ _ _ _ _ _ us hl => match us, hl with | [_], _ => rfl
  have bRnumber := FRnumber.binds (ps := ["self"]) fun _ _ _ _ _ _ us hl => match us, hl with | [_], _ => rfl
  have bRrow := FRrow.binds (ps := ["self"]) fun _ _ _ _ _ _ us hl => match us, hl with | [_], _ => rfl
  have bGread_plan := FGread_plan.binds (ps := ["reader"]) fun _ _ _ _ _ _ us hl => match us, hl with | [_], _ => rfl
  have bGanswer := FGanswer.binds (ps := ["keeper", "reader"]) fun _ _ _ _ _ _ us hl => match us, hl with | [_, _], _ => rfl
  have bGanswers := FGanswers.binds (ps := ["calls"]) fun _ _ _ _ _ _ us hl => match us, hl with | [_], _ => rfl
  have T : Txt K mg { cP := cP, cK := cK, cR := cR, fPinit := fPinit, dPinit := PySem.W.fnOf "__init__" "Plan.__init__" (defArgs sPinit) (defBody sPinit) (defScope sPinit) .none kVPinit dcPinit pmPinit anPinit cdPinit ctPinit, fPis_right := fPis_right, dPis_right := PySem.W.fnOf "is_right" "Plan.is_right" (defArgs sPis_right) (defBody sPis_right) (defScope sPis_right) .none kVPis_right dcPis_right pmPis_right anPis_right cdPis_right ctPis_right, fPis_begun_anew := fPis_begun_anew, dPis_begun_anew := PySem.W.fnOf "is_begun_anew" "Plan.is_begun_anew" (defArgs sPis_begun_anew) (defBody sPis_begun_anew) (defScope sPis_begun_anew) .none kVPis_begun_anew dcPis_begun_anew pmPis_begun_anew anPis_begun_anew cdPis_begun_anew ctPis_begun_anew, fPbeside := fPbeside, dPbeside := PySem.W.fnOf "beside" "Plan.beside" (defArgs sPbeside) (defBody sPbeside) (defScope sPbeside) .none kVPbeside dcPbeside pmPbeside anPbeside cdPbeside ctPbeside, fKinit := fKinit, dKinit := PySem.W.fnOf "__init__" "Keeper.__init__" (defArgs sKinit) (defBody sKinit) (defScope sKinit) .none kVKinit dcKinit pmKinit anKinit cdKinit ctKinit, fKstart := fKstart, dKstart := PySem.W.fnOf "start" "Keeper.start" (defArgs sKstart) (defBody sKstart) (defScope sKstart) .none kVKstart dcKstart pmKstart anKstart cdKstart ctKstart, fKended := fKended, dKended := PySem.W.fnOf "ended" "Keeper.ended" (defArgs sKended) (defBody sKended) (defScope sKended) .none kVKended dcKended pmKended anKended cdKended ctKended, fKstop := fKstop, dKstop := PySem.W.fnOf "stop" "Keeper.stop" (defArgs sKstop) (defBody sKstop) (defScope sKstop) .none kVKstop dcKstop pmKstop anKstop cdKstop ctKstop, fKtick := fKtick, dKtick := PySem.W.fnOf "tick" "Keeper.tick" (defArgs sKtick) (defBody sKtick) (defScope sKtick) .none kVKtick dcKtick pmKtick anKtick cdKtick ctKtick, fKlook := fKlook, dKlook := PySem.W.fnOf "look" "Keeper.look" (defArgs sKlook) (defBody sKlook) (defScope sKlook) .none kVKlook dcKlook pmKlook anKlook cdKlook ctKlook, fKtell := fKtell, dKtell := PySem.W.fnOf "tell" "Keeper.tell" (defArgs sKtell) (defBody sKtell) (defScope sKtell) .none kVKtell dcKtell pmKtell anKtell cdKtell ctKtell, fKbegin := fKbegin, dKbegin := PySem.W.fnOf "begin" "Keeper.begin" (defArgs sKbegin) (defBody sKbegin) (defScope sKbegin) .none kVKbegin dcKbegin pmKbegin anKbegin cdKbegin ctKbegin, fKask := fKask, dKask := PySem.W.fnOf "ask" "Keeper.ask" (defArgs sKask) (defBody sKask) (defScope sKask) .none kVKask dcKask pmKask anKask cdKask ctKask, fKunmark := fKunmark, dKunmark := PySem.W.fnOf "unmark" "Keeper.unmark" (defArgs sKunmark) (defBody sKunmark) (defScope sKunmark) .none kVKunmark dcKunmark pmKunmark anKunmark cdKunmark ctKunmark, fKmark := fKmark, dKmark := PySem.W.fnOf "mark" "Keeper.mark" (defArgs sKmark) (defBody sKmark) (defScope sKmark) .none kVKmark dcKmark pmKmark anKmark cdKmark ctKmark, fKnote := fKnote, dKnote := PySem.W.fnOf "note" "Keeper.note" (defArgs sKnote) (defBody sKnote) (defScope sKnote) .none kVKnote dcKnote pmKnote anKnote cdKnote ctKnote, fKbegin_anew := fKbegin_anew, dKbegin_anew := PySem.W.fnOf "begin_anew" "Keeper.begin_anew" (defArgs sKbegin_anew) (defBody sKbegin_anew) (defScope sKbegin_anew) .none kVKbegin_anew dcKbegin_anew pmKbegin_anew anKbegin_anew cdKbegin_anew ctKbegin_anew, fKend_for := fKend_for, dKend_for := PySem.W.fnOf "end_for" "Keeper.end_for" (defArgs sKend_for) (defBody sKend_for) (defScope sKend_for) .none kVKend_for dcKend_for pmKend_for anKend_for cdKend_for ctKend_for, fKon_with_it := fKon_with_it, dKon_with_it := PySem.W.fnOf "on_with_it" "Keeper.on_with_it" (defArgs sKon_with_it) (defBody sKon_with_it) (defScope sKon_with_it) .none kVKon_with_it dcKon_with_it pmKon_with_it anKon_with_it cdKon_with_it ctKon_with_it, fKis_to_be_asked := fKis_to_be_asked, dKis_to_be_asked := PySem.W.fnOf "is_to_be_asked" "Keeper.is_to_be_asked" (defArgs sKis_to_be_asked) (defBody sKis_to_be_asked) (defScope sKis_to_be_asked) .none kVKis_to_be_asked dcKis_to_be_asked pmKis_to_be_asked anKis_to_be_asked cdKis_to_be_asked ctKis_to_be_asked, fKbegin_marked := fKbegin_marked, dKbegin_marked := PySem.W.fnOf "begin_marked" "Keeper.begin_marked" (defArgs sKbegin_marked) (defBody sKbegin_marked) (defScope sKbegin_marked) .none kVKbegin_marked dcKbegin_marked pmKbegin_marked anKbegin_marked cdKbegin_marked ctKbegin_marked, fRinit := fRinit, dRinit := PySem.W.fnOf "__init__" "Reader.__init__" (defArgs sRinit) (defBody sRinit) (defScope sRinit) .none kVRinit dcRinit pmRinit anRinit cdRinit ctRinit, fRhas_more := fRhas_more, dRhas_more := PySem.W.fnOf "has_more" "Reader.has_more" (defArgs sRhas_more) (defBody sRhas_more) (defScope sRhas_more) .none kVRhas_more dcRhas_more pmRhas_more anRhas_more cdRhas_more ctRhas_more, fRnumber := fRnumber, dRnumber := PySem.W.fnOf "number" "Reader.number" (defArgs sRnumber) (defBody sRnumber) (defScope sRnumber) .none kVRnumber dcRnumber pmRnumber anRnumber cdRnumber ctRnumber, fRrow := fRrow, dRrow := PySem.W.fnOf "row" "Reader.row" (defArgs sRrow) (defBody sRrow) (defScope sRrow) .none kVRrow dcRrow pmRrow anRrow cdRrow ctRrow, fGread_plan := fGread_plan, dGread_plan := PySem.W.fnOf "read_plan" "read_plan" (defArgs sGread_plan) (defBody sGread_plan) (defScope sGread_plan) .none kVGread_plan dcGread_plan pmGread_plan anGread_plan cdGread_plan ctGread_plan, fGanswer := fGanswer, dGanswer := PySem.W.fnOf "answer" "answer" (defArgs sGanswer) (defBody sGanswer) (defScope sGanswer) .none kVGanswer dcGanswer pmGanswer anGanswer cdGanswer ctGanswer, fGanswers := fa, dGanswers := PySem.W.fnOf "answers" "answers" (defArgs sGanswers) (defBody sGanswers) (defScope sGanswers) .none kVGanswers dcGanswers pmGanswers anGanswers cdGanswers ctGanswers } := {
    clP := ⟨pgP, hdP, poP, saP⟩,
    mgP := PySem.W.mg_of X G aP,
    mkP := ⟨mkP, aPinit, iPinit, kcP⟩,
    nPway := nPway,
    nPmost := nPmost,
    nPwithin := nPwithin,
    nPcount := nPcount,
    nPhow := nPhow,
    nPpatience := nPpatience,
    clK := ⟨pgK, hdK, poK, saK⟩,
    mgK := PySem.W.mg_of X G aK,
    mkK := ⟨mkK, aKinit, iKinit, kcK⟩,
    nKtold := nKtold,
    nKplan := nKplan,
    nKmode := nKmode,
    nKwhy := nKwhy,
    nKnow := nKnow,
    nKnotes := nKnotes,
    nKon := nKon,
    nKmarked := nKmarked,
    nKstopping := nKstopping,
    nKleft := nKleft,
    clR := ⟨pgR, hdR, poR, saR⟩,
    mgR := PySem.W.mg_of X G aR,
    mkR := ⟨mkR, aRinit, iRinit, kcR⟩,
    nRnumbers := nRnumbers,
    nRplace := nRplace,
    FPinit := FPinit,
    bPinit := bPinit,
    FPis_right := FPis_right,
    bPis_right := bPis_right,
    mPis_right := ⟨aPis_right, iPis_right, kPis_right⟩,
    FPis_begun_anew := FPis_begun_anew,
    bPis_begun_anew := bPis_begun_anew,
    mPis_begun_anew := ⟨aPis_begun_anew, iPis_begun_anew, kPis_begun_anew⟩,
    FPbeside := FPbeside,
    bPbeside := bPbeside,
    mPbeside := ⟨aPbeside, iPbeside, kPbeside⟩,
    FKinit := FKinit,
    bKinit := bKinit,
    FKstart := FKstart,
    bKstart := bKstart,
    mKstart := ⟨aKstart, iKstart, kKstart⟩,
    FKended := FKended,
    bKended := bKended,
    mKended := ⟨aKended, iKended, kKended⟩,
    FKstop := FKstop,
    bKstop := bKstop,
    mKstop := ⟨aKstop, iKstop, kKstop⟩,
    FKtick := FKtick,
    bKtick := bKtick,
    mKtick := ⟨aKtick, iKtick, kKtick⟩,
    FKlook := FKlook,
    bKlook := bKlook,
    mKlook := ⟨aKlook, iKlook, kKlook⟩,
    FKtell := FKtell,
    bKtell := bKtell,
    mKtell := ⟨aKtell, iKtell, kKtell⟩,
    FKbegin := FKbegin,
    bKbegin := bKbegin,
    mKbegin := ⟨aKbegin, iKbegin, kKbegin⟩,
    FKask := FKask,
    bKask := bKask,
    mKask := ⟨aKask, iKask, kKask⟩,
    FKunmark := FKunmark,
    bKunmark := bKunmark,
    mKunmark := ⟨aKunmark, iKunmark, kKunmark⟩,
    FKmark := FKmark,
    bKmark := bKmark,
    mKmark := ⟨aKmark, iKmark, kKmark⟩,
    FKnote := FKnote,
    bKnote := bKnote,
    mKnote := ⟨aKnote, iKnote, kKnote⟩,
    FKbegin_anew := FKbegin_anew,
    bKbegin_anew := bKbegin_anew,
    mKbegin_anew := ⟨aKbegin_anew, iKbegin_anew, kKbegin_anew⟩,
    FKend_for := FKend_for,
    bKend_for := bKend_for,
    mKend_for := ⟨aKend_for, iKend_for, kKend_for⟩,
    FKon_with_it := FKon_with_it,
    bKon_with_it := bKon_with_it,
    mKon_with_it := ⟨aKon_with_it, iKon_with_it, kKon_with_it⟩,
    FKis_to_be_asked := FKis_to_be_asked,
    bKis_to_be_asked := bKis_to_be_asked,
    mKis_to_be_asked := ⟨aKis_to_be_asked, iKis_to_be_asked, kKis_to_be_asked⟩,
    FKbegin_marked := FKbegin_marked,
    bKbegin_marked := bKbegin_marked,
    mKbegin_marked := ⟨aKbegin_marked, iKbegin_marked, kKbegin_marked⟩,
    FRinit := FRinit,
    bRinit := bRinit,
    FRhas_more := FRhas_more,
    bRhas_more := bRhas_more,
    mRhas_more := ⟨aRhas_more, iRhas_more, kRhas_more⟩,
    FRnumber := FRnumber,
    bRnumber := bRnumber,
    mRnumber := ⟨aRnumber, iRnumber, kRnumber⟩,
    FRrow := FRrow,
    bRrow := bRrow,
    mRrow := ⟨aRrow, iRrow, kRrow⟩,
    FGread_plan := FGread_plan,
    bGread_plan := bGread_plan,
    gGread_plan := PySem.W.mg_of X G aGread_plan,
    kGread_plan := kGread_plan,
    FGanswer := FGanswer,
    bGanswer := bGanswer,
    gGanswer := PySem.W.mg_of X G aGanswer,
    kGanswer := kGanswer,
    FGanswers := FGanswers,
    bGanswers := bGanswers,
    gGanswers := PySem.W.mg_of X G aGanswers,
    kGanswers := kGanswers,
    iCALL_START := ⟨tCALL_START, PySem.W.mg_of X G gCALL_START⟩,
    iCALL_ENDED := ⟨tCALL_ENDED, PySem.W.mg_of X G gCALL_ENDED⟩,
    iCALL_STOP := ⟨tCALL_STOP, PySem.W.mg_of X G gCALL_STOP⟩,
    iCALL_TICK := ⟨tCALL_TICK, PySem.W.mg_of X G gCALL_TICK⟩,
    iDONE := ⟨tDONE, PySem.W.mg_of X G gDONE⟩,
    iWRONG := ⟨tWRONG, PySem.W.mg_of X G gWRONG⟩,
    iIS_OFF := ⟨tIS_OFF, PySem.W.mg_of X G gIS_OFF⟩,
    iTOO_LATE := ⟨tTOO_LATE, PySem.W.mg_of X G gTOO_LATE⟩,
    iTELL_BEGIN := ⟨tTELL_BEGIN, PySem.W.mg_of X G gTELL_BEGIN⟩,
    iTELL_HALT := ⟨tTELL_HALT, PySem.W.mg_of X G gTELL_HALT⟩,
    iTELL_OVER := ⟨tTELL_OVER, PySem.W.mg_of X G gTELL_OVER⟩,
    iKEEPING := ⟨tKEEPING, PySem.W.mg_of X G gKEEPING⟩,
    iBEGINNING_ANEW := ⟨tBEGINNING_ANEW, PySem.W.mg_of X G gBEGINNING_ANEW⟩,
    iENDING := ⟨tENDING, PySem.W.mg_of X G gENDING⟩,
    iOVER := ⟨tOVER, PySem.W.mg_of X G gOVER⟩,
    iWAY_ALL := ⟨tWAY_ALL, PySem.W.mg_of X G gWAY_ALL⟩,
    iWAY_BEHIND := ⟨tWAY_BEHIND, PySem.W.mg_of X G gWAY_BEHIND⟩,
    iHOW_ALWAYS := ⟨tHOW_ALWAYS, PySem.W.mg_of X G gHOW_ALWAYS⟩,
    iHOW_UNLESS_WELL := ⟨tHOW_UNLESS_WELL, PySem.W.mg_of X G gHOW_UNLESS_WELL⟩,
    iWHY_ASKED_FOR := ⟨tWHY_ASKED_FOR, PySem.W.mg_of X G gWHY_ASKED_FOR⟩,
    iWHY_TOO_OFTEN := ⟨tWHY_TOO_OFTEN, PySem.W.mg_of X G gWHY_TOO_OFTEN⟩,
    iLARGEST_WAY := ⟨tLARGEST_WAY, PySem.W.mg_of X G gLARGEST_WAY⟩,
    iLARGEST_MOST := ⟨tLARGEST_MOST, PySem.W.mg_of X G gLARGEST_MOST⟩,
    iLARGEST_WITHIN := ⟨tLARGEST_WITHIN, PySem.W.mg_of X G gLARGEST_WITHIN⟩,
    iLARGEST_COUNT := ⟨tLARGEST_COUNT, PySem.W.mg_of X G gLARGEST_COUNT⟩,
    iLARGEST_HOW := ⟨tLARGEST_HOW, PySem.W.mg_of X G gLARGEST_HOW⟩,
    iLARGEST_PATIENCE := ⟨tLARGEST_PATIENCE, PySem.W.mg_of X G gLARGEST_PATIENCE⟩,
    orange := PySem.W.mg_none_of X G brange,
    omax := PySem.W.mg_none_of X G bmax,
    osum := PySem.W.mg_none_of X G bsum,
    olen := PySem.W.mg_none_of X G blen,
    olist := PySem.W.mg_none_of X G blist }
  exact ⟨_, fun s v => .of_eq rfl, fun base _ _ => ok_answers T⟩
end Ck
open PySem PySem.W PyProof.Rows
set_option maxRecDepth 100000 in
set_option maxHeartbeats 0 in
theorem PySem.Challenge.cw_childkeep_s01_answers_holds : PySem.Challenge.rw_childkeep_s01_answers.Holds := by
  w_on; k_headS; (case hw => exact ⟨[.list [.int 0, .int 0, .int 0, .int 1, .int 1, .int 8, .int 0, .int 0, .int 0, .int 0, .int 0, .int 0, .int 0, .int 0, .int 8, .int 0, .int 0, .int 0, .int 0, .int 0, .int 0, .int 0, .int 0]], by decide +kernel, by decide +kernel⟩)
  k_fillS
  refine Ck.walkS (k := 9) (by decide +kernel) rfl ⟨rfl, by decide, by decide⟩ (fun w h Y => PySem.W.kIn_of Y) ?F
  case F =>
    intro w mg fa h KX G hmg
    refine' Ck.all_mk KX G hmg ?aP ?aK ?aR ?aPinit ?iPinit ?lPinit ?cPinit ?kPinit ?aPis_right ?iPis_right ?lPis_right ?cPis_right ?kPis_right ?aPis_begun_anew ?iPis_begun_anew ?lPis_begun_anew ?cPis_begun_anew ?kPis_begun_anew ?aPbeside ?iPbeside ?lPbeside ?cPbeside ?kPbeside ?aKinit ?iKinit ?lKinit ?cKinit ?kKinit ?aKstart ?iKstart ?lKstart ?cKstart ?kKstart ?aKended ?iKended ?lKended ?cKended ?kKended ?aKstop ?iKstop ?lKstop ?cKstop ?kKstop ?aKtick ?iKtick ?lKtick ?cKtick ?kKtick ?aKlook ?iKlook ?lKlook ?cKlook ?kKlook ?aKtell ?iKtell ?lKtell ?cKtell ?kKtell ?aKbegin ?iKbegin ?lKbegin ?cKbegin ?kKbegin ?aKask ?iKask ?lKask ?cKask ?kKask ?aKunmark ?iKunmark ?lKunmark ?cKunmark ?kKunmark ?aKmark ?iKmark ?lKmark ?cKmark ?kKmark ?aKnote ?iKnote ?lKnote ?cKnote ?kKnote ?aKbegin_anew ?iKbegin_anew ?lKbegin_anew ?cKbegin_anew ?kKbegin_anew ?aKend_for ?iKend_for ?lKend_for ?cKend_for ?kKend_for ?aKon_with_it ?iKon_with_it ?lKon_with_it ?cKon_with_it ?kKon_with_it ?aKis_to_be_asked ?iKis_to_be_asked ?lKis_to_be_asked ?cKis_to_be_asked ?kKis_to_be_asked ?aKbegin_marked ?iKbegin_marked ?lKbegin_marked ?cKbegin_marked ?kKbegin_marked ?aRinit ?iRinit ?lRinit ?cRinit ?kRinit ?aRhas_more ?iRhas_more ?lRhas_more ?cRhas_more ?kRhas_more ?aRnumber ?iRnumber ?lRnumber ?cRnumber ?kRnumber ?aRrow ?iRrow ?lRrow ?cRrow ?kRrow ?aGread_plan ?lGread_plan ?cGread_plan ?kGread_plan ?aGanswer ?lGanswer ?cGanswer ?kGanswer ?aGanswers ?lGanswers ?cGanswers ?kGanswers ?pgP ?hdP ?poP ?saP ?mkP ?kcP ?nPway ?nPmost ?nPwithin ?nPcount ?nPhow ?nPpatience ?pgK ?hdK ?poK ?saK ?mkK ?kcK ?nKtold ?nKplan ?nKmode ?nKwhy ?nKnow ?nKnotes ?nKon ?nKmarked ?nKstopping ?nKleft ?pgR ?hdR ?poR ?saR ?mkR ?kcR ?nRnumbers ?nRplace ?gCALL_START ?gCALL_ENDED ?gCALL_STOP ?gCALL_TICK ?gDONE ?gWRONG ?gIS_OFF ?gTOO_LATE ?gTELL_BEGIN ?gTELL_HALT ?gTELL_OVER ?gKEEPING ?gBEGINNING_ANEW ?gENDING ?gOVER ?gWAY_ALL ?gWAY_BEHIND ?gHOW_ALWAYS ?gHOW_UNLESS_WELL ?gWHY_ASKED_FOR ?gWHY_TOO_OFTEN ?gLARGEST_WAY ?gLARGEST_MOST ?gLARGEST_WITHIN ?gLARGEST_COUNT ?gLARGEST_HOW ?gLARGEST_PATIENCE ?brange ?bmax ?bsum ?blen ?blist
    (case aP => k_is)
    (case aK => k_is)
    (case aR => k_is)
    (case aPinit => k_is)
    (case iPinit => k_is)
    (case lPinit => k_is)
    (case cPinit => k_is)
    (case kPinit => k_is)
    (case aPis_right => k_is)
    (case iPis_right => k_is)
    (case lPis_right => k_is)
    (case cPis_right => k_is)
    (case kPis_right => k_is)
    (case aPis_begun_anew => k_is)
    (case iPis_begun_anew => k_is)
    (case lPis_begun_anew => k_is)
    (case cPis_begun_anew => k_is)
    (case kPis_begun_anew => k_is)
    (case aPbeside => k_is)
    (case iPbeside => k_is)
    (case lPbeside => k_is)
    (case cPbeside => k_is)
    (case kPbeside => k_is)
    (case aKinit => k_is)
    (case iKinit => k_is)
    (case lKinit => k_is)
    (case cKinit => k_is)
    (case kKinit => k_is)
    (case aKstart => k_is)
    (case iKstart => k_is)
    (case lKstart => k_is)
    (case cKstart => k_is)
    (case kKstart => k_is)
    (case aKended => k_is)
    (case iKended => k_is)
    (case lKended => k_is)
    (case cKended => k_is)
    (case kKended => k_is)
    (case aKstop => k_is)
    (case iKstop => k_is)
    (case lKstop => k_is)
    (case cKstop => k_is)
    (case kKstop => k_is)
    (case aKtick => k_is)
    (case iKtick => k_is)
    (case lKtick => k_is)
    (case cKtick => k_is)
    (case kKtick => k_is)
    (case aKlook => k_is)
    (case iKlook => k_is)
    (case lKlook => k_is)
    (case cKlook => k_is)
    (case kKlook => k_is)
    (case aKtell => k_is)
    (case iKtell => k_is)
    (case lKtell => k_is)
    (case cKtell => k_is)
    (case kKtell => k_is)
    (case aKbegin => k_is)
    (case iKbegin => k_is)
    (case lKbegin => k_is)
    (case cKbegin => k_is)
    (case kKbegin => k_is)
    (case aKask => k_is)
    (case iKask => k_is)
    (case lKask => k_is)
    (case cKask => k_is)
    (case kKask => k_is)
    (case aKunmark => k_is)
    (case iKunmark => k_is)
    (case lKunmark => k_is)
    (case cKunmark => k_is)
    (case kKunmark => k_is)
    (case aKmark => k_is)
    (case iKmark => k_is)
    (case lKmark => k_is)
    (case cKmark => k_is)
    (case kKmark => k_is)
    (case aKnote => k_is)
    (case iKnote => k_is)
    (case lKnote => k_is)
    (case cKnote => k_is)
    (case kKnote => k_is)
    (case aKbegin_anew => k_is)
    (case iKbegin_anew => k_is)
    (case lKbegin_anew => k_is)
    (case cKbegin_anew => k_is)
    (case kKbegin_anew => k_is)
    (case aKend_for => k_is)
    (case iKend_for => k_is)
    (case lKend_for => k_is)
    (case cKend_for => k_is)
    (case kKend_for => k_is)
    (case aKon_with_it => k_is)
    (case iKon_with_it => k_is)
    (case lKon_with_it => k_is)
    (case cKon_with_it => k_is)
    (case kKon_with_it => k_is)
    (case aKis_to_be_asked => k_is)
    (case iKis_to_be_asked => k_is)
    (case lKis_to_be_asked => k_is)
    (case cKis_to_be_asked => k_is)
    (case kKis_to_be_asked => k_is)
    (case aKbegin_marked => k_is)
    (case iKbegin_marked => k_is)
    (case lKbegin_marked => k_is)
    (case cKbegin_marked => k_is)
    (case kKbegin_marked => k_is)
    (case aRinit => k_is)
    (case iRinit => k_is)
    (case lRinit => k_is)
    (case cRinit => k_is)
    (case kRinit => k_is)
    (case aRhas_more => k_is)
    (case iRhas_more => k_is)
    (case lRhas_more => k_is)
    (case cRhas_more => k_is)
    (case kRhas_more => k_is)
    (case aRnumber => k_is)
    (case iRnumber => k_is)
    (case lRnumber => k_is)
    (case cRnumber => k_is)
    (case kRnumber => k_is)
    (case aRrow => k_is)
    (case iRrow => k_is)
    (case lRrow => k_is)
    (case cRrow => k_is)
    (case kRrow => k_is)
    (case aGread_plan => k_is)
    (case lGread_plan => k_is)
    (case cGread_plan => k_is)
    (case kGread_plan => k_is)
    (case aGanswer => k_is)
    (case lGanswer => k_is)
    (case cGanswer => k_is)
    (case kGanswer => k_is)
    (case aGanswers => k_is)
    (case lGanswers => k_is)
    (case cGanswers => k_is)
    (case kGanswers => k_is)
    (case pgP => k_is)
    (case hdP => k_is)
    (case poP => k_is)
    (case saP => k_is)
    (case mkP => k_is)
    (case kcP => k_is)
    (case nPway => k_is)
    (case nPmost => k_is)
    (case nPwithin => k_is)
    (case nPcount => k_is)
    (case nPhow => k_is)
    (case nPpatience => k_is)
    (case pgK => k_is)
    (case hdK => k_is)
    (case poK => k_is)
    (case saK => k_is)
    (case mkK => k_is)
    (case kcK => k_is)
    (case nKtold => k_is)
    (case nKplan => k_is)
    (case nKmode => k_is)
    (case nKwhy => k_is)
    (case nKnow => k_is)
    (case nKnotes => k_is)
    (case nKon => k_is)
    (case nKmarked => k_is)
    (case nKstopping => k_is)
    (case nKleft => k_is)
    (case pgR => k_is)
    (case hdR => k_is)
    (case poR => k_is)
    (case saR => k_is)
    (case mkR => k_is)
    (case kcR => k_is)
    (case nRnumbers => k_is)
    (case nRplace => k_is)
    (case gCALL_START => k_is)
    (case gCALL_ENDED => k_is)
    (case gCALL_STOP => k_is)
    (case gCALL_TICK => k_is)
    (case gDONE => k_is)
    (case gWRONG => k_is)
    (case gIS_OFF => k_is)
    (case gTOO_LATE => k_is)
    (case gTELL_BEGIN => k_is)
    (case gTELL_HALT => k_is)
    (case gTELL_OVER => k_is)
    (case gKEEPING => k_is)
    (case gBEGINNING_ANEW => k_is)
    (case gENDING => k_is)
    (case gOVER => k_is)
    (case gWAY_ALL => k_is)
    (case gWAY_BEHIND => k_is)
    (case gHOW_ALWAYS => k_is)
    (case gHOW_UNLESS_WELL => k_is)
    (case gWHY_ASKED_FOR => k_is)
    (case gWHY_TOO_OFTEN => k_is)
    (case gLARGEST_WAY => k_is)
    (case gLARGEST_MOST => k_is)
    (case gLARGEST_WITHIN => k_is)
    (case gLARGEST_COUNT => k_is)
    (case gLARGEST_HOW => k_is)
    (case gLARGEST_PATIENCE => k_is)
    (case brange => k_is)
    (case bmax => k_is)
    (case bsum => k_is)
    (case blen => k_is)
    (case blist => k_is)
#print axioms PySem.Challenge.cw_childkeep_s01_answers_holds
