import PyProof.Rows.All
import Wide.All
import OpenK.AllK
import Wide.FinOn
import PyProof.EqAt
import PyProof.EqKinds
import PyProof.TupleCall
import KE.BitLaws
import Open.SpecLaws
import KE.OsHead
import KE.OsGo
import PySem.Challenge.RW_nowaiting_s01_answers
set_option Elab.async false
set_option linter.all false
set_option maxRecDepth 100000
/-! THE HAND LAYER, for ints, bools, texts, own classes, lists, tuples, dicts, comprehensions, walks over dicts, enumerate, zip, reversed, texts, calls, loops. Paste it whole ahead of your own text; what your proof does not reach may be deleted. -/
namespace L2
open PySem PySem.Spec PyProof.Rows

/-- a key: an int or a str -/
abbrev Key := Sum Int Str
def keyIs : Key → Value → Bool
  | .inl k, v => Value.isInt k v
  | .inr x, v => Value.isStrOf x v
def keyH (w : World) : Key → Int
  | .inl k => hashInt k
  | .inr x => hashStr w x
theorem keyIs_shape : ∀ {k : Key} {v : Value}, keyIs k v = true → (∃ i t, k = Sum.inl i ∧ v = Value.int i t) ∨ (∃ x t, k = Sum.inr x ∧ v = Value.str x t)
  | .inl i, v, h => by
    obtain ⟨t, e⟩ := Value.isInt_shape (k := i) (v := v) h
    exact .inl ⟨i, t, rfl, e⟩
  | .inr x, v, h => by
    obtain ⟨t, e⟩ := Value.isStrOf_shape (x := x) (v := v) h
    exact .inr ⟨x, t, rfl, e⟩
theorem keyIs_int (i : Int) (t : Tok) : keyIs (.inl i) (.int i t) = true := by simp [keyIs, Value.isInt]
theorem keyIs_str (x : Str) (t : Tok) : keyIs (.inr x) (.str x t) = true := by simp [keyIs, Value.isStrOf]
theorem key_ll (a b : Int) : decide ((Sum.inl a : Key) = Sum.inl b) = (a == b) := by
  by_cases e : a = b
  · subst e; simp
  · have h : ¬ (Sum.inl a : Key) = Sum.inl b := fun q => e (Sum.inl.inj q)
    rw [decide_eq_false h]
    exact (beq_eq_false_iff_ne.mpr e).symm
theorem key_rr (a b : Str) : decide ((Sum.inr a : Key) = Sum.inr b) = decide (a = b) := by
  by_cases e : a = b
  · subst e; simp
  · have h : ¬ (Sum.inr a : Key) = Sum.inr b := fun q => e (Sum.inr.inj q)
    rw [decide_eq_false h, decide_eq_false e]
theorem key_lr (a : Int) (b : Str) : decide ((Sum.inl a : Key) = Sum.inr b) = false := decide_eq_false (fun q => nomatch q)
theorem key_rl (a : Str) (b : Int) : decide ((Sum.inr a : Key) = Sum.inl b) = false := decide_eq_false (fun q => nomatch q)

def mixKind (prog : Program) (w : World) : PySem.KeyKind prog w Key where
  is := keyIs
  hash := keyH w
  inj := fun v a b ha hb => by
    rcases keyIs_shape ha with ⟨i, t, rfl, rfl⟩ | ⟨x, t, rfl, rfl⟩
    · rcases keyIs_shape hb with ⟨j, u, rfl, e⟩ | ⟨y, u, rfl, e⟩
      · injection e with e1 _; rw [e1]
      · exact nomatch e
    · rcases keyIs_shape hb with ⟨j, u, rfl, e⟩ | ⟨y, u, rfl, e⟩
      · exact nomatch e
      · injection e with e1 _; rw [e1]
  byValue := fun k v h => by
    rcases keyIs_shape h with ⟨i, t, rfl, rfl⟩ | ⟨x, t, rfl, rfl⟩ <;> rfl
  pyHash := fun hv h => by
    rcases keyIs_shape hv with ⟨i, t, rfl, rfl⟩ | ⟨x, t, rfl, rfl⟩
    · exact wpAny_pyHash_int h
    · exact wpAny_pyHash_str h
  eqBool := fun hu hv h => by
    rcases keyIs_shape hu with ⟨i, t, rfl, rfl⟩ | ⟨x, t, rfl, rfl⟩
    · rcases keyIs_shape hv with ⟨j, u, rfl, rfl⟩ | ⟨y, u, rfl, rfl⟩
      · rw [key_ll] at h; exact wpAny_eqBool_int h
      · rw [key_lr] at h; exact SeqAt.EqAt.int_str i t y u _ _ _ _ h
    · rcases keyIs_shape hv with ⟨j, u, rfl, rfl⟩ | ⟨y, u, rfl, rfl⟩
      · rw [key_rl] at h; exact SeqAt.EqAt.str_int x t j u _ _ _ _ h
      · rw [key_rr] at h; exact wpAny_eqBool_str h
  «strs» := fun k x t v h => by
    rcases keyIs_shape h with ⟨i, u, rfl, e⟩ | ⟨y, u, rfl, e⟩
    · exact nomatch e
    · injection e with e1 _
      subst e1
      cases v <;> rfl

theorem mixKind_int (prog : Program) (w : World) (i : Int) (t : Tok) : (mixKind prog w).is (.inl i) (.int i t) = true := keyIs_int i t
theorem mixKind_str (prog : Program) (w : World) (x : Str) (t : Tok) : (mixKind prog w).is (.inr x) (.str x t) = true := keyIs_str x t
end L2

namespace L2
open PySem PySem.Spec PyProof.Rows

/-- a value, without the heap -/
inductive V where
  | non | bl (b : Bool) | int (i : Int) | str (x : Str) | byt (b : Array UInt8) | flt (b : UInt64) | ref (a : Addr) | ty (n : String)
  deriving DecidableEq

def RelV : V → Value → Prop
  | .non, u => u = Value.none
  | .bl b, u => u = Value.bool b
  | .int i, u => ∃ t, u = Value.int i t
  | .str x, u => ∃ t, u = Value.str x t
  | .byt b, u => ∃ t, u = Value.bytes b t
  | .flt b, u => ∃ t, u = Value.float b t
  | .ref a, u => u = Value.ref a
  | .ty n, u => u = Value.type n

abbrev Vals : List V → List Value → Prop := Paired RelV
theorem Vals.length {xs : List V} {us : List Value} (r : Vals xs us) : xs.length = us.length := Paired.length r
theorem Vals.get : ∀ {xs : List V} {us : List Value} {i : Nat} {x : V}, Vals xs us → xs[i]? = some x → ∃ u, us[i]? = some u ∧ RelV x u
  | _, _, _, _, .nil, e => by simp at e
  | _, _, 0, _, .cons r _, e => by simp at e; subst e; exact ⟨_, rfl, r⟩
  | _, _, i + 1, x, .cons _ t, e => by
    obtain ⟨u, h1, h2⟩ := Vals.get (i := i) (x := x) t (by simpa using e)
    exact ⟨u, by simpa using h1, h2⟩
theorem Vals.set {x : V} {u : Value} (r : RelV x u) : ∀ {xs : List V} {us : List Value} (i : Nat), Vals xs us → Vals (xs.set i x) (us.set i u)
  | _, _, _, .nil => .nil
  | _, _, 0, .cons _ t => .cons r t
  | _, _, i + 1, .cons q t => .cons q (Vals.set r i t)
theorem Vals.append : ∀ {xs ys : List V} {us ws : List Value}, Vals xs us → Vals ys ws → Vals (xs ++ ys) (us ++ ws)
  | _, _, _, _, .nil, s => s
  | _, _, _, _, .cons r t, s => .cons r (Vals.append t s)
theorem Vals.take : ∀ {xs : List V} {us : List Value} (n : Nat), Vals xs us → Vals (xs.take n) (us.take n)
  | _, _, 0, _ => .nil
  | _, _, _ + 1, .nil => .nil
  | _, _, n + 1, .cons r t => .cons r (Vals.take n t)
theorem Vals.drop : ∀ {xs : List V} {us : List Value} (n : Nat), Vals xs us → Vals (xs.drop n) (us.drop n)
  | _, _, 0, r => r
  | _, _, _ + 1, .nil => .nil
  | _, _, n + 1, .cons _ t => Vals.drop n t
theorem Vals.none_of : ∀ {xs : List V} {us : List Value} {i : Nat}, Vals xs us → xs[i]? = none → us[i]? = none := fun {xs us i} r e => by
  have h1 := r.length
  have h2 : xs.length ≤ i := List.getElem?_eq_none_iff.mp e
  exact List.getElem?_eq_none_iff.mpr (by omega)

def RelO : Option V → Option Value → Prop
  | some v, some u => RelV v u
  | none, none => True
  | _, _ => False
def KV {κ : Type} : List (κ × V) → List (κ × Value) → Prop := Paired fun (p : κ × V) (q : κ × Value) => p.1 = q.1 ∧ RelV p.2 q.2

/-- a key of a dict (00_mix): an int or a text -/
def kV : Key → V
  | .inl i => .int i
  | .inr x => .str x

/-- what stands at a tracked address -/
inductive HO where
  /-- a list -/
  | lst (xs : List V)
  /-- a tuple (never changes) -/
  | tup (xs : List V)
  /-- a dict whose keys are ints and texts; one whose keys are tuples of ints and texts (the empty one is both) -/
  | dK (kvs : List (Key × V)) | dT (kvs : List (List Key × V))
  /-- a set of ints: its members, its size -/
  | set (S : Int → Bool) (n : Nat)
  /-- an instance of the class at C, its dict at dx, its attributes -/
  | ins (C dx : Addr) (fs : List (Str × V))
  /-- the dict of the instance at x -/
  | own (x : Addr)
  /-- the dict of an exception -/
  | xd (fs : List (Str × V))
  /-- a bound method, f of x -/
  | met (f x : Addr)
  /-- a range object lo, lo + 1, .. below hi -/
  | rng (lo hi : Int)
  /-- a thing that is known to the object (the script; a dict while a loop walks it): read, never written while it is so -/
  | frz (o : Obj) (u : HO)
  /-- a code object's table -/
  | tbl (ps : Array Value)
  /-- any other thing, by what is true of its one object (a def of one's own: SetO a S n := HO.ext fun h => ..) -/
  | ext (φ : Heap → Prop)

abbrev Hp := Addr → Option HO
def upd (H : Hp) (a : Addr) (o : HO) : Hp := fun b => if b = a then some o else H b
theorem upd_same {H : Hp} {a : Addr} {o : HO} : upd H a o a = some o := by unfold upd; rw [if_pos rfl]
theorem upd_ne {H : Hp} {a b : Addr} {o : HO} (h : b ≠ a) : upd H a o b = H b := by unfold upd; rw [if_neg h]
theorem upd_upd {H : Hp} {a : Addr} {o u : HO} : upd (upd H a o) a u = upd H a u := by
  funext b; unfold upd; split <;> rfl
/-- two objects of different content stand apart -/
theorem ne_of {H : Hp} {a b : Addr} {o u : HO} (h : H a = some o) (h' : H b = some u) (d : o ≠ u) : a ≠ b := by
  intro e; subst e; rw [h] at h'; exact d (Option.some.inj h')
theorem ne_of_none {H : Hp} {a b : Addr} {o : HO} (h : H a = some o) (h' : H b = none) : a ≠ b := by
  intro e; subst e; rw [h] at h'; cases h'

section
variable (P : Program) (w : World)
def ObjOk (H : Hp) (h : Heap) (a : Addr) : HO → Prop
  | .lst xs => xs.length ≤ sizeLine ∧ ∃ (its : List Value) (n : Nat), Vals xs its ∧ h.get? a = some { cls := .type "list", data := .seq its.toArray n }
  | .tup xs => xs.length ≤ sizeLine ∧ ∃ its : List Value, Vals xs its ∧ IsTup h a its.toArray
  | .dK kvs => kvs.length ≤ sizeLine ∧ (a == sysModules) = false ∧ ∃ vs, KV kvs vs ∧ h.DictOf (mixKind P w) a vs
  | .dT kvs => kvs.length ≤ sizeLine ∧ (a == sysModules) = false ∧ ∃ xs : List (List Key × Addr × Value),
      Paired (fun (p : List Key × V) (q : List Key × Addr × Value) => p.1 = q.1 ∧ H q.2.1 = some (.tup (p.1.map kV)) ∧ RelV p.2 q.2.2) kvs xs ∧
      ∃ o es ep, h.get? a = some o ∧ o.ExactDict ∧ o.data = .dict es ep ∧ es.toList = xs.map (entryOfKey (tupleKind (mixKind P w))) ∧ (xs.map (·.1)).Nodup
  | .set S n => h.SetOf (intKind P w) a S n
  | .ins C dx fs => H dx = some (.own a) ∧ fs.length ≤ 1000 ∧ dx ≠ a ∧ h.get? a = some (PySem.W.instObj C dx) ∧
      ∃ mA, h.Ns1 dx mA ∧ (∀ f, RelO (fs.lookup f) (mA f)) ∧ PySem.Within mA (fs.map (·.1))
  | .own _ => ∃ o, h.get? a = some o
  | .xd fs => ∃ mA, h.Ns1 a mA ∧ ∀ f, RelO (fs.lookup f) (mA f)
  | .rng lo hi => ∃ t u v, h.get? a = some { cls := .type "range", data := .fields #[.int lo t, .int hi u, .int 1 v] }
  | .frz o u => h.get? a = some o ∧ ObjOk H h a u
  | .tbl ps => h.get? a = some { cls := .none, data := .fields ps }
  | .met f x => h.get? a = some (PySem.W.methodObj (.ref f) (.ref x))
  | .ext φ => φ h ∧ (∃ o, h.get? a = some o) ∧ ∀ h1 h2 : Heap, φ h1 → (∀ o, h1.get? a = some o → h2.get? a = some o) → φ h2
/-- the abstract heap is held -/
def HOk (H : Hp) (h : Heap) : Prop := ∀ a o, H a = some o → ObjOk P w H h a o
end

section
variable {P : Program} {w : World} {H H' : Hp} {h h' : Heap} {a : Addr} {o : HO}
theorem ObjOk.lt (x : ObjOk P w H h a o) : a < h.objs.size := by
  cases o with
  | lst xs => obtain ⟨_, _, _, _, e⟩ := x; exact Heap.lt_size e
  | tup xs => obtain ⟨_, _, _, p⟩ := x; exact p.lt
  | dK kvs => obtain ⟨_, _, _, _, o, _, _, e, _⟩ := x; exact Heap.lt_size e
  | dT kvs => obtain ⟨_, _, _, _, o, _, _, e, _⟩ := x; exact Heap.lt_size e
  | set S n => obtain ⟨o, _, _, _, e, _⟩ := x; exact Heap.lt_size e
  | ins C dx fs => obtain ⟨_, _, _, e, _⟩ := x; exact Heap.lt_size e
  | own y => obtain ⟨_, e⟩ := x; exact Heap.lt_size e
  | xd fs => obtain ⟨_, ⟨_, _, _, e, _⟩, _⟩ := x; exact Heap.lt_size e
  | rng lo hi => obtain ⟨_, _, _, e⟩ := x; exact Heap.lt_size e
  | frz ob u => obtain ⟨e, _⟩ := x; exact Heap.lt_size e
  | tbl ps => exact Heap.lt_size (show h.get? a = some _ from x)
  | met f y => exact Heap.lt_size (show h.get? a = some _ from x)
  | ext φ => obtain ⟨_, ⟨_, e⟩, _⟩ := x; exact Heap.lt_size e
theorem Paired.mapP {α β : Type} {F G : α → β → Prop} : ∀ {l₁ : List α} {l₂ : List β}, Paired F l₁ l₂ → (∀ a b, F a b → G a b) → Paired G l₁ l₂
  | _, _, .nil, _ => .nil
  | _, _, .cons r t, f => .cons (f _ _ r) (Paired.mapP t f)
/-- what an object's description leans on: its own object, its own dict, the tuples -/
theorem ObjOk.stay (x : ObjOk P w H h a o) (k : ∀ b u, (b = a ∨ H b = some (.own a)) → h.get? b = some u → h'.get? b = some u)
    (ho : ∀ b, H b = some (.own a) → H' b = some (.own a)) (ht : ∀ b xs, H b = some (.tup xs) → H' b = some (.tup xs)) : ObjOk P w H' h' a o := by
  induction o with
  | lst xs => obtain ⟨z, its, n, r, e⟩ := x; exact ⟨z, its, n, r, k _ _ (.inl rfl) e⟩
  | tup xs => obtain ⟨z, its, r, ob, e, c⟩ := x; exact ⟨z, its, r, ob, k _ _ (.inl rfl) e, c⟩
  | dK kvs => obtain ⟨z, y, vs, r, ob, es, ep, e, c⟩ := x; exact ⟨z, y, vs, r, ob, es, ep, k _ _ (.inl rfl) e, c⟩
  | dT kvs =>
    obtain ⟨z, y, xs, r, ob, es, ep, e, c⟩ := x
    exact ⟨z, y, xs, Paired.mapP r fun p q z => ⟨z.1, ht _ _ z.2.1, z.2.2⟩, ob, es, ep, k _ _ (.inl rfl) e, c⟩
  | set S n => obtain ⟨ob, es, ep, t, e, c⟩ := x; exact ⟨ob, es, ep, t, k _ _ (.inl rfl) e, c⟩
  | ins C dx fs =>
    obtain ⟨d, z, ne, e, mA, ⟨od, es, ep, e2, c⟩, r⟩ := x
    exact ⟨ho _ d, z, ne, k _ _ (.inl rfl) e, mA, ⟨od, es, ep, k _ _ (.inr d) e2, c⟩, r⟩
  | own y => obtain ⟨ob, e⟩ := x; exact ⟨ob, k _ _ (.inl rfl) e⟩
  | xd fs => obtain ⟨mA, ⟨od, es, ep, e, c⟩, r⟩ := x; exact ⟨mA, ⟨od, es, ep, k _ _ (.inl rfl) e, c⟩, r⟩
  | rng lo hi => obtain ⟨t, u, v, e⟩ := x; exact ⟨t, u, v, k _ _ (.inl rfl) e⟩
  | frz ob u ih => obtain ⟨e, q⟩ := x; exact ⟨k _ _ (.inl rfl) e, ih q⟩
  | tbl ps =>
    have e : h.get? a = some { cls := .none, data := .fields ps } := x
    show h'.get? a = some { cls := .none, data := .fields ps }
    exact k a _ (.inl rfl) e
  | met f y =>
    have e : h.get? a = some (PySem.W.methodObj (.ref f) (.ref y)) := x
    show h'.get? a = some (PySem.W.methodObj (.ref f) (.ref y))
    exact k a _ (.inl rfl) e
  | ext φ => obtain ⟨p, ⟨o, e⟩, st⟩ := x; exact ⟨st _ _ p fun o q => k _ _ (.inl rfl) q, ⟨o, k _ _ (.inl rfl) e⟩, st⟩
theorem HOk.lt (x : HOk P w H h) (e : H a = some o) : a < h.objs.size := (x a o e).lt
theorem HOk.fresh (x : HOk P w H h) (e : h.objs.size ≤ a) : H a = none := by
  cases q : H a with
  | none => rfl
  | some u => exact absurd (Nat.lt_of_lt_of_le (x.lt q) e) (Nat.lt_irrefl _)
/-- every object of the heap is kept -/
theorem HOk.kept (x : HOk P w H h) (k : ∀ b u, h.get? b = some u → h'.get? b = some u) : HOk P w H h' := fun a o e =>
  (x a o e).stay (fun b u _ q => k b u q) (fun _ q => q) fun _ _ q => q
/-- a new object is laid and tracked -/
theorem HOk.laid (x : HOk P w H h) (k : ∀ b u, h.get? b = some u → h'.get? b = some u) (hp : h.objs.size ≤ a) (new : ObjOk P w (upd H a o) h' a o) : HOk P w (upd H a o) h' := fun b u e => by
  have hn := x.fresh hp
  by_cases hb : b = a
  · subst hb; rw [upd_same] at e; cases e; exact new
  · rw [upd_ne hb] at e
    exact (x b u e).stay (fun c v _ q => k c v q) (fun c q => by rw [upd_ne (ne_of_none q hn)]; exact q) fun c xs q => by rw [upd_ne (ne_of_none q hn)]; exact q
end

/-- what may be read as u: it is u, or a known u -/
def Rd (H : Hp) (a : Addr) (u : HO) : Prop := H a = some u ∨ ∃ o, H a = some (.frz o u)
theorem Rd.of {H : Hp} {a : Addr} {u : HO} (h : H a = some u) : Rd H a u := .inl h
theorem Rd.ok {P : Program} {w : World} {H : Hp} {h : Heap} {a : Addr} {u : HO} (r : Rd H a u) (x : HOk P w H h) : ObjOk P w H h a u := by
  rcases r with r | ⟨o, r⟩
  · exact x a u r
  · obtain ⟨_, q⟩ := x a _ r
    exact q
/-- what may be written -/
def Mut : Option HO → Prop
  | some (.lst _) => True
  | some (.dK _) => True
  | some (.dT _) => True
  | some (.set _ _) => True
  | some (.ins _ _ _) => True
  | some (.ext _) => True
  | _ => False
section
variable {P : Program} {w : World} {H : Hp} {h h' : Heap} {x e : Addr} {o' : HO}
/-- the object at e is changed: x itself, or the dict of the instance x -/
theorem HOk.write (ok : HOk P w H h) (mu : Mut (H x)) (he : e = x ∨ H e = some (.own x)) (k : ∀ b u, b ≠ e → h.get? b = some u → h'.get? b = some u) (heo : ∃ u, h'.get? e = some u)
    (new : ObjOk P w (upd H x o') h' x o') : HOk P w (upd H x o') h' := fun b u q => by
  have nown : ∀ c y, H c = some (.own y) → c ≠ x := fun c y r z => by subst z; rw [r] at mu; exact mu
  have ntup : ∀ c xs, H c = some (.tup xs) → c ≠ x := fun c xs r z => by subst z; rw [r] at mu; exact mu
  by_cases hb : b = x
  · subst hb; rw [upd_same] at q; cases q; exact new
  · rw [upd_ne hb] at q
    by_cases hbe : b = e
    · have q' : H b = some (.own x) := by
        rcases he with z | z
        · exact absurd (hbe.trans z) hb
        · rw [hbe]; exact z
      rw [q] at q'; cases q'
      obtain ⟨v, hv⟩ := heo
      exact ⟨v, by rw [hbe]; exact hv⟩
    · refine (ok b u q).stay (fun c v hc r => k c v ?_ r) (fun c r => by rw [upd_ne (nown c b r)]; exact r) fun c xs r => by rw [upd_ne (ntup c xs r)]; exact r
      rcases hc with rfl | hc
      · exact hbe
      · rintro rfl
        rcases he with z | z
        · exact nown c b hc z
        · rw [hc] at z; cases z; exact hb rfl
end

/-! ### kept unless tracked; of the frames at fs (the callers') the slots may change (an exception that passes writes there); of the records at ex (iterators) nothing is said -/
structure Un (fs ex : List Addr) (H H' : Hp) (h h' : Heap) : Prop where
  keep : ∀ b o, h.get? b = some o → H b = none → b ∉ fs → b ∉ ex → h'.get? b = some o
  slot : ∀ b o, h.get? b = some o → H b = none → b ∈ fs → b ∉ ex → ∃ sl, h'.get? b = some { o with slots := sl }
  free : ∀ b o, h.get? b = some o → H b = none → b ∉ ex → H' b = none
  there : ∀ b o, h.get? b = some o → b ∉ ex → ∃ o', h'.get? b = some o'
  tups : ∀ b xs, H b = some (.tup xs) → H' b = some (.tup xs)
  frzs : ∀ b o u, H b = some (.frz o u) → H' b = some (.frz o u)
  tbls : ∀ b ps, H b = some (.tbl ps) → ∃ more, H' b = some (.tbl (ps ++ more))
section
variable {fs fs' ex ex' : List Addr} {H H1 H2 : Hp} {h h1 h2 h' : Heap} {a x e : Addr} {o : HO}
theorem Un.any (u : Un fs ex H H1 h h1) {b : Addr} {ob : Obj} (q : h.get? b = some ob) (n : H b = none) (hx : b ∉ ex) : ∃ sl, h1.get? b = some { ob with slots := sl } := by
  by_cases hb : b ∈ fs
  · exact u.slot b ob q n hb hx
  · exact ⟨ob.slots, u.keep b ob q n hb hx⟩
theorem Un.trans (a : Un fs ex H H1 h h1) (b : Un fs ex H1 H2 h1 h2) : Un fs ex H H2 h h2 where
  keep := fun c ob q n hc hx => b.keep c ob (a.keep c ob q n hc hx) (a.free c ob q n hx) hc hx
  slot := fun c ob q n hc hx => by
    obtain ⟨sl, e1⟩ := a.slot c ob q n hc hx
    obtain ⟨sl', e2⟩ := b.slot c _ e1 (a.free c ob q n hx) hc hx
    exact ⟨sl', e2⟩
  free := fun c ob q n hx => by
    obtain ⟨o', e1⟩ := a.there c ob q hx
    exact b.free c o' e1 (a.free c ob q n hx) hx
  there := fun c ob q hx => by
    obtain ⟨o', e1⟩ := a.there c ob q hx
    exact b.there c o' e1 hx
  tups := fun c xs q => b.tups c xs (a.tups c xs q)
  frzs := fun c ob xs q => b.frzs c ob xs (a.frzs c ob xs q)
  tbls := fun c ps q => by
    obtain ⟨m1, e1⟩ := a.tbls c ps q
    obtain ⟨m2, e2⟩ := b.tbls c _ e1
    exact ⟨m1 ++ m2, by rw [e2, Array.append_assoc]⟩
theorem Un.kept (k : ∀ b u, h.get? b = some u → h'.get? b = some u) : Un fs ex H H h h' :=
  ⟨fun b ob q _ _ _ => k b ob q, fun b ob q _ _ _ => ⟨ob.slots, k b ob q⟩, fun _ _ _ n _ => n, fun b ob q _ => ⟨ob, k b ob q⟩, fun _ _ q => q, fun _ _ _ q => q, fun _ ps q => ⟨#[], by rw [q]; simp⟩⟩
theorem Un.refl : Un fs ex H H h h := Un.kept fun _ _ q => q
theorem Un.laid (k : ∀ b u, h.get? b = some u → h'.get? b = some u) (hp : h.objs.size ≤ a) (hn : H a = none) : Un fs ex H (upd H a o) h h' where
  keep := fun b u q _ _ _ => k b u q
  slot := fun b u q _ _ _ => ⟨u.slots, k b u q⟩
  free := fun b u q n _ => by rw [upd_ne (Nat.ne_of_lt (Nat.lt_of_lt_of_le (Heap.lt_size q) hp))]; exact n
  there := fun b u q _ => ⟨u, k b u q⟩
  tups := fun b xs q => by rw [upd_ne (ne_of_none q hn)]; exact q
  frzs := fun b u xs q => by rw [upd_ne (ne_of_none q hn)]; exact q
  tbls := fun b ps q => ⟨#[], by rw [upd_ne (ne_of_none q hn), q]; simp⟩
theorem Un.write (mu : Mut (H x)) (he : e = x ∨ H e = some (.own x)) (k : ∀ b u, b ≠ e → h.get? b = some u → h'.get? b = some u) (heo : ∃ u, h'.get? e = some u) : Un fs ex H (upd H x o) h h' := by
  have hx : ∀ b, H b = none → b ≠ x := fun b n z => by subst z; rw [n] at mu; exact mu
  have hb : ∀ b, H b = none → b ≠ e := fun b n z => by
    subst z
    rcases he with r | r
    · exact hx b n r
    · rw [n] at r; cases r
  have hm : ∀ b u, H b = some u → ¬ Mut (some u) → b ≠ x := fun b u q nm z => by subst z; rw [q] at mu; exact nm mu
  refine ⟨fun b u q n _ _ => k b u (hb b n) q, fun b u q n _ _ => ⟨u.slots, k b u (hb b n) q⟩, fun b u q n _ => by rw [upd_ne (hx b n)]; exact n, fun b u q _ => ?_,
    fun b xs q => by rw [upd_ne (hm b _ q fun z => z)]; exact q, fun b u xs q => by rw [upd_ne (hm b _ q fun z => z)]; exact q, fun b ps q => ⟨#[], by rw [upd_ne (hm b _ q fun z => z), q]; simp⟩⟩
  by_cases hbe : b = e
  · subst hbe; exact heo
  · exact ⟨u, k b u hbe q⟩
theorem Un.mono (u : Un fs ex H H1 h h1) (hs : ∀ b ∈ fs, b ∈ fs') (hx : ∀ b ∈ ex, b ∈ ex') : Un fs' ex' H H1 h h1 :=
  ⟨fun b ob q n hb he => u.keep b ob q n (fun z => hb (hs b z)) fun z => he (hx b z), fun _ _ q n _ he => u.any q n fun z => he (hx _ z), fun b ob q n he => u.free b ob q n fun z => he (hx b z), fun b ob q he => u.there b ob q fun z => he (hx b z), u.tups, u.frzs, u.tbls⟩
end

/-! ### the heap without what is tracked -/
def trk (h : Heap) (H : Hp) : List Addr := (List.range h.objs.size).filter fun a => (H a).isSome
def hidT (h : Heap) (H : Hp) : Heap := PySem.W.hideAll h (trk h H)
theorem hidT_size (h : Heap) (H : Hp) : (hidT h H).objs.size = h.objs.size := PySem.W.hideAll_size _ _
theorem hidT_get {h : Heap} {H : Hp} {b : Addr} {o : Obj} (e : h.get? b = some o) (n : H b = none) : (hidT h H).get? b = some o :=
  PySem.W.hideAll_get _ e fun hm => by
    have q : (H b).isSome = true := (List.mem_filter.mp hm).2
    rw [n] at q; simp at q
theorem of_hidT {h : Heap} {H : Hp} {b : Addr} {o : Obj} (e : (hidT h H).get? b = some o) : h.get? b = some o ∧ H b = none := by
  have e' : h.get? b = some o := PySem.W.of_hideAll (trk h H) e
  refine ⟨e', ?_⟩
  cases q : H b with
  | none => rfl
  | some x =>
    have hm : b ∈ trk h H := List.mem_filter.mpr ⟨List.mem_range.mpr (Heap.lt_size e'), by simp [q]⟩
    have z : (hidT h H).get? b = none := PySem.W.hideAll_none (trk h H) hm
    rw [z] at e; cases e

/-! ### OpenK's ledger, filled with every new object but one -/
def allNews (g h : Heap) (L : Addr) : List (Addr × Obj) := (List.range h.objs.size).filterMap fun a => if a = L ∨ (g.get? a).isSome = true then none else (h.get? a).map fun o => (a, o)
def rest (g h : Heap) (L d : Addr) : List (Addr × Obj) := (allNews g h L).filter fun p => decide (p.1 ≠ d)
end L2

namespace L2
open PySem PySem.Spec PyProof.Rows

/-- the module's facts, over the base: the heap at the law's entry without what is tracked there -/
structure Mod (K : PySem.W.Frag) (mg : Str → Option Value) (base : Heap) : Prop where
  kin : K.In base
  glob : base.Ns mainGlobals mg
  blt : ∃ mb, base.Ns builtinsNs mb ∧ ∀ x : Str, x ≠ "__name__" → mb x = bootBuiltins x
  nolimit : base.NoLimit

/-- the context: a def's body (or a comprehension's block) running. base: fixed through the whole law; s₀, H₀: the entry; outer: the frames whose slots others may change (a def's callers); stack: all frames that run;
   ex: iterators that were made ahead of the entry and are walked here (a comprehension's); fn: the names whose cells were made at the entry (a def: all; a comprehension's block: its own); calm: not within an except suite; pn: pins that every state bears; xe: what is wanted of an exception that leaves the code -/
structure Cx where
  prog : Program
  w : World
  K : PySem.W.Frag
  mg : Str → Option Value
  base : Heap
  A : Around
  N : List Str
  s_0 : Shared
  H_0 : Hp
  env : Env
  outer : List Env
  stack : List Env
  ex : List Addr
  fn : Str → Bool
  calm : Bool
  pn : List (Addr × Obj)
  xe : Value → Shared → Prop
/-- the callers' frames -/
def frs (l : List Env) : List Addr := l.filterMap (·.frame)
abbrev Cx.fs (X : Cx) : List Addr := frs X.outer

def Vis (sc : Scope) (x : Str) : Prop := sc.names.lookup x = some .local ∨ sc.names.lookup x = some .cell ∨ sc.names.lookup x = some .free
def Loc (sc : Scope) (x : Str) : Prop := sc.names.lookup x = some .local ∨ sc.names.lookup x = some .cell
def Look (env : Env) (h : Heap) (m : Str → Option Value) (x : Str) (u : Value) : Prop :=
  (env.kindOf x = some .local ∧ m x = some u) ∨ ((env.kindOf x = some .cell ∨ env.kindOf x = some .free) ∧ ∃ c, env.cells.lookup x = some c ∧ h.IsCell c (some u))

structure Cx.Ok (X : Cx) : Prop where
  mod : Mod X.K X.mg X.base
  kind : X.env.scope.kind = .function
  glob : X.env.globals = mainGlobals
  blt : X.env.builtins = builtinsNs
  above : X.s_0.heap.objs.size ≤ X.env.locals
  inj : ∀ x y c, X.env.cells.lookup x = some c → X.env.cells.lookup y = some c → x = y
  has : ∀ x, (X.env.kindOf x = some .cell ∨ X.env.kindOf x = some .free) → ∃ c, X.env.cells.lookup x = some c
  cab : ∀ x c, X.fn x = true → X.env.cells.lookup x = some c → X.s_0.heap.objs.size ≤ c
  hd : X.calm = true → X.A.handled = none
  frames : X.A.frames = some X.stack
  stk : X.stack = X.outer ∨ (X.stack = X.env :: X.outer ∧ X.env.frame = some X.env.locals)
  exf : ∀ b ∈ X.ex, b ≠ X.env.locals ∧ ∀ x c, X.env.cells.lookup x = some c → c ≠ b
  bs : ∀ b o, X.base.get? b = some o → X.s_0.heap.get? b = some o ∧ X.H_0 b = none
  bsz : X.base.objs.size ≤ X.s_0.heap.objs.size
  noex : ∀ b o, X.base.get? b = some o → b ∉ X.ex
  exfs : ∀ b ∈ X.ex, b ∉ X.fs
  funs : X.s_0.heap.FunFrames X.base X.outer
  frf : ∀ b ∈ X.fs, X.H_0 b = none

structure Inv (X : Cx) (pins : List (Addr × Obj)) (σ : List (Option V)) (H : Hp) (s : Shared) : Prop where
  ok : X.Ok
  os : s.os = X.s_0.os
  bare : AllBare s.gens
  base : Un X.fs X.ex X.H_0 H X.s_0.heap s.heap
  loc : ∃ m, s.heap.Ns X.env.locals m ∧ ∀ (i : Nat) (x : Str) (v : V), X.N[i]? = some x → σ[i]? = some (some v) → Vis X.env.scope x → ∃ u, RelV v u ∧ Look X.env s.heap m x u
  cell : ∀ x c, X.env.cells.lookup x = some c → ∃ v, s.heap.IsCell c v
  free : H X.env.locals = none
  freeC : ∀ x c, X.env.cells.lookup x = some c → H c = none
  pin : ∀ p ∈ X.pn ++ pins, s.heap.get? p.1 = some p.2 ∧ H p.1 = none ∧ p.1 ≠ X.env.locals ∧ p.1 ∉ X.fs ∧ ∀ v, p.2.data ≠ .cell v
  hok : HOk X.prog X.w H s.heap
  len : σ.length = X.N.length

section
variable {X : Cx} {pins : List (Addr × Obj)} {σ : List (Option V)} {H H' : Hp} {s : Shared} {h' : Heap}

theorem Cx.Ok.nofr (ok : X.Ok) {b : Addr} {o : Obj} (e : X.base.get? b = some o) : b ∉ X.fs := fun hb => by
  have := (ok.funs.mem hb).1
  rw [e] at this; cases this
theorem Inv.bs (I : Inv X pins σ H s) : ∀ b o, X.base.get? b = some o → s.heap.get? b = some o ∧ H b = none := fun b o e =>
  ⟨I.base.keep b o (I.ok.bs b o e).1 (I.ok.bs b o e).2 (I.ok.nofr e) (I.ok.noex b o e), I.base.free b o (I.ok.bs b o e).1 (I.ok.bs b o e).2 (I.ok.noex b o e)⟩
theorem Inv.bk (I : Inv X pins σ H s) : ∀ b o, X.base.get? b = some o → s.heap.get? b = some o := fun b o e => (I.bs b o e).1
theorem Inv.mod (I : Inv X pins σ H s) : Mod X.K X.mg X.base := I.ok.mod
theorem Inv.kIn (I : Inv X pins σ H s) : X.K.In s.heap := I.ok.mod.kin.keeps I.bk
theorem Inv.nolimit (I : Inv X pins σ H s) : s.heap.NoLimit := I.ok.mod.nolimit.keeps I.bk
/-- the frame over the base: for OpenK's rules (K.In X.base is I.mod.kin) -/
theorem Inv.fr (I : Inv X pins σ H s) : ∃ m, Fr X.base X.env.locals s.heap m :=
  let ⟨m, hn, _⟩ := I.loc
  ⟨m, hn, I.bk, Nat.le_trans I.ok.bsz I.ok.above⟩
theorem Inv.lt (I : Inv X pins σ H s) : X.env.locals < s.heap.objs.size := let ⟨_, hn, _⟩ := I.loc; hn.lt
theorem Inv.sz (I : Inv X pins σ H s) : X.s_0.heap.objs.size ≤ s.heap.objs.size := Nat.le_trans I.ok.above (Nat.le_of_lt I.lt)
theorem Inv.nofs (I : Inv X pins σ H s) {a : Addr} (h : s.heap.objs.size ≤ a) : a ∉ X.fs := fun hb => by
  obtain ⟨_, o, ho, _⟩ := I.ok.funs.mem hb
  exact absurd (Nat.lt_of_lt_of_le (Heap.lt_size ho) (Nat.le_trans I.sz h)) (Nat.lt_irrefl _)
theorem Inv.cne (I : Inv X pins σ H s) : ∀ x c, X.env.cells.lookup x = some c → c ≠ X.env.locals := fun x c e z => by
  obtain ⟨v, o, ho, hd⟩ := I.cell x c e
  obtain ⟨m, ⟨o', es, ep, ho', hd', _⟩, _⟩ := I.loc
  rw [z, ho'] at ho; cases ho; rw [hd'] at hd; cases hd
theorem Inv.funs (I : Inv X pins σ H s) : s.heap.FunFrames X.base X.outer := by
  have all : ∀ (l : List Env), (∀ b ∈ frs l, b ∈ X.fs) → X.s_0.heap.FunFrames X.base l → s.heap.FunFrames X.base l := by
    intro l
    induction l with
    | nil => intro _ _; trivial
    | cons env r ih =>
      intro hs hl
      obtain ⟨hk, ⟨L, o, hf, hn, ho, hd⟩, hr⟩ := hl
      have hL : L ∈ X.fs := hs L (by unfold frs; rw [List.filterMap_cons, hf]; exact List.mem_cons_self)
      obtain ⟨sl, e⟩ := I.base.slot L o ho (I.ok.frf L hL) hL fun z => I.ok.exfs L z hL
      exact ⟨hk, ⟨L, _, hf, hn, e, hd⟩, ih (fun b hb => hs b (by unfold frs; rw [List.filterMap_cons, hf]; exact List.mem_cons_of_mem _ hb)) hr⟩
  exact all X.outer (fun _ hb => hb) I.ok.funs

/-- the frames that run, for a call -/
theorem Inv.stack (I : Inv X pins σ H s) : s.heap.FunFrames X.base X.stack := by
  rcases I.ok.stk with e | ⟨e, hf⟩
  · rw [e]; exact I.funs
  · rw [e]
    obtain ⟨m, hn, _⟩ := I.loc
    refine .cons (by rw [I.ok.kind]; decide) hf hn ?_ I.funs
    exact Heap.get?_none_of_le (Nat.le_trans I.ok.bsz I.ok.above)
theorem Inv.stkSub (I : Inv X pins σ H s) : ∀ b ∈ frs X.stack, b ∈ X.env.locals :: X.fs := fun b hb => by
  rcases I.ok.stk with e | ⟨e, hf⟩
  · rw [e] at hb; exact List.mem_cons_of_mem _ hb
  · rw [e] at hb
    unfold frs at hb
    rw [List.filterMap_cons, hf] at hb
    exact hb
theorem Inv.stkFree (I : Inv X pins σ H s) : ∀ b ∈ frs X.stack, H b = none := fun b hb => by
  rcases List.mem_cons.mp (I.stkSub b hb) with e | hb
  · rw [e]; exact I.free
  · obtain ⟨_, o, ho, _⟩ := I.ok.funs.mem hb
    exact I.base.free b o ho (I.ok.frf b hb) fun z => I.ok.exfs b z hb

/-- THE STEP: the untracked objects but the frame and the records at ch are kept (the callers' frames up to slots), the frame's map is kept, the new abstract heap is held -/
theorem Inv.step {g' : Array GenState} {t' : Nat} {d' : Drawn} {ch : List Addr} (I : Inv X pins σ H s)
    (hch : ∀ b ∈ ch, (b ∈ X.ex ∨ X.s_0.heap.objs.size ≤ b) ∧ b ≠ X.env.locals ∧ (∀ x c, X.env.cells.lookup x = some c → c ≠ b) ∧ ∀ p ∈ X.pn ++ pins, p.1 ≠ b)
    (keep : ∀ b o, b ≠ X.env.locals → b ∉ X.fs → b ∉ ch → s.heap.get? b = some o → H b = none → h'.get? b = some o)
    (slot : ∀ b o, b ≠ X.env.locals → b ∈ X.fs → b ∉ ch → s.heap.get? b = some o → H b = none → ∃ sl, h'.get? b = some { o with slots := sl }) (free : ∀ b o, b ∉ ch → s.heap.get? b = some o → H b = none → H' b = none)
    (there : ∀ b o, b ∉ ch → s.heap.get? b = some o → ∃ o', h'.get? b = some o')
    (tups : ∀ b xs, H b = some (.tup xs) → H' b = some (.tup xs)) (frzs : ∀ b o u, H b = some (.frz o u) → H' b = some (.frz o u)) (tbls : ∀ b ps, H b = some (.tbl ps) → ∃ more, H' b = some (.tbl (ps ++ more)))
    (ns : ∀ m, s.heap.Ns X.env.locals m → h'.Ns X.env.locals m) (hok : HOk X.prog X.w H' h') (hg : AllBare g') :
    Inv X pins σ H' { s with heap := h', gens := g', drawn := d', toks := t' } := by
  have neL : ∀ b o, X.s_0.heap.get? b = some o → b ≠ X.env.locals := fun b o e => Nat.ne_of_lt (Nat.lt_of_lt_of_le (Heap.lt_size e) I.ok.above)
  have neC : ∀ b o, X.s_0.heap.get? b = some o → b ∉ X.ex → b ∉ ch := fun b o e hx hb => by
    rcases (hch b hb).1 with z | z
    · exact hx z
    · exact absurd (Nat.lt_of_lt_of_le (Heap.lt_size e) z) (Nat.lt_irrefl _)
  have cellK : ∀ x c, X.env.cells.lookup x = some c → ∀ v, s.heap.IsCell c v → h'.IsCell c v := fun x c e v ⟨o, ho, hd⟩ => by
    have nch : c ∉ ch := fun z => (hch c z).2.2.1 x c e rfl
    by_cases hc : c ∈ X.fs
    · obtain ⟨sl, q⟩ := slot c o (I.cne x c e) hc nch ho (I.freeC x c e)
      exact ⟨_, q, hd⟩
    · exact ⟨o, keep c o (I.cne x c e) hc nch ho (I.freeC x c e), hd⟩
  refine ⟨I.ok, I.os, hg, ⟨fun b o e n hb hx => ?_, fun b o e n hb hx => ?_, fun b o e n hx => ?_, fun b o e hx => ?_, fun b xs e => tups b xs (I.base.tups b xs e), fun b o xs e => frzs b o xs (I.base.frzs b o xs e), fun b ps e => ?_⟩, ?_, fun x c e => ?_, ?_, fun x c e => ?_, fun p hp => ?_, hok, I.len⟩
  · exact keep b o (neL b o e) hb (neC b o e hx) (I.base.keep b o e n hb hx) (I.base.free b o e n hx)
  · obtain ⟨sl, e1⟩ := I.base.slot b o e n hb hx
    obtain ⟨sl', e2⟩ := slot b _ (neL b o e) hb (neC b o e hx) e1 (I.base.free b o e n hx)
    exact ⟨sl', e2⟩
  · obtain ⟨o', e1⟩ := I.base.there b o e hx
    exact free b o' (neC b o e hx) e1 (I.base.free b o e n hx)
  · obtain ⟨o', e1⟩ := I.base.there b o e hx
    exact there b o' (neC b o e hx) e1
  · obtain ⟨m1, e1⟩ := I.base.tbls b ps e
    obtain ⟨m2, e2⟩ := tbls b _ e1
    exact ⟨m1 ++ m2, by rw [e2, Array.append_assoc]⟩
  · obtain ⟨m, hn, hl⟩ := I.loc
    refine ⟨m, ns m hn, fun i x v e1 e2 e3 => ?_⟩
    obtain ⟨u, r, l⟩ := hl i x v e1 e2 e3
    refine ⟨u, r, ?_⟩
    rcases l with l | ⟨k, c, e, z⟩
    · exact .inl l
    · exact .inr ⟨k, c, e, cellK x c e _ z⟩
  · obtain ⟨v, z⟩ := I.cell x c e
    exact ⟨v, cellK x c e v z⟩
  · obtain ⟨m, ⟨o, _, _, ho, _⟩, _⟩ := I.loc
    exact free _ o (fun z => (hch _ z).2.1 rfl) ho I.free
  · obtain ⟨v, o, ho, hd⟩ := I.cell x c e
    exact free c o (fun z => (hch c z).2.2.1 x c e rfl) ho (I.freeC x c e)
  · obtain ⟨e, n, ne, nf, d⟩ := I.pin p hp
    have nch : p.1 ∉ ch := fun z => (hch p.1 z).2.2.2 p hp rfl
    exact ⟨keep p.1 p.2 ne nf nch e n, free p.1 p.2 nch e n, ne, nf, d⟩
/-- .. where the frame's own object is kept too -/
theorem Inv.un {t' : Nat} (I : Inv X pins σ H s) (u : Un X.fs [] H H' s.heap h') (hok : HOk X.prog X.w H' h') : Inv X pins σ H' { s with heap := h', toks := t' } := by
  obtain ⟨m, ⟨o, es, ep, ho, r⟩, _⟩ := id I.loc
  obtain ⟨sl, hL⟩ := u.any ho I.free (by simp)
  exact I.step (g' := s.gens) (d' := s.drawn) (ch := []) (fun _ z => nomatch z) (fun b o _ hb _ e n => u.keep b o e n hb (by simp)) (fun b o _ hb _ e n => u.slot b o e n hb (by simp)) (fun b o _ e n => u.free b o e n (by simp)) (fun b o _ e => u.there b o e (by simp)) u.tups u.frzs u.tbls (fun m' hm => by
    obtain ⟨o', es', ep', ho', r'⟩ := hm
    rw [ho] at ho'; cases ho'
    exact ⟨_, es', ep', hL, r'⟩) hok I.bare
/-- behind a call (or a comprehension's block): the slots of this frame may have changed too, the records at ch may have turned -/
theorem Inv.call {g' : Array GenState} {t' : Nat} {d' : Drawn} {ch : List Addr} (I : Inv X pins σ H s) (u : Un (frs X.stack) ch H H' s.heap h') (hok : HOk X.prog X.w H' h') (hg : AllBare g')
    (hch : ∀ b ∈ ch, (b ∈ X.ex ∨ X.s_0.heap.objs.size ≤ b) ∧ b ≠ X.env.locals ∧ (∀ x c, X.env.cells.lookup x = some c → c ≠ b) ∧ ∀ p ∈ X.pn ++ pins, p.1 ≠ b) :
    Inv X pins σ H' { s with heap := h', gens := g', drawn := d', toks := t' } := by
  obtain ⟨m, ⟨o, es, ep, ho, r⟩, _⟩ := id I.loc
  obtain ⟨sl, hL⟩ := u.any ho I.free fun z => (hch _ z).2.1 rfl
  exact I.step (ch := ch) hch (fun b o hL hb hc e n => u.keep b o e n (fun z => (List.mem_cons.mp (I.stkSub b z)).elim hL hb) hc) (fun b o _ _ hc e n => u.any e n hc) (fun b o hc e n => u.free b o e n hc) (fun b o hc e => u.there b o e hc) u.tups u.frzs u.tbls (fun m' hm => by
    obtain ⟨o', es', ep', ho', r'⟩ := hm
    rw [ho] at ho'; cases ho'
    exact ⟨_, es', ep', hL, r'⟩) hok hg
/-- an untracked record of ours (an iterator) has turned -/
theorem Inv.turned {t' : Nat} {it : Addr} (I : Inv X pins σ H s) (k : ∀ b o, b ≠ it → s.heap.get? b = some o → h'.get? b = some o) (hn : H it = none) (hL : it ≠ X.env.locals)
    (h1 : it ∈ X.ex ∨ X.s_0.heap.objs.size ≤ it) (h2 : ∀ x c, X.env.cells.lookup x = some c → c ≠ it) (h3 : ∀ p ∈ X.pn ++ pins, p.1 ≠ it) : Inv X pins σ H { s with heap := h', toks := t' } := by
  have nit : ∀ b u, H b = some u → b ≠ it := fun b u e z => by rw [z, hn] at e; cases e
  refine I.step (g' := s.gens) (d' := s.drawn) (ch := [it]) (fun b hb => ?_) (fun b o _ _ hc e _ => k b o (fun z => hc (by simp [z])) e) (fun b o _ _ hc e _ => ⟨o.slots, k b o (fun z => hc (by simp [z])) e⟩) (fun _ _ _ _ n => n)
    (fun b o hc e => ⟨o, k b o (fun z => hc (by simp [z])) e⟩) (fun _ _ e => e) (fun _ _ _ e => e) (fun b ps e => ⟨#[], by rw [e]; simp⟩) (fun m hm => ?_) (fun b u e => ?_) I.bare
  · have e : b = it := by simpa using hb
    subst e
    exact ⟨h1, hL, h2, h3⟩
  · obtain ⟨o, es, ep, ho, r⟩ := hm
    exact ⟨o, es, ep, k _ o (Ne.symm hL) ho, r⟩
  · refine (I.hok b u e).stay (fun c v hc q => k c v ?_ q) (fun _ q => q) fun _ _ q => q
    rcases hc with z | z
    · rw [z]; exact nit b u e
    · exact nit c _ z
theorem Inv.tok (I : Inv X pins σ H s) (t : Nat) : Inv X pins σ H { s with toks := t } := I.un (h' := s.heap) (t' := t) Un.refl I.hok
/-- all objects kept -/
theorem Inv.kept {t' : Nat} (I : Inv X pins σ H s) (k : ∀ b u, s.heap.get? b = some u → h'.get? b = some u) : Inv X pins σ H { s with heap := h', toks := t' } := I.un (Un.kept k) (I.hok.kept k)
/-- a new object laid and tracked -/
theorem Inv.laid {a : Addr} {o : HO} {t' : Nat} (I : Inv X pins σ H s) (k : ∀ b u, s.heap.get? b = some u → h'.get? b = some u) (hp : s.heap.objs.size ≤ a) (new : ObjOk X.prog X.w (upd H a o) h' a o) :
    Inv X pins σ (upd H a o) { s with heap := h', toks := t' } := I.un (Un.laid k hp (I.hok.fresh hp)) (I.hok.laid k hp new)
/-- an object written -/
theorem Inv.write {x e : Addr} {o : HO} {t' : Nat} (I : Inv X pins σ H s) (mu : Mut (H x)) (he : e = x ∨ H e = some (.own x)) (k : ∀ b u, b ≠ e → s.heap.get? b = some u → h'.get? b = some u) (heo : ∃ u, h'.get? e = some u)
    (new : ObjOk X.prog X.w (upd H x o) h' x o) : Inv X pins σ (upd H x o) { s with heap := h', toks := t' } := I.un (Un.write mu he k heo) (I.hok.write mu he k heo new)
/-- forgetting slots, pins -/
theorem Inv.weak {σ' : List (Option V)} (I : Inv X pins σ H s) (hl : σ'.length = σ.length) (w : ∀ (i : Nat) v, σ'[i]? = some (some v) → σ[i]? = some (some v)) : Inv X pins σ' H s :=
  ⟨I.ok, I.os, I.bare, I.base, let ⟨m, hn, hl'⟩ := I.loc; ⟨m, hn, fun i x v e1 e2 e3 => hl' i x v e1 (w i v e2) e3⟩, I.cell, I.free, I.freeC, I.pin, I.hok, hl.trans I.len⟩
theorem Inv.pins_of {pins' : List (Addr × Obj)} (I : Inv X pins σ H s) (h : ∀ p ∈ pins', s.heap.get? p.1 = some p.2 ∧ H p.1 = none ∧ p.1 ≠ X.env.locals ∧ p.1 ∉ X.fs ∧ ∀ v, p.2.data ≠ .cell v) : Inv X pins' σ H s :=
  ⟨I.ok, I.os, I.bare, I.base, I.loc, I.cell, I.free, I.freeC, fun p hp => (List.mem_append.mp hp).elim (fun z => I.pin p (List.mem_append_left _ z)) (h p), I.hok, I.len⟩

theorem nodup_ix {N : List Str} (hN : N.Nodup) {i j : Nat} {x : Str} (a : N[i]? = some x) (b : N[j]? = some x) : i = j := by
  obtain ⟨h1, e1⟩ := List.getElem?_eq_some_iff.mp a
  obtain ⟨h2, e2⟩ := List.getElem?_eq_some_iff.mp b
  exact (List.getElem_inj hN).mp (e1.trans e2.symm)

/-- a name is stored; what changed -/
theorem store_ok2 {M : Model} {A : Around} {E : Value → Shared → Prop} {i : Nat} {x : Str} {v : V} {u : Value} {Q : Unit → Shared → Prop} (I : Inv X pins σ H s) (hN : X.N.Nodup) (hi : X.N[i]? = some x) (hx : Loc X.env.scope x) (r : RelV v u)
    (h : ∀ s', Inv X pins (σ.set i (some v)) H s' → (∃ a, Heap.SameBut a s.heap s'.heap ∧ (a = X.env.locals ∨ X.env.cells.lookup x = some a)) → Q () s') (hf : X.fn x = true ∨ X.env.scope.names.lookup x = some .local := by first | exact .inl rfl | exact .inr rfl | assumption) : wpAny M A (storeName X.env x u) Q E s := by
  obtain ⟨m, hn, hl⟩ := id I.loc
  have hcls : (X.env.scope.kind == .class || (X.env.scope.kind == .module && X.env.locals != X.env.globals)) = false := by rw [I.ok.kind]; rfl
  have hiσ : i < σ.length := by rw [I.len]; exact (List.getElem?_eq_some_iff.mp hi).1
  have cne := I.cne
  have tracked : ∀ {a : Addr} {h' : Heap}, (∃ o, s.heap.get? a = some o ∧ H a = none) → Heap.SameBut a s.heap h' → HOk X.prog X.w H h' := fun {a h'} ha hs b ob e => by
    obtain ⟨_, _, hfree⟩ := ha
    refine (I.hok b ob e).stay (fun c w' hc q => (hs.2 c ?_).trans q) (fun _ q => q) fun _ _ q => q
    rintro rfl
    rcases hc with rfl | hc
    · rw [hfree] at e; cases e
    · rw [hfree] at hc; cases hc
  rcases hx with hk | hk
  · refine wpAny_storeName_local hk hn (fun h' hn' hs => ?_) hcls
    obtain ⟨oL, _, _, hoL, _⟩ := id hn
    refine h _ ⟨I.ok, I.os, I.bare, ⟨fun b o e n hb hx => ?_, fun b o e n hb hx => ?_, I.base.free, fun b o e hx => ?_, I.base.tups, I.base.frzs, I.base.tbls⟩, ⟨_, hn', fun j y v' e1 e2 e3 => ?_⟩, fun y c e => ?_, I.free, I.freeC, fun p hp => ?_, tracked ⟨oL, hoL, I.free⟩ hs, by simpa using I.len⟩ ⟨_, hs, .inl rfl⟩
    · exact (hs.2 b (Nat.ne_of_lt (Nat.lt_of_lt_of_le (Heap.lt_size e) I.ok.above))).trans (I.base.keep b o e n hb hx)
    · obtain ⟨sl, e1⟩ := I.base.slot b o e n hb hx
      exact ⟨sl, (hs.2 b (Nat.ne_of_lt (Nat.lt_of_lt_of_le (Heap.lt_size e) I.ok.above))).trans e1⟩
    · obtain ⟨o', e1⟩ := I.base.there b o e hx
      exact ⟨o', (hs.2 b (Nat.ne_of_lt (Nat.lt_of_lt_of_le (Heap.lt_size e) I.ok.above))).trans e1⟩
    · by_cases hj : j = i
      · subst hj
        rw [hi] at e1; cases e1
        rw [List.getElem?_set_self hiσ] at e2
        cases e2
        exact ⟨u, r, .inl ⟨hk, by simp⟩⟩
      · rw [List.getElem?_set_ne (Ne.symm hj)] at e2
        obtain ⟨u', r', q⟩ := hl j y v' e1 e2 e3
        refine ⟨u', r', ?_⟩
        rcases q with ⟨k, e⟩ | ⟨k, c, e, z⟩
        · refine .inl ⟨k, ?_⟩
          have : y ≠ x := fun e => hj (nodup_ix hN e1 (e ▸ hi))
          simp [this, e]
        · exact .inr ⟨k, c, e, z.sameBut hs (cne y c e)⟩
    · obtain ⟨w', z⟩ := I.cell y c e
      exact ⟨w', z.sameBut hs (cne y c e)⟩
    · obtain ⟨e, n, ne, nf, d⟩ := I.pin p hp
      exact ⟨(hs.2 p.1 ne).trans e, n, ne, nf, d⟩
  · have hfn : X.fn x = true := by
      rcases hf with z | z
      · exact z
      · rw [z] at hk; cases hk
    obtain ⟨c, hc⟩ := I.ok.has x (.inl hk)
    obtain ⟨w', z⟩ := I.cell x c hc
    refine wpAny_storeName_cell I.ok.kind hk hc z (fun h' hc' hs => ?_)
    obtain ⟨oc, hoc, hocd⟩ := id z
    refine h { s with heap := h' } ⟨I.ok, I.os, I.bare, ⟨fun b o e n hb hx => ?_, fun b o e n hb hx => ?_, I.base.free, fun b o e hx => ?_, I.base.tups, I.base.frzs, I.base.tbls⟩, ⟨m, hn.sameBut hs (Ne.symm (cne x c hc)), fun j y v' e1 e2 e3 => ?_⟩, fun y c' e => ?_, I.free, I.freeC, fun p hp => ?_, tracked ⟨oc, hoc, I.freeC x c hc⟩ hs, by simpa using I.len⟩ ⟨c, hs, .inr hc⟩
    · exact (hs.2 b (Nat.ne_of_lt (Nat.lt_of_lt_of_le (Heap.lt_size e) (I.ok.cab x c hfn hc)))).trans (I.base.keep b o e n hb hx)
    · obtain ⟨sl, e1⟩ := I.base.slot b o e n hb hx
      exact ⟨sl, (hs.2 b (Nat.ne_of_lt (Nat.lt_of_lt_of_le (Heap.lt_size e) (I.ok.cab x c hfn hc)))).trans e1⟩
    · obtain ⟨o', e1⟩ := I.base.there b o e hx
      exact ⟨o', (hs.2 b (Nat.ne_of_lt (Nat.lt_of_lt_of_le (Heap.lt_size e) (I.ok.cab x c hfn hc)))).trans e1⟩
    · by_cases hj : j = i
      · subst hj
        rw [hi] at e1; cases e1
        rw [List.getElem?_set_self hiσ] at e2
        cases e2
        exact ⟨u, r, .inr ⟨.inl hk, c, hc, hc'⟩⟩
      · rw [List.getElem?_set_ne (Ne.symm hj)] at e2
        obtain ⟨u', r', q⟩ := hl j y v' e1 e2 e3
        refine ⟨u', r', ?_⟩
        rcases q with q | ⟨k, c', e, z'⟩
        · exact .inl q
        · refine .inr ⟨k, c', e, z'.sameBut hs ?_⟩
          rintro rfl
          exact hj (nodup_ix hN e1 (I.ok.inj _ _ _ e hc ▸ hi))
    · by_cases hcc : c' = c
      · subst hcc; exact ⟨_, hc'⟩
      · obtain ⟨w2, z2⟩ := I.cell y c' e
        exact ⟨w2, z2.sameBut hs hcc⟩
    · obtain ⟨e, n, ne, nf, d⟩ := I.pin p hp
      refine ⟨(hs.2 p.1 ?_).trans e, n, ne, nf, d⟩
      intro q
      rw [q, hoc] at e
      have q' : oc = p.2 := Option.some.inj e
      exact d w' (by rw [← q']; exact hocd)
theorem store_ok {M : Model} {A : Around} {E : Value → Shared → Prop} {i : Nat} {x : Str} {v : V} {u : Value} {Q : Unit → Shared → Prop} (I : Inv X pins σ H s) (hN : X.N.Nodup) (hi : X.N[i]? = some x) (hx : Loc X.env.scope x) (r : RelV v u)
    (h : ∀ s', Inv X pins (σ.set i (some v)) H s' → Q () s') (hf : X.fn x = true ∨ X.env.scope.names.lookup x = some .local := by first | exact .inl rfl | exact .inr rfl | assumption) : wpAny M A (storeName X.env x u) Q E s :=
  store_ok2 I hN hi hx r (fun s' I' _ => h s' I') hf
/-- behind a call or a block, the state as it is -/
theorem Inv.call' {s' : Shared} {ch : List Addr} (I : Inv X pins σ H s) (ho : s'.os = s.os) (u : Un (frs X.stack) ch H H' s.heap s'.heap) (hok : HOk X.prog X.w H' s'.heap) (hg : AllBare s'.gens)
    (hch : ∀ b ∈ ch, (b ∈ X.ex ∨ X.s_0.heap.objs.size ≤ b) ∧ b ≠ X.env.locals ∧ (∀ x c, X.env.cells.lookup x = some c → c ≠ b) ∧ ∀ p ∈ X.pn ++ pins, p.1 ≠ b) : Inv X pins σ H' s' := by
  obtain ⟨h', g', d', t', o'⟩ := s'
  have e : o' = s.os := ho
  subst e
  exact I.call (g' := g') (t' := t') (d' := d') u hok hg hch
end

/-! ### the judgements -/
/-- an exception: its class, its own dict's address (where it has one), the abstract heap behind it -/
abbrev XK := Value → Option Addr → Hp → Prop
abbrev St := List (Option V)
abbrev VK := V → Hp → Prop
/-- an expression's reading; a test's; an argument list's -/
abbrev TE := St → Hp → VK → Prop
abbrev TT := St → Hp → (Bool → Hp → Prop) → Prop
abbrev TA := St → Hp → (List V → Hp → Prop) → Prop
/-- what is wanted behind a statement -/
structure Ends where
  nx : St → Hp → Prop
  rt : VK
  bk : St → Hp → Prop := fun _ _ => False
  ct : St → Hp → Prop := fun _ _ => False
abbrev TS := Ends → St → Hp → Prop

def EP (X : Cx) (pins : List (Addr × Obj)) (σ : St) (Q : VK) (u : Value) (s' : Shared) : Prop := ∃ v H', Inv X pins σ H' s' ∧ RelV v u ∧ Q v H'
def TP (X : Cx) (pins : List (Addr × Obj)) (σ : St) (Q : Bool → Hp → Prop) (b : Bool) (s' : Shared) : Prop := ∃ H', Inv X pins σ H' s' ∧ Q b H'
def AP (X : Cx) (pins : List (Addr × Obj)) (σ : St) (Q : List V → Hp → Prop) (us : List Value) (s' : Shared) : Prop := ∃ vs H', Inv X pins σ H' s' ∧ Vals vs us ∧ Q vs H'
def SP (X : Cx) (pins : List (Addr × Obj)) (D : Ends) (f : Flow) (s' : Shared) : Prop :=
  match f with
  | .next => ∃ σ' H', Inv X pins σ' H' s' ∧ D.nx σ' H'
  | .brk => ∃ σ' H', Inv X pins σ' H' s' ∧ D.bk σ' H'
  | .cont => ∃ σ' H', Inv X pins σ' H' s' ∧ D.ct σ' H'
  | .ret u => ∃ v σ' H', Inv X pins σ' H' s' ∧ RelV v u ∧ D.rt v H'

def PE (X : Cx) (e : Expr) (t : TE) : Prop :=
  ∀ (pins : List (Addr × Obj)) (s : Shared) (σ : St) (H : Hp) (Q : VK), Inv X pins σ H s → t σ H Q → wpAny (model X.prog X.w) X.A (eval e X.env) (EP X pins σ Q) X.xe s
def PT (X : Cx) (e : Expr) (t : TT) : Prop :=
  ∀ (pins : List (Addr × Obj)) (s : Shared) (σ : St) (H : Hp) (Q : Bool → Hp → Prop), Inv X pins σ H s → t σ H Q → wpAny (model X.prog X.w) X.A (isTrue e X.env (eval e X.env)) (TP X pins σ Q) X.xe s
/-- a test whatever its 'whole' is (and, or) -/
def PW (X : Cx) (e : Expr) (t : TT) : Prop :=
  ∀ (whole : Sem Value) (pins : List (Addr × Obj)) (s : Shared) (σ : St) (H : Hp) (Q : Bool → Hp → Prop), Inv X pins σ H s → t σ H Q → wpAny (model X.prog X.w) X.A (isTrue e X.env whole) (TP X pins σ Q) X.xe s
theorem PW.pt {X : Cx} {e : Expr} {t : TT} (h : PW X e t) : PT X e t := h _
/-- an argument list (no star), from the left -/
def PA (X : Cx) (es : List Expr) (t : TA) : Prop :=
  ∀ (pos : Pos) (pins : List (Addr × Obj)) (s : Shared) (σ : St) (H : Hp) (Q : List V → Hp → Prop), Inv X pins σ H s → t σ H Q → wpAny (model X.prog X.w) X.A (spliced (backTo pos (starEach es X.env))) (AP X pins σ Q) X.xe s
def PS (X : Cx) (st : Stmt) (t : TS) : Prop :=
  ∀ (pins : List (Addr × Obj)) (s : Shared) (σ : St) (H : Hp) (D : Ends), Inv X pins σ H s → t D σ H → wpAny (model X.prog X.w) X.A (exec st X.env) (SP X pins D) X.xe s
def PSs (X : Cx) (st : List Stmt) (t : TS) : Prop :=
  ∀ (pins : List (Addr × Obj)) (s : Shared) (σ : St) (H : Hp) (D : Ends), Inv X pins σ H s → t D σ H → wpAny (model X.prog X.w) X.A (execs st X.env) (SP X pins D) X.xe s
/-- weaken the end -/
theorem thn {α : Type} {t : Sem α} {Q Q' : α → Shared → Prop} {M : Model} {A : Around} {E : Value → Shared → Prop} {s : Shared} (h : wpAny M A t Q E s) (hQ : ∀ a s, Q a s → Q' a s) : wpAny M A t Q' E s := wpAny_mono h hQ fun _ _ x => x
end L2

namespace L2
open PySem PySem.Spec PyProof.Rows
section
variable {X : Cx}

/-! ### names and constants -/
def tVar (i : Nat) : TE := fun σ H Q => ∃ v, σ[i]? = some (some v) ∧ Q v H
def tC (v : V) : TE := fun _ H Q => Q v H
theorem pe_var {i : Nat} {x : Str} {pos : Pos} (hN : X.N[i]? = some x) (hv : Vis X.env.scope x) (hd : (x == ("__debug__" : Str)) = false := by decide) (hcd : (x == ("__classdict__" : Str)) = false := by decide) : PE X (.Name x pos) (tVar i) := by
  intro pins s σ H Q I h
  obtain ⟨v, e, h⟩ := h
  obtain ⟨m, hn, hl⟩ := I.loc
  obtain ⟨u, r, l⟩ := hl i x v hN e hv
  have fin : EP X pins σ Q u s := ⟨v, H, I, r, h⟩
  rcases l with ⟨hk, hm⟩ | ⟨hk, c, hc, hcell⟩
  · exact wpAny_Name (wpAny_loadName_local I.ok.kind hk hn hm fin) hd
  · rcases hk with hk | hk
    · exact wpAny_Name (wpAny_loadName_cell I.ok.kind hk hc hcell fin) hd
    · exact wpAny_Name (wpAny_loadName_free I.ok.kind hk hc hcell fin hcd) hd
theorem pe_int {i j pos} : PE X (.Constant (.int i) j pos) (tC (.int i)) := fun _ _ _ H _ I h => wpAny_Constant_int ⟨.int i, H, I.tok _, ⟨_, rfl⟩, h⟩
theorem pe_non {j pos} : PE X (.Constant .none j pos) (tC .non) := fun _ _ _ H _ I h => Constant_none ⟨.non, H, I, rfl, h⟩
/-- a global name of the def -/
def Gl (X : Cx) (x : Str) : Prop := X.env.kindOf x = some .globalImplicit
theorem ld_glob {E : Value → Shared → Prop} {pins : List (Addr × Obj)} {s : Shared} {σ : St} {H : Hp} {x : Str} {u : Value} {pos : Pos} {Q : Value → Shared → Prop} (I : Inv X pins σ H s) (hg : Gl X x) (hm : X.mg x = some u) (h : Q u s)
    (hd : (x == ("__debug__" : Str)) = false := by decide) : wpAny (model X.prog X.w) X.A (eval (.Name x pos) X.env) Q E s :=
  Calls.Name_function_global I.ok.kind hg (Calls.loadGlobal_global (by rw [I.ok.glob]; exact I.mod.glob.keeps I.bk) hm h) hd
theorem ld_blt {E : Value → Shared → Prop} {pins : List (Addr × Obj)} {s : Shared} {σ : St} {H : Hp} {x : Str} {u : Value} {pos : Pos} {Q : Value → Shared → Prop} (I : Inv X pins σ H s) (hg : Gl X x) (hm : X.mg x = none) (hv : bootBuiltins x = some u) (h : Q u s)
    (hn : x ≠ "__name__" := by decide) (hd : (x == ("__debug__" : Str)) = false := by decide) : wpAny (model X.prog X.w) X.A (eval (.Name x pos) X.env) Q E s := by
  obtain ⟨mb, h1, h2⟩ := I.mod.blt
  exact Calls.Name_function_global I.ok.kind hg (Calls.loadGlobal_builtin (by rw [I.ok.glob]; exact I.mod.glob.keeps I.bk) hm (by rw [I.ok.blt]; exact h1.keeps I.bk) ((h2 x hn).trans hv) h) hd
/-- a module's constant, a class, a function, as a value -/
theorem pe_glob {x : Str} {v : V} {u : Value} {pos : Pos} (hg : Gl X x) (hm : X.mg x = some u) (r : RelV v u) (hd : (x == ("__debug__" : Str)) = false := by decide) : PE X (.Name x pos) (tC v) :=
  fun _ _ _ H _ I h => ld_glob I hg hm ⟨v, H, I, r, h⟩ hd
/-! ### arithmetic -/
/-- two ints -/
def t2I (ta tb : TE) (k : Int → Int → Hp → Prop) : St → Hp → Prop := fun σ H => ta σ H fun x H1 => tb σ H1 fun y H2 => ∃ i j, x = .int i ∧ y = .int j ∧ k i j H2
def tAdd (ta tb : TE) : TE := fun σ H Q => t2I ta tb (fun i j H2 => Q (.int (i + j)) H2) σ H
def tSub (ta tb : TE) : TE := fun σ H Q => t2I ta tb (fun i j H2 => Q (.int (i - j)) H2) σ H
/-- the left factor below 2^64 -/
def tMul (ta tb : TE) : TE := fun σ H Q => t2I ta tb (fun i j H2 => (-(2 ^ 64) < i ∧ i < 2 ^ 64) ∧ Q (.int (i * j)) H2) σ H
variable {a b : Expr} {ta tb : TE} {pos : Pos}
/-! ### comparisons -/
def PC (X : Cx) (op : CmpOp) (a b : Expr) (t : TE) : Prop :=
  ∀ (pins : List (Addr × Obj)) (s : Shared) (σ : St) (H : Hp) (Q : VK), Inv X pins σ H s → t σ H Q →
    wpAny (model X.prog X.w) X.A (eval a X.env) (fun v s₁ => wpAny (model X.prog X.w) X.A (eval b X.env) (fun u s₂ => wpAny (model X.prog X.w) X.A (compareOp op v u) (EP X pins σ Q) X.xe s₂) X.xe s₁) X.xe s
def tCmp (p : Int → Int → Bool) (ta tb : TE) : TE := fun σ H Q => t2I ta tb (fun i j H2 => Q (.bl (p i j)) H2) σ H
abbrev tLt : TE → TE → TE := tCmp fun i j => decide (i < j)
abbrev tLe : TE → TE → TE := tCmp fun i j => decide (i ≤ j)
abbrev tGt : TE → TE → TE := tCmp fun i j => decide (j < i)
abbrev tGe : TE → TE → TE := tCmp fun i j => decide (j ≤ i)
abbrev tEqI : TE → TE → TE := tCmp fun i j => decide (i = j)
abbrev tNeI : TE → TE → TE := tCmp fun i j => !decide (i = j)
/-- is None -/
def tIsN (ta : TE) : TE := fun σ H Q => ta σ H fun x H1 => Q (.bl (decide (x = .non))) H1
def tNotN (ta : TE) : TE := fun σ H Q => ta σ H fun x H1 => Q (.bl (!decide (x = .non))) H1
/-- a comparison as a value, as a test -/
def tB (t : TE) : TT := fun σ H Q => t σ H fun x H1 => ∃ c, x = .bl c ∧ Q c H1
/-- an expression whose value is a bool, as a test -/
theorem pt_val {e : Expr} {t : TE} (h : PE X e t) (he : ∀ whole, isTrue e X.env whole = (do let v ← whole; standAt e.pos; holding [v] (truthy v)) := by intro _; rfl) : PT X e (tB t) := by
  intro pins s σ H Q I hw
  refine isTrue_plain (thn (h pins s σ H _ I hw) fun v s1 ⟨x, H1, I1, r1, q1⟩ => ?_) (he _)
  obtain ⟨d, rfl, q⟩ := q1
  cases r1
  exact wpAny_truthy_bool ⟨H1, I1, q⟩

/-! ### and, or, not -/
variable {tA tB' : TT} {rest : List Expr}
def tAnd (t u : TT) : TT := fun σ H Q => t σ H fun c H1 => if c = true then u σ H1 Q else Q false H1
def tOr (t u : TT) : TT := fun σ H Q => t σ H fun c H1 => if c = true then Q true H1 else u σ H1 Q
def tNot (t : TT) : TT := fun σ H Q => t σ H fun c H1 => Q (!c) H1
theorem pw_and1 (ha : PT X a tA) : PW X (.BoolOp .And [a] pos) tA := by
  intro wh pins s σ H Q I h
  refine isTrue_and (thn (ha pins s σ H Q I h) fun c s1 e => ?_)
  cases c with
  | true => exact isTrue_and_nil e
  | false => exact e
theorem pw_and (ha : PT X a tA) (hb : PW X (.BoolOp .And (b :: rest) pos) tB') : PW X (.BoolOp .And (a :: b :: rest) pos) (tAnd tA tB') := by
  intro wh pins s σ H Q I h
  refine isTrue_and (thn (ha pins s σ H _ I h) fun c s1 ⟨H1, I1, q1⟩ => ?_)
  cases c with
  | true => exact hb wh pins s1 σ H1 Q I1 q1
  | false => exact ⟨H1, I1, q1⟩
theorem pt_not (ha : PT X a tA) : PT X (.UnaryOp .Not a pos) (tNot tA) := by
  intro pins s σ H Q I h
  exact isTrue_not (ha pins s σ H (fun c H1 => Q (!c) H1) I h)
/-- .. as values (bools) -/
def tAndV (ta tb : TE) : TE := fun σ H Q => ta σ H fun x H1 => ∃ c, x = .bl c ∧ if c = true then tb σ H1 Q else Q (.bl false) H1
def tOrV (ta tb : TE) : TE := fun σ H Q => ta σ H fun x H1 => ∃ c, x = .bl c ∧ if c = true then Q (.bl true) H1 else tb σ H1 Q
def tNotV (ta : TE) : TE := fun σ H Q => ta σ H fun x H1 => ∃ c, x = .bl c ∧ Q (.bl (!c)) H1
theorem pe_one {op} {t : TE} (h : PE X a t) : PE X (.BoolOp op [a] pos) t := fun pins s σ H Q I hw => BoolOp_one (h pins s σ H Q I hw)
theorem pe_and (ha : PE X a ta) (hb : PE X (.BoolOp .And (b :: rest) pos) tb) : PE X (.BoolOp .And (a :: b :: rest) pos) (tAndV ta tb) := by
  intro pins s σ H Q I h
  refine BoolOp_and (thn (ha pins s σ H _ I h) fun v s1 ⟨x, H1, I1, r1, q1⟩ => ?_)
  obtain ⟨c, rfl, q1⟩ := q1
  cases r1
  refine wpAny_truthy_bool ?_
  cases c with
  | true => exact hb pins s1 σ H1 Q I1 q1
  | false => exact ⟨.bl false, H1, I1, rfl, q1⟩
/-- a if t else b -/
def tIf (t : TT) (ta tb : TE) : TE := fun σ H Q => t σ H fun c H1 => if c = true then ta σ H1 Q else tb σ H1 Q
end
end L2

namespace L2
open PySem PySem.Spec PyProof.Rows

/-! ### a list, a tuple that is read: tracked, frozen, or an object of the module -/
def SqL (K : PySem.W.Frag) (H : Hp) (a : Addr) (xs : List V) : Prop :=
  Rd H a (.lst xs) ∨
    ∃ (o : Obj) (its : Array Value) (n : Nat), K.lookup a = some o ∧ o.cls = .type "list" ∧ o.dict = none ∧ o.data = .seq its n ∧ its.size ≤ sizeLine ∧ Vals xs its.toList
def SqT (K : PySem.W.Frag) (H : Hp) (a : Addr) (xs : List V) : Prop :=
  Rd H a (.tup xs) ∨
    ∃ (o : Obj) (its : Array Value) (n : Nat), K.lookup a = some o ∧ o.cls = .type "tuple" ∧ o.data = .seq its n ∧ its.size ≤ sizeLine ∧ Vals xs its.toList
def absV : Value → Option V
  | .none => some .non
  | .bool b => some (.bl b)
  | .int i _ => some (.int i)
  | .str x _ => some (.str x)
  | .bytes b _ => some (.byt b)
  | .float b _ => some (.flt b)
  | .ref a => some (.ref a)
  | .type n => some (.ty n)
  | _ => none
theorem RelV.abs {x : V} {u : Value} (r : RelV x u) : absV u = some x := by
  cases x with
  | non => cases r; rfl
  | bl _ => cases r; rfl
  | int _ => obtain ⟨t, rfl⟩ := r; rfl
  | str _ => obtain ⟨t, rfl⟩ := r; rfl
  | byt _ => obtain ⟨t, rfl⟩ := r; rfl
  | flt _ => obtain ⟨t, rfl⟩ := r; rfl
  | ref _ => cases r; rfl
  | ty _ => cases r; rfl
theorem RelV.inj {x y : V} {u : Value} (r : RelV x u) (q : RelV y u) : x = y := Option.some.inj (r.abs.symm.trans q.abs)
theorem Vals.inj : ∀ {xs ys : List V} {us : List Value}, Vals xs us → Vals ys us → xs = ys
  | _, _, _, .nil, .nil => rfl
  | _, _, _, .cons r t, .cons r' t' => by rw [r.inj r', Vals.inj t t']
section
variable {X : Cx} {pins : List (Addr × Obj)} {σ : St} {H : Hp} {s : Shared} {a : Addr} {xs ys : List V}
theorem SqL.of {K : PySem.W.Frag} (h : H a = some (.lst xs)) : SqL K H a xs := .inl (.inl h)
theorem SqT.of {K : PySem.W.Frag} (h : H a = some (.tup xs)) : SqT K H a xs := .inl (.inl h)
theorem Inv.list (I : Inv X pins σ H s) (h : SqL X.K H a xs) : ∃ its : List Value, Vals xs its ∧ PlainL s.heap a its.toArray ∧ xs.length ≤ sizeLine := by
  rcases h with h | ⟨o, its, n, hk, hc, hd, hs, hz, r⟩
  · obtain ⟨z, its, n, r, e⟩ := h.ok I.hok
    exact ⟨its, r, ⟨_, n, e, rfl, rfl, rfl⟩, z⟩
  · refine ⟨its.toList, r, ⟨o, n, I.kIn a o hk, hc, hd, by simpa using hs⟩, ?_⟩
    have e := r.length
    simp only [Array.length_toList] at e
    omega
theorem Inv.tuple (I : Inv X pins σ H s) (h : SqT X.K H a xs) : ∃ its : List Value, Vals xs its ∧ IsTup s.heap a its.toArray ∧ xs.length ≤ sizeLine := by
  rcases h with h | ⟨o, its, n, hk, hc, hs, hz, r⟩
  · obtain ⟨z, its, r, p⟩ := h.ok I.hok
    exact ⟨its, r, p, z⟩
  · refine ⟨its.toList, r, ⟨o, I.kIn a o hk, hc, n, by simpa using hs⟩, ?_⟩
    have e := r.length
    simp only [Array.length_toList] at e
    omega
theorem Inv.list_inj (I : Inv X pins σ H s) (h : SqL X.K H a xs) (h' : SqL X.K H a ys) : xs = ys := by
  obtain ⟨its, r, ⟨o, n, e, _, _, d⟩, _⟩ := I.list h
  obtain ⟨its', r', ⟨o', n', e', _, _, d'⟩, _⟩ := I.list h'
  rw [e] at e'; cases e'
  rw [d] at d'
  injection d' with d1 _
  have : its = its' := by simpa using congrArg Array.toList d1
  subst this
  exact r.inj r'
theorem Inv.tuple_inj (I : Inv X pins σ H s) (h : SqT X.K H a xs) (h' : SqT X.K H a ys) : xs = ys := by
  obtain ⟨its, r, ⟨o, e, _, n, d⟩, _⟩ := I.tuple h
  obtain ⟨its', r', ⟨o', e', _, n', d'⟩, _⟩ := I.tuple h'
  rw [e] at e'; cases e'
  rw [d] at d'
  injection d' with d1 _
  have : its = its' := by simpa using congrArg Array.toList d1
  subst this
  exact r.inj r'
end

/-! ### another wish about exceptions -/
abbrev Cx.wish (X : Cx) (E : Value → Shared → Prop) : Cx := { X with xe := E }
/-- no exception leaves -/
abbrev Cx.nox (X : Cx) : Cx := X.wish fun _ _ => False
theorem Cx.Ok.wish {X : Cx} (ok : X.Ok) (E : Value → Shared → Prop) : (X.wish E).Ok :=
  ⟨ok.mod, ok.kind, ok.glob, ok.blt, ok.above, ok.inj, ok.has, ok.cab, ok.hd, ok.frames, ok.stk, ok.exf, ok.bs, ok.bsz, ok.noex, ok.exfs, ok.funs, ok.frf⟩
theorem Cx.Ok.unwish {X : Cx} {E : Value → Shared → Prop} (ok : (X.wish E).Ok) : X.Ok :=
  ⟨ok.mod, ok.kind, ok.glob, ok.blt, ok.above, ok.inj, ok.has, ok.cab, ok.hd, ok.frames, ok.stk, ok.exf, ok.bs, ok.bsz, ok.noex, ok.exfs, ok.funs, ok.frf⟩
section
variable {X : Cx} {pins : List (Addr × Obj)} {σ : St} {H : Hp} {s : Shared} {E : Value → Shared → Prop}
theorem Inv.wish (I : Inv X pins σ H s) (E : Value → Shared → Prop) : Inv (X.wish E) pins σ H s := ⟨I.ok.wish E, I.os, I.bare, I.base, I.loc, I.cell, I.free, I.freeC, I.pin, I.hok, I.len⟩
theorem Inv.unwish (I : Inv (X.wish E) pins σ H s) : Inv X pins σ H s := ⟨I.ok.unwish, I.os, I.bare, I.base, I.loc, I.cell, I.free, I.freeC, I.pin, I.hok, I.len⟩
theorem SP.unwish {D : Ends} {f : Flow} {s' : Shared} (h : SP (X.wish E) pins D f s') : SP X pins D f s' := by
  cases f with
  | next => obtain ⟨σ', H', I, q⟩ := h; exact ⟨σ', H', I.unwish, q⟩
  | brk => obtain ⟨σ', H', I, q⟩ := h; exact ⟨σ', H', I.unwish, q⟩
  | cont => obtain ⟨σ', H', I, q⟩ := h; exact ⟨σ', H', I.unwish, q⟩
  | ret u => obtain ⟨v, σ', H', I, r, q⟩ := h; exact ⟨v, σ', H', I.unwish, r, q⟩
theorem PE.nox {e : Expr} {t : TE} (h : PE X.nox e t) : PE X e t := fun pins s σ H Q I hw =>
  wpAny_mono (h pins s σ H Q (I.wish _) hw) (fun _ _ ⟨v, H', I', r, q⟩ => ⟨v, H', I'.unwish, r, q⟩) fun _ _ z => False.elim z
theorem PT.nox {e : Expr} {t : TT} (h : PT X.nox e t) : PT X e t := fun pins s σ H Q I hw =>
  wpAny_mono (h pins s σ H Q (I.wish _) hw) (fun _ _ ⟨H', I', q⟩ => ⟨H', I'.unwish, q⟩) fun _ _ z => False.elim z
theorem PSs.nox {st : List Stmt} {t : TS} (h : PSs X.nox st t) : PSs X st t := fun pins s σ H D I hw =>
  wpAny_mono (h pins s σ H D (I.wish _) hw) (fun _ _ q => q.unwish) fun _ _ z => False.elim z
end

/-! ### blocks and small statements -/
section
variable {X : Cx} {st : Stmt} {rest : List Stmt} {t u : TS} {e : Expr} {te : TE} {pos : Pos}
def tNext : TS := fun D σ H => D.nx σ H
def tSeq (t u : TS) : TS := fun D σ H => t { D with nx := u D } σ H
theorem pss_nil : PSs X [] tNext := fun _ _ σ H _ I h => wpAny_execs_nil ⟨σ, H, I, h⟩
theorem pss_cons (h1 : PS X st t) (h2 : PSs X rest u) : PSs X (st :: rest) (tSeq t u) := by
  intro pins s σ H D I h
  refine wpAny_execs_cons (thn (h1 pins s σ H { D with nx := u D } I h) fun f s1 q => ?_)
  cases f with
  | next =>
    obtain ⟨σ', H', I', q⟩ := q
    exact h2 pins s1 σ' H' D I' q
  | ret v => exact q
  | brk => exact q
  | cont => exact q
theorem pss_one (h1 : PS X st t) : PSs X [st] t := by
  intro pins s σ H D I h
  refine wpAny_execs_cons (thn (h1 pins s σ H D I h) fun f s1 q => ?_)
  cases f with
  | next => exact wpAny_execs_nil q
  | ret v => exact q
  | brk => exact q
  | cont => exact q
def tBreak : TS := fun D σ H => D.bk σ H
def tCont : TS := fun D σ H => D.ct σ H
/-- in a def's body nothing is shown -/
theorem Inv.quiet {pins : List (Addr × Obj)} {σ : St} {H : Hp} {s : Shared} (I : Inv X pins σ H s) : interactive X.env = false := by simp [interactive, I.ok.kind]
/-- an expression whose value is dropped -/
def tDrop (te : TE) : TS := fun D σ H => te σ H fun _ H1 => D.nx σ H1
theorem ps_expr (he : PE X e te) (hs : swapsWith e none pos.line X.env = pure false := by rfl) : PS X (.Expr e pos) (tDrop te) := by
  intro pins s σ H D I h
  exact wpAny_Expr_any (thn (he pins s σ H _ I h) fun v s1 ⟨x, H1, I1, r1, q1⟩ => ⟨σ, H1, I1, q1⟩) I.quiet hs
def tRet (te : TE) : TS := fun D σ H => te σ H D.rt
theorem ps_ret (he : PE X e te) : PS X (.Return (some e) pos) (tRet te) := by
  intro pins s σ H D I h
  exact wpAny_Return_some (thn (he pins s σ H _ I h) fun v s1 ⟨x, H1, I1, r1, q1⟩ => ⟨x, σ, H1, I1, r1, q1⟩)
def tRetN : TS := fun D _ H => D.rt .non H
def tIfS (c : TT) (t u : TS) : TS := fun D σ H => c σ H fun b H1 => if b = true then t D σ H1 else u D σ H1
theorem ps_if {c : Expr} {a b : List Stmt} {tc : TT} (hc : PT X c tc) (ha : PSs X a t) (hb : PSs X b u) : PS X (.If c a b pos) (tIfS tc t u) := by
  intro pins s σ H D I h
  refine wpAny_If (thn (hc pins s σ H _ I h) fun d s1 ⟨H1, I1, q1⟩ => ?_)
  cases d with
  | true => exact ha pins s1 σ H1 D I1 q1
  | false => exact hb pins s1 σ H1 D I1 q1
/-- code that the proof never comes to -/
def tNever : TS := fun _ _ _ => False
end

/-! ### targets -/
abbrev TG := V → St → Hp → (St → Hp → Prop) → Prop
abbrev TGs := List V → St → Hp → (St → Hp → Prop) → Prop
def PG (X : Cx) (target : Expr) (t : TG) : Prop :=
  ∀ (pins : List (Addr × Obj)) (s : Shared) (σ : St) (H : Hp) (v : V) (u : Value) (Q : St → Hp → Prop), Inv X pins σ H s → RelV v u → t v σ H Q →
    wpAny (model X.prog X.w) X.A (assign target X.env u) (fun _ s' => ∃ σ' H', Inv X pins σ' H' s' ∧ Q σ' H') X.xe s
/-- several targets, one after another -/
def PGs (X : Cx) (ts : List Expr) (t : TGs) : Prop :=
  ∀ (pins : List (Addr × Obj)) (s : Shared) (σ : St) (H : Hp) (vs : List V) (us : List Value) (Q : St → Hp → Prop), Inv X pins σ H s → Vals vs us → t vs σ H Q →
    wpAny (model X.prog X.w) X.A (assignInOrder ((assignEach ts X.env).map (·.2)) us) (fun _ s' => ∃ σ' H', Inv X pins σ' H' s' ∧ Q σ' H') X.xe s
/-- o[i] = v, by values -/
abbrev TSet := V → V → V → Hp → (Hp → Prop) → Prop
def PSet (X : Cx) (t : TSet) : Prop :=
  ∀ (pins : List (Addr × Obj)) (s : Shared) (σ : St) (H : Hp) (o i v : V) (ov iv u : Value) (Q : Hp → Prop), Inv X pins σ H s → RelV o ov → RelV i iv → RelV v u → t o i v H Q →
    wpAny (model X.prog X.w) X.A (setItem ov iv u) (fun _ s' => ∃ H', Inv X pins σ H' s' ∧ Q H') X.xe s
/-- a op= b, by values -/
abbrev TIp := V → V → Hp → VK → Prop
def PIp (X : Cx) (op : Operator) (t : TIp) : Prop :=
  ∀ (pins : List (Addr × Obj)) (s : Shared) (σ : St) (H : Hp) (x y : V) (v u : Value) (Q : VK), Inv X pins σ H s → RelV x v → RelV y u → t x y H Q →
    wpAny (model X.prog X.w) X.A (inplaceOp op v u) (EP X pins σ Q) X.xe s
section
variable {X : Cx} {pos : Pos}
def gName (i : Nat) : TG := fun v σ H Q => Q (σ.set i (some v)) H
theorem pg_name {i : Nat} {x : Str} (hN : X.N.Nodup) (hi : X.N[i]? = some x) (hx : Loc X.env.scope x) (hf : X.fn x = true ∨ X.env.scope.names.lookup x = some .local := by first | exact .inl rfl | exact .inr rfl | assumption) : PG X (.Name x pos) (gName i) := by
  intro pins s σ H v u Q I r h
  exact wpAny_assign_Name (store_ok I hN hi hx r (fun s' I' => ⟨_, H, I', h⟩) hf)
def gNil : TGs := fun vs σ H Q => vs = [] ∧ Q σ H
def gCons (t : TG) (u : TGs) : TGs := fun vs σ H Q => ∃ v r, vs = v :: r ∧ t v σ H fun σ' H' => u r σ' H' Q
/-- (a, b, ..) = a tuple of that length -/
def gTup (K : PySem.W.Frag) (n : Nat) (t : TGs) : TG := fun v σ H Q => ∃ a xs, v = .ref a ∧ SqT K H a xs ∧ xs.length = n ∧ t xs σ H Q
/-- o[i] = .. -/
def gSub (to ti : TE) (t : TSet) : TG := fun v σ H Q => to σ H fun o H1 => ti σ H1 fun i H2 => t o i v H2 fun H3 => Q σ H3
theorem pg_sub {o i : Expr} {to ti : TE} {t : TSet} (ho : PE X o to) (hi : PE X i ti) (hs : PSet X t)
    (ha : ∀ v, assign (.Subscript o i pos) X.env v = (do
      let ov ← holding [v] (eval o X.env)
      let iv ← holding [v, ov] (eval i X.env)
      standAt pos
      holding [v, ov, iv] (setItem ov iv v)
      release [v, ov, iv] []) := by intro _; rfl) : PG X (.Subscript o i pos) (gSub to ti t) := by
  intro pins s σ H v u Q I r h
  rw [ha]
  refine wpAny_bind (wpAny_holding (thn (ho pins s σ H _ I h) fun ov s1 ⟨x, H1, I1, r1, q1⟩ => ?_))
  refine wpAny_bind (wpAny_holding (thn (hi pins s1 σ H1 _ I1 q1) fun iv s2 ⟨y, H2, I2, r2, q2⟩ => ?_))
  refine wpAny_bind (wpAny_standAt (wpAny_bind (wpAny_holding (thn (hs pins s2 σ H2 x y v ov iv u _ I2 r1 r2 r q2) fun _ s3 ⟨H3, I3, q3⟩ => ?_))))
  exact wpAny_release ⟨σ, H3, I3, q3⟩
/-- target = value -/
def tAsg (te : TE) (g : TG) : TS := fun D σ H => te σ H fun x H1 => g x σ H1 D.nx
theorem ps_asg {tg e : Expr} {te : TE} {g : TG} (he : PE X e te) (hg : PG X tg g) (hs : swapsWithSole [tg] e pos.line X.env = pure false := by rfl) (hw : swappedStores [tg] e X.env = pure none := by rfl)
    (h1 : (assignEach [tg] X.env).map (·.2) = [assign tg X.env] := by rfl) : PS X (.Assign [tg] e pos) (tAsg te g) := by
  intro pins s σ H D I h
  refine wpAny_Assign_stores (thn (he pins s σ H _ I h) fun v s1 ⟨x, H1, I1, r1, q1⟩ => ?_) hs hw
  rw [h1]
  exact thn (hg pins s1 σ H1 x v _ I1 r1 q1) fun _ s2 q => q
/-- name = value -/
theorem ps_set {i : Nat} {x : Str} {e : Expr} {te : TE} {pos' : Pos} (hN : X.N.Nodup) (hi : X.N[i]? = some x) (hx : Loc X.env.scope x) (he : PE X e te) (hs : swapsWith e (some (.Name x pos')) pos.line X.env = pure false := by rfl) (hf : X.fn x = true ∨ X.env.scope.names.lookup x = some .local := by first | exact .inl rfl | exact .inr rfl | assumption) :
    PS X (.Assign [.Name x pos'] e pos) (tAsg te (gName i)) := by
  intro pins s σ H D I h
  refine wpAny_Assign_Name (thn (he pins s σ H _ I h) fun v s1 ⟨y, H1, I1, r1, q1⟩ => ?_) hs
  exact store_ok I1 hN hi hx r1 (fun s2 I2 => ⟨_, H1, I2, q1⟩) hf
/-- a, b = x, y with plain local names: stored from the right; the pair itself is not tracked (the opening rows as in PyProof/Rows/TupAssign.lean:23) -/
def tPar (i j : Nat) (ta : TA) : TS := fun D σ H => ta σ H fun vs H1 => ∃ v w, vs = [v, w] ∧ D.nx ((σ.set i (some v)).set j (some w)) H1
/-- name op= e -/
def tAug (i : Nat) (te : TE) (ti : TIp) : TS := fun D σ H => ∃ x, σ[i]? = some (some x) ∧ te σ H fun y H1 => ti x y H1 fun z H2 => D.nx (σ.set i (some z)) H2
/-- o[i] op= e -/
def tAugS (to ti te : TE) (tget : V → V → Hp → VK → Prop) (tip : TIp) (tset : TSet) : TS := fun D σ H => to σ H fun o H1 => ti σ H1 fun i H2 => tget o i H2 fun x H3 => te σ H3 fun y H4 => tip x y H4 fun z H5 => tset o i z H5 fun H6 => D.nx σ H6
/-- o[i], by values -/
def PGet (X : Cx) (t : V → V → Hp → VK → Prop) : Prop :=
  ∀ (pins : List (Addr × Obj)) (s : Shared) (σ : St) (H : Hp) (o i : V) (ov iv : Value) (Q : VK), Inv X pins σ H s → RelV o ov → RelV i iv → t o i H Q →
    wpAny (model X.prog X.w) X.A (getItem ov iv) (EP X pins σ Q) X.xe s
/-- ints -/
def ipI (f : Int → Int → Int) : TIp := fun x y H Q => ∃ i j, x = .int i ∧ y = .int j ∧ Q (.int (f i j)) H
end

/-! ### while -/
section
variable {X : Cx} {pos : Pos}
/-- the invariant W with its measure -/
def tWhile (c : TT) (tb : TS) : TS := fun D σ H => ∃ W : Nat → St → Hp → Prop, (∃ m, W m σ H) ∧ ∀ m σ H, W m σ H →
  c σ H fun b H1 => if b = true then ∃ N : St → Hp → Prop, (∀ σ' H', N σ' H' → ∃ m', m' < m ∧ W m' σ' H') ∧ tb { D with nx := N, ct := N, bk := D.nx } σ H1 else D.nx σ H1
theorem ps_while {c : Expr} {body : List Stmt} {tc : TT} {tb : TS} (hp : PassesOwn (model X.prog X.w) X.A X.env X.xe) (hc : PT X c tc) (hb : PSs X body tb) : PS X (.While c body [] pos) (tWhile tc tb) := by
  intro pins s σ H D I h
  obtain ⟨W, ⟨m0, w0⟩, turn⟩ := h
  refine wpAny_While (codeAny_whileLoop (fun n s' => ∃ σ' H', Inv X pins σ' H' s' ∧ W n σ' H') ?_ m0 ⟨σ, H, I, w0⟩)
  rintro n s1 ⟨σ1, H1, I1, w1⟩
  refine wpAny_passesOwn hp (thn (hc pins s1 σ1 H1 _ I1 (turn n σ1 H1 w1)) fun b s2 ⟨H2, I2, q2⟩ => ?_)
  cases b with
  | true =>
    obtain ⟨N, hN, q2⟩ := q2
    rw [if_pos rfl]
    refine wpAny_passesOwn hp (thn (hb pins s2 σ1 H2 _ I2 q2) fun f s3 q3 => ?_)
    cases f with
    | next =>
      obtain ⟨σ3, H3, I3, n3⟩ := q3
      obtain ⟨m', hm, w3⟩ := hN σ3 H3 n3
      exact ⟨m', hm, σ3, H3, I3, w3⟩
    | cont =>
      obtain ⟨σ3, H3, I3, n3⟩ := q3
      obtain ⟨m', hm, w3⟩ := hN σ3 H3 n3
      exact ⟨m', hm, σ3, H3, I3, w3⟩
    | brk => exact q3
    | ret v => exact q3
  | false =>
    rw [if_neg Bool.false_ne_true]
    exact wpAny_execs_nil ⟨σ1, H2, I2, q2⟩
end

/-! ### what a loop or a comprehension walks -/
/-- at turn i: it yields x (the heap may grow), or it stops -/
structure It where
  go : Nat → Hp → Prop
  yld : Nat → Hp → V → Hp → Prop
  stop : Nat → Hp → Prop
/-- the iterator's own objects may turn: they are not the frame's, not pinned, younger than the entry (or a comprehension's own) -/
def FpOk (X : Cx) (pins : List (Addr × Obj)) (H : Hp) (b : Addr) : Prop :=
  H b = none ∧ b ≠ X.env.locals ∧ b ∉ X.fs ∧ (b ∈ X.ex ∨ X.s_0.heap.objs.size ≤ b) ∧ (∀ x c, X.env.cells.lookup x = some c → c ≠ b) ∧ ∀ p ∈ X.pn ++ pins, p.1 ≠ b
theorem Inv.fpOk {X : Cx} {pins : List (Addr × Obj)} {σ : St} {H H' : Hp} {s : Shared} {b : Addr} (I : Inv X pins σ H s) (hb : s.heap.objs.size ≤ b) (hn : H' b = none) : FpOk X pins H' b := by
  refine ⟨hn, Nat.ne_of_gt (Nat.lt_of_lt_of_le I.lt hb), I.nofs hb, .inr (Nat.le_trans I.sz hb), fun x c e z => ?_, fun p hp z => ?_⟩
  · obtain ⟨v, q⟩ := I.cell x c e
    exact absurd (Nat.lt_of_lt_of_le q.lt (by rw [z]; exact hb)) (Nat.lt_irrefl _)
  · exact absurd (Nat.lt_of_lt_of_le (Heap.lt_size (I.pin p hp).1) (by rw [z]; exact hb)) (Nat.lt_irrefl _)
structure Turn (P : Program) (w : World) (K : PySem.W.Frag) (tg : Expr) (J : It) (fp : List Addr) (it : Addr) (tn : Nat → Heap → Prop) : Prop where
  mem : it ∈ fp
  obj : ∀ i h, tn i h → ∀ b ∈ fp, ∃ o, h.get? b = some o ∧ ∀ v, o.data ≠ .cell v
  keep : ∀ i h h', tn i h → (∀ b ∈ fp, ∀ o, h.get? b = some o → h'.get? b = some o) → tn i h'
  item : ∀ (X : Cx), X.prog = P → X.w = w → X.K = K → X.calm = true → ∀ (i : Nat) (pins : List (Addr × Obj)) (s : Shared) (σ : St) (H : Hp) (E : Value → Shared → Prop), Inv X pins σ H s → (∀ b ∈ fp, FpOk X pins H b) → tn i s.heap → J.go i H →
    wpAny (model P w) X.A (pyNext (.ref it)) (fun r s1 => ∃ u, r = some u ∧
      wpAny (model P w) X.A (letOwnedTupleGo tg (.ref it) u) (fun _ s2 => ∃ x H', Inv X pins σ H' s2 ∧ RelV x u ∧ J.yld i H x H' ∧ tn (i + 1) s2.heap ∧ ∀ b ∈ fp, H' b = none) E s1) E s
  done : ∀ (X : Cx), X.prog = P → X.w = w → X.K = K → X.calm = true → ∀ (i : Nat) (pins : List (Addr × Obj)) (s : Shared) (σ : St) (H : Hp) (E : Value → Shared → Prop), Inv X pins σ H s → (∀ b ∈ fp, FpOk X pins H b) → tn i s.heap → J.stop i H →
    wpAny (model P w) X.A (pyNext (.ref it)) (fun r s1 => r = none ∧ Inv X pins σ H s1) E s
  self : ∀ (A : Around) (i : Nat) (s : Shared) (Q : Value → Shared → Prop) (E : Value → Shared → Prop), tn i s.heap → Q (.ref it) s → wpAny (model P w) A (pyIter (.ref it)) Q E s
abbrev TI := St → Hp → (It → Hp → Prop) → Prop
/-- an iterator has come -/
def PIE (X : Cx) (pins : List (Addr × Obj)) (σ : St) (tg : Expr) (R : It → Hp → Prop) (itv : Value) (s2 : Shared) : Prop :=
  ∃ (it : Addr) (fp : List Addr) (tn : Nat → Heap → Prop) (J : It) (H' : Hp), itv = .ref it ∧ Inv X pins σ H' s2 ∧ Turn X.prog X.w X.K tg J fp it tn ∧ tn 0 s2.heap ∧ (∀ b ∈ fp, FpOk X pins H' b) ∧ R J H'
def PI (X : Cx) (tg iter : Expr) (wi : TI) : Prop :=
  ∀ (pins : List (Addr × Obj)) (s : Shared) (σ : St) (H : Hp) (R : It → Hp → Prop), Inv X pins σ H s → wi σ H R →
    wpAny (model X.prog X.w) X.A (eval iter X.env) (fun v s1 => wpAny (model X.prog X.w) X.A (pyIter v) (PIE X pins σ tg R) X.xe s1) X.xe s

/-- the step ahead of the store is nothing for an iterator that keeps no tuple -/
theorem go_of {M : Model} {A : Around} {E : Value → Shared → Prop} {s : Shared} {tg : Expr} {it : Addr} {u : Value} {o : Obj} {n : String} {vs : Array Value} {Q : Unit → Shared → Prop} (ho : s.heap.get? it = some o) (hc : o.cls = .type n) (hd : o.data = .fields vs)
    (hn : ["enumerate", "zip", "dict_itemiterator", "dict_reverseitemiterator", "odict_iterator", "itertools.zip_longest", "itertools.pairwise"].contains n = false) (hQ : Q () s) : wpAny M A (letOwnedTupleGo tg (.ref it) u) Q E s := by
  unfold letOwnedTupleGo
  cases tg <;> first
    | exact wpAny_pure hQ
    | (cases u <;> first
        | exact wpAny_pure hQ
        | (refine wpAny_bind (wpAny_load ho ?_)
           rw [hc, hd]
           show wpAny M A (if (["enumerate", "zip", "dict_itemiterator", "dict_reverseitemiterator", "odict_iterator", "itertools.zip_longest", "itertools.pairwise"].contains n && vs[0]? == some (rawInt _)) = true then _ else _) Q E s
           rw [if_neg (by intro h; rw [hn, Bool.false_and] at h; cases h)]
           exact wpAny_pure hQ))

/-- the list at a, as it stands at each turn (a loop may append to it) -/
def Itl (K : PySem.W.Frag) (a : Addr) : It :=
  ⟨fun i H => ∃ xs x, SqL K H a xs ∧ xs[i]? = some x, fun i H x H' => H' = H ∧ ∀ xs, SqL K H a xs → xs[i]? = some x, fun i H => ∃ xs, SqL K H a xs ∧ xs.length ≤ i⟩
def Itt (K : PySem.W.Frag) (a : Addr) : It :=
  ⟨fun i H => ∃ xs x, SqT K H a xs ∧ xs[i]? = some x, fun i H x H' => H' = H ∧ ∀ xs, SqT K H a xs → xs[i]? = some x, fun i H => ∃ xs, SqT K H a xs ∧ xs.length ≤ i⟩
/-- lo, lo + 1, .. (n of them) -/
def Itr (lo : Int) (n : Nat) : It := ⟨fun i _ => i < n, fun i H x H' => H' = H ∧ x = .int (lo + i), fun i _ => n ≤ i⟩
theorem turn_tuple {P : Program} {w : World} {K : PySem.W.Frag} {tg : Expr} (a it : Addr) : Turn P w K tg (Itt K a) [it] it (fun i h => h.IsTupleIter it a i) where
  mem := by simp
  obj := fun i h st b hb => by
    have e : b = it := by simpa using hb
    subst e
    obtain ⟨o, e, c, d⟩ := st
    exact ⟨o, e, fun v z => by rw [d] at z; cases z⟩
  keep := fun i h h' st k => st.at fun o e => k it (by simp) o e
  item := by
    intro X hP hw hK hc i pins s σ H E I hf st hg
    subst hP hw hK
    obtain ⟨xs, x, hq, hx⟩ := hg
    obtain ⟨its, rv, p, hz⟩ := I.tuple hq
    obtain ⟨u, hu, ru⟩ := rv.get hx
    obtain ⟨f0, f1, f2, f3, f4, f5⟩ := hf it (by simp)
    refine wpAny_pyNext_tuple_item st (show s.heap.IsTuple a its.toArray from p) (x := u) (by simpa using hu) fun h' st' sb => ?_
    have I1 : Inv X pins σ H { s with heap := h' } := I.turned (t' := s.toks) (fun b o hb e => (sb.2 b hb).trans e) f0 f1 f3 f4 f5
    obtain ⟨o, e, c, d⟩ := id st'
    exact ⟨u, rfl, go_of (s := { s with heap := h' }) e c d (by decide) ⟨x, H, I1, ru, ⟨rfl, fun ys hy => by rw [I.tuple_inj hy hq]; exact hx⟩, st', fun b hb => (hf b hb).1⟩⟩
  done := by
    intro X hP hw hK hc i pins s σ H E I hf st hg
    subst hP hw hK
    obtain ⟨xs, hq, hx⟩ := hg
    obtain ⟨its, rv, p, hz⟩ := I.tuple hq
    obtain ⟨f0, f1, f2, f3, f4, f5⟩ := hf it (by simp)
    have hl := rv.length
    exact wpAny_pyNext_tuple_end (I.ok.hd hc) st (show s.heap.IsTuple a its.toArray from p) (by simp; omega) fun h' eb => ⟨rfl, I.turned (t' := s.toks) (fun b o hb e => eb b o hb e) f0 f1 f3 f4 f5⟩
  self := fun _ _ _ _ _ st h => wpAny_pyIter_tupleiter st h
end L2

namespace L2
open PySem PySem.Spec PyProof.Rows
section
variable {X : Cx} {tg : Expr}
def iList (K : PySem.W.Frag) (tl : TE) : TI := fun σ H R => tl σ H fun x H1 => ∃ a, x = .ref a ∧ (∃ xs, SqL K H1 a xs) ∧ R (Itl K a) H1
def iTup (K : PySem.W.Frag) (tl : TE) : TI := fun σ H R => tl σ H fun x H1 => ∃ a, x = .ref a ∧ (∃ xs, SqT K H1 a xs) ∧ R (Itt K a) H1
theorem pi_tup {l : Expr} {tl : TE} (hl : PE X l tl) : PI X tg l (iTup X.K tl) := by
  intro pins s σ H R I h
  refine thn (hl pins s σ H _ I h) fun v s1 ⟨x, H1, I1, r1, q1⟩ => ?_
  obtain ⟨a, e, ⟨xs, hq⟩, q⟩ := q1
  subst e
  cases r1
  obtain ⟨its, rv, p, hz⟩ := I1.tuple hq
  refine wpAny_pyIter_tuple (show s1.heap.IsTuple a its.toArray from p) ?_
  refine ⟨s1.heap.objs.size, [s1.heap.objs.size], _, _, H1, rfl, I1.kept (t' := s1.toks) fun b o e => Heap.get?_push_of_some _ e, turn_tuple a _, ⟨_, Heap.get?_push_size _ rfl, rfl, rfl⟩, fun b hb => ?_, q⟩
  have e : b = s1.heap.objs.size := by simpa using hb
  subst e
  exact I1.fpOk (Nat.le_refl _) (I1.hok.fresh (Nat.le_refl _))
def iRng1 (ta : TA) : TI := fun σ H R => ta σ H fun vs H1 => ∃ j : Int, vs = [.int j] ∧ -(2 ^ 62) ≤ j ∧ j < 2 ^ 62 ∧ R (Itr 0 j.toNat) H1
def iRng2 (ta : TA) : TI := fun σ H R => ta σ H fun vs H1 => ∃ i j : Int, vs = [.int i, .int j] ∧ (-(2 ^ 62) ≤ i ∧ i < 2 ^ 62 ∧ -(2 ^ 62) ≤ j ∧ j < 2 ^ 62) ∧ R (Itr i (j - i).toNat) H1
/-! ### for -/
/-- W: the invariant by the turn and a measure; N: what the body is to reach -/
def tFor (wi : TI) (g : TG) (tb : TS) : TS := fun D σ H => wi σ H fun J H1 => ∃ W : Nat → Nat → St → Hp → Prop, (∃ m, W 0 m σ H1) ∧ ∀ i m σ H, W i m σ H →
  (J.stop i H ∧ D.nx σ H) ∨ (J.go i H ∧ ∃ N : St → Hp → Prop, (∀ σ' H', N σ' H' → ∃ m', m' < m ∧ W (i + 1) m' σ' H') ∧ ∀ x H', J.yld i H x H' → g x σ H' fun σ2 H2 => tb { D with nx := N, ct := N, bk := D.nx } σ2 H2)
/-- the records at fp as they stand -/
def pinsAt (fp : List Addr) (h : Heap) : List (Addr × Obj) := fp.filterMap fun b => (h.get? b).map fun o => (b, o)
theorem mem_pinsAt {fp : List Addr} {h : Heap} {b : Addr} {o : Obj} (hb : b ∈ fp) (e : h.get? b = some o) : (b, o) ∈ pinsAt fp h := List.mem_filterMap.mpr ⟨b, hb, by rw [e]; rfl⟩
theorem of_pinsAt {fp : List Addr} {h : Heap} {p : Addr × Obj} (hp : p ∈ pinsAt fp h) : p.1 ∈ fp ∧ h.get? p.1 = some p.2 := by
  obtain ⟨b, hb, e⟩ := List.mem_filterMap.mp hp
  cases q : h.get? b with
  | none => rw [q] at e; cases e
  | some o =>
    rw [q] at e
    have e' : (b, o) = p := Option.some.inj e
    subst e'
    exact ⟨hb, q⟩
theorem Inv.pinned {pins : List (Addr × Obj)} {σ : St} {H : Hp} {s : Shared} {fp : List Addr} (I : Inv X pins σ H s) (hf : ∀ b ∈ fp, FpOk X pins H b) (ho : ∀ b ∈ fp, ∃ o, s.heap.get? b = some o ∧ ∀ v, o.data ≠ .cell v) : Inv X (pins ++ pinsAt fp s.heap) σ H s :=
  I.pins_of fun p hp => (List.mem_append.mp hp).elim (fun z => I.pin p (List.mem_append_right _ z)) fun z => by
    obtain ⟨hb, e⟩ := of_pinsAt z
    obtain ⟨f0, f1, f2, _⟩ := hf p.1 hb
    obtain ⟨o, e', d⟩ := ho p.1 hb
    rw [e] at e'; cases e'
    exact ⟨e, f0, f1, f2, d⟩
theorem Inv.unpinned {pins pl : List (Addr × Obj)} {σ : St} {H : Hp} {s : Shared} (I : Inv X (pins ++ pl) σ H s) : Inv X pins σ H s := I.pins_of fun p hp => I.pin p (List.mem_append_right _ (List.mem_append_left _ hp))
theorem ps_for {iter : Expr} {body : List Stmt} {wi : TI} {g : TG} {tb : TS} {pos : Pos} (hp : PassesOwn (model X.prog X.w) X.A X.env X.xe) (hc : X.calm = true) (hi : PI X tg iter wi) (hg : PG X tg g) (hb : PSs X body tb)
    (hs : ∀ x, foldedSetIterable iter X.env x = pure x := by intro _; rfl) : PS X (.For tg iter body [] pos) (tFor wi g tb) := by
  intro pins s σ H D I h
  refine wpAny_For (thn (hi pins s σ H _ I h) fun v s1 h1 => thn h1 fun itv s2 h2 => ?_) hs
  obtain ⟨it, fp, tn, J, H2, e, I2, T, st2, f2, W, ⟨m0, w0⟩, turn⟩ := h2
  subst e
  -- what stays true of the iterator's objects through the loop
  have stat : ∀ {H' : Hp}, (∀ b ∈ fp, H' b = none) → ∀ b ∈ fp, FpOk X pins H' b := fun hn b hb => ⟨hn b hb, (f2 b hb).2⟩
  refine codeAny_forLoop_any (fun n s' => ∃ i σ' H', Inv X pins σ' H' s' ∧ tn i s'.heap ∧ (∀ b ∈ fp, H' b = none) ∧ W i n σ' H') ?_ m0 ⟨0, σ, H2, I2, st2, fun b hb => (f2 b hb).1, w0⟩
  rintro n s3 ⟨i, σ3, H3, I3, st3, fr3, w3⟩
  rcases turn i n σ3 H3 w3 with ⟨stop, qn⟩ | ⟨go, N, hN, step⟩
  · refine wpAny_passesOwn hp (thn (T.done X rfl rfl rfl hc i pins s3 σ3 H3 X.xe I3 (stat fr3) st3 stop) fun r s4 ⟨hr, I4⟩ => ?_)
    subst hr
    exact wpAny_execs_nil ⟨σ3, H3, I4, qn⟩
  · refine wpAny_passesOwn hp (thn (T.item X rfl rfl rfl hc i pins s3 σ3 H3 X.xe I3 (stat fr3) st3 go) fun r s4 ⟨u, hr, h4⟩ => ?_)
    subst hr
    refine wpAny_passesOwn hp (thn h4 fun _ s5 ⟨x, H5, I5, r5, y5, st5, fr5⟩ => ?_)
    have I5' := I5.pinned (stat fr5) (T.obj _ _ st5)
    refine wpAny_passesOwn hp (thn (hg _ s5 σ3 H5 x u _ I5' r5 (step x H5 y5)) fun _ s6 ⟨σ6, H6, I6, q6⟩ => ?_)
    refine wpAny_passesOwn hp (thn (hb _ s6 σ6 H6 _ I6 q6) fun f s7 q7 => ?_)
    have again : ∀ {σ7 : St} {H7 : Hp}, Inv X (pins ++ pinsAt fp s5.heap) σ7 H7 s7 → N σ7 H7 → ∃ m, m < n ∧ ∃ i σ' H', Inv X pins σ' H' s7 ∧ tn i s7.heap ∧ (∀ b ∈ fp, H' b = none) ∧ W i m σ' H' := fun {σ7 H7} I7 n7 => by
      obtain ⟨m', hm, w7⟩ := hN σ7 H7 n7
      refine ⟨m', hm, i + 1, σ7, H7, I7.unpinned, T.keep _ _ _ st5 fun b hb o e => (I7.pin (b, o) (List.mem_append_right _ (List.mem_append_right _ (mem_pinsAt hb e)))).1, fun b hb => ?_, w7⟩
      obtain ⟨o, e, d⟩ := T.obj _ _ st5 b hb
      exact (I7.pin (b, o) (List.mem_append_right _ (List.mem_append_right _ (mem_pinsAt hb e)))).2.1
    cases f with
    | next => obtain ⟨σ7, H7, I7, n7⟩ := q7; exact again I7 n7
    | cont => obtain ⟨σ7, H7, I7, n7⟩ := q7; exact again I7 n7
    | brk => obtain ⟨σ7, H7, I7, q7⟩ := q7; exact ⟨σ7, H7, I7.unpinned, q7⟩
    | ret v => obtain ⟨x7, σ7, H7, I7, r7, q7⟩ := q7; exact ⟨x7, σ7, H7, I7.unpinned, r7, q7⟩
end

/-! ### the forms one uses -/
theorem for_tup {K : PySem.W.Frag} {a : Addr} {xs : List V} {g : TG} {tb : TS} {D : Ends} {σ : St} {H : Hp} (Pv : Nat → St → Hp → Prop) (h0 : Pv 0 σ H) (hl : ∀ i σ H, i ≤ xs.length → Pv i σ H → SqT K H a xs)
    (hs : ∀ i x σ H, xs[i]? = some x → Pv i σ H → g x σ H fun σ2 H2 => tb { D with nx := Pv (i + 1), ct := Pv (i + 1), bk := D.nx } σ2 H2) (hd : ∀ σ H, Pv xs.length σ H → D.nx σ H) :
    ∃ W : Nat → Nat → St → Hp → Prop, (∃ m, W 0 m σ H) ∧ ∀ i m σ H, W i m σ H →
      ((Itt K a).stop i H ∧ D.nx σ H) ∨ ((Itt K a).go i H ∧ ∃ N : St → Hp → Prop, (∀ σ' H', N σ' H' → ∃ m', m' < m ∧ W (i + 1) m' σ' H') ∧ ∀ x H', (Itt K a).yld i H x H' → g x σ H' fun σ2 H2 => tb { D with nx := N, ct := N, bk := D.nx } σ2 H2) := by
  refine ⟨fun i m σ H => m = xs.length - i ∧ i ≤ xs.length ∧ Pv i σ H, ⟨xs.length, by simp, Nat.zero_le _, h0⟩, ?_⟩
  rintro i m σ H ⟨rfl, hi, p⟩
  have q := hl i σ H hi p
  by_cases hlt : i < xs.length
  · refine .inr ⟨⟨xs, xs[i], q, by simp [hlt]⟩, Pv (i + 1), fun σ' H' p' => ⟨xs.length - (i + 1), by omega, rfl, hlt, p'⟩, fun x H' y => ?_⟩
    obtain ⟨e, y⟩ := y
    subst e
    exact hs i x σ _ (y xs q) p
  · have e : i = xs.length := by omega
    subst e
    exact .inl ⟨⟨xs, q, Nat.le_refl _⟩, hd σ H p⟩
end L2

namespace L2
open PySem PySem.Spec PyProof.Rows

abbrev R2 := V → V → Hp → VK → Prop
/-- a two-place operation on values: f is binaryOp op, inplaceOp op or compareOp op -/
def OpR (X : Cx) (f : Value → Value → Sem Value) (r : R2) : Prop :=
  ∀ (pins : List (Addr × Obj)) (s : Shared) (σ : St) (H : Hp) (x y : V) (v u : Value) (Q : VK), Inv X pins σ H s → RelV x v → RelV y u → r x y H Q →
    wpAny (model X.prog X.w) X.A (f v u) (EP X pins σ Q) X.xe s
/-- a one-place operation -/
def UnR (X : Cx) (f : Value → Sem Value) (r : V → Hp → VK → Prop) : Prop :=
  ∀ (pins : List (Addr × Obj)) (s : Shared) (σ : St) (H : Hp) (x : V) (v : Value) (Q : VK), Inv X pins σ H s → RelV x v → r x H Q →
    wpAny (model X.prog X.w) X.A (f v) (EP X pins σ Q) X.xe s
/-- a call of a value that is known (a builtin, a type) with values -/
def CallR (X : Cx) (f : Value) (r : List V → Hp → VK → Prop) : Prop :=
  ∀ (pins : List (Addr × Obj)) (s : Shared) (σ : St) (H : Hp) (xs : List V) (us : List Value) (Q : VK), Inv X pins σ H s → Vals xs us → r xs H Q →
    wpAny (model X.prog X.w) X.A (call f us) (EP X pins σ Q) X.xe s
/-- a value's truth -/
def TruR (X : Cx) (r : V → Hp → (Bool → Hp → Prop) → Prop) : Prop :=
  ∀ (pins : List (Addr × Obj)) (s : Shared) (σ : St) (H : Hp) (x : V) (v : Value) (Q : Bool → Hp → Prop), Inv X pins σ H s → RelV x v → r x H Q →
    wpAny (model X.prog X.w) X.A (truthy v) (TP X pins σ Q) X.xe s

def tOp (r : R2) (ta tb : TE) : TE := fun σ H Q => ta σ H fun x H1 => tb σ H1 fun y H2 => r x y H2 Q
def tUn (r : V → Hp → VK → Prop) (ta : TE) : TE := fun σ H Q => ta σ H fun x H1 => r x H1 Q
/-- ints in, under C, and a value out -/
def rI (C : Int → Int → Prop) (g : Int → Int → V) : R2 := fun x y H Q => ∃ i j, x = .int i ∧ y = .int j ∧ C i j ∧ Q (g i j) H
def rI0 (g : Int → Int → V) : R2 := fun x y H Q => ∃ i j, x = .int i ∧ y = .int j ∧ Q (g i j) H
def rU (g : Int → V) : V → Hp → VK → Prop := fun x H Q => ∃ i, x = .int i ∧ Q (g i) H

section
variable {X : Cx} {a b c : Expr} {ta tb tc : TE} {pos : Pos}

theorem binT (ha : PE X a ta) (hb : PE X b tb) {pins : List (Addr × Obj)} {s : Shared} {σ : St} {H : Hp} {R : V → V → Hp → Prop} (I : Inv X pins σ H s)
    (h : ta σ H fun x H1 => tb σ H1 fun y H2 => R x y H2) {Q : Value → Shared → Prop} {f : Value → Value → Sem Value}
    (hf : ∀ v u s2 x y H2, Inv X pins σ H2 s2 → RelV x v → RelV y u → R x y H2 → wpAny (model X.prog X.w) X.A (f v u) Q X.xe s2) :
    wpAny (model X.prog X.w) X.A (eval a X.env) (fun v s₁ => wpAny (model X.prog X.w) X.A (eval b X.env) (fun u s₂ => wpAny (model X.prog X.w) X.A (f v u) Q X.xe s₂) X.xe s₁) X.xe s := by
  refine thn (ha pins s σ H _ I h) fun v s1 ⟨x, H1, I1, r1, q1⟩ => ?_
  refine thn (hb pins s1 σ H1 _ I1 q1) fun u s2 ⟨y, H2, I2, r2, q2⟩ => ?_
  exact hf v u s2 x y H2 I2 r1 r2 q2

theorem pe_op {op : Operator} {r : R2} (ho : OpR X (binaryOp op) r) (ha : PE X a ta) (hb : PE X b tb) : PE X (.BinOp a op b pos) (tOp r ta tb) := by
  intro pins s σ H Q I h
  exact wpAny_BinOp (binT ha hb I h fun v u s2 x y H2 I2 rx ry q => ho pins s2 σ H2 x y v u Q I2 rx ry q)
/-! ### ints -/
theorem opI {f : Value → Value → Sem Value} {C : Int → Int → Prop} {g : Int → Int → Int}
    (rule : ∀ (i j : Int) (t u : Tok) (s : Shared) (Q : Value → Shared → Prop) (E : Value → Shared → Prop), C i j → Q (.int (g i j) s.toks) { s with toks := s.toks + 1 } → wpAny (model X.prog X.w) X.A (f (.int i t) (.int j u)) Q E s) :
    OpR X f (rI C fun i j => .int (g i j)) := by
  intro pins s σ H x y v u Q I rx ry h
  obtain ⟨i, j, rfl, rfl, hc, q⟩ := h
  obtain ⟨t, rfl⟩ := rx
  obtain ⟨t', rfl⟩ := ry
  exact rule i j t t' s _ _ hc ⟨.int (g i j), H, I.tok _, ⟨_, rfl⟩, q⟩
theorem opI0 {f : Value → Value → Sem Value} {g : Int → Int → Int}
    (rule : ∀ (i j : Int) (t u : Tok) (s : Shared) (Q : Value → Shared → Prop) (E : Value → Shared → Prop), Q (.int (g i j) s.toks) { s with toks := s.toks + 1 } → wpAny (model X.prog X.w) X.A (f (.int i t) (.int j u)) Q E s) :
    OpR X f (rI0 fun i j => .int (g i j)) := by
  intro pins s σ H x y v u Q I rx ry h
  obtain ⟨i, j, rfl, rfl, q⟩ := h
  obtain ⟨t, rfl⟩ := rx
  obtain ⟨t', rfl⟩ := ry
  exact rule i j t t' s _ _ ⟨.int (g i j), H, I.tok _, ⟨_, rfl⟩, q⟩
theorem opB0 {f : Value → Value → Sem Value} {g : Int → Int → Bool}
    (rule : ∀ (i j : Int) (t u : Tok) (s : Shared) (Q : Value → Shared → Prop) (E : Value → Shared → Prop), Q (.bool (g i j)) s → wpAny (model X.prog X.w) X.A (f (.int i t) (.int j u)) Q E s) :
    OpR X f (rI0 fun i j => .bl (g i j)) := by
  intro pins s σ H x y v u Q I rx ry h
  obtain ⟨i, j, rfl, rfl, q⟩ := h
  obtain ⟨t, rfl⟩ := rx
  obtain ⟨t', rfl⟩ := ry
  exact rule i j t t' s _ _ ⟨.bl (g i j), H, I, rfl, q⟩

def CDiv (i j : Int) : Prop := 0 < j ∧ j < 1073741824
def CDivN (i j : Int) : Prop := j ≠ 0 ∧ j.natAbs < 1073741824
def CPow (i j : Int) : Prop := 0 ≤ j ∧ j ≤ 1000000 ∧ i.natAbs < 2 ^ 64
def CMul (i j : Int) : Prop := (-(2 ^ 64) < i ∧ i < 2 ^ 64) ∨ (-(2 ^ 64) < j ∧ j < 2 ^ 64)
theorem CMul.ok {i j : Int} (h : CMul i j) : IntMulOk i j := by
  rcases h with ⟨h1, h2⟩ | ⟨h1, h2⟩
  · exact .of_left (intBits_le_64 h1 h2)
  · exact .of_right (intBits_le_64 h1 h2)
theorem op_add : OpR X (binaryOp .Add) (rI0 fun i j => .int (i + j)) := opI0 fun _ _ _ _ _ _ _ q => add_int q
theorem op_sub : OpR X (binaryOp .Sub) (rI0 fun i j => .int (i - j)) := opI0 fun _ _ _ _ _ _ _ q => sub_int q
theorem op_mul : OpR X (binaryOp .Mult) (rI CMul fun i j => .int (i * j)) := opI fun _ _ _ _ _ _ _ hc q => mul_int q hc.ok
/-- // by a positive divisor -/
theorem op_fdiv : OpR X (binaryOp .FloorDiv) (rI CDiv fun i j => .int (i / j)) := opI fun i j _ _ _ _ _ hc q => by
  have h1 : (0 : Int) < j := hc.1
  have h2 : j < 1073741824 := hc.2
  exact floordiv_int (by omega) (by rw [Int.fdiv_eq_ediv_of_nonneg i (by omega)]; exact q) (.inl (PyProof.noPylong_small (by omega)))
/-- % by a positive divisor of any size -/
theorem op_mod : OpR X (binaryOp .Mod) (rI (fun _ j => 0 < j) fun i j => .int (i % j)) := opI fun i j _ _ _ _ _ hc q => by
  have h1 : (0 : Int) < j := hc
  exact mod_int' (by omega) (by rw [Int.fmod_eq_emod_of_nonneg i (by omega)]; exact q)
/-! ### bools among ints: n += (a < b) -/
end

/-! ### comparisons -/
/-- the scalars that == tells apart as data does -/
def scal : V → V → Bool
  | .non, .non => true | .non, .int _ => true | .int _, .non => true | .non, .bl _ => true | .bl _, .non => true | .non, .str _ => true | .str _, .non => true
  | .int _, .int _ => true | .bl _, .bl _ => true | .str _, .str _ => true | .byt _, .byt _ => true
  | .int _, .str _ => true | .str _, .int _ => true | .bl _, .str _ => true | .str _, .bl _ => true
  | _, _ => false
def rEq : R2 := fun x y H Q => scal x y = true ∧ Q (.bl (decide (x = y))) H
def rNe : R2 := fun x y H Q => scal x y = true ∧ Q (.bl (!decide (x = y))) H

theorem dec_int {i j : Int} : decide (V.int i = V.int j) = (i == j) := by
  rw [Bool.eq_iff_iff]
  simp
theorem dec_bl {i j : Bool} : decide (V.bl i = V.bl j) = (i == j) := by
  rw [Bool.eq_iff_iff]
  simp
theorem dec_str {i j : Str} : decide (V.str i = V.str j) = (i == j) := by
  rw [Bool.eq_iff_iff]
  simp
theorem dec_byt {i j : Array UInt8} : decide (V.byt i = V.byt j) = (i.toList == j.toList) := by
  rw [Bool.eq_iff_iff]
  cases i
  cases j
  simp

section
variable {X : Cx} {a b c : Expr} {ta tb tc : TE} {pos : Pos}
theorem fin_bl {pins : List (Addr × Obj)} {σ : St} {H : Hp} {s : Shared} {Q : VK} {k k' : Bool} (I : Inv X pins σ H s) (q : Q (.bl k) H) (e : k = k') : EP X pins σ Q (.bool k') s := by
  subst e
  exact ⟨.bl k, H, I, rfl, q⟩
theorem op_eq : OpR X (compareOp .Eq) rEq := by
  intro pins s σ H x y v u Q I rx ry h
  obtain ⟨hs, q⟩ := h
  cases x with
  | non =>
    cases rx
    cases y with
    | non => cases ry; exact PySem.EqNone.eq_none_none (fin_bl I q (by simp))
    | bl j => cases ry; exact PySem.EqNone.eq_none_bool (fin_bl I q (by simp))
    | int j => obtain ⟨t', rfl⟩ := ry; exact PySem.EqNone.eq_none_int (fin_bl I q (by simp))
    | str j => obtain ⟨t', rfl⟩ := ry; exact PySem.EqNone.eq_none_str (fin_bl I q (by simp))
    | _ => exact absurd (show false = true from hs) Bool.false_ne_true
  | bl i =>
    cases rx
    cases y with
    | non => cases ry; exact PySem.EqNone.eq_bool_none (fin_bl I q (by simp))
    | bl j => cases ry; exact eq_bool (fin_bl I q dec_bl)
    | str j => obtain ⟨t', rfl⟩ := ry; exact PySem.EqMixed.eq_bool_str (fin_bl I q (by simp))
    | _ => exact absurd (show false = true from hs) Bool.false_ne_true
  | int i =>
    obtain ⟨t, rfl⟩ := rx
    cases y with
    | non => cases ry; exact PySem.EqNone.eq_int_none (fin_bl I q (by simp))
    | int j => obtain ⟨t', rfl⟩ := ry; exact eq_int (fin_bl I q dec_int)
    | str j => obtain ⟨t', rfl⟩ := ry; exact PySem.EqMixed.eq_int_str (fin_bl I q (by simp))
    | _ => exact absurd (show false = true from hs) Bool.false_ne_true
  | str i =>
    obtain ⟨t, rfl⟩ := rx
    cases y with
    | non => cases ry; exact PySem.EqNone.eq_str_none (fin_bl I q (by simp))
    | bl j => cases ry; exact PySem.EqMixed.eq_str_bool (fin_bl I q (by simp))
    | int j => obtain ⟨t', rfl⟩ := ry; exact PySem.EqMixed.eq_str_int (fin_bl I q (by simp))
    | str j => obtain ⟨t', rfl⟩ := ry; exact eq_str (fin_bl I q dec_str)
    | _ => exact absurd (show false = true from hs) Bool.false_ne_true
  | byt i =>
    obtain ⟨t, rfl⟩ := rx
    cases y with
    | byt j => obtain ⟨t', rfl⟩ := ry; exact PySem.W.eq_bytes (fin_bl I q dec_byt)
    | _ => exact absurd (show false = true from hs) Bool.false_ne_true
  | _ => cases y <;> exact absurd (show false = true from hs) Bool.false_ne_true
theorem op_ne : OpR X (compareOp .NotEq) rNe := by
  intro pins s σ H x y v u Q I rx ry h
  obtain ⟨hs, q⟩ := h
  cases x with
  | non =>
    cases rx
    cases y with
    | non => cases ry; exact PySem.EqNone.ne_none_none (fin_bl I q (by simp))
    | bl j => cases ry; exact PySem.EqNone.ne_none_bool (fin_bl I q (by simp))
    | int j => obtain ⟨t', rfl⟩ := ry; exact PySem.EqNone.ne_none_int (fin_bl I q (by simp))
    | str j => obtain ⟨t', rfl⟩ := ry; exact PySem.EqNone.ne_none_str (fin_bl I q (by simp))
    | _ => exact absurd (show false = true from hs) Bool.false_ne_true
  | bl i =>
    cases rx
    cases y with
    | non => cases ry; exact PySem.EqNone.ne_bool_none (fin_bl I q (by simp))
    | bl j => cases ry; exact ne_bool (fin_bl I q (congrArg not dec_bl))
    | str j => obtain ⟨t', rfl⟩ := ry; exact PySem.EqMixed.ne_bool_str (fin_bl I q (by simp))
    | _ => exact absurd (show false = true from hs) Bool.false_ne_true
  | int i =>
    obtain ⟨t, rfl⟩ := rx
    cases y with
    | non => cases ry; exact PySem.EqNone.ne_int_none (fin_bl I q (by simp))
    | int j => obtain ⟨t', rfl⟩ := ry; exact ne_int (fin_bl I q (congrArg not dec_int))
    | str j => obtain ⟨t', rfl⟩ := ry; exact PySem.EqMixed.ne_int_str (fin_bl I q (by simp))
    | _ => exact absurd (show false = true from hs) Bool.false_ne_true
  | str i =>
    obtain ⟨t, rfl⟩ := rx
    cases y with
    | non => cases ry; exact PySem.EqNone.ne_str_none (fin_bl I q (by simp))
    | bl j => cases ry; exact PySem.EqMixed.ne_str_bool (fin_bl I q (by simp))
    | int j => obtain ⟨t', rfl⟩ := ry; exact PySem.EqMixed.ne_str_int (fin_bl I q (by simp))
    | str j => obtain ⟨t', rfl⟩ := ry; exact ne_str (fin_bl I q (congrArg not dec_str))
    | _ => exact absurd (show false = true from hs) Bool.false_ne_true
  | byt i =>
    obtain ⟨t, rfl⟩ := rx
    cases y with
    | byt j => obtain ⟨t', rfl⟩ := ry; exact PySem.W.ne_bytes (fin_bl I q (congrArg not dec_byt))
    | _ => exact absurd (show false = true from hs) Bool.false_ne_true
  | _ => cases y <;> exact absurd (show false = true from hs) Bool.false_ne_true

theorem op_lt : OpR X (compareOp .Lt) (rI0 fun i j => .bl (decide (i < j))) := opB0 fun _ _ _ _ _ _ _ q => lt_int q
theorem op_le : OpR X (compareOp .LtE) (rI0 fun i j => .bl (decide (i ≤ j))) := opB0 fun _ _ _ _ _ _ _ q => le_int q
theorem op_gt : OpR X (compareOp .Gt) (rI0 fun i j => .bl (decide (j < i))) := opB0 fun _ _ _ _ _ _ _ q => gt_int q
/-- is None, is not None: the right side a value none -/
theorem op_isN : OpR X (compareOp .Is) (fun x y H Q => y = .non ∧ Q (.bl (decide (x = .non))) H) := by
  intro pins s σ H x y v u Q I rx ry h
  obtain ⟨rfl, q⟩ := h
  cases ry
  refine is_none_gen (fin_bl I q ?_)
  cases x <;> first
    | (cases rx; rfl)
    | (obtain ⟨t, rfl⟩ := rx; rfl)
/-- is, is not of two objects that are tracked lists or instances -/
def isObj : HO → Bool
  | .lst _ => true
  | .ins _ _ _ => true
  | _ => false
/-- two rules for one operation: by cases -/
theorem OpR.or {f : Value → Value → Sem Value} {r r' : R2} (h : OpR X f r) (h' : OpR X f r') : OpR X f (fun x y H Q => r x y H Q ∨ r' x y H Q) := by
  intro pins s σ H x y v u Q I rx ry q
  rcases q with q | q
  · exact h pins s σ H x y v u Q I rx ry q
  · exact h' pins s σ H x y v u Q I rx ry q

theorem nomark (b : Expr) {op : CmpOp} (h : op ≠ .In := by decide) (h2 : op ≠ .NotIn := by decide) : behindInMarks op b = false := by
  have e1 : (op == CmpOp.In) = false := by cases op <;> first | rfl | exact absurd rfl h
  have e2 : (op == CmpOp.NotIn) = false := by cases op <;> first | rfl | exact absurd rfl h2
  cases b <;> simp [behindInMarks, e1, e2]
/-- a comparison as a value; hm: nomark b, or (for in, not in) by with_unfolding_all rfl -/
theorem pe_cmpR {op : CmpOp} {r : R2} (ho : OpR X (compareOp op) r) (ha : PE X a ta) (hb : PE X b tb) (hm : behindInMarks op b = false) : PE X (.Compare a [op] [b] pos) (tOp r ta tb) := by
  intro pins s σ H Q I h
  exact wpAny_Compare1 (binT ha hb I h fun v u s2 x y H2 I2 rx ry q => ho pins s2 σ H2 x y v u Q I2 rx ry q) hm
/-- a reading of a value as a test -/
def tTest (t : TE) : TT := fun σ H Q => t σ H fun x H' => ∃ k, x = .bl k ∧ Q k H'
theorem pt_cmpR {op : CmpOp} {r : R2} (ho : OpR X (compareOp op) r) (ha : PE X a ta) (hb : PE X b tb) (hm : behindInMarks op b = false) : PT X (.Compare a [op] [b] pos) (tTest (tOp r ta tb)) := by
  intro pins s σ H Q I h
  refine wpAny_isTrue_Compare1 (thn (ha pins s σ H _ I h) fun v s1 ⟨x, H1, I1, r1, q1⟩ => thn (hb pins s1 σ H1 _ I1 q1) fun u s2 ⟨y, H2, I2, r2, q2⟩ =>
    thn (ho pins s2 σ H2 x y v u _ I2 r1 r2 q2) fun c s3 ⟨z, H3, I3, r3, k, e, q3⟩ => ?_) hm
  subst e
  cases r3
  exact wpAny_truthy_bool ⟨H3, I3, q3⟩
/-- a op1 b op2 c -/
def tChain (r r' : R2) (ta tb tc : TE) : TE := fun σ H Q => ta σ H fun x H1 => tb σ H1 fun y H2 => r x y H2 fun z H3 => ∃ k, z = .bl k ∧
  (if k = true then tc σ H3 fun w' H4 => r' y w' H4 Q else Q (.bl false) H3)
theorem pt_chain {op op' : CmpOp} {r r' : R2} (ho : OpR X (compareOp op) r) (ho' : OpR X (compareOp op') r') (ha : PE X a ta) (hb : PE X b tb) (hc : PE X c tc)
    (hm : lastMarks [op, op'] [b, c] = false := by with_unfolding_all rfl) : PT X (.Compare a [op, op'] [b, c] pos) (tTest (tChain r r' ta tb tc)) := by
  intro pins s σ H Q I h
  refine isTrue_chain (thn (ha pins s σ H _ I h) fun v s1 ⟨x, H1, I1, r1, q1⟩ => test_link (thn (hb pins s1 σ H1 _ I1 q1) fun u s2 ⟨y, H2, I2, r2, q2⟩ =>
    thn (ho pins s2 σ H2 x y v u _ I2 r1 r2 q2) fun d s3 ⟨z, H3, I3, r3, k, e, q3⟩ => ?_)) hm
  subst e
  cases r3
  refine wpAny_truthy_bool ?_
  cases k with
  | false =>
    obtain ⟨k', e', q'⟩ := q3
    cases e'
    exact ite_ff ⟨H3, I3, q'⟩
  | true =>
    refine ite_tt (test_last (thn (hc pins s3 σ H3 _ I3 q3) fun w' s4 ⟨z', H4, I4, r4, q4⟩ => thn (ho' pins s4 σ H4 y z' u w' _ I4 r2 r4 q4) fun d' s5 ⟨z2, H5, I5, r5, k2, e2, q5⟩ => ?_))
    subst e2
    cases r5
    exact wpAny_truthy_bool ⟨H5, I5, q5⟩

/-! ### truth -/
/-- a value's truth by the abstract heap -/
def TruV (K : PySem.W.Frag) (x : V) (H : Hp) (k : Bool) : Prop :=
  match x with
  | .non => k = false
  | .bl b => k = b
  | .int i => k = (i != 0)
  | .str y => y.length ≤ sizeLine ∧ k = ((y.length : Int) != 0)
  | .byt y => y.size ≤ sizeLine ∧ k = ((y.size : Int) != 0)
  | .ref p => (∃ xs, SqL K H p xs ∧ k = !xs.isEmpty) ∨ (∃ xs, SqT K H p xs ∧ k = !xs.isEmpty) ∨ ∃ kvs, H p = some (.dK kvs) ∧ k = !kvs.isEmpty
  | _ => False
theorem line63 : (sizeLine : Nat) < 2 ^ 63 := by rw [sizeLine_eq]; decide
/-! ### strs and bytes -/
def PlainIxT (b : Expr) : Prop := ∀ o i, subscripted b false o i = operate [o, i] (getItem o i)
/-! ### scalar builtins, by CallR -/
theorem vals1 {x : V} {us : List Value} (r : Vals [x] us) : ∃ u, us = [u] ∧ RelV x u := by
  cases r with
  | cons r1 r2 => cases r2; exact ⟨_, rfl, r1⟩
/-- len of a str, a bytes, a list, a tuple -/
def LenV (K : PySem.W.Frag) (x : V) (H : Hp) (n : Nat) : Prop :=
  match x with
  | .str y => y.length ≤ sizeLine ∧ n = y.length
  | .byt y => y.size ≤ sizeLine ∧ n = y.size
  | .ref p => (∃ xs, SqL K H p xs ∧ n = xs.length) ∨ ∃ xs, SqT K H p xs ∧ n = xs.length
  | _ => False
end
end L2

namespace L2
open PySem PySem.Spec PyProof.Rows

/-! ### an instance, its attributes a map -/
structure ObjM (h : Heap) (x dx C : Addr) (mA : Str → Option Value) : Prop where
  obj : h.get? x = some (PySem.W.instObj C dx)
  ns : h.Ns1 dx mA
  ne : dx ≠ x

theorem lookIn_ns {h : Heap} {dx : Addr} {mA : Str → Option Value} (n : h.Ns1 dx mA) : ∃ od, h.get? dx = some od ∧ ∀ name, PySem.W.lookIn name od = some (mA name) := by
  obtain ⟨o, es, ep, ho, hd, hk, _, hm⟩ := n
  refine ⟨o, ho, fun name => ?_⟩
  have e := hm name
  unfold nsFind findBy at e
  rw [← Array.find?_toList] at e
  unfold PySem.W.lookIn
  rw [hd]
  dsimp only
  split
  · rename_i y q
    rw [q] at e
    exact congrArg some e
  · rename_i q
    rw [q] at e
    have a : es.toList.any (·.refKey) = false := by
      rw [List.any_eq_false]
      intro y hy
      obtain ⟨z, t, hkey⟩ := hk y (Array.mem_toList_iff.mp hy)
      simp [DictEntry.refKey, hkey]
    have a' : ¬ es.toList.any (·.refKey) = true := by rw [a]; exact Bool.false_ne_true
    rw [if_neg a']
    exact congrArg some e

theorem ObjM.look {h : Heap} {x dx C : Addr} {mA : Str → Option Value} (I : ObjM h x dx C mA) : ∃ od, PySem.W.InstAt h x (PySem.W.instObj C dx) C (some od) ∧ ∀ name, PySem.W.lookIn name od = some (mA name) :=
  let ⟨od, ho, hl⟩ := lookIn_ns I.ns
  ⟨od, ⟨I.obj, rfl, rfl, ho⟩, hl⟩

section
variable {prog : Program} {w : World} {A : Around} {E : Value → Shared → Prop} {s : Shared} {K : PySem.W.Frag} {x dx C f : Addr} {mA : Str → Option Value} {name : Str} {v : Value}

theorem get_map {expr : Bool} {Q : Value → Shared → Prop} (X : K.In s.heap) (I : ObjM s.heap x dx C mA) (hg : PySem.W.plainGet K C name = true) (hh : PySem.W.hasDictIn K C = true)
    (ha : PySem.W.findIn K (.ref C) name = some none) (hv : mA name = some v) (hv' : PySem.W.handedIn v = true) (h : Q v { s with toks := s.toks + 1 }) :
    wpAny (model prog w) A (getAttr (.ref x) name expr) Q E s := by
  obtain ⟨od, J, hl⟩ := I.look
  exact PySem.W.get_value X J (PySem.W.plainGet_of hg).1 (PySem.W.findObj_own hh ha rfl (by rw [hl, hv])) hv' h

theorem get_meth {pl : Sem Bool} {Q : Value × List Value → Shared → Prop} (X : K.In s.heap) (I : ObjM s.heap x dx C mA) (hg : PySem.W.plainGet K C name = true)
    (hf : PySem.W.findIn K (.ref C) name = some (some (.ref f))) (ht : PySem.W.isFn K (.ref f) = true) (hv : mA name = none) (h : Q (.ref f, [.ref x]) s) :
    wpAny (model prog w) A (getMethod (.ref x) name pl) Q E s := by
  obtain ⟨od, J, hl⟩ := I.look
  exact PySem.W.method_fn X J (PySem.W.plainGet_of hg).1 (PySem.W.plainGet_of hg).2 hf (beq_iff_eq.mp ht) (by show (PySem.W.lookIn name od).map (·.isSome) = some false; rw [hl, hv]; rfl) h

theorem set_map {ns : List Str} {Q : Unit → Shared → Prop} (X : K.In s.heap) (I : ObjM s.heap x dx C mA)
    (hs : PySem.W.findIn K (.ref C) "__setattr__" = some (some (.builtin "object.__setattr__"))) (hp : PySem.W.plainOver K C = true) (ht : PySem.W.takerIn K C name = some none) (hh : PySem.W.hasDictIn K C = true)
    (hw : PySem.Within mA ns) (hsz : ns.length ≤ sizeLine)
    (h : ∀ h', ObjM h' x dx C (fun y => if y = name then some v else mA y) → Heap.SameBut dx s.heap h' → Q () { s with heap := h', toks := s.toks + 2 }) :
    wpAny (model prog w) A (setAttr (.ref x) name v) Q E s := by
  obtain ⟨od, J, hl⟩ := I.look
  refine PySem.W.set_plain X J hs (PySem.W.osa_open (s := { s with toks := s.toks + 1 }) (r := none) X J hp ht fun b => ?_)
  obtain ⟨cd, hc, hd'⟩ := PySem.W.any_some hh
  have hx : s.heap.get? x = some ⟨.ref C, some dx, .plain, #[]⟩ := I.obj
  refine wpAny_bind (wpAny_pure (wpAny_bind (wpAny_bind (wpAny_loadPart hx (wpAny_bind (PySem.W.Looks.here (s := { s with toks := s.toks + 1 }) (PySem.W.looks_clsIn X hc) ?_))))))
  rw [hd']
  refine wpAny_pure (a := some dx) (wpAny_bind (wpAny_pure (wpAny_bind ?_)))
  refine wpAny_nsSet1 (s := { s with toks := s.toks + 1 }) I.ns fun h' hn2 hs2 => ?_
  obtain ⟨oD, esD, epD, hoD, hdD, hcD⟩ := hn2.count (PySem.Within.cons name v hw)
  refine wpAny_bind (wpAny_lookBehind hoD (by rw [hdD]; exact pastItsLine_dict (Nat.le_trans hcD (by rw [List.length_cons]; omega))) ?_)
  exact wpAny_pure (h _ ⟨(hs2.2 _ (Ne.symm I.ne)).trans I.obj, hn2, I.ne⟩ hs2)

/-- C(..): the dict at the heap's end, the instance behind it; then its __init__ -/
theorem make_map {R : Result → Shared → Prop} {vs : List Value} {kw : List (Str × Value)} (X : K.In s.heap) (hm : PySem.W.makesIn K C = true)
    (hi : PySem.W.findIn K (.ref C) "__init__" = some (some (.ref f))) (hf : PySem.W.typeIn K (.ref f) = some (.type "function"))
    (h : codeAny (model prog w) (A.under (.builtin "type.__call__" ⟨.ref C :: vs, kw⟩)) (.call (.ref f) ⟨.ref (s.heap.objs.size + 1) :: vs, kw⟩) (PySem.W.InitBack (s.heap.objs.size + 1) R)
      { s with heap := (s.heap.push PySem.W.emptyDict).push (PySem.W.instObj C s.heap.objs.size) }) :
    codeAny (model prog w) A (.call (.ref C) ⟨vs, kw⟩) R s := by
  obtain ⟨hh, g, d, t, os⟩ := s
  exact PySem.W.make_core (PySem.W.makes_of X hm) (PySem.W.looks_findIn X hi) (fun self => PySem.W.bind_fn X self hf) (.inl rfl) h
end

/-! ### the attributes as a list of pairs -/
def putF (f : Str) (v : V) : List (Str × V) → List (Str × V)
  | [] => [(f, v)]
  | (g, x) :: r => if g = f then (g, v) :: r else (g, x) :: putF f v r
theorem lookup_putF (f g : Str) (v : V) : ∀ fs : List (Str × V), (putF f v fs).lookup g = if g = f then some v else fs.lookup g
  | [] => by
    show List.lookup g [(f, v)] = _
    by_cases h : g = f
    · have hb : (g == f) = true := beq_iff_eq.mpr h
      simp only [List.lookup, hb, if_pos h]
    · have hb : (g == f) = false := beq_eq_false_iff_ne.mpr h
      simp only [List.lookup, hb, if_neg h]
  | (k, x) :: r => by
    have ih := lookup_putF f g v r
    rw [show putF f v ((k, x) :: r) = (if k = f then (k, v) :: r else (k, x) :: putF f v r) from rfl]
    by_cases hk : k = f
    · rw [if_pos hk]
      by_cases h : g = k
      · have hb : (g == k) = true := beq_iff_eq.mpr h
        simp only [List.lookup, hb, if_pos (h.trans hk)]
      · have hb : (g == k) = false := beq_eq_false_iff_ne.mpr h
        simp only [List.lookup, hb, if_neg (fun e : g = f => h (e.trans hk.symm))]
    · rw [if_neg hk]
      by_cases h : g = k
      · have hb : (g == k) = true := beq_iff_eq.mpr h
        simp only [List.lookup, hb, if_neg (fun e : g = f => hk (h.symm.trans e))]
      · have hb : (g == k) = false := beq_eq_false_iff_ne.mpr h
        simp only [List.lookup, hb]
        exact ih
theorem keys_putF (f : Str) (v : V) : ∀ fs : List (Str × V), f ∈ (putF f v fs).map (·.1) ∧ ∀ g, g ∈ fs.map (·.1) → g ∈ (putF f v fs).map (·.1)
  | [] => ⟨by simp [putF], fun g h => by simp at h⟩
  | (k, x) :: r => by
    obtain ⟨i1, i2⟩ := keys_putF f v r
    rw [show putF f v ((k, x) :: r) = (if k = f then (k, v) :: r else (k, x) :: putF f v r) from rfl]
    by_cases hk : k = f
    · rw [if_pos hk]
      subst hk
      exact ⟨by simp, fun g h => by simpa using h⟩
    · rw [if_neg hk]
      refine ⟨?_, fun g h => ?_⟩
      · rw [List.map_cons]
        exact List.mem_cons_of_mem _ i1
      · rw [List.map_cons] at h ⊢
        rcases List.mem_cons.mp h with e | e
        · exact List.mem_cons.mpr (.inl e)
        · exact List.mem_cons_of_mem _ (i2 g e)
theorem length_putF (f : Str) (v : V) : ∀ fs : List (Str × V), (putF f v fs).length ≤ fs.length + 1
  | [] => by simp [putF]
  | (k, x) :: r => by
    have ih := length_putF f v r
    rw [show putF f v ((k, x) :: r) = (if k = f then (k, v) :: r else (k, x) :: putF f v r) from rfl]
    by_cases hk : k = f
    · rw [if_pos hk, List.length_cons, List.length_cons]; omega
    · rw [if_neg hk, List.length_cons, List.length_cons]; omega

theorem RelO.some_of {v : V} {o : Option Value} (r : RelO (some v) o) : ∃ u, o = some u ∧ RelV v u := by
  cases o with
  | none => exact (show False from r).elim
  | some u => exact ⟨u, rfl, r⟩
theorem RelO.none_of {o : Option Value} (r : RelO none o) : o = none := by
  cases o with
  | none => rfl
  | some u => exact (show False from r).elim
theorem handed_of {v : V} {u : Value} (r : RelV v u) : PySem.W.handedIn u = true := by
  cases v with
  | non => cases (show u = Value.none from r); rfl
  | bl b => cases (show u = Value.bool b from r); rfl
  | int i => obtain ⟨t, e⟩ := (show ∃ t, u = Value.int i t from r); cases e; rfl
  | str x => obtain ⟨t, e⟩ := (show ∃ t, u = Value.str x t from r); cases e; rfl
  | byt b => obtain ⟨t, e⟩ := (show ∃ t, u = Value.bytes b t from r); cases e; rfl
  | flt b => obtain ⟨t, e⟩ := (show ∃ t, u = Value.float b t from r); cases e; rfl
  | ref a => cases (show u = Value.ref a from r); rfl
  | ty n => cases (show u = Value.type n from r); rfl

section
variable {P : Program} {w : World} {H H' : Hp} {h h' : Heap} {a C dx : Addr} {fs fs' : List (Str × V)}
theorem ins_get (hok : HOk P w H h) (e : H a = some (.ins C dx fs)) : ∃ mA, ObjM h a dx C mA ∧ (∀ f, RelO (fs.lookup f) (mA f)) ∧ PySem.Within mA (fs.map (·.1)) ∧ fs.length ≤ 1000 ∧ H dx = some (.own a) := by
  obtain ⟨d, z, ne, ob, mA, n, r, q⟩ := (show ObjOk P w H h a (.ins C dx fs) from hok a _ e)
  exact ⟨mA, ⟨ob, n, ne⟩, r, q, z, d⟩
end

/-! ### what of the text a class must have -/
structure Cls (K : PySem.W.Frag) (C : Addr) : Prop where
  pg : PySem.W.plainGet K C Str.empty = true
  hd : PySem.W.hasDictIn K C = true
  po : PySem.W.plainOver K C = true
  sa : PySem.W.findIn K (.ref C) "__setattr__" = some (some (.builtin "object.__setattr__"))
theorem Cls.get {K : PySem.W.Frag} {C : Addr} (c : Cls K C) (f : Str) : PySem.W.plainGet K C f = true := c.pg
/-- no class of it has the name -/
def NoAttr (K : PySem.W.Frag) (C : Addr) (f : Str) : Prop := PySem.W.findIn K (.ref C) f = some none
theorem NoAttr.taker {K : PySem.W.Frag} {C : Addr} {f : Str} (n : NoAttr K C f) : PySem.W.takerIn K C f = some none := by
  unfold PySem.W.takerIn
  rw [show PySem.W.findIn K (.ref C) f = some none from n]
  rfl
/-- a constant of the class -/
structure Con (K : PySem.W.Frag) (C : Addr) (f : Str) (v : V) (u : Value) : Prop where
  at_ : PySem.W.findIn K (.ref C) f = some (some u)
  rel : RelV v u
  get : PySem.W.specialIn K u "__get__" = some none
  cp : PySem.W.copiedNames.contains f = false
/-- a method: a plain def of the class or of one above it -/
structure Meth (K : PySem.W.Frag) (C : Addr) (m : Str) (f : Addr) : Prop where
  at_ : PySem.W.findIn K (.ref C) m = some (some (.ref f))
  fn : PySem.W.isFn K (.ref f) = true
  kp : PySem.W.keepIn K (.ref f) = true

section
variable {X : Cx} {pins : List (Addr × Obj)} {σ : St} {H : Hp} {s : Shared} {a C dx : Addr} {fs : List (Str × V)} {f : Str} {v : V} {A : Around} {E : Value → Shared → Prop}

theorem getattr_ok {b : Bool} {Q : Value → Shared → Prop} (I : Inv X pins σ H s) (e : H a = some (.ins C dx fs)) (c : Cls X.K C) (n : NoAttr X.K C f) (l : fs.lookup f = some v)
    (h : ∀ u s', Inv X pins σ H s' → RelV v u → Q u s') : wpAny (model X.prog X.w) A (getAttr (.ref a) f b) Q E s := by
  obtain ⟨mA, O, r, _, _, _⟩ := ins_get I.hok e
  obtain ⟨u, hu, ru⟩ := RelO.some_of (v := v) (o := mA f) (by rw [← l]; exact r f)
  exact get_map I.kIn O (c.get f) c.hd n hu (handed_of ru) (h u _ (I.tok _) ru)

theorem getmeth_ok {m : Str} {g : Addr} {pl : Sem Bool} {Q : Value × List Value → Shared → Prop} (I : Inv X pins σ H s) (e : H a = some (.ins C dx fs)) (c : Cls X.K C) (k : Meth X.K C m g) (l : fs.lookup m = none)
    (h : Q (.ref g, [.ref a]) s) : wpAny (model X.prog X.w) A (getMethod (.ref a) m pl) Q E s := by
  obtain ⟨mA, O, r, _, _, _⟩ := ins_get I.hok e
  have hn : mA m = none := RelO.none_of (by rw [← l]; exact r m)
  exact get_meth I.kIn O (c.get m) k.at_ k.fn hn h

theorem setattr_ok {y : V} {u : Value} {Q : Unit → Shared → Prop} (I : Inv X pins σ H s) (e : H a = some (.ins C dx fs)) (c : Cls X.K C) (n : NoAttr X.K C f) (hl : fs.length < 1000) (ry : RelV y u)
    (h : ∀ s', Inv X pins σ (upd H a (.ins C dx (putF f y fs))) s' → Q () s') : wpAny (model X.prog X.w) A (setAttr (.ref a) f u) Q E s := by
  obtain ⟨mA, O, r, wi, _, ho⟩ := ins_get I.hok e
  have hz : (fs.map (·.1)).length ≤ sizeLine := by rw [List.length_map, sizeLine_eq]; omega
  refine set_map I.kIn O c.sa c.po n.taker c.hd wi hz fun h' O' sb => h _ ?_
  have hd : ∃ o, h'.get? dx = some o := let ⟨o, _, _, e', _⟩ := O'.ns; ⟨o, e'⟩
  refine I.write (x := a) (e := dx) (by rw [e]; exact True.intro) (.inr ho) (fun b q hb z => (sb.2 b hb).trans z) hd ?_
  refine ⟨by rw [upd_ne O.ne]; exact ho, ?_, O.ne, O'.obj, _, O'.ns, fun g => ?_, fun g hg => ?_⟩
  · have := length_putF f y fs; omega
  · show RelO ((putF f y fs).lookup g) (if g = f then some u else mA g)
    rw [lookup_putF]
    by_cases q : g = f
    · rw [if_pos q, if_pos q]; exact ry
    · rw [if_neg q, if_neg q]; exact r g
  · by_cases q : g = f
    · rw [q]; exact (keys_putF f y fs).1
    · refine (keys_putF f y fs).2 g (wi g fun z => hg ?_)
      show (if g = f then some u else mA g) = none
      rw [if_neg q]; exact z

/-- a new instance, tracked, without attributes -/
theorem Inv.made (I : Inv X pins σ H s) : Inv X pins σ (upd (upd H s.heap.objs.size (.own (s.heap.objs.size + 1))) (s.heap.objs.size + 1) (.ins C s.heap.objs.size []))
    { s with heap := (s.heap.push PySem.W.emptyDict).push (PySem.W.instObj C s.heap.objs.size) } := by
  have e1 : (s.heap.push PySem.W.emptyDict).get? s.heap.objs.size = some PySem.W.emptyDict := Heap.get?_push_size s.heap rfl
  have e2 : ((s.heap.push PySem.W.emptyDict).push (PySem.W.instObj C s.heap.objs.size)).get? (s.heap.objs.size + 1) = some (PySem.W.instObj C s.heap.objs.size) := by
    have := Heap.get?_push_size (s.heap.push PySem.W.emptyDict) (o := PySem.W.instObj C s.heap.objs.size) rfl
    rwa [Heap.size_push] at this
  have e3 : (s.heap.push PySem.W.emptyDict).Ns s.heap.objs.size (fun _ => none) := ⟨PySem.W.emptyDict, #[], _, e1, rfl, (fun e he => absurd he (by simp)), fun _ => rfl⟩
  have I1 := I.laid (a := s.heap.objs.size) (o := .own (s.heap.objs.size + 1)) (h' := s.heap.push PySem.W.emptyDict) (t' := s.toks) (fun b u q => Heap.get?_push_of_some _ q) (Nat.le_refl _) ⟨_, e1⟩
  refine I1.laid (a := s.heap.objs.size + 1) (o := .ins C s.heap.objs.size []) (t' := s.toks) (fun b u q => Heap.get?_push_of_some _ q) (Nat.le_of_eq (Heap.size_push _ _)) ?_
  have ne : s.heap.objs.size ≠ s.heap.objs.size + 1 := Nat.ne_of_lt (Nat.lt_succ_self _)
  refine ⟨by rw [upd_ne ne, upd_same], Nat.zero_le _, ne, e2, fun _ => none, (Heap.Ns1.of_empty e3).at fun o q => Heap.get?_push_of_some _ q, fun _ => True.intro, fun y hy => absurd rfl hy⟩

/-- e.f where nothing but the object is asked: through attributeBase (super) and the last hold -/
theorem attr_of {prog : Program} {w : World} {env : Env} {e : Expr} {f : Str} {pos : Pos} {s : Shared} {Q : Value → Shared → Prop} (hb : attributeBase e f env (eval e env) = eval e env)
    (h : wpAny (model prog w) A (eval e env) (fun o s₁ => wpAny (model prog w) A (getAttr o f true) Q E s₁) E s) : wpAny (model prog w) A (eval (.Attribute e f pos) env) Q E s :=
  Attribute_any_ h (by rw [arm_eval_Attribute, hb])
end

/-! ### readings and rules -/
/-- e.f, an attribute of the instance -/
def tFld (K : PySem.W.Frag) (ta : TE) (f : Str) : TE := fun σ H Q => ta σ H fun x H1 => ∃ a C dx fs v, x = .ref a ∧ H1 a = some (.ins C dx fs) ∧ Cls K C ∧ NoAttr K C f ∧ fs.lookup f = some v ∧ Q v H1
/-- e.f, a constant of the class -/
def tCon (K : PySem.W.Frag) (ta : TE) (f : Str) : TE := fun σ H Q => ta σ H fun x H1 => ∃ a C dx fs v u, x = .ref a ∧ H1 a = some (.ins C dx fs) ∧ Cls K C ∧ Con K C f v u ∧ fs.lookup f = none ∧ Q v H1
/-- e.f = value -/
def sFld (K : PySem.W.Frag) (ta tv : TE) (f : Str) : TS := fun D σ H => tv σ H fun y H1 => ta σ H1 fun x H2 => ∃ a C dx fs, x = .ref a ∧ H2 a = some (.ins C dx fs) ∧ Cls K C ∧ NoAttr K C f ∧ fs.length < 1000 ∧
  D.nx σ (upd H2 a (.ins C dx (putF f y fs)))
/-- an augmented operator on two values -/
def InOp (X : Cx) (op : Operator) (rd : V → V → Hp → VK → Prop) : Prop :=
  ∀ (pins : List (Addr × Obj)) (s : Shared) (σ : St) (H : Hp) (x y : V) (u v : Value) (Q : VK), Inv X pins σ H s → RelV x u → RelV y v → rd x y H Q → wpAny (model X.prog X.w) X.A (inplaceOp op u v) (EP X pins σ Q) X.xe s
/-- e.f op= value -/
def sFldAug (K : PySem.W.Frag) (ta tv : TE) (rd : V → V → Hp → VK → Prop) (f : Str) : TS := fun D σ H => ta σ H fun x H1 => ∃ a C dx fs v, x = .ref a ∧ H1 a = some (.ins C dx fs) ∧ Cls K C ∧ NoAttr K C f ∧ fs.lookup f = some v ∧
  tv σ H1 fun y H2 => rd v y H2 fun z H3 => ∃ dx' fs', H3 a = some (.ins C dx' fs') ∧ fs'.length < 1000 ∧ D.nx σ (upd H3 a (.ins C dx' (putF f z fs')))

section
variable {X : Cx} {o e value : Expr} {f : Str} {pos pos' tpos : Pos} {ta tv : TE}
theorem pe_fld (he : PE X e ta) (hb : attributeBase e f X.env (eval e X.env) = eval e X.env) : PE X (.Attribute e f pos) (tFld X.K ta f) := by
  intro pins s σ H Q I h
  refine attr_of hb (thn (he pins s σ H _ I h) fun u s1 ⟨x, H1, I1, rx, a, C, dx, fs, v, ex, ea, c, n, l, q⟩ => ?_)
  subst ex
  obtain rfl : u = Value.ref a := rx
  exact getattr_ok I1 ea c n l fun u' s2 I2 ru => ⟨v, H1, I2, ru, q⟩
theorem ps_fld (ha : PE X o ta) (hv : PE X value tv) (hs : swapsWith value (some (.Attribute o f pos')) pos.line X.env = pure false) : PS X (.Assign [.Attribute o f pos'] value pos) (sFld X.K ta tv f) := by
  intro pins s σ H D I h
  refine plainObj_wpAny_Assign_Attribute (thn (hv pins s σ H _ I h) fun u s1 ⟨y, H1, I1, ry, q⟩ => thn (ha pins s1 σ H1 _ I1 q) fun ov s2 ⟨x, H2, I2, rx, a, C, dx, fs, ex, ea, c, n, l, q2⟩ => ?_) hs
  subst ex
  obtain rfl : ov = Value.ref a := rx
  exact setattr_ok I2 ea c n l ry fun s3 I3 => ⟨σ, _, I3, q2⟩
def rAdd : V → V → Hp → VK → Prop := fun x y H Q => ∃ i j, x = .int i ∧ y = .int j ∧ Q (.int (i + j)) H
def rSub : V → V → Hp → VK → Prop := fun x y H Q => ∃ i j, x = .int i ∧ y = .int j ∧ Q (.int (i - j)) H
end

/-! ### isinstance -/
section
variable {X : Cx} {pins : List (Addr × Obj)} {σ : St} {H : Hp} {s : Shared} {A : Around} {E : Value → Shared → Prop} {Q : Value → Shared → Prop} {c : Value} {b : Bool}
/-- the type of a value, as the fragment's deciders take it; for an instance its class -/
inductive TyOf (K : PySem.W.Frag) (H : Hp) : V → Value → Prop where
  | non : TyOf K H .non (.type "NoneType")
  | bl (x : Bool) : TyOf K H (.bl x) (.type "bool")
  | int (i : Int) : TyOf K H (.int i) (.type "int")
  | str (x : Str) : TyOf K H (.str x) (.type "str")
  | flt (x : UInt64) : TyOf K H (.flt x) (.type "float")
  | lst {a : Addr} {xs : List V} (e : H a = some (.lst xs)) : TyOf K H (.ref a) (.type "list")
  | frz {a : Addr} {o : Obj} {xs : List V} (e : H a = some (.frz o (.lst xs))) : TyOf K H (.ref a) (.type "list")
  | tup {a : Addr} {xs : List V} (e : H a = some (.tup xs)) : TyOf K H (.ref a) (.type "tuple")
  | dK {a : Addr} {kvs : List (Key × V)} (e : H a = some (.dK kvs)) : TyOf K H (.ref a) (.type "dict")
  | dT {a : Addr} {kvs : List (List Key × V)} (e : H a = some (.dT kvs)) : TyOf K H (.ref a) (.type "dict")
  | ins {a C dx : Addr} {fs : List (Str × V)} (e : H a = some (.ins C dx fs)) (cl : Cls K C) (ha : PySem.W.findIn K (.ref C) "__class__" = some (some (.builtin "object.__class__")))
      (hn : PySem.W.specialIn K (.builtin "object.__class__") "__get__" = some (some (.builtin "getset_descriptor.__get__"))) (htk : PySem.W.takesIn K (.builtin "object.__class__") = some true)
      (hm : PySem.W.mroIn K C (.type "object") = some true) : TyOf K H (.ref a) (.ref C)
end
end L2

namespace L2
open PySem PySem.Spec PyProof.Rows

/-! ### room -/
structure Room (k : Nat) (A : Around) : Prop where
  hd : A.handled = none
  dp : A.depth + 3 * k + 5 < recursionLimit
  un : A.units + 16 * k + 200 < cLine
theorem Room.mono {j k : Nat} {A : Around} (r : Room k A) (h : j ≤ k) : Room j A := ⟨r.hd, by have := r.dp; omega, by have := r.un; omega⟩
theorem Room.deeper {k : Nat} {A : Around} (r : Room (k + 1) A) (env : Env) : Room k (A.deeper env) :=
  ⟨r.hd, by have := r.dp; show A.depth + 1 + 3 * k + 5 < _; omega, by have := r.un; show A.units + 3 + 16 * k + 200 < _; omega⟩
theorem make_depth {A : Around} {C : Addr} {us : List Value} {kw : List (Str × Value)} : (A.under (.builtin "type.__call__" ⟨.ref C :: us, kw⟩)).depth = A.depth + 1 := by
  first | rfl | simp [Around.under, Code.weight, Code.isCreation, Code.isGuard, Code.isCaller, Code.frames, Code.isFrame, guardIds]
theorem make_units {A : Around} {C : Addr} {us : List Value} {kw : List (Str × Value)} : (A.under (.builtin "type.__call__" ⟨.ref C :: us, kw⟩)).units = A.units + 1 := by
  first | rfl | simp [Around.under, Code.cUnits, Code.frames, Code.isFrame]
theorem Room.make {k : Nat} {A : Around} (r : Room (k + 1) A) (C : Addr) (us : List Value) (kw : List (Str × Value)) : Room k (A.under (.builtin "type.__call__" ⟨.ref C :: us, kw⟩)) :=
  ⟨r.hd, by have := r.dp; rw [make_depth]; omega, by have := r.un; rw [make_units]; omega⟩
theorem Room.depth {k : Nat} {A : Around} (r : Room k A) : A.depth < recursionLimit := by have := r.dp; omega
theorem Room.units {k : Nat} {A : Around} (r : Room k A) : A.units + 64 < cLine := by have := r.un; omega
/-! ### argument lists and displays -/
def tNil : TA := fun _ H Q => Q [] H
def tCons (ta : TE) (tr : TA) : TA := fun σ H Q => ta σ H fun x H1 => tr σ H1 fun xs H2 => Q (x :: xs) H2
section
variable {X : Cx} {e : Expr} {es : List Expr} {te : TE} {t : TA} {pos : Pos}
theorem pa_nil : PA X [] tNil := fun _ _ _ _ H Q I h => Calls.spliced_nil ⟨[], H, I, .nil, h⟩
theorem pa_cons (ha : PE X e te) (hr : PA X es t) (hs : starEach (e :: es) X.env = (false, eval e X.env) :: starEach es X.env := by rfl) : PA X (e :: es) (tCons te t) := by
  intro pos pins s σ H Q I h
  rw [hs]
  show wpAny _ _ (spliced ((false, eval e X.env) :: backTo pos (starEach es X.env))) _ _ s
  refine Calls.spliced_cons (thn (ha pins s σ H _ I h) fun u s1 ⟨x, H1, I1, r1, q1⟩ => ?_)
  exact thn (hr pos pins s1 σ H1 _ I1 q1) fun us s2 ⟨xs, H2, I2, r2, q2⟩ => ⟨x :: xs, H2, I2, .cons r1 r2, q2⟩

/-- a tuple, a list of written items -/
def tTup (t : TA) : TE := fun σ H Q => t σ H fun xs H1 => xs.length ≤ sizeLine ∧ ∀ p, H1 p = none → Q (.ref p) (upd H1 p (.tup xs))
def tLst (t : TA) : TE := fun σ H Q => t σ H fun xs H1 => xs.length ≤ sizeLine ∧ ∀ p, H1 p = none → Q (.ref p) (upd H1 p (.lst xs))
theorem pe_tup {x1} (h : PA X es t) : PE X (.Tuple es x1 pos) (tTup t) := by
  intro pins s σ H Q I hq
  refine wpAny_Tuple_spliced (thn (h pos pins s σ H _ I hq) fun us s1 ⟨xs, H1, I1, r, z, q⟩ => ⟨by rw [← r.length]; exact z, ?_⟩)
  have hf : H1 s1.heap.objs.size = none := I1.hok.fresh (Nat.le_refl _)
  refine ⟨.ref s1.heap.objs.size, upd H1 s1.heap.objs.size (.tup xs), I1.laid (t' := s1.toks) (fun b u e => Heap.get?_push_of_some _ e) (Nat.le_refl _) ?_, rfl, q _ hf⟩
  exact ⟨z, us, r, ⟨_, Heap.get?_push_size _ rfl, rfl, _, rfl⟩⟩
theorem pe_lst (h : PA X es t) : PE X (.List es pos) (tLst t) := by
  intro pins s σ H Q I hq
  refine wpAny_List_spliced (thn (h pos pins s σ H _ I hq) fun us s1 ⟨xs, H1, I1, r, z, q⟩ => ⟨by rw [← r.length]; exact z, ?_⟩)
  have hf : H1 s1.heap.objs.size = none := I1.hok.fresh (Nat.le_refl _)
  refine ⟨.ref s1.heap.objs.size, upd H1 s1.heap.objs.size (.lst xs), I1.laid (t' := s1.toks) (fun b u e => Heap.get?_push_of_some _ e) (Nat.le_refl _) ?_, rfl, q _ hf⟩
  exact ⟨z, us, 0, r, Heap.get?_push_size _ rfl⟩
end

/-! ### what a def promises -/
/-- a def's promise: the bound arguments in the parameters' order, the heap, the wanted end, the wanted exception -/
abbrev Sp := List V → Hp → VK → XK → Prop
/-- how an exception lies behind a call (file 08 gives it): the callers' frames, abstract heap and state ahead of the call, the wish, the exception, the state -/
abbrev CXT := List Env → Hp → Shared → XK → Value → Shared → Prop

/-- the state at a call -/
structure Env0 (P : Program) (w : World) (K : PySem.W.Frag) (mg : Str → Option Value) (base : Heap) (A : Around) (outer : List Env) (s : Shared) (H : Hp) : Prop where
  frames : A.frames = some outer
  mod : Mod K mg base
  bs : ∀ b o, base.get? b = some o → s.heap.get? b = some o ∧ H b = none
  bsz : base.objs.size ≤ s.heap.objs.size
  funs : s.heap.FunFrames base outer
  frf : ∀ b ∈ frs outer, H b = none
  hok : HOk P w H s.heap
  bare : AllBare s.gens
/-- a call's end -/
def CE (outer : List Env) (P : Program) (w : World) (H : Hp) (s : Shared) (Q : VK) (u : Value) (s' : Shared) : Prop :=
  ∃ v H', s'.os = s.os ∧ AllBare s'.gens ∧ Un (frs outer) [] H H' s.heap s'.heap ∧ HOk P w H' s'.heap ∧ RelV v u ∧ Q v H'
def CR (CX : CXT) (outer : List Env) (P : Program) (w : World) (H : Hp) (s : Shared) (Q : VK) (E : XK) (r : Result) (s' : Shared) : Prop :=
  match r with
  | .ok (.ret u) => CE outer P w H s Q u s'
  | .ok _ => False
  | .error e => CX outer H s E e s'
structure FnOk (P : Program) (w : World) (K : PySem.W.Frag) (mg : Str → Option Value) (base : Heap) (CX : CXT) (k : Nat) (f : Addr) (fd : FuncData) (ps : List Str) (sp : Sp) : Prop where
  len : ∀ vs H Q E, sp vs H Q E → vs.length = ps.length
  run : ∀ (A : Around) (outer : List Env) (s : Shared) (H : Hp) (args : Args) (us : List Value) (vs : List V) (Q : VK) (E : XK), Room k A → Env0 P w K mg base A outer s H → BindsTo s fd args (ps.zip us) → Vals vs us → sp vs H Q E →
    codeAny (model P w) A (.call (.ref f) args) (CR CX outer P w H s Q E) s
theorem FnOk.mono {P : Program} {w : World} {K : PySem.W.Frag} {mg : Str → Option Value} {base : Heap} {CX : CXT} {j k : Nat} {f : Addr} {fd : FuncData} {ps : List Str} {sp : Sp} (F : FnOk P w K mg base CX j f fd ps sp) (h : j ≤ k) :
    FnOk P w K mg base CX k f fd ps sp := ⟨F.len, fun A outer s H args us vs Q E hr => F.run A outer s H args us vs Q E (hr.mono h)⟩
theorem Env0.make {P : Program} {w : World} {K : PySem.W.Frag} {mg : Str → Option Value} {base : Heap} {A : Around} {outer : List Env} {s : Shared} {H : Hp} (e : Env0 P w K mg base A outer s H) (C : Addr) (us : List Value) (kw : List (Str × Value)) :
    Env0 P w K mg base (A.under (.builtin "type.__call__" ⟨.ref C :: us, kw⟩)) outer s H := ⟨by first | exact e.frames | (simpa [Around.under, Code.envs, Code.isFrame, pushEnvs] using e.frames), e.mod, e.bs, e.bsz, e.funs, e.frf, e.hok, e.bare⟩
section
variable {X : Cx} {pins : List (Addr × Obj)} {σ : St} {H : Hp} {s s' : Shared}
/-- from a body: what a callee wants -/
theorem Inv.env0 (I : Inv X pins σ H s) : Env0 X.prog X.w X.K X.mg X.base X.A X.stack s H :=
  ⟨I.ok.frames, I.ok.mod, I.bs, Nat.le_trans I.ok.bsz I.sz, I.stack, I.stkFree, I.hok, I.bare⟩
/-- behind a call -/
theorem Inv.after {Q : VK} {u : Value} (I : Inv X pins σ H s) (h : CE X.stack X.prog X.w H s Q u s') : EP X pins σ Q u s' := by
  obtain ⟨v, H', os, bare, un, hok, r, q⟩ := h
  obtain ⟨hh, g, d, t, os'⟩ := s'
  obtain rfl : os' = s.os := os
  exact ⟨v, H', I.call (h' := hh) (g' := g) (d' := d) (t' := t) (ch := []) un hok bare (fun b z => absurd z (by simp)), r, q⟩
end

/-! ### calls -/
/-- f(..): the written arguments, then the defaults dvs; E: what is wanted of an exception -/
def tCall (sp : Sp) (dvs : List V) (E : XK) (t : TA) : TE := fun σ H Q => t σ H fun vs H1 => sp (vs ++ dvs) H1 Q E
/-- o.m(..) of an instance of the class at C -/
def tMeth (C : Addr) (m : Str) (sp : Sp) (dvs : List V) (E : XK) (ta : TE) (t : TA) : TE := fun σ H Q => ta σ H fun x H1 => ∃ a dx fs, x = .ref a ∧ H1 a = some (.ins C dx fs) ∧ fs.lookup m = none ∧
  t σ H1 fun vs H2 => sp (x :: (vs ++ dvs)) H2 Q E
/-- C(..): a new instance and its dict, then __init__ -/
def tMake (C : Addr) (sp : Sp) (dvs : List V) (E : XK) (t : TA) : TE := fun σ H Q => t σ H fun vs H1 => ∀ x dx, H1 x = none → H1 dx = none → dx ≠ x →
  sp (.ref x :: (vs ++ dvs)) (upd (upd H1 dx (.own x)) x (.ins C dx [])) (fun v H2 => v = .non ∧ Q (.ref x) H2) E

/-- how the parameters are bound: us the positional arguments, kw the keywords' values by name, ds the defaults that fill up -/
def Binds (K : PySem.W.Frag) (fd : FuncData) (ps : List Str) (ds : List Value) : Prop :=
  ∀ (s : Shared) (us : List Value), K.In s.heap → (us ++ ds).length = ps.length → BindsTo s fd ⟨us, []⟩ (ps.zip (us ++ ds))
/-- every parameter is given -/
theorem Binds.all {K : PySem.W.Frag} {fd : FuncData} {ps : List Str} (h : ∀ us : List Value, us.length = ps.length → bindArgs fd ⟨us, []⟩ = pure (ps.zip us)) : Binds K fd ps [] := fun s us _ hl => by
  rw [List.append_nil] at hl ⊢
  exact .of_eq (h us hl)

/-- an exception of a callee reaches what this body wants of exceptions -/
def Passes (CX : CXT) (X : Cx) (E : XK) : Prop := ∀ (pins : List (Addr × Obj)) (σ : St) (H : Hp) (s : Shared) (e : Value) (s' : Shared), Inv X pins σ H s → CX X.stack H s E e s' → X.xe e s'

section
variable {X : Cx} {CX : CXT} {k : Nat} {f C : Addr} {fd : FuncData} {ps : List Str} {sp : Sp} {dvs : List V} {ds : List Value} {E : XK} {x m : Str} {p pos apos : Pos} {e o : Expr} {es : List Expr} {ta : TE} {t : TA}

/-- the callee runs -/
theorem run_fn {pins : List (Addr × Obj)} {σ : St} {H : Hp} {s : Shared} {Q : VK} {us : List Value} {vs : List V} (F : FnOk X.prog X.w X.K X.mg X.base CX k f fd ps sp) (hr : Room k X.A) (hb : Binds X.K fd ps ds) (hd : Vals dvs ds) (hx : Passes CX X E)
    (I : Inv X pins σ H s) (r : Vals vs us) (h : sp (vs ++ dvs) H Q E) : wpAny (model X.prog X.w) X.A (call (.ref f) us) (EP X pins σ Q) X.xe s := by
  have r2 : Vals (vs ++ dvs) (us ++ ds) := r.append hd
  have hl : (us ++ ds).length = ps.length := by rw [← r2.length]; exact F.len _ _ _ _ h
  refine wpAny_call (codeAny_mono (F.run X.A X.stack s H ⟨us, []⟩ (us ++ ds) (vs ++ dvs) Q E hr I.env0 (hb s us I.kIn hl) r2 h) fun r s' hq => ?_)
  cases r with
  | error e => exact hx pins σ H s e s' I hq
  | ok fl =>
    cases fl with
    | ret u => exact I.after hq
    | next => exact False.elim hq
    | brk => exact False.elim hq
    | cont => exact False.elim hq

theorem pe_call (F : FnOk X.prog X.w X.K X.mg X.base CX k f fd ps sp) (hr : Room k X.A) (hg : Gl X x) (hm : X.mg x = some (.ref f)) (hk : PySem.W.keepIn X.K (.ref f) = true) (hb : Binds X.K fd ps ds) (hd : Vals dvs ds) (hx : Passes CX X E)
    (ha : PA X (e :: es) t) (hdb : (x == ("__debug__" : Str)) = false := by decide) (he : starEach (e :: es) X.env = (false, eval e X.env) :: starEach es X.env := by rfl) (hpl : (backTo pos (starEach es X.env)).any (·.1) = false := by rfl) :
    PE X (.Call (.Name x p) (e :: es) [] pos) (tCall sp dvs E t) := by
  intro pins s σ H Q I h
  refine wpAny_Call_Name_kw (ld_glob I hg hm ?_ hdb)
  refine PySem.W.callWith_K (h₀ := X.base) I.ok.mod.kin hk (thn (ha pos pins s σ H _ I h) fun us s1 ⟨vs, H1, I1, r, q⟩ => ⟨I1.kIn, ?_⟩) he hpl
  exact run_fn F hr hb hd hx I1 r q
/-- o.m(e, ..) -/
theorem pe_meth {pl : Sem Bool} (he : PE X o ta) (c : Cls X.K C) (hm : Meth X.K C m f) (F : FnOk X.prog X.w X.K X.mg X.base CX k f fd ps sp) (hr : Room k X.A) (hb : Binds X.K fd ps ds) (hd : Vals dvs ds) (hx : Passes CX X E) (ha : PA X (e :: es) t)
    (hst : starEach (e :: es) X.env = (false, eval e X.env) :: starEach es X.env := by rfl) (hpl : (backTo pos (starEach es X.env)).any (·.1) = false := by rfl)
    (ht : eval (.Call (.Attribute o m apos) (e :: es) [] pos) X.env = (do
      let ov ← eval o X.env
      standAt apos.atName
      let (f, first) ← holding [ov] (getMethod ov m pl)
      callWith pos f first (backTo pos (starEach (e :: es) X.env)) (backToKw pos (keywordEach [] X.env))) := by rfl) :
    PE X (.Call (.Attribute o m apos) (e :: es) [] pos) (tMeth C m sp dvs E ta t) := by
  intro pins s σ H Q I h
  refine PySem.W.methodCall_KW (pl := pl) (thn (he pins s σ H _ I h) fun u s1 ⟨x, H1, I1, rx, a, dx, fs, ex, ea, l, q⟩ => ?_) ht
  subst ex
  obtain rfl : u = Value.ref a := rx
  refine getmeth_ok I1 ea c hm l ?_
  refine PySem.W.callWith_K (first := [.ref a]) (h₀ := X.base) I.ok.mod.kin hm.kp (thn (ha pos pins s1 σ H1 _ I1 q) fun us s2 ⟨vs, H2, I2, r, q2⟩ => ⟨I2.kIn, ?_⟩) hst hpl
  exact run_fn (us := .ref a :: us) (vs := .ref a :: vs) F hr hb hd hx I2 (.cons rfl r) q2
/-- o.m() -/
theorem pe_meth0 {pl : Sem Bool} (he : PE X o ta) (c : Cls X.K C) (hm : Meth X.K C m f) (F : FnOk X.prog X.w X.K X.mg X.base CX k f fd ps sp) (hr : Room k X.A) (hb : Binds X.K fd ps ds) (hd : Vals dvs ds) (hx : Passes CX X E)
    (ht : eval (.Call (.Attribute o m apos) [] [] pos) X.env = (do
      let ov ← eval o X.env
      standAt apos.atName
      let (f, first) ← holding [ov] (getMethod ov m pl)
      callWith pos f first (backTo pos (starEach [] X.env)) (backToKw pos (keywordEach [] X.env))) := by rfl) :
    PE X (.Call (.Attribute o m apos) [] [] pos) (tMeth C m sp dvs E ta tNil) := by
  intro pins s σ H Q I h
  refine PySem.W.methodCall_KW (pl := pl) (thn (he pins s σ H _ I h) fun u s1 ⟨x, H1, I1, rx, a, dx, fs, ex, ea, l, q⟩ => ?_) ht
  subst ex
  obtain rfl : u = Value.ref a := rx
  refine getmeth_ok I1 ea c hm l ?_
  exact PySem.W.callWith_K0 (first := [.ref a]) I1.kIn hm.kp (run_fn (us := [.ref a]) (vs := [.ref a]) F hr hb hd hx I1 (.cons rfl .nil) q)

/-- what a class must have to be made -/
structure Mk (K : PySem.W.Frag) (C f : Addr) : Prop where
  makes : PySem.W.makesIn K C = true
  init : PySem.W.findIn K (.ref C) "__init__" = some (some (.ref f))
  fn : PySem.W.isFn K (.ref f) = true
  kp : PySem.W.keepIn K (.ref C) = true

theorem run_make {pins : List (Addr × Obj)} {σ : St} {H : Hp} {s : Shared} {Q : VK} {us : List Value} {vs : List V} (M : Mk X.K C f) (F : FnOk X.prog X.w X.K X.mg X.base CX k f fd ps sp) (hr : Room (k + 1) X.A) (hb : Binds X.K fd ps ds) (hd : Vals dvs ds)
    (hx : Passes CX X E) (I : Inv X pins σ H s) (r : Vals vs us)
    (h : ∀ x dx, H x = none → H dx = none → dx ≠ x → sp (.ref x :: (vs ++ dvs)) (upd (upd H dx (.own x)) x (.ins C dx [])) (fun v H2 => v = .non ∧ Q (.ref x) H2) E) :
    wpAny (model X.prog X.w) X.A (call (.ref C) us) (EP X pins σ Q) X.xe s := by
  have hq := h (s.heap.objs.size + 1) s.heap.objs.size (I.hok.fresh (Nat.le_succ _)) (I.hok.fresh (Nat.le_refl _)) (Nat.ne_of_lt (Nat.lt_succ_self _))
  have I2 := Inv.made (C := C) I
  have r2 : Vals (V.ref (s.heap.objs.size + 1) :: (vs ++ dvs)) (Value.ref (s.heap.objs.size + 1) :: (us ++ ds)) := .cons rfl (r.append hd)
  have hl : (Value.ref (s.heap.objs.size + 1) :: us ++ ds).length = ps.length := by
    have e := r2.length
    rw [F.len _ _ _ _ hq] at e
    exact e.symm
  refine wpAny_call (make_map (f := f) I.kIn M.makes M.init (beq_iff_eq.mp M.fn) (codeAny_mono (F.run _ X.stack _ _ ⟨Value.ref (s.heap.objs.size + 1) :: us, []⟩ (Value.ref (s.heap.objs.size + 1) :: (us ++ ds)) _ _ E (hr.make C us [])
    (I2.env0.make C us []) (hb _ (Value.ref (s.heap.objs.size + 1) :: us) I2.kIn hl) r2 hq) fun r s' hq' => ?_))
  cases r with
  | error e => exact hx pins σ _ _ e s' I2 hq'
  | ok fl =>
    cases fl with
    | ret u =>
      obtain ⟨v, H', I3, rv, ev, q3⟩ := I2.after hq'
      subst ev
      exact ⟨rv, ⟨V.ref (s.heap.objs.size + 1), H', I3, rfl, q3⟩⟩
    | next => exact False.elim hq'
    | brk => exact False.elim hq'
    | cont => exact False.elim hq'
theorem pe_make (M : Mk X.K C f) (F : FnOk X.prog X.w X.K X.mg X.base CX k f fd ps sp) (hr : Room (k + 1) X.A) (hg : Gl X x) (hm : X.mg x = some (.ref C)) (hb : Binds X.K fd ps ds) (hd : Vals dvs ds) (hx : Passes CX X E)
    (ha : PA X (e :: es) t) (hdb : (x == ("__debug__" : Str)) = false := by decide) (he : starEach (e :: es) X.env = (false, eval e X.env) :: starEach es X.env := by rfl) (hpl : (backTo pos (starEach es X.env)).any (·.1) = false := by rfl) :
    PE X (.Call (.Name x p) (e :: es) [] pos) (tMake C sp dvs E t) := by
  intro pins s σ H Q I h
  refine wpAny_Call_Name_kw (ld_glob I hg hm ?_ hdb)
  refine PySem.W.callWith_K (h₀ := X.base) I.ok.mod.kin M.kp (thn (ha pos pins s σ H _ I h) fun us s1 ⟨vs, H1, I1, r, q⟩ => ⟨I1.kIn, ?_⟩) he hpl
  exact run_make M F hr hb hd hx I1 r q
theorem pe_make0 (M : Mk X.K C f) (F : FnOk X.prog X.w X.K X.mg X.base CX k f fd ps sp) (hr : Room (k + 1) X.A) (hg : Gl X x) (hm : X.mg x = some (.ref C)) (hb : Binds X.K fd ps ds) (hd : Vals dvs ds) (hx : Passes CX X E)
    (hdb : (x == ("__debug__" : Str)) = false := by decide) : PE X (.Call (.Name x p) [] [] pos) (tMake C sp dvs E tNil) := by
  intro pins s σ H Q I h
  refine wpAny_Call_Name_kw (ld_glob I hg hm ?_ hdb)
  exact PySem.W.callWith_K0 I.kIn M.kp (run_make (us := []) M F hr hb hd hx I .nil h)
end

/-! ### keywords -/
/-- the values of the keywords, from the left -/
def PK (X : Cx) (kws : List Keyword) (t : TA) : Prop :=
  ∀ (pos : Pos) (pins : List (Addr × Obj)) (s : Shared) (σ : St) (H : Hp) (Q : List V → Hp → Prop), Inv X pins σ H s → t σ H Q → wpAny (model X.prog X.w) X.A (evalAll ((backToKw pos (keywordEach kws X.env)).map (·.2))) (AP X pins σ Q) X.xe s
section
variable {X : Cx} {CX : CXT} {k : Nat} {f C : Addr} {fd : FuncData} {ps ks : List Str} {sp : Sp} {E : XK} {x m : Str} {p pos apos kpos : Pos} {e o : Expr} {es : List Expr} {kws : List Keyword} {te ta : TE} {t tk : TA} {nm : Option Str}
/-- how a call with keywords binds: g puts the positional values us and the keywords' values ws (names ks) in the parameters' order, defaults among them -/
structure KBinds (K : PySem.W.Frag) (fd : FuncData) (ps ks : List Str) (g : List Value → List Value → List Value) (gV : List V → List V → List V) : Prop where
  to : ∀ (s : Shared) (us ws : List Value), K.In s.heap → (g us ws).length = ps.length → BindsTo s fd ⟨us, ks.zip ws⟩ (ps.zip (g us ws))
  rel : ∀ {vs : List V} {us : List Value} {zs : List V} {ws : List Value}, Vals vs us → Vals zs ws → Vals (gV vs zs) (g us ws)
def tCallK (sp : Sp) (gV : List V → List V → List V) (E : XK) (t tk : TA) : TE := fun σ H Q => t σ H fun vs H1 => tk σ H1 fun zs H2 => sp (gV vs zs) H2 Q E
variable {g : List Value → List Value → List Value} {gV : List V → List V → List V}
end

/-! ### a def's body keeps its promise -/
/-- names: the parameters first -/
structure FnScope (N P : List Str) (sc : Scope) : Prop where
  kind : sc.kind = .function
  co : sc.isCoroutine = false
  gen : sc.isGenerator = false
  nd : N.Nodup
  pre : N.take P.length = P
  par : ∀ x ∈ P, sc.names.lookup x = some .local ∨ sc.names.lookup x = some .cell
  nofree : ∀ y ∈ sc.names, y.2 ≠ .free

theorem bindL_out {kindOf : Str → Option NameKind} {x : Str} : ∀ {binds : List (Str × Value)} {m : Str → Option Value}, (∀ v, (x, v) ∉ binds) → bindL kindOf binds m x = m x
  | [], _, _ => rfl
  | (n, v) :: r, m, h => by
    unfold bindL
    rw [bindL_out fun w hw => h w (List.mem_cons_of_mem _ hw)]
    split
    · have : x ≠ n := by rintro rfl; exact h v List.mem_cons_self
      simp [this]
    · rfl
theorem bindC_out {kindOf : Str → Option NameKind} {x : Str} : ∀ {binds : List (Str × Value)} {m : Str → Option Value}, (∀ v, (x, v) ∉ binds) → bindC kindOf binds m x = m x
  | [], _, _ => rfl
  | (n, v) :: r, m, h => by
    unfold bindC
    rw [bindC_out fun w hw => h w (List.mem_cons_of_mem _ hw)]
    split
    · rfl
    · have : x ≠ n := by rintro rfl; exact h v List.mem_cons_self
      simp [this]
theorem bindL_get {kindOf : Str → Option NameKind} {x : Str} {v : Value} : ∀ {P : List Str} {vs : List Value} {i : Nat} {m : Str → Option Value}, P.Nodup → P[i]? = some x → vs[i]? = some v → kindOf x = some .local →
    bindL kindOf (P.zip vs) m x = some v
  | [], _, _, _, _, h, _, _ => by simp at h
  | _ :: _, [], _, _, _, _, h, _ => by simp at h
  | p :: P, w :: vs, 0, m, nd, h1, h2, hk => by
    simp at h1 h2; subst h1; subst h2
    show bindL kindOf ((p, w) :: P.zip vs) m p = _
    unfold bindL
    rw [bindL_out fun v hv => (List.nodup_cons.mp nd).1 (List.of_mem_zip hv).1, if_pos hk]
    simp
  | p :: P, w :: vs, i + 1, m, nd, h1, h2, hk => by
    show bindL kindOf ((p, w) :: P.zip vs) m x = _
    unfold bindL
    exact bindL_get (i := i) (List.nodup_cons.mp nd).2 (by simpa using h1) (by simpa using h2) hk
theorem bindC_get {kindOf : Str → Option NameKind} {x : Str} {v : Value} : ∀ {P : List Str} {vs : List Value} {i : Nat} {m : Str → Option Value}, P.Nodup → P[i]? = some x → vs[i]? = some v → kindOf x ≠ some .local →
    bindC kindOf (P.zip vs) m x = some v
  | [], _, _, _, _, h, _, _ => by simp at h
  | _ :: _, [], _, _, _, _, h, _ => by simp at h
  | p :: P, w :: vs, 0, m, nd, h1, h2, hk => by
    simp at h1 h2; subst h1; subst h2
    show bindC kindOf ((p, w) :: P.zip vs) m p = _
    unfold bindC
    rw [bindC_out fun v hv => (List.nodup_cons.mp nd).1 (List.of_mem_zip hv).1, if_neg hk]
    simp
  | p :: P, w :: vs, i + 1, m, nd, h1, h2, hk => by
    show bindC kindOf ((p, w) :: P.zip vs) m x = _
    unfold bindC
    exact bindC_get (i := i) (List.nodup_cons.mp nd).2 (by simpa using h1) (by simpa using h2) hk

/-- the names' values at the entry -/
def start (N : List Str) (vs : List V) : St := vs.map some ++ List.replicate (N.length - vs.length) none

/-- the context of a def's body, at its entry; an exception leaves the frame, then lies as CX says -/
def cxOf (CX : CXT) (P : Program) (w : World) (K : PySem.W.Frag) (mg : Str → Option Value) (base : Heap) (N : List Str) (qual : Str) (scope : Scope) (f : Addr) (cd : Value) (A : Around) (outer : List Env) (s : Shared) (H : Hp) (E : XK) : Cx where
  prog := P
  w := w
  K := K
  mg := mg
  base := base
  A := A.deeper (envOfC qual scope s.heap.objs.size f cd)
  N := N
  s_0 := s
  H_0 := H
  env := envOfC qual scope s.heap.objs.size f cd
  outer := outer
  stack := envOfC qual scope s.heap.objs.size f cd :: outer
  ex := []
  calm := true
  fn := fun _ => true
  pn := []
  xe := fun e s' => wpAny (model P w) (A.deeper (envOfC qual scope s.heap.objs.size f cd)) (leaving (envOfC qual scope s.heap.objs.size f cd) e) (fun _ s'' => CX outer H s E e s'') (fun e' s'' => CX outer H s E e' s'') s'

theorem cell_has {sc : Scope} {n : Nat} {x : Str} (h : sc.names.lookup x = some .cell) : ∃ c, (cellsFrom n sc.names []).lookup x = some c := by
  have q := PySem.W.cellsFrom_some sc.names n [] (.inl h)
  exact Option.isSome_iff_exists.mp q

theorem inv_start {CX : CXT} {P : Program} {w : World} {K : PySem.W.Frag} {mg : Str → Option Value} {base : Heap} {N ps : List Str} {qual : Str} {scope : Scope} {f : Addr} {cd : Value} {A : Around} {outer : List Env} {s s1 : Shared} {H : Hp} {E : XK} {us : List Value} {vs : List V}
    (S : FnScope N ps scope) (hd : A.handled = none) (e0 : Env0 P w K mg base A outer s H) (hl : vs.length = ps.length) (r : Vals vs us)
    (x : InCallC s s.heap.objs.size (bindL (envOfC qual scope s.heap.objs.size f cd).kindOf (ps.zip us) fun _ => none) (cellsFrom (s.heap.objs.size + 1) scope.names []) (bindC (envOfC qual scope s.heap.objs.size f cd).kindOf (ps.zip us) fun _ => none) s1) :
    Inv (cxOf CX P w K mg base N qual scope f cd A outer s H E) [] (start N vs) H s1 := by
  have hpl : ps.length ≤ N.length := by have := congrArg List.length S.pre; rw [List.length_take] at this; omega
  obtain ⟨h1, tk, rfl, hk⟩ := x.done
  have noA : ∀ b : Addr, b ∉ (cxOf CX P w K mg base N qual scope f cd A outer s H E).ex := fun b z => absurd (show b ∈ ([] : List Addr) from z) (by simp)
  refine ⟨⟨e0.mod, S.kind, rfl, rfl, Nat.le_refl _, fun y z c h1 h2 => ?_, fun y hy => ?_, fun y c _ h => ?_, fun _ => hd, Around.frames_deeper e0.frames, .inr ⟨rfl, rfl⟩, fun b z => absurd z (noA b), e0.bs, e0.bsz, fun b _ _ => noA b, fun b z => absurd z (noA b), e0.funs, e0.frf⟩,
    rfl, e0.bare, Un.kept hk, ⟨_, x.toInCall.ns, fun i y v h1 h2 h3 => ?_⟩, fun y c h => ⟨_, x.cell y c h⟩, e0.hok.fresh (Nat.le_refl _), fun y c h => ?_, fun p hp => absurd (show p ∈ ([] : List (Addr × Obj)) from hp) (by simp), e0.hok.kept hk, ?_⟩
  · exact name_of_addr x.apart (PySem.mem_of_lookup h1) (PySem.mem_of_lookup h2)
  · have hy : scope.names.lookup y = some .cell ∨ scope.names.lookup y = some .free := hy
    rcases hy with hy | hy
    · exact cell_has hy
    · exact absurd rfl (S.nofree _ (PySem.mem_of_lookup hy))
  · exact Nat.le_of_lt (x.above y c (PySem.mem_of_lookup h))
  · have hi : i < vs.length := by
      unfold start at h2
      by_cases hi : i < vs.length
      · exact hi
      · rw [List.getElem?_append_right (by simpa using hi)] at h2
        rw [List.getElem?_replicate] at h2
        split at h2 <;> cases h2
    have ha : vs[i]? = some v := by
      unfold start at h2
      rw [List.getElem?_append_left (by simpa using hi), List.getElem?_map] at h2
      cases e : vs[i]? with
      | none => rw [e] at h2; cases h2
      | some a => rw [e] at h2; cases h2; rfl
    obtain ⟨u, hu, rv⟩ := r.get ha
    have hp : ps[i]? = some y := by
      rw [← S.pre, List.getElem?_take_of_lt (by omega)]; exact h1
    have ndP : ps.Nodup := by rw [← S.pre]; exact S.nd.sublist (List.take_sublist _ _)
    refine ⟨u, rv, ?_⟩
    rcases S.par y (List.mem_of_getElem? hp) with k | k
    · exact .inl ⟨k, bindL_get ndP hp hu k⟩
    · obtain ⟨c, e⟩ := cell_has (n := s.heap.objs.size + 1) k
      refine .inr ⟨.inl k, c, e, ?_⟩
      have q := x.cell y c e
      rw [bindC_get ndP hp hu (by show scope.names.lookup y ≠ _; rw [k]; decide)] at q
      exact q
  · exact e0.hok.fresh (Nat.le_of_lt (x.above y c (PySem.mem_of_lookup h)))
  · unfold start
    show _ = N.length
    rw [List.length_append, List.length_map, List.length_replicate]
    omega

/-- THE RULE: a def (or a method) of the text, by its body. The body's reading t is chosen for each entry; it is run at the parameters' values -/
theorem fn_of {CX : CXT} {P : Program} {w : World} {K : PySem.W.Frag} {mg : Str → Option Value} {base : Heap} {k : Nat} {f : Addr} {name qual : Str} {params : Arguments} {body : List Stmt} {scope : Scope} {dV kV doc pm cdv ct oc : Value} {an od : Option Addr}
    {osl : Array (Option Value)} {N ps : List Str} {sp : Sp} (lk : K.lookup f = some ⟨oc, od, .func (PySem.W.fnOf name qual params body scope dV kV doc pm an cdv ct), osl⟩) (hcd : PySem.W.codeIn K cdv qual = true) (S : FnScope N ps scope)
    (len : ∀ vs H Q E, sp vs H Q E → vs.length = ps.length)
    (hbody : ∀ (A : Around) (outer : List Env) (s : Shared) (H : Hp) (vs : List V) (Q : VK) (E : XK), Room k (A.deeper (envOfC qual scope s.heap.objs.size f cdv)) → sp vs H Q E →
      ∃ t, PSs (cxOf CX P w K mg base N qual scope f cdv A outer s H E) body t ∧ t { nx := fun _ H' => Q .non H', rt := Q } (start N vs) H) :
    FnOk P w K mg base CX (k + 1) f (PySem.W.fnOf name qual params body scope dV kV doc pm an cdv ct) ps sp := by
  refine ⟨len, fun A outer s H args us vs Q E hr e0 hb r hsp => ?_⟩
  have hl := len _ _ _ _ hsp
  have KX : K.In s.heap := e0.mod.kin.keeps fun b o e => (e0.bs b o e).1
  have lim : s.heap.NoLimit := e0.mod.nolimit.keeps fun b o e => (e0.bs b o e).1
  have hkind : ∀ y ∈ ps.zip us, scope.names.lookup y.1 = some .local ∨ (scope.names.lookup y.1 = some .cell ∧ ((cellsFrom (s.heap.objs.size + 1) scope.names []).lookup y.1).isSome = true) := fun ⟨n, v⟩ hy => by
    rcases S.par n (List.of_mem_zip hy).1 with q | q
    · exact .inl q
    · exact .inr ⟨q, PySem.W.cellsFrom_some _ _ _ (.inl q)⟩
  refine codeAny_call_function hr.depth (KX _ _ lk) rfl S.co S.gen rfl (PySem.W.codeRec_of KX hcd) (hb _ _ _ _ ?_)
  refine wpAny_newFunctionEnv_cells S.kind hkind fun env he s1 x => ?_
  subst he
  refine ⟨lim.keeps x.toInCall.keep, codeAny_func ?_⟩
  obtain ⟨t, ht, hq⟩ := hbody A outer s H vs Q E (hr.deeper _) hsp
  have I : Inv (cxOf CX P w K mg base N qual scope f cdv A outer s H E) [] (start N vs) H s1 := inv_start S hr.hd e0 hl r x
  refine wpAny_mono (ht [] s1 (start N vs) H _ I hq) (fun fl s' hs => ?_) fun e s' hs => hs
  have fin : ∀ {σ' : St} {H' : Hp} {v : V} {u : Value}, Inv (cxOf CX P w K mg base N qual scope f cdv A outer s H E) [] σ' H' s' → RelV v u → Q v H' → CE outer P w H s Q u s' :=
    fun {σ' H' v u} J rv q => ⟨v, H', J.os, J.bare, J.base, J.hok, rv, q⟩
  cases fl with
  | ret u =>
    obtain ⟨v, σ', H', J, rv, q⟩ := hs
    exact fin J rv q
  | next =>
    obtain ⟨σ', H', J, q⟩ := hs
    exact fin (v := V.non) (u := Value.none) J rfl q
  | brk =>
    obtain ⟨_, _, _, q⟩ := hs
    exact False.elim q
  | cont =>
    obtain ⟨_, _, _, q⟩ := hs
    exact False.elim q
end L2

namespace L2
open PySem PySem.Spec PyProof.Rows
section
variable {X : Cx} {x : Str} {p pos : Pos} {e : Expr} {es : List Expr} {t : TA} {id T : String} {r : List V → Hp → VK → Prop}

def tCB (r : List V → Hp → VK → Prop) (t : TA) : TE := fun σ H Q => t σ H fun vs H1 => r vs H1 Q
/-- f(e, ..), f a built-in function -/
theorem pe_callB (hc : CallR X (.builtin id) r) (hg : Gl X x) (hm : X.mg x = none) (hv : bootBuiltins x = some (.builtin id)) (ha : PA X (e :: es) t) (hn : x ≠ "__name__" := by decide) (hdb : (x == ("__debug__" : Str)) = false := by decide)
    (he : starEach (e :: es) X.env = (false, eval e X.env) :: starEach es X.env := by rfl) (hpl : (backTo pos (starEach es X.env)).any (·.1) = false := by rfl) : PE X (.Call (.Name x p) (e :: es) [] pos) (tCB r t) := by
  intro pins s σ H Q I h
  refine wpAny_Call_Name_kw (ld_blt I hg hm hv ?_ hn hdb)
  exact PyProof.Rows.callWith_builtin1 (thn (ha pos pins s σ H _ I h) fun us s1 ⟨vs, H1, I1, r1, q1⟩ => hc pins s1 σ H1 vs us Q I1 r1 q1) he hpl
/-- T(e, ..), T a built-in type -/
theorem pe_callTy (hc : CallR X (.type T) r) (hg : Gl X x) (hm : X.mg x = none) (hv : bootBuiltins x = some (.type T)) (ha : PA X (e :: es) t) (hn : x ≠ "__name__" := by decide) (hdb : (x == ("__debug__" : Str)) = false := by decide)
    (he : starEach (e :: es) X.env = (false, eval e X.env) :: starEach es X.env := by rfl) (hpl : (backTo pos (starEach es X.env)).any (·.1) = false := by rfl) : PE X (.Call (.Name x p) (e :: es) [] pos) (tCB r t) := by
  intro pins s σ H Q I h
  refine wpAny_Call_Name_kw (ld_blt I hg hm hv ?_ hn hdb)
  exact PyProof.Rows.callWith_type1 (thn (ha pos pins s σ H _ I h) fun us s1 ⟨vs, H1, I1, r1, q1⟩ => hc pins s1 σ H1 vs us Q I1 r1 q1) he hpl
end
end L2

namespace HT
open PySem PyProof.Rows

/-- t < u of tuples of ints -/
def lexLt : List Int → List Int → Bool
  | [], [] => false
  | [], _ :: _ => true
  | _ :: _, [] => false
  | x :: xs, y :: ys => if x = y then lexLt xs ys else decide (x < y)
section
open PySem.SeqAt
open PySem.AutoSeq1 (wpAny_loadPart')
open PySem.MeetsSeq PySem.MeetsSeq2 PySem.MeetsSeq3

end

section
variable {prog : Program} {w : World} {A : Around} {E : Value → Shared → Prop} {s : Shared}

/-! ### t[a:b], not the whole -/
/-- a slice's bound as a place among n (d where it is left out) -/
def sIx (n d : Nat) : Option Int → Nat
  | none => d
  | some v => if v < 0 then (v + (n : Int)).toNat else min v.toNat n
theorem sIx_none (n d : Nat) : sIx n d none = d := rfl
theorem sIx_nat (n d k : Nat) : sIx n d (some (k : Int)) = min k n := by
  show (if (k : Int) < 0 then ((k : Int) + (n : Int)).toNat else min (k : Int).toNat n) = min k n
  rw [if_neg (by omega), Int.toNat_natCast]
end
end HT

namespace L2
open PySem PySem.Spec PyProof.Rows

/-! ### the parts of a slice -/
abbrev TO := St → Hp → (Option Int → Hp → Prop) → Prop
/-- a slice's part (left out, or an int) -/
def PO (X : Cx) (e : Option Expr) (t : TO) : Prop :=
  ∀ (pins : List (Addr × Obj)) (s : Shared) (σ : St) (H : Hp) (Q : Option Int → Hp → Prop), Inv X pins σ H s → t σ H Q →
    wpAny (model X.prog X.w) X.A (evalPart e X.env) (fun u s' => ∃ o H', Inv X pins σ H' s' ∧ IsPart u o ∧ Q o H') X.xe s
def tNoPart : TO := fun _ H Q => Q none H
def tPart (t : TE) : TO := fun σ H Q => t σ H fun x H1 => ∃ i, x = .int i ∧ Q (some i) H1

section
variable {X : Cx} {e : Expr} {te : TE} {lo hi : Option Expr} {tl th : TO} {pos p2 : Pos}

theorem po_none : PO X none tNoPart := by
  intro pins s σ H Q I h
  rw [evalPart_none]
  exact wpAny_pure ⟨none, H, I, .none, h⟩
theorem po_some (h : PE X e te) : PO X (some e) (tPart te) := by
  intro pins s σ H Q I hw
  rw [evalPart_some]
  refine thn (h pins s σ H _ I hw) fun u s1 ⟨x, H1, I1, r1, q1⟩ => ?_
  obtain ⟨i, rfl, q⟩ := q1
  obtain ⟨t, rfl⟩ := r1
  exact ⟨some i, H1, I1, .int i t, q⟩

/-- what a slice of a value is, by values: the slice object stands at sl -/
def SlR (X : Cx) (r : V → Option Int → Option Int → Hp → VK → Prop) : Prop :=
  ∀ (pins : List (Addr × Obj)) (s : Shared) (σ : St) (H : Hp) (x : V) (v vl vu : Value) (lo hi : Option Int) (sl : Addr) (Q : VK), Inv X pins σ H s → RelV x v → s.heap.IsSliceOf sl vl vu .none → IsPart vl lo → IsPart vu hi → r x lo hi H Q →
    ∃ T id, typeLookup (.type T) "__getitem__" = pure (some (.builtin id)) ∧ s.TypeIs v T ∧ wpAny (model X.prog X.w) X.A (getItem v (.ref sl)) (EP X pins σ Q) X.xe s
theorem SlR.or {r r' : V → Option Int → Option Int → Hp → VK → Prop} (h : SlR X r) (h' : SlR X r') : SlR X (fun x lo hi H Q => r x lo hi H Q ∨ r' x lo hi H Q) := by
  intro pins s σ H x v vl vu lo hi sl Q I rx hs pl pu q
  rcases q with q | q
  · exact h pins s σ H x v vl vu lo hi sl Q I rx hs pl pu q
  · exact h' pins s σ H x v vl vu lo hi sl Q I rx hs pl pu q
def tSl (r : V → Option Int → Option Int → Hp → VK → Prop) (te : TE) (tl th : TO) : TE := fun σ H Q => te σ H fun x H1 => tl σ H1 fun l H2 => th σ H2 fun u H3 => r x l u H3 Q
/-- a[lo:hi], any a -/
theorem pe_slice {r : V → Option Int → Option Int → Hp → VK → Prop} (hr : SlR X r) (he : PE X e te) (hl : PO X lo tl) (hu : PO X hi th) : PE X (.Subscript e (.Slice lo hi none p2) pos) (tSl r te tl th) := by
  intro pins s σ H Q I h
  refine Subscript_ (thn (he pins s σ H _ I h) fun v s1 ⟨x, H1, I1, r1, q1⟩ => ?_)
  refine wpAny_Slice (thn (hl pins s1 σ H1 _ I1 q1) fun vl s2 ⟨l, H2, I2, pl, q2⟩ => thn (hu pins s2 σ H2 _ I2 q2) fun vu s3 ⟨u, H3, I3, pu, q3⟩ => ?_)
  rw [evalPart_none]
  refine wpAny_pure ?_
  have I4 : Inv X pins σ H3 { s3 with heap := s3.heap.push { cls := .type "slice", data := .fields #[vl, vu, .none] } } := I3.kept (t' := s3.toks) fun b ob q => Heap.get?_push_of_some _ q
  obtain ⟨T, id, hT, ht, hg⟩ := hr pins { s3 with heap := s3.heap.push { cls := .type "slice", data := .fields #[vl, vu, .none] } } σ H3 x v vl vu l u s3.heap.objs.size Q I4 r1 (Heap.IsSliceOf.new ..) pl pu q3
  show wpAny (model X.prog X.w) X.A (subscriptTail e (.Slice lo hi none p2) v (.ref s3.heap.objs.size)) (EP X pins σ Q) X.xe { s3 with heap := s3.heap.push { cls := .type "slice", data := .fields #[vl, vu, .none] } }
  exact tail_any (ops := [.ref s3.heap.objs.size, v]) ht hT hg (by with_unfolding_all rfl)

/-- the items of xs[lo:hi] -/
def cutV (xs : List V) (lo hi : Option Int) : List V := (xs.drop (HT.sIx xs.length 0 lo)).take (HT.sIx xs.length xs.length hi - HT.sIx xs.length 0 lo)
theorem cutV_length (xs : List V) (lo hi : Option Int) : (cutV xs lo hi).length ≤ xs.length := by
  unfold cutV
  rw [List.length_take, List.length_drop]
  omega
/-- t[lo:hi], not the whole of it (the whole would be t itself) -/
def rSlT (K : PySem.W.Frag) : V → Option Int → Option Int → Hp → VK → Prop := fun x lo hi H Q => ∃ a xs, x = .ref a ∧ SqT K H a xs ∧
  ¬ (HT.sIx xs.length 0 lo = 0 ∧ HT.sIx xs.length xs.length hi = xs.length) ∧ ∀ p, H p = none → Q (.ref p) (upd H p (.tup (cutV xs lo hi)))
/-! ### t < u, t + u -/
def rLtT (K : PySem.W.Frag) : R2 := fun x y H Q => ∃ a b ns ms, x = .ref a ∧ y = .ref b ∧ SqT K H a (ns.map V.int) ∧ SqT K H b (ms.map V.int) ∧ Q (.bl (HT.lexLt ns ms)) H
/-- t + u, t not empty: u empty gives t itself -/
def rCatT (K : PySem.W.Frag) : R2 := fun x y H Q => ∃ a b xs ys, x = .ref a ∧ y = .ref b ∧ SqT K H a xs ∧ SqT K H b ys ∧ xs ≠ [] ∧ xs.length + ys.length ≤ sizeLine ∧
  (ys = [] → Q (.ref a) H) ∧ (ys ≠ [] → ∀ p, H p = none → Q (.ref p) (upd H p (.tup (xs ++ ys))))
end
end L2

namespace L2
open PySem PySem.Spec PyProof.Rows

/-! ### places -/
/-- the place that an index of any sign means -/
def ixN (n : Nat) (i : Int) : Option Nat := if 0 ≤ i then (if i < n then some i.toNat else none) else if -(n : Int) ≤ i then some (i + n).toNat else none
def atI {α : Type} (xs : List α) (i : Int) : Option α := (ixN xs.length i).bind fun j => xs[j]?
theorem ixN_seq {n : Nat} {i : Int} {j : Nat} (h : ixN n i = some j) : seqIndex? i n = some j ∧ j < n ∧ -(n : Int) ≤ i ∧ i < n := by
  unfold ixN at h
  by_cases h0 : 0 ≤ i
  · rw [if_pos h0] at h
    by_cases h1 : i < n
    · rw [if_pos h1] at h
      have e : i.toNat = j := Option.some.inj h
      exact ⟨by rw [seqIndex_of h0 h1, e], by omega, by omega, h1⟩
    · rw [if_neg h1] at h; cases h
  · rw [if_neg h0] at h
    by_cases h1 : -(n : Int) ≤ i
    · rw [if_pos h1] at h
      have e : (i + n).toNat = j := Option.some.inj h
      exact ⟨by rw [seqIndex_neg (by omega) h1, e], by omega, h1, by omega⟩
    · rw [if_neg h1] at h; cases h
theorem atI_get {α : Type} {xs : List α} {i : Int} {v : α} (h : atI xs i = some v) : ∃ j, seqIndex? i xs.length = some j ∧ xs[j]? = some v ∧ j < xs.length ∧ -(xs.length : Int) ≤ i ∧ i < xs.length := by
  unfold atI at h
  cases e : ixN xs.length i with
  | none => rw [e] at h; cases h
  | some j =>
    rw [e] at h
    obtain ⟨h1, h2, h3, h4⟩ := ixN_seq e
    exact ⟨j, h1, h, h2, h3, h4⟩
theorem atI_nat {α : Type} {xs : List α} {j : Nat} {v : α} (h : xs[j]? = some v) : atI xs (j : Int) = some v := by
  have hj : j < xs.length := (List.getElem?_eq_some_iff.mp h).1
  have e : ixN xs.length (j : Int) = some j := by
    unfold ixN
    rw [if_pos (by omega), if_pos (by omega)]; simp
  unfold atI; rw [e]; exact h
/-! ### what may be subscripted -/
/-- what stands as an index of a plain subscript -/
def PlainIx (b : Expr) : Prop := ∀ o i, subscripted b false o i = operate [o, i] (getItem o i)
/-- a subscript by values -/
def IxR (X : Cx) (r : R2) : Prop :=
  ∀ (value slice : Expr) (pins : List (Addr × Obj)) (s : Shared) (σ : St) (H : Hp) (x y : V) (v u : Value) (Q : VK), Inv X pins σ H s → RelV x v → RelV y u → r x y H Q →
    subscripted slice false v u = operate [v, u] (getItem v u) → wpAny (model X.prog X.w) X.A (subscriptTail value slice v u) (EP X pins σ Q) X.xe s
/-- a call of a builtin's method by values: the receiver, the arguments -/
def MtR (X : Cx) (id : String) (r : V → List V → Hp → VK → Prop) : Prop :=
  ∀ (pins : List (Addr × Obj)) (s : Shared) (σ : St) (H : Hp) (x : V) (xs : List V) (v : Value) (us : List Value) (Q : VK), Inv X pins σ H s → RelV x v → Vals xs us → r x xs H Q →
    wpAny (model X.prog X.w) X.A (call (.builtin id) (v :: us)) (EP X pins σ Q) X.xe s
section
variable {X : Cx} {a b : Expr} {ta tb : TE} {pos : Pos}
theorem IxR.or {r r' : R2} (h : IxR X r) (h' : IxR X r') : IxR X (fun x y H Q => r x y H Q ∨ r' x y H Q) := by
  intro value slice pins s σ H x y v u Q I rx ry q hs
  rcases q with q | q
  · exact h value slice pins s σ H x y v u Q I rx ry q hs
  · exact h' value slice pins s σ H x y v u Q I rx ry q hs
theorem MtR.or {id : String} {r r' : V → List V → Hp → VK → Prop} (h : MtR X id r) (h' : MtR X id r') : MtR X id (fun x xs H Q => r x xs H Q ∨ r' x xs H Q) := by
  intro pins s σ H x xs v us Q I rx rs q
  rcases q with q | q
  · exact h pins s σ H x xs v us Q I rx rs q
  · exact h' pins s σ H x xs v us Q I rx rs q
/-- a[b] -/
theorem pe_ix {r : R2} (hr : IxR X r) (ha : PE X a ta) (hb : PE X b tb) (hs : PlainIx b) : PE X (.Subscript a b pos) (tOp r ta tb) := by
  intro pins s σ H Q I h
  exact Subscript_ (binT ha hb I h fun v u s2 x y H2 I2 rx ry q => hr a b pins s2 σ H2 x y v u Q I2 rx ry q (hs _ _))

def rIxL (K : PySem.W.Frag) : R2 := fun x y H Q => ∃ p xs i v, x = .ref p ∧ y = .int i ∧ SqL K H p xs ∧ atI xs i = some v ∧ Q v H
def rIxT (K : PySem.W.Frag) : R2 := fun x y H Q => ∃ p xs i v, x = .ref p ∧ y = .int i ∧ SqT K H p xs ∧ atI xs i = some v ∧ Q v H
def rIxS : R2 := fun x y H Q => ∃ z i c, x = .str z ∧ y = .int i ∧ z.length ≤ sizeLine ∧ atI z.cps.toList i = some c ∧ Q (.str ⟨#[c]⟩) H
theorem ix_list : IxR X (rIxL X.K) := by
  intro value slice pins s σ H x y v u Q I rx ry h hs
  obtain ⟨p, xs, i, z, rfl, rfl, hq, he, q⟩ := h
  cases rx
  obtain ⟨t, rfl⟩ := ry
  obtain ⟨its, r, pl, hz⟩ := I.list hq
  obtain ⟨j, h1, h2, h3, h4, h5⟩ := atI_get he
  obtain ⟨w, ew, rw'⟩ := r.get h2
  have hl := r.length
  have hn := line63
  have fin : EP X pins σ Q w s := ⟨z, H, I, rw', q⟩
  by_cases h0 : 0 ≤ i
  · have hj : i.toNat = j := by
      rw [seqIndex_of h0 h5] at h1
      exact Option.some.inj h1
    exact item_listR pl.isList h0 (by omega) (by rw [hj]; simpa using ew) fin hs
  · have hj : (i + (its.toArray.size : Int)).toNat = j := by
      rw [seqIndex_neg (by omega) h4] at h1
      rw [List.size_toArray, ← hl]
      exact Option.some.inj h1
    exact subscriptTail_builtinR (x := w) pl.isList.typeIs slot_list_getitem.lookup
      (wpAny_getItem_list_neg (Q := fun r s' => r = w ∧ EP X pins σ Q r s') pl.isList (by omega) (by rw [List.size_toArray] <;> omega) (by omega) (by rw [hj]; simpa using ew) ⟨rfl, fin⟩) hs
theorem ix_tup : IxR X (rIxT X.K) := by
  intro value slice pins s σ H x y v u Q I rx ry h hs
  obtain ⟨p, xs, i, z, rfl, rfl, hq, he, q⟩ := h
  cases rx
  obtain ⟨t, rfl⟩ := ry
  obtain ⟨its, r, pl, hz⟩ := I.tuple hq
  obtain ⟨j, h1, h2, h3, h4, h5⟩ := atI_get he
  obtain ⟨w, ew, rw'⟩ := r.get h2
  have hl := r.length
  have hn := line63
  have fin : EP X pins σ Q w s := ⟨z, H, I, rw', q⟩
  exact subscriptTail_builtinR (x := w) pl.typeIs slot_tuple_getitem.lookup
    (getItem_tuple (j := j) (Q := fun r s' => r = w ∧ EP X pins σ Q r s') pl (by omega) (by omega) (by rw [List.size_toArray, ← hl]; exact h1) (by simpa using ew) ⟨rfl, fin⟩) hs
/-- list, tuple or str -/
def rIx (K : PySem.W.Frag) : R2 := fun x y H Q => rIxL K x y H Q ∨ rIxT K x y H Q ∨ rIxS x y H Q
/-! ### xs[i] = v, any sign -/
/-- the list's object behind a store -/
theorem mapSeq_set (its : List Value) (n j : Nat) (u : Value) : Obj.mapSeq (·.setIfInBounds j u) { cls := .type "list", data := .seq its.toArray n } = { cls := .type "list", data := .seq (its.set j u).toArray n } := by
  simp [Obj.mapSeq]
theorem Inv.lst {pins : List (Addr × Obj)} {σ : St} {H : Hp} {s : Shared} {p : Addr} {xs : List V} (I : Inv X pins σ H s) (h : H p = some (.lst xs)) :
    ∃ (its : List Value) (n : Nat), Vals xs its ∧ s.heap.get? p = some { cls := .type "list", data := .seq its.toArray n } ∧ xs.length ≤ sizeLine := by
  obtain ⟨z, its, n, r, e⟩ := I.hok p _ h
  exact ⟨its, n, r, e, z⟩
/-- the list at p is written by an update of its object -/
theorem Inv.lstUpd {pins : List (Addr × Obj)} {σ : St} {H : Hp} {s : Shared} {p : Addr} {xs ys : List V} {its its' : List Value} {n n' : Nat} {f : Obj → Obj} (I : Inv X pins σ H s) (h : H p = some (.lst xs))
    (ho : s.heap.get? p = some { cls := .type "list", data := .seq its.toArray n }) (hf : f { cls := .type "list", data := .seq its.toArray n } = { cls := .type "list", data := .seq its'.toArray n' }) (r : Vals ys its') (hz : ys.length ≤ sizeLine) (t : Nat) :
    Inv X pins σ (upd H p (.lst ys)) { s with heap := s.heap.update p f, toks := t } := by
  have e : (s.heap.update p f).get? p = some { cls := .type "list", data := .seq its'.toArray n' } := by
    rw [Heap.get?_update_self f ho (by rw [hf] <;> rfl), hf]
  refine I.write (x := p) (e := p) (by rw [h]; trivial) (.inl rfl) (fun b u hb q => (Heap.get?_update_other _ _ (Ne.symm hb)).trans q) ⟨_, e⟩ ?_
  exact ⟨hz, its', n', r, e⟩
def rSetL : V → V → V → Hp → (Hp → Prop) → Prop := fun o i v H Q => ∃ p xs k j, o = .ref p ∧ i = .int k ∧ H p = some (.lst xs) ∧ ixN xs.length k = some j ∧ Q (upd H p (.lst (xs.set j v)))
theorem set_list : PSet X rSetL := by
  intro pins s σ H o i v ov iv u Q I ro ri rv h
  obtain ⟨p, xs, k, j, rfl, rfl, hp, hj, q⟩ := h
  cases ro
  obtain ⟨t, rfl⟩ := ri
  obtain ⟨its, n, r, ho, hz⟩ := I.lst hp
  obtain ⟨h1, h2, h3, h4⟩ := ixN_seq hj
  have hl := r.length
  have hn := line63
  have I' : Inv X pins σ (upd H p (.lst (xs.set j v))) { s with heap := s.heap.update p (Obj.mapSeq (·.setIfInBounds j u)) } :=
    I.lstUpd hp ho (mapSeq_set its n j u) (r.set rv j) (by rw [List.length_set]; exact hz) s.toks
  by_cases h0 : 0 ≤ k
  · have hk : k.toNat = j := by
      rw [seqIndex_of h0 h4] at h1
      exact Option.some.inj h1
    exact PySem.W.ki_setAt ho h0 (by omega) (by rw [List.size_toArray, ← hl]; exact h4) (by rw [hk]; exact ⟨_, I', q⟩)
  · have hk : (k + (its.toArray.size : Int)).toNat = j := by
      rw [seqIndex_neg (by omega) h3] at h1
      rw [List.size_toArray, ← hl]
      exact Option.some.inj h1
    exact PySem.W.ki_setBack ho (by omega) (by rw [List.size_toArray, ← hl]; exact h3) (by omega) (by rw [hk]; exact ⟨_, I', q⟩)

/-! ### slices -/
theorem slice_bounds (lo hi : Option Int) (n : Nat) : (sliceBounds lo hi none n).1 = ((HT.sIx n 0 lo : Nat) : Int) ∧ (sliceBounds lo hi none n).2.1 = ((HT.sIx n n hi : Nat) : Int) ∧ (sliceBounds lo hi none n).2.2 = 1 := by
  refine ⟨?_, ?_, rfl⟩
  · cases lo with
    | none => simp [sliceBounds, HT.sIx]
    | some i =>
      simp only [sliceBounds, HT.sIx, Option.getD_none, show (1 : Int) > 0 by decide, if_true]
      by_cases h : i < 0
      · simp only [h, if_true] <;> omega
      · simp only [h, if_false] <;> omega
  · cases hi with
    | none => simp [sliceBounds, HT.sIx]
    | some i =>
      simp only [sliceBounds, HT.sIx, Option.getD_none, show (1 : Int) > 0 by decide, if_true]
      by_cases h : i < 0
      · simp only [h, if_true] <;> omega
      · simp only [h, if_false] <;> omega
theorem slicePick_cut (its : List Value) (lo hi : Option Int) : slicePick its.toArray lo hi none = ((its.drop (HT.sIx its.length 0 lo)).take (HT.sIx its.length its.length hi - HT.sIx its.length 0 lo)).toArray := by
  obtain ⟨h1, h2, h3⟩ := slice_bounds lo hi its.toArray.size
  unfold slicePick
  rw [h1, h2, h3]
  simp only [sliceRange_one, pick_run, List.size_toArray] <;> rfl
/-- xs[lo:hi] of a list: a new list -/
def rSlL (K : PySem.W.Frag) : V → Option Int → Option Int → Hp → VK → Prop := fun x lo hi H Q => ∃ a xs, x = .ref a ∧ SqL K H a xs ∧ ∀ p, H p = none → Q (.ref p) (upd H p (.lst (cutV xs lo hi)))
theorem sl_list : SlR X (rSlL X.K) := by
  intro pins s σ H x v vl vu lo hi sl Q I rx hs pl pu h
  obtain ⟨a, xs, rfl, hx, q⟩ := h
  cases rx
  obtain ⟨its, r, ht, hz⟩ := I.list hx
  have hlen := r.length
  refine ⟨"list", _, slot_list_getitem.lookup, ht.isList.typeIs, ?_⟩
  refine wpAny_getItem_list_slice ht.isList hs pl pu .none (by simp) ?_ (by rw [List.size_toArray] <;> omega)
  rw [slicePick_cut, ← hlen]
  refine ⟨.ref s.heap.objs.size, _, I.laid (t' := s.toks) (o := .lst (cutV xs lo hi)) (fun b ob q => Heap.get?_push_of_some _ q) (Nat.le_refl _) ?_, rfl, q _ (I.hok.fresh (Nat.le_refl _))⟩
  exact ⟨Nat.le_trans (cutV_length xs lo hi) hz, _, 0, (r.drop (HT.sIx xs.length 0 lo)).take (HT.sIx xs.length xs.length hi - HT.sIx xs.length 0 lo), Heap.get?_push_size _ rfl⟩

/-! ### in, not in: flat items -/
def flatV : V → Bool
  | .non => true
  | .bl _ => true
  | .int _ => true
  | .str _ => true
  | _ => false
/-- == of flat values -/
def eqV : V → V → Bool
  | .non, .non => true
  | .bl a, .bl b => a == b
  | .bl a, .int b => (if a then 1 else 0) == b
  | .int a, .bl b => a == (if b then 1 else 0)
  | .int a, .int b => a == b
  | .str a, .str b => a == b
  | _, _ => false
/-- the items' answers, read off the values (a value's own answer does not lean on its token) -/
def eqU (x : V) (u : Value) : Bool := match u with
  | .none => eqV .non x
  | .bool b => eqV (.bl b) x
  | .int i _ => eqV (.int i) x
  | .str z _ => eqV (.str z) x
  | _ => false
def inV (x : V) (xs : List V) : Bool := xs.any fun y => eqV y x
/-- x in a list or tuple of flat items -/
def rIn (K : PySem.W.Frag) (neg : Bool) : R2 := fun x y H Q => ∃ p xs, y = .ref p ∧ (SqL K H p xs ∨ SqT K H p xs) ∧ flatV x = true ∧ xs.all flatV = true ∧ Q (.bl (if neg then !inV x xs else inV x xs)) H
/-! ### len, list(x), tuple(x) of any list or tuple that is read -/
theorem call_len_seq : CallR X (.builtin "len") (fun xs H Q => ∃ p ys, xs = [.ref p] ∧ (SqL X.K H p ys ∨ SqT X.K H p ys) ∧ Q (.int ys.length) H) := by
  intro pins s σ H xs us Q I r h
  obtain ⟨p, ys, rfl, hq, q⟩ := h
  obtain ⟨u, rfl, rx⟩ := vals1 r
  cases rx
  have hn := line63
  rcases hq with hq | hq
  · obtain ⟨its, r', pl, hz⟩ := I.list hq
    have hlen := r'.length
    exact Calls.call_len_list pl.isList (by simp only [List.size_toArray] <;> omega) ⟨.int ys.length, H, I.tok _, ⟨s.toks + 1, by rw [List.size_toArray, hlen]⟩, q⟩
  · obtain ⟨its, r', pl, hz⟩ := I.tuple hq
    have hlen := r'.length
    exact len_tuple pl (by simp only [List.size_toArray] <;> omega) ⟨.int ys.length, H, I.tok _, ⟨s.toks + 1, by rw [List.size_toArray, hlen]⟩, q⟩
theorem CallR.or {f : Value} {r r' : List V → Hp → VK → Prop} (h : CallR X f r) (h' : CallR X f r') : CallR X f (fun xs H Q => r xs H Q ∨ r' xs H Q) := by
  intro pins s σ H xs us Q I rs q
  rcases q with q | q
  · exact h pins s σ H xs us Q I rs q
  · exact h' pins s σ H xs us Q I rs q
theorem call_tuple_of : CallR X (.type "tuple") (fun xs H Q => ∃ p ys, xs = [.ref p] ∧ ((SqL X.K H p ys ∧ ∀ l, H l = none → Q (.ref l) (upd H l (.tup ys))) ∨ (SqT X.K H p ys ∧ Q (.ref p) H))) := by
  intro pins s σ H xs us Q I r h
  obtain ⟨p, ys, rfl, h⟩ := h
  obtain ⟨u, rfl, rx⟩ := vals1 r
  cases rx
  rcases h with ⟨hq, q⟩ | ⟨hq, q⟩
  · obtain ⟨its, r', pl, hz⟩ := I.list hq
    have hlen := r'.length
    refine call_tuple_list pl.isList (fun h' kp => ?_) (by simp only [List.size_toArray] <;> omega)
    have I1 : Inv X pins σ H { s with heap := h' } := I.kept (t' := s.toks) kp
    have I2 : Inv X pins σ (upd H h'.objs.size (.tup ys)) { s with heap := h'.push { cls := .type "tuple", data := .seq its.toArray } } :=
      I1.laid (t' := s.toks) (fun b o e => Heap.get?_push_of_some _ e) (Nat.le_refl _) (show ObjOk X.prog X.w _ _ _ (.tup ys) from ⟨hz, its, r', IsTup.new _ _⟩)
    exact ⟨.ref h'.objs.size, _, I2, rfl, q _ (I1.hok.fresh (Nat.le_refl _))⟩
  · obtain ⟨its, r', pl, hz⟩ := I.tuple hq
    exact call_tuple_same pl ⟨.ref p, H, I, rfl, q⟩

/-! ### the call of a builtin's method: o.m(..) -/
/-- the value is of that builtin type -/
def tyV (K : PySem.W.Frag) (T : String) (x : V) (H : Hp) : Prop := match x with
  | .str _ => T = "str"
  | .int _ => T = "int"
  | .ref p => (T = "list" ∧ ∃ xs, SqL K H p xs) ∨ (T = "tuple" ∧ ∃ o, K.lookup p = some o ∧ o.cls = .type "tuple" ∧ o.dict = none) ∨
      (T = "dict" ∧ ((∃ kvs, H p = some (.dK kvs)) ∨ ∃ kvs, H p = some (.dT kvs))) ∨ (T = "set" ∧ ∃ S n, H p = some (.set S n))
  | _ => False
theorem tyV_is {pins : List (Addr × Obj)} {σ : St} {H : Hp} {s : Shared} {T : String} {x : V} {v : Value} (I : Inv X pins σ H s) (r : RelV x v) (ty : tyV X.K T x H) :
    s.TypeIs v T ∧ ∀ a, v = .ref a → ∃ ob, s.heap.get? a = some ob ∧ ob.dict = none := by
  cases x with
  | str z =>
    obtain ⟨t, rfl⟩ := r
    cases (show T = "str" from ty)
    exact ⟨typeIs_str s z t, fun _ e => nomatch e⟩
  | int i =>
    obtain ⟨t, rfl⟩ := r
    cases (show T = "int" from ty)
    exact ⟨typeIs_int s i t, fun _ e => nomatch e⟩
  | ref p =>
    cases r
    rcases ty with ⟨rfl, xs, hq⟩ | ⟨rfl, o, hk, hc, hd⟩ | ⟨rfl, hk⟩ | ⟨rfl, S, n, hk⟩
    · obtain ⟨its, _, pl, _⟩ := I.list hq
      refine ⟨pl.isList.typeIs, fun a e => ?_⟩
      cases e
      obtain ⟨o, n, e, c, hd, _⟩ := pl
      exact ⟨o, e, hd⟩
    · refine ⟨⟨o, I.kIn p o hk, hc⟩, fun a e => ?_⟩
      cases e
      exact ⟨o, I.kIn _ o hk, hd⟩
    · have z : ∃ o, s.heap.get? p = some o ∧ o.ExactDict := by
        rcases hk with ⟨kvs, hk⟩ | ⟨kvs, hk⟩
        · obtain ⟨_, _, _, _, o, _, _, e, ex, _⟩ := I.hok p _ hk
          exact ⟨o, e, ex⟩
        · obtain ⟨_, _, _, _, o, _, _, e, ex, _⟩ := I.hok p _ hk
          exact ⟨o, e, ex⟩
      obtain ⟨o, e, ex⟩ := z
      refine ⟨⟨o, e, ex.1⟩, fun a e2 => ?_⟩
      cases e2
      exact ⟨o, e, ex.2.1⟩
    · obtain ⟨o, _, _, _, e, ex, _⟩ := I.hok p _ hk
      refine ⟨⟨o, e, ex.1⟩, fun a e2 => ?_⟩
      cases e2
      exact ⟨o, e, ex.2.1⟩
  | _ => exact False.elim ty
def tBM0 (K : PySem.W.Frag) (T : String) (r : V → List V → Hp → VK → Prop) (to : TE) : TE := fun σ H Q => to σ H fun x H1 => tyV K T x H1 ∧ r x [] H1 Q
def tBM (K : PySem.W.Frag) (T : String) (r : V → List V → Hp → VK → Prop) (to : TE) (t : TA) : TE := fun σ H Q => to σ H fun x H1 => tyV K T x H1 ∧ t σ H1 fun xs H2 => r x xs H2 Q
variable {o e : Expr} {es : List Expr} {to : TE} {t : TA} {name : Str} {apos cpos : Pos} {T id : String} {r : V → List V → Hp → VK → Prop}
theorem pe_bm (pa : PlainAttrs T) (slot : Slot T name id) (hty : typeOf (.builtin id) = pure (.type "method_descriptor")) (hm : MtR X id r) (ho : PE X o to) (ha : PA X (e :: es) t)
    (hbase : attributeBase o name X.env (eval o X.env) = eval o X.env := by rfl)
    (hfew : ((backTo cpos (starEach (e :: es) X.env)).all (fun x => !x.1) && (backToKw cpos (keywordEach [] X.env)).all (fun x => x.1.isSome)
      && decide ((e :: es).length + ([] : List Keyword).length + (if ([] : List Keyword).isEmpty then 0 else 1) < 30)) = true := by rfl)
    (hline : (apos.endLine == cpos.line) = true := by rfl) (hs : starEach (e :: es) X.env = (false, eval e X.env) :: starEach es X.env := by rfl) (hplain : (backTo cpos (starEach es X.env)).any (·.1) = false := by rfl) :
    PE X (.Call (.Attribute o name apos) (e :: es) [] cpos) (tBM X.K T r to t) := by
  intro pins s σ H Q I h
  refine wpAny_Call_method_late hbase hfew hline rfl (thn (ho pins s σ H _ I h) fun v s1 ⟨x, H1, I1, r1, ty, q1⟩ => ?_)
  obtain ⟨h1, h2⟩ := tyV_is I1 r1 ty
  refine ⟨T, id, pa, slot, hty, h1, h2, ?_⟩
  have hA := ha cpos pins s1 σ H1 _ I1 q1
  rw [hs] at hA ⊢
  refine Calls.callWith_builtin (by show (false || (backTo cpos (starEach es X.env)).any (·.1)) = false; rw [hplain] <;> rfl) (Calls.evalArgs_plain ?_)
  exact thn hA fun us s2 ⟨vs, H2, I2, r2, q2⟩ => hm pins s2 σ H2 x vs v us Q I2 r1 r2 q2
/- xs.append(e), list.index on a module's tuple .. are MtR facts of 06m -/
end
end L2

namespace L2
open PySem PySem.Spec PyProof.Rows

def MtM (X : Cx) (id : String) (r : V → List V → Hp → VK → Prop) : Prop :=
  ∀ (pins : List (Addr × Obj)) (s : Shared) (σ : St) (H : Hp) (x : V) (xs : List V) (v : Value) (us : List Value) (Q : VK), Inv X pins σ H s → RelV x v → Vals xs us → r x xs H Q →
    wpAny (model X.prog X.w) X.A (call (.builtin id) (v :: us)) (EP X pins σ Q) X.xe s

/-! ### lists of values -/
theorem Vals.one : ∀ {x : V} {us : List Value}, Vals [x] us → ∃ u, us = [u] ∧ RelV x u
  | _, _, .cons r .nil => ⟨_, rfl, r⟩
theorem Vals.two : ∀ {x y : V} {us : List Value}, Vals [x, y] us → ∃ u v, us = [u, v] ∧ RelV x u ∧ RelV y v
  | _, _, _, .cons r (.cons q .nil) => ⟨_, _, rfl, r, q⟩
theorem Vals.zero : ∀ {us : List Value}, Vals [] us → us = []
  | _, .nil => rfl
theorem Vals.dropLast {xs : List V} {us : List Value} (h : Vals xs us) : Vals xs.dropLast us.dropLast := by
  induction h with
  | nil => exact .nil
  | cons r t ih =>
    cases t with
    | nil => exact .nil
    | cons q t' => exact .cons r ih
theorem Vals.eraseIdx : ∀ {xs : List V} {us : List Value} (i : Nat), Vals xs us → Vals (xs.eraseIdx i) (us.eraseIdx i)
  | _, _, _, .nil => .nil
  | _, _, 0, .cons _ t => t
  | _, _, i + 1, .cons r t => .cons r (Vals.eraseIdx i t)
theorem Vals.reverse {xs : List V} {us : List Value} (h : Vals xs us) : Vals xs.reverse us.reverse := by
  induction h with
  | nil => exact .nil
  | cons r t ih => rw [List.reverse_cons, List.reverse_cons]; exact Vals.append ih (.cons r .nil)
theorem Vals.rep {xs : List V} {us : List Value} (h : Vals xs us) : ∀ k : Nat, Vals (List.replicate k xs).flatten (List.replicate k us).flatten
  | 0 => .nil
  | k + 1 => by
    rw [List.replicate_succ, List.replicate_succ, List.flatten_cons, List.flatten_cons]
    exact Vals.append h (Vals.rep h k)
theorem foldl_rep (its : List Value) : ∀ (k : Nat) (acc : List Value),
    List.foldl (fun x1 x2 => x1 ++ x2) acc.toArray (List.replicate k its.toArray) = (acc ++ (List.replicate k its).flatten).toArray
  | 0, acc => by simp
  | k + 1, acc => by
    have e : acc.toArray ++ its.toArray = (acc ++ its).toArray := by simp
    have e2 : (acc ++ its) ++ (List.replicate k its).flatten = acc ++ (List.replicate (k + 1) its).flatten := by
      rw [List.replicate_succ, List.flatten_cons, List.append_assoc]
    rw [← e2, ← foldl_rep its k (acc ++ its), ← e, List.replicate_succ, List.foldl_cons]

section
variable {X : Cx} {pins : List (Addr × Obj)} {σ : St} {H : Hp} {s : Shared} {l b : Addr} {xs ys zs : List V}

/-! ### the two steps: a tracked list is rewritten, a new list is laid -/
theorem Inv.lset {its its' : List Value} {n : Nat} {f : Array Value → Array Value} {t' : Nat} (I : Inv X pins σ H s) (hH : H l = some (.lst xs))
    (e : s.heap.get? l = some { cls := .type "list", data := .seq its.toArray n }) (hf : f its.toArray = its'.toArray) (hv : Vals ys its') (hz : ys.length ≤ sizeLine) :
    Inv X pins σ (upd H l (.lst ys)) { s with heap := s.heap.update l (Obj.mapSeq f), toks := t' } := by
  have q := PySem.IsL.update e f
  rw [hf] at q
  refine I.write (x := l) (e := l) (by rw [hH]; exact trivial) (.inl rfl) (fun b' u hb hu => (Heap.get?_update_other s.heap (Obj.mapSeq f) (Ne.symm hb)).trans hu) ⟨_, q⟩ ?_
  exact ⟨hz, its', _, hv, q⟩
theorem Inv.lnew {its : List Value} {t' : Nat} (I : Inv X pins σ H s) (hv : Vals ys its) (hz : ys.length ≤ sizeLine) :
    Inv X pins σ (upd H s.heap.objs.size (.lst ys)) { s with heap := s.heap.push { cls := .type "list", data := .seq its.toArray }, toks := t' } :=
  I.laid (fun _ _ q => Heap.get?_push_of_some _ q) (Nat.le_refl _) ⟨hz, its, 0, hv, Heap.get?_push_size _ rfl⟩
theorem Inv.fresh (I : Inv X pins σ H s) : H s.heap.objs.size = none := I.hok.fresh (Nat.le_refl _)
theorem Inv.lstM (I : Inv X pins σ H s) (hH : H l = some (.lst xs)) : xs.length ≤ sizeLine ∧ ∃ (its : List Value) (n : Nat), Vals xs its ∧ xs.length = its.length ∧ s.heap.get? l = some { cls := .type "list", data := .seq its.toArray n } := by
  obtain ⟨z, its, n, r, e⟩ := I.hok l _ hH
  exact ⟨z, its, n, r, r.length, e⟩

theorem notLongL {n : Nat} (h : n ≤ sizeLine) : Builtin.List.listTooLong n = false := by
  unfold Builtin.List.listTooLong
  exact decide_eq_false (by omega)
end

section
variable {X : Cx}

/-! ### methods -/
def rAppend : V → List V → Hp → VK → Prop := fun x vs H Q => ∃ l xs y, x = .ref l ∧ vs = [y] ∧ H l = some (.lst xs) ∧ xs.length < sizeLine ∧ Q .non (upd H l (.lst (xs ++ [y])))
theorem mt_append : MtM X "list.append" rAppend := by
  intro pins s σ H x vs v us Q I rx rv h
  obtain ⟨l, xs, y, rfl, rfl, hH, hz, q⟩ := h
  cases rx
  obtain ⟨u, rfl, ru⟩ := rv.one
  obtain ⟨z, its, n, r, hl, e⟩ := I.lstM hH
  refine call_meets F.slot_list_append ⟨_, e, rfl⟩ F.entry_list_append (F.args_list_append_2 _ _) (PySem.list_append l its.toArray n u (by rw [List.size_toArray]; omega)) ⟨e, ?_⟩
  refine ⟨.non, _, I.lset (its' := its ++ [u]) hH e (by simp) (r.append (.cons ru .nil)) ?_, rfl, q⟩
  rw [List.length_append, List.length_singleton]
  omega

def rExtend : V → List V → Hp → VK → Prop := fun x vs H Q => ∃ l b xs zs, x = .ref l ∧ vs = [.ref b] ∧ H l = some (.lst xs) ∧ H b = some (.lst zs) ∧ xs.length + zs.length ≤ sizeLine ∧ Q .non (upd H l (.lst (xs ++ zs)))
theorem mt_extend : MtM X "list.extend" rExtend := by
  intro pins s σ H x vs v us Q I rx rv h
  obtain ⟨l, b, xs, zs, rfl, rfl, hH, hB, hz, q⟩ := h
  cases rx
  obtain ⟨u, rfl, ru⟩ := rv.one
  cases ru
  obtain ⟨z, its, n, r, hl, e⟩ := I.lstM hH
  obtain ⟨z2, its2, n2, r2, hl2, e2⟩ := I.lstM hB
  have hsz : its.toArray.size + its2.toArray.size ≤ sizeLine := by rw [List.size_toArray, List.size_toArray]; omega
  have hlong : ¬ (!its.toArray.isEmpty && Builtin.List.listTooLong (its.toArray.size + its2.toArray.size)) = true := by
    rw [notLongL hsz, Bool.and_false]
    exact Bool.false_ne_true
  refine call_meets F.slot_list_extend ⟨_, e, rfl⟩ F.entry_list_extend (F.args_list_extend_2 _ _)
    (AutoSeq1.list_extend_list_list_0 l its.toArray n b its2.toArray n2 hlong (by rw [List.size_toArray]; omega) (by omega)) ⟨e, e2, ?_⟩
  refine ⟨.non, _, I.lset (its' := its ++ its2) hH e (by simp) (r.append r2) ?_, rfl, q⟩
  rw [List.length_append]
  omega

def rPop : V → List V → Hp → VK → Prop := fun x vs H Q => ∃ l xs y, x = .ref l ∧ vs = [] ∧ H l = some (.lst xs) ∧ xs[xs.length - 1]? = some y ∧ Q y (upd H l (.lst xs.dropLast))
def rPopAt : V → List V → Hp → VK → Prop := fun x vs H Q => ∃ l xs i k y, x = .ref l ∧ vs = [.int i] ∧ H l = some (.lst xs) ∧ -(2 ^ 63) ≤ i ∧ i < 2 ^ 63 ∧ seqIndex? i xs.length = some k ∧ xs[k]? = some y ∧ Q y (upd H l (.lst (xs.eraseIdx k)))
def rReverse : V → List V → Hp → VK → Prop := fun x vs H Q => ∃ l xs, x = .ref l ∧ vs = [] ∧ H l = some (.lst xs) ∧ Q .non (upd H l (.lst xs.reverse))
def rClear : V → List V → Hp → VK → Prop := fun x vs H Q => ∃ l xs, x = .ref l ∧ vs = [] ∧ H l = some (.lst xs) ∧ Q .non (upd H l (.lst []))
/-! ### list + list, list += list, list * int -/
def rCat : R2 := fun x y H Q => ∃ l b xs zs, x = .ref l ∧ y = .ref b ∧ H l = some (.lst xs) ∧ H b = some (.lst zs) ∧ xs.length + zs.length ≤ sizeLine ∧ ∀ p, H p = none → Q (.ref p) (upd H p (.lst (xs ++ zs)))
theorem op_cat : OpR X (binaryOp .Add) rCat := by
  intro pins s σ H x y v u Q I rx ry h
  obtain ⟨l, b, xs, zs, rfl, rfl, hH, hB, hz, q⟩ := h
  cases rx
  cases ry
  obtain ⟨z, its, n, r, hl, e⟩ := I.lstM hH
  obtain ⟨z2, its2, n2, r2, hl2, e2⟩ := I.lstM hB
  refine PySem.P.add_list e e2 ?_ (by rw [List.size_toArray, List.size_toArray]; omega)
  have ea : its.toArray ++ its2.toArray = (its ++ its2).toArray := by simp
  rw [ea]
  exact ⟨.ref _, _, I.lnew (t' := s.toks) (r.append r2) (by rw [List.length_append]; omega), rfl, q _ I.fresh⟩
/-- a list times an int (a negative one is nothing) -/
def rRep : R2 := fun x y H Q => ∃ l k xs, x = .ref l ∧ y = .int k ∧ H l = some (.lst xs) ∧ -(2 ^ 63) ≤ k ∧ k < 2 ^ 63 ∧ xs.length * k.toNat ≤ sizeLine ∧
  ∀ p, H p = none → Q (.ref p) (upd H p (.lst (List.replicate k.toNat xs).flatten))
theorem len_rep {α : Type} (xs : List α) (k : Nat) : (List.replicate k xs).flatten.length = k * xs.length := by
  induction k with
  | zero => simp
  | succ k ih => rw [List.replicate_succ, List.flatten_cons, List.length_append, ih, Nat.succ_mul, Nat.add_comm]
theorem op_rep : OpR X (binaryOp .Mult) rRep := by
  intro pins s σ H x y v u Q I rx ry h
  obtain ⟨l, k, xs, rfl, rfl, hH, h1, h2, hz, q⟩ := h
  cases rx
  obtain ⟨t, rfl⟩ := ry
  obtain ⟨z, its, n, r, hl, e⟩ := I.lstM hH
  have hlen : its.toArray.size * k.toNat ≤ sizeLine := by rw [List.size_toArray, ← hl]; exact hz
  have hcap : ¬ its.toArray.size * k.toNat > (2 ^ 63 - 1) / 8 := by
    have : (sizeLine : Nat) ≤ (2 ^ 63 - 1) / 8 := by decide
    omega
  have hfit : ¬ (!Builtin.List.listFitsIndex k) = true := by
    rw [fitsIndex_both h1 h2]
    exact Bool.false_ne_true
  have hlong : ¬ Builtin.List.listTooLong (its.toArray.size * k.toNat) = true := by
    rw [notLongL hlen]
    exact Bool.false_ne_true
  have hnew : List.foldl (fun x1 x2 => x1 ++ x2) #[] (List.replicate (if its.toArray.isEmpty = true then 0 else k.toNat) its.toArray) = (List.replicate k.toNat its).flatten.toArray := by
    have f0 : ∀ m : Nat, List.foldl (fun x1 x2 => x1 ++ x2) #[] (List.replicate m its.toArray) = (List.replicate m its).flatten.toArray := fun m => by
      have := foldl_rep its m []
      rw [List.nil_append] at this
      exact this
    rw [f0]
    cases its with
    | nil => simp
    | cons a r' => rw [if_neg (by simp)]
  refine wpAny_binaryOp_repeat_ref (T := "list") (U := "int") (by decide) ⟨_, e, rfl⟩ (fun s' => typeIs_int s' k t) noFill_list_mul F.fills_int_mul F.slot_int_rmul repeat_list F.slot_int_index.lookup
    (call_meets F.slot_int_rmul (typeIs_int s k t) F.entry_int_rmul (F.args_int_rmul_2 _ _) (int___rmul___int_list k t l its.toArray n)
      ⟨e, rfl, ⟨_, e, rfl⟩, call_meets F.slot_list_mul ⟨_, e, rfl⟩ F.entry_list_mul (F.args_list_mul_2 _ _) (AutoListH.list___mul___list_int_3 l its.toArray n k t hfit hcap hlong) ⟨e, ?_⟩⟩)
  rw [hnew]
  exact ⟨.ref _, _, I.lnew (t' := s.toks) (r.rep k.toNat) (by rw [len_rep, Nat.mul_comm]; exact hz), rfl, q _ I.fresh⟩

/-! ### del xs[i] -/
end

/-! ### xs[a:b] = ys -/
section
variable {prog : Program} {w : World} {A : Around} {E : Value → Shared → Prop} {s : Shared}
end

section
variable {X : Cx}
end
end L2

namespace L2
open PySem PySem.Spec PyProof.Rows

theorem Vals.ints : ∀ {ns : List Int} {us : List Value}, Vals (ns.map V.int) us → IntsAre us ns
  | [], us, h => by
    rw [List.map_nil] at h
    cases h
    exact IntsAre.nil
  | n :: ns, us, h => by
    rw [List.map_cons] at h
    cases h with
    | cons r t =>
      obtain ⟨k, rfl⟩ := r
      exact IntsAre.cons n k (Vals.ints t)
theorem Vals.strs : ∀ {xs : List Str} {us : List Value}, Vals (xs.map V.str) us → StrsAre us xs
  | [], us, h => by
    rw [List.map_nil] at h
    cases h
    exact StrsAre.nil
  | x :: xs, us, h => by
    rw [List.map_cons] at h
    cases h with
    | cons r t =>
      obtain ⟨k, rfl⟩ := r
      exact StrsAre.cons x k (Vals.strs t)
/-! ### the library's walks over a list of ints, kept objects alone -/
section
variable {prog : Program} {w : World} {A : Around} {E : Value → Shared → Prop} {s : Shared} {l : Addr} {its : List Value} {ns : List Int} {Q : Value → Shared → Prop}
end

/-! ### the calls, by values (CallR of 03t; MtR of 06l) -/
section
variable {X : Cx}
/-- sum(xs) of a list of ints -/
def rSum (K : PySem.W.Frag) : List V → Hp → VK → Prop := fun vs H Q => ∃ (a : Addr) (ns : List Int), vs = [V.ref a] ∧ SqL K H a (ns.map V.int) ∧ Q (.int ns.sum) H
/-- max(xs), min(xs) of a list of ints -/
def rMax (K : PySem.W.Frag) : List V → Hp → VK → Prop := fun vs H Q => ∃ (a : Addr) (ns : List Int), vs = [V.ref a] ∧ SqL K H a (ns.map V.int) ∧ 0 < ns.length ∧ ∀ m, m ∈ ns → (∀ y, y ∈ ns → y ≤ m) → Q (.int m) H
def rMin (K : PySem.W.Frag) : List V → Hp → VK → Prop := fun vs H Q => ∃ (a : Addr) (ns : List Int), vs = [V.ref a] ∧ SqL K H a (ns.map V.int) ∧ 0 < ns.length ∧ ∀ m, m ∈ ns → (∀ y, y ∈ ns → m ≤ y) → Q (.int m) H
/-! sorted, sort (fewer than 64 items: the library's own bound) -/
def rSorted (K : PySem.W.Frag) : List V → Hp → VK → Prop := fun vs H Q => ∃ (a : Addr) (ns : List Int), vs = [V.ref a] ∧ SqL K H a (ns.map V.int) ∧ ns.length < 64 ∧
  ∀ (ns' : List Int) (p : Addr), ns'.Perm ns → ns'.Pairwise (· ≤ ·) → H p = none → Q (.ref p) (upd H p (.lst (ns'.map V.int)))
def rSortedS (K : PySem.W.Frag) : List V → Hp → VK → Prop := fun vs H Q => ∃ (a : Addr) (xs : List Str), vs = [V.ref a] ∧ SqL K H a (xs.map V.str) ∧ xs.length < 64 ∧
  ∀ (ys : List Str) (p : Addr), ys.Perm xs → sortedS ys = true → H p = none → Q (.ref p) (upd H p (.lst (ys.map V.str)))
/-- xs.sort(), ints -/
def rSort : V → List V → Hp → VK → Prop := fun x xs H Q => ∃ (a : Addr) (ns : List Int), x = V.ref a ∧ xs = [] ∧ H a = some (.lst (ns.map V.int)) ∧ ns.length < 64 ∧
  ∀ ns' : List Int, ns'.Perm ns → ns'.Pairwise (· ≤ ·) → Q .non (upd H a (.lst (ns'.map V.int)))
end

/-! ### list.index, flat items -/
section
variable {X : Cx}
def rIndex (K : PySem.W.Frag) : V → List V → Hp → VK → Prop := fun x xs H Q => ∃ (a : Addr) (ys : List V) (y : V) (j : Nat) (z : V), x = V.ref a ∧ xs = [y] ∧ SqL K H a ys ∧ flatV y = true ∧ ys.all flatV = true ∧ ys[j]? = some z ∧ eqV z y = true ∧
  (∀ (m : Nat) (z' : V), m < j → ys[m]? = some z' → eqV z' y = false) ∧ Q (.int (j : Nat)) H
end

/-! ### type(x) of an own instance; is, is not of a module's class -/
section
variable {X : Cx}
end

/-! ### any(xs), all(xs) of a list of bools -/
section
variable {X : Cx}
def rAny (K : PySem.W.Frag) : List V → Hp → VK → Prop := fun vs H Q => ∃ (a : Addr) (bs : List Bool), vs = [V.ref a] ∧ SqL K H a (bs.map V.bl) ∧ Q (.bl (bs.any id)) H
def rAll (K : PySem.W.Frag) : List V → Hp → VK → Prop := fun vs H Q => ∃ (a : Addr) (bs : List Bool), vs = [V.ref a] ∧ SqL K H a (bs.map V.bl) ∧ Q (.bl (bs.all id)) H
end

/-! ### == and != of data at any depth: none, bools, ints, texts, lists, tuples -/
mutual
inductive Dp (K : PySem.W.Frag) (H : Hp) : V → PyData → Prop
  | non : Dp K H .non .none
  | bl (b : Bool) : Dp K H (.bl b) (.bool b)
  | int (i : Int) : Dp K H (.int i) (.int i)
  | str (x : Str) : Dp K H (.str x) (.str x)
  | lst {a : Addr} {xs : List V} {ds : List PyData} : SqL K H a xs → DpAll K H xs ds → Dp K H (.ref a) (.list ds)
  | tup {a : Addr} {xs : List V} {ds : List PyData} : SqT K H a xs → DpAll K H xs ds → Dp K H (.ref a) (.tuple ds)
inductive DpAll (K : PySem.W.Frag) (H : Hp) : List V → List PyData → Prop
  | nil : DpAll K H [] []
  | cons {v : V} {vs : List V} {d : PyData} {ds : List PyData} : Dp K H v d → DpAll K H vs ds → DpAll K H (v :: vs) (d :: ds)
end
section
variable {X : Cx} {pins : List (Addr × Obj)} {σ : St} {H : Hp} {s : Shared}
mutual
theorem Dp.reads (I : Inv X pins σ H s) : ∀ (d : PyData) (v : V) (u : Value), Dp X.K H v d → RelV v u → ∃ as, Reads s.heap u d as
  | .none, _, _, h, r => by
    cases h
    cases r
    exact ⟨_, Reads.none⟩
  | .bool b, _, _, h, r => by
    cases h
    cases r
    exact ⟨_, Reads.bool b⟩
  | .int i, _, _, h, r => by
    cases h
    obtain ⟨t, rfl⟩ := r
    exact ⟨_, Reads.int i t⟩
  | .str x, _, _, h, r => by
    cases h
    obtain ⟨t, rfl⟩ := r
    exact ⟨_, Reads.str x t⟩
  | .list ds, _, _, h, r => by
    cases h with
    | lst hs ha =>
      cases r
      obtain ⟨its, rv, ⟨o, n, ho, hc, _, hd⟩, _⟩ := I.list hs
      obtain ⟨as, hr⟩ := Dp.readsAll I ds _ its ha rv
      exact ⟨_, Reads.list ho hc hd hr⟩
  | .tuple ds, _, _, h, r => by
    cases h with
    | tup hs ha =>
      cases r
      obtain ⟨its, rv, ⟨o, ho, hc, n, hd⟩, _⟩ := I.tuple hs
      obtain ⟨as, hr⟩ := Dp.readsAll I ds _ its ha rv
      exact ⟨_, Reads.tuple ho hc hd hr⟩
  | .dict _, _, _, h, _ => by cases h
theorem Dp.readsAll (I : Inv X pins σ H s) : ∀ (ds : List PyData) (vs : List V) (us : List Value), DpAll X.K H vs ds → Vals vs us → ∃ as, ReadsAll s.heap us ds as
  | [], _, _, h, r => by
    cases h
    cases r
    exact ⟨_, ReadsAll.nil⟩
  | d :: ds, _, _, h, r => by
    cases h with
    | cons h1 h2 =>
      cases r with
      | cons r1 r2 =>
        obtain ⟨as, q1⟩ := Dp.reads I d _ _ h1 r1
        obtain ⟨bs, q2⟩ := Dp.readsAll I ds _ _ h2 r2
        exact ⟨_, ReadsAll.cons q1 q2⟩
end
end
section
variable {X : Cx}
def rEqD (K : PySem.W.Frag) : R2 := fun x y H Q => ∃ d e, Dp K H x d ∧ Dp K H y e ∧ SeqAt.shaped d = true ∧ SeqAt.shaped e = true ∧ Q (.bl (PyData.eqv d e)) H
def rNeD (K : PySem.W.Frag) : R2 := fun x y H Q => ∃ d e, Dp K H x d ∧ Dp K H y e ∧ SeqAt.shaped d = true ∧ SeqAt.shaped e = true ∧ Q (.bl (!PyData.eqv d e)) H
end
end L2

namespace L2
open PySem PySem.Spec PyProof.Rows
abbrev CellAt (h : Heap) (c : Addr) (v : Option Value) : Prop := h.IsCell c v
def relS (scope sc : Scope) : Scope :=
  { scope with names := scope.names.map fun (n, k) => if (k == .free && sc.kind == .function && sc.names.lookup n == some .cell) then (n, .cell) else (n, k) }

def cloFrom (cells : List (Str × Addr)) : List (Str × NameKind) → List (Str × Addr) → List (Str × Addr)
  | [], acc => acc
  | (n, k) :: r, acc => if k == .free then cloFrom cells r ((n, (cells.lookup n).getD 0) :: acc) else cloFrom cells r acc

theorem closure_loop (env : Env) (f : Str × NameKind → List (Str × Addr) → Sem (ForInStep (List (Str × Addr))))
    (hf : ∀ n k c, f (n, k) c = if k == .free then (do let a ← cellOf env n; pure (.yield ((n, a) :: c))) else pure (.yield c)) :
    ∀ (names : List (Str × NameKind)) (acc : List (Str × Addr)), (∀ y ∈ names, y.2 = .free → ∃ c, env.cells.lookup y.1 = some c) → forIn names acc f = pure (cloFrom env.cells names acc)
  | [], acc, _ => by rw [List.forIn_nil]; rfl
  | (n, k) :: r, acc, h => by
    rw [List.forIn_cons, hf]
    have ih := fun acc => closure_loop env f hf r acc fun y hy => h y (List.mem_cons_of_mem _ hy)
    unfold cloFrom
    by_cases hk : (k == NameKind.free) = true
    · rw [if_pos hk, if_pos hk]
      obtain ⟨c, hc⟩ := h (n, k) List.mem_cons_self (by simpa using hk)
      have e : cellOf env n = pure c := by unfold cellOf; rw [hc]
      rw [e]
      have e2 : (env.cells.lookup n).getD 0 = c := by rw [hc]; rfl
      rw [e2]
      exact ih _
    · rw [if_neg hk, if_neg hk]
      exact ih _
theorem closure_ok {scope : Scope} {env : Env} (h : ∀ y ∈ scope.names, y.2 = .free → ∃ c, env.cells.lookup y.1 = some c) : closureFor scope env = pure (cloFrom env.cells scope.names []) := by
  simp only [closureFor]
  rw [closure_loop env _ (fun n k c => rfl) scope.names [] h]
  rfl

theorem mem_lookup {α : Type} : ∀ {l : List (Str × α)} {n : Str} {c : α}, (n, c) ∈ l → ∃ c', l.lookup n = some c'
  | (k, v) :: r, n, c, h => by
    rw [List.lookup_cons]
    cases hb : n == k with
    | true => exact ⟨_, rfl⟩
    | false =>
      rcases List.mem_cons.mp h with e | h
      · cases e; simp at hb
      · exact mem_lookup h

theorem cloFrom_mem {cells : List (Str × Addr)} : ∀ {names : List (Str × NameKind)} {acc : List (Str × Addr)} {n : Str} {c : Addr}, (n, c) ∈ cloFrom cells names acc → (n, c) ∈ acc ∨ ((n, .free) ∈ names ∧ c = (cells.lookup n).getD 0)
  | [], _, _, _, h => .inl h
  | (m, k) :: r, acc, n, c, h => by
    unfold cloFrom at h
    split at h
    · rename_i hk
      have hk : k = .free := by simpa using hk
      rcases cloFrom_mem h with h | ⟨h1, h2⟩
      · rcases List.mem_cons.mp h with e | h
        · cases e; exact .inr ⟨hk ▸ List.mem_cons_self, rfl⟩
        · exact .inl h
      · exact .inr ⟨List.mem_cons_of_mem _ h1, h2⟩
    · rcases cloFrom_mem h with h | ⟨h1, h2⟩
      · exact .inl h
      · exact .inr ⟨List.mem_cons_of_mem _ h1, h2⟩
theorem cloFrom_acc {cells : List (Str × Addr)} : ∀ {names : List (Str × NameKind)} {acc : List (Str × Addr)} {p : Str × Addr}, p ∈ acc → p ∈ cloFrom cells names acc
  | [], _, _, h => h
  | (m, k) :: r, acc, p, h => by
    unfold cloFrom
    split
    · exact cloFrom_acc (List.mem_cons_of_mem _ h)
    · exact cloFrom_acc h
theorem cloFrom_has {cells : List (Str × Addr)} : ∀ {names : List (Str × NameKind)} {acc : List (Str × Addr)} {n : Str}, (n, .free) ∈ names → (n, (cells.lookup n).getD 0) ∈ cloFrom cells names acc
  | (m, k) :: r, acc, n, h => by
    unfold cloFrom
    rcases List.mem_cons.mp h with e | h
    · cases e
      exact cloFrom_acc List.mem_cons_self
    · split
      · exact cloFrom_has h
      · exact cloFrom_has h

theorem cells_mem : ∀ {names : List (Str × NameKind)} {h : Heap} {acc : List (Str × Addr)} {x : Str} {c : Addr}, (x, c) ∈ cellsFrom h.objs.size names acc →
    (x, c) ∈ acc ∨ ((x, .cell) ∈ names ∧ h.objs.size ≤ c ∧ CellAt (pushCells h names) c none)
  | [], _, _, _, _, h => .inl h
  | (n, k) :: r, h, acc, x, c, hm => by
    unfold cellsFrom at hm
    unfold pushCells
    split at hm
    · rename_i hk
      rw [if_pos hk]
      have hk : k = .cell := by simpa using hk
      rw [← Heap.size_push h { cls := .type "cell", data := .cell none }] at hm
      rcases cells_mem hm with hm | ⟨h1, h2, h3⟩
      · rcases List.mem_cons.mp hm with e | hm
        · cases e
          exact .inr ⟨hk ▸ List.mem_cons_self, Nat.le_refl _, _, pushCells_keeps r _ _ _ (Heap.get?_push_size _ rfl), rfl⟩
        · exact .inl hm
      · rw [Heap.size_push] at h2
        exact .inr ⟨List.mem_cons_of_mem _ h1, Nat.le_of_succ_le h2, h3⟩
    · rename_i hk
      rw [if_neg hk]
      rcases cells_mem hm with hm | ⟨h1, h2, h3⟩
      · exact .inl hm
      · exact .inr ⟨List.mem_cons_of_mem _ h1, h2, h3⟩
theorem cells_acc : ∀ {names : List (Str × NameKind)} {n : Nat} {acc : List (Str × Addr)} {p : Str × Addr}, p ∈ acc → p ∈ cellsFrom n names acc
  | [], _, _, _, h => h
  | (m, k) :: r, n, acc, p, h => by
    unfold cellsFrom
    split
    · exact cells_acc (List.mem_cons_of_mem _ h)
    · exact cells_acc h
theorem cells_has : ∀ {names : List (Str × NameKind)} {n : Nat} {acc : List (Str × Addr)} {x : Str}, (x, .cell) ∈ names → ∃ c, (x, c) ∈ cellsFrom n names acc
  | (m, k) :: r, n, acc, x, h => by
    unfold cellsFrom
    rcases List.mem_cons.mp h with e | h
    · cases e
      exact ⟨n, cells_acc List.mem_cons_self⟩
    · split
      · exact cells_has h
      · exact cells_has h
theorem cells_inj : ∀ {names : List (Str × NameKind)} {h : Heap} {acc : List (Str × Addr)} {x y : Str} {c : Addr}, (∀ p ∈ acc, p.2 < h.objs.size) → (∀ x y c, (x, c) ∈ acc → (y, c) ∈ acc → x = y) →
    (x, c) ∈ cellsFrom h.objs.size names acc → (y, c) ∈ cellsFrom h.objs.size names acc → x = y
  | [], _, _, _, _, _, _, hi, h1, h2 => hi _ _ _ h1 h2
  | (n, k) :: r, h, acc, x, y, c, hl, hi, h1, h2 => by
    unfold cellsFrom at h1 h2
    split at h1
    · rename_i hk
      rw [if_pos hk] at h2
      rw [← Heap.size_push h { cls := .type "cell", data := .cell none }] at h1 h2
      refine cells_inj (h := h.push _) (fun p hp => ?_) (fun x y c a b => ?_) h1 h2
      · rw [Heap.size_push]
        rcases List.mem_cons.mp hp with rfl | hp
        · exact Nat.lt_succ_self _
        · exact Nat.lt_succ_of_lt (hl p hp)
      · rcases List.mem_cons.mp a with e | a <;> rcases List.mem_cons.mp b with e' | b
        · cases e; cases e'; rfl
        · cases e; exact absurd (hl _ b) (Nat.lt_irrefl _)
        · cases e'; exact absurd (hl _ a) (Nat.lt_irrefl _)
        · exact hi _ _ _ a b
    · rename_i hk
      rw [if_neg hk] at h2
      exact cells_inj hl hi h1 h2

theorem newEnv_comp {M : Model} {A : Around} {E : Value → Shared → Prop} {s : Shared} {scope : Scope} {globals : Addr} {closure : List (Str × Addr)} {qual : Str} {func : Option Addr} {code : Value} {around : Env} {builtins : Addr} {Q : Env → Shared → Prop}
    (h : Q (newEnv scope s.heap.objs.size globals (cellsFrom (s.heap.objs.size + 1) scope.names closure) qual func code (some around) builtins)
      { s with heap := pushCells (s.heap.push { cls := .type "dict", data := .dict #[] }) scope.names }) :
    wpAny M A (newFunctionEnv scope globals closure [] qual func code (some around) builtins) Q E s := by
  simp only [newFunctionEnv, Option.isSome_some, if_true]
  refine wpAny_bind (wpAny_alloc ?_)
  refine wpAny_bind (wpAny_layCells _ (fun n k c => rfl) scope.names closure _ _ ?_)
  rw [show ({ s with heap := s.heap.push { cls := .type "dict", data := .dict #[] } } : Shared).heap.objs.size = s.heap.objs.size + 1 from Heap.size_push ..]
  rw [List.forIn_nil]
  exact wpAny_bind (wpAny_pure (wpAny_pure h))

/-- every name of the written scope, in the scope that runs -/
theorem lookup_relS {sc : Scope} : ∀ {names : List (Str × NameKind)} {x : Str} {k : NameKind},
    (names.map fun (n, k) => if (k == NameKind.free && sc.kind == .function && sc.names.lookup n == some .cell) then (n, NameKind.cell) else (n, k)).lookup x = some k →
    ∃ k', names.lookup x = some k' ∧ (k = k' ∨ (k' = .free ∧ k = .cell))
  | [], _, _, h => by simp at h
  | (n, k₀) :: r, x, k, h => by
    have ih := @lookup_relS sc r x k
    have h' : List.lookup x ((if (k₀ == NameKind.free && sc.kind == .function && sc.names.lookup n == some .cell) = true then (n, NameKind.cell) else (n, k₀)) :: (r.map _)) = some k := h
    cases hx : x == n with
    | true =>
      simp only [List.lookup_cons, hx]
      by_cases hc : (k₀ == NameKind.free && sc.kind == .function && sc.names.lookup n == some .cell) = true
      · rw [if_pos hc] at h'
        simp only [List.lookup_cons, hx] at h'
        cases h'
        simp only [Bool.and_eq_true, beq_iff_eq] at hc
        exact ⟨k₀, rfl, .inr ⟨hc.1.1, rfl⟩⟩
      · rw [if_neg hc] at h'
        simp only [List.lookup_cons, hx] at h'
        cases h'
        exact ⟨_, rfl, .inl rfl⟩
    | false =>
      simp only [List.lookup_cons, hx]
      by_cases hc : (k₀ == NameKind.free && sc.kind == .function && sc.names.lookup n == some .cell) = true
      · rw [if_pos hc] at h'
        simp only [List.lookup_cons, hx] at h'
        exact ih h'
      · rw [if_neg hc] at h'
        simp only [List.lookup_cons, hx] at h'
        exact ih h'
/-- the names of a comprehension's block: its own (with their places in N), or captured -/
structure BlkOk (N : List Str) (sc scope : Scope) (own : List (Str × Nat)) : Prop where
  kind : scope.kind = .function
  uniq : ∀ y ∈ scope.names, scope.names.lookup y.1 = some y.2
  ix : ∀ p ∈ own, N[p.2]? = some p.1
  free : ∀ y ∈ scope.names, y.2 = .free → sc.names.lookup y.1 = some .cell ∨ sc.names.lookup y.1 = some .free
  own : ∀ y ∈ scope.names, y.2 = .local ∨ y.2 = .cell → y.1 ∈ own.map (·.1) ∨ y.1 ∉ N
/-- the slots of the block's own names forgotten -/
def wipe (σ : St) : List Nat → St
  | [] => σ
  | v :: vs => (wipe σ vs).set v none
theorem wipe_length (σ : St) : ∀ vs : List Nat, (wipe σ vs).length = σ.length
  | [] => rfl
  | v :: vs => by unfold wipe; rw [List.length_set, wipe_length σ vs]
theorem wipe_some {σ : St} {i : Nat} {x : V} : ∀ {vs : List Nat}, (wipe σ vs)[i]? = some (some x) → σ[i]? = some (some x) ∧ i ∉ vs
  | [], h => ⟨h, by simp⟩
  | v :: vs, h => by
    unfold wipe at h
    by_cases hi : v = i
    · subst hi
      by_cases hv : v < (wipe σ vs).length
      · rw [List.getElem?_set_self hv] at h; cases h
      · rw [List.getElem?_eq_none (by simpa using hv)] at h; cases h
    · rw [List.getElem?_set_ne hi] at h
      obtain ⟨h1, h2⟩ := wipe_some h
      exact ⟨h1, by simp only [List.mem_cons, not_or]; exact ⟨fun e => hi e.symm, h2⟩⟩

/-- the context of a block that starts at s, its iterator's objects at fp -/
abbrev Cx.blk (X : Cx) (s : Shared) (H : Hp) (scope : Scope) (cenv : Env) (fp : List Addr) : Cx := { X with s_0 := s, H_0 := H, env := cenv, outer := X.stack, ex := fp, fn := fun x => scope.names.lookup x == some .cell, pn := [], xe := fun _ _ => False }
section
variable {X : Cx} {pins : List (Addr × Obj)} {σ : St} {H : Hp} {s : Shared}
theorem block_start {scope : Scope} {own : List (Str × Nat)} {fp : List Addr} (I : Inv X pins σ H s) (ok : BlkOk X.N X.env.scope scope own) (hN : X.N.Nodup) (hfp : ∀ b ∈ fp, FpOk X pins H b ∧ b < s.heap.objs.size) :
    Inv (X.blk s H scope (compEnvC scope (cellsFrom (s.heap.objs.size + 1) scope.names (cloFrom X.env.cells scope.names [])) s.heap.objs.size X.env) fp) [] (wipe σ (own.map (·.2))) H { s with heap := pushCells (s.heap.push { cls := .type "dict", data := .dict #[] }) scope.names } := by
  have hfree : ∀ y ∈ scope.names, y.2 = .free → ∃ c, X.env.cells.lookup y.1 = some c := fun y hy e => by
    rcases ok.free y hy e with k | k
    · exact I.ok.has _ (.inl k)
    · exact I.ok.has _ (.inr k)
  generalize hcenv : compEnvC scope (cellsFrom (s.heap.objs.size + 1) scope.names (cloFrom X.env.cells scope.names [])) s.heap.objs.size X.env = cenv
  have kp : ∀ b o, s.heap.get? b = some o → (pushCells (s.heap.push { cls := .type "dict", data := .dict #[] }) scope.names).get? b = some o := fun b o e => pushCells_keeps _ _ _ _ (Heap.get?_push_of_some _ e)
  have hL : cenv.locals = s.heap.objs.size := by rw [← hcenv]; rfl
  have hcl : cenv.cells = cellsFrom (s.heap.objs.size + 1) scope.names (cloFrom X.env.cells scope.names []) := by rw [← hcenv]; rfl
  have hsc : cenv.scope = relS scope X.env.scope := by rw [← hcenv]; rfl
  rw [← Heap.size_push s.heap { cls := .type "dict", data := .dict #[] }] at hcl
  have cm : ∀ {y c}, (y, c) ∈ cloFrom X.env.cells scope.names [] → X.env.cells.lookup y = some c ∧ c < s.heap.objs.size := fun {y c} hm => by
    rcases cloFrom_mem hm with hm | ⟨h1, rfl⟩
    · cases hm
    · obtain ⟨c, hc⟩ := hfree _ h1 rfl
      rw [hc]
      obtain ⟨w, z⟩ := I.cell _ _ hc
      exact ⟨rfl, z.lt⟩
  have mem : ∀ {y c}, cenv.cells.lookup y = some c → (X.env.cells.lookup y = some c ∧ c < s.heap.objs.size) ∨ (s.heap.objs.size + 1 ≤ c ∧ CellAt (pushCells (s.heap.push { cls := .type "dict", data := .dict #[] }) scope.names) c none) := fun {y c} e => by
    rw [hcl] at e
    rcases cells_mem (PySem.mem_of_lookup e) with hm | ⟨_, h2, h3⟩
    · exact .inl (cm hm)
    · rw [Heap.size_push] at h2; exact .inr ⟨h2, h3⟩
  have look : ∀ {y}, scope.names.lookup y = some .free → ∃ c, cenv.cells.lookup y = some c ∧ X.env.cells.lookup y = some c := fun {y} hl => by
    have hy : (y, NameKind.free) ∈ scope.names := PySem.mem_of_lookup hl
    obtain ⟨c', e'⟩ := mem_lookup (cells_acc (names := scope.names) (n := (s.heap.push { cls := .type "dict", data := .dict #[] }).objs.size) (cloFrom_has (cells := X.env.cells) (acc := []) hy))
    rw [← hcl] at e'
    refine ⟨c', e', ?_⟩
    rw [hcl] at e'
    rcases cells_mem (PySem.mem_of_lookup e') with hm | ⟨h1, _, _⟩
    · exact (cm hm).1
    · have := ok.uniq _ h1
      rw [hl] at this; cases this
  have okB : (X.blk s H scope cenv fp).Ok := by
    refine ⟨I.ok.mod, by show cenv.scope.kind = _; rw [hsc]; exact ok.kind, by show cenv.globals = _; rw [← hcenv]; exact I.ok.glob, by show cenv.builtins = _; rw [← hcenv]; exact I.ok.blt, by show s.heap.objs.size ≤ cenv.locals; rw [hL]; exact Nat.le_refl _,
      fun y z c e1 e2 => ?_, fun y hy => ?_, fun y c z e => ?_, I.ok.hd, I.ok.frames, .inl rfl, fun b hb => ⟨?_, fun y c e z => ?_⟩, I.bs, Nat.le_trans I.ok.bsz I.sz, fun b o e hb => ?_, fun b hb z => ?_, I.stack, I.stkFree⟩
    · have e1 : cenv.cells.lookup y = some c := e1
      have e2 : cenv.cells.lookup z = some c := e2
      rw [hcl] at e1 e2
      refine cells_inj (fun p hp => ?_) (fun y z c a b => I.ok.inj y z c (cm a).1 (cm b).1) (PySem.mem_of_lookup e1) (PySem.mem_of_lookup e2)
      rw [Heap.size_push]
      exact Nat.lt_succ_of_lt (cm (y := p.1) (c := p.2) hp).2
    · show ∃ c, cenv.cells.lookup y = some c
      have key : ∀ k, cenv.kindOf y = some k → (k = .cell ∨ k = .free) → ∃ c, cenv.cells.lookup y = some c := fun k hk hk' => by
        unfold Env.kindOf at hk
        rw [hsc] at hk
        obtain ⟨k', e, r⟩ := lookup_relS hk
        have : k' = .cell ∨ k' = .free := by
          rcases r with rfl | ⟨rfl, _⟩
          · exact hk'
          · exact .inr rfl
        rcases this with rfl | rfl
        · obtain ⟨c, hm⟩ := cells_has (n := (s.heap.push { cls := .type "dict", data := .dict #[] }).objs.size) (acc := cloFrom X.env.cells scope.names []) (PySem.mem_of_lookup e)
          obtain ⟨c', e'⟩ := mem_lookup hm
          exact ⟨c', by rw [hcl]; exact e'⟩
        · obtain ⟨c, h1, _⟩ := look e
          exact ⟨c, h1⟩
      rcases hy with hy | hy
      · exact key _ hy (.inl rfl)
      · exact key _ hy (.inr rfl)
    · have z : (scope.names.lookup y == some NameKind.cell) = true := z
      have z : scope.names.lookup y = some .cell := by simpa using z
      have e : cenv.cells.lookup y = some c := e
      rw [hcl] at e
      rcases cells_mem (PySem.mem_of_lookup e) with hm | ⟨_, h2, _⟩
      · rcases cloFrom_mem hm with hm | ⟨h1, _⟩
        · cases hm
        · have q := ok.uniq _ h1
          rw [z] at q; cases q
      · rw [Heap.size_push] at h2
        exact Nat.le_of_succ_le h2
    · show b ≠ cenv.locals
      rw [hL]; exact Nat.ne_of_lt (hfp b hb).2
    · have e : cenv.cells.lookup y = some c := e
      rcases mem e with ⟨h1, _⟩ | ⟨h1, _⟩
      · exact (hfp b hb).1.2.2.2.2.1 y c h1 z
      · have h2 : s.heap.objs.size + 1 ≤ b := by rw [← z]; exact h1
        exact absurd (Nat.lt_of_lt_of_le (hfp b hb).2 (Nat.le_of_succ_le h2)) (Nat.lt_irrefl _)
    · rcases (hfp b hb).1.2.2.2.1 with z | z
      · exact I.ok.noex b o e z
      · exact absurd (Nat.lt_of_lt_of_le (Heap.lt_size e) (Nat.le_trans I.ok.bsz z)) (Nat.lt_irrefl _)
    · rcases List.mem_cons.mp (I.stkSub b z) with z | z
      · exact (hfp b hb).1.2.1 z
      · exact (hfp b hb).1.2.2.1 z
  refine ⟨okB, rfl, I.bare, Un.kept kp, ⟨fun _ => none, ?_, fun i y av e1 e2 e3 => ?_⟩, fun y c e => ?_, ?_, fun y c e => ?_, fun p hp => ?_, I.hok.kept kp, by rw [wipe_length]; exact I.len⟩
  · show Heap.Ns _ cenv.locals _
    rw [hL]
    exact Heap.Ns.keeps (Heap.Ns.new ..) fun b o e => pushCells_keeps _ _ _ _ e
  · obtain ⟨e2, hne⟩ := wipe_some e2
    have hfr : scope.names.lookup y = some .free ∧ (cenv.kindOf y = some .cell ∨ cenv.kindOf y = some .free) := by
      have key : ∀ k, cenv.scope.names.lookup y = some k → k = .local ∨ k = .cell ∨ k = .free → scope.names.lookup y = some .free ∧ (cenv.kindOf y = some .cell ∨ cenv.kindOf y = some .free) := fun k hk hk' => by
        have hk0 := hk
        rw [hsc] at hk
        obtain ⟨k', e, r⟩ := lookup_relS hk
        have no : ¬ (k' = .local ∨ k' = .cell) := fun hh => by
          rcases ok.own _ (PySem.mem_of_lookup e) hh with e' | e'
          · obtain ⟨p, hp, hpy⟩ := List.mem_map.mp e'
            have e3 := ok.ix p hp
            have : p.1 = y := hpy
            rw [this] at e3
            exact hne (List.mem_map.mpr ⟨p, hp, nodup_ix hN e3 e1⟩)
          · exact e' (List.mem_of_getElem? e1)
        rcases r with rfl | ⟨rfl, rfl⟩
        · rcases hk' with rfl | rfl | rfl
          · exact absurd (.inl rfl) no
          · exact absurd (.inr rfl) no
          · exact ⟨e, .inr hk0⟩
        · exact ⟨e, .inl hk0⟩
      have e3 : Vis cenv.scope y := e3
      rcases e3 with e3 | e3 | e3
      · exact key _ e3 (.inl rfl)
      · exact key _ e3 (.inr (.inl rfl))
      · exact key _ e3 (.inr (.inr rfl))
    obtain ⟨m, hn, hl⟩ := I.loc
    have hvis : Vis X.env.scope y := (ok.free _ (PySem.mem_of_lookup hfr.1) rfl).elim (fun k => .inr (.inl k)) (fun k => .inr (.inr k))
    obtain ⟨w, r, q⟩ := hl i y av e1 e2 hvis
    refine ⟨w, r, .inr ⟨hfr.2, ?_⟩⟩
    obtain ⟨c, h1, h2⟩ := look hfr.1
    rcases q with ⟨k, _⟩ | ⟨_, c', e', z⟩
    · have k : X.env.scope.names.lookup y = some .local := k
      rcases ok.free _ (PySem.mem_of_lookup hfr.1) rfl with k' | k' <;> rw [show X.env.scope.names.lookup y = _ from k'] at k <;> cases k
    · rw [h2] at e'; cases e'
      exact ⟨c, h1, z.keeps kp⟩
  · have e : cenv.cells.lookup y = some c := e
    rcases mem e with ⟨h1, _⟩ | ⟨_, z⟩
    · obtain ⟨w, z⟩ := I.cell y c h1
      exact ⟨w, z.keeps kp⟩
    · exact ⟨_, z⟩
  · show H cenv.locals = none
    rw [hL]; exact I.hok.fresh (Nat.le_refl _)
  · have e : cenv.cells.lookup y = some c := e
    rcases mem e with ⟨h1, _⟩ | ⟨h1, _⟩
    · exact I.freeC y c h1
    · exact I.hok.fresh (Nat.le_of_succ_le h1)
  · exact absurd (show p ∈ ([] : List (Addr × Obj)) ++ [] from hp) (by simp)

/-- an item appended to a tracked list -/
theorem app_ok {E : Value → Shared → Prop} {D : Addr} {xs : List V} {y : V} {v : Value} {Q : Value → Shared → Prop} (I : Inv X pins σ H s) (hD : H D = some (.lst xs)) (hz : xs.length < sizeLine) (r : RelV y v)
    (h : ∀ s', Inv X pins σ (upd H D (.lst (xs ++ [y]))) s' → Q .none s') : wpAny (model X.prog X.w) X.A (call (.builtin "list.append") [.ref D, v]) Q E s := by
  obtain ⟨hz', its, n, ri, e⟩ := I.hok D _ hD
  have hl := ri.length
  refine append_at (hsz := by rw [List.size_toArray]; omega) e fun h' sb ho' => ?_
  refine h { s with heap := h' } (I.write (t' := s.toks) (by rw [hD]; trivial) (.inl rfl) (fun b u hb q => (sb.2 b hb).trans q) ⟨_, ho'⟩ ⟨by rw [List.length_append]; exact hz, its ++ [v], n + 1, ri.append (.cons r .nil), ?_⟩)
  rw [ho']
  simp

/-- a clause's tests -/
def PTs (X : Cx) (ifs : List Expr) (t : TT) : Prop :=
  ∀ (pins : List (Addr × Obj)) (s : Shared) (σ : St) (H : Hp) (Q : Bool → Hp → Prop), Inv X pins σ H s → t σ H Q →
    wpAny (model X.prog X.w) X.A (forIn ifs true fun c r => if r = true then do let ok ← isTrue c X.env (eval c X.env); pure (ForInStep.yield ok) else pure (ForInStep.yield r)) (TP X pins σ Q) X.xe s
def tYes : TT := fun _ H Q => Q true H
theorem pts_nil : PTs X [] tYes := fun _ _ _ H _ I h => wpAny_tests_nil ⟨H, I, h⟩
end

theorem thnF {α : Type} {t : Sem α} {Q Q' : α → Shared → Prop} {M : Model} {A : Around} {E : Value → Shared → Prop} {s : Shared} (h : wpAny M A t Q (fun _ _ => False) s) (hQ : ∀ a s, Q a s → Q' a s) : wpAny M A t Q' E s := wpAny_mono h hQ fun _ _ z => False.elim z

/-- the loop of a list comprehension's block, the target of any form (codeAny_compLoop_tests asks a target that no tuple goes to; statement and proof follow it, PyProof/CompMap.lean:41-61, with the step letOwnedTupleGo kept) -/
theorem compLoop_any {prog : Program} {w : World} {A : Around} {R : Result → Shared → Prop} {s : Shared} {elt target iter : Expr} {ifs : List Expr} {scope : Scope} {pos : Pos} {it acc : Value} {env : Env} (I : Nat → Shared → Prop)
    (turn : ∀ n s, I n s → wpAny (model prog w) A (pyNext it) (fun r s₁ => match r with
      | none => R (.ok .next) s₁
      | some v => wpAny (model prog w) A (letOwnedTupleGo target it v) (fun _ s₁' => wpAny (model prog w) A (assign target env v) (fun _ s₂ =>
          wpAny (model prog w) A (forIn ifs true fun c r => if r = true then do let ok ← isTrue c env (eval c env); pure (ForInStep.yield ok) else pure (ForInStep.yield r)) (fun ok s₃ =>
            if ok = true then wpAny (model prog w) A (eval elt env) (fun x s₄ =>
              wpAny (model prog w) A (call (.builtin "list.append") [acc, x]) (fun _ s₅ => ∃ m, m < n ∧ I m s₅) (notedBy (model prog w) A env fun e s' => R (.error e) s') s₄) (notedBy (model prog w) A env fun e s' => R (.error e) s') s₃
            else ∃ m, m < n ∧ I m s₃) (notedBy (model prog w) A env fun e s' => R (.error e) s') s₂) (notedBy (model prog w) A env fun e s' => R (.error e) s') s₁') (notedBy (model prog w) A env fun e s' => R (.error e) s') s₁) (notedBy (model prog w) A env fun e s' => R (.error e) s') s)
    (n : Nat) (h : I n s) :
    codeAny (model prog w) A (.compLoop (.ListComp elt [⟨target, iter, ifs, 0⟩] scope pos) 0 it acc env) R s := by
  refine codeAny_loop rfl I (fun n s hI => ?_) n h
  show wpAny _ A ((compTurn (.ListComp elt [⟨target, iter, ifs, 0⟩] scope pos) 0 it acc env).onRaise (fun x => do noteFrame x env; theTreesLotGoes x)) _ _ s
  refine wpAny_noted ?_
  rw [compTurn_list]
  refine wpAny_bind (wpAny_standAt (wpAny_bind (wpAny_mono (turn n s hI) (fun r s₁ h₁ => ?_) fun _ _ h' => h')))
  cases r with
  | none => exact wpAny_pure h₁
  | some v =>
    refine wpAny_bind (wpAny_mono h₁ (fun _ s₁' h₁' => ?_) fun _ _ h' => h')
    refine wpAny_bind (wpAny_mono h₁' (fun _ s₂ h₂ => wpAny_bind (wpAny_mono h₂ (fun ok s₃ h₃ => ?_) fun _ _ h' => h')) fun _ _ h' => h')
    cases ok with
    | false => exact wpAny_pure ⟨rfl, h₃⟩
    | true =>
      exact wpAny_bind (wpAny_bind (wpAny_mono h₃ (fun x s₄ h₄ => wpAny_bind (wpAny_mono h₄ (fun _ s₅ h₅ => wpAny_pure (wpAny_pure ⟨rfl, h₅⟩)) fun _ _ h' => h')) fun _ _ h' => h'))

section
variable {X : Cx}
/-- [elt for target in iter if ..]: D the new list; W by the turn and a measure, Nx what a turn is to reach -/
def tLc (wi : TI) (g : TG) (tt : TT) (te : TE) (vs : List Nat) : TE := fun σ H Q => wi σ H fun J H1 => ∀ D, H1 D = none → ∃ W : Nat → Nat → Hp → Prop, (∃ m, W 0 m (upd H1 D (.lst []))) ∧ ∀ i m H, W i m H →
  (J.stop i H ∧ Q (.ref D) H) ∨ (J.go i H ∧ ∃ Nx : Hp → Prop, (∀ H', Nx H' → ∃ m', m' < m ∧ W (i + 1) m' H') ∧ ∀ x H', J.yld i H x H' → g x (wipe σ vs) H' fun σ2 H2 => wipe σ2 vs = wipe σ vs ∧ tt σ2 H2 fun b H3 =>
    if b = true then te σ2 H3 fun y H4 => ∃ acc, H4 D = some (.lst acc) ∧ acc.length < sizeLine ∧ Nx (upd H4 D (.lst (acc ++ [y]))) else Nx H3)
theorem lc_core {pins : List (Addr × Obj)} {s : Shared} {σ : St} {H : Hp} {Q : VK} {elt tg iter : Expr} {ifs : List Expr} {scope : Scope} {own : List (Str × Nat)} {pos pos' : Pos} {wi : TI} {g : TG} {tt : TT} {te : TE} {use : Option (Value → Sem Unit)} {Qf : Value → Shared → Prop}
    (hc : X.calm = true) (hN : X.N.Nodup) (I : Inv X pins σ H s) (hi : PI X tg iter wi) (ok : BlkOk X.N X.env.scope scope own)
    (hg : ∀ (s : Shared) (H : Hp) (C : Addr) (cl : List (Str × Addr)) (fp : List Addr), PG (X.blk s H scope (compEnvC scope cl C X.env) fp) tg g) (ht : ∀ (s : Shared) (H : Hp) (C : Addr) (cl : List (Str × Addr)) (fp : List Addr), PTs (X.blk s H scope (compEnvC scope cl C X.env) fp) ifs tt)
    (he : ∀ (s : Shared) (H : Hp) (C : Addr) (cl : List (Str × Addr)) (fp : List Addr), PE (X.blk s H scope (compEnvC scope cl C X.env) fp) elt te) (hs : ∀ x, foldedSetIterable iter X.env x = pure x)
    (h : tLc wi g tt te (own.map (·.2)) σ H Q)
    (hRR : ∀ D C s' m H', Inv X pins σ H' s' → Q (.ref D) H' → s'.heap.Ns C m → FpOk X pins H' C → compPost (model X.prog X.w) X.A X.xe use Qf (.ref D) C (.ok .next) s') :
    wpAny (model X.prog X.w) X.A (comprehension (.ListComp elt [⟨tg, iter, ifs, 0⟩] scope pos) scope X.env pos' (newList []) false (eval iter X.env) use) Qf X.xe s := by
  have hfree : ∀ y ∈ scope.names, y.2 = .free → ∃ c, X.env.cells.lookup y.1 = some c := fun y hy e => by
    rcases ok.free y hy e with k | k
    · exact I.ok.has _ (.inl k)
    · exact I.ok.has _ (.inr k)
  refine wpAny_comprehension_free (use := use) rfl hs (closure_ok hfree) ok.kind (fun y hy e => by rw [ok.uniq y hy, e])
    (thn (hi pins s σ H _ I h) fun xv s1 hx => thn hx fun itv s2 h2 => ?_)
  obtain ⟨it, fp, tn, J, H2, e, I2, T, st2, f2, q⟩ := h2
  subst e
  refine wpAny_newObj_type (newEnv_comp ?_) (by show 0 ≤ sizeLine; decide)
  generalize hD : s2.heap.objs.size = D
  have hDn : H2 D = none := I2.hok.fresh (Nat.le_of_eq hD)
  obtain ⟨W, ⟨m0, w0⟩, turn⟩ := q D hDn
  -- the new list
  generalize hs3 : ({ s2 with heap := s2.heap.push { cls := .type "list", data := .seq ([] : List Value).toArray } } : Shared) = s3
  have I3 : Inv X pins σ (upd H2 D (.lst [])) s3 := by
    rw [← hs3]
    refine I2.laid (t' := s2.toks) (fun b o e => Heap.get?_push_of_some _ e) (Nat.le_of_eq hD) ⟨Nat.zero_le _, [], 0, .nil, ?_⟩
    rw [← hD]
    exact Heap.get?_push_size _ rfl
  have h3 : s3.heap = s2.heap.push { cls := .type "list", data := .seq ([] : List Value).toArray } := by rw [← hs3]
  have sz : ∀ b ∈ fp, b < s2.heap.objs.size := fun b hb => by
    obtain ⟨o, e, _⟩ := T.obj _ _ st2 b hb
    exact Heap.lt_size e
  have f3 : ∀ b ∈ fp, FpOk X pins (upd H2 D (.lst [])) b ∧ b < s3.heap.objs.size := fun b hb => by
    have hlt := sz b hb
    refine ⟨⟨?_, (f2 b hb).2⟩, by rw [h3, Heap.size_push]; exact Nat.lt_succ_of_lt hlt⟩
    rw [upd_ne (by rw [← hD]; exact Nat.ne_of_lt hlt)]
    exact (f2 b hb).1
  have st3 : tn 0 s3.heap := T.keep _ _ _ st2 fun b _ o e => by rw [h3]; exact Heap.get?_push_of_some _ e
  have I4 := block_start I3 ok hN f3
  have pg := hg s3 (upd H2 D (.lst [])) s3.heap.objs.size (cellsFrom (s3.heap.objs.size + 1) scope.names (cloFrom X.env.cells scope.names [])) fp
  have pt := ht s3 (upd H2 D (.lst [])) s3.heap.objs.size (cellsFrom (s3.heap.objs.size + 1) scope.names (cloFrom X.env.cells scope.names [])) fp
  have pe := he s3 (upd H2 D (.lst [])) s3.heap.objs.size (cellsFrom (s3.heap.objs.size + 1) scope.names (cloFrom X.env.cells scope.names [])) fp
  show codeAny _ _ (.compStart (.ListComp elt [⟨tg, iter, ifs, 0⟩] scope pos) 0 (.ref it) (.ref D) (compEnvC scope (cellsFrom (s3.heap.objs.size + 1) scope.names (cloFrom X.env.cells scope.names [])) s3.heap.objs.size X.env)) (compPost (model X.prog X.w) X.A X.xe use Qf (.ref D) s3.heap.objs.size) { s3 with heap := pushCells (s3.heap.push { cls := .type "dict", data := .dict #[] }) scope.names }
  have nfp : ∀ b ∈ fp, (upd H2 D (.lst [])) b = none := fun b hb => (f3 b hb).1.1
  generalize hce : compEnvC scope (cellsFrom (s3.heap.objs.size + 1) scope.names (cloFrom X.env.cells scope.names [])) s3.heap.objs.size X.env = ce at I4 pg pt pe ⊢
  have cL : ce.locals = s3.heap.objs.size := by subst hce; rfl
  generalize hH3 : upd H2 D (.lst []) = H3 at I3 I4 pg pt pe w0 nfp f3
  generalize hs4 : ({ s3 with heap := pushCells (s3.heap.push { cls := .type "dict", data := .dict #[] }) scope.names } : Shared) = s4 at I4 ⊢
  have st4 : tn 0 s4.heap := T.keep _ _ _ st3 fun b _ o e => by rw [← hs4]; exact pushCells_keeps _ _ _ _ (Heap.get?_push_of_some _ e)
  have stat : ∀ {σ' : St} {H' : Hp} {s' : Shared}, Inv (X.blk s3 H3 scope ce fp) [] σ' H' s' → (∀ b ∈ fp, H' b = none) → ∀ b ∈ fp, FpOk (X.blk s3 H3 scope ce fp) [] H' b := fun {σ' H' s'} I' hn b hb =>
    ⟨hn b hb, (I'.ok.exf b hb).1, I'.ok.exfs b hb, .inl hb, fun x c e => (I'.ok.exf b hb).2 x c e, fun p hp => absurd (show p ∈ ([] : List (Addr × Obj)) ++ [] from hp) (by simp)⟩
  have loop : codeAny (model X.prog X.w) X.A (.compLoop (.ListComp elt [⟨tg, iter, ifs, 0⟩] scope pos) 0 (.ref it) (.ref D) ce) (compPost (model X.prog X.w) X.A X.xe use Qf (.ref D) s3.heap.objs.size) s4 := by
    refine compLoop_any (fun n s' => ∃ i H', Inv (X.blk s3 H3 scope ce fp) [] (wipe σ (own.map (·.2))) H' s' ∧ tn i s'.heap ∧ (∀ b ∈ fp, H' b = none) ∧ W i n H') ?_ m0 ⟨0, H3, I4, st4, nfp, w0⟩
    rintro n s5 ⟨i, H5, I5, st5, n5, w5⟩
    rcases turn i n H5 w5 with ⟨stop, qq⟩ | ⟨go, Nx, hNx, step⟩
    · have td := T.done (X.blk s3 H3 scope ce fp) rfl rfl rfl hc i [] s5 _ H5 (fun _ _ => False) I5 (stat I5 n5) st5 stop
      refine thnF td fun r s6 ⟨hr, I6⟩ => ?_
      subst hr
      -- back in the def's context
      have I7 : Inv X pins σ H5 s6 := I3.call' (ch := fp) I6.os I6.base I6.hok I6.bare fun b hb => ⟨(f3 b hb).1.2.2.2.1, (f3 b hb).1.2.1, (f3 b hb).1.2.2.2.2.1, (f3 b hb).1.2.2.2.2.2⟩
      have nC : H5 s3.heap.objs.size = none := by
        have z : H5 ce.locals = none := I6.free
        rw [cL] at z
        exact z
      obtain ⟨m, hn, _⟩ := I6.loc
      have hn : s6.heap.Ns ce.locals m := hn
      rw [cL] at hn
      exact hRR D s3.heap.objs.size s6 m H5 I7 qq hn (I3.fpOk (Nat.le_refl _) nC)
    · have ti := T.item (X.blk s3 H3 scope ce fp) rfl rfl rfl hc i [] s5 _ H5 (fun _ _ => False) I5 (stat I5 n5) st5 go
      refine thnF ti fun r s6 ⟨u, hr, h6⟩ => ?_
      subst hr
      refine thnF h6 fun _ s7 ⟨x, H7, I7, r7, y7, st7, n7⟩ => ?_
      have I7' := I7.pinned (stat I7 n7) (T.obj _ _ st7)
      refine thnF (pg _ s7 _ H7 x u _ I7' r7 (step x H7 y7)) fun _ s8 ⟨σ8, H8, I8, hw8, q8⟩ => ?_
      refine thnF (pt _ s8 σ8 H8 _ I8 q8) fun b s9 ⟨H9, I9, q9⟩ => ?_
      -- the turn's end
      have fin : ∀ {s' : Shared} {H' : Hp}, Inv (X.blk s3 H3 scope ce fp) ([] ++ pinsAt fp s7.heap) σ8 H' s' → Nx H' → ∃ m, m < n ∧ ∃ i H', Inv (X.blk s3 H3 scope ce fp) [] (wipe σ (own.map (·.2))) H' s' ∧ tn i s'.heap ∧ (∀ b ∈ fp, H' b = none) ∧ W i m H' := fun {s' H'} I' nx => by
        obtain ⟨m', hm, w'⟩ := hNx H' nx
        have pin' : ∀ b ∈ fp, ∀ o, s7.heap.get? b = some o → s'.heap.get? b = some o ∧ H' b = none := fun b hb o e =>
          let z := I'.pin (b, o) (List.mem_append_right _ (List.mem_append_right _ (mem_pinsAt hb e)))
          ⟨z.1, z.2.1⟩
        have hl : (wipe σ (own.map (·.2))).length = σ8.length := by rw [← hw8, wipe_length]
        refine ⟨m', hm, i + 1, H', (I'.unpinned (pins := [])).weak hl (fun j v e => ?_), T.keep _ _ _ st7 fun b hb o e => (pin' b hb o e).1, fun b hb => ?_, w'⟩
        · rw [← hw8] at e
          exact (wipe_some e).1
        · obtain ⟨o, e, _⟩ := T.obj _ _ st7 b hb
          exact (pin' b hb o e).2
      cases b with
      | false =>
        simp only [Bool.false_eq_true, if_false] at q9 ⊢
        exact fin I9 q9
      | true =>
        simp only [if_true] at q9 ⊢
        refine thnF (pe _ s9 σ8 H9 _ I9 q9) fun z s10 ⟨yv, H10, I10, r10, acc, hD10, hz10, nx⟩ => ?_
        exact app_ok (X := X.blk s3 H3 scope ce fp) I10 hD10 hz10 r10 fun s11 I11 => fin I11 nx
  exact codeAny_compStart_list loop (T.self X.A 0 _ _ _ st4 loop)
/-- as a value -/
theorem pe_lc {elt tg iter : Expr} {ifs : List Expr} {scope : Scope} {own : List (Str × Nat)} {pos : Pos} {wi : TI} {g : TG} {tt : TT} {te : TE} (hc : X.calm = true) (hN : X.N.Nodup) (hi : PI X tg iter wi) (ok : BlkOk X.N X.env.scope scope own)
    (hg : ∀ (s : Shared) (H : Hp) (C : Addr) (cl : List (Str × Addr)) (fp : List Addr), PG (X.blk s H scope (compEnvC scope cl C X.env) fp) tg g) (ht : ∀ (s : Shared) (H : Hp) (C : Addr) (cl : List (Str × Addr)) (fp : List Addr), PTs (X.blk s H scope (compEnvC scope cl C X.env) fp) ifs tt)
    (he : ∀ (s : Shared) (H : Hp) (C : Addr) (cl : List (Str × Addr)) (fp : List Addr), PE (X.blk s H scope (compEnvC scope cl C X.env) fp) elt te) (hs : ∀ x, foldedSetIterable iter X.env x = pure x := by intro _; rfl) :
    PE X (.ListComp elt [⟨tg, iter, ifs, 0⟩] scope pos) (tLc wi g tt te (own.map (·.2))) := by
  intro pins s σ H Q I h
  rw [eval_ListComp]
  refine lc_core hc hN I hi ok hg ht he hs h fun D C s' m H' I' q hn f => ⟨m, hn, fun h'' sb => ?_⟩
  obtain ⟨f0, f1, f2, f3, f4, f5⟩ := f
  exact ⟨.ref D, H', I'.turned (t' := s'.toks) (fun b o hb e => (sb.2 b hb).trans e) f0 f1 f3 f4 f5, rfl, q⟩
end

/-! ### the forms one uses -/
def blkC (N : List Str) (sc scope : Scope) (own : List (Str × Nat)) : Bool :=
  (match scope.kind with | .function => true | _ => false) && (scope.names.all fun y => decide (scope.names.lookup y.1 = some y.2)) && (own.all fun p => decide (N[p.2]? = some p.1)) &&
    (scope.names.all fun y => match y.2 with
      | .free => (match sc.names.lookup y.1 with | some .cell => true | some .free => true | _ => false)
      | .local => decide (y.1 ∈ own.map (·.1)) || decide (y.1 ∉ N)
      | .cell => decide (y.1 ∈ own.map (·.1)) || decide (y.1 ∉ N)
      | _ => true)
end L2

namespace L2
open PySem PySem.Spec PyProof.Rows

section
variable {prog : Program} {w : World} {A : Around} {R : Result → Shared → Prop} {s : Shared} {elt t0 i0 t1 i1 : Expr} {ifs0 ifs1 : List Expr} {scope : Scope} {pos : Pos} {it acc : Value} {env : Env}
end

section
variable {X : Cx}
/-- [elt for tg in iter if .. for tg1 in iter1 if ..]: behind the first clause's store and tests the second source's own loop, from which Nx is reached. vs: the block's names; vs1: those of the second target -/
def tLc2 (wi : TI) (g : TG) (tt : TT) (wi1 : TI) (g1 : TG) (tt1 : TT) (te : TE) (vs vs1 : List Nat) : TE := fun σ H Q => wi σ H fun J H1 => ∀ D, H1 D = none → ∃ W : Nat → Nat → Hp → Prop, (∃ m, W 0 m (upd H1 D (.lst []))) ∧ ∀ i m H, W i m H →
  (J.stop i H ∧ Q (.ref D) H) ∨ (J.go i H ∧ ∃ Nx : Hp → Prop, (∀ H', Nx H' → ∃ m', m' < m ∧ W (i + 1) m' H') ∧ ∀ x H', J.yld i H x H' → g x (wipe σ vs) H' fun σ2 H2 => wipe σ2 vs = wipe σ vs ∧ tt σ2 H2 fun b H3 =>
    if b = true then wi1 σ2 H3 fun J1 H4 => ∃ W1 : Nat → Nat → Hp → Prop, (∃ m, W1 0 m H4) ∧ ∀ j k H, W1 j k H →
      (J1.stop j H ∧ Nx H) ∨ (J1.go j H ∧ ∃ Nx1 : Hp → Prop, (∀ H', Nx1 H' → ∃ k', k' < k ∧ W1 (j + 1) k' H') ∧ ∀ x H', J1.yld j H x H' → g1 x (wipe σ2 vs1) H' fun σ3 H5 => wipe σ3 vs1 = wipe σ2 vs1 ∧ tt1 σ3 H5 fun b H6 =>
        if b = true then te σ3 H6 fun y H7 => ∃ acc, H7 D = some (.lst acc) ∧ acc.length < sizeLine ∧ Nx1 (upd H7 D (.lst (acc ++ [y]))) else Nx1 H6)
    else Nx H3)
end
end L2

namespace L2
open PySem PySem.Spec PyProof.Rows

/-! ### lists of pairs as tables -/
section
variable {κ : Type} [DecidableEq κ]
def valV (kvs : List (κ × V)) (k : κ) : Option V := (kvs.find? fun kv => decide (kv.1 = k)).map (·.2)
/-- in its place, or at the end -/
def putK (kvs : List (κ × V)) (k : κ) (v : V) : List (κ × V) :=
  if (kvs.any fun kv => decide (kv.1 = k)) = true then kvs.map (fun kv => if kv.1 = k then (kv.1, v) else kv) else kvs ++ [(k, v)]
def dropK (kvs : List (κ × V)) (k : κ) : List (κ × V) := kvs.filter fun kv => decide (kv.1 ≠ k)

theorem valV_pos {p : κ × V} {r : List (κ × V)} {k : κ} (e : p.1 = k) : valV (p :: r) k = some p.2 := by simp [valV, List.find?_cons, e]
theorem valV_neg {p : κ × V} {r : List (κ × V)} {k : κ} (e : ¬ p.1 = k) : valV (p :: r) k = valV r k := by simp [valV, List.find?_cons, e]
theorem valV_any (k : κ) : ∀ kvs : List (κ × V), (kvs.any fun kv => decide (kv.1 = k)) = (valV kvs k).isSome
  | [] => rfl
  | p :: r => by
    rw [List.any_cons]
    by_cases e : p.1 = k
    · simp only [valV_pos e, decide_eq_true e, Bool.true_or, Option.isSome_some]
    · rw [valV_neg e, decide_eq_false e, Bool.false_or]; exact valV_any k r
theorem valV_map (k j : κ) (y : V) : ∀ kvs : List (κ × V), valV (kvs.map fun kv => if kv.1 = k then (kv.1, y) else kv) j = (valV kvs j).map fun x => if j = k then y else x
  | [] => rfl
  | p :: r => by
    have ih := valV_map k j y r
    rw [List.map_cons]
    by_cases h : p.1 = k
    · rw [if_pos h]
      by_cases e : p.1 = j
      · rw [valV_pos (p := (p.1, y)) e, valV_pos e, Option.map_some, if_pos (e.symm.trans h)]
      · rw [valV_neg (p := (p.1, y)) e, valV_neg e, ih]
    · rw [if_neg h]
      by_cases e : p.1 = j
      · rw [valV_pos (p := p) e, valV_pos e, Option.map_some, if_neg (fun z => h (e.trans z))]
      · rw [valV_neg (p := p) e, valV_neg e, ih]
theorem valV_snoc (k j : κ) (y : V) : ∀ kvs : List (κ × V), valV kvs k = none → valV (kvs ++ [(k, y)]) j = if j = k then some y else valV kvs j
  | [], _ => by
    by_cases e : k = j
    · rw [if_pos e.symm]; exact valV_pos (p := (k, y)) e
    · rw [if_neg (fun z => e z.symm)]; exact valV_neg (p := (k, y)) e
  | p :: r, hn => by
    rw [List.cons_append]
    have hk : ¬ p.1 = k := fun z => by rw [valV_pos z] at hn; cases hn
    rw [valV_neg hk] at hn
    have ih := valV_snoc k j y r hn
    by_cases e : p.1 = j
    · rw [valV_pos e, valV_pos e, if_neg (fun z => hk (e.trans z))]
    · rw [valV_neg e, valV_neg e, ih]
theorem valV_put (kvs : List (κ × V)) (k j : κ) (y : V) : valV (putK kvs k y) j = if j = k then some y else valV kvs j := by
  unfold putK
  by_cases a : (kvs.any fun kv => decide (kv.1 = k)) = true
  · rw [if_pos a, valV_map]
    rw [valV_any] at a
    by_cases e : j = k
    · obtain ⟨x, hx⟩ := Option.isSome_iff_exists.mp a
      rw [if_pos e, e, hx, Option.map_some, if_pos rfl]
    · rw [if_neg e]
      cases valV kvs j with
      | none => rfl
      | some x => rw [Option.map_some, if_neg e]
  · rw [if_neg a]
    refine valV_snoc k j y kvs ?_
    rw [valV_any] at a
    cases q : valV kvs k with
    | none => rfl
    | some x => rw [q] at a; exact (a rfl).elim
theorem length_putK (kvs : List (κ × V)) (k : κ) (v : V) : (putK kvs k v).length ≤ kvs.length + 1 := by
  unfold putK
  split
  · rw [List.length_map]; omega
  · rw [List.length_append, List.length_cons, List.length_nil]; omega
theorem RelO.isSome_eq {o : Option V} {u : Option Value} (r : RelO o u) : o.isSome = u.isSome := by
  cases o with
  | none => cases u with
    | none => rfl
    | some _ => exact (show False from r).elim
  | some _ => cases u with
    | none => exact (show False from r).elim
    | some _ => rfl
theorem RelO.getD {o : Option V} {u : Option Value} {d : V} {d' : Value} (r : RelO o u) (rd : RelV d d') : RelV (o.getD d) (u.getD d') := by
  cases o with
  | none => cases u with
    | none => exact rd
    | some _ => exact (show False from r).elim
  | some _ => cases u with
    | none => exact (show False from r).elim
    | some _ => exact r

/-- raw tables of the same keys -/
theorem KV.val {kvs : List (κ × V)} {vs : List (κ × Value)} (r : KV kvs vs) (k : κ) : RelO (valV kvs k) (valueAt vs k) := by
  unfold KV at r
  induction r with
  | nil => exact True.intro
  | @cons p q ps qs h t ih =>
    obtain ⟨h1, h2⟩ := h
    by_cases e : p.1 = k
    · have e' : q.1 = k := h1.symm.trans e
      have b : valueAt (q :: qs) k = some q.2 := by simp [valueAt, List.find?_cons, e']
      rw [valV_pos e, b]; exact h2
    · have e' : ¬ q.1 = k := fun z => e (h1.trans z)
      have b : valueAt (q :: qs) k = valueAt qs k := by simp [valueAt, List.find?_cons, e']
      rw [valV_neg e, b]; exact ih
theorem KV.any {kvs : List (κ × V)} {vs : List (κ × Value)} (r : KV kvs vs) (k : κ) : (kvs.any fun kv => decide (kv.1 = k)) = vs.any fun kv => decide (kv.1 = k) := by
  unfold KV at r
  induction r with
  | nil => rfl
  | cons h t ih => rw [List.any_cons, List.any_cons, ih, h.1]
theorem KV.repl {kvs : List (κ × V)} {vs : List (κ × Value)} (r : KV kvs vs) (k : κ) {y : V} {u : Value} (ry : RelV y u) :
    KV (kvs.map fun kv => if kv.1 = k then (kv.1, y) else kv) (vs.map fun kv => if kv.1 = k then (kv.1, u) else kv) := by
  unfold KV at r ⊢
  induction r with
  | nil => exact .nil
  | @cons p q ps qs h t ih =>
    rw [List.map_cons, List.map_cons]
    refine .cons ?_ ih
    obtain ⟨h1, h2⟩ := h
    by_cases e : p.1 = k
    · rw [if_pos e, if_pos (h1.symm.trans e)]; exact ⟨h1, ry⟩
    · rw [if_neg e, if_neg (fun z => e (h1.trans z))]; exact ⟨h1, h2⟩
theorem KV.put {kvs : List (κ × V)} {vs : List (κ × Value)} (r : KV kvs vs) (k : κ) {y : V} {u : Value} (ry : RelV y u) : KV (putK kvs k y) (stored vs k u) := by
  unfold putK stored
  rw [r.any k]
  by_cases e : (vs.any fun kv => decide (kv.1 = k)) = true
  · rw [if_pos e, if_pos e]; exact r.repl k ry
  · rw [if_neg e, if_neg e]; exact Paired.snoc r ⟨rfl, ry⟩
theorem KV.drop {kvs : List (κ × V)} {vs : List (κ × Value)} (r : KV kvs vs) (k : κ) : KV (dropK kvs k) (without vs k) := by
  unfold KV at r ⊢
  unfold dropK without
  induction r with
  | nil => exact .nil
  | @cons p q ps qs h t ih =>
    obtain ⟨h1, h2⟩ := h
    rw [List.filter_cons, List.filter_cons]
    by_cases e : p.1 = k
    · have a : ¬ decide (p.1 ≠ k) = true := by simp [e]
      have b : ¬ decide (q.1 ≠ k) = true := by simp [h1.symm.trans e]
      rw [if_neg a, if_neg b]; exact ih
    · have e' : ¬ q.1 = k := fun z => e (h1.trans z)
      have a : decide (p.1 ≠ k) = true := by simp [e]
      have b : decide (q.1 ≠ k) = true := by simp [e']
      rw [if_pos a, if_pos b]; exact .cons ⟨h1, h2⟩ ih
theorem KV.keys {kvs : List (κ × V)} {vs : List (κ × Value)} (r : KV kvs vs) : kvs.map (·.1) = vs.map (·.1) := by
  unfold KV at r
  induction r with
  | nil => rfl
  | cons h t ih => rw [List.map_cons, List.map_cons, ih, h.1]
theorem KV.length {kvs : List (κ × V)} {vs : List (κ × Value)} (r : KV kvs vs) : kvs.length = vs.length := Paired.length r
end


/-! ### a tracked dict, its keys ints and texts or tuples of these -/
theorem kV_is {P : Program} {w : World} {k : Key} {u : Value} (r : RelV (kV k) u) : (mixKind P w).is k u = true := by
  cases k with
  | inl i => obtain ⟨t, e⟩ := (show ∃ t, u = Value.int i t from r); subst e; exact mixKind_int P w i t
  | inr x => obtain ⟨t, e⟩ := (show ∃ t, u = Value.str x t from r); subst e; exact mixKind_str P w x t
theorem items_are {P : Program} {w : World} : ∀ {ks : List Key} {us : List Value}, Vals (ks.map kV) us → ItemsAre (mixKind P w) ks us
  | [], _, r => by rw [List.map_nil] at r; cases r; exact .nil
  | k :: ks, _, r => by
    rw [List.map_cons] at r
    cases r with
    | cons h t => exact .cons (kV_is h) (items_are t)

/-- raw entries of a dict with tuple keys -/
abbrev KT (H : Hp) : List (List Key × V) → List (List Key × Addr × Value) → Prop := Paired fun p q => p.1 = q.1 ∧ H q.2.1 = some (.tup (p.1.map kV)) ∧ RelV p.2 q.2.2
theorem KT.val {H : Hp} {kvs : List (List Key × V)} {xs : List (List Key × Addr × Value)} (r : KT H kvs xs) (k : List Key) : RelO (valV kvs k) ((atKey xs k).map (·.2)) := by
  induction r with
  | nil => exact True.intro
  | @cons p q ps qs h t ih =>
    obtain ⟨h1, _, h2⟩ := h
    by_cases e : p.1 = k
    · have e' : q.1 = k := h1.symm.trans e
      have b : atKey (q :: qs) k = some q.2 := by simp [atKey, List.find?_cons, e']
      rw [valV_pos e, b]; exact h2
    · have e' : ¬ q.1 = k := fun z => e (h1.trans z)
      have b : atKey (q :: qs) k = atKey qs k := by simp [atKey, List.find?_cons, e']
      rw [valV_neg e, b]; exact ih
theorem KT.repl {H : Hp} {kvs : List (List Key × V)} {xs : List (List Key × Addr × Value)} (r : KT H kvs xs) (k : List Key) {y : V} {u : Value} (ry : RelV y u) :
    KT H (kvs.map fun kv => if kv.1 = k then (kv.1, y) else kv) (xs.map (putAt k u)) := by
  induction r with
  | nil => exact .nil
  | @cons p q ps qs h t ih =>
    rw [List.map_cons, List.map_cons]
    refine .cons ?_ ih
    obtain ⟨h1, h2, h3⟩ := h
    unfold putAt
    by_cases e : p.1 = k
    · rw [if_pos e, if_pos (h1.symm.trans e)]; exact ⟨h1, h2, ry⟩
    · rw [if_neg e, if_neg (fun z => e (h1.trans z))]; exact ⟨h1, h2, h3⟩
theorem KT.put {H : Hp} {kvs : List (List Key × V)} {xs : List (List Key × Addr × Value)} (r : KT H kvs xs) (k : List Key) {b : Addr} {y : V} {u : Value} (hb : H b = some (.tup (k.map kV))) (ry : RelV y u) :
    KT H (putK kvs k y) (storedH xs k b u) := by
  have e : (kvs.any fun kv => decide (kv.1 = k)) = (atKey xs k).isSome := by
    rw [valV_any, (r.val k).isSome_eq, Option.isSome_map]
  unfold putK storedH
  rw [e]
  by_cases q : (atKey xs k).isSome = true
  · rw [if_pos q, if_pos q]; exact r.repl k ry
  · rw [if_neg q, if_neg q]; exact Paired.snoc r ⟨rfl, hb, ry⟩
theorem KT.keeps {H H' : Hp} {kvs : List (List Key × V)} {xs : List (List Key × Addr × Value)} (r : KT H kvs xs) (ht : ∀ b ys, H b = some (.tup ys) → H' b = some (.tup ys)) : KT H' kvs xs :=
  Paired.mapP r fun _ _ z => ⟨z.1, ht _ _ z.2.1, z.2.2⟩

section
variable {P : Program} {w : World} {H : Hp} {h : Heap} {a : Addr}
theorem rd_of {u : HO} (ok : HOk P w H h) (e : Rd H a u) : ObjOk P w H h a u := e.ok ok
theorem dk_rd {kvs : List (Key × V)} (ok : HOk P w H h) (e : Rd H a (.dK kvs)) : kvs.length ≤ sizeLine ∧ (a == sysModules) = false ∧ ∃ vs, KV kvs vs ∧ h.DictOf (mixKind P w) a vs :=
  show ObjOk P w H h a (.dK kvs) from rd_of ok e
theorem dk_of {kvs : List (Key × V)} (ok : HOk P w H h) (e : H a = some (.dK kvs)) : kvs.length ≤ sizeLine ∧ (a == sysModules) = false ∧ ∃ vs, KV kvs vs ∧ h.DictOf (mixKind P w) a vs := dk_rd ok (.inl e)
/-- a tracked tuple of ints and texts is a key -/
theorem key_of {ks : List Key} (ok : HOk P w H h) (e : H a = some (.tup (ks.map kV))) : (tupleKind (mixKind P w)).is h ks a := by
  obtain ⟨_, its, r, o, h1, h2, n, h3⟩ := (show ObjOk P w H h a (.tup (ks.map kV)) from ok a _ e)
  exact ⟨o, its.toArray, n, h1, h2, h3, by simpa using items_are r⟩
theorem dt_rd {kvs : List (List Key × V)} (ok : HOk P w H h) (e : Rd H a (.dT kvs)) : kvs.length ≤ sizeLine ∧ (a == sysModules) = false ∧
    ∃ xs, KT H kvs xs ∧ h.DictOfH (tupleKind (mixKind P w)) a xs := by
  obtain ⟨z, y, xs, r, o, es, ep, h1, h2, h3, h4, h5⟩ := (show ObjOk P w H h a (.dT kvs) from rd_of ok e)
  refine ⟨z, y, xs, r, o, es, ep, h1, h2, h3, h4, fun x hx => ?_, h5⟩
  have all : ∀ {l : List (List Key × V)} {m : List (List Key × Addr × Value)}, KT H l m → ∀ x ∈ m, (tupleKind (mixKind P w)).is h x.1 x.2.1 := by
    intro l m q
    induction q with
    | nil => intro x hx; exact nomatch hx
    | @cons p q ps qs hq t ih =>
      intro x hx
      rcases List.mem_cons.mp hx with e | hx
      · subst e
        exact key_of ok (by rw [← hq.1]; exact hq.2.1)
      · exact ih x hx
  exact all r x hx
theorem dt_of {kvs : List (List Key × V)} (ok : HOk P w H h) (e : H a = some (.dT kvs)) : kvs.length ≤ sizeLine ∧ (a == sysModules) = false ∧
    ∃ xs, KT H kvs xs ∧ h.DictOfH (tupleKind (mixKind P w)) a xs := dt_rd ok (.inl e)
end

/-- what the dict at a holds at the key y -/
def DGet (H : Hp) (a : Addr) (y : V) (r : Option V) : Prop :=
  (∃ kvs k, Rd H a (.dK kvs) ∧ y = kV k ∧ r = valV kvs k) ∨ ∃ kvs k b, Rd H a (.dT kvs) ∧ y = .ref b ∧ H b = some (.tup (k.map kV)) ∧ r = valV kvs k
/-- the heap behind a[y] = v -/
def DPut (H : Hp) (a : Addr) (y v : V) (H' : Hp) : Prop :=
  (∃ kvs k, H a = some (.dK kvs) ∧ y = kV k ∧ kvs.length < sizeLine ∧ H' = upd H a (.dK (putK kvs k v))) ∨
  ∃ kvs k b, H a = some (.dT kvs) ∧ y = .ref b ∧ H b = some (.tup (k.map kV)) ∧ kvs.length < sizeLine ∧ H' = upd H a (.dT (putK kvs k v))
theorem DGet.k {H : Hp} {a : Addr} {kvs : List (Key × V)} {k : Key} (e : H a = some (.dK kvs)) : DGet H a (kV k) (valV kvs k) := .inl ⟨kvs, k, .inl e, rfl, rfl⟩
theorem DGet.t {H : Hp} {a b : Addr} {kvs : List (List Key × V)} {k : List Key} (e : H a = some (.dT kvs)) (eb : H b = some (.tup (k.map kV))) : DGet H a (.ref b) (valV kvs k) := .inr ⟨kvs, k, b, .inl e, rfl, eb, rfl⟩
theorem DPut.k {H : Hp} {a : Addr} {kvs : List (Key × V)} {k : Key} {v : V} (e : H a = some (.dK kvs)) (hl : kvs.length < sizeLine) : DPut H a (kV k) v (upd H a (.dK (putK kvs k v))) := .inl ⟨kvs, k, e, rfl, hl, rfl⟩
theorem DPut.t {H : Hp} {a b : Addr} {kvs : List (List Key × V)} {k : List Key} {v : V} (e : H a = some (.dT kvs)) (eb : H b = some (.tup (k.map kV))) (hl : kvs.length < sizeLine) :
    DPut H a (.ref b) v (upd H a (.dT (putK kvs k v))) := .inr ⟨kvs, k, b, e, rfl, eb, hl, rfl⟩


section
variable {X : Cx} {pins : List (Addr × Obj)} {σ : St} {H : Hp} {s : Shared} {a : Addr} {y v : V} {u r : Value} {o : Option V} {A : Around} {E : Value → Shared → Prop}

theorem Inv.big (I : Inv X pins σ H s) : sysModules < s.heap.objs.size := by
  have h : mainGlobals < s.heap.objs.size := (I.mod.glob.keeps I.bk).lt
  exact Nat.lt_trans (by decide) h

/-- d[y], there -/
theorem d_getItem {Q : Value → Shared → Prop} (hu : A.units + 1 < cLine) (I : Inv X pins σ H s) (g : DGet H a y (some v)) (ry : RelV y u) (h : ∀ w' s', Inv X pins σ H s' → RelV v w' → Q w' s') :
    wpAny (model X.prog X.w) A (getItem (.ref a) u) Q E s := by
  rcases g with ⟨kvs, k, e, ey, l⟩ | ⟨kvs, k, b, e, ey, eb, l⟩
  · subst ey
    obtain ⟨z, hd, vs, rel, dd⟩ := dk_rd I.hok e
    obtain ⟨w', hw, rw'⟩ := RelO.some_of (v := v) (o := valueAt vs k) (by rw [l]; exact rel.val k)
    exact wpAny_getItem_of (kV_is ry) dd.mapOf hw (h w' _ (I.tok _) rw')
  · subst ey
    cases (show u = Value.ref b from ry)
    obtain ⟨z, hd, xs, rel, dd⟩ := dt_rd I.hok e
    obtain ⟨w', hw, rw'⟩ := RelO.some_of (v := v) (o := (atKey xs k).map (·.2)) (by rw [l]; exact rel.val k)
    obtain ⟨p, hp, hp2⟩ := Option.map_eq_some_iff.mp hw
    refine wpAny_getItem_heap (tupleKind_room_in1 hu) (key_of I.hok eb) dd hp ?_
    rw [hp2]
    exact h w' _ (I.tok _) rw'
/-- a dict's object is replaced -/
theorem d_write {h' : Heap} {t' : Nat} {ob : HO} (I : Inv X pins σ H s) (mu : Mut (H a)) (hs : Heap.SameBut a s.heap h') (he : ∃ q, h'.get? a = some q) (new : ObjOk X.prog X.w (upd H a ob) h' a ob) :
    Inv X pins σ (upd H a ob) { s with heap := h', toks := t' } :=
  I.write (x := a) (e := a) mu (.inl rfl) (fun b q hb z => (hs.2 b hb).trans z) he new
theorem dk_new {P : Program} {w : World} {H' : Hp} {h' : Heap} {kvs : List (Key × V)} {vs : List (Key × Value)} (z : kvs.length ≤ sizeLine) (hd : (a == sysModules) = false) (rel : KV kvs vs) (dd : h'.DictOf (mixKind P w) a vs) :
    ObjOk P w H' h' a (.dK kvs) := ⟨z, hd, vs, rel, dd⟩
/-- d[y] = v -/
theorem d_setItem {H' : Hp} {Q : Unit → Shared → Prop} (hu : A.units + 1 < cLine) (I : Inv X pins σ H s) (g : DPut H a y v H') (ry : RelV y u) (rv : RelV v r) (h : ∀ s', Inv X pins σ H' s' → Q () s') :
    wpAny (model X.prog X.w) A (setItem (.ref a) u r) Q E s := by
  rcases g with ⟨kvs, k, e, ey, l, eH⟩ | ⟨kvs, k, b, e, ey, eb, l, eH⟩
  · subst ey eH
    obtain ⟨z, hd, vs, rel, dd⟩ := dk_of I.hok e
    have hz : vs.length ≤ sizeLine := by rw [← rel.length]; exact z
    have hl : (putK kvs k v).length ≤ sizeLine := by have := length_putK kvs k v; omega
    refine wpAny_setItem_pairs (hsz := hz) (kV_is ry) dd fun h' dd' hs => h _ ?_
    have he : ∃ q, h'.get? a = some q := let ⟨q, _, _, hq, _⟩ := dd'; ⟨q, hq⟩
    exact d_write I (by rw [e]; exact True.intro) hs he (dk_new hl hd (rel.put k rv) dd')
  · subst ey eH
    cases (show u = Value.ref b from ry)
    obtain ⟨z, hd, xs, rel, dd⟩ := dt_of I.hok e
    have hz : xs.length ≤ sizeLine := by rw [← Paired.length rel]; exact z
    have hl : (putK kvs k v).length ≤ sizeLine := by have := length_putK kvs k v; omega
    refine wpAny_setItem_heap (hsz := hz) (tupleKind_room_in1 hu) (key_of I.hok eb) dd fun h' dd' hs => h _ ?_
    obtain ⟨q, es, ep, hq, h2, h3, h4, _, h5⟩ := dd'
    refine d_write I (by rw [e]; exact True.intro) hs ⟨q, hq⟩ ⟨hl, hd, _, (rel.put k eb rv).keeps fun c ys ec => ?_, q, es, ep, hq, h2, h3, h4, h5⟩
    rw [upd_ne (ne_of ec e (fun z => nomatch z))]
    exact ec
end

section
variable {X : Cx} {pins : List (Addr × Obj)} {σ : St} {H : Hp} {s : Shared} {a : Addr} {kvs : List (Key × V)} {k : Key} {u : Value} {A : Around} {E : Value → Shared → Prop}
end


/-! ### readings and rules -/
/-- the element of a subscription, not a slice -/
def NoSl (i : Expr) : Prop := ∀ ov iv, subscripted i false ov iv = operate [ov, iv] (getItem ov iv)
theorem subD_of {prog : Program} {w : World} {A : Around} {E : Value → Shared → Prop} {s : Shared} {env : Env} {value slice : Expr} {pos : Pos} {T id : String} {Q : Value → Shared → Prop}
    (hl : typeLookup (.type T) "__getitem__" = pure (some (.builtin id))) (hs : NoSl slice)
    (h : wpAny (model prog w) A (eval value env) (fun o s₁ => wpAny (model prog w) A (eval slice env) (fun i s₂ => s₂.TypeIs o T ∧ wpAny (model prog w) A (getItem o i) Q E s₂) E s₁) E s) :
    wpAny (model prog w) A (eval (.Subscript value slice pos) env) Q E s := by
  refine Subscript_ (wpAny_mono h (fun o s₁ h₁ => wpAny_mono h₁ (fun i s₂ h₂ => ?_) fun _ _ x => x) fun _ _ x => x)
  obtain ⟨hT, h₂⟩ := h₂
  unfold subscriptTail
  refine wpAny_bind ?_
  rw [getitemInPython_of_ne hT.not_modules]
  refine wpAny_bind (wpAny_specialOf hT hl ?_)
  have fin : wpAny (model prog w) A (subscripted slice false o i) (fun r s₃ => wpAny (model prog w) A (letTemporaryGo value o r >>= fun _ => pure r) Q E s₃) E s₂ := by
    rw [hs o i]
    exact wpAny_operating (wpAny_mono h₂ (fun r s₃ h₃ => wpAny_bind (wpAny_letTemporaryGo (wpAny_pure h₃))) fun _ _ x => x)
  first
    | exact wpAny_pure (wpAny_bind fin)
    | exact wpAny_bind (wpAny_pure (wpAny_bind fin))
    | exact wpAny_bind fin

theorem dict_typeIs {X : Cx} {pins : List (Addr × Obj)} {σ : St} {H : Hp} {s : Shared} {a : Addr} {y : V} {o : Option V} (I : Inv X pins σ H s) (g : DGet H a y o) : s.TypeIs (.ref a) "dict" := by
  rcases g with ⟨kvs, k, e, _, _⟩ | ⟨kvs, k, b, e, _, _, _⟩
  · obtain ⟨_, _, vs, _, dd⟩ := dk_rd I.hok e
    exact dd.typeIs
  · obtain ⟨_, _, xs, _, dd⟩ := dt_rd I.hok e
    exact dd.typeIs
/-- d[y] -/
def tDGet (td ty : TE) : TE := fun σ H Q => td σ H fun x H1 => ty σ H1 fun y H2 => ∃ a v, x = .ref a ∧ DGet H2 a y (some v) ∧ Q v H2
/-- y in d, y not in d -/
def tDIn (ty td : TE) : TE := fun σ H Q => ty σ H fun y H1 => td σ H1 fun x H2 => ∃ a o, x = .ref a ∧ DGet H2 a y o ∧ Q (.bl o.isSome) H2
def tDNotIn (ty td : TE) : TE := fun σ H Q => ty σ H fun y H1 => td σ H1 fun x H2 => ∃ a o, x = .ref a ∧ DGet H2 a y o ∧ Q (.bl (!o.isSome)) H2
/-- d[y] = v -/
def sDPut (td ty tv : TE) : TS := fun D σ H => tv σ H fun v H1 => td σ H1 fun x H2 => ty σ H2 fun y H3 => ∃ a H4, x = .ref a ∧ DPut H3 a y v H4 ∧ D.nx σ H4
/-- d[y] op= v -/
def sDAug (td ty tv : TE) (rd : V → V → Hp → VK → Prop) : TS := fun D σ H => td σ H fun x H1 => ty σ H1 fun y H2 => ∃ a v, x = .ref a ∧ DGet H2 a y (some v) ∧
  tv σ H2 fun y2 H3 => rd v y2 H3 fun z H4 => ∃ H5, DPut H4 a y z H5 ∧ D.nx σ H5
/-- del d[y] -/
def sDDel (td ty : TE) : TS := fun D σ H => td σ H fun x H1 => ty σ H1 fun y H2 => ∃ a kvs k, x = .ref a ∧ H2 a = some (.dK kvs) ∧ y = kV k ∧ (valV kvs k).isSome = true ∧ D.nx σ (upd H2 a (.dK (dropK kvs k)))

section
variable {X : Cx} {o i e value : Expr} {pos pos' tpos : Pos} {td ty tv : TE}
theorem pe_dget (hu : X.A.units + 1 < cLine) (ho : PE X o td) (hi : PE X i ty) (hs : NoSl i) : PE X (.Subscript o i pos) (tDGet td ty) := by
  intro pins s σ H Q I h
  refine subD_of PySem.F.slot_dict_getitem.lookup hs (thn (ho pins s σ H _ I h) fun u s1 ⟨x, H1, I1, rx, q1⟩ => thn (hi pins s1 σ H1 _ I1 q1) fun iv s2 ⟨y, H2, I2, ry, a, v, ex, g, q2⟩ => ?_)
  subst ex
  obtain rfl : u = Value.ref a := rx
  exact ⟨dict_typeIs I2 g, d_getItem hu I2 g ry fun w' s3 I3 rw' => ⟨v, H2, I3, rw', q2⟩⟩
theorem ps_dput (hu : X.A.units + 1 < cLine) (ho : PE X o td) (hi : PE X i ty) (hv : PE X value tv) (hs : swapsWith value (some (.Subscript o i pos')) pos.line X.env = pure false) :
    PS X (.Assign [.Subscript o i pos'] value pos) (sDPut td ty tv) := by
  intro pins s σ H D I h
  refine wpAny_Assign_Subscript (thn (hv pins s σ H _ I h) fun r s1 ⟨v, H1, I1, rv, q1⟩ => thn (ho pins s1 σ H1 _ I1 q1) fun u s2 ⟨x, H2, I2, rx, q2⟩ => thn (hi pins s2 σ H2 _ I2 q2) fun iv s3 ⟨y, H3, I3, ry, a, H4, ex, g, q3⟩ => ?_) hs
  subst ex
  obtain rfl : u = Value.ref a := rx
  exact d_setItem hu I3 g ry rv fun s4 I4 => ⟨σ, H4, I4, q3⟩
end


/-! ### displays -/
theorem dk_empty {P : Program} {w : World} {H : Hp} (h : Heap) (hb : sysModules < h.objs.size) : ObjOk P w H (h.push { cls := .type "dict", data := .dict #[] }) h.objs.size (.dK []) :=
  ⟨Nat.zero_le _, beq_eq_false_iff_ne.mpr (Ne.symm (Nat.ne_of_lt hb)), [], .nil, Heap.DictOf.new h⟩
/-- {}, to be a dict of the kind that is wanted -/
def tDNewK : TE := fun _ H Q => ∀ p, H p = none → Q (.ref p) (upd H p (.dK []))
def tDNewT : TE := fun _ H Q => ∀ p, H p = none → Q (.ref p) (upd H p (.dT []))
section
variable {X : Cx} {pos : Pos}
theorem pe_dnewK : PE X (.Dict [] [] pos) tDNewK := fun pins s σ H Q I h =>
  wpAny_Dict_empty ⟨.ref s.heap.objs.size, _, I.laid (a := s.heap.objs.size) (o := .dK []) (t' := s.toks) (fun _ _ q => Heap.get?_push_of_some _ q) (Nat.le_refl _) (dk_empty s.heap I.big), rfl, h _ (I.hok.fresh (Nat.le_refl _))⟩
end

/-- the pairs of a display, from the left -/
def tPairs : List (TE × TE) → St → Hp → (List (V × V) → Hp → Prop) → Prop
  | [], _, H, Q => Q [] H
  | (tk, tv) :: r, σ, H, Q => tk σ H fun x H1 => tv σ H1 fun y H2 => tPairs r σ H2 fun ps H3 => Q ((x, y) :: ps) H3
abbrev VV : List (V × V) → List (Value × Value) → Prop := Paired fun p q => RelV p.1 q.1 ∧ RelV p.2 q.2
def PPs (X : Cx) (pos : Pos) (keys : List (Option Expr)) (values : List Expr) (trs : List (TE × TE)) : Prop :=
  ∀ (pins : List (Addr × Obj)) (s : Shared) (σ : St) (H : Hp) (Q : List (V × V) → Hp → Prop), Inv X pins σ H s → tPairs trs σ H Q →
    wpAny (model X.prog X.w) X.A (evalPairs (pairTrees keys values X.env pos)) (fun vs s' => ∃ ps H', Inv X pins σ H' s' ∧ VV ps vs ∧ Q ps H') X.xe s
def mergeK (kvs more : List (Key × V)) : List (Key × V) := more.foldl (fun acc kv => putK acc kv.1 kv.2) kvs
/-- {k: v, ..} with keys ints and texts; the new dict stands empty while the pairs are made -/
def tDisp (trs : List (TE × TE)) : TE := fun σ H Q => ∀ p, H p = none → tPairs trs σ (upd H p (.dK [])) fun ps H2 => H2 p = some (.dK []) ∧ ∃ kvs : List (Key × V), ps = kvs.map (fun kv => (kV kv.1, kv.2)) ∧ kvs.length ≤ 15 ∧ Q (.ref p) (upd H2 p (.dK (mergeK [] kvs)))
/-! ### methods -/
/-- a method call o.m(e) of a built-in, with one argument: what must be seen of the text -/
structure M1 (X : Cx) (o : Expr) (m : Str) (apos : Pos) (e : Expr) (cpos : Pos) : Prop where
  base : attributeBase o m X.env (eval o X.env) = eval o X.env
  few : ((backTo cpos (starEach [e] X.env)).all (fun x => !x.1) && (backToKw cpos (keywordEach [] X.env)).all (fun x => x.1.isSome)
    && decide (([e] : List Expr).length + ([] : List Keyword).length + (if ([] : List Keyword).isEmpty then 0 else 1) < 30)) = true
  line : (apos.endLine == cpos.line) = true
  trees : backTo cpos (starEach [e] X.env) = [(false, eval e X.env)]
structure M2 (X : Cx) (o : Expr) (m : Str) (apos : Pos) (e f : Expr) (cpos : Pos) : Prop where
  base : attributeBase o m X.env (eval o X.env) = eval o X.env
  few : ((backTo cpos (starEach [e, f] X.env)).all (fun x => !x.1) && (backToKw cpos (keywordEach [] X.env)).all (fun x => x.1.isSome)
    && decide (([e, f] : List Expr).length + ([] : List Keyword).length + (if ([] : List Keyword).isEmpty then 0 else 1) < 30)) = true
  line : (apos.endLine == cpos.line) = true
  trees : backTo cpos (starEach [e, f] X.env) = [(false, eval e X.env), (false, eval f X.env)]

/-- a is a dict, whatever its keys -/
def IsD (H : Hp) (a : Addr) : Prop := (∃ kvs, Rd H a (.dK kvs)) ∨ ∃ kvs, Rd H a (.dT kvs)
section
variable {X : Cx} {pins : List (Addr × Obj)} {σ : St} {H : Hp} {s : Shared} {a : Addr} {y d : V} {u r : Value} {o : Option V} {A : Around} {E : Value → Shared → Prop}
end

def tDGet1 (td ty : TE) : TE := fun σ H Q => td σ H fun x H1 => ∃ a, x = .ref a ∧ IsD H1 a ∧ ty σ H1 fun y H2 => ∃ o, DGet H2 a y o ∧ Q (o.getD .non) H2
def tDGet2 (td ty tx : TE) : TE := fun σ H Q => td σ H fun x H1 => ∃ a, x = .ref a ∧ IsD H1 a ∧ ty σ H1 fun y H2 => tx σ H2 fun z H3 => ∃ o, DGet H3 a y o ∧ Q (o.getD z) H3
/-- d.pop(k): there; d.pop(k, x): there or not -/
def tDPop1 (td ty : TE) : TE := fun σ H Q => td σ H fun x H1 => ∃ a, x = .ref a ∧ IsD H1 a ∧ ty σ H1 fun y H2 => ∃ kvs k v, H2 a = some (.dK kvs) ∧ y = kV k ∧ valV kvs k = some v ∧ Q v (upd H2 a (.dK (dropK kvs k)))
def tDPop2 (td ty tx : TE) : TE := fun σ H Q => td σ H fun x H1 => ∃ a, x = .ref a ∧ IsD H1 a ∧ ty σ H1 fun y H2 => tx σ H2 fun z H3 => ∃ kvs k, H3 a = some (.dK kvs) ∧ y = kV k ∧
  (∀ v, valV kvs k = some v → Q v (upd H3 a (.dK (dropK kvs k)))) ∧ (valV kvs k = none → Q z H3)
section
variable {X : Cx} {o e f : Expr} {apos cpos : Pos} {td ty tx : TE}
end

/-! ### dict(d): a copy -/
section
variable {X : Cx} {pins : List (Addr × Obj)} {σ : St} {H : Hp} {s : Shared} {a : Addr} {kvs : List (Key × V)} {A : Around} {E : Value → Shared → Prop}
end


section
variable {X : Cx} {pins : List (Addr × Obj)} {σ : St} {H : Hp} {s : Shared} {a : Addr} {y : V} {u : Value} {A : Around} {E : Value → Shared → Prop}
end
end L2

namespace L2
open PySem PySem.Spec PyProof.Rows

section
variable {prog : Program} {w : World} {A : Around} {E : Value → Shared → Prop}
end

section
variable {X : Cx}
end
end L2

namespace L2
open PySem PySem.Spec PyProof.Rows

theorem boot_reversed5 : bootBuiltins "reversed" = some (.type "reversed") := by decide +kernel

section
variable {X : Cx} {pins : List (Addr × Obj)} {σ : St} {H : Hp} {s : Shared} {h' : Heap}
/-! ### locking a thing while a statement runs -/
end
/-- the statement runs while the thing at d is locked (read, not written); d and what stands there are the reading's choice -/
def tLock (t : TS) : TS := fun D σ H => ∃ d u, H d = some u ∧ Mut (some u) ∧ ∀ od, t ⟨fun σ' H' => H' d = some (.frz od u) ∧ D.nx σ' (upd H' d u), fun v H' => H' d = some (.frz od u) ∧ D.rt v (upd H' d u), fun σ' H' => H' d = some (.frz od u) ∧ D.bk σ' (upd H' d u), fun σ' H' => H' d = some (.frz od u) ∧ D.ct σ' (upd H' d u)⟩ σ (upd H d (.frz od u))
def tLockE (t : TE) : TE := fun σ H Q => ∃ d u, H d = some u ∧ Mut (some u) ∧ ∀ od, t σ (upd H d (.frz od u)) fun v H' => H' d = some (.frz od u) ∧ Q v (upd H' d u)
section
variable {X : Cx}
/-! ### one iterator just laid -/
theorem pi_one {tg : Expr} {pins : List (Addr × Obj)} {σ : St} {H : Hp} {s : Shared} {R : It → Hp → Prop} {J : It} {tn : Nat → Heap → Prop} {tk : Nat} (I : Inv X pins σ H s) (o : Obj)
    (T : Turn X.prog X.w X.K tg J [s.heap.objs.size] s.heap.objs.size tn) (st : tn 0 (s.heap.push o)) (q : R J H) : PIE X pins σ tg R (.ref s.heap.objs.size) { s with heap := s.heap.push o, toks := tk } := by
  refine ⟨s.heap.objs.size, [s.heap.objs.size], tn, J, H, rfl, I.kept fun b ob e => Heap.get?_push_of_some _ e, T, st, fun b hb => ?_, q⟩
  have e : b = s.heap.objs.size := by simpa using hb
  subst e
  exact I.fpOk (Nat.le_refl _) (I.hok.fresh (Nat.le_refl _))
end

/-! ### range with a step -/
/-- lo, lo + c, .. (n of them) -/
def Itc (lo c : Int) (n : Nat) : It := ⟨fun i _ => i < n, fun i H x H' => H' = H ∧ x = .int (lo + (i : Nat) * c), fun i _ => n ≤ i⟩
theorem turn_rangeC {P : Program} {w : World} {K : PySem.W.Frag} {tg : Expr} (it : Addr) (lo c : Int) (n : Nat) : Turn P w K tg (Itc lo c n) [it] it (fun i h => IsRangeIter h it (lo + (i : Nat) * c) ((n : Int) - (i : Nat)) c) where
  mem := by simp
  obj := fun i h st b hb => by
    have e : b = it := by simpa using hb
    subst e
    exact ⟨_, st, fun v z => nomatch z⟩
  keep := fun i h h' st k => k it (by simp) _ st
  item := by
    intro X hP hw hK hc i pins s σ H E I hf st hg
    subst hP hw hK
    obtain ⟨f0, f1, f2, f3, f4, f5⟩ := hf it (by simp)
    have W := Walks.range (prog := X.prog) (w := X.w) (I.ok.hd hc) it lo c n
    refine W.item i s _ _ hg st fun v h' tk hv st' kk => ?_
    obtain ⟨t, rfl⟩ := hv
    have I1 : Inv X pins σ H { s with heap := h', toks := tk } := I.turned (fun b o hb e => kk b o (by simpa using hb) e) f0 f1 f3 f4 f5
    exact ⟨_, rfl, go_of (s := { s with heap := h', toks := tk }) (n := "range_iterator") st' rfl rfl (by decide) ⟨.int (lo + (i : Nat) * c), H, I1, ⟨t, rfl⟩, ⟨rfl, rfl⟩, st', fun b hb => (hf b hb).1⟩⟩
  done := by
    intro X hP hw hK hc i pins s σ H E I hf st hg
    subst hP hw hK
    obtain ⟨f0, f1, f2, f3, f4, f5⟩ := hf it (by simp)
    exact wpAny_pyNext_range_end (I.ok.hd hc) st (by have : n ≤ i := hg; omega) fun h' eb => ⟨rfl, I.turned (t' := s.toks) (fun b o hb e => eb b o hb e) f0 f1 f3 f4 f5⟩
  self := fun A i s Q E st h => wpAny_pyIter_rangeiter st h
/-- range(i, j, c): small bounds, n items -/
def RgC (i j c : Int) (n : Nat) : Prop := c ≠ 0 ∧ c.natAbs < 1073741824 ∧ Builtin.Range.small i j c = true ∧ Builtin.Range.rangeSize i j c = n
theorem RgC.neg {i j : Int} (ha : -(2 ^ 62) ≤ i) (ha' : i < 2 ^ 62) (hb : -(2 ^ 62) ≤ j) (hb' : j < 2 ^ 62) : RgC i j (-1) (i - j).toNat :=
  ⟨by decide, by decide, PySem.W.small_down ha ha' hb hb', PySem.W.rangeSize_downNat i j⟩
def iRng3 (ta : TA) : TI := fun σ H R => ta σ H fun vs H1 => ∃ (i j c : Int) (n : Nat), vs = [.int i, .int j, .int c] ∧ RgC i j c n ∧ R (Itc i c n) H1
section
variable {X : Cx} {tg : Expr}
theorem pi_range3 {a b c : Expr} {ta : TA} {p pos : Pos} (hg : Gl X "range") (hm : X.mg "range" = none) (ha : PA X [a, b, c] ta)
    (hs : starEach [a, b, c] X.env = (false, eval a X.env) :: starEach [b, c] X.env := by rfl) (hpl : (backTo pos (starEach [b, c] X.env)).any (·.1) = false := by rfl) :
    PI X tg (.Call (.Name "range" p) [a, b, c] [] pos) (iRng3 ta) := by
  intro pins s σ H R I h
  refine Call_ (ld_blt I hg hm boot_range (PyProof.Rows.callWith_type1 (thn (ha pos pins s σ H _ I h) fun us s1 ⟨vs, H1, I1, r1, q1⟩ => ?_) hs hpl))
  obtain ⟨i, j, k, n, e, ⟨c0, c1, c2, c3⟩, q⟩ := q1
  subst e
  cases r1 with
  | cons r rr =>
    cases rr with
    | cons r' rr =>
      cases rr with
      | cons r'' rr =>
        cases rr
        obtain ⟨t, rfl⟩ := r
        obtain ⟨t', rfl⟩ := r'
        obtain ⟨t'', rfl⟩ := r''
        refine call_range_3 c0 ?_ (.inl (PyProof.noPylong_small c1))
        refine wpAny_pyIter_range (IsRange.new ..) c2 ?_
        have I2 : Inv X pins σ H1 { s1 with heap := s1.heap.push { cls := .type "range", data := .fields #[.int i t, .int j t', .int k t''] } } := I1.kept (t' := s1.toks) fun b o e => Heap.get?_push_of_some _ e
        refine pi_one (tk := s1.toks) I2 _ (turn_rangeC _ i k n) ?_ q
        have e1 : i + ((0 : Nat) : Int) * k = i := by simp
        have e2 : (n : Int) - ((0 : Nat) : Int) = Builtin.Range.rangeSize i j k := by rw [c3]; simp
        show IsRangeIter _ _ (i + ((0 : Nat) : Int) * k) ((n : Int) - ((0 : Nat) : Int)) k
        rw [e1, e2]
        exact Heap.get?_push_size _ rfl
end
/-! ### reversed(list) -/
/-- the list at a (n items at the start, which the loop leaves there), from its end -/
def Itv (K : PySem.W.Frag) (a : Addr) (n : Nat) : It :=
  ⟨fun i H => i < n ∧ ∃ (xs : List V) (x : V), SqL K H a xs ∧ xs[n - 1 - i]? = some x, fun i H x H' => H' = H ∧ ∀ xs, SqL K H a xs → xs[n - 1 - i]? = some x, fun i _ => n ≤ i⟩
theorem turn_rev {P : Program} {w : World} {K : PySem.W.Frag} {tg : Expr} (a it : Addr) (n : Nat) : Turn P w K tg (Itv K a n) [it] it (fun i h => i ≤ n ∧ h.IsRevIter it a ((n : Int) - 1 - (i : Nat))) where
  mem := by simp
  obj := fun i h st b hb => by
    have e : b = it := by simpa using hb
    subst e
    obtain ⟨_, o, e, c, d⟩ := st
    exact ⟨o, e, fun v z => by rw [d] at z; cases z⟩
  keep := fun i h h' st k => ⟨st.1, st.2.at fun o e => k it (by simp) o e⟩
  item := by
    intro X hP hw hK hc i pins s σ H E I hf st hg
    subst hP hw hK
    obtain ⟨hin, xs, x, hq, hx⟩ := hg
    obtain ⟨its, rv, p, hz⟩ := I.list hq
    obtain ⟨u, hu, ru⟩ := rv.get hx
    obtain ⟨f0, f1, f2, f3, f4, f5⟩ := hf it (by simp)
    obtain ⟨_, hit⟩ := st
    have e1 : (n : Int) - 1 - ((i : Nat) : Int) = ((n - 1 - i : Nat) : Int) := by omega
    rw [e1] at hit
    refine wpAny_pyNext_rev_item hit p.isList (x := u) (by simpa using hu) fun h' st' sb => ?_
    have e2 : ((n - 1 - i : Nat) : Int) - 1 = (n : Int) - 1 - ((i + 1 : Nat) : Int) := by omega
    rw [e2] at st'
    have I1 : Inv X pins σ H { s with heap := h' } := I.turned (t' := s.toks) (fun b o hb e => (sb.2 b hb).trans e) f0 f1 f3 f4 f5
    obtain ⟨o, e, c, d⟩ := id st'
    exact ⟨u, rfl, go_of (s := { s with heap := h' }) e c d (by decide) ⟨x, H, I1, ru, ⟨rfl, fun ys hy => by rw [I.list_inj hy hq]; exact hx⟩, ⟨hin, st'⟩, fun b hb => (hf b hb).1⟩⟩
  done := by
    intro X hP hw hK hc i pins s σ H E I hf st hg
    subst hP hw hK
    obtain ⟨f0, f1, f2, f3, f4, f5⟩ := hf it (by simp)
    obtain ⟨hin, hit⟩ := st
    have hge : n ≤ i := hg
    have e1 : (n : Int) - 1 - ((i : Nat) : Int) = -1 := by omega
    rw [e1] at hit
    exact wpAny_pyNext_rev_end (I.ok.hd hc) hit fun h' eb => ⟨rfl, I.turned (t' := s.toks) (fun b o hb e => eb b o hb e) f0 f1 f3 f4 f5⟩
  self := fun A i s Q E st h => wpAny_pyIter_revIter st.2 h
def iRev (K : PySem.W.Frag) (ta : TA) : TI := fun σ H R => ta σ H fun vs H1 => ∃ (a : Addr) (xs : List V), vs = [.ref a] ∧ SqL K H1 a xs ∧ R (Itv K a xs.length) H1
section
variable {X : Cx} {tg : Expr}
theorem pi_reversed {e : Expr} {ta : TA} {p pos : Pos} (hg : Gl X "reversed") (hm : X.mg "reversed" = none) (ha : PA X [e] ta) (hs : starEach [e] X.env = [(false, eval e X.env)] := by rfl) : PI X tg (.Call (.Name "reversed" p) [e] [] pos) (iRev X.K ta) := by
  intro pins s σ H R I h
  refine Call_ (ld_blt I hg hm boot_reversed5 (PyProof.Rows.callWith_type1 (thn (ha pos pins s σ H _ I h) fun us s1 ⟨vs, H1, I1, r1, q1⟩ => ?_) hs rfl))
  obtain ⟨a, xs, e, hq, q⟩ := q1
  subst e
  cases r1 with
  | cons r rr =>
    cases rr
    cases r
    obtain ⟨its, rv, p', hz⟩ := I1.list hq
    have hl := rv.length
    have e1 : ((its.toArray.size : Nat) : Int) - 1 = (xs.length : Int) - 1 - ((0 : Nat) : Int) := by simp only [List.size_toArray]; omega
    refine call_reversed_list p'.isList (wpAny_pyIter_revIter (l := a) (i := ((its.toArray.size : Nat) : Int) - 1) ⟨_, Heap.get?_push_size _ rfl, rfl, rfl⟩ ?_)
    refine pi_one (tk := s1.toks) I1 _ (turn_rev a _ xs.length) ⟨Nat.zero_le _, ?_⟩ q
    rw [← e1]
    exact ⟨_, Heap.get?_push_size _ rfl, rfl, rfl⟩
end

/-! ### a str -/
def Its (x : Str) : It := ⟨fun i _ => i < x.cps.size, fun i H v H' => H' = H ∧ ∃ c, x.cps[i]? = some c ∧ v = .str ⟨#[c]⟩, fun i _ => x.cps.size ≤ i⟩
def iStr (te : TE) : TI := fun σ H R => te σ H fun v H1 => ∃ x, v = .str x ∧ R (Its x) H1
/-! ### a dict's keys: any dict's entries -/
section
variable {prog : Program} {w : World} {A : Around} {E : Value → Shared → Prop} {s : Shared}
end

/-! ### a locked dict -/
section
variable {X : Cx} {pins : List (Addr × Obj)} {σ : St} {H : Hp} {s : Shared} {d : Addr} {o : Obj}
end

/-- the keys of the locked dict at d, in their order -/
def Itk (d : Addr) (o : Obj) (kvs : List (Key × V)) : It :=
  ⟨fun i H => H d = some (.frz o (.dK kvs)) ∧ i < kvs.length, fun i H x H' => H' = H ∧ ∃ k v, kvs[i]? = some (k, v) ∧ x = kV k, fun i H => H d = some (.frz o (.dK kvs)) ∧ kvs.length ≤ i⟩
/-- .. of tuple keys: the key's own tuple -/
def Itkt (d : Addr) (o : Obj) (kvs : List (List Key × V)) : It :=
  ⟨fun i H => H d = some (.frz o (.dT kvs)) ∧ i < kvs.length, fun i H x H' => H' = H ∧ ∃ (k : List Key) (v : V) (q : Addr), kvs[i]? = some (k, v) ∧ x = .ref q ∧ H q = some (.tup (k.map kV)), fun i H => H d = some (.frz o (.dT kvs)) ∧ kvs.length ≤ i⟩
/-- the values -/
def Itd (d : Addr) (o : Obj) (kvs : List (Key × V)) : It :=
  ⟨fun i H => H d = some (.frz o (.dK kvs)) ∧ i < kvs.length, fun i H x H' => H' = H ∧ ∃ k, kvs[i]? = some (k, x), fun i H => H d = some (.frz o (.dK kvs)) ∧ kvs.length ≤ i⟩
/-- the pairs, each a new tuple -/
def Iti (d : Addr) (o : Obj) (kvs : List (Key × V)) : It :=
  ⟨fun i H => H d = some (.frz o (.dK kvs)) ∧ i < kvs.length, fun i H x H' => ∃ T k v, kvs[i]? = some (k, v) ∧ x = .ref T ∧ H T = none ∧ H' = upd H T (.tup [kV k, v]), fun i H => H d = some (.frz o (.dK kvs)) ∧ kvs.length ≤ i⟩
section
variable {P : Program} {w : World} {K : PySem.W.Frag} {tg : Expr} {d : Addr} {o : Obj} {es : Array DictEntry} {ep : Nat}
end

/-! ### for k in d, d.keys(), d.values(), d.items() -/
/-- the dict is locked (tLock, or by the caller) -/
def iKeys (td : TE) : TI := fun σ H R => td σ H fun x H1 => ∃ d o, x = .ref d ∧ ((∃ kvs, H1 d = some (.frz o (.dK kvs)) ∧ R (Itk d o kvs) H1) ∨ ∃ kvs, H1 d = some (.frz o (.dT kvs)) ∧ R (Itkt d o kvs) H1)
def iVals (td : TE) : TI := fun σ H R => td σ H fun x H1 => ∃ d o kvs, x = .ref d ∧ H1 d = some (.frz o (.dK kvs)) ∧ R (Itd d o kvs) H1
def iItems (td : TE) : TI := fun σ H R => td σ H fun x H1 => ∃ d o kvs, x = .ref d ∧ H1 d = some (.frz o (.dK kvs)) ∧ R (Iti d o kvs) H1
def iKeysM (td : TE) : TI := fun σ H R => td σ H fun x H1 => ∃ d o kvs, x = .ref d ∧ H1 d = some (.frz o (.dK kvs)) ∧ R (Itk d o kvs) H1
section
variable {X : Cx} {tg e : Expr} {td : TE} {apos cpos : Pos}
end

/-! ### enumerate(list) -/
/-- the list at a as it stands at each turn, each item in a new pair -/
def Ite (K : PySem.W.Frag) (a : Addr) : It :=
  ⟨fun i H => ∃ (xs : List V) (x : V), SqL K H a xs ∧ xs[i]? = some x, fun i H v H' => ∃ T x, v = .ref T ∧ H T = none ∧ H' = upd H T (.tup [.int (i : Nat), x]) ∧ ∀ xs, SqL K H a xs → xs[i]? = some x, fun i H => ∃ xs : List V, SqL K H a xs ∧ xs.length ≤ i⟩
def iEnum (K : PySem.W.Frag) (ta : TA) : TI := fun σ H R => ta σ H fun vs H1 => ∃ a xs, vs = [.ref a] ∧ SqL K H1 a xs ∧ R (Ite K a) H1
/-! ### zip(list, list) -/
/-- the lists at a and b as they stand at each turn, the items in new pairs -/
def Itz (K : PySem.W.Frag) (a b : Addr) : It :=
  ⟨fun i H => ∃ (xs ys : List V) (x y : V), SqL K H a xs ∧ SqL K H b ys ∧ xs[i]? = some x ∧ ys[i]? = some y,
    fun i H v H' => ∃ T x y, v = .ref T ∧ H T = none ∧ H' = upd H T (.tup [x, y]) ∧ (∀ xs, SqL K H a xs → xs[i]? = some x) ∧ ∀ ys, SqL K H b ys → ys[i]? = some y,
    fun i H => ∃ xs ys : List V, SqL K H a xs ∧ SqL K H b ys ∧ (xs.length ≤ i ∨ ys.length ≤ i)⟩
def iZip (K : PySem.W.Frag) (ta : TA) : TI := fun σ H R => ta σ H fun vs H1 => ∃ a b xs ys, vs = [.ref a, .ref b] ∧ SqL K H1 a xs ∧ SqL K H1 b ys ∧ R (Itz K a b) H1
end L2

section 
namespace Bits
open PySem PyProof.Rows

end Bits
end 

section 
namespace TL
open PySem PySem.Builtin PySem.Builtin.Str PySem.StrLaws

abbrev tl (x : Str) : List Nat := x.cps.toList
/-! ### the list functions -/
/-- S stands at the head of l -/
def pre (S l : List Nat) : Bool := l.take S.length == S
/-- l cut at each S from the left; k signs are still to be passed over -/
def spl (S : List Nat) : Nat → List Nat → List Nat → List (List Nat)
  | _, acc, [] => [acc]
  | 0, acc, c :: r => if pre S (c :: r) = true then acc :: spl S (S.length - 1) [] r else spl S 0 (acc ++ [c]) r
  | k + 1, acc, _ :: r => spl S k acc r
/-- what stands before the first S, and behind it -/
def par (S : List Nat) : List Nat → List Nat → Option (List Nat × List Nat)
  | _, [] => none
  | acc, c :: r => if pre S (c :: r) = true then some (acc, (c :: r).drop S.length) else par S (acc ++ [c]) r

/-! ### the model's split and partition are these -/
/-! ### computing spl and par -/
/-- joined lists -/
def joinL (S : List Nat) : List (List Nat) → List Nat
  | [] => []
  | [p] => p
  | p :: q :: r => p ++ (S ++ joinL S (q :: r))
/-! ### digits -/
/-- the signs of a number -/
def numL (n : Nat) : List Nat := (Nat.toDigits 10 n).map Char.toNat
/-! ### words: x.split() -/
def wstep (st : List (List Nat) × List Nat) (c : Nat) : List (List Nat) × List Nat :=
  if Unicode.isSpace c = true then (if st.2 = [] then st else (st.1 ++ [st.2], [])) else (st.1, st.2 ++ [c])
def wfin (st : List (List Nat) × List Nat) : List (List Nat) := if st.2 = [] then st.1 else st.1 ++ [st.2]
end TL
end 

namespace L2
open PySem PySem.Spec PyProof.Rows

/-- a new list of texts, tracked -/
def rNewStrs (ys : List Str) : Hp → VK → Prop := fun H Q => ∀ p, H p = none → Q (.ref p) (upd H p (.lst (ys.map V.str)))

section
variable {X : Cx} {pins : List (Addr × Obj)} {σ : St} {H : Hp} {s : Shared} {Q : VK}
end

section
variable {X : Cx}

/-! ### of a text alone -/
/-! ### of a text and a text -/
end

section
variable {X : Cx} {o e : Expr} {to te : TE}
def tM0 (r : V → List V → Hp → VK → Prop) (to : TE) : TE := fun σ H Q => to σ H fun x H1 => (∃ a, x = .str a) ∧ r x [] H1 Q
def tM1 (r : V → List V → Hp → VK → Prop) (to te : TE) : TE := fun σ H Q => to σ H fun x H1 => (∃ a, x = .str a) ∧ te σ H1 fun y H2 => r x [y] H2 Q
end
end L2

namespace L2
open PySem PySem.Spec PyProof.Rows

section
variable {X : Cx}
end

/-! ### slices of a text -/
/-- a part, clipped, as the text's slice reckons it -/
def clipS (n d : Nat) : Option Int → Int
  | none => (d : Int)
  | some i => max 0 (min (if i < 0 then i + (n : Int) else i) (n : Int))
/-- z[lo:hi] -/
def cutS (z : Str) (lo hi : Option Int) : Str :=
  ⟨((z.cps.toList.drop (HT.sIx z.length 0 lo)).take (HT.sIx z.length z.length hi - HT.sIx z.length 0 lo)).toArray⟩
def rSlS : V → Option Int → Option Int → Hp → VK → Prop := fun x lo hi H Q => ∃ z, x = .str z ∧ z.length ≤ sizeLine ∧ Q (.str (cutS z lo hi)) H
end L2

namespace Att
open PySem PySem.W PySem.Calls PyProof.Rows

/-! ### the script -/
theorem ints_of_wellAll {P : Params} {h : Heap} : ∀ (ns : List Int) (vs : List Value), WellAll P h vs (ns.map WData.int) → IntsAre vs ns := by
  intro ns
  induction ns with
  | nil =>
    intro vs w
    rw [List.map_nil] at w
    cases w
    exact .nil
  | cons n ns ih =>
    intro vs w
    rw [List.map_cons] at w
    cases w with
    | cons a b =>
      cases a
      exact .cons _ _ (ih _ b)

theorem script_of {l : OpenLaw} {n : Nat} (hn : l.most = some n) {P : Params} {h : Heap} {args : List WData} {vals : List Value}
    (hpre : l.row.toRowW.claim.pre args = true) (hwl : WellAll P h vals args) :
    ∃ a vs ns, vals = [Value.ref a] ∧ args = [WData.list (ns.map WData.int)] ∧ h.get? a = some { cls := .type "list", data := .seq vs.toArray } ∧ IntsAre vs ns ∧ ns.length ≤ n := by
  have hsh : WShape.hasAll [] args [.list .int] = true := (pre_splitW hpre).1
  have hc : l.pre.holds [] { args := args } = true := (pre_splitW hpre).2
  obtain ⟨d, r, rfl, h1, h2⟩ := hasAllW_cons hsh
  obtain rfl := hasAllW_nil h2
  obtain ⟨xs, rfl, h3⟩ := hasW_list h1
  obtain ⟨ns, rfl⟩ := items_int h3
  have hlen : ns.length ≤ n := by
    unfold OpenLaw.pre at hc
    have h4 : (WTm.not (.lt (.lit (.int (n : Int))) (.len (.arg 0)))).holds [] { args := [.list (ns.map .int)] } = true := by
      have h4 := (holds_andW hc).1
      rw [hn] at h4
      exact h4
    have h5 := condW_of h4 (w_not (w_lt w_lit (w_len_list (w_arg rfl))))
    rw [List.length_map] at h5
    refine Nat.le_of_not_lt fun q => ?_
    have q' : (n : Int) < ((ns.length : Nat) : Int) := by omega
    first
      | (rw [decide_eq_true q'] at h5; exact absurd h5 (by decide))
      | (simp at h5; omega)
  cases hwl with
  | cons w1 w2 =>
    cases w2
    cases w1 with
    | list ho hall => exact ⟨_, _, ns, rfl, rfl, ho, ints_of_wellAll ns _ hall, hlen⟩

theorem post_true (l : OpenLaw) (args : List WData) : l.row.toRowW.claim.post args (.bool true) args = true :=
  postW_of (r := l.row.toRowW) (X := (true == true))
    (show WShape.has [] (.bool true) .bool = true by first | rfl | decide | simp [WShape.has, WShape.arms, WShape.armsAll])
    (show (WTm.eq .res (.lit (.bool true))).value [] { args := args, res := some (.bool true), after := args } = some (.bool (true == true)) from w_eq_bool (w_res rfl) w_lit) rfl

/-! ### the attachment: holds_open's last premise (the goal 'hc' behind k_head) from a wpAny of the law's body -/
/-- the same from a codeAny of the CALL (for a layer whose function contracts speak of calls) -/
theorem attach_call {l : OpenLaw} {n : Nat} {q : Program} {loose : List Str} {XP : (Str → Option Value) → Heap → Prop} {YP : World → Heap → Prop} {d : DefRec}
    (hn : l.most = some n) (hdf : d.params.defaults = [])
    (call : ∀ (w : World) (s₀ s₁ : Shared) (mg mb : Str → Option Value) (fa : Addr) (o : Obj) (pm cd doc : Value) (a : Addr) (vs : List Value) (ns : List Int),
      Ground q loose [] XP w s₀ mg mb s₁.heap → YP w s₁.heap →
      s₁.heap.get? fa = some o → o.data = .func (docDef d.name d.params d.body d.scope pm cd doc) → s₁.heap.CodeRec cd d.name → mg d.name = some (.ref fa) →
      s₁.heap.get? a = some { cls := .type "list", data := .seq vs.toArray } → IntsAre vs ns → ns.length ≤ n → s₁.gens = #[] →
      codeAny (model l.prog w) callerA (.call (.ref fa) ⟨[.ref a], []⟩) (fun r s' => r = .ok (.ret (.bool true)) ∧ OldK s₁.heap s'.heap ∧ s'.os = s₁.os ∧ AllBare s'.gens) s₁) :
    WalkO q loose XP YP l.row.toRowW d [] (fun f vs => PySem.call f vs) := by
  intro w s₀ s₁ mg mb G Y fa o pm cd doc dV kV ho hd hcd hD hmg hg args vals as hpre hlay hrd hwl hlo
  obtain rfl : dV = .none := Dflts.none hD hdf
  obtain rfl : kV = .none := Dflts.noKw hD
  obtain ⟨a, vs, ns, rfl, rfl, hobj, hints, hlen⟩ := script_of hn hpre hwl
  refine enter_call (codeAny_mono (call w s₀ s₁ mg mb fa o pm cd doc a vs ns G Y ho (fd_plain hd) hcd hmg hobj hints hlen hg) fun r s' hq => ?_)
  obtain ⟨rfl, h2, h3, h4⟩ := hq
  exact ⟨.inl ⟨.bool true, .bool true, [], rfl, fun _ => rfl, .bool true, post_true l _, fun _ => ⟨List.Pairwise.nil, fun _ hm => (nomatch hm)⟩⟩, h2, h3, h4⟩

/-! ### rules over ANY heap (no ledger) from facts about the written part K: the library's own take a ledger (News) for what they write -/
section
variable {prog : Program} {w : World} {A : Around} {E : Value → Shared → Prop} {s : Shared} {K : Frag}

/-! the whole heap as the ledger: makes every rule that writes through a ledger a rule over any heap -/
def noObjs (h : Heap) : Heap := { h with objs := #[] }
def ledger (h : Heap) (L d : Addr) : List (Addr × Obj) := (List.range h.objs.size).filterMap fun a => if a = L ∨ a = d then none else (h.get? a).map fun o => (a, o)
end
end Att

namespace L2
open PySem PySem.Spec PyProof.Rows

theorem vals_ints : ∀ {vs : List Value} {ns : List Int}, IntsAre vs ns → Vals (ns.map V.int) vs
  | _, _, .nil => .nil
  | _, _, .cons n t h => .cons ⟨t, rfl⟩ (vals_ints h)

/-- nothing is tracked but the script, known to the object (or it is an object of the module) -/
def Only (H : Hp) : Prop := ∀ b, H b = none ∨ ∃ o xs, H b = some (.frz o (.lst xs))

/-- THE HEAD: the law's promise, at the heap behind the top. F, the promise of the law's def, may use that base is part of the heap (so K.In base, base.Ns mainGlobals mg stand in Mod) -/
theorem law_call {P : Program} {w : World} {K : PySem.W.Frag} {mg mb : Str → Option Value} {CX : CXT} {k : Nat} {fa a : Addr} {fd : FuncData} {x : Str} {sp : Sp} {s₁ : Shared} {vs : List Value} {ns : List Int}
    (KX : K.In s₁.heap) (hns : s₁.heap.Ns mainGlobals mg) (hb : s₁.heap.Ns builtinsNs mb) (hbb : ∀ x : Str, x ≠ "__name__" → mb x = bootBuiltins x) (hlim : s₁.heap.NoLimit) (hg : s₁.gens = #[])
    (ha : s₁.heap.get? a = some { cls := .type "list", data := .seq vs.toArray }) (hi : IntsAre vs ns) (hl : ns.length ≤ sizeLine) (hr : Room k callerA)
    (F : ∀ base : Heap, K.In base → base.Ns mainGlobals mg → FnOk P w K mg base CX k fa fd [x] sp) (hbind : ∀ (s : Shared) (u : Value), BindsTo s fd ⟨[u], []⟩ [(x, u)])
    (hsp : ∀ H : Hp, Only H → SqL K H a (ns.map V.int) → sp [.ref a] H (fun v _ => v = .bl true) fun _ _ _ => False)
    (hCX : ∀ H e s', CX [] H s₁ (fun _ _ _ => False) e s' → False) :
    codeAny (model P w) callerA (.call (.ref fa) ⟨[.ref a], []⟩) (fun r s' => r = .ok (.ret (.bool true)) ∧ OldK s₁.heap s'.heap ∧ s'.os = s₁.os ∧ AllBare s'.gens) s₁ := by
  have rv := vals_ints hi
  have lenV := hi.length
  -- from an abstract heap in which nothing but the script may be tracked
  have core : ∀ H : Hp, Only H → SqL K H a (ns.map V.int) → HOk P w H s₁.heap → (∀ b, H b ≠ none → b = a) → (H a ≠ none → K.lookup a = none) →
      codeAny (model P w) callerA (.call (.ref fa) ⟨[.ref a], []⟩) (fun r s' => r = .ok (.ret (.bool true)) ∧ OldK s₁.heap s'.heap ∧ s'.os = s₁.os ∧ AllBare s'.gens) s₁ := by
    intro H hO hS hok hA hK
    have base_of : ∀ {b : Addr} {o : Obj}, s₁.heap.get? b = some o → H b = none → (hidT s₁.heap H).get? b = some o := fun e n => hidT_get e n
    have noA : ∀ {b : Addr} {o : Obj} {es : Array DictEntry} {ep : Nat}, s₁.heap.get? b = some o → o.data = .dict es ep → H b = none := fun {b o es ep} e d => by
      cases q : H b with
      | none => rfl
      | some u =>
        have e' : b = a := hA b (by rw [q]; simp)
        subst e'
        rw [ha] at e; cases e
        have d' : Data.seq vs.toArray _ = Data.dict es ep := d
        cases d'
    have nsK : ∀ {b : Addr} {m : Str → Option Value}, s₁.heap.Ns b m → (hidT s₁.heap H).Ns b m := fun {b m} ⟨o, es, ep, e, d, r⟩ => ⟨o, es, ep, base_of e (noA e d), d, r⟩
    have hKb : K.In (hidT s₁.heap H) := fun b o e => base_of (KX b o e) (by
      cases q : H b with
      | none => rfl
      | some u =>
        have e' : b = a := hA b (by rw [q]; simp)
        subst e'
        rw [hK (by rw [q]; simp)] at e; cases e)
    have hM : Mod K mg (hidT s₁.heap H) := ⟨hKb, nsK hns, ⟨mb, nsK hb, hbb⟩, let ⟨mc, h1, h2⟩ := hlim; ⟨mc, nsK h1, h2⟩⟩
    have e0 : Env0 P w K mg (hidT s₁.heap H) callerA [] s₁ H := ⟨rfl, hM, fun b o e => of_hidT e, Nat.le_of_eq (hidT_size _ _), trivial, fun b hb => absurd (show b ∈ ([] : List Addr) from hb) (by simp), hok, .of_eq hg⟩
    refine codeAny_mono ((F _ hKb (nsK hns)).run callerA [] s₁ H ⟨[.ref a], []⟩ [.ref a] [.ref a] _ _ hr e0 (hbind s₁ (.ref a)) (.cons rfl .nil) (hsp H hO hS)) fun r s' h => ?_
    cases r with
    | error e => exact (hCX H e s' h).elim
    | ok fl =>
      cases fl with
      | next => exact False.elim h
      | brk => exact False.elim h
      | cont => exact False.elim h
      | ret u =>
        obtain ⟨v, H', os, bare, un, hok', r', q⟩ := h
        have q' : v = .bl true := q
        subst q'
        obtain rfl : u = Value.bool true := r'
        refine ⟨rfl, OldK.of_keep fun b o e => ?_, os, bare⟩
        cases q : H b with
        | none => exact un.keep b o e q (by intro z; exact absurd (show b ∈ ([] : List Addr) from z) (by simp)) (by simp)
        | some u =>
          rcases hO b with z | ⟨ob, xs, z⟩
          · rw [q] at z; cases z
          · have z2 := un.frzs b ob _ z
            obtain ⟨e1, _⟩ := hok b _ z
            obtain ⟨e2, _⟩ := hok' b _ z2
            rw [e] at e1; cases e1
            exact e2
  cases hk : K.lookup a with
  | some o =>
    -- the script is one of the module's own objects
    have e := KX a o hk
    rw [ha] at e
    cases e
    refine core (fun _ => none) (fun _ => .inl rfl) (.inr ⟨_, vs.toArray, _, hk, rfl, rfl, rfl, by rw [List.size_toArray, lenV]; exact hl, by simpa using rv⟩) (fun b u z => by have z' : (none : Option HO) = some u := z; cases z') (fun b z => absurd rfl z) fun z => absurd rfl z
  | none =>
    refine core (fun b => if b = a then some (.frz { cls := .type "list", data := .seq vs.toArray } (.lst (ns.map V.int))) else none) (fun b => ?_) (.inl (.inr ⟨{ cls := .type "list", data := .seq vs.toArray }, if_pos rfl⟩)) (fun b u z => ?_) (fun b z => ?_) fun _ => hk
    · by_cases hb : b = a
      · exact .inr ⟨_, _, if_pos hb⟩
      · exact .inl (if_neg hb)
    · by_cases hb : b = a
      · have z' := (if_pos hb).symm.trans z
        cases z'
        subst hb
        exact ⟨ha, by rw [List.length_map]; exact hl, vs, _, rv, ha⟩
      · have z' := (if_neg hb).symm.trans z
        cases z'
    · by_cases hb : b = a
      · exact hb
      · exact absurd (if_neg hb) z
end L2

namespace L2
open PySem PySem.Spec PyProof.Rows

abbrev KOf {K : PySem.W.Frag} {h : Heap} (_ : K.In h) : PySem.W.Frag := K

/-- the goal that k_head leaves (case hc), from the law's promise. F gives the function object fd (K's own) once, then the promise over every base -/
theorem walk_of {l : PySem.W.OpenLaw} {n k : Nat} {q : Program} {loose : List Str} {XP : (Str → Option Value) → Heap → Prop} {YP : World → Heap → Prop} {d : DefRec} {K : Params → PySem.W.Frag} {CX : World → CXT} {sp : World → Sp} {x : Str}
    (hn : l.most = some n) (hn2 : n ≤ sizeLine) (hdf : d.params.defaults = []) (hr : Room k callerA)
    (hY : ∀ (w : World) (h : Heap), YP w h → (K w.params).In h)
    (F : ∀ (w : World) (mg : Str → Option Value) (fa : Addr) (h : Heap), (K w.params).In h → h.Ns mainGlobals mg → mg d.name = some (.ref fa) →
      ∃ fd : FuncData, (∀ (s : Shared) (u : Value), BindsTo s fd ⟨[u], []⟩ [(x, u)]) ∧
        ∀ base : Heap, (K w.params).In base → base.Ns mainGlobals mg → FnOk l.prog w (K w.params) mg base (CX w) k fa fd [x] (sp w))
    (hsp : ∀ (w : World) (H : Hp) (a : Addr) (ns : List Int), ns.length ≤ n → Only H → SqL (K w.params) H a (ns.map V.int) → sp w [.ref a] H (fun v _ => v = .bl true) fun _ _ _ => False)
    (hCX : ∀ (w : World) (H : Hp) (s : Shared) (e : Value) (s' : Shared), CX w [] H s (fun _ _ _ => False) e s' → False) :
    PySem.W.WalkO q loose XP YP l.row.toRowW d [] (fun f vs => PySem.call f vs) := by
  refine Att.attach_call hn hdf fun w s₀ s₁ mg mb fa o pm cd doc a vs ns G Y ho hd hcd hmg hobj hints hlen hg => ?_
  have KX := hY w _ Y
  obtain ⟨fd, hb, hF⟩ := F w mg fa _ KX G.T.g hmg
  exact law_call KX G.T.g G.T.b G.T.builtins G.T.nolimit hg hobj hints (Nat.le_trans hlen hn2) hr hF hb (fun H hO hS => hsp w H a ns hlen hO hS) fun H e s' => hCX w H s₁ e s'
end L2

/- THE LAST THEOREM (shape; LID, My.* are yours):
   My.Adr: a structure of the addresses that your layer names (classes, functions); My.Txt K t: a structure (Prop) of the equations over K;
   My.txt_mk : {K} {implicit addresses ..} (e1 : nsIn K mainGlobals "law" = some (some (.ref f))) (e2 : K.lookup f = some ⟨oc, od, .func (fnOf "law" "law" params body scope dV kV doc pm an cdv ct), sl⟩) (e3 : codeIn K cdv "law" = true) .. : ∃ t, My.Txt K t

set_option maxRecDepth 100000 in
set_option maxHeartbeats 0 in
theorem PySem.Challenge.cw_LID_holds : PySem.Challenge.rw_LID.Holds := by
  w_on; o_law; k_head; (case hw => w_witness2)
  k_fill
  refine L2.walk_of (l := PySem.Challenge.rw_LID) (n := 63) (k := 40) (x := "script") (CX := fun w => ..) (sp := fun _ => My.sp_law) rfl (by decide) rfl ⟨rfl, by decide, by decide⟩ (fun w h Y => PySem.W.kIn_of Y) ?F ?S ?C
  case F =>
    intro w mg fa h KX G hmg
    have T : ∃ t, My.Txt (L2.KOf KX) t := by
      dsimp only [L2.KOf]                          -- K must stand as «<heap const> w.params» for k_is
      refine' My.txt_mk ?e1 ?e2 ?e3 ..
      (case e1 => PySem.W.k_is)                    -- in the order: a name -> its address -> its object -> its parts
      (case e2 => PySem.W.k_is)
      ..
    obtain ⟨t, T⟩ := T
    have e0 := hmg.symm.trans (PySem.W.mg_of KX G T.law)
    cases e0                                       -- fa is the law's own address
    exact ⟨_, fun s u => .of_eq rfl, fun base kb nb => My.law_fn T kb nb⟩     -- if «.of_eq rfl» comes too early: refine' ⟨_, ?b, fun base kb nb => My.law_fn T kb nb⟩; exact fun s u => .of_eq rfl
  case S => exact fun w H a ns hl hO hS => ..
  case C => exact ..
(the tactic k_is has no namespace: write k_is) -/

/-! SHORT WORDS over the layer: a def of the text, its body, what a loop and a test want. -/
namespace L2
open PySem PySem.Spec PyProof.Rows

/-! ### the text by places -/
/-- the j-th statement of a class's body -/
def inClass (s : Stmt) (j : Nat) : Stmt := match s with
  | .ClassDef _ _ _ body _ _ _ _ _ _ _ => body.getD j (.Pass ⟨0, 0, 0, 0⟩)
  | _ => .Pass ⟨0, 0, 0, 0⟩
def defArgs (s : Stmt) : Arguments := match s with
  | .FunctionDef _ a _ _ _ _ _ _ _ _ => a
  | _ => { posonlyargs := [], args := [], vararg := none, kwonlyargs := [], kw_defaults := [], kwarg := none, defaults := [] }
def defBody (s : Stmt) : List Stmt := match s with
  | .FunctionDef _ _ b _ _ _ _ _ _ _ => b
  | _ => []
def defScope (s : Stmt) : Scope := match s with
  | .FunctionDef _ _ _ _ _ _ sc _ _ _ => sc
  | _ => { kind := .function, names := [], isGenerator := false, isCoroutine := false }

/-! ### no exception leaves a def -/
abbrev CX0 : CXT := fun _ _ _ _ _ _ => False
abbrev E0 : XK := fun _ _ _ => False
theorem pass0 {X : Cx} : Passes CX0 X E0 := fun _ _ _ _ _ _ _ h => h.elim

/-! ### a def (or method) of the text as it stands behind the top -/
structure Fun (K : PySem.W.Frag) (x qual : Str) (st : Stmt) (f : Addr) (fd : FuncData) : Prop where
  ex : ∃ (oc : Value) (od : Option Addr) (kV doc pm : Value) (an : Option Addr) (cdv ct : Value) (osl : Array (Option Value)),
    fd = PySem.W.fnOf x qual (defArgs st) (defBody st) (defScope st) .none kV doc pm an cdv ct ∧ K.lookup f = some ⟨oc, od, .func fd, osl⟩ ∧ PySem.W.codeIn K cdv qual = true
  kp : PySem.W.keepIn K (.ref f) = true
section
variable {P : Program} {w : World} {K : PySem.W.Frag} {mg : Str → Option Value} {base : Heap}
/-- THE RULE for a def: its body as a term of rules, and the reading of that term -/
theorem Fun.ok {x qual : Str} {st : Stmt} {f : Addr} {fd : FuncData} {N ps : List Str} {k : Nat} {sp : Sp} (F : Fun K x qual st f fd) (S : FnScope N ps (defScope st)) (len : ∀ vs H Q E, sp vs H Q E → vs.length = ps.length)
    (hbody : ∀ (cdv : Value) (A : Around) (outer : List Env) (s : Shared) (H : Hp) (vs : List V) (Q : VK) (E : XK), Room k (A.deeper (envOfC qual (defScope st) s.heap.objs.size f cdv)) → sp vs H Q E →
      ∃ t, PSs (cxOf CX0 P w K mg base N qual (defScope st) f cdv A outer s H E).nox (defBody st) t ∧ t { nx := fun _ H' => Q .non H', rt := Q } (start N vs) H) : FnOk P w K mg base CX0 (k + 1) f fd ps sp := by
  obtain ⟨oc, od, kV, doc, pm, an, cdv, ct, osl, rfl, lk, hcd⟩ := F.ex
  refine fn_of lk hcd S len fun A outer s H vs Q E hr hsp => ?_
  obtain ⟨t, h, q⟩ := hbody cdv A outer s H vs Q E hr hsp
  exact ⟨t, h.nox, q⟩
/-- how its arguments bind (no defaults): h is «fun _ _ _ _ _ _ us hl => match us, hl with | [_, _], _ => rfl», one _ a parameter -/
theorem Fun.binds {x qual : Str} {st : Stmt} {f : Addr} {fd : FuncData} {ps : List Str} (F : Fun K x qual st f fd)
    (h : ∀ (kV doc pm : Value) (an : Option Addr) (cdv ct : Value) (us : List Value), us.length = ps.length → bindArgs (PySem.W.fnOf x qual (defArgs st) (defBody st) (defScope st) .none kV doc pm an cdv ct) ⟨us, []⟩ = pure (ps.zip us)) : Binds K fd ps [] := by
  obtain ⟨oc, od, kV, doc, pm, an, cdv, ct, osl, rfl, lk, hcd⟩ := F.ex
  exact .all (h kV doc pm an cdv ct)
theorem fun_mk {x qual : Str} {st : Stmt} {f : Addr} {oc : Value} {od an : Option Addr} {osl : Array (Option Value)} {kV doc pm cdv ct : Value} (l : K.lookup f = some ⟨oc, od, .func (PySem.W.fnOf x qual (defArgs st) (defBody st) (defScope st) .none kV doc pm an cdv ct), osl⟩)
    (c : PySem.W.codeIn K cdv qual = true) (k : PySem.W.keepIn K (.ref f) = true) : Fun K x qual st f (PySem.W.fnOf x qual (defArgs st) (defBody st) (defScope st) .none kV doc pm an cdv ct) := ⟨⟨oc, od, kV, doc, pm, an, cdv, ct, osl, rfl, l, c⟩, k⟩
end
theorem hu_of {A : Around} {k : Nat} (hr : Room k A) : A.units + 1 < cLine := Nat.lt_of_le_of_lt (Nat.add_le_add_left (by decide : 1 ≤ 64) _) hr.units
theorem small1000 {n : Nat} (h : n ≤ 1000) : n < sizeLine := Nat.lt_of_le_of_lt h (by decide)

/-! ### expressions in short: the name that stands in the i-th slot -/
section
variable {X : Cx}
theorem pv (i : Nat) {x : Str} {pos : Pos} (hN : X.N[i]? = some x := by rfl) (hv : Vis X.env.scope x := by first | exact Or.inl rfl | exact Or.inr (Or.inl rfl) | exact Or.inr (Or.inr rfl)) (hd : (x == ("__debug__" : Str)) = false := by decide)
    (hcd : (x == ("__classdict__" : Str)) = false := by decide) : PE X (.Name x pos) (tVar i) := pe_var hN hv hd hcd
end

/-! ### tests -/
theorem iteF {A B : Prop} (h : B) : if false = true then A else B := by
  rw [if_neg Bool.false_ne_true]
  exact h
theorem iteT {A B : Prop} (h : A) : if true = true then A else B := by
  rw [if_pos rfl]
  exact h
/-! ### heaps -/
/-- all that was tracked is as it was -/
def Same (H H' : Hp) : Prop := ∀ b o, H b = some o → H' b = some o
theorem Same.refl (H : Hp) : Same H H := fun _ _ h => h
theorem Same.trans {H H1 H2 : Hp} (a : Same H H1) (b : Same H1 H2) : Same H H2 := fun c o h => b c o (a c o h)
theorem Same.free {H H' : Hp} (e : Same H H') {l : Addr} (h : H' l = Option.none) : H l = Option.none := by
  cases q : H l with
  | none => rfl
  | some o =>
    rw [e l o q] at h
    cases h
theorem Same.seq {K : PySem.W.Frag} {H H' : Hp} {a : Addr} {xs : List V} (e : Same H H') (h : SqL K H a xs) : SqL K H' a xs := by
  rcases h with (h | ⟨o, h⟩) | h
  · exact .inl (.inl (e _ _ h))
  · exact .inl (.inr ⟨o, e _ _ h⟩)
  · exact .inr h

/-! ### a dict's pairs: keys that differ -/
section
variable {κ : Type} [DecidableEq κ]
end
/-! ### lists -/
theorem at_of {xs : List V} {z : Int} {j : Nat} {v : V} (e : z = (j : Int)) (h : xs[j]? = some v) : atI xs z = some v := by
  rw [e]
  exact atI_nat h
/-- a new instance and its __init__ leave all that was tracked as it was -/
theorem Same.made {H H1 : Hp} {x dx C : Addr} (nx : H x = Option.none) (nd : H dx = Option.none) (k : ∀ b o, (upd (upd H dx (.own x)) x (.ins C dx [])) b = some o → b ≠ x → H1 b = some o) : Same H H1 := fun b o e =>
  k b o (by rw [upd_ne (ne_of_none e nx), upd_ne (ne_of_none e nd)]; exact e) (ne_of_none e nx)
end L2
section
set_option Elab.async false
set_option linter.all false
set_option maxRecDepth 100000
set_option maxHeartbeats 2000000
namespace L2
open PySem PySem.Spec PyProof.Rows
open PySem.W (WData Codec OpenSpec Well WellAll ReadsW ReadsAllW)
/-! ### an answer as data -/
mutual
/-- x stands for the datum d, lists and tuples all the way -/
inductive Dw (K : PySem.W.Frag) (H : Hp) : V → WData → Prop
  | non : Dw K H .non .none
  | bl (b : Bool) : Dw K H (.bl b) (.bool b)
  | int (i : Int) : Dw K H (.int i) (.int i)
  | str (x : Str) : Dw K H (.str x) (.str x)
  | byt (b : Array UInt8) : Dw K H (.byt b) (.bytes b.toList)
  | lst {a : Addr} {xs : List V} {ds : List WData} : SqL K H a xs → DwAll K H xs ds → Dw K H (.ref a) (.list ds)
  | tup {a : Addr} {xs : List V} {ds : List WData} : SqT K H a xs → DwAll K H xs ds → Dw K H (.ref a) (.tuple ds)
inductive DwAll (K : PySem.W.Frag) (H : Hp) : List V → List WData → Prop
  | nil : DwAll K H [] []
  | cons {v : V} {vs : List V} {d : WData} {ds : List WData} : Dw K H v d → DwAll K H vs ds → DwAll K H (v :: vs) (d :: ds)
end
theorem dw_ints {K : PySem.W.Frag} {H : Hp} : ∀ ns : List Int, DwAll K H (ns.map V.int) (ns.map WData.int)
  | [] => .nil
  | n :: r => .cons (.int n) (dw_ints r)
theorem ints_dw {K : PySem.W.Frag} {H : Hp} : ∀ (ns : List Int) (xs : List V), DwAll K H xs (ns.map WData.int) → xs = ns.map V.int
  | [], xs, h => by
    cases h
    rfl
  | n :: r, xs, h => by
    cases h with
    | cons h1 h2 =>
      cases h1
      rw [ints_dw r _ h2] <;> rfl
section
variable {P : Program} {w : World} {K : PySem.W.Frag} {H : Hp} {h : Heap} {R : PySem.W.WRecords} {cl : Str → Option Addr}
theorem sqL_at {a : Addr} {xs : List V} (hok : HOk P w H h) (KX : K.In h) (q : SqL K H a xs) : ∃ (its : List Value) (o : Obj) (n : Nat), Vals xs its ∧ h.get? a = some o ∧ o.cls = .type "list" ∧ o.data = .seq its.toArray n := by
  rcases q with q | ⟨o, its, n, e, hc, _, hd, _, hv⟩
  · obtain ⟨_, its, n, hv, e⟩ := (show ObjOk P w H h a (.lst xs) from q.ok hok)
    exact ⟨its, _, n, hv, e, rfl, rfl⟩
  · exact ⟨its.toList, o, n, hv, KX _ _ e, hc, by simp [hd]⟩
theorem sqT_at {a : Addr} {xs : List V} (hok : HOk P w H h) (KX : K.In h) (q : SqT K H a xs) : ∃ (its : List Value) (o : Obj) (n : Nat), Vals xs its ∧ h.get? a = some o ∧ o.cls = .type "tuple" ∧ o.data = .seq its.toArray n := by
  rcases q with q | ⟨o, its, n, e, hc, hd, _, hv⟩
  · obtain ⟨_, its, hv, o, e, hc, n, hd⟩ := (show ObjOk P w H h a (.tup xs) from q.ok hok)
    exact ⟨its, o, n, hv, e, hc, hd⟩
  · exact ⟨its.toList, o, n, hv, KX _ _ e, hc, by simp [hd]⟩
mutual
theorem Dw.reads (hok : HOk P w H h) (KX : K.In h) : ∀ (d : WData) (v : V) (u : Value), Dw K H v d → RelV v u → ∃ as, ReadsW R cl h u d as
  | .none, _, _, x, r => by
    cases x
    cases r
    exact ⟨_, ReadsW.none⟩
  | .bool b, _, _, x, r => by
    cases x
    cases r
    exact ⟨_, ReadsW.bool b⟩
  | .int i, _, _, x, r => by
    cases x
    obtain ⟨t, rfl⟩ := r
    exact ⟨_, ReadsW.int i t⟩
  | .str s, _, _, x, r => by
    cases x
    obtain ⟨t, rfl⟩ := r
    exact ⟨_, ReadsW.str s t⟩
  | .bytes b, _, _, x, r => by
    cases x
    obtain ⟨t, rfl⟩ := r
    exact ⟨_, ReadsW.bytes _ t⟩
  | .list ds, _, _, x, r => by
    cases x with
    | lst hs ha =>
      cases r
      obtain ⟨its, o, n, rv, ho, hc, hd⟩ := sqL_at hok KX hs
      obtain ⟨as, hr⟩ := Dw.readsAll hok KX ds _ its ha rv
      exact ⟨_, ReadsW.list ho hc hd hr⟩
  | .tuple ds, _, _, x, r => by
    cases x with
    | tup hs ha =>
      cases r
      obtain ⟨its, o, n, rv, ho, hc, hd⟩ := sqT_at hok KX hs
      obtain ⟨as, hr⟩ := Dw.readsAll hok KX ds _ its ha rv
      exact ⟨_, ReadsW.tuple ho hc hd hr⟩
  | .float _, _, _, x, _ => by cases x
  | .dict _, _, _, x, _ => by cases x
  | .bytearray _, _, _, x, _ => by cases x
  | .set _, _, _, x, _ => by cases x
  | .frozenset _, _, _, x, _ => by cases x
  | .obj _ _, _, _, x, _ => by cases x
theorem Dw.readsAll (hok : HOk P w H h) (KX : K.In h) : ∀ (ds : List WData) (vs : List V) (us : List Value), DwAll K H vs ds → Vals vs us → ∃ as, ReadsAllW R cl h us ds as
  | [], _, _, x, r => by
    cases x
    cases r
    exact ⟨_, ReadsAllW.nil⟩
  | d :: ds, _, _, x, r => by
    cases x with
    | cons h1 h2 =>
      cases r with
      | cons r1 r2 =>
        obtain ⟨as, q1⟩ := Dw.reads hok KX d _ _ h1 r1
        obtain ⟨bs, q2⟩ := Dw.readsAll hok KX ds _ _ h2 r2
        exact ⟨_, ReadsAllW.cons q1 q2⟩
end
end
/-! ### the arguments -/
mutual
/-- data that a codec tells -/
def plW : WData → Bool
  | .none => true
  | .bool _ => true
  | .int _ => true
  | .str _ => true
  | .bytes _ => true
  | .list xs => plWs xs
  | .tuple xs => plWs xs
  | _ => false
def plWs : List WData → Bool
  | [] => true
  | x :: r => plW x && plWs r
end
theorem plWs_map {α : Type} {f : α → WData} (h : ∀ a, plW (f a) = true) : ∀ l : List α, plWs (l.map f) = true
  | [] => rfl
  | x :: r => by
    show (plW (f x) && plWs (r.map f)) = true
    rw [h x, plWs_map h r] <;> rfl
theorem pl_enc : ∀ (c : Codec) (a : c.denote), plW (c.enc a) = true
  | .unit, _ => rfl
  | .bool, _ => rfl
  | .int _ _, _ => rfl
  | .nat _ _, _ => rfl
  | .u8, _ => rfl
  | .bytes _ _, _ => rfl
  | .text _ _ _ _, _ => rfl
  | .list _ _ c, a => plWs_map (fun x => pl_enc c x) a
  | .pair c d, a => by
    show (plW (c.enc a.1) && (plW (d.enc a.2) && true)) = true
    rw [pl_enc c a.1, pl_enc d a.2] <;> rfl
  | .triple c d e, a => by
    show (plW (c.enc a.1) && (plW (d.enc a.2.1) && (plW (e.enc a.2.2) && true))) = true
    rw [pl_enc c a.1, pl_enc d a.2.1, pl_enc e a.2.2] <;> rfl
  | .option c, none => rfl
  | .option c, some x => pl_enc c x
theorem pl_encAll : ∀ (cs : List Codec) (a : Codec.denoteAll cs), plWs (Codec.encAll cs a) = true
  | [], _ => rfl
  | c :: cs, a => by
    show (plW (c.enc a.1) && plWs (Codec.encAll cs a.2)) = true
    rw [pl_enc c a.1, pl_encAll cs a.2] <;> rfl
theorem weight_mem : ∀ {xs : List WData} {d : WData}, d ∈ xs → d.weight ≤ WData.weightAll xs
  | [], d, h => absurd h (by simp)
  | x :: r, d, h => by
    show d.weight ≤ x.weight + 1 + WData.weightAll r
    rcases List.mem_cons.mp h with e | m
    · rw [e]
      omega
    · have z := weight_mem m
      omega
def toV : Value → V
  | .none => .non
  | .bool b => .bl b
  | .int i _ => .int i
  | .str x _ => .str x
  | .bytes b _ => .byt b
  | .ref a => .ref a
  | _ => .non
/-- a value of the arguments, its objects among A -/
def OkU (A : List Addr) : Value → Prop
  | .none => True
  | .bool _ => True
  | .int _ _ => True
  | .str _ _ => True
  | .bytes _ _ => True
  | .ref a => a ∈ A
  | _ => False
theorem OkU.mono {A B : List Addr} (h : ∀ a ∈ A, a ∈ B) : ∀ {u : Value}, OkU A u → OkU B u := fun {u} x => by
  cases u with
  | ref a => exact h a x
  | none => trivial
  | bool b => trivial
  | int i t => trivial
  | str s t => trivial
  | bytes b t => trivial
  | _ => exact False.elim x
theorem relV_toV {A : List Addr} {u : Value} (x : OkU A u) : RelV (toV u) u := by
  cases u with
  | ref a => rfl
  | none => rfl
  | bool b => rfl
  | int i t => exact ⟨t, rfl⟩
  | str s t => exact ⟨t, rfl⟩
  | bytes b t => exact ⟨t, rfl⟩
  | _ => exact False.elim x
theorem vals_toV {A : List Addr} : ∀ {vs : List Value}, (∀ u ∈ vs, OkU A u) → Vals (vs.map toV) vs
  | [], _ => .nil
  | u :: r, h => .cons (relV_toV (h u (List.mem_cons_self ..))) (vals_toV fun x hx => h x (List.mem_cons_of_mem _ hx))
/-- an object of the arguments -/
def ArgOb (h : Heap) (A : List Addr) (a : Addr) : Prop := ∃ vs : List Value, vs.length ≤ sizeLine ∧ (∀ u ∈ vs, OkU A u) ∧
  (h.get? a = some { cls := .type "list", data := .seq vs.toArray } ∨ h.get? a = some { cls := .type "tuple", data := .seq vs.toArray })
theorem ArgOb.mono {h : Heap} {A B : List Addr} {a : Addr} (k : ∀ a ∈ A, a ∈ B) (x : ArgOb h A a) : ArgOb h B a := by
  obtain ⟨vs, h1, h2, h3⟩ := x
  exact ⟨vs, h1, fun u hu => (h2 u hu).mono k, h3⟩
theorem wellAll_len {P : Params} {h : Heap} : ∀ {vs : List Value} {ds : List WData}, WellAll P h vs ds → vs.length = ds.length
  | _, _, .nil => rfl
  | _, _, .cons _ b => by
    show _ + 1 = _ + 1
    rw [wellAll_len b]
theorem well_list {P : Params} {h : Heap} {v : Value} {ds : List WData} (x : Well P h v (.list ds)) : ∃ (a : Addr) (vs : List Value), v = .ref a ∧ h.get? a = some { cls := .type "list", data := .seq vs.toArray } ∧ WellAll P h vs ds := by
  cases x with
  | list ho hall => exact ⟨_, _, rfl, ho, hall⟩
theorem well_tuple {P : Params} {h : Heap} {v : Value} {ds : List WData} (x : Well P h v (.tuple ds)) : ∃ (a : Addr) (vs : List Value), v = .ref a ∧ h.get? a = some { cls := .type "tuple", data := .seq vs.toArray } ∧ WellAll P h vs ds := by
  cases x with
  | tuple ho hall => exact ⟨_, _, rfl, ho, hall⟩
theorem well_cons {P : Params} {h : Heap} {us : List Value} {d : WData} {ds : List WData} (x : WellAll P h us (d :: ds)) : ∃ (v : Value) (vs : List Value), us = v :: vs ∧ Well P h v d ∧ WellAll P h vs ds := by
  cases x with
  | cons a b => exact ⟨_, _, rfl, a, b⟩
theorem line_of {n : Nat} (h : n ≤ 1048576) : n ≤ sizeLine := Nat.le_trans h (by decide)
section
variable {P : Params} {h : Heap}
mutual
theorem area_one : ∀ (d : WData) (v : Value), Well P h v d → plW d = true → d.weight ≤ 1048576 → ∃ A : List Addr, OkU A v ∧ ∀ a ∈ A, ArgOb h A a
  | .none, _, x, _, _ => by
    cases x
    exact ⟨[], trivial, fun a m => absurd m (by simp)⟩
  | .bool b, _, x, _, _ => by
    cases x
    exact ⟨[], trivial, fun a m => absurd m (by simp)⟩
  | .int i, _, x, _, _ => by
    cases x
    exact ⟨[], trivial, fun a m => absurd m (by simp)⟩
  | .str s, _, x, _, _ => by
    cases x
    exact ⟨[], trivial, fun a m => absurd m (by simp)⟩
  | .bytes b, _, x, _, _ => by
    cases x
    exact ⟨[], trivial, fun a m => absurd m (by simp)⟩
  | .list ds, _, x, p, z => by
    obtain ⟨a, vs, rfl, ho, hall⟩ := well_list x
    have z2 : WData.weightAll ds ≤ 1048576 := z
    obtain ⟨A, h1, h2⟩ := area_all ds _ hall p fun d hd => Nat.le_trans (weight_mem hd) z2
    have k : ∀ b ∈ A, b ∈ a :: A := fun b hb => List.mem_cons_of_mem _ hb
    refine ⟨a :: A, List.mem_cons_self .., fun b hb => ?_⟩
    rcases List.mem_cons.mp hb with e | m
    · rw [e]
      exact ⟨vs, line_of (by rw [wellAll_len hall]; exact Nat.le_trans (PySem.W.length_le_weightAllW ds) z2), fun u hu => (h1 u hu).mono k, .inl ho⟩
    · exact (h2 b m).mono k
  | .tuple ds, _, x, p, z => by
    obtain ⟨a, vs, rfl, ho, hall⟩ := well_tuple x
    have z2 : WData.weightAll ds ≤ 1048576 := z
    obtain ⟨A, h1, h2⟩ := area_all ds _ hall p fun d hd => Nat.le_trans (weight_mem hd) z2
    have k : ∀ b ∈ A, b ∈ a :: A := fun b hb => List.mem_cons_of_mem _ hb
    refine ⟨a :: A, List.mem_cons_self .., fun b hb => ?_⟩
    rcases List.mem_cons.mp hb with e | m
    · rw [e]
      exact ⟨vs, line_of (by rw [wellAll_len hall]; exact Nat.le_trans (PySem.W.length_le_weightAllW ds) z2), fun u hu => (h1 u hu).mono k, .inr ho⟩
    · exact (h2 b m).mono k
  | .float _, _, _, p, _ => Bool.noConfusion (show false = true from p)
  | .dict _, _, _, p, _ => Bool.noConfusion (show false = true from p)
  | .bytearray _, _, _, p, _ => Bool.noConfusion (show false = true from p)
  | .set _, _, _, p, _ => Bool.noConfusion (show false = true from p)
  | .frozenset _, _, _, p, _ => Bool.noConfusion (show false = true from p)
  | .obj _ _, _, _, p, _ => Bool.noConfusion (show false = true from p)
theorem area_all : ∀ (ds : List WData) (vs : List Value), WellAll P h vs ds → plWs ds = true → (∀ d ∈ ds, d.weight ≤ 1048576) → ∃ A : List Addr, (∀ u ∈ vs, OkU A u) ∧ ∀ a ∈ A, ArgOb h A a
  | [], _, x, _, _ => by
    cases x
    exact ⟨[], fun u m => absurd m (by simp), fun a m => absurd m (by simp)⟩
  | d :: ds, _, x, p, z => by
    obtain ⟨v, vs, rfl, x1, x2⟩ := well_cons x
    have q : plW d = true ∧ plWs ds = true := Bool.and_eq_true_iff.mp p
    obtain ⟨A, a1, a2⟩ := area_one d v x1 q.1 (z d (List.mem_cons_self ..))
    obtain ⟨B, b1, b2⟩ := area_all ds vs x2 q.2 fun e he => z e (List.mem_cons_of_mem _ he)
    have kA : ∀ b ∈ A, b ∈ A ++ B := fun b hb => List.mem_append.mpr (.inl hb)
    have kB : ∀ b ∈ B, b ∈ A ++ B := fun b hb => List.mem_append.mpr (.inr hb)
    refine ⟨A ++ B, fun u hu => ?_, fun b hb => ?_⟩
    · rcases List.mem_cons.mp hu with e | m
      · rw [e]
        exact a1.mono kA
      · exact (b1 u m).mono kB
    · rcases List.mem_append.mp hb with m | m
      · exact (a2 b m).mono kA
      · exact (b2 b m).mono kB
end
end
/-- what is tracked of an argument's object -/
def hoOf (o : Obj) : Option HO := match o.data with
  | .seq vs _ => if (o.cls == Value.type "list") = true then some (.frz o (.lst (vs.toList.map toV))) else some (.frz o (.tup (vs.toList.map toV)))
  | _ => none
def argH (K : PySem.W.Frag) (h : Heap) (A : List Addr) : Hp := fun b => if b ∈ A then (if (K.lookup b).isNone = true then (h.get? b).bind hoOf else none) else none
/-- nothing is tracked but what is known to the object -/
def OnlyF (H : Hp) : Prop := ∀ b, H b = none ∨ ∃ o u, H b = some (.frz o u)
theorem hoOf_lst (vs : List Value) : hoOf { cls := .type "list", data := .seq vs.toArray } = some (.frz { cls := .type "list", data := .seq vs.toArray } (.lst (vs.map toV))) := by
  show (if (Value.type "list" == Value.type "list") = true then some (HO.frz { cls := .type "list", data := .seq vs.toArray } (.lst (vs.toArray.toList.map toV))) else some (HO.frz { cls := .type "list", data := .seq vs.toArray } (.tup (vs.toArray.toList.map toV)))) = _
  rw [if_pos (beq_self_eq_true _)]
theorem hoOf_tup (vs : List Value) : hoOf { cls := .type "tuple", data := .seq vs.toArray } = some (.frz { cls := .type "tuple", data := .seq vs.toArray } (.tup (vs.map toV))) := by
  show (if (Value.type "tuple" == Value.type "list") = true then some (HO.frz { cls := .type "tuple", data := .seq vs.toArray } (.lst (vs.toArray.toList.map toV))) else some (HO.frz { cls := .type "tuple", data := .seq vs.toArray } (.tup (vs.toArray.toList.map toV)))) = _
  rw [if_neg (by decide)]
section
variable {P : Program} {w : World} {K : PySem.W.Frag} {h : Heap} {A : List Addr}
theorem argH_at {b : Addr} {o : Obj} (hb : b ∈ A) (hk : K.lookup b = none) (e : h.get? b = some o) : argH K h A b = hoOf o := by
  unfold argH
  rw [if_pos hb, hk, if_pos (show (none : Option Obj).isNone = true from rfl), e] <;> rfl
theorem of_argH {b : Addr} {u : HO} (q : argH K h A b = some u) : b ∈ A ∧ K.lookup b = none := by
  unfold argH at q
  by_cases hb : b ∈ A
  · rw [if_pos hb] at q
    cases hk : K.lookup b with
    | none => exact ⟨hb, rfl⟩
    | some o =>
      rw [hk, if_neg (by simp)] at q
      cases q
  · rw [if_neg hb] at q
    cases q
/-- what stands tracked -/
theorem argH_is (ar : ∀ a ∈ A, ArgOb h A a) {b : Addr} {u : HO} (q : argH K h A b = some u) : K.lookup b = none ∧ ∃ vs : List Value, vs.length ≤ sizeLine ∧ (∀ u ∈ vs, OkU A u) ∧
    ((h.get? b = some { cls := .type "list", data := .seq vs.toArray } ∧ u = .frz { cls := .type "list", data := .seq vs.toArray } (.lst (vs.map toV))) ∨
     (h.get? b = some { cls := .type "tuple", data := .seq vs.toArray } ∧ u = .frz { cls := .type "tuple", data := .seq vs.toArray } (.tup (vs.map toV)))) := by
  obtain ⟨hb, hk⟩ := of_argH q
  obtain ⟨vs, h1, h2, h3⟩ := ar b hb
  refine ⟨hk, vs, h1, h2, ?_⟩
  rcases h3 with e | e
  · rw [argH_at hb hk e, hoOf_lst] at q
    exact .inl ⟨e, (Option.some.inj q).symm⟩
  · rw [argH_at hb hk e, hoOf_tup] at q
    exact .inr ⟨e, (Option.some.inj q).symm⟩
theorem argH_only (ar : ∀ a ∈ A, ArgOb h A a) : OnlyF (argH K h A) := fun b => by
  cases q : argH K h A b with
  | none => exact .inl rfl
  | some u =>
    obtain ⟨_, vs, _, _, ⟨_, e⟩ | ⟨_, e⟩⟩ := argH_is ar q
    · exact .inr ⟨_, _, by rw [e]⟩
    · exact .inr ⟨_, _, by rw [e]⟩
theorem argH_ok (ar : ∀ a ∈ A, ArgOb h A a) : HOk P w (argH K h A) h := fun b u q => by
  obtain ⟨_, vs, h1, h2, ⟨e, rfl⟩ | ⟨e, rfl⟩⟩ := argH_is ar q
  · exact ⟨e, by rw [List.length_map]; exact h1, vs, _, vals_toV h2, e⟩
  · exact ⟨e, by rw [List.length_map]; exact h1, vs, vals_toV h2, _, e, rfl, _, rfl⟩
theorem seq_inj {c c' : Value} {vs us : List Value} (e : (some { cls := c, data := .seq vs.toArray } : Option Obj) = some { cls := c', data := .seq us.toArray }) : c = c' ∧ vs = us := by
  have e1 := Option.some.inj e
  have e2 : c = c' := congrArg Obj.cls e1
  have e3 : Data.seq vs.toArray = Data.seq us.toArray := congrArg Obj.data e1
  injection e3 with e4
  refine ⟨e2, ?_⟩
  have e5 := congrArg Array.toList e4
  simpa using e5
/-- a list argument -/
theorem argL (KX : K.In h) (ar : ∀ a ∈ A, ArgOb h A a) {a : Addr} {vs : List Value} (ha : a ∈ A) (e : h.get? a = some { cls := .type "list", data := .seq vs.toArray }) : (∀ u ∈ vs, OkU A u) ∧ SqL K (argH K h A) a (vs.map toV) := by
  obtain ⟨us, h1, h2, h3⟩ := ar a ha
  have hu : us = vs := by
    rcases h3 with q | q
    · rw [e] at q
      exact (seq_inj q).2.symm
    · rw [e] at q
      exact absurd (Value.type.inj (seq_inj q).1) (by decide)
  subst hu
  refine ⟨h2, ?_⟩
  cases hk : K.lookup a with
  | none => exact .inl (.inr ⟨_, by rw [argH_at ha hk e, hoOf_lst]⟩)
  | some o =>
    have e2 := KX a o hk
    rw [e] at e2
    obtain rfl := Option.some.inj e2
    exact .inr ⟨_, us.toArray, _, hk, rfl, rfl, rfl, by rw [List.size_toArray]; exact h1, by simpa using vals_toV h2⟩
theorem argT (KX : K.In h) (ar : ∀ a ∈ A, ArgOb h A a) {a : Addr} {vs : List Value} (ha : a ∈ A) (e : h.get? a = some { cls := .type "tuple", data := .seq vs.toArray }) : (∀ u ∈ vs, OkU A u) ∧ SqT K (argH K h A) a (vs.map toV) := by
  obtain ⟨us, h1, h2, h3⟩ := ar a ha
  have hu : us = vs := by
    rcases h3 with q | q
    · rw [e] at q
      exact absurd (Value.type.inj (seq_inj q).1) (by decide)
    · rw [e] at q
      exact (seq_inj q).2.symm
  subst hu
  refine ⟨h2, ?_⟩
  cases hk : K.lookup a with
  | none => exact .inl (.inr ⟨_, by rw [argH_at ha hk e, hoOf_tup]⟩)
  | some o =>
    have e2 := KX a o hk
    rw [e] at e2
    obtain rfl := Option.some.inj e2
    exact .inr ⟨_, us.toArray, _, hk, rfl, rfl, by rw [List.size_toArray]; exact h1, by simpa using vals_toV h2⟩
mutual
theorem dw_one {Pm : Params} (KX : K.In h) (ar : ∀ a ∈ A, ArgOb h A a) : ∀ (d : WData) (v : Value), Well Pm h v d → plW d = true → OkU A v → Dw K (argH K h A) (toV v) d
  | .none, _, x, _, _ => by
    cases x
    exact .non
  | .bool b, _, x, _, _ => by
    cases x
    exact .bl b
  | .int i, _, x, _, _ => by
    cases x
    exact .int i
  | .str s, _, x, _, _ => by
    cases x
    exact .str s
  | .bytes b, _, x, _, _ => by
    cases x
    have z := Dw.byt (K := K) (H := argH K h A) b.toArray
    exact z
  | .list ds, _, x, p, hu => by
    obtain ⟨a, vs, rfl, ho, hall⟩ := well_list x
    obtain ⟨h2, hs⟩ := argL KX ar hu ho
    exact .lst hs (dw_all KX ar ds _ hall p h2)
  | .tuple ds, _, x, p, hu => by
    obtain ⟨a, vs, rfl, ho, hall⟩ := well_tuple x
    obtain ⟨h2, hs⟩ := argT KX ar hu ho
    exact .tup hs (dw_all KX ar ds _ hall p h2)
  | .float _, _, _, p, _ => Bool.noConfusion (show false = true from p)
  | .dict _, _, _, p, _ => Bool.noConfusion (show false = true from p)
  | .bytearray _, _, _, p, _ => Bool.noConfusion (show false = true from p)
  | .set _, _, _, p, _ => Bool.noConfusion (show false = true from p)
  | .frozenset _, _, _, p, _ => Bool.noConfusion (show false = true from p)
  | .obj _ _, _, _, p, _ => Bool.noConfusion (show false = true from p)
theorem dw_all {Pm : Params} (KX : K.In h) (ar : ∀ a ∈ A, ArgOb h A a) : ∀ (ds : List WData) (vs : List Value), WellAll Pm h vs ds → plWs ds = true → (∀ u ∈ vs, OkU A u) → DwAll K (argH K h A) (vs.map toV) ds
  | [], _, x, _, _ => by
    cases x
    exact .nil
  | d :: ds, _, x, p, hu => by
    obtain ⟨v, vs, rfl, x1, x2⟩ := well_cons x
    have q : plW d = true ∧ plWs ds = true := Bool.and_eq_true_iff.mp p
    exact .cons (dw_one KX ar d v x1 q.1 (hu _ (List.mem_cons_self ..))) (dw_all KX ar ds vs x2 q.2 fun u m => hu u (List.mem_cons_of_mem _ m))
end
end
/-! ### the call -/
theorem spec_call {P : Program} {w : World} {K : PySem.W.Frag} {mg mb : Str → Option Value} {CX : CXT} {k : Nat} {fa : Addr} {fd : FuncData} {ps : List Str} {sp : Sp} {s₁ : Shared} {vals : List Value} {ds : List WData} {R : PySem.W.WRecords} {cl : Str → Option Addr} {d0 : WData}
    (KX : K.In s₁.heap) (hns : s₁.heap.Ns mainGlobals mg) (hb : s₁.heap.Ns builtinsNs mb) (hbb : ∀ x : Str, x ≠ "__name__" → mb x = bootBuiltins x) (hlim : s₁.heap.NoLimit) (hg : s₁.gens = #[])
    (hwl : WellAll w.params s₁.heap vals ds) (hpl : plWs ds = true) (hwt : ∀ d ∈ ds, d.weight ≤ 1048576) (hr : Room k callerA)
    (F : ∀ base : Heap, K.In base → base.Ns mainGlobals mg → FnOk P w K mg base CX k fa fd ps sp) (hbind : ∀ (s : Shared) (us : List Value), us.length = ps.length → BindsTo s fd ⟨us, []⟩ (ps.zip us)) (hlen : ds.length = ps.length)
    (hsp : ∀ (H : Hp) (xs : List V), OnlyF H → DwAll K H xs ds → sp xs H (fun v H' => Dw K H' v d0) fun _ _ _ => False)
    (hCX : ∀ H e s', CX [] H s₁ (fun _ _ _ => False) e s' → False) :
    codeAny (model P w) callerA (.call (.ref fa) ⟨vals, []⟩) (fun r s' => ∃ u as, r = .ok (.ret u) ∧ ReadsW R cl s'.heap u d0 as ∧ OldK s₁.heap s'.heap ∧ s'.os = s₁.os ∧ AllBare s'.gens) s₁ := by
  obtain ⟨A, ho, ar⟩ := area_all ds vals hwl hpl hwt
  have hO : OnlyF (argH K s₁.heap A) := argH_only ar
  have hok : HOk P w (argH K s₁.heap A) s₁.heap := argH_ok ar
  have hS := dw_all KX ar ds vals hwl hpl ho
  have hV := vals_toV ho
  have hK : ∀ b u, argH K s₁.heap A b = some u → K.lookup b = none := fun b u q => (argH_is ar q).1
  have noA : ∀ {b : Addr} {o : Obj} {es : Array DictEntry} {ep : Nat}, s₁.heap.get? b = some o → o.data = .dict es ep → argH K s₁.heap A b = none := fun {b o es ep} e d => by
    cases q : argH K s₁.heap A b with
    | none => rfl
    | some u =>
      obtain ⟨_, vs, _, _, ⟨e2, _⟩ | ⟨e2, _⟩⟩ := argH_is ar q
      · rw [e2] at e
        cases e
        have d' : Data.seq vs.toArray _ = Data.dict es ep := d
        cases d'
      · rw [e2] at e
        cases e
        have d' : Data.seq vs.toArray _ = Data.dict es ep := d
        cases d'
  generalize argH K s₁.heap A = H at hO hok hS hK noA
  have base_of : ∀ {b : Addr} {o : Obj}, s₁.heap.get? b = some o → H b = none → (hidT s₁.heap H).get? b = some o := fun e n => hidT_get e n
  have nsK : ∀ {b : Addr} {m : Str → Option Value}, s₁.heap.Ns b m → (hidT s₁.heap H).Ns b m := fun {b m} ⟨o, es, ep, e, d, r⟩ => ⟨o, es, ep, base_of e (noA e d), d, r⟩
  have nK : ∀ b o, K.lookup b = some o → H b = none := fun b o e => by
    cases q : H b with
    | none => rfl
    | some u =>
      rw [hK b u q] at e
      cases e
  have hKb : K.In (hidT s₁.heap H) := fun b o e => base_of (KX b o e) (nK b o e)
  have hM : Mod K mg (hidT s₁.heap H) := ⟨hKb, nsK hns, ⟨mb, nsK hb, hbb⟩, let ⟨mc, h1, h2⟩ := hlim; ⟨mc, nsK h1, h2⟩⟩
  have e0 : Env0 P w K mg (hidT s₁.heap H) callerA [] s₁ H := ⟨rfl, hM, fun b o e => of_hidT e, Nat.le_of_eq (hidT_size _ _), trivial, fun b hb => absurd (show b ∈ ([] : List Addr) from hb) (by simp), hok, .of_eq hg⟩
  have hl : vals.length = ps.length := by rw [wellAll_len hwl]; exact hlen
  refine codeAny_mono ((F _ hKb (nsK hns)).run callerA [] s₁ H ⟨vals, []⟩ vals (vals.map toV) _ _ hr e0 (hbind s₁ vals hl) hV (hsp H _ hO hS)) fun r s' x => ?_
  cases r with
  | error e => exact (hCX H e s' x).elim
  | ok fl =>
    cases fl with
    | next => exact False.elim x
    | brk => exact False.elim x
    | cont => exact False.elim x
    | ret u =>
      obtain ⟨v, H', os, bare, un, hok', r', q⟩ := x
      have kept : ∀ b o, s₁.heap.get? b = some o → s'.heap.get? b = some o := fun b o e => by
        cases q2 : H b with
        | none => exact un.keep b o e q2 (by intro z; exact absurd (show b ∈ ([] : List Addr) from z) (by simp)) (by simp)
        | some u2 =>
          rcases hO b with z | ⟨ob, u3, z⟩
          · rw [q2] at z
            cases z
          · have z2 := un.frzs b ob _ z
            obtain ⟨e1, _⟩ := hok b _ z
            obtain ⟨e2, _⟩ := hok' b _ z2
            rw [e] at e1
            cases e1
            exact e2
      have KX' : K.In s'.heap := fun b o e => kept b o (KX b o e)
      obtain ⟨as, hrd⟩ := Dw.reads (R := R) (cl := cl) hok' KX' d0 v u q r'
      exact ⟨u, as, rfl, hrd, OldK.of_keep kept, os, bare⟩
/-! ### the row -/
theorem layable_weight {ds : List WData} (h : WData.layableAll ds = true) : ∀ d ∈ ds, d.weight ≤ 1048576 := fun d hd =>
  (PySem.W.layableW_iff.mp (List.all_eq_true.mp h d hd)).2.2
theorem encAll_len : ∀ (cs : List Codec) (a : Codec.denoteAll cs), (Codec.encAll cs a).length = cs.length
  | [], _ => rfl
  | c :: cs, a => by
    show (Codec.encAll cs a.2).length + 1 = cs.length + 1
    rw [encAll_len cs a.2]
/-- the goal that k_headS leaves (case hc), from the promise of the row's def: whatever the arguments that the codecs let and the row asks for, the def gives what stands for enc (f ..) -/
theorem walk_spec {r : OpenSpec} {k : Nat} {q : Program} {loose : List Str} {XP : (Str → Option Value) → Heap → Prop} {YP : World → Heap → Prop} {d : DefRec} {K : Params → PySem.W.Frag} {CX : World → CXT} {ps : List Str} {sp : World → Sp}
    (hwell : r.wellSaid = true) (hdf : d.params.defaults = []) (hlen : r.args.length = ps.length) (hr : Room k callerA)
    (hY : ∀ (w : World) (h : Heap), YP w h → (K w.params).In h)
    (F : ∀ (w : World) (mg : Str → Option Value) (fa : Addr) (h : Heap), YP w h → (K w.params).In h → h.Ns mainGlobals mg → mg d.name = some (.ref fa) →
      ∃ fd : FuncData, (∀ (s : Shared) (us : List Value), us.length = ps.length → BindsTo s fd ⟨us, []⟩ (ps.zip us)) ∧
        ∀ base : Heap, (K w.params).In base → base.Ns mainGlobals mg → FnOk r.prog w (K w.params) mg base (CX w) k fa fd ps (sp w))
    (hsp : ∀ (w : World) (H : Hp) (xs : List V) (a : Codec.denoteAll r.args), OnlyF H → Codec.withinAll r.args a = true → Codec.app r.args r.asked a = true → DwAll (K w.params) H xs (Codec.encAll r.args a) →
      sp w xs H (fun v H' => Dw (K w.params) H' v (r.ret.enc (Codec.app r.args r.f a))) fun _ _ _ => False)
    (hCX : ∀ (w : World) (H : Hp) (s : Shared) (e : Value) (s' : Shared), CX w [] H s (fun _ _ _ => False) e s' → False) :
    PySem.W.WalkOS q loose XP YP r d [] (fun f vs => PySem.call f vs) := by
  intro w s_0 s₁ mg mb G Y fa o pm cd doc dV kV ho hd hcd hD hmg hg args vals as hpre hlay hrd hwl hlo
  obtain ⟨a, e1, e2⟩ := PySem.W.os_pre_some hpre
  obtain ⟨e3, hwi⟩ := Codec.encAll_of_decAll r.args args a e1
  subst e3
  have KX := hY w _ Y
  obtain ⟨fd, hb, hF⟩ := F w mg fa _ Y KX G.T.g hmg
  refine PySem.W.enter_call (codeAny_mono (spec_call (R := []) (cl := classAt s_0.heap) (d0 := r.ret.enc (Codec.app r.args r.f a)) KX G.T.g G.T.b G.T.builtins G.T.nolimit hg hwl (pl_encAll _ _) (layable_weight hlay) hr hF hb (by rw [encAll_len]; exact hlen)
    (fun H xs hO hS => hsp w H xs a hO hwi e2 hS) fun H e s' => hCX w H s₁ e s') fun r' s' hq => ?_)
  obtain ⟨u, as', rfl, h1, h2, h3, h4⟩ := hq
  exact ⟨.inl ⟨u, _, as', rfl, fun _ => rfl, h1, (OpenSpec.post_iff hwell hwi _ _).mpr rfl, fun z => Bool.noConfusion (show false = true from z)⟩, h2, h3, h4⟩
/-- the same where the promise hangs on the written part alone -/
theorem walk_specK {r : OpenSpec} {k : Nat} {q : Program} {loose : List Str} {XP : (Str → Option Value) → Heap → Prop} {YP : World → Heap → Prop} {d : DefRec} {K : Params → PySem.W.Frag} {CX : CXT} {ps : List Str} {sp : PySem.W.Frag → Sp}
    (hwell : r.wellSaid = true) (hdf : d.params.defaults = []) (hlen : r.args.length = ps.length) (hr : Room k callerA)
    (hY : ∀ (w : World) (h : Heap), YP w h → (K w.params).In h)
    (F : ∀ (w : World) (mg : Str → Option Value) (fa : Addr) (h : Heap), YP w h → (K w.params).In h → h.Ns mainGlobals mg → mg d.name = some (.ref fa) →
      ∃ fd : FuncData, (∀ (s : Shared) (us : List Value), us.length = ps.length → BindsTo s fd ⟨us, []⟩ (ps.zip us)) ∧
        ∀ base : Heap, (K w.params).In base → base.Ns mainGlobals mg → FnOk r.prog w (K w.params) mg base CX k fa fd ps (sp (K w.params)))
    (hsp : ∀ (K : PySem.W.Frag) (H : Hp) (xs : List V) (a : Codec.denoteAll r.args), OnlyF H → Codec.withinAll r.args a = true → Codec.app r.args r.asked a = true → DwAll K H xs (Codec.encAll r.args a) →
      sp K xs H (fun v H' => Dw K H' v (r.ret.enc (Codec.app r.args r.f a))) fun _ _ _ => False)
    (hCX : ∀ (H : Hp) (s : Shared) (e : Value) (s' : Shared), CX [] H s (fun _ _ _ => False) e s' → False) :
    PySem.W.WalkOS q loose XP YP r d [] (fun f vs => PySem.call f vs) :=
  walk_spec (K := K) (CX := fun _ => CX) (sp := fun w => sp (K w.params)) hwell hdf hlen hr hY F (fun w H xs a h1 h2 h3 h4 => hsp (K w.params) H xs a h1 h2 h3 h4) fun _ H s e s' => hCX H s e s'
end L2
-- rests on (row put in by the clerk, for the bench that shows a file only what it spells): KE.SpHead KE.OsShapes
end
namespace Nw
open Sv34Neutral (S step nats natural asked1 fits)

def ans (a : Sv34.Ans) : List Int := a.v :: Sv34Neutral.ints a.l
def isBegin : Sv34.Call → Bool
  | .begin_ _ _ => true
  | _ => false
/-- a call as it is laid in the list: its numbers, its object, what it is -/
inductive Laid : List Int → Nat → Sv34.Call → Prop
  | begin_ (k : Nat) (me n : Int) : Laid [0, (k : Int), me, n] k (.begin_ me n)
  | do_ (k : Nat) (what key : Int) (v w : Nat) : v < 2 ^ 64 → w < 2 ^ 64 → Laid [1, (k : Int), what, key, (v : Int), (w : Int)] k (.do_ what key v w)
  | record (k : Nat) : Laid [2, (k : Int)] k .record
  | wrote (k : Nat) : Laid [3, (k : Int)] k .wrote
  | got (k : Nat) (b : List Nat) : b.length = 40 → (∀ x, x ∈ b → x < 256) → Laid ([4, (k : Int), 40] ++ Sv34Neutral.ints b) k (.got b)
  | place (k : Nat) : Laid [5, (k : Int)] k .place
  | answer (k : Nat) : Laid [6, (k : Int)] k .answer
  | value (k : Nat) (key : Int) : Laid [7, (k : Int), key] k (.value key)
/-- calls that are asked of the objects s, one behind another, and what is due -/
inductive Due : S → List Int → List Int → Prop
  | nil (s : S) : Due s [] []
  | cons {s : S} {c : List Int} {k : Nat} {x : Sv34.Call} {r out : List Int} : Laid c k x → k < 8 → (isBegin x = true ∨ (s.getD k none).isSome = true) →
      Due (s.set k (Sv34.does (s.getD k none) x).1) r out → Due s (c ++ r) (((ans (Sv34.does (s.getD k none) x).2).length : Int) :: (ans (Sv34.does (s.getD k none) x).2 ++ out))

theorem nat_of {z : Int} {b : Nat} (h : natural z b = true) : ∃ k : Nat, z = (k : Int) ∧ k < 2 ^ b := by
  unfold natural at h
  rw [Bool.and_eq_true, decide_eq_true_eq, decide_eq_true_eq] at h
  obtain ⟨k, rfl⟩ := Int.eq_ofNat_of_zero_le h.1
  refine ⟨k, rfl, ?_⟩
  have := h.2
  have e : ((2 : Int) ^ b) = ((2 ^ b : Nat) : Int) := by simp
  rw [e] at this
  exact Int.ofNat_lt.mp this
theorem nats_of : ∀ {l : List Int}, l.all (fun z => natural z 8) = true → ∃ b : List Nat, l = Sv34Neutral.ints b ∧ ∀ x, x ∈ b → x < 256
  | [], _ => ⟨[], rfl, fun _ h => by cases h⟩
  | z :: l, h => by
    rw [List.all_cons, Bool.and_eq_true] at h
    obtain ⟨k, rfl, hk⟩ := nat_of h.1
    obtain ⟨b, rfl, hb⟩ := nats_of h.2
    refine ⟨k :: b, rfl, fun x hx => ?_⟩
    rcases List.mem_cons.mp hx with rfl | hx
    · exact hk
    · exact hb x hx
theorem nats_ints : ∀ b : List Nat, nats (Sv34Neutral.ints b) = b
  | [] => rfl
  | x :: b => by
    show ((x : Int).toNat) :: nats (Sv34Neutral.ints b) = x :: b
    rw [nats_ints b]
    rfl
theorem ints_len (b : List Nat) : (Sv34Neutral.ints b).length = b.length := List.length_map ..

/-- one call, taken from the list's head -/
theorem one {s : S} {p : Int} {r t : List Int} {c : List (List Int)} (h : PyFlat.call PySv34.shape (p :: r) = some (c, t)) (ha : asked1 (PySv34.whole c) = true) (hf : fits s [PySv34.whole c] = true) :
    ∃ (c' : List Int) (k : Nat) (x : Sv34.Call), p :: r = c' ++ t ∧ Laid c' k x ∧ k < 8 ∧ (isBegin x = true ∨ (s.getD k none).isSome = true) ∧ step s (PySv34.whole c) = (s.set k (Sv34.does (s.getD k none) x).1, ans (Sv34.does (s.getD k none) x).2) := by
  unfold PyFlat.call PySv34.shape at h
  by_cases p0 : p = 0
  · subst p0
    simp only [if_pos] at h
    match r, h with
    | [], h => simp at h
    | [_], h => simp at h
    | [_, _], h => simp at h
    | o :: me :: n :: r, h =>
      simp [PyFlat.rows] at h
      obtain ⟨rfl, rfl⟩ := h
      simp [PySv34.whole, asked1] at ha
      obtain ⟨k, rfl, hk⟩ := nat_of ha.1
      exact ⟨_, k, _, rfl, .begin_ k me n, hk, .inl rfl, rfl⟩
  by_cases p1 : p = 1
  · subst p1
    simp only [if_pos, if_neg p0] at h
    match r, h with
    | [], h => simp at h
    | [_], h => simp at h
    | [_, _], h => simp at h
    | [_, _, _], h => simp at h
    | [_, _, _, _], h => simp at h
    | o :: what :: key :: v :: w :: r, h =>
      simp [PyFlat.rows] at h
      obtain ⟨rfl, rfl⟩ := h
      simp [PySv34.whole, asked1] at ha
      obtain ⟨k, rfl, hk⟩ := nat_of ha.1
      obtain ⟨v, rfl, hv⟩ := nat_of ha.2.2.2.1
      obtain ⟨w, rfl, hw⟩ := nat_of ha.2.2.2.2
      exact ⟨_, k, _, rfl, .do_ k what key v w hv hw, hk, .inr (by simpa [PySv34.whole, fits] using hf), rfl⟩
  by_cases p2 : p = 2
  · subst p2
    simp only [if_pos, if_neg p0, if_neg p1] at h
    match r, h with
    | [], h => simp at h
    | o :: r, h =>
      simp [PyFlat.rows] at h
      obtain ⟨rfl, rfl⟩ := h
      simp [PySv34.whole, asked1] at ha
      obtain ⟨k, rfl, hk⟩ := nat_of ha
      exact ⟨_, k, _, rfl, .record k, hk, .inr (by simpa [PySv34.whole, fits] using hf), rfl⟩
  by_cases p3 : p = 3
  · subst p3
    simp only [if_pos, if_neg p0, if_neg p1, if_neg p2] at h
    match r, h with
    | [], h => simp at h
    | o :: r, h =>
      simp [PyFlat.rows] at h
      obtain ⟨rfl, rfl⟩ := h
      simp [PySv34.whole, asked1] at ha
      obtain ⟨k, rfl, hk⟩ := nat_of ha
      exact ⟨_, k, _, rfl, .wrote k, hk, .inr (by simpa [PySv34.whole, fits] using hf), rfl⟩
  by_cases p4 : p = 4
  · subst p4
    simp only [if_pos, if_neg p0, if_neg p1, if_neg p2, if_neg p3] at h
    match r, h with
    | [], h => simp at h
    | [o], h => simp [PyFlat.rows, PyFlat.row] at h
    | o :: m :: r, h =>
      simp only [PyFlat.rows, PyFlat.row, List.length_cons, List.drop_succ_cons, List.drop_zero, List.take_succ_cons, List.take_zero] at h
      by_cases q : 0 ≤ m ∧ m.toNat ≤ r.length
      · rw [if_neg (by omega), if_pos q] at h
        simp at h
        obtain ⟨rfl, rfl⟩ := h
        have ha' : natural o 3 = true ∧ ((r.take m.toNat).all fun z => natural z 8) = true ∧ Sv34Neutral.long (r.take m.toNat) 40 40 40 = true := by
          have e : (natural o 3 && ((r.take m.toNat).all (fun (z : Int) => natural z 8) && Sv34Neutral.long (r.take m.toNat) 40 40 40)) = true := ha
          rw [Bool.and_eq_true, Bool.and_eq_true] at e
          exact e
        obtain ⟨k, rfl, hk⟩ := nat_of ha'.1
        obtain ⟨b, eb, hb⟩ := nats_of ha'.2.1
        have hl : ((r.take m.toNat).length : Int) = 40 := by
          have := ha'.2.2
          unfold Sv34Neutral.long at this
          rw [decide_eq_true_eq] at this
          simpa using this
        rw [List.length_take] at hl
        have em : m = 40 := by omega
        subst em
        have lb : b.length = 40 := by
          have z := congrArg List.length eb
          rw [ints_len, List.length_take] at z
          omega
        refine ⟨[4, (k : Int), 40] ++ Sv34Neutral.ints b, k, .got b, ?_, .got k b lb hb, hk, .inr ?_, ?_⟩
        · show 4 :: (k : Int) :: 40 :: r = 4 :: (k : Int) :: 40 :: (Sv34Neutral.ints b ++ r.drop 40)
          rw [← eb]
          show 4 :: (k : Int) :: 40 :: r = 4 :: (k : Int) :: 40 :: (r.take 40 ++ r.drop 40)
          rw [List.take_append_drop]
        · have e : ((4 : Int).toNat == 0 || (s.getD ((k : Int).toNat) none).isSome) && true = true := hf
          simpa using e
        · rw [eb]
          show (s.set k (Sv34.does (s.getD k none) (.got (nats (Sv34Neutral.ints b)))).1, ans (Sv34.does (s.getD k none) (.got (nats (Sv34Neutral.ints b)))).2) = _
          rw [nats_ints]
      · rw [if_neg (by omega), if_neg q] at h
        simp at h
  by_cases p5 : p = 5
  · subst p5
    simp only [if_pos, if_neg p0, if_neg p1, if_neg p2, if_neg p3, if_neg p4] at h
    match r, h with
    | [], h => simp at h
    | o :: r, h =>
      simp [PyFlat.rows] at h
      obtain ⟨rfl, rfl⟩ := h
      simp [PySv34.whole, asked1] at ha
      obtain ⟨k, rfl, hk⟩ := nat_of ha
      exact ⟨_, k, _, rfl, .place k, hk, .inr (by simpa [PySv34.whole, fits] using hf), rfl⟩
  by_cases p6 : p = 6
  · subst p6
    simp only [if_pos, if_neg p0, if_neg p1, if_neg p2, if_neg p3, if_neg p4, if_neg p5] at h
    match r, h with
    | [], h => simp at h
    | o :: r, h =>
      simp [PyFlat.rows] at h
      obtain ⟨rfl, rfl⟩ := h
      simp [PySv34.whole, asked1] at ha
      obtain ⟨k, rfl, hk⟩ := nat_of ha
      exact ⟨_, k, _, rfl, .answer k, hk, .inr (by simpa [PySv34.whole, fits] using hf), rfl⟩
  by_cases p7 : p = 7
  · subst p7
    simp only [if_pos, if_neg p0, if_neg p1, if_neg p2, if_neg p3, if_neg p4, if_neg p5, if_neg p6] at h
    match r, h with
    | [], h => simp at h
    | [_], h => simp at h
    | o :: key :: r, h =>
      simp [PyFlat.rows] at h
      obtain ⟨rfl, rfl⟩ := h
      simp [PySv34.whole, asked1] at ha
      obtain ⟨k, rfl, hk⟩ := nat_of ha.1
      exact ⟨_, k, _, rfl, .value k key, hk, .inr (by simpa [PySv34.whole, fits] using hf), rfl⟩
  simp only [if_neg p0, if_neg p1, if_neg p2, if_neg p3, if_neg p4, if_neg p5, if_neg p6, if_neg p7] at h
  cases h
theorem fits_cons {s : S} {c : Sv34Neutral.Call} {r : List Sv34Neutral.Call} (h : fits s (c :: r) = true) : fits s [c] = true ∧ fits (step s c).1 r = true := by
  unfold fits at h
  rw [Bool.and_eq_true] at h
  refine ⟨?_, h.2⟩
  unfold fits
  rw [Bool.and_eq_true]
  exact ⟨h.1, rfl⟩
theorem due_calls : ∀ (f : Nat) (s : S) (l : List Int) (cs : List (List (List Int))), PyFlat.calls PySv34.shape f l = some cs → (cs.map PySv34.whole).all asked1 = true → fits s (cs.map PySv34.whole) = true →
    Due s l (PyFlat.told (PyFlat.played step s (cs.map PySv34.whole)))
  | f, s, [], cs, h, _, _ => by
    have e : cs = [] := by
      cases f <;> exact (Option.some.inj h).symm
    subst e
    exact .nil s
  | 0, s, p :: r, cs, h, _, _ => by cases h
  | f + 1, s, p :: r, cs, h, ha, hf => by
    unfold PyFlat.calls at h
    cases e : PyFlat.call PySv34.shape (p :: r) with
    | none =>
      rw [e] at h
      cases h
    | some z =>
      obtain ⟨c, t⟩ := z
      rw [e] at h
      cases e2 : PyFlat.calls PySv34.shape f t with
      | none =>
        simp only [e2] at h
        cases h
      | some cs' =>
        simp only [e2] at h
        have ec : cs = c :: cs' := (Option.some.inj h).symm
        subst ec
        rw [List.map_cons] at ha hf ⊢
        rw [List.all_cons, Bool.and_eq_true] at ha
        have hf' := fits_cons hf
        obtain ⟨c', k, x, er, L, hk, hb, es⟩ := one (s := s) e ha.1 hf'.1
        have ih := due_calls f (step s (PySv34.whole c)).1 t cs' e2 ha.2 hf'.2
        rw [es] at ih
        have := Due.cons (c := c') L hk hb ih
        rw [er]
        show Due s (c' ++ t) (((step s (PySv34.whole c)).2.length : Int) :: ((step s (PySv34.whole c)).2 ++ PyFlat.told (PyFlat.played step (step s (PySv34.whole c)).1 (cs'.map PySv34.whole))))
        rw [es]
        exact this
theorem due_of {l : List Int} (h : PySv34.answers_asked l = true) : Due Sv34Neutral.start l (PySv34.answers l) := by
  unfold PySv34.answers_asked PySv34.calls at h
  unfold PySv34.answers PySv34.calls
  cases e : PyFlat.calls PySv34.shape l.length l with
  | none =>
    rw [e] at h
    cases h
  | some cs =>
    rw [e] at h
    simp only [Bool.and_eq_true] at h
    have q := h.2
    unfold Sv34Neutral.asked at q
    simp only [Bool.and_eq_true] at q
    exact due_calls _ _ _ _ e q.1 q.2.2.2.1
end Nw
namespace Nw
open Sv34Neutral (S)
open Sv34 (Record Process Mode W)

/-! ### bytes -/
theorem low_succ (n i : Nat) : Sv34.little (i + 1) n = Sv34.little i n ++ [n / 256 ^ i % 256] := by
  unfold Sv34.little
  rw [List.range_succ, List.map_append]
  rfl
theorem low_len (n i : Nat) : (Sv34.little i n).length = i := by
  unfold Sv34.little
  rw [List.length_map, List.length_range]
theorem low_rest (n i : Nat) : n / 256 ^ (i + 1) = n / 256 ^ i / 256 := by
  rw [Nat.pow_succ, Nat.div_div_eq_div_mul]
theorem foldr_lt : ∀ l : List Nat, l.foldr (fun c n => c % 256 + 256 * n) 0 < 256 ^ l.length
  | [] => by decide
  | c :: l => by
    have ih := foldr_lt l
    rw [List.foldr_cons, List.length_cons, Nat.pow_succ]
    have : c % 256 < 256 := Nat.mod_lt _ (by decide)
    omega
theorem word_lt (b : Sv34.Bytes) (i : Nat) : Sv34.word b i 8 < W := by
  unfold Sv34.word
  have h := foldr_lt ((b.drop i).take 8)
  have hl : ((b.drop i).take 8).length ≤ 8 := by
    rw [List.length_take]
    exact Nat.min_le_left _ _
  have : 256 ^ ((b.drop i).take 8).length ≤ 256 ^ 8 := Nat.pow_le_pow_right (by decide) hl
  have e : (256 : Nat) ^ 8 = W := by decide
  omega
theorem word_bytes {b : Sv34.Bytes} (hb : ∀ x, x ∈ b → x < 256) (i k : Nat) : Sv34.word b i k = ((b.drop i).take k).foldr (fun c n => c + 256 * n) 0 := by
  unfold Sv34.word
  have g : ∀ l : List Nat, (∀ x, x ∈ l → x < 256) → l.foldr (fun c n => c % 256 + 256 * n) 0 = l.foldr (fun c n => c + 256 * n) 0 := by
    intro l
    induction l with
    | nil => intro _; rfl
    | cons c l ih =>
      intro h
      rw [List.foldr_cons, List.foldr_cons, ih fun x hx => h x (List.mem_cons_of_mem _ hx), Nat.mod_eq_of_lt (h c (List.mem_cons_self ..))]
  exact g _ fun x hx => hb x (List.mem_of_mem_drop (List.mem_of_mem_take hx))
/-! ### what holds of a process -/
structure RFine (r : Record) : Prop where
  who : r.who < W
  count : r.count < W
  what : r.what < W
  v : r.v < W
  w : r.w < W
theorem rfine_of (b : Sv34.Bytes) : RFine (Sv34.recordOf b) := ⟨word_lt _ _, word_lt _ _, word_lt _ _, word_lt _ _, word_lt _ _⟩
structure Own (me count : Nat) (r : Record) : Prop where
  fine : RFine r
  who : r.who = me + 1
  count : r.count = count
def MFine (me count place : Nat) : Mode → Prop
  | .idle => True
  | .tells o => Own me count o
  | .asks o => Own me count o ∧ place < 256
  | .puts o c => Own me count o ∧ RFine c ∧ place < 256
structure Fine (x : Process) : Prop where
  n2 : 2 ≤ x.n
  n8 : x.n ≤ 8
  me : x.me < x.n
  place : x.place ≤ 256
  vlen : x.values.length = 16
  vals : ∀ v, v ∈ x.values → v < W
  slen : x.seen.length = 8
  seen : ∀ v, v ∈ x.seen → v < W
  count : x.count < W
  answer : ∀ z, x.answer = some z → z < W
  mode : MFine x.me x.count x.place x.mode
theorem mem_set {α : Type} {l : List α} {i : Nat} {a y : α} (h : y ∈ l.set i a) : y = a ∨ y ∈ l := by
  rcases List.mem_or_eq_of_mem_set h with h | h
  · exact .inr h
  · exact .inl h
theorem getD_lt {l : List Nat} {i m : Nat} (hm : 0 < m) (h : ∀ v, v ∈ l → v < m) : l.getD i 0 < m := by
  rw [List.getD_eq_getElem?_getD]
  cases e : l[i]? with
  | none => exact hm
  | some v => exact h v (List.mem_of_getElem? e)
theorem W_pos : 0 < W := by decide
theorem fine_fresh {me n : Nat} (h2 : 2 ≤ n) (h8 : n ≤ 8) (hm : me < n) : Fine (Sv34.fresh me n) :=
  ⟨h2, h8, hm, by show 0 ≤ 256; decide, rfl, fun v hv => by rw [List.eq_of_mem_replicate (show v ∈ List.replicate 16 0 from hv)]; exact W_pos, rfl,
    fun v hv => by rw [List.eq_of_mem_replicate (show v ∈ List.replicate 8 0 from hv)]; exact W_pos, W_pos, fun z h => (by cases h), trivial⟩
theorem does_len (s : Sv34.Values) (r : Record) : (Sv34.does_ s r).1.length = s.length := by
  unfold Sv34.does_
  dsimp only
  repeat' split
  all_goals first | rfl | exact List.length_set ..
theorem does_vals {s : Sv34.Values} {r : Record} (hr : RFine r) (h : ∀ v, v ∈ s → v < W) : (∀ v, v ∈ (Sv34.does_ s r).1 → v < W) ∧ (Sv34.does_ s r).2 < W := by
  have hx : s.getD (r.what % 16) 0 < W := getD_lt W_pos h
  have hm : (s.getD (r.what % 16) 0 + r.v) % W < W := Nat.mod_lt _ W_pos
  unfold Sv34.does_
  dsimp only
  repeat' split
  · exact ⟨h, hx⟩
  · refine ⟨fun v hv => ?_, hx⟩
    rcases mem_set hv with rfl | hv
    · exact hr.v
    · exact h v hv
  · refine ⟨fun v hv => ?_, hm⟩
    rcases mem_set hv with rfl | hv
    · exact hm
    · exact h v hv
  · refine ⟨fun v hv => ?_, hx⟩
    rcases mem_set hv with rfl | hv
    · exact hr.w
    · exact h v hv
  · exact ⟨h, hx⟩
theorem fine_onTo {x : Process} {own : Record} (h : Fine x) (ho : Own x.me x.count own) : Fine (Sv34.onTo x own).1 := by
  unfold Sv34.onTo
  have p := h.place
  split
  · exact ⟨h.n2, h.n8, h.me, h.place, h.vlen, h.vals, h.slen, h.seen, h.count, h.answer, trivial⟩
  · have q : x.place < 256 := by
      have : ¬ 256 ≤ x.place := by assumption
      omega
    split
    · exact ⟨h.n2, h.n8, h.me, h.place, h.vlen, h.vals, h.slen, h.seen, h.count, h.answer, ho, ho.fine, q⟩
    · exact ⟨h.n2, h.n8, h.me, h.place, h.vlen, h.vals, h.slen, h.seen, h.count, h.answer, ho, q⟩
theorem fine_wants {x y : Process} {what key v w : Nat} (h : Fine x) (hw : what < 4) (hk : key < 16) (hv : v < W) (hw2 : w < W) (e : Sv34.wants x what key v w = some y) : Fine y := by
  unfold Sv34.wants at e
  split at e
  · have e := Option.some.inj e
    subst e
    have hc : (x.count + 1) % W < W := Nat.mod_lt _ W_pos
    refine ⟨h.n2, h.n8, h.me, h.place, h.vlen, h.vals, h.slen, h.seen, hc, h.answer, ⟨?_, ?_, ?_, hv, hw2⟩, rfl, rfl⟩
    · show x.me + 1 < W
      have a := h.me
      have b := h.n8
      have c : W = 18446744073709551616 := rfl
      omega
    · exact hc
    · show 16 * what + key < W
      have c : W = 18446744073709551616 := rfl
      omega
  · cases e
theorem fine_wrote {x : Process} {y : Process × Nat} (h : Fine x) (e : Sv34.wrote x = some y) : Fine y.1 := by
  unfold Sv34.wrote at e
  cases em : x.mode with
  | tells own =>
    rw [em] at e
    have e := Option.some.inj e
    subst e
    have m := h.mode
    rw [em] at m
    exact fine_onTo h m
  | idle => rw [em] at e; cases e
  | asks _ => rw [em] at e; cases e
  | puts _ _ => rw [em] at e; cases e
/-- the process behind a record that stands in its cell, ahead of what it then does -/
def took (x : Process) (r : Record) : Process := { x with place := x.place + 1, values := (Sv34.does_ x.values r).1, seen := if 1 ≤ r.who ∧ r.who ≤ x.n then x.seen.set (r.who - 1) r.count else x.seen }
theorem got_asks {x : Process} {r own : Record} (e : x.mode = .asks own) : Sv34.got x r = some ({ x with mode := .puts own (if r.who = x.place % x.n + 1 ∧ x.seen.getD (x.place % x.n) 0 < r.count then r else own) }, 64) := by
  unfold Sv34.got
  rw [e]
theorem got_puts {x : Process} {r own c : Record} (e : x.mode = .puts own c) : Sv34.got x r = some (if r.who = own.who ∧ r.count = own.count then ({ took x r with answer := some (Sv34.does_ x.values r).2, mode := .idle }, 32) else Sv34.onTo (took x r) own) := by
  unfold Sv34.got
  rw [e]
  rfl
theorem got_idle {x : Process} {r : Record} (e : x.mode = .idle) : Sv34.got x r = none := by
  unfold Sv34.got
  rw [e]
theorem got_tells {x : Process} {r own : Record} (e : x.mode = .tells own) : Sv34.got x r = none := by
  unfold Sv34.got
  rw [e]
theorem fine_got {x : Process} {r : Record} {y : Process × Nat} (h : Fine x) (hr : RFine r) (e : Sv34.got x r = some y) : Fine y.1 := by
  have m := h.mode
  cases em : x.mode with
  | idle => rw [got_idle em] at e; cases e
  | tells _ => rw [got_tells em] at e; cases e
  | asks own =>
    rw [got_asks em] at e
    have e := Option.some.inj e
    subst e
    rw [em] at m
    refine ⟨h.n2, h.n8, h.me, h.place, h.vlen, h.vals, h.slen, h.seen, h.count, h.answer, m.1, ?_, m.2⟩
    split
    · exact hr
    · exact m.1.fine
  | puts own c =>
    rw [got_puts em] at e
    have e := Option.some.inj e
    rw [em] at m
    obtain ⟨mo, _, mp⟩ := m
    obtain ⟨dv, da⟩ := does_vals hr h.vals
    have sl : (took x r).seen.length = 8 := by
      show (if 1 ≤ r.who ∧ r.who ≤ x.n then x.seen.set (r.who - 1) r.count else x.seen).length = 8
      split
      · rw [List.length_set]; exact h.slen
      · exact h.slen
    have sb : ∀ v, v ∈ (took x r).seen → v < W := by
      intro v hv
      have hv : v ∈ (if 1 ≤ r.who ∧ r.who ≤ x.n then x.seen.set (r.who - 1) r.count else x.seen) := hv
      split at hv
      · rcases mem_set hv with rfl | hv
        · exact hr.count
        · exact h.seen v hv
      · exact h.seen v hv
    have vl : (took x r).values.length = 16 := (does_len _ _).trans h.vlen
    split at e
    · subst e
      exact ⟨h.n2, h.n8, h.me, mp, vl, dv, sl, sb, h.count, fun z hz => (by have := Option.some.inj hz; subst this; exact da), trivial⟩
    · subst e
      refine fine_onTo (x := { took x r with mode := .idle }) ⟨h.n2, h.n8, h.me, mp, vl, dv, sl, sb, h.count, h.answer, trivial⟩ mo |> fun z => ?_
      exact ⟨z.n2, z.n8, z.me, z.place, z.vlen, z.vals, z.slen, z.seen, z.count, z.answer, z.mode⟩
theorem fine_went {x : Process} {r : Option (Process × Nat)} {y : Process} (h : Fine x) (hr : ∀ z, r = some z → Fine z.1) (e : (Sv34.went x r).1 = some y) : Fine y := by
  unfold Sv34.went at e
  cases r with
  | none => rw [← Option.some.inj e]; exact h
  | some z => rw [← Option.some.inj e]; exact hr z rfl
theorem within_iff {z lo hi : Int} : Sv34.within z lo hi = true ↔ lo ≤ z ∧ z ≤ hi := by
  unfold Sv34.within
  rw [Bool.and_eq_true, decide_eq_true_eq, decide_eq_true_eq]
/-- all objects that are processes are fine, behind any call too -/
theorem fine_does {c : List Int} {k : Nat} {call : Sv34.Call} {s : Sv34.Abs} {y : Process} (L : Laid c k call) (h : ∀ x, s = some x → Fine x) (e : (Sv34.does s call).1 = some y) : Fine y := by
  cases L with
  | begin_ k me n =>
    unfold Sv34.does at e
    dsimp only at e
    split at e
    · rename_i q
      obtain ⟨q1, q2, q3⟩ := q
      have q1 := within_iff.mp q1
      rw [← Option.some.inj e]
      exact fine_fresh (by omega) (by omega) (by omega)
    · exact h y e
  | do_ k what key v w hv hw =>
    cases s with
    | none => cases e
    | some x =>
      have hx := h x rfl
      unfold Sv34.does Sv34.on at e
      dsimp only at e
      split at e
      · rw [← Option.some.inj e]; exact hx
      · rename_i q
        have q1 : Sv34.within what 0 3 = true := by
          cases z : Sv34.within what 0 3 with
          | true => rfl
          | false => exact absurd (.inl z) q
        have q2 : Sv34.within key 0 15 = true := by
          cases z : Sv34.within key 0 15 with
          | true => rfl
          | false => exact absurd (.inr z) q
        have q1 := within_iff.mp q1
        have q2 := within_iff.mp q2
        cases ew : Sv34.wants x what.toNat key.toNat v w with
        | none => rw [ew] at e; rw [← Option.some.inj e]; exact hx
        | some z => rw [ew] at e; rw [← Option.some.inj e]; exact fine_wants hx (by omega) (by omega) hv hw ew
  | record k =>
    cases s with
    | none => cases e
    | some x => rw [← Option.some.inj e]; exact h x rfl
  | wrote k =>
    cases s with
    | none => cases e
    | some x => exact fine_went (h x rfl) (fun z ez => fine_wrote (h x rfl) ez) e
  | got k b hl hb =>
    cases s with
    | none => cases e
    | some x => exact fine_went (h x rfl) (fun z ez => fine_got (h x rfl) (rfine_of b) ez) e
  | place k =>
    cases s with
    | none => cases e
    | some x => rw [← Option.some.inj e]; exact h x rfl
  | answer k =>
    cases s with
    | none => cases e
    | some x => rw [← Option.some.inj e]; exact h x rfl
  | value k key =>
    cases s with
    | none => cases e
    | some x =>
      unfold Sv34.does Sv34.on at e
      dsimp only at e
      split at e
      · rw [← Option.some.inj e]; exact h x rfl
      · rw [← Option.some.inj e]; exact h x rfl
/-! ### what is due behind each call, and how the objects stand -/
theorem getD_set {s : S} {k j : Nat} {y : Sv34.Abs} (hk : k < s.length) : (s.set k y).getD j none = if j = k then y else s.getD j none := by
  rw [List.getD_eq_getElem?_getD, List.getD_eq_getElem?_getD]
  by_cases h : j = k
  · subst h
    rw [if_pos rfl, List.getElem?_set_self hk]
    rfl
  · rw [if_neg h, List.getElem?_set_ne (fun e => h e.symm)]
/-- the objects: eight, each none or a fine process -/
structure SFine (s : S) : Prop where
  len : s.length = 8
  fine : ∀ k x, s.getD k none = some x → Fine x
theorem sfine_start : SFine Sv34Neutral.start := ⟨rfl, fun k x h => by
  have : Sv34Neutral.start.getD k none = none := by
    rw [List.getD_eq_getElem?_getD]
    cases e : Sv34Neutral.start[k]? with
    | none => rfl
    | some v => exact List.eq_of_mem_replicate (List.mem_of_getElem? e : v ∈ List.replicate 8 none)
  rw [this] at h
  cases h⟩
theorem SFine.next {s : S} (F : SFine s) {c : List Int} {k : Nat} {call : Sv34.Call} (L : Laid c k call) (hk : k < 8) : SFine (s.set k (Sv34.does (s.getD k none) call).1) := by
  refine ⟨(List.length_set ..).trans F.len, fun j x h => ?_⟩
  rw [getD_set (by rw [F.len]; exact hk)] at h
  split at h
  · exact fine_does L (fun y hy => F.fine k y hy) h
  · exact F.fine j x h
/-! ### how long an answer is -/
theorem bytes_len (r : Record) : r.bytes.length = 40 := by
  unfold Sv34.Record.bytes
  simp only [List.flatMap_cons, List.flatMap_nil, List.length_append, low_len, List.length_nil]
theorem went_len (x : Process) (r : Option (Process × Nat)) : (Sv34.went x r).2.l.length ≤ 40 := by
  unfold Sv34.went
  cases r <;> exact Nat.zero_le _
theorem on_len (x : Process) (c : Sv34.Call) : (Sv34.on x c).2.l.length ≤ 40 := by
  cases c with
  | begin_ _ _ => exact Nat.zero_le _
  | do_ what key v w =>
    unfold Sv34.on
    dsimp only
    split
    · exact Nat.zero_le _
    · split <;> exact Nat.zero_le _
  | record =>
    show (match x.mode with
      | .tells r => (⟨0, r.bytes⟩ : Sv34.Ans)
      | .puts _ r => ⟨0, r.bytes⟩
      | _ => Sv34.ok (-4)).l.length ≤ 40
    cases x.mode with
    | idle => exact Nat.zero_le _
    | tells r => exact Nat.le_of_eq (bytes_len r)
    | asks r => exact Nat.zero_le _
    | puts o r => exact Nat.le_of_eq (bytes_len r)
  | wrote => exact went_len _ _
  | got b => exact went_len _ _
  | place => exact Nat.zero_le _
  | answer =>
    show (match x.answer with
      | some z => (⟨0, [z]⟩ : Sv34.Ans)
      | none => Sv34.ok (-4)).l.length ≤ 40
    cases x.answer with
    | none => exact Nat.zero_le _
    | some z => exact Nat.succ_le_succ (Nat.zero_le _)
  | value key =>
    unfold Sv34.on
    dsimp only
    split
    · exact Nat.zero_le _
    · exact Nat.succ_le_succ (Nat.zero_le _)
theorem does_alen (s : Sv34.Abs) (c : Sv34.Call) : (Sv34.does s c).2.l.length ≤ 40 := by
  cases c with
  | begin_ me n =>
    unfold Sv34.does
    dsimp only
    split <;> exact Nat.zero_le _
  | _ =>
    cases s with
    | none => exact Nat.zero_le _
    | some x => exact on_len x _
theorem ans_len (s : Sv34.Abs) (c : Sv34.Call) : (ans (Sv34.does s c).2).length ≤ 41 := by
  unfold ans
  rw [List.length_cons, ints_len]
  exact Nat.succ_le_succ (does_alen s c)
theorem laid_len {c : List Int} {k : Nat} {x : Sv34.Call} (L : Laid c k x) : 2 ≤ c.length := by
  cases L <;> simp
/-- of a process that is there, a call other than uo_begin is what «on» says -/
theorem does_on {x : Process} {c : Sv34.Call} (h : isBegin c = false) : Sv34.does (some x) c = Sv34.on x c := by
  cases c with
  | begin_ _ _ => cases h
  | _ => rfl
theorem on_some (x : Process) (c : Sv34.Call) : ∃ y a, Sv34.on x c = (some y, a) := by
  cases c with
  | begin_ _ _ => exact ⟨_, _, rfl⟩
  | do_ what key v w =>
    unfold Sv34.on
    dsimp only
    split
    · exact ⟨_, _, rfl⟩
    · split <;> exact ⟨_, _, rfl⟩
  | record => exact ⟨_, _, rfl⟩
  | wrote =>
    show ∃ y a, Sv34.went x (Sv34.wrote x) = (some y, a)
    unfold Sv34.went
    cases Sv34.wrote x <;> exact ⟨_, _, rfl⟩
  | got b =>
    show ∃ y a, Sv34.went x (Sv34.got x (Sv34.recordOf b)) = (some y, a)
    unfold Sv34.went
    cases Sv34.got x (Sv34.recordOf b) <;> exact ⟨_, _, rfl⟩
  | place => exact ⟨_, _, rfl⟩
  | answer => exact ⟨_, _, rfl⟩
  | value key =>
    unfold Sv34.on
    dsimp only
    split <;> exact ⟨_, _, rfl⟩
end Nw
section
set_option Elab.async false
set_option linter.all false
set_option maxRecDepth 100000
namespace Nw
open PySem L2
open Sv34 (Record Process Mode)
/-! ### the text by places -/
def top (i : Nat) : Stmt := PySem.Challenge.pw_nowaiting_s01_answers.main.body.getD i (.Pass ⟨0, 0, 0, 0⟩)
abbrev sNB : Stmt := top 14
abbrev sNOB : Stmt := top 15
abbrev sRB : Stmt := top 16
abbrev sROB : Stmt := top 17
abbrev sSI : Stmt := inClass (top 25) 0
abbrev sVal : Stmt := inClass (top 25) 1
abbrev sOut : Stmt := inClass (top 25) 2
abbrev sMI : Stmt := inClass (top 32) 0
abbrev sDo : Stmt := inClass (top 32) 1
abbrev sShowR : Stmt := inClass (top 32) 2
abbrev sWrote : Stmt := inClass (top 32) 3
abbrev sGot : Stmt := inClass (top 32) 4
abbrev sShowP : Stmt := inClass (top 32) 5
abbrev sShowA : Stmt := inClass (top 32) 6
abbrev sShowV : Stmt := inClass (top 32) 7
abbrev sTurn : Stmt := inClass (top 32) 8
abbrev sGo : Stmt := inClass (top 32) 9
abbrev sHelp : Stmt := inClass (top 32) 10
abbrev sPut : Stmt := inClass (top 32) 11
abbrev sFollow : Stmt := inClass (top 32) 12
abbrev sOwn : Stmt := inClass (top 32) 13
abbrev sAns : Stmt := top 44
abbrev sCall : Stmt := top 45
abbrev sBegin : Stmt := top 46
abbrev sAsk : Stmt := top 47
/-! ### fields by their places -/
theorem lookup_zip : ∀ {ns : List Str} {vs : List V} {i : Nat} {f : Str} {v : V}, ns.Nodup → ns[i]? = some f → vs[i]? = some v → (ns.zip vs).lookup f = some v
  | [], _, _, _, _, _, h, _ => by simp at h
  | _ :: _, [], _, _, _, _, _, h => by simp at h
  | n :: ns, u :: vs, 0, f, v, _, h1, h2 => by
    have e1 : n = f := Option.some.inj h1
    have e2 : u = v := Option.some.inj h2
    subst e1 e2
    show List.lookup n ((n, u) :: ns.zip vs) = some u
    rw [List.lookup_cons, beq_self_eq_true]
  | n :: ns, u :: vs, i + 1, f, v, nd, h1, h2 => by
    have ih := lookup_zip (vs := vs) (List.nodup_cons.mp nd).2 h1 h2
    have ne : ¬ f = n := fun e => (List.nodup_cons.mp nd).1 (by rw [← e]; exact List.mem_of_getElem? h1)
    show List.lookup f ((n, u) :: ns.zip vs) = some v
    rw [List.lookup_cons, beq_eq_false_iff_ne.mpr ne]
    exact ih
theorem lookup_out : ∀ {ns : List Str} {vs : List V} {f : Str}, ¬ f ∈ ns → (ns.zip vs).lookup f = none
  | [], _, _, _ => rfl
  | _ :: _, [], _, _ => rfl
  | n :: ns, u :: vs, f, h => by
    have ne : ¬ f = n := fun e => h (by rw [e]; exact List.mem_cons_self ..)
    show List.lookup f ((n, u) :: ns.zip vs) = none
    rw [List.lookup_cons, beq_eq_false_iff_ne.mpr ne]
    exact lookup_out fun m => h (List.mem_cons_of_mem _ m)
theorem putF_zip : ∀ {ns : List Str} {vs : List V} {i : Nat} {f : Str} {v : V}, ns.Nodup → ns[i]? = some f → i < vs.length → putF f v (ns.zip vs) = ns.zip (vs.set i v)
  | [], _, _, _, _, _, h, _ => by simp at h
  | _ :: _, [], _, _, _, _, _, h => absurd h (by simp)
  | n :: ns, u :: vs, 0, f, v, _, h1, _ => by
    have e1 : n = f := Option.some.inj h1
    subst e1
    show (if n = n then (n, v) :: ns.zip vs else (n, u) :: putF n v (ns.zip vs)) = (n, v) :: ns.zip vs
    rw [if_pos rfl]
  | n :: ns, u :: vs, i + 1, f, v, nd, h1, h2 => by
    have ih := putF_zip (v := v) (vs := vs) (List.nodup_cons.mp nd).2 h1 (Nat.lt_of_succ_lt_succ h2)
    have ne : ¬ n = f := fun e => (List.nodup_cons.mp nd).1 (by rw [e]; exact List.mem_of_getElem? h1)
    show (if n = f then (n, v) :: ns.zip vs else (n, u) :: putF f v (ns.zip vs)) = (n, u) :: ns.zip (vs.set i v)
    rw [if_neg ne, ih]
theorem putF_end : ∀ {fs : List (Str × V)} {f : Str} {v : V}, ¬ f ∈ fs.map (·.1) → putF f v fs = fs ++ [(f, v)]
  | [], _, _, _ => rfl
  | (n, u) :: fs, f, v, h => by
    have ne : ¬ n = f := fun e => h (by rw [← e]; exact List.mem_cons_self ..)
    show (if n = f then (n, v) :: fs else (n, u) :: putF f v fs) = (n, u) :: (fs ++ [(f, v)])
    rw [if_neg ne, putF_end fun m => h (List.mem_cons_of_mem _ m)]
abbrev mN : List Str := ["me", "n", "state", "count", "place", "store", "seen", "answer", "record", "candidate"]
theorem mN_nd : mN.Nodup := by decide +kernel
def mf (vs : List V) : List (Str × V) := mN.zip vs
theorem mf_at (i : Nat) {f : Str} {v : V} {vs : List V} (h1 : mN[i]? = some f) (h2 : vs[i]? = some v) : (mf vs).lookup f = some v := lookup_zip mN_nd h1 h2
theorem mf_no {f : Str} {vs : List V} (h : ¬ f ∈ mN) : (mf vs).lookup f = none := lookup_out h
theorem mf_put (i : Nat) {f : Str} {v : V} {vs : List V} (h1 : mN[i]? = some f) (h2 : i < vs.length) : putF f v (mf vs) = mf (vs.set i v) := putF_zip mN_nd h1 h2
theorem mf_few (vs : List V) : (mf vs).length < 1000 := by
  show (mN.zip vs).length < 1000
  rw [List.length_zip]
  exact Nat.lt_of_le_of_lt (Nat.min_le_left _ _) (by decide)
abbrev sN : List Str := ["kept"]
def sf (l : Addr) : List (Str × V) := sN.zip [.ref l]
theorem sf_at (l : Addr) : (sf l).lookup ("kept" : Str) = some (.ref l) := lookup_zip (i := 0) (by decide +kernel) rfl rfl
theorem sf_no {l : Addr} {f : Str} (h : ¬ f ∈ sN) : (sf l).lookup f = none := lookup_out h
/-! ### the data -/
abbrev nV (k : Nat) : V := .int (k : Int)
def recV (r : Record) : List V := [nV r.who, nV r.count, nV r.what, nV r.v, nV r.w]
def ansV : Option Nat → V
  | some z => nV z
  | none => .non
def stOf : Mode → Str
  | .idle => "idle"
  | .tells _ => "tells"
  | .asks _ => "asks"
  | .puts _ _ => "puts"
abbrev mVals (me n : Nat) (st : Str) (count place : Nat) (sa se : Addr) (av ov cv : V) : List V := [nV me, nV n, .str st, nV count, nV place, .ref sa, .ref se, av, ov, cv]
/-- a Store stands at sa, its list at l -/
def StoreAt (CS : Addr) (H : Hp) (sa l : Addr) (vals : List Nat) : Prop := (∃ ds, H sa = some (.ins CS ds (sf l))) ∧ H l = some (.lst (vals.map nV))
/-- a Member stands at p, its Store at sa with its list at l, its counts seen at se -/
structure Raw (CM CS : Addr) (H : Hp) (p sa l se : Addr) (me n : Nat) (st : Str) (count place : Nat) (vals seen : List Nat) (av ov cv : V) : Prop where
  ob : ∃ dx, H p = some (.ins CM dx (mf (mVals me n st count place sa se av ov cv)))
  so : StoreAt CS H sa l vals
  ls : H se = some (.lst (seen.map nV))
  ne : l ≠ se
def Has (H : Hp) (v : V) (r : Record) : Prop := ∃ t, v = .ref t ∧ H t = some (.tup (recV r))
def ModeOk (H : Hp) (m : Mode) (ov cv : V) : Prop := match m with
  | .idle => True
  | .tells o => Has H ov o
  | .asks o => Has H ov o
  | .puts o c => Has H ov o ∧ Has H cv c
/-- the Member at p is the process x -/
def Mem (CM CS : Addr) (H : Hp) (p l se : Addr) (x : Process) : Prop := ∃ sa ov cv, Raw CM CS H p sa l se x.me x.n (stOf x.mode) x.count x.place x.values (x.seen.take x.n) (ansV x.answer) ov cv ∧ ModeOk H x.mode ov cv
/-- .. whatever its state, with the record own -/
def Busy (CM CS : Addr) (H : Hp) (p l se : Addr) (x : Process) (own : Record) : Prop := ∃ sa st ov cv, Raw CM CS H p sa l se x.me x.n st x.count x.place x.values (x.seen.take x.n) (ansV x.answer) ov cv ∧ Has H ov own
/-! ### heaps -/
/-- all that was tracked is as it was, but at fp -/
def Keeps (fp : List Addr) (H H' : Hp) : Prop := ∀ b o, H b = some o → ¬ b ∈ fp → H' b = some o
theorem Same.keeps {H H' : Hp} (s : Same H H') (fp : List Addr) : Keeps fp H H' := fun b o h _ => s b o h
theorem Keeps.refl (fp : List Addr) (H : Hp) : Keeps fp H H := fun _ _ h _ => h
theorem Keeps.trans {fp : List Addr} {H H1 H2 : Hp} (a : Keeps fp H H1) (b : Keeps fp H1 H2) : Keeps fp H H2 := fun c o h n => b c o (a c o h n) n
theorem Keeps.mono {fp fq : List Addr} {H H' : Hp} (a : Keeps fp H H') (h : ∀ b, b ∈ fp → b ∈ fq) : Keeps fq H H' := fun c o e n => a c o e fun m => n (h c m)
theorem keeps_upd {H : Hp} {p : Addr} {o : HO} {fp : List Addr} (h : p ∈ fp) : Keeps fp H (upd H p o) := fun b u e n => by
  rw [upd_ne (fun q => n (by rw [q]; exact h))]
  exact e
theorem same_new {H : Hp} {q : Addr} {o : HO} (h : H q = none) : Same H (upd H q o) := fun b u e => by
  rw [upd_ne (ne_of_none e h)]
  exact e
theorem Has.keep {H H' : Hp} {fp : List Addr} {v : V} {r : Record} (h : Has H v r) (k : Keeps fp H H') (hf : ∀ b, b ∈ fp → ∀ xs, H b ≠ some (.tup xs)) : Has H' v r := by
  obtain ⟨t, e, ht⟩ := h
  exact ⟨t, e, k t _ ht fun m => hf t m _ ht⟩
theorem Has.same {H H' : Hp} {v : V} {r : Record} (h : Has H v r) (k : Same H H') : Has H' v r := by
  obtain ⟨t, e, ht⟩ := h
  exact ⟨t, e, k t _ ht⟩
theorem ModeOk.keep {H H' : Hp} {fp : List Addr} {m : Mode} {ov cv : V} (h : ModeOk H m ov cv) (k : Keeps fp H H') (hf : ∀ b, b ∈ fp → ∀ xs, H b ≠ some (.tup xs)) : ModeOk H' m ov cv := by
  cases m with
  | idle => trivial
  | tells o => exact Has.keep h k hf
  | asks o => exact Has.keep h k hf
  | puts o c => exact ⟨Has.keep h.1 k hf, Has.keep h.2 k hf⟩
theorem StoreAt.same {CS : Addr} {H H' : Hp} {sa l : Addr} {vals : List Nat} (h : StoreAt CS H sa l vals) (k : Same H H') : StoreAt CS H' sa l vals := by
  obtain ⟨⟨ds, h1⟩, h2⟩ := h
  exact ⟨⟨ds, k _ _ h1⟩, k _ _ h2⟩
section
variable {CM CS : Addr} {H H' : Hp} {p sa l se : Addr} {me n : Nat} {st : Str} {count place : Nat} {vals seen : List Nat} {av ov cv : V} {x : Process} {own : Record}
theorem Raw.pl (R : Raw CM CS H p sa l se me n st count place vals seen av ov cv) : p ≠ l := by
  obtain ⟨⟨dx, h1⟩, ⟨_, h2⟩, _, _⟩ := R
  exact ne_of h1 h2 (by intro z; cases z)
theorem Raw.ps (R : Raw CM CS H p sa l se me n st count place vals seen av ov cv) : p ≠ se := by
  obtain ⟨⟨dx, h1⟩, _, h2, _⟩ := R
  exact ne_of h1 h2 (by intro z; cases z)
theorem Raw.psa (R : Raw CM CS H p sa l se me n st count place vals seen av ov cv) : sa ≠ p := by
  obtain ⟨⟨dx, h1⟩, ⟨⟨ds, h2⟩, _⟩, _, _⟩ := R
  refine ne_of h2 h1 (fun z => ?_)
  have e := congrArg (fun o => match o with | HO.ins _ _ fs => fs.length | _ => 0) (show HO.ins CS ds (sf l) = HO.ins CM dx _ from z)
  exact absurd (show (1 : Nat) = 10 from e) (by decide)
theorem Raw.sal (R : Raw CM CS H p sa l se me n st count place vals seen av ov cv) : sa ≠ l := by
  obtain ⟨_, ⟨⟨ds, h2⟩, h3⟩, _, _⟩ := R
  exact ne_of h2 h3 (by intro z; cases z)
theorem Raw.sas (R : Raw CM CS H p sa l se me n st count place vals seen av ov cv) : sa ≠ se := by
  obtain ⟨_, ⟨⟨ds, h2⟩, _⟩, h3, _⟩ := R
  exact ne_of h2 h3 (by intro z; cases z)
theorem Raw.same (R : Raw CM CS H p sa l se me n st count place vals seen av ov cv) (k : Same H H') : Raw CM CS H' p sa l se me n st count place vals seen av ov cv := by
  obtain ⟨⟨dx, h1⟩, h2, h3, h4⟩ := R
  exact ⟨⟨dx, k _ _ h1⟩, h2.same k, k _ _ h3, h4⟩
/-- what is written of a Member is no tuple, no Store -/
theorem Raw.notup (R : Raw CM CS H p sa l se me n st count place vals seen av ov cv) : ∀ b, b ∈ [p, l, se] → ∀ xs, H b ≠ some (.tup xs) := by
  obtain ⟨⟨dx, h1⟩, ⟨_, h2⟩, h3, _⟩ := R
  intro b hb xs e
  simp only [List.mem_cons, List.not_mem_nil, or_false] at hb
  rcases hb with rfl | rfl | rfl
  · rw [h1] at e; cases e
  · rw [h2] at e; cases e
  · rw [h3] at e; cases e
/-- another Member stays -/
theorem Raw.keep {fp : List Addr} (R : Raw CM CS H p sa l se me n st count place vals seen av ov cv) (k : Keeps fp H H') (hf : ∀ b, b ∈ [p, sa, l, se] → ¬ b ∈ fp) : Raw CM CS H' p sa l se me n st count place vals seen av ov cv := by
  obtain ⟨⟨dx, h1⟩, ⟨⟨ds, h2⟩, h3⟩, h4, h5⟩ := R
  exact ⟨⟨dx, k _ _ h1 (hf _ (by simp))⟩, ⟨⟨ds, k _ _ h2 (hf _ (by simp))⟩, k _ _ h3 (hf _ (by simp))⟩, k _ _ h4 (hf _ (by simp)), h5⟩
theorem ModeOk.same {m : Mode} (h : ModeOk H m ov cv) (k : Same H H') : ModeOk H' m ov cv := by
  cases m with
  | idle => trivial
  | tells o => exact Has.same h k
  | asks o => exact Has.same h k
  | puts o c => exact ⟨Has.same h.1 k, Has.same h.2 k⟩
theorem Mem.same (M : Mem CM CS H p l se x) (k : Same H H') : Mem CM CS H' p l se x := by
  obtain ⟨sa, ov, cv, R, m⟩ := M
  exact ⟨sa, ov, cv, R.same k, m.same k⟩
theorem Busy.same (M : Busy CM CS H p l se x own) (k : Same H H') : Busy CM CS H' p l se x own := by
  obtain ⟨sa, st, ov, cv, R, m⟩ := M
  exact ⟨sa, st, ov, cv, R.same k, m.same k⟩
/-- a Member whose mode has the record own -/
theorem Mem.busy (M : Mem CM CS H p l se x) (h : x.mode = .tells own ∨ x.mode = .asks own ∨ ∃ c, x.mode = .puts own c) : Busy CM CS H p l se x own := by
  obtain ⟨sa, ov, cv, R, m⟩ := M
  refine ⟨sa, _, ov, cv, R, ?_⟩
  rcases h with h | h | ⟨c, h⟩
  · rw [h] at m; exact m
  · rw [h] at m; exact m
  · rw [h] at m; exact m.1
/-- what is tracked of a Member -/
theorem Mem.there (M : Mem CM CS H p l se x) : ∀ b, b ∈ [p, l, se] → ∃ o, H b = some o := by
  obtain ⟨sa, ov, cv, ⟨⟨dx, h1⟩, ⟨_, h2⟩, h3, _⟩, m⟩ := M
  intro b hb
  simp only [List.mem_cons, List.not_mem_nil, or_false] at hb
  rcases hb with rfl | rfl | rfl
  · exact ⟨_, h1⟩
  · exact ⟨_, h2⟩
  · exact ⟨_, h3⟩
/-- the Member at p stays, whatever was written of another -/
theorem Mem.apart {p2 l2 se2 : Addr} {y : Process} (M : Mem CM CS H p l se x) (M2 : Mem CM CS H p2 l2 se2 y) (k : Keeps [p2, l2, se2] H H') (hf : ∀ b, b ∈ [p, l, se] → ¬ b ∈ [p2, l2, se2]) : Mem CM CS H' p l se x := by
  obtain ⟨sa, ov, cv, R, m⟩ := M
  obtain ⟨sa2, ov2, cv2, R2, m2⟩ := M2
  refine ⟨sa, ov, cv, R.keep k fun b hb => ?_, m.keep k R2.notup⟩
  simp only [List.mem_cons, List.not_mem_nil, or_false] at hb
  rcases hb with rfl | rfl | rfl | rfl
  · exact hf _ (by simp)
  · obtain ⟨_, ⟨⟨ds, h2⟩, _⟩, _, _⟩ := R
    obtain ⟨⟨dx2, g1⟩, ⟨_, g2⟩, g3, _⟩ := R2
    intro hb
    simp only [List.mem_cons, List.not_mem_nil, or_false] at hb
    rcases hb with rfl | rfl | rfl
    · rw [h2] at g1
      have e := congrArg (fun o => match o with | some (HO.ins _ _ fs) => fs.length | _ => 0) g1
      exact absurd (show (1 : Nat) = 10 from e) (by decide)
    · rw [h2] at g2; cases g2
    · rw [h2] at g3; cases g3
  · exact hf _ (by simp)
  · exact hf _ (by simp)
/-- a new address is none of what was tracked -/
theorem new_of {fp : List Addr} {q : Addr} (k : Keeps fp H H') (h : ∀ b, b ∈ fp → ∃ o, H' b = some o) (hq : H' q = none) : H q = none := by
  cases e : H q with
  | none => rfl
  | some o =>
    by_cases m : q ∈ fp
    · obtain ⟨u, hu⟩ := h q m
      rw [hu] at hq
      cases hq
    · rw [k q o e m] at hq
      cases hq
end
/-! ### tests -/
theorem iteY {c A B : Prop} [Decidable c] (h : c) (a : A) : if decide c = true then A else B := by
  rw [if_pos (decide_eq_true h)]
  exact a
theorem iteN {c A B : Prop} [Decidable c] (h : ¬ c) (b : B) : if decide c = true then A else B := by
  rw [if_neg (by rw [decide_eq_false h]; exact Bool.false_ne_true)]
  exact b
theorem ite2' {c A B : Prop} [Decidable c] (h1 : c → A) (h2 : ¬ c → B) : if decide c = true then A else B := by
  by_cases h : c
  · exact iteY h (h1 h)
  · exact iteN h (h2 h)
theorem iteY' {c A B : Prop} [Decidable c] (h : c) (b : B) : if (!decide c) = true then A else B := by
  rw [decide_eq_true h]
  exact iteF b
theorem iteN' {c A B : Prop} [Decidable c] (h : ¬ c) (a : A) : if (!decide c) = true then A else B := by
  rw [decide_eq_false h]
  exact iteT a
theorem iteB' {c A B : Prop} [Decidable c] (h1 : ¬ c → A) (h2 : c → B) : if (!decide c) = true then A else B := by
  by_cases h : c
  · exact iteY' h (h2 h)
  · exact iteN' h (h1 h)
/-! ### a module's constants -/
def GI (mg : Str → Option Value) (x : Str) (i : Int) : Prop := ∃ t, mg x = some (.int i t)
def GS (mg : Str → Option Value) (x : Str) (s : Str) : Prop := ∃ t, mg x = some (.str s t)
section
variable {X : Cx}
theorem pgi {x : Str} {i : Int} {pos : Pos} (hg : Gl X x) (h : GI X.mg x i) (hd : (x == ("__debug__" : Str)) = false := by decide) : PE X (.Name x pos) (tC (.int i)) := by
  obtain ⟨t, e⟩ := h
  exact pe_glob hg e ⟨t, rfl⟩ hd
theorem pgs {x : Str} {i : Str} {pos : Pos} (hg : Gl X x) (h : GS X.mg x i) (hd : (x == ("__debug__" : Str)) = false := by decide) : PE X (.Name x pos) (tC (.str i)) := by
  obtain ⟨t, e⟩ := h
  exact pe_glob hg e ⟨t, rfl⟩ hd
end
/-- lo <= name < hi, lo and hi constants -/
theorem between {i : Nat} {lo hi z : Int} {σ : St} {H : Hp} {Q : Bool → Hp → Prop} (hs : σ[i]? = some (some (.int z))) (q : Q (decide (lo ≤ z ∧ z < hi)) H) :
    tTest (tChain (rI0 fun i j => .bl (decide (i ≤ j))) (rI0 fun i j => .bl (decide (i < j))) (tC (.int lo)) (tVar i) (tC (.int hi))) σ H Q := by
  refine ⟨_, hs, _, _, rfl, rfl, _, rfl, ?_⟩
  refine ite2' (fun h => ?_) (fun h => ?_)
  · refine ⟨_, _, rfl, rfl, _, rfl, ?_⟩
    have e : decide (lo ≤ z ∧ z < hi) = decide (z < hi) := by
      by_cases h2 : z < hi
      · rw [decide_eq_true h2, decide_eq_true ⟨h, h2⟩]
      · rw [decide_eq_false h2, decide_eq_false fun w => h2 w.2]
    rw [← e]
    exact q
  · refine ⟨_, rfl, ?_⟩
    rw [decide_eq_false fun w => h w.1] at q
    exact q
/-! ### what the walk asks of the text as the top has made it -/
structure Txt (K : PySem.W.Frag) (mg : Str → Option Value) (CM CS : Addr) : Prop where
  clM : Cls K CM
  clS : Cls K CS
  nMe : NoAttr K CM "me"
  nN : NoAttr K CM "n"
  nState : NoAttr K CM "state"
  nCount : NoAttr K CM "count"
  nPlace : NoAttr K CM "place"
  nStore : NoAttr K CM "store"
  nSeen : NoAttr K CM "seen"
  nAnswer : NoAttr K CM "answer"
  nRecord : NoAttr K CM "record"
  nCand : NoAttr K CM "candidate"
  nKept : NoAttr K CS "kept"
  mgM : mg "Member" = some (.ref CM)
  mgS : mg "Store" = some (.ref CS)
  done : GI mg "DONE" 0
  wantsP : GI mg "WANTS_PLACE" 16
  hasA : GI mg "HAS_ANSWER" 32
  full : GI mg "ROW_IS_FULL" 33
  putsR : GI mg "PUTS_RECORD" 64
  wrong : GI mg "WRONG_ARGUMENTS" (-2)
  notNow : GI mg "NOT_NOW" (-4)
  nb : GI mg "NUMBER_BYTES" 8
  whose : GI mg "WHOSE" 0
  countI : GI mg "COUNT" 1
  deed : GI mg "DEED" 2
  vI : GI mg "V" 3
  wI : GI mg "W" 4
  whats : GI mg "WHATS" 4
  keys : GI mg "KEYS" 16
  write : GI mg "WRITE" 1
  add : GI mg "ADD" 2
  swap : GI mg "SWAP" 3
  numbers : GI mg "NUMBERS" 18446744073709551616
  idle : GS mg "IDLE" "idle"
  tells : GS mg "TELLS" "tells"
  asks : GS mg "ASKS" "asks"
  puts : GS mg "PUTS" "puts"
  cells : GI mg "CELLS" 256
  begin_ : GI mg "BEGIN" 0
  do_ : GI mg "DO" 1
  record : GI mg "RECORD" 2
  wrote : GI mg "WROTE" 3
  got : GI mg "GOT" 4
  place : GI mg "PLACE" 5
  answer : GI mg "ANSWER" 6
  least : GI mg "LEAST_MEMBERS" 2
  most : GI mg "MOST_MEMBERS" 8
  lens : ∃ a, mg "CALL_LENGTHS" = some (.ref a) ∧ ∀ H, SqT K H a [.int 4, .int 6, .int 2, .int 2, .int 43, .int 2, .int 2, .int 3]
  len : mg "len" = none
  range : mg "range" = none
  rev : mg "reversed" = none
  tup : mg "tuple" = none
end Nw
end
section
set_option Elab.async false
set_option linter.all false
set_option maxRecDepth 100000
set_option maxHeartbeats 4000000
namespace Nw
open PySem L2
open Sv34 (Record Process Mode)
/-! ### promises -/
/-- a list of numbers comes back, new; nothing else is touched -/
def NewL (H : Hp) (Q : VK) (l : List Nat) : Prop := ∀ (q : Addr) (H' : Hp), H' q = some (.lst (l.map nV)) → H q = none → Same H H' → Q (.ref q) H'
def spNB : Sp := fun vs H Q _ => ∃ m : Nat, vs = [nV m] ∧ NewL H Q (Sv34.little 8 m)
def spNOB : Sp := fun vs H Q _ => ∃ (a : Addr) (b : List Nat), vs = [.ref a] ∧ H a = some (.lst (b.map nV)) ∧ Q (nV (b.foldr (fun c n => c + 256 * n) 0)) H
def spRB : Sp := fun vs H Q _ => ∃ (t : Addr) (r : Record), vs = [.ref t] ∧ H t = some (.tup (recV r)) ∧ NewL H Q r.bytes
def spROB : Sp := fun vs H Q _ => ∃ (a : Addr) (b : List Nat), vs = [.ref a] ∧ H a = some (.lst (b.map nV)) ∧ b.length = 40 ∧ (∀ x, x ∈ b → x < 256) ∧
  ∀ (q : Addr) (H' : Hp), H' q = some (.tup (recV (Sv34.recordOf b))) → H q = none → Same H H' → Q (.ref q) H'
/-! ### the turns of reversed, and of a comprehension over a step range -/
theorem for_rev {K : PySem.W.Frag} {a : Addr} {xs : List V} {g : TG} {tb : TS} {D : Ends} {σ : St} {H : Hp} (Pv : Nat → St → Hp → Prop) (h0 : Pv 0 σ H) (hl : ∀ i σ H, i ≤ xs.length → Pv i σ H → SqL K H a xs)
    (hs : ∀ i x σ H, i < xs.length → xs[xs.length - 1 - i]? = some x → Pv i σ H → g x σ H fun σ2 H2 => tb { D with nx := Pv (i + 1), ct := Pv (i + 1), bk := D.nx } σ2 H2) (hd : ∀ σ H, Pv xs.length σ H → D.nx σ H) :
    ∃ W : Nat → Nat → St → Hp → Prop, (∃ m, W 0 m σ H) ∧ ∀ i m σ H, W i m σ H →
      ((Itv K a xs.length).stop i H ∧ D.nx σ H) ∨ ((Itv K a xs.length).go i H ∧ ∃ N : St → Hp → Prop, (∀ σ' H', N σ' H' → ∃ m', m' < m ∧ W (i + 1) m' σ' H') ∧ ∀ x H', (Itv K a xs.length).yld i H x H' → g x σ H' fun σ2 H2 => tb { D with nx := N, ct := N, bk := D.nx } σ2 H2) := by
  refine ⟨fun i m σ H => m = xs.length - i ∧ i ≤ xs.length ∧ Pv i σ H, ⟨xs.length, by simp, Nat.zero_le _, h0⟩, ?_⟩
  rintro i m σ H ⟨rfl, hi, p⟩
  have q := hl i σ H hi p
  by_cases hlt : i < xs.length
  · have hj : xs.length - 1 - i < xs.length := by omega
    refine .inr ⟨⟨hlt, xs, xs[xs.length - 1 - i], q, List.getElem?_eq_getElem hj⟩, Pv (i + 1), fun σ' H' p' => ⟨xs.length - (i + 1), by omega, rfl, hlt, p'⟩, fun x H' y => ?_⟩
    obtain ⟨e, y⟩ := y
    subst e
    exact hs i x σ _ hlt (y xs q) p
  · have e : i = xs.length := by omega
    subst e
    exact .inl ⟨Nat.le_refl _, hd σ H p⟩
theorem lc_rangeC {lo c : Int} {n : Nat} {g : TG} {tt : TT} {te : TE} {vs : List Nat} {σ : St} {H1 : Hp} {D : Addr} {Qd : Hp → Prop} (Pv : Nat → Hp → Prop) (h0 : Pv 0 (upd H1 D (.lst [])))
    (hs : ∀ i H, i < n → Pv i H → g (.int (lo + (i : Nat) * c)) (wipe σ vs) H fun σ2 H2 => wipe σ2 vs = wipe σ vs ∧ tt σ2 H2 fun b H3 =>
      if b = true then te σ2 H3 fun y H4 => ∃ acc, H4 D = some (.lst acc) ∧ acc.length < sizeLine ∧ Pv (i + 1) (upd H4 D (.lst (acc ++ [y]))) else Pv (i + 1) H3) (hd : ∀ H, Pv n H → Qd H) :
    ∃ W : Nat → Nat → Hp → Prop, (∃ m, W 0 m (upd H1 D (.lst []))) ∧ ∀ i m H, W i m H →
      ((Itc lo c n).stop i H ∧ Qd H) ∨ ((Itc lo c n).go i H ∧ ∃ Nx : Hp → Prop, (∀ H', Nx H' → ∃ m', m' < m ∧ W (i + 1) m' H') ∧ ∀ x H', (Itc lo c n).yld i H x H' → g x (wipe σ vs) H' fun σ2 H2 => wipe σ2 vs = wipe σ vs ∧ tt σ2 H2 fun b H3 =>
        if b = true then te σ2 H3 fun y H4 => ∃ acc, H4 D = some (.lst acc) ∧ acc.length < sizeLine ∧ Nx (upd H4 D (.lst (acc ++ [y]))) else Nx H3) := by
  refine ⟨fun i m H => m = n - i ∧ i ≤ n ∧ Pv i H, ⟨n, by simp, Nat.zero_le _, h0⟩, ?_⟩
  rintro i m H ⟨rfl, hi, p⟩
  by_cases hlt : i < n
  · refine .inr ⟨hlt, Pv (i + 1), fun H' p' => ⟨n - (i + 1), by omega, rfl, hlt, p'⟩, fun x H' y => ?_⟩
    obtain ⟨e, y⟩ := y
    subst e y
    exact hs i _ hlt p
  · have e : i = n := by omega
    subst e
    exact .inl ⟨Nat.le_refl _, hd H p⟩
section
variable {P : Program} {w : World} {K : PySem.W.Frag} {mg : Str → Option Value} {base : Heap} {CM CS : Addr}
/-! ### number_bytes -/
theorem scNB : FnScope ["number", "row", "rest"] ["number"] (defScope sNB) := ⟨rfl, rfl, rfl, by decide +kernel, rfl, by decide +kernel, by decide +kernel⟩
theorem ok_nb {f : Addr} {fd : FuncData} (F : Fun K "number_bytes" "number_bytes" sNB f fd) (T : Txt K mg CM CS) : FnOk P w K mg base CX0 1 f fd ["number"] spNB := by
  refine F.ok scNB (fun vs H Q E h => ?_) (fun cdv A outer s H vs Q E hr h => ?_)
  · obtain ⟨m, rfl, _⟩ := h
    rfl
  · obtain ⟨m, rfl, k⟩ := h
    refine ⟨_, pss_cons (ps_set (i := 1) scNB.nd rfl (Or.inl rfl) (pe_lst pa_nil))
      (pss_cons (ps_set (i := 2) scNB.nd rfl (Or.inl rfl) (pv 0))
      (pss_cons (ps_while PassesOwn.never (pt_cmpR op_lt (pe_callB call_len_seq (by rfl) T.len PySem.boot_len (pa_cons (pv 1) pa_nil)) (pgi rfl T.nb) (nomark _))
        (pss_cons (ps_expr (pe_bm PySem.F.plainAttrs_list PySem.F.slot_list_append PySem.F.type_list_append mt_append (pv 1) (pa_cons (pe_op op_mod (pv 2) pe_int) pa_nil)))
        (pss_one (ps_set (i := 2) scNB.nd rfl (Or.inl rfl) (pe_op op_fdiv (pv 2) pe_int)))))
      (pss_one (ps_ret (pv 1))))), ?_⟩
    refine ⟨Nat.zero_le _, fun q hq => ?_⟩
    refine ⟨_, rfl, ?_⟩
    refine ⟨fun j σ H1 => ∃ i, i + j = 8 ∧ σ = [some (nV m), some (.ref q), some (nV (m / 256 ^ i))] ∧ H1 q = some (.lst ((Sv34.little i m).map nV)) ∧ Same H H1, ⟨8, 0, rfl, ?_, upd_same, same_new hq⟩, ?_⟩
    · show [some (nV m), some (V.ref q), some (nV m)] = _
      rw [Nat.pow_zero, Nat.div_one]
    · rintro j σ H1 ⟨i, ij, rfl, h1, s1⟩
      have hlen : ((Sv34.little i m).map nV).length = i := by rw [List.length_map, low_len]
      refine ⟨_, rfl, q, _, rfl, .inl (SqL.of h1), _, _, rfl, rfl, _, rfl, ?_⟩
      refine ite2' (fun hc => ?_) (fun hc => ?_)
      · rw [hlen] at hc
        refine ⟨fun σ' H' => σ' = [some (nV m), some (.ref q), some (nV (m / 256 ^ (i + 1)))] ∧ H' q = some (.lst ((Sv34.little (i + 1) m).map nV)) ∧ Same H H', fun σ' H' ⟨e1, e2, e3⟩ => ⟨j - 1, by omega, i + 1, by omega, e1, e2, e3⟩, ?_⟩
        refine ⟨_, rfl, .inl ⟨rfl, _, SqL.of h1⟩, _, rfl, _, _, rfl, rfl, (by show (0 : Int) < 256; decide), q, _, _, rfl, rfl, h1, (by rw [hlen]; exact small1000 (by omega)), ?_⟩
        refine ⟨_, rfl, _, _, rfl, rfl, ⟨by decide, by decide⟩, ?_⟩
        refine ⟨?_, ?_, fun b o e => ?_⟩
        · show [some (nV m), some (V.ref q), some (V.int (((m / 256 ^ i : Nat) : Int) / 256))] = _
          rw [low_rest, Int.natCast_ediv]
          rfl
        · rw [upd_same, low_succ, List.map_append]
          show some (HO.lst ((Sv34.little i m).map nV ++ [V.int (((m / 256 ^ i : Nat) : Int) % 256)])) = _
          have e : (((m / 256 ^ i : Nat) : Int) % 256) = ((m / 256 ^ i % 256 : Nat) : Int) := by rw [Int.natCast_emod]; rfl
          rw [e]
          rfl
        · rw [upd_ne (ne_of_none e hq)]
          exact s1 b o e
      · rw [hlen] at hc
        have ei : i = 8 := by omega
        subst ei
        refine ⟨_, rfl, ?_⟩
        exact k q H1 h1 hq s1
/-! ### number_of_bytes -/
theorem rev_step {b : List Nat} {i : Nat} {c : Nat} (h : b[b.length - 1 - i]? = some c) (hi : i < b.length) : b.drop (b.length - (i + 1)) = c :: b.drop (b.length - i) := by
  have e : b.length - (i + 1) = b.length - 1 - i := by omega
  obtain ⟨hl, hv⟩ := List.getElem?_eq_some_iff.mp h
  rw [e, List.drop_eq_getElem_cons hl, hv]
  congr 2
  omega
theorem scNOB : FnScope ["row", "number", "byte"] ["row"] (defScope sNOB) := ⟨rfl, rfl, rfl, by decide +kernel, rfl, by decide +kernel, by decide +kernel⟩
theorem ok_nob {f : Addr} {fd : FuncData} (F : Fun K "number_of_bytes" "number_of_bytes" sNOB f fd) (T : Txt K mg CM CS) : FnOk P w K mg base CX0 1 f fd ["row"] spNOB := by
  refine F.ok scNOB (fun vs H Q E h => ?_) (fun cdv A outer s H vs Q E hr h => ?_)
  · obtain ⟨a, b, rfl, _⟩ := h
    rfl
  · obtain ⟨a, b, rfl, ha, k⟩ := h
    refine ⟨_, pss_cons (ps_set (i := 1) scNOB.nd rfl (Or.inl rfl) pe_int)
      (pss_cons (ps_for PassesOwn.never rfl (pi_reversed rfl T.rev (pa_cons (pv 0) pa_nil)) (pg_name (i := 2) scNOB.nd rfl (Or.inl rfl))
        (pss_one (ps_set (i := 1) scNOB.nd rfl (Or.inl rfl) (pe_op op_add (pe_op op_mul pe_int (pv 1)) (pv 2)))))
      (pss_one (ps_ret (pv 1)))), ?_⟩
    have hlm : (b.map nV).length = b.length := List.length_map ..
    refine ⟨_, rfl, a, b.map nV, rfl, SqL.of ha, for_rev (K := K) (a := a) (xs := b.map nV) (fun i σ H' => ∃ v : Option V, σ = [some (.ref a), some (nV ((b.drop (b.length - i)).foldr (fun c n => c + 256 * n) 0)), v] ∧ H' = H)
      ⟨none, ?_, rfl⟩ (fun i σ H' _ ⟨_, _, e⟩ => by rw [e]; exact SqL.of ha) ?_ ?_⟩
    · rw [Nat.sub_zero, List.drop_length]
      rfl
    · rintro i y σ H' hi hy ⟨v, rfl, rfl⟩
      rw [hlm] at hi
      rw [hlm, List.getElem?_map] at hy
      cases e : b[b.length - 1 - i]? with
      | none =>
        rw [e] at hy
        cases hy
      | some c =>
        rw [e] at hy
        have ey : nV c = y := Option.some.inj hy
        subst ey
        refine ⟨_, rfl, _, _, rfl, rfl, .inl ⟨by decide, by decide⟩, _, rfl, _, _, rfl, rfl, ?_⟩
        refine ⟨some (nV c), ?_, rfl⟩
        rw [rev_step e hi, List.foldr_cons]
        show [some (V.ref a), some (V.int (256 * (((b.drop (b.length - i)).foldr (fun c n => c + 256 * n) 0 : Nat) : Int) + (c : Int))), some (nV c)] = _
        have ez : (256 * (((b.drop (b.length - i)).foldr (fun c n => c + 256 * n) 0 : Nat) : Int) + (c : Int)) = ((c + 256 * (b.drop (b.length - i)).foldr (fun c n => c + 256 * n) 0 : Nat) : Int) := by omega
        rw [ez]
    · rintro σ H' ⟨v, rfl, rfl⟩
      refine ⟨_, rfl, ?_⟩
      rw [hlm, Nat.sub_self, List.drop_zero]
      exact k
/-! ### record_bytes -/
theorem scRB : FnScope ["record", "row", "number"] ["record"] (defScope sRB) := ⟨rfl, rfl, rfl, by decide +kernel, rfl, by decide +kernel, by decide +kernel⟩
def recN (r : Record) : List Nat := [r.who, r.count, r.what, r.v, r.w]
theorem ok_rb {f f1 : Addr} {fd fd1 : FuncData} (F : Fun K "record_bytes" "record_bytes" sRB f fd) (T : Txt K mg CM CS) (F1 : Fun K "number_bytes" "number_bytes" sNB f1 fd1) (b1 : Binds K fd1 ["number"] []) (g1 : mg "number_bytes" = some (.ref f1)) :
    FnOk P w K mg base CX0 2 f fd ["record"] spRB := by
  have G1 : FnOk P w K mg base CX0 1 f1 fd1 ["number"] spNB := ok_nb F1 T
  refine F.ok scRB (fun vs H Q E h => ?_) (fun cdv A outer s H vs Q E hr h => ?_)
  · obtain ⟨t, r, rfl, _⟩ := h
    rfl
  · obtain ⟨t, r, rfl, ht, k⟩ := h
    refine ⟨_, pss_cons (ps_set (i := 1) scRB.nd rfl (Or.inl rfl) (pe_lst pa_nil))
      (pss_cons (ps_for PassesOwn.never rfl (pi_tup (pv 0)) (pg_name (i := 2) scRB.nd rfl (Or.inl rfl))
        (pss_one (ps_expr (pe_bm PySem.F.plainAttrs_list PySem.F.slot_list_extend PySem.F.type_list_extend mt_extend (pv 1) (pa_cons (pe_call G1 hr rfl g1 F1.kp b1 .nil pass0 (pa_cons (pv 2) pa_nil)) pa_nil)))))
      (pss_one (ps_ret (pv 1)))), ?_⟩
    refine ⟨Nat.zero_le _, fun q hq => ?_⟩
    refine ⟨_, rfl, t, rfl, ⟨_, SqT.of (same_new hq _ _ ht)⟩, for_tup (K := K) (a := t) (xs := recV r) (fun i σ H' => ∃ v : Option V, σ = [some (.ref t), some (.ref q), v] ∧ H' q = some (.lst ((((recN r).take i).flatMap (Sv34.little 8)).map nV)) ∧ Same H H')
      ⟨none, rfl, upd_same, same_new hq⟩ (fun i σ H' _ ⟨_, _, _, s1⟩ => SqT.of (s1 _ _ ht)) ?_ ?_⟩
    · rintro i y σ H' hy ⟨v, rfl, h1, s1⟩
      have hr' : recV r = (recN r).map nV := rfl
      rw [hr', List.getElem?_map] at hy
      cases e : (recN r)[i]? with
      | none =>
        rw [e] at hy
        cases hy
      | some m =>
        rw [e] at hy
        have ey : nV m = y := Option.some.inj hy
        subst ey
        have hi : i < 5 := (List.getElem?_eq_some_iff.mp e).1
        refine ⟨_, rfl, .inl ⟨rfl, _, SqL.of h1⟩, _, rfl, m, rfl, fun b H2 hb hbn s2 => ?_⟩
        have h1' := s2 _ _ h1
        have hl1 : ((((recN r).take i).flatMap (Sv34.little 8)).map nV).length ≤ 40 := by
          rw [List.length_map, List.length_flatMap]
          have : (((recN r).take i).map fun a => (Sv34.little 8 a).length) = ((recN r).take i).map fun _ => 8 := by
            apply List.map_congr_left
            intro a _
            exact low_len a 8
          rw [this, List.map_const', List.sum_replicate_nat, List.length_take]
          have : (recN r).length = 5 := rfl
          omega
        refine ⟨q, b, _, _, rfl, rfl, h1', hb, ?_, ?_⟩
        · rw [List.length_map (as := Sv34.little 8 m), low_len]
          exact Nat.le_trans (Nat.add_le_add_right hl1 8) (by decide)
        · refine ⟨some (nV m), rfl, ?_, fun c o ec => ?_⟩
          · rw [upd_same, ← List.map_append]
            have et : (recN r).take (i + 1) = (recN r).take i ++ [m] := by rw [List.take_add_one, e]; rfl
            rw [et, List.flatMap_append, List.flatMap_singleton]
          · rw [upd_ne (ne_of_none ec hq)]
            exact s2 _ _ (s1 _ _ ec)
    · rintro σ H' ⟨v, rfl, h1, s1⟩
      refine ⟨_, rfl, ?_⟩
      exact k q H' h1 hq s1
/-! ### record_of_bytes -/
theorem scROB : FnScope ["row", "at"] ["row"] (defScope sROB) := ⟨rfl, rfl, rfl, by decide +kernel, rfl, by decide +kernel, by decide +kernel⟩
def lcScope : Scope := { kind := ScopeKind.function, names := [(Str.ofString ".0", NameKind.local), (Str.ofString "at", NameKind.local), (Str.ofString "number_of_bytes", NameKind.globalImplicit), (Str.ofString "NUMBER_BYTES", NameKind.globalImplicit), (Str.ofString "row", NameKind.free)], isGenerator := false, isCoroutine := false }
theorem blkROB : BlkOk ["row", "at"] (defScope sROB) lcScope [("at", 1)] := ⟨rfl, by decide +kernel, by decide +kernel, by decide +kernel, by decide +kernel⟩
theorem cut_at {b : List Nat} {i : Nat} : cutV (b.map nV) (some ((0 : Int) + (i : Nat) * 8)) (some ((0 : Int) + (i : Nat) * 8 + 8)) = ((b.drop (8 * i)).take 8).map nV := by
  unfold cutV
  have e1 : (0 : Int) + (i : Nat) * 8 = ((8 * i : Nat) : Int) := by omega
  have e2 : (0 : Int) + (i : Nat) * 8 + 8 = ((8 * i + 8 : Nat) : Int) := by omega
  rw [e2, e1, HT.sIx_nat, HT.sIx_nat, List.length_map, ← List.map_drop, ← List.map_take]
  congr 1
  by_cases h : 8 * i ≤ b.length
  · rw [Nat.min_eq_left h]
    by_cases h2 : 8 * i + 8 ≤ b.length
    · rw [Nat.min_eq_left h2]
      congr 1
      omega
    · rw [Nat.min_eq_right (by omega), List.take_of_length_le (by rw [List.length_drop]; omega), List.take_of_length_le (by rw [List.length_drop]; omega)]
  · rw [Nat.min_eq_right (show b.length ≤ 8 * i by omega), List.drop_of_length_le (Nat.le_refl _), List.drop_of_length_le (show b.length ≤ 8 * i by omega), List.take_nil, List.take_nil]
theorem ok_rob {f f1 : Addr} {fd fd1 : FuncData} (F : Fun K "record_of_bytes" "record_of_bytes" sROB f fd) (T : Txt K mg CM CS) (F1 : Fun K "number_of_bytes" "number_of_bytes" sNOB f1 fd1) (b1 : Binds K fd1 ["row"] []) (g1 : mg "number_of_bytes" = some (.ref f1)) :
    FnOk P w K mg base CX0 2 f fd ["row"] spROB := by
  have G1 : FnOk P w K mg base CX0 1 f1 fd1 ["row"] spNOB := ok_nob F1 T
  refine F.ok scROB (fun vs H Q E h => ?_) (fun cdv A outer s H vs Q E hr h => ?_)
  · obtain ⟨a, b, rfl, _⟩ := h
    rfl
  · obtain ⟨a, b, rfl, ha, hb, hx, k⟩ := h
    refine ⟨_, pss_one (ps_ret (pe_callTy call_tuple_of (by rfl) T.tup PyProof.Rows.boot_tuple (pa_cons
      (pe_lc (own := [("at", 1)]) rfl scROB.nd (pi_range3 rfl T.range (pa_cons pe_int (pa_cons (pe_callB call_len_seq (by rfl) T.len PySem.boot_len (pa_cons (pv 0) pa_nil)) (pa_cons (pgi rfl T.nb) pa_nil))))
        blkROB
        (fun s H C cl fp => pg_name (i := 1) scROB.nd rfl (Or.inl rfl)) (fun s H C cl fp => pts_nil)
        (fun s H C cl fp => pe_call G1 hr rfl g1 F1.kp b1 .nil pass0 (pa_cons (pe_slice (r := rSlL K) sl_list (pv 0) (po_some (pv 1)) (po_some (pe_op op_add (pv 1) (pgi rfl T.nb)))) pa_nil))) pa_nil))), ?_⟩
    have hlm : (b.map nV).length = 40 := by rw [List.length_map]; exact hb
    refine ⟨_, rfl, a, _, rfl, .inl (SqL.of ha), 0, 40, 8, 5, ?_, ⟨by decide, by decide, by decide, by decide⟩, fun D hD => ?_⟩
    · rw [hlm]
      rfl
    refine lc_rangeC (fun i H' => H' D = some (.lst (((recN (Sv34.recordOf b)).take i).map nV)) ∧ Same H H') ⟨upd_same, same_new hD⟩ ?_ ?_
    · rintro i H' hi ⟨h1, s1⟩
      refine ⟨rfl, ?_⟩
      refine ⟨_, rfl, _, rfl, _, rfl, _, rfl, _, _, rfl, rfl, _, rfl, a, _, rfl, SqL.of (s1 _ _ ha), fun c hc => ?_⟩
      rw [cut_at]
      refine ⟨c, (b.drop (8 * i)).take 8, rfl, upd_same, ?_⟩
      have hDc : D ≠ c := ne_of_none h1 hc
      refine ⟨_, (by rw [upd_ne hDc]; exact h1), ?_, ?_, fun x o e => ?_⟩
      · rw [List.length_map, List.length_take]
        exact Nat.lt_of_le_of_lt (Nat.min_le_right _ _) (show 5 < sizeLine by decide)
      · rw [upd_same]
        have e : (recN (Sv34.recordOf b))[i]? = some (((b.drop (8 * i)).take 8).foldr (fun c n => c + 256 * n) 0) := by
          rw [← word_bytes hx (8 * i) 8]
          match i, hi with
          | 0, _ => rfl
          | 1, _ => rfl
          | 2, _ => rfl
          | 3, _ => rfl
          | 4, _ => rfl
        have e2 : (recN (Sv34.recordOf b)).take (i + 1) = (recN (Sv34.recordOf b)).take i ++ [((b.drop (8 * i)).take 8).foldr (fun c n => c + 256 * n) 0] := by rw [List.take_add_one, e]; rfl
        rw [e2, List.map_append]
        rfl
      · rw [upd_ne (ne_of_none e hD), upd_ne (ne_of_none (s1 _ _ e) hc)]
        exact s1 _ _ e
    · rintro H' ⟨h1, s1⟩
      refine ⟨D, _, rfl, .inl ⟨SqL.of h1, fun t ht => ?_⟩⟩
      exact k t _ upd_same (s1.free ht) (s1.trans (same_new ht))
end
end Nw
end
section
set_option Elab.async false
set_option linter.all false
set_option maxRecDepth 100000
set_option maxHeartbeats 4000000
namespace Nw
open PySem L2
open Sv34 (Record Process Mode)
def spSI (CS : Addr) : Sp := fun vs H Q _ => ∃ (p dx : Addr), vs = [.ref p] ∧ H p = some (.ins CS dx []) ∧ ∀ (l : Addr) (H' : Hp), StoreAt CS H' p l Sv34.zeros → H l = none → Keeps [p] H H' → Q .non H'
def spVal (CS : Addr) : Sp := fun vs H Q _ => ∃ (sa l : Addr) (vals : List Nat) (k : Nat), vs = [.ref sa, nV k] ∧ StoreAt CS H sa l vals ∧ k < vals.length ∧ Q (nV (vals.getD k 0)) H
def spOut (CS : Addr) : Sp := fun vs H Q _ => ∃ (sa l t : Addr) (vals : List Nat) (r : Record), vs = [.ref sa, .ref t] ∧ StoreAt CS H sa l vals ∧ vals.length = 16 ∧ H t = some (.tup (recV r)) ∧
  ∀ H' : Hp, StoreAt CS H' sa l (Sv34.does_ vals r).1 → Keeps [l] H H' → Q (nV (Sv34.does_ vals r).2) H'
theorem at_nat {vals : List Nat} {k : Nat} (h : k < vals.length) : (vals.map nV)[k]? = some (nV (vals.getD k 0)) := by
  rw [List.getElem?_map, List.getD_eq_getElem?_getD, List.getElem?_eq_getElem h]
  rfl
theorem ix_nat {n k : Nat} (h : k < n) : ixN n (k : Int) = some k := by
  unfold ixN
  rw [if_pos (by omega), if_pos (by omega)]
  simp
theorem ix_of {n k : Nat} {z : Int} (e : z = (k : Int)) (h : k < n) : ixN n z = some k := by
  rw [e]
  exact ix_nat h
theorem does0 {s : Sv34.Values} {r : Record} (h : r.what / 16 % 4 = 0) : Sv34.does_ s r = (s, s.getD (r.what % 16) 0) := by
  unfold Sv34.does_
  dsimp only
  rw [if_pos h]
theorem does1 {s : Sv34.Values} {r : Record} (h : r.what / 16 % 4 = 1) : Sv34.does_ s r = (s.set (r.what % 16) r.v, s.getD (r.what % 16) 0) := by
  unfold Sv34.does_
  dsimp only
  rw [if_neg (by omega), if_pos h]
theorem does2 {s : Sv34.Values} {r : Record} (h : r.what / 16 % 4 = 2) : Sv34.does_ s r = (s.set (r.what % 16) ((s.getD (r.what % 16) 0 + r.v) % Sv34.W), (s.getD (r.what % 16) 0 + r.v) % Sv34.W) := by
  unfold Sv34.does_
  dsimp only
  rw [if_neg (by omega), if_neg (by omega), if_pos h]
theorem does3 {s : Sv34.Values} {r : Record} (h : r.what / 16 % 4 = 3) : Sv34.does_ s r = (if s.getD (r.what % 16) 0 = r.v then s.set (r.what % 16) r.w else s, s.getD (r.what % 16) 0) := by
  unfold Sv34.does_
  dsimp only
  rw [if_neg (by omega), if_neg (by omega), if_neg (by omega)]
theorem map_set {vals : List Nat} {k z : Nat} : (vals.map nV).set k (nV z) = (vals.set k z).map nV := by
  rw [List.map_set]
section
variable {P : Program} {w : World} {K : PySem.W.Frag} {mg : Str → Option Value} {base : Heap} {CM CS : Addr}
/-! ### Store.__init__ -/
theorem scSI : FnScope ["self"] ["self"] (defScope sSI) := ⟨rfl, rfl, rfl, by decide +kernel, rfl, by decide +kernel, by decide +kernel⟩
theorem ok_si {f : Addr} {fd : FuncData} (F : Fun K "__init__" "Store.__init__" sSI f fd) (T : Txt K mg CM CS) : FnOk P w K mg base CX0 1 f fd ["self"] (spSI CS) := by
  refine F.ok scSI (fun vs H Q E h => ?_) (fun cdv A outer s H vs Q E hr h => ?_)
  · obtain ⟨p, dx, rfl, _⟩ := h
    rfl
  · obtain ⟨p, dx, rfl, hp, k⟩ := h
    refine ⟨_, pss_one (ps_fld (pv 0) (pe_op op_rep (pe_lst (pa_cons pe_int pa_nil)) (pgi rfl T.keys)) rfl), ?_⟩
    refine ⟨(by show 1 ≤ sizeLine; decide), fun l0 h0 => ?_⟩
    refine ⟨l0, _, _, rfl, rfl, upd_same, by decide, by decide, (by show 1 * 16 ≤ sizeLine; decide), fun l hl => ?_⟩
    have s1 : Same H (upd H l0 (.lst [V.int 0])) := same_new h0
    have s2 := s1.trans (same_new (o := HO.lst (List.replicate (16 : Int).toNat [V.int 0]).flatten) hl)
    refine ⟨_, rfl, p, CS, dx, [], rfl, s2 _ _ hp, T.clS, T.nKept, (by show 0 < 1000; decide), ?_⟩
    have hl0 : H l = none := s1.free hl
    have npl : l ≠ p := fun e => by rw [e, hp] at hl0; cases hl0
    refine k l _ ⟨⟨dx, upd_same⟩, ?_⟩ hl0 fun b o e hb => ?_
    · rw [upd_ne npl, upd_same]
      rfl
    · rw [upd_ne (by simpa using hb)]
      exact s2 _ _ e
/-! ### Store.value_of -/
theorem scVal : FnScope ["self", "key"] ["self", "key"] (defScope sVal) := ⟨rfl, rfl, rfl, by decide +kernel, rfl, by decide +kernel, by decide +kernel⟩
theorem ok_val {f : Addr} {fd : FuncData} (F : Fun K "value_of" "Store.value_of" sVal f fd) (T : Txt K mg CM CS) : FnOk P w K mg base CX0 1 f fd ["self", "key"] (spVal CS) := by
  refine F.ok scVal (fun vs H Q E h => ?_) (fun cdv A outer s H vs Q E hr h => ?_)
  · obtain ⟨sa, l, vals, k, rfl, _⟩ := h
    rfl
  · obtain ⟨sa, l, vals, k, rfl, ⟨⟨ds, h1⟩, h2⟩, hk, q⟩ := h
    refine ⟨_, pss_one (ps_ret (pe_ix ix_list (pe_fld (pv 0) rfl) (pv 1) (fun _ _ => rfl))), ?_⟩
    exact ⟨_, rfl, sa, CS, ds, _, _, rfl, h1, T.clS, T.nKept, sf_at l, _, rfl, l, _, _, _, rfl, rfl, SqL.of h2, atI_nat (at_nat hk), q⟩
/-! ### Store.carry_out -/
theorem scOut : FnScope ["self", "record", "deed", "what", "key", "before"] ["self", "record"] (defScope sOut) := ⟨rfl, rfl, rfl, by decide +kernel, rfl, by decide +kernel, by decide +kernel⟩
theorem ok_out {f : Addr} {fd : FuncData} (F : Fun K "carry_out" "Store.carry_out" sOut f fd) (T : Txt K mg CM CS) : FnOk P w K mg base CX0 1 f fd ["self", "record"] (spOut CS) := by
  refine F.ok scOut (fun vs H Q E h => ?_) (fun cdv A outer s H vs Q E hr h => ?_)
  · obtain ⟨sa, l, t, vals, r, rfl, _⟩ := h
    rfl
  · obtain ⟨sa, l, t, vals, r, rfl, ⟨⟨ds, h1⟩, h2⟩, hlen, ht, k⟩ := h
    refine ⟨_, pss_cons (ps_set (i := 2) scOut.nd rfl (Or.inl rfl) (pe_op op_mod (pe_ix ix_tup (pv 1) (pgi rfl T.deed) (fun _ _ => rfl)) (pe_op op_mul (pgi rfl T.whats) (pgi rfl T.keys))))
      (pss_cons (ps_set (i := 3) scOut.nd rfl (Or.inl rfl) (pe_op op_fdiv (pv 2) (pgi rfl T.keys)))
      (pss_cons (ps_set (i := 4) scOut.nd rfl (Or.inl rfl) (pe_op op_mod (pv 2) (pgi rfl T.keys)))
      (pss_cons (ps_set (i := 5) scOut.nd rfl (Or.inl rfl) (pe_ix ix_list (pe_fld (pv 0) rfl) (pv 4) (fun _ _ => rfl)))
      (pss_cons (ps_if (pt_cmpR op_eq (pv 3) (pgi rfl T.write) (nomark _)) (pss_one (ps_asg (pe_ix ix_tup (pv 1) (pgi rfl T.vI) (fun _ _ => rfl)) (pg_sub (pe_fld (pv 0) rfl) (pv 4) set_list))) pss_nil)
      (pss_cons (ps_if (pt_cmpR op_eq (pv 3) (pgi rfl T.add) (nomark _))
        (pss_cons (ps_asg (pe_op op_mod (pe_op op_add (pv 5) (pe_ix ix_tup (pv 1) (pgi rfl T.vI) (fun _ _ => rfl))) (pgi rfl T.numbers)) (pg_sub (pe_fld (pv 0) rfl) (pv 4) set_list))
        (pss_one (ps_ret (pe_ix ix_list (pe_fld (pv 0) rfl) (pv 4) (fun _ _ => rfl))))) pss_nil)
      (pss_cons (ps_if (PW.pt (pw_and (pt_cmpR op_eq (pv 3) (pgi rfl T.swap) (nomark _)) (pw_and1 (pt_cmpR op_eq (pv 5) (pe_ix ix_tup (pv 1) (pgi rfl T.vI) (fun _ _ => rfl)) (nomark _)))))
        (pss_one (ps_asg (pe_ix ix_tup (pv 1) (pgi rfl T.wI) (fun _ _ => rfl)) (pg_sub (pe_fld (pv 0) rfl) (pv 4) set_list))) pss_nil)
      (pss_one (ps_ret (pv 5))))))))), ?_⟩
    have hk : r.what % 16 < vals.length := by rw [hlen]; omega
    have hkm : r.what % 16 < (vals.map nV).length := by rw [List.length_map]; exact hk
    have ek : ((r.what : Int) % (4 * 16) % 16) = ((r.what % 16 : Nat) : Int) := by omega
    have ew : ((r.what : Int) % (4 * 16) / 16) = ((r.what / 16 % 4 : Nat) : Int) := by omega
    refine ⟨_, rfl, t, _, _, _, rfl, rfl, SqT.of ht, at_of (j := 2) rfl rfl, _, _, rfl, rfl, .inl ⟨by decide, by decide⟩, _, _, rfl, rfl, (by show (0 : Int) < 4 * 16; decide), ?_⟩
    refine ⟨_, rfl, _, _, rfl, rfl, ⟨by decide, by decide⟩, ?_⟩
    refine ⟨_, rfl, _, _, rfl, rfl, (by show (0 : Int) < 16; decide), ?_⟩
    refine ⟨_, rfl, sa, CS, ds, _, _, rfl, h1, T.clS, T.nKept, sf_at l, _, rfl, l, _, _, _, rfl, rfl, SqL.of h2, at_of ek (at_nat hk), ?_⟩
    have nwi : ∀ {a b : Int}, ¬ a = b → ¬ V.int a = V.int b := fun h e => h (V.int.inj e)
    have nsl : sa ≠ l := ne_of h1 h2 (by intro z; cases z)
    refine ⟨_, rfl, rfl, _, rfl, ?_⟩
    by_cases w1 : r.what / 16 % 4 = 1
    · refine iteY (congrArg V.int (by omega)) ?_
      refine ⟨_, rfl, t, _, _, _, rfl, rfl, SqT.of ht, at_of (j := 3) rfl rfl, _, rfl, sa, CS, ds, _, _, rfl, h1, T.clS, T.nKept, sf_at l, _, rfl, l, _, _, _, rfl, rfl, h2, ix_of ek hkm, ?_⟩
      refine ⟨_, rfl, rfl, _, rfl, ?_⟩
      refine iteN (nwi (by omega)) ?_
      refine ⟨_, rfl, rfl, _, rfl, ?_⟩
      refine iteN (nwi (by omega)) ?_
      refine iteF ?_
      refine ⟨_, rfl, ?_⟩
      rw [does1 w1] at k
      exact k _ ⟨⟨ds, by rw [upd_ne nsl]; exact h1⟩, by rw [upd_same, map_set]⟩ (keeps_upd (by simp))
    · refine iteN (nwi (by omega)) ?_
      refine ⟨_, rfl, rfl, _, rfl, ?_⟩
      by_cases w2 : r.what / 16 % 4 = 2
      · refine iteY (congrArg V.int (by omega)) ?_
        refine ⟨_, rfl, _, rfl, t, _, _, _, rfl, rfl, SqT.of ht, at_of (j := 3) rfl rfl, _, _, rfl, rfl, _, _, rfl, rfl, (by show (0 : Int) < 18446744073709551616; decide), _, rfl, sa, CS, ds, _, _, rfl, h1, T.clS, T.nKept, sf_at l, _, rfl, l, _, _, _, rfl, rfl, h2, ix_of ek hkm, ?_⟩
        have ez : (((vals.getD (r.what % 16) 0 : Nat) : Int) + (r.v : Int)) % 18446744073709551616 = (((vals.getD (r.what % 16) 0 + r.v) % Sv34.W : Nat) : Int) := by
          have c : Sv34.W = 18446744073709551616 := rfl
          rw [c]
          omega
        refine ⟨_, rfl, sa, CS, ds, _, _, rfl, (by rw [upd_ne nsl]; exact h1), T.clS, T.nKept, sf_at l, _, rfl, l, _, _, _, rfl, rfl, SqL.of upd_same, at_of ek (List.getElem?_set_self hkm), ?_⟩
        rw [does2 w2] at k
        show Q (V.int ((((vals.getD (r.what % 16) 0 : Nat) : Int) + (r.v : Int)) % 18446744073709551616)) (upd H l (.lst ((vals.map nV).set (r.what % 16) (V.int ((((vals.getD (r.what % 16) 0 : Nat) : Int) + (r.v : Int)) % 18446744073709551616)))))
        rw [ez]
        exact k _ ⟨⟨ds, by rw [upd_ne nsl]; exact h1⟩, by rw [upd_same, map_set]⟩ (keeps_upd (by simp))
      · refine iteN (nwi (by omega)) ?_
        refine ⟨_, rfl, rfl, _, rfl, ?_⟩
        by_cases w3 : r.what / 16 % 4 = 3
        · refine iteY (congrArg V.int (by omega)) ?_
          refine ⟨_, rfl, _, rfl, t, _, _, _, rfl, rfl, SqT.of ht, at_of (j := 3) rfl rfl, rfl, _, rfl, ?_⟩
          rw [does3 w3] at k
          by_cases e : vals.getD (r.what % 16) 0 = r.v
          · refine iteY (congrArg nV e) ?_
            rw [if_pos e] at k
            refine ⟨_, rfl, t, _, _, _, rfl, rfl, SqT.of ht, at_of (j := 4) rfl rfl, _, rfl, sa, CS, ds, _, _, rfl, h1, T.clS, T.nKept, sf_at l, _, rfl, l, _, _, _, rfl, rfl, h2, ix_of ek hkm, ?_⟩
            refine ⟨_, rfl, ?_⟩
            exact k _ ⟨⟨ds, by rw [upd_ne nsl]; exact h1⟩, by rw [upd_same, map_set]⟩ (keeps_upd (by simp))
          · refine iteN (fun z => e (Int.ofNat.inj (V.int.inj z))) ?_
            rw [if_neg e] at k
            refine ⟨_, rfl, ?_⟩
            exact k _ ⟨⟨ds, h1⟩, h2⟩ (Keeps.refl _ _)
        · refine iteN (nwi (by omega)) ?_
          refine iteF ?_
          refine ⟨_, rfl, ?_⟩
          rw [does0 (by omega)] at k
          exact k _ ⟨⟨ds, h1⟩, h2⟩ (Keeps.refl _ _)
end
end Nw
end
section
set_option Elab.async false
set_option linter.all false
set_option maxRecDepth 100000
set_option maxHeartbeats 4000000
namespace Nw
open PySem L2
open Sv34 (Record Process Mode)
/-! ### a Member's attributes -/
def tMF (CM : Addr) (ta : TE) (i : Nat) : TE := fun σ H Q => ta σ H fun x H1 => ∃ a dx vs v, x = .ref a ∧ H1 a = some (.ins CM dx (mf vs)) ∧ vs[i]? = some v ∧ Q v H1
def sMF (CM : Addr) (ta tv : TE) (i : Nat) : TS := fun D σ H => tv σ H fun y H1 => ta σ H1 fun x H2 => ∃ a dx vs, x = .ref a ∧ H2 a = some (.ins CM dx (mf vs)) ∧ vs.length = 10 ∧ D.nx σ (upd H2 a (.ins CM dx (mf (vs.set i y))))
section
open PySem.Spec PyProof.Rows
variable {X : Cx} {o e value : Expr} {f : Str} {pos pos' : Pos} {ta tv : TE} {CM : Addr}
theorem pe_mf (i : Nat) (he : PE X e ta) (c : Cls X.K CM) (n : NoAttr X.K CM f) (hi : mN[i]? = some f := by rfl) (hb : attributeBase e f X.env (eval e X.env) = eval e X.env := by rfl) : PE X (.Attribute e f pos) (tMF CM ta i) := by
  intro pins s σ H Q I h
  refine attr_of hb (thn (he pins s σ H _ I h) fun u s1 ⟨x, H1, I1, rx, a, dx, vs, v, ex, ea, l, q⟩ => ?_)
  subst ex
  obtain rfl : u = Value.ref a := rx
  exact getattr_ok I1 ea c n (mf_at i hi l) fun u' s2 I2 ru => ⟨v, H1, I2, ru, q⟩
theorem ps_mf (i : Nat) (ha : PE X o ta) (hv : PE X value tv) (c : Cls X.K CM) (n : NoAttr X.K CM f) (hi : mN[i]? = some f := by rfl) (hl : i < 10 := by decide) (hs : swapsWith value (some (.Attribute o f pos')) pos.line X.env = pure false := by rfl) : PS X (.Assign [.Attribute o f pos'] value pos) (sMF CM ta tv i) := by
  intro pins s σ H D I h
  refine plainObj_wpAny_Assign_Attribute (thn (hv pins s σ H _ I h) fun u s1 ⟨y, H1, I1, ry, q⟩ => thn (ha pins s1 σ H1 _ I1 q) fun ov s2 ⟨x, H2, I2, rx, a, dx, vs, ex, ea, l, q2⟩ => ?_) hs
  subst ex
  obtain rfl : ov = Value.ref a := rx
  rw [← mf_put i hi (by rw [l]; exact hl)] at q2
  exact setattr_ok I2 ea c n (mf_few _) ry fun s3 I3 => ⟨σ, _, I3, q2⟩
end
/-! ### promises -/
def spTurn (CM : Addr) : Sp := fun vs H Q _ => ∃ (p dx sa se : Addr) (me n : Nat) (st : Str) (count place : Nat) (av ov cv : V), vs = [.ref p] ∧ H p = some (.ins CM dx (mf (mVals me n st count place sa se av ov cv))) ∧ 0 < n ∧ Q (nV (place % n)) H
def spPut (CM CS : Addr) : Sp := fun vs H Q _ => ∃ (p l se u : Addr) (x : Process) (own c : Record), vs = [.ref p, .ref u] ∧ Busy CM CS H p l se x own ∧ H u = some (.tup (recV c)) ∧
  ∀ H' : Hp, Mem CM CS H' p l se { x with mode := .puts own c } → Keeps [p] H H' → Q (.int 64) H'
def spGo (CM CS : Addr) : Sp := fun vs H Q _ => ∃ (p l se : Addr) (x : Process) (own : Record), vs = [.ref p] ∧ Busy CM CS H p l se x own ∧ 2 ≤ x.n ∧ x.place ≤ 256 ∧
  ∀ H' : Hp, Mem CM CS H' p l se (Sv34.onTo x own).1 → Keeps [p] H H' → Q (nV (Sv34.onTo x own).2) H'
def helped (x : Process) (own r : Record) : Record := if r.who = x.place % x.n + 1 ∧ x.seen.getD (x.place % x.n) 0 < r.count then r else own
def spHelp (CM CS : Addr) : Sp := fun vs H Q _ => ∃ (p l se u : Addr) (x : Process) (own r : Record), vs = [.ref p, .ref u] ∧ Busy CM CS H p l se x own ∧ H u = some (.tup (recV r)) ∧ 2 ≤ x.n ∧ x.n ≤ 8 ∧ x.seen.length = 8 ∧
  ∀ t, H t = some (.tup (recV (helped x own r))) → Q (.ref t) H
def spIsOwn (CM CS : Addr) : Sp := fun vs H Q _ => ∃ (p l se u : Addr) (x : Process) (own r : Record), vs = [.ref p, .ref u] ∧ Busy CM CS H p l se x own ∧ H u = some (.tup (recV r)) ∧ Q (.bl (decide (r.who = own.who ∧ r.count = own.count))) H
def followed (x : Process) (own r : Record) : Process × Nat := if r.who = own.who ∧ r.count = own.count then ({ took x r with answer := some (Sv34.does_ x.values r).2, mode := .idle }, 32) else Sv34.onTo (took x r) own
def spFollow (CM CS : Addr) : Sp := fun vs H Q _ => ∃ (p l se u : Addr) (x : Process) (own r : Record), vs = [.ref p, .ref u] ∧ Busy CM CS H p l se x own ∧ H u = some (.tup (recV r)) ∧ 2 ≤ x.n ∧ x.place < 256 ∧ x.values.length = 16 ∧ x.seen.length = 8 ∧ x.n ≤ 8 ∧
  ∀ H' : Hp, Mem CM CS H' p l se (followed x own r).1 → Keeps [p, l, se] H H' → Q (nV (followed x own r).2) H'
theorem Raw.set {CM CS : Addr} {H : Hp} {p sa l se : Addr} {me n : Nat} {st : Str} {count place : Nat} {vals seen : List Nat} {av ov cv : V} (R : Raw CM CS H p sa l se me n st count place vals seen av ov cv) {dx : Addr} (st' : Str) (count' place' : Nat) (av' ov' cv' : V) :
    Raw CM CS (upd H p (.ins CM dx (mf (mVals me n st' count' place' sa se av' ov' cv')))) p sa l se me n st' count' place' vals seen av' ov' cv' := by
  have a1 := R.psa
  have a2 := R.pl
  have a3 := R.ps
  obtain ⟨_, ⟨⟨ds, h2⟩, h3⟩, h4, h5⟩ := R
  exact ⟨⟨dx, upd_same⟩, ⟨⟨ds, by rw [upd_ne a1]; exact h2⟩, by rw [upd_ne a2.symm]; exact h3⟩, by rw [upd_ne a3.symm]; exact h4, h5⟩
theorem Has.set {CM : Addr} {H : Hp} {p dx : Addr} {vs ws : List V} {v : V} {r : Record} (h : Has H v r) (hp : H p = some (.ins CM dx (mf vs))) : Has (upd H p (.ins CM dx (mf ws))) v r := by
  obtain ⟨t, e, ht⟩ := h
  exact ⟨t, e, by rw [upd_ne (ne_of ht hp (by intro z; cases z))]; exact ht⟩
theorem onTo_full {x : Process} {own : Record} (h : 256 ≤ x.place) : Sv34.onTo x own = ({ x with mode := .idle }, 33) := by
  unfold Sv34.onTo Sv34.CELLS
  rw [if_pos h]
theorem onTo_mine {x : Process} {own : Record} (h : x.place < 256) (h2 : x.place % x.n = x.me) : Sv34.onTo x own = ({ x with mode := .puts own own }, 64) := by
  unfold Sv34.onTo Sv34.CELLS
  rw [if_neg (show ¬ 256 ≤ x.place by omega), if_pos h2]
theorem onTo_asks {x : Process} {own : Record} (h : x.place < 256) (h2 : ¬ x.place % x.n = x.me) : Sv34.onTo x own = ({ x with mode := .asks own }, 16 + x.place % x.n) := by
  unfold Sv34.onTo Sv34.CELLS
  rw [if_neg (show ¬ 256 ≤ x.place by omega), if_neg h2]
theorem nV_inj {a b : Nat} (h : nV a = nV b) : a = b := Int.ofNat.inj (V.int.inj h)
section
variable {P : Program} {w : World} {K : PySem.W.Frag} {mg : Str → Option Value} {base : Heap} {CM CS : Addr}
/-! ### turn -/
theorem scTurn : FnScope ["self"] ["self"] (defScope sTurn) := ⟨rfl, rfl, rfl, by decide +kernel, rfl, by decide +kernel, by decide +kernel⟩
theorem ok_turn {f : Addr} {fd : FuncData} (F : Fun K "turn" "Member.turn" sTurn f fd) (T : Txt K mg CM CS) : FnOk P w K mg base CX0 1 f fd ["self"] (spTurn CM) := by
  refine F.ok scTurn (fun vs H Q E h => ?_) (fun cdv A outer s H vs Q E hr h => ?_)
  · obtain ⟨p, dx, sa, se, me, n, st, count, place, av, ov, cv, rfl, _⟩ := h
    rfl
  · obtain ⟨p, dx, sa, se, me, n, st, count, place, av, ov, cv, rfl, hp, hn, q⟩ := h
    refine ⟨_, pss_one (ps_ret (pe_op op_mod (pe_mf 4 (pv 0) T.clM T.nPlace) (pe_mf 1 (pv 0) T.clM T.nN))), ?_⟩
    refine ⟨_, rfl, p, dx, _, _, rfl, hp, rfl, _, rfl, p, dx, _, _, rfl, hp, rfl, _, _, rfl, rfl, (by show (0 : Int) < (n : Int); omega), ?_⟩
    show Q (V.int ((place : Int) % (n : Int))) H
    rw [← Int.natCast_emod]
    exact q
/-! ### put -/
theorem scPut : FnScope ["self", "candidate"] ["self", "candidate"] (defScope sPut) := ⟨rfl, rfl, rfl, by decide +kernel, rfl, by decide +kernel, by decide +kernel⟩
theorem ok_put {f : Addr} {fd : FuncData} (F : Fun K "put" "Member.put" sPut f fd) (T : Txt K mg CM CS) : FnOk P w K mg base CX0 1 f fd ["self", "candidate"] (spPut CM CS) := by
  refine F.ok scPut (fun vs H Q E h => ?_) (fun cdv A outer s H vs Q E hr h => ?_)
  · obtain ⟨p, l, se, u, x, own, c, rfl, _⟩ := h
    rfl
  · obtain ⟨p, l, se, u, x, own, c, rfl, ⟨sa, st, ov, cv, R, ho⟩, hu, k⟩ := h
    obtain ⟨dx, hp⟩ := R.ob
    refine ⟨_, pss_cons (ps_mf 9 (pv 0) (pv 1) T.clM T.nCand) (pss_cons (ps_mf 2 (pv 0) (pgs rfl T.puts) T.clM T.nState) (pss_one (ps_ret (pgi rfl T.putsR)))), ?_⟩
    refine ⟨_, rfl, _, rfl, p, dx, _, rfl, hp, rfl, ?_⟩
    refine ⟨_, rfl, p, dx, _, rfl, upd_same, rfl, ?_⟩
    have R2 := (R.set (dx := dx) st x.count x.place (ansV x.answer) ov (.ref u)).set (dx := dx) (stOf (.puts own c)) x.count x.place (ansV x.answer) ov (.ref u)
    have hu' : Has H (.ref u) c := ⟨u, rfl, hu⟩
    refine k _ ⟨sa, ov, .ref u, R2, ?_⟩ ((keeps_upd (by simp)).trans (keeps_upd (by simp)))
    exact ⟨(ho.set hp).set upd_same, (hu'.set hp).set upd_same⟩
/-! ### go_on_to_cell -/
theorem scGo : FnScope ["self"] ["self"] (defScope sGo) := ⟨rfl, rfl, rfl, by decide +kernel, rfl, by decide +kernel, by decide +kernel⟩
theorem ok_go {f fT fP : Addr} {fd fdT fdP : FuncData} (F : Fun K "go_on_to_cell" "Member.go_on_to_cell" sGo f fd) (T : Txt K mg CM CS)
    (FT : Fun K "turn" "Member.turn" sTurn fT fdT) (bT : Binds K fdT ["self"] []) (mT : Meth K CM "turn" fT) (FP : Fun K "put" "Member.put" sPut fP fdP) (bP : Binds K fdP ["self", "candidate"] []) (mP : Meth K CM "put" fP) :
    FnOk P w K mg base CX0 2 f fd ["self"] (spGo CM CS) := by
  have GT : FnOk P w K mg base CX0 1 fT fdT ["self"] (spTurn CM) := ok_turn FT T
  have GP : FnOk P w K mg base CX0 1 fP fdP ["self", "candidate"] (spPut CM CS) := ok_put FP T
  refine F.ok scGo (fun vs H Q E h => ?_) (fun cdv A outer s H vs Q E hr h => ?_)
  · obtain ⟨p, l, se, x, own, rfl, _⟩ := h
    rfl
  · obtain ⟨p, l, se, x, own, rfl, B, hn, hpl, k⟩ := h
    obtain ⟨sa, st, ov, cv, R, ho⟩ := id B
    obtain ⟨dx, hp⟩ := R.ob
    refine ⟨_, pss_cons (ps_if (pt_cmpR op_eq (pe_mf 4 (pv 0) T.clM T.nPlace) (pgi rfl T.cells) (nomark _)) (pss_cons (ps_mf 2 (pv 0) (pgs rfl T.idle) T.clM T.nState) (pss_one (ps_ret (pgi rfl T.full)))) pss_nil)
      (pss_cons (ps_if (pt_cmpR op_eq (pe_meth0 (pv 0) T.clM mT GT hr bT .nil pass0) (pe_mf 0 (pv 0) T.clM T.nMe) (nomark _)) (pss_one (ps_ret (pe_meth (pv 0) T.clM mP GP hr bP .nil pass0 (pa_cons (pe_mf 8 (pv 0) T.clM T.nRecord) pa_nil)))) pss_nil)
      (pss_cons (ps_mf 2 (pv 0) (pgs rfl T.asks) T.clM T.nState)
      (pss_one (ps_ret (pe_op op_add (pgi rfl T.wantsP) (pe_meth0 (pv 0) T.clM mT GT hr bT .nil pass0)))))), ?_⟩
    refine ⟨_, rfl, p, dx, _, _, rfl, hp, rfl, rfl, _, rfl, ?_⟩
    by_cases h256 : x.place = 256
    · refine iteY (congrArg nV h256) ?_
      refine ⟨_, rfl, p, dx, _, rfl, hp, rfl, ?_⟩
      rw [onTo_full (by omega)] at k
      exact k _ ⟨sa, ov, cv, R.set (dx := dx) (stOf .idle) x.count x.place (ansV x.answer) ov cv, trivial⟩ (keeps_upd (by simp))
    · refine iteN (fun z => h256 (nV_inj z)) ?_
      refine ⟨_, rfl, p, dx, _, rfl, hp, mf_no (by decide +kernel), p, dx, sa, se, x.me, x.n, st, x.count, x.place, _, ov, cv, rfl, hp, by omega, ?_⟩
      refine ⟨_, rfl, p, dx, _, _, rfl, hp, rfl, rfl, _, rfl, ?_⟩
      by_cases hm : x.place % x.n = x.me
      · refine iteY (congrArg nV hm) ?_
        obtain ⟨t, rfl, ht⟩ := id ho
        refine ⟨_, rfl, p, dx, _, rfl, hp, mf_no (by decide +kernel), _, rfl, p, dx, _, _, rfl, hp, rfl, p, l, se, t, x, own, own, rfl, B, ht, fun H' M kp => ?_⟩
        rw [onTo_mine (by omega) hm] at k
        exact k H' M kp
      · refine iteN (fun z => hm (nV_inj z)) ?_
        refine ⟨_, rfl, p, dx, _, rfl, hp, rfl, ?_⟩
        refine ⟨_, rfl, p, dx, _, rfl, upd_same, mf_no (by decide +kernel), p, dx, sa, se, x.me, x.n, stOf (.asks own), x.count, x.place, _, ov, cv, rfl, upd_same, by omega, ?_⟩
        refine ⟨_, _, rfl, rfl, ?_⟩
        rw [onTo_asks (by omega) hm] at k
        show Q (V.int (16 + ((x.place % x.n : Nat) : Int))) _
        have e : (16 + ((x.place % x.n : Nat) : Int)) = ((16 + x.place % x.n : Nat) : Int) := by omega
        rw [e]
        exact k _ ⟨sa, ov, cv, R.set (dx := dx) (stOf (.asks own)) x.count x.place (ansV x.answer) ov cv, ho.set hp⟩ (keeps_upd (by simp))
end
end Nw
end
section
set_option Elab.async false
set_option linter.all false
set_option maxRecDepth 100000
set_option maxHeartbeats 4000000
namespace Nw
open PySem L2
open Sv34 (Record Process Mode)
theorem seen_at {seen : List Nat} {n j : Nat} (hj : j < n) (hn : n ≤ seen.length) : ((seen.take n).map nV)[j]? = some (nV (seen.getD j 0)) := by
  rw [List.getElem?_map, List.getElem?_take, if_pos hj, List.getD_eq_getElem?_getD, List.getElem?_eq_getElem (by omega)]
  rfl
/-- the counts seen of a Member are written -/
theorem Raw.see {CM CS : Addr} {H : Hp} {p sa l se : Addr} {me n : Nat} {st : Str} {count place : Nat} {vals seen seen' : List Nat} {av ov cv : V} (R : Raw CM CS H p sa l se me n st count place vals seen av ov cv) :
    Raw CM CS (upd H se (.lst (seen'.map nV))) p sa l se me n st count place vals seen' av ov cv := by
  have a1 := R.sas
  have a2 := R.ps
  obtain ⟨⟨dx, h1⟩, ⟨⟨ds, h2⟩, h3⟩, h4, h5⟩ := R
  exact ⟨⟨dx, by rw [upd_ne a2]; exact h1⟩, ⟨⟨ds, by rw [upd_ne a1]; exact h2⟩, by rw [upd_ne h5]; exact h3⟩, upd_same, h5⟩
section
variable {P : Program} {w : World} {K : PySem.W.Frag} {mg : Str → Option Value} {base : Heap} {CM CS : Addr}
/-! ### helped_first -/
theorem scHelp : FnScope ["self", "told", "asked"] ["self", "told"] (defScope sHelp) := ⟨rfl, rfl, rfl, by decide +kernel, rfl, by decide +kernel, by decide +kernel⟩
theorem ok_help {f fT : Addr} {fd fdT : FuncData} (F : Fun K "helped_first" "Member.helped_first" sHelp f fd) (T : Txt K mg CM CS)
    (FT : Fun K "turn" "Member.turn" sTurn fT fdT) (bT : Binds K fdT ["self"] []) (mT : Meth K CM "turn" fT) : FnOk P w K mg base CX0 2 f fd ["self", "told"] (spHelp CM CS) := by
  have GT : FnOk P w K mg base CX0 1 fT fdT ["self"] (spTurn CM) := ok_turn FT T
  refine F.ok scHelp (fun vs H Q E h => ?_) (fun cdv A outer s H vs Q E hr h => ?_)
  · obtain ⟨p, l, se, u, x, own, r, rfl, _⟩ := h
    rfl
  · obtain ⟨p, l, se, u, x, own, r, rfl, B, hu, hn, hn8, hs8, k⟩ := h
    obtain ⟨sa, st, ov, cv, R, ho⟩ := id B
    obtain ⟨dx, hp⟩ := R.ob
    refine ⟨_, pss_cons (ps_set (i := 2) scHelp.nd rfl (Or.inl rfl) (pe_meth0 (pv 0) T.clM mT GT hr bT .nil pass0))
      (pss_cons (ps_if (PW.pt (pw_and (pt_cmpR op_eq (pe_ix ix_tup (pv 1) (pgi rfl T.whose) (fun _ _ => rfl)) (pe_op op_add (pv 2) pe_int) (nomark _))
        (pw_and1 (pt_cmpR op_gt (pe_ix ix_tup (pv 1) (pgi rfl T.countI) (fun _ _ => rfl)) (pe_ix ix_list (pe_mf 6 (pv 0) T.clM T.nSeen) (pv 2) (fun _ _ => rfl)) (nomark _)))))
        (pss_one (ps_ret (pv 1))) pss_nil)
      (pss_one (ps_ret (pe_mf 8 (pv 0) T.clM T.nRecord)))), ?_⟩
    refine ⟨_, rfl, p, dx, _, rfl, hp, mf_no (by decide +kernel), p, dx, sa, se, x.me, x.n, st, x.count, x.place, _, ov, cv, rfl, hp, by omega, ?_⟩
    have hj : x.place % x.n < x.n := Nat.mod_lt _ (by omega)
    have fin : ∀ c : Record, helped x own r = c → ∀ t, H t = some (.tup (recV c)) → Q (.ref t) H := fun c e t ht => k t (by rw [e]; exact ht)
    have back : (¬ (r.who = x.place % x.n + 1 ∧ x.seen.getD (x.place % x.n) 0 < r.count)) → ∃ t, ov = .ref t ∧ Q (.ref t) H := fun h => by
      obtain ⟨t, e, ht⟩ := ho
      exact ⟨t, e, fin own (by unfold helped; rw [if_neg h]) t ht⟩
    refine ⟨_, rfl, u, _, _, _, rfl, rfl, SqT.of hu, at_of (j := 0) rfl rfl, _, rfl, _, _, rfl, rfl, rfl, _, rfl, ?_⟩
    by_cases h1 : r.who = x.place % x.n + 1
    · refine iteY (congrArg V.int (show (r.who : Int) = ((x.place % x.n : Nat) : Int) + 1 by omega)) ?_
      refine ⟨_, rfl, u, _, _, _, rfl, rfl, SqT.of hu, at_of (j := 1) rfl rfl, _, rfl, p, dx, _, _, rfl, hp, rfl, _, rfl, se, _, _, _, rfl, rfl, SqL.of R.ls, atI_nat (seen_at hj (by omega)), _, _, rfl, rfl, _, rfl, ?_⟩
      refine ite2' (fun h2 => ?_) (fun h2 => ?_)
      · refine ⟨_, rfl, ?_⟩
        exact fin r (by unfold helped; rw [if_pos ⟨h1, by omega⟩]) u hu
      · obtain ⟨t, rfl, q⟩ := back fun z => h2 (by omega)
        exact ⟨_, rfl, p, dx, _, _, rfl, hp, rfl, q⟩
    · refine iteN (fun z => h1 (by have := V.int.inj z; omega)) ?_
      refine iteF ?_
      obtain ⟨t, rfl, q⟩ := back fun z => h1 z.1
      exact ⟨_, rfl, p, dx, _, _, rfl, hp, rfl, q⟩
/-! ### is_own -/
theorem scOwn : FnScope ["self", "standing"] ["self", "standing"] (defScope sOwn) := ⟨rfl, rfl, rfl, by decide +kernel, rfl, by decide +kernel, by decide +kernel⟩
theorem ok_own {f : Addr} {fd : FuncData} (F : Fun K "is_own" "Member.is_own" sOwn f fd) (T : Txt K mg CM CS) : FnOk P w K mg base CX0 1 f fd ["self", "standing"] (spIsOwn CM CS) := by
  refine F.ok scOwn (fun vs H Q E h => ?_) (fun cdv A outer s H vs Q E hr h => ?_)
  · obtain ⟨p, l, se, u, x, own, r, rfl, _⟩ := h
    rfl
  · obtain ⟨p, l, se, u, x, own, r, rfl, ⟨sa, st, ov, cv, R, ho⟩, hu, k⟩ := h
    obtain ⟨dx, hp⟩ := R.ob
    obtain ⟨t, rfl, ht⟩ := ho
    refine ⟨_, pss_one (ps_ret (pe_and (pe_cmpR op_eq (pe_ix ix_tup (pv 1) (pgi rfl T.whose) (fun _ _ => rfl)) (pe_ix ix_tup (pe_mf 8 (pv 0) T.clM T.nRecord) (pgi rfl T.whose) (fun _ _ => rfl)) (nomark _))
      (pe_one (pe_cmpR op_eq (pe_ix ix_tup (pv 1) (pgi rfl T.countI) (fun _ _ => rfl)) (pe_ix ix_tup (pe_mf 8 (pv 0) T.clM T.nRecord) (pgi rfl T.countI) (fun _ _ => rfl)) (nomark _))))), ?_⟩
    refine ⟨_, rfl, u, _, _, _, rfl, rfl, SqT.of hu, at_of (j := 0) rfl rfl, _, rfl, p, dx, _, _, rfl, hp, rfl, t, _, _, _, rfl, rfl, SqT.of ht, at_of (j := 0) rfl rfl, rfl, _, rfl, ?_⟩
    by_cases h1 : r.who = own.who
    · refine iteY (congrArg nV h1) ?_
      refine ⟨_, rfl, u, _, _, _, rfl, rfl, SqT.of hu, at_of (j := 1) rfl rfl, _, rfl, p, dx, _, _, rfl, hp, rfl, t, _, _, _, rfl, rfl, SqT.of ht, at_of (j := 1) rfl rfl, rfl, ?_⟩
      have e : decide (nV r.count = nV own.count) = decide (r.who = own.who ∧ r.count = own.count) := by
        by_cases h2 : r.count = own.count
        · rw [decide_eq_true (congrArg nV h2), decide_eq_true ⟨h1, h2⟩]
        · rw [decide_eq_false fun z => h2 (nV_inj z), decide_eq_false fun z => h2 z.2]
      show Q (V.bl (decide (nV r.count = nV own.count))) H
      rw [e]
      exact k
    · refine iteN (fun z => h1 (nV_inj z)) ?_
      rw [decide_eq_false fun z => h1 z.1] at k
      exact k
/-! ### follow -/
theorem scFollow : FnScope ["self", "standing", "answer"] ["self", "standing"] (defScope sFollow) := ⟨rfl, rfl, rfl, by decide +kernel, rfl, by decide +kernel, by decide +kernel⟩
theorem ok_follow {f fC fO fG fT fP : Addr} {fd fdC fdO fdG fdT fdP : FuncData} (F : Fun K "follow" "Member.follow" sFollow f fd) (T : Txt K mg CM CS)
    (FC : Fun K "carry_out" "Store.carry_out" sOut fC fdC) (bC : Binds K fdC ["self", "record"] []) (mC : Meth K CS "carry_out" fC)
    (FO : Fun K "is_own" "Member.is_own" sOwn fO fdO) (bO : Binds K fdO ["self", "standing"] []) (mO : Meth K CM "is_own" fO)
    (FG : Fun K "go_on_to_cell" "Member.go_on_to_cell" sGo fG fdG) (bG : Binds K fdG ["self"] []) (mG : Meth K CM "go_on_to_cell" fG)
    (FT : Fun K "turn" "Member.turn" sTurn fT fdT) (bT : Binds K fdT ["self"] []) (mT : Meth K CM "turn" fT) (FP : Fun K "put" "Member.put" sPut fP fdP) (bP : Binds K fdP ["self", "candidate"] []) (mP : Meth K CM "put" fP) :
    FnOk P w K mg base CX0 3 f fd ["self", "standing"] (spFollow CM CS) := by
  have GC : FnOk P w K mg base CX0 1 fC fdC ["self", "record"] (spOut CS) := ok_out FC T
  have GO : FnOk P w K mg base CX0 1 fO fdO ["self", "standing"] (spIsOwn CM CS) := ok_own FO T
  have GG : FnOk P w K mg base CX0 2 fG fdG ["self"] (spGo CM CS) := ok_go FG T FT bT mT FP bP mP
  refine F.ok scFollow (fun vs H Q E h => ?_) (fun cdv A outer s H vs Q E hr h => ?_)
  · obtain ⟨p, l, se, u, x, own, r, rfl, _⟩ := h
    rfl
  · obtain ⟨p, l, se, u, x, own, r, rfl, ⟨sa, st, ov, cv, R, ho⟩, hu, hn, hpl, hv16, hs8, hn8, k⟩ := h
    have hr1 : Room 1 _ := hr.mono (by decide)
    obtain ⟨dx, hp⟩ := R.ob
    obtain ⟨ds, hsa⟩ := R.so.1
    refine ⟨_, pss_cons (ps_set (i := 2) scFollow.nd rfl (Or.inl rfl) (pe_meth (pe_mf 5 (pv 0) T.clM T.nStore) T.clS mC GC hr1 bC .nil pass0 (pa_cons (pv 1) pa_nil)))
      (pss_cons (ps_mf 4 (pv 0) (pe_op op_add (pe_mf 4 (pv 0) T.clM T.nPlace) pe_int) T.clM T.nPlace)
      (pss_cons (ps_if (pt_chain op_le op_le pe_int (pe_ix ix_tup (pv 1) (pgi rfl T.whose) (fun _ _ => rfl)) (pe_mf 1 (pv 0) T.clM T.nN))
        (pss_one (ps_asg (pe_ix ix_tup (pv 1) (pgi rfl T.countI) (fun _ _ => rfl)) (pg_sub (pe_mf 6 (pv 0) T.clM T.nSeen) (pe_op op_sub (pe_ix ix_tup (pv 1) (pgi rfl T.whose) (fun _ _ => rfl)) pe_int) set_list))) pss_nil)
      (pss_cons (ps_if (pt_not (pt_val (pe_meth (pv 0) T.clM mO GO hr1 bO .nil pass0 (pa_cons (pv 1) pa_nil)))) (pss_one (ps_ret (pe_meth0 (pv 0) T.clM mG GG hr bG .nil pass0))) pss_nil)
      (pss_cons (ps_mf 7 (pv 0) (pv 2) T.clM T.nAnswer)
      (pss_cons (ps_mf 2 (pv 0) (pgs rfl T.idle) T.clM T.nState)
      (pss_one (ps_ret (pgi rfl T.hasA)))))))), ?_⟩
    refine ⟨_, rfl, p, dx, _, _, rfl, hp, rfl, sa, ds, _, rfl, hsa, sf_no (by decide +kernel), _, rfl, sa, l, u, x.values, r, rfl, R.so, hv16, hu, fun H1 S1 k1 => ?_⟩
    -- the store has done it
    have nul : u ≠ l := ne_of hu R.so.2 (by intro z; cases z)
    have hu1 : H1 u = some (.tup (recV r)) := k1 _ _ hu (by simpa using nul)
    have hp1 := k1 _ _ hp (by simpa using R.pl)
    have hse1 := k1 _ _ R.ls (by simpa using R.ne.symm)
    have ho1 : Has H1 ov own := ho.keep k1 fun b hb xs e => by
      have hb : b = l := by simpa using hb
      rw [hb, R.so.2] at e
      cases e
    have R1 : Raw CM CS H1 p sa l se x.me x.n st x.count x.place (Sv34.does_ x.values r).1 (x.seen.take x.n) (ansV x.answer) ov cv := ⟨⟨dx, hp1⟩, S1, hse1, R.ne⟩
    -- place
    refine ⟨_, rfl, p, dx, _, _, rfl, hp1, rfl, _, _, rfl, rfl, _, rfl, p, dx, _, rfl, hp1, rfl, ?_⟩
    have R2 := R1.set (dx := dx) st x.count (x.place + 1) (ansV x.answer) ov cv
    have ho2 := ho1.set (ws := mVals x.me x.n st x.count (x.place + 1) sa se (ansV x.answer) ov cv) hp1
    have hu2' : Has H1 (.ref u) r := ⟨u, rfl, hu1⟩
    have hu2 := hu2'.set (ws := mVals x.me x.n st x.count (x.place + 1) sa se (ansV x.answer) ov cv) hp1
    have kp2 : Keeps [p, l, se] H1 (upd H1 p (.ins CM dx (mf (mVals x.me x.n st x.count (x.place + 1) sa se (ansV x.answer) ov cv)))) := keeps_upd (by simp)
    have kp1 : Keeps [p, l, se] H H1 := k1.mono (by simp)
    have kp := kp1.trans kp2
    obtain ⟨_, eu, hu2⟩ := hu2
    cases eu
    have hp2 : upd H1 p (.ins CM dx (mf (mVals x.me x.n st x.count (x.place + 1) sa se (ansV x.answer) ov cv))) p = some (.ins CM dx (mf (mVals x.me x.n st x.count (x.place + 1) sa se (ansV x.answer) ov cv))) := upd_same
    have esn : mf ((mVals x.me x.n st x.count x.place sa se (ansV x.answer) ov cv).set 4 (V.int ((x.place : Int) + 1))) = mf (mVals x.me x.n st x.count (x.place + 1) sa se (ansV x.answer) ov cv) := rfl
    show tSeq _ _ _ _ (upd H1 p (.ins CM dx (mf (mVals x.me x.n st x.count (x.place + 1) sa se (ansV x.answer) ov cv))))
    generalize upd H1 p (.ins CM dx (mf (mVals x.me x.n st x.count (x.place + 1) sa se (ansV x.answer) ov cv))) = H2 at R2 ho2 hu2 kp hp2 ⊢
    -- behind the counts seen
    have rest : ∀ (H3 : Hp), Busy CM CS H3 p l se (took x r) own → Keeps [p, l, se] H H3 → H3 u = some (.tup (recV r)) → (tSeq (tIfS (tNot (tB (tMeth CM "is_own" (spIsOwn CM CS) [] E0 (tVar 0) (tCons (tVar 1) tNil)))) (tRet (tMeth CM "go_on_to_cell" (spGo CM CS) [] E0 (tVar 0) tNil)) tNext) (tSeq (sMF CM (tVar 0) (tVar 2) 7) (tSeq (sMF CM (tVar 0) (tC (.str "idle")) 2) (tRet (tC (.int 32)))))) { nx := fun _ H' => Q .non H', rt := Q } [some (.ref p), some (.ref u), some (nV (Sv34.does_ x.values r).2)] H3 := fun H3 B3 k3 hu3 => by
      obtain ⟨sa3, st3, ov3, cv3, R3, ho3⟩ := id B3
      obtain ⟨dx3, hp3⟩ := R3.ob
      refine ⟨_, rfl, p, dx3, _, rfl, hp3, mf_no (by decide +kernel), _, rfl, p, l, se, u, took x r, own, r, rfl, B3, hu3, _, rfl, ?_⟩
      refine iteB' (fun hno => ?_) (fun hyes => ?_)
      · refine ⟨_, rfl, p, dx3, _, rfl, hp3, mf_no (by decide +kernel), p, l, se, took x r, own, rfl, B3, hn, (show x.place + 1 ≤ 256 by omega), fun H4 M4 k4 => ?_⟩
        have e : followed x own r = Sv34.onTo (took x r) own := by unfold followed; rw [if_neg hno]
        rw [e] at k
        exact k H4 M4 (k3.trans (k4.mono (by simp)))
      · refine ⟨_, rfl, _, rfl, p, dx3, _, rfl, hp3, rfl, ?_⟩
        refine ⟨_, rfl, p, dx3, _, rfl, upd_same, rfl, ?_⟩
        have e : followed x own r = ({ took x r with answer := some (Sv34.does_ x.values r).2, mode := .idle }, 32) := by unfold followed; rw [if_pos hyes]
        rw [e] at k
        have R4 := (R3.set (dx := dx3) st3 x.count (x.place + 1) (nV (Sv34.does_ x.values r).2) ov3 cv3).set (dx := dx3) (stOf .idle) x.count (x.place + 1) (nV (Sv34.does_ x.values r).2) ov3 cv3
        exact k _ ⟨sa3, ov3, cv3, R4, trivial⟩ (k3.trans ((keeps_upd (by simp)).trans (keeps_upd (by simp))))
    have lenS : ((x.seen.take x.n).map nV).length = x.n := by
      rw [List.length_map, List.length_take]
      omega
    have notup : ∀ xs, H2 se ≠ some (.tup xs) := fun xs e => by rw [R2.ls] at e; cases e
    -- the counts seen
    have rest0 : ¬ (1 ≤ r.who ∧ r.who ≤ x.n) → Busy CM CS H2 p l se (took x r) own := fun h => by
      refine ⟨sa, st, ov, cv, ?_, ho2⟩
      show Raw CM CS H2 p sa l se x.me x.n st x.count (x.place + 1) (Sv34.does_ x.values r).1 ((if 1 ≤ r.who ∧ r.who ≤ x.n then x.seen.set (r.who - 1) r.count else x.seen).take x.n) (ansV x.answer) ov cv
      rw [if_neg h]
      exact R2
    refine ⟨_, rfl, u, _, _, _, rfl, rfl, SqT.of hu2, at_of (j := 0) rfl rfl, _, _, rfl, rfl, _, rfl, ?_⟩
    refine ite2' (fun h1 => ?_) (fun h1 => ?_)
    · refine ⟨_, rfl, p, dx, _, _, rfl, hp2, rfl, _, _, rfl, rfl, _, rfl, ?_⟩
      refine ite2' (fun h2 => ?_) (fun h2 => ?_)
      · have hw : 1 ≤ r.who ∧ r.who ≤ x.n := ⟨by omega, by omega⟩
        refine ⟨_, rfl, u, _, _, _, rfl, rfl, SqT.of hu2, at_of (j := 1) rfl rfl, _, rfl, p, dx, _, _, rfl, hp2, rfl, _, rfl, u, _, _, _, rfl, rfl, SqT.of hu2, at_of (j := 0) rfl rfl, _, _, rfl, rfl, se, _, _, r.who - 1, rfl, rfl, R2.ls, ix_of (by omega) (by rw [lenS]; omega), ?_⟩
        have eq : ((x.seen.take x.n).map nV).set (r.who - 1) (nV r.count) = ((x.seen.set (r.who - 1) r.count).take x.n).map nV := by rw [map_set, List.take_set]
        have hgo := rest (upd H2 se (.lst (((x.seen.set (r.who - 1) r.count).take x.n).map nV))) ⟨sa, st, ov, cv, (by
          show Raw CM CS _ p sa l se x.me x.n st x.count (x.place + 1) (Sv34.does_ x.values r).1 ((if 1 ≤ r.who ∧ r.who ≤ x.n then x.seen.set (r.who - 1) r.count else x.seen).take x.n) (ansV x.answer) ov cv
          rw [if_pos hw]
          exact R2.see), (by
          obtain ⟨t, e, ht⟩ := ho2
          exact ⟨t, e, by rw [upd_ne (fun z => notup _ (by rw [← z]; exact ht))]; exact ht⟩)⟩ (kp.trans (keeps_upd (by simp))) (by rw [upd_ne (fun z => notup _ (by rw [← z]; exact hu2))]; exact hu2)
        rw [← eq] at hgo
        exact hgo
      · exact rest H2 (rest0 fun z => h2 (by omega)) kp hu2
    · refine ⟨_, rfl, ?_⟩
      refine iteF ?_
      exact rest H2 (rest0 fun z => h1 (by omega)) kp hu2
end
end Nw
end
section
set_option Elab.async false
set_option linter.all false
set_option maxRecDepth 100000
set_option maxHeartbeats 4000000
namespace Nw
open PySem L2
open Sv34 (Record Process Mode)
/-- what comes behind a call of a Member: the process, and its answer in a new list -/
def Outs (CM CS : Addr) (H : Hp) (p l se : Addr) (r : Sv34.Abs × Sv34.Ans) (Q : VK) : Prop := ∀ (q : Addr) (H' : Hp), (∃ y, r.1 = some y ∧ Mem CM CS H' p l se y) → H' q = some (.lst ((ans r.2).map V.int)) → H q = none → Keeps [p, l, se] H H' → Q (.ref q) H'
theorem Outs.one {CM CS : Addr} {H H1 : Hp} {p l se : Addr} {r : Sv34.Abs × Sv34.Ans} {Q : VK} {y : Process} {z : Int} (k : Outs CM CS H p l se r Q) (e : r = (some y, Sv34.ok z)) (M : Mem CM CS H1 p l se y) (kp : Keeps [p, l, se] H H1) :
    ([V.int z] : List V).length ≤ sizeLine ∧ ∀ q, H1 q = none → Q (.ref q) (upd H1 q (.lst [.int z])) := by
  refine ⟨(by show 1 ≤ sizeLine; decide), fun q hq => ?_⟩
  refine k q _ ⟨y, by rw [e], M.same (same_new hq)⟩ ?_ (new_of kp M.there hq) (kp.trans (Same.keeps (same_new hq) _))
  rw [e, upd_same]
  rfl
def spDo (CM CS : Addr) : Sp := fun vs H Q _ => ∃ (p l se : Addr) (x : Process) (what key : Int) (v w : Nat), vs = [.ref p, .int what, .int key, nV v, nV w] ∧ Mem CM CS H p l se x ∧ Outs CM CS H p l se (Sv34.on x (.do_ what key v w)) Q
def spShowR (CM CS : Addr) : Sp := fun vs H Q _ => ∃ (p l se : Addr) (x : Process), vs = [.ref p] ∧ Mem CM CS H p l se x ∧ Outs CM CS H p l se (Sv34.on x .record) Q
def spWrote (CM CS : Addr) : Sp := fun vs H Q _ => ∃ (p l se : Addr) (x : Process), vs = [.ref p] ∧ Mem CM CS H p l se x ∧ Fine x ∧ Outs CM CS H p l se (Sv34.on x .wrote) Q
def spGot (CM CS : Addr) : Sp := fun vs H Q _ => ∃ (p l se a : Addr) (x : Process) (b : List Nat), vs = [.ref p, .ref a] ∧ Mem CM CS H p l se x ∧ Fine x ∧ H a = some (.lst (b.map nV)) ∧ b.length = 40 ∧ (∀ z, z ∈ b → z < 256) ∧ Outs CM CS H p l se (Sv34.on x (.got b)) Q
def spShowP (CM CS : Addr) : Sp := fun vs H Q _ => ∃ (p l se : Addr) (x : Process), vs = [.ref p] ∧ Mem CM CS H p l se x ∧ Outs CM CS H p l se (Sv34.on x .place) Q
def spShowA (CM CS : Addr) : Sp := fun vs H Q _ => ∃ (p l se : Addr) (x : Process), vs = [.ref p] ∧ Mem CM CS H p l se x ∧ Outs CM CS H p l se (Sv34.on x .answer) Q
def spShowV (CM CS : Addr) : Sp := fun vs H Q _ => ∃ (p l se : Addr) (x : Process) (key : Int), vs = [.ref p, .int key] ∧ Mem CM CS H p l se x ∧ Fine x ∧ Outs CM CS H p l se (Sv34.on x (.value key)) Q
def spMI (CM CS : Addr) : Sp := fun vs H Q _ => ∃ (p dx : Addr) (me n : Nat), vs = [.ref p, nV me, nV n] ∧ H p = some (.ins CM dx []) ∧ n ≤ 8 ∧ ∀ (l se : Addr) (H' : Hp), Mem CM CS H' p l se (Sv34.fresh me n) → H l = none → H se = none → Keeps [p] H H' → Q .non H'
theorem ne_it : ¬ (V.str "idle" = V.str "tells") := by decide +kernel
theorem ne_ia : ¬ (V.str "idle" = V.str "asks") := by decide +kernel
theorem ne_ip : ¬ (V.str "idle" = V.str "puts") := by decide +kernel
theorem ne_ti : ¬ (V.str "tells" = V.str "idle") := by decide +kernel
theorem ne_ta : ¬ (V.str "tells" = V.str "asks") := by decide +kernel
theorem ne_tp : ¬ (V.str "tells" = V.str "puts") := by decide +kernel
theorem ne_ai : ¬ (V.str "asks" = V.str "idle") := by decide +kernel
theorem ne_at : ¬ (V.str "asks" = V.str "tells") := by decide +kernel
theorem ne_ap : ¬ (V.str "asks" = V.str "puts") := by decide +kernel
theorem ne_pi : ¬ (V.str "puts" = V.str "idle") := by decide +kernel
theorem ne_pt : ¬ (V.str "puts" = V.str "tells") := by decide +kernel
theorem ne_pa : ¬ (V.str "puts" = V.str "asks") := by decide +kernel
theorem flat_rep : ∀ k : Nat, (List.replicate k [V.int 0]).flatten = (List.replicate k 0).map nV
  | 0 => rfl
  | k + 1 => by
    rw [List.replicate_succ, List.replicate_succ, List.flatten_cons, flat_rep k, List.map_cons]
    rfl
theorem putF_few {fs : List (Str × V)} {f : Str} {v : V} {k : Nat} (h : fs.length ≤ k) : (putF f v fs).length ≤ k + 1 := by
  induction fs generalizing k with
  | nil => show 1 ≤ k + 1; omega
  | cons a r ih =>
    obtain ⟨n, u⟩ := a
    show (if n = f then (n, v) :: r else (n, u) :: putF f v r).length ≤ k + 1
    have h' : r.length + 1 ≤ k := h
    split
    · show r.length + 1 ≤ k + 1; omega
    · show (putF f v r).length + 1 ≤ k + 1
      have := ih (k := k - 1) (by omega)
      omega
theorem put_new : ∀ {ns : List Str} {vs : List V} {f : Str} {v : V}, ns.length = vs.length → ¬ f ∈ ns → putF f v (ns.zip vs) = (ns ++ [f]).zip (vs ++ [v])
  | [], [], _, _, _, _ => rfl
  | [], _ :: _, _, _, h, _ => absurd h (by simp)
  | _ :: _, [], _, _, h, _ => absurd h (by simp)
  | n :: ns, u :: vs, f, v, hl, h => by
    have ne : ¬ n = f := fun e => h (by rw [e]; exact List.mem_cons_self ..)
    show (if n = f then (n, v) :: ns.zip vs else (n, u) :: putF f v (ns.zip vs)) = (n, u) :: (ns ++ [f]).zip (vs ++ [v])
    rw [if_neg ne, put_new (Nat.succ.inj hl) fun m => h (List.mem_cons_of_mem _ m)]
theorem init_fields (a b c d e f g h i j : V) : putF "candidate" j (putF "record" i (putF "answer" h (putF "seen" g (putF "store" f (putF "place" e (putF "count" d (putF "state" c (putF "n" b (putF "me" a []))))))))) = mf [a, b, c, d, e, f, g, h, i, j] := by
  rw [show putF "me" a [] = (["me"] : List Str).zip [a] from rfl]
  rw [show putF "n" b ((["me"] : List Str).zip [a]) = (["me", "n"] : List Str).zip [a, b] from put_new rfl (by decide +kernel)]
  rw [show putF "state" c ((["me", "n"] : List Str).zip [a, b]) = (["me", "n", "state"] : List Str).zip [a, b, c] from put_new rfl (by decide +kernel)]
  rw [show putF "count" d ((["me", "n", "state"] : List Str).zip [a, b, c]) = (["me", "n", "state", "count"] : List Str).zip [a, b, c, d] from put_new rfl (by decide +kernel)]
  rw [show putF "place" e ((["me", "n", "state", "count"] : List Str).zip [a, b, c, d]) = (["me", "n", "state", "count", "place"] : List Str).zip [a, b, c, d, e] from put_new rfl (by decide +kernel)]
  rw [show putF "store" f ((["me", "n", "state", "count", "place"] : List Str).zip [a, b, c, d, e]) = (["me", "n", "state", "count", "place", "store"] : List Str).zip [a, b, c, d, e, f] from put_new rfl (by decide +kernel)]
  rw [show putF "seen" g ((["me", "n", "state", "count", "place", "store"] : List Str).zip [a, b, c, d, e, f]) = (["me", "n", "state", "count", "place", "store", "seen"] : List Str).zip [a, b, c, d, e, f, g] from put_new rfl (by decide +kernel)]
  rw [show putF "answer" h ((["me", "n", "state", "count", "place", "store", "seen"] : List Str).zip [a, b, c, d, e, f, g]) = (["me", "n", "state", "count", "place", "store", "seen", "answer"] : List Str).zip [a, b, c, d, e, f, g, h] from put_new rfl (by decide +kernel)]
  rw [show putF "record" i ((["me", "n", "state", "count", "place", "store", "seen", "answer"] : List Str).zip [a, b, c, d, e, f, g, h]) = (["me", "n", "state", "count", "place", "store", "seen", "answer", "record"] : List Str).zip [a, b, c, d, e, f, g, h, i] from put_new rfl (by decide +kernel)]
  rw [show putF "candidate" j ((["me", "n", "state", "count", "place", "store", "seen", "answer", "record"] : List Str).zip [a, b, c, d, e, f, g, h, i]) = (["me", "n", "state", "count", "place", "store", "seen", "answer", "record", "candidate"] : List Str).zip [a, b, c, d, e, f, g, h, i, j] from put_new rfl (by decide +kernel)]
  rfl
section
variable {P : Program} {w : World} {K : PySem.W.Frag} {mg : Str → Option Value} {base : Heap} {CM CS : Addr}
/-! ### show_place, show_answer, show_value -/
theorem scShowP : FnScope ["self"] ["self"] (defScope sShowP) := ⟨rfl, rfl, rfl, by decide +kernel, rfl, by decide +kernel, by decide +kernel⟩
theorem ok_showP {f : Addr} {fd : FuncData} (F : Fun K "show_place" "Member.show_place" sShowP f fd) (T : Txt K mg CM CS) : FnOk P w K mg base CX0 1 f fd ["self"] (spShowP CM CS) := by
  refine F.ok scShowP (fun vs H Q E h => ?_) (fun cdv A outer s H vs Q E hr h => ?_)
  · obtain ⟨p, l, se, x, rfl, _⟩ := h
    rfl
  · obtain ⟨p, l, se, x, rfl, M, k⟩ := h
    obtain ⟨sa, ov, cv, R, m⟩ := id M
    obtain ⟨dx, hp⟩ := R.ob
    refine ⟨_, pss_one (ps_ret (pe_lst (pa_cons (pe_mf 4 (pv 0) T.clM T.nPlace) pa_nil))), ?_⟩
    exact ⟨_, rfl, p, dx, _, _, rfl, hp, rfl, k.one (y := x) (z := (x.place : Int)) rfl M (Keeps.refl _ _)⟩
theorem scShowA : FnScope ["self"] ["self"] (defScope sShowA) := ⟨rfl, rfl, rfl, by decide +kernel, rfl, by decide +kernel, by decide +kernel⟩
theorem ok_showA {f : Addr} {fd : FuncData} (F : Fun K "show_answer" "Member.show_answer" sShowA f fd) (T : Txt K mg CM CS) : FnOk P w K mg base CX0 1 f fd ["self"] (spShowA CM CS) := by
  refine F.ok scShowA (fun vs H Q E h => ?_) (fun cdv A outer s H vs Q E hr h => ?_)
  · obtain ⟨p, l, se, x, rfl, _⟩ := h
    rfl
  · obtain ⟨p, l, se, x, rfl, M, k⟩ := h
    obtain ⟨sa, ov, cv, R, m⟩ := id M
    obtain ⟨dx, hp⟩ := R.ob
    refine ⟨_, pss_cons (ps_if (pt_cmpR op_isN (pe_mf 7 (pv 0) T.clM T.nAnswer) pe_non (nomark _)) (pss_one (ps_ret (pe_lst (pa_cons (pgi rfl T.notNow) pa_nil)))) pss_nil)
      (pss_one (ps_ret (pe_lst (pa_cons (pgi rfl T.done) (pa_cons (pe_mf 7 (pv 0) T.clM T.nAnswer) pa_nil))))), ?_⟩
    refine ⟨_, rfl, p, dx, _, _, rfl, hp, rfl, rfl, _, rfl, ?_⟩
    cases ea : x.answer with
    | none =>
      refine iteY rfl ?_
      exact k.one (y := x) (z := -4) (by unfold Sv34.on; dsimp only; rw [ea]) M (Keeps.refl _ _)
    | some z =>
      refine iteN (by intro h; cases h) ?_
      rw [ea] at hp
      refine ⟨_, rfl, p, dx, _, _, rfl, hp, rfl, (by show 2 ≤ sizeLine; decide), fun q hq => ?_⟩
      have e : Sv34.on x .answer = (some x, ⟨0, [z]⟩) := by unfold Sv34.on; dsimp only; rw [ea]
      refine k q _ ⟨x, by rw [e], M.same (same_new hq)⟩ ?_ hq (Same.keeps (same_new hq) _)
      rw [e, upd_same]
      rfl
theorem scShowV : FnScope ["self", "key"] ["self", "key"] (defScope sShowV) := ⟨rfl, rfl, rfl, by decide +kernel, rfl, by decide +kernel, by decide +kernel⟩
theorem ok_showV {f fV : Addr} {fd fdV : FuncData} (F : Fun K "show_value" "Member.show_value" sShowV f fd) (T : Txt K mg CM CS) (FV : Fun K "value_of" "Store.value_of" sVal fV fdV) (bV : Binds K fdV ["self", "key"] []) (mV : Meth K CS "value_of" fV) :
    FnOk P w K mg base CX0 2 f fd ["self", "key"] (spShowV CM CS) := by
  have GV : FnOk P w K mg base CX0 1 fV fdV ["self", "key"] (spVal CS) := ok_val FV T
  refine F.ok scShowV (fun vs H Q E h => ?_) (fun cdv A outer s H vs Q E hr h => ?_)
  · obtain ⟨p, l, se, x, key, rfl, _⟩ := h
    rfl
  · obtain ⟨p, l, se, x, key, rfl, M, hf, k⟩ := h
    obtain ⟨sa, ov, cv, R, m⟩ := id M
    obtain ⟨dx, hp⟩ := R.ob
    obtain ⟨ds, hsa⟩ := R.so.1
    refine ⟨_, pss_cons (ps_if (pt_not (pt_chain op_le op_lt pe_int (pv 1) (pgi rfl T.keys))) (pss_one (ps_ret (pe_lst (pa_cons (pgi rfl T.wrong) pa_nil)))) pss_nil)
      (pss_one (ps_ret (pe_lst (pa_cons (pgi rfl T.done) (pa_cons (pe_meth (pe_mf 5 (pv 0) T.clM T.nStore) T.clS mV GV hr bV .nil pass0 (pa_cons (pv 1) pa_nil)) pa_nil))))), ?_⟩
    refine between (i := 1) rfl ?_
    refine iteB' (fun h => ?_) (fun h => ?_)
    · have e : Sv34.on x (.value key) = (some x, Sv34.ok (-2)) := by
        unfold Sv34.on
        dsimp only
        rw [if_pos]
        cases z : Sv34.within key 0 15 with
        | false => rfl
        | true => exact absurd (within_iff.mp z) (by omega)
      exact k.one (y := x) (z := -2) e M (Keeps.refl _ _)
    · obtain ⟨j, rfl⟩ := Int.eq_ofNat_of_zero_le h.1
      have e : Sv34.on x (.value (j : Int)) = (some x, ⟨0, [x.values.getD j 0]⟩) := by
        unfold Sv34.on
        dsimp only
        rw [if_neg]
        · rfl
        · rw [within_iff.mpr ⟨h.1, by omega⟩]
          intro z; cases z
      refine ⟨_, rfl, p, dx, _, _, rfl, hp, rfl, sa, ds, _, rfl, hsa, sf_no (by decide +kernel), _, rfl, sa, l, x.values, j, rfl, R.so, (by rw [hf.vlen]; omega), ?_⟩
      refine ⟨(by show 2 ≤ sizeLine; decide), fun q hq => ?_⟩
      refine k q _ ⟨x, by rw [e], M.same (same_new hq)⟩ ?_ hq (Same.keeps (same_new hq) _)
      rw [e, upd_same]
      rfl
end
end Nw
end
section
set_option Elab.async false
set_option linter.all false
set_option maxRecDepth 100000
set_option maxHeartbeats 4000000
namespace Nw
open PySem L2
open Sv34 (Record Process Mode)
theorem ints_nV (b : List Nat) : (Sv34Neutral.ints b).map V.int = b.map nV := by
  show (b.map fun (x : Nat) => (x : Int)).map V.int = b.map nV
  rw [List.map_map]
  rfl
section
variable {P : Program} {w : World} {K : PySem.W.Frag} {mg : Str → Option Value} {base : Heap} {CM CS : Addr}
/-! ### show_record -/
theorem scShowR : FnScope ["self"] ["self"] (defScope sShowR) := ⟨rfl, rfl, rfl, by decide +kernel, rfl, by decide +kernel, by decide +kernel⟩
theorem ok_showR {f f1 f2 : Addr} {fd fd1 fd2 : FuncData} (F : Fun K "show_record" "Member.show_record" sShowR f fd) (T : Txt K mg CM CS)
    (F1 : Fun K "number_bytes" "number_bytes" sNB f1 fd1) (b1 : Binds K fd1 ["number"] []) (g1 : mg "number_bytes" = some (.ref f1))
    (F2 : Fun K "record_bytes" "record_bytes" sRB f2 fd2) (b2 : Binds K fd2 ["record"] []) (g2 : mg "record_bytes" = some (.ref f2)) : FnOk P w K mg base CX0 3 f fd ["self"] (spShowR CM CS) := by
  have G2 : FnOk P w K mg base CX0 2 f2 fd2 ["record"] spRB := ok_rb F2 T F1 b1 g1
  refine F.ok scShowR (fun vs H Q E h => ?_) (fun cdv A outer s H vs Q E hr h => ?_)
  · obtain ⟨p, l, se, x, rfl, _⟩ := h
    rfl
  · obtain ⟨p, l, se, x, rfl, M, k⟩ := h
    obtain ⟨sa, ov, cv, R, m⟩ := id M
    obtain ⟨dx, hp⟩ := R.ob
    refine ⟨_, pss_cons (ps_if (pt_cmpR op_eq (pe_mf 2 (pv 0) T.clM T.nState) (pgs rfl T.tells) (nomark _))
        (pss_one (ps_ret (pe_op op_cat (pe_lst (pa_cons (pgi rfl T.done) pa_nil)) (pe_call G2 hr rfl g2 F2.kp b2 .nil pass0 (pa_cons (pe_mf 8 (pv 0) T.clM T.nRecord) pa_nil))))) pss_nil)
      (pss_cons (ps_if (pt_cmpR op_eq (pe_mf 2 (pv 0) T.clM T.nState) (pgs rfl T.puts) (nomark _))
        (pss_one (ps_ret (pe_op op_cat (pe_lst (pa_cons (pgi rfl T.done) pa_nil)) (pe_call G2 hr rfl g2 F2.kp b2 .nil pass0 (pa_cons (pe_mf 9 (pv 0) T.clM T.nCand) pa_nil))))) pss_nil)
      (pss_one (ps_ret (pe_lst (pa_cons (pgi rfl T.notNow) pa_nil))))), ?_⟩
    -- [0] + the record's bytes
    have fin : ∀ (r : Record), Sv34.on x .record = (some x, ⟨0, r.bytes⟩) → ∀ (q0 q1 : Addr) (H1 : Hp), H q0 = none → H1 q1 = some (.lst (r.bytes.map nV)) → Same (upd H q0 (.lst [V.int 0])) H1 → rCat (.ref q0) (.ref q1) H1 Q := fun r e q0 q1 H1 h0 h1 s1 => by
      have s0 : Same H H1 := (same_new h0).trans s1
      refine ⟨q0, q1, _, _, rfl, rfl, s1 _ _ upd_same, h1, ?_, fun q hq => ?_⟩
      · rw [List.length_map, bytes_len]
        show 1 + 40 ≤ sizeLine
        decide
      · refine k q _ ⟨x, by rw [e], M.same (s0.trans (same_new hq))⟩ ?_ (s0.free hq) (Same.keeps (s0.trans (same_new hq)) _)
        rw [e, upd_same]
        show some (HO.lst ([V.int 0] ++ r.bytes.map nV)) = some (HO.lst (((0 : Int) :: Sv34Neutral.ints r.bytes).map V.int))
        rw [List.map_cons, ints_nV]
        rfl
    refine ⟨_, rfl, p, dx, _, _, rfl, hp, rfl, rfl, _, rfl, ?_⟩
    cases em : x.mode with
    | idle =>
      rw [em] at hp
      refine iteN ne_it ?_
      refine ⟨_, rfl, p, dx, _, _, rfl, hp, rfl, rfl, _, rfl, ?_⟩
      refine iteN ne_ip ?_
      exact k.one (y := x) (z := -4) (by unfold Sv34.on; dsimp only; rw [em]) M (Keeps.refl _ _)
    | asks o =>
      rw [em] at hp
      refine iteN ne_at ?_
      refine ⟨_, rfl, p, dx, _, _, rfl, hp, rfl, rfl, _, rfl, ?_⟩
      refine iteN ne_ap ?_
      exact k.one (y := x) (z := -4) (by unfold Sv34.on; dsimp only; rw [em]) M (Keeps.refl _ _)
    | tells o =>
      rw [em] at hp m
      obtain ⟨t, rfl, ht⟩ := m
      refine iteY rfl ?_
      refine ⟨(by show 1 ≤ sizeLine; decide), fun q0 h0 => ?_⟩
      have s0 : Same H (upd H q0 (.lst [V.int 0])) := same_new h0
      refine ⟨_, rfl, p, dx, _, _, rfl, s0 _ _ hp, rfl, t, o, rfl, s0 _ _ ht, fun q1 H1 h1 _ s1 => ?_⟩
      exact fin o (by unfold Sv34.on; dsimp only; rw [em]) q0 q1 H1 h0 h1 s1
    | puts o c =>
      rw [em] at hp m
      obtain ⟨_, u, rfl, hu⟩ := m
      refine iteN ne_pt ?_
      refine ⟨_, rfl, p, dx, _, _, rfl, hp, rfl, rfl, _, rfl, ?_⟩
      refine iteY rfl ?_
      refine ⟨(by show 1 ≤ sizeLine; decide), fun q0 h0 => ?_⟩
      have s0 : Same H (upd H q0 (.lst [V.int 0])) := same_new h0
      refine ⟨_, rfl, p, dx, _, _, rfl, s0 _ _ hp, rfl, u, c, rfl, s0 _ _ hu, fun q1 H1 h1 _ s1 => ?_⟩
      exact fin c (by unfold Sv34.on; dsimp only; rw [em]) q0 q1 H1 h0 h1 s1
/-! ### wrote -/
theorem scWrote : FnScope ["self"] ["self"] (defScope sWrote) := ⟨rfl, rfl, rfl, by decide +kernel, rfl, by decide +kernel, by decide +kernel⟩
theorem ok_wrote {f fG fT fP : Addr} {fd fdG fdT fdP : FuncData} (F : Fun K "wrote" "Member.wrote" sWrote f fd) (T : Txt K mg CM CS)
    (FG : Fun K "go_on_to_cell" "Member.go_on_to_cell" sGo fG fdG) (bG : Binds K fdG ["self"] []) (mG : Meth K CM "go_on_to_cell" fG)
    (FT : Fun K "turn" "Member.turn" sTurn fT fdT) (bT : Binds K fdT ["self"] []) (mT : Meth K CM "turn" fT) (FP : Fun K "put" "Member.put" sPut fP fdP) (bP : Binds K fdP ["self", "candidate"] []) (mP : Meth K CM "put" fP) :
    FnOk P w K mg base CX0 3 f fd ["self"] (spWrote CM CS) := by
  have GG : FnOk P w K mg base CX0 2 fG fdG ["self"] (spGo CM CS) := ok_go FG T FT bT mT FP bP mP
  refine F.ok scWrote (fun vs H Q E h => ?_) (fun cdv A outer s H vs Q E hr h => ?_)
  · obtain ⟨p, l, se, x, rfl, _⟩ := h
    rfl
  · obtain ⟨p, l, se, x, rfl, M, hf, k⟩ := h
    obtain ⟨sa, ov, cv, R, m⟩ := id M
    obtain ⟨dx, hp⟩ := R.ob
    refine ⟨_, pss_cons (ps_if (pt_cmpR op_ne (pe_mf 2 (pv 0) T.clM T.nState) (pgs rfl T.tells) (nomark _)) (pss_one (ps_ret (pe_lst (pa_cons (pgi rfl T.notNow) pa_nil)))) pss_nil)
      (pss_one (ps_ret (pe_lst (pa_cons (pe_meth0 (pv 0) T.clM mG GG hr bG .nil pass0) pa_nil)))), ?_⟩
    refine ⟨_, rfl, p, dx, _, _, rfl, hp, rfl, rfl, _, rfl, ?_⟩
    have no : Sv34.wrote x = none → ([V.int (-4)] : List V).length ≤ sizeLine ∧ ∀ q, H q = none → Q (.ref q) (upd H q (.lst [.int (-4)])) := fun e =>
      k.one (y := x) (z := -4) (by show Sv34.went x (Sv34.wrote x) = _; rw [e]; rfl) M (Keeps.refl _ _)
    cases em : x.mode with
    | idle =>
      refine iteN' ne_it ?_
      exact no (by unfold Sv34.wrote; rw [em])
    | asks o =>
      refine iteN' ne_at ?_
      exact no (by unfold Sv34.wrote; rw [em])
    | puts o c =>
      refine iteN' ne_pt ?_
      exact no (by unfold Sv34.wrote; rw [em])
    | tells o =>
      refine iteY' rfl ?_
      refine ⟨_, rfl, p, dx, _, rfl, hp, mf_no (by decide +kernel), p, l, se, x, o, rfl, M.busy (.inl em), hf.n2, hf.place, fun H1 M1 k1 => ?_⟩
      exact k.one (y := (Sv34.onTo x o).1) (z := ((Sv34.onTo x o).2 : Int)) (by
        show Sv34.went x (Sv34.wrote x) = _
        rw [show Sv34.wrote x = some (Sv34.onTo x o) by unfold Sv34.wrote; rw [em]]
        rfl) M1 (k1.mono (by simp))
/-! ### got -/
theorem scGot : FnScope ["self", "row"] ["self", "row"] (defScope sGot) := ⟨rfl, rfl, rfl, by decide +kernel, rfl, by decide +kernel, by decide +kernel⟩
theorem ok_got {f f1 f2 fH fF fC fO fG fT fP : Addr} {fd fd1 fd2 fdH fdF fdC fdO fdG fdT fdP : FuncData} (F : Fun K "got" "Member.got" sGot f fd) (T : Txt K mg CM CS)
    (F1 : Fun K "number_of_bytes" "number_of_bytes" sNOB f1 fd1) (b1 : Binds K fd1 ["row"] []) (g1 : mg "number_of_bytes" = some (.ref f1))
    (F2 : Fun K "record_of_bytes" "record_of_bytes" sROB f2 fd2) (b2 : Binds K fd2 ["row"] []) (g2 : mg "record_of_bytes" = some (.ref f2))
    (FH : Fun K "helped_first" "Member.helped_first" sHelp fH fdH) (bH : Binds K fdH ["self", "told"] []) (mH : Meth K CM "helped_first" fH)
    (FF : Fun K "follow" "Member.follow" sFollow fF fdF) (bF : Binds K fdF ["self", "standing"] []) (mF : Meth K CM "follow" fF)
    (FC : Fun K "carry_out" "Store.carry_out" sOut fC fdC) (bC : Binds K fdC ["self", "record"] []) (mC : Meth K CS "carry_out" fC)
    (FO : Fun K "is_own" "Member.is_own" sOwn fO fdO) (bO : Binds K fdO ["self", "standing"] []) (mO : Meth K CM "is_own" fO)
    (FG : Fun K "go_on_to_cell" "Member.go_on_to_cell" sGo fG fdG) (bG : Binds K fdG ["self"] []) (mG : Meth K CM "go_on_to_cell" fG)
    (FT : Fun K "turn" "Member.turn" sTurn fT fdT) (bT : Binds K fdT ["self"] []) (mT : Meth K CM "turn" fT) (FP : Fun K "put" "Member.put" sPut fP fdP) (bP : Binds K fdP ["self", "candidate"] []) (mP : Meth K CM "put" fP) :
    FnOk P w K mg base CX0 4 f fd ["self", "row"] (spGot CM CS) := by
  have G2 : FnOk P w K mg base CX0 2 f2 fd2 ["row"] spROB := ok_rob F2 T F1 b1 g1
  have GH : FnOk P w K mg base CX0 2 fH fdH ["self", "told"] (spHelp CM CS) := ok_help FH T FT bT mT
  have GP : FnOk P w K mg base CX0 1 fP fdP ["self", "candidate"] (spPut CM CS) := ok_put FP T
  have GF : FnOk P w K mg base CX0 3 fF fdF ["self", "standing"] (spFollow CM CS) := ok_follow FF T FC bC mC FO bO mO FG bG mG FT bT mT FP bP mP
  refine F.ok scGot (fun vs H Q E h => ?_) (fun cdv A outer s H vs Q E hr h => ?_)
  · obtain ⟨p, l, se, a, x, b, rfl, _⟩ := h
    rfl
  · obtain ⟨p, l, se, a, x, b, rfl, M, hf, ha, hb, hx, k⟩ := h
    obtain ⟨sa, ov, cv, R, m⟩ := id M
    obtain ⟨dx, hp⟩ := R.ob
    have hr1 : Room 1 _ := hr.mono (by decide)
    have hr2 : Room 2 _ := hr.mono (by decide)
    refine ⟨_, pss_cons (ps_if (pt_cmpR op_eq (pe_mf 2 (pv 0) T.clM T.nState) (pgs rfl T.asks) (nomark _))
        (pss_one (ps_ret (pe_lst (pa_cons (pe_meth (pv 0) T.clM mP GP hr1 bP .nil pass0 (pa_cons (pe_meth (pv 0) T.clM mH GH hr2 bH .nil pass0 (pa_cons (pe_call G2 hr2 rfl g2 F2.kp b2 .nil pass0 (pa_cons (pv 1) pa_nil)) pa_nil)) pa_nil)) pa_nil)))) pss_nil)
      (pss_cons (ps_if (pt_cmpR op_eq (pe_mf 2 (pv 0) T.clM T.nState) (pgs rfl T.puts) (nomark _))
        (pss_one (ps_ret (pe_lst (pa_cons (pe_meth (pv 0) T.clM mF GF hr bF .nil pass0 (pa_cons (pe_call G2 hr2 rfl g2 F2.kp b2 .nil pass0 (pa_cons (pv 1) pa_nil)) pa_nil)) pa_nil)))) pss_nil)
      (pss_one (ps_ret (pe_lst (pa_cons (pgi rfl T.notNow) pa_nil))))), ?_⟩
    have no : Sv34.got x (Sv34.recordOf b) = none → ([V.int (-4)] : List V).length ≤ sizeLine ∧ ∀ q, H q = none → Q (.ref q) (upd H q (.lst [.int (-4)])) := fun e =>
      k.one (y := x) (z := -4) (by show Sv34.went x (Sv34.got x (Sv34.recordOf b)) = _; rw [e]; rfl) M (Keeps.refl _ _)
    have fm := hf.mode
    refine ⟨_, rfl, p, dx, _, _, rfl, hp, rfl, rfl, _, rfl, ?_⟩
    cases em : x.mode with
    | idle =>
      rw [em] at hp
      refine iteN ne_ia ?_
      refine ⟨_, rfl, p, dx, _, _, rfl, hp, rfl, rfl, _, rfl, ?_⟩
      refine iteN ne_ip ?_
      exact no (got_idle em)
    | tells o =>
      rw [em] at hp
      refine iteN ne_ta ?_
      refine ⟨_, rfl, p, dx, _, _, rfl, hp, rfl, rfl, _, rfl, ?_⟩
      refine iteN ne_tp ?_
      exact no (got_tells em)
    | asks o =>
      refine iteY rfl ?_
      refine ⟨_, rfl, p, dx, _, rfl, hp, mf_no (by decide +kernel), _, rfl, p, dx, _, rfl, hp, mf_no (by decide +kernel), _, rfl, a, b, rfl, ha, hb, hx, fun u H1 hu _ s1 => ?_⟩
      have B1 := (M.busy (own := o) (.inr (.inl em))).same s1
      refine ⟨p, l, se, u, x, o, Sv34.recordOf b, rfl, B1, hu, hf.n2, hf.n8, hf.slen, fun t ht => ?_⟩
      refine ⟨p, l, se, t, x, o, _, rfl, B1, ht, fun H2 M2 k2 => ?_⟩
      exact k.one (z := 64) (by
        show Sv34.went x (Sv34.got x (Sv34.recordOf b)) = _
        rw [got_asks em]
        rfl) M2 ((Same.keeps s1 _).trans (k2.mono (by simp)))
    | puts o c =>
      rw [em] at hp fm
      refine iteN ne_pa ?_
      refine ⟨_, rfl, p, dx, _, _, rfl, hp, rfl, rfl, _, rfl, ?_⟩
      refine iteY rfl ?_
      refine ⟨_, rfl, p, dx, _, rfl, hp, mf_no (by decide +kernel), _, rfl, a, b, rfl, ha, hb, hx, fun u H1 hu _ s1 => ?_⟩
      have B1 := (M.busy (own := o) (.inr (.inr ⟨c, em⟩))).same s1
      refine ⟨p, l, se, u, x, o, Sv34.recordOf b, rfl, B1, hu, hf.n2, fm.2.2, hf.vlen, hf.slen, hf.n8, fun H2 M2 k2 => ?_⟩
      exact k.one (z := ((followed x o (Sv34.recordOf b)).2 : Int)) (by
        show Sv34.went x (Sv34.got x (Sv34.recordOf b)) = _
        rw [got_puts em]
        rfl) M2 ((Same.keeps s1 _).trans k2)
end
end Nw
end
section
set_option Elab.async false
set_option linter.all false
set_option maxRecDepth 100000
set_option maxHeartbeats 4000000
namespace Nw
open PySem L2
open Sv34 (Record Process Mode)
section
variable {P : Program} {w : World} {K : PySem.W.Frag} {mg : Str → Option Value} {base : Heap} {CM CS : Addr}
/-! ### do -/
theorem scDo : FnScope ["self", "what", "key", "v", "w"] ["self", "what", "key", "v", "w"] (defScope sDo) := ⟨rfl, rfl, rfl, by decide +kernel, rfl, by decide +kernel, by decide +kernel⟩
theorem ok_do {f : Addr} {fd : FuncData} (F : Fun K "do" "Member.do" sDo f fd) (T : Txt K mg CM CS) : FnOk P w K mg base CX0 1 f fd ["self", "what", "key", "v", "w"] (spDo CM CS) := by
  refine F.ok scDo (fun vs H Q E h => ?_) (fun cdv A outer s H vs Q E hr h => ?_)
  · obtain ⟨p, l, se, x, what, key, v, w, rfl, _⟩ := h
    rfl
  · obtain ⟨p, l, se, x, what, key, v, w, rfl, M, k⟩ := h
    obtain ⟨sa, ov, cv, R, m⟩ := id M
    obtain ⟨dx, hp⟩ := R.ob
    refine ⟨_, pss_cons (ps_if (pt_not (PW.pt (pw_and (pt_chain op_le op_lt pe_int (pv 1) (pgi rfl T.whats)) (pw_and1 (pt_chain op_le op_lt pe_int (pv 2) (pgi rfl T.keys)))))) (pss_one (ps_ret (pe_lst (pa_cons (pgi rfl T.wrong) pa_nil)))) pss_nil)
      (pss_cons (ps_if (pt_cmpR op_ne (pe_mf 2 (pv 0) T.clM T.nState) (pgs rfl T.idle) (nomark _)) (pss_one (ps_ret (pe_lst (pa_cons (pgi rfl T.notNow) pa_nil)))) pss_nil)
      (pss_cons (ps_mf 3 (pv 0) (pe_op op_mod (pe_op op_add (pe_mf 3 (pv 0) T.clM T.nCount) pe_int) (pgi rfl T.numbers)) T.clM T.nCount)
      (pss_cons (ps_mf 8 (pv 0) (pe_tup (pa_cons (pe_op op_add (pe_mf 0 (pv 0) T.clM T.nMe) pe_int) (pa_cons (pe_mf 3 (pv 0) T.clM T.nCount) (pa_cons (pe_op op_add (pe_op op_mul (pgi rfl T.keys) (pv 1)) (pv 2)) (pa_cons (pv 3) (pa_cons (pv 4) pa_nil)))))) T.clM T.nRecord)
      (pss_cons (ps_mf 2 (pv 0) (pgs rfl T.tells) T.clM T.nState)
      (pss_one (ps_ret (pe_lst (pa_cons (pgi rfl T.done) pa_nil)))))))), ?_⟩
    have bad : ¬ ((0 ≤ what ∧ what < 4) ∧ 0 ≤ key ∧ key < 16) → ([V.int (-2)] : List V).length ≤ sizeLine ∧ ∀ q, H q = none → Q (.ref q) (upd H q (.lst [.int (-2)])) := fun h =>
      k.one (y := x) (z := -2) (by
        unfold Sv34.on
        dsimp only
        rw [if_pos]
        cases z1 : Sv34.within what 0 3 with
        | false => exact .inl rfl
        | true =>
          cases z2 : Sv34.within key 0 15 with
          | false => exact .inr rfl
          | true =>
            have a1 := within_iff.mp z1
            have a2 := within_iff.mp z2
            exact absurd ⟨⟨by omega, by omega⟩, by omega, by omega⟩ h) M (Keeps.refl _ _)
    refine between (i := 1) rfl ?_
    refine ite2' (fun h1 => ?_) (fun h1 => ?_)
    case _ =>
      refine between (i := 2) rfl ?_
      refine iteB' (fun h2 => ?_) (fun h2 => ?_)
      · exact bad fun z => h2 z.2
      · obtain ⟨a, rfl⟩ := Int.eq_ofNat_of_zero_le h1.1
        obtain ⟨c, rfl⟩ := Int.eq_ofNat_of_zero_le h2.1
        have ein : ¬ (Sv34.within (a : Int) 0 3 = false ∨ Sv34.within (c : Int) 0 15 = false) := by
          rw [within_iff.mpr ⟨h1.1, by omega⟩, within_iff.mpr ⟨h2.1, by omega⟩]
          intro z
          rcases z with z | z <;> cases z
        have eon : Sv34.on x (.do_ (a : Int) (c : Int) v w) = match Sv34.wants x a c v w with
            | some y => (some y, Sv34.ok 0)
            | none => (some x, Sv34.ok (-4)) := by
          unfold Sv34.on
          dsimp only
          rw [if_neg ein]
          rfl
        have no : ¬ x.mode = .idle → ([V.int (-4)] : List V).length ≤ sizeLine ∧ ∀ q, H q = none → Q (.ref q) (upd H q (.lst [.int (-4)])) := fun h =>
          k.one (y := x) (z := -4) (by
            rw [eon]
            unfold Sv34.wants
            rw [if_neg h]) M (Keeps.refl _ _)
        refine ⟨_, rfl, p, dx, _, _, rfl, hp, rfl, rfl, _, rfl, ?_⟩
        cases em : x.mode with
        | tells o =>
          refine iteN' ne_ti ?_
          exact no (by rw [em]; intro z; cases z)
        | asks o =>
          refine iteN' ne_ai ?_
          exact no (by rw [em]; intro z; cases z)
        | puts o c =>
          refine iteN' ne_pi ?_
          exact no (by rw [em]; intro z; cases z)
        | idle =>
          refine iteY' rfl ?_
          rw [em] at R hp
          refine ⟨_, rfl, p, dx, _, _, rfl, hp, rfl, _, _, rfl, rfl, _, _, rfl, rfl, (by show (0 : Int) < 18446744073709551616; decide), _, rfl, p, dx, _, rfl, hp, rfl, ?_⟩
          have ec : (((x.count : Int) + 1) % 18446744073709551616) = (((x.count + 1) % Sv34.W : Nat) : Int) := by
            have c : Sv34.W = 18446744073709551616 := rfl
            rw [c]
            omega
          show tSeq _ _ _ _ (upd H p (.ins CM dx (mf [nV x.me, nV x.n, .str (stOf .idle), V.int (((x.count : Int) + 1) % 18446744073709551616), nV x.place, .ref sa, .ref se, ansV x.answer, ov, cv])))
          rw [ec]
          have R1 := R.set (dx := dx) (stOf .idle) ((x.count + 1) % Sv34.W) x.place (ansV x.answer) ov cv
          have k1 : Keeps [p, l, se] H (upd H p (.ins CM dx (mf (mVals x.me x.n (stOf .idle) ((x.count + 1) % Sv34.W) x.place sa se (ansV x.answer) ov cv)))) := keeps_upd (by simp)
          have hp1 : upd H p (.ins CM dx (mf (mVals x.me x.n (stOf .idle) ((x.count + 1) % Sv34.W) x.place sa se (ansV x.answer) ov cv))) p = some (.ins CM dx (mf (mVals x.me x.n (stOf .idle) ((x.count + 1) % Sv34.W) x.place sa se (ansV x.answer) ov cv))) := upd_same
          generalize upd H p (.ins CM dx (mf (mVals x.me x.n (stOf .idle) ((x.count + 1) % Sv34.W) x.place sa se (ansV x.answer) ov cv))) = H1 at R1 k1 hp1 ⊢
          refine ⟨_, rfl, p, dx, _, _, rfl, hp1, rfl, _, _, rfl, rfl, _, rfl, p, dx, _, _, rfl, hp1, rfl, _, rfl, _, _, rfl, rfl, .inl ⟨by decide, by decide⟩, _, rfl, _, _, rfl, rfl, _, rfl, _, rfl, (by show 5 ≤ sizeLine; decide), fun t ht => ?_⟩
          have s2 := same_new (o := HO.tup [V.int ((x.me : Int) + 1), nV ((x.count + 1) % Sv34.W), V.int (16 * (a : Int) + (c : Int)), nV v, nV w]) ht
          have hp2 := s2 _ _ hp1
          have R2 := R1.same s2
          have hs2 : upd H1 t (.tup [V.int ((x.me : Int) + 1), nV ((x.count + 1) % Sv34.W), V.int (16 * (a : Int) + (c : Int)), nV v, nV w]) t = some (.tup [V.int ((x.me : Int) + 1), nV ((x.count + 1) % Sv34.W), V.int (16 * (a : Int) + (c : Int)), nV v, nV w]) := upd_same
          have k2 := k1.trans (Same.keeps s2 [p, l, se])
          have er : [V.int ((x.me : Int) + 1), nV ((x.count + 1) % Sv34.W), V.int (16 * (a : Int) + (c : Int)), nV v, nV w] = recV ⟨x.me + 1, (x.count + 1) % Sv34.W, 16 * a + c, v, w⟩ := by
            have e1 : (x.me : Int) + 1 = ((x.me + 1 : Nat) : Int) := by omega
            have e2 : 16 * (a : Int) + (c : Int) = ((16 * a + c : Nat) : Int) := by omega
            rw [e1, e2]
            rfl
          have hr2 : Has (upd H1 t (.tup [V.int ((x.me : Int) + 1), nV ((x.count + 1) % Sv34.W), V.int (16 * (a : Int) + (c : Int)), nV v, nV w])) (.ref t) ⟨x.me + 1, (x.count + 1) % Sv34.W, 16 * a + c, v, w⟩ := ⟨t, rfl, by rw [hs2, er]⟩
          refine ⟨_, rfl, p, dx, _, rfl, hp2, rfl, ?_⟩
          refine ⟨_, rfl, p, dx, _, rfl, upd_same, rfl, ?_⟩
          have R3 := (R2.set (dx := dx) (stOf .idle) ((x.count + 1) % Sv34.W) x.place (ansV x.answer) (.ref t) cv).set (dx := dx) (stOf (.tells ⟨x.me + 1, (x.count + 1) % Sv34.W, 16 * a + c, v, w⟩)) ((x.count + 1) % Sv34.W) x.place (ansV x.answer) (.ref t) cv
          exact k.one (y := { x with count := (x.count + 1) % Sv34.W, mode := .tells ⟨x.me + 1, (x.count + 1) % Sv34.W, 16 * a + c, v, w⟩ }) (z := 0) (by
            rw [eon]
            unfold Sv34.wants
            rw [if_pos em]) ⟨sa, .ref t, cv, R3, (hr2.set hp2).set upd_same⟩ (k2.trans ((keeps_upd (by simp)).trans (keeps_upd (by simp))))
    case _ =>
      refine iteT ?_
      exact bad fun z => h1 z.1
/-! ### Member.__init__ -/
theorem scMI : FnScope ["self", "me", "n"] ["self", "me", "n"] (defScope sMI) := ⟨rfl, rfl, rfl, by decide +kernel, rfl, by decide +kernel, by decide +kernel⟩
theorem ok_mi {f fS : Addr} {fd fdS : FuncData} (F : Fun K "__init__" "Member.__init__" sMI f fd) (T : Txt K mg CM CS) (MS : Mk K CS fS) (FS : Fun K "__init__" "Store.__init__" sSI fS fdS) (bS : Binds K fdS ["self"] []) :
    FnOk P w K mg base CX0 3 f fd ["self", "me", "n"] (spMI CM CS) := by
  have GS : FnOk P w K mg base CX0 1 fS fdS ["self"] (spSI CS) := ok_si FS T
  refine F.ok scMI (fun vs H Q E h => ?_) (fun cdv A outer s H vs Q E hr h => ?_)
  · obtain ⟨p, dx, me, n, rfl, _⟩ := h
    rfl
  · obtain ⟨p, dx, me, n, rfl, hp, hn, k⟩ := h
    refine ⟨_, pss_cons (ps_fld (pv 0) (pv 1) rfl) (pss_cons (ps_fld (pv 0) (pv 2) rfl) (pss_cons (ps_fld (pv 0) (pgs rfl T.idle) rfl) (pss_cons (ps_fld (pv 0) pe_int rfl) (pss_cons (ps_fld (pv 0) pe_int rfl)
      (pss_cons (ps_fld (pv 0) (pe_make0 MS GS hr rfl T.mgS bS .nil pass0) rfl) (pss_cons (ps_fld (pv 0) (pe_op op_rep (pe_lst (pa_cons pe_int pa_nil)) (pv 2)) rfl) (pss_cons (ps_fld (pv 0) pe_non rfl) (pss_cons (ps_fld (pv 0) pe_non rfl) (pss_one (ps_fld (pv 0) pe_non rfl)))))))))), ?_⟩
    have f1 : ∀ (a : V), (putF "me" a []).length ≤ 1 := fun a => putF_few (Nat.le_refl 0)
    have lt : ∀ {m k : Nat}, m ≤ k → k < 1000 → m < 1000 := fun a b => Nat.lt_of_le_of_lt a b
    refine ⟨_, rfl, _, rfl, p, CM, dx, _, rfl, hp, T.clM, T.nMe, (by show 0 < 1000; decide), ?_⟩
    refine ⟨_, rfl, _, rfl, p, CM, dx, _, rfl, upd_same, T.clM, T.nN, lt (f1 _) (by decide), ?_⟩
    refine ⟨_, rfl, p, CM, dx, _, rfl, upd_same, T.clM, T.nState, lt (putF_few (f1 _)) (by decide), ?_⟩
    refine ⟨_, rfl, p, CM, dx, _, rfl, upd_same, T.clM, T.nCount, lt (putF_few (putF_few (f1 _))) (by decide), ?_⟩
    refine ⟨_, rfl, p, CM, dx, _, rfl, upd_same, T.clM, T.nPlace, lt (putF_few (putF_few (putF_few (f1 _)))) (by decide), ?_⟩
    have e5 : upd (upd (upd (upd (upd H p (.ins CM dx (putF "me" (nV me) []))) p (.ins CM dx (putF "n" (nV n) (putF "me" (nV me) [])))) p (.ins CM dx (putF "state" (.str "idle") (putF "n" (nV n) (putF "me" (nV me) []))))) p (.ins CM dx (putF "count" (.int 0) (putF "state" (.str "idle") (putF "n" (nV n) (putF "me" (nV me) [])))))) p (.ins CM dx (putF "place" (.int 0) (putF "count" (.int 0) (putF "state" (.str "idle") (putF "n" (nV n) (putF "me" (nV me) []))))))
        = upd H p (.ins CM dx (putF "place" (.int 0) (putF "count" (.int 0) (putF "state" (.str "idle") (putF "n" (nV n) (putF "me" (nV me) [])))))) := by simp only [upd_upd]
    show tSeq _ _ _ _ (upd (upd (upd (upd (upd H p (.ins CM dx (putF "me" (nV me) []))) p (.ins CM dx (putF "n" (nV n) (putF "me" (nV me) [])))) p (.ins CM dx (putF "state" (.str "idle") (putF "n" (nV n) (putF "me" (nV me) []))))) p (.ins CM dx (putF "count" (.int 0) (putF "state" (.str "idle") (putF "n" (nV n) (putF "me" (nV me) [])))))) p (.ins CM dx (putF "place" (.int 0) (putF "count" (.int 0) (putF "state" (.str "idle") (putF "n" (nV n) (putF "me" (nV me) [])))))))
    rw [e5]
    have l5 : (putF "place" (.int 0) (putF "count" (.int 0) (putF "state" (.str "idle") (putF "n" (nV n) (putF "me" (nV me) []))))).length ≤ 5 := putF_few (putF_few (putF_few (putF_few (f1 _))))
    have ef := init_fields (nV me) (nV n) (.str "idle") (.int 0) (.int 0)
    generalize putF "place" (.int 0) (putF "count" (.int 0) (putF "state" (.str "idle") (putF "n" (nV n) (putF "me" (nV me) [])))) = F5 at l5 ef ⊢
    have hp5 : upd H p (.ins CM dx F5) p = some (.ins CM dx F5) := upd_same
    have k5 : Keeps [p] H (upd H p (.ins CM dx F5)) := keeps_upd (by simp)
    have fr5 : ∀ b, upd H p (.ins CM dx F5) b = none → H b = none := fun b e => by
      by_cases hb : b = p
      · rw [hb, upd_same] at e; cases e
      · rw [upd_ne hb] at e; exact e
    generalize upd H p (.ins CM dx F5) = H5 at hp5 k5 fr5 ⊢
    intro sa ds ns nds nes
    have s5 : Same H5 (upd (upd H5 ds (.own sa)) sa (.ins CS ds [])) := fun b o e => by
      rw [upd_ne (ne_of_none e ns), upd_ne (ne_of_none e nds)]
      exact e
    refine ⟨sa, ds, rfl, upd_same, fun l H6 S6 hl k6 => ⟨rfl, ?_⟩⟩
    have nps : p ≠ sa := ne_of_none hp5 ns
    have hp6 : H6 p = some (.ins CM dx F5) := k6 _ _ (s5 _ _ hp5) (by simpa using nps)
    have hl5 : H5 l = none := s5.free hl
    have npl : l ≠ p := fun e => by rw [e, hp5] at hl5; cases hl5
    have k56 : Keeps [sa] H5 H6 := (Same.keeps s5 _).trans k6
    have th6 : ∀ b, b ∈ [sa] → ∃ o, H6 b = some o := fun b hb => by
      have e : b = sa := by simpa using hb
      obtain ⟨⟨_, z⟩, _⟩ := S6
      exact ⟨_, by rw [e]; exact z⟩
    -- store
    refine ⟨_, rfl, p, CM, dx, _, rfl, hp6, T.clM, T.nStore, lt l5 (by decide), ?_⟩
    have l6 : (putF "store" (V.ref sa) F5).length ≤ 6 := putF_few l5
    have S7 : StoreAt CS (upd H6 p (.ins CM dx (putF "store" (V.ref sa) F5))) sa l Sv34.zeros := by
      obtain ⟨⟨d1, z1⟩, z2⟩ := S6
      exact ⟨⟨d1, by rw [upd_ne nps.symm]; exact z1⟩, by rw [upd_ne npl]; exact z2⟩
    have k67 : Keeps [p] H6 (upd H6 p (.ins CM dx (putF "store" (V.ref sa) F5))) := keeps_upd (by simp)
    have fr7 : ∀ b, upd H6 p (.ins CM dx (putF "store" (V.ref sa) F5)) b = none → H6 b = none ∧ b ≠ p := fun b e => by
      by_cases hb : b = p
      · rw [hb, upd_same] at e; cases e
      · rw [upd_ne hb] at e; exact ⟨e, hb⟩
    have hp7 : upd H6 p (.ins CM dx (putF "store" (V.ref sa) F5)) p = some (.ins CM dx (putF "store" (V.ref sa) F5)) := upd_same
    generalize upd H6 p (.ins CM dx (putF "store" (V.ref sa) F5)) = H7 at S7 k67 fr7 hp7 ⊢
    -- seen
    refine ⟨(by show 1 ≤ sizeLine; decide), fun q0 h0 => ?_⟩
    refine ⟨_, rfl, q0, _, _, rfl, rfl, upd_same, by omega, by omega, ?_, fun se hse => ?_⟩
    · show 1 * ((n : Int)).toNat ≤ sizeLine
      rw [Int.toNat_natCast, Nat.one_mul]
      exact Nat.le_trans hn (by decide)
    have s8 : Same H7 (upd H7 q0 (.lst [V.int 0])) := same_new h0
    have s9 := s8.trans (same_new (o := HO.lst (List.replicate ((n : Int)).toNat [V.int 0]).flatten) hse)
    have hse7 := s8.free hse
    have hs9 : upd (upd H7 q0 (.lst [V.int 0])) se (.lst (List.replicate ((n : Int)).toNat [V.int 0]).flatten) se = some (.lst ((List.replicate n 0).map nV)) := by rw [upd_same, Int.toNat_natCast, flat_rep]
    have nls : l ≠ se := ne_of_none S7.2 hse7
    have hp9 := s9 _ _ hp7
    have S9 := S7.same s9
    generalize upd (upd H7 q0 (.lst [V.int 0])) se (.lst (List.replicate ((n : Int)).toNat [V.int 0]).flatten) = H9 at s9 hs9 hp9 S9 ⊢
    refine ⟨_, rfl, p, CM, dx, _, rfl, hp9, T.clM, T.nSeen, lt l6 (by decide), ?_⟩
    refine ⟨_, rfl, p, CM, dx, _, rfl, upd_same, T.clM, T.nAnswer, lt (putF_few l6) (by decide), ?_⟩
    refine ⟨_, rfl, p, CM, dx, _, rfl, upd_same, T.clM, T.nRecord, lt (putF_few (putF_few l6)) (by decide), ?_⟩
    refine ⟨_, rfl, p, CM, dx, _, rfl, upd_same, T.clM, T.nCand, lt (putF_few (putF_few (putF_few l6))) (by decide), ?_⟩
    have ee : upd (upd (upd (upd H9 p (.ins CM dx (putF "seen" (.ref se) (putF "store" (V.ref sa) F5)))) p (.ins CM dx (putF "answer" .non (putF "seen" (.ref se) (putF "store" (V.ref sa) F5))))) p (.ins CM dx (putF "record" .non (putF "answer" .non (putF "seen" (.ref se) (putF "store" (V.ref sa) F5)))))) p (.ins CM dx (putF "candidate" .non (putF "record" .non (putF "answer" .non (putF "seen" (.ref se) (putF "store" (V.ref sa) F5))))))
        = upd H9 p (.ins CM dx (mf (mVals me n "idle" 0 0 sa se .non .non .non))) := by
      simp only [upd_upd]
      rw [ef]
      rfl
    show Q .non (upd (upd (upd (upd H9 p (.ins CM dx (putF "seen" (.ref se) (putF "store" (V.ref sa) F5)))) p (.ins CM dx (putF "answer" .non (putF "seen" (.ref se) (putF "store" (V.ref sa) F5))))) p (.ins CM dx (putF "record" .non (putF "answer" .non (putF "seen" (.ref se) (putF "store" (V.ref sa) F5)))))) p (.ins CM dx (putF "candidate" .non (putF "record" .non (putF "answer" .non (putF "seen" (.ref se) (putF "store" (V.ref sa) F5)))))))
    rw [ee]
    have h7 := fr7 se hse7
    refine k l se _ ⟨sa, .non, .non, ⟨⟨dx, upd_same⟩, ?_, ?_, nls⟩, trivial⟩ (fr5 l hl5) (fr5 se (new_of k56 th6 h7.1)) fun b o e hb => ?_
    · obtain ⟨⟨d1, z1⟩, z2⟩ := S9
      exact ⟨⟨d1, by rw [upd_ne nps.symm]; exact z1⟩, by rw [upd_ne npl]; exact z2⟩
    · rw [upd_ne h7.2, hs9]
      show some (HO.lst ((List.replicate n 0).map nV)) = some (HO.lst (((List.replicate 8 0).take n).map nV))
      rw [List.take_replicate, Nat.min_eq_left hn]
    · have hb' : b ≠ p := by simpa using hb
      have e5 := k5 b o e hb
      have nbs : b ≠ sa := ne_of_none e5 ns
      rw [upd_ne hb']
      exact s9 _ _ (k67 _ _ (k56 _ _ e5 (by simpa using nbs)) hb)
end
end Nw
end
section
set_option Elab.async false
set_option linter.all false
set_option maxRecDepth 100000
set_option maxHeartbeats 4000000
namespace Nw
open PySem L2
open Sv34 (Record Process Mode)
theorem Outs.up {CM CS : Addr} {H H1 : Hp} {p l se : Addr} {r : Sv34.Abs × Sv34.Ans} {Q : VK} (k : Outs CM CS H p l se r Q) (s : Same H H1) : Outs CM CS H1 p l se r Q := fun q H' h1 h2 h3 h4 => k q H' h1 h2 (s.free h3) ((Same.keeps s _).trans h4)
def spAsk (CM CS : Addr) : Sp := fun vs H Q _ => ∃ (p l se a : Addr) (x : Process) (c : List Int) (k : Nat) (call : Sv34.Call), vs = [.ref p, .ref a] ∧ H a = some (.lst (c.map V.int)) ∧ Laid c k call ∧ isBegin call = false ∧ Mem CM CS H p l se x ∧ Fine x ∧ Outs CM CS H p l se (Sv34.on x call) Q
/-- lo <= name <= hi, lo and hi constants -/
theorem betweenLe {i : Nat} {lo hi z : Int} {σ : St} {H : Hp} {Q : Bool → Hp → Prop} (hs : σ[i]? = some (some (.int z))) (q : Q (decide (lo ≤ z ∧ z ≤ hi)) H) :
    tTest (tChain (rI0 fun i j => .bl (decide (i ≤ j))) (rI0 fun i j => .bl (decide (i ≤ j))) (tC (.int lo)) (tVar i) (tC (.int hi))) σ H Q := by
  refine ⟨_, hs, _, _, rfl, rfl, _, rfl, ?_⟩
  refine ite2' (fun h => ?_) (fun h => ?_)
  · refine ⟨_, _, rfl, rfl, _, rfl, ?_⟩
    have e : decide (lo ≤ z ∧ z ≤ hi) = decide (z ≤ hi) := by
      by_cases h2 : z ≤ hi
      · rw [decide_eq_true h2, decide_eq_true ⟨h, h2⟩]
      · rw [decide_eq_false h2, decide_eq_false fun w => h2 w.2]
    rw [← e]
    exact q
  · refine ⟨_, rfl, ?_⟩
    rw [decide_eq_false fun w => h w.1] at q
    exact q
/-- lo <= name < name, lo a constant -/
theorem betweenV {i j : Nat} {lo hi z : Int} {σ : St} {H : Hp} {Q : Bool → Hp → Prop} (hs : σ[i]? = some (some (.int z))) (hj : σ[j]? = some (some (.int hi))) (q : Q (decide (lo ≤ z ∧ z < hi)) H) :
    tTest (tChain (rI0 fun i j => .bl (decide (i ≤ j))) (rI0 fun i j => .bl (decide (i < j))) (tC (.int lo)) (tVar i) (tVar j)) σ H Q := by
  refine ⟨_, hs, _, _, rfl, rfl, _, rfl, ?_⟩
  refine ite2' (fun h => ?_) (fun h => ?_)
  · refine ⟨_, hj, _, _, rfl, rfl, _, rfl, ?_⟩
    have e : decide (lo ≤ z ∧ z < hi) = decide (z < hi) := by
      by_cases h2 : z < hi
      · rw [decide_eq_true h2, decide_eq_true ⟨h, h2⟩]
      · rw [decide_eq_false h2, decide_eq_false fun w => h2 w.2]
    rw [← e]
    exact q
  · refine ⟨_, rfl, ?_⟩
    rw [decide_eq_false fun w => h w.1] at q
    exact q
def Good (me n : Int) : Prop := (2 ≤ n ∧ n ≤ 8) ∧ 0 ≤ me ∧ me < n
def spBegin (CM CS : Addr) : Sp := fun vs H Q _ => ∃ (d : Addr) (k : Nat) (me n : Int) (kvs : List (Key × V)), vs = [.ref d, nV k, .int me, .int n] ∧ H d = some (.dK kvs) ∧ kvs.length < sizeLine ∧
  (¬ Good me n → ∀ (q : Addr) (H' : Hp), H' q = some (.lst [.int (-2)]) → H q = none → Same H H' → Q (.ref q) H') ∧
  (Good me n → ∀ (q p l se : Addr) (H' : Hp), H' q = some (.lst [.int 0]) → H q = none → H' d = some (.dK (putK kvs (Sum.inl (k : Int)) (.ref p))) → Mem CM CS H' p l se (Sv34.fresh me.toNat n.toNat) → H p = none → H l = none → H se = none → Keeps [d] H H' → Q (.ref q) H')
theorem cut3 (c0 c1 c2 : Int) (r : List Int) : cutV ((c0 :: c1 :: c2 :: r).map V.int) (some 3) none = r.map V.int := by
  unfold cutV
  have e : HT.sIx ((c0 :: c1 :: c2 :: r).map V.int).length 0 (some 3) = 3 := by
    rw [show (3 : Int) = ((3 : Nat) : Int) from rfl, HT.sIx_nat, List.length_map]
    show min 3 (r.length + 1 + 1 + 1) = 3
    omega
  rw [e, HT.sIx_none]
  show ((r.map V.int).take _) = _
  rw [List.take_of_length_le]
  rw [List.length_map, List.length_map]
  show r.length ≤ r.length + 1 + 1 + 1 - 3
  omega
section
variable {P : Program} {w : World} {K : PySem.W.Frag} {mg : Str → Option Value} {base : Heap} {CM CS : Addr}
/-! ### ask_member -/
theorem scAsk : FnScope ["member", "call", "number"] ["member", "call"] (defScope sAsk) := ⟨rfl, rfl, rfl, by decide +kernel, rfl, by decide +kernel, by decide +kernel⟩
theorem ok_ask {f f1 f2 f3 f4 f5 f6 f7 : Addr} {fd fd1 fd2 fd3 fd4 fd5 fd6 fd7 : FuncData} (F : Fun K "ask_member" "ask_member" sAsk f fd) (T : Txt K mg CM CS)
    (G1 : FnOk P w K mg base CX0 1 f1 fd1 ["self", "what", "key", "v", "w"] (spDo CM CS)) (b1 : Binds K fd1 ["self", "what", "key", "v", "w"] []) (m1 : Meth K CM "do" f1)
    (G2 : FnOk P w K mg base CX0 3 f2 fd2 ["self"] (spShowR CM CS)) (b2 : Binds K fd2 ["self"] []) (m2 : Meth K CM "show_record" f2)
    (G3 : FnOk P w K mg base CX0 3 f3 fd3 ["self"] (spWrote CM CS)) (b3 : Binds K fd3 ["self"] []) (m3 : Meth K CM "wrote" f3)
    (G4 : FnOk P w K mg base CX0 4 f4 fd4 ["self", "row"] (spGot CM CS)) (b4 : Binds K fd4 ["self", "row"] []) (m4 : Meth K CM "got" f4)
    (G5 : FnOk P w K mg base CX0 1 f5 fd5 ["self"] (spShowP CM CS)) (b5 : Binds K fd5 ["self"] []) (m5 : Meth K CM "show_place" f5)
    (G6 : FnOk P w K mg base CX0 1 f6 fd6 ["self"] (spShowA CM CS)) (b6 : Binds K fd6 ["self"] []) (m6 : Meth K CM "show_answer" f6)
    (G7 : FnOk P w K mg base CX0 2 f7 fd7 ["self", "key"] (spShowV CM CS)) (b7 : Binds K fd7 ["self", "key"] []) (m7 : Meth K CM "show_value" f7) :
    FnOk P w K mg base CX0 5 f fd ["member", "call"] (spAsk CM CS) := by
  refine F.ok scAsk (fun vs H Q E h => ?_) (fun cdv A outer s H vs Q E hr h => ?_)
  · obtain ⟨p, l, se, a, x, c, k, call, rfl, _⟩ := h
    rfl
  · obtain ⟨p, l, se, a, x, c, k, call, rfl, ha, L, nb, M, hf, kk⟩ := h
    obtain ⟨sa, ov, cv, R, m⟩ := id M
    obtain ⟨dx, hp⟩ := R.ob
    have hr1 : Room 1 _ := hr.mono (by decide)
    have hr2 : Room 2 _ := hr.mono (by decide)
    have hr3 : Room 3 _ := hr.mono (by decide)
    refine ⟨_, pss_cons (ps_set (i := 2) scAsk.nd rfl (Or.inl rfl) (pe_ix ix_list (pv 1) pe_int (fun _ _ => rfl)))
      (pss_cons (ps_if (pt_cmpR op_eq (pv 2) (pgi rfl T.do_) (nomark _)) (pss_one (ps_ret (pe_meth (pv 0) T.clM m1 G1 hr1 b1 .nil pass0
        (pa_cons (pe_ix ix_list (pv 1) pe_int (fun _ _ => rfl)) (pa_cons (pe_ix ix_list (pv 1) pe_int (fun _ _ => rfl)) (pa_cons (pe_ix ix_list (pv 1) pe_int (fun _ _ => rfl)) (pa_cons (pe_ix ix_list (pv 1) pe_int (fun _ _ => rfl)) pa_nil))))))) pss_nil)
      (pss_cons (ps_if (pt_cmpR op_eq (pv 2) (pgi rfl T.record) (nomark _)) (pss_one (ps_ret (pe_meth0 (pv 0) T.clM m2 G2 hr3 b2 .nil pass0))) pss_nil)
      (pss_cons (ps_if (pt_cmpR op_eq (pv 2) (pgi rfl T.wrote) (nomark _)) (pss_one (ps_ret (pe_meth0 (pv 0) T.clM m3 G3 hr3 b3 .nil pass0))) pss_nil)
      (pss_cons (ps_if (pt_cmpR op_eq (pv 2) (pgi rfl T.got) (nomark _)) (pss_one (ps_ret (pe_meth (pv 0) T.clM m4 G4 hr b4 .nil pass0 (pa_cons (pe_slice (r := rSlL K) sl_list (pv 1) (po_some pe_int) po_none) pa_nil)))) pss_nil)
      (pss_cons (ps_if (pt_cmpR op_eq (pv 2) (pgi rfl T.place) (nomark _)) (pss_one (ps_ret (pe_meth0 (pv 0) T.clM m5 G5 hr1 b5 .nil pass0))) pss_nil)
      (pss_cons (ps_if (pt_cmpR op_eq (pv 2) (pgi rfl T.answer) (nomark _)) (pss_one (ps_ret (pe_meth0 (pv 0) T.clM m6 G6 hr1 b6 .nil pass0))) pss_nil)
      (pss_one (ps_ret (pe_meth (pv 0) T.clM m7 G7 hr2 b7 .nil pass0 (pa_cons (pe_ix ix_list (pv 1) pe_int (fun _ _ => rfl)) pa_nil)))))))))), ?_⟩
    have ne : ∀ {i j : Int}, ¬ i = j → ¬ V.int i = V.int j := fun h e => h (V.int.inj e)
    cases L with
    | begin_ k me n => cases nb
    | do_ k what key v w hv hw =>
      refine ⟨_, rfl, a, _, _, _, rfl, rfl, SqL.of ha, at_of (j := 0) rfl rfl, ?_⟩
      refine ⟨_, rfl, rfl, _, rfl, ?_⟩
      refine iteY rfl ?_
      refine ⟨_, rfl, p, dx, _, rfl, hp, mf_no (by decide +kernel), _, rfl, a, _, _, _, rfl, rfl, SqL.of ha, at_of (j := 2) rfl rfl, _, rfl, a, _, _, _, rfl, rfl, SqL.of ha, at_of (j := 3) rfl rfl, _, rfl, a, _, _, _, rfl, rfl, SqL.of ha, at_of (j := 4) rfl rfl, _, rfl, a, _, _, _, rfl, rfl, SqL.of ha, at_of (j := 5) rfl rfl, ?_⟩
      exact ⟨p, l, se, x, what, key, v, w, rfl, M, kk⟩
    | record k =>
      refine ⟨_, rfl, a, _, _, _, rfl, rfl, SqL.of ha, at_of (j := 0) rfl rfl, ?_⟩
      refine ⟨_, rfl, rfl, _, rfl, ?_⟩
      refine iteN (ne (by decide)) ?_
      refine ⟨_, rfl, rfl, _, rfl, ?_⟩
      refine iteY rfl ?_
      exact ⟨_, rfl, p, dx, _, rfl, hp, mf_no (by decide +kernel), p, l, se, x, rfl, M, kk⟩
    | wrote k =>
      refine ⟨_, rfl, a, _, _, _, rfl, rfl, SqL.of ha, at_of (j := 0) rfl rfl, ?_⟩
      refine ⟨_, rfl, rfl, _, rfl, ?_⟩
      refine iteN (ne (by decide)) ?_
      refine ⟨_, rfl, rfl, _, rfl, ?_⟩
      refine iteN (ne (by decide)) ?_
      refine ⟨_, rfl, rfl, _, rfl, ?_⟩
      refine iteY rfl ?_
      exact ⟨_, rfl, p, dx, _, rfl, hp, mf_no (by decide +kernel), p, l, se, x, rfl, M, hf, kk⟩
    | got k b hl hb =>
      refine ⟨_, rfl, a, _, _, _, rfl, rfl, SqL.of ha, at_of (j := 0) rfl rfl, ?_⟩
      refine ⟨_, rfl, rfl, _, rfl, ?_⟩
      refine iteN (ne (by decide)) ?_
      refine ⟨_, rfl, rfl, _, rfl, ?_⟩
      refine iteN (ne (by decide)) ?_
      refine ⟨_, rfl, rfl, _, rfl, ?_⟩
      refine iteN (ne (by decide)) ?_
      refine ⟨_, rfl, rfl, _, rfl, ?_⟩
      refine iteY rfl ?_
      refine ⟨_, rfl, p, dx, _, rfl, hp, mf_no (by decide +kernel), _, rfl, _, rfl, a, _, rfl, SqL.of ha, fun q hq => ?_⟩
      have ec : cutV (([4, (k : Int), 40] ++ Sv34Neutral.ints b).map V.int) (some 3) none = b.map nV := (cut3 4 (k : Int) 40 (Sv34Neutral.ints b)).trans (ints_nV b)
      rw [ec]
      have s1 : Same H (upd H q (.lst (b.map nV))) := same_new hq
      exact ⟨p, l, se, q, x, b, rfl, M.same s1, hf, upd_same, hl, hb, kk.up s1⟩
    | place k =>
      refine ⟨_, rfl, a, _, _, _, rfl, rfl, SqL.of ha, at_of (j := 0) rfl rfl, ?_⟩
      refine ⟨_, rfl, rfl, _, rfl, ?_⟩
      refine iteN (ne (by decide)) ?_
      refine ⟨_, rfl, rfl, _, rfl, ?_⟩
      refine iteN (ne (by decide)) ?_
      refine ⟨_, rfl, rfl, _, rfl, ?_⟩
      refine iteN (ne (by decide)) ?_
      refine ⟨_, rfl, rfl, _, rfl, ?_⟩
      refine iteN (ne (by decide)) ?_
      refine ⟨_, rfl, rfl, _, rfl, ?_⟩
      refine iteY rfl ?_
      exact ⟨_, rfl, p, dx, _, rfl, hp, mf_no (by decide +kernel), p, l, se, x, rfl, M, kk⟩
    | answer k =>
      refine ⟨_, rfl, a, _, _, _, rfl, rfl, SqL.of ha, at_of (j := 0) rfl rfl, ?_⟩
      refine ⟨_, rfl, rfl, _, rfl, ?_⟩
      refine iteN (ne (by decide)) ?_
      refine ⟨_, rfl, rfl, _, rfl, ?_⟩
      refine iteN (ne (by decide)) ?_
      refine ⟨_, rfl, rfl, _, rfl, ?_⟩
      refine iteN (ne (by decide)) ?_
      refine ⟨_, rfl, rfl, _, rfl, ?_⟩
      refine iteN (ne (by decide)) ?_
      refine ⟨_, rfl, rfl, _, rfl, ?_⟩
      refine iteN (ne (by decide)) ?_
      refine ⟨_, rfl, rfl, _, rfl, ?_⟩
      refine iteY rfl ?_
      exact ⟨_, rfl, p, dx, _, rfl, hp, mf_no (by decide +kernel), p, l, se, x, rfl, M, kk⟩
    | value k key =>
      refine ⟨_, rfl, a, _, _, _, rfl, rfl, SqL.of ha, at_of (j := 0) rfl rfl, ?_⟩
      refine ⟨_, rfl, rfl, _, rfl, ?_⟩
      refine iteN (ne (by decide)) ?_
      refine ⟨_, rfl, rfl, _, rfl, ?_⟩
      refine iteN (ne (by decide)) ?_
      refine ⟨_, rfl, rfl, _, rfl, ?_⟩
      refine iteN (ne (by decide)) ?_
      refine ⟨_, rfl, rfl, _, rfl, ?_⟩
      refine iteN (ne (by decide)) ?_
      refine ⟨_, rfl, rfl, _, rfl, ?_⟩
      refine iteN (ne (by decide)) ?_
      refine ⟨_, rfl, rfl, _, rfl, ?_⟩
      refine iteN (ne (by decide)) ?_
      exact ⟨_, rfl, p, dx, _, rfl, hp, mf_no (by decide +kernel), _, rfl, a, _, _, _, rfl, rfl, SqL.of ha, at_of (j := 2) rfl rfl, p, l, se, x, key, rfl, M, hf, kk⟩
/-! ### begin -/
theorem scBegin : FnScope ["members", "which", "me", "n"] ["members", "which", "me", "n"] (defScope sBegin) := ⟨rfl, rfl, rfl, by decide +kernel, rfl, by decide +kernel, by decide +kernel⟩
theorem ok_begin {f fI : Addr} {fd fdI : FuncData} (F : Fun K "begin" "begin" sBegin f fd) (T : Txt K mg CM CS) (MM : Mk K CM fI) (GI' : FnOk P w K mg base CX0 3 fI fdI ["self", "me", "n"] (spMI CM CS)) (bI : Binds K fdI ["self", "me", "n"] []) :
    FnOk P w K mg base CX0 5 f fd ["members", "which", "me", "n"] (spBegin CM CS) := by
  refine F.ok scBegin (fun vs H Q E h => ?_) (fun cdv A outer s H vs Q E hr h => ?_)
  · obtain ⟨d, k, me, n, kvs, rfl, _⟩ := h
    rfl
  · obtain ⟨d, k, me, n, kvs, rfl, hd, hlen, kbad, kgood⟩ := h
    have hu := hu_of hr
    refine ⟨_, pss_cons (ps_if (pt_not (PW.pt (pw_and (pt_chain op_le op_le (pgi rfl T.least) (pv 3) (pgi rfl T.most)) (pw_and1 (pt_chain op_le op_lt pe_int (pv 2) (pv 3)))))) (pss_one (ps_ret (pe_lst (pa_cons (pgi rfl T.wrong) pa_nil)))) pss_nil)
      (pss_cons (ps_dput hu (pv 0) (pv 1) (pe_make MM GI' hr rfl T.mgM bI .nil pass0 (pa_cons (pv 2) (pa_cons (pv 3) pa_nil))) rfl)
      (pss_one (ps_ret (pe_lst (pa_cons (pgi rfl T.done) pa_nil))))), ?_⟩
    have bad : ¬ Good me n → ([V.int (-2)] : List V).length ≤ sizeLine ∧ ∀ q, H q = none → Q (.ref q) (upd H q (.lst [.int (-2)])) := fun h =>
      ⟨(by show 1 ≤ sizeLine; decide), fun q hq => kbad h q _ upd_same hq (same_new hq)⟩
    refine betweenLe (i := 3) rfl ?_
    refine ite2' (fun h1 => ?_) (fun h1 => ?_)
    case _ =>
      refine betweenV (i := 2) (j := 3) rfl rfl ?_
      refine iteB' (fun h2 => ?_) (fun h2 => ?_)
      · exact bad fun z => h2 z.2
      · obtain ⟨a, rfl⟩ := Int.eq_ofNat_of_zero_le h2.1
        obtain ⟨b, rfl⟩ := Int.eq_ofNat_of_zero_le (show 0 ≤ n by omega)
        refine ⟨_, rfl, _, rfl, fun p dx np ndx nex => ?_⟩
        have s0 : Same H (upd (upd H dx (.own p)) p (.ins CM dx [])) := fun b o e => by
          rw [upd_ne (ne_of_none e np), upd_ne (ne_of_none e ndx)]
          exact e
        refine ⟨p, dx, a, b, rfl, upd_same, by omega, fun l se H1 M1 hl hse k1 => ⟨rfl, ?_⟩⟩
        have k0 : Same H H1 := fun c o e => k1 c o (s0 c o e) (by simpa using ne_of_none e np)
        have hd1 := k0 _ _ hd
        refine ⟨_, rfl, _, rfl, d, _, rfl, DPut.k (k := Sum.inl (k : Int)) hd1 hlen, ?_⟩
        refine ⟨(by show 1 ≤ sizeLine; decide), fun q hq => ?_⟩
        have k2 : Keeps [d] H1 (upd H1 d (.dK (putK kvs (Sum.inl (k : Int)) (.ref p)))) := keeps_upd (by simp)
        have nd : ∀ b o, H1 b = some o → (∀ xs, o ≠ .dK xs) → upd H1 d (.dK (putK kvs (Sum.inl (k : Int)) (.ref p))) b = some o := fun b o e h => k2 b o e (by
          intro z
          have z : b = d := by simpa using z
          rw [z, hd1] at e
          exact h _ (Option.some.inj e).symm)
        have M2 : Mem CM CS (upd H1 d (.dK (putK kvs (Sum.inl (k : Int)) (.ref p)))) p l se (Sv34.fresh a b) := by
          obtain ⟨sa, ov, cv, ⟨⟨dx1, z1⟩, ⟨⟨ds1, z2⟩, z3⟩, z4, z5⟩, m⟩ := M1
          exact ⟨sa, ov, cv, ⟨⟨dx1, nd _ _ z1 (fun _ z => by cases z)⟩, ⟨⟨ds1, nd _ _ z2 (fun _ z => by cases z)⟩, nd _ _ z3 (fun _ z => by cases z)⟩, nd _ _ z4 (fun _ z => by cases z), z5⟩, trivial⟩
        have hd2 : upd H1 d (.dK (putK kvs (Sum.inl (k : Int)) (.ref p))) d = some (.dK (putK kvs (Sum.inl (k : Int)) (.ref p))) := upd_same
        have th : ∀ b, b ∈ [d] → ∃ o, upd H1 d (.dK (putK kvs (Sum.inl (k : Int)) (.ref p))) b = some o := fun b hb => by
          have e : b = d := by simpa using hb
          exact ⟨_, by rw [e]; exact hd2⟩
        have k3 : Keeps [d] H (upd H1 d (.dK (putK kvs (Sum.inl (k : Int)) (.ref p)))) := (Same.keeps k0 _).trans k2
        have s3 := same_new (o := HO.lst [V.int 0]) hq
        exact kgood ⟨h1, h2⟩ q p l se _ upd_same (new_of k3 th hq) (s3 _ _ hd2) (M2.same s3) np (s0.free hl) (s0.free hse) (k3.trans (Same.keeps s3 _))
    case _ =>
      refine iteT ?_
      exact bad fun z => h1 z.1
end
end Nw
end
section
set_option Elab.async false
set_option linter.all false
set_option maxRecDepth 100000
set_option maxHeartbeats 4000000
namespace Nw
open PySem L2
open Sv34 (Record Process Mode)
open Sv34Neutral (S)
/-- the dict at d holds the Members of the objects s, none of which is written where G says no -/
structure World (CM CS : Addr) (G : Addr → Prop) (H : Hp) (d : Addr) (s : S) (kvs : List (Key × V)) (A B C : Nat → Addr) : Prop where
  dict : H d = some (.dK kvs)
  nG : ¬ G d
  at_ : ∀ k x, s.getD k none = some x → valV kvs (Sum.inl (k : Int)) = some (.ref (A k)) ∧ Mem CM CS H (A k) (B k) (C k) x ∧ ∀ b, b ∈ [A k, B k, C k] → ¬ G b
  apart : ∀ j k x y, j ≠ k → s.getD j none = some x → s.getD k none = some y → ∀ b, b ∈ [A j, B j, C j] → ¬ b ∈ [A k, B k, C k]
section
variable {CM CS : Addr} {G : Addr → Prop} {H H' : Hp} {d : Addr} {s : S} {kvs : List (Key × V)} {A B C : Nat → Addr}
theorem Mem.kinds {p l se : Addr} {x : Process} (M : Mem CM CS H p l se x) : ∀ b, b ∈ [p, l, se] → ∀ xs, H b ≠ some (.dK xs) := by
  obtain ⟨sa, ov, cv, ⟨⟨dx, h1⟩, ⟨_, h2⟩, h3, _⟩, m⟩ := M
  intro b hb xs e
  simp only [List.mem_cons, List.not_mem_nil, or_false] at hb
  rcases hb with rfl | rfl | rfl
  · rw [h1] at e; cases e
  · rw [h2] at e; cases e
  · rw [h3] at e; cases e
theorem World.same (W : World CM CS G H d s kvs A B C) (k : Same H H') : World CM CS G H' d s kvs A B C :=
  ⟨k _ _ W.dict, W.nG, fun j x h => let ⟨a, b, c⟩ := W.at_ j x h; ⟨a, b.same k, c⟩, W.apart⟩
/-- behind a call of the Member k -/
theorem World.next (W : World CM CS G H d s kvs A B C) {k : Nat} {x y : Process} (hl : k < s.length) (hk : s.getD k none = some x) (M : Mem CM CS H' (A k) (B k) (C k) y) (kp : Keeps [A k, B k, C k] H H') : World CM CS G H' d (s.set k (some y)) kvs A B C := by
  obtain ⟨v, Mk, ng⟩ := W.at_ k x hk
  have back : ∀ j z, (s.set k (some y)).getD j none = some z → ∃ z', s.getD j none = some z' := fun j z h => by
    rw [getD_set hl] at h
    split at h
    · rename_i e; rw [e]; exact ⟨x, hk⟩
    · exact ⟨z, h⟩
  refine ⟨kp _ _ W.dict fun m => Mk.kinds d m _ W.dict, W.nG, fun j z h => ?_, fun i j z z' hij hi hj => ?_⟩
  · rw [getD_set hl] at h
    split at h
    · rename_i e
      subst e
      cases h
      exact ⟨v, M, ng⟩
    · rename_i e
      obtain ⟨a, b, c⟩ := W.at_ j z h
      exact ⟨a, b.apart Mk kp (W.apart j k z x e h hk), c⟩
  · obtain ⟨z1, h1⟩ := back i z hi
    obtain ⟨z2, h2⟩ := back j z' hj
    exact W.apart i j z1 z2 hij h1 h2
/-- a new Member at k -/
theorem World.new (W : World CM CS G H d s kvs A B C) {k : Nat} {y : Process} {p l se : Addr} (hl : k < s.length) (hG : ∀ b, G b → H b ≠ none) (hd : H' d = some (.dK (putK kvs (Sum.inl (k : Int)) (.ref p)))) (M : Mem CM CS H' p l se y)
    (np : H p = none) (nl : H l = none) (ns : H se = none) (kp : Keeps [d] H H') :
    World CM CS G H' d (s.set k (some y)) (putK kvs (Sum.inl (k : Int)) (.ref p)) (fun j => if j = k then p else A j) (fun j => if j = k then l else B j) (fun j => if j = k then se else C j) := by
  have fr : ∀ b, b ∈ [p, l, se] → H b = none := fun b hb => by
    simp only [List.mem_cons, List.not_mem_nil, or_false] at hb
    rcases hb with rfl | rfl | rfl
    · exact np
    · exact nl
    · exact ns
  have old : ∀ j x, s.getD j none = some x → Mem CM CS H' (A j) (B j) (C j) x := fun j x h => by
    obtain ⟨_, Mj, _⟩ := W.at_ j x h
    have nd : ∀ b o, H b = some o → (∀ xs, o ≠ .dK xs) → H' b = some o := fun b o e h => kp b o e (by
      intro z
      have z : b = d := by simpa using z
      rw [z, W.dict] at e
      exact h _ (Option.some.inj e).symm)
    obtain ⟨sa, ov, cv, ⟨⟨dx1, z1⟩, ⟨⟨ds1, z2⟩, z3⟩, z4, z5⟩, m⟩ := Mj
    refine ⟨sa, ov, cv, ⟨⟨dx1, nd _ _ z1 (fun _ z => by cases z)⟩, ⟨⟨ds1, nd _ _ z2 (fun _ z => by cases z)⟩, nd _ _ z3 (fun _ z => by cases z)⟩, nd _ _ z4 (fun _ z => by cases z), z5⟩, m.keep kp fun b hb xs e => ?_⟩
    have hb : b = d := by simpa using hb
    rw [hb, W.dict] at e
    cases e
  refine ⟨hd, W.nG, fun j x h => ?_, fun i j x z hij hi hj => ?_⟩
  · rw [getD_set hl] at h
    by_cases e : j = k
    · subst e
      rw [if_pos rfl] at h
      cases h
      simp only [if_pos]
      refine ⟨by rw [valV_put, if_pos rfl], M, fun b hb g => hG b g (fr b hb)⟩
    · rw [if_neg e] at h
      simp only [if_neg e]
      obtain ⟨v, _, g⟩ := W.at_ j x h
      refine ⟨?_, old j x h, g⟩
      have ne : ¬ ((Sum.inl (j : Int) : Key) = Sum.inl (k : Int)) := fun z => e (Int.ofNat.inj (Sum.inl.inj z))
      rw [valV_put, if_neg ne]
      exact v
  · rw [getD_set hl] at hi hj
    by_cases ei : i = k
    · have ej : ¬ j = k := fun e => hij (ei.trans e.symm)
      rw [if_neg ej] at hj
      simp only [if_pos ei, if_neg ej]
      intro b hb hc
      obtain ⟨_, Mj, _⟩ := W.at_ j z hj
      obtain ⟨o, ho⟩ := Mj.there b hc
      rw [fr b hb] at ho
      cases ho
    · rw [if_neg ei] at hi
      by_cases ej : j = k
      · simp only [if_neg ei, if_pos ej]
        intro b hb hc
        obtain ⟨_, Mi, _⟩ := W.at_ i x hi
        obtain ⟨o, ho⟩ := Mi.there b hb
        rw [fr b hc] at ho
        cases ho
      · rw [if_neg ej] at hj
        simp only [if_neg ei, if_neg ej]
        exact W.apart i j x z hij hi hj
/-- a list that no Member has is written -/
theorem World.write (W : World CM CS G H d s kvs A B C) {o : Addr} {xs ys : List V} (g : G o) (ho : H o = some (.lst xs)) : World CM CS G (upd H o (.lst ys)) d s kvs A B C := by
  have kp : Keeps [o] H (upd H o (.lst ys)) := keeps_upd (by simp)
  refine ⟨by rw [upd_ne (fun e => W.nG (by rw [e]; exact g))]; exact W.dict, W.nG, fun j x h => ?_, W.apart⟩
  obtain ⟨v, ⟨sa, ov, cv, R, m⟩, c⟩ := W.at_ j x h
  refine ⟨v, ⟨sa, ov, cv, R.keep kp fun b hb hm => ?_, m.keep kp fun b hb xs e => ?_⟩, c⟩
  · have hm : b = o := by simpa using hm
    simp only [List.mem_cons, List.not_mem_nil, or_false] at hb
    rcases hb with e | e | e | e
    · exact c b (by rw [e]; simp) (by rw [hm]; exact g)
    · obtain ⟨_, ⟨⟨ds, z⟩, _⟩, _, _⟩ := R
      rw [← e, hm, ho] at z
      cases z
    · exact c b (by rw [e]; simp) (by rw [hm]; exact g)
    · exact c b (by rw [e]; simp) (by rw [hm]; exact g)
  · have hb : b = o := by simpa using hb
    rw [hb, ho] at e
    cases e
end
def spCall (CM CS : Addr) : Sp := fun vs H Q _ => ∃ (G : Addr → Prop) (d a : Addr) (c : List Int) (k : Nat) (call : Sv34.Call) (s : S) (kvs : List (Key × V)) (A B C : Nat → Addr), vs = [.ref d, .ref a] ∧ H a = some (.lst (c.map V.int)) ∧ Laid c k call ∧ k < 8 ∧
  (isBegin call = true ∨ (s.getD k none).isSome = true) ∧ SFine s ∧ World CM CS G H d s kvs A B C ∧ kvs.length < sizeLine ∧ (∀ b, G b → H b ≠ none) ∧
  ∀ (q : Addr) (H' : Hp) (kvs' : List (Key × V)) (A' B' C' : Nat → Addr), World CM CS G H' d (s.set k (Sv34.does (s.getD k none) call).1) kvs' A' B' C' → kvs'.length ≤ kvs.length + 1 →
    H' q = some (.lst ((ans (Sv34.does (s.getD k none) call).2).map V.int)) → H q = none → (∀ b o, G b → H b = some o → H' b = some o) → Q (.ref q) H'
def spAns (K : PySem.W.Frag) : Sp := fun vs H Q _ => ∃ (a : Addr) (ns : List Int), vs = [.ref a] ∧ SqL K H a (ns.map V.int) ∧ ns.length ≤ 16000 ∧ PySv34.answers_asked ns = true ∧ ∀ (H' : Hp) (p : Addr), H' p = some (.lst ((PySv34.answers ns).map V.int)) → Q (.ref p) H'
theorem set_self {s : S} {k : Nat} {o : Sv34.Abs} (h : s.getD k none = o) (hl : k < s.length) : s.set k o = s := by
  have e : s[k] = o := by
    rw [List.getD_eq_getElem?_getD, List.getElem?_eq_getElem hl] at h
    exact h
  rw [← e]
  exact List.set_getElem_self hl
theorem does_good {s : Sv34.Abs} {me n : Int} (h : Good me n) : Sv34.does s (.begin_ me n) = (some (Sv34.fresh me.toNat n.toNat), Sv34.ok 0) := by
  unfold Sv34.does
  dsimp only
  rw [if_pos ⟨within_iff.mpr h.1, h.2⟩]
theorem does_bad {s : Sv34.Abs} {me n : Int} (h : ¬ Good me n) : Sv34.does s (.begin_ me n) = (s, Sv34.ok (-2)) := by
  unfold Sv34.does
  dsimp only
  rw [if_neg fun z => h ⟨within_iff.mp z.1, z.2⟩]
section
variable {P : Program} {w : PySem.World} {K : PySem.W.Frag} {mg : Str → Option Value} {base : Heap} {CM CS : Addr}
/-! ### answer_call -/
theorem scCall : FnScope ["members", "call", "which"] ["members", "call"] (defScope sCall) := ⟨rfl, rfl, rfl, by decide +kernel, rfl, by decide +kernel, by decide +kernel⟩
theorem ok_call {f f1 f2 : Addr} {fd fd1 fd2 : FuncData} (F : Fun K "answer_call" "answer_call" sCall f fd) (T : Txt K mg CM CS)
    (G1 : FnOk P w K mg base CX0 5 f1 fd1 ["members", "which", "me", "n"] (spBegin CM CS)) (b1 : Binds K fd1 ["members", "which", "me", "n"] []) (g1 : mg "begin" = some (.ref f1)) (k1 : PySem.W.keepIn K (.ref f1) = true)
    (G2 : FnOk P w K mg base CX0 5 f2 fd2 ["member", "call"] (spAsk CM CS)) (b2 : Binds K fd2 ["member", "call"] []) (g2 : mg "ask_member" = some (.ref f2)) (k2 : PySem.W.keepIn K (.ref f2) = true) :
    FnOk P w K mg base CX0 6 f fd ["members", "call"] (spCall CM CS) := by
  refine F.ok scCall (fun vs H Q E h => ?_) (fun cdv Ar outer s H vs Q E hr h => ?_)
  · obtain ⟨G, d, a, c, k, call, s, kvs, A, B, C, rfl, _⟩ := h
    rfl
  · obtain ⟨G, d, a, c, k, call, s, kvs, A, B, C, rfl, ha, L, hk, hb, hS, hW, hlen, hG, kk⟩ := h
    have hu := hu_of hr
    refine ⟨_, pss_cons (ps_set (i := 2) scCall.nd rfl (Or.inl rfl) (pe_ix ix_list (pv 1) pe_int (fun _ _ => rfl)))
      (pss_cons (ps_if (pt_cmpR op_eq (pe_ix ix_list (pv 1) pe_int (fun _ _ => rfl)) (pgi rfl T.begin_) (nomark _))
        (pss_one (ps_ret (pe_call G1 hr rfl g1 k1 b1 .nil pass0 (pa_cons (pv 0) (pa_cons (pv 2) (pa_cons (pe_ix ix_list (pv 1) pe_int (fun _ _ => rfl)) (pa_cons (pe_ix ix_list (pv 1) pe_int (fun _ _ => rfl)) pa_nil))))))) pss_nil)
      (pss_one (ps_ret (pe_call G2 hr rfl g2 k2 b2 .nil pass0 (pa_cons (pe_dget hu (pv 0) (pv 2) (fun _ _ => rfl)) (pa_cons (pv 1) pa_nil)))))), ?_⟩
    have hl : k < s.length := by rw [hS.len]; exact hk
    cases hbg : isBegin call with
    | true =>
      cases L with
      | begin_ k me n =>
        refine ⟨_, rfl, a, _, _, _, rfl, rfl, SqL.of ha, at_of (j := 1) rfl rfl, ?_⟩
        refine ⟨_, rfl, a, _, _, _, rfl, rfl, SqL.of ha, at_of (j := 0) rfl rfl, rfl, _, rfl, ?_⟩
        refine iteY rfl ?_
        refine ⟨_, rfl, _, rfl, _, rfl, a, _, _, _, rfl, rfl, SqL.of ha, at_of (j := 2) rfl rfl, _, rfl, a, _, _, _, rfl, rfl, SqL.of ha, at_of (j := 3) rfl rfl, ?_⟩
        refine ⟨d, k, me, n, kvs, rfl, hW.dict, hlen, fun hbad q H' hq hqn hs => ?_, fun hgood q p l se H' hq hqn hd M np nl ns kp => ?_⟩
        · refine kk q H' kvs A B C ?_ (Nat.le_succ _) ?_ hqn (fun b o _ e => hs b o e)
          · rw [does_bad hbad, set_self rfl hl]
            exact hW.same hs
          · rw [does_bad hbad, hq]
            rfl
        · refine kk q H' (putK kvs (Sum.inl (k : Int)) (.ref p)) (fun j => if j = k then p else A j) (fun j => if j = k then l else B j) (fun j => if j = k then se else C j) ?_ (length_putK ..) ?_ hqn (fun b o g e => kp b o e ?_)
          · rw [does_good hgood]
            exact hW.new hl hG hd M np nl ns kp
          · rw [does_good hgood, hq]
            rfl
          · intro z
            have z : b = d := by simpa using z
            exact hW.nG (by rw [← z]; exact g)
      | _ => cases hbg
    | false =>
      have hsome : (s.getD k none).isSome = true := by
        rcases hb with hb | hb
        · rw [hb] at hbg; cases hbg
        · exact hb
      obtain ⟨x, hx⟩ := Option.isSome_iff_exists.mp hsome
      obtain ⟨v, M, ng⟩ := hW.at_ k x hx
      obtain ⟨c0, hc0, c1⟩ : ∃ c0 : Int, c[0]? = some c0 ∧ ¬ c0 = 0 := by
        cases L with
        | begin_ _ _ _ => cases hbg
        | _ => exact ⟨_, rfl, by decide⟩
      have hk1 : c[1]? = some (k : Int) := by
        cases L <;> rfl
      have at0 : atI (c.map V.int) 0 = some (V.int c0) := at_of (j := 0) rfl (by rw [List.getElem?_map, hc0]; rfl)
      have at1 : atI (c.map V.int) 1 = some (nV k) := at_of (j := 1) rfl (by rw [List.getElem?_map, hk1]; rfl)
      refine ⟨_, rfl, a, _, _, _, rfl, rfl, SqL.of ha, at1, ?_⟩
      refine ⟨_, rfl, a, _, _, _, rfl, rfl, SqL.of ha, at0, rfl, _, rfl, ?_⟩
      refine iteN (fun e => c1 (V.int.inj e)) ?_
      refine ⟨_, rfl, _, rfl, d, .ref (A k), rfl, (by rw [← v]; exact DGet.k (k := Sum.inl (k : Int)) hW.dict), _, rfl, ?_⟩
      refine ⟨A k, B k, C k, a, x, c, k, call, rfl, ha, L, hbg, M, hS.fine k x hx, fun q H' hy hq hqn kp => ?_⟩
      obtain ⟨y, ey, My⟩ := hy
      have e : Sv34.does (s.getD k none) call = Sv34.on x call := by rw [hx, does_on hbg]
      rw [e] at kk
      refine kk q H' kvs A B C ?_ (Nat.le_succ _) hq hqn (fun b o g e => kp b o e fun m => ng b m g)
      rw [ey]
      exact hW.next hl hx My kp
end
end Nw
end
section
set_option Elab.async false
set_option linter.all false
set_option maxRecDepth 100000
set_option maxHeartbeats 4000000
namespace Nw
open PySem L2
open Sv34 (Record Process Mode)
open Sv34Neutral (S)
abbrev lensV : List V := [.int 4, .int 6, .int 2, .int 2, .int 43, .int 2, .int 2, .int 3]
theorem laid_head {c : List Int} {k : Nat} {x : Sv34.Call} (L : Laid c k x) : ∃ j : Nat, c[0]? = some (j : Int) ∧ lensV[j]? = some (.int (c.length : Int)) := by
  cases L with
  | begin_ k me n => exact ⟨0, rfl, rfl⟩
  | do_ k what key v w _ _ => exact ⟨1, rfl, rfl⟩
  | record k => exact ⟨2, rfl, rfl⟩
  | wrote k => exact ⟨3, rfl, rfl⟩
  | got k b hl _ =>
    refine ⟨4, rfl, ?_⟩
    have e : (([4, (k : Int), 40] ++ Sv34Neutral.ints b).length : Int) = 43 := by
      rw [List.length_append, ints_len, hl]
      rfl
    rw [e]
    rfl
  | place k => exact ⟨5, rfl, rfl⟩
  | answer k => exact ⟨6, rfl, rfl⟩
  | value k key => exact ⟨7, rfl, rfl⟩
theorem cut_call {ns c r : List Int} {i : Nat} (h : ns.drop i = c ++ r) (hi : i ≤ ns.length) : cutV (ns.map V.int) (some (i : Int)) (some ((i : Int) + (c.length : Int))) = c.map V.int := by
  have hl : i + c.length ≤ ns.length := by
    have e := congrArg List.length h
    rw [List.length_drop, List.length_append] at e
    omega
  unfold cutV
  have e2 : (i : Int) + (c.length : Int) = ((i + c.length : Nat) : Int) := by omega
  rw [e2, HT.sIx_nat, HT.sIx_nat, List.length_map, Nat.min_eq_left hi, Nat.min_eq_left hl, ← List.map_drop, ← List.map_take, h]
  congr 1
  rw [show i + c.length - i = c.length by omega, List.take_left]
theorem due_nil {s : S} {l out : List Int} (D : Due s l out) (h : l = []) : out = [] := by
  cases D with
  | nil => rfl
  | cons L _ _ _ =>
    have z := congrArg List.length h
    have := laid_len L
    rw [List.length_append] at z
    have : ([] : List Int).length = 0 := rfl
    omega
theorem due_cons {s : S} {l out : List Int} (D : Due s l out) (h : ¬ l = []) : ∃ (c : List Int) (k : Nat) (x : Sv34.Call) (r o : List Int), l = c ++ r ∧ Laid c k x ∧ k < 8 ∧ (isBegin x = true ∨ (s.getD k none).isSome = true) ∧
    Due (s.set k (Sv34.does (s.getD k none) x).1) r o ∧ out = ((ans (Sv34.does (s.getD k none) x).2).length : Int) :: (ans (Sv34.does (s.getD k none) x).2 ++ o) := by
  cases D with
  | nil => exact absurd rfl h
  | @cons _ c k x r o L hk hb D' => exact ⟨c, k, x, r, o, rfl, L, hk, hb, D', rfl⟩
section
variable {P : Program} {w : PySem.World} {K : PySem.W.Frag} {mg : Str → Option Value} {base : Heap} {CM CS : Addr}
/-! ### answers -/
theorem scAns : FnScope ["calls", "members", "answered", "at", "end", "answer"] ["calls"] (defScope sAns) := ⟨rfl, rfl, rfl, by decide +kernel, rfl, by decide +kernel, by decide +kernel⟩
theorem ok_ans {f f1 : Addr} {fd fd1 : FuncData} (F : Fun K "answers" "answers" sAns f fd) (T : Txt K mg CM CS)
    (G1 : FnOk P w K mg base CX0 6 f1 fd1 ["members", "call"] (spCall CM CS)) (b1 : Binds K fd1 ["members", "call"] []) (g1 : mg "answer_call" = some (.ref f1)) (k1 : PySem.W.keepIn K (.ref f1) = true) :
    FnOk P w K mg base CX0 7 f fd ["calls"] (spAns K) := by
  refine F.ok scAns (fun vs H Q E h => ?_) (fun cdv Ar outer s H vs Q E hr h => ?_)
  · obtain ⟨a, ns, rfl, _⟩ := h
    rfl
  · obtain ⟨a, ns, rfl, hS, hlen, hask, k⟩ := h
    obtain ⟨al, gl, hal⟩ := T.lens
    refine ⟨_, pss_cons (ps_set (i := 1) scAns.nd rfl (Or.inl rfl) pe_dnewK)
      (pss_cons (ps_set (i := 2) scAns.nd rfl (Or.inl rfl) (pe_lst pa_nil))
      (pss_cons (ps_set (i := 3) scAns.nd rfl (Or.inl rfl) pe_int)
      (pss_cons (ps_while PassesOwn.never (pt_cmpR op_lt (pv 3) (pe_callB call_len_seq (by rfl) T.len PySem.boot_len (pa_cons (pv 0) pa_nil)) (nomark _))
        (pss_cons (ps_set (i := 4) scAns.nd rfl (Or.inl rfl) (pe_op op_add (pv 3) (pe_ix ix_tup (pe_glob (v := .ref al) rfl gl rfl) (pe_ix ix_list (pv 0) (pv 3) (fun _ _ => rfl)) (fun _ _ => rfl))))
        (pss_cons (ps_set (i := 5) scAns.nd rfl (Or.inl rfl) (pe_call G1 hr rfl g1 k1 b1 .nil pass0 (pa_cons (pv 1) (pa_cons (pe_slice (r := rSlL K) sl_list (pv 0) (po_some (pv 3)) (po_some (pv 4))) pa_nil))))
        (pss_cons (ps_expr (pe_bm PySem.F.plainAttrs_list PySem.F.slot_list_append PySem.F.type_list_append mt_append (pv 2) (pa_cons (pe_callB call_len_seq (by rfl) T.len PySem.boot_len (pa_cons (pv 5) pa_nil)) pa_nil)))
        (pss_cons (ps_expr (pe_bm PySem.F.plainAttrs_list PySem.F.slot_list_extend PySem.F.type_list_extend mt_extend (pv 2) (pa_cons (pv 5) pa_nil)))
        (pss_one (ps_set (i := 3) scAns.nd rfl (Or.inl rfl) (pv 4))))))))
      (pss_one (ps_ret (pv 2)))))), ?_⟩
    intro d hd
    refine ⟨Nat.zero_le _, fun out hout => ?_⟩
    have s0 : Same H (upd H d (.dK [])) := same_new hd
    have s1 : Same H (upd (upd H d (.dK [])) out (.lst [])) := s0.trans (same_new hout)
    have ndo : d ≠ out := ne_of_none (o := .dK []) upd_same hout
    have due := due_of hask
    have sz : sizeLine = 16777216 := PySem.sizeLine_eq
    refine ⟨fun m σ H' => ∃ (i : Nat) (s : S) (kvs : List (Key × V)) (A B C : Nat → Addr) (done rest : List Int) (e5 e6 : Option V), i + m = ns.length ∧ σ = [some (.ref a), some (.ref d), some (.ref out), some (nV i), e5, e6] ∧ SFine s ∧
      World CM CS (fun b => b = out ∨ H b ≠ none) H' d s kvs A B C ∧ kvs.length ≤ i ∧ H' out = some (.lst (done.map V.int)) ∧ done.length ≤ 42 * i ∧ Due s (ns.drop i) rest ∧ done ++ rest = PySv34.answers ns ∧ Same H H',
      ⟨ns.length, 0, Sv34Neutral.start, [], fun _ => 0, fun _ => 0, fun _ => 0, [], PySv34.answers ns, none, none, by omega, rfl, sfine_start, ?_, Nat.le_refl _, upd_same, Nat.le_refl _, due, rfl, s1⟩, ?_⟩
    · have none_ : ∀ k x, ¬ Sv34Neutral.start.getD k none = some x := fun k x h => by
        have : Sv34Neutral.start.getD k none = none := by
          rw [List.getD_eq_getElem?_getD]
          cases e : Sv34Neutral.start[k]? with
          | none => rfl
          | some v => exact List.eq_of_mem_replicate (List.mem_of_getElem? e : v ∈ List.replicate 8 none)
        rw [this] at h
        cases h
      refine ⟨by rw [upd_ne ndo, upd_same], fun z => ?_, fun k x h => absurd h (none_ k x), fun j k x y _ h => absurd h (none_ j x)⟩
      rcases z with z | z
      · exact ndo z
      · exact z hd
    · rintro m σ H1 ⟨i, s, kvs, A, B, C, done, rest, e5, e6, him, rfl, hF, hW, hkv, ho1, hdl, hD, hdr, hsm⟩
      have hlm : (ns.map V.int).length = ns.length := List.length_map ..
      refine ⟨_, rfl, _, rfl, a, _, rfl, .inl (hsm.seq hS), _, _, rfl, rfl, _, rfl, ?_⟩
      refine ite2' (fun hlt => ?_) (fun hlt => ?_)
      · rw [hlm] at hlt
        have hi : i < ns.length := by omega
        obtain ⟨c, k0, x, r, o, hcr, L, hk8, hb, hD', hrest⟩ := due_cons hD (by
          intro z
          have := congrArg List.length z
          rw [List.length_drop] at this
          have : ([] : List Int).length = 0 := rfl
          omega)
        obtain ⟨j, hj0, hjl⟩ := laid_head L
        have hcl := laid_len L
        have hil : i + c.length ≤ ns.length := by
          have e := congrArg List.length hcr
          rw [List.length_drop, List.length_append] at e
          omega
        have hat : ns[i]? = some (j : Int) := by
          have e : (ns.drop i)[0]? = c[0]? := by
            rw [hcr, List.getElem?_append_left (by omega)]
          rw [List.getElem?_drop, Nat.add_zero] at e
          rw [e, hj0]
        have hdrop : ns.drop (i + c.length) = r := by
          rw [← List.drop_drop, hcr, List.drop_left]
        refine ⟨fun σ' H' => ∃ (s : S) (kvs : List (Key × V)) (A B C : Nat → Addr) (done rest : List Int) (e5 e6 : Option V), σ' = [some (.ref a), some (.ref d), some (.ref out), some (nV (i + c.length)), e5, e6] ∧ SFine s ∧
          World CM CS (fun b => b = out ∨ H b ≠ none) H' d s kvs A B C ∧ kvs.length ≤ i + c.length ∧ H' out = some (.lst (done.map V.int)) ∧ done.length ≤ 42 * (i + c.length) ∧ Due s (ns.drop (i + c.length)) rest ∧ done ++ rest = PySv34.answers ns ∧ Same H H',
          fun σ' H' ⟨s, kvs, A, B, C, done, rest, e5, e6, z⟩ => ⟨m - c.length, by omega, i + c.length, s, kvs, A, B, C, done, rest, e5, e6, by omega, z⟩, ?_⟩
        -- end = at + CALL_LENGTHS[calls[at]]
        refine ⟨_, rfl, _, rfl, _, rfl, a, _, _, _, rfl, rfl, hsm.seq hS, atI_nat (by rw [List.getElem?_map, hat]; rfl), al, _, _, _, rfl, rfl, hal _, atI_nat hjl, _, _, rfl, rfl, ?_⟩
        -- answer = answer_call(members, calls[at:end])
        refine ⟨_, rfl, _, rfl, _, rfl, _, rfl, _, rfl, _, rfl, a, _, rfl, hsm.seq hS, fun b hbn => ?_⟩
        rw [cut_call hcr (by omega)]
        have s2 : Same H1 (upd H1 b (.lst (c.map V.int))) := same_new hbn
        have ho2 := s2 _ _ ho1
        have hGn : ∀ z, (z = out ∨ H z ≠ none) → upd H1 b (.lst (c.map V.int)) z ≠ none := fun z hz => by
          rcases hz with hz | hz
          · rw [hz, ho2]; intro q; cases q
          · cases e : H z with
            | none => exact absurd e hz
            | some u => rw [s2 _ _ (hsm _ _ e)]; intro q; cases q
        refine ⟨fun b => b = out ∨ H b ≠ none, d, b, c, k0, x, s, kvs, A, B, C, rfl, upd_same, L, hk8, hb, hF, hW.same s2, by omega, hGn, fun q H3 kvs' A' B' C' hW3 hkv3 hq3 hqn kp3 => ?_⟩
        have ho3 := kp3 out _ (.inl rfl) ho2
        have nqo : out ≠ q := ne_of_none ho2 hqn
        have hal42 := ans_len (s.getD k0 none) x
        generalize ha' : ans (Sv34.does (s.getD k0 none) x).2 = aw at hq3 hrest hal42
        -- answered.append(len(answer))
        refine ⟨_, rfl, .inl ⟨rfl, _, SqL.of ho3⟩, _, rfl, q, _, rfl, .inl (SqL.of hq3), out, _, _, rfl, rfl, ho3, (by rw [List.length_map]; omega), ?_⟩
        -- answered.extend(answer)
        refine ⟨_, rfl, .inl ⟨rfl, _, SqL.of upd_same⟩, _, rfl, out, q, _, _, rfl, rfl, upd_same, (by rw [upd_ne nqo.symm]; exact hq3), ?_, ?_⟩
        · rw [List.length_append, List.length_map, List.length_map]
          show done.length + 1 + aw.length ≤ sizeLine
          omega
        · refine ⟨_, rfl, ?_⟩
          refine ⟨_, kvs', A', B', C', done ++ ((aw.length : Int) :: aw), o, _, _, rfl, hF.next L hk8, ?_, by omega, ?_, ?_, by rw [hdrop]; exact hD', ?_, fun z u e => ?_⟩
          · exact (hW3.write (.inl rfl) ho3).write (.inl rfl) upd_same
          · rw [upd_same, List.map_append, List.map_cons, List.length_map, List.append_assoc]
            rfl
          · rw [List.length_append, List.length_cons]
            omega
          · rw [← hdr, hrest, List.append_assoc]
            rfl
          · have nz : z ≠ out := fun q => by
              have e2 := s0 _ _ e
              rw [q] at e2
              rw [e2] at hout
              cases hout
            rw [upd_ne nz, upd_ne nz]
            exact kp3 z u (.inr (by rw [e]; intro q; cases q)) (s2 _ _ (hsm _ _ e))
      · rw [hlm] at hlt
        have hi : i = ns.length := by omega
        have hr0 := due_nil hD (by rw [hi, List.drop_length])
        refine ⟨_, rfl, ?_⟩
        refine k H1 out ?_
        rw [ho1, ← hdr, hr0, List.append_nil]
end
end Nw
end
section
set_option Elab.async false
set_option linter.all false
set_option maxRecDepth 100000
set_option maxHeartbeats 8000000
namespace Nw
open PySem L2
theorem all_mk {P : Program} {w : PySem.World} {K : PySem.W.Frag} {h : Heap} {mg : Str → Option Value} {fa CM CS : Addr} (X : K.In h) (G : h.Ns mainGlobals mg) (hfa : mg "answers" = some (.ref fa))
    {fNB : Addr} {odNB anNB : Option Addr} {slNB : Array (Option Value)} {ocNB kVNB dcNB pmNB cdNB ctNB : Value}
    {fNOB : Addr} {odNOB anNOB : Option Addr} {slNOB : Array (Option Value)} {ocNOB kVNOB dcNOB pmNOB cdNOB ctNOB : Value}
    {fRB : Addr} {odRB anRB : Option Addr} {slRB : Array (Option Value)} {ocRB kVRB dcRB pmRB cdRB ctRB : Value}
    {fROB : Addr} {odROB anROB : Option Addr} {slROB : Array (Option Value)} {ocROB kVROB dcROB pmROB cdROB ctROB : Value}
    {fANS : Addr} {odANS anANS : Option Addr} {slANS : Array (Option Value)} {ocANS kVANS dcANS pmANS cdANS ctANS : Value}
    {fCALL : Addr} {odCALL anCALL : Option Addr} {slCALL : Array (Option Value)} {ocCALL kVCALL dcCALL pmCALL cdCALL ctCALL : Value}
    {fBEG : Addr} {odBEG anBEG : Option Addr} {slBEG : Array (Option Value)} {ocBEG kVBEG dcBEG pmBEG cdBEG ctBEG : Value}
    {fASK : Addr} {odASK anASK : Option Addr} {slASK : Array (Option Value)} {ocASK kVASK dcASK pmASK cdASK ctASK : Value}
    {fSI : Addr} {odSI anSI : Option Addr} {slSI : Array (Option Value)} {ocSI kVSI dcSI pmSI cdSI ctSI : Value}
    {fVAL : Addr} {odVAL anVAL : Option Addr} {slVAL : Array (Option Value)} {ocVAL kVVAL dcVAL pmVAL cdVAL ctVAL : Value}
    {fOUT : Addr} {odOUT anOUT : Option Addr} {slOUT : Array (Option Value)} {ocOUT kVOUT dcOUT pmOUT cdOUT ctOUT : Value}
    {fMI : Addr} {odMI anMI : Option Addr} {slMI : Array (Option Value)} {ocMI kVMI dcMI pmMI cdMI ctMI : Value}
    {fDO : Addr} {odDO anDO : Option Addr} {slDO : Array (Option Value)} {ocDO kVDO dcDO pmDO cdDO ctDO : Value}
    {fSR : Addr} {odSR anSR : Option Addr} {slSR : Array (Option Value)} {ocSR kVSR dcSR pmSR cdSR ctSR : Value}
    {fWR : Addr} {odWR anWR : Option Addr} {slWR : Array (Option Value)} {ocWR kVWR dcWR pmWR cdWR ctWR : Value}
    {fGT : Addr} {odGT anGT : Option Addr} {slGT : Array (Option Value)} {ocGT kVGT dcGT pmGT cdGT ctGT : Value}
    {fSP : Addr} {odSP anSP : Option Addr} {slSP : Array (Option Value)} {ocSP kVSP dcSP pmSP cdSP ctSP : Value}
    {fSA : Addr} {odSA anSA : Option Addr} {slSA : Array (Option Value)} {ocSA kVSA dcSA pmSA cdSA ctSA : Value}
    {fSV : Addr} {odSV anSV : Option Addr} {slSV : Array (Option Value)} {ocSV kVSV dcSV pmSV cdSV ctSV : Value}
    {fTU : Addr} {odTU anTU : Option Addr} {slTU : Array (Option Value)} {ocTU kVTU dcTU pmTU cdTU ctTU : Value}
    {fGO : Addr} {odGO anGO : Option Addr} {slGO : Array (Option Value)} {ocGO kVGO dcGO pmGO cdGO ctGO : Value}
    {fHE : Addr} {odHE anHE : Option Addr} {slHE : Array (Option Value)} {ocHE kVHE dcHE pmHE cdHE ctHE : Value}
    {fPU : Addr} {odPU anPU : Option Addr} {slPU : Array (Option Value)} {ocPU kVPU dcPU pmPU cdPU ctPU : Value}
    {fFO : Addr} {odFO anFO : Option Addr} {slFO : Array (Option Value)} {ocFO kVFO dcFO pmFO cdFO ctFO : Value}
    {fOW : Addr} {odOW anOW : Option Addr} {slOW : Array (Option Value)} {ocOW kVOW dcOW pmOW cdOW ctOW : Value}
    {t_done : Tok}
    {t_wantsP : Tok}
    {t_hasA : Tok}
    {t_full : Tok}
    {t_putsR : Tok}
    {t_wrong : Tok}
    {t_notNow : Tok}
    {t_nb : Tok}
    {t_whose : Tok}
    {t_countI : Tok}
    {t_deed : Tok}
    {t_vI : Tok}
    {t_wI : Tok}
    {t_whats : Tok}
    {t_keys : Tok}
    {t_write : Tok}
    {t_add : Tok}
    {t_swap : Tok}
    {t_numbers : Tok}
    {t_cells : Tok}
    {t_begin_ : Tok}
    {t_do_ : Tok}
    {t_record : Tok}
    {t_wrote : Tok}
    {t_got : Tok}
    {t_place : Tok}
    {t_answer : Tok}
    {t_least : Tok}
    {t_most : Tok}
    {t_idle : Tok}
    {t_tells : Tok}
    {t_asks : Tok}
    {t_puts : Tok}
    {aT : Addr} {odT : Option Addr} {nT : Nat} {slT : Array (Option Value)} {u0 u1 u2 u3 u4 u5 u6 u7 : Tok}
    (aNB : PySem.W.nsIn K mainGlobals "number_bytes" = some (some (.ref fNB)))
    (lNB : K.lookup fNB = some ⟨ocNB, odNB, .func (PySem.W.fnOf "number_bytes" "number_bytes" (defArgs sNB) (defBody sNB) (defScope sNB) .none kVNB dcNB pmNB anNB cdNB ctNB), slNB⟩)
    (cNB : PySem.W.codeIn K cdNB "number_bytes" = true)
    (kNB : PySem.W.keepIn K (.ref fNB) = true)
    (aNOB : PySem.W.nsIn K mainGlobals "number_of_bytes" = some (some (.ref fNOB)))
    (lNOB : K.lookup fNOB = some ⟨ocNOB, odNOB, .func (PySem.W.fnOf "number_of_bytes" "number_of_bytes" (defArgs sNOB) (defBody sNOB) (defScope sNOB) .none kVNOB dcNOB pmNOB anNOB cdNOB ctNOB), slNOB⟩)
    (cNOB : PySem.W.codeIn K cdNOB "number_of_bytes" = true)
    (kNOB : PySem.W.keepIn K (.ref fNOB) = true)
    (aRB : PySem.W.nsIn K mainGlobals "record_bytes" = some (some (.ref fRB)))
    (lRB : K.lookup fRB = some ⟨ocRB, odRB, .func (PySem.W.fnOf "record_bytes" "record_bytes" (defArgs sRB) (defBody sRB) (defScope sRB) .none kVRB dcRB pmRB anRB cdRB ctRB), slRB⟩)
    (cRB : PySem.W.codeIn K cdRB "record_bytes" = true)
    (kRB : PySem.W.keepIn K (.ref fRB) = true)
    (aROB : PySem.W.nsIn K mainGlobals "record_of_bytes" = some (some (.ref fROB)))
    (lROB : K.lookup fROB = some ⟨ocROB, odROB, .func (PySem.W.fnOf "record_of_bytes" "record_of_bytes" (defArgs sROB) (defBody sROB) (defScope sROB) .none kVROB dcROB pmROB anROB cdROB ctROB), slROB⟩)
    (cROB : PySem.W.codeIn K cdROB "record_of_bytes" = true)
    (kROB : PySem.W.keepIn K (.ref fROB) = true)
    (aANS : PySem.W.nsIn K mainGlobals "answers" = some (some (.ref fANS)))
    (lANS : K.lookup fANS = some ⟨ocANS, odANS, .func (PySem.W.fnOf "answers" "answers" (defArgs sAns) (defBody sAns) (defScope sAns) .none kVANS dcANS pmANS anANS cdANS ctANS), slANS⟩)
    (cANS : PySem.W.codeIn K cdANS "answers" = true)
    (kANS : PySem.W.keepIn K (.ref fANS) = true)
    (aCALL : PySem.W.nsIn K mainGlobals "answer_call" = some (some (.ref fCALL)))
    (lCALL : K.lookup fCALL = some ⟨ocCALL, odCALL, .func (PySem.W.fnOf "answer_call" "answer_call" (defArgs sCall) (defBody sCall) (defScope sCall) .none kVCALL dcCALL pmCALL anCALL cdCALL ctCALL), slCALL⟩)
    (cCALL : PySem.W.codeIn K cdCALL "answer_call" = true)
    (kCALL : PySem.W.keepIn K (.ref fCALL) = true)
    (aBEG : PySem.W.nsIn K mainGlobals "begin" = some (some (.ref fBEG)))
    (lBEG : K.lookup fBEG = some ⟨ocBEG, odBEG, .func (PySem.W.fnOf "begin" "begin" (defArgs sBegin) (defBody sBegin) (defScope sBegin) .none kVBEG dcBEG pmBEG anBEG cdBEG ctBEG), slBEG⟩)
    (cBEG : PySem.W.codeIn K cdBEG "begin" = true)
    (kBEG : PySem.W.keepIn K (.ref fBEG) = true)
    (aASK : PySem.W.nsIn K mainGlobals "ask_member" = some (some (.ref fASK)))
    (lASK : K.lookup fASK = some ⟨ocASK, odASK, .func (PySem.W.fnOf "ask_member" "ask_member" (defArgs sAsk) (defBody sAsk) (defScope sAsk) .none kVASK dcASK pmASK anASK cdASK ctASK), slASK⟩)
    (cASK : PySem.W.codeIn K cdASK "ask_member" = true)
    (kASK : PySem.W.keepIn K (.ref fASK) = true)
    (gCS : PySem.W.nsIn K mainGlobals "Store" = some (some (.ref CS)))
    (aSI : PySem.W.findIn K (.ref CS) "__init__" = some (some (.ref fSI)))
    (iSI : PySem.W.isFn K (.ref fSI) = true)
    (lSI : K.lookup fSI = some ⟨ocSI, odSI, .func (PySem.W.fnOf "__init__" "Store.__init__" (defArgs sSI) (defBody sSI) (defScope sSI) .none kVSI dcSI pmSI anSI cdSI ctSI), slSI⟩)
    (cSI : PySem.W.codeIn K cdSI "Store.__init__" = true)
    (kSI : PySem.W.keepIn K (.ref fSI) = true)
    (aVAL : PySem.W.findIn K (.ref CS) "value_of" = some (some (.ref fVAL)))
    (iVAL : PySem.W.isFn K (.ref fVAL) = true)
    (lVAL : K.lookup fVAL = some ⟨ocVAL, odVAL, .func (PySem.W.fnOf "value_of" "Store.value_of" (defArgs sVal) (defBody sVal) (defScope sVal) .none kVVAL dcVAL pmVAL anVAL cdVAL ctVAL), slVAL⟩)
    (cVAL : PySem.W.codeIn K cdVAL "Store.value_of" = true)
    (kVAL : PySem.W.keepIn K (.ref fVAL) = true)
    (aOUT : PySem.W.findIn K (.ref CS) "carry_out" = some (some (.ref fOUT)))
    (iOUT : PySem.W.isFn K (.ref fOUT) = true)
    (lOUT : K.lookup fOUT = some ⟨ocOUT, odOUT, .func (PySem.W.fnOf "carry_out" "Store.carry_out" (defArgs sOut) (defBody sOut) (defScope sOut) .none kVOUT dcOUT pmOUT anOUT cdOUT ctOUT), slOUT⟩)
    (cOUT : PySem.W.codeIn K cdOUT "Store.carry_out" = true)
    (kOUT : PySem.W.keepIn K (.ref fOUT) = true)
    (pgCS : PySem.W.plainGet K CS Str.empty = true)
    (hdCS : PySem.W.hasDictIn K CS = true)
    (poCS : PySem.W.plainOver K CS = true)
    (saCS : PySem.W.findIn K (.ref CS) "__setattr__" = some (some (.builtin "object.__setattr__")))
    (mkCS : PySem.W.makesIn K CS = true)
    (kcCS : PySem.W.keepIn K (.ref CS) = true)
    (nKept : PySem.W.findIn K (.ref CS) "kept" = some none)
    (gCM : PySem.W.nsIn K mainGlobals "Member" = some (some (.ref CM)))
    (aMI : PySem.W.findIn K (.ref CM) "__init__" = some (some (.ref fMI)))
    (iMI : PySem.W.isFn K (.ref fMI) = true)
    (lMI : K.lookup fMI = some ⟨ocMI, odMI, .func (PySem.W.fnOf "__init__" "Member.__init__" (defArgs sMI) (defBody sMI) (defScope sMI) .none kVMI dcMI pmMI anMI cdMI ctMI), slMI⟩)
    (cMI : PySem.W.codeIn K cdMI "Member.__init__" = true)
    (kMI : PySem.W.keepIn K (.ref fMI) = true)
    (aDO : PySem.W.findIn K (.ref CM) "do" = some (some (.ref fDO)))
    (iDO : PySem.W.isFn K (.ref fDO) = true)
    (lDO : K.lookup fDO = some ⟨ocDO, odDO, .func (PySem.W.fnOf "do" "Member.do" (defArgs sDo) (defBody sDo) (defScope sDo) .none kVDO dcDO pmDO anDO cdDO ctDO), slDO⟩)
    (cDO : PySem.W.codeIn K cdDO "Member.do" = true)
    (kDO : PySem.W.keepIn K (.ref fDO) = true)
    (aSR : PySem.W.findIn K (.ref CM) "show_record" = some (some (.ref fSR)))
    (iSR : PySem.W.isFn K (.ref fSR) = true)
    (lSR : K.lookup fSR = some ⟨ocSR, odSR, .func (PySem.W.fnOf "show_record" "Member.show_record" (defArgs sShowR) (defBody sShowR) (defScope sShowR) .none kVSR dcSR pmSR anSR cdSR ctSR), slSR⟩)
    (cSR : PySem.W.codeIn K cdSR "Member.show_record" = true)
    (kSR : PySem.W.keepIn K (.ref fSR) = true)
    (aWR : PySem.W.findIn K (.ref CM) "wrote" = some (some (.ref fWR)))
    (iWR : PySem.W.isFn K (.ref fWR) = true)
    (lWR : K.lookup fWR = some ⟨ocWR, odWR, .func (PySem.W.fnOf "wrote" "Member.wrote" (defArgs sWrote) (defBody sWrote) (defScope sWrote) .none kVWR dcWR pmWR anWR cdWR ctWR), slWR⟩)
    (cWR : PySem.W.codeIn K cdWR "Member.wrote" = true)
    (kWR : PySem.W.keepIn K (.ref fWR) = true)
    (aGT : PySem.W.findIn K (.ref CM) "got" = some (some (.ref fGT)))
    (iGT : PySem.W.isFn K (.ref fGT) = true)
    (lGT : K.lookup fGT = some ⟨ocGT, odGT, .func (PySem.W.fnOf "got" "Member.got" (defArgs sGot) (defBody sGot) (defScope sGot) .none kVGT dcGT pmGT anGT cdGT ctGT), slGT⟩)
    (cGT : PySem.W.codeIn K cdGT "Member.got" = true)
    (kGT : PySem.W.keepIn K (.ref fGT) = true)
    (aSP : PySem.W.findIn K (.ref CM) "show_place" = some (some (.ref fSP)))
    (iSP : PySem.W.isFn K (.ref fSP) = true)
    (lSP : K.lookup fSP = some ⟨ocSP, odSP, .func (PySem.W.fnOf "show_place" "Member.show_place" (defArgs sShowP) (defBody sShowP) (defScope sShowP) .none kVSP dcSP pmSP anSP cdSP ctSP), slSP⟩)
    (cSP : PySem.W.codeIn K cdSP "Member.show_place" = true)
    (kSP : PySem.W.keepIn K (.ref fSP) = true)
    (aSA : PySem.W.findIn K (.ref CM) "show_answer" = some (some (.ref fSA)))
    (iSA : PySem.W.isFn K (.ref fSA) = true)
    (lSA : K.lookup fSA = some ⟨ocSA, odSA, .func (PySem.W.fnOf "show_answer" "Member.show_answer" (defArgs sShowA) (defBody sShowA) (defScope sShowA) .none kVSA dcSA pmSA anSA cdSA ctSA), slSA⟩)
    (cSA : PySem.W.codeIn K cdSA "Member.show_answer" = true)
    (kSA : PySem.W.keepIn K (.ref fSA) = true)
    (aSV : PySem.W.findIn K (.ref CM) "show_value" = some (some (.ref fSV)))
    (iSV : PySem.W.isFn K (.ref fSV) = true)
    (lSV : K.lookup fSV = some ⟨ocSV, odSV, .func (PySem.W.fnOf "show_value" "Member.show_value" (defArgs sShowV) (defBody sShowV) (defScope sShowV) .none kVSV dcSV pmSV anSV cdSV ctSV), slSV⟩)
    (cSV : PySem.W.codeIn K cdSV "Member.show_value" = true)
    (kSV : PySem.W.keepIn K (.ref fSV) = true)
    (aTU : PySem.W.findIn K (.ref CM) "turn" = some (some (.ref fTU)))
    (iTU : PySem.W.isFn K (.ref fTU) = true)
    (lTU : K.lookup fTU = some ⟨ocTU, odTU, .func (PySem.W.fnOf "turn" "Member.turn" (defArgs sTurn) (defBody sTurn) (defScope sTurn) .none kVTU dcTU pmTU anTU cdTU ctTU), slTU⟩)
    (cTU : PySem.W.codeIn K cdTU "Member.turn" = true)
    (kTU : PySem.W.keepIn K (.ref fTU) = true)
    (aGO : PySem.W.findIn K (.ref CM) "go_on_to_cell" = some (some (.ref fGO)))
    (iGO : PySem.W.isFn K (.ref fGO) = true)
    (lGO : K.lookup fGO = some ⟨ocGO, odGO, .func (PySem.W.fnOf "go_on_to_cell" "Member.go_on_to_cell" (defArgs sGo) (defBody sGo) (defScope sGo) .none kVGO dcGO pmGO anGO cdGO ctGO), slGO⟩)
    (cGO : PySem.W.codeIn K cdGO "Member.go_on_to_cell" = true)
    (kGO : PySem.W.keepIn K (.ref fGO) = true)
    (aHE : PySem.W.findIn K (.ref CM) "helped_first" = some (some (.ref fHE)))
    (iHE : PySem.W.isFn K (.ref fHE) = true)
    (lHE : K.lookup fHE = some ⟨ocHE, odHE, .func (PySem.W.fnOf "helped_first" "Member.helped_first" (defArgs sHelp) (defBody sHelp) (defScope sHelp) .none kVHE dcHE pmHE anHE cdHE ctHE), slHE⟩)
    (cHE : PySem.W.codeIn K cdHE "Member.helped_first" = true)
    (kHE : PySem.W.keepIn K (.ref fHE) = true)
    (aPU : PySem.W.findIn K (.ref CM) "put" = some (some (.ref fPU)))
    (iPU : PySem.W.isFn K (.ref fPU) = true)
    (lPU : K.lookup fPU = some ⟨ocPU, odPU, .func (PySem.W.fnOf "put" "Member.put" (defArgs sPut) (defBody sPut) (defScope sPut) .none kVPU dcPU pmPU anPU cdPU ctPU), slPU⟩)
    (cPU : PySem.W.codeIn K cdPU "Member.put" = true)
    (kPU : PySem.W.keepIn K (.ref fPU) = true)
    (aFO : PySem.W.findIn K (.ref CM) "follow" = some (some (.ref fFO)))
    (iFO : PySem.W.isFn K (.ref fFO) = true)
    (lFO : K.lookup fFO = some ⟨ocFO, odFO, .func (PySem.W.fnOf "follow" "Member.follow" (defArgs sFollow) (defBody sFollow) (defScope sFollow) .none kVFO dcFO pmFO anFO cdFO ctFO), slFO⟩)
    (cFO : PySem.W.codeIn K cdFO "Member.follow" = true)
    (kFO : PySem.W.keepIn K (.ref fFO) = true)
    (aOW : PySem.W.findIn K (.ref CM) "is_own" = some (some (.ref fOW)))
    (iOW : PySem.W.isFn K (.ref fOW) = true)
    (lOW : K.lookup fOW = some ⟨ocOW, odOW, .func (PySem.W.fnOf "is_own" "Member.is_own" (defArgs sOwn) (defBody sOwn) (defScope sOwn) .none kVOW dcOW pmOW anOW cdOW ctOW), slOW⟩)
    (cOW : PySem.W.codeIn K cdOW "Member.is_own" = true)
    (kOW : PySem.W.keepIn K (.ref fOW) = true)
    (pgCM : PySem.W.plainGet K CM Str.empty = true)
    (hdCM : PySem.W.hasDictIn K CM = true)
    (poCM : PySem.W.plainOver K CM = true)
    (saCM : PySem.W.findIn K (.ref CM) "__setattr__" = some (some (.builtin "object.__setattr__")))
    (mkCM : PySem.W.makesIn K CM = true)
    (kcCM : PySem.W.keepIn K (.ref CM) = true)
    (nMe : PySem.W.findIn K (.ref CM) "me" = some none)
    (nN : PySem.W.findIn K (.ref CM) "n" = some none)
    (nState : PySem.W.findIn K (.ref CM) "state" = some none)
    (nCount : PySem.W.findIn K (.ref CM) "count" = some none)
    (nPlace : PySem.W.findIn K (.ref CM) "place" = some none)
    (nStore : PySem.W.findIn K (.ref CM) "store" = some none)
    (nSeen : PySem.W.findIn K (.ref CM) "seen" = some none)
    (nAnswer : PySem.W.findIn K (.ref CM) "answer" = some none)
    (nRecord : PySem.W.findIn K (.ref CM) "record" = some none)
    (nCand : PySem.W.findIn K (.ref CM) "candidate" = some none)
    (z_done : PySem.W.nsIn K mainGlobals "DONE" = some (some (.int 0 t_done)))
    (z_wantsP : PySem.W.nsIn K mainGlobals "WANTS_PLACE" = some (some (.int 16 t_wantsP)))
    (z_hasA : PySem.W.nsIn K mainGlobals "HAS_ANSWER" = some (some (.int 32 t_hasA)))
    (z_full : PySem.W.nsIn K mainGlobals "ROW_IS_FULL" = some (some (.int 33 t_full)))
    (z_putsR : PySem.W.nsIn K mainGlobals "PUTS_RECORD" = some (some (.int 64 t_putsR)))
    (z_wrong : PySem.W.nsIn K mainGlobals "WRONG_ARGUMENTS" = some (some (.int (-2) t_wrong)))
    (z_notNow : PySem.W.nsIn K mainGlobals "NOT_NOW" = some (some (.int (-4) t_notNow)))
    (z_nb : PySem.W.nsIn K mainGlobals "NUMBER_BYTES" = some (some (.int 8 t_nb)))
    (z_whose : PySem.W.nsIn K mainGlobals "WHOSE" = some (some (.int 0 t_whose)))
    (z_countI : PySem.W.nsIn K mainGlobals "COUNT" = some (some (.int 1 t_countI)))
    (z_deed : PySem.W.nsIn K mainGlobals "DEED" = some (some (.int 2 t_deed)))
    (z_vI : PySem.W.nsIn K mainGlobals "V" = some (some (.int 3 t_vI)))
    (z_wI : PySem.W.nsIn K mainGlobals "W" = some (some (.int 4 t_wI)))
    (z_whats : PySem.W.nsIn K mainGlobals "WHATS" = some (some (.int 4 t_whats)))
    (z_keys : PySem.W.nsIn K mainGlobals "KEYS" = some (some (.int 16 t_keys)))
    (z_write : PySem.W.nsIn K mainGlobals "WRITE" = some (some (.int 1 t_write)))
    (z_add : PySem.W.nsIn K mainGlobals "ADD" = some (some (.int 2 t_add)))
    (z_swap : PySem.W.nsIn K mainGlobals "SWAP" = some (some (.int 3 t_swap)))
    (z_numbers : PySem.W.nsIn K mainGlobals "NUMBERS" = some (some (.int 18446744073709551616 t_numbers)))
    (z_cells : PySem.W.nsIn K mainGlobals "CELLS" = some (some (.int 256 t_cells)))
    (z_begin_ : PySem.W.nsIn K mainGlobals "BEGIN" = some (some (.int 0 t_begin_)))
    (z_do_ : PySem.W.nsIn K mainGlobals "DO" = some (some (.int 1 t_do_)))
    (z_record : PySem.W.nsIn K mainGlobals "RECORD" = some (some (.int 2 t_record)))
    (z_wrote : PySem.W.nsIn K mainGlobals "WROTE" = some (some (.int 3 t_wrote)))
    (z_got : PySem.W.nsIn K mainGlobals "GOT" = some (some (.int 4 t_got)))
    (z_place : PySem.W.nsIn K mainGlobals "PLACE" = some (some (.int 5 t_place)))
    (z_answer : PySem.W.nsIn K mainGlobals "ANSWER" = some (some (.int 6 t_answer)))
    (z_least : PySem.W.nsIn K mainGlobals "LEAST_MEMBERS" = some (some (.int 2 t_least)))
    (z_most : PySem.W.nsIn K mainGlobals "MOST_MEMBERS" = some (some (.int 8 t_most)))
    (z_idle : PySem.W.nsIn K mainGlobals "IDLE" = some (some (.str "idle" t_idle)))
    (z_tells : PySem.W.nsIn K mainGlobals "TELLS" = some (some (.str "tells" t_tells)))
    (z_asks : PySem.W.nsIn K mainGlobals "ASKS" = some (some (.str "asks" t_asks)))
    (z_puts : PySem.W.nsIn K mainGlobals "PUTS" = some (some (.str "puts" t_puts)))
    (z_len : PySem.W.nsIn K mainGlobals "len" = some none)
    (z_range : PySem.W.nsIn K mainGlobals "range" = some none)
    (z_reversed : PySem.W.nsIn K mainGlobals "reversed" = some none)
    (z_tuple : PySem.W.nsIn K mainGlobals "tuple" = some none)
    (z_lens : PySem.W.nsIn K mainGlobals "CALL_LENGTHS" = some (some (.ref aT)))
    (z_tab : K.lookup aT = some ⟨.type "tuple", odT, .seq #[.int 4 u0, .int 6 u1, .int 2 u2, .int 2 u3, .int 43 u4, .int 2 u5, .int 2 u6, .int 3 u7] nT, slT⟩)
    : ∃ fd : FuncData, (∀ (s : Shared) (us : List Value), us.length = (["calls"] : List Str).length → BindsTo s fd ⟨us, []⟩ ((["calls"] : List Str).zip us)) ∧ ∀ base : Heap, K.In base → base.Ns mainGlobals mg → FnOk P w K mg base CX0 7 fa fd ["calls"] (spAns K) := by
  have e := hfa.symm.trans (PySem.W.mg_of X G aANS)
  cases e
  have T : Txt K mg CM CS := ⟨⟨pgCM, hdCM, poCM, saCM⟩, ⟨pgCS, hdCS, poCS, saCS⟩, nMe, nN, nState, nCount, nPlace, nStore, nSeen, nAnswer, nRecord, nCand, nKept, PySem.W.mg_of X G gCM, PySem.W.mg_of X G gCS, ⟨_, PySem.W.mg_of X G z_done⟩, ⟨_, PySem.W.mg_of X G z_wantsP⟩, ⟨_, PySem.W.mg_of X G z_hasA⟩, ⟨_, PySem.W.mg_of X G z_full⟩, ⟨_, PySem.W.mg_of X G z_putsR⟩, ⟨_, PySem.W.mg_of X G z_wrong⟩, ⟨_, PySem.W.mg_of X G z_notNow⟩, ⟨_, PySem.W.mg_of X G z_nb⟩, ⟨_, PySem.W.mg_of X G z_whose⟩, ⟨_, PySem.W.mg_of X G z_countI⟩, ⟨_, PySem.W.mg_of X G z_deed⟩, ⟨_, PySem.W.mg_of X G z_vI⟩, ⟨_, PySem.W.mg_of X G z_wI⟩, ⟨_, PySem.W.mg_of X G z_whats⟩, ⟨_, PySem.W.mg_of X G z_keys⟩, ⟨_, PySem.W.mg_of X G z_write⟩, ⟨_, PySem.W.mg_of X G z_add⟩, ⟨_, PySem.W.mg_of X G z_swap⟩, ⟨_, PySem.W.mg_of X G z_numbers⟩, ⟨_, PySem.W.mg_of X G z_idle⟩, ⟨_, PySem.W.mg_of X G z_tells⟩, ⟨_, PySem.W.mg_of X G z_asks⟩, ⟨_, PySem.W.mg_of X G z_puts⟩, ⟨_, PySem.W.mg_of X G z_cells⟩, ⟨_, PySem.W.mg_of X G z_begin_⟩, ⟨_, PySem.W.mg_of X G z_do_⟩, ⟨_, PySem.W.mg_of X G z_record⟩, ⟨_, PySem.W.mg_of X G z_wrote⟩, ⟨_, PySem.W.mg_of X G z_got⟩, ⟨_, PySem.W.mg_of X G z_place⟩, ⟨_, PySem.W.mg_of X G z_answer⟩, ⟨_, PySem.W.mg_of X G z_least⟩, ⟨_, PySem.W.mg_of X G z_most⟩, ⟨aT, PySem.W.mg_of X G z_lens, fun H => .inr ⟨_, _, _, z_tab, rfl, rfl, (by show 8 ≤ sizeLine; decide), .cons ⟨_, rfl⟩ (.cons ⟨_, rfl⟩ (.cons ⟨_, rfl⟩ (.cons ⟨_, rfl⟩ (.cons ⟨_, rfl⟩ (.cons ⟨_, rfl⟩ (.cons ⟨_, rfl⟩ (.cons ⟨_, rfl⟩ .nil)))))))⟩⟩, PySem.W.mg_none_of X G z_len, PySem.W.mg_none_of X G z_range, PySem.W.mg_none_of X G z_reversed, PySem.W.mg_none_of X G z_tuple⟩
  have FNB := fun_mk (st := sNB) lNB cNB kNB
  have bNB := FNB.binds (ps := ["number"]) fun _ _ _ _ _ _ us hl => match us, hl with | [_], _ => rfl
  have gNB := PySem.W.mg_of X G aNB
  have FNOB := fun_mk (st := sNOB) lNOB cNOB kNOB
  have bNOB := FNOB.binds (ps := ["row"]) fun _ _ _ _ _ _ us hl => match us, hl with | [_], _ => rfl
  have gNOB := PySem.W.mg_of X G aNOB
  have FRB := fun_mk (st := sRB) lRB cRB kRB
  have bRB := FRB.binds (ps := ["record"]) fun _ _ _ _ _ _ us hl => match us, hl with | [_], _ => rfl
  have gRB := PySem.W.mg_of X G aRB
  have FROB := fun_mk (st := sROB) lROB cROB kROB
  have bROB := FROB.binds (ps := ["row"]) fun _ _ _ _ _ _ us hl => match us, hl with | [_], _ => rfl
  have gROB := PySem.W.mg_of X G aROB
  have FANS := fun_mk (st := sAns) lANS cANS kANS
  have gANS := PySem.W.mg_of X G aANS
  have FCALL := fun_mk (st := sCall) lCALL cCALL kCALL
  have bCALL := FCALL.binds (ps := ["members", "call"]) fun _ _ _ _ _ _ us hl => match us, hl with | [_, _], _ => rfl
  have gCALL := PySem.W.mg_of X G aCALL
  have FBEG := fun_mk (st := sBegin) lBEG cBEG kBEG
  have bBEG := FBEG.binds (ps := ["members", "which", "me", "n"]) fun _ _ _ _ _ _ us hl => match us, hl with | [_, _, _, _], _ => rfl
  have gBEG := PySem.W.mg_of X G aBEG
  have FASK := fun_mk (st := sAsk) lASK cASK kASK
  have bASK := FASK.binds (ps := ["member", "call"]) fun _ _ _ _ _ _ us hl => match us, hl with | [_, _], _ => rfl
  have gASK := PySem.W.mg_of X G aASK
  have FSI := fun_mk (st := sSI) lSI cSI kSI
  have bSI := FSI.binds (ps := ["self"]) fun _ _ _ _ _ _ us hl => match us, hl with | [_], _ => rfl
  have FVAL := fun_mk (st := sVal) lVAL cVAL kVAL
  have bVAL := FVAL.binds (ps := ["self", "key"]) fun _ _ _ _ _ _ us hl => match us, hl with | [_, _], _ => rfl
  have mVAL : Meth K CS "value_of" fVAL := ⟨aVAL, iVAL, kVAL⟩
  have FOUT := fun_mk (st := sOut) lOUT cOUT kOUT
  have bOUT := FOUT.binds (ps := ["self", "record"]) fun _ _ _ _ _ _ us hl => match us, hl with | [_, _], _ => rfl
  have mOUT : Meth K CS "carry_out" fOUT := ⟨aOUT, iOUT, kOUT⟩
  have FMI := fun_mk (st := sMI) lMI cMI kMI
  have bMI := FMI.binds (ps := ["self", "me", "n"]) fun _ _ _ _ _ _ us hl => match us, hl with | [_, _, _], _ => rfl
  have FDO := fun_mk (st := sDo) lDO cDO kDO
  have bDO := FDO.binds (ps := ["self", "what", "key", "v", "w"]) fun _ _ _ _ _ _ us hl => match us, hl with | [_, _, _, _, _], _ => rfl
  have mDO : Meth K CM "do" fDO := ⟨aDO, iDO, kDO⟩
  have FSR := fun_mk (st := sShowR) lSR cSR kSR
  have bSR := FSR.binds (ps := ["self"]) fun _ _ _ _ _ _ us hl => match us, hl with | [_], _ => rfl
  have mSR : Meth K CM "show_record" fSR := ⟨aSR, iSR, kSR⟩
  have FWR := fun_mk (st := sWrote) lWR cWR kWR
  have bWR := FWR.binds (ps := ["self"]) fun _ _ _ _ _ _ us hl => match us, hl with | [_], _ => rfl
  have mWR : Meth K CM "wrote" fWR := ⟨aWR, iWR, kWR⟩
  have FGT := fun_mk (st := sGot) lGT cGT kGT
  have bGT := FGT.binds (ps := ["self", "row"]) fun _ _ _ _ _ _ us hl => match us, hl with | [_, _], _ => rfl
  have mGT : Meth K CM "got" fGT := ⟨aGT, iGT, kGT⟩
  have FSP := fun_mk (st := sShowP) lSP cSP kSP
  have bSP := FSP.binds (ps := ["self"]) fun _ _ _ _ _ _ us hl => match us, hl with | [_], _ => rfl
  have mSP : Meth K CM "show_place" fSP := ⟨aSP, iSP, kSP⟩
  have FSA := fun_mk (st := sShowA) lSA cSA kSA
  have bSA := FSA.binds (ps := ["self"]) fun _ _ _ _ _ _ us hl => match us, hl with | [_], _ => rfl
  have mSA : Meth K CM "show_answer" fSA := ⟨aSA, iSA, kSA⟩
  have FSV := fun_mk (st := sShowV) lSV cSV kSV
  have bSV := FSV.binds (ps := ["self", "key"]) fun _ _ _ _ _ _ us hl => match us, hl with | [_, _], _ => rfl
  have mSV : Meth K CM "show_value" fSV := ⟨aSV, iSV, kSV⟩
  have FTU := fun_mk (st := sTurn) lTU cTU kTU
  have bTU := FTU.binds (ps := ["self"]) fun _ _ _ _ _ _ us hl => match us, hl with | [_], _ => rfl
  have mTU : Meth K CM "turn" fTU := ⟨aTU, iTU, kTU⟩
  have FGO := fun_mk (st := sGo) lGO cGO kGO
  have bGO := FGO.binds (ps := ["self"]) fun _ _ _ _ _ _ us hl => match us, hl with | [_], _ => rfl
  have mGO : Meth K CM "go_on_to_cell" fGO := ⟨aGO, iGO, kGO⟩
  have FHE := fun_mk (st := sHelp) lHE cHE kHE
  have bHE := FHE.binds (ps := ["self", "told"]) fun _ _ _ _ _ _ us hl => match us, hl with | [_, _], _ => rfl
  have mHE : Meth K CM "helped_first" fHE := ⟨aHE, iHE, kHE⟩
  have FPU := fun_mk (st := sPut) lPU cPU kPU
  have bPU := FPU.binds (ps := ["self", "candidate"]) fun _ _ _ _ _ _ us hl => match us, hl with | [_, _], _ => rfl
  have mPU : Meth K CM "put" fPU := ⟨aPU, iPU, kPU⟩
  have FFO := fun_mk (st := sFollow) lFO cFO kFO
  have bFO := FFO.binds (ps := ["self", "standing"]) fun _ _ _ _ _ _ us hl => match us, hl with | [_, _], _ => rfl
  have mFO : Meth K CM "follow" fFO := ⟨aFO, iFO, kFO⟩
  have FOW := fun_mk (st := sOwn) lOW cOW kOW
  have bOW := FOW.binds (ps := ["self", "standing"]) fun _ _ _ _ _ _ us hl => match us, hl with | [_, _], _ => rfl
  have mOW : Meth K CM "is_own" fOW := ⟨aOW, iOW, kOW⟩
  refine ⟨PySem.W.fnOf "answers" "answers" (defArgs sAns) (defBody sAns) (defScope sAns) .none kVANS dcANS pmANS anANS cdANS ctANS, fun s us hu => match us, hu with | [_], _ => .of_eq rfl, fun base _ _ => ?_⟩
  refine ok_ans FANS T (ok_call FCALL T (ok_begin FBEG T ⟨mkCM, aMI, iMI, kcCM⟩ (ok_mi FMI T ⟨mkCS, aSI, iSI, kcCS⟩ FSI bSI) bMI) bBEG gBEG kBEG ?_ bASK gASK kASK) bCALL gCALL kCALL
  exact ok_ask FASK T (ok_do FDO T) bDO mDO (ok_showR FSR T FNB bNB gNB FRB bRB gRB) bSR mSR (ok_wrote FWR T FGO bGO mGO FTU bTU mTU FPU bPU mPU) bWR mWR
    (ok_got FGT T FNOB bNOB gNOB FROB bROB gROB FHE bHE mHE FFO bFO mFO FOUT bOUT mOUT FOW bOW mOW FGO bGO mGO FTU bTU mTU FPU bPU mPU) bGT mGT (ok_showP FSP T) bSP mSP (ok_showA FSA T) bSA mSA (ok_showV FSV T FVAL bVAL mVAL) bSV mSV
end Nw
end
open PySem PySem.W PyProof.Rows
set_option maxRecDepth 100000 in
set_option maxHeartbeats 0 in
theorem PySem.Challenge.cw_nowaiting_s01_answers_holds : PySem.Challenge.rw_nowaiting_s01_answers.Holds := by
  w_on; k_headS; (case hw => exact ⟨[.list [.int 0, .int 0, .int 0, .int 2]], by decide +kernel, by decide +kernel⟩)
  k_fillS
  refine L2.walk_specK (r := PySem.Challenge.rw_nowaiting_s01_answers) (k := 7) (CX := L2.CX0) (ps := ["calls"]) (sp := Nw.spAns) (by decide +kernel) rfl rfl ⟨rfl, by decide, by decide⟩ (fun w h Y => PySem.W.kIn_of Y) ?F ?S (fun _ _ _ _ z => z)
  case F =>
    intro w mg fa h Y KX G hmg
    refine' Nw.all_mk KX G hmg ?aNB ?lNB ?cNB ?kNB ?aNOB ?lNOB ?cNOB ?kNOB ?aRB ?lRB ?cRB ?kRB ?aROB ?lROB ?cROB ?kROB ?aANS ?lANS ?cANS ?kANS ?aCALL ?lCALL ?cCALL ?kCALL ?aBEG ?lBEG ?cBEG ?kBEG ?aASK ?lASK ?cASK ?kASK ?gCS ?aSI ?iSI ?lSI ?cSI ?kSI ?aVAL ?iVAL ?lVAL ?cVAL ?kVAL ?aOUT ?iOUT ?lOUT ?cOUT ?kOUT ?pgCS ?hdCS ?poCS ?saCS ?mkCS ?kcCS ?nKept ?gCM ?aMI ?iMI ?lMI ?cMI ?kMI ?aDO ?iDO ?lDO ?cDO ?kDO ?aSR ?iSR ?lSR ?cSR ?kSR ?aWR ?iWR ?lWR ?cWR ?kWR ?aGT ?iGT ?lGT ?cGT ?kGT ?aSP ?iSP ?lSP ?cSP ?kSP ?aSA ?iSA ?lSA ?cSA ?kSA ?aSV ?iSV ?lSV ?cSV ?kSV ?aTU ?iTU ?lTU ?cTU ?kTU ?aGO ?iGO ?lGO ?cGO ?kGO ?aHE ?iHE ?lHE ?cHE ?kHE ?aPU ?iPU ?lPU ?cPU ?kPU ?aFO ?iFO ?lFO ?cFO ?kFO ?aOW ?iOW ?lOW ?cOW ?kOW ?pgCM ?hdCM ?poCM ?saCM ?mkCM ?kcCM ?nMe ?nN ?nState ?nCount ?nPlace ?nStore ?nSeen ?nAnswer ?nRecord ?nCand ?z_done ?z_wantsP ?z_hasA ?z_full ?z_putsR ?z_wrong ?z_notNow ?z_nb ?z_whose ?z_countI ?z_deed ?z_vI ?z_wI ?z_whats ?z_keys ?z_write ?z_add ?z_swap ?z_numbers ?z_cells ?z_begin_ ?z_do_ ?z_record ?z_wrote ?z_got ?z_place ?z_answer ?z_least ?z_most ?z_idle ?z_tells ?z_asks ?z_puts ?z_len ?z_range ?z_reversed ?z_tuple ?z_lens ?z_tab
    (case aNB => k_is); (case lNB => k_is); (case cNB => k_is); (case kNB => k_is); (case aNOB => k_is); (case lNOB => k_is)
    (case cNOB => k_is); (case kNOB => k_is); (case aRB => k_is); (case lRB => k_is); (case cRB => k_is); (case kRB => k_is)
    (case aROB => k_is); (case lROB => k_is); (case cROB => k_is); (case kROB => k_is); (case aANS => k_is); (case lANS => k_is)
    (case cANS => k_is); (case kANS => k_is); (case aCALL => k_is); (case lCALL => k_is); (case cCALL => k_is); (case kCALL => k_is)
    (case aBEG => k_is); (case lBEG => k_is); (case cBEG => k_is); (case kBEG => k_is); (case aASK => k_is); (case lASK => k_is)
    (case cASK => k_is); (case kASK => k_is); (case gCS => k_is); (case aSI => k_is); (case iSI => k_is); (case lSI => k_is)
    (case cSI => k_is); (case kSI => k_is); (case aVAL => k_is); (case iVAL => k_is); (case lVAL => k_is); (case cVAL => k_is)
    (case kVAL => k_is); (case aOUT => k_is); (case iOUT => k_is); (case lOUT => k_is); (case cOUT => k_is); (case kOUT => k_is)
    (case pgCS => k_is); (case hdCS => k_is); (case poCS => k_is); (case saCS => k_is); (case mkCS => k_is); (case kcCS => k_is)
    (case nKept => k_is); (case gCM => k_is); (case aMI => k_is); (case iMI => k_is); (case lMI => k_is); (case cMI => k_is)
    (case kMI => k_is); (case aDO => k_is); (case iDO => k_is); (case lDO => k_is); (case cDO => k_is); (case kDO => k_is)
    (case aSR => k_is); (case iSR => k_is); (case lSR => k_is); (case cSR => k_is); (case kSR => k_is); (case aWR => k_is)
    (case iWR => k_is); (case lWR => k_is); (case cWR => k_is); (case kWR => k_is); (case aGT => k_is); (case iGT => k_is)
    (case lGT => k_is); (case cGT => k_is); (case kGT => k_is); (case aSP => k_is); (case iSP => k_is); (case lSP => k_is)
    (case cSP => k_is); (case kSP => k_is); (case aSA => k_is); (case iSA => k_is); (case lSA => k_is); (case cSA => k_is)
    (case kSA => k_is); (case aSV => k_is); (case iSV => k_is); (case lSV => k_is); (case cSV => k_is); (case kSV => k_is)
    (case aTU => k_is); (case iTU => k_is); (case lTU => k_is); (case cTU => k_is); (case kTU => k_is); (case aGO => k_is)
    (case iGO => k_is); (case lGO => k_is); (case cGO => k_is); (case kGO => k_is); (case aHE => k_is); (case iHE => k_is)
    (case lHE => k_is); (case cHE => k_is); (case kHE => k_is); (case aPU => k_is); (case iPU => k_is); (case lPU => k_is)
    (case cPU => k_is); (case kPU => k_is); (case aFO => k_is); (case iFO => k_is); (case lFO => k_is); (case cFO => k_is)
    (case kFO => k_is); (case aOW => k_is); (case iOW => k_is); (case lOW => k_is); (case cOW => k_is); (case kOW => k_is)
    (case pgCM => k_is); (case hdCM => k_is); (case poCM => k_is); (case saCM => k_is); (case mkCM => k_is); (case kcCM => k_is)
    (case nMe => k_is); (case nN => k_is); (case nState => k_is); (case nCount => k_is); (case nPlace => k_is); (case nStore => k_is)
    (case nSeen => k_is); (case nAnswer => k_is); (case nRecord => k_is); (case nCand => k_is); (case z_done => k_is); (case z_wantsP => k_is)
    (case z_hasA => k_is); (case z_full => k_is); (case z_putsR => k_is); (case z_wrong => k_is); (case z_notNow => k_is); (case z_nb => k_is)
    (case z_whose => k_is); (case z_countI => k_is); (case z_deed => k_is); (case z_vI => k_is); (case z_wI => k_is); (case z_whats => k_is)
    (case z_keys => k_is); (case z_write => k_is); (case z_add => k_is); (case z_swap => k_is); (case z_numbers => k_is); (case z_cells => k_is)
    (case z_begin_ => k_is); (case z_do_ => k_is); (case z_record => k_is); (case z_wrote => k_is); (case z_got => k_is); (case z_place => k_is)
    (case z_answer => k_is); (case z_least => k_is); (case z_most => k_is); (case z_idle => k_is); (case z_tells => k_is); (case z_asks => k_is)
    (case z_puts => k_is); (case z_len => k_is); (case z_range => k_is); (case z_reversed => k_is); (case z_tuple => k_is); (case z_lens => k_is)
    (case z_tab => k_is)
  case S =>
    intro K H xs a hO hwi hask hx
    cases hx with
    | cons h1 h2 =>
      cases h2
      cases h1 with
      | lst hs ha =>
        have e := L2.ints_dw a.1 _ ha
        subst e
        have q : ((Codec.inLen 0 16000 a.1 && a.1.all (Codec.inInt (-2147483648) 18446744073709551615)) && true) = true := hwi
        rw [Bool.and_eq_true, Bool.and_eq_true] at q
        exact ⟨_, a.1, rfl, hs, (Codec.inNat_iff.mp q.1.1).2, hask, fun H' p hp => .lst (L2.SqL.of hp) (L2.dw_ints _)⟩
#print axioms PySem.Challenge.cw_nowaiting_s01_answers_holds
