import PyProof.Rows.All
import Wide.All
import OpenK.AllK
import Wide.FinOn
import PyProof.EqAt
import PyProof.EqKinds
import PyProof.TupleCall
import KE.BitLaws
import Open.SpecLaws
import KE.OsHead
import KE.OsGo
import PySem.Challenge.RW_bobbintexts_s01_read
section
set_option Elab.async false
set_option linter.all false
set_option maxRecDepth 100000
/-! THE HAND LAYER, for ints, bools, texts, own classes, lists, tuples, dicts, comprehensions, walks over dicts, enumerate, zip, reversed, texts, calls, loops. Paste it whole ahead of your own text; what your proof does not reach may be deleted. -/
namespace L2
open PySem PySem.Spec PyProof.Rows

/-- a key: an int or a str -/
abbrev Key := Sum Int Str
def keyIs : Key → Value → Bool
  | .inl k, v => Value.isInt k v
  | .inr x, v => Value.isStrOf x v
def keyH (w : World) : Key → Int
  | .inl k => hashInt k
  | .inr x => hashStr w x
theorem keyIs_shape : ∀ {k : Key} {v : Value}, keyIs k v = true → (∃ i t, k = Sum.inl i ∧ v = Value.int i t) ∨ (∃ x t, k = Sum.inr x ∧ v = Value.str x t)
  | .inl i, v, h => by
    obtain ⟨t, e⟩ := Value.isInt_shape (k := i) (v := v) h
    exact .inl ⟨i, t, rfl, e⟩
  | .inr x, v, h => by
    obtain ⟨t, e⟩ := Value.isStrOf_shape (x := x) (v := v) h
    exact .inr ⟨x, t, rfl, e⟩
theorem keyIs_int (i : Int) (t : Tok) : keyIs (.inl i) (.int i t) = true := by simp [keyIs, Value.isInt]
theorem keyIs_str (x : Str) (t : Tok) : keyIs (.inr x) (.str x t) = true := by simp [keyIs, Value.isStrOf]
theorem key_ll (a b : Int) : decide ((Sum.inl a : Key) = Sum.inl b) = (a == b) := by
  by_cases e : a = b
  · subst e; simp
  · have h : ¬ (Sum.inl a : Key) = Sum.inl b := fun q => e (Sum.inl.inj q)
    rw [decide_eq_false h]
    exact (beq_eq_false_iff_ne.mpr e).symm
theorem key_rr (a b : Str) : decide ((Sum.inr a : Key) = Sum.inr b) = decide (a = b) := by
  by_cases e : a = b
  · subst e; simp
  · have h : ¬ (Sum.inr a : Key) = Sum.inr b := fun q => e (Sum.inr.inj q)
    rw [decide_eq_false h, decide_eq_false e]
theorem key_lr (a : Int) (b : Str) : decide ((Sum.inl a : Key) = Sum.inr b) = false := decide_eq_false (fun q => nomatch q)
theorem key_rl (a : Str) (b : Int) : decide ((Sum.inr a : Key) = Sum.inl b) = false := decide_eq_false (fun q => nomatch q)

def mixKind (prog : Program) (w : World) : PySem.KeyKind prog w Key where
  is := keyIs
  hash := keyH w
  inj := fun v a b ha hb => by
    rcases keyIs_shape ha with ⟨i, t, rfl, rfl⟩ | ⟨x, t, rfl, rfl⟩
    · rcases keyIs_shape hb with ⟨j, u, rfl, e⟩ | ⟨y, u, rfl, e⟩
      · injection e with e1 _; rw [e1]
      · exact nomatch e
    · rcases keyIs_shape hb with ⟨j, u, rfl, e⟩ | ⟨y, u, rfl, e⟩
      · exact nomatch e
      · injection e with e1 _; rw [e1]
  byValue := fun k v h => by
    rcases keyIs_shape h with ⟨i, t, rfl, rfl⟩ | ⟨x, t, rfl, rfl⟩ <;> rfl
  pyHash := fun hv h => by
    rcases keyIs_shape hv with ⟨i, t, rfl, rfl⟩ | ⟨x, t, rfl, rfl⟩
    · exact wpAny_pyHash_int h
    · exact wpAny_pyHash_str h
  eqBool := fun hu hv h => by
    rcases keyIs_shape hu with ⟨i, t, rfl, rfl⟩ | ⟨x, t, rfl, rfl⟩
    · rcases keyIs_shape hv with ⟨j, u, rfl, rfl⟩ | ⟨y, u, rfl, rfl⟩
      · rw [key_ll] at h; exact wpAny_eqBool_int h
      · rw [key_lr] at h; exact SeqAt.EqAt.int_str i t y u _ _ _ _ h
    · rcases keyIs_shape hv with ⟨j, u, rfl, rfl⟩ | ⟨y, u, rfl, rfl⟩
      · rw [key_rl] at h; exact SeqAt.EqAt.str_int x t j u _ _ _ _ h
      · rw [key_rr] at h; exact wpAny_eqBool_str h
  «strs» := fun k x t v h => by
    rcases keyIs_shape h with ⟨i, u, rfl, e⟩ | ⟨y, u, rfl, e⟩
    · exact nomatch e
    · injection e with e1 _
      subst e1
      cases v <;> rfl

theorem mixKind_int (prog : Program) (w : World) (i : Int) (t : Tok) : (mixKind prog w).is (.inl i) (.int i t) = true := keyIs_int i t
theorem mixKind_str (prog : Program) (w : World) (x : Str) (t : Tok) : (mixKind prog w).is (.inr x) (.str x t) = true := keyIs_str x t
end L2

namespace L2
open PySem PySem.Spec PyProof.Rows

/-- a value, without the heap -/
inductive V where
  | non | bl (b : Bool) | int (i : Int) | str (x : Str) | byt (b : Array UInt8) | flt (b : UInt64) | ref (a : Addr) | ty (n : String)
  deriving DecidableEq

def RelV : V → Value → Prop
  | .non, u => u = Value.none
  | .bl b, u => u = Value.bool b
  | .int i, u => ∃ t, u = Value.int i t
  | .str x, u => ∃ t, u = Value.str x t
  | .byt b, u => ∃ t, u = Value.bytes b t
  | .flt b, u => ∃ t, u = Value.float b t
  | .ref a, u => u = Value.ref a
  | .ty n, u => u = Value.type n

abbrev Vals : List V → List Value → Prop := Paired RelV
theorem Vals.length {xs : List V} {us : List Value} (r : Vals xs us) : xs.length = us.length := Paired.length r
theorem Vals.get : ∀ {xs : List V} {us : List Value} {i : Nat} {x : V}, Vals xs us → xs[i]? = some x → ∃ u, us[i]? = some u ∧ RelV x u
  | _, _, _, _, .nil, e => by simp at e
  | _, _, 0, _, .cons r _, e => by simp at e; subst e; exact ⟨_, rfl, r⟩
  | _, _, i + 1, x, .cons _ t, e => by
    obtain ⟨u, h1, h2⟩ := Vals.get (i := i) (x := x) t (by simpa using e)
    exact ⟨u, by simpa using h1, h2⟩
theorem Vals.set {x : V} {u : Value} (r : RelV x u) : ∀ {xs : List V} {us : List Value} (i : Nat), Vals xs us → Vals (xs.set i x) (us.set i u)
  | _, _, _, .nil => .nil
  | _, _, 0, .cons _ t => .cons r t
  | _, _, i + 1, .cons q t => .cons q (Vals.set r i t)
theorem Vals.append : ∀ {xs ys : List V} {us ws : List Value}, Vals xs us → Vals ys ws → Vals (xs ++ ys) (us ++ ws)
  | _, _, _, _, .nil, s => s
  | _, _, _, _, .cons r t, s => .cons r (Vals.append t s)
theorem Vals.take : ∀ {xs : List V} {us : List Value} (n : Nat), Vals xs us → Vals (xs.take n) (us.take n)
  | _, _, 0, _ => .nil
  | _, _, _ + 1, .nil => .nil
  | _, _, n + 1, .cons r t => .cons r (Vals.take n t)
theorem Vals.drop : ∀ {xs : List V} {us : List Value} (n : Nat), Vals xs us → Vals (xs.drop n) (us.drop n)
  | _, _, 0, r => r
  | _, _, _ + 1, .nil => .nil
  | _, _, n + 1, .cons _ t => Vals.drop n t
def RelO : Option V → Option Value → Prop
  | some v, some u => RelV v u
  | none, none => True
  | _, _ => False
def KV {κ : Type} : List (κ × V) → List (κ × Value) → Prop := Paired fun (p : κ × V) (q : κ × Value) => p.1 = q.1 ∧ RelV p.2 q.2

/-- a key of a dict (00_mix): an int or a text -/
def kV : Key → V
  | .inl i => .int i
  | .inr x => .str x

/-- what stands at a tracked address -/
inductive HO where
  /-- a list -/
  | lst (xs : List V)
  /-- a tuple (never changes) -/
  | tup (xs : List V)
  /-- a dict whose keys are ints and texts; one whose keys are tuples of ints and texts (the empty one is both) -/
  | dK (kvs : List (Key × V)) | dT (kvs : List (List Key × V))
  /-- a set of ints: its members, its size -/
  | set (S : Int → Bool) (n : Nat)
  /-- an instance of the class at C, its dict at dx, its attributes -/
  | ins (C dx : Addr) (fs : List (Str × V))
  /-- the dict of the instance at x -/
  | own (x : Addr)
  /-- the dict of an exception -/
  | xd (fs : List (Str × V))
  /-- a bound method, f of x -/
  | met (f x : Addr)
  /-- a range object lo, lo + 1, .. below hi -/
  | rng (lo hi : Int)
  /-- a thing that is known to the object (the script; a dict while a loop walks it): read, never written while it is so -/
  | frz (o : Obj) (u : HO)
  /-- a code object's table -/
  | tbl (ps : Array Value)
  /-- any other thing, by what is true of its one object (a def of one's own: SetO a S n := HO.ext fun h => ..) -/
  | ext (φ : Heap → Prop)

abbrev Hp := Addr → Option HO
def upd (H : Hp) (a : Addr) (o : HO) : Hp := fun b => if b = a then some o else H b
theorem upd_same {H : Hp} {a : Addr} {o : HO} : upd H a o a = some o := by unfold upd; rw [if_pos rfl]
theorem upd_ne {H : Hp} {a b : Addr} {o : HO} (h : b ≠ a) : upd H a o b = H b := by unfold upd; rw [if_neg h]
theorem upd_upd {H : Hp} {a : Addr} {o u : HO} : upd (upd H a o) a u = upd H a u := by
  funext b; unfold upd; split <;> rfl
/-- two objects of different content stand apart -/
theorem ne_of {H : Hp} {a b : Addr} {o u : HO} (h : H a = some o) (h' : H b = some u) (d : o ≠ u) : a ≠ b := by
  intro e; subst e; rw [h] at h'; exact d (Option.some.inj h')
theorem ne_of_none {H : Hp} {a b : Addr} {o : HO} (h : H a = some o) (h' : H b = none) : a ≠ b := by
  intro e; subst e; rw [h] at h'; cases h'

section
variable (P : Program) (w : World)
def ObjOk (H : Hp) (h : Heap) (a : Addr) : HO → Prop
  | .lst xs => xs.length ≤ sizeLine ∧ ∃ (its : List Value) (n : Nat), Vals xs its ∧ h.get? a = some { cls := .type "list", data := .seq its.toArray n }
  | .tup xs => xs.length ≤ sizeLine ∧ ∃ its : List Value, Vals xs its ∧ IsTup h a its.toArray
  | .dK kvs => kvs.length ≤ sizeLine ∧ (a == sysModules) = false ∧ ∃ vs, KV kvs vs ∧ h.DictOf (mixKind P w) a vs
  | .dT kvs => kvs.length ≤ sizeLine ∧ (a == sysModules) = false ∧ ∃ xs : List (List Key × Addr × Value),
      Paired (fun (p : List Key × V) (q : List Key × Addr × Value) => p.1 = q.1 ∧ H q.2.1 = some (.tup (p.1.map kV)) ∧ RelV p.2 q.2.2) kvs xs ∧
      ∃ o es ep, h.get? a = some o ∧ o.ExactDict ∧ o.data = .dict es ep ∧ es.toList = xs.map (entryOfKey (tupleKind (mixKind P w))) ∧ (xs.map (·.1)).Nodup
  | .set S n => h.SetOf (intKind P w) a S n
  | .ins C dx fs => H dx = some (.own a) ∧ fs.length ≤ 1000 ∧ dx ≠ a ∧ h.get? a = some (PySem.W.instObj C dx) ∧
      ∃ mA, h.Ns1 dx mA ∧ (∀ f, RelO (fs.lookup f) (mA f)) ∧ PySem.Within mA (fs.map (·.1))
  | .own _ => ∃ o, h.get? a = some o
  | .xd fs => ∃ mA, h.Ns1 a mA ∧ ∀ f, RelO (fs.lookup f) (mA f)
  | .rng lo hi => ∃ t u v, h.get? a = some { cls := .type "range", data := .fields #[.int lo t, .int hi u, .int 1 v] }
  | .frz o u => h.get? a = some o ∧ ObjOk H h a u
  | .tbl ps => h.get? a = some { cls := .none, data := .fields ps }
  | .met f x => h.get? a = some (PySem.W.methodObj (.ref f) (.ref x))
  | .ext φ => φ h ∧ (∃ o, h.get? a = some o) ∧ ∀ h1 h2 : Heap, φ h1 → (∀ o, h1.get? a = some o → h2.get? a = some o) → φ h2
/-- the abstract heap is held -/
def HOk (H : Hp) (h : Heap) : Prop := ∀ a o, H a = some o → ObjOk P w H h a o
end

section
variable {P : Program} {w : World} {H H' : Hp} {h h' : Heap} {a : Addr} {o : HO}
theorem ObjOk.lt (x : ObjOk P w H h a o) : a < h.objs.size := by
  cases o with
  | lst xs => obtain ⟨_, _, _, _, e⟩ := x; exact Heap.lt_size e
  | tup xs => obtain ⟨_, _, _, p⟩ := x; exact p.lt
  | dK kvs => obtain ⟨_, _, _, _, o, _, _, e, _⟩ := x; exact Heap.lt_size e
  | dT kvs => obtain ⟨_, _, _, _, o, _, _, e, _⟩ := x; exact Heap.lt_size e
  | set S n => obtain ⟨o, _, _, _, e, _⟩ := x; exact Heap.lt_size e
  | ins C dx fs => obtain ⟨_, _, _, e, _⟩ := x; exact Heap.lt_size e
  | own y => obtain ⟨_, e⟩ := x; exact Heap.lt_size e
  | xd fs => obtain ⟨_, ⟨_, _, _, e, _⟩, _⟩ := x; exact Heap.lt_size e
  | rng lo hi => obtain ⟨_, _, _, e⟩ := x; exact Heap.lt_size e
  | frz ob u => obtain ⟨e, _⟩ := x; exact Heap.lt_size e
  | tbl ps => exact Heap.lt_size (show h.get? a = some _ from x)
  | met f y => exact Heap.lt_size (show h.get? a = some _ from x)
  | ext φ => obtain ⟨_, ⟨_, e⟩, _⟩ := x; exact Heap.lt_size e
theorem Paired.mapP {α β : Type} {F G : α → β → Prop} : ∀ {l₁ : List α} {l₂ : List β}, Paired F l₁ l₂ → (∀ a b, F a b → G a b) → Paired G l₁ l₂
  | _, _, .nil, _ => .nil
  | _, _, .cons r t, f => .cons (f _ _ r) (Paired.mapP t f)
/-- what an object's description leans on: its own object, its own dict, the tuples -/
theorem ObjOk.stay (x : ObjOk P w H h a o) (k : ∀ b u, (b = a ∨ H b = some (.own a)) → h.get? b = some u → h'.get? b = some u)
    (ho : ∀ b, H b = some (.own a) → H' b = some (.own a)) (ht : ∀ b xs, H b = some (.tup xs) → H' b = some (.tup xs)) : ObjOk P w H' h' a o := by
  induction o with
  | lst xs => obtain ⟨z, its, n, r, e⟩ := x; exact ⟨z, its, n, r, k _ _ (.inl rfl) e⟩
  | tup xs => obtain ⟨z, its, r, ob, e, c⟩ := x; exact ⟨z, its, r, ob, k _ _ (.inl rfl) e, c⟩
  | dK kvs => obtain ⟨z, y, vs, r, ob, es, ep, e, c⟩ := x; exact ⟨z, y, vs, r, ob, es, ep, k _ _ (.inl rfl) e, c⟩
  | dT kvs =>
    obtain ⟨z, y, xs, r, ob, es, ep, e, c⟩ := x
    exact ⟨z, y, xs, Paired.mapP r fun p q z => ⟨z.1, ht _ _ z.2.1, z.2.2⟩, ob, es, ep, k _ _ (.inl rfl) e, c⟩
  | set S n => obtain ⟨ob, es, ep, t, e, c⟩ := x; exact ⟨ob, es, ep, t, k _ _ (.inl rfl) e, c⟩
  | ins C dx fs =>
    obtain ⟨d, z, ne, e, mA, ⟨od, es, ep, e2, c⟩, r⟩ := x
    exact ⟨ho _ d, z, ne, k _ _ (.inl rfl) e, mA, ⟨od, es, ep, k _ _ (.inr d) e2, c⟩, r⟩
  | own y => obtain ⟨ob, e⟩ := x; exact ⟨ob, k _ _ (.inl rfl) e⟩
  | xd fs => obtain ⟨mA, ⟨od, es, ep, e, c⟩, r⟩ := x; exact ⟨mA, ⟨od, es, ep, k _ _ (.inl rfl) e, c⟩, r⟩
  | rng lo hi => obtain ⟨t, u, v, e⟩ := x; exact ⟨t, u, v, k _ _ (.inl rfl) e⟩
  | frz ob u ih => obtain ⟨e, q⟩ := x; exact ⟨k _ _ (.inl rfl) e, ih q⟩
  | tbl ps =>
    have e : h.get? a = some { cls := .none, data := .fields ps } := x
    show h'.get? a = some { cls := .none, data := .fields ps }
    exact k a _ (.inl rfl) e
  | met f y =>
    have e : h.get? a = some (PySem.W.methodObj (.ref f) (.ref y)) := x
    show h'.get? a = some (PySem.W.methodObj (.ref f) (.ref y))
    exact k a _ (.inl rfl) e
  | ext φ => obtain ⟨p, ⟨o, e⟩, st⟩ := x; exact ⟨st _ _ p fun o q => k _ _ (.inl rfl) q, ⟨o, k _ _ (.inl rfl) e⟩, st⟩
theorem HOk.lt (x : HOk P w H h) (e : H a = some o) : a < h.objs.size := (x a o e).lt
theorem HOk.fresh (x : HOk P w H h) (e : h.objs.size ≤ a) : H a = none := by
  cases q : H a with
  | none => rfl
  | some u => exact absurd (Nat.lt_of_lt_of_le (x.lt q) e) (Nat.lt_irrefl _)
/-- every object of the heap is kept -/
theorem HOk.kept (x : HOk P w H h) (k : ∀ b u, h.get? b = some u → h'.get? b = some u) : HOk P w H h' := fun a o e =>
  (x a o e).stay (fun b u _ q => k b u q) (fun _ q => q) fun _ _ q => q
/-- a new object is laid and tracked -/
theorem HOk.laid (x : HOk P w H h) (k : ∀ b u, h.get? b = some u → h'.get? b = some u) (hp : h.objs.size ≤ a) (new : ObjOk P w (upd H a o) h' a o) : HOk P w (upd H a o) h' := fun b u e => by
  have hn := x.fresh hp
  by_cases hb : b = a
  · subst hb; rw [upd_same] at e; cases e; exact new
  · rw [upd_ne hb] at e
    exact (x b u e).stay (fun c v _ q => k c v q) (fun c q => by rw [upd_ne (ne_of_none q hn)]; exact q) fun c xs q => by rw [upd_ne (ne_of_none q hn)]; exact q
end

/-- what may be read as u: it is u, or a known u -/
def Rd (H : Hp) (a : Addr) (u : HO) : Prop := H a = some u ∨ ∃ o, H a = some (.frz o u)
theorem Rd.of {H : Hp} {a : Addr} {u : HO} (h : H a = some u) : Rd H a u := .inl h
theorem Rd.ok {P : Program} {w : World} {H : Hp} {h : Heap} {a : Addr} {u : HO} (r : Rd H a u) (x : HOk P w H h) : ObjOk P w H h a u := by
  rcases r with r | ⟨o, r⟩
  · exact x a u r
  · obtain ⟨_, q⟩ := x a _ r
    exact q
/-- what may be written -/
def Mut : Option HO → Prop
  | some (.lst _) => True
  | some (.dK _) => True
  | some (.dT _) => True
  | some (.set _ _) => True
  | some (.ins _ _ _) => True
  | some (.ext _) => True
  | _ => False
section
variable {P : Program} {w : World} {H : Hp} {h h' : Heap} {x e : Addr} {o' : HO}
/-- the object at e is changed: x itself, or the dict of the instance x -/
theorem HOk.write (ok : HOk P w H h) (mu : Mut (H x)) (he : e = x ∨ H e = some (.own x)) (k : ∀ b u, b ≠ e → h.get? b = some u → h'.get? b = some u) (heo : ∃ u, h'.get? e = some u)
    (new : ObjOk P w (upd H x o') h' x o') : HOk P w (upd H x o') h' := fun b u q => by
  have nown : ∀ c y, H c = some (.own y) → c ≠ x := fun c y r z => by subst z; rw [r] at mu; exact mu
  have ntup : ∀ c xs, H c = some (.tup xs) → c ≠ x := fun c xs r z => by subst z; rw [r] at mu; exact mu
  by_cases hb : b = x
  · subst hb; rw [upd_same] at q; cases q; exact new
  · rw [upd_ne hb] at q
    by_cases hbe : b = e
    · have q' : H b = some (.own x) := by
        rcases he with z | z
        · exact absurd (hbe.trans z) hb
        · rw [hbe]; exact z
      rw [q] at q'; cases q'
      obtain ⟨v, hv⟩ := heo
      exact ⟨v, by rw [hbe]; exact hv⟩
    · refine (ok b u q).stay (fun c v hc r => k c v ?_ r) (fun c r => by rw [upd_ne (nown c b r)]; exact r) fun c xs r => by rw [upd_ne (ntup c xs r)]; exact r
      rcases hc with rfl | hc
      · exact hbe
      · rintro rfl
        rcases he with z | z
        · exact nown c b hc z
        · rw [hc] at z; cases z; exact hb rfl
end

/-! ### kept unless tracked; of the frames at fs (the callers') the slots may change (an exception that passes writes there); of the records at ex (iterators) nothing is said -/
structure Un (fs ex : List Addr) (H H' : Hp) (h h' : Heap) : Prop where
  keep : ∀ b o, h.get? b = some o → H b = none → b ∉ fs → b ∉ ex → h'.get? b = some o
  slot : ∀ b o, h.get? b = some o → H b = none → b ∈ fs → b ∉ ex → ∃ sl, h'.get? b = some { o with slots := sl }
  free : ∀ b o, h.get? b = some o → H b = none → b ∉ ex → H' b = none
  there : ∀ b o, h.get? b = some o → b ∉ ex → ∃ o', h'.get? b = some o'
  tups : ∀ b xs, H b = some (.tup xs) → H' b = some (.tup xs)
  frzs : ∀ b o u, H b = some (.frz o u) → H' b = some (.frz o u)
  tbls : ∀ b ps, H b = some (.tbl ps) → ∃ more, H' b = some (.tbl (ps ++ more))
section
variable {fs fs' ex ex' : List Addr} {H H1 H2 : Hp} {h h1 h2 h' : Heap} {a x e : Addr} {o : HO}
theorem Un.any (u : Un fs ex H H1 h h1) {b : Addr} {ob : Obj} (q : h.get? b = some ob) (n : H b = none) (hx : b ∉ ex) : ∃ sl, h1.get? b = some { ob with slots := sl } := by
  by_cases hb : b ∈ fs
  · exact u.slot b ob q n hb hx
  · exact ⟨ob.slots, u.keep b ob q n hb hx⟩
theorem Un.trans (a : Un fs ex H H1 h h1) (b : Un fs ex H1 H2 h1 h2) : Un fs ex H H2 h h2 where
  keep := fun c ob q n hc hx => b.keep c ob (a.keep c ob q n hc hx) (a.free c ob q n hx) hc hx
  slot := fun c ob q n hc hx => by
    obtain ⟨sl, e1⟩ := a.slot c ob q n hc hx
    obtain ⟨sl', e2⟩ := b.slot c _ e1 (a.free c ob q n hx) hc hx
    exact ⟨sl', e2⟩
  free := fun c ob q n hx => by
    obtain ⟨o', e1⟩ := a.there c ob q hx
    exact b.free c o' e1 (a.free c ob q n hx) hx
  there := fun c ob q hx => by
    obtain ⟨o', e1⟩ := a.there c ob q hx
    exact b.there c o' e1 hx
  tups := fun c xs q => b.tups c xs (a.tups c xs q)
  frzs := fun c ob xs q => b.frzs c ob xs (a.frzs c ob xs q)
  tbls := fun c ps q => by
    obtain ⟨m1, e1⟩ := a.tbls c ps q
    obtain ⟨m2, e2⟩ := b.tbls c _ e1
    exact ⟨m1 ++ m2, by rw [e2, Array.append_assoc]⟩
theorem Un.kept (k : ∀ b u, h.get? b = some u → h'.get? b = some u) : Un fs ex H H h h' :=
  ⟨fun b ob q _ _ _ => k b ob q, fun b ob q _ _ _ => ⟨ob.slots, k b ob q⟩, fun _ _ _ n _ => n, fun b ob q _ => ⟨ob, k b ob q⟩, fun _ _ q => q, fun _ _ _ q => q, fun _ ps q => ⟨#[], by rw [q]; simp⟩⟩
theorem Un.refl : Un fs ex H H h h := Un.kept fun _ _ q => q
theorem Un.laid (k : ∀ b u, h.get? b = some u → h'.get? b = some u) (hp : h.objs.size ≤ a) (hn : H a = none) : Un fs ex H (upd H a o) h h' where
  keep := fun b u q _ _ _ => k b u q
  slot := fun b u q _ _ _ => ⟨u.slots, k b u q⟩
  free := fun b u q n _ => by rw [upd_ne (Nat.ne_of_lt (Nat.lt_of_lt_of_le (Heap.lt_size q) hp))]; exact n
  there := fun b u q _ => ⟨u, k b u q⟩
  tups := fun b xs q => by rw [upd_ne (ne_of_none q hn)]; exact q
  frzs := fun b u xs q => by rw [upd_ne (ne_of_none q hn)]; exact q
  tbls := fun b ps q => ⟨#[], by rw [upd_ne (ne_of_none q hn), q]; simp⟩
theorem Un.write (mu : Mut (H x)) (he : e = x ∨ H e = some (.own x)) (k : ∀ b u, b ≠ e → h.get? b = some u → h'.get? b = some u) (heo : ∃ u, h'.get? e = some u) : Un fs ex H (upd H x o) h h' := by
  have hx : ∀ b, H b = none → b ≠ x := fun b n z => by subst z; rw [n] at mu; exact mu
  have hb : ∀ b, H b = none → b ≠ e := fun b n z => by
    subst z
    rcases he with r | r
    · exact hx b n r
    · rw [n] at r; cases r
  have hm : ∀ b u, H b = some u → ¬ Mut (some u) → b ≠ x := fun b u q nm z => by subst z; rw [q] at mu; exact nm mu
  refine ⟨fun b u q n _ _ => k b u (hb b n) q, fun b u q n _ _ => ⟨u.slots, k b u (hb b n) q⟩, fun b u q n _ => by rw [upd_ne (hx b n)]; exact n, fun b u q _ => ?_,
    fun b xs q => by rw [upd_ne (hm b _ q fun z => z)]; exact q, fun b u xs q => by rw [upd_ne (hm b _ q fun z => z)]; exact q, fun b ps q => ⟨#[], by rw [upd_ne (hm b _ q fun z => z), q]; simp⟩⟩
  by_cases hbe : b = e
  · subst hbe; exact heo
  · exact ⟨u, k b u hbe q⟩
theorem Un.mono (u : Un fs ex H H1 h h1) (hs : ∀ b ∈ fs, b ∈ fs') (hx : ∀ b ∈ ex, b ∈ ex') : Un fs' ex' H H1 h h1 :=
  ⟨fun b ob q n hb he => u.keep b ob q n (fun z => hb (hs b z)) fun z => he (hx b z), fun _ _ q n _ he => u.any q n fun z => he (hx _ z), fun b ob q n he => u.free b ob q n fun z => he (hx b z), fun b ob q he => u.there b ob q fun z => he (hx b z), u.tups, u.frzs, u.tbls⟩
end

/-! ### the heap without what is tracked -/
def trk (h : Heap) (H : Hp) : List Addr := (List.range h.objs.size).filter fun a => (H a).isSome
def hidT (h : Heap) (H : Hp) : Heap := PySem.W.hideAll h (trk h H)
theorem hidT_size (h : Heap) (H : Hp) : (hidT h H).objs.size = h.objs.size := PySem.W.hideAll_size _ _
theorem hidT_get {h : Heap} {H : Hp} {b : Addr} {o : Obj} (e : h.get? b = some o) (n : H b = none) : (hidT h H).get? b = some o :=
  PySem.W.hideAll_get _ e fun hm => by
    have q : (H b).isSome = true := (List.mem_filter.mp hm).2
    rw [n] at q; simp at q
theorem of_hidT {h : Heap} {H : Hp} {b : Addr} {o : Obj} (e : (hidT h H).get? b = some o) : h.get? b = some o ∧ H b = none := by
  have e' : h.get? b = some o := PySem.W.of_hideAll (trk h H) e
  refine ⟨e', ?_⟩
  cases q : H b with
  | none => rfl
  | some x =>
    have hm : b ∈ trk h H := List.mem_filter.mpr ⟨List.mem_range.mpr (Heap.lt_size e'), by simp [q]⟩
    have z : (hidT h H).get? b = none := PySem.W.hideAll_none (trk h H) hm
    rw [z] at e; cases e

/-! ### OpenK's ledger, filled with every new object but one -/
def allNews (g h : Heap) (L : Addr) : List (Addr × Obj) := (List.range h.objs.size).filterMap fun a => if a = L ∨ (g.get? a).isSome = true then none else (h.get? a).map fun o => (a, o)
def rest (g h : Heap) (L d : Addr) : List (Addr × Obj) := (allNews g h L).filter fun p => decide (p.1 ≠ d)
end L2

namespace L2
open PySem PySem.Spec PyProof.Rows

/-- the module's facts, over the base: the heap at the law's entry without what is tracked there -/
structure Mod (K : PySem.W.Frag) (mg : Str → Option Value) (base : Heap) : Prop where
  kin : K.In base
  glob : base.Ns mainGlobals mg
  blt : ∃ mb, base.Ns builtinsNs mb ∧ ∀ x : Str, x ≠ "__name__" → mb x = bootBuiltins x
  nolimit : base.NoLimit

/-- the context: a def's body (or a comprehension's block) running. base: fixed through the whole law; s₀, H₀: the entry; outer: the frames whose slots others may change (a def's callers); stack: all frames that run;
   ex: iterators that were made ahead of the entry and are walked here (a comprehension's); fn: the names whose cells were made at the entry (a def: all; a comprehension's block: its own); calm: not within an except suite; pn: pins that every state bears; xe: what is wanted of an exception that leaves the code -/
structure Cx where
  prog : Program
  w : World
  K : PySem.W.Frag
  mg : Str → Option Value
  base : Heap
  A : Around
  N : List Str
  s_0 : Shared
  H_0 : Hp
  env : Env
  outer : List Env
  stack : List Env
  ex : List Addr
  fn : Str → Bool
  calm : Bool
  pn : List (Addr × Obj)
  xe : Value → Shared → Prop
/-- the callers' frames -/
def frs (l : List Env) : List Addr := l.filterMap (·.frame)
abbrev Cx.fs (X : Cx) : List Addr := frs X.outer

def Vis (sc : Scope) (x : Str) : Prop := sc.names.lookup x = some .local ∨ sc.names.lookup x = some .cell ∨ sc.names.lookup x = some .free
def Loc (sc : Scope) (x : Str) : Prop := sc.names.lookup x = some .local ∨ sc.names.lookup x = some .cell
def Look (env : Env) (h : Heap) (m : Str → Option Value) (x : Str) (u : Value) : Prop :=
  (env.kindOf x = some .local ∧ m x = some u) ∨ ((env.kindOf x = some .cell ∨ env.kindOf x = some .free) ∧ ∃ c, env.cells.lookup x = some c ∧ h.IsCell c (some u))

structure Cx.Ok (X : Cx) : Prop where
  mod : Mod X.K X.mg X.base
  kind : X.env.scope.kind = .function
  glob : X.env.globals = mainGlobals
  blt : X.env.builtins = builtinsNs
  above : X.s_0.heap.objs.size ≤ X.env.locals
  inj : ∀ x y c, X.env.cells.lookup x = some c → X.env.cells.lookup y = some c → x = y
  has : ∀ x, (X.env.kindOf x = some .cell ∨ X.env.kindOf x = some .free) → ∃ c, X.env.cells.lookup x = some c
  cab : ∀ x c, X.fn x = true → X.env.cells.lookup x = some c → X.s_0.heap.objs.size ≤ c
  hd : X.calm = true → X.A.handled = none
  frames : X.A.frames = some X.stack
  stk : X.stack = X.outer ∨ (X.stack = X.env :: X.outer ∧ X.env.frame = some X.env.locals)
  exf : ∀ b ∈ X.ex, b ≠ X.env.locals ∧ ∀ x c, X.env.cells.lookup x = some c → c ≠ b
  bs : ∀ b o, X.base.get? b = some o → X.s_0.heap.get? b = some o ∧ X.H_0 b = none
  bsz : X.base.objs.size ≤ X.s_0.heap.objs.size
  noex : ∀ b o, X.base.get? b = some o → b ∉ X.ex
  exfs : ∀ b ∈ X.ex, b ∉ X.fs
  funs : X.s_0.heap.FunFrames X.base X.outer
  frf : ∀ b ∈ X.fs, X.H_0 b = none

structure Inv (X : Cx) (pins : List (Addr × Obj)) (σ : List (Option V)) (H : Hp) (s : Shared) : Prop where
  ok : X.Ok
  os : s.os = X.s_0.os
  bare : AllBare s.gens
  base : Un X.fs X.ex X.H_0 H X.s_0.heap s.heap
  loc : ∃ m, s.heap.Ns X.env.locals m ∧ ∀ (i : Nat) (x : Str) (v : V), X.N[i]? = some x → σ[i]? = some (some v) → Vis X.env.scope x → ∃ u, RelV v u ∧ Look X.env s.heap m x u
  cell : ∀ x c, X.env.cells.lookup x = some c → ∃ v, s.heap.IsCell c v
  free : H X.env.locals = none
  freeC : ∀ x c, X.env.cells.lookup x = some c → H c = none
  pin : ∀ p ∈ X.pn ++ pins, s.heap.get? p.1 = some p.2 ∧ H p.1 = none ∧ p.1 ≠ X.env.locals ∧ p.1 ∉ X.fs ∧ ∀ v, p.2.data ≠ .cell v
  hok : HOk X.prog X.w H s.heap
  len : σ.length = X.N.length

section
variable {X : Cx} {pins : List (Addr × Obj)} {σ : List (Option V)} {H H' : Hp} {s : Shared} {h' : Heap}

theorem Cx.Ok.nofr (ok : X.Ok) {b : Addr} {o : Obj} (e : X.base.get? b = some o) : b ∉ X.fs := fun hb => by
  have := (ok.funs.mem hb).1
  rw [e] at this; cases this
theorem Inv.bs (I : Inv X pins σ H s) : ∀ b o, X.base.get? b = some o → s.heap.get? b = some o ∧ H b = none := fun b o e =>
  ⟨I.base.keep b o (I.ok.bs b o e).1 (I.ok.bs b o e).2 (I.ok.nofr e) (I.ok.noex b o e), I.base.free b o (I.ok.bs b o e).1 (I.ok.bs b o e).2 (I.ok.noex b o e)⟩
theorem Inv.bk (I : Inv X pins σ H s) : ∀ b o, X.base.get? b = some o → s.heap.get? b = some o := fun b o e => (I.bs b o e).1
theorem Inv.mod (I : Inv X pins σ H s) : Mod X.K X.mg X.base := I.ok.mod
theorem Inv.kIn (I : Inv X pins σ H s) : X.K.In s.heap := I.ok.mod.kin.keeps I.bk
theorem Inv.nolimit (I : Inv X pins σ H s) : s.heap.NoLimit := I.ok.mod.nolimit.keeps I.bk
/-- the frame over the base: for OpenK's rules (K.In X.base is I.mod.kin) -/
theorem Inv.fr (I : Inv X pins σ H s) : ∃ m, Fr X.base X.env.locals s.heap m :=
  let ⟨m, hn, _⟩ := I.loc
  ⟨m, hn, I.bk, Nat.le_trans I.ok.bsz I.ok.above⟩
theorem Inv.lt (I : Inv X pins σ H s) : X.env.locals < s.heap.objs.size := let ⟨_, hn, _⟩ := I.loc; hn.lt
theorem Inv.sz (I : Inv X pins σ H s) : X.s_0.heap.objs.size ≤ s.heap.objs.size := Nat.le_trans I.ok.above (Nat.le_of_lt I.lt)
theorem Inv.nofs (I : Inv X pins σ H s) {a : Addr} (h : s.heap.objs.size ≤ a) : a ∉ X.fs := fun hb => by
  obtain ⟨_, o, ho, _⟩ := I.ok.funs.mem hb
  exact absurd (Nat.lt_of_lt_of_le (Heap.lt_size ho) (Nat.le_trans I.sz h)) (Nat.lt_irrefl _)
theorem Inv.cne (I : Inv X pins σ H s) : ∀ x c, X.env.cells.lookup x = some c → c ≠ X.env.locals := fun x c e z => by
  obtain ⟨v, o, ho, hd⟩ := I.cell x c e
  obtain ⟨m, ⟨o', es, ep, ho', hd', _⟩, _⟩ := I.loc
  rw [z, ho'] at ho; cases ho; rw [hd'] at hd; cases hd
theorem Inv.funs (I : Inv X pins σ H s) : s.heap.FunFrames X.base X.outer := by
  have all : ∀ (l : List Env), (∀ b ∈ frs l, b ∈ X.fs) → X.s_0.heap.FunFrames X.base l → s.heap.FunFrames X.base l := by
    intro l
    induction l with
    | nil => intro _ _; trivial
    | cons env r ih =>
      intro hs hl
      obtain ⟨hk, ⟨L, o, hf, hn, ho, hd⟩, hr⟩ := hl
      have hL : L ∈ X.fs := hs L (by unfold frs; rw [List.filterMap_cons, hf]; exact List.mem_cons_self)
      obtain ⟨sl, e⟩ := I.base.slot L o ho (I.ok.frf L hL) hL fun z => I.ok.exfs L z hL
      exact ⟨hk, ⟨L, _, hf, hn, e, hd⟩, ih (fun b hb => hs b (by unfold frs; rw [List.filterMap_cons, hf]; exact List.mem_cons_of_mem _ hb)) hr⟩
  exact all X.outer (fun _ hb => hb) I.ok.funs

/-- the frames that run, for a call -/
theorem Inv.stack (I : Inv X pins σ H s) : s.heap.FunFrames X.base X.stack := by
  rcases I.ok.stk with e | ⟨e, hf⟩
  · rw [e]; exact I.funs
  · rw [e]
    obtain ⟨m, hn, _⟩ := I.loc
    refine .cons (by rw [I.ok.kind]; decide) hf hn ?_ I.funs
    exact Heap.get?_none_of_le (Nat.le_trans I.ok.bsz I.ok.above)
theorem Inv.stkSub (I : Inv X pins σ H s) : ∀ b ∈ frs X.stack, b ∈ X.env.locals :: X.fs := fun b hb => by
  rcases I.ok.stk with e | ⟨e, hf⟩
  · rw [e] at hb; exact List.mem_cons_of_mem _ hb
  · rw [e] at hb
    unfold frs at hb
    rw [List.filterMap_cons, hf] at hb
    exact hb
theorem Inv.stkFree (I : Inv X pins σ H s) : ∀ b ∈ frs X.stack, H b = none := fun b hb => by
  rcases List.mem_cons.mp (I.stkSub b hb) with e | hb
  · rw [e]; exact I.free
  · obtain ⟨_, o, ho, _⟩ := I.ok.funs.mem hb
    exact I.base.free b o ho (I.ok.frf b hb) fun z => I.ok.exfs b z hb

/-- THE STEP: the untracked objects but the frame and the records at ch are kept (the callers' frames up to slots), the frame's map is kept, the new abstract heap is held -/
theorem Inv.step {g' : Array GenState} {t' : Nat} {d' : Drawn} {ch : List Addr} (I : Inv X pins σ H s)
    (hch : ∀ b ∈ ch, (b ∈ X.ex ∨ X.s_0.heap.objs.size ≤ b) ∧ b ≠ X.env.locals ∧ (∀ x c, X.env.cells.lookup x = some c → c ≠ b) ∧ ∀ p ∈ X.pn ++ pins, p.1 ≠ b)
    (keep : ∀ b o, b ≠ X.env.locals → b ∉ X.fs → b ∉ ch → s.heap.get? b = some o → H b = none → h'.get? b = some o)
    (slot : ∀ b o, b ≠ X.env.locals → b ∈ X.fs → b ∉ ch → s.heap.get? b = some o → H b = none → ∃ sl, h'.get? b = some { o with slots := sl }) (free : ∀ b o, b ∉ ch → s.heap.get? b = some o → H b = none → H' b = none)
    (there : ∀ b o, b ∉ ch → s.heap.get? b = some o → ∃ o', h'.get? b = some o')
    (tups : ∀ b xs, H b = some (.tup xs) → H' b = some (.tup xs)) (frzs : ∀ b o u, H b = some (.frz o u) → H' b = some (.frz o u)) (tbls : ∀ b ps, H b = some (.tbl ps) → ∃ more, H' b = some (.tbl (ps ++ more)))
    (ns : ∀ m, s.heap.Ns X.env.locals m → h'.Ns X.env.locals m) (hok : HOk X.prog X.w H' h') (hg : AllBare g') :
    Inv X pins σ H' { s with heap := h', gens := g', drawn := d', toks := t' } := by
  have neL : ∀ b o, X.s_0.heap.get? b = some o → b ≠ X.env.locals := fun b o e => Nat.ne_of_lt (Nat.lt_of_lt_of_le (Heap.lt_size e) I.ok.above)
  have neC : ∀ b o, X.s_0.heap.get? b = some o → b ∉ X.ex → b ∉ ch := fun b o e hx hb => by
    rcases (hch b hb).1 with z | z
    · exact hx z
    · exact absurd (Nat.lt_of_lt_of_le (Heap.lt_size e) z) (Nat.lt_irrefl _)
  have cellK : ∀ x c, X.env.cells.lookup x = some c → ∀ v, s.heap.IsCell c v → h'.IsCell c v := fun x c e v ⟨o, ho, hd⟩ => by
    have nch : c ∉ ch := fun z => (hch c z).2.2.1 x c e rfl
    by_cases hc : c ∈ X.fs
    · obtain ⟨sl, q⟩ := slot c o (I.cne x c e) hc nch ho (I.freeC x c e)
      exact ⟨_, q, hd⟩
    · exact ⟨o, keep c o (I.cne x c e) hc nch ho (I.freeC x c e), hd⟩
  refine ⟨I.ok, I.os, hg, ⟨fun b o e n hb hx => ?_, fun b o e n hb hx => ?_, fun b o e n hx => ?_, fun b o e hx => ?_, fun b xs e => tups b xs (I.base.tups b xs e), fun b o xs e => frzs b o xs (I.base.frzs b o xs e), fun b ps e => ?_⟩, ?_, fun x c e => ?_, ?_, fun x c e => ?_, fun p hp => ?_, hok, I.len⟩
  · exact keep b o (neL b o e) hb (neC b o e hx) (I.base.keep b o e n hb hx) (I.base.free b o e n hx)
  · obtain ⟨sl, e1⟩ := I.base.slot b o e n hb hx
    obtain ⟨sl', e2⟩ := slot b _ (neL b o e) hb (neC b o e hx) e1 (I.base.free b o e n hx)
    exact ⟨sl', e2⟩
  · obtain ⟨o', e1⟩ := I.base.there b o e hx
    exact free b o' (neC b o e hx) e1 (I.base.free b o e n hx)
  · obtain ⟨o', e1⟩ := I.base.there b o e hx
    exact there b o' (neC b o e hx) e1
  · obtain ⟨m1, e1⟩ := I.base.tbls b ps e
    obtain ⟨m2, e2⟩ := tbls b _ e1
    exact ⟨m1 ++ m2, by rw [e2, Array.append_assoc]⟩
  · obtain ⟨m, hn, hl⟩ := I.loc
    refine ⟨m, ns m hn, fun i x v e1 e2 e3 => ?_⟩
    obtain ⟨u, r, l⟩ := hl i x v e1 e2 e3
    refine ⟨u, r, ?_⟩
    rcases l with l | ⟨k, c, e, z⟩
    · exact .inl l
    · exact .inr ⟨k, c, e, cellK x c e _ z⟩
  · obtain ⟨v, z⟩ := I.cell x c e
    exact ⟨v, cellK x c e v z⟩
  · obtain ⟨m, ⟨o, _, _, ho, _⟩, _⟩ := I.loc
    exact free _ o (fun z => (hch _ z).2.1 rfl) ho I.free
  · obtain ⟨v, o, ho, hd⟩ := I.cell x c e
    exact free c o (fun z => (hch c z).2.2.1 x c e rfl) ho (I.freeC x c e)
  · obtain ⟨e, n, ne, nf, d⟩ := I.pin p hp
    have nch : p.1 ∉ ch := fun z => (hch p.1 z).2.2.2 p hp rfl
    exact ⟨keep p.1 p.2 ne nf nch e n, free p.1 p.2 nch e n, ne, nf, d⟩
/-- .. where the frame's own object is kept too -/
theorem Inv.un {t' : Nat} (I : Inv X pins σ H s) (u : Un X.fs [] H H' s.heap h') (hok : HOk X.prog X.w H' h') : Inv X pins σ H' { s with heap := h', toks := t' } := by
  obtain ⟨m, ⟨o, es, ep, ho, r⟩, _⟩ := id I.loc
  obtain ⟨sl, hL⟩ := u.any ho I.free (by simp)
  exact I.step (g' := s.gens) (d' := s.drawn) (ch := []) (fun _ z => nomatch z) (fun b o _ hb _ e n => u.keep b o e n hb (by simp)) (fun b o _ hb _ e n => u.slot b o e n hb (by simp)) (fun b o _ e n => u.free b o e n (by simp)) (fun b o _ e => u.there b o e (by simp)) u.tups u.frzs u.tbls (fun m' hm => by
    obtain ⟨o', es', ep', ho', r'⟩ := hm
    rw [ho] at ho'; cases ho'
    exact ⟨_, es', ep', hL, r'⟩) hok I.bare
/-- behind a call (or a comprehension's block): the slots of this frame may have changed too, the records at ch may have turned -/
theorem Inv.call {g' : Array GenState} {t' : Nat} {d' : Drawn} {ch : List Addr} (I : Inv X pins σ H s) (u : Un (frs X.stack) ch H H' s.heap h') (hok : HOk X.prog X.w H' h') (hg : AllBare g')
    (hch : ∀ b ∈ ch, (b ∈ X.ex ∨ X.s_0.heap.objs.size ≤ b) ∧ b ≠ X.env.locals ∧ (∀ x c, X.env.cells.lookup x = some c → c ≠ b) ∧ ∀ p ∈ X.pn ++ pins, p.1 ≠ b) :
    Inv X pins σ H' { s with heap := h', gens := g', drawn := d', toks := t' } := by
  obtain ⟨m, ⟨o, es, ep, ho, r⟩, _⟩ := id I.loc
  obtain ⟨sl, hL⟩ := u.any ho I.free fun z => (hch _ z).2.1 rfl
  exact I.step (ch := ch) hch (fun b o hL hb hc e n => u.keep b o e n (fun z => (List.mem_cons.mp (I.stkSub b z)).elim hL hb) hc) (fun b o _ _ hc e n => u.any e n hc) (fun b o hc e n => u.free b o e n hc) (fun b o hc e => u.there b o e hc) u.tups u.frzs u.tbls (fun m' hm => by
    obtain ⟨o', es', ep', ho', r'⟩ := hm
    rw [ho] at ho'; cases ho'
    exact ⟨_, es', ep', hL, r'⟩) hok hg
/-- an untracked record of ours (an iterator) has turned -/
theorem Inv.turned {t' : Nat} {it : Addr} (I : Inv X pins σ H s) (k : ∀ b o, b ≠ it → s.heap.get? b = some o → h'.get? b = some o) (hn : H it = none) (hL : it ≠ X.env.locals)
    (h1 : it ∈ X.ex ∨ X.s_0.heap.objs.size ≤ it) (h2 : ∀ x c, X.env.cells.lookup x = some c → c ≠ it) (h3 : ∀ p ∈ X.pn ++ pins, p.1 ≠ it) : Inv X pins σ H { s with heap := h', toks := t' } := by
  have nit : ∀ b u, H b = some u → b ≠ it := fun b u e z => by rw [z, hn] at e; cases e
  refine I.step (g' := s.gens) (d' := s.drawn) (ch := [it]) (fun b hb => ?_) (fun b o _ _ hc e _ => k b o (fun z => hc (by simp [z])) e) (fun b o _ _ hc e _ => ⟨o.slots, k b o (fun z => hc (by simp [z])) e⟩) (fun _ _ _ _ n => n)
    (fun b o hc e => ⟨o, k b o (fun z => hc (by simp [z])) e⟩) (fun _ _ e => e) (fun _ _ _ e => e) (fun b ps e => ⟨#[], by rw [e]; simp⟩) (fun m hm => ?_) (fun b u e => ?_) I.bare
  · have e : b = it := by simpa using hb
    subst e
    exact ⟨h1, hL, h2, h3⟩
  · obtain ⟨o, es, ep, ho, r⟩ := hm
    exact ⟨o, es, ep, k _ o (Ne.symm hL) ho, r⟩
  · refine (I.hok b u e).stay (fun c v hc q => k c v ?_ q) (fun _ q => q) fun _ _ q => q
    rcases hc with z | z
    · rw [z]; exact nit b u e
    · exact nit c _ z
theorem Inv.tok (I : Inv X pins σ H s) (t : Nat) : Inv X pins σ H { s with toks := t } := I.un (h' := s.heap) (t' := t) Un.refl I.hok
/-- all objects kept -/
theorem Inv.kept {t' : Nat} (I : Inv X pins σ H s) (k : ∀ b u, s.heap.get? b = some u → h'.get? b = some u) : Inv X pins σ H { s with heap := h', toks := t' } := I.un (Un.kept k) (I.hok.kept k)
/-- a new object laid and tracked -/
theorem Inv.laid {a : Addr} {o : HO} {t' : Nat} (I : Inv X pins σ H s) (k : ∀ b u, s.heap.get? b = some u → h'.get? b = some u) (hp : s.heap.objs.size ≤ a) (new : ObjOk X.prog X.w (upd H a o) h' a o) :
    Inv X pins σ (upd H a o) { s with heap := h', toks := t' } := I.un (Un.laid k hp (I.hok.fresh hp)) (I.hok.laid k hp new)
/-- an object written -/
theorem Inv.write {x e : Addr} {o : HO} {t' : Nat} (I : Inv X pins σ H s) (mu : Mut (H x)) (he : e = x ∨ H e = some (.own x)) (k : ∀ b u, b ≠ e → s.heap.get? b = some u → h'.get? b = some u) (heo : ∃ u, h'.get? e = some u)
    (new : ObjOk X.prog X.w (upd H x o) h' x o) : Inv X pins σ (upd H x o) { s with heap := h', toks := t' } := I.un (Un.write mu he k heo) (I.hok.write mu he k heo new)
/-- forgetting slots, pins -/
theorem Inv.weak {σ' : List (Option V)} (I : Inv X pins σ H s) (hl : σ'.length = σ.length) (w : ∀ (i : Nat) v, σ'[i]? = some (some v) → σ[i]? = some (some v)) : Inv X pins σ' H s :=
  ⟨I.ok, I.os, I.bare, I.base, let ⟨m, hn, hl'⟩ := I.loc; ⟨m, hn, fun i x v e1 e2 e3 => hl' i x v e1 (w i v e2) e3⟩, I.cell, I.free, I.freeC, I.pin, I.hok, hl.trans I.len⟩
theorem Inv.pins_of {pins' : List (Addr × Obj)} (I : Inv X pins σ H s) (h : ∀ p ∈ pins', s.heap.get? p.1 = some p.2 ∧ H p.1 = none ∧ p.1 ≠ X.env.locals ∧ p.1 ∉ X.fs ∧ ∀ v, p.2.data ≠ .cell v) : Inv X pins' σ H s :=
  ⟨I.ok, I.os, I.bare, I.base, I.loc, I.cell, I.free, I.freeC, fun p hp => (List.mem_append.mp hp).elim (fun z => I.pin p (List.mem_append_left _ z)) (h p), I.hok, I.len⟩

theorem nodup_ix {N : List Str} (hN : N.Nodup) {i j : Nat} {x : Str} (a : N[i]? = some x) (b : N[j]? = some x) : i = j := by
  obtain ⟨h1, e1⟩ := List.getElem?_eq_some_iff.mp a
  obtain ⟨h2, e2⟩ := List.getElem?_eq_some_iff.mp b
  exact (List.getElem_inj hN).mp (e1.trans e2.symm)

/-- a name is stored; what changed -/
theorem store_ok2 {M : Model} {A : Around} {E : Value → Shared → Prop} {i : Nat} {x : Str} {v : V} {u : Value} {Q : Unit → Shared → Prop} (I : Inv X pins σ H s) (hN : X.N.Nodup) (hi : X.N[i]? = some x) (hx : Loc X.env.scope x) (r : RelV v u)
    (h : ∀ s', Inv X pins (σ.set i (some v)) H s' → (∃ a, Heap.SameBut a s.heap s'.heap ∧ (a = X.env.locals ∨ X.env.cells.lookup x = some a)) → Q () s') (hf : X.fn x = true ∨ X.env.scope.names.lookup x = some .local := by first | exact .inl rfl | exact .inr rfl | assumption) : wpAny M A (storeName X.env x u) Q E s := by
  obtain ⟨m, hn, hl⟩ := id I.loc
  have hcls : (X.env.scope.kind == .class || (X.env.scope.kind == .module && X.env.locals != X.env.globals)) = false := by rw [I.ok.kind]; rfl
  have hiσ : i < σ.length := by rw [I.len]; exact (List.getElem?_eq_some_iff.mp hi).1
  have cne := I.cne
  have tracked : ∀ {a : Addr} {h' : Heap}, (∃ o, s.heap.get? a = some o ∧ H a = none) → Heap.SameBut a s.heap h' → HOk X.prog X.w H h' := fun {a h'} ha hs b ob e => by
    obtain ⟨_, _, hfree⟩ := ha
    refine (I.hok b ob e).stay (fun c w' hc q => (hs.2 c ?_).trans q) (fun _ q => q) fun _ _ q => q
    rintro rfl
    rcases hc with rfl | hc
    · rw [hfree] at e; cases e
    · rw [hfree] at hc; cases hc
  rcases hx with hk | hk
  · refine wpAny_storeName_local hk hn (fun h' hn' hs => ?_) hcls
    obtain ⟨oL, _, _, hoL, _⟩ := id hn
    refine h _ ⟨I.ok, I.os, I.bare, ⟨fun b o e n hb hx => ?_, fun b o e n hb hx => ?_, I.base.free, fun b o e hx => ?_, I.base.tups, I.base.frzs, I.base.tbls⟩, ⟨_, hn', fun j y v' e1 e2 e3 => ?_⟩, fun y c e => ?_, I.free, I.freeC, fun p hp => ?_, tracked ⟨oL, hoL, I.free⟩ hs, by simpa using I.len⟩ ⟨_, hs, .inl rfl⟩
    · exact (hs.2 b (Nat.ne_of_lt (Nat.lt_of_lt_of_le (Heap.lt_size e) I.ok.above))).trans (I.base.keep b o e n hb hx)
    · obtain ⟨sl, e1⟩ := I.base.slot b o e n hb hx
      exact ⟨sl, (hs.2 b (Nat.ne_of_lt (Nat.lt_of_lt_of_le (Heap.lt_size e) I.ok.above))).trans e1⟩
    · obtain ⟨o', e1⟩ := I.base.there b o e hx
      exact ⟨o', (hs.2 b (Nat.ne_of_lt (Nat.lt_of_lt_of_le (Heap.lt_size e) I.ok.above))).trans e1⟩
    · by_cases hj : j = i
      · subst hj
        rw [hi] at e1; cases e1
        rw [List.getElem?_set_self hiσ] at e2
        cases e2
        exact ⟨u, r, .inl ⟨hk, by simp⟩⟩
      · rw [List.getElem?_set_ne (Ne.symm hj)] at e2
        obtain ⟨u', r', q⟩ := hl j y v' e1 e2 e3
        refine ⟨u', r', ?_⟩
        rcases q with ⟨k, e⟩ | ⟨k, c, e, z⟩
        · refine .inl ⟨k, ?_⟩
          have : y ≠ x := fun e => hj (nodup_ix hN e1 (e ▸ hi))
          simp [this, e]
        · exact .inr ⟨k, c, e, z.sameBut hs (cne y c e)⟩
    · obtain ⟨w', z⟩ := I.cell y c e
      exact ⟨w', z.sameBut hs (cne y c e)⟩
    · obtain ⟨e, n, ne, nf, d⟩ := I.pin p hp
      exact ⟨(hs.2 p.1 ne).trans e, n, ne, nf, d⟩
  · have hfn : X.fn x = true := by
      rcases hf with z | z
      · exact z
      · rw [z] at hk; cases hk
    obtain ⟨c, hc⟩ := I.ok.has x (.inl hk)
    obtain ⟨w', z⟩ := I.cell x c hc
    refine wpAny_storeName_cell I.ok.kind hk hc z (fun h' hc' hs => ?_)
    obtain ⟨oc, hoc, hocd⟩ := id z
    refine h { s with heap := h' } ⟨I.ok, I.os, I.bare, ⟨fun b o e n hb hx => ?_, fun b o e n hb hx => ?_, I.base.free, fun b o e hx => ?_, I.base.tups, I.base.frzs, I.base.tbls⟩, ⟨m, hn.sameBut hs (Ne.symm (cne x c hc)), fun j y v' e1 e2 e3 => ?_⟩, fun y c' e => ?_, I.free, I.freeC, fun p hp => ?_, tracked ⟨oc, hoc, I.freeC x c hc⟩ hs, by simpa using I.len⟩ ⟨c, hs, .inr hc⟩
    · exact (hs.2 b (Nat.ne_of_lt (Nat.lt_of_lt_of_le (Heap.lt_size e) (I.ok.cab x c hfn hc)))).trans (I.base.keep b o e n hb hx)
    · obtain ⟨sl, e1⟩ := I.base.slot b o e n hb hx
      exact ⟨sl, (hs.2 b (Nat.ne_of_lt (Nat.lt_of_lt_of_le (Heap.lt_size e) (I.ok.cab x c hfn hc)))).trans e1⟩
    · obtain ⟨o', e1⟩ := I.base.there b o e hx
      exact ⟨o', (hs.2 b (Nat.ne_of_lt (Nat.lt_of_lt_of_le (Heap.lt_size e) (I.ok.cab x c hfn hc)))).trans e1⟩
    · by_cases hj : j = i
      · subst hj
        rw [hi] at e1; cases e1
        rw [List.getElem?_set_self hiσ] at e2
        cases e2
        exact ⟨u, r, .inr ⟨.inl hk, c, hc, hc'⟩⟩
      · rw [List.getElem?_set_ne (Ne.symm hj)] at e2
        obtain ⟨u', r', q⟩ := hl j y v' e1 e2 e3
        refine ⟨u', r', ?_⟩
        rcases q with q | ⟨k, c', e, z'⟩
        · exact .inl q
        · refine .inr ⟨k, c', e, z'.sameBut hs ?_⟩
          rintro rfl
          exact hj (nodup_ix hN e1 (I.ok.inj _ _ _ e hc ▸ hi))
    · by_cases hcc : c' = c
      · subst hcc; exact ⟨_, hc'⟩
      · obtain ⟨w2, z2⟩ := I.cell y c' e
        exact ⟨w2, z2.sameBut hs hcc⟩
    · obtain ⟨e, n, ne, nf, d⟩ := I.pin p hp
      refine ⟨(hs.2 p.1 ?_).trans e, n, ne, nf, d⟩
      intro q
      rw [q, hoc] at e
      have q' : oc = p.2 := Option.some.inj e
      exact d w' (by rw [← q']; exact hocd)
theorem store_ok {M : Model} {A : Around} {E : Value → Shared → Prop} {i : Nat} {x : Str} {v : V} {u : Value} {Q : Unit → Shared → Prop} (I : Inv X pins σ H s) (hN : X.N.Nodup) (hi : X.N[i]? = some x) (hx : Loc X.env.scope x) (r : RelV v u)
    (h : ∀ s', Inv X pins (σ.set i (some v)) H s' → Q () s') (hf : X.fn x = true ∨ X.env.scope.names.lookup x = some .local := by first | exact .inl rfl | exact .inr rfl | assumption) : wpAny M A (storeName X.env x u) Q E s :=
  store_ok2 I hN hi hx r (fun s' I' _ => h s' I') hf
/-- behind a call or a block, the state as it is -/
theorem Inv.call' {s' : Shared} {ch : List Addr} (I : Inv X pins σ H s) (ho : s'.os = s.os) (u : Un (frs X.stack) ch H H' s.heap s'.heap) (hok : HOk X.prog X.w H' s'.heap) (hg : AllBare s'.gens)
    (hch : ∀ b ∈ ch, (b ∈ X.ex ∨ X.s_0.heap.objs.size ≤ b) ∧ b ≠ X.env.locals ∧ (∀ x c, X.env.cells.lookup x = some c → c ≠ b) ∧ ∀ p ∈ X.pn ++ pins, p.1 ≠ b) : Inv X pins σ H' s' := by
  obtain ⟨h', g', d', t', o'⟩ := s'
  have e : o' = s.os := ho
  subst e
  exact I.call (g' := g') (t' := t') (d' := d') u hok hg hch
end

/-! ### the judgements -/
/-- an exception: its class, its own dict's address (where it has one), the abstract heap behind it -/
abbrev XK := Value → Option Addr → Hp → Prop
abbrev St := List (Option V)
abbrev VK := V → Hp → Prop
/-- an expression's reading; a test's; an argument list's -/
abbrev TE := St → Hp → VK → Prop
abbrev TT := St → Hp → (Bool → Hp → Prop) → Prop
abbrev TA := St → Hp → (List V → Hp → Prop) → Prop
/-- what is wanted behind a statement -/
structure Ends where
  nx : St → Hp → Prop
  rt : VK
  bk : St → Hp → Prop := fun _ _ => False
  ct : St → Hp → Prop := fun _ _ => False
abbrev TS := Ends → St → Hp → Prop

def EP (X : Cx) (pins : List (Addr × Obj)) (σ : St) (Q : VK) (u : Value) (s' : Shared) : Prop := ∃ v H', Inv X pins σ H' s' ∧ RelV v u ∧ Q v H'
def TP (X : Cx) (pins : List (Addr × Obj)) (σ : St) (Q : Bool → Hp → Prop) (b : Bool) (s' : Shared) : Prop := ∃ H', Inv X pins σ H' s' ∧ Q b H'
def AP (X : Cx) (pins : List (Addr × Obj)) (σ : St) (Q : List V → Hp → Prop) (us : List Value) (s' : Shared) : Prop := ∃ vs H', Inv X pins σ H' s' ∧ Vals vs us ∧ Q vs H'
def SP (X : Cx) (pins : List (Addr × Obj)) (D : Ends) (f : Flow) (s' : Shared) : Prop :=
  match f with
  | .next => ∃ σ' H', Inv X pins σ' H' s' ∧ D.nx σ' H'
  | .brk => ∃ σ' H', Inv X pins σ' H' s' ∧ D.bk σ' H'
  | .cont => ∃ σ' H', Inv X pins σ' H' s' ∧ D.ct σ' H'
  | .ret u => ∃ v σ' H', Inv X pins σ' H' s' ∧ RelV v u ∧ D.rt v H'

def PE (X : Cx) (e : Expr) (t : TE) : Prop :=
  ∀ (pins : List (Addr × Obj)) (s : Shared) (σ : St) (H : Hp) (Q : VK), Inv X pins σ H s → t σ H Q → wpAny (model X.prog X.w) X.A (eval e X.env) (EP X pins σ Q) X.xe s
def PT (X : Cx) (e : Expr) (t : TT) : Prop :=
  ∀ (pins : List (Addr × Obj)) (s : Shared) (σ : St) (H : Hp) (Q : Bool → Hp → Prop), Inv X pins σ H s → t σ H Q → wpAny (model X.prog X.w) X.A (isTrue e X.env (eval e X.env)) (TP X pins σ Q) X.xe s
/-- a test whatever its 'whole' is (and, or) -/
def PW (X : Cx) (e : Expr) (t : TT) : Prop :=
  ∀ (whole : Sem Value) (pins : List (Addr × Obj)) (s : Shared) (σ : St) (H : Hp) (Q : Bool → Hp → Prop), Inv X pins σ H s → t σ H Q → wpAny (model X.prog X.w) X.A (isTrue e X.env whole) (TP X pins σ Q) X.xe s
theorem PW.pt {X : Cx} {e : Expr} {t : TT} (h : PW X e t) : PT X e t := h _
/-- an argument list (no star), from the left -/
def PA (X : Cx) (es : List Expr) (t : TA) : Prop :=
  ∀ (pos : Pos) (pins : List (Addr × Obj)) (s : Shared) (σ : St) (H : Hp) (Q : List V → Hp → Prop), Inv X pins σ H s → t σ H Q → wpAny (model X.prog X.w) X.A (spliced (backTo pos (starEach es X.env))) (AP X pins σ Q) X.xe s
def PS (X : Cx) (st : Stmt) (t : TS) : Prop :=
  ∀ (pins : List (Addr × Obj)) (s : Shared) (σ : St) (H : Hp) (D : Ends), Inv X pins σ H s → t D σ H → wpAny (model X.prog X.w) X.A (exec st X.env) (SP X pins D) X.xe s
def PSs (X : Cx) (st : List Stmt) (t : TS) : Prop :=
  ∀ (pins : List (Addr × Obj)) (s : Shared) (σ : St) (H : Hp) (D : Ends), Inv X pins σ H s → t D σ H → wpAny (model X.prog X.w) X.A (execs st X.env) (SP X pins D) X.xe s
/-- weaken the end -/
theorem thn {α : Type} {t : Sem α} {Q Q' : α → Shared → Prop} {M : Model} {A : Around} {E : Value → Shared → Prop} {s : Shared} (h : wpAny M A t Q E s) (hQ : ∀ a s, Q a s → Q' a s) : wpAny M A t Q' E s := wpAny_mono h hQ fun _ _ x => x
end L2

namespace L2
open PySem PySem.Spec PyProof.Rows
section
variable {X : Cx}

/-! ### names and constants -/
def tVar (i : Nat) : TE := fun σ H Q => ∃ v, σ[i]? = some (some v) ∧ Q v H
def tC (v : V) : TE := fun _ H Q => Q v H
theorem pe_var {i : Nat} {x : Str} {pos : Pos} (hN : X.N[i]? = some x) (hv : Vis X.env.scope x) (hd : (x == ("__debug__" : Str)) = false := by decide) (hcd : (x == ("__classdict__" : Str)) = false := by decide) : PE X (.Name x pos) (tVar i) := by
  intro pins s σ H Q I h
  obtain ⟨v, e, h⟩ := h
  obtain ⟨m, hn, hl⟩ := I.loc
  obtain ⟨u, r, l⟩ := hl i x v hN e hv
  have fin : EP X pins σ Q u s := ⟨v, H, I, r, h⟩
  rcases l with ⟨hk, hm⟩ | ⟨hk, c, hc, hcell⟩
  · exact wpAny_Name (wpAny_loadName_local I.ok.kind hk hn hm fin) hd
  · rcases hk with hk | hk
    · exact wpAny_Name (wpAny_loadName_cell I.ok.kind hk hc hcell fin) hd
    · exact wpAny_Name (wpAny_loadName_free I.ok.kind hk hc hcell fin hcd) hd
theorem pe_int {i j pos} : PE X (.Constant (.int i) j pos) (tC (.int i)) := fun _ _ _ H _ I h => wpAny_Constant_int ⟨.int i, H, I.tok _, ⟨_, rfl⟩, h⟩
theorem pe_bl {b j pos} : PE X (.Constant (.bool b) j pos) (tC (.bl b)) := fun _ _ _ H _ I h => Constant_bool ⟨.bl b, H, I, rfl, h⟩
theorem pe_non {j pos} : PE X (.Constant .none j pos) (tC .non) := fun _ _ _ H _ I h => Constant_none ⟨.non, H, I, rfl, h⟩
theorem pe_str {x j pos} : PE X (.Constant (.str x) j pos) (tC (.str x)) := fun _ _ _ H _ I h => Calls.Constant_str ⟨.str x, H, I.tok _, ⟨_, rfl⟩, h⟩

/-- a global name of the def -/
def Gl (X : Cx) (x : Str) : Prop := X.env.kindOf x = some .globalImplicit
theorem ld_glob {E : Value → Shared → Prop} {pins : List (Addr × Obj)} {s : Shared} {σ : St} {H : Hp} {x : Str} {u : Value} {pos : Pos} {Q : Value → Shared → Prop} (I : Inv X pins σ H s) (hg : Gl X x) (hm : X.mg x = some u) (h : Q u s)
    (hd : (x == ("__debug__" : Str)) = false := by decide) : wpAny (model X.prog X.w) X.A (eval (.Name x pos) X.env) Q E s :=
  Calls.Name_function_global I.ok.kind hg (Calls.loadGlobal_global (by rw [I.ok.glob]; exact I.mod.glob.keeps I.bk) hm h) hd
theorem ld_blt {E : Value → Shared → Prop} {pins : List (Addr × Obj)} {s : Shared} {σ : St} {H : Hp} {x : Str} {u : Value} {pos : Pos} {Q : Value → Shared → Prop} (I : Inv X pins σ H s) (hg : Gl X x) (hm : X.mg x = none) (hv : bootBuiltins x = some u) (h : Q u s)
    (hn : x ≠ "__name__" := by decide) (hd : (x == ("__debug__" : Str)) = false := by decide) : wpAny (model X.prog X.w) X.A (eval (.Name x pos) X.env) Q E s := by
  obtain ⟨mb, h1, h2⟩ := I.mod.blt
  exact Calls.Name_function_global I.ok.kind hg (Calls.loadGlobal_builtin (by rw [I.ok.glob]; exact I.mod.glob.keeps I.bk) hm (by rw [I.ok.blt]; exact h1.keeps I.bk) ((h2 x hn).trans hv) h) hd
/-- a module's constant, a class, a function, as a value -/
theorem pe_glob {x : Str} {v : V} {u : Value} {pos : Pos} (hg : Gl X x) (hm : X.mg x = some u) (r : RelV v u) (hd : (x == ("__debug__" : Str)) = false := by decide) : PE X (.Name x pos) (tC v) :=
  fun _ _ _ H _ I h => ld_glob I hg hm ⟨v, H, I, r, h⟩ hd
/-! ### arithmetic -/
variable {a b : Expr} {ta tb : TE} {pos : Pos}
/-! ### comparisons -/
def PC (X : Cx) (op : CmpOp) (a b : Expr) (t : TE) : Prop :=
  ∀ (pins : List (Addr × Obj)) (s : Shared) (σ : St) (H : Hp) (Q : VK), Inv X pins σ H s → t σ H Q →
    wpAny (model X.prog X.w) X.A (eval a X.env) (fun v s₁ => wpAny (model X.prog X.w) X.A (eval b X.env) (fun u s₂ => wpAny (model X.prog X.w) X.A (compareOp op v u) (EP X pins σ Q) X.xe s₂) X.xe s₁) X.xe s
theorem nobehind (b : Expr) {op : CmpOp} (h : op ≠ .In) (h2 : op ≠ .NotIn) : behindInMarks op b = false := by
  have e1 : (op == CmpOp.In) = false := by cases op <;> first | rfl | exact absurd rfl h
  have e2 : (op == CmpOp.NotIn) = false := by cases op <;> first | rfl | exact absurd rfl h2
  cases b <;> simp [behindInMarks, e1, e2]
/-- is None -/
def tIsN (ta : TE) : TE := fun σ H Q => ta σ H fun x H1 => Q (.bl (decide (x = .non))) H1
theorem RelV.none_iff {x : V} {v : Value} (r : RelV x v) : (v == Value.none) = decide (x = .non) := by
  cases x with
  | non => cases r; rfl
  | bl _ => cases r; rfl
  | int _ => obtain ⟨t, rfl⟩ := r; rfl
  | str _ => obtain ⟨t, rfl⟩ := r; rfl
  | byt _ => obtain ⟨t, rfl⟩ := r; rfl
  | flt _ => obtain ⟨t, rfl⟩ := r; rfl
  | ref _ => cases r; rfl
  | ty _ => cases r; rfl
theorem pc_isN {j pos'} (ha : PE X a ta) : PC X .Is a (.Constant .none j pos') (tIsN ta) := by
  intro pins s σ H Q I h
  refine thn (ha pins s σ H _ I h) fun v s1 ⟨x, H1, I1, r1, q1⟩ => ?_
  exact Constant_none (is_none_gen ⟨.bl _, H1, I1, by rw [r1.none_iff]; rfl, q1⟩)
/-- a comparison as a value, as a test -/
def tB (t : TE) : TT := fun σ H Q => t σ H fun x H1 => ∃ c, x = .bl c ∧ Q c H1
theorem pt_cmp {op : CmpOp} {t : TE} (h : PC X op a b t) (h1 : behindInMarks op b = false := by first | exact nobehind _ (by decide) (by decide) | rfl) : PT X (.Compare a [op] [b] pos) (tB t) := by
  intro pins s σ H Q I hw
  refine wpAny_isTrue_Compare1 (thn (h pins s σ H _ I hw) fun v s1 h1 => thn h1 fun u s2 h2 => thn h2 fun c s3 ⟨x, H1, I1, r1, q1⟩ => ?_) h1
  obtain ⟨d, rfl, q⟩ := q1
  cases r1
  exact wpAny_truthy_bool ⟨H1, I1, q⟩
/-- an expression whose value is a bool, as a test -/
theorem pt_val {e : Expr} {t : TE} (h : PE X e t) (he : ∀ whole, isTrue e X.env whole = (do let v ← whole; standAt e.pos; holding [v] (truthy v)) := by intro _; rfl) : PT X e (tB t) := by
  intro pins s σ H Q I hw
  refine isTrue_plain (thn (h pins s σ H _ I hw) fun v s1 ⟨x, H1, I1, r1, q1⟩ => ?_) (he _)
  obtain ⟨d, rfl, q⟩ := q1
  cases r1
  exact wpAny_truthy_bool ⟨H1, I1, q⟩

/-! ### and, or, not -/
variable {tA tB' : TT} {rest : List Expr}
def tAnd (t u : TT) : TT := fun σ H Q => t σ H fun c H1 => if c = true then u σ H1 Q else Q false H1
def tOr (t u : TT) : TT := fun σ H Q => t σ H fun c H1 => if c = true then Q true H1 else u σ H1 Q
def tNot (t : TT) : TT := fun σ H Q => t σ H fun c H1 => Q (!c) H1
theorem pw_and1 (ha : PT X a tA) : PW X (.BoolOp .And [a] pos) tA := by
  intro wh pins s σ H Q I h
  refine isTrue_and (thn (ha pins s σ H Q I h) fun c s1 e => ?_)
  cases c with
  | true => exact isTrue_and_nil e
  | false => exact e
theorem pw_or1 (ha : PT X a tA) : PW X (.BoolOp .Or [a] pos) tA := by
  intro wh pins s σ H Q I h
  refine isTrue_or (thn (ha pins s σ H Q I h) fun c s1 e => ?_)
  cases c with
  | false => exact isTrue_or_nil e
  | true => exact e
theorem pw_and (ha : PT X a tA) (hb : PW X (.BoolOp .And (b :: rest) pos) tB') : PW X (.BoolOp .And (a :: b :: rest) pos) (tAnd tA tB') := by
  intro wh pins s σ H Q I h
  refine isTrue_and (thn (ha pins s σ H _ I h) fun c s1 ⟨H1, I1, q1⟩ => ?_)
  cases c with
  | true => exact hb wh pins s1 σ H1 Q I1 q1
  | false => exact ⟨H1, I1, q1⟩
theorem pw_or (ha : PT X a tA) (hb : PW X (.BoolOp .Or (b :: rest) pos) tB') : PW X (.BoolOp .Or (a :: b :: rest) pos) (tOr tA tB') := by
  intro wh pins s σ H Q I h
  refine isTrue_or (thn (ha pins s σ H _ I h) fun c s1 ⟨H1, I1, q1⟩ => ?_)
  cases c with
  | true => exact ⟨H1, I1, q1⟩
  | false => exact hb wh pins s1 σ H1 Q I1 q1
theorem pt_not (ha : PT X a tA) : PT X (.UnaryOp .Not a pos) (tNot tA) := by
  intro pins s σ H Q I h
  exact isTrue_not (ha pins s σ H (fun c H1 => Q (!c) H1) I h)
end
end L2

namespace L2
open PySem PySem.Spec PyProof.Rows

/-! ### a list, a tuple that is read: tracked, frozen, or an object of the module -/
def SqL (K : PySem.W.Frag) (H : Hp) (a : Addr) (xs : List V) : Prop :=
  Rd H a (.lst xs) ∨
    ∃ (o : Obj) (its : Array Value) (n : Nat), K.lookup a = some o ∧ o.cls = .type "list" ∧ o.dict = none ∧ o.data = .seq its n ∧ its.size ≤ sizeLine ∧ Vals xs its.toList
def SqT (K : PySem.W.Frag) (H : Hp) (a : Addr) (xs : List V) : Prop :=
  Rd H a (.tup xs) ∨
    ∃ (o : Obj) (its : Array Value) (n : Nat), K.lookup a = some o ∧ o.cls = .type "tuple" ∧ o.data = .seq its n ∧ its.size ≤ sizeLine ∧ Vals xs its.toList
def absV : Value → Option V
  | .none => some .non
  | .bool b => some (.bl b)
  | .int i _ => some (.int i)
  | .str x _ => some (.str x)
  | .bytes b _ => some (.byt b)
  | .float b _ => some (.flt b)
  | .ref a => some (.ref a)
  | .type n => some (.ty n)
  | _ => none
theorem RelV.abs {x : V} {u : Value} (r : RelV x u) : absV u = some x := by
  cases x with
  | non => cases r; rfl
  | bl _ => cases r; rfl
  | int _ => obtain ⟨t, rfl⟩ := r; rfl
  | str _ => obtain ⟨t, rfl⟩ := r; rfl
  | byt _ => obtain ⟨t, rfl⟩ := r; rfl
  | flt _ => obtain ⟨t, rfl⟩ := r; rfl
  | ref _ => cases r; rfl
  | ty _ => cases r; rfl
theorem RelV.inj {x y : V} {u : Value} (r : RelV x u) (q : RelV y u) : x = y := Option.some.inj (r.abs.symm.trans q.abs)
theorem Vals.inj : ∀ {xs ys : List V} {us : List Value}, Vals xs us → Vals ys us → xs = ys
  | _, _, _, .nil, .nil => rfl
  | _, _, _, .cons r t, .cons r' t' => by rw [r.inj r', Vals.inj t t']
section
variable {X : Cx} {pins : List (Addr × Obj)} {σ : St} {H : Hp} {s : Shared} {a : Addr} {xs ys : List V}
theorem SqL.of {K : PySem.W.Frag} (h : H a = some (.lst xs)) : SqL K H a xs := .inl (.inl h)
theorem SqT.of {K : PySem.W.Frag} (h : H a = some (.tup xs)) : SqT K H a xs := .inl (.inl h)
theorem Inv.list (I : Inv X pins σ H s) (h : SqL X.K H a xs) : ∃ its : List Value, Vals xs its ∧ PlainL s.heap a its.toArray ∧ xs.length ≤ sizeLine := by
  rcases h with h | ⟨o, its, n, hk, hc, hd, hs, hz, r⟩
  · obtain ⟨z, its, n, r, e⟩ := h.ok I.hok
    exact ⟨its, r, ⟨_, n, e, rfl, rfl, rfl⟩, z⟩
  · refine ⟨its.toList, r, ⟨o, n, I.kIn a o hk, hc, hd, by simpa using hs⟩, ?_⟩
    have e := r.length
    simp only [Array.length_toList] at e
    omega
theorem Inv.tuple (I : Inv X pins σ H s) (h : SqT X.K H a xs) : ∃ its : List Value, Vals xs its ∧ IsTup s.heap a its.toArray ∧ xs.length ≤ sizeLine := by
  rcases h with h | ⟨o, its, n, hk, hc, hs, hz, r⟩
  · obtain ⟨z, its, r, p⟩ := h.ok I.hok
    exact ⟨its, r, p, z⟩
  · refine ⟨its.toList, r, ⟨o, I.kIn a o hk, hc, n, by simpa using hs⟩, ?_⟩
    have e := r.length
    simp only [Array.length_toList] at e
    omega
theorem Inv.list_inj (I : Inv X pins σ H s) (h : SqL X.K H a xs) (h' : SqL X.K H a ys) : xs = ys := by
  obtain ⟨its, r, ⟨o, n, e, _, _, d⟩, _⟩ := I.list h
  obtain ⟨its', r', ⟨o', n', e', _, _, d'⟩, _⟩ := I.list h'
  rw [e] at e'; cases e'
  rw [d] at d'
  injection d' with d1 _
  have : its = its' := by simpa using congrArg Array.toList d1
  subst this
  exact r.inj r'
end

/-! ### another wish about exceptions -/
abbrev Cx.wish (X : Cx) (E : Value → Shared → Prop) : Cx := { X with xe := E }
/-- no exception leaves -/
abbrev Cx.nox (X : Cx) : Cx := X.wish fun _ _ => False
theorem Cx.Ok.wish {X : Cx} (ok : X.Ok) (E : Value → Shared → Prop) : (X.wish E).Ok :=
  ⟨ok.mod, ok.kind, ok.glob, ok.blt, ok.above, ok.inj, ok.has, ok.cab, ok.hd, ok.frames, ok.stk, ok.exf, ok.bs, ok.bsz, ok.noex, ok.exfs, ok.funs, ok.frf⟩
theorem Cx.Ok.unwish {X : Cx} {E : Value → Shared → Prop} (ok : (X.wish E).Ok) : X.Ok :=
  ⟨ok.mod, ok.kind, ok.glob, ok.blt, ok.above, ok.inj, ok.has, ok.cab, ok.hd, ok.frames, ok.stk, ok.exf, ok.bs, ok.bsz, ok.noex, ok.exfs, ok.funs, ok.frf⟩
section
variable {X : Cx} {pins : List (Addr × Obj)} {σ : St} {H : Hp} {s : Shared} {E : Value → Shared → Prop}
theorem Inv.wish (I : Inv X pins σ H s) (E : Value → Shared → Prop) : Inv (X.wish E) pins σ H s := ⟨I.ok.wish E, I.os, I.bare, I.base, I.loc, I.cell, I.free, I.freeC, I.pin, I.hok, I.len⟩
theorem Inv.unwish (I : Inv (X.wish E) pins σ H s) : Inv X pins σ H s := ⟨I.ok.unwish, I.os, I.bare, I.base, I.loc, I.cell, I.free, I.freeC, I.pin, I.hok, I.len⟩
theorem SP.unwish {D : Ends} {f : Flow} {s' : Shared} (h : SP (X.wish E) pins D f s') : SP X pins D f s' := by
  cases f with
  | next => obtain ⟨σ', H', I, q⟩ := h; exact ⟨σ', H', I.unwish, q⟩
  | brk => obtain ⟨σ', H', I, q⟩ := h; exact ⟨σ', H', I.unwish, q⟩
  | cont => obtain ⟨σ', H', I, q⟩ := h; exact ⟨σ', H', I.unwish, q⟩
  | ret u => obtain ⟨v, σ', H', I, r, q⟩ := h; exact ⟨v, σ', H', I.unwish, r, q⟩
theorem PE.nox {e : Expr} {t : TE} (h : PE X.nox e t) : PE X e t := fun pins s σ H Q I hw =>
  wpAny_mono (h pins s σ H Q (I.wish _) hw) (fun _ _ ⟨v, H', I', r, q⟩ => ⟨v, H', I'.unwish, r, q⟩) fun _ _ z => False.elim z
theorem PT.nox {e : Expr} {t : TT} (h : PT X.nox e t) : PT X e t := fun pins s σ H Q I hw =>
  wpAny_mono (h pins s σ H Q (I.wish _) hw) (fun _ _ ⟨H', I', q⟩ => ⟨H', I'.unwish, q⟩) fun _ _ z => False.elim z
theorem PSs.nox {st : List Stmt} {t : TS} (h : PSs X.nox st t) : PSs X st t := fun pins s σ H D I hw =>
  wpAny_mono (h pins s σ H D (I.wish _) hw) (fun _ _ q => q.unwish) fun _ _ z => False.elim z
end

/-! ### blocks and small statements -/
section
variable {X : Cx} {st : Stmt} {rest : List Stmt} {t u : TS} {e : Expr} {te : TE} {pos : Pos}
def tNext : TS := fun D σ H => D.nx σ H
def tSeq (t u : TS) : TS := fun D σ H => t { D with nx := u D } σ H
theorem pss_nil : PSs X [] tNext := fun _ _ σ H _ I h => wpAny_execs_nil ⟨σ, H, I, h⟩
theorem pss_cons (h1 : PS X st t) (h2 : PSs X rest u) : PSs X (st :: rest) (tSeq t u) := by
  intro pins s σ H D I h
  refine wpAny_execs_cons (thn (h1 pins s σ H { D with nx := u D } I h) fun f s1 q => ?_)
  cases f with
  | next =>
    obtain ⟨σ', H', I', q⟩ := q
    exact h2 pins s1 σ' H' D I' q
  | ret v => exact q
  | brk => exact q
  | cont => exact q
theorem pss_one (h1 : PS X st t) : PSs X [st] t := by
  intro pins s σ H D I h
  refine wpAny_execs_cons (thn (h1 pins s σ H D I h) fun f s1 q => ?_)
  cases f with
  | next => exact wpAny_execs_nil q
  | ret v => exact q
  | brk => exact q
  | cont => exact q
/-- in a def's body nothing is shown -/
theorem Inv.quiet {pins : List (Addr × Obj)} {σ : St} {H : Hp} {s : Shared} (I : Inv X pins σ H s) : interactive X.env = false := by simp [interactive, I.ok.kind]
/-- an expression whose value is dropped -/
def tDrop (te : TE) : TS := fun D σ H => te σ H fun _ H1 => D.nx σ H1
theorem ps_expr (he : PE X e te) (hs : swapsWith e none pos.line X.env = pure false := by rfl) : PS X (.Expr e pos) (tDrop te) := by
  intro pins s σ H D I h
  exact wpAny_Expr_any (thn (he pins s σ H _ I h) fun v s1 ⟨x, H1, I1, r1, q1⟩ => ⟨σ, H1, I1, q1⟩) I.quiet hs
def tRet (te : TE) : TS := fun D σ H => te σ H D.rt
theorem ps_ret (he : PE X e te) : PS X (.Return (some e) pos) (tRet te) := by
  intro pins s σ H D I h
  exact wpAny_Return_some (thn (he pins s σ H _ I h) fun v s1 ⟨x, H1, I1, r1, q1⟩ => ⟨x, σ, H1, I1, r1, q1⟩)
def tRetN : TS := fun D _ H => D.rt .non H
theorem ps_retN : PS X (.Return none pos) tRetN := fun _ _ σ H _ I h => wpAny_Return_none ⟨.non, σ, H, I, rfl, h⟩
def tIfS (c : TT) (t u : TS) : TS := fun D σ H => c σ H fun b H1 => if b = true then t D σ H1 else u D σ H1
theorem ps_if {c : Expr} {a b : List Stmt} {tc : TT} (hc : PT X c tc) (ha : PSs X a t) (hb : PSs X b u) : PS X (.If c a b pos) (tIfS tc t u) := by
  intro pins s σ H D I h
  refine wpAny_If (thn (hc pins s σ H _ I h) fun d s1 ⟨H1, I1, q1⟩ => ?_)
  cases d with
  | true => exact ha pins s1 σ H1 D I1 q1
  | false => exact hb pins s1 σ H1 D I1 q1
end

/-! ### targets -/
abbrev TG := V → St → Hp → (St → Hp → Prop) → Prop
def PG (X : Cx) (target : Expr) (t : TG) : Prop :=
  ∀ (pins : List (Addr × Obj)) (s : Shared) (σ : St) (H : Hp) (v : V) (u : Value) (Q : St → Hp → Prop), Inv X pins σ H s → RelV v u → t v σ H Q →
    wpAny (model X.prog X.w) X.A (assign target X.env u) (fun _ s' => ∃ σ' H', Inv X pins σ' H' s' ∧ Q σ' H') X.xe s
section
variable {X : Cx} {pos : Pos}
def gName (i : Nat) : TG := fun v σ H Q => Q (σ.set i (some v)) H
theorem pg_name {i : Nat} {x : Str} (hN : X.N.Nodup) (hi : X.N[i]? = some x) (hx : Loc X.env.scope x) (hf : X.fn x = true ∨ X.env.scope.names.lookup x = some .local := by first | exact .inl rfl | exact .inr rfl | assumption) : PG X (.Name x pos) (gName i) := by
  intro pins s σ H v u Q I r h
  exact wpAny_assign_Name (store_ok I hN hi hx r (fun s' I' => ⟨_, H, I', h⟩) hf)
/-- target = value -/
def tAsg (te : TE) (g : TG) : TS := fun D σ H => te σ H fun x H1 => g x σ H1 D.nx
/-- name = value -/
theorem ps_set {i : Nat} {x : Str} {e : Expr} {te : TE} {pos' : Pos} (hN : X.N.Nodup) (hi : X.N[i]? = some x) (hx : Loc X.env.scope x) (he : PE X e te) (hs : swapsWith e (some (.Name x pos')) pos.line X.env = pure false := by rfl) (hf : X.fn x = true ∨ X.env.scope.names.lookup x = some .local := by first | exact .inl rfl | exact .inr rfl | assumption) :
    PS X (.Assign [.Name x pos'] e pos) (tAsg te (gName i)) := by
  intro pins s σ H D I h
  refine wpAny_Assign_Name (thn (he pins s σ H _ I h) fun v s1 ⟨y, H1, I1, r1, q1⟩ => ?_) hs
  exact store_ok I1 hN hi hx r1 (fun s2 I2 => ⟨_, H1, I2, q1⟩) hf
end

/-! ### while -/
section
variable {X : Cx} {pos : Pos}
end

/-! ### what a loop or a comprehension walks -/
/-- at turn i: it yields x (the heap may grow), or it stops -/
structure It where
  go : Nat → Hp → Prop
  yld : Nat → Hp → V → Hp → Prop
  stop : Nat → Hp → Prop
/-- the iterator's own objects may turn: they are not the frame's, not pinned, younger than the entry (or a comprehension's own) -/
def FpOk (X : Cx) (pins : List (Addr × Obj)) (H : Hp) (b : Addr) : Prop :=
  H b = none ∧ b ≠ X.env.locals ∧ b ∉ X.fs ∧ (b ∈ X.ex ∨ X.s_0.heap.objs.size ≤ b) ∧ (∀ x c, X.env.cells.lookup x = some c → c ≠ b) ∧ ∀ p ∈ X.pn ++ pins, p.1 ≠ b
theorem Inv.fpOk {X : Cx} {pins : List (Addr × Obj)} {σ : St} {H H' : Hp} {s : Shared} {b : Addr} (I : Inv X pins σ H s) (hb : s.heap.objs.size ≤ b) (hn : H' b = none) : FpOk X pins H' b := by
  refine ⟨hn, Nat.ne_of_gt (Nat.lt_of_lt_of_le I.lt hb), I.nofs hb, .inr (Nat.le_trans I.sz hb), fun x c e z => ?_, fun p hp z => ?_⟩
  · obtain ⟨v, q⟩ := I.cell x c e
    exact absurd (Nat.lt_of_lt_of_le q.lt (by rw [z]; exact hb)) (Nat.lt_irrefl _)
  · exact absurd (Nat.lt_of_lt_of_le (Heap.lt_size (I.pin p hp).1) (by rw [z]; exact hb)) (Nat.lt_irrefl _)
structure Turn (P : Program) (w : World) (K : PySem.W.Frag) (tg : Expr) (J : It) (fp : List Addr) (it : Addr) (tn : Nat → Heap → Prop) : Prop where
  mem : it ∈ fp
  obj : ∀ i h, tn i h → ∀ b ∈ fp, ∃ o, h.get? b = some o ∧ ∀ v, o.data ≠ .cell v
  keep : ∀ i h h', tn i h → (∀ b ∈ fp, ∀ o, h.get? b = some o → h'.get? b = some o) → tn i h'
  item : ∀ (X : Cx), X.prog = P → X.w = w → X.K = K → X.calm = true → ∀ (i : Nat) (pins : List (Addr × Obj)) (s : Shared) (σ : St) (H : Hp) (E : Value → Shared → Prop), Inv X pins σ H s → (∀ b ∈ fp, FpOk X pins H b) → tn i s.heap → J.go i H →
    wpAny (model P w) X.A (pyNext (.ref it)) (fun r s1 => ∃ u, r = some u ∧
      wpAny (model P w) X.A (letOwnedTupleGo tg (.ref it) u) (fun _ s2 => ∃ x H', Inv X pins σ H' s2 ∧ RelV x u ∧ J.yld i H x H' ∧ tn (i + 1) s2.heap ∧ ∀ b ∈ fp, H' b = none) E s1) E s
  done : ∀ (X : Cx), X.prog = P → X.w = w → X.K = K → X.calm = true → ∀ (i : Nat) (pins : List (Addr × Obj)) (s : Shared) (σ : St) (H : Hp) (E : Value → Shared → Prop), Inv X pins σ H s → (∀ b ∈ fp, FpOk X pins H b) → tn i s.heap → J.stop i H →
    wpAny (model P w) X.A (pyNext (.ref it)) (fun r s1 => r = none ∧ Inv X pins σ H s1) E s
  self : ∀ (A : Around) (i : Nat) (s : Shared) (Q : Value → Shared → Prop) (E : Value → Shared → Prop), tn i s.heap → Q (.ref it) s → wpAny (model P w) A (pyIter (.ref it)) Q E s
abbrev TI := St → Hp → (It → Hp → Prop) → Prop
/-- an iterator has come -/
def PIE (X : Cx) (pins : List (Addr × Obj)) (σ : St) (tg : Expr) (R : It → Hp → Prop) (itv : Value) (s2 : Shared) : Prop :=
  ∃ (it : Addr) (fp : List Addr) (tn : Nat → Heap → Prop) (J : It) (H' : Hp), itv = .ref it ∧ Inv X pins σ H' s2 ∧ Turn X.prog X.w X.K tg J fp it tn ∧ tn 0 s2.heap ∧ (∀ b ∈ fp, FpOk X pins H' b) ∧ R J H'
def PI (X : Cx) (tg iter : Expr) (wi : TI) : Prop :=
  ∀ (pins : List (Addr × Obj)) (s : Shared) (σ : St) (H : Hp) (R : It → Hp → Prop), Inv X pins σ H s → wi σ H R →
    wpAny (model X.prog X.w) X.A (eval iter X.env) (fun v s1 => wpAny (model X.prog X.w) X.A (pyIter v) (PIE X pins σ tg R) X.xe s1) X.xe s

/-- the step ahead of the store is nothing for an iterator that keeps no tuple -/
theorem go_of {M : Model} {A : Around} {E : Value → Shared → Prop} {s : Shared} {tg : Expr} {it : Addr} {u : Value} {o : Obj} {n : String} {vs : Array Value} {Q : Unit → Shared → Prop} (ho : s.heap.get? it = some o) (hc : o.cls = .type n) (hd : o.data = .fields vs)
    (hn : ["enumerate", "zip", "dict_itemiterator", "dict_reverseitemiterator", "odict_iterator", "itertools.zip_longest", "itertools.pairwise"].contains n = false) (hQ : Q () s) : wpAny M A (letOwnedTupleGo tg (.ref it) u) Q E s := by
  unfold letOwnedTupleGo
  cases tg <;> first
    | exact wpAny_pure hQ
    | (cases u <;> first
        | exact wpAny_pure hQ
        | (refine wpAny_bind (wpAny_load ho ?_)
           rw [hc, hd]
           show wpAny M A (if (["enumerate", "zip", "dict_itemiterator", "dict_reverseitemiterator", "odict_iterator", "itertools.zip_longest", "itertools.pairwise"].contains n && vs[0]? == some (rawInt _)) = true then _ else _) Q E s
           rw [if_neg (by intro h; rw [hn, Bool.false_and] at h; cases h)]
           exact wpAny_pure hQ))

/-- the list at a, as it stands at each turn (a loop may append to it) -/
def Itl (K : PySem.W.Frag) (a : Addr) : It :=
  ⟨fun i H => ∃ xs x, SqL K H a xs ∧ xs[i]? = some x, fun i H x H' => H' = H ∧ ∀ xs, SqL K H a xs → xs[i]? = some x, fun i H => ∃ xs, SqL K H a xs ∧ xs.length ≤ i⟩
/-- lo, lo + 1, .. (n of them) -/
def Itr (lo : Int) (n : Nat) : It := ⟨fun i _ => i < n, fun i H x H' => H' = H ∧ x = .int (lo + i), fun i _ => n ≤ i⟩
theorem turn_list {P : Program} {w : World} {K : PySem.W.Frag} {tg : Expr} (a it : Addr) : Turn P w K tg (Itl K a) [it] it (fun i h => h.IsListIter it a i) where
  mem := by simp
  obj := fun i h st b hb => by
    have e : b = it := by simpa using hb
    subst e
    obtain ⟨o, e, c, d⟩ := st
    exact ⟨o, e, fun v z => by rw [d] at z; cases z⟩
  keep := fun i h h' st k => st.at fun o e => k it (by simp) o e
  item := by
    intro X hP hw hK hc i pins s σ H E I hf st hg
    subst hP hw hK
    obtain ⟨xs, x, hq, hx⟩ := hg
    obtain ⟨its, rv, p, hz⟩ := I.list hq
    obtain ⟨u, hu, ru⟩ := rv.get hx
    obtain ⟨f0, f1, f2, f3, f4, f5⟩ := hf it (by simp)
    refine wpAny_pyNext_list_item st p.isList (x := u) (by simpa using hu) fun h' st' sb => ?_
    have I1 : Inv X pins σ H { s with heap := h' } := I.turned (t' := s.toks) (fun b o hb e => (sb.2 b hb).trans e) f0 f1 f3 f4 f5
    obtain ⟨o, e, c, d⟩ := id st'
    exact ⟨u, rfl, go_of (s := { s with heap := h' }) e c d (by decide) ⟨x, H, I1, ru, ⟨rfl, fun ys hy => by rw [I.list_inj hy hq]; exact hx⟩, st', fun b hb => (hf b hb).1⟩⟩
  done := by
    intro X hP hw hK hc i pins s σ H E I hf st hg
    subst hP hw hK
    obtain ⟨xs, hq, hx⟩ := hg
    obtain ⟨its, rv, p, hz⟩ := I.list hq
    obtain ⟨f0, f1, f2, f3, f4, f5⟩ := hf it (by simp)
    have hl := rv.length
    exact wpAny_pyNext_list_end (I.ok.hd hc) st p.isList (by simp; omega) fun h' eb => ⟨rfl, I.turned (t' := s.toks) (fun b o hb e => eb b o hb e) f0 f1 f3 f4 f5⟩
  self := fun _ _ _ _ _ st h => wpAny_pyIter_listiter st h
theorem turn_range {P : Program} {w : World} {K : PySem.W.Frag} {tg : Expr} (it : Addr) (lo : Int) (n : Nat) : Turn P w K tg (Itr lo n) [it] it (fun i h => IsRangeIter h it (lo + (i : Nat) * 1) ((n : Int) - (i : Nat)) 1) where
  mem := by simp
  obj := fun i h st b hb => by
    have e : b = it := by simpa using hb
    subst e
    exact ⟨_, st, fun v z => by
      have z' : Data.fields _ = Data.cell v := z
      cases z'⟩
  keep := fun i h h' st k => k it (by simp) _ st
  item := by
    intro X hP hw hK hc i pins s σ H E I hf st hg
    subst hP hw hK
    obtain ⟨f0, f1, f2, f3, f4, f5⟩ := hf it (by simp)
    have W := Walks.range (prog := X.prog) (w := X.w) (I.ok.hd hc) it lo 1 n
    refine W.item i s _ _ hg st fun v h' tk hv st' kk => ?_
    obtain ⟨t, rfl⟩ := hv
    have I1 : Inv X pins σ H { s with heap := h', toks := tk } := I.turned (fun b o hb e => kk b o (by simpa using hb) e) f0 f1 f3 f4 f5
    refine ⟨_, rfl, go_of (s := { s with heap := h', toks := tk }) (n := "range_iterator") st' rfl rfl (by decide) ⟨.int (lo + i), H, I1, ⟨t, ?_⟩, ⟨rfl, rfl⟩, st', fun b hb => (hf b hb).1⟩⟩
    rw [Int.mul_one]
  done := by
    intro X hP hw hK hc i pins s σ H E I hf st hg
    subst hP hw hK
    obtain ⟨f0, f1, f2, f3, f4, f5⟩ := hf it (by simp)
    exact wpAny_pyNext_range_end (I.ok.hd hc) st (by have : n ≤ i := hg; omega) fun h' eb => ⟨rfl, I.turned (t' := s.toks) (fun b o hb e => eb b o hb e) f0 f1 f3 f4 f5⟩
  self := fun _ _ _ _ _ st h => wpAny_pyIter_rangeiter st h
end L2

namespace L2
open PySem PySem.Spec PyProof.Rows
section
variable {X : Cx} {tg : Expr}
def iList (K : PySem.W.Frag) (tl : TE) : TI := fun σ H R => tl σ H fun x H1 => ∃ a, x = .ref a ∧ (∃ xs, SqL K H1 a xs) ∧ R (Itl K a) H1
theorem pi_list {l : Expr} {tl : TE} (hl : PE X l tl) : PI X tg l (iList X.K tl) := by
  intro pins s σ H R I h
  refine thn (hl pins s σ H _ I h) fun v s1 ⟨x, H1, I1, r1, q1⟩ => ?_
  obtain ⟨a, e, ⟨xs, hq⟩, q⟩ := q1
  subst e
  cases r1
  obtain ⟨its, rv, p, hz⟩ := I1.list hq
  refine wpAny_pyIter_list p.isList ?_
  refine ⟨s1.heap.objs.size, [s1.heap.objs.size], _, _, H1, rfl, I1.kept (t' := s1.toks) fun b o e => Heap.get?_push_of_some _ e, turn_list a _, ⟨_, Heap.get?_push_size _ rfl, rfl, rfl⟩, fun b hb => ?_, q⟩
  have e : b = s1.heap.objs.size := by simpa using hb
  subst e
  exact I1.fpOk (Nat.le_refl _) (I1.hok.fresh (Nat.le_refl _))
/-- a range object just made, walked -/
theorem range_it {pins : List (Addr × Obj)} {σ : St} {H : Hp} {s : Shared} {R : It → Hp → Prop} {E : Value → Shared → Prop} {lo hi : Int} {t u v : Tok} {tk : Nat} (I : Inv X pins σ H s) (h1 : -(2 ^ 62) ≤ lo) (h2 : lo < 2 ^ 62) (h3 : -(2 ^ 62) ≤ hi) (h4 : hi < 2 ^ 62)
    (q : R (Itr lo (hi - lo).toNat) H) : wpAny (model X.prog X.w) X.A (pyIter (.ref s.heap.objs.size)) (PIE X pins σ tg R) E { s with heap := s.heap.push { cls := .type "range", data := .fields #[.int lo t, .int hi u, .int 1 v] }, toks := tk } := by
  refine wpAny_pyIter_range (IsRange.new ..) (small_one h1 h2 h3 h4) ?_
  have I1 : Inv X pins σ H { s with heap := s.heap.push { cls := .type "range", data := .fields #[.int lo t, .int hi u, .int 1 v] }, toks := tk } := I.kept fun b o e => Heap.get?_push_of_some _ e
  refine ⟨(s.heap.push { cls := .type "range", data := .fields #[.int lo t, .int hi u, .int 1 v] }).objs.size, [(s.heap.push { cls := .type "range", data := .fields #[.int lo t, .int hi u, .int 1 v] }).objs.size], _, _, H, rfl,
    I1.kept (t' := tk) fun b o e => Heap.get?_push_of_some _ e, turn_range _ lo (hi - lo).toNat, ?_, fun b hb => ?_, q⟩
  · have e1 : lo + ((0 : Nat) : Int) * 1 = lo := by simp
    have e2 : (((hi - lo).toNat : Nat) : Int) - ((0 : Nat) : Int) = Builtin.Range.rangeSize lo hi 1 := by rw [rangeSize_one]; split <;> omega
    show IsRangeIter _ _ (lo + ((0 : Nat) : Int) * 1) ((((hi - lo).toNat : Nat) : Int) - ((0 : Nat) : Int)) 1
    rw [e1, e2]
    exact Heap.get?_push_size _ rfl
  · have e : b = (s.heap.push { cls := .type "range", data := .fields #[.int lo t, .int hi u, .int 1 v] }).objs.size := by simpa using hb
    subst e
    exact I1.fpOk (Nat.le_refl _) (I1.hok.fresh (Nat.le_refl _))
def iRng1 (ta : TA) : TI := fun σ H R => ta σ H fun vs H1 => ∃ j : Int, vs = [.int j] ∧ -(2 ^ 62) ≤ j ∧ j < 2 ^ 62 ∧ R (Itr 0 j.toNat) H1
theorem pi_range1 {a : Expr} {ta : TA} {p pos : Pos} (hg : Gl X "range") (hm : X.mg "range" = none) (ha : PA X [a] ta) (hs : starEach [a] X.env = [(false, eval a X.env)] := by rfl) : PI X tg (.Call (.Name "range" p) [a] [] pos) (iRng1 ta) := by
  intro pins s σ H R I h
  refine Call_ (ld_blt I hg hm boot_range (PyProof.Rows.callWith_type1 (thn (ha pos pins s σ H _ I h) fun us s1 ⟨vs, H1, I1, r1, q1⟩ => ?_) hs rfl))
  obtain ⟨j, e, q1, q2, q⟩ := q1
  subst e
  cases r1 with
  | cons r rr =>
    cases rr
    obtain ⟨t, rfl⟩ := r
    exact call_range_1 (range_it I1 (by omega) (by omega) q1 q2 (by simpa using q))
/-! ### for -/
/-- W: the invariant by the turn and a measure; N: what the body is to reach -/
def tFor (wi : TI) (g : TG) (tb : TS) : TS := fun D σ H => wi σ H fun J H1 => ∃ W : Nat → Nat → St → Hp → Prop, (∃ m, W 0 m σ H1) ∧ ∀ i m σ H, W i m σ H →
  (J.stop i H ∧ D.nx σ H) ∨ (J.go i H ∧ ∃ N : St → Hp → Prop, (∀ σ' H', N σ' H' → ∃ m', m' < m ∧ W (i + 1) m' σ' H') ∧ ∀ x H', J.yld i H x H' → g x σ H' fun σ2 H2 => tb { D with nx := N, ct := N, bk := D.nx } σ2 H2)
/-- the records at fp as they stand -/
def pinsAt (fp : List Addr) (h : Heap) : List (Addr × Obj) := fp.filterMap fun b => (h.get? b).map fun o => (b, o)
theorem mem_pinsAt {fp : List Addr} {h : Heap} {b : Addr} {o : Obj} (hb : b ∈ fp) (e : h.get? b = some o) : (b, o) ∈ pinsAt fp h := List.mem_filterMap.mpr ⟨b, hb, by rw [e]; rfl⟩
theorem of_pinsAt {fp : List Addr} {h : Heap} {p : Addr × Obj} (hp : p ∈ pinsAt fp h) : p.1 ∈ fp ∧ h.get? p.1 = some p.2 := by
  obtain ⟨b, hb, e⟩ := List.mem_filterMap.mp hp
  cases q : h.get? b with
  | none => rw [q] at e; cases e
  | some o =>
    rw [q] at e
    have e' : (b, o) = p := Option.some.inj e
    subst e'
    exact ⟨hb, q⟩
theorem Inv.pinned {pins : List (Addr × Obj)} {σ : St} {H : Hp} {s : Shared} {fp : List Addr} (I : Inv X pins σ H s) (hf : ∀ b ∈ fp, FpOk X pins H b) (ho : ∀ b ∈ fp, ∃ o, s.heap.get? b = some o ∧ ∀ v, o.data ≠ .cell v) : Inv X (pins ++ pinsAt fp s.heap) σ H s :=
  I.pins_of fun p hp => (List.mem_append.mp hp).elim (fun z => I.pin p (List.mem_append_right _ z)) fun z => by
    obtain ⟨hb, e⟩ := of_pinsAt z
    obtain ⟨f0, f1, f2, _⟩ := hf p.1 hb
    obtain ⟨o, e', d⟩ := ho p.1 hb
    rw [e] at e'; cases e'
    exact ⟨e, f0, f1, f2, d⟩
theorem Inv.unpinned {pins pl : List (Addr × Obj)} {σ : St} {H : Hp} {s : Shared} (I : Inv X (pins ++ pl) σ H s) : Inv X pins σ H s := I.pins_of fun p hp => I.pin p (List.mem_append_right _ (List.mem_append_left _ hp))
theorem ps_for {iter : Expr} {body : List Stmt} {wi : TI} {g : TG} {tb : TS} {pos : Pos} (hp : PassesOwn (model X.prog X.w) X.A X.env X.xe) (hc : X.calm = true) (hi : PI X tg iter wi) (hg : PG X tg g) (hb : PSs X body tb)
    (hs : ∀ x, foldedSetIterable iter X.env x = pure x := by intro _; rfl) : PS X (.For tg iter body [] pos) (tFor wi g tb) := by
  intro pins s σ H D I h
  refine wpAny_For (thn (hi pins s σ H _ I h) fun v s1 h1 => thn h1 fun itv s2 h2 => ?_) hs
  obtain ⟨it, fp, tn, J, H2, e, I2, T, st2, f2, W, ⟨m0, w0⟩, turn⟩ := h2
  subst e
  -- what stays true of the iterator's objects through the loop
  have stat : ∀ {H' : Hp}, (∀ b ∈ fp, H' b = none) → ∀ b ∈ fp, FpOk X pins H' b := fun hn b hb => ⟨hn b hb, (f2 b hb).2⟩
  refine codeAny_forLoop_any (fun n s' => ∃ i σ' H', Inv X pins σ' H' s' ∧ tn i s'.heap ∧ (∀ b ∈ fp, H' b = none) ∧ W i n σ' H') ?_ m0 ⟨0, σ, H2, I2, st2, fun b hb => (f2 b hb).1, w0⟩
  rintro n s3 ⟨i, σ3, H3, I3, st3, fr3, w3⟩
  rcases turn i n σ3 H3 w3 with ⟨stop, qn⟩ | ⟨go, N, hN, step⟩
  · refine wpAny_passesOwn hp (thn (T.done X rfl rfl rfl hc i pins s3 σ3 H3 X.xe I3 (stat fr3) st3 stop) fun r s4 ⟨hr, I4⟩ => ?_)
    subst hr
    exact wpAny_execs_nil ⟨σ3, H3, I4, qn⟩
  · refine wpAny_passesOwn hp (thn (T.item X rfl rfl rfl hc i pins s3 σ3 H3 X.xe I3 (stat fr3) st3 go) fun r s4 ⟨u, hr, h4⟩ => ?_)
    subst hr
    refine wpAny_passesOwn hp (thn h4 fun _ s5 ⟨x, H5, I5, r5, y5, st5, fr5⟩ => ?_)
    have I5' := I5.pinned (stat fr5) (T.obj _ _ st5)
    refine wpAny_passesOwn hp (thn (hg _ s5 σ3 H5 x u _ I5' r5 (step x H5 y5)) fun _ s6 ⟨σ6, H6, I6, q6⟩ => ?_)
    refine wpAny_passesOwn hp (thn (hb _ s6 σ6 H6 _ I6 q6) fun f s7 q7 => ?_)
    have again : ∀ {σ7 : St} {H7 : Hp}, Inv X (pins ++ pinsAt fp s5.heap) σ7 H7 s7 → N σ7 H7 → ∃ m, m < n ∧ ∃ i σ' H', Inv X pins σ' H' s7 ∧ tn i s7.heap ∧ (∀ b ∈ fp, H' b = none) ∧ W i m σ' H' := fun {σ7 H7} I7 n7 => by
      obtain ⟨m', hm, w7⟩ := hN σ7 H7 n7
      refine ⟨m', hm, i + 1, σ7, H7, I7.unpinned, T.keep _ _ _ st5 fun b hb o e => (I7.pin (b, o) (List.mem_append_right _ (List.mem_append_right _ (mem_pinsAt hb e)))).1, fun b hb => ?_, w7⟩
      obtain ⟨o, e, d⟩ := T.obj _ _ st5 b hb
      exact (I7.pin (b, o) (List.mem_append_right _ (List.mem_append_right _ (mem_pinsAt hb e)))).2.1
    cases f with
    | next => obtain ⟨σ7, H7, I7, n7⟩ := q7; exact again I7 n7
    | cont => obtain ⟨σ7, H7, I7, n7⟩ := q7; exact again I7 n7
    | brk => obtain ⟨σ7, H7, I7, q7⟩ := q7; exact ⟨σ7, H7, I7.unpinned, q7⟩
    | ret v => obtain ⟨x7, σ7, H7, I7, r7, q7⟩ := q7; exact ⟨x7, σ7, H7, I7.unpinned, r7, q7⟩
end

/-! ### the forms one uses -/
/-- over a list that the body leaves as it is -/
theorem for_list {K : PySem.W.Frag} {a : Addr} {xs : List V} {g : TG} {tb : TS} {D : Ends} {σ : St} {H : Hp} (Pv : Nat → St → Hp → Prop) (h0 : Pv 0 σ H) (hl : ∀ i σ H, i ≤ xs.length → Pv i σ H → SqL K H a xs)
    (hs : ∀ i x σ H, xs[i]? = some x → Pv i σ H → g x σ H fun σ2 H2 => tb { D with nx := Pv (i + 1), ct := Pv (i + 1), bk := D.nx } σ2 H2) (hd : ∀ σ H, Pv xs.length σ H → D.nx σ H) :
    ∃ W : Nat → Nat → St → Hp → Prop, (∃ m, W 0 m σ H) ∧ ∀ i m σ H, W i m σ H →
      ((Itl K a).stop i H ∧ D.nx σ H) ∨ ((Itl K a).go i H ∧ ∃ N : St → Hp → Prop, (∀ σ' H', N σ' H' → ∃ m', m' < m ∧ W (i + 1) m' σ' H') ∧ ∀ x H', (Itl K a).yld i H x H' → g x σ H' fun σ2 H2 => tb { D with nx := N, ct := N, bk := D.nx } σ2 H2) := by
  refine ⟨fun i m σ H => m = xs.length - i ∧ i ≤ xs.length ∧ Pv i σ H, ⟨xs.length, by simp, Nat.zero_le _, h0⟩, ?_⟩
  rintro i m σ H ⟨rfl, hi, p⟩
  have q := hl i σ H hi p
  by_cases hlt : i < xs.length
  · refine .inr ⟨⟨xs, xs[i], q, by simp [hlt]⟩, Pv (i + 1), fun σ' H' p' => ⟨xs.length - (i + 1), by omega, rfl, hlt, p'⟩, fun x H' y => ?_⟩
    obtain ⟨e, y⟩ := y
    subst e
    exact hs i x σ _ (y xs q) p
  · have e : i = xs.length := by omega
    subst e
    exact .inl ⟨⟨xs, q, Nat.le_refl _⟩, hd σ H p⟩
theorem for_range {lo : Int} {n : Nat} {g : TG} {tb : TS} {D : Ends} {σ : St} {H : Hp} (Pv : Nat → St → Hp → Prop) (h0 : Pv 0 σ H)
    (hs : ∀ i σ H, i < n → Pv i σ H → g (.int (lo + i)) σ H fun σ2 H2 => tb { D with nx := Pv (i + 1), ct := Pv (i + 1), bk := D.nx } σ2 H2) (hd : ∀ σ H, Pv n σ H → D.nx σ H) :
    ∃ W : Nat → Nat → St → Hp → Prop, (∃ m, W 0 m σ H) ∧ ∀ i m σ H, W i m σ H →
      ((Itr lo n).stop i H ∧ D.nx σ H) ∨ ((Itr lo n).go i H ∧ ∃ N : St → Hp → Prop, (∀ σ' H', N σ' H' → ∃ m', m' < m ∧ W (i + 1) m' σ' H') ∧ ∀ x H', (Itr lo n).yld i H x H' → g x σ H' fun σ2 H2 => tb { D with nx := N, ct := N, bk := D.nx } σ2 H2) := by
  refine ⟨fun i m σ H => m = n - i ∧ i ≤ n ∧ Pv i σ H, ⟨n, by simp, Nat.zero_le _, h0⟩, ?_⟩
  rintro i m σ H ⟨rfl, hi, p⟩
  by_cases hlt : i < n
  · refine .inr ⟨hlt, Pv (i + 1), fun σ' H' p' => ⟨n - (i + 1), by omega, rfl, hlt, p'⟩, fun x H' y => ?_⟩
    obtain ⟨e, y⟩ := y
    subst e y
    exact hs i σ _ hlt p
  · have e : i = n := by omega
    subst e
    exact .inl ⟨Nat.le_refl _, hd σ H p⟩
end L2

namespace L2
open PySem PySem.Spec PyProof.Rows

abbrev R2 := V → V → Hp → VK → Prop
/-- a two-place operation on values: f is binaryOp op, inplaceOp op or compareOp op -/
def OpR (X : Cx) (f : Value → Value → Sem Value) (r : R2) : Prop :=
  ∀ (pins : List (Addr × Obj)) (s : Shared) (σ : St) (H : Hp) (x y : V) (v u : Value) (Q : VK), Inv X pins σ H s → RelV x v → RelV y u → r x y H Q →
    wpAny (model X.prog X.w) X.A (f v u) (EP X pins σ Q) X.xe s
/-- a call of a value that is known (a builtin, a type) with values -/
def CallR (X : Cx) (f : Value) (r : List V → Hp → VK → Prop) : Prop :=
  ∀ (pins : List (Addr × Obj)) (s : Shared) (σ : St) (H : Hp) (xs : List V) (us : List Value) (Q : VK), Inv X pins σ H s → Vals xs us → r xs H Q →
    wpAny (model X.prog X.w) X.A (call f us) (EP X pins σ Q) X.xe s
def tOp (r : R2) (ta tb : TE) : TE := fun σ H Q => ta σ H fun x H1 => tb σ H1 fun y H2 => r x y H2 Q
/-- ints in, under C, and a value out -/
def rI (C : Int → Int → Prop) (g : Int → Int → V) : R2 := fun x y H Q => ∃ i j, x = .int i ∧ y = .int j ∧ C i j ∧ Q (g i j) H
def rI0 (g : Int → Int → V) : R2 := fun x y H Q => ∃ i j, x = .int i ∧ y = .int j ∧ Q (g i j) H
section
variable {X : Cx} {a b c : Expr} {ta tb tc : TE} {pos : Pos}

theorem binT (ha : PE X a ta) (hb : PE X b tb) {pins : List (Addr × Obj)} {s : Shared} {σ : St} {H : Hp} {R : V → V → Hp → Prop} (I : Inv X pins σ H s)
    (h : ta σ H fun x H1 => tb σ H1 fun y H2 => R x y H2) {Q : Value → Shared → Prop} {f : Value → Value → Sem Value}
    (hf : ∀ v u s2 x y H2, Inv X pins σ H2 s2 → RelV x v → RelV y u → R x y H2 → wpAny (model X.prog X.w) X.A (f v u) Q X.xe s2) :
    wpAny (model X.prog X.w) X.A (eval a X.env) (fun v s₁ => wpAny (model X.prog X.w) X.A (eval b X.env) (fun u s₂ => wpAny (model X.prog X.w) X.A (f v u) Q X.xe s₂) X.xe s₁) X.xe s := by
  refine thn (ha pins s σ H _ I h) fun v s1 ⟨x, H1, I1, r1, q1⟩ => ?_
  refine thn (hb pins s1 σ H1 _ I1 q1) fun u s2 ⟨y, H2, I2, r2, q2⟩ => ?_
  exact hf v u s2 x y H2 I2 r1 r2 q2

theorem pe_op {op : Operator} {r : R2} (ho : OpR X (binaryOp op) r) (ha : PE X a ta) (hb : PE X b tb) : PE X (.BinOp a op b pos) (tOp r ta tb) := by
  intro pins s σ H Q I h
  exact wpAny_BinOp (binT ha hb I h fun v u s2 x y H2 I2 rx ry q => ho pins s2 σ H2 x y v u Q I2 rx ry q)
/-! ### ints -/
theorem opI {f : Value → Value → Sem Value} {C : Int → Int → Prop} {g : Int → Int → Int}
    (rule : ∀ (i j : Int) (t u : Tok) (s : Shared) (Q : Value → Shared → Prop) (E : Value → Shared → Prop), C i j → Q (.int (g i j) s.toks) { s with toks := s.toks + 1 } → wpAny (model X.prog X.w) X.A (f (.int i t) (.int j u)) Q E s) :
    OpR X f (rI C fun i j => .int (g i j)) := by
  intro pins s σ H x y v u Q I rx ry h
  obtain ⟨i, j, rfl, rfl, hc, q⟩ := h
  obtain ⟨t, rfl⟩ := rx
  obtain ⟨t', rfl⟩ := ry
  exact rule i j t t' s _ _ hc ⟨.int (g i j), H, I.tok _, ⟨_, rfl⟩, q⟩
theorem opI0 {f : Value → Value → Sem Value} {g : Int → Int → Int}
    (rule : ∀ (i j : Int) (t u : Tok) (s : Shared) (Q : Value → Shared → Prop) (E : Value → Shared → Prop), Q (.int (g i j) s.toks) { s with toks := s.toks + 1 } → wpAny (model X.prog X.w) X.A (f (.int i t) (.int j u)) Q E s) :
    OpR X f (rI0 fun i j => .int (g i j)) := by
  intro pins s σ H x y v u Q I rx ry h
  obtain ⟨i, j, rfl, rfl, q⟩ := h
  obtain ⟨t, rfl⟩ := rx
  obtain ⟨t', rfl⟩ := ry
  exact rule i j t t' s _ _ ⟨.int (g i j), H, I.tok _, ⟨_, rfl⟩, q⟩
theorem opB0 {f : Value → Value → Sem Value} {g : Int → Int → Bool}
    (rule : ∀ (i j : Int) (t u : Tok) (s : Shared) (Q : Value → Shared → Prop) (E : Value → Shared → Prop), Q (.bool (g i j)) s → wpAny (model X.prog X.w) X.A (f (.int i t) (.int j u)) Q E s) :
    OpR X f (rI0 fun i j => .bl (g i j)) := by
  intro pins s σ H x y v u Q I rx ry h
  obtain ⟨i, j, rfl, rfl, q⟩ := h
  obtain ⟨t, rfl⟩ := rx
  obtain ⟨t', rfl⟩ := ry
  exact rule i j t t' s _ _ ⟨.bl (g i j), H, I, rfl, q⟩

def CDiv (i j : Int) : Prop := 0 < j ∧ j < 1073741824
def CMul (i j : Int) : Prop := (-(2 ^ 64) < i ∧ i < 2 ^ 64) ∨ (-(2 ^ 64) < j ∧ j < 2 ^ 64)
theorem CMul.ok {i j : Int} (h : CMul i j) : IntMulOk i j := by
  rcases h with ⟨h1, h2⟩ | ⟨h1, h2⟩
  · exact .of_left (intBits_le_64 h1 h2)
  · exact .of_right (intBits_le_64 h1 h2)
theorem op_add : OpR X (binaryOp .Add) (rI0 fun i j => .int (i + j)) := opI0 fun _ _ _ _ _ _ _ q => add_int q
theorem op_sub : OpR X (binaryOp .Sub) (rI0 fun i j => .int (i - j)) := opI0 fun _ _ _ _ _ _ _ q => sub_int q
/-- // by a positive divisor -/
theorem op_fdiv : OpR X (binaryOp .FloorDiv) (rI CDiv fun i j => .int (i / j)) := opI fun i j _ _ _ _ _ hc q => by
  have h1 : (0 : Int) < j := hc.1
  have h2 : j < 1073741824 := hc.2
  exact floordiv_int (by omega) (by rw [Int.fdiv_eq_ediv_of_nonneg i (by omega)]; exact q) (.inl (PyProof.noPylong_small (by omega)))
/-! ### bools among ints: n += (a < b) -/
end

/-! ### comparisons -/
/-- the scalars that == tells apart as data does -/
def scal : V → V → Bool
  | .non, .non => true | .non, .int _ => true | .int _, .non => true | .non, .bl _ => true | .bl _, .non => true | .non, .str _ => true | .str _, .non => true
  | .int _, .int _ => true | .bl _, .bl _ => true | .str _, .str _ => true | .byt _, .byt _ => true
  | .int _, .str _ => true | .str _, .int _ => true | .bl _, .str _ => true | .str _, .bl _ => true
  | _, _ => false
def rEq : R2 := fun x y H Q => scal x y = true ∧ Q (.bl (decide (x = y))) H
def rNe : R2 := fun x y H Q => scal x y = true ∧ Q (.bl (!decide (x = y))) H

theorem dec_int {i j : Int} : decide (V.int i = V.int j) = (i == j) := by
  rw [Bool.eq_iff_iff]
  simp
theorem dec_bl {i j : Bool} : decide (V.bl i = V.bl j) = (i == j) := by
  rw [Bool.eq_iff_iff]
  simp
theorem dec_str {i j : Str} : decide (V.str i = V.str j) = (i == j) := by
  rw [Bool.eq_iff_iff]
  simp
theorem dec_byt {i j : Array UInt8} : decide (V.byt i = V.byt j) = (i.toList == j.toList) := by
  rw [Bool.eq_iff_iff]
  cases i
  cases j
  simp

section
variable {X : Cx} {a b c : Expr} {ta tb tc : TE} {pos : Pos}
theorem fin_bl {pins : List (Addr × Obj)} {σ : St} {H : Hp} {s : Shared} {Q : VK} {k k' : Bool} (I : Inv X pins σ H s) (q : Q (.bl k) H) (e : k = k') : EP X pins σ Q (.bool k') s := by
  subst e
  exact ⟨.bl k, H, I, rfl, q⟩
theorem op_eq : OpR X (compareOp .Eq) rEq := by
  intro pins s σ H x y v u Q I rx ry h
  obtain ⟨hs, q⟩ := h
  cases x with
  | non =>
    cases rx
    cases y with
    | non => cases ry; exact PySem.EqNone.eq_none_none (fin_bl I q (by simp))
    | bl j => cases ry; exact PySem.EqNone.eq_none_bool (fin_bl I q (by simp))
    | int j => obtain ⟨t', rfl⟩ := ry; exact PySem.EqNone.eq_none_int (fin_bl I q (by simp))
    | str j => obtain ⟨t', rfl⟩ := ry; exact PySem.EqNone.eq_none_str (fin_bl I q (by simp))
    | _ => exact absurd (show false = true from hs) Bool.false_ne_true
  | bl i =>
    cases rx
    cases y with
    | non => cases ry; exact PySem.EqNone.eq_bool_none (fin_bl I q (by simp))
    | bl j => cases ry; exact eq_bool (fin_bl I q dec_bl)
    | str j => obtain ⟨t', rfl⟩ := ry; exact PySem.EqMixed.eq_bool_str (fin_bl I q (by simp))
    | _ => exact absurd (show false = true from hs) Bool.false_ne_true
  | int i =>
    obtain ⟨t, rfl⟩ := rx
    cases y with
    | non => cases ry; exact PySem.EqNone.eq_int_none (fin_bl I q (by simp))
    | int j => obtain ⟨t', rfl⟩ := ry; exact eq_int (fin_bl I q dec_int)
    | str j => obtain ⟨t', rfl⟩ := ry; exact PySem.EqMixed.eq_int_str (fin_bl I q (by simp))
    | _ => exact absurd (show false = true from hs) Bool.false_ne_true
  | str i =>
    obtain ⟨t, rfl⟩ := rx
    cases y with
    | non => cases ry; exact PySem.EqNone.eq_str_none (fin_bl I q (by simp))
    | bl j => cases ry; exact PySem.EqMixed.eq_str_bool (fin_bl I q (by simp))
    | int j => obtain ⟨t', rfl⟩ := ry; exact PySem.EqMixed.eq_str_int (fin_bl I q (by simp))
    | str j => obtain ⟨t', rfl⟩ := ry; exact eq_str (fin_bl I q dec_str)
    | _ => exact absurd (show false = true from hs) Bool.false_ne_true
  | byt i =>
    obtain ⟨t, rfl⟩ := rx
    cases y with
    | byt j => obtain ⟨t', rfl⟩ := ry; exact PySem.W.eq_bytes (fin_bl I q dec_byt)
    | _ => exact absurd (show false = true from hs) Bool.false_ne_true
  | _ => cases y <;> exact absurd (show false = true from hs) Bool.false_ne_true
theorem op_ne : OpR X (compareOp .NotEq) rNe := by
  intro pins s σ H x y v u Q I rx ry h
  obtain ⟨hs, q⟩ := h
  cases x with
  | non =>
    cases rx
    cases y with
    | non => cases ry; exact PySem.EqNone.ne_none_none (fin_bl I q (by simp))
    | bl j => cases ry; exact PySem.EqNone.ne_none_bool (fin_bl I q (by simp))
    | int j => obtain ⟨t', rfl⟩ := ry; exact PySem.EqNone.ne_none_int (fin_bl I q (by simp))
    | str j => obtain ⟨t', rfl⟩ := ry; exact PySem.EqNone.ne_none_str (fin_bl I q (by simp))
    | _ => exact absurd (show false = true from hs) Bool.false_ne_true
  | bl i =>
    cases rx
    cases y with
    | non => cases ry; exact PySem.EqNone.ne_bool_none (fin_bl I q (by simp))
    | bl j => cases ry; exact ne_bool (fin_bl I q (congrArg not dec_bl))
    | str j => obtain ⟨t', rfl⟩ := ry; exact PySem.EqMixed.ne_bool_str (fin_bl I q (by simp))
    | _ => exact absurd (show false = true from hs) Bool.false_ne_true
  | int i =>
    obtain ⟨t, rfl⟩ := rx
    cases y with
    | non => cases ry; exact PySem.EqNone.ne_int_none (fin_bl I q (by simp))
    | int j => obtain ⟨t', rfl⟩ := ry; exact ne_int (fin_bl I q (congrArg not dec_int))
    | str j => obtain ⟨t', rfl⟩ := ry; exact PySem.EqMixed.ne_int_str (fin_bl I q (by simp))
    | _ => exact absurd (show false = true from hs) Bool.false_ne_true
  | str i =>
    obtain ⟨t, rfl⟩ := rx
    cases y with
    | non => cases ry; exact PySem.EqNone.ne_str_none (fin_bl I q (by simp))
    | bl j => cases ry; exact PySem.EqMixed.ne_str_bool (fin_bl I q (by simp))
    | int j => obtain ⟨t', rfl⟩ := ry; exact PySem.EqMixed.ne_str_int (fin_bl I q (by simp))
    | str j => obtain ⟨t', rfl⟩ := ry; exact ne_str (fin_bl I q (congrArg not dec_str))
    | _ => exact absurd (show false = true from hs) Bool.false_ne_true
  | byt i =>
    obtain ⟨t, rfl⟩ := rx
    cases y with
    | byt j => obtain ⟨t', rfl⟩ := ry; exact PySem.W.ne_bytes (fin_bl I q (congrArg not dec_byt))
    | _ => exact absurd (show false = true from hs) Bool.false_ne_true
  | _ => cases y <;> exact absurd (show false = true from hs) Bool.false_ne_true

theorem op_lt : OpR X (compareOp .Lt) (rI0 fun i j => .bl (decide (i < j))) := opB0 fun _ _ _ _ _ _ _ q => lt_int q
theorem op_le : OpR X (compareOp .LtE) (rI0 fun i j => .bl (decide (i ≤ j))) := opB0 fun _ _ _ _ _ _ _ q => le_int q
theorem op_gt : OpR X (compareOp .Gt) (rI0 fun i j => .bl (decide (j < i))) := opB0 fun _ _ _ _ _ _ _ q => gt_int q
theorem op_ge : OpR X (compareOp .GtE) (rI0 fun i j => .bl (decide (j ≤ i))) := opB0 fun _ _ _ _ _ _ _ q => ge_int q
/-- two rules for one operation: by cases -/
theorem OpR.or {f : Value → Value → Sem Value} {r r' : R2} (h : OpR X f r) (h' : OpR X f r') : OpR X f (fun x y H Q => r x y H Q ∨ r' x y H Q) := by
  intro pins s σ H x y v u Q I rx ry q
  rcases q with q | q
  · exact h pins s σ H x y v u Q I rx ry q
  · exact h' pins s σ H x y v u Q I rx ry q

theorem nomark (b : Expr) {op : CmpOp} (h : op ≠ .In := by decide) (h2 : op ≠ .NotIn := by decide) : behindInMarks op b = false := by
  have e1 : (op == CmpOp.In) = false := by cases op <;> first | rfl | exact absurd rfl h
  have e2 : (op == CmpOp.NotIn) = false := by cases op <;> first | rfl | exact absurd rfl h2
  cases b <;> simp [behindInMarks, e1, e2]
/-- a reading of a value as a test -/
def tTest (t : TE) : TT := fun σ H Q => t σ H fun x H' => ∃ k, x = .bl k ∧ Q k H'
theorem pt_cmpR {op : CmpOp} {r : R2} (ho : OpR X (compareOp op) r) (ha : PE X a ta) (hb : PE X b tb) (hm : behindInMarks op b = false) : PT X (.Compare a [op] [b] pos) (tTest (tOp r ta tb)) := by
  intro pins s σ H Q I h
  refine wpAny_isTrue_Compare1 (thn (ha pins s σ H _ I h) fun v s1 ⟨x, H1, I1, r1, q1⟩ => thn (hb pins s1 σ H1 _ I1 q1) fun u s2 ⟨y, H2, I2, r2, q2⟩ =>
    thn (ho pins s2 σ H2 x y v u _ I2 r1 r2 q2) fun c s3 ⟨z, H3, I3, r3, k, e, q3⟩ => ?_) hm
  subst e
  cases r3
  exact wpAny_truthy_bool ⟨H3, I3, q3⟩
/-! ### truth -/
theorem line63 : (sizeLine : Nat) < 2 ^ 63 := by rw [sizeLine_eq]; decide
/-! ### strs and bytes -/
/-! ### scalar builtins, by CallR -/
theorem vals1 {x : V} {us : List Value} (r : Vals [x] us) : ∃ u, us = [u] ∧ RelV x u := by
  cases r with
  | cons r1 r2 => cases r2; exact ⟨_, rfl, r1⟩
theorem vals2 {x y : V} {us : List Value} (r : Vals [x, y] us) : ∃ u w', us = [u, w'] ∧ RelV x u ∧ RelV y w' := by
  cases r with
  | cons r1 r2 =>
    cases r2 with
    | cons r3 r4 => cases r4; exact ⟨_, _, rfl, r1, r3⟩
theorem call_min2 (hc : X.calm = true) : CallR X (.builtin "min") (fun xs H Q => ∃ i j, xs = [.int i, .int j] ∧ Q (.int (if j < i then j else i)) H) := by
  intro pins s σ H xs us Q I r h
  obtain ⟨i, j, rfl, q⟩ := h
  obtain ⟨u, w', rfl, ⟨t, rfl⟩, ⟨t', rfl⟩⟩ := vals2 r
  refine min_two_ints (I.ok.hd hc) fun h' tk k => ⟨_, H, I.kept k, ?_, q⟩
  by_cases hj : j < i
  · rw [if_pos hj, if_pos hj]; exact ⟨_, rfl⟩
  · rw [if_neg hj, if_neg hj]; exact ⟨_, rfl⟩
end
end L2

namespace L2
open PySem PySem.Spec PyProof.Rows

/-! ### an instance, its attributes a map -/
structure ObjM (h : Heap) (x dx C : Addr) (mA : Str → Option Value) : Prop where
  obj : h.get? x = some (PySem.W.instObj C dx)
  ns : h.Ns1 dx mA
  ne : dx ≠ x

theorem lookIn_ns {h : Heap} {dx : Addr} {mA : Str → Option Value} (n : h.Ns1 dx mA) : ∃ od, h.get? dx = some od ∧ ∀ name, PySem.W.lookIn name od = some (mA name) := by
  obtain ⟨o, es, ep, ho, hd, hk, _, hm⟩ := n
  refine ⟨o, ho, fun name => ?_⟩
  have e := hm name
  unfold nsFind findBy at e
  rw [← Array.find?_toList] at e
  unfold PySem.W.lookIn
  rw [hd]
  dsimp only
  split
  · rename_i y q
    rw [q] at e
    exact congrArg some e
  · rename_i q
    rw [q] at e
    have a : es.toList.any (·.refKey) = false := by
      rw [List.any_eq_false]
      intro y hy
      obtain ⟨z, t, hkey⟩ := hk y (Array.mem_toList_iff.mp hy)
      simp [DictEntry.refKey, hkey]
    have a' : ¬ es.toList.any (·.refKey) = true := by rw [a]; exact Bool.false_ne_true
    rw [if_neg a']
    exact congrArg some e

theorem ObjM.look {h : Heap} {x dx C : Addr} {mA : Str → Option Value} (I : ObjM h x dx C mA) : ∃ od, PySem.W.InstAt h x (PySem.W.instObj C dx) C (some od) ∧ ∀ name, PySem.W.lookIn name od = some (mA name) :=
  let ⟨od, ho, hl⟩ := lookIn_ns I.ns
  ⟨od, ⟨I.obj, rfl, rfl, ho⟩, hl⟩

section
variable {prog : Program} {w : World} {A : Around} {E : Value → Shared → Prop} {s : Shared} {K : PySem.W.Frag} {x dx C f : Addr} {mA : Str → Option Value} {name : Str} {v : Value}

theorem get_map {expr : Bool} {Q : Value → Shared → Prop} (X : K.In s.heap) (I : ObjM s.heap x dx C mA) (hg : PySem.W.plainGet K C name = true) (hh : PySem.W.hasDictIn K C = true)
    (ha : PySem.W.findIn K (.ref C) name = some none) (hv : mA name = some v) (hv' : PySem.W.handedIn v = true) (h : Q v { s with toks := s.toks + 1 }) :
    wpAny (model prog w) A (getAttr (.ref x) name expr) Q E s := by
  obtain ⟨od, J, hl⟩ := I.look
  exact PySem.W.get_value X J (PySem.W.plainGet_of hg).1 (PySem.W.findObj_own hh ha rfl (by rw [hl, hv])) hv' h

theorem set_map {ns : List Str} {Q : Unit → Shared → Prop} (X : K.In s.heap) (I : ObjM s.heap x dx C mA)
    (hs : PySem.W.findIn K (.ref C) "__setattr__" = some (some (.builtin "object.__setattr__"))) (hp : PySem.W.plainOver K C = true) (ht : PySem.W.takerIn K C name = some none) (hh : PySem.W.hasDictIn K C = true)
    (hw : PySem.Within mA ns) (hsz : ns.length ≤ sizeLine)
    (h : ∀ h', ObjM h' x dx C (fun y => if y = name then some v else mA y) → Heap.SameBut dx s.heap h' → Q () { s with heap := h', toks := s.toks + 2 }) :
    wpAny (model prog w) A (setAttr (.ref x) name v) Q E s := by
  obtain ⟨od, J, hl⟩ := I.look
  refine PySem.W.set_plain X J hs (PySem.W.osa_open (s := { s with toks := s.toks + 1 }) (r := none) X J hp ht fun b => ?_)
  obtain ⟨cd, hc, hd'⟩ := PySem.W.any_some hh
  have hx : s.heap.get? x = some ⟨.ref C, some dx, .plain, #[]⟩ := I.obj
  refine wpAny_bind (wpAny_pure (wpAny_bind (wpAny_bind (wpAny_loadPart hx (wpAny_bind (PySem.W.Looks.here (s := { s with toks := s.toks + 1 }) (PySem.W.looks_clsIn X hc) ?_))))))
  rw [hd']
  refine wpAny_pure (a := some dx) (wpAny_bind (wpAny_pure (wpAny_bind ?_)))
  refine wpAny_nsSet1 (s := { s with toks := s.toks + 1 }) I.ns fun h' hn2 hs2 => ?_
  obtain ⟨oD, esD, epD, hoD, hdD, hcD⟩ := hn2.count (PySem.Within.cons name v hw)
  refine wpAny_bind (wpAny_lookBehind hoD (by rw [hdD]; exact pastItsLine_dict (Nat.le_trans hcD (by rw [List.length_cons]; omega))) ?_)
  exact wpAny_pure (h _ ⟨(hs2.2 _ (Ne.symm I.ne)).trans I.obj, hn2, I.ne⟩ hs2)

/-- C(..): the dict at the heap's end, the instance behind it; then its __init__ -/
theorem make_map {R : Result → Shared → Prop} {vs : List Value} {kw : List (Str × Value)} (X : K.In s.heap) (hm : PySem.W.makesIn K C = true)
    (hi : PySem.W.findIn K (.ref C) "__init__" = some (some (.ref f))) (hf : PySem.W.typeIn K (.ref f) = some (.type "function"))
    (h : codeAny (model prog w) (A.under (.builtin "type.__call__" ⟨.ref C :: vs, kw⟩)) (.call (.ref f) ⟨.ref (s.heap.objs.size + 1) :: vs, kw⟩) (PySem.W.InitBack (s.heap.objs.size + 1) R)
      { s with heap := (s.heap.push PySem.W.emptyDict).push (PySem.W.instObj C s.heap.objs.size) }) :
    codeAny (model prog w) A (.call (.ref C) ⟨vs, kw⟩) R s := by
  obtain ⟨hh, g, d, t, os⟩ := s
  exact PySem.W.make_core (PySem.W.makes_of X hm) (PySem.W.looks_findIn X hi) (fun self => PySem.W.bind_fn X self hf) (.inl rfl) h
end

/-! ### the attributes as a list of pairs -/
def putF (f : Str) (v : V) : List (Str × V) → List (Str × V)
  | [] => [(f, v)]
  | (g, x) :: r => if g = f then (g, v) :: r else (g, x) :: putF f v r
theorem lookup_putF (f g : Str) (v : V) : ∀ fs : List (Str × V), (putF f v fs).lookup g = if g = f then some v else fs.lookup g
  | [] => by
    show List.lookup g [(f, v)] = _
    by_cases h : g = f
    · have hb : (g == f) = true := beq_iff_eq.mpr h
      simp only [List.lookup, hb, if_pos h]
    · have hb : (g == f) = false := beq_eq_false_iff_ne.mpr h
      simp only [List.lookup, hb, if_neg h]
  | (k, x) :: r => by
    have ih := lookup_putF f g v r
    rw [show putF f v ((k, x) :: r) = (if k = f then (k, v) :: r else (k, x) :: putF f v r) from rfl]
    by_cases hk : k = f
    · rw [if_pos hk]
      by_cases h : g = k
      · have hb : (g == k) = true := beq_iff_eq.mpr h
        simp only [List.lookup, hb, if_pos (h.trans hk)]
      · have hb : (g == k) = false := beq_eq_false_iff_ne.mpr h
        simp only [List.lookup, hb, if_neg (fun e : g = f => h (e.trans hk.symm))]
    · rw [if_neg hk]
      by_cases h : g = k
      · have hb : (g == k) = true := beq_iff_eq.mpr h
        simp only [List.lookup, hb, if_neg (fun e : g = f => hk (h.symm.trans e))]
      · have hb : (g == k) = false := beq_eq_false_iff_ne.mpr h
        simp only [List.lookup, hb]
        exact ih
theorem keys_putF (f : Str) (v : V) : ∀ fs : List (Str × V), f ∈ (putF f v fs).map (·.1) ∧ ∀ g, g ∈ fs.map (·.1) → g ∈ (putF f v fs).map (·.1)
  | [] => ⟨by simp [putF], fun g h => by simp at h⟩
  | (k, x) :: r => by
    obtain ⟨i1, i2⟩ := keys_putF f v r
    rw [show putF f v ((k, x) :: r) = (if k = f then (k, v) :: r else (k, x) :: putF f v r) from rfl]
    by_cases hk : k = f
    · rw [if_pos hk]
      subst hk
      exact ⟨by simp, fun g h => by simpa using h⟩
    · rw [if_neg hk]
      refine ⟨?_, fun g h => ?_⟩
      · rw [List.map_cons]
        exact List.mem_cons_of_mem _ i1
      · rw [List.map_cons] at h ⊢
        rcases List.mem_cons.mp h with e | e
        · exact List.mem_cons.mpr (.inl e)
        · exact List.mem_cons_of_mem _ (i2 g e)
theorem length_putF (f : Str) (v : V) : ∀ fs : List (Str × V), (putF f v fs).length ≤ fs.length + 1
  | [] => by simp [putF]
  | (k, x) :: r => by
    have ih := length_putF f v r
    rw [show putF f v ((k, x) :: r) = (if k = f then (k, v) :: r else (k, x) :: putF f v r) from rfl]
    by_cases hk : k = f
    · rw [if_pos hk, List.length_cons, List.length_cons]; omega
    · rw [if_neg hk, List.length_cons, List.length_cons]; omega

theorem RelO.some_of {v : V} {o : Option Value} (r : RelO (some v) o) : ∃ u, o = some u ∧ RelV v u := by
  cases o with
  | none => exact (show False from r).elim
  | some u => exact ⟨u, rfl, r⟩
theorem handed_of {v : V} {u : Value} (r : RelV v u) : PySem.W.handedIn u = true := by
  cases v with
  | non => cases (show u = Value.none from r); rfl
  | bl b => cases (show u = Value.bool b from r); rfl
  | int i => obtain ⟨t, e⟩ := (show ∃ t, u = Value.int i t from r); cases e; rfl
  | str x => obtain ⟨t, e⟩ := (show ∃ t, u = Value.str x t from r); cases e; rfl
  | byt b => obtain ⟨t, e⟩ := (show ∃ t, u = Value.bytes b t from r); cases e; rfl
  | flt b => obtain ⟨t, e⟩ := (show ∃ t, u = Value.float b t from r); cases e; rfl
  | ref a => cases (show u = Value.ref a from r); rfl
  | ty n => cases (show u = Value.type n from r); rfl

section
variable {P : Program} {w : World} {H H' : Hp} {h h' : Heap} {a C dx : Addr} {fs fs' : List (Str × V)}
theorem ins_get (hok : HOk P w H h) (e : H a = some (.ins C dx fs)) : ∃ mA, ObjM h a dx C mA ∧ (∀ f, RelO (fs.lookup f) (mA f)) ∧ PySem.Within mA (fs.map (·.1)) ∧ fs.length ≤ 1000 ∧ H dx = some (.own a) := by
  obtain ⟨d, z, ne, ob, mA, n, r, q⟩ := (show ObjOk P w H h a (.ins C dx fs) from hok a _ e)
  exact ⟨mA, ⟨ob, n, ne⟩, r, q, z, d⟩
end

/-! ### what of the text a class must have -/
structure Cls (K : PySem.W.Frag) (C : Addr) : Prop where
  pg : PySem.W.plainGet K C Str.empty = true
  hd : PySem.W.hasDictIn K C = true
  po : PySem.W.plainOver K C = true
  sa : PySem.W.findIn K (.ref C) "__setattr__" = some (some (.builtin "object.__setattr__"))
theorem Cls.get {K : PySem.W.Frag} {C : Addr} (c : Cls K C) (f : Str) : PySem.W.plainGet K C f = true := c.pg
/-- no class of it has the name -/
def NoAttr (K : PySem.W.Frag) (C : Addr) (f : Str) : Prop := PySem.W.findIn K (.ref C) f = some none
theorem NoAttr.taker {K : PySem.W.Frag} {C : Addr} {f : Str} (n : NoAttr K C f) : PySem.W.takerIn K C f = some none := by
  unfold PySem.W.takerIn
  rw [show PySem.W.findIn K (.ref C) f = some none from n]
  rfl
section
variable {X : Cx} {pins : List (Addr × Obj)} {σ : St} {H : Hp} {s : Shared} {a C dx : Addr} {fs : List (Str × V)} {f : Str} {v : V} {A : Around} {E : Value → Shared → Prop}

theorem getattr_ok {b : Bool} {Q : Value → Shared → Prop} (I : Inv X pins σ H s) (e : H a = some (.ins C dx fs)) (c : Cls X.K C) (n : NoAttr X.K C f) (l : fs.lookup f = some v)
    (h : ∀ u s', Inv X pins σ H s' → RelV v u → Q u s') : wpAny (model X.prog X.w) A (getAttr (.ref a) f b) Q E s := by
  obtain ⟨mA, O, r, _, _, _⟩ := ins_get I.hok e
  obtain ⟨u, hu, ru⟩ := RelO.some_of (v := v) (o := mA f) (by rw [← l]; exact r f)
  exact get_map I.kIn O (c.get f) c.hd n hu (handed_of ru) (h u _ (I.tok _) ru)

theorem setattr_ok {y : V} {u : Value} {Q : Unit → Shared → Prop} (I : Inv X pins σ H s) (e : H a = some (.ins C dx fs)) (c : Cls X.K C) (n : NoAttr X.K C f) (hl : fs.length < 1000) (ry : RelV y u)
    (h : ∀ s', Inv X pins σ (upd H a (.ins C dx (putF f y fs))) s' → Q () s') : wpAny (model X.prog X.w) A (setAttr (.ref a) f u) Q E s := by
  obtain ⟨mA, O, r, wi, _, ho⟩ := ins_get I.hok e
  have hz : (fs.map (·.1)).length ≤ sizeLine := by rw [List.length_map, sizeLine_eq]; omega
  refine set_map I.kIn O c.sa c.po n.taker c.hd wi hz fun h' O' sb => h _ ?_
  have hd : ∃ o, h'.get? dx = some o := let ⟨o, _, _, e', _⟩ := O'.ns; ⟨o, e'⟩
  refine I.write (x := a) (e := dx) (by rw [e]; exact True.intro) (.inr ho) (fun b q hb z => (sb.2 b hb).trans z) hd ?_
  refine ⟨by rw [upd_ne O.ne]; exact ho, ?_, O.ne, O'.obj, _, O'.ns, fun g => ?_, fun g hg => ?_⟩
  · have := length_putF f y fs; omega
  · show RelO ((putF f y fs).lookup g) (if g = f then some u else mA g)
    rw [lookup_putF]
    by_cases q : g = f
    · rw [if_pos q, if_pos q]; exact ry
    · rw [if_neg q, if_neg q]; exact r g
  · by_cases q : g = f
    · rw [q]; exact (keys_putF f y fs).1
    · refine (keys_putF f y fs).2 g (wi g fun z => hg ?_)
      show (if g = f then some u else mA g) = none
      rw [if_neg q]; exact z

/-- a new instance, tracked, without attributes -/
theorem Inv.made (I : Inv X pins σ H s) : Inv X pins σ (upd (upd H s.heap.objs.size (.own (s.heap.objs.size + 1))) (s.heap.objs.size + 1) (.ins C s.heap.objs.size []))
    { s with heap := (s.heap.push PySem.W.emptyDict).push (PySem.W.instObj C s.heap.objs.size) } := by
  have e1 : (s.heap.push PySem.W.emptyDict).get? s.heap.objs.size = some PySem.W.emptyDict := Heap.get?_push_size s.heap rfl
  have e2 : ((s.heap.push PySem.W.emptyDict).push (PySem.W.instObj C s.heap.objs.size)).get? (s.heap.objs.size + 1) = some (PySem.W.instObj C s.heap.objs.size) := by
    have := Heap.get?_push_size (s.heap.push PySem.W.emptyDict) (o := PySem.W.instObj C s.heap.objs.size) rfl
    rwa [Heap.size_push] at this
  have e3 : (s.heap.push PySem.W.emptyDict).Ns s.heap.objs.size (fun _ => none) := ⟨PySem.W.emptyDict, #[], _, e1, rfl, (fun e he => absurd he (by simp)), fun _ => rfl⟩
  have I1 := I.laid (a := s.heap.objs.size) (o := .own (s.heap.objs.size + 1)) (h' := s.heap.push PySem.W.emptyDict) (t' := s.toks) (fun b u q => Heap.get?_push_of_some _ q) (Nat.le_refl _) ⟨_, e1⟩
  refine I1.laid (a := s.heap.objs.size + 1) (o := .ins C s.heap.objs.size []) (t' := s.toks) (fun b u q => Heap.get?_push_of_some _ q) (Nat.le_of_eq (Heap.size_push _ _)) ?_
  have ne : s.heap.objs.size ≠ s.heap.objs.size + 1 := Nat.ne_of_lt (Nat.lt_succ_self _)
  refine ⟨by rw [upd_ne ne, upd_same], Nat.zero_le _, ne, e2, fun _ => none, (Heap.Ns1.of_empty e3).at fun o q => Heap.get?_push_of_some _ q, fun _ => True.intro, fun y hy => absurd rfl hy⟩

/-- e.f where nothing but the object is asked: through attributeBase (super) and the last hold -/
theorem attr_of {prog : Program} {w : World} {env : Env} {e : Expr} {f : Str} {pos : Pos} {s : Shared} {Q : Value → Shared → Prop} (hb : attributeBase e f env (eval e env) = eval e env)
    (h : wpAny (model prog w) A (eval e env) (fun o s₁ => wpAny (model prog w) A (getAttr o f true) Q E s₁) E s) : wpAny (model prog w) A (eval (.Attribute e f pos) env) Q E s :=
  Attribute_any_ h (by rw [arm_eval_Attribute, hb])
end

/-! ### readings and rules -/
/-- e.f, an attribute of the instance -/
def tFld (K : PySem.W.Frag) (ta : TE) (f : Str) : TE := fun σ H Q => ta σ H fun x H1 => ∃ a C dx fs v, x = .ref a ∧ H1 a = some (.ins C dx fs) ∧ Cls K C ∧ NoAttr K C f ∧ fs.lookup f = some v ∧ Q v H1
/-- e.f = value -/
def sFld (K : PySem.W.Frag) (ta tv : TE) (f : Str) : TS := fun D σ H => tv σ H fun y H1 => ta σ H1 fun x H2 => ∃ a C dx fs, x = .ref a ∧ H2 a = some (.ins C dx fs) ∧ Cls K C ∧ NoAttr K C f ∧ fs.length < 1000 ∧
  D.nx σ (upd H2 a (.ins C dx (putF f y fs)))
section
variable {X : Cx} {o e value : Expr} {f : Str} {pos pos' tpos : Pos} {ta tv : TE}
theorem pe_fld (he : PE X e ta) (hb : attributeBase e f X.env (eval e X.env) = eval e X.env) : PE X (.Attribute e f pos) (tFld X.K ta f) := by
  intro pins s σ H Q I h
  refine attr_of hb (thn (he pins s σ H _ I h) fun u s1 ⟨x, H1, I1, rx, a, C, dx, fs, v, ex, ea, c, n, l, q⟩ => ?_)
  subst ex
  obtain rfl : u = Value.ref a := rx
  exact getattr_ok I1 ea c n l fun u' s2 I2 ru => ⟨v, H1, I2, ru, q⟩
theorem ps_fld (ha : PE X o ta) (hv : PE X value tv) (hs : swapsWith value (some (.Attribute o f pos')) pos.line X.env = pure false) : PS X (.Assign [.Attribute o f pos'] value pos) (sFld X.K ta tv f) := by
  intro pins s σ H D I h
  refine plainObj_wpAny_Assign_Attribute (thn (hv pins s σ H _ I h) fun u s1 ⟨y, H1, I1, ry, q⟩ => thn (ha pins s1 σ H1 _ I1 q) fun ov s2 ⟨x, H2, I2, rx, a, C, dx, fs, ex, ea, c, n, l, q2⟩ => ?_) hs
  subst ex
  obtain rfl : ov = Value.ref a := rx
  exact setattr_ok I2 ea c n l ry fun s3 I3 => ⟨σ, _, I3, q2⟩
end

/-! ### isinstance -/
section
variable {X : Cx} {pins : List (Addr × Obj)} {σ : St} {H : Hp} {s : Shared} {A : Around} {E : Value → Shared → Prop} {Q : Value → Shared → Prop} {c : Value} {b : Bool}
end
end L2

namespace L2
open PySem PySem.Spec PyProof.Rows

/-! ### room -/
structure Room (k : Nat) (A : Around) : Prop where
  hd : A.handled = none
  dp : A.depth + 3 * k + 5 < recursionLimit
  un : A.units + 16 * k + 200 < cLine
theorem Room.mono {j k : Nat} {A : Around} (r : Room k A) (h : j ≤ k) : Room j A := ⟨r.hd, by have := r.dp; omega, by have := r.un; omega⟩
theorem Room.deeper {k : Nat} {A : Around} (r : Room (k + 1) A) (env : Env) : Room k (A.deeper env) :=
  ⟨r.hd, by have := r.dp; show A.depth + 1 + 3 * k + 5 < _; omega, by have := r.un; show A.units + 3 + 16 * k + 200 < _; omega⟩
theorem make_depth {A : Around} {C : Addr} {us : List Value} {kw : List (Str × Value)} : (A.under (.builtin "type.__call__" ⟨.ref C :: us, kw⟩)).depth = A.depth + 1 := by
  first | rfl | simp [Around.under, Code.weight, Code.isCreation, Code.isGuard, Code.isCaller, Code.frames, Code.isFrame, guardIds]
theorem make_units {A : Around} {C : Addr} {us : List Value} {kw : List (Str × Value)} : (A.under (.builtin "type.__call__" ⟨.ref C :: us, kw⟩)).units = A.units + 1 := by
  first | rfl | simp [Around.under, Code.cUnits, Code.frames, Code.isFrame]
theorem Room.make {k : Nat} {A : Around} (r : Room (k + 1) A) (C : Addr) (us : List Value) (kw : List (Str × Value)) : Room k (A.under (.builtin "type.__call__" ⟨.ref C :: us, kw⟩)) :=
  ⟨r.hd, by have := r.dp; rw [make_depth]; omega, by have := r.un; rw [make_units]; omega⟩
theorem Room.depth {k : Nat} {A : Around} (r : Room k A) : A.depth < recursionLimit := by have := r.dp; omega
theorem Room.units {k : Nat} {A : Around} (r : Room k A) : A.units + 64 < cLine := by have := r.un; omega
/-! ### argument lists and displays -/
def tNil : TA := fun _ H Q => Q [] H
def tCons (ta : TE) (tr : TA) : TA := fun σ H Q => ta σ H fun x H1 => tr σ H1 fun xs H2 => Q (x :: xs) H2
section
variable {X : Cx} {e : Expr} {es : List Expr} {te : TE} {t : TA} {pos : Pos}
theorem pa_nil : PA X [] tNil := fun _ _ _ _ H Q I h => Calls.spliced_nil ⟨[], H, I, .nil, h⟩
theorem pa_cons (ha : PE X e te) (hr : PA X es t) (hs : starEach (e :: es) X.env = (false, eval e X.env) :: starEach es X.env := by rfl) : PA X (e :: es) (tCons te t) := by
  intro pos pins s σ H Q I h
  rw [hs]
  show wpAny _ _ (spliced ((false, eval e X.env) :: backTo pos (starEach es X.env))) _ _ s
  refine Calls.spliced_cons (thn (ha pins s σ H _ I h) fun u s1 ⟨x, H1, I1, r1, q1⟩ => ?_)
  exact thn (hr pos pins s1 σ H1 _ I1 q1) fun us s2 ⟨xs, H2, I2, r2, q2⟩ => ⟨x :: xs, H2, I2, .cons r1 r2, q2⟩

/-- a tuple, a list of written items -/
def tTup (t : TA) : TE := fun σ H Q => t σ H fun xs H1 => xs.length ≤ sizeLine ∧ ∀ p, H1 p = none → Q (.ref p) (upd H1 p (.tup xs))
def tLst (t : TA) : TE := fun σ H Q => t σ H fun xs H1 => xs.length ≤ sizeLine ∧ ∀ p, H1 p = none → Q (.ref p) (upd H1 p (.lst xs))
theorem pe_tup {x1} (h : PA X es t) : PE X (.Tuple es x1 pos) (tTup t) := by
  intro pins s σ H Q I hq
  refine wpAny_Tuple_spliced (thn (h pos pins s σ H _ I hq) fun us s1 ⟨xs, H1, I1, r, z, q⟩ => ⟨by rw [← r.length]; exact z, ?_⟩)
  have hf : H1 s1.heap.objs.size = none := I1.hok.fresh (Nat.le_refl _)
  refine ⟨.ref s1.heap.objs.size, upd H1 s1.heap.objs.size (.tup xs), I1.laid (t' := s1.toks) (fun b u e => Heap.get?_push_of_some _ e) (Nat.le_refl _) ?_, rfl, q _ hf⟩
  exact ⟨z, us, r, ⟨_, Heap.get?_push_size _ rfl, rfl, _, rfl⟩⟩
theorem pe_lst (h : PA X es t) : PE X (.List es pos) (tLst t) := by
  intro pins s σ H Q I hq
  refine wpAny_List_spliced (thn (h pos pins s σ H _ I hq) fun us s1 ⟨xs, H1, I1, r, z, q⟩ => ⟨by rw [← r.length]; exact z, ?_⟩)
  have hf : H1 s1.heap.objs.size = none := I1.hok.fresh (Nat.le_refl _)
  refine ⟨.ref s1.heap.objs.size, upd H1 s1.heap.objs.size (.lst xs), I1.laid (t' := s1.toks) (fun b u e => Heap.get?_push_of_some _ e) (Nat.le_refl _) ?_, rfl, q _ hf⟩
  exact ⟨z, us, 0, r, Heap.get?_push_size _ rfl⟩
end

/-! ### what a def promises -/
/-- a def's promise: the bound arguments in the parameters' order, the heap, the wanted end, the wanted exception -/
abbrev Sp := List V → Hp → VK → XK → Prop
/-- how an exception lies behind a call (file 08 gives it): the callers' frames, abstract heap and state ahead of the call, the wish, the exception, the state -/
abbrev CXT := List Env → Hp → Shared → XK → Value → Shared → Prop

/-- the state at a call -/
structure Env0 (P : Program) (w : World) (K : PySem.W.Frag) (mg : Str → Option Value) (base : Heap) (A : Around) (outer : List Env) (s : Shared) (H : Hp) : Prop where
  frames : A.frames = some outer
  mod : Mod K mg base
  bs : ∀ b o, base.get? b = some o → s.heap.get? b = some o ∧ H b = none
  bsz : base.objs.size ≤ s.heap.objs.size
  funs : s.heap.FunFrames base outer
  frf : ∀ b ∈ frs outer, H b = none
  hok : HOk P w H s.heap
  bare : AllBare s.gens
/-- a call's end -/
def CE (outer : List Env) (P : Program) (w : World) (H : Hp) (s : Shared) (Q : VK) (u : Value) (s' : Shared) : Prop :=
  ∃ v H', s'.os = s.os ∧ AllBare s'.gens ∧ Un (frs outer) [] H H' s.heap s'.heap ∧ HOk P w H' s'.heap ∧ RelV v u ∧ Q v H'
def CR (CX : CXT) (outer : List Env) (P : Program) (w : World) (H : Hp) (s : Shared) (Q : VK) (E : XK) (r : Result) (s' : Shared) : Prop :=
  match r with
  | .ok (.ret u) => CE outer P w H s Q u s'
  | .ok _ => False
  | .error e => CX outer H s E e s'
structure FnOk (P : Program) (w : World) (K : PySem.W.Frag) (mg : Str → Option Value) (base : Heap) (CX : CXT) (k : Nat) (f : Addr) (fd : FuncData) (ps : List Str) (sp : Sp) : Prop where
  len : ∀ vs H Q E, sp vs H Q E → vs.length = ps.length
  run : ∀ (A : Around) (outer : List Env) (s : Shared) (H : Hp) (args : Args) (us : List Value) (vs : List V) (Q : VK) (E : XK), Room k A → Env0 P w K mg base A outer s H → BindsTo s fd args (ps.zip us) → Vals vs us → sp vs H Q E →
    codeAny (model P w) A (.call (.ref f) args) (CR CX outer P w H s Q E) s
theorem FnOk.mono {P : Program} {w : World} {K : PySem.W.Frag} {mg : Str → Option Value} {base : Heap} {CX : CXT} {j k : Nat} {f : Addr} {fd : FuncData} {ps : List Str} {sp : Sp} (F : FnOk P w K mg base CX j f fd ps sp) (h : j ≤ k) :
    FnOk P w K mg base CX k f fd ps sp := ⟨F.len, fun A outer s H args us vs Q E hr => F.run A outer s H args us vs Q E (hr.mono h)⟩
theorem Env0.make {P : Program} {w : World} {K : PySem.W.Frag} {mg : Str → Option Value} {base : Heap} {A : Around} {outer : List Env} {s : Shared} {H : Hp} (e : Env0 P w K mg base A outer s H) (C : Addr) (us : List Value) (kw : List (Str × Value)) :
    Env0 P w K mg base (A.under (.builtin "type.__call__" ⟨.ref C :: us, kw⟩)) outer s H := ⟨by first | exact e.frames | (simpa [Around.under, Code.envs, Code.isFrame, pushEnvs] using e.frames), e.mod, e.bs, e.bsz, e.funs, e.frf, e.hok, e.bare⟩
section
variable {X : Cx} {pins : List (Addr × Obj)} {σ : St} {H : Hp} {s s' : Shared}
/-- from a body: what a callee wants -/
theorem Inv.env0 (I : Inv X pins σ H s) : Env0 X.prog X.w X.K X.mg X.base X.A X.stack s H :=
  ⟨I.ok.frames, I.ok.mod, I.bs, Nat.le_trans I.ok.bsz I.sz, I.stack, I.stkFree, I.hok, I.bare⟩
/-- behind a call -/
theorem Inv.after {Q : VK} {u : Value} (I : Inv X pins σ H s) (h : CE X.stack X.prog X.w H s Q u s') : EP X pins σ Q u s' := by
  obtain ⟨v, H', os, bare, un, hok, r, q⟩ := h
  obtain ⟨hh, g, d, t, os'⟩ := s'
  obtain rfl : os' = s.os := os
  exact ⟨v, H', I.call (h' := hh) (g' := g) (d' := d) (t' := t) (ch := []) un hok bare (fun b z => absurd z (by simp)), r, q⟩
end

/-! ### calls -/
/-- f(..): the written arguments, then the defaults dvs; E: what is wanted of an exception -/
def tCall (sp : Sp) (dvs : List V) (E : XK) (t : TA) : TE := fun σ H Q => t σ H fun vs H1 => sp (vs ++ dvs) H1 Q E
/-- C(..): a new instance and its dict, then __init__ -/
def tMake (C : Addr) (sp : Sp) (dvs : List V) (E : XK) (t : TA) : TE := fun σ H Q => t σ H fun vs H1 => ∀ x dx, H1 x = none → H1 dx = none → dx ≠ x →
  sp (.ref x :: (vs ++ dvs)) (upd (upd H1 dx (.own x)) x (.ins C dx [])) (fun v H2 => v = .non ∧ Q (.ref x) H2) E

/-- how the parameters are bound: us the positional arguments, kw the keywords' values by name, ds the defaults that fill up -/
def Binds (K : PySem.W.Frag) (fd : FuncData) (ps : List Str) (ds : List Value) : Prop :=
  ∀ (s : Shared) (us : List Value), K.In s.heap → (us ++ ds).length = ps.length → BindsTo s fd ⟨us, []⟩ (ps.zip (us ++ ds))
/-- every parameter is given -/
theorem Binds.all {K : PySem.W.Frag} {fd : FuncData} {ps : List Str} (h : ∀ us : List Value, us.length = ps.length → bindArgs fd ⟨us, []⟩ = pure (ps.zip us)) : Binds K fd ps [] := fun s us _ hl => by
  rw [List.append_nil] at hl ⊢
  exact .of_eq (h us hl)

/-- an exception of a callee reaches what this body wants of exceptions -/
def Passes (CX : CXT) (X : Cx) (E : XK) : Prop := ∀ (pins : List (Addr × Obj)) (σ : St) (H : Hp) (s : Shared) (e : Value) (s' : Shared), Inv X pins σ H s → CX X.stack H s E e s' → X.xe e s'

section
variable {X : Cx} {CX : CXT} {k : Nat} {f C : Addr} {fd : FuncData} {ps : List Str} {sp : Sp} {dvs : List V} {ds : List Value} {E : XK} {x m : Str} {p pos apos : Pos} {e o : Expr} {es : List Expr} {ta : TE} {t : TA}

/-- the callee runs -/
theorem run_fn {pins : List (Addr × Obj)} {σ : St} {H : Hp} {s : Shared} {Q : VK} {us : List Value} {vs : List V} (F : FnOk X.prog X.w X.K X.mg X.base CX k f fd ps sp) (hr : Room k X.A) (hb : Binds X.K fd ps ds) (hd : Vals dvs ds) (hx : Passes CX X E)
    (I : Inv X pins σ H s) (r : Vals vs us) (h : sp (vs ++ dvs) H Q E) : wpAny (model X.prog X.w) X.A (call (.ref f) us) (EP X pins σ Q) X.xe s := by
  have r2 : Vals (vs ++ dvs) (us ++ ds) := r.append hd
  have hl : (us ++ ds).length = ps.length := by rw [← r2.length]; exact F.len _ _ _ _ h
  refine wpAny_call (codeAny_mono (F.run X.A X.stack s H ⟨us, []⟩ (us ++ ds) (vs ++ dvs) Q E hr I.env0 (hb s us I.kIn hl) r2 h) fun r s' hq => ?_)
  cases r with
  | error e => exact hx pins σ H s e s' I hq
  | ok fl =>
    cases fl with
    | ret u => exact I.after hq
    | next => exact False.elim hq
    | brk => exact False.elim hq
    | cont => exact False.elim hq

theorem pe_call (F : FnOk X.prog X.w X.K X.mg X.base CX k f fd ps sp) (hr : Room k X.A) (hg : Gl X x) (hm : X.mg x = some (.ref f)) (hk : PySem.W.keepIn X.K (.ref f) = true) (hb : Binds X.K fd ps ds) (hd : Vals dvs ds) (hx : Passes CX X E)
    (ha : PA X (e :: es) t) (hdb : (x == ("__debug__" : Str)) = false := by decide) (he : starEach (e :: es) X.env = (false, eval e X.env) :: starEach es X.env := by rfl) (hpl : (backTo pos (starEach es X.env)).any (·.1) = false := by rfl) :
    PE X (.Call (.Name x p) (e :: es) [] pos) (tCall sp dvs E t) := by
  intro pins s σ H Q I h
  refine wpAny_Call_Name_kw (ld_glob I hg hm ?_ hdb)
  refine PySem.W.callWith_K (h₀ := X.base) I.ok.mod.kin hk (thn (ha pos pins s σ H _ I h) fun us s1 ⟨vs, H1, I1, r, q⟩ => ⟨I1.kIn, ?_⟩) he hpl
  exact run_fn F hr hb hd hx I1 r q
/-- what a class must have to be made -/
structure Mk (K : PySem.W.Frag) (C f : Addr) : Prop where
  makes : PySem.W.makesIn K C = true
  init : PySem.W.findIn K (.ref C) "__init__" = some (some (.ref f))
  fn : PySem.W.isFn K (.ref f) = true
  kp : PySem.W.keepIn K (.ref C) = true

theorem run_make {pins : List (Addr × Obj)} {σ : St} {H : Hp} {s : Shared} {Q : VK} {us : List Value} {vs : List V} (M : Mk X.K C f) (F : FnOk X.prog X.w X.K X.mg X.base CX k f fd ps sp) (hr : Room (k + 1) X.A) (hb : Binds X.K fd ps ds) (hd : Vals dvs ds)
    (hx : Passes CX X E) (I : Inv X pins σ H s) (r : Vals vs us)
    (h : ∀ x dx, H x = none → H dx = none → dx ≠ x → sp (.ref x :: (vs ++ dvs)) (upd (upd H dx (.own x)) x (.ins C dx [])) (fun v H2 => v = .non ∧ Q (.ref x) H2) E) :
    wpAny (model X.prog X.w) X.A (call (.ref C) us) (EP X pins σ Q) X.xe s := by
  have hq := h (s.heap.objs.size + 1) s.heap.objs.size (I.hok.fresh (Nat.le_succ _)) (I.hok.fresh (Nat.le_refl _)) (Nat.ne_of_lt (Nat.lt_succ_self _))
  have I2 := Inv.made (C := C) I
  have r2 : Vals (V.ref (s.heap.objs.size + 1) :: (vs ++ dvs)) (Value.ref (s.heap.objs.size + 1) :: (us ++ ds)) := .cons rfl (r.append hd)
  have hl : (Value.ref (s.heap.objs.size + 1) :: us ++ ds).length = ps.length := by
    have e := r2.length
    rw [F.len _ _ _ _ hq] at e
    exact e.symm
  refine wpAny_call (make_map (f := f) I.kIn M.makes M.init (beq_iff_eq.mp M.fn) (codeAny_mono (F.run _ X.stack _ _ ⟨Value.ref (s.heap.objs.size + 1) :: us, []⟩ (Value.ref (s.heap.objs.size + 1) :: (us ++ ds)) _ _ E (hr.make C us [])
    (I2.env0.make C us []) (hb _ (Value.ref (s.heap.objs.size + 1) :: us) I2.kIn hl) r2 hq) fun r s' hq' => ?_))
  cases r with
  | error e => exact hx pins σ _ _ e s' I2 hq'
  | ok fl =>
    cases fl with
    | ret u =>
      obtain ⟨v, H', I3, rv, ev, q3⟩ := I2.after hq'
      subst ev
      exact ⟨rv, ⟨V.ref (s.heap.objs.size + 1), H', I3, rfl, q3⟩⟩
    | next => exact False.elim hq'
    | brk => exact False.elim hq'
    | cont => exact False.elim hq'
theorem pe_make0 (M : Mk X.K C f) (F : FnOk X.prog X.w X.K X.mg X.base CX k f fd ps sp) (hr : Room (k + 1) X.A) (hg : Gl X x) (hm : X.mg x = some (.ref C)) (hb : Binds X.K fd ps ds) (hd : Vals dvs ds) (hx : Passes CX X E)
    (hdb : (x == ("__debug__" : Str)) = false := by decide) : PE X (.Call (.Name x p) [] [] pos) (tMake C sp dvs E tNil) := by
  intro pins s σ H Q I h
  refine wpAny_Call_Name_kw (ld_glob I hg hm ?_ hdb)
  exact PySem.W.callWith_K0 I.kIn M.kp (run_make (us := []) M F hr hb hd hx I .nil h)
end

/-! ### keywords -/
section
variable {X : Cx} {CX : CXT} {k : Nat} {f C : Addr} {fd : FuncData} {ps ks : List Str} {sp : Sp} {E : XK} {x m : Str} {p pos apos kpos : Pos} {e o : Expr} {es : List Expr} {kws : List Keyword} {te ta : TE} {t tk : TA} {nm : Option Str}
variable {g : List Value → List Value → List Value} {gV : List V → List V → List V}
end

/-! ### a def's body keeps its promise -/
/-- names: the parameters first -/
structure FnScope (N P : List Str) (sc : Scope) : Prop where
  kind : sc.kind = .function
  co : sc.isCoroutine = false
  gen : sc.isGenerator = false
  nd : N.Nodup
  pre : N.take P.length = P
  par : ∀ x ∈ P, sc.names.lookup x = some .local ∨ sc.names.lookup x = some .cell
  nofree : ∀ y ∈ sc.names, y.2 ≠ .free

theorem bindL_out {kindOf : Str → Option NameKind} {x : Str} : ∀ {binds : List (Str × Value)} {m : Str → Option Value}, (∀ v, (x, v) ∉ binds) → bindL kindOf binds m x = m x
  | [], _, _ => rfl
  | (n, v) :: r, m, h => by
    unfold bindL
    rw [bindL_out fun w hw => h w (List.mem_cons_of_mem _ hw)]
    split
    · have : x ≠ n := by rintro rfl; exact h v List.mem_cons_self
      simp [this]
    · rfl
theorem bindC_out {kindOf : Str → Option NameKind} {x : Str} : ∀ {binds : List (Str × Value)} {m : Str → Option Value}, (∀ v, (x, v) ∉ binds) → bindC kindOf binds m x = m x
  | [], _, _ => rfl
  | (n, v) :: r, m, h => by
    unfold bindC
    rw [bindC_out fun w hw => h w (List.mem_cons_of_mem _ hw)]
    split
    · rfl
    · have : x ≠ n := by rintro rfl; exact h v List.mem_cons_self
      simp [this]
theorem bindL_get {kindOf : Str → Option NameKind} {x : Str} {v : Value} : ∀ {P : List Str} {vs : List Value} {i : Nat} {m : Str → Option Value}, P.Nodup → P[i]? = some x → vs[i]? = some v → kindOf x = some .local →
    bindL kindOf (P.zip vs) m x = some v
  | [], _, _, _, _, h, _, _ => by simp at h
  | _ :: _, [], _, _, _, _, h, _ => by simp at h
  | p :: P, w :: vs, 0, m, nd, h1, h2, hk => by
    simp at h1 h2; subst h1; subst h2
    show bindL kindOf ((p, w) :: P.zip vs) m p = _
    unfold bindL
    rw [bindL_out fun v hv => (List.nodup_cons.mp nd).1 (List.of_mem_zip hv).1, if_pos hk]
    simp
  | p :: P, w :: vs, i + 1, m, nd, h1, h2, hk => by
    show bindL kindOf ((p, w) :: P.zip vs) m x = _
    unfold bindL
    exact bindL_get (i := i) (List.nodup_cons.mp nd).2 (by simpa using h1) (by simpa using h2) hk
theorem bindC_get {kindOf : Str → Option NameKind} {x : Str} {v : Value} : ∀ {P : List Str} {vs : List Value} {i : Nat} {m : Str → Option Value}, P.Nodup → P[i]? = some x → vs[i]? = some v → kindOf x ≠ some .local →
    bindC kindOf (P.zip vs) m x = some v
  | [], _, _, _, _, h, _, _ => by simp at h
  | _ :: _, [], _, _, _, _, h, _ => by simp at h
  | p :: P, w :: vs, 0, m, nd, h1, h2, hk => by
    simp at h1 h2; subst h1; subst h2
    show bindC kindOf ((p, w) :: P.zip vs) m p = _
    unfold bindC
    rw [bindC_out fun v hv => (List.nodup_cons.mp nd).1 (List.of_mem_zip hv).1, if_neg hk]
    simp
  | p :: P, w :: vs, i + 1, m, nd, h1, h2, hk => by
    show bindC kindOf ((p, w) :: P.zip vs) m x = _
    unfold bindC
    exact bindC_get (i := i) (List.nodup_cons.mp nd).2 (by simpa using h1) (by simpa using h2) hk

/-- the names' values at the entry -/
def start (N : List Str) (vs : List V) : St := vs.map some ++ List.replicate (N.length - vs.length) none

/-- the context of a def's body, at its entry; an exception leaves the frame, then lies as CX says -/
def cxOf (CX : CXT) (P : Program) (w : World) (K : PySem.W.Frag) (mg : Str → Option Value) (base : Heap) (N : List Str) (qual : Str) (scope : Scope) (f : Addr) (cd : Value) (A : Around) (outer : List Env) (s : Shared) (H : Hp) (E : XK) : Cx where
  prog := P
  w := w
  K := K
  mg := mg
  base := base
  A := A.deeper (envOfC qual scope s.heap.objs.size f cd)
  N := N
  s_0 := s
  H_0 := H
  env := envOfC qual scope s.heap.objs.size f cd
  outer := outer
  stack := envOfC qual scope s.heap.objs.size f cd :: outer
  ex := []
  calm := true
  fn := fun _ => true
  pn := []
  xe := fun e s' => wpAny (model P w) (A.deeper (envOfC qual scope s.heap.objs.size f cd)) (leaving (envOfC qual scope s.heap.objs.size f cd) e) (fun _ s'' => CX outer H s E e s'') (fun e' s'' => CX outer H s E e' s'') s'

theorem cell_has {sc : Scope} {n : Nat} {x : Str} (h : sc.names.lookup x = some .cell) : ∃ c, (cellsFrom n sc.names []).lookup x = some c := by
  have q := PySem.W.cellsFrom_some sc.names n [] (.inl h)
  exact Option.isSome_iff_exists.mp q

theorem inv_start {CX : CXT} {P : Program} {w : World} {K : PySem.W.Frag} {mg : Str → Option Value} {base : Heap} {N ps : List Str} {qual : Str} {scope : Scope} {f : Addr} {cd : Value} {A : Around} {outer : List Env} {s s1 : Shared} {H : Hp} {E : XK} {us : List Value} {vs : List V}
    (S : FnScope N ps scope) (hd : A.handled = none) (e0 : Env0 P w K mg base A outer s H) (hl : vs.length = ps.length) (r : Vals vs us)
    (x : InCallC s s.heap.objs.size (bindL (envOfC qual scope s.heap.objs.size f cd).kindOf (ps.zip us) fun _ => none) (cellsFrom (s.heap.objs.size + 1) scope.names []) (bindC (envOfC qual scope s.heap.objs.size f cd).kindOf (ps.zip us) fun _ => none) s1) :
    Inv (cxOf CX P w K mg base N qual scope f cd A outer s H E) [] (start N vs) H s1 := by
  have hpl : ps.length ≤ N.length := by have := congrArg List.length S.pre; rw [List.length_take] at this; omega
  obtain ⟨h1, tk, rfl, hk⟩ := x.done
  have noA : ∀ b : Addr, b ∉ (cxOf CX P w K mg base N qual scope f cd A outer s H E).ex := fun b z => absurd (show b ∈ ([] : List Addr) from z) (by simp)
  refine ⟨⟨e0.mod, S.kind, rfl, rfl, Nat.le_refl _, fun y z c h1 h2 => ?_, fun y hy => ?_, fun y c _ h => ?_, fun _ => hd, Around.frames_deeper e0.frames, .inr ⟨rfl, rfl⟩, fun b z => absurd z (noA b), e0.bs, e0.bsz, fun b _ _ => noA b, fun b z => absurd z (noA b), e0.funs, e0.frf⟩,
    rfl, e0.bare, Un.kept hk, ⟨_, x.toInCall.ns, fun i y v h1 h2 h3 => ?_⟩, fun y c h => ⟨_, x.cell y c h⟩, e0.hok.fresh (Nat.le_refl _), fun y c h => ?_, fun p hp => absurd (show p ∈ ([] : List (Addr × Obj)) from hp) (by simp), e0.hok.kept hk, ?_⟩
  · exact name_of_addr x.apart (PySem.mem_of_lookup h1) (PySem.mem_of_lookup h2)
  · have hy : scope.names.lookup y = some .cell ∨ scope.names.lookup y = some .free := hy
    rcases hy with hy | hy
    · exact cell_has hy
    · exact absurd rfl (S.nofree _ (PySem.mem_of_lookup hy))
  · exact Nat.le_of_lt (x.above y c (PySem.mem_of_lookup h))
  · have hi : i < vs.length := by
      unfold start at h2
      by_cases hi : i < vs.length
      · exact hi
      · rw [List.getElem?_append_right (by simpa using hi)] at h2
        rw [List.getElem?_replicate] at h2
        split at h2 <;> cases h2
    have ha : vs[i]? = some v := by
      unfold start at h2
      rw [List.getElem?_append_left (by simpa using hi), List.getElem?_map] at h2
      cases e : vs[i]? with
      | none => rw [e] at h2; cases h2
      | some a => rw [e] at h2; cases h2; rfl
    obtain ⟨u, hu, rv⟩ := r.get ha
    have hp : ps[i]? = some y := by
      rw [← S.pre, List.getElem?_take_of_lt (by omega)]; exact h1
    have ndP : ps.Nodup := by rw [← S.pre]; exact S.nd.sublist (List.take_sublist _ _)
    refine ⟨u, rv, ?_⟩
    rcases S.par y (List.mem_of_getElem? hp) with k | k
    · exact .inl ⟨k, bindL_get ndP hp hu k⟩
    · obtain ⟨c, e⟩ := cell_has (n := s.heap.objs.size + 1) k
      refine .inr ⟨.inl k, c, e, ?_⟩
      have q := x.cell y c e
      rw [bindC_get ndP hp hu (by show scope.names.lookup y ≠ _; rw [k]; decide)] at q
      exact q
  · exact e0.hok.fresh (Nat.le_of_lt (x.above y c (PySem.mem_of_lookup h)))
  · unfold start
    show _ = N.length
    rw [List.length_append, List.length_map, List.length_replicate]
    omega

/-- THE RULE: a def (or a method) of the text, by its body. The body's reading t is chosen for each entry; it is run at the parameters' values -/
theorem fn_of {CX : CXT} {P : Program} {w : World} {K : PySem.W.Frag} {mg : Str → Option Value} {base : Heap} {k : Nat} {f : Addr} {name qual : Str} {params : Arguments} {body : List Stmt} {scope : Scope} {dV kV doc pm cdv ct oc : Value} {an od : Option Addr}
    {osl : Array (Option Value)} {N ps : List Str} {sp : Sp} (lk : K.lookup f = some ⟨oc, od, .func (PySem.W.fnOf name qual params body scope dV kV doc pm an cdv ct), osl⟩) (hcd : PySem.W.codeIn K cdv qual = true) (S : FnScope N ps scope)
    (len : ∀ vs H Q E, sp vs H Q E → vs.length = ps.length)
    (hbody : ∀ (A : Around) (outer : List Env) (s : Shared) (H : Hp) (vs : List V) (Q : VK) (E : XK), Room k (A.deeper (envOfC qual scope s.heap.objs.size f cdv)) → sp vs H Q E →
      ∃ t, PSs (cxOf CX P w K mg base N qual scope f cdv A outer s H E) body t ∧ t { nx := fun _ H' => Q .non H', rt := Q } (start N vs) H) :
    FnOk P w K mg base CX (k + 1) f (PySem.W.fnOf name qual params body scope dV kV doc pm an cdv ct) ps sp := by
  refine ⟨len, fun A outer s H args us vs Q E hr e0 hb r hsp => ?_⟩
  have hl := len _ _ _ _ hsp
  have KX : K.In s.heap := e0.mod.kin.keeps fun b o e => (e0.bs b o e).1
  have lim : s.heap.NoLimit := e0.mod.nolimit.keeps fun b o e => (e0.bs b o e).1
  have hkind : ∀ y ∈ ps.zip us, scope.names.lookup y.1 = some .local ∨ (scope.names.lookup y.1 = some .cell ∧ ((cellsFrom (s.heap.objs.size + 1) scope.names []).lookup y.1).isSome = true) := fun ⟨n, v⟩ hy => by
    rcases S.par n (List.of_mem_zip hy).1 with q | q
    · exact .inl q
    · exact .inr ⟨q, PySem.W.cellsFrom_some _ _ _ (.inl q)⟩
  refine codeAny_call_function hr.depth (KX _ _ lk) rfl S.co S.gen rfl (PySem.W.codeRec_of KX hcd) (hb _ _ _ _ ?_)
  refine wpAny_newFunctionEnv_cells S.kind hkind fun env he s1 x => ?_
  subst he
  refine ⟨lim.keeps x.toInCall.keep, codeAny_func ?_⟩
  obtain ⟨t, ht, hq⟩ := hbody A outer s H vs Q E (hr.deeper _) hsp
  have I : Inv (cxOf CX P w K mg base N qual scope f cdv A outer s H E) [] (start N vs) H s1 := inv_start S hr.hd e0 hl r x
  refine wpAny_mono (ht [] s1 (start N vs) H _ I hq) (fun fl s' hs => ?_) fun e s' hs => hs
  have fin : ∀ {σ' : St} {H' : Hp} {v : V} {u : Value}, Inv (cxOf CX P w K mg base N qual scope f cdv A outer s H E) [] σ' H' s' → RelV v u → Q v H' → CE outer P w H s Q u s' :=
    fun {σ' H' v u} J rv q => ⟨v, H', J.os, J.bare, J.base, J.hok, rv, q⟩
  cases fl with
  | ret u =>
    obtain ⟨v, σ', H', J, rv, q⟩ := hs
    exact fin J rv q
  | next =>
    obtain ⟨σ', H', J, q⟩ := hs
    exact fin (v := V.non) (u := Value.none) J rfl q
  | brk =>
    obtain ⟨_, _, _, q⟩ := hs
    exact False.elim q
  | cont =>
    obtain ⟨_, _, _, q⟩ := hs
    exact False.elim q
end L2

namespace L2
open PySem PySem.Spec PyProof.Rows
section
variable {X : Cx} {x : Str} {p pos : Pos} {e : Expr} {es : List Expr} {t : TA} {id T : String} {r : List V → Hp → VK → Prop}

def tCB (r : List V → Hp → VK → Prop) (t : TA) : TE := fun σ H Q => t σ H fun vs H1 => r vs H1 Q
/-- f(e, ..), f a built-in function -/
theorem pe_callB (hc : CallR X (.builtin id) r) (hg : Gl X x) (hm : X.mg x = none) (hv : bootBuiltins x = some (.builtin id)) (ha : PA X (e :: es) t) (hn : x ≠ "__name__" := by decide) (hdb : (x == ("__debug__" : Str)) = false := by decide)
    (he : starEach (e :: es) X.env = (false, eval e X.env) :: starEach es X.env := by rfl) (hpl : (backTo pos (starEach es X.env)).any (·.1) = false := by rfl) : PE X (.Call (.Name x p) (e :: es) [] pos) (tCB r t) := by
  intro pins s σ H Q I h
  refine wpAny_Call_Name_kw (ld_blt I hg hm hv ?_ hn hdb)
  exact PyProof.Rows.callWith_builtin1 (thn (ha pos pins s σ H _ I h) fun us s1 ⟨vs, H1, I1, r1, q1⟩ => hc pins s1 σ H1 vs us Q I1 r1 q1) he hpl
/-- T(e, ..), T a built-in type -/
theorem pe_callTy (hc : CallR X (.type T) r) (hg : Gl X x) (hm : X.mg x = none) (hv : bootBuiltins x = some (.type T)) (ha : PA X (e :: es) t) (hn : x ≠ "__name__" := by decide) (hdb : (x == ("__debug__" : Str)) = false := by decide)
    (he : starEach (e :: es) X.env = (false, eval e X.env) :: starEach es X.env := by rfl) (hpl : (backTo pos (starEach es X.env)).any (·.1) = false := by rfl) : PE X (.Call (.Name x p) (e :: es) [] pos) (tCB r t) := by
  intro pins s σ H Q I h
  refine wpAny_Call_Name_kw (ld_blt I hg hm hv ?_ hn hdb)
  exact PyProof.Rows.callWith_type1 (thn (ha pos pins s σ H _ I h) fun us s1 ⟨vs, H1, I1, r1, q1⟩ => hc pins s1 σ H1 vs us Q I1 r1 q1) he hpl
end
end L2

namespace HT
open PySem PyProof.Rows

section
open PySem.SeqAt
open PySem.AutoSeq1 (wpAny_loadPart')
open PySem.MeetsSeq PySem.MeetsSeq2 PySem.MeetsSeq3

end

section
variable {prog : Program} {w : World} {A : Around} {E : Value → Shared → Prop} {s : Shared}

/-! ### t[a:b], not the whole -/
/-- a slice's bound as a place among n (d where it is left out) -/
def sIx (n d : Nat) : Option Int → Nat
  | none => d
  | some v => if v < 0 then (v + (n : Int)).toNat else min v.toNat n
theorem sIx_none (n d : Nat) : sIx n d none = d := rfl
theorem sIx_nat (n d k : Nat) : sIx n d (some (k : Int)) = min k n := by
  show (if (k : Int) < 0 then ((k : Int) + (n : Int)).toNat else min (k : Int).toNat n) = min k n
  rw [if_neg (by omega), Int.toNat_natCast]
theorem sIx_le (n d : Nat) (hd : d ≤ n) (o : Option Int) : sIx n d o ≤ n := by
  cases o with
  | none => exact hd
  | some v =>
    show (if v < 0 then (v + (n : Int)).toNat else min v.toNat n) ≤ n
    by_cases hv : v < 0
    · rw [if_pos hv]; omega
    · rw [if_neg hv]; exact Nat.min_le_right _ _
end
end HT

namespace L2
open PySem PySem.Spec PyProof.Rows

/-! ### the parts of a slice -/
abbrev TO := St → Hp → (Option Int → Hp → Prop) → Prop
/-- a slice's part (left out, or an int) -/
def PO (X : Cx) (e : Option Expr) (t : TO) : Prop :=
  ∀ (pins : List (Addr × Obj)) (s : Shared) (σ : St) (H : Hp) (Q : Option Int → Hp → Prop), Inv X pins σ H s → t σ H Q →
    wpAny (model X.prog X.w) X.A (evalPart e X.env) (fun u s' => ∃ o H', Inv X pins σ H' s' ∧ IsPart u o ∧ Q o H') X.xe s
def tNoPart : TO := fun _ H Q => Q none H
def tPart (t : TE) : TO := fun σ H Q => t σ H fun x H1 => ∃ i, x = .int i ∧ Q (some i) H1

section
variable {X : Cx} {e : Expr} {te : TE} {lo hi : Option Expr} {tl th : TO} {pos p2 : Pos}

theorem po_none : PO X none tNoPart := by
  intro pins s σ H Q I h
  rw [evalPart_none]
  exact wpAny_pure ⟨none, H, I, .none, h⟩
theorem po_some (h : PE X e te) : PO X (some e) (tPart te) := by
  intro pins s σ H Q I hw
  rw [evalPart_some]
  refine thn (h pins s σ H _ I hw) fun u s1 ⟨x, H1, I1, r1, q1⟩ => ?_
  obtain ⟨i, rfl, q⟩ := q1
  obtain ⟨t, rfl⟩ := r1
  exact ⟨some i, H1, I1, .int i t, q⟩

/-- what a slice of a value is, by values: the slice object stands at sl -/
def SlR (X : Cx) (r : V → Option Int → Option Int → Hp → VK → Prop) : Prop :=
  ∀ (pins : List (Addr × Obj)) (s : Shared) (σ : St) (H : Hp) (x : V) (v vl vu : Value) (lo hi : Option Int) (sl : Addr) (Q : VK), Inv X pins σ H s → RelV x v → s.heap.IsSliceOf sl vl vu .none → IsPart vl lo → IsPart vu hi → r x lo hi H Q →
    ∃ T id, typeLookup (.type T) "__getitem__" = pure (some (.builtin id)) ∧ s.TypeIs v T ∧ wpAny (model X.prog X.w) X.A (getItem v (.ref sl)) (EP X pins σ Q) X.xe s
theorem SlR.or {r r' : V → Option Int → Option Int → Hp → VK → Prop} (h : SlR X r) (h' : SlR X r') : SlR X (fun x lo hi H Q => r x lo hi H Q ∨ r' x lo hi H Q) := by
  intro pins s σ H x v vl vu lo hi sl Q I rx hs pl pu q
  rcases q with q | q
  · exact h pins s σ H x v vl vu lo hi sl Q I rx hs pl pu q
  · exact h' pins s σ H x v vl vu lo hi sl Q I rx hs pl pu q
def tSl (r : V → Option Int → Option Int → Hp → VK → Prop) (te : TE) (tl th : TO) : TE := fun σ H Q => te σ H fun x H1 => tl σ H1 fun l H2 => th σ H2 fun u H3 => r x l u H3 Q
/-- a[lo:hi], any a -/
theorem pe_slice {r : V → Option Int → Option Int → Hp → VK → Prop} (hr : SlR X r) (he : PE X e te) (hl : PO X lo tl) (hu : PO X hi th) : PE X (.Subscript e (.Slice lo hi none p2) pos) (tSl r te tl th) := by
  intro pins s σ H Q I h
  refine Subscript_ (thn (he pins s σ H _ I h) fun v s1 ⟨x, H1, I1, r1, q1⟩ => ?_)
  refine wpAny_Slice (thn (hl pins s1 σ H1 _ I1 q1) fun vl s2 ⟨l, H2, I2, pl, q2⟩ => thn (hu pins s2 σ H2 _ I2 q2) fun vu s3 ⟨u, H3, I3, pu, q3⟩ => ?_)
  rw [evalPart_none]
  refine wpAny_pure ?_
  have I4 : Inv X pins σ H3 { s3 with heap := s3.heap.push { cls := .type "slice", data := .fields #[vl, vu, .none] } } := I3.kept (t' := s3.toks) fun b ob q => Heap.get?_push_of_some _ q
  obtain ⟨T, id, hT, ht, hg⟩ := hr pins { s3 with heap := s3.heap.push { cls := .type "slice", data := .fields #[vl, vu, .none] } } σ H3 x v vl vu l u s3.heap.objs.size Q I4 r1 (Heap.IsSliceOf.new ..) pl pu q3
  show wpAny (model X.prog X.w) X.A (subscriptTail e (.Slice lo hi none p2) v (.ref s3.heap.objs.size)) (EP X pins σ Q) X.xe { s3 with heap := s3.heap.push { cls := .type "slice", data := .fields #[vl, vu, .none] } }
  exact tail_any (ops := [.ref s3.heap.objs.size, v]) ht hT hg (by with_unfolding_all rfl)

/-- the items of xs[lo:hi] -/
def cutV (xs : List V) (lo hi : Option Int) : List V := (xs.drop (HT.sIx xs.length 0 lo)).take (HT.sIx xs.length xs.length hi - HT.sIx xs.length 0 lo)
theorem cutV_length (xs : List V) (lo hi : Option Int) : (cutV xs lo hi).length ≤ xs.length := by
  unfold cutV
  rw [List.length_take, List.length_drop]
  omega
/-! ### t < u, t + u -/
end
end L2

namespace L2
open PySem PySem.Spec PyProof.Rows

/-! ### places -/
/-- the place that an index of any sign means -/
def ixN (n : Nat) (i : Int) : Option Nat := if 0 ≤ i then (if i < n then some i.toNat else none) else if -(n : Int) ≤ i then some (i + n).toNat else none
def atI {α : Type} (xs : List α) (i : Int) : Option α := (ixN xs.length i).bind fun j => xs[j]?
theorem ixN_seq {n : Nat} {i : Int} {j : Nat} (h : ixN n i = some j) : seqIndex? i n = some j ∧ j < n ∧ -(n : Int) ≤ i ∧ i < n := by
  unfold ixN at h
  by_cases h0 : 0 ≤ i
  · rw [if_pos h0] at h
    by_cases h1 : i < n
    · rw [if_pos h1] at h
      have e : i.toNat = j := Option.some.inj h
      exact ⟨by rw [seqIndex_of h0 h1, e], by omega, by omega, h1⟩
    · rw [if_neg h1] at h; cases h
  · rw [if_neg h0] at h
    by_cases h1 : -(n : Int) ≤ i
    · rw [if_pos h1] at h
      have e : (i + n).toNat = j := Option.some.inj h
      exact ⟨by rw [seqIndex_neg (by omega) h1, e], by omega, h1, by omega⟩
    · rw [if_neg h1] at h; cases h
theorem atI_get {α : Type} {xs : List α} {i : Int} {v : α} (h : atI xs i = some v) : ∃ j, seqIndex? i xs.length = some j ∧ xs[j]? = some v ∧ j < xs.length ∧ -(xs.length : Int) ≤ i ∧ i < xs.length := by
  unfold atI at h
  cases e : ixN xs.length i with
  | none => rw [e] at h; cases h
  | some j =>
    rw [e] at h
    obtain ⟨h1, h2, h3, h4⟩ := ixN_seq e
    exact ⟨j, h1, h, h2, h3, h4⟩
theorem atI_nat {α : Type} {xs : List α} {j : Nat} {v : α} (h : xs[j]? = some v) : atI xs (j : Int) = some v := by
  have hj : j < xs.length := (List.getElem?_eq_some_iff.mp h).1
  have e : ixN xs.length (j : Int) = some j := by
    unfold ixN
    rw [if_pos (by omega), if_pos (by omega)]; simp
  unfold atI; rw [e]; exact h
/-! ### what may be subscripted -/
/-- what stands as an index of a plain subscript -/
def PlainIx (b : Expr) : Prop := ∀ o i, subscripted b false o i = operate [o, i] (getItem o i)
/-- a subscript by values -/
def IxR (X : Cx) (r : R2) : Prop :=
  ∀ (value slice : Expr) (pins : List (Addr × Obj)) (s : Shared) (σ : St) (H : Hp) (x y : V) (v u : Value) (Q : VK), Inv X pins σ H s → RelV x v → RelV y u → r x y H Q →
    subscripted slice false v u = operate [v, u] (getItem v u) → wpAny (model X.prog X.w) X.A (subscriptTail value slice v u) (EP X pins σ Q) X.xe s
/-- a call of a builtin's method by values: the receiver, the arguments -/
def MtR (X : Cx) (id : String) (r : V → List V → Hp → VK → Prop) : Prop :=
  ∀ (pins : List (Addr × Obj)) (s : Shared) (σ : St) (H : Hp) (x : V) (xs : List V) (v : Value) (us : List Value) (Q : VK), Inv X pins σ H s → RelV x v → Vals xs us → r x xs H Q →
    wpAny (model X.prog X.w) X.A (call (.builtin id) (v :: us)) (EP X pins σ Q) X.xe s
section
variable {X : Cx} {a b : Expr} {ta tb : TE} {pos : Pos}
theorem IxR.or {r r' : R2} (h : IxR X r) (h' : IxR X r') : IxR X (fun x y H Q => r x y H Q ∨ r' x y H Q) := by
  intro value slice pins s σ H x y v u Q I rx ry q hs
  rcases q with q | q
  · exact h value slice pins s σ H x y v u Q I rx ry q hs
  · exact h' value slice pins s σ H x y v u Q I rx ry q hs
theorem MtR.or {id : String} {r r' : V → List V → Hp → VK → Prop} (h : MtR X id r) (h' : MtR X id r') : MtR X id (fun x xs H Q => r x xs H Q ∨ r' x xs H Q) := by
  intro pins s σ H x xs v us Q I rx rs q
  rcases q with q | q
  · exact h pins s σ H x xs v us Q I rx rs q
  · exact h' pins s σ H x xs v us Q I rx rs q
/-- a[b] -/
theorem pe_ix {r : R2} (hr : IxR X r) (ha : PE X a ta) (hb : PE X b tb) (hs : PlainIx b) : PE X (.Subscript a b pos) (tOp r ta tb) := by
  intro pins s σ H Q I h
  exact Subscript_ (binT ha hb I h fun v u s2 x y H2 I2 rx ry q => hr a b pins s2 σ H2 x y v u Q I2 rx ry q (hs _ _))

def rIxL (K : PySem.W.Frag) : R2 := fun x y H Q => ∃ p xs i v, x = .ref p ∧ y = .int i ∧ SqL K H p xs ∧ atI xs i = some v ∧ Q v H
def rIxT (K : PySem.W.Frag) : R2 := fun x y H Q => ∃ p xs i v, x = .ref p ∧ y = .int i ∧ SqT K H p xs ∧ atI xs i = some v ∧ Q v H
def rIxS : R2 := fun x y H Q => ∃ z i c, x = .str z ∧ y = .int i ∧ z.length ≤ sizeLine ∧ atI z.cps.toList i = some c ∧ Q (.str ⟨#[c]⟩) H
theorem ix_list : IxR X (rIxL X.K) := by
  intro value slice pins s σ H x y v u Q I rx ry h hs
  obtain ⟨p, xs, i, z, rfl, rfl, hq, he, q⟩ := h
  cases rx
  obtain ⟨t, rfl⟩ := ry
  obtain ⟨its, r, pl, hz⟩ := I.list hq
  obtain ⟨j, h1, h2, h3, h4, h5⟩ := atI_get he
  obtain ⟨w, ew, rw'⟩ := r.get h2
  have hl := r.length
  have hn := line63
  have fin : EP X pins σ Q w s := ⟨z, H, I, rw', q⟩
  by_cases h0 : 0 ≤ i
  · have hj : i.toNat = j := by
      rw [seqIndex_of h0 h5] at h1
      exact Option.some.inj h1
    exact item_listR pl.isList h0 (by omega) (by rw [hj]; simpa using ew) fin hs
  · have hj : (i + (its.toArray.size : Int)).toNat = j := by
      rw [seqIndex_neg (by omega) h4] at h1
      rw [List.size_toArray, ← hl]
      exact Option.some.inj h1
    exact subscriptTail_builtinR (x := w) pl.isList.typeIs slot_list_getitem.lookup
      (wpAny_getItem_list_neg (Q := fun r s' => r = w ∧ EP X pins σ Q r s') pl.isList (by omega) (by rw [List.size_toArray] <;> omega) (by omega) (by rw [hj]; simpa using ew) ⟨rfl, fin⟩) hs
theorem ix_tup : IxR X (rIxT X.K) := by
  intro value slice pins s σ H x y v u Q I rx ry h hs
  obtain ⟨p, xs, i, z, rfl, rfl, hq, he, q⟩ := h
  cases rx
  obtain ⟨t, rfl⟩ := ry
  obtain ⟨its, r, pl, hz⟩ := I.tuple hq
  obtain ⟨j, h1, h2, h3, h4, h5⟩ := atI_get he
  obtain ⟨w, ew, rw'⟩ := r.get h2
  have hl := r.length
  have hn := line63
  have fin : EP X pins σ Q w s := ⟨z, H, I, rw', q⟩
  exact subscriptTail_builtinR (x := w) pl.typeIs slot_tuple_getitem.lookup
    (getItem_tuple (j := j) (Q := fun r s' => r = w ∧ EP X pins σ Q r s') pl (by omega) (by omega) (by rw [List.size_toArray, ← hl]; exact h1) (by simpa using ew) ⟨rfl, fin⟩) hs
theorem ix_str : IxR X rIxS := by
  intro value slice pins s σ H x y v u Q I rx ry h hs
  obtain ⟨z, i, c, rfl, rfl, hz, he, q⟩ := h
  obtain ⟨t, rfl⟩ := rx
  obtain ⟨t', rfl⟩ := ry
  obtain ⟨j, h1, h2, h3, h4, h5⟩ := atI_get he
  have hl : z.cps.toList.length = z.length := by simp [Str.length]
  rw [hl] at h1 h4 h5
  have hn := line63
  exact tail_any (typeIs_str s z t) slot_str_getitem.lookup (getItem_str (c := c) (by
    have e1 : decide (i < -(2 ^ 63 : Int)) = false := decide_eq_false (by omega)
    have e2 : decide (i ≥ 2 ^ 63) = false := decide_eq_false (by omega)
    rw [e1, e2, Bool.or_false]) (by rw [h1]; simpa using h2) ⟨.str ⟨#[c]⟩, H, I.tok _, ⟨_, rfl⟩, q⟩) hs
/-! ### xs[i] = v, any sign -/
theorem Inv.lst {pins : List (Addr × Obj)} {σ : St} {H : Hp} {s : Shared} {p : Addr} {xs : List V} (I : Inv X pins σ H s) (h : H p = some (.lst xs)) :
    ∃ (its : List Value) (n : Nat), Vals xs its ∧ s.heap.get? p = some { cls := .type "list", data := .seq its.toArray n } ∧ xs.length ≤ sizeLine := by
  obtain ⟨z, its, n, r, e⟩ := I.hok p _ h
  exact ⟨its, n, r, e, z⟩
/-! ### slices -/
theorem slice_bounds (lo hi : Option Int) (n : Nat) : (sliceBounds lo hi none n).1 = ((HT.sIx n 0 lo : Nat) : Int) ∧ (sliceBounds lo hi none n).2.1 = ((HT.sIx n n hi : Nat) : Int) ∧ (sliceBounds lo hi none n).2.2 = 1 := by
  refine ⟨?_, ?_, rfl⟩
  · cases lo with
    | none => simp [sliceBounds, HT.sIx]
    | some i =>
      simp only [sliceBounds, HT.sIx, Option.getD_none, show (1 : Int) > 0 by decide, if_true]
      by_cases h : i < 0
      · simp only [h, if_true] <;> omega
      · simp only [h, if_false] <;> omega
  · cases hi with
    | none => simp [sliceBounds, HT.sIx]
    | some i =>
      simp only [sliceBounds, HT.sIx, Option.getD_none, show (1 : Int) > 0 by decide, if_true]
      by_cases h : i < 0
      · simp only [h, if_true] <;> omega
      · simp only [h, if_false] <;> omega
theorem slicePick_cut (its : List Value) (lo hi : Option Int) : slicePick its.toArray lo hi none = ((its.drop (HT.sIx its.length 0 lo)).take (HT.sIx its.length its.length hi - HT.sIx its.length 0 lo)).toArray := by
  obtain ⟨h1, h2, h3⟩ := slice_bounds lo hi its.toArray.size
  unfold slicePick
  rw [h1, h2, h3]
  simp only [sliceRange_one, pick_run, List.size_toArray] <;> rfl
/-- xs[lo:hi] of a list: a new list -/
def rSlL (K : PySem.W.Frag) : V → Option Int → Option Int → Hp → VK → Prop := fun x lo hi H Q => ∃ a xs, x = .ref a ∧ SqL K H a xs ∧ ∀ p, H p = none → Q (.ref p) (upd H p (.lst (cutV xs lo hi)))
theorem sl_list : SlR X (rSlL X.K) := by
  intro pins s σ H x v vl vu lo hi sl Q I rx hs pl pu h
  obtain ⟨a, xs, rfl, hx, q⟩ := h
  cases rx
  obtain ⟨its, r, ht, hz⟩ := I.list hx
  have hlen := r.length
  refine ⟨"list", _, slot_list_getitem.lookup, ht.isList.typeIs, ?_⟩
  refine wpAny_getItem_list_slice ht.isList hs pl pu .none (by simp) ?_ (by rw [List.size_toArray] <;> omega)
  rw [slicePick_cut, ← hlen]
  refine ⟨.ref s.heap.objs.size, _, I.laid (t' := s.toks) (o := .lst (cutV xs lo hi)) (fun b ob q => Heap.get?_push_of_some _ q) (Nat.le_refl _) ?_, rfl, q _ (I.hok.fresh (Nat.le_refl _))⟩
  exact ⟨Nat.le_trans (cutV_length xs lo hi) hz, _, 0, (r.drop (HT.sIx xs.length 0 lo)).take (HT.sIx xs.length xs.length hi - HT.sIx xs.length 0 lo), Heap.get?_push_size _ rfl⟩

/-! ### in, not in: flat items -/
def flatV : V → Bool
  | .non => true
  | .bl _ => true
  | .int _ => true
  | .str _ => true
  | _ => false
/-- == of flat values -/
def eqV : V → V → Bool
  | .non, .non => true
  | .bl a, .bl b => a == b
  | .bl a, .int b => (if a then 1 else 0) == b
  | .int a, .bl b => a == (if b then 1 else 0)
  | .int a, .int b => a == b
  | .str a, .str b => a == b
  | _, _ => false
theorem eqAt_V {A : Around} {s : Shared} {y x : V} {u v : Value} (ry : RelV y u) (rx : RelV x v) (fy : flatV y = true) (fx : flatV x = true) : SeqAt.EqAt A s u v (eqV y x) := by
  cases y with
  | non =>
    cases ry
    cases x with
    | non => cases rx; exact SeqAt.EqAt.same _
    | bl b => cases rx; exact SeqAt.EqAt.none_bool b
    | int b => obtain ⟨t, rfl⟩ := rx; exact SeqAt.EqAt.none_int b t
    | str b => obtain ⟨t, rfl⟩ := rx; exact SeqAt.EqAt.none_str b t
    | _ => exact absurd (show false = true from fx) Bool.false_ne_true
  | bl a =>
    cases ry
    cases x with
    | non => cases rx; exact SeqAt.EqAt.bool_none a
    | bl b => cases rx; exact SeqAt.EqAt.bool_bool a b
    | int b => obtain ⟨t, rfl⟩ := rx; exact SeqAt.EqAt.bool_int a b t
    | str b => obtain ⟨t, rfl⟩ := rx; exact SeqAt.EqAt.bool_str a b t
    | _ => exact absurd (show false = true from fx) Bool.false_ne_true
  | int a =>
    obtain ⟨t', rfl⟩ := ry
    cases x with
    | non => cases rx; exact SeqAt.EqAt.int_none a t'
    | bl b => cases rx; exact SeqAt.EqAt.int_bool a t' b
    | int b => obtain ⟨t, rfl⟩ := rx; exact SeqAt.EqAt.int_int a t' b t
    | str b => obtain ⟨t, rfl⟩ := rx; exact SeqAt.EqAt.int_str a t' b t
    | _ => exact absurd (show false = true from fx) Bool.false_ne_true
  | str a =>
    obtain ⟨t', rfl⟩ := ry
    cases x with
    | non => cases rx; exact SeqAt.EqAt.str_none a t'
    | bl b => cases rx; exact SeqAt.EqAt.str_bool a t' b
    | int b => obtain ⟨t, rfl⟩ := rx; exact SeqAt.EqAt.str_int a t' b t
    | str b => obtain ⟨t, rfl⟩ := rx; exact SeqAt.EqAt.str_str a t' b t
    | _ => exact absurd (show false = true from fx) Bool.false_ne_true
  | _ => exact absurd (show false = true from fy) Bool.false_ne_true
/-- the items' answers, read off the values (a value's own answer does not lean on its token) -/
def eqU (x : V) (u : Value) : Bool := match u with
  | .none => eqV .non x
  | .bool b => eqV (.bl b) x
  | .int i _ => eqV (.int i) x
  | .str z _ => eqV (.str z) x
  | _ => false
theorem eqU_of {x y : V} {u : Value} (r : RelV y u) (f : flatV y = true) : eqU x u = eqV y x := by
  cases y with
  | non => cases r; rfl
  | bl b => cases r; rfl
  | int i => obtain ⟨t, rfl⟩ := r; rfl
  | str z => obtain ⟨t, rfl⟩ := r; rfl
  | _ => exact absurd (show false = true from f) Bool.false_ne_true
theorem any_eqU {x : V} : ∀ {xs : List V} {us : List Value}, Vals xs us → xs.all flatV = true → us.any (eqU x) = xs.any fun y => eqV y x
  | _, _, .nil, _ => rfl
  | y :: xs, u :: us, .cons r t, f => by
    rw [List.all_cons, Bool.and_eq_true] at f
    rw [List.any_cons, List.any_cons, eqU_of r f.1, any_eqU t f.2]
theorem mem_eqAt {A : Around} {s : Shared} {x : V} {v : Value} (rx : RelV x v) (fx : flatV x = true) : ∀ {xs : List V} {us : List Value}, Vals xs us → xs.all flatV = true → ∀ u ∈ us, SeqAt.EqAt A s u v (eqU x u)
  | _, _, .nil, _ => fun u hu => by cases hu
  | y :: xs, u :: us, .cons r t, f => fun u' hu => by
    rw [List.all_cons, Bool.and_eq_true] at f
    rcases List.mem_cons.mp hu with rfl | hu
    · rw [eqU_of r f.1]; exact eqAt_V r rx f.1 fx
    · exact mem_eqAt rx fx t f.2 u' hu
def inV (x : V) (xs : List V) : Bool := xs.any fun y => eqV y x
/-- x in a list or tuple of flat items -/
def rIn (K : PySem.W.Frag) (neg : Bool) : R2 := fun x y H Q => ∃ p xs, y = .ref p ∧ (SqL K H p xs ∨ SqT K H p xs) ∧ flatV x = true ∧ xs.all flatV = true ∧ Q (.bl (if neg then !inV x xs else inV x xs)) H
theorem op_in_seq : OpR X (compareOp .In) (rIn X.K false) := by
  intro pins s σ H x y v u Q I rx ry h
  obtain ⟨p, xs, rfl, hq, fx, fs, q⟩ := h
  cases ry
  rcases hq with hq | hq
  · obtain ⟨its, r, pl, hz⟩ := I.list hq
    refine SeqAt.in_listAt (eqU x) pl.isList (fun w hw => mem_eqAt rx fx r fs w (by simpa using hw)) ⟨.bl _, H, I, rfl, ?_⟩
    rw [show its.toArray.any (eqU x) = its.any (eqU x) by simp, any_eqU r fs]
    exact q
  · obtain ⟨its, r, pl, hz⟩ := I.tuple hq
    refine SeqAt.in_tupleAt (eqU x) pl (fun w hw => mem_eqAt rx fx r fs w (by simpa using hw)) ⟨.bl _, H, I, rfl, ?_⟩
    rw [show its.toArray.any (eqU x) = its.any (eqU x) by simp, any_eqU r fs]
    exact q
/-! ### len, list(x), tuple(x) of any list or tuple that is read -/
theorem call_len_seq : CallR X (.builtin "len") (fun xs H Q => ∃ p ys, xs = [.ref p] ∧ (SqL X.K H p ys ∨ SqT X.K H p ys) ∧ Q (.int ys.length) H) := by
  intro pins s σ H xs us Q I r h
  obtain ⟨p, ys, rfl, hq, q⟩ := h
  obtain ⟨u, rfl, rx⟩ := vals1 r
  cases rx
  have hn := line63
  rcases hq with hq | hq
  · obtain ⟨its, r', pl, hz⟩ := I.list hq
    have hlen := r'.length
    exact Calls.call_len_list pl.isList (by simp only [List.size_toArray] <;> omega) ⟨.int ys.length, H, I.tok _, ⟨s.toks + 1, by rw [List.size_toArray, hlen]⟩, q⟩
  · obtain ⟨its, r', pl, hz⟩ := I.tuple hq
    have hlen := r'.length
    exact len_tuple pl (by simp only [List.size_toArray] <;> omega) ⟨.int ys.length, H, I.tok _, ⟨s.toks + 1, by rw [List.size_toArray, hlen]⟩, q⟩
theorem call_len_str : CallR X (.builtin "len") (fun xs H Q => ∃ z, xs = [.str z] ∧ z.length ≤ sizeLine ∧ Q (.int z.length) H) := by
  intro pins s σ H xs us Q I r h
  obtain ⟨z, rfl, hz, q⟩ := h
  obtain ⟨u, rfl, t, rfl⟩ := vals1 r
  have hn := line63
  exact len_str (by omega) ⟨.int z.length, H, I.tok _, ⟨_, rfl⟩, q⟩
theorem CallR.or {f : Value} {r r' : List V → Hp → VK → Prop} (h : CallR X f r) (h' : CallR X f r') : CallR X f (fun xs H Q => r xs H Q ∨ r' xs H Q) := by
  intro pins s σ H xs us Q I rs q
  rcases q with q | q
  · exact h pins s σ H xs us Q I rs q
  · exact h' pins s σ H xs us Q I rs q
theorem call_list_of : CallR X (.type "list") (fun xs H Q => ∃ p ys, xs = [.ref p] ∧ (SqL X.K H p ys ∨ SqT X.K H p ys) ∧ ∀ l, H l = none → Q (.ref l) (upd H l (.lst ys))) := by
  intro pins s σ H xs us Q I r h
  obtain ⟨p, ys, rfl, hq, q⟩ := h
  obtain ⟨u, rfl, rx⟩ := vals1 r
  cases rx
  have fin : ∀ (its : List Value), Vals ys its → ys.length ≤ sizeLine → ∀ (h' : Heap) (c' : Nat), (∀ b o', s.heap.get? b = some o' → h'.get? b = some o') →
      h'.get? s.heap.objs.size = some { cls := .type "list", dict := none, data := .seq its.toArray c', slots := #[] } → EP X pins σ Q (.ref s.heap.objs.size) { s with heap := h' } := fun its r' hz h' c' kp e =>
    ⟨.ref s.heap.objs.size, _, I.laid (t' := s.toks) kp (Nat.le_refl _) (show ObjOk X.prog X.w _ h' _ (.lst ys) from ⟨hz, its, c', r', e⟩), rfl, q _ (I.hok.fresh (Nat.le_refl _))⟩
  rcases hq with hq | hq
  · obtain ⟨its, r', pl, hz⟩ := I.list hq
    have hlen := r'.length
    obtain ⟨o, ho, hc, n, hd⟩ := pl.isList
    exact call_list_seq p (.inl rfl) ho hc hd (fun h' c' kp e => fin its r' hz h' c' kp e) (by simp only [List.size_toArray] <;> omega)
  · obtain ⟨its, r', pl, hz⟩ := I.tuple hq
    have hlen := r'.length
    obtain ⟨o, ho, hc, n, hd⟩ := pl
    exact call_list_seq p (.inr rfl) ho hc hd (fun h' c' kp e => fin its r' hz h' c' kp e) (by simp only [List.size_toArray] <;> omega)
/-! ### the call of a builtin's method: o.m(..) -/
/-- the value is of that builtin type -/
def tyV (K : PySem.W.Frag) (T : String) (x : V) (H : Hp) : Prop := match x with
  | .str _ => T = "str"
  | .int _ => T = "int"
  | .ref p => (T = "list" ∧ ∃ xs, SqL K H p xs) ∨ (T = "tuple" ∧ ∃ o, K.lookup p = some o ∧ o.cls = .type "tuple" ∧ o.dict = none) ∨
      (T = "dict" ∧ ((∃ kvs, H p = some (.dK kvs)) ∨ ∃ kvs, H p = some (.dT kvs))) ∨ (T = "set" ∧ ∃ S n, H p = some (.set S n))
  | _ => False
theorem tyV_is {pins : List (Addr × Obj)} {σ : St} {H : Hp} {s : Shared} {T : String} {x : V} {v : Value} (I : Inv X pins σ H s) (r : RelV x v) (ty : tyV X.K T x H) :
    s.TypeIs v T ∧ ∀ a, v = .ref a → ∃ ob, s.heap.get? a = some ob ∧ ob.dict = none := by
  cases x with
  | str z =>
    obtain ⟨t, rfl⟩ := r
    cases (show T = "str" from ty)
    exact ⟨typeIs_str s z t, fun _ e => nomatch e⟩
  | int i =>
    obtain ⟨t, rfl⟩ := r
    cases (show T = "int" from ty)
    exact ⟨typeIs_int s i t, fun _ e => nomatch e⟩
  | ref p =>
    cases r
    rcases ty with ⟨rfl, xs, hq⟩ | ⟨rfl, o, hk, hc, hd⟩ | ⟨rfl, hk⟩ | ⟨rfl, S, n, hk⟩
    · obtain ⟨its, _, pl, _⟩ := I.list hq
      refine ⟨pl.isList.typeIs, fun a e => ?_⟩
      cases e
      obtain ⟨o, n, e, c, hd, _⟩ := pl
      exact ⟨o, e, hd⟩
    · refine ⟨⟨o, I.kIn p o hk, hc⟩, fun a e => ?_⟩
      cases e
      exact ⟨o, I.kIn _ o hk, hd⟩
    · have z : ∃ o, s.heap.get? p = some o ∧ o.ExactDict := by
        rcases hk with ⟨kvs, hk⟩ | ⟨kvs, hk⟩
        · obtain ⟨_, _, _, _, o, _, _, e, ex, _⟩ := I.hok p _ hk
          exact ⟨o, e, ex⟩
        · obtain ⟨_, _, _, _, o, _, _, e, ex, _⟩ := I.hok p _ hk
          exact ⟨o, e, ex⟩
      obtain ⟨o, e, ex⟩ := z
      refine ⟨⟨o, e, ex.1⟩, fun a e2 => ?_⟩
      cases e2
      exact ⟨o, e, ex.2.1⟩
    · obtain ⟨o, _, _, _, e, ex, _⟩ := I.hok p _ hk
      refine ⟨⟨o, e, ex.1⟩, fun a e2 => ?_⟩
      cases e2
      exact ⟨o, e, ex.2.1⟩
  | _ => exact False.elim ty
def tBM0 (K : PySem.W.Frag) (T : String) (r : V → List V → Hp → VK → Prop) (to : TE) : TE := fun σ H Q => to σ H fun x H1 => tyV K T x H1 ∧ r x [] H1 Q
def tBM (K : PySem.W.Frag) (T : String) (r : V → List V → Hp → VK → Prop) (to : TE) (t : TA) : TE := fun σ H Q => to σ H fun x H1 => tyV K T x H1 ∧ t σ H1 fun xs H2 => r x xs H2 Q
variable {o e : Expr} {es : List Expr} {to : TE} {t : TA} {name : Str} {apos cpos : Pos} {T id : String} {r : V → List V → Hp → VK → Prop}
theorem pe_bm0 (pa : PlainAttrs T) (slot : Slot T name id) (hty : typeOf (.builtin id) = pure (.type "method_descriptor")) (hm : MtR X id r) (ho : PE X o to)
    (hbase : attributeBase o name X.env (eval o X.env) = eval o X.env := by rfl) (hline : (apos.endLine == cpos.line) = true := by rfl) : PE X (.Call (.Attribute o name apos) [] [] cpos) (tBM0 X.K T r to) := by
  intro pins s σ H Q I h
  refine wpAny_Call_method0_late hbase hline (thn (ho pins s σ H _ I h) fun v s1 ⟨x, H1, I1, r1, ty, q1⟩ => ?_)
  obtain ⟨h1, h2⟩ := tyV_is I1 r1 ty
  exact ⟨T, id, pa, slot, hty, h1, h2, Calls.callWith_builtin rfl (PySem.evalArgs_none (hm pins s1 σ H1 x [] v [] Q I1 r1 .nil q1))⟩
theorem pe_bm (pa : PlainAttrs T) (slot : Slot T name id) (hty : typeOf (.builtin id) = pure (.type "method_descriptor")) (hm : MtR X id r) (ho : PE X o to) (ha : PA X (e :: es) t)
    (hbase : attributeBase o name X.env (eval o X.env) = eval o X.env := by rfl)
    (hfew : ((backTo cpos (starEach (e :: es) X.env)).all (fun x => !x.1) && (backToKw cpos (keywordEach [] X.env)).all (fun x => x.1.isSome)
      && decide ((e :: es).length + ([] : List Keyword).length + (if ([] : List Keyword).isEmpty then 0 else 1) < 30)) = true := by rfl)
    (hline : (apos.endLine == cpos.line) = true := by rfl) (hs : starEach (e :: es) X.env = (false, eval e X.env) :: starEach es X.env := by rfl) (hplain : (backTo cpos (starEach es X.env)).any (·.1) = false := by rfl) :
    PE X (.Call (.Attribute o name apos) (e :: es) [] cpos) (tBM X.K T r to t) := by
  intro pins s σ H Q I h
  refine wpAny_Call_method_late hbase hfew hline rfl (thn (ho pins s σ H _ I h) fun v s1 ⟨x, H1, I1, r1, ty, q1⟩ => ?_)
  obtain ⟨h1, h2⟩ := tyV_is I1 r1 ty
  refine ⟨T, id, pa, slot, hty, h1, h2, ?_⟩
  have hA := ha cpos pins s1 σ H1 _ I1 q1
  rw [hs] at hA ⊢
  refine Calls.callWith_builtin (by show (false || (backTo cpos (starEach es X.env)).any (·.1)) = false; rw [hplain] <;> rfl) (Calls.evalArgs_plain ?_)
  exact thn hA fun us s2 ⟨vs, H2, I2, r2, q2⟩ => hm pins s2 σ H2 x vs v us Q I2 r1 r2 q2
/- xs.append(e), list.index on a module's tuple .. are MtR facts of 06m -/
end
end L2

namespace L2
open PySem PySem.Spec PyProof.Rows

def MtM (X : Cx) (id : String) (r : V → List V → Hp → VK → Prop) : Prop :=
  ∀ (pins : List (Addr × Obj)) (s : Shared) (σ : St) (H : Hp) (x : V) (xs : List V) (v : Value) (us : List Value) (Q : VK), Inv X pins σ H s → RelV x v → Vals xs us → r x xs H Q →
    wpAny (model X.prog X.w) X.A (call (.builtin id) (v :: us)) (EP X pins σ Q) X.xe s

/-! ### lists of values -/
theorem Vals.one : ∀ {x : V} {us : List Value}, Vals [x] us → ∃ u, us = [u] ∧ RelV x u
  | _, _, .cons r .nil => ⟨_, rfl, r⟩
theorem Vals.two : ∀ {x y : V} {us : List Value}, Vals [x, y] us → ∃ u v, us = [u, v] ∧ RelV x u ∧ RelV y v
  | _, _, _, .cons r (.cons q .nil) => ⟨_, _, rfl, r, q⟩
theorem Vals.zero : ∀ {us : List Value}, Vals [] us → us = []
  | _, .nil => rfl
theorem Vals.dropLast {xs : List V} {us : List Value} (h : Vals xs us) : Vals xs.dropLast us.dropLast := by
  induction h with
  | nil => exact .nil
  | cons r t ih =>
    cases t with
    | nil => exact .nil
    | cons q t' => exact .cons r ih
theorem Vals.eraseIdx : ∀ {xs : List V} {us : List Value} (i : Nat), Vals xs us → Vals (xs.eraseIdx i) (us.eraseIdx i)
  | _, _, _, .nil => .nil
  | _, _, 0, .cons _ t => t
  | _, _, i + 1, .cons r t => .cons r (Vals.eraseIdx i t)
theorem Vals.reverse {xs : List V} {us : List Value} (h : Vals xs us) : Vals xs.reverse us.reverse := by
  induction h with
  | nil => exact .nil
  | cons r t ih => rw [List.reverse_cons, List.reverse_cons]; exact Vals.append ih (.cons r .nil)
theorem Vals.rep {xs : List V} {us : List Value} (h : Vals xs us) : ∀ k : Nat, Vals (List.replicate k xs).flatten (List.replicate k us).flatten
  | 0 => .nil
  | k + 1 => by
    rw [List.replicate_succ, List.replicate_succ, List.flatten_cons, List.flatten_cons]
    exact Vals.append h (Vals.rep h k)
theorem erase_last {α : Type} (l : List α) : l.eraseIdx (l.length - 1) = l.dropLast := by
  induction l with
  | nil => rfl
  | cons a r ih =>
    cases r with
    | nil => rfl
    | cons b r =>
      have e : (a :: b :: r).length - 1 = ((b :: r).length - 1) + 1 := by
        have h1 : (a :: b :: r).length = r.length + 2 := rfl
        have h2 : (b :: r).length = r.length + 1 := rfl
        omega
      rw [e, List.eraseIdx_cons_succ, ih]
      all_goals rfl
theorem foldl_rep (its : List Value) : ∀ (k : Nat) (acc : List Value),
    List.foldl (fun x1 x2 => x1 ++ x2) acc.toArray (List.replicate k its.toArray) = (acc ++ (List.replicate k its).flatten).toArray
  | 0, acc => by simp
  | k + 1, acc => by
    have e : acc.toArray ++ its.toArray = (acc ++ its).toArray := by simp
    have e2 : (acc ++ its) ++ (List.replicate k its).flatten = acc ++ (List.replicate (k + 1) its).flatten := by
      rw [List.replicate_succ, List.flatten_cons, List.append_assoc]
    rw [← e2, ← foldl_rep its k (acc ++ its), ← e, List.replicate_succ, List.foldl_cons]

section
variable {X : Cx} {pins : List (Addr × Obj)} {σ : St} {H : Hp} {s : Shared} {l b : Addr} {xs ys zs : List V}

/-! ### the two steps: a tracked list is rewritten, a new list is laid -/
theorem Inv.lset {its its' : List Value} {n : Nat} {f : Array Value → Array Value} {t' : Nat} (I : Inv X pins σ H s) (hH : H l = some (.lst xs))
    (e : s.heap.get? l = some { cls := .type "list", data := .seq its.toArray n }) (hf : f its.toArray = its'.toArray) (hv : Vals ys its') (hz : ys.length ≤ sizeLine) :
    Inv X pins σ (upd H l (.lst ys)) { s with heap := s.heap.update l (Obj.mapSeq f), toks := t' } := by
  have q := PySem.IsL.update e f
  rw [hf] at q
  refine I.write (x := l) (e := l) (by rw [hH]; exact trivial) (.inl rfl) (fun b' u hb hu => (Heap.get?_update_other s.heap (Obj.mapSeq f) (Ne.symm hb)).trans hu) ⟨_, q⟩ ?_
  exact ⟨hz, its', _, hv, q⟩
theorem Inv.lnew {its : List Value} {t' : Nat} (I : Inv X pins σ H s) (hv : Vals ys its) (hz : ys.length ≤ sizeLine) :
    Inv X pins σ (upd H s.heap.objs.size (.lst ys)) { s with heap := s.heap.push { cls := .type "list", data := .seq its.toArray }, toks := t' } :=
  I.laid (fun _ _ q => Heap.get?_push_of_some _ q) (Nat.le_refl _) ⟨hz, its, 0, hv, Heap.get?_push_size _ rfl⟩
theorem Inv.fresh (I : Inv X pins σ H s) : H s.heap.objs.size = none := I.hok.fresh (Nat.le_refl _)
theorem Inv.lstM (I : Inv X pins σ H s) (hH : H l = some (.lst xs)) : xs.length ≤ sizeLine ∧ ∃ (its : List Value) (n : Nat), Vals xs its ∧ xs.length = its.length ∧ s.heap.get? l = some { cls := .type "list", data := .seq its.toArray n } := by
  obtain ⟨z, its, n, r, e⟩ := I.hok l _ hH
  exact ⟨z, its, n, r, r.length, e⟩

theorem notLongL {n : Nat} (h : n ≤ sizeLine) : Builtin.List.listTooLong n = false := by
  unfold Builtin.List.listTooLong
  exact decide_eq_false (by omega)
end

section
variable {X : Cx}

/-! ### methods -/
def rAppend : V → List V → Hp → VK → Prop := fun x vs H Q => ∃ l xs y, x = .ref l ∧ vs = [y] ∧ H l = some (.lst xs) ∧ xs.length < sizeLine ∧ Q .non (upd H l (.lst (xs ++ [y])))
theorem mt_append : MtM X "list.append" rAppend := by
  intro pins s σ H x vs v us Q I rx rv h
  obtain ⟨l, xs, y, rfl, rfl, hH, hz, q⟩ := h
  cases rx
  obtain ⟨u, rfl, ru⟩ := rv.one
  obtain ⟨z, its, n, r, hl, e⟩ := I.lstM hH
  refine call_meets F.slot_list_append ⟨_, e, rfl⟩ F.entry_list_append (F.args_list_append_2 _ _) (PySem.list_append l its.toArray n u (by rw [List.size_toArray]; omega)) ⟨e, ?_⟩
  refine ⟨.non, _, I.lset (its' := its ++ [u]) hH e (by simp) (r.append (.cons ru .nil)) ?_, rfl, q⟩
  rw [List.length_append, List.length_singleton]
  omega

def rExtend : V → List V → Hp → VK → Prop := fun x vs H Q => ∃ l b xs zs, x = .ref l ∧ vs = [.ref b] ∧ H l = some (.lst xs) ∧ H b = some (.lst zs) ∧ xs.length + zs.length ≤ sizeLine ∧ Q .non (upd H l (.lst (xs ++ zs)))
theorem mt_extend : MtM X "list.extend" rExtend := by
  intro pins s σ H x vs v us Q I rx rv h
  obtain ⟨l, b, xs, zs, rfl, rfl, hH, hB, hz, q⟩ := h
  cases rx
  obtain ⟨u, rfl, ru⟩ := rv.one
  cases ru
  obtain ⟨z, its, n, r, hl, e⟩ := I.lstM hH
  obtain ⟨z2, its2, n2, r2, hl2, e2⟩ := I.lstM hB
  have hsz : its.toArray.size + its2.toArray.size ≤ sizeLine := by rw [List.size_toArray, List.size_toArray]; omega
  have hlong : ¬ (!its.toArray.isEmpty && Builtin.List.listTooLong (its.toArray.size + its2.toArray.size)) = true := by
    rw [notLongL hsz, Bool.and_false]
    exact Bool.false_ne_true
  refine call_meets F.slot_list_extend ⟨_, e, rfl⟩ F.entry_list_extend (F.args_list_extend_2 _ _)
    (AutoSeq1.list_extend_list_list_0 l its.toArray n b its2.toArray n2 hlong (by rw [List.size_toArray]; omega) (by omega)) ⟨e, e2, ?_⟩
  refine ⟨.non, _, I.lset (its' := its ++ its2) hH e (by simp) (r.append r2) ?_, rfl, q⟩
  rw [List.length_append]
  omega

def rPop : V → List V → Hp → VK → Prop := fun x vs H Q => ∃ l xs y, x = .ref l ∧ vs = [] ∧ H l = some (.lst xs) ∧ xs[xs.length - 1]? = some y ∧ Q y (upd H l (.lst xs.dropLast))
theorem mt_pop : MtM X "list.pop" rPop := by
  intro pins s σ H x vs v us Q I rx rv h
  obtain ⟨l, xs, y, rfl, rfl, hH, hy, q⟩ := h
  cases rx
  have hus := rv.zero
  subst hus
  obtain ⟨z, its, n, r, hl, e⟩ := I.lstM hH
  obtain ⟨u, hu, ru⟩ := r.get hy
  have hy' : its.toArray[its.toArray.size - 1]? = some u := by
    show its.toArray[its.length - 1]? = some u
    rw [← Array.getElem?_toList, ← hl]
    exact hu
  refine call_meets F.slot_list_pop ⟨_, e, rfl⟩ F.entry_list_pop (F.args_list_pop_1 _) (MeetsSeq.list_pop_last l its.toArray n u hy' (by rw [List.size_toArray]; omega)) ⟨e, ?_⟩
  refine ⟨y, _, I.lset (its' := its.dropLast) hH e ?_ r.dropLast ?_, ru, q⟩
  · show its.toArray.eraseIdxIfInBounds (its.toArray.size - 1) = its.dropLast.toArray
    rw [List.size_toArray, List.eraseIdxIfInBounds_toArray, erase_last]
  · rw [List.length_dropLast]
    omega

/-! ### list + list, list += list, list * int -/
def rCat : R2 := fun x y H Q => ∃ l b xs zs, x = .ref l ∧ y = .ref b ∧ H l = some (.lst xs) ∧ H b = some (.lst zs) ∧ xs.length + zs.length ≤ sizeLine ∧ ∀ p, H p = none → Q (.ref p) (upd H p (.lst (xs ++ zs)))
theorem op_cat : OpR X (binaryOp .Add) rCat := by
  intro pins s σ H x y v u Q I rx ry h
  obtain ⟨l, b, xs, zs, rfl, rfl, hH, hB, hz, q⟩ := h
  cases rx
  cases ry
  obtain ⟨z, its, n, r, hl, e⟩ := I.lstM hH
  obtain ⟨z2, its2, n2, r2, hl2, e2⟩ := I.lstM hB
  refine PySem.P.add_list e e2 ?_ (by rw [List.size_toArray, List.size_toArray]; omega)
  have ea : its.toArray ++ its2.toArray = (its ++ its2).toArray := by simp
  rw [ea]
  exact ⟨.ref _, _, I.lnew (t' := s.toks) (r.append r2) (by rw [List.length_append]; omega), rfl, q _ I.fresh⟩
/-- a list times an int (a negative one is nothing) -/
def rRep : R2 := fun x y H Q => ∃ l k xs, x = .ref l ∧ y = .int k ∧ H l = some (.lst xs) ∧ -(2 ^ 63) ≤ k ∧ k < 2 ^ 63 ∧ xs.length * k.toNat ≤ sizeLine ∧
  ∀ p, H p = none → Q (.ref p) (upd H p (.lst (List.replicate k.toNat xs).flatten))
theorem len_rep {α : Type} (xs : List α) (k : Nat) : (List.replicate k xs).flatten.length = k * xs.length := by
  induction k with
  | zero => simp
  | succ k ih => rw [List.replicate_succ, List.flatten_cons, List.length_append, ih, Nat.succ_mul, Nat.add_comm]
theorem op_rep : OpR X (binaryOp .Mult) rRep := by
  intro pins s σ H x y v u Q I rx ry h
  obtain ⟨l, k, xs, rfl, rfl, hH, h1, h2, hz, q⟩ := h
  cases rx
  obtain ⟨t, rfl⟩ := ry
  obtain ⟨z, its, n, r, hl, e⟩ := I.lstM hH
  have hlen : its.toArray.size * k.toNat ≤ sizeLine := by rw [List.size_toArray, ← hl]; exact hz
  have hcap : ¬ its.toArray.size * k.toNat > (2 ^ 63 - 1) / 8 := by
    have : (sizeLine : Nat) ≤ (2 ^ 63 - 1) / 8 := by decide
    omega
  have hfit : ¬ (!Builtin.List.listFitsIndex k) = true := by
    rw [fitsIndex_both h1 h2]
    exact Bool.false_ne_true
  have hlong : ¬ Builtin.List.listTooLong (its.toArray.size * k.toNat) = true := by
    rw [notLongL hlen]
    exact Bool.false_ne_true
  have hnew : List.foldl (fun x1 x2 => x1 ++ x2) #[] (List.replicate (if its.toArray.isEmpty = true then 0 else k.toNat) its.toArray) = (List.replicate k.toNat its).flatten.toArray := by
    have f0 : ∀ m : Nat, List.foldl (fun x1 x2 => x1 ++ x2) #[] (List.replicate m its.toArray) = (List.replicate m its).flatten.toArray := fun m => by
      have := foldl_rep its m []
      rw [List.nil_append] at this
      exact this
    rw [f0]
    cases its with
    | nil => simp
    | cons a r' => rw [if_neg (by simp)]
  refine wpAny_binaryOp_repeat_ref (T := "list") (U := "int") (by decide) ⟨_, e, rfl⟩ (fun s' => typeIs_int s' k t) noFill_list_mul F.fills_int_mul F.slot_int_rmul repeat_list F.slot_int_index.lookup
    (call_meets F.slot_int_rmul (typeIs_int s k t) F.entry_int_rmul (F.args_int_rmul_2 _ _) (int___rmul___int_list k t l its.toArray n)
      ⟨e, rfl, ⟨_, e, rfl⟩, call_meets F.slot_list_mul ⟨_, e, rfl⟩ F.entry_list_mul (F.args_list_mul_2 _ _) (AutoListH.list___mul___list_int_3 l its.toArray n k t hfit hcap hlong) ⟨e, ?_⟩⟩)
  rw [hnew]
  exact ⟨.ref _, _, I.lnew (t' := s.toks) (r.rep k.toNat) (by rw [len_rep, Nat.mul_comm]; exact hz), rfl, q _ I.fresh⟩

/-! ### del xs[i] -/
end

/-! ### xs[a:b] = ys -/
section
variable {prog : Program} {w : World} {A : Around} {E : Value → Shared → Prop} {s : Shared}
set_option maxRecDepth 100000 in
end

section
variable {X : Cx}
end
end L2

namespace L2
open PySem PySem.Spec PyProof.Rows

theorem Vals.ints : ∀ {ns : List Int} {us : List Value}, Vals (ns.map V.int) us → IntsAre us ns
  | [], us, h => by
    rw [List.map_nil] at h
    cases h
    exact IntsAre.nil
  | n :: ns, us, h => by
    rw [List.map_cons] at h
    cases h with
    | cons r t =>
      obtain ⟨k, rfl⟩ := r
      exact IntsAre.cons n k (Vals.ints t)
theorem Vals.strs : ∀ {xs : List Str} {us : List Value}, Vals (xs.map V.str) us → StrsAre us xs
  | [], us, h => by
    rw [List.map_nil] at h
    cases h
    exact StrsAre.nil
  | x :: xs, us, h => by
    rw [List.map_cons] at h
    cases h with
    | cons r t =>
      obtain ⟨k, rfl⟩ := r
      exact StrsAre.cons x k (Vals.strs t)
theorem Vals.ref1 {a : Addr} {us : List Value} (r : Vals [V.ref a] us) : us = [Value.ref a] := by
  cases r with
  | cons r t =>
    cases t
    cases r
    rfl
/-! ### the library's walks over a list of ints, kept objects alone -/
section
variable {prog : Program} {w : World} {A : Around} {E : Value → Shared → Prop} {s : Shared} {l : Addr} {its : List Value} {ns : List Int} {Q : Value → Shared → Prop}
theorem min_raw (hh : A.handled = none) (hl : s.heap.IsList l its.toArray) (hi : IntsAre its ns) (hne : 0 < ns.length)
    (h : ∀ h' tk M t', (∀ b o, s.heap.get? b = some o → h'.get? b = some o) → M ∈ ns → (∀ a, a ∈ ns → M ≤ a) → Q (.int M t') { s with heap := h', toks := tk }) : wpAny (model prog w) A (call (.builtin "min") [.ref l]) Q E s := by
  obtain ⟨xs, e⟩ := hi.allInts.items
  have hn : numsOf (intItems xs).toList = ns := by rw [← e]; exact hi.numsOf
  rw [nums_intItems] at hn
  subst hn
  rw [e] at hl
  have hsz : 0 < xs.size := by simpa using hne
  refine PySem.min_intList hh hl hsz fun v h' tk hv hk => ?_
  obtain ⟨t, rfl⟩ := intItems_at hv
  obtain ⟨h1, h2⟩ := argBest_lt (numAt xs) (xs.size - 1)
  refine h h' tk _ t hk ?_ fun a ha => ?_
  · rw [numAt_eq]; exact PySem.getD_mem (by rw [List.length_map, Array.length_toList]; omega)
  · obtain ⟨j, hj, rfl⟩ := mem_getD ha
    rw [List.length_map, Array.length_toList] at hj
    rw [← numAt_eq]; exact h2 j (by omega)
end

/-! ### the calls, by values (CallR of 03t; MtR of 06l) -/
section
variable {X : Cx}
def rMin (K : PySem.W.Frag) : List V → Hp → VK → Prop := fun vs H Q => ∃ (a : Addr) (ns : List Int), vs = [V.ref a] ∧ SqL K H a (ns.map V.int) ∧ 0 < ns.length ∧ ∀ m, m ∈ ns → (∀ y, y ∈ ns → m ≤ y) → Q (.int m) H
theorem cr_min (hc : X.calm = true) : CallR X (.builtin "min") (rMin X.K) := by
  intro pins s σ H vs us Q I r h
  obtain ⟨a, ns, rfl, hs, hne, q⟩ := h
  obtain ⟨its, rv, hl, _⟩ := I.list hs
  rw [Vals.ref1 r]
  exact min_raw (I.ok.hd hc) hl.isList rv.ints hne fun h' tk m t' hk h1 h2 => ⟨.int _, H, I.kept hk, ⟨_, rfl⟩, q m h1 h2⟩

/-! sorted, sort (fewer than 64 items: the library's own bound) -/
end

/-! ### list.index, flat items -/
section
variable {X : Cx}
end

/-! ### type(x) of an own instance; is, is not of a module's class -/
section
variable {X : Cx}
end

/-! ### any(xs), all(xs) of a list of bools -/
section
variable {X : Cx}
end

/-! ### == and != of data at any depth: none, bools, ints, texts, lists, tuples -/
mutual
inductive Dp (K : PySem.W.Frag) (H : Hp) : V → PyData → Prop
  | non : Dp K H .non .none
  | bl (b : Bool) : Dp K H (.bl b) (.bool b)
  | int (i : Int) : Dp K H (.int i) (.int i)
  | str (x : Str) : Dp K H (.str x) (.str x)
  | lst {a : Addr} {xs : List V} {ds : List PyData} : SqL K H a xs → DpAll K H xs ds → Dp K H (.ref a) (.list ds)
  | tup {a : Addr} {xs : List V} {ds : List PyData} : SqT K H a xs → DpAll K H xs ds → Dp K H (.ref a) (.tuple ds)
inductive DpAll (K : PySem.W.Frag) (H : Hp) : List V → List PyData → Prop
  | nil : DpAll K H [] []
  | cons {v : V} {vs : List V} {d : PyData} {ds : List PyData} : Dp K H v d → DpAll K H vs ds → DpAll K H (v :: vs) (d :: ds)
end
section
variable {X : Cx} {pins : List (Addr × Obj)} {σ : St} {H : Hp} {s : Shared}
mutual
theorem Dp.reads (I : Inv X pins σ H s) : ∀ (d : PyData) (v : V) (u : Value), Dp X.K H v d → RelV v u → ∃ as, Reads s.heap u d as
  | .none, _, _, h, r => by
    cases h
    cases r
    exact ⟨_, Reads.none⟩
  | .bool b, _, _, h, r => by
    cases h
    cases r
    exact ⟨_, Reads.bool b⟩
  | .int i, _, _, h, r => by
    cases h
    obtain ⟨t, rfl⟩ := r
    exact ⟨_, Reads.int i t⟩
  | .str x, _, _, h, r => by
    cases h
    obtain ⟨t, rfl⟩ := r
    exact ⟨_, Reads.str x t⟩
  | .list ds, _, _, h, r => by
    cases h with
    | lst hs ha =>
      cases r
      obtain ⟨its, rv, ⟨o, n, ho, hc, _, hd⟩, _⟩ := I.list hs
      obtain ⟨as, hr⟩ := Dp.readsAll I ds _ its ha rv
      exact ⟨_, Reads.list ho hc hd hr⟩
  | .tuple ds, _, _, h, r => by
    cases h with
    | tup hs ha =>
      cases r
      obtain ⟨its, rv, ⟨o, ho, hc, n, hd⟩, _⟩ := I.tuple hs
      obtain ⟨as, hr⟩ := Dp.readsAll I ds _ its ha rv
      exact ⟨_, Reads.tuple ho hc hd hr⟩
  | .dict _, _, _, h, _ => by cases h
theorem Dp.readsAll (I : Inv X pins σ H s) : ∀ (ds : List PyData) (vs : List V) (us : List Value), DpAll X.K H vs ds → Vals vs us → ∃ as, ReadsAll s.heap us ds as
  | [], _, _, h, r => by
    cases h
    cases r
    exact ⟨_, ReadsAll.nil⟩
  | d :: ds, _, _, h, r => by
    cases h with
    | cons h1 h2 =>
      cases r with
      | cons r1 r2 =>
        obtain ⟨as, q1⟩ := Dp.reads I d _ _ h1 r1
        obtain ⟨bs, q2⟩ := Dp.readsAll I ds _ _ h2 r2
        exact ⟨_, ReadsAll.cons q1 q2⟩
end
end
section
variable {X : Cx}
end
end L2

namespace L2
open PySem PySem.Spec PyProof.Rows
abbrev CellAt (h : Heap) (c : Addr) (v : Option Value) : Prop := h.IsCell c v
def relS (scope sc : Scope) : Scope :=
  { scope with names := scope.names.map fun (n, k) => if (k == .free && sc.kind == .function && sc.names.lookup n == some .cell) then (n, .cell) else (n, k) }

def cloFrom (cells : List (Str × Addr)) : List (Str × NameKind) → List (Str × Addr) → List (Str × Addr)
  | [], acc => acc
  | (n, k) :: r, acc => if k == .free then cloFrom cells r ((n, (cells.lookup n).getD 0) :: acc) else cloFrom cells r acc

theorem closure_loop (env : Env) (f : Str × NameKind → List (Str × Addr) → Sem (ForInStep (List (Str × Addr))))
    (hf : ∀ n k c, f (n, k) c = if k == .free then (do let a ← cellOf env n; pure (.yield ((n, a) :: c))) else pure (.yield c)) :
    ∀ (names : List (Str × NameKind)) (acc : List (Str × Addr)), (∀ y ∈ names, y.2 = .free → ∃ c, env.cells.lookup y.1 = some c) → forIn names acc f = pure (cloFrom env.cells names acc)
  | [], acc, _ => by rw [List.forIn_nil]; rfl
  | (n, k) :: r, acc, h => by
    rw [List.forIn_cons, hf]
    have ih := fun acc => closure_loop env f hf r acc fun y hy => h y (List.mem_cons_of_mem _ hy)
    unfold cloFrom
    by_cases hk : (k == NameKind.free) = true
    · rw [if_pos hk, if_pos hk]
      obtain ⟨c, hc⟩ := h (n, k) List.mem_cons_self (by simpa using hk)
      have e : cellOf env n = pure c := by unfold cellOf; rw [hc]
      rw [e]
      have e2 : (env.cells.lookup n).getD 0 = c := by rw [hc]; rfl
      rw [e2]
      exact ih _
    · rw [if_neg hk, if_neg hk]
      exact ih _
theorem closure_ok {scope : Scope} {env : Env} (h : ∀ y ∈ scope.names, y.2 = .free → ∃ c, env.cells.lookup y.1 = some c) : closureFor scope env = pure (cloFrom env.cells scope.names []) := by
  simp only [closureFor]
  rw [closure_loop env _ (fun n k c => rfl) scope.names [] h]
  rfl

theorem mem_lookup {α : Type} : ∀ {l : List (Str × α)} {n : Str} {c : α}, (n, c) ∈ l → ∃ c', l.lookup n = some c'
  | (k, v) :: r, n, c, h => by
    rw [List.lookup_cons]
    cases hb : n == k with
    | true => exact ⟨_, rfl⟩
    | false =>
      rcases List.mem_cons.mp h with e | h
      · cases e; simp at hb
      · exact mem_lookup h

theorem cloFrom_mem {cells : List (Str × Addr)} : ∀ {names : List (Str × NameKind)} {acc : List (Str × Addr)} {n : Str} {c : Addr}, (n, c) ∈ cloFrom cells names acc → (n, c) ∈ acc ∨ ((n, .free) ∈ names ∧ c = (cells.lookup n).getD 0)
  | [], _, _, _, h => .inl h
  | (m, k) :: r, acc, n, c, h => by
    unfold cloFrom at h
    split at h
    · rename_i hk
      have hk : k = .free := by simpa using hk
      rcases cloFrom_mem h with h | ⟨h1, h2⟩
      · rcases List.mem_cons.mp h with e | h
        · cases e; exact .inr ⟨hk ▸ List.mem_cons_self, rfl⟩
        · exact .inl h
      · exact .inr ⟨List.mem_cons_of_mem _ h1, h2⟩
    · rcases cloFrom_mem h with h | ⟨h1, h2⟩
      · exact .inl h
      · exact .inr ⟨List.mem_cons_of_mem _ h1, h2⟩
theorem cloFrom_acc {cells : List (Str × Addr)} : ∀ {names : List (Str × NameKind)} {acc : List (Str × Addr)} {p : Str × Addr}, p ∈ acc → p ∈ cloFrom cells names acc
  | [], _, _, h => h
  | (m, k) :: r, acc, p, h => by
    unfold cloFrom
    split
    · exact cloFrom_acc (List.mem_cons_of_mem _ h)
    · exact cloFrom_acc h
theorem cloFrom_has {cells : List (Str × Addr)} : ∀ {names : List (Str × NameKind)} {acc : List (Str × Addr)} {n : Str}, (n, .free) ∈ names → (n, (cells.lookup n).getD 0) ∈ cloFrom cells names acc
  | (m, k) :: r, acc, n, h => by
    unfold cloFrom
    rcases List.mem_cons.mp h with e | h
    · cases e
      exact cloFrom_acc List.mem_cons_self
    · split
      · exact cloFrom_has h
      · exact cloFrom_has h

theorem cells_mem : ∀ {names : List (Str × NameKind)} {h : Heap} {acc : List (Str × Addr)} {x : Str} {c : Addr}, (x, c) ∈ cellsFrom h.objs.size names acc →
    (x, c) ∈ acc ∨ ((x, .cell) ∈ names ∧ h.objs.size ≤ c ∧ CellAt (pushCells h names) c none)
  | [], _, _, _, _, h => .inl h
  | (n, k) :: r, h, acc, x, c, hm => by
    unfold cellsFrom at hm
    unfold pushCells
    split at hm
    · rename_i hk
      rw [if_pos hk]
      have hk : k = .cell := by simpa using hk
      rw [← Heap.size_push h { cls := .type "cell", data := .cell none }] at hm
      rcases cells_mem hm with hm | ⟨h1, h2, h3⟩
      · rcases List.mem_cons.mp hm with e | hm
        · cases e
          exact .inr ⟨hk ▸ List.mem_cons_self, Nat.le_refl _, _, pushCells_keeps r _ _ _ (Heap.get?_push_size _ rfl), rfl⟩
        · exact .inl hm
      · rw [Heap.size_push] at h2
        exact .inr ⟨List.mem_cons_of_mem _ h1, Nat.le_of_succ_le h2, h3⟩
    · rename_i hk
      rw [if_neg hk]
      rcases cells_mem hm with hm | ⟨h1, h2, h3⟩
      · exact .inl hm
      · exact .inr ⟨List.mem_cons_of_mem _ h1, h2, h3⟩
theorem cells_acc : ∀ {names : List (Str × NameKind)} {n : Nat} {acc : List (Str × Addr)} {p : Str × Addr}, p ∈ acc → p ∈ cellsFrom n names acc
  | [], _, _, _, h => h
  | (m, k) :: r, n, acc, p, h => by
    unfold cellsFrom
    split
    · exact cells_acc (List.mem_cons_of_mem _ h)
    · exact cells_acc h
theorem cells_has : ∀ {names : List (Str × NameKind)} {n : Nat} {acc : List (Str × Addr)} {x : Str}, (x, .cell) ∈ names → ∃ c, (x, c) ∈ cellsFrom n names acc
  | (m, k) :: r, n, acc, x, h => by
    unfold cellsFrom
    rcases List.mem_cons.mp h with e | h
    · cases e
      exact ⟨n, cells_acc List.mem_cons_self⟩
    · split
      · exact cells_has h
      · exact cells_has h
theorem cells_inj : ∀ {names : List (Str × NameKind)} {h : Heap} {acc : List (Str × Addr)} {x y : Str} {c : Addr}, (∀ p ∈ acc, p.2 < h.objs.size) → (∀ x y c, (x, c) ∈ acc → (y, c) ∈ acc → x = y) →
    (x, c) ∈ cellsFrom h.objs.size names acc → (y, c) ∈ cellsFrom h.objs.size names acc → x = y
  | [], _, _, _, _, _, _, hi, h1, h2 => hi _ _ _ h1 h2
  | (n, k) :: r, h, acc, x, y, c, hl, hi, h1, h2 => by
    unfold cellsFrom at h1 h2
    split at h1
    · rename_i hk
      rw [if_pos hk] at h2
      rw [← Heap.size_push h { cls := .type "cell", data := .cell none }] at h1 h2
      refine cells_inj (h := h.push _) (fun p hp => ?_) (fun x y c a b => ?_) h1 h2
      · rw [Heap.size_push]
        rcases List.mem_cons.mp hp with rfl | hp
        · exact Nat.lt_succ_self _
        · exact Nat.lt_succ_of_lt (hl p hp)
      · rcases List.mem_cons.mp a with e | a <;> rcases List.mem_cons.mp b with e' | b
        · cases e; cases e'; rfl
        · cases e; exact absurd (hl _ b) (Nat.lt_irrefl _)
        · cases e'; exact absurd (hl _ a) (Nat.lt_irrefl _)
        · exact hi _ _ _ a b
    · rename_i hk
      rw [if_neg hk] at h2
      exact cells_inj hl hi h1 h2

theorem newEnv_comp {M : Model} {A : Around} {E : Value → Shared → Prop} {s : Shared} {scope : Scope} {globals : Addr} {closure : List (Str × Addr)} {qual : Str} {func : Option Addr} {code : Value} {around : Env} {builtins : Addr} {Q : Env → Shared → Prop}
    (h : Q (newEnv scope s.heap.objs.size globals (cellsFrom (s.heap.objs.size + 1) scope.names closure) qual func code (some around) builtins)
      { s with heap := pushCells (s.heap.push { cls := .type "dict", data := .dict #[] }) scope.names }) :
    wpAny M A (newFunctionEnv scope globals closure [] qual func code (some around) builtins) Q E s := by
  simp only [newFunctionEnv, Option.isSome_some, if_true]
  refine wpAny_bind (wpAny_alloc ?_)
  refine wpAny_bind (wpAny_layCells _ (fun n k c => rfl) scope.names closure _ _ ?_)
  rw [show ({ s with heap := s.heap.push { cls := .type "dict", data := .dict #[] } } : Shared).heap.objs.size = s.heap.objs.size + 1 from Heap.size_push ..]
  rw [List.forIn_nil]
  exact wpAny_bind (wpAny_pure (wpAny_pure h))

/-- every name of the written scope, in the scope that runs -/
theorem lookup_relS {sc : Scope} : ∀ {names : List (Str × NameKind)} {x : Str} {k : NameKind},
    (names.map fun (n, k) => if (k == NameKind.free && sc.kind == .function && sc.names.lookup n == some .cell) then (n, NameKind.cell) else (n, k)).lookup x = some k →
    ∃ k', names.lookup x = some k' ∧ (k = k' ∨ (k' = .free ∧ k = .cell))
  | [], _, _, h => by simp at h
  | (n, k₀) :: r, x, k, h => by
    have ih := @lookup_relS sc r x k
    have h' : List.lookup x ((if (k₀ == NameKind.free && sc.kind == .function && sc.names.lookup n == some .cell) = true then (n, NameKind.cell) else (n, k₀)) :: (r.map _)) = some k := h
    cases hx : x == n with
    | true =>
      simp only [List.lookup_cons, hx]
      by_cases hc : (k₀ == NameKind.free && sc.kind == .function && sc.names.lookup n == some .cell) = true
      · rw [if_pos hc] at h'
        simp only [List.lookup_cons, hx] at h'
        cases h'
        simp only [Bool.and_eq_true, beq_iff_eq] at hc
        exact ⟨k₀, rfl, .inr ⟨hc.1.1, rfl⟩⟩
      · rw [if_neg hc] at h'
        simp only [List.lookup_cons, hx] at h'
        cases h'
        exact ⟨_, rfl, .inl rfl⟩
    | false =>
      simp only [List.lookup_cons, hx]
      by_cases hc : (k₀ == NameKind.free && sc.kind == .function && sc.names.lookup n == some .cell) = true
      · rw [if_pos hc] at h'
        simp only [List.lookup_cons, hx] at h'
        exact ih h'
      · rw [if_neg hc] at h'
        simp only [List.lookup_cons, hx] at h'
        exact ih h'
/-- the names of a comprehension's block: its own (with their places in N), or captured -/
structure BlkOk (N : List Str) (sc scope : Scope) (own : List (Str × Nat)) : Prop where
  kind : scope.kind = .function
  uniq : ∀ y ∈ scope.names, scope.names.lookup y.1 = some y.2
  ix : ∀ p ∈ own, N[p.2]? = some p.1
  free : ∀ y ∈ scope.names, y.2 = .free → sc.names.lookup y.1 = some .cell ∨ sc.names.lookup y.1 = some .free
  own : ∀ y ∈ scope.names, y.2 = .local ∨ y.2 = .cell → y.1 ∈ own.map (·.1) ∨ y.1 ∉ N
/-- the slots of the block's own names forgotten -/
def wipe (σ : St) : List Nat → St
  | [] => σ
  | v :: vs => (wipe σ vs).set v none
theorem wipe_length (σ : St) : ∀ vs : List Nat, (wipe σ vs).length = σ.length
  | [] => rfl
  | v :: vs => by unfold wipe; rw [List.length_set, wipe_length σ vs]
theorem wipe_some {σ : St} {i : Nat} {x : V} : ∀ {vs : List Nat}, (wipe σ vs)[i]? = some (some x) → σ[i]? = some (some x) ∧ i ∉ vs
  | [], h => ⟨h, by simp⟩
  | v :: vs, h => by
    unfold wipe at h
    by_cases hi : v = i
    · subst hi
      by_cases hv : v < (wipe σ vs).length
      · rw [List.getElem?_set_self hv] at h; cases h
      · rw [List.getElem?_eq_none (by simpa using hv)] at h; cases h
    · rw [List.getElem?_set_ne hi] at h
      obtain ⟨h1, h2⟩ := wipe_some h
      exact ⟨h1, by simp only [List.mem_cons, not_or]; exact ⟨fun e => hi e.symm, h2⟩⟩

/-- the context of a block that starts at s, its iterator's objects at fp -/
abbrev Cx.blk (X : Cx) (s : Shared) (H : Hp) (scope : Scope) (cenv : Env) (fp : List Addr) : Cx := { X with s_0 := s, H_0 := H, env := cenv, outer := X.stack, ex := fp, fn := fun x => scope.names.lookup x == some .cell, pn := [], xe := fun _ _ => False }
section
variable {X : Cx} {pins : List (Addr × Obj)} {σ : St} {H : Hp} {s : Shared}
theorem block_start {scope : Scope} {own : List (Str × Nat)} {fp : List Addr} (I : Inv X pins σ H s) (ok : BlkOk X.N X.env.scope scope own) (hN : X.N.Nodup) (hfp : ∀ b ∈ fp, FpOk X pins H b ∧ b < s.heap.objs.size) :
    Inv (X.blk s H scope (compEnvC scope (cellsFrom (s.heap.objs.size + 1) scope.names (cloFrom X.env.cells scope.names [])) s.heap.objs.size X.env) fp) [] (wipe σ (own.map (·.2))) H { s with heap := pushCells (s.heap.push { cls := .type "dict", data := .dict #[] }) scope.names } := by
  have hfree : ∀ y ∈ scope.names, y.2 = .free → ∃ c, X.env.cells.lookup y.1 = some c := fun y hy e => by
    rcases ok.free y hy e with k | k
    · exact I.ok.has _ (.inl k)
    · exact I.ok.has _ (.inr k)
  generalize hcenv : compEnvC scope (cellsFrom (s.heap.objs.size + 1) scope.names (cloFrom X.env.cells scope.names [])) s.heap.objs.size X.env = cenv
  have kp : ∀ b o, s.heap.get? b = some o → (pushCells (s.heap.push { cls := .type "dict", data := .dict #[] }) scope.names).get? b = some o := fun b o e => pushCells_keeps _ _ _ _ (Heap.get?_push_of_some _ e)
  have hL : cenv.locals = s.heap.objs.size := by rw [← hcenv]; rfl
  have hcl : cenv.cells = cellsFrom (s.heap.objs.size + 1) scope.names (cloFrom X.env.cells scope.names []) := by rw [← hcenv]; rfl
  have hsc : cenv.scope = relS scope X.env.scope := by rw [← hcenv]; rfl
  rw [← Heap.size_push s.heap { cls := .type "dict", data := .dict #[] }] at hcl
  have cm : ∀ {y c}, (y, c) ∈ cloFrom X.env.cells scope.names [] → X.env.cells.lookup y = some c ∧ c < s.heap.objs.size := fun {y c} hm => by
    rcases cloFrom_mem hm with hm | ⟨h1, rfl⟩
    · cases hm
    · obtain ⟨c, hc⟩ := hfree _ h1 rfl
      rw [hc]
      obtain ⟨w, z⟩ := I.cell _ _ hc
      exact ⟨rfl, z.lt⟩
  have mem : ∀ {y c}, cenv.cells.lookup y = some c → (X.env.cells.lookup y = some c ∧ c < s.heap.objs.size) ∨ (s.heap.objs.size + 1 ≤ c ∧ CellAt (pushCells (s.heap.push { cls := .type "dict", data := .dict #[] }) scope.names) c none) := fun {y c} e => by
    rw [hcl] at e
    rcases cells_mem (PySem.mem_of_lookup e) with hm | ⟨_, h2, h3⟩
    · exact .inl (cm hm)
    · rw [Heap.size_push] at h2; exact .inr ⟨h2, h3⟩
  have look : ∀ {y}, scope.names.lookup y = some .free → ∃ c, cenv.cells.lookup y = some c ∧ X.env.cells.lookup y = some c := fun {y} hl => by
    have hy : (y, NameKind.free) ∈ scope.names := PySem.mem_of_lookup hl
    obtain ⟨c', e'⟩ := mem_lookup (cells_acc (names := scope.names) (n := (s.heap.push { cls := .type "dict", data := .dict #[] }).objs.size) (cloFrom_has (cells := X.env.cells) (acc := []) hy))
    rw [← hcl] at e'
    refine ⟨c', e', ?_⟩
    rw [hcl] at e'
    rcases cells_mem (PySem.mem_of_lookup e') with hm | ⟨h1, _, _⟩
    · exact (cm hm).1
    · have := ok.uniq _ h1
      rw [hl] at this; cases this
  have okB : (X.blk s H scope cenv fp).Ok := by
    refine ⟨I.ok.mod, by show cenv.scope.kind = _; rw [hsc]; exact ok.kind, by show cenv.globals = _; rw [← hcenv]; exact I.ok.glob, by show cenv.builtins = _; rw [← hcenv]; exact I.ok.blt, by show s.heap.objs.size ≤ cenv.locals; rw [hL]; exact Nat.le_refl _,
      fun y z c e1 e2 => ?_, fun y hy => ?_, fun y c z e => ?_, I.ok.hd, I.ok.frames, .inl rfl, fun b hb => ⟨?_, fun y c e z => ?_⟩, I.bs, Nat.le_trans I.ok.bsz I.sz, fun b o e hb => ?_, fun b hb z => ?_, I.stack, I.stkFree⟩
    · have e1 : cenv.cells.lookup y = some c := e1
      have e2 : cenv.cells.lookup z = some c := e2
      rw [hcl] at e1 e2
      refine cells_inj (fun p hp => ?_) (fun y z c a b => I.ok.inj y z c (cm a).1 (cm b).1) (PySem.mem_of_lookup e1) (PySem.mem_of_lookup e2)
      rw [Heap.size_push]
      exact Nat.lt_succ_of_lt (cm (y := p.1) (c := p.2) hp).2
    · show ∃ c, cenv.cells.lookup y = some c
      have key : ∀ k, cenv.kindOf y = some k → (k = .cell ∨ k = .free) → ∃ c, cenv.cells.lookup y = some c := fun k hk hk' => by
        unfold Env.kindOf at hk
        rw [hsc] at hk
        obtain ⟨k', e, r⟩ := lookup_relS hk
        have : k' = .cell ∨ k' = .free := by
          rcases r with rfl | ⟨rfl, _⟩
          · exact hk'
          · exact .inr rfl
        rcases this with rfl | rfl
        · obtain ⟨c, hm⟩ := cells_has (n := (s.heap.push { cls := .type "dict", data := .dict #[] }).objs.size) (acc := cloFrom X.env.cells scope.names []) (PySem.mem_of_lookup e)
          obtain ⟨c', e'⟩ := mem_lookup hm
          exact ⟨c', by rw [hcl]; exact e'⟩
        · obtain ⟨c, h1, _⟩ := look e
          exact ⟨c, h1⟩
      rcases hy with hy | hy
      · exact key _ hy (.inl rfl)
      · exact key _ hy (.inr rfl)
    · have z : (scope.names.lookup y == some NameKind.cell) = true := z
      have z : scope.names.lookup y = some .cell := by simpa using z
      have e : cenv.cells.lookup y = some c := e
      rw [hcl] at e
      rcases cells_mem (PySem.mem_of_lookup e) with hm | ⟨_, h2, _⟩
      · rcases cloFrom_mem hm with hm | ⟨h1, _⟩
        · cases hm
        · have q := ok.uniq _ h1
          rw [z] at q; cases q
      · rw [Heap.size_push] at h2
        exact Nat.le_of_succ_le h2
    · show b ≠ cenv.locals
      rw [hL]; exact Nat.ne_of_lt (hfp b hb).2
    · have e : cenv.cells.lookup y = some c := e
      rcases mem e with ⟨h1, _⟩ | ⟨h1, _⟩
      · exact (hfp b hb).1.2.2.2.2.1 y c h1 z
      · have h2 : s.heap.objs.size + 1 ≤ b := by rw [← z]; exact h1
        exact absurd (Nat.lt_of_lt_of_le (hfp b hb).2 (Nat.le_of_succ_le h2)) (Nat.lt_irrefl _)
    · rcases (hfp b hb).1.2.2.2.1 with z | z
      · exact I.ok.noex b o e z
      · exact absurd (Nat.lt_of_lt_of_le (Heap.lt_size e) (Nat.le_trans I.ok.bsz z)) (Nat.lt_irrefl _)
    · rcases List.mem_cons.mp (I.stkSub b z) with z | z
      · exact (hfp b hb).1.2.1 z
      · exact (hfp b hb).1.2.2.1 z
  refine ⟨okB, rfl, I.bare, Un.kept kp, ⟨fun _ => none, ?_, fun i y av e1 e2 e3 => ?_⟩, fun y c e => ?_, ?_, fun y c e => ?_, fun p hp => ?_, I.hok.kept kp, by rw [wipe_length]; exact I.len⟩
  · show Heap.Ns _ cenv.locals _
    rw [hL]
    exact Heap.Ns.keeps (Heap.Ns.new ..) fun b o e => pushCells_keeps _ _ _ _ e
  · obtain ⟨e2, hne⟩ := wipe_some e2
    have hfr : scope.names.lookup y = some .free ∧ (cenv.kindOf y = some .cell ∨ cenv.kindOf y = some .free) := by
      have key : ∀ k, cenv.scope.names.lookup y = some k → k = .local ∨ k = .cell ∨ k = .free → scope.names.lookup y = some .free ∧ (cenv.kindOf y = some .cell ∨ cenv.kindOf y = some .free) := fun k hk hk' => by
        have hk0 := hk
        rw [hsc] at hk
        obtain ⟨k', e, r⟩ := lookup_relS hk
        have no : ¬ (k' = .local ∨ k' = .cell) := fun hh => by
          rcases ok.own _ (PySem.mem_of_lookup e) hh with e' | e'
          · obtain ⟨p, hp, hpy⟩ := List.mem_map.mp e'
            have e3 := ok.ix p hp
            have : p.1 = y := hpy
            rw [this] at e3
            exact hne (List.mem_map.mpr ⟨p, hp, nodup_ix hN e3 e1⟩)
          · exact e' (List.mem_of_getElem? e1)
        rcases r with rfl | ⟨rfl, rfl⟩
        · rcases hk' with rfl | rfl | rfl
          · exact absurd (.inl rfl) no
          · exact absurd (.inr rfl) no
          · exact ⟨e, .inr hk0⟩
        · exact ⟨e, .inl hk0⟩
      have e3 : Vis cenv.scope y := e3
      rcases e3 with e3 | e3 | e3
      · exact key _ e3 (.inl rfl)
      · exact key _ e3 (.inr (.inl rfl))
      · exact key _ e3 (.inr (.inr rfl))
    obtain ⟨m, hn, hl⟩ := I.loc
    have hvis : Vis X.env.scope y := (ok.free _ (PySem.mem_of_lookup hfr.1) rfl).elim (fun k => .inr (.inl k)) (fun k => .inr (.inr k))
    obtain ⟨w, r, q⟩ := hl i y av e1 e2 hvis
    refine ⟨w, r, .inr ⟨hfr.2, ?_⟩⟩
    obtain ⟨c, h1, h2⟩ := look hfr.1
    rcases q with ⟨k, _⟩ | ⟨_, c', e', z⟩
    · have k : X.env.scope.names.lookup y = some .local := k
      rcases ok.free _ (PySem.mem_of_lookup hfr.1) rfl with k' | k' <;> rw [show X.env.scope.names.lookup y = _ from k'] at k <;> cases k
    · rw [h2] at e'; cases e'
      exact ⟨c, h1, z.keeps kp⟩
  · have e : cenv.cells.lookup y = some c := e
    rcases mem e with ⟨h1, _⟩ | ⟨_, z⟩
    · obtain ⟨w, z⟩ := I.cell y c h1
      exact ⟨w, z.keeps kp⟩
    · exact ⟨_, z⟩
  · show H cenv.locals = none
    rw [hL]; exact I.hok.fresh (Nat.le_refl _)
  · have e : cenv.cells.lookup y = some c := e
    rcases mem e with ⟨h1, _⟩ | ⟨h1, _⟩
    · exact I.freeC y c h1
    · exact I.hok.fresh (Nat.le_of_succ_le h1)
  · exact absurd (show p ∈ ([] : List (Addr × Obj)) ++ [] from hp) (by simp)

/-- an item appended to a tracked list -/
theorem app_ok {E : Value → Shared → Prop} {D : Addr} {xs : List V} {y : V} {v : Value} {Q : Value → Shared → Prop} (I : Inv X pins σ H s) (hD : H D = some (.lst xs)) (hz : xs.length < sizeLine) (r : RelV y v)
    (h : ∀ s', Inv X pins σ (upd H D (.lst (xs ++ [y]))) s' → Q .none s') : wpAny (model X.prog X.w) X.A (call (.builtin "list.append") [.ref D, v]) Q E s := by
  obtain ⟨hz', its, n, ri, e⟩ := I.hok D _ hD
  have hl := ri.length
  refine append_at (hsz := by rw [List.size_toArray]; omega) e fun h' sb ho' => ?_
  refine h { s with heap := h' } (I.write (t' := s.toks) (by rw [hD]; trivial) (.inl rfl) (fun b u hb q => (sb.2 b hb).trans q) ⟨_, ho'⟩ ⟨by rw [List.length_append]; exact hz, its ++ [v], n + 1, ri.append (.cons r .nil), ?_⟩)
  rw [ho']
  simp

/-- a clause's tests -/
def PTs (X : Cx) (ifs : List Expr) (t : TT) : Prop :=
  ∀ (pins : List (Addr × Obj)) (s : Shared) (σ : St) (H : Hp) (Q : Bool → Hp → Prop), Inv X pins σ H s → t σ H Q →
    wpAny (model X.prog X.w) X.A (forIn ifs true fun c r => if r = true then do let ok ← isTrue c X.env (eval c X.env); pure (ForInStep.yield ok) else pure (ForInStep.yield r)) (TP X pins σ Q) X.xe s
def tYes : TT := fun _ H Q => Q true H
theorem pts_nil : PTs X [] tYes := fun _ _ _ H _ I h => wpAny_tests_nil ⟨H, I, h⟩
end

theorem thnF {α : Type} {t : Sem α} {Q Q' : α → Shared → Prop} {M : Model} {A : Around} {E : Value → Shared → Prop} {s : Shared} (h : wpAny M A t Q (fun _ _ => False) s) (hQ : ∀ a s, Q a s → Q' a s) : wpAny M A t Q' E s := wpAny_mono h hQ fun _ _ z => False.elim z

/-- the loop of a list comprehension's block, the target of any form (codeAny_compLoop_tests asks a target that no tuple goes to; statement and proof follow it, PyProof/CompMap.lean:41-61, with the step letOwnedTupleGo kept) -/
theorem compLoop_any {prog : Program} {w : World} {A : Around} {R : Result → Shared → Prop} {s : Shared} {elt target iter : Expr} {ifs : List Expr} {scope : Scope} {pos : Pos} {it acc : Value} {env : Env} (I : Nat → Shared → Prop)
    (turn : ∀ n s, I n s → wpAny (model prog w) A (pyNext it) (fun r s₁ => match r with
      | none => R (.ok .next) s₁
      | some v => wpAny (model prog w) A (letOwnedTupleGo target it v) (fun _ s₁' => wpAny (model prog w) A (assign target env v) (fun _ s₂ =>
          wpAny (model prog w) A (forIn ifs true fun c r => if r = true then do let ok ← isTrue c env (eval c env); pure (ForInStep.yield ok) else pure (ForInStep.yield r)) (fun ok s₃ =>
            if ok = true then wpAny (model prog w) A (eval elt env) (fun x s₄ =>
              wpAny (model prog w) A (call (.builtin "list.append") [acc, x]) (fun _ s₅ => ∃ m, m < n ∧ I m s₅) (notedBy (model prog w) A env fun e s' => R (.error e) s') s₄) (notedBy (model prog w) A env fun e s' => R (.error e) s') s₃
            else ∃ m, m < n ∧ I m s₃) (notedBy (model prog w) A env fun e s' => R (.error e) s') s₂) (notedBy (model prog w) A env fun e s' => R (.error e) s') s₁') (notedBy (model prog w) A env fun e s' => R (.error e) s') s₁) (notedBy (model prog w) A env fun e s' => R (.error e) s') s)
    (n : Nat) (h : I n s) :
    codeAny (model prog w) A (.compLoop (.ListComp elt [⟨target, iter, ifs, 0⟩] scope pos) 0 it acc env) R s := by
  refine codeAny_loop rfl I (fun n s hI => ?_) n h
  show wpAny _ A ((compTurn (.ListComp elt [⟨target, iter, ifs, 0⟩] scope pos) 0 it acc env).onRaise (fun x => do noteFrame x env; theTreesLotGoes x)) _ _ s
  refine wpAny_noted ?_
  rw [compTurn_list]
  refine wpAny_bind (wpAny_standAt (wpAny_bind (wpAny_mono (turn n s hI) (fun r s₁ h₁ => ?_) fun _ _ h' => h')))
  cases r with
  | none => exact wpAny_pure h₁
  | some v =>
    refine wpAny_bind (wpAny_mono h₁ (fun _ s₁' h₁' => ?_) fun _ _ h' => h')
    refine wpAny_bind (wpAny_mono h₁' (fun _ s₂ h₂ => wpAny_bind (wpAny_mono h₂ (fun ok s₃ h₃ => ?_) fun _ _ h' => h')) fun _ _ h' => h')
    cases ok with
    | false => exact wpAny_pure ⟨rfl, h₃⟩
    | true =>
      exact wpAny_bind (wpAny_bind (wpAny_mono h₃ (fun x s₄ h₄ => wpAny_bind (wpAny_mono h₄ (fun _ s₅ h₅ => wpAny_pure (wpAny_pure ⟨rfl, h₅⟩)) fun _ _ h' => h')) fun _ _ h' => h'))

section
variable {X : Cx}
/-- [elt for target in iter if ..]: D the new list; W by the turn and a measure, Nx what a turn is to reach -/
def tLc (wi : TI) (g : TG) (tt : TT) (te : TE) (vs : List Nat) : TE := fun σ H Q => wi σ H fun J H1 => ∀ D, H1 D = none → ∃ W : Nat → Nat → Hp → Prop, (∃ m, W 0 m (upd H1 D (.lst []))) ∧ ∀ i m H, W i m H →
  (J.stop i H ∧ Q (.ref D) H) ∨ (J.go i H ∧ ∃ Nx : Hp → Prop, (∀ H', Nx H' → ∃ m', m' < m ∧ W (i + 1) m' H') ∧ ∀ x H', J.yld i H x H' → g x (wipe σ vs) H' fun σ2 H2 => wipe σ2 vs = wipe σ vs ∧ tt σ2 H2 fun b H3 =>
    if b = true then te σ2 H3 fun y H4 => ∃ acc, H4 D = some (.lst acc) ∧ acc.length < sizeLine ∧ Nx (upd H4 D (.lst (acc ++ [y]))) else Nx H3)
theorem lc_core {pins : List (Addr × Obj)} {s : Shared} {σ : St} {H : Hp} {Q : VK} {elt tg iter : Expr} {ifs : List Expr} {scope : Scope} {own : List (Str × Nat)} {pos pos' : Pos} {wi : TI} {g : TG} {tt : TT} {te : TE} {use : Option (Value → Sem Unit)} {Qf : Value → Shared → Prop}
    (hc : X.calm = true) (hN : X.N.Nodup) (I : Inv X pins σ H s) (hi : PI X tg iter wi) (ok : BlkOk X.N X.env.scope scope own)
    (hg : ∀ (s : Shared) (H : Hp) (C : Addr) (cl : List (Str × Addr)) (fp : List Addr), PG (X.blk s H scope (compEnvC scope cl C X.env) fp) tg g) (ht : ∀ (s : Shared) (H : Hp) (C : Addr) (cl : List (Str × Addr)) (fp : List Addr), PTs (X.blk s H scope (compEnvC scope cl C X.env) fp) ifs tt)
    (he : ∀ (s : Shared) (H : Hp) (C : Addr) (cl : List (Str × Addr)) (fp : List Addr), PE (X.blk s H scope (compEnvC scope cl C X.env) fp) elt te) (hs : ∀ x, foldedSetIterable iter X.env x = pure x)
    (h : tLc wi g tt te (own.map (·.2)) σ H Q)
    (hRR : ∀ D C s' m H', Inv X pins σ H' s' → Q (.ref D) H' → s'.heap.Ns C m → FpOk X pins H' C → compPost (model X.prog X.w) X.A X.xe use Qf (.ref D) C (.ok .next) s') :
    wpAny (model X.prog X.w) X.A (comprehension (.ListComp elt [⟨tg, iter, ifs, 0⟩] scope pos) scope X.env pos' (newList []) false (eval iter X.env) use) Qf X.xe s := by
  have hfree : ∀ y ∈ scope.names, y.2 = .free → ∃ c, X.env.cells.lookup y.1 = some c := fun y hy e => by
    rcases ok.free y hy e with k | k
    · exact I.ok.has _ (.inl k)
    · exact I.ok.has _ (.inr k)
  refine wpAny_comprehension_free (use := use) rfl hs (closure_ok hfree) ok.kind (fun y hy e => by rw [ok.uniq y hy, e])
    (thn (hi pins s σ H _ I h) fun xv s1 hx => thn hx fun itv s2 h2 => ?_)
  obtain ⟨it, fp, tn, J, H2, e, I2, T, st2, f2, q⟩ := h2
  subst e
  refine wpAny_newObj_type (newEnv_comp ?_) (by show 0 ≤ sizeLine; decide)
  generalize hD : s2.heap.objs.size = D
  have hDn : H2 D = none := I2.hok.fresh (Nat.le_of_eq hD)
  obtain ⟨W, ⟨m0, w0⟩, turn⟩ := q D hDn
  -- the new list
  generalize hs3 : ({ s2 with heap := s2.heap.push { cls := .type "list", data := .seq ([] : List Value).toArray } } : Shared) = s3
  have I3 : Inv X pins σ (upd H2 D (.lst [])) s3 := by
    rw [← hs3]
    refine I2.laid (t' := s2.toks) (fun b o e => Heap.get?_push_of_some _ e) (Nat.le_of_eq hD) ⟨Nat.zero_le _, [], 0, .nil, ?_⟩
    rw [← hD]
    exact Heap.get?_push_size _ rfl
  have h3 : s3.heap = s2.heap.push { cls := .type "list", data := .seq ([] : List Value).toArray } := by rw [← hs3]
  have sz : ∀ b ∈ fp, b < s2.heap.objs.size := fun b hb => by
    obtain ⟨o, e, _⟩ := T.obj _ _ st2 b hb
    exact Heap.lt_size e
  have f3 : ∀ b ∈ fp, FpOk X pins (upd H2 D (.lst [])) b ∧ b < s3.heap.objs.size := fun b hb => by
    have hlt := sz b hb
    refine ⟨⟨?_, (f2 b hb).2⟩, by rw [h3, Heap.size_push]; exact Nat.lt_succ_of_lt hlt⟩
    rw [upd_ne (by rw [← hD]; exact Nat.ne_of_lt hlt)]
    exact (f2 b hb).1
  have st3 : tn 0 s3.heap := T.keep _ _ _ st2 fun b _ o e => by rw [h3]; exact Heap.get?_push_of_some _ e
  have I4 := block_start I3 ok hN f3
  have pg := hg s3 (upd H2 D (.lst [])) s3.heap.objs.size (cellsFrom (s3.heap.objs.size + 1) scope.names (cloFrom X.env.cells scope.names [])) fp
  have pt := ht s3 (upd H2 D (.lst [])) s3.heap.objs.size (cellsFrom (s3.heap.objs.size + 1) scope.names (cloFrom X.env.cells scope.names [])) fp
  have pe := he s3 (upd H2 D (.lst [])) s3.heap.objs.size (cellsFrom (s3.heap.objs.size + 1) scope.names (cloFrom X.env.cells scope.names [])) fp
  show codeAny _ _ (.compStart (.ListComp elt [⟨tg, iter, ifs, 0⟩] scope pos) 0 (.ref it) (.ref D) (compEnvC scope (cellsFrom (s3.heap.objs.size + 1) scope.names (cloFrom X.env.cells scope.names [])) s3.heap.objs.size X.env)) (compPost (model X.prog X.w) X.A X.xe use Qf (.ref D) s3.heap.objs.size) { s3 with heap := pushCells (s3.heap.push { cls := .type "dict", data := .dict #[] }) scope.names }
  have nfp : ∀ b ∈ fp, (upd H2 D (.lst [])) b = none := fun b hb => (f3 b hb).1.1
  generalize hce : compEnvC scope (cellsFrom (s3.heap.objs.size + 1) scope.names (cloFrom X.env.cells scope.names [])) s3.heap.objs.size X.env = ce at I4 pg pt pe ⊢
  have cL : ce.locals = s3.heap.objs.size := by subst hce; rfl
  generalize hH3 : upd H2 D (.lst []) = H3 at I3 I4 pg pt pe w0 nfp f3
  generalize hs4 : ({ s3 with heap := pushCells (s3.heap.push { cls := .type "dict", data := .dict #[] }) scope.names } : Shared) = s4 at I4 ⊢
  have st4 : tn 0 s4.heap := T.keep _ _ _ st3 fun b _ o e => by rw [← hs4]; exact pushCells_keeps _ _ _ _ (Heap.get?_push_of_some _ e)
  have stat : ∀ {σ' : St} {H' : Hp} {s' : Shared}, Inv (X.blk s3 H3 scope ce fp) [] σ' H' s' → (∀ b ∈ fp, H' b = none) → ∀ b ∈ fp, FpOk (X.blk s3 H3 scope ce fp) [] H' b := fun {σ' H' s'} I' hn b hb =>
    ⟨hn b hb, (I'.ok.exf b hb).1, I'.ok.exfs b hb, .inl hb, fun x c e => (I'.ok.exf b hb).2 x c e, fun p hp => absurd (show p ∈ ([] : List (Addr × Obj)) ++ [] from hp) (by simp)⟩
  have loop : codeAny (model X.prog X.w) X.A (.compLoop (.ListComp elt [⟨tg, iter, ifs, 0⟩] scope pos) 0 (.ref it) (.ref D) ce) (compPost (model X.prog X.w) X.A X.xe use Qf (.ref D) s3.heap.objs.size) s4 := by
    refine compLoop_any (fun n s' => ∃ i H', Inv (X.blk s3 H3 scope ce fp) [] (wipe σ (own.map (·.2))) H' s' ∧ tn i s'.heap ∧ (∀ b ∈ fp, H' b = none) ∧ W i n H') ?_ m0 ⟨0, H3, I4, st4, nfp, w0⟩
    rintro n s5 ⟨i, H5, I5, st5, n5, w5⟩
    rcases turn i n H5 w5 with ⟨stop, qq⟩ | ⟨go, Nx, hNx, step⟩
    · have td := T.done (X.blk s3 H3 scope ce fp) rfl rfl rfl hc i [] s5 _ H5 (fun _ _ => False) I5 (stat I5 n5) st5 stop
      refine thnF td fun r s6 ⟨hr, I6⟩ => ?_
      subst hr
      -- back in the def's context
      have I7 : Inv X pins σ H5 s6 := I3.call' (ch := fp) I6.os I6.base I6.hok I6.bare fun b hb => ⟨(f3 b hb).1.2.2.2.1, (f3 b hb).1.2.1, (f3 b hb).1.2.2.2.2.1, (f3 b hb).1.2.2.2.2.2⟩
      have nC : H5 s3.heap.objs.size = none := by
        have z : H5 ce.locals = none := I6.free
        rw [cL] at z
        exact z
      obtain ⟨m, hn, _⟩ := I6.loc
      have hn : s6.heap.Ns ce.locals m := hn
      rw [cL] at hn
      exact hRR D s3.heap.objs.size s6 m H5 I7 qq hn (I3.fpOk (Nat.le_refl _) nC)
    · have ti := T.item (X.blk s3 H3 scope ce fp) rfl rfl rfl hc i [] s5 _ H5 (fun _ _ => False) I5 (stat I5 n5) st5 go
      refine thnF ti fun r s6 ⟨u, hr, h6⟩ => ?_
      subst hr
      refine thnF h6 fun _ s7 ⟨x, H7, I7, r7, y7, st7, n7⟩ => ?_
      have I7' := I7.pinned (stat I7 n7) (T.obj _ _ st7)
      refine thnF (pg _ s7 _ H7 x u _ I7' r7 (step x H7 y7)) fun _ s8 ⟨σ8, H8, I8, hw8, q8⟩ => ?_
      refine thnF (pt _ s8 σ8 H8 _ I8 q8) fun b s9 ⟨H9, I9, q9⟩ => ?_
      -- the turn's end
      have fin : ∀ {s' : Shared} {H' : Hp}, Inv (X.blk s3 H3 scope ce fp) ([] ++ pinsAt fp s7.heap) σ8 H' s' → Nx H' → ∃ m, m < n ∧ ∃ i H', Inv (X.blk s3 H3 scope ce fp) [] (wipe σ (own.map (·.2))) H' s' ∧ tn i s'.heap ∧ (∀ b ∈ fp, H' b = none) ∧ W i m H' := fun {s' H'} I' nx => by
        obtain ⟨m', hm, w'⟩ := hNx H' nx
        have pin' : ∀ b ∈ fp, ∀ o, s7.heap.get? b = some o → s'.heap.get? b = some o ∧ H' b = none := fun b hb o e =>
          let z := I'.pin (b, o) (List.mem_append_right _ (List.mem_append_right _ (mem_pinsAt hb e)))
          ⟨z.1, z.2.1⟩
        have hl : (wipe σ (own.map (·.2))).length = σ8.length := by rw [← hw8, wipe_length]
        refine ⟨m', hm, i + 1, H', (I'.unpinned (pins := [])).weak hl (fun j v e => ?_), T.keep _ _ _ st7 fun b hb o e => (pin' b hb o e).1, fun b hb => ?_, w'⟩
        · rw [← hw8] at e
          exact (wipe_some e).1
        · obtain ⟨o, e, _⟩ := T.obj _ _ st7 b hb
          exact (pin' b hb o e).2
      cases b with
      | false =>
        simp only [Bool.false_eq_true, if_false] at q9 ⊢
        exact fin I9 q9
      | true =>
        simp only [if_true] at q9 ⊢
        refine thnF (pe _ s9 σ8 H9 _ I9 q9) fun z s10 ⟨yv, H10, I10, r10, acc, hD10, hz10, nx⟩ => ?_
        exact app_ok (X := X.blk s3 H3 scope ce fp) I10 hD10 hz10 r10 fun s11 I11 => fin I11 nx
  exact codeAny_compStart_list loop (T.self X.A 0 _ _ _ st4 loop)
/-- as a value -/
theorem pe_lc {elt tg iter : Expr} {ifs : List Expr} {scope : Scope} {own : List (Str × Nat)} {pos : Pos} {wi : TI} {g : TG} {tt : TT} {te : TE} (hc : X.calm = true) (hN : X.N.Nodup) (hi : PI X tg iter wi) (ok : BlkOk X.N X.env.scope scope own)
    (hg : ∀ (s : Shared) (H : Hp) (C : Addr) (cl : List (Str × Addr)) (fp : List Addr), PG (X.blk s H scope (compEnvC scope cl C X.env) fp) tg g) (ht : ∀ (s : Shared) (H : Hp) (C : Addr) (cl : List (Str × Addr)) (fp : List Addr), PTs (X.blk s H scope (compEnvC scope cl C X.env) fp) ifs tt)
    (he : ∀ (s : Shared) (H : Hp) (C : Addr) (cl : List (Str × Addr)) (fp : List Addr), PE (X.blk s H scope (compEnvC scope cl C X.env) fp) elt te) (hs : ∀ x, foldedSetIterable iter X.env x = pure x := by intro _; rfl) :
    PE X (.ListComp elt [⟨tg, iter, ifs, 0⟩] scope pos) (tLc wi g tt te (own.map (·.2))) := by
  intro pins s σ H Q I h
  rw [eval_ListComp]
  refine lc_core hc hN I hi ok hg ht he hs h fun D C s' m H' I' q hn f => ⟨m, hn, fun h'' sb => ?_⟩
  obtain ⟨f0, f1, f2, f3, f4, f5⟩ := f
  exact ⟨.ref D, H', I'.turned (t' := s'.toks) (fun b o hb e => (sb.2 b hb).trans e) f0 f1 f3 f4 f5, rfl, q⟩
/-- name = [..] on one line, the name a local -/
theorem ps_setLc {i : Nat} {y : Str} {py : Pos} {elt tg iter : Expr} {ifs : List Expr} {scope : Scope} {own : List (Str × Nat)} {pos spos : Pos} {wi : TI} {g : TG} {tt : TT} {te : TE} (hc : X.calm = true) (hN : X.N.Nodup) (hy : X.N[i]? = some y) (hyl : X.env.scope.names.lookup y = some .local)
    (hsw : swapsWith (.ListComp elt [⟨tg, iter, ifs, 0⟩] scope pos) (some (.Name y py)) spos.line X.env = pure true) (hi : PI X tg iter wi) (ok : BlkOk X.N X.env.scope scope own)
    (hg : ∀ (s : Shared) (H : Hp) (C : Addr) (cl : List (Str × Addr)) (fp : List Addr), PG (X.blk s H scope (compEnvC scope cl C X.env) fp) tg g) (ht : ∀ (s : Shared) (H : Hp) (C : Addr) (cl : List (Str × Addr)) (fp : List Addr), PTs (X.blk s H scope (compEnvC scope cl C X.env) fp) ifs tt)
    (he : ∀ (s : Shared) (H : Hp) (C : Addr) (cl : List (Str × Addr)) (fp : List Addr), PE (X.blk s H scope (compEnvC scope cl C X.env) fp) elt te) (hs : ∀ x, foldedSetIterable iter X.env x = pure x := by intro _; rfl) :
    PS X (.Assign [.Name y py] (.ListComp elt [⟨tg, iter, ifs, 0⟩] scope pos) spos) (tAsg (tLc wi g tt te (own.map (·.2))) (gName i)) := by
  intro pins s σ H D I h
  rw [exec_Assign_Name_used _ _ _ _ hsw]
  refine wpAny_bind (wpAny_standAt (wpAny_bind ?_))
  show wpAny _ X.A (do let _ ← comprehension (.ListComp elt [⟨tg, iter, ifs, 0⟩] scope pos) scope X.env (firstIterPos [⟨tg, iter, ifs, 0⟩] pos) (newList []) false (eval iter X.env) (some (assign (.Name y py) X.env))) _ _ s
  have h : tLc wi g tt te (own.map (·.2)) σ H (fun x H1 => gName i x σ H1 D.nx) := h
  refine wpAny_bind (thn (lc_core (Qf := fun _ s' => SP X pins D .next s') hc hN I hi ok hg ht he hs h fun L C s' m H' I' q hn f => ?_) fun _ s' hq => wpAny_pure (wpAny_pure hq))
  show wpAny _ _ (assign (.Name y py) X.env (.ref L)) _ _ _
  refine wpAny_assign_Name (store_ok2 (v := V.ref L) I' hN hy (.inl hyl) rfl (fun s2 I2 ⟨a, sb, ha⟩ => ?_) (.inr hyl))
  obtain ⟨f0, f1, f2, f3, f4, f5⟩ := f
  have haC : C ≠ a := by
    rcases ha with z | z
    · rw [z]; exact f1
    · exact fun e => f4 y a z e.symm
  refine ⟨m, hn.sameBut sb haC, fun h3 sb3 => ?_⟩
  exact ⟨_, H', I2.turned (t' := s2.toks) (fun b o hb e => (sb3.2 b hb).trans e) f0 f1 f3 f4 f5, q⟩
theorem sw_true {elt : Expr} {gs : List Comprehension} {scope : Scope} {pos py : Pos} {y : Str} {l : Nat} {env : Env} (hk : env.scope.kind = .function) (hy : env.scope.names.lookup y = some .local) (hl : (py.line == pos.line) = true)
    (ha : (scope.names.any fun (n, k) => n == y && (k == .local || k == .cell)) = false) : swapsWith (.ListComp elt gs scope pos) (some (.Name y py)) l env = pure true := by
  have ky : env.kindOf y = some .local := hy
  have hb : env.blockKind = .function := by unfold Env.blockKind; rw [hk]; rfl
  unfold swapsWith
  simp only [hb, ky, ha, Expr.pos, hl]
  rfl
end

/-! ### the forms one uses -/
/-- over a list that the block leaves as it is -/
theorem lc_list {K : PySem.W.Frag} {a : Addr} {xs : List V} {g : TG} {tt : TT} {te : TE} {vs : List Nat} {σ : St} {H1 : Hp} {D : Addr} {Qd : Hp → Prop} (Pv : Nat → Hp → Prop) (h0 : Pv 0 (upd H1 D (.lst []))) (hl : ∀ i H, i ≤ xs.length → Pv i H → SqL K H a xs)
    (hs : ∀ i x H, xs[i]? = some x → Pv i H → g x (wipe σ vs) H fun σ2 H2 => wipe σ2 vs = wipe σ vs ∧ tt σ2 H2 fun b H3 =>
      if b = true then te σ2 H3 fun y H4 => ∃ acc, H4 D = some (.lst acc) ∧ acc.length < sizeLine ∧ Pv (i + 1) (upd H4 D (.lst (acc ++ [y]))) else Pv (i + 1) H3) (hd : ∀ H, Pv xs.length H → Qd H) :
    ∃ W : Nat → Nat → Hp → Prop, (∃ m, W 0 m (upd H1 D (.lst []))) ∧ ∀ i m H, W i m H →
      ((Itl K a).stop i H ∧ Qd H) ∨ ((Itl K a).go i H ∧ ∃ Nx : Hp → Prop, (∀ H', Nx H' → ∃ m', m' < m ∧ W (i + 1) m' H') ∧ ∀ x H', (Itl K a).yld i H x H' → g x (wipe σ vs) H' fun σ2 H2 => wipe σ2 vs = wipe σ vs ∧ tt σ2 H2 fun b H3 =>
        if b = true then te σ2 H3 fun y H4 => ∃ acc, H4 D = some (.lst acc) ∧ acc.length < sizeLine ∧ Nx (upd H4 D (.lst (acc ++ [y]))) else Nx H3) := by
  refine ⟨fun i m H => m = xs.length - i ∧ i ≤ xs.length ∧ Pv i H, ⟨xs.length, by simp, Nat.zero_le _, h0⟩, ?_⟩
  rintro i m H ⟨rfl, hi, p⟩
  have q := hl i H hi p
  by_cases hlt : i < xs.length
  · refine .inr ⟨⟨xs, xs[i], q, by simp [hlt]⟩, Pv (i + 1), fun H' p' => ⟨xs.length - (i + 1), by omega, rfl, hlt, p'⟩, fun x H' y => ?_⟩
    obtain ⟨e, y⟩ := y
    subst e
    exact hs i x _ (y xs q) p
  · have e : i = xs.length := by omega
    subst e
    exact .inl ⟨⟨xs, q, Nat.le_refl _⟩, hd H p⟩
def blkC (N : List Str) (sc scope : Scope) (own : List (Str × Nat)) : Bool :=
  (match scope.kind with | .function => true | _ => false) && (scope.names.all fun y => decide (scope.names.lookup y.1 = some y.2)) && (own.all fun p => decide (N[p.2]? = some p.1)) &&
    (scope.names.all fun y => match y.2 with
      | .free => (match sc.names.lookup y.1 with | some .cell => true | some .free => true | _ => false)
      | .local => decide (y.1 ∈ own.map (·.1)) || decide (y.1 ∉ N)
      | .cell => decide (y.1 ∈ own.map (·.1)) || decide (y.1 ∉ N)
      | _ => true)
theorem blkOk_by {N : List Str} {sc scope : Scope} {own : List (Str × Nat)} (h : blkC N sc scope own = true) : BlkOk N sc scope own := by
  unfold blkC at h
  simp only [Bool.and_eq_true, List.all_eq_true, decide_eq_true_eq] at h
  obtain ⟨⟨⟨h1, h2⟩, h3⟩, h4⟩ := h
  refine ⟨?_, h2, h3, fun y hy e => ?_, fun y hy e => ?_⟩
  · split at h1
    · assumption
    · cases h1
  · have q := h4 y hy
    simp only [e] at q
    split at q <;> first | exact .inl (by assumption) | exact .inr (by assumption) | cases q
  · have q := h4 y hy
    rcases e with e | e <;> (simp only [e, Bool.or_eq_true, decide_eq_true_eq] at q; exact q)
end L2

namespace L2
open PySem PySem.Spec PyProof.Rows

section
variable {prog : Program} {w : World} {A : Around} {R : Result → Shared → Prop} {s : Shared} {elt t0 i0 t1 i1 : Expr} {ifs0 ifs1 : List Expr} {scope : Scope} {pos : Pos} {it acc : Value} {env : Env}
end

section
variable {X : Cx}
end
end L2

namespace L2
open PySem PySem.Spec PyProof.Rows

/-! ### lists of pairs as tables -/
section
variable {κ : Type} [DecidableEq κ]
def valV (kvs : List (κ × V)) (k : κ) : Option V := (kvs.find? fun kv => decide (kv.1 = k)).map (·.2)
/-- in its place, or at the end -/
def putK (kvs : List (κ × V)) (k : κ) (v : V) : List (κ × V) :=
  if (kvs.any fun kv => decide (kv.1 = k)) = true then kvs.map (fun kv => if kv.1 = k then (kv.1, v) else kv) else kvs ++ [(k, v)]
def dropK (kvs : List (κ × V)) (k : κ) : List (κ × V) := kvs.filter fun kv => decide (kv.1 ≠ k)

theorem valV_pos {p : κ × V} {r : List (κ × V)} {k : κ} (e : p.1 = k) : valV (p :: r) k = some p.2 := by simp [valV, List.find?_cons, e]
theorem valV_neg {p : κ × V} {r : List (κ × V)} {k : κ} (e : ¬ p.1 = k) : valV (p :: r) k = valV r k := by simp [valV, List.find?_cons, e]
theorem valV_any (k : κ) : ∀ kvs : List (κ × V), (kvs.any fun kv => decide (kv.1 = k)) = (valV kvs k).isSome
  | [] => rfl
  | p :: r => by
    rw [List.any_cons]
    by_cases e : p.1 = k
    · simp only [valV_pos e, decide_eq_true e, Bool.true_or, Option.isSome_some]
    · rw [valV_neg e, decide_eq_false e, Bool.false_or]; exact valV_any k r
theorem valV_map (k j : κ) (y : V) : ∀ kvs : List (κ × V), valV (kvs.map fun kv => if kv.1 = k then (kv.1, y) else kv) j = (valV kvs j).map fun x => if j = k then y else x
  | [] => rfl
  | p :: r => by
    have ih := valV_map k j y r
    rw [List.map_cons]
    by_cases h : p.1 = k
    · rw [if_pos h]
      by_cases e : p.1 = j
      · rw [valV_pos (p := (p.1, y)) e, valV_pos e, Option.map_some, if_pos (e.symm.trans h)]
      · rw [valV_neg (p := (p.1, y)) e, valV_neg e, ih]
    · rw [if_neg h]
      by_cases e : p.1 = j
      · rw [valV_pos (p := p) e, valV_pos e, Option.map_some, if_neg (fun z => h (e.trans z))]
      · rw [valV_neg (p := p) e, valV_neg e, ih]
theorem valV_snoc (k j : κ) (y : V) : ∀ kvs : List (κ × V), valV kvs k = none → valV (kvs ++ [(k, y)]) j = if j = k then some y else valV kvs j
  | [], _ => by
    by_cases e : k = j
    · rw [if_pos e.symm]; exact valV_pos (p := (k, y)) e
    · rw [if_neg (fun z => e z.symm)]; exact valV_neg (p := (k, y)) e
  | p :: r, hn => by
    rw [List.cons_append]
    have hk : ¬ p.1 = k := fun z => by rw [valV_pos z] at hn; cases hn
    rw [valV_neg hk] at hn
    have ih := valV_snoc k j y r hn
    by_cases e : p.1 = j
    · rw [valV_pos e, valV_pos e, if_neg (fun z => hk (e.trans z))]
    · rw [valV_neg e, valV_neg e, ih]
theorem valV_put (kvs : List (κ × V)) (k j : κ) (y : V) : valV (putK kvs k y) j = if j = k then some y else valV kvs j := by
  unfold putK
  by_cases a : (kvs.any fun kv => decide (kv.1 = k)) = true
  · rw [if_pos a, valV_map]
    rw [valV_any] at a
    by_cases e : j = k
    · obtain ⟨x, hx⟩ := Option.isSome_iff_exists.mp a
      rw [if_pos e, e, hx, Option.map_some, if_pos rfl]
    · rw [if_neg e]
      cases valV kvs j with
      | none => rfl
      | some x => rw [Option.map_some, if_neg e]
  · rw [if_neg a]
    refine valV_snoc k j y kvs ?_
    rw [valV_any] at a
    cases q : valV kvs k with
    | none => rfl
    | some x => rw [q] at a; exact (a rfl).elim
theorem length_putK (kvs : List (κ × V)) (k : κ) (v : V) : (putK kvs k v).length ≤ kvs.length + 1 := by
  unfold putK
  split
  · rw [List.length_map]; omega
  · rw [List.length_append, List.length_cons, List.length_nil]; omega
theorem RelO.isSome_eq {o : Option V} {u : Option Value} (r : RelO o u) : o.isSome = u.isSome := by
  cases o with
  | none => cases u with
    | none => rfl
    | some _ => exact (show False from r).elim
  | some _ => cases u with
    | none => exact (show False from r).elim
    | some _ => rfl
theorem RelO.getD {o : Option V} {u : Option Value} {d : V} {d' : Value} (r : RelO o u) (rd : RelV d d') : RelV (o.getD d) (u.getD d') := by
  cases o with
  | none => cases u with
    | none => exact rd
    | some _ => exact (show False from r).elim
  | some _ => cases u with
    | none => exact (show False from r).elim
    | some _ => exact r

/-- raw tables of the same keys -/
theorem KV.val {kvs : List (κ × V)} {vs : List (κ × Value)} (r : KV kvs vs) (k : κ) : RelO (valV kvs k) (valueAt vs k) := by
  unfold KV at r
  induction r with
  | nil => exact True.intro
  | @cons p q ps qs h t ih =>
    obtain ⟨h1, h2⟩ := h
    by_cases e : p.1 = k
    · have e' : q.1 = k := h1.symm.trans e
      have b : valueAt (q :: qs) k = some q.2 := by simp [valueAt, List.find?_cons, e']
      rw [valV_pos e, b]; exact h2
    · have e' : ¬ q.1 = k := fun z => e (h1.trans z)
      have b : valueAt (q :: qs) k = valueAt qs k := by simp [valueAt, List.find?_cons, e']
      rw [valV_neg e, b]; exact ih
theorem KV.any {kvs : List (κ × V)} {vs : List (κ × Value)} (r : KV kvs vs) (k : κ) : (kvs.any fun kv => decide (kv.1 = k)) = vs.any fun kv => decide (kv.1 = k) := by
  unfold KV at r
  induction r with
  | nil => rfl
  | cons h t ih => rw [List.any_cons, List.any_cons, ih, h.1]
theorem KV.repl {kvs : List (κ × V)} {vs : List (κ × Value)} (r : KV kvs vs) (k : κ) {y : V} {u : Value} (ry : RelV y u) :
    KV (kvs.map fun kv => if kv.1 = k then (kv.1, y) else kv) (vs.map fun kv => if kv.1 = k then (kv.1, u) else kv) := by
  unfold KV at r ⊢
  induction r with
  | nil => exact .nil
  | @cons p q ps qs h t ih =>
    rw [List.map_cons, List.map_cons]
    refine .cons ?_ ih
    obtain ⟨h1, h2⟩ := h
    by_cases e : p.1 = k
    · rw [if_pos e, if_pos (h1.symm.trans e)]; exact ⟨h1, ry⟩
    · rw [if_neg e, if_neg (fun z => e (h1.trans z))]; exact ⟨h1, h2⟩
theorem KV.put {kvs : List (κ × V)} {vs : List (κ × Value)} (r : KV kvs vs) (k : κ) {y : V} {u : Value} (ry : RelV y u) : KV (putK kvs k y) (stored vs k u) := by
  unfold putK stored
  rw [r.any k]
  by_cases e : (vs.any fun kv => decide (kv.1 = k)) = true
  · rw [if_pos e, if_pos e]; exact r.repl k ry
  · rw [if_neg e, if_neg e]; exact Paired.snoc r ⟨rfl, ry⟩
theorem KV.drop {kvs : List (κ × V)} {vs : List (κ × Value)} (r : KV kvs vs) (k : κ) : KV (dropK kvs k) (without vs k) := by
  unfold KV at r ⊢
  unfold dropK without
  induction r with
  | nil => exact .nil
  | @cons p q ps qs h t ih =>
    obtain ⟨h1, h2⟩ := h
    rw [List.filter_cons, List.filter_cons]
    by_cases e : p.1 = k
    · have a : ¬ decide (p.1 ≠ k) = true := by simp [e]
      have b : ¬ decide (q.1 ≠ k) = true := by simp [h1.symm.trans e]
      rw [if_neg a, if_neg b]; exact ih
    · have e' : ¬ q.1 = k := fun z => e (h1.trans z)
      have a : decide (p.1 ≠ k) = true := by simp [e]
      have b : decide (q.1 ≠ k) = true := by simp [e']
      rw [if_pos a, if_pos b]; exact .cons ⟨h1, h2⟩ ih
theorem KV.keys {kvs : List (κ × V)} {vs : List (κ × Value)} (r : KV kvs vs) : kvs.map (·.1) = vs.map (·.1) := by
  unfold KV at r
  induction r with
  | nil => rfl
  | cons h t ih => rw [List.map_cons, List.map_cons, ih, h.1]
theorem KV.length {kvs : List (κ × V)} {vs : List (κ × Value)} (r : KV kvs vs) : kvs.length = vs.length := Paired.length r
end


/-! ### a tracked dict, its keys ints and texts or tuples of these -/
theorem kV_is {P : Program} {w : World} {k : Key} {u : Value} (r : RelV (kV k) u) : (mixKind P w).is k u = true := by
  cases k with
  | inl i => obtain ⟨t, e⟩ := (show ∃ t, u = Value.int i t from r); subst e; exact mixKind_int P w i t
  | inr x => obtain ⟨t, e⟩ := (show ∃ t, u = Value.str x t from r); subst e; exact mixKind_str P w x t
theorem items_are {P : Program} {w : World} : ∀ {ks : List Key} {us : List Value}, Vals (ks.map kV) us → ItemsAre (mixKind P w) ks us
  | [], _, r => by rw [List.map_nil] at r; cases r; exact .nil
  | k :: ks, _, r => by
    rw [List.map_cons] at r
    cases r with
    | cons h t => exact .cons (kV_is h) (items_are t)

/-- raw entries of a dict with tuple keys -/
abbrev KT (H : Hp) : List (List Key × V) → List (List Key × Addr × Value) → Prop := Paired fun p q => p.1 = q.1 ∧ H q.2.1 = some (.tup (p.1.map kV)) ∧ RelV p.2 q.2.2
theorem KT.val {H : Hp} {kvs : List (List Key × V)} {xs : List (List Key × Addr × Value)} (r : KT H kvs xs) (k : List Key) : RelO (valV kvs k) ((atKey xs k).map (·.2)) := by
  induction r with
  | nil => exact True.intro
  | @cons p q ps qs h t ih =>
    obtain ⟨h1, _, h2⟩ := h
    by_cases e : p.1 = k
    · have e' : q.1 = k := h1.symm.trans e
      have b : atKey (q :: qs) k = some q.2 := by simp [atKey, List.find?_cons, e']
      rw [valV_pos e, b]; exact h2
    · have e' : ¬ q.1 = k := fun z => e (h1.trans z)
      have b : atKey (q :: qs) k = atKey qs k := by simp [atKey, List.find?_cons, e']
      rw [valV_neg e, b]; exact ih
theorem KT.repl {H : Hp} {kvs : List (List Key × V)} {xs : List (List Key × Addr × Value)} (r : KT H kvs xs) (k : List Key) {y : V} {u : Value} (ry : RelV y u) :
    KT H (kvs.map fun kv => if kv.1 = k then (kv.1, y) else kv) (xs.map (putAt k u)) := by
  induction r with
  | nil => exact .nil
  | @cons p q ps qs h t ih =>
    rw [List.map_cons, List.map_cons]
    refine .cons ?_ ih
    obtain ⟨h1, h2, h3⟩ := h
    unfold putAt
    by_cases e : p.1 = k
    · rw [if_pos e, if_pos (h1.symm.trans e)]; exact ⟨h1, h2, ry⟩
    · rw [if_neg e, if_neg (fun z => e (h1.trans z))]; exact ⟨h1, h2, h3⟩
theorem KT.put {H : Hp} {kvs : List (List Key × V)} {xs : List (List Key × Addr × Value)} (r : KT H kvs xs) (k : List Key) {b : Addr} {y : V} {u : Value} (hb : H b = some (.tup (k.map kV))) (ry : RelV y u) :
    KT H (putK kvs k y) (storedH xs k b u) := by
  have e : (kvs.any fun kv => decide (kv.1 = k)) = (atKey xs k).isSome := by
    rw [valV_any, (r.val k).isSome_eq, Option.isSome_map]
  unfold putK storedH
  rw [e]
  by_cases q : (atKey xs k).isSome = true
  · rw [if_pos q, if_pos q]; exact r.repl k ry
  · rw [if_neg q, if_neg q]; exact Paired.snoc r ⟨rfl, hb, ry⟩
theorem KT.keeps {H H' : Hp} {kvs : List (List Key × V)} {xs : List (List Key × Addr × Value)} (r : KT H kvs xs) (ht : ∀ b ys, H b = some (.tup ys) → H' b = some (.tup ys)) : KT H' kvs xs :=
  Paired.mapP r fun _ _ z => ⟨z.1, ht _ _ z.2.1, z.2.2⟩

section
variable {P : Program} {w : World} {H : Hp} {h : Heap} {a : Addr}
theorem rd_of {u : HO} (ok : HOk P w H h) (e : Rd H a u) : ObjOk P w H h a u := e.ok ok
theorem dk_rd {kvs : List (Key × V)} (ok : HOk P w H h) (e : Rd H a (.dK kvs)) : kvs.length ≤ sizeLine ∧ (a == sysModules) = false ∧ ∃ vs, KV kvs vs ∧ h.DictOf (mixKind P w) a vs :=
  show ObjOk P w H h a (.dK kvs) from rd_of ok e
theorem dk_of {kvs : List (Key × V)} (ok : HOk P w H h) (e : H a = some (.dK kvs)) : kvs.length ≤ sizeLine ∧ (a == sysModules) = false ∧ ∃ vs, KV kvs vs ∧ h.DictOf (mixKind P w) a vs := dk_rd ok (.inl e)
/-- a tracked tuple of ints and texts is a key -/
theorem key_of {ks : List Key} (ok : HOk P w H h) (e : H a = some (.tup (ks.map kV))) : (tupleKind (mixKind P w)).is h ks a := by
  obtain ⟨_, its, r, o, h1, h2, n, h3⟩ := (show ObjOk P w H h a (.tup (ks.map kV)) from ok a _ e)
  exact ⟨o, its.toArray, n, h1, h2, h3, by simpa using items_are r⟩
theorem dt_rd {kvs : List (List Key × V)} (ok : HOk P w H h) (e : Rd H a (.dT kvs)) : kvs.length ≤ sizeLine ∧ (a == sysModules) = false ∧
    ∃ xs, KT H kvs xs ∧ h.DictOfH (tupleKind (mixKind P w)) a xs := by
  obtain ⟨z, y, xs, r, o, es, ep, h1, h2, h3, h4, h5⟩ := (show ObjOk P w H h a (.dT kvs) from rd_of ok e)
  refine ⟨z, y, xs, r, o, es, ep, h1, h2, h3, h4, fun x hx => ?_, h5⟩
  have all : ∀ {l : List (List Key × V)} {m : List (List Key × Addr × Value)}, KT H l m → ∀ x ∈ m, (tupleKind (mixKind P w)).is h x.1 x.2.1 := by
    intro l m q
    induction q with
    | nil => intro x hx; exact nomatch hx
    | @cons p q ps qs hq t ih =>
      intro x hx
      rcases List.mem_cons.mp hx with e | hx
      · subst e
        exact key_of ok (by rw [← hq.1]; exact hq.2.1)
      · exact ih x hx
  exact all r x hx
theorem dt_of {kvs : List (List Key × V)} (ok : HOk P w H h) (e : H a = some (.dT kvs)) : kvs.length ≤ sizeLine ∧ (a == sysModules) = false ∧
    ∃ xs, KT H kvs xs ∧ h.DictOfH (tupleKind (mixKind P w)) a xs := dt_rd ok (.inl e)
end

/-- what the dict at a holds at the key y -/
def DGet (H : Hp) (a : Addr) (y : V) (r : Option V) : Prop :=
  (∃ kvs k, Rd H a (.dK kvs) ∧ y = kV k ∧ r = valV kvs k) ∨ ∃ kvs k b, Rd H a (.dT kvs) ∧ y = .ref b ∧ H b = some (.tup (k.map kV)) ∧ r = valV kvs k
/-- the heap behind a[y] = v -/
def DPut (H : Hp) (a : Addr) (y v : V) (H' : Hp) : Prop :=
  (∃ kvs k, H a = some (.dK kvs) ∧ y = kV k ∧ kvs.length < sizeLine ∧ H' = upd H a (.dK (putK kvs k v))) ∨
  ∃ kvs k b, H a = some (.dT kvs) ∧ y = .ref b ∧ H b = some (.tup (k.map kV)) ∧ kvs.length < sizeLine ∧ H' = upd H a (.dT (putK kvs k v))
theorem DGet.k {H : Hp} {a : Addr} {kvs : List (Key × V)} {k : Key} (e : H a = some (.dK kvs)) : DGet H a (kV k) (valV kvs k) := .inl ⟨kvs, k, .inl e, rfl, rfl⟩
theorem DGet.t {H : Hp} {a b : Addr} {kvs : List (List Key × V)} {k : List Key} (e : H a = some (.dT kvs)) (eb : H b = some (.tup (k.map kV))) : DGet H a (.ref b) (valV kvs k) := .inr ⟨kvs, k, b, .inl e, rfl, eb, rfl⟩
theorem DPut.k {H : Hp} {a : Addr} {kvs : List (Key × V)} {k : Key} {v : V} (e : H a = some (.dK kvs)) (hl : kvs.length < sizeLine) : DPut H a (kV k) v (upd H a (.dK (putK kvs k v))) := .inl ⟨kvs, k, e, rfl, hl, rfl⟩
theorem DPut.t {H : Hp} {a b : Addr} {kvs : List (List Key × V)} {k : List Key} {v : V} (e : H a = some (.dT kvs)) (eb : H b = some (.tup (k.map kV))) (hl : kvs.length < sizeLine) :
    DPut H a (.ref b) v (upd H a (.dT (putK kvs k v))) := .inr ⟨kvs, k, b, e, rfl, eb, hl, rfl⟩


section
variable {X : Cx} {pins : List (Addr × Obj)} {σ : St} {H : Hp} {s : Shared} {a : Addr} {y v : V} {u r : Value} {o : Option V} {A : Around} {E : Value → Shared → Prop}

theorem Inv.big (I : Inv X pins σ H s) : sysModules < s.heap.objs.size := by
  have h : mainGlobals < s.heap.objs.size := (I.mod.glob.keeps I.bk).lt
  exact Nat.lt_trans (by decide) h

/-- d[y], there -/
theorem d_getItem {Q : Value → Shared → Prop} (hu : A.units + 1 < cLine) (I : Inv X pins σ H s) (g : DGet H a y (some v)) (ry : RelV y u) (h : ∀ w' s', Inv X pins σ H s' → RelV v w' → Q w' s') :
    wpAny (model X.prog X.w) A (getItem (.ref a) u) Q E s := by
  rcases g with ⟨kvs, k, e, ey, l⟩ | ⟨kvs, k, b, e, ey, eb, l⟩
  · subst ey
    obtain ⟨z, hd, vs, rel, dd⟩ := dk_rd I.hok e
    obtain ⟨w', hw, rw'⟩ := RelO.some_of (v := v) (o := valueAt vs k) (by rw [l]; exact rel.val k)
    exact wpAny_getItem_of (kV_is ry) dd.mapOf hw (h w' _ (I.tok _) rw')
  · subst ey
    cases (show u = Value.ref b from ry)
    obtain ⟨z, hd, xs, rel, dd⟩ := dt_rd I.hok e
    obtain ⟨w', hw, rw'⟩ := RelO.some_of (v := v) (o := (atKey xs k).map (·.2)) (by rw [l]; exact rel.val k)
    obtain ⟨p, hp, hp2⟩ := Option.map_eq_some_iff.mp hw
    refine wpAny_getItem_heap (tupleKind_room_in1 hu) (key_of I.hok eb) dd hp ?_
    rw [hp2]
    exact h w' _ (I.tok _) rw'
/-- y in d -/
theorem d_in {Q : Value → Shared → Prop} (hu : A.units + 1 < cLine) (I : Inv X pins σ H s) (g : DGet H a y o) (ry : RelV y u) (h : ∀ s', Inv X pins σ H s' → Q (.bool o.isSome) s') :
    wpAny (model X.prog X.w) A (compareOp .In u (.ref a)) Q E s := by
  rcases g with ⟨kvs, k, e, ey, l⟩ | ⟨kvs, k, b, e, ey, eb, l⟩
  · subst ey
    obtain ⟨z, hd, vs, rel, dd⟩ := dk_rd I.hok e
    refine wpAny_in_of (kV_is ry) hd dd.mapOf ?_
    rw [← (rel.val k).isSome_eq, ← l]
    exact h _ (I.tok _)
  · subst ey
    cases (show u = Value.ref b from ry)
    obtain ⟨z, hd, xs, rel, dd⟩ := dt_rd I.hok e
    refine wpAny_in_heap (tupleKind_room_in1 hu) (key_of I.hok eb) hd dd ?_
    have q := (rel.val k).isSome_eq
    rw [Option.isSome_map] at q
    rw [← q, ← l]
    exact h _ (I.tok _)
theorem d_notIn {Q : Value → Shared → Prop} (hu : A.units + 1 < cLine) (I : Inv X pins σ H s) (g : DGet H a y o) (ry : RelV y u) (h : ∀ s', Inv X pins σ H s' → Q (.bool (!o.isSome)) s') :
    wpAny (model X.prog X.w) A (compareOp .NotIn u (.ref a)) Q E s := by
  rcases g with ⟨kvs, k, e, ey, l⟩ | ⟨kvs, k, b, e, ey, eb, l⟩
  · subst ey
    obtain ⟨z, hd, vs, rel, dd⟩ := dk_rd I.hok e
    refine wpAny_notIn_of (kV_is ry) hd dd.mapOf ?_
    rw [← (rel.val k).isSome_eq, ← l]
    exact h _ (I.tok _)
  · subst ey
    cases (show u = Value.ref b from ry)
    obtain ⟨z, hd, xs, rel, dd⟩ := dt_rd I.hok e
    refine wpAny_notIn_heap (tupleKind_room_in1 hu) (key_of I.hok eb) hd dd ?_
    have q := (rel.val k).isSome_eq
    rw [Option.isSome_map] at q
    rw [← q, ← l]
    exact h _ (I.tok _)
/-- a dict's object is replaced -/
theorem d_write {h' : Heap} {t' : Nat} {ob : HO} (I : Inv X pins σ H s) (mu : Mut (H a)) (hs : Heap.SameBut a s.heap h') (he : ∃ q, h'.get? a = some q) (new : ObjOk X.prog X.w (upd H a ob) h' a ob) :
    Inv X pins σ (upd H a ob) { s with heap := h', toks := t' } :=
  I.write (x := a) (e := a) mu (.inl rfl) (fun b q hb z => (hs.2 b hb).trans z) he new
theorem dk_new {P : Program} {w : World} {H' : Hp} {h' : Heap} {kvs : List (Key × V)} {vs : List (Key × Value)} (z : kvs.length ≤ sizeLine) (hd : (a == sysModules) = false) (rel : KV kvs vs) (dd : h'.DictOf (mixKind P w) a vs) :
    ObjOk P w H' h' a (.dK kvs) := ⟨z, hd, vs, rel, dd⟩
/-- d[y] = v -/
theorem d_setItem {H' : Hp} {Q : Unit → Shared → Prop} (hu : A.units + 1 < cLine) (I : Inv X pins σ H s) (g : DPut H a y v H') (ry : RelV y u) (rv : RelV v r) (h : ∀ s', Inv X pins σ H' s' → Q () s') :
    wpAny (model X.prog X.w) A (setItem (.ref a) u r) Q E s := by
  rcases g with ⟨kvs, k, e, ey, l, eH⟩ | ⟨kvs, k, b, e, ey, eb, l, eH⟩
  · subst ey eH
    obtain ⟨z, hd, vs, rel, dd⟩ := dk_of I.hok e
    have hz : vs.length ≤ sizeLine := by rw [← rel.length]; exact z
    have hl : (putK kvs k v).length ≤ sizeLine := by have := length_putK kvs k v; omega
    refine wpAny_setItem_pairs (hsz := hz) (kV_is ry) dd fun h' dd' hs => h _ ?_
    have he : ∃ q, h'.get? a = some q := let ⟨q, _, _, hq, _⟩ := dd'; ⟨q, hq⟩
    exact d_write I (by rw [e]; exact True.intro) hs he (dk_new hl hd (rel.put k rv) dd')
  · subst ey eH
    cases (show u = Value.ref b from ry)
    obtain ⟨z, hd, xs, rel, dd⟩ := dt_of I.hok e
    have hz : xs.length ≤ sizeLine := by rw [← Paired.length rel]; exact z
    have hl : (putK kvs k v).length ≤ sizeLine := by have := length_putK kvs k v; omega
    refine wpAny_setItem_heap (hsz := hz) (tupleKind_room_in1 hu) (key_of I.hok eb) dd fun h' dd' hs => h _ ?_
    obtain ⟨q, es, ep, hq, h2, h3, h4, _, h5⟩ := dd'
    refine d_write I (by rw [e]; exact True.intro) hs ⟨q, hq⟩ ⟨hl, hd, _, (rel.put k eb rv).keeps fun c ys ec => ?_, q, es, ep, hq, h2, h3, h4, h5⟩
    rw [upd_ne (ne_of ec e (fun z => nomatch z))]
    exact ec
end

section
variable {X : Cx} {pins : List (Addr × Obj)} {σ : St} {H : Hp} {s : Shared} {a : Addr} {kvs : List (Key × V)} {k : Key} {u : Value} {A : Around} {E : Value → Shared → Prop}
end


/-! ### readings and rules -/
/-- the element of a subscription, not a slice -/
def NoSl (i : Expr) : Prop := ∀ ov iv, subscripted i false ov iv = operate [ov, iv] (getItem ov iv)
theorem subD_of {prog : Program} {w : World} {A : Around} {E : Value → Shared → Prop} {s : Shared} {env : Env} {value slice : Expr} {pos : Pos} {T id : String} {Q : Value → Shared → Prop}
    (hl : typeLookup (.type T) "__getitem__" = pure (some (.builtin id))) (hs : NoSl slice)
    (h : wpAny (model prog w) A (eval value env) (fun o s₁ => wpAny (model prog w) A (eval slice env) (fun i s₂ => s₂.TypeIs o T ∧ wpAny (model prog w) A (getItem o i) Q E s₂) E s₁) E s) :
    wpAny (model prog w) A (eval (.Subscript value slice pos) env) Q E s := by
  refine Subscript_ (wpAny_mono h (fun o s₁ h₁ => wpAny_mono h₁ (fun i s₂ h₂ => ?_) fun _ _ x => x) fun _ _ x => x)
  obtain ⟨hT, h₂⟩ := h₂
  unfold subscriptTail
  refine wpAny_bind ?_
  rw [getitemInPython_of_ne hT.not_modules]
  refine wpAny_bind (wpAny_specialOf hT hl ?_)
  have fin : wpAny (model prog w) A (subscripted slice false o i) (fun r s₃ => wpAny (model prog w) A (letTemporaryGo value o r >>= fun _ => pure r) Q E s₃) E s₂ := by
    rw [hs o i]
    exact wpAny_operating (wpAny_mono h₂ (fun r s₃ h₃ => wpAny_bind (wpAny_letTemporaryGo (wpAny_pure h₃))) fun _ _ x => x)
  first
    | exact wpAny_pure (wpAny_bind fin)
    | exact wpAny_bind (wpAny_pure (wpAny_bind fin))
    | exact wpAny_bind fin

theorem dict_typeIs {X : Cx} {pins : List (Addr × Obj)} {σ : St} {H : Hp} {s : Shared} {a : Addr} {y : V} {o : Option V} (I : Inv X pins σ H s) (g : DGet H a y o) : s.TypeIs (.ref a) "dict" := by
  rcases g with ⟨kvs, k, e, _, _⟩ | ⟨kvs, k, b, e, _, _, _⟩
  · obtain ⟨_, _, vs, _, dd⟩ := dk_rd I.hok e
    exact dd.typeIs
  · obtain ⟨_, _, xs, _, dd⟩ := dt_rd I.hok e
    exact dd.typeIs
/-- d[y] -/
def tDGet (td ty : TE) : TE := fun σ H Q => td σ H fun x H1 => ty σ H1 fun y H2 => ∃ a v, x = .ref a ∧ DGet H2 a y (some v) ∧ Q v H2
/-- y in d, y not in d -/
def tDIn (ty td : TE) : TE := fun σ H Q => ty σ H fun y H1 => td σ H1 fun x H2 => ∃ a o, x = .ref a ∧ DGet H2 a y o ∧ Q (.bl o.isSome) H2
def tDNotIn (ty td : TE) : TE := fun σ H Q => ty σ H fun y H1 => td σ H1 fun x H2 => ∃ a o, x = .ref a ∧ DGet H2 a y o ∧ Q (.bl (!o.isSome)) H2
/-- d[y] = v -/
def sDPut (td ty tv : TE) : TS := fun D σ H => tv σ H fun v H1 => td σ H1 fun x H2 => ty σ H2 fun y H3 => ∃ a H4, x = .ref a ∧ DPut H3 a y v H4 ∧ D.nx σ H4
section
variable {X : Cx} {o i e value : Expr} {pos pos' tpos : Pos} {td ty tv : TE}
theorem pe_dget (hu : X.A.units + 1 < cLine) (ho : PE X o td) (hi : PE X i ty) (hs : NoSl i) : PE X (.Subscript o i pos) (tDGet td ty) := by
  intro pins s σ H Q I h
  refine subD_of PySem.F.slot_dict_getitem.lookup hs (thn (ho pins s σ H _ I h) fun u s1 ⟨x, H1, I1, rx, q1⟩ => thn (hi pins s1 σ H1 _ I1 q1) fun iv s2 ⟨y, H2, I2, ry, a, v, ex, g, q2⟩ => ?_)
  subst ex
  obtain rfl : u = Value.ref a := rx
  exact ⟨dict_typeIs I2 g, d_getItem hu I2 g ry fun w' s3 I3 rw' => ⟨v, H2, I3, rw', q2⟩⟩
theorem pc_din (hu : X.A.units + 1 < cLine) (hi : PE X i ty) (ho : PE X o td) : PC X .In i o (tDIn ty td) := by
  intro pins s σ H Q I h
  refine thn (hi pins s σ H _ I h) fun iv s1 ⟨y, H1, I1, ry, q1⟩ => thn (ho pins s1 σ H1 _ I1 q1) fun u s2 ⟨x, H2, I2, rx, a, ov, ex, g, q2⟩ => ?_
  subst ex
  obtain rfl : u = Value.ref a := rx
  exact d_in hu I2 g ry fun s3 I3 => ⟨.bl ov.isSome, H2, I3, rfl, q2⟩
theorem pc_dnotin (hu : X.A.units + 1 < cLine) (hi : PE X i ty) (ho : PE X o td) : PC X .NotIn i o (tDNotIn ty td) := by
  intro pins s σ H Q I h
  refine thn (hi pins s σ H _ I h) fun iv s1 ⟨y, H1, I1, ry, q1⟩ => thn (ho pins s1 σ H1 _ I1 q1) fun u s2 ⟨x, H2, I2, rx, a, ov, ex, g, q2⟩ => ?_
  subst ex
  obtain rfl : u = Value.ref a := rx
  exact d_notIn hu I2 g ry fun s3 I3 => ⟨.bl (!ov.isSome), H2, I3, rfl, q2⟩
theorem ps_dput (hu : X.A.units + 1 < cLine) (ho : PE X o td) (hi : PE X i ty) (hv : PE X value tv) (hs : swapsWith value (some (.Subscript o i pos')) pos.line X.env = pure false) :
    PS X (.Assign [.Subscript o i pos'] value pos) (sDPut td ty tv) := by
  intro pins s σ H D I h
  refine wpAny_Assign_Subscript (thn (hv pins s σ H _ I h) fun r s1 ⟨v, H1, I1, rv, q1⟩ => thn (ho pins s1 σ H1 _ I1 q1) fun u s2 ⟨x, H2, I2, rx, q2⟩ => thn (hi pins s2 σ H2 _ I2 q2) fun iv s3 ⟨y, H3, I3, ry, a, H4, ex, g, q3⟩ => ?_) hs
  subst ex
  obtain rfl : u = Value.ref a := rx
  exact d_setItem hu I3 g ry rv fun s4 I4 => ⟨σ, H4, I4, q3⟩
end


/-! ### displays -/
theorem dk_empty {P : Program} {w : World} {H : Hp} (h : Heap) (hb : sysModules < h.objs.size) : ObjOk P w H (h.push { cls := .type "dict", data := .dict #[] }) h.objs.size (.dK []) :=
  ⟨Nat.zero_le _, beq_eq_false_iff_ne.mpr (Ne.symm (Nat.ne_of_lt hb)), [], .nil, Heap.DictOf.new h⟩
/-- {}, to be a dict of the kind that is wanted -/
def tDNewK : TE := fun _ H Q => ∀ p, H p = none → Q (.ref p) (upd H p (.dK []))
section
variable {X : Cx} {pos : Pos}
theorem pe_dnewK : PE X (.Dict [] [] pos) tDNewK := fun pins s σ H Q I h =>
  wpAny_Dict_empty ⟨.ref s.heap.objs.size, _, I.laid (a := s.heap.objs.size) (o := .dK []) (t' := s.toks) (fun _ _ q => Heap.get?_push_of_some _ q) (Nat.le_refl _) (dk_empty s.heap I.big), rfl, h _ (I.hok.fresh (Nat.le_refl _))⟩
end

/-! ### methods -/
structure M2 (X : Cx) (o : Expr) (m : Str) (apos : Pos) (e f : Expr) (cpos : Pos) : Prop where
  base : attributeBase o m X.env (eval o X.env) = eval o X.env
  few : ((backTo cpos (starEach [e, f] X.env)).all (fun x => !x.1) && (backToKw cpos (keywordEach [] X.env)).all (fun x => x.1.isSome)
    && decide (([e, f] : List Expr).length + ([] : List Keyword).length + (if ([] : List Keyword).isEmpty then 0 else 1) < 30)) = true
  line : (apos.endLine == cpos.line) = true
  trees : backTo cpos (starEach [e, f] X.env) = [(false, eval e X.env), (false, eval f X.env)]

section
variable {X : Cx} {pins : List (Addr × Obj)} {σ : St} {H : Hp} {s : Shared} {a : Addr} {y d : V} {u r : Value} {o : Option V} {A : Around} {E : Value → Shared → Prop}
end

section
variable {X : Cx} {o e f : Expr} {apos cpos : Pos} {td ty tx : TE}
end

/-! ### dict(d): a copy -/
section
variable {X : Cx} {pins : List (Addr × Obj)} {σ : St} {H : Hp} {s : Shared} {a : Addr} {kvs : List (Key × V)} {A : Around} {E : Value → Shared → Prop}
end


section
variable {X : Cx} {pins : List (Addr × Obj)} {σ : St} {H : Hp} {s : Shared} {a : Addr} {y : V} {u : Value} {A : Around} {E : Value → Shared → Prop}
end
end L2

namespace L2
open PySem PySem.Spec PyProof.Rows

section
variable {prog : Program} {w : World} {A : Around} {E : Value → Shared → Prop}
end

section
variable {X : Cx}
end
end L2

namespace L2
open PySem PySem.Spec PyProof.Rows

section
variable {X : Cx} {pins : List (Addr × Obj)} {σ : St} {H : Hp} {s : Shared} {h' : Heap}
/-! ### locking a thing while a statement runs -/
end
section
variable {X : Cx}
/-! ### one iterator just laid -/
theorem pi_one {tg : Expr} {pins : List (Addr × Obj)} {σ : St} {H : Hp} {s : Shared} {R : It → Hp → Prop} {J : It} {tn : Nat → Heap → Prop} {tk : Nat} (I : Inv X pins σ H s) (o : Obj)
    (T : Turn X.prog X.w X.K tg J [s.heap.objs.size] s.heap.objs.size tn) (st : tn 0 (s.heap.push o)) (q : R J H) : PIE X pins σ tg R (.ref s.heap.objs.size) { s with heap := s.heap.push o, toks := tk } := by
  refine ⟨s.heap.objs.size, [s.heap.objs.size], tn, J, H, rfl, I.kept fun b ob e => Heap.get?_push_of_some _ e, T, st, fun b hb => ?_, q⟩
  have e : b = s.heap.objs.size := by simpa using hb
  subst e
  exact I.fpOk (Nat.le_refl _) (I.hok.fresh (Nat.le_refl _))
end

/-! ### range with a step -/
/-- range(i, j, c): small bounds, n items -/
def RgC (i j c : Int) (n : Nat) : Prop := c ≠ 0 ∧ c.natAbs < 1073741824 ∧ Builtin.Range.small i j c = true ∧ Builtin.Range.rangeSize i j c = n
theorem RgC.neg {i j : Int} (ha : -(2 ^ 62) ≤ i) (ha' : i < 2 ^ 62) (hb : -(2 ^ 62) ≤ j) (hb' : j < 2 ^ 62) : RgC i j (-1) (i - j).toNat :=
  ⟨by decide, by decide, PySem.W.small_down ha ha' hb hb', PySem.W.rangeSize_downNat i j⟩
section
variable {X : Cx} {tg : Expr}
end
/-! ### reversed(list) -/
section
variable {X : Cx} {tg : Expr}
end

/-! ### a str -/
def Its (x : Str) : It := ⟨fun i _ => i < x.cps.size, fun i H v H' => H' = H ∧ ∃ c, x.cps[i]? = some c ∧ v = .str ⟨#[c]⟩, fun i _ => x.cps.size ≤ i⟩
theorem turn_str {P : Program} {w : World} {K : PySem.W.Frag} {tg : Expr} (it : Addr) (x : Str) (t : Tok) (ty : String) (hty : ty = "str_ascii_iterator" ∨ ty = "str_iterator") :
    Turn P w K tg (Its x) [it] it (fun i h => h.IsStrIter it ty x t i) where
  mem := by simp
  obj := fun i h st b hb => by
    have e : b = it := by simpa using hb
    subst e
    obtain ⟨o, e, c, d⟩ := st
    exact ⟨o, e, fun v z => by rw [d] at z; cases z⟩
  keep := fun i h h' st k => let ⟨o, ho, r⟩ := st; ⟨o, k it (by simp) o ho, r⟩
  item := by
    intro X hP hw hK hc i pins s σ H E I hf st hg
    subst hP hw hK
    obtain ⟨f0, f1, f2, f3, f4, f5⟩ := hf it (by simp)
    have W : Walks X.prog X.w X.A it [it] [it] x.cps.size (SignAt x) (fun i h => h.IsStrIter it ty x t i) := by
      rcases hty with e | e
      · rw [e]; exact Walks.strAscii (I.ok.hd hc) it x t
      · rw [e]; exact Walks.strWide (I.ok.hd hc) it x t
    have hno : ["enumerate", "zip", "dict_itemiterator", "dict_reverseitemiterator", "odict_iterator", "itertools.zip_longest", "itertools.pairwise"].contains ty = false := by
      rcases hty with e | e
      · rw [e]; decide
      · rw [e]; decide
    refine W.item i s _ _ hg st fun v h' tk hv st' kk => ?_
    obtain ⟨c, u, hcx, rfl⟩ := hv
    have I1 : Inv X pins σ H { s with heap := h', toks := tk } := I.turned (fun b o hb e => kk b o (by simpa using hb) e) f0 f1 f3 f4 f5
    obtain ⟨oi, e, cc, dd⟩ := id st'
    exact ⟨_, rfl, go_of (s := { s with heap := h', toks := tk }) e cc dd hno ⟨.str ⟨#[c]⟩, H, I1, ⟨u, rfl⟩, ⟨rfl, c, hcx, rfl⟩, st', fun b hb => (hf b hb).1⟩⟩
  done := by
    intro X hP hw hK hc i pins s σ H E I hf st hg
    subst hP hw hK
    obtain ⟨f0, f1, f2, f3, f4, f5⟩ := hf it (by simp)
    have hx : x.cps[i]? = none := Array.getElem?_eq_none hg
    rcases hty with e | e
    · rw [e] at st
      exact wpAny_pyNext_ascii_end (I.ok.hd hc) st hx fun h' eb => ⟨rfl, I.turned (t' := s.toks) (fun b o hb e => eb b o hb e) f0 f1 f3 f4 f5⟩
    · rw [e] at st
      exact wpAny_pyNext_wide_end (I.ok.hd hc) st hx fun h' eb => ⟨rfl, I.turned (t' := s.toks) (fun b o hb e => eb b o hb e) f0 f1 f3 f4 f5⟩
  self := fun A i s Q E st h => by
    rcases hty with e | e
    · rw [e] at st; exact wpAny_pyIter_striter_ascii st h
    · rw [e] at st; exact wpAny_pyIter_striter_wide st h
def iStr (te : TE) : TI := fun σ H R => te σ H fun v H1 => ∃ x, v = .str x ∧ R (Its x) H1
theorem pi_str {X : Cx} {tg e : Expr} {te : TE} (he : PE X e te) : PI X tg e (iStr te) := by
  intro pins s σ H R I h
  refine thn (he pins s σ H _ I h) fun v s1 ⟨y, H1, I1, r1, x, ex, q⟩ => ?_
  subst ex
  obtain ⟨t, rfl⟩ := r1
  cases ha : x.cps.all (· < 128)
  · exact wpAny_pyIter_wide ha (pi_one (tk := s1.toks) I1 _ (turn_str _ x t "str_iterator" (.inr rfl)) ⟨_, Heap.get?_push_size _ rfl, rfl, rfl⟩ q)
  · exact wpAny_pyIter_ascii ha (pi_one (tk := s1.toks) I1 _ (turn_str _ x t "str_ascii_iterator" (.inl rfl)) ⟨_, Heap.get?_push_size _ rfl, rfl, rfl⟩ q)

/-! ### a dict's keys: any dict's entries -/
section
variable {prog : Program} {w : World} {A : Around} {E : Value → Shared → Prop} {s : Shared}
end

/-! ### a locked dict -/
theorem paired_get {α β : Type} {G : α → β → Prop} {l₁ : List α} {l₂ : List β} (h : Paired G l₁ l₂) : ∀ {i : Nat} {a : α}, l₁[i]? = some a → ∃ b, l₂[i]? = some b ∧ G a b := by
  induction h with
  | nil => intro i a e; simp at e
  | @cons a b l₁ l₂ r t ih =>
    intro i a' e
    cases i with
    | zero =>
      simp only [List.getElem?_cons_zero, Option.some.injEq] at e
      subst e
      exact ⟨b, rfl, r⟩
    | succ j =>
      simp only [List.getElem?_cons_succ] at e ⊢
      exact ih e
section
variable {X : Cx} {pins : List (Addr × Obj)} {σ : St} {H : Hp} {s : Shared} {d : Addr} {o : Obj}
end

section
variable {P : Program} {w : World} {K : PySem.W.Frag} {tg : Expr} {d : Addr} {o : Obj} {es : Array DictEntry} {ep : Nat}
end

/-! ### for k in d, d.keys(), d.values(), d.items() -/
section
variable {X : Cx} {tg e : Expr} {td : TE} {apos cpos : Pos}
end

/-! ### enumerate(list) -/
/-! ### zip(list, list) -/
end L2

section 
namespace Bits
open PySem PyProof.Rows

end Bits
end 

section 
namespace TL
open PySem PySem.Builtin PySem.Builtin.Str PySem.StrLaws

abbrev tl (x : Str) : List Nat := x.cps.toList
theorem len_tl (x : Str) : x.length = (tl x).length := by simp [tl, Str.length]
theorem ext_tl {x y : Str} (h : tl x = tl y) : x = y := Str.ext' (Array.toList_inj.mp h)
theorem tl_append (x y : Str) : tl (x ++ y) = tl x ++ tl y := by
  show (x ++ y).cps.toList = _
  rw [Str.cps_append, Array.toList_append]
theorem map_tl_inj : ∀ {l m : List Str}, l.map tl = m.map tl → l = m
  | [], [], _ => rfl
  | [], _ :: _, h => by simp at h
  | _ :: _, [], h => by simp at h
  | x :: l, y :: m, h => by
    rw [List.map_cons, List.map_cons] at h
    injection h with h1 h2
    rw [ext_tl h1, map_tl_inj h2]
theorem tl_ofString (s : String) : tl (Str.ofString s) = s.toList.map Char.toNat := PyProof.Rows.signs_ofString s

/-! ### the list functions -/
/-- S stands at the head of l -/
def pre (S l : List Nat) : Bool := l.take S.length == S
/-- l cut at each S from the left; k signs are still to be passed over -/
def spl (S : List Nat) : Nat → List Nat → List Nat → List (List Nat)
  | _, acc, [] => [acc]
  | 0, acc, c :: r => if pre S (c :: r) = true then acc :: spl S (S.length - 1) [] r else spl S 0 (acc ++ [c]) r
  | k + 1, acc, _ :: r => spl S k acc r
/-- what stands before the first S, and behind it -/
def par (S : List Nat) : List Nat → List Nat → Option (List Nat × List Nat)
  | _, [] => none
  | acc, c :: r => if pre S (c :: r) = true then some (acc, (c :: r).drop S.length) else par S (acc ++ [c]) r

theorem spl_nil (S : List Nat) (k : Nat) (acc : List Nat) : spl S k acc [] = [acc] := by cases k <;> rfl
theorem spl_hit {S acc r : List Nat} {c : Nat} (h : pre S (c :: r) = true) : spl S 0 acc (c :: r) = acc :: spl S (S.length - 1) [] r := by
  show (if pre S (c :: r) = true then acc :: spl S (S.length - 1) [] r else spl S 0 (acc ++ [c]) r) = _
  rw [if_pos h]
theorem spl_miss {S acc r : List Nat} {c : Nat} (h : pre S (c :: r) = false) : spl S 0 acc (c :: r) = spl S 0 (acc ++ [c]) r := by
  show (if pre S (c :: r) = true then acc :: spl S (S.length - 1) [] r else spl S 0 (acc ++ [c]) r) = _
  rw [if_neg (by rw [h]; exact Bool.false_ne_true)]
theorem spl_pass (S : List Nat) : ∀ (k : Nat) (acc l : List Nat), spl S k acc l = spl S 0 acc (l.drop k)
  | 0, _, _ => by rw [List.drop_zero]
  | k + 1, acc, [] => by rw [List.drop_nil, spl_nil, spl_nil]
  | k + 1, acc, c :: r => by
    show spl S k acc r = spl S 0 acc (r.drop k)
    exact spl_pass S k acc r
theorem pre_nil {S : List Nat} (hS : S ≠ []) : pre S [] = false := by
  cases S with
  | nil => exact absurd rfl hS
  | cons s S => rfl
theorem pre_of_head {s c : Nat} (S r : List Nat) (h : c ≠ s) : pre (s :: S) (c :: r) = false := by
  cases hp : pre (s :: S) (c :: r) with
  | false => rfl
  | true =>
    have e : (c :: r).take (s :: S).length = s :: S := eq_of_beq hp
    rw [List.length_cons, List.take_succ_cons] at e
    injection e with e1 e2
    exact absurd e1 h
theorem getElem_drop_cons {L : List Nat} {a : Nat} (h : a < L.length) : ∃ c, L.drop a = c :: L.drop (a + 1) := ⟨L[a], List.drop_eq_getElem_cons h⟩
theorem spl_run (S L : List Nat) : ∀ (m a : Nat) (acc : List Nat), a + m ≤ L.length → (∀ k, a ≤ k → k < a + m → pre S (L.drop k) = false) →
    spl S 0 acc (L.drop a) = spl S 0 (acc ++ (L.drop a).take m) (L.drop (a + m))
  | 0, a, acc, _, _ => by rw [List.take_zero, List.append_nil, Nat.add_zero]
  | m + 1, a, acc, h, hn => by
    have hlt : a < L.length := by omega
    obtain ⟨c, e⟩ := getElem_drop_cons hlt
    have h0 := hn a (Nat.le_refl _) (by omega)
    have ih := spl_run S L m (a + 1) (acc ++ [c]) (by omega) (fun k h1 h2 => hn k (by omega) (by omega))
    have e2 : a + 1 + m = a + (m + 1) := by omega
    rw [e2] at ih
    rw [e] at h0
    rw [e, spl_miss h0, ih, List.take_succ_cons, List.append_assoc] <;> rfl
theorem drop_two (L : List Nat) (a b : Nat) : (L.drop a).drop b = L.drop (a + b) := by
  first
    | rw [List.drop_drop]
    | rw [List.drop_drop, Nat.add_comm]
theorem spl_at {S L : List Nat} (hS : S ≠ []) {c : Nat} {acc : List Nat} (h : pre S (L.drop c) = true) : spl S 0 acc (L.drop c) = acc :: spl S 0 [] (L.drop (c + S.length)) := by
  rw [← drop_two]
  cases e : L.drop c with
  | nil => rw [e, pre_nil hS] at h; cases h
  | cons d r =>
    rw [e] at h
    rw [spl_hit h, spl_pass]
    cases S with
    | nil => exact absurd rfl hS
    | cons s S => rfl
/-! ### the model's split and partition are these -/
theorem at_iff {x y : Str} (hy : tl y ≠ []) (i : Nat) : At x y x.length i ↔ pre (tl y) ((tl x).drop i) = true := by
  have hx := len_tl x
  have hl := len_tl y
  constructor
  · intro h
    have h2 := h.2
    rw [subAt_eq, hl] at h2
    exact h2
  · intro h
    have e : ((tl x).drop i).take (tl y).length = tl y := eq_of_beq h
    have e1 := congrArg List.length e
    rw [List.length_take, List.length_drop] at e1
    have e2 : 0 < (tl y).length := List.length_pos_iff.mpr hy
    refine ⟨by omega, ?_⟩
    rw [subAt_eq, hl]
    exact h
theorem no_at {x y : Str} (hy : tl y ≠ []) {i : Nat} (h : ¬ At x y x.length i) : pre (tl y) ((tl x).drop i) = false := by
  cases hp : pre (tl y) ((tl x).drop i) with
  | false => rfl
  | true => exact absurd ((at_iff hy i).mpr hp) h
theorem len1 {y : Str} (hy : tl y ≠ []) : 1 ≤ y.length := by
  have e2 : 0 < (tl y).length := List.length_pos_iff.mpr hy
  rw [len_tl y]
  exact e2
theorem tl_strSub (x : Str) (i j : Nat) : tl (strSub x i j) = ((tl x).drop i).take (j - i) := strSub_toList x i j
theorem tl_strSub_end (x : Str) (i : Nat) : tl (strSub x i x.length) = (tl x).drop i := by
  rw [tl_strSub, len_tl x]
  exact List.take_of_length_le (by rw [List.length_drop] <;> omega)

theorem parts_spl {x y : Str} (hy : tl y ≠ []) : ∀ (cuts : List Nat) (a f : Nat), a ≤ (tl x).length → ChainG x y x.length a cuts f → (∀ k, f ≤ k → ¬ At x y x.length k) →
    (partsFrom x y.length a cuts).map tl = spl (tl y) 0 [] ((tl x).drop a)
  | [], a, f, ha, h, hn => by
    have e : f = a := h
    subst e
    show [tl (strSub x f x.length)] = _
    have run := spl_run (tl y) (tl x) ((tl x).length - f) f [] (by omega) (fun k h1 _ => no_at hy (hn k h1))
    have e2 : f + ((tl x).length - f) = (tl x).length := by omega
    rw [e2, List.drop_length, spl_nil, List.nil_append, List.take_of_length_le (by rw [List.length_drop] <;> omega)] at run
    rw [run, tl_strSub_end]
  | c :: r, a, f, ha, h, hn => by
    obtain ⟨h1, h2, h3, h4⟩ := h
    have hc : c + y.length ≤ x.length := h2.1
    have hx := len_tl x
    have hl := len_tl y
    have ih := parts_spl hy r (c + y.length) f (by omega) h4 hn
    show tl (strSub x a c) :: (partsFrom x y.length (c + y.length) r).map tl = _
    have run := spl_run (tl y) (tl x) (c - a) a [] (by omega) (fun k k1 k2 => no_at hy (h3 k k1 (by omega)))
    have e2 : a + (c - a) = c := by omega
    rw [e2, List.nil_append, spl_at hy ((at_iff hy c).mp h2)] at run
    rw [run, ih, tl_strSub, hl]

/-- hk: by kind_ok where the separator is plain -/
theorem split_spl (x y : Str) (hy : tl y ≠ []) (hk : ¬ Builtin.Str.strKind x < Builtin.Str.strKind y) : (Txt.split x y).map tl = spl (tl y) 0 [] (tl x) := by
  obtain ⟨f, g, hn⟩ := occ_tight x y (len1 hy)
  have key := parts_spl hy _ 0 f (Nat.zero_le _) g hn
  rw [List.drop_zero] at key
  have none_case : occurrences x y 0 x.length (x.length + 1) = [] → [x].map tl = spl (tl y) 0 [] (tl x) := fun ho => by
    rw [ho] at key
    rw [← key]
    show [tl x] = [tl (strSub x 0 x.length)]
    rw [sub_whole]
  unfold Txt.split
  by_cases h1 : (decide (x.length < y.length) || decide (Builtin.Str.strKind x < Builtin.Str.strKind y)) = true
  · rw [if_pos h1]
    have hlt : x.length < y.length := by
      simp only [Bool.or_eq_true, decide_eq_true_eq] at h1
      rcases h1 with h | h
      · exact h
      · exact absurd h hk
    refine none_case ?_
    cases ho : occurrences x y 0 x.length (x.length + 1) with
    | nil => rfl
    | cons c r =>
      rw [ho] at g
      have hc : c + y.length ≤ x.length := g.2.1.1
      omega
  · rw [if_neg h1]
    by_cases h2 : (occurrences x y 0 x.length (x.length + 1)).isEmpty = true
    · rw [if_pos h2]
      exact none_case (List.isEmpty_iff.mp h2)
    · rw [if_neg h2, partsBetween_eq]
      exact key
theorem kind_ok {x y : Str} (h : y.cps.all (· < 256) = true) : ¬ Builtin.Str.strKind x < Builtin.Str.strKind y := by
  have e : Builtin.Str.strKind y = 1 := by unfold PySem.Builtin.Str.strKind; rw [if_pos h]
  rw [e]
  unfold PySem.Builtin.Str.strKind
  split
  · omega
  · split <;> omega

/-! ### computing spl and par -/
/-- joined lists -/
def joinL (S : List Nat) : List (List Nat) → List Nat
  | [] => []
  | [p] => p
  | p :: q :: r => p ++ (S ++ joinL S (q :: r))
theorem tl_join (y : Str) : ∀ parts : List Str, tl (Str.join y parts) = joinL (tl y) (parts.map tl)
  | [] => rfl
  | [_] => rfl
  | x :: z :: r => by
    show tl (x ++ y ++ Str.join y (z :: r)) = tl x ++ (tl y ++ joinL (tl y) ((z :: r).map tl))
    rw [tl_append, tl_append, tl_join y (z :: r), List.append_assoc]
theorem join_eq (y : Str) (parts : List Str) : Txt.join y parts = Str.join y parts := glued_eq_join y parts
/-! ### digits -/
/-! ### words: x.split() -/
end TL
end 

namespace L2
open PySem PySem.Spec PyProof.Rows

/-- a list of texts, of numbered texts -/
theorem vals_strs : ∀ l : List (Str × Tok), Vals ((l.map (·.1)).map V.str) (strValues l)
  | [] => .nil
  | p :: r => .cons ⟨p.2, rfl⟩ (vals_strs r)
theorem strs_of_vals : ∀ {ys : List Str} {us : List Value}, Vals (ys.map V.str) us → StrsAre us ys
  | [], _, .nil => .nil
  | y :: ys, _, .cons r t => by
    obtain ⟨k, rfl⟩ := r
    exact .cons y k (strs_of_vals t)

/-- a new list of texts, tracked -/
def rNewStrs (ys : List Str) : Hp → VK → Prop := fun H Q => ∀ p, H p = none → Q (.ref p) (upd H p (.lst (ys.map V.str)))

section
variable {X : Cx} {pins : List (Addr × Obj)} {σ : St} {H : Hp} {s : Shared} {Q : VK}
theorem laid_strs {l : List (Str × Tok)} {ys : List Str} {k : Nat} (I : Inv X pins σ H s) (e : l.map (·.1) = ys) (hz : ys.length ≤ sizeLine) (h : rNewStrs ys H Q) :
    EP X pins σ Q (.ref s.heap.objs.size) { s with toks := k, heap := s.heap.push { cls := .type "list", data := .seq (strValues l).toArray } } := by
  have hp := I.hok.fresh (Nat.le_refl _)
  refine ⟨.ref s.heap.objs.size, upd H s.heap.objs.size (.lst (ys.map V.str)), I.laid (fun b u q => Heap.get?_push_of_some _ q) (Nat.le_refl _) ⟨by rw [List.length_map]; exact hz, strValues l, _, ?_, Heap.get?_push_size _ rfl⟩, rfl, h _ hp⟩
  rw [← e]
  exact vals_strs l
end

section
variable {X : Cx}

/-- x.split(sep) -/
theorem mt_split : MtR X "str.split" (fun x xs H Q => ∃ a b, x = .str a ∧ xs = [.str b] ∧ (b.length == 0) = false ∧ a.length + 2 ≤ sizeLine ∧ rNewStrs (Txt.split a b) H Q) := by
  intro pins s σ H x xs v us Q I rx rs h
  obtain ⟨a, b, rfl, rfl, hb, hz, h⟩ := h
  obtain ⟨t, rfl⟩ := rx
  cases rs with
  | cons r1 rs =>
    cases rs
    obtain ⟨u, rfl⟩ := r1
    have hl : (Txt.split a b).length ≤ sizeLine := Nat.le_trans (PyProof.Rows.split_le a b) hz
    have hn : (Builtin.Str.partsBetween a (Builtin.Str.occurrences a b 0 a.length (a.length + 1)) b.length).length ≤ sizeLine := by
      have e1 := StrLaws.occ_length_le a b 0 a.length (a.length + 1)
      rw [length_partsBetween]; omega
    cases h1 : (decide (a.length < b.length) || decide (Builtin.Str.strKind a < Builtin.Str.strKind b))
    · cases hf : (Builtin.Str.occurrences a b 0 a.length (a.length + 1)).isEmpty
      · refine call_meets F.slot_str_split (typeIs_str _ _ _) F.entry_str_split (F.args_str_split_2 _ _) (meets_str_split_sep a b t u h1 hb hf (by omega) hn) ?_
        show EP X pins σ Q (.ref s.heap.objs.size) { s with toks := _, heap := s.heap.push { cls := .type "list", data := .seq (strsFrom s.toks (Builtin.Str.partsBetween a (Builtin.Str.occurrences a b 0 a.length (a.length + 1)) b.length)).toArray } }
        rw [strsFrom_eq]
        exact laid_strs (ys := Txt.split a b) I ((numbered_texts _ _).trans ((if_neg (ne_true_of_eq_false h1)).trans (if_neg (ne_true_of_eq_false hf))).symm) hl h
      · refine call_meets F.slot_str_split (typeIs_str _ _ _) F.entry_str_split (F.args_str_split_2 _ _) (meets_str_split_not_found a b t u h1 hb hf) ?_
        exact laid_strs (l := [(a, t)]) (ys := Txt.split a b) (k := s.toks) I ((if_neg (ne_true_of_eq_false h1)).trans (if_pos hf)).symm hl h
    · refine call_meets F.slot_str_split (typeIs_str _ _ _) F.entry_str_split (F.args_str_split_2 _ _) (meets_str_split_cannot_occur a b t u h1) ?_
      exact laid_strs (l := [(a, t)]) (ys := Txt.split a b) (k := s.toks) I (if_pos h1).symm hl h

/-- sep.join(a list | a tuple of texts) -/
theorem mt_join : MtR X "str.join" (fun x xs H Q => ∃ a p, ∃ ys : List Str, x = .str a ∧ xs = [.ref p] ∧ (SqL X.K H p (ys.map V.str) ∨ SqT X.K H p (ys.map V.str)) ∧
    (ys.map (·.length)).sum + ys.length * a.length ≤ 16777216 ∧ Q (.str (Txt.join a ys)) H) := by
  intro pins s σ H x xs v us Q I rx rs h
  obtain ⟨a, p, ys, rfl, rfl, hp, hz, h⟩ := h
  obtain ⟨t, rfl⟩ := rx
  cases rs with
  | cons r1 rs =>
    cases rs
    cases r1
    rcases hp with hp | hp
    · obtain ⟨its, r, ⟨o, n, ho, hc, _, hd⟩, _⟩ := I.list hp
      exact PyProof.Rows.join_list (items := its.toArray) ⟨o, ho, hc, n, hd⟩ (by rw [List.toList_toArray]; exact strs_of_vals r) hz fun t' k => ⟨.str _, H, I.tok k, ⟨t', rfl⟩, h⟩
    · obtain ⟨its, r, ht, _⟩ := I.tuple hp
      exact PyProof.Rows.join_tuple (items := its.toArray) ht (by rw [List.toList_toArray]; exact strs_of_vals r) hz fun t' k => ⟨.str _, H, I.tok k, ⟨t', rfl⟩, h⟩

/-! ### of a text alone -/
/-! ### of a text and a text -/
theorem mt1 {id : String} {g : Str → Str → V} (rule : ∀ (a b : Str) (t u : Tok) (s : Shared) (Q : Value → Shared → Prop), (∀ (v : Value) (k : Nat), RelV (g a b) v → Q v { s with toks := k }) →
    wpAny (model X.prog X.w) X.A (call (.builtin id) [.str a t, .str b u]) Q X.xe s) : MtR X id (fun x xs H Q => ∃ a b, x = .str a ∧ xs = [.str b] ∧ Q (g a b) H) := by
  intro pins s σ H x xs v us Q I rx rs h
  obtain ⟨a, b, rfl, rfl, h⟩ := h
  obtain ⟨t, rfl⟩ := rx
  cases rs with
  | cons r1 rs =>
    cases rs
    obtain ⟨u, rfl⟩ := r1
    exact rule a b t u s _ fun v k r => ⟨g a b, H, I.tok k, r, h⟩
theorem mt_find : MtR X "str.find" (fun x xs H Q => ∃ a b, x = .str a ∧ xs = [.str b] ∧ Q (.int (Txt.find a b)) H) :=
  mt1 (g := fun a b => .int (Txt.find a b)) fun _ _ _ _ s _ h => PySem.SC.find (h _ (s.toks + 1) ⟨_, rfl⟩)
/-- int(text) -/
theorem call_int_str : CallR X (.type "int") (fun xs H Q => ∃ a n, xs = [.str a] ∧ PySem.intText? a = some n ∧ a.length ≤ 640 ∧ Q (.int n) H) := by
  intro pins s σ H xs us Q I rs h
  obtain ⟨a, n, rfl, hn, hl, h⟩ := h
  cases rs with
  | cons r1 rs =>
    cases rs
    obtain ⟨t, rfl⟩ := r1
    exact PySem.W.KIN.call_text hn hl ⟨.int n, H, I.tok _, ⟨_, rfl⟩, h⟩
end

section
variable {X : Cx} {o e : Expr} {to te : TE}
def tM1 (r : V → List V → Hp → VK → Prop) (to te : TE) : TE := fun σ H Q => to σ H fun x H1 => (∃ a, x = .str a) ∧ te σ H1 fun y H2 => r x [y] H2 Q
theorem pe_m1 {id : String} {name : Str} {apos pos : Pos} {r : V → List V → Hp → VK → Prop} (slot : Slot "str" name id) (ty : typeOf (.builtin id) = pure (.type "method_descriptor")) (rule : MtR X id r) (ho : PE X o to) (he : PE X e te)
    (hs : starEach [e] X.env = [(false, eval e X.env)] := by rfl) (hbase : attributeBase o name X.env (eval o X.env) = eval o X.env := by rfl) (hline : (apos.endLine == pos.line) = true := by rfl) :
    PE X (.Call (.Attribute o name apos) [e] [] pos) (tM1 r to te) := by
  intro pins s σ H Q I h
  refine PySem.Call_method1 hbase hs hline (thn (ho pins s σ H _ I h) fun v s1 ⟨x, H1, I1, r1, q1⟩ => ?_)
  obtain ⟨⟨a, rfl⟩, q1⟩ := q1
  obtain ⟨t, rfl⟩ := _root_.id r1
  refine ⟨"str", _, F.plainAttrs_str, slot, ty, typeIs_str _ _ _, (fun _ e => nomatch e), Calls.callWith_builtin rfl (Calls.evalArgs_plain (Calls.spliced_cons ?_))⟩
  exact thn (he pins s1 σ H1 _ I1 q1) fun u s2 ⟨y, H2, I2, r2, q2⟩ => Calls.spliced_nil (rule pins s2 σ H2 _ [y] _ [u] Q I2 r1 (.cons r2 .nil) q2)

theorem pe_split {apos pos : Pos} (ho : PE X o to) (he : PE X e te) (hs : starEach [e] X.env = [(false, eval e X.env)] := by rfl) (hbase : attributeBase o "split" X.env (eval o X.env) = eval o X.env := by rfl) (hline : (apos.endLine == pos.line) = true := by rfl) :
    PE X (.Call (.Attribute o "split" apos) [e] [] pos) (tM1 (fun x xs H Q => ∃ a b, x = .str a ∧ xs = [.str b] ∧ (b.length == 0) = false ∧ a.length + 2 ≤ sizeLine ∧ rNewStrs (Txt.split a b) H Q) to te) :=
  pe_m1 F.slot_str_split F.type_str_split mt_split ho he hs hbase hline
theorem pe_join {apos pos : Pos} (ho : PE X o to) (he : PE X e te) (hs : starEach [e] X.env = [(false, eval e X.env)] := by rfl) (hbase : attributeBase o "join" X.env (eval o X.env) = eval o X.env := by rfl) (hline : (apos.endLine == pos.line) = true := by rfl) :
    PE X (.Call (.Attribute o "join" apos) [e] [] pos) (tM1 (fun x xs H Q => ∃ a p, ∃ ys : List Str, x = .str a ∧ xs = [.ref p] ∧ (SqL X.K H p (ys.map V.str) ∨ SqT X.K H p (ys.map V.str)) ∧
      (ys.map (·.length)).sum + ys.length * a.length ≤ 16777216 ∧ Q (.str (Txt.join a ys)) H) to te) :=
  pe_m1 F.slot_str_join F.type_str_join mt_join ho he hs hbase hline
end
end L2

namespace L2
open PySem PySem.Spec PyProof.Rows

section
variable {X : Cx}
theorem op_notIn_sign : OpR X (compareOp .NotIn) (fun x y H Q => ∃ (c : Nat) (z : Str), x = .str ⟨#[c]⟩ ∧ y = .str z ∧ Q (.bl (!decide (c ∈ z.cps.toList))) H) := by
  intro pins s σ H x y v u Q I rx ry h
  obtain ⟨c, z, rfl, rfl, q⟩ := h
  obtain ⟨t, rfl⟩ := rx
  obtain ⟨t', rfl⟩ := ry
  exact PyProof.Rows.notIn_str (fin_bl I q (congrArg Bool.not (PySem.StrLaws.found_one z c).symm))
end

/-! ### slices of a text -/
theorem IsPart.raw {v : Value} {o : Option Int} (p : IsPart v o) : ∃ l : Option (Int × Tok), v = partValue l ∧ l.map (·.1) = o := by
  cases p with
  | none => exact ⟨none, rfl, rfl⟩
  | int i t => exact ⟨some (i, t), rfl, rfl⟩

/-- a part, clipped, as the text's slice reckons it -/
def clipS (n d : Nat) : Option Int → Int
  | none => (d : Int)
  | some i => max 0 (min (if i < 0 then i + (n : Int) else i) (n : Int))
theorem clipS_eq (n d : Nat) (o : Option Int) : clipS n d o = ((HT.sIx n d o : Nat) : Int) := by
  cases o with
  | none => rfl
  | some v =>
    show max (0 : Int) (min (if v < 0 then v + (n : Int) else v) (n : Int)) = (((if v < 0 then (v + (n : Int)).toNat else min v.toNat n) : Nat) : Int)
    by_cases hv : v < 0
    · simp only [if_pos hv]
      omega
    · simp only [if_neg hv]
      omega
theorem sidx_clip (a b : Option Int) (n : Nat) : Builtin.Str.strSliceIndices a b 1 n = sliceRange (clipS n 0 a) (clipS n n b) 1 := by
  have h1 : ((1 : Int) > 0) = True := by simp
  cases a <;> cases b <;> first
    | rfl
    | (simp only [Builtin.Str.strSliceIndices, clipS, h1, if_true]; rfl)
    | simp [Builtin.Str.strSliceIndices, clipS]
theorem sidx (a b : Option Int) (n : Nat) : Builtin.Str.strSliceIndices a b 1 n = (List.range (HT.sIx n n b - HT.sIx n 0 a)).map (fun k => HT.sIx n 0 a + k) := by
  rw [sidx_clip, clipS_eq, clipS_eq]
  generalize HT.sIx n 0 a = p
  generalize HT.sIx n n b = q
  simp only [sliceRange, show ((1 : Int) > 0) = True from by simp, if_true]
  by_cases hlt : (p : Int) < q
  · have e3 : (((q : Int) - p + 1 - 1) / 1).toNat = q - p := by first | omega | (simp; done) | (simp; omega)
    simp only [hlt, if_true, e3]
    refine List.map_congr_left fun k _ => ?_
    omega
  · have : q - p = 0 := by omega
    simp [hlt, this]

/-- z[lo:hi] -/
def cutS (z : Str) (lo hi : Option Int) : Str :=
  ⟨((z.cps.toList.drop (HT.sIx z.length 0 lo)).take (HT.sIx z.length z.length hi - HT.sIx z.length 0 lo)).toArray⟩
theorem sliceText_cut (z : Str) (lo hi : Option Int) : PySem.StrLaws.sliceText z lo hi = cutS z lo hi := by
  have h1 : HT.sIx z.length 0 lo ≤ z.length := HT.sIx_le _ _ (Nat.zero_le _) _
  have h2 : HT.sIx z.length z.length hi ≤ z.length := HT.sIx_le _ _ (Nat.le_refl _) _
  have hp : HT.sIx z.length 0 lo ≤ max (HT.sIx z.length 0 lo) (HT.sIx z.length z.length hi) := Nat.le_max_left _ _
  have hq : max (HT.sIx z.length 0 lo) (HT.sIx z.length z.length hi) ≤ z.length := Nat.max_le.mpr ⟨h1, h2⟩
  have hd : max (HT.sIx z.length 0 lo) (HT.sIx z.length z.length hi) - HT.sIx z.length 0 lo = HT.sIx z.length z.length hi - HT.sIx z.length 0 lo := by omega
  have e : Builtin.Str.strSliceIndices lo hi 1 z.length =
      Builtin.Str.strSliceIndices (some ((HT.sIx z.length 0 lo : Nat) : Int)) (some ((max (HT.sIx z.length 0 lo) (HT.sIx z.length z.length hi) : Nat) : Int)) 1 z.length := by
    rw [PySem.StrLaws.strSliceIndices_plain hp hq, hd, sidx]
  have e2 : PySem.StrLaws.sliceText z lo hi =
      PySem.StrLaws.sliceText z (some ((HT.sIx z.length 0 lo : Nat) : Int)) (some ((max (HT.sIx z.length 0 lo) (HT.sIx z.length z.length hi) : Nat) : Int)) := by
    unfold PySem.StrLaws.sliceText
    rw [e]
  rw [e2, PySem.StrLaws.sliceText_nat z hp hq, hd]
  rfl
theorem cutS_length (z : Str) (lo hi : Option Int) : (cutS z lo hi).length ≤ z.length := by
  show (((z.cps.toList.drop (HT.sIx z.length 0 lo)).take (HT.sIx z.length z.length hi - HT.sIx z.length 0 lo)).toArray).size ≤ z.cps.size
  rw [List.size_toArray, List.length_take, List.length_drop, Array.length_toList]
  omega
def rSlS : V → Option Int → Option Int → Hp → VK → Prop := fun x lo hi H Q => ∃ z, x = .str z ∧ z.length ≤ sizeLine ∧ Q (.str (cutS z lo hi)) H
theorem sl_str {X : Cx} : SlR X rSlS := by
  intro pins s σ H x v vl vu lo hi sl Q I rx hs pl pu h
  obtain ⟨z, rfl, hz, q⟩ := h
  obtain ⟨t, rfl⟩ := rx
  obtain ⟨os, hos, hcs, hds⟩ := hs
  obtain ⟨l, rfl, rfl⟩ := IsPart.raw pl
  obtain ⟨u, rfl, rfl⟩ := IsPart.raw pu
  refine ⟨"str", _, F.slot_str_getitem.lookup, typeIs_str _ _ _, ?_⟩
  refine wpAny_getItem_str_slice (l := l) (u := u) (st := none) ⟨os, hos, hcs, hds⟩ rfl ?_
  have hl : (PySem.StrLaws.sliceText z (l.map (·.1)) (u.map (·.1))).length ≤ sizeLine := by
    rw [sliceText_cut]
    exact Nat.le_trans (cutS_length z _ _) hz
  rw [← sliceText_cut] at q
  unfold PySem.StrLaws.sliceText at q hl
  show Made.post (if ((1 : Int) == 1 && (Builtin.Str.strSliceIndices (l.map (·.1)) (u.map (·.1)) 1 z.length).length == z.length) = true then Made.val (.str z t)
    else Made.str ⟨((Builtin.Str.strSliceIndices (l.map (·.1)) (u.map (·.1)) 1 z.length).filterMap (z.cps[·]?)).toArray⟩) (EP X pins σ Q) s
  by_cases c : ((1 : Int) == 1 && (Builtin.Str.strSliceIndices (l.map (·.1)) (u.map (·.1)) 1 z.length).length == z.length) = true
  · rw [if_pos c] at q ⊢
    exact ⟨.str z, H, I, ⟨t, rfl⟩, q⟩
  · rw [if_neg c] at q hl ⊢
    exact ⟨hl, .str _, H, I.tok _, ⟨_, rfl⟩, q⟩
end L2

namespace Att
open PySem PySem.W PySem.Calls PyProof.Rows

/-! ### the script -/
/-! ### the attachment: holds_open's last premise (the goal 'hc' behind k_head) from a wpAny of the law's body -/
/-! ### rules over ANY heap (no ledger) from facts about the written part K: the library's own take a ledger (News) for what they write -/
section
variable {prog : Program} {w : World} {A : Around} {E : Value → Shared → Prop} {s : Shared} {K : Frag}

/-! the whole heap as the ledger: makes every rule that writes through a ledger a rule over any heap -/
end
end Att

namespace L2
open PySem PySem.Spec PyProof.Rows

end L2

namespace L2
open PySem PySem.Spec PyProof.Rows

end L2


/-! SHORT WORDS over the layer: a def of the text, its body, what a loop and a test want. -/
namespace L2
open PySem PySem.Spec PyProof.Rows

/-! ### the text by places -/
/-- the j-th statement of a class's body -/
def inClass (s : Stmt) (j : Nat) : Stmt := match s with
  | .ClassDef _ _ _ body _ _ _ _ _ _ _ => body.getD j (.Pass ⟨0, 0, 0, 0⟩)
  | _ => .Pass ⟨0, 0, 0, 0⟩
def defArgs (s : Stmt) : Arguments := match s with
  | .FunctionDef _ a _ _ _ _ _ _ _ _ => a
  | _ => { posonlyargs := [], args := [], vararg := none, kwonlyargs := [], kw_defaults := [], kwarg := none, defaults := [] }
def defBody (s : Stmt) : List Stmt := match s with
  | .FunctionDef _ _ b _ _ _ _ _ _ _ => b
  | _ => []
def defScope (s : Stmt) : Scope := match s with
  | .FunctionDef _ _ _ _ _ _ sc _ _ _ => sc
  | _ => { kind := .function, names := [], isGenerator := false, isCoroutine := false }

/-! ### no exception leaves a def -/
abbrev CX0 : CXT := fun _ _ _ _ _ _ => False
abbrev E0 : XK := fun _ _ _ => False
theorem pass0 {X : Cx} : Passes CX0 X E0 := fun _ _ _ _ _ _ _ h => h.elim

/-! ### a def (or method) of the text as it stands behind the top -/
structure Fun (K : PySem.W.Frag) (x qual : Str) (st : Stmt) (f : Addr) (fd : FuncData) : Prop where
  ex : ∃ (oc : Value) (od : Option Addr) (kV doc pm : Value) (an : Option Addr) (cdv ct : Value) (osl : Array (Option Value)),
    fd = PySem.W.fnOf x qual (defArgs st) (defBody st) (defScope st) .none kV doc pm an cdv ct ∧ K.lookup f = some ⟨oc, od, .func fd, osl⟩ ∧ PySem.W.codeIn K cdv qual = true
  kp : PySem.W.keepIn K (.ref f) = true
section
variable {P : Program} {w : World} {K : PySem.W.Frag} {mg : Str → Option Value} {base : Heap}
/-- THE RULE for a def: its body as a term of rules, and the reading of that term -/
theorem Fun.ok {x qual : Str} {st : Stmt} {f : Addr} {fd : FuncData} {N ps : List Str} {k : Nat} {sp : Sp} (F : Fun K x qual st f fd) (S : FnScope N ps (defScope st)) (len : ∀ vs H Q E, sp vs H Q E → vs.length = ps.length)
    (hbody : ∀ (cdv : Value) (A : Around) (outer : List Env) (s : Shared) (H : Hp) (vs : List V) (Q : VK) (E : XK), Room k (A.deeper (envOfC qual (defScope st) s.heap.objs.size f cdv)) → sp vs H Q E →
      ∃ t, PSs (cxOf CX0 P w K mg base N qual (defScope st) f cdv A outer s H E).nox (defBody st) t ∧ t { nx := fun _ H' => Q .non H', rt := Q } (start N vs) H) : FnOk P w K mg base CX0 (k + 1) f fd ps sp := by
  obtain ⟨oc, od, kV, doc, pm, an, cdv, ct, osl, rfl, lk, hcd⟩ := F.ex
  refine fn_of lk hcd S len fun A outer s H vs Q E hr hsp => ?_
  obtain ⟨t, h, q⟩ := hbody cdv A outer s H vs Q E hr hsp
  exact ⟨t, h.nox, q⟩
/-- how its arguments bind (no defaults): h is «fun _ _ _ _ _ _ us hl => match us, hl with | [_, _], _ => rfl», one _ a parameter -/
theorem Fun.binds {x qual : Str} {st : Stmt} {f : Addr} {fd : FuncData} {ps : List Str} (F : Fun K x qual st f fd)
    (h : ∀ (kV doc pm : Value) (an : Option Addr) (cdv ct : Value) (us : List Value), us.length = ps.length → bindArgs (PySem.W.fnOf x qual (defArgs st) (defBody st) (defScope st) .none kV doc pm an cdv ct) ⟨us, []⟩ = pure (ps.zip us)) : Binds K fd ps [] := by
  obtain ⟨oc, od, kV, doc, pm, an, cdv, ct, osl, rfl, lk, hcd⟩ := F.ex
  exact .all (h kV doc pm an cdv ct)
theorem fun_mk {x qual : Str} {st : Stmt} {f : Addr} {oc : Value} {od an : Option Addr} {osl : Array (Option Value)} {kV doc pm cdv ct : Value} (l : K.lookup f = some ⟨oc, od, .func (PySem.W.fnOf x qual (defArgs st) (defBody st) (defScope st) .none kV doc pm an cdv ct), osl⟩)
    (c : PySem.W.codeIn K cdv qual = true) (k : PySem.W.keepIn K (.ref f) = true) : Fun K x qual st f (PySem.W.fnOf x qual (defArgs st) (defBody st) (defScope st) .none kV doc pm an cdv ct) := ⟨⟨oc, od, kV, doc, pm, an, cdv, ct, osl, rfl, l, c⟩, k⟩
end
theorem hu_of {A : Around} {k : Nat} (hr : Room k A) : A.units + 1 < cLine := Nat.lt_of_le_of_lt (Nat.add_le_add_left (by decide : 1 ≤ 64) _) hr.units
/-! ### expressions in short: the name that stands in the i-th slot -/
section
variable {X : Cx}
theorem pv (i : Nat) {x : Str} {pos : Pos} (hN : X.N[i]? = some x := by rfl) (hv : Vis X.env.scope x := by first | exact Or.inl rfl | exact Or.inr (Or.inl rfl) | exact Or.inr (Or.inr rfl)) (hd : (x == ("__debug__" : Str)) = false := by decide)
    (hcd : (x == ("__classdict__" : Str)) = false := by decide) : PE X (.Name x pos) (tVar i) := pe_var hN hv hd hcd
end

/-! ### tests -/
theorem iteF {A B : Prop} (h : B) : if false = true then A else B := by
  rw [if_neg Bool.false_ne_true]
  exact h
theorem iteT {A B : Prop} (h : A) : if true = true then A else B := by
  rw [if_pos rfl]
  exact h
theorem ite2 {c A B : Prop} [Decidable c] (h1 : c → A) (h2 : ¬ c → B) : if c then A else B := by
  by_cases h : c
  · rw [if_pos h]
    exact h1 h
  · rw [if_neg h]
    exact h2 h
/-! ### heaps -/
/-- all that was tracked is as it was -/
def Same (H H' : Hp) : Prop := ∀ b o, H b = some o → H' b = some o
theorem Same.refl (H : Hp) : Same H H := fun _ _ h => h
theorem Same.trans {H H1 H2 : Hp} (a : Same H H1) (b : Same H1 H2) : Same H H2 := fun c o h => b c o (a c o h)
theorem Same.free {H H' : Hp} (e : Same H H') {l : Addr} (h : H' l = Option.none) : H l = Option.none := by
  cases q : H l with
  | none => rfl
  | some o =>
    rw [e l o q] at h
    cases h
theorem Same.seq {K : PySem.W.Frag} {H H' : Hp} {a : Addr} {xs : List V} (e : Same H H') (h : SqL K H a xs) : SqL K H' a xs := by
  rcases h with (h | ⟨o, h⟩) | h
  · exact .inl (.inl (e _ _ h))
  · exact .inl (.inr ⟨o, e _ _ h⟩)
  · exact .inr h

/-! ### a dict's pairs: keys that differ -/
section
variable {κ : Type} [DecidableEq κ]
end
/-! ### lists -/
/-- a new instance and its __init__ leave all that was tracked as it was -/
theorem Same.made {H H1 : Hp} {x dx C : Addr} (nx : H x = Option.none) (nd : H dx = Option.none) (k : ∀ b o, (upd (upd H dx (.own x)) x (.ins C dx [])) b = some o → b ≠ x → H1 b = some o) : Same H H1 := fun b o e =>
  k b o (by rw [upd_ne (ne_of_none e nx), upd_ne (ne_of_none e nd)]; exact e) (ne_of_none e nx)
end L2


end
section
section
set_option Elab.async false
set_option linter.all false
set_option maxRecDepth 100000
set_option maxHeartbeats 2000000
namespace L2
open PySem PySem.Spec PyProof.Rows
open PySem.W (WData Codec OpenSpec Well WellAll ReadsW ReadsAllW)
/-! ### an answer as data -/
mutual
/-- x stands for the datum d, lists and tuples all the way -/
inductive Dw (K : PySem.W.Frag) (H : Hp) : V → WData → Prop
  | non : Dw K H .non .none
  | bl (b : Bool) : Dw K H (.bl b) (.bool b)
  | int (i : Int) : Dw K H (.int i) (.int i)
  | str (x : Str) : Dw K H (.str x) (.str x)
  | byt (b : Array UInt8) : Dw K H (.byt b) (.bytes b.toList)
  | lst {a : Addr} {xs : List V} {ds : List WData} : SqL K H a xs → DwAll K H xs ds → Dw K H (.ref a) (.list ds)
  | tup {a : Addr} {xs : List V} {ds : List WData} : SqT K H a xs → DwAll K H xs ds → Dw K H (.ref a) (.tuple ds)
inductive DwAll (K : PySem.W.Frag) (H : Hp) : List V → List WData → Prop
  | nil : DwAll K H [] []
  | cons {v : V} {vs : List V} {d : WData} {ds : List WData} : Dw K H v d → DwAll K H vs ds → DwAll K H (v :: vs) (d :: ds)
end
theorem dw_ints {K : PySem.W.Frag} {H : Hp} : ∀ ns : List Int, DwAll K H (ns.map V.int) (ns.map WData.int)
  | [] => .nil
  | n :: r => .cons (.int n) (dw_ints r)
theorem ints_dw {K : PySem.W.Frag} {H : Hp} : ∀ (ns : List Int) (xs : List V), DwAll K H xs (ns.map WData.int) → xs = ns.map V.int
  | [], xs, h => by
    cases h
    rfl
  | n :: r, xs, h => by
    cases h with
    | cons h1 h2 =>
      cases h1
      rw [ints_dw r _ h2] <;> rfl
section
variable {P : Program} {w : World} {K : PySem.W.Frag} {H : Hp} {h : Heap} {R : PySem.W.WRecords} {cl : Str → Option Addr}
theorem sqL_at {a : Addr} {xs : List V} (hok : HOk P w H h) (KX : K.In h) (q : SqL K H a xs) : ∃ (its : List Value) (o : Obj) (n : Nat), Vals xs its ∧ h.get? a = some o ∧ o.cls = .type "list" ∧ o.data = .seq its.toArray n := by
  rcases q with q | ⟨o, its, n, e, hc, _, hd, _, hv⟩
  · obtain ⟨_, its, n, hv, e⟩ := (show ObjOk P w H h a (.lst xs) from q.ok hok)
    exact ⟨its, _, n, hv, e, rfl, rfl⟩
  · exact ⟨its.toList, o, n, hv, KX _ _ e, hc, by simp [hd]⟩
theorem sqT_at {a : Addr} {xs : List V} (hok : HOk P w H h) (KX : K.In h) (q : SqT K H a xs) : ∃ (its : List Value) (o : Obj) (n : Nat), Vals xs its ∧ h.get? a = some o ∧ o.cls = .type "tuple" ∧ o.data = .seq its.toArray n := by
  rcases q with q | ⟨o, its, n, e, hc, hd, _, hv⟩
  · obtain ⟨_, its, hv, o, e, hc, n, hd⟩ := (show ObjOk P w H h a (.tup xs) from q.ok hok)
    exact ⟨its, o, n, hv, e, hc, hd⟩
  · exact ⟨its.toList, o, n, hv, KX _ _ e, hc, by simp [hd]⟩
mutual
theorem Dw.reads (hok : HOk P w H h) (KX : K.In h) : ∀ (d : WData) (v : V) (u : Value), Dw K H v d → RelV v u → ∃ as, ReadsW R cl h u d as
  | .none, _, _, x, r => by
    cases x
    cases r
    exact ⟨_, ReadsW.none⟩
  | .bool b, _, _, x, r => by
    cases x
    cases r
    exact ⟨_, ReadsW.bool b⟩
  | .int i, _, _, x, r => by
    cases x
    obtain ⟨t, rfl⟩ := r
    exact ⟨_, ReadsW.int i t⟩
  | .str s, _, _, x, r => by
    cases x
    obtain ⟨t, rfl⟩ := r
    exact ⟨_, ReadsW.str s t⟩
  | .bytes b, _, _, x, r => by
    cases x
    obtain ⟨t, rfl⟩ := r
    exact ⟨_, ReadsW.bytes _ t⟩
  | .list ds, _, _, x, r => by
    cases x with
    | lst hs ha =>
      cases r
      obtain ⟨its, o, n, rv, ho, hc, hd⟩ := sqL_at hok KX hs
      obtain ⟨as, hr⟩ := Dw.readsAll hok KX ds _ its ha rv
      exact ⟨_, ReadsW.list ho hc hd hr⟩
  | .tuple ds, _, _, x, r => by
    cases x with
    | tup hs ha =>
      cases r
      obtain ⟨its, o, n, rv, ho, hc, hd⟩ := sqT_at hok KX hs
      obtain ⟨as, hr⟩ := Dw.readsAll hok KX ds _ its ha rv
      exact ⟨_, ReadsW.tuple ho hc hd hr⟩
  | .float _, _, _, x, _ => by cases x
  | .dict _, _, _, x, _ => by cases x
  | .bytearray _, _, _, x, _ => by cases x
  | .set _, _, _, x, _ => by cases x
  | .frozenset _, _, _, x, _ => by cases x
  | .obj _ _, _, _, x, _ => by cases x
theorem Dw.readsAll (hok : HOk P w H h) (KX : K.In h) : ∀ (ds : List WData) (vs : List V) (us : List Value), DwAll K H vs ds → Vals vs us → ∃ as, ReadsAllW R cl h us ds as
  | [], _, _, x, r => by
    cases x
    cases r
    exact ⟨_, ReadsAllW.nil⟩
  | d :: ds, _, _, x, r => by
    cases x with
    | cons h1 h2 =>
      cases r with
      | cons r1 r2 =>
        obtain ⟨as, q1⟩ := Dw.reads hok KX d _ _ h1 r1
        obtain ⟨bs, q2⟩ := Dw.readsAll hok KX ds _ _ h2 r2
        exact ⟨_, ReadsAllW.cons q1 q2⟩
end
end
/-! ### the arguments -/
mutual
/-- data that a codec tells -/
def plW : WData → Bool
  | .none => true
  | .bool _ => true
  | .int _ => true
  | .str _ => true
  | .bytes _ => true
  | .list xs => plWs xs
  | .tuple xs => plWs xs
  | _ => false
def plWs : List WData → Bool
  | [] => true
  | x :: r => plW x && plWs r
end
theorem plWs_map {α : Type} {f : α → WData} (h : ∀ a, plW (f a) = true) : ∀ l : List α, plWs (l.map f) = true
  | [] => rfl
  | x :: r => by
    show (plW (f x) && plWs (r.map f)) = true
    rw [h x, plWs_map h r] <;> rfl
theorem pl_enc : ∀ (c : Codec) (a : c.denote), plW (c.enc a) = true
  | .unit, _ => rfl
  | .bool, _ => rfl
  | .int _ _, _ => rfl
  | .nat _ _, _ => rfl
  | .u8, _ => rfl
  | .bytes _ _, _ => rfl
  | .text _ _ _ _, _ => rfl
  | .list _ _ c, a => plWs_map (fun x => pl_enc c x) a
  | .pair c d, a => by
    show (plW (c.enc a.1) && (plW (d.enc a.2) && true)) = true
    rw [pl_enc c a.1, pl_enc d a.2] <;> rfl
  | .triple c d e, a => by
    show (plW (c.enc a.1) && (plW (d.enc a.2.1) && (plW (e.enc a.2.2) && true))) = true
    rw [pl_enc c a.1, pl_enc d a.2.1, pl_enc e a.2.2] <;> rfl
  | .option c, none => rfl
  | .option c, some x => pl_enc c x
theorem pl_encAll : ∀ (cs : List Codec) (a : Codec.denoteAll cs), plWs (Codec.encAll cs a) = true
  | [], _ => rfl
  | c :: cs, a => by
    show (plW (c.enc a.1) && plWs (Codec.encAll cs a.2)) = true
    rw [pl_enc c a.1, pl_encAll cs a.2] <;> rfl
theorem weight_mem : ∀ {xs : List WData} {d : WData}, d ∈ xs → d.weight ≤ WData.weightAll xs
  | [], d, h => absurd h (by simp)
  | x :: r, d, h => by
    show d.weight ≤ x.weight + 1 + WData.weightAll r
    rcases List.mem_cons.mp h with e | m
    · rw [e]
      omega
    · have z := weight_mem m
      omega
def toV : Value → V
  | .none => .non
  | .bool b => .bl b
  | .int i _ => .int i
  | .str x _ => .str x
  | .bytes b _ => .byt b
  | .ref a => .ref a
  | _ => .non
/-- a value of the arguments, its objects among A -/
def OkU (A : List Addr) : Value → Prop
  | .none => True
  | .bool _ => True
  | .int _ _ => True
  | .str _ _ => True
  | .bytes _ _ => True
  | .ref a => a ∈ A
  | _ => False
theorem OkU.mono {A B : List Addr} (h : ∀ a ∈ A, a ∈ B) : ∀ {u : Value}, OkU A u → OkU B u := fun {u} x => by
  cases u with
  | ref a => exact h a x
  | none => trivial
  | bool b => trivial
  | int i t => trivial
  | str s t => trivial
  | bytes b t => trivial
  | _ => exact False.elim x
theorem relV_toV {A : List Addr} {u : Value} (x : OkU A u) : RelV (toV u) u := by
  cases u with
  | ref a => rfl
  | none => rfl
  | bool b => rfl
  | int i t => exact ⟨t, rfl⟩
  | str s t => exact ⟨t, rfl⟩
  | bytes b t => exact ⟨t, rfl⟩
  | _ => exact False.elim x
theorem vals_toV {A : List Addr} : ∀ {vs : List Value}, (∀ u ∈ vs, OkU A u) → Vals (vs.map toV) vs
  | [], _ => .nil
  | u :: r, h => .cons (relV_toV (h u (List.mem_cons_self ..))) (vals_toV fun x hx => h x (List.mem_cons_of_mem _ hx))
/-- an object of the arguments -/
def ArgOb (h : Heap) (A : List Addr) (a : Addr) : Prop := ∃ vs : List Value, vs.length ≤ sizeLine ∧ (∀ u ∈ vs, OkU A u) ∧
  (h.get? a = some { cls := .type "list", data := .seq vs.toArray } ∨ h.get? a = some { cls := .type "tuple", data := .seq vs.toArray })
theorem ArgOb.mono {h : Heap} {A B : List Addr} {a : Addr} (k : ∀ a ∈ A, a ∈ B) (x : ArgOb h A a) : ArgOb h B a := by
  obtain ⟨vs, h1, h2, h3⟩ := x
  exact ⟨vs, h1, fun u hu => (h2 u hu).mono k, h3⟩
theorem wellAll_len {P : Params} {h : Heap} : ∀ {vs : List Value} {ds : List WData}, WellAll P h vs ds → vs.length = ds.length
  | _, _, .nil => rfl
  | _, _, .cons _ b => by
    show _ + 1 = _ + 1
    rw [wellAll_len b]
theorem well_list {P : Params} {h : Heap} {v : Value} {ds : List WData} (x : Well P h v (.list ds)) : ∃ (a : Addr) (vs : List Value), v = .ref a ∧ h.get? a = some { cls := .type "list", data := .seq vs.toArray } ∧ WellAll P h vs ds := by
  cases x with
  | list ho hall => exact ⟨_, _, rfl, ho, hall⟩
theorem well_tuple {P : Params} {h : Heap} {v : Value} {ds : List WData} (x : Well P h v (.tuple ds)) : ∃ (a : Addr) (vs : List Value), v = .ref a ∧ h.get? a = some { cls := .type "tuple", data := .seq vs.toArray } ∧ WellAll P h vs ds := by
  cases x with
  | tuple ho hall => exact ⟨_, _, rfl, ho, hall⟩
theorem well_cons {P : Params} {h : Heap} {us : List Value} {d : WData} {ds : List WData} (x : WellAll P h us (d :: ds)) : ∃ (v : Value) (vs : List Value), us = v :: vs ∧ Well P h v d ∧ WellAll P h vs ds := by
  cases x with
  | cons a b => exact ⟨_, _, rfl, a, b⟩
theorem line_of {n : Nat} (h : n ≤ 1048576) : n ≤ sizeLine := Nat.le_trans h (by decide)
section
variable {P : Params} {h : Heap}
mutual
theorem area_one : ∀ (d : WData) (v : Value), Well P h v d → plW d = true → d.weight ≤ 1048576 → ∃ A : List Addr, OkU A v ∧ ∀ a ∈ A, ArgOb h A a
  | .none, _, x, _, _ => by
    cases x
    exact ⟨[], trivial, fun a m => absurd m (by simp)⟩
  | .bool b, _, x, _, _ => by
    cases x
    exact ⟨[], trivial, fun a m => absurd m (by simp)⟩
  | .int i, _, x, _, _ => by
    cases x
    exact ⟨[], trivial, fun a m => absurd m (by simp)⟩
  | .str s, _, x, _, _ => by
    cases x
    exact ⟨[], trivial, fun a m => absurd m (by simp)⟩
  | .bytes b, _, x, _, _ => by
    cases x
    exact ⟨[], trivial, fun a m => absurd m (by simp)⟩
  | .list ds, _, x, p, z => by
    obtain ⟨a, vs, rfl, ho, hall⟩ := well_list x
    have z2 : WData.weightAll ds ≤ 1048576 := z
    obtain ⟨A, h1, h2⟩ := area_all ds _ hall p fun d hd => Nat.le_trans (weight_mem hd) z2
    have k : ∀ b ∈ A, b ∈ a :: A := fun b hb => List.mem_cons_of_mem _ hb
    refine ⟨a :: A, List.mem_cons_self .., fun b hb => ?_⟩
    rcases List.mem_cons.mp hb with e | m
    · rw [e]
      exact ⟨vs, line_of (by rw [wellAll_len hall]; exact Nat.le_trans (PySem.W.length_le_weightAllW ds) z2), fun u hu => (h1 u hu).mono k, .inl ho⟩
    · exact (h2 b m).mono k
  | .tuple ds, _, x, p, z => by
    obtain ⟨a, vs, rfl, ho, hall⟩ := well_tuple x
    have z2 : WData.weightAll ds ≤ 1048576 := z
    obtain ⟨A, h1, h2⟩ := area_all ds _ hall p fun d hd => Nat.le_trans (weight_mem hd) z2
    have k : ∀ b ∈ A, b ∈ a :: A := fun b hb => List.mem_cons_of_mem _ hb
    refine ⟨a :: A, List.mem_cons_self .., fun b hb => ?_⟩
    rcases List.mem_cons.mp hb with e | m
    · rw [e]
      exact ⟨vs, line_of (by rw [wellAll_len hall]; exact Nat.le_trans (PySem.W.length_le_weightAllW ds) z2), fun u hu => (h1 u hu).mono k, .inr ho⟩
    · exact (h2 b m).mono k
  | .float _, _, _, p, _ => Bool.noConfusion (show false = true from p)
  | .dict _, _, _, p, _ => Bool.noConfusion (show false = true from p)
  | .bytearray _, _, _, p, _ => Bool.noConfusion (show false = true from p)
  | .set _, _, _, p, _ => Bool.noConfusion (show false = true from p)
  | .frozenset _, _, _, p, _ => Bool.noConfusion (show false = true from p)
  | .obj _ _, _, _, p, _ => Bool.noConfusion (show false = true from p)
theorem area_all : ∀ (ds : List WData) (vs : List Value), WellAll P h vs ds → plWs ds = true → (∀ d ∈ ds, d.weight ≤ 1048576) → ∃ A : List Addr, (∀ u ∈ vs, OkU A u) ∧ ∀ a ∈ A, ArgOb h A a
  | [], _, x, _, _ => by
    cases x
    exact ⟨[], fun u m => absurd m (by simp), fun a m => absurd m (by simp)⟩
  | d :: ds, _, x, p, z => by
    obtain ⟨v, vs, rfl, x1, x2⟩ := well_cons x
    have q : plW d = true ∧ plWs ds = true := Bool.and_eq_true_iff.mp p
    obtain ⟨A, a1, a2⟩ := area_one d v x1 q.1 (z d (List.mem_cons_self ..))
    obtain ⟨B, b1, b2⟩ := area_all ds vs x2 q.2 fun e he => z e (List.mem_cons_of_mem _ he)
    have kA : ∀ b ∈ A, b ∈ A ++ B := fun b hb => List.mem_append.mpr (.inl hb)
    have kB : ∀ b ∈ B, b ∈ A ++ B := fun b hb => List.mem_append.mpr (.inr hb)
    refine ⟨A ++ B, fun u hu => ?_, fun b hb => ?_⟩
    · rcases List.mem_cons.mp hu with e | m
      · rw [e]
        exact a1.mono kA
      · exact (b1 u m).mono kB
    · rcases List.mem_append.mp hb with m | m
      · exact (a2 b m).mono kA
      · exact (b2 b m).mono kB
end
end
/-- what is tracked of an argument's object -/
def hoOf (o : Obj) : Option HO := match o.data with
  | .seq vs _ => if (o.cls == Value.type "list") = true then some (.frz o (.lst (vs.toList.map toV))) else some (.frz o (.tup (vs.toList.map toV)))
  | _ => none
def argH (K : PySem.W.Frag) (h : Heap) (A : List Addr) : Hp := fun b => if b ∈ A then (if (K.lookup b).isNone = true then (h.get? b).bind hoOf else none) else none
/-- nothing is tracked but what is known to the object -/
def OnlyF (H : Hp) : Prop := ∀ b, H b = none ∨ ∃ o u, H b = some (.frz o u)
theorem hoOf_lst (vs : List Value) : hoOf { cls := .type "list", data := .seq vs.toArray } = some (.frz { cls := .type "list", data := .seq vs.toArray } (.lst (vs.map toV))) := by
  show (if (Value.type "list" == Value.type "list") = true then some (HO.frz { cls := .type "list", data := .seq vs.toArray } (.lst (vs.toArray.toList.map toV))) else some (HO.frz { cls := .type "list", data := .seq vs.toArray } (.tup (vs.toArray.toList.map toV)))) = _
  rw [if_pos (beq_self_eq_true _)]
theorem hoOf_tup (vs : List Value) : hoOf { cls := .type "tuple", data := .seq vs.toArray } = some (.frz { cls := .type "tuple", data := .seq vs.toArray } (.tup (vs.map toV))) := by
  show (if (Value.type "tuple" == Value.type "list") = true then some (HO.frz { cls := .type "tuple", data := .seq vs.toArray } (.lst (vs.toArray.toList.map toV))) else some (HO.frz { cls := .type "tuple", data := .seq vs.toArray } (.tup (vs.toArray.toList.map toV)))) = _
  rw [if_neg (by decide)]
section
variable {P : Program} {w : World} {K : PySem.W.Frag} {h : Heap} {A : List Addr}
theorem argH_at {b : Addr} {o : Obj} (hb : b ∈ A) (hk : K.lookup b = none) (e : h.get? b = some o) : argH K h A b = hoOf o := by
  unfold argH
  rw [if_pos hb, hk, if_pos (show (none : Option Obj).isNone = true from rfl), e] <;> rfl
theorem of_argH {b : Addr} {u : HO} (q : argH K h A b = some u) : b ∈ A ∧ K.lookup b = none := by
  unfold argH at q
  by_cases hb : b ∈ A
  · rw [if_pos hb] at q
    cases hk : K.lookup b with
    | none => exact ⟨hb, rfl⟩
    | some o =>
      rw [hk, if_neg (by simp)] at q
      cases q
  · rw [if_neg hb] at q
    cases q
/-- what stands tracked -/
theorem argH_is (ar : ∀ a ∈ A, ArgOb h A a) {b : Addr} {u : HO} (q : argH K h A b = some u) : K.lookup b = none ∧ ∃ vs : List Value, vs.length ≤ sizeLine ∧ (∀ u ∈ vs, OkU A u) ∧
    ((h.get? b = some { cls := .type "list", data := .seq vs.toArray } ∧ u = .frz { cls := .type "list", data := .seq vs.toArray } (.lst (vs.map toV))) ∨
     (h.get? b = some { cls := .type "tuple", data := .seq vs.toArray } ∧ u = .frz { cls := .type "tuple", data := .seq vs.toArray } (.tup (vs.map toV)))) := by
  obtain ⟨hb, hk⟩ := of_argH q
  obtain ⟨vs, h1, h2, h3⟩ := ar b hb
  refine ⟨hk, vs, h1, h2, ?_⟩
  rcases h3 with e | e
  · rw [argH_at hb hk e, hoOf_lst] at q
    exact .inl ⟨e, (Option.some.inj q).symm⟩
  · rw [argH_at hb hk e, hoOf_tup] at q
    exact .inr ⟨e, (Option.some.inj q).symm⟩
theorem argH_only (ar : ∀ a ∈ A, ArgOb h A a) : OnlyF (argH K h A) := fun b => by
  cases q : argH K h A b with
  | none => exact .inl rfl
  | some u =>
    obtain ⟨_, vs, _, _, ⟨_, e⟩ | ⟨_, e⟩⟩ := argH_is ar q
    · exact .inr ⟨_, _, by rw [e]⟩
    · exact .inr ⟨_, _, by rw [e]⟩
theorem argH_ok (ar : ∀ a ∈ A, ArgOb h A a) : HOk P w (argH K h A) h := fun b u q => by
  obtain ⟨_, vs, h1, h2, ⟨e, rfl⟩ | ⟨e, rfl⟩⟩ := argH_is ar q
  · exact ⟨e, by rw [List.length_map]; exact h1, vs, _, vals_toV h2, e⟩
  · exact ⟨e, by rw [List.length_map]; exact h1, vs, vals_toV h2, _, e, rfl, _, rfl⟩
theorem seq_inj {c c' : Value} {vs us : List Value} (e : (some { cls := c, data := .seq vs.toArray } : Option Obj) = some { cls := c', data := .seq us.toArray }) : c = c' ∧ vs = us := by
  have e1 := Option.some.inj e
  have e2 : c = c' := congrArg Obj.cls e1
  have e3 : Data.seq vs.toArray = Data.seq us.toArray := congrArg Obj.data e1
  injection e3 with e4
  refine ⟨e2, ?_⟩
  have e5 := congrArg Array.toList e4
  simpa using e5
/-- a list argument -/
theorem argL (KX : K.In h) (ar : ∀ a ∈ A, ArgOb h A a) {a : Addr} {vs : List Value} (ha : a ∈ A) (e : h.get? a = some { cls := .type "list", data := .seq vs.toArray }) : (∀ u ∈ vs, OkU A u) ∧ SqL K (argH K h A) a (vs.map toV) := by
  obtain ⟨us, h1, h2, h3⟩ := ar a ha
  have hu : us = vs := by
    rcases h3 with q | q
    · rw [e] at q
      exact (seq_inj q).2.symm
    · rw [e] at q
      exact absurd (Value.type.inj (seq_inj q).1) (by decide)
  subst hu
  refine ⟨h2, ?_⟩
  cases hk : K.lookup a with
  | none => exact .inl (.inr ⟨_, by rw [argH_at ha hk e, hoOf_lst]⟩)
  | some o =>
    have e2 := KX a o hk
    rw [e] at e2
    obtain rfl := Option.some.inj e2
    exact .inr ⟨_, us.toArray, _, hk, rfl, rfl, rfl, by rw [List.size_toArray]; exact h1, by simpa using vals_toV h2⟩
theorem argT (KX : K.In h) (ar : ∀ a ∈ A, ArgOb h A a) {a : Addr} {vs : List Value} (ha : a ∈ A) (e : h.get? a = some { cls := .type "tuple", data := .seq vs.toArray }) : (∀ u ∈ vs, OkU A u) ∧ SqT K (argH K h A) a (vs.map toV) := by
  obtain ⟨us, h1, h2, h3⟩ := ar a ha
  have hu : us = vs := by
    rcases h3 with q | q
    · rw [e] at q
      exact absurd (Value.type.inj (seq_inj q).1) (by decide)
    · rw [e] at q
      exact (seq_inj q).2.symm
  subst hu
  refine ⟨h2, ?_⟩
  cases hk : K.lookup a with
  | none => exact .inl (.inr ⟨_, by rw [argH_at ha hk e, hoOf_tup]⟩)
  | some o =>
    have e2 := KX a o hk
    rw [e] at e2
    obtain rfl := Option.some.inj e2
    exact .inr ⟨_, us.toArray, _, hk, rfl, rfl, by rw [List.size_toArray]; exact h1, by simpa using vals_toV h2⟩
mutual
theorem dw_one {Pm : Params} (KX : K.In h) (ar : ∀ a ∈ A, ArgOb h A a) : ∀ (d : WData) (v : Value), Well Pm h v d → plW d = true → OkU A v → Dw K (argH K h A) (toV v) d
  | .none, _, x, _, _ => by
    cases x
    exact .non
  | .bool b, _, x, _, _ => by
    cases x
    exact .bl b
  | .int i, _, x, _, _ => by
    cases x
    exact .int i
  | .str s, _, x, _, _ => by
    cases x
    exact .str s
  | .bytes b, _, x, _, _ => by
    cases x
    have z := Dw.byt (K := K) (H := argH K h A) b.toArray
    exact z
  | .list ds, _, x, p, hu => by
    obtain ⟨a, vs, rfl, ho, hall⟩ := well_list x
    obtain ⟨h2, hs⟩ := argL KX ar hu ho
    exact .lst hs (dw_all KX ar ds _ hall p h2)
  | .tuple ds, _, x, p, hu => by
    obtain ⟨a, vs, rfl, ho, hall⟩ := well_tuple x
    obtain ⟨h2, hs⟩ := argT KX ar hu ho
    exact .tup hs (dw_all KX ar ds _ hall p h2)
  | .float _, _, _, p, _ => Bool.noConfusion (show false = true from p)
  | .dict _, _, _, p, _ => Bool.noConfusion (show false = true from p)
  | .bytearray _, _, _, p, _ => Bool.noConfusion (show false = true from p)
  | .set _, _, _, p, _ => Bool.noConfusion (show false = true from p)
  | .frozenset _, _, _, p, _ => Bool.noConfusion (show false = true from p)
  | .obj _ _, _, _, p, _ => Bool.noConfusion (show false = true from p)
theorem dw_all {Pm : Params} (KX : K.In h) (ar : ∀ a ∈ A, ArgOb h A a) : ∀ (ds : List WData) (vs : List Value), WellAll Pm h vs ds → plWs ds = true → (∀ u ∈ vs, OkU A u) → DwAll K (argH K h A) (vs.map toV) ds
  | [], _, x, _, _ => by
    cases x
    exact .nil
  | d :: ds, _, x, p, hu => by
    obtain ⟨v, vs, rfl, x1, x2⟩ := well_cons x
    have q : plW d = true ∧ plWs ds = true := Bool.and_eq_true_iff.mp p
    exact .cons (dw_one KX ar d v x1 q.1 (hu _ (List.mem_cons_self ..))) (dw_all KX ar ds vs x2 q.2 fun u m => hu u (List.mem_cons_of_mem _ m))
end
end
/-! ### the call -/
theorem spec_call {P : Program} {w : World} {K : PySem.W.Frag} {mg mb : Str → Option Value} {CX : CXT} {k : Nat} {fa : Addr} {fd : FuncData} {ps : List Str} {sp : Sp} {s₁ : Shared} {vals : List Value} {ds : List WData} {R : PySem.W.WRecords} {cl : Str → Option Addr} {d0 : WData}
    (KX : K.In s₁.heap) (hns : s₁.heap.Ns mainGlobals mg) (hb : s₁.heap.Ns builtinsNs mb) (hbb : ∀ x : Str, x ≠ "__name__" → mb x = bootBuiltins x) (hlim : s₁.heap.NoLimit) (hg : s₁.gens = #[])
    (hwl : WellAll w.params s₁.heap vals ds) (hpl : plWs ds = true) (hwt : ∀ d ∈ ds, d.weight ≤ 1048576) (hr : Room k callerA)
    (F : ∀ base : Heap, K.In base → base.Ns mainGlobals mg → FnOk P w K mg base CX k fa fd ps sp) (hbind : ∀ (s : Shared) (us : List Value), us.length = ps.length → BindsTo s fd ⟨us, []⟩ (ps.zip us)) (hlen : ds.length = ps.length)
    (hsp : ∀ (H : Hp) (xs : List V), OnlyF H → DwAll K H xs ds → sp xs H (fun v H' => Dw K H' v d0) fun _ _ _ => False)
    (hCX : ∀ H e s', CX [] H s₁ (fun _ _ _ => False) e s' → False) :
    codeAny (model P w) callerA (.call (.ref fa) ⟨vals, []⟩) (fun r s' => ∃ u as, r = .ok (.ret u) ∧ ReadsW R cl s'.heap u d0 as ∧ OldK s₁.heap s'.heap ∧ s'.os = s₁.os ∧ AllBare s'.gens) s₁ := by
  obtain ⟨A, ho, ar⟩ := area_all ds vals hwl hpl hwt
  have hO : OnlyF (argH K s₁.heap A) := argH_only ar
  have hok : HOk P w (argH K s₁.heap A) s₁.heap := argH_ok ar
  have hS := dw_all KX ar ds vals hwl hpl ho
  have hV := vals_toV ho
  have hK : ∀ b u, argH K s₁.heap A b = some u → K.lookup b = none := fun b u q => (argH_is ar q).1
  have noA : ∀ {b : Addr} {o : Obj} {es : Array DictEntry} {ep : Nat}, s₁.heap.get? b = some o → o.data = .dict es ep → argH K s₁.heap A b = none := fun {b o es ep} e d => by
    cases q : argH K s₁.heap A b with
    | none => rfl
    | some u =>
      obtain ⟨_, vs, _, _, ⟨e2, _⟩ | ⟨e2, _⟩⟩ := argH_is ar q
      · rw [e2] at e
        cases e
        have d' : Data.seq vs.toArray _ = Data.dict es ep := d
        cases d'
      · rw [e2] at e
        cases e
        have d' : Data.seq vs.toArray _ = Data.dict es ep := d
        cases d'
  generalize argH K s₁.heap A = H at hO hok hS hK noA
  have base_of : ∀ {b : Addr} {o : Obj}, s₁.heap.get? b = some o → H b = none → (hidT s₁.heap H).get? b = some o := fun e n => hidT_get e n
  have nsK : ∀ {b : Addr} {m : Str → Option Value}, s₁.heap.Ns b m → (hidT s₁.heap H).Ns b m := fun {b m} ⟨o, es, ep, e, d, r⟩ => ⟨o, es, ep, base_of e (noA e d), d, r⟩
  have nK : ∀ b o, K.lookup b = some o → H b = none := fun b o e => by
    cases q : H b with
    | none => rfl
    | some u =>
      rw [hK b u q] at e
      cases e
  have hKb : K.In (hidT s₁.heap H) := fun b o e => base_of (KX b o e) (nK b o e)
  have hM : Mod K mg (hidT s₁.heap H) := ⟨hKb, nsK hns, ⟨mb, nsK hb, hbb⟩, let ⟨mc, h1, h2⟩ := hlim; ⟨mc, nsK h1, h2⟩⟩
  have e0 : Env0 P w K mg (hidT s₁.heap H) callerA [] s₁ H := ⟨rfl, hM, fun b o e => of_hidT e, Nat.le_of_eq (hidT_size _ _), trivial, fun b hb => absurd (show b ∈ ([] : List Addr) from hb) (by simp), hok, .of_eq hg⟩
  have hl : vals.length = ps.length := by rw [wellAll_len hwl]; exact hlen
  refine codeAny_mono ((F _ hKb (nsK hns)).run callerA [] s₁ H ⟨vals, []⟩ vals (vals.map toV) _ _ hr e0 (hbind s₁ vals hl) hV (hsp H _ hO hS)) fun r s' x => ?_
  cases r with
  | error e => exact (hCX H e s' x).elim
  | ok fl =>
    cases fl with
    | next => exact False.elim x
    | brk => exact False.elim x
    | cont => exact False.elim x
    | ret u =>
      obtain ⟨v, H', os, bare, un, hok', r', q⟩ := x
      have kept : ∀ b o, s₁.heap.get? b = some o → s'.heap.get? b = some o := fun b o e => by
        cases q2 : H b with
        | none => exact un.keep b o e q2 (by intro z; exact absurd (show b ∈ ([] : List Addr) from z) (by simp)) (by simp)
        | some u2 =>
          rcases hO b with z | ⟨ob, u3, z⟩
          · rw [q2] at z
            cases z
          · have z2 := un.frzs b ob _ z
            obtain ⟨e1, _⟩ := hok b _ z
            obtain ⟨e2, _⟩ := hok' b _ z2
            rw [e] at e1
            cases e1
            exact e2
      have KX' : K.In s'.heap := fun b o e => kept b o (KX b o e)
      obtain ⟨as, hrd⟩ := Dw.reads (R := R) (cl := cl) hok' KX' d0 v u q r'
      exact ⟨u, as, rfl, hrd, OldK.of_keep kept, os, bare⟩
/-! ### the row -/
theorem layable_weight {ds : List WData} (h : WData.layableAll ds = true) : ∀ d ∈ ds, d.weight ≤ 1048576 := fun d hd =>
  (PySem.W.layableW_iff.mp (List.all_eq_true.mp h d hd)).2.2
theorem encAll_len : ∀ (cs : List Codec) (a : Codec.denoteAll cs), (Codec.encAll cs a).length = cs.length
  | [], _ => rfl
  | c :: cs, a => by
    show (Codec.encAll cs a.2).length + 1 = cs.length + 1
    rw [encAll_len cs a.2]
/-- the goal that k_headS leaves (case hc), from the promise of the row's def: whatever the arguments that the codecs let and the row asks for, the def gives what stands for enc (f ..) -/
theorem walk_spec {r : OpenSpec} {k : Nat} {q : Program} {loose : List Str} {XP : (Str → Option Value) → Heap → Prop} {YP : World → Heap → Prop} {d : DefRec} {K : Params → PySem.W.Frag} {CX : World → CXT} {ps : List Str} {sp : World → Sp}
    (hwell : r.wellSaid = true) (hdf : d.params.defaults = []) (hlen : r.args.length = ps.length) (hr : Room k callerA)
    (hY : ∀ (w : World) (h : Heap), YP w h → (K w.params).In h)
    (F : ∀ (w : World) (mg : Str → Option Value) (fa : Addr) (h : Heap), YP w h → (K w.params).In h → h.Ns mainGlobals mg → mg d.name = some (.ref fa) →
      ∃ fd : FuncData, (∀ (s : Shared) (us : List Value), us.length = ps.length → BindsTo s fd ⟨us, []⟩ (ps.zip us)) ∧
        ∀ base : Heap, (K w.params).In base → base.Ns mainGlobals mg → FnOk r.prog w (K w.params) mg base (CX w) k fa fd ps (sp w))
    (hsp : ∀ (w : World) (H : Hp) (xs : List V) (a : Codec.denoteAll r.args), OnlyF H → Codec.withinAll r.args a = true → Codec.app r.args r.asked a = true → DwAll (K w.params) H xs (Codec.encAll r.args a) →
      sp w xs H (fun v H' => Dw (K w.params) H' v (r.ret.enc (Codec.app r.args r.f a))) fun _ _ _ => False)
    (hCX : ∀ (w : World) (H : Hp) (s : Shared) (e : Value) (s' : Shared), CX w [] H s (fun _ _ _ => False) e s' → False) :
    PySem.W.WalkOS q loose XP YP r d [] (fun f vs => PySem.call f vs) := by
  intro w s_0 s₁ mg mb G Y fa o pm cd doc dV kV ho hd hcd hD hmg hg args vals as hpre hlay hrd hwl hlo
  obtain ⟨a, e1, e2⟩ := PySem.W.os_pre_some hpre
  obtain ⟨e3, hwi⟩ := Codec.encAll_of_decAll r.args args a e1
  subst e3
  have KX := hY w _ Y
  obtain ⟨fd, hb, hF⟩ := F w mg fa _ Y KX G.T.g hmg
  refine PySem.W.enter_call (codeAny_mono (spec_call (R := []) (cl := classAt s_0.heap) (d0 := r.ret.enc (Codec.app r.args r.f a)) KX G.T.g G.T.b G.T.builtins G.T.nolimit hg hwl (pl_encAll _ _) (layable_weight hlay) hr hF hb (by rw [encAll_len]; exact hlen)
    (fun H xs hO hS => hsp w H xs a hO hwi e2 hS) fun H e s' => hCX w H s₁ e s') fun r' s' hq => ?_)
  obtain ⟨u, as', rfl, h1, h2, h3, h4⟩ := hq
  exact ⟨.inl ⟨u, _, as', rfl, fun _ => rfl, h1, (OpenSpec.post_iff hwell hwi _ _).mpr rfl, fun z => Bool.noConfusion (show false = true from z)⟩, h2, h3, h4⟩
/-- the same where the promise hangs on the written part alone -/
theorem walk_specK {r : OpenSpec} {k : Nat} {q : Program} {loose : List Str} {XP : (Str → Option Value) → Heap → Prop} {YP : World → Heap → Prop} {d : DefRec} {K : Params → PySem.W.Frag} {CX : CXT} {ps : List Str} {sp : PySem.W.Frag → Sp}
    (hwell : r.wellSaid = true) (hdf : d.params.defaults = []) (hlen : r.args.length = ps.length) (hr : Room k callerA)
    (hY : ∀ (w : World) (h : Heap), YP w h → (K w.params).In h)
    (F : ∀ (w : World) (mg : Str → Option Value) (fa : Addr) (h : Heap), YP w h → (K w.params).In h → h.Ns mainGlobals mg → mg d.name = some (.ref fa) →
      ∃ fd : FuncData, (∀ (s : Shared) (us : List Value), us.length = ps.length → BindsTo s fd ⟨us, []⟩ (ps.zip us)) ∧
        ∀ base : Heap, (K w.params).In base → base.Ns mainGlobals mg → FnOk r.prog w (K w.params) mg base CX k fa fd ps (sp (K w.params)))
    (hsp : ∀ (K : PySem.W.Frag) (H : Hp) (xs : List V) (a : Codec.denoteAll r.args), OnlyF H → Codec.withinAll r.args a = true → Codec.app r.args r.asked a = true → DwAll K H xs (Codec.encAll r.args a) →
      sp K xs H (fun v H' => Dw K H' v (r.ret.enc (Codec.app r.args r.f a))) fun _ _ _ => False)
    (hCX : ∀ (H : Hp) (s : Shared) (e : Value) (s' : Shared), CX [] H s (fun _ _ _ => False) e s' → False) :
    PySem.W.WalkOS q loose XP YP r d [] (fun f vs => PySem.call f vs) :=
  walk_spec (K := K) (CX := fun _ => CX) (sp := fun w => sp (K w.params)) hwell hdf hlen hr hY F (fun w H xs a h1 h2 h3 h4 => hsp (K w.params) H xs a h1 h2 h3 h4) fun _ H s e s' => hCX H s e s'
end L2
-- rests on (row put in by the clerk, for the bench that shows a file only what it spells): KE.SpHead KE.OsShapes
end

end
section
set_option maxRecDepth 10000
namespace Bt
open Lcb

/-! ### lists cut at 4,097 -/
theorem cut_len {α : Type} (l : List α) : (cut l).length ≤ 4097 := by
  unfold cut; rw [List.length_take]; exact Nat.min_le_left _ _
theorem cut_small {α : Type} {l : List α} (h : l.length ≤ 4097) : cut l = l := List.take_of_length_le h
theorem cut_cut {α : Type} (l m : List α) : cut (cut l ++ m) = cut (l ++ m) := by
  unfold cut
  rw [List.take_append, List.take_append, List.take_take, List.length_take, Nat.min_self]
  congr 2
  have : MOST = 4096 := rfl
  omega
theorem cut_cut_r {α : Type} (l m : List α) : cut (l ++ cut m) = cut (l ++ m) := by
  unfold cut
  rw [List.take_append, List.take_append, List.take_take]
  congr 2
  omega
theorem cut_map {α β : Type} (f : α → β) (l : List α) : (cut l).map f = cut (l.map f) := by
  unfold cut; rw [List.map_take]
theorem cut_idem {α : Type} (l : List α) : cut (cut l) = cut l := cut_small (cut_len l)
theorem cut_full {α : Type} {l : List α} (h : l.length = 4097) (m : List α) : cut (l ++ m) = l := by
  unfold cut
  rw [List.take_append, show MOST + 1 = l.length from h.symm, List.take_length, Nat.sub_self, List.take_zero, List.append_nil]
theorem rep_len {α : Type} (xs : List α) (k : Nat) : (List.replicate k xs).flatten.length = k * xs.length := by
  induction k with
  | zero => simp
  | succ k ih => rw [List.replicate_succ, List.flatten_cons, List.length_append, ih, Nat.succ_mul, Nat.add_comm]
theorem rep_add {α : Type} (xs : List α) (a b : Nat) : (List.replicate (a + b) xs).flatten = (List.replicate a xs).flatten ++ (List.replicate b xs).flatten := by
  rw [← List.replicate_append_replicate, List.flatten_append]
theorem rep_map {α β : Type} (f : α → β) (s : List α) (m : Nat) : (List.replicate m s).flatten.map f = (List.replicate m (s.map f)).flatten := by
  induction m with
  | zero => simp
  | succ k ih => simp only [List.replicate_succ, List.flatten_cons, List.map_append, ih]
/-- enough times: what stands behind is cut off -/
theorem cut_rep {α : Type} (xs s : List α) {a m : Nat} (h : a = m ∨ (a ≤ m ∧ 4097 ≤ xs.length + a * s.length)) : cut (xs ++ (List.replicate a s).flatten) = cut (xs ++ (List.replicate m s).flatten) := by
  rcases h with rfl | ⟨h1, h2⟩
  · rfl
  · obtain ⟨b, rfl⟩ := Nat.exists_eq_add_of_le h1
    rw [rep_add, ← List.append_assoc]
    unfold cut
    rw [List.take_append (l₁ := xs ++ (List.replicate a s).flatten)]
    have : MOST + 1 - (xs ++ (List.replicate a s).flatten).length = 0 := by
      rw [List.length_append, rep_len]
      have : MOST = 4096 := rfl
      omega
    rw [this, List.take_zero, List.append_nil]
theorem times_eq {α : Type} (m : Nat) (s : List α) : times m s = cut (List.replicate m s).flatten := by
  unfold times
  cases s with
  | nil => simp [cut]
  | cons x s =>
    rw [if_neg (by simp)]
    have key : ∀ a, a = m ∨ (a ≤ m ∧ 4097 ≤ a * (x :: s).length) → cut (List.replicate a (x :: s)).flatten = cut (List.replicate m (x :: s)).flatten := fun a h => by
      have := cut_rep ([] : List α) (x :: s) (a := a) (m := m) (by simpa using h)
      simpa using this
    refine key _ ?_
    rcases Nat.le_total m (MOST / (x :: s).length + 1) with h | h
    · left; exact Nat.min_eq_left h
    · right
      rw [Nat.min_eq_right h]
      refine ⟨h, ?_⟩
      have hp : 0 < (x :: s).length := by simp
      have := Nat.lt_mul_div_succ MOST hp
      have hm : MOST = 4096 := rfl
      rw [Nat.mul_comm]
      omega
/-- what add_times makes of its list -/
def addM {α : Type} (xs ys : List α) (m : Nat) : List α := cut (xs ++ (List.replicate m ys).flatten)

/-! ### the machine: what is worked, the repeats that aren't ended -/
structure M where
  wk : List (Act × Nat)
  stk : List (Nat × Nat)
def opStep (s : M) : Op → M
  | .acts i w => ⟨cut (s.wk ++ w.map fun x => (x, i)), s.stk⟩
  | .rep m => ⟨s.wk, (s.wk.length, m) :: s.stk⟩
  | .end_ => match s.stk with
    | [] => s
    | (n, m) :: r => ⟨addM s.wk (s.wk.drop n) (m - 1), r⟩
def runOps (s : M) (l : List Op) : M := l.foldl opStep s
theorem runOps_append (s : M) (a b : List Op) : runOps s (a ++ b) = runOps (runOps s a) b := List.foldl_append
theorem runOps_cons (s : M) (a : Op) (b : List Op) : runOps s (a :: b) = runOps (opStep s a) b := rfl

inductive Blk : List Op → List (Act × Nat) → Prop
  | nil : Blk [] []
  | acts {i : Nat} {w : Working} {b : List Op} {s : List (Act × Nat)} : Blk b s → Blk (.acts i w :: b) ((w.map fun x => (x, i)) ++ s)
  | rep {m : Nat} {b c : List Op} {s t : List (Act × Nat)} : 1 ≤ m → Blk b s → Blk c t → Blk (.rep m :: (b ++ .end_ :: c)) ((List.replicate m s).flatten ++ t)

theorem Blk.mach {b : List Op} {s : List (Act × Nat)} (h : Blk b s) : ∀ st : M, st.wk.length ≤ 4097 → runOps st b = ⟨cut (st.wk ++ s), st.stk⟩ := by
  induction h with
  | nil => intro st hl; rw [List.append_nil, cut_small hl]; rfl
  | acts h ih =>
    intro st hl
    rw [runOps_cons, ih _ (cut_len _)]
    show M.mk (cut (cut (st.wk ++ _) ++ _)) _ = _
    rw [cut_cut, List.append_assoc]
    rfl
  | @rep m b c s t hm hb hc ihb ihc =>
    intro st hl
    rw [runOps_cons, runOps_append, ihb (opStep st (.rep m)) hl, runOps_cons]
    have e : opStep ⟨cut (st.wk ++ s), (st.wk.length, m) :: st.stk⟩ .end_ = ⟨cut (st.wk ++ (List.replicate m s).flatten), st.stk⟩ := by
      show M.mk (addM _ _ _) _ = _
      congr 1
      unfold addM
      obtain ⟨k, rfl⟩ := Nat.exists_eq_add_of_le hm
      rw [Nat.add_sub_cancel_left]
      rw [show (List.replicate (1 + k) s).flatten = s ++ (List.replicate k s).flatten by rw [rep_add]; simp]
      by_cases hs : (st.wk ++ s).length ≤ 4097
      · rw [cut_small hs, List.drop_left, List.append_assoc]
      · have hf : (cut (st.wk ++ s)).length = 4097 := by
          unfold cut
          rw [List.length_take]
          have : MOST = 4096 := rfl
          omega
        rw [cut_full hf, ← List.append_assoc]
        exact ((cut_cut (st.wk ++ s) _).symm.trans (cut_full hf _)).symm
    show runOps (opStep ⟨cut (st.wk ++ s), (st.wk.length, m) :: st.stk⟩ .end_) c = _
    rw [e, ihc _ (cut_len _)]
    show M.mk (cut (cut _ ++ t)) _ = _
    rw [cut_cut, List.append_assoc]

/-! ### the specification's blocks -/
def runS (d : Done) (s : List (Act × Nat)) : Except Nat Done := match s[MOST - d.many]? with
  | some x => .error x.2
  | none => .ok ⟨(s.map (·.1)).reverse ++ d.acts, d.many + s.length⟩
theorem runS_nil (d : Done) : runS d [] = .ok d := by
  unfold runS
  simp
theorem runS_err {d : Done} {s : List (Act × Nat)} {x : Act × Nat} (h : s[MOST - d.many]? = some x) : runS d s = .error x.2 := by
  unfold runS; rw [h]
theorem runS_ok {d : Done} {s : List (Act × Nat)} (hd : d.many ≤ MOST) (h : d.many + s.length ≤ MOST) : runS d s = .ok ⟨(s.map (·.1)).reverse ++ d.acts, d.many + s.length⟩ := by
  unfold runS
  rw [List.getElem?_eq_none (by omega)]
theorem runS_append {d : Done} (hd : d.many ≤ MOST) (s t : List (Act × Nat)) : runS d (s ++ t) = (match runS d s with | .error i => .error i | .ok e => runS e t) := by
  by_cases h : d.many + s.length ≤ MOST
  · rw [runS_ok hd h]
    show runS d (s ++ t) = runS ⟨(s.map (·.1)).reverse ++ d.acts, d.many + s.length⟩ t
    unfold runS
    have e : (s ++ t)[MOST - d.many]? = t[MOST - (d.many + s.length)]? := by
      rw [List.getElem?_append_right (by omega)]
      congr 1
      omega
    simp only [e]
    cases t[MOST - (d.many + s.length)]? with
    | some x => rfl
    | none => simp [Nat.add_assoc]
  · have hlt : MOST - d.many < s.length := by omega
    have e : s[MOST - d.many]? = some s[MOST - d.many] := List.getElem?_eq_getElem hlt
    rw [runS_err e]
    have e2 : (s ++ t)[MOST - d.many]? = some s[MOST - d.many] := by
      rw [List.getElem?_append_left hlt, e]
    rw [runS_err e2]
theorem put_runS {d : Done} (hd : d.many ≤ MOST) (i : Nat) (w : Working) : put d i w = runS d (w.map fun x => (x, i)) := by
  unfold put
  by_cases h : MOST < d.many + w.length
  · rw [if_pos h]
    have hlt : MOST - d.many < w.length := by omega
    rw [runS_err (x := (w[MOST - d.many], i))]
    rw [List.getElem?_map, List.getElem?_eq_getElem hlt]
    rfl
  · rw [if_neg h, runS_ok hd (by rw [List.length_map]; omega)]
    simp [List.map_map, Function.comp_def]
theorem runS_many {d e : Done} {s : List (Act × Nat)} (hd : d.many ≤ MOST) (h : runS d s = .ok e) : e.many = d.many + s.length ∧ e.many ≤ MOST := by
  by_cases hs : d.many + s.length ≤ MOST
  · rw [runS_ok hd hs] at h
    cases h
    exact ⟨rfl, hs⟩
  · have hlt : MOST - d.many < s.length := by omega
    rw [runS_err (List.getElem?_eq_getElem hlt)] at h
    cases h
theorem again_runS {f : Done → Except Nat Done} {s : List (Act × Nat)} (hf : ∀ d : Done, d.many ≤ MOST → f d = runS d s) : ∀ (m : Nat) (d : Done), d.many ≤ MOST → again f m d = runS d (List.replicate m s).flatten
  | 0, d, _ => by rw [List.replicate_zero, List.flatten_nil, runS_nil]; rfl
  | m + 1, d, hd => by
    rw [List.replicate_succ, List.flatten_cons, runS_append hd]
    unfold again
    rw [hf d hd]
    cases h : runS d s with
    | error i => rfl
    | ok e =>
      obtain ⟨h1, h2⟩ := runS_many hd h
      show (if e.many = d.many then Except.ok e else again f m e) = runS e (List.replicate m s).flatten
      by_cases hz : s = []
      · subst hz
        rw [if_pos (by simpa using h1)]
        simp [runS_nil]
      · have : 0 < s.length := List.length_pos_iff.mpr hz
        rw [if_neg (by omega)]
        exact again_runS hf m e h2
theorem runS_min {d : Done} (hd : d.many ≤ MOST) (s : List (Act × Nat)) (m : Nat) : runS d (List.replicate (min m (MOST + 2)) s).flatten = runS d (List.replicate m s).flatten := by
  rcases Nat.le_total m (MOST + 2) with h | h
  · rw [Nat.min_eq_left h]
  · rw [Nat.min_eq_right h]
    by_cases hz : s = []
    · subst hz; simp
    · have hp : 0 < s.length := List.length_pos_iff.mpr hz
      obtain ⟨b, rfl⟩ := Nat.exists_eq_add_of_le h
      rw [rep_add s (MOST + 2) b, runS_append hd]
      have hl : MOST - d.many < (List.replicate (MOST + 2) s).flatten.length := by
        rw [rep_len]
        have : MOST + 2 ≤ (MOST + 2) * s.length := Nat.le_mul_of_pos_right _ hp
        omega
      rw [runS_err (List.getElem?_eq_getElem hl)]
def TailR (T R : List Op) : Prop := (T = [] ∧ R = []) ∨ T = .end_ :: R
theorem Blk.block {b : List Op} {s : List (Act × Nat)} (h : Blk b s) : ∀ (f : Nat) (T R : List Op), TailR T R → (b ++ T).length < f → (∀ d : Done, d.many ≤ MOST → (block f (b ++ T)).1 d = runS d s) ∧ (block f (b ++ T)).2 = R := by
  induction h with
  | nil =>
    intro f T R hT hf
    match f, hf with
    | f + 1, _ =>
      rcases hT with ⟨rfl, rfl⟩ | rfl
      · exact ⟨fun d _ => (runS_nil d).symm, rfl⟩
      · exact ⟨fun d _ => (runS_nil d).symm, rfl⟩
  | @acts i w b s h ih =>
    intro f T R hT hf
    match f, hf with
    | f + 1, hf =>
      obtain ⟨h1, h2⟩ := ih f T R hT (by simpa using hf)
      refine ⟨fun d hd => ?_, h2⟩
      show (match put d i w with | .error j => Except.error j | .ok e => (Lcb.block f (b ++ T)).1 e) = _
      rw [runS_append hd, put_runS hd]
      cases e : runS d (w.map fun x => (x, i)) with
      | error j => rfl
      | ok e' => exact h1 e' (runS_many hd e).2
  | @rep m b c s t hm hb hc ihb ihc =>
    intro f T R hT hf
    match f, hf with
    | f + 1, hf =>
      have hl : (b ++ Op.end_ :: (c ++ T)).length < f ∧ (c ++ T).length < f := by
        simp only [List.cons_append, List.append_assoc, List.length_cons, List.length_append] at hf ⊢
        omega
      obtain ⟨h1, h2⟩ := ihb f (Op.end_ :: (c ++ T)) (c ++ T) (.inr rfl) hl.1
      obtain ⟨h3, h4⟩ := ihc f T R hT hl.2
      have el : (Op.rep m :: (b ++ Op.end_ :: c)) ++ T = Op.rep m :: (b ++ Op.end_ :: (c ++ T)) := by simp
      rw [el]
      constructor
      · intro d hd
        show (match again (Lcb.block f (b ++ Op.end_ :: (c ++ T))).1 (min m (MOST + 2)) d with | .error j => Except.error j | .ok e => (Lcb.block f (Lcb.block f (b ++ Op.end_ :: (c ++ T))).2).1 e) = _
        rw [again_runS h1 _ _ hd, runS_min hd, runS_append hd, h2]
        cases e : runS d (List.replicate m s).flatten with
        | error j => rfl
        | ok e' => exact h3 e' (runS_many hd e).2
      · show (Lcb.block f (Lcb.block f (b ++ Op.end_ :: (c ++ T))).2).2 = R
        rw [h2]
        exact h4

/-! ### how deep -/
def dep : Nat → List Op → Option Nat
  | d, [] => some d
  | d, .acts _ _ :: r => dep d r
  | d, .rep m :: r => if m = 0 then none else dep (d + 1) r
  | d, .end_ :: r => match d with
    | 0 => none
    | d + 1 => dep d r
theorem dep_append : ∀ (a b : List Op) (d e : Nat), dep d a = some e → dep d (a ++ b) = dep e b
  | [], b, d, e, h => by cases h; rfl
  | .acts _ _ :: r, b, d, e, h => dep_append r b d e h
  | .rep m :: r, b, d, e, h => by
    have h' : (if m = 0 then none else dep (d + 1) r) = some e := h
    show (if m = 0 then none else dep (d + 1) (r ++ b)) = dep e b
    by_cases hm : m = 0
    · rw [if_pos hm] at h'; cases h'
    · rw [if_neg hm] at h' ⊢
      exact dep_append r b (d + 1) e h'
  | .end_ :: r, b, 0, e, h => by unfold dep at h; cases h
  | .end_ :: r, b, d + 1, e, h => dep_append r b d e h
theorem blk_of : ∀ (n : Nat) (l : List Op), l.length ≤ n → (dep 0 l = some 0 → ∃ s, Blk l s) ∧ ∀ d, dep (d + 1) l = some 0 → ∃ b c s, l = b ++ .end_ :: c ∧ Blk b s ∧ dep d c = some 0
  | n, [], _ => ⟨fun _ => ⟨[], .nil⟩, fun d h => by cases h⟩
  | n + 1, .acts i w :: r, hl => by
    have ih := blk_of n r (by simpa using hl)
    refine ⟨fun h => ?_, fun d h => ?_⟩
    · obtain ⟨s, hs⟩ := ih.1 h
      exact ⟨_, .acts hs⟩
    · obtain ⟨b, c, s, e, hb, hc⟩ := ih.2 d h
      exact ⟨.acts i w :: b, c, _, by rw [e]; rfl, .acts hb, hc⟩
  | n + 1, .rep m :: r, hl => by
    have hl' : r.length ≤ n := by simpa using hl
    have ih := blk_of n r hl'
    refine ⟨fun h => ?_, fun d h => ?_⟩
    · unfold dep at h
      by_cases hm : m = 0
      · rw [if_pos hm] at h; cases h
      rw [if_neg hm] at h
      obtain ⟨b, c, s, e, hb, hc⟩ := ih.2 0 h
      have : c.length ≤ n := by rw [e] at hl'; simp at hl'; omega
      obtain ⟨t, ht⟩ := (blk_of n c this).1 hc
      exact ⟨_, by rw [e]; exact .rep (by omega) hb ht⟩
    · unfold dep at h
      by_cases hm : m = 0
      · rw [if_pos hm] at h; cases h
      rw [if_neg hm] at h
      obtain ⟨b, c, s, e, hb, hc⟩ := ih.2 (d + 1) h
      have : c.length ≤ n := by rw [e] at hl'; simp at hl'; omega
      obtain ⟨b2, c2, s2, e2, hb2, hc2⟩ := (blk_of n c this).2 d hc
      refine ⟨.rep m :: (b ++ .end_ :: b2), c2, _, ?_, .rep (by omega) hb hb2, hc2⟩
      rw [e, e2]; simp
  | n + 1, .end_ :: r, hl => by
    refine ⟨fun h => (by cases h), fun d h => ?_⟩
    exact ⟨[], r, [], rfl, .nil, h⟩
/-- the specification's working of balanced ops, by the machine -/
theorem worked_eq {l : List Op} (h : dep 0 l = some 0) : (block (l.length + 1) l).1 ⟨[], 0⟩ = (match (runOps ⟨[], []⟩ l).wk[4096]? with
    | some x => .error x.2
    | none => .ok ⟨((runOps ⟨[], []⟩ l).wk.map (·.1)).reverse, (runOps ⟨[], []⟩ l).wk.length⟩) := by
  obtain ⟨s, hs⟩ := (blk_of l.length l (Nat.le_refl _)).1 h
  have hb := (hs.block (l.length + 1) [] [] (.inl ⟨rfl, rfl⟩) (by simp)).1 ⟨[], 0⟩ (Nat.zero_le _)
  rw [List.append_nil] at hb
  rw [hb, hs.mach ⟨[], []⟩ (Nat.zero_le _)]
  show runS ⟨[], 0⟩ s = match (cut ([] ++ s))[4096]? with | some x => _ | none => .ok ⟨((cut ([] ++ s)).map (·.1)).reverse, (cut ([] ++ s)).length⟩
  rw [List.nil_append]
  have e : (cut s)[4096]? = s[4096]? := by unfold cut; rw [List.getElem?_take]; rfl
  rw [e]
  cases h4 : s[4096]? with
  | some x => exact runS_err h4
  | none =>
    have hl : s.length ≤ 4096 := by
      have := List.getElem?_eq_none_iff.mp h4
      exact this
    rw [cut_small (by omega), runS_ok (Nat.zero_le _) (by show 0 + s.length ≤ 4096; omega)]
    simp
end Bt

end
section
set_option maxRecDepth 10000
namespace Bt
open Lcb

/-! ### signs: a byte that stands for nothing is 63 -/
def good (b : Nat) : Bool := (decide (97 ≤ b) && decide (b ≤ 122)) || ((decide (48 ≤ b) && decide (b ≤ 57)) || (decide (b = 10) || (decide (b = 32) || (decide (b = 42) || decide (b = 61)))))
def sgn (b : Nat) : Nat := if good b = true then b else 63
theorem good_iff {b : Nat} : good b = true ↔ (97 ≤ b ∧ b ≤ 122) ∨ (48 ≤ b ∧ b ≤ 57) ∨ b = 10 ∨ b = 32 ∨ b = 42 ∨ b = 61 := by
  unfold good
  simp only [Bool.or_eq_true, Bool.and_eq_true, decide_eq_true_eq]
theorem sgn_good {b : Nat} (h : good b = true) : sgn b = b := if_pos h
theorem sgn_eq {b c : Nat} (hc : good c = true) : sgn b = c ↔ b = c := by
  unfold sgn
  by_cases h : good b = true
  · rw [if_pos h]
  · rw [if_neg h]
    constructor
    · intro e; subst e; exact absurd hc (by decide)
    · intro e; subst e; exact absurd hc h
theorem sgn_digit (b : Nat) : isDigit (sgn b) = isDigit b := by
  by_cases h : good b = true
  · rw [sgn_good h]
  · have e : sgn b = 63 := if_neg h
    rw [e]
    have h' : ¬ (48 ≤ b ∧ b ≤ 57) := fun q => h (good_iff.mpr (.inr (.inl q)))
    have : isDigit b = false := by
      unfold isDigit
      rw [Bool.eq_false_iff]
      intro q
      simp only [Bool.and_eq_true, decide_eq_true_eq] at q
      exact h' q
    rw [this]; decide
theorem sgn_letter (b : Nat) : isLetter (sgn b) = isLetter b := by
  by_cases h : good b = true
  · rw [sgn_good h]
  · have e : sgn b = 63 := if_neg h
    rw [e]
    have h' : ¬ (97 ≤ b ∧ b ≤ 122) := fun q => h (good_iff.mpr (.inl q))
    have : isLetter b = false := by
      unfold isLetter
      rw [Bool.eq_false_iff]
      intro q
      simp only [Bool.and_eq_true, decide_eq_true_eq] at q
      exact h' q
    rw [this]; decide
theorem good_digit {b : Nat} (h : isDigit b = true) : good b = true := by
  unfold isDigit at h
  simp only [Bool.and_eq_true, decide_eq_true_eq] at h
  exact good_iff.mpr (.inr (.inl h))
theorem good_letter {b : Nat} (h : isLetter b = true) : good b = true := by
  unfold isLetter at h
  simp only [Bool.and_eq_true, decide_eq_true_eq] at h
  exact good_iff.mpr (.inl h)
theorem map_sgn_id : ∀ {w : Bytes}, w.all good = true → w.map sgn = w
  | [], _ => rfl
  | c :: w, h => by
    rw [List.all_cons, Bool.and_eq_true] at h
    rw [List.map_cons, sgn_good h.1, map_sgn_id h.2]
theorem map_sgn_eq : ∀ {w k : Bytes}, k.all good = true → (w.map sgn = k ↔ w = k)
  | [], [], _ => by simp
  | [], _ :: _, _ => by simp
  | _ :: _, [], _ => by simp
  | c :: w, d :: k, h => by
    rw [List.all_cons, Bool.and_eq_true] at h
    rw [List.map_cons, List.cons.injEq, List.cons.injEq, sgn_eq h.1, map_sgn_eq h.2]
theorem all_mono {p q : Nat → Bool} (h : ∀ c, p c = true → q c = true) : ∀ {w : Bytes}, w.all p = true → w.all q = true := by
  intro w hw
  rw [List.all_eq_true] at hw ⊢
  exact fun x hx => h x (hw x hx)
theorem all_map_sgn {p : Nat → Bool} (h : ∀ c, p (sgn c) = p c) (w : Bytes) : (w.map sgn).all p = w.all p := by
  rw [List.all_map]
  congr 1
  funext c
  exact h c
theorem numIn_sgn (w : Bytes) : numIn (w.map sgn) = numIn w := by
  unfold numIn
  by_cases h : w.all isDigit = true
  · rw [map_sgn_id (all_mono (fun _ => good_digit) h)]
  · rw [if_neg (by rw [all_map_sgn sgn_digit]; exact fun q => h q.2.2.1), if_neg (fun q => h q.2.2.1)]
theorem timesIn_sgn (w : Bytes) : timesIn (w.map sgn) = timesIn w := by unfold timesIn; rw [numIn_sgn]
theorem isName_all {w : Bytes} (h : isName w = true) : w.all isLetter = true := by
  unfold isName at h
  simp only [Bool.and_eq_true] at h
  exact h.2.2.1
theorem isName_map {w : Bytes} (h : isName w = true) : w.map sgn = w := map_sgn_id (all_mono (fun _ => good_letter) (isName_all h))
theorem isName_sgn (w : Bytes) : isName (w.map sgn) = isName w := by
  by_cases h : w.all isLetter = true
  · rw [map_sgn_id (all_mono (fun _ => good_letter) h)]
  · unfold isName
    rw [all_map_sgn sgn_letter, Bool.eq_false_iff.mpr h]
    simp
theorem whatIn_sgn (w : Bytes) : whatIn (w.map sgn) = whatIn w := by
  unfold whatIn
  simp only [map_sgn_eq (w := w) (show (ascii "c").all good = true by decide), map_sgn_eq (w := w) (show (ascii "t").all good = true by decide), map_sgn_eq (w := w) (show (ascii "l").all good = true by decide), map_sgn_eq (w := w) (show (ascii "r").all good = true by decide), isName_sgn]
  by_cases h : isName w = true
  · rw [isName_map h]
  · rw [if_neg h, if_neg h]
theorem ne42 (c : Nat) : (sgn c != 42) = (c != 42) := by
  by_cases h : c = 42
  · subst h; rfl
  · have h' : ¬ sgn c = 42 := fun q => h ((sgn_eq (by decide)).mp q)
    rw [bne_iff_ne.mpr h, bne_iff_ne.mpr h']
theorem takeWhile_sgn (w : Bytes) : (w.map sgn).takeWhile (fun c => c != 42) = (w.takeWhile fun c => c != 42).map sgn := by
  induction w with
  | nil => rfl
  | cons c w ih =>
    rw [List.map_cons, List.takeWhile_cons, List.takeWhile_cons, ne42, ih]
    cases (c != 42) <;> rfl
theorem dropWhile_sgn (w : Bytes) : (w.map sgn).dropWhile (fun c => c != 42) = (w.dropWhile fun c => c != 42).map sgn := by
  induction w with
  | nil => rfl
  | cons c w ih =>
    rw [List.map_cons, List.dropWhile_cons, List.dropWhile_cons, ne42, ih]
    cases (c != 42) <;> rfl
theorem contains_sgn (w : Bytes) : (w.map sgn).contains 42 = w.contains 42 := by
  rw [Bool.eq_iff_iff, List.contains_iff_mem, List.contains_iff_mem, List.mem_map]
  constructor
  · rintro ⟨c, hc, e⟩
    rw [(sgn_eq (by decide)).mp e] at hc
    exact hc
  · exact fun h => ⟨42, h, rfl⟩
theorem itemIn_sgn (w : Bytes) : itemIn (w.map sgn) = itemIn w := by
  unfold itemIn
  rw [contains_sgn, takeWhile_sgn, timesIn_sgn, dropWhile_sgn, ← List.map_drop, whatIn_sgn, whatIn_sgn]
theorem allIn_sgn {α : Type} {f : Bytes → Option α} (h : ∀ b, f (b.map sgn) = f b) : ∀ l : List Bytes, allIn f (l.map fun w => w.map sgn) = allIn f l
  | [] => rfl
  | [b] => by show (f (b.map sgn)).map _ = _; rw [h]; rfl
  | b :: c :: r => by
    have ih := allIn_sgn h (c :: r)
    show (f (b.map sgn)).bind (fun x => (allIn f ((c :: r).map fun w => w.map sgn)).map fun l => x :: l) = (f b).bind fun x => (allIn f (c :: r)).map fun l => x :: l
    rw [h, ih]
theorem wordsOf_ne (b : Bytes) : wordsOf b ≠ [] := by
  cases b with
  | nil => simp [wordsOf]
  | cons c r =>
    unfold wordsOf
    by_cases h : c = 32
    · rw [if_pos h]; simp
    · rw [if_neg h]
      cases wordsOf r <;> simp
theorem wordsOf_sgn : ∀ b : Bytes, wordsOf (b.map sgn) = (wordsOf b).map fun w => w.map sgn
  | [] => rfl
  | c :: r => by
    rw [List.map_cons]
    unfold wordsOf
    rw [wordsOf_sgn r]
    by_cases h : c = 32
    · rw [if_pos h, if_pos ((sgn_eq (by decide)).mpr h)]; rfl
    · rw [if_neg h, if_neg (fun q => h ((sgn_eq (by decide)).mp q))]
      cases wordsOf r <;> rfl
theorem linesOf_sgn : ∀ t : Bytes, linesOf (t.map sgn) = ((linesOf t).1.map fun w => w.map sgn, (linesOf t).2.map sgn)
  | [] => rfl
  | c :: r => by
    rw [List.map_cons]
    unfold linesOf
    rw [linesOf_sgn r]
    by_cases h : c = 10
    · rw [if_pos h, if_pos ((sgn_eq (by decide)).mpr h)]; rfl
    · rw [if_neg h, if_neg (fun q => h ((sgn_eq (by decide)).mp q))]
      cases (linesOf r).1 <;> rfl
/-- a line by its words -/
def letW (x : Bytes) : List Bytes → Option Line
  | e :: l => if e = [61] ∧ isName x = true then (allIn itemIn l).map (Line.let_ x) else none
  | [] => none
def actW (w x : Bytes) : List Bytes → Option Line
  | [y] => (numIn x).bind fun (k : Nat) => (timesIn y).map fun (m : Nat) => if w = ascii "twist" then Line.twist k m else Line.cross k m
  | _ => none
def lineW2 (w x : Bytes) (r : List Bytes) : Option Line :=
    if w = ascii "pairs" then (if r = [] then ((timesIn x).filter fun (n : Nat) => decide (n ≤ PAIRS)).map Line.pairs else none)
    else if w = ascii "let" then letW x r
    else if w = ascii "do" then (numIn x).bind fun (k : Nat) => (allIn itemIn r).map (Line.do_ k)
    else if w = ascii "row" then (if isName x = true then (allIn numIn r).map (Line.row x) else none)
    else if w = ascii "repeat" then (if r = [] then (timesIn x).map Line.repeat_ else none)
    else if w = ascii "twist" ∨ w = ascii "cross" then actW w x r
    else none
def lineW : List Bytes → Option Line
  | [w] => if w = ascii "end" then some .end_ else none
  | w :: x :: r => lineW2 w x r
  | [] => none
theorem lineIn_eq (b : Bytes) : lineIn b = lineW (wordsOf b) := by
  unfold lineIn
  generalize wordsOf b = ws
  match ws with
  | [] => rfl
  | [w] => rfl
  | [w, x] => rfl
  | [w, x, y] => rfl
  | w :: x :: y :: z :: r => rfl
theorem letW_sgn (x : Bytes) (r : List Bytes) : letW (x.map sgn) (r.map fun w => w.map sgn) = letW x r := by
  cases r with
  | nil => rfl
  | cons e l =>
    show (if e.map sgn = [61] ∧ isName (x.map sgn) = true then (allIn itemIn (l.map fun w => w.map sgn)).map (Line.let_ (x.map sgn)) else none) = if e = [61] ∧ isName x = true then (allIn itemIn l).map (Line.let_ x) else none
    simp only [map_sgn_eq (w := e) (show ([61] : Bytes).all good = true by decide), allIn_sgn itemIn_sgn, isName_sgn]
    by_cases h : isName x = true
    · rw [isName_map h]
    · rw [if_neg (fun q => h q.2), if_neg (fun q => h q.2)]
theorem actW_sgn (w x : Bytes) (r : List Bytes) : actW (w.map sgn) (x.map sgn) (r.map fun w => w.map sgn) = actW w x r := by
  match r with
  | [] => rfl
  | [y] =>
    show ((numIn (x.map sgn)).bind fun (k : Nat) => (timesIn (y.map sgn)).map fun (m : Nat) => if w.map sgn = ascii "twist" then Line.twist k m else Line.cross k m) = _
    simp only [timesIn_sgn, numIn_sgn, map_sgn_eq (w := w) (show (ascii "twist").all good = true by decide)]
    rfl
  | _ :: _ :: _ => rfl
theorem row_sgn (x : Bytes) (r : List Bytes) : (if isName x = true then (allIn numIn r).map (Line.row (x.map sgn)) else none) = if isName x = true then (allIn numIn r).map (Line.row x) else none := by
  by_cases h : isName x = true
  · rw [isName_map h]
  · rw [if_neg h, if_neg h]
theorem lineW_sgn : ∀ ws : List Bytes, lineW (ws.map fun w => w.map sgn) = lineW ws
  | [] => rfl
  | [w] => by
    show (if w.map sgn = ascii "end" then some Line.end_ else none) = if w = ascii "end" then some Line.end_ else none
    simp only [map_sgn_eq (w := w) (show (ascii "end").all good = true by decide)]
  | w :: x :: r => by
    show lineW2 (w.map sgn) (x.map sgn) (r.map fun w => w.map sgn) = lineW2 w x r
    unfold lineW2
    rw [letW_sgn, actW_sgn]
    simp only [map_sgn_eq (w := w) (show (ascii "pairs").all good = true by decide), map_sgn_eq (w := w) (show (ascii "let").all good = true by decide), map_sgn_eq (w := w) (show (ascii "do").all good = true by decide), map_sgn_eq (w := w) (show (ascii "row").all good = true by decide), map_sgn_eq (w := w) (show (ascii "repeat").all good = true by decide), map_sgn_eq (w := w) (show (ascii "twist").all good = true by decide), map_sgn_eq (w := w) (show (ascii "cross").all good = true by decide), List.map_eq_nil_iff, timesIn_sgn, numIn_sgn, isName_sgn, allIn_sgn itemIn_sgn, allIn_sgn numIn_sgn, row_sgn]
theorem lineIn_sgn (b : Bytes) : lineIn (b.map sgn) = lineIn b := by rw [lineIn_eq, lineIn_eq, wordsOf_sgn, lineW_sgn]
theorem stepLine_sgn (e : Env) (i : Nat) (b : Bytes) : stepLine e i (b.map sgn) = stepLine e i b := by unfold stepLine; rw [lineIn_sgn]
theorem stepLines_sgn : ∀ (e : Env) (i : Nat) (ls : List Bytes), stepLines e i (ls.map fun w => w.map sgn) = stepLines e i ls
  | e, i, [] => rfl
  | e, i, b :: r => by
    rw [List.map_cons]
    unfold stepLines
    rw [stepLine_sgn]
    cases stepLine e i b with
    | error k => rfl
    | ok x => simp only [stepLines_sgn x.1 (i + 1) r]
theorem meant_sgn (t : Bytes) : meant (t.map sgn) = meant t := by
  unfold meant
  rw [List.length_map, linesOf_sgn]
  by_cases h : TEXT < t.length
  · rw [if_pos h, if_pos h]
  · rw [if_neg h, if_neg h]
    simp only [stepLines_sgn, List.length_map, ne_eq, List.map_eq_nil_iff]

/-! ### lines one after another -/
theorem stepLines_cons (e : Env) (i : Nat) (b : Bytes) (r : List Bytes) : stepLines e i (b :: r) = (match stepLine e i b with
    | .error k => .error ⟨k, i⟩
    | .ok x => (stepLines x.1 (i + 1) r).map fun (y : Env × List Op) => (y.1, x.2 ++ y.2)) := rfl
theorem stepLines_append : ∀ (a b : List Bytes) (e : Env) (i : Nat), stepLines e i (a ++ b) = (match stepLines e i a with
    | .error f => .error f
    | .ok (e1, l1) => (match stepLines e1 (i + a.length) b with
      | .error f => .error f
      | .ok (e2, l2) => .ok (e2, l1 ++ l2)))
  | [], b, e, i => by
    show stepLines e i b = (match stepLines e (i + 0) b with | .error f => .error f | .ok (e2, l2) => .ok (e2, [] ++ l2))
    rw [Nat.add_zero]
    cases stepLines e i b with
    | error f => rfl
    | ok y => rfl
  | c :: a, b, e, i => by
    rw [List.cons_append, stepLines_cons, stepLines_cons]
    cases h : stepLine e i c with
    | error k => rfl
    | ok x =>
      simp only
      rw [stepLines_append a b x.1 (i + 1)]
      cases h1 : stepLines x.1 (i + 1) a with
      | error f => rfl
      | ok y =>
        obtain ⟨e1, l1⟩ := y
        simp only [Except.map, List.length_cons]
        rw [show i + (a.length + 1) = i + 1 + a.length by omega]
        cases h2 : stepLines e1 (i + 1 + a.length) b with
        | error f => rfl
        | ok z => simp [List.append_assoc]
theorem stepLines_one (e : Env) (i : Nat) (b : Bytes) : stepLines e i [b] = (match stepLine e i b with | .error k => .error ⟨k, i⟩ | .ok x => .ok x) := by
  unfold stepLines
  cases stepLine e i b with
  | error k => rfl
  | ok x =>
    show Except.ok (x.1, x.2 ++ []) = Except.ok x
    rw [List.append_nil]

theorem timesIn_pos {b : Bytes} {m : Nat} (h : timesIn b = some m) : 1 ≤ m := by
  unfold timesIn at h
  rw [Option.filter_eq_some_iff] at h
  simpa using h.2
def isRep : Option Line → Nat → Prop
  | some (.repeat_ m), k => k = m
  | _, _ => False
theorem no_rep_map {α : Type} {f : α → Line} {o : Option α} {m : Nat} (hf : ∀ a m, f a ≠ .repeat_ m) (h : o.map f = some (.repeat_ m)) : False := by
  cases o with
  | none => cases h
  | some a => exact hf a m (Option.some.inj h)
theorem letW_rep {x : Bytes} {r : List Bytes} {m : Nat} (h : letW x r = some (.repeat_ m)) : False := by
  cases r with
  | nil => cases h
  | cons e l =>
    unfold letW at h
    simp only at h
    split at h
    · exact no_rep_map (by intro _ _ q; cases q) h
    · cases h
theorem actW_rep {w x : Bytes} {r : List Bytes} {m : Nat} (h : actW w x r = some (.repeat_ m)) : False := by
  match r with
  | [] => cases h
  | [y] =>
    have h' : ((numIn x).bind fun (k : Nat) => (timesIn y).map fun (m : Nat) => if w = ascii "twist" then Line.twist k m else Line.cross k m) = some (.repeat_ m) := h
    cases e : numIn x with
    | none => rw [e] at h'; cases h'
    | some k =>
      rw [e] at h'
      refine no_rep_map (fun a n q => ?_) h'
      split at q <;> cases q
  | _ :: _ :: _ => cases h
theorem lineW_rep {ws : List Bytes} {m : Nat} (h : lineW ws = some (.repeat_ m)) : 1 ≤ m := by
  match ws with
  | [] => cases h
  | [w] =>
    have h' : (if w = ascii "end" then some Line.end_ else none) = some (.repeat_ m) := h
    split at h' <;> cases h'
  | w :: x :: r =>
    have h' : lineW2 w x r = some (.repeat_ m) := h
    unfold lineW2 at h'
    split at h'
    · split at h'
      · exact (no_rep_map (by intro _ _ q; cases q) h').elim
      · cases h'
    · split at h'
      · exact (letW_rep h').elim
      · split at h'
        · cases e : numIn x with
          | none => rw [e] at h'; cases h'
          | some k =>
            rw [e] at h'
            exact (no_rep_map (by intro _ _ q; cases q) h').elim
        · split at h'
          · split at h'
            · exact (no_rep_map (by intro _ _ q; cases q) h').elim
            · cases h'
          · split at h'
            · split at h'
              · cases e : timesIn x with
                | none => rw [e] at h'; cases h'
                | some n =>
                  rw [e] at h'
                  cases h'
                  exact timesIn_pos e
              · cases h'
            · split at h'
              · exact (actW_rep h').elim
              · cases h'
/-- what a line's form comes to -/
def stepO (e : Env) (i : Nat) : Option Line → Except Nat (Env × List Op)
  | none => .error 1
  | some (.pairs n) => if i = 0 then .ok ({ e with n := n }, []) else .error 1
  | some x => if i = 0 then .error 1 else match x with
    | .pairs _ => .error 1
    | .let_ a l => if (look e.names a).isSome = true then .error 2 else match stitchOf e.names l with
      | none => .error 2
      | some s => .ok ({ e with names := (a, s) :: e.names }, [])
    | .do_ k l => (match stitchOf e.names l with
      | none => .error 2
      | some s => if e.n ≤ k + 1 then .error 3 else .ok (e, [.acts i (s.at_ k)]))
    | .row a ks => (match look e.names a with
      | none => .error 2
      | some s => if rowOk e.n ks = false then .error 3 else .ok (e, [.acts i (cut (ks.flatMap s.at_))]))
    | .twist k m => if e.n ≤ k then .error 3 else .ok (e, [.acts i (times m [.twist k])])
    | .cross k m => if e.n ≤ k + 1 then .error 3 else .ok (e, [.acts i (times m [.cross k])])
    | .repeat_ m => if DEEP ≤ e.deep then .error 4 else .ok ({ e with deep := e.deep + 1 }, [.rep m])
    | .end_ => if e.deep = 0 then .error 4 else .ok ({ e with deep := e.deep - 1 }, [.end_])
theorem stepLine_eq (e : Env) (i : Nat) (b : Bytes) : stepLine e i b = stepO e i (lineW (wordsOf b)) := by
  rw [← lineIn_eq]
  unfold stepLine stepO
  rfl
theorem stepO_dep {e e' : Env} {i : Nat} {o : Option Line} {l : List Op} (hm : ∀ m, o = some (.repeat_ m) → 1 ≤ m) (h : stepO e i o = .ok (e', l)) : dep e.deep l = some e'.deep := by
  match o with
  | none => cases h
  | some (.pairs n) =>
    unfold stepO at h
    simp only at h
    split at h
    · cases h; rfl
    · cases h
  | some (.let_ a ls) =>
    unfold stepO at h
    simp only at h
    split at h
    · cases h
    · split at h
      · cases h
      · split at h
        · cases h
        · cases h; rfl
  | some (.do_ k ls) =>
    unfold stepO at h
    simp only at h
    split at h
    · cases h
    · split at h
      · cases h
      · split at h
        · cases h
        · cases h; rfl
  | some (.row a ks) =>
    unfold stepO at h
    simp only at h
    split at h
    · cases h
    · split at h
      · cases h
      · split at h
        · cases h
        · cases h; rfl
  | some (.twist k m) =>
    unfold stepO at h
    simp only at h
    split at h
    · cases h
    · split at h
      · cases h
      · cases h; rfl
  | some (.cross k m) =>
    unfold stepO at h
    simp only at h
    split at h
    · cases h
    · split at h
      · cases h
      · cases h; rfl
  | some (.repeat_ m) =>
    unfold stepO at h
    simp only at h
    split at h
    · cases h
    · split at h
      · cases h
      · cases h
        have := hm m rfl
        show (if m = 0 then none else some (e.deep + 1)) = _
        rw [if_neg (by omega)]
  | some .end_ =>
    unfold stepO at h
    simp only at h
    split at h
    · cases h
    · split at h
      · cases h
      · rename_i hd
        cases h
        show (match e.deep with | 0 => none | d + 1 => some d) = some (e.deep - 1)
        cases q : e.deep with
        | zero => exact absurd q hd
        | succ d => rfl
theorem stepLines_dep : ∀ (ls : List Bytes) (e e' : Env) (i : Nat) (l : List Op), stepLines e i ls = .ok (e', l) → dep e.deep l = some e'.deep
  | [], e, e', i, l, h => by cases h; rfl
  | b :: r, e, e', i, l, h => by
    unfold stepLines at h
    cases h1 : stepLine e i b with
    | error k => rw [h1] at h; cases h
    | ok x =>
      obtain ⟨e1, l1⟩ := x
      rw [h1] at h
      simp only at h
      cases h2 : stepLines e1 (i + 1) r with
      | error f => rw [h2] at h; cases h
      | ok y =>
        obtain ⟨e2, l2⟩ := y
        rw [h2] at h
        have hi : (e2, l1 ++ l2) = (e', l) := Except.ok.inj h
        obtain ⟨rfl, rfl⟩ := Prod.mk.inj hi
        rw [stepLine_eq] at h1
        have d1 := stepO_dep (fun m q => lineW_rep q) h1
        have d2 := stepLines_dep r e1 e2 (i + 1) l2 h2
        rw [dep_append _ _ _ _ d1, d2]

/-! ### the answer -/
def told (z : List Bytes × Bytes) : List Int := match stepLines ⟨0, [], 0⟩ 0 z.1 with
  | .error f => [-5, (f.kind : Int), (f.line : Int)]
  | .ok (e, l) =>
    if z.2 ≠ [] ∨ z.1 = [] then [-5, 1, (z.1.length : Int)]
    else if e.deep ≠ 0 then [-5, 4, (z.1.length : Int)]
    else match (runOps ⟨[], []⟩ l).wk[4096]? with
      | some x => [-5, 5, (x.2 : Int)]
      | none => 0 :: (e.n : Int) :: (runOps ⟨[], []⟩ l).wk.map fun x => (x.1.code : Int)
theorem read_long {ns : List Int} (h : 16384 < ns.length) : PyWqamch.read ns = [-5, 1, 0] := by
  show LcbNeutral.shown (match meant (ns.map Int.toNat) with | .error f => Answer.refused 5 [f.kind, f.line] | .ok (n, w) => .told (n :: w.map Act.code)) = _
  have e : meant (ns.map Int.toNat) = .error ⟨1, 0⟩ := by
    unfold meant
    rw [if_pos (by rw [List.length_map]; exact h)]
  rw [e]
  rfl
theorem read_told {ns : List Int} (h : ns.length ≤ 16384) : PyWqamch.read ns = told (linesOf ((ns.map Int.toNat).map sgn)) := by
  show LcbNeutral.shown (match meant (ns.map Int.toNat) with | .error f => Answer.refused 5 [f.kind, f.line] | .ok (n, w) => .told (n :: w.map Act.code)) = _
  rw [← meant_sgn]
  generalize hu : (ns.map Int.toNat).map sgn = u
  have hl : ¬ TEXT < u.length := by
    rw [← hu, List.length_map, List.length_map]
    have : TEXT = 16384 := rfl
    omega
  unfold meant told
  rw [if_neg hl]
  simp only
  cases h1 : stepLines ⟨0, [], 0⟩ 0 (linesOf u).1 with
  | error f => rfl
  | ok x =>
    obtain ⟨e, l⟩ := x
    simp only
    by_cases hz : (linesOf u).2 ≠ [] ∨ (linesOf u).1 = []
    · rw [if_pos hz, if_pos hz]; rfl
    · rw [if_neg hz, if_neg hz]
      by_cases hd : e.deep ≠ 0
      · rw [if_pos hd, if_pos hd]; rfl
      · rw [if_neg hd, if_neg hd]
        have hdep := stepLines_dep _ _ _ _ _ h1
        have hd0 : e.deep = 0 := Decidable.not_not.mp hd
        rw [hd0] at hdep
        rw [worked_eq hdep]
        cases h4 : (runOps ⟨[], []⟩ l).wk[4096]? with
        | some y => rfl
        | none =>
          show (0 : Int) :: (((e.n : Nat) :: ((runOps ⟨[], []⟩ l).wk.map (·.1)).reverse.reverse.map Act.code).map fun i : Nat => (i : Int)) = _
          rw [List.reverse_reverse]
          simp [List.map_map, Function.comp_def]
end Bt

end
section
set_option Elab.async false
set_option maxRecDepth 100000
set_option maxHeartbeats 2000000
set_option linter.all false
namespace L2
open PySem PySem.Spec PyProof.Rows
/-! ### for over a text's signs -/
theorem for_str {x : Str} {g : TG} {tb : TS} {D : Ends} {σ : St} {H : Hp} (Pv : Nat → St → Hp → Prop) (h0 : Pv 0 σ H)
    (hs : ∀ i c σ H, x.cps[i]? = some c → Pv i σ H → g (.str ⟨#[c]⟩) σ H fun σ2 H2 => tb { D with nx := Pv (i + 1), ct := Pv (i + 1), bk := D.nx } σ2 H2) (hd : ∀ σ H, Pv x.cps.size σ H → D.nx σ H) :
    ∃ W : Nat → Nat → St → Hp → Prop, (∃ m, W 0 m σ H) ∧ ∀ i m σ H, W i m σ H →
      ((Its x).stop i H ∧ D.nx σ H) ∨ ((Its x).go i H ∧ ∃ N : St → Hp → Prop, (∀ σ' H', N σ' H' → ∃ m', m' < m ∧ W (i + 1) m' σ' H') ∧ ∀ v H', (Its x).yld i H v H' → g v σ H' fun σ2 H2 => tb { D with nx := N, ct := N, bk := D.nx } σ2 H2) := by
  refine ⟨fun i m σ H => m = x.cps.size - i ∧ i ≤ x.cps.size ∧ Pv i σ H, ⟨x.cps.size, by simp, Nat.zero_le _, h0⟩, ?_⟩
  rintro i m σ H ⟨rfl, hi, p⟩
  by_cases hlt : i < x.cps.size
  · refine .inr ⟨hlt, Pv (i + 1), fun σ' H' p' => ⟨x.cps.size - (i + 1), by omega, rfl, hlt, p'⟩, fun v H' y => ?_⟩
    obtain ⟨e, c, hc, rfl⟩ := y
    subst e
    exact hs i c σ _ hc p
  · have e : i = x.cps.size := by omega
    subst e
    exact .inl ⟨Nat.le_refl _, hd σ H p⟩

/-! ### a dict of the module's top, read alone -/
def DK (P : Program) (w : World) (K : PySem.W.Frag) (a : Addr) (kvs : List (Key × V)) : Prop :=
  (a == sysModules) = false ∧ ∃ (o : Obj) (es : Array DictEntry) (ep : Nat) (vs : List (Key × Value)), K.lookup a = some o ∧ o.ExactDict ∧ o.data = .dict es ep ∧ KeysOf (mixKind P w) es ∧ Pairs (mixKind P w) es.toList vs ∧ (vs.map (·.1)).Nodup ∧ KV kvs vs
section
variable {X : Cx} {pins : List (Addr × Obj)} {σ : St} {H : Hp} {s : Shared} {a : Addr} {kvs : List (Key × V)} {k : Key} {u r : Value} {d : V} {A : Around} {E : Value → Shared → Prop}
theorem dk_at (g : DK X.prog X.w X.K a kvs) (I : Inv X pins σ H s) : (a == sysModules) = false ∧ ∃ vs, KV kvs vs ∧ s.heap.DictOf (mixKind X.prog X.w) a vs := by
  obtain ⟨hd, o, es, ep, vs, h1, h2, h3, h4, h5, h6, h7⟩ := g
  exact ⟨hd, vs, h7, o, es, ep, I.kIn a o h1, h2, h3, h4, h5, h6⟩
theorem k_getItem {v : V} {Q : Value → Shared → Prop} (g : DK X.prog X.w X.K a kvs) (I : Inv X pins σ H s) (ry : RelV (kV k) u) (l : valV kvs k = some v) (h : ∀ w' s', Inv X pins σ H s' → RelV v w' → Q w' s') :
    wpAny (model X.prog X.w) A (getItem (.ref a) u) Q E s := by
  obtain ⟨hd, vs, rel, dd⟩ := dk_at g I
  obtain ⟨w', hw, rw'⟩ := RelO.some_of (v := v) (o := valueAt vs k) (by rw [← l]; exact rel.val k)
  exact wpAny_getItem_of (kV_is ry) dd.mapOf hw (h w' _ (I.tok _) rw')
theorem k_in {Q : Value → Shared → Prop} (g : DK X.prog X.w X.K a kvs) (I : Inv X pins σ H s) (ry : RelV (kV k) u) (h : ∀ s', Inv X pins σ H s' → Q (.bool (valV kvs k).isSome) s') :
    wpAny (model X.prog X.w) A (compareOp .In u (.ref a)) Q E s := by
  obtain ⟨hd, vs, rel, dd⟩ := dk_at g I
  refine wpAny_in_of (kV_is ry) hd dd.mapOf ?_
  rw [← (rel.val k).isSome_eq]
  exact h _ (I.tok _)
theorem k_notIn {Q : Value → Shared → Prop} (g : DK X.prog X.w X.K a kvs) (I : Inv X pins σ H s) (ry : RelV (kV k) u) (h : ∀ s', Inv X pins σ H s' → Q (.bool (!(valV kvs k).isSome)) s') :
    wpAny (model X.prog X.w) A (compareOp .NotIn u (.ref a)) Q E s := by
  obtain ⟨hd, vs, rel, dd⟩ := dk_at g I
  refine wpAny_notIn_of (kV_is ry) hd dd.mapOf ?_
  rw [← (rel.val k).isSome_eq]
  exact h _ (I.tok _)
theorem k_get2 {Q : Value → Shared → Prop} (g : DK X.prog X.w X.K a kvs) (I : Inv X pins σ H s) (ry : RelV (kV k) u) (rd : RelV d r) (h : ∀ w' s', Inv X pins σ H s' → RelV ((valV kvs k).getD d) w' → Q w' s') :
    wpAny (model X.prog X.w) A (call (.builtin "dict.get") [.ref a, u, r]) Q E s := by
  obtain ⟨hd, vs, rel, dd⟩ := dk_at g I
  refine call_meetsIn PySem.F.slot_dict_get dd.typeIs PySem.F.entry_dict_get (PySem.F.args_dict_get_3 _ _ _) (meets_dict_get_default (mixKind X.prog X.w) a (kV_is ry) hd r) ⟨_, dd.mapOf, h _ _ (I.tok _) ?_⟩
  exact (rel.val k).getD rd
end
/-- D[y]; y in D; y not in D; D.get(y, x): D a dict of the top -/
def tKGet (kvs : List (Key × V)) (ty : TE) : TE := fun σ H Q => ty σ H fun y H2 => ∃ k v, y = kV k ∧ valV kvs k = some v ∧ Q v H2
def tKIn (kvs : List (Key × V)) (ty : TE) : TE := fun σ H Q => ty σ H fun y H2 => ∃ k, y = kV k ∧ Q (.bl (valV kvs k).isSome) H2
def tKNotIn (kvs : List (Key × V)) (ty : TE) : TE := fun σ H Q => ty σ H fun y H2 => ∃ k, y = kV k ∧ Q (.bl (!(valV kvs k).isSome)) H2
def tKGet2 (kvs : List (Key × V)) (ty tx : TE) : TE := fun σ H Q => ty σ H fun y H2 => tx σ H2 fun z H3 => ∃ k, y = kV k ∧ Q ((valV kvs k).getD z) H3
section
variable {X : Cx} {x : Str} {i f : Expr} {p pos apos cpos : Pos} {ty tx : TE} {a : Addr} {kvs : List (Key × V)}
theorem pe_kget (g : DK X.prog X.w X.K a kvs) (hg : Gl X x) (hm : X.mg x = some (.ref a)) (hi : PE X i ty) (hs : NoSl i) (hd : (x == ("__debug__" : Str)) = false := by decide) : PE X (.Subscript (.Name x p) i pos) (tKGet kvs ty) := by
  intro pins s σ H Q I h
  refine subD_of PySem.F.slot_dict_getitem.lookup hs (ld_glob I hg hm (thn (hi pins s σ H _ I h) fun iv s2 ⟨y, H2, I2, ry, k, v, ey, l, q2⟩ => ?_) hd)
  subst ey
  obtain ⟨_, vs, _, dd⟩ := dk_at g I2
  exact ⟨dd.typeIs, k_getItem g I2 ry l fun w' s3 I3 rw' => ⟨v, H2, I3, rw', q2⟩⟩
theorem pc_kin (g : DK X.prog X.w X.K a kvs) (hg : Gl X x) (hm : X.mg x = some (.ref a)) (hi : PE X i ty) (hd : (x == ("__debug__" : Str)) = false := by decide) : PC X .In i (.Name x p) (tKIn kvs ty) := by
  intro pins s σ H Q I h
  refine thn (hi pins s σ H _ I h) fun iv s1 ⟨y, H1, I1, ry, k, ey, q1⟩ => ld_glob I1 hg hm ?_ hd
  subst ey
  exact k_in g I1 ry fun s3 I3 => ⟨.bl _, H1, I3, rfl, q1⟩
theorem pc_knotin (g : DK X.prog X.w X.K a kvs) (hg : Gl X x) (hm : X.mg x = some (.ref a)) (hi : PE X i ty) (hd : (x == ("__debug__" : Str)) = false := by decide) : PC X .NotIn i (.Name x p) (tKNotIn kvs ty) := by
  intro pins s σ H Q I h
  refine thn (hi pins s σ H _ I h) fun iv s1 ⟨y, H1, I1, ry, k, ey, q1⟩ => ld_glob I1 hg hm ?_ hd
  subst ey
  exact k_notIn g I1 ry fun s3 I3 => ⟨.bl _, H1, I3, rfl, q1⟩
theorem pe_kget2 (g : DK X.prog X.w X.K a kvs) (hg : Gl X x) (hm : X.mg x = some (.ref a)) (he : PE X i ty) (hf : PE X f tx) (m : M2 X (.Name x p) "get" apos i f cpos) (hd : (x == ("__debug__" : Str)) = false := by decide) : PE X (.Call (.Attribute (.Name x p) "get" apos) [i, f] [] cpos) (tKGet2 kvs ty tx) := by
  intro pins s σ H Q I h
  refine wpAny_Call_method m.base m.few m.line PySem.F.plainAttrs_dict PySem.F.slot_dict_get PySem.F.type_dict_get (ld_glob I hg hm ?_ hd)
  obtain ⟨_, vs, _, dd⟩ := dk_at g I
  obtain ⟨o, es, ep, ho, hx, _⟩ := id dd
  refine ⟨dd.typeIs, fun b q => by cases q; exact ⟨o, ho, hx.2.1⟩, ?_⟩
  rw [m.trees]
  refine Calls.callWith_builtin rfl (Calls.evalArgs_plain (Calls.spliced_cons (thn (he pins s σ H _ I h) fun iv s2 ⟨y, H2, I2, ry, q2⟩ =>
    Calls.spliced_cons (thn (hf pins s2 σ H2 _ I2 q2) fun fv s3 ⟨z, H3, I3, rz, k, ey, q3⟩ => Calls.spliced_nil ?_))))
  subst ey
  exact k_get2 g I3 ry rz fun w' s4 I4 rw' => ⟨_, H3, I4, rw', q3⟩
end
/-- names of the top: ints, texts -/
def GI (mg : Str → Option Value) (x : Str) (i : Int) : Prop := ∃ t, mg x = some (.int i t)
def GS (mg : Str → Option Value) (x : Str) (z : Str) : Prop := ∃ t, mg x = some (.str z t)
theorem pe_gi {X : Cx} {x : Str} {i : Int} {pos : Pos} (hm : GI X.mg x i) (hg : Gl X x := by rfl) (hd : (x == ("__debug__" : Str)) = false := by decide) : PE X (.Name x pos) (tC (.int i)) := by
  obtain ⟨t, hm⟩ := hm
  exact pe_glob hg hm ⟨t, rfl⟩ hd
theorem pe_gs {X : Cx} {x : Str} {z : Str} {pos : Pos} (hm : GS X.mg x z) (hg : Gl X x := by rfl) (hd : (x == ("__debug__" : Str)) = false := by decide) : PE X (.Name x pos) (tC (.str z)) := by
  obtain ⟨t, hm⟩ := hm
  exact pe_glob hg hm ⟨t, rfl⟩ hd
end L2

end
section
set_option Elab.async false
set_option maxRecDepth 100000
set_option maxHeartbeats 2000000
set_option linter.all false
namespace Bt
open PySem PySem.Spec PyProof.Rows L2 Lcb
/-! ### the text by places -/
def top (i : Nat) : Stmt := PySem.Challenge.pw_bobbintexts_s01_read.main.body.getD i (.Pass ⟨0, 0, 0, 0⟩)
abbrev sInit : Stmt := inClass (top 22) 0
abbrev sSign : Stmt := top 23
abbrev sNum : Stmt := top 24
abbrev sName : Stmt := top 25
abbrev sItem : Stmt := top 26
abbrev sItems : Stmt := top 27
abbrev sLet : Stmt := top 28
abbrev sAdd : Stmt := top 29
abbrev sActs : Stmt := top 30
abbrev sWork : Stmt := top 31
abbrev sRPairs : Stmt := top 32
abbrev sRLet : Stmt := top 33
abbrev sRDo : Stmt := top 34
abbrev sFits : Stmt := top 35
abbrev sRRow : Stmt := top 36
abbrev sRAct : Stmt := top 37
abbrev sRRep : Stmt := top 38
abbrev sREnd : Stmt := top 39
abbrev sRLine : Stmt := top 40
abbrev sRead : Stmt := top 41
/-! ### texts -/
abbrev sw (w : Bytes) : Str := ⟨w.toArray⟩
theorem sw_eq {w : Bytes} {s : String} : sw w = Str.ofString s ↔ w = ascii s := by
  have e : TL.tl (Str.ofString s) = ascii s := TL.tl_ofString s
  constructor
  · intro h
    rw [← e, ← h]
  · intro h
    exact TL.ext_tl (by rw [e]; exact h)
theorem sw_inj {a b : Bytes} : sw a = sw b ↔ a = b := by
  constructor
  · intro h
    have := congrArg TL.tl h
    exact this
  · rintro rfl; rfl
theorem sw_len (w : Bytes) : (sw w).length = w.length := by
  rw [TL.len_tl]
/-! ### what stands at the top -/
def lettersD (a1 a2 a3 a4 : Addr) : List (Key × V) := [(.inr "c", .ref a1), (.inr "t", .ref a2), (.inr "l", .ref a3), (.inr "r", .ref a4)]
def signsD : List (Key × V) := [(.inl 10, .str "\n"), (.inl 32, .str " "), (.inl 42, .str "*"), (.inl 61, .str "=")]
def TupK (K : PySem.W.Frag) (a : Addr) (xs : List V) : Prop := ∃ (o : Obj) (its : Array Value) (n : Nat), K.lookup a = some o ∧ o.cls = .type "tuple" ∧ o.data = .seq its n ∧ its.size ≤ sizeLine ∧ Vals xs its.toList
theorem TupK.sq {K : PySem.W.Frag} {a : Addr} {xs : List V} (h : TupK K a xs) (H : Hp) : SqT K H a xs := .inr h
def wordsV : List V := [.str "pairs", .str "let", .str "do", .str "row", .str "twist", .str "cross", .str "repeat", .str "end"]
structure Tx (P : Program) (w : World) (K : PySem.W.Frag) (mg : Str → Option Value) (aW aL aO a1 a2 a3 a4 : Addr) : Prop where
  mostBytes : GI mg "MOST_BYTES" 16384
  mostActs : GI mg "MOST_ACTS" 4096
  mostPairs : GI mg "MOST_PAIRS" 32
  mostDeep : GI mg "MOST_DEEP" 8
  mostLetters : GI mg "MOST_LETTERS" 12
  mostDigits : GI mg "MOST_DIGITS" 5
  noFault : GI mg "NO_FAULT" 0
  noLine : GI mg "NO_LINE" 1
  wrongName : GI mg "WRONG_NAME" 2
  wrongPair : GI mg "WRONG_PAIR" 3
  wrongRepeat : GI mg "WRONG_REPEAT" 4
  tooMany : GI mg "TOO_MANY_ACTS" 5
  fault : GI mg "FAULT" (-5)
  noNumber : GI mg "NO_NUMBER" (-1)
  cross : GI mg "CROSS" 64
  letters : GS mg "LETTERS" "abcdefghijklmnopqrstuvwxyz"
  digits : GS mg "DIGITS" "0123456789"
  noSign : GS mg "NO_SIGN" "?"
  mW : mg "LINE_WORDS" = some (.ref aW)
  mL : mg "LETTER_ACTS" = some (.ref aL)
  mO : mg "OTHER_SIGNS" = some (.ref aO)
  tW : TupK K aW wordsV
  dL : DK P w K aL (lettersD a1 a2 a3 a4)
  dO : DK P w K aO signsD
  t1 : TupK K a1 [.int 64]
  t2 : TupK K a2 [.int 0, .int 1]
  t3 : TupK K a3 [.int 0]
  t4 : TupK K a4 [.int 1]
  len : mg "len" = none
  min : mg "min" = none
  int : mg "int" = none
  list : mg "list" = none
  range : mg "range" = none
section
variable {P : Program} {w : World} {K : PySem.W.Frag} {mg : Str → Option Value} {base : Heap} {aW aL aO a1 a2 a3 a4 : Addr}
/-! ### sign_of -/
def spSign : Sp := fun vs H Q _ => ∃ i : Nat, vs = [.int i] ∧ i ≤ 255 ∧ Q (.str (sw [sgn i])) H
theorem scSign : FnScope ["byte"] ["byte"] (defScope sSign) := ⟨rfl, rfl, rfl, by decide +kernel, rfl, by decide +kernel, by decide +kernel⟩
theorem letter_at : ∀ i : Nat, i < 26 → (TL.tl "abcdefghijklmnopqrstuvwxyz")[i]? = some (97 + i) := by decide +kernel
theorem digit_at : ∀ i : Nat, i < 10 → (TL.tl "0123456789")[i]? = some (48 + i) := by decide +kernel
theorem signs_at (i : Nat) (h1 : ¬ (97 ≤ i ∧ i ≤ 122)) (h2 : ¬ (48 ≤ i ∧ i ≤ 57)) : (valV signsD (.inl (i : Int))).getD (.str "?") = .str (sw [sgn i]) := by
  by_cases e1 : i = 10
  · subst e1; decide +kernel
  by_cases e2 : i = 32
  · subst e2; decide +kernel
  by_cases e3 : i = 42
  · subst e3; decide +kernel
  by_cases e4 : i = 61
  · subst e4; decide +kernel
  have hs : sgn i = 63 := if_neg (by
    intro q
    rcases good_iff.mp q with q | q | q | q | q | q
    · exact h1 q
    · exact h2 q
    · exact e1 q
    · exact e2 q
    · exact e3 q
    · exact e4 q)
  have hn : valV signsD (.inl (i : Int)) = none := by
    unfold signsD
    rw [valV_neg (by intro q; have := Sum.inl.inj q; omega), valV_neg (by intro q; have := Sum.inl.inj q; omega), valV_neg (by intro q; have := Sum.inl.inj q; omega), valV_neg (by intro q; have := Sum.inl.inj q; omega)]
    rfl
  rw [hn, hs]
  decide +kernel
theorem ok_sign {f : Addr} {fd : FuncData} (F : Fun K "sign_of" "sign_of" sSign f fd) (T : Tx P w K mg aW aL aO a1 a2 a3 a4) : FnOk P w K mg base CX0 1 f fd ["byte"] spSign := by
  refine F.ok scSign (fun vs H Q E h => ?_) (fun cdv A outer s H vs Q E hr h => ?_)
  · obtain ⟨i, rfl, _⟩ := h
    rfl
  · obtain ⟨i, rfl, hi, k⟩ := h
    refine ⟨_, pss_cons (ps_if (PW.pt (pw_and (pt_cmpR op_ge (pv 0) pe_int (nomark _)) (pw_and1 (pt_cmpR op_le (pv 0) pe_int (nomark _))))) (pss_one (ps_ret (pe_ix ix_str (pe_gs T.letters) (pe_op op_sub (pv 0) pe_int) (fun _ _ => rfl)))) pss_nil)
      (pss_cons (ps_if (PW.pt (pw_and (pt_cmpR op_ge (pv 0) pe_int (nomark _)) (pw_and1 (pt_cmpR op_le (pv 0) pe_int (nomark _))))) (pss_one (ps_ret (pe_ix ix_str (pe_gs T.digits) (pe_op op_sub (pv 0) pe_int) (fun _ _ => rfl)))) pss_nil)
      (pss_one (ps_ret (pe_kget2 T.dO rfl T.mO (pv 0) (pe_gs T.noSign) ⟨rfl, rfl, rfl, rfl⟩)))), ?_⟩
    have rest1 : ¬ (97 ≤ i ∧ i ≤ 122) → ¬ (48 ≤ i ∧ i ≤ 57) → ∃ k' : Key, (V.int (i : Int)) = kV k' ∧ Q ((valV signsD k').getD (.str "?")) H := fun h1 h2 => by
      refine ⟨.inl (i : Int), rfl, ?_⟩
      rw [signs_at i h1 h2]
      exact k
    have dig : 48 ≤ i → i ≤ 57 → ∃ (z : Str) (y : Int) (c : Nat), V.str "0123456789" = .str z ∧ V.int ((i : Int) - 48) = .int y ∧ z.length ≤ sizeLine ∧ atI z.cps.toList y = some c ∧ Q (.str ⟨#[c]⟩) H := fun h1 h2 => by
      refine ⟨_, _, 48 + (i - 48), rfl, rfl, by decide, ?_, ?_⟩
      · rw [show ((i : Int) - 48) = ((i - 48 : Nat) : Int) by omega]
        exact atI_nat (digit_at (i - 48) (by omega))
      · have e : 48 + (i - 48) = sgn i := by rw [sgn_good (good_iff.mpr (.inr (.inl ⟨h1, h2⟩)))]; omega
        rw [e]; exact k
    have let_ : 97 ≤ i → i ≤ 122 → ∃ (z : Str) (y : Int) (c : Nat), V.str "abcdefghijklmnopqrstuvwxyz" = .str z ∧ V.int ((i : Int) - 97) = .int y ∧ z.length ≤ sizeLine ∧ atI z.cps.toList y = some c ∧ Q (.str ⟨#[c]⟩) H := fun h1 h2 => by
      refine ⟨_, _, 97 + (i - 97), rfl, rfl, by decide, ?_, ?_⟩
      · rw [show ((i : Int) - 97) = ((i - 97 : Nat) : Int) by omega]
        exact atI_nat (letter_at (i - 97) (by omega))
      · have e : 97 + (i - 97) = sgn i := by rw [sgn_good (good_iff.mpr (.inl ⟨h1, h2⟩))]; omega
        rw [e]; exact k
    have part2 : ¬ (97 ≤ i ∧ i ≤ 122) → (tSeq (tIfS (tAnd (tTest (tOp (rI0 fun i j => .bl (decide (j ≤ i))) (tVar 0) (tC (.int 48)))) (tTest (tOp (rI0 fun i j => .bl (decide (i ≤ j))) (tVar 0) (tC (.int 57))))) (tRet (tOp rIxS (tC (.str "0123456789")) (tOp (rI0 fun i j => .int (i - j)) (tVar 0) (tC (.int 48))))) tNext) (tRet (tKGet2 signsD (tVar 0) (tC (.str "?"))))) { nx := fun x H' => Q L2.V.non H', rt := Q } (L2.start ["byte"] [.int i]) H := fun h1 => by
      refine ⟨_, rfl, _, _, rfl, rfl, _, rfl, ?_⟩
      refine ite2 (fun g => ?_) (fun g => ?_)
      · refine ⟨_, rfl, _, _, rfl, rfl, _, rfl, ?_⟩
        refine ite2 (fun g' => ?_) (fun g' => ?_)
        · refine ⟨_, rfl, _, _, rfl, rfl, ?_⟩
          exact dig (by have := of_decide_eq_true g; omega) (by have := of_decide_eq_true g'; omega)
        · refine ⟨_, rfl, ?_⟩
          exact rest1 h1 (fun q => g' (decide_eq_true (by omega)))
      · refine iteF ?_
        refine ⟨_, rfl, ?_⟩
        exact rest1 h1 (fun q => g (decide_eq_true (by omega)))
    refine ⟨_, rfl, _, _, rfl, rfl, _, rfl, ?_⟩
    refine ite2 (fun g => ?_) (fun g => ?_)
    · refine ⟨_, rfl, _, _, rfl, rfl, _, rfl, ?_⟩
      refine ite2 (fun g' => ?_) (fun g' => ?_)
      · refine ⟨_, rfl, _, _, rfl, rfl, ?_⟩
        exact let_ (by have := of_decide_eq_true g; omega) (by have := of_decide_eq_true g'; omega)
      · exact part2 (fun q => g' (decide_eq_true (by omega)))
    · refine iteF ?_
      exact part2 (fun q => g (decide_eq_true (by omega)))
end
end Bt

end
section
set_option Elab.async false
set_option maxRecDepth 100000
set_option maxHeartbeats 2000000
set_option linter.all false
namespace Bt
open PySem PySem.Spec PyProof.Rows L2 Lcb
theorem size17 : (20000 : Nat) ≤ sizeLine := by decide
theorem len_ok {w : Bytes} (h : w.length ≤ 20000) : (sw w).length ≤ sizeLine := by rw [sw_len]; exact Nat.le_trans h size17
/-! ### the mathematics of words -/
def numI (w : Bytes) : Int := match numIn w with | some n => (n : Int) | none => -1
theorem digits_tl : TL.tl "0123456789" = List.range' 48 10 := by decide +kernel
theorem letters_tl : TL.tl "abcdefghijklmnopqrstuvwxyz" = List.range' 97 26 := by decide +kernel
theorem digits_mem (c : Nat) : decide (c ∈ TL.tl "0123456789") = isDigit c := by
  rw [digits_tl, Bool.eq_iff_iff, decide_eq_true_eq, List.mem_range'_1]
  unfold isDigit
  simp only [Bool.and_eq_true, decide_eq_true_eq]
  omega
theorem letters_mem (c : Nat) : decide (c ∈ TL.tl "abcdefghijklmnopqrstuvwxyz") = isLetter c := by
  rw [letters_tl, Bool.eq_iff_iff, decide_eq_true_eq, List.mem_range'_1]
  unfold isLetter
  simp only [Bool.and_eq_true, decide_eq_true_eq]
  omega
theorem numI_short {w : Bytes} (h : w = [] ∨ 5 < w.length) : numI w = -1 := by
  have : numIn w = none := if_neg (by
    rintro ⟨h1, h2, _⟩
    rcases h with h | h
    · exact h1 h
    · omega)
  unfold numI; rw [this]
theorem numI_zero {w : Bytes} (h : w.head? = some 48) (h2 : 1 < w.length) : numI w = -1 := by
  have : numIn w = none := if_neg (by
    rintro ⟨_, _, _, q⟩
    rcases q with q | q
    · exact q h
    · omega)
  unfold numI; rw [this]
theorem numI_bad {w : Bytes} {c : Nat} (hc : c ∈ w) (h : isDigit c = false) : numI w = -1 := by
  have : numIn w = none := if_neg (by
    rintro ⟨_, _, q, _⟩
    rw [List.all_eq_true] at q
    rw [q c hc] at h
    cases h)
  unfold numI; rw [this]
theorem numI_num {w : Bytes} (h0 : w ≠ []) (h1 : w.length ≤ 5) (h2 : w.all isDigit = true) (h3 : ¬ (w.head? = some 48 ∧ 1 < w.length)) : numI w = (numberOf w : Int) := by
  have hl : 0 < w.length := List.length_pos_iff.mpr h0
  have : numIn w = some (numberOf w) := if_pos ⟨h0, h1, h2, by
    by_cases q : w.head? = some 48
    · right
      have : ¬ 1 < w.length := fun z => h3 ⟨q, z⟩
      omega
    · exact .inl q⟩
  unfold numI; rw [this]
theorem numberOf_val (w : Bytes) : numberOf w = NumText.digitsVal w := by
  unfold numberOf NumText.digitsVal
  have : (fun (n c : Nat) => 10 * n + (c - 48)) = fun acc c => acc * 10 + (c - 48) := by
    funext n c; rw [Nat.mul_comm]
  rw [this]
theorem int_of {w : Bytes} (h0 : w ≠ []) (h1 : w.length ≤ 5) (h2 : w.all isDigit = true) : intText? (sw w) = some (numberOf w : Int) := by
  rw [numberOf_val]
  refine intText_digits (x := sw w) (fun c hc => ?_) h0 (by rw [sw_len]; omega)
  rw [List.all_eq_true] at h2
  have := h2 c hc
  unfold isDigit at this
  simpa using this
theorem numI_cases (w : Bytes) : (∃ n : Nat, numIn w = some n ∧ numI w = n) ∨ (numIn w = none ∧ numI w = -1) := by
  unfold numI
  cases numIn w with
  | some n => exact .inl ⟨n, rfl, rfl⟩
  | none => exact .inr ⟨rfl, rfl⟩
section
variable {P : Program} {w : World} {K : PySem.W.Frag} {mg : Str → Option Value} {base : Heap} {aW aL aO a1 a2 a3 a4 : Addr}
/-! ### number_of -/
def spNum : Sp := fun vs H Q _ => ∃ b : Bytes, vs = [.str (sw b)] ∧ b.length ≤ 20000 ∧ Q (.int (numI b)) H
theorem scNum : FnScope ["word", "sign"] ["word"] (defScope sNum) := ⟨rfl, rfl, rfl, by decide +kernel, rfl, by decide +kernel, by decide +kernel⟩
theorem ok_num {f : Addr} {fd : FuncData} (F : Fun K "number_of" "number_of" sNum f fd) (T : Tx P w K mg aW aL aO a1 a2 a3 a4) : FnOk P w K mg base CX0 1 f fd ["word"] spNum := by
  refine F.ok scNum (fun vs H Q E h => ?_) (fun cdv A outer s H vs Q E hr h => ?_)
  · obtain ⟨i, rfl, _⟩ := h
    rfl
  · obtain ⟨b, rfl, hb, k⟩ := h
    refine ⟨_, pss_cons (ps_if (PW.pt (pw_or (pt_cmpR op_lt (pe_callB call_len_str rfl T.len PySem.boot_len (pa_cons (pv 0) pa_nil)) pe_int (nomark _)) (pw_or1 (pt_cmpR op_gt (pe_callB call_len_str rfl T.len PySem.boot_len (pa_cons (pv 0) pa_nil)) (pe_gi T.mostDigits) (nomark _))))) (pss_one (ps_ret (pe_gi T.noNumber))) pss_nil)
      (pss_cons (ps_if (PW.pt (pw_and (pt_cmpR op_eq (pe_ix ix_str (pv 0) pe_int (fun _ _ => rfl)) pe_str (nomark _)) (pw_and1 (pt_cmpR op_gt (pe_callB call_len_str rfl T.len PySem.boot_len (pa_cons (pv 0) pa_nil)) pe_int (nomark _))))) (pss_one (ps_ret (pe_gi T.noNumber))) pss_nil)
      (pss_cons (ps_for PassesOwn.never rfl (pi_str (pv 0)) (pg_name (i := 1) scNum.nd rfl (Or.inl rfl)) (pss_one (ps_if (pt_cmpR op_notIn_sign (pv 1) (pe_gs T.digits) rfl) (pss_one (ps_ret (pe_gi T.noNumber))) pss_nil)))
      (pss_one (ps_ret (pe_callTy call_int_str rfl T.int (by decide +kernel) (pa_cons (pv 0) pa_nil)))))), ?_⟩
    refine ⟨_, rfl, _, rfl, len_ok hb, _, _, rfl, rfl, _, rfl, ?_⟩
    rw [sw_len]
    refine ite2 (fun g => ?_) (fun g => ?_)
    · -- no sign
      refine iteT ?_
      have g' := of_decide_eq_true g
      have : b = [] := List.length_eq_zero_iff.mp (by omega)
      show Q (.int (-1)) H
      rw [← numI_short (.inl this)]
      exact k
    have g1 : ¬ ((b.length : Int) < 1) := fun q => g (decide_eq_true q)
    refine ⟨_, rfl, _, rfl, len_ok hb, _, _, rfl, rfl, _, rfl, ?_⟩
    rw [sw_len]
    refine ite2 (fun g => ?_) (fun g => ?_)
    · have g' := of_decide_eq_true g
      show Q (.int (-1)) H
      rw [← numI_short (w := b) (.inr (by omega))]
      exact k
    have g2 : ¬ ((5 : Int) < b.length) := fun q => g (decide_eq_true q)
    have hne : b ≠ [] := fun q => by rw [q] at g1; exact g1 (by decide)
    obtain ⟨c0, r0, hcr⟩ : ∃ c r, b = c :: r := by
      cases b with
      | nil => exact absurd rfl hne
      | cons c r => exact ⟨c, r, rfl⟩
    have loop : ¬ (b.head? = some 48 ∧ 1 < b.length) → (tSeq (tFor (iStr (tVar 0)) (gName 1) (tIfS (tTest (tOp (fun x y H Q => ∃ (c : Nat) (z : Str), x = .str ⟨#[c]⟩ ∧ y = .str z ∧ Q (.bl (!decide (c ∈ z.cps.toList))) H) (tVar 1) (tC (.str "0123456789")))) (tRet (tC (.int (-1)))) tNext)) (tRet (tCB (fun xs H Q => ∃ a n, xs = [.str a] ∧ PySem.intText? a = some n ∧ a.length ≤ 640 ∧ Q (.int n) H) (tCons (tVar 0) tNil)))) { nx := fun x H' => Q L2.V.non H', rt := Q } (L2.start ["word", "sign"] [.str (sw b)]) H := fun h3 => by
      refine ⟨_, rfl, _, rfl, for_str (x := sw b) (fun i σ H' => ∃ v : Option V, σ = [some (.str (sw b)), v] ∧ H' = H ∧ (b.take i).all isDigit = true) ⟨none, rfl, rfl, rfl⟩ ?_ ?_⟩
      · rintro i c σ H' hc ⟨v, rfl, rfl, hall⟩
        have hc' : b[i]? = some c := by simpa using hc
        refine ⟨_, rfl, c, _, rfl, rfl, _, rfl, ?_⟩
        have ed : decide (c ∈ (Str.ofString "0123456789").cps.toList) = isDigit c := digits_mem c
        rw [ed]
        cases hd : isDigit c with
        | false =>
          refine iteT ?_
          show Q (.int (-1)) H'
          rw [← numI_bad (List.mem_of_getElem? hc') hd]
          exact k
        | true =>
          refine iteF ?_
          refine ⟨_, rfl, rfl, ?_⟩
          rw [List.take_add_one, hc', List.all_append, hall]
          simp [hd]
      · rintro σ H' ⟨v, rfl, rfl, hall⟩
        have hall' : b.all isDigit = true := by
          have e : (sw b).cps.size = b.length := by simp
          rw [e, List.take_length] at hall
          exact hall
        refine ⟨_, rfl, _, _, rfl, int_of hne (by omega) hall', by rw [sw_len]; omega, ?_⟩
        rw [← numI_num hne (by omega) hall' h3]
        exact k
    refine ⟨_, rfl, _, _, c0, rfl, rfl, len_ok hb, ?_, rfl, _, rfl, ?_⟩
    · subst hcr
      exact atI_nat (j := 0) rfl
    refine ite2 (fun g => ?_) (fun g => ?_)
    · have h48 : b.head? = some 48 := by
        have g' := of_decide_eq_true g
        have e : (sw [c0]) = Str.ofString "0" := V.str.inj g'
        have e2 := sw_eq.mp e
        rw [hcr]
        have : c0 = 48 := by
          have := List.cons.inj (show [c0] = [48] from e2)
          exact this.1
        rw [this]; rfl
      refine ⟨_, rfl, _, rfl, len_ok hb, _, _, rfl, rfl, _, rfl, ?_⟩
      rw [sw_len]
      refine ite2 (fun g' => ?_) (fun g' => ?_)
      · show Q (.int (-1)) H
        rw [← numI_zero h48 (by have := of_decide_eq_true g'; omega)]
        exact k
      · exact loop (fun q => g' (decide_eq_true (by omega)))
    · refine iteF ?_
      refine loop (fun q => g (decide_eq_true ?_))
      have : c0 = 48 := by rw [hcr] at q; exact Option.some.inj q.1
      rw [this]
      decide +kernel
end
end Bt

end
section
set_option Elab.async false
set_option maxRecDepth 100000
set_option maxHeartbeats 2000000
set_option linter.all false
namespace L2
open PySem PySem.Spec PyProof.Rows
/-- a def of the top, as its callers know it -/
def Cal (P : Program) (w : World) (K : PySem.W.Frag) (mg : Str → Option Value) (base : Heap) (x : Str) (k : Nat) (ps : List Str) (sp : Sp) : Prop :=
  ∃ (f : Addr) (fd : FuncData), FnOk P w K mg base CX0 k f fd ps sp ∧ mg x = some (.ref f) ∧ PySem.W.keepIn K (.ref f) = true ∧ Binds K fd ps []
theorem pe_cal {X : Cx} {x : Str} {k : Nat} {ps : List Str} {sp : Sp} {p pos : Pos} {e : Expr} {es : List Expr} {t : TA} (c : Cal X.prog X.w X.K X.mg X.base x k ps sp) (hr : Room k X.A) (ha : PA X (e :: es) t) (hg : Gl X x := by rfl) (hd : (x == ("__debug__" : Str)) = false := by decide)
    (h1 : starEach (e :: es) X.env = (false, eval e X.env) :: starEach es X.env := by rfl) (h2 : ((backTo pos (starEach es X.env)).any fun x => x.1) = false := by rfl) : PE X (.Call (.Name x p) (e :: es) [] pos) (tCall sp [] E0 t) := by
  obtain ⟨f, fd, G, hm, kp, b⟩ := c
  exact pe_call G hr hg hm kp b .nil pass0 ha hd h1 h2
end L2
namespace Bt
open PySem PySem.Spec PyProof.Rows L2 Lcb
/-! ### the mathematics of names -/
theorem eqV_str (a b : Str) : eqV (.str a) (.str b) = decide (b = a) := by
  show (a == b) = _
  by_cases h : b = a
  · subst h; simp
  · rw [decide_eq_false h]
    exact beq_eq_false_iff_ne.mpr (fun q => h q.symm)
def kept8 : List Bytes := [ascii "pairs", ascii "let", ascii "do", ascii "row", ascii "twist", ascii "cross", ascii "repeat", ascii "end"]
def kept4 : List Bytes := [ascii "c", ascii "t", ascii "l", ascii "r"]
theorem kept_eq : kept = kept8 ++ kept4 := rfl
theorem dec_sw (b : Bytes) (s : String) : decide (sw b = Str.ofString s) = decide (b = ascii s) := by
  by_cases h : b = ascii s
  · rw [decide_eq_true h, decide_eq_true (sw_eq.mpr h)]
  · rw [decide_eq_false h, decide_eq_false (fun q => h (sw_eq.mp q))]
theorem inV_words (b : Bytes) : inV (.str (sw b)) wordsV = kept8.contains b := by
  unfold inV wordsV kept8
  simp only [List.any_cons, List.any_nil, eqV_str, List.contains_cons, List.contains_nil, dec_sw, Bool.or_false, Bool.beq_eq_decide_eq]
theorem val_letters (a1 a2 a3 a4 : Addr) (b : Bytes) : valV (lettersD a1 a2 a3 a4) (.inr (sw b)) = if b = ascii "c" then some (.ref a1) else if b = ascii "t" then some (.ref a2) else if b = ascii "l" then some (.ref a3) else if b = ascii "r" then some (.ref a4) else none := by
  unfold lettersD
  have key : ∀ {s : String} {v : V} {r : List (Key × V)}, valV ((Sum.inr (Str.ofString s), v) :: r) (.inr (sw b)) = if b = ascii s then some v else valV r (.inr (sw b)) := fun {s v r} => by
    by_cases h : b = ascii s
    · rw [if_pos h, valV_pos (show Sum.inr (Str.ofString s) = Sum.inr (sw b) by rw [sw_eq.mpr h])]
    · rw [if_neg h, valV_neg (fun q => h (sw_eq.mp (Sum.inr.inj q).symm))]
  rw [key, key, key, key]
  rfl
theorem some_letters (a1 a2 a3 a4 : Addr) (b : Bytes) : (valV (lettersD a1 a2 a3 a4) (.inr (sw b))).isSome = kept4.contains b := by
  rw [val_letters]
  unfold kept4
  simp only [List.contains_cons, List.contains_nil, Bool.or_false]
  by_cases h1 : b = ascii "c"
  · subst h1; rfl
  by_cases h2 : b = ascii "t"
  · subst h2; rfl
  by_cases h3 : b = ascii "l"
  · subst h3; rfl
  by_cases h4 : b = ascii "r"
  · subst h4; rfl
  rw [if_neg h1, if_neg h2, if_neg h3, if_neg h4]
  simp [h1, h2, h3, h4]
theorem name_short {b : Bytes} (h : b = [] ∨ 12 < b.length) : isName b = false := by
  unfold isName
  rcases h with rfl | h
  · rfl
  · rw [decide_eq_false (show ¬ b.length ≤ 12 by omega)]; simp
theorem name_kept {b : Bytes} (h : kept8.contains b = true ∨ kept4.contains b = true) : isName b = false := by
  unfold isName
  have : kept.contains b = true := by
    rw [kept_eq, List.contains_iff_mem, List.mem_append, ← List.contains_iff_mem, ← List.contains_iff_mem]
    exact h
  rw [this]; simp
theorem name_bad {b : Bytes} {c : Nat} (hc : c ∈ b) (h : isLetter c = false) : isName b = false := by
  unfold isName
  have : b.all isLetter = false := by
    rw [Bool.eq_false_iff]
    intro q
    rw [List.all_eq_true] at q
    rw [q c hc] at h; cases h
  rw [this]; simp
theorem name_yes {b : Bytes} (h1 : 1 ≤ b.length) (h2 : b.length ≤ 12) (h3 : kept8.contains b = false) (h4 : kept4.contains b = false) (h5 : b.all isLetter = true) : isName b = true := by
  unfold isName
  have : kept.contains b = false := by
    rw [Bool.eq_false_iff, kept_eq]
    intro q
    rw [List.contains_iff_mem, List.mem_append, ← List.contains_iff_mem, ← List.contains_iff_mem, h3, h4] at q
    simp at q
  rw [this, h5, decide_eq_true h1, decide_eq_true h2]; rfl
section
variable {P : Program} {w : World} {K : PySem.W.Frag} {mg : Str → Option Value} {base : Heap} {aW aL aO a1 a2 a3 a4 : Addr}
/-! ### is_name -/
def spName : Sp := fun vs H Q _ => ∃ b : Bytes, vs = [.str (sw b)] ∧ b.length ≤ 20000 ∧ Q (.bl (isName b)) H
theorem scName : FnScope ["word", "sign"] ["word"] (defScope sName) := ⟨rfl, rfl, rfl, by decide +kernel, rfl, by decide +kernel, by decide +kernel⟩
theorem ok_name {f : Addr} {fd : FuncData} (F : Fun K "is_name" "is_name" sName f fd) (T : Tx P w K mg aW aL aO a1 a2 a3 a4) : FnOk P w K mg base CX0 1 f fd ["word"] spName := by
  refine F.ok scName (fun vs H Q E h => ?_) (fun cdv A outer s H vs Q E hr h => ?_)
  · obtain ⟨i, rfl, _⟩ := h
    rfl
  · obtain ⟨b, rfl, hb, k⟩ := h
    refine ⟨_, pss_cons (ps_if (PW.pt (pw_or (pt_cmpR op_lt (pe_callB call_len_str rfl T.len PySem.boot_len (pa_cons (pv 0) pa_nil)) pe_int (nomark _)) (pw_or1 (pt_cmpR op_gt (pe_callB call_len_str rfl T.len PySem.boot_len (pa_cons (pv 0) pa_nil)) (pe_gi T.mostLetters) (nomark _))))) (pss_one (ps_ret pe_bl)) pss_nil)
      (pss_cons (ps_if (PW.pt (pw_or (pt_cmpR op_in_seq (pv 0) (pe_glob rfl T.mW rfl (v := .ref aW)) rfl) (pw_or1 (pt_cmp (pc_kin T.dL rfl T.mL (pv 0)))))) (pss_one (ps_ret pe_bl)) pss_nil)
      (pss_cons (ps_for PassesOwn.never rfl (pi_str (pv 0)) (pg_name (i := 1) scName.nd rfl (Or.inl rfl)) (pss_one (ps_if (pt_cmpR op_notIn_sign (pv 1) (pe_gs T.letters) rfl) (pss_one (ps_ret pe_bl)) pss_nil)))
      (pss_one (ps_ret pe_bl)))), ?_⟩
    refine ⟨_, rfl, _, rfl, len_ok hb, _, _, rfl, rfl, _, rfl, ?_⟩
    rw [sw_len]
    refine ite2 (fun g => ?_) (fun g => ?_)
    · refine iteT ?_
      have g' := of_decide_eq_true g
      have : b = [] := List.length_eq_zero_iff.mp (by omega)
      show Q (.bl false) H
      rw [← name_short (.inl this)]
      exact k
    have g1 : ¬ ((b.length : Int) < 1) := fun q => g (decide_eq_true q)
    refine ⟨_, rfl, _, rfl, len_ok hb, _, _, rfl, rfl, _, rfl, ?_⟩
    rw [sw_len]
    refine ite2 (fun g => ?_) (fun g => ?_)
    · have g' := of_decide_eq_true g
      show Q (.bl false) H
      rw [← name_short (b := b) (.inr (by omega))]
      exact k
    have g2 : ¬ ((12 : Int) < b.length) := fun q => g (decide_eq_true q)
    refine ⟨_, rfl, aW, _, rfl, .inr (T.tW.sq H), rfl, rfl, _, rfl, ?_⟩
    refine ite2 (fun g => ?_) (fun g => ?_)
    · refine iteT ?_
      have g' : inV (.str (sw b)) wordsV = true := g
      rw [inV_words] at g'
      show Q (.bl false) H
      rw [← name_kept (b := b) (.inl g')]
      exact k
    have h8 : kept8.contains b = false := by
      rw [← inV_words]
      exact Bool.eq_false_iff.mpr g
    refine ⟨_, rfl, .inr (sw b), rfl, _, rfl, ?_⟩
    rw [some_letters]
    cases h4 : kept4.contains b with
    | true =>
      refine iteT ?_
      show Q (.bl false) H
      rw [← name_kept (b := b) (.inr h4)]
      exact k
    | false =>
      refine iteF ?_
      refine ⟨_, rfl, _, rfl, for_str (x := sw b) (fun i σ H' => ∃ v : Option V, σ = [some (.str (sw b)), v] ∧ H' = H ∧ (b.take i).all isLetter = true) ⟨none, rfl, rfl, rfl⟩ ?_ ?_⟩
      · rintro i c σ H' hc ⟨v, rfl, rfl, hall⟩
        have hc' : b[i]? = some c := by simpa using hc
        refine ⟨_, rfl, c, _, rfl, rfl, _, rfl, ?_⟩
        have ed : decide (c ∈ (Str.ofString "abcdefghijklmnopqrstuvwxyz").cps.toList) = isLetter c := letters_mem c
        rw [ed]
        cases hd : isLetter c with
        | false =>
          refine iteT ?_
          show Q (.bl false) H'
          rw [← name_bad (List.mem_of_getElem? hc') hd]
          exact k
        | true =>
          refine iteF ?_
          refine ⟨_, rfl, rfl, ?_⟩
          rw [List.take_add_one, hc', List.all_append, hall]
          simp [hd]
      · rintro σ H' ⟨v, rfl, rfl, hall⟩
        have hall' : b.all isLetter = true := by
          have e : (sw b).cps.size = b.length := by simp
          rw [e, List.take_length] at hall
          exact hall
        show Q (.bl true) H'
        rw [← name_yes (b := b) (by omega) (by omega) h8 h4 hall']
        exact k
end
end Bt

end
section
set_option Elab.async false
set_option maxRecDepth 100000
set_option maxHeartbeats 2000000
set_option linter.all false
namespace Bt
open PySem PySem.Spec PyProof.Rows L2 Lcb
/-! ### the mathematics of items -/
def whatB : What → Bytes
  | .c => ascii "c"
  | .t => ascii "t"
  | .l => ascii "l"
  | .r => ascii "r"
  | .name b => b
def whatOf (b : Bytes) : What := if b = ascii "c" then .c else if b = ascii "t" then .t else if b = ascii "l" then .l else if b = ascii "r" then .r else .name b
theorem whatB_of (b : Bytes) : whatB (whatOf b) = b := by
  unfold whatOf
  by_cases h1 : b = ascii "c"
  · rw [if_pos h1, h1]; rfl
  rw [if_neg h1]
  by_cases h2 : b = ascii "t"
  · rw [if_pos h2, h2]; rfl
  rw [if_neg h2]
  by_cases h3 : b = ascii "l"
  · rw [if_pos h3, h3]; rfl
  rw [if_neg h3]
  by_cases h4 : b = ascii "r"
  · rw [if_pos h4, h4]; rfl
  rw [if_neg h4]; rfl
theorem kept4_iff (b : Bytes) : kept4.contains b = true ↔ b = ascii "c" ∨ b = ascii "t" ∨ b = ascii "l" ∨ b = ascii "r" := by
  rw [List.contains_iff_mem]
  unfold kept4
  simp only [List.mem_cons, List.not_mem_nil, or_false]
theorem whatIn_yes {b : Bytes} (h : kept4.contains b = true ∨ isName b = true) : whatIn b = some (whatOf b) := by
  unfold whatIn whatOf
  by_cases h1 : b = ascii "c"
  · rw [if_pos h1, if_pos h1]
  rw [if_neg h1, if_neg h1]
  by_cases h2 : b = ascii "t"
  · rw [if_pos h2, if_pos h2]
  rw [if_neg h2, if_neg h2]
  by_cases h3 : b = ascii "l"
  · rw [if_pos h3, if_pos h3]
  rw [if_neg h3, if_neg h3]
  by_cases h4 : b = ascii "r"
  · rw [if_pos h4, if_pos h4]
  rw [if_neg h4, if_neg h4]
  rcases h with h | h
  · rcases (kept4_iff b).mp h with q | q | q | q
    · exact absurd q h1
    · exact absurd q h2
    · exact absurd q h3
    · exact absurd q h4
  · rw [if_pos h]
theorem whatIn_no {b : Bytes} (h1 : kept4.contains b = false) (h2 : isName b = false) : whatIn b = none := by
  have h : ¬ (b = ascii "c" ∨ b = ascii "t" ∨ b = ascii "l" ∨ b = ascii "r") := fun q => by rw [(kept4_iff b).mpr q] at h1; cases h1
  unfold whatIn
  rw [if_neg (fun q => h (.inl q)), if_neg (fun q => h (.inr (.inl q))), if_neg (fun q => h (.inr (.inr (.inl q)))), if_neg (fun q => h (.inr (.inr (.inr q)))), if_neg (by rw [h2]; exact Bool.false_ne_true)]
theorem timesIn_numI {b : Bytes} : (numI b < 1 → timesIn b = none) ∧ (1 ≤ numI b → ∃ m : Nat, timesIn b = some m ∧ numI b = m) := by
  unfold timesIn
  rcases numI_cases b with ⟨n, e, e2⟩ | ⟨e, e2⟩
  · rw [e, e2]
    refine ⟨fun h => ?_, fun h => ⟨n, ?_, rfl⟩⟩
    · rw [Option.filter_some, if_neg (by simp; omega)]
    · rw [Option.filter_some, if_pos (by simp; omega)]
  · rw [e, e2]
    exact ⟨fun _ => rfl, fun h => absurd h (by decide)⟩
theorem pre42 (l : List Nat) (i : Nat) : TL.pre [42] (l.drop i) = true ↔ l[i]? = some 42 := by
  unfold TL.pre
  show ((l.drop i).take 1 == [42]) = true ↔ _
  rw [beq_iff_eq, List.take_one, List.head?_drop]
  cases l[i]? with
  | none => simp
  | some x => simp
theorem span42 : ∀ (l : List Nat) (i : Nat), l[i]? = some 42 → (∀ k, k < i → ¬ l[k]? = some 42) → l.takeWhile (fun c => c != 42) = l.take i ∧ (l.dropWhile fun c => c != 42).drop 1 = l.drop (i + 1)
  | [], i, h, _ => by simp at h
  | c :: l, 0, h, _ => by
    have e : c = 42 := Option.some.inj h
    subst e
    exact ⟨rfl, rfl⟩
  | c :: l, i + 1, h, hk => by
    have hc : ¬ c = 42 := fun q => hk 0 (by omega) (by rw [q]; rfl)
    obtain ⟨e1, e2⟩ := span42 l i h (fun k hk' => hk (k + 1) (by omega))
    have hb : (c != 42) = true := bne_iff_ne.mpr hc
    rw [List.takeWhile_cons, List.dropWhile_cons, hb]
    simp only [if_true, if_pos]
    exact ⟨by rw [e1]; rfl, e2⟩
theorem find_star (b : Bytes) : (b.contains 42 = false ∧ Txt.find (sw b) "*" = -1) ∨ ∃ i : Nat, Txt.find (sw b) "*" = (i : Int) ∧ b.contains 42 = true ∧ i < b.length ∧ b.takeWhile (fun c => c != 42) = b.take i ∧ (b.dropWhile fun c => c != 42).drop 1 = b.drop (i + 1) := by
  have hy : TL.tl "*" ≠ [] := by decide +kernel
  have ey : TL.tl "*" = [42] := by decide +kernel
  have at_ : ∀ i, StrLaws.At (sw b) "*" (sw b).length i ↔ b[i]? = some 42 := fun i => by
    rw [TL.at_iff hy i, ey]
    exact pre42 b i
  rcases find_whole (sw b) "*" with ⟨e, h⟩ | ⟨i, e, h1, h2⟩
  · refine .inl ⟨?_, e⟩
    rw [Bool.eq_false_iff]
    intro q
    rw [List.contains_iff_mem] at q
    obtain ⟨i, hi, hx⟩ := List.mem_iff_getElem.mp q
    exact h i ((at_ i).mpr (by rw [List.getElem?_eq_getElem hi, hx]))
  · have hi := (at_ i).mp h1
    obtain ⟨s1, s2⟩ := span42 b i hi (fun k hk q => h2 k hk ((at_ k).mpr q))
    exact .inr ⟨i, e, by rw [List.contains_iff_mem]; exact List.mem_of_getElem? hi, (List.getElem?_eq_some_iff.mp hi).1, s1, s2⟩
theorem cut_to {b : Bytes} {i : Nat} (h : i ≤ b.length) : cutS (sw b) none (some (i : Int)) = sw (b.take i) := by
  unfold cutS
  rw [HT.sIx_none, HT.sIx_nat, sw_len, Nat.min_eq_left h, List.drop_zero, Nat.sub_zero]
theorem cut_from {b : Bytes} {i : Nat} (h : i ≤ b.length) : cutS (sw b) (some (i : Int)) none = sw (b.drop i) := by
  unfold cutS
  rw [HT.sIx_none, HT.sIx_nat, sw_len, Nat.min_eq_left h]
  show sw ((b.drop i).take (b.length - i)) = _
  rw [List.take_of_length_le (by rw [List.length_drop]; omega)]
section
variable {P : Program} {w : World} {K : PySem.W.Frag} {mg : Str → Option Value} {base : Heap} {aW aL aO a1 a2 a3 a4 : Addr}
/-! ### item_of -/
def spItem : Sp := fun vs H Q _ => ∃ b : Bytes, vs = [.str (sw b)] ∧ b.length ≤ 20000 ∧ (itemIn b = none → Q .non H) ∧
  ∀ x, itemIn b = some x → ∀ p, H p = none → Q (.ref p) (upd H p (.tup [.int x.1, .str (sw (whatB x.2))]))
theorem scItem : FnScope ["word", "star", "times", "what"] ["word"] (defScope sItem) := ⟨rfl, rfl, rfl, by decide +kernel, rfl, by decide +kernel, by decide +kernel⟩
theorem ok_item {f : Addr} {fd : FuncData} (F : Fun K "item_of" "item_of" sItem f fd) (T : Tx P w K mg aW aL aO a1 a2 a3 a4)
    (cNum : Cal P w K mg base "number_of" 1 ["word"] spNum) (cName : Cal P w K mg base "is_name" 1 ["word"] spName) : FnOk P w K mg base CX0 2 f fd ["word"] spItem := by
  refine F.ok scItem (fun vs H Q E h => ?_) (fun cdv A outer s H vs Q E hr h => ?_)
  · obtain ⟨i, rfl, _⟩ := h
    rfl
  · obtain ⟨b, rfl, hb, k1, k2⟩ := h
    obtain ⟨t5, p5, h5⟩ : ∃ t, PSs (cxOf CX0 P w K mg base ["word", "star", "times", "what"] "item_of" (defScope sItem) f cdv A outer s H E).nox ((defBody sItem).drop 4) t ∧
        ∀ (st tm : Int) (wh : Bytes), wh.length ≤ 20000 → (tm < 1 → Q .non H) → (1 ≤ tm → whatIn wh = none → Q .non H) → (∀ x, 1 ≤ tm → whatIn wh = some x → ∀ p, H p = none → Q (.ref p) (upd H p (.tup [.int tm, .str (sw (whatB x))]))) →
          t { nx := fun x H' => Q L2.V.non H', rt := Q } [some (.str (sw b)), some (.int st), some (.int tm), some (.str (sw wh))] H := by
      refine ⟨_, pss_cons (ps_if (pt_cmpR op_lt (pv 2) pe_int (nomark _)) (pss_one (ps_ret pe_non)) pss_nil)
        (pss_cons (ps_if (PW.pt (pw_or (pt_cmp (pc_kin T.dL rfl T.mL (pv 3))) (pw_or1 (pt_val (pe_cal cName hr (pa_cons (pv 3) pa_nil)))))) (pss_one (ps_ret (pe_tup (pa_cons (pv 2) (pa_cons (pv 3) pa_nil))))) pss_nil)
        (pss_one (ps_ret pe_non))), fun st tm wh hw q1 q2 q3 => ?_⟩
      refine ⟨_, rfl, _, _, rfl, rfl, _, rfl, ?_⟩
      refine ite2 (fun g => ?_) (fun g => ?_)
      · exact q1 (of_decide_eq_true g)
      have g1 : 1 ≤ tm := by
        have : ¬ tm < 1 := fun q => g (decide_eq_true q)
        omega
      have made : whatIn wh = some (whatOf wh) → tTup (tCons (tVar 2) (tCons (tVar 3) tNil)) [some (.str (sw b)), some (.int st), some (.int tm), some (.str (sw wh))] H Q := fun e => by
        refine ⟨_, rfl, _, rfl, by show 2 ≤ sizeLine; decide, fun p hp => ?_⟩
        have := q3 _ g1 e p hp
        rw [whatB_of] at this
        exact this
      refine ⟨_, rfl, .inr (sw wh), rfl, _, rfl, ?_⟩
      rw [some_letters]
      cases h4 : kept4.contains wh with
      | true =>
        refine iteT ?_
        exact made (whatIn_yes (.inl h4))
      | false =>
        refine iteF ?_
        refine ⟨_, rfl, wh, rfl, hw, _, rfl, ?_⟩
        cases hn : isName wh with
        | true =>
          refine iteT ?_
          exact made (whatIn_yes (.inr hn))
        | false =>
          refine iteF ?_
          exact q2 g1 (whatIn_no h4 hn)
    refine ⟨_, pss_cons (ps_set (i := 1) scItem.nd rfl (Or.inl rfl) (pe_m1 PySem.F.slot_str_find PySem.F.type_str_find mt_find (pv 0) pe_str))
      (pss_cons (ps_set (i := 2) scItem.nd rfl (Or.inl rfl) pe_int)
      (pss_cons (ps_if (pt_cmpR op_ge (pv 1) pe_int (nomark _)) (pss_one (ps_set (i := 2) scItem.nd rfl (Or.inl rfl) (pe_cal cNum hr (pa_cons (pe_slice sl_str (pv 0) po_none (po_some (pv 1))) pa_nil)))) pss_nil)
      (pss_cons (ps_set (i := 3) scItem.nd rfl (Or.inl rfl) (pe_slice sl_str (pv 0) (po_some (pe_op op_add (pv 1) pe_int)) po_none)) p5))), ?_⟩
    refine ⟨_, rfl, ⟨_, rfl⟩, _, _, rfl, rfl, ?_⟩
    refine ⟨_, rfl, _, _, rfl, rfl, _, rfl, ?_⟩
    rcases find_star b with ⟨hc, hf⟩ | ⟨i, hf, hc, hi, e1, e2⟩
    · rw [hf]
      refine iteF ?_
      refine ⟨_, rfl, _, rfl, _, _, rfl, rfl, _, rfl, _, rfl, len_ok hb, ?_⟩
      have e0 : cutS (sw b) (some ((-1 : Int) + 1)) none = sw b := cut_from (i := 0) (Nat.zero_le _)
      rw [e0]
      have ei : itemIn b = (whatIn b).map fun x => (1, x) := by unfold itemIn; rw [if_neg (by rw [hc]; exact Bool.false_ne_true)]
      refine h5 _ _ b hb (fun q => absurd q (by decide)) (fun _ q => k1 (by rw [ei, q]; rfl)) (fun x _ q p hp => ?_)
      exact k2 (1, x) (by rw [ei, q]; rfl) p hp
    · rw [hf]
      refine ite2 (fun _ => ?_) (fun q => absurd (decide_eq_true (show (0 : Int) ≤ (i : Int) by omega)) q)
      refine ⟨_, rfl, _, rfl, _, rfl, _, rfl, len_ok hb, ?_⟩
      rw [cut_to (Nat.le_of_lt hi)]
      refine ⟨b.take i, rfl, by rw [List.length_take]; omega, ?_⟩
      refine ⟨_, rfl, _, rfl, _, _, rfl, rfl, _, rfl, _, rfl, len_ok hb, ?_⟩
      have e0 : cutS (sw b) (some ((i : Int) + 1)) none = sw (b.drop (i + 1)) := cut_from (i := i + 1) hi
      rw [e0]
      have ei : itemIn b = (timesIn (b.take i)).bind fun k => (whatIn (b.drop (i + 1))).map fun x => (k, x) := by unfold itemIn; rw [if_pos hc, e1, e2]
      refine h5 _ _ (b.drop (i + 1)) (by rw [List.length_drop]; omega) (fun q => k1 ?_) (fun q1 q => k1 ?_) (fun x q1 q p hp => ?_)
      · rw [ei, timesIn_numI.1 q]; rfl
      · obtain ⟨m, hm, _⟩ := timesIn_numI.2 q1
        rw [ei, hm, q]; rfl
      · obtain ⟨m, hm, hm2⟩ := timesIn_numI.2 q1
        rw [hm2]
        exact k2 (m, x) (by rw [ei, hm, q]; rfl) p hp
end
end Bt

end
section
set_option Elab.async false
set_option maxRecDepth 100000
set_option maxHeartbeats 2000000
set_option linter.all false
namespace Bt
open PySem PySem.Spec PyProof.Rows L2 Lcb
/-! ### all of them -/
def mapAll {α : Type} (f : Bytes → Option α) : List Bytes → Option (List α)
  | [] => some []
  | b :: r => (f b).bind fun x => (mapAll f r).map fun l => x :: l
theorem allIn_mapAll {α : Type} (f : Bytes → Option α) : ∀ (b : Bytes) (r : List Bytes), allIn f (b :: r) = mapAll f (b :: r)
  | b, [] => by
    show (f b).map (fun x => [x]) = (f b).bind fun x => (some []).map fun l => x :: l
    cases f b <;> rfl
  | b, c :: r => by
    show (f b).bind (fun x => (allIn f (c :: r)).map fun l => x :: l) = (f b).bind fun x => (mapAll f (c :: r)).map fun l => x :: l
    rw [allIn_mapAll f c r]
theorem mapAll_append {α : Type} (f : Bytes → Option α) : ∀ (a b : List Bytes), mapAll f (a ++ b) = (mapAll f a).bind fun x => (mapAll f b).map fun y => x ++ y
  | [], b => by
    show mapAll f b = (mapAll f b).map fun y => [] ++ y
    cases mapAll f b <;> rfl
  | c :: a, b => by
    show (f c).bind (fun x => (mapAll f (a ++ b)).map fun l => x :: l) = ((f c).bind fun x => (mapAll f a).map fun l => x :: l).bind fun x => (mapAll f b).map fun y => x ++ y
    rw [mapAll_append f a b]
    cases f c with
    | none => rfl
    | some x =>
      cases mapAll f a with
      | none => rfl
      | some l =>
        simp only [Option.bind_some, Option.map_some]
        cases mapAll f b with
        | none => rfl
        | some m => rfl
theorem mapAll_snoc {α : Type} {f : Bytes → Option α} {ws : List Bytes} {i : Nat} {b : Bytes} (h : ws[i]? = some b) {xs : List α} (hx : mapAll f (ws.take i) = some xs) : mapAll f (ws.take (i + 1)) = (f b).map fun x => xs ++ [x] := by
  rw [List.take_add_one, h, mapAll_append, hx]
  show (mapAll f [b]).map _ = _
  unfold mapAll
  cases f b <;> rfl
theorem mapAll_none {α : Type} {f : Bytes → Option α} {ws : List Bytes} {i : Nat} (h : mapAll f (ws.take i) = none) : mapAll f ws = none := by
  rw [← List.take_append_drop i ws, mapAll_append, h]; rfl
theorem mapAll_len {α : Type} {f : Bytes → Option α} : ∀ {ws : List Bytes} {xs : List α}, mapAll f ws = some xs → xs.length = ws.length
  | [], xs, h => by cases h; rfl
  | b :: r, xs, h => by
    have h' : ((f b).bind fun x => (mapAll f r).map fun l => x :: l) = some xs := h
    cases e : f b with
    | none => rw [e] at h'; cases h'
    | some x =>
      rw [e] at h'
      cases e2 : mapAll f r with
      | none => rw [e2] at h'; cases h'
      | some l =>
        rw [e2] at h'
        cases h'
        rw [List.length_cons, List.length_cons, mapAll_len e2]
theorem mapAll_mem {α : Type} {f : Bytes → Option α} : ∀ {ws : List Bytes} {xs : List α}, mapAll f ws = some xs → ∀ x ∈ xs, ∃ b ∈ ws, f b = some x
  | [], xs, h => by cases h; intro x hx; cases hx
  | b :: r, xs, h => by
    have h' : ((f b).bind fun x => (mapAll f r).map fun l => x :: l) = some xs := h
    cases e : f b with
    | none => rw [e] at h'; cases h'
    | some x =>
      rw [e] at h'
      cases e2 : mapAll f r with
      | none => rw [e2] at h'; cases h'
      | some l =>
        rw [e2] at h'
        cases h'
        intro y hy
        rcases List.mem_cons.mp hy with rfl | hy
        · exact ⟨b, List.mem_cons_self, e⟩
        · obtain ⟨c, hc, q⟩ := mapAll_mem e2 y hy
          exact ⟨c, List.mem_cons_of_mem _ hc, q⟩
theorem whatIn_back {b : Bytes} {x : What} (h : whatIn b = some x) : whatB x = b := by
  by_cases q : kept4.contains b = true ∨ isName b = true
  · rw [whatIn_yes q] at h
    cases h
    exact whatB_of b
  · have q1 : kept4.contains b = false := Bool.eq_false_iff.mpr fun z => q (.inl z)
    have q2 : isName b = false := Bool.eq_false_iff.mpr fun z => q (.inr z)
    rw [whatIn_no q1 q2] at h
    cases h
def ItemOk (x : Item) : Prop := whatIn (whatB x.2) = some x.2 ∧ 1 ≤ x.1 ∧ x.1 ≤ 99999
theorem numberOf_lt : ∀ (w : Bytes) (n : Nat), w.all isDigit = true → w.foldl (fun (n c : Nat) => 10 * n + (c - 48)) n < (n + 1) * 10 ^ w.length
  | [], n, _ => by simp
  | c :: w, n, h => by
    rw [List.all_cons, Bool.and_eq_true] at h
    have hc : c - 48 ≤ 9 := by
      have := h.1
      unfold isDigit at this
      simp only [Bool.and_eq_true, decide_eq_true_eq] at this
      omega
    rw [List.foldl_cons]
    refine Nat.lt_of_lt_of_le (numberOf_lt w _ h.2) ?_
    rw [List.length_cons, Nat.pow_succ, ← Nat.mul_assoc, Nat.mul_right_comm]
    exact Nat.mul_le_mul_right _ (by omega)
theorem numIn_le {b : Bytes} {n : Nat} (h : numIn b = some n) : n ≤ 99999 := by
  unfold numIn at h
  by_cases q : b ≠ [] ∧ b.length ≤ 5 ∧ b.all isDigit = true ∧ (b.head? ≠ some 48 ∨ b.length = 1)
  · rw [if_pos q] at h
    cases h
    have h1 := numberOf_lt b 0 q.2.2.1
    have h2 : 10 ^ b.length ≤ 10 ^ 5 := Nat.pow_le_pow_right (by omega) q.2.1
    unfold numberOf
    omega
  · rw [if_neg q] at h; cases h
theorem timesIn_le {b : Bytes} {n : Nat} (h : timesIn b = some n) : n ≤ 99999 := by
  unfold timesIn at h
  rw [Option.filter_eq_some_iff] at h
  exact numIn_le h.1
theorem itemIn_ok {b : Bytes} {x : Item} (h : itemIn b = some x) : ItemOk x := by
  unfold itemIn at h
  by_cases hc : b.contains 42 = true
  · rw [if_pos hc] at h
    cases e : timesIn (b.takeWhile fun (c : Nat) => c != 42) with
    | none => rw [e] at h; cases h
    | some m =>
      rw [e] at h
      cases e2 : whatIn ((b.dropWhile fun (c : Nat) => c != 42).drop 1) with
      | none => rw [e2] at h; cases h
      | some y =>
        rw [e2] at h
        cases h
        refine ⟨?_, timesIn_pos e, timesIn_le e⟩
        show whatIn (whatB y) = some y
        rw [whatIn_back e2]
        exact e2
  · rw [if_neg hc] at h
    cases e2 : whatIn b with
    | none => rw [e2] at h; cases h
    | some y =>
      rw [e2] at h
      cases h
      refine ⟨?_, Nat.le_refl _, by show (1 : Nat) ≤ 99999; omega⟩
      show whatIn (whatB y) = some y
      rw [whatIn_back e2]
      exact e2
/-! ### lists of items on the heap -/
abbrev itemV (x : Item) : HO := .tup [.int x.1, .str (sw (whatB x.2))]
structure ItemsAt (H : Hp) (p : Addr) (l : List Item) : Prop where
  ex : ∃ as : List Addr, H p = some (.lst (as.map V.ref)) ∧ Paired (fun (a : Addr) (x : Item) => H a = some (itemV x)) as l
  ok : ∀ x ∈ l, ItemOk x
  len : l.length ≤ 20000
theorem ItemsAt.same {H H' : Hp} {p : Addr} {l : List Item} (h : ItemsAt H p l) (s : Same H H') : ItemsAt H' p l := by
  obtain ⟨⟨as, h1, h2⟩, h3, h4⟩ := h
  exact ⟨⟨as, s _ _ h1, Paired.mapP h2 fun a x q => s _ _ q⟩, h3, h4⟩
theorem paired_get {α β : Type} {F : α → β → Prop} : ∀ {as : List α} {l : List β} {i : Nat} {a : α}, Paired F as l → as[i]? = some a → ∃ x, l[i]? = some x ∧ F a x
  | _, _, _, _, .nil, e => by simp at e
  | _, _, 0, _, .cons r _, e => by simp at e; subst e; exact ⟨_, rfl, r⟩
  | _, _, i + 1, a, .cons _ t, e => by
    obtain ⟨x, h1, h2⟩ := paired_get (i := i) (a := a) t (by simpa using e)
    exact ⟨x, by simpa using h1, h2⟩
theorem refs_get {as : List Addr} {i : Nat} {y : V} (h : (as.map V.ref)[i]? = some y) : ∃ a, as[i]? = some a ∧ y = .ref a := by
  rw [List.getElem?_map] at h
  cases e : as[i]? with
  | none => rw [e] at h; cases h
  | some a => rw [e] at h; exact ⟨a, rfl, (Option.some.inj h).symm⟩
theorem strs_get {ws : List Bytes} {i : Nat} {y : V} (h : (ws.map fun b => V.str (sw b))[i]? = some y) : ∃ b, ws[i]? = some b ∧ y = .str (sw b) := by
  rw [List.getElem?_map] at h
  cases e : ws[i]? with
  | none => rw [e] at h; cases h
  | some a => rw [e] at h; exact ⟨a, rfl, (Option.some.inj h).symm⟩
theorem Same.new {H : Hp} {p : Addr} {o : HO} (h : H p = none) : Same H (upd H p o) := fun b u e => by
  rw [upd_ne (ne_of_none e h)]; exact e
section
variable {P : Program} {w : World} {K : PySem.W.Frag} {mg : Str → Option Value} {base : Heap} {aW aL aO a1 a2 a3 a4 : Addr}
/-! ### items_of -/
def spItems (K : PySem.W.Frag) : Sp := fun vs H Q _ => ∃ (a : Addr) (ws : List Bytes), vs = [.ref a] ∧ SqL K H a (ws.map fun b => V.str (sw b)) ∧ ws.length ≤ 20000 ∧ (∀ b ∈ ws, b.length ≤ 20000) ∧
  ∀ (H' : Hp) (p : Addr), Same H H' → ItemsAt H' p ((mapAll itemIn ws).getD []) → Q (.ref p) H'
theorem scItems : FnScope ["words", "items", "word", "item"] ["words"] (defScope sItems) := ⟨rfl, rfl, rfl, by decide +kernel, rfl, by decide +kernel, by decide +kernel⟩
theorem ok_items {f : Addr} {fd : FuncData} (F : Fun K "items_of" "items_of" sItems f fd) (T : Tx P w K mg aW aL aO a1 a2 a3 a4)
    (cItem : Cal P w K mg base "item_of" 2 ["word"] spItem) : FnOk P w K mg base CX0 3 f fd ["words"] (spItems K) := by
  refine F.ok scItems (fun vs H Q E h => ?_) (fun cdv A outer s H vs Q E hr h => ?_)
  · obtain ⟨a, ws, rfl, _⟩ := h
    rfl
  · obtain ⟨a, ws, rfl, hS, hl, hw, k⟩ := h
    refine ⟨_, pss_cons (ps_set (i := 1) scItems.nd rfl (Or.inl rfl) (pe_lst pa_nil))
      (pss_cons (ps_for PassesOwn.never rfl (pi_list (pv 0)) (pg_name (i := 2) scItems.nd rfl (Or.inl rfl))
        (pss_cons (ps_set (i := 3) scItems.nd rfl (Or.inl rfl) (pe_cal cItem hr (pa_cons (pv 2) pa_nil)))
        (pss_cons (ps_if (pt_cmp (pc_isN (pv 3))) (pss_one (ps_ret (pe_lst pa_nil))) pss_nil)
        (pss_one (ps_expr (pe_bm PySem.F.plainAttrs_list PySem.F.slot_list_append PySem.F.type_list_append mt_append (pv 1) (pa_cons (pv 3) pa_nil)))))))
      (pss_one (ps_ret (pv 1)))), ?_⟩
    refine ⟨Nat.zero_le _, fun q hq => ?_⟩
    have s0 : Same H (upd H q (.lst [])) := Same.new hq
    refine ⟨_, rfl, a, rfl, ⟨_, s0.seq hS⟩, for_list (K := K) (a := a) (xs := ws.map fun b => V.str (sw b)) (fun i σ H' => ∃ (v2 v3 : Option V) (as : List Addr) (xs : List Item), σ = [some (.ref a), some (.ref q), v2, v3] ∧ Same H H' ∧ H' q = some (.lst (as.map V.ref)) ∧ Paired (fun (a : Addr) (x : Item) => H' a = some (itemV x)) as xs ∧ mapAll itemIn (ws.take i) = some xs)
      ⟨none, none, [], [], rfl, s0, upd_same, .nil, rfl⟩ (fun i σ H' _ ⟨_, _, _, _, _, s1, _⟩ => s1.seq hS) ?_ ?_⟩
    · rintro i y σ H' hi ⟨v2, v3, as, xs, rfl, s1, hq1, hp1, hm⟩
      obtain ⟨b, hb, rfl⟩ := strs_get hi
      have hil : i < ws.length := (List.getElem?_eq_some_iff.mp hb).1
      have hxl : xs.length = i := by rw [mapAll_len hm, List.length_take]; omega
      have hal : as.length ≤ 20000 := by rw [Paired.length hp1, hxl]; omega
      refine ⟨_, rfl, b, rfl, hw b (List.mem_of_getElem? hb), fun e => ?_, fun x e p hp => ?_⟩
      · -- no item
        refine ⟨_, rfl, _, rfl, ?_⟩
        refine iteT ?_
        refine ⟨Nat.zero_le _, fun r hr' => ?_⟩
        have s2 : Same H (upd H' r (.lst [])) := s1.trans (Same.new hr')
        refine k _ r s2 ?_
        have em : mapAll itemIn ws = none := mapAll_none (i := i + 1) (by rw [mapAll_snoc hb hm, e]; rfl)
        rw [em]
        exact ⟨⟨[], upd_same, .nil⟩, fun x hx => (by cases hx), Nat.zero_le _⟩
      · refine ⟨_, rfl, _, rfl, ?_⟩
        refine iteF ?_
        have s2 : Same H' (upd H' p (itemV x)) := Same.new hp
        have nq : q ≠ p := ne_of_none hq1 hp
        refine ⟨_, rfl, .inl ⟨rfl, _, SqL.of (s2 _ _ hq1)⟩, _, rfl, q, _, _, rfl, rfl, s2 _ _ hq1, by rw [List.length_map]; exact Nat.lt_of_le_of_lt hal (by decide), ?_⟩
        have fr : ∀ c o, upd H' p (itemV x) c = some o → c ≠ q → upd (upd H' p (itemV x)) q (.lst (as.map V.ref ++ [.ref p])) c = some o := fun c o e hc => by rw [upd_ne hc]; exact e
        have hqn : H q = none := hq
        refine ⟨_, _, as ++ [p], xs ++ [x], rfl, fun c o e => ?_, ?_, ?_, ?_⟩
        · exact fr c o (s2 _ _ (s1 _ _ e)) (ne_of_none e hqn)
        · rw [upd_same, List.map_append]; rfl
        · refine Paired.snoc (Paired.mapP hp1 fun c z e => ?_) ?_
          · exact fr c _ (s2 _ _ e) (ne_of e hq1 (by intro z; cases z))
          · exact fr p _ upd_same nq.symm
        · rw [mapAll_snoc hb hm, e]; rfl
    · rintro σ H' ⟨v2, v3, as, xs, rfl, s1, hq1, hp1, hm⟩
      rw [List.length_map, List.take_length] at hm
      refine ⟨_, rfl, ?_⟩
      refine k H' q s1 ?_
      rw [hm]
      refine ⟨⟨as, hq1, hp1⟩, fun x hx => ?_, by show xs.length ≤ 20000; rw [mapAll_len hm]; exact hl⟩
      obtain ⟨b, _, hb⟩ := mapAll_mem hm x hx
      exact itemIn_ok hb
end
end Bt

end
section
set_option Elab.async false
set_option maxRecDepth 100000
set_option maxHeartbeats 2000000
set_option linter.all false
namespace Bt
open PySem PySem.Spec PyProof.Rows L2 Lcb
/-! ### stitches -/
def lc : Letter → Int
  | .c => 64
  | .l => 0
  | .r => 1
abbrev vl (x : Letter) : V := .int (lc x)
/-- the dict of the names that were let; av: lists that none of them is -/
structure NamesAt (H : Hp) (d : Addr) (names : Names) (av : List Addr) (n : Nat) : Prop where
  ex : ∃ kvs : List (Key × V), H d = some (.dK kvs) ∧ kvs.length ≤ n ∧ ∀ b : Bytes, (look names b = none → valV kvs (.inr (sw b)) = none) ∧
    ∀ s, look names b = some s → ∃ a, valV kvs (.inr (sw b)) = some (.ref a) ∧ H a = some (.lst (s.map vl)) ∧ s.length ≤ 4097 ∧ a ∉ av
theorem NamesAt.same {H H' : Hp} {d : Addr} {names : Names} {av : List Addr} {n : Nat} (h : NamesAt H d names av n) (s : ∀ b o, H b = some o → b ∉ av → H' b = some o) (hd : d ∉ av) : NamesAt H' d names av n := by
  obtain ⟨kvs, h1, h2, h3⟩ := h
  refine ⟨kvs, s _ _ h1 hd, h2, fun b => ⟨(h3 b).1, fun t ht => ?_⟩⟩
  obtain ⟨a, q1, q2, q3, q4⟩ := (h3 b).2 t ht
  exact ⟨a, q1, s _ _ q2 q4, q3, q4⟩
theorem NamesAt.less {H : Hp} {d : Addr} {names : Names} {av : List Addr} {n : Nat} (h : NamesAt H d names av n) : NamesAt H d names [] n := by
  obtain ⟨kvs, h1, h2, h3⟩ := h
  refine ⟨kvs, h1, h2, fun b => ⟨(h3 b).1, fun t ht => ?_⟩⟩
  obtain ⟨a, q1, q2, q3, q4⟩ := (h3 b).2 t ht
  exact ⟨a, q1, q2, q3, by simp⟩
theorem stitch_some {names : Names} {x : Item} (h : ItemOk x) : (x.2.stitch names).isSome = (kept4.contains (whatB x.2) || (look names (whatB x.2)).isSome) := by
  obtain ⟨m, y⟩ := x
  cases y with
  | c => rfl
  | t => rfl
  | l => rfl
  | r => rfl
  | name b =>
    have h' : whatIn b = some (.name b) := h.1
    have hk : kept4.contains b = false := by
      rw [Bool.eq_false_iff]
      intro q
      rw [whatIn_yes (.inl q)] at h'
      have e : whatOf b = .name b := Option.some.inj h'
      rcases (kept4_iff b).mp q with z | z | z | z <;> (subst z; cases e)
    show (look names b).isSome = (kept4.contains b || (look names b).isSome)
    rw [hk]; rfl
theorem stitchOf_some (names : Names) : ∀ l : List Item, (stitchOf names l).isSome = l.all fun x => (x.2.stitch names).isSome
  | [] => rfl
  | x :: r => by
    rw [List.all_cons, ← stitchOf_some names r]
    show ((x.2.stitch names).bind fun s => (stitchOf names r).map fun t => cut (times x.1 s ++ t)).isSome = _
    cases x.2.stitch names with
    | none => rfl
    | some s =>
      cases stitchOf names r <;> rfl
def accS (names : Names) (acc : Stitch) (l : List Item) : Stitch := l.foldl (fun acc x => addM acc ((x.2.stitch names).getD []) x.1) acc
theorem accS_eq (names : Names) : ∀ (l : List Item) (acc s : Stitch), acc.length ≤ 4097 → stitchOf names l = some s → accS names acc l = cut (acc ++ s)
  | [], acc, s, hl, h => by
    cases h
    rw [List.append_nil, cut_small hl]; rfl
  | x :: r, acc, s, hl, h => by
    have h' : ((x.2.stitch names).bind fun s => (stitchOf names r).map fun t => cut (times x.1 s ++ t)) = some s := h
    cases e : x.2.stitch names with
    | none => rw [e] at h'; cases h'
    | some sx =>
      rw [e] at h'
      cases e2 : stitchOf names r with
      | none => rw [e2] at h'; cases h'
      | some t =>
        rw [e2] at h'
        have hs : cut (times x.1 sx ++ t) = s := Option.some.inj h'
        show accS names (addM acc ((x.2.stitch names).getD []) x.1) r = _
        rw [e]
        show accS names (cut (acc ++ (List.replicate x.1 sx).flatten)) r = _
        rw [accS_eq names r _ t (cut_len _) e2, ← hs, times_eq, cut_cut (acc ++ _) t, cut_cut (List.replicate x.1 sx).flatten t, cut_cut_r, List.append_assoc]
theorem stitchOf_cut {names : Names} : ∀ {l : List Item} {s : Stitch}, stitchOf names l = some s → cut s = s
  | [], s, h => by cases h; rfl
  | x :: r, s, h => by
    have h' : ((x.2.stitch names).bind fun s => (stitchOf names r).map fun t => cut (times x.1 s ++ t)) = some s := h
    cases e : x.2.stitch names with
    | none => rw [e] at h'; cases h'
    | some sx =>
      rw [e] at h'
      cases e2 : stitchOf names r with
      | none => rw [e2] at h'; cases h'
      | some t =>
        rw [e2] at h'
        have hs : cut (times x.1 sx ++ t) = s := Option.some.inj h'
        rw [← hs, cut_idem]
theorem addM_map {α β : Type} (f : α → β) (xs ys : List α) (m : Nat) : (addM xs ys m).map f = addM (xs.map f) (ys.map f) m := by
  unfold addM
  rw [cut_map, List.map_append, rep_map]
theorem addM_len {α : Type} (xs ys : List α) (m : Nat) : (addM xs ys m).length ≤ 4097 := cut_len _
section
variable {P : Program} {w : World} {K : PySem.W.Frag} {mg : Str → Option Value} {base : Heap} {aW aL aO a1 a2 a3 a4 : Addr}
/-! ### are_let -/
def spLet : Sp := fun vs H Q _ => ∃ (p d : Addr) (l : List Item) (names : Names) (n : Nat), vs = [.ref p, .ref d] ∧ ItemsAt H p l ∧ NamesAt H d names [] n ∧ Q (.bl (stitchOf names l).isSome) H
theorem scLet : FnScope ["items", "stitches", "item"] ["items", "stitches"] (defScope sLet) := ⟨rfl, rfl, rfl, by decide +kernel, rfl, by decide +kernel, by decide +kernel⟩
theorem ok_let {f : Addr} {fd : FuncData} (F : Fun K "are_let" "are_let" sLet f fd) (T : Tx P w K mg aW aL aO a1 a2 a3 a4) : FnOk P w K mg base CX0 1 f fd ["items", "stitches"] spLet := by
  refine F.ok scLet (fun vs H Q E h => ?_) (fun cdv A outer s H vs Q E hr h => ?_)
  · obtain ⟨p, d, l, names, n, rfl, _⟩ := h
    rfl
  · obtain ⟨p, d, l, names, n, rfl, ⟨⟨as, hp, hpa⟩, hok, _⟩, ⟨kvs, hd, _, hn⟩, k⟩ := h
    have hu := hu_of hr
    refine ⟨_, pss_cons (ps_for PassesOwn.never rfl (pi_list (pv 0)) (pg_name (i := 2) scLet.nd rfl (Or.inl rfl))
        (pss_one (ps_if (PW.pt (pw_and (pt_cmp (pc_knotin T.dL rfl T.mL (pe_ix ix_tup (pv 2) pe_int (fun _ _ => rfl)))) (pw_and1 (pt_cmp (pc_dnotin hu (pe_ix ix_tup (pv 2) pe_int (fun _ _ => rfl)) (pv 1)))))) (pss_one (ps_ret pe_bl)) pss_nil)))
      (pss_one (ps_ret pe_bl)), ?_⟩
    refine ⟨_, rfl, p, rfl, ⟨_, SqL.of hp⟩, for_list (K := K) (a := p) (xs := as.map V.ref) (fun i σ H' => ∃ v : Option V, σ = [some (.ref p), some (.ref d), v] ∧ H' = H ∧ ((l.take i).all fun x => (x.2.stitch names).isSome) = true)
      ⟨none, rfl, rfl, rfl⟩ (fun i σ H' _ ⟨_, _, e, _⟩ => by rw [e]; exact SqL.of hp) ?_ ?_⟩
    · rintro i y σ H' hi ⟨v, rfl, rfl, hall⟩
      obtain ⟨c, hc, rfl⟩ := refs_get hi
      obtain ⟨x, hx, hcx⟩ := paired_get hpa hc
      have hxm : x ∈ l := List.mem_of_getElem? hx
      have e := stitch_some (names := names) (hok x hxm)
      have at1 : atI [V.int (x.1 : Int), .str (sw (whatB x.2))] 1 = some (.str (sw (whatB x.2))) := atI_nat (j := 1) rfl
      have good_ : (x.2.stitch names).isSome = true → ((l.take (i + 1)).all fun x => (x.2.stitch names).isSome) = true := fun q => by
        rw [List.take_add_one, hx, List.all_append, hall]
        simp [q]
      refine ⟨_, rfl, c, _, _, _, rfl, rfl, SqT.of hcx, at1, .inr (sw (whatB x.2)), rfl, _, rfl, ?_⟩
      rw [some_letters]
      cases h4 : kept4.contains (whatB x.2) with
      | true =>
        refine iteF ?_
        refine iteF ?_
        rw [h4] at e
        exact ⟨_, rfl, rfl, good_ (by rw [e]; rfl)⟩
      | false =>
        refine iteT ?_
        rw [h4] at e
        refine ⟨_, rfl, c, _, _, _, rfl, rfl, SqT.of hcx, at1, _, rfl, d, _, rfl, DGet.k (k := .inr (sw (whatB x.2))) hd, _, rfl, ?_⟩
        cases hq : look names (whatB x.2) with
        | none =>
          rw [(hn _).1 hq]
          refine iteT ?_
          rw [hq] at e
          have en : (stitchOf names l).isSome = false := by
            rw [stitchOf_some, Bool.eq_false_iff]
            intro q
            rw [List.all_eq_true] at q
            rw [q x hxm] at e
            cases e
          rw [en] at k
          exact k
        | some t =>
          obtain ⟨a, q1, _⟩ := (hn _).2 t hq
          rw [q1]
          refine iteF ?_
          rw [hq] at e
          exact ⟨_, rfl, rfl, good_ (by rw [e]; rfl)⟩
    · rintro σ H' ⟨v, rfl, rfl, hall⟩
      rw [List.length_map, Paired.length hpa, List.take_length] at hall
      have en : (stitchOf names l).isSome = true := by rw [stitchOf_some]; exact hall
      rw [en] at k
      exact k
/-! ### add_times -/
def spAdd : Sp := fun vs H Q _ => ∃ (p q : Addr) (xs ys : List V) (m : Nat), vs = [.ref p, .ref q, .int m] ∧ H p = some (.lst xs) ∧ H q = some (.lst ys) ∧ xs.length ≤ 4097 ∧ ys.length ≤ 4097 ∧ m ≤ 99999 ∧
  ∀ H' : Hp, H' p = some (.lst (addM xs ys m)) → (∀ b o, H b = some o → b ≠ p → H' b = some o) → Q .non H'
theorem scAdd : FnScope ["acts", "more", "times", "room", "enough"] ["acts", "more", "times"] (defScope sAdd) := ⟨rfl, rfl, rfl, by decide +kernel, rfl, by decide +kernel, by decide +kernel⟩
theorem ok_add {f : Addr} {fd : FuncData} (F : Fun K "add_times" "add_times" sAdd f fd) (T : Tx P w K mg aW aL aO a1 a2 a3 a4) : FnOk P w K mg base CX0 1 f fd ["acts", "more", "times"] spAdd := by
  refine F.ok scAdd (fun vs H Q E h => ?_) (fun cdv A outer s H vs Q E hr h => ?_)
  · obtain ⟨p, q, xs, ys, m, rfl, _⟩ := h
    rfl
  · obtain ⟨p, q, xs, ys, m, rfl, hp, hq, hx, hy, hm, k⟩ := h
    refine ⟨_, pss_cons (ps_set (i := 3) scAdd.nd rfl (Or.inl rfl) (pe_op op_sub (pe_op op_add (pe_gi T.mostActs) pe_int) (pe_callB call_len_seq rfl T.len PySem.boot_len (pa_cons (pv 0) pa_nil))))
      (pss_cons (ps_if (PW.pt (pw_or (pt_cmpR op_eq (pv 3) pe_int (nomark _)) (pw_or1 (pt_cmpR op_eq (pe_callB call_len_seq rfl T.len PySem.boot_len (pa_cons (pv 1) pa_nil)) pe_int (nomark _))))) (pss_one ps_retN) pss_nil)
      (pss_cons (ps_set (i := 4) scAdd.nd rfl (Or.inl rfl) (pe_callB (call_min2 rfl) rfl T.min boot_min (pa_cons (pv 2) (pa_cons (pe_op op_add (pe_op op_fdiv (pv 3) (pe_callB call_len_seq rfl T.len PySem.boot_len (pa_cons (pv 1) pa_nil))) pe_int) pa_nil))))
      (pss_one (ps_expr (pe_bm PySem.F.plainAttrs_list PySem.F.slot_list_extend PySem.F.type_list_extend mt_extend (pv 0) (pa_cons (pe_slice sl_list (pe_op op_rep (pv 1) (pv 4)) po_none (po_some (pv 3))) pa_nil)))))), ?_⟩
    refine ⟨_, _, rfl, rfl, _, rfl, p, xs, rfl, .inl (SqL.of hp), _, _, rfl, rfl, ?_⟩
    have er : ((4096 : Int) + 1 - (xs.length : Int)) = ((4097 - xs.length : Nat) : Int) := by omega
    dsimp only
    rw [er]
    generalize hroom : 4097 - xs.length = room
    refine ⟨_, rfl, rfl, _, rfl, ?_⟩
    refine ite2 (fun g => ?_) (fun g => ?_)
    · refine iteT ?_
      have g' : (room : Int) = 0 := V.int.inj (of_decide_eq_true g)
      have hfull : xs.length = 4097 := by omega
      exact k H (by unfold addM; rw [cut_full hfull]; exact hp) (fun b o e _ => e)
    have g1 : ¬ room = 0 := fun z => g (decide_eq_true (by rw [z]; rfl))
    refine ⟨_, rfl, q, ys, rfl, .inl (SqL.of hq), rfl, _, rfl, ?_⟩
    refine ite2 (fun g => ?_) (fun g => ?_)
    · have g' : (ys.length : Int) = 0 := V.int.inj (of_decide_eq_true g)
      have hz : ys = [] := List.length_eq_zero_iff.mp (by omega)
      refine k H ?_ (fun b o e _ => e)
      rw [hz]
      unfold addM
      have : (List.replicate m ([] : List V)).flatten = [] := by simp
      rw [this, List.append_nil, cut_small hx]
      exact hp
    have g2 : 0 < ys.length := by
      have : ¬ (ys.length : Int) = 0 := fun z => g (decide_eq_true (by rw [z]))
      omega
    refine ⟨_, rfl, _, rfl, _, rfl, q, ys, rfl, .inl (SqL.of hq), _, _, rfl, rfl, ⟨by omega, by omega⟩, _, _, rfl, rfl, _, _, rfl, ?_⟩
    have ee : (if ((room : Int) / (ys.length : Int) + 1) < (m : Int) then ((room : Int) / (ys.length : Int) + 1) else (m : Int)) = ((min m (room / ys.length + 1) : Nat) : Int) := by
      have e0 : ((room : Int) / (ys.length : Int) + 1) = ((room / ys.length + 1 : Nat) : Int) := by simp
      rw [e0]
      by_cases hlt : room / ys.length + 1 < m
      · rw [if_pos (by omega), Nat.min_eq_right (by omega)]
      · rw [if_neg (by omega), Nat.min_eq_left (by omega)]
    rw [ee]
    generalize hen : min m (room / ys.length + 1) = en
    have hb1 : en ≤ m := by rw [← hen]; exact Nat.min_le_left _ _
    have hb2 : en ≤ room / ys.length + 1 := by rw [← hen]; exact Nat.min_le_right _ _
    have hsz : ys.length * en ≤ 8200 := by
      have h1 : ys.length * en ≤ ys.length * (room / ys.length + 1) := Nat.mul_le_mul_left _ hb2
      have h2 : ys.length * (room / ys.length) ≤ room := Nat.mul_div_le _ _
      rw [Nat.mul_add, Nat.mul_one] at h1
      omega
    refine ⟨_, rfl, .inl ⟨rfl, _, SqL.of hp⟩, _, rfl, _, rfl, q, _, ys, rfl, rfl, hq, by omega, by omega, by rw [Int.toNat_natCast]; exact Nat.le_trans hsz (by decide), fun r hr' => ?_⟩
    rw [Int.toNat_natCast]
    refine ⟨_, rfl, _, rfl, r, _, rfl, SqL.of upd_same, fun r2 hr2 => ?_⟩
    have npr : p ≠ r := ne_of_none hp hr'
    have hp1 : upd H r (.lst (List.replicate en ys).flatten) p = some (.lst xs) := by rw [upd_ne npr]; exact hp
    have npr2 : p ≠ r2 := ne_of_none hp1 hr2
    have ec : cutV (List.replicate en ys).flatten none (some (room : Int)) = (List.replicate en ys).flatten.take room := by
      unfold cutV
      rw [HT.sIx_none, HT.sIx_nat, List.drop_zero, Nat.sub_zero]
      rcases Nat.le_total room (List.replicate en ys).flatten.length with z | z
      · rw [Nat.min_eq_left z]
      · rw [Nat.min_eq_right z, List.take_length, List.take_of_length_le z]
    rw [ec]
    have hadd : xs ++ (List.replicate en ys).flatten.take room = addM xs ys m := by
      have e1 : xs ++ (List.replicate en ys).flatten.take room = cut (xs ++ (List.replicate en ys).flatten) := by
        unfold cut
        rw [List.take_append, List.take_of_length_le (l := xs) (by show xs.length ≤ 4097; omega)]
        congr 2
        have : MOST = 4096 := rfl
        omega
      rw [e1]
      unfold addM
      refine cut_rep xs ys ?_
      rcases Nat.lt_or_ge (room / ys.length + 1) m with z | z
      · right
        rw [Nat.min_eq_right (Nat.le_of_lt z)] at hen
        refine ⟨hb1, ?_⟩
        have := Nat.lt_mul_div_succ room g2
        rw [← hen, Nat.mul_comm]
        omega
      · left
        rw [Nat.min_eq_left z] at hen
        exact hen.symm
    refine ⟨p, r2, xs, _, rfl, rfl, by rw [upd_ne npr2]; exact hp1, upd_same, ?_, ?_⟩
    · have : ((List.replicate en ys).flatten.take room).length ≤ 8200 := by
        rw [List.length_take, rep_len, Nat.mul_comm]; omega
      exact Nat.le_trans (by omega : _ ≤ 20000) size17
    · rw [hadd]
      refine k _ upd_same (fun b o e hb => ?_)
      rw [upd_ne hb]
      have e1 : upd H r (.lst (List.replicate en ys).flatten) b = some o := by rw [upd_ne (ne_of_none e hr')]; exact e
      rw [upd_ne (ne_of_none e1 hr2)]
      exact e1
end
end Bt

end
section
set_option Elab.async false
set_option maxRecDepth 100000
set_option maxHeartbeats 2000000
set_option linter.all false
namespace Bt
open PySem PySem.Spec PyProof.Rows L2 Lcb
section
variable {P : Program} {w : World} {K : PySem.W.Frag} {mg : Str → Option Value} {base : Heap} {aW aL aO a1 a2 a3 a4 : Addr}
theorem letter_tup (T : Tx P w K mg aW aL aO a1 a2 a3 a4) {x : What} (names : Names) (h : kept4.contains (whatB x) = true) (hx : whatIn (whatB x) = some x) : ∃ (a : Addr) (s : Stitch), valV (lettersD a1 a2 a3 a4) (.inr (sw (whatB x))) = some (.ref a) ∧ TupK K a (s.map vl) ∧ x.stitch names = some s ∧ s.length ≤ 4097 := by
  cases x with
  | c => exact ⟨a1, [.c], by rw [val_letters]; rfl, T.t1, rfl, by decide⟩
  | t => exact ⟨a2, [.l, .r], by rw [val_letters]; rfl, T.t2, rfl, by decide⟩
  | l => exact ⟨a3, [.l], by rw [val_letters]; rfl, T.t3, rfl, by decide⟩
  | r => exact ⟨a4, [.r], by rw [val_letters]; rfl, T.t4, rfl, by decide⟩
  | name b =>
    have hx' : whatIn b = some (.name b) := hx
    have h' : kept4.contains b = true := h
    rw [whatIn_yes (.inl h')] at hx'
    have e : whatOf b = .name b := Option.some.inj hx'
    rcases (kept4_iff b).mp h' with z | z | z | z <;> (subst z; cases e)
theorem name_stitch {x : What} {names : Names} (h : kept4.contains (whatB x) = false) : x.stitch names = look names (whatB x) := by
  cases x with
  | c => cases h
  | t => cases h
  | l => cases h
  | r => cases h
  | name b => rfl
/-! ### acts_of -/
def spActs : Sp := fun vs H Q _ => ∃ (p d : Addr) (l : List Item) (names : Names) (n : Nat) (t : Stitch), vs = [.ref p, .ref d] ∧ ItemsAt H p l ∧ NamesAt H d names [] n ∧ stitchOf names l = some t ∧
  ∀ (H' : Hp) (q : Addr), Same H H' → H q = none → H' q = some (.lst (t.map vl)) → t.length ≤ 4097 → Q (.ref q) H'
theorem scActs : FnScope ["items", "stitches", "acts", "item", "times", "what"] ["items", "stitches"] (defScope sActs) := ⟨rfl, rfl, rfl, by decide +kernel, rfl, by decide +kernel, by decide +kernel⟩
theorem ok_acts {f : Addr} {fd : FuncData} (F : Fun K "acts_of" "acts_of" sActs f fd) (T : Tx P w K mg aW aL aO a1 a2 a3 a4)
    (cAdd : Cal P w K mg base "add_times" 1 ["acts", "more", "times"] spAdd) : FnOk P w K mg base CX0 2 f fd ["items", "stitches"] spActs := by
  refine F.ok scActs (fun vs H Q E h => ?_) (fun cdv A outer s H vs Q E hr h => ?_)
  · obtain ⟨p, d, l, names, n, t, rfl, _⟩ := h
    rfl
  · obtain ⟨p, d, l, names, n, t, rfl, IA, NA, hst, k⟩ := h
    obtain ⟨⟨as, hp, hpa⟩, hok, _⟩ := id IA
    obtain ⟨kvs, hd, _, hn⟩ := id NA
    have hu := hu_of hr
    refine ⟨_, pss_cons (ps_set (i := 2) scActs.nd rfl (Or.inl rfl) (pe_lst pa_nil))
      (pss_cons (ps_for PassesOwn.never rfl (pi_list (pv 0)) (pg_name (i := 3) scActs.nd rfl (Or.inl rfl))
        (pss_cons (ps_set (i := 4) scActs.nd rfl (Or.inl rfl) (pe_ix ix_tup (pv 3) pe_int (fun _ _ => rfl)))
        (pss_cons (ps_set (i := 5) scActs.nd rfl (Or.inl rfl) (pe_ix ix_tup (pv 3) pe_int (fun _ _ => rfl)))
        (pss_one (ps_if (pt_cmp (pc_kin T.dL rfl T.mL (pv 5)))
          (pss_one (ps_expr (pe_cal cAdd hr (pa_cons (pv 2) (pa_cons (pe_callTy call_list_of rfl T.list (by decide +kernel) (pa_cons (pe_kget T.dL rfl T.mL (pv 5) (fun _ _ => rfl)) pa_nil)) (pa_cons (pv 4) pa_nil))))))
          (pss_one (ps_expr (pe_cal cAdd hr (pa_cons (pv 2) (pa_cons (pe_dget hu (pv 1) (pv 5) (fun _ _ => rfl)) (pa_cons (pv 4) pa_nil)))))))))))
      (pss_one (ps_ret (pv 2)))), ?_⟩
    refine ⟨Nat.zero_le _, fun q hq => ?_⟩
    have s0 : Same H (upd H q (.lst [])) := Same.new hq
    have hall : (l.all fun x => (x.2.stitch names).isSome) = true := by rw [← stitchOf_some, hst]; rfl
    refine ⟨_, rfl, p, rfl, ⟨_, SqL.of (s0 _ _ hp)⟩, for_list (K := K) (a := p) (xs := as.map V.ref) (fun i σ H' => ∃ v3 v4 v5 : Option V, σ = [some (.ref p), some (.ref d), some (.ref q), v3, v4, v5] ∧ Same H H' ∧ H' q = some (.lst ((accS names [] (l.take i)).map vl)) ∧ (accS names [] (l.take i)).length ≤ 4097)
      ⟨none, none, none, rfl, s0, upd_same, by show 0 ≤ 4097; omega⟩ (fun i σ H' _ ⟨_, _, _, _, s1, _⟩ => SqL.of (s1 _ _ hp)) ?_ ?_⟩
    · rintro i y σ H' hi ⟨v3, v4, v5, rfl, s1, hq1, hlen⟩
      obtain ⟨c, hc, rfl⟩ := refs_get hi
      obtain ⟨x, hx, hcx⟩ := paired_get hpa hc
      have hxm : x ∈ l := List.mem_of_getElem? hx
      have hsx : (x.2.stitch names).isSome = true := (List.all_eq_true.mp hall) x hxm
      have hcx' := s1 _ _ hcx
      have at0 : atI [V.int (x.1 : Int), .str (sw (whatB x.2))] 0 = some (.int (x.1 : Int)) := atI_nat (j := 0) rfl
      have at1 : atI [V.int (x.1 : Int), .str (sw (whatB x.2))] 1 = some (.str (sw (whatB x.2))) := atI_nat (j := 1) rfl
      have eacc : ∀ sx : Stitch, x.2.stitch names = some sx → accS names [] (l.take (i + 1)) = addM (accS names [] (l.take i)) sx x.1 := fun sx e => by
        rw [List.take_add_one, hx]
        show accS names [] (l.take i ++ [x]) = _
        unfold accS
        rw [List.foldl_append]
        show addM _ ((x.2.stitch names).getD []) x.1 = _
        rw [e]; rfl
      -- behind add_times
      have fin : ∀ (H2 : Hp) (r : Addr) (sx : Stitch), Same H' H2 → H2 r = some (.lst (sx.map vl)) → sx.length ≤ 4097 → x.2.stitch names = some sx → spAdd [.ref q, .ref r, .int (x.1 : Int)] H2 (fun _ H1 => ∃ v3 v4 v5 : Option V, [some (V.ref p), some (.ref d), some (.ref q), some (.ref c), some (.int (x.1 : Int)), some (.str (sw (whatB x.2)))] = [some (.ref p), some (.ref d), some (.ref q), v3, v4, v5] ∧ Same H H1 ∧ H1 q = some (.lst ((accS names [] (l.take (i + 1))).map vl)) ∧ (accS names [] (l.take (i + 1))).length ≤ 4097) E0 := fun H2 r sx s2 hr2 hl2 e => by
        refine ⟨q, r, _, _, x.1, rfl, s2 _ _ hq1, hr2, by rw [List.length_map]; exact hlen, by rw [List.length_map]; exact hl2, (hok x hxm).2.2, fun H3 h3 kp => ?_⟩
        refine ⟨_, _, _, rfl, fun b o eb => kp b o (s2 _ _ (s1 _ _ eb)) (ne_of_none eb hq), ?_, ?_⟩
        · rw [h3, eacc sx e, addM_map]
        · rw [eacc sx e]; exact addM_len _ _ _
      refine ⟨_, rfl, c, _, _, _, rfl, rfl, SqT.of hcx', at0, _, rfl, c, _, _, _, rfl, rfl, SqT.of hcx', at1, ?_⟩
      refine ⟨_, rfl, .inr (sw (whatB x.2)), rfl, _, rfl, ?_⟩
      rw [some_letters]
      cases h4 : kept4.contains (whatB x.2) with
      | true =>
        refine iteT ?_
        obtain ⟨aT, sx, hv, hT, e, hl2⟩ := letter_tup T names h4 (hok x hxm).1
        refine ⟨_, rfl, _, rfl, .inr (sw (whatB x.2)), _, rfl, hv, aT, _, rfl, .inr (hT.sq _), fun r hr' => ⟨_, rfl, ?_⟩⟩
        exact fin _ r sx (Same.new hr') upd_same hl2 e
      | false =>
        refine iteF ?_
        have e := name_stitch (names := names) h4
        cases hlk : look names (whatB x.2) with
        | none =>
          rw [hlk] at e
          rw [e] at hsx
          cases hsx
        | some sx =>
          obtain ⟨a, q1, q2, q3, q4⟩ := (hn _).2 sx hlk
          have dg : DGet H' d (kV (.inr (sw (whatB x.2)))) (some (.ref a)) := by
            have := DGet.k (k := .inr (sw (whatB x.2))) (s1 _ _ hd)
            rw [q1] at this
            exact this
          refine ⟨_, rfl, _, rfl, _, rfl, d, _, rfl, dg, _, rfl, ?_⟩
          exact fin _ a sx (Same.refl _) (s1 _ _ q2) q3 (by rw [e, hlk])
    · rintro σ H' ⟨v3, v4, v5, rfl, s1, hq1, hlen⟩
      rw [List.length_map, Paired.length hpa, List.take_length] at hq1 hlen
      have ea : accS names [] l = t := by
        rw [accS_eq names l [] t (by show 0 ≤ 4097; omega) hst, List.nil_append, stitchOf_cut hst]
      rw [ea] at hq1 hlen
      refine ⟨_, rfl, ?_⟩
      exact k H' q s1 hq hq1 hlen
end
/-! ### the Reading -/
def flds (n : Int) (d w r : Addr) : List (Str × V) := putF "repeats" (.ref r) (putF "worked" (.ref w) (putF "stitches" (.ref d) (putF "pairs" (.int n) [])))
theorem fne1 : ¬ (("pairs" : Str) = "stitches") := by decide +kernel
theorem fne2 : ¬ (("pairs" : Str) = "worked") := by decide +kernel
theorem fne3 : ¬ (("pairs" : Str) = "repeats") := by decide +kernel
theorem fne4 : ¬ (("stitches" : Str) = "worked") := by decide +kernel
theorem fne5 : ¬ (("stitches" : Str) = "repeats") := by decide +kernel
theorem fne6 : ¬ (("worked" : Str) = "repeats") := by decide +kernel
theorem flds_eq (n : Int) (d w r : Addr) : flds n d w r = ([("pairs", .int n), ("stitches", .ref d), ("worked", .ref w), ("repeats", .ref r)] : List (Str × V)) := by
  unfold flds
  simp only [putF, if_neg fne1, if_neg fne2, if_neg fne3, if_neg fne4, if_neg fne5, if_neg fne6]
theorem flds_pairs (n : Int) (d w r : Addr) : (flds n d w r).lookup ("pairs" : Str) = some (.int n) := by
  unfold flds
  rw [lookup_putF, if_neg fne3, lookup_putF, if_neg fne2, lookup_putF, if_neg fne1, lookup_putF, if_pos rfl]
theorem flds_stitches (n : Int) (d w r : Addr) : (flds n d w r).lookup ("stitches" : Str) = some (.ref d) := by
  unfold flds
  rw [lookup_putF, if_neg fne5, lookup_putF, if_neg fne4, lookup_putF, if_pos rfl]
theorem flds_worked (n : Int) (d w r : Addr) : (flds n d w r).lookup ("worked" : Str) = some (.ref w) := by
  unfold flds
  rw [lookup_putF, if_neg fne6, lookup_putF, if_pos rfl]
theorem flds_repeats (n : Int) (d w r : Addr) : (flds n d w r).lookup ("repeats" : Str) = some (.ref r) := by
  unfold flds
  rw [lookup_putF, if_pos rfl]
theorem flds_len (n : Int) (d w r : Addr) : (flds n d w r).length < 1000 := by rw [flds_eq]; show 4 < 1000; decide
theorem flds_put (n m : Int) (d w r : Addr) : putF "pairs" (.int m) (flds n d w r) = flds m d w r := by
  rw [flds_eq, flds_eq]
  show (if ("pairs" : Str) = "pairs" then _ else _) = _
  rw [if_pos rfl]
structure Rc (K : PySem.W.Frag) (mg : Str → Option Value) (C : Addr) : Prop where
  cl : Cls K C
  nP : NoAttr K C "pairs"
  nS : NoAttr K C "stitches"
  nW : NoAttr K C "worked"
  nR : NoAttr K C "repeats"
def ObAt (C : Addr) (H : Hp) (p : Addr) (n : Int) (d w r : Addr) : Prop := ∃ dx, H p = some (.ins C dx (flds n d w r))
abbrev actV (x : Lcb.Act × Nat) : HO := .tup [.int x.1.code, .int x.2]
def WkAt (H : Hp) (w : Addr) (wk : List (Lcb.Act × Nat)) : Prop := ∃ as : List Addr, H w = some (.lst (as.map V.ref)) ∧ Paired (fun (a : Addr) (x : Lcb.Act × Nat) => H a = some (actV x)) as wk
theorem WkAt.same {H H' : Hp} {w : Addr} {wk : List (Lcb.Act × Nat)} (h : WkAt H w wk) (s : ∀ b o, H b = some o → b ≠ w → H' b = some o) (hw : H' w = H w) : WkAt H' w wk := by
  obtain ⟨as, h1, h2⟩ := h
  exact ⟨as, by rw [hw]; exact h1, Paired.mapP h2 fun a x q => s a _ q (ne_of q h1 (by intro z; cases z))⟩
theorem paired_append {α β : Type} {F : α → β → Prop} : ∀ {a b : List α} {c d : List β}, Paired F a c → Paired F b d → Paired F (a ++ b) (c ++ d)
  | _, _, _, _, .nil, s => s
  | _, _, _, _, .cons r t, s => .cons r (paired_append t s)
theorem paired_take {α β : Type} {F : α → β → Prop} : ∀ {a : List α} {c : List β} (n : Nat), Paired F a c → Paired F (a.take n) (c.take n)
  | _, _, 0, _ => .nil
  | _, _, _ + 1, .nil => .nil
  | _, _, n + 1, .cons r t => .cons r (paired_take n t)
theorem paired_drop {α β : Type} {F : α → β → Prop} : ∀ {a : List α} {c : List β} (n : Nat), Paired F a c → Paired F (a.drop n) (c.drop n)
  | _, _, 0, r => r
  | _, _, _ + 1, .nil => .nil
  | _, _, n + 1, .cons _ t => paired_drop n t
theorem paired_rep {α β : Type} {F : α → β → Prop} {a : List α} {c : List β} (h : Paired F a c) : ∀ m : Nat, Paired F (List.replicate m a).flatten (List.replicate m c).flatten
  | 0 => .nil
  | m + 1 => by
    rw [List.replicate_succ, List.replicate_succ, List.flatten_cons, List.flatten_cons]
    exact paired_append h (paired_rep h m)
theorem paired_addM {α β : Type} {F : α → β → Prop} {a b : List α} {c d : List β} (h : Paired F a c) (h' : Paired F b d) (m : Nat) : Paired F (addM a b m) (addM c d m) :=
  paired_take _ (paired_append h (paired_rep h' m))
theorem code_at (k : Nat) (x : Letter) : ((Letter.at_ k x).code : Int) = lc x + k := by
  cases x
  · show ((64 + k : Nat) : Int) = 64 + k; omega
  · show ((k : Nat) : Int) = 0 + k; omega
  · show ((k + 1 : Nat) : Int) = 1 + k; omega
section
variable {P : Program} {w : World} {K : PySem.W.Frag} {mg : Str → Option Value} {base : Heap} {aW aL aO a1 a2 a3 a4 : Addr}
/-! ### __init__ -/
def spInit (C : Addr) : Sp := fun vs H Q _ => ∃ (p dx : Addr), vs = [.ref p] ∧ H p = some (.ins C dx []) ∧ ∀ (H' : Hp) (d w r : Addr), H d = none → H w = none → H r = none → d ≠ w → d ≠ r → w ≠ r → ObAt C H' p 0 d w r → H' d = some (.dK []) → H' w = some (.lst []) → H' r = some (.lst []) → (∀ b o, H b = some o → b ≠ p → H' b = some o) → Q .non H'
theorem scInit : FnScope ["self"] ["self"] (defScope sInit) := ⟨rfl, rfl, rfl, by decide +kernel, rfl, by decide +kernel, by decide +kernel⟩
theorem ok_init {f C : Addr} {fd : FuncData} (F : Fun K "__init__" "Reading.__init__" sInit f fd) (T : Rc K mg C) : FnOk P w K mg base CX0 1 f fd ["self"] (spInit C) := by
  refine F.ok scInit (fun vs H Q E h => ?_) (fun cdv A outer s H vs Q E hr h => ?_)
  · obtain ⟨p, dx, rfl, _⟩ := h
    rfl
  · obtain ⟨p, dx, rfl, hp, k⟩ := h
    refine ⟨_, pss_cons (ps_fld (pv 0) pe_int rfl) (pss_cons (ps_fld (pv 0) pe_dnewK rfl) (pss_cons (ps_fld (pv 0) (pe_lst pa_nil) rfl) (pss_one (ps_fld (pv 0) (pe_lst pa_nil) rfl)))), ?_⟩
    refine ⟨_, rfl, p, C, dx, [], rfl, hp, T.cl, T.nP, (by show 0 < 1000; decide), fun d hd => ?_⟩
    have npd : p ≠ d := ne_of_none upd_same hd
    refine ⟨_, rfl, p, C, dx, _, rfl, (by rw [upd_ne npd]; exact upd_same), T.cl, T.nS, (by show 1 < 1000; decide), Nat.zero_le _, fun w hw => ?_⟩
    have npw : p ≠ w := ne_of_none upd_same hw
    have hd0 : H d = none := by rw [upd_ne npd.symm] at hd; exact hd
    refine ⟨_, rfl, p, C, dx, _, rfl, (by rw [upd_ne npw]; exact upd_same), T.cl, T.nW, (by rw [show (putF "stitches" (V.ref d) (putF "pairs" (V.int 0) [])).length = 2 by simp only [putF, if_neg fne1]; rfl]; decide), Nat.zero_le _, fun r hr' => ?_⟩
    have npr : p ≠ r := ne_of_none upd_same hr'
    have ndw : d ≠ w := by
      intro z; subst z
      rw [upd_ne npd.symm, upd_same] at hw; cases hw
    have hw0 : H w = none := by rw [upd_ne npw.symm, upd_ne ndw.symm, upd_ne npw.symm] at hw; exact hw
    have ndr : d ≠ r := by
      intro z; subst z
      rw [upd_ne npd.symm, upd_ne ndw, upd_ne npd.symm, upd_same] at hr'; cases hr'
    have nwr : w ≠ r := by
      intro z; subst z
      rw [upd_ne npw.symm, upd_same] at hr'; cases hr'
    have hr0 : H r = none := by rw [upd_ne npr.symm, upd_ne nwr.symm, upd_ne npr.symm, upd_ne ndr.symm, upd_ne npr.symm] at hr'; exact hr'
    refine ⟨_, rfl, p, C, dx, _, rfl, (by rw [upd_ne npr]; exact upd_same), T.cl, T.nR, (by rw [show (putF "worked" (V.ref w) (putF "stitches" (V.ref d) (putF "pairs" (V.int 0) []))).length = 3 by simp only [putF, if_neg fne1, if_neg fne2, if_neg fne4]; rfl]; decide), ?_⟩
    refine k _ d w r hd0 hw0 hr0 ndw ndr nwr ⟨dx, upd_same⟩ ?_ ?_ ?_ (fun b o e hb => ?_)
    · rw [upd_ne npd.symm, upd_ne ndr, upd_ne npd.symm, upd_ne ndw, upd_ne npd.symm, upd_same]
    · rw [upd_ne npw.symm, upd_ne nwr, upd_ne npw.symm, upd_same]
    · rw [upd_ne npr.symm, upd_same]
    · rw [upd_ne hb, upd_ne (ne_of_none e hr0), upd_ne hb, upd_ne (ne_of_none e hw0), upd_ne hb, upd_ne (ne_of_none e hd0), upd_ne hb]
      exact e
end
end Bt

end
section
set_option Elab.async false
set_option maxRecDepth 100000
set_option maxHeartbeats 2000000
set_option linter.all false
namespace Bt
open PySem PySem.Spec PyProof.Rows L2 Lcb
/-! ### what a Reading holds -/
def Kep (av : List Addr) (H H' : Hp) : Prop := ∀ b x, H b = some x → b ∉ av → H' b = some x
theorem Kep.refl (av : List Addr) (H : Hp) : Kep av H H := fun _ _ e _ => e
theorem Kep.trans {av : List Addr} {H H1 H2 : Hp} (a : Kep av H H1) (b : Kep av H1 H2) : Kep av H H2 := fun c x e n => b c x (a c x e n) n
theorem Kep.same {av : List Addr} {H H' : Hp} (s : Same H H') : Kep av H H' := fun b x e _ => s b x e
theorem Kep.mono {av bv : List Addr} {H H' : Hp} (k : Kep av H H') (h : ∀ a ∈ av, a ∈ bv) : Kep bv H H' := fun b x e n => k b x e fun q => n (h b q)
theorem Kep.one {w : Addr} {H H' : Hp} (k : ∀ b x, H b = some x → b ≠ w → H' b = some x) : Kep [w] H H' := fun b x e n => k b x e (by simpa using n)
theorem Kep.set {av : List Addr} {H H' : Hp} {a : Addr} {o : HO} (k : Kep av H H') (ha : a ∈ av) : Kep av H (upd H' a o) := fun b x e n => by
  rw [upd_ne (fun q => n (by rw [q]; exact ha))]; exact k b x e n
abbrev repV (x : Nat × Nat) : HO := .tup [.int x.1, .int x.2]
def RpAt (H : Hp) (r : Addr) (stk : List (Nat × Nat)) : Prop := ∃ as : List Addr, H r = some (.lst (as.map V.ref)) ∧ Paired (fun (a : Addr) (x : Nat × Nat) => H a = some (repV x)) as stk.reverse
structure RdAt (C : Addr) (H : Hp) (o d w r : Addr) (e : Lcb.Env) (m : M) (i : Nat) : Prop where
  ob : ObAt C H o e.n d w r
  nm : NamesAt H d e.names [w, r] i
  wk : WkAt H w m.wk
  rp : RpAt H r m.stk
  ne : w ≠ r
  wl : m.wk.length ≤ 4097
  dp : m.stk.length = e.deep
  d8 : e.deep ≤ 8
  st : ∀ x ∈ m.stk, 1 ≤ x.2 ∧ x.2 ≤ 99999
section
variable {C : Addr} {H H' : Hp} {o d w r : Addr} {e : Lcb.Env} {m : M} {i : Nat}
theorem RdAt.hd (h : RdAt C H o d w r e m i) : d ∉ [w, r] := by
  obtain ⟨kvs, hd, _⟩ := h.nm
  obtain ⟨as, hw, _⟩ := h.wk
  obtain ⟨bs, hr, _⟩ := h.rp
  have n1 : d ≠ w := ne_of hd hw (by intro z; cases z)
  have n2 : d ≠ r := ne_of hd hr (by intro z; cases z)
  simp [n1, n2]
theorem RdAt.ho (h : RdAt C H o d w r e m i) : o ∉ [d, w, r] := by
  obtain ⟨dx, ho⟩ := h.ob
  obtain ⟨kvs, hd, _⟩ := h.nm
  obtain ⟨as, hw, _⟩ := h.wk
  obtain ⟨bs, hr, _⟩ := h.rp
  have n0 : o ≠ d := ne_of ho hd (by intro z; cases z)
  have n1 : o ≠ w := ne_of ho hw (by intro z; cases z)
  have n2 : o ≠ r := ne_of ho hr (by intro z; cases z)
  simp [n0, n1, n2]
theorem NamesAt.le {names : Names} {av : List Addr} {j k : Nat} (h : NamesAt H d names av j) (hk : j ≤ k) : NamesAt H d names av k := by
  obtain ⟨kvs, h1, h2, h3⟩ := h
  exact ⟨kvs, h1, Nat.le_trans h2 hk, h3⟩
theorem RdAt.same (h : RdAt C H o d w r e m i) (s : Same H H') : RdAt C H' o d w r e m i := by
  refine ⟨?_, h.nm.same (fun b x q _ => s b x q) h.hd, ?_, ?_, h.ne, h.wl, h.dp, h.d8, h.st⟩
  · obtain ⟨dx, q⟩ := h.ob
    exact ⟨dx, s _ _ q⟩
  · obtain ⟨as, q1, q2⟩ := h.wk
    exact ⟨as, s _ _ q1, Paired.mapP q2 fun a x q => s _ _ q⟩
  · obtain ⟨as, q1, q2⟩ := h.rp
    exact ⟨as, s _ _ q1, Paired.mapP q2 fun a x q => s _ _ q⟩
theorem RdAt.le {j : Nat} (h : RdAt C H o d w r e m i) (hj : i ≤ j) : RdAt C H o d w r e m j := ⟨h.ob, h.nm.le hj, h.wk, h.rp, h.ne, h.wl, h.dp, h.d8, h.st⟩
theorem RdAt.work {wk' : List (Lcb.Act × Nat)} (h : RdAt C H o d w r e m i) (k : Kep [w] H H') (hw : WkAt H' w wk') (hl : wk'.length ≤ 4097) : RdAt C H' o d w r e ⟨wk', m.stk⟩ i := by
  have hd := h.hd
  have ho := h.ho
  simp only [List.mem_cons, List.not_mem_nil, or_false, not_or] at hd ho
  have k' : ∀ b x, H b = some x → b ≠ w → H' b = some x := fun b x q n => k b x q (by simpa using n)
  refine ⟨?_, h.nm.same (fun b x q n => k' b x q (fun z => n (by rw [z]; simp))) h.hd, hw, ?_, h.ne, hl, h.dp, h.d8, h.st⟩
  · obtain ⟨dx, q⟩ := h.ob
    exact ⟨dx, k' _ _ q ho.2.1⟩
  · obtain ⟨as, q1, q2⟩ := h.rp
    obtain ⟨bs, q3, _⟩ := h.wk
    exact ⟨as, k' _ _ q1 h.ne.symm, Paired.mapP q2 fun a x q => k' _ _ q (ne_of q q3 (by intro z; cases z))⟩
end
/-- behind a line -/
def Aft (C : Addr) (o d w r : Addr) (i : Nat) (m : M) (H : Hp) (Q : VK) : Except Nat (Lcb.Env × List Lcb.Op) → Prop
  | .error k => ∀ H', Kep [o, d, w, r] H H' → Q (.int k) H'
  | .ok x => ∀ H', RdAt C H' o d w r x.1 (runOps m x.2) (i + 1) → Kep [o, d, w, r] H H' → Q (.int 0) H'
abbrev stv (ws : List Bytes) : List V := ws.map fun b => V.str (sw b)
structure WdAt (H : Hp) (a w r : Addr) (ws : List Bytes) : Prop where
  lst : H a = some (.lst (stv ws))
  nw : a ≠ w
  nr : a ≠ r
  len : ws.length ≤ 20000
  each : ∀ b ∈ ws, b.length ≤ 20000
theorem WdAt.get {H : Hp} {a w r : Addr} {ws : List Bytes} {j : Nat} {b : Bytes} (h : ws[j]? = some b) : atI (stv ws) (j : Int) = some (.str (sw b)) := atI_nat (by rw [List.getElem?_map, h]; rfl)
/-! ### lines by their first word -/
theorem lineW_let (x : Bytes) (r : List Bytes) : lineW (ascii "let" :: x :: r) = letW x r := by
  show lineW2 (ascii "let") x r = _
  unfold lineW2
  rw [if_neg (by decide), if_pos rfl]
theorem lineW_do (x : Bytes) (r : List Bytes) : lineW (ascii "do" :: x :: r) = (numIn x).bind fun (k : Nat) => (allIn itemIn r).map (Line.do_ k) := by
  show lineW2 (ascii "do") x r = _
  unfold lineW2
  rw [if_neg (by decide), if_neg (by decide), if_pos rfl]
theorem lineW_row (x : Bytes) (r : List Bytes) : lineW (ascii "row" :: x :: r) = if isName x = true then (allIn numIn r).map (Line.row x) else none := by
  show lineW2 (ascii "row") x r = _
  unfold lineW2
  rw [if_neg (by decide), if_neg (by decide), if_neg (by decide), if_pos rfl]
theorem lineW_repeat (x : Bytes) (r : List Bytes) : lineW (ascii "repeat" :: x :: r) = if r = [] then (timesIn x).map Line.repeat_ else none := by
  show lineW2 (ascii "repeat") x r = _
  unfold lineW2
  rw [if_neg (by decide), if_neg (by decide), if_neg (by decide), if_neg (by decide), if_pos rfl]
theorem lineW_act {w : Bytes} (h : w = ascii "twist" ∨ w = ascii "cross") (x : Bytes) (r : List Bytes) : lineW (w :: x :: r) = actW w x r := by
  show lineW2 w x r = _
  unfold lineW2
  rw [if_neg (by rcases h with rfl | rfl <;> decide), if_neg (by rcases h with rfl | rfl <;> decide), if_neg (by rcases h with rfl | rfl <;> decide), if_neg (by rcases h with rfl | rfl <;> decide), if_neg (by rcases h with rfl | rfl <;> decide), if_pos h]
theorem lineW_end2 (x : Bytes) (r : List Bytes) : lineW (ascii "end" :: x :: r) = none := by
  show lineW2 (ascii "end") x r = _
  unfold lineW2
  rw [if_neg (by decide), if_neg (by decide), if_neg (by decide), if_neg (by decide), if_neg (by decide), if_neg (by decide)]
theorem lineW_pairs (x : Bytes) (r : List Bytes) : lineW (ascii "pairs" :: x :: r) = if r = [] then ((timesIn x).filter fun (n : Nat) => decide (n ≤ PAIRS)).map Line.pairs else none := by
  show lineW2 (ascii "pairs") x r = _
  unfold lineW2
  rw [if_pos rfl]
theorem lineW_one {w : Bytes} (h : w ≠ ascii "end") : lineW [w] = none := if_neg h
/-- no other word begins a line behind the first -/
theorem stepO_other (e : Lcb.Env) {i : Nat} (hi : i ≠ 0) {w : Bytes} (r : List Bytes) (h1 : w ≠ ascii "let") (h2 : w ≠ ascii "do") (h3 : w ≠ ascii "row") (h4 : ¬ (w = ascii "twist" ∨ w = ascii "cross")) (h5 : w ≠ ascii "repeat") (h6 : w ≠ ascii "end") : stepO e i (lineW (w :: r)) = .error 1 := by
  cases r with
  | nil => rw [lineW_one h6]; rfl
  | cons x r =>
    by_cases hp : w = ascii "pairs"
    · subst hp
      rw [lineW_pairs]
      by_cases hr : r = []
      · rw [if_pos hr]
        cases (timesIn x).filter fun (n : Nat) => decide (n ≤ PAIRS) with
        | none => rfl
        | some n => exact if_neg hi
      · rw [if_neg hr]; rfl
    · show stepO e i (lineW2 w x r) = _
      unfold lineW2
      rw [if_neg hp, if_neg h1, if_neg h2, if_neg h3, if_neg h5, if_neg h4]
      rfl
theorem stepO_none (e : Lcb.Env) (i : Nat) : stepO e i none = .error 1 := rfl
/-- the first line -/
theorem stepO_zero (e : Lcb.Env) {o : Option Line} (h : ∀ n, o ≠ some (.pairs n)) : stepO e 0 o = .error 1 := by
  match o with
  | none => rfl
  | some (.pairs n) => exact absurd rfl (h n)
  | some (.let_ _ _) => rfl
  | some (.do_ _ _) => rfl
  | some (.row _ _) => rfl
  | some (.twist _ _) => rfl
  | some (.cross _ _) => rfl
  | some (.repeat_ _) => rfl
  | some .end_ => rfl
theorem pairs_words {ws : List Bytes} {n : Nat} (h : lineW ws = some (.pairs n)) : ∃ x, ws = [ascii "pairs", x] ∧ timesIn x = some n ∧ n ≤ 32 := by
  match ws with
  | [] => cases h
  | [w] =>
    have h' : (if w = ascii "end" then some Line.end_ else none) = some (.pairs n) := h
    split at h' <;> cases h'
  | w :: x :: r =>
    by_cases hp : w = ascii "pairs"
    · subst hp
      rw [lineW_pairs] at h
      by_cases hr : r = []
      · rw [if_pos hr] at h
        cases e : (timesIn x).filter fun (n : Nat) => decide (n ≤ PAIRS) with
        | none => rw [e] at h; cases h
        | some k =>
          rw [e] at h
          cases h
          rw [Option.filter_eq_some_iff] at e
          exact ⟨x, by rw [hr], e.1, of_decide_eq_true (p := n ≤ PAIRS) e.2⟩
      · rw [if_neg hr] at h; cases h
    · exfalso
      have h' : lineW2 w x r = some (.pairs n) := h
      unfold lineW2 at h'
      rw [if_neg hp] at h'
      split at h'
      · cases r with
        | nil => cases h'
        | cons q l =>
          unfold letW at h'
          simp only at h'
          split at h'
          · cases e : allIn itemIn l with
            | none => rw [e] at h'; cases h'
            | some _ => rw [e] at h'; cases h'
          · cases h'
      · split at h'
        · cases e : numIn x with
          | none => rw [e] at h'; cases h'
          | some k =>
            rw [e] at h'
            cases e2 : allIn itemIn r with
            | none => rw [e2] at h'; cases h'
            | some _ => rw [e2] at h'; cases h'
        · split at h'
          · split at h'
            · cases e2 : allIn numIn r with
              | none => rw [e2] at h'; cases h'
              | some _ => rw [e2] at h'; cases h'
            · cases h'
          · split at h'
            · split at h'
              · cases e2 : timesIn x with
                | none => rw [e2] at h'; cases h'
                | some _ => rw [e2] at h'; cases h'
              · cases h'
            · split at h'
              · match r with
                | [] => cases h'
                | [y] =>
                  have h'' : ((numIn x).bind fun (k : Nat) => (timesIn y).map fun (m : Nat) => if w = ascii "twist" then Line.twist k m else Line.cross k m) = some (.pairs n) := h'
                  cases e : numIn x with
                  | none => rw [e] at h''; cases h''
                  | some k =>
                    rw [e] at h''
                    cases e2 : timesIn y with
                    | none => rw [e2] at h''; cases h''
                    | some mm =>
                      rw [e2] at h''
                      have h3 : (if w = ascii "twist" then Line.twist k mm else Line.cross k mm) = .pairs n := Option.some.inj h''
                      split at h3 <;> cases h3
                | _ :: _ :: _ => cases h'
              · cases h'
theorem lineW_pairs_ok {x : Bytes} {n : Nat} (h : timesIn x = some n) (hn : n ≤ 32) : lineW [ascii "pairs", x] = some (.pairs n) := by
  rw [lineW_pairs, if_pos rfl, h, Option.filter_some, if_pos (decide_eq_true (p := n ≤ PAIRS) hn)]
  rfl
end Bt

end
section
set_option Elab.async false
set_option maxRecDepth 100000
set_option maxHeartbeats 2000000
set_option linter.all false
namespace Bt
open PySem PySem.Spec PyProof.Rows L2 Lcb
theorem nd_pos {c : Prop} [Decidable c] (g : (!decide c) = true) : ¬ c := by
  intro h
  rw [decide_eq_true h] at g
  cases g
theorem nd_neg {c : Prop} [Decidable c] (g : ¬ (!decide c) = true) : c := by
  by_cases h : c
  · exact h
  · rw [decide_eq_false h] at g
    exact absurd rfl g
theorem letters_get {s : Stitch} {j : Nat} {x : V} (h : (s.map vl)[j]? = some x) : ∃ y, s[j]? = some y ∧ x = vl y := by
  rw [List.getElem?_map] at h
  cases e : s[j]? with
  | none => rw [e] at h; cases h
  | some a => rw [e] at h; exact ⟨a, rfl, (Option.some.inj h).symm⟩
abbrev acted (s : Stitch) (k i : Nat) : List (Lcb.Act × Nat) := s.map fun y => (Letter.at_ k y, i)
theorem acted_eq (s : Stitch) (k i : Nat) : (s.at_ k).map (fun x => (x, i)) = acted s k i := by
  unfold Stitch.at_ acted
  rw [List.map_map]
  rfl
theorem stv_len (ws : List Bytes) : (stv ws).length = ws.length := List.length_map _
section
variable {P : Program} {w : World} {K : PySem.W.Frag} {mg : Str → Option Value} {base : Heap} {aW aL aO a1 a2 a3 a4 : Addr}
/-! ### work_stitch -/
def spWork (C : Addr) : Sp := fun vs H Q _ => ∃ (o d w r p : Addr) (n : Int) (i k : Nat) (wk : List (Lcb.Act × Nat)) (s : Stitch), vs = [.ref o, .int i, .ref p, .int k] ∧ ObAt C H o n d w r ∧ WkAt H w wk ∧ wk.length ≤ 4097 ∧ H p = some (.lst (s.map vl)) ∧ s.length ≤ 4097 ∧
  ∀ H' : Hp, WkAt H' w (cut (wk ++ acted s k i)) → Kep [w] H H' → Q .non H'
theorem scWork : FnScope ["reading", "line", "acts", "place", "act"] ["reading", "line", "acts", "place"] (defScope sWork) := ⟨rfl, rfl, rfl, by decide +kernel, rfl, by decide +kernel, by decide +kernel⟩
theorem ok_work {f C : Addr} {fd : FuncData} (F : Fun K "work_stitch" "work_stitch" sWork f fd) (T : Tx P w K mg aW aL aO a1 a2 a3 a4) (R : Rc K mg C)
    (cAdd : Cal P w K mg base "add_times" 1 ["acts", "more", "times"] spAdd) : FnOk P w K mg base CX0 2 f fd ["reading", "line", "acts", "place"] (spWork C) := by
  refine F.ok scWork (fun vs H Q E h => ?_) (fun cdv A outer s H vs Q E hr h => ?_)
  · obtain ⟨o, d, w, r, p, n, i, k, wk, s, rfl, _⟩ := h
    rfl
  · obtain ⟨o, d, w, r, p, n, i, k, wk, st, rfl, ⟨dx, ho⟩, ⟨as, hw, hpa⟩, hwl, hp, hsl, kk⟩ := h
    have hal : as.length = wk.length := Paired.length hpa
    refine ⟨_, pss_cons (ps_if (pt_cmpR op_gt (pe_callB call_len_seq rfl T.len PySem.boot_len (pa_cons (pe_fld (pv 0) rfl) pa_nil)) (pe_gi T.mostActs) (nomark _)) (pss_one ps_retN) pss_nil)
      (pss_one (ps_expr (pe_cal cAdd hr (pa_cons (pe_fld (pv 0) rfl) (pa_cons (pe_lc rfl scWork.nd (pi_list (pv 2)) (own := [("act", 4)]) (blkOk_by rfl) (fun _ _ _ _ _ => pg_name (i := 4) scWork.nd rfl (Or.inl rfl)) (fun _ _ _ _ _ => pts_nil)
        (fun _ _ _ _ _ => pe_tup (pa_cons (pe_op op_add (pv 4) (pv 3)) (pa_cons (pv 1) pa_nil)))) (pa_cons pe_int pa_nil)))))), ?_⟩
    refine ⟨_, rfl, o, C, dx, _, _, rfl, ho, R.cl, R.nW, flds_worked _ _ _ _, w, _, rfl, .inl (SqL.of hw), _, _, rfl, rfl, _, rfl, ?_⟩
    refine ite2 (fun g => ?_) (fun g => ?_)
    · have g' := of_decide_eq_true g
      rw [List.length_map] at g'
      have hf : wk.length = 4097 := by omega
      refine kk H ?_ (Kep.refl _ _)
      rw [cut_full hf]
      exact ⟨as, hw, hpa⟩
    refine ⟨_, rfl, o, C, dx, _, _, rfl, ho, R.cl, R.nW, flds_worked _ _ _ _, _, rfl, p, rfl, ⟨_, SqL.of hp⟩, fun D hD => ?_⟩
    have s0 : Same H (upd H D (.lst [])) := Same.new hD
    refine lc_list (K := K) (a := p) (xs := st.map vl) (fun j H' => ∃ as2 : List Addr, H' D = some (.lst (as2.map V.ref)) ∧ Paired (fun (a : Addr) (x : Lcb.Act × Nat) => H' a = some (actV x)) as2 (acted (st.take j) k i) ∧ Same H H')
      ⟨[], upd_same, .nil, s0⟩ (fun j H' _ ⟨_, _, _, s1⟩ => SqL.of (s1 _ _ hp)) ?_ ?_
    · rintro j x H' hj ⟨as2, hd1, hp1, s1⟩
      obtain ⟨y, hy, rfl⟩ := letters_get hj
      have hjl : j < st.length := (List.getElem?_eq_some_iff.mp hy).1
      have hal2 : as2.length ≤ 4097 := by rw [Paired.length hp1, List.length_map, List.length_take]; omega
      refine ⟨rfl, ?_⟩
      refine ⟨_, rfl, _, rfl, _, _, rfl, rfl, _, rfl, by show 2 ≤ sizeLine; decide, fun t ht => ?_⟩
      have nDt : D ≠ t := ne_of_none hd1 ht
      refine ⟨_, by rw [upd_ne nDt]; exact hd1, by rw [List.length_map]; exact Nat.lt_of_le_of_lt hal2 (by decide), as2 ++ [t], ?_, ?_, ?_⟩
      · rw [upd_same, List.map_append]; rfl
      · have et : acted (st.take (j + 1)) k i = acted (st.take j) k i ++ [(Letter.at_ k y, i)] := by
          unfold acted
          rw [List.take_add_one, hy, List.map_append]
          rfl
        rw [et]
        refine Paired.snoc (Paired.mapP hp1 fun c z q => ?_) ?_
        · rw [upd_ne (ne_of q hd1 (by intro z; cases z)), upd_ne (ne_of_none q ht)]
          exact q
        · rw [upd_ne nDt.symm, upd_same]
          show some (HO.tup [.int (lc y + k), .int i]) = some (HO.tup [.int ((Letter.at_ k y).code : Int), .int i])
          rw [code_at]
      · intro b x e
        rw [upd_ne (ne_of_none e hD), upd_ne (ne_of_none (s1 _ _ e) ht)]
        exact s1 _ _ e
    · rintro H' ⟨as2, hd1, hp1, s1⟩
      rw [List.length_map, List.take_length] at hp1
      have hal2 : as2.length ≤ 4097 := by rw [Paired.length hp1, List.length_map]; exact hsl
      have hw1 := s1 _ _ hw
      refine ⟨w, D, _, _, 1, rfl, hw1, hd1, by rw [List.length_map, hal]; exact hwl, by rw [List.length_map]; exact hal2, by decide, fun H3 h3 kp => ?_⟩
      refine kk H3 ?_ (fun b x e hb => kp b x (s1 _ _ e) (by simpa using hb))
      refine ⟨addM as as2 1, by rw [h3, addM_map], ?_⟩
      have e1 : cut (wk ++ acted st k i) = addM wk (acted st k i) 1 := by
        unfold addM
        simp
      rw [e1]
      refine Paired.mapP (paired_addM (Paired.mapP hpa fun a x q => s1 _ _ q) hp1 1) fun a x q => ?_
      exact kp a _ q (ne_of q hw1 (by intro z; cases z))
/-! ### read_pairs -/
def spRPairs (C : Addr) : Sp := fun vs H Q _ => ∃ (o d w r a : Addr) (e : Lcb.Env) (m : M) (i : Nat) (ws : List Bytes), vs = [.ref o, .ref a] ∧ RdAt C H o d w r e m i ∧ WdAt H a w r ws ∧ Aft C o d w r i m H Q (stepO e 0 (lineW ws))
theorem scRPairs : FnScope ["reading", "words", "pairs"] ["reading", "words"] (defScope sRPairs) := ⟨rfl, rfl, rfl, by decide +kernel, rfl, by decide +kernel, by decide +kernel⟩
theorem ok_rpairs {f C : Addr} {fd : FuncData} (F : Fun K "read_pairs" "read_pairs" sRPairs f fd) (T : Tx P w K mg aW aL aO a1 a2 a3 a4) (R : Rc K mg C)
    (cNum : Cal P w K mg base "number_of" 1 ["word"] spNum) : FnOk P w K mg base CX0 2 f fd ["reading", "words"] (spRPairs C) := by
  refine F.ok scRPairs (fun vs H Q E h => ?_) (fun cdv A outer s H vs Q E hr h => ?_)
  · obtain ⟨o, d, w, r, a, e, m, i, ws, rfl, _⟩ := h
    rfl
  · obtain ⟨o, d, w, r, a, e, m, i, ws, rfl, hR, hW, k⟩ := h
    have bad : (∀ n, lineW ws ≠ some (.pairs n)) → Q (.int 1) H := fun q => by
      rw [stepO_zero e q] at k
      exact k H (Kep.refl _ _)
    refine ⟨_, pss_cons (ps_if (PW.pt (pw_or (pt_cmpR op_ne (pe_callB call_len_seq rfl T.len PySem.boot_len (pa_cons (pv 1) pa_nil)) pe_int (nomark _)) (pw_or1 (pt_cmpR op_ne (pe_ix ix_list (pv 1) pe_int (fun _ _ => rfl)) pe_str (nomark _))))) (pss_one (ps_ret (pe_gi T.noLine))) pss_nil)
      (pss_cons (ps_set (i := 2) scRPairs.nd rfl (Or.inl rfl) (pe_cal cNum hr (pa_cons (pe_ix ix_list (pv 1) pe_int (fun _ _ => rfl)) pa_nil)))
      (pss_cons (ps_if (PW.pt (pw_or (pt_cmpR op_lt (pv 2) pe_int (nomark _)) (pw_or1 (pt_cmpR op_gt (pv 2) (pe_gi T.mostPairs) (nomark _))))) (pss_one (ps_ret (pe_gi T.noLine))) pss_nil)
      (pss_cons (ps_fld (pv 0) (pv 2) rfl)
      (pss_one (ps_ret (pe_gi T.noFault)))))), ?_⟩
    refine ⟨_, rfl, a, _, rfl, .inl (SqL.of hW.lst), rfl, _, rfl, ?_⟩
    refine ite2 (fun g => ?_) (fun g => ?_)
    · refine iteT ?_
      have g' := nd_pos g
      refine bad fun n q => g' ?_
      obtain ⟨x, rfl, _⟩ := pairs_words q
      rfl
    have hl : ws.length = 2 := by
      have g' : (((stv ws).length : Nat) : Int) = 2 := V.int.inj (nd_neg g)
      rw [stv_len] at g'
      omega
    obtain ⟨w0, x, rfl⟩ : ∃ w0 x, ws = [w0, x] := by
      match ws, hl with
      | [w0, x], _ => exact ⟨w0, x, rfl⟩
    refine ⟨_, rfl, a, _, _, _, rfl, rfl, SqL.of hW.lst, WdAt.get (H := H) (a := a) (w := w) (r := r) (j := 0) rfl, rfl, _, rfl, ?_⟩
    refine ite2 (fun g => ?_) (fun g => ?_)
    · have g' := nd_pos g
      refine bad fun n q => g' ?_
      obtain ⟨y, e1, _⟩ := pairs_words q
      have e2 : w0 = ascii "pairs" := (List.cons.inj e1).1
      rw [sw_eq.mpr e2]
    have hw0 : w0 = ascii "pairs" := sw_eq.mp (V.str.inj (nd_neg g))
    subst hw0
    refine ⟨_, rfl, a, _, _, _, rfl, rfl, SqL.of hW.lst, WdAt.get (H := H) (a := a) (w := w) (r := r) (j := 1) rfl, x, rfl, hW.each x (by simp), ?_⟩
    refine ⟨_, rfl, _, _, rfl, rfl, _, rfl, ?_⟩
    refine ite2 (fun g => ?_) (fun g => ?_)
    · refine iteT ?_
      refine bad fun n q => ?_
      obtain ⟨y, e1, h1, _⟩ := pairs_words q
      have e2 : x = y := by
        have := (List.cons.inj e1).2
        exact (List.cons.inj this).1
      subst e2
      rw [timesIn_numI.1 (of_decide_eq_true g)] at h1
      cases h1
    have g1 : 1 ≤ numI x := by
      have : ¬ numI x < 1 := fun q => g (decide_eq_true q)
      omega
    obtain ⟨n, hn, hn2⟩ := timesIn_numI.2 g1
    refine ⟨_, rfl, _, _, rfl, rfl, _, rfl, ?_⟩
    refine ite2 (fun g => ?_) (fun g => ?_)
    · refine bad fun n' q => ?_
      obtain ⟨y, e1, h1, h2⟩ := pairs_words q
      have e2 : x = y := by
        have := (List.cons.inj e1).2
        exact (List.cons.inj this).1
      subst e2
      rw [hn] at h1
      cases h1
      have := of_decide_eq_true g
      omega
    have g2 : n ≤ 32 := by
      have : ¬ (32 : Int) < numI x := fun q => g (decide_eq_true q)
      omega
    have es : stepO e 0 (lineW [ascii "pairs", x]) = .ok ({ e with n := n }, []) := by
      rw [lineW_pairs_ok hn g2]; rfl
    rw [es] at k
    obtain ⟨dx, ho⟩ := hR.ob
    refine ⟨_, rfl, _, rfl, o, C, dx, _, rfl, ho, R.cl, R.nP, flds_len _ _ _ _, ?_⟩
    rw [flds_put, hn2]
    have hoN := hR.ho
    simp only [List.mem_cons, List.not_mem_nil, or_false, not_or] at hoN
    have kp : ∀ b x, H b = some x → b ≠ o → upd H o (.ins C dx (flds (n : Int) d w r)) b = some x := fun b x q nb => by rw [upd_ne nb]; exact q
    obtain ⟨as, hw1, hw2⟩ := hR.wk
    obtain ⟨bs, hr1, hr2⟩ := hR.rp
    refine k _ ⟨⟨dx, upd_same⟩, ?_, ⟨as, kp _ _ hw1 (Ne.symm hoN.2.1), Paired.mapP hw2 fun c z q => kp _ _ q (ne_of q ho (by intro z; cases z))⟩, ⟨bs, kp _ _ hr1 (Ne.symm hoN.2.2), Paired.mapP hr2 fun c z q => kp _ _ q (ne_of q ho (by intro z; cases z))⟩, hR.ne, hR.wl, hR.dp, hR.d8, hR.st⟩ (fun b z q nb => kp b z q (by simp only [List.mem_cons, not_or] at nb; exact nb.1))
    obtain ⟨kvs, q1, q2, q3⟩ := hR.nm
    refine ⟨kvs, kp _ _ q1 (Ne.symm hoN.1), Nat.le_succ_of_le q2, fun b => ⟨(q3 b).1, fun t ht => ?_⟩⟩
    obtain ⟨c, z1, z2, z3, z4⟩ := (q3 b).2 t ht
    exact ⟨c, z1, kp _ _ z2 (ne_of z2 ho (by intro z; cases z)), z3, z4⟩
end
end Bt

end
section
set_option Elab.async false
set_option maxRecDepth 100000
set_option maxHeartbeats 2000000
set_option linter.all false
namespace Bt
open PySem PySem.Spec PyProof.Rows L2 Lcb
theorem cutV_from {xs : List V} {i : Nat} (h : i ≤ xs.length) : cutV xs (some (i : Int)) none = xs.drop i := by
  unfold cutV
  rw [HT.sIx_none, HT.sIx_nat, Nat.min_eq_left h, List.take_of_length_le (by rw [List.length_drop]; omega)]
theorem look_cons (x : Bytes) (s : Stitch) (names : Names) (b : Bytes) : look ((x, s) :: names) b = if x = b then some s else look names b := by
  unfold look
  rw [List.find?_cons]
  by_cases h : x = b
  · subst h
    simp
  · have : ((x, s).1 == b) = false := beq_eq_false_iff_ne.mpr h
    rw [this, if_neg h]
theorem let_short {ws : List Bytes} (h : ws.length < 4) (w0 : Bytes) (hw : ws.head? = some w0) (e : w0 = ascii "let") : lineW ws = none := by
  match ws, h with
  | [], _ => cases hw
  | [w], _ =>
    have : w = w0 := Option.some.inj hw
    subst this e
    exact lineW_one (by decide)
  | [w, x], _ =>
    have : w = w0 := Option.some.inj hw
    subst this e
    rw [lineW_let]; rfl
  | [w, x, q], _ =>
    have : w = w0 := Option.some.inj hw
    subst this e
    rw [lineW_let]
    show (if q = [61] ∧ isName x = true then (allIn itemIn []).map (Line.let_ x) else none) = none
    by_cases g : q = [61] ∧ isName x = true
    · rw [if_pos g]; rfl
    · rw [if_neg g]
theorem let_long (x q b : Bytes) (r : List Bytes) : lineW (ascii "let" :: x :: q :: b :: r) = if q = [61] ∧ isName x = true then (mapAll itemIn (b :: r)).map (Line.let_ x) else none := by
  rw [lineW_let, ← allIn_mapAll]
  rfl
theorem four {ws : List Bytes} (h : ¬ ws.length < 4) : ∃ w x q b r, ws = w :: x :: q :: b :: r := by
  match ws, h with
  | [], h => exact absurd (by decide) h
  | [_], h => exact absurd (by show (1 : Nat) < 4; decide) h
  | [_, _], h => exact absurd (by show (2 : Nat) < 4; decide) h
  | [_, _, _], h => exact absurd (by show (3 : Nat) < 4; decide) h
  | w :: x :: q :: b :: r, _ => exact ⟨w, x, q, b, r, rfl⟩
theorem three {ws : List Bytes} (h : ¬ ws.length < 3) : ∃ w x b r, ws = w :: x :: b :: r := by
  match ws, h with
  | [], h => exact absurd (by decide) h
  | [_], h => exact absurd (by show (1 : Nat) < 3; decide) h
  | [_, _], h => exact absurd (by show (2 : Nat) < 3; decide) h
  | w :: x :: b :: r, _ => exact ⟨w, x, b, r, rfl⟩
theorem stepO_let {e : Lcb.Env} {i : Nat} (hi : i ≠ 0) (x : Bytes) (l : List Item) : stepO e i (some (.let_ x l)) = if (look e.names x).isSome = true then .error 2 else match stitchOf e.names l with
      | none => .error 2
      | some s => .ok ({ e with names := (x, s) :: e.names }, []) := by
  show (if i = 0 then _ else _) = _
  exact if_neg hi
theorem stepO_do {e : Lcb.Env} {i : Nat} (hi : i ≠ 0) (k : Nat) (l : List Item) : stepO e i (some (.do_ k l)) = match stitchOf e.names l with
      | none => .error 2
      | some s => if e.n ≤ k + 1 then .error 3 else .ok (e, [.acts i (s.at_ k)]) := by
  show (if i = 0 then _ else _) = _
  exact if_neg hi
theorem items_len {H : Hp} {p : Addr} {l : List Item} (h : ItemsAt H p l) : ∃ as : List Addr, H p = some (.lst (as.map V.ref)) ∧ (as.map V.ref).length = l.length := by
  obtain ⟨⟨as, h1, h2⟩, _⟩ := h
  exact ⟨as, h1, by rw [List.length_map, Paired.length h2]⟩
section
variable {P : Program} {w : World} {K : PySem.W.Frag} {mg : Str → Option Value} {base : Heap} {aW aL aO a1 a2 a3 a4 : Addr}
/-! ### read_let -/
def spRLet (C : Addr) : Sp := fun vs H Q _ => ∃ (o d w r a : Addr) (e : Lcb.Env) (m : M) (i : Nat) (ws : List Bytes), vs = [.ref o, .ref a] ∧ RdAt C H o d w r e m i ∧ WdAt H a w r ws ∧ i ≠ 0 ∧ i ≤ 20000 ∧ ws.head? = some (ascii "let") ∧ Aft C o d w r i m H Q (stepO e i (lineW ws))
theorem scRLet : FnScope ["reading", "words", "items"] ["reading", "words"] (defScope sRLet) := ⟨rfl, rfl, rfl, by decide +kernel, rfl, by decide +kernel, by decide +kernel⟩
theorem ok_rlet {f C : Addr} {fd : FuncData} (F : Fun K "read_let" "read_let" sRLet f fd) (T : Tx P w K mg aW aL aO a1 a2 a3 a4) (R : Rc K mg C)
    (cName : Cal P w K mg base "is_name" 1 ["word"] spName) (cItems : Cal P w K mg base "items_of" 3 ["words"] (spItems K)) (cLet : Cal P w K mg base "are_let" 1 ["items", "stitches"] spLet) (cActs : Cal P w K mg base "acts_of" 2 ["items", "stitches"] spActs) :
    FnOk P w K mg base CX0 4 f fd ["reading", "words"] (spRLet C) := by
  refine F.ok scRLet (fun vs H Q E h => ?_) (fun cdv A outer s H vs Q E hr h => ?_)
  · obtain ⟨o, d, w, r, a, e, m, i, ws, rfl, _⟩ := h
    rfl
  · obtain ⟨o, d, w, r, a, e, m, i, ws, rfl, hR, hW, hi0, hi, hhd, k⟩ := h
    have hr1 := hr.mono (j := 1) (by decide)
    have hr2 := hr.mono (j := 2) (by decide)
    have hu := hu_of hr
    obtain ⟨dx, ho⟩ := hR.ob
    have bad : lineW ws = none → ∀ H', Same H H' → Q (.int 1) H' := fun q H' s1 => by
      rw [q] at k
      exact k H' (Kep.same s1)
    refine ⟨_, pss_cons (ps_if (PW.pt (pw_or (pt_cmpR op_lt (pe_callB call_len_seq rfl T.len PySem.boot_len (pa_cons (pv 1) pa_nil)) pe_int (nomark _)) (pw_or (pt_not (pt_val (pe_cal cName hr1 (pa_cons (pe_ix ix_list (pv 1) pe_int (fun _ _ => rfl)) pa_nil)))) (pw_or1 (pt_cmpR op_ne (pe_ix ix_list (pv 1) pe_int (fun _ _ => rfl)) pe_str (nomark _)))))) (pss_one (ps_ret (pe_gi T.noLine))) pss_nil)
      (pss_cons (ps_set (i := 2) scRLet.nd rfl (Or.inl rfl) (pe_cal cItems hr (pa_cons (pe_slice sl_list (pv 1) (po_some pe_int) po_none) pa_nil)))
      (pss_cons (ps_if (pt_cmpR op_eq (pe_callB call_len_seq rfl T.len PySem.boot_len (pa_cons (pv 2) pa_nil)) pe_int (nomark _)) (pss_one (ps_ret (pe_gi T.noLine))) pss_nil)
      (pss_cons (ps_if (PW.pt (pw_or (pt_cmp (pc_din hu (pe_ix ix_list (pv 1) pe_int (fun _ _ => rfl)) (pe_fld (pv 0) rfl))) (pw_or1 (pt_not (pt_val (pe_cal cLet hr1 (pa_cons (pv 2) (pa_cons (pe_fld (pv 0) rfl) pa_nil)))))))) (pss_one (ps_ret (pe_gi T.wrongName))) pss_nil)
      (pss_cons (ps_dput hu (pe_fld (pv 0) rfl) (pe_ix ix_list (pv 1) pe_int (fun _ _ => rfl)) (pe_cal cActs hr2 (pa_cons (pv 2) (pa_cons (pe_fld (pv 0) rfl) pa_nil))) rfl)
      (pss_one (ps_ret (pe_gi T.noFault))))))), ?_⟩
    refine ⟨_, rfl, a, _, rfl, .inl (SqL.of hW.lst), _, _, rfl, rfl, _, rfl, ?_⟩
    rw [stv_len]
    refine ite2 (fun g => ?_) (fun g => ?_)
    · refine iteT ?_
      have g' := of_decide_eq_true g
      exact bad (let_short (by omega) _ hhd rfl) H (Same.refl _)
    have g1 : ¬ ws.length < 4 := fun q => g (decide_eq_true (by omega))
    obtain ⟨w0, x, q, b, rs, rfl⟩ := four g1
    have e0 : w0 = ascii "let" := Option.some.inj hhd
    subst e0
    refine ⟨_, rfl, a, _, _, _, rfl, rfl, SqL.of hW.lst, WdAt.get (H := H) (a := a) (w := w) (r := r) (j := 1) rfl, x, rfl, hW.each x (by simp), _, rfl, ?_⟩
    cases hx : isName x with
    | false =>
      refine iteT ?_
      exact bad (by rw [let_long, if_neg (by rw [hx]; simp)]) H (Same.refl _)
    | true =>
    refine iteF ?_
    refine ⟨_, rfl, a, _, _, _, rfl, rfl, SqL.of hW.lst, WdAt.get (H := H) (a := a) (w := w) (r := r) (j := 2) rfl, rfl, _, rfl, ?_⟩
    refine ite2 (fun g => ?_) (fun g => ?_)
    · have g' := nd_pos g
      refine bad ?_ H (Same.refl _)
      rw [let_long, if_neg]
      rintro ⟨q1, _⟩
      exact g' (by rw [q1]; decide +kernel)
    have hq : q = [61] := (sw_eq (s := "=")).mp (V.str.inj (nd_neg g))
    have el : lineW (ascii "let" :: x :: q :: b :: rs) = (mapAll itemIn (b :: rs)).map (Line.let_ x) := by
      rw [let_long, if_pos ⟨hq, hx⟩]
    rw [el] at k bad
    refine ⟨_, rfl, _, rfl, a, _, rfl, SqL.of hW.lst, fun p hp => ?_⟩
    have s1 : Same H (upd H p (.lst (cutV (stv (ascii "let" :: x :: q :: b :: rs)) (some 3) none))) := Same.new hp
    have ec : cutV (stv (ascii "let" :: x :: q :: b :: rs)) (some 3) none = stv (b :: rs) := cutV_from (i := 3) (by simp)
    refine ⟨p, b :: rs, rfl, by rw [ec]; exact SqL.of upd_same, by have := hW.len; simp only [List.length_cons] at this ⊢; omega, fun c hc => hW.each c (by simp only [List.mem_cons] at hc ⊢; exact .inr (.inr (.inr hc))), fun H2 it s2 hI => ?_⟩
    have s12 : Same H H2 := s1.trans s2
    obtain ⟨as, hit, hlen⟩ := items_len hI
    refine ⟨_, rfl, it, _, rfl, .inl (SqL.of hit), rfl, _, rfl, ?_⟩
    rw [hlen]
    cases hm : mapAll itemIn (b :: rs) with
    | none =>
      refine iteT ?_
      exact bad (by rw [hm]; rfl) H2 s12
    | some l =>
    have hll : l.length = rs.length + 1 := mapAll_len hm
    refine ite2 (fun g => ?_) (fun g => ?_)
    · have g' : ((l.length : Nat) : Int) = 0 := V.int.inj (of_decide_eq_true g)
      omega
    rw [hm] at hI k
    have hI : ItemsAt H2 it l := hI
    have k : Aft C o d w r i m H Q (stepO e i (some (.let_ x l))) := k
    rw [stepO_let hi0] at k
    have hR2 := hR.same s12
    obtain ⟨kvs, hd, hkl, hn⟩ := hR2.nm
    have ho2 := s12 _ _ ho
    refine ⟨_, rfl, a, _, _, _, rfl, rfl, SqL.of (s12 _ _ hW.lst), WdAt.get (H := H) (a := a) (w := w) (r := r) (j := 1) rfl, _, rfl, o, C, dx, _, _, rfl, ho2, R.cl, R.nS, flds_stitches _ _ _ _, d, _, rfl, DGet.k (k := .inr (sw x)) hd, _, rfl, ?_⟩
    cases hlk : look e.names x with
    | some sx =>
      obtain ⟨c, q1, _⟩ := (hn x).2 sx hlk
      rw [q1]
      refine iteT ?_
      rw [hlk] at k
      exact k H2 (Kep.same s12)
    | none =>
    rw [(hn x).1 hlk]
    refine iteF ?_
    rw [hlk] at k
    have k : Aft C o d w r i m H Q (match stitchOf e.names l with | none => .error 2 | some s => .ok ({ e with names := (x, s) :: e.names }, [])) := k
    refine ⟨_, rfl, _, rfl, o, C, dx, _, _, rfl, ho2, R.cl, R.nS, flds_stitches _ _ _ _, it, d, l, e.names, i, rfl, hI, hR2.nm.less, _, rfl, ?_⟩
    cases hst : stitchOf e.names l with
    | none =>
      refine iteT ?_
      rw [hst] at k
      exact k H2 (Kep.same s12)
    | some st =>
    refine iteF ?_
    rw [hst] at k
    refine ⟨_, rfl, _, rfl, o, C, dx, _, _, rfl, ho2, R.cl, R.nS, flds_stitches _ _ _ _, it, d, l, e.names, i, st, rfl, hI, hR2.nm.less, hst, fun H3 sa s3 hsn hsa hsl => ?_⟩
    have s13 : Same H H3 := s12.trans s3
    have hR3 := hR2.same s3
    have hd3 := s3 _ _ hd
    have hks : kvs.length < sizeLine := Nat.lt_of_le_of_lt (Nat.le_trans hkl hi) (by decide)
    refine ⟨_, rfl, o, C, dx, _, _, rfl, s3 _ _ ho2, R.cl, R.nS, flds_stitches _ _ _ _, _, rfl, a, _, _, _, rfl, rfl, SqL.of (s13 _ _ hW.lst), WdAt.get (H := H) (a := a) (w := w) (r := r) (j := 1) rfl, d, _, rfl, DPut.k (k := .inr (sw x)) hd3 hks, ?_⟩
    have hdN := hR.hd
    have hoN := hR.ho
    simp only [List.mem_cons, List.not_mem_nil, or_false, not_or] at hdN hoN
    obtain ⟨bs, hw1, hw2⟩ := hR3.wk
    obtain ⟨cs, hr3, hr4⟩ := hR3.rp
    obtain ⟨bs2, hw22, _⟩ := hR2.wk
    obtain ⟨cs2, hr22, _⟩ := hR2.rp
    have kp : ∀ b z, H3 b = some z → b ≠ d → upd H3 d (.dK (putK kvs (.inr (sw x)) (.ref sa))) b = some z := fun b z q nb => by rw [upd_ne nb]; exact q
    refine k _ ⟨⟨dx, kp _ _ (s3 _ _ ho2) hoN.1⟩, ?_, ⟨bs, kp _ _ hw1 (Ne.symm hdN.1), Paired.mapP hw2 fun c z q => kp _ _ q (ne_of q hd3 (by intro z; cases z))⟩, ⟨cs, kp _ _ hr3 (Ne.symm hdN.2), Paired.mapP hr4 fun c z q => kp _ _ q (ne_of q hd3 (by intro z; cases z))⟩, hR.ne, hR.wl, hR.dp, hR.d8, hR.st⟩ (fun b z q nb => kp b z (s13 _ _ q) (by simp only [List.mem_cons, not_or] at nb; exact nb.2.1))
    refine ⟨_, upd_same, Nat.le_trans (length_putK _ _ _) (by omega), fun b' => ?_⟩
    show (look ((x, st) :: e.names) b' = none → _) ∧ ∀ s, look ((x, st) :: e.names) b' = some s → _
    rw [look_cons, valV_put]
    by_cases hxb : x = b'
    · subst hxb
      rw [if_pos rfl, if_pos rfl]
      refine ⟨fun z => (by cases z), fun s z => ?_⟩
      cases z
      refine ⟨sa, rfl, kp _ _ hsa (ne_of hsa hd3 (by intro z; cases z)), hsl, ?_⟩
      have n1 : w ≠ sa := ne_of_none hw22 hsn
      have n2 : r ≠ sa := ne_of_none hr22 hsn
      simp [n1.symm, n2.symm]
    · rw [if_neg hxb, if_neg (fun z => hxb (sw_inj.mp (Sum.inr.inj z)).symm)]
      refine ⟨(hn b').1, fun s z => ?_⟩
      obtain ⟨c, z1, z2, z3, z4⟩ := (hn b').2 s z
      exact ⟨c, z1, kp _ _ (s3 _ _ z2) (ne_of (s3 _ _ z2) hd3 (by intro z; cases z)), z3, z4⟩
end
end Bt

end
section
set_option Elab.async false
set_option maxRecDepth 100000
set_option maxHeartbeats 2000000
set_option linter.all false
namespace Bt
open PySem PySem.Spec PyProof.Rows L2 Lcb
theorem do_short {ws : List Bytes} (h : ws.length < 3) (hw : ws.head? = some (ascii "do")) : lineW ws = none := by
  match ws, h with
  | [], _ => cases hw
  | [w], _ =>
    have : w = ascii "do" := Option.some.inj hw
    subst this
    exact lineW_one (by decide)
  | [w, x], _ =>
    have : w = ascii "do" := Option.some.inj hw
    subst this
    rw [lineW_do]
    cases numIn x <;> rfl
theorem do_long (x b : Bytes) (r : List Bytes) : lineW (ascii "do" :: x :: b :: r) = (numIn x).bind fun (k : Nat) => (mapAll itemIn (b :: r)).map (Line.do_ k) := by
  rw [lineW_do, ← allIn_mapAll]
theorem run_one (m : M) (i : Nat) (v : Working) : runOps m [.acts i v] = ⟨cut (m.wk ++ v.map fun x => (x, i)), m.stk⟩ := rfl
/-! ### rows -/
def fits (n f : Nat) : List Nat → Bool
  | [] => true
  | k :: r => decide (f ≤ k) && (decide (k + 1 < n) && fits n (k + 2) r)
theorem fits_row (n : Nat) : ∀ (r : List Nat) (f k : Nat), fits n f (k :: r) = (decide (f ≤ k) && rowOk n (k :: r))
  | [], f, k => by
    show (decide (f ≤ k) && (decide (k + 1 < n) && true)) = (decide (f ≤ k) && decide (k + 1 < n))
    rw [Bool.and_true]
  | j :: r, f, k => by
    show (decide (f ≤ k) && (decide (k + 1 < n) && fits n (k + 2) (j :: r))) = (decide (f ≤ k) && (decide (k + 1 < n) && (decide (k + 2 ≤ j) && rowOk n (j :: r))))
    rw [fits_row n r (k + 2) j]
theorem row_fits_eq (n : Nat) (ks : List Nat) : rowOk n ks = fits n 0 ks := by
  cases ks with
  | nil => rfl
  | cons k r =>
    rw [fits_row]
    simp
theorem nums_all : ∀ {ws : List Bytes}, (∀ b ∈ ws, 0 ≤ numI b) → ∃ ks : List Nat, mapAll numIn ws = some ks ∧ ws.map numI = ks.map fun (k : Nat) => (k : Int)
  | [], _ => ⟨[], rfl, rfl⟩
  | b :: r, h => by
    obtain ⟨ks, h1, h2⟩ := nums_all (ws := r) fun c hc => h c (List.mem_cons_of_mem _ hc)
    have hb := h b List.mem_cons_self
    rcases numI_cases b with ⟨n, e1, e2⟩ | ⟨e1, e2⟩
    · refine ⟨n :: ks, ?_, ?_⟩
      · show ((numIn b).bind fun x => (mapAll numIn r).map fun l => x :: l) = _
        rw [e1, h1]; rfl
      · rw [List.map_cons, List.map_cons, h2, e2]
    · rw [e2] at hb
      exact absurd hb (by decide)
theorem nums_bad : ∀ {ws : List Bytes} {b : Bytes}, b ∈ ws → numI b < 0 → mapAll numIn ws = none
  | c :: r, b, hm, hb => by
    show ((numIn c).bind fun x => (mapAll numIn r).map fun l => x :: l) = none
    rcases List.mem_cons.mp hm with rfl | hm
    · rcases numI_cases b with ⟨n, e1, e2⟩ | ⟨e1, e2⟩
      · rw [e2] at hb; omega
      · rw [e1]; rfl
    · rw [nums_bad hm hb]
      cases numIn c <;> rfl
theorem row_short {ws : List Bytes} (h : ws.length < 3) (hw : ws.head? = some (ascii "row")) : lineW ws = none := by
  match ws, h with
  | [], _ => cases hw
  | [w], _ =>
    have : w = ascii "row" := Option.some.inj hw
    subst this
    exact lineW_one (by decide)
  | [w, x], _ =>
    have : w = ascii "row" := Option.some.inj hw
    subst this
    rw [lineW_row]
    by_cases g : isName x = true
    · rw [if_pos g]; rfl
    · rw [if_neg g]
theorem row_long (x b : Bytes) (r : List Bytes) : lineW (ascii "row" :: x :: b :: r) = if isName x = true then (mapAll numIn (b :: r)).map (Line.row x) else none := by
  rw [lineW_row, ← allIn_mapAll]
theorem stepO_row {e : Lcb.Env} {i : Nat} (hi : i ≠ 0) (x : Bytes) (ks : List Nat) : stepO e i (some (.row x ks)) = match look e.names x with
      | none => .error 2
      | some s => if rowOk e.n ks = false then .error 3 else .ok (e, [.acts i (cut (ks.flatMap s.at_))]) := by
  show (if i = 0 then _ else _) = _
  exact if_neg hi
theorem ints_get {ks : List Nat} {j : Nat} {y : V} (h : (ks.map fun k : Nat => V.int (k : Int))[j]? = some y) : ∃ k, ks[j]? = some k ∧ y = .int (k : Int) := by
  rw [List.getElem?_map] at h
  cases e : ks[j]? with
  | none => rw [e] at h; cases h
  | some a => rw [e] at h; exact ⟨a, rfl, (Option.some.inj h).symm⟩
section
variable {P : Program} {w : World} {K : PySem.W.Frag} {mg : Str → Option Value} {base : Heap} {aW aL aO a1 a2 a3 a4 : Addr}
/-! ### read_do -/
def spRDo (C : Addr) (w0 : String) : Sp := fun vs H Q _ => ∃ (o d w r a : Addr) (e : Lcb.Env) (m : M) (i : Nat) (ws : List Bytes), vs = [.ref o, .int i, .ref a] ∧ RdAt C H o d w r e m i ∧ WdAt H a w r ws ∧ i ≠ 0 ∧ i ≤ 20000 ∧ ws.head? = some (ascii w0) ∧ Aft C o d w r i m H Q (stepO e i (lineW ws))
theorem scRDo : FnScope ["reading", "line", "words", "place", "items"] ["reading", "line", "words"] (defScope sRDo) := ⟨rfl, rfl, rfl, by decide +kernel, rfl, by decide +kernel, by decide +kernel⟩
theorem ok_rdo {f C : Addr} {fd : FuncData} (F : Fun K "read_do" "read_do" sRDo f fd) (T : Tx P w K mg aW aL aO a1 a2 a3 a4) (R : Rc K mg C)
    (cNum : Cal P w K mg base "number_of" 1 ["word"] spNum) (cItems : Cal P w K mg base "items_of" 3 ["words"] (spItems K)) (cLet : Cal P w K mg base "are_let" 1 ["items", "stitches"] spLet) (cActs : Cal P w K mg base "acts_of" 2 ["items", "stitches"] spActs)
    (cWork : Cal P w K mg base "work_stitch" 2 ["reading", "line", "acts", "place"] (spWork C)) :
    FnOk P w K mg base CX0 4 f fd ["reading", "line", "words"] (spRDo C "do") := by
  refine F.ok scRDo (fun vs H Q E h => ?_) (fun cdv A outer s H vs Q E hr h => ?_)
  · obtain ⟨o, d, w, r, a, e, m, i, ws, rfl, _⟩ := h
    rfl
  · obtain ⟨o, d, w, r, a, e, m, i, ws, rfl, hR, hW, hi0, hi, hhd, k⟩ := h
    have hr1 := hr.mono (j := 1) (by decide)
    have hr2 := hr.mono (j := 2) (by decide)
    obtain ⟨dx, ho⟩ := hR.ob
    have bad : lineW ws = none → ∀ H', Same H H' → Q (.int 1) H' := fun q H' s1 => by
      rw [q] at k
      exact k H' (Kep.same s1)
    refine ⟨_, pss_cons (ps_if (pt_cmpR op_lt (pe_callB call_len_seq rfl T.len PySem.boot_len (pa_cons (pv 2) pa_nil)) pe_int (nomark _)) (pss_one (ps_ret (pe_gi T.noLine))) pss_nil)
      (pss_cons (ps_set (i := 3) scRDo.nd rfl (Or.inl rfl) (pe_cal cNum hr1 (pa_cons (pe_ix ix_list (pv 2) pe_int (fun _ _ => rfl)) pa_nil)))
      (pss_cons (ps_set (i := 4) scRDo.nd rfl (Or.inl rfl) (pe_cal cItems hr (pa_cons (pe_slice sl_list (pv 2) (po_some pe_int) po_none) pa_nil)))
      (pss_cons (ps_if (PW.pt (pw_or (pt_cmpR op_lt (pv 3) pe_int (nomark _)) (pw_or1 (pt_cmpR op_eq (pe_callB call_len_seq rfl T.len PySem.boot_len (pa_cons (pv 4) pa_nil)) pe_int (nomark _))))) (pss_one (ps_ret (pe_gi T.noLine))) pss_nil)
      (pss_cons (ps_if (pt_not (pt_val (pe_cal cLet hr1 (pa_cons (pv 4) (pa_cons (pe_fld (pv 0) rfl) pa_nil))))) (pss_one (ps_ret (pe_gi T.wrongName))) pss_nil)
      (pss_cons (ps_if (pt_cmpR op_ge (pe_op op_add (pv 3) pe_int) (pe_fld (pv 0) rfl) (nomark _)) (pss_one (ps_ret (pe_gi T.wrongPair))) pss_nil)
      (pss_cons (ps_expr (pe_cal cWork hr2 (pa_cons (pv 0) (pa_cons (pv 1) (pa_cons (pe_cal cActs hr2 (pa_cons (pv 4) (pa_cons (pe_fld (pv 0) rfl) pa_nil))) (pa_cons (pv 3) pa_nil))))))
      (pss_one (ps_ret (pe_gi T.noFault))))))))), ?_⟩
    refine ⟨_, rfl, a, _, rfl, .inl (SqL.of hW.lst), _, _, rfl, rfl, _, rfl, ?_⟩
    rw [stv_len]
    refine ite2 (fun g => ?_) (fun g => ?_)
    · have g' := of_decide_eq_true g
      exact bad (do_short (by omega) hhd) H (Same.refl _)
    have g1 : ¬ ws.length < 3 := fun q => g (decide_eq_true (by omega))
    obtain ⟨w0, x, b, rs, rfl⟩ := three g1
    have e0 : w0 = ascii "do" := Option.some.inj hhd
    subst e0
    rw [do_long] at k bad
    refine ⟨_, rfl, a, _, _, _, rfl, rfl, SqL.of hW.lst, WdAt.get (H := H) (a := a) (w := w) (r := r) (j := 1) rfl, x, rfl, hW.each x (by simp), ?_⟩
    refine ⟨_, rfl, _, rfl, a, _, rfl, SqL.of hW.lst, fun p hp => ?_⟩
    have s1 : Same H (upd H p (.lst (cutV (stv (ascii "do" :: x :: b :: rs)) (some 2) none))) := Same.new hp
    have ec : cutV (stv (ascii "do" :: x :: b :: rs)) (some 2) none = stv (b :: rs) := cutV_from (i := 2) (by simp)
    refine ⟨p, b :: rs, rfl, by rw [ec]; exact SqL.of upd_same, by have := hW.len; simp only [List.length_cons] at this ⊢; omega, fun c hc => hW.each c (by simp only [List.mem_cons] at hc ⊢; exact .inr (.inr hc)), fun H2 it s2 hI => ?_⟩
    have s12 : Same H H2 := s1.trans s2
    refine ⟨_, rfl, _, _, rfl, rfl, _, rfl, ?_⟩
    rcases numI_cases x with ⟨kx, hk1, hk2⟩ | ⟨hk1, hk2⟩
    case inr =>
      rw [hk2]
      refine iteT ?_
      refine iteT ?_
      exact bad (by rw [hk1]; rfl) H2 s12
    case inl =>
    rw [hk2]
    refine ite2 (fun g => ?_) (fun g => ?_)
    · have g' := of_decide_eq_true g
      omega
    obtain ⟨as, hit, hlen⟩ := items_len hI
    refine ⟨_, rfl, it, _, rfl, .inl (SqL.of hit), rfl, _, rfl, ?_⟩
    rw [hlen]
    rw [hk1] at k bad
    cases hm : mapAll itemIn (b :: rs) with
    | none =>
      refine iteT ?_
      exact bad (by rw [hm]; rfl) H2 s12
    | some l =>
    have hll : l.length = rs.length + 1 := mapAll_len hm
    refine ite2 (fun g => ?_) (fun g => ?_)
    · have g' : ((l.length : Nat) : Int) = 0 := V.int.inj (of_decide_eq_true g)
      omega
    rw [hm] at hI k
    have hI : ItemsAt H2 it l := hI
    have k : Aft C o d w r i m H Q (stepO e i (some (.do_ kx l))) := k
    rw [stepO_do hi0] at k
    have hR2 := hR.same s12
    have ho2 := s12 _ _ ho
    refine ⟨_, rfl, _, rfl, o, C, dx, _, _, rfl, ho2, R.cl, R.nS, flds_stitches _ _ _ _, it, d, l, e.names, i, rfl, hI, hR2.nm.less, _, rfl, ?_⟩
    cases hst : stitchOf e.names l with
    | none =>
      refine iteT ?_
      rw [hst] at k
      exact k H2 (Kep.same s12)
    | some st =>
    refine iteF ?_
    rw [hst] at k
    have k : Aft C o d w r i m H Q (if e.n ≤ kx + 1 then .error 3 else .ok (e, [.acts i (st.at_ kx)])) := k
    refine ⟨_, rfl, _, _, rfl, rfl, _, rfl, o, C, dx, _, _, rfl, ho2, R.cl, R.nP, flds_pairs _ _ _ _, _, _, rfl, rfl, _, rfl, ?_⟩
    refine ite2 (fun g => ?_) (fun g => ?_)
    · have g' := of_decide_eq_true g
      rw [if_pos (by omega)] at k
      exact k H2 (Kep.same s12)
    rw [if_neg (fun q => g (decide_eq_true (by omega)))] at k
    refine ⟨_, rfl, _, rfl, _, rfl, _, rfl, o, C, dx, _, _, rfl, ho2, R.cl, R.nS, flds_stitches _ _ _ _, it, d, l, e.names, i, st, rfl, hI, hR2.nm.less, hst, fun H3 sa s3 hsn hsa hsl => ?_⟩
    have hR3 := hR2.same s3
    refine ⟨_, rfl, o, d, w, r, sa, _, i, kx, m.wk, st, rfl, hR3.ob, hR3.wk, hR3.wl, hsa, hsl, fun H4 hw4 k4 => ?_⟩
    refine k H4 ?_ ((Kep.same (s12.trans s3)).trans (k4.mono (by intro c hc; simp at hc; subst hc; simp)))
    show RdAt C H4 o d w r e (runOps m [.acts i (st.at_ kx)]) (i + 1)
    rw [run_one, acted_eq]
    exact (hR3.work k4 hw4 (cut_len _)).le (Nat.le_succ _)
/-! ### row_fits -/
def spFits : Sp := fun vs H Q _ => ∃ (p : Addr) (ks : List Nat) (n : Nat), vs = [.ref p, .int n] ∧ H p = some (.lst (ks.map fun k : Nat => V.int (k : Int))) ∧ Q (.bl (rowOk n ks)) H
theorem scFits : FnScope ["places", "pairs", "free", "place"] ["places", "pairs"] (defScope sFits) := ⟨rfl, rfl, rfl, by decide +kernel, rfl, by decide +kernel, by decide +kernel⟩
theorem ok_fits {f : Addr} {fd : FuncData} (F : Fun K "row_fits" "row_fits" sFits f fd) : FnOk P w K mg base CX0 1 f fd ["places", "pairs"] spFits := by
  refine F.ok scFits (fun vs H Q E h => ?_) (fun cdv A outer s H vs Q E hr h => ?_)
  · obtain ⟨p, ks, n, rfl, _⟩ := h
    rfl
  · obtain ⟨p, ks, n, rfl, hp, k⟩ := h
    refine ⟨_, pss_cons (ps_set (i := 2) scFits.nd rfl (Or.inl rfl) pe_int)
      (pss_cons (ps_for PassesOwn.never rfl (pi_list (pv 0)) (pg_name (i := 3) scFits.nd rfl (Or.inl rfl))
        (pss_cons (ps_if (PW.pt (pw_or (pt_cmpR op_lt (pv 3) (pv 2) (nomark _)) (pw_or1 (pt_cmpR op_ge (pe_op op_add (pv 3) pe_int) (pv 1) (nomark _))))) (pss_one (ps_ret pe_bl)) pss_nil)
        (pss_one (ps_set (i := 2) scFits.nd rfl (Or.inl rfl) (pe_op op_add (pv 3) pe_int)))))
      (pss_one (ps_ret pe_bl))), ?_⟩
    rw [row_fits_eq] at k
    refine ⟨_, rfl, p, rfl, ⟨_, SqL.of hp⟩, for_list (K := K) (a := p) (xs := ks.map fun k : Nat => V.int (k : Int)) (fun j σ H' => ∃ (f : Nat) (v : Option V), σ = [some (.ref p), some (.int n), some (.int f), v] ∧ H' = H ∧ fits n 0 ks = fits n f (ks.drop j))
      ⟨0, none, rfl, rfl, rfl⟩ (fun j σ H' _ ⟨_, _, _, e, _⟩ => by rw [e]; exact SqL.of hp) ?_ ?_⟩
    · rintro j y σ H' hj ⟨fr, v, rfl, rfl, hf⟩
      obtain ⟨kj, hkj, rfl⟩ := ints_get hj
      have hlt := (List.getElem?_eq_some_iff.mp hkj).1
      have hdr : ks.drop j = kj :: ks.drop (j + 1) := by
        rw [List.drop_eq_getElem_cons hlt]
        congr 1
        exact (List.getElem?_eq_some_iff.mp hkj).2
      rw [hdr] at hf
      have hf : fits n 0 ks = (decide (fr ≤ kj) && (decide (kj + 1 < n) && fits n (kj + 2) (ks.drop (j + 1)))) := hf
      refine ⟨_, rfl, _, rfl, _, _, rfl, rfl, _, rfl, ?_⟩
      refine ite2 (fun g => ?_) (fun g => ?_)
      · refine iteT ?_
        have g' := of_decide_eq_true g
        rw [decide_eq_false (by omega : ¬ fr ≤ kj), Bool.false_and] at hf
        rw [hf] at k
        exact k
      have g1 : fr ≤ kj := by
        have : ¬ (kj : Int) < (fr : Int) := fun q => g (decide_eq_true q)
        omega
      refine ⟨_, rfl, _, _, rfl, rfl, _, rfl, _, _, rfl, rfl, _, rfl, ?_⟩
      refine ite2 (fun g => ?_) (fun g => ?_)
      · have g' := of_decide_eq_true g
        rw [decide_eq_false (by omega : ¬ kj + 1 < n), Bool.false_and, Bool.and_false] at hf
        rw [hf] at k
        exact k
      have g2 : kj + 1 < n := by
        have : ¬ (n : Int) ≤ (kj : Int) + 1 := fun q => g (decide_eq_true q)
        omega
      rw [decide_eq_true g1, decide_eq_true g2, Bool.true_and, Bool.true_and] at hf
      refine ⟨_, rfl, _, _, rfl, rfl, kj + 2, _, rfl, rfl, hf⟩
    · rintro σ H' ⟨fr, v, rfl, rfl, hf⟩
      rw [List.length_map, List.drop_length] at hf
      have hf : fits n 0 ks = true := hf
      rw [hf] at k
      exact k
end
end Bt

end
section
set_option Elab.async false
set_option maxRecDepth 100000
set_option maxHeartbeats 2000000
set_option linter.all false
namespace Bt
open PySem PySem.Spec PyProof.Rows L2 Lcb
theorem rows_acts (wk : List (Lcb.Act × Nat)) (ks : List Nat) (s : Stitch) (i : Nat) : cut (wk ++ (cut (ks.flatMap s.at_)).map fun x => (x, i)) = cut (wk ++ ks.flatMap fun k => acted s k i) := by
  rw [cut_map, cut_cut_r, List.map_flatMap]
  congr 3
  funext k
  exact acted_eq s k i
theorem acts_times (wk : List (Lcb.Act × Nat)) (x : Lcb.Act) (i mt : Nat) : cut (wk ++ (times mt [x]).map fun y => (y, i)) = addM wk [(x, i)] mt := by
  rw [times_eq, cut_map, cut_cut_r, rep_map]
  rfl
section
variable {P : Program} {w : World} {K : PySem.W.Frag} {mg : Str → Option Value} {base : Heap} {aW aL aO a1 a2 a3 a4 : Addr}
/-! ### read_row -/
theorem scRRow : FnScope ["reading", "line", "words", "places", "place", "word"] ["reading", "line", "words"] (defScope sRRow) := ⟨rfl, rfl, rfl, by decide +kernel, rfl, by decide +kernel, by decide +kernel⟩
theorem ok_rrow {f C : Addr} {fd : FuncData} (F : Fun K "read_row" "read_row" sRRow f fd) (T : Tx P w K mg aW aL aO a1 a2 a3 a4) (R : Rc K mg C)
    (cNum : Cal P w K mg base "number_of" 1 ["word"] spNum) (cName : Cal P w K mg base "is_name" 1 ["word"] spName) (cFits : Cal P w K mg base "row_fits" 1 ["places", "pairs"] spFits)
    (cWork : Cal P w K mg base "work_stitch" 2 ["reading", "line", "acts", "place"] (spWork C)) :
    FnOk P w K mg base CX0 3 f fd ["reading", "line", "words"] (spRDo C "row") := by
  refine F.ok scRRow (fun vs H Q E h => ?_) (fun cdv A outer s H vs Q E hr h => ?_)
  · obtain ⟨o, d, w, r, a, e, m, i, ws, rfl, _⟩ := h
    rfl
  · obtain ⟨o, d, w, r, a, e, m, i, ws, rfl, hR, hW, hi0, hi, hhd, k⟩ := h
    have hr1 := hr.mono (j := 1) (by decide)
    have hu := hu_of hr
    obtain ⟨dx, ho⟩ := hR.ob
    have bad : lineW ws = none → ∀ H', Same H H' → Q (.int 1) H' := fun q H' s1 => by
      rw [q] at k
      exact k H' (Kep.same s1)
    refine ⟨_, pss_cons (ps_if (PW.pt (pw_or (pt_cmpR op_lt (pe_callB call_len_seq rfl T.len PySem.boot_len (pa_cons (pv 2) pa_nil)) pe_int (nomark _)) (pw_or1 (pt_not (pt_val (pe_cal cName hr1 (pa_cons (pe_ix ix_list (pv 2) pe_int (fun _ _ => rfl)) pa_nil))))))) (pss_one (ps_ret (pe_gi T.noLine))) pss_nil)
      (pss_cons (ps_setLc (i := 3) (own := [("word", 5)]) rfl scRRow.nd rfl rfl (sw_true rfl rfl rfl rfl) (pi_list (pe_slice sl_list (pv 2) (po_some pe_int) po_none)) (blkOk_by rfl) (fun _ _ _ _ _ => pg_name (i := 5) scRRow.nd rfl (Or.inl rfl)) (fun _ _ _ _ _ => pts_nil) (fun _ _ _ _ _ => pe_cal cNum hr1 (pa_cons (pv 5) pa_nil)))
      (pss_cons (ps_if (pt_cmpR op_lt (pe_callB (cr_min rfl) rfl T.min boot_min (pa_cons (pv 3) pa_nil)) pe_int (nomark _)) (pss_one (ps_ret (pe_gi T.noLine))) pss_nil)
      (pss_cons (ps_if (pt_cmp (pc_dnotin hu (pe_ix ix_list (pv 2) pe_int (fun _ _ => rfl)) (pe_fld (pv 0) rfl))) (pss_one (ps_ret (pe_gi T.wrongName))) pss_nil)
      (pss_cons (ps_if (pt_not (pt_val (pe_cal cFits hr1 (pa_cons (pv 3) (pa_cons (pe_fld (pv 0) rfl) pa_nil))))) (pss_one (ps_ret (pe_gi T.wrongPair))) pss_nil)
      (pss_cons (ps_for PassesOwn.never rfl (pi_list (pv 3)) (pg_name (i := 4) scRRow.nd rfl (Or.inl rfl))
        (pss_one (ps_expr (pe_cal cWork hr (pa_cons (pv 0) (pa_cons (pv 1) (pa_cons (pe_dget hu (pe_fld (pv 0) rfl) (pe_ix ix_list (pv 2) pe_int (fun _ _ => rfl)) (fun _ _ => rfl)) (pa_cons (pv 4) pa_nil))))))))
      (pss_one (ps_ret (pe_gi T.noFault)))))))), ?_⟩
    refine ⟨_, rfl, a, _, rfl, .inl (SqL.of hW.lst), _, _, rfl, rfl, _, rfl, ?_⟩
    rw [stv_len]
    refine ite2 (fun g => ?_) (fun g => ?_)
    · refine iteT ?_
      have g' := of_decide_eq_true g
      exact bad (row_short (by omega) hhd) H (Same.refl _)
    have g1 : ¬ ws.length < 3 := fun q => g (decide_eq_true (by omega))
    obtain ⟨w0, x, b, rs, rfl⟩ := three g1
    have e0 : w0 = ascii "row" := Option.some.inj hhd
    subst e0
    rw [row_long] at k bad
    refine ⟨_, rfl, a, _, _, _, rfl, rfl, SqL.of hW.lst, WdAt.get (H := H) (a := a) (w := w) (r := r) (j := 1) rfl, x, rfl, hW.each x (by simp), _, rfl, ?_⟩
    cases hx : isName x with
    | false =>
      refine iteT ?_
      exact bad (by rw [hx]; rfl) H (Same.refl _)
    | true =>
    refine iteF ?_
    rw [hx] at k bad
    refine ⟨_, rfl, _, rfl, a, _, rfl, SqL.of hW.lst, fun p hp => ?_⟩
    have ec : cutV (stv (ascii "row" :: x :: b :: rs)) (some 2) none = stv (b :: rs) := cutV_from (i := 2) (by simp)
    rw [ec]
    have s1 : Same H (upd H p (.lst (stv (b :: rs)))) := Same.new hp
    refine ⟨p, rfl, ⟨_, SqL.of upd_same⟩, fun D hD => ?_⟩
    have s2 : Same H (upd (upd H p (.lst (stv (b :: rs)))) D (.lst [])) := s1.trans (Same.new hD)
    have hpD : p ≠ D := ne_of_none upd_same hD
    have hlen : (b :: rs).length ≤ 20000 := by have := hW.len; simp only [List.length_cons] at this ⊢; omega
    refine lc_list (K := K) (a := p) (xs := stv (b :: rs)) (fun j H' => H' D = some (.lst ((((b :: rs).take j).map numI).map V.int)) ∧ H' p = some (.lst (stv (b :: rs))) ∧ Same H H')
      ⟨upd_same, by rw [upd_ne hpD]; exact upd_same, s2⟩ (fun j H' _ ⟨_, q, _⟩ => SqL.of q) ?_ ?_
    · rintro j y H' hj ⟨hd1, hp1, s3⟩
      obtain ⟨c, hc, rfl⟩ := strs_get hj
      have hcm : c ∈ b :: rs := List.mem_of_getElem? hc
      refine ⟨rfl, ?_⟩
      refine ⟨_, rfl, c, rfl, hW.each c (by simp only [List.mem_cons] at hcm ⊢; exact .inr (.inr hcm)), _, hd1, ?_, ?_, ?_, ?_⟩
      · rw [List.length_map, List.length_map, List.length_take]
        exact Nat.lt_of_le_of_lt (Nat.le_trans (Nat.min_le_right _ _) hlen) (by decide)
      · rw [upd_same, List.take_add_one, hc, List.map_append, List.map_append]; rfl
      · rw [upd_ne hpD]; exact hp1
      · intro c' z q
        rw [upd_ne (ne_of_none (s1 _ _ q) hD)]
        exact s3 _ _ q
    · rintro H2 ⟨hd1, hp1, s12⟩
      rw [stv_len, List.take_length] at hd1
      refine ⟨_, rfl, D, _, rfl, SqL.of hd1, by simp, fun mn hmn hle => ⟨_, _, rfl, rfl, _, rfl, ?_⟩⟩
      refine ite2 (fun g => ?_) (fun g => ?_)
      · have g' := of_decide_eq_true g
        obtain ⟨c, hc, rfl⟩ := List.mem_map.mp hmn
        refine bad ?_ H2 s12
        rw [if_pos rfl, nums_bad hc g']
        rfl
      have hmn0 : 0 ≤ mn := by
        have : ¬ mn < 0 := fun q => g (decide_eq_true q)
        omega
      obtain ⟨ks, hks, hks2⟩ := nums_all (ws := b :: rs) fun c hc => Int.le_trans hmn0 (hle _ (List.mem_map.mpr ⟨c, hc, rfl⟩))
      rw [hks2, List.map_map] at hd1
      have hd1 : H2 D = some (.lst (ks.map fun k : Nat => V.int (k : Int))) := hd1
      rw [if_pos rfl, hks] at k
      have k : Aft C o d w r i m H Q (stepO e i (some (.row x ks))) := k
      rw [stepO_row hi0] at k
      have hR2 := hR.same s12
      obtain ⟨kvs, hd, hkl, hn⟩ := hR2.nm
      have ho2 := s12 _ _ ho
      refine ⟨_, rfl, a, _, _, _, rfl, rfl, SqL.of (s12 _ _ hW.lst), WdAt.get (H := H) (a := a) (w := w) (r := r) (j := 1) rfl, _, rfl, o, C, dx, _, _, rfl, ho2, R.cl, R.nS, flds_stitches _ _ _ _, d, _, rfl, DGet.k (k := .inr (sw x)) hd, _, rfl, ?_⟩
      cases hlk : look e.names x with
      | none =>
        rw [(hn x).1 hlk]
        refine iteT ?_
        rw [hlk] at k
        exact k H2 (Kep.same s12)
      | some st =>
      obtain ⟨sa0, q0, _⟩ := (hn x).2 st hlk
      rw [q0]
      refine iteF ?_
      rw [hlk] at k
      have k : Aft C o d w r i m H Q (if rowOk e.n ks = false then .error 3 else .ok (e, [.acts i (cut (ks.flatMap st.at_))])) := k
      refine ⟨_, rfl, _, rfl, o, C, dx, _, _, rfl, ho2, R.cl, R.nP, flds_pairs _ _ _ _, D, ks, e.n, rfl, hd1, _, rfl, ?_⟩
      cases hro : rowOk e.n ks with
      | false =>
        refine iteT ?_
        rw [hro, if_pos rfl] at k
        exact k H2 (Kep.same s12)
      | true =>
      refine iteF ?_
      rw [hro, if_neg (by decide)] at k
      have hwD : D ≠ w := by
        obtain ⟨bs, hw1, _⟩ := hR.wk
        exact (ne_of_none (s1 _ _ hw1) hD).symm
      refine ⟨_, rfl, D, rfl, ⟨_, SqL.of hd1⟩, for_list (K := K) (a := D) (xs := ks.map fun k : Nat => V.int (k : Int)) (fun j σ H' => ∃ v : Option V, σ = [some (.ref o), some (.int i), some (.ref a), some (.ref D), v, none] ∧ RdAt C H' o d w r e ⟨cut (m.wk ++ (ks.take j).flatMap fun k => acted st k i), m.stk⟩ i ∧ Kep [w] H2 H')
        ⟨none, rfl, ?_, Kep.refl _ _⟩ (fun j σ H' _ ⟨_, _, _, kp⟩ => SqL.of (kp _ _ hd1 (by simpa using hwD))) ?_ ?_⟩
      · have ez : cut (m.wk ++ (ks.take 0).flatMap fun k => acted st k i) = m.wk := by
          rw [List.take_zero, List.flatMap_nil, List.append_nil, cut_small hR.wl]
        rw [ez]
        exact hR2
      · rintro j y σ H' hj ⟨v, rfl, hR3, kp⟩
        obtain ⟨kj, hkj, rfl⟩ := ints_get hj
        obtain ⟨dx3, ho3⟩ := hR3.ob
        obtain ⟨kvs3, hd3, _, hn3⟩ := hR3.nm
        obtain ⟨sa, z1, z2, z3, z4⟩ := (hn3 x).2 st hlk
        have dg : DGet H' d (kV (.inr (sw x))) (some (.ref sa)) := by
          have := DGet.k (k := .inr (sw x)) hd3
          rw [z1] at this
          exact this
        refine ⟨_, rfl, _, rfl, _, rfl, o, C, dx3, _, _, rfl, ho3, R.cl, R.nS, flds_stitches _ _ _ _, _, rfl, a, _, _, _, rfl, rfl, SqL.of (kp _ _ (s12 _ _ hW.lst) (by simpa using hW.nw)), WdAt.get (H := H) (a := a) (w := w) (r := r) (j := 1) rfl, d, _, rfl, dg, _, rfl,
          o, d, w, r, sa, _, i, kj, _, st, rfl, hR3.ob, hR3.wk, hR3.wl, z2, z3, fun H4 hw4 k4 => ?_⟩
        refine ⟨_, rfl, ?_, kp.trans k4⟩
        have et : cut (cut (m.wk ++ (ks.take j).flatMap fun k => acted st k i) ++ acted st kj i) = cut (m.wk ++ (ks.take (j + 1)).flatMap fun k => acted st k i) := by
          rw [cut_cut, List.append_assoc, List.take_add_one, hkj, List.flatMap_append]
          simp
        rw [← et]
        exact hR3.work k4 hw4 (cut_len _)
      · rintro σ H' ⟨v, rfl, hR3, kp⟩
        rw [List.length_map, List.take_length] at hR3
        refine k H' ?_ ((Kep.same s12).trans (kp.mono (by intro c hc; simp at hc; subst hc; simp)))
        show RdAt C H' o d w r e (runOps m [.acts i (cut (ks.flatMap st.at_))]) (i + 1)
        rw [run_one, rows_acts]
        exact hR3.le (Nat.le_succ _)
end
end Bt

end
section
set_option Elab.async false
set_option maxRecDepth 100000
set_option maxHeartbeats 2000000
set_option linter.all false
namespace Bt
open PySem PySem.Spec PyProof.Rows L2 Lcb
theorem act_no {w0 : Bytes} (h : w0 = ascii "twist" ∨ w0 = ascii "cross") {ws : List Bytes} (hh : ws.head? = some w0) (hl : ws.length ≠ 3) : lineW ws = none := by
  match ws with
  | [] => cases hh
  | [w] =>
    have : w = w0 := Option.some.inj hh
    subst this
    exact lineW_one (by rcases h with rfl | rfl <;> decide)
  | [w, x] =>
    have : w = w0 := Option.some.inj hh
    subst this
    rw [lineW_act h]; rfl
  | [w, x, y] => exact absurd rfl hl
  | w :: x :: y :: z :: r =>
    have : w = w0 := Option.some.inj hh
    subst this
    rw [lineW_act h]; rfl
theorem act_yes {w0 : Bytes} (h : w0 = ascii "twist" ∨ w0 = ascii "cross") (x y : Bytes) : lineW [w0, x, y] = (numIn x).bind fun (k : Nat) => (timesIn y).map fun (m : Nat) => if w0 = ascii "twist" then Line.twist k m else Line.cross k m := by
  rw [lineW_act h]; rfl
theorem stepO_twist {e : Lcb.Env} {i : Nat} (hi : i ≠ 0) (k m : Nat) : stepO e i (some (.twist k m)) = if e.n ≤ k then .error 3 else .ok (e, [.acts i (times m [.twist k])]) := by
  show (if i = 0 then _ else _) = _
  exact if_neg hi
theorem stepO_cross {e : Lcb.Env} {i : Nat} (hi : i ≠ 0) (k m : Nat) : stepO e i (some (.cross k m)) = if e.n ≤ k + 1 then .error 3 else .ok (e, [.acts i (times m [.cross k])]) := by
  show (if i = 0 then _ else _) = _
  exact if_neg hi
section
variable {P : Program} {wd : World} {K : PySem.W.Frag} {mg : Str → Option Value} {base : Heap} {aW aL aO a1 a2 a3 a4 : Addr}
/-! ### read_act -/
def spRAct (C : Addr) : Sp := fun vs H Q _ => ∃ (o d w r a : Addr) (e : Lcb.Env) (m : M) (i : Nat) (ws : List Bytes) (w0 : Bytes), vs = [.ref o, .int i, .ref a] ∧ RdAt C H o d w r e m i ∧ WdAt H a w r ws ∧ i ≠ 0 ∧ i ≤ 20000 ∧ (w0 = ascii "twist" ∨ w0 = ascii "cross") ∧ ws.head? = some w0 ∧ Aft C o d w r i m H Q (stepO e i (lineW ws))
theorem scRAct : FnScope ["reading", "line", "words", "place", "times", "act", "last"] ["reading", "line", "words"] (defScope sRAct) := ⟨rfl, rfl, rfl, by decide +kernel, rfl, by decide +kernel, by decide +kernel⟩
theorem ok_ract {f C : Addr} {fd : FuncData} (F : Fun K "read_act" "read_act" sRAct f fd) (T : Tx P wd K mg aW aL aO a1 a2 a3 a4) (R : Rc K mg C)
    (cNum : Cal P wd K mg base "number_of" 1 ["word"] spNum) (cAdd : Cal P wd K mg base "add_times" 1 ["acts", "more", "times"] spAdd) :
    FnOk P wd K mg base CX0 2 f fd ["reading", "line", "words"] (spRAct C) := by
  refine F.ok scRAct (fun vs H Q E h => ?_) (fun cdv A outer s H vs Q E hr h => ?_)
  · obtain ⟨o, d, w, r, a, e, m, i, ws, w0, rfl, _⟩ := h
    rfl
  · obtain ⟨o, d, w, r, a, e, m, i, ws, w0, rfl, hR, hW, hi0, hi, hw0, hhd, k⟩ := h
    obtain ⟨dx, ho⟩ := hR.ob
    have bad : lineW ws = none → Q (.int 1) H := fun q => by
      rw [q] at k
      exact k H (Kep.refl _ _)
    obtain ⟨t5, p5, h5⟩ : ∃ t, PSs (cxOf CX0 P wd K mg base ["reading", "line", "words", "place", "times", "act", "last"] "read_act" (defScope sRAct) f cdv A outer s H E).nox ((defBody sRAct).drop 7) t ∧
        ∀ (pl : Int) (mt ls : Nat) (x : Lcb.Act), mt ≤ 99999 → (e.n ≤ ls → Q (.int 3) H) → (¬ e.n ≤ ls → ∀ H', RdAt C H' o d w r e (runOps m [.acts i (times mt [x])]) (i + 1) → Kep [o, d, w, r] H H' → Q (.int 0) H') →
          t { nx := fun x H' => Q L2.V.non H', rt := Q } [some (.ref o), some (.int i), some (.ref a), some (.int pl), some (.int mt), some (.int x.code), some (.int ls)] H := by
      refine ⟨_, pss_cons (ps_if (pt_cmpR op_ge (pv 6) (pe_fld (pv 0) rfl) (nomark _)) (pss_one (ps_ret (pe_gi T.wrongPair))) pss_nil)
        (pss_cons (ps_expr (pe_cal cAdd hr (pa_cons (pe_fld (pv 0) rfl) (pa_cons (pe_lst (pa_cons (pe_tup (pa_cons (pv 5) (pa_cons (pv 1) pa_nil))) pa_nil)) (pa_cons (pv 4) pa_nil)))))
        (pss_one (ps_ret (pe_gi T.noFault)))), fun pl mt ls x hmt q1 q2 => ?_⟩
      refine ⟨_, rfl, _, rfl, o, C, dx, _, _, rfl, ho, R.cl, R.nP, flds_pairs _ _ _ _, _, _, rfl, rfl, _, rfl, ?_⟩
      refine ite2 (fun g => ?_) (fun g => ?_)
      · have g' := of_decide_eq_true g
        exact q1 (by omega)
      have g1 : ¬ e.n ≤ ls := fun q => g (decide_eq_true (by omega))
      refine ⟨_, rfl, o, C, dx, _, _, rfl, ho, R.cl, R.nW, flds_worked _ _ _ _, _, rfl, _, rfl, by show 2 ≤ sizeLine; decide, fun t ht => ⟨by show 1 ≤ sizeLine; decide, fun p hp => ?_⟩⟩
      obtain ⟨as, hw1, hpa⟩ := hR.wk
      have hal : as.length = m.wk.length := Paired.length hpa
      have s1 : Same H (upd H t (.tup [.int x.code, .int i])) := Same.new ht
      have s2 : Same H (upd (upd H t (.tup [.int x.code, .int i])) p (.lst [.ref t])) := s1.trans (Same.new hp)
      have ht2 : upd (upd H t (.tup [.int x.code, .int i])) p (.lst [.ref t]) t = some (actV (x, i)) := by
        rw [upd_ne (ne_of_none upd_same hp), upd_same]
      have hw2 := s2 _ _ hw1
      refine ⟨_, rfl, w, p, _, _, mt, rfl, hw2, upd_same, by rw [List.length_map, hal]; exact hR.wl, by show 1 ≤ 4097; decide, hmt, fun H3 h3 kp => ?_⟩
      have k3 : Kep [w] H H3 := fun b z q nb => kp b z (s2 _ _ q) (by simpa using nb)
      refine q2 g1 H3 ?_ (k3.mono (by intro c hc; simp at hc; subst hc; simp))
      rw [run_one, acts_times]
      refine (hR.work k3 ?_ (addM_len _ _ _)).le (Nat.le_succ _)
      refine ⟨addM as [t] mt, by rw [h3, addM_map]; rfl, ?_⟩
      refine Paired.mapP (paired_addM (Paired.mapP hpa fun c z q => s2 _ _ q) (.cons ht2 .nil) mt) fun c z q => ?_
      exact kp c _ q (ne_of q hw2 (by intro z; cases z))
    refine ⟨_, pss_cons (ps_if (pt_cmpR op_ne (pe_callB call_len_seq rfl T.len PySem.boot_len (pa_cons (pv 2) pa_nil)) pe_int (nomark _)) (pss_one (ps_ret (pe_gi T.noLine))) pss_nil)
      (pss_cons (ps_set (i := 3) scRAct.nd rfl (Or.inl rfl) (pe_cal cNum hr (pa_cons (pe_ix ix_list (pv 2) pe_int (fun _ _ => rfl)) pa_nil)))
      (pss_cons (ps_set (i := 4) scRAct.nd rfl (Or.inl rfl) (pe_cal cNum hr (pa_cons (pe_ix ix_list (pv 2) pe_int (fun _ _ => rfl)) pa_nil)))
      (pss_cons (ps_if (PW.pt (pw_or (pt_cmpR op_lt (pv 3) pe_int (nomark _)) (pw_or1 (pt_cmpR op_lt (pv 4) pe_int (nomark _))))) (pss_one (ps_ret (pe_gi T.noLine))) pss_nil)
      (pss_cons (ps_set (i := 5) scRAct.nd rfl (Or.inl rfl) (pv 3))
      (pss_cons (ps_set (i := 6) scRAct.nd rfl (Or.inl rfl) (pv 3))
      (pss_cons (ps_if (pt_cmpR op_eq (pe_ix ix_list (pv 2) pe_int (fun _ _ => rfl)) pe_str (nomark _))
        (pss_cons (ps_set (i := 5) scRAct.nd rfl (Or.inl rfl) (pe_op op_add (pe_gi T.cross) (pv 3))) (pss_one (ps_set (i := 6) scRAct.nd rfl (Or.inl rfl) (pe_op op_add (pv 3) pe_int)))) pss_nil)
      p5)))))), ?_⟩
    refine ⟨_, rfl, a, _, rfl, .inl (SqL.of hW.lst), rfl, _, rfl, ?_⟩
    refine ite2 (fun g => ?_) (fun g => ?_)
    · have g' := nd_pos g
      refine bad (act_no hw0 hhd fun q => g' ?_)
      rw [stv_len, q]; rfl
    have hl : ws.length = 3 := by
      have g' : (((stv ws).length : Nat) : Int) = 3 := V.int.inj (nd_neg g)
      rw [stv_len] at g'
      omega
    obtain ⟨u0, x, y, rfl⟩ : ∃ u0 x y, ws = [u0, x, y] := by
      match ws, hl with
      | [u0, x, y], _ => exact ⟨u0, x, y, rfl⟩
    have e0 : u0 = w0 := Option.some.inj hhd
    subst e0
    rw [act_yes hw0] at k bad
    refine ⟨_, rfl, a, _, _, _, rfl, rfl, SqL.of hW.lst, WdAt.get (H := H) (a := a) (w := w) (r := r) (j := 1) rfl, x, rfl, hW.each x (by simp), ?_⟩
    refine ⟨_, rfl, a, _, _, _, rfl, rfl, SqL.of hW.lst, WdAt.get (H := H) (a := a) (w := w) (r := r) (j := 2) rfl, y, rfl, hW.each y (by simp), ?_⟩
    refine ⟨_, rfl, _, _, rfl, rfl, _, rfl, ?_⟩
    rcases numI_cases x with ⟨kx, hk1, hk2⟩ | ⟨hk1, hk2⟩
    case inr =>
      rw [hk2]
      refine iteT ?_
      refine iteT ?_
      exact bad (by rw [hk1]; rfl)
    case inl =>
    rw [hk2]
    refine ite2 (fun g => ?_) (fun g => ?_)
    · have g' := of_decide_eq_true g
      omega
    rw [hk1] at k bad
    refine ⟨_, rfl, _, _, rfl, rfl, _, rfl, ?_⟩
    refine ite2 (fun g => ?_) (fun g => ?_)
    · exact bad (by rw [timesIn_numI.1 (of_decide_eq_true g)]; rfl)
    have g1 : 1 ≤ numI y := by
      have : ¬ numI y < 1 := fun q => g (decide_eq_true q)
      omega
    obtain ⟨mt, hm1, hm2⟩ := timesIn_numI.2 g1
    rw [hm1] at k
    have k : Aft C o d w r i m H Q (stepO e i (some (if u0 = ascii "twist" then Line.twist kx mt else Line.cross kx mt))) := k
    rw [hm2]
    refine ⟨_, rfl, _, rfl, ?_⟩
    refine ⟨_, rfl, a, _, _, _, rfl, rfl, SqL.of hW.lst, WdAt.get (H := H) (a := a) (w := w) (r := r) (j := 0) rfl, rfl, _, rfl, ?_⟩
    refine ite2 (fun g => ?_) (fun g => ?_)
    · have hc : u0 = ascii "cross" := sw_eq.mp (V.str.inj (of_decide_eq_true g))
      rw [if_neg (by rw [hc]; decide), stepO_cross hi0] at k
      refine ⟨_, rfl, _, _, rfl, rfl, _, rfl, _, _, rfl, rfl, ?_⟩
      refine h5 _ mt (kx + 1) (.cross kx) (timesIn_le hm1) (fun q => ?_) (fun q => ?_)
      · rw [if_pos q] at k
        exact k H (Kep.refl _ _)
      · rw [if_neg q] at k
        exact k
    · have hc : u0 = ascii "twist" := by
        rcases hw0 with q | q
        · exact q
        · exact absurd (decide_eq_true (by rw [q]; decide +kernel)) g
      rw [if_pos hc, stepO_twist hi0] at k
      refine h5 _ mt kx (.twist kx) (timesIn_le hm1) (fun q => ?_) (fun q => ?_)
      · rw [if_pos q] at k
        exact k H (Kep.refl _ _)
      · rw [if_neg q] at k
        exact k
end
end Bt

end
section
set_option Elab.async false
set_option maxRecDepth 100000
set_option maxHeartbeats 2000000
set_option linter.all false
namespace Bt
open PySem PySem.Spec PyProof.Rows L2 Lcb
theorem cutV_drop {xs : List V} {i : Nat} : cutV xs (some (i : Int)) none = xs.drop i := by
  by_cases h : i ≤ xs.length
  · exact cutV_from h
  · unfold cutV
    rw [HT.sIx_none, HT.sIx_nat, Nat.min_eq_right (by omega), List.drop_eq_nil_of_le (Nat.le_refl _), List.drop_eq_nil_of_le (by omega : xs.length ≤ i), List.take_nil]
theorem paired_snoc_inv {α β : Type} {F : α → β → Prop} : ∀ {as : List α} {l : List β} {x : β}, Paired F as (l ++ [x]) → ∃ as' a, as = as' ++ [a] ∧ Paired F as' l ∧ F a x
  | [], l, x, h => by
    have := Paired.length h
    simp at this
  | a :: as, [], x, h => by
    cases h with
    | cons r t =>
      cases t
      exact ⟨[], a, rfl, .nil, r⟩
  | a :: as, y :: l, x, h => by
    cases h with
    | cons r t =>
      obtain ⟨as', a', rfl, h1, h2⟩ := paired_snoc_inv t
      exact ⟨a :: as', a', rfl, .cons r h1, h2⟩
theorem stepO_rep {e : Lcb.Env} {i : Nat} (hi : i ≠ 0) (m : Nat) : stepO e i (some (.repeat_ m)) = if DEEP ≤ e.deep then .error 4 else .ok ({ e with deep := e.deep + 1 }, [.rep m]) := by
  show (if i = 0 then _ else _) = _
  exact if_neg hi
theorem stepO_end {e : Lcb.Env} {i : Nat} (hi : i ≠ 0) : stepO e i (some .end_) = if e.deep = 0 then .error 4 else .ok ({ e with deep := e.deep - 1 }, [.end_]) := by
  show (if i = 0 then _ else _) = _
  exact if_neg hi
theorem rep_no {ws : List Bytes} (hh : ws.head? = some (ascii "repeat")) (hl : ws.length ≠ 2) : lineW ws = none := by
  match ws with
  | [] => cases hh
  | [w] =>
    have : w = ascii "repeat" := Option.some.inj hh
    subst this
    exact lineW_one (by decide)
  | [w, x] => exact absurd rfl hl
  | w :: x :: y :: r =>
    have : w = ascii "repeat" := Option.some.inj hh
    subst this
    rw [lineW_repeat, if_neg (by simp)]
theorem end_no {ws : List Bytes} (hh : ws.head? = some (ascii "end")) (hl : ws.length ≠ 1) : lineW ws = none := by
  match ws with
  | [] => cases hh
  | [w] => exact absurd rfl hl
  | w :: x :: r =>
    have : w = ascii "end" := Option.some.inj hh
    subst this
    exact lineW_end2 x r
theorem RdAt.reps {C : Addr} {H H' : Hp} {o d w r : Addr} {e : Lcb.Env} {m : M} {i dp : Nat} {stk : List (Nat × Nat)} (h : RdAt C H o d w r e m i) (k : Kep [r] H H') (hr : RpAt H' r stk) (hd : stk.length = dp) (h8 : dp ≤ 8) (hs : ∀ x ∈ stk, 1 ≤ x.2 ∧ x.2 ≤ 99999) : RdAt C H' o d w r { e with deep := dp } ⟨m.wk, stk⟩ i := by
  have hdN := h.hd
  have hoN := h.ho
  simp only [List.mem_cons, List.not_mem_nil, or_false, not_or] at hdN hoN
  have k' : ∀ b x, H b = some x → b ≠ r → H' b = some x := fun b x q n => k b x q (by simpa using n)
  refine ⟨?_, h.nm.same (fun b x q n => k' b x q (fun z => n (by rw [z]; simp))) h.hd, ?_, hr, h.ne, h.wl, hd, h8, hs⟩
  · obtain ⟨dx, q⟩ := h.ob
    exact ⟨dx, k' _ _ q hoN.2.2⟩
  · obtain ⟨as, q1, q2⟩ := h.wk
    obtain ⟨bs, q3, _⟩ := h.rp
    exact ⟨as, k' _ _ q1 h.ne, Paired.mapP q2 fun a x q => k' _ _ q (ne_of q q3 (by intro z; cases z))⟩
section
variable {P : Program} {w : World} {K : PySem.W.Frag} {mg : Str → Option Value} {base : Heap} {aW aL aO a1 a2 a3 a4 : Addr}
/-! ### read_repeat -/
def spRRep (C : Addr) (w0 : String) : Sp := fun vs H Q _ => ∃ (o d w r a : Addr) (e : Lcb.Env) (m : M) (i : Nat) (ws : List Bytes), vs = [.ref o, .ref a] ∧ RdAt C H o d w r e m i ∧ WdAt H a w r ws ∧ i ≠ 0 ∧ i ≤ 20000 ∧ ws.head? = some (ascii w0) ∧ Aft C o d w r i m H Q (stepO e i (lineW ws))
theorem scRRep : FnScope ["reading", "words", "times"] ["reading", "words"] (defScope sRRep) := ⟨rfl, rfl, rfl, by decide +kernel, rfl, by decide +kernel, by decide +kernel⟩
theorem ok_rrep {f C : Addr} {fd : FuncData} (F : Fun K "read_repeat" "read_repeat" sRRep f fd) (T : Tx P w K mg aW aL aO a1 a2 a3 a4) (R : Rc K mg C)
    (cNum : Cal P w K mg base "number_of" 1 ["word"] spNum) : FnOk P w K mg base CX0 2 f fd ["reading", "words"] (spRRep C "repeat") := by
  refine F.ok scRRep (fun vs H Q E h => ?_) (fun cdv A outer s H vs Q E hr h => ?_)
  · obtain ⟨o, d, w, r, a, e, m, i, ws, rfl, _⟩ := h
    rfl
  · obtain ⟨o, d, w, r, a, e, m, i, ws, rfl, hR, hW, hi0, hi, hhd, k⟩ := h
    obtain ⟨dx, ho⟩ := hR.ob
    have bad : lineW ws = none → Q (.int 1) H := fun q => by
      rw [q] at k
      exact k H (Kep.refl _ _)
    refine ⟨_, pss_cons (ps_if (pt_cmpR op_ne (pe_callB call_len_seq rfl T.len PySem.boot_len (pa_cons (pv 1) pa_nil)) pe_int (nomark _)) (pss_one (ps_ret (pe_gi T.noLine))) pss_nil)
      (pss_cons (ps_set (i := 2) scRRep.nd rfl (Or.inl rfl) (pe_cal cNum hr (pa_cons (pe_ix ix_list (pv 1) pe_int (fun _ _ => rfl)) pa_nil)))
      (pss_cons (ps_if (pt_cmpR op_lt (pv 2) pe_int (nomark _)) (pss_one (ps_ret (pe_gi T.noLine))) pss_nil)
      (pss_cons (ps_if (pt_cmpR op_eq (pe_callB call_len_seq rfl T.len PySem.boot_len (pa_cons (pe_fld (pv 0) rfl) pa_nil)) (pe_gi T.mostDeep) (nomark _)) (pss_one (ps_ret (pe_gi T.wrongRepeat))) pss_nil)
      (pss_cons (ps_expr (pe_bm PySem.F.plainAttrs_list PySem.F.slot_list_append PySem.F.type_list_append mt_append (pe_fld (pv 0) rfl) (pa_cons (pe_tup (pa_cons (pe_callB call_len_seq rfl T.len PySem.boot_len (pa_cons (pe_fld (pv 0) rfl) pa_nil)) (pa_cons (pv 2) pa_nil))) pa_nil)))
      (pss_one (ps_ret (pe_gi T.noFault))))))), ?_⟩
    refine ⟨_, rfl, a, _, rfl, .inl (SqL.of hW.lst), rfl, _, rfl, ?_⟩
    refine ite2 (fun g => ?_) (fun g => ?_)
    · have g' := nd_pos g
      refine bad (rep_no hhd fun q => g' ?_)
      rw [stv_len, q]; rfl
    have hl : ws.length = 2 := by
      have g' : (((stv ws).length : Nat) : Int) = 2 := V.int.inj (nd_neg g)
      rw [stv_len] at g'
      omega
    obtain ⟨u0, x, rfl⟩ : ∃ u0 x, ws = [u0, x] := by
      match ws, hl with
      | [u0, x], _ => exact ⟨u0, x, rfl⟩
    have e0 : u0 = ascii "repeat" := Option.some.inj hhd
    subst e0
    rw [lineW_repeat, if_pos rfl] at k bad
    refine ⟨_, rfl, a, _, _, _, rfl, rfl, SqL.of hW.lst, WdAt.get (H := H) (a := a) (w := w) (r := r) (j := 1) rfl, x, rfl, hW.each x (by simp), ?_⟩
    refine ⟨_, rfl, _, _, rfl, rfl, _, rfl, ?_⟩
    refine ite2 (fun g => ?_) (fun g => ?_)
    · exact bad (by rw [timesIn_numI.1 (of_decide_eq_true g)]; rfl)
    have g1 : 1 ≤ numI x := by
      have : ¬ numI x < 1 := fun q => g (decide_eq_true q)
      omega
    obtain ⟨mt, hm1, hm2⟩ := timesIn_numI.2 g1
    rw [hm1] at k
    have k : Aft C o d w r i m H Q (stepO e i (some (.repeat_ mt))) := k
    rw [stepO_rep hi0] at k
    rw [hm2]
    obtain ⟨cs, hr1, hr2⟩ := hR.rp
    have hcl : cs.length = e.deep := by rw [Paired.length hr2, List.length_reverse, hR.dp]
    refine ⟨_, rfl, o, C, dx, _, _, rfl, ho, R.cl, R.nR, flds_repeats _ _ _ _, r, _, rfl, .inl (SqL.of hr1), rfl, _, rfl, ?_⟩
    rw [List.length_map, hcl]
    refine ite2 (fun g => ?_) (fun g => ?_)
    · have g' : ((e.deep : Nat) : Int) = 8 := V.int.inj (of_decide_eq_true g)
      rw [if_pos (by show 8 ≤ e.deep; omega)] at k
      exact k H (Kep.refl _ _)
    have g2 : ¬ e.deep = 8 := fun q => g (decide_eq_true (by rw [q]; rfl))
    have h8 := hR.d8
    rw [if_neg (by show ¬ 8 ≤ e.deep; omega)] at k
    obtain ⟨as, hw1, hpa⟩ := hR.wk
    have hal : as.length = m.wk.length := Paired.length hpa
    refine ⟨_, rfl, o, C, dx, _, _, rfl, ho, R.cl, R.nR, flds_repeats _ _ _ _, .inl ⟨rfl, _, SqL.of hr1⟩, _, rfl, o, C, dx, _, _, rfl, ho, R.cl, R.nW, flds_worked _ _ _ _, w, _, rfl, .inl (SqL.of hw1), _, rfl, by show 2 ≤ sizeLine; decide, fun t ht => ?_⟩
    rw [List.length_map, hal]
    have s1 : Same H (upd H t (repV (m.wk.length, mt))) := Same.new ht
    have nrt : r ≠ t := ne_of_none hr1 ht
    refine ⟨r, _, _, rfl, rfl, s1 _ _ hr1, by rw [List.length_map, hcl]; exact Nat.lt_of_le_of_lt h8 (by decide), ?_⟩
    have k3 : Kep [r] H (upd (upd H t (repV (m.wk.length, mt))) r (.lst (cs.map V.ref ++ [.ref t]))) := fun b z q nb => by
      rw [upd_ne (by simpa using nb)]
      exact s1 _ _ q
    refine k _ ?_ (k3.mono (by intro c hc; simp at hc; subst hc; simp))
    show RdAt C _ o d w r { e with deep := e.deep + 1 } ⟨m.wk, (m.wk.length, mt) :: m.stk⟩ (i + 1)
    refine (hR.reps k3 ⟨cs ++ [t], by rw [upd_same, List.map_append]; rfl, ?_⟩ (by rw [List.length_cons, hR.dp]) (by omega) ?_).le (Nat.le_succ _)
    · rw [List.reverse_cons]
      refine Paired.snoc (Paired.mapP hr2 fun c z q => ?_) ?_
      · rw [upd_ne (ne_of q hr1 (by intro z; cases z))]
        exact s1 _ _ q
      · rw [upd_ne nrt.symm, upd_same]
    · intro z hz
      rcases List.mem_cons.mp hz with rfl | hz
      · exact ⟨timesIn_pos hm1, timesIn_le hm1⟩
      · exact hR.st z hz
/-! ### read_end -/
theorem scREnd : FnScope ["reading", "words", "repeat"] ["reading", "words"] (defScope sREnd) := ⟨rfl, rfl, rfl, by decide +kernel, rfl, by decide +kernel, by decide +kernel⟩
theorem ok_rend {f C : Addr} {fd : FuncData} (F : Fun K "read_end" "read_end" sREnd f fd) (T : Tx P w K mg aW aL aO a1 a2 a3 a4) (R : Rc K mg C)
    (cAdd : Cal P w K mg base "add_times" 1 ["acts", "more", "times"] spAdd) : FnOk P w K mg base CX0 2 f fd ["reading", "words"] (spRRep C "end") := by
  refine F.ok scREnd (fun vs H Q E h => ?_) (fun cdv A outer s H vs Q E hr h => ?_)
  · obtain ⟨o, d, w, r, a, e, m, i, ws, rfl, _⟩ := h
    rfl
  · obtain ⟨o, d, w, r, a, e, m, i, ws, rfl, hR, hW, hi0, hi, hhd, k⟩ := h
    obtain ⟨dx, ho⟩ := hR.ob
    have bad : lineW ws = none → Q (.int 1) H := fun q => by
      rw [q] at k
      exact k H (Kep.refl _ _)
    refine ⟨_, pss_cons (ps_if (pt_cmpR op_ne (pe_callB call_len_seq rfl T.len PySem.boot_len (pa_cons (pv 1) pa_nil)) pe_int (nomark _)) (pss_one (ps_ret (pe_gi T.noLine))) pss_nil)
      (pss_cons (ps_if (pt_cmpR op_eq (pe_callB call_len_seq rfl T.len PySem.boot_len (pa_cons (pe_fld (pv 0) rfl) pa_nil)) pe_int (nomark _)) (pss_one (ps_ret (pe_gi T.wrongRepeat))) pss_nil)
      (pss_cons (ps_set (i := 2) scREnd.nd rfl (Or.inl rfl) (pe_bm0 PySem.F.plainAttrs_list PySem.F.slot_list_pop PySem.F.type_list_pop mt_pop (pe_fld (pv 0) rfl)))
      (pss_cons (ps_expr (pe_cal cAdd hr (pa_cons (pe_fld (pv 0) rfl) (pa_cons (pe_slice sl_list (pe_fld (pv 0) rfl) (po_some (pe_ix ix_tup (pv 2) pe_int (fun _ _ => rfl))) po_none) (pa_cons (pe_op op_sub (pe_ix ix_tup (pv 2) pe_int (fun _ _ => rfl)) pe_int) pa_nil)))))
      (pss_one (ps_ret (pe_gi T.noFault)))))), ?_⟩
    refine ⟨_, rfl, a, _, rfl, .inl (SqL.of hW.lst), rfl, _, rfl, ?_⟩
    refine ite2 (fun g => ?_) (fun g => ?_)
    · have g' := nd_pos g
      refine bad (end_no hhd fun q => g' ?_)
      rw [stv_len, q]; rfl
    have hl : ws.length = 1 := by
      have g' : (((stv ws).length : Nat) : Int) = 1 := V.int.inj (nd_neg g)
      rw [stv_len] at g'
      omega
    obtain ⟨u0, rfl⟩ : ∃ u0, ws = [u0] := by
      match ws, hl with
      | [u0], _ => exact ⟨u0, rfl⟩
    have e0 : u0 = ascii "end" := Option.some.inj hhd
    subst e0
    have k : Aft C o d w r i m H Q (stepO e i (some .end_)) := k
    rw [stepO_end hi0] at k
    obtain ⟨cs, hr1, hr2⟩ := hR.rp
    have hcl : cs.length = e.deep := by rw [Paired.length hr2, List.length_reverse, hR.dp]
    refine ⟨_, rfl, o, C, dx, _, _, rfl, ho, R.cl, R.nR, flds_repeats _ _ _ _, r, _, rfl, .inl (SqL.of hr1), rfl, _, rfl, ?_⟩
    rw [List.length_map, hcl]
    refine ite2 (fun g => ?_) (fun g => ?_)
    · have g' : ((e.deep : Nat) : Int) = 0 := V.int.inj (of_decide_eq_true g)
      rw [if_pos (by omega)] at k
      exact k H (Kep.refl _ _)
    have g1 : ¬ e.deep = 0 := fun q => g (decide_eq_true (by rw [q]; rfl))
    rw [if_neg g1] at k
    obtain ⟨⟨n, mt⟩, stk, hstk⟩ : ∃ x stk, m.stk = x :: stk := by
      cases q : m.stk with
      | nil =>
        have := hR.dp
        rw [q] at this
        exact absurd this.symm g1
      | cons x stk => exact ⟨x, stk, rfl⟩
    rw [hstk, List.reverse_cons] at hr2
    obtain ⟨cs', c, rfl, hr3, hc⟩ := paired_snoc_inv hr2
    have hst := hR.st (n, mt) (by rw [hstk]; exact List.mem_cons_self)
    have hst : 1 ≤ mt ∧ mt ≤ 99999 := hst
    refine ⟨_, rfl, o, C, dx, _, _, rfl, ho, R.cl, R.nR, flds_repeats _ _ _ _, .inl ⟨rfl, _, SqL.of hr1⟩, r, _, .ref c, rfl, rfl, hr1, by simp, ?_⟩
    have edl : ((cs' ++ [c]).map V.ref).dropLast = cs'.map V.ref := by rw [List.map_append]; exact List.dropLast_concat
    rw [edl]
    have k1 : Kep [r] H (upd H r (.lst (cs'.map V.ref))) := fun b z q nb => by
      rw [upd_ne (by simpa using nb)]; exact q
    have hdp := hR.dp
    rw [hstk, List.length_cons] at hdp
    have h8 := hR.d8
    have hR1 := hR.reps (dp := e.deep - 1) (stk := stk) k1 ⟨cs', upd_same, Paired.mapP hr3 fun c z q => by rw [upd_ne (ne_of q hr1 (by intro z; cases z))]; exact q⟩ (by omega) (by omega) (fun z hz => hR.st z (by rw [hstk]; exact List.mem_cons_of_mem _ hz))
    have hc1 : upd H r (.lst (cs'.map V.ref)) c = some (repV (n, mt)) := by rw [upd_ne (ne_of hc hr1 (by intro z; cases z))]; exact hc
    obtain ⟨as, hw1, hpa⟩ := hR1.wk
    have hpa : Paired (fun (a : Addr) (x : Lcb.Act × Nat) => upd H r (.lst (cs'.map V.ref)) a = some (actV x)) as m.wk := hpa
    have hal : as.length = m.wk.length := Paired.length hpa
    obtain ⟨dx1, ho1⟩ := hR1.ob
    have at0 : atI [V.int (n : Int), .int (mt : Int)] 0 = some (.int (n : Int)) := atI_nat (j := 0) rfl
    have at1 : atI [V.int (n : Int), .int (mt : Int)] 1 = some (.int (mt : Int)) := atI_nat (j := 1) rfl
    refine ⟨_, rfl, o, C, dx1, _, _, rfl, ho1, R.cl, R.nW, flds_worked _ _ _ _, _, rfl, o, C, dx1, _, _, rfl, ho1, R.cl, R.nW, flds_worked _ _ _ _, _, rfl, c, _, _, _, rfl, rfl, SqT.of hc1, at0, _, rfl, w, _, rfl, SqL.of hw1, fun p hp => ?_⟩
    rw [cutV_drop]
    have s2 : Same (upd H r (.lst (cs'.map V.ref))) (upd (upd H r (.lst (cs'.map V.ref))) p (.lst ((as.map V.ref).drop n))) := Same.new hp
    have hR2 := hR1.same s2
    have hw2 := s2 _ _ hw1
    refine ⟨_, rfl, c, _, _, _, rfl, rfl, SqT.of (s2 _ _ hc1), at1, _, _, rfl, rfl, w, p, _, _, mt - 1, ?_, hw2, upd_same, by rw [List.length_map, hal]; exact hR.wl, ?_, by omega, fun H3 h3 kp => ?_⟩
    · rw [show ((mt - 1 : Nat) : Int) = (mt : Int) - 1 by omega]; rfl
    · rw [List.length_drop, List.length_map, hal]
      have := hR.wl
      omega
    have k3 : Kep [w] _ H3 := Kep.one kp
    refine k H3 ?_ ?_
    · have er : runOps m [.end_] = ⟨addM m.wk (m.wk.drop n) (mt - 1), stk⟩ := by
        show opStep m .end_ = _
        unfold opStep
        rw [hstk]
      show RdAt C H3 o d w r { e with deep := e.deep - 1 } (runOps m [.end_]) (i + 1)
      rw [er]
      refine (hR2.work k3 ?_ (addM_len _ _ _)).le (Nat.le_succ _)
      refine ⟨addM as (as.drop n) (mt - 1), by rw [h3, addM_map, List.map_drop], ?_⟩
      have hpa2 := Paired.mapP hpa fun c z q => s2 c (actV z) q
      refine Paired.mapP (paired_addM hpa2 (paired_drop n hpa2) (mt - 1)) fun c z q => ?_
      exact kp c _ q (ne_of q hw2 (by intro z; cases z))
    · refine Kep.trans (k1.mono (by intro c hc; simp at hc; subst hc; simp)) (Kep.trans (Kep.same s2) (k3.mono (by intro c hc; simp at hc; subst hc; simp)))
/-! ### read_line -/
def spRLine (C : Addr) : Sp := fun vs H Q _ => ∃ (o d w r a : Addr) (e : Lcb.Env) (m : M) (i : Nat) (ws : List Bytes), vs = [.ref o, .int i, .ref a] ∧ RdAt C H o d w r e m i ∧ WdAt H a w r ws ∧ i ≤ 20000 ∧ ws ≠ [] ∧ Aft C o d w r i m H Q (stepO e i (lineW ws))
theorem scRLine : FnScope ["reading", "line", "words"] ["reading", "line", "words"] (defScope sRLine) := ⟨rfl, rfl, rfl, by decide +kernel, rfl, by decide +kernel, by decide +kernel⟩
theorem ok_rline {f C : Addr} {fd : FuncData} (F : Fun K "read_line" "read_line" sRLine f fd) (T : Tx P w K mg aW aL aO a1 a2 a3 a4)
    (cPairs : Cal P w K mg base "read_pairs" 2 ["reading", "words"] (spRPairs C)) (cRLet : Cal P w K mg base "read_let" 4 ["reading", "words"] (spRLet C)) (cDo : Cal P w K mg base "read_do" 4 ["reading", "line", "words"] (spRDo C "do")) (cRow : Cal P w K mg base "read_row" 3 ["reading", "line", "words"] (spRDo C "row"))
    (cAct : Cal P w K mg base "read_act" 2 ["reading", "line", "words"] (spRAct C)) (cRep : Cal P w K mg base "read_repeat" 2 ["reading", "words"] (spRRep C "repeat")) (cEnd : Cal P w K mg base "read_end" 2 ["reading", "words"] (spRRep C "end")) :
    FnOk P w K mg base CX0 5 f fd ["reading", "line", "words"] (spRLine C) := by
  refine F.ok scRLine (fun vs H Q E h => ?_) (fun cdv A outer s H vs Q E hr h => ?_)
  · obtain ⟨o, d, w, r, a, e, m, i, ws, rfl, _⟩ := h
    rfl
  · obtain ⟨o, d, w, r, a, e, m, i, ws, rfl, hR, hW, hi, hne, k⟩ := h
    have hr2 := hr.mono (j := 2) (by decide)
    have hr3 := hr.mono (j := 3) (by decide)
    obtain ⟨w0, rs, rfl⟩ : ∃ w0 rs, ws = w0 :: rs := by
      cases ws with
      | nil => exact absurd rfl hne
      | cons a b => exact ⟨a, b, rfl⟩
    refine ⟨_, pss_cons (ps_if (pt_cmpR op_eq (pv 1) pe_int (nomark _)) (pss_one (ps_ret (pe_cal cPairs hr2 (pa_cons (pv 0) (pa_cons (pv 2) pa_nil))))) pss_nil)
      (pss_cons (ps_if (pt_cmpR op_eq (pe_ix ix_list (pv 2) pe_int (fun _ _ => rfl)) pe_str (nomark _)) (pss_one (ps_ret (pe_cal cRLet hr (pa_cons (pv 0) (pa_cons (pv 2) pa_nil))))) pss_nil)
      (pss_cons (ps_if (pt_cmpR op_eq (pe_ix ix_list (pv 2) pe_int (fun _ _ => rfl)) pe_str (nomark _)) (pss_one (ps_ret (pe_cal cDo hr (pa_cons (pv 0) (pa_cons (pv 1) (pa_cons (pv 2) pa_nil)))))) pss_nil)
      (pss_cons (ps_if (pt_cmpR op_eq (pe_ix ix_list (pv 2) pe_int (fun _ _ => rfl)) pe_str (nomark _)) (pss_one (ps_ret (pe_cal cRow hr3 (pa_cons (pv 0) (pa_cons (pv 1) (pa_cons (pv 2) pa_nil)))))) pss_nil)
      (pss_cons (ps_if (PW.pt (pw_or (pt_cmpR op_eq (pe_ix ix_list (pv 2) pe_int (fun _ _ => rfl)) pe_str (nomark _)) (pw_or1 (pt_cmpR op_eq (pe_ix ix_list (pv 2) pe_int (fun _ _ => rfl)) pe_str (nomark _))))) (pss_one (ps_ret (pe_cal cAct hr2 (pa_cons (pv 0) (pa_cons (pv 1) (pa_cons (pv 2) pa_nil)))))) pss_nil)
      (pss_cons (ps_if (pt_cmpR op_eq (pe_ix ix_list (pv 2) pe_int (fun _ _ => rfl)) pe_str (nomark _)) (pss_one (ps_ret (pe_cal cRep hr2 (pa_cons (pv 0) (pa_cons (pv 2) pa_nil))))) pss_nil)
      (pss_cons (ps_if (pt_cmpR op_eq (pe_ix ix_list (pv 2) pe_int (fun _ _ => rfl)) pe_str (nomark _)) (pss_one (ps_ret (pe_cal cEnd hr2 (pa_cons (pv 0) (pa_cons (pv 2) pa_nil))))) pss_nil)
      (pss_one (ps_ret (pe_gi T.noLine))))))))), ?_⟩
    have g0 : atI (stv (w0 :: rs)) 0 = some (.str (sw w0)) := WdAt.get (H := H) (a := a) (w := w) (r := r) (j := 0) rfl
    refine ⟨_, rfl, rfl, _, rfl, ?_⟩
    refine ite2 (fun g => ?_) (fun g => ?_)
    · have hi0 : i = 0 := by
        have : (i : Int) = 0 := V.int.inj (of_decide_eq_true g)
        omega
      subst hi0
      exact ⟨_, rfl, _, rfl, o, d, w, r, a, e, m, 0, _, rfl, hR, hW, k⟩
    have hi0 : i ≠ 0 := fun q => g (decide_eq_true (by rw [q]; rfl))
    refine ⟨_, rfl, a, _, _, _, rfl, rfl, SqL.of hW.lst, g0, rfl, _, rfl, ?_⟩
    refine ite2 (fun g => ?_) (fun g1 => ?_)
    · exact ⟨_, rfl, _, rfl, o, d, w, r, a, e, m, i, _, rfl, hR, hW, hi0, hi, by rw [sw_eq.mp (V.str.inj (of_decide_eq_true g))]; rfl, k⟩
    refine ⟨_, rfl, a, _, _, _, rfl, rfl, SqL.of hW.lst, g0, rfl, _, rfl, ?_⟩
    refine ite2 (fun g => ?_) (fun g2 => ?_)
    · exact ⟨_, rfl, _, rfl, _, rfl, o, d, w, r, a, e, m, i, _, rfl, hR, hW, hi0, hi, by rw [sw_eq.mp (V.str.inj (of_decide_eq_true g))]; rfl, k⟩
    refine ⟨_, rfl, a, _, _, _, rfl, rfl, SqL.of hW.lst, g0, rfl, _, rfl, ?_⟩
    refine ite2 (fun g => ?_) (fun g3 => ?_)
    · exact ⟨_, rfl, _, rfl, _, rfl, o, d, w, r, a, e, m, i, _, rfl, hR, hW, hi0, hi, by rw [sw_eq.mp (V.str.inj (of_decide_eq_true g))]; rfl, k⟩
    refine ⟨_, rfl, a, _, _, _, rfl, rfl, SqL.of hW.lst, g0, rfl, _, rfl, ?_⟩
    refine ite2 (fun g => ?_) (fun g4 => ?_)
    · refine iteT ?_
      exact ⟨_, rfl, _, rfl, _, rfl, o, d, w, r, a, e, m, i, _, w0, rfl, hR, hW, hi0, hi, .inl (sw_eq.mp (V.str.inj (of_decide_eq_true g))), rfl, k⟩
    refine ⟨_, rfl, a, _, _, _, rfl, rfl, SqL.of hW.lst, g0, rfl, _, rfl, ?_⟩
    refine ite2 (fun g => ?_) (fun g5 => ?_)
    · exact ⟨_, rfl, _, rfl, _, rfl, o, d, w, r, a, e, m, i, _, w0, rfl, hR, hW, hi0, hi, .inr (sw_eq.mp (V.str.inj (of_decide_eq_true g))), rfl, k⟩
    refine ⟨_, rfl, a, _, _, _, rfl, rfl, SqL.of hW.lst, g0, rfl, _, rfl, ?_⟩
    refine ite2 (fun g => ?_) (fun g6 => ?_)
    · exact ⟨_, rfl, _, rfl, o, d, w, r, a, e, m, i, _, rfl, hR, hW, hi0, hi, by rw [sw_eq.mp (V.str.inj (of_decide_eq_true g))]; rfl, k⟩
    refine ⟨_, rfl, a, _, _, _, rfl, rfl, SqL.of hW.lst, g0, rfl, _, rfl, ?_⟩
    refine ite2 (fun g => ?_) (fun g7 => ?_)
    · exact ⟨_, rfl, _, rfl, o, d, w, r, a, e, m, i, _, rfl, hR, hW, hi0, hi, by rw [sw_eq.mp (V.str.inj (of_decide_eq_true g))]; rfl, k⟩
    have no : ∀ {s : String}, ¬ decide (V.str (sw w0) = V.str (Str.ofString s)) = true → w0 ≠ ascii s := fun g q => g (decide_eq_true (by rw [sw_eq.mpr q]))
    rw [stepO_other e hi0 rs (no g1) (no g2) (no g3) (fun q => q.elim (no g4) (no g5)) (no g6) (no g7)] at k
    exact k H (Kep.refl _ _)
end
end Bt

end
section
set_option Elab.async false
set_option maxRecDepth 100000
set_option maxHeartbeats 2000000
set_option linter.all false
namespace Bt
open PySem PySem.Spec PyProof.Rows L2 Lcb
/-! ### cut at a sign -/
def spAt (s : Nat) : Bytes → List Bytes
  | [] => [[]]
  | c :: r => if c = s then [] :: spAt s r else match spAt s r with
    | [] => [[c]]
    | w :: l => (c :: w) :: l
theorem spAt_words : ∀ l : Bytes, spAt 32 l = wordsOf l
  | [] => rfl
  | c :: r => by
    unfold spAt Lcb.wordsOf
    rw [spAt_words r]
    by_cases h : c = 32
    · rw [if_pos h, if_pos h]
    · rw [if_neg h, if_neg h]
      cases Lcb.wordsOf r <;> rfl
theorem spAt_ne (s : Nat) (l : Bytes) : spAt s l ≠ [] := by
  cases l with
  | nil => simp [spAt]
  | cons c r =>
    unfold spAt
    by_cases h : c = s
    · rw [if_pos h]; simp
    · rw [if_neg h]
      cases spAt s r <;> simp
theorem spAt_lines : ∀ l : Bytes, spAt 10 l = (linesOf l).1 ++ [(linesOf l).2]
  | [] => rfl
  | c :: r => by
    have ih := spAt_lines r
    show (if c = 10 then [] :: spAt 10 r else match spAt 10 r with | [] => [[c]] | w :: l => (c :: w) :: l) = ((if c = 10 then ([] :: (linesOf r).1, (linesOf r).2) else match (linesOf r).1 with | [] => ([], c :: (linesOf r).2) | l :: m => ((c :: l) :: m, (linesOf r).2)) : List Bytes × Bytes).1 ++ [((if c = 10 then ([] :: (linesOf r).1, (linesOf r).2) else match (linesOf r).1 with | [] => ([], c :: (linesOf r).2) | l :: m => ((c :: l) :: m, (linesOf r).2)) : List Bytes × Bytes).2]
    rw [ih]
    by_cases h : c = 10
    · rw [if_pos h, if_pos h]; rfl
    · rw [if_neg h, if_neg h]
      cases (linesOf r).1 with
      | nil => rfl
      | cons l m => rfl
theorem spl_spAt (s : Nat) : ∀ (l acc : Bytes), TL.spl [s] 0 acc l = (match spAt s l with | [] => [acc] | w :: ws => (acc ++ w) :: ws)
  | [], acc => by
    rw [TL.spl_nil]
    show [acc] = [acc ++ []]
    rw [List.append_nil]
  | c :: r, acc => by
    by_cases h : c = s
    · have hp : TL.pre [s] (c :: r) = true := by
        unfold TL.pre
        show ([c] == [s]) = true
        rw [h]; simp
      rw [TL.spl_hit hp]
      show acc :: TL.spl [s] 0 [] r = _
      rw [spl_spAt s r []]
      show _ = (match (if c = s then [] :: spAt s r else match spAt s r with | [] => [[c]] | w :: l => (c :: w) :: l) with | [] => [acc] | w :: ws => (acc ++ w) :: ws)
      rw [if_pos h]
      show _ = (acc ++ []) :: spAt s r
      rw [List.append_nil]
      cases q : spAt s r with
      | nil => exact absurd q (spAt_ne s r)
      | cons w ws => rfl
    · rw [TL.spl_miss (TL.pre_of_head [] r h), spl_spAt s r (acc ++ [c])]
      show _ = (match (if c = s then [] :: spAt s r else match spAt s r with | [] => [[c]] | w :: l => (c :: w) :: l) with | [] => [acc] | w :: ws => (acc ++ w) :: ws)
      rw [if_neg h]
      cases q : spAt s r with
      | nil => exact absurd q (spAt_ne s r)
      | cons w ws =>
        show ((acc ++ [c]) ++ w) :: ws = (acc ++ (c :: w)) :: ws
        rw [List.append_assoc]; rfl
theorem split_at {s : Nat} {y : Str} (hy : TL.tl y = [s]) (hk : y.cps.all (· < 256) = true) (l : Bytes) : Txt.split (sw l) y = (spAt s l).map sw := by
  refine TL.map_tl_inj ?_
  rw [TL.split_spl _ y (by rw [hy]; simp) (TL.kind_ok hk), hy, List.map_map]
  show TL.spl [s] 0 [] l = (spAt s l).map (fun w => w)
  rw [spl_spAt, List.map_id']
  cases q : spAt s l with
  | nil => exact absurd q (spAt_ne s l)
  | cons w ws => rfl
theorem spAt_len (s : Nat) : ∀ l : Bytes, (spAt s l).length ≤ l.length + 1 ∧ ∀ w ∈ spAt s l, w.length ≤ l.length
  | [] => ⟨Nat.le_refl _, fun w hw => by simp [spAt] at hw; subst hw; exact Nat.le_refl _⟩
  | c :: r => by
    obtain ⟨h1, h2⟩ := spAt_len s r
    unfold spAt
    by_cases h : c = s
    · rw [if_pos h]
      refine ⟨by simp only [List.length_cons]; omega, fun w hw => ?_⟩
      rcases List.mem_cons.mp hw with rfl | hw
      · exact Nat.zero_le _
      · exact Nat.le_succ_of_le (h2 w hw)
    · rw [if_neg h]
      cases q : spAt s r with
      | nil => exact absurd q (spAt_ne s r)
      | cons v vs =>
        rw [q] at h1 h2
        refine ⟨by simp only [List.length_cons] at h1 ⊢; omega, fun w hw => ?_⟩
        have hw : w ∈ (c :: v) :: vs := hw
        rcases List.mem_cons.mp hw with rfl | hw
        · have := h2 v List.mem_cons_self
          simp only [List.length_cons]; omega
        · exact Nat.le_succ_of_le (h2 w (List.mem_cons_of_mem _ hw))
theorem joinL_nil : ∀ ps : List (List Nat), TL.joinL [] ps = ps.flatten
  | [] => rfl
  | [p] => by simp [TL.joinL]
  | p :: q :: r => by
    show p ++ ([] ++ TL.joinL [] (q :: r)) = _
    rw [joinL_nil (q :: r)]; simp
theorem join_signs (l : List Nat) : Txt.join "" (l.map fun c => sw [c]) = sw l := by
  refine TL.ext_tl ?_
  rw [TL.join_eq, TL.tl_join]
  have e : TL.tl "" = [] := by decide +kernel
  rw [e, joinL_nil, List.map_map]
  show (l.map fun c => [c]).flatten = l
  induction l with
  | nil => rfl
  | cons c l ih => rw [List.map_cons, List.flatten_cons, ih]; rfl
theorem stepO_kind {e : Lcb.Env} {i k : Nat} {o : Option Line} (h : stepO e i o = .error k) : k ≠ 0 := by
  match o with
  | none => cases h; decide
  | some (.pairs n) =>
    unfold stepO at h
    simp only at h
    split at h
    · cases h
    · cases h; decide
  | some (.let_ a ls) =>
    unfold stepO at h
    simp only at h
    split at h
    · cases h; decide
    · split at h
      · cases h; decide
      · split at h
        · cases h; decide
        · cases h
  | some (.do_ a ls) =>
    unfold stepO at h
    simp only at h
    split at h
    · cases h; decide
    · split at h
      · cases h; decide
      · split at h
        · cases h; decide
        · cases h
  | some (.row a ls) =>
    unfold stepO at h
    simp only at h
    split at h
    · cases h; decide
    · split at h
      · cases h; decide
      · split at h
        · cases h; decide
        · cases h
  | some (.twist a ls) =>
    unfold stepO at h
    simp only at h
    split at h
    · cases h; decide
    · split at h
      · cases h; decide
      · cases h
  | some (.cross a ls) =>
    unfold stepO at h
    simp only at h
    split at h
    · cases h; decide
    · split at h
      · cases h; decide
      · cases h
  | some (.repeat_ ls) =>
    unfold stepO at h
    simp only at h
    split at h
    · cases h; decide
    · split at h
      · cases h; decide
      · cases h
  | some .end_ =>
    unfold stepO at h
    simp only at h
    split at h
    · cases h; decide
    · split at h
      · cases h; decide
      · cases h
/-- the lines so far and one more -/
theorem steps_snoc {ls : List Bytes} {j : Nat} {b : Bytes} {e : Lcb.Env} {l : List Lcb.Op} (hb : ls[j]? = some b) (h : stepLines ⟨0, [], 0⟩ 0 (ls.take j) = .ok (e, l)) :
    (∀ k, stepO e j (lineW (wordsOf b)) = .error k → stepLines ⟨0, [], 0⟩ 0 ls = .error ⟨k, j⟩) ∧ ∀ x, stepO e j (lineW (wordsOf b)) = .ok x → stepLines ⟨0, [], 0⟩ 0 (ls.take (j + 1)) = .ok (x.1, l ++ x.2) := by
  have hjl : j < ls.length := (List.getElem?_eq_some_iff.mp hb).1
  have et : ls.take (j + 1) = ls.take j ++ [b] := by rw [List.take_add_one, hb]; rfl
  have hl : (ls.take j).length = j := by rw [List.length_take]; omega
  refine ⟨fun k hk => ?_, fun x hx => ?_⟩
  · rw [← List.take_append_drop (j + 1) ls, stepLines_append, et, stepLines_append, h]
    simp only [hl, Nat.zero_add, stepLines_one, stepLine_eq, hk]
  · rw [et, stepLines_append, h]
    simp only [hl, Nat.zero_add, stepLines_one, stepLine_eq, hx]
end Bt

end
section
set_option Elab.async false
set_option maxRecDepth 100000
set_option maxHeartbeats 4000000
set_option linter.all false
namespace Bt
open PySem PySem.Spec PyProof.Rows L2 Lcb
theorem int_get {ns : List Int} {j : Nat} {y : V} (h : (ns.map V.int)[j]? = some y) : ∃ z, ns[j]? = some z ∧ y = .int z := by
  rw [List.getElem?_map] at h
  cases e : ns[j]? with
  | none => rw [e] at h; cases h
  | some a => rw [e] at h; exact ⟨a, rfl, (Option.some.inj h).symm⟩
theorem sum_ones : ∀ ns : List Int, (ns.map fun _ => 1).sum = ns.length
  | [] => rfl
  | x :: r => by rw [List.map_cons, List.sum_cons, sum_ones r, List.length_cons]; omega
theorem told_err {z : List Bytes × Bytes} {k j : Nat} (h : stepLines ⟨0, [], 0⟩ 0 z.1 = .error ⟨k, j⟩) : told z = [-5, (k : Int), (j : Int)] := by
  unfold told
  rw [h]
theorem told_rest {z : List Bytes × Bytes} {e : Lcb.Env} {l : List Lcb.Op} (h : stepLines ⟨0, [], 0⟩ 0 z.1 = .ok (e, l)) (hz : z.2 ≠ [] ∨ z.1 = []) : told z = [-5, 1, (z.1.length : Int)] := by
  unfold told
  rw [h]
  simp only
  rw [if_pos hz]
theorem told_open {z : List Bytes × Bytes} {e : Lcb.Env} {l : List Lcb.Op} (h : stepLines ⟨0, [], 0⟩ 0 z.1 = .ok (e, l)) (hz : ¬ (z.2 ≠ [] ∨ z.1 = [])) (hd : e.deep ≠ 0) : told z = [-5, 4, (z.1.length : Int)] := by
  unfold told
  rw [h]
  simp only
  rw [if_neg hz, if_pos hd]
theorem told_many {z : List Bytes × Bytes} {e : Lcb.Env} {l : List Lcb.Op} {x : Lcb.Act × Nat} (h : stepLines ⟨0, [], 0⟩ 0 z.1 = .ok (e, l)) (hz : ¬ (z.2 ≠ [] ∨ z.1 = [])) (hd : ¬ e.deep ≠ 0) (hx : (runOps ⟨[], []⟩ l).wk[4096]? = some x) : told z = [-5, 5, (x.2 : Int)] := by
  unfold told
  rw [h]
  simp only
  rw [if_neg hz, if_neg hd, hx]
theorem told_all {z : List Bytes × Bytes} {e : Lcb.Env} {l : List Lcb.Op} (h : stepLines ⟨0, [], 0⟩ 0 z.1 = .ok (e, l)) (hz : ¬ (z.2 ≠ [] ∨ z.1 = [])) (hd : ¬ e.deep ≠ 0) (hx : (runOps ⟨[], []⟩ l).wk[4096]? = none) : told z = 0 :: (e.n : Int) :: (runOps ⟨[], []⟩ l).wk.map fun x => (x.1.code : Int) := by
  unfold told
  rw [h]
  simp only
  rw [if_neg hz, if_neg hd, hx]
section
variable {P : Program} {w : World} {K : PySem.W.Frag} {mg : Str → Option Value} {base : Heap} {aW aL aO a1 a2 a3 a4 : Addr}
/-! ### read -/
def spRead (K : PySem.W.Frag) : Sp := fun vs H Q _ => ∃ (a : Addr) (ns : List Int), vs = [.ref a] ∧ SqL K H a (ns.map V.int) ∧ ns.length ≤ 17000 ∧ (∀ x ∈ ns, 0 ≤ x ∧ x ≤ 255) ∧ ∀ (H' : Hp) (p : Addr), H' p = some (.lst ((PyWqamch.read ns).map V.int)) → Q (.ref p) H'
theorem scRead : FnScope ["t", "lines", "rest", "reading", "line", "kind", "byte", "entry"] ["t"] (defScope sRead) := ⟨rfl, rfl, rfl, by decide +kernel, rfl, by decide +kernel, by decide +kernel⟩
theorem ok_read {f C fI : Addr} {fd fdI : FuncData} (F : Fun K "read" "read" sRead f fd) (T : Tx P w K mg aW aL aO a1 a2 a3 a4) (R : Rc K mg C) (hC : mg "Reading" = some (.ref C))
    (MK : Mk K C fI) (GI : FnOk P w K mg base CX0 1 fI fdI ["self"] (spInit C)) (bI : Binds K fdI ["self"] [])
    (cSign : Cal P w K mg base "sign_of" 1 ["byte"] spSign) (cLine : Cal P w K mg base "read_line" 5 ["reading", "line", "words"] (spRLine C)) :
    FnOk P w K mg base CX0 6 f fd ["t"] (spRead K) := by
  refine F.ok scRead (fun vs H Q E h => ?_) (fun cdv A outer s H vs Q E hr h => ?_)
  · obtain ⟨a, ns, rfl, _⟩ := h
    rfl
  · obtain ⟨a, ns, rfl, hS, hlen, hns, k⟩ := h
    have hr1 := hr.mono (j := 1) (by decide)
    have hr2 := hr.mono (j := 2) (by decide)
    refine ⟨_, pss_cons (ps_if (pt_cmpR op_gt (pe_callB call_len_seq rfl T.len PySem.boot_len (pa_cons (pv 0) pa_nil)) (pe_gi T.mostBytes) (nomark _)) (pss_one (ps_ret (pe_lst (pa_cons (pe_gi T.fault) (pa_cons (pe_gi T.noLine) (pa_cons pe_int pa_nil)))))) pss_nil)
      (pss_cons (ps_set (i := 1) scRead.nd rfl (Or.inl rfl) (pe_split (pe_join pe_str (pe_lc rfl scRead.nd (pi_list (pv 0)) (own := [("byte", 6)]) (blkOk_by rfl) (fun _ _ _ _ _ => pg_name (i := 6) scRead.nd rfl (Or.inl rfl)) (fun _ _ _ _ _ => pts_nil) (fun _ _ _ _ _ => pe_cal cSign hr1 (pa_cons (pv 6) pa_nil)))) pe_str))
      (pss_cons (ps_set (i := 2) scRead.nd rfl (Or.inl rfl) (pe_bm0 PySem.F.plainAttrs_list PySem.F.slot_list_pop PySem.F.type_list_pop mt_pop (pv 1)))
      (pss_cons (ps_set (i := 3) scRead.nd rfl (Or.inl rfl) (pe_make0 MK GI hr2 rfl hC bI .nil pass0))
      (pss_cons (ps_for PassesOwn.never rfl (pi_range1 rfl T.range (pa_cons (pe_callB call_len_seq rfl T.len PySem.boot_len (pa_cons (pv 1) pa_nil)) pa_nil)) (pg_name (i := 4) scRead.nd rfl (Or.inl rfl))
        (pss_cons (ps_set (i := 5) scRead.nd rfl (Or.inl rfl) (pe_cal cLine hr (pa_cons (pv 3) (pa_cons (pv 4) (pa_cons (pe_split (pe_ix ix_list (pv 1) (pv 4) (fun _ _ => rfl)) pe_str) pa_nil)))))
        (pss_one (ps_if (pt_cmpR op_ne (pv 5) (pe_gi T.noFault) (nomark _)) (pss_one (ps_ret (pe_lst (pa_cons (pe_gi T.fault) (pa_cons (pv 5) (pa_cons (pv 4) pa_nil)))))) pss_nil))))
      (pss_cons (ps_if (PW.pt (pw_or (pt_cmpR op_ne (pv 2) pe_str (nomark _)) (pw_or1 (pt_cmpR op_eq (pe_callB call_len_seq rfl T.len PySem.boot_len (pa_cons (pv 1) pa_nil)) pe_int (nomark _))))) (pss_one (ps_ret (pe_lst (pa_cons (pe_gi T.fault) (pa_cons (pe_gi T.noLine) (pa_cons (pe_callB call_len_seq rfl T.len PySem.boot_len (pa_cons (pv 1) pa_nil)) pa_nil)))))) pss_nil)
      (pss_cons (ps_if (pt_cmpR op_gt (pe_callB call_len_seq rfl T.len PySem.boot_len (pa_cons (pe_fld (pv 3) rfl) pa_nil)) pe_int (nomark _)) (pss_one (ps_ret (pe_lst (pa_cons (pe_gi T.fault) (pa_cons (pe_gi T.wrongRepeat) (pa_cons (pe_callB call_len_seq rfl T.len PySem.boot_len (pa_cons (pv 1) pa_nil)) pa_nil)))))) pss_nil)
      (pss_cons (ps_if (pt_cmpR op_gt (pe_callB call_len_seq rfl T.len PySem.boot_len (pa_cons (pe_fld (pv 3) rfl) pa_nil)) (pe_gi T.mostActs) (nomark _)) (pss_one (ps_ret (pe_lst (pa_cons (pe_gi T.fault) (pa_cons (pe_gi T.tooMany) (pa_cons (pe_ix ix_tup (pe_ix ix_list (pe_fld (pv 3) rfl) (pe_gi T.mostActs) (fun _ _ => rfl)) pe_int (fun _ _ => rfl)) pa_nil)))))) pss_nil)
      (pss_one (ps_ret (pe_op op_cat (pe_lst (pa_cons pe_int (pa_cons (pe_fld (pv 3) rfl) pa_nil))) (pe_lc rfl scRead.nd (pi_list (pe_fld (pv 3) rfl)) (own := [("entry", 7)]) (blkOk_by rfl) (fun _ _ _ _ _ => pg_name (i := 7) scRead.nd rfl (Or.inl rfl)) (fun _ _ _ _ _ => pts_nil) (fun _ _ _ _ _ => pe_ix (r := rIxT K) ix_tup (pv 7) pe_int (fun _ _ => rfl))))))))))))), ?_⟩
    refine ⟨_, rfl, a, _, rfl, .inl hS, _, _, rfl, rfl, _, rfl, ?_⟩
    rw [List.length_map]
    refine ite2 (fun g => ?_) (fun g => ?_)
    · have g' := of_decide_eq_true g
      refine ⟨by show 3 ≤ sizeLine; decide, fun p hp => k _ p ?_⟩
      rw [read_long (by omega)]
      exact upd_same
    have h16 : ns.length ≤ 16384 := by
      have : ¬ (16384 : Int) < (ns.length : Int) := fun q => g (decide_eq_true q)
      omega
    rw [read_told h16] at k
    generalize hu : (ns.map Int.toNat).map sgn = u at k
    have hul : u.length ≤ 16384 := by rw [← hu, List.length_map, List.length_map]; exact h16
    -- the signs
    refine ⟨⟨_, rfl⟩, _, rfl, a, rfl, ⟨_, hS⟩, fun D hD => ?_⟩
    refine lc_list (K := K) (a := a) (xs := ns.map V.int) (fun j H' => H' D = some (.lst (((ns.take j).map fun z => sw [sgn z.toNat]).map V.str)) ∧ Same H H')
      ⟨upd_same, Same.new hD⟩ (fun j H' _ ⟨_, s1⟩ => s1.seq hS) ?_ ?_
    · rintro j y H' hj ⟨h1, s1⟩
      obtain ⟨z, hz, rfl⟩ := int_get hj
      obtain ⟨z0, z1⟩ := hns z (List.mem_of_getElem? hz)
      refine ⟨rfl, ?_⟩
      refine ⟨_, rfl, z.toNat, by rw [Int.toNat_of_nonneg z0]; rfl, by omega, _, h1, ?_, ?_, ?_⟩
      · rw [List.length_map, List.length_map, List.length_take]
        exact Nat.lt_of_le_of_lt (Nat.le_trans (Nat.min_le_right _ _) h16) (by decide)
      · rw [upd_same, List.take_add_one, hz, List.map_append, List.map_append]; rfl
      · intro b o e
        rw [upd_ne (ne_of_none e hD)]
        exact s1 _ _ e
    rintro H1 ⟨h1, s1⟩
    rw [List.length_map, List.take_length] at h1
    have ej : Txt.join "" (ns.map fun z => sw [sgn z.toNat]) = sw u := by
      rw [← hu, ← join_signs, List.map_map, List.map_map]
      rfl
    refine ⟨_, D, ns.map (fun z => sw [sgn z.toNat]), rfl, rfl, .inl (SqL.of h1), ?_, ?_⟩
    · have e1 : (ns.map fun z => sw [sgn z.toNat]).map (·.length) = ns.map fun _ => 1 := by
        rw [List.map_map]
        apply List.map_congr_left
        intro z _
        exact sw_len [sgn z.toNat]
      have e2 : (ns.map fun _ => 1).sum = ns.length := sum_ones ns
      rw [e1, e2, List.length_map]
      have e3 : Str.length "" = 0 := by decide +kernel
      rw [e3, Nat.mul_zero]
      omega
    rw [ej]
    refine ⟨⟨_, rfl⟩, _, _, rfl, rfl, by decide +kernel, by rw [sw_len]; exact Nat.le_trans (Nat.add_le_add_right hul 2) (by decide), fun L hL => ?_⟩
    have es : Txt.split (sw u) "\n" = (spAt 10 u).map sw := split_at (by decide +kernel) (by decide +kernel) u
    rw [es, spAt_lines u]
    have hsl := spAt_len 10 u
    rw [spAt_lines u] at hsl
    generalize hz : linesOf u = zz at k hsl
    obtain ⟨ls, rest⟩ := zz
    simp only at hsl ⊢
    have hll : ls.length ≤ 16384 := by
      have := hsl.1
      rw [List.length_append] at this
      simp only [List.length_cons, List.length_nil] at this
      omega
    have hlb : ∀ b ∈ ls, b.length ≤ 16384 := fun b hb => Nat.le_trans (hsl.2 b (List.mem_append_left _ hb)) hul
    -- rest = lines.pop()
    refine ⟨_, rfl, .inl ⟨rfl, _, SqL.of upd_same⟩, L, _, .str (sw rest), rfl, rfl, upd_same, by simp, ?_⟩
    have ed : (((ls ++ [rest]).map sw).map V.str).dropLast = stv ls := by
      rw [List.map_append, List.map_append, List.map_map]
      exact List.dropLast_concat
    rw [ed, upd_upd]
    -- reading = Reading()
    intro o dx no ndx nex
    refine ⟨o, dx, rfl, upd_same, fun H3 d w r hd hw hr' n1 n2 n3 hob hd3 hw3 hr3 kp => ⟨rfl, ?_⟩⟩
    have hL2 : upd H1 L (.lst (stv ls)) L = some (.lst (stv ls)) := upd_same
    have nLo : L ≠ o := ne_of_none hL2 no
    have nLdx : L ≠ dx := ne_of_none hL2 ndx
    have hLi : upd (upd (upd H1 L (.lst (stv ls))) dx (.own o)) o (.ins C dx []) L = some (.lst (stv ls)) := by rw [upd_ne nLo, upd_ne nLdx]; exact hL2
    have hL3 : H3 L = some (.lst (stv ls)) := kp _ _ hLi nLo
    have nLd : L ≠ d := ne_of_none hLi hd
    have nLw : L ≠ w := ne_of_none hLi hw
    have nLr : L ≠ r := ne_of_none hLi hr'
    have nLall : L ∉ [o, d, w, r] := by simp [nLo, nLd, nLw, nLr]
    -- for line in range(len(lines))
    refine ⟨_, rfl, L, _, rfl, .inl (SqL.of hL3), _, rfl, by omega, by rw [stv_len]; omega, ?_⟩
    rw [Int.toNat_natCast, stv_len]
    refine for_range (lo := 0) (n := ls.length) (fun j σ H' => ∃ (v4 v5 : Option V) (e : Lcb.Env) (l : List Lcb.Op), σ = [some (.ref a), some (.ref L), some (.str (sw rest)), some (.ref o), v4, v5, none, none] ∧ stepLines ⟨0, [], 0⟩ 0 (ls.take j) = .ok (e, l) ∧ RdAt C H' o d w r e (runOps ⟨[], []⟩ l) j ∧ H' L = some (.lst (stv ls)))
      ⟨none, none, ⟨0, [], 0⟩, [], rfl, rfl, ⟨hob, ⟨[], hd3, Nat.zero_le _, fun b => ⟨fun _ => rfl, fun s z => (by cases z)⟩⟩, ⟨[], hw3, .nil⟩, ⟨[], hr3, .nil⟩, n3, Nat.zero_le _, rfl, Nat.zero_le _, fun x hx => by cases hx⟩, hL3⟩ ?_ ?_
    · rintro j σ H' hj ⟨v4, v5, e, l, rfl, hst, hR, hL'⟩
      obtain ⟨b, hb⟩ : ∃ b, ls[j]? = some b := ⟨_, List.getElem?_eq_getElem hj⟩
      have hbl := hlb b (List.mem_of_getElem? hb)
      obtain ⟨q1, q2⟩ := steps_snoc hb hst
      rw [Int.zero_add]
      refine ⟨_, rfl, _, rfl, _, rfl, _, rfl, L, _, _, _, rfl, rfl, SqL.of hL', WdAt.get (H := H) (a := a) (w := w) (r := r) hb, ⟨_, rfl⟩, _, _, rfl, rfl, by decide +kernel, by rw [sw_len]; exact Nat.le_trans (Nat.add_le_add_right hbl 2) (by decide), fun p hp => ?_⟩
      have es2 : Txt.split (sw b) " " = (spAt 32 b).map sw := split_at (by decide +kernel) (by decide +kernel) b
      have hwl := spAt_len 32 b
      rw [spAt_words] at es2 hwl
      rw [es2, List.map_map]
      have s2 : Same H' (upd H' p (.lst (stv (wordsOf b)))) := Same.new hp
      obtain ⟨as, hw1, _⟩ := hR.wk
      obtain ⟨cs, hr1', _⟩ := hR.rp
      refine ⟨o, d, w, r, p, e, _, j, wordsOf b, rfl, hR.same s2, ⟨upd_same, (ne_of_none hw1 hp).symm, (ne_of_none hr1' hp).symm, by omega, fun c hc => Nat.le_trans (hwl.2 c hc) (by omega)⟩, by omega, wordsOf_ne b, ?_⟩
      cases hres : stepO e j (lineW (wordsOf b)) with
      | error kk =>
        intro H4 kp4
        refine ⟨_, rfl, rfl, _, rfl, ?_⟩
        refine ite2 (fun g => ?_) (fun g => ?_)
        · refine ⟨_, rfl, _, rfl, by show 3 ≤ sizeLine; decide, fun q hq => k _ q ?_⟩
          rw [told_err (z := (ls, rest)) (q1 kk hres)]
          exact upd_same
        · have : (kk : Int) = 0 := V.int.inj (nd_neg g)
          exact absurd (by omega) (stepO_kind hres)
      | ok x =>
        intro H4 hR4 kp4
        refine ⟨_, rfl, rfl, _, rfl, ?_⟩
        refine ite2 (fun g => ?_) (fun g => ?_)
        · exact absurd rfl (nd_pos g)
        · exact ⟨_, _, x.1, l ++ x.2, rfl, q2 x hres, by rw [runOps_append]; exact hR4, kp4 _ _ (s2 _ _ hL') nLall⟩
    rintro σ H' ⟨v4, v5, e, l, rfl, hst, hR, hL'⟩
    rw [List.take_length] at hst
    obtain ⟨dx', ho⟩ := hR.ob
    obtain ⟨as, hw1, hpa⟩ := hR.wk
    obtain ⟨cs, hr1', hr2'⟩ := hR.rp
    have hal : as.length = (runOps ⟨[], []⟩ l).wk.length := Paired.length hpa
    have hcl : cs.length = e.deep := by rw [Paired.length hr2', List.length_reverse, hR.dp]
    -- rest, lines
    refine ⟨_, rfl, rfl, _, rfl, ?_⟩
    refine ite2 (fun g => ?_) (fun g => ?_)
    · refine iteT ?_
      have g' : rest ≠ [] := fun q => nd_pos g (by rw [q]; decide +kernel)
      refine ⟨_, rfl, L, _, rfl, .inl (SqL.of hL'), by show 3 ≤ sizeLine; decide, fun q hq => k _ q ?_⟩
      rw [told_rest (z := (ls, rest)) hst (.inl g'), stv_len]
      exact upd_same
    have hrest : rest = [] := (sw_eq (s := "")).mp (V.str.inj (nd_neg g))
    refine ⟨_, rfl, L, _, rfl, .inl (SqL.of hL'), rfl, _, rfl, ?_⟩
    rw [stv_len]
    refine ite2 (fun g => ?_) (fun g => ?_)
    · have g' : (ls.length : Int) = 0 := V.int.inj (of_decide_eq_true g)
      have g2 : ls = [] := List.length_eq_zero_iff.mp (by omega)
      refine ⟨_, rfl, L, _, rfl, .inl (SqL.of hL'), by show 3 ≤ sizeLine; decide, fun q hq => k _ q ?_⟩
      rw [told_rest (z := (ls, rest)) hst (.inr g2), stv_len]
      exact upd_same
    have hz0 : ¬ (((ls, rest) : List Bytes × Bytes).2 ≠ [] ∨ ((ls, rest) : List Bytes × Bytes).1 = []) := by
      rintro (q | q)
      · exact q hrest
      · have q : ls = [] := q
        exact g (decide_eq_true (by rw [q]; rfl))
    -- repeats
    refine ⟨_, rfl, o, C, dx', _, _, rfl, ho, R.cl, R.nR, flds_repeats _ _ _ _, r, _, rfl, .inl (SqL.of hr1'), _, _, rfl, rfl, _, rfl, ?_⟩
    rw [List.length_map, hcl]
    refine ite2 (fun g => ?_) (fun g => ?_)
    · have g' := of_decide_eq_true g
      refine ⟨_, rfl, L, _, rfl, .inl (SqL.of hL'), by show 3 ≤ sizeLine; decide, fun q hq => k _ q ?_⟩
      rw [told_open (z := (ls, rest)) hst hz0 (by omega), stv_len]
      exact upd_same
    have hdp : ¬ e.deep ≠ 0 := fun q => g (decide_eq_true (by omega))
    -- too many
    refine ⟨_, rfl, o, C, dx', _, _, rfl, ho, R.cl, R.nW, flds_worked _ _ _ _, w, _, rfl, .inl (SqL.of hw1), _, _, rfl, rfl, _, rfl, ?_⟩
    rw [List.length_map, hal]
    refine ite2 (fun g => ?_) (fun g => ?_)
    · have g' := of_decide_eq_true g
      obtain ⟨c, hc⟩ : ∃ c, as[4096]? = some c := ⟨_, List.getElem?_eq_getElem (by omega)⟩
      obtain ⟨x, hx, hcx⟩ := paired_get hpa hc
      have at1 : atI [V.int (x.1.code : Int), .int (x.2 : Int)] 1 = some (.int (x.2 : Int)) := atI_nat (j := 1) rfl
      have atW : atI (as.map V.ref) 4096 = some (.ref c) := atI_nat (j := 4096) (by rw [List.getElem?_map, hc]; rfl)
      refine ⟨_, rfl, o, C, dx', _, _, rfl, ho, R.cl, R.nW, flds_worked _ _ _ _, w, _, _, _, rfl, rfl, SqL.of hw1, atW, c, _, _, _, rfl, rfl, SqT.of hcx, at1, by show 3 ≤ sizeLine; decide, fun q hq => k _ q ?_⟩
      rw [told_many (z := (ls, rest)) hst hz0 hdp hx]
      exact upd_same
    have hfew : (runOps ⟨[], []⟩ l).wk.length ≤ 4096 := by
      have : ¬ (4096 : Int) < ((runOps ⟨[], []⟩ l).wk.length : Int) := fun q => g (decide_eq_true q)
      omega
    rw [told_all (z := (ls, rest)) hst hz0 hdp (List.getElem?_eq_none hfew)] at k
    -- the answer
    refine ⟨_, rfl, o, C, dx', _, _, rfl, ho, R.cl, R.nP, flds_pairs _ _ _ _, by show 2 ≤ sizeLine; decide, fun q hq => ?_⟩
    have s5 : Same H' (upd H' q (.lst [.int 0, .int (e.n : Int)])) := Same.new hq
    refine ⟨_, rfl, o, C, dx', _, _, rfl, s5 _ _ ho, R.cl, R.nW, flds_worked _ _ _ _, w, rfl, ⟨_, SqL.of (s5 _ _ hw1)⟩, fun D2 hD2 => ?_⟩
    refine lc_list (K := K) (a := w) (xs := as.map V.ref) (fun j H6 => H6 D2 = some (.lst ((((runOps ⟨[], []⟩ l).wk.take j).map fun x => (x.1.code : Int)).map V.int)) ∧ Same (upd H' q (.lst [.int 0, .int (e.n : Int)])) H6)
      ⟨upd_same, Same.new hD2⟩ (fun j H6 _ ⟨_, s6⟩ => SqL.of (s6 _ _ (s5 _ _ hw1))) ?_ ?_
    · rintro j y H6 hj ⟨h6, s6⟩
      obtain ⟨c, hc, rfl⟩ := refs_get hj
      obtain ⟨x, hx, hcx⟩ := paired_get hpa hc
      have at0 : atI [V.int (x.1.code : Int), .int (x.2 : Int)] 0 = some (.int (x.1.code : Int)) := atI_nat (j := 0) rfl
      refine ⟨rfl, ?_⟩
      refine ⟨_, rfl, c, _, _, _, rfl, rfl, SqT.of (s6 _ _ (s5 _ _ hcx)), at0, _, h6, ?_, ?_, ?_⟩
      · rw [List.length_map, List.length_map, List.length_take]
        exact Nat.lt_of_le_of_lt (Nat.le_trans (Nat.min_le_right _ _) hfew) (by decide)
      · rw [upd_same, List.take_add_one, hx, List.map_append, List.map_append]; rfl
      · intro b o e
        rw [upd_ne (ne_of_none e hD2)]
        exact s6 _ _ e
    · rintro H6 ⟨h6, s6⟩
      rw [List.length_map, hal, List.take_length] at h6
      refine ⟨q, D2, _, _, rfl, rfl, s6 _ _ upd_same, h6, ?_, fun p hp => k _ p ?_⟩
      · rw [List.length_map, List.length_map]
        show 2 + _ ≤ sizeLine
        exact Nat.le_trans (Nat.add_le_add_left hfew 2) (by decide)
      · exact upd_same
end
end Bt

end
section
set_option Elab.async false
set_option maxRecDepth 100000
set_option maxHeartbeats 4000000
set_option linter.all false
namespace Bt
open PySem PySem.Spec PyProof.Rows L2 Lcb
/-! ### what the top has written -/
theorem tup_mk {K : PySem.W.Frag} {a : Addr} {od : Option Addr} {its : Array Value} {n : Nat} {sl : Array (Option Value)} {xs : List V} (l : K.lookup a = some ⟨.type "tuple", od, .seq its n, sl⟩) (hz : its.size ≤ sizeLine) (hv : Vals xs its.toList) : TupK K a xs := ⟨_, its, n, l, rfl, rfl, hz, hv⟩
theorem lettersD_mk {P : Program} {w : World} {K : PySem.W.Frag} {a a1 a2 a3 a4 : Addr} {ep : Nat} {t1 t2 t3 t4 : Tok}
    (l : K.lookup a = some ⟨.type "dict", none, .dict (List.toArray [⟨PyData.keyHash w.params "c", .str "c" t1, .ref a1⟩, ⟨PyData.keyHash w.params "t", .str "t" t2, .ref a2⟩, ⟨PyData.keyHash w.params "l", .str "l" t3, .ref a3⟩, ⟨PyData.keyHash w.params "r", .str "r" t4, .ref a4⟩]) ep, #[]⟩) (hs : (a == sysModules) = false) : DK P w K a (lettersD a1 a2 a3 a4) := by
  refine ⟨hs, _, _, ep, [(.inr "c", .ref a1), (.inr "t", .ref a2), (.inr "l", .ref a3), (.inr "r", .ref a4)], l, ⟨rfl, rfl, rfl⟩, rfl, ?_, ?_, ?_, ?_⟩
  · intro e he
    simp only [List.mem_toArray, List.mem_cons, List.not_mem_nil, or_false] at he
    rcases he with rfl | rfl | rfl | rfl
    · exact ⟨.inr "c", mixKind_str _ _ _ _, rfl⟩
    · exact ⟨.inr "t", mixKind_str _ _ _ _, rfl⟩
    · exact ⟨.inr "l", mixKind_str _ _ _ _, rfl⟩
    · exact ⟨.inr "r", mixKind_str _ _ _ _, rfl⟩
  · exact .cons (mixKind_str _ _ _ _) rfl (.cons (mixKind_str _ _ _ _) rfl (.cons (mixKind_str _ _ _ _) rfl (.cons (mixKind_str _ _ _ _) rfl .nil)))
  · show ([.inr "c", .inr "t", .inr "l", .inr "r"] : List Key).Nodup
    decide +kernel
  · exact .cons ⟨rfl, rfl⟩ (.cons ⟨rfl, rfl⟩ (.cons ⟨rfl, rfl⟩ (.cons ⟨rfl, rfl⟩ .nil)))
theorem signsD_mk {P : Program} {w : World} {K : PySem.W.Frag} {a : Addr} {ep : Nat} {t1 t2 t3 t4 u1 u2 u3 u4 : Tok}
    (l : K.lookup a = some ⟨.type "dict", none, .dict (List.toArray [⟨10, .int 10 t1, .str "\n" u1⟩, ⟨32, .int 32 t2, .str " " u2⟩, ⟨42, .int 42 t3, .str "*" u3⟩, ⟨61, .int 61 t4, .str "=" u4⟩]) ep, #[]⟩) (hs : (a == sysModules) = false) : DK P w K a signsD := by
  refine ⟨hs, _, _, ep, [(.inl 10, .str "\n" u1), (.inl 32, .str " " u2), (.inl 42, .str "*" u3), (.inl 61, .str "=" u4)], l, ⟨rfl, rfl, rfl⟩, rfl, ?_, ?_, ?_, ?_⟩
  · intro e he
    simp only [List.mem_toArray, List.mem_cons, List.not_mem_nil, or_false] at he
    rcases he with rfl | rfl | rfl | rfl
    · exact ⟨.inl 10, mixKind_int _ _ _ _, by show (10 : Int) = hashInt 10; decide +kernel⟩
    · exact ⟨.inl 32, mixKind_int _ _ _ _, by show (32 : Int) = hashInt 32; decide +kernel⟩
    · exact ⟨.inl 42, mixKind_int _ _ _ _, by show (42 : Int) = hashInt 42; decide +kernel⟩
    · exact ⟨.inl 61, mixKind_int _ _ _ _, by show (61 : Int) = hashInt 61; decide +kernel⟩
  · exact .cons (mixKind_int _ _ _ _) rfl (.cons (mixKind_int _ _ _ _) rfl (.cons (mixKind_int _ _ _ _) rfl (.cons (mixKind_int _ _ _ _) rfl .nil)))
  · show ([.inl 10, .inl 32, .inl 42, .inl 61] : List Key).Nodup
    decide +kernel
  · exact .cons ⟨rfl, ⟨_, rfl⟩⟩ (.cons ⟨rfl, ⟨_, rfl⟩⟩ (.cons ⟨rfl, ⟨_, rfl⟩⟩ (.cons ⟨rfl, ⟨_, rfl⟩⟩ .nil)))
theorem tx_mk {P : Program} {w : World} {K : PySem.W.Frag} {h : Heap} {mg : Str → Option Value} (X : K.In h) (G : h.Ns mainGlobals mg)
    {tk_mostBytes : Tok} {tk_mostActs : Tok} {tk_mostPairs : Tok} {tk_mostDeep : Tok} {tk_mostLetters : Tok} {tk_mostDigits : Tok} {tk_noFault : Tok} {tk_noLine : Tok} {tk_wrongName : Tok} {tk_wrongPair : Tok} {tk_wrongRepeat : Tok} {tk_tooMany : Tok} {tk_fault : Tok} {tk_noNumber : Tok} {tk_cross : Tok} {tk_letters : Tok} {tk_digits : Tok} {tk_noSign : Tok} {aW aL aO a1 a2 a3 a4 : Addr} {odW od1 od2 od3 od4 : Option Addr} {nW n1 n2 n3 n4 epL epO : Nat} {slW sl1 sl2 sl3 sl4 : Array (Option Value)} {tL1 tL2 tL3 tL4 tO1 tO2 tO3 tO4 uO1 uO2 uO3 uO4 tw0 tw1 tw2 tw3 tw4 tw5 tw6 tw7 v1 v2 v2b v3 v4 : Tok}
    (c_mostBytes : PySem.W.nsIn K mainGlobals "MOST_BYTES" = some (some (.int 16384 tk_mostBytes)))
    (c_mostActs : PySem.W.nsIn K mainGlobals "MOST_ACTS" = some (some (.int 4096 tk_mostActs)))
    (c_mostPairs : PySem.W.nsIn K mainGlobals "MOST_PAIRS" = some (some (.int 32 tk_mostPairs)))
    (c_mostDeep : PySem.W.nsIn K mainGlobals "MOST_DEEP" = some (some (.int 8 tk_mostDeep)))
    (c_mostLetters : PySem.W.nsIn K mainGlobals "MOST_LETTERS" = some (some (.int 12 tk_mostLetters)))
    (c_mostDigits : PySem.W.nsIn K mainGlobals "MOST_DIGITS" = some (some (.int 5 tk_mostDigits)))
    (c_noFault : PySem.W.nsIn K mainGlobals "NO_FAULT" = some (some (.int 0 tk_noFault)))
    (c_noLine : PySem.W.nsIn K mainGlobals "NO_LINE" = some (some (.int 1 tk_noLine)))
    (c_wrongName : PySem.W.nsIn K mainGlobals "WRONG_NAME" = some (some (.int 2 tk_wrongName)))
    (c_wrongPair : PySem.W.nsIn K mainGlobals "WRONG_PAIR" = some (some (.int 3 tk_wrongPair)))
    (c_wrongRepeat : PySem.W.nsIn K mainGlobals "WRONG_REPEAT" = some (some (.int 4 tk_wrongRepeat)))
    (c_tooMany : PySem.W.nsIn K mainGlobals "TOO_MANY_ACTS" = some (some (.int 5 tk_tooMany)))
    (c_fault : PySem.W.nsIn K mainGlobals "FAULT" = some (some (.int (-5) tk_fault)))
    (c_noNumber : PySem.W.nsIn K mainGlobals "NO_NUMBER" = some (some (.int (-1) tk_noNumber)))
    (c_cross : PySem.W.nsIn K mainGlobals "CROSS" = some (some (.int 64 tk_cross)))
    (c_letters : PySem.W.nsIn K mainGlobals "LETTERS" = some (some (.str "abcdefghijklmnopqrstuvwxyz" tk_letters)))
    (c_digits : PySem.W.nsIn K mainGlobals "DIGITS" = some (some (.str "0123456789" tk_digits)))
    (c_noSign : PySem.W.nsIn K mainGlobals "NO_SIGN" = some (some (.str "?" tk_noSign)))
    (n_len : PySem.W.nsIn K mainGlobals "len" = some none)
    (n_min : PySem.W.nsIn K mainGlobals "min" = some none)
    (n_int : PySem.W.nsIn K mainGlobals "int" = some none)
    (n_list : PySem.W.nsIn K mainGlobals "list" = some none)
    (n_range : PySem.W.nsIn K mainGlobals "range" = some none)
    (g_W : PySem.W.nsIn K mainGlobals "LINE_WORDS" = some (some (.ref aW)))
    (l_W : K.lookup aW = some ⟨.type "tuple", odW, .seq (List.toArray [.str "pairs" tw0, .str "let" tw1, .str "do" tw2, .str "row" tw3, .str "twist" tw4, .str "cross" tw5, .str "repeat" tw6, .str "end" tw7]) nW, slW⟩)
    (g_L : PySem.W.nsIn K mainGlobals "LETTER_ACTS" = some (some (.ref aL)))
    (l_L : K.lookup aL = some ⟨.type "dict", none, .dict (List.toArray [⟨PyData.keyHash w.params "c", .str "c" tL1, .ref a1⟩, ⟨PyData.keyHash w.params "t", .str "t" tL2, .ref a2⟩, ⟨PyData.keyHash w.params "l", .str "l" tL3, .ref a3⟩, ⟨PyData.keyHash w.params "r", .str "r" tL4, .ref a4⟩]) epL, #[]⟩)
    (g_O : PySem.W.nsIn K mainGlobals "OTHER_SIGNS" = some (some (.ref aO)))
    (l_O : K.lookup aO = some ⟨.type "dict", none, .dict (List.toArray [⟨10, .int 10 tO1, .str "\n" uO1⟩, ⟨32, .int 32 tO2, .str " " uO2⟩, ⟨42, .int 42 tO3, .str "*" uO3⟩, ⟨61, .int 61 tO4, .str "=" uO4⟩]) epO, #[]⟩)
    (l_1 : K.lookup a1 = some ⟨.type "tuple", od1, .seq (List.toArray [.int 64 v1]) n1, sl1⟩)
    (l_2 : K.lookup a2 = some ⟨.type "tuple", od2, .seq (List.toArray [.int 0 v2, .int 1 v2b]) n2, sl2⟩)
    (l_3 : K.lookup a3 = some ⟨.type "tuple", od3, .seq (List.toArray [.int 0 v3]) n3, sl3⟩)
    (l_4 : K.lookup a4 = some ⟨.type "tuple", od4, .seq (List.toArray [.int 1 v4]) n4, sl4⟩)
    (hsL : (aL == sysModules) = false) (hsO : (aO == sysModules) = false) : Tx P w K mg aW aL aO a1 a2 a3 a4 := by
  exact ⟨⟨_, PySem.W.mg_of X G c_mostBytes⟩, ⟨_, PySem.W.mg_of X G c_mostActs⟩, ⟨_, PySem.W.mg_of X G c_mostPairs⟩, ⟨_, PySem.W.mg_of X G c_mostDeep⟩, ⟨_, PySem.W.mg_of X G c_mostLetters⟩, ⟨_, PySem.W.mg_of X G c_mostDigits⟩, ⟨_, PySem.W.mg_of X G c_noFault⟩, ⟨_, PySem.W.mg_of X G c_noLine⟩, ⟨_, PySem.W.mg_of X G c_wrongName⟩, ⟨_, PySem.W.mg_of X G c_wrongPair⟩, ⟨_, PySem.W.mg_of X G c_wrongRepeat⟩, ⟨_, PySem.W.mg_of X G c_tooMany⟩, ⟨_, PySem.W.mg_of X G c_fault⟩, ⟨_, PySem.W.mg_of X G c_noNumber⟩, ⟨_, PySem.W.mg_of X G c_cross⟩, ⟨_, PySem.W.mg_of X G c_letters⟩, ⟨_, PySem.W.mg_of X G c_digits⟩, ⟨_, PySem.W.mg_of X G c_noSign⟩, PySem.W.mg_of X G g_W, PySem.W.mg_of X G g_L, PySem.W.mg_of X G g_O, tup_mk l_W (by show 8 ≤ sizeLine; decide) (.cons ⟨_, rfl⟩ (.cons ⟨_, rfl⟩ (.cons ⟨_, rfl⟩ (.cons ⟨_, rfl⟩ (.cons ⟨_, rfl⟩ (.cons ⟨_, rfl⟩ (.cons ⟨_, rfl⟩ (.cons ⟨_, rfl⟩ .nil)))))))), lettersD_mk l_L hsL, signsD_mk l_O hsO, tup_mk l_1 (by show 1 ≤ sizeLine; decide) (.cons ⟨_, rfl⟩ .nil), tup_mk l_2 (by show 2 ≤ sizeLine; decide) (.cons ⟨_, rfl⟩ (.cons ⟨_, rfl⟩ .nil)), tup_mk l_3 (by show 1 ≤ sizeLine; decide) (.cons ⟨_, rfl⟩ .nil), tup_mk l_4 (by show 1 ≤ sizeLine; decide) (.cons ⟨_, rfl⟩ .nil), PySem.W.mg_none_of X G n_len, PySem.W.mg_none_of X G n_min, PySem.W.mg_none_of X G n_int, PySem.W.mg_none_of X G n_list, PySem.W.mg_none_of X G n_range⟩
set_option maxHeartbeats 8000000 in
theorem all_mk {P : Program} {w : World} {K : PySem.W.Frag} {h : Heap} {mg : Str → Option Value} {fa : Addr} (X : K.In h) (G : h.Ns mainGlobals mg) (hfa : mg "read" = some (.ref fa)) {aW aL aO a1 a2 a3 a4 : Addr} (T : Tx P w K mg aW aL aO a1 a2 a3 a4)
    {fSign : Addr} {odSign anSign : Option Addr} {slSign : Array (Option Value)} {ocSign kVSign dcSign pmSign cdSign ctSign : Value}
    {fNum : Addr} {odNum anNum : Option Addr} {slNum : Array (Option Value)} {ocNum kVNum dcNum pmNum cdNum ctNum : Value}
    {fName : Addr} {odName anName : Option Addr} {slName : Array (Option Value)} {ocName kVName dcName pmName cdName ctName : Value}
    {fItem : Addr} {odItem anItem : Option Addr} {slItem : Array (Option Value)} {ocItem kVItem dcItem pmItem cdItem ctItem : Value}
    {fItems : Addr} {odItems anItems : Option Addr} {slItems : Array (Option Value)} {ocItems kVItems dcItems pmItems cdItems ctItems : Value}
    {fLet : Addr} {odLet anLet : Option Addr} {slLet : Array (Option Value)} {ocLet kVLet dcLet pmLet cdLet ctLet : Value}
    {fAdd : Addr} {odAdd anAdd : Option Addr} {slAdd : Array (Option Value)} {ocAdd kVAdd dcAdd pmAdd cdAdd ctAdd : Value}
    {fActs : Addr} {odActs anActs : Option Addr} {slActs : Array (Option Value)} {ocActs kVActs dcActs pmActs cdActs ctActs : Value}
    {fWork : Addr} {odWork anWork : Option Addr} {slWork : Array (Option Value)} {ocWork kVWork dcWork pmWork cdWork ctWork : Value}
    {fRPairs : Addr} {odRPairs anRPairs : Option Addr} {slRPairs : Array (Option Value)} {ocRPairs kVRPairs dcRPairs pmRPairs cdRPairs ctRPairs : Value}
    {fRLet : Addr} {odRLet anRLet : Option Addr} {slRLet : Array (Option Value)} {ocRLet kVRLet dcRLet pmRLet cdRLet ctRLet : Value}
    {fRDo : Addr} {odRDo anRDo : Option Addr} {slRDo : Array (Option Value)} {ocRDo kVRDo dcRDo pmRDo cdRDo ctRDo : Value}
    {fFits : Addr} {odFits anFits : Option Addr} {slFits : Array (Option Value)} {ocFits kVFits dcFits pmFits cdFits ctFits : Value}
    {fRRow : Addr} {odRRow anRRow : Option Addr} {slRRow : Array (Option Value)} {ocRRow kVRRow dcRRow pmRRow cdRRow ctRRow : Value}
    {fRAct : Addr} {odRAct anRAct : Option Addr} {slRAct : Array (Option Value)} {ocRAct kVRAct dcRAct pmRAct cdRAct ctRAct : Value}
    {fRRep : Addr} {odRRep anRRep : Option Addr} {slRRep : Array (Option Value)} {ocRRep kVRRep dcRRep pmRRep cdRRep ctRRep : Value}
    {fREnd : Addr} {odREnd anREnd : Option Addr} {slREnd : Array (Option Value)} {ocREnd kVREnd dcREnd pmREnd cdREnd ctREnd : Value}
    {fRLine : Addr} {odRLine anRLine : Option Addr} {slRLine : Array (Option Value)} {ocRLine kVRLine dcRLine pmRLine cdRLine ctRLine : Value}
    {fRead : Addr} {odRead anRead : Option Addr} {slRead : Array (Option Value)} {ocRead kVRead dcRead pmRead cdRead ctRead : Value}
    {C fInit : Addr} {odInit anInit : Option Addr} {slInit : Array (Option Value)} {ocInit kVInit dcInit pmInit cdInit ctInit : Value}
    (a_Sign : PySem.W.nsIn K mainGlobals "sign_of" = some (some (.ref fSign)))
    (l_Sign : K.lookup fSign = some ⟨ocSign, odSign, .func (PySem.W.fnOf "sign_of" "sign_of" (defArgs sSign) (defBody sSign) (defScope sSign) .none kVSign dcSign pmSign anSign cdSign ctSign), slSign⟩)
    (c_Sign : PySem.W.codeIn K cdSign "sign_of" = true)
    (k_Sign : PySem.W.keepIn K (.ref fSign) = true)
    (a_Num : PySem.W.nsIn K mainGlobals "number_of" = some (some (.ref fNum)))
    (l_Num : K.lookup fNum = some ⟨ocNum, odNum, .func (PySem.W.fnOf "number_of" "number_of" (defArgs sNum) (defBody sNum) (defScope sNum) .none kVNum dcNum pmNum anNum cdNum ctNum), slNum⟩)
    (c_Num : PySem.W.codeIn K cdNum "number_of" = true)
    (k_Num : PySem.W.keepIn K (.ref fNum) = true)
    (a_Name : PySem.W.nsIn K mainGlobals "is_name" = some (some (.ref fName)))
    (l_Name : K.lookup fName = some ⟨ocName, odName, .func (PySem.W.fnOf "is_name" "is_name" (defArgs sName) (defBody sName) (defScope sName) .none kVName dcName pmName anName cdName ctName), slName⟩)
    (c_Name : PySem.W.codeIn K cdName "is_name" = true)
    (k_Name : PySem.W.keepIn K (.ref fName) = true)
    (a_Item : PySem.W.nsIn K mainGlobals "item_of" = some (some (.ref fItem)))
    (l_Item : K.lookup fItem = some ⟨ocItem, odItem, .func (PySem.W.fnOf "item_of" "item_of" (defArgs sItem) (defBody sItem) (defScope sItem) .none kVItem dcItem pmItem anItem cdItem ctItem), slItem⟩)
    (c_Item : PySem.W.codeIn K cdItem "item_of" = true)
    (k_Item : PySem.W.keepIn K (.ref fItem) = true)
    (a_Items : PySem.W.nsIn K mainGlobals "items_of" = some (some (.ref fItems)))
    (l_Items : K.lookup fItems = some ⟨ocItems, odItems, .func (PySem.W.fnOf "items_of" "items_of" (defArgs sItems) (defBody sItems) (defScope sItems) .none kVItems dcItems pmItems anItems cdItems ctItems), slItems⟩)
    (c_Items : PySem.W.codeIn K cdItems "items_of" = true)
    (k_Items : PySem.W.keepIn K (.ref fItems) = true)
    (a_Let : PySem.W.nsIn K mainGlobals "are_let" = some (some (.ref fLet)))
    (l_Let : K.lookup fLet = some ⟨ocLet, odLet, .func (PySem.W.fnOf "are_let" "are_let" (defArgs sLet) (defBody sLet) (defScope sLet) .none kVLet dcLet pmLet anLet cdLet ctLet), slLet⟩)
    (c_Let : PySem.W.codeIn K cdLet "are_let" = true)
    (k_Let : PySem.W.keepIn K (.ref fLet) = true)
    (a_Add : PySem.W.nsIn K mainGlobals "add_times" = some (some (.ref fAdd)))
    (l_Add : K.lookup fAdd = some ⟨ocAdd, odAdd, .func (PySem.W.fnOf "add_times" "add_times" (defArgs sAdd) (defBody sAdd) (defScope sAdd) .none kVAdd dcAdd pmAdd anAdd cdAdd ctAdd), slAdd⟩)
    (c_Add : PySem.W.codeIn K cdAdd "add_times" = true)
    (k_Add : PySem.W.keepIn K (.ref fAdd) = true)
    (a_Acts : PySem.W.nsIn K mainGlobals "acts_of" = some (some (.ref fActs)))
    (l_Acts : K.lookup fActs = some ⟨ocActs, odActs, .func (PySem.W.fnOf "acts_of" "acts_of" (defArgs sActs) (defBody sActs) (defScope sActs) .none kVActs dcActs pmActs anActs cdActs ctActs), slActs⟩)
    (c_Acts : PySem.W.codeIn K cdActs "acts_of" = true)
    (k_Acts : PySem.W.keepIn K (.ref fActs) = true)
    (a_Work : PySem.W.nsIn K mainGlobals "work_stitch" = some (some (.ref fWork)))
    (l_Work : K.lookup fWork = some ⟨ocWork, odWork, .func (PySem.W.fnOf "work_stitch" "work_stitch" (defArgs sWork) (defBody sWork) (defScope sWork) .none kVWork dcWork pmWork anWork cdWork ctWork), slWork⟩)
    (c_Work : PySem.W.codeIn K cdWork "work_stitch" = true)
    (k_Work : PySem.W.keepIn K (.ref fWork) = true)
    (a_RPairs : PySem.W.nsIn K mainGlobals "read_pairs" = some (some (.ref fRPairs)))
    (l_RPairs : K.lookup fRPairs = some ⟨ocRPairs, odRPairs, .func (PySem.W.fnOf "read_pairs" "read_pairs" (defArgs sRPairs) (defBody sRPairs) (defScope sRPairs) .none kVRPairs dcRPairs pmRPairs anRPairs cdRPairs ctRPairs), slRPairs⟩)
    (c_RPairs : PySem.W.codeIn K cdRPairs "read_pairs" = true)
    (k_RPairs : PySem.W.keepIn K (.ref fRPairs) = true)
    (a_RLet : PySem.W.nsIn K mainGlobals "read_let" = some (some (.ref fRLet)))
    (l_RLet : K.lookup fRLet = some ⟨ocRLet, odRLet, .func (PySem.W.fnOf "read_let" "read_let" (defArgs sRLet) (defBody sRLet) (defScope sRLet) .none kVRLet dcRLet pmRLet anRLet cdRLet ctRLet), slRLet⟩)
    (c_RLet : PySem.W.codeIn K cdRLet "read_let" = true)
    (k_RLet : PySem.W.keepIn K (.ref fRLet) = true)
    (a_RDo : PySem.W.nsIn K mainGlobals "read_do" = some (some (.ref fRDo)))
    (l_RDo : K.lookup fRDo = some ⟨ocRDo, odRDo, .func (PySem.W.fnOf "read_do" "read_do" (defArgs sRDo) (defBody sRDo) (defScope sRDo) .none kVRDo dcRDo pmRDo anRDo cdRDo ctRDo), slRDo⟩)
    (c_RDo : PySem.W.codeIn K cdRDo "read_do" = true)
    (k_RDo : PySem.W.keepIn K (.ref fRDo) = true)
    (a_Fits : PySem.W.nsIn K mainGlobals "row_fits" = some (some (.ref fFits)))
    (l_Fits : K.lookup fFits = some ⟨ocFits, odFits, .func (PySem.W.fnOf "row_fits" "row_fits" (defArgs sFits) (defBody sFits) (defScope sFits) .none kVFits dcFits pmFits anFits cdFits ctFits), slFits⟩)
    (c_Fits : PySem.W.codeIn K cdFits "row_fits" = true)
    (k_Fits : PySem.W.keepIn K (.ref fFits) = true)
    (a_RRow : PySem.W.nsIn K mainGlobals "read_row" = some (some (.ref fRRow)))
    (l_RRow : K.lookup fRRow = some ⟨ocRRow, odRRow, .func (PySem.W.fnOf "read_row" "read_row" (defArgs sRRow) (defBody sRRow) (defScope sRRow) .none kVRRow dcRRow pmRRow anRRow cdRRow ctRRow), slRRow⟩)
    (c_RRow : PySem.W.codeIn K cdRRow "read_row" = true)
    (k_RRow : PySem.W.keepIn K (.ref fRRow) = true)
    (a_RAct : PySem.W.nsIn K mainGlobals "read_act" = some (some (.ref fRAct)))
    (l_RAct : K.lookup fRAct = some ⟨ocRAct, odRAct, .func (PySem.W.fnOf "read_act" "read_act" (defArgs sRAct) (defBody sRAct) (defScope sRAct) .none kVRAct dcRAct pmRAct anRAct cdRAct ctRAct), slRAct⟩)
    (c_RAct : PySem.W.codeIn K cdRAct "read_act" = true)
    (k_RAct : PySem.W.keepIn K (.ref fRAct) = true)
    (a_RRep : PySem.W.nsIn K mainGlobals "read_repeat" = some (some (.ref fRRep)))
    (l_RRep : K.lookup fRRep = some ⟨ocRRep, odRRep, .func (PySem.W.fnOf "read_repeat" "read_repeat" (defArgs sRRep) (defBody sRRep) (defScope sRRep) .none kVRRep dcRRep pmRRep anRRep cdRRep ctRRep), slRRep⟩)
    (c_RRep : PySem.W.codeIn K cdRRep "read_repeat" = true)
    (k_RRep : PySem.W.keepIn K (.ref fRRep) = true)
    (a_REnd : PySem.W.nsIn K mainGlobals "read_end" = some (some (.ref fREnd)))
    (l_REnd : K.lookup fREnd = some ⟨ocREnd, odREnd, .func (PySem.W.fnOf "read_end" "read_end" (defArgs sREnd) (defBody sREnd) (defScope sREnd) .none kVREnd dcREnd pmREnd anREnd cdREnd ctREnd), slREnd⟩)
    (c_REnd : PySem.W.codeIn K cdREnd "read_end" = true)
    (k_REnd : PySem.W.keepIn K (.ref fREnd) = true)
    (a_RLine : PySem.W.nsIn K mainGlobals "read_line" = some (some (.ref fRLine)))
    (l_RLine : K.lookup fRLine = some ⟨ocRLine, odRLine, .func (PySem.W.fnOf "read_line" "read_line" (defArgs sRLine) (defBody sRLine) (defScope sRLine) .none kVRLine dcRLine pmRLine anRLine cdRLine ctRLine), slRLine⟩)
    (c_RLine : PySem.W.codeIn K cdRLine "read_line" = true)
    (k_RLine : PySem.W.keepIn K (.ref fRLine) = true)
    (a_Read : PySem.W.nsIn K mainGlobals "read" = some (some (.ref fRead)))
    (l_Read : K.lookup fRead = some ⟨ocRead, odRead, .func (PySem.W.fnOf "read" "read" (defArgs sRead) (defBody sRead) (defScope sRead) .none kVRead dcRead pmRead anRead cdRead ctRead), slRead⟩)
    (c_Read : PySem.W.codeIn K cdRead "read" = true)
    (k_Read : PySem.W.keepIn K (.ref fRead) = true)
    (g_C : PySem.W.nsIn K mainGlobals "Reading" = some (some (.ref C)))
    (a_Init : PySem.W.findIn K (.ref C) "__init__" = some (some (.ref fInit)))
    (i_Init : PySem.W.isFn K (.ref fInit) = true)
    (l_Init : K.lookup fInit = some ⟨ocInit, odInit, .func (PySem.W.fnOf "__init__" "Reading.__init__" (defArgs sInit) (defBody sInit) (defScope sInit) .none kVInit dcInit pmInit anInit cdInit ctInit), slInit⟩)
    (c_Init : PySem.W.codeIn K cdInit "Reading.__init__" = true)
    (k_Init : PySem.W.keepIn K (.ref fInit) = true)
    (pg : PySem.W.plainGet K C Str.empty = true)
    (hd : PySem.W.hasDictIn K C = true)
    (po : PySem.W.plainOver K C = true)
    (sa : PySem.W.findIn K (.ref C) "__setattr__" = some (some (.builtin "object.__setattr__")))
    (mk : PySem.W.makesIn K C = true)
    (kc : PySem.W.keepIn K (.ref C) = true)
    (nP : PySem.W.findIn K (.ref C) "pairs" = some none)
    (nS : PySem.W.findIn K (.ref C) "stitches" = some none)
    (nW : PySem.W.findIn K (.ref C) "worked" = some none)
    (nR : PySem.W.findIn K (.ref C) "repeats" = some none) :
    ∃ fd : FuncData, (∀ (s : Shared) (us : List Value), us.length = (["t"] : List Str).length → BindsTo s fd ⟨us, []⟩ ((["t"] : List Str).zip us)) ∧ ∀ base : Heap, K.In base → base.Ns mainGlobals mg → FnOk P w K mg base CX0 6 fa fd ["t"] (spRead K) := by
  have e := hfa.symm.trans (PySem.W.mg_of X G a_Read)
  cases e
  have R : Rc K mg C := ⟨⟨pg, hd, po, sa⟩, nP, nS, nW, nR⟩
  have FSign := fun_mk (st := sSign) l_Sign c_Sign k_Sign
  have bSign := FSign.binds (ps := ["byte"]) fun _ _ _ _ _ _ us hl => match us, hl with | [_], _ => rfl
  have FNum := fun_mk (st := sNum) l_Num c_Num k_Num
  have bNum := FNum.binds (ps := ["word"]) fun _ _ _ _ _ _ us hl => match us, hl with | [_], _ => rfl
  have FName := fun_mk (st := sName) l_Name c_Name k_Name
  have bName := FName.binds (ps := ["word"]) fun _ _ _ _ _ _ us hl => match us, hl with | [_], _ => rfl
  have FItem := fun_mk (st := sItem) l_Item c_Item k_Item
  have bItem := FItem.binds (ps := ["word"]) fun _ _ _ _ _ _ us hl => match us, hl with | [_], _ => rfl
  have FItems := fun_mk (st := sItems) l_Items c_Items k_Items
  have bItems := FItems.binds (ps := ["words"]) fun _ _ _ _ _ _ us hl => match us, hl with | [_], _ => rfl
  have FLet := fun_mk (st := sLet) l_Let c_Let k_Let
  have bLet := FLet.binds (ps := ["items", "stitches"]) fun _ _ _ _ _ _ us hl => match us, hl with | [_, _], _ => rfl
  have FAdd := fun_mk (st := sAdd) l_Add c_Add k_Add
  have bAdd := FAdd.binds (ps := ["acts", "more", "times"]) fun _ _ _ _ _ _ us hl => match us, hl with | [_, _, _], _ => rfl
  have FActs := fun_mk (st := sActs) l_Acts c_Acts k_Acts
  have bActs := FActs.binds (ps := ["items", "stitches"]) fun _ _ _ _ _ _ us hl => match us, hl with | [_, _], _ => rfl
  have FWork := fun_mk (st := sWork) l_Work c_Work k_Work
  have bWork := FWork.binds (ps := ["reading", "line", "acts", "place"]) fun _ _ _ _ _ _ us hl => match us, hl with | [_, _, _, _], _ => rfl
  have FRPairs := fun_mk (st := sRPairs) l_RPairs c_RPairs k_RPairs
  have bRPairs := FRPairs.binds (ps := ["reading", "words"]) fun _ _ _ _ _ _ us hl => match us, hl with | [_, _], _ => rfl
  have FRLet := fun_mk (st := sRLet) l_RLet c_RLet k_RLet
  have bRLet := FRLet.binds (ps := ["reading", "words"]) fun _ _ _ _ _ _ us hl => match us, hl with | [_, _], _ => rfl
  have FRDo := fun_mk (st := sRDo) l_RDo c_RDo k_RDo
  have bRDo := FRDo.binds (ps := ["reading", "line", "words"]) fun _ _ _ _ _ _ us hl => match us, hl with | [_, _, _], _ => rfl
  have FFits := fun_mk (st := sFits) l_Fits c_Fits k_Fits
  have bFits := FFits.binds (ps := ["places", "pairs"]) fun _ _ _ _ _ _ us hl => match us, hl with | [_, _], _ => rfl
  have FRRow := fun_mk (st := sRRow) l_RRow c_RRow k_RRow
  have bRRow := FRRow.binds (ps := ["reading", "line", "words"]) fun _ _ _ _ _ _ us hl => match us, hl with | [_, _, _], _ => rfl
  have FRAct := fun_mk (st := sRAct) l_RAct c_RAct k_RAct
  have bRAct := FRAct.binds (ps := ["reading", "line", "words"]) fun _ _ _ _ _ _ us hl => match us, hl with | [_, _, _], _ => rfl
  have FRRep := fun_mk (st := sRRep) l_RRep c_RRep k_RRep
  have bRRep := FRRep.binds (ps := ["reading", "words"]) fun _ _ _ _ _ _ us hl => match us, hl with | [_, _], _ => rfl
  have FREnd := fun_mk (st := sREnd) l_REnd c_REnd k_REnd
  have bREnd := FREnd.binds (ps := ["reading", "words"]) fun _ _ _ _ _ _ us hl => match us, hl with | [_, _], _ => rfl
  have FRLine := fun_mk (st := sRLine) l_RLine c_RLine k_RLine
  have bRLine := FRLine.binds (ps := ["reading", "line", "words"]) fun _ _ _ _ _ _ us hl => match us, hl with | [_, _, _], _ => rfl
  have FRead := fun_mk (st := sRead) l_Read c_Read k_Read
  have FInit := fun_mk (st := sInit) l_Init c_Init k_Init
  have bInit := FInit.binds (ps := ["self"]) fun _ _ _ _ _ _ us hl => match us, hl with | [_], _ => rfl
  refine ⟨PySem.W.fnOf "read" "read" (defArgs sRead) (defBody sRead) (defScope sRead) .none kVRead dcRead pmRead anRead cdRead ctRead, fun s us hu => match us, hu with | [_], _ => .of_eq rfl, fun base _ _ => ?_⟩
  have cSign : Cal P w K mg base "sign_of" 1 ["byte"] spSign := ⟨fSign, _, ok_sign FSign T, PySem.W.mg_of X G a_Sign, k_Sign, bSign⟩
  have cNum : Cal P w K mg base "number_of" 1 ["word"] spNum := ⟨fNum, _, ok_num FNum T, PySem.W.mg_of X G a_Num, k_Num, bNum⟩
  have cName : Cal P w K mg base "is_name" 1 ["word"] spName := ⟨fName, _, ok_name FName T, PySem.W.mg_of X G a_Name, k_Name, bName⟩
  have cItem : Cal P w K mg base "item_of" 2 ["word"] spItem := ⟨fItem, _, ok_item FItem T cNum cName, PySem.W.mg_of X G a_Item, k_Item, bItem⟩
  have cItems : Cal P w K mg base "items_of" 3 ["words"] (spItems K) := ⟨fItems, _, ok_items FItems T cItem, PySem.W.mg_of X G a_Items, k_Items, bItems⟩
  have cLet : Cal P w K mg base "are_let" 1 ["items", "stitches"] spLet := ⟨fLet, _, ok_let FLet T, PySem.W.mg_of X G a_Let, k_Let, bLet⟩
  have cAdd : Cal P w K mg base "add_times" 1 ["acts", "more", "times"] spAdd := ⟨fAdd, _, ok_add FAdd T, PySem.W.mg_of X G a_Add, k_Add, bAdd⟩
  have cActs : Cal P w K mg base "acts_of" 2 ["items", "stitches"] spActs := ⟨fActs, _, ok_acts FActs T cAdd, PySem.W.mg_of X G a_Acts, k_Acts, bActs⟩
  have cWork : Cal P w K mg base "work_stitch" 2 ["reading", "line", "acts", "place"] (spWork C) := ⟨fWork, _, ok_work FWork T R cAdd, PySem.W.mg_of X G a_Work, k_Work, bWork⟩
  have cRPairs : Cal P w K mg base "read_pairs" 2 ["reading", "words"] (spRPairs C) := ⟨fRPairs, _, ok_rpairs FRPairs T R cNum, PySem.W.mg_of X G a_RPairs, k_RPairs, bRPairs⟩
  have cRLet : Cal P w K mg base "read_let" 4 ["reading", "words"] (spRLet C) := ⟨fRLet, _, ok_rlet FRLet T R cName cItems cLet cActs, PySem.W.mg_of X G a_RLet, k_RLet, bRLet⟩
  have cRDo : Cal P w K mg base "read_do" 4 ["reading", "line", "words"] (spRDo C "do") := ⟨fRDo, _, ok_rdo FRDo T R cNum cItems cLet cActs cWork, PySem.W.mg_of X G a_RDo, k_RDo, bRDo⟩
  have cFits : Cal P w K mg base "row_fits" 1 ["places", "pairs"] spFits := ⟨fFits, _, ok_fits FFits, PySem.W.mg_of X G a_Fits, k_Fits, bFits⟩
  have cRRow : Cal P w K mg base "read_row" 3 ["reading", "line", "words"] (spRDo C "row") := ⟨fRRow, _, ok_rrow FRRow T R cNum cName cFits cWork, PySem.W.mg_of X G a_RRow, k_RRow, bRRow⟩
  have cRAct : Cal P w K mg base "read_act" 2 ["reading", "line", "words"] (spRAct C) := ⟨fRAct, _, ok_ract FRAct T R cNum cAdd, PySem.W.mg_of X G a_RAct, k_RAct, bRAct⟩
  have cRRep : Cal P w K mg base "read_repeat" 2 ["reading", "words"] (spRRep C "repeat") := ⟨fRRep, _, ok_rrep FRRep T R cNum, PySem.W.mg_of X G a_RRep, k_RRep, bRRep⟩
  have cREnd : Cal P w K mg base "read_end" 2 ["reading", "words"] (spRRep C "end") := ⟨fREnd, _, ok_rend FREnd T R cAdd, PySem.W.mg_of X G a_REnd, k_REnd, bREnd⟩
  have cRLine : Cal P w K mg base "read_line" 5 ["reading", "line", "words"] (spRLine C) := ⟨fRLine, _, ok_rline FRLine T cRPairs cRLet cRDo cRRow cRAct cRRep cREnd, PySem.W.mg_of X G a_RLine, k_RLine, bRLine⟩
  exact ok_read FRead T R (PySem.W.mg_of X G g_C) ⟨mk, a_Init, i_Init, kc⟩ (ok_init FInit R) bInit cSign cRLine
end Bt
open PySem PySem.W PyProof.Rows
set_option maxRecDepth 100000 in
set_option maxHeartbeats 0 in
theorem PySem.Challenge.cw_bobbintexts_s01_read_holds : PySem.Challenge.rw_bobbintexts_s01_read.Holds := by
  w_on; k_headS; (case hw => exact ⟨[.list []], by decide +kernel, by decide +kernel⟩)
  k_fillS
  refine L2.walk_specK (r := PySem.Challenge.rw_bobbintexts_s01_read) (k := 6) (CX := L2.CX0) (ps := ["t"]) (sp := Bt.spRead) (by decide +kernel) rfl rfl ⟨rfl, by decide, by decide⟩ (fun w h Y => PySem.W.kIn_of Y) ?F ?S (fun _ _ _ _ z => z)
  case F =>
    intro w mg fa h Y KX G hmg
    refine' Bt.all_mk KX G hmg (Bt.tx_mk KX G ?c_mostBytes ?c_mostActs ?c_mostPairs ?c_mostDeep ?c_mostLetters ?c_mostDigits ?c_noFault ?c_noLine ?c_wrongName ?c_wrongPair ?c_wrongRepeat ?c_tooMany ?c_fault ?c_noNumber ?c_cross ?c_letters ?c_digits ?c_noSign ?n_len ?n_min ?n_int ?n_list ?n_range ?g_W ?l_W ?g_L ?l_L ?g_O ?l_O ?l_1 ?l_2 ?l_3 ?l_4 ?hsL ?hsO) ?a_Sign_f ?l_Sign_f ?c_Sign_f ?k_Sign_f ?a_Num_f ?l_Num_f ?c_Num_f ?k_Num_f ?a_Name_f ?l_Name_f ?c_Name_f ?k_Name_f ?a_Item_f ?l_Item_f ?c_Item_f ?k_Item_f ?a_Items_f ?l_Items_f ?c_Items_f ?k_Items_f ?a_Let_f ?l_Let_f ?c_Let_f ?k_Let_f ?a_Add_f ?l_Add_f ?c_Add_f ?k_Add_f ?a_Acts_f ?l_Acts_f ?c_Acts_f ?k_Acts_f ?a_Work_f ?l_Work_f ?c_Work_f ?k_Work_f ?a_RPairs_f ?l_RPairs_f ?c_RPairs_f ?k_RPairs_f ?a_RLet_f ?l_RLet_f ?c_RLet_f ?k_RLet_f ?a_RDo_f ?l_RDo_f ?c_RDo_f ?k_RDo_f ?a_Fits_f ?l_Fits_f ?c_Fits_f ?k_Fits_f ?a_RRow_f ?l_RRow_f ?c_RRow_f ?k_RRow_f ?a_RAct_f ?l_RAct_f ?c_RAct_f ?k_RAct_f ?a_RRep_f ?l_RRep_f ?c_RRep_f ?k_RRep_f ?a_REnd_f ?l_REnd_f ?c_REnd_f ?k_REnd_f ?a_RLine_f ?l_RLine_f ?c_RLine_f ?k_RLine_f ?a_Read_f ?l_Read_f ?c_Read_f ?k_Read_f ?g_C_f ?a_Init_f ?i_Init_f ?l_Init_f ?c_Init_f ?k_Init_f ?pg_f ?hd_f ?po_f ?sa_f ?mk_f ?kc_f ?nP_f ?nS_f ?nW_f ?nR_f
    (case c_mostBytes => k_is)
    (case c_mostActs => k_is)
    (case c_mostPairs => k_is)
    (case c_mostDeep => k_is)
    (case c_mostLetters => k_is)
    (case c_mostDigits => k_is)
    (case c_noFault => k_is)
    (case c_noLine => k_is)
    (case c_wrongName => k_is)
    (case c_wrongPair => k_is)
    (case c_wrongRepeat => k_is)
    (case c_tooMany => k_is)
    (case c_fault => k_is)
    (case c_noNumber => k_is)
    (case c_cross => k_is)
    (case c_letters => k_is)
    (case c_digits => k_is)
    (case c_noSign => k_is)
    (case n_len => k_is)
    (case n_min => k_is)
    (case n_int => k_is)
    (case n_list => k_is)
    (case n_range => k_is)
    (case g_W => k_is)
    (case l_W => k_is)
    (case g_L => k_is)
    (case l_L => k_is)
    (case g_O => k_is)
    (case l_O => k_is)
    (case l_1 => k_is)
    (case l_2 => k_is)
    (case l_3 => k_is)
    (case l_4 => k_is)
    (case a_Sign_f => k_is)
    (case l_Sign_f => k_is)
    (case c_Sign_f => k_is)
    (case k_Sign_f => k_is)
    (case a_Num_f => k_is)
    (case l_Num_f => k_is)
    (case c_Num_f => k_is)
    (case k_Num_f => k_is)
    (case a_Name_f => k_is)
    (case l_Name_f => k_is)
    (case c_Name_f => k_is)
    (case k_Name_f => k_is)
    (case a_Item_f => k_is)
    (case l_Item_f => k_is)
    (case c_Item_f => k_is)
    (case k_Item_f => k_is)
    (case a_Items_f => k_is)
    (case l_Items_f => k_is)
    (case c_Items_f => k_is)
    (case k_Items_f => k_is)
    (case a_Let_f => k_is)
    (case l_Let_f => k_is)
    (case c_Let_f => k_is)
    (case k_Let_f => k_is)
    (case a_Add_f => k_is)
    (case l_Add_f => k_is)
    (case c_Add_f => k_is)
    (case k_Add_f => k_is)
    (case a_Acts_f => k_is)
    (case l_Acts_f => k_is)
    (case c_Acts_f => k_is)
    (case k_Acts_f => k_is)
    (case a_Work_f => k_is)
    (case l_Work_f => k_is)
    (case c_Work_f => k_is)
    (case k_Work_f => k_is)
    (case a_RPairs_f => k_is)
    (case l_RPairs_f => k_is)
    (case c_RPairs_f => k_is)
    (case k_RPairs_f => k_is)
    (case a_RLet_f => k_is)
    (case l_RLet_f => k_is)
    (case c_RLet_f => k_is)
    (case k_RLet_f => k_is)
    (case a_RDo_f => k_is)
    (case l_RDo_f => k_is)
    (case c_RDo_f => k_is)
    (case k_RDo_f => k_is)
    (case a_Fits_f => k_is)
    (case l_Fits_f => k_is)
    (case c_Fits_f => k_is)
    (case k_Fits_f => k_is)
    (case a_RRow_f => k_is)
    (case l_RRow_f => k_is)
    (case c_RRow_f => k_is)
    (case k_RRow_f => k_is)
    (case a_RAct_f => k_is)
    (case l_RAct_f => k_is)
    (case c_RAct_f => k_is)
    (case k_RAct_f => k_is)
    (case a_RRep_f => k_is)
    (case l_RRep_f => k_is)
    (case c_RRep_f => k_is)
    (case k_RRep_f => k_is)
    (case a_REnd_f => k_is)
    (case l_REnd_f => k_is)
    (case c_REnd_f => k_is)
    (case k_REnd_f => k_is)
    (case a_RLine_f => k_is)
    (case l_RLine_f => k_is)
    (case c_RLine_f => k_is)
    (case k_RLine_f => k_is)
    (case a_Read_f => k_is)
    (case l_Read_f => k_is)
    (case c_Read_f => k_is)
    (case k_Read_f => k_is)
    (case g_C_f => k_is)
    (case a_Init_f => k_is)
    (case i_Init_f => k_is)
    (case l_Init_f => k_is)
    (case c_Init_f => k_is)
    (case k_Init_f => k_is)
    (case pg_f => k_is)
    (case hd_f => k_is)
    (case po_f => k_is)
    (case sa_f => k_is)
    (case mk_f => k_is)
    (case kc_f => k_is)
    (case nP_f => k_is)
    (case nS_f => k_is)
    (case nW_f => k_is)
    (case nR_f => k_is)
    (case hsL => rfl)
    (case hsO => rfl)
  case S =>
    intro K H xs a hO hwi hask hx
    cases hx with
    | cons h1 h2 =>
      cases h2
      cases h1 with
      | lst hs ha =>
        have e := L2.ints_dw a.1 _ ha
        subst e
        have q : ((Codec.inLen 0 17000 a.1 && a.1.all (Codec.inInt 0 255)) && true) = true := hwi
        rw [Bool.and_eq_true, Bool.and_eq_true] at q
        refine ⟨_, a.1, rfl, hs, (Codec.inNat_iff.mp q.1.1).2, fun x hx => ?_, fun H' p hp => .lst (L2.SqL.of hp) (L2.dw_ints _)⟩
        have := (List.all_eq_true.mp q.1.2) x hx
        exact Codec.inInt_iff.mp this
#print axioms PySem.Challenge.cw_bobbintexts_s01_read_holds

end
