import PyProof.Rows.All
import Wide.All
import OpenK.AllK
import Wide.FinOn
import PyProof.EqAt
import PyProof.EqKinds
import PyProof.TupleCall
import KE.BitLaws
import PyProof.ListMulRoad
import PyProof.NsDelKeeps
import PySem.Challenge.RW_likenest_k01_signs_known
set_option Elab.async false
set_option linter.all false
set_option maxRecDepth 100000
/-! THE HAND LAYER, for ints, bools, texts, own classes, lists, tuples, dicts, comprehensions, walks over dicts, enumerate, zip, reversed, texts, calls, loops. Paste it whole ahead of your own text; what your proof does not reach may be deleted. -/
namespace L2
open PySem PySem.Spec PyProof.Rows

/-- a key: an int or a str -/
abbrev Key := Sum Int Str
def keyIs : Key → Value → Bool
  | .inl k, v => Value.isInt k v
  | .inr x, v => Value.isStrOf x v
def keyH (w : World) : Key → Int
  | .inl k => hashInt k
  | .inr x => hashStr w x
theorem keyIs_shape : ∀ {k : Key} {v : Value}, keyIs k v = true → (∃ i t, k = Sum.inl i ∧ v = Value.int i t) ∨ (∃ x t, k = Sum.inr x ∧ v = Value.str x t)
  | .inl i, v, h => by
    obtain ⟨t, e⟩ := Value.isInt_shape (k := i) (v := v) h
    exact .inl ⟨i, t, rfl, e⟩
  | .inr x, v, h => by
    obtain ⟨t, e⟩ := Value.isStrOf_shape (x := x) (v := v) h
    exact .inr ⟨x, t, rfl, e⟩
theorem keyIs_int (i : Int) (t : Tok) : keyIs (.inl i) (.int i t) = true := by simp [keyIs, Value.isInt]
theorem keyIs_str (x : Str) (t : Tok) : keyIs (.inr x) (.str x t) = true := by simp [keyIs, Value.isStrOf]
theorem key_ll (a b : Int) : decide ((Sum.inl a : Key) = Sum.inl b) = (a == b) := by
  by_cases e : a = b
  · subst e; simp
  · have h : ¬ (Sum.inl a : Key) = Sum.inl b := fun q => e (Sum.inl.inj q)
    rw [decide_eq_false h]
    exact (beq_eq_false_iff_ne.mpr e).symm
theorem key_rr (a b : Str) : decide ((Sum.inr a : Key) = Sum.inr b) = decide (a = b) := by
  by_cases e : a = b
  · subst e; simp
  · have h : ¬ (Sum.inr a : Key) = Sum.inr b := fun q => e (Sum.inr.inj q)
    rw [decide_eq_false h, decide_eq_false e]
theorem key_lr (a : Int) (b : Str) : decide ((Sum.inl a : Key) = Sum.inr b) = false := decide_eq_false (fun q => nomatch q)
theorem key_rl (a : Str) (b : Int) : decide ((Sum.inr a : Key) = Sum.inl b) = false := decide_eq_false (fun q => nomatch q)

def mixKind (prog : Program) (w : World) : PySem.KeyKind prog w Key where
  is := keyIs
  hash := keyH w
  inj := fun v a b ha hb => by
    rcases keyIs_shape ha with ⟨i, t, rfl, rfl⟩ | ⟨x, t, rfl, rfl⟩
    · rcases keyIs_shape hb with ⟨j, u, rfl, e⟩ | ⟨y, u, rfl, e⟩
      · injection e with e1 _; rw [e1]
      · exact nomatch e
    · rcases keyIs_shape hb with ⟨j, u, rfl, e⟩ | ⟨y, u, rfl, e⟩
      · exact nomatch e
      · injection e with e1 _; rw [e1]
  byValue := fun k v h => by
    rcases keyIs_shape h with ⟨i, t, rfl, rfl⟩ | ⟨x, t, rfl, rfl⟩ <;> rfl
  pyHash := fun hv h => by
    rcases keyIs_shape hv with ⟨i, t, rfl, rfl⟩ | ⟨x, t, rfl, rfl⟩
    · exact wpAny_pyHash_int h
    · exact wpAny_pyHash_str h
  eqBool := fun hu hv h => by
    rcases keyIs_shape hu with ⟨i, t, rfl, rfl⟩ | ⟨x, t, rfl, rfl⟩
    · rcases keyIs_shape hv with ⟨j, u, rfl, rfl⟩ | ⟨y, u, rfl, rfl⟩
      · rw [key_ll] at h; exact wpAny_eqBool_int h
      · rw [key_lr] at h; exact SeqAt.EqAt.int_str i t y u _ _ _ _ h
    · rcases keyIs_shape hv with ⟨j, u, rfl, rfl⟩ | ⟨y, u, rfl, rfl⟩
      · rw [key_rl] at h; exact SeqAt.EqAt.str_int x t j u _ _ _ _ h
      · rw [key_rr] at h; exact wpAny_eqBool_str h
  «strs» := fun k x t v h => by
    rcases keyIs_shape h with ⟨i, u, rfl, e⟩ | ⟨y, u, rfl, e⟩
    · exact nomatch e
    · injection e with e1 _
      subst e1
      cases v <;> rfl

theorem mixKind_int (prog : Program) (w : World) (i : Int) (t : Tok) : (mixKind prog w).is (.inl i) (.int i t) = true := keyIs_int i t
theorem mixKind_str (prog : Program) (w : World) (x : Str) (t : Tok) : (mixKind prog w).is (.inr x) (.str x t) = true := keyIs_str x t
end L2

namespace L2
open PySem PySem.Spec PyProof.Rows

/-- a value, without the heap -/
inductive V where
  | non | bl (b : Bool) | int (i : Int) | str (x : Str) | byt (b : Array UInt8) | flt (b : UInt64) | ref (a : Addr) | ty (n : String)
  deriving DecidableEq

def RelV : V → Value → Prop
  | .non, u => u = Value.none
  | .bl b, u => u = Value.bool b
  | .int i, u => ∃ t, u = Value.int i t
  | .str x, u => ∃ t, u = Value.str x t
  | .byt b, u => ∃ t, u = Value.bytes b t
  | .flt b, u => ∃ t, u = Value.float b t
  | .ref a, u => u = Value.ref a
  | .ty n, u => u = Value.type n

abbrev Vals : List V → List Value → Prop := Paired RelV
theorem Vals.length {xs : List V} {us : List Value} (r : Vals xs us) : xs.length = us.length := Paired.length r
theorem Vals.get : ∀ {xs : List V} {us : List Value} {i : Nat} {x : V}, Vals xs us → xs[i]? = some x → ∃ u, us[i]? = some u ∧ RelV x u
  | _, _, _, _, .nil, e => by simp at e
  | _, _, 0, _, .cons r _, e => by simp at e; subst e; exact ⟨_, rfl, r⟩
  | _, _, i + 1, x, .cons _ t, e => by
    obtain ⟨u, h1, h2⟩ := Vals.get (i := i) (x := x) t (by simpa using e)
    exact ⟨u, by simpa using h1, h2⟩
theorem Vals.set {x : V} {u : Value} (r : RelV x u) : ∀ {xs : List V} {us : List Value} (i : Nat), Vals xs us → Vals (xs.set i x) (us.set i u)
  | _, _, _, .nil => .nil
  | _, _, 0, .cons _ t => .cons r t
  | _, _, i + 1, .cons q t => .cons q (Vals.set r i t)
theorem Vals.append : ∀ {xs ys : List V} {us ws : List Value}, Vals xs us → Vals ys ws → Vals (xs ++ ys) (us ++ ws)
  | _, _, _, _, .nil, s => s
  | _, _, _, _, .cons r t, s => .cons r (Vals.append t s)
theorem Vals.take : ∀ {xs : List V} {us : List Value} (n : Nat), Vals xs us → Vals (xs.take n) (us.take n)
  | _, _, 0, _ => .nil
  | _, _, _ + 1, .nil => .nil
  | _, _, n + 1, .cons r t => .cons r (Vals.take n t)
theorem Vals.drop : ∀ {xs : List V} {us : List Value} (n : Nat), Vals xs us → Vals (xs.drop n) (us.drop n)
  | _, _, 0, r => r
  | _, _, _ + 1, .nil => .nil
  | _, _, n + 1, .cons _ t => Vals.drop n t

def RelO : Option V → Option Value → Prop
  | some v, some u => RelV v u
  | none, none => True
  | _, _ => False
def KV {κ : Type} : List (κ × V) → List (κ × Value) → Prop := Paired fun (p : κ × V) (q : κ × Value) => p.1 = q.1 ∧ RelV p.2 q.2

/-- a key of a dict (00_mix): an int or a text -/
def kV : Key → V
  | .inl i => .int i
  | .inr x => .str x

/-- what stands at a tracked address -/
inductive HO where
  /-- a list -/
  | lst (xs : List V)
  /-- a tuple (never changes) -/
  | tup (xs : List V)
  /-- a dict whose keys are ints and texts; one whose keys are tuples of ints and texts (the empty one is both) -/
  | dK (kvs : List (Key × V)) | dT (kvs : List (List Key × V))
  /-- a set of ints: its members, its size -/
  | set (S : Int → Bool) (n : Nat)
  /-- an instance of the class at C, its dict at dx, its attributes -/
  | ins (C dx : Addr) (fs : List (Str × V))
  /-- the dict of the instance at x -/
  | own (x : Addr)
  /-- the dict of an exception -/
  | xd (fs : List (Str × V))
  /-- a bound method, f of x -/
  | met (f x : Addr)
  /-- a range object lo, lo + 1, .. below hi -/
  | rng (lo hi : Int)
  /-- a thing that is known to the object (the script; a dict while a loop walks it): read, never written while it is so -/
  | frz (o : Obj) (u : HO)
  /-- a code object's table -/
  | tbl (ps : Array Value)
  /-- any other thing, by what is true of its one object (a def of one's own: SetO a S n := HO.ext fun h => ..) -/
  | ext (φ : Heap → Prop)

abbrev Hp := Addr → Option HO
def upd (H : Hp) (a : Addr) (o : HO) : Hp := fun b => if b = a then some o else H b
theorem upd_same {H : Hp} {a : Addr} {o : HO} : upd H a o a = some o := by unfold upd; rw [if_pos rfl]
theorem upd_ne {H : Hp} {a b : Addr} {o : HO} (h : b ≠ a) : upd H a o b = H b := by unfold upd; rw [if_neg h]
theorem upd_upd {H : Hp} {a : Addr} {o u : HO} : upd (upd H a o) a u = upd H a u := by
  funext b; unfold upd; split <;> rfl
/-- two objects of different content stand apart -/
theorem ne_of {H : Hp} {a b : Addr} {o u : HO} (h : H a = some o) (h' : H b = some u) (d : o ≠ u) : a ≠ b := by
  intro e; subst e; rw [h] at h'; exact d (Option.some.inj h')
theorem ne_of_none {H : Hp} {a b : Addr} {o : HO} (h : H a = some o) (h' : H b = none) : a ≠ b := by
  intro e; subst e; rw [h] at h'; cases h'

section
variable (P : Program) (w : World)
def ObjOk (H : Hp) (h : Heap) (a : Addr) : HO → Prop
  | .lst xs => xs.length ≤ sizeLine ∧ ∃ (its : List Value) (n : Nat), Vals xs its ∧ h.get? a = some { cls := .type "list", data := .seq its.toArray n }
  | .tup xs => xs.length ≤ sizeLine ∧ ∃ its : List Value, Vals xs its ∧ IsTup h a its.toArray
  | .dK kvs => kvs.length ≤ sizeLine ∧ (a == sysModules) = false ∧ ∃ vs, KV kvs vs ∧ h.DictOf (mixKind P w) a vs
  | .dT kvs => kvs.length ≤ sizeLine ∧ (a == sysModules) = false ∧ ∃ xs : List (List Key × Addr × Value),
      Paired (fun (p : List Key × V) (q : List Key × Addr × Value) => p.1 = q.1 ∧ H q.2.1 = some (.tup (p.1.map kV)) ∧ RelV p.2 q.2.2) kvs xs ∧
      ∃ o es ep, h.get? a = some o ∧ o.ExactDict ∧ o.data = .dict es ep ∧ es.toList = xs.map (entryOfKey (tupleKind (mixKind P w))) ∧ (xs.map (·.1)).Nodup
  | .set S n => h.SetOf (intKind P w) a S n
  | .ins C dx fs => H dx = some (.own a) ∧ fs.length ≤ 1000 ∧ dx ≠ a ∧ h.get? a = some (PySem.W.instObj C dx) ∧
      ∃ mA, h.Ns1 dx mA ∧ (∀ f, RelO (fs.lookup f) (mA f)) ∧ PySem.Within mA (fs.map (·.1))
  | .own _ => ∃ o, h.get? a = some o
  | .xd fs => ∃ mA, h.Ns1 a mA ∧ ∀ f, RelO (fs.lookup f) (mA f)
  | .rng lo hi => ∃ t u v, h.get? a = some { cls := .type "range", data := .fields #[.int lo t, .int hi u, .int 1 v] }
  | .frz o u => h.get? a = some o ∧ ObjOk H h a u
  | .tbl ps => h.get? a = some { cls := .none, data := .fields ps }
  | .met f x => h.get? a = some (PySem.W.methodObj (.ref f) (.ref x))
  | .ext φ => φ h ∧ (∃ o, h.get? a = some o) ∧ ∀ h1 h2 : Heap, φ h1 → (∀ o, h1.get? a = some o → h2.get? a = some o) → φ h2
/-- the abstract heap is held -/
def HOk (H : Hp) (h : Heap) : Prop := ∀ a o, H a = some o → ObjOk P w H h a o
end

section
variable {P : Program} {w : World} {H H' : Hp} {h h' : Heap} {a : Addr} {o : HO}
theorem ObjOk.lt (x : ObjOk P w H h a o) : a < h.objs.size := by
  cases o with
  | lst xs => obtain ⟨_, _, _, _, e⟩ := x; exact Heap.lt_size e
  | tup xs => obtain ⟨_, _, _, p⟩ := x; exact p.lt
  | dK kvs => obtain ⟨_, _, _, _, o, _, _, e, _⟩ := x; exact Heap.lt_size e
  | dT kvs => obtain ⟨_, _, _, _, o, _, _, e, _⟩ := x; exact Heap.lt_size e
  | set S n => obtain ⟨o, _, _, _, e, _⟩ := x; exact Heap.lt_size e
  | ins C dx fs => obtain ⟨_, _, _, e, _⟩ := x; exact Heap.lt_size e
  | own y => obtain ⟨_, e⟩ := x; exact Heap.lt_size e
  | xd fs => obtain ⟨_, ⟨_, _, _, e, _⟩, _⟩ := x; exact Heap.lt_size e
  | rng lo hi => obtain ⟨_, _, _, e⟩ := x; exact Heap.lt_size e
  | frz ob u => obtain ⟨e, _⟩ := x; exact Heap.lt_size e
  | tbl ps => exact Heap.lt_size (show h.get? a = some _ from x)
  | met f y => exact Heap.lt_size (show h.get? a = some _ from x)
  | ext φ => obtain ⟨_, ⟨_, e⟩, _⟩ := x; exact Heap.lt_size e
theorem Paired.mapP {α β : Type} {F G : α → β → Prop} : ∀ {l₁ : List α} {l₂ : List β}, Paired F l₁ l₂ → (∀ a b, F a b → G a b) → Paired G l₁ l₂
  | _, _, .nil, _ => .nil
  | _, _, .cons r t, f => .cons (f _ _ r) (Paired.mapP t f)
/-- what an object's description leans on: its own object, its own dict, the tuples -/
theorem ObjOk.stay (x : ObjOk P w H h a o) (k : ∀ b u, (b = a ∨ H b = some (.own a)) → h.get? b = some u → h'.get? b = some u)
    (ho : ∀ b, H b = some (.own a) → H' b = some (.own a)) (ht : ∀ b xs, H b = some (.tup xs) → H' b = some (.tup xs)) : ObjOk P w H' h' a o := by
  induction o with
  | lst xs => obtain ⟨z, its, n, r, e⟩ := x; exact ⟨z, its, n, r, k _ _ (.inl rfl) e⟩
  | tup xs => obtain ⟨z, its, r, ob, e, c⟩ := x; exact ⟨z, its, r, ob, k _ _ (.inl rfl) e, c⟩
  | dK kvs => obtain ⟨z, y, vs, r, ob, es, ep, e, c⟩ := x; exact ⟨z, y, vs, r, ob, es, ep, k _ _ (.inl rfl) e, c⟩
  | dT kvs =>
    obtain ⟨z, y, xs, r, ob, es, ep, e, c⟩ := x
    exact ⟨z, y, xs, Paired.mapP r fun p q z => ⟨z.1, ht _ _ z.2.1, z.2.2⟩, ob, es, ep, k _ _ (.inl rfl) e, c⟩
  | set S n => obtain ⟨ob, es, ep, t, e, c⟩ := x; exact ⟨ob, es, ep, t, k _ _ (.inl rfl) e, c⟩
  | ins C dx fs =>
    obtain ⟨d, z, ne, e, mA, ⟨od, es, ep, e2, c⟩, r⟩ := x
    exact ⟨ho _ d, z, ne, k _ _ (.inl rfl) e, mA, ⟨od, es, ep, k _ _ (.inr d) e2, c⟩, r⟩
  | own y => obtain ⟨ob, e⟩ := x; exact ⟨ob, k _ _ (.inl rfl) e⟩
  | xd fs => obtain ⟨mA, ⟨od, es, ep, e, c⟩, r⟩ := x; exact ⟨mA, ⟨od, es, ep, k _ _ (.inl rfl) e, c⟩, r⟩
  | rng lo hi => obtain ⟨t, u, v, e⟩ := x; exact ⟨t, u, v, k _ _ (.inl rfl) e⟩
  | frz ob u ih => obtain ⟨e, q⟩ := x; exact ⟨k _ _ (.inl rfl) e, ih q⟩
  | tbl ps =>
    have e : h.get? a = some { cls := .none, data := .fields ps } := x
    show h'.get? a = some { cls := .none, data := .fields ps }
    exact k a _ (.inl rfl) e
  | met f y =>
    have e : h.get? a = some (PySem.W.methodObj (.ref f) (.ref y)) := x
    show h'.get? a = some (PySem.W.methodObj (.ref f) (.ref y))
    exact k a _ (.inl rfl) e
  | ext φ => obtain ⟨p, ⟨o, e⟩, st⟩ := x; exact ⟨st _ _ p fun o q => k _ _ (.inl rfl) q, ⟨o, k _ _ (.inl rfl) e⟩, st⟩
theorem HOk.lt (x : HOk P w H h) (e : H a = some o) : a < h.objs.size := (x a o e).lt
theorem HOk.fresh (x : HOk P w H h) (e : h.objs.size ≤ a) : H a = none := by
  cases q : H a with
  | none => rfl
  | some u => exact absurd (Nat.lt_of_lt_of_le (x.lt q) e) (Nat.lt_irrefl _)
/-- every object of the heap is kept -/
theorem HOk.kept (x : HOk P w H h) (k : ∀ b u, h.get? b = some u → h'.get? b = some u) : HOk P w H h' := fun a o e =>
  (x a o e).stay (fun b u _ q => k b u q) (fun _ q => q) fun _ _ q => q
/-- a new object is laid and tracked -/
theorem HOk.laid (x : HOk P w H h) (k : ∀ b u, h.get? b = some u → h'.get? b = some u) (hp : h.objs.size ≤ a) (new : ObjOk P w (upd H a o) h' a o) : HOk P w (upd H a o) h' := fun b u e => by
  have hn := x.fresh hp
  by_cases hb : b = a
  · subst hb; rw [upd_same] at e; cases e; exact new
  · rw [upd_ne hb] at e
    exact (x b u e).stay (fun c v _ q => k c v q) (fun c q => by rw [upd_ne (ne_of_none q hn)]; exact q) fun c xs q => by rw [upd_ne (ne_of_none q hn)]; exact q
end

/-- what may be read as u: it is u, or a known u -/
def Rd (H : Hp) (a : Addr) (u : HO) : Prop := H a = some u ∨ ∃ o, H a = some (.frz o u)
theorem Rd.of {H : Hp} {a : Addr} {u : HO} (h : H a = some u) : Rd H a u := .inl h
theorem Rd.ok {P : Program} {w : World} {H : Hp} {h : Heap} {a : Addr} {u : HO} (r : Rd H a u) (x : HOk P w H h) : ObjOk P w H h a u := by
  rcases r with r | ⟨o, r⟩
  · exact x a u r
  · obtain ⟨_, q⟩ := x a _ r
    exact q
/-- what may be written -/
def Mut : Option HO → Prop
  | some (.lst _) => True
  | some (.dK _) => True
  | some (.dT _) => True
  | some (.set _ _) => True
  | some (.ins _ _ _) => True
  | some (.ext _) => True
  | _ => False
section
variable {P : Program} {w : World} {H : Hp} {h h' : Heap} {x e : Addr} {o' : HO}
/-- the object at e is changed: x itself, or the dict of the instance x -/
theorem HOk.write (ok : HOk P w H h) (mu : Mut (H x)) (he : e = x ∨ H e = some (.own x)) (k : ∀ b u, b ≠ e → h.get? b = some u → h'.get? b = some u) (heo : ∃ u, h'.get? e = some u)
    (new : ObjOk P w (upd H x o') h' x o') : HOk P w (upd H x o') h' := fun b u q => by
  have nown : ∀ c y, H c = some (.own y) → c ≠ x := fun c y r z => by subst z; rw [r] at mu; exact mu
  have ntup : ∀ c xs, H c = some (.tup xs) → c ≠ x := fun c xs r z => by subst z; rw [r] at mu; exact mu
  by_cases hb : b = x
  · subst hb; rw [upd_same] at q; cases q; exact new
  · rw [upd_ne hb] at q
    by_cases hbe : b = e
    · have q' : H b = some (.own x) := by
        rcases he with z | z
        · exact absurd (hbe.trans z) hb
        · rw [hbe]; exact z
      rw [q] at q'; cases q'
      obtain ⟨v, hv⟩ := heo
      exact ⟨v, by rw [hbe]; exact hv⟩
    · refine (ok b u q).stay (fun c v hc r => k c v ?_ r) (fun c r => by rw [upd_ne (nown c b r)]; exact r) fun c xs r => by rw [upd_ne (ntup c xs r)]; exact r
      rcases hc with rfl | hc
      · exact hbe
      · rintro rfl
        rcases he with z | z
        · exact nown c b hc z
        · rw [hc] at z; cases z; exact hb rfl
end

/-! ### kept unless tracked; of the frames at fs (the callers') the slots may change (an exception that passes writes there); of the records at ex (iterators) nothing is said -/
structure Un (fs ex : List Addr) (H H' : Hp) (h h' : Heap) : Prop where
  keep : ∀ b o, h.get? b = some o → H b = none → b ∉ fs → b ∉ ex → h'.get? b = some o
  slot : ∀ b o, h.get? b = some o → H b = none → b ∈ fs → b ∉ ex → ∃ sl, h'.get? b = some { o with slots := sl }
  free : ∀ b o, h.get? b = some o → H b = none → b ∉ ex → H' b = none
  there : ∀ b o, h.get? b = some o → b ∉ ex → ∃ o', h'.get? b = some o'
  tups : ∀ b xs, H b = some (.tup xs) → H' b = some (.tup xs)
  frzs : ∀ b o u, H b = some (.frz o u) → H' b = some (.frz o u)
  tbls : ∀ b ps, H b = some (.tbl ps) → ∃ more, H' b = some (.tbl (ps ++ more))
section
variable {fs fs' ex ex' : List Addr} {H H1 H2 : Hp} {h h1 h2 h' : Heap} {a x e : Addr} {o : HO}
theorem Un.any (u : Un fs ex H H1 h h1) {b : Addr} {ob : Obj} (q : h.get? b = some ob) (n : H b = none) (hx : b ∉ ex) : ∃ sl, h1.get? b = some { ob with slots := sl } := by
  by_cases hb : b ∈ fs
  · exact u.slot b ob q n hb hx
  · exact ⟨ob.slots, u.keep b ob q n hb hx⟩
theorem Un.trans (a : Un fs ex H H1 h h1) (b : Un fs ex H1 H2 h1 h2) : Un fs ex H H2 h h2 where
  keep := fun c ob q n hc hx => b.keep c ob (a.keep c ob q n hc hx) (a.free c ob q n hx) hc hx
  slot := fun c ob q n hc hx => by
    obtain ⟨sl, e1⟩ := a.slot c ob q n hc hx
    obtain ⟨sl', e2⟩ := b.slot c _ e1 (a.free c ob q n hx) hc hx
    exact ⟨sl', e2⟩
  free := fun c ob q n hx => by
    obtain ⟨o', e1⟩ := a.there c ob q hx
    exact b.free c o' e1 (a.free c ob q n hx) hx
  there := fun c ob q hx => by
    obtain ⟨o', e1⟩ := a.there c ob q hx
    exact b.there c o' e1 hx
  tups := fun c xs q => b.tups c xs (a.tups c xs q)
  frzs := fun c ob xs q => b.frzs c ob xs (a.frzs c ob xs q)
  tbls := fun c ps q => by
    obtain ⟨m1, e1⟩ := a.tbls c ps q
    obtain ⟨m2, e2⟩ := b.tbls c _ e1
    exact ⟨m1 ++ m2, by rw [e2, Array.append_assoc]⟩
theorem Un.kept (k : ∀ b u, h.get? b = some u → h'.get? b = some u) : Un fs ex H H h h' :=
  ⟨fun b ob q _ _ _ => k b ob q, fun b ob q _ _ _ => ⟨ob.slots, k b ob q⟩, fun _ _ _ n _ => n, fun b ob q _ => ⟨ob, k b ob q⟩, fun _ _ q => q, fun _ _ _ q => q, fun _ ps q => ⟨#[], by rw [q]; simp⟩⟩
theorem Un.refl : Un fs ex H H h h := Un.kept fun _ _ q => q
theorem Un.laid (k : ∀ b u, h.get? b = some u → h'.get? b = some u) (hp : h.objs.size ≤ a) (hn : H a = none) : Un fs ex H (upd H a o) h h' where
  keep := fun b u q _ _ _ => k b u q
  slot := fun b u q _ _ _ => ⟨u.slots, k b u q⟩
  free := fun b u q n _ => by rw [upd_ne (Nat.ne_of_lt (Nat.lt_of_lt_of_le (Heap.lt_size q) hp))]; exact n
  there := fun b u q _ => ⟨u, k b u q⟩
  tups := fun b xs q => by rw [upd_ne (ne_of_none q hn)]; exact q
  frzs := fun b u xs q => by rw [upd_ne (ne_of_none q hn)]; exact q
  tbls := fun b ps q => ⟨#[], by rw [upd_ne (ne_of_none q hn), q]; simp⟩
theorem Un.write (mu : Mut (H x)) (he : e = x ∨ H e = some (.own x)) (k : ∀ b u, b ≠ e → h.get? b = some u → h'.get? b = some u) (heo : ∃ u, h'.get? e = some u) : Un fs ex H (upd H x o) h h' := by
  have hx : ∀ b, H b = none → b ≠ x := fun b n z => by subst z; rw [n] at mu; exact mu
  have hb : ∀ b, H b = none → b ≠ e := fun b n z => by
    subst z
    rcases he with r | r
    · exact hx b n r
    · rw [n] at r; cases r
  have hm : ∀ b u, H b = some u → ¬ Mut (some u) → b ≠ x := fun b u q nm z => by subst z; rw [q] at mu; exact nm mu
  refine ⟨fun b u q n _ _ => k b u (hb b n) q, fun b u q n _ _ => ⟨u.slots, k b u (hb b n) q⟩, fun b u q n _ => by rw [upd_ne (hx b n)]; exact n, fun b u q _ => ?_,
    fun b xs q => by rw [upd_ne (hm b _ q fun z => z)]; exact q, fun b u xs q => by rw [upd_ne (hm b _ q fun z => z)]; exact q, fun b ps q => ⟨#[], by rw [upd_ne (hm b _ q fun z => z), q]; simp⟩⟩
  by_cases hbe : b = e
  · subst hbe; exact heo
  · exact ⟨u, k b u hbe q⟩
theorem Un.mono (u : Un fs ex H H1 h h1) (hs : ∀ b ∈ fs, b ∈ fs') (hx : ∀ b ∈ ex, b ∈ ex') : Un fs' ex' H H1 h h1 :=
  ⟨fun b ob q n hb he => u.keep b ob q n (fun z => hb (hs b z)) fun z => he (hx b z), fun _ _ q n _ he => u.any q n fun z => he (hx _ z), fun b ob q n he => u.free b ob q n fun z => he (hx b z), fun b ob q he => u.there b ob q fun z => he (hx b z), u.tups, u.frzs, u.tbls⟩
end

/-! ### the heap without what is tracked -/
def trk (h : Heap) (H : Hp) : List Addr := (List.range h.objs.size).filter fun a => (H a).isSome
def hidT (h : Heap) (H : Hp) : Heap := PySem.W.hideAll h (trk h H)
theorem hidT_size (h : Heap) (H : Hp) : (hidT h H).objs.size = h.objs.size := PySem.W.hideAll_size _ _
theorem hidT_get {h : Heap} {H : Hp} {b : Addr} {o : Obj} (e : h.get? b = some o) (n : H b = none) : (hidT h H).get? b = some o :=
  PySem.W.hideAll_get _ e fun hm => by
    have q : (H b).isSome = true := (List.mem_filter.mp hm).2
    rw [n] at q; simp at q
theorem of_hidT {h : Heap} {H : Hp} {b : Addr} {o : Obj} (e : (hidT h H).get? b = some o) : h.get? b = some o ∧ H b = none := by
  have e' : h.get? b = some o := PySem.W.of_hideAll (trk h H) e
  refine ⟨e', ?_⟩
  cases q : H b with
  | none => rfl
  | some x =>
    have hm : b ∈ trk h H := List.mem_filter.mpr ⟨List.mem_range.mpr (Heap.lt_size e'), by simp [q]⟩
    have z : (hidT h H).get? b = none := PySem.W.hideAll_none (trk h H) hm
    rw [z] at e; cases e

/-! ### OpenK's ledger, filled with every new object but one -/
def allNews (g h : Heap) (L : Addr) : List (Addr × Obj) := (List.range h.objs.size).filterMap fun a => if a = L ∨ (g.get? a).isSome = true then none else (h.get? a).map fun o => (a, o)
def rest (g h : Heap) (L d : Addr) : List (Addr × Obj) := (allNews g h L).filter fun p => decide (p.1 ≠ d)
end L2

namespace L2
open PySem PySem.Spec PyProof.Rows

/-- the module's facts, over the base: the heap at the law's entry without what is tracked there -/
structure Mod (K : PySem.W.Frag) (mg : Str → Option Value) (base : Heap) : Prop where
  kin : K.In base
  glob : base.Ns mainGlobals mg
  blt : ∃ mb, base.Ns builtinsNs mb ∧ ∀ x : Str, x ≠ "__name__" → mb x = bootBuiltins x
  nolimit : base.NoLimit

/-- the context: a def's body (or a comprehension's block) running. base: fixed through the whole law; s₀, H₀: the entry; outer: the frames whose slots others may change (a def's callers); stack: all frames that run;
   ex: iterators that were made ahead of the entry and are walked here (a comprehension's); fn: the names whose cells were made at the entry (a def: all; a comprehension's block: its own); calm: not within an except suite; pn: pins that every state bears; xe: what is wanted of an exception that leaves the code -/
structure Cx where
  prog : Program
  w : World
  K : PySem.W.Frag
  mg : Str → Option Value
  base : Heap
  A : Around
  N : List Str
  s_0 : Shared
  H_0 : Hp
  env : Env
  outer : List Env
  stack : List Env
  ex : List Addr
  fn : Str → Bool
  calm : Bool
  pn : List (Addr × Obj)
  xe : Value → Shared → Prop
/-- the callers' frames -/
def frs (l : List Env) : List Addr := l.filterMap (·.frame)
abbrev Cx.fs (X : Cx) : List Addr := frs X.outer

def Vis (sc : Scope) (x : Str) : Prop := sc.names.lookup x = some .local ∨ sc.names.lookup x = some .cell ∨ sc.names.lookup x = some .free
def Loc (sc : Scope) (x : Str) : Prop := sc.names.lookup x = some .local ∨ sc.names.lookup x = some .cell
def Look (env : Env) (h : Heap) (m : Str → Option Value) (x : Str) (u : Value) : Prop :=
  (env.kindOf x = some .local ∧ m x = some u) ∨ ((env.kindOf x = some .cell ∨ env.kindOf x = some .free) ∧ ∃ c, env.cells.lookup x = some c ∧ h.IsCell c (some u))

structure Cx.Ok (X : Cx) : Prop where
  mod : Mod X.K X.mg X.base
  kind : X.env.scope.kind = .function
  glob : X.env.globals = mainGlobals
  blt : X.env.builtins = builtinsNs
  above : X.s_0.heap.objs.size ≤ X.env.locals
  inj : ∀ x y c, X.env.cells.lookup x = some c → X.env.cells.lookup y = some c → x = y
  has : ∀ x, (X.env.kindOf x = some .cell ∨ X.env.kindOf x = some .free) → ∃ c, X.env.cells.lookup x = some c
  cab : ∀ x c, X.fn x = true → X.env.cells.lookup x = some c → X.s_0.heap.objs.size ≤ c
  hd : X.calm = true → X.A.handled = none
  frames : X.A.frames = some X.stack
  stk : X.stack = X.outer ∨ (X.stack = X.env :: X.outer ∧ X.env.frame = some X.env.locals)
  exf : ∀ b ∈ X.ex, b ≠ X.env.locals ∧ ∀ x c, X.env.cells.lookup x = some c → c ≠ b
  bs : ∀ b o, X.base.get? b = some o → X.s_0.heap.get? b = some o ∧ X.H_0 b = none
  bsz : X.base.objs.size ≤ X.s_0.heap.objs.size
  noex : ∀ b o, X.base.get? b = some o → b ∉ X.ex
  exfs : ∀ b ∈ X.ex, b ∉ X.fs
  funs : X.s_0.heap.FunFrames X.base X.outer
  frf : ∀ b ∈ X.fs, X.H_0 b = none

structure Inv (X : Cx) (pins : List (Addr × Obj)) (σ : List (Option V)) (H : Hp) (s : Shared) : Prop where
  ok : X.Ok
  os : s.os = X.s_0.os
  bare : AllBare s.gens
  base : Un X.fs X.ex X.H_0 H X.s_0.heap s.heap
  loc : ∃ m, s.heap.Ns X.env.locals m ∧ ∀ (i : Nat) (x : Str) (v : V), X.N[i]? = some x → σ[i]? = some (some v) → Vis X.env.scope x → ∃ u, RelV v u ∧ Look X.env s.heap m x u
  cell : ∀ x c, X.env.cells.lookup x = some c → ∃ v, s.heap.IsCell c v
  free : H X.env.locals = none
  freeC : ∀ x c, X.env.cells.lookup x = some c → H c = none
  pin : ∀ p ∈ X.pn ++ pins, s.heap.get? p.1 = some p.2 ∧ H p.1 = none ∧ p.1 ≠ X.env.locals ∧ p.1 ∉ X.fs ∧ ∀ v, p.2.data ≠ .cell v
  hok : HOk X.prog X.w H s.heap
  len : σ.length = X.N.length

section
variable {X : Cx} {pins : List (Addr × Obj)} {σ : List (Option V)} {H H' : Hp} {s : Shared} {h' : Heap}

theorem Cx.Ok.nofr (ok : X.Ok) {b : Addr} {o : Obj} (e : X.base.get? b = some o) : b ∉ X.fs := fun hb => by
  have := (ok.funs.mem hb).1
  rw [e] at this; cases this
theorem Inv.bs (I : Inv X pins σ H s) : ∀ b o, X.base.get? b = some o → s.heap.get? b = some o ∧ H b = none := fun b o e =>
  ⟨I.base.keep b o (I.ok.bs b o e).1 (I.ok.bs b o e).2 (I.ok.nofr e) (I.ok.noex b o e), I.base.free b o (I.ok.bs b o e).1 (I.ok.bs b o e).2 (I.ok.noex b o e)⟩
theorem Inv.bk (I : Inv X pins σ H s) : ∀ b o, X.base.get? b = some o → s.heap.get? b = some o := fun b o e => (I.bs b o e).1
theorem Inv.mod (I : Inv X pins σ H s) : Mod X.K X.mg X.base := I.ok.mod
theorem Inv.kIn (I : Inv X pins σ H s) : X.K.In s.heap := I.ok.mod.kin.keeps I.bk
theorem Inv.nolimit (I : Inv X pins σ H s) : s.heap.NoLimit := I.ok.mod.nolimit.keeps I.bk
/-- the frame over the base: for OpenK's rules (K.In X.base is I.mod.kin) -/
theorem Inv.fr (I : Inv X pins σ H s) : ∃ m, Fr X.base X.env.locals s.heap m :=
  let ⟨m, hn, _⟩ := I.loc
  ⟨m, hn, I.bk, Nat.le_trans I.ok.bsz I.ok.above⟩
theorem Inv.lt (I : Inv X pins σ H s) : X.env.locals < s.heap.objs.size := let ⟨_, hn, _⟩ := I.loc; hn.lt
theorem Inv.sz (I : Inv X pins σ H s) : X.s_0.heap.objs.size ≤ s.heap.objs.size := Nat.le_trans I.ok.above (Nat.le_of_lt I.lt)
theorem Inv.nofs (I : Inv X pins σ H s) {a : Addr} (h : s.heap.objs.size ≤ a) : a ∉ X.fs := fun hb => by
  obtain ⟨_, o, ho, _⟩ := I.ok.funs.mem hb
  exact absurd (Nat.lt_of_lt_of_le (Heap.lt_size ho) (Nat.le_trans I.sz h)) (Nat.lt_irrefl _)
theorem Inv.cne (I : Inv X pins σ H s) : ∀ x c, X.env.cells.lookup x = some c → c ≠ X.env.locals := fun x c e z => by
  obtain ⟨v, o, ho, hd⟩ := I.cell x c e
  obtain ⟨m, ⟨o', es, ep, ho', hd', _⟩, _⟩ := I.loc
  rw [z, ho'] at ho; cases ho; rw [hd'] at hd; cases hd
theorem Inv.funs (I : Inv X pins σ H s) : s.heap.FunFrames X.base X.outer := by
  have all : ∀ (l : List Env), (∀ b ∈ frs l, b ∈ X.fs) → X.s_0.heap.FunFrames X.base l → s.heap.FunFrames X.base l := by
    intro l
    induction l with
    | nil => intro _ _; trivial
    | cons env r ih =>
      intro hs hl
      obtain ⟨hk, ⟨L, o, hf, hn, ho, hd⟩, hr⟩ := hl
      have hL : L ∈ X.fs := hs L (by unfold frs; rw [List.filterMap_cons, hf]; exact List.mem_cons_self)
      obtain ⟨sl, e⟩ := I.base.slot L o ho (I.ok.frf L hL) hL fun z => I.ok.exfs L z hL
      exact ⟨hk, ⟨L, _, hf, hn, e, hd⟩, ih (fun b hb => hs b (by unfold frs; rw [List.filterMap_cons, hf]; exact List.mem_cons_of_mem _ hb)) hr⟩
  exact all X.outer (fun _ hb => hb) I.ok.funs

/-- the frames that run, for a call -/
theorem Inv.stack (I : Inv X pins σ H s) : s.heap.FunFrames X.base X.stack := by
  rcases I.ok.stk with e | ⟨e, hf⟩
  · rw [e]; exact I.funs
  · rw [e]
    obtain ⟨m, hn, _⟩ := I.loc
    refine .cons (by rw [I.ok.kind]; decide) hf hn ?_ I.funs
    exact Heap.get?_none_of_le (Nat.le_trans I.ok.bsz I.ok.above)
theorem Inv.stkSub (I : Inv X pins σ H s) : ∀ b ∈ frs X.stack, b ∈ X.env.locals :: X.fs := fun b hb => by
  rcases I.ok.stk with e | ⟨e, hf⟩
  · rw [e] at hb; exact List.mem_cons_of_mem _ hb
  · rw [e] at hb
    unfold frs at hb
    rw [List.filterMap_cons, hf] at hb
    exact hb
theorem Inv.stkFree (I : Inv X pins σ H s) : ∀ b ∈ frs X.stack, H b = none := fun b hb => by
  rcases List.mem_cons.mp (I.stkSub b hb) with e | hb
  · rw [e]; exact I.free
  · obtain ⟨_, o, ho, _⟩ := I.ok.funs.mem hb
    exact I.base.free b o ho (I.ok.frf b hb) fun z => I.ok.exfs b z hb

/-- THE STEP: the untracked objects but the frame and the records at ch are kept (the callers' frames up to slots), the frame's map is kept, the new abstract heap is held -/
theorem Inv.step {g' : Array GenState} {t' : Nat} {d' : Drawn} {ch : List Addr} (I : Inv X pins σ H s)
    (hch : ∀ b ∈ ch, (b ∈ X.ex ∨ X.s_0.heap.objs.size ≤ b) ∧ b ≠ X.env.locals ∧ (∀ x c, X.env.cells.lookup x = some c → c ≠ b) ∧ ∀ p ∈ X.pn ++ pins, p.1 ≠ b)
    (keep : ∀ b o, b ≠ X.env.locals → b ∉ X.fs → b ∉ ch → s.heap.get? b = some o → H b = none → h'.get? b = some o)
    (slot : ∀ b o, b ≠ X.env.locals → b ∈ X.fs → b ∉ ch → s.heap.get? b = some o → H b = none → ∃ sl, h'.get? b = some { o with slots := sl }) (free : ∀ b o, b ∉ ch → s.heap.get? b = some o → H b = none → H' b = none)
    (there : ∀ b o, b ∉ ch → s.heap.get? b = some o → ∃ o', h'.get? b = some o')
    (tups : ∀ b xs, H b = some (.tup xs) → H' b = some (.tup xs)) (frzs : ∀ b o u, H b = some (.frz o u) → H' b = some (.frz o u)) (tbls : ∀ b ps, H b = some (.tbl ps) → ∃ more, H' b = some (.tbl (ps ++ more)))
    (ns : ∀ m, s.heap.Ns X.env.locals m → h'.Ns X.env.locals m) (hok : HOk X.prog X.w H' h') (hg : AllBare g') :
    Inv X pins σ H' { s with heap := h', gens := g', drawn := d', toks := t' } := by
  have neL : ∀ b o, X.s_0.heap.get? b = some o → b ≠ X.env.locals := fun b o e => Nat.ne_of_lt (Nat.lt_of_lt_of_le (Heap.lt_size e) I.ok.above)
  have neC : ∀ b o, X.s_0.heap.get? b = some o → b ∉ X.ex → b ∉ ch := fun b o e hx hb => by
    rcases (hch b hb).1 with z | z
    · exact hx z
    · exact absurd (Nat.lt_of_lt_of_le (Heap.lt_size e) z) (Nat.lt_irrefl _)
  have cellK : ∀ x c, X.env.cells.lookup x = some c → ∀ v, s.heap.IsCell c v → h'.IsCell c v := fun x c e v ⟨o, ho, hd⟩ => by
    have nch : c ∉ ch := fun z => (hch c z).2.2.1 x c e rfl
    by_cases hc : c ∈ X.fs
    · obtain ⟨sl, q⟩ := slot c o (I.cne x c e) hc nch ho (I.freeC x c e)
      exact ⟨_, q, hd⟩
    · exact ⟨o, keep c o (I.cne x c e) hc nch ho (I.freeC x c e), hd⟩
  refine ⟨I.ok, I.os, hg, ⟨fun b o e n hb hx => ?_, fun b o e n hb hx => ?_, fun b o e n hx => ?_, fun b o e hx => ?_, fun b xs e => tups b xs (I.base.tups b xs e), fun b o xs e => frzs b o xs (I.base.frzs b o xs e), fun b ps e => ?_⟩, ?_, fun x c e => ?_, ?_, fun x c e => ?_, fun p hp => ?_, hok, I.len⟩
  · exact keep b o (neL b o e) hb (neC b o e hx) (I.base.keep b o e n hb hx) (I.base.free b o e n hx)
  · obtain ⟨sl, e1⟩ := I.base.slot b o e n hb hx
    obtain ⟨sl', e2⟩ := slot b _ (neL b o e) hb (neC b o e hx) e1 (I.base.free b o e n hx)
    exact ⟨sl', e2⟩
  · obtain ⟨o', e1⟩ := I.base.there b o e hx
    exact free b o' (neC b o e hx) e1 (I.base.free b o e n hx)
  · obtain ⟨o', e1⟩ := I.base.there b o e hx
    exact there b o' (neC b o e hx) e1
  · obtain ⟨m1, e1⟩ := I.base.tbls b ps e
    obtain ⟨m2, e2⟩ := tbls b _ e1
    exact ⟨m1 ++ m2, by rw [e2, Array.append_assoc]⟩
  · obtain ⟨m, hn, hl⟩ := I.loc
    refine ⟨m, ns m hn, fun i x v e1 e2 e3 => ?_⟩
    obtain ⟨u, r, l⟩ := hl i x v e1 e2 e3
    refine ⟨u, r, ?_⟩
    rcases l with l | ⟨k, c, e, z⟩
    · exact .inl l
    · exact .inr ⟨k, c, e, cellK x c e _ z⟩
  · obtain ⟨v, z⟩ := I.cell x c e
    exact ⟨v, cellK x c e v z⟩
  · obtain ⟨m, ⟨o, _, _, ho, _⟩, _⟩ := I.loc
    exact free _ o (fun z => (hch _ z).2.1 rfl) ho I.free
  · obtain ⟨v, o, ho, hd⟩ := I.cell x c e
    exact free c o (fun z => (hch c z).2.2.1 x c e rfl) ho (I.freeC x c e)
  · obtain ⟨e, n, ne, nf, d⟩ := I.pin p hp
    have nch : p.1 ∉ ch := fun z => (hch p.1 z).2.2.2 p hp rfl
    exact ⟨keep p.1 p.2 ne nf nch e n, free p.1 p.2 nch e n, ne, nf, d⟩
/-- .. where the frame's own object is kept too -/
theorem Inv.un {t' : Nat} (I : Inv X pins σ H s) (u : Un X.fs [] H H' s.heap h') (hok : HOk X.prog X.w H' h') : Inv X pins σ H' { s with heap := h', toks := t' } := by
  obtain ⟨m, ⟨o, es, ep, ho, r⟩, _⟩ := id I.loc
  obtain ⟨sl, hL⟩ := u.any ho I.free (by simp)
  exact I.step (g' := s.gens) (d' := s.drawn) (ch := []) (fun _ z => nomatch z) (fun b o _ hb _ e n => u.keep b o e n hb (by simp)) (fun b o _ hb _ e n => u.slot b o e n hb (by simp)) (fun b o _ e n => u.free b o e n (by simp)) (fun b o _ e => u.there b o e (by simp)) u.tups u.frzs u.tbls (fun m' hm => by
    obtain ⟨o', es', ep', ho', r'⟩ := hm
    rw [ho] at ho'; cases ho'
    exact ⟨_, es', ep', hL, r'⟩) hok I.bare
/-- behind a call (or a comprehension's block): the slots of this frame may have changed too, the records at ch may have turned -/
theorem Inv.call {g' : Array GenState} {t' : Nat} {d' : Drawn} {ch : List Addr} (I : Inv X pins σ H s) (u : Un (frs X.stack) ch H H' s.heap h') (hok : HOk X.prog X.w H' h') (hg : AllBare g')
    (hch : ∀ b ∈ ch, (b ∈ X.ex ∨ X.s_0.heap.objs.size ≤ b) ∧ b ≠ X.env.locals ∧ (∀ x c, X.env.cells.lookup x = some c → c ≠ b) ∧ ∀ p ∈ X.pn ++ pins, p.1 ≠ b) :
    Inv X pins σ H' { s with heap := h', gens := g', drawn := d', toks := t' } := by
  obtain ⟨m, ⟨o, es, ep, ho, r⟩, _⟩ := id I.loc
  obtain ⟨sl, hL⟩ := u.any ho I.free fun z => (hch _ z).2.1 rfl
  exact I.step (ch := ch) hch (fun b o hL hb hc e n => u.keep b o e n (fun z => (List.mem_cons.mp (I.stkSub b z)).elim hL hb) hc) (fun b o _ _ hc e n => u.any e n hc) (fun b o hc e n => u.free b o e n hc) (fun b o hc e => u.there b o e hc) u.tups u.frzs u.tbls (fun m' hm => by
    obtain ⟨o', es', ep', ho', r'⟩ := hm
    rw [ho] at ho'; cases ho'
    exact ⟨_, es', ep', hL, r'⟩) hok hg
/-- an untracked record of ours (an iterator) has turned -/
theorem Inv.turned {t' : Nat} {it : Addr} (I : Inv X pins σ H s) (k : ∀ b o, b ≠ it → s.heap.get? b = some o → h'.get? b = some o) (hn : H it = none) (hL : it ≠ X.env.locals)
    (h1 : it ∈ X.ex ∨ X.s_0.heap.objs.size ≤ it) (h2 : ∀ x c, X.env.cells.lookup x = some c → c ≠ it) (h3 : ∀ p ∈ X.pn ++ pins, p.1 ≠ it) : Inv X pins σ H { s with heap := h', toks := t' } := by
  have nit : ∀ b u, H b = some u → b ≠ it := fun b u e z => by rw [z, hn] at e; cases e
  refine I.step (g' := s.gens) (d' := s.drawn) (ch := [it]) (fun b hb => ?_) (fun b o _ _ hc e _ => k b o (fun z => hc (by simp [z])) e) (fun b o _ _ hc e _ => ⟨o.slots, k b o (fun z => hc (by simp [z])) e⟩) (fun _ _ _ _ n => n)
    (fun b o hc e => ⟨o, k b o (fun z => hc (by simp [z])) e⟩) (fun _ _ e => e) (fun _ _ _ e => e) (fun b ps e => ⟨#[], by rw [e]; simp⟩) (fun m hm => ?_) (fun b u e => ?_) I.bare
  · have e : b = it := by simpa using hb
    subst e
    exact ⟨h1, hL, h2, h3⟩
  · obtain ⟨o, es, ep, ho, r⟩ := hm
    exact ⟨o, es, ep, k _ o (Ne.symm hL) ho, r⟩
  · refine (I.hok b u e).stay (fun c v hc q => k c v ?_ q) (fun _ q => q) fun _ _ q => q
    rcases hc with z | z
    · rw [z]; exact nit b u e
    · exact nit c _ z
theorem Inv.tok (I : Inv X pins σ H s) (t : Nat) : Inv X pins σ H { s with toks := t } := I.un (h' := s.heap) (t' := t) Un.refl I.hok
/-- all objects kept -/
theorem Inv.kept {t' : Nat} (I : Inv X pins σ H s) (k : ∀ b u, s.heap.get? b = some u → h'.get? b = some u) : Inv X pins σ H { s with heap := h', toks := t' } := I.un (Un.kept k) (I.hok.kept k)
/-- a new object laid and tracked -/
theorem Inv.laid {a : Addr} {o : HO} {t' : Nat} (I : Inv X pins σ H s) (k : ∀ b u, s.heap.get? b = some u → h'.get? b = some u) (hp : s.heap.objs.size ≤ a) (new : ObjOk X.prog X.w (upd H a o) h' a o) :
    Inv X pins σ (upd H a o) { s with heap := h', toks := t' } := I.un (Un.laid k hp (I.hok.fresh hp)) (I.hok.laid k hp new)
/-- an object written -/
theorem Inv.write {x e : Addr} {o : HO} {t' : Nat} (I : Inv X pins σ H s) (mu : Mut (H x)) (he : e = x ∨ H e = some (.own x)) (k : ∀ b u, b ≠ e → s.heap.get? b = some u → h'.get? b = some u) (heo : ∃ u, h'.get? e = some u)
    (new : ObjOk X.prog X.w (upd H x o) h' x o) : Inv X pins σ (upd H x o) { s with heap := h', toks := t' } := I.un (Un.write mu he k heo) (I.hok.write mu he k heo new)
/-- forgetting slots, pins -/
theorem Inv.weak {σ' : List (Option V)} (I : Inv X pins σ H s) (hl : σ'.length = σ.length) (w : ∀ (i : Nat) v, σ'[i]? = some (some v) → σ[i]? = some (some v)) : Inv X pins σ' H s :=
  ⟨I.ok, I.os, I.bare, I.base, let ⟨m, hn, hl'⟩ := I.loc; ⟨m, hn, fun i x v e1 e2 e3 => hl' i x v e1 (w i v e2) e3⟩, I.cell, I.free, I.freeC, I.pin, I.hok, hl.trans I.len⟩
theorem Inv.pins_of {pins' : List (Addr × Obj)} (I : Inv X pins σ H s) (h : ∀ p ∈ pins', s.heap.get? p.1 = some p.2 ∧ H p.1 = none ∧ p.1 ≠ X.env.locals ∧ p.1 ∉ X.fs ∧ ∀ v, p.2.data ≠ .cell v) : Inv X pins' σ H s :=
  ⟨I.ok, I.os, I.bare, I.base, I.loc, I.cell, I.free, I.freeC, fun p hp => (List.mem_append.mp hp).elim (fun z => I.pin p (List.mem_append_left _ z)) (h p), I.hok, I.len⟩

theorem nodup_ix {N : List Str} (hN : N.Nodup) {i j : Nat} {x : Str} (a : N[i]? = some x) (b : N[j]? = some x) : i = j := by
  obtain ⟨h1, e1⟩ := List.getElem?_eq_some_iff.mp a
  obtain ⟨h2, e2⟩ := List.getElem?_eq_some_iff.mp b
  exact (List.getElem_inj hN).mp (e1.trans e2.symm)

/-- a name is stored; what changed -/
theorem store_ok2 {M : Model} {A : Around} {E : Value → Shared → Prop} {i : Nat} {x : Str} {v : V} {u : Value} {Q : Unit → Shared → Prop} (I : Inv X pins σ H s) (hN : X.N.Nodup) (hi : X.N[i]? = some x) (hx : Loc X.env.scope x) (r : RelV v u)
    (h : ∀ s', Inv X pins (σ.set i (some v)) H s' → (∃ a, Heap.SameBut a s.heap s'.heap ∧ (a = X.env.locals ∨ X.env.cells.lookup x = some a)) → Q () s') (hf : X.fn x = true ∨ X.env.scope.names.lookup x = some .local := by first | exact .inl rfl | exact .inr rfl | assumption) : wpAny M A (storeName X.env x u) Q E s := by
  obtain ⟨m, hn, hl⟩ := id I.loc
  have hcls : (X.env.scope.kind == .class || (X.env.scope.kind == .module && X.env.locals != X.env.globals)) = false := by rw [I.ok.kind]; rfl
  have hiσ : i < σ.length := by rw [I.len]; exact (List.getElem?_eq_some_iff.mp hi).1
  have cne := I.cne
  have tracked : ∀ {a : Addr} {h' : Heap}, (∃ o, s.heap.get? a = some o ∧ H a = none) → Heap.SameBut a s.heap h' → HOk X.prog X.w H h' := fun {a h'} ha hs b ob e => by
    obtain ⟨_, _, hfree⟩ := ha
    refine (I.hok b ob e).stay (fun c w' hc q => (hs.2 c ?_).trans q) (fun _ q => q) fun _ _ q => q
    rintro rfl
    rcases hc with rfl | hc
    · rw [hfree] at e; cases e
    · rw [hfree] at hc; cases hc
  rcases hx with hk | hk
  · refine wpAny_storeName_local hk hn (fun h' hn' hs => ?_) hcls
    obtain ⟨oL, _, _, hoL, _⟩ := id hn
    refine h _ ⟨I.ok, I.os, I.bare, ⟨fun b o e n hb hx => ?_, fun b o e n hb hx => ?_, I.base.free, fun b o e hx => ?_, I.base.tups, I.base.frzs, I.base.tbls⟩, ⟨_, hn', fun j y v' e1 e2 e3 => ?_⟩, fun y c e => ?_, I.free, I.freeC, fun p hp => ?_, tracked ⟨oL, hoL, I.free⟩ hs, by simpa using I.len⟩ ⟨_, hs, .inl rfl⟩
    · exact (hs.2 b (Nat.ne_of_lt (Nat.lt_of_lt_of_le (Heap.lt_size e) I.ok.above))).trans (I.base.keep b o e n hb hx)
    · obtain ⟨sl, e1⟩ := I.base.slot b o e n hb hx
      exact ⟨sl, (hs.2 b (Nat.ne_of_lt (Nat.lt_of_lt_of_le (Heap.lt_size e) I.ok.above))).trans e1⟩
    · obtain ⟨o', e1⟩ := I.base.there b o e hx
      exact ⟨o', (hs.2 b (Nat.ne_of_lt (Nat.lt_of_lt_of_le (Heap.lt_size e) I.ok.above))).trans e1⟩
    · by_cases hj : j = i
      · subst hj
        rw [hi] at e1; cases e1
        rw [List.getElem?_set_self hiσ] at e2
        cases e2
        exact ⟨u, r, .inl ⟨hk, by simp⟩⟩
      · rw [List.getElem?_set_ne (Ne.symm hj)] at e2
        obtain ⟨u', r', q⟩ := hl j y v' e1 e2 e3
        refine ⟨u', r', ?_⟩
        rcases q with ⟨k, e⟩ | ⟨k, c, e, z⟩
        · refine .inl ⟨k, ?_⟩
          have : y ≠ x := fun e => hj (nodup_ix hN e1 (e ▸ hi))
          simp [this, e]
        · exact .inr ⟨k, c, e, z.sameBut hs (cne y c e)⟩
    · obtain ⟨w', z⟩ := I.cell y c e
      exact ⟨w', z.sameBut hs (cne y c e)⟩
    · obtain ⟨e, n, ne, nf, d⟩ := I.pin p hp
      exact ⟨(hs.2 p.1 ne).trans e, n, ne, nf, d⟩
  · have hfn : X.fn x = true := by
      rcases hf with z | z
      · exact z
      · rw [z] at hk; cases hk
    obtain ⟨c, hc⟩ := I.ok.has x (.inl hk)
    obtain ⟨w', z⟩ := I.cell x c hc
    refine wpAny_storeName_cell I.ok.kind hk hc z (fun h' hc' hs => ?_)
    obtain ⟨oc, hoc, hocd⟩ := id z
    refine h { s with heap := h' } ⟨I.ok, I.os, I.bare, ⟨fun b o e n hb hx => ?_, fun b o e n hb hx => ?_, I.base.free, fun b o e hx => ?_, I.base.tups, I.base.frzs, I.base.tbls⟩, ⟨m, hn.sameBut hs (Ne.symm (cne x c hc)), fun j y v' e1 e2 e3 => ?_⟩, fun y c' e => ?_, I.free, I.freeC, fun p hp => ?_, tracked ⟨oc, hoc, I.freeC x c hc⟩ hs, by simpa using I.len⟩ ⟨c, hs, .inr hc⟩
    · exact (hs.2 b (Nat.ne_of_lt (Nat.lt_of_lt_of_le (Heap.lt_size e) (I.ok.cab x c hfn hc)))).trans (I.base.keep b o e n hb hx)
    · obtain ⟨sl, e1⟩ := I.base.slot b o e n hb hx
      exact ⟨sl, (hs.2 b (Nat.ne_of_lt (Nat.lt_of_lt_of_le (Heap.lt_size e) (I.ok.cab x c hfn hc)))).trans e1⟩
    · obtain ⟨o', e1⟩ := I.base.there b o e hx
      exact ⟨o', (hs.2 b (Nat.ne_of_lt (Nat.lt_of_lt_of_le (Heap.lt_size e) (I.ok.cab x c hfn hc)))).trans e1⟩
    · by_cases hj : j = i
      · subst hj
        rw [hi] at e1; cases e1
        rw [List.getElem?_set_self hiσ] at e2
        cases e2
        exact ⟨u, r, .inr ⟨.inl hk, c, hc, hc'⟩⟩
      · rw [List.getElem?_set_ne (Ne.symm hj)] at e2
        obtain ⟨u', r', q⟩ := hl j y v' e1 e2 e3
        refine ⟨u', r', ?_⟩
        rcases q with q | ⟨k, c', e, z'⟩
        · exact .inl q
        · refine .inr ⟨k, c', e, z'.sameBut hs ?_⟩
          rintro rfl
          exact hj (nodup_ix hN e1 (I.ok.inj _ _ _ e hc ▸ hi))
    · by_cases hcc : c' = c
      · subst hcc; exact ⟨_, hc'⟩
      · obtain ⟨w2, z2⟩ := I.cell y c' e
        exact ⟨w2, z2.sameBut hs hcc⟩
    · obtain ⟨e, n, ne, nf, d⟩ := I.pin p hp
      refine ⟨(hs.2 p.1 ?_).trans e, n, ne, nf, d⟩
      intro q
      rw [q, hoc] at e
      have q' : oc = p.2 := Option.some.inj e
      exact d w' (by rw [← q']; exact hocd)
theorem store_ok {M : Model} {A : Around} {E : Value → Shared → Prop} {i : Nat} {x : Str} {v : V} {u : Value} {Q : Unit → Shared → Prop} (I : Inv X pins σ H s) (hN : X.N.Nodup) (hi : X.N[i]? = some x) (hx : Loc X.env.scope x) (r : RelV v u)
    (h : ∀ s', Inv X pins (σ.set i (some v)) H s' → Q () s') (hf : X.fn x = true ∨ X.env.scope.names.lookup x = some .local := by first | exact .inl rfl | exact .inr rfl | assumption) : wpAny M A (storeName X.env x u) Q E s :=
  store_ok2 I hN hi hx r (fun s' I' _ => h s' I') hf
/-- behind a call or a block, the state as it is -/
theorem Inv.call' {s' : Shared} {ch : List Addr} (I : Inv X pins σ H s) (ho : s'.os = s.os) (u : Un (frs X.stack) ch H H' s.heap s'.heap) (hok : HOk X.prog X.w H' s'.heap) (hg : AllBare s'.gens)
    (hch : ∀ b ∈ ch, (b ∈ X.ex ∨ X.s_0.heap.objs.size ≤ b) ∧ b ≠ X.env.locals ∧ (∀ x c, X.env.cells.lookup x = some c → c ≠ b) ∧ ∀ p ∈ X.pn ++ pins, p.1 ≠ b) : Inv X pins σ H' s' := by
  obtain ⟨h', g', d', t', o'⟩ := s'
  have e : o' = s.os := ho
  subst e
  exact I.call (g' := g') (t' := t') (d' := d') u hok hg hch
end

/-! ### the judgements -/
/-- an exception: its class, its own dict's address (where it has one), the abstract heap behind it -/
abbrev XK := Value → Option Addr → Hp → Prop
abbrev St := List (Option V)
abbrev VK := V → Hp → Prop
/-- an expression's reading; a test's; an argument list's -/
abbrev TE := St → Hp → VK → Prop
abbrev TT := St → Hp → (Bool → Hp → Prop) → Prop
abbrev TA := St → Hp → (List V → Hp → Prop) → Prop
/-- what is wanted behind a statement -/
structure Ends where
  nx : St → Hp → Prop
  rt : VK
  bk : St → Hp → Prop := fun _ _ => False
  ct : St → Hp → Prop := fun _ _ => False
abbrev TS := Ends → St → Hp → Prop

def EP (X : Cx) (pins : List (Addr × Obj)) (σ : St) (Q : VK) (u : Value) (s' : Shared) : Prop := ∃ v H', Inv X pins σ H' s' ∧ RelV v u ∧ Q v H'
def TP (X : Cx) (pins : List (Addr × Obj)) (σ : St) (Q : Bool → Hp → Prop) (b : Bool) (s' : Shared) : Prop := ∃ H', Inv X pins σ H' s' ∧ Q b H'
def AP (X : Cx) (pins : List (Addr × Obj)) (σ : St) (Q : List V → Hp → Prop) (us : List Value) (s' : Shared) : Prop := ∃ vs H', Inv X pins σ H' s' ∧ Vals vs us ∧ Q vs H'
def SP (X : Cx) (pins : List (Addr × Obj)) (D : Ends) (f : Flow) (s' : Shared) : Prop :=
  match f with
  | .next => ∃ σ' H', Inv X pins σ' H' s' ∧ D.nx σ' H'
  | .brk => ∃ σ' H', Inv X pins σ' H' s' ∧ D.bk σ' H'
  | .cont => ∃ σ' H', Inv X pins σ' H' s' ∧ D.ct σ' H'
  | .ret u => ∃ v σ' H', Inv X pins σ' H' s' ∧ RelV v u ∧ D.rt v H'

def PE (X : Cx) (e : Expr) (t : TE) : Prop :=
  ∀ (pins : List (Addr × Obj)) (s : Shared) (σ : St) (H : Hp) (Q : VK), Inv X pins σ H s → t σ H Q → wpAny (model X.prog X.w) X.A (eval e X.env) (EP X pins σ Q) X.xe s
def PT (X : Cx) (e : Expr) (t : TT) : Prop :=
  ∀ (pins : List (Addr × Obj)) (s : Shared) (σ : St) (H : Hp) (Q : Bool → Hp → Prop), Inv X pins σ H s → t σ H Q → wpAny (model X.prog X.w) X.A (isTrue e X.env (eval e X.env)) (TP X pins σ Q) X.xe s
/-- a test whatever its 'whole' is (and, or) -/
def PW (X : Cx) (e : Expr) (t : TT) : Prop :=
  ∀ (whole : Sem Value) (pins : List (Addr × Obj)) (s : Shared) (σ : St) (H : Hp) (Q : Bool → Hp → Prop), Inv X pins σ H s → t σ H Q → wpAny (model X.prog X.w) X.A (isTrue e X.env whole) (TP X pins σ Q) X.xe s
theorem PW.pt {X : Cx} {e : Expr} {t : TT} (h : PW X e t) : PT X e t := h _
/-- an argument list (no star), from the left -/
def PA (X : Cx) (es : List Expr) (t : TA) : Prop :=
  ∀ (pos : Pos) (pins : List (Addr × Obj)) (s : Shared) (σ : St) (H : Hp) (Q : List V → Hp → Prop), Inv X pins σ H s → t σ H Q → wpAny (model X.prog X.w) X.A (spliced (backTo pos (starEach es X.env))) (AP X pins σ Q) X.xe s
def PS (X : Cx) (st : Stmt) (t : TS) : Prop :=
  ∀ (pins : List (Addr × Obj)) (s : Shared) (σ : St) (H : Hp) (D : Ends), Inv X pins σ H s → t D σ H → wpAny (model X.prog X.w) X.A (exec st X.env) (SP X pins D) X.xe s
def PSs (X : Cx) (st : List Stmt) (t : TS) : Prop :=
  ∀ (pins : List (Addr × Obj)) (s : Shared) (σ : St) (H : Hp) (D : Ends), Inv X pins σ H s → t D σ H → wpAny (model X.prog X.w) X.A (execs st X.env) (SP X pins D) X.xe s
/-- weaken the end -/
theorem thn {α : Type} {t : Sem α} {Q Q' : α → Shared → Prop} {M : Model} {A : Around} {E : Value → Shared → Prop} {s : Shared} (h : wpAny M A t Q E s) (hQ : ∀ a s, Q a s → Q' a s) : wpAny M A t Q' E s := wpAny_mono h hQ fun _ _ x => x
end L2

namespace L2
open PySem PySem.Spec PyProof.Rows
section
variable {X : Cx}

/-- two expressions in a row -/
theorem bin {a b : Expr} {ta tb : TE} (ha : PE X a ta) (hb : PE X b tb) {pins : List (Addr × Obj)} {s : Shared} {σ : St} {H : Hp} {R : V → V → Hp → Prop} (I : Inv X pins σ H s) (h : ta σ H fun x H1 => tb σ H1 fun y H2 => R x y H2)
    {α : Type} {Q : α → Shared → Prop} {f : Value → Value → Sem α}
    (hf : ∀ v u s2 x y H2, Inv X pins σ H2 s2 → RelV x v → RelV y u → R x y H2 → wpAny (model X.prog X.w) X.A (f v u) Q X.xe s2) :
    wpAny (model X.prog X.w) X.A (eval a X.env) (fun v s₁ => wpAny (model X.prog X.w) X.A (eval b X.env) (fun u s₂ => wpAny (model X.prog X.w) X.A (f v u) Q X.xe s₂) X.xe s₁) X.xe s := by
  refine thn (ha pins s σ H _ I h) fun v s1 ⟨x, H1, I1, r1, q1⟩ => ?_
  refine thn (hb pins s1 σ H1 _ I1 q1) fun u s2 ⟨y, H2, I2, r2, q2⟩ => ?_
  exact hf v u s2 x y H2 I2 r1 r2 q2

/-! ### names and constants -/
def tVar (i : Nat) : TE := fun σ H Q => ∃ v, σ[i]? = some (some v) ∧ Q v H
def tC (v : V) : TE := fun _ H Q => Q v H
theorem pe_var {i : Nat} {x : Str} {pos : Pos} (hN : X.N[i]? = some x) (hv : Vis X.env.scope x) (hd : (x == ("__debug__" : Str)) = false := by decide) (hcd : (x == ("__classdict__" : Str)) = false := by decide) : PE X (.Name x pos) (tVar i) := by
  intro pins s σ H Q I h
  obtain ⟨v, e, h⟩ := h
  obtain ⟨m, hn, hl⟩ := I.loc
  obtain ⟨u, r, l⟩ := hl i x v hN e hv
  have fin : EP X pins σ Q u s := ⟨v, H, I, r, h⟩
  rcases l with ⟨hk, hm⟩ | ⟨hk, c, hc, hcell⟩
  · exact wpAny_Name (wpAny_loadName_local I.ok.kind hk hn hm fin) hd
  · rcases hk with hk | hk
    · exact wpAny_Name (wpAny_loadName_cell I.ok.kind hk hc hcell fin) hd
    · exact wpAny_Name (wpAny_loadName_free I.ok.kind hk hc hcell fin hcd) hd
theorem pe_int {i j pos} : PE X (.Constant (.int i) j pos) (tC (.int i)) := fun _ _ _ H _ I h => wpAny_Constant_int ⟨.int i, H, I.tok _, ⟨_, rfl⟩, h⟩
theorem pe_bl {b j pos} : PE X (.Constant (.bool b) j pos) (tC (.bl b)) := fun _ _ _ H _ I h => Constant_bool ⟨.bl b, H, I, rfl, h⟩
theorem pe_non {j pos} : PE X (.Constant .none j pos) (tC .non) := fun _ _ _ H _ I h => Constant_none ⟨.non, H, I, rfl, h⟩
theorem pe_str {x j pos} : PE X (.Constant (.str x) j pos) (tC (.str x)) := fun _ _ _ H _ I h => Calls.Constant_str ⟨.str x, H, I.tok _, ⟨_, rfl⟩, h⟩

/-- a global name of the def -/
def Gl (X : Cx) (x : Str) : Prop := X.env.kindOf x = some .globalImplicit
theorem ld_glob {E : Value → Shared → Prop} {pins : List (Addr × Obj)} {s : Shared} {σ : St} {H : Hp} {x : Str} {u : Value} {pos : Pos} {Q : Value → Shared → Prop} (I : Inv X pins σ H s) (hg : Gl X x) (hm : X.mg x = some u) (h : Q u s)
    (hd : (x == ("__debug__" : Str)) = false := by decide) : wpAny (model X.prog X.w) X.A (eval (.Name x pos) X.env) Q E s :=
  Calls.Name_function_global I.ok.kind hg (Calls.loadGlobal_global (by rw [I.ok.glob]; exact I.mod.glob.keeps I.bk) hm h) hd
theorem ld_blt {E : Value → Shared → Prop} {pins : List (Addr × Obj)} {s : Shared} {σ : St} {H : Hp} {x : Str} {u : Value} {pos : Pos} {Q : Value → Shared → Prop} (I : Inv X pins σ H s) (hg : Gl X x) (hm : X.mg x = none) (hv : bootBuiltins x = some u) (h : Q u s)
    (hn : x ≠ "__name__" := by decide) (hd : (x == ("__debug__" : Str)) = false := by decide) : wpAny (model X.prog X.w) X.A (eval (.Name x pos) X.env) Q E s := by
  obtain ⟨mb, h1, h2⟩ := I.mod.blt
  exact Calls.Name_function_global I.ok.kind hg (Calls.loadGlobal_builtin (by rw [I.ok.glob]; exact I.mod.glob.keeps I.bk) hm (by rw [I.ok.blt]; exact h1.keeps I.bk) ((h2 x hn).trans hv) h) hd
/-- a module's constant, a class, a function, as a value -/
theorem pe_glob {x : Str} {v : V} {u : Value} {pos : Pos} (hg : Gl X x) (hm : X.mg x = some u) (r : RelV v u) (hd : (x == ("__debug__" : Str)) = false := by decide) : PE X (.Name x pos) (tC v) :=
  fun _ _ _ H _ I h => ld_glob I hg hm ⟨v, H, I, r, h⟩ hd
theorem pe_bltn {x : Str} {v : V} {u : Value} {pos : Pos} (hg : Gl X x) (hm : X.mg x = none) (hv : bootBuiltins x = some u) (r : RelV v u) (hn : x ≠ "__name__" := by decide) (hd : (x == ("__debug__" : Str)) = false := by decide) : PE X (.Name x pos) (tC v) :=
  fun _ _ _ H _ I h => ld_blt I hg hm hv ⟨v, H, I, r, h⟩ hn hd

/-! ### arithmetic -/
/-- two ints -/
def t2I (ta tb : TE) (k : Int → Int → Hp → Prop) : St → Hp → Prop := fun σ H => ta σ H fun x H1 => tb σ H1 fun y H2 => ∃ i j, x = .int i ∧ y = .int j ∧ k i j H2
variable {a b : Expr} {ta tb : TE} {pos : Pos}

/-! ### comparisons -/
def PC (X : Cx) (op : CmpOp) (a b : Expr) (t : TE) : Prop :=
  ∀ (pins : List (Addr × Obj)) (s : Shared) (σ : St) (H : Hp) (Q : VK), Inv X pins σ H s → t σ H Q →
    wpAny (model X.prog X.w) X.A (eval a X.env) (fun v s₁ => wpAny (model X.prog X.w) X.A (eval b X.env) (fun u s₂ => wpAny (model X.prog X.w) X.A (compareOp op v u) (EP X pins σ Q) X.xe s₂) X.xe s₁) X.xe s
theorem nobehind (b : Expr) {op : CmpOp} (h : op ≠ .In) (h2 : op ≠ .NotIn) : behindInMarks op b = false := by
  have e1 : (op == CmpOp.In) = false := by cases op <;> first | rfl | exact absurd rfl h
  have e2 : (op == CmpOp.NotIn) = false := by cases op <;> first | rfl | exact absurd rfl h2
  cases b <;> simp [behindInMarks, e1, e2]
def tCmp (p : Int → Int → Bool) (ta tb : TE) : TE := fun σ H Q => t2I ta tb (fun i j H2 => Q (.bl (p i j)) H2) σ H
abbrev tLt : TE → TE → TE := tCmp fun i j => decide (i < j)
abbrev tGt : TE → TE → TE := tCmp fun i j => decide (j < i)
/-- a comparison of two ints, by its rule -/
theorem pc_int {op : CmpOp} {p : Int → Int → Bool} (ha : PE X a ta) (hb : PE X b tb)
    (rule : ∀ (i j : Int) (t u : Tok) (Q : Value → Shared → Prop) (s : Shared), Q (.bool (p i j)) s → wpAny (model X.prog X.w) X.A (compareOp op (.int i t) (.int j u)) Q X.xe s) : PC X op a b (tCmp p ta tb) := by
  intro pins s σ H Q I h
  refine bin ha hb I h fun v u s2 x y H2 I2 rx ry q => ?_
  obtain ⟨i, j, rfl, rfl, q⟩ := q
  obtain ⟨t, rfl⟩ := rx
  obtain ⟨t', rfl⟩ := ry
  exact rule i j t t' _ s2 ⟨.bl _, H2, I2, rfl, q⟩
theorem pc_lt (ha : PE X a ta) (hb : PE X b tb) : PC X .Lt a b (tLt ta tb) := pc_int ha hb fun _ _ _ _ _ _ h => lt_int h
theorem pc_gt (ha : PE X a ta) (hb : PE X b tb) : PC X .Gt a b (tGt ta tb) := pc_int ha hb fun _ _ _ _ _ _ h => gt_int h
/-- a comparison as a value, as a test -/
def tB (t : TE) : TT := fun σ H Q => t σ H fun x H1 => ∃ c, x = .bl c ∧ Q c H1
theorem pe_cmp {op : CmpOp} {t : TE} (h : PC X op a b t) (h1 : behindInMarks op b = false := by first | exact nobehind _ (by decide) (by decide) | rfl) : PE X (.Compare a [op] [b] pos) t := fun pins s σ H Q I hw => wpAny_Compare1 (h pins s σ H Q I hw) h1
theorem pt_cmp {op : CmpOp} {t : TE} (h : PC X op a b t) (h1 : behindInMarks op b = false := by first | exact nobehind _ (by decide) (by decide) | rfl) : PT X (.Compare a [op] [b] pos) (tB t) := by
  intro pins s σ H Q I hw
  refine wpAny_isTrue_Compare1 (thn (h pins s σ H _ I hw) fun v s1 h1 => thn h1 fun u s2 h2 => thn h2 fun c s3 ⟨x, H1, I1, r1, q1⟩ => ?_) h1
  obtain ⟨d, rfl, q⟩ := q1
  cases r1
  exact wpAny_truthy_bool ⟨H1, I1, q⟩
/-- an expression whose value is a bool, as a test -/
theorem pt_val {e : Expr} {t : TE} (h : PE X e t) (he : ∀ whole, isTrue e X.env whole = (do let v ← whole; standAt e.pos; holding [v] (truthy v)) := by intro _; rfl) : PT X e (tB t) := by
  intro pins s σ H Q I hw
  refine isTrue_plain (thn (h pins s σ H _ I hw) fun v s1 ⟨x, H1, I1, r1, q1⟩ => ?_) (he _)
  obtain ⟨d, rfl, q⟩ := q1
  cases r1
  exact wpAny_truthy_bool ⟨H1, I1, q⟩

/-! ### and, or, not -/
variable {tA tB' : TT} {rest : List Expr}
def tAnd (t u : TT) : TT := fun σ H Q => t σ H fun c H1 => if c = true then u σ H1 Q else Q false H1
def tOr (t u : TT) : TT := fun σ H Q => t σ H fun c H1 => if c = true then Q true H1 else u σ H1 Q
def tNot (t : TT) : TT := fun σ H Q => t σ H fun c H1 => Q (!c) H1
theorem pw_and1 (ha : PT X a tA) : PW X (.BoolOp .And [a] pos) tA := by
  intro wh pins s σ H Q I h
  refine isTrue_and (thn (ha pins s σ H Q I h) fun c s1 e => ?_)
  cases c with
  | true => exact isTrue_and_nil e
  | false => exact e
theorem pw_or1 (ha : PT X a tA) : PW X (.BoolOp .Or [a] pos) tA := by
  intro wh pins s σ H Q I h
  refine isTrue_or (thn (ha pins s σ H Q I h) fun c s1 e => ?_)
  cases c with
  | false => exact isTrue_or_nil e
  | true => exact e
theorem pw_and (ha : PT X a tA) (hb : PW X (.BoolOp .And (b :: rest) pos) tB') : PW X (.BoolOp .And (a :: b :: rest) pos) (tAnd tA tB') := by
  intro wh pins s σ H Q I h
  refine isTrue_and (thn (ha pins s σ H _ I h) fun c s1 ⟨H1, I1, q1⟩ => ?_)
  cases c with
  | true => exact hb wh pins s1 σ H1 Q I1 q1
  | false => exact ⟨H1, I1, q1⟩
theorem pw_or (ha : PT X a tA) (hb : PW X (.BoolOp .Or (b :: rest) pos) tB') : PW X (.BoolOp .Or (a :: b :: rest) pos) (tOr tA tB') := by
  intro wh pins s σ H Q I h
  refine isTrue_or (thn (ha pins s σ H _ I h) fun c s1 ⟨H1, I1, q1⟩ => ?_)
  cases c with
  | true => exact ⟨H1, I1, q1⟩
  | false => exact hb wh pins s1 σ H1 Q I1 q1
theorem pt_not (ha : PT X a tA) : PT X (.UnaryOp .Not a pos) (tNot tA) := by
  intro pins s σ H Q I h
  exact isTrue_not (ha pins s σ H (fun c H1 => Q (!c) H1) I h)
/-- .. as values (bools) -/
def tAndV (ta tb : TE) : TE := fun σ H Q => ta σ H fun x H1 => ∃ c, x = .bl c ∧ if c = true then tb σ H1 Q else Q (.bl false) H1
def tNotV (ta : TE) : TE := fun σ H Q => ta σ H fun x H1 => ∃ c, x = .bl c ∧ Q (.bl (!c)) H1
theorem pe_one {op} {t : TE} (h : PE X a t) : PE X (.BoolOp op [a] pos) t := fun pins s σ H Q I hw => BoolOp_one (h pins s σ H Q I hw)
theorem pe_and (ha : PE X a ta) (hb : PE X (.BoolOp .And (b :: rest) pos) tb) : PE X (.BoolOp .And (a :: b :: rest) pos) (tAndV ta tb) := by
  intro pins s σ H Q I h
  refine BoolOp_and (thn (ha pins s σ H _ I h) fun v s1 ⟨x, H1, I1, r1, q1⟩ => ?_)
  obtain ⟨c, rfl, q1⟩ := q1
  cases r1
  refine wpAny_truthy_bool ?_
  cases c with
  | true => exact hb pins s1 σ H1 Q I1 q1
  | false => exact ⟨.bl false, H1, I1, rfl, q1⟩
theorem pe_not (ha : PE X a ta) : PE X (.UnaryOp .Not a pos) (tNotV ta) := by
  intro pins s σ H Q I h
  refine UnaryOp_ (thn (ha pins s σ H _ I h) fun v s1 ⟨x, H1, I1, r1, q1⟩ => ?_)
  obtain ⟨c, rfl, q1⟩ := q1
  cases r1
  exact not_of (wpAny_truthy_bool ⟨.bl (!c), H1, I1, rfl, q1⟩)
/-- a if t else b -/
def tIf (t : TT) (ta tb : TE) : TE := fun σ H Q => t σ H fun c H1 => if c = true then ta σ H1 Q else tb σ H1 Q
theorem pe_ifExp {c : Expr} (hc : PT X c tA) (ha : PE X a ta) (hb : PE X b tb) : PE X (.IfExp c a b pos) (tIf tA ta tb) := by
  intro pins s σ H Q I h
  refine wpAny_IfExp (thn (hc pins s σ H _ I h) fun d s1 ⟨H1, I1, q1⟩ => ?_)
  cases d with
  | true => exact ha pins s1 σ H1 Q I1 q1
  | false => exact hb pins s1 σ H1 Q I1 q1
end
end L2

namespace L2
open PySem PySem.Spec PyProof.Rows

/-! ### a list, a tuple that is read: tracked, frozen, or an object of the module -/
def SqL (K : PySem.W.Frag) (H : Hp) (a : Addr) (xs : List V) : Prop :=
  Rd H a (.lst xs) ∨
    ∃ (o : Obj) (its : Array Value) (n : Nat), K.lookup a = some o ∧ o.cls = .type "list" ∧ o.dict = none ∧ o.data = .seq its n ∧ its.size ≤ sizeLine ∧ Vals xs its.toList
def SqT (K : PySem.W.Frag) (H : Hp) (a : Addr) (xs : List V) : Prop :=
  Rd H a (.tup xs) ∨
    ∃ (o : Obj) (its : Array Value) (n : Nat), K.lookup a = some o ∧ o.cls = .type "tuple" ∧ o.data = .seq its n ∧ its.size ≤ sizeLine ∧ Vals xs its.toList
def absV : Value → Option V
  | .none => some .non
  | .bool b => some (.bl b)
  | .int i _ => some (.int i)
  | .str x _ => some (.str x)
  | .bytes b _ => some (.byt b)
  | .float b _ => some (.flt b)
  | .ref a => some (.ref a)
  | .type n => some (.ty n)
  | _ => none
theorem RelV.abs {x : V} {u : Value} (r : RelV x u) : absV u = some x := by
  cases x with
  | non => cases r; rfl
  | bl _ => cases r; rfl
  | int _ => obtain ⟨t, rfl⟩ := r; rfl
  | str _ => obtain ⟨t, rfl⟩ := r; rfl
  | byt _ => obtain ⟨t, rfl⟩ := r; rfl
  | flt _ => obtain ⟨t, rfl⟩ := r; rfl
  | ref _ => cases r; rfl
  | ty _ => cases r; rfl
theorem RelV.inj {x y : V} {u : Value} (r : RelV x u) (q : RelV y u) : x = y := Option.some.inj (r.abs.symm.trans q.abs)
theorem Vals.inj : ∀ {xs ys : List V} {us : List Value}, Vals xs us → Vals ys us → xs = ys
  | _, _, _, .nil, .nil => rfl
  | _, _, _, .cons r t, .cons r' t' => by rw [r.inj r', Vals.inj t t']
section
variable {X : Cx} {pins : List (Addr × Obj)} {σ : St} {H : Hp} {s : Shared} {a : Addr} {xs ys : List V}
theorem SqL.of {K : PySem.W.Frag} (h : H a = some (.lst xs)) : SqL K H a xs := .inl (.inl h)
theorem SqT.of {K : PySem.W.Frag} (h : H a = some (.tup xs)) : SqT K H a xs := .inl (.inl h)
theorem Inv.list (I : Inv X pins σ H s) (h : SqL X.K H a xs) : ∃ its : List Value, Vals xs its ∧ PlainL s.heap a its.toArray ∧ xs.length ≤ sizeLine := by
  rcases h with h | ⟨o, its, n, hk, hc, hd, hs, hz, r⟩
  · obtain ⟨z, its, n, r, e⟩ := h.ok I.hok
    exact ⟨its, r, ⟨_, n, e, rfl, rfl, rfl⟩, z⟩
  · refine ⟨its.toList, r, ⟨o, n, I.kIn a o hk, hc, hd, by simpa using hs⟩, ?_⟩
    have e := r.length
    simp only [Array.length_toList] at e
    omega
theorem Inv.tuple (I : Inv X pins σ H s) (h : SqT X.K H a xs) : ∃ its : List Value, Vals xs its ∧ IsTup s.heap a its.toArray ∧ xs.length ≤ sizeLine := by
  rcases h with h | ⟨o, its, n, hk, hc, hs, hz, r⟩
  · obtain ⟨z, its, r, p⟩ := h.ok I.hok
    exact ⟨its, r, p, z⟩
  · refine ⟨its.toList, r, ⟨o, I.kIn a o hk, hc, n, by simpa using hs⟩, ?_⟩
    have e := r.length
    simp only [Array.length_toList] at e
    omega
theorem Inv.list_inj (I : Inv X pins σ H s) (h : SqL X.K H a xs) (h' : SqL X.K H a ys) : xs = ys := by
  obtain ⟨its, r, ⟨o, n, e, _, _, d⟩, _⟩ := I.list h
  obtain ⟨its', r', ⟨o', n', e', _, _, d'⟩, _⟩ := I.list h'
  rw [e] at e'; cases e'
  rw [d] at d'
  injection d' with d1 _
  have : its = its' := by simpa using congrArg Array.toList d1
  subst this
  exact r.inj r'
theorem Inv.tuple_inj (I : Inv X pins σ H s) (h : SqT X.K H a xs) (h' : SqT X.K H a ys) : xs = ys := by
  obtain ⟨its, r, ⟨o, e, _, n, d⟩, _⟩ := I.tuple h
  obtain ⟨its', r', ⟨o', e', _, n', d'⟩, _⟩ := I.tuple h'
  rw [e] at e'; cases e'
  rw [d] at d'
  injection d' with d1 _
  have : its = its' := by simpa using congrArg Array.toList d1
  subst this
  exact r.inj r'
end

/-! ### another wish about exceptions -/
abbrev Cx.wish (X : Cx) (E : Value → Shared → Prop) : Cx := { X with xe := E }
/-- no exception leaves -/
abbrev Cx.nox (X : Cx) : Cx := X.wish fun _ _ => False
theorem Cx.Ok.wish {X : Cx} (ok : X.Ok) (E : Value → Shared → Prop) : (X.wish E).Ok :=
  ⟨ok.mod, ok.kind, ok.glob, ok.blt, ok.above, ok.inj, ok.has, ok.cab, ok.hd, ok.frames, ok.stk, ok.exf, ok.bs, ok.bsz, ok.noex, ok.exfs, ok.funs, ok.frf⟩
theorem Cx.Ok.unwish {X : Cx} {E : Value → Shared → Prop} (ok : (X.wish E).Ok) : X.Ok :=
  ⟨ok.mod, ok.kind, ok.glob, ok.blt, ok.above, ok.inj, ok.has, ok.cab, ok.hd, ok.frames, ok.stk, ok.exf, ok.bs, ok.bsz, ok.noex, ok.exfs, ok.funs, ok.frf⟩
section
variable {X : Cx} {pins : List (Addr × Obj)} {σ : St} {H : Hp} {s : Shared} {E : Value → Shared → Prop}
theorem Inv.wish (I : Inv X pins σ H s) (E : Value → Shared → Prop) : Inv (X.wish E) pins σ H s := ⟨I.ok.wish E, I.os, I.bare, I.base, I.loc, I.cell, I.free, I.freeC, I.pin, I.hok, I.len⟩
theorem Inv.unwish (I : Inv (X.wish E) pins σ H s) : Inv X pins σ H s := ⟨I.ok.unwish, I.os, I.bare, I.base, I.loc, I.cell, I.free, I.freeC, I.pin, I.hok, I.len⟩
theorem SP.unwish {D : Ends} {f : Flow} {s' : Shared} (h : SP (X.wish E) pins D f s') : SP X pins D f s' := by
  cases f with
  | next => obtain ⟨σ', H', I, q⟩ := h; exact ⟨σ', H', I.unwish, q⟩
  | brk => obtain ⟨σ', H', I, q⟩ := h; exact ⟨σ', H', I.unwish, q⟩
  | cont => obtain ⟨σ', H', I, q⟩ := h; exact ⟨σ', H', I.unwish, q⟩
  | ret u => obtain ⟨v, σ', H', I, r, q⟩ := h; exact ⟨v, σ', H', I.unwish, r, q⟩
theorem PE.nox {e : Expr} {t : TE} (h : PE X.nox e t) : PE X e t := fun pins s σ H Q I hw =>
  wpAny_mono (h pins s σ H Q (I.wish _) hw) (fun _ _ ⟨v, H', I', r, q⟩ => ⟨v, H', I'.unwish, r, q⟩) fun _ _ z => False.elim z
theorem PT.nox {e : Expr} {t : TT} (h : PT X.nox e t) : PT X e t := fun pins s σ H Q I hw =>
  wpAny_mono (h pins s σ H Q (I.wish _) hw) (fun _ _ ⟨H', I', q⟩ => ⟨H', I'.unwish, q⟩) fun _ _ z => False.elim z
theorem PSs.nox {st : List Stmt} {t : TS} (h : PSs X.nox st t) : PSs X st t := fun pins s σ H D I hw =>
  wpAny_mono (h pins s σ H D (I.wish _) hw) (fun _ _ q => q.unwish) fun _ _ z => False.elim z
end

/-! ### blocks and small statements -/
section
variable {X : Cx} {st : Stmt} {rest : List Stmt} {t u : TS} {e : Expr} {te : TE} {pos : Pos}
def tNext : TS := fun D σ H => D.nx σ H
def tSeq (t u : TS) : TS := fun D σ H => t { D with nx := u D } σ H
theorem pss_nil : PSs X [] tNext := fun _ _ σ H _ I h => wpAny_execs_nil ⟨σ, H, I, h⟩
theorem pss_cons (h1 : PS X st t) (h2 : PSs X rest u) : PSs X (st :: rest) (tSeq t u) := by
  intro pins s σ H D I h
  refine wpAny_execs_cons (thn (h1 pins s σ H { D with nx := u D } I h) fun f s1 q => ?_)
  cases f with
  | next =>
    obtain ⟨σ', H', I', q⟩ := q
    exact h2 pins s1 σ' H' D I' q
  | ret v => exact q
  | brk => exact q
  | cont => exact q
theorem pss_one (h1 : PS X st t) : PSs X [st] t := by
  intro pins s σ H D I h
  refine wpAny_execs_cons (thn (h1 pins s σ H D I h) fun f s1 q => ?_)
  cases f with
  | next => exact wpAny_execs_nil q
  | ret v => exact q
  | brk => exact q
  | cont => exact q
/-- in a def's body nothing is shown -/
theorem Inv.quiet {pins : List (Addr × Obj)} {σ : St} {H : Hp} {s : Shared} (I : Inv X pins σ H s) : interactive X.env = false := by simp [interactive, I.ok.kind]
/-- an expression whose value is dropped -/
def tDrop (te : TE) : TS := fun D σ H => te σ H fun _ H1 => D.nx σ H1
theorem ps_expr (he : PE X e te) (hs : swapsWith e none pos.line X.env = pure false := by rfl) : PS X (.Expr e pos) (tDrop te) := by
  intro pins s σ H D I h
  exact wpAny_Expr_any (thn (he pins s σ H _ I h) fun v s1 ⟨x, H1, I1, r1, q1⟩ => ⟨σ, H1, I1, q1⟩) I.quiet hs
def tRet (te : TE) : TS := fun D σ H => te σ H D.rt
theorem ps_ret (he : PE X e te) : PS X (.Return (some e) pos) (tRet te) := by
  intro pins s σ H D I h
  exact wpAny_Return_some (thn (he pins s σ H _ I h) fun v s1 ⟨x, H1, I1, r1, q1⟩ => ⟨x, σ, H1, I1, r1, q1⟩)
def tIfS (c : TT) (t u : TS) : TS := fun D σ H => c σ H fun b H1 => if b = true then t D σ H1 else u D σ H1
theorem ps_if {c : Expr} {a b : List Stmt} {tc : TT} (hc : PT X c tc) (ha : PSs X a t) (hb : PSs X b u) : PS X (.If c a b pos) (tIfS tc t u) := by
  intro pins s σ H D I h
  refine wpAny_If (thn (hc pins s σ H _ I h) fun d s1 ⟨H1, I1, q1⟩ => ?_)
  cases d with
  | true => exact ha pins s1 σ H1 D I1 q1
  | false => exact hb pins s1 σ H1 D I1 q1
/-- code that the proof never comes to -/
def tNever : TS := fun _ _ _ => False
theorem pss_never {sts : List Stmt} : PSs X sts tNever := fun _ _ _ _ _ _ h => h.elim
end

/-! ### targets -/
abbrev TG := V → St → Hp → (St → Hp → Prop) → Prop
abbrev TGs := List V → St → Hp → (St → Hp → Prop) → Prop
def PG (X : Cx) (target : Expr) (t : TG) : Prop :=
  ∀ (pins : List (Addr × Obj)) (s : Shared) (σ : St) (H : Hp) (v : V) (u : Value) (Q : St → Hp → Prop), Inv X pins σ H s → RelV v u → t v σ H Q →
    wpAny (model X.prog X.w) X.A (assign target X.env u) (fun _ s' => ∃ σ' H', Inv X pins σ' H' s' ∧ Q σ' H') X.xe s
/-- several targets, one after another -/
def PGs (X : Cx) (ts : List Expr) (t : TGs) : Prop :=
  ∀ (pins : List (Addr × Obj)) (s : Shared) (σ : St) (H : Hp) (vs : List V) (us : List Value) (Q : St → Hp → Prop), Inv X pins σ H s → Vals vs us → t vs σ H Q →
    wpAny (model X.prog X.w) X.A (assignInOrder ((assignEach ts X.env).map (·.2)) us) (fun _ s' => ∃ σ' H', Inv X pins σ' H' s' ∧ Q σ' H') X.xe s
/-- o[i] = v, by values -/
abbrev TSet := V → V → V → Hp → (Hp → Prop) → Prop
def PSet (X : Cx) (t : TSet) : Prop :=
  ∀ (pins : List (Addr × Obj)) (s : Shared) (σ : St) (H : Hp) (o i v : V) (ov iv u : Value) (Q : Hp → Prop), Inv X pins σ H s → RelV o ov → RelV i iv → RelV v u → t o i v H Q →
    wpAny (model X.prog X.w) X.A (setItem ov iv u) (fun _ s' => ∃ H', Inv X pins σ H' s' ∧ Q H') X.xe s
section
variable {X : Cx} {pos : Pos}
def gName (i : Nat) : TG := fun v σ H Q => Q (σ.set i (some v)) H
theorem pg_name {i : Nat} {x : Str} (hN : X.N.Nodup) (hi : X.N[i]? = some x) (hx : Loc X.env.scope x) (hf : X.fn x = true ∨ X.env.scope.names.lookup x = some .local := by first | exact .inl rfl | exact .inr rfl | assumption) : PG X (.Name x pos) (gName i) := by
  intro pins s σ H v u Q I r h
  exact wpAny_assign_Name (store_ok I hN hi hx r (fun s' I' => ⟨_, H, I', h⟩) hf)
def gNil : TGs := fun vs σ H Q => vs = [] ∧ Q σ H
def gCons (t : TG) (u : TGs) : TGs := fun vs σ H Q => ∃ v r, vs = v :: r ∧ t v σ H fun σ' H' => u r σ' H' Q
theorem pgs_nil : PGs X [] gNil := by
  intro pins s σ H vs us Q I r h
  obtain ⟨e, h⟩ := h
  subst e
  cases r
  exact assignInOrder_nil ⟨σ, H, I, h⟩
theorem pgs_cons {e : Expr} {es : List Expr} {t : TG} {u : TGs} (h1 : PG X e t) (h2 : PGs X es u)
    (hs : (assignEach (e :: es) X.env).map (·.2) = assign e X.env :: (assignEach es X.env).map (·.2) := by rfl) : PGs X (e :: es) (gCons t u) := by
  intro pins s σ H vs us Q I r h
  obtain ⟨v, vr, e1, h⟩ := h
  subst e1
  cases r with
  | cons r rr =>
    rw [hs]
    refine assignInOrder_cons (thn (h1 pins s σ H _ _ _ I r h) fun _ s1 ⟨σ1, H1, I1, q1⟩ => ?_)
    exact h2 pins s1 σ1 H1 _ _ Q I1 rr q1
/-- (a, b, ..) = a tuple of that length -/
def gTup (K : PySem.W.Frag) (n : Nat) (t : TGs) : TG := fun v σ H Q => ∃ a xs, v = .ref a ∧ SqT K H a xs ∧ xs.length = n ∧ t xs σ H Q
theorem pg_tup {es : List Expr} {k : Nat} {t : TGs} {n : Nat} (hc : X.calm = true) (h : PGs X es t)
    (hn : (assignEach es X.env).length = n := by rfl) (hst : (assignEach es X.env).findIdx? (·.1) = none := by rfl) : PG X (.Tuple es k pos) (gTup X.K n t) := by
  intro pins s σ H v u Q I r hw
  obtain ⟨a, xs, e1, hq, hl, hw⟩ := hw
  subst e1
  cases r
  obtain ⟨its, rv, ht, hz⟩ := I.tuple hq
  refine assign_Tuple_tuple (I.ok.hd hc) ht (by simp [hn, ← hl, rv.length]) hst fun h' hx => ?_
  have I1 : Inv X pins σ H { s with heap := h' } := I.kept (t' := s.toks) fun b o e => hx b o (Nat.ne_of_lt (Heap.lt_size e)) e
  exact h pins _ σ H xs _ Q I1 (by simpa using rv) hw
/-- o[i] = .. -/
def gSub (to ti : TE) (t : TSet) : TG := fun v σ H Q => to σ H fun o H1 => ti σ H1 fun i H2 => t o i v H2 fun H3 => Q σ H3
theorem pg_sub {o i : Expr} {to ti : TE} {t : TSet} (ho : PE X o to) (hi : PE X i ti) (hs : PSet X t)
    (ha : ∀ v, assign (.Subscript o i pos) X.env v = (do
      let ov ← holding [v] (eval o X.env)
      let iv ← holding [v, ov] (eval i X.env)
      standAt pos
      holding [v, ov, iv] (setItem ov iv v)
      release [v, ov, iv] []) := by intro _; rfl) : PG X (.Subscript o i pos) (gSub to ti t) := by
  intro pins s σ H v u Q I r h
  rw [ha]
  refine wpAny_bind (wpAny_holding (thn (ho pins s σ H _ I h) fun ov s1 ⟨x, H1, I1, r1, q1⟩ => ?_))
  refine wpAny_bind (wpAny_holding (thn (hi pins s1 σ H1 _ I1 q1) fun iv s2 ⟨y, H2, I2, r2, q2⟩ => ?_))
  refine wpAny_bind (wpAny_standAt (wpAny_bind (wpAny_holding (thn (hs pins s2 σ H2 x y v ov iv u _ I2 r1 r2 r q2) fun _ s3 ⟨H3, I3, q3⟩ => ?_))))
  exact wpAny_release ⟨σ, H3, I3, q3⟩
/-- target = value -/
def tAsg (te : TE) (g : TG) : TS := fun D σ H => te σ H fun x H1 => g x σ H1 D.nx
theorem ps_asg {tg e : Expr} {te : TE} {g : TG} (he : PE X e te) (hg : PG X tg g) (hs : swapsWithSole [tg] e pos.line X.env = pure false := by rfl) (hw : swappedStores [tg] e X.env = pure none := by rfl)
    (h1 : (assignEach [tg] X.env).map (·.2) = [assign tg X.env] := by rfl) : PS X (.Assign [tg] e pos) (tAsg te g) := by
  intro pins s σ H D I h
  refine wpAny_Assign_stores (thn (he pins s σ H _ I h) fun v s1 ⟨x, H1, I1, r1, q1⟩ => ?_) hs hw
  rw [h1]
  exact thn (hg pins s1 σ H1 x v _ I1 r1 q1) fun _ s2 q => q
/-- name = value -/
theorem ps_set {i : Nat} {x : Str} {e : Expr} {te : TE} {pos' : Pos} (hN : X.N.Nodup) (hi : X.N[i]? = some x) (hx : Loc X.env.scope x) (he : PE X e te) (hs : swapsWith e (some (.Name x pos')) pos.line X.env = pure false := by rfl) (hf : X.fn x = true ∨ X.env.scope.names.lookup x = some .local := by first | exact .inl rfl | exact .inr rfl | assumption) :
    PS X (.Assign [.Name x pos'] e pos) (tAsg te (gName i)) := by
  intro pins s σ H D I h
  refine wpAny_Assign_Name (thn (he pins s σ H _ I h) fun v s1 ⟨y, H1, I1, r1, q1⟩ => ?_) hs
  exact store_ok I1 hN hi hx r1 (fun s2 I2 => ⟨_, H1, I2, q1⟩) hf
/-- a, b = x, y with plain local names: stored from the right; the pair itself is not tracked (the opening rows as in PyProof/Rows/TupAssign.lean:23) -/
def tPar (i j : Nat) (ta : TA) : TS := fun D σ H => ta σ H fun vs H1 => ∃ v w, vs = [v, w] ∧ D.nx ((σ.set i (some v)).set j (some w)) H1
theorem ps_par {i j : Nat} {x y : Str} {a b : Expr} {ta : TA} {px py pt : Pos} {kt k2 pt2} (hc : X.calm = true) (hN : X.N.Nodup) (hi : X.N[i]? = some x) (hj : X.N[j]? = some y) (hij : i ≠ j)
    (hx : X.env.scope.names.lookup x = some .local) (hy : X.env.scope.names.lookup y = some .local) (ha : PA X [a, b] ta)
    (hw : swappedStores [.Tuple [.Name x px, .Name y py] kt pt] (.Tuple [a, b] k2 pt2) X.env = pure (some [x, y]))
    (hs : swapsWithSole [.Tuple [.Name x px, .Name y py] kt pt] (.Tuple [a, b] k2 pt2) pos.line X.env = pure false := by rfl) :
    PS X (.Assign [.Tuple [.Name x px, .Name y py] kt pt] (.Tuple [a, b] k2 pt2) pos) (tPar i j ta) := by
  intro pins s σ H D I h
  rw [exec_Assign_arm]
  refine wpAny_bind (wpAny_standAt ?_)
  rw [hs]
  refine wpAny_bind (wpAny_pure ?_)
  rw [if_neg (by decide)]
  refine wpAny_bind (Tuple_ (thn (ha _ pins s σ H _ I h) fun us s1 ⟨vs, H1, I1, r1, q1⟩ => ?_))
  obtain ⟨v, w, e1, q1⟩ := q1
  subst e1
  obtain ⟨u1, u2, rfl, rv, rw'⟩ : ∃ u1 u2, us = [u1, u2] ∧ RelV v u1 ∧ RelV w u2 := by
    cases r1 with
    | cons p q =>
      cases q with
      | cons p' q' =>
        cases q'
        exact ⟨_, _, rfl, p, p'⟩
  refine wpAny_newObj_type ?_ (by show 2 ≤ sizeLine; decide)
  have I2 : Inv X pins σ H1 { s1 with heap := s1.heap.push { cls := .type "tuple", data := .seq [u1, u2].toArray } } := I1.kept (t' := s1.toks) fun b o e => Heap.get?_push_of_some _ e
  rw [hw]
  refine wpAny_bind (wpAny_pure ?_)
  show wpAny (model X.prog X.w) X.A (do rule "assign.swapped-stores"; let items ← unpackItems (.ref s1.heap.objs.size) 2 none; assignInOrder [fun v => bindName X.env y v, fun v => bindName X.env x v] items.reverse; pure Flow.next) _ _ _
  refine wpAny_bind (wpAny_rule (wpAny_bind (unpackItems_tuple (items := #[u1, u2]) (I.ok.hd hc) (IsTup.new s1.heap _) fun h' hx' => ?_)))
  have I3 := I2.kept (h' := h') (t' := s1.toks) fun b o e => hx' b o (Nat.ne_of_lt (Heap.lt_size e)) e
  show wpAny _ _ (assignInOrder [fun v => bindName X.env y v, fun v => bindName X.env x v] [u2, u1] >>= fun _ => pure Flow.next) _ _ _
  refine wpAny_bind (assignInOrder_cons (wpAny_bindName (store_ok I3 hN hj (.inl hy) rw' (fun s2 I4 => ?_) (.inr hy))))
  refine assignInOrder_cons (wpAny_bindName (store_ok I4 hN hi (.inl hx) rv (fun s3 I5 => assignInOrder_nil (wpAny_pure ?_)) (.inr hx)))
  rw [List.set_comm _ _ (Ne.symm hij)] at I5
  exact ⟨_, H1, I5, q1⟩
end

/-! ### while -/
section
variable {X : Cx} {pos : Pos}
end

/-! ### what a loop or a comprehension walks -/
/-- at turn i: it yields x (the heap may grow), or it stops -/
structure It where
  go : Nat → Hp → Prop
  yld : Nat → Hp → V → Hp → Prop
  stop : Nat → Hp → Prop
/-- the iterator's own objects may turn: they are not the frame's, not pinned, younger than the entry (or a comprehension's own) -/
def FpOk (X : Cx) (pins : List (Addr × Obj)) (H : Hp) (b : Addr) : Prop :=
  H b = none ∧ b ≠ X.env.locals ∧ b ∉ X.fs ∧ (b ∈ X.ex ∨ X.s_0.heap.objs.size ≤ b) ∧ (∀ x c, X.env.cells.lookup x = some c → c ≠ b) ∧ ∀ p ∈ X.pn ++ pins, p.1 ≠ b
theorem Inv.fpOk {X : Cx} {pins : List (Addr × Obj)} {σ : St} {H H' : Hp} {s : Shared} {b : Addr} (I : Inv X pins σ H s) (hb : s.heap.objs.size ≤ b) (hn : H' b = none) : FpOk X pins H' b := by
  refine ⟨hn, Nat.ne_of_gt (Nat.lt_of_lt_of_le I.lt hb), I.nofs hb, .inr (Nat.le_trans I.sz hb), fun x c e z => ?_, fun p hp z => ?_⟩
  · obtain ⟨v, q⟩ := I.cell x c e
    exact absurd (Nat.lt_of_lt_of_le q.lt (by rw [z]; exact hb)) (Nat.lt_irrefl _)
  · exact absurd (Nat.lt_of_lt_of_le (Heap.lt_size (I.pin p hp).1) (by rw [z]; exact hb)) (Nat.lt_irrefl _)
structure Turn (P : Program) (w : World) (K : PySem.W.Frag) (tg : Expr) (J : It) (fp : List Addr) (it : Addr) (tn : Nat → Heap → Prop) : Prop where
  mem : it ∈ fp
  obj : ∀ i h, tn i h → ∀ b ∈ fp, ∃ o, h.get? b = some o ∧ ∀ v, o.data ≠ .cell v
  keep : ∀ i h h', tn i h → (∀ b ∈ fp, ∀ o, h.get? b = some o → h'.get? b = some o) → tn i h'
  item : ∀ (X : Cx), X.prog = P → X.w = w → X.K = K → X.calm = true → ∀ (i : Nat) (pins : List (Addr × Obj)) (s : Shared) (σ : St) (H : Hp) (E : Value → Shared → Prop), Inv X pins σ H s → (∀ b ∈ fp, FpOk X pins H b) → tn i s.heap → J.go i H →
    wpAny (model P w) X.A (pyNext (.ref it)) (fun r s1 => ∃ u, r = some u ∧
      wpAny (model P w) X.A (letOwnedTupleGo tg (.ref it) u) (fun _ s2 => ∃ x H', Inv X pins σ H' s2 ∧ RelV x u ∧ J.yld i H x H' ∧ tn (i + 1) s2.heap ∧ ∀ b ∈ fp, H' b = none) E s1) E s
  done : ∀ (X : Cx), X.prog = P → X.w = w → X.K = K → X.calm = true → ∀ (i : Nat) (pins : List (Addr × Obj)) (s : Shared) (σ : St) (H : Hp) (E : Value → Shared → Prop), Inv X pins σ H s → (∀ b ∈ fp, FpOk X pins H b) → tn i s.heap → J.stop i H →
    wpAny (model P w) X.A (pyNext (.ref it)) (fun r s1 => r = none ∧ Inv X pins σ H s1) E s
  self : ∀ (A : Around) (i : Nat) (s : Shared) (Q : Value → Shared → Prop) (E : Value → Shared → Prop), tn i s.heap → Q (.ref it) s → wpAny (model P w) A (pyIter (.ref it)) Q E s
abbrev TI := St → Hp → (It → Hp → Prop) → Prop
/-- an iterator has come -/
def PIE (X : Cx) (pins : List (Addr × Obj)) (σ : St) (tg : Expr) (R : It → Hp → Prop) (itv : Value) (s2 : Shared) : Prop :=
  ∃ (it : Addr) (fp : List Addr) (tn : Nat → Heap → Prop) (J : It) (H' : Hp), itv = .ref it ∧ Inv X pins σ H' s2 ∧ Turn X.prog X.w X.K tg J fp it tn ∧ tn 0 s2.heap ∧ (∀ b ∈ fp, FpOk X pins H' b) ∧ R J H'
def PI (X : Cx) (tg iter : Expr) (wi : TI) : Prop :=
  ∀ (pins : List (Addr × Obj)) (s : Shared) (σ : St) (H : Hp) (R : It → Hp → Prop), Inv X pins σ H s → wi σ H R →
    wpAny (model X.prog X.w) X.A (eval iter X.env) (fun v s1 => wpAny (model X.prog X.w) X.A (pyIter v) (PIE X pins σ tg R) X.xe s1) X.xe s

/-- the step ahead of the store is nothing for an iterator that keeps no tuple -/
theorem go_of {M : Model} {A : Around} {E : Value → Shared → Prop} {s : Shared} {tg : Expr} {it : Addr} {u : Value} {o : Obj} {n : String} {vs : Array Value} {Q : Unit → Shared → Prop} (ho : s.heap.get? it = some o) (hc : o.cls = .type n) (hd : o.data = .fields vs)
    (hn : ["enumerate", "zip", "dict_itemiterator", "dict_reverseitemiterator", "odict_iterator", "itertools.zip_longest", "itertools.pairwise"].contains n = false) (hQ : Q () s) : wpAny M A (letOwnedTupleGo tg (.ref it) u) Q E s := by
  unfold letOwnedTupleGo
  cases tg <;> first
    | exact wpAny_pure hQ
    | (cases u <;> first
        | exact wpAny_pure hQ
        | (refine wpAny_bind (wpAny_load ho ?_)
           rw [hc, hd]
           show wpAny M A (if (["enumerate", "zip", "dict_itemiterator", "dict_reverseitemiterator", "odict_iterator", "itertools.zip_longest", "itertools.pairwise"].contains n && vs[0]? == some (rawInt _)) = true then _ else _) Q E s
           rw [if_neg (by intro h; rw [hn, Bool.false_and] at h; cases h)]
           exact wpAny_pure hQ))

/-- the list at a, as it stands at each turn (a loop may append to it) -/
def Itl (K : PySem.W.Frag) (a : Addr) : It :=
  ⟨fun i H => ∃ xs x, SqL K H a xs ∧ xs[i]? = some x, fun i H x H' => H' = H ∧ ∀ xs, SqL K H a xs → xs[i]? = some x, fun i H => ∃ xs, SqL K H a xs ∧ xs.length ≤ i⟩
def Itt (K : PySem.W.Frag) (a : Addr) : It :=
  ⟨fun i H => ∃ xs x, SqT K H a xs ∧ xs[i]? = some x, fun i H x H' => H' = H ∧ ∀ xs, SqT K H a xs → xs[i]? = some x, fun i H => ∃ xs, SqT K H a xs ∧ xs.length ≤ i⟩
/-- lo, lo + 1, .. (n of them) -/
def Itr (lo : Int) (n : Nat) : It := ⟨fun i _ => i < n, fun i H x H' => H' = H ∧ x = .int (lo + i), fun i _ => n ≤ i⟩
theorem turn_list {P : Program} {w : World} {K : PySem.W.Frag} {tg : Expr} (a it : Addr) : Turn P w K tg (Itl K a) [it] it (fun i h => h.IsListIter it a i) where
  mem := by simp
  obj := fun i h st b hb => by
    have e : b = it := by simpa using hb
    subst e
    obtain ⟨o, e, c, d⟩ := st
    exact ⟨o, e, fun v z => by rw [d] at z; cases z⟩
  keep := fun i h h' st k => st.at fun o e => k it (by simp) o e
  item := by
    intro X hP hw hK hc i pins s σ H E I hf st hg
    subst hP hw hK
    obtain ⟨xs, x, hq, hx⟩ := hg
    obtain ⟨its, rv, p, hz⟩ := I.list hq
    obtain ⟨u, hu, ru⟩ := rv.get hx
    obtain ⟨f0, f1, f2, f3, f4, f5⟩ := hf it (by simp)
    refine wpAny_pyNext_list_item st p.isList (x := u) (by simpa using hu) fun h' st' sb => ?_
    have I1 : Inv X pins σ H { s with heap := h' } := I.turned (t' := s.toks) (fun b o hb e => (sb.2 b hb).trans e) f0 f1 f3 f4 f5
    obtain ⟨o, e, c, d⟩ := id st'
    exact ⟨u, rfl, go_of (s := { s with heap := h' }) e c d (by decide) ⟨x, H, I1, ru, ⟨rfl, fun ys hy => by rw [I.list_inj hy hq]; exact hx⟩, st', fun b hb => (hf b hb).1⟩⟩
  done := by
    intro X hP hw hK hc i pins s σ H E I hf st hg
    subst hP hw hK
    obtain ⟨xs, hq, hx⟩ := hg
    obtain ⟨its, rv, p, hz⟩ := I.list hq
    obtain ⟨f0, f1, f2, f3, f4, f5⟩ := hf it (by simp)
    have hl := rv.length
    exact wpAny_pyNext_list_end (I.ok.hd hc) st p.isList (by simp; omega) fun h' eb => ⟨rfl, I.turned (t' := s.toks) (fun b o hb e => eb b o hb e) f0 f1 f3 f4 f5⟩
  self := fun _ _ _ _ _ st h => wpAny_pyIter_listiter st h
theorem turn_tuple {P : Program} {w : World} {K : PySem.W.Frag} {tg : Expr} (a it : Addr) : Turn P w K tg (Itt K a) [it] it (fun i h => h.IsTupleIter it a i) where
  mem := by simp
  obj := fun i h st b hb => by
    have e : b = it := by simpa using hb
    subst e
    obtain ⟨o, e, c, d⟩ := st
    exact ⟨o, e, fun v z => by rw [d] at z; cases z⟩
  keep := fun i h h' st k => st.at fun o e => k it (by simp) o e
  item := by
    intro X hP hw hK hc i pins s σ H E I hf st hg
    subst hP hw hK
    obtain ⟨xs, x, hq, hx⟩ := hg
    obtain ⟨its, rv, p, hz⟩ := I.tuple hq
    obtain ⟨u, hu, ru⟩ := rv.get hx
    obtain ⟨f0, f1, f2, f3, f4, f5⟩ := hf it (by simp)
    refine wpAny_pyNext_tuple_item st (show s.heap.IsTuple a its.toArray from p) (x := u) (by simpa using hu) fun h' st' sb => ?_
    have I1 : Inv X pins σ H { s with heap := h' } := I.turned (t' := s.toks) (fun b o hb e => (sb.2 b hb).trans e) f0 f1 f3 f4 f5
    obtain ⟨o, e, c, d⟩ := id st'
    exact ⟨u, rfl, go_of (s := { s with heap := h' }) e c d (by decide) ⟨x, H, I1, ru, ⟨rfl, fun ys hy => by rw [I.tuple_inj hy hq]; exact hx⟩, st', fun b hb => (hf b hb).1⟩⟩
  done := by
    intro X hP hw hK hc i pins s σ H E I hf st hg
    subst hP hw hK
    obtain ⟨xs, hq, hx⟩ := hg
    obtain ⟨its, rv, p, hz⟩ := I.tuple hq
    obtain ⟨f0, f1, f2, f3, f4, f5⟩ := hf it (by simp)
    have hl := rv.length
    exact wpAny_pyNext_tuple_end (I.ok.hd hc) st (show s.heap.IsTuple a its.toArray from p) (by simp; omega) fun h' eb => ⟨rfl, I.turned (t' := s.toks) (fun b o hb e => eb b o hb e) f0 f1 f3 f4 f5⟩
  self := fun _ _ _ _ _ st h => wpAny_pyIter_tupleiter st h
theorem turn_range {P : Program} {w : World} {K : PySem.W.Frag} {tg : Expr} (it : Addr) (lo : Int) (n : Nat) : Turn P w K tg (Itr lo n) [it] it (fun i h => IsRangeIter h it (lo + (i : Nat) * 1) ((n : Int) - (i : Nat)) 1) where
  mem := by simp
  obj := fun i h st b hb => by
    have e : b = it := by simpa using hb
    subst e
    exact ⟨_, st, fun v z => by
      have z' : Data.fields _ = Data.cell v := z
      cases z'⟩
  keep := fun i h h' st k => k it (by simp) _ st
  item := by
    intro X hP hw hK hc i pins s σ H E I hf st hg
    subst hP hw hK
    obtain ⟨f0, f1, f2, f3, f4, f5⟩ := hf it (by simp)
    have W := Walks.range (prog := X.prog) (w := X.w) (I.ok.hd hc) it lo 1 n
    refine W.item i s _ _ hg st fun v h' tk hv st' kk => ?_
    obtain ⟨t, rfl⟩ := hv
    have I1 : Inv X pins σ H { s with heap := h', toks := tk } := I.turned (fun b o hb e => kk b o (by simpa using hb) e) f0 f1 f3 f4 f5
    refine ⟨_, rfl, go_of (s := { s with heap := h', toks := tk }) (n := "range_iterator") st' rfl rfl (by decide) ⟨.int (lo + i), H, I1, ⟨t, ?_⟩, ⟨rfl, rfl⟩, st', fun b hb => (hf b hb).1⟩⟩
    rw [Int.mul_one]
  done := by
    intro X hP hw hK hc i pins s σ H E I hf st hg
    subst hP hw hK
    obtain ⟨f0, f1, f2, f3, f4, f5⟩ := hf it (by simp)
    exact wpAny_pyNext_range_end (I.ok.hd hc) st (by have : n ≤ i := hg; omega) fun h' eb => ⟨rfl, I.turned (t' := s.toks) (fun b o hb e => eb b o hb e) f0 f1 f3 f4 f5⟩
  self := fun _ _ _ _ _ st h => wpAny_pyIter_rangeiter st h
end L2

namespace L2
open PySem PySem.Spec PyProof.Rows
section
variable {X : Cx} {tg : Expr}
def iList (K : PySem.W.Frag) (tl : TE) : TI := fun σ H R => tl σ H fun x H1 => ∃ a, x = .ref a ∧ (∃ xs, SqL K H1 a xs) ∧ R (Itl K a) H1
def iTup (K : PySem.W.Frag) (tl : TE) : TI := fun σ H R => tl σ H fun x H1 => ∃ a, x = .ref a ∧ (∃ xs, SqT K H1 a xs) ∧ R (Itt K a) H1
theorem pi_list {l : Expr} {tl : TE} (hl : PE X l tl) : PI X tg l (iList X.K tl) := by
  intro pins s σ H R I h
  refine thn (hl pins s σ H _ I h) fun v s1 ⟨x, H1, I1, r1, q1⟩ => ?_
  obtain ⟨a, e, ⟨xs, hq⟩, q⟩ := q1
  subst e
  cases r1
  obtain ⟨its, rv, p, hz⟩ := I1.list hq
  refine wpAny_pyIter_list p.isList ?_
  refine ⟨s1.heap.objs.size, [s1.heap.objs.size], _, _, H1, rfl, I1.kept (t' := s1.toks) fun b o e => Heap.get?_push_of_some _ e, turn_list a _, ⟨_, Heap.get?_push_size _ rfl, rfl, rfl⟩, fun b hb => ?_, q⟩
  have e : b = s1.heap.objs.size := by simpa using hb
  subst e
  exact I1.fpOk (Nat.le_refl _) (I1.hok.fresh (Nat.le_refl _))
theorem pi_tup {l : Expr} {tl : TE} (hl : PE X l tl) : PI X tg l (iTup X.K tl) := by
  intro pins s σ H R I h
  refine thn (hl pins s σ H _ I h) fun v s1 ⟨x, H1, I1, r1, q1⟩ => ?_
  obtain ⟨a, e, ⟨xs, hq⟩, q⟩ := q1
  subst e
  cases r1
  obtain ⟨its, rv, p, hz⟩ := I1.tuple hq
  refine wpAny_pyIter_tuple (show s1.heap.IsTuple a its.toArray from p) ?_
  refine ⟨s1.heap.objs.size, [s1.heap.objs.size], _, _, H1, rfl, I1.kept (t' := s1.toks) fun b o e => Heap.get?_push_of_some _ e, turn_tuple a _, ⟨_, Heap.get?_push_size _ rfl, rfl, rfl⟩, fun b hb => ?_, q⟩
  have e : b = s1.heap.objs.size := by simpa using hb
  subst e
  exact I1.fpOk (Nat.le_refl _) (I1.hok.fresh (Nat.le_refl _))
/-- a range object just made, walked -/
theorem range_it {pins : List (Addr × Obj)} {σ : St} {H : Hp} {s : Shared} {R : It → Hp → Prop} {E : Value → Shared → Prop} {lo hi : Int} {t u v : Tok} {tk : Nat} (I : Inv X pins σ H s) (h1 : -(2 ^ 62) ≤ lo) (h2 : lo < 2 ^ 62) (h3 : -(2 ^ 62) ≤ hi) (h4 : hi < 2 ^ 62)
    (q : R (Itr lo (hi - lo).toNat) H) : wpAny (model X.prog X.w) X.A (pyIter (.ref s.heap.objs.size)) (PIE X pins σ tg R) E { s with heap := s.heap.push { cls := .type "range", data := .fields #[.int lo t, .int hi u, .int 1 v] }, toks := tk } := by
  refine wpAny_pyIter_range (IsRange.new ..) (small_one h1 h2 h3 h4) ?_
  have I1 : Inv X pins σ H { s with heap := s.heap.push { cls := .type "range", data := .fields #[.int lo t, .int hi u, .int 1 v] }, toks := tk } := I.kept fun b o e => Heap.get?_push_of_some _ e
  refine ⟨(s.heap.push { cls := .type "range", data := .fields #[.int lo t, .int hi u, .int 1 v] }).objs.size, [(s.heap.push { cls := .type "range", data := .fields #[.int lo t, .int hi u, .int 1 v] }).objs.size], _, _, H, rfl,
    I1.kept (t' := tk) fun b o e => Heap.get?_push_of_some _ e, turn_range _ lo (hi - lo).toNat, ?_, fun b hb => ?_, q⟩
  · have e1 : lo + ((0 : Nat) : Int) * 1 = lo := by simp
    have e2 : (((hi - lo).toNat : Nat) : Int) - ((0 : Nat) : Int) = Builtin.Range.rangeSize lo hi 1 := by rw [rangeSize_one]; split <;> omega
    show IsRangeIter _ _ (lo + ((0 : Nat) : Int) * 1) ((((hi - lo).toNat : Nat) : Int) - ((0 : Nat) : Int)) 1
    rw [e1, e2]
    exact Heap.get?_push_size _ rfl
  · have e : b = (s.heap.push { cls := .type "range", data := .fields #[.int lo t, .int hi u, .int 1 v] }).objs.size := by simpa using hb
    subst e
    exact I1.fpOk (Nat.le_refl _) (I1.hok.fresh (Nat.le_refl _))
def iRng1 (ta : TA) : TI := fun σ H R => ta σ H fun vs H1 => ∃ j : Int, vs = [.int j] ∧ -(2 ^ 62) ≤ j ∧ j < 2 ^ 62 ∧ R (Itr 0 j.toNat) H1
theorem pi_range1 {a : Expr} {ta : TA} {p pos : Pos} (hg : Gl X "range") (hm : X.mg "range" = none) (ha : PA X [a] ta) (hs : starEach [a] X.env = [(false, eval a X.env)] := by rfl) : PI X tg (.Call (.Name "range" p) [a] [] pos) (iRng1 ta) := by
  intro pins s σ H R I h
  refine Call_ (ld_blt I hg hm boot_range (PyProof.Rows.callWith_type1 (thn (ha pos pins s σ H _ I h) fun us s1 ⟨vs, H1, I1, r1, q1⟩ => ?_) hs rfl))
  obtain ⟨j, e, q1, q2, q⟩ := q1
  subst e
  cases r1 with
  | cons r rr =>
    cases rr
    obtain ⟨t, rfl⟩ := r
    exact call_range_1 (range_it I1 (by omega) (by omega) q1 q2 (by simpa using q))

/-! ### for -/
/-- W: the invariant by the turn and a measure; N: what the body is to reach -/
def tFor (wi : TI) (g : TG) (tb : TS) : TS := fun D σ H => wi σ H fun J H1 => ∃ W : Nat → Nat → St → Hp → Prop, (∃ m, W 0 m σ H1) ∧ ∀ i m σ H, W i m σ H →
  (J.stop i H ∧ D.nx σ H) ∨ (J.go i H ∧ ∃ N : St → Hp → Prop, (∀ σ' H', N σ' H' → ∃ m', m' < m ∧ W (i + 1) m' σ' H') ∧ ∀ x H', J.yld i H x H' → g x σ H' fun σ2 H2 => tb { D with nx := N, ct := N, bk := D.nx } σ2 H2)
/-- the records at fp as they stand -/
def pinsAt (fp : List Addr) (h : Heap) : List (Addr × Obj) := fp.filterMap fun b => (h.get? b).map fun o => (b, o)
theorem mem_pinsAt {fp : List Addr} {h : Heap} {b : Addr} {o : Obj} (hb : b ∈ fp) (e : h.get? b = some o) : (b, o) ∈ pinsAt fp h := List.mem_filterMap.mpr ⟨b, hb, by rw [e]; rfl⟩
theorem of_pinsAt {fp : List Addr} {h : Heap} {p : Addr × Obj} (hp : p ∈ pinsAt fp h) : p.1 ∈ fp ∧ h.get? p.1 = some p.2 := by
  obtain ⟨b, hb, e⟩ := List.mem_filterMap.mp hp
  cases q : h.get? b with
  | none => rw [q] at e; cases e
  | some o =>
    rw [q] at e
    have e' : (b, o) = p := Option.some.inj e
    subst e'
    exact ⟨hb, q⟩
theorem Inv.pinned {pins : List (Addr × Obj)} {σ : St} {H : Hp} {s : Shared} {fp : List Addr} (I : Inv X pins σ H s) (hf : ∀ b ∈ fp, FpOk X pins H b) (ho : ∀ b ∈ fp, ∃ o, s.heap.get? b = some o ∧ ∀ v, o.data ≠ .cell v) : Inv X (pins ++ pinsAt fp s.heap) σ H s :=
  I.pins_of fun p hp => (List.mem_append.mp hp).elim (fun z => I.pin p (List.mem_append_right _ z)) fun z => by
    obtain ⟨hb, e⟩ := of_pinsAt z
    obtain ⟨f0, f1, f2, _⟩ := hf p.1 hb
    obtain ⟨o, e', d⟩ := ho p.1 hb
    rw [e] at e'; cases e'
    exact ⟨e, f0, f1, f2, d⟩
theorem Inv.unpinned {pins pl : List (Addr × Obj)} {σ : St} {H : Hp} {s : Shared} (I : Inv X (pins ++ pl) σ H s) : Inv X pins σ H s := I.pins_of fun p hp => I.pin p (List.mem_append_right _ (List.mem_append_left _ hp))
theorem ps_for {iter : Expr} {body : List Stmt} {wi : TI} {g : TG} {tb : TS} {pos : Pos} (hp : PassesOwn (model X.prog X.w) X.A X.env X.xe) (hc : X.calm = true) (hi : PI X tg iter wi) (hg : PG X tg g) (hb : PSs X body tb)
    (hs : ∀ x, foldedSetIterable iter X.env x = pure x := by intro _; rfl) : PS X (.For tg iter body [] pos) (tFor wi g tb) := by
  intro pins s σ H D I h
  refine wpAny_For (thn (hi pins s σ H _ I h) fun v s1 h1 => thn h1 fun itv s2 h2 => ?_) hs
  obtain ⟨it, fp, tn, J, H2, e, I2, T, st2, f2, W, ⟨m0, w0⟩, turn⟩ := h2
  subst e
  -- what stays true of the iterator's objects through the loop
  have stat : ∀ {H' : Hp}, (∀ b ∈ fp, H' b = none) → ∀ b ∈ fp, FpOk X pins H' b := fun hn b hb => ⟨hn b hb, (f2 b hb).2⟩
  refine codeAny_forLoop_any (fun n s' => ∃ i σ' H', Inv X pins σ' H' s' ∧ tn i s'.heap ∧ (∀ b ∈ fp, H' b = none) ∧ W i n σ' H') ?_ m0 ⟨0, σ, H2, I2, st2, fun b hb => (f2 b hb).1, w0⟩
  rintro n s3 ⟨i, σ3, H3, I3, st3, fr3, w3⟩
  rcases turn i n σ3 H3 w3 with ⟨stop, qn⟩ | ⟨go, N, hN, step⟩
  · refine wpAny_passesOwn hp (thn (T.done X rfl rfl rfl hc i pins s3 σ3 H3 X.xe I3 (stat fr3) st3 stop) fun r s4 ⟨hr, I4⟩ => ?_)
    subst hr
    exact wpAny_execs_nil ⟨σ3, H3, I4, qn⟩
  · refine wpAny_passesOwn hp (thn (T.item X rfl rfl rfl hc i pins s3 σ3 H3 X.xe I3 (stat fr3) st3 go) fun r s4 ⟨u, hr, h4⟩ => ?_)
    subst hr
    refine wpAny_passesOwn hp (thn h4 fun _ s5 ⟨x, H5, I5, r5, y5, st5, fr5⟩ => ?_)
    have I5' := I5.pinned (stat fr5) (T.obj _ _ st5)
    refine wpAny_passesOwn hp (thn (hg _ s5 σ3 H5 x u _ I5' r5 (step x H5 y5)) fun _ s6 ⟨σ6, H6, I6, q6⟩ => ?_)
    refine wpAny_passesOwn hp (thn (hb _ s6 σ6 H6 _ I6 q6) fun f s7 q7 => ?_)
    have again : ∀ {σ7 : St} {H7 : Hp}, Inv X (pins ++ pinsAt fp s5.heap) σ7 H7 s7 → N σ7 H7 → ∃ m, m < n ∧ ∃ i σ' H', Inv X pins σ' H' s7 ∧ tn i s7.heap ∧ (∀ b ∈ fp, H' b = none) ∧ W i m σ' H' := fun {σ7 H7} I7 n7 => by
      obtain ⟨m', hm, w7⟩ := hN σ7 H7 n7
      refine ⟨m', hm, i + 1, σ7, H7, I7.unpinned, T.keep _ _ _ st5 fun b hb o e => (I7.pin (b, o) (List.mem_append_right _ (List.mem_append_right _ (mem_pinsAt hb e)))).1, fun b hb => ?_, w7⟩
      obtain ⟨o, e, d⟩ := T.obj _ _ st5 b hb
      exact (I7.pin (b, o) (List.mem_append_right _ (List.mem_append_right _ (mem_pinsAt hb e)))).2.1
    cases f with
    | next => obtain ⟨σ7, H7, I7, n7⟩ := q7; exact again I7 n7
    | cont => obtain ⟨σ7, H7, I7, n7⟩ := q7; exact again I7 n7
    | brk => obtain ⟨σ7, H7, I7, q7⟩ := q7; exact ⟨σ7, H7, I7.unpinned, q7⟩
    | ret v => obtain ⟨x7, σ7, H7, I7, r7, q7⟩ := q7; exact ⟨x7, σ7, H7, I7.unpinned, r7, q7⟩
end

/-! ### the forms one uses -/
/-- over a list that the body leaves as it is -/
theorem for_list {K : PySem.W.Frag} {a : Addr} {xs : List V} {g : TG} {tb : TS} {D : Ends} {σ : St} {H : Hp} (Pv : Nat → St → Hp → Prop) (h0 : Pv 0 σ H) (hl : ∀ i σ H, i ≤ xs.length → Pv i σ H → SqL K H a xs)
    (hs : ∀ i x σ H, xs[i]? = some x → Pv i σ H → g x σ H fun σ2 H2 => tb { D with nx := Pv (i + 1), ct := Pv (i + 1), bk := D.nx } σ2 H2) (hd : ∀ σ H, Pv xs.length σ H → D.nx σ H) :
    ∃ W : Nat → Nat → St → Hp → Prop, (∃ m, W 0 m σ H) ∧ ∀ i m σ H, W i m σ H →
      ((Itl K a).stop i H ∧ D.nx σ H) ∨ ((Itl K a).go i H ∧ ∃ N : St → Hp → Prop, (∀ σ' H', N σ' H' → ∃ m', m' < m ∧ W (i + 1) m' σ' H') ∧ ∀ x H', (Itl K a).yld i H x H' → g x σ H' fun σ2 H2 => tb { D with nx := N, ct := N, bk := D.nx } σ2 H2) := by
  refine ⟨fun i m σ H => m = xs.length - i ∧ i ≤ xs.length ∧ Pv i σ H, ⟨xs.length, by simp, Nat.zero_le _, h0⟩, ?_⟩
  rintro i m σ H ⟨rfl, hi, p⟩
  have q := hl i σ H hi p
  by_cases hlt : i < xs.length
  · refine .inr ⟨⟨xs, xs[i], q, by simp [hlt]⟩, Pv (i + 1), fun σ' H' p' => ⟨xs.length - (i + 1), by omega, rfl, hlt, p'⟩, fun x H' y => ?_⟩
    obtain ⟨e, y⟩ := y
    subst e
    exact hs i x σ _ (y xs q) p
  · have e : i = xs.length := by omega
    subst e
    exact .inl ⟨⟨xs, q, Nat.le_refl _⟩, hd σ H p⟩
theorem for_tup {K : PySem.W.Frag} {a : Addr} {xs : List V} {g : TG} {tb : TS} {D : Ends} {σ : St} {H : Hp} (Pv : Nat → St → Hp → Prop) (h0 : Pv 0 σ H) (hl : ∀ i σ H, i ≤ xs.length → Pv i σ H → SqT K H a xs)
    (hs : ∀ i x σ H, xs[i]? = some x → Pv i σ H → g x σ H fun σ2 H2 => tb { D with nx := Pv (i + 1), ct := Pv (i + 1), bk := D.nx } σ2 H2) (hd : ∀ σ H, Pv xs.length σ H → D.nx σ H) :
    ∃ W : Nat → Nat → St → Hp → Prop, (∃ m, W 0 m σ H) ∧ ∀ i m σ H, W i m σ H →
      ((Itt K a).stop i H ∧ D.nx σ H) ∨ ((Itt K a).go i H ∧ ∃ N : St → Hp → Prop, (∀ σ' H', N σ' H' → ∃ m', m' < m ∧ W (i + 1) m' σ' H') ∧ ∀ x H', (Itt K a).yld i H x H' → g x σ H' fun σ2 H2 => tb { D with nx := N, ct := N, bk := D.nx } σ2 H2) := by
  refine ⟨fun i m σ H => m = xs.length - i ∧ i ≤ xs.length ∧ Pv i σ H, ⟨xs.length, by simp, Nat.zero_le _, h0⟩, ?_⟩
  rintro i m σ H ⟨rfl, hi, p⟩
  have q := hl i σ H hi p
  by_cases hlt : i < xs.length
  · refine .inr ⟨⟨xs, xs[i], q, by simp [hlt]⟩, Pv (i + 1), fun σ' H' p' => ⟨xs.length - (i + 1), by omega, rfl, hlt, p'⟩, fun x H' y => ?_⟩
    obtain ⟨e, y⟩ := y
    subst e
    exact hs i x σ _ (y xs q) p
  · have e : i = xs.length := by omega
    subst e
    exact .inl ⟨⟨xs, q, Nat.le_refl _⟩, hd σ H p⟩
theorem for_range {lo : Int} {n : Nat} {g : TG} {tb : TS} {D : Ends} {σ : St} {H : Hp} (Pv : Nat → St → Hp → Prop) (h0 : Pv 0 σ H)
    (hs : ∀ i σ H, i < n → Pv i σ H → g (.int (lo + i)) σ H fun σ2 H2 => tb { D with nx := Pv (i + 1), ct := Pv (i + 1), bk := D.nx } σ2 H2) (hd : ∀ σ H, Pv n σ H → D.nx σ H) :
    ∃ W : Nat → Nat → St → Hp → Prop, (∃ m, W 0 m σ H) ∧ ∀ i m σ H, W i m σ H →
      ((Itr lo n).stop i H ∧ D.nx σ H) ∨ ((Itr lo n).go i H ∧ ∃ N : St → Hp → Prop, (∀ σ' H', N σ' H' → ∃ m', m' < m ∧ W (i + 1) m' σ' H') ∧ ∀ x H', (Itr lo n).yld i H x H' → g x σ H' fun σ2 H2 => tb { D with nx := N, ct := N, bk := D.nx } σ2 H2) := by
  refine ⟨fun i m σ H => m = n - i ∧ i ≤ n ∧ Pv i σ H, ⟨n, by simp, Nat.zero_le _, h0⟩, ?_⟩
  rintro i m σ H ⟨rfl, hi, p⟩
  by_cases hlt : i < n
  · refine .inr ⟨hlt, Pv (i + 1), fun σ' H' p' => ⟨n - (i + 1), by omega, rfl, hlt, p'⟩, fun x H' y => ?_⟩
    obtain ⟨e, y⟩ := y
    subst e y
    exact hs i σ _ hlt p
  · have e : i = n := by omega
    subst e
    exact .inl ⟨Nat.le_refl _, hd σ H p⟩
end L2

namespace L2
open PySem PySem.Spec PyProof.Rows

abbrev R2 := V → V → Hp → VK → Prop
/-- a two-place operation on values: f is binaryOp op, inplaceOp op or compareOp op -/
def OpR (X : Cx) (f : Value → Value → Sem Value) (r : R2) : Prop :=
  ∀ (pins : List (Addr × Obj)) (s : Shared) (σ : St) (H : Hp) (x y : V) (v u : Value) (Q : VK), Inv X pins σ H s → RelV x v → RelV y u → r x y H Q →
    wpAny (model X.prog X.w) X.A (f v u) (EP X pins σ Q) X.xe s
/-- a one-place operation -/
def UnR (X : Cx) (f : Value → Sem Value) (r : V → Hp → VK → Prop) : Prop :=
  ∀ (pins : List (Addr × Obj)) (s : Shared) (σ : St) (H : Hp) (x : V) (v : Value) (Q : VK), Inv X pins σ H s → RelV x v → r x H Q →
    wpAny (model X.prog X.w) X.A (f v) (EP X pins σ Q) X.xe s
/-- a call of a value that is known (a builtin, a type) with values -/
def CallR (X : Cx) (f : Value) (r : List V → Hp → VK → Prop) : Prop :=
  ∀ (pins : List (Addr × Obj)) (s : Shared) (σ : St) (H : Hp) (xs : List V) (us : List Value) (Q : VK), Inv X pins σ H s → Vals xs us → r xs H Q →
    wpAny (model X.prog X.w) X.A (call f us) (EP X pins σ Q) X.xe s

def tOp (r : R2) (ta tb : TE) : TE := fun σ H Q => ta σ H fun x H1 => tb σ H1 fun y H2 => r x y H2 Q
def tUn (r : V → Hp → VK → Prop) (ta : TE) : TE := fun σ H Q => ta σ H fun x H1 => r x H1 Q
/-- ints in, under C, and a value out -/
def rI (C : Int → Int → Prop) (g : Int → Int → V) : R2 := fun x y H Q => ∃ i j, x = .int i ∧ y = .int j ∧ C i j ∧ Q (g i j) H
def rI0 (g : Int → Int → V) : R2 := fun x y H Q => ∃ i j, x = .int i ∧ y = .int j ∧ Q (g i j) H
def rU (g : Int → V) : V → Hp → VK → Prop := fun x H Q => ∃ i, x = .int i ∧ Q (g i) H

section
variable {X : Cx} {a b c : Expr} {ta tb tc : TE} {pos : Pos}

theorem binT (ha : PE X a ta) (hb : PE X b tb) {pins : List (Addr × Obj)} {s : Shared} {σ : St} {H : Hp} {R : V → V → Hp → Prop} (I : Inv X pins σ H s)
    (h : ta σ H fun x H1 => tb σ H1 fun y H2 => R x y H2) {Q : Value → Shared → Prop} {f : Value → Value → Sem Value}
    (hf : ∀ v u s2 x y H2, Inv X pins σ H2 s2 → RelV x v → RelV y u → R x y H2 → wpAny (model X.prog X.w) X.A (f v u) Q X.xe s2) :
    wpAny (model X.prog X.w) X.A (eval a X.env) (fun v s₁ => wpAny (model X.prog X.w) X.A (eval b X.env) (fun u s₂ => wpAny (model X.prog X.w) X.A (f v u) Q X.xe s₂) X.xe s₁) X.xe s := by
  refine thn (ha pins s σ H _ I h) fun v s1 ⟨x, H1, I1, r1, q1⟩ => ?_
  refine thn (hb pins s1 σ H1 _ I1 q1) fun u s2 ⟨y, H2, I2, r2, q2⟩ => ?_
  exact hf v u s2 x y H2 I2 r1 r2 q2

theorem pe_op {op : Operator} {r : R2} (ho : OpR X (binaryOp op) r) (ha : PE X a ta) (hb : PE X b tb) : PE X (.BinOp a op b pos) (tOp r ta tb) := by
  intro pins s σ H Q I h
  exact wpAny_BinOp (binT ha hb I h fun v u s2 x y H2 I2 rx ry q => ho pins s2 σ H2 x y v u Q I2 rx ry q)
theorem pe_un {op : UnaryOp} {r : V → Hp → VK → Prop} (ho : UnR X (unaryOp op) r) (ha : PE X a ta) : PE X (.UnaryOp op a pos) (tUn r ta) := by
  intro pins s σ H Q I h
  exact UnaryOp_ (thn (ha pins s σ H _ I h) fun v s1 ⟨x, H1, I1, r1, q1⟩ => ho pins s1 σ H1 x v Q I1 r1 q1)

/-! ### ints -/
theorem opI {f : Value → Value → Sem Value} {C : Int → Int → Prop} {g : Int → Int → Int}
    (rule : ∀ (i j : Int) (t u : Tok) (s : Shared) (Q : Value → Shared → Prop) (E : Value → Shared → Prop), C i j → Q (.int (g i j) s.toks) { s with toks := s.toks + 1 } → wpAny (model X.prog X.w) X.A (f (.int i t) (.int j u)) Q E s) :
    OpR X f (rI C fun i j => .int (g i j)) := by
  intro pins s σ H x y v u Q I rx ry h
  obtain ⟨i, j, rfl, rfl, hc, q⟩ := h
  obtain ⟨t, rfl⟩ := rx
  obtain ⟨t', rfl⟩ := ry
  exact rule i j t t' s _ _ hc ⟨.int (g i j), H, I.tok _, ⟨_, rfl⟩, q⟩
theorem opI0 {f : Value → Value → Sem Value} {g : Int → Int → Int}
    (rule : ∀ (i j : Int) (t u : Tok) (s : Shared) (Q : Value → Shared → Prop) (E : Value → Shared → Prop), Q (.int (g i j) s.toks) { s with toks := s.toks + 1 } → wpAny (model X.prog X.w) X.A (f (.int i t) (.int j u)) Q E s) :
    OpR X f (rI0 fun i j => .int (g i j)) := by
  intro pins s σ H x y v u Q I rx ry h
  obtain ⟨i, j, rfl, rfl, q⟩ := h
  obtain ⟨t, rfl⟩ := rx
  obtain ⟨t', rfl⟩ := ry
  exact rule i j t t' s _ _ ⟨.int (g i j), H, I.tok _, ⟨_, rfl⟩, q⟩
theorem opB0 {f : Value → Value → Sem Value} {g : Int → Int → Bool}
    (rule : ∀ (i j : Int) (t u : Tok) (s : Shared) (Q : Value → Shared → Prop) (E : Value → Shared → Prop), Q (.bool (g i j)) s → wpAny (model X.prog X.w) X.A (f (.int i t) (.int j u)) Q E s) :
    OpR X f (rI0 fun i j => .bl (g i j)) := by
  intro pins s σ H x y v u Q I rx ry h
  obtain ⟨i, j, rfl, rfl, q⟩ := h
  obtain ⟨t, rfl⟩ := rx
  obtain ⟨t', rfl⟩ := ry
  exact rule i j t t' s _ _ ⟨.bl (g i j), H, I, rfl, q⟩

def CPow (i j : Int) : Prop := 0 ≤ j ∧ j ≤ 1000000 ∧ i.natAbs < 2 ^ 64
def CMul (i j : Int) : Prop := (-(2 ^ 64) < i ∧ i < 2 ^ 64) ∨ (-(2 ^ 64) < j ∧ j < 2 ^ 64)
theorem CMul.ok {i j : Int} (h : CMul i j) : IntMulOk i j := by
  rcases h with ⟨h1, h2⟩ | ⟨h1, h2⟩
  · exact .of_left (intBits_le_64 h1 h2)
  · exact .of_right (intBits_le_64 h1 h2)

theorem op_add : OpR X (binaryOp .Add) (rI0 fun i j => .int (i + j)) := opI0 fun _ _ _ _ _ _ _ q => add_int q
theorem op_sub : OpR X (binaryOp .Sub) (rI0 fun i j => .int (i - j)) := opI0 fun _ _ _ _ _ _ _ q => sub_int q
theorem op_mul : OpR X (binaryOp .Mult) (rI CMul fun i j => .int (i * j)) := opI fun _ _ _ _ _ _ _ hc q => mul_int q hc.ok
/-- % by a positive divisor of any size -/
theorem op_mod : OpR X (binaryOp .Mod) (rI (fun _ j => 0 < j) fun i j => .int (i % j)) := opI fun i j _ _ _ _ _ hc q => by
  have h1 : (0 : Int) < j := hc
  exact mod_int' (by omega) (by rw [Int.fmod_eq_emod_of_nonneg i (by omega)]; exact q)
theorem op_pow : OpR X (binaryOp .Pow) (rI CPow fun i j => .int (i ^ j.toNat)) := opI fun _ _ _ _ _ _ _ hc q => pow_int_small hc.1 hc.2.1 hc.2.2 q


theorem unI {f : Value → Sem Value} {g : Int → Int}
    (rule : ∀ (i : Int) (t : Tok) (s : Shared) (Q : Value → Shared → Prop) (E : Value → Shared → Prop), Q (.int (g i) s.toks) { s with toks := s.toks + 1 } → wpAny (model X.prog X.w) X.A (f (.int i t)) Q E s) :
    UnR X f (rU fun i => .int (g i)) := by
  intro pins s σ H x v Q I rx h
  obtain ⟨i, rfl, q⟩ := h
  obtain ⟨t, rfl⟩ := rx
  exact rule i t s _ _ ⟨.int (g i), H, I.tok _, ⟨_, rfl⟩, q⟩
theorem un_neg : UnR X (unaryOp .USub) (rU fun i => .int (-i)) := unI fun _ _ _ _ _ q => neg_int q

/-! ### bools among ints: n += (a < b) -/
end

/-! ### comparisons -/
/-- the scalars that == tells apart as data does -/
def scal : V → V → Bool
  | .non, .non => true | .non, .int _ => true | .int _, .non => true | .non, .bl _ => true | .bl _, .non => true | .non, .str _ => true | .str _, .non => true
  | .int _, .int _ => true | .bl _, .bl _ => true | .str _, .str _ => true | .byt _, .byt _ => true
  | .int _, .str _ => true | .str _, .int _ => true | .bl _, .str _ => true | .str _, .bl _ => true
  | _, _ => false
def rEq : R2 := fun x y H Q => scal x y = true ∧ Q (.bl (decide (x = y))) H
def rNe : R2 := fun x y H Q => scal x y = true ∧ Q (.bl (!decide (x = y))) H

theorem dec_int {i j : Int} : decide (V.int i = V.int j) = (i == j) := by
  rw [Bool.eq_iff_iff]
  simp
theorem dec_bl {i j : Bool} : decide (V.bl i = V.bl j) = (i == j) := by
  rw [Bool.eq_iff_iff]
  simp
theorem dec_str {i j : Str} : decide (V.str i = V.str j) = (i == j) := by
  rw [Bool.eq_iff_iff]
  simp
theorem dec_byt {i j : Array UInt8} : decide (V.byt i = V.byt j) = (i.toList == j.toList) := by
  rw [Bool.eq_iff_iff]
  cases i
  cases j
  simp

section
variable {X : Cx} {a b c : Expr} {ta tb tc : TE} {pos : Pos}
theorem fin_bl {pins : List (Addr × Obj)} {σ : St} {H : Hp} {s : Shared} {Q : VK} {k k' : Bool} (I : Inv X pins σ H s) (q : Q (.bl k) H) (e : k = k') : EP X pins σ Q (.bool k') s := by
  subst e
  exact ⟨.bl k, H, I, rfl, q⟩
theorem op_eq : OpR X (compareOp .Eq) rEq := by
  intro pins s σ H x y v u Q I rx ry h
  obtain ⟨hs, q⟩ := h
  cases x with
  | non =>
    cases rx
    cases y with
    | non => cases ry; exact PySem.EqNone.eq_none_none (fin_bl I q (by simp))
    | bl j => cases ry; exact PySem.EqNone.eq_none_bool (fin_bl I q (by simp))
    | int j => obtain ⟨t', rfl⟩ := ry; exact PySem.EqNone.eq_none_int (fin_bl I q (by simp))
    | str j => obtain ⟨t', rfl⟩ := ry; exact PySem.EqNone.eq_none_str (fin_bl I q (by simp))
    | _ => exact absurd (show false = true from hs) Bool.false_ne_true
  | bl i =>
    cases rx
    cases y with
    | non => cases ry; exact PySem.EqNone.eq_bool_none (fin_bl I q (by simp))
    | bl j => cases ry; exact eq_bool (fin_bl I q dec_bl)
    | str j => obtain ⟨t', rfl⟩ := ry; exact PySem.EqMixed.eq_bool_str (fin_bl I q (by simp))
    | _ => exact absurd (show false = true from hs) Bool.false_ne_true
  | int i =>
    obtain ⟨t, rfl⟩ := rx
    cases y with
    | non => cases ry; exact PySem.EqNone.eq_int_none (fin_bl I q (by simp))
    | int j => obtain ⟨t', rfl⟩ := ry; exact eq_int (fin_bl I q dec_int)
    | str j => obtain ⟨t', rfl⟩ := ry; exact PySem.EqMixed.eq_int_str (fin_bl I q (by simp))
    | _ => exact absurd (show false = true from hs) Bool.false_ne_true
  | str i =>
    obtain ⟨t, rfl⟩ := rx
    cases y with
    | non => cases ry; exact PySem.EqNone.eq_str_none (fin_bl I q (by simp))
    | bl j => cases ry; exact PySem.EqMixed.eq_str_bool (fin_bl I q (by simp))
    | int j => obtain ⟨t', rfl⟩ := ry; exact PySem.EqMixed.eq_str_int (fin_bl I q (by simp))
    | str j => obtain ⟨t', rfl⟩ := ry; exact eq_str (fin_bl I q dec_str)
    | _ => exact absurd (show false = true from hs) Bool.false_ne_true
  | byt i =>
    obtain ⟨t, rfl⟩ := rx
    cases y with
    | byt j => obtain ⟨t', rfl⟩ := ry; exact PySem.W.eq_bytes (fin_bl I q dec_byt)
    | _ => exact absurd (show false = true from hs) Bool.false_ne_true
  | _ => cases y <;> exact absurd (show false = true from hs) Bool.false_ne_true
theorem op_ne : OpR X (compareOp .NotEq) rNe := by
  intro pins s σ H x y v u Q I rx ry h
  obtain ⟨hs, q⟩ := h
  cases x with
  | non =>
    cases rx
    cases y with
    | non => cases ry; exact PySem.EqNone.ne_none_none (fin_bl I q (by simp))
    | bl j => cases ry; exact PySem.EqNone.ne_none_bool (fin_bl I q (by simp))
    | int j => obtain ⟨t', rfl⟩ := ry; exact PySem.EqNone.ne_none_int (fin_bl I q (by simp))
    | str j => obtain ⟨t', rfl⟩ := ry; exact PySem.EqNone.ne_none_str (fin_bl I q (by simp))
    | _ => exact absurd (show false = true from hs) Bool.false_ne_true
  | bl i =>
    cases rx
    cases y with
    | non => cases ry; exact PySem.EqNone.ne_bool_none (fin_bl I q (by simp))
    | bl j => cases ry; exact ne_bool (fin_bl I q (congrArg not dec_bl))
    | str j => obtain ⟨t', rfl⟩ := ry; exact PySem.EqMixed.ne_bool_str (fin_bl I q (by simp))
    | _ => exact absurd (show false = true from hs) Bool.false_ne_true
  | int i =>
    obtain ⟨t, rfl⟩ := rx
    cases y with
    | non => cases ry; exact PySem.EqNone.ne_int_none (fin_bl I q (by simp))
    | int j => obtain ⟨t', rfl⟩ := ry; exact ne_int (fin_bl I q (congrArg not dec_int))
    | str j => obtain ⟨t', rfl⟩ := ry; exact PySem.EqMixed.ne_int_str (fin_bl I q (by simp))
    | _ => exact absurd (show false = true from hs) Bool.false_ne_true
  | str i =>
    obtain ⟨t, rfl⟩ := rx
    cases y with
    | non => cases ry; exact PySem.EqNone.ne_str_none (fin_bl I q (by simp))
    | bl j => cases ry; exact PySem.EqMixed.ne_str_bool (fin_bl I q (by simp))
    | int j => obtain ⟨t', rfl⟩ := ry; exact PySem.EqMixed.ne_str_int (fin_bl I q (by simp))
    | str j => obtain ⟨t', rfl⟩ := ry; exact ne_str (fin_bl I q (congrArg not dec_str))
    | _ => exact absurd (show false = true from hs) Bool.false_ne_true
  | byt i =>
    obtain ⟨t, rfl⟩ := rx
    cases y with
    | byt j => obtain ⟨t', rfl⟩ := ry; exact PySem.W.ne_bytes (fin_bl I q (congrArg not dec_byt))
    | _ => exact absurd (show false = true from hs) Bool.false_ne_true
  | _ => cases y <;> exact absurd (show false = true from hs) Bool.false_ne_true

theorem op_lt : OpR X (compareOp .Lt) (rI0 fun i j => .bl (decide (i < j))) := opB0 fun _ _ _ _ _ _ _ q => lt_int q
theorem op_le : OpR X (compareOp .LtE) (rI0 fun i j => .bl (decide (i ≤ j))) := opB0 fun _ _ _ _ _ _ _ q => le_int q
theorem op_gt : OpR X (compareOp .Gt) (rI0 fun i j => .bl (decide (j < i))) := opB0 fun _ _ _ _ _ _ _ q => gt_int q
theorem op_ge : OpR X (compareOp .GtE) (rI0 fun i j => .bl (decide (j ≤ i))) := opB0 fun _ _ _ _ _ _ _ q => ge_int q



/-- two rules for one operation: by cases -/
theorem OpR.or {f : Value → Value → Sem Value} {r r' : R2} (h : OpR X f r) (h' : OpR X f r') : OpR X f (fun x y H Q => r x y H Q ∨ r' x y H Q) := by
  intro pins s σ H x y v u Q I rx ry q
  rcases q with q | q
  · exact h pins s σ H x y v u Q I rx ry q
  · exact h' pins s σ H x y v u Q I rx ry q

theorem nomark (b : Expr) {op : CmpOp} (h : op ≠ .In := by decide) (h2 : op ≠ .NotIn := by decide) : behindInMarks op b = false := by
  have e1 : (op == CmpOp.In) = false := by cases op <;> first | rfl | exact absurd rfl h
  have e2 : (op == CmpOp.NotIn) = false := by cases op <;> first | rfl | exact absurd rfl h2
  cases b <;> simp [behindInMarks, e1, e2]
/-- a comparison as a value; hm: nomark b, or (for in, not in) by with_unfolding_all rfl -/
theorem pe_cmpR {op : CmpOp} {r : R2} (ho : OpR X (compareOp op) r) (ha : PE X a ta) (hb : PE X b tb) (hm : behindInMarks op b = false) : PE X (.Compare a [op] [b] pos) (tOp r ta tb) := by
  intro pins s σ H Q I h
  exact wpAny_Compare1 (binT ha hb I h fun v u s2 x y H2 I2 rx ry q => ho pins s2 σ H2 x y v u Q I2 rx ry q) hm
/-- a reading of a value as a test -/
def tTest (t : TE) : TT := fun σ H Q => t σ H fun x H' => ∃ k, x = .bl k ∧ Q k H'
theorem pt_cmpR {op : CmpOp} {r : R2} (ho : OpR X (compareOp op) r) (ha : PE X a ta) (hb : PE X b tb) (hm : behindInMarks op b = false) : PT X (.Compare a [op] [b] pos) (tTest (tOp r ta tb)) := by
  intro pins s σ H Q I h
  refine wpAny_isTrue_Compare1 (thn (ha pins s σ H _ I h) fun v s1 ⟨x, H1, I1, r1, q1⟩ => thn (hb pins s1 σ H1 _ I1 q1) fun u s2 ⟨y, H2, I2, r2, q2⟩ =>
    thn (ho pins s2 σ H2 x y v u _ I2 r1 r2 q2) fun c s3 ⟨z, H3, I3, r3, k, e, q3⟩ => ?_) hm
  subst e
  cases r3
  exact wpAny_truthy_bool ⟨H3, I3, q3⟩
/-- a op1 b op2 c -/
def tChain (r r' : R2) (ta tb tc : TE) : TE := fun σ H Q => ta σ H fun x H1 => tb σ H1 fun y H2 => r x y H2 fun z H3 => ∃ k, z = .bl k ∧
  (if k = true then tc σ H3 fun w' H4 => r' y w' H4 Q else Q (.bl false) H3)
theorem pe_chain {op op' : CmpOp} {r r' : R2} (ho : OpR X (compareOp op) r) (ho' : OpR X (compareOp op') r') (ha : PE X a ta) (hb : PE X b tb) (hc : PE X c tc)
    (hm : lastMarks [op, op'] [b, c] = false := by with_unfolding_all rfl) : PE X (.Compare a [op, op'] [b, c] pos) (tChain r r' ta tb tc) := by
  intro pins s σ H Q I h
  refine Compare_chain (thn (ha pins s σ H _ I h) fun v s1 ⟨x, H1, I1, r1, q1⟩ => chain_link (thn (hb pins s1 σ H1 _ I1 q1) fun u s2 ⟨y, H2, I2, r2, q2⟩ =>
    thn (ho pins s2 σ H2 x y v u _ I2 r1 r2 q2) fun d s3 ⟨z, H3, I3, r3, k, e, q3⟩ => ?_)) hm
  subst e
  cases r3
  refine wpAny_truthy_bool ?_
  cases k with
  | false => exact ite_ff ⟨.bl false, H3, I3, rfl, q3⟩
  | true => exact ite_tt (chain_last (thn (hc pins s3 σ H3 _ I3 q3) fun w' s4 ⟨z', H4, I4, r4, q4⟩ => ho' pins s4 σ H4 y z' u w' Q I4 r2 r4 q4))
theorem pt_chain {op op' : CmpOp} {r r' : R2} (ho : OpR X (compareOp op) r) (ho' : OpR X (compareOp op') r') (ha : PE X a ta) (hb : PE X b tb) (hc : PE X c tc)
    (hm : lastMarks [op, op'] [b, c] = false := by with_unfolding_all rfl) : PT X (.Compare a [op, op'] [b, c] pos) (tTest (tChain r r' ta tb tc)) := by
  intro pins s σ H Q I h
  refine isTrue_chain (thn (ha pins s σ H _ I h) fun v s1 ⟨x, H1, I1, r1, q1⟩ => test_link (thn (hb pins s1 σ H1 _ I1 q1) fun u s2 ⟨y, H2, I2, r2, q2⟩ =>
    thn (ho pins s2 σ H2 x y v u _ I2 r1 r2 q2) fun d s3 ⟨z, H3, I3, r3, k, e, q3⟩ => ?_)) hm
  subst e
  cases r3
  refine wpAny_truthy_bool ?_
  cases k with
  | false =>
    obtain ⟨k', e', q'⟩ := q3
    cases e'
    exact ite_ff ⟨H3, I3, q'⟩
  | true =>
    refine ite_tt (test_last (thn (hc pins s3 σ H3 _ I3 q3) fun w' s4 ⟨z', H4, I4, r4, q4⟩ => thn (ho' pins s4 σ H4 y z' u w' _ I4 r2 r4 q4) fun d' s5 ⟨z2, H5, I5, r5, k2, e2, q5⟩ => ?_))
    subst e2
    cases r5
    exact wpAny_truthy_bool ⟨H5, I5, q5⟩

/-! ### truth -/
theorem line63 : (sizeLine : Nat) < 2 ^ 63 := by rw [sizeLine_eq]; decide

/-! ### strs and bytes -/
theorem op_add_str : OpR X (binaryOp .Add) (fun x y H Q => ∃ i j, x = .str i ∧ y = .str j ∧ i.length + j.length ≤ sizeLine ∧ Q (.str (i ++ j)) H) := by
  intro pins s σ H x y v u Q I rx ry h
  obtain ⟨i, j, rfl, rfl, hz, q⟩ := h
  obtain ⟨t, rfl⟩ := rx
  obtain ⟨t', rfl⟩ := ry
  exact add_str (fun t' tk => ⟨.str (i ++ j), H, I.tok _, ⟨_, rfl⟩, q⟩) hz


/-! ### scalar builtins, by CallR -/
theorem vals1 {x : V} {us : List Value} (r : Vals [x] us) : ∃ u, us = [u] ∧ RelV x u := by
  cases r with
  | cons r1 r2 => cases r2; exact ⟨_, rfl, r1⟩
theorem vals2 {x y : V} {us : List Value} (r : Vals [x, y] us) : ∃ u w', us = [u, w'] ∧ RelV x u ∧ RelV y w' := by
  cases r with
  | cons r1 r2 =>
    cases r2 with
    | cons r3 r4 => cases r4; exact ⟨_, _, rfl, r1, r3⟩
theorem call_max2 (hc : X.calm = true) : CallR X (.builtin "max") (fun xs H Q => ∃ i j, xs = [.int i, .int j] ∧ Q (.int (if j > i then j else i)) H) := by
  intro pins s σ H xs us Q I r h
  obtain ⟨i, j, rfl, q⟩ := h
  obtain ⟨u, w', rfl, ⟨t, rfl⟩, ⟨t', rfl⟩⟩ := vals2 r
  refine max_two_ints (I.ok.hd hc) fun h' tk k => ⟨_, H, I.kept k, ?_, q⟩
  by_cases hj : j > i
  · rw [if_pos hj, if_pos hj]; exact ⟨_, rfl⟩
  · rw [if_neg hj, if_neg hj]; exact ⟨_, rfl⟩
theorem call_min2 (hc : X.calm = true) : CallR X (.builtin "min") (fun xs H Q => ∃ i j, xs = [.int i, .int j] ∧ Q (.int (if j < i then j else i)) H) := by
  intro pins s σ H xs us Q I r h
  obtain ⟨i, j, rfl, q⟩ := h
  obtain ⟨u, w', rfl, ⟨t, rfl⟩, ⟨t', rfl⟩⟩ := vals2 r
  refine min_two_ints (I.ok.hd hc) fun h' tk k => ⟨_, H, I.kept k, ?_, q⟩
  by_cases hj : j < i
  · rw [if_pos hj, if_pos hj]; exact ⟨_, rfl⟩
  · rw [if_neg hj, if_neg hj]; exact ⟨_, rfl⟩
end
end L2

namespace L2
open PySem PySem.Spec PyProof.Rows

/-! ### an instance, its attributes a map -/
structure ObjM (h : Heap) (x dx C : Addr) (mA : Str → Option Value) : Prop where
  obj : h.get? x = some (PySem.W.instObj C dx)
  ns : h.Ns1 dx mA
  ne : dx ≠ x

theorem lookIn_ns {h : Heap} {dx : Addr} {mA : Str → Option Value} (n : h.Ns1 dx mA) : ∃ od, h.get? dx = some od ∧ ∀ name, PySem.W.lookIn name od = some (mA name) := by
  obtain ⟨o, es, ep, ho, hd, hk, _, hm⟩ := n
  refine ⟨o, ho, fun name => ?_⟩
  have e := hm name
  unfold nsFind findBy at e
  rw [← Array.find?_toList] at e
  unfold PySem.W.lookIn
  rw [hd]
  dsimp only
  split
  · rename_i y q
    rw [q] at e
    exact congrArg some e
  · rename_i q
    rw [q] at e
    have a : es.toList.any (·.refKey) = false := by
      rw [List.any_eq_false]
      intro y hy
      obtain ⟨z, t, hkey⟩ := hk y (Array.mem_toList_iff.mp hy)
      simp [DictEntry.refKey, hkey]
    have a' : ¬ es.toList.any (·.refKey) = true := by rw [a]; exact Bool.false_ne_true
    rw [if_neg a']
    exact congrArg some e

theorem ObjM.look {h : Heap} {x dx C : Addr} {mA : Str → Option Value} (I : ObjM h x dx C mA) : ∃ od, PySem.W.InstAt h x (PySem.W.instObj C dx) C (some od) ∧ ∀ name, PySem.W.lookIn name od = some (mA name) :=
  let ⟨od, ho, hl⟩ := lookIn_ns I.ns
  ⟨od, ⟨I.obj, rfl, rfl, ho⟩, hl⟩

section
variable {prog : Program} {w : World} {A : Around} {E : Value → Shared → Prop} {s : Shared} {K : PySem.W.Frag} {x dx C f : Addr} {mA : Str → Option Value} {name : Str} {v : Value}





/-- C(..): the dict at the heap's end, the instance behind it; then its __init__ -/
theorem make_map {R : Result → Shared → Prop} {vs : List Value} {kw : List (Str × Value)} (X : K.In s.heap) (hm : PySem.W.makesIn K C = true)
    (hi : PySem.W.findIn K (.ref C) "__init__" = some (some (.ref f))) (hf : PySem.W.typeIn K (.ref f) = some (.type "function"))
    (h : codeAny (model prog w) (A.under (.builtin "type.__call__" ⟨.ref C :: vs, kw⟩)) (.call (.ref f) ⟨.ref (s.heap.objs.size + 1) :: vs, kw⟩) (PySem.W.InitBack (s.heap.objs.size + 1) R)
      { s with heap := (s.heap.push PySem.W.emptyDict).push (PySem.W.instObj C s.heap.objs.size) }) :
    codeAny (model prog w) A (.call (.ref C) ⟨vs, kw⟩) R s := by
  obtain ⟨hh, g, d, t, os⟩ := s
  exact PySem.W.make_core (PySem.W.makes_of X hm) (PySem.W.looks_findIn X hi) (fun self => PySem.W.bind_fn X self hf) (.inl rfl) h
end

/-! ### the attributes as a list of pairs -/
def putF (f : Str) (v : V) : List (Str × V) → List (Str × V)
  | [] => [(f, v)]
  | (g, x) :: r => if g = f then (g, v) :: r else (g, x) :: putF f v r
theorem lookup_putF (f g : Str) (v : V) : ∀ fs : List (Str × V), (putF f v fs).lookup g = if g = f then some v else fs.lookup g
  | [] => by
    show List.lookup g [(f, v)] = _
    by_cases h : g = f
    · have hb : (g == f) = true := beq_iff_eq.mpr h
      simp only [List.lookup, hb, if_pos h]
    · have hb : (g == f) = false := beq_eq_false_iff_ne.mpr h
      simp only [List.lookup, hb, if_neg h]
  | (k, x) :: r => by
    have ih := lookup_putF f g v r
    rw [show putF f v ((k, x) :: r) = (if k = f then (k, v) :: r else (k, x) :: putF f v r) from rfl]
    by_cases hk : k = f
    · rw [if_pos hk]
      by_cases h : g = k
      · have hb : (g == k) = true := beq_iff_eq.mpr h
        simp only [List.lookup, hb, if_pos (h.trans hk)]
      · have hb : (g == k) = false := beq_eq_false_iff_ne.mpr h
        simp only [List.lookup, hb, if_neg (fun e : g = f => h (e.trans hk.symm))]
    · rw [if_neg hk]
      by_cases h : g = k
      · have hb : (g == k) = true := beq_iff_eq.mpr h
        simp only [List.lookup, hb, if_neg (fun e : g = f => hk (h.symm.trans e))]
      · have hb : (g == k) = false := beq_eq_false_iff_ne.mpr h
        simp only [List.lookup, hb]
        exact ih

theorem RelO.some_of {v : V} {o : Option Value} (r : RelO (some v) o) : ∃ u, o = some u ∧ RelV v u := by
  cases o with
  | none => exact (show False from r).elim
  | some u => exact ⟨u, rfl, r⟩
theorem handed_of {v : V} {u : Value} (r : RelV v u) : PySem.W.handedIn u = true := by
  cases v with
  | non => cases (show u = Value.none from r); rfl
  | bl b => cases (show u = Value.bool b from r); rfl
  | int i => obtain ⟨t, e⟩ := (show ∃ t, u = Value.int i t from r); cases e; rfl
  | str x => obtain ⟨t, e⟩ := (show ∃ t, u = Value.str x t from r); cases e; rfl
  | byt b => obtain ⟨t, e⟩ := (show ∃ t, u = Value.bytes b t from r); cases e; rfl
  | flt b => obtain ⟨t, e⟩ := (show ∃ t, u = Value.float b t from r); cases e; rfl
  | ref a => cases (show u = Value.ref a from r); rfl
  | ty n => cases (show u = Value.type n from r); rfl

section
variable {P : Program} {w : World} {H H' : Hp} {h h' : Heap} {a C dx : Addr} {fs fs' : List (Str × V)}
theorem ins_get (hok : HOk P w H h) (e : H a = some (.ins C dx fs)) : ∃ mA, ObjM h a dx C mA ∧ (∀ f, RelO (fs.lookup f) (mA f)) ∧ PySem.Within mA (fs.map (·.1)) ∧ fs.length ≤ 1000 ∧ H dx = some (.own a) := by
  obtain ⟨d, z, ne, ob, mA, n, r, q⟩ := (show ObjOk P w H h a (.ins C dx fs) from hok a _ e)
  exact ⟨mA, ⟨ob, n, ne⟩, r, q, z, d⟩
end

/-! ### what of the text a class must have -/
structure Cls (K : PySem.W.Frag) (C : Addr) : Prop where
  pg : PySem.W.plainGet K C Str.empty = true
  hd : PySem.W.hasDictIn K C = true
  po : PySem.W.plainOver K C = true
  sa : PySem.W.findIn K (.ref C) "__setattr__" = some (some (.builtin "object.__setattr__"))
theorem Cls.get {K : PySem.W.Frag} {C : Addr} (c : Cls K C) (f : Str) : PySem.W.plainGet K C f = true := c.pg
/-- no class of it has the name -/
def NoAttr (K : PySem.W.Frag) (C : Addr) (f : Str) : Prop := PySem.W.findIn K (.ref C) f = some none
/-- a constant of the class -/
structure Con (K : PySem.W.Frag) (C : Addr) (f : Str) (v : V) (u : Value) : Prop where
  at_ : PySem.W.findIn K (.ref C) f = some (some u)
  rel : RelV v u
  get : PySem.W.specialIn K u "__get__" = some none
  cp : PySem.W.copiedNames.contains f = false
/-- a method: a plain def of the class or of one above it -/
structure Meth (K : PySem.W.Frag) (C : Addr) (m : Str) (f : Addr) : Prop where
  at_ : PySem.W.findIn K (.ref C) m = some (some (.ref f))
  fn : PySem.W.isFn K (.ref f) = true
  kp : PySem.W.keepIn K (.ref f) = true

section
variable {X : Cx} {pins : List (Addr × Obj)} {σ : St} {H : Hp} {s : Shared} {a C dx : Addr} {fs : List (Str × V)} {f : Str} {v : V} {A : Around} {E : Value → Shared → Prop}





/-- a new instance, tracked, without attributes -/
theorem Inv.made (I : Inv X pins σ H s) : Inv X pins σ (upd (upd H s.heap.objs.size (.own (s.heap.objs.size + 1))) (s.heap.objs.size + 1) (.ins C s.heap.objs.size []))
    { s with heap := (s.heap.push PySem.W.emptyDict).push (PySem.W.instObj C s.heap.objs.size) } := by
  have e1 : (s.heap.push PySem.W.emptyDict).get? s.heap.objs.size = some PySem.W.emptyDict := Heap.get?_push_size s.heap rfl
  have e2 : ((s.heap.push PySem.W.emptyDict).push (PySem.W.instObj C s.heap.objs.size)).get? (s.heap.objs.size + 1) = some (PySem.W.instObj C s.heap.objs.size) := by
    have := Heap.get?_push_size (s.heap.push PySem.W.emptyDict) (o := PySem.W.instObj C s.heap.objs.size) rfl
    rwa [Heap.size_push] at this
  have e3 : (s.heap.push PySem.W.emptyDict).Ns s.heap.objs.size (fun _ => none) := ⟨PySem.W.emptyDict, #[], _, e1, rfl, (fun e he => absurd he (by simp)), fun _ => rfl⟩
  have I1 := I.laid (a := s.heap.objs.size) (o := .own (s.heap.objs.size + 1)) (h' := s.heap.push PySem.W.emptyDict) (t' := s.toks) (fun b u q => Heap.get?_push_of_some _ q) (Nat.le_refl _) ⟨_, e1⟩
  refine I1.laid (a := s.heap.objs.size + 1) (o := .ins C s.heap.objs.size []) (t' := s.toks) (fun b u q => Heap.get?_push_of_some _ q) (Nat.le_of_eq (Heap.size_push _ _)) ?_
  have ne : s.heap.objs.size ≠ s.heap.objs.size + 1 := Nat.ne_of_lt (Nat.lt_succ_self _)
  refine ⟨by rw [upd_ne ne, upd_same], Nat.zero_le _, ne, e2, fun _ => none, (Heap.Ns1.of_empty e3).at fun o q => Heap.get?_push_of_some _ q, fun _ => True.intro, fun y hy => absurd rfl hy⟩

/-- e.f where nothing but the object is asked: through attributeBase (super) and the last hold -/
theorem attr_of {prog : Program} {w : World} {env : Env} {e : Expr} {f : Str} {pos : Pos} {s : Shared} {Q : Value → Shared → Prop} (hb : attributeBase e f env (eval e env) = eval e env)
    (h : wpAny (model prog w) A (eval e env) (fun o s₁ => wpAny (model prog w) A (getAttr o f true) Q E s₁) E s) : wpAny (model prog w) A (eval (.Attribute e f pos) env) Q E s :=
  Attribute_any_ h (by rw [arm_eval_Attribute, hb])
end

/-! ### readings and rules -/

section
variable {X : Cx} {o e value : Expr} {f : Str} {pos pos' tpos : Pos} {ta tv : TE}

end

/-! ### isinstance -/
section
variable {X : Cx} {pins : List (Addr × Obj)} {σ : St} {H : Hp} {s : Shared} {A : Around} {E : Value → Shared → Prop} {Q : Value → Shared → Prop} {c : Value} {b : Bool}
/-- the type of a value, as the fragment's deciders take it; for an instance its class -/
inductive TyOf (K : PySem.W.Frag) (H : Hp) : V → Value → Prop where
  | non : TyOf K H .non (.type "NoneType")
  | bl (x : Bool) : TyOf K H (.bl x) (.type "bool")
  | int (i : Int) : TyOf K H (.int i) (.type "int")
  | str (x : Str) : TyOf K H (.str x) (.type "str")
  | flt (x : UInt64) : TyOf K H (.flt x) (.type "float")
  | lst {a : Addr} {xs : List V} (e : H a = some (.lst xs)) : TyOf K H (.ref a) (.type "list")
  | frz {a : Addr} {o : Obj} {xs : List V} (e : H a = some (.frz o (.lst xs))) : TyOf K H (.ref a) (.type "list")
  | tup {a : Addr} {xs : List V} (e : H a = some (.tup xs)) : TyOf K H (.ref a) (.type "tuple")
  | dK {a : Addr} {kvs : List (Key × V)} (e : H a = some (.dK kvs)) : TyOf K H (.ref a) (.type "dict")
  | dT {a : Addr} {kvs : List (List Key × V)} (e : H a = some (.dT kvs)) : TyOf K H (.ref a) (.type "dict")
  | ins {a C dx : Addr} {fs : List (Str × V)} (e : H a = some (.ins C dx fs)) (cl : Cls K C) (ha : PySem.W.findIn K (.ref C) "__class__" = some (some (.builtin "object.__class__")))
      (hn : PySem.W.specialIn K (.builtin "object.__class__") "__get__" = some (some (.builtin "getset_descriptor.__get__"))) (htk : PySem.W.takesIn K (.builtin "object.__class__") = some true)
      (hm : PySem.W.mroIn K C (.type "object") = some true) : TyOf K H (.ref a) (.ref C)
/-- isinstance(x, c) for one class c, a built-in or an own one: kitOne's answer -/
theorem isinst_ok {x : V} {u t : Value} (I : Inv X pins σ H s) (rx : RelV x u) (ty : TyOf X.K H x t) (e : PySem.W.kitOne X.K t c = some b) (h : ∀ tk, Q (.bool b) { s with toks := tk }) :
    wpAny (model X.prog X.w) A (call (.builtin "isinstance") [u, c]) Q E s := by
  cases ty with
  | non => cases (show u = Value.none from rx); exact PySem.W.kia_one PySem.W.kitx_none I.kIn True.intro e (fun z => nomatch z) h
  | bl y => cases (show u = Value.bool y from rx); exact PySem.W.kia_one PySem.W.kitx_bool I.kIn True.intro e (fun z => nomatch z) h
  | int i => obtain ⟨t, q⟩ := (show ∃ t, u = Value.int i t from rx); cases q; exact PySem.W.kia_one PySem.W.kitx_int I.kIn True.intro e (fun z => nomatch z) h
  | str y => obtain ⟨t, q⟩ := (show ∃ t, u = Value.str y t from rx); cases q; exact PySem.W.kia_one PySem.W.kitx_str I.kIn True.intro e (fun z => nomatch z) h
  | flt y => obtain ⟨t, q⟩ := (show ∃ t, u = Value.float y t from rx); cases q; exact PySem.W.kia_one PySem.W.kitx_float I.kIn True.intro e (fun z => nomatch z) h
  | @lst a xs ea =>
    cases (show u = Value.ref a from rx)
    obtain ⟨_, _, n, _, h1⟩ := (show ObjOk X.prog X.w H s.heap a (.lst xs) from I.hok a _ ea)
    exact PySem.W.kia_one PySem.W.kitx_list I.kIn ⟨_, h1, rfl⟩ e (fun z => nomatch z) h
  | @frz a ob xs ea =>
    cases (show u = Value.ref a from rx)
    obtain ⟨_, _, _, n, _, h1⟩ := (show ObjOk X.prog X.w H s.heap a (.frz ob (.lst xs)) from I.hok a _ ea)
    exact PySem.W.kia_one PySem.W.kitx_list I.kIn ⟨_, h1, rfl⟩ e (fun z => nomatch z) h
  | @tup a xs ea =>
    cases (show u = Value.ref a from rx)
    obtain ⟨_, _, _, p⟩ := (show ObjOk X.prog X.w H s.heap a (.tup xs) from I.hok a _ ea)
    obtain ⟨o, h1, h2, _⟩ := p
    exact PySem.W.kia_one PySem.W.kitx_tuple I.kIn ⟨o, h1, h2⟩ e (fun z => nomatch z) h
  | @dK a kvs ea =>
    cases (show u = Value.ref a from rx)
    obtain ⟨_, _, vs, _, p⟩ := (show ObjOk X.prog X.w H s.heap a (.dK kvs) from I.hok a _ ea)
    obtain ⟨o, es, ep, h1, h2, _⟩ := p
    exact PySem.W.kia_one PySem.W.kitx_dict I.kIn ⟨o, h1, h2.1⟩ e (fun z => nomatch z) h
  | @dT a kvs ea =>
    cases (show u = Value.ref a from rx)
    obtain ⟨_, _, xs, _, o, es, ep, h1, h2, _⟩ := (show ObjOk X.prog X.w H s.heap a (.dT kvs) from I.hok a _ ea)
    exact PySem.W.kia_one PySem.W.kitx_dict I.kIn ⟨o, h1, h2.1⟩ e (fun z => nomatch z) h
  | @ins a C dx fs ea cl ha hn htk hm =>
    cases (show u = Value.ref a from rx)
    obtain ⟨mA, O, _⟩ := ins_get I.hok ea
    obtain ⟨od, J, _⟩ := O.look
    exact PySem.W.kia_one (PySem.W.kitx_own (cl.get _) cl.hd ha hn htk hm) I.kIn J e (fun z => nomatch z) h
end
end L2

namespace L2
open PySem PySem.Spec PyProof.Rows

/-! ### room -/
structure Room (k : Nat) (A : Around) : Prop where
  gd : A.guards = some []
  hd : 1 < k → A.handled = none
  dp : A.depth + 3 * k + 5 < recursionLimit
  un : A.units + 16 * k + 200 < cLine
theorem Room.mono {j k : Nat} {A : Around} (r : Room k A) (h : j ≤ k) : Room j A := ⟨r.gd, fun hk => r.hd (by omega), by have := r.dp; omega, by have := r.un; omega⟩
theorem Room.deeper {k : Nat} {A : Around} (r : Room (k + 1) A) (env : Env) : Room k (A.deeper env) :=
  ⟨r.gd, fun hk => r.hd (by omega), by have := r.dp; show A.depth + 1 + 3 * k + 5 < _; omega, by have := r.un; show A.units + 3 + 16 * k + 200 < _; omega⟩
theorem Room.in1 {k : Nat} {A : Around} (r : Room (k + 1) A) : Room k A.in1 :=
  ⟨r.gd, fun hk => r.hd (by omega), by have := r.dp; show A.depth + 3 * k + 5 < _; omega, by have := r.un; show A.units + 1 + 16 * k + 200 < _; omega⟩
theorem make_depth {A : Around} {C : Addr} {us : List Value} {kw : List (Str × Value)} : (A.under (.builtin "type.__call__" ⟨.ref C :: us, kw⟩)).depth = A.depth + 1 := by
  first | rfl | simp [Around.under, Code.weight, Code.isCreation, Code.isGuard, Code.isCaller, Code.frames, Code.isFrame, guardIds]
theorem make_units {A : Around} {C : Addr} {us : List Value} {kw : List (Str × Value)} : (A.under (.builtin "type.__call__" ⟨.ref C :: us, kw⟩)).units = A.units + 1 := by
  first | rfl | simp [Around.under, Code.cUnits, Code.frames, Code.isFrame]
theorem Room.make {k : Nat} {A : Around} (r : Room (k + 1) A) (C : Addr) (us : List Value) (kw : List (Str × Value)) : Room k (A.under (.builtin "type.__call__" ⟨.ref C :: us, kw⟩)) :=
  ⟨by first | exact r.gd | (simpa [Around.under, Code.isGuard, guardIds] using r.gd), fun hk => r.hd (by omega), by have := r.dp; rw [make_depth]; omega, by have := r.un; rw [make_units]; omega⟩
theorem Room.depth {k : Nat} {A : Around} (r : Room k A) : A.depth < recursionLimit := by have := r.dp; omega
theorem Room.units {k : Nat} {A : Around} (r : Room k A) : A.units + 64 < cLine := by have := r.un; omega
theorem Room.units0 {k : Nat} {A : Around} (r : Room k A) : A.units < cLine := by have := r.un; omega

/-! ### argument lists and displays -/
def tNil : TA := fun _ H Q => Q [] H
def tCons (ta : TE) (tr : TA) : TA := fun σ H Q => ta σ H fun x H1 => tr σ H1 fun xs H2 => Q (x :: xs) H2
section
variable {X : Cx} {e : Expr} {es : List Expr} {te : TE} {t : TA} {pos : Pos}
theorem pa_nil : PA X [] tNil := fun _ _ _ _ H Q I h => Calls.spliced_nil ⟨[], H, I, .nil, h⟩
theorem pa_cons (ha : PE X e te) (hr : PA X es t) (hs : starEach (e :: es) X.env = (false, eval e X.env) :: starEach es X.env := by rfl) : PA X (e :: es) (tCons te t) := by
  intro pos pins s σ H Q I h
  rw [hs]
  show wpAny _ _ (spliced ((false, eval e X.env) :: backTo pos (starEach es X.env))) _ _ s
  refine Calls.spliced_cons (thn (ha pins s σ H _ I h) fun u s1 ⟨x, H1, I1, r1, q1⟩ => ?_)
  exact thn (hr pos pins s1 σ H1 _ I1 q1) fun us s2 ⟨xs, H2, I2, r2, q2⟩ => ⟨x :: xs, H2, I2, .cons r1 r2, q2⟩

/-- a tuple, a list of written items -/
def tTup (t : TA) : TE := fun σ H Q => t σ H fun xs H1 => xs.length ≤ sizeLine ∧ ∀ p, H1 p = none → Q (.ref p) (upd H1 p (.tup xs))
def tLst (t : TA) : TE := fun σ H Q => t σ H fun xs H1 => xs.length ≤ sizeLine ∧ ∀ p, H1 p = none → Q (.ref p) (upd H1 p (.lst xs))
theorem pe_tup {x1} (h : PA X es t) : PE X (.Tuple es x1 pos) (tTup t) := by
  intro pins s σ H Q I hq
  refine wpAny_Tuple_spliced (thn (h pos pins s σ H _ I hq) fun us s1 ⟨xs, H1, I1, r, z, q⟩ => ⟨by rw [← r.length]; exact z, ?_⟩)
  have hf : H1 s1.heap.objs.size = none := I1.hok.fresh (Nat.le_refl _)
  refine ⟨.ref s1.heap.objs.size, upd H1 s1.heap.objs.size (.tup xs), I1.laid (t' := s1.toks) (fun b u e => Heap.get?_push_of_some _ e) (Nat.le_refl _) ?_, rfl, q _ hf⟩
  exact ⟨z, us, r, ⟨_, Heap.get?_push_size _ rfl, rfl, _, rfl⟩⟩
theorem pe_lst (h : PA X es t) : PE X (.List es pos) (tLst t) := by
  intro pins s σ H Q I hq
  refine wpAny_List_spliced (thn (h pos pins s σ H _ I hq) fun us s1 ⟨xs, H1, I1, r, z, q⟩ => ⟨by rw [← r.length]; exact z, ?_⟩)
  have hf : H1 s1.heap.objs.size = none := I1.hok.fresh (Nat.le_refl _)
  refine ⟨.ref s1.heap.objs.size, upd H1 s1.heap.objs.size (.lst xs), I1.laid (t' := s1.toks) (fun b u e => Heap.get?_push_of_some _ e) (Nat.le_refl _) ?_, rfl, q _ hf⟩
  exact ⟨z, us, 0, r, Heap.get?_push_size _ rfl⟩
end

/-! ### what a def promises -/
/-- a def's promise: the bound arguments in the parameters' order, the heap, the wanted end, the wanted exception -/
abbrev Sp := List V → Hp → VK → XK → Prop
/-- how an exception lies behind a call (file 08 gives it): the callers' frames, abstract heap and state ahead of the call, the wish, the exception, the state -/
abbrev CXT := List Env → Hp → Shared → XK → Value → Shared → Prop

/-- the state at a call -/
structure Env0 (P : Program) (w : World) (K : PySem.W.Frag) (mg : Str → Option Value) (base : Heap) (A : Around) (outer : List Env) (s : Shared) (H : Hp) : Prop where
  frames : A.frames = some outer
  mod : Mod K mg base
  bs : ∀ b o, base.get? b = some o → s.heap.get? b = some o ∧ H b = none
  bsz : base.objs.size ≤ s.heap.objs.size
  funs : s.heap.FunFrames base outer
  frf : ∀ b ∈ frs outer, H b = none
  hok : HOk P w H s.heap
  bare : AllBare s.gens
/-- a call's end -/
def CE (outer : List Env) (P : Program) (w : World) (H : Hp) (s : Shared) (Q : VK) (u : Value) (s' : Shared) : Prop :=
  ∃ v H', s'.os = s.os ∧ AllBare s'.gens ∧ Un (frs outer) [] H H' s.heap s'.heap ∧ HOk P w H' s'.heap ∧ RelV v u ∧ Q v H'
def CR (CX : CXT) (outer : List Env) (P : Program) (w : World) (H : Hp) (s : Shared) (Q : VK) (E : XK) (r : Result) (s' : Shared) : Prop :=
  match r with
  | .ok (.ret u) => CE outer P w H s Q u s'
  | .ok _ => False
  | .error e => CX outer H s E e s'
structure FnOk (P : Program) (w : World) (K : PySem.W.Frag) (mg : Str → Option Value) (base : Heap) (CX : CXT) (k : Nat) (f : Addr) (fd : FuncData) (ps : List Str) (sp : Sp) : Prop where
  len : ∀ vs H Q E, sp vs H Q E → vs.length = ps.length
  run : ∀ (A : Around) (outer : List Env) (s : Shared) (H : Hp) (args : Args) (us : List Value) (vs : List V) (Q : VK) (E : XK), Room k A → Env0 P w K mg base A outer s H → BindsTo s fd args (ps.zip us) → Vals vs us → sp vs H Q E →
    codeAny (model P w) A (.call (.ref f) args) (CR CX outer P w H s Q E) s
theorem FnOk.mono {P : Program} {w : World} {K : PySem.W.Frag} {mg : Str → Option Value} {base : Heap} {CX : CXT} {j k : Nat} {f : Addr} {fd : FuncData} {ps : List Str} {sp : Sp} (F : FnOk P w K mg base CX j f fd ps sp) (h : j ≤ k) :
    FnOk P w K mg base CX k f fd ps sp := ⟨F.len, fun A outer s H args us vs Q E hr => F.run A outer s H args us vs Q E (hr.mono h)⟩

theorem Env0.make {P : Program} {w : World} {K : PySem.W.Frag} {mg : Str → Option Value} {base : Heap} {A : Around} {outer : List Env} {s : Shared} {H : Hp} (e : Env0 P w K mg base A outer s H) (C : Addr) (us : List Value) (kw : List (Str × Value)) :
    Env0 P w K mg base (A.under (.builtin "type.__call__" ⟨.ref C :: us, kw⟩)) outer s H := ⟨by first | exact e.frames | (simpa [Around.under, Code.envs, Code.isFrame, pushEnvs] using e.frames), e.mod, e.bs, e.bsz, e.funs, e.frf, e.hok, e.bare⟩
theorem Env0.in1 {P : Program} {w : World} {K : PySem.W.Frag} {mg : Str → Option Value} {base : Heap} {A : Around} {outer : List Env} {s : Shared} {H : Hp} (e : Env0 P w K mg base A outer s H) :
    Env0 P w K mg base A.in1 outer s H := ⟨e.frames, e.mod, e.bs, e.bsz, e.funs, e.frf, e.hok, e.bare⟩

section
variable {X : Cx} {pins : List (Addr × Obj)} {σ : St} {H : Hp} {s s' : Shared}
/-- from a body: what a callee wants -/
theorem Inv.env0 (I : Inv X pins σ H s) : Env0 X.prog X.w X.K X.mg X.base X.A X.stack s H :=
  ⟨I.ok.frames, I.ok.mod, I.bs, Nat.le_trans I.ok.bsz I.sz, I.stack, I.stkFree, I.hok, I.bare⟩
/-- behind a call -/
theorem Inv.after {Q : VK} {u : Value} (I : Inv X pins σ H s) (h : CE X.stack X.prog X.w H s Q u s') : EP X pins σ Q u s' := by
  obtain ⟨v, H', os, bare, un, hok, r, q⟩ := h
  obtain ⟨hh, g, d, t, os'⟩ := s'
  obtain rfl : os' = s.os := os
  exact ⟨v, H', I.call (h' := hh) (g' := g) (d' := d) (t' := t) (ch := []) un hok bare (fun b z => absurd z (by simp)), r, q⟩
end

/-! ### calls -/
/-- f(..): the written arguments, then the defaults dvs; E: what is wanted of an exception -/
def tCall (sp : Sp) (dvs : List V) (E : XK) (t : TA) : TE := fun σ H Q => t σ H fun vs H1 => sp (vs ++ dvs) H1 Q E
/-- C(..): a new instance and its dict, then __init__ -/
def tMake (C : Addr) (sp : Sp) (dvs : List V) (E : XK) (t : TA) : TE := fun σ H Q => t σ H fun vs H1 => ∀ x dx, H1 x = none → H1 dx = none → dx ≠ x →
  sp (.ref x :: (vs ++ dvs)) (upd (upd H1 dx (.own x)) x (.ins C dx [])) (fun v H2 => v = .non ∧ Q (.ref x) H2) E

/-- how the parameters are bound: us the positional arguments, kw the keywords' values by name, ds the defaults that fill up -/
def Binds (K : PySem.W.Frag) (fd : FuncData) (ps : List Str) (ds : List Value) : Prop :=
  ∀ (s : Shared) (us : List Value), K.In s.heap → (us ++ ds).length = ps.length → BindsTo s fd ⟨us, []⟩ (ps.zip (us ++ ds))
/-- every parameter is given -/
theorem Binds.all {K : PySem.W.Frag} {fd : FuncData} {ps : List Str} (h : ∀ us : List Value, us.length = ps.length → bindArgs fd ⟨us, []⟩ = pure (ps.zip us)) : Binds K fd ps [] := fun s us _ hl => by
  rw [List.append_nil] at hl ⊢
  exact .of_eq (h us hl)

/-- an exception of a callee reaches what this body wants of exceptions -/
def Passes (CX : CXT) (X : Cx) (E : XK) : Prop := ∀ (pins : List (Addr × Obj)) (σ : St) (H : Hp) (s : Shared) (e : Value) (s' : Shared), Inv X pins σ H s → CX X.stack H s E e s' → X.xe e s'

section
variable {X : Cx} {CX : CXT} {k : Nat} {f C : Addr} {fd : FuncData} {ps : List Str} {sp : Sp} {dvs : List V} {ds : List Value} {E : XK} {x m : Str} {p pos apos : Pos} {e o : Expr} {es : List Expr} {ta : TE} {t : TA}

/-- the callee runs -/
theorem run_fn {pins : List (Addr × Obj)} {σ : St} {H : Hp} {s : Shared} {Q : VK} {us : List Value} {vs : List V} (F : FnOk X.prog X.w X.K X.mg X.base CX k f fd ps sp) (hr : Room k X.A) (hb : Binds X.K fd ps ds) (hd : Vals dvs ds) (hx : Passes CX X E)
    (I : Inv X pins σ H s) (r : Vals vs us) (h : sp (vs ++ dvs) H Q E) : wpAny (model X.prog X.w) X.A (call (.ref f) us) (EP X pins σ Q) X.xe s := by
  have r2 : Vals (vs ++ dvs) (us ++ ds) := r.append hd
  have hl : (us ++ ds).length = ps.length := by rw [← r2.length]; exact F.len _ _ _ _ h
  refine wpAny_call (codeAny_mono (F.run X.A X.stack s H ⟨us, []⟩ (us ++ ds) (vs ++ dvs) Q E hr I.env0 (hb s us I.kIn hl) r2 h) fun r s' hq => ?_)
  cases r with
  | error e => exact hx pins σ H s e s' I hq
  | ok fl =>
    cases fl with
    | ret u => exact I.after hq
    | next => exact False.elim hq
    | brk => exact False.elim hq
    | cont => exact False.elim hq

theorem pe_call (F : FnOk X.prog X.w X.K X.mg X.base CX k f fd ps sp) (hr : Room k X.A) (hg : Gl X x) (hm : X.mg x = some (.ref f)) (hk : PySem.W.keepIn X.K (.ref f) = true) (hb : Binds X.K fd ps ds) (hd : Vals dvs ds) (hx : Passes CX X E)
    (ha : PA X (e :: es) t) (hdb : (x == ("__debug__" : Str)) = false := by decide) (he : starEach (e :: es) X.env = (false, eval e X.env) :: starEach es X.env := by rfl) (hpl : (backTo pos (starEach es X.env)).any (·.1) = false := by rfl) :
    PE X (.Call (.Name x p) (e :: es) [] pos) (tCall sp dvs E t) := by
  intro pins s σ H Q I h
  refine wpAny_Call_Name_kw (ld_glob I hg hm ?_ hdb)
  refine PySem.W.callWith_K (h₀ := X.base) I.ok.mod.kin hk (thn (ha pos pins s σ H _ I h) fun us s1 ⟨vs, H1, I1, r, q⟩ => ⟨I1.kIn, ?_⟩) he hpl
  exact run_fn F hr hb hd hx I1 r q


/-- what a class must have to be made -/
structure Mk (K : PySem.W.Frag) (C f : Addr) : Prop where
  makes : PySem.W.makesIn K C = true
  init : PySem.W.findIn K (.ref C) "__init__" = some (some (.ref f))
  fn : PySem.W.isFn K (.ref f) = true
  kp : PySem.W.keepIn K (.ref C) = true

theorem run_make {pins : List (Addr × Obj)} {σ : St} {H : Hp} {s : Shared} {Q : VK} {us : List Value} {vs : List V} (M : Mk X.K C f) (F : FnOk X.prog X.w X.K X.mg X.base CX k f fd ps sp) (hr : Room (k + 1) X.A) (hb : Binds X.K fd ps ds) (hd : Vals dvs ds)
    (hx : Passes CX X E) (I : Inv X pins σ H s) (r : Vals vs us)
    (h : ∀ x dx, H x = none → H dx = none → dx ≠ x → sp (.ref x :: (vs ++ dvs)) (upd (upd H dx (.own x)) x (.ins C dx [])) (fun v H2 => v = .non ∧ Q (.ref x) H2) E) :
    wpAny (model X.prog X.w) X.A (call (.ref C) us) (EP X pins σ Q) X.xe s := by
  have hq := h (s.heap.objs.size + 1) s.heap.objs.size (I.hok.fresh (Nat.le_succ _)) (I.hok.fresh (Nat.le_refl _)) (Nat.ne_of_lt (Nat.lt_succ_self _))
  have I2 := Inv.made (C := C) I
  have r2 : Vals (V.ref (s.heap.objs.size + 1) :: (vs ++ dvs)) (Value.ref (s.heap.objs.size + 1) :: (us ++ ds)) := .cons rfl (r.append hd)
  have hl : (Value.ref (s.heap.objs.size + 1) :: us ++ ds).length = ps.length := by
    have e := r2.length
    rw [F.len _ _ _ _ hq] at e
    exact e.symm
  refine wpAny_call (make_map (f := f) I.kIn M.makes M.init (beq_iff_eq.mp M.fn) (codeAny_mono (F.run _ X.stack _ _ ⟨Value.ref (s.heap.objs.size + 1) :: us, []⟩ (Value.ref (s.heap.objs.size + 1) :: (us ++ ds)) _ _ E (hr.make C us [])
    (I2.env0.make C us []) (hb _ (Value.ref (s.heap.objs.size + 1) :: us) I2.kIn hl) r2 hq) fun r s' hq' => ?_))
  cases r with
  | error e => exact hx pins σ _ _ e s' I2 hq'
  | ok fl =>
    cases fl with
    | ret u =>
      obtain ⟨v, H', I3, rv, ev, q3⟩ := I2.after hq'
      subst ev
      exact ⟨rv, ⟨V.ref (s.heap.objs.size + 1), H', I3, rfl, q3⟩⟩
    | next => exact False.elim hq'
    | brk => exact False.elim hq'
    | cont => exact False.elim hq'
theorem pe_make (M : Mk X.K C f) (F : FnOk X.prog X.w X.K X.mg X.base CX k f fd ps sp) (hr : Room (k + 1) X.A) (hg : Gl X x) (hm : X.mg x = some (.ref C)) (hb : Binds X.K fd ps ds) (hd : Vals dvs ds) (hx : Passes CX X E)
    (ha : PA X (e :: es) t) (hdb : (x == ("__debug__" : Str)) = false := by decide) (he : starEach (e :: es) X.env = (false, eval e X.env) :: starEach es X.env := by rfl) (hpl : (backTo pos (starEach es X.env)).any (·.1) = false := by rfl) :
    PE X (.Call (.Name x p) (e :: es) [] pos) (tMake C sp dvs E t) := by
  intro pins s σ H Q I h
  refine wpAny_Call_Name_kw (ld_glob I hg hm ?_ hdb)
  refine PySem.W.callWith_K (h₀ := X.base) I.ok.mod.kin M.kp (thn (ha pos pins s σ H _ I h) fun us s1 ⟨vs, H1, I1, r, q⟩ => ⟨I1.kIn, ?_⟩) he hpl
  exact run_make M F hr hb hd hx I1 r q
end

/-! ### keywords -/
section
variable {X : Cx} {CX : CXT} {k : Nat} {f C : Addr} {fd : FuncData} {ps ks : List Str} {sp : Sp} {E : XK} {x m : Str} {p pos apos kpos : Pos} {e o : Expr} {es : List Expr} {kws : List Keyword} {te ta : TE} {t tk : TA} {nm : Option Str}

/-- how a call with keywords binds: g puts the positional values us and the keywords' values ws (names ks) in the parameters' order, defaults among them -/
structure KBinds (K : PySem.W.Frag) (fd : FuncData) (ps ks : List Str) (g : List Value → List Value → List Value) (gV : List V → List V → List V) : Prop where
  to : ∀ (s : Shared) (us ws : List Value), K.In s.heap → (g us ws).length = ps.length → BindsTo s fd ⟨us, ks.zip ws⟩ (ps.zip (g us ws))
  rel : ∀ {vs : List V} {us : List Value} {zs : List V} {ws : List Value}, Vals vs us → Vals zs ws → Vals (gV vs zs) (g us ws)
variable {g : List Value → List Value → List Value} {gV : List V → List V → List V}
end

/-! ### a def's body keeps its promise -/
/-- names: the parameters first -/
structure FnScope (N P : List Str) (sc : Scope) : Prop where
  kind : sc.kind = .function
  co : sc.isCoroutine = false
  gen : sc.isGenerator = false
  nd : N.Nodup
  pre : N.take P.length = P
  par : ∀ x ∈ P, sc.names.lookup x = some .local ∨ sc.names.lookup x = some .cell
  nofree : ∀ y ∈ sc.names, y.2 ≠ .free

theorem bindL_out {kindOf : Str → Option NameKind} {x : Str} : ∀ {binds : List (Str × Value)} {m : Str → Option Value}, (∀ v, (x, v) ∉ binds) → bindL kindOf binds m x = m x
  | [], _, _ => rfl
  | (n, v) :: r, m, h => by
    unfold bindL
    rw [bindL_out fun w hw => h w (List.mem_cons_of_mem _ hw)]
    split
    · have : x ≠ n := by rintro rfl; exact h v List.mem_cons_self
      simp [this]
    · rfl
theorem bindC_out {kindOf : Str → Option NameKind} {x : Str} : ∀ {binds : List (Str × Value)} {m : Str → Option Value}, (∀ v, (x, v) ∉ binds) → bindC kindOf binds m x = m x
  | [], _, _ => rfl
  | (n, v) :: r, m, h => by
    unfold bindC
    rw [bindC_out fun w hw => h w (List.mem_cons_of_mem _ hw)]
    split
    · rfl
    · have : x ≠ n := by rintro rfl; exact h v List.mem_cons_self
      simp [this]
theorem bindL_get {kindOf : Str → Option NameKind} {x : Str} {v : Value} : ∀ {P : List Str} {vs : List Value} {i : Nat} {m : Str → Option Value}, P.Nodup → P[i]? = some x → vs[i]? = some v → kindOf x = some .local →
    bindL kindOf (P.zip vs) m x = some v
  | [], _, _, _, _, h, _, _ => by simp at h
  | _ :: _, [], _, _, _, _, h, _ => by simp at h
  | p :: P, w :: vs, 0, m, nd, h1, h2, hk => by
    simp at h1 h2; subst h1; subst h2
    show bindL kindOf ((p, w) :: P.zip vs) m p = _
    unfold bindL
    rw [bindL_out fun v hv => (List.nodup_cons.mp nd).1 (List.of_mem_zip hv).1, if_pos hk]
    simp
  | p :: P, w :: vs, i + 1, m, nd, h1, h2, hk => by
    show bindL kindOf ((p, w) :: P.zip vs) m x = _
    unfold bindL
    exact bindL_get (i := i) (List.nodup_cons.mp nd).2 (by simpa using h1) (by simpa using h2) hk
theorem bindC_get {kindOf : Str → Option NameKind} {x : Str} {v : Value} : ∀ {P : List Str} {vs : List Value} {i : Nat} {m : Str → Option Value}, P.Nodup → P[i]? = some x → vs[i]? = some v → kindOf x ≠ some .local →
    bindC kindOf (P.zip vs) m x = some v
  | [], _, _, _, _, h, _, _ => by simp at h
  | _ :: _, [], _, _, _, _, h, _ => by simp at h
  | p :: P, w :: vs, 0, m, nd, h1, h2, hk => by
    simp at h1 h2; subst h1; subst h2
    show bindC kindOf ((p, w) :: P.zip vs) m p = _
    unfold bindC
    rw [bindC_out fun v hv => (List.nodup_cons.mp nd).1 (List.of_mem_zip hv).1, if_neg hk]
    simp
  | p :: P, w :: vs, i + 1, m, nd, h1, h2, hk => by
    show bindC kindOf ((p, w) :: P.zip vs) m x = _
    unfold bindC
    exact bindC_get (i := i) (List.nodup_cons.mp nd).2 (by simpa using h1) (by simpa using h2) hk

/-- the names' values at the entry -/
def start (N : List Str) (vs : List V) : St := vs.map some ++ List.replicate (N.length - vs.length) none

/-- the context of a def's body, at its entry; an exception leaves the frame, then lies as CX says -/
def cxOfC (cm : Bool) (CX : CXT) (P : Program) (w : World) (K : PySem.W.Frag) (mg : Str → Option Value) (base : Heap) (N : List Str) (qual : Str) (scope : Scope) (f : Addr) (cd : Value) (A : Around) (outer : List Env) (s : Shared) (H : Hp) (E : XK) : Cx where
  prog := P
  w := w
  K := K
  mg := mg
  base := base
  A := A.deeper (envOfC qual scope s.heap.objs.size f cd)
  N := N
  s_0 := s
  H_0 := H
  env := envOfC qual scope s.heap.objs.size f cd
  outer := outer
  stack := envOfC qual scope s.heap.objs.size f cd :: outer
  ex := []
  calm := cm
  fn := fun _ => true
  pn := []
  xe := fun e s' => wpAny (model P w) (A.deeper (envOfC qual scope s.heap.objs.size f cd)) (leaving (envOfC qual scope s.heap.objs.size f cd) e) (fun _ s'' => CX outer H s E e s'') (fun e' s'' => CX outer H s E e' s'') s'
abbrev cxOf (CX : CXT) (P : Program) (w : World) (K : PySem.W.Frag) (mg : Str → Option Value) (base : Heap) (N : List Str) (qual : Str) (scope : Scope) (f : Addr) (cd : Value) (A : Around) (outer : List Env) (s : Shared) (H : Hp) (E : XK) : Cx := cxOfC true CX P w K mg base N qual scope f cd A outer s H E

theorem cell_has {sc : Scope} {n : Nat} {x : Str} (h : sc.names.lookup x = some .cell) : ∃ c, (cellsFrom n sc.names []).lookup x = some c := by
  have q := PySem.W.cellsFrom_some sc.names n [] (.inl h)
  exact Option.isSome_iff_exists.mp q

theorem inv_start {cm : Bool} {CX : CXT} {P : Program} {w : World} {K : PySem.W.Frag} {mg : Str → Option Value} {base : Heap} {N ps : List Str} {qual : Str} {scope : Scope} {f : Addr} {cd : Value} {A : Around} {outer : List Env} {s s1 : Shared} {H : Hp} {E : XK} {us : List Value} {vs : List V}
    (S : FnScope N ps scope) (hd : cm = true → A.handled = none) (e0 : Env0 P w K mg base A outer s H) (hl : vs.length = ps.length) (r : Vals vs us)
    (x : InCallC s s.heap.objs.size (bindL (envOfC qual scope s.heap.objs.size f cd).kindOf (ps.zip us) fun _ => none) (cellsFrom (s.heap.objs.size + 1) scope.names []) (bindC (envOfC qual scope s.heap.objs.size f cd).kindOf (ps.zip us) fun _ => none) s1) :
    Inv (cxOfC cm CX P w K mg base N qual scope f cd A outer s H E) [] (start N vs) H s1 := by
  have hpl : ps.length ≤ N.length := by have := congrArg List.length S.pre; rw [List.length_take] at this; omega
  obtain ⟨h1, tk, rfl, hk⟩ := x.done
  have noA : ∀ b : Addr, b ∉ (cxOfC cm CX P w K mg base N qual scope f cd A outer s H E).ex := fun b z => absurd (show b ∈ ([] : List Addr) from z) (by simp)
  refine ⟨⟨e0.mod, S.kind, rfl, rfl, Nat.le_refl _, fun y z c h1 h2 => ?_, fun y hy => ?_, fun y c _ h => ?_, fun c => hd c, Around.frames_deeper e0.frames, .inr ⟨rfl, rfl⟩, fun b z => absurd z (noA b), e0.bs, e0.bsz, fun b _ _ => noA b, fun b z => absurd z (noA b), e0.funs, e0.frf⟩,
    rfl, e0.bare, Un.kept hk, ⟨_, x.toInCall.ns, fun i y v h1 h2 h3 => ?_⟩, fun y c h => ⟨_, x.cell y c h⟩, e0.hok.fresh (Nat.le_refl _), fun y c h => ?_, fun p hp => absurd (show p ∈ ([] : List (Addr × Obj)) from hp) (by simp), e0.hok.kept hk, ?_⟩
  · exact name_of_addr x.apart (PySem.mem_of_lookup h1) (PySem.mem_of_lookup h2)
  · have hy : scope.names.lookup y = some .cell ∨ scope.names.lookup y = some .free := hy
    rcases hy with hy | hy
    · exact cell_has hy
    · exact absurd rfl (S.nofree _ (PySem.mem_of_lookup hy))
  · exact Nat.le_of_lt (x.above y c (PySem.mem_of_lookup h))
  · have hi : i < vs.length := by
      unfold start at h2
      by_cases hi : i < vs.length
      · exact hi
      · rw [List.getElem?_append_right (by simpa using hi)] at h2
        rw [List.getElem?_replicate] at h2
        split at h2 <;> cases h2
    have ha : vs[i]? = some v := by
      unfold start at h2
      rw [List.getElem?_append_left (by simpa using hi), List.getElem?_map] at h2
      cases e : vs[i]? with
      | none => rw [e] at h2; cases h2
      | some a => rw [e] at h2; cases h2; rfl
    obtain ⟨u, hu, rv⟩ := r.get ha
    have hp : ps[i]? = some y := by
      rw [← S.pre, List.getElem?_take_of_lt (by omega)]; exact h1
    have ndP : ps.Nodup := by rw [← S.pre]; exact S.nd.sublist (List.take_sublist _ _)
    refine ⟨u, rv, ?_⟩
    rcases S.par y (List.mem_of_getElem? hp) with k | k
    · exact .inl ⟨k, bindL_get ndP hp hu k⟩
    · obtain ⟨c, e⟩ := cell_has (n := s.heap.objs.size + 1) k
      refine .inr ⟨.inl k, c, e, ?_⟩
      have q := x.cell y c e
      rw [bindC_get ndP hp hu (by show scope.names.lookup y ≠ _; rw [k]; decide)] at q
      exact q
  · exact e0.hok.fresh (Nat.le_of_lt (x.above y c (PySem.mem_of_lookup h)))
  · unfold start
    show _ = N.length
    rw [List.length_append, List.length_map, List.length_replicate]
    omega

/-- THE RULE: a def (or a method) of the text, by its body. The body's reading t is chosen for each entry; it is run at the parameters' values -/
theorem fn_ofC {cm : Bool} {CX : CXT} {P : Program} {w : World} {K : PySem.W.Frag} {mg : Str → Option Value} {base : Heap} {k : Nat} {f : Addr} {name qual : Str} {params : Arguments} {body : List Stmt} {scope : Scope} {dV kV doc pm cdv ct oc : Value} {an od : Option Addr}
    {osl : Array (Option Value)} {N ps : List Str} {sp : Sp} (hcm : cm = true → 1 ≤ k) (lk : K.lookup f = some ⟨oc, od, .func (PySem.W.fnOf name qual params body scope dV kV doc pm an cdv ct), osl⟩) (hcd : PySem.W.codeIn K cdv qual = true) (S : FnScope N ps scope)
    (len : ∀ vs H Q E, sp vs H Q E → vs.length = ps.length)
    (hbody : ∀ (A : Around) (outer : List Env) (s : Shared) (H : Hp) (vs : List V) (Q : VK) (E : XK), Room k (A.deeper (envOfC qual scope s.heap.objs.size f cdv)) → sp vs H Q E →
      ∃ t, PSs (cxOfC cm CX P w K mg base N qual scope f cdv A outer s H E) body t ∧ t { nx := fun _ H' => Q .non H', rt := Q } (start N vs) H) :
    FnOk P w K mg base CX (k + 1) f (PySem.W.fnOf name qual params body scope dV kV doc pm an cdv ct) ps sp := by
  refine ⟨len, fun A outer s H args us vs Q E hr e0 hb r hsp => ?_⟩
  have hl := len _ _ _ _ hsp
  have KX : K.In s.heap := e0.mod.kin.keeps fun b o e => (e0.bs b o e).1
  have lim : s.heap.NoLimit := e0.mod.nolimit.keeps fun b o e => (e0.bs b o e).1
  have hkind : ∀ y ∈ ps.zip us, scope.names.lookup y.1 = some .local ∨ (scope.names.lookup y.1 = some .cell ∧ ((cellsFrom (s.heap.objs.size + 1) scope.names []).lookup y.1).isSome = true) := fun ⟨n, v⟩ hy => by
    rcases S.par n (List.of_mem_zip hy).1 with q | q
    · exact .inl q
    · exact .inr ⟨q, PySem.W.cellsFrom_some _ _ _ (.inl q)⟩
  refine codeAny_call_function hr.depth (KX _ _ lk) rfl S.co S.gen rfl (PySem.W.codeRec_of KX hcd) (hb _ _ _ _ ?_)
  refine wpAny_newFunctionEnv_cells S.kind hkind fun env he s1 x => ?_
  subst he
  refine ⟨lim.keeps x.toInCall.keep, codeAny_func ?_⟩
  obtain ⟨t, ht, hq⟩ := hbody A outer s H vs Q E (hr.deeper _) hsp
  have I : Inv (cxOfC cm CX P w K mg base N qual scope f cdv A outer s H E) [] (start N vs) H s1 := inv_start S (fun c => hr.hd (by have := hcm c; omega)) e0 hl r x
  refine wpAny_mono (ht [] s1 (start N vs) H _ I hq) (fun fl s' hs => ?_) fun e s' hs => hs
  have fin : ∀ {σ' : St} {H' : Hp} {v : V} {u : Value}, Inv (cxOfC cm CX P w K mg base N qual scope f cdv A outer s H E) [] σ' H' s' → RelV v u → Q v H' → CE outer P w H s Q u s' :=
    fun {σ' H' v u} J rv q => ⟨v, H', J.os, J.bare, J.base, J.hok, rv, q⟩
  cases fl with
  | ret u =>
    obtain ⟨v, σ', H', J, rv, q⟩ := hs
    exact fin J rv q
  | next =>
    obtain ⟨σ', H', J, q⟩ := hs
    exact fin (v := V.non) (u := Value.none) J rfl q
  | brk =>
    obtain ⟨_, _, _, q⟩ := hs
    exact False.elim q
  | cont =>
    obtain ⟨_, _, _, q⟩ := hs
    exact False.elim q
theorem fn_of {CX : CXT} {P : Program} {w : World} {K : PySem.W.Frag} {mg : Str → Option Value} {base : Heap} {k : Nat} {f : Addr} {name qual : Str} {params : Arguments} {body : List Stmt} {scope : Scope} {dV kV doc pm cdv ct oc : Value} {an od : Option Addr}
    {osl : Array (Option Value)} {N ps : List Str} {sp : Sp} (lk : K.lookup f = some ⟨oc, od, .func (PySem.W.fnOf name qual params body scope dV kV doc pm an cdv ct), osl⟩) (hcd : PySem.W.codeIn K cdv qual = true) (S : FnScope N ps scope)
    (len : ∀ vs H Q E, sp vs H Q E → vs.length = ps.length)
    (hbody : ∀ (A : Around) (outer : List Env) (s : Shared) (H : Hp) (vs : List V) (Q : VK) (E : XK), Room (k + 1) (A.deeper (envOfC qual scope s.heap.objs.size f cdv)) → sp vs H Q E →
      ∃ t, PSs (cxOf CX P w K mg base N qual scope f cdv A outer s H E) body t ∧ t { nx := fun _ H' => Q .non H', rt := Q } (start N vs) H) :
    FnOk P w K mg base CX (k + 2) f (PySem.W.fnOf name qual params body scope dV kV doc pm an cdv ct) ps sp :=
  fn_ofC (cm := true) (fun _ => Nat.succ_le_succ (Nat.zero_le k)) lk hcd S len hbody
end L2

namespace L2
open PySem PySem.Spec PyProof.Rows
section
variable {X : Cx} {x : Str} {p pos : Pos} {e : Expr} {es : List Expr} {t : TA} {id T : String} {r : List V → Hp → VK → Prop}

def tCB (r : List V → Hp → VK → Prop) (t : TA) : TE := fun σ H Q => t σ H fun vs H1 => r vs H1 Q
/-- f(e, ..), f a built-in function -/
theorem pe_callB (hc : CallR X (.builtin id) r) (hg : Gl X x) (hm : X.mg x = none) (hv : bootBuiltins x = some (.builtin id)) (ha : PA X (e :: es) t) (hn : x ≠ "__name__" := by decide) (hdb : (x == ("__debug__" : Str)) = false := by decide)
    (he : starEach (e :: es) X.env = (false, eval e X.env) :: starEach es X.env := by rfl) (hpl : (backTo pos (starEach es X.env)).any (·.1) = false := by rfl) : PE X (.Call (.Name x p) (e :: es) [] pos) (tCB r t) := by
  intro pins s σ H Q I h
  refine wpAny_Call_Name_kw (ld_blt I hg hm hv ?_ hn hdb)
  exact PyProof.Rows.callWith_builtin1 (thn (ha pos pins s σ H _ I h) fun us s1 ⟨vs, H1, I1, r1, q1⟩ => hc pins s1 σ H1 vs us Q I1 r1 q1) he hpl
/-- T(e, ..), T a built-in type -/
theorem pe_callTy (hc : CallR X (.type T) r) (hg : Gl X x) (hm : X.mg x = none) (hv : bootBuiltins x = some (.type T)) (ha : PA X (e :: es) t) (hn : x ≠ "__name__" := by decide) (hdb : (x == ("__debug__" : Str)) = false := by decide)
    (he : starEach (e :: es) X.env = (false, eval e X.env) :: starEach es X.env := by rfl) (hpl : (backTo pos (starEach es X.env)).any (·.1) = false := by rfl) : PE X (.Call (.Name x p) (e :: es) [] pos) (tCB r t) := by
  intro pins s σ H Q I h
  refine wpAny_Call_Name_kw (ld_blt I hg hm hv ?_ hn hdb)
  exact PyProof.Rows.callWith_type1 (thn (ha pos pins s σ H _ I h) fun us s1 ⟨vs, H1, I1, r1, q1⟩ => hc pins s1 σ H1 vs us Q I1 r1 q1) he hpl
end
end L2

namespace HT
open PySem PyProof.Rows



section
open PySem.SeqAt
open PySem.AutoSeq1 (wpAny_loadPart')
open PySem.MeetsSeq PySem.MeetsSeq2 PySem.MeetsSeq3

end

section
variable {prog : Program} {w : World} {A : Around} {E : Value → Shared → Prop} {s : Shared}


/-- t + u, t not empty -/
theorem cat_tup {t b : Addr} {vs ws : List Value} {Q : Value → Shared → Prop} (ht : IsTup s.heap t vs.toArray) (hb : IsTup s.heap b ws.toArray) (hv : vs ≠ [])
    (h1 : ws = [] → Q (.ref t) s) (h2 : ws ≠ [] → Q (.ref s.heap.objs.size) { s with heap := s.heap.push { cls := .type "tuple", data := .seq (vs ++ ws).toArray } })
    (hsz : vs.length + ws.length ≤ sizeLine) : wpAny (model prog w) A (binaryOp .Add (.ref t) (.ref b)) Q E s := by
  obtain ⟨⟨cls, dd, data, sl⟩, ho, hc, n, hd⟩ := id ht
  obtain ⟨⟨cls2, dd2, data2, sl2⟩, ho2, hc2, n2, hd2⟩ := id hb
  simp only at hc hd hc2 hd2
  subst hc hd hc2 hd2
  have e : vs.toArray ++ ws.toArray = (vs ++ ws).toArray := by simp
  by_cases hw : ws = []
  · exact concat_meets ⟨_, ho, rfl⟩ ⟨_, ho2, rfl⟩ noFill_tuple_add seq_tuple_add PySem.F.slot_tuple_add PySem.F.entry_tuple_add (PySem.F.args_tuple_add_2 _ _)
      (tuple_addW1 t b vs.toArray ws.toArray n n2 dd dd2 sl sl2 (by simpa using hv) (by simp [hw])) ⟨ho, ho2, h1 hw⟩
  · refine concat_meets ⟨_, ho, rfl⟩ ⟨_, ho2, rfl⟩ noFill_tuple_add seq_tuple_add PySem.F.slot_tuple_add PySem.F.entry_tuple_add (PySem.F.args_tuple_add_2 _ _)
      (tuple_addW2 t b vs.toArray ws.toArray n n2 dd dd2 sl sl2 (by simpa using hv) (by simpa using hw) (by rw [List.size_toArray, List.size_toArray]; exact hsz)) ⟨ho, ho2, ?_⟩
    rw [e]
    exact h2 hw

/-! ### t[a:b], not the whole -/
/-- a slice's bound as a place among n (d where it is left out) -/
def sIx (n d : Nat) : Option Int → Nat
  | none => d
  | some v => if v < 0 then (v + (n : Int)).toNat else min v.toNat n
theorem sIx_none (n d : Nat) : sIx n d none = d := rfl
theorem sIx_nat (n d k : Nat) : sIx n d (some (k : Int)) = min k n := by
  show (if (k : Int) < 0 then ((k : Int) + (n : Int)).toNat else min (k : Int).toNat n) = min k n
  rw [if_neg (by omega), Int.toNat_natCast]
theorem sIx_le (n d : Nat) (hd : d ≤ n) (o : Option Int) : sIx n d o ≤ n := by
  cases o with
  | none => exact hd
  | some v =>
    show (if v < 0 then (v + (n : Int)).toNat else min v.toNat n) ≤ n
    by_cases hv : v < 0
    · rw [if_pos hv]; omega
    · rw [if_neg hv]; exact Nat.min_le_right _ _
theorem clip_eq (v : Int) (n d : Nat) : (if v < 0 then max (v + (n : Int)) 0 else min v (n : Int)) = ((sIx n d (some v) : Nat) : Int) := by
  show (if v < 0 then max (v + (n : Int)) 0 else min v (n : Int)) = (((if v < 0 then (v + (n : Int)).toNat else min v.toNat n) : Nat) : Int)
  by_cases hv : v < 0
  · simp only [if_pos hv]; omega
  · simp only [if_neg hv]; omega
theorem adjust_gen (lo hi : Option Int) (n : Nat) : Builtin.Slice.sliceAdjust lo hi 1 (n : Int) = (((sIx n 0 lo : Nat) : Int), ((sIx n n hi : Nat) : Int)) := by
  have h1 : ¬ ((1 : Int) < 0) := by omega
  unfold Builtin.Slice.sliceAdjust
  simp only [h1, if_false]
  refine Prod.ext ?_ ?_
  · cases lo with
    | none => rfl
    | some v => exact clip_eq v n 0
  · cases hi with
    | none => rfl
    | some v => exact clip_eq v n n
theorem places_gen (i j : Nat) : Builtin.Slice.slicePlaces (i : Int) (j : Int) 1 = j - i := by
  unfold Builtin.Slice.slicePlaces
  have h1 : (1 : Int) > 0 := by omega
  simp only [h1, if_true, Int.ediv_one]
  split <;> omega
theorem slicePart_ {v : Value} {o : Option Int} {Q : Option Int → Shared → Prop} (p : IsPart v o) (h : Q o s) : wpAny (model prog w) A (Builtin.Slice.slicePartIndex v) Q E s := by
  cases p with
  | none => exact slicePart_none h
  | int i t => exact slicePart_int h
theorem sliceApplied_gen {sl : Addr} {vl vu : Value} {lo hi : Option Int} {n : Nat} {Q : Int × Int × Nat → Shared → Prop} (hs : s.heap.IsSliceOf sl vl vu .none) (pl : IsPart vl lo) (pu : IsPart vu hi)
    (h : Q (((sIx n 0 lo : Nat) : Int), 1, sIx n n hi - sIx n 0 lo) s) : wpAny (model prog w) A (Builtin.Slice.sliceApplied (.ref sl) (pure (n : Int))) Q E s := by
  obtain ⟨os, hos, hcs, hds⟩ := id hs
  unfold Builtin.Slice.sliceApplied Builtin.Slice.sliceFields
  refine wpAny_bind (wpAny_bind (wpAny_field hos hds (x := vl) rfl (wpAny_bind (wpAny_field hos hds (x := vu) rfl (wpAny_bind (wpAny_field hos hds (x := .none) rfl (wpAny_pure ?_)))))))
  refine wpAny_bind (slicePart_none ?_)
  show wpAny _ _ (if ((1 : Int) == 0) = true then _ else _) _ _ s
  rw [if_neg (by decide)]
  refine wpAny_bind (slicePart_ pl (wpAny_bind (slicePart_ pu (wpAny_bind (wpAny_pure ?_)))))
  show wpAny _ _ (match Builtin.Slice.sliceAdjust lo hi 1 (n : Int) with | (lo, hi) => pure (lo, (1 : Int), Builtin.Slice.slicePlaces lo hi 1)) _ _ s
  rw [adjust_gen lo hi n]
  show wpAny _ _ (pure (((sIx n 0 lo : Nat) : Int), (1 : Int), Builtin.Slice.slicePlaces ((sIx n 0 lo : Nat) : Int) ((sIx n n hi : Nat) : Int) 1)) _ _ s
  rw [places_gen]
  exact wpAny_pure h
theorem pick_gen (xs : Array Value) (i k : Nat) : ((List.range k).filterMap fun (m : Nat) => xs[((i : Int) + (m : Int) * 1).toNat]?).toArray = ((xs.toList.drop i).take k).toArray := by
  have e : (fun (m : Nat) => xs[((i : Int) + (m : Int) * 1).toNat]?) = fun m => xs[i + m]? := by
    funext m
    have : ((i : Int) + (m : Int) * 1).toNat = i + m := by omega
    rw [this]
  rw [e]
  have := pick_run xs i k
  rw [List.filterMap_map] at this
  have e2 : ((fun x => xs[x]?) ∘ fun x => i + x) = fun m => xs[i + m]? := rfl
  rw [e2] at this
  rw [this]

theorem getItem_tuple_cut {t sl : Addr} {items : Array Value} {vl vu : Value} {lo hi : Option Int} {Q : Value → Shared → Prop} (ht : IsTup s.heap t items) (hs : s.heap.IsSliceOf sl vl vu .none) (pl : IsPart vl lo) (pu : IsPart vu hi)
    (hw : ¬ (sIx items.size 0 lo = 0 ∧ sIx items.size items.size hi = items.size))
    (h : Q (.ref s.heap.objs.size) { s with heap := s.heap.push { cls := .type "tuple", data := .seq ((items.toList.drop (sIx items.size 0 lo)).take (sIx items.size items.size hi - sIx items.size 0 lo)).toArray } })
    (hsz : items.size ≤ sizeLine) : wpAny (model prog w) A (getItem (.ref t) (.ref sl)) Q E s := by
  have htake : sizeOk (.seq ((items.toList.drop (sIx items.size 0 lo)).take (sIx items.size items.size hi - sIx items.size 0 lo)).toArray) := by
    show ((items.toList.drop (sIx items.size 0 lo)).take (sIx items.size items.size hi - sIx items.size 0 lo)).toArray.size ≤ sizeLine
    rw [List.size_toArray, List.length_take, List.length_drop, Array.length_toList]
    omega
  have hj : sIx items.size items.size hi ≤ items.size := sIx_le _ _ (Nat.le_refl _) hi
  obtain ⟨os, hos, hcs, hds⟩ := id hs
  have hTs : s.TypeIs (.ref sl) "slice" := ⟨os, hos, hcs⟩
  unfold getItem
  try with_reducible refine wpAny_holding ?_
  first | refine wpAny_bind (wpAny_pure ?_) | skip
  refine wpAny_bind (wpAny_sequenceKey ht.typeIs (by decide) ?_)
  refine wpAny_bind (wpAny_callSpecial?_slot (name := Str.ofString "__getitem__") ht.typeIs PyProof.Rows.slot_tuple_getitem
    (wpAny_call_entry PyProof.Rows.slot_tuple_getitem ht.typeIs entry_tuple_getitem ?_ (args_tuple_getitem _ _)))
  show wpAny _ _ (Builtin.Tuple.tupleItemsOf (.ref t) >>= _) _ _ s
  refine wpAny_bind (tupleItemsOf_ ht ?_)
  refine wpAny_bind (wpAny_typeOf hTs ?_)
  rw [if_pos (by decide)]
  refine wpAny_bind (sliceApplied_gen hs pl pu ?_)
  have hno : ¬ ((((sIx items.size 0 lo : Nat) : Int) == 0 && (1 : Int) == 1 && (sIx items.size items.size hi - sIx items.size 0 lo) == items.size) = true) := by
    intro q
    rw [Bool.and_eq_true, Bool.and_eq_true] at q
    have q1 : ((sIx items.size 0 lo : Nat) : Int) = 0 := eq_of_beq q.1.1
    have q2 : sIx items.size items.size hi - sIx items.size 0 lo = items.size := eq_of_beq q.2
    exact hw ⟨by omega, by omega⟩
  show wpAny _ _ (if (((sIx items.size 0 lo : Nat) : Int) == 0 && (1 : Int) == 1 && (sIx items.size items.size hi - sIx items.size 0 lo) == items.size) = true then _ else _) _ _ s
  rw [if_neg hno, pick_gen]
  first
    | exact wpAny_bind (m := Builtin.Tuple.tupleExact _) (wpAny_newObj_type (wpAny_pure ⟨_, rfl, wpAny_pure h⟩) htake)
    | exact wpAny_bind (m := Builtin.Tuple.tupleExact _) (wpAny_newObj_type (wpAny_bind (wpAny_pure (wpAny_pure ⟨_, rfl, wpAny_pure h⟩))) htake)
    | exact wpAny_bind (wpAny_bind (m := Builtin.Tuple.tupleExact _) (wpAny_newObj_type (wpAny_pure (wpAny_pure ⟨_, rfl, wpAny_pure h⟩)) htake))
    | exact wpAny_bind (wpAny_bind (m := Builtin.Tuple.tupleExact _) (wpAny_newObj_type (wpAny_pure ⟨_, rfl, wpAny_pure h⟩) htake))
end
end HT

namespace L2
open PySem PySem.Spec PyProof.Rows

/-! ### the parts of a slice -/
abbrev TO := St → Hp → (Option Int → Hp → Prop) → Prop
/-- a slice's part (left out, or an int) -/
def PO (X : Cx) (e : Option Expr) (t : TO) : Prop :=
  ∀ (pins : List (Addr × Obj)) (s : Shared) (σ : St) (H : Hp) (Q : Option Int → Hp → Prop), Inv X pins σ H s → t σ H Q →
    wpAny (model X.prog X.w) X.A (evalPart e X.env) (fun u s' => ∃ o H', Inv X pins σ H' s' ∧ IsPart u o ∧ Q o H') X.xe s
def tNoPart : TO := fun _ H Q => Q none H
def tPart (t : TE) : TO := fun σ H Q => t σ H fun x H1 => ∃ i, x = .int i ∧ Q (some i) H1


section
variable {X : Cx} {e : Expr} {te : TE} {lo hi : Option Expr} {tl th : TO} {pos p2 : Pos}

theorem po_none : PO X none tNoPart := by
  intro pins s σ H Q I h
  rw [evalPart_none]
  exact wpAny_pure ⟨none, H, I, .none, h⟩
theorem po_some (h : PE X e te) : PO X (some e) (tPart te) := by
  intro pins s σ H Q I hw
  rw [evalPart_some]
  refine thn (h pins s σ H _ I hw) fun u s1 ⟨x, H1, I1, r1, q1⟩ => ?_
  obtain ⟨i, rfl, q⟩ := q1
  obtain ⟨t, rfl⟩ := r1
  exact ⟨some i, H1, I1, .int i t, q⟩

/-- what a slice of a value is, by values: the slice object stands at sl -/
def SlR (X : Cx) (r : V → Option Int → Option Int → Hp → VK → Prop) : Prop :=
  ∀ (pins : List (Addr × Obj)) (s : Shared) (σ : St) (H : Hp) (x : V) (v vl vu : Value) (lo hi : Option Int) (sl : Addr) (Q : VK), Inv X pins σ H s → RelV x v → s.heap.IsSliceOf sl vl vu .none → IsPart vl lo → IsPart vu hi → r x lo hi H Q →
    ∃ T id, typeLookup (.type T) "__getitem__" = pure (some (.builtin id)) ∧ s.TypeIs v T ∧ wpAny (model X.prog X.w) X.A (getItem v (.ref sl)) (EP X pins σ Q) X.xe s
theorem SlR.or {r r' : V → Option Int → Option Int → Hp → VK → Prop} (h : SlR X r) (h' : SlR X r') : SlR X (fun x lo hi H Q => r x lo hi H Q ∨ r' x lo hi H Q) := by
  intro pins s σ H x v vl vu lo hi sl Q I rx hs pl pu q
  rcases q with q | q
  · exact h pins s σ H x v vl vu lo hi sl Q I rx hs pl pu q
  · exact h' pins s σ H x v vl vu lo hi sl Q I rx hs pl pu q
def tSl (r : V → Option Int → Option Int → Hp → VK → Prop) (te : TE) (tl th : TO) : TE := fun σ H Q => te σ H fun x H1 => tl σ H1 fun l H2 => th σ H2 fun u H3 => r x l u H3 Q
/-- a[lo:hi], any a -/
theorem pe_slice {r : V → Option Int → Option Int → Hp → VK → Prop} (hr : SlR X r) (he : PE X e te) (hl : PO X lo tl) (hu : PO X hi th) : PE X (.Subscript e (.Slice lo hi none p2) pos) (tSl r te tl th) := by
  intro pins s σ H Q I h
  refine Subscript_ (thn (he pins s σ H _ I h) fun v s1 ⟨x, H1, I1, r1, q1⟩ => ?_)
  refine wpAny_Slice (thn (hl pins s1 σ H1 _ I1 q1) fun vl s2 ⟨l, H2, I2, pl, q2⟩ => thn (hu pins s2 σ H2 _ I2 q2) fun vu s3 ⟨u, H3, I3, pu, q3⟩ => ?_)
  rw [evalPart_none]
  refine wpAny_pure ?_
  have I4 : Inv X pins σ H3 { s3 with heap := s3.heap.push { cls := .type "slice", data := .fields #[vl, vu, .none] } } := I3.kept (t' := s3.toks) fun b ob q => Heap.get?_push_of_some _ q
  obtain ⟨T, id, hT, ht, hg⟩ := hr pins { s3 with heap := s3.heap.push { cls := .type "slice", data := .fields #[vl, vu, .none] } } σ H3 x v vl vu l u s3.heap.objs.size Q I4 r1 (Heap.IsSliceOf.new ..) pl pu q3
  show wpAny (model X.prog X.w) X.A (subscriptTail e (.Slice lo hi none p2) v (.ref s3.heap.objs.size)) (EP X pins σ Q) X.xe { s3 with heap := s3.heap.push { cls := .type "slice", data := .fields #[vl, vu, .none] } }
  exact tail_any (ops := [.ref s3.heap.objs.size, v]) ht hT hg (by with_unfolding_all rfl)

/-- the items of xs[lo:hi] -/
def cutV (xs : List V) (lo hi : Option Int) : List V := (xs.drop (HT.sIx xs.length 0 lo)).take (HT.sIx xs.length xs.length hi - HT.sIx xs.length 0 lo)
theorem cutV_length (xs : List V) (lo hi : Option Int) : (cutV xs lo hi).length ≤ xs.length := by
  unfold cutV
  rw [List.length_take, List.length_drop]
  omega
/-- t[lo:hi], not the whole of it (the whole would be t itself) -/
def rSlT (K : PySem.W.Frag) : V → Option Int → Option Int → Hp → VK → Prop := fun x lo hi H Q => ∃ a xs, x = .ref a ∧ SqT K H a xs ∧
  ¬ (HT.sIx xs.length 0 lo = 0 ∧ HT.sIx xs.length xs.length hi = xs.length) ∧ ∀ p, H p = none → Q (.ref p) (upd H p (.tup (cutV xs lo hi)))
theorem sl_tup : SlR X (rSlT X.K) := by
  intro pins s σ H x v vl vu lo hi sl Q I rx hs pl pu h
  obtain ⟨a, xs, rfl, hx, hw, q⟩ := h
  cases rx
  obtain ⟨its, r, ht, hz⟩ := I.tuple hx
  have hlen : its.toArray.size = xs.length := by rw [List.size_toArray]; exact r.length.symm
  refine ⟨"tuple", _, PyProof.Rows.slot_tuple_getitem.lookup, ht.typeIs, ?_⟩
  refine HT.getItem_tuple_cut ht hs pl pu (by rw [hlen]; exact hw) ?_ (by rw [hlen]; exact hz)
  rw [hlen]
  refine ⟨.ref s.heap.objs.size, _, I.laid (t' := s.toks) (o := .tup (cutV xs lo hi)) (fun b ob q => Heap.get?_push_of_some _ q) (Nat.le_refl _) ?_, rfl, q _ (I.hok.fresh (Nat.le_refl _))⟩
  exact ⟨Nat.le_trans (cutV_length xs lo hi) hz, _, (r.drop (HT.sIx xs.length 0 lo)).take (HT.sIx xs.length xs.length hi - HT.sIx xs.length 0 lo), IsTup.new _ _⟩

/-! ### t < u, t + u -/
/-- t + u, t not empty: u empty gives t itself -/
def rCatT (K : PySem.W.Frag) : R2 := fun x y H Q => ∃ a b xs ys, x = .ref a ∧ y = .ref b ∧ SqT K H a xs ∧ SqT K H b ys ∧ xs ≠ [] ∧ xs.length + ys.length ≤ sizeLine ∧
  (ys = [] → Q (.ref a) H) ∧ (ys ≠ [] → ∀ p, H p = none → Q (.ref p) (upd H p (.tup (xs ++ ys))))
theorem Vals.nil_iff {xs : List V} {us : List Value} (r : Vals xs us) : us = [] ↔ xs = [] := by
  cases r with
  | nil => simp
  | cons _ _ => simp
theorem op_catT : OpR X (binaryOp .Add) (rCatT X.K) := by
  intro pins s σ H x y v u Q I rx ry h
  obtain ⟨a, b, xs, ys, rfl, rfl, ha, hb, hx, hz, q1, q2⟩ := h
  cases rx
  cases ry
  obtain ⟨its, r1, p1, _⟩ := I.tuple ha
  obtain ⟨its2, r2, p2, _⟩ := I.tuple hb
  refine HT.cat_tup p1 p2 (fun z => hx (r1.nil_iff.mp z)) (fun z => ⟨.ref a, H, I, rfl, q1 (r2.nil_iff.mp z)⟩) (fun z => ?_) (by rw [← r1.length, ← r2.length]; exact hz)
  refine ⟨.ref s.heap.objs.size, _, I.laid (t' := s.toks) (o := .tup (xs ++ ys)) (fun b ob q => Heap.get?_push_of_some _ q) (Nat.le_refl _) ?_, rfl, q2 (fun w => z (r2.nil_iff.mpr w)) _ (I.hok.fresh (Nat.le_refl _))⟩
  exact ⟨by rw [List.length_append]; exact hz, _, r1.append r2, IsTup.new _ _⟩
end
end L2

namespace L2
open PySem PySem.Spec PyProof.Rows

/-! ### places -/
/-- the place that an index of any sign means -/
def ixN (n : Nat) (i : Int) : Option Nat := if 0 ≤ i then (if i < n then some i.toNat else none) else if -(n : Int) ≤ i then some (i + n).toNat else none
def atI {α : Type} (xs : List α) (i : Int) : Option α := (ixN xs.length i).bind fun j => xs[j]?
theorem ixN_seq {n : Nat} {i : Int} {j : Nat} (h : ixN n i = some j) : seqIndex? i n = some j ∧ j < n ∧ -(n : Int) ≤ i ∧ i < n := by
  unfold ixN at h
  by_cases h0 : 0 ≤ i
  · rw [if_pos h0] at h
    by_cases h1 : i < n
    · rw [if_pos h1] at h
      have e : i.toNat = j := Option.some.inj h
      exact ⟨by rw [seqIndex_of h0 h1, e], by omega, by omega, h1⟩
    · rw [if_neg h1] at h; cases h
  · rw [if_neg h0] at h
    by_cases h1 : -(n : Int) ≤ i
    · rw [if_pos h1] at h
      have e : (i + n).toNat = j := Option.some.inj h
      exact ⟨by rw [seqIndex_neg (by omega) h1, e], by omega, h1, by omega⟩
    · rw [if_neg h1] at h; cases h
theorem atI_get {α : Type} {xs : List α} {i : Int} {v : α} (h : atI xs i = some v) : ∃ j, seqIndex? i xs.length = some j ∧ xs[j]? = some v ∧ j < xs.length ∧ -(xs.length : Int) ≤ i ∧ i < xs.length := by
  unfold atI at h
  cases e : ixN xs.length i with
  | none => rw [e] at h; cases h
  | some j =>
    rw [e] at h
    obtain ⟨h1, h2, h3, h4⟩ := ixN_seq e
    exact ⟨j, h1, h, h2, h3, h4⟩
theorem atI_nat {α : Type} {xs : List α} {j : Nat} {v : α} (h : xs[j]? = some v) : atI xs (j : Int) = some v := by
  have hj : j < xs.length := (List.getElem?_eq_some_iff.mp h).1
  have e : ixN xs.length (j : Int) = some j := by
    unfold ixN
    rw [if_pos (by omega), if_pos (by omega)]; simp
  unfold atI; rw [e]; exact h

/-! ### what may be subscripted -/
/-- what stands as an index of a plain subscript -/
def PlainIx (b : Expr) : Prop := ∀ o i, subscripted b false o i = operate [o, i] (getItem o i)
/-- a subscript by values -/
def IxR (X : Cx) (r : R2) : Prop :=
  ∀ (value slice : Expr) (pins : List (Addr × Obj)) (s : Shared) (σ : St) (H : Hp) (x y : V) (v u : Value) (Q : VK), Inv X pins σ H s → RelV x v → RelV y u → r x y H Q →
    subscripted slice false v u = operate [v, u] (getItem v u) → wpAny (model X.prog X.w) X.A (subscriptTail value slice v u) (EP X pins σ Q) X.xe s
/-- a call of a builtin's method by values: the receiver, the arguments -/
def MtR (X : Cx) (id : String) (r : V → List V → Hp → VK → Prop) : Prop :=
  ∀ (pins : List (Addr × Obj)) (s : Shared) (σ : St) (H : Hp) (x : V) (xs : List V) (v : Value) (us : List Value) (Q : VK), Inv X pins σ H s → RelV x v → Vals xs us → r x xs H Q →
    wpAny (model X.prog X.w) X.A (call (.builtin id) (v :: us)) (EP X pins σ Q) X.xe s
section
variable {X : Cx} {a b : Expr} {ta tb : TE} {pos : Pos}
theorem IxR.or {r r' : R2} (h : IxR X r) (h' : IxR X r') : IxR X (fun x y H Q => r x y H Q ∨ r' x y H Q) := by
  intro value slice pins s σ H x y v u Q I rx ry q hs
  rcases q with q | q
  · exact h value slice pins s σ H x y v u Q I rx ry q hs
  · exact h' value slice pins s σ H x y v u Q I rx ry q hs
theorem MtR.or {id : String} {r r' : V → List V → Hp → VK → Prop} (h : MtR X id r) (h' : MtR X id r') : MtR X id (fun x xs H Q => r x xs H Q ∨ r' x xs H Q) := by
  intro pins s σ H x xs v us Q I rx rs q
  rcases q with q | q
  · exact h pins s σ H x xs v us Q I rx rs q
  · exact h' pins s σ H x xs v us Q I rx rs q
/-- a[b] -/
theorem pe_ix {r : R2} (hr : IxR X r) (ha : PE X a ta) (hb : PE X b tb) (hs : PlainIx b) : PE X (.Subscript a b pos) (tOp r ta tb) := by
  intro pins s σ H Q I h
  exact Subscript_ (binT ha hb I h fun v u s2 x y H2 I2 rx ry q => hr a b pins s2 σ H2 x y v u Q I2 rx ry q (hs _ _))

def rIxL (K : PySem.W.Frag) : R2 := fun x y H Q => ∃ p xs i v, x = .ref p ∧ y = .int i ∧ SqL K H p xs ∧ atI xs i = some v ∧ Q v H
def rIxT (K : PySem.W.Frag) : R2 := fun x y H Q => ∃ p xs i v, x = .ref p ∧ y = .int i ∧ SqT K H p xs ∧ atI xs i = some v ∧ Q v H
def rIxS : R2 := fun x y H Q => ∃ z i c, x = .str z ∧ y = .int i ∧ z.length ≤ sizeLine ∧ atI z.cps.toList i = some c ∧ Q (.str ⟨#[c]⟩) H
theorem ix_list : IxR X (rIxL X.K) := by
  intro value slice pins s σ H x y v u Q I rx ry h hs
  obtain ⟨p, xs, i, z, rfl, rfl, hq, he, q⟩ := h
  cases rx
  obtain ⟨t, rfl⟩ := ry
  obtain ⟨its, r, pl, hz⟩ := I.list hq
  obtain ⟨j, h1, h2, h3, h4, h5⟩ := atI_get he
  obtain ⟨w, ew, rw'⟩ := r.get h2
  have hl := r.length
  have hn := line63
  have fin : EP X pins σ Q w s := ⟨z, H, I, rw', q⟩
  by_cases h0 : 0 ≤ i
  · have hj : i.toNat = j := by
      rw [seqIndex_of h0 h5] at h1
      exact Option.some.inj h1
    exact item_listR pl.isList h0 (by omega) (by rw [hj]; simpa using ew) fin hs
  · have hj : (i + (its.toArray.size : Int)).toNat = j := by
      rw [seqIndex_neg (by omega) h4] at h1
      rw [List.size_toArray, ← hl]
      exact Option.some.inj h1
    exact subscriptTail_builtinR (x := w) pl.isList.typeIs slot_list_getitem.lookup
      (wpAny_getItem_list_neg (Q := fun r s' => r = w ∧ EP X pins σ Q r s') pl.isList (by omega) (by rw [List.size_toArray] <;> omega) (by omega) (by rw [hj]; simpa using ew) ⟨rfl, fin⟩) hs
theorem ix_tup : IxR X (rIxT X.K) := by
  intro value slice pins s σ H x y v u Q I rx ry h hs
  obtain ⟨p, xs, i, z, rfl, rfl, hq, he, q⟩ := h
  cases rx
  obtain ⟨t, rfl⟩ := ry
  obtain ⟨its, r, pl, hz⟩ := I.tuple hq
  obtain ⟨j, h1, h2, h3, h4, h5⟩ := atI_get he
  obtain ⟨w, ew, rw'⟩ := r.get h2
  have hl := r.length
  have hn := line63
  have fin : EP X pins σ Q w s := ⟨z, H, I, rw', q⟩
  exact subscriptTail_builtinR (x := w) pl.typeIs slot_tuple_getitem.lookup
    (getItem_tuple (j := j) (Q := fun r s' => r = w ∧ EP X pins σ Q r s') pl (by omega) (by omega) (by rw [List.size_toArray, ← hl]; exact h1) (by simpa using ew) ⟨rfl, fin⟩) hs
theorem ix_str : IxR X rIxS := by
  intro value slice pins s σ H x y v u Q I rx ry h hs
  obtain ⟨z, i, c, rfl, rfl, hz, he, q⟩ := h
  obtain ⟨t, rfl⟩ := rx
  obtain ⟨t', rfl⟩ := ry
  obtain ⟨j, h1, h2, h3, h4, h5⟩ := atI_get he
  have hl : z.cps.toList.length = z.length := by simp [Str.length]
  rw [hl] at h1 h4 h5
  have hn := line63
  exact tail_any (typeIs_str s z t) slot_str_getitem.lookup (getItem_str (c := c) (by
    have e1 : decide (i < -(2 ^ 63 : Int)) = false := decide_eq_false (by omega)
    have e2 : decide (i ≥ 2 ^ 63) = false := decide_eq_false (by omega)
    rw [e1, e2, Bool.or_false]) (by rw [h1]; simpa using h2) ⟨.str ⟨#[c]⟩, H, I.tok _, ⟨_, rfl⟩, q⟩) hs

/-! ### xs[i] = v, any sign -/
/-- the list's object behind a store -/
theorem mapSeq_set (its : List Value) (n j : Nat) (u : Value) : Obj.mapSeq (·.setIfInBounds j u) { cls := .type "list", data := .seq its.toArray n } = { cls := .type "list", data := .seq (its.set j u).toArray n } := by
  simp [Obj.mapSeq]
theorem Inv.lst {pins : List (Addr × Obj)} {σ : St} {H : Hp} {s : Shared} {p : Addr} {xs : List V} (I : Inv X pins σ H s) (h : H p = some (.lst xs)) :
    ∃ (its : List Value) (n : Nat), Vals xs its ∧ s.heap.get? p = some { cls := .type "list", data := .seq its.toArray n } ∧ xs.length ≤ sizeLine := by
  obtain ⟨z, its, n, r, e⟩ := I.hok p _ h
  exact ⟨its, n, r, e, z⟩
/-- the list at p is written by an update of its object -/
theorem Inv.lstUpd {pins : List (Addr × Obj)} {σ : St} {H : Hp} {s : Shared} {p : Addr} {xs ys : List V} {its its' : List Value} {n n' : Nat} {f : Obj → Obj} (I : Inv X pins σ H s) (h : H p = some (.lst xs))
    (ho : s.heap.get? p = some { cls := .type "list", data := .seq its.toArray n }) (hf : f { cls := .type "list", data := .seq its.toArray n } = { cls := .type "list", data := .seq its'.toArray n' }) (r : Vals ys its') (hz : ys.length ≤ sizeLine) (t : Nat) :
    Inv X pins σ (upd H p (.lst ys)) { s with heap := s.heap.update p f, toks := t } := by
  have e : (s.heap.update p f).get? p = some { cls := .type "list", data := .seq its'.toArray n' } := by
    rw [Heap.get?_update_self f ho (by rw [hf] <;> rfl), hf]
  refine I.write (x := p) (e := p) (by rw [h]; trivial) (.inl rfl) (fun b u hb q => (Heap.get?_update_other _ _ (Ne.symm hb)).trans q) ⟨_, e⟩ ?_
  exact ⟨hz, its', n', r, e⟩
def rSetL : V → V → V → Hp → (Hp → Prop) → Prop := fun o i v H Q => ∃ p xs k j, o = .ref p ∧ i = .int k ∧ H p = some (.lst xs) ∧ ixN xs.length k = some j ∧ Q (upd H p (.lst (xs.set j v)))
theorem set_list : PSet X rSetL := by
  intro pins s σ H o i v ov iv u Q I ro ri rv h
  obtain ⟨p, xs, k, j, rfl, rfl, hp, hj, q⟩ := h
  cases ro
  obtain ⟨t, rfl⟩ := ri
  obtain ⟨its, n, r, ho, hz⟩ := I.lst hp
  obtain ⟨h1, h2, h3, h4⟩ := ixN_seq hj
  have hl := r.length
  have hn := line63
  have I' : Inv X pins σ (upd H p (.lst (xs.set j v))) { s with heap := s.heap.update p (Obj.mapSeq (·.setIfInBounds j u)) } :=
    I.lstUpd hp ho (mapSeq_set its n j u) (r.set rv j) (by rw [List.length_set]; exact hz) s.toks
  by_cases h0 : 0 ≤ k
  · have hk : k.toNat = j := by
      rw [seqIndex_of h0 h4] at h1
      exact Option.some.inj h1
    exact PySem.W.ki_setAt ho h0 (by omega) (by rw [List.size_toArray, ← hl]; exact h4) (by rw [hk]; exact ⟨_, I', q⟩)
  · have hk : (k + (its.toArray.size : Int)).toNat = j := by
      rw [seqIndex_neg (by omega) h3] at h1
      rw [List.size_toArray, ← hl]
      exact Option.some.inj h1
    exact PySem.W.ki_setBack ho (by omega) (by rw [List.size_toArray, ← hl]; exact h3) (by omega) (by rw [hk]; exact ⟨_, I', q⟩)

/-! ### slices -/
theorem slice_bounds (lo hi : Option Int) (n : Nat) : (sliceBounds lo hi none n).1 = ((HT.sIx n 0 lo : Nat) : Int) ∧ (sliceBounds lo hi none n).2.1 = ((HT.sIx n n hi : Nat) : Int) ∧ (sliceBounds lo hi none n).2.2 = 1 := by
  refine ⟨?_, ?_, rfl⟩
  · cases lo with
    | none => simp [sliceBounds, HT.sIx]
    | some i =>
      simp only [sliceBounds, HT.sIx, Option.getD_none, show (1 : Int) > 0 by decide, if_true]
      by_cases h : i < 0
      · simp only [h, if_true] <;> omega
      · simp only [h, if_false] <;> omega
  · cases hi with
    | none => simp [sliceBounds, HT.sIx]
    | some i =>
      simp only [sliceBounds, HT.sIx, Option.getD_none, show (1 : Int) > 0 by decide, if_true]
      by_cases h : i < 0
      · simp only [h, if_true] <;> omega
      · simp only [h, if_false] <;> omega
theorem slicePick_cut (its : List Value) (lo hi : Option Int) : slicePick its.toArray lo hi none = ((its.drop (HT.sIx its.length 0 lo)).take (HT.sIx its.length its.length hi - HT.sIx its.length 0 lo)).toArray := by
  obtain ⟨h1, h2, h3⟩ := slice_bounds lo hi its.toArray.size
  unfold slicePick
  rw [h1, h2, h3]
  simp only [sliceRange_one, pick_run, List.size_toArray] <;> rfl
/-- xs[lo:hi] of a list: a new list -/
def rSlL (K : PySem.W.Frag) : V → Option Int → Option Int → Hp → VK → Prop := fun x lo hi H Q => ∃ a xs, x = .ref a ∧ SqL K H a xs ∧ ∀ p, H p = none → Q (.ref p) (upd H p (.lst (cutV xs lo hi)))
theorem sl_list : SlR X (rSlL X.K) := by
  intro pins s σ H x v vl vu lo hi sl Q I rx hs pl pu h
  obtain ⟨a, xs, rfl, hx, q⟩ := h
  cases rx
  obtain ⟨its, r, ht, hz⟩ := I.list hx
  have hlen := r.length
  refine ⟨"list", _, slot_list_getitem.lookup, ht.isList.typeIs, ?_⟩
  refine wpAny_getItem_list_slice ht.isList hs pl pu .none (by simp) ?_ (by rw [List.size_toArray] <;> omega)
  rw [slicePick_cut, ← hlen]
  refine ⟨.ref s.heap.objs.size, _, I.laid (t' := s.toks) (o := .lst (cutV xs lo hi)) (fun b ob q => Heap.get?_push_of_some _ q) (Nat.le_refl _) ?_, rfl, q _ (I.hok.fresh (Nat.le_refl _))⟩
  exact ⟨Nat.le_trans (cutV_length xs lo hi) hz, _, 0, (r.drop (HT.sIx xs.length 0 lo)).take (HT.sIx xs.length xs.length hi - HT.sIx xs.length 0 lo), Heap.get?_push_size _ rfl⟩

/-! ### in, not in: flat items -/
def flatV : V → Bool
  | .non => true
  | .bl _ => true
  | .int _ => true
  | .str _ => true
  | _ => false
/-- == of flat values -/
def eqV : V → V → Bool
  | .non, .non => true
  | .bl a, .bl b => a == b
  | .bl a, .int b => (if a then 1 else 0) == b
  | .int a, .bl b => a == (if b then 1 else 0)
  | .int a, .int b => a == b
  | .str a, .str b => a == b
  | _, _ => false
theorem eqAt_V {A : Around} {s : Shared} {y x : V} {u v : Value} (ry : RelV y u) (rx : RelV x v) (fy : flatV y = true) (fx : flatV x = true) : SeqAt.EqAt A s u v (eqV y x) := by
  cases y with
  | non =>
    cases ry
    cases x with
    | non => cases rx; exact SeqAt.EqAt.same _
    | bl b => cases rx; exact SeqAt.EqAt.none_bool b
    | int b => obtain ⟨t, rfl⟩ := rx; exact SeqAt.EqAt.none_int b t
    | str b => obtain ⟨t, rfl⟩ := rx; exact SeqAt.EqAt.none_str b t
    | _ => exact absurd (show false = true from fx) Bool.false_ne_true
  | bl a =>
    cases ry
    cases x with
    | non => cases rx; exact SeqAt.EqAt.bool_none a
    | bl b => cases rx; exact SeqAt.EqAt.bool_bool a b
    | int b => obtain ⟨t, rfl⟩ := rx; exact SeqAt.EqAt.bool_int a b t
    | str b => obtain ⟨t, rfl⟩ := rx; exact SeqAt.EqAt.bool_str a b t
    | _ => exact absurd (show false = true from fx) Bool.false_ne_true
  | int a =>
    obtain ⟨t', rfl⟩ := ry
    cases x with
    | non => cases rx; exact SeqAt.EqAt.int_none a t'
    | bl b => cases rx; exact SeqAt.EqAt.int_bool a t' b
    | int b => obtain ⟨t, rfl⟩ := rx; exact SeqAt.EqAt.int_int a t' b t
    | str b => obtain ⟨t, rfl⟩ := rx; exact SeqAt.EqAt.int_str a t' b t
    | _ => exact absurd (show false = true from fx) Bool.false_ne_true
  | str a =>
    obtain ⟨t', rfl⟩ := ry
    cases x with
    | non => cases rx; exact SeqAt.EqAt.str_none a t'
    | bl b => cases rx; exact SeqAt.EqAt.str_bool a t' b
    | int b => obtain ⟨t, rfl⟩ := rx; exact SeqAt.EqAt.str_int a t' b t
    | str b => obtain ⟨t, rfl⟩ := rx; exact SeqAt.EqAt.str_str a t' b t
    | _ => exact absurd (show false = true from fx) Bool.false_ne_true
  | _ => exact absurd (show false = true from fy) Bool.false_ne_true
/-- the items' answers, read off the values (a value's own answer does not lean on its token) -/
def eqU (x : V) (u : Value) : Bool := match u with
  | .none => eqV .non x
  | .bool b => eqV (.bl b) x
  | .int i _ => eqV (.int i) x
  | .str z _ => eqV (.str z) x
  | _ => false
theorem eqU_of {x y : V} {u : Value} (r : RelV y u) (f : flatV y = true) : eqU x u = eqV y x := by
  cases y with
  | non => cases r; rfl
  | bl b => cases r; rfl
  | int i => obtain ⟨t, rfl⟩ := r; rfl
  | str z => obtain ⟨t, rfl⟩ := r; rfl
  | _ => exact absurd (show false = true from f) Bool.false_ne_true
theorem any_eqU {x : V} : ∀ {xs : List V} {us : List Value}, Vals xs us → xs.all flatV = true → us.any (eqU x) = xs.any fun y => eqV y x
  | _, _, .nil, _ => rfl
  | y :: xs, u :: us, .cons r t, f => by
    rw [List.all_cons, Bool.and_eq_true] at f
    rw [List.any_cons, List.any_cons, eqU_of r f.1, any_eqU t f.2]
theorem mem_eqAt {A : Around} {s : Shared} {x : V} {v : Value} (rx : RelV x v) (fx : flatV x = true) : ∀ {xs : List V} {us : List Value}, Vals xs us → xs.all flatV = true → ∀ u ∈ us, SeqAt.EqAt A s u v (eqU x u)
  | _, _, .nil, _ => fun u hu => by cases hu
  | y :: xs, u :: us, .cons r t, f => fun u' hu => by
    rw [List.all_cons, Bool.and_eq_true] at f
    rcases List.mem_cons.mp hu with rfl | hu
    · rw [eqU_of r f.1]; exact eqAt_V r rx f.1 fx
    · exact mem_eqAt rx fx t f.2 u' hu
def inV (x : V) (xs : List V) : Bool := xs.any fun y => eqV y x
/-- x in a list or tuple of flat items -/
def rIn (K : PySem.W.Frag) (neg : Bool) : R2 := fun x y H Q => ∃ p xs, y = .ref p ∧ (SqL K H p xs ∨ SqT K H p xs) ∧ flatV x = true ∧ xs.all flatV = true ∧ Q (.bl (if neg then !inV x xs else inV x xs)) H
theorem op_in_seq : OpR X (compareOp .In) (rIn X.K false) := by
  intro pins s σ H x y v u Q I rx ry h
  obtain ⟨p, xs, rfl, hq, fx, fs, q⟩ := h
  cases ry
  rcases hq with hq | hq
  · obtain ⟨its, r, pl, hz⟩ := I.list hq
    refine SeqAt.in_listAt (eqU x) pl.isList (fun w hw => mem_eqAt rx fx r fs w (by simpa using hw)) ⟨.bl _, H, I, rfl, ?_⟩
    rw [show its.toArray.any (eqU x) = its.any (eqU x) by simp, any_eqU r fs]
    exact q
  · obtain ⟨its, r, pl, hz⟩ := I.tuple hq
    refine SeqAt.in_tupleAt (eqU x) pl (fun w hw => mem_eqAt rx fx r fs w (by simpa using hw)) ⟨.bl _, H, I, rfl, ?_⟩
    rw [show its.toArray.any (eqU x) = its.any (eqU x) by simp, any_eqU r fs]
    exact q
theorem op_notIn_seq : OpR X (compareOp .NotIn) (rIn X.K true) := by
  intro pins s σ H x y v u Q I rx ry h
  obtain ⟨p, xs, rfl, hq, fx, fs, q⟩ := h
  cases ry
  rcases hq with hq | hq
  · obtain ⟨its, r, pl, hz⟩ := I.list hq
    refine SeqAt.notIn_listAt (eqU x) pl.isList (fun w hw => mem_eqAt rx fx r fs w (by simpa using hw)) ⟨.bl _, H, I, rfl, ?_⟩
    rw [show its.toArray.any (eqU x) = its.any (eqU x) by simp, any_eqU r fs]
    exact q
  · obtain ⟨its, r, pl, hz⟩ := I.tuple hq
    refine SeqAt.notIn_tupleAt (eqU x) pl (fun w hw => mem_eqAt rx fx r fs w (by simpa using hw)) ⟨.bl _, H, I, rfl, ?_⟩
    rw [show its.toArray.any (eqU x) = its.any (eqU x) by simp, any_eqU r fs]
    exact q

/-! ### len, list(x), tuple(x) of any list or tuple that is read -/
theorem call_len_seq : CallR X (.builtin "len") (fun xs H Q => ∃ p ys, xs = [.ref p] ∧ (SqL X.K H p ys ∨ SqT X.K H p ys) ∧ Q (.int ys.length) H) := by
  intro pins s σ H xs us Q I r h
  obtain ⟨p, ys, rfl, hq, q⟩ := h
  obtain ⟨u, rfl, rx⟩ := vals1 r
  cases rx
  have hn := line63
  rcases hq with hq | hq
  · obtain ⟨its, r', pl, hz⟩ := I.list hq
    have hlen := r'.length
    exact Calls.call_len_list pl.isList (by simp only [List.size_toArray] <;> omega) ⟨.int ys.length, H, I.tok _, ⟨s.toks + 1, by rw [List.size_toArray, hlen]⟩, q⟩
  · obtain ⟨its, r', pl, hz⟩ := I.tuple hq
    have hlen := r'.length
    exact len_tuple pl (by simp only [List.size_toArray] <;> omega) ⟨.int ys.length, H, I.tok _, ⟨s.toks + 1, by rw [List.size_toArray, hlen]⟩, q⟩
theorem call_len_str : CallR X (.builtin "len") (fun xs H Q => ∃ z, xs = [.str z] ∧ z.length ≤ sizeLine ∧ Q (.int z.length) H) := by
  intro pins s σ H xs us Q I r h
  obtain ⟨z, rfl, hz, q⟩ := h
  obtain ⟨u, rfl, t, rfl⟩ := vals1 r
  have hn := line63
  exact len_str (by omega) ⟨.int z.length, H, I.tok _, ⟨_, rfl⟩, q⟩
theorem CallR.or {f : Value} {r r' : List V → Hp → VK → Prop} (h : CallR X f r) (h' : CallR X f r') : CallR X f (fun xs H Q => r xs H Q ∨ r' xs H Q) := by
  intro pins s σ H xs us Q I rs q
  rcases q with q | q
  · exact h pins s σ H xs us Q I rs q
  · exact h' pins s σ H xs us Q I rs q
theorem call_tuple_of : CallR X (.type "tuple") (fun xs H Q => ∃ p ys, xs = [.ref p] ∧ ((SqL X.K H p ys ∧ ∀ l, H l = none → Q (.ref l) (upd H l (.tup ys))) ∨ (SqT X.K H p ys ∧ Q (.ref p) H))) := by
  intro pins s σ H xs us Q I r h
  obtain ⟨p, ys, rfl, h⟩ := h
  obtain ⟨u, rfl, rx⟩ := vals1 r
  cases rx
  rcases h with ⟨hq, q⟩ | ⟨hq, q⟩
  · obtain ⟨its, r', pl, hz⟩ := I.list hq
    have hlen := r'.length
    refine call_tuple_list pl.isList (fun h' kp => ?_) (by simp only [List.size_toArray] <;> omega)
    have I1 : Inv X pins σ H { s with heap := h' } := I.kept (t' := s.toks) kp
    have I2 : Inv X pins σ (upd H h'.objs.size (.tup ys)) { s with heap := h'.push { cls := .type "tuple", data := .seq its.toArray } } :=
      I1.laid (t' := s.toks) (fun b o e => Heap.get?_push_of_some _ e) (Nat.le_refl _) (show ObjOk X.prog X.w _ _ _ (.tup ys) from ⟨hz, its, r', IsTup.new _ _⟩)
    exact ⟨.ref h'.objs.size, _, I2, rfl, q _ (I1.hok.fresh (Nat.le_refl _))⟩
  · obtain ⟨its, r', pl, hz⟩ := I.tuple hq
    exact call_tuple_same pl ⟨.ref p, H, I, rfl, q⟩

/-! ### the call of a builtin's method: o.m(..) -/
/-- the value is of that builtin type -/
def tyV (K : PySem.W.Frag) (T : String) (x : V) (H : Hp) : Prop := match x with
  | .str _ => T = "str"
  | .int _ => T = "int"
  | .ref p => (T = "list" ∧ ∃ xs, SqL K H p xs) ∨ (T = "tuple" ∧ ∃ o, K.lookup p = some o ∧ o.cls = .type "tuple" ∧ o.dict = none) ∨
      (T = "dict" ∧ ((∃ kvs, H p = some (.dK kvs)) ∨ ∃ kvs, H p = some (.dT kvs))) ∨ (T = "set" ∧ ∃ S n, H p = some (.set S n))
  | _ => False
theorem tyV_is {pins : List (Addr × Obj)} {σ : St} {H : Hp} {s : Shared} {T : String} {x : V} {v : Value} (I : Inv X pins σ H s) (r : RelV x v) (ty : tyV X.K T x H) :
    s.TypeIs v T ∧ ∀ a, v = .ref a → ∃ ob, s.heap.get? a = some ob ∧ ob.dict = none := by
  cases x with
  | str z =>
    obtain ⟨t, rfl⟩ := r
    cases (show T = "str" from ty)
    exact ⟨typeIs_str s z t, fun _ e => nomatch e⟩
  | int i =>
    obtain ⟨t, rfl⟩ := r
    cases (show T = "int" from ty)
    exact ⟨typeIs_int s i t, fun _ e => nomatch e⟩
  | ref p =>
    cases r
    rcases ty with ⟨rfl, xs, hq⟩ | ⟨rfl, o, hk, hc, hd⟩ | ⟨rfl, hk⟩ | ⟨rfl, S, n, hk⟩
    · obtain ⟨its, _, pl, _⟩ := I.list hq
      refine ⟨pl.isList.typeIs, fun a e => ?_⟩
      cases e
      obtain ⟨o, n, e, c, hd, _⟩ := pl
      exact ⟨o, e, hd⟩
    · refine ⟨⟨o, I.kIn p o hk, hc⟩, fun a e => ?_⟩
      cases e
      exact ⟨o, I.kIn _ o hk, hd⟩
    · have z : ∃ o, s.heap.get? p = some o ∧ o.ExactDict := by
        rcases hk with ⟨kvs, hk⟩ | ⟨kvs, hk⟩
        · obtain ⟨_, _, _, _, o, _, _, e, ex, _⟩ := I.hok p _ hk
          exact ⟨o, e, ex⟩
        · obtain ⟨_, _, _, _, o, _, _, e, ex, _⟩ := I.hok p _ hk
          exact ⟨o, e, ex⟩
      obtain ⟨o, e, ex⟩ := z
      refine ⟨⟨o, e, ex.1⟩, fun a e2 => ?_⟩
      cases e2
      exact ⟨o, e, ex.2.1⟩
    · obtain ⟨o, _, _, _, e, ex, _⟩ := I.hok p _ hk
      refine ⟨⟨o, e, ex.1⟩, fun a e2 => ?_⟩
      cases e2
      exact ⟨o, e, ex.2.1⟩
  | _ => exact False.elim ty
def tBM (K : PySem.W.Frag) (T : String) (r : V → List V → Hp → VK → Prop) (to : TE) (t : TA) : TE := fun σ H Q => to σ H fun x H1 => tyV K T x H1 ∧ t σ H1 fun xs H2 => r x xs H2 Q
variable {o e : Expr} {es : List Expr} {to : TE} {t : TA} {name : Str} {apos cpos : Pos} {T id : String} {r : V → List V → Hp → VK → Prop}
theorem pe_bm (pa : PlainAttrs T) (slot : Slot T name id) (hty : typeOf (.builtin id) = pure (.type "method_descriptor")) (hm : MtR X id r) (ho : PE X o to) (ha : PA X (e :: es) t)
    (hbase : attributeBase o name X.env (eval o X.env) = eval o X.env := by rfl)
    (hfew : ((backTo cpos (starEach (e :: es) X.env)).all (fun x => !x.1) && (backToKw cpos (keywordEach [] X.env)).all (fun x => x.1.isSome)
      && decide ((e :: es).length + ([] : List Keyword).length + (if ([] : List Keyword).isEmpty then 0 else 1) < 30)) = true := by rfl)
    (hline : (apos.endLine == cpos.line) = true := by rfl) (hs : starEach (e :: es) X.env = (false, eval e X.env) :: starEach es X.env := by rfl) (hplain : (backTo cpos (starEach es X.env)).any (·.1) = false := by rfl) :
    PE X (.Call (.Attribute o name apos) (e :: es) [] cpos) (tBM X.K T r to t) := by
  intro pins s σ H Q I h
  refine wpAny_Call_method_late hbase hfew hline rfl (thn (ho pins s σ H _ I h) fun v s1 ⟨x, H1, I1, r1, ty, q1⟩ => ?_)
  obtain ⟨h1, h2⟩ := tyV_is I1 r1 ty
  refine ⟨T, id, pa, slot, hty, h1, h2, ?_⟩
  have hA := ha cpos pins s1 σ H1 _ I1 q1
  rw [hs] at hA ⊢
  refine Calls.callWith_builtin (by show (false || (backTo cpos (starEach es X.env)).any (·.1)) = false; rw [hplain] <;> rfl) (Calls.evalArgs_plain ?_)
  exact thn hA fun us s2 ⟨vs, H2, I2, r2, q2⟩ => hm pins s2 σ H2 x vs v us Q I2 r1 r2 q2
/- xs.append(e), list.index on a module's tuple .. are MtR facts of 06m -/
end
end L2

namespace L2
open PySem PySem.Spec PyProof.Rows

def MtM (X : Cx) (id : String) (r : V → List V → Hp → VK → Prop) : Prop :=
  ∀ (pins : List (Addr × Obj)) (s : Shared) (σ : St) (H : Hp) (x : V) (xs : List V) (v : Value) (us : List Value) (Q : VK), Inv X pins σ H s → RelV x v → Vals xs us → r x xs H Q →
    wpAny (model X.prog X.w) X.A (call (.builtin id) (v :: us)) (EP X pins σ Q) X.xe s

/-! ### lists of values -/
theorem Vals.one : ∀ {x : V} {us : List Value}, Vals [x] us → ∃ u, us = [u] ∧ RelV x u
  | _, _, .cons r .nil => ⟨_, rfl, r⟩
theorem Vals.two : ∀ {x y : V} {us : List Value}, Vals [x, y] us → ∃ u v, us = [u, v] ∧ RelV x u ∧ RelV y v
  | _, _, _, .cons r (.cons q .nil) => ⟨_, _, rfl, r, q⟩
theorem Vals.zero : ∀ {us : List Value}, Vals [] us → us = []
  | _, .nil => rfl
theorem Vals.dropLast {xs : List V} {us : List Value} (h : Vals xs us) : Vals xs.dropLast us.dropLast := by
  induction h with
  | nil => exact .nil
  | cons r t ih =>
    cases t with
    | nil => exact .nil
    | cons q t' => exact .cons r ih
theorem Vals.reverse {xs : List V} {us : List Value} (h : Vals xs us) : Vals xs.reverse us.reverse := by
  induction h with
  | nil => exact .nil
  | cons r t ih => rw [List.reverse_cons, List.reverse_cons]; exact Vals.append ih (.cons r .nil)
theorem Vals.rep {xs : List V} {us : List Value} (h : Vals xs us) : ∀ k : Nat, Vals (List.replicate k xs).flatten (List.replicate k us).flatten
  | 0 => .nil
  | k + 1 => by
    rw [List.replicate_succ, List.replicate_succ, List.flatten_cons, List.flatten_cons]
    exact Vals.append h (Vals.rep h k)
theorem foldl_rep (its : List Value) : ∀ (k : Nat) (acc : List Value),
    List.foldl (fun x1 x2 => x1 ++ x2) acc.toArray (List.replicate k its.toArray) = (acc ++ (List.replicate k its).flatten).toArray
  | 0, acc => by simp
  | k + 1, acc => by
    have e : acc.toArray ++ its.toArray = (acc ++ its).toArray := by simp
    have e2 : (acc ++ its) ++ (List.replicate k its).flatten = acc ++ (List.replicate (k + 1) its).flatten := by
      rw [List.replicate_succ, List.flatten_cons, List.append_assoc]
    rw [← e2, ← foldl_rep its k (acc ++ its), ← e, List.replicate_succ, List.foldl_cons]

section
variable {X : Cx} {pins : List (Addr × Obj)} {σ : St} {H : Hp} {s : Shared} {l b : Addr} {xs ys zs : List V}

/-! ### the two steps: a tracked list is rewritten, a new list is laid -/
theorem Inv.lset {its its' : List Value} {n : Nat} {f : Array Value → Array Value} {t' : Nat} (I : Inv X pins σ H s) (hH : H l = some (.lst xs))
    (e : s.heap.get? l = some { cls := .type "list", data := .seq its.toArray n }) (hf : f its.toArray = its'.toArray) (hv : Vals ys its') (hz : ys.length ≤ sizeLine) :
    Inv X pins σ (upd H l (.lst ys)) { s with heap := s.heap.update l (Obj.mapSeq f), toks := t' } := by
  have q := PySem.IsL.update e f
  rw [hf] at q
  refine I.write (x := l) (e := l) (by rw [hH]; exact trivial) (.inl rfl) (fun b' u hb hu => (Heap.get?_update_other s.heap (Obj.mapSeq f) (Ne.symm hb)).trans hu) ⟨_, q⟩ ?_
  exact ⟨hz, its', _, hv, q⟩
theorem Inv.lnew {its : List Value} {t' : Nat} (I : Inv X pins σ H s) (hv : Vals ys its) (hz : ys.length ≤ sizeLine) :
    Inv X pins σ (upd H s.heap.objs.size (.lst ys)) { s with heap := s.heap.push { cls := .type "list", data := .seq its.toArray }, toks := t' } :=
  I.laid (fun _ _ q => Heap.get?_push_of_some _ q) (Nat.le_refl _) ⟨hz, its, 0, hv, Heap.get?_push_size _ rfl⟩
theorem Inv.fresh (I : Inv X pins σ H s) : H s.heap.objs.size = none := I.hok.fresh (Nat.le_refl _)
theorem Inv.lstM (I : Inv X pins σ H s) (hH : H l = some (.lst xs)) : xs.length ≤ sizeLine ∧ ∃ (its : List Value) (n : Nat), Vals xs its ∧ xs.length = its.length ∧ s.heap.get? l = some { cls := .type "list", data := .seq its.toArray n } := by
  obtain ⟨z, its, n, r, e⟩ := I.hok l _ hH
  exact ⟨z, its, n, r, r.length, e⟩

theorem notLongL {n : Nat} (h : n ≤ sizeLine) : Builtin.List.listTooLong n = false := by
  unfold Builtin.List.listTooLong
  exact decide_eq_false (by omega)
end

section
variable {X : Cx}

/-! ### methods -/
def rAppend : V → List V → Hp → VK → Prop := fun x vs H Q => ∃ l xs y, x = .ref l ∧ vs = [y] ∧ H l = some (.lst xs) ∧ xs.length < sizeLine ∧ Q .non (upd H l (.lst (xs ++ [y])))
theorem mt_append : MtM X "list.append" rAppend := by
  intro pins s σ H x vs v us Q I rx rv h
  obtain ⟨l, xs, y, rfl, rfl, hH, hz, q⟩ := h
  cases rx
  obtain ⟨u, rfl, ru⟩ := rv.one
  obtain ⟨z, its, n, r, hl, e⟩ := I.lstM hH
  refine call_meets F.slot_list_append ⟨_, e, rfl⟩ F.entry_list_append (F.args_list_append_2 _ _) (PySem.list_append l its.toArray n u (by rw [List.size_toArray]; omega)) ⟨e, ?_⟩
  refine ⟨.non, _, I.lset (its' := its ++ [u]) hH e (by simp) (r.append (.cons ru .nil)) ?_, rfl, q⟩
  rw [List.length_append, List.length_singleton]
  omega

def rExtend : V → List V → Hp → VK → Prop := fun x vs H Q => ∃ l b xs zs, x = .ref l ∧ vs = [.ref b] ∧ H l = some (.lst xs) ∧ H b = some (.lst zs) ∧ xs.length + zs.length ≤ sizeLine ∧ Q .non (upd H l (.lst (xs ++ zs)))
theorem mt_extend : MtM X "list.extend" rExtend := by
  intro pins s σ H x vs v us Q I rx rv h
  obtain ⟨l, b, xs, zs, rfl, rfl, hH, hB, hz, q⟩ := h
  cases rx
  obtain ⟨u, rfl, ru⟩ := rv.one
  cases ru
  obtain ⟨z, its, n, r, hl, e⟩ := I.lstM hH
  obtain ⟨z2, its2, n2, r2, hl2, e2⟩ := I.lstM hB
  have hsz : its.toArray.size + its2.toArray.size ≤ sizeLine := by rw [List.size_toArray, List.size_toArray]; omega
  have hlong : ¬ (!its.toArray.isEmpty && Builtin.List.listTooLong (its.toArray.size + its2.toArray.size)) = true := by
    rw [notLongL hsz, Bool.and_false]
    exact Bool.false_ne_true
  refine call_meets F.slot_list_extend ⟨_, e, rfl⟩ F.entry_list_extend (F.args_list_extend_2 _ _)
    (AutoSeq1.list_extend_list_list_0 l its.toArray n b its2.toArray n2 hlong (by rw [List.size_toArray]; omega) (by omega)) ⟨e, e2, ?_⟩
  refine ⟨.non, _, I.lset (its' := its ++ its2) hH e (by simp) (r.append r2) ?_, rfl, q⟩
  rw [List.length_append]
  omega





/-! ### list + list, list += list, list * int -/
def rCat : R2 := fun x y H Q => ∃ l b xs zs, x = .ref l ∧ y = .ref b ∧ H l = some (.lst xs) ∧ H b = some (.lst zs) ∧ xs.length + zs.length ≤ sizeLine ∧ ∀ p, H p = none → Q (.ref p) (upd H p (.lst (xs ++ zs)))
theorem op_cat : OpR X (binaryOp .Add) rCat := by
  intro pins s σ H x y v u Q I rx ry h
  obtain ⟨l, b, xs, zs, rfl, rfl, hH, hB, hz, q⟩ := h
  cases rx
  cases ry
  obtain ⟨z, its, n, r, hl, e⟩ := I.lstM hH
  obtain ⟨z2, its2, n2, r2, hl2, e2⟩ := I.lstM hB
  refine PySem.P.add_list e e2 ?_ (by rw [List.size_toArray, List.size_toArray]; omega)
  have ea : its.toArray ++ its2.toArray = (its ++ its2).toArray := by simp
  rw [ea]
  exact ⟨.ref _, _, I.lnew (t' := s.toks) (r.append r2) (by rw [List.length_append]; omega), rfl, q _ I.fresh⟩
/-- a list times an int (a negative one is nothing) -/
def rRep : R2 := fun x y H Q => ∃ l k xs, x = .ref l ∧ y = .int k ∧ H l = some (.lst xs) ∧ -(2 ^ 63) ≤ k ∧ k < 2 ^ 63 ∧ xs.length * k.toNat ≤ sizeLine ∧
  ∀ p, H p = none → Q (.ref p) (upd H p (.lst (List.replicate k.toNat xs).flatten))
theorem len_rep {α : Type} (xs : List α) (k : Nat) : (List.replicate k xs).flatten.length = k * xs.length := by
  induction k with
  | zero => simp
  | succ k ih => rw [List.replicate_succ, List.flatten_cons, List.length_append, ih, Nat.succ_mul, Nat.add_comm]
theorem op_rep : OpR X (binaryOp .Mult) rRep := by
  intro pins s σ H x y v u Q I rx ry h
  obtain ⟨l, k, xs, rfl, rfl, hH, h1, h2, hz, q⟩ := h
  cases rx
  obtain ⟨t, rfl⟩ := ry
  obtain ⟨z, its, n, r, hl, e⟩ := I.lstM hH
  have hlen : its.toArray.size * k.toNat ≤ sizeLine := by rw [List.size_toArray, ← hl]; exact hz
  have hcap : ¬ its.toArray.size * k.toNat > (2 ^ 63 - 1) / 8 := by
    have : (sizeLine : Nat) ≤ (2 ^ 63 - 1) / 8 := by decide
    omega
  have hfit : ¬ (!Builtin.List.listFitsIndex k) = true := by
    rw [fitsIndex_both h1 h2]
    exact Bool.false_ne_true
  have hlong : ¬ Builtin.List.listTooLong (its.toArray.size * k.toNat) = true := by
    rw [notLongL hlen]
    exact Bool.false_ne_true
  have hnew : List.foldl (fun x1 x2 => x1 ++ x2) #[] (List.replicate (if its.toArray.isEmpty = true then 0 else k.toNat) its.toArray) = (List.replicate k.toNat its).flatten.toArray := by
    have f0 : ∀ m : Nat, List.foldl (fun x1 x2 => x1 ++ x2) #[] (List.replicate m its.toArray) = (List.replicate m its).flatten.toArray := fun m => by
      have := foldl_rep its m []
      rw [List.nil_append] at this
      exact this
    rw [f0]
    cases its with
    | nil => simp
    | cons a r' => rw [if_neg (by simp)]
  refine wpAny_binaryOp_repeat_ref (T := "list") (U := "int") (by decide) ⟨_, e, rfl⟩ (fun s' => typeIs_int s' k t) noFill_list_mul F.fills_int_mul F.slot_int_rmul repeat_list F.slot_int_index.lookup
    (call_meets F.slot_int_rmul (typeIs_int s k t) F.entry_int_rmul (F.args_int_rmul_2 _ _) (int___rmul___int_list k t l its.toArray n)
      ⟨e, rfl, ⟨_, e, rfl⟩, call_meets F.slot_list_mul ⟨_, e, rfl⟩ F.entry_list_mul (F.args_list_mul_2 _ _) (AutoListH.list___mul___list_int_3 l its.toArray n k t hfit hcap hlong) ⟨e, ?_⟩⟩)
  rw [hnew]
  exact ⟨.ref _, _, I.lnew (t' := s.toks) (r.rep k.toNat) (by rw [len_rep, Nat.mul_comm]; exact hz), rfl, q _ I.fresh⟩

/-! ### del xs[i] -/
end

/-! ### xs[a:b] = ys -/
section
variable {prog : Program} {w : World} {A : Around} {E : Value → Shared → Prop} {s : Shared}
set_option maxRecDepth 100000 in
end

section
variable {X : Cx}
end
end L2

namespace L2
open PySem PySem.Spec PyProof.Rows

theorem Vals.ints : ∀ {ns : List Int} {us : List Value}, Vals (ns.map V.int) us → IntsAre us ns
  | [], us, h => by
    rw [List.map_nil] at h
    cases h
    exact IntsAre.nil
  | n :: ns, us, h => by
    rw [List.map_cons] at h
    cases h with
    | cons r t =>
      obtain ⟨k, rfl⟩ := r
      exact IntsAre.cons n k (Vals.ints t)
theorem vals_of_ints : ∀ {us : List Value} {ns : List Int}, IntsAre us ns → Vals (ns.map V.int) us
  | _, _, .nil => by rw [List.map_nil]; exact Paired.nil
  | _, _, .cons n t h => by rw [List.map_cons]; exact Paired.cons (show RelV (V.int n) (Value.int n t) from ⟨t, rfl⟩) (vals_of_ints h)
theorem Vals.strs : ∀ {xs : List Str} {us : List Value}, Vals (xs.map V.str) us → StrsAre us xs
  | [], us, h => by
    rw [List.map_nil] at h
    cases h
    exact StrsAre.nil
  | x :: xs, us, h => by
    rw [List.map_cons] at h
    cases h with
    | cons r t =>
      obtain ⟨k, rfl⟩ := r
      exact StrsAre.cons x k (Vals.strs t)
theorem Vals.bls : ∀ {bs : List Bool} {us : List Value}, Vals (bs.map V.bl) us → us = bs.map Value.bool
  | [], us, h => by
    rw [List.map_nil] at h
    cases h
    rfl
  | b :: bs, us, h => by
    rw [List.map_cons] at h
    cases h with
    | cons r t =>
      cases r
      rw [Vals.bls t, List.map_cons]
theorem Vals.ref1 {a : Addr} {us : List Value} (r : Vals [V.ref a] us) : us = [Value.ref a] := by
  cases r with
  | cons r t =>
    cases t
    cases r
    rfl

/-! ### the library's walks over a list of ints, kept objects alone -/
section
variable {prog : Program} {w : World} {A : Around} {E : Value → Shared → Prop} {s : Shared} {l : Addr} {its : List Value} {ns : List Int} {Q : Value → Shared → Prop}
end

/-! ### the calls, by values (CallR of 03t; MtR of 06l) -/
section
variable {X : Cx}

/-! sorted, sort (fewer than 64 items: the library's own bound) -/
end

/-! ### list.index, flat items -/
section
variable {X : Cx}
def rIndex (K : PySem.W.Frag) : V → List V → Hp → VK → Prop := fun x xs H Q => ∃ (a : Addr) (ys : List V) (y : V) (j : Nat) (z : V), x = V.ref a ∧ xs = [y] ∧ SqL K H a ys ∧ flatV y = true ∧ ys.all flatV = true ∧ ys[j]? = some z ∧ eqV z y = true ∧
  (∀ (m : Nat) (z' : V), m < j → ys[m]? = some z' → eqV z' y = false) ∧ Q (.int (j : Nat)) H
theorem flat_at {ys : List V} (f : ys.all flatV = true) {j : Nat} {z : V} (h : ys[j]? = some z) : flatV z = true := List.all_eq_true.mp f z (List.mem_of_getElem? h)
theorem mt_index : MtR X "list.index" (rIndex X.K) := by
  intro pins s σ H x xs v us Q I rx rxs h
  obtain ⟨a, ys, y, j, z, rfl, rfl, hs, fy, fys, hz, hzj, hno, q⟩ := h
  cases rx
  cases rxs with
  | cons ry rt =>
    rename_i uy ut
    cases rt
    obtain ⟨its, rv, ⟨⟨cls, dd, data, sl⟩, n, ho, hc, hdn, hd⟩, hlen⟩ := I.list hs
    simp only at hc hd
    subst hc hd
    obtain ⟨u, hu, ru⟩ := rv.get hz
    obtain ⟨hjl, hje⟩ := List.getElem?_eq_some_iff.mp hu
    have hvl := rv.length
    have hj : j < its.toArray.size := by simpa using hjl
    have hsl := sizeLine_eq
    refine call_meets PySem.F.slot_list_index ⟨_, ho, rfl⟩ PySem.F.entry_list_index (PySem.F.args_list_index_2 _ _)
      (SeqAt.list_indexAt a its.toArray n dd sl uy (eqU y) j hj (by omega) ?_ ?_) ⟨ho, fun u' hu' => mem_eqAt ry fy rv fys u' (by simpa using hu'), ?_⟩
    · have e1 : its.toArray[j] = u := by simpa using hje
      rw [e1, eqU_of ru (flat_at fys hz)]
      exact hzj
    · intro m hm hmj
      have hml : m < its.length := by simpa using hm
      have hmy : m < ys.length := by omega
      have hy' : ys[m]? = some ys[m] := List.getElem?_eq_getElem hmy
      obtain ⟨u2, hu2, ru2⟩ := rv.get hy'
      obtain ⟨_, hme⟩ := List.getElem?_eq_some_iff.mp hu2
      have e1 : its.toArray[m] = u2 := by simpa using hme
      rw [e1, eqU_of ru2 (flat_at fys hy')]
      exact hno m _ hmj hy'
    · exact ⟨.int (j : Nat), H, I.tok _, ⟨_, rfl⟩, q⟩
end

/-! ### type(x) of an own instance; is, is not of a module's class -/
section
variable {X : Cx}
end

/-! ### any(xs), all(xs) of a list of bools -/
theorem iter_any {prog : Program} {w : World} {A : Around} {E : Value → Shared → Prop} {s : Shared} {l : Addr} {items : Array Value} {Q : Value → Shared → Prop} (hl : s.heap.IsList l items)
    (h : ∀ s₂ : Shared, s₂ = { s with heap := s.heap.push { cls := .type "list_iterator", data := .fields #[.ref l, .int 0 0] } } →
      (s₂.heap.IsListIter s.heap.objs.size l 0 ∧ s₂.heap.IsList l items) → l ≠ s.heap.objs.size → Q (.ref s.heap.objs.size) s₂) : wpAny (model prog w) A (pyIter (.ref l)) Q E s := by
  have hlt : l < s.heap.objs.size := by obtain ⟨_, e, _⟩ := hl; exact Heap.lt_size e
  exact wpAny_pyIter_list hl (h _ rfl ⟨⟨_, Heap.get?_push_size _ rfl, rfl, rfl⟩, hl.push _⟩ (Nat.ne_of_lt hlt))
theorem truth_bools {prog : Program} {w : World} {A : Around} {bs : List Bool} {its : List Value} (e : its = bs.map Value.bool) :
    TruthOf prog w A (fun i v => its.toArray[i]? = some v) (fun i => bs.getD i false) := fun i v s Q E hv hq => by
  have hv' : its[i]? = some v := by simpa using hv
  rw [e, List.getElem?_map] at hv'
  obtain ⟨b, hb, rfl⟩ := Option.map_eq_some_iff.mp hv'
  have hg : bs.getD i false = b := by rw [List.getD_eq_getElem?_getD, hb] <;> rfl
  have hq' : Q (bs.getD i false) s := hq
  rw [hg] at hq'
  exact wpAny_truthy_bool hq'
theorem any_range : ∀ bs : List Bool, (List.range bs.length).any (fun i => bs.getD i false) = bs.any id
  | [] => rfl
  | b :: bs => by
    rw [List.length_cons, List.range_succ_eq_map, List.any_cons, List.any_map, List.any_cons, ← any_range bs]
    all_goals rfl
theorem all_range : ∀ bs : List Bool, (List.range bs.length).all (fun i => bs.getD i false) = bs.all id
  | [] => rfl
  | b :: bs => by
    rw [List.length_cons, List.range_succ_eq_map, List.all_cons, List.all_map, List.all_cons, ← all_range bs]
    all_goals rfl
section
variable {X : Cx}
def rAny (K : PySem.W.Frag) : List V → Hp → VK → Prop := fun vs H Q => ∃ (a : Addr) (bs : List Bool), vs = [V.ref a] ∧ SqL K H a (bs.map V.bl) ∧ Q (.bl (bs.any id)) H
def rAll (K : PySem.W.Frag) : List V → Hp → VK → Prop := fun vs H Q => ∃ (a : Addr) (bs : List Bool), vs = [V.ref a] ∧ SqL K H a (bs.map V.bl) ∧ Q (.bl (bs.all id)) H
theorem cr_any (hc : X.calm = true) : CallR X (.builtin "any") (rAny X.K) := by
  intro pins s σ H vs us Q I r h
  obtain ⟨a, bs, rfl, hs, q⟩ := h
  obtain ⟨its, rv, hl, _⟩ := I.list hs
  rw [Vals.ref1 r]
  have hb := rv.bls
  refine call_any_walk (iter_any hl.isList fun s₂ e2 st hne => ?_)
  subst e2
  refine ⟨_, _, _, _, _, _, _, rfl, Walks.list (A := X.A.in1) (I.ok.hd hc) _ a hne its.toArray, st, truth_bools hb, fun h' tk hk => ?_⟩
  refine ⟨.bl _, H, I.kept fun b o eo => hk b o (fun hmem => ?_) (Heap.get?_push_of_some _ eo), ?_, q⟩
  · rcases List.mem_cons.mp hmem with e1 | hmem
    · exact absurd (e1 ▸ Heap.lt_size eo) (Nat.lt_irrefl _)
    · cases hmem
  · show Value.bool _ = Value.bool _
    rw [← any_range, hb, List.size_toArray, List.length_map]
theorem cr_all (hc : X.calm = true) : CallR X (.builtin "all") (rAll X.K) := by
  intro pins s σ H vs us Q I r h
  obtain ⟨a, bs, rfl, hs, q⟩ := h
  obtain ⟨its, rv, hl, _⟩ := I.list hs
  rw [Vals.ref1 r]
  have hb := rv.bls
  refine call_all_walk (iter_any hl.isList fun s₂ e2 st hne => ?_)
  subst e2
  refine ⟨_, _, _, _, _, _, _, rfl, Walks.list (A := X.A.in1) (I.ok.hd hc) _ a hne its.toArray, st, truth_bools hb, fun h' tk hk => ?_⟩
  refine ⟨.bl _, H, I.kept fun b o eo => hk b o (fun hmem => ?_) (Heap.get?_push_of_some _ eo), ?_, q⟩
  · rcases List.mem_cons.mp hmem with e1 | hmem
    · exact absurd (e1 ▸ Heap.lt_size eo) (Nat.lt_irrefl _)
    · cases hmem
  · show Value.bool _ = Value.bool _
    rw [← all_range, hb, List.size_toArray, List.length_map]
end

/-! ### == and != of data at any depth: none, bools, ints, texts, lists, tuples -/
mutual
inductive Dp (K : PySem.W.Frag) (H : Hp) : V → PyData → Prop
  | non : Dp K H .non .none
  | bl (b : Bool) : Dp K H (.bl b) (.bool b)
  | int (i : Int) : Dp K H (.int i) (.int i)
  | str (x : Str) : Dp K H (.str x) (.str x)
  | lst {a : Addr} {xs : List V} {ds : List PyData} : SqL K H a xs → DpAll K H xs ds → Dp K H (.ref a) (.list ds)
  | tup {a : Addr} {xs : List V} {ds : List PyData} : SqT K H a xs → DpAll K H xs ds → Dp K H (.ref a) (.tuple ds)
inductive DpAll (K : PySem.W.Frag) (H : Hp) : List V → List PyData → Prop
  | nil : DpAll K H [] []
  | cons {v : V} {vs : List V} {d : PyData} {ds : List PyData} : Dp K H v d → DpAll K H vs ds → DpAll K H (v :: vs) (d :: ds)
end
section
variable {X : Cx} {pins : List (Addr × Obj)} {σ : St} {H : Hp} {s : Shared}
mutual
theorem Dp.reads (I : Inv X pins σ H s) : ∀ (d : PyData) (v : V) (u : Value), Dp X.K H v d → RelV v u → ∃ as, Reads s.heap u d as
  | .none, _, _, h, r => by
    cases h
    cases r
    exact ⟨_, Reads.none⟩
  | .bool b, _, _, h, r => by
    cases h
    cases r
    exact ⟨_, Reads.bool b⟩
  | .int i, _, _, h, r => by
    cases h
    obtain ⟨t, rfl⟩ := r
    exact ⟨_, Reads.int i t⟩
  | .str x, _, _, h, r => by
    cases h
    obtain ⟨t, rfl⟩ := r
    exact ⟨_, Reads.str x t⟩
  | .list ds, _, _, h, r => by
    cases h with
    | lst hs ha =>
      cases r
      obtain ⟨its, rv, ⟨o, n, ho, hc, _, hd⟩, _⟩ := I.list hs
      obtain ⟨as, hr⟩ := Dp.readsAll I ds _ its ha rv
      exact ⟨_, Reads.list ho hc hd hr⟩
  | .tuple ds, _, _, h, r => by
    cases h with
    | tup hs ha =>
      cases r
      obtain ⟨its, rv, ⟨o, ho, hc, n, hd⟩, _⟩ := I.tuple hs
      obtain ⟨as, hr⟩ := Dp.readsAll I ds _ its ha rv
      exact ⟨_, Reads.tuple ho hc hd hr⟩
  | .dict _, _, _, h, _ => by cases h
theorem Dp.readsAll (I : Inv X pins σ H s) : ∀ (ds : List PyData) (vs : List V) (us : List Value), DpAll X.K H vs ds → Vals vs us → ∃ as, ReadsAll s.heap us ds as
  | [], _, _, h, r => by
    cases h
    cases r
    exact ⟨_, ReadsAll.nil⟩
  | d :: ds, _, _, h, r => by
    cases h with
    | cons h1 h2 =>
      cases r with
      | cons r1 r2 =>
        obtain ⟨as, q1⟩ := Dp.reads I d _ _ h1 r1
        obtain ⟨bs, q2⟩ := Dp.readsAll I ds _ _ h2 r2
        exact ⟨_, ReadsAll.cons q1 q2⟩
end
end
section
variable {X : Cx}
def rNeD (K : PySem.W.Frag) : R2 := fun x y H Q => ∃ d e, Dp K H x d ∧ Dp K H y e ∧ SeqAt.shaped d = true ∧ SeqAt.shaped e = true ∧ Q (.bl (!PyData.eqv d e)) H
theorem op_neD (hu : X.A.units + 64 < cLine) : OpR X (compareOp .NotEq) (rNeD X.K) := by
  intro pins s σ H x y v u Q I rx ry h
  obtain ⟨d, e, hd, he, sd, se, q⟩ := h
  obtain ⟨as, r1⟩ := Dp.reads I d x v hd rx
  obtain ⟨bs, r2⟩ := Dp.reads I e y u he ry
  exact SeqAt.compareNe_shaped r1 r2 sd se hu ⟨.bl _, H, I, rfl, q⟩
end
end L2

namespace L2
open PySem PySem.Spec PyProof.Rows
abbrev CellAt (h : Heap) (c : Addr) (v : Option Value) : Prop := h.IsCell c v
def relS (scope sc : Scope) : Scope :=
  { scope with names := scope.names.map fun (n, k) => if (k == .free && sc.kind == .function && sc.names.lookup n == some .cell) then (n, .cell) else (n, k) }

def cloFrom (cells : List (Str × Addr)) : List (Str × NameKind) → List (Str × Addr) → List (Str × Addr)
  | [], acc => acc
  | (n, k) :: r, acc => if k == .free then cloFrom cells r ((n, (cells.lookup n).getD 0) :: acc) else cloFrom cells r acc

theorem closure_loop (env : Env) (f : Str × NameKind → List (Str × Addr) → Sem (ForInStep (List (Str × Addr))))
    (hf : ∀ n k c, f (n, k) c = if k == .free then (do let a ← cellOf env n; pure (.yield ((n, a) :: c))) else pure (.yield c)) :
    ∀ (names : List (Str × NameKind)) (acc : List (Str × Addr)), (∀ y ∈ names, y.2 = .free → ∃ c, env.cells.lookup y.1 = some c) → forIn names acc f = pure (cloFrom env.cells names acc)
  | [], acc, _ => by rw [List.forIn_nil]; rfl
  | (n, k) :: r, acc, h => by
    rw [List.forIn_cons, hf]
    have ih := fun acc => closure_loop env f hf r acc fun y hy => h y (List.mem_cons_of_mem _ hy)
    unfold cloFrom
    by_cases hk : (k == NameKind.free) = true
    · rw [if_pos hk, if_pos hk]
      obtain ⟨c, hc⟩ := h (n, k) List.mem_cons_self (by simpa using hk)
      have e : cellOf env n = pure c := by unfold cellOf; rw [hc]
      rw [e]
      have e2 : (env.cells.lookup n).getD 0 = c := by rw [hc]; rfl
      rw [e2]
      exact ih _
    · rw [if_neg hk, if_neg hk]
      exact ih _
theorem closure_ok {scope : Scope} {env : Env} (h : ∀ y ∈ scope.names, y.2 = .free → ∃ c, env.cells.lookup y.1 = some c) : closureFor scope env = pure (cloFrom env.cells scope.names []) := by
  simp only [closureFor]
  rw [closure_loop env _ (fun n k c => rfl) scope.names [] h]
  rfl

theorem mem_lookup {α : Type} : ∀ {l : List (Str × α)} {n : Str} {c : α}, (n, c) ∈ l → ∃ c', l.lookup n = some c'
  | (k, v) :: r, n, c, h => by
    rw [List.lookup_cons]
    cases hb : n == k with
    | true => exact ⟨_, rfl⟩
    | false =>
      rcases List.mem_cons.mp h with e | h
      · cases e; simp at hb
      · exact mem_lookup h

theorem cloFrom_mem {cells : List (Str × Addr)} : ∀ {names : List (Str × NameKind)} {acc : List (Str × Addr)} {n : Str} {c : Addr}, (n, c) ∈ cloFrom cells names acc → (n, c) ∈ acc ∨ ((n, .free) ∈ names ∧ c = (cells.lookup n).getD 0)
  | [], _, _, _, h => .inl h
  | (m, k) :: r, acc, n, c, h => by
    unfold cloFrom at h
    split at h
    · rename_i hk
      have hk : k = .free := by simpa using hk
      rcases cloFrom_mem h with h | ⟨h1, h2⟩
      · rcases List.mem_cons.mp h with e | h
        · cases e; exact .inr ⟨hk ▸ List.mem_cons_self, rfl⟩
        · exact .inl h
      · exact .inr ⟨List.mem_cons_of_mem _ h1, h2⟩
    · rcases cloFrom_mem h with h | ⟨h1, h2⟩
      · exact .inl h
      · exact .inr ⟨List.mem_cons_of_mem _ h1, h2⟩
theorem cloFrom_acc {cells : List (Str × Addr)} : ∀ {names : List (Str × NameKind)} {acc : List (Str × Addr)} {p : Str × Addr}, p ∈ acc → p ∈ cloFrom cells names acc
  | [], _, _, h => h
  | (m, k) :: r, acc, p, h => by
    unfold cloFrom
    split
    · exact cloFrom_acc (List.mem_cons_of_mem _ h)
    · exact cloFrom_acc h
theorem cloFrom_has {cells : List (Str × Addr)} : ∀ {names : List (Str × NameKind)} {acc : List (Str × Addr)} {n : Str}, (n, .free) ∈ names → (n, (cells.lookup n).getD 0) ∈ cloFrom cells names acc
  | (m, k) :: r, acc, n, h => by
    unfold cloFrom
    rcases List.mem_cons.mp h with e | h
    · cases e
      exact cloFrom_acc List.mem_cons_self
    · split
      · exact cloFrom_has h
      · exact cloFrom_has h

theorem cells_mem : ∀ {names : List (Str × NameKind)} {h : Heap} {acc : List (Str × Addr)} {x : Str} {c : Addr}, (x, c) ∈ cellsFrom h.objs.size names acc →
    (x, c) ∈ acc ∨ ((x, .cell) ∈ names ∧ h.objs.size ≤ c ∧ CellAt (pushCells h names) c none)
  | [], _, _, _, _, h => .inl h
  | (n, k) :: r, h, acc, x, c, hm => by
    unfold cellsFrom at hm
    unfold pushCells
    split at hm
    · rename_i hk
      rw [if_pos hk]
      have hk : k = .cell := by simpa using hk
      rw [← Heap.size_push h { cls := .type "cell", data := .cell none }] at hm
      rcases cells_mem hm with hm | ⟨h1, h2, h3⟩
      · rcases List.mem_cons.mp hm with e | hm
        · cases e
          exact .inr ⟨hk ▸ List.mem_cons_self, Nat.le_refl _, _, pushCells_keeps r _ _ _ (Heap.get?_push_size _ rfl), rfl⟩
        · exact .inl hm
      · rw [Heap.size_push] at h2
        exact .inr ⟨List.mem_cons_of_mem _ h1, Nat.le_of_succ_le h2, h3⟩
    · rename_i hk
      rw [if_neg hk]
      rcases cells_mem hm with hm | ⟨h1, h2, h3⟩
      · exact .inl hm
      · exact .inr ⟨List.mem_cons_of_mem _ h1, h2, h3⟩
theorem cells_acc : ∀ {names : List (Str × NameKind)} {n : Nat} {acc : List (Str × Addr)} {p : Str × Addr}, p ∈ acc → p ∈ cellsFrom n names acc
  | [], _, _, _, h => h
  | (m, k) :: r, n, acc, p, h => by
    unfold cellsFrom
    split
    · exact cells_acc (List.mem_cons_of_mem _ h)
    · exact cells_acc h
theorem cells_has : ∀ {names : List (Str × NameKind)} {n : Nat} {acc : List (Str × Addr)} {x : Str}, (x, .cell) ∈ names → ∃ c, (x, c) ∈ cellsFrom n names acc
  | (m, k) :: r, n, acc, x, h => by
    unfold cellsFrom
    rcases List.mem_cons.mp h with e | h
    · cases e
      exact ⟨n, cells_acc List.mem_cons_self⟩
    · split
      · exact cells_has h
      · exact cells_has h
theorem cells_inj : ∀ {names : List (Str × NameKind)} {h : Heap} {acc : List (Str × Addr)} {x y : Str} {c : Addr}, (∀ p ∈ acc, p.2 < h.objs.size) → (∀ x y c, (x, c) ∈ acc → (y, c) ∈ acc → x = y) →
    (x, c) ∈ cellsFrom h.objs.size names acc → (y, c) ∈ cellsFrom h.objs.size names acc → x = y
  | [], _, _, _, _, _, _, hi, h1, h2 => hi _ _ _ h1 h2
  | (n, k) :: r, h, acc, x, y, c, hl, hi, h1, h2 => by
    unfold cellsFrom at h1 h2
    split at h1
    · rename_i hk
      rw [if_pos hk] at h2
      rw [← Heap.size_push h { cls := .type "cell", data := .cell none }] at h1 h2
      refine cells_inj (h := h.push _) (fun p hp => ?_) (fun x y c a b => ?_) h1 h2
      · rw [Heap.size_push]
        rcases List.mem_cons.mp hp with rfl | hp
        · exact Nat.lt_succ_self _
        · exact Nat.lt_succ_of_lt (hl p hp)
      · rcases List.mem_cons.mp a with e | a <;> rcases List.mem_cons.mp b with e' | b
        · cases e; cases e'; rfl
        · cases e; exact absurd (hl _ b) (Nat.lt_irrefl _)
        · cases e'; exact absurd (hl _ a) (Nat.lt_irrefl _)
        · exact hi _ _ _ a b
    · rename_i hk
      rw [if_neg hk] at h2
      exact cells_inj hl hi h1 h2

theorem newEnv_comp {M : Model} {A : Around} {E : Value → Shared → Prop} {s : Shared} {scope : Scope} {globals : Addr} {closure : List (Str × Addr)} {qual : Str} {func : Option Addr} {code : Value} {around : Env} {builtins : Addr} {Q : Env → Shared → Prop}
    (h : Q (newEnv scope s.heap.objs.size globals (cellsFrom (s.heap.objs.size + 1) scope.names closure) qual func code (some around) builtins)
      { s with heap := pushCells (s.heap.push { cls := .type "dict", data := .dict #[] }) scope.names }) :
    wpAny M A (newFunctionEnv scope globals closure [] qual func code (some around) builtins) Q E s := by
  simp only [newFunctionEnv, Option.isSome_some, if_true]
  refine wpAny_bind (wpAny_alloc ?_)
  refine wpAny_bind (wpAny_layCells _ (fun n k c => rfl) scope.names closure _ _ ?_)
  rw [show ({ s with heap := s.heap.push { cls := .type "dict", data := .dict #[] } } : Shared).heap.objs.size = s.heap.objs.size + 1 from Heap.size_push ..]
  rw [List.forIn_nil]
  exact wpAny_bind (wpAny_pure (wpAny_pure h))

/-- every name of the written scope, in the scope that runs -/
theorem lookup_relS {sc : Scope} : ∀ {names : List (Str × NameKind)} {x : Str} {k : NameKind},
    (names.map fun (n, k) => if (k == NameKind.free && sc.kind == .function && sc.names.lookup n == some .cell) then (n, NameKind.cell) else (n, k)).lookup x = some k →
    ∃ k', names.lookup x = some k' ∧ (k = k' ∨ (k' = .free ∧ k = .cell))
  | [], _, _, h => by simp at h
  | (n, k₀) :: r, x, k, h => by
    have ih := @lookup_relS sc r x k
    have h' : List.lookup x ((if (k₀ == NameKind.free && sc.kind == .function && sc.names.lookup n == some .cell) = true then (n, NameKind.cell) else (n, k₀)) :: (r.map _)) = some k := h
    cases hx : x == n with
    | true =>
      simp only [List.lookup_cons, hx]
      by_cases hc : (k₀ == NameKind.free && sc.kind == .function && sc.names.lookup n == some .cell) = true
      · rw [if_pos hc] at h'
        simp only [List.lookup_cons, hx] at h'
        cases h'
        simp only [Bool.and_eq_true, beq_iff_eq] at hc
        exact ⟨k₀, rfl, .inr ⟨hc.1.1, rfl⟩⟩
      · rw [if_neg hc] at h'
        simp only [List.lookup_cons, hx] at h'
        cases h'
        exact ⟨_, rfl, .inl rfl⟩
    | false =>
      simp only [List.lookup_cons, hx]
      by_cases hc : (k₀ == NameKind.free && sc.kind == .function && sc.names.lookup n == some .cell) = true
      · rw [if_pos hc] at h'
        simp only [List.lookup_cons, hx] at h'
        exact ih h'
      · rw [if_neg hc] at h'
        simp only [List.lookup_cons, hx] at h'
        exact ih h'



/-- the names of a comprehension's block: its own (with their places in N), or captured -/
structure BlkOk (N : List Str) (sc scope : Scope) (own : List (Str × Nat)) : Prop where
  kind : scope.kind = .function
  uniq : ∀ y ∈ scope.names, scope.names.lookup y.1 = some y.2
  ix : ∀ p ∈ own, N[p.2]? = some p.1
  free : ∀ y ∈ scope.names, y.2 = .free → sc.names.lookup y.1 = some .cell ∨ sc.names.lookup y.1 = some .free
  own : ∀ y ∈ scope.names, y.2 = .local ∨ y.2 = .cell → y.1 ∈ own.map (·.1) ∨ y.1 ∉ N
/-- the slots of the block's own names forgotten -/
def wipe (σ : St) : List Nat → St
  | [] => σ
  | v :: vs => (wipe σ vs).set v none
theorem wipe_length (σ : St) : ∀ vs : List Nat, (wipe σ vs).length = σ.length
  | [] => rfl
  | v :: vs => by unfold wipe; rw [List.length_set, wipe_length σ vs]
theorem wipe_some {σ : St} {i : Nat} {x : V} : ∀ {vs : List Nat}, (wipe σ vs)[i]? = some (some x) → σ[i]? = some (some x) ∧ i ∉ vs
  | [], h => ⟨h, by simp⟩
  | v :: vs, h => by
    unfold wipe at h
    by_cases hi : v = i
    · subst hi
      by_cases hv : v < (wipe σ vs).length
      · rw [List.getElem?_set_self hv] at h; cases h
      · rw [List.getElem?_eq_none (by simpa using hv)] at h; cases h
    · rw [List.getElem?_set_ne hi] at h
      obtain ⟨h1, h2⟩ := wipe_some h
      exact ⟨h1, by simp only [List.mem_cons, not_or]; exact ⟨fun e => hi e.symm, h2⟩⟩

/-- the context of a block that starts at s, its iterator's objects at fp -/
abbrev Cx.blk (X : Cx) (s : Shared) (H : Hp) (scope : Scope) (cenv : Env) (fp : List Addr) : Cx := { X with s_0 := s, H_0 := H, env := cenv, outer := X.stack, ex := fp, fn := fun x => scope.names.lookup x == some .cell, pn := [], xe := fun _ _ => False }
section
variable {X : Cx} {pins : List (Addr × Obj)} {σ : St} {H : Hp} {s : Shared}
theorem block_start {scope : Scope} {own : List (Str × Nat)} {fp : List Addr} (I : Inv X pins σ H s) (ok : BlkOk X.N X.env.scope scope own) (hN : X.N.Nodup) (hfp : ∀ b ∈ fp, FpOk X pins H b ∧ b < s.heap.objs.size) :
    Inv (X.blk s H scope (compEnvC scope (cellsFrom (s.heap.objs.size + 1) scope.names (cloFrom X.env.cells scope.names [])) s.heap.objs.size X.env) fp) [] (wipe σ (own.map (·.2))) H { s with heap := pushCells (s.heap.push { cls := .type "dict", data := .dict #[] }) scope.names } := by
  have hfree : ∀ y ∈ scope.names, y.2 = .free → ∃ c, X.env.cells.lookup y.1 = some c := fun y hy e => by
    rcases ok.free y hy e with k | k
    · exact I.ok.has _ (.inl k)
    · exact I.ok.has _ (.inr k)
  generalize hcenv : compEnvC scope (cellsFrom (s.heap.objs.size + 1) scope.names (cloFrom X.env.cells scope.names [])) s.heap.objs.size X.env = cenv
  have kp : ∀ b o, s.heap.get? b = some o → (pushCells (s.heap.push { cls := .type "dict", data := .dict #[] }) scope.names).get? b = some o := fun b o e => pushCells_keeps _ _ _ _ (Heap.get?_push_of_some _ e)
  have hL : cenv.locals = s.heap.objs.size := by rw [← hcenv]; rfl
  have hcl : cenv.cells = cellsFrom (s.heap.objs.size + 1) scope.names (cloFrom X.env.cells scope.names []) := by rw [← hcenv]; rfl
  have hsc : cenv.scope = relS scope X.env.scope := by rw [← hcenv]; rfl
  rw [← Heap.size_push s.heap { cls := .type "dict", data := .dict #[] }] at hcl
  have cm : ∀ {y c}, (y, c) ∈ cloFrom X.env.cells scope.names [] → X.env.cells.lookup y = some c ∧ c < s.heap.objs.size := fun {y c} hm => by
    rcases cloFrom_mem hm with hm | ⟨h1, rfl⟩
    · cases hm
    · obtain ⟨c, hc⟩ := hfree _ h1 rfl
      rw [hc]
      obtain ⟨w, z⟩ := I.cell _ _ hc
      exact ⟨rfl, z.lt⟩
  have mem : ∀ {y c}, cenv.cells.lookup y = some c → (X.env.cells.lookup y = some c ∧ c < s.heap.objs.size) ∨ (s.heap.objs.size + 1 ≤ c ∧ CellAt (pushCells (s.heap.push { cls := .type "dict", data := .dict #[] }) scope.names) c none) := fun {y c} e => by
    rw [hcl] at e
    rcases cells_mem (PySem.mem_of_lookup e) with hm | ⟨_, h2, h3⟩
    · exact .inl (cm hm)
    · rw [Heap.size_push] at h2; exact .inr ⟨h2, h3⟩
  have look : ∀ {y}, scope.names.lookup y = some .free → ∃ c, cenv.cells.lookup y = some c ∧ X.env.cells.lookup y = some c := fun {y} hl => by
    have hy : (y, NameKind.free) ∈ scope.names := PySem.mem_of_lookup hl
    obtain ⟨c', e'⟩ := mem_lookup (cells_acc (names := scope.names) (n := (s.heap.push { cls := .type "dict", data := .dict #[] }).objs.size) (cloFrom_has (cells := X.env.cells) (acc := []) hy))
    rw [← hcl] at e'
    refine ⟨c', e', ?_⟩
    rw [hcl] at e'
    rcases cells_mem (PySem.mem_of_lookup e') with hm | ⟨h1, _, _⟩
    · exact (cm hm).1
    · have := ok.uniq _ h1
      rw [hl] at this; cases this
  have okB : (X.blk s H scope cenv fp).Ok := by
    refine ⟨I.ok.mod, by show cenv.scope.kind = _; rw [hsc]; exact ok.kind, by show cenv.globals = _; rw [← hcenv]; exact I.ok.glob, by show cenv.builtins = _; rw [← hcenv]; exact I.ok.blt, by show s.heap.objs.size ≤ cenv.locals; rw [hL]; exact Nat.le_refl _,
      fun y z c e1 e2 => ?_, fun y hy => ?_, fun y c z e => ?_, I.ok.hd, I.ok.frames, .inl rfl, fun b hb => ⟨?_, fun y c e z => ?_⟩, I.bs, Nat.le_trans I.ok.bsz I.sz, fun b o e hb => ?_, fun b hb z => ?_, I.stack, I.stkFree⟩
    · have e1 : cenv.cells.lookup y = some c := e1
      have e2 : cenv.cells.lookup z = some c := e2
      rw [hcl] at e1 e2
      refine cells_inj (fun p hp => ?_) (fun y z c a b => I.ok.inj y z c (cm a).1 (cm b).1) (PySem.mem_of_lookup e1) (PySem.mem_of_lookup e2)
      rw [Heap.size_push]
      exact Nat.lt_succ_of_lt (cm (y := p.1) (c := p.2) hp).2
    · show ∃ c, cenv.cells.lookup y = some c
      have key : ∀ k, cenv.kindOf y = some k → (k = .cell ∨ k = .free) → ∃ c, cenv.cells.lookup y = some c := fun k hk hk' => by
        unfold Env.kindOf at hk
        rw [hsc] at hk
        obtain ⟨k', e, r⟩ := lookup_relS hk
        have : k' = .cell ∨ k' = .free := by
          rcases r with rfl | ⟨rfl, _⟩
          · exact hk'
          · exact .inr rfl
        rcases this with rfl | rfl
        · obtain ⟨c, hm⟩ := cells_has (n := (s.heap.push { cls := .type "dict", data := .dict #[] }).objs.size) (acc := cloFrom X.env.cells scope.names []) (PySem.mem_of_lookup e)
          obtain ⟨c', e'⟩ := mem_lookup hm
          exact ⟨c', by rw [hcl]; exact e'⟩
        · obtain ⟨c, h1, _⟩ := look e
          exact ⟨c, h1⟩
      rcases hy with hy | hy
      · exact key _ hy (.inl rfl)
      · exact key _ hy (.inr rfl)
    · have z : (scope.names.lookup y == some NameKind.cell) = true := z
      have z : scope.names.lookup y = some .cell := by simpa using z
      have e : cenv.cells.lookup y = some c := e
      rw [hcl] at e
      rcases cells_mem (PySem.mem_of_lookup e) with hm | ⟨_, h2, _⟩
      · rcases cloFrom_mem hm with hm | ⟨h1, _⟩
        · cases hm
        · have q := ok.uniq _ h1
          rw [z] at q; cases q
      · rw [Heap.size_push] at h2
        exact Nat.le_of_succ_le h2
    · show b ≠ cenv.locals
      rw [hL]; exact Nat.ne_of_lt (hfp b hb).2
    · have e : cenv.cells.lookup y = some c := e
      rcases mem e with ⟨h1, _⟩ | ⟨h1, _⟩
      · exact (hfp b hb).1.2.2.2.2.1 y c h1 z
      · have h2 : s.heap.objs.size + 1 ≤ b := by rw [← z]; exact h1
        exact absurd (Nat.lt_of_lt_of_le (hfp b hb).2 (Nat.le_of_succ_le h2)) (Nat.lt_irrefl _)
    · rcases (hfp b hb).1.2.2.2.1 with z | z
      · exact I.ok.noex b o e z
      · exact absurd (Nat.lt_of_lt_of_le (Heap.lt_size e) (Nat.le_trans I.ok.bsz z)) (Nat.lt_irrefl _)
    · rcases List.mem_cons.mp (I.stkSub b z) with z | z
      · exact (hfp b hb).1.2.1 z
      · exact (hfp b hb).1.2.2.1 z
  refine ⟨okB, rfl, I.bare, Un.kept kp, ⟨fun _ => none, ?_, fun i y av e1 e2 e3 => ?_⟩, fun y c e => ?_, ?_, fun y c e => ?_, fun p hp => ?_, I.hok.kept kp, by rw [wipe_length]; exact I.len⟩
  · show Heap.Ns _ cenv.locals _
    rw [hL]
    exact Heap.Ns.keeps (Heap.Ns.new ..) fun b o e => pushCells_keeps _ _ _ _ e
  · obtain ⟨e2, hne⟩ := wipe_some e2
    have hfr : scope.names.lookup y = some .free ∧ (cenv.kindOf y = some .cell ∨ cenv.kindOf y = some .free) := by
      have key : ∀ k, cenv.scope.names.lookup y = some k → k = .local ∨ k = .cell ∨ k = .free → scope.names.lookup y = some .free ∧ (cenv.kindOf y = some .cell ∨ cenv.kindOf y = some .free) := fun k hk hk' => by
        have hk0 := hk
        rw [hsc] at hk
        obtain ⟨k', e, r⟩ := lookup_relS hk
        have no : ¬ (k' = .local ∨ k' = .cell) := fun hh => by
          rcases ok.own _ (PySem.mem_of_lookup e) hh with e' | e'
          · obtain ⟨p, hp, hpy⟩ := List.mem_map.mp e'
            have e3 := ok.ix p hp
            have : p.1 = y := hpy
            rw [this] at e3
            exact hne (List.mem_map.mpr ⟨p, hp, nodup_ix hN e3 e1⟩)
          · exact e' (List.mem_of_getElem? e1)
        rcases r with rfl | ⟨rfl, rfl⟩
        · rcases hk' with rfl | rfl | rfl
          · exact absurd (.inl rfl) no
          · exact absurd (.inr rfl) no
          · exact ⟨e, .inr hk0⟩
        · exact ⟨e, .inl hk0⟩
      have e3 : Vis cenv.scope y := e3
      rcases e3 with e3 | e3 | e3
      · exact key _ e3 (.inl rfl)
      · exact key _ e3 (.inr (.inl rfl))
      · exact key _ e3 (.inr (.inr rfl))
    obtain ⟨m, hn, hl⟩ := I.loc
    have hvis : Vis X.env.scope y := (ok.free _ (PySem.mem_of_lookup hfr.1) rfl).elim (fun k => .inr (.inl k)) (fun k => .inr (.inr k))
    obtain ⟨w, r, q⟩ := hl i y av e1 e2 hvis
    refine ⟨w, r, .inr ⟨hfr.2, ?_⟩⟩
    obtain ⟨c, h1, h2⟩ := look hfr.1
    rcases q with ⟨k, _⟩ | ⟨_, c', e', z⟩
    · have k : X.env.scope.names.lookup y = some .local := k
      rcases ok.free _ (PySem.mem_of_lookup hfr.1) rfl with k' | k' <;> rw [show X.env.scope.names.lookup y = _ from k'] at k <;> cases k
    · rw [h2] at e'; cases e'
      exact ⟨c, h1, z.keeps kp⟩
  · have e : cenv.cells.lookup y = some c := e
    rcases mem e with ⟨h1, _⟩ | ⟨_, z⟩
    · obtain ⟨w, z⟩ := I.cell y c h1
      exact ⟨w, z.keeps kp⟩
    · exact ⟨_, z⟩
  · show H cenv.locals = none
    rw [hL]; exact I.hok.fresh (Nat.le_refl _)
  · have e : cenv.cells.lookup y = some c := e
    rcases mem e with ⟨h1, _⟩ | ⟨h1, _⟩
    · exact I.freeC y c h1
    · exact I.hok.fresh (Nat.le_of_succ_le h1)
  · exact absurd (show p ∈ ([] : List (Addr × Obj)) ++ [] from hp) (by simp)

/-- an item appended to a tracked list -/
theorem app_ok {E : Value → Shared → Prop} {D : Addr} {xs : List V} {y : V} {v : Value} {Q : Value → Shared → Prop} (I : Inv X pins σ H s) (hD : H D = some (.lst xs)) (hz : xs.length < sizeLine) (r : RelV y v)
    (h : ∀ s', Inv X pins σ (upd H D (.lst (xs ++ [y]))) s' → Q .none s') : wpAny (model X.prog X.w) X.A (call (.builtin "list.append") [.ref D, v]) Q E s := by
  obtain ⟨hz', its, n, ri, e⟩ := I.hok D _ hD
  have hl := ri.length
  refine append_at (hsz := by rw [List.size_toArray]; omega) e fun h' sb ho' => ?_
  refine h { s with heap := h' } (I.write (t' := s.toks) (by rw [hD]; trivial) (.inl rfl) (fun b u hb q => (sb.2 b hb).trans q) ⟨_, ho'⟩ ⟨by rw [List.length_append]; exact hz, its ++ [v], n + 1, ri.append (.cons r .nil), ?_⟩)
  rw [ho']
  simp

/-- a clause's tests -/
def PTs (X : Cx) (ifs : List Expr) (t : TT) : Prop :=
  ∀ (pins : List (Addr × Obj)) (s : Shared) (σ : St) (H : Hp) (Q : Bool → Hp → Prop), Inv X pins σ H s → t σ H Q →
    wpAny (model X.prog X.w) X.A (forIn ifs true fun c r => if r = true then do let ok ← isTrue c X.env (eval c X.env); pure (ForInStep.yield ok) else pure (ForInStep.yield r)) (TP X pins σ Q) X.xe s
def tYes : TT := fun _ H Q => Q true H
theorem pts_nil : PTs X [] tYes := fun _ _ _ H _ I h => wpAny_tests_nil ⟨H, I, h⟩
theorem pts_one {c : Expr} {t : TT} (h : PT X c t) : PTs X [c] t := fun pins s σ H Q I hw => wpAny_tests_one (h pins s σ H Q I hw)
end

theorem thnF {α : Type} {t : Sem α} {Q Q' : α → Shared → Prop} {M : Model} {A : Around} {E : Value → Shared → Prop} {s : Shared} (h : wpAny M A t Q (fun _ _ => False) s) (hQ : ∀ a s, Q a s → Q' a s) : wpAny M A t Q' E s := wpAny_mono h hQ fun _ _ z => False.elim z

/-- the loop of a list comprehension's block, the target of any form (codeAny_compLoop_tests asks a target that no tuple goes to; statement and proof follow it, PyProof/CompMap.lean:41-61, with the step letOwnedTupleGo kept) -/
theorem compLoop_any {prog : Program} {w : World} {A : Around} {R : Result → Shared → Prop} {s : Shared} {elt target iter : Expr} {ifs : List Expr} {scope : Scope} {pos : Pos} {it acc : Value} {env : Env} (I : Nat → Shared → Prop)
    (turn : ∀ n s, I n s → wpAny (model prog w) A (pyNext it) (fun r s₁ => match r with
      | none => R (.ok .next) s₁
      | some v => wpAny (model prog w) A (letOwnedTupleGo target it v) (fun _ s₁' => wpAny (model prog w) A (assign target env v) (fun _ s₂ =>
          wpAny (model prog w) A (forIn ifs true fun c r => if r = true then do let ok ← isTrue c env (eval c env); pure (ForInStep.yield ok) else pure (ForInStep.yield r)) (fun ok s₃ =>
            if ok = true then wpAny (model prog w) A (eval elt env) (fun x s₄ =>
              wpAny (model prog w) A (call (.builtin "list.append") [acc, x]) (fun _ s₅ => ∃ m, m < n ∧ I m s₅) (notedBy (model prog w) A env fun e s' => R (.error e) s') s₄) (notedBy (model prog w) A env fun e s' => R (.error e) s') s₃
            else ∃ m, m < n ∧ I m s₃) (notedBy (model prog w) A env fun e s' => R (.error e) s') s₂) (notedBy (model prog w) A env fun e s' => R (.error e) s') s₁') (notedBy (model prog w) A env fun e s' => R (.error e) s') s₁) (notedBy (model prog w) A env fun e s' => R (.error e) s') s)
    (n : Nat) (h : I n s) :
    codeAny (model prog w) A (.compLoop (.ListComp elt [⟨target, iter, ifs, 0⟩] scope pos) 0 it acc env) R s := by
  refine codeAny_loop rfl I (fun n s hI => ?_) n h
  show wpAny _ A ((compTurn (.ListComp elt [⟨target, iter, ifs, 0⟩] scope pos) 0 it acc env).onRaise (fun x => do noteFrame x env; theTreesLotGoes x)) _ _ s
  refine wpAny_noted ?_
  rw [compTurn_list]
  refine wpAny_bind (wpAny_standAt (wpAny_bind (wpAny_mono (turn n s hI) (fun r s₁ h₁ => ?_) fun _ _ h' => h')))
  cases r with
  | none => exact wpAny_pure h₁
  | some v =>
    refine wpAny_bind (wpAny_mono h₁ (fun _ s₁' h₁' => ?_) fun _ _ h' => h')
    refine wpAny_bind (wpAny_mono h₁' (fun _ s₂ h₂ => wpAny_bind (wpAny_mono h₂ (fun ok s₃ h₃ => ?_) fun _ _ h' => h')) fun _ _ h' => h')
    cases ok with
    | false => exact wpAny_pure ⟨rfl, h₃⟩
    | true =>
      exact wpAny_bind (wpAny_bind (wpAny_mono h₃ (fun x s₄ h₄ => wpAny_bind (wpAny_mono h₄ (fun _ s₅ h₅ => wpAny_pure (wpAny_pure ⟨rfl, h₅⟩)) fun _ _ h' => h')) fun _ _ h' => h'))

section
variable {X : Cx}
/-- [elt for target in iter if ..]: D the new list; W by the turn and a measure, Nx what a turn is to reach -/
def tLc (wi : TI) (g : TG) (tt : TT) (te : TE) (vs : List Nat) : TE := fun σ H Q => wi σ H fun J H1 => ∀ D, H1 D = none → ∃ W : Nat → Nat → Hp → Prop, (∃ m, W 0 m (upd H1 D (.lst []))) ∧ ∀ i m H, W i m H →
  (J.stop i H ∧ Q (.ref D) H) ∨ (J.go i H ∧ ∃ Nx : Hp → Prop, (∀ H', Nx H' → ∃ m', m' < m ∧ W (i + 1) m' H') ∧ ∀ x H', J.yld i H x H' → g x (wipe σ vs) H' fun σ2 H2 => wipe σ2 vs = wipe σ vs ∧ tt σ2 H2 fun b H3 =>
    if b = true then te σ2 H3 fun y H4 => ∃ acc, H4 D = some (.lst acc) ∧ acc.length < sizeLine ∧ Nx (upd H4 D (.lst (acc ++ [y]))) else Nx H3)
theorem lc_core {pins : List (Addr × Obj)} {s : Shared} {σ : St} {H : Hp} {Q : VK} {elt tg iter : Expr} {ifs : List Expr} {scope : Scope} {own : List (Str × Nat)} {pos pos' : Pos} {wi : TI} {g : TG} {tt : TT} {te : TE} {use : Option (Value → Sem Unit)} {Qf : Value → Shared → Prop}
    (hc : X.calm = true) (hN : X.N.Nodup) (I : Inv X pins σ H s) (hi : PI X tg iter wi) (ok : BlkOk X.N X.env.scope scope own)
    (hg : ∀ (s : Shared) (H : Hp) (C : Addr) (cl : List (Str × Addr)) (fp : List Addr), PG (X.blk s H scope (compEnvC scope cl C X.env) fp) tg g) (ht : ∀ (s : Shared) (H : Hp) (C : Addr) (cl : List (Str × Addr)) (fp : List Addr), PTs (X.blk s H scope (compEnvC scope cl C X.env) fp) ifs tt)
    (he : ∀ (s : Shared) (H : Hp) (C : Addr) (cl : List (Str × Addr)) (fp : List Addr), PE (X.blk s H scope (compEnvC scope cl C X.env) fp) elt te) (hs : ∀ x, foldedSetIterable iter X.env x = pure x)
    (h : tLc wi g tt te (own.map (·.2)) σ H Q)
    (hRR : ∀ D C s' m H', Inv X pins σ H' s' → Q (.ref D) H' → s'.heap.Ns C m → FpOk X pins H' C → compPost (model X.prog X.w) X.A X.xe use Qf (.ref D) C (.ok .next) s') :
    wpAny (model X.prog X.w) X.A (comprehension (.ListComp elt [⟨tg, iter, ifs, 0⟩] scope pos) scope X.env pos' (newList []) false (eval iter X.env) use) Qf X.xe s := by
  have hfree : ∀ y ∈ scope.names, y.2 = .free → ∃ c, X.env.cells.lookup y.1 = some c := fun y hy e => by
    rcases ok.free y hy e with k | k
    · exact I.ok.has _ (.inl k)
    · exact I.ok.has _ (.inr k)
  refine wpAny_comprehension_free (use := use) rfl hs (closure_ok hfree) ok.kind (fun y hy e => by rw [ok.uniq y hy, e])
    (thn (hi pins s σ H _ I h) fun xv s1 hx => thn hx fun itv s2 h2 => ?_)
  obtain ⟨it, fp, tn, J, H2, e, I2, T, st2, f2, q⟩ := h2
  subst e
  refine wpAny_newObj_type (newEnv_comp ?_) (by show 0 ≤ sizeLine; decide)
  generalize hD : s2.heap.objs.size = D
  have hDn : H2 D = none := I2.hok.fresh (Nat.le_of_eq hD)
  obtain ⟨W, ⟨m0, w0⟩, turn⟩ := q D hDn
  -- the new list
  generalize hs3 : ({ s2 with heap := s2.heap.push { cls := .type "list", data := .seq ([] : List Value).toArray } } : Shared) = s3
  have I3 : Inv X pins σ (upd H2 D (.lst [])) s3 := by
    rw [← hs3]
    refine I2.laid (t' := s2.toks) (fun b o e => Heap.get?_push_of_some _ e) (Nat.le_of_eq hD) ⟨Nat.zero_le _, [], 0, .nil, ?_⟩
    rw [← hD]
    exact Heap.get?_push_size _ rfl
  have h3 : s3.heap = s2.heap.push { cls := .type "list", data := .seq ([] : List Value).toArray } := by rw [← hs3]
  have sz : ∀ b ∈ fp, b < s2.heap.objs.size := fun b hb => by
    obtain ⟨o, e, _⟩ := T.obj _ _ st2 b hb
    exact Heap.lt_size e
  have f3 : ∀ b ∈ fp, FpOk X pins (upd H2 D (.lst [])) b ∧ b < s3.heap.objs.size := fun b hb => by
    have hlt := sz b hb
    refine ⟨⟨?_, (f2 b hb).2⟩, by rw [h3, Heap.size_push]; exact Nat.lt_succ_of_lt hlt⟩
    rw [upd_ne (by rw [← hD]; exact Nat.ne_of_lt hlt)]
    exact (f2 b hb).1
  have st3 : tn 0 s3.heap := T.keep _ _ _ st2 fun b _ o e => by rw [h3]; exact Heap.get?_push_of_some _ e
  have I4 := block_start I3 ok hN f3
  have pg := hg s3 (upd H2 D (.lst [])) s3.heap.objs.size (cellsFrom (s3.heap.objs.size + 1) scope.names (cloFrom X.env.cells scope.names [])) fp
  have pt := ht s3 (upd H2 D (.lst [])) s3.heap.objs.size (cellsFrom (s3.heap.objs.size + 1) scope.names (cloFrom X.env.cells scope.names [])) fp
  have pe := he s3 (upd H2 D (.lst [])) s3.heap.objs.size (cellsFrom (s3.heap.objs.size + 1) scope.names (cloFrom X.env.cells scope.names [])) fp
  show codeAny _ _ (.compStart (.ListComp elt [⟨tg, iter, ifs, 0⟩] scope pos) 0 (.ref it) (.ref D) (compEnvC scope (cellsFrom (s3.heap.objs.size + 1) scope.names (cloFrom X.env.cells scope.names [])) s3.heap.objs.size X.env)) (compPost (model X.prog X.w) X.A X.xe use Qf (.ref D) s3.heap.objs.size) { s3 with heap := pushCells (s3.heap.push { cls := .type "dict", data := .dict #[] }) scope.names }
  have nfp : ∀ b ∈ fp, (upd H2 D (.lst [])) b = none := fun b hb => (f3 b hb).1.1
  generalize hce : compEnvC scope (cellsFrom (s3.heap.objs.size + 1) scope.names (cloFrom X.env.cells scope.names [])) s3.heap.objs.size X.env = ce at I4 pg pt pe ⊢
  have cL : ce.locals = s3.heap.objs.size := by subst hce; rfl
  generalize hH3 : upd H2 D (.lst []) = H3 at I3 I4 pg pt pe w0 nfp f3
  generalize hs4 : ({ s3 with heap := pushCells (s3.heap.push { cls := .type "dict", data := .dict #[] }) scope.names } : Shared) = s4 at I4 ⊢
  have st4 : tn 0 s4.heap := T.keep _ _ _ st3 fun b _ o e => by rw [← hs4]; exact pushCells_keeps _ _ _ _ (Heap.get?_push_of_some _ e)
  have stat : ∀ {σ' : St} {H' : Hp} {s' : Shared}, Inv (X.blk s3 H3 scope ce fp) [] σ' H' s' → (∀ b ∈ fp, H' b = none) → ∀ b ∈ fp, FpOk (X.blk s3 H3 scope ce fp) [] H' b := fun {σ' H' s'} I' hn b hb =>
    ⟨hn b hb, (I'.ok.exf b hb).1, I'.ok.exfs b hb, .inl hb, fun x c e => (I'.ok.exf b hb).2 x c e, fun p hp => absurd (show p ∈ ([] : List (Addr × Obj)) ++ [] from hp) (by simp)⟩
  have loop : codeAny (model X.prog X.w) X.A (.compLoop (.ListComp elt [⟨tg, iter, ifs, 0⟩] scope pos) 0 (.ref it) (.ref D) ce) (compPost (model X.prog X.w) X.A X.xe use Qf (.ref D) s3.heap.objs.size) s4 := by
    refine compLoop_any (fun n s' => ∃ i H', Inv (X.blk s3 H3 scope ce fp) [] (wipe σ (own.map (·.2))) H' s' ∧ tn i s'.heap ∧ (∀ b ∈ fp, H' b = none) ∧ W i n H') ?_ m0 ⟨0, H3, I4, st4, nfp, w0⟩
    rintro n s5 ⟨i, H5, I5, st5, n5, w5⟩
    rcases turn i n H5 w5 with ⟨stop, qq⟩ | ⟨go, Nx, hNx, step⟩
    · have td := T.done (X.blk s3 H3 scope ce fp) rfl rfl rfl hc i [] s5 _ H5 (fun _ _ => False) I5 (stat I5 n5) st5 stop
      refine thnF td fun r s6 ⟨hr, I6⟩ => ?_
      subst hr
      -- back in the def's context
      have I7 : Inv X pins σ H5 s6 := I3.call' (ch := fp) I6.os I6.base I6.hok I6.bare fun b hb => ⟨(f3 b hb).1.2.2.2.1, (f3 b hb).1.2.1, (f3 b hb).1.2.2.2.2.1, (f3 b hb).1.2.2.2.2.2⟩
      have nC : H5 s3.heap.objs.size = none := by
        have z : H5 ce.locals = none := I6.free
        rw [cL] at z
        exact z
      obtain ⟨m, hn, _⟩ := I6.loc
      have hn : s6.heap.Ns ce.locals m := hn
      rw [cL] at hn
      exact hRR D s3.heap.objs.size s6 m H5 I7 qq hn (I3.fpOk (Nat.le_refl _) nC)
    · have ti := T.item (X.blk s3 H3 scope ce fp) rfl rfl rfl hc i [] s5 _ H5 (fun _ _ => False) I5 (stat I5 n5) st5 go
      refine thnF ti fun r s6 ⟨u, hr, h6⟩ => ?_
      subst hr
      refine thnF h6 fun _ s7 ⟨x, H7, I7, r7, y7, st7, n7⟩ => ?_
      have I7' := I7.pinned (stat I7 n7) (T.obj _ _ st7)
      refine thnF (pg _ s7 _ H7 x u _ I7' r7 (step x H7 y7)) fun _ s8 ⟨σ8, H8, I8, hw8, q8⟩ => ?_
      refine thnF (pt _ s8 σ8 H8 _ I8 q8) fun b s9 ⟨H9, I9, q9⟩ => ?_
      -- the turn's end
      have fin : ∀ {s' : Shared} {H' : Hp}, Inv (X.blk s3 H3 scope ce fp) ([] ++ pinsAt fp s7.heap) σ8 H' s' → Nx H' → ∃ m, m < n ∧ ∃ i H', Inv (X.blk s3 H3 scope ce fp) [] (wipe σ (own.map (·.2))) H' s' ∧ tn i s'.heap ∧ (∀ b ∈ fp, H' b = none) ∧ W i m H' := fun {s' H'} I' nx => by
        obtain ⟨m', hm, w'⟩ := hNx H' nx
        have pin' : ∀ b ∈ fp, ∀ o, s7.heap.get? b = some o → s'.heap.get? b = some o ∧ H' b = none := fun b hb o e =>
          let z := I'.pin (b, o) (List.mem_append_right _ (List.mem_append_right _ (mem_pinsAt hb e)))
          ⟨z.1, z.2.1⟩
        have hl : (wipe σ (own.map (·.2))).length = σ8.length := by rw [← hw8, wipe_length]
        refine ⟨m', hm, i + 1, H', (I'.unpinned (pins := [])).weak hl (fun j v e => ?_), T.keep _ _ _ st7 fun b hb o e => (pin' b hb o e).1, fun b hb => ?_, w'⟩
        · rw [← hw8] at e
          exact (wipe_some e).1
        · obtain ⟨o, e, _⟩ := T.obj _ _ st7 b hb
          exact (pin' b hb o e).2
      cases b with
      | false =>
        simp only [Bool.false_eq_true, if_false] at q9 ⊢
        exact fin I9 q9
      | true =>
        simp only [if_true] at q9 ⊢
        refine thnF (pe _ s9 σ8 H9 _ I9 q9) fun z s10 ⟨yv, H10, I10, r10, acc, hD10, hz10, nx⟩ => ?_
        exact app_ok (X := X.blk s3 H3 scope ce fp) I10 hD10 hz10 r10 fun s11 I11 => fin I11 nx
  exact codeAny_compStart_list loop (T.self X.A 0 _ _ _ st4 loop)
/-- as a value -/
theorem pe_lc {elt tg iter : Expr} {ifs : List Expr} {scope : Scope} {own : List (Str × Nat)} {pos : Pos} {wi : TI} {g : TG} {tt : TT} {te : TE} (hc : X.calm = true) (hN : X.N.Nodup) (hi : PI X tg iter wi) (ok : BlkOk X.N X.env.scope scope own)
    (hg : ∀ (s : Shared) (H : Hp) (C : Addr) (cl : List (Str × Addr)) (fp : List Addr), PG (X.blk s H scope (compEnvC scope cl C X.env) fp) tg g) (ht : ∀ (s : Shared) (H : Hp) (C : Addr) (cl : List (Str × Addr)) (fp : List Addr), PTs (X.blk s H scope (compEnvC scope cl C X.env) fp) ifs tt)
    (he : ∀ (s : Shared) (H : Hp) (C : Addr) (cl : List (Str × Addr)) (fp : List Addr), PE (X.blk s H scope (compEnvC scope cl C X.env) fp) elt te) (hs : ∀ x, foldedSetIterable iter X.env x = pure x := by intro _; rfl) :
    PE X (.ListComp elt [⟨tg, iter, ifs, 0⟩] scope pos) (tLc wi g tt te (own.map (·.2))) := by
  intro pins s σ H Q I h
  rw [eval_ListComp]
  refine lc_core hc hN I hi ok hg ht he hs h fun D C s' m H' I' q hn f => ⟨m, hn, fun h'' sb => ?_⟩
  obtain ⟨f0, f1, f2, f3, f4, f5⟩ := f
  exact ⟨.ref D, H', I'.turned (t' := s'.toks) (fun b o hb e => (sb.2 b hb).trans e) f0 f1 f3 f4 f5, rfl, q⟩
/-- name = [..] on one line, the name a local -/
theorem ps_setLc {i : Nat} {y : Str} {py : Pos} {elt tg iter : Expr} {ifs : List Expr} {scope : Scope} {own : List (Str × Nat)} {pos spos : Pos} {wi : TI} {g : TG} {tt : TT} {te : TE} (hc : X.calm = true) (hN : X.N.Nodup) (hy : X.N[i]? = some y) (hyl : X.env.scope.names.lookup y = some .local)
    (hsw : swapsWith (.ListComp elt [⟨tg, iter, ifs, 0⟩] scope pos) (some (.Name y py)) spos.line X.env = pure true) (hi : PI X tg iter wi) (ok : BlkOk X.N X.env.scope scope own)
    (hg : ∀ (s : Shared) (H : Hp) (C : Addr) (cl : List (Str × Addr)) (fp : List Addr), PG (X.blk s H scope (compEnvC scope cl C X.env) fp) tg g) (ht : ∀ (s : Shared) (H : Hp) (C : Addr) (cl : List (Str × Addr)) (fp : List Addr), PTs (X.blk s H scope (compEnvC scope cl C X.env) fp) ifs tt)
    (he : ∀ (s : Shared) (H : Hp) (C : Addr) (cl : List (Str × Addr)) (fp : List Addr), PE (X.blk s H scope (compEnvC scope cl C X.env) fp) elt te) (hs : ∀ x, foldedSetIterable iter X.env x = pure x := by intro _; rfl) :
    PS X (.Assign [.Name y py] (.ListComp elt [⟨tg, iter, ifs, 0⟩] scope pos) spos) (tAsg (tLc wi g tt te (own.map (·.2))) (gName i)) := by
  intro pins s σ H D I h
  rw [exec_Assign_Name_used _ _ _ _ hsw]
  refine wpAny_bind (wpAny_standAt (wpAny_bind ?_))
  show wpAny _ X.A (do let _ ← comprehension (.ListComp elt [⟨tg, iter, ifs, 0⟩] scope pos) scope X.env (firstIterPos [⟨tg, iter, ifs, 0⟩] pos) (newList []) false (eval iter X.env) (some (assign (.Name y py) X.env))) _ _ s
  have h : tLc wi g tt te (own.map (·.2)) σ H (fun x H1 => gName i x σ H1 D.nx) := h
  refine wpAny_bind (thn (lc_core (Qf := fun _ s' => SP X pins D .next s') hc hN I hi ok hg ht he hs h fun L C s' m H' I' q hn f => ?_) fun _ s' hq => wpAny_pure (wpAny_pure hq))
  show wpAny _ _ (assign (.Name y py) X.env (.ref L)) _ _ _
  refine wpAny_assign_Name (store_ok2 (v := V.ref L) I' hN hy (.inl hyl) rfl (fun s2 I2 ⟨a, sb, ha⟩ => ?_) (.inr hyl))
  obtain ⟨f0, f1, f2, f3, f4, f5⟩ := f
  have haC : C ≠ a := by
    rcases ha with z | z
    · rw [z]; exact f1
    · exact fun e => f4 y a z e.symm
  refine ⟨m, hn.sameBut sb haC, fun h3 sb3 => ?_⟩
  exact ⟨_, H', I2.turned (t' := s2.toks) (fun b o hb e => (sb3.2 b hb).trans e) f0 f1 f3 f4 f5, q⟩
theorem sw_true {elt : Expr} {gs : List Comprehension} {scope : Scope} {pos py : Pos} {y : Str} {l : Nat} {env : Env} (hk : env.scope.kind = .function) (hy : env.scope.names.lookup y = some .local) (hl : (py.line == pos.line) = true)
    (ha : (scope.names.any fun (n, k) => n == y && (k == .local || k == .cell)) = false) : swapsWith (.ListComp elt gs scope pos) (some (.Name y py)) l env = pure true := by
  have ky : env.kindOf y = some .local := hy
  have hb : env.blockKind = .function := by unfold Env.blockKind; rw [hk]; rfl
  unfold swapsWith
  simp only [hb, ky, ha, Expr.pos, hl]
  rfl
end

/-! ### the forms one uses -/
/-- over a range: Pv by the turn and the heap (the new list at D within) -/
theorem lc_range {lo : Int} {n : Nat} {g : TG} {tt : TT} {te : TE} {vs : List Nat} {σ : St} {H1 : Hp} {D : Addr} {Qd : Hp → Prop} (Pv : Nat → Hp → Prop) (h0 : Pv 0 (upd H1 D (.lst [])))
    (hs : ∀ i H, i < n → Pv i H → g (.int (lo + i)) (wipe σ vs) H fun σ2 H2 => wipe σ2 vs = wipe σ vs ∧ tt σ2 H2 fun b H3 =>
      if b = true then te σ2 H3 fun y H4 => ∃ acc, H4 D = some (.lst acc) ∧ acc.length < sizeLine ∧ Pv (i + 1) (upd H4 D (.lst (acc ++ [y]))) else Pv (i + 1) H3) (hd : ∀ H, Pv n H → Qd H) :
    ∃ W : Nat → Nat → Hp → Prop, (∃ m, W 0 m (upd H1 D (.lst []))) ∧ ∀ i m H, W i m H →
      ((Itr lo n).stop i H ∧ Qd H) ∨ ((Itr lo n).go i H ∧ ∃ Nx : Hp → Prop, (∀ H', Nx H' → ∃ m', m' < m ∧ W (i + 1) m' H') ∧ ∀ x H', (Itr lo n).yld i H x H' → g x (wipe σ vs) H' fun σ2 H2 => wipe σ2 vs = wipe σ vs ∧ tt σ2 H2 fun b H3 =>
        if b = true then te σ2 H3 fun y H4 => ∃ acc, H4 D = some (.lst acc) ∧ acc.length < sizeLine ∧ Nx (upd H4 D (.lst (acc ++ [y]))) else Nx H3) := by
  refine ⟨fun i m H => m = n - i ∧ i ≤ n ∧ Pv i H, ⟨n, by simp, Nat.zero_le _, h0⟩, ?_⟩
  rintro i m H ⟨rfl, hi, p⟩
  by_cases hlt : i < n
  · refine .inr ⟨hlt, Pv (i + 1), fun H' p' => ⟨n - (i + 1), by omega, rfl, hlt, p'⟩, fun x H' y => ?_⟩
    obtain ⟨e, y⟩ := y
    subst e y
    exact hs i _ hlt p
  · have e : i = n := by omega
    subst e
    exact .inl ⟨Nat.le_refl _, hd H p⟩
/-- over a list that the block leaves as it is -/
theorem lc_list {K : PySem.W.Frag} {a : Addr} {xs : List V} {g : TG} {tt : TT} {te : TE} {vs : List Nat} {σ : St} {H1 : Hp} {D : Addr} {Qd : Hp → Prop} (Pv : Nat → Hp → Prop) (h0 : Pv 0 (upd H1 D (.lst []))) (hl : ∀ i H, i ≤ xs.length → Pv i H → SqL K H a xs)
    (hs : ∀ i x H, xs[i]? = some x → Pv i H → g x (wipe σ vs) H fun σ2 H2 => wipe σ2 vs = wipe σ vs ∧ tt σ2 H2 fun b H3 =>
      if b = true then te σ2 H3 fun y H4 => ∃ acc, H4 D = some (.lst acc) ∧ acc.length < sizeLine ∧ Pv (i + 1) (upd H4 D (.lst (acc ++ [y]))) else Pv (i + 1) H3) (hd : ∀ H, Pv xs.length H → Qd H) :
    ∃ W : Nat → Nat → Hp → Prop, (∃ m, W 0 m (upd H1 D (.lst []))) ∧ ∀ i m H, W i m H →
      ((Itl K a).stop i H ∧ Qd H) ∨ ((Itl K a).go i H ∧ ∃ Nx : Hp → Prop, (∀ H', Nx H' → ∃ m', m' < m ∧ W (i + 1) m' H') ∧ ∀ x H', (Itl K a).yld i H x H' → g x (wipe σ vs) H' fun σ2 H2 => wipe σ2 vs = wipe σ vs ∧ tt σ2 H2 fun b H3 =>
        if b = true then te σ2 H3 fun y H4 => ∃ acc, H4 D = some (.lst acc) ∧ acc.length < sizeLine ∧ Nx (upd H4 D (.lst (acc ++ [y]))) else Nx H3) := by
  refine ⟨fun i m H => m = xs.length - i ∧ i ≤ xs.length ∧ Pv i H, ⟨xs.length, by simp, Nat.zero_le _, h0⟩, ?_⟩
  rintro i m H ⟨rfl, hi, p⟩
  have q := hl i H hi p
  by_cases hlt : i < xs.length
  · refine .inr ⟨⟨xs, xs[i], q, by simp [hlt]⟩, Pv (i + 1), fun H' p' => ⟨xs.length - (i + 1), by omega, rfl, hlt, p'⟩, fun x H' y => ?_⟩
    obtain ⟨e, y⟩ := y
    subst e
    exact hs i x _ (y xs q) p
  · have e : i = xs.length := by omega
    subst e
    exact .inl ⟨⟨xs, q, Nat.le_refl _⟩, hd H p⟩
/-- over a tuple -/
theorem lc_tup {K : PySem.W.Frag} {a : Addr} {xs : List V} {g : TG} {tt : TT} {te : TE} {vs : List Nat} {σ : St} {H1 : Hp} {D : Addr} {Qd : Hp → Prop} (Pv : Nat → Hp → Prop) (h0 : Pv 0 (upd H1 D (.lst []))) (hl : ∀ i H, i ≤ xs.length → Pv i H → SqT K H a xs)
    (hs : ∀ i x H, xs[i]? = some x → Pv i H → g x (wipe σ vs) H fun σ2 H2 => wipe σ2 vs = wipe σ vs ∧ tt σ2 H2 fun b H3 =>
      if b = true then te σ2 H3 fun y H4 => ∃ acc, H4 D = some (.lst acc) ∧ acc.length < sizeLine ∧ Pv (i + 1) (upd H4 D (.lst (acc ++ [y]))) else Pv (i + 1) H3) (hd : ∀ H, Pv xs.length H → Qd H) :
    ∃ W : Nat → Nat → Hp → Prop, (∃ m, W 0 m (upd H1 D (.lst []))) ∧ ∀ i m H, W i m H →
      ((Itt K a).stop i H ∧ Qd H) ∨ ((Itt K a).go i H ∧ ∃ Nx : Hp → Prop, (∀ H', Nx H' → ∃ m', m' < m ∧ W (i + 1) m' H') ∧ ∀ x H', (Itt K a).yld i H x H' → g x (wipe σ vs) H' fun σ2 H2 => wipe σ2 vs = wipe σ vs ∧ tt σ2 H2 fun b H3 =>
        if b = true then te σ2 H3 fun y H4 => ∃ acc, H4 D = some (.lst acc) ∧ acc.length < sizeLine ∧ Nx (upd H4 D (.lst (acc ++ [y]))) else Nx H3) := by
  refine ⟨fun i m H => m = xs.length - i ∧ i ≤ xs.length ∧ Pv i H, ⟨xs.length, by simp, Nat.zero_le _, h0⟩, ?_⟩
  rintro i m H ⟨rfl, hi, p⟩
  have q := hl i H hi p
  by_cases hlt : i < xs.length
  · refine .inr ⟨⟨xs, xs[i], q, by simp [hlt]⟩, Pv (i + 1), fun H' p' => ⟨xs.length - (i + 1), by omega, rfl, hlt, p'⟩, fun x H' y => ?_⟩
    obtain ⟨e, y⟩ := y
    subst e
    exact hs i x _ (y xs q) p
  · have e : i = xs.length := by omega
    subst e
    exact .inl ⟨⟨xs, q, Nat.le_refl _⟩, hd H p⟩
def blkC (N : List Str) (sc scope : Scope) (own : List (Str × Nat)) : Bool :=
  (match scope.kind with | .function => true | _ => false) && (scope.names.all fun y => decide (scope.names.lookup y.1 = some y.2)) && (own.all fun p => decide (N[p.2]? = some p.1)) &&
    (scope.names.all fun y => match y.2 with
      | .free => (match sc.names.lookup y.1 with | some .cell => true | some .free => true | _ => false)
      | .local => decide (y.1 ∈ own.map (·.1)) || decide (y.1 ∉ N)
      | .cell => decide (y.1 ∈ own.map (·.1)) || decide (y.1 ∉ N)
      | _ => true)
theorem blkOk_by {N : List Str} {sc scope : Scope} {own : List (Str × Nat)} (h : blkC N sc scope own = true) : BlkOk N sc scope own := by
  unfold blkC at h
  simp only [Bool.and_eq_true, List.all_eq_true, decide_eq_true_eq] at h
  obtain ⟨⟨⟨h1, h2⟩, h3⟩, h4⟩ := h
  refine ⟨?_, h2, h3, fun y hy e => ?_, fun y hy e => ?_⟩
  · split at h1
    · assumption
    · cases h1
  · have q := h4 y hy
    simp only [e] at q
    split at q <;> first | exact .inl (by assumption) | exact .inr (by assumption) | cases q
  · have q := h4 y hy
    rcases e with e | e <;> (simp only [e, Bool.or_eq_true, decide_eq_true_eq] at q; exact q)
end L2

namespace L2
open PySem PySem.Spec PyProof.Rows


section
variable {prog : Program} {w : World} {A : Around} {R : Result → Shared → Prop} {s : Shared} {elt t0 i0 t1 i1 : Expr} {ifs0 ifs1 : List Expr} {scope : Scope} {pos : Pos} {it acc : Value} {env : Env}
end

section
variable {X : Cx}
end
end L2

namespace L2
open PySem PySem.Spec PyProof.Rows

/-! ### lists of pairs as tables -/
section
variable {κ : Type} [DecidableEq κ]
def valV (kvs : List (κ × V)) (k : κ) : Option V := (kvs.find? fun kv => decide (kv.1 = k)).map (·.2)
/-- in its place, or at the end -/
def putK (kvs : List (κ × V)) (k : κ) (v : V) : List (κ × V) :=
  if (kvs.any fun kv => decide (kv.1 = k)) = true then kvs.map (fun kv => if kv.1 = k then (kv.1, v) else kv) else kvs ++ [(k, v)]
def dropK (kvs : List (κ × V)) (k : κ) : List (κ × V) := kvs.filter fun kv => decide (kv.1 ≠ k)

theorem valV_pos {p : κ × V} {r : List (κ × V)} {k : κ} (e : p.1 = k) : valV (p :: r) k = some p.2 := by simp [valV, List.find?_cons, e]
theorem valV_neg {p : κ × V} {r : List (κ × V)} {k : κ} (e : ¬ p.1 = k) : valV (p :: r) k = valV r k := by simp [valV, List.find?_cons, e]
theorem valV_any (k : κ) : ∀ kvs : List (κ × V), (kvs.any fun kv => decide (kv.1 = k)) = (valV kvs k).isSome
  | [] => rfl
  | p :: r => by
    rw [List.any_cons]
    by_cases e : p.1 = k
    · simp only [valV_pos e, decide_eq_true e, Bool.true_or, Option.isSome_some]
    · rw [valV_neg e, decide_eq_false e, Bool.false_or]; exact valV_any k r
theorem length_putK (kvs : List (κ × V)) (k : κ) (v : V) : (putK kvs k v).length ≤ kvs.length + 1 := by
  unfold putK
  split
  · rw [List.length_map]; omega
  · rw [List.length_append, List.length_cons, List.length_nil]; omega

theorem RelO.isSome_eq {o : Option V} {u : Option Value} (r : RelO o u) : o.isSome = u.isSome := by
  cases o with
  | none => cases u with
    | none => rfl
    | some _ => exact (show False from r).elim
  | some _ => cases u with
    | none => exact (show False from r).elim
    | some _ => rfl
theorem RelO.getD {o : Option V} {u : Option Value} {d : V} {d' : Value} (r : RelO o u) (rd : RelV d d') : RelV (o.getD d) (u.getD d') := by
  cases o with
  | none => cases u with
    | none => exact rd
    | some _ => exact (show False from r).elim
  | some _ => cases u with
    | none => exact (show False from r).elim
    | some _ => exact r

/-- raw tables of the same keys -/
theorem KV.val {kvs : List (κ × V)} {vs : List (κ × Value)} (r : KV kvs vs) (k : κ) : RelO (valV kvs k) (valueAt vs k) := by
  unfold KV at r
  induction r with
  | nil => exact True.intro
  | @cons p q ps qs h t ih =>
    obtain ⟨h1, h2⟩ := h
    by_cases e : p.1 = k
    · have e' : q.1 = k := h1.symm.trans e
      have b : valueAt (q :: qs) k = some q.2 := by simp [valueAt, List.find?_cons, e']
      rw [valV_pos e, b]; exact h2
    · have e' : ¬ q.1 = k := fun z => e (h1.trans z)
      have b : valueAt (q :: qs) k = valueAt qs k := by simp [valueAt, List.find?_cons, e']
      rw [valV_neg e, b]; exact ih
theorem KV.any {kvs : List (κ × V)} {vs : List (κ × Value)} (r : KV kvs vs) (k : κ) : (kvs.any fun kv => decide (kv.1 = k)) = vs.any fun kv => decide (kv.1 = k) := by
  unfold KV at r
  induction r with
  | nil => rfl
  | cons h t ih => rw [List.any_cons, List.any_cons, ih, h.1]
theorem KV.repl {kvs : List (κ × V)} {vs : List (κ × Value)} (r : KV kvs vs) (k : κ) {y : V} {u : Value} (ry : RelV y u) :
    KV (kvs.map fun kv => if kv.1 = k then (kv.1, y) else kv) (vs.map fun kv => if kv.1 = k then (kv.1, u) else kv) := by
  unfold KV at r ⊢
  induction r with
  | nil => exact .nil
  | @cons p q ps qs h t ih =>
    rw [List.map_cons, List.map_cons]
    refine .cons ?_ ih
    obtain ⟨h1, h2⟩ := h
    by_cases e : p.1 = k
    · rw [if_pos e, if_pos (h1.symm.trans e)]; exact ⟨h1, ry⟩
    · rw [if_neg e, if_neg (fun z => e (h1.trans z))]; exact ⟨h1, h2⟩
theorem KV.put {kvs : List (κ × V)} {vs : List (κ × Value)} (r : KV kvs vs) (k : κ) {y : V} {u : Value} (ry : RelV y u) : KV (putK kvs k y) (stored vs k u) := by
  unfold putK stored
  rw [r.any k]
  by_cases e : (vs.any fun kv => decide (kv.1 = k)) = true
  · rw [if_pos e, if_pos e]; exact r.repl k ry
  · rw [if_neg e, if_neg e]; exact Paired.snoc r ⟨rfl, ry⟩
theorem KV.drop {kvs : List (κ × V)} {vs : List (κ × Value)} (r : KV kvs vs) (k : κ) : KV (dropK kvs k) (without vs k) := by
  unfold KV at r ⊢
  unfold dropK without
  induction r with
  | nil => exact .nil
  | @cons p q ps qs h t ih =>
    obtain ⟨h1, h2⟩ := h
    rw [List.filter_cons, List.filter_cons]
    by_cases e : p.1 = k
    · have a : ¬ decide (p.1 ≠ k) = true := by simp [e]
      have b : ¬ decide (q.1 ≠ k) = true := by simp [h1.symm.trans e]
      rw [if_neg a, if_neg b]; exact ih
    · have e' : ¬ q.1 = k := fun z => e (h1.trans z)
      have a : decide (p.1 ≠ k) = true := by simp [e]
      have b : decide (q.1 ≠ k) = true := by simp [e']
      rw [if_pos a, if_pos b]; exact .cons ⟨h1, h2⟩ ih
theorem KV.keys {kvs : List (κ × V)} {vs : List (κ × Value)} (r : KV kvs vs) : kvs.map (·.1) = vs.map (·.1) := by
  unfold KV at r
  induction r with
  | nil => rfl
  | cons h t ih => rw [List.map_cons, List.map_cons, ih, h.1]
theorem KV.length {kvs : List (κ × V)} {vs : List (κ × Value)} (r : KV kvs vs) : kvs.length = vs.length := Paired.length r
end


/-! ### a tracked dict, its keys ints and texts or tuples of these -/
theorem kV_is {P : Program} {w : World} {k : Key} {u : Value} (r : RelV (kV k) u) : (mixKind P w).is k u = true := by
  cases k with
  | inl i => obtain ⟨t, e⟩ := (show ∃ t, u = Value.int i t from r); subst e; exact mixKind_int P w i t
  | inr x => obtain ⟨t, e⟩ := (show ∃ t, u = Value.str x t from r); subst e; exact mixKind_str P w x t

/-- raw entries of a dict with tuple keys -/
abbrev KT (H : Hp) : List (List Key × V) → List (List Key × Addr × Value) → Prop := Paired fun p q => p.1 = q.1 ∧ H q.2.1 = some (.tup (p.1.map kV)) ∧ RelV p.2 q.2.2
theorem KT.val {H : Hp} {kvs : List (List Key × V)} {xs : List (List Key × Addr × Value)} (r : KT H kvs xs) (k : List Key) : RelO (valV kvs k) ((atKey xs k).map (·.2)) := by
  induction r with
  | nil => exact True.intro
  | @cons p q ps qs h t ih =>
    obtain ⟨h1, _, h2⟩ := h
    by_cases e : p.1 = k
    · have e' : q.1 = k := h1.symm.trans e
      have b : atKey (q :: qs) k = some q.2 := by simp [atKey, List.find?_cons, e']
      rw [valV_pos e, b]; exact h2
    · have e' : ¬ q.1 = k := fun z => e (h1.trans z)
      have b : atKey (q :: qs) k = atKey qs k := by simp [atKey, List.find?_cons, e']
      rw [valV_neg e, b]; exact ih
theorem KT.repl {H : Hp} {kvs : List (List Key × V)} {xs : List (List Key × Addr × Value)} (r : KT H kvs xs) (k : List Key) {y : V} {u : Value} (ry : RelV y u) :
    KT H (kvs.map fun kv => if kv.1 = k then (kv.1, y) else kv) (xs.map (putAt k u)) := by
  induction r with
  | nil => exact .nil
  | @cons p q ps qs h t ih =>
    rw [List.map_cons, List.map_cons]
    refine .cons ?_ ih
    obtain ⟨h1, h2, h3⟩ := h
    unfold putAt
    by_cases e : p.1 = k
    · rw [if_pos e, if_pos (h1.symm.trans e)]; exact ⟨h1, h2, ry⟩
    · rw [if_neg e, if_neg (fun z => e (h1.trans z))]; exact ⟨h1, h2, h3⟩
theorem KT.put {H : Hp} {kvs : List (List Key × V)} {xs : List (List Key × Addr × Value)} (r : KT H kvs xs) (k : List Key) {b : Addr} {y : V} {u : Value} (hb : H b = some (.tup (k.map kV))) (ry : RelV y u) :
    KT H (putK kvs k y) (storedH xs k b u) := by
  have e : (kvs.any fun kv => decide (kv.1 = k)) = (atKey xs k).isSome := by
    rw [valV_any, (r.val k).isSome_eq, Option.isSome_map]
  unfold putK storedH
  rw [e]
  by_cases q : (atKey xs k).isSome = true
  · rw [if_pos q, if_pos q]; exact r.repl k ry
  · rw [if_neg q, if_neg q]; exact Paired.snoc r ⟨rfl, hb, ry⟩
theorem KT.keeps {H H' : Hp} {kvs : List (List Key × V)} {xs : List (List Key × Addr × Value)} (r : KT H kvs xs) (ht : ∀ b ys, H b = some (.tup ys) → H' b = some (.tup ys)) : KT H' kvs xs :=
  Paired.mapP r fun _ _ z => ⟨z.1, ht _ _ z.2.1, z.2.2⟩

section
variable {P : Program} {w : World} {H : Hp} {h : Heap} {a : Addr}
theorem rd_of {u : HO} (ok : HOk P w H h) (e : Rd H a u) : ObjOk P w H h a u := e.ok ok
theorem dk_rd {kvs : List (Key × V)} (ok : HOk P w H h) (e : Rd H a (.dK kvs)) : kvs.length ≤ sizeLine ∧ (a == sysModules) = false ∧ ∃ vs, KV kvs vs ∧ h.DictOf (mixKind P w) a vs :=
  show ObjOk P w H h a (.dK kvs) from rd_of ok e
theorem dk_of {kvs : List (Key × V)} (ok : HOk P w H h) (e : H a = some (.dK kvs)) : kvs.length ≤ sizeLine ∧ (a == sysModules) = false ∧ ∃ vs, KV kvs vs ∧ h.DictOf (mixKind P w) a vs := dk_rd ok (.inl e)
end

/-- what the dict at a holds at the key y -/
def DGet (H : Hp) (a : Addr) (y : V) (r : Option V) : Prop :=
  (∃ kvs k, Rd H a (.dK kvs) ∧ y = kV k ∧ r = valV kvs k) ∨ ∃ kvs k b, Rd H a (.dT kvs) ∧ y = .ref b ∧ H b = some (.tup (k.map kV)) ∧ r = valV kvs k
/-- the heap behind a[y] = v -/
def DPut (H : Hp) (a : Addr) (y v : V) (H' : Hp) : Prop :=
  (∃ kvs k, H a = some (.dK kvs) ∧ y = kV k ∧ kvs.length < sizeLine ∧ H' = upd H a (.dK (putK kvs k v))) ∨
  ∃ kvs k b, H a = some (.dT kvs) ∧ y = .ref b ∧ H b = some (.tup (k.map kV)) ∧ kvs.length < sizeLine ∧ H' = upd H a (.dT (putK kvs k v))
theorem DGet.k {H : Hp} {a : Addr} {kvs : List (Key × V)} {k : Key} (e : H a = some (.dK kvs)) : DGet H a (kV k) (valV kvs k) := .inl ⟨kvs, k, .inl e, rfl, rfl⟩
theorem DGet.t {H : Hp} {a b : Addr} {kvs : List (List Key × V)} {k : List Key} (e : H a = some (.dT kvs)) (eb : H b = some (.tup (k.map kV))) : DGet H a (.ref b) (valV kvs k) := .inr ⟨kvs, k, b, .inl e, rfl, eb, rfl⟩
theorem DPut.k {H : Hp} {a : Addr} {kvs : List (Key × V)} {k : Key} {v : V} (e : H a = some (.dK kvs)) (hl : kvs.length < sizeLine) : DPut H a (kV k) v (upd H a (.dK (putK kvs k v))) := .inl ⟨kvs, k, e, rfl, hl, rfl⟩
theorem DPut.t {H : Hp} {a b : Addr} {kvs : List (List Key × V)} {k : List Key} {v : V} (e : H a = some (.dT kvs)) (eb : H b = some (.tup (k.map kV))) (hl : kvs.length < sizeLine) :
    DPut H a (.ref b) v (upd H a (.dT (putK kvs k v))) := .inr ⟨kvs, k, b, e, rfl, eb, hl, rfl⟩


section
variable {X : Cx} {pins : List (Addr × Obj)} {σ : St} {H : Hp} {s : Shared} {a : Addr} {y v : V} {u r : Value} {o : Option V} {A : Around} {E : Value → Shared → Prop}

theorem Inv.big (I : Inv X pins σ H s) : sysModules < s.heap.objs.size := by
  have h : mainGlobals < s.heap.objs.size := (I.mod.glob.keeps I.bk).lt
  exact Nat.lt_trans (by decide) h

/-- a dict's object is replaced -/
theorem d_write {h' : Heap} {t' : Nat} {ob : HO} (I : Inv X pins σ H s) (mu : Mut (H a)) (hs : Heap.SameBut a s.heap h') (he : ∃ q, h'.get? a = some q) (new : ObjOk X.prog X.w (upd H a ob) h' a ob) :
    Inv X pins σ (upd H a ob) { s with heap := h', toks := t' } :=
  I.write (x := a) (e := a) mu (.inl rfl) (fun b q hb z => (hs.2 b hb).trans z) he new
theorem dk_new {P : Program} {w : World} {H' : Hp} {h' : Heap} {kvs : List (Key × V)} {vs : List (Key × Value)} (z : kvs.length ≤ sizeLine) (hd : (a == sysModules) = false) (rel : KV kvs vs) (dd : h'.DictOf (mixKind P w) a vs) :
    ObjOk P w H' h' a (.dK kvs) := ⟨z, hd, vs, rel, dd⟩
end

section
variable {X : Cx} {pins : List (Addr × Obj)} {σ : St} {H : Hp} {s : Shared} {a : Addr} {kvs : List (Key × V)} {k : Key} {u : Value} {A : Around} {E : Value → Shared → Prop}
end


/-! ### readings and rules -/



section
variable {X : Cx} {o i e value : Expr} {pos pos' tpos : Pos} {td ty tv : TE}
end


/-! ### displays -/
theorem dk_empty {P : Program} {w : World} {H : Hp} (h : Heap) (hb : sysModules < h.objs.size) : ObjOk P w H (h.push { cls := .type "dict", data := .dict #[] }) h.objs.size (.dK []) :=
  ⟨Nat.zero_le _, beq_eq_false_iff_ne.mpr (Ne.symm (Nat.ne_of_lt hb)), [], .nil, Heap.DictOf.new h⟩
/-- {}, to be a dict of the kind that is wanted -/
def tDNewK : TE := fun _ H Q => ∀ p, H p = none → Q (.ref p) (upd H p (.dK []))
section
variable {X : Cx} {pos : Pos}
theorem pe_dnewK : PE X (.Dict [] [] pos) tDNewK := fun pins s σ H Q I h =>
  wpAny_Dict_empty ⟨.ref s.heap.objs.size, _, I.laid (a := s.heap.objs.size) (o := .dK []) (t' := s.toks) (fun _ _ q => Heap.get?_push_of_some _ q) (Nat.le_refl _) (dk_empty s.heap I.big), rfl, h _ (I.hok.fresh (Nat.le_refl _))⟩
end

/-- the pairs of a display, from the left -/
def tPairs : List (TE × TE) → St → Hp → (List (V × V) → Hp → Prop) → Prop
  | [], _, H, Q => Q [] H
  | (tk, tv) :: r, σ, H, Q => tk σ H fun x H1 => tv σ H1 fun y H2 => tPairs r σ H2 fun ps H3 => Q ((x, y) :: ps) H3
abbrev VV : List (V × V) → List (Value × Value) → Prop := Paired fun p q => RelV p.1 q.1 ∧ RelV p.2 q.2
def PPs (X : Cx) (pos : Pos) (keys : List (Option Expr)) (values : List Expr) (trs : List (TE × TE)) : Prop :=
  ∀ (pins : List (Addr × Obj)) (s : Shared) (σ : St) (H : Hp) (Q : List (V × V) → Hp → Prop), Inv X pins σ H s → tPairs trs σ H Q →
    wpAny (model X.prog X.w) X.A (evalPairs (pairTrees keys values X.env pos)) (fun vs s' => ∃ ps H', Inv X pins σ H' s' ∧ VV ps vs ∧ Q ps H') X.xe s
theorem pps_nil {X : Cx} {pos : Pos} : PPs X pos [] [] [] := fun pins s σ H Q I h => pairTrees_nil_walk ⟨[], H, I, .nil, h⟩
theorem pps_cons {X : Cx} {pos : Pos} {k v : Expr} {ks : List (Option Expr)} {vs : List Expr} {tk tv : TE} {trs : List (TE × TE)} (hk : PE X k tk) (hv : PE X v tv) (hr : PPs X pos ks vs trs) :
    PPs X pos (some k :: ks) (v :: vs) ((tk, tv) :: trs) := fun pins s σ H Q I h =>
  pairTrees_cons_walk (thn (hk pins s σ H _ I h) fun u s1 ⟨x, H1, I1, rx, q1⟩ => thn (hv pins s1 σ H1 _ I1 q1) fun w2 s2 ⟨y, H2, I2, ry, q2⟩ =>
    thn (hr pins s2 σ H2 _ I2 q2) fun ws s3 ⟨ps, H3, I3, rel, q3⟩ => ⟨(x, y) :: ps, H3, I3, .cons ⟨rx, ry⟩ rel, q3⟩)

def mergeK (kvs more : List (Key × V)) : List (Key × V) := more.foldl (fun acc kv => putK acc kv.1 kv.2) kvs
theorem KV.merge : ∀ {more : List (Key × V)} {rs : List (Key × Value)} {kvs : List (Key × V)} {vs : List (Key × Value)}, KV more rs → KV kvs vs → KV (mergeK kvs more) (merged vs rs) := by
  intro more rs kvs vs r
  unfold KV at r
  induction r generalizing kvs vs with
  | nil => intro q; exact q
  | @cons p q ps qs h t ih =>
    intro r0
    have e : KV (putK kvs p.1 p.2) (stored vs q.1 q.2) := by
      have := r0.put p.1 h.2
      rw [← h.1]; exact this
    exact ih e
theorem length_mergeK : ∀ (more kvs : List (Key × V)), (mergeK kvs more).length ≤ kvs.length + more.length
  | [], kvs => by show kvs.length ≤ kvs.length + 0; omega
  | p :: r, kvs => by
    have h1 := length_mergeK r (putK kvs p.1 p.2)
    have h2 := length_putK kvs p.1 p.2
    show (mergeK (putK kvs p.1 p.2) r).length ≤ _
    rw [List.length_cons]; omega
theorem carries_of {P : Program} {w : World} : ∀ {kvs : List (Key × V)} {ws : List (Value × Value)}, VV (kvs.map fun kv => (kV kv.1, kv.2)) ws → ∃ rs, Carries (mixKind P w) ws rs ∧ KV kvs rs
  | [], _, r => by rw [List.map_nil] at r; cases r; exact ⟨[], True.intro, .nil⟩
  | p :: kvs, _, r => by
    rw [List.map_cons] at r
    cases r with
    | @cons a b as bs h t =>
      obtain ⟨rs, c, q⟩ := carries_of (P := P) (w := w) t
      obtain ⟨b1, b2⟩ := b
      exact ⟨(p.1, b2) :: rs, ⟨kV_is h.1, rfl, c⟩, .cons ⟨rfl, h.2⟩ q⟩
/-- {k: v, ..} with keys ints and texts; the new dict stands empty while the pairs are made -/
def tDisp (trs : List (TE × TE)) : TE := fun σ H Q => ∀ p, H p = none → tPairs trs σ (upd H p (.dK [])) fun ps H2 => H2 p = some (.dK []) ∧ ∃ kvs : List (Key × V), ps = kvs.map (fun kv => (kV kv.1, kv.2)) ∧ kvs.length ≤ 15 ∧ Q (.ref p) (upd H2 p (.dK (mergeK [] kvs)))
theorem pe_disp {X : Cx} {pos : Pos} {keys : List (Option Expr)} {values : List Expr} {trs : List (TE × TE)} (h : PPs X pos keys values trs) (hall : keys.all (·.isSome) = true) (hl : keys.length = values.length) (h0 : keys ≠ [])
    (h15 : keys.length ≤ 15) : PE X (.Dict keys values pos) (tDisp trs) := by
  intro pins s σ H Q I q
  have hn := I.hok.fresh (Nat.le_refl s.heap.objs.size)
  have I1 := I.laid (a := s.heap.objs.size) (o := .dK []) (h' := s.heap.push { cls := .type "dict", data := .dict #[] }) (t' := s.toks) (fun _ _ q => Heap.get?_push_of_some _ q) (Nat.le_refl _) (dk_empty s.heap I.big)
  refine wpAny_Dict_walk (knd := mixKind X.prog X.w) hall hl h0 h15 (thn (h pins _ σ _ _ I1 (q _ hn)) fun ws s2 ⟨ps, H2, I2, rel, e, kvs, ep, lk, q2⟩ => ?_)
  subst ep
  obtain ⟨rs, c, rk⟩ := carries_of (P := X.prog) (w := X.w) rel
  obtain ⟨z, hd, vs0, r0, dd⟩ := dk_of I2.hok e
  cases r0
  refine ⟨rs, c, dd, fun h' dd' hs => ⟨.ref s.heap.objs.size, _, ?_, rfl, q2⟩⟩
  have hz : (mergeK [] kvs).length ≤ sizeLine := by
    have h1 := length_mergeK kvs []
    rw [List.length_nil] at h1
    rw [sizeLine_eq]; omega
  have he : ∃ q, h'.get? s.heap.objs.size = some q := let ⟨q, _, _, hq, _⟩ := dd'; ⟨q, hq⟩
  exact d_write I2 (by rw [e]; exact True.intro) hs he (dk_new hz hd (rk.merge .nil) dd')


/-! ### methods -/
/-- a method call o.m(e) of a built-in, with one argument: what must be seen of the text -/
structure M1 (X : Cx) (o : Expr) (m : Str) (apos : Pos) (e : Expr) (cpos : Pos) : Prop where
  base : attributeBase o m X.env (eval o X.env) = eval o X.env
  few : ((backTo cpos (starEach [e] X.env)).all (fun x => !x.1) && (backToKw cpos (keywordEach [] X.env)).all (fun x => x.1.isSome)
    && decide (([e] : List Expr).length + ([] : List Keyword).length + (if ([] : List Keyword).isEmpty then 0 else 1) < 30)) = true
  line : (apos.endLine == cpos.line) = true
  trees : backTo cpos (starEach [e] X.env) = [(false, eval e X.env)]
structure M2 (X : Cx) (o : Expr) (m : Str) (apos : Pos) (e f : Expr) (cpos : Pos) : Prop where
  base : attributeBase o m X.env (eval o X.env) = eval o X.env
  few : ((backTo cpos (starEach [e, f] X.env)).all (fun x => !x.1) && (backToKw cpos (keywordEach [] X.env)).all (fun x => x.1.isSome)
    && decide (([e, f] : List Expr).length + ([] : List Keyword).length + (if ([] : List Keyword).isEmpty then 0 else 1) < 30)) = true
  line : (apos.endLine == cpos.line) = true
  trees : backTo cpos (starEach [e, f] X.env) = [(false, eval e X.env), (false, eval f X.env)]


section
variable {X : Cx} {pins : List (Addr × Obj)} {σ : St} {H : Hp} {s : Shared} {a : Addr} {y d : V} {u r : Value} {o : Option V} {A : Around} {E : Value → Shared → Prop}
end

section
variable {X : Cx} {o e f : Expr} {apos cpos : Pos} {td ty tx : TE}
end

/-! ### dict(d): a copy -/
section
variable {X : Cx} {pins : List (Addr × Obj)} {σ : St} {H : Hp} {s : Shared} {a : Addr} {kvs : List (Key × V)} {A : Around} {E : Value → Shared → Prop}
end


section
variable {X : Cx} {pins : List (Addr × Obj)} {σ : St} {H : Hp} {s : Shared} {a : Addr} {y : V} {u : Value} {A : Around} {E : Value → Shared → Prop}
end
end L2

namespace L2
open PySem PySem.Spec PyProof.Rows


section
variable {prog : Program} {w : World} {A : Around} {E : Value → Shared → Prop}


end

section
variable {X : Cx}
end
end L2

namespace L2
open PySem PySem.Spec PyProof.Rows


section
variable {X : Cx} {pins : List (Addr × Obj)} {σ : St} {H : Hp} {s : Shared} {h' : Heap}

/-! ### locking a thing while a statement runs -/
end
section
variable {X : Cx}

/-! ### one iterator just laid -/
theorem pi_one {tg : Expr} {pins : List (Addr × Obj)} {σ : St} {H : Hp} {s : Shared} {R : It → Hp → Prop} {J : It} {tn : Nat → Heap → Prop} {tk : Nat} (I : Inv X pins σ H s) (o : Obj)
    (T : Turn X.prog X.w X.K tg J [s.heap.objs.size] s.heap.objs.size tn) (st : tn 0 (s.heap.push o)) (q : R J H) : PIE X pins σ tg R (.ref s.heap.objs.size) { s with heap := s.heap.push o, toks := tk } := by
  refine ⟨s.heap.objs.size, [s.heap.objs.size], tn, J, H, rfl, I.kept fun b ob e => Heap.get?_push_of_some _ e, T, st, fun b hb => ?_, q⟩
  have e : b = s.heap.objs.size := by simpa using hb
  subst e
  exact I.fpOk (Nat.le_refl _) (I.hok.fresh (Nat.le_refl _))
end

/-! ### range with a step -/
/-- range(i, j, c): small bounds, n items -/
def RgC (i j c : Int) (n : Nat) : Prop := c ≠ 0 ∧ c.natAbs < 1073741824 ∧ Builtin.Range.small i j c = true ∧ Builtin.Range.rangeSize i j c = n
theorem RgC.neg {i j : Int} (ha : -(2 ^ 62) ≤ i) (ha' : i < 2 ^ 62) (hb : -(2 ^ 62) ≤ j) (hb' : j < 2 ^ 62) : RgC i j (-1) (i - j).toNat :=
  ⟨by decide, by decide, PySem.W.small_down ha ha' hb hb', PySem.W.rangeSize_downNat i j⟩
section
variable {X : Cx} {tg : Expr}
end

/-! ### reversed(list) -/
section
variable {X : Cx} {tg : Expr}
end

/-! ### a str -/
def Its (x : Str) : It := ⟨fun i _ => i < x.cps.size, fun i H v H' => H' = H ∧ ∃ c, x.cps[i]? = some c ∧ v = .str ⟨#[c]⟩, fun i _ => x.cps.size ≤ i⟩
theorem turn_str {P : Program} {w : World} {K : PySem.W.Frag} {tg : Expr} (it : Addr) (x : Str) (t : Tok) (ty : String) (hty : ty = "str_ascii_iterator" ∨ ty = "str_iterator") :
    Turn P w K tg (Its x) [it] it (fun i h => h.IsStrIter it ty x t i) where
  mem := by simp
  obj := fun i h st b hb => by
    have e : b = it := by simpa using hb
    subst e
    obtain ⟨o, e, c, d⟩ := st
    exact ⟨o, e, fun v z => by rw [d] at z; cases z⟩
  keep := fun i h h' st k => let ⟨o, ho, r⟩ := st; ⟨o, k it (by simp) o ho, r⟩
  item := by
    intro X hP hw hK hc i pins s σ H E I hf st hg
    subst hP hw hK
    obtain ⟨f0, f1, f2, f3, f4, f5⟩ := hf it (by simp)
    have W : Walks X.prog X.w X.A it [it] [it] x.cps.size (SignAt x) (fun i h => h.IsStrIter it ty x t i) := by
      rcases hty with e | e
      · rw [e]; exact Walks.strAscii (I.ok.hd hc) it x t
      · rw [e]; exact Walks.strWide (I.ok.hd hc) it x t
    have hno : ["enumerate", "zip", "dict_itemiterator", "dict_reverseitemiterator", "odict_iterator", "itertools.zip_longest", "itertools.pairwise"].contains ty = false := by
      rcases hty with e | e
      · rw [e]; decide
      · rw [e]; decide
    refine W.item i s _ _ hg st fun v h' tk hv st' kk => ?_
    obtain ⟨c, u, hcx, rfl⟩ := hv
    have I1 : Inv X pins σ H { s with heap := h', toks := tk } := I.turned (fun b o hb e => kk b o (by simpa using hb) e) f0 f1 f3 f4 f5
    obtain ⟨oi, e, cc, dd⟩ := id st'
    exact ⟨_, rfl, go_of (s := { s with heap := h', toks := tk }) e cc dd hno ⟨.str ⟨#[c]⟩, H, I1, ⟨u, rfl⟩, ⟨rfl, c, hcx, rfl⟩, st', fun b hb => (hf b hb).1⟩⟩
  done := by
    intro X hP hw hK hc i pins s σ H E I hf st hg
    subst hP hw hK
    obtain ⟨f0, f1, f2, f3, f4, f5⟩ := hf it (by simp)
    have hx : x.cps[i]? = none := Array.getElem?_eq_none hg
    rcases hty with e | e
    · rw [e] at st
      exact wpAny_pyNext_ascii_end (I.ok.hd hc) st hx fun h' eb => ⟨rfl, I.turned (t' := s.toks) (fun b o hb e => eb b o hb e) f0 f1 f3 f4 f5⟩
    · rw [e] at st
      exact wpAny_pyNext_wide_end (I.ok.hd hc) st hx fun h' eb => ⟨rfl, I.turned (t' := s.toks) (fun b o hb e => eb b o hb e) f0 f1 f3 f4 f5⟩
  self := fun A i s Q E st h => by
    rcases hty with e | e
    · rw [e] at st; exact wpAny_pyIter_striter_ascii st h
    · rw [e] at st; exact wpAny_pyIter_striter_wide st h
def iStr (te : TE) : TI := fun σ H R => te σ H fun v H1 => ∃ x, v = .str x ∧ R (Its x) H1
theorem pi_str {X : Cx} {tg e : Expr} {te : TE} (he : PE X e te) : PI X tg e (iStr te) := by
  intro pins s σ H R I h
  refine thn (he pins s σ H _ I h) fun v s1 ⟨y, H1, I1, r1, x, ex, q⟩ => ?_
  subst ex
  obtain ⟨t, rfl⟩ := r1
  cases ha : x.cps.all (· < 128)
  · exact wpAny_pyIter_wide ha (pi_one (tk := s1.toks) I1 _ (turn_str _ x t "str_iterator" (.inr rfl)) ⟨_, Heap.get?_push_size _ rfl, rfl, rfl⟩ q)
  · exact wpAny_pyIter_ascii ha (pi_one (tk := s1.toks) I1 _ (turn_str _ x t "str_ascii_iterator" (.inl rfl)) ⟨_, Heap.get?_push_size _ rfl, rfl, rfl⟩ q)

/-! ### a dict's keys: any dict's entries -/
section
variable {prog : Program} {w : World} {A : Around} {E : Value → Shared → Prop} {s : Shared}
end

/-! ### a locked dict -/
section
variable {X : Cx} {pins : List (Addr × Obj)} {σ : St} {H : Hp} {s : Shared} {d : Addr} {o : Obj}
end

section
variable {P : Program} {w : World} {K : PySem.W.Frag} {tg : Expr} {d : Addr} {o : Obj} {es : Array DictEntry} {ep : Nat}
end

/-! ### for k in d, d.keys(), d.values(), d.items() -/
section
variable {X : Cx} {tg e : Expr} {td : TE} {apos cpos : Pos}
end

/-! ### enumerate(list) -/
/-! ### zip(list, list) -/
end L2

section 
namespace Bits
open PySem PyProof.Rows








end Bits
end 

section 
namespace TL
open PySem PySem.Builtin PySem.Builtin.Str PySem.StrLaws

abbrev tl (x : Str) : List Nat := x.cps.toList
theorem tl_append (x y : Str) : tl (x ++ y) = tl x ++ tl y := by
  show (x ++ y).cps.toList = _
  rw [Str.cps_append, Array.toList_append]

/-! ### the list functions -/
/-- S stands at the head of l -/
def pre (S l : List Nat) : Bool := l.take S.length == S
/-- l cut at each S from the left; k signs are still to be passed over -/
def spl (S : List Nat) : Nat → List Nat → List Nat → List (List Nat)
  | _, acc, [] => [acc]
  | 0, acc, c :: r => if pre S (c :: r) = true then acc :: spl S (S.length - 1) [] r else spl S 0 (acc ++ [c]) r
  | k + 1, acc, _ :: r => spl S k acc r
/-- what stands before the first S, and behind it -/
def par (S : List Nat) : List Nat → List Nat → Option (List Nat × List Nat)
  | _, [] => none
  | acc, c :: r => if pre S (c :: r) = true then some (acc, (c :: r).drop S.length) else par S (acc ++ [c]) r




/-! ### the model's split and partition are these -/




/-! ### computing spl and par -/

/-- joined lists -/
def joinL (S : List Nat) : List (List Nat) → List Nat
  | [] => []
  | [p] => p
  | p :: q :: r => p ++ (S ++ joinL S (q :: r))
theorem tl_join (y : Str) : ∀ parts : List Str, tl (Str.join y parts) = joinL (tl y) (parts.map tl)
  | [] => rfl
  | [_] => rfl
  | x :: z :: r => by
    show tl (x ++ y ++ Str.join y (z :: r)) = tl x ++ (tl y ++ joinL (tl y) ((z :: r).map tl))
    rw [tl_append, tl_append, tl_join y (z :: r), List.append_assoc]
theorem join_eq (y : Str) (parts : List Str) : Txt.join y parts = Str.join y parts := glued_eq_join y parts

/-! ### digits -/

/-! ### words: x.split() -/
end TL
end 

namespace L2
open PySem PySem.Spec PyProof.Rows

theorem notLong {n : Nat} (h : n ≤ 16777216) : Builtin.Str.tooLong n = false := by
  have e : (2 : Nat) ^ 24 = 16777216 := by decide
  unfold Builtin.Str.tooLong sizeLine
  exact decide_eq_false (by omega)

theorem strs_of_vals : ∀ {ys : List Str} {us : List Value}, Vals (ys.map V.str) us → StrsAre us ys
  | [], _, .nil => .nil
  | y :: ys, _, .cons r t => by
    obtain ⟨k, rfl⟩ := r
    exact .cons y k (strs_of_vals t)


section
variable {X : Cx} {pins : List (Addr × Obj)} {σ : St} {H : Hp} {s : Shared} {Q : VK}
end

section
variable {X : Cx}




/-- sep.join(a list | a tuple of texts) -/
theorem mt_join : MtR X "str.join" (fun x xs H Q => ∃ a p, ∃ ys : List Str, x = .str a ∧ xs = [.ref p] ∧ (SqL X.K H p (ys.map V.str) ∨ SqT X.K H p (ys.map V.str)) ∧
    (ys.map (·.length)).sum + ys.length * a.length ≤ 16777216 ∧ Q (.str (Txt.join a ys)) H) := by
  intro pins s σ H x xs v us Q I rx rs h
  obtain ⟨a, p, ys, rfl, rfl, hp, hz, h⟩ := h
  obtain ⟨t, rfl⟩ := rx
  cases rs with
  | cons r1 rs =>
    cases rs
    cases r1
    rcases hp with hp | hp
    · obtain ⟨its, r, ⟨o, n, ho, hc, _, hd⟩, _⟩ := I.list hp
      exact PyProof.Rows.join_list (items := its.toArray) ⟨o, ho, hc, n, hd⟩ (by rw [List.toList_toArray]; exact strs_of_vals r) hz fun t' k => ⟨.str _, H, I.tok k, ⟨t', rfl⟩, h⟩
    · obtain ⟨its, r, ht, _⟩ := I.tuple hp
      exact PyProof.Rows.join_tuple (items := its.toArray) ht (by rw [List.toList_toArray]; exact strs_of_vals r) hz fun t' k => ⟨.str _, H, I.tok k, ⟨t', rfl⟩, h⟩

/-! ### of a text alone -/
theorem mt0 {id : String} {C : Str → Prop} {g : Str → V} (rule : ∀ (a : Str) (t : Tok) (s : Shared) (Q : Value → Shared → Prop), C a → (∀ (u : Value) (k : Nat), RelV (g a) u → Q u { s with toks := k }) →
    wpAny (model X.prog X.w) X.A (call (.builtin id) [.str a t]) Q X.xe s) : MtR X id (fun x xs H Q => ∃ a, x = .str a ∧ xs = [] ∧ C a ∧ Q (g a) H) := by
  intro pins s σ H x xs v us Q I rx rs h
  obtain ⟨a, rfl, rfl, hc, h⟩ := h
  obtain ⟨t, rfl⟩ := rx
  cases rs
  exact rule a t s _ hc fun u k r => ⟨g a, H, I.tok k, r, h⟩
theorem mt_upper : MtR X "str.upper" (fun x xs H Q => ∃ a, x = .str a ∧ xs = [] ∧ a.length ≤ 5592405 ∧ Q (.str (Txt.upper a)) H) :=
  mt0 (C := fun a => a.length ≤ 5592405) (g := fun a => .str (Txt.upper a)) fun a _ s _ hc h =>
    PySem.SC.upper (notLong (by have h1 : a.length ≤ 5592405 := hc; have := PyProof.Rows.len_upper a; omega)) (h _ (s.toks + 1) ⟨_, rfl⟩)

/-! ### of a text and a text -/

end

section
variable {X : Cx} {o e : Expr} {to te : TE}
def tM0 (r : V → List V → Hp → VK → Prop) (to : TE) : TE := fun σ H Q => to σ H fun x H1 => (∃ a, x = .str a) ∧ r x [] H1 Q
def tM1 (r : V → List V → Hp → VK → Prop) (to te : TE) : TE := fun σ H Q => to σ H fun x H1 => (∃ a, x = .str a) ∧ te σ H1 fun y H2 => r x [y] H2 Q
theorem pe_m0 {id : String} {name : Str} {apos pos : Pos} {r : V → List V → Hp → VK → Prop} (slot : Slot "str" name id) (ty : typeOf (.builtin id) = pure (.type "method_descriptor")) (rule : MtR X id r) (ho : PE X o to)
    (hbase : attributeBase o name X.env (eval o X.env) = eval o X.env := by rfl) (hline : (apos.endLine == pos.line) = true := by rfl) : PE X (.Call (.Attribute o name apos) [] [] pos) (tM0 r to) := by
  intro pins s σ H Q I h
  refine PySem.Call_method0 hbase hline (thn (ho pins s σ H _ I h) fun v s1 ⟨x, H1, I1, r1, q1⟩ => ?_)
  obtain ⟨⟨a, rfl⟩, q1⟩ := q1
  obtain ⟨t, rfl⟩ := _root_.id r1
  exact ⟨"str", _, F.plainAttrs_str, slot, ty, typeIs_str _ _ _, (fun _ e => nomatch e), Calls.callWith_builtin rfl (PySem.evalArgs_none (rule pins s1 σ H1 _ [] _ [] Q I1 r1 .nil q1))⟩
theorem pe_m1 {id : String} {name : Str} {apos pos : Pos} {r : V → List V → Hp → VK → Prop} (slot : Slot "str" name id) (ty : typeOf (.builtin id) = pure (.type "method_descriptor")) (rule : MtR X id r) (ho : PE X o to) (he : PE X e te)
    (hs : starEach [e] X.env = [(false, eval e X.env)] := by rfl) (hbase : attributeBase o name X.env (eval o X.env) = eval o X.env := by rfl) (hline : (apos.endLine == pos.line) = true := by rfl) :
    PE X (.Call (.Attribute o name apos) [e] [] pos) (tM1 r to te) := by
  intro pins s σ H Q I h
  refine PySem.Call_method1 hbase hs hline (thn (ho pins s σ H _ I h) fun v s1 ⟨x, H1, I1, r1, q1⟩ => ?_)
  obtain ⟨⟨a, rfl⟩, q1⟩ := q1
  obtain ⟨t, rfl⟩ := _root_.id r1
  refine ⟨"str", _, F.plainAttrs_str, slot, ty, typeIs_str _ _ _, (fun _ e => nomatch e), Calls.callWith_builtin rfl (Calls.evalArgs_plain (Calls.spliced_cons ?_))⟩
  exact thn (he pins s1 σ H1 _ I1 q1) fun u s2 ⟨y, H2, I2, r2, q2⟩ => Calls.spliced_nil (rule pins s2 σ H2 _ [y] _ [u] Q I2 r1 (.cons r2 .nil) q2)

theorem pe_join {apos pos : Pos} (ho : PE X o to) (he : PE X e te) (hs : starEach [e] X.env = [(false, eval e X.env)] := by rfl) (hbase : attributeBase o "join" X.env (eval o X.env) = eval o X.env := by rfl) (hline : (apos.endLine == pos.line) = true := by rfl) :
    PE X (.Call (.Attribute o "join" apos) [e] [] pos) (tM1 (fun x xs H Q => ∃ a p, ∃ ys : List Str, x = .str a ∧ xs = [.ref p] ∧ (SqL X.K H p (ys.map V.str) ∨ SqT X.K H p (ys.map V.str)) ∧
      (ys.map (·.length)).sum + ys.length * a.length ≤ 16777216 ∧ Q (.str (Txt.join a ys)) H) to te) :=
  pe_m1 F.slot_str_join F.type_str_join mt_join ho he hs hbase hline
theorem pe_upper {apos pos : Pos} (ho : PE X o to) (hbase : attributeBase o "upper" X.env (eval o X.env) = eval o X.env := by rfl) (hline : (apos.endLine == pos.line) = true := by rfl) :
    PE X (.Call (.Attribute o "upper" apos) [] [] pos) (tM0 (fun x xs H Q => ∃ a, x = .str a ∧ xs = [] ∧ a.length ≤ 5592405 ∧ Q (.str (Txt.upper a)) H) to) :=
  pe_m0 F.slot_str_upper F.type_str_upper mt_upper ho hbase hline
end
end L2

namespace L2
open PySem PySem.Spec PyProof.Rows

section
variable {X : Cx}
theorem op_le_str : OpR X (compareOp .LtE) (fun x y H Q => ∃ i j, x = .str i ∧ y = .str j ∧ Q (.bl (!decide (j.cps.toList < i.cps.toList))) H) := by
  intro pins s σ H x y v u Q I rx ry h
  obtain ⟨i, j, rfl, rfl, q⟩ := h
  obtain ⟨t, rfl⟩ := rx
  obtain ⟨t', rfl⟩ := ry
  exact PySem.P.le_str (fin_bl I q rfl)
theorem op_notIn_sign : OpR X (compareOp .NotIn) (fun x y H Q => ∃ (c : Nat) (z : Str), x = .str ⟨#[c]⟩ ∧ y = .str z ∧ Q (.bl (!decide (c ∈ z.cps.toList))) H) := by
  intro pins s σ H x y v u Q I rx ry h
  obtain ⟨c, z, rfl, rfl, q⟩ := h
  obtain ⟨t, rfl⟩ := rx
  obtain ⟨t', rfl⟩ := ry
  exact PyProof.Rows.notIn_str (fin_bl I q (congrArg Bool.not (PySem.StrLaws.found_one z c).symm))
end

/-! ### slices of a text -/
theorem IsPart.raw {v : Value} {o : Option Int} (p : IsPart v o) : ∃ l : Option (Int × Tok), v = partValue l ∧ l.map (·.1) = o := by
  cases p with
  | none => exact ⟨none, rfl, rfl⟩
  | int i t => exact ⟨some (i, t), rfl, rfl⟩

/-- a part, clipped, as the text's slice reckons it -/
def clipS (n d : Nat) : Option Int → Int
  | none => (d : Int)
  | some i => max 0 (min (if i < 0 then i + (n : Int) else i) (n : Int))
theorem clipS_eq (n d : Nat) (o : Option Int) : clipS n d o = ((HT.sIx n d o : Nat) : Int) := by
  cases o with
  | none => rfl
  | some v =>
    show max (0 : Int) (min (if v < 0 then v + (n : Int) else v) (n : Int)) = (((if v < 0 then (v + (n : Int)).toNat else min v.toNat n) : Nat) : Int)
    by_cases hv : v < 0
    · simp only [if_pos hv]
      omega
    · simp only [if_neg hv]
      omega
theorem sidx_clip (a b : Option Int) (n : Nat) : Builtin.Str.strSliceIndices a b 1 n = sliceRange (clipS n 0 a) (clipS n n b) 1 := by
  have h1 : ((1 : Int) > 0) = True := by simp
  cases a <;> cases b <;> first
    | rfl
    | (simp only [Builtin.Str.strSliceIndices, clipS, h1, if_true]; rfl)
    | simp [Builtin.Str.strSliceIndices, clipS]
theorem sidx (a b : Option Int) (n : Nat) : Builtin.Str.strSliceIndices a b 1 n = (List.range (HT.sIx n n b - HT.sIx n 0 a)).map (fun k => HT.sIx n 0 a + k) := by
  rw [sidx_clip, clipS_eq, clipS_eq]
  generalize HT.sIx n 0 a = p
  generalize HT.sIx n n b = q
  simp only [sliceRange, show ((1 : Int) > 0) = True from by simp, if_true]
  by_cases hlt : (p : Int) < q
  · have e3 : (((q : Int) - p + 1 - 1) / 1).toNat = q - p := by first | omega | (simp; done) | (simp; omega)
    simp only [hlt, if_true, e3]
    refine List.map_congr_left fun k _ => ?_
    omega
  · have : q - p = 0 := by omega
    simp [hlt, this]

/-- z[lo:hi] -/
def cutS (z : Str) (lo hi : Option Int) : Str :=
  ⟨((z.cps.toList.drop (HT.sIx z.length 0 lo)).take (HT.sIx z.length z.length hi - HT.sIx z.length 0 lo)).toArray⟩
theorem sliceText_cut (z : Str) (lo hi : Option Int) : PySem.StrLaws.sliceText z lo hi = cutS z lo hi := by
  have h1 : HT.sIx z.length 0 lo ≤ z.length := HT.sIx_le _ _ (Nat.zero_le _) _
  have h2 : HT.sIx z.length z.length hi ≤ z.length := HT.sIx_le _ _ (Nat.le_refl _) _
  have hp : HT.sIx z.length 0 lo ≤ max (HT.sIx z.length 0 lo) (HT.sIx z.length z.length hi) := Nat.le_max_left _ _
  have hq : max (HT.sIx z.length 0 lo) (HT.sIx z.length z.length hi) ≤ z.length := Nat.max_le.mpr ⟨h1, h2⟩
  have hd : max (HT.sIx z.length 0 lo) (HT.sIx z.length z.length hi) - HT.sIx z.length 0 lo = HT.sIx z.length z.length hi - HT.sIx z.length 0 lo := by omega
  have e : Builtin.Str.strSliceIndices lo hi 1 z.length =
      Builtin.Str.strSliceIndices (some ((HT.sIx z.length 0 lo : Nat) : Int)) (some ((max (HT.sIx z.length 0 lo) (HT.sIx z.length z.length hi) : Nat) : Int)) 1 z.length := by
    rw [PySem.StrLaws.strSliceIndices_plain hp hq, hd, sidx]
  have e2 : PySem.StrLaws.sliceText z lo hi =
      PySem.StrLaws.sliceText z (some ((HT.sIx z.length 0 lo : Nat) : Int)) (some ((max (HT.sIx z.length 0 lo) (HT.sIx z.length z.length hi) : Nat) : Int)) := by
    unfold PySem.StrLaws.sliceText
    rw [e]
  rw [e2, PySem.StrLaws.sliceText_nat z hp hq, hd]
  rfl
theorem cutS_length (z : Str) (lo hi : Option Int) : (cutS z lo hi).length ≤ z.length := by
  show (((z.cps.toList.drop (HT.sIx z.length 0 lo)).take (HT.sIx z.length z.length hi - HT.sIx z.length 0 lo)).toArray).size ≤ z.cps.size
  rw [List.size_toArray, List.length_take, List.length_drop, Array.length_toList]
  omega
def rSlS : V → Option Int → Option Int → Hp → VK → Prop := fun x lo hi H Q => ∃ z, x = .str z ∧ z.length ≤ sizeLine ∧ Q (.str (cutS z lo hi)) H
theorem sl_str {X : Cx} : SlR X rSlS := by
  intro pins s σ H x v vl vu lo hi sl Q I rx hs pl pu h
  obtain ⟨z, rfl, hz, q⟩ := h
  obtain ⟨t, rfl⟩ := rx
  obtain ⟨os, hos, hcs, hds⟩ := hs
  obtain ⟨l, rfl, rfl⟩ := IsPart.raw pl
  obtain ⟨u, rfl, rfl⟩ := IsPart.raw pu
  refine ⟨"str", _, F.slot_str_getitem.lookup, typeIs_str _ _ _, ?_⟩
  refine wpAny_getItem_str_slice (l := l) (u := u) (st := none) ⟨os, hos, hcs, hds⟩ rfl ?_
  have hl : (PySem.StrLaws.sliceText z (l.map (·.1)) (u.map (·.1))).length ≤ sizeLine := by
    rw [sliceText_cut]
    exact Nat.le_trans (cutS_length z _ _) hz
  rw [← sliceText_cut] at q
  unfold PySem.StrLaws.sliceText at q hl
  show Made.post (if ((1 : Int) == 1 && (Builtin.Str.strSliceIndices (l.map (·.1)) (u.map (·.1)) 1 z.length).length == z.length) = true then Made.val (.str z t)
    else Made.str ⟨((Builtin.Str.strSliceIndices (l.map (·.1)) (u.map (·.1)) 1 z.length).filterMap (z.cps[·]?)).toArray⟩) (EP X pins σ Q) s
  by_cases c : ((1 : Int) == 1 && (Builtin.Str.strSliceIndices (l.map (·.1)) (u.map (·.1)) 1 z.length).length == z.length) = true
  · rw [if_pos c] at q ⊢
    exact ⟨.str z, H, I, ⟨t, rfl⟩, q⟩
  · rw [if_neg c] at q hl ⊢
    exact ⟨hl, .str _, H, I.tok _, ⟨_, rfl⟩, q⟩
end L2

namespace Att
open PySem PySem.W PySem.Calls PyProof.Rows

/-! ### the script -/
theorem ints_of_wellAll {P : Params} {h : Heap} : ∀ (ns : List Int) (vs : List Value), WellAll P h vs (ns.map WData.int) → IntsAre vs ns := by
  intro ns
  induction ns with
  | nil =>
    intro vs w
    rw [List.map_nil] at w
    cases w
    exact .nil
  | cons n ns ih =>
    intro vs w
    rw [List.map_cons] at w
    cases w with
    | cons a b =>
      cases a
      exact .cons _ _ (ih _ b)

theorem script_of {l : OpenLaw} {n : Nat} (hn : l.most = some n) {P : Params} {h : Heap} {args : List WData} {vals : List Value}
    (hpre : l.row.toRowW.claim.pre args = true) (hwl : WellAll P h vals args) :
    ∃ a vs ns, vals = [Value.ref a] ∧ args = [WData.list (ns.map WData.int)] ∧ h.get? a = some { cls := .type "list", data := .seq vs.toArray } ∧ IntsAre vs ns ∧ ns.length ≤ n := by
  have hsh : WShape.hasAll [] args [.list .int] = true := (pre_splitW hpre).1
  have hc : l.pre.holds [] { args := args } = true := (pre_splitW hpre).2
  obtain ⟨d, r, rfl, h1, h2⟩ := hasAllW_cons hsh
  obtain rfl := hasAllW_nil h2
  obtain ⟨xs, rfl, h3⟩ := hasW_list h1
  obtain ⟨ns, rfl⟩ := items_int h3
  have hlen : ns.length ≤ n := by
    unfold OpenLaw.pre at hc
    have h4 : (WTm.not (.lt (.lit (.int (n : Int))) (.len (.arg 0)))).holds [] { args := [.list (ns.map .int)] } = true := by
      have h4 := (holds_andW hc).1
      rw [hn] at h4
      exact h4
    have h5 := condW_of h4 (w_not (w_lt w_lit (w_len_list (w_arg rfl))))
    rw [List.length_map] at h5
    refine Nat.le_of_not_lt fun q => ?_
    have q' : (n : Int) < ((ns.length : Nat) : Int) := by omega
    first
      | (rw [decide_eq_true q'] at h5; exact absurd h5 (by decide))
      | (simp at h5; omega)
  cases hwl with
  | cons w1 w2 =>
    cases w2
    cases w1 with
    | list ho hall => exact ⟨_, _, ns, rfl, rfl, ho, ints_of_wellAll ns _ hall, hlen⟩

theorem post_true (l : OpenLaw) (args : List WData) : l.row.toRowW.claim.post args (.bool true) args = true :=
  postW_of (r := l.row.toRowW) (X := (true == true))
    (show WShape.has [] (.bool true) .bool = true by first | rfl | decide | simp [WShape.has, WShape.arms, WShape.armsAll])
    (show (WTm.eq .res (.lit (.bool true))).value [] { args := args, res := some (.bool true), after := args } = some (.bool (true == true)) from w_eq_bool (w_res rfl) w_lit) rfl

/-! ### the attachment: holds_open's last premise (the goal 'hc' behind k_head) from a wpAny of the law's body -/

/-- the same from a codeAny of the CALL (for a layer whose function contracts speak of calls) -/
theorem attach_call {l : OpenLaw} {n : Nat} {q : Program} {loose : List Str} {XP : (Str → Option Value) → Heap → Prop} {YP : World → Heap → Prop} {d : DefRec}
    (hn : l.most = some n) (hdf : d.params.defaults = [])
    (call : ∀ (w : World) (s₀ s₁ : Shared) (mg mb : Str → Option Value) (fa : Addr) (o : Obj) (pm cd doc : Value) (a : Addr) (vs : List Value) (ns : List Int),
      Ground q loose [] XP w s₀ mg mb s₁.heap → YP w s₁.heap →
      s₁.heap.get? fa = some o → o.data = .func (docDef d.name d.params d.body d.scope pm cd doc) → s₁.heap.CodeRec cd d.name → mg d.name = some (.ref fa) →
      s₁.heap.get? a = some { cls := .type "list", data := .seq vs.toArray } → IntsAre vs ns → ns.length ≤ n → s₁.gens = #[] →
      codeAny (model l.prog w) callerA (.call (.ref fa) ⟨[.ref a], []⟩) (fun r s' => r = .ok (.ret (.bool true)) ∧ OldK s₁.heap s'.heap ∧ s'.os = s₁.os ∧ AllBare s'.gens) s₁) :
    WalkO q loose XP YP l.row.toRowW d [] (fun f vs => PySem.call f vs) := by
  intro w s₀ s₁ mg mb G Y fa o pm cd doc dV kV ho hd hcd hD hmg hg args vals as hpre hlay hrd hwl hlo
  obtain rfl : dV = .none := Dflts.none hD hdf
  obtain rfl : kV = .none := Dflts.noKw hD
  obtain ⟨a, vs, ns, rfl, rfl, hobj, hints, hlen⟩ := script_of hn hpre hwl
  refine enter_call (codeAny_mono (call w s₀ s₁ mg mb fa o pm cd doc a vs ns G Y ho (fd_plain hd) hcd hmg hobj hints hlen hg) fun r s' hq => ?_)
  obtain ⟨rfl, h2, h3, h4⟩ := hq
  exact ⟨.inl ⟨.bool true, .bool true, [], rfl, fun _ => rfl, .bool true, post_true l _, fun _ => ⟨List.Pairwise.nil, fun _ hm => (nomatch hm)⟩⟩, h2, h3, h4⟩


/-! ### rules over ANY heap (no ledger) from facts about the written part K: the library's own take a ledger (News) for what they write -/
section
variable {prog : Program} {w : World} {A : Around} {E : Value → Shared → Prop} {s : Shared} {K : Frag}





/-! the whole heap as the ledger: makes every rule that writes through a ledger a rule over any heap -/
def ledger (h : Heap) (L d : Addr) : List (Addr × Obj) := (List.range h.objs.size).filterMap fun a => if a = L ∨ a = d then none else (h.get? a).map fun o => (a, o)

end
end Att

namespace L2
open PySem PySem.Spec PyProof.Rows

theorem vals_ints : ∀ {vs : List Value} {ns : List Int}, IntsAre vs ns → Vals (ns.map V.int) vs
  | _, _, .nil => .nil
  | _, _, .cons n t h => .cons ⟨t, rfl⟩ (vals_ints h)

/-- nothing is tracked but the script, known to the object (or it is an object of the module) -/
def Only (H : Hp) : Prop := ∀ b, H b = none ∨ ∃ o xs, H b = some (.frz o (.lst xs))

/-- THE HEAD: the law's promise, at the heap behind the top. F, the promise of the law's def, may use that base is part of the heap (so K.In base, base.Ns mainGlobals mg stand in Mod) -/
theorem law_call {P : Program} {w : World} {K : PySem.W.Frag} {mg mb : Str → Option Value} {CX : CXT} {k : Nat} {fa a : Addr} {fd : FuncData} {x : Str} {sp : Sp} {s₁ : Shared} {vs : List Value} {ns : List Int}
    (KX : K.In s₁.heap) (hns : s₁.heap.Ns mainGlobals mg) (hb : s₁.heap.Ns builtinsNs mb) (hbb : ∀ x : Str, x ≠ "__name__" → mb x = bootBuiltins x) (hlim : s₁.heap.NoLimit) (hg : s₁.gens = #[])
    (ha : s₁.heap.get? a = some { cls := .type "list", data := .seq vs.toArray }) (hi : IntsAre vs ns) (hl : ns.length ≤ sizeLine) (hr : Room k callerA)
    (F : ∀ base : Heap, K.In base → base.Ns mainGlobals mg → FnOk P w K mg base CX k fa fd [x] sp) (hbind : ∀ (s : Shared) (u : Value), BindsTo s fd ⟨[u], []⟩ [(x, u)])
    (hsp : ∀ H : Hp, Only H → SqL K H a (ns.map V.int) → sp [.ref a] H (fun v _ => v = .bl true) fun _ _ _ => False)
    (hCX : ∀ H e s', CX [] H s₁ (fun _ _ _ => False) e s' → False) :
    codeAny (model P w) callerA (.call (.ref fa) ⟨[.ref a], []⟩) (fun r s' => r = .ok (.ret (.bool true)) ∧ OldK s₁.heap s'.heap ∧ s'.os = s₁.os ∧ AllBare s'.gens) s₁ := by
  have rv := vals_ints hi
  have lenV := hi.length
  -- from an abstract heap in which nothing but the script may be tracked
  have core : ∀ H : Hp, Only H → SqL K H a (ns.map V.int) → HOk P w H s₁.heap → (∀ b, H b ≠ none → b = a) → (H a ≠ none → K.lookup a = none) →
      codeAny (model P w) callerA (.call (.ref fa) ⟨[.ref a], []⟩) (fun r s' => r = .ok (.ret (.bool true)) ∧ OldK s₁.heap s'.heap ∧ s'.os = s₁.os ∧ AllBare s'.gens) s₁ := by
    intro H hO hS hok hA hK
    have base_of : ∀ {b : Addr} {o : Obj}, s₁.heap.get? b = some o → H b = none → (hidT s₁.heap H).get? b = some o := fun e n => hidT_get e n
    have noA : ∀ {b : Addr} {o : Obj} {es : Array DictEntry} {ep : Nat}, s₁.heap.get? b = some o → o.data = .dict es ep → H b = none := fun {b o es ep} e d => by
      cases q : H b with
      | none => rfl
      | some u =>
        have e' : b = a := hA b (by rw [q]; simp)
        subst e'
        rw [ha] at e; cases e
        have d' : Data.seq vs.toArray _ = Data.dict es ep := d
        cases d'
    have nsK : ∀ {b : Addr} {m : Str → Option Value}, s₁.heap.Ns b m → (hidT s₁.heap H).Ns b m := fun {b m} ⟨o, es, ep, e, d, r⟩ => ⟨o, es, ep, base_of e (noA e d), d, r⟩
    have hKb : K.In (hidT s₁.heap H) := fun b o e => base_of (KX b o e) (by
      cases q : H b with
      | none => rfl
      | some u =>
        have e' : b = a := hA b (by rw [q]; simp)
        subst e'
        rw [hK (by rw [q]; simp)] at e; cases e)
    have hM : Mod K mg (hidT s₁.heap H) := ⟨hKb, nsK hns, ⟨mb, nsK hb, hbb⟩, let ⟨mc, h1, h2⟩ := hlim; ⟨mc, nsK h1, h2⟩⟩
    have e0 : Env0 P w K mg (hidT s₁.heap H) callerA [] s₁ H := ⟨rfl, hM, fun b o e => of_hidT e, Nat.le_of_eq (hidT_size _ _), trivial, fun b hb => absurd (show b ∈ ([] : List Addr) from hb) (by simp), hok, .of_eq hg⟩
    refine codeAny_mono ((F _ hKb (nsK hns)).run callerA [] s₁ H ⟨[.ref a], []⟩ [.ref a] [.ref a] _ _ hr e0 (hbind s₁ (.ref a)) (.cons rfl .nil) (hsp H hO hS)) fun r s' h => ?_
    cases r with
    | error e => exact (hCX H e s' h).elim
    | ok fl =>
      cases fl with
      | next => exact False.elim h
      | brk => exact False.elim h
      | cont => exact False.elim h
      | ret u =>
        obtain ⟨v, H', os, bare, un, hok', r', q⟩ := h
        have q' : v = .bl true := q
        subst q'
        obtain rfl : u = Value.bool true := r'
        refine ⟨rfl, OldK.of_keep fun b o e => ?_, os, bare⟩
        cases q : H b with
        | none => exact un.keep b o e q (by intro z; exact absurd (show b ∈ ([] : List Addr) from z) (by simp)) (by simp)
        | some u =>
          rcases hO b with z | ⟨ob, xs, z⟩
          · rw [q] at z; cases z
          · have z2 := un.frzs b ob _ z
            obtain ⟨e1, _⟩ := hok b _ z
            obtain ⟨e2, _⟩ := hok' b _ z2
            rw [e] at e1; cases e1
            exact e2
  cases hk : K.lookup a with
  | some o =>
    -- the script is one of the module's own objects
    have e := KX a o hk
    rw [ha] at e
    cases e
    refine core (fun _ => none) (fun _ => .inl rfl) (.inr ⟨_, vs.toArray, _, hk, rfl, rfl, rfl, by rw [List.size_toArray, lenV]; exact hl, by simpa using rv⟩) (fun b u z => by have z' : (none : Option HO) = some u := z; cases z') (fun b z => absurd rfl z) fun z => absurd rfl z
  | none =>
    refine core (fun b => if b = a then some (.frz { cls := .type "list", data := .seq vs.toArray } (.lst (ns.map V.int))) else none) (fun b => ?_) (.inl (.inr ⟨{ cls := .type "list", data := .seq vs.toArray }, if_pos rfl⟩)) (fun b u z => ?_) (fun b z => ?_) fun _ => hk
    · by_cases hb : b = a
      · exact .inr ⟨_, _, if_pos hb⟩
      · exact .inl (if_neg hb)
    · by_cases hb : b = a
      · have z' := (if_pos hb).symm.trans z
        cases z'
        subst hb
        exact ⟨ha, by rw [List.length_map]; exact hl, vs, _, rv, ha⟩
      · have z' := (if_neg hb).symm.trans z
        cases z'
    · by_cases hb : b = a
      · exact hb
      · exact absurd (if_neg hb) z
end L2

namespace L2
open PySem PySem.Spec PyProof.Rows

abbrev KOf {K : PySem.W.Frag} {h : Heap} (_ : K.In h) : PySem.W.Frag := K

/-- the goal that k_head leaves (case hc), from the law's promise. F gives the function object fd (K's own) once, then the promise over every base -/
theorem walk_of {l : PySem.W.OpenLaw} {n k : Nat} {q : Program} {loose : List Str} {XP : (Str → Option Value) → Heap → Prop} {YP : World → Heap → Prop} {d : DefRec} {K : Params → PySem.W.Frag} {CX : World → CXT} {sp : World → Sp} {x : Str}
    (hn : l.most = some n) (hn2 : n ≤ sizeLine) (hdf : d.params.defaults = []) (hr : Room k callerA)
    (hY : ∀ (w : World) (h : Heap), YP w h → (K w.params).In h)
    (F : ∀ (w : World) (mg : Str → Option Value) (fa : Addr) (h : Heap), (K w.params).In h → h.Ns mainGlobals mg → mg d.name = some (.ref fa) →
      ∃ fd : FuncData, (∀ (s : Shared) (u : Value), BindsTo s fd ⟨[u], []⟩ [(x, u)]) ∧
        ∀ base : Heap, (K w.params).In base → base.Ns mainGlobals mg → FnOk l.prog w (K w.params) mg base (CX w) k fa fd [x] (sp w))
    (hsp : ∀ (w : World) (H : Hp) (a : Addr) (ns : List Int), ns.length ≤ n → Only H → SqL (K w.params) H a (ns.map V.int) → sp w [.ref a] H (fun v _ => v = .bl true) fun _ _ _ => False)
    (hCX : ∀ (w : World) (H : Hp) (s : Shared) (e : Value) (s' : Shared), CX w [] H s (fun _ _ _ => False) e s' → False) :
    PySem.W.WalkO q loose XP YP l.row.toRowW d [] (fun f vs => PySem.call f vs) := by
  refine Att.attach_call hn hdf fun w s₀ s₁ mg mb fa o pm cd doc a vs ns G Y ho hd hcd hmg hobj hints hlen hg => ?_
  have KX := hY w _ Y
  obtain ⟨fd, hb, hF⟩ := F w mg fa _ KX G.T.g hmg
  exact law_call KX G.T.g G.T.b G.T.builtins G.T.nolimit hg hobj hints (Nat.le_trans hlen hn2) hr hF hb (fun H hO hS => hsp w H a ns hlen hO hS) fun H e s' => hCX w H s₁ e s'
end L2

/- THE LAST THEOREM (shape; LID, My.* are yours):
   My.Adr: a structure of the addresses that your layer names (classes, functions); My.Txt K t: a structure (Prop) of the equations over K;
   My.txt_mk : {K} {implicit addresses ..} (e1 : nsIn K mainGlobals "law" = some (some (.ref f))) (e2 : K.lookup f = some ⟨oc, od, .func (fnOf "law" "law" params body scope dV kV doc pm an cdv ct), sl⟩) (e3 : codeIn K cdv "law" = true) .. : ∃ t, My.Txt K t

set_option maxRecDepth 100000 in
set_option maxHeartbeats 0 in
theorem PySem.Challenge.cw_LID_holds : PySem.Challenge.rw_LID.Holds := by
  w_on; o_law; k_head; (case hw => w_witness2)
  k_fill
  refine L2.walk_of (l := PySem.Challenge.rw_LID) (n := 63) (k := 40) (x := "script") (CX := fun w => ..) (sp := fun _ => My.sp_law) rfl (by decide) rfl ⟨rfl, by decide, by decide⟩ (fun w h Y => PySem.W.kIn_of Y) ?F ?S ?C
  case F =>
    intro w mg fa h KX G hmg
    have T : ∃ t, My.Txt (L2.KOf KX) t := by
      dsimp only [L2.KOf]                          -- K must stand as «<heap const> w.params» for k_is
      refine' My.txt_mk ?e1 ?e2 ?e3 ..
      (case e1 => PySem.W.k_is)                    -- in the order: a name -> its address -> its object -> its parts
      (case e2 => PySem.W.k_is)
      ..
    obtain ⟨t, T⟩ := T
    have e0 := hmg.symm.trans (PySem.W.mg_of KX G T.law)
    cases e0                                       -- fa is the law's own address
    exact ⟨_, fun s u => .of_eq rfl, fun base kb nb => My.law_fn T kb nb⟩     -- if «.of_eq rfl» comes too early: refine' ⟨_, ?b, fun base kb nb => My.law_fn T kb nb⟩; exact fun s u => .of_eq rfl
  case S => exact fun w H a ns hl hO hS => ..
  case C => exact ..
(the tactic k_is has no namespace: write k_is) -/

/-! SHORT WORDS over the layer: a def of the text, its body, what a loop and a test want. -/
namespace L2
open PySem PySem.Spec PyProof.Rows

/-! ### the text by places -/
def defArgs (s : Stmt) : Arguments := match s with
  | .FunctionDef _ a _ _ _ _ _ _ _ _ => a
  | _ => { posonlyargs := [], args := [], vararg := none, kwonlyargs := [], kw_defaults := [], kwarg := none, defaults := [] }
def defBody (s : Stmt) : List Stmt := match s with
  | .FunctionDef _ _ b _ _ _ _ _ _ _ => b
  | _ => []
def defScope (s : Stmt) : Scope := match s with
  | .FunctionDef _ _ _ _ _ _ sc _ _ _ => sc
  | _ => { kind := .function, names := [], isGenerator := false, isCoroutine := false }

/-! ### no exception leaves a def -/
abbrev CX0 : CXT := fun _ _ _ _ _ _ => False
abbrev E0 : XK := fun _ _ _ => False
theorem pass0 {X : Cx} : Passes CX0 X E0 := fun _ _ _ _ _ _ _ h => h.elim

/-! ### a def (or method) of the text as it stands behind the top -/
structure Fun (K : PySem.W.Frag) (x qual : Str) (st : Stmt) (f : Addr) (fd : FuncData) : Prop where
  ex : ∃ (oc : Value) (od : Option Addr) (kV doc pm : Value) (an : Option Addr) (cdv ct : Value) (osl : Array (Option Value)),
    fd = PySem.W.fnOf x qual (defArgs st) (defBody st) (defScope st) .none kV doc pm an cdv ct ∧ K.lookup f = some ⟨oc, od, .func fd, osl⟩ ∧ PySem.W.codeIn K cdv qual = true
  kp : PySem.W.keepIn K (.ref f) = true
section
variable {P : Program} {w : World} {K : PySem.W.Frag} {mg : Str → Option Value} {base : Heap}
/-- THE RULE for a def: its body as a term of rules, and the reading of that term -/
theorem Fun.ok {x qual : Str} {st : Stmt} {f : Addr} {fd : FuncData} {N ps : List Str} {k : Nat} {sp : Sp} (F : Fun K x qual st f fd) (S : FnScope N ps (defScope st)) (len : ∀ vs H Q E, sp vs H Q E → vs.length = ps.length)
    (hbody : ∀ (cdv : Value) (A : Around) (outer : List Env) (s : Shared) (H : Hp) (vs : List V) (Q : VK) (E : XK), Room (k + 1) (A.deeper (envOfC qual (defScope st) s.heap.objs.size f cdv)) → sp vs H Q E →
      ∃ t, PSs (cxOf CX0 P w K mg base N qual (defScope st) f cdv A outer s H E).nox (defBody st) t ∧ t { nx := fun _ H' => Q .non H', rt := Q } (start N vs) H) : FnOk P w K mg base CX0 (k + 2) f fd ps sp := by
  obtain ⟨oc, od, kV, doc, pm, an, cdv, ct, osl, rfl, lk, hcd⟩ := F.ex
  refine fn_of lk hcd S len fun A outer s H vs Q E hr hsp => ?_
  obtain ⟨t, h, q⟩ := hbody cdv A outer s H vs Q E hr hsp
  exact ⟨t, h.nox, q⟩
/-- the same for what may run inside an except suite -/
theorem Fun.okN {x qual : Str} {st : Stmt} {f : Addr} {fd : FuncData} {N ps : List Str} {k : Nat} {sp : Sp} (F : Fun K x qual st f fd) (S : FnScope N ps (defScope st)) (len : ∀ vs H Q E, sp vs H Q E → vs.length = ps.length)
    (hbody : ∀ (cdv : Value) (A : Around) (outer : List Env) (s : Shared) (H : Hp) (vs : List V) (Q : VK) (E : XK), Room k (A.deeper (envOfC qual (defScope st) s.heap.objs.size f cdv)) → sp vs H Q E →
      ∃ t, PSs (cxOfC false CX0 P w K mg base N qual (defScope st) f cdv A outer s H E).nox (defBody st) t ∧ t { nx := fun _ H' => Q .non H', rt := Q } (start N vs) H) : FnOk P w K mg base CX0 (k + 1) f fd ps sp := by
  obtain ⟨oc, od, kV, doc, pm, an, cdv, ct, osl, rfl, lk, hcd⟩ := F.ex
  refine fn_ofC (cm := false) (fun z => nomatch z) lk hcd S len fun A outer s H vs Q E hr hsp => ?_
  obtain ⟨t, h, q⟩ := hbody cdv A outer s H vs Q E hr hsp
  exact ⟨t, h.nox, q⟩
/-- how its arguments bind (no defaults): h is «fun _ _ _ _ _ _ us hl => match us, hl with | [_, _], _ => rfl», one _ a parameter -/
theorem Fun.binds {x qual : Str} {st : Stmt} {f : Addr} {fd : FuncData} {ps : List Str} (F : Fun K x qual st f fd)
    (h : ∀ (kV doc pm : Value) (an : Option Addr) (cdv ct : Value) (us : List Value), us.length = ps.length → bindArgs (PySem.W.fnOf x qual (defArgs st) (defBody st) (defScope st) .none kV doc pm an cdv ct) ⟨us, []⟩ = pure (ps.zip us)) : Binds K fd ps [] := by
  obtain ⟨oc, od, kV, doc, pm, an, cdv, ct, osl, rfl, lk, hcd⟩ := F.ex
  exact .all (h kV doc pm an cdv ct)
theorem fun_mk {x qual : Str} {st : Stmt} {f : Addr} {oc : Value} {od an : Option Addr} {osl : Array (Option Value)} {kV doc pm cdv ct : Value} (l : K.lookup f = some ⟨oc, od, .func (PySem.W.fnOf x qual (defArgs st) (defBody st) (defScope st) .none kV doc pm an cdv ct), osl⟩)
    (c : PySem.W.codeIn K cdv qual = true) (k : PySem.W.keepIn K (.ref f) = true) : Fun K x qual st f (PySem.W.fnOf x qual (defArgs st) (defBody st) (defScope st) .none kV doc pm an cdv ct) := ⟨⟨oc, od, kV, doc, pm, an, cdv, ct, osl, rfl, l, c⟩, k⟩
end
theorem small1000 {n : Nat} (h : n ≤ 1000) : n < sizeLine := Nat.lt_of_le_of_lt h (by decide)

/-! ### expressions in short: the name that stands in the i-th slot -/
section
variable {X : Cx}
theorem pv (i : Nat) {x : Str} {pos : Pos} (hN : X.N[i]? = some x := by rfl) (hv : Vis X.env.scope x := by first | exact Or.inl rfl | exact Or.inr (Or.inl rfl) | exact Or.inr (Or.inr rfl)) (hd : (x == ("__debug__" : Str)) = false := by decide)
    (hcd : (x == ("__classdict__" : Str)) = false := by decide) : PE X (.Name x pos) (tVar i) := pe_var hN hv hd hcd
end

/-! ### tests -/
theorem iteF {A B : Prop} (h : B) : if false = true then A else B := by
  rw [if_neg Bool.false_ne_true]
  exact h
theorem iteT {A B : Prop} (h : A) : if true = true then A else B := by
  rw [if_pos rfl]
  exact h
theorem ite2 {c A B : Prop} [Decidable c] (h1 : c → A) (h2 : ¬ c → B) : if c then A else B := by
  by_cases h : c
  · rw [if_pos h]
    exact h1 h
  · rw [if_neg h]
    exact h2 h
theorem iteNS {c A B : Prop} [Decidable c] (hc : c) (h : B) : if (!decide c) = true then A else B := by
  rw [decide_eq_true hc]
  exact iteF h

/-! ### heaps -/
/-- all that was tracked is as it was -/
def Same (H H' : Hp) : Prop := ∀ b o, H b = some o → H' b = some o
theorem Same.refl (H : Hp) : Same H H := fun _ _ h => h
theorem Same.trans {H H1 H2 : Hp} (a : Same H H1) (b : Same H1 H2) : Same H H2 := fun c o h => b c o (a c o h)
theorem Same.free {H H' : Hp} (e : Same H H') {l : Addr} (h : H' l = Option.none) : H l = Option.none := by
  cases q : H l with
  | none => rfl
  | some o =>
    rw [e l o q] at h
    cases h
theorem Same.seq {K : PySem.W.Frag} {H H' : Hp} {a : Addr} {xs : List V} (e : Same H H') (h : SqL K H a xs) : SqL K H' a xs := by
  rcases h with (h | ⟨o, h⟩) | h
  · exact .inl (.inl (e _ _ h))
  · exact .inl (.inr ⟨o, e _ _ h⟩)
  · exact .inr h

/-! ### a dict's pairs: keys that differ -/
section
variable {κ : Type} [DecidableEq κ]
theorem nd_snoc : ∀ {l : List κ} {k : κ}, l.Nodup → ¬ k ∈ l → (l ++ [k]).Nodup
  | [], k, _, _ => by simp
  | a :: r, k, h, hk => by
    obtain ⟨h1, h2⟩ := List.nodup_cons.mp h
    show (a :: (r ++ [k])).Nodup
    refine List.nodup_cons.mpr ⟨fun m => ?_, nd_snoc h2 fun m => hk (List.mem_cons.mpr (Or.inr m))⟩
    rcases List.mem_append.mp m with q | q
    · exact h1 q
    · exact hk (List.mem_cons.mpr (Or.inl (List.mem_singleton.mp q).symm))
end
/-! ### lists -/
/-- a new instance and its __init__ leave all that was tracked as it was -/
theorem Same.made {H H1 : Hp} {x dx C : Addr} (nx : H x = Option.none) (nd : H dx = Option.none) (k : ∀ b o, (upd (upd H dx (.own x)) x (.ins C dx [])) b = some o → b ≠ x → H1 b = some o) : Same H H1 := fun b o e =>
  k b o (by rw [upd_ne (ne_of_none e nx), upd_ne (ne_of_none e nd)]; exact e) (ne_of_none e nx)
end L2


set_option Elab.async false
set_option linter.all false
set_option maxRecDepth 100000
set_option maxHeartbeats 4000000
namespace PySem.EX
open Sem (wp)
abbrev excObj (C t : Addr) (dx : Option Addr) : Obj := { cls := .ref C, dict := dx, data := .fields #[.ref t, .none, .none, .none, .bool false, .none] }
section
variable {prog : Program} {w : World} {A : Around} {R : Result → Shared → Prop} {h : Heap} {g : Array GenState} {d : Drawn} {t : Nat} {os : OsState}
variable {nm q : Str} {C N : Addr} {bs bm bmB : List Value} {hdct : Bool} {sn : List Str} {sub : List Value} {ab : Bool} {col : Option Bool} {dd : Option Addr} {k0 k1 k2 k3 k5 : Option Value} {B newId initId : String}

theorem checkNewK {M : Model} {E : Value → Shared → Prop} (F : ExcBaseFacts B newId initId bmB) (T : OwnTail h bmB bm) {rest : List Value} {kw : List (Str × Value)} {Q : Unit → Shared → Prop} (hC : h.get? C = some (excClassObj nm q C N bs bm hdct sn sub ab col dd k0 k1 k2 k3 k5 newId))
    (hq : Q () ⟨h, g, d, t, os⟩) : wpAny M A (checkBuiltinCall newId ⟨.ref C :: rest, kw⟩) Q E ⟨h, g, d, t, os⟩ := by
  have hcont : (Value.ref C :: bm).contains (.type B) = true := by rw [List.contains_cons, T.hasType F.hasB, Bool.or_true]
  have hstar := F.noStar
  simp only [checkBuiltinCall, F.newKind, F.newSplit, F.newRow]
  repeat (first | refine wpAny_loadPart_at hC ?_ | (refine wpAny_isSubtype_exc hC ?_; rw [hcont]) | refine wpAny_staticBase_exc hC ?_ | refine wpAny_madeBy_exc hC ?_ | simp only [bne_self_eq_false, Bool.false_eq_true, if_false] | wp_step)
  exact hq

theorem excNewK (F : ExcBaseFacts B newId initId bmB) (T : OwnTail h bmB bm) {rest : List Value} {kw : List (Str × Value)} (hC : h.get? C = some (excClassObj nm q C N bs bm hdct sn sub ab col dd k0 k1 k2 k3 k5 newId))
    (hq : R (.ok (.ret (.ref (h.objs.size + 1)))) ⟨(h.push { cls := .type "tuple", data := .seq rest.toArray }).push (excObj C h.objs.size none), g, d, t, os⟩) (hrest : rest.length ≤ sizeLine := by size_fits) :
    codeAny (model prog w) A (.builtin newId ⟨.ref C :: rest, kw⟩) R ⟨h, g, d, t, os⟩ := by
  have hends := F.ends
  have hcB : (Value.ref C :: bm).contains (.type B) = true := by rw [List.contains_cons, T.hasType F.hasB, Bool.or_true]
  have hcA : (Value.ref C :: bm).contains (.type "AttributeError") = false := by rw [List.contains_cons, T.hasType F.noAttr]; rfl
  have hcN : (Value.ref C :: bm).contains (.type "NameError") = false := by rw [List.contains_cons, T.hasType F.noName]; rfl
  refine codeAny_builtinAt F.entry ?_
  unfold Builtin.«BaseException.__new__»
  refine wpAt_bind ?_
  show wpAt _ _ _ (stack >>= _) _ _ _
  refine wpAt_bind (wpAt_stack fun p below => wpAt_of_wpAny ?_)
  wp_walk
  refine wpAt_of_wpAny ?_
  rw [F.owner]
  repeat (first | with_reducible refine wpAny_madeHere_exc F.canon hC ?_ | with_reducible refine wpAny_loadPart_at hC ?_ | (with_reducible refine wpAny_isSubtype_exc hC ?_; first | rw [hcB] | rw [hcA] | rw [hcN]) | wp_step)
  show R _ _
  rw [Heap.size_push]
  exact hq
end

section
variable {prog : Program} {w : World} {A : Around} {E : Value → Shared → Prop} {h : Heap} {g : Array GenState} {d : Drawn} {t : Nat} {os : OsState}
variable {nm q : Str} {C N : Addr} {bs bm bmB : List Value} {hdct : Bool} {sn : List Str} {sub : List Value} {ab : Bool} {col : Option Bool} {dd : Option Addr} {k0 k1 k2 k3 k5 : Option Value} {B newId initId : String}


theorem checkTypeK {M : Model} {rest : List Value} {kw : List (Str × Value)} {Q : Unit → Shared → Prop} (hC : h.get? C = some (excClassObj nm q C N bs bm hdct sn sub ab col dd k0 k1 k2 k3 k5 newId))
    (hq : Q () ⟨h, g, d, t, os⟩) : wpAny M A (checkBuiltinCall "type.__call__" ⟨.ref C :: rest, kw⟩) Q E ⟨h, g, d, t, os⟩ := by
  have f3 := tc_sub
  have hT : (⟨h, g, d, t, os⟩ : Shared).TypeIs (.ref C) "type" := ⟨_, hC, rfl⟩
  simp only [checkBuiltinCall, tc_kind, tc_split]
  repeat (any_goals (first | assumption | with_reducible refine wpAny_loadPart_at hC ?_ | with_reducible refine wpAny_onRaise ?_ | with_reducible refine wpAny_map ?_ | wp_step))

end
end PySem.EX


set_option Elab.async false
set_option linter.all false
set_option maxRecDepth 100000
set_option maxHeartbeats 4000000
namespace PySem.EX
open Sem (wp)
open PySem.W

/-- what is asked of the base's own __init__ -/
structure InitFacts (B initId : String) : Prop where
  ty : typeOf (.builtin initId) = pure (.type "wrapper_descriptor")
  owner : ".".intercalate (initId.cutAt '.').dropLast = B
  quiet : initId.startsWith "lifetime." = false
theorem init_ValueError : InitFacts "ValueError" "ValueError.__init__" := ⟨by kernel_rfl, by decide +kernel, by decide +kernel⟩
section
variable {prog : Program} {w : World} {M : Model} {A : Around} {E : Value → Shared → Prop} {h : Heap} {g : Array GenState} {d : Drawn} {t : Nat} {os : OsState}
variable {nm q : Str} {C N : Addr} {bs bm bmB : List Value} {hdct : Bool} {sn : List Str} {sub : List Value} {ab : Bool} {col : Option Bool} {dd : Option Addr} {k0 k1 k2 k3 k5 : Option Value} {B newId initId : String}



end
end PySem.EX


set_option Elab.async false
set_option linter.all false
set_option maxRecDepth 100000
set_option maxHeartbeats 4000000
namespace PySem.EX
open Sem (wp)
open PySem.W
open Builtin Builtin.ObjectAttr
/-- what of the text a class of errors must have, for its attributes -/
structure XCls (K : Frag) (C : Addr) : Prop where
  ga : findIn K (.ref C) "__getattribute__" = some (some (.builtin "BaseException.__getattribute__"))
  gt : findIn K (.ref C) "__getattr__" = some none
  be : mroIn K C (.type "BaseException") = some true
  ob : mroIn K C (.type "object") = some true
  hd : hasDictIn K C = true
  sa : findIn K (.ref C) "__setattr__" = some (some (.builtin "object.__setattr__"))
  cl : findIn K (.ref C) "__class__" = some (some (.builtin "object.__class__"))
  cg : specialIn K (.builtin "object.__class__") "__get__" = some (some (.builtin "getset_descriptor.__get__"))
  ct : takesIn K (.builtin "object.__class__") = some true
  rf : ∀ cd, clsIn K C = some cd → ∀ self, refuseLoop self "__setattr__" cd.mro = pure ()
section
variable {prog : Program} {w : World} {A : Around} {E : Value → Shared → Prop} {h : Heap} {g : Array GenState} {d : Drawn} {t : Nat} {os : OsState} {K : Frag} {x C : Addr} {ox : Obj} {od : Option Obj} {name : Str}
theorem gaCheck (c : XCls K C) (X : K.In h) (I : InstAt h x ox C od) {nameV : Value} {Q : Unit → Shared → Prop} (hq : Q () ⟨h, g, d, t, os⟩) :
    wpAny (model prog w) A (checkBuiltinCall "BaseException.__getattribute__" ⟨[.ref x, nameV], []⟩) Q E ⟨h, g, d, t, os⟩ := by
  have hk : builtinKind "BaseException.__getattribute__" = some .slot := by decide +kernel
  have hsplit : splitId "BaseException.__getattribute__" = some ("BaseException", "__getattribute__") := by decide +kernel
  have ha := F.args_bexc_ga (.ref x) nameV
  have L : Looks (model prog w) h (isInstance (.ref x) (.type "BaseException")) true := I.type.andThen (looks_mroIn X c.be)
  exact @check_slot (model prog w) _ _ ⟨h, g, d, t, os⟩ "BaseException.__getattribute__" "BaseException" "__getattribute__" (.ref x) [nameV] [] _ hk hsplit L ha hq
theorem gaBy (c : XCls K C) (X : K.In h) (I : InstAt h x ox C od) {tk : Tok} {fill expr : Bool} {Q : Value → Shared → Prop}
    (hq : wpAny (model prog w) A.in1 (Builtin.«object.__getattribute__» ⟨[.ref x, .str name tk], []⟩) (fun fin s' => match fin with | .done (.ret v) => wpAny (model prog w) A (handedOut v) Q E s' | .done _ => False | .again cc => cc.quiet = true ∧ codeAny (model prog w) A cc (fun r s'' => match r with | .ok (.ret v) => wpAny (model prog w) A (handedOut v) Q E s'' | _ => False) s') (fun _ _ => False) ⟨h, g, d, t, os⟩) :
    wpAny (model prog w) A (getAttrBy (.ref x) (.str name tk) fill expr) Q E ⟨h, g, d, t, os⟩ := by
  have L0 := I.type (M := model prog w)
  have L1 := looks_findIn (M := model prog w) X c.ga
  have L2 := looks_findIn (M := model prog w) X c.gt
  unfold getAttrBy
  refine wpAny_holding (wpAny_bind (L0.at (wpAny_bind (L1.at ?_))))
  show wpAny _ _ (getAttrByItsOwn (.ref x) (.str name tk) (.ref C) (.builtin "BaseException.__getattribute__") fill expr) _ _ _
  unfold getAttrByItsOwn hookBefore callGetattribute boundAndCalled
  refine wpAny_bind ?_
  show wpAny _ _ (typeLookup (.ref C) "__getattr__") _ _ _
  refine L2.at ?_
  refine wpAny_bind (wpAny_attempt (wpAny_holding ?_))
  rw [if_neg (by cases expr <;> decide)]
  refine wpAny_bind (wpAny_of_eq (F.attr_ValueError.ga.bind _) ?_)
  refine wpAny_call (codeAny_call_builtin F.attr_ValueError.ga.plain F.entry_bexc_ga (gaCheck c X I ?_))
  refine wpAny_mono hq (fun fin s' z => ?_) fun _ _ z => z.elim
  rcases fin with (_ | _ | _ | _) | cc
  all_goals first
    | exact z
    | exact z.elim
    | (refine ⟨z.1, codeAny_mono z.2 fun r s'' z2 => ?_⟩
       rcases r with e | (_ | _ | _ | _) <;> first | exact z2 | exact z2.elim)
theorem gaValue (c : XCls K C) (X : K.In h) (I : InstAt h x ox C od) {v : Value} {tk : Tok} {fill expr : Bool} {Q : Value → Shared → Prop} (hf : findObj K C od name = some (.value v)) (hv : handedIn v = true) (hq : Q v ⟨h, g, d, t, os⟩) :
    wpAny (model prog w) A (getAttrBy (.ref x) (.str name tk) fill expr) Q E ⟨h, g, d, t, os⟩ := by
  refine gaBy c X I ?_
  have L0 := I.type (M := model prog w)
  have L1 := looks_find (M := model prog w) X I hf
  refine wpAny_bind (wpAny_pure (wpAny_bind (wpAny_pure (wpAny_bind (L0.at (wpAny_bind (L1.at ?_)))))))
  refine wpAny_pure ?_
  show wpAny _ _ (handedOut v) _ _ _
  rw [handedOut_of hv]; exact wpAny_pure hq
theorem getX (c : XCls K C) (X : K.In h) (I : InstAt h x ox C od) {v : Value} {expr : Bool} {Q : Value → Shared → Prop} (hf : findObj K C od name = some (.value v)) (hv : handedIn v = true) (hq : Q v ⟨h, g, d, t + 1, os⟩) :
    wpAny (model prog w) A (getAttr (.ref x) name expr) Q E ⟨h, g, d, t, os⟩ := by
  unfold getAttr
  exact wpAny_bind (wpAny_mkText (gaValue c X I hf hv hq))
theorem classX (c : XCls K C) (X : K.In h) (I : InstAt h x ox C od) {Q : Option Value → Shared → Prop} (hq : Q (some (.ref C)) ⟨h, g, d, t + 1, os⟩) :
    wpAny (model prog w) A (getAttr? (.ref x) "__class__") Q E ⟨h, g, d, t, os⟩ := by
  have hf : findObj K C od "__class__" = some (.bind (.builtin "getset_descriptor.__get__") (.builtin "object.__class__")) := by
    obtain ⟨cd, hc, _⟩ := any_some c.hd
    unfold findObj
    rw [hc, Option.bind_some, c.cl, Option.bind_some]
    dsimp only
    rw [c.cg, Option.bind_some]
    dsimp only
    rw [c.ct, Option.bind_some]
  unfold getAttr? getAttrBy?
  refine wpAny_bind (wpAny_mkText (wpAny_bind (wpAny_attempt (gaBy c X I ?_))))
  have L0 := I.type (M := model prog w)
  have L1 := looks_find (M := model prog w) X I hf
  refine wpAny_bind (wpAny_pure (wpAny_bind (wpAny_pure (wpAny_bind (L0.at (wpAny_bind (L1.at ?_)))))))
  show wpAny _ _ (bindTo (.builtin "getset_descriptor.__get__") (.builtin "object.__class__") (.ref x) (.ref C)) _ _ _
  unfold bindTo
  dsimp only
  refine wpAny_bind (wpAny_holding (wpAny_call (class_get (s := ⟨h, g, d, t + 1, os⟩) X I c.ob ?_)))
  refine wpAny_pure ?_
  show wpAny _ _ (handedOut (.ref C)) _ _ _
  rw [handedOut_of rfl]
  exact wpAny_pure (wpAny_pure hq)
theorem kitX (c : XCls K C) : KitX K (.ref x) (.ref C) (fun h => ∃ ox od, InstAt h x ox C od) where
  ty := fun _ _ _ ⟨_, _, I⟩ => I.type
  it := fun _ _ X _ => by
    obtain ⟨cdD, hcD, _⟩ := any_some c.hd
    unfold clsIn at hcD
    split at hcD
    · rename_i c' d' cd' sl' ho
      intro A' Q' E' s' k q
      unfold isType loadHead
      exact wpAny_bind (wpAny_loadPart (k _ _ (X _ _ ho)) (wpAny_pure q))
    · cases hcD
  ne := fun h tp dd its n sl X htp => by
    obtain ⟨cdD, hcD, _⟩ := any_some c.hd
    refine Bool.eq_false_iff.mpr fun q => ?_
    have e : C = tp := Value.ref.inj (beq_iff_eq.mp q)
    subst e
    unfold clsIn at hcD
    split at hcD
    · rename_i c' d' cd' sl' ho
      have z := (X _ _ ho).symm.trans htp
      cases z
    · cases hcD
  ca := fun {_ _ _ _ _ s} X ⟨_, _, I⟩ k => by
    obtain ⟨h, g, d, t, os⟩ := s
    exact classX c X I k


end
end PySem.EX


set_option Elab.async false
set_option linter.all false
set_option maxRecDepth 100000
set_option maxHeartbeats 4000000
namespace L2
open PySem PySem.Spec PyProof.Rows
/-- an error of the class at C, its dict at dx where it has one -/
def XO (e C : Addr) (dx : Option Addr) : HO := .ext fun h => ∃ t, h.get? e = some (EX.excObj C t dx)
/-- the dict of an error -/
def XD (d : Addr) (fs : List (Str × V)) : HO := .ext fun h => ∃ mA, h.Ns1 d mA ∧ (∀ f, RelO (fs.lookup f) (mA f)) ∧ PySem.Within mA (fs.map (·.1))
section
variable {P : Program} {w : World} {H : Hp} {h : Heap} {e C d : Addr} {dx : Option Addr} {fs : List (Str × V)}
theorem xo_ok {t : Addr} (g : h.get? e = some (EX.excObj C t dx)) : ObjOk P w H h e (XO e C dx) :=
  ⟨⟨t, g⟩, ⟨_, g⟩, fun h1 h2 ⟨t1, g1⟩ k => ⟨t1, k _ g1⟩⟩
theorem xo_get (ok : HOk P w H h) (q : H e = some (XO e C dx)) : ∃ t, h.get? e = some (EX.excObj C t dx) := (ok e _ q).1
theorem xd_get (ok : HOk P w H h) (q : H d = some (XD d fs)) : ∃ mA, h.Ns1 d mA ∧ (∀ f, RelO (fs.lookup f) (mA f)) ∧ PySem.Within mA (fs.map (·.1)) := (ok d _ q).1
end
section
variable {X : Cx} {pins : List (Addr × Obj)} {σ : St} {H : Hp} {s : Shared} {h' : Heap} {e d : Addr} {oE oD : HO}
end
/-- the decider: a class of errors, straight or not under a built-in one; ini: its own __init__ -/
def xin (K : PySem.W.Frag) (C : Addr) (bmB : List Value) (newId : String) (ini : Option Addr) : Bool := match K.lookup C with
  | some ⟨.type "type", _, .cls cd, sl⟩ => (match cd.mro, sl.toList with
    | .ref C' :: bm, [_, _, _, _, some (.builtin n), _] => C' == C && n == newId && !cd.hasDel && PySem.W.tailIn K bmB bm && PySem.W.nsOkIn K cd.ns && PySem.W.nsIn K cd.ns "__init__" == some (ini.map .ref)
    | _, _ => false)
  | _ => false
theorem ns_some_of {K : PySem.W.Frag} {h : Heap} {N : Addr} {mg : Str → Option Value} {n : Str} {r : Option Value} (X : K.In h) (G : h.Ns N mg) (e : PySem.W.nsIn K N n = some r) : mg n = r := by
  obtain ⟨o, es, ep, ho, hd, _, hf⟩ := G
  unfold PySem.W.nsIn at e
  split at e
  · rename_i c d es' n' sl q
    have := X _ _ q
    rw [ho] at this
    cases this
    cases hd
    rw [← hf]
    unfold nsFind findBy
    rw [← Array.find?_toList]
    split at e
    · rename_i en he
      cases e
      rw [he]
      rfl
    · rename_i he
      rw [he]
      split at e
      · cases e
      · cases e; rfl
  · cases e
theorem xin_of {K : PySem.W.Frag} {h : Heap} {C : Addr} {bmB : List Value} {newId : String} {ini : Option Addr} (X : K.In h) (q : xin K C bmB newId ini = true) :
    ∃ bm ns nm qn bs hd sn sub ab col dd k0 k1 k2 k3 k5 mN, h.get? C = some (excClassObj nm qn C ns bs bm hd sn sub ab col dd k0 k1 k2 k3 k5 newId) ∧ h.Ns ns mN ∧ mN "__init__" = ini.map .ref ∧ OwnTail h bmB bm := by
  unfold xin at q
  split at q
  · rename_i dd cd sl ho
    split at q
    · rename_i C' bm k0 k1 k2 k3 n k5 hm hs
      simp only [Bool.and_eq_true, beq_iff_eq, Bool.not_eq_true'] at q
      obtain ⟨⟨⟨⟨⟨rfl, rfl⟩, hdel⟩, ht⟩, hok⟩, hni⟩ := q
      obtain ⟨nm, bs, mro, ns, qn, hd, sn, sub, ab, col, del⟩ := cd
      dsimp only at hm hdel hok hni
      subst hm hdel
      have hsl : sl = #[k0, k1, k2, k3, some (.builtin n), k5] := by
        obtain ⟨l⟩ := sl
        simp only at hs
        rw [hs]
      subst hsl
      have G : h.Ns ns (h.nsMap ns) := .of_isNs (PySem.W.isNs_of_in X hok)
      exact ⟨bm, ns, nm, qn, bs, hd, sn, sub, ab, col, dd, k0, k1, k2, k3, k5, _, X _ _ ho, G, ns_some_of X G hni, PySem.W.tail_of_in X ht⟩
    · cases q
  · cases q
/-- what is asked of a class of errors -/
structure XMk (K : PySem.W.Frag) (C : Addr) (ini : Option Addr) (B newId initId : String) (bmB : List Value) : Prop where
  F : ExcBaseFacts B newId initId bmB
  FI : EX.InitFacts B initId
  inn : xin K C bmB newId ini = true
  cl : EX.XCls K C
  kp : PySem.W.keepIn K (.ref C) = true
  fn : ∀ f, ini = some f → PySem.W.isFn K (.ref f) = true
section
variable {X : Cx} {CX : CXT} {k : Nat} {f C : Addr} {fd : FuncData} {ps : List Str} {sp : Sp} {dvs : List V} {ds : List Value} {E : XK} {x : Str} {p pos : Pos} {e : Expr} {es : List Expr} {t : TA} {B newId initId : String} {bmB : List Value}
end
end L2


set_option Elab.async false
set_option linter.all false
set_option maxRecDepth 100000
set_option maxHeartbeats 4000000
namespace PySem.EX
open Sem (wp)
section
variable {prog : Program} {w : World} {A : Around} {E : Value → Shared → Prop} {h : Heap} {g : Array GenState} {d : Drawn} {t : Nat} {os : OsState}
variable {nm q : Str} {C N : Addr} {bs bm bmB : List Value} {hdct : Bool} {sn : List Str} {sub : List Value} {ab : Bool} {col : Option Bool} {dd : Option Addr} {k0 k1 k2 k3 k5 : Option Value} {B newId initId : String}
/-- C() of an error class without an __init__ of its own: where the new one stands -/
theorem typeCallN (F : ExcBaseFacts B newId initId bmB) (T : OwnTail h bmB bm) {mN : Str → Option Value} {rest : List Value} {Q : Fin → Shared → Prop}
    (hC : h.get? C = some (excClassObj nm q C N bs bm hdct sn sub ab col dd k0 k1 k2 k3 k5 newId)) (hn : h.Ns N mN) (hi : mN "__init__" = none)
    (hq : ∀ h', h'.get? (h.objs.size + 1) = some (excObj C (h.objs.size + 2) none) → (∀ b o, h.get? b = some o → h'.get? b = some o) → Q (.done (.ret (.ref (h.objs.size + 1)))) ⟨h', g, d, t, os⟩) (hrest : rest.length ≤ sizeLine := by size_fits) :
    wpAny (model prog w) A (Builtin.«type.__call__» ⟨.ref C :: rest, []⟩) Q E ⟨h, g, d, t, os⟩ := by
  repeat (first | with_reducible refine wpAny_loadPart_at hC ?_ | with_reducible refine wpAny_madeBy_exc hC ?_ | wp_step)
  refine codeAny_call_builtin_code (Code.quiet_builtin _ F.quiet) (checkNewK F T hC ?_)
  refine excNewK F T hC ?_ hrest
  show wpAny _ _ _ _ _ _
  have up : ∀ b o, h.get? b = some o → ((h.push { cls := .type "tuple", data := .seq rest.toArray }).push (excObj C h.objs.size none)).get? b = some o := fun b o z => Heap.get?_push_of_some _ (Heap.get?_push_of_some _ z)
  have hC₁ := up _ _ hC
  have hn₁ : ((h.push { cls := .type "tuple", data := .seq rest.toArray }).push (excObj C h.objs.size none)).Ns N mN :=
    let ⟨o, es, ep, e, r⟩ := hn; ⟨o, es, ep, up _ _ e, r⟩
  have hget : ((h.push { cls := .type "tuple", data := .seq rest.toArray }).push (excObj C h.objs.size none)).get? (h.objs.size + 1) = some (excObj C h.objs.size none) := by heap_get
  have hcC : (Value.ref C :: bm).contains (.ref C) = true := by simp
  have T₁ := T.keeps up
  unfold isInstance
  repeat (first | with_reducible refine wpAny_loadPart_at hget ?_ | (with_reducible refine wpAny_isSubtype_exc hC₁ ?_; rw [hcC]) | wp_step)
  show wpAny _ _ (typeLookup (.ref C) _) _ _ _
  refine wpAny_typeLookup_tail hC₁ hn₁ T₁ F.mroIs F.init.lookup ?_
  rw [hi]
  refine wpAny_holding (wpAny_bind (wpAny_of_eq (F.init.bind _) ?_))
  refine wpAny_bind (wpAny_call (codeAny_call_builtin F.init.plain F.initEntry (wpAny_check_init_subT F T₁ hC₁ hget rfl ?_)))
  wp_walk
  refine hq _ ?_ fun b o hb => ?_
  · rw [Heap.get?_update_self _ (Heap.get?_push_of_some _ hget) rfl]
    simp only [Heap.size_push]
    rfl
  · rw [Heap.get?_update_other _ _ (Nat.ne_of_gt (Nat.lt_succ_of_lt (Heap.lt_size hb)))]
    exact Heap.get?_push_of_some _ (up b o hb)
theorem callN (F : ExcBaseFacts B newId initId bmB) (T : OwnTail h bmB bm) {mN : Str → Option Value} {rest : List Value} {Q : Value → Shared → Prop}
    (hC : h.get? C = some (excClassObj nm q C N bs bm hdct sn sub ab col dd k0 k1 k2 k3 k5 newId)) (hn : h.Ns N mN) (hi : mN "__init__" = none)
    (hq : ∀ h', h'.get? (h.objs.size + 1) = some (excObj C (h.objs.size + 2) none) → (∀ b o, h.get? b = some o → h'.get? b = some o) → Q (.ref (h.objs.size + 1)) ⟨h', g, d, t, os⟩) (hrest : rest.length ≤ sizeLine := by size_fits) :
    wpAny (model prog w) A (call (.ref C) rest) Q E ⟨h, g, d, t, os⟩ := by
  have f1 := tc_lookup
  have f2 := tc_bind (.ref C)
  have hT : (⟨h, g, d, t, os⟩ : Shared).TypeIs (.ref C) "type" := ⟨_, hC, rfl⟩
  refine wpAny_call (codeAny_of_tree ?_)
  show wpAny _ _ (callAny (.ref C) _) _ _ _
  repeat (any_goals (first | assumption | with_reducible refine wpAny_loadPart_at hC ?_ | wp_step))
  refine ⟨rfl, ?_⟩
  refine codeAny_call_builtin_at (Code.quiet_builtin _ (by decide +kernel)) entry_typeCall (checkTypeK hC (typeCallN (hrest := hrest) F T hC hn hi ?_))
  exact hq
end
end PySem.EX
namespace L2
open PySem PySem.Spec PyProof.Rows
def tMakeX0 (C : Addr) : TE := fun σ H Q => ∀ x, H x = none → Q (.ref x) (upd H x (XO x C none))
section
variable {X : Cx} {CX : CXT} {k : Nat} {f C : Addr} {fd : FuncData} {ps : List Str} {sp : Sp} {dvs : List V} {ds : List Value} {E : XK} {x : Str} {p pos : Pos} {e : Expr} {es : List Expr} {t tk : TA} {B newId initId : String} {bmB : List Value} {kws : List Keyword} {ks : List Str}
/-- an error whose class has no __init__ of its own -/
theorem pe_makeX0 (M : XMk X.K C none B newId initId bmB) (hg : Gl X x) (hm : X.mg x = some (.ref C)) (hdb : (x == ("__debug__" : Str)) = false := by decide) : PE X (.Call (.Name x p) [] [] pos) (tMakeX0 C) := by
  intro pins s σ H Q I h
  refine wpAny_Call_Name_kw (ld_glob I hg hm ?_ hdb)
  obtain ⟨bm, ns, nm, qn, bs, hd, sn, sub, ab, col, dd, k0, k1, k2, k3, k5, mN, hC, hN, hi, T⟩ := xin_of I.kIn M.inn
  refine PySem.W.callWith_K0 I.kIn M.kp ?_
  obtain ⟨hh, g, d, tk, os⟩ := s
  refine EX.callN (rest := []) (hrest := Nat.zero_le _) M.F T hC hN hi fun h' g1 kp => ?_
  exact ⟨.ref _, _, I.laid (t' := tk) kp (Nat.le_succ _) (xo_ok g1), rfl, h _ (I.hok.fresh (Nat.le_succ _))⟩
end
end L2


set_option Elab.async false
set_option linter.all false
set_option maxRecDepth 100000
set_option maxHeartbeats 4000000
namespace L2
open PySem PySem.Spec PyProof.Rows
section
variable {X : Cx} {pins : List (Addr × Obj)} {σ : St} {H : Hp} {s : Shared} {a C d : Addr} {dx : Option Addr} {fs : List (Str × V)} {f : Str} {v : V} {A : Around} {E : Value → Shared → Prop}
end
section
variable {X : Cx} {pins : List (Addr × Obj)} {σ : St} {H : Hp} {s : Shared} {A : Around} {E : Value → Shared → Prop} {Q : Value → Shared → Prop} {c : Value} {b : Bool}
/-- a class as a value -/
def clsV : V → Value → Prop
  | .ref C, u => u = .ref C
  | .ty n, u => u = .type n
  | _, _ => False
/-- what isinstance looks at -/
inductive TyX (K : PySem.W.Frag) (H : Hp) : V → Value → Prop where
  | old {x : V} {t : Value} (h : TyOf K H x t) : TyX K H x t
  | exc {a C : Addr} {dx : Option Addr} (e : H a = some (XO a C dx)) (hd : ∀ d, dx = some d → ∃ fs, H d = some (XD d fs)) (cl : EX.XCls K C) : TyX K H (.ref a) (.ref C)
end
end L2


set_option Elab.async false
set_option linter.all false
set_option maxRecDepth 100000
set_option maxHeartbeats 4000000
namespace L2
open PySem PySem.Spec PyProof.Rows
/-- what a field of a text may hold here -/
def Fmt (H : Hp) (v : V) : Prop := (∃ i : Int, v = .int i ∧ i.natAbs < 10 ^ 40) ∨ ∃ (a : Addr) (ns : List Int), v = .ref a ∧ H a = some (.tup (ns.map V.int)) ∧ ns.length ≤ 300 ∧ ∀ n ∈ ns, n.natAbs < 10 ^ 40
theorem log_small {n : Nat} (h : n < 10 ^ 40) : n.log2 < 140 := by
  by_cases z : n = 0
  · subst z; decide
  · exact (Nat.log2_lt z).mpr (Nat.lt_of_lt_of_le h (by decide))
section
variable {X : Cx} {pins : List (Addr × Obj)} {σ : St} {H : Hp} {s : Shared} {k : Nat}
/-- the parts of an f-string, the sum of their lengths at the most -/
inductive FParts (X : Cx) : List Expr → Nat → (St → Hp → (Hp → Prop) → Prop) → Prop where
  | nil : FParts X [] 0 fun _ H Q => Q H
  | txt {x : Str} {j : Nat} {pos : Pos} {es : List Expr} {n : Nat} {t : St → Hp → (Hp → Prop) → Prop} : FParts X es n t → FParts X (.Constant (.str x) j pos :: es) (x.length + n) t
  | fld {e : Expr} {te : TE} {pos : Pos} {es : List Expr} {n : Nat} {t : St → Hp → (Hp → Prop) → Prop} : PE X e te → FParts X es n t → FParts X (.FormattedValue e (-1) none pos :: es) (2000000 + n) fun σ H Q => te σ H fun v H1 => Fmt H1 v ∧ t σ H1 Q
end
end L2


set_option Elab.async false
set_option linter.all false
set_option maxRecDepth 100000
set_option maxHeartbeats 4000000
namespace L2
open PySem PySem.Spec PyProof.Rows
/-- names of a method that speaks of super() -/
structure SupScope (N P : List Str) (sc : Scope) : Prop where
  kind : sc.kind = .function
  co : sc.isCoroutine = false
  gen : sc.isGenerator = false
  nd : N.Nodup
  pre : N.take P.length = P
  par : ∀ x ∈ P, sc.names.lookup x = some .local
  nocell : ∀ y ∈ sc.names, y.2 ≠ .cell
  onefree : ∀ y ∈ sc.names, y.2 = .free → y.1 = "__class__"
  sup : sc.names.lookup ("super" : Str) = some .globalImplicit
  cls : sc.names.lookup ("__class__" : Str) = some .free
end L2


set_option Elab.async false
set_option linter.all false
set_option maxRecDepth 100000
set_option maxHeartbeats 400000
namespace L2
open PySem PySem.Spec PyProof.Rows
theorem upd_self {H : Hp} {a : Addr} {o : HO} (h : H a = some o) : upd H a o = H := by
  funext b
  unfold upd
  split
  · rename_i e; rw [e, h]
  · rfl
/-- what of the text is asked for super().__init__ in the __init__ at f of the class at C -/
structure SupFacts (P : Program) (K : PySem.W.Frag) (mg : Str → Option Value) (C f cda cc : Addr) (fd : FuncData) (me : Str) (B initId : String) : Prop where
  fn : ∃ oc od osl, K.lookup f = some ⟨oc, od, .func fd, osl⟩
  par : ∃ ar, (fd.params.posonlyargs ++ fd.params.args).head? = some ar ∧ ar.arg = me
  code : ∃ ccl cdd vs ccs file tf, K.lookup cda = some ⟨ccl, cdd, .fields vs, ccs⟩ ∧ vs[2]? = some (.str file tf) ∧ ((P.main.file : Str) == file) = true
  cell : ∃ cl cld csl, K.lookup cc = some ⟨cl, cld, .cell (some (.ref C)), csl⟩
  cls : ∃ cd, PySem.W.clsIn K C = some cd
  sub : PySem.W.mroIn K C (.ref C) = some true
  subB : PySem.W.mroIn K C (.type B) = some true
  mgs : mg "super" = none
  top : (P.main.scope.names.lookup ("super" : Str)).isSome = false
  ini : PySem.W.ks_superIn K C C "__init__" = some (some (.builtin initId))
  opq : PySem.W.nsIn K cStatics "thirdparty.any" = some none
section
variable {CX : CXT} {P : Program} {w : World} {K : PySem.W.Frag} {mg : Str → Option Value} {base : Heap} {N ps : List Str} {qual me : Str} {scope : Scope} {f cda cc C e : Addr} {A : Around} {outer : List Env} {s0 s : Shared} {H0 H : Hp} {E : XK} {fd : FuncData} {B newId initId : String} {bmB : List Value} {dx : Option Addr} {body : List Stmt} {p0 p1 apos pos epos : Pos} {arg : Expr} {te : TE} {pins : List (Addr × Obj)} {σ : St} {W : Hp → Prop}
end
end L2


set_option Elab.async false
set_option linter.all false
set_option maxRecDepth 100000
set_option maxHeartbeats 400000
namespace L2
open PySem PySem.Spec PyProof.Rows
end L2


set_option Elab.async false
set_option linter.all false
set_option maxRecDepth 100000
set_option maxHeartbeats 1000000
namespace L2
open PySem PySem.Spec PyProof.Rows
/-! ### an error that was raised: its record and the entry of its trace -/
def Rec (h : Heap) (e C : Addr) (dx : Option Addr) (vs : Array Value) : Prop := ∃ o, h.get? e = some o ∧ o.cls = .ref C ∧ o.dict = dx ∧ o.data = .fields vs
def Trc (h : Heap) (T : Addr) (fl : Value) : Prop := ∃ o ts, h.get? T = some o ∧ o.data = .fields ts ∧ ts[3]? = some fl
/-- a raised error of the class at C, its dict at dx where it has one -/
def XR (e C : Addr) (dx : Option Addr) : HO := .ext fun h => ∃ vs, Rec h e C dx vs
theorem xr_ok {P : Program} {w : World} {H : Hp} {h : Heap} {e C : Addr} {dx : Option Addr} {vs : Array Value} (r : Rec h e C dx vs) : ObjOk P w H h e (XR e C dx) := by
  obtain ⟨o, g, q⟩ := id r
  exact ⟨⟨vs, r⟩, ⟨o, g⟩, fun h1 h2 ⟨v1, o1, g1, q1⟩ k => ⟨v1, o1, k _ g1, q1⟩⟩
theorem xr_get {P : Program} {w : World} {H : Hp} {h : Heap} {e C : Addr} {dx : Option Addr} (ok : HOk P w H h) (q : H e = some (XR e C dx)) : ∃ vs, Rec h e C dx vs := (ok e _ q).1
theorem dict_mapF {o : Obj} {vs : Array Value} (hd : o.data = .fields vs) (f : Array Value → Array Value) : (o.mapFields f).dict = o.dict := by
  obtain ⟨c, d, dt, sl⟩ := o
  cases hd
  rfl
theorem rec_map {h : Heap} {e C : Addr} {dx : Option Addr} {vs : Array Value} (r : Rec h e C dx vs) (f : Array Value → Array Value) : Rec (h.update e (Obj.mapFields f)) e C dx (f vs) := by
  obtain ⟨o, g, hc, hdx, hd⟩ := r
  have hd2 := Obj.data_mapFields hd f
  exact ⟨_, Heap.get?_update_self _ g (Obj.isFreed_of_fields hd2), (Obj.cls_mapFields _ _).trans hc, (dict_mapF hd f).trans hdx, hd2⟩
theorem trc_map {h : Heap} {T : Addr} {fl v : Value} (r : Trc h T fl) : Trc (h.update T (Obj.mapFields (·.setIfInBounds 3 v))) T v := by
  obtain ⟨o, ts, g, hd, h3⟩ := r
  have hd2 := Obj.data_mapFields hd (·.setIfInBounds 3 v)
  have := (Array.getElem?_eq_some_iff.mp h3).1
  exact ⟨_, _, Heap.get?_update_self _ g (Obj.isFreed_of_fields hd2), hd2, by simp [this]⟩
/-- what an entry leaves -/
structure Note (fr : List Addr) (h h' : Heap) (e C : Addr) (dx : Option Addr) (old : List Addr) (fl : Value) : Prop where
  keep : ∀ b o, b ∉ fr → b ≠ e → b ∉ old → h.get? b = some o → h'.get? b = some o
  slot : ∀ b o, b ∈ fr → h.get? b = some o → ∃ sl, h'.get? b = some { o with slots := sl }
  there : ∀ b o, h.get? b = some o → ∃ o', h'.get? b = some o'
  rc : ∃ vs T, Rec h' e C dx vs ∧ vs[1]? = some (.ref T) ∧ h.objs.size ≤ T ∧ Trc h' T fl
section
variable {M : Model} {A : Around} {E : Value → Shared → Prop} {s : Shared} {base : Heap} {env : Env} {outer : List Env} {L e C : Addr} {dx : Option Addr} {vs : Array Value}
theorem there_update {h : Heap} {a b : Addr} {o ob : Obj} {ws : Array Value} {f : Array Value → Array Value} (ga : h.get? a = some o) (hd : o.data = .fields ws) (g : h.get? b = some ob) : ∃ o', (h.update a (Obj.mapFields f)).get? b = some o' := by
  by_cases z : b = a
  · subst z
    exact ⟨_, Heap.get?_update_self _ ga (Obj.isFreed_of_fields (Obj.data_mapFields hd f))⟩
  · exact ⟨ob, (Heap.get?_update_other _ _ (Ne.symm z)).trans g⟩
theorem nofr {h : Heap} {b : Addr} {o : Obj} {ws : Array Value} {l : List Env} (hl : h.FunFrames base l) (g : h.get? b = some o) (hd : o.data = .fields ws) : b ∉ frs l := fun hm => by
  obtain ⟨_, o', ho, hn⟩ := hl.mem hm
  rw [g] at ho
  cases ho
  exact hn ws hd
theorem entry_ok {head : Value} {had : Bool} {Q : Unit → Shared → Prop} (hfr : A.frames = some (env :: outer)) (hl : s.heap.FunFrames base (env :: outer)) (hf : env.frame = some L) (r : Rec s.heap e C dx vs) (hz : 1 < vs.size)
    (h : ∀ h', Note (frs (env :: outer)) s.heap h' e C dx [] (rawInt L) → Q () { s with heap := h' }) :
    wpAny M A (do let fv ← frameOf env; let pl ← entryPlaceOf L had; let nv ← EntryCells.newEntry head fv .none (rawInt L) .none pl; setField (.ref e) 1 nv) Q E s := by
  obtain ⟨o, g, hc, hdx, hd⟩ := id r
  have ne := nofr hl g hd
  refine wpAny_bind (wpAny_frameOf_fun hfr hl hf fun h1 s1 => ?_)
  refine wpAny_bind (wpAny_entryPlaceOf fun pl hpl => ?_)
  unfold EntryCells.newEntry newFields
  refine wpAny_bind (wpAny_newObj_type ?_ (hpl.sizeOk5 _ _ _ _ _))
  have g1 : h1.get? e = some o := (s1.2.1 e ne).trans g
  have hsz : h1.objs.size = s.heap.objs.size := s1.1
  generalize hT : ({ cls := .type "traceback", dict := none, data := .fields ([head, .ref L, .none, rawInt L, .none] ++ (if pl.isEmpty then List.replicate 6 Value.none else pl)).toArray } : Obj) = oT
  have g2 := Heap.get?_push_of_some (h := h1) oT g1
  refine wpAny_setField g2 hd hz (h _ ?_)
  have dT : oT.data = .fields ([head, .ref L, .none, rawInt L, .none] ++ (if pl.isEmpty then List.replicate 6 Value.none else pl)).toArray := by rw [← hT]
  have nT : h1.objs.size ≠ e := Nat.ne_of_gt (Heap.lt_size g1)
  have gT : (h1.push oT).get? h1.objs.size = some oT := Heap.get?_push_size h1 (by rw [← hT]; rfl)
  refine ⟨fun b ob hb hbe _ q => ?_, fun b ob hb q => ?_, fun b ob q => ?_, ?_⟩
  · rw [Heap.get?_update_other _ _ (Ne.symm hbe)]
    exact Heap.get?_push_of_some _ ((s1.2.1 b hb).trans q)
  · obtain ⟨sl, q1⟩ := s1.2.2 b ob q
    refine ⟨sl, ?_⟩
    rw [Heap.get?_update_other _ _ fun z => ne (by rw [z]; exact hb)]
    exact Heap.get?_push_of_some _ q1
  · obtain ⟨sl, q1⟩ := s1.2.2 b ob q
    exact there_update g2 hd (Heap.get?_push_of_some _ q1)
  · refine ⟨_, h1.objs.size, rec_map ⟨o, g2, hc, hdx, hd⟩ _, by simp [hz], by rw [hsz]; exact Nat.le_refl _, oT, _, (Heap.get?_update_other _ _ (Ne.symm nT)).trans gT, dT, ?_⟩
    first | (simp; done) | (rcases hpl with rfl | ⟨_, _, _, _, _, _, _, rfl⟩ <;> simp)
/-- the first entry -/
theorem note_first {Q : Unit → Shared → Prop} (hfr : A.frames = some (env :: outer)) (hl : s.heap.FunFrames base (env :: outer)) (hf : env.frame = some L) (r : Rec s.heap e C dx vs) (h1 : vs[1]? = some .none)
    (h : ∀ h', Note (frs (env :: outer)) s.heap h' e C dx [] (rawInt L) → Q () { s with heap := h' }) : wpAny M A (noteFrame (.ref e) env) Q E s := by
  obtain ⟨o, g, hc, hdx, hd⟩ := id r
  unfold noteFrame
  simp only [hf]
  refine wpAny_bind (wpAny_field g hd h1 ?_)
  rw [if_neg (by decide)]
  exact entry_ok hfr hl hf r (Array.getElem?_eq_some_iff.mp h1).1 h
/-- a further entry -/
theorem note_next {T : Addr} {Q : Unit → Shared → Prop} (hfr : A.frames = some (env :: outer)) (hl : s.heap.FunFrames base (env :: outer)) (hf : env.frame = some L) (r : Rec s.heap e C dx vs) (h1 : vs[1]? = some (.ref T)) (t : Trc s.heap T .none) (hne : T ≠ e)
    (h : ∀ h', Note (frs (env :: outer)) s.heap h' e C dx [T] (rawInt L) → Q () { s with heap := h' }) : wpAny M A (noteFrame (.ref e) env) Q E s := by
  obtain ⟨o, g, hc, hdx, hd⟩ := id r
  obtain ⟨oT, ts, gT, dT, h3⟩ := id t
  have nT := nofr hl gT dT
  unfold noteFrame
  simp only [hf]
  refine wpAny_bind (wpAny_field g hd h1 ?_)
  rw [if_pos (show (Value.ref T != Value.none) = true from by simp)]
  refine wpAny_bind (wpAny_field gT dT h3 ?_)
  rw [if_neg (show ¬ ((Value.none == rawInt L) = true) from by simp [rawInt])]
  refine wpAny_bind (wpAny_setField gT dT (Array.getElem?_eq_some_iff.mp h3).1 ?_)
  have other : ∀ b, b ≠ T → (s.heap.update T (Obj.mapFields (·.setIfInBounds 3 Value.none))).get? b = s.heap.get? b := fun b hb => Heap.get?_update_other _ _ (Ne.symm hb)
  have hl2 : (s.heap.update T (Obj.mapFields (·.setIfInBounds 3 Value.none))).FunFrames base (env :: outer) := hl.of_keeps fun b ob q hn => ⟨ob, (other b fun z => by
    subst z
    rw [gT] at q
    cases q
    exact hn ts dT).trans q, rfl⟩
  refine entry_ok (s := { s with heap := s.heap.update T (Obj.mapFields (·.setIfInBounds 3 Value.none)) }) hfr hl2 hf ⟨o, (other e (Ne.symm hne)).trans g, hc, hdx, hd⟩ (Array.getElem?_eq_some_iff.mp h1).1 fun h' n => h h' ⟨fun b ob hb hbe hbo q => ?_, fun b ob hb q => ?_, fun b ob q => ?_, ?_⟩
  · exact n.keep b ob hb hbe (fun z => nomatch z) ((other b fun z => hbo (by simp [z])).trans q)
  · exact n.slot b ob hb ((other b fun z => nT (z ▸ hb)).trans q)
  · obtain ⟨o', q'⟩ := there_update (f := (·.setIfInBounds 3 Value.none)) gT dT q
    exact n.there b o' q'
  · obtain ⟨vs', T', r', h1', hz, t'⟩ := n.rc
    exact ⟨vs', T', r', h1', by simpa using hz, t'⟩
/-- the entry stands no more for a frame in which the error flies -/
theorem lands {T : Addr} {fl : Value} {Q : Unit → Shared → Prop} (r : Rec s.heap e C dx vs) (h1 : vs[1]? = some (.ref T)) (t : Trc s.heap T fl) (hne : T ≠ e)
    (h : ∀ h', (∀ b o, b ≠ T → s.heap.get? b = some o → h'.get? b = some o) → Rec h' e C dx vs → Trc h' T .none → Q () { s with heap := h' }) : wpAny M A (setFlight (.ref e) none) Q E s := by
  obtain ⟨o, g, hc, hdx, hd⟩ := id r
  obtain ⟨oT, ts, gT, dT, h3⟩ := id t
  unfold setFlight
  refine wpAny_bind (wpAny_field g hd h1 ?_)
  rw [if_pos (show (Value.ref T != Value.none) = true from by simp)]
  refine wpAny_setField gT dT (Array.getElem?_eq_some_iff.mp h3).1 (h _ (fun b ob hb q => (Heap.get?_update_other _ _ (Ne.symm hb)).trans q) ⟨o, (Heap.get?_update_other _ _ hne).trans g, hc, hdx, hd⟩ (trc_map t))
theorem Note.land {fr : List Addr} {h h' h'' : Heap} {old : List Addr} {fl : Value} {T : Addr} (n : Note fr h h' e C dx old fl) (hT : h.objs.size ≤ T) (k : ∀ b o, b ≠ T → h'.get? b = some o → h''.get? b = some o) (r : Rec h'' e C dx vs) (h1 : vs[1]? = some (.ref T)) (t : Trc h'' T .none) :
    Note fr h h'' e C dx old .none := by
  have ne : ∀ b o, h.get? b = some o → b ≠ T := fun b o q => Nat.ne_of_lt (Nat.lt_of_lt_of_le (Heap.lt_size q) hT)
  refine ⟨fun b o hb he ho q => k b o (ne b o q) (n.keep b o hb he ho q), fun b o hb q => ?_, fun b o q => ?_, vs, T, r, h1, hT, t⟩
  · obtain ⟨sl, q'⟩ := n.slot b o hb q
    exact ⟨sl, k b _ (ne b o q) q'⟩
  · obtain ⟨o', q'⟩ := n.there b o q
    exact ⟨o', k b _ (ne b o q) q'⟩
theorem Note.apart {fr : List Addr} {h h' : Heap} {old : List Addr} {fl : Value} {oe : Obj} (n : Note fr h h' e C dx old fl) (ge : h.get? e = some oe) : ∃ vs T, Rec h' e C dx vs ∧ vs[1]? = some (.ref T) ∧ h.objs.size ≤ T ∧ Trc h' T fl ∧ T ≠ e := by
  obtain ⟨vs, T, r, h1, hz, t⟩ := n.rc
  exact ⟨vs, T, r, h1, hz, t, Ne.symm (Nat.ne_of_lt (Nat.lt_of_lt_of_le (Heap.lt_size ge) hz))⟩
/-- an error leaves a frame: for the first time, once more -/
theorem leave_first {Q : Unit → Shared → Prop} (hfr : A.frames = some (env :: outer)) (hl : s.heap.FunFrames base (env :: outer)) (hf : env.frame = some L) (r : Rec s.heap e C dx vs) (h1 : vs[1]? = some .none)
    (h : ∀ h', Note (frs (env :: outer)) s.heap h' e C dx [] .none → Q () { s with heap := h' }) : wpAny M A (leaving env (.ref e)) Q E s := by
  unfold leaving
  obtain ⟨o, g, _⟩ := id r
  refine wpAny_bind (note_first hfr hl hf r h1 fun h' n => ?_)
  obtain ⟨vs', T', r', h1', hz, t', ne⟩ := n.apart g
  exact lands r' h1' t' ne fun h'' k r'' t'' => h h'' (n.land hz k r'' h1' t'')
theorem leave_next {T : Addr} {Q : Unit → Shared → Prop} (hfr : A.frames = some (env :: outer)) (hl : s.heap.FunFrames base (env :: outer)) (hf : env.frame = some L) (r : Rec s.heap e C dx vs) (h1 : vs[1]? = some (.ref T)) (t : Trc s.heap T .none) (hne : T ≠ e)
    (h : ∀ h', Note (frs (env :: outer)) s.heap h' e C dx [T] .none → Q () { s with heap := h' }) : wpAny M A (leaving env (.ref e)) Q E s := by
  unfold leaving
  obtain ⟨o, g, _⟩ := id r
  refine wpAny_bind (note_next hfr hl hf r h1 t hne fun h' n => ?_)
  obtain ⟨vs', T', r', h1', hz, t', ne⟩ := n.apart g
  exact lands r' h1' t' ne fun h'' k r'' t'' => h h'' (n.land hz k r'' h1' t'')
end
/-! ### the state behind an entry -/
section
variable {X : Cx} {pins : List (Addr × Obj)} {σ : St} {H : Hp} {s : Shared} {h' : Heap} {e C : Addr} {dx : Option Addr} {old : List Addr} {fl : Value}
theorem Inv.noted (I : Inv X pins σ H s) (mu : Mut (H e)) (n : Note (frs X.stack) s.heap h' e C dx old fl) (hold : ∀ b ∈ old, H b = none ∧ (b ∈ X.ex ∨ X.s_0.heap.objs.size ≤ b) ∧ b ≠ X.env.locals ∧ (∀ x c, X.env.cells.lookup x = some c → c ≠ b) ∧ ∀ p ∈ X.pn ++ pins, p.1 ≠ b) :
    Inv X pins σ (upd H e (XR e C dx)) { s with heap := h' } := by
  have nul : ∀ b, H b = none → b ≠ e := fun b z y => by subst y; rw [z] at mu; exact mu
  have imm : ∀ b u, H b = some u → ¬ Mut (some u) → b ≠ e := fun b u q nm z => by subst z; rw [q] at mu; exact nm mu
  have up : ∀ b u, H b = some u → ¬ Mut (some u) → upd H e (XR e C dx) b = some u := fun b u q nm => by rw [upd_ne (imm b u q nm)]; exact q
  have sub : ∀ b, b ≠ X.env.locals → b ∉ X.fs → b ∉ frs X.stack := fun b h1 h2 hb => (List.mem_cons.mp (I.stkSub b hb)).elim h1 h2
  have any : ∀ b o, b ≠ e → b ∉ old → s.heap.get? b = some o → ∃ sl, h'.get? b = some { o with slots := sl } := fun b o h1 h2 q => by
    by_cases hb : b ∈ frs X.stack
    · exact n.slot b o hb q
    · exact ⟨o.slots, n.keep b o hb h1 h2 q⟩
  obtain ⟨m, ⟨oL, es, ep, ho, hr⟩, _⟩ := id I.loc
  refine I.step (h' := h') (g' := s.gens) (d' := s.drawn) (t' := s.toks) (ch := old) (fun b hb => (hold b hb).2) (fun b o h1 h2 h3 q nn => n.keep b o (sub b h1 h2) (nul b nn) h3 q) (fun b o _ _ h3 q nn => any b o (nul b nn) h3 q) (fun b o _ _ nn => by rw [upd_ne (nul b nn)]; exact nn)
    (fun b o _ q => n.there b o q) (fun b xs q => up b _ q fun z => z) (fun b o u q => up b _ q fun z => z) (fun b ps q => ⟨#[], by rw [up b _ q fun z => z]; simp⟩) (fun m' hm => ?_) (fun b u q => ?_) I.bare
  · obtain ⟨o', es', ep', ho', r'⟩ := hm
    have nL : X.env.locals ∉ old := fun z => (hold _ z).2.2.1 rfl
    obtain ⟨sl, q⟩ := any _ o' (nul _ I.free) nL ho'
    exact ⟨_, es', ep', q, r'⟩
  · by_cases hb : b = e
    · subst hb
      rw [upd_same] at q
      cases q
      obtain ⟨vs, T, r, _⟩ := n.rc
      exact xr_ok r
    · rw [upd_ne hb] at q
      refine (I.hok b u q).stay (fun c v hc r => ?_) (fun c r => up c _ r fun z => z) fun c xs r => up c _ r fun z => z
      have hc1 : H c ≠ none := by
        rcases hc with z | z
        · rw [z, q]; exact fun y => nomatch y
        · rw [z]; exact fun y => nomatch y
      have hc2 : c ≠ e := by
        rcases hc with z | z
        · rw [z]; exact hb
        · exact imm c _ z fun y => y
      refine n.keep c v (fun z => hc1 (I.stkFree c z)) hc2 (fun z => hc1 (hold c z).1) r
end
end L2


set_option Elab.async false
set_option linter.all false
set_option maxRecDepth 100000
set_option maxHeartbeats 1000000
namespace L2
open PySem PySem.Spec PyProof.Rows
/-! ### how a raised error lies behind a call -/
def CX1 (P : Program) (w : World) : CXT := fun outer H s E ev s' => ∃ (a C : Addr) (dx : Option Addr) (H' : Hp) (vs : Array Value) (T : Addr), ev = .ref a ∧ s'.os = s.os ∧ AllBare s'.gens ∧ Un (frs outer) [] H H' s.heap s'.heap ∧ HOk P w H' s'.heap ∧
  H' a = some (XR a C dx) ∧ Rec s'.heap a C dx vs ∧ vs[1]? = some (.ref T) ∧ Trc s'.heap T .none ∧ s.heap.objs.size ≤ T ∧ H' T = none ∧ E ev none H'
/-- where a raise leads: to what is wanted of errors -/
def Raises (X : Cx) (E : XK) : Prop := ∀ (pins : List (Addr × Obj)) (σ : St) (H : Hp) (s : Shared) (a C : Addr) (dx : Option Addr), Inv X pins σ H s → H a = some (XO a C dx) → E (.ref a) none (upd H a (XR a C dx)) → X.xe (.ref a) s
theorem xo_rec {P : Program} {w : World} {H : Hp} {h : Heap} {a C : Addr} {dx : Option Addr} (ok : HOk P w H h) (q : H a = some (XO a C dx)) : ∃ vs, Rec h a C dx vs ∧ vs[1]? = some .none := by
  obtain ⟨t, g⟩ := xo_get ok q
  exact ⟨_, ⟨_, g, rfl, rfl, rfl⟩, rfl⟩
section
variable {cm : Bool} {P : Program} {w : World} {K : PySem.W.Frag} {mg : Str → Option Value} {base : Heap} {N : List Str} {qual : Str} {scope : Scope} {f : Addr} {cd : Value} {A : Around} {outer : List Env} {s0 : Shared} {H0 : Hp} {E : XK}
theorem raises_cx : Raises (cxOfC cm (CX1 P w) P w K mg base N qual scope f cd A outer s0 H0 E) E := by
  intro pins σ H s a C dx I ha q
  obtain ⟨vs, r, h1⟩ := xo_rec I.hok ha
  refine leave_first (base := base) I.ok.frames I.stack rfl r h1 fun h' n => ?_
  obtain ⟨o, g, _⟩ := id r
  obtain ⟨vs', T, r', h1', hz, t', _⟩ := n.apart g
  have J := I.noted (by rw [ha]; exact True.intro) n fun b z => nomatch z
  have hT : H T = none := I.hok.fresh hz
  refine ⟨a, C, dx, _, vs', T, rfl, J.os, J.bare, J.base, J.hok, upd_same, r', h1', t', Nat.le_trans I.sz hz, ?_, q⟩
  rw [upd_ne (Ne.symm (ne_of_none ha hT))]
  exact hT
theorem CX1.inv {X : Cx} {pins : List (Addr × Obj)} {σ : St} {H : Hp} {s s' : Shared} {E : XK} {ev : Value} (I : Inv X pins σ H s) (h : CX1 X.prog X.w X.stack H s E ev s') :
    ∃ (a C : Addr) (dx : Option Addr) (H' : Hp) (vs : Array Value) (T : Addr), ev = .ref a ∧ Inv X pins σ H' s' ∧ H' a = some (XR a C dx) ∧ Rec s'.heap a C dx vs ∧ vs[1]? = some (.ref T) ∧ Trc s'.heap T .none ∧ T ≠ a ∧ E ev none H' ∧
      (∀ b ∈ [T], H' b = none ∧ (b ∈ X.ex ∨ X.s_0.heap.objs.size ≤ b) ∧ b ≠ X.env.locals ∧ (∀ x c, X.env.cells.lookup x = some c → c ≠ b) ∧ ∀ p ∈ X.pn ++ pins, p.1 ≠ b) := by
  obtain ⟨a, C, dx, H', vs, T, rfl, os, bare, un, hok, ha, r, h1, t, hz, hT, q⟩ := h
  refine ⟨a, C, dx, H', vs, T, rfl, I.call' os un hok bare fun _ z => (nomatch z), ha, r, h1, t, Ne.symm (ne_of_none ha hT), q, fun b hb => ?_⟩
  have e : b = T := by simpa using hb
  subst e
  refine ⟨hT, .inr (Nat.le_trans I.sz hz), Ne.symm (Nat.ne_of_lt (Nat.lt_of_lt_of_le I.lt hz)), fun x c hc => ?_, fun p hp => ?_⟩
  · obtain ⟨v, o, ho, _⟩ := I.cell x c hc
    exact Nat.ne_of_lt (Nat.lt_of_lt_of_le (Heap.lt_size ho) hz)
  · exact Nat.ne_of_lt (Nat.lt_of_lt_of_le (Heap.lt_size (I.pin p hp).1) hz)
/-- a callee's error goes on through this frame -/
theorem passes_cx : Passes (CX1 P w) (cxOfC cm (CX1 P w) P w K mg base N qual scope f cd A outer s0 H0 E) E := by
  intro pins σ H s ev s' I h
  obtain ⟨a, C, dx, H', vs, T, rfl, J, ha, r, h1, t, ne, q, hold⟩ := CX1.inv I h
  refine leave_next (base := base) J.ok.frames J.stack rfl r h1 t ne fun h' n => ?_
  obtain ⟨o, g, _⟩ := id r
  obtain ⟨vs', T', r', h1', hz, t', _⟩ := n.apart g
  have L := J.noted (by rw [ha]; exact True.intro) n hold
  rw [upd_self ha] at L
  have hT : H' T' = none := J.hok.fresh hz
  exact ⟨a, C, dx, H', vs', T', rfl, L.os, L.bare, L.base, L.hok, ha, r', h1', t', Nat.le_trans J.sz hz, hT, q⟩
end
/-! ### raise -/
def tRaise (K : PySem.W.Frag) (E : XK) (te : TE) : TS := fun _ σ H => te σ H fun x H1 => ∃ a C dx, x = .ref a ∧ H1 a = some (XO a C dx) ∧ EX.XCls K C ∧ PySem.W.typeIn K (.ref C) = some (.type "type") ∧ E (.ref a) none (upd H1 a (XR a C dx))
theorem ps_raise {X : Cx} {E : XK} {e : Expr} {te : TE} {pos : Pos} (hc : X.calm = true) (hx : Raises X E) (he : PE X e te) : PS X (.Raise (some e) none pos) (tRaise X.K E te) := by
  intro pins s σ H D I hq
  show wpAny _ _ (standAt pos >>= fun _ => raiseStmt X.env (some (eval e X.env >>= fun v => standAt pos >>= fun _ => pure v)) none) _ _ _
  refine wpAny_bind (wpAny_standAt ?_)
  unfold raiseStmt
  dsimp only
  refine wpAny_bind (wpAny_bind (thn (he pins s σ H _ I hq) fun v s1 hv => wpAny_bind (wpAny_standAt (wpAny_pure ?_))))
  obtain ⟨x, H1, I1, rx, a, C, dx, rfl, ha, cl, ty, q⟩ := hv
  obtain rfl : v = Value.ref a := rx
  obtain ⟨t, g⟩ := xo_get I1.hok ha
  have hT : PySem.W.Looks (model X.prog X.w) s1.heap (typeOf (.ref a)) (.ref C) := (PySem.W.Looks.ld g).andThen .now
  have hN : PySem.W.Looks (model X.prog X.w) s1.heap (isType (.ref a)) false := (PySem.W.Looks.ld g).andThen .now
  have hB : PySem.W.Looks (model X.prog X.w) s1.heap (isInstance (.ref a) (.type "BaseException")) true := hT.andThen (PySem.W.looks_mroIn I1.kIn cl.be)
  have hM : PySem.W.Looks (model X.prog X.w) s1.heap (typeOf (.ref C)) (.type "type") := PySem.W.looks_typeIn I1.kIn ty
  refine wpAny_bind (wpAny_pure ?_)
  dsimp only
  refine wpAny_bind (wpAny_holding ?_)
  unfold excFromValue isExcClass
  refine wpAny_bind (wpAny_bind (hN.here ?_))
  simp only [Bool.false_eq_true, if_false]
  refine wpAny_pure ?_
  simp only [Bool.false_eq_true, if_false]
  refine wpAny_bind (hB.here ?_)
  simp only [if_true]
  refine wpAny_pure ?_
  refine wpAny_bind (hN.here ?_)
  simp only [Bool.false_eq_true, if_false]
  unfold raisedInstance
  refine wpAny_bind (wpAny_bind (hT.here (wpAny_bind (hM.here ?_))))
  rw [if_pos (by rfl)]
  refine wpAny_pure ?_
  unfold setFlight
  refine wpAny_bind (wpAny_bind (wpAny_field (x := Value.none) g rfl rfl ?_))
  rw [if_neg (by decide)]
  exact wpAny_pure (wpAny_raiseNew_none (I1.ok.hd hc) (hx pins σ H1 s1 a C dx I1 ha q))
end L2


set_option Elab.async false
set_option linter.all false
set_option maxRecDepth 100000
set_option maxHeartbeats 1000000
namespace L2
open PySem PySem.Spec PyProof.Rows
/-! ### except (C, D) as e: return .. -/
abbrev Cx.hand (X : Cx) (v : Value) (E : Value → Shared → Prop) : Cx := { X with A := X.A.mark (some v), calm := false, xe := E }
abbrev Cx.moved (X : Cx) (pn : List (Addr × Obj)) (E : Value → Shared → Prop) : Cx := { X with pn := pn, xe := E }
section
variable {X : Cx} {pins : List (Addr × Obj)} {σ : St} {H : Hp} {s : Shared} {E : Value → Shared → Prop} {v : Value}
theorem Inv.hand (I : Inv X pins σ H s) : Inv (X.hand v E) pins σ H s :=
  ⟨⟨I.ok.mod, I.ok.kind, I.ok.glob, I.ok.blt, I.ok.above, I.ok.inj, I.ok.has, I.ok.cab, (fun z => nomatch z), I.ok.frames, I.ok.stk, I.ok.exf, I.ok.bs, I.ok.bsz, I.ok.noex, I.ok.exfs, I.ok.funs, I.ok.frf⟩, I.os, I.bare, I.base, I.loc, I.cell, I.free, I.freeC, I.pin, I.hok, I.len⟩
theorem Inv.unhand (ok : X.Ok) (I : Inv (X.hand v E) pins σ H s) : Inv X pins σ H s := ⟨ok, I.os, I.bare, I.base, I.loc, I.cell, I.free, I.freeC, I.pin, I.hok, I.len⟩
theorem Inv.moved (I : Inv X pins σ H s) : Inv (X.moved (X.pn ++ pins) E) [] σ H s :=
  ⟨⟨I.ok.mod, I.ok.kind, I.ok.glob, I.ok.blt, I.ok.above, I.ok.inj, I.ok.has, I.ok.cab, I.ok.hd, I.ok.frames, I.ok.stk, I.ok.exf, I.ok.bs, I.ok.bsz, I.ok.noex, I.ok.exfs, I.ok.funs, I.ok.frf⟩, I.os, I.bare, I.base, I.loc, I.cell, I.free, I.freeC, fun p hp => I.pin p (by simpa using hp), I.hok, I.len⟩
theorem Inv.unmoved {pins' : List (Addr × Obj)} (ok : X.Ok) (I : Inv (X.moved (X.pn ++ pins) E) pins' σ H s) : Inv X pins σ H s :=
  ⟨ok, I.os, I.bare, I.base, I.loc, I.cell, I.free, I.freeC, fun p hp => I.pin p (List.mem_append_left _ hp), I.hok, I.len⟩
/-- the frame's names are forgotten -/
theorem Inv.lost {h' : Heap} {t' : Nat} {m' : Str → Option Value} (I : Inv X pins σ H s) (hn : h'.Ns X.env.locals m') (hs : Heap.SameBut X.env.locals s.heap h') : Inv X pins (List.replicate X.N.length none) H { s with heap := h', toks := t' } := by
  obtain ⟨m, ⟨oL, es, ep, hoL, hr⟩, _⟩ := id I.loc
  have ab : ∀ b o, X.s_0.heap.get? b = some o → b ≠ X.env.locals := fun b o q => Nat.ne_of_lt (Nat.lt_of_lt_of_le (Heap.lt_size q) I.ok.above)
  refine ⟨I.ok, I.os, I.bare, ⟨fun b o q n hb hx => (hs.2 b (ab b o q)).trans (I.base.keep b o q n hb hx), fun b o q n hb hx => ?_, I.base.free, fun b o q hx => ?_, I.base.tups, I.base.frzs, I.base.tbls⟩, ⟨m', hn, fun i x v e1 e2 e3 => ?_⟩, fun x c e => ?_, I.free, I.freeC, fun p hp => ?_, fun b u q => ?_, by simp⟩
  · obtain ⟨sl, q1⟩ := I.base.slot b o q n hb hx
    exact ⟨sl, (hs.2 b (ab b o q)).trans q1⟩
  · obtain ⟨o', q1⟩ := I.base.there b o q hx
    exact ⟨o', (hs.2 b (ab b o q)).trans q1⟩
  · rw [List.getElem?_replicate] at e2
    split at e2 <;> cases e2
  · obtain ⟨w', z⟩ := I.cell x c e
    exact ⟨w', z.sameBut hs (I.cne x c e)⟩
  · obtain ⟨e, n, ne, nf, d⟩ := I.pin p hp
    exact ⟨(hs.2 p.1 ne).trans e, n, ne, nf, d⟩
  · refine (I.hok b u q).stay (fun c w' hc r => (hs.2 c ?_).trans r) (fun _ r => r) fun _ _ r => r
    rintro rfl
    rcases hc with z | z
    · rw [← z, I.free] at q; cases q
    · rw [I.free] at z; cases z
end
/-- a class that except may name -/
structure ExcC (K : PySem.W.Frag) (D : Addr) : Prop where
  cls : ∃ cd, PySem.W.clsIn K D = some cd
  be : PySem.W.mroIn K D (.type "BaseException") = some true
section
variable {M : Model} {A : Around} {E : Value → Shared → Prop} {s : Shared} {K : PySem.W.Frag} {a p C D1 D2 : Addr} {dx : Option Addr} {vs : Array Value} {b1 b2 : Bool}
theorem looks_isExc (kX : K.In s.heap) (e : ExcC K D1) : PySem.W.Looks M s.heap (isExcClass (.ref D1)) true := by
  obtain ⟨cd, hc⟩ := e.cls
  have hT : PySem.W.Looks M s.heap (isType (.ref D1)) true := by
    unfold PySem.W.clsIn at hc
    split at hc
    · rename_i ho
      exact (PySem.W.Looks.ld (kX _ _ ho)).andThen .now
    · cases hc
  exact hT.andThen (PySem.W.looks_mroIn kX e.be)
theorem match2 {Q : Bool → Shared → Prop} (kX : K.In s.heap) (ht : IsTup s.heap p #[.ref D1, .ref D2]) (r : Rec s.heap a C dx vs) (e1 : ExcC K D1) (e2 : ExcC K D2) (m1 : PySem.W.mroIn K C (.ref D1) = some b1) (m2 : PySem.W.mroIn K C (.ref D2) = some b2) (h : Q (b1 || b2) s) :
    wpAny M A (excMatches (.ref a) (.ref p)) Q E s := by
  obtain ⟨o, ho, hc, n, hd⟩ := ht
  obtain ⟨oe, ge, hcl, _⟩ := r
  have hT : PySem.W.Looks M s.heap (typeOf (.ref a)) (.ref C) := hcl ▸ (PySem.W.Looks.ld ge).andThen .now
  have k1 := looks_isExc (M := M) kX e1
  have k2 := looks_isExc (M := M) kX e2
  have l1 := PySem.W.looks_mroIn (M := M) kX m1
  have l2 := PySem.W.looks_mroIn (M := M) kX m2
  unfold excMatches
  refine wpAny_bind (wpAny_isInstance ⟨o, ho, hc⟩ isSubtype_tuple_tuple ?_)
  dsimp only
  rw [if_pos rfl]
  refine wpAny_bind (wpAny_seqItems ho hd ?_)
  dsimp only [Option.getD_some, Option.getD]
  refine wpAny_bind (wpAny_pure ?_)
  simp only [List.forIn_cons, List.forIn_nil]
  refine wpAny_bind (wpAny_bind (wpAny_bind (k1.here ?_)))
  simp only [Bool.not_true, Bool.false_eq_true, if_false]
  refine wpAny_pure (wpAny_bind (wpAny_bind (k2.here ?_)))
  simp only [Bool.not_true, Bool.false_eq_true, if_false]
  refine wpAny_pure (wpAny_pure (wpAny_bind (hT.here ?_)))
  refine wpAny_bind (wpAny_bind (wpAny_bind (l1.here ?_)))
  cases b1 with
  | true =>
    simp only [if_true]
    exact wpAny_pure (wpAny_pure (wpAny_pure h))
  | false =>
    simp only [Bool.false_eq_true, if_false]
    refine wpAny_pure (wpAny_bind (wpAny_bind (l2.here ?_)))
    cases b2 with
    | true =>
      simp only [if_true]
      exact wpAny_pure (wpAny_pure (wpAny_pure h))
    | false =>
      simp only [Bool.false_eq_true, if_false]
      exact wpAny_pure (wpAny_pure (wpAny_pure h))
end
/-- what is wanted of an error that a suite catches -/
def EH (K : PySem.W.Frag) (n i : Nat) (D1 D2 : Addr) (th : TS) (R : VK) : XK := fun ev _ H' => ∃ (a C : Addr) (dx : Option Addr) (b1 b2 : Bool), ev = .ref a ∧ H' a = some (XR a C dx) ∧ PySem.W.mroIn K C (.ref D1) = some b1 ∧ PySem.W.mroIn K C (.ref D2) = some b2 ∧ (b1 || b2) = true ∧
  ∀ σ' : St, σ'.length = n → th { nx := fun _ _ => False, rt := R } (σ'.set i (some (.ref a))) H'
def tTry (K : PySem.W.Frag) (n i : Nat) (D1 D2 : Addr) (tb : XK → TS) (th : TS) : TS := fun D σ H => tb (EH K n i D1 D2 th D.rt) D σ H
section
variable {X : Cx} {body suite : List Stmt} {b0 : Stmt} {pos hpos p1 p2 tp : Pos} {n1 n2 v : Str} {i : Nat} {D1 D2 : Addr} {tb : XK → TS} {th : TS} {c}
theorem ps_try (hst : X.stack = X.env :: X.outer ∧ X.env.frame = some X.env.locals) (hN : X.N.Nodup) (hi : X.N[i]? = some v) (hv : X.env.kindOf v = some .local) (g1 : Gl X n1) (m1 : X.mg n1 = some (.ref D1)) (g2 : Gl X n2) (m2 : X.mg n2 = some (.ref D2)) (e1 : ExcC X.K D1) (e2 : ExcC X.K D2)
    (hb : ∀ (pn : List (Addr × Obj)) (xe : Value → Shared → Prop) (E1 : XK), Passes (CX1 X.prog X.w) (X.moved pn xe) E1 → PSs (X.moved pn xe) body (tb E1))
    (hs : ∀ a : Addr, PSs (X.hand (.ref a) fun _ _ => False) (b0 :: suite) th)
    (d1 : (n1 == ("__debug__" : Str)) = false := by decide) (d2 : (n2 == ("__debug__" : Str)) = false := by decide)
    (hstar : starEach [Expr.Name n1 p1, Expr.Name n2 p2] X.env = [(false, eval (.Name n1 p1) X.env), (false, eval (.Name n2 p2) X.env)] := by rfl) :
    PS X (.Try body [.ExceptHandler (some (.Tuple [.Name n1 p1, .Name n2 p2] c tp)) (some v) (b0 :: suite) hpos] [] [] pos) (tTry X.K X.N.length i D1 D2 tb th) := by
  intro pins s σ H D I hq
  obtain ⟨hst, hfr⟩ := hst
  have ok := I.ok
  have frm : X.A.frames = some (X.env :: X.outer) := by rw [ok.frames, hst]
  refine wpAny_Try_except ?_
  refine wpAny_mono (hb (X.pn ++ pins) _ (EH X.K X.N.length i D1 D2 th D.rt) ?_ [] s σ H D I.moved hq) (fun f s1 hf => ?_) fun _ _ z => z
  · intro pins' σ' H1 s1 ev s2 J hx
    have J := J.unmoved ok
    obtain ⟨a, C, dx, H', vs, T, rfl, K0, ha, r, h1, t, ne, q, hold⟩ := CX1.inv J hx
    obtain ⟨a', C', dx', b1, b2, ea, ha', mr1, mr2, hb12, hth⟩ := q
    cases ea
    obtain ⟨oe, ge, _⟩ := id r
    have st : s2.heap.FunFrames X.base (X.env :: X.outer) := hst ▸ K0.stack
    show wpAny _ X.A (noteFrame (.ref a) X.env) _ _ s2
    refine note_next (base := X.base) frm st hfr r h1 t ne fun h' n => ?_
    obtain ⟨vs', T', r', h1', hz, t', ne'⟩ := n.apart ge
    refine lands r' h1' t' ne' fun h2 k r2 t2 => ?_
    have n2' := n.land hz k r2 h1' t2
    have L := K0.noted (by rw [ha]; exact True.intro) (hst ▸ n2') hold
    have eC : C' = C ∧ dx' = dx := by
      obtain ⟨v2, o2, g2', c2, q2, _⟩ := xr_get K0.hok ha'
      obtain ⟨o3, g3, c3, q3, _⟩ := id r
      rw [g3] at g2'
      cases g2'
      rw [c3] at c2
      rw [q3] at q2
      exact ⟨(Value.ref.inj c2).symm, q2.symm⟩
    obtain ⟨rfl, rfl⟩ := eC
    rw [upd_self ha] at L
    refine wpAny_handleBy_cons (codeAny_handlers_test ?_) (by intro z; cases z)
    refine wpAny_Tuple_spliced ?_
    rw [hstar]
    show wpAny _ _ (spliced ((false, eval (.Name n1 p1) X.env) :: (false, eval (.Name n2 p2) X.env) :: [])) _ _ _
    have Lh := fun E' => Inv.hand (v := .ref a) (E := E') L
    refine Calls.spliced_cons (ld_glob (X := X.hand (.ref a) fun _ _ => False) (Lh _) g1 m1 ?_ d1)
    refine Calls.spliced_cons (ld_glob (X := X.hand (.ref a) fun _ _ => False) (Lh _) g2 m2 (Calls.spliced_nil ?_) d2)
    refine ⟨by show 2 ≤ sizeLine; decide, ?_⟩
    dsimp only
    have pk : ∀ b o, h2.get? b = some o → (h2.push { cls := .type "tuple", data := .seq #[.ref D1, .ref D2] }).get? b = some o := fun b o z => Heap.get?_push_of_some _ z
    have M := L.kept (h' := h2.push { cls := .type "tuple", data := .seq #[.ref D1, .ref D2] }) (t' := s2.toks) pk
    have rP : Rec (h2.push { cls := .type "tuple", data := .seq #[.ref D1, .ref D2] }) a C' dx' vs' := by
      obtain ⟨o3, g3, z⟩ := r2
      exact ⟨o3, pk _ _ g3, z⟩
    have tP : Trc (h2.push { cls := .type "tuple", data := .seq #[.ref D1, .ref D2] }) T' .none := by
      obtain ⟨o3, ts, g3, z⟩ := t2
      exact ⟨o3, ts, pk _ _ g3, z⟩
    have kM : X.K.In (h2.push { cls := .type "tuple", data := .seq #[.ref D1, .ref D2] }) := M.kIn
    refine match2 (K := X.K) (s := ⟨h2.push { cls := .type "tuple", data := .seq #[.ref D1, .ref D2] }, _, _, _, _⟩) kM (IsTup.new h2 _) rP e1 e2 mr1 mr2 ?_
    rw [hb12]
    refine codeAny_handlers_suite_as ?_
    refine lands (s := ⟨h2.push { cls := .type "tuple", data := .seq #[.ref D1, .ref D2] }, _, _, _, _⟩) rP h1' tP ne' fun h4 k4 r4 t4 => ?_
    have hTn : H' T' = none := K0.hok.fresh hz
    have M4 := M.turned (h' := h4) (t' := s2.toks) (it := T') (fun b o hb z => k4 b o hb z) hTn (Ne.symm (Nat.ne_of_lt (Nat.lt_of_lt_of_le K0.lt hz))) (.inr (Nat.le_trans K0.sz hz))
      (fun x c hc => by
        obtain ⟨vv, o, ho, _⟩ := K0.cell x c hc
        exact Nat.ne_of_lt (Nat.lt_of_lt_of_le (Heap.lt_size ho) hz))
      (fun p hp => Nat.ne_of_lt (Nat.lt_of_lt_of_le (Heap.lt_size (K0.pin p hp).1) hz))
    refine store_ok (X := X.hand (.ref a) fun _ _ => False) (v := .ref a) M4.hand hN hi (Or.inl hv) rfl (fun s5 I5 => ?_) (Or.inr hv)
    refine wpAny_mono (hs a pins s5 _ H' _ I5 (hth σ' K0.len)) (fun f s6 hf => ?_) (fun _ _ z => z.elim)
    cases f with
    | ret u =>
      obtain ⟨v', σ6, H6, I6, rv, q6⟩ := hf
      have I6 := I6.unhand ok
      obtain ⟨m6, n6, _⟩ := id I6.loc
      refine wpAny_nameGoes hv n6 (by rw [ok.kind]; rfl) fun h7 m7 n7 sb7 => ⟨v', _, H6, I6.lost n7 sb7, rv, q6⟩
    | next =>
      obtain ⟨_, _, _, z⟩ := hf
      exact z.elim
    | brk =>
      obtain ⟨_, _, _, z⟩ := hf
      exact (show False from z).elim
    | cont =>
      obtain ⟨_, _, _, z⟩ := hf
      exact (show False from z).elim
  · cases f with
    | ret u =>
      obtain ⟨v', σ6, H6, I6, rv, q6⟩ := hf
      exact ⟨v', σ6, H6, I6.unmoved ok, rv, q6⟩
    | next =>
      obtain ⟨σ6, H6, I6, q6⟩ := hf
      exact pss_nil pins s1 σ6 H6 D (I6.unmoved ok) q6
    | brk =>
      obtain ⟨σ6, H6, I6, q6⟩ := hf
      exact ⟨σ6, H6, I6.unmoved ok, q6⟩
    | cont =>
      obtain ⟨σ6, H6, I6, q6⟩ := hf
      exact ⟨σ6, H6, I6.unmoved ok, q6⟩
end
end L2


set_option Elab.async false
set_option linter.all false
set_option maxRecDepth 100000
set_option maxHeartbeats 1000000
namespace L2
open PySem PySem.Spec PyProof.Rows
section
variable {X : Cx} {pins : List (Addr × Obj)} {σ : St} {H : Hp} {s : Shared} {a C d : Addr} {dx : Option Addr} {fs : List (Str × V)} {f : Str} {v : V} {A : Around} {E : Value → Shared → Prop}
theorem rec_inst {h : Heap} {vs : Array Value} (r : Rec h a C none vs) : ∃ o, PySem.W.InstAt h a o C none := by
  obtain ⟨⟨c, dd, dt, sl⟩, g, hc, hdx, hd⟩ := r
  cases hc; cases hdx; cases hd
  exact ⟨_, g, rfl, rfl, trivial⟩
theorem rec_inst2 {h : Heap} {vs : Array Value} {od : Obj} (r : Rec h a C (some d) vs) (g2 : h.get? d = some od) : ∃ o, PySem.W.InstAt h a o C (some od) := by
  obtain ⟨⟨c, dd, dt, sl⟩, g, hc, hdx, hd⟩ := r
  cases hc; cases hdx; cases hd
  exact ⟨_, g, rfl, rfl, g2⟩
theorem getr_ok {b : Bool} {Q : Value → Shared → Prop} (I : Inv X pins σ H s) (e : H a = some (XR a C (some d))) (e2 : H d = some (XD d fs)) (c : EX.XCls X.K C) (n : NoAttr X.K C f) (l : fs.lookup f = some v)
    (h : ∀ u s', Inv X pins σ H s' → RelV v u → Q u s') : wpAny (model X.prog X.w) A (getAttr (.ref a) f b) Q E s := by
  obtain ⟨vs, g⟩ := xr_get I.hok e
  obtain ⟨mA, ns, r, _⟩ := xd_get I.hok e2
  obtain ⟨u, hu, ru⟩ := RelO.some_of (v := v) (o := mA f) (by rw [← l]; exact r f)
  obtain ⟨od, g2, hl⟩ := lookIn_ns ns
  obtain ⟨o, J⟩ := rec_inst2 g g2
  have I0 := h u _ (I.tok (s.toks + 1)) ru
  obtain ⟨hh, gg, dd, tk, os⟩ := s
  refine EX.getX c I.kIn J (v := u) ?_ (handed_of ru) I0
  exact PySem.W.findObj_own c.hd n rfl (by rw [hl, hu])
/-- e.f, an attribute of a raised error -/
def tFldR (K : PySem.W.Frag) (ta : TE) (f : Str) : TE := fun σ H Q => ta σ H fun x H1 => ∃ a C d fs v, x = .ref a ∧ H1 a = some (XR a C (some d)) ∧ H1 d = some (XD d fs) ∧ EX.XCls K C ∧ NoAttr K C f ∧ fs.lookup f = some v ∧ Q v H1
theorem pe_fldR {e : Expr} {pos : Pos} {ta : TE} (he : PE X e ta) (hb : attributeBase e f X.env (eval e X.env) = eval e X.env) : PE X (.Attribute e f pos) (tFldR X.K ta f) := by
  intro pins s σ H Q I h
  refine attr_of hb (thn (he pins s σ H _ I h) fun u s1 ⟨x, H1, I1, rx, a, C, d, fs, v, ex, ea, ed, c, n, l, q⟩ => ?_)
  subst ex
  obtain rfl : u = Value.ref a := rx
  exact getr_ok I1 ea ed c n l fun u' s2 I2 ru => ⟨v, H1, I2, ru, q⟩
end
section
variable {X : Cx} {pins : List (Addr × Obj)} {σ : St} {H : Hp} {s : Shared} {A : Around} {E : Value → Shared → Prop} {Q : Value → Shared → Prop} {c : Value} {b : Bool}
theorem isinst_r {a C : Addr} {dx : Option Addr} (I : Inv X pins σ H s) (e : H a = some (XR a C dx)) (hd : ∀ d, dx = some d → ∃ fs, H d = some (XD d fs)) (cl : EX.XCls X.K C) (k : PySem.W.kitOne X.K (.ref C) c = some b) (h : ∀ tk, Q (.bool b) { s with toks := tk }) :
    wpAny (model X.prog X.w) A (call (.builtin "isinstance") [.ref a, c]) Q E s := by
  obtain ⟨vs, g⟩ := xr_get I.hok e
  refine PySem.W.kia_one (EX.kitX cl) I.kIn ?_ k (fun z => nomatch z) h
  cases dx with
  | none =>
    obtain ⟨o, J⟩ := rec_inst g
    exact ⟨_, _, J⟩
  | some d =>
    obtain ⟨fs, q⟩ := hd d rfl
    obtain ⟨mA, ⟨od, es, ep, g2, _⟩, _⟩ := xd_get I.hok q
    obtain ⟨o, J⟩ := rec_inst2 g g2
    exact ⟨_, _, J⟩
/-- what isinstance looks at, raised errors among them -/
inductive TyR (K : PySem.W.Frag) (H : Hp) : V → Value → Prop where
  | old {x : V} {t : Value} (h : TyOf K H x t) : TyR K H x t
  | rai {a C : Addr} {dx : Option Addr} (e : H a = some (XR a C dx)) (hd : ∀ d, dx = some d → ∃ fs, H d = some (XD d fs)) (cl : EX.XCls K C) : TyR K H (.ref a) (.ref C)
def rIsr (K : PySem.W.Frag) : List V → Hp → VK → Prop := fun vs H Q => ∃ x cv t c b, vs = [x, cv] ∧ TyR K H x t ∧ clsV cv c ∧ PySem.W.kitOne K t c = some b ∧ Q (.bl b) H
theorem call_isr : CallR X (.builtin "isinstance") (rIsr X.K) := by
  intro pins s σ H vs us Q I r h
  obtain ⟨x, cv, t, c, b, rfl, ty, hc, k, q⟩ := h
  cases r with
  | cons r1 r2 =>
    cases r2 with
    | cons r3 r4 =>
      cases r4
      rename_i u1 u2
      have ec : u2 = c := by
        cases cv <;> first | exact (show u2 = _ from r3).trans (show c = _ from hc).symm | exact False.elim hc
      subst ec
      cases ty with
      | old ty => exact isinst_ok I r1 ty k fun tk => ⟨.bl b, H, I.tok tk, rfl, q⟩
      | rai e hd cl =>
        cases (show u1 = _ from r1)
        exact isinst_r I e hd cl k fun tk => ⟨.bl b, H, I.tok tk, rfl, q⟩
end
/-! ### repr of data -/
section
variable {X : Cx} {k : Nat}
end
end L2


set_option Elab.async false
set_option linter.all false
set_option maxRecDepth 100000
set_option maxHeartbeats 1000000
namespace HT
open PySem PySem.Spec PyProof.Rows
section
variable {prog : Program} {w : World} {A : Around} {E : Value → Shared → Prop} {s : Shared}
/-- t[a:b] where it is the whole of t: t itself -/
theorem getItem_tuple_whole {t sl : Addr} {items : Array Value} {vl vu : Value} {lo hi : Option Int} {Q : Value → Shared → Prop} (ht : IsTup s.heap t items) (hs : s.heap.IsSliceOf sl vl vu .none) (pl : IsPart vl lo) (pu : IsPart vu hi)
    (hw : sIx items.size 0 lo = 0 ∧ sIx items.size items.size hi = items.size) (h : Q (.ref t) s) : wpAny (model prog w) A (getItem (.ref t) (.ref sl)) Q E s := by
  obtain ⟨os, hos, hcs, hds⟩ := id hs
  have hTs : s.TypeIs (.ref sl) "slice" := ⟨os, hos, hcs⟩
  unfold getItem
  try with_reducible refine wpAny_holding ?_
  first | refine wpAny_bind (wpAny_pure ?_) | skip
  refine wpAny_bind (wpAny_sequenceKey ht.typeIs (by decide) ?_)
  refine wpAny_bind (wpAny_callSpecial?_slot (name := Str.ofString "__getitem__") ht.typeIs PyProof.Rows.slot_tuple_getitem
    (wpAny_call_entry PyProof.Rows.slot_tuple_getitem ht.typeIs entry_tuple_getitem ?_ (args_tuple_getitem _ _)))
  show wpAny _ _ (Builtin.Tuple.tupleItemsOf (.ref t) >>= _) _ _ s
  refine wpAny_bind (tupleItemsOf_ ht ?_)
  refine wpAny_bind (wpAny_typeOf hTs ?_)
  rw [if_pos (by decide)]
  refine wpAny_bind (sliceApplied_gen hs pl pu ?_)
  rw [hw.1, hw.2]
  have yes : (((0 : Nat) : Int) == 0 && (1 : Int) == 1 && (items.size - 0) == items.size) = true := by simp
  show wpAny _ _ (if (((0 : Nat) : Int) == 0 && (1 : Int) == 1 && (items.size - 0) == items.size) = true then _ else _) _ _ s
  rw [if_pos yes]
  unfold Builtin.Tuple.tupleIsExact
  refine wpAny_bind (wpAny_bind (wpAny_typeOf ht.typeIs (wpAny_pure ?_)))
  rw [if_pos (by decide)]
  refine wpAny_bind (wpAny_rule ?_)
  first
    | exact wpAny_bind (wpAny_pure (wpAny_pure ⟨_, rfl, wpAny_pure h⟩))
    | exact wpAny_pure ⟨_, rfl, wpAny_pure h⟩
    | exact wpAny_bind (wpAny_pure ⟨_, rfl, wpAny_pure h⟩)
theorem cat_tup0 {t b : Addr} {ws : List Value} {Q : Value → Shared → Prop} (ht : IsTup s.heap t #[]) (hb : IsTup s.heap b ws.toArray) (h1 : Q (.ref b) s) : wpAny (model prog w) A (binaryOp .Add (.ref t) (.ref b)) Q E s := by
  obtain ⟨⟨cls, dd, data, sl⟩, ho, hc, n, hd⟩ := id ht
  obtain ⟨⟨cls2, dd2, data2, sl2⟩, ho2, hc2, n2, hd2⟩ := id hb
  simp only at hc hd hc2 hd2
  subst hc hd hc2 hd2
  exact concat_meets ⟨_, ho, rfl⟩ ⟨_, ho2, rfl⟩ noFill_tuple_add seq_tuple_add PySem.F.slot_tuple_add PySem.F.entry_tuple_add (PySem.F.args_tuple_add_2 _ _)
      (tuple_addW0 t b #[] ws.toArray n n2 dd dd2 sl sl2 (by rfl)) ⟨ho, ho2, h1⟩
end
end HT
namespace L2
open PySem PySem.Spec PyProof.Rows
theorem same_new {H : Hp} {p : Addr} {o : HO} (h : H p = none) : Same H (upd H p o) := fun b q z => by rw [upd_ne (ne_of_none z h)]; exact z
section
variable {X : Cx}
/-- t[lo:hi], the whole too -/
def rSlW : V → Option Int → Option Int → Hp → VK → Prop := fun x lo hi H Q => ∃ a xs, x = .ref a ∧ H a = some (.tup xs) ∧ ∀ p H', Same H H' → H' p = some (.tup (cutV xs lo hi)) → Q (.ref p) H'
theorem cutV_whole {xs : List V} {lo hi : Option Int} (h : HT.sIx xs.length 0 lo = 0 ∧ HT.sIx xs.length xs.length hi = xs.length) : cutV xs lo hi = xs := by
  unfold cutV
  rw [h.1, h.2]
  simp
theorem sl_tupW : SlR X rSlW := by
  intro pins s σ H x v vl vu lo hi sl Q I rx hs pl pu h
  obtain ⟨a, xs, rfl, hx, q⟩ := h
  by_cases hw : HT.sIx xs.length 0 lo = 0 ∧ HT.sIx xs.length xs.length hi = xs.length
  · cases rx
    obtain ⟨its, r, ht, hz⟩ := I.tuple (SqT.of (K := X.K) hx)
    have hlen : its.toArray.size = xs.length := by rw [List.size_toArray]; exact r.length.symm
    refine ⟨"tuple", _, PyProof.Rows.slot_tuple_getitem.lookup, ht.typeIs, ?_⟩
    refine HT.getItem_tuple_whole ht hs pl pu (by rw [hlen]; exact hw) ⟨.ref a, H, I, rfl, q a H (Same.refl H) ?_⟩
    rw [cutV_whole hw]
    exact hx
  · exact sl_tup pins s σ H (.ref a) v vl vu lo hi sl Q I rx hs pl pu ⟨a, xs, rfl, SqT.of hx, hw, fun p hp => q p _ (same_new hp) upd_same⟩
/-- t + u -/
def rCatW : R2 := fun x y H Q => ∃ a b xs ys, x = .ref a ∧ y = .ref b ∧ H a = some (.tup xs) ∧ H b = some (.tup ys) ∧ xs.length + ys.length ≤ sizeLine ∧ ∀ p H', Same H H' → H' p = some (.tup (xs ++ ys)) → Q (.ref p) H'
theorem op_catW : OpR X (binaryOp .Add) rCatW := by
  intro pins s σ H x y v u Q I rx ry h
  obtain ⟨a, b, xs, ys, rfl, rfl, ha, hb, hz, q⟩ := h
  by_cases hx : xs = []
  · subst hx
    cases rx
    cases ry
    obtain ⟨its, r1, p1, _⟩ := I.tuple (SqT.of (K := X.K) ha)
    obtain ⟨its2, r2, p2, _⟩ := I.tuple (SqT.of (K := X.K) hb)
    cases r1
    exact HT.cat_tup0 p1 p2 ⟨.ref b, H, I, rfl, q b H (Same.refl H) hb⟩
  · exact op_catT pins s σ H (.ref a) (.ref b) v u Q I rx ry ⟨a, b, xs, ys, rfl, rfl, SqT.of ha, SqT.of hb, hx, hz, fun z => q a H (Same.refl H) (by rw [z, List.append_nil]; exact ha), fun _ p hp => q p _ (same_new hp) upd_same⟩
end
end L2


set_option Elab.async false
set_option linter.all false
set_option maxRecDepth 100000
set_option maxHeartbeats 3200000
namespace L2
open PySem PySem.Spec PyProof.Rows
/-! ### set(xs) of texts of which no two are alike -/
def hasK (l : List Str) : Key → Bool
  | .inl _ => false
  | .inr x => l.contains x
section
variable {prog : Program} {w : World} {A : Around} {R : Result → Shared → Prop} {I : Addr} {fp wr : List Addr} {G : Array GenState → Array GenState → Prop} {n : Nat} {P : Nat → Value → Prop} {St : Nat → Shared → Prop}
theorem set_fun {S S' : Key → Bool} {h : Heap} {a : Addr} {m m' : Nat} (x : h.SetOf (mixKind prog w) a S m) (e : ∀ k, S k = S' k) (en : m = m') : h.SetOf (mixKind prog w) a S' m' := by
  have z : S = S' := funext e
  subst z
  subst en
  exact x
end
section
variable {prog : Program} {w : World} {A : Around} {E : Value → Shared → Prop} {s : Shared}
/-- the texts of a list -/
def StrsAre (vs : List Value) (xs : List Str) : Prop := ∀ (i : Nat) (v : Value), vs[i]? = some v → ∃ x t, xs[i]? = some x ∧ v = Value.str x t
end
/-- a set with so many members -/
def SetN (a : Addr) (n : Nat) : HO := .ext fun h => ∃ o es ep t, h.get? a = some o ∧ o.ExactSet ∧ o.data = .set es ep t ∧ t.fits es.size = true ∧ es.size = n
theorem strs_are : ∀ {xs : List Str} {us : List Value}, Vals (xs.map V.str) us → StrsAre us xs
  | [], _, .nil => fun i v h => by simp at h
  | x :: xs, _, .cons r t => fun i v h => by
    cases i with
    | zero =>
      obtain ⟨t, rfl⟩ := r
      cases h
      exact ⟨x, t, rfl, rfl⟩
    | succ i =>
      obtain ⟨y, t', h1, h2⟩ := strs_are t i v (by simpa using h)
      exact ⟨y, t', by simpa using h1, h2⟩
section
variable {X : Cx}
theorem call_lenS : CallR X (.builtin "len") (fun vs H Q => ∃ a n, vs = [.ref a] ∧ H a = some (SetN a n) ∧ n ≤ 100 ∧ Q (.int n) H) := by
  intro pins s σ H vs us Q I r h
  obtain ⟨a, n, rfl, ha, hz, q⟩ := h
  cases r with
  | cons r1 r2 =>
    cases r2
    cases r1
    obtain ⟨o, es, ep, t, g, hex, hd, hf, hn⟩ := (show ObjOk X.prog X.w H s.heap a (SetN a n) from I.hok a _ ha).1
    refine call_len_set g hex hd hf (by omega) ?_
    rw [hn]
    exact ⟨.int n, H, I.tok _, ⟨_, rfl⟩, q⟩
end
end L2



set_option Elab.async false
set_option linter.all false
set_option maxRecDepth 100000
set_option maxHeartbeats 400000
namespace LN
open PySem L2
/-! rows of arities -/
def rem : Nat → List Nat → Option (List Nat)
  | 0, l => some l
  | _ + 1, [] => none
  | k + 1, a :: l => rem (k + a) l
theorem rem_zero (l : List Nat) : rem 0 l = some l := by cases l <;> rfl
theorem rem_cons (k a : Nat) (l : List Nat) : rem (k + 1) (a :: l) = rem (k + a) l := rfl
theorem drop_inj {l : List Nat} {a b : Nat} (ha : a ≤ l.length) (hb : b ≤ l.length) (h : l.drop a = l.drop b) : a = b := by
  have := congrArg List.length h
  rw [List.length_drop, List.length_drop] at this
  omega
/-- the inner row that begins at i ends ahead of e -/
structure EndAt (l : List Nat) (i e : Nat) : Prop where
  lt : i < e
  le : e ≤ l.length
  rem : rem 1 (l.drop i) = some (l.drop e)
theorem EndAt.inj {l : List Nat} {i e e' : Nat} (h : EndAt l i e) (h' : EndAt l i e') : e = e' := by
  have := h.rem.symm.trans h'.rem
  exact drop_inj h.le h'.le (Option.some.inj this)
theorem drop_at {l : List Nat} {i : Nat} (h : i < l.length) : l.drop i = l[i] :: l.drop (i + 1) := List.drop_eq_getElem_cons h
/-- whole rows: behind each place some wanted ones are left -/
theorem want {l : List Nat} (h : rem 1 l = some []) : ∀ i, i ≤ l.length → ∃ w, rem w (l.drop i) = some []
  | 0, _ => ⟨1, h⟩
  | i + 1, hi => by
    obtain ⟨w, hw⟩ := want h i (by omega)
    rw [drop_at (by omega)] at hw
    cases w with
    | zero => rw [rem_zero] at hw; cases hw
    | succ w => rw [rem_cons] at hw; exact ⟨_, hw⟩
/-- signs -/
abbrev KS := List (Str × Nat)
def arN (ks : KS) (n : Nat) : Nat := (ks.getD n (default, 0)).2
def SmN (c : Nat) : Prop := 97 ≤ c ∧ c ≤ 122
def NmOk (x : Str) : Prop := 1 ≤ x.length ∧ x.length ≤ 6 ∧ ∀ c ∈ x.cps.toList, SmN c
structure KOk (ks : KS) : Prop where
  le8 : ks.length ≤ 8
  nm : ∀ k ∈ ks, NmOk k.1
  ar : ∀ k ∈ ks, k.2 ≤ 3
  nd : (ks.map (·.1)).Nodup
  z : ∃ k ∈ ks, k.2 = 0
theorem KOk.pos {ks : KS} (h : KOk ks) : 1 ≤ ks.length := by
  obtain ⟨k, hk, _⟩ := h.z
  exact List.length_pos_of_mem hk
abbrev nV (n : Nat) : V := .int (n : Int)
def PairAt (H : Hp) (p : Addr) (k : Str × Nat) : Prop := H p = some (.tup [.str k.1, nV k.2])
def KAt (H : Hp) (a : Addr) (ks : KS) : Prop := ∃ ps : List Addr, H a = some (.tup (ps.map V.ref)) ∧ Paired (PairAt H) ps ks
def TAt (H : Hp) (t : Addr) (ns : List Nat) : Prop := H t = some (.tup (ns.map nV))
abbrev arL (ks : KS) (ns : List Nat) : List Nat := ns.map (arN ks)
structure TOk (ks : KS) (ns : List Nat) : Prop where
  le : ns.length ≤ 30
  lt : ∀ n ∈ ns, n < ks.length
  rem : rem 1 (arL ks ns) = some []
theorem TOk.pos {ks : KS} {ns : List Nat} (h : TOk ks ns) : 1 ≤ ns.length := by
  have := h.rem
  cases ns with
  | nil => cases this
  | cons _ _ => simp
/-- all tracked things but the one at p are as they were -/
def Sam (p : Addr) (H H' : Hp) : Prop := ∀ b o, H b = some o → b ≠ p → H' b = some o
theorem Sam.refl {p : Addr} {H : Hp} : Sam p H H := fun _ _ h _ => h
theorem Sam.trans {p : Addr} {H H1 H2 : Hp} (a : Sam p H H1) (b : Sam p H1 H2) : Sam p H H2 := fun c o h n => b c o (a c o h n) n
theorem Sam.of {p : Addr} {H H' : Hp} (S : Same H H') : Sam p H H' := fun b o h _ => S b o h
theorem Sam.upd {p : Addr} {H : Hp} {o : HO} : Sam p H (upd H p o) := fun b o h n => by rw [upd_ne n]; exact h
theorem paired_mono {α β : Type} {R R' : α → β → Prop} : ∀ {xs : List α} {ys : List β}, Paired R xs ys → (∀ x y, R x y → R' x y) → Paired R' xs ys
  | _, _, .nil, _ => .nil
  | _, _, .cons r t, h => .cons (h _ _ r) (paired_mono t h)
theorem KAt.same {H H' : Hp} {a : Addr} {ks : KS} (S : Same H H') (h : KAt H a ks) : KAt H' a ks := by
  obtain ⟨ps, h1, h2⟩ := h
  exact ⟨ps, S _ _ h1, paired_mono h2 fun p k h => S _ _ h⟩
theorem TAt.same {H H' : Hp} {a : Addr} {ns : List Nat} (S : Same H H') (h : TAt H a ns) : TAt H' a ns := S _ _ h
theorem ne_lst {H : Hp} {p a : Addr} {xs ys : List V} (hp : H p = some (.lst xs)) (ha : H a = some (.tup ys)) : a ≠ p := ne_of ha hp (by intro z; cases z)
theorem KAt.sam {H H' : Hp} {a p : Addr} {ks : KS} {xs : List V} (hp : H p = some (.lst xs)) (S : Sam p H H') (h : KAt H a ks) : KAt H' a ks := by
  obtain ⟨ps, h1, h2⟩ := h
  exact ⟨ps, S _ _ h1 (ne_lst hp h1), paired_mono h2 fun q k h => S _ _ h (ne_lst hp h)⟩
theorem TAt.sam {H H' : Hp} {a p : Addr} {ns : List Nat} {xs : List V} (hp : H p = some (.lst xs)) (S : Sam p H H') (h : TAt H a ns) : TAt H' a ns := S _ _ h (ne_lst hp h)
theorem paired_at {α β : Type} {R : α → β → Prop} : ∀ {xs : List α} {ys : List β} (i : Nat) {x : α}, Paired R xs ys → xs[i]? = some x → ∃ y, ys[i]? = some y ∧ R x y
  | _, _, _, _, .nil, e => by simp at e
  | _, _, 0, _, .cons r _, e => by simp at e; subst e; exact ⟨_, rfl, r⟩
  | _, _, i + 1, x, .cons _ t, e => by
    obtain ⟨y, h1, h2⟩ := paired_at i t (by simpa using e)
    exact ⟨y, by simpa using h1, h2⟩
theorem paired_at' {α β : Type} {R : α → β → Prop} : ∀ {xs : List α} {ys : List β} (i : Nat) {y : β}, Paired R xs ys → ys[i]? = some y → ∃ x, xs[i]? = some x ∧ R x y
  | _, _, _, _, .nil, e => by simp at e
  | _, _, 0, _, .cons r _, e => by simp at e; subst e; exact ⟨_, rfl, r⟩
  | _, _, i + 1, x, .cons _ t, e => by
    obtain ⟨y, h1, h2⟩ := paired_at' i t (by simpa using e)
    exact ⟨y, by simpa using h1, h2⟩
/-- the pair of the n-th sign -/
theorem KAt.at {H : Hp} {a : Addr} {ks : KS} {n : Nat} (h : KAt H a ks) (hn : n < ks.length) : ∃ (ps : List Addr) (q : Addr) (x : Str), H a = some (.tup (ps.map V.ref)) ∧ ps.length = ks.length ∧ atI (ps.map V.ref) (n : Int) = some (.ref q) ∧ H q = some (.tup [.str x, nV (arN ks n)]) ∧ ks[n]? = some (x, arN ks n) := by
  obtain ⟨ps, h1, h2⟩ := h
  have e : ks[n]? = some ks[n] := List.getElem?_eq_getElem hn
  obtain ⟨q, hq, hp⟩ := paired_at' n h2 e
  have ea : arN ks n = ks[n].2 := by unfold arN; rw [List.getD_eq_getElem?_getD, e]; rfl
  refine ⟨ps, q, ks[n].1, h1, Paired.length h2, atI_nat (by rw [List.getElem?_map, hq]; rfl), ?_, ?_⟩
  · rw [ea]; exact hp
  · rw [ea]; exact e
theorem TAt.at {H : Hp} {t : Addr} {ns : List Nat} {i : Nat} (h : i < ns.length) : atI (ns.map nV) (i : Int) = some (nV ns[i]) := atI_nat (by rw [List.getElem?_map, List.getElem?_eq_getElem h]; rfl)
end LN


set_option Elab.async false
set_option linter.all false
set_option maxRecDepth 100000
set_option maxHeartbeats 1600000
namespace L2
open PySem PySem.Spec PyProof.Rows
theorem reads_bools {h : Heap} : ∀ {bs : List Bool} {its : List Value}, Vals (bs.map V.bl) its → ReadsAll h its (bs.map PyData.bool) []
  | [], _, .nil => .nil
  | b :: bs, _, .cons r t => by
    obtain rfl := (show _ = Value.bool b from r)
    exact ReadsAll.cons (as := []) (bs := []) (.bool b) (reads_bools t)
section
variable {X : Cx}
/-- xs.count(True), a list of truths -/
theorem mt_countB : MtR X "list.count" (fun x xs H Q => ∃ (a : Addr) (bs : List Bool) (b : Bool), x = .ref a ∧ xs = [.bl b] ∧ SqL X.K H a (bs.map V.bl) ∧ Q (.int (countIn (.bool b) (bs.map PyData.bool))) H) := by
  intro pins s σ H x xs v us Q I rx rxs h
  obtain ⟨a, bs, b, rfl, rfl, hs, q⟩ := h
  obtain rfl : v = Value.ref a := rx
  cases rxs with
  | cons r1 r2 =>
    cases r2
    cases (show _ = Value.bool b from r1)
    obtain ⟨its, rv, pl, hz⟩ := I.list hs
    obtain ⟨o, n, ho, hc, hdn, hd⟩ := pl
    refine count_list_bools (vs := its) (xs := bs.map PyData.bool) (as := []) (hp := s.heap) ⟨o, ho, hc, n, hd⟩ (reads_bools rv) ?_ ⟨.int _, H, I.tok _, ⟨_, rfl⟩, q⟩
    rw [List.all_map, List.all_eq_true]
    intro y _
    rfl
/-- written texts -/
inductive StrEs : List Expr → List Str → Prop where
  | nil : StrEs [] []
  | cons {x : Str} {j : Nat} {pos : Pos} {es : List Expr} {xs : List Str} : StrEs es xs → StrEs (.Constant (.str x) j pos :: es) (x :: xs)
theorem pa_strs {es : List Expr} {xs : List Str} (h : StrEs es xs) : PA X es (fun _ H Q => Q (xs.map V.str) H) := by
  induction h with
  | nil => exact pa_nil
  | cons _ ih => exact pa_cons pe_str ih rfl
def strsOf : List Expr → Option (List Str)
  | [] => some []
  | .Constant (.str x) _ _ :: r => (strsOf r).map (x :: ·)
  | _ => none
theorem strs_of : ∀ {es : List Expr} {xs : List Str}, strsOf es = some xs → StrEs es xs
  | [], xs, h => by cases h; exact .nil
  | e :: r, xs, h => by
    unfold strsOf at h
    split at h
    · rename_i e1; cases e1
    · rename_i x j pos r' e1
      cases e1
      obtain ⟨ys, h1, rfl⟩ := Option.map_eq_some_iff.mp h
      exact .cons (strs_of h1)
    · cases h
theorem pe_isiC {e : Expr} {te : TE} {x : Str} {p p2 pos : Pos} {D : Addr} (he : PE X e te) (hg : Gl X "isinstance") (hi : X.mg "isinstance" = none) (hgx : Gl X x) (hm : X.mg x = some (.ref D)) (hst : starEach [e, .Name x p2] X.env = (false, eval e X.env) :: starEach [.Name x p2] X.env := by rfl) (hdb : (x == ("__debug__" : Str)) = false := by decide) :
    PE X (.Call (.Name "isinstance" p) [e, .Name x p2] [] pos) (tCB (rIsr X.K) (tCons te (tCons (tC (.ref D)) tNil))) :=
  pe_callB call_isr hg hi (by decide +kernel) (pa_cons he (pa_cons (pe_glob (v := .ref D) hgx hm rfl hdb) pa_nil) hst) (by decide) (by decide) hst rfl
theorem pe_isiT {e : Expr} {te : TE} {x : Str} {p p2 pos : Pos} {n : String} (he : PE X e te) (hg : Gl X "isinstance") (hi : X.mg "isinstance" = none) (hgx : Gl X x) (hm : X.mg x = none) (hb : bootBuiltins x = some (.type n)) (hst : starEach [e, .Name x p2] X.env = (false, eval e X.env) :: starEach [.Name x p2] X.env := by rfl) (hn : x ≠ "__name__" := by decide) (hdb : (x == ("__debug__" : Str)) = false := by decide) :
    PE X (.Call (.Name "isinstance" p) [e, .Name x p2] [] pos) (tCB (rIsr X.K) (tCons te (tCons (tC (.ty n)) tNil))) :=
  pe_callB call_isr hg hi (by decide +kernel) (pa_cons he (pa_cons (pe_bltn (v := .ty n) hgx hm hb rfl hn hdb) pa_nil) hst) (by decide) (by decide) hst rfl
end
end L2
namespace L2
open PySem PySem.Spec PyProof.Rows
section
variable {X : Cx}
def CDivL (i j : Int) : Prop := 0 < j ∧ j.natAbs.log2 < 100
theorem op_fdivL : OpR X (binaryOp .FloorDiv) (rI CDivL fun i j => .int (i / j)) := opI fun i j _ _ _ _ _ hc q => by
  have h1 : (0 : Int) < j := hc.1
  exact floordiv_int (by omega) (by rw [Int.fdiv_eq_ediv_of_nonneg i (by omega)]; exact q) (.inl (PyProof.noPylong_of_log2 (Nat.lt_trans hc.2 (by decide +kernel))))
end
end L2
namespace L2
open PySem PySem.Spec PyProof.Rows
theorem lc_str {x : Str} {g : TG} {tt : TT} {te : TE} {vs : List Nat} {σ : St} {H1 : Hp} {D : Addr} {Qd : Hp → Prop} (Pv : Nat → Hp → Prop) (h0 : Pv 0 (upd H1 D (.lst [])))
    (hs : ∀ i c H, x.cps[i]? = some c → Pv i H → g (.str ⟨#[c]⟩) (wipe σ vs) H fun σ2 H2 => wipe σ2 vs = wipe σ vs ∧ tt σ2 H2 fun b H3 =>
      if b = true then te σ2 H3 fun y H4 => ∃ acc, H4 D = some (.lst acc) ∧ acc.length < sizeLine ∧ Pv (i + 1) (upd H4 D (.lst (acc ++ [y]))) else Pv (i + 1) H3) (hd : ∀ H, Pv x.cps.size H → Qd H) :
    ∃ W : Nat → Nat → Hp → Prop, (∃ m, W 0 m (upd H1 D (.lst []))) ∧ ∀ i m H, W i m H →
      ((Its x).stop i H ∧ Qd H) ∨ ((Its x).go i H ∧ ∃ Nx : Hp → Prop, (∀ H', Nx H' → ∃ m', m' < m ∧ W (i + 1) m' H') ∧ ∀ v H', (Its x).yld i H v H' → g v (wipe σ vs) H' fun σ2 H2 => wipe σ2 vs = wipe σ vs ∧ tt σ2 H2 fun b H3 =>
        if b = true then te σ2 H3 fun y H4 => ∃ acc, H4 D = some (.lst acc) ∧ acc.length < sizeLine ∧ Nx (upd H4 D (.lst (acc ++ [y]))) else Nx H3) := by
  refine ⟨fun i m H => m = x.cps.size - i ∧ i ≤ x.cps.size ∧ Pv i H, ⟨x.cps.size, by simp, Nat.zero_le _, h0⟩, ?_⟩
  rintro i m H ⟨rfl, hi, p⟩
  by_cases hlt : i < x.cps.size
  · refine .inr ⟨hlt, Pv (i + 1), fun H' p' => ⟨x.cps.size - (i + 1), by omega, rfl, hlt, p'⟩, fun v H' y => ?_⟩
    obtain ⟨e, c, hc, y⟩ := y
    subst e y
    exact hs i c _ hc p
  · have e : i = x.cps.size := by omega
    subst e
    exact .inl ⟨Nat.le_refl _, hd H p⟩
end L2
namespace L2
open PySem PySem.Spec PyProof.Rows
theorem Same.seqT {K : PySem.W.Frag} {H H' : Hp} {a : Addr} {xs : List V} (e : Same H H') (h : SqT K H a xs) : SqT K H' a xs := by
  rcases h with (h | ⟨o, h⟩) | h
  · exact .inl (.inl (e _ _ h))
  · exact .inl (.inr ⟨o, e _ _ h⟩)
  · exact .inr h
theorem Same.over {H H' : Hp} {D : Addr} {o : HO} (S : Same H H') (h : H D = none) : Same H (upd H' D o) := fun b q z => by rw [upd_ne (ne_of_none z h)]; exact S b q z
theorem lc_valsT {K : PySem.W.Frag} {a : Addr} {xs ys : List V} {g : TG} {te : TE} {vs : List Nat} {σ : St} {H1 : Hp} {D : Addr} {Qd : Hp → Prop} (hD : H1 D = none) (hlen : xs.length ≤ 1000) (hy : ys.length = xs.length) (ha : SqT K H1 a xs)
    (step : ∀ (i : Nat) (x y : V) (H : Hp) (Q' : VK), xs[i]? = some x → ys[i]? = some y → Same H1 H → (∀ H', Same H H' → Q' y H') → g x (wipe σ vs) H fun σ2 H2 => wipe σ2 vs = wipe σ vs ∧ te σ2 H2 Q') (hd : ∀ H', Same H1 H' → H' D = some (.lst ys) → Qd H') :
    ∃ W : Nat → Nat → Hp → Prop, (∃ m, W 0 m (upd H1 D (.lst []))) ∧ ∀ i m H, W i m H →
      ((Itt K a).stop i H ∧ Qd H) ∨ ((Itt K a).go i H ∧ ∃ Nx : Hp → Prop, (∀ H', Nx H' → ∃ m', m' < m ∧ W (i + 1) m' H') ∧ ∀ x H', (Itt K a).yld i H x H' → g x (wipe σ vs) H' fun σ2 H2 => wipe σ2 vs = wipe σ vs ∧ tYes σ2 H2 fun b H3 =>
        if b = true then te σ2 H3 fun y H4 => ∃ acc, H4 D = some (.lst acc) ∧ acc.length < sizeLine ∧ Nx (upd H4 D (.lst (acc ++ [y]))) else Nx H3) := by
  refine lc_tup (xs := xs) (fun i H => Same H1 H ∧ H D = some (.lst (ys.take i))) ⟨(Same.refl _).over hD, by rw [upd_same]; rfl⟩ (fun i H _ h => h.1.seqT ha) ?_ ?_
  · rintro i x H hx ⟨S, hH⟩
    have hi := (List.getElem?_eq_some_iff.mp hx).1
    have hyi : ys[i]? = some (ys[i]'(by omega)) := List.getElem?_eq_getElem (by omega)
    refine step i x _ H _ hx hyi S fun H' S' => ?_
    refine ⟨_, S' _ _ hH, by rw [List.length_take]; exact small1000 (by omega), (S.trans S').over hD, ?_⟩
    rw [upd_same, List.take_add_one, hyi]
    rfl
  · rintro H ⟨S, hH⟩
    rw [← hy, List.take_length] at hH
    exact hd H S hH
theorem lc_valsL {K : PySem.W.Frag} {a : Addr} {xs ys : List V} {g : TG} {te : TE} {vs : List Nat} {σ : St} {H1 : Hp} {D : Addr} {Qd : Hp → Prop} (hD : H1 D = none) (hlen : xs.length ≤ 1000) (hy : ys.length = xs.length) (ha : SqL K H1 a xs)
    (step : ∀ (i : Nat) (x y : V) (H : Hp) (Q' : VK), xs[i]? = some x → ys[i]? = some y → Same H1 H → (∀ H', Same H H' → Q' y H') → g x (wipe σ vs) H fun σ2 H2 => wipe σ2 vs = wipe σ vs ∧ te σ2 H2 Q') (hd : ∀ H', Same H1 H' → H' D = some (.lst ys) → Qd H') :
    ∃ W : Nat → Nat → Hp → Prop, (∃ m, W 0 m (upd H1 D (.lst []))) ∧ ∀ i m H, W i m H →
      ((Itl K a).stop i H ∧ Qd H) ∨ ((Itl K a).go i H ∧ ∃ Nx : Hp → Prop, (∀ H', Nx H' → ∃ m', m' < m ∧ W (i + 1) m' H') ∧ ∀ x H', (Itl K a).yld i H x H' → g x (wipe σ vs) H' fun σ2 H2 => wipe σ2 vs = wipe σ vs ∧ tYes σ2 H2 fun b H3 =>
        if b = true then te σ2 H3 fun y H4 => ∃ acc, H4 D = some (.lst acc) ∧ acc.length < sizeLine ∧ Nx (upd H4 D (.lst (acc ++ [y]))) else Nx H3) := by
  refine lc_list (xs := xs) (fun i H => Same H1 H ∧ H D = some (.lst (ys.take i))) ⟨(Same.refl _).over hD, by rw [upd_same]; rfl⟩ (fun i H _ h => h.1.seq ha) ?_ ?_
  · rintro i x H hx ⟨S, hH⟩
    have hi := (List.getElem?_eq_some_iff.mp hx).1
    have hyi : ys[i]? = some (ys[i]'(by omega)) := List.getElem?_eq_getElem (by omega)
    refine step i x _ H _ hx hyi S fun H' S' => ?_
    refine ⟨_, S' _ _ hH, by rw [List.length_take]; exact small1000 (by omega), (S.trans S').over hD, ?_⟩
    rw [upd_same, List.take_add_one, hyi]
    rfl
  · rintro H ⟨S, hH⟩
    rw [← hy, List.take_length] at hH
    exact hd H S hH
end L2
namespace L2
open PySem PySem.Spec PyProof.Rows
section
variable {X : Cx} {CX : CXT} {k : Nat} {f C : Addr} {fd : FuncData} {ps ks : List Str} {sp : Sp} {E : XK} {x : Str} {p pos : Pos} {kws : List Keyword} {tk : TA} {g : List Value → List Value → List Value} {gV : List V → List V → List V}
end
end L2
namespace LN
open PySem L2
theorem sIx_nat {n d i : Nat} (h : i ≤ n) : HT.sIx n d (some (i : Int)) = i := by
  unfold HT.sIx
  dsimp only
  rw [if_neg (by omega)]
  have : ((i : Nat) : Int).toNat = i := by simp
  rw [this]
  exact Nat.min_eq_left h
end LN
namespace LN
open PySem L2
def PotAt (H : Hp) (p : Addr) : Prop := ∃ n : Int, H p = some (.lst [.int n])
theorem Sam.over {p : Addr} {H H' : Hp} {D : Addr} {o : HO} (S : Sam p H H') (h : H D = none) : Sam p H (L2.upd H' D o) := fun b q z n => by rw [upd_ne (ne_of_none z h)]; exact S b q z n
theorem Sam.free {p : Addr} {H H' : Hp} (S : Sam p H H') {l : Addr} (n : l ≠ p) (h : H' l = none) : H l = none := by
  cases q : H l with
  | none => rfl
  | some o =>
    rw [S l o q n] at h
    cases h
theorem PotAt.over {H : Hp} {p D : Addr} {o : HO} (h : PotAt H p) (hD : H D = none) : PotAt (L2.upd H D o) p := by
  obtain ⟨n, h⟩ := h
  exact ⟨n, by rw [upd_ne (ne_of_none h hD)]; exact h⟩
theorem PotAt.upd {H : Hp} {p D : Addr} {o : HO} (h : PotAt H p) (hD : p ≠ D) : PotAt (L2.upd H D o) p := by
  obtain ⟨n, h⟩ := h
  exact ⟨n, by rw [upd_ne hD]; exact h⟩
theorem PotAt.same {H H' : Hp} {p : Addr} (S : Same H H') (h : PotAt H p) : PotAt H' p := by
  obtain ⟨n, h⟩ := h
  exact ⟨n, S _ _ h⟩
theorem mod_nat {n : Int} {m : Nat} (h : 0 < m) : ∃ j : Nat, j < m ∧ n % (m : Int) = (j : Int) := by
  have h1 := Int.emod_nonneg n (b := (m : Int)) (by omega)
  have h2 := Int.emod_lt_of_pos n (b := (m : Int)) (by omega)
  exact ⟨(n % (m : Int)).toNat, by omega, by omega⟩
theorem joinL_nil : ∀ ps : List (List Nat), TL.joinL [] ps = ps.flatten
  | [] => rfl
  | [p] => by show p = _; simp
  | p :: q :: r => by
    show p ++ ([] ++ TL.joinL [] (q :: r)) = _
    rw [joinL_nil (q :: r)]
    simp
abbrev sgn (c : Nat) : Str := ⟨#[c]⟩
theorem join_sgn (cs : List Nat) : (Txt.join "" (cs.map sgn)).cps.toList = cs := by
  have e := TL.tl_join "" (cs.map sgn)
  rw [TL.join_eq]
  refine e.trans ?_
  show TL.joinL [] _ = _
  rw [joinL_nil, List.map_map]
  induction cs with
  | nil => rfl
  | cons c cs ih => rw [List.map_cons, List.flatten_cons, ih (TL.tl_join "" (cs.map sgn))]; rfl
theorem nm_join {cs : List Nat} (h1 : 1 ≤ cs.length) (h6 : cs.length ≤ 6) (h : ∀ c ∈ cs, SmN c) : NmOk (Txt.join "" (cs.map sgn)) := by
  have e := join_sgn cs
  have el : (Txt.join "" (cs.map sgn)).length = cs.length := by
    show (Txt.join "" (cs.map sgn)).cps.size = _
    rw [← Array.length_toList, e]
  exact ⟨by omega, by omega, fun c hc => h c (by rw [e] at hc; exact hc)⟩
end LN
namespace LN
open PySem L2
/-- all tuples stay -/
def Tp (H H' : Hp) : Prop := ∀ b xs, H b = some (.tup xs) → H' b = some (.tup xs)
theorem Tp.refl {H : Hp} : Tp H H := fun _ _ h => h
theorem Tp.trans {H H1 H2 : Hp} (a : Tp H H1) (b : Tp H1 H2) : Tp H H2 := fun c o h => b c o (a c o h)
theorem Tp.of {H H' : Hp} (S : Same H H') : Tp H H' := fun b xs h => S _ _ h
theorem Tp.sam {p : Addr} {H H' : Hp} (hp : PotAt H p) (S : Sam p H H') : Tp H H' := fun b xs h => by
  obtain ⟨n, hp⟩ := hp
  exact S _ _ h (ne_lst hp h)
theorem Tp.lst {l : Addr} {H : Hp} {xs ys : List V} (h : H l = some (.lst xs)) : Tp H (upd H l (.lst ys)) := fun b zs hb => by rw [upd_ne (ne_lst h hb)]; exact hb
theorem Tp.pairs {H H' : Hp} (S : Tp H H') {ps : List Addr} {ks : KS} (h : Paired (PairAt H) ps ks) : Paired (PairAt H') ps ks := paired_mono h fun p k z => S _ _ z
theorem inV_str {x : Str} {xs : List Str} : inV (.str x) (xs.map V.str) = decide (x ∈ xs) := by
  induction xs with
  | nil => rfl
  | cons y ys ih =>
    show (eqV (.str y) (.str x) || inV (.str x) (ys.map V.str)) = _
    rw [ih]
    show ((y == x) || _) = _
    by_cases e : y = x
    · subst e
      simp
    · have e' : ¬ x = y := fun z => e z.symm
      simp [e, e']
theorem inV_nat {x : Nat} {xs : List Nat} : inV (nV x) (xs.map nV) = decide (x ∈ xs) := by
  induction xs with
  | nil => rfl
  | cons y ys ih =>
    show (eqV (nV y) (nV x) || inV (nV x) (ys.map nV)) = _
    rw [ih]
    show (((y : Int) == (x : Int)) || _) = _
    by_cases e : y = x
    · subst e
      simp
    · have e' : ¬ x = y := fun z => e z.symm
      have e2 : ((y : Int) == (x : Int)) = false := by
        rw [beq_eq_false_iff_ne]
        omega
      simp [e2, e']
theorem flat_strs (xs : List Str) : (xs.map V.str).all flatV = true := by
  rw [List.all_map, List.all_eq_true]
  intro y _
  rfl
theorem flat_nats (xs : List Nat) : (xs.map nV).all flatV = true := by
  rw [List.all_map, List.all_eq_true]
  intro y _
  rfl
theorem paired_snoc {α β : Type} {R : α → β → Prop} {x : α} {y : β} (r : R x y) : ∀ {xs : List α} {ys : List β}, Paired R xs ys → Paired R (xs ++ [x]) (ys ++ [y])
  | _, _, .nil => .cons r .nil
  | _, _, .cons q t => .cons q (paired_snoc r t)
theorem paired_set {α β : Type} {R : α → β → Prop} {x : α} {y : β} (r : R x y) : ∀ {xs : List α} {ys : List β} (i : Nat), Paired R xs ys → Paired R (xs.set i x) (ys.set i y)
  | _, _, _, .nil => .nil
  | _, _, 0, .cons _ t => .cons r t
  | _, _, i + 1, .cons q t => .cons q (paired_set r i t)
end LN
namespace LN
open PySem L2
def natD (ns : List Nat) : List PyData := ns.map fun n : Nat => .int (n : Int)
theorem seq_new {K : PySem.W.Frag} {H H' : Hp} {a p : Addr} {o : HO} {xs : List V} (h : SqL K H a xs) (hp : H p = none) (S : Sam p (upd H p o) H') : SqL K H' a xs := by
  rcases h with (h | ⟨o', h⟩) | h
  · have n := ne_of_none h hp
    exact .inl (.inl (S _ _ (by rw [upd_ne n]; exact h) n))
  · have n := ne_of_none h hp
    exact .inl (.inr ⟨o', S _ _ (by rw [upd_ne n]; exact h) n⟩)
  · exact .inr h
end LN


set_option Elab.async false
set_option linter.all false
set_option maxRecDepth 100000
set_option maxHeartbeats 1000000
namespace L2
open PySem PySem.Spec PyProof.Rows
/-! ### things of any kind: None, truths, numbers, texts, lists (but the one at p), tuples, dicts of numbers -/
mutual
inductive Dq (H : Hp) (p : Addr) : V → PyData → Prop
  | non : Dq H p .non .none
  | bl (b : Bool) : Dq H p (.bl b) (.bool b)
  | int (i : Int) : Dq H p (.int i) (.int i)
  | str (x : Str) : Dq H p (.str x) (.str x)
  | lst {a : Addr} {xs : List V} {ds : List PyData} : H a = some (.lst xs) → a ≠ p → a ≠ sysModules → DqAll H p xs ds → Dq H p (.ref a) (.list ds)
  | tup {a : Addr} {xs : List V} {ds : List PyData} : H a = some (.tup xs) → DqAll H p xs ds → Dq H p (.ref a) (.tuple ds)
  | dct {a : Addr} {ijs : List (Int × Int)} : H a = some (.dK (ijs.map fun x => (Sum.inl x.1, V.int x.2))) → Dq H p (.ref a) (.dict (ijs.map fun x => (PyData.int x.1, PyData.int x.2)))
inductive DqAll (H : Hp) (p : Addr) : List V → List PyData → Prop
  | nil : DqAll H p [] []
  | cons {v : V} {vs : List V} {d : PyData} {ds : List PyData} : Dq H p v d → DqAll H p vs ds → DqAll H p (v :: vs) (d :: ds)
end
/-- the pot is a list, and all else stays -/
structure Still (p : Addr) (H H' : Hp) : Prop where
  pot : ∃ xs, H p = some (.lst xs)
  keep : ∀ b o, H b = some o → b ≠ p → H' b = some o
mutual
theorem Dq.still {H H' : Hp} {p : Addr} (S : Still p H H') : ∀ (d : PyData) (v : V), Dq H p v d → Dq H' p v d
  | .none, _, h => by cases h; exact .non
  | .bool b, _, h => by cases h; exact .bl b
  | .int i, _, h => by cases h; exact .int i
  | .str x, _, h => by cases h; exact .str x
  | .list ds, _, h => by
    cases h with
    | lst e n m ha => exact .lst (S.keep _ _ e n) n m (DqAll.still S ds _ ha)
  | .tuple ds, _, h => by
    cases h with
    | tup e ha =>
      obtain ⟨xs, hp⟩ := S.pot
      exact .tup (S.keep _ _ e (ne_of e hp (by intro z; cases z))) (DqAll.still S ds _ ha)
  | .dict kvs, _, h => by
    cases h with
    | dct e =>
      obtain ⟨xs, hp⟩ := S.pot
      exact .dct (S.keep _ _ e (ne_of e hp (by intro z; cases z)))
theorem DqAll.still {H H' : Hp} {p : Addr} (S : Still p H H') : ∀ (ds : List PyData) (vs : List V), DqAll H p vs ds → DqAll H' p vs ds
  | [], _, h => by cases h; exact .nil
  | d :: ds, _, h => by
    cases h with
    | cons h1 h2 => exact .cons (Dq.still S d _ h1) (DqAll.still S ds _ h2)
end
theorem DqAll.length {H : Hp} {p : Addr} : ∀ {vs : List V} {ds : List PyData}, DqAll H p vs ds → vs.length = ds.length
  | _, _, .nil => rfl
  | _, _, .cons _ t => by rw [List.length_cons, List.length_cons, t.length]
theorem DqAll.append {H : Hp} {p : Addr} : ∀ {vs ws : List V} {ds es : List PyData}, DqAll H p vs ds → DqAll H p ws es → DqAll H p (vs ++ ws) (ds ++ es)
  | _, _, _, _, .nil, h => h
  | _, _, _, _, .cons r t, h => .cons r (t.append h)
theorem DqAll.take {H : Hp} {p : Addr} : ∀ {vs : List V} {ds : List PyData} (n : Nat), DqAll H p vs ds → DqAll H p (vs.take n) (ds.take n)
  | _, _, 0, _ => .nil
  | _, _, _ + 1, .nil => .nil
  | _, _, n + 1, .cons r t => .cons r (t.take n)
theorem DqAll.drop {H : Hp} {p : Addr} : ∀ {vs : List V} {ds : List PyData} (n : Nat), DqAll H p vs ds → DqAll H p (vs.drop n) (ds.drop n)
  | _, _, 0, h => h
  | _, _, _ + 1, .nil => .nil
  | _, _, n + 1, .cons _ t => t.drop n
theorem DqAll.reverse {H : Hp} {p : Addr} : ∀ {vs : List V} {ds : List PyData}, DqAll H p vs ds → DqAll H p vs.reverse ds.reverse
  | _, _, .nil => .nil
  | _, _, .cons r t => by
    rw [List.reverse_cons, List.reverse_cons]
    exact t.reverse.append (.cons r .nil)
theorem DqAll.get {H : Hp} {p : Addr} : ∀ {vs : List V} {ds : List PyData} {i : Nat} {d : PyData}, DqAll H p vs ds → ds[i]? = some d → ∃ v, vs[i]? = some v ∧ Dq H p v d
  | _, _, _, _, .nil, e => by simp at e
  | _, _, 0, _, .cons r _, e => by simp at e; subst e; exact ⟨_, rfl, r⟩
  | _, _, i + 1, d, .cons _ t, e => by
    obtain ⟨v, h1, h2⟩ := t.get (i := i) (d := d) (by simpa using e)
    exact ⟨v, by simpa using h1, h2⟩
theorem DqAll.get' {H : Hp} {p : Addr} : ∀ {vs : List V} {ds : List PyData} {i : Nat} {v : V}, DqAll H p vs ds → vs[i]? = some v → ∃ d, ds[i]? = some d ∧ Dq H p v d
  | _, _, _, _, .nil, e => by simp at e
  | _, _, 0, _, .cons r _, e => by simp at e; subst e; exact ⟨_, rfl, r⟩
  | _, _, i + 1, v, .cons _ t, e => by
    obtain ⟨d, h1, h2⟩ := t.get' (i := i) (v := v) (by simpa using e)
    exact ⟨d, by simpa using h1, h2⟩
theorem DqAll.nats {H : Hp} {p : Addr} : ∀ ns : List Nat, DqAll H p (ns.map LN.nV) (LN.natD ns)
  | [] => .nil
  | n :: ns => .cons (.int n) (DqAll.nats ns)
/-- its type -/
def tyD : PyData → String
  | .none => "NoneType"
  | .bool _ => "bool"
  | .int _ => "int"
  | .str _ => "str"
  | .list _ => "list"
  | .tuple _ => "tuple"
  | .dict _ => "dict"
theorem Dq.ty {K : PySem.W.Frag} {H : Hp} {p : Addr} {v : V} {d : PyData} (h : Dq H p v d) : TyR K H v (.type (tyD d)) := by
  cases h with
  | non => exact .old .non
  | bl b => exact .old (.bl b)
  | int i => exact .old (.int i)
  | str x => exact .old (.str x)
  | lst e _ _ _ => exact .old (.lst e)
  | tup e _ => exact .old (.tup e)
  | dct e => exact .old (.dK e)
def isI : PyData → Bool
  | .int _ => true
  | .bool _ => true
  | _ => false
def isB : PyData → Bool
  | .bool _ => true
  | _ => false
def isT : PyData → Bool
  | .tuple _ => true
  | _ => false
def isS : PyData → Bool
  | .str _ => true
  | _ => false
theorem kit_int {K : PySem.W.Frag} (d : PyData) : PySem.W.kitOne K (.type (tyD d)) (.type "int") = some (isI d) := by cases d <;> kernel_rfl
theorem kit_bool {K : PySem.W.Frag} (d : PyData) : PySem.W.kitOne K (.type (tyD d)) (.type "bool") = some (isB d) := by cases d <;> kernel_rfl
theorem kit_tuple {K : PySem.W.Frag} (d : PyData) : PySem.W.kitOne K (.type (tyD d)) (.type "tuple") = some (isT d) := by cases d <;> kernel_rfl
theorem kit_str {K : PySem.W.Frag} (d : PyData) : PySem.W.kitOne K (.type (tyD d)) (.type "str") = some (isS d) := by cases d <;> kernel_rfl
section
variable {X : Cx} {pins : List (Addr × Obj)} {σ : St} {H : Hp} {s : Shared} {p : Addr}
theorem kv_reads {P : Program} {w : World} {h : Heap} : ∀ {ijs : List (Int × Int)} {vs : List (Key × Value)} {es : List DictEntry}, KV (ijs.map fun x => ((Sum.inl x.1 : Key), V.int x.2)) vs → Pairs (mixKind P w) es vs →
    ReadsAll h (es.map (·.key)) (ijs.map fun x => PyData.int x.1) [] ∧ ReadsAll h (es.map (·.val)) (ijs.map fun x => PyData.int x.2) []
  | [], _, _, .nil, .nil => ⟨.nil, .nil⟩
  | x :: ijs, _, _, .cons r t, .cons (e := e) k1 k2 k3 => by
    obtain ⟨q1, q2⟩ := kv_reads (h := h) t k3
    obtain ⟨r1, r2⟩ := r
    obtain ⟨t2, e2⟩ := r2
    rw [← r1] at k1
    have k1' : keyIs (Sum.inl x.1) e.key = true := k1
    obtain ⟨t1, e1⟩ := Value.isInt_shape (k := x.1) (v := e.key) k1'
    refine ⟨?_, ?_⟩
    · show ReadsAll h (e.key :: _) (PyData.int x.1 :: _) ([] ++ [])
      rw [e1]
      exact .cons (.int _ _) q1
    · show ReadsAll h (e.val :: _) (PyData.int x.2 :: _) ([] ++ [])
      rw [k2, e2]
      exact .cons (.int _ _) q2
mutual
theorem Dq.reads (I : Inv X pins σ H s) : ∀ (d : PyData) (v : V) (u : Value), Dq H p v d → RelV v u → ∃ as, Reads s.heap u d as ∧ sysModules ∉ as
  | .none, _, _, h, r => by
    cases h
    cases r
    exact ⟨_, Reads.none, by simp⟩
  | .bool b, _, _, h, r => by
    cases h
    cases r
    exact ⟨_, Reads.bool b, by simp⟩
  | .int i, _, _, h, r => by
    cases h
    obtain ⟨t, rfl⟩ := r
    exact ⟨_, Reads.int i t, by simp⟩
  | .str x, _, _, h, r => by
    cases h
    obtain ⟨t, rfl⟩ := r
    exact ⟨_, Reads.str x t, by simp⟩
  | .list ds, _, _, h, r => by
    cases h with
    | lst e n m ha =>
      cases r
      obtain ⟨its, rv, ⟨o, n', ho, hc, _, hd⟩, _⟩ := I.list (SqL.of (K := X.K) e)
      obtain ⟨as, hr, hn⟩ := Dq.readsAll I ds _ its ha rv
      refine ⟨_, Reads.list ho hc hd hr, ?_⟩
      rw [List.mem_cons]
      rintro (z | z)
      · exact m z.symm
      · exact hn z
  | .tuple ds, _, _, h, r => by
    cases h with
    | tup e ha =>
      cases r
      obtain ⟨its, rv, ⟨o, ho, hc, n, hd⟩, _⟩ := I.tuple (SqT.of (K := X.K) e)
      obtain ⟨as, hr, hn⟩ := Dq.readsAll I ds _ its ha rv
      exact ⟨_, Reads.tuple ho hc hd hr, hn⟩
  | .dict kvs, v, u, h, r => by
    generalize hk : kvs = kvs' at h
    cases h with
    | @dct a ijs e =>
      cases r
      obtain ⟨_, hm, vs, rv, o, es, ep, ho, hc, hd, _, pr, _⟩ := dk_of I.hok e
      obtain ⟨q1, q2⟩ := kv_reads (h := s.heap) rv pr
      refine ⟨_, Reads.dict (as := []) (bs := []) ho hc.1 hd ?_ ?_, ?_⟩
      · rw [List.map_map]; exact q1
      · rw [List.map_map]; exact q2
      · have : a ≠ sysModules := by simpa using hm
        simp
        exact fun z => this z.symm
theorem Dq.readsAll (I : Inv X pins σ H s) : ∀ (ds : List PyData) (vs : List V) (us : List Value), DqAll H p vs ds → Vals vs us → ∃ as, ReadsAll s.heap us ds as ∧ sysModules ∉ as
  | [], _, _, h, r => by
    cases h
    cases r
    exact ⟨_, ReadsAll.nil, by simp⟩
  | d :: ds, _, _, h, r => by
    cases h with
    | cons h1 h2 =>
      cases r with
      | cons r1 r2 =>
        obtain ⟨as, q1, n1⟩ := Dq.reads I d _ _ h1 r1
        obtain ⟨bs, q2, n2⟩ := Dq.readsAll I ds _ _ h2 r2
        refine ⟨_, ReadsAll.cons q1 q2, ?_⟩
        rw [List.mem_append]
        rintro (z | z)
        · exact n1 z
        · exact n2 z
end
end
end L2


set_option Elab.async false
set_option linter.all false
set_option maxRecDepth 100000
set_option maxHeartbeats 1000000
namespace HT
open PySem PySem.Spec PyProof.Rows
section
variable {prog : Program} {w : World} {A : Around} {E : Value → Shared → Prop} {s : Shared}
theorem adjust_rev (n : Nat) : Builtin.Slice.sliceAdjust none none (-1) (n : Int) = ((n : Int) - 1, -1) := by
  first | rfl | simp [Builtin.Slice.sliceAdjust]
theorem places_rev (n : Nat) : Builtin.Slice.slicePlaces ((n : Int) - 1) (-1) (-1) = n := by
  unfold Builtin.Slice.slicePlaces
  rw [if_neg (by decide)]
  by_cases h : (n : Int) - 1 > -1
  · rw [if_pos h, show ((n : Int) - 1 - -1 - 1) = (n : Int) - 1 by omega, show (- -1 : Int) = 1 by decide, Int.ediv_one]
    omega
  · rw [if_neg h]
    omega
theorem fm_congr {α β : Type} {f g : α → Option β} : ∀ {l : List α}, (∀ x ∈ l, f x = g x) → l.filterMap f = l.filterMap g
  | [], _ => rfl
  | x :: l, h => by
    rw [List.filterMap_cons, List.filterMap_cons, h x (List.mem_cons_self ..), fm_congr fun y hy => h y (List.mem_cons_of_mem _ hy)]
theorem sliceApplied_rev {sl : Addr} {t : Tok} {n : Nat} {Q : Int × Int × Nat → Shared → Prop} (hs : s.heap.IsSliceOf sl .none .none (.int (-1) t))
    (h : Q ((n : Int) - 1, -1, n) s) : wpAny (model prog w) A (Builtin.Slice.sliceApplied (.ref sl) (pure (n : Int))) Q E s := by
  obtain ⟨os, hos, hcs, hds⟩ := id hs
  unfold Builtin.Slice.sliceApplied Builtin.Slice.sliceFields
  refine wpAny_bind (wpAny_bind (wpAny_field hos hds (x := .none) rfl (wpAny_bind (wpAny_field hos hds (x := .none) rfl (wpAny_bind (wpAny_field hos hds (x := .int (-1) t) rfl (wpAny_pure ?_)))))))
  refine wpAny_bind (slicePart_int ?_)
  show wpAny _ _ (if ((-1 : Int) == 0) = true then _ else _) _ _ s
  rw [if_neg (by decide)]
  refine wpAny_bind (slicePart_none (wpAny_bind (slicePart_none (wpAny_bind (wpAny_pure ?_)))))
  show wpAny _ _ (match Builtin.Slice.sliceAdjust none none (-1) (n : Int) with | (lo, hi) => pure (lo, (-1 : Int), Builtin.Slice.slicePlaces lo hi (-1))) _ _ s
  rw [adjust_rev n]
  show wpAny _ _ (pure ((n : Int) - 1, (-1 : Int), Builtin.Slice.slicePlaces ((n : Int) - 1) (-1) (-1))) _ _ s
  rw [places_rev]
  exact wpAny_pure h
theorem pick_rev (xs : Array Value) : ((List.range xs.size).filterMap fun (m : Nat) => xs[(((xs.size : Nat) : Int) - 1 + (m : Int) * -1).toNat]?).toArray = xs.toList.reverse.toArray := by
  have e : ∀ m ∈ List.range xs.size, xs[(((xs.size : Nat) : Int) - 1 + (m : Int) * -1).toNat]? = xs[xs.size - 1 - m]? := by
    intro m hm
    have := List.mem_range.mp hm
    have z : (((xs.size : Nat) : Int) - 1 + (m : Int) * -1).toNat = xs.size - 1 - m := by omega
    rw [z]
  rw [fm_congr e]
  have e2 : (List.range xs.size).filterMap (fun m => xs[xs.size - 1 - m]?) = ((List.range xs.size).map fun k => xs.size - 1 - k).filterMap (xs[·]?) := by
    rw [List.filterMap_map]
    rfl
  rw [e2, PySem.W.krv_range, List.filterMap_reverse, PySem.W.krv_all]
theorem getItem_tuple_rev {t sl : Addr} {items : Array Value} {tk : Tok} {Q : Value → Shared → Prop} (ht : IsTup s.heap t items) (hs : s.heap.IsSliceOf sl .none .none (.int (-1) tk))
    (h : Q (.ref s.heap.objs.size) { s with heap := s.heap.push { cls := .type "tuple", data := .seq items.toList.reverse.toArray } })
    (hsz : items.size ≤ sizeLine) : wpAny (model prog w) A (getItem (.ref t) (.ref sl)) Q E s := by
  have htake : sizeOk (.seq items.toList.reverse.toArray) := by
    show items.toList.reverse.toArray.size ≤ sizeLine
    rw [List.size_toArray, List.length_reverse, Array.length_toList]
    omega
  obtain ⟨os, hos, hcs, hds⟩ := id hs
  have hTs : s.TypeIs (.ref sl) "slice" := ⟨os, hos, hcs⟩
  unfold getItem
  try with_reducible refine wpAny_holding ?_
  first | refine wpAny_bind (wpAny_pure ?_) | skip
  refine wpAny_bind (wpAny_sequenceKey ht.typeIs (by decide) ?_)
  refine wpAny_bind (wpAny_callSpecial?_slot (name := Str.ofString "__getitem__") ht.typeIs PyProof.Rows.slot_tuple_getitem
    (wpAny_call_entry PyProof.Rows.slot_tuple_getitem ht.typeIs entry_tuple_getitem ?_ (args_tuple_getitem _ _)))
  show wpAny _ _ (Builtin.Tuple.tupleItemsOf (.ref t) >>= _) _ _ s
  refine wpAny_bind (tupleItemsOf_ ht ?_)
  refine wpAny_bind (wpAny_typeOf hTs ?_)
  rw [if_pos (by decide)]
  refine wpAny_bind (sliceApplied_rev hs ?_)
  have hno : ¬ ((((items.size : Nat) : Int) - 1 == 0 && (-1 : Int) == 1 && items.size == items.size) = true) := by
    intro q
    rw [Bool.and_eq_true, Bool.and_eq_true] at q
    exact absurd q.1.2 (by decide)
  show wpAny _ _ (if (((items.size : Nat) : Int) - 1 == 0 && (-1 : Int) == 1 && items.size == items.size) = true then _ else _) _ _ s
  rw [if_neg hno, pick_rev]
  first
    | exact wpAny_bind (m := Builtin.Tuple.tupleExact _) (wpAny_newObj_type (wpAny_pure ⟨_, rfl, wpAny_pure h⟩) htake)
    | exact wpAny_bind (m := Builtin.Tuple.tupleExact _) (wpAny_newObj_type (wpAny_bind (wpAny_pure (wpAny_pure ⟨_, rfl, wpAny_pure h⟩))) htake)
    | exact wpAny_bind (wpAny_bind (m := Builtin.Tuple.tupleExact _) (wpAny_newObj_type (wpAny_pure (wpAny_pure ⟨_, rfl, wpAny_pure h⟩)) htake))
    | exact wpAny_bind (wpAny_bind (m := Builtin.Tuple.tupleExact _) (wpAny_newObj_type (wpAny_pure ⟨_, rfl, wpAny_pure h⟩) htake))
end
end HT
namespace L2
open PySem PySem.Spec PyProof.Rows
section
variable {X : Cx} {e st : Expr} {te ts : TE} {pos p2 : Pos}
/-- t[::-1] of a tuple -/
def tRevT (te ts : TE) : TE := fun σ H Q => te σ H fun x H1 => ts σ H1 fun y H2 => ∃ a xs, x = .ref a ∧ y = .int (-1) ∧ H2 a = some (.tup xs) ∧ ∀ p, H2 p = none → Q (.ref p) (upd H2 p (.tup xs.reverse))
theorem pe_revT (he : PE X e te) (hst : PE X st ts) : PE X (.Subscript e (.Slice none none (some st) p2) pos) (tRevT te ts) := by
  intro pins s σ H Q I h
  refine Subscript_ (thn (he pins s σ H _ I h) fun v s1 ⟨x, H1, I1, r1, q1⟩ => ?_)
  refine wpAny_Slice ?_
  rw [evalPart_none]
  refine wpAny_pure ?_
  refine wpAny_pure ?_
  rw [evalPart_some]
  refine thn (hst pins s1 σ H1 _ I1 q1) fun vk s3 ⟨y, H3, I3, r3, a, xs, ex, ey, hx, q3⟩ => ?_
  subst ex ey
  obtain ⟨tk, rfl⟩ := r3
  obtain rfl : v = Value.ref a := r1
  have I4 : Inv X pins σ H3 { s3 with heap := s3.heap.push { cls := .type "slice", data := .fields #[.none, .none, .int (-1) tk] } } := I3.kept (t' := s3.toks) fun b ob q => Heap.get?_push_of_some _ q
  obtain ⟨its, rv, ht, hz⟩ := I4.tuple (SqT.of (K := X.K) hx)
  show wpAny (model X.prog X.w) X.A (subscriptTail e (.Slice none none (some st) p2) (.ref a) (.ref s3.heap.objs.size)) (EP X pins σ Q) X.xe { s3 with heap := s3.heap.push { cls := .type "slice", data := .fields #[.none, .none, .int (-1) tk] } }
  refine tail_any (ops := [.ref a, .ref s3.heap.objs.size]) ht.typeIs PyProof.Rows.slot_tuple_getitem.lookup ?_ (by with_unfolding_all rfl)
  refine HT.getItem_tuple_rev ht (Heap.IsSliceOf.new ..) ?_ (by rw [List.size_toArray, ← rv.length]; exact hz)
  have hf := I4.hok.fresh (Nat.le_refl _)
  refine ⟨.ref _, _, I4.laid (t' := s3.toks) (fun b u e => Heap.get?_push_of_some _ e) (Nat.le_refl _) ?_, rfl, q3 _ hf⟩
  refine ⟨by rw [List.length_reverse]; exact hz, its.reverse, Vals.reverse rv, ?_⟩
  exact IsTup.new _ _
end
end L2


set_option Elab.async false
set_option linter.all false
set_option maxRecDepth 100000
set_option maxHeartbeats 1000000
namespace HT
open PySem PySem.Spec PyProof.Rows PySem.Builtin
end HT
namespace L2
open PySem PySem.Spec PyProof.Rows
section
variable {X : Cx}
/-- repr of a truth -/
theorem call_reprB : CallR X (.builtin "repr") (fun vs H Q => ∃ b : Bool, vs = [.bl b] ∧ Q (.str (if b then "True" else "False")) H) := by
  intro pins s σ H vs us Q I r h
  obtain ⟨b, rfl, q⟩ := h
  cases r with
  | cons r1 r2 =>
    cases r2
    cases r1
    exact PySem.P.repr_of_bool ⟨.str _, H, I.tok _, ⟨_, rfl⟩, q⟩
end
end L2


set_option Elab.async false
set_option linter.all false
set_option maxRecDepth 100000
set_option maxHeartbeats 1000000
namespace L2
open PySem PySem.Spec PyProof.Rows
section
variable {X : Cx}
/-- t == () -/
def rEqNil : R2 := fun x y H Q => ∃ a b xs, x = .ref a ∧ y = .ref b ∧ H a = some (.tup xs) ∧ H b = some (.tup []) ∧ Q (.bl xs.isEmpty) H
theorem op_eqNil (hu : X.A.units < cLine) : OpR X (compareOp .Eq) rEqNil := by
  intro pins s σ H x y v u Q I rx ry h
  obtain ⟨a, b, xs, rfl, rfl, ha, hb, q⟩ := h
  cases rx
  cases ry
  obtain ⟨its, r1, p1, _⟩ := I.tuple (SqT.of (K := X.K) ha)
  obtain ⟨its2, r2, p2, _⟩ := I.tuple (SqT.of (K := X.K) hb)
  cases r2
  refine SeqAt.eq_tupleAt (e := fun _ => true) (show s.heap.IsTuple a its.toArray from p1) (show s.heap.IsTuple b ([] : List Value).toArray from p2) hu (fun j h1 h2 => absurd h2 (by simp)) ?_
  have hl := r1.length
  have e : ((List.range (min its.toArray.size ([] : List Value).toArray.size)).all (fun _ => true) && its.toArray.size == ([] : List Value).toArray.size) = xs.isEmpty := by
    cases xs with
    | nil => cases r1; rfl
    | cons _ _ =>
      cases r1
      simp
  rw [e]
  exact ⟨.bl _, H, I, rfl, q⟩
variable {es : List Expr} {t : TA} {pos : Pos}
/-- a list of written items; it isn't where modules are kept -/
def tLstN (t : TA) : TE := fun σ H Q => t σ H fun xs H1 => xs.length ≤ sizeLine ∧ ∀ p, H1 p = none → p ≠ sysModules → Q (.ref p) (upd H1 p (.lst xs))
theorem pe_lstN (h : PA X es t) : PE X (.List es pos) (tLstN t) := by
  intro pins s σ H Q I hq
  refine wpAny_List_spliced (thn (h pos pins s σ H _ I hq) fun us s1 ⟨xs, H1, I1, r, z, q⟩ => ⟨by rw [← r.length]; exact z, ?_⟩)
  have hf : H1 s1.heap.objs.size = none := I1.hok.fresh (Nat.le_refl _)
  refine ⟨.ref s1.heap.objs.size, upd H1 s1.heap.objs.size (.lst xs), I1.laid (t' := s1.toks) (fun b u e => Heap.get?_push_of_some _ e) (Nat.le_refl _) ?_, rfl, q _ hf (Nat.ne_of_gt I1.big)⟩
  exact ⟨z, us, 0, r, Heap.get?_push_size _ rfl⟩
theorem call_list_ofN : CallR X (.type "list") (fun xs H Q => ∃ p ys, xs = [.ref p] ∧ (SqL X.K H p ys ∨ SqT X.K H p ys) ∧ ∀ l, H l = none → l ≠ sysModules → Q (.ref l) (upd H l (.lst ys))) := by
  intro pins s σ H xs us Q I r h
  obtain ⟨p, ys, rfl, hq, q⟩ := h
  obtain ⟨u, rfl, rx⟩ := vals1 r
  cases rx
  have fin : ∀ (its : List Value), Vals ys its → ys.length ≤ sizeLine → ∀ (h' : Heap) (c' : Nat), (∀ b o', s.heap.get? b = some o' → h'.get? b = some o') →
      h'.get? s.heap.objs.size = some { cls := .type "list", dict := none, data := .seq its.toArray c', slots := #[] } → EP X pins σ Q (.ref s.heap.objs.size) { s with heap := h' } := fun its r' hz h' c' kp e =>
    ⟨.ref s.heap.objs.size, _, I.laid (t' := s.toks) kp (Nat.le_refl _) (show ObjOk X.prog X.w _ h' _ (.lst ys) from ⟨hz, its, c', r', e⟩), rfl, q _ (I.hok.fresh (Nat.le_refl _)) (Nat.ne_of_gt I.big)⟩
  rcases hq with hq | hq
  · obtain ⟨its, r', pl, hz⟩ := I.list hq
    have hlen := r'.length
    obtain ⟨o, ho, hc, n, hd⟩ := pl.isList
    exact call_list_seq p (.inl rfl) ho hc hd (fun h' c' kp e => fin its r' hz h' c' kp e) (by simp only [List.size_toArray] <;> omega)
  · obtain ⟨its, r', pl, hz⟩ := I.tuple hq
    have hlen := r'.length
    obtain ⟨o, ho, hc, n, hd⟩ := pl
    exact call_list_seq p (.inr rfl) ho hc hd (fun h' c' kp e => fin its r' hz h' c' kp e) (by simp only [List.size_toArray] <;> omega)
end
section
variable {X : Cx} {CX : CXT} {k : Nat} {f : Addr} {fd : FuncData} {ps : List Str} {sp : Sp} {E : XK} {dvs : List V} {ds : List Value} {pos : Pos} {e fe : Expr} {es : List Expr} {t : TA} {tf : TE}
/-- g(e, ..), g any expression that gives a def -/
def tCallE (f : Addr) (sp : Sp) (dvs : List V) (E : XK) (tf : TE) (t : TA) : TE := fun σ H Q => tf σ H fun x H1 => x = .ref f ∧ t σ H1 fun vs H2 => sp (vs ++ dvs) H2 Q E
theorem pe_callE (hf : PE X fe tf) (F : FnOk X.prog X.w X.K X.mg X.base CX k f fd ps sp) (hr : Room k X.A) (hk : PySem.W.keepIn X.K (.ref f) = true) (hb : Binds X.K fd ps ds) (hd : Vals dvs ds) (hx : Passes CX X E)
    (ha : PA X (e :: es) t) (hev : eval (.Call fe (e :: es) [] pos) X.env = (do callWith pos (← eval fe X.env) [] (backTo pos (starEach (e :: es) X.env)) (backToKw pos (keywordEach [] X.env))) := by rfl)
    (he : starEach (e :: es) X.env = (false, eval e X.env) :: starEach es X.env := by rfl) (hpl : (backTo pos (starEach es X.env)).any (·.1) = false := by rfl) :
    PE X (.Call fe (e :: es) [] pos) (tCallE f sp dvs E tf t) := by
  intro pins s σ H Q I h
  refine Call_ (thn (hf pins s σ H _ I h) fun v s1 ⟨x, H1, I1, r1, ex, q1⟩ => ?_) hev
  subst ex
  obtain rfl : v = Value.ref f := r1
  refine PySem.W.callWith_K (h₀ := X.base) I1.ok.mod.kin hk (thn (ha pos pins s1 σ H1 _ I1 q1) fun us s2 ⟨vs, H2, I2, r, q⟩ => ⟨I2.kIn, ?_⟩) he hpl
  exact run_fn F hr hb hd hx I2 r q
end
end L2


set_option Elab.async false
set_option linter.all false
set_option maxRecDepth 100000
set_option maxHeartbeats 1000000
namespace L2
open PySem PySem.Spec PyProof.Rows
/-! ### what is known at one state of the names: for a body that may raise and stores no name -/
def PEat (X : Cx) (σ : St) (e : Expr) (t : TE) : Prop := ∀ (pins : List (Addr × Obj)) (s : Shared) (H : Hp) (Q : VK), Inv X pins σ H s → t σ H Q → wpAny (model X.prog X.w) X.A (eval e X.env) (EP X pins σ Q) X.xe s
section
variable {X : Cx} {CX : CXT} {k : Nat} {f : Addr} {fd : FuncData} {ps : List Str} {sp : Sp} {E : XK} {dvs : List V} {ds : List Value} {x : Str} {p pos : Pos} {e a b o c : Expr} {es : List Expr} {t : TA} {σ : St} {ta tb te to : TE} {tA : TT}
theorem PE.at (h : PE X e te) : PEat X σ e te := fun pins s H Q I q => h pins s σ H Q I q
variable {T name id : String} {r : V → List V → Hp → VK → Prop} {apos cpos : Pos}
end
end L2


set_option Elab.async false
set_option linter.all false
set_option maxRecDepth 100000
set_option maxHeartbeats 1000000
namespace L2
open PySem PySem.Spec PyProof.Rows
section
variable {X : Cx} {σ : St} {e : Expr} {te : TE} {pos : Pos}
end
section
variable {X : Cx} {pins : List (Addr × Obj)} {σ : St} {H : Hp} {s : Shared} {i : Nat} {n : Str}
end
section
variable {X : Cx} {body suite : List Stmt} {b0 : Stmt} {pos hpos p1 p2 tp : Pos} {n1 n2 v : Str} {i : Nat} {D1 D2 : Addr} {tb : XK → TS} {th : TS} {c}
end
end L2


set_option Elab.async false
set_option linter.all false
set_option maxRecDepth 100000
set_option maxHeartbeats 1000000
namespace L2
open PySem PySem.Spec PyProof.Rows
/-! ### errors that fly through loops -/
/-- an address that nothing hangs on -/
structure Loose (X : Cx) (pins : List (Addr × Obj)) (H : Hp) (T : Addr) : Prop where
  no : H T = none
  new : T ∈ X.ex ∨ X.s_0.heap.objs.size ≤ T
  nl : T ≠ X.env.locals
  nc : ∀ x c, X.env.cells.lookup x = some c → c ≠ T
  np : ∀ p ∈ X.pn ++ pins, p.1 ≠ T
def XS (X : Cx) (E : XK) : Value → Shared → Prop := fun e s' => ∃ (pins : List (Addr × Obj)) (σ : St) (H : Hp) (a C : Addr) (dx : Option Addr) (vs : Array Value), e = .ref a ∧ Inv X pins σ H s' ∧ Mut (H a) ∧ Rec s'.heap a C dx vs ∧ E (.ref a) none (upd H a (XR a C dx)) ∧
  (vs[1]? = some .none ∨ ∃ T fl, H a = some (XR a C dx) ∧ vs[1]? = some (.ref T) ∧ Trc s'.heap T fl ∧ (fl = .none ∨ fl = rawInt X.env.locals) ∧ T ≠ a ∧ Loose X pins H T)
abbrev Cx.lo (X : Cx) (E : XK) : Cx := { X with xe := XS X E }
section
variable {X : Cx} {pins : List (Addr × Obj)} {σ : St} {H : Hp} {s : Shared} {E : XK}
theorem Inv.lo (I : Inv X pins σ H s) : Inv (X.lo E) pins σ H s :=
  ⟨⟨I.ok.mod, I.ok.kind, I.ok.glob, I.ok.blt, I.ok.above, I.ok.inj, I.ok.has, I.ok.cab, I.ok.hd, I.ok.frames, I.ok.stk, I.ok.exf, I.ok.bs, I.ok.bsz, I.ok.noex, I.ok.exfs, I.ok.funs, I.ok.frf⟩, I.os, I.bare, I.base, I.loc, I.cell, I.free, I.freeC, I.pin, I.hok, I.len⟩
theorem Inv.unlo (I : Inv (X.lo E) pins σ H s) : Inv X pins σ H s :=
  ⟨⟨I.ok.mod, I.ok.kind, I.ok.glob, I.ok.blt, I.ok.above, I.ok.inj, I.ok.has, I.ok.cab, I.ok.hd, I.ok.frames, I.ok.stk, I.ok.exf, I.ok.bs, I.ok.bsz, I.ok.noex, I.ok.exfs, I.ok.funs, I.ok.frf⟩, I.os, I.bare, I.base, I.loc, I.cell, I.free, I.freeC, I.pin, I.hok, I.len⟩
theorem PSs.lo {body : List Stmt} {t : TS} (h : PSs (X.lo E) body t) (hx : ∀ e s', XS X E e s' → X.xe e s') : PSs X body t := by
  intro pins s σ H D I q
  refine wpAny_mono (h pins s σ H D I.lo q) (fun f s' hf => ?_) hx
  cases f with
  | next => obtain ⟨σ', H', I', z⟩ := hf; exact ⟨σ', H', I'.unlo, z⟩
  | brk => obtain ⟨σ', H', I', z⟩ := hf; exact ⟨σ', H', I'.unlo, z⟩
  | cont => obtain ⟨σ', H', I', z⟩ := hf; exact ⟨σ', H', I'.unlo, z⟩
  | ret u => obtain ⟨v, σ', H', I', z⟩ := hf; exact ⟨v, σ', H', I'.unlo, z⟩
/-- the error's entry stands for this frame again -/
theorem flies {M : Model} {A : Around} {E' : Value → Shared → Prop} {s : Shared} {e C : Addr} {dx : Option Addr} {vs : Array Value} {T L : Addr} {fl : Value} {Q : Unit → Shared → Prop} (r : Rec s.heap e C dx vs) (h1 : vs[1]? = some (.ref T)) (t : Trc s.heap T fl) (hne : T ≠ e)
    (h : ∀ h', (∀ b o, b ≠ T → s.heap.get? b = some o → h'.get? b = some o) → Rec h' e C dx vs → Trc h' T (rawInt L) → Q () { s with heap := h' }) : wpAny M A (setFlight (.ref e) (some L)) Q E' s := by
  obtain ⟨o, g, hc, hdx, hd⟩ := id r
  obtain ⟨oT, ts, gT, dT, h3⟩ := id t
  unfold setFlight
  refine wpAny_bind (wpAny_field g hd h1 ?_)
  rw [if_pos (show (Value.ref T != Value.none) = true from by simp)]
  refine wpAny_setField gT dT (Array.getElem?_eq_some_iff.mp h3).1 (h _ (fun b ob hb q => (Heap.get?_update_other _ _ (Ne.symm hb)).trans q) ⟨o, (Heap.get?_update_other _ _ hne).trans g, hc, hdx, hd⟩ (trc_map t))
end
section
variable {cm : Bool} {P : Program} {w : World} {K : PySem.W.Frag} {mg : Str → Option Value} {base : Heap} {N : List Str} {qual : Str} {scope : Scope} {f : Addr} {cd : Value} {A : Around} {outer : List Env} {s0 : Shared} {H0 : Hp} {E : XK}
end
end L2


set_option Elab.async false
set_option linter.all false
set_option maxRecDepth 100000
set_option maxHeartbeats 1600000
namespace LN
open PySem L2
theorem TAt.dq {H : Hp} {p t : Addr} {ns : List Nat} (h : TAt H t ns) : Dq H p (.ref t) (.tuple (natD ns)) := .tup h (DqAll.nats ns)
end LN
namespace L2
open PySem PySem.Spec PyProof.Rows
end L2
namespace L2
open PySem PySem.Spec PyProof.Rows LN
section
variable {X : Cx} {p : Addr} {e : Expr} {es : List Expr} {d : PyData} {ds : List PyData} {pos : Pos}
theorem pe_weakQ {t t' : TE} (h : PE X e t) (k : ∀ σ H Q, t' σ H Q → t σ H Q) : PE X e t' := fun pins s σ H Q I z => h pins s σ H Q I (k σ H Q z)
theorem pa_weakQ {t t' : TA} (h : PA X es t) (k : ∀ σ H Q, t' σ H Q → t σ H Q) : PA X es t' := fun pos pins s σ H Q I z => h pos pins s σ H Q I (k σ H Q z)
theorem stillS {H H' : Hp} (hp : PotAt H p) (S : Same H H') : Still p H H' := by
  obtain ⟨n, hp⟩ := hp
  exact ⟨⟨_, hp⟩, fun b o h _ => S b o h⟩
/-- e gives the thing d, whatever else is made -/
def tQ (p : Addr) (d : PyData) : TE := fun σ H Q => PotAt H p ∧ ∀ v H', Same H H' → Dq H' p v d → Q v H'
def tQs (p : Addr) (ds : List PyData) : TA := fun σ H Q => PotAt H p ∧ ∀ vs H', Same H H' → DqAll H' p vs ds → Q vs H'
theorem q_non {j} : PE X (.Constant .none j pos) (tQ p .none) := pe_weakQ pe_non fun σ H Q z => z.2 _ H (Same.refl H) .non
theorem q_bl {b : Bool} {j} : PE X (.Constant (.bool b) j pos) (tQ p (.bool b)) := pe_weakQ pe_bl fun σ H Q z => z.2 _ H (Same.refl H) (.bl b)
theorem q_int {i : Int} {j} : PE X (.Constant (.int i) j pos) (tQ p (.int i)) := pe_weakQ pe_int fun σ H Q z => z.2 _ H (Same.refl H) (.int i)
theorem q_str {x : Str} {j} : PE X (.Constant (.str x) j pos) (tQ p (.str x)) := pe_weakQ pe_str fun σ H Q z => z.2 _ H (Same.refl H) (.str x)
theorem q_neg {i : Int} {j} {pos2 : Pos} : PE X (.UnaryOp .USub (.Constant (.int i) j pos2) pos) (tQ p (.int (-i))) := pe_weakQ (pe_un un_neg pe_int) fun σ H Q z => ⟨_, rfl, z.2 _ H (Same.refl H) (.int _)⟩
theorem q_pow {j j2} {p1 p2 : Pos} : PE X (.BinOp (.Constant (.int 10) j p1) .Pow (.Constant (.int 30) j2 p2) pos) (tQ p (.int (10 ^ 30))) := pe_weakQ (pe_op op_pow pe_int pe_int) fun σ H Q z => ⟨_, _, rfl, rfl, ⟨by decide, by decide, by decide⟩, z.2 _ H (Same.refl H) (.int _)⟩
theorem q_nil : PA X [] (tQs p []) := pa_weakQ pa_nil fun σ H Q z => z.2 [] H (Same.refl H) .nil
theorem q_cons (h : PE X e (tQ p d)) (hs : PA X es (tQs p ds)) (hst : starEach (e :: es) X.env = (false, eval e X.env) :: starEach es X.env := by rfl) : PA X (e :: es) (tQs p (d :: ds)) :=
  pa_weakQ (pa_cons h hs hst) fun σ H Q z => ⟨z.1, fun v H1 S1 D1 => ⟨z.1.same S1, fun vs H2 S2 D2 => z.2 (v :: vs) H2 (S1.trans S2) (.cons (Dq.still (stillS (z.1.same S1) S2) d _ D1) D2)⟩⟩
theorem q_tup {j} (h : PA X es (tQs p ds)) (hl : ds.length ≤ 1000) : PE X (.Tuple es j pos) (tQ p (.tuple ds)) :=
  pe_weakQ (pe_tup h) fun σ H Q z => ⟨z.1, fun vs H1 S1 D1 => ⟨by rw [D1.length]; exact Nat.le_of_lt (small1000 hl), fun q hq => z.2 (.ref q) _ (S1.trans (same_new hq)) (.tup upd_same (DqAll.still (stillS (z.1.same S1) (same_new hq)) ds _ D1))⟩⟩
theorem q_lst (h : PA X es (tQs p ds)) (hl : ds.length ≤ 1000) : PE X (.List es pos) (tQ p (.list ds)) :=
  pe_weakQ (pe_lstN h) fun σ H Q z => ⟨z.1, fun vs H1 S1 D1 => ⟨by rw [D1.length]; exact Nat.le_of_lt (small1000 hl), fun q hq hm => z.2 (.ref q) _ (S1.trans (same_new hq)) (.lst upd_same (by
    obtain ⟨n, hp⟩ := z.1.same S1
    exact Ne.symm (ne_of_none hp hq)) hm (DqAll.still (stillS (z.1.same S1) (same_new hq)) ds _ D1))⟩⟩
theorem q_d0 : PE X (.Dict [] [] pos) (tQ p (.dict [])) := pe_weakQ pe_dnewK fun σ H Q z q hq => z.2 _ _ (same_new hq) (.dct (ijs := []) upd_same)
theorem q_d1 {i j : Int} {j1 j2} {p1 p2 : Pos} : PE X (.Dict [some (.Constant (.int i) j1 p1)] [.Constant (.int j) j2 p2] pos) (tQ p (.dict [(.int i, .int j)])) :=
  pe_weakQ (pe_disp (pps_cons pe_int pe_int pps_nil) (by rfl) (by rfl) (fun z => by cases z) (by show 1 ≤ 15; decide)) fun σ H Q z q hq => ⟨upd_same, [(Sum.inl i, .int j)], rfl, (by show 1 ≤ 15; decide), z.2 _ _ (by rw [upd_upd]; exact same_new hq) (.dct (ijs := [(i, j)]) upd_same)⟩
mutual
/-- a written thing -/
def qOf : Nat → Expr → Option PyData
  | 0, _ => none
  | _ + 1, .Constant .none _ _ => some .none
  | _ + 1, .Constant (.bool b) _ _ => some (.bool b)
  | _ + 1, .Constant (.int i) _ _ => some (.int i)
  | _ + 1, .Constant (.str x) _ _ => some (.str x)
  | _ + 1, .UnaryOp .USub (.Constant (.int i) _ _) _ => some (.int (-i))
  | _ + 1, .BinOp (.Constant (.int a) _ _) .Pow (.Constant (.int b) _ _) _ => if a = 10 ∧ b = 30 then some (.int (10 ^ 30)) else none
  | n + 1, .Tuple es _ _ => (qsOf n es).map .tuple
  | n + 1, .List es _ => (qsOf n es).map .list
  | _ + 1, .Dict [] [] _ => some (.dict [])
  | _ + 1, .Dict [some (.Constant (.int i) _ _)] [.Constant (.int j) _ _] _ => some (.dict [(.int i, .int j)])
  | _ + 1, _ => none
def qsOf : Nat → List Expr → Option (List PyData)
  | _, [] => some []
  | 0, _ :: _ => none
  | n + 1, e :: es => match qOf n e, qsOf n es with
    | some d, some ds => some (d :: ds)
    | _, _ => none
end
theorem star_of {n : Nat} {env : Env} (h : qOf n e = some d) : starEach (e :: es) env = (false, eval e env) :: starEach es env := by
  cases n with
  | zero => simp [qOf] at h
  | succ n => cases e <;> first | rfl | (simp [qOf] at h)
theorem qs_len : ∀ {n : Nat} {es : List Expr} {ds : List PyData}, qsOf n es = some ds → ds.length ≤ n
  | _, [], _, h => by
    unfold qsOf at h
    cases h
    exact Nat.zero_le _
  | 0, _ :: _, _, h => by simp [qsOf] at h
  | n + 1, e :: es, ds, h => by
    unfold qsOf at h
    split at h
    · rename_i d ds' h1 h2
      cases h
      have := qs_len h2
      rw [List.length_cons]
      omega
    · cases h
mutual
theorem q_of : ∀ {n : Nat} {e : Expr} {d : PyData}, n ≤ 1000 → qOf n e = some d → PE X e (tQ p d)
  | 0, _, _, _, h => by simp [qOf] at h
  | n + 1, e, d, hn, h => by
    unfold qOf at h
    split at h
    all_goals first
      | (rename_i z; cases z; done)
      | skip
    all_goals first
      | (cases h; first | exact q_non | exact q_bl | exact q_int | exact q_str | exact q_neg | exact q_d0 | exact q_d1)
      | skip
    all_goals first
      | (split at h
         · rename_i z
           cases h
           obtain ⟨rfl, rfl⟩ := z
           exact q_pow
         · cases h)
      | skip
    · rename_i es _ _ e1 _
      obtain ⟨ds, h1, rfl⟩ := Option.map_eq_some_iff.mp h
      cases e1
      exact q_tup (qs_of (by omega) h1) (by have := qs_len h1; omega)
    · rename_i es _ e1 _
      obtain ⟨ds, h1, rfl⟩ := Option.map_eq_some_iff.mp h
      cases e1
      exact q_lst (qs_of (by omega) h1) (by have := qs_len h1; omega)
    · cases h
theorem qs_of : ∀ {n : Nat} {es : List Expr} {ds : List PyData}, n ≤ 1000 → qsOf n es = some ds → PA X es (tQs p ds)
  | _, [], _, _, h => by
    unfold qsOf at h
    cases h
    exact q_nil
  | 0, _ :: _, _, _, h => by simp [qsOf] at h
  | n + 1, e :: es, ds, hn, h => by
    unfold qsOf at h
    split at h
    · rename_i d ds' h1 h2
      cases h
      exact q_cons (q_of (by omega) h1) (qs_of (by omega) h2) (star_of h1)
    · cases h
end
end
end L2
namespace LN
open PySem L2
theorem cutV_pre {xs : List V} {i : Nat} (h : i ≤ xs.length) : cutV xs none (some (i : Int)) = xs.take i := by
  unfold cutV
  rw [sIx_nat h, HT.sIx_none]
  rfl
theorem cutV_suf {xs : List V} {e : Nat} (h : e ≤ xs.length) : cutV xs (some (e : Int)) none = xs.drop e := by
  unfold cutV
  rw [sIx_nat h, HT.sIx_none]
  refine List.take_of_length_le ?_
  rw [List.length_drop]
  exact Nat.le_refl _
theorem cutV_mid {xs : List V} {i e : Nat} (h1 : i ≤ e) (h2 : e ≤ xs.length) : cutV xs (some (i : Int)) (some (e : Int)) = (xs.drop i).take (e - i) := by
  unfold cutV
  rw [sIx_nat h2, sIx_nat (d := 0) (show i ≤ xs.length by omega)]
end LN
namespace L2
open PySem
end L2


set_option Elab.async false
set_option linter.all false
set_option maxRecDepth 100000
set_option maxHeartbeats 3200000
namespace L2
open PySem PySem.Spec PyProof.Rows
/-! ### set(xs) of texts, some of them alike perhaps -/
def addU (acc : List Str) (x : Str) : List Str := if acc.contains x then acc else acc ++ [x]
/-- each text once -/
def uq (l : List Str) : List Str := l.foldl addU []
theorem uq_add (l : List Str) (x : Str) : uq (l ++ [x]) = addU (uq l) x := by
  unfold uq
  rw [List.foldl_append]
  rfl
theorem addU_has (acc : List Str) (x y : Str) : (addU acc x).contains y = (acc.contains y || decide (y = x)) := by
  unfold addU
  by_cases h : acc.contains x = true
  · rw [if_pos h]
    by_cases e : y = x
    · subst e; rw [h]; rfl
    · simp [e]
  · rw [if_neg h]
    by_cases e : y = x
    · subst e; simp
    · simp [e]
theorem uq_fold : ∀ (l acc : List Str) (y : Str), (l.foldl addU acc).contains y = (acc.contains y || l.contains y)
  | [], acc, y => by simp
  | x :: l, acc, y => by
    rw [List.foldl_cons, uq_fold l (addU acc x) y, addU_has]
    by_cases e : y = x
    · subst e; simp
    · simp [e]
theorem uq_has (l : List Str) (y : Str) : (uq l).contains y = l.contains y := by
  unfold uq
  rw [uq_fold]
  simp
theorem uq_len (l : List Str) (x : Str) : (uq (l ++ [x])).length = (uq l).length + (if l.contains x then 0 else 1) := by
  rw [uq_add]
  unfold addU
  rw [uq_has]
  split <;> simp
theorem fold_le : ∀ (l acc : List Str), (l.foldl addU acc).length ≤ acc.length + l.length
  | [], acc => by simp
  | x :: l, acc => by
    have := fold_le l (addU acc x)
    have h2 : (addU acc x).length ≤ acc.length + 1 := by
      unfold addU
      split <;> simp
    rw [List.foldl_cons, List.length_cons]
    omega
theorem uq_le (l : List Str) : (uq l).length ≤ l.length := by
  have := fold_le l []
  simpa [uq] using this
section
variable {prog : Program} {w : World} {A : Around} {R : Result → Shared → Prop} {I : Addr} {fp wr : List Addr} {G : Array GenState → Array GenState → Prop} {n : Nat} {P : Nat → Value → Prop} {St : Nat → Shared → Prop}
theorem set_loopU (W : WalksS prog w A.in1 I fp wr G n P St) (S : Addr) (hSf : S ∉ fp) (ks : List Str) (hl : ks.length = n) (hval : ∀ i v, P i v → ∃ x t, ks[i]? = some x ∧ v = .str x t) (hb : n + 1 < scanBound) :
    ∀ (k i : Nat) (s : Shared), n - i = k → i ≤ n → St i s → s.heap.SetOf (mixKind prog w) S (hasK (ks.take i)) (uq (ks.take i)).length →
      (∀ s', Moved (S :: wr) G s s' → s'.heap.SetOf (mixKind prog w) S (hasK (ks.take n)) (uq (ks.take n)).length → R (.ok (.ret .none)) s') →
      codeAny (model prog w) A (.builtin "set.update.loop" ⟨[.ref S, .ref I], []⟩) R s := by
  have nw : S ∉ wr := fun h => hSf (W.sub _ h)
  have sub : ∀ b ∈ wr, b ∈ S :: wr := fun b hb => List.mem_cons_of_mem _ hb
  intro k
  induction k with
  | zero =>
    intro i s hk hi hst hS hR
    obtain rfl : i = n := by omega
    refine codeAny_builtin F.entry_set_update_loop ?_
    rw [Around.under_plainId F.plain_set_update_loop _]
    show wpAny _ A.in1 (pyNext (.ref I) >>= _) _ _ s
    refine wpAny_bind (W.done s _ _ hst fun s' hm => ?_)
    show wpAny _ A.in1 (ret Value.none) _ _ s'
    refine wpAny_pure (hR s' (hm.mono sub) ?_)
    obtain ⟨o, es, ep, t, ho, rest⟩ := hS
    exact ⟨o, es, ep, t, hm.heap S _ nw ho, rest⟩
  | succ k ih =>
    intro i s hk hi hst hS hR
    have hlt : i < n := by omega
    refine codeAny_builtin F.entry_set_update_loop ?_
    rw [Around.under_plainId F.plain_set_update_loop _]
    show wpAny _ A.in1 (pyNext (.ref I) >>= _) _ _ s
    refine wpAny_bind (W.item i s _ _ hlt hst fun v s' hP hst' hm => ?_)
    obtain ⟨x, t, hx, rfl⟩ := hval i v hP
    have hS' : s'.heap.SetOf (mixKind prog w) S (hasK (ks.take i)) (uq (ks.take i)).length := by
      obtain ⟨o, es, ep, tb, ho, rest⟩ := hS
      exact ⟨o, es, ep, tb, hm.heap S _ nw ho, rest⟩
    show wpAny _ A.in1 (holding [Value.str x t] (setAdd S (.str x t)) >>= _) _ _ s'
    refine wpAny_bind (wpAny_holding ?_)
    unfold setAdd
    refine wpAny_holding ?_
    refine wpAny_bind ((mixKind prog w).pyHash (k := Sum.inr x) (mixKind_str prog w x t) ?_)
    have hle : (uq (ks.take i)).length ≤ i := Nat.le_trans (uq_le _) (by rw [List.length_take]; omega)
    refine wpAny_setAddHashed_of (knd := mixKind prog w) (s := { s' with toks := s'.toks + 1 }) (mixKind_str prog w x t) rfl hS' (by omega) fun h' hsb hS2 => ?_
    have hSi : h'.SetOf (mixKind prog w) S (hasK (ks.take (i + 1))) (uq (ks.take (i + 1))).length := by
      refine set_fun hS2 (fun y => ?_) (by rw [List.take_add_one, hx]; show _ = (uq (ks.take i ++ [x])).length; rw [uq_len]; show (if (ks.take i).contains x = true then (uq (ks.take i)).length else (uq (ks.take i)).length + 1) = _; split <;> rfl)
      rw [List.take_add_one, hx]
      cases y with
      | inl i => simp [hasK]
      | inr z =>
        show ((ks.take i).contains z || decide ((Sum.inr z : Key) = Sum.inr x)) = (ks.take i ++ [x]).contains z
        rw [key_rr]
        by_cases e : z = x
        · subst e; simp
        · simp [e]
    refine wpAny_pure ⟨plainId_quiet F.plain_set_update_loop _, ih (i + 1) _ (by omega) hlt (W.frame _ s' _ _ hst' (Nat.le_succ _) fun b hb o e => ?_) hSi fun s'' hm'' hS'' => ?_⟩
    · rw [hsb.2 b (fun h : b = S => hSf (by rw [← h]; exact hb))]; exact e
    · refine hR s'' (Moved.trans W.gtrans ((hm.mono sub).then_heap (Nat.le_succ _) fun b o hb e => ?_) hm'') hS''
      rw [hsb.2 b (fun h : b = S => hb (by rw [h]; exact List.mem_cons_self))]; exact e
end
section
variable {prog : Program} {w : World} {A : Around} {E : Value → Shared → Prop} {s : Shared}
theorem call_set_strsU {l : Addr} {items : Array Value} {xs : List Str} {Q : Value → Shared → Prop}
    (hh : A.handled = none) (hl : s.heap.IsList l items) (hi : StrsAre items.toList xs) (hlen : xs.length = items.size) (hb : items.size + 1 < scanBound)
    (h : ∀ (h' : Heap) (tk : Nat), h'.SetOf (mixKind prog w) s.heap.objs.size (hasK (xs.take items.size)) (uq (xs.take items.size)).length → (∀ b o, b < s.heap.objs.size → s.heap.get? b = some o → h'.get? b = some o) → Q (.ref s.heap.objs.size) { s with heap := h', toks := tk }) :
    wpAny (model prog w) A (call (.type "set") [.ref l]) Q E s := by
  obtain ⟨c, tl, hmro⟩ := F.called_set.mro
  have hmade := F.called_set.made
  have hsub := F.called_set.sub
  refine wpAny_call (codeAny_of_tree ?_)
  show wpAny _ _ (callAny (.type "set") _) _ _ _
  refine wpAny_pure ⟨Code.quiet_builtin _ (by decide +kernel), codeAny_builtin F.entry_type_call ?_⟩
  rw [Around.under_plain (weight_type_call_type "set" [.ref l] []) rfl]
  have h1 := F.called_set.notType
  have h2 := F.called_set.canCreate
  have hct := F.typeCall_set_1 (.ref l)
  repeat (any_goals (first | assumption | wp_step))
  refine codeAny_mono (code_set_new_1 (.ref l) (E := E) (Q₁ := fun obj s₁ => ∃ led : Bool, obj = .ref s.heap.objs.size ∧ s₁ = { s with heap := s.heap.push { cls := .type "set", dict := none, data := .set #[] 0 (.fresh 0 0 led) } }) fun led => ⟨led, rfl, rfl⟩) fun r s₁ hr => ?_
  cases r with
  | error e => exact hr
  | ok fl =>
    cases fl with
    | ret obj =>
      obtain ⟨led, rfl, rfl⟩ := hr
      have hS : (s.heap.push { cls := .type "set", dict := none, data := .set #[] 0 (.fresh 0 0 led) }).get? s.heap.objs.size = some { cls := .type "set", dict := none, data := .set #[] 0 (.fresh 0 0 led) } := Heap.get?_push_size _ rfl
      have hT : Shared.TypeIs { s with heap := s.heap.push { cls := .type "set", dict := none, data := .set #[] 0 (.fresh 0 0 led) } } (.ref s.heap.objs.size) "set" := ⟨_, hS, rfl⟩
      have hli := F.called_set.init.lookup
      have hbi := F.called_set.init.bind (.ref s.heap.objs.size)
      repeat (any_goals (first | assumption | wp_step))
      refine codeAny_mono (codeAny_call_builtin (R := wants (fun r s₂ => r = .none ∧ ∃ h' tk, s₂ = { s with heap := h', toks := tk } ∧ h'.SetOf (mixKind prog w) s.heap.objs.size (hasK (xs.take items.size)) (uq (xs.take items.size)).length ∧
          (∀ b o, b < s.heap.objs.size → s.heap.get? b = some o → h'.get? b = some o)) E) F.called_set.init.plain F.entry_set_init (check_set_init_1 hT ?_)) fun r₂ s₂ hr₂ => ?_
      · obtain ⟨ol, hol, hcl, nl, hdl⟩ := hl
        obtain ⟨ocls, odict, odata, oslots⟩ := ol
        simp only at hcl hdl
        subst hcl; subst hdl
        have hol' : (s.heap.push { cls := .type "set", dict := none, data := .set #[] 0 (.fresh 0 0 led) }).get? l = some { cls := .type "list", dict := odict, data := .seq items nl, slots := oslots } := Heap.get?_push_of_some _ hol
        have hsls := F.sub_list_set
        have hslf := F.sub_list_frozenset
        have hne : (Value.type "list" == Value.type "dict") = false := by decide
        have hl1 : (s.heap.push { cls := .type "set", dict := none, data := .set #[] 0 (.fresh 0 0 led) }).IsList l items := ⟨_, hol', rfl, nl, rfl⟩
        unfold Builtin.«set.__init__» noKeywords Builtin.Frozenset.updateFrom
        generalize hPI : pyIter = PI
        wp_walk
        subst hPI
        refine wpAny_pyIter_list hl1 ?_
        refine wpAny_bind (wpAny_runValue ?_)
        have hlS : l < s.heap.objs.size := Heap.lt_size hol
        have hh3 : A.in1.in1.in1.handled = none := by simp [hh]
        have hneI : l ≠ (s.heap.push { cls := .type "set", dict := none, data := .set #[] 0 (.fresh 0 0 led) }).objs.size := by
          rw [Heap.size_push]; exact Nat.ne_of_lt (Nat.lt_succ_of_lt hlS)
        have hSf : s.heap.objs.size ∉ [(s.heap.push { cls := .type "set", dict := none, data := .set #[] 0 (.fresh 0 0 led) }).objs.size, l] := by
          rw [Heap.size_push]; simp only [List.mem_cons, List.mem_singleton, List.not_mem_nil, or_false, not_or]
          exact ⟨Nat.ne_of_lt (Nat.lt_succ_self _), Nat.ne_of_gt hlS⟩
        have hval : ∀ (i : Nat) (v : Value), items[i]? = some v → ∃ x t, xs[i]? = some x ∧ v = .str x t := fun i v hv => hi i v (by rw [Array.getElem?_toList]; exact hv)
        refine set_loopU ((Walks.list hh3 _ l hneI items).toS) s.heap.objs.size hSf xs hlen hval hb (items.size - 0) 0 _ (by omega) (Nat.zero_le _)
          ⟨⟨_, Heap.get?_push_size _ rfl, rfl, rfl⟩, (hl1.push _)⟩ ?hS0 ?hR
        case hS0 =>
          have hget := Heap.get?_push_of_some (h := s.heap.push { cls := .type "set", dict := none, data := .set #[] 0 (.fresh 0 0 led) }) { cls := .type "list_iterator", data := .fields #[.ref l, .int 0 0] } hS
          letI : BEq Key := instBEqOfDecidableEq
          exact set_fun (S := fun _ => false) ((PyProof.Rows.setObjOf_fresh (knd := mixKind prog w) led).setOf hget (by unfold scanBound; omega)) (fun y => by cases y <;> simp [hasK]) rfl
        case hR =>
          intro s' hm hS'
          obtain ⟨h', g', d', tk', os'⟩ := s'
          have eg : g' = s.gens := hm.gens
          have ed : d' = s.drawn := hm.drawn
          have eo : os' = s.os := hm.os
          subst eg; subst ed; subst eo
          show wpAny _ _ _ _ _ _
          refine wpAny_pure ?_
          show wpAny _ _ (ret Value.none) _ _ _
          refine wpAny_pure ⟨rfl, h', tk', rfl, hS', fun b o hb e => ?_⟩
          have hb1 : b ≠ s.heap.objs.size := Nat.ne_of_lt hb
          have hb2 : b ≠ (s.heap.push { cls := .type "set", dict := none, data := .set #[] 0 (.fresh 0 0 led) }).objs.size := by
            rw [Heap.size_push]; exact Nat.ne_of_lt (Nat.lt_succ_of_lt hb)
          exact hm.heap b o (by simp only [List.mem_cons, List.mem_singleton, List.not_mem_nil, or_false, not_or]; exact ⟨hb1, hb2⟩) (Heap.get?_push_of_some _ (Heap.get?_push_of_some _ e))
      · cases r₂ with
        | error e => exact hr₂
        | ok fl₂ =>
          cases fl₂ with
          | ret r =>
            obtain ⟨rfl, h', tk, rfl, hS', hk'⟩ := hr₂
            repeat (any_goals (first | assumption | wp_step))
            exact h _ _ hS' hk'
          | _ => exact hr₂.elim
    | _ => exact hr.elim
end
section
variable {X : Cx}
def rSetU (K : PySem.W.Frag) : List V → Hp → VK → Prop := fun vs H Q => ∃ (a : Addr) (xs : List Str), vs = [.ref a] ∧ SqL K H a (xs.map V.str) ∧ xs.length ≤ 100 ∧ ∀ p, H p = none → Q (.ref p) (upd H p (SetN p (uq xs).length))
theorem call_setU (hc : X.calm = true) : CallR X (.type "set") (rSetU X.K) := by
  intro pins s σ H vs us Q I r h
  obtain ⟨a, xs, rfl, ha, hz, q⟩ := h
  cases r with
  | cons r1 r2 =>
    cases r2
    cases r1
    obtain ⟨its, rv, hl, _⟩ := I.list ha
    have hlen : its.toArray.size = xs.length := by rw [List.size_toArray, ← rv.length, List.length_map]
    refine call_set_strsU (I.ok.hd hc) hl.isList (by simpa using strs_are rv) hlen.symm (by rw [hlen]; unfold scanBound; omega) fun h' tk hS k => ?_
    have hf := I.hok.fresh (Nat.le_refl s.heap.objs.size)
    refine ⟨.ref s.heap.objs.size, _, I.laid (t' := tk) (o := SetN s.heap.objs.size (uq xs).length) (fun b o z => k b o (Heap.lt_size z) z) (Nat.le_refl _) ?_, rfl, q _ hf⟩
    obtain ⟨o, es, ep, t, ho, hex, hd, _, _, _, hf', hn⟩ := hS
    refine ⟨⟨o, es, ep, t, ho, hex, hd, hf', by rw [hn, hlen, List.take_of_length_le (Nat.le_refl _)]⟩, ⟨o, ho⟩, fun h1 h2 ⟨o1, es1, ep1, t1, g1, z⟩ kk => ⟨o1, es1, ep1, t1, kk _ g1, z⟩⟩
end
end L2


set_option Elab.async false
set_option linter.all false
set_option maxRecDepth 100000
set_option maxHeartbeats 400000
namespace K1
open PySem L2
def top (i : Nat) : Stmt := PySem.Challenge.pw_likenest_k01_signs_known.main.body.getD i (.Pass ⟨0, 0, 0, 0⟩)
section
variable {P : Program} {w : World} {K : PySem.W.Frag} {mg : Str → Option Value} {base : Heap} {f cda cc C : Addr} {dV kV doc pm ct oc : Value} {an od : Option Addr} {osl : Array (Option Value)} {B newId initId : String} {bmB : List Value}
end
end K1


set_option Elab.async false
set_option linter.all false
set_option maxRecDepth 100000
set_option maxHeartbeats 1000000
namespace K1
open PySem L2
abbrev sWord : Stmt := top 67
def cn (i : Nat) : Str := (["NoSigns", "NoPlace", "NoGivens", "NoUnlikes", "NoLines", "NoModel", "NoPattern", "NoRules", "NoRounds", "NoCosts", "NoLine", "NoTerm", "TooMany", "NoText", "NoLevel", "NotKnown", "NotAlike"] : List Str).getD i ""
def wn (i : Nat) : Str := (["signs", "place", "givens", "unlikes", "lines", "model", "pattern", "rules", "rounds", "costs", "line"] : List Str).getD i ""
/-- what is known of the top's classes -/
structure Txt (K : PySem.W.Frag) (mg : Str → Option Value) (C : Nat → Addr) (Ne Ab : Addr) : Prop where
  kit : ∀ i j, i < 17 → j < 17 → PySem.W.kitOne K (.ref (C i)) (.ref (C j)) = some (decide (i = j))
  kN : ∀ i, i < 17 → PySem.W.kitOne K (.ref (C i)) (.ref Ne) = some (decide (i < 14))
  kV : ∀ i, i < 17 → PySem.W.kitOne K (.ref (C i)) (.type "ValueError") = some (decide (i < 14))
  kA : ∀ i, i < 17 → PySem.W.kitOne K (.ref (C i)) (.ref Ab) = some (decide (13 < i))
  kL : ∀ i, i < 17 → PySem.W.kitOne K (.ref (C i)) (.type "LookupError") = some (decide (13 < i))
  cl : ∀ i, i < 17 → EX.XCls K (C i)
  mgc : ∀ i, i < 17 → mg (cn i) = some (.ref (C i))
  mgN : mg "NestError" = some (.ref Ne)
  mgA : mg "AbsentError" = some (.ref Ab)
  isi : mg "isinstance" = none
  vE : mg "ValueError" = none
  lE : mg "LookupError" = none
  a11 : NoAttr K (C 11) "at"
  a12 : NoAttr K (C 12) "many"
  b12 : NoAttr K (C 12) "most"
  a13 : NoAttr K (C 13) "row"
  a14 : NoAttr K (C 14) "left"
  a15 : NoAttr K (C 15) "term"
  a16 : NoAttr K (C 16) "one"
  b16 : NoAttr K (C 16) "other"
/-- the error number i: its fields, its word -/
inductive Err (C : Nat → Addr) (H : Hp) (e : Addr) : Nat → List V → Prop where
  | plain {i : Nat} (hi : i < 11) (he : H e = some (XR e (C i) none)) : Err C H e i [.str (wn i)]
  | term {d : Addr} {v : V} (he : H e = some (XR e (C 11) (some d))) (hd : H d = some (XD d [("at", v)])) : Err C H e 11 [.str "term", v]
  | many {d : Addr} {v u : V} (he : H e = some (XR e (C 12) (some d))) (hd : H d = some (XD d (putF "most" u [("many", v)]))) : Err C H e 12 [.str "many", v, u]
  | text {d : Addr} {v : V} (he : H e = some (XR e (C 13) (some d))) (hd : H d = some (XD d [("row", v)])) : Err C H e 13 [.str "text", v]
  | level {d : Addr} {v : V} (he : H e = some (XR e (C 14) (some d))) (hd : H d = some (XD d [("left", v)])) : Err C H e 14 [.str "level", v]
  | known {d : Addr} {v : V} (he : H e = some (XR e (C 15) (some d))) (hd : H d = some (XD d [("term", v)])) : Err C H e 15 [.str "known", v]
  | alike {d : Addr} {v u : V} (he : H e = some (XR e (C 16) (some d))) (hd : H d = some (XD d (putF "other" u [("one", v)]))) : Err C H e 16 [.str "alike", v, u]
theorem Err.lt {C : Nat → Addr} {H : Hp} {e : Addr} {i : Nat} {ws : List V} (h : Err C H e i ws) : i < 17 := by cases h <;> omega
theorem Err.at {C : Nat → Addr} {H : Hp} {e : Addr} {i : Nat} {ws : List V} (h : Err C H e i ws) : ∃ dx, H e = some (XR e (C i) dx) ∧ ∀ d, dx = some d → ∃ fs, H d = some (XD d fs) := by
  cases h with
  | plain hi he => exact ⟨none, he, fun d z => nomatch z⟩
  | term he hd => exact ⟨_, he, fun d z => by cases z; exact ⟨_, hd⟩⟩
  | many he hd => exact ⟨_, he, fun d z => by cases z; exact ⟨_, hd⟩⟩
  | text he hd => exact ⟨_, he, fun d z => by cases z; exact ⟨_, hd⟩⟩
  | level he hd => exact ⟨_, he, fun d z => by cases z; exact ⟨_, hd⟩⟩
  | known he hd => exact ⟨_, he, fun d z => by cases z; exact ⟨_, hd⟩⟩
  | alike he hd => exact ⟨_, he, fun d z => by cases z; exact ⟨_, hd⟩⟩
theorem Err.same {C : Nat → Addr} {H H' : Hp} {e : Addr} {i : Nat} {ws : List V} (h : Err C H e i ws) (s : Same H H') : Err C H' e i ws := by
  cases h with
  | plain hi he => exact .plain hi (s _ _ he)
  | term he hd => exact .term (s _ _ he) (s _ _ hd)
  | many he hd => exact .many (s _ _ he) (s _ _ hd)
  | text he hd => exact .text (s _ _ he) (s _ _ hd)
  | level he hd => exact .level (s _ _ he) (s _ _ hd)
  | known he hd => exact .known (s _ _ he) (s _ _ hd)
  | alike he hd => exact .alike (s _ _ he) (s _ _ hd)
theorem same_new {H : Hp} {p : Addr} {o : HO} (h : H p = none) : Same H (upd H p o) := fun b q z => by rw [upd_ne (ne_of_none z h)]; exact z
/-- _law_word of an error: a new tuple of its word and fields; all that stood stands -/
def spWord (C : Nat → Addr) : Sp := fun vs H Q _ => ∃ (e : Addr) (i : Nat) (ws : List V), vs = [.ref e] ∧ Err C H e i ws ∧ ∀ (p : Addr) (H' : Hp), Same H H' → H p = none → H' p = some (.tup ws) → Q (.ref p) H'
section
variable {P : Program} {w : World} {K : PySem.W.Frag} {mg : Str → Option Value} {base : Heap} {C : Nat → Addr} {Ne Ab : Addr}
theorem scW : FnScope ["_law_e", "_law_some", "_law_at", "_law_words"] ["_law_e"] (defScope sWord) := ⟨rfl, rfl, rfl, by decide +kernel, rfl, by decide +kernel, by decide +kernel⟩
theorem cnt1 : ∀ i, i < 17 → PySem.Spec.countIn (.bool true) ((List.range 17).map fun j => PyData.bool (decide (i = j))) = 1 := by decide
/-- one isinstance of the error -/
theorem isi1 {σ : St} {H : Hp} {e i : Nat} {cv : V} {c : Value} {b : Bool} {Q : VK} (T : Txt K mg C Ne Ab) {ws : List V} (E : Err C H e i ws) (hσ : σ[0]? = some (some (.ref e))) (hc : clsV cv c) (k : PySem.W.kitOne K (.ref (C i)) c = some b) (q : Q (.bl b) H) :
    tCB (rIsr K) (tCons (tVar 0) (tCons (tC cv) tNil)) σ H Q := by
  obtain ⟨dx, he, hd⟩ := E.at
  exact ⟨.ref e, hσ, _, _, _, _, _, rfl, .rai he hd (T.cl i E.lt), hc, k, q⟩
def wst (i : Nat) : Stmt := (defBody sWord).getD i (.Pass ⟨0, 0, 0, 0⟩)
@[irreducible] def wsx : Stmt := wst 13
theorem word_body : [wst 0, wst 1, wst 2, wst 3, wst 4, wst 5, wst 6, wst 7, wst 8, wst 9, wst 10, wst 11, wst 12, wsx, wst 14] = defBody sWord := by kernel_rfl
end
end K1


set_option Elab.async false
set_option linter.all false
set_option maxRecDepth 100000
set_option maxHeartbeats 800000
namespace K1
open PySem L2
theorem pss_of {X : Cx} {b b' : List Stmt} {t : TS} (h : b = b') (p : PSs X b t) : PSs X b' t := h ▸ p
theorem if_no {p A B : Prop} [Decidable p] (hn : ¬ p) (h : B) : if decide p = true then A else B := by rw [decide_eq_false hn]; exact iteF h
theorem if_yes {p A B : Prop} [Decidable p] (hn : p) (h : A) : if decide p = true then A else B := by rw [decide_eq_true hn]; exact iteT h
theorem if_ne {b : Bool} {A B : Prop} (hb : b = true) (h : B) : if (!b) = true then A else B := by rw [hb]; exact iteF h
def wl : List V := [.str "signs", .str "place", .str "givens", .str "unlikes", .str "lines", .str "model", .str "pattern", .str "rules", .str "rounds", .str "costs", .str "line"]
theorem words_at : ∀ i, i < 11 → wl[i]? = some (V.str (wn i)) := by decide +kernel
theorem vint {a b : Int} (h : a ≠ b) : ¬ V.int a = V.int b := fun z => h (V.int.inj z)
section
variable {P : Program} {w : World} {K : PySem.W.Frag} {mg : Str → Option Value} {base : Heap} {C : Nat → Addr} {Ne Ab : Addr}
abbrev XW (P : Program) (w : World) (K : PySem.W.Frag) (mg : Str → Option Value) (base : Heap) (f : Addr) (cdv : Value) (A : Around) (outer : List Env) (s : Shared) (H : Hp) (E : XK) : Cx := (cxOfC false CX0 P w K mg base ["_law_e", "_law_some", "_law_at", "_law_words"] "_law_word" (defScope sWord) f cdv A outer s H E).nox
def wls : List Str := ["signs", "place", "givens", "unlikes", "lines", "model", "pattern", "rules", "rounds", "costs", "line"]
@[irreducible] def els13 : List Expr := match wst 13 with | .Assign _ (.List es _) _ => es | _ => []
@[irreducible] def lp13 : Pos := match wst 13 with | .Assign _ (.List _ p) _ => p | _ => ⟨0, 0, 0, 0⟩
@[irreducible] def tp13 : Pos := match wst 13 with | .Assign [.Name _ p] _ _ => p | _ => ⟨0, 0, 0, 0⟩
@[irreducible] def ap13 : Pos := match wst 13 with | .Assign _ _ p => p | _ => ⟨0, 0, 0, 0⟩
theorem e13 : wsx = .Assign [.Name "_law_words" tp13] (.List els13 lp13) ap13 := by kernel_rfl
theorem se13 : strsOf els13 = some wls := by kernel_rfl
theorem sw13 (env : Env) : swapsWith (.List els13 lp13) (some (.Name "_law_words" tp13)) ap13.line env = pure false := by kernel_rfl
theorem ps13 {f : Addr} {cdv : Value} {A : Around} {outer : List Env} {s : Shared} {H : Hp} {E : XK} : PS (XW P w K mg base f cdv A outer s H E) wsx (tAsg (tLst (fun _ H Q => Q (wls.map V.str) H)) (gName 3)) := by
  rw [e13]
  exact ps_set (i := 3) scW.nd rfl (Or.inl rfl) (pe_lst (pa_strs (strs_of se13))) (sw13 _)
def bs17 (i : Nat) : List V := ((List.range 17).map fun j => decide (i = j)).map V.bl
theorem flat17 (i : Nat) : (bs17 i).all flatV = true := List.all_eq_true.mpr (by intro x hx; obtain ⟨b, _, rfl⟩ := List.mem_map.mp hx; rfl)
theorem at17 {i m : Nat} (hm : m < 17) : (bs17 i)[m]? = some (.bl (decide (i = m))) := by
  unfold bs17
  rw [List.getElem?_map, List.getElem?_map, List.getElem?_range hm]
  rfl
theorem ahead17 {i : Nat} (hi : i < 17) : ∀ (m : Nat) (z : V), m < i → (bs17 i)[m]? = some z → eqV z (.bl true) = false := fun m z h e => by
  rw [at17 (by omega)] at e
  cases e
  rw [decide_eq_false (by omega)]
  rfl
variable {f : Addr} {cdv : Value} {A : Around} {outer : List Env} {s : Shared} {H0 : Hp} {E0 : XK} {e i : Nat} {ws : List V}
theorem st0 (T : Txt K mg C Ne Ab) : ∃ t, PS (XW P w K mg base f cdv A outer s H0 E0) (wst 0) t ∧ ∀ (D : Ends) (σ : St) (H : Hp), Err C H e i ws → σ[0]? = some (some (.ref e)) → (∀ l, H l = none → D.nx (σ.set 1 (some (.ref l))) (upd H l (.lst [.bl (decide (i = 0)), .bl (decide (i = 1)), .bl (decide (i = 2)), .bl (decide (i = 3))]))) → t D σ H := by
  refine ⟨_, ps_set (i := 1) scW.nd rfl (Or.inl rfl) (pe_lst (pa_cons (pe_isiC (pv 0) (by rfl) T.isi (by rfl) (T.mgc 0 (by decide))) (pa_cons (pe_isiC (pv 0) (by rfl) T.isi (by rfl) (T.mgc 1 (by decide))) (pa_cons (pe_isiC (pv 0) (by rfl) T.isi (by rfl) (T.mgc 2 (by decide))) (pa_cons (pe_isiC (pv 0) (by rfl) T.isi (by rfl) (T.mgc 3 (by decide))) pa_nil))))), fun D σ H Er hs k => ?_⟩
  exact isi1 T Er hs (by rfl) (T.kit i 0 Er.lt (by decide)) (isi1 T Er hs (by rfl) (T.kit i 1 Er.lt (by decide)) (isi1 T Er hs (by rfl) (T.kit i 2 Er.lt (by decide)) (isi1 T Er hs (by rfl) (T.kit i 3 Er.lt (by decide)) ⟨(by show 4 ≤ sizeLine; decide), fun l hl => k l hl⟩)))
theorem st1 (T : Txt K mg C Ne Ab) : ∃ t, PS (XW P w K mg base f cdv A outer s H0 E0) (wst 1) t ∧ ∀ (D : Ends) (σ : St) (H : Hp) (l : Addr) (xs : List V), Err C H e i ws → σ[0]? = some (some (.ref e)) → σ[1]? = some (some (.ref l)) → H l = some (.lst xs) → xs.length = 4 →
    (∀ (m : Addr) (H' : Hp), Same H H' → H' m = some (.lst (xs ++ [.bl (decide (i = 4)), .bl (decide (i = 5)), .bl (decide (i = 6)), .bl (decide (i = 7))])) → D.nx (σ.set 1 (some (.ref m))) H') → t D σ H := by
  refine ⟨_, ps_set (i := 1) scW.nd rfl (Or.inl rfl) (pe_op op_cat (pv 1) (pe_lst (pa_cons (pe_isiC (pv 0) (by rfl) T.isi (by rfl) (T.mgc 4 (by decide))) (pa_cons (pe_isiC (pv 0) (by rfl) T.isi (by rfl) (T.mgc 5 (by decide))) (pa_cons (pe_isiC (pv 0) (by rfl) T.isi (by rfl) (T.mgc 6 (by decide))) (pa_cons (pe_isiC (pv 0) (by rfl) T.isi (by rfl) (T.mgc 7 (by decide))) pa_nil)))))), fun D σ H l xs Er hs h1 hl hn k => ?_⟩
  refine ⟨_, h1, (isi1 T Er hs (by rfl) (T.kit i 4 Er.lt (by decide)) (isi1 T Er hs (by rfl) (T.kit i 5 Er.lt (by decide)) (isi1 T Er hs (by rfl) (T.kit i 6 Er.lt (by decide)) (isi1 T Er hs (by rfl) (T.kit i 7 Er.lt (by decide)) ⟨(by show 4 ≤ sizeLine; decide), fun m hm => ⟨l, m, _, _, rfl, rfl, (by rw [upd_ne (ne_of_none hl hm)]; exact hl), upd_same, (by rw [hn]; show 4 + 4 ≤ sizeLine; decide), fun p hp => ?_⟩⟩))))⟩
  exact k p _ ((same_new hm).trans (same_new hp)) upd_same
theorem st2 (T : Txt K mg C Ne Ab) : ∃ t, PS (XW P w K mg base f cdv A outer s H0 E0) (wst 2) t ∧ ∀ (D : Ends) (σ : St) (H : Hp) (l : Addr) (xs : List V), Err C H e i ws → σ[0]? = some (some (.ref e)) → σ[1]? = some (some (.ref l)) → H l = some (.lst xs) → xs.length = 8 →
    (∀ (m : Addr) (H' : Hp), Same H H' → H' m = some (.lst (xs ++ [.bl (decide (i = 8)), .bl (decide (i = 9)), .bl (decide (i = 10)), .bl (decide (i = 11))])) → D.nx (σ.set 1 (some (.ref m))) H') → t D σ H := by
  refine ⟨_, ps_set (i := 1) scW.nd rfl (Or.inl rfl) (pe_op op_cat (pv 1) (pe_lst (pa_cons (pe_isiC (pv 0) (by rfl) T.isi (by rfl) (T.mgc 8 (by decide))) (pa_cons (pe_isiC (pv 0) (by rfl) T.isi (by rfl) (T.mgc 9 (by decide))) (pa_cons (pe_isiC (pv 0) (by rfl) T.isi (by rfl) (T.mgc 10 (by decide))) (pa_cons (pe_isiC (pv 0) (by rfl) T.isi (by rfl) (T.mgc 11 (by decide))) pa_nil)))))), fun D σ H l xs Er hs h1 hl hn k => ?_⟩
  refine ⟨_, h1, (isi1 T Er hs (by rfl) (T.kit i 8 Er.lt (by decide)) (isi1 T Er hs (by rfl) (T.kit i 9 Er.lt (by decide)) (isi1 T Er hs (by rfl) (T.kit i 10 Er.lt (by decide)) (isi1 T Er hs (by rfl) (T.kit i 11 Er.lt (by decide)) ⟨(by show 4 ≤ sizeLine; decide), fun m hm => ⟨l, m, _, _, rfl, rfl, (by rw [upd_ne (ne_of_none hl hm)]; exact hl), upd_same, (by rw [hn]; show 8 + 4 ≤ sizeLine; decide), fun p hp => ?_⟩⟩))))⟩
  exact k p _ ((same_new hm).trans (same_new hp)) upd_same
theorem st3 (T : Txt K mg C Ne Ab) : ∃ t, PS (XW P w K mg base f cdv A outer s H0 E0) (wst 3) t ∧ ∀ (D : Ends) (σ : St) (H : Hp) (l : Addr) (xs : List V), Err C H e i ws → σ[0]? = some (some (.ref e)) → σ[1]? = some (some (.ref l)) → H l = some (.lst xs) → xs.length = 12 →
    (∀ (m : Addr) (H' : Hp), Same H H' → H' m = some (.lst (xs ++ [.bl (decide (i = 12)), .bl (decide (i = 13)), .bl (decide (i = 14)), .bl (decide (i = 15))])) → D.nx (σ.set 1 (some (.ref m))) H') → t D σ H := by
  refine ⟨_, ps_set (i := 1) scW.nd rfl (Or.inl rfl) (pe_op op_cat (pv 1) (pe_lst (pa_cons (pe_isiC (pv 0) (by rfl) T.isi (by rfl) (T.mgc 12 (by decide))) (pa_cons (pe_isiC (pv 0) (by rfl) T.isi (by rfl) (T.mgc 13 (by decide))) (pa_cons (pe_isiC (pv 0) (by rfl) T.isi (by rfl) (T.mgc 14 (by decide))) (pa_cons (pe_isiC (pv 0) (by rfl) T.isi (by rfl) (T.mgc 15 (by decide))) pa_nil)))))), fun D σ H l xs Er hs h1 hl hn k => ?_⟩
  refine ⟨_, h1, (isi1 T Er hs (by rfl) (T.kit i 12 Er.lt (by decide)) (isi1 T Er hs (by rfl) (T.kit i 13 Er.lt (by decide)) (isi1 T Er hs (by rfl) (T.kit i 14 Er.lt (by decide)) (isi1 T Er hs (by rfl) (T.kit i 15 Er.lt (by decide)) ⟨(by show 4 ≤ sizeLine; decide), fun m hm => ⟨l, m, _, _, rfl, rfl, (by rw [upd_ne (ne_of_none hl hm)]; exact hl), upd_same, (by rw [hn]; show 12 + 4 ≤ sizeLine; decide), fun p hp => ?_⟩⟩))))⟩
  exact k p _ ((same_new hm).trans (same_new hp)) upd_same
theorem st4 (T : Txt K mg C Ne Ab) : ∃ t, PS (XW P w K mg base f cdv A outer s H0 E0) (wst 4) t ∧ ∀ (D : Ends) (σ : St) (H : Hp) (l : Addr) (xs : List V), Err C H e i ws → σ[0]? = some (some (.ref e)) → σ[1]? = some (some (.ref l)) → H l = some (.lst xs) → xs.length = 16 →
    (∀ (m : Addr) (H' : Hp), Same H H' → H' m = some (.lst (xs ++ [.bl (decide (i = 16))])) → D.nx (σ.set 1 (some (.ref m))) H') → t D σ H := by
  refine ⟨_, ps_set (i := 1) scW.nd rfl (Or.inl rfl) (pe_op op_cat (pv 1) (pe_lst (pa_cons (pe_isiC (pv 0) (by rfl) T.isi (by rfl) (T.mgc 16 (by decide))) pa_nil))), fun D σ H l xs Er hs h1 hl hn k => ?_⟩
  refine ⟨_, h1, (isi1 T Er hs (by rfl) (T.kit i 16 Er.lt (by decide)) ⟨(by show 1 ≤ sizeLine; decide), fun m hm => ⟨l, m, _, _, rfl, rfl, (by rw [upd_ne (ne_of_none hl hm)]; exact hl), upd_same, (by rw [hn]; show 16 + 1 ≤ sizeLine; decide), fun p hp => ?_⟩⟩)⟩
  exact k p _ ((same_new hm).trans (same_new hp)) upd_same
theorem st5 : ∃ t, PS (XW P w K mg base f cdv A outer s H0 E0) (wst 5) t ∧ ∀ (D : Ends) (σ : St) (H : Hp) (l : Addr), i < 17 → σ[1]? = some (some (.ref l)) → H l = some (.lst (bs17 i)) → D.nx σ H → t D σ H := by
  refine ⟨_, ps_if (pt_cmpR op_ne (pe_bm PySem.F.plainAttrs_list PySem.F.slot_list_count PySem.F.type_list_count mt_countB (pv 1) (pa_cons pe_bl pa_nil)) pe_int (nomark _)) (pss_one (ps_ret (pe_tup (pa_cons pe_str pa_nil)))) pss_nil, fun D σ H l hi h1 hl k => ?_⟩
  refine ⟨_, h1, .inl ⟨rfl, _, SqL.of hl⟩, l, _, true, rfl, rfl, SqL.of hl, rfl, _, rfl, ?_⟩
  refine iteNS ?_ k
  rw [List.map_map]
  exact congrArg V.int (cnt1 i hi)
theorem st6 : ∃ t, PS (XW P w K mg base f cdv A outer s H0 E0) (wst 6) t ∧ ∀ (D : Ends) (σ : St) (H : Hp) (l : Addr), i < 17 → σ[1]? = some (some (.ref l)) → H l = some (.lst (bs17 i)) → D.nx (σ.set 2 (some (.int i))) H → t D σ H := by
  refine ⟨_, ps_set (i := 2) scW.nd rfl (Or.inl rfl) (pe_bm PySem.F.plainAttrs_list PySem.F.slot_list_index PySem.F.type_list_index mt_index (pv 1) (pa_cons pe_bl pa_nil)), fun D σ H l hi h1 hl k => ?_⟩
  exact ⟨_, h1, .inl ⟨rfl, _, SqL.of hl⟩, l, _, .bl true, i, .bl (decide (i = i)), rfl, rfl, SqL.of hl, rfl, flat17 i, at17 hi, (by rw [decide_eq_true rfl]; rfl), ahead17 hi, k⟩
theorem st7 (T : Txt K mg C Ne Ab) (hr : Room 0 (XW P w K mg base f cdv A outer s H0 E0).A) : ∃ t, PS (XW P w K mg base f cdv A outer s H0 E0) (wst 7) t ∧ ∀ (D : Ends) (σ : St) (H : Hp), Err C H e i ws → σ[0]? = some (some (.ref e)) → σ[2]? = some (some (.int i)) → (∀ H', Same H H' → D.nx σ H') → t D σ H := by
  refine ⟨_, ps_if (pt_cmpR (op_neD hr.units) (pe_lst (pa_cons (pe_isiC (pv 0) (by rfl) T.isi (by rfl) T.mgN) (pa_cons (pe_isiT (n := "ValueError") (pv 0) (by rfl) T.isi (by rfl) T.vE (by decide +kernel)) pa_nil))) (pe_op op_rep (pe_lst (pa_cons (pe_cmp (pc_lt (pv 2) pe_int) rfl) pa_nil)) pe_int) (nomark _)) (pss_one (ps_ret (pe_tup (pa_cons pe_str pa_nil)))) pss_nil, fun D σ H Er hs h2 k => ?_⟩
  refine isi1 T Er hs (by rfl) (T.kN i Er.lt) (isi1 T Er hs (by rfl) (T.kV i Er.lt) ⟨(by show 2 ≤ sizeLine; decide), fun m hm => ⟨_, h2, _, _, rfl, rfl, (by show 1 ≤ sizeLine; decide), fun n hn => ⟨n, 2, _, rfl, rfl, upd_same, by decide, by decide, (by show 1 * 2 ≤ sizeLine; decide), fun p hp => ?_⟩⟩⟩)
  have hc : decide ((i : Int) < 14) = decide (i < 14) := decide_eq_decide.mpr (by omega)
  have Lm : (upd (upd (upd H m (.lst [.bl (decide (i < 14)), .bl (decide (i < 14))])) n (.lst [.bl (decide ((i : Int) < 14))])) p (.lst [.bl (decide ((i : Int) < 14)), .bl (decide ((i : Int) < 14))])) m = some (.lst [.bl (decide (i < 14)), .bl (decide (i < 14))]) := by
    rw [upd_ne (ne_of_none (by rw [upd_ne (ne_of_none upd_same hn)]; exact upd_same) hp), upd_ne (ne_of_none upd_same hn)]
    exact upd_same
  refine ⟨.list [.bool (decide (i < 14)), .bool (decide (i < 14))], .list [.bool (decide ((i : Int) < 14)), .bool (decide ((i : Int) < 14))], .lst (SqL.of Lm) (.cons (.bl _) (.cons (.bl _) .nil)), .lst (SqL.of upd_same) (.cons (.bl _) (.cons (.bl _) .nil)), rfl, rfl, _, rfl, ?_⟩
  refine if_ne ?_ (k _ (((same_new hm).trans (same_new hn)).trans (same_new hp)))
  rw [hc]
  exact SeqAt.eqv_refl _ rfl
theorem st8 (T : Txt K mg C Ne Ab) (hr : Room 0 (XW P w K mg base f cdv A outer s H0 E0).A) : ∃ t, PS (XW P w K mg base f cdv A outer s H0 E0) (wst 8) t ∧ ∀ (D : Ends) (σ : St) (H : Hp), Err C H e i ws → σ[0]? = some (some (.ref e)) → σ[2]? = some (some (.int i)) → (∀ H', Same H H' → D.nx σ H') → t D σ H := by
  refine ⟨_, ps_if (pt_cmpR (op_neD hr.units) (pe_lst (pa_cons (pe_isiC (pv 0) (by rfl) T.isi (by rfl) T.mgA) (pa_cons (pe_isiT (n := "LookupError") (pv 0) (by rfl) T.isi (by rfl) T.lE (by decide +kernel)) pa_nil))) (pe_op op_rep (pe_lst (pa_cons (pe_cmp (pc_gt (pv 2) pe_int) rfl) pa_nil)) pe_int) (nomark _)) (pss_one (ps_ret (pe_tup (pa_cons pe_str pa_nil)))) pss_nil, fun D σ H Er hs h2 k => ?_⟩
  refine isi1 T Er hs (by rfl) (T.kA i Er.lt) (isi1 T Er hs (by rfl) (T.kL i Er.lt) ⟨(by show 2 ≤ sizeLine; decide), fun m hm => ⟨_, h2, _, _, rfl, rfl, (by show 1 ≤ sizeLine; decide), fun n hn => ⟨n, 2, _, rfl, rfl, upd_same, by decide, by decide, (by show 1 * 2 ≤ sizeLine; decide), fun p hp => ?_⟩⟩⟩)
  have hc : decide (13 < (i : Int)) = decide (13 < i) := decide_eq_decide.mpr (by omega)
  have Lm : (upd (upd (upd H m (.lst [.bl (decide (13 < i)), .bl (decide (13 < i))])) n (.lst [.bl (decide (13 < (i : Int)))])) p (.lst [.bl (decide (13 < (i : Int))), .bl (decide (13 < (i : Int)))])) m = some (.lst [.bl (decide (13 < i)), .bl (decide (13 < i))]) := by
    rw [upd_ne (ne_of_none (by rw [upd_ne (ne_of_none upd_same hn)]; exact upd_same) hp), upd_ne (ne_of_none upd_same hn)]
    exact upd_same
  refine ⟨.list [.bool (decide (13 < i)), .bool (decide (13 < i))], .list [.bool (decide (13 < (i : Int))), .bool (decide (13 < (i : Int)))], .lst (SqL.of Lm) (.cons (.bl _) (.cons (.bl _) .nil)), .lst (SqL.of upd_same) (.cons (.bl _) (.cons (.bl _) .nil)), rfl, rfl, _, rfl, ?_⟩
  refine if_ne ?_ (k _ (((same_new hm).trans (same_new hn)).trans (same_new hp)))
  rw [hc]
  exact SeqAt.eqv_refl _ rfl
end
end K1


set_option Elab.async false
set_option linter.all false
set_option maxRecDepth 100000
set_option maxHeartbeats 800000
namespace K1
open PySem L2
theorem lk1 (g : Str) (v : V) : List.lookup g [(g, v)] = some v := by simp [List.lookup]
theorem lk2 {g1 g2 : Str} (v u : V) (h : ¬ g1 = g2) : (putF g2 u [(g1, v)]).lookup g1 = some v := by rw [lookup_putF, if_neg h]; exact lk1 _ _
theorem lk3 {g1 g2 : Str} (v u : V) : (putF g2 u [(g1, v)]).lookup g2 = some u := by rw [lookup_putF, if_pos rfl]
section
variable {P : Program} {w : World} {K : PySem.W.Frag} {mg : Str → Option Value} {base : Heap} {C : Nat → Addr} {Ne Ab : Addr}
variable {f : Addr} {cdv : Value} {A : Around} {outer : List Env} {s : Shared} {H0 : Hp} {E0 : XK} {e i : Nat} {ws : List V}
theorem st9 (T : Txt K mg C Ne Ab) : ∃ t, PS (XW P w K mg base f cdv A outer s H0 E0) (wst 9) t ∧ (∀ (D : Ends) (σ : St) (H : Hp) (i : Nat), σ[2]? = some (some (.int i)) → i ≠ 12 → D.nx σ H → t D σ H) ∧
    ∀ (D : Ends) (σ : St) (H : Hp) (e d : Addr) (v u : V), σ[0]? = some (some (.ref e)) → σ[2]? = some (some (.int (12 : Nat))) → H e = some (XR e (C 12) (some d)) → H d = some (XD d (putF "most" u [("many", v)])) → (∀ p, H p = none → D.rt (.ref p) (upd H p (.tup [.str "many", v, u]))) → t D σ H := by
  refine ⟨_, ps_if (pt_cmpR op_eq (pv 2) pe_int (nomark _)) (pss_one (ps_ret (pe_tup (pa_cons pe_str (pa_cons (pe_fldR (pv 0) rfl) (pa_cons (pe_fldR (pv 0) rfl) pa_nil)))))) pss_nil, fun D σ H i h2 hne k => ?_, fun D σ H e d v u hs h2 he hd k => ?_⟩
  · exact ⟨_, h2, rfl, _, rfl, if_no (vint (by omega)) k⟩
  · refine ⟨_, h2, rfl, _, rfl, if_yes rfl ?_⟩
    exact ⟨_, hs, e, _, d, _, _, rfl, he, hd, T.cl 12 (by decide), T.a12, lk2 _ _ (by decide +kernel), _, hs, e, _, d, _, _, rfl, he, hd, T.cl 12 (by decide), T.b12, lk3 _ _, (by show 3 ≤ sizeLine; decide), fun p hp => k p hp⟩
theorem st10 (T : Txt K mg C Ne Ab) : ∃ t, PS (XW P w K mg base f cdv A outer s H0 E0) (wst 10) t ∧ (∀ (D : Ends) (σ : St) (H : Hp) (i : Nat), σ[2]? = some (some (.int i)) → i ≠ 13 → D.nx σ H → t D σ H) ∧
    ∀ (D : Ends) (σ : St) (H : Hp) (e d : Addr) (v : V), σ[0]? = some (some (.ref e)) → σ[2]? = some (some (.int (13 : Nat))) → H e = some (XR e (C 13) (some d)) → H d = some (XD d [("row", v)]) → (∀ p, H p = none → D.rt (.ref p) (upd H p (.tup [.str "text", v]))) → t D σ H := by
  refine ⟨_, ps_if (pt_cmpR op_eq (pv 2) pe_int (nomark _)) (pss_one (ps_ret (pe_tup (pa_cons pe_str (pa_cons (pe_fldR (pv 0) rfl) pa_nil))))) pss_nil, fun D σ H i h2 hne k => ?_, fun D σ H e d v hs h2 he hd k => ?_⟩
  · exact ⟨_, h2, rfl, _, rfl, if_no (vint (by omega)) k⟩
  · refine ⟨_, h2, rfl, _, rfl, if_yes rfl ?_⟩
    exact ⟨_, hs, e, _, d, _, _, rfl, he, hd, T.cl 13 (by decide), T.a13, lk1 _ _, (by show 2 ≤ sizeLine; decide), fun p hp => k p hp⟩
theorem st11 (T : Txt K mg C Ne Ab) : ∃ t, PS (XW P w K mg base f cdv A outer s H0 E0) (wst 11) t ∧ (∀ (D : Ends) (σ : St) (H : Hp) (i : Nat), σ[2]? = some (some (.int i)) → i ≠ 14 → D.nx σ H → t D σ H) ∧
    ∀ (D : Ends) (σ : St) (H : Hp) (e d : Addr) (v : V), σ[0]? = some (some (.ref e)) → σ[2]? = some (some (.int (14 : Nat))) → H e = some (XR e (C 14) (some d)) → H d = some (XD d [("left", v)]) → (∀ p, H p = none → D.rt (.ref p) (upd H p (.tup [.str "level", v]))) → t D σ H := by
  refine ⟨_, ps_if (pt_cmpR op_eq (pv 2) pe_int (nomark _)) (pss_one (ps_ret (pe_tup (pa_cons pe_str (pa_cons (pe_fldR (pv 0) rfl) pa_nil))))) pss_nil, fun D σ H i h2 hne k => ?_, fun D σ H e d v hs h2 he hd k => ?_⟩
  · exact ⟨_, h2, rfl, _, rfl, if_no (vint (by omega)) k⟩
  · refine ⟨_, h2, rfl, _, rfl, if_yes rfl ?_⟩
    exact ⟨_, hs, e, _, d, _, _, rfl, he, hd, T.cl 14 (by decide), T.a14, lk1 _ _, (by show 2 ≤ sizeLine; decide), fun p hp => k p hp⟩
theorem st12 (T : Txt K mg C Ne Ab) : ∃ t, PS (XW P w K mg base f cdv A outer s H0 E0) (wst 12) t ∧ (∀ (D : Ends) (σ : St) (H : Hp) (i : Nat), σ[2]? = some (some (.int i)) → i < 15 → D.nx σ H → t D σ H) ∧
    (∀ (D : Ends) (σ : St) (H : Hp) (e d : Addr) (v : V), σ[0]? = some (some (.ref e)) → σ[2]? = some (some (.int (15 : Nat))) → H e = some (XR e (C 15) (some d)) → H d = some (XD d [("term", v)]) → (∀ p, H p = none → D.rt (.ref p) (upd H p (.tup [.str "known", v]))) → t D σ H) ∧
    ∀ (D : Ends) (σ : St) (H : Hp) (e d : Addr) (v u : V), σ[0]? = some (some (.ref e)) → σ[2]? = some (some (.int (16 : Nat))) → H e = some (XR e (C 16) (some d)) → H d = some (XD d (putF "other" u [("one", v)])) → (∀ p, H p = none → D.rt (.ref p) (upd H p (.tup [.str "alike", v, u]))) → t D σ H := by
  refine ⟨_, ps_if (pt_cmpR op_gt (pv 2) pe_int (nomark _)) (pss_one (ps_ret (pe_ifExp (pt_cmpR op_eq (pv 2) pe_int (nomark _)) (pe_tup (pa_cons pe_str (pa_cons (pe_fldR (pv 0) rfl) pa_nil))) (pe_tup (pa_cons pe_str (pa_cons (pe_fldR (pv 0) rfl) (pa_cons (pe_fldR (pv 0) rfl) pa_nil))))))) pss_nil, fun D σ H i h2 hne k => ?_, fun D σ H e d v hs h2 he hd k => ?_, fun D σ H e d v u hs h2 he hd k => ?_⟩
  · exact ⟨_, h2, _, _, rfl, rfl, _, rfl, if_no (by omega) k⟩
  · refine ⟨_, h2, _, _, rfl, rfl, _, rfl, if_yes (by omega) ?_⟩
    refine ⟨_, h2, rfl, _, rfl, if_yes rfl ?_⟩
    exact ⟨_, hs, e, _, d, _, _, rfl, he, hd, T.cl 15 (by decide), T.a15, lk1 _ _, (by show 2 ≤ sizeLine; decide), fun p hp => k p hp⟩
  · refine ⟨_, h2, _, _, rfl, rfl, _, rfl, if_yes (by omega) ?_⟩
    refine ⟨_, h2, rfl, _, rfl, if_no (vint (by omega)) ?_⟩
    exact ⟨_, hs, e, _, d, _, _, rfl, he, hd, T.cl 16 (by decide), T.a16, lk2 _ _ (by decide +kernel), _, hs, e, _, d, _, _, rfl, he, hd, T.cl 16 (by decide), T.b16, lk3 _ _, (by show 3 ≤ sizeLine; decide), fun p hp => k p hp⟩
theorem st14 (T : Txt K mg C Ne Ab) : ∃ t, PS (XW P w K mg base f cdv A outer s H0 E0) (wst 14) t ∧ (∀ (D : Ends) (σ : St) (H : Hp) (i : Nat) (l : Addr), σ[2]? = some (some (.int i)) → i < 11 → σ[3]? = some (some (.ref l)) → H l = some (.lst wl) → (∀ p, H p = none → D.rt (.ref p) (upd H p (.tup [.str (wn i)]))) → t D σ H) ∧
    ∀ (D : Ends) (σ : St) (H : Hp) (e d : Addr) (v : V), σ[0]? = some (some (.ref e)) → σ[2]? = some (some (.int (11 : Nat))) → H e = some (XR e (C 11) (some d)) → H d = some (XD d [("at", v)]) → (∀ p, H p = none → D.rt (.ref p) (upd H p (.tup [.str "term", v]))) → t D σ H := by
  refine ⟨_, ps_ret (pe_ifExp (pt_cmpR op_eq (pv 2) pe_int (nomark _)) (pe_tup (pa_cons pe_str (pa_cons (pe_fldR (pv 0) rfl) pa_nil))) (pe_tup (pa_cons (pe_ix ix_list (pv 3) (pv 2) (fun _ _ => rfl)) pa_nil))), fun D σ H i l h2 hi h3 hl k => ?_, fun D σ H e d v hs h2 he hd k => ?_⟩
  · refine ⟨_, h2, rfl, _, rfl, if_no (vint (by omega)) ?_⟩
    exact ⟨_, h3, _, h2, l, _, _, _, rfl, rfl, SqL.of hl, atI_nat (words_at i hi), (by show 1 ≤ sizeLine; decide), fun p hp => k p hp⟩
  · refine ⟨_, h2, rfl, _, rfl, if_yes rfl ?_⟩
    exact ⟨_, hs, e, _, d, _, _, rfl, he, hd, T.cl 11 (by decide), T.a11, lk1 _ _, (by show 2 ≤ sizeLine; decide), fun p hp => k p hp⟩
theorem ok_word {f : Addr} {fd : FuncData} (F : Fun K "_law_word" "_law_word" sWord f fd) (T : Txt K mg C Ne Ab) : FnOk P w K mg base CX0 1 f fd ["_law_e"] (spWord C) := by
  refine F.okN scW (fun vs H Q E h => ?_) (fun cdv A outer s H vs Q E hr h => ?_)
  · obtain ⟨e, i, ws, rfl, _⟩ := h
    rfl
  · obtain ⟨e, i, ws, rfl, Er, k⟩ := h
    have hi := Er.lt
    obtain ⟨t0, p0, r0⟩ := st0 (P := P) (w := w) (K := K) (mg := mg) (base := base) (f := f) (cdv := cdv) (A := A) (outer := outer) (s := s) (H0 := H) (E0 := E) (e := e) (i := i) (ws := ws) T
    obtain ⟨t1, p1, r1⟩ := st1 (P := P) (w := w) (K := K) (mg := mg) (base := base) (f := f) (cdv := cdv) (A := A) (outer := outer) (s := s) (H0 := H) (E0 := E) (e := e) (i := i) (ws := ws) T
    obtain ⟨t2, p2, r2⟩ := st2 (P := P) (w := w) (K := K) (mg := mg) (base := base) (f := f) (cdv := cdv) (A := A) (outer := outer) (s := s) (H0 := H) (E0 := E) (e := e) (i := i) (ws := ws) T
    obtain ⟨t3, p3, r3⟩ := st3 (P := P) (w := w) (K := K) (mg := mg) (base := base) (f := f) (cdv := cdv) (A := A) (outer := outer) (s := s) (H0 := H) (E0 := E) (e := e) (i := i) (ws := ws) T
    obtain ⟨t4, p4, r4⟩ := st4 (P := P) (w := w) (K := K) (mg := mg) (base := base) (f := f) (cdv := cdv) (A := A) (outer := outer) (s := s) (H0 := H) (E0 := E) (e := e) (i := i) (ws := ws) T
    obtain ⟨t5, p5, r5⟩ := st5 (P := P) (w := w) (K := K) (mg := mg) (base := base) (f := f) (cdv := cdv) (A := A) (outer := outer) (s := s) (H0 := H) (E0 := E) (i := i)
    obtain ⟨t6, p6, r6⟩ := st6 (P := P) (w := w) (K := K) (mg := mg) (base := base) (f := f) (cdv := cdv) (A := A) (outer := outer) (s := s) (H0 := H) (E0 := E) (i := i)
    obtain ⟨t7, p7, r7⟩ := st7 (P := P) (w := w) (K := K) (mg := mg) (base := base) (f := f) (cdv := cdv) (A := A) (outer := outer) (s := s) (H0 := H) (E0 := E) (e := e) (i := i) (ws := ws) T hr
    obtain ⟨t8, p8, r8⟩ := st8 (P := P) (w := w) (K := K) (mg := mg) (base := base) (f := f) (cdv := cdv) (A := A) (outer := outer) (s := s) (H0 := H) (E0 := E) (e := e) (i := i) (ws := ws) T hr
    obtain ⟨t9, p9, r9, q9⟩ := st9 (P := P) (w := w) (K := K) (mg := mg) (base := base) (f := f) (cdv := cdv) (A := A) (outer := outer) (s := s) (H0 := H) (E0 := E) T
    obtain ⟨t10, p10, r10, q10⟩ := st10 (P := P) (w := w) (K := K) (mg := mg) (base := base) (f := f) (cdv := cdv) (A := A) (outer := outer) (s := s) (H0 := H) (E0 := E) T
    obtain ⟨t11, p11, r11, q11⟩ := st11 (P := P) (w := w) (K := K) (mg := mg) (base := base) (f := f) (cdv := cdv) (A := A) (outer := outer) (s := s) (H0 := H) (E0 := E) T
    obtain ⟨t12, p12, r12, q12, u12⟩ := st12 (P := P) (w := w) (K := K) (mg := mg) (base := base) (f := f) (cdv := cdv) (A := A) (outer := outer) (s := s) (H0 := H) (E0 := E) T
    have p13 := ps13 (P := P) (w := w) (K := K) (mg := mg) (base := base) (f := f) (cdv := cdv) (A := A) (outer := outer) (s := s) (H := H) (E := E)
    obtain ⟨t14, p14, r14, q14⟩ := st14 (P := P) (w := w) (K := K) (mg := mg) (base := base) (f := f) (cdv := cdv) (A := A) (outer := outer) (s := s) (H0 := H) (E0 := E) T
    refine ⟨_, pss_of word_body (pss_cons p0 (pss_cons p1 (pss_cons p2 (pss_cons p3 (pss_cons p4 (pss_cons p5 (pss_cons p6 (pss_cons p7 (pss_cons p8 (pss_cons p9 (pss_cons p10 (pss_cons p11 (pss_cons p12 (pss_cons p13 (pss_one p14))))))))))))))), ?_⟩
    clear p0 p1 p2 p3 p4 p5 p6 p7 p8 p9 p10 p11 p12 p13 p14
    refine r0 _ _ _ Er rfl fun l0 h0 => ?_
    have S0 := same_new (o := .lst [.bl (decide (i = 0)), .bl (decide (i = 1)), .bl (decide (i = 2)), .bl (decide (i = 3))]) h0
    refine r1 _ _ _ l0 _ (Er.same S0) rfl rfl upd_same rfl fun l1 H1 S1 h1 => ?_
    refine r2 _ _ _ l1 _ (Er.same (S0.trans S1)) rfl rfl h1 rfl fun l2 H2 S2 h2 => ?_
    refine r3 _ _ _ l2 _ (Er.same ((S0.trans S1).trans S2)) rfl rfl h2 rfl fun l3 H3 S3 h3 => ?_
    refine r4 _ _ _ l3 _ (Er.same (((S0.trans S1).trans S2).trans S3)) rfl rfl h3 rfl fun l4 H4 S4 h4 => ?_
    have S := (((S0.trans S1).trans S2).trans S3).trans S4
    have h4 : H4 l4 = some (.lst (bs17 i)) := h4
    refine r5 _ _ _ l4 hi rfl h4 (r6 _ _ _ l4 hi rfl h4 (r7 _ _ _ (Er.same S) rfl rfl fun H5 S5 => r8 _ _ _ (Er.same (S.trans S5)) rfl rfl fun H6 S6 => ?_))
    have SS := (S.trans S5).trans S6
    have E6 := Er.same SS
    have fin : ∀ p, H6 p = none → Q (.ref p) (upd H6 p (.tup ws)) := fun p hp => k p _ (SS.trans (same_new hp)) (SS.free hp) upd_same
    have fin2 : ∀ (lw : Addr) (o : HO), H6 lw = none → ∀ p, (upd H6 lw o) p = none → Q (.ref p) (upd (upd H6 lw o) p (.tup ws)) := fun lw o hw p hp => k p _ ((SS.trans (same_new hw)).trans (same_new hp)) ((SS.trans (same_new hw)).free hp) upd_same
    clear r0 r1 r2 r3 r4 r5 r6 r7 r8 Er k
    cases E6 with
    | plain hi11 he =>
      refine r9 _ _ _ i rfl (by omega) (r10 _ _ _ i rfl (by omega) (r11 _ _ _ i rfl (by omega) (r12 _ _ _ i rfl (by omega) ⟨(by show 11 ≤ sizeLine; decide), fun lw hw => ?_⟩)))
      exact r14 _ _ _ i lw rfl hi11 rfl upd_same (fin2 lw _ hw)
    | term he hd => exact r9 _ _ _ 11 rfl (by omega) (r10 _ _ _ 11 rfl (by omega) (r11 _ _ _ 11 rfl (by omega) (r12 _ _ _ 11 rfl (by omega) ⟨(by show 11 ≤ sizeLine; decide), fun lw hw => q14 _ _ _ e _ _ rfl rfl (same_new hw _ _ he) (same_new hw _ _ hd) (fin2 lw _ hw)⟩)))
    | many he hd => exact q9 _ _ _ e _ _ _ rfl rfl he hd fin
    | text he hd => exact r9 _ _ _ 13 rfl (by omega) (q10 _ _ _ e _ _ rfl rfl he hd fin)
    | level he hd => exact r9 _ _ _ 14 rfl (by omega) (r10 _ _ _ 14 rfl (by omega) (q11 _ _ _ e _ _ rfl rfl he hd fin))
    | known he hd => exact r9 _ _ _ 15 rfl (by omega) (r10 _ _ _ 15 rfl (by omega) (r11 _ _ _ 15 rfl (by omega) (q12 _ _ _ e _ _ rfl rfl he hd fin)))
    | alike he hd => exact r9 _ _ _ 16 rfl (by omega) (r10 _ _ _ 16 rfl (by omega) (r11 _ _ _ 16 rfl (by omega) (u12 _ _ _ e _ _ _ rfl rfl he hd fin)))
end
end K1


set_option Elab.async false
set_option linter.all false
set_option maxRecDepth 100000
set_option maxHeartbeats 800000
namespace K1
open PySem L2
abbrev sCell : Stmt := top 58
abbrev sPot : Stmt := top 59
abbrev sTake : Stmt := top 60
structure Blt (mg : Str → Option Value) : Prop where
  len : mg "len" = none
  repr : mg "repr" = none
  isi : mg "isinstance" = none
  int : mg "int" = none
  bool : mg "bool" = none
  str : mg "str" = none
  tuple : mg "tuple" = none
  all : mg "all" = none
  any : mg "any" = none
  set : mg "set" = none
  range : mg "range" = none
  mx : mg "max" = none
  mn : mg "min" = none
def spCell (K : PySem.W.Frag) : Sp := fun vs H Q _ => ∃ (a : Addr) (ns : List Int) (k : Nat), vs = [.ref a, .int k] ∧ SqL K H a (ns.map V.int) ∧ ∀ v : Int, Q (.int v) H
def spPot : Sp := fun vs H Q _ => ∃ c : Int, vs = [.int c] ∧ ∀ (p : Addr) (n : Int), H p = none → Q (.ref p) (upd H p (.lst [.int n]))
def spTake : Sp := fun vs H Q _ => ∃ (p : Addr) (n m : Int), vs = [.ref p, .int m] ∧ H p = some (.lst [.int n]) ∧ 0 < m ∧ m.natAbs.log2 < 100 ∧ Q (.int (n % m)) (upd H p (.lst [.int (n / m)]))
section
variable {P : Program} {w : World} {K : PySem.W.Frag} {mg : Str → Option Value} {base : Heap}
theorem scC : FnScope ["_law_script", "_law_k"] ["_law_script", "_law_k"] (defScope sCell) := ⟨rfl, rfl, rfl, by decide +kernel, rfl, by decide +kernel, by decide +kernel⟩
theorem ok_cell {f : Addr} {fd : FuncData} (F : Fun K "_law_cell_at" "_law_cell_at" sCell f fd) (T : Blt mg) : FnOk P w K mg base CX0 2 f fd ["_law_script", "_law_k"] (spCell K) := by
  refine F.ok scC (fun vs H Q E h => ?_) (fun cdv A outer s H vs Q E hr h => ?_)
  · obtain ⟨a, ns, k, rfl, _⟩ := h
    rfl
  · obtain ⟨a, ns, k, rfl, hS, q⟩ := h
    refine ⟨_, pss_cons (ps_if (pt_cmpR op_lt (pv 1) (pe_callB call_len_seq (by rfl) T.len PySem.boot_len (pa_cons (pv 0) pa_nil)) (nomark _)) (pss_one (ps_ret (pe_ix ix_list (pv 0) (pv 1) (fun _ _ => rfl)))) pss_nil) (pss_one (ps_ret pe_int)), ?_⟩
    refine ⟨_, rfl, _, rfl, a, _, rfl, .inl hS, _, _, rfl, rfl, _, rfl, ?_⟩
    refine ite2 (fun hlt => ?_) (fun _ => q 0)
    have hlt : (k : Int) < ((ns.map V.int).length : Int) := of_decide_eq_true hlt
    rw [List.length_map] at hlt
    have hk : k < ns.length := by omega
    refine ⟨_, rfl, _, rfl, a, _, _, _, rfl, rfl, hS, atI_nat (v := V.int ns[k]) ?_, q _⟩
    rw [List.getElem?_map, List.getElem?_eq_getElem hk]
    rfl
theorem scT : FnScope ["_law_pot_here", "_law_far", "_law_found"] ["_law_pot_here", "_law_far"] (defScope sTake) := ⟨rfl, rfl, rfl, by decide +kernel, rfl, by decide +kernel, by decide +kernel⟩
theorem ok_take {f : Addr} {fd : FuncData} (F : Fun K "_law_take" "_law_take" sTake f fd) : FnOk P w K mg base CX0 2 f fd ["_law_pot_here", "_law_far"] spTake := by
  refine F.ok scT (fun vs H Q E h => ?_) (fun cdv A outer s H vs Q E hr h => ?_)
  · obtain ⟨p, n, m, rfl, _⟩ := h
    rfl
  · obtain ⟨p, n, m, rfl, hp, h0, hl, q⟩ := h
    refine ⟨_, pss_cons (ps_set (i := 2) scT.nd rfl (Or.inl rfl) (pe_op op_mod (pe_ix ix_list (pv 0) pe_int (fun _ _ => rfl)) (pv 1)))
      (pss_cons (ps_asg (pe_op op_fdivL (pe_ix ix_list (pv 0) pe_int (fun _ _ => rfl)) (pv 1)) (pg_sub (pv 0) pe_int set_list))
      (pss_one (ps_ret (pv 2)))), ?_⟩
    refine ⟨_, rfl, p, _, _, _, rfl, rfl, SqL.of hp, rfl, _, rfl, _, _, rfl, rfl, h0, ?_⟩
    refine ⟨_, rfl, p, _, _, _, rfl, rfl, SqL.of hp, rfl, _, rfl, _, _, rfl, rfl, ⟨h0, hl⟩, ?_⟩
    exact ⟨_, rfl, p, _, _, 0, rfl, rfl, hp, rfl, _, rfl, q⟩
theorem scP : FnScope ["_law_cell", "_law_number", "_law_j", "_law_more"] ["_law_cell"] (defScope sPot) := ⟨rfl, rfl, rfl, by decide +kernel, rfl, by decide +kernel, by decide +kernel⟩
theorem ok_pot {f : Addr} {fd : FuncData} (F : Fun K "_law_pot" "_law_pot" sPot f fd) (T : Blt mg) : FnOk P w K mg base CX0 2 f fd ["_law_cell"] spPot := by
  refine F.ok scP (fun vs H Q E h => ?_) (fun cdv A outer s H vs Q E hr h => ?_)
  · obtain ⟨c, rfl, _⟩ := h
    rfl
  · obtain ⟨c, rfl, q⟩ := h
    refine ⟨_, pss_cons (ps_if (pt_cmpR op_ge (pv 0) (pe_op op_pow pe_int pe_int) (nomark _)) (pss_one (ps_ret (pe_lst (pa_cons (pe_op op_sub (pv 0) (pe_op op_pow pe_int pe_int)) pa_nil)))) pss_nil)
      (pss_cons (ps_set (i := 1) scP.nd rfl (Or.inl rfl) pe_int)
      (pss_cons (ps_for PassesOwn.never rfl (pi_range1 rfl T.range (pa_cons pe_int pa_nil)) (pg_name (i := 2) scP.nd rfl (Or.inl rfl))
        (pss_cons (ps_set (i := 3) scP.nd rfl (Or.inl rfl) (pe_op op_mod (pe_op op_mul (pe_op op_add (pe_op op_add (pe_op op_mod (pv 0) pe_int) (pe_op op_mul pe_int (pv 2))) pe_int) pe_int) pe_int))
        (pss_cons (ps_set (i := 3) scP.nd rfl (Or.inl rfl) (pe_op op_mod (pe_op op_add (pe_op op_add (pe_op op_mul (pv 3) (pv 3)) (pe_op op_mul pe_int (pv 2))) pe_int) pe_int))
        (pss_one (ps_set (i := 1) scP.nd rfl (Or.inl rfl) (pe_op op_add (pe_op op_mul (pv 1) pe_int) (pv 3)))))))
      (pss_one (ps_ret (pe_lst (pa_cons (pv 1) pa_nil)))))), ?_⟩
    refine ⟨_, rfl, _, _, rfl, rfl, ⟨by decide, by decide, by decide⟩, _, _, rfl, rfl, _, rfl, ?_⟩
    refine ite2 (fun _ => ?_) (fun _ => ?_)
    · exact ⟨_, rfl, _, _, rfl, rfl, ⟨by decide, by decide, by decide⟩, _, _, rfl, rfl, (by show 1 ≤ sizeLine; decide), fun p hp => q p _ hp⟩
    · refine ⟨64, rfl, by decide, by decide, for_range (n := 64) (fun j σ H2 => H2 = H ∧ ∃ (n : Int) (a b : Option V), σ = [some (.int c), some (.int n), a, b]) ⟨rfl, 0, none, none, rfl⟩ ?_ ?_⟩
      · rintro j σ H2 hj ⟨rfl, n, a, b, rfl⟩
        refine ⟨_, rfl, _, _, rfl, rfl, (by show (0 : Int) < 2147483629; decide), _, rfl, _, _, rfl, rfl, .inl ⟨by decide, by decide⟩, _, _, rfl, rfl, _, _, rfl, rfl, _, _, rfl, rfl, .inr ⟨by decide, by decide⟩, _, _, rfl, rfl, (by show (0 : Int) < 2147483647; decide), ?_⟩
        have b0 := Int.emod_nonneg ((c % 2147483629 + 7919 * (0 + (j : Int)) + 1) * 48271) (b := 2147483647) (by decide)
        have b1 := Int.emod_lt_of_pos ((c % 2147483629 + 7919 * (0 + (j : Int)) + 1) * 48271) (b := 2147483647) (by decide)
        refine ⟨_, rfl, _, rfl, _, _, rfl, rfl, .inl ⟨by omega, by omega⟩, _, rfl, _, _, rfl, rfl, .inl ⟨by decide, by decide⟩, _, _, rfl, rfl, _, _, rfl, rfl, _, _, rfl, rfl, (by show (0 : Int) < 2147483587; decide), ?_⟩
        exact ⟨_, rfl, _, _, rfl, rfl, .inr ⟨by decide, by decide⟩, _, rfl, _, _, rfl, rfl, rfl, _, _, _, rfl⟩
      · rintro σ H2 ⟨rfl, n, a, b, rfl⟩
        exact ⟨_, rfl, (by show 1 ≤ sizeLine; decide), fun p hp => q p _ hp⟩
end
end K1


set_option Elab.async false
set_option linter.all false
set_option maxRecDepth 100000
set_option maxHeartbeats 800000
namespace K1
open PySem L2 LN
abbrev sWhole : Stmt := top 26
abbrev sName : Stmt := top 27
abbrev sSign : Stmt := top 28
abbrev CstI (mg : Str → Option Value) (x : Str) (i : Int) : Prop := ∃ u, mg x = some u ∧ RelV (.int i) u
structure Cst (mg : Str → Option Value) : Prop where
  si : CstI mg "MOST_SIGNS" 8
  le : CstI mg "MOST_LETTERS" 6
  pa : CstI mg "MOST_PARTS" 3
  nu : CstI mg "MOST_NUMBERS" 30
/-- what a def is known by where it is called -/
structure Known (P : Program) (w : World) (K : PySem.W.Frag) (mg : Str → Option Value) (base : Heap) (CX : CXT) (k : Nat) (x : Str) (f : Addr) (fd : FuncData) (ps : List Str) (sp : Sp) : Prop where
  G : FnOk P w K mg base CX k f fd ps sp
  m : mg x = some (.ref f)
  k : PySem.W.keepIn K (.ref f) = true
  b : Binds K fd ps []
def spWhole (K : PySem.W.Frag) : Sp := fun vs H Q _ => ∃ (v : V) (ty : Value) (b1 b2 : Bool), vs = [v] ∧ TyR K H v ty ∧ PySem.W.kitOne K ty (.type "int") = some b1 ∧ PySem.W.kitOne K ty (.type "bool") = some b2 ∧ Q (.bl (b1 && !b2)) H
theorem le_a {c : Nat} (h : 97 ≤ c) : (!decide ((⟨#[c]⟩ : Str).cps.toList < ("a" : Str).cps.toList)) = true := by
  have : ¬ ((⟨#[c]⟩ : Str).cps.toList < ("a" : Str).cps.toList) := by
    show ¬ ([c] < [97])
    intro z
    cases z with
    | rel z => omega
    | cons z => cases z
  rw [decide_eq_false this]
  rfl
theorem le_z {c : Nat} (h : c ≤ 122) : (!decide (("z" : Str).cps.toList < (⟨#[c]⟩ : Str).cps.toList)) = true := by
  have : ¬ (("z" : Str).cps.toList < (⟨#[c]⟩ : Str).cps.toList) := by
    show ¬ ([122] < [c])
    intro z
    cases z with
    | rel z => omega
    | cons z => cases z
  rw [decide_eq_false this]
  rfl
section
variable {P : Program} {w : World} {K : PySem.W.Frag} {mg : Str → Option Value} {base : Heap}
theorem scWh : FnScope ["thing"] ["thing"] (defScope sWhole) := ⟨rfl, rfl, rfl, by decide +kernel, rfl, by decide +kernel, by decide +kernel⟩
theorem ok_whole {f : Addr} {fd : FuncData} (F : Fun K "is_whole" "is_whole" sWhole f fd) (T : Blt mg) : FnOk P w K mg base CX0 2 f fd ["thing"] (spWhole K) := by
  refine F.ok scWh (fun vs H Q E h => ?_) (fun cdv A outer s H vs Q E hr h => ?_)
  · obtain ⟨v, ty, b1, b2, rfl, _⟩ := h
    rfl
  · obtain ⟨v, ty, b1, b2, rfl, hty, h1, h2, q⟩ := h
    refine ⟨_, pss_one (ps_ret (pe_and (pe_isiT (n := "int") (pv 0) (by rfl) T.isi (by rfl) T.int (by decide +kernel)) (pe_one (pe_not (pe_isiT (n := "bool") (pv 0) (by rfl) T.isi (by rfl) T.bool (by decide +kernel)))))), ?_⟩
    refine ⟨_, rfl, _, _, _, _, _, rfl, hty, rfl, h1, _, rfl, ?_⟩
    cases b1 with
    | false => exact iteF q
    | true => exact iteT ⟨_, rfl, _, _, _, _, _, rfl, hty, rfl, h2, _, rfl, q⟩
theorem scNm : FnScope ["thing", "letter"] ["thing"] (defScope sName) := ⟨rfl, rfl, rfl, by decide +kernel, rfl, by decide +kernel, by decide +kernel⟩
theorem scSg : FnScope ["thing", "name", "parts"] ["thing"] (defScope sSign) := ⟨rfl, rfl, rfl, by decide +kernel, rfl, by decide +kernel, by decide +kernel⟩
end
end K1


set_option Elab.async false
set_option linter.all false
set_option maxRecDepth 100000
set_option maxHeartbeats 800000
namespace K1
open PySem L2 LN
abbrev sNam : Stmt := top 64
def n8 : List Str := ["a", "f", "g", "aa", "ab", "ba", "ffffff", "fffffg"]
theorem n8_ok : ∀ x ∈ n8, NmOk x := by unfold NmOk SmN; decide +kernel
theorem abc_at : ∀ j : Nat, j < 26 → atI ("abcdefghijklmnopqrstuvwxyz" : Str).cps.toList (j : Int) = some ((97 + j : Nat)) := by decide +kernel
def spNam : Sp := fun vs H Q _ => ∃ (p : Addr), vs = [.ref p] ∧ PotAt H p ∧ ∀ (x : Str) (H' : Hp), Sam p H H' → PotAt H' p → NmOk x → Q (.str x) H'
section
variable {P : Program} {w : World} {K : PySem.W.Frag} {mg : Str → Option Value} {base : Heap}
abbrev NN : List Str := ["_law_pot_here", "_law_letters", "_law_turn"]
theorem scN : FnScope NN ["_law_pot_here"] (defScope sNam) := ⟨rfl, rfl, rfl, by decide +kernel, rfl, by decide +kernel, by decide +kernel⟩
theorem ok_nam {f fT : Addr} {fd fdT : FuncData} (F : Fun K "_law_name" "_law_name" sNam f fd) (B : Blt mg) (T : Known P w K mg base CX0 2 "_law_take" fT fdT ["_law_pot_here", "_law_far"] spTake) : FnOk P w K mg base CX0 3 f fd ["_law_pot_here"] spNam := by
  refine F.ok scN (fun vs H Q E h => ?_) (fun cdv A outer s H vs Q E hr h => ?_)
  · obtain ⟨p, rfl, _⟩ := h
    rfl
  · obtain ⟨p, rfl, ⟨n0, hp⟩, q⟩ := h
    refine ⟨_, pss_cons (ps_set (i := 1) scN.nd rfl (Or.inr rfl) pe_str)
      (pss_cons (ps_if (pt_cmpR op_eq (pe_call T.G hr (by rfl) T.m T.k T.b .nil pass0 (pa_cons (pv 0) (pa_cons pe_int pa_nil))) pe_int (nomark _))
        (pss_one (ps_ret (pe_ix ix_list (pe_lst (pa_strs (xs := n8) (strs_of (by kernel_rfl)))) (pe_call T.G hr (by rfl) T.m T.k T.b .nil pass0 (pa_cons (pv 0) (pa_cons pe_int pa_nil))) (fun _ _ => rfl)))) pss_nil)
      (pss_one (ps_ret (pe_join pe_str (pe_lc (own := [("_law_turn", 2)]) (g := gName 2) (by rfl) scN.nd (pi_range1 (by rfl) B.range (pa_cons (pe_op op_add pe_int (pe_call T.G hr (by rfl) T.m T.k T.b .nil pass0 (pa_cons (pv 0) (pa_cons pe_int pa_nil)))) pa_nil))
        (blkOk_by (own := [("_law_turn", 2)]) (N := NN) (sc := defScope sNam) (by decide +kernel)) (fun _ _ _ _ _ => pg_name (i := 2) scN.nd rfl (Or.inl rfl)) (fun _ _ _ _ _ => pts_nil)
        (fun _ _ _ _ _ => pe_ix ix_str (pv 1) (pe_call T.G hr (by rfl) T.m T.k T.b .nil pass0 (pa_cons (pv 0) (pa_cons pe_int pa_nil))) (fun _ _ => rfl))))))), ?_⟩
    refine ⟨_, rfl, p, n0, 3, rfl, hp, by decide, by decide, rfl, _, rfl, ?_⟩
    have hp1 : (upd H p (.lst [.int (n0 / 3)])) p = some (.lst [.int (n0 / 3)]) := upd_same
    have S1 : Sam p H (upd H p (.lst [.int (n0 / 3)])) := Sam.upd
    generalize upd H p (.lst [.int (n0 / 3)]) = H1 at hp1 S1 ⊢
    generalize n0 / 3 = n1 at hp1
    refine ite2 (fun _ => ?_) (fun _ => ?_)
    · refine ⟨by show 8 ≤ sizeLine; decide, fun l hl => ?_⟩
      have hpl := ne_of_none hp1 hl
      obtain ⟨j, hj, ej⟩ := mod_nat (n := n1) (m := 8) (by decide)
      refine ⟨_, rfl, p, n1, 8, rfl, by rw [upd_ne hpl]; exact hp1, by decide, by decide, l, n8.map V.str, _, .str (n8.getD j ""), rfl, rfl, SqL.of (by rw [upd_ne (Ne.symm hpl), upd_same]), ?_, ?_⟩
      · rw [show (n1 % 8 : Int) = (j : Int) from ej]
        refine atI_nat ?_
        rw [List.getElem?_map, List.getD_eq_getElem?_getD, List.getElem?_eq_getElem (show j < n8.length from hj)]
        rfl
      · refine q _ _ ?_ ⟨_, upd_same⟩ (n8_ok _ ?_)
        · exact (S1.trans (Sam.of (same_new hl))).trans Sam.upd
        · rw [List.getD_eq_getElem?_getD, List.getElem?_eq_getElem (show j < n8.length from hj)]
          exact List.getElem_mem _
    · obtain ⟨m, hm, em⟩ := mod_nat (n := n1) (m := 6) (by decide)
      refine ⟨⟨_, rfl⟩, _, rfl, p, n1, 6, rfl, hp1, by decide, by decide, _, _, rfl, rfl, _, rfl, ?_, ?_, fun D hD => ?_⟩
      · rw [show (n1 % 6 : Int) = (m : Int) from em]; omega
      · rw [show (n1 % 6 : Int) = (m : Int) from em]; omega
      rw [show ((1 : Int) + n1 % 6).toNat = 1 + m by rw [show (n1 % 6 : Int) = (m : Int) from em]; omega]
      have hp2 : PotAt (upd H1 p (.lst [.int (n1 / 6)])) p := ⟨_, upd_same⟩
      have S2 : Sam p H (upd H1 p (.lst [.int (n1 / 6)])) := S1.trans Sam.upd
      generalize upd H1 p (.lst [.int (n1 / 6)]) = H2 at hp2 S2 hD ⊢
      have hpD : p ≠ D := by
        obtain ⟨k, z⟩ := hp2
        exact ne_of_none z hD
      have hD0 : H D = none := S2.free (Ne.symm hpD) hD
      refine lc_range (fun i H3 => Sam p H H3 ∧ PotAt H3 p ∧ ∃ cs : List Nat, cs.length = i ∧ (∀ c ∈ cs, SmN c) ∧ H3 D = some (.lst ((cs.map sgn).map V.str))) ⟨S2.over hD0, hp2.over hD, [], rfl, (fun c z => nomatch z), upd_same⟩ ?_ ?_
      · rintro i H3 hi ⟨S3, ⟨k, hp3⟩, cs, hl, hc, hcs⟩
        obtain ⟨j, hj, ej⟩ := mod_nat (n := k) (m := 26) (by decide)
        refine ⟨rfl, ?_⟩
        unfold tYes
        refine iteT ?_
        refine ⟨_, rfl, _, rfl, p, k, 26, rfl, hp3, by decide, by decide, _, _, 97 + j, rfl, rfl, by decide +kernel, ?_, ?_⟩
        · rw [show (k % 26 : Int) = (j : Int) from ej]; exact abc_at j hj
        · refine ⟨_, by rw [upd_ne (Ne.symm hpD)]; exact hcs, by rw [List.length_map, List.length_map, hl]; exact small1000 (by omega), ?_, ?_, cs ++ [97 + j], ?_, ?_, ?_⟩
          · exact (S3.trans Sam.upd).over hD0
          · exact PotAt.upd ⟨_, upd_same⟩ hpD
          · rw [List.length_append, hl]; rfl
          · intro c hcc
            rcases List.mem_append.mp hcc with z | z
            · exact hc c z
            · rw [List.mem_singleton.mp z]; exact ⟨by omega, by omega⟩
          · rw [upd_same, List.map_append, List.map_append]
            rfl
      · rintro H3 ⟨S3, hp3, cs, hl, hc, hcs⟩
        refine ⟨_, D, cs.map sgn, rfl, rfl, .inl (SqL.of hcs), ?_, q _ _ S3 hp3 (nm_join (by omega) (by omega) hc)⟩
        have e : ((cs.map sgn).map (·.length)).sum = cs.length := by
          clear hcs hc hl
          induction cs with
          | nil => rfl
          | cons c cs ih => rw [List.map_cons, List.map_cons, List.sum_cons, ih, List.length_cons]; show 1 + _ = _; omega
        rw [e]
        show cs.length + (cs.map sgn).length * 0 ≤ 16777216
        omega
end
end K1


set_option Elab.async false
set_option linter.all false
set_option maxRecDepth 100000
set_option maxHeartbeats 800000
namespace K1
open PySem L2 LN
abbrev sKinds : Stmt := top 65
def spKinds : Sp := fun vs H Q _ => ∃ p : Addr, vs = [.ref p] ∧ PotAt H p ∧ ∀ (a : Addr) (ks : KS) (H' : Hp), Sam p H H' → PotAt H' p → KAt H' a ks → KOk ks → Q (.ref a) H'
abbrev NK : List Str := ["_law_pot_here", "_law_found", "_law_turn", "_law_name_here", "_law_at", "_law_one", "_law_below"]
structure KSt (p l : Addr) (H H2 : Hp) (i : Nat) (ps : List Addr) (ks : KS) : Prop where
  S : Sam p H H2
  pot : PotAt H2 p
  at_ : H2 l = some (.lst (ps.map V.ref))
  pr : Paired (PairAt H2) ps ks
  le : ks.length ≤ i
  pos : 0 < i → 0 < ks.length
  nm : ∀ k ∈ ks, NmOk k.1
  ar : ∀ k ∈ ks, k.2 ≤ 3
  nd : (ks.map (·.1)).Nodup
def d3 : List Nat := [3, 5, 8]
def d6 : List Nat := [0, 1, 2, 3, 2, 0]
theorem getD_map {es : List Nat} {i : Nat} (h : i < es.length) : (es.map nV)[i]? = some (nV (es.getD i 0)) := by
  rw [List.getElem?_map, List.getD_eq_getElem?_getD, List.getElem?_eq_getElem h]
  rfl
theorem ixN_nat {n i : Nat} (h : i < n) : ixN n (i : Int) = some i := by
  unfold ixN
  rw [if_pos (by omega), if_pos (by omega)]
  simp
theorem d3_ok : ∀ j, j < 3 → 3 ≤ d3.getD j 0 ∧ d3.getD j 0 ≤ 8 := by decide
theorem d6_ok : ∀ j, j < 6 → d6.getD j 0 ≤ 3 := by decide
theorem getD_at {es : List Nat} {i : Nat} (h : i < es.length) : atI (es.map nV) (i : Int) = some (nV (es.getD i 0)) := atI_nat (getD_map h)
section
variable {P : Program} {w : World} {K : PySem.W.Frag} {mg : Str → Option Value} {base : Heap}
theorem scK : FnScope NK ["_law_pot_here"] (defScope sKinds) := ⟨rfl, rfl, rfl, by decide +kernel, rfl, by decide +kernel, by decide +kernel⟩
theorem ok_kinds {f fT fN : Addr} {fd fdT fdN : FuncData} (F : Fun K "_law_kinds" "_law_kinds" sKinds f fd) (B : Blt mg) (T : Known P w K mg base CX0 2 "_law_take" fT fdT ["_law_pot_here", "_law_far"] spTake) (N : Known P w K mg base CX0 3 "_law_name" fN fdN ["_law_pot_here"] spNam) : FnOk P w K mg base CX0 4 f fd ["_law_pot_here"] spKinds := by
  refine F.ok scK (fun vs H Q E h => ?_) (fun cdv A outer s H vs Q E hr h => ?_)
  · obtain ⟨_, rfl, _⟩ := h
    rfl
  · obtain ⟨p, rfl, hp, q⟩ := h
    have hr2 := hr.mono (show 2 ≤ 2 + 1 by decide)
    refine ⟨_, pss_cons (ps_set (i := 1) scK.nd rfl (Or.inl rfl) (pe_lst pa_nil))
      (pss_cons (ps_for PassesOwn.never rfl (pi_range1 (by rfl) B.range (pa_cons (pe_op op_add pe_int (pe_call T.G hr2 (by rfl) T.m T.k T.b .nil pass0 (pa_cons (pv 0) (pa_cons (pe_ix ix_list (pe_lst (pa_cons pe_int (pa_cons pe_int (pa_cons pe_int pa_nil)))) (pe_call T.G hr2 (by rfl) T.m T.k T.b .nil pass0 (pa_cons (pv 0) (pa_cons pe_int pa_nil))) (fun _ _ => rfl)) pa_nil)))) pa_nil)) (pg_name (i := 2) scK.nd rfl (Or.inl rfl))
        (pss_cons (ps_set (i := 3) scK.nd rfl (Or.inl rfl) (pe_call N.G hr (by rfl) N.m N.k N.b .nil pass0 (pa_cons (pv 0) pa_nil)))
        (pss_one (ps_if (pt_cmpR op_notIn_seq (pv 3) (pe_lc (own := [("_law_one", 5), ("_law_below", 6)]) (g := gTup K 2 (gCons (gName 5) (gCons (gName 6) gNil))) (by rfl) scK.nd (pi_list (pv 1)) (blkOk_by (own := [("_law_one", 5), ("_law_below", 6)]) (N := NK) (sc := defScope sKinds) (by decide +kernel))
            (fun _ _ _ _ _ => pg_tup (by rfl) (pgs_cons (pg_name (i := 5) scK.nd rfl (Or.inl rfl)) (pgs_cons (pg_name (i := 6) scK.nd rfl (Or.inl rfl)) pgs_nil))) (fun _ _ _ _ _ => pts_nil) (fun _ _ _ _ _ => pv 5)) (by rfl))
          (pss_one (ps_expr (pe_bm PySem.F.plainAttrs_list PySem.F.slot_list_append PySem.F.type_list_append mt_append (pv 1) (pa_cons (pe_tup (pa_cons (pv 3) (pa_cons (pe_ix ix_list (pe_lst (pa_cons pe_int (pa_cons pe_int (pa_cons pe_int (pa_cons pe_int (pa_cons pe_int (pa_cons pe_int pa_nil))))))) (pe_call T.G hr2 (by rfl) T.m T.k T.b .nil pass0 (pa_cons (pv 0) (pa_cons pe_int pa_nil))) (fun _ _ => rfl)) pa_nil))) pa_nil))))
          pss_nil))))
      (pss_cons (ps_if (pt_cmpR op_notIn_seq pe_int (pe_lc (own := [("_law_name_here", 3), ("_law_below", 6)]) (g := gTup K 2 (gCons (gName 3) (gCons (gName 6) gNil))) (by rfl) scK.nd (pi_list (pv 1)) (blkOk_by (own := [("_law_name_here", 3), ("_law_below", 6)]) (N := NK) (sc := defScope sKinds) (by decide +kernel))
            (fun _ _ _ _ _ => pg_tup (by rfl) (pgs_cons (pg_name (i := 3) scK.nd rfl (Or.inl rfl)) (pgs_cons (pg_name (i := 6) scK.nd rfl (Or.inl rfl)) pgs_nil))) (fun _ _ _ _ _ => pts_nil) (fun _ _ _ _ _ => pv 6)) (by rfl))
        (pss_cons (ps_set (i := 4) scK.nd rfl (Or.inl rfl) (pe_call T.G hr2 (by rfl) T.m T.k T.b .nil pass0 (pa_cons (pv 0) (pa_cons (pe_callB call_len_seq (by rfl) B.len PySem.boot_len (pa_cons (pv 1) pa_nil)) pa_nil))))
        (pss_one (ps_asg (pe_tup (pa_cons (pe_ix ix_tup (pe_ix ix_list (pv 1) (pv 4) (fun _ _ => rfl)) pe_int (fun _ _ => rfl)) (pa_cons pe_int pa_nil))) (pg_sub (pv 1) (pv 4) set_list)))) pss_nil)
      (pss_one (ps_ret (pe_callTy call_tuple_of (by rfl) B.tuple (by decide +kernel) (pa_cons (pv 1) pa_nil)))))), ?_⟩
    obtain ⟨n0, hp0⟩ := id hp
    refine ⟨Nat.zero_le _, fun l hl => ?_⟩
    have hpl : p ≠ l := ne_of_none hp0 hl
    have hp1 : (upd H l (.lst [])) p = some (.lst [.int n0]) := by rw [upd_ne hpl]; exact hp0
    refine ⟨_, rfl, by show 3 ≤ sizeLine; decide, fun l3 hl3 => ?_⟩
    have hpl3 : p ≠ l3 := ne_of_none hp1 hl3
    have hll3 : l ≠ l3 := ne_of_none (o := .lst []) upd_same hl3
    have hp2 : (upd (upd H l (.lst [])) l3 (.lst [.int 3, .int 5, .int 8])) p = some (.lst [.int n0]) := by rw [upd_ne hpl3]; exact hp1
    refine ⟨_, rfl, p, n0, 3, rfl, hp2, by decide, by decide, ?_⟩
    obtain ⟨j, hj, ej⟩ := mod_nat (n := n0) (m := 3) (by decide)
    refine ⟨l3, d3.map nV, _, nV (d3.getD j 0), rfl, rfl, SqL.of (by rw [upd_ne (Ne.symm hpl3), upd_same]; rfl), ?_, ?_⟩
    · rw [show (n0 % 3 : Int) = (j : Int) from ej]; exact getD_at hj
    have h3 := d3_ok j hj
    generalize d3.getD j 0 = d at h3
    obtain ⟨m, hm, em⟩ := mod_nat (n := n0 / 3) (m := d) (by omega)
    refine ⟨p, n0 / 3, _, rfl, upd_same, by omega, ?_, _, _, rfl, rfl, _, rfl, ?_, ?_, ?_⟩
    · have e : ((d : Nat) : Int).natAbs = d := by omega
      rw [e]
      exact Nat.lt_of_le_of_lt (Nat.log2_le_self _) (by omega)
    · rw [em]; omega
    · rw [em]; omega
    rw [em, show ((1 : Int) + (m : Int)).toNat = 1 + m by omega]
    have hl0 : H l = none := hl
    have hl30 : H l3 = none := by rw [upd_ne (Ne.symm hll3)] at hl3; exact hl3
    refine for_range (fun i σ H2 => ∃ (ps : List Addr) (ks : KS) (o2 o3 o4 o5 o6 : Option V), KSt p l H H2 i ps ks ∧ σ = [some (.ref p), some (.ref l), o2, o3, o4, o5, o6]) ⟨[], [], _, _, _, _, _, ?_, rfl⟩ ?_ ?_
    · refine ⟨?_, ⟨_, upd_same⟩, ?_, .nil, Nat.le_refl _, (fun z => absurd z (by decide)), (fun k z => nomatch z), (fun k z => nomatch z), List.nodup_nil⟩
      · exact ((Sam.of ((Same.refl H).over hl0)).over hl30).trans (Sam.upd.trans Sam.upd)
      · rw [upd_ne (Ne.symm hpl), upd_ne (Ne.symm hpl), upd_ne hll3, upd_same]
        rfl
    · rintro i σ H2 hi ⟨ps, ks, o2, o3, o4, o5, o6, st, rfl⟩
      refine ⟨_, rfl, p, rfl, st.pot, fun x H3 S3 hp3 hx => ?_⟩
      have T3 : Tp H2 H3 := Tp.sam st.pot S3
      have hl3' : H3 l = some (.lst (ps.map V.ref)) := S3 _ _ st.at_ (Ne.symm hpl)
      have pr3 := T3.pairs st.pr
      have hlen : ps.length = ks.length := Paired.length pr3
      have hle := st.le
      refine ⟨_, rfl, _, rfl, l, rfl, ⟨_, SqL.of hl3'⟩, fun D hD => ?_⟩
      refine lc_valsL (xs := ps.map V.ref) (ys := (ks.map (·.1)).map V.str) hD (by rw [List.length_map]; omega) (by rw [List.length_map, List.length_map, List.length_map, hlen]) (SqL.of hl3') ?_ ?_
      · intro i' x' y H4 Q' hx' hy S4 k
        rw [List.getElem?_map] at hx'
        obtain ⟨q', hq', rfl⟩ := Option.map_eq_some_iff.mp hx'
        obtain ⟨kk, hkk, hpk⟩ := paired_at i' pr3 hq'
        rw [List.getElem?_map, List.getElem?_map, hkk] at hy
        cases hy
        exact ⟨q', _, rfl, SqT.of (S4 _ _ hpk), rfl, _, _, rfl, _, _, rfl, rfl, rfl, _, rfl, k _ (Same.refl _)⟩
      intro H4 S4 hD4
      have hpD : p ≠ D := by
        obtain ⟨k, z⟩ := hp3
        exact ne_of_none z hD
      have S04 : Sam p H H4 := (st.S.trans S3).trans (Sam.of S4)
      refine ⟨D, _, rfl, .inl (SqL.of hD4), rfl, flat_strs _, _, rfl, ?_⟩
      refine ite2 (fun hin => ?_) (fun hin => ?_)
      · have hin : (!inV (.str x) ((ks.map (·.1)).map V.str)) = true := hin
        rw [inV_str] at hin
        have hnin : x ∉ ks.map (·.1) := by simpa using hin
        obtain ⟨n4, hp4⟩ := PotAt.same S4 hp3
        have hl4 := S4 _ _ hl3'
        refine ⟨_, rfl, .inl ⟨rfl, _, SqL.of hl4⟩, _, rfl, by show 6 ≤ sizeLine; decide, fun l6 hl6 => ?_⟩
        have hpl6 : p ≠ l6 := ne_of_none hp4 hl6
        obtain ⟨j6, hj6, ej6⟩ := mod_nat (n := n4) (m := 6) (by decide)
        refine ⟨_, rfl, p, n4, 6, rfl, by rw [upd_ne hpl6]; exact hp4, by decide, by decide, l6, d6.map nV, _, nV (d6.getD j6 0), rfl, rfl, SqL.of (by rw [upd_ne (Ne.symm hpl6), upd_same]; rfl), ?_, ?_⟩
        · rw [show (n4 % 6 : Int) = (j6 : Int) from ej6]; exact getD_at hj6
        have h6 := d6_ok j6 hj6
        generalize d6.getD j6 0 = d' at h6
        have hl6' : (upd (upd H4 l6 (.lst [.int 0, .int 1, .int 2, .int 3, .int 2, .int 0])) p (.lst [.int (n4 / 6)])) l = some (.lst (ps.map V.ref)) := by
          rw [upd_ne (Ne.symm hpl), upd_ne (ne_of_none hl4 hl6)]; exact hl4
        have hp6 : PotAt (upd (upd H4 l6 (.lst [.int 0, .int 1, .int 2, .int 3, .int 2, .int 0])) p (.lst [.int (n4 / 6)])) p := ⟨_, upd_same⟩
        have S6 : Sam p H4 (upd (upd H4 l6 (.lst [.int 0, .int 1, .int 2, .int 3, .int 2, .int 0])) p (.lst [.int (n4 / 6)])) := (Sam.of (same_new hl6)).trans Sam.upd
        generalize upd (upd H4 l6 (.lst [.int 0, .int 1, .int 2, .int 3, .int 2, .int 0])) p (.lst [.int (n4 / 6)]) = H6 at hl6' hp6 S6 ⊢
        have pr6 := (Tp.sam ⟨n4, hp4⟩ S6).pairs ((Tp.of S4).pairs pr3)
        refine ⟨by show 2 ≤ sizeLine; decide, fun t ht => ?_⟩
        have hlt : l ≠ t := ne_of_none hl6' ht
        have hpt : p ≠ t := by
          obtain ⟨k, z⟩ := hp6
          exact ne_of_none z ht
        have hl7 : (upd H6 t (.tup [.str x, nV d'])) l = some (.lst (ps.map V.ref)) := by rw [upd_ne hlt]; exact hl6'
        have S06 : Sam p H H6 := S04.trans S6
        refine ⟨l, _, _, rfl, rfl, hl7, by rw [List.length_map]; exact small1000 (by omega), ?_⟩
        refine ⟨ps ++ [t], ks ++ [(x, d')], _, _, _, _, _, ⟨?_, ?_, ?_, ?_, ?_, ?_, ?_, ?_, ?_⟩, rfl⟩
        · exact (S06.over (S06.free (Ne.symm hpt) ht)).over hl0
        · exact (hp6.over ht).upd hpl
        · rw [upd_same, List.map_append]; rfl
        · refine (Tp.lst (ys := ps.map V.ref ++ [V.ref t]) hl7).pairs ?_
          exact paired_snoc (show PairAt _ t (x, d') from upd_same) ((Tp.of (same_new ht)).pairs pr6)
        · rw [List.length_append, List.length_singleton]; omega
        · intro _; rw [List.length_append, List.length_singleton]; omega
        · intro k hk
          rcases List.mem_append.mp hk with z | z
          · exact st.nm k z
          · rw [List.mem_singleton.mp z]; exact hx
        · intro k hk
          rcases List.mem_append.mp hk with z | z
          · exact st.ar k z
          · rw [List.mem_singleton.mp z]; exact h6
        · rw [List.map_append]; exact nd_snoc st.nd hnin
      · have hin : ¬ (!inV (.str x) ((ks.map (·.1)).map V.str)) = true := hin
        rw [inV_str] at hin
        have hnin : x ∈ ks.map (·.1) := by simpa using hin
        refine ⟨ps, ks, _, _, _, _, _, ⟨S04, PotAt.same S4 hp3, S4 _ _ hl3', (Tp.of S4).pairs pr3, by omega, fun _ => ?_, st.nm, st.ar, st.nd⟩, rfl⟩
        have := List.length_pos_of_mem hnin
        rw [List.length_map] at this
        exact this
    · rintro σ H2 ⟨ps, ks, o2, o3, o4, o5, o6, st, rfl⟩
      have hlen : ps.length = ks.length := Paired.length st.pr
      have hle := st.le
      have hpos := st.pos (by omega)
      refine ⟨_, rfl, l, rfl, ⟨_, SqL.of st.at_⟩, fun D hD => ?_⟩
      refine lc_valsL (xs := ps.map V.ref) (ys := (ks.map (·.2)).map nV) hD (by rw [List.length_map]; omega) (by rw [List.length_map, List.length_map, List.length_map, hlen]) (SqL.of st.at_) ?_ ?_
      · intro i' x' y H4 Q' hx' hy S4 k
        rw [List.getElem?_map] at hx'
        obtain ⟨q', hq', rfl⟩ := Option.map_eq_some_iff.mp hx'
        obtain ⟨kk, hkk, hpk⟩ := paired_at i' st.pr hq'
        rw [List.getElem?_map, List.getElem?_map, hkk] at hy
        cases hy
        exact ⟨q', _, rfl, SqT.of (S4 _ _ hpk), rfl, _, _, rfl, _, _, rfl, rfl, rfl, _, rfl, k _ (Same.refl _)⟩
      intro H4 S4 hD4
      obtain ⟨n4, hp4⟩ := PotAt.same S4 st.pot
      have S04 : Sam p H H4 := st.S.trans (Sam.of S4)
      have hl4 := S4 _ _ st.at_
      have pr4 := (Tp.of S4).pairs st.pr
      refine ⟨D, _, rfl, .inl (SqL.of hD4), rfl, flat_nats _, _, rfl, ?_⟩
      refine ite2 (fun hin => ?_) (fun hin => ?_)
      · obtain ⟨at', hat, eat⟩ := mod_nat (n := n4) (m := ps.length) (by omega)
        refine ⟨_, rfl, _, rfl, l, _, rfl, .inl (SqL.of hl4), p, n4, _, rfl, hp4, ?_, ?_, ?_⟩
        · rw [List.length_map]; omega
        · rw [List.length_map]
          have e : ((ps.length : Nat) : Int).natAbs = ps.length := by omega
          rw [e]
          exact Nat.lt_of_le_of_lt (Nat.log2_le_self _) (by omega)
        rw [List.length_map, eat]
        have hl5 : (upd H4 p (.lst [.int (n4 / (ps.length : Int))])) l = some (.lst (ps.map V.ref)) := by rw [upd_ne (Ne.symm hpl)]; exact hl4
        have hp5 : PotAt (upd H4 p (.lst [.int (n4 / (ps.length : Int))])) p := ⟨_, upd_same⟩
        have S5 : Sam p H4 (upd H4 p (.lst [.int (n4 / (ps.length : Int))])) := Sam.upd
        generalize upd H4 p (.lst [.int (n4 / (ps.length : Int))]) = H5 at hl5 hp5 S5 ⊢
        have pr5 := (Tp.sam ⟨n4, hp4⟩ S5).pairs pr4
        have hpa : ps[at']? = some ps[at'] := List.getElem?_eq_getElem hat
        obtain ⟨kk, hkk, hpk⟩ := paired_at at' pr5 hpa
        refine ⟨_, rfl, _, rfl, l, _, _, .ref ps[at'], rfl, rfl, SqL.of hl5, ?_, ps[at'], _, _, _, rfl, rfl, SqT.of hpk, rfl, by show 2 ≤ sizeLine; decide, fun t ht => ?_⟩
        · exact atI_nat (by rw [List.getElem?_map, hpa]; rfl)
        have hlt : l ≠ t := ne_of_none hl5 ht
        have hpt : p ≠ t := by
          obtain ⟨k, z⟩ := hp5
          exact ne_of_none z ht
        have S05 : Sam p H H5 := S04.trans S5
        have hl6 : (upd H5 t (.tup [.str kk.1, .int 0])) l = some (.lst (ps.map V.ref)) := by rw [upd_ne hlt]; exact hl5
        refine ⟨_, rfl, _, rfl, l, _, _, at', rfl, rfl, hl6, by rw [List.length_map]; exact ixN_nat hat, ?_⟩
        have pr6 : Paired (PairAt (upd (upd H5 t (.tup [.str kk.1, .int 0])) l (.lst ((ps.set at' t).map V.ref)))) (ps.set at' t) (ks.set at' (kk.1, 0)) := by
          refine (Tp.lst (ys := (ps.set at' t).map V.ref) hl6).pairs ?_
          exact paired_set (show PairAt _ t (kk.1, 0) from upd_same) at' ((Tp.of (same_new ht)).pairs pr5)
        have e7 : (ps.map V.ref).set at' (V.ref t) = (ps.set at' t).map V.ref := by rw [List.map_set]
        rw [e7]
        refine ⟨_, rfl, l, _, rfl, .inl ⟨SqL.of upd_same, fun r hr' => ?_⟩⟩
        have S07 : Sam p H (upd (upd H5 t (.tup [.str kk.1, .int 0])) l (.lst ((ps.set at' t).map V.ref))) := (S05.over (S05.free (Ne.symm hpt) ht)).over hl0
        have hp7 : PotAt (upd (upd H5 t (.tup [.str kk.1, .int 0])) l (.lst ((ps.set at' t).map V.ref))) p := (hp5.over ht).upd hpl
        generalize upd (upd H5 t (.tup [.str kk.1, .int 0])) l (.lst ((ps.set at' t).map V.ref)) = H7 at pr6 hr' S07 hp7
        have hpr : p ≠ r := by
          obtain ⟨k, z⟩ := hp7
          exact ne_of_none z hr'
        refine q r (ks.set at' (kk.1, 0)) _ (S07.over (S07.free (Ne.symm hpr) hr')) (hp7.over hr') ⟨_, upd_same, (Tp.of (same_new hr')).pairs pr6⟩ ⟨?_, ?_, ?_, ?_, ?_⟩
        · rw [List.length_set]; omega
        · intro k hk
          rcases List.mem_or_eq_of_mem_set hk with z | z
          · exact st.nm k z
          · rw [z]; exact (show NmOk kk.1 from st.nm kk (List.mem_of_getElem? hkk))
        · intro k hk
          rcases List.mem_or_eq_of_mem_set hk with z | z
          · exact st.ar k z
          · rw [z]; exact Nat.zero_le _
        · have e : (ks.set at' (kk.1, 0)).map (·.1) = ks.map (·.1) := by
            rw [List.map_set]
            have : (ks.map (·.1))[at']? = some kk.1 := by rw [List.getElem?_map, hkk]; rfl
            obtain ⟨h1, h2⟩ := List.getElem?_eq_some_iff.mp this
            rw [← h2]
            exact List.set_getElem_self h1
          rw [e]; exact st.nd
        · exact ⟨(kk.1, 0), List.mem_set (by omega) _, rfl⟩
      · have hin : ¬ (!inV (nV 0) ((ks.map (·.2)).map nV)) = true := hin
        rw [inV_nat] at hin
        have hz : 0 ∈ ks.map (·.2) := by simpa using hin
        obtain ⟨k0, hk0, ek0⟩ := List.mem_map.mp hz
        refine ⟨_, rfl, l, _, rfl, .inl ⟨SqL.of hl4, fun r hr' => ?_⟩⟩
        have hpr : p ≠ r := ne_of_none hp4 hr'
        refine q r ks _ (S04.over (S04.free (Ne.symm hpr) hr')) (PotAt.over ⟨_, hp4⟩ hr') ⟨ps, upd_same, (Tp.of (same_new hr')).pairs pr4⟩ ⟨by omega, st.nm, st.ar, st.nd, k0, hk0, ek0⟩
end
end K1


set_option Elab.async false
set_option linter.all false
set_option maxRecDepth 100000
set_option maxHeartbeats 800000
namespace K1
open PySem L2 LN
abbrev sLWh : Stmt := top 61
abbrev sLWi : Stmt := top 62
def inW (lo hi : Int) : PyData → Bool
  | .int n => decide (lo ≤ n) && decide (n ≤ hi)
  | _ => false
def spWi (K : PySem.W.Frag) : Sp := fun vs H Q _ => ∃ (p : Addr) (v : V) (d : PyData) (lo hi : Int), vs = [v, .int lo, .int hi] ∧ Dq H p v d ∧ Q (.bl (inW lo hi d)) H
theorem still_same {H H' : Hp} {p : Addr} (hp : PotAt H p) (S : Same H H') : Still p H H' := by
  obtain ⟨n, hp⟩ := hp
  exact ⟨⟨_, hp⟩, fun b o h _ => S b o h⟩
theorem still_sam {H H' : Hp} {p : Addr} (hp : PotAt H p) (S : Sam p H H') : Still p H H' := by
  obtain ⟨n, hp⟩ := hp
  exact ⟨⟨_, hp⟩, fun b o h n => S b o h n⟩
section
variable {P : Program} {w : World} {K : PySem.W.Frag} {mg : Str → Option Value} {base : Heap} {C : Nat → Addr}
theorem scLW : FnScope ["_law_thing"] ["_law_thing"] (defScope sLWh) := ⟨rfl, rfl, rfl, by decide +kernel, rfl, by decide +kernel, by decide +kernel⟩
theorem ok_lwh {f : Addr} {fd : FuncData} (F : Fun K "_law_whole" "_law_whole" sLWh f fd) (T : Blt mg) : FnOk P w K mg base CX0 2 f fd ["_law_thing"] (spWhole K) := by
  refine F.ok scLW (fun vs H Q E h => ?_) (fun cdv A outer s H vs Q E hr h => ?_)
  · obtain ⟨v, ty, b1, b2, rfl, _⟩ := h
    rfl
  · obtain ⟨v, ty, b1, b2, rfl, hty, h1, h2, q⟩ := h
    refine ⟨_, pss_one (ps_ret (pe_and (pe_isiT (n := "int") (pv 0) (by rfl) T.isi (by rfl) T.int (by decide +kernel)) (pe_one (pe_not (pe_isiT (n := "bool") (pv 0) (by rfl) T.isi (by rfl) T.bool (by decide +kernel)))))), ?_⟩
    refine ⟨_, rfl, _, _, _, _, _, rfl, hty, rfl, h1, _, rfl, ?_⟩
    cases b1 with
    | false => exact iteF q
    | true => exact iteT ⟨_, rfl, _, _, _, _, _, rfl, hty, rfl, h2, _, rfl, q⟩
theorem scLWi : FnScope ["_law_thing", "_law_low", "_law_high"] ["_law_thing", "_law_low", "_law_high"] (defScope sLWi) := ⟨rfl, rfl, rfl, by decide +kernel, rfl, by decide +kernel, by decide +kernel⟩
theorem ok_lwi {f fW : Addr} {fd fdW : FuncData} (F : Fun K "_law_within" "_law_within" sLWi f fd) (W : Known P w K mg base CX0 2 "_law_whole" fW fdW ["_law_thing"] (spWhole K)) : FnOk P w K mg base CX0 3 f fd ["_law_thing", "_law_low", "_law_high"] (spWi K) := by
  refine F.ok scLWi (fun vs H Q E h => ?_) (fun cdv A outer s H vs Q E hr h => ?_)
  · obtain ⟨_, _, _, _, _, rfl, _⟩ := h
    rfl
  · obtain ⟨p, v, d, lo, hi, rfl, hd, q⟩ := h
    refine ⟨_, pss_one (ps_ret (pe_and (pe_call W.G hr (by rfl) W.m W.k W.b .nil pass0 (pa_cons (pv 0) pa_nil)) (pe_one (pe_chain op_le op_le (pv 1) (pv 0) (pv 2))))), ?_⟩
    refine ⟨_, rfl, _, _, _, _, rfl, hd.ty, kit_int d, kit_bool d, _, rfl, ?_⟩
    cases hd with
    | non => exact iteF q
    | bl b => exact iteF q
    | str x => exact iteF q
    | lst _ _ _ _ => exact iteF q
    | tup _ _ => exact iteF q
    | dct _ => exact iteF q
    | int n =>
      refine iteT ⟨_, rfl, _, rfl, _, _, rfl, rfl, _, rfl, ?_⟩
      have q : Q (.bl (decide (lo ≤ n) && decide (n ≤ hi))) H := q
      by_cases h : lo ≤ n
      · rw [decide_eq_true h] at q ⊢
        exact iteT ⟨_, rfl, _, _, rfl, rfl, q⟩
      · rw [decide_eq_false h] at q ⊢
        exact iteF q
end
end K1


set_option Elab.async false
set_option linter.all false
set_option maxRecDepth 100000
set_option maxHeartbeats 800000
namespace K1
open PySem L2 LN
abbrev sOdd : Stmt := top 63
def oddA : List PyData := [.none, .bool true, .bool false, .tuple [], .list [], .dict [], .list [.tuple []], .tuple [.tuple []], .tuple [.int 0], .list [.int 0], .dict [(.int 0, .int 1)], .tuple [.bool true, .bool true]]
def oddD : List PyData := [.none, .bool true, .bool false, .int (-1), .int (10 ^ 30), .str "", .str "a", .str "1", .tuple [], .list [], .dict [], .list [.tuple []], .tuple [.tuple []], .tuple [.int 0], .list [.int 0], .dict [(.int 0, .int 1)], .tuple [.bool true, .bool true]]
def bentS (x : Str) : List Str := [x ++ "a", cutS x none (some (-1)), Txt.upper x, x ++ " ", "self", "joined"]
def s3 : List Str := ["", "a", "1"]
def strK : Nat → List Str
  | 0 => []
  | k + 1 => s3 ++ strK k ++ (strK k).flatMap bentS
inductive Atom (k : Nat) : PyData → Prop
  | int {i : Int} (h : i.natAbs ≤ 10 ^ 30 + 9 * k) : Atom k (.int i)
  | str {x : Str} (h : x ∈ strK k) : Atom k (.str x)
  | odd {d : PyData} (hk : 1 ≤ k) (h : d ∈ oddA) : Atom k d
theorem Atom.up {k : Nat} {d : PyData} (h : Atom k d) : Atom (k + 1) d := by
  cases h with
  | int h => exact .int (by omega)
  | str h => exact .str (by show _ ∈ s3 ++ strK k ++ (strK k).flatMap bentS; simp [h])
  | odd hk h => exact .odd (by omega) h
def spOdd : Sp := fun vs H Q _ => ∃ p : Addr, vs = [.ref p] ∧ PotAt H p ∧ ∀ (v : V) (d : PyData) (H' : Hp), Sam p H H' → PotAt H' p → Dq H' p v d → d ∈ oddD → Q v H'
section
variable {P : Program} {w : World} {K : PySem.W.Frag} {mg : Str → Option Value} {base : Heap} {C : Nat → Addr}
theorem scOd : FnScope ["_law_pot_here", "_law_some"] ["_law_pot_here"] (defScope sOdd) := ⟨rfl, rfl, rfl, by decide +kernel, rfl, by decide +kernel, by decide +kernel⟩
theorem ok_odd {f fT : Addr} {fd fdT : FuncData} (F : Fun K "_law_odd" "_law_odd" sOdd f fd) (B : Blt mg) (T : Known P w K mg base CX0 2 "_law_take" fT fdT ["_law_pot_here", "_law_far"] spTake) : FnOk P w K mg base CX0 3 f fd ["_law_pot_here"] spOdd := by
  refine F.ok scOd (fun vs H Q E h => ?_) (fun cdv A outer s H vs Q E hr h => ?_)
  · obtain ⟨_, rfl, _⟩ := h
    rfl
  · obtain ⟨p, rfl, hp, q⟩ := h
    refine ⟨_, pss_cons (ps_set (i := 1) scOd.nd rfl (Or.inl rfl) (pe_lst (qs_of (p := p) (n := 30) (ds := oddD) (by decide) (by kernel_rfl))))
      (pss_one (ps_ret (pe_ix ix_list (pv 1) (pe_call T.G hr (by rfl) T.m T.k T.b .nil pass0 (pa_cons (pv 0) (pa_cons (pe_callB call_len_seq (by rfl) B.len PySem.boot_len (pa_cons (pv 1) pa_nil)) pa_nil))) (fun _ _ => rfl)))), ?_⟩
    refine ⟨hp, fun vs H1 S1 D1 => ?_⟩
    have D1 : DqAll H1 p vs oddD := D1
    have hl : vs.length = 17 := D1.length
    refine ⟨by rw [hl]; show 17 ≤ sizeLine; decide, fun l hl' => ?_⟩
    obtain ⟨n1, hp1⟩ := hp.same S1
    have hpl : p ≠ l := ne_of_none hp1 hl'
    obtain ⟨j, hj, ej⟩ := mod_nat (n := n1) (m := 17) (by decide)
    have hp2 : (upd H1 l (.lst vs)) p = some (.lst [.int n1]) := by rw [upd_ne hpl]; exact hp1
    refine ⟨_, rfl, _, rfl, _, rfl, l, _, rfl, .inl (SqL.of upd_same), p, n1, _, rfl, hp2, ?_, ?_, ?_⟩
    · rw [hl]; decide
    · rw [hl]; decide
    have hjd : oddD[j]? = some (oddD[j]'hj) := List.getElem?_eq_getElem hj
    obtain ⟨v, hv, hd⟩ := D1.get hjd
    refine ⟨l, vs, _, v, rfl, rfl, SqL.of (by rw [upd_ne (Ne.symm hpl), upd_same]), ?_, ?_⟩
    · rw [hl, show (n1 % ((17 : Nat) : Int) : Int) = (j : Int) from ej]
      exact atI_nat hv
    have Sx : Sam p H1 (upd (upd H1 l (.lst vs)) p (.lst [.int (n1 / (vs.length : Int))])) := (Sam.of (same_new hl')).trans Sam.upd
    exact q v _ _ ((Sam.of S1).trans Sx) ⟨_, upd_same⟩ (Dq.still (still_sam ⟨_, hp1⟩ Sx) _ _ hd) (List.getElem_mem hj)
end
end K1


set_option Elab.async false
set_option linter.all false
set_option maxRecDepth 100000
set_option maxHeartbeats 1600000
namespace K1
open PySem L2 LN
/-! ### the program's looks at names and signs, over things of any kind -/
def smB (c : Nat) : Bool := decide (97 ≤ c) && decide (c ≤ 122)
def isNm : PyData → Bool
  | .str x => decide (1 ≤ x.length) && (decide (x.length ≤ 6) && x.cps.toList.all smB)
  | _ => false
def inW3 : PyData → Bool
  | .int i => decide (0 ≤ i) && decide (i ≤ 3)
  | _ => false
def isSg : PyData → Bool
  | .tuple [a, b] => isNm a && inW3 b
  | _ => false
def spNameQ : Sp := fun vs H Q _ => ∃ (p : Addr) (v : V) (d : PyData), vs = [v] ∧ Dq H p v d ∧ (∀ x, d = .str x → x.length ≤ 1000) ∧ ∀ H', Same H H' → Q (.bl (isNm d)) H'
def spSignQ : Sp := fun vs H Q _ => ∃ (p : Addr) (v : V) (d : PyData), vs = [v] ∧ PotAt H p ∧ Dq H p v d ∧ (∀ ds, d = .tuple ds → ds.length ≤ 1000 ∧ ∀ x, .str x ∈ ds → x.length ≤ 1000) ∧ ∀ H', Same H H' → Q (.bl (isSg d)) H'
theorem le_aB (c : Nat) : (!decide ((⟨#[c]⟩ : Str).cps.toList < ("a" : Str).cps.toList)) = decide (97 ≤ c) := by
  by_cases h : 97 ≤ c
  · rw [le_a h, decide_eq_true h]
  · have : (⟨#[c]⟩ : Str).cps.toList < ("a" : Str).cps.toList := by
      show [c] < [97]
      exact List.Lex.rel (by omega)
    rw [decide_eq_true this, decide_eq_false h]
    rfl
theorem le_zB (c : Nat) : (!decide (("z" : Str).cps.toList < (⟨#[c]⟩ : Str).cps.toList)) = decide (c ≤ 122) := by
  by_cases h : c ≤ 122
  · rw [le_z h, decide_eq_true h]
  · have : ("z" : Str).cps.toList < (⟨#[c]⟩ : Str).cps.toList := by
      show [122] < [c]
      exact List.Lex.rel (by omega)
    rw [decide_eq_true this, decide_eq_false h]
    rfl
section
variable {P : Program} {w : World} {K : PySem.W.Frag} {mg : Str → Option Value} {base : Heap}
theorem ok_nameQ {f : Addr} {fd : FuncData} (F : Fun K "is_name" "is_name" sName f fd) (T : Blt mg) (C : Cst mg) : FnOk P w K mg base CX0 2 f fd ["thing"] spNameQ := by
  refine F.ok scNm (fun vs H Q E h => ?_) (fun cdv A outer s H vs Q E hr h => ?_)
  · obtain ⟨p, v, d, rfl, _⟩ := h
    rfl
  · obtain ⟨p, v, d, rfl, hd, hx, q⟩ := h
    obtain ⟨u6, hm6, r6⟩ := C.le
    refine ⟨_, pss_cons (ps_if (PW.pt (pw_or (pt_not (pt_val (pe_isiT (n := "str") (pv 0) (by rfl) T.isi (by rfl) T.str (by decide +kernel))))
        (pw_or1 (pt_not (pt_chain op_le op_le pe_int (pe_callB call_len_str (by rfl) T.len PySem.boot_len (pa_cons (pv 0) pa_nil)) (pe_glob (v := .int 6) (by rfl) hm6 r6)))))) (pss_one (ps_ret pe_bl)) pss_nil)
      (pss_one (ps_ret (pe_callB (cr_all rfl) (by rfl) T.all (by decide +kernel) (pa_cons (pe_lc (own := [("letter", 1)]) (g := gName 1) (by rfl) scNm.nd (pi_str (pv 0)) (blkOk_by (own := [("letter", 1)]) (N := ["thing", "letter"]) (sc := defScope sName) (by decide +kernel))
        (fun _ _ _ _ _ => pg_name (i := 1) scNm.nd rfl (Or.inl rfl)) (fun _ _ _ _ _ => pts_nil) (fun _ _ _ _ _ => pe_chain op_le_str op_le_str pe_str (pv 1) pe_str)) pa_nil)))), ?_⟩
    refine ⟨_, rfl, _, _, _, _, _, rfl, hd.ty, rfl, kit_str d, _, rfl, ?_⟩
    have no : isNm d = false → Q (.bl false) H := fun e => e ▸ q H (Same.refl H)
    cases d with
    | none => exact iteT (no rfl)
    | bool b => exact iteT (no rfl)
    | int i => exact iteT (no rfl)
    | list ds => exact iteT (no rfl)
    | tuple ds => exact iteT (no rfl)
    | dict ds => exact iteT (no rfl)
    | str x =>
      cases hd
      have hz : x.length ≤ sizeLine := Nat.le_of_lt (small1000 (hx x rfl))
      refine iteF ⟨_, rfl, _, rfl, hz, _, _, rfl, rfl, _, rfl, ?_⟩
      by_cases h1 : 1 ≤ x.length
      · rw [decide_eq_true (show (1 : Int) ≤ (x.length : Int) by omega)]
        refine iteT ⟨_, _, rfl, rfl, _, rfl, ?_⟩
        by_cases h6 : x.length ≤ 6
        · rw [decide_eq_true (show (x.length : Int) ≤ (6 : Int) by omega)]
          refine iteF ?_
          refine ⟨_, rfl, x, rfl, fun D hD => ?_⟩
          refine lc_str (x := x) (fun i H2 => H2 = upd H D (.lst (((x.cps.toList.take i).map smB).map V.bl))) rfl ?_ ?_
          · rintro i c H2 hi rfl
            have hi' : x.cps.toList[i]? = some c := by rw [Array.getElem?_toList]; exact hi
            have hil := (List.getElem?_eq_some_iff.mp hi').1
            have e : x.cps.toList.length = x.length := rfl
            have key : ∀ b, b = smB c → ∃ acc, (upd H D (.lst (((x.cps.toList.take i).map smB).map V.bl))) D = some (.lst acc) ∧ acc.length < sizeLine ∧ upd (upd H D (.lst (((x.cps.toList.take i).map smB).map V.bl))) D (.lst (acc ++ [.bl b])) = upd H D (.lst (((x.cps.toList.take (i + 1)).map smB).map V.bl)) := by
              rintro b rfl
              refine ⟨_, upd_same, ?_, ?_⟩
              · rw [List.length_map, List.length_map, List.length_take]
                exact small1000 (by omega)
              · rw [upd_upd, List.take_add_one, hi', List.map_append, List.map_append]
                rfl
            refine ⟨rfl, ?_⟩
            unfold tYes
            refine iteT ?_
            refine ⟨_, rfl, _, _, rfl, rfl, _, rfl, ?_⟩
            rw [le_aB]
            by_cases ha : 97 ≤ c
            · rw [decide_eq_true ha]
              refine iteT ⟨_, _, rfl, rfl, ?_⟩
              rw [le_zB]
              exact key _ (by unfold smB; rw [decide_eq_true ha]; rfl)
            · rw [decide_eq_false ha]
              refine iteF (key _ (by unfold smB; rw [decide_eq_false ha]; rfl))
          · rintro H2 rfl
            refine ⟨D, (x.cps.toList.take x.cps.size).map smB, rfl, SqL.of upd_same, ?_⟩
            have e : x.cps.toList.take x.cps.size = x.cps.toList := List.take_of_length_le (Nat.le_refl _)
            rw [e]
            have e2 : (x.cps.toList.map smB).all id = isNm (.str x) := by
              show _ = (decide (1 ≤ x.length) && (decide (x.length ≤ 6) && x.cps.toList.all smB))
              rw [decide_eq_true h1, decide_eq_true h6, List.all_map]
              rfl
            rw [e2]
            exact q _ (same_new hD)
        · rw [decide_eq_false (show ¬ (x.length : Int) ≤ (6 : Int) by omega)]
          refine iteT (no ?_)
          show (decide (1 ≤ x.length) && (decide (x.length ≤ 6) && x.cps.toList.all smB)) = false
          rw [decide_eq_false h6, Bool.false_and, Bool.and_false]
      · rw [decide_eq_false (show ¬ (1 : Int) ≤ (x.length : Int) by omega)]
        refine iteF ?_
        refine ⟨_, rfl, iteT (no ?_)⟩
        show (decide (1 ≤ x.length) && (decide (x.length ≤ 6) && x.cps.toList.all smB)) = false
        rw [decide_eq_false h1, Bool.false_and]
end
end K1


set_option Elab.async false
set_option linter.all false
set_option maxRecDepth 100000
set_option maxHeartbeats 1600000
namespace K1
open PySem L2 LN
theorem sg_len : ∀ {ds : List PyData}, ds.length ≠ 2 → isSg (.tuple ds) = false
  | [], _ => rfl
  | [_], _ => rfl
  | [_, _], h => absurd rfl h
  | _ :: _ :: _ :: _, _ => rfl
section
variable {P : Program} {w : World} {K : PySem.W.Frag} {mg : Str → Option Value} {base : Heap}
theorem ok_signQ {f fW fN : Addr} {fd fdW fdN : FuncData} (F : Fun K "is_sign" "is_sign" sSign f fd) (T : Blt mg) (C : Cst mg) (W : Known P w K mg base CX0 2 "is_whole" fW fdW ["thing"] (spWhole K)) (N : Known P w K mg base CX0 2 "is_name" fN fdN ["thing"] spNameQ) : FnOk P w K mg base CX0 3 f fd ["thing"] spSignQ := by
  refine F.ok scSg (fun vs H Q E h => ?_) (fun cdv A outer s H vs Q E hr h => ?_)
  · obtain ⟨p, v, d, rfl, _⟩ := h
    rfl
  · obtain ⟨p, v, d, rfl, hp, hd, hx, q⟩ := h
    obtain ⟨u3, hm3, r3⟩ := C.pa
    refine ⟨_, pss_cons (ps_if (PW.pt (pw_or (pt_not (pt_val (pe_isiT (n := "tuple") (pv 0) (by rfl) T.isi (by rfl) T.tuple (by decide +kernel))))
        (pw_or1 (pt_cmpR op_ne (pe_callB call_len_seq (by rfl) T.len PySem.boot_len (pa_cons (pv 0) pa_nil)) pe_int (nomark _))))) (pss_one (ps_ret pe_bl)) pss_nil)
      (pss_cons (ps_asg (pv 0) (pg_tup (by rfl) (pgs_cons (pg_name (i := 1) scSg.nd rfl (Or.inl rfl)) (pgs_cons (pg_name (i := 2) scSg.nd rfl (Or.inl rfl)) pgs_nil))))
      (pss_one (ps_ret (pe_and (pe_call N.G hr (by rfl) N.m N.k N.b .nil pass0 (pa_cons (pv 1) pa_nil)) (pe_and (pe_call W.G hr (by rfl) W.m W.k W.b .nil pass0 (pa_cons (pv 2) pa_nil)) (pe_one (pe_chain op_le op_le pe_int (pv 2) (pe_glob (v := .int 3) (by rfl) hm3 r3)))))))), ?_⟩
    refine ⟨_, rfl, _, _, _, _, _, rfl, hd.ty, rfl, kit_tuple d, _, rfl, ?_⟩
    have no : isSg d = false → Q (.bl false) H := fun e => e ▸ q H (Same.refl H)
    cases d with
    | none => exact iteT (no rfl)
    | bool b => exact iteT (no rfl)
    | int i => exact iteT (no rfl)
    | list ds => exact iteT (no rfl)
    | str ds => exact iteT (no rfl)
    | dict ds => exact iteT (no rfl)
    | tuple ds =>
      obtain ⟨hz, hs⟩ := hx ds rfl
      cases hd with
      | tup e ha =>
        rename_i t xs
        have hl := ha.length
        refine iteF ⟨_, rfl, _, _, rfl, .inr (SqT.of e), rfl, _, rfl, ?_⟩
        by_cases h2 : ds.length = 2
        · obtain ⟨a, b, rfl⟩ : ∃ a b, ds = [a, b] := match ds, h2 with | [a, b], _ => ⟨a, b, rfl⟩
          cases ha with
          | cons da ha => cases ha with
            | cons db ha => cases ha with
              | nil =>
                rename_i va vb
                refine iteF ?_
                refine ⟨_, rfl, t, _, rfl, SqT.of e, rfl, _, _, rfl, _, _, rfl, rfl, ?_⟩
                refine ⟨_, rfl, p, va, a, rfl, da, fun x hx => hs x (by rw [hx]; exact List.mem_cons_self ..), fun H1 S1 => ⟨_, rfl, ?_⟩⟩
                have hq : ∀ c, c = isSg (.tuple [a, b]) → Q (.bl c) H1 := fun c hc => hc ▸ q H1 S1
                cases hn : isNm a with
                | false => exact iteF (hq _ (by show false = (isNm a && inW3 b); rw [hn]; rfl))
                | true =>
                  refine iteT ?_
                  have db1 := Dq.still (still_same hp S1) b vb db
                  refine ⟨_, rfl, _, _, _, _, rfl, db1.ty, kit_int b, kit_bool b, _, rfl, ?_⟩
                  cases b with
                  | int z =>
                    cases db1
                    refine iteT ⟨_, rfl, _, _, rfl, rfl, _, rfl, ?_⟩
                    by_cases h0 : 0 ≤ z
                    · rw [decide_eq_true h0]
                      refine iteT ⟨_, _, rfl, rfl, hq _ ?_⟩
                      show decide (z ≤ 3) = (isNm a && (decide (0 ≤ z) && decide (z ≤ 3)))
                      rw [hn, decide_eq_true h0]
                      rfl
                    · rw [decide_eq_false h0]
                      refine iteF (hq _ ?_)
                      show false = (isNm a && (decide (0 ≤ z) && decide (z ≤ 3)))
                      rw [hn, decide_eq_false h0]
                      rfl
                  | none => exact iteF (hq _ (by show false = (isNm a && false); rw [hn]; rfl))
                  | bool _ => exact iteF (hq _ (by show false = (isNm a && false); rw [hn]; rfl))
                  | str _ => exact iteF (hq _ (by show false = (isNm a && false); rw [hn]; rfl))
                  | list _ => exact iteF (hq _ (by show false = (isNm a && false); rw [hn]; rfl))
                  | tuple _ => exact iteF (hq _ (by show false = (isNm a && false); rw [hn]; rfl))
                  | dict _ => exact iteF (hq _ (by show false = (isNm a && false); rw [hn]; rfl))
        · rw [decide_eq_false (show ¬ (V.int (xs.length : Int) = V.int 2) by intro z; injection z; omega)]
          exact iteT (no (sg_len h2))
end
end K1


set_option Elab.async false
set_option linter.all false
set_option maxRecDepth 100000
set_option maxHeartbeats 1600000
namespace K1
open PySem L2 LN
abbrev sSigns : Stmt := top 29
def nmOf : PyData → Str
  | .tuple [.str x, _] => x
  | _ => ""
def paOf : PyData → Int
  | .tuple [_, .int n] => n
  | _ => 1
def isSgs : PyData → Bool
  | .tuple ds => decide (1 ≤ ds.length) && (decide (ds.length ≤ 8) && (ds.all isSg && (decide ((uq (ds.map nmOf)).length = ds.length) && (ds.map fun d => decide (V.int (paOf d) = V.int 0)).any id)))
  | _ => false
/-- no row of it is too long -/
def Few (d : PyData) : Prop := ∀ ds, d = .tuple ds → ds.length ≤ 1000 ∧ ∀ x, .str x ∈ ds → x.length ≤ 1000
def spSignsQ : Sp := fun vs H Q _ => ∃ (p : Addr) (v : V) (d : PyData), vs = [v] ∧ PotAt H p ∧ Dq H p v d ∧ (∀ ds, d = .tuple ds → ds.length ≤ 1000 ∧ ∀ e ∈ ds, Few e) ∧ ∀ H', Same H H' → Q (.bl (isSgs d)) H'
theorem sg_shape {d : PyData} (h : isSg d = true) : ∃ (x : Str) (n : Int), d = .tuple [.str x, .int n] := by
  unfold isSg at h
  split at h
  · rename_i a b
    rw [Bool.and_eq_true] at h
    obtain ⟨h1, h2⟩ := h
    unfold isNm at h1
    split at h1
    · rename_i x
      unfold inW3 at h2
      split at h2
      · rename_i n
        exact ⟨x, n, rfl⟩
      · cases h2
    · cases h1
  · cases h
section
variable {P : Program} {w : World} {K : PySem.W.Frag} {mg : Str → Option Value} {base : Heap}
abbrev NS : List Str := ["thing", "sign", "name", "parts"]
theorem scSs : FnScope NS ["thing"] (defScope sSigns) := ⟨rfl, rfl, rfl, by decide +kernel, rfl, by decide +kernel, by decide +kernel⟩
theorem ok_signsQ {f fS : Addr} {fd fdS : FuncData} (F : Fun K "are_signs" "are_signs" sSigns f fd) (T : Blt mg) (C : Cst mg) (S : Known P w K mg base CX0 3 "is_sign" fS fdS ["thing"] spSignQ) : FnOk P w K mg base CX0 4 f fd ["thing"] spSignsQ := by
  refine F.ok scSs (fun vs H Q E h => ?_) (fun cdv A outer s H vs Q E hr h => ?_)
  · obtain ⟨p, v, d, rfl, _⟩ := h
    rfl
  · obtain ⟨p, v, d, rfl, hp, hd, hx, q⟩ := h
    obtain ⟨u8, hm8, r8⟩ := C.si
    refine ⟨_, pss_cons (ps_if (PW.pt (pw_or (pt_not (pt_val (pe_isiT (n := "tuple") (pv 0) (by rfl) T.isi (by rfl) T.tuple (by decide +kernel))))
        (pw_or1 (pt_not (pt_chain op_le op_le pe_int (pe_callB call_len_seq (by rfl) T.len PySem.boot_len (pa_cons (pv 0) pa_nil)) (pe_glob (v := .int 8) (by rfl) hm8 r8)))))) (pss_one (ps_ret pe_bl)) pss_nil)
      (pss_cons (ps_if (pt_not (pt_val (pe_callB (cr_all rfl) (by rfl) T.all (by decide +kernel) (pa_cons
          (pe_lc (own := [("sign", 1)]) (g := gName 1) (by rfl) scSs.nd (pi_tup (pv 0)) (blkOk_by (own := [("sign", 1)]) (N := NS) (sc := defScope sSigns) (by decide +kernel)) (fun _ _ _ _ _ => pg_name (i := 1) scSs.nd rfl (Or.inl rfl)) (fun _ _ _ _ _ => pts_nil)
            (fun _ _ _ _ _ => pe_call S.G hr (by rfl) S.m S.k S.b .nil pass0 (pa_cons (pv 1) pa_nil))) pa_nil)))) (pss_one (ps_ret pe_bl)) pss_nil)
      (pss_cons (ps_if (pt_cmpR op_ne (pe_callB call_lenS (by rfl) T.len PySem.boot_len (pa_cons (pe_callTy (call_setU rfl) (by rfl) T.set (by decide +kernel) (pa_cons
          (pe_lc (own := [("name", 2), ("parts", 3)]) (g := gTup K 2 (gCons (gName 2) (gCons (gName 3) gNil))) (by rfl) scSs.nd (pi_tup (pv 0)) (blkOk_by (own := [("name", 2), ("parts", 3)]) (N := NS) (sc := defScope sSigns) (by decide +kernel))
            (fun _ _ _ _ _ => pg_tup (by rfl) (pgs_cons (pg_name (i := 2) scSs.nd rfl (Or.inl rfl)) (pgs_cons (pg_name (i := 3) scSs.nd rfl (Or.inl rfl)) pgs_nil))) (fun _ _ _ _ _ => pts_nil) (fun _ _ _ _ _ => pv 2)) pa_nil)) pa_nil))
          (pe_callB call_len_seq (by rfl) T.len PySem.boot_len (pa_cons (pv 0) pa_nil)) (nomark _)) (pss_one (ps_ret pe_bl)) pss_nil)
      (pss_one (ps_ret (pe_callB (cr_any rfl) (by rfl) T.any (by decide +kernel) (pa_cons
          (pe_lc (own := [("name", 2), ("parts", 3)]) (g := gTup K 2 (gCons (gName 2) (gCons (gName 3) gNil))) (by rfl) scSs.nd (pi_tup (pv 0)) (blkOk_by (own := [("name", 2), ("parts", 3)]) (N := NS) (sc := defScope sSigns) (by decide +kernel))
            (fun _ _ _ _ _ => pg_tup (by rfl) (pgs_cons (pg_name (i := 2) scSs.nd rfl (Or.inl rfl)) (pgs_cons (pg_name (i := 3) scSs.nd rfl (Or.inl rfl)) pgs_nil))) (fun _ _ _ _ _ => pts_nil) (fun _ _ _ _ _ => pe_cmpR op_eq (pv 3) pe_int (nomark _))) pa_nil)))))), ?_⟩
    refine ⟨_, rfl, _, _, _, _, _, rfl, hd.ty, rfl, kit_tuple d, _, rfl, ?_⟩
    have no : isSgs d = false → Q (.bl false) H := fun e => e ▸ q H (Same.refl H)
    cases d with
    | none => exact iteT (no rfl)
    | bool b => exact iteT (no rfl)
    | int i => exact iteT (no rfl)
    | list ds => exact iteT (no rfl)
    | str ds => exact iteT (no rfl)
    | dict ds => exact iteT (no rfl)
    | tuple ds =>
      obtain ⟨hz, hs⟩ := hx ds rfl
      cases hd with
      | tup ha hds =>
        rename_i a xs
        have hl := hds.length
        have hT : SqT K H a xs := SqT.of ha
        have hdef : isSgs (.tuple ds) = (decide (1 ≤ ds.length) && (decide (ds.length ≤ 8) && (ds.all isSg && (decide ((uq (ds.map nmOf)).length = ds.length) && (ds.map fun d => decide (V.int (paOf d) = V.int 0)).any id)))) := rfl
        refine iteF ⟨_, rfl, _, _, rfl, .inr hT, _, _, rfl, rfl, _, rfl, ?_⟩
        by_cases h1 : 1 ≤ ds.length
        · rw [decide_eq_true (show (1 : Int) ≤ (xs.length : Int) by omega)]
          refine iteT ⟨_, _, rfl, rfl, _, rfl, ?_⟩
          by_cases h8 : ds.length ≤ 8
          · rw [decide_eq_true (show (xs.length : Int) ≤ (8 : Int) by omega)]
            refine iteF ?_
            have hdef2 : isSgs (.tuple ds) = (ds.all isSg && (decide ((uq (ds.map nmOf)).length = ds.length) && (ds.map fun d => decide (V.int (paOf d) = V.int 0)).any id)) := by
              rw [hdef, decide_eq_true h1, decide_eq_true h8]; rfl
            refine ⟨_, rfl, a, rfl, ⟨_, hT⟩, fun D hD => ?_⟩
            refine lc_valsT (xs := xs) (ys := (ds.map isSg).map V.bl) hD (by omega) (by rw [List.length_map, List.length_map, hl]) hT ?_ ?_
            · intro i x y H1 Q' hx' hy S1 k
              obtain ⟨e, he, De⟩ := hds.get' hx'
              rw [List.getElem?_map, List.getElem?_map, he] at hy
              cases hy
              exact ⟨rfl, _, rfl, p, x, e, rfl, hp.same S1, Dq.still (still_same hp S1) e x De, hs e (List.mem_of_getElem? he), k⟩
            intro H1 S1 hD1
            refine ⟨D, ds.map isSg, rfl, SqL.of hD1, _, rfl, ?_⟩
            have ea : (ds.map isSg).all id = ds.all isSg := by rw [List.all_map]; rfl
            rw [ea]
            cases hall : ds.all isSg with
            | false =>
              refine iteT ?_
              have := q H1 S1
              rw [hdef2, hall] at this
              exact this
            | true =>
              refine iteF ?_
              have go : ∀ (H' : Hp), Same H H' → ∀ (i : Nat) (x : V), xs[i]? = some x → ∃ (r : Addr) (nm : Str) (n : Int), x = .ref r ∧ ds[i]? = some (.tuple [.str nm, .int n]) ∧ H' r = some (.tup [.str nm, .int n]) := by
                intro H' S' i x hx'
                obtain ⟨e, he, De⟩ := hds.get' hx'
                obtain ⟨nm, n, rfl⟩ := sg_shape (List.all_eq_true.mp hall e (List.mem_of_getElem? he))
                cases De with
                | tup hr' hA =>
                  rename_i r ys
                  cases hA with
                  | cons d1 hA => cases hA with
                    | cons d2 hA =>
                      cases hA
                      cases d1
                      cases d2
                      exact ⟨r, nm, n, rfl, he, S' _ _ hr'⟩
              refine ⟨_, rfl, a, rfl, ⟨_, S1.seqT hT⟩, fun D2 hD2 => ?_⟩
              refine lc_valsT (xs := xs) (ys := (ds.map nmOf).map V.str) hD2 (by omega) (by rw [List.length_map, List.length_map, hl]) (S1.seqT hT) ?_ ?_
              · intro i x y H2 Q' hx' hy S2 k
                obtain ⟨r, nm, n, rfl, he, hr'⟩ := go H2 (S1.trans S2) i x hx'
                rw [List.getElem?_map, List.getElem?_map, he] at hy
                cases hy
                exact ⟨r, _, rfl, SqT.of hr', rfl, _, _, rfl, _, _, rfl, rfl, rfl, _, rfl, k _ (Same.refl _)⟩
              intro H2 S2 hD2'
              have hu := uq_le (ds.map nmOf)
              rw [List.length_map] at hu
              refine ⟨D2, ds.map nmOf, rfl, SqL.of hD2', by rw [List.length_map]; omega, fun r hr' => ?_⟩
              refine ⟨r, _, rfl, upd_same, by omega, _, rfl, a, _, rfl, .inr (((S1.trans S2).trans (same_new hr')).seqT hT), rfl, _, rfl, ?_⟩
              have S3 : Same H (upd H2 r (SetN r (uq (ds.map nmOf)).length)) := (S1.trans S2).trans (same_new hr')
              by_cases hn : (uq (ds.map nmOf)).length = ds.length
              · rw [decide_eq_true (show V.int ((uq (ds.map nmOf)).length : Int) = V.int (xs.length : Int) by rw [hn, hl])]
                refine iteF ?_
                refine ⟨_, rfl, a, rfl, ⟨_, S3.seqT hT⟩, fun D3 hD3 => ?_⟩
                refine lc_valsT (xs := xs) (ys := (ds.map fun d => decide (V.int (paOf d) = V.int 0)).map V.bl) hD3 (by omega) (by rw [List.length_map, List.length_map, hl]) (S3.seqT hT) ?_ ?_
                · intro i x y H3 Q' hx' hy S4 k
                  obtain ⟨r', nm, n, rfl, he, hr''⟩ := go H3 (S3.trans S4) i x hx'
                  rw [List.getElem?_map, List.getElem?_map, he] at hy
                  cases hy
                  exact ⟨r', _, rfl, SqT.of hr'', rfl, _, _, rfl, _, _, rfl, rfl, rfl, _, rfl, rfl, k _ (Same.refl _)⟩
                intro H3 S4 hD3'
                refine ⟨D3, ds.map fun d => decide (V.int (paOf d) = V.int 0), rfl, SqL.of hD3', ?_⟩
                have := q H3 (S3.trans S4)
                rw [hdef2, hall, decide_eq_true hn] at this
                exact this
              · rw [decide_eq_false (show ¬ V.int ((uq (ds.map nmOf)).length : Int) = V.int (xs.length : Int) by intro z; injection z; omega)]
                refine iteT ?_
                have := q _ S3
                rw [hdef2, hall, decide_eq_false hn] at this
                exact this
          · rw [decide_eq_false (show ¬ (xs.length : Int) ≤ (8 : Int) by omega)]
            refine iteT (no ?_)
            rw [hdef, decide_eq_false h8, Bool.false_and, Bool.and_false]
        · rw [decide_eq_false (show ¬ (1 : Int) ≤ (xs.length : Int) by omega)]
          refine iteF ?_
          refine ⟨_, rfl, iteT (no ?_)⟩
          rw [hdef, decide_eq_false h1, Bool.false_and]
end
end K1


set_option Elab.async false
set_option linter.all false
set_option maxRecDepth 100000
set_option maxHeartbeats 1600000
namespace K1
open PySem L2 LN
abbrev sCkS : Stmt := top 30
def RSigns (C : Nat → Addr) (H : Hp) (E : XK) : Prop := ∀ (x : Addr) (H' : Hp), Same H H' → H' x = some (XR x (C 0) none) → E (.ref x) none H'
theorem RSigns.same {C : Nat → Addr} {H H1 : Hp} {E : XK} (h : RSigns C H E) (S : Same H H1) : RSigns C H1 E := fun x H' S' h1 => h x H' (S.trans S') h1
structure Known0 (K : PySem.W.Frag) (mg : Str → Option Value) (x : Str) (C : Addr) : Prop where
  xm : XMk K C none "ValueError" "ValueError.__new__" "ValueError.__init__" [.type "ValueError", .type "Exception", .type "BaseException", .type "object"]
  m : mg x = some (.ref C)
  ty : PySem.W.typeIn K (.ref C) = some (.type "type")
def Row (d : PyData) : Prop := ∀ ds, d = .tuple ds → ds.length ≤ 1000 ∧ ∀ e ∈ ds, Few e
/-- the first argument makes no signs, and m others stand behind it -/
def spNo (C : Nat → Addr) (m : Nat) : Sp := fun vs H _ E => ∃ (p : Addr) (v : V) (us : List V) (d : PyData), vs = v :: us ∧ us.length = m ∧ PotAt H p ∧ Dq H p v d ∧ Row d ∧ isSgs d = false ∧ RSigns C H E
section
variable {P : Program} {w : World} {K : PySem.W.Frag} {mg : Str → Option Value} {base : Heap} {C : Nat → Addr}
theorem scCS : FnScope ["signs"] ["signs"] (defScope sCkS) := ⟨rfl, rfl, rfl, by decide +kernel, rfl, by decide +kernel, by decide +kernel⟩
theorem ok_cksN {f fS : Addr} {fd fdS : FuncData} (F : Fun K "check_signs" "check_signs" sCkS f fd) (S : Known P w K mg base CX0 4 "are_signs" fS fdS ["thing"] spSignsQ) (X0 : Known0 K mg "NoSigns" (C 0)) : FnOk P w K mg base (CX1 P w) 5 f fd ["signs"] (spNo C 0) := by
  obtain ⟨oc, od, kV, doc, pm, an, cdv, ct, osl, rfl, lk, hcd⟩ := F.ex
  refine fn_of (k := 3) lk hcd scCS (fun vs H Q E h => ?_) fun A outer s H vs Q E hr h => ?_
  · obtain ⟨_, _, us, _, rfl, hl, _⟩ := h
    rw [List.length_cons, hl]
    rfl
  · obtain ⟨p, v, us, d, rfl, hl, hp, hd, hf, hb, q⟩ := h
    obtain rfl : us = [] := List.length_eq_zero_iff.mp hl
    refine ⟨_, pss_one (ps_if (pt_not (pt_val (pe_call S.G hr (by rfl) S.m S.k S.b .nil pass0 (pa_cons (pv 0) pa_nil)))) (pss_one (ps_raise rfl raises_cx (pe_makeX0 X0.xm (by rfl) X0.m))) pss_nil), ?_⟩
    refine ⟨_, rfl, p, v, d, rfl, hp, hd, hf, fun H1 S1 => ⟨_, rfl, ?_⟩⟩
    rw [hb]
    refine iteT fun x hx => ?_
    refine ⟨x, C 0, none, rfl, upd_same, X0.xm.cl, X0.ty, q x _ ?_ upd_same⟩
    rw [upd_upd]
    exact S1.trans (same_new hx)
/-- a def that looks at the signs first -/
theorem no_ok {x qual : Str} {st : Stmt} {f : Addr} {fd : FuncData} {N : List Str} {m : Nat} {ps : List Str} {b0 : Stmt} {rest : List Stmt} (F : Fun K x qual st f fd) (sc : FnScope N ps (defScope st)) (hps : ps.length = m + 1) (hbody : defBody st = b0 :: rest)
    (h0 : ∀ (cdv : Value) (A : Around) (outer : List Env) (s : Shared) (H : Hp) (E : XK), Room 5 (A.deeper (PyProof.Rows.envOfC qual (defScope st) s.heap.objs.size f cdv)) → PS (cxOf (CX1 P w) P w K mg base N qual (defScope st) f cdv A outer s H E) b0 (tDrop (tCall (spNo C 0) [] E (tCons (tVar 0) tNil)))) :
    FnOk P w K mg base (CX1 P w) 6 f fd ps (spNo C m) := by
  obtain ⟨oc, od, kV, doc, pm, an, cdv, ct, osl, rfl, lk, hcd⟩ := F.ex
  refine fn_of (k := 4) lk hcd sc (fun vs H Q E h => ?_) fun A outer s H vs Q E hr h => ?_
  · obtain ⟨_, _, us, _, rfl, hl, _⟩ := h
    rw [List.length_cons, hl, hps]
  · obtain ⟨p, v, us, d, rfl, hl, hp, hd, hf, hb, q⟩ := h
    refine ⟨_, pss_of hbody.symm (pss_cons (h0 cdv A outer s H E hr) pss_never), ?_⟩
    exact ⟨v, rfl, p, v, [], d, rfl, rfl, hp, hd, hf, hb, q⟩
end
end K1


set_option Elab.async false
set_option linter.all false
set_option maxRecDepth 100000
set_option maxHeartbeats 1600000
namespace K1
open PySem L2 LN
section
variable {P : Program} {w : World} {K : PySem.W.Frag} {mg : Str → Option Value} {base : Heap} {C : Nat → Addr} {f fS : Addr} {fd fdS : FuncData}
theorem sc_is_term : FnScope ["signs", "thing"] ["signs", "thing"] (defScope (top 35)) := ⟨rfl, rfl, rfl, by decide +kernel, rfl, by decide +kernel, by decide +kernel⟩
theorem no_is_term (F : Fun K "is_term" "is_term" (top 35) f fd) (S : Known P w K mg base (CX1 P w) 5 "check_signs" fS fdS ["signs"] (spNo C 0)) : FnOk P w K mg base (CX1 P w) 6 f fd ["signs", "thing"] (spNo C 1) :=
  no_ok F sc_is_term rfl rfl fun cdv A outer s H E hr => ps_expr (pe_call S.G hr (by rfl) S.m S.k S.b .nil passes_cx (pa_cons (pv 0) pa_nil))
theorem sc_parts_of : FnScope ["signs", "term"] ["signs", "term"] (defScope (top 39)) := ⟨rfl, rfl, rfl, by decide +kernel, rfl, by decide +kernel, by decide +kernel⟩
theorem no_parts_of (F : Fun K "parts_of" "parts_of" (top 39) f fd) (S : Known P w K mg base (CX1 P w) 5 "check_signs" fS fdS ["signs"] (spNo C 0)) : FnOk P w K mg base (CX1 P w) 6 f fd ["signs", "term"] (spNo C 1) :=
  no_ok F sc_parts_of rfl rfl fun cdv A outer s H E hr => ps_expr (pe_call S.G hr (by rfl) S.m S.k S.b .nil passes_cx (pa_cons (pv 0) pa_nil))
theorem sc_inner : FnScope ["signs", "term"] ["signs", "term"] (defScope (top 42)) := ⟨rfl, rfl, rfl, by decide +kernel, rfl, by decide +kernel, by decide +kernel⟩
theorem no_inner (F : Fun K "inner" "inner" (top 42) f fd) (S : Known P w K mg base (CX1 P w) 5 "check_signs" fS fdS ["signs"] (spNo C 0)) : FnOk P w K mg base (CX1 P w) 6 f fd ["signs", "term"] (spNo C 1) :=
  no_ok F sc_inner rfl rfl fun cdv A outer s H E hr => ps_expr (pe_call S.G hr (by rfl) S.m S.k S.b .nil passes_cx (pa_cons (pv 0) pa_nil))
theorem sc_depth : FnScope ["signs", "term", "ends", "depths", "place", "begin"] ["signs", "term"] (defScope (top 43)) := ⟨rfl, rfl, rfl, by decide +kernel, rfl, by decide +kernel, by decide +kernel⟩
theorem no_depth (F : Fun K "depth" "depth" (top 43) f fd) (S : Known P w K mg base (CX1 P w) 5 "check_signs" fS fdS ["signs"] (spNo C 0)) : FnOk P w K mg base (CX1 P w) 6 f fd ["signs", "term"] (spNo C 1) :=
  no_ok F sc_depth rfl rfl fun cdv A outer s H E hr => ps_expr (pe_call S.G hr (by rfl) S.m S.k S.b .nil passes_cx (pa_cons (pv 0) pa_nil))
theorem sc_inner_at : FnScope ["signs", "term", "place"] ["signs", "term", "place"] (defScope (top 44)) := ⟨rfl, rfl, rfl, by decide +kernel, rfl, by decide +kernel, by decide +kernel⟩
theorem no_inner_at (F : Fun K "inner_at" "inner_at" (top 44) f fd) (S : Known P w K mg base (CX1 P w) 5 "check_signs" fS fdS ["signs"] (spNo C 0)) : FnOk P w K mg base (CX1 P w) 6 f fd ["signs", "term", "place"] (spNo C 2) :=
  no_ok F sc_inner_at rfl rfl fun cdv A outer s H E hr => ps_expr (pe_call S.G hr (by rfl) S.m S.k S.b .nil passes_cx (pa_cons (pv 0) pa_nil))
theorem sc_put : FnScope ["signs", "term", "place", "other", "made"] ["signs", "term", "place", "other"] (defScope (top 45)) := ⟨rfl, rfl, rfl, by decide +kernel, rfl, by decide +kernel, by decide +kernel⟩
theorem no_put (F : Fun K "put" "put" (top 45) f fd) (S : Known P w K mg base (CX1 P w) 5 "check_signs" fS fdS ["signs"] (spNo C 0)) : FnOk P w K mg base (CX1 P w) 6 f fd ["signs", "term", "place", "other"] (spNo C 3) :=
  no_ok F sc_put rfl rfl fun cdv A outer s H E hr => ps_expr (pe_call S.G hr (by rfl) S.m S.k S.b .nil passes_cx (pa_cons (pv 0) pa_nil))
theorem sc_in_order : FnScope ["signs", "terms", "at", "term"] ["signs", "terms"] (defScope (top 46)) := ⟨rfl, rfl, rfl, by decide +kernel, rfl, by decide +kernel, by decide +kernel⟩
theorem no_in_order (F : Fun K "in_order" "in_order" (top 46) f fd) (S : Known P w K mg base (CX1 P w) 5 "check_signs" fS fdS ["signs"] (spNo C 0)) : FnOk P w K mg base (CX1 P w) 6 f fd ["signs", "terms"] (spNo C 1) :=
  no_ok F sc_in_order rfl rfl fun cdv A outer s H E hr => ps_expr (pe_call S.G hr (by rfl) S.m S.k S.b .nil passes_cx (pa_cons (pv 0) pa_nil))
end
end K1


set_option Elab.async false
set_option linter.all false
set_option maxRecDepth 100000
set_option maxHeartbeats 1600000
namespace K1
open PySem L2 LN
abbrev sAre : Stmt := top 68
def azS : Str := "abcdefghijklmnopqrstuvwxyz"
theorem az_mem (c : Nat) : decide (c ∈ azS.cps.toList) = smB c := by
  have e : azS.cps.toList = List.range' 97 26 := by kernel_rfl
  rw [e]
  unfold smB
  by_cases h : 97 ≤ c ∧ c ≤ 122
  · rw [decide_eq_true h.1, decide_eq_true h.2, decide_eq_true (by rw [List.mem_range'_1]; omega)]
    rfl
  · rw [decide_eq_false (by rw [List.mem_range'_1]; omega)]
    by_cases h1 : 97 ≤ c
    · rw [decide_eq_true h1, decide_eq_false (by omega)]; rfl
    · rw [decide_eq_false h1]; rfl
theorem inW_3 (d : PyData) : inW 0 3 d = inW3 d := by cases d <;> rfl
def badC (x : Str) (i : Nat) : List Nat := (x.cps.toList.take i).filter fun c => !smB c
def chD (c : Nat) : PyData := .str ⟨#[c]⟩
theorem badC_nil {x : Str} : badC x x.cps.size = [] ↔ x.cps.toList.all smB = true := by
  show List.filter _ (List.take x.cps.toList.length x.cps.toList) = [] ↔ _
  rw [List.take_of_length_le (Nat.le_refl _), List.filter_eq_nil_iff, List.all_eq_true]
  simp
theorem eqv_nil : PyData.eqv (.list []) (.list []) = true := by kernel_rfl
theorem eqv_cons {a : PyData} {as : List PyData} : PyData.eqv (.list (a :: as)) (.list []) = false := by
  simp [PyData.eqv, PyData.eqvAll]
theorem can_chars : ∀ cs : List Nat, (∀ c ∈ cs, c < 128) → PyData.canLayAll0 (cs.map chD) = true ∧ PyData.depthAll (cs.map chD) ≤ 1
  | [], _ => ⟨by simp [PyData.canLayAll0], by simp [PyData.depthAll]⟩
  | c :: cs, h => by
    obtain ⟨h1, h2⟩ := can_chars cs fun e he => h e (List.mem_cons_of_mem _ he)
    have hc := h c (List.mem_cons_self ..)
    have h3 : ∀ c, c < 128 → PyData.strOk ⟨#[c]⟩ = true := by decide +kernel
    rw [List.map_cons]
    refine ⟨?_, ?_⟩
    · simp only [PyData.canLayAll0, h1, chD, PyData.canLay0, h3 c hc, Bool.and_self]
    · simp only [PyData.depthAll, chD, PyData.depth]
      omega
theorem shp_chars (cs : List Nat) (h : ∀ c ∈ cs, c < 128) : SeqAt.shaped (.list (cs.map chD)) = true := by
  obtain ⟨h1, h2⟩ := can_chars cs h
  have h3 : PyData.depth (.list (cs.map chD)) ≤ 64 := by
    simp only [PyData.depth]
    omega
  simp only [SeqAt.shaped, PyData.canLay0, h1, decide_eq_true h3, Bool.and_self]
abbrev NA : List Str := ["_law_thing", "_law_one", "_law_sign"]
theorem scA : FnScope NA ["_law_thing"] (defScope sAre) := ⟨rfl, rfl, rfl, by decide +kernel, rfl, by decide +kernel, by decide +kernel⟩
def ist (i : Nat) : Stmt := (defBody sAre).getD i (.Pass ⟨0, 0, 0, 0⟩)
theorem iB_eq : [ist 0, ist 1, ist 2] = defBody sAre := by kernel_rfl
def forB : Stmt → List Stmt
  | .For _ _ b _ _ => b
  | _ => []
def ifB : List Stmt := forB (ist 1)
def fst1 (i : Nat) : Stmt := ifB.getD i (.Pass ⟨0, 0, 0, 0⟩)
theorem ifB_eq : [fst1 0, fst1 1, fst1 2] = ifB := by kernel_rfl
abbrev XA (P : Program) (w : World) (K : PySem.W.Frag) (mg : Str → Option Value) (base : Heap) (f : Addr) (cdv : Value) (A : Around) (outer : List Env) (s : Shared) (H0 : Hp) (E0' : XK) : Cx := (cxOf CX0 P w K mg base NA "_law_are_kinds" (defScope sAre) f cdv A outer s H0 E0').nox
section
variable {P : Program} {w : World} {K : PySem.W.Frag} {mg : Str → Option Value} {base : Heap}
variable {f : Addr} {cdv : Value} {A : Around} {outer : List Env} {s : Shared} {H0 : Hp} {E0' : XK} {fW : Addr} {fdW : FuncData}
theorem fa0 (T : Blt mg) : ∃ t, PS (XA P w K mg base f cdv A outer s H0 E0') (fst1 0) t ∧ ∀ (D : Ends) (H : Hp) (p : Addr) (v : V) (d : PyData) (v0 v2 : Option V), Dq H p v d → Few d →
    (isSg d = false → D.rt (.bl false) H) → (∀ (r : Addr) (x : Str) (b : PyData) (vb : V), v = .ref r → d = .tuple [.str x, b] → H r = some (.tup [.str x, vb]) → Dq H p vb b → 1 ≤ x.length → x.length ≤ 6 → D.nx [v0, some v, v2] H) → t D [v0, some v, v2] H := by
  refine ⟨_, ps_if (PW.pt (pw_or (pt_not (pt_val (pe_isiT (n := "tuple") (pv 1) (by rfl) T.isi (by rfl) T.tuple (by decide +kernel))))
    (pw_or (pt_cmpR op_ne (pe_callB call_len_seq (by rfl) T.len PySem.boot_len (pa_cons (pv 1) pa_nil)) pe_int (nomark _))
    (pw_or (pt_not (pt_val (pe_isiT (n := "str") (pe_ix ix_tup (pv 1) pe_int (fun _ _ => rfl)) (by rfl) T.isi (by rfl) T.str (by decide +kernel))))
    (pw_or1 (pt_not (pt_chain op_le op_le pe_int (pe_callB call_len_str (by rfl) T.len PySem.boot_len (pa_cons (pe_ix ix_tup (pv 1) pe_int (fun _ _ => rfl)) pa_nil)) pe_int))))))) (pss_one (ps_ret pe_bl)) pss_nil, ?_⟩
  intro D H p v d v0 v2 hd hf no hN
  refine ⟨_, rfl, _, _, _, _, _, rfl, hd.ty, rfl, kit_tuple d, _, rfl, ?_⟩
  cases d with
  | none => exact iteT (iteT (no rfl))
  | bool b => exact iteT (iteT (no rfl))
  | int i => exact iteT (iteT (no rfl))
  | list ds => exact iteT (iteT (no rfl))
  | str ds => exact iteT (iteT (no rfl))
  | dict ds => exact iteT (iteT (no rfl))
  | tuple ds =>
    obtain ⟨hz, hs⟩ := hf ds rfl
    cases hd with
    | tup e ha =>
      rename_i t xs
      have hl := ha.length
      refine iteF ⟨_, rfl, _, _, rfl, .inr (SqT.of e), rfl, _, rfl, ?_⟩
      by_cases h2 : ds.length = 2
      · obtain ⟨a, b, rfl⟩ : ∃ a b, ds = [a, b] := match ds, h2 with | [a, b], _ => ⟨a, b, rfl⟩
        cases ha with
        | cons da ha => cases ha with
          | cons db ha => cases ha with
            | nil =>
              rename_i va vb
              refine iteF ?_
              refine ⟨_, rfl, t, _, _, _, rfl, rfl, SqT.of e, rfl, _, _, _, _, _, rfl, da.ty, rfl, kit_str a, _, rfl, ?_⟩
              cases a with
              | none => exact iteT (iteT (no rfl))
              | bool b => exact iteT (iteT (no rfl))
              | int i => exact iteT (iteT (no rfl))
              | list ds => exact iteT (iteT (no rfl))
              | tuple ds => exact iteT (iteT (no rfl))
              | dict ds => exact iteT (iteT (no rfl))
              | str x =>
                cases da
                have hz : x.length ≤ sizeLine := Nat.le_of_lt (small1000 (hs x (List.mem_cons_self ..)))
                refine iteF ⟨_, rfl, t, _, _, _, rfl, rfl, SqT.of e, rfl, _, rfl, hz, _, _, rfl, rfl, _, rfl, ?_⟩
                have no' : ∀ c, isNm (.str x) = c → c = false → D.rt (.bl false) H := fun c h1 h2 => no (by show (isNm (.str x) && inW3 b) = false; rw [h1, h2]; rfl)
                by_cases h1 : 1 ≤ x.length
                · rw [decide_eq_true (show (1 : Int) ≤ (x.length : Int) by omega)]
                  refine iteT ⟨_, _, rfl, rfl, _, rfl, ?_⟩
                  by_cases h6 : x.length ≤ 6
                  · rw [decide_eq_true (show (x.length : Int) ≤ (6 : Int) by omega)]
                    exact iteF (hN t x b vb rfl rfl e db h1 h6)
                  · rw [decide_eq_false (show ¬ (x.length : Int) ≤ (6 : Int) by omega)]
                    refine iteT (no' _ rfl ?_)
                    show (decide (1 ≤ x.length) && (decide (x.length ≤ 6) && x.cps.toList.all smB)) = false
                    rw [decide_eq_false h6, Bool.false_and, Bool.and_false]
                · rw [decide_eq_false (show ¬ (1 : Int) ≤ (x.length : Int) by omega)]
                  refine iteF ⟨_, rfl, iteT (no' _ rfl ?_)⟩
                  show (decide (1 ≤ x.length) && (decide (x.length ≤ 6) && x.cps.toList.all smB)) = false
                  rw [decide_eq_false h1, Bool.false_and]
      · rw [decide_eq_false (show ¬ (V.int (xs.length : Int) = V.int 2) by intro z; injection z; omega)]
        exact iteT (iteT (no (sg_len h2)))
theorem fa1 (hr : Room 3 (XA P w K mg base f cdv A outer s H0 E0').A) : ∃ t, PS (XA P w K mg base f cdv A outer s H0 E0') (fst1 1) t ∧ ∀ (D : Ends) (H : Hp) (r : Addr) (x : Str) (vb : V) (v0 v2 : Option V), H r = some (.tup [.str x, vb]) → x.length ≤ 6 → (∀ c ∈ x.cps.toList, c < 128) →
    (∀ H', Same H H' → x.cps.toList.all smB = false → D.rt (.bl false) H') → (∀ H', Same H H' → x.cps.toList.all smB = true → D.nx [v0, some (.ref r), v2] H') → t D [v0, some (.ref r), v2] H := by
  refine ⟨_, ps_if (pt_cmpR (op_neD hr.units) (pe_lc (own := [("_law_sign", 2)]) (g := gName 2) (by rfl) scA.nd (pi_str (pe_ix ix_tup (pv 1) pe_int (fun _ _ => rfl))) (blkOk_by (own := [("_law_sign", 2)]) (N := NA) (sc := defScope sAre) (by decide +kernel))
    (fun _ _ _ _ _ => pg_name (i := 2) scA.nd rfl (Or.inl rfl)) (fun _ _ _ _ _ => pts_one (pt_cmpR op_notIn_sign (pv 2) pe_str (by with_unfolding_all rfl))) (fun _ _ _ _ _ => pv 2)) (pe_lst pa_nil) (nomark _)) (pss_one (ps_ret pe_bl)) pss_nil, ?_⟩
  intro D H r x vb v0 v2 hr' h6 hpl no hN
  have hsz : x.cps.toList.length = x.length := rfl
  refine ⟨_, rfl, r, _, _, _, rfl, rfl, SqT.of hr', rfl, x, rfl, fun L hL => ?_⟩
  refine lc_str (x := x) (fun i H2 => H2 = upd H L (.lst ((badC x i).map fun c => V.str ⟨#[c]⟩))) rfl ?_ ?_
  · rintro i c H2 hi rfl
    have hi' : x.cps.toList[i]? = some c := by rw [Array.getElem?_toList]; exact hi
    have hil := (List.getElem?_eq_some_iff.mp hi').1
    refine ⟨rfl, ?_⟩
    refine ⟨_, rfl, c, azS, rfl, rfl, _, rfl, ?_⟩
    rw [az_mem]
    have e1 : badC x (i + 1) = badC x i ++ if smB c then [] else [c] := by
      unfold badC
      rw [List.take_add_one, hi', List.filter_append]
      cases hc : smB c <;> simp [hc]
    cases hc : smB c with
    | true =>
      refine iteF ?_
      rw [e1, hc]
      simp
    | false =>
      refine iteT ⟨_, rfl, _, upd_same, ?_, ?_⟩
      · rw [List.length_map]
        have : (badC x i).length ≤ (x.cps.toList.take i).length := List.length_filter_le ..
        rw [List.length_take] at this
        exact small1000 (by omega)
      · rw [upd_upd, e1, hc, List.map_append]
        rfl
  · rintro H2 rfl
    refine ⟨Nat.zero_le _, fun L2 hL2 => ?_⟩
    have hLL : L ≠ L2 := ne_of_none (o := .lst ((badC x x.cps.size).map fun c => V.str ⟨#[c]⟩)) upd_same hL2
    have S2 : Same H (upd (upd H L (.lst ((badC x x.cps.size).map fun c => V.str ⟨#[c]⟩))) L2 (.lst [])) := (same_new hL).trans (same_new hL2)
    have dall : ∀ cs : List Nat, DpAll K (upd (upd H L (.lst ((badC x x.cps.size).map fun c => V.str ⟨#[c]⟩))) L2 (.lst [])) (cs.map fun c => V.str ⟨#[c]⟩) (cs.map chD) := by
      intro cs
      induction cs with
      | nil => exact .nil
      | cons c cs ih => exact .cons (.str _) ih
    have sh := shp_chars (badC x x.cps.size) fun c hc => hpl c (List.mem_of_mem_take (List.mem_filter.mp hc).1)
    refine ⟨.list ((badC x x.cps.size).map chD), .list [], .lst (SqL.of (by rw [upd_ne hLL, upd_same])) (dall _), .lst (SqL.of upd_same) .nil, sh, by kernel_rfl, _, rfl, ?_⟩
    cases hb : badC x x.cps.size with
    | nil =>
      rw [List.map_nil, eqv_nil]
      rw [hb] at S2
      exact iteF (hN _ S2 (badC_nil.mp hb))
    | cons c cs =>
      rw [List.map_cons, eqv_cons]
      rw [hb] at S2
      refine iteT (no _ S2 ?_)
      cases ha : x.cps.toList.all smB with
      | false => rfl
      | true => rw [badC_nil.mpr ha] at hb; cases hb
theorem fa2 (W : Known P w K mg base CX0 3 "_law_within" fW fdW ["_law_thing", "_law_low", "_law_high"] (spWi K)) (hr : Room 3 (XA P w K mg base f cdv A outer s H0 E0').A) : ∃ t, PS (XA P w K mg base f cdv A outer s H0 E0') (fst1 2) t ∧ ∀ (D : Ends) (H : Hp) (p r : Addr) (x : Str) (b : PyData) (vb : V) (v0 v2 : Option V), H r = some (.tup [.str x, vb]) → Dq H p vb b →
    (inW3 b = false → D.rt (.bl false) H) → (inW3 b = true → D.nx [v0, some (.ref r), v2] H) → t D [v0, some (.ref r), v2] H := by
  refine ⟨_, ps_if (pt_not (pt_val (pe_call W.G hr (by rfl) W.m W.k W.b .nil pass0 (pa_cons (pe_ix ix_tup (pv 1) pe_int (fun _ _ => rfl)) (pa_cons pe_int (pa_cons pe_int pa_nil)))))) (pss_one (ps_ret pe_bl)) pss_nil, ?_⟩
  intro D H p r x b vb v0 v2 hr' db no hN
  refine ⟨_, rfl, r, _, _, _, rfl, rfl, SqT.of hr', rfl, p, vb, b, 0, 3, rfl, db, _, rfl, ?_⟩
  rw [inW_3]
  cases h : inW3 b with
  | true => exact iteF (hN h)
  | false => exact iteT (no h)
end
end K1


set_option Elab.async false
set_option linter.all false
set_option maxRecDepth 100000
set_option maxHeartbeats 1600000
namespace K1
open PySem L2 LN
/-- its texts are of plain signs -/
def Plain (d : PyData) : Prop := ∀ ds, d = .tuple ds → ∀ es, .tuple es ∈ ds → ∀ x, .str x ∈ es → ∀ c ∈ x.cps.toList, c < 128
def spAre : Sp := fun vs H Q _ => ∃ (p : Addr) (v : V) (d : PyData), vs = [v] ∧ PotAt H p ∧ Dq H p v d ∧ Row d ∧ Plain d ∧ ∀ H', Same H H' → Q (.bl (isSgs d)) H'
theorem any_0 : ∀ ds : List PyData, inV (.int 0) ((ds.map paOf).map V.int) = (ds.map fun d => decide (V.int (paOf d) = V.int 0)).any id
  | [] => rfl
  | d :: ds => by
    have h := any_0 ds
    unfold inV at h ⊢
    rw [List.map_cons, List.map_cons, List.map_cons, List.any_cons, List.any_cons, h]
    congr 1
    show (paOf d == 0) = decide (V.int (paOf d) = V.int 0)
    by_cases e : paOf d = 0
    · rw [e]; rfl
    · rw [decide_eq_false (fun z => e (by injection z))]
      exact beq_eq_false_iff_ne.mpr e
theorem flat_ints : ∀ ns : List Int, (ns.map V.int).all flatV = true
  | [] => rfl
  | n :: ns => by rw [List.map_cons, List.all_cons, flat_ints ns]; rfl
section
variable {P : Program} {w : World} {K : PySem.W.Frag} {mg : Str → Option Value} {base : Heap}
variable {f : Addr} {cdv : Value} {A : Around} {outer : List Env} {s : Shared} {H0 : Hp} {E0' : XK} {fW : Addr} {fdW : FuncData}
theorem ia0 (T : Blt mg) : ∃ t, PS (XA P w K mg base f cdv A outer s H0 E0') (ist 0) t ∧ ∀ (D : Ends) (H : Hp) (p : Addr) (v : V) (d : PyData) (v1 v2 : Option V), Dq H p v d →
    (isSgs d = false → D.rt (.bl false) H) → (∀ (a : Addr) (xs : List V) (ds : List PyData), v = .ref a → d = .tuple ds → H a = some (.tup xs) → DqAll H p xs ds → 1 ≤ ds.length → ds.length ≤ 8 → D.nx [some v, v1, v2] H) → t D [some v, v1, v2] H := by
  refine ⟨_, ps_if (PW.pt (pw_or (pt_not (pt_val (pe_isiT (n := "tuple") (pv 0) (by rfl) T.isi (by rfl) T.tuple (by decide +kernel))))
        (pw_or1 (pt_not (pt_chain op_le op_le pe_int (pe_callB call_len_seq (by rfl) T.len PySem.boot_len (pa_cons (pv 0) pa_nil)) pe_int))))) (pss_one (ps_ret pe_bl)) pss_nil, ?_⟩
  intro D H p v d v1 v2 hd no hN
  refine ⟨_, rfl, _, _, _, _, _, rfl, hd.ty, rfl, kit_tuple d, _, rfl, ?_⟩
  cases d with
  | none => exact iteT (iteT (no rfl))
  | bool b => exact iteT (iteT (no rfl))
  | int i => exact iteT (iteT (no rfl))
  | list ds => exact iteT (iteT (no rfl))
  | str ds => exact iteT (iteT (no rfl))
  | dict ds => exact iteT (iteT (no rfl))
  | tuple ds =>
    cases hd with
    | tup ha hds =>
      rename_i a xs
      have hl := hds.length
      have hT : SqT K H a xs := SqT.of ha
      have hdef : isSgs (.tuple ds) = (decide (1 ≤ ds.length) && (decide (ds.length ≤ 8) && (ds.all isSg && (decide ((uq (ds.map nmOf)).length = ds.length) && (ds.map fun d => decide (V.int (paOf d) = V.int 0)).any id)))) := rfl
      refine iteF ⟨_, rfl, _, _, rfl, .inr hT, _, _, rfl, rfl, _, rfl, ?_⟩
      by_cases h1 : 1 ≤ ds.length
      · rw [decide_eq_true (show (1 : Int) ≤ (xs.length : Int) by omega)]
        refine iteT ⟨_, _, rfl, rfl, _, rfl, ?_⟩
        by_cases h8 : ds.length ≤ 8
        · rw [decide_eq_true (show (xs.length : Int) ≤ (8 : Int) by omega)]
          exact iteF (hN a xs ds rfl rfl ha hds h1 h8)
        · rw [decide_eq_false (show ¬ (xs.length : Int) ≤ (8 : Int) by omega)]
          refine iteT (no ?_)
          rw [hdef, decide_eq_false h8, Bool.false_and, Bool.and_false]
      · rw [decide_eq_false (show ¬ (1 : Int) ≤ (xs.length : Int) by omega)]
        refine iteF ⟨_, rfl, iteT (no ?_)⟩
        rw [hdef, decide_eq_false h1, Bool.false_and]
theorem ia2 (T : Blt mg) : ∃ t, PS (XA P w K mg base f cdv A outer s H0 E0') (ist 2) t ∧ ∀ (D : Ends) (H : Hp) (p a : Addr) (xs : List V) (ds : List PyData) (v1 v2 : Option V), H a = some (.tup xs) → DqAll H p xs ds → ds.length ≤ 8 → ds.all isSg = true →
    (∀ H', Same H H' → D.rt (.bl (decide ((uq (ds.map nmOf)).length = ds.length) && (ds.map fun d => decide (V.int (paOf d) = V.int 0)).any id)) H') → t D [some (.ref a), v1, v2] H := by
  refine ⟨_, ps_ret (pe_and (pe_cmpR op_eq (pe_callB call_lenS (by rfl) T.len PySem.boot_len (pa_cons (pe_callTy (call_setU rfl) (by rfl) T.set (by decide +kernel) (pa_cons
          (pe_lc (own := [("_law_one", 1)]) (g := gName 1) (by rfl) scA.nd (pi_tup (pv 0)) (blkOk_by (own := [("_law_one", 1)]) (N := NA) (sc := defScope sAre) (by decide +kernel))
            (fun _ _ _ _ _ => pg_name (i := 1) scA.nd rfl (Or.inl rfl)) (fun _ _ _ _ _ => pts_nil) (fun _ _ _ _ _ => pe_ix (r := rIxT K) ix_tup (pv 1) pe_int (fun _ _ => rfl))) pa_nil)) pa_nil))
          (pe_callB call_len_seq (by rfl) T.len PySem.boot_len (pa_cons (pv 0) pa_nil)) (nomark _))
      (pe_one (pe_cmpR op_in_seq pe_int (pe_lc (own := [("_law_one", 1)]) (g := gName 1) (by rfl) scA.nd (pi_tup (pv 0)) (blkOk_by (own := [("_law_one", 1)]) (N := NA) (sc := defScope sAre) (by decide +kernel))
            (fun _ _ _ _ _ => pg_name (i := 1) scA.nd rfl (Or.inl rfl)) (fun _ _ _ _ _ => pts_nil) (fun _ _ _ _ _ => pe_ix (r := rIxT K) ix_tup (pv 1) pe_int (fun _ _ => rfl))) (by with_unfolding_all rfl)))), ?_⟩
  intro D H p a xs ds v1 v2 ha hds h8 hall q
  have hl := hds.length
  have hT : SqT K H a xs := SqT.of ha
  have go : ∀ (H' : Hp), Same H H' → ∀ (i : Nat) (x : V), xs[i]? = some x → ∃ (r : Addr) (nm : Str) (n : Int), x = .ref r ∧ ds[i]? = some (.tuple [.str nm, .int n]) ∧ H' r = some (.tup [.str nm, .int n]) := by
    intro H' S' i x hx'
    obtain ⟨e, he, De⟩ := hds.get' hx'
    obtain ⟨nm, n, rfl⟩ := sg_shape (List.all_eq_true.mp hall e (List.mem_of_getElem? he))
    cases De with
    | tup hr' hA =>
      rename_i r ys
      cases hA with
      | cons d1 hA => cases hA with
        | cons d2 hA =>
          cases hA
          cases d1
          cases d2
          exact ⟨r, nm, n, rfl, he, S' _ _ hr'⟩
  refine ⟨_, rfl, a, rfl, ⟨_, hT⟩, fun D2 hD2 => ?_⟩
  refine lc_valsT (xs := xs) (ys := (ds.map nmOf).map V.str) hD2 (by omega) (by rw [List.length_map, List.length_map, hl]) hT ?_ ?_
  · intro i x y H2 Q' hx' hy S2 k
    obtain ⟨r, nm, n, rfl, he, hr'⟩ := go H2 S2 i x hx'
    rw [List.getElem?_map, List.getElem?_map, he] at hy
    cases hy
    exact ⟨rfl, _, rfl, r, _, _, _, rfl, rfl, SqT.of hr', rfl, k _ (Same.refl _)⟩
  intro H2 S2 hD2'
  have hu := uq_le (ds.map nmOf)
  rw [List.length_map] at hu
  refine ⟨D2, ds.map nmOf, rfl, SqL.of hD2', by rw [List.length_map]; omega, fun r hr' => ?_⟩
  have S3 : Same H (upd H2 r (SetN r (uq (ds.map nmOf)).length)) := S2.trans (same_new hr')
  refine ⟨r, _, rfl, upd_same, by omega, _, rfl, a, _, rfl, .inr (S3.seqT hT), rfl, _, rfl, ?_⟩
  by_cases hn : (uq (ds.map nmOf)).length = ds.length
  · rw [decide_eq_true (show V.int ((uq (ds.map nmOf)).length : Int) = V.int (xs.length : Int) by rw [hn, hl])]
    refine iteT ?_
    refine ⟨_, rfl, a, rfl, ⟨_, S3.seqT hT⟩, fun D3 hD3 => ?_⟩
    refine lc_valsT (xs := xs) (ys := (ds.map paOf).map V.int) hD3 (by omega) (by rw [List.length_map, List.length_map, hl]) (S3.seqT hT) ?_ ?_
    · intro i x y H3 Q' hx' hy S4 k
      obtain ⟨r', nm, n, rfl, he, hr''⟩ := go H3 (S3.trans S4) i x hx'
      rw [List.getElem?_map, List.getElem?_map, he] at hy
      cases hy
      exact ⟨rfl, _, rfl, r', _, _, _, rfl, rfl, SqT.of hr'', rfl, k _ (Same.refl _)⟩
    intro H3 S4 hD3'
    refine ⟨D3, _, rfl, .inl (SqL.of hD3'), rfl, flat_ints _, ?_⟩
    have := q H3 (S3.trans S4)
    rw [decide_eq_true hn] at this
    rw [any_0]
    exact this
  · rw [decide_eq_false (show ¬ V.int ((uq (ds.map nmOf)).length : Int) = V.int (xs.length : Int) by intro z; injection z; omega)]
    refine iteF ?_
    have := q _ S3
    rw [decide_eq_false hn] at this
    exact this
theorem ok_are {f : Addr} {fd : FuncData} (F : Fun K "_law_are_kinds" "_law_are_kinds" sAre f fd) (T : Blt mg) (W : Known P w K mg base CX0 3 "_law_within" fW fdW ["_law_thing", "_law_low", "_law_high"] (spWi K)) : FnOk P w K mg base CX0 4 f fd ["_law_thing"] spAre := by
  refine F.ok scA (fun vs H Q E h => ?_) (fun cdv A outer s H vs Q E hr h => ?_)
  · obtain ⟨p, v, d, rfl, _⟩ := h
    rfl
  · obtain ⟨p, v, d, rfl, hp, hd, hx, hpl, q⟩ := h
    obtain ⟨t0, p0, r0⟩ := fa0 (P := P) (w := w) (K := K) (base := base) (f := f) (cdv := cdv) (A := A) (outer := outer) (s := s) (H0 := H) (E0' := E) T
    obtain ⟨t1, p1, r1⟩ := fa1 (P := P) (w := w) (K := K) (mg := mg) (base := base) (f := f) (cdv := cdv) (A := A) (outer := outer) (s := s) (H0 := H) (E0' := E) hr
    obtain ⟨t2, p2, r2⟩ := fa2 (f := f) (cdv := cdv) (A := A) (outer := outer) (s := s) (H0 := H) (E0' := E) W hr
    obtain ⟨u0, q0, s0⟩ := ia0 (P := P) (w := w) (K := K) (base := base) (f := f) (cdv := cdv) (A := A) (outer := outer) (s := s) (H0 := H) (E0' := E) T
    obtain ⟨u2, q2, s2⟩ := ia2 (P := P) (w := w) (K := K) (base := base) (f := f) (cdv := cdv) (A := A) (outer := outer) (s := s) (H0 := H) (E0' := E) T
    refine ⟨_, pss_of iB_eq (pss_cons q0 (pss_cons (ps_for PassesOwn.never rfl (pi_tup (pv 0)) (pg_name (i := 1) scA.nd rfl (Or.inl rfl)) (pss_of ifB_eq (pss_cons p0 (pss_cons p1 (pss_one p2))))) (pss_one q2))), ?_⟩
    clear p0 p1 p2 q0 q2
    refine s0 _ H p v d _ _ hd (fun e => by have := q H (Same.refl H); rw [e] at this; exact this) fun a xs ds ev ed ha hds h1 h8 => ?_
    subst ev ed
    obtain ⟨hz, hs⟩ := hx ds rfl
    have hl := hds.length
    have hdef : isSgs (.tuple ds) = (ds.all isSg && (decide ((uq (ds.map nmOf)).length = ds.length) && (ds.map fun d => decide (V.int (paOf d) = V.int 0)).any id)) := by
      show (decide (1 ≤ ds.length) && (decide (ds.length ≤ 8) && _)) = _
      rw [decide_eq_true h1, decide_eq_true h8]
      rfl
    have bad : ∀ (e : PyData) (H' : Hp), e ∈ ds → isSg e = false → Same H H' → Q (.bl false) H' := fun e H' he hb S' => by
      have := q H' S'
      rw [hdef, List.all_eq_false.mpr ⟨e, he, by rw [hb]; exact Bool.false_ne_true⟩] at this
      exact this
    refine ⟨_, rfl, a, rfl, ⟨_, SqT.of ha⟩, ?_⟩
    refine for_tup (xs := xs) (fun i σ H' => Same H H' ∧ (∀ e ∈ ds.take i, isSg e = true) ∧ ∃ v1 v2 : Option V, σ = [some (.ref a), v1, v2]) ⟨Same.refl H, fun e he => by simp at he, _, _, rfl⟩ ?_ ?_ ?_
    · rintro i σ H' hi ⟨S, _⟩
      exact SqT.of (S _ _ ha)
    · rintro i x σ H' hx' ⟨S, hok, v1, v2, rfl⟩
      obtain ⟨e, he, De⟩ := hds.get' hx'
      have hm := List.mem_of_getElem? he
      refine r0 _ H' p x e _ _ (Dq.still (still_same hp S) e x De) (hs e hm) (fun hb => bad e H' hm hb S) fun r nm b vb ev ed hr' db h1' h6' => ?_
      subst ev ed
      have sgE : isSg (.tuple [.str nm, b]) = (nm.cps.toList.all smB && inW3 b) := by
        show ((decide (1 ≤ nm.length) && (decide (nm.length ≤ 6) && nm.cps.toList.all smB)) && inW3 b) = _
        rw [decide_eq_true h1', decide_eq_true h6']
        rfl
      refine r1 _ H' r nm vb _ _ hr' h6' (hpl ds rfl _ hm nm (List.mem_cons_self ..)) (fun H2 S2 hb => bad _ H2 hm (by rw [sgE, hb]; rfl) (S.trans S2)) fun H2 S2 hb => ?_
      refine r2 _ H2 p r nm b vb _ _ (S2 _ _ hr') (Dq.still (still_same (hp.same S) S2) b vb db) (fun hw => bad _ H2 hm (by rw [sgE, hw, Bool.and_false]) (S.trans S2)) fun hw => ?_
      refine ⟨S.trans S2, fun e' he' => ?_, _, _, rfl⟩
      rw [List.take_add_one, he] at he'
      rcases List.mem_append.mp he' with z | z
      · exact hok e' z
      · have : e' = .tuple [.str nm, b] := by simpa using z
        rw [this, sgE, hb, hw]
        rfl
    · rintro σ H' ⟨S, hok, v1, v2, rfl⟩
      have hall : ds.all isSg = true := by
        rw [List.all_eq_true]
        rw [hl, List.take_of_length_le (Nat.le_refl _)] at hok
        exact hok
      refine s2 _ H' p a xs ds _ _ (S _ _ ha) (DqAll.still (still_same hp S) ds _ hds) h8 hall fun H2 S2 => ?_
      have := q H2 (S.trans S2)
      rw [hdef, hall] at this
      exact this
end
end K1


set_option Elab.async false
set_option linter.all false
set_option maxRecDepth 100000
set_option maxHeartbeats 1600000
namespace K1
open PySem L2 LN
/-- the first def of a class -/
def clsFst : Stmt → Stmt
  | .ClassDef _ _ _ (s :: _) _ _ _ _ _ _ _ => s
  | s => s
abbrev sBk : Stmt := clsFst (top 56)
/-- a new book is handed what makes no signs -/
def spBk (C : Nat → Addr) : Sp := fun vs H _ E => ∃ (p : Addr) (u v : V) (d : PyData), vs = [u, v] ∧ PotAt H p ∧ Dq H p v d ∧ Row d ∧ isSgs d = false ∧ RSigns C H E
section
variable {P : Program} {w : World} {K : PySem.W.Frag} {mg : Str → Option Value} {base : Heap} {C : Nat → Addr} {f fS : Addr} {fd fdS : FuncData}
theorem scBk : FnScope ["self", "signs"] ["self", "signs"] (defScope sBk) := ⟨rfl, rfl, rfl, by decide +kernel, rfl, by decide +kernel, by decide +kernel⟩
def bkB (i : Nat) : Stmt := (defBody sBk).getD i (.Pass ⟨0, 0, 0, 0⟩)
theorem bk_eq : [bkB 0, bkB 1, bkB 2, bkB 3, bkB 4, bkB 5] = defBody sBk := by kernel_rfl
theorem no_book (F : Fun K "__init__" "Book.__init__" sBk f fd) (S : Known P w K mg base (CX1 P w) 5 "check_signs" fS fdS ["signs"] (spNo C 0)) : FnOk P w K mg base (CX1 P w) 6 f fd ["self", "signs"] (spBk C) := by
  obtain ⟨oc, od, kV, doc, pm, an, cdv, ct, osl, rfl, lk, hcd⟩ := F.ex
  refine fn_of (k := 4) lk hcd scBk (fun vs H Q E h => ?_) fun A outer s H vs Q E hr h => ?_
  · obtain ⟨_, _, _, _, rfl, _⟩ := h
    rfl
  · obtain ⟨p, u, v, d, rfl, hp, hd, hf, hb, q⟩ := h
    refine ⟨_, pss_of bk_eq (pss_cons (ps_expr (pe_call (E := E) S.G hr (by rfl) S.m S.k S.b .nil passes_cx (pa_cons (pv 1) pa_nil))) pss_never), ?_⟩
    exact ⟨v, rfl, p, v, [], d, rfl, rfl, hp, hd, hf, hb, q⟩
end
end K1


set_option Elab.async false
set_option linter.all false
set_option maxRecDepth 100000
set_option maxHeartbeats 1600000
namespace K1
open PySem L2 LN
abbrev sMet : Stmt := top 69
def spMet : Sp := fun vs H Q _ => ∃ (wy : Nat) (p : Addr) (v : V) (d : PyData), vs = [nV wy, v] ∧ wy < 8 ∧ PotAt H p ∧ Dq H p v d ∧ Row d ∧ isSgs d = false ∧ ∀ (q : Addr) (H' : Hp), Same H H' → H' q = some (.tup [.str "signs"]) → Q (.ref q) H'
structure Fam (K : PySem.W.Frag) (mg : Str → Option Value) (C : Nat → Addr) (Ne Ab : Addr) : Prop where
  mN : mg "NestError" = some (.ref Ne)
  mA : mg "AbsentError" = some (.ref Ab)
  xN : ExcC K Ne
  xA : ExcC K Ab
  iN : PySem.W.mroIn K (C 0) (.ref Ne) = some true
  iA : PySem.W.mroIn K (C 0) (.ref Ab) = some false
section
variable {P : Program} {w : World} {K : PySem.W.Frag} {mg : Str → Option Value} {base : Heap} {C : Nat → Addr} {Ne Ab : Addr}
abbrev NM : List Str := ["_law_way", "_law_thing", "_law_e"]
theorem scM : FnScope NM ["_law_way", "_law_thing"] (defScope sMet) := ⟨rfl, rfl, rfl, by decide +kernel, rfl, by decide +kernel, by decide +kernel⟩
def mst (i : Nat) : Stmt := (defBody sMet).getD i (.Pass ⟨0, 0, 0, 0⟩)
theorem mB_eq : [mst 0, mst 1] = defBody sMet := by kernel_rfl
/-- where the word is told -/
def tW (C : Nat → Addr) : TS := tRet (tCall (spWord C) [] E0 (tCons (tVar 2) tNil))
theorem eh_signs {R : VK} {H : Hp} (Fm : Fam K mg C Ne Ab) (q : ∀ (r : Addr) (H' : Hp), Same H H' → H' r = some (.tup [.str "signs"]) → R (.ref r) H') : RSigns C H (EH K 3 2 Ne Ab (tW C) R) := by
  intro x H' S hx
  refine ⟨x, C 0, none, true, false, rfl, hx, Fm.iN, Fm.iA, rfl, fun σ' hσ => ?_⟩
  exact ⟨.ref x, List.getElem?_set_self (by rw [hσ]; decide), x, 0, _, rfl, Err.plain (by decide) hx, fun r H2 S2 _ hr => q r H2 (S.trans S2) hr⟩
structure KnownM (P : Program) (w : World) (K : PySem.W.Frag) (mg : Str → Option Value) (base : Heap) (C : Nat → Addr) (B fI : Addr) (fdI : FuncData) : Prop where
  M : Mk K B fI
  G : FnOk P w K mg base (CX1 P w) 6 fI fdI ["self", "signs"] (spBk C)
  m : mg "Book" = some (.ref B)
  b : Binds K fdI ["self", "signs"] []
theorem ok_met {f fW f0 f1 f2 fA fU fO fT B fI : Addr} {fd fdW fd0 fd1 fd2 fdA fdU fdO fdT fdI : FuncData} (F : Fun K "_law_met" "_law_met" sMet f fd) (W : Known P w K mg base CX0 1 "_law_word" fW fdW ["_law_e"] (spWord C)) (Fm : Fam K mg C Ne Ab)
    (GT : Known P w K mg base (CX1 P w) 6 "is_term" fT fdT ["signs", "thing"] (spNo C 1)) (G0 : Known P w K mg base (CX1 P w) 6 "parts_of" f0 fd0 ["signs", "term"] (spNo C 1)) (G1 : Known P w K mg base (CX1 P w) 6 "inner" f1 fd1 ["signs", "term"] (spNo C 1)) (G2 : Known P w K mg base (CX1 P w) 6 "depth" f2 fd2 ["signs", "term"] (spNo C 1))
    (GA : Known P w K mg base (CX1 P w) 6 "inner_at" fA fdA ["signs", "term", "place"] (spNo C 2)) (GU : Known P w K mg base (CX1 P w) 6 "put" fU fdU ["signs", "term", "place", "other"] (spNo C 3)) (GO : Known P w K mg base (CX1 P w) 6 "in_order" fO fdO ["signs", "terms"] (spNo C 1)) (GB : KnownM P w K mg base C B fI fdI) :
    FnOk P w K mg base CX0 8 f fd ["_law_way", "_law_thing"] spMet := by
  refine F.ok scM (fun vs H Q E h => ?_) (fun cdv A outer s H vs Q E hr h => ?_)
  · obtain ⟨_, _, _, _, rfl, _⟩ := h
    rfl
  · obtain ⟨wy, p, v, d, rfl, hwy, hp, hd, hf, hb, q⟩ := h
    have hr1 := hr.mono (show 1 ≤ 6 + 1 by decide)
    have hr6 := hr.mono (show 6 ≤ 6 + 1 by decide)
    have fin : ∀ (tb : XK → TS), (∀ (pn : List (Addr × Obj)) (xe : Value → Shared → Prop) (E1 : XK), Passes (CX1 P w) ((cxOf CX0 P w K mg base NM "_law_met" (defScope sMet) f cdv A outer s H E).nox.moved pn xe) E1 → PSs ((cxOf CX0 P w K mg base NM "_law_met" (defScope sMet) f cdv A outer s H E).nox.moved pn xe) (match mst 0 with | .Try b _ _ _ _ => b | _ => []) (tb E1)) →
        (∀ D : Ends, D.rt = Q → tb (EH K 3 2 Ne Ab (tW C) D.rt) D (start NM [nV wy, v]) H) → ∃ t', PSs (cxOf CX0 P w K mg base NM "_law_met" (defScope sMet) f cdv A outer s H E).nox (defBody sMet) t' ∧ t' { nx := fun _ H' => Q .non H', rt := Q } (start NM [nV wy, v]) H := by
      intro tb hbd hrd
      refine ⟨_, pss_of mB_eq (pss_cons (ps_try (i := 2) (tb := tb) ⟨rfl, rfl⟩ scM.nd rfl rfl (by rfl) Fm.mN (by rfl) Fm.mA Fm.xN Fm.xA hbd
        (fun x => pss_one (ps_ret (pe_call W.G ⟨hr1.gd, fun h => absurd h (by decide), hr1.dp, hr1.un⟩ (by rfl) W.m W.k W.b .nil pass0 (pa_cons (pv 2) pa_nil))))) pss_never), ?_⟩
      exact hrd _ rfl
    match wy, hwy with
    | 0, _ =>
      refine fin _ (fun pn xe E1 hx => pss_one (ps_if (pt_cmpR op_eq (pv 0) pe_int (nomark _)) (pss_one (ps_expr (pe_call GT.G hr6 (by rfl) GT.m GT.k GT.b .nil hx (pa_cons (pv 1) (pa_cons pe_non pa_nil))))) pss_never)) fun D hD => ?_
      refine ⟨_, rfl, rfl, _, rfl, iteT ?_⟩
      exact ⟨_, rfl, p, v, [.non], d, rfl, rfl, hp, hd, hf, hb, eh_signs Fm (hD ▸ q)⟩
    | 1, _ =>
      refine fin _ (fun pn xe E1 hx => pss_one (ps_if (pt_cmpR op_eq (pv 0) pe_int (nomark _)) pss_never (pss_one (ps_if (pt_cmpR op_lt (pv 0) pe_int (nomark _)) (pss_one (ps_expr (pe_callE (f := f0) (pe_ix (r := rIxL K) ix_list (pe_lst (pa_cons (pe_glob (v := .ref f0) (by rfl) G0.m rfl) (pa_cons (pe_glob (v := .ref f1) (by rfl) G1.m rfl) (pa_cons (pe_glob (v := .ref f2) (by rfl) G2.m rfl) pa_nil)))) (pe_op op_sub (pv 0) pe_int) (fun _ _ => rfl)) G0.G hr6 G0.k G0.b .nil hx (pa_cons (pv 1) (pa_cons pe_non pa_nil))))) pss_never)))) fun D hD => ?_
      refine ⟨_, rfl, rfl, _, rfl, iteF (⟨_, rfl, _, _, rfl, rfl, _, rfl, iteT ?_⟩)⟩
      refine ⟨by show 3 ≤ sizeLine; decide, fun l hl => ?_⟩
      have S1 : Same H (upd H l (.lst [.ref f0, .ref f1, .ref f2])) := same_new hl
      exact ⟨_, rfl, _, _, rfl, rfl, l, _, _, _, rfl, rfl, SqL.of upd_same, rfl, rfl, _, rfl, p, v, [.non], d, rfl, rfl, hp.same S1, Dq.still (still_same hp S1) d _ hd, hf, hb, (eh_signs Fm (hD ▸ q)).same S1⟩
    | 2, _ =>
      refine fin _ (fun pn xe E1 hx => pss_one (ps_if (pt_cmpR op_eq (pv 0) pe_int (nomark _)) pss_never (pss_one (ps_if (pt_cmpR op_lt (pv 0) pe_int (nomark _)) (pss_one (ps_expr (pe_callE (f := f1) (pe_ix (r := rIxL K) ix_list (pe_lst (pa_cons (pe_glob (v := .ref f0) (by rfl) G0.m rfl) (pa_cons (pe_glob (v := .ref f1) (by rfl) G1.m rfl) (pa_cons (pe_glob (v := .ref f2) (by rfl) G2.m rfl) pa_nil)))) (pe_op op_sub (pv 0) pe_int) (fun _ _ => rfl)) G1.G hr6 G1.k G1.b .nil hx (pa_cons (pv 1) (pa_cons pe_non pa_nil))))) pss_never)))) fun D hD => ?_
      refine ⟨_, rfl, rfl, _, rfl, iteF (⟨_, rfl, _, _, rfl, rfl, _, rfl, iteT ?_⟩)⟩
      refine ⟨by show 3 ≤ sizeLine; decide, fun l hl => ?_⟩
      have S1 : Same H (upd H l (.lst [.ref f0, .ref f1, .ref f2])) := same_new hl
      exact ⟨_, rfl, _, _, rfl, rfl, l, _, _, _, rfl, rfl, SqL.of upd_same, rfl, rfl, _, rfl, p, v, [.non], d, rfl, rfl, hp.same S1, Dq.still (still_same hp S1) d _ hd, hf, hb, (eh_signs Fm (hD ▸ q)).same S1⟩
    | 3, _ =>
      refine fin _ (fun pn xe E1 hx => pss_one (ps_if (pt_cmpR op_eq (pv 0) pe_int (nomark _)) pss_never (pss_one (ps_if (pt_cmpR op_lt (pv 0) pe_int (nomark _)) (pss_one (ps_expr (pe_callE (f := f2) (pe_ix (r := rIxL K) ix_list (pe_lst (pa_cons (pe_glob (v := .ref f0) (by rfl) G0.m rfl) (pa_cons (pe_glob (v := .ref f1) (by rfl) G1.m rfl) (pa_cons (pe_glob (v := .ref f2) (by rfl) G2.m rfl) pa_nil)))) (pe_op op_sub (pv 0) pe_int) (fun _ _ => rfl)) G2.G hr6 G2.k G2.b .nil hx (pa_cons (pv 1) (pa_cons pe_non pa_nil))))) pss_never)))) fun D hD => ?_
      refine ⟨_, rfl, rfl, _, rfl, iteF (⟨_, rfl, _, _, rfl, rfl, _, rfl, iteT ?_⟩)⟩
      refine ⟨by show 3 ≤ sizeLine; decide, fun l hl => ?_⟩
      have S1 : Same H (upd H l (.lst [.ref f0, .ref f1, .ref f2])) := same_new hl
      exact ⟨_, rfl, _, _, rfl, rfl, l, _, _, _, rfl, rfl, SqL.of upd_same, rfl, rfl, _, rfl, p, v, [.non], d, rfl, rfl, hp.same S1, Dq.still (still_same hp S1) d _ hd, hf, hb, (eh_signs Fm (hD ▸ q)).same S1⟩
    | 4, _ =>
      refine fin _ (fun pn xe E1 hx => pss_one (ps_if (pt_cmpR op_eq (pv 0) pe_int (nomark _)) pss_never (pss_one (ps_if (pt_cmpR op_lt (pv 0) pe_int (nomark _)) pss_never (pss_one (ps_if (pt_cmpR op_eq (pv 0) pe_int (nomark _)) (pss_one (ps_expr (pe_call GA.G hr6 (by rfl) GA.m GA.k GA.b .nil hx (pa_cons (pv 1) (pa_cons pe_non (pa_cons pe_non pa_nil)))))) pss_never)))))) fun D hD => ?_
      refine ⟨_, rfl, rfl, _, rfl, iteF (⟨_, rfl, _, _, rfl, rfl, _, rfl, iteF (⟨_, rfl, rfl, _, rfl, iteT ?_⟩)⟩)⟩
      exact ⟨_, rfl, p, v, [.non, .non], d, rfl, rfl, hp, hd, hf, hb, eh_signs Fm (hD ▸ q)⟩
    | 5, _ =>
      refine fin _ (fun pn xe E1 hx => pss_one (ps_if (pt_cmpR op_eq (pv 0) pe_int (nomark _)) pss_never (pss_one (ps_if (pt_cmpR op_lt (pv 0) pe_int (nomark _)) pss_never (pss_one (ps_if (pt_cmpR op_eq (pv 0) pe_int (nomark _)) pss_never (pss_one (ps_if (pt_cmpR op_eq (pv 0) pe_int (nomark _)) (pss_one (ps_expr (pe_call GU.G hr6 (by rfl) GU.m GU.k GU.b .nil hx (pa_cons (pv 1) (pa_cons pe_non (pa_cons pe_non (pa_cons pe_non pa_nil))))))) pss_never)))))))) fun D hD => ?_
      refine ⟨_, rfl, rfl, _, rfl, iteF (⟨_, rfl, _, _, rfl, rfl, _, rfl, iteF (⟨_, rfl, rfl, _, rfl, iteF (⟨_, rfl, rfl, _, rfl, iteT ?_⟩)⟩)⟩)⟩
      exact ⟨_, rfl, p, v, [.non, .non, .non], d, rfl, rfl, hp, hd, hf, hb, eh_signs Fm (hD ▸ q)⟩
    | 6, _ =>
      refine fin _ (fun pn xe E1 hx => pss_one (ps_if (pt_cmpR op_eq (pv 0) pe_int (nomark _)) pss_never (pss_one (ps_if (pt_cmpR op_lt (pv 0) pe_int (nomark _)) pss_never (pss_one (ps_if (pt_cmpR op_eq (pv 0) pe_int (nomark _)) pss_never (pss_one (ps_if (pt_cmpR op_eq (pv 0) pe_int (nomark _)) pss_never (pss_one (ps_if (pt_cmpR op_eq (pv 0) pe_int (nomark _)) (pss_one (ps_expr (pe_call GO.G hr6 (by rfl) GO.m GO.k GO.b .nil hx (pa_cons (pv 1) (pa_cons pe_non pa_nil))))) pss_never)))))))))) fun D hD => ?_
      refine ⟨_, rfl, rfl, _, rfl, iteF (⟨_, rfl, _, _, rfl, rfl, _, rfl, iteF (⟨_, rfl, rfl, _, rfl, iteF (⟨_, rfl, rfl, _, rfl, iteF (⟨_, rfl, rfl, _, rfl, iteT ?_⟩)⟩)⟩)⟩)⟩
      exact ⟨_, rfl, p, v, [.non], d, rfl, rfl, hp, hd, hf, hb, eh_signs Fm (hD ▸ q)⟩
    | 7, _ =>
      refine fin _ (fun pn xe E1 hx => pss_one (ps_if (pt_cmpR op_eq (pv 0) pe_int (nomark _)) pss_never (pss_one (ps_if (pt_cmpR op_lt (pv 0) pe_int (nomark _)) pss_never (pss_one (ps_if (pt_cmpR op_eq (pv 0) pe_int (nomark _)) pss_never (pss_one (ps_if (pt_cmpR op_eq (pv 0) pe_int (nomark _)) pss_never (pss_one (ps_if (pt_cmpR op_eq (pv 0) pe_int (nomark _)) pss_never (pss_one (ps_expr (pe_make GB.M GB.G hr (by rfl) GB.m GB.b .nil hx (pa_cons (pv 1) pa_nil)))))))))))))) fun D hD => ?_
      refine ⟨_, rfl, rfl, _, rfl, iteF (⟨_, rfl, _, _, rfl, rfl, _, rfl, iteF (⟨_, rfl, rfl, _, rfl, iteF (⟨_, rfl, rfl, _, rfl, iteF (⟨_, rfl, rfl, _, rfl, iteF (?_)⟩)⟩)⟩)⟩)⟩
      refine ⟨_, rfl, fun x dx hx hdx hne => ?_⟩
      have S1 : Same H (upd (upd H dx (.own x)) x (.ins B dx [])) := (same_new hdx).trans (same_new (by rw [upd_ne (fun z => hne z.symm)]; exact hx))
      exact ⟨p, _, v, d, rfl, hp.same S1, Dq.still (still_same hp S1) d _ hd, hf, hb, (eh_signs Fm (hD ▸ q)).same S1⟩
end
end K1


set_option Elab.async false
set_option linter.all false
set_option maxRecDepth 100000
set_option maxHeartbeats 1600000
namespace K1
open PySem L2 LN
abbrev sBent : Stmt := top 66
abbrev NB : List Str := ["_law_pot_here", "_law_thing", "_law_deep", "_law_at", "_law_way"]
def bst (i : Nat) : Stmt := (defBody sBent).getD i (.Pass ⟨0, 0, 0, 0⟩)
theorem bB_eq : [bst 0, bst 1, bst 2, bst 3, bst 4, bst 5, bst 6, bst 7, bst 8] = defBody sBent := by kernel_rfl
abbrev XB (P : Program) (w : World) (K : PySem.W.Frag) (mg : Str → Option Value) (base : Heap) (f : Addr) (cdv : Value) (A : Around) (outer : List Env) (s : Shared) (H0 : Hp) (E0' : XK) : Cx := (cxOf CX0 P w K mg base NB "_law_bent" (defScope sBent) f cdv A outer s H0 E0').nox
theorem scBn : FnScope NB ["_law_pot_here", "_law_thing", "_law_deep"] (defScope sBent) := ⟨rfl, rfl, rfl, by decide +kernel, rfl, by decide +kernel, by decide +kernel⟩
/-- a text of plain signs -/
def Asc (k : Nat) (x : Str) : Prop := x.length ≤ 60 + k ∧ ∀ c ∈ x.cps.toList, c < 128
def wd (k n : Nat) : Nat := if n < 2 then 2 else 20 + k
/-- things of at most n brackets -/
inductive Th (k : Nat) : Nat → PyData → Prop
  | int {n : Nat} {i : Int} (h : i.natAbs ≤ 10 ^ 30 + 9 * k) : Th k n (.int i)
  | str {n : Nat} {x : Str} (h : Asc k x) : Th k n (.str x)
  | non {n : Nat} : Th k n .none
  | bl {n : Nat} {b : Bool} : Th k n (.bool b)
  | d0 {n : Nat} : Th k n (.dict [])
  | d1 {n : Nat} : Th k n (.dict [(.int 0, .int 1)])
  | tup {n : Nat} {ds : List PyData} (hl : ds.length ≤ wd k n) (h : ∀ e ∈ ds, Th k n e) : Th k (n + 1) (.tuple ds)
  | lst {n : Nat} {ds : List PyData} (hl : ds.length ≤ wd k n) (h : ∀ e ∈ ds, Th k n e) : Th k (n + 1) (.list ds)
theorem wd_big {k m : Nat} : wd k (m + 2) = 20 + k := if_neg (by omega)
theorem wd_up {k n : Nat} : wd k n ≤ wd (k + 1) n := by
  unfold wd
  split <;> omega
theorem Asc.up {k : Nat} {x : Str} (h : Asc k x) : Asc (k + 1) x := ⟨by have := h.1; omega, h.2⟩
theorem Th.up {k n : Nat} {d : PyData} (h : Th k n d) : Th (k + 1) n d := by
  induction h with
  | int h => exact .int (by omega)
  | str h => exact .str h.up
  | non => exact .non
  | bl => exact .bl
  | d0 => exact .d0
  | d1 => exact .d1
  | tup hl h ih => exact .tup (Nat.le_trans hl wd_up) ih
  | lst hl h ih => exact .lst (Nat.le_trans hl wd_up) ih
theorem Th.ints {k n : Nat} {d : PyData} (h : Th k n d) : ∀ i, d = .int i → i.natAbs ≤ 10 ^ 30 + 9 * k := by
  rintro i rfl
  cases h with
  | int h => exact h
theorem Th.strs_ {k n : Nat} {d : PyData} (h : Th k n d) : ∀ x, d = .str x → Asc k x := by
  rintro i rfl
  cases h with
  | str h => exact h
theorem Th.tp {k m : Nat} {ds : List PyData} (h : Th k (m + 3) (.tuple ds)) : ds.length ≤ 20 + k ∧ ∀ e ∈ ds, Th k (m + 2) e := by
  cases h with
  | tup hl h => exact ⟨by rw [wd_big] at hl; exact hl, h⟩
theorem th_tup {k m : Nat} {ds : List PyData} (hl : ds.length ≤ 20 + k) (h : ∀ e ∈ ds, Th k (m + 2) e) : Th k (m + 3) (.tuple ds) := .tup (by rw [wd_big]; exact hl) h
theorem th_lst {k m : Nat} {ds : List PyData} (hl : ds.length ≤ 20 + k) (h : ∀ e ∈ ds, Th k (m + 2) e) : Th k (m + 3) (.list ds) := .lst (by rw [wd_big]; exact hl) h
theorem wd_two {k n : Nat} : 2 ≤ wd k n := by
  unfold wd
  split <;> omega
theorem asc_small {k : Nat} : ∀ x ∈ s3, Asc k x := by
  intro x hx
  have h : x.length ≤ 1 ∧ ∀ c ∈ x.cps.toList, c < 128 := by
    revert x
    decide +kernel
  exact ⟨by omega, h.2⟩
theorem odd_th {k n : Nat} {d : PyData} (h : d ∈ oddD) : Th k (n + 2) d := by
  simp only [oddD, List.mem_cons, List.not_mem_nil, or_false] at h
  have two := @wd_two k
  rcases h with rfl | rfl | rfl | rfl | rfl | rfl | rfl | rfl | rfl | rfl | rfl | rfl | rfl | rfl | rfl | rfl | rfl
  · exact .non
  · exact .bl
  · exact .bl
  · exact .int (by show 1 ≤ 10 ^ 30 + 9 * k; omega)
  · exact .int (by show 10 ^ 30 ≤ 10 ^ 30 + 9 * k; omega)
  · exact .str (asc_small _ (by simp [s3]))
  · exact .str (asc_small _ (by simp [s3]))
  · exact .str (asc_small _ (by simp [s3]))
  · exact .tup (Nat.zero_le _) fun e z => nomatch z
  · exact .lst (Nat.zero_le _) fun e z => nomatch z
  · exact .d0
  · exact .lst (Nat.le_trans (by decide) two) fun e z => by rw [List.mem_singleton.mp z]; exact .tup (Nat.zero_le _) fun e z => nomatch z
  · exact .tup (Nat.le_trans (by decide) two) fun e z => by rw [List.mem_singleton.mp z]; exact .tup (Nat.zero_le _) fun e z => nomatch z
  · exact .tup (Nat.le_trans (by decide) two) fun e z => by rw [List.mem_singleton.mp z]; exact .int (Nat.zero_le _)
  · exact .lst (Nat.le_trans (by decide) two) fun e z => by rw [List.mem_singleton.mp z]; exact .int (Nat.zero_le _)
  · exact .d1
  · refine .tup (Nat.le_trans (by decide) two) fun e z => ?_
    have : e = .bool true := by simpa using z
    rw [this]
    exact .bl
theorem app_cps (x y : Str) : (x ++ y).cps.toList = x.cps.toList ++ y.cps.toList := by
  show (x.cps ++ y.cps).toList = _
  exact Array.toList_append
theorem upper_one : ∀ c, c < 128 → ∃ e, Unicode.upperOf c = [e] ∧ e < 128 := by
  have h : ∀ c, c < 128 → (Unicode.upperOf c).length = 1 ∧ ∀ e ∈ Unicode.upperOf c, e < 128 := by decide +kernel
  intro c hc
  obtain ⟨h1, h2⟩ := h c hc
  match hu : Unicode.upperOf c, h1 with
  | [e], _ => exact ⟨e, rfl, h2 e (by rw [hu]; exact List.mem_cons_self ..)⟩
theorem upper_list (x : Str) : (Txt.upper x).cps.toList = (x.cps.toList.map Unicode.upperOf).flatten := by
  show ((x.cps.mapIdx fun i c => (Unicode.upperOf c).toArray).flatten).toList = _
  rw [Array.toList_flatten]
  congr 1
  rw [Array.toList_mapIdx]
  refine List.ext_getElem? fun i => ?_
  rw [List.getElem?_map, List.getElem?_mapIdx, List.getElem?_map]
  cases x.cps.toList[i]? with
  | none => rfl
  | some c => simp
theorem up_flat : ∀ cs : List Nat, (∀ c ∈ cs, c < 128) → (cs.map Unicode.upperOf).flatten.length = cs.length ∧ ∀ e ∈ (cs.map Unicode.upperOf).flatten, e < 128
  | [], _ => ⟨rfl, fun e z => nomatch z⟩
  | c :: cs, h => by
    obtain ⟨h1, h2⟩ := up_flat cs fun e he => h e (List.mem_cons_of_mem _ he)
    obtain ⟨e, he, hl⟩ := upper_one c (h c (List.mem_cons_self ..))
    rw [List.map_cons, List.flatten_cons, he]
    refine ⟨by rw [List.length_append, h1]; show 1 + cs.length = cs.length + 1; omega, fun u hu => ?_⟩
    rcases List.mem_append.mp hu with z | z
    · rw [List.mem_singleton.mp z]; exact hl
    · exact h2 u z
theorem asc_upper {k : Nat} {x : Str} (h : Asc k x) : Asc k (Txt.upper x) := by
  obtain ⟨h1, h2⟩ := h
  obtain ⟨a, b⟩ := up_flat _ h2
  refine ⟨?_, ?_⟩
  · show (Txt.upper x).cps.toList.length ≤ _
    rw [upper_list, a]
    exact h1
  · rw [upper_list]
    exact b
theorem bent_in {k : Nat} {x y : Str} (hx : Asc k x) (hy : y ∈ bentS x) : Asc (k + 1) y := by
  obtain ⟨h1, h2⟩ := hx
  simp only [bentS, List.mem_cons, List.not_mem_nil, or_false] at hy
  rcases hy with rfl | rfl | rfl | rfl | rfl | rfl
  · refine ⟨?_, fun c hc => ?_⟩
    · show (x ++ "a").cps.toList.length ≤ _
      rw [app_cps, List.length_append]
      show x.length + 1 ≤ _
      omega
    · rw [app_cps] at hc
      rcases List.mem_append.mp hc with z | z
      · exact h2 c z
      · have z : c ∈ [97] := z
        have : c = 97 := by simpa using z
        omega
  · refine ⟨Nat.le_trans (cutS_length x _ _) (by omega), fun c hc => h2 c ?_⟩
    have hc : c ∈ ((x.cps.toList.drop (HT.sIx x.length 0 none)).take (HT.sIx x.length x.length (some (-1)) - HT.sIx x.length 0 none)) := by
      have : (cutS x none (some (-1))).cps.toList = ((x.cps.toList.drop (HT.sIx x.length 0 none)).take (HT.sIx x.length x.length (some (-1)) - HT.sIx x.length 0 none)) := by
        show (List.toArray _).toList = _
        simp
      rw [this] at hc
      exact hc
    exact List.mem_of_mem_drop (List.mem_of_mem_take hc)
  · exact (asc_upper ⟨h1, h2⟩).up
  · refine ⟨?_, fun c hc => ?_⟩
    · show (x ++ " ").cps.toList.length ≤ _
      rw [app_cps, List.length_append]
      show x.length + 1 ≤ _
      omega
    · rw [app_cps] at hc
      rcases List.mem_append.mp hc with z | z
      · exact h2 c z
      · have z : c ∈ [32] := z
        have : c = 32 := by simpa using z
        omega
  · exact ⟨Nat.le_trans (show ("self" : Str).length ≤ 60 by decide) (by omega), by decide +kernel⟩
  · exact ⟨Nat.le_trans (show ("joined" : Str).length ≤ 60 by decide) (by omega), by decide +kernel⟩
/-- what comes of a bending -/
def Made (p : Addr) (H : Hp) (k n : Nat) (R : VK) : Prop := ∀ (v : V) (d : PyData) (H' : Hp), Sam p H H' → PotAt H' p → Dq H' p v d → Th k n d → R v H'
theorem Made.sam {p : Addr} {H H1 : Hp} {k n : Nat} {R : VK} (h : Made p H k n R) (S : Sam p H H1) : Made p H1 k n R := fun v d H' S' hp D a => h v d H' (S.trans S') hp D a
def spBent (m : Nat) : Sp := fun vs H Q _ => ∃ (p : Addr) (v : V) (d : PyData) (k : Nat), vs = [.ref p, v, nV m] ∧ k ≤ 1 ∧ PotAt H p ∧ Dq H p v d ∧ Th k (m + 2) d ∧ Made p H (k + 1) (m + 2) Q
section
variable {P : Program} {w : World} {K : PySem.W.Frag} {mg : Str → Option Value} {base : Heap}
variable {f : Addr} {cdv : Value} {A : Around} {outer : List Env} {s : Shared} {H0 : Hp} {E0' : XK} {fT fW fO : Addr} {fdT fdW fdO : FuncData}
theorem bs0 (T : Known P w K mg base CX0 2 "_law_take" fT fdT ["_law_pot_here", "_law_far"] spTake) (W : Known P w K mg base CX0 2 "_law_whole" fW fdW ["_law_thing"] (spWhole K)) (hr : Room 3 (XB P w K mg base f cdv A outer s H0 E0').A) :
    ∃ t, PS (XB P w K mg base f cdv A outer s H0 E0') (bst 0) t ∧ ∀ (D : Ends) (H : Hp) (p : Addr) (v : V) (d : PyData) (k lv : Nat) (v2 v3 v4 : Option V), PotAt H p → Dq H p v d → (∀ i, d = .int i → i.natAbs ≤ 10 ^ 30 + 9 * k) → Made p H (k + 1) lv D.rt →
      (∀ H', Sam p H H' → PotAt H' p → D.nx [some (.ref p), some v, v2, v3, v4] H') → t D [some (.ref p), some v, v2, v3, v4] H := by
  have hr2 := hr.mono (show 2 ≤ 3 by decide)
  refine ⟨_, ps_if (PW.pt (pw_and (pt_val (pe_call W.G hr2 (by rfl) W.m W.k W.b .nil pass0 (pa_cons (pv 1) pa_nil))) (pw_and1 (pt_cmpR op_gt (pe_call T.G hr2 (by rfl) T.m T.k T.b .nil pass0 (pa_cons (pv 0) (pa_cons pe_int pa_nil))) pe_int (nomark _)))))
    (pss_one (ps_ret (pe_ix ix_list (pe_lst (pa_cons (pe_op op_add (pv 1) pe_int) (pa_cons (pe_op op_sub (pv 1) pe_int) (pa_cons (pe_op op_sub pe_int (pv 1)) (pa_cons (pe_op op_add (pv 1) pe_int) (pa_cons (pe_op op_pow pe_int pe_int) (pa_cons pe_bl pa_nil))))))) (pe_call T.G hr2 (by rfl) T.m T.k T.b .nil pass0 (pa_cons (pv 0) (pa_cons pe_int pa_nil))) (fun _ _ => rfl)))) pss_nil, ?_⟩
  intro D H p v d k lv v2 v3 v4 hp hd hi hR hN
  refine ⟨_, rfl, _, _, _, _, rfl, hd.ty, kit_int d, kit_bool d, _, rfl, ?_⟩
  cases hd with
  | non => exact iteF (iteF (hN H Sam.refl hp))
  | bl b => exact iteF (iteF (hN H Sam.refl hp))
  | str x => exact iteF (iteF (hN H Sam.refl hp))
  | lst _ _ _ _ => exact iteF (iteF (hN H Sam.refl hp))
  | tup _ _ => exact iteF (iteF (hN H Sam.refl hp))
  | dct _ => exact iteF (iteF (hN H Sam.refl hp))
  | int i =>
    obtain ⟨n0, hp0⟩ := id hp
    refine iteT ⟨_, rfl, p, n0, 3, rfl, hp0, by decide, by decide, _, _, rfl, rfl, _, rfl, ?_⟩
    refine ite2 (fun _ => ?_) (fun _ => hN _ Sam.upd ⟨_, upd_same⟩)
    have hb := hi i rfl
    refine ⟨_, rfl, _, _, rfl, rfl, _, rfl, _, _, rfl, rfl, _, rfl, _, _, rfl, rfl, _, rfl, _, _, rfl, rfl, _, _, rfl, rfl, ⟨by decide, by decide, by decide⟩, by show 6 ≤ sizeLine; decide, fun l hl => ?_⟩
    have hpl : p ≠ l := ne_of_none (o := .lst [.int (n0 / 3)]) upd_same hl
    obtain ⟨j, hj, ej⟩ := mod_nat (n := n0 / 3) (m := 6) (by decide)
    refine ⟨_, rfl, p, n0 / 3, 6, rfl, by rw [upd_ne hpl, upd_same], by decide, by decide, ?_⟩
    have Sx : Sam p H (upd (upd (upd H p (.lst [.int (n0 / 3)])) l (.lst [.int (i + 1), .int (i - 1), .int (0 - i), .int (i + 9), .int (10 ^ 30), .bl true])) p (.lst [.int (n0 / 3 / 6)])) := (Sam.upd.over (by
      have := hl
      rw [upd_ne (Ne.symm hpl)] at this
      exact this)).trans Sam.upd
    have fin : ∀ (v' : V) (d' : PyData), ([V.int (i + 1), .int (i - 1), .int (0 - i), .int (i + 9), .int (10 ^ 30), .bl true] : List V)[j]? = some v' → Dq (upd (upd (upd H p (.lst [.int (n0 / 3)])) l (.lst [.int (i + 1), .int (i - 1), .int (0 - i), .int (i + 9), .int (10 ^ 30), .bl true])) p (.lst [.int (n0 / 3 / 6)])) p v' d' → Th (k + 1) lv d' →
        ∃ p' xs i' v'', V.ref l = .ref p' ∧ V.int (n0 / 3 % 6) = .int i' ∧ SqL K (upd (upd (upd H p (.lst [.int (n0 / 3)])) l (.lst [.int (i + 1), .int (i - 1), .int (0 - i), .int (i + 9), .int (10 ^ 30), .bl true])) p (.lst [.int (n0 / 3 / 6)])) p' xs ∧ atI xs i' = some v'' ∧ D.rt v'' (upd (upd (upd H p (.lst [.int (n0 / 3)])) l (.lst [.int (i + 1), .int (i - 1), .int (0 - i), .int (i + 9), .int (10 ^ 30), .bl true])) p (.lst [.int (n0 / 3 / 6)])) := by
      intro v' d' hv hd' ha'
      refine ⟨l, _, _, v', rfl, rfl, SqL.of (by rw [upd_ne (Ne.symm hpl), upd_same]), ?_, hR v' d' _ Sx ⟨_, upd_same⟩ hd' ha'⟩
      rw [show (n0 / 3 % 6 : Int) = (j : Int) from ej]
      exact atI_nat hv
    match j, hj with
    | 0, _ => exact fin _ _ rfl (.int _) (.int (by omega))
    | 1, _ => exact fin _ _ rfl (.int _) (.int (by omega))
    | 2, _ => exact fin _ _ rfl (.int _) (.int (by omega))
    | 3, _ => exact fin _ _ rfl (.int _) (.int (by omega))
    | 4, _ => exact fin _ _ rfl (.int _) (.int (by show 10 ^ 30 ≤ 10 ^ 30 + 9 * (k + 1); omega))
    | 5, _ => exact fin _ _ rfl (.bl _) (.bl)
theorem bs1 (B : Blt mg) (T : Known P w K mg base CX0 2 "_law_take" fT fdT ["_law_pot_here", "_law_far"] spTake) (hr : Room 3 (XB P w K mg base f cdv A outer s H0 E0').A) :
    ∃ t, PS (XB P w K mg base f cdv A outer s H0 E0') (bst 1) t ∧ ∀ (D : Ends) (H : Hp) (p : Addr) (v : V) (d : PyData) (k lv : Nat) (v2 v3 v4 : Option V), k ≤ 1 → PotAt H p → Dq H p v d → (∀ x, d = .str x → Asc k x) → Made p H (k + 1) lv D.rt →
      (∀ H', Sam p H H' → PotAt H' p → D.nx [some (.ref p), some v, v2, v3, v4] H') → t D [some (.ref p), some v, v2, v3, v4] H := by
  have hr2 := hr.mono (show 2 ≤ 3 by decide)
  refine ⟨_, ps_if (PW.pt (pw_and (pt_val (pe_isiT (n := "str") (pv 1) (by rfl) B.isi (by rfl) B.str (by decide +kernel))) (pw_and1 (pt_cmpR op_gt (pe_call T.G hr2 (by rfl) T.m T.k T.b .nil pass0 (pa_cons (pv 0) (pa_cons pe_int pa_nil))) pe_int (nomark _)))))
    (pss_one (ps_ret (pe_ix ix_list (pe_lst (pa_cons (pe_op op_add_str (pv 1) pe_str) (pa_cons (pe_slice sl_str (pv 1) po_none (po_some (pe_un un_neg pe_int))) (pa_cons (pe_upper (pv 1)) (pa_cons (pe_op op_add_str (pv 1) pe_str) (pa_cons pe_str (pa_cons pe_str pa_nil))))))) (pe_call T.G hr2 (by rfl) T.m T.k T.b .nil pass0 (pa_cons (pv 0) (pa_cons pe_int pa_nil))) (fun _ _ => rfl)))) pss_nil, ?_⟩
  intro D H p v d k lv v2 v3 v4 hk hp hd hi hR hN
  refine ⟨_, rfl, _, _, _, _, _, rfl, hd.ty, rfl, kit_str d, _, rfl, ?_⟩
  cases hd with
  | non => exact iteF (iteF (hN H Sam.refl hp))
  | bl b => exact iteF (iteF (hN H Sam.refl hp))
  | int x => exact iteF (iteF (hN H Sam.refl hp))
  | lst _ _ _ _ => exact iteF (iteF (hN H Sam.refl hp))
  | tup _ _ => exact iteF (iteF (hN H Sam.refl hp))
  | dct _ => exact iteF (iteF (hN H Sam.refl hp))
  | str x =>
    obtain ⟨n0, hp0⟩ := id hp
    refine iteT ⟨_, rfl, p, n0, 3, rfl, hp0, by decide, by decide, _, _, rfl, rfl, _, rfl, ?_⟩
    refine ite2 (fun _ => ?_) (fun _ => hN _ Sam.upd ⟨_, upd_same⟩)
    have hx := hi x rfl
    have hl100 : x.length ≤ 100 := by have := hx.1; omega
    have hs : (1000000 : Nat) ≤ sizeLine := by rw [sizeLine_eq]; decide
    have e1 : (("a" : Str)).length = 1 := rfl
    have e2 : ((" " : Str)).length = 1 := rfl
    refine ⟨_, rfl, _, _, rfl, rfl, by rw [e1]; omega, _, rfl, _, rfl, _, rfl, _, rfl, by omega, _, rfl, ⟨_, rfl⟩, _, rfl, rfl, by omega, _, rfl, _, _, rfl, rfl, by rw [e2]; omega, by show 6 ≤ sizeLine; decide, fun l hl => ?_⟩
    have hpl : p ≠ l := ne_of_none (o := .lst [.int (n0 / 3)]) upd_same hl
    obtain ⟨j, hj, ej⟩ := mod_nat (n := n0 / 3) (m := 6) (by decide)
    refine ⟨_, rfl, p, n0 / 3, 6, rfl, by rw [upd_ne hpl, upd_same], by decide, by decide, ?_⟩
    have hlb : (bentS x).length = 6 := rfl
    have el : [V.str (x ++ "a"), .str (cutS x none (some (-1))), .str (Txt.upper x), .str (x ++ " "), .str "self", .str "joined"] = (bentS x).map V.str := rfl
    have Sx : Sam p H (upd (upd (upd H p (.lst [.int (n0 / 3)])) l (.lst ((bentS x).map V.str))) p (.lst [.int (n0 / 3 / 6)])) := (Sam.upd.over (by
      have := hl
      rw [upd_ne (Ne.symm hpl)] at this
      exact this)).trans Sam.upd
    refine ⟨l, (bentS x).map V.str, _, .str ((bentS x)[j]'(by omega)), rfl, rfl, SqL.of (by rw [upd_ne (Ne.symm hpl), upd_same]; rfl), ?_, ?_⟩
    · rw [show (n0 / 3 % 6 : Int) = (j : Int) from ej]
      refine atI_nat ?_
      rw [List.getElem?_map, List.getElem?_eq_getElem (by omega)]
      rfl
    · exact hR _ _ _ Sx ⟨_, upd_same⟩ (.str _) (.str (bent_in hx (List.getElem_mem _)))
theorem bs2 (B : Blt mg) (O : Known P w K mg base CX0 3 "_law_odd" fO fdO ["_law_pot_here"] spOdd) (hr : Room 3 (XB P w K mg base f cdv A outer s H0 E0').A) :
    ∃ t, PS (XB P w K mg base f cdv A outer s H0 E0') (bst 2) t ∧ ∀ (D : Ends) (H : Hp) (p : Addr) (v : V) (d : PyData) (k n lv : Nat) (v3 v4 : Option V), PotAt H p → Dq H p v d → Made p H (k + 1) (lv + 2) D.rt →
      (∀ (t : Addr) (xs : List V) (ds : List PyData) (H' : Hp), v = .ref t → d = .tuple ds → n ≠ 0 → ds ≠ [] → Sam p H H' → PotAt H' p → H' t = some (.tup xs) → DqAll H' p xs ds → D.nx [some (.ref p), some v, some (nV n), v3, v4] H') → t D [some (.ref p), some v, some (nV n), v3, v4] H := by
  refine ⟨_, ps_if (PW.pt (pw_or (pt_not (pt_val (pe_isiT (n := "tuple") (pv 1) (by rfl) B.isi (by rfl) B.tuple (by decide +kernel)))) (pw_or (pt_cmpR (op_eqNil hr.units0) (pv 1) (pe_tup pa_nil) (nomark _)) (pw_or1 (pt_cmpR op_eq (pv 2) pe_int (nomark _))))))
    (pss_one (ps_ret (pe_call O.G hr (by rfl) O.m O.k O.b .nil pass0 (pa_cons (pv 0) pa_nil)))) pss_nil, ?_⟩
  intro D H p v d k n lv v3 v4 hp hd hR hN
  have odd : ∀ H1, Sam p H H1 → PotAt H1 p → ∃ v, ([some (V.ref p), some v, some (nV n), v3, v4] : St)[0]? = some (some v) := fun _ _ _ => ⟨.ref p, rfl⟩
  have od : ∀ H1, Sam p H H1 → PotAt H1 p → spOdd [.ref p] H1 D.rt E0 := fun H1 S1 hp1 => ⟨p, rfl, hp1, fun v' d' H' S' hp' D' ho => hR v' d' H' (S1.trans S') hp' D' (odd_th ho)⟩
  refine ⟨_, rfl, _, _, _, _, _, rfl, hd.ty, rfl, kit_tuple d, _, rfl, ?_⟩
  cases hd with
  | non => exact iteT (iteT ⟨_, rfl, od H Sam.refl hp⟩)
  | bl b => exact iteT (iteT ⟨_, rfl, od H Sam.refl hp⟩)
  | int x => exact iteT (iteT ⟨_, rfl, od H Sam.refl hp⟩)
  | str x => exact iteT (iteT ⟨_, rfl, od H Sam.refl hp⟩)
  | lst _ _ _ _ => exact iteT (iteT ⟨_, rfl, od H Sam.refl hp⟩)
  | dct _ => exact iteT (iteT ⟨_, rfl, od H Sam.refl hp⟩)
  | @tup t xs ds ht hds =>
    refine iteF ⟨_, rfl, Nat.zero_le _, fun e he => ?_⟩
    have S1 : Same H (upd H e (.tup [])) := same_new he
    have hp1 := hp.same S1
    refine ⟨t, e, xs, rfl, rfl, S1 _ _ ht, upd_same, _, rfl, ?_⟩
    cases hds with
    | nil => exact iteT (iteT ⟨_, rfl, od _ (Sam.of S1) hp1⟩)
    | @cons v1 vs1 d1 ds1 r t1 =>
      refine iteF ⟨_, rfl, rfl, _, rfl, ?_⟩
      by_cases hn : n = 0
      · subst hn
        exact iteT ⟨_, rfl, od _ (Sam.of S1) hp1⟩
      · rw [decide_eq_false (show ¬ (nV n = V.int 0) by intro z; injection z; omega)]
        exact iteF (hN t _ _ _ rfl rfl hn (by simp) (Sam.of S1) hp1 (S1 _ _ ht) (DqAll.still (still_same hp S1) _ _ (.cons r t1)))
theorem bs3 (B : Blt mg) (T : Known P w K mg base CX0 2 "_law_take" fT fdT ["_law_pot_here", "_law_far"] spTake) (hr : Room 3 (XB P w K mg base f cdv A outer s H0 E0').A) :
    ∃ t, PS (XB P w K mg base f cdv A outer s H0 E0') (bst 3) t ∧ ∀ (D : Ends) (H : Hp) (p t' : Addr) (xs : List V) (v2 v3 v4 : Option V), PotAt H p → H t' = some (.tup xs) → xs ≠ [] → xs.length ≤ 90 →
      (∀ (i wy : Nat) (H' : Hp), i < xs.length → Sam p H H' → PotAt H' p → D.nx [some (.ref p), some (.ref t'), v2, some (nV i), some (nV wy)] H') → t D [some (.ref p), some (.ref t'), v2, v3, v4] H := by
  have hr2 := hr.mono (show 2 ≤ 3 by decide)
  refine ⟨_, ps_par (i := 3) (j := 4) (by rfl) scBn.nd rfl rfl (by decide) rfl rfl (pa_cons (pe_call T.G hr2 (by rfl) T.m T.k T.b .nil pass0 (pa_cons (pv 0) (pa_cons (pe_callB call_len_seq (by rfl) B.len PySem.boot_len (pa_cons (pv 1) pa_nil)) pa_nil))) (pa_cons (pe_call T.G hr2 (by rfl) T.m T.k T.b .nil pass0 (pa_cons (pv 0) (pa_cons pe_int pa_nil))) pa_nil)) (by rfl), ?_⟩
  intro D H p t' xs v2 v3 v4 hp ht hne hle hN
  obtain ⟨n0, hp0⟩ := id hp
  have hpos : 0 < xs.length := List.length_pos_iff.mpr hne
  obtain ⟨i, hi, ei⟩ := mod_nat (n := n0) (m := xs.length) hpos
  obtain ⟨wy, hw, ew⟩ := mod_nat (n := n0 / (xs.length : Int)) (m := 10) (by decide)
  refine ⟨_, rfl, _, rfl, t', _, rfl, .inr (SqT.of ht), p, n0, _, rfl, hp0, by omega, ?_, _, rfl, p, _, 10, rfl, upd_same, by decide, by decide, _, _, rfl, ?_⟩
  · have e : ((xs.length : Nat) : Int).natAbs = xs.length := by omega
    rw [e]
    exact Nat.lt_of_le_of_lt (Nat.log2_le_self _) (by omega)
  · rw [ei, show (n0 / (xs.length : Int) % 10 : Int) = (wy : Int) from ew]
    exact hN i wy _ hi (Sam.upd.trans Sam.upd) ⟨_, upd_same⟩
end
end K1


set_option Elab.async false
set_option linter.all false
set_option maxRecDepth 100000
set_option maxHeartbeats 1600000
namespace K1
open PySem L2 LN
/-- the state in which a tuple is bent -/
structure BSt (p t : Addr) (H : Hp) (k m : Nat) (xs : List V) (ds : List PyData) (i : Nat) (R : VK) : Prop where
  hk : k ≤ 1
  pot : PotAt H p
  ht : H t = some (.tup xs)
  hd : DqAll H p xs ds
  hi : i < ds.length
  hl : ds.length ≤ 20 + k
  ha : ∀ e ∈ ds, Th k (m + 2) e
  hR : Made p H (k + 1) (m + 3) R
theorem tup_keep {p t : Addr} {H H' : Hp} {xs : List V} (hp : PotAt H p) (S : Sam p H H') (h : H t = some (.tup xs)) : H' t = some (.tup xs) := by
  obtain ⟨n, hp⟩ := hp
  exact S _ _ h (ne_lst hp h)
section
variable {P : Program} {w : World} {K : PySem.W.Frag} {mg : Str → Option Value} {base : Heap}
variable {f : Addr} {cdv : Value} {A : Around} {outer : List Env} {s : Shared} {H0 : Hp} {E0' : XK} {fT fW fO fN : Addr} {fdT fdW fdO fdN : FuncData}
theorem zz {n : Nat} (h : n ≤ 1000) : n ≤ sizeLine := Nat.le_of_lt (small1000 h)
theorem way_if {n : Nat} {c : Int} {A B : Prop} (h1 : A) (h2 : B) : if decide (nV n = V.int c) = true then A else B := ite2 (fun _ => h1) (fun _ => h2)
/-- one thing put in between the first i and those from j on -/
theorem put_one {p t : Addr} {H H1 : Hp} {k m : Nat} {xs : List V} {ds : List PyData} {i j : Nat} {R : VK} {v : V} {d : PyData} (b : BSt p t H k m xs ds i R) (S1 : Sam p H H1) (hp1 : PotAt H1 p) (hv : Dq H1 p v d) (ha : Th (k + 1) (m + 2) d) (hj : j ≤ ds.length) (hij : i ≤ j) {q : Addr}
    (hq : H1 q = some (.tup (xs.take i ++ [v] ++ xs.drop j))) : R (.ref q) H1 := by
  have hD := DqAll.still (still_sam b.pot S1) ds _ b.hd
  refine b.hR (.ref q) (.tuple (ds.take i ++ [d] ++ ds.drop j)) H1 S1 hp1 (.tup hq (((hD.take i).append (.cons hv .nil)).append (hD.drop j))) (th_tup ?_ fun e he => ?_)
  · have := b.hl
    rw [List.length_append, List.length_append, List.length_take, List.length_drop, List.length_singleton]
    omega
  · rcases List.mem_append.mp he with z | z
    · rcases List.mem_append.mp z with z | z
      · exact (b.ha e (List.mem_of_mem_take z)).up
      · rw [List.mem_singleton.mp z]; exact ha
    · exact (b.ha e (List.mem_of_mem_drop z)).up
theorem bs4 (O : Known P w K mg base CX0 3 "_law_odd" fO fdO ["_law_pot_here"] spOdd) (hr : Room 3 (XB P w K mg base f cdv A outer s H0 E0').A) :
    ∃ t, PS (XB P w K mg base f cdv A outer s H0 E0') (bst 4) t ∧ ∀ (D : Ends) (H : Hp) (p t' : Addr) (k m : Nat) (xs : List V) (ds : List PyData) (i wy : Nat) (v2 : Option V), BSt p t' H k m xs ds i D.rt →
      D.nx [some (.ref p), some (.ref t'), v2, some (nV i), some (nV wy)] H → t D [some (.ref p), some (.ref t'), v2, some (nV i), some (nV wy)] H := by
  refine ⟨_, ps_if (pt_cmpR op_eq (pv 4) pe_int (nomark _)) (pss_one (ps_ret (pe_op op_catW (pe_op op_catW (pe_slice sl_tupW (pv 1) po_none (po_some (pv 3))) (pe_tup (pa_cons (pe_call O.G hr (by rfl) O.m O.k O.b .nil pass0 (pa_cons (pv 0) pa_nil)) pa_nil))) (pe_slice sl_tupW (pv 1) (po_some (pv 3)) po_none)))) pss_nil, ?_⟩
  intro D H p t' k m xs ds i wy v2 b hN
  have hlen := b.hd.length
  have hi := b.hi
  have hl := b.hl
  have hk := b.hk
  refine ⟨_, rfl, rfl, _, rfl, way_if ?_ hN⟩
  refine ⟨_, rfl, _, rfl, _, rfl, t', _, rfl, b.ht, fun p1 H1 S1 hp1 => ?_⟩
  rw [cutV_pre (by omega)] at hp1
  have hpot1 := b.pot.same S1
  refine ⟨_, rfl, p, rfl, hpot1, fun v d H2 S2 hp2 D2 ho => ⟨by show 1 ≤ sizeLine; decide, fun q hq => ?_⟩⟩
  have S02 : Sam p H H2 := (Sam.of S1).trans S2
  refine ⟨p1, q, _, _, rfl, rfl, same_new hq _ _ (tup_keep hpot1 S2 hp1), upd_same, zz (by rw [List.length_take]; show min i xs.length + 1 ≤ 1000; omega), fun p3 H3 S3 hp3 => ?_⟩
  have S23 : Same H2 H3 := (same_new hq).trans S3
  have S03 : Sam p H H3 := S02.trans (Sam.of S23)
  refine ⟨_, rfl, _, rfl, _, rfl, t', _, rfl, tup_keep b.pot S03 b.ht, fun p4 H4 S4 hp4 => ?_⟩
  rw [cutV_suf (by omega)] at hp4
  refine ⟨p3, p4, _, _, rfl, rfl, S4 _ _ hp3, hp4, zz (by rw [List.length_append, List.length_take, List.length_drop]; show min i xs.length + 1 + (xs.length - i) ≤ 1000; omega), fun p5 H5 S5 hp5 => ?_⟩
  have S25 : Same H2 H5 := (S23.trans S4).trans S5
  exact put_one b (S02.trans (Sam.of S25)) (hp2.same S25) (Dq.still (still_same hp2 S25) d _ D2) (odd_th ho) (Nat.le_of_lt hi) (Nat.le_refl _) hp5
theorem bs5 (hr : Room 3 (XB P w K mg base f cdv A outer s H0 E0').A) :
    ∃ t, PS (XB P w K mg base f cdv A outer s H0 E0') (bst 5) t ∧ ∀ (D : Ends) (H : Hp) (p t' : Addr) (k m : Nat) (xs : List V) (ds : List PyData) (i wy : Nat) (v2 : Option V), BSt p t' H k m xs ds i D.rt →
      D.nx [some (.ref p), some (.ref t'), v2, some (nV i), some (nV wy)] H → t D [some (.ref p), some (.ref t'), v2, some (nV i), some (nV wy)] H := by
  refine ⟨_, ps_if (pt_cmpR op_eq (pv 4) pe_int (nomark _)) (pss_one (ps_ret (pe_op op_catW (pe_slice sl_tupW (pv 1) po_none (po_some (pv 3))) (pe_slice sl_tupW (pv 1) (po_some (pe_op op_add (pv 3) pe_int)) po_none)))) pss_nil, ?_⟩
  intro D H p t' k m xs ds i wy v2 b hN
  have hlen := b.hd.length
  have hi := b.hi
  have hl := b.hl
  have hk := b.hk
  refine ⟨_, rfl, rfl, _, rfl, way_if ?_ hN⟩
  refine ⟨_, rfl, _, rfl, _, rfl, t', _, rfl, b.ht, fun p1 H1 S1 hp1 => ?_⟩
  rw [cutV_pre (by omega)] at hp1
  refine ⟨_, rfl, _, rfl, _, _, rfl, rfl, _, rfl, t', _, rfl, S1 _ _ b.ht, fun p4 H4 S4 hp4 => ?_⟩
  rw [show ((i : Nat) : Int) + 1 = ((i + 1 : Nat) : Int) by omega, cutV_suf (by omega)] at hp4
  refine ⟨p1, p4, _, _, rfl, rfl, S4 _ _ hp1, hp4, zz (by rw [List.length_take, List.length_drop]; omega), fun p5 H5 S5 hp5 => ?_⟩
  have S05 : Same H H5 := (S1.trans S4).trans S5
  have hD := DqAll.still (still_same b.pot S05) ds _ b.hd
  refine b.hR (.ref p5) (.tuple (ds.take i ++ ds.drop (i + 1))) H5 (Sam.of S05) (b.pot.same S05) (.tup hp5 ((hD.take i).append (hD.drop (i + 1)))) (th_tup ?_ fun e he => ?_)
  · rw [List.length_append, List.length_take, List.length_drop]
    omega
  · rcases List.mem_append.mp he with z | z
    · exact (b.ha e (List.mem_of_mem_take z)).up
    · exact (b.ha e (List.mem_of_mem_drop z)).up
theorem bs6 (hr : Room 3 (XB P w K mg base f cdv A outer s H0 E0').A) :
    ∃ t, PS (XB P w K mg base f cdv A outer s H0 E0') (bst 6) t ∧ ∀ (D : Ends) (H : Hp) (p t' : Addr) (k m : Nat) (xs : List V) (ds : List PyData) (i wy : Nat) (v2 : Option V), BSt p t' H k m xs ds i D.rt →
      D.nx [some (.ref p), some (.ref t'), v2, some (nV i), some (nV wy)] H → t D [some (.ref p), some (.ref t'), v2, some (nV i), some (nV wy)] H := by
  refine ⟨_, ps_if (pt_cmpR op_eq (pv 4) pe_int (nomark _)) (pss_one (ps_ret (pe_op op_catW (pe_op op_catW (pe_slice sl_tupW (pv 1) po_none (po_some (pv 3))) (pe_slice sl_tupW (pv 1) (po_some (pv 3)) (po_some (pe_op op_add (pv 3) pe_int)))) (pe_slice sl_tupW (pv 1) (po_some (pv 3)) po_none)))) pss_nil, ?_⟩
  intro D H p t' k m xs ds i wy v2 b hN
  have hlen := b.hd.length
  have hi := b.hi
  have hl := b.hl
  have hk := b.hk
  refine ⟨_, rfl, rfl, _, rfl, way_if ?_ hN⟩
  refine ⟨_, rfl, _, rfl, _, rfl, t', _, rfl, b.ht, fun p1 H1 S1 hp1 => ?_⟩
  rw [cutV_pre (by omega)] at hp1
  refine ⟨_, rfl, _, rfl, _, rfl, _, rfl, _, _, rfl, rfl, _, rfl, t', _, rfl, S1 _ _ b.ht, fun p2 H2 S2 hp2 => ?_⟩
  rw [show ((i : Nat) : Int) + 1 = ((i + 1 : Nat) : Int) by omega, cutV_mid (Nat.le_succ i) (by omega)] at hp2
  refine ⟨p1, p2, _, _, rfl, rfl, S2 _ _ hp1, hp2, zz (by rw [List.length_take, List.length_take, List.length_drop]; omega), fun p3 H3 S3 hp3 => ?_⟩
  have S03 : Same H H3 := (S1.trans S2).trans S3
  refine ⟨_, rfl, _, rfl, _, rfl, t', _, rfl, S03 _ _ b.ht, fun p4 H4 S4 hp4 => ?_⟩
  rw [cutV_suf (by omega)] at hp4
  refine ⟨p3, p4, _, _, rfl, rfl, S4 _ _ hp3, hp4, zz (by rw [List.length_append, List.length_take, List.length_take, List.length_drop]; omega), fun p5 H5 S5 hp5 => ?_⟩
  have S05 : Same H H5 := (S03.trans S4).trans S5
  have hD := DqAll.still (still_same b.pot S05) ds _ b.hd
  refine b.hR (.ref p5) (.tuple (ds.take i ++ (ds.drop i).take (i + 1 - i) ++ ds.drop i)) H5 (Sam.of S05) (b.pot.same S05) (.tup hp5 (((hD.take i).append ((hD.drop i).take _)).append (hD.drop i))) (th_tup ?_ fun e he => ?_)
  · rw [List.length_append, List.length_append, List.length_take, List.length_take, List.length_drop]
    omega
  · rcases List.mem_append.mp he with z | z
    · rcases List.mem_append.mp z with z | z
      · exact (b.ha e (List.mem_of_mem_take z)).up
      · exact (b.ha e (List.mem_of_mem_drop (List.mem_of_mem_take z))).up
    · exact (b.ha e (List.mem_of_mem_drop z)).up
theorem bs7 (hL : mg "list" = none) (T : Known P w K mg base CX0 2 "_law_take" fT fdT ["_law_pot_here", "_law_far"] spTake) (hr : Room 3 (XB P w K mg base f cdv A outer s H0 E0').A) :
    ∃ t, PS (XB P w K mg base f cdv A outer s H0 E0') (bst 7) t ∧ ∀ (D : Ends) (H : Hp) (p t' : Addr) (k m : Nat) (xs : List V) (ds : List PyData) (i wy : Nat) (v2 : Option V), BSt p t' H k m xs ds i D.rt →
      D.nx [some (.ref p), some (.ref t'), v2, some (nV i), some (nV wy)] H → t D [some (.ref p), some (.ref t'), v2, some (nV i), some (nV wy)] H := by
  have hr2 := hr.mono (show 2 ≤ 3 by decide)
  refine ⟨_, ps_if (pt_cmpR op_eq (pv 4) pe_int (nomark _)) (pss_one (ps_ret (pe_ix ix_list (pe_lst (pa_cons (pe_callTy call_list_ofN (by rfl) hL (by decide +kernel) (pa_cons (pv 1) pa_nil)) (pa_cons (pe_revT (pv 1) (pe_un un_neg pe_int)) pa_nil))) (pe_call T.G hr2 (by rfl) T.m T.k T.b .nil pass0 (pa_cons (pv 0) (pa_cons pe_int pa_nil))) (fun _ _ => rfl)))) pss_nil, ?_⟩
  intro D H p t' k m xs ds i wy v2 b hN
  have hlen := b.hd.length
  have hi := b.hi
  have hl := b.hl
  have hk := b.hk
  refine ⟨_, rfl, rfl, _, rfl, way_if ?_ hN⟩
  refine ⟨_, rfl, t', _, rfl, .inr (SqT.of b.ht), fun l hl' hm => ?_⟩
  have S1 : Same H (upd H l (.lst xs)) := same_new hl'
  refine ⟨_, rfl, _, rfl, t', xs, rfl, rfl, S1 _ _ b.ht, fun q hq => ⟨by show 2 ≤ sizeLine; decide, fun g hg => ?_⟩⟩
  have S3 : Same H (upd (upd (upd H l (.lst xs)) q (.tup xs.reverse)) g (.lst [.ref l, .ref q])) := (S1.trans (same_new hq)).trans (same_new hg)
  obtain ⟨n3, hp3⟩ := b.pot.same S3
  have hpg : p ≠ g := by
    obtain ⟨n, z⟩ := b.pot.same (S1.trans (same_new (o := .tup xs.reverse) hq))
    exact ne_of_none z hg
  obtain ⟨n0, hp0⟩ := id b.pot
  have hpl : p ≠ l := ne_of_none hp0 hl'
  have hlq : l ≠ q := ne_of_none (o := .lst xs) upd_same hq
  have hlg : l ≠ g := ne_of_none (o := .lst xs) (by rw [upd_ne hlq, upd_same]) hg
  have hqg : q ≠ g := ne_of_none (o := .tup xs.reverse) upd_same hg
  obtain ⟨j, hj, ej⟩ := mod_nat (n := n3) (m := 2) (by decide)
  refine ⟨_, rfl, p, n3, 2, rfl, hp3, by decide, by decide, ?_⟩
  have S4 : Sam p H (upd (upd (upd (upd H l (.lst xs)) q (.tup xs.reverse)) g (.lst [.ref l, .ref q])) p (.lst [.int (n3 / 2)])) := (Sam.of S3).trans Sam.upd
  have hD := DqAll.still (still_sam b.pot S4) ds _ b.hd
  have fin : ∀ (v' : V) (d' : PyData), ([V.ref l, V.ref q] : List V)[j]? = some v' → Dq (upd (upd (upd (upd H l (.lst xs)) q (.tup xs.reverse)) g (.lst [.ref l, .ref q])) p (.lst [.int (n3 / 2)])) p v' d' → Th (k + 1) (m + 3) d' →
      ∃ p' ys i' v'', V.ref g = .ref p' ∧ V.int (n3 % 2) = .int i' ∧ SqL K (upd (upd (upd (upd H l (.lst xs)) q (.tup xs.reverse)) g (.lst [.ref l, .ref q])) p (.lst [.int (n3 / 2)])) p' ys ∧ atI ys i' = some v'' ∧ D.rt v'' (upd (upd (upd (upd H l (.lst xs)) q (.tup xs.reverse)) g (.lst [.ref l, .ref q])) p (.lst [.int (n3 / 2)])) := by
    intro v' d' hv hd' ha'
    refine ⟨g, _, _, v', rfl, rfl, SqL.of (by rw [upd_ne (Ne.symm hpg), upd_same]), ?_, b.hR v' d' _ S4 ⟨_, upd_same⟩ hd' ha'⟩
    rw [show (n3 % 2 : Int) = (j : Int) from ej]
    exact atI_nat hv
  match j, hj with
  | 0, _ =>
    refine fin _ (.list ds) rfl (.lst (by rw [upd_ne (Ne.symm hpl), upd_ne hlg, upd_ne hlq, upd_same]) (Ne.symm hpl) hm hD) (th_lst (by omega) fun e he => (b.ha e he).up)
  | 1, _ =>
    have hpq : q ≠ p := by
      obtain ⟨n, z⟩ := b.pot.same S1
      exact Ne.symm (ne_of_none z hq)
    refine fin _ (.tuple ds.reverse) rfl (.tup (by rw [upd_ne hpq, upd_ne hqg, upd_same]) hD.reverse) (th_tup (by rw [List.length_reverse]; omega) fun e he => (b.ha e (List.mem_reverse.mp he)).up)
end
end K1


set_option Elab.async false
set_option linter.all false
set_option maxRecDepth 100000
set_option maxHeartbeats 1600000
namespace K1
open PySem L2 LN
theorem deep_one {m : Nat} : V.int (((m + 1 : Nat) : Int) - 1) = nV m := by
  show V.int _ = V.int _
  rw [show (((m + 1 : Nat) : Int) - 1) = (m : Int) by omega]
section
variable {P : Program} {w : World} {K : PySem.W.Frag} {mg : Str → Option Value} {base : Heap}
variable {f : Addr} {cdv : Value} {A : Around} {outer : List Env} {s : Shared} {H0 : Hp} {E0' : XK} {fT fW fO fN : Addr} {fdT fdW fdO fdN : FuncData}
theorem bs8 {m L : Nat} (N : Known P w K mg base CX0 L "_law_bent" fN fdN ["_law_pot_here", "_law_thing", "_law_deep"] (spBent m)) (hr : Room L (XB P w K mg base f cdv A outer s H0 E0').A) :
    ∃ t, PS (XB P w K mg base f cdv A outer s H0 E0') (bst 8) t ∧ ∀ (D : Ends) (H : Hp) (p t' : Addr) (k : Nat) (xs : List V) (ds : List PyData) (i wy : Nat), BSt p t' H k m xs ds i D.rt →
      t D [some (.ref p), some (.ref t'), some (nV (m + 1)), some (nV i), some (nV wy)] H := by
  refine ⟨_, ps_ret (pe_op op_catW (pe_op op_catW (pe_slice sl_tupW (pv 1) po_none (po_some (pv 3))) (pe_tup (pa_cons (pe_call N.G hr (by rfl) N.m N.k N.b .nil pass0 (pa_cons (pv 0) (pa_cons (pe_ix ix_tup (pv 1) (pv 3) (fun _ _ => rfl)) (pa_cons (pe_op op_sub (pv 2) pe_int) pa_nil)))) pa_nil))) (pe_slice sl_tupW (pv 1) (po_some (pe_op op_add (pv 3) pe_int)) po_none)), ?_⟩
  intro D H p t' k xs ds i wy b
  have hlen := b.hd.length
  have hi := b.hi
  have hl := b.hl
  have hk := b.hk
  refine ⟨_, rfl, _, rfl, _, rfl, t', _, rfl, b.ht, fun p1 H1 S1 hp1 => ?_⟩
  rw [cutV_pre (by omega)] at hp1
  have hpot1 := b.pot.same S1
  have hdi : ds[i]? = some ds[i] := List.getElem?_eq_getElem hi
  obtain ⟨v, hv, hd⟩ := b.hd.get hdi
  refine ⟨_, rfl, _, rfl, _, rfl, t', _, _, v, rfl, rfl, SqT.of (S1 _ _ b.ht), atI_nat hv, _, rfl, _, _, rfl, rfl, p, v, ds[i], k, by show [V.ref p, v, V.int (((m + 1 : Nat) : Int) - 1)] = _; rw [deep_one], hk, hpot1, Dq.still (still_same b.pot S1) _ _ hd, b.ha _ (List.getElem_mem hi), ?_⟩
  intro v' d H2 S2 hp2 D2 ho
  refine ⟨by show 1 ≤ sizeLine; decide, fun q hq => ?_⟩
  have S02 : Sam p H H2 := (Sam.of S1).trans S2
  refine ⟨p1, q, _, _, rfl, rfl, same_new hq _ _ (tup_keep hpot1 S2 hp1), upd_same, zz (by rw [List.length_take]; show min i xs.length + 1 ≤ 1000; omega), fun p3 H3 S3 hp3 => ?_⟩
  have S23 : Same H2 H3 := (same_new hq).trans S3
  have S03 : Sam p H H3 := S02.trans (Sam.of S23)
  refine ⟨_, rfl, _, rfl, _, _, rfl, rfl, _, rfl, t', _, rfl, tup_keep b.pot S03 b.ht, fun p4 H4 S4 hp4 => ?_⟩
  rw [show ((i : Nat) : Int) + 1 = ((i + 1 : Nat) : Int) by omega, cutV_suf (by omega)] at hp4
  refine ⟨p3, p4, _, _, rfl, rfl, S4 _ _ hp3, hp4, zz (by rw [List.length_append, List.length_take, List.length_drop]; show min i xs.length + 1 + (xs.length - (i + 1)) ≤ 1000; omega), fun p5 H5 S5 hp5 => ?_⟩
  have S25 : Same H2 H5 := (S23.trans S4).trans S5
  exact put_one b (S02.trans (Sam.of S25)) (hp2.same S25) (Dq.still (still_same hp2 S25) d _ D2) ho hi (Nat.le_succ i) hp5
theorem ok_bent0 {fd : FuncData} (F : Fun K "_law_bent" "_law_bent" sBent f fd) (B : Blt mg) (T : Known P w K mg base CX0 2 "_law_take" fT fdT ["_law_pot_here", "_law_far"] spTake) (W : Known P w K mg base CX0 2 "_law_whole" fW fdW ["_law_thing"] (spWhole K)) (O : Known P w K mg base CX0 3 "_law_odd" fO fdO ["_law_pot_here"] spOdd) :
    FnOk P w K mg base CX0 4 f fd ["_law_pot_here", "_law_thing", "_law_deep"] (spBent 0) := by
  refine F.ok scBn (fun vs H Q E h => ?_) (fun cdv A outer s H vs Q E hr h => ?_)
  · obtain ⟨_, _, _, _, rfl, _⟩ := h
    rfl
  · obtain ⟨p, v, d, k, rfl, hk, hp, hd, h⟩ := h
    obtain ⟨t0, p0, r0⟩ := bs0 (f := f) (cdv := cdv) (A := A) (outer := outer) (s := s) (H0 := H) (E0' := E) T W hr
    obtain ⟨t1, p1, r1⟩ := bs1 (f := f) (cdv := cdv) (A := A) (outer := outer) (s := s) (H0 := H) (E0' := E) B T hr
    obtain ⟨t2, p2, r2⟩ := bs2 (f := f) (cdv := cdv) (A := A) (outer := outer) (s := s) (H0 := H) (E0' := E) B O hr
    refine ⟨_, pss_of bB_eq (pss_cons p0 (pss_cons p1 (pss_cons p2 pss_never))), ?_⟩
    clear p0 p1 p2
    obtain ⟨ha, q⟩ := h
    · refine r0 _ H p v d k _ _ _ _ hp hd ha.ints q fun H1 S1 hp1 => ?_
      refine r1 _ H1 p v d k _ _ _ _ hk hp1 (Dq.still (still_sam hp S1) d _ hd) ha.strs_ (q.sam S1) fun H2 S2 hp2 => ?_
      have S02 := S1.trans S2
      exact r2 _ H2 p v d k 0 _ _ _ hp2 (Dq.still (still_sam hp S02) d _ hd) (q.sam S02) fun t xs ds H' _ _ z => absurd rfl z
theorem ok_bent1 {fd : FuncData} (F : Fun K "_law_bent" "_law_bent" sBent f fd) (B : Blt mg) (hL : mg "list" = none) (T : Known P w K mg base CX0 2 "_law_take" fT fdT ["_law_pot_here", "_law_far"] spTake) (W : Known P w K mg base CX0 2 "_law_whole" fW fdW ["_law_thing"] (spWhole K)) (O : Known P w K mg base CX0 3 "_law_odd" fO fdO ["_law_pot_here"] spOdd)
    {m L : Nat} (hL2 : 2 ≤ L) (N : Known P w K mg base CX0 (L + 1) "_law_bent" fN fdN ["_law_pot_here", "_law_thing", "_law_deep"] (spBent m)) : FnOk P w K mg base CX0 (L + 2) f fd ["_law_pot_here", "_law_thing", "_law_deep"] (spBent (m + 1)) := by
  refine F.ok scBn (fun vs H Q E h => ?_) (fun cdv A outer s H vs Q E hr h => ?_)
  · obtain ⟨_, _, _, _, rfl, _⟩ := h
    rfl
  · obtain ⟨p, v, d, k, rfl, hk, hp, hd, h⟩ := h
    have hr3 := hr.mono (show 3 ≤ L + 1 by omega)
    obtain ⟨t0, p0, r0⟩ := bs0 (f := f) (cdv := cdv) (A := A) (outer := outer) (s := s) (H0 := H) (E0' := E) T W hr3
    obtain ⟨t1, p1, r1⟩ := bs1 (f := f) (cdv := cdv) (A := A) (outer := outer) (s := s) (H0 := H) (E0' := E) B T hr3
    obtain ⟨t2, p2, r2⟩ := bs2 (f := f) (cdv := cdv) (A := A) (outer := outer) (s := s) (H0 := H) (E0' := E) B O hr3
    obtain ⟨t3, p3, r3⟩ := bs3 (f := f) (cdv := cdv) (A := A) (outer := outer) (s := s) (H0 := H) (E0' := E) B T hr3
    obtain ⟨t4, p4, r4⟩ := bs4 (f := f) (cdv := cdv) (A := A) (outer := outer) (s := s) (H0 := H) (E0' := E) O hr3
    obtain ⟨t5, p5, r5⟩ := bs5 (P := P) (w := w) (K := K) (mg := mg) (base := base) (f := f) (cdv := cdv) (A := A) (outer := outer) (s := s) (H0 := H) (E0' := E) hr3
    obtain ⟨t6, p6, r6⟩ := bs6 (P := P) (w := w) (K := K) (mg := mg) (base := base) (f := f) (cdv := cdv) (A := A) (outer := outer) (s := s) (H0 := H) (E0' := E) hr3
    obtain ⟨t7, p7, r7⟩ := bs7 (f := f) (cdv := cdv) (A := A) (outer := outer) (s := s) (H0 := H) (E0' := E) hL T hr3
    obtain ⟨t8, p8, r8⟩ := bs8 (f := f) (cdv := cdv) (A := A) (outer := outer) (s := s) (H0 := H) (E0' := E) N hr
    refine ⟨_, pss_of bB_eq (pss_cons p0 (pss_cons p1 (pss_cons p2 (pss_cons p3 (pss_cons p4 (pss_cons p5 (pss_cons p6 (pss_cons p7 (pss_one p8))))))))), ?_⟩
    clear p0 p1 p2 p3 p4 p5 p6 p7 p8
    obtain ⟨hT, q⟩ := h
    · refine r0 _ H p v d k _ _ _ _ hp hd hT.ints q fun H1 S1 hp1 => ?_
      refine r1 _ H1 p v d k _ _ _ _ hk hp1 (Dq.still (still_sam hp S1) d _ hd) hT.strs_ (q.sam S1) fun H2 S2 hp2 => ?_
      have S02 := S1.trans S2
      refine r2 _ H2 p v d k (m + 1) _ _ _ hp2 (Dq.still (still_sam hp S02) d _ hd) (q.sam S02) fun t xs ds H3 ev ed _ hne S3 hp3 ht hds => ?_
      subst ev ed
      have S03 := S02.trans S3
      obtain ⟨hl, ha⟩ := hT.tp
      have hlen := hds.length
      refine r3 _ H3 p t xs _ _ _ hp3 ht (by intro z; rw [z] at hlen; exact hne (List.length_eq_zero_iff.mp hlen.symm)) (by omega) fun i wy H4 hi S4 hp4 => ?_
      have b : ∀ R : VK, R = Q → BSt p t H4 k m xs ds i R := fun R e => e ▸ ⟨hk, hp4, tup_keep hp3 S4 ht, DqAll.still (still_sam hp3 S4) _ _ hds, by omega, hl, ha, q.sam (S03.trans S4)⟩
      refine r4 _ H4 p t k m xs ds i wy _ (b _ rfl) ?_
      refine r5 _ H4 p t k m xs ds i wy _ (b _ rfl) ?_
      refine r6 _ H4 p t k m xs ds i wy _ (b _ rfl) ?_
      refine r7 _ H4 p t k m xs ds i wy _ (b _ rfl) ?_
      exact r8 _ H4 p t k xs ds i wy (b _ rfl)
end
end K1


set_option Elab.async false
set_option linter.all false
set_option maxRecDepth 100000
set_option maxHeartbeats 1000000
namespace L2
open PySem PySem.Spec PyProof.Rows
section
variable {X : Cx} {e st : Expr} {te ts : TE} {pos p2 : Pos}
theorem fm_mem {c : Array Nat} {l : List Nat} : ∀ x ∈ l.filterMap (c[·]?), x ∈ c.toList := by
  intro x hx
  obtain ⟨i, _, e⟩ := List.mem_filterMap.mp hx
  rw [← Array.getElem?_toList] at e
  exact List.mem_of_getElem? e
/-- t[::-1] of a text -/
def tRevS (te ts : TE) : TE := fun σ H Q => te σ H fun x H1 => ts σ H1 fun y H2 => ∃ z : Str, x = .str z ∧ y = .int (-1) ∧ z.length ≤ 1000 ∧ ∀ z' : Str, z'.length ≤ z.length → (∀ c ∈ z'.cps.toList, c ∈ z.cps.toList) → Q (.str z') H2
theorem pe_revS (he : PE X e te) (hst : PE X st ts) : PE X (.Subscript e (.Slice none none (some st) p2) pos) (tRevS te ts) := by
  intro pins s σ H Q I h
  refine Subscript_ (thn (he pins s σ H _ I h) fun v s1 ⟨x, H1, I1, r1, q1⟩ => ?_)
  refine wpAny_Slice ?_
  rw [evalPart_none]
  refine wpAny_pure ?_
  refine wpAny_pure ?_
  rw [evalPart_some]
  refine thn (hst pins s1 σ H1 _ I1 q1) fun vk s3 ⟨y, H3, I3, r3, z, ex, ey, hz, q3⟩ => ?_
  subst ex ey
  obtain ⟨tk, rfl⟩ := r3
  obtain ⟨t, rfl⟩ := r1
  have I4 : Inv X pins σ H3 { s3 with heap := s3.heap.push { cls := .type "slice", data := .fields #[.none, .none, .int (-1) tk] } } := I3.kept (t' := s3.toks) fun b ob q => Heap.get?_push_of_some _ q
  show wpAny (model X.prog X.w) X.A (subscriptTail e (.Slice none none (some st) p2) (.str z t) (.ref s3.heap.objs.size)) (EP X pins σ Q) X.xe { s3 with heap := s3.heap.push { cls := .type "slice", data := .fields #[.none, .none, .int (-1) tk] } }
  refine tail_any (ops := [.str z t, .ref s3.heap.objs.size]) (typeIs_str _ _ _) F.slot_str_getitem.lookup ?_ (by with_unfolding_all rfl)
  have hzs : z.length ≤ sizeLine := Nat.le_of_lt (small1000 hz)
  refine wpAny_getItem_str_slice (l := none) (u := none) (st := some (-1, tk)) (Heap.IsSliceOf.new ..) rfl ?_
  show Made.post (if ((-1 : Int) == 1 && (Builtin.Str.strSliceIndices none none (-1) z.length).length == z.length) = true then Made.val (.str z t)
    else Made.str ⟨((Builtin.Str.strSliceIndices none none (-1) z.length).filterMap (z.cps[·]?)).toArray⟩) (EP X pins σ Q) _
  rw [if_neg (by rw [show ((-1 : Int) == 1) = false from rfl, Bool.false_and]; exact Bool.false_ne_true)]
  have hl : (⟨((Builtin.Str.strSliceIndices none none (-1) z.length).filterMap (z.cps[·]?)).toArray⟩ : Str).length ≤ z.length := by
    show (List.toArray _).size ≤ _
    rw [List.size_toArray]
    refine Nat.le_trans (List.length_filterMap_le _ _) ?_
    rw [picked_rev, List.length_map, List.length_range]
    exact Nat.le_refl _
  refine ⟨Nat.le_trans hl hzs, .str _, H3, I4.tok _, ⟨_, rfl⟩, q3 _ hl fun c hc => ?_⟩
  exact fm_mem c (by simpa using hc)
theorem fold_app (l : Array Nat) : ∀ (n : Nat) (acc : Array Nat), ((List.replicate n l).foldl (· ++ ·) acc).toList = acc.toList ++ (List.replicate n l.toList).flatten
  | 0, acc => by simp
  | n + 1, acc => by
    rw [List.replicate_succ, List.foldl_cons, fold_app l n, List.replicate_succ, List.flatten_cons, Array.toList_append, List.append_assoc]
/-- t * k of a text -/
def rMulS : R2 := fun x y H Q => ∃ (z : Str) (k : Nat), x = .str z ∧ y = .int (k : Int) ∧ 2 ≤ k ∧ k ≤ 1000 ∧ 1 ≤ z.length ∧ z.length ≤ 1000 ∧ ∀ z' : Str, z'.length = k * z.length → (∀ c ∈ z'.cps.toList, c ∈ z.cps.toList) → Q (.str z') H
theorem op_mulS : OpR X (binaryOp .Mult) rMulS := by
  intro pins s σ H x y v u Q I rx ry h
  obtain ⟨z, k, rfl, rfl, h2, hk, h1, hz, q⟩ := h
  obtain ⟨t, rfl⟩ := rx
  obtain ⟨t', rfl⟩ := ry
  have hm : z.length * k ≤ 1000 * 1000 := Nat.mul_le_mul hz hk
  have hS : (1000000 : Nat) ≤ sizeLine := by rw [sizeLine_eq]; decide
  have hlen : (⟨(List.replicate k z.cps).foldl (· ++ ·) #[]⟩ : Str).length = k * z.length := by
    show (Array.toList _).length = _
    rw [fold_app, List.length_append, List.length_flatten, List.map_replicate, List.sum_replicate_nat]
    show 0 + k * z.length = _
    omega
  have hn1 : ¬ ((k : Int) < 1) := by omega
  have ho : ((k : Int) == 1 || z.length == 0) = false := by
    rw [Bool.or_eq_false_iff]
    exact ⟨beq_eq_false_iff_ne.mpr (by omega), beq_eq_false_iff_ne.mpr (by omega)⟩
  refine PySem.P.mul_str (by
      have a1 : ¬ ((k : Int) < -(2 ^ 63 : Int)) := by omega
      have a2 : ¬ ((k : Int) ≥ 2 ^ 63) := by omega
      rw [decide_eq_false a1, decide_eq_false a2]; rfl) (fun _ _ hgt => ?_) (fun _ _ => ?_) ?_
  · have hd : (1000 : Int) ≤ (2 ^ 63 - 1) / (k : Int) := (Int.le_ediv_iff_mul_le (by omega)).mpr (by omega)
    omega
  · have e : ((k : Int)).toNat = k := by simp
    rw [e]
    have : z.length * k ≤ sizeLine := by omega
    simpa [Builtin.Str.tooLong] using this
  · rw [if_neg hn1, if_neg (by rw [ho]; exact Bool.false_ne_true), show ((k : Int)).toNat = k by simp]
    refine ⟨by rw [hlen, Nat.mul_comm]; omega, .str _, H, I.tok _, ⟨_, rfl⟩, q _ hlen fun c hc => ?_⟩
    rw [fold_app] at hc
    rcases List.mem_append.mp hc with w | w
    · cases w
    · obtain ⟨l, hl, hc⟩ := List.mem_flatten.mp w
      rw [List.eq_of_mem_replicate hl] at hc
      exact hc
end
end L2


set_option Elab.async false
set_option linter.all false
set_option maxRecDepth 100000
set_option maxHeartbeats 1600000
namespace L2
open PySem LN
def LAt (H : Hp) (p : Addr) : Prop := ∃ xs, H p = some (.lst xs)
theorem LAt.same {H H' : Hp} {p : Addr} (h : LAt H p) (S : Same H H') : LAt H' p := by
  obtain ⟨xs, h⟩ := h
  exact ⟨xs, S _ _ h⟩
mutual
theorem Dq.two {H H' : Hp} {p q : Addr} (hp : LAt H p) (S : Sam p H H') : ∀ (d : PyData) (v : V), Dq H p v d → Dq H q v d → Dq H' q v d
  | .none, _, h, _ => by cases h; exact .non
  | .bool b, _, h, _ => by cases h; exact .bl b
  | .int i, _, h, _ => by cases h; exact .int i
  | .str x, _, h, _ => by cases h; exact .str x
  | .list ds, _, h, h' => by
    cases h with
    | lst e n m ha =>
      cases h' with
      | lst e' n' m' ha' =>
        rw [e] at e'
        cases e'
        exact .lst (S _ _ e n) n' m (DqAll.two hp S ds _ ha ha')
  | .tuple ds, _, h, h' => by
    cases h with
    | tup e ha =>
      cases h' with
      | tup e' ha' =>
        rw [e] at e'
        cases e'
        obtain ⟨xs, hp'⟩ := id hp
        exact .tup (S _ _ e (ne_of e hp' (by intro z; cases z))) (DqAll.two hp S ds _ ha ha')
  | .dict kvs, _, h, _ => by
    cases h with
    | dct e =>
      obtain ⟨xs, hp'⟩ := id hp
      exact .dct (S _ _ e (ne_of e hp' (by intro z; cases z)))
theorem DqAll.two {H H' : Hp} {p q : Addr} (hp : LAt H p) (S : Sam p H H') : ∀ (ds : List PyData) (vs : List V), DqAll H p vs ds → DqAll H q vs ds → DqAll H' q vs ds
  | [], _, h, _ => by cases h; exact .nil
  | d :: ds, _, h, h' => by
    cases h with
    | cons h1 h2 =>
      cases h' with
      | cons h1' h2' => exact .cons (Dq.two hp S d _ h1 h1') (DqAll.two hp S ds _ h2 h2')
end
mutual
theorem Dq.fresh {H : Hp} {p q : Addr} (hq : H q = none) : ∀ (d : PyData) (v : V), Dq H p v d → Dq H q v d
  | .none, _, h => by cases h; exact .non
  | .bool b, _, h => by cases h; exact .bl b
  | .int i, _, h => by cases h; exact .int i
  | .str x, _, h => by cases h; exact .str x
  | .list ds, _, h => by
    cases h with
    | lst e n m ha => exact .lst e (ne_of_none e hq) m (DqAll.fresh hq ds _ ha)
  | .tuple ds, _, h => by
    cases h with
    | tup e ha => exact .tup e (DqAll.fresh hq ds _ ha)
  | .dict kvs, _, h => by
    cases h with
    | dct e => exact .dct e
theorem DqAll.fresh {H : Hp} {p q : Addr} (hq : H q = none) : ∀ (ds : List PyData) (vs : List V), DqAll H p vs ds → DqAll H q vs ds
  | [], _, h => by cases h; exact .nil
  | d :: ds, _, h => by
    cases h with
    | cons h1 h2 => exact .cons (Dq.fresh hq d _ h1) (DqAll.fresh hq ds _ h2)
end
theorem stillL {H H' : Hp} {p : Addr} (hp : LAt H p) (S : Same H H') : Still p H H' := ⟨hp, fun b o h _ => S b o h⟩
theorem stillM {H H' : Hp} {p : Addr} (hp : LAt H p) (S : Sam p H H') : Still p H H' := ⟨hp, fun b o h n => S b o h n⟩
structure D2 (H : Hp) (p L : Addr) (v : V) (d : PyData) : Prop where
  a : Dq H p v d
  b : Dq H L v d
structure D2A (H : Hp) (p L : Addr) (vs : List V) (ds : List PyData) : Prop where
  a : DqAll H p vs ds
  b : DqAll H L vs ds
structure Two (H : Hp) (p L : Addr) : Prop where
  p : LAt H p
  l : LAt H L
theorem Two.same {H H' : Hp} {p L : Addr} (h : Two H p L) (S : Same H H') : Two H' p L := ⟨h.p.same S, h.l.same S⟩
theorem D2.same {H H' : Hp} {p L : Addr} {v : V} {d : PyData} (t : Two H p L) (S : Same H H') (h : D2 H p L v d) : D2 H' p L v d := ⟨Dq.still (stillL t.p S) d v h.a, Dq.still (stillL t.l S) d v h.b⟩
theorem D2A.same {H H' : Hp} {p L : Addr} {v : List V} {d : List PyData} (t : Two H p L) (S : Same H H') (h : D2A H p L v d) : D2A H' p L v d := ⟨DqAll.still (stillL t.p S) d v h.a, DqAll.still (stillL t.l S) d v h.b⟩
theorem D2.samL {H H' : Hp} {p L : Addr} {v : V} {d : PyData} (t : Two H p L) (S : Sam L H H') (h : D2 H p L v d) : D2 H' p L v d := ⟨Dq.two t.l S d v h.b h.a, Dq.two t.l S d v h.b h.b⟩
theorem D2A.samL {H H' : Hp} {p L : Addr} {v : List V} {d : List PyData} (t : Two H p L) (S : Sam L H H') (h : D2A H p L v d) : D2A H' p L v d := ⟨DqAll.two t.l S d v h.b h.a, DqAll.two t.l S d v h.b h.b⟩
theorem D2A.samP {H H' : Hp} {p L : Addr} {v : List V} {d : List PyData} (t : Two H p L) (S : Sam p H H') (h : D2A H p L v d) : D2A H' p L v d := ⟨DqAll.two t.p S d v h.a h.a, DqAll.two t.p S d v h.a h.b⟩
end L2
namespace K1
open PySem L2 LN
/-! ### expressions that give a thing of a kind and change nothing -/
/-- a tuple of at most n things of at most lv brackets -/
def TpL (lv n : Nat) (d : PyData) : Prop := ∃ ds : List PyData, d = .tuple ds ∧ ds.length ≤ n ∧ ∀ e ∈ ds, Th 2 lv e
def LsL (lv n : Nat) (d : PyData) : Prop := ∃ ds : List PyData, d = .list ds ∧ ds.length ≤ n ∧ ∀ e ∈ ds, Th 2 lv e
theorem TpL.th {lv n : Nat} {d : PyData} (h : TpL lv n d) (hn : n ≤ wd 2 lv) : Th 2 (lv + 1) d := by
  obtain ⟨ds, rfl, l, a⟩ := h
  exact .tup (Nat.le_trans l hn) a
theorem LsL.th {lv n : Nat} {d : PyData} (h : LsL lv n d) (hn : n ≤ wd 2 lv) : Th 2 (lv + 1) d := by
  obtain ⟨ds, rfl, l, a⟩ := h
  exact .lst (Nat.le_trans l hn) a
def Gw (X : Cx) (p : Addr) (Γ : Addr → St → Hp → Prop) (e : Expr) (Pd : PyData → Prop) : Prop := ∃ t, PE X e t ∧ ∀ L σ H Q, Γ L σ H → Two H p L → (∀ v d H', Same H H' → D2 H' p L v d → Pd d → Q v H') → t σ H Q
def Gws (X : Cx) (p : Addr) (Γ : Addr → St → Hp → Prop) (es : List Expr) (Pd : PyData → Prop) (n : Nat) : Prop := ∃ t, PA X es t ∧ ∀ L σ H Q, Γ L σ H → Two H p L → (∀ vs ds H', Same H H' → D2A H' p L vs ds → ds.length = n → (∀ d ∈ ds, Pd d) → Q vs H') → t σ H Q
/-- a number, and nothing else happens -/
def Gi (X : Cx) (Γ : Addr → St → Hp → Prop) (e : Expr) : Prop := ∃ t, PE X e t ∧ ∀ L σ H Q, Γ L σ H → (∀ i : Int, Q (.int i) H) → t σ H Q
def Ks (p : Addr) (Γ : Addr → St → Hp → Prop) : Prop := ∀ L σ H H', Γ L σ H → Two H p L → Same H H' → Γ L σ H'
section
variable {X : Cx} {p L : Addr} {Γ : Addr → St → Hp → Prop} {e a b lo hi : Expr} {es : List Expr} {Pd Pd' : PyData → Prop} {m n lv : Nat} {pos p2 : Pos}
theorem w_weak (h : Gw X p Γ e Pd) (k : ∀ d, Pd d → Pd' d) : Gw X p Γ e Pd' := by
  obtain ⟨t, h, r⟩ := h
  exact ⟨t, h, fun L σ H Q g hp q => r L σ H Q g hp fun v d H' S D z => q v d H' S D (k d z)⟩
theorem w_env {Γ' : Addr → St → Hp → Prop} (h : Gw X p Γ e Pd) (k : ∀ L σ H, Γ' L σ H → Γ L σ H) : Gw X p Γ' e Pd := by
  obtain ⟨t, h, r⟩ := h
  exact ⟨t, h, fun L σ H Q g hp q => r L σ H Q (k L σ H g) hp q⟩
theorem w_var {i : Nat} (h : PE X e (tVar i)) (k : ∀ L σ H, Γ L σ H → ∃ v d, σ[i]? = some (some v) ∧ D2 H p L v d ∧ Pd d) : Gw X p Γ e Pd := by
  refine ⟨_, h, fun L σ H Q g hp q => ?_⟩
  obtain ⟨v, d, e, D, z⟩ := k L σ H g
  exact ⟨v, e, q v d H (Same.refl H) D z⟩
theorem w_non {j} : Gw X p Γ (.Constant .none j pos) (Th 2 lv) := ⟨_, pe_non, fun L σ H Q g hp q => q _ .none H (Same.refl H) ⟨.non, .non⟩ .non⟩
theorem w_bl {bb : Bool} {j} : Gw X p Γ (.Constant (.bool bb) j pos) (Th 2 lv) := ⟨_, pe_bl, fun L σ H Q g hp q => q _ (.bool bb) H (Same.refl H) ⟨.bl _, .bl _⟩ .bl⟩
theorem w_int {i : Int} {j} (h : i.natAbs ≤ 1000) : Gw X p Γ (.Constant (.int i) j pos) (Th 2 lv) := ⟨_, pe_int, fun L σ H Q g hp q => q _ (.int i) H (Same.refl H) ⟨.int _, .int _⟩ (.int (by omega))⟩
theorem w_str {x : Str} {j} (h : Asc 2 x) : Gw X p Γ (.Constant (.str x) j pos) (Th 2 lv) := ⟨_, pe_str, fun L σ H Q g hp q => q _ (.str x) H (Same.refl H) ⟨.str _, .str _⟩ (.str h)⟩
theorem w_neg {i : Int} {j} (h : i.natAbs ≤ 1000) : Gw X p Γ (.UnaryOp .USub (.Constant (.int i) j p2) pos) (Th 2 lv) := ⟨_, pe_un un_neg pe_int, fun L σ H Q g hp q => ⟨_, rfl, q _ (.int (-i)) H (Same.refl H) ⟨.int _, .int _⟩ (.int (by omega))⟩⟩
theorem w_pow {j j2} {p1 p2 : Pos} : Gw X p Γ (.BinOp (.Constant (.int 10) j p1) .Pow (.Constant (.int 30) j2 p2) pos) (Th 2 lv) :=
  ⟨_, pe_op op_pow pe_int pe_int, fun L σ H Q g hp q => ⟨_, _, rfl, rfl, ⟨by decide, by decide, by decide⟩, q _ (.int (10 ^ 30)) H (Same.refl H) ⟨.int _, .int _⟩ (.int (by show 10 ^ 30 ≤ 10 ^ 30 + 9 * 2; omega))⟩⟩
theorem w_nil : Gws X p Γ [] Pd 0 := ⟨_, pa_nil, fun L σ H Q g hp q => q [] [] H (Same.refl H) ⟨.nil, .nil⟩ rfl (fun d z => nomatch z)⟩
theorem w_cons (hΓ : Ks p Γ) (h : Gw X p Γ e Pd) (hs : Gws X p Γ es Pd n) (hst : starEach (e :: es) X.env = (false, eval e X.env) :: starEach es X.env := by rfl) : Gws X p Γ (e :: es) Pd (n + 1) := by
  obtain ⟨t, h, r⟩ := h
  obtain ⟨t', h', r'⟩ := hs
  refine ⟨_, pa_cons h h' hst, fun L σ H Q g hp q => r L σ H _ g hp fun v d H1 S1 D1 z1 => r' L σ H1 _ (hΓ _ _ _ _ g hp S1) (hp.same S1) fun vs ds H2 S2 D2' l2 z2 => ?_⟩
  have D1 := D1.same (hp.same S1) S2
  refine q (v :: vs) (d :: ds) H2 (S1.trans S2) ⟨.cons D1.a D2'.a, .cons D1.b D2'.b⟩ (by rw [List.length_cons, l2]) fun x hx => ?_
  rcases List.mem_cons.mp hx with rfl | z
  · exact z1
  · exact z2 x z
theorem w_tup {x1} (h : Gws X p Γ es (Th 2 lv) n) (hn : n ≤ 1000) : Gw X p Γ (.Tuple es x1 pos) (TpL lv n) := by
  obtain ⟨t, h, r⟩ := h
  refine ⟨_, pe_tup h, fun L σ H Q g hp q => r L σ H _ g hp fun vs ds H1 S1 D1 l1 z1 => ?_⟩
  refine ⟨zz (by rw [D1.a.length, l1]; exact hn), fun l hl => ?_⟩
  have D2' := D1.same (hp.same S1) (same_new (o := .tup vs) hl)
  exact q (.ref l) (.tuple ds) _ (S1.trans (same_new hl)) ⟨.tup upd_same D2'.a, .tup upd_same D2'.b⟩ ⟨ds, rfl, Nat.le_of_eq l1, z1⟩
theorem w_lst (h : Gws X p Γ es (Th 2 lv) n) (hn : n ≤ 1000) : Gw X p Γ (.List es pos) (LsL lv n) := by
  obtain ⟨t, h, r⟩ := h
  refine ⟨_, pe_lstN h, fun L σ H Q g hp q => r L σ H _ g hp fun vs ds H1 S1 D1 l1 z1 => ?_⟩
  refine ⟨zz (by rw [D1.a.length, l1]; exact hn), fun l hl hm => ?_⟩
  have T1 := hp.same S1
  have D2' := D1.same T1 (same_new (o := .lst vs) hl)
  obtain ⟨ys, hy⟩ := T1.p
  obtain ⟨zs, hz⟩ := T1.l
  exact q (.ref l) (.list ds) _ (S1.trans (same_new hl)) ⟨.lst upd_same (fun z => ne_of_none hy hl z.symm) hm D2'.a, .lst upd_same (fun z => ne_of_none hz hl z.symm) hm D2'.b⟩ ⟨ds, rfl, Nat.le_of_eq l1, z1⟩
theorem w_cat (hΓ : Ks p Γ) (ha : Gw X p Γ a (TpL lv m)) (hb : Gw X p Γ b (TpL lv n)) (hz : m + n ≤ 1000) : Gw X p Γ (.BinOp a .Add b pos) (TpL lv (m + n)) := by
  obtain ⟨t, h, r⟩ := ha
  obtain ⟨t', h', r'⟩ := hb
  refine ⟨_, pe_op op_catW h h', fun L σ H Q g hp q => r L σ H _ g hp fun v d H1 S1 D1 z1 => r' L σ H1 _ (hΓ _ _ _ _ g hp S1) (hp.same S1) fun u d' H2 S2 D2' z2 => ?_⟩
  obtain ⟨ds, rfl, l1, e1⟩ := z1
  obtain ⟨ds', rfl, l2, e2⟩ := z2
  obtain ⟨a1, b1⟩ := D1.same (hp.same S1) S2
  obtain ⟨a2, b2⟩ := D2'
  have T2 := (hp.same S1).same S2
  cases a1 with
  | tup q1 A1 => cases a2 with
    | tup q2 A2 => cases b1 with
      | tup q1' B1 => cases b2 with
        | tup q2' B2 =>
          rw [q1] at q1'
          cases q1'
          rw [q2] at q2'
          cases q2'
          have k1 := A1.length
          have k2 := A2.length
          refine ⟨_, _, _, _, rfl, rfl, q1, q2, zz (by omega), fun l H3 S3 hl => ?_⟩
          have D3 := D2A.same T2 S3 ⟨A1.append A2, B1.append B2⟩
          refine q (.ref l) (.tuple (ds ++ ds')) H3 ((S1.trans S2).trans S3) ⟨.tup hl D3.a, .tup hl D3.b⟩ ⟨_, rfl, by rw [List.length_append]; omega, fun x hx => ?_⟩
          rcases List.mem_append.mp hx with z | z
          · exact e1 x z
          · exact e2 x z
/-- a part of a tuple -/
theorem cut_two {H : Hp} {lv n : Nat} {xs : List V} {ds : List PyData} (A : D2A H p L xs ds) (hl : ds.length ≤ n) (he : ∀ e ∈ ds, Th 2 lv e) (x y : Option Int) : ∃ es, D2A H p L (cutV xs x y) es ∧ es.length ≤ n ∧ ∀ e ∈ es, Th 2 lv e := by
  refine ⟨_, ⟨(A.a.drop _).take _, (A.b.drop _).take _⟩, ?_, fun e z => he e (List.mem_of_mem_drop (List.mem_of_mem_take z))⟩
  rw [List.length_take, List.length_drop]
  omega
theorem w_cutHi (hΓ : Ks p Γ) (ha : Gw X p Γ a (TpL lv n)) (hi' : Gi X Γ hi) : Gw X p Γ (.Subscript a (.Slice none (some hi) none p2) pos) (TpL lv n) := by
  obtain ⟨t, h, r⟩ := ha
  obtain ⟨t', h', r'⟩ := hi'
  refine ⟨_, pe_slice sl_tupW h po_none (po_some h'), fun L σ H Q g hp q => r L σ H _ g hp fun v d H1 S1 D1 z1 => r' L σ H1 _ (hΓ _ _ _ _ g hp S1) fun i => ?_⟩
  obtain ⟨ds, rfl, l1, e1⟩ := z1
  obtain ⟨a1, b1⟩ := D1
  cases a1 with
  | tup q1 A1 => cases b1 with
    | tup q1' B1 =>
      rw [q1] at q1'
      cases q1'
      refine ⟨_, rfl, _, _, rfl, q1, fun l H2 S2 hl => ?_⟩
      obtain ⟨es, A2, l2, e2⟩ := cut_two (D2A.same (hp.same S1) S2 ⟨A1, B1⟩) l1 e1 none (some i)
      exact q (.ref l) (.tuple es) H2 (S1.trans S2) ⟨.tup hl A2.a, .tup hl A2.b⟩ ⟨es, rfl, l2, e2⟩
theorem w_cutLo (hΓ : Ks p Γ) (ha : Gw X p Γ a (TpL lv n)) (hi' : Gi X Γ lo) : Gw X p Γ (.Subscript a (.Slice (some lo) none none p2) pos) (TpL lv n) := by
  obtain ⟨t, h, r⟩ := ha
  obtain ⟨t', h', r'⟩ := hi'
  refine ⟨_, pe_slice sl_tupW h (po_some h') po_none, fun L σ H Q g hp q => r L σ H _ g hp fun v d H1 S1 D1 z1 => r' L σ H1 _ (hΓ _ _ _ _ g hp S1) fun i => ?_⟩
  obtain ⟨ds, rfl, l1, e1⟩ := z1
  obtain ⟨a1, b1⟩ := D1
  cases a1 with
  | tup q1 A1 => cases b1 with
    | tup q1' B1 =>
      rw [q1] at q1'
      cases q1'
      refine ⟨_, rfl, _, _, rfl, q1, fun l H2 S2 hl => ?_⟩
      obtain ⟨es, A2, l2, e2⟩ := cut_two (D2A.same (hp.same S1) S2 ⟨A1, B1⟩) l1 e1 (some i) none
      exact q (.ref l) (.tuple es) H2 (S1.trans S2) ⟨.tup hl A2.a, .tup hl A2.b⟩ ⟨es, rfl, l2, e2⟩
theorem i_int {i : Int} {j} : Gi X Γ (.Constant (.int i) j pos) := ⟨_, pe_int, fun L σ H Q g q => q i⟩
theorem i_var {i : Nat} (h : PE X e (tVar i)) (k : ∀ L σ H, Γ L σ H → ∃ n : Int, σ[i]? = some (some (.int n))) : Gi X Γ e := by
  refine ⟨_, h, fun L σ H Q g q => ?_⟩
  obtain ⟨n, e⟩ := k L σ H g
  exact ⟨_, e, q n⟩
theorem i_add (ha : Gi X Γ a) (hb : Gi X Γ b) : Gi X Γ (.BinOp a .Add b pos) := by
  obtain ⟨t, h, r⟩ := ha
  obtain ⟨t', h', r'⟩ := hb
  exact ⟨_, pe_op op_add h h', fun L σ H Q g q => r L σ H _ g fun i => r' L σ H _ g fun j => ⟨_, _, rfl, rfl, q _⟩⟩
theorem i_sub (ha : Gi X Γ a) (hb : Gi X Γ b) : Gi X Γ (.BinOp a .Sub b pos) := by
  obtain ⟨t, h, r⟩ := ha
  obtain ⟨t', h', r'⟩ := hb
  exact ⟨_, pe_op op_sub h h', fun L σ H Q g q => r L σ H _ g fun i => r' L σ H _ g fun j => ⟨_, _, rfl, rfl, q _⟩⟩
end
end K1


set_option Elab.async false
set_option linter.all false
set_option maxRecDepth 100000
set_option maxHeartbeats 1600000
namespace K1
open PySem L2 LN
abbrev sRow : Stmt := top 70
abbrev NR : List Str := ["_law_pot_here", "_law_kinds_here", "_law_to", "_law_name_here", "_law_below", "_law_more", "_law_found", "_law_cut", "_law_odd_here", "_law_one", "_law_turn", "_law_sign", "_law_many"]
theorem scR : FnScope NR ["_law_pot_here", "_law_kinds_here"] (defScope sRow) := ⟨rfl, rfl, rfl, by decide +kernel, rfl, by decide +kernel, by decide +kernel⟩
def rst (i : Nat) : Stmt := (defBody sRow).getD i (.Pass ⟨0, 0, 0, 0⟩)
abbrev XRw (P : Program) (w : World) (K : PySem.W.Frag) (mg : Str → Option Value) (base : Heap) (f : Addr) (cdv : Value) (A : Around) (outer : List Env) (s : Shared) (H0 : Hp) (E0' : XK) : Cx := (cxOf CX0 P w K mg base NR "_law_rows" (defScope sRow) f cdv A outer s H0 E0').nox
def kD (ks : KS) : List PyData := ks.map fun k => .tuple [.str k.1, .int (k.2 : Int)]
theorem kD_dq {H : Hp} {p : Addr} : ∀ {ps : List Addr} {ks : KS}, Paired (PairAt H) ps ks → DqAll H p (ps.map V.ref) (kD ks)
  | _, _, .nil => .nil
  | _, _, .cons h t => .cons (.tup h (.cons (.str _) (.cons (.int _) .nil))) (kD_dq t)
theorem KAt.dq {H : Hp} {p a : Addr} {ks : KS} (h : KAt H a ks) : Dq H p (.ref a) (.tuple (kD ks)) := by
  obtain ⟨ps, h1, h2⟩ := h
  exact .tup h1 (kD_dq h2)
theorem asc_nm {k : Nat} {x : Str} (h : NmOk x) : Asc k x := ⟨by have := h.2.1; omega, fun c hc => by have := (h.2.2 c hc).2; omega⟩
theorem th_sg {j lv : Nat} {k : Str × Nat} (h1 : NmOk k.1) (h2 : k.2 ≤ 3) : Th j (lv + 1) (.tuple [.str k.1, .int (k.2 : Int)]) := by
  refine .tup (Nat.le_trans (show _ ≤ 2 from Nat.le_refl 2) wd_two) fun e he => ?_
  simp only [List.mem_cons, List.not_mem_nil, or_false] at he
  rcases he with rfl | rfl
  · exact .str (asc_nm h1)
  · exact .int (by omega)
theorem th_kD {j lv : Nat} {ks : KS} (h : KOk ks) : ∀ e ∈ kD ks, Th j (lv + 1) e := by
  intro e he
  obtain ⟨k, hk, rfl⟩ := List.mem_map.mp he
  exact th_sg (h.nm k hk) (h.ar k hk)
theorem kD_len (ks : KS) : (kD ks).length = ks.length := List.length_map ..
theorem th_kinds {j : Nat} {ks : KS} (h : KOk ks) : Th j 4 (.tuple (kD ks)) := th_tup (m := 1) (by rw [kD_len]; have := h.le8; omega) (th_kD h)
/-- what the names hold -/
structure RG (p a : Addr) (ks : KS) (σ : St) (H : Hp) : Prop where
  hk : KAt H a ks
  s0 : σ[0]? = some (some (.ref p))
  s1 : σ[1]? = some (some (.ref a))
  s2 : ∃ (i : Nat) (k : Str × Nat), ks[i]? = some k ∧ σ[2]? = some (some (nV i)) ∧ σ[3]? = some (some (.str k.1)) ∧ σ[4]? = some (some (nV k.2))
  sl : σ.length = 13
abbrev Γr (p a : Addr) (ks : KS) : Addr → St → Hp → Prop := fun _ => RG p a ks
theorem ks_r {p a : Addr} {ks : KS} : Ks p (Γr p a ks) := fun L σ H H' g _ S => ⟨g.hk.same S, g.s0, g.s1, g.s2, g.sl⟩
theorem RG.set {p a : Addr} {ks : KS} {j : Nat} {σ : St} {H : Hp} {v : Option V} (hj : 5 ≤ j) (g : RG p a ks σ H) : RG p a ks (σ.set j v) H := by
  obtain ⟨i, k, e, e2, e3, e4⟩ := g.s2
  refine ⟨g.hk, ?_, ?_, ⟨i, k, e, ?_, ?_, ?_⟩, by rw [List.length_set]; exact g.sl⟩ <;> rw [List.getElem?_set_ne (by omega)]
  · exact g.s0
  · exact g.s1
  · exact e2
  · exact e3
  · exact e4
theorem RG.keep {p a q : Addr} {ks : KS} {σ : St} {H H' : Hp} (hq : LAt H q) (S : Sam q H H') (g : RG p a ks σ H) : RG p a ks σ H' := by
  obtain ⟨xs, hq⟩ := hq
  exact ⟨g.hk.sam hq S, g.s0, g.s1, g.s2, g.sl⟩
section
variable {X : Cx} {p a : Addr} {ks : KS} {e e' : Expr} {lv : Nat} {pos p2 p3 : Pos}
theorem wk_all (c : KOk ks) (h : PE X e (tVar 1)) : Gw X p (Γr p a ks) e (TpL 3 8) := w_var h fun L σ H g => ⟨_, _, g.s1, ⟨KAt.dq g.hk, KAt.dq g.hk⟩, _, rfl, by rw [kD_len]; exact c.le8, th_kD c⟩
theorem wk_name (c : KOk ks) (h : PE X e (tVar 3)) : Gw X p (Γr p a ks) e (Th 2 lv) := w_var h fun L σ H g => by
  obtain ⟨i, k, e, e2, e3, e4⟩ := g.s2
  exact ⟨_, _, e3, ⟨.str _, .str _⟩, .str (asc_nm (c.nm k (List.mem_of_getElem? e)))⟩
theorem wk_below (c : KOk ks) (h : PE X e (tVar 4)) : Gw X p (Γr p a ks) e (Th 2 lv) := w_var h fun L σ H g => by
  obtain ⟨i, k, e, e2, e3, e4⟩ := g.s2
  exact ⟨_, _, e4, ⟨.int _, .int _⟩, .int (by have := c.ar k (List.mem_of_getElem? e); omega)⟩
theorem ik_to (h : PE X e (tVar 2)) : Gi X (Γr p a ks) e := i_var h fun L σ H g => by
  obtain ⟨i, k, e, e2, e3, e4⟩ := g.s2
  exact ⟨_, e2⟩
theorem ik_len {x : Str} (hx : x = "len") (hg : Gl X x) (hm : X.mg x = none) (h : PE X e (tVar 1)) (hs : starEach (e :: []) X.env = (false, eval e X.env) :: starEach [] X.env := by rfl) : Gi X (Γr p a ks) (.Call (.Name x p2) [e] [] pos) := by
  subst hx
  refine ⟨_, pe_callB call_len_seq hg hm PySem.boot_len (pa_cons h pa_nil hs) (he := hs) (hpl := rfl), fun L σ H Q g q => ?_⟩
  obtain ⟨ps, ha, _⟩ := g.hk
  exact ⟨_, g.s1, a, _, rfl, .inr (SqT.of ha), q _⟩
/-- the row less its name's place, and one thing there -/
theorem wk_put {Γ : Addr → St → Hp → Prop} {ek ek2 et et2 m : Expr} {x1 j} {p4 p5 p6 p7 p8 p9 : Pos} (c : KOk ks) (hΓ : Ks p Γ) (hw : ∀ L σ H, Γ L σ H → Γr p a ks L σ H) (h1 : PE X ek (tVar 1)) (h2 : PE X et (tVar 2)) (h3 : PE X ek2 (tVar 1)) (h4 : PE X et2 (tVar 2)) (hm : Gw X p Γ m (Th 2 3))
    (hs : starEach (m :: []) X.env = (false, eval m X.env) :: starEach [] X.env := by rfl) :
    Gw X p Γ (.BinOp (.BinOp (.Subscript ek (.Slice none (some et) none p2) pos) .Add (.Tuple [m] x1 p3) p4) .Add (.Subscript ek2 (.Slice (some (.BinOp et2 .Add (.Constant (.int 1) j p5) p6)) none none p7) p8) p9) (Th 2 4) := by
  have i1 : Gi X Γ et := by
    obtain ⟨t, h, r⟩ := ik_to (p := p) (a := a) (ks := ks) h2
    exact ⟨t, h, fun L σ H Q g q => r L σ H Q (hw L σ H g) q⟩
  have i2 : Gi X Γ et2 := by
    obtain ⟨t, h, r⟩ := ik_to (p := p) (a := a) (ks := ks) h4
    exact ⟨t, h, fun L σ H Q g q => r L σ H Q (hw L σ H g) q⟩
  have k1 := w_env (wk_all (a := a) (p := p) c h1) hw
  have k2 := w_env (wk_all (a := a) (p := p) c h3) hw
  exact w_weak (w_cat hΓ (w_cat hΓ (w_cutHi hΓ k1 i1) (w_tup (w_cons hΓ hm w_nil hs) (by decide)) (by decide)) (w_cutLo hΓ k2 (i_add i2 i_int)) (by decide)) fun d z => z.th (by decide)
end
/-- pairs of a text and a number -/
def PairIn (H : Hp) (v : V) : Prop := ∃ (r : Addr) (x : Str) (m : Int), v = .ref r ∧ H r = some (.tup [.str x, .int m]) ∧ Asc 2 x ∧ m.natAbs ≤ 1000
theorem PairIn.same {H H' : Hp} {v : V} (h : PairIn H v) (S : Same H H') : PairIn H' v := by
  obtain ⟨r, x, m, e, h1, h2, h3⟩ := h
  exact ⟨r, x, m, e, S _ _ h1, h2, h3⟩
theorem pairs_dq {H : Hp} : ∀ {vs : List V}, (∀ v ∈ vs, PairIn H v) → ∃ ds, (∀ q, DqAll H q vs ds) ∧ ds.length = vs.length ∧ ∀ e ∈ ds, Th 2 3 e
  | [], _ => ⟨[], fun q => .nil, rfl, fun e z => nomatch z⟩
  | v :: vs, h => by
    obtain ⟨ds, h1, h2, h3⟩ := pairs_dq (vs := vs) fun u hu => h u (List.mem_cons_of_mem _ hu)
    obtain ⟨r, x, m, rfl, e1, e2, e3⟩ := h v (List.mem_cons_self ..)
    refine ⟨.tuple [.str x, .int m] :: ds, fun q => .cons (.tup e1 (.cons (.str _) (.cons (.int _) .nil))) (h1 q), by rw [List.length_cons, List.length_cons, h2], fun e he => ?_⟩
    rcases List.mem_cons.mp he with rfl | z
    · refine .tup (Nat.le_trans (show _ ≤ 2 from Nat.le_refl 2) wd_two) fun e he => ?_
      simp only [List.mem_cons, List.not_mem_nil, or_false] at he
      rcases he with rfl | rfl
      · exact .str e2
      · exact .int (by omega)
    · exact h3 e z
/-- the list that a comprehension fills -/
def PairsAt (H : Hp) (L : Addr) (n : Nat) : Prop := ∃ vs : List V, H L = some (.lst vs) ∧ vs.length = n ∧ ∀ v ∈ vs, PairIn H v
theorem PairsAt.more {H H' : Hp} {B : Hp} {L q : Addr} {n : Nat} {vs : List V} {x : Str} {m : Int} (hB : B L = none) (S : Same B H) (hL : H L = some (.lst vs)) (hn : vs.length = n) (hv : ∀ v ∈ vs, PairIn H v) (hq : H q = none) (h1 : Asc 2 x) (h2 : m.natAbs ≤ 1000) (hH' : H' = upd H q (.tup [.str x, .int m])) :
    H' L = some (.lst vs) ∧ Same B (upd H' L (.lst (vs ++ [.ref q]))) ∧ PairsAt (upd H' L (.lst (vs ++ [.ref q]))) L (n + 1) := by
  subst hH'
  have hLq : L ≠ q := ne_of_none hL hq
  have hL' : (upd H q (.tup [.str x, .int m])) L = some (.lst vs) := by rw [upd_ne hLq]; exact hL
  have S2 : Same H (upd H q (.tup [.str x, .int m])) := same_new hq
  refine ⟨hL', (S.trans S2).over hB, vs ++ [.ref q], upd_same, by rw [List.length_append, hn]; rfl, fun v hv' => ?_⟩
  have keep : ∀ r x' m', (upd H q (.tup [.str x, .int m])) r = some (.tup [.str x', .int m']) → (upd (upd H q (.tup [.str x, .int m])) L (.lst (vs ++ [.ref q]))) r = some (.tup [.str x', .int m']) := fun r x' m' h => by
    rw [upd_ne (fun z => by rw [z, hL'] at h; cases h)]; exact h
  rcases List.mem_append.mp hv' with z | z
  · obtain ⟨r, x', m', e, e1, e2, e3⟩ := hv v z
    exact ⟨r, x', m', e, keep _ _ _ (S2 _ _ e1), e2, e3⟩
  · rw [List.mem_singleton.mp z]
    exact ⟨q, x, m, rfl, keep _ _ _ upd_same, h1, h2⟩
end K1


set_option Elab.async false
set_option linter.all false
set_option maxRecDepth 100000
set_option maxHeartbeats 1600000
namespace K1
open PySem L2 LN
theorem wipe1 {σ : St} {i : Nat} {v : Option V} : wipe ((wipe σ [i]).set i v) [i] = wipe σ [i] := by
  show ((σ.set i none).set i v).set i none = σ.set i none
  rw [List.set_set, List.set_set]
theorem look1 {σ : St} {i : Nat} {v : Option V} (h : i < σ.length) : ((wipe σ [i]).set i v)[i]? = some v := by
  show ((σ.set i none).set i v)[i]? = _
  exact List.getElem?_set_self (by rw [List.length_set]; exact h)
theorem look1' {σ : St} {i j : Nat} {v : Option V} (h : i ≠ j) : ((wipe σ [i]).set i v)[j]? = σ[j]? := by
  show ((σ.set i none).set i v)[j]? = _
  rw [List.getElem?_set_ne h, List.getElem?_set_ne h]
def n8S : Str := "abcdefgh"
theorem q_asc : ∀ c ∈ n8S.cps.toList, Asc 2 ("q" ++ (⟨#[c]⟩ : Str)) := by
  have h : ∀ c ∈ n8S.cps.toList, ("q" ++ (⟨#[c]⟩ : Str)).length ≤ 60 ∧ ∀ e ∈ ("q" ++ (⟨#[c]⟩ : Str)).cps.toList, e < 128 := by decide +kernel
  intro c hc
  obtain ⟨h1, h2⟩ := h c hc
  exact ⟨by omega, h2⟩
section
variable {P : Program} {w : World} {K : PySem.W.Frag} {mg : Str → Option Value} {base : Heap}
variable {f : Addr} {cdv : Value} {A : Around} {outer : List Env} {s : Shared} {H0 : Hp} {E0' : XK} {fT fO : Addr} {fdT fdO : FuncData}
theorem rs0 (B : Blt mg) (T : Known P w K mg base CX0 2 "_law_take" fT fdT ["_law_pot_here", "_law_far"] spTake) (hr : Room 2 (XRw P w K mg base f cdv A outer s H0 E0').A) :
    ∃ t', PS (XRw P w K mg base f cdv A outer s H0 E0') (rst 0) t' ∧ ∀ (D : Ends) (H : Hp) (p a : Addr) (ks : KS) (σ : St), σ[0]? = some (some (.ref p)) → σ[1]? = some (some (.ref a)) → PotAt H p → KAt H a ks → KOk ks →
      (∀ (i : Nat) (H' : Hp), i < ks.length → Sam p H H' → PotAt H' p → D.nx (σ.set 2 (some (nV i))) H') → t' D σ H := by
  refine ⟨_, ps_set (i := 2) scR.nd rfl (Or.inl rfl) (pe_call T.G hr (by rfl) T.m T.k T.b .nil pass0 (pa_cons (pv 0) (pa_cons (pe_callB call_len_seq (by rfl) B.len PySem.boot_len (pa_cons (pv 1) pa_nil)) pa_nil))), ?_⟩
  intro D H p a ks σ s0 s1 hp ha hk hN
  obtain ⟨n0, hp0⟩ := id hp
  obtain ⟨ps, ha1, hps⟩ := ha
  have hpl : ps.length = ks.length := Paired.length hps
  have h1 := hk.pos
  have h8 := hk.le8
  obtain ⟨i, hi, ei⟩ := mod_nat (n := n0) (m := ks.length) (by omega)
  refine ⟨_, s0, _, s1, a, _, rfl, .inr (SqT.of ha1), p, n0, _, rfl, hp0, ?_, ?_, ?_⟩
  · rw [List.length_map]; omega
  · rw [List.length_map]
    have e : ((ps.length : Nat) : Int).natAbs = ps.length := by omega
    rw [e]
    exact Nat.lt_of_le_of_lt (Nat.log2_le_self _) (by omega)
  rw [List.length_map, hpl, ei]
  exact hN i _ hi Sam.upd ⟨_, upd_same⟩
theorem rs1 : ∃ t', PS (XRw P w K mg base f cdv A outer s H0 E0') (rst 1) t' ∧ ∀ (D : Ends) (H : Hp) (a : Addr) (ks : KS) (i : Nat) (σ : St), σ[1]? = some (some (.ref a)) → σ[2]? = some (some (nV i)) → KAt H a ks → i < ks.length →
      (∀ (k : Str × Nat), ks[i]? = some k → D.nx ((σ.set 3 (some (.str k.1))).set 4 (some (nV k.2))) H) → t' D σ H := by
  refine ⟨_, ps_asg (pe_ix ix_tup (pv 1) (pv 2) (fun _ _ => rfl)) (pg_tup (by rfl) (pgs_cons (pg_name (i := 3) scR.nd rfl (Or.inr rfl)) (pgs_cons (pg_name (i := 4) scR.nd rfl (Or.inl rfl)) pgs_nil))), ?_⟩
  intro D H a ks i σ s1 s2 ha hi hN
  obtain ⟨ps, ha1, hps⟩ := ha
  have hpl : ps.length = ks.length := Paired.length hps
  have hi' : i < ps.length := by omega
  obtain ⟨k, hk, hpk⟩ := paired_at i hps (List.getElem?_eq_getElem hi')
  refine ⟨_, s1, _, s2, a, _, _, .ref ps[i], rfl, rfl, SqT.of ha1, atI_nat (by rw [List.getElem?_map, List.getElem?_eq_getElem hi']; rfl), _, _, rfl, SqT.of hpk, rfl, _, _, rfl, _, _, rfl, rfl, ?_⟩
  exact hN k hk
theorem rs2 (B : Blt mg) : ∃ t', PS (XRw P w K mg base f cdv A outer s H0 E0') (rst 2) t' ∧ ∀ (D : Ends) (H : Hp) (σ : St), σ.length = 13 →
      (∀ (t : Addr) (vs : List V) (H' : Hp), Same H H' → H' t = some (.tup vs) → vs.length = 8 → (∀ v ∈ vs, PairIn H' v) → D.nx (σ.set 5 (some (.ref t))) H') → t' D σ H := by
  refine ⟨_, ps_set (i := 5) scR.nd rfl (Or.inl rfl) (pe_callTy call_tuple_of (by rfl) B.tuple (by decide +kernel) (pa_cons (pe_lc (own := [("_law_turn", 10)]) (g := gName 10) (by rfl) scR.nd (pi_range1 (by rfl) B.range (pa_cons pe_int pa_nil))
      (blkOk_by (own := [("_law_turn", 10)]) (N := NR) (sc := defScope sRow) (by decide +kernel)) (fun _ _ _ _ _ => pg_name (i := 10) scR.nd rfl (Or.inl rfl)) (fun _ _ _ _ _ => pts_nil)
      (fun _ _ _ _ _ => pe_tup (pa_cons (pe_op op_add_str pe_str (pe_ix ix_str pe_str (pv 10) (fun _ _ => rfl))) (pa_cons pe_int pa_nil)))) pa_nil)), ?_⟩
  intro D H σ sl q
  refine ⟨_, rfl, by decide, by decide, fun L hL => ?_⟩
  refine lc_range (n := 8) (fun j H3 => Same H H3 ∧ PairsAt H3 L j) ⟨same_new hL, [], upd_same, rfl, fun v z => nomatch z⟩ ?_ ?_
  · rintro j H3 hj ⟨S3, vs, hvs, hn, hv⟩
    rw [show (0 : Int) + (j : Nat) = ((j : Nat) : Int) by omega]
    refine ⟨wipe1, ?_⟩
    unfold tYes
    refine iteT ?_
    have hj' : j < n8S.cps.toList.length := hj
    have hc := List.getElem_mem hj'
    refine ⟨_, look1 (by rw [sl]; decide), n8S, _, n8S.cps.toList[j], rfl, rfl, by show 8 ≤ sizeLine; decide, atI_nat (List.getElem?_eq_getElem hj'), _, _, rfl, rfl, by show 1 + 1 ≤ sizeLine; decide, by show 2 ≤ sizeLine; decide, fun r hr => ?_⟩
    obtain ⟨g1, g2, g3⟩ := PairsAt.more (x := "q" ++ (⟨#[n8S.cps.toList[j]]⟩ : Str)) (m := 0) hL S3 hvs hn hv hr (q_asc _ hc) (by decide) rfl
    exact ⟨vs, g1, small1000 (by omega), g2, g3⟩
  · rintro H3 ⟨S3, vs, hvs, hn, hv⟩
    refine ⟨L, vs, rfl, .inl ⟨SqL.of hvs, fun t ht => ?_⟩⟩
    have S4 := same_new (o := .tup vs) ht
    exact q t vs _ (S3.trans S4) upd_same hn fun v hv' => (hv v hv').same S4
end
end K1


set_option Elab.async false
set_option linter.all false
set_option maxRecDepth 100000
set_option maxHeartbeats 1600000
namespace K1
open PySem L2 LN
/-- the list that is filled -/
def Fd (p L : Addr) (n : Nat) (H : Hp) : Prop := ∃ (xs : List V) (ds : List PyData), H L = some (.lst xs) ∧ L ≠ p ∧ D2A H p L xs ds ∧ ds.length ≤ n ∧ ∀ d ∈ ds, Th 2 4 d
theorem potL {H : Hp} {p : Addr} (h : PotAt H p) : LAt H p := by
  obtain ⟨n, h⟩ := h
  exact ⟨_, h⟩
theorem Fd.le {p L : Addr} {n m : Nat} {H : Hp} (h : Fd p L n H) (hm : n ≤ m) : Fd p L m H := by
  obtain ⟨xs, ds, h1, h2, h3, h4, h5⟩ := h
  exact ⟨xs, ds, h1, h2, h3, Nat.le_trans h4 hm, h5⟩
theorem Fd.two {p L : Addr} {n : Nat} {H : Hp} (hp : PotAt H p) (h : Fd p L n H) : Two H p L := by
  obtain ⟨xs, ds, h1, _⟩ := h
  exact ⟨potL hp, _, h1⟩
theorem Fd.same {p L : Addr} {n : Nat} {H H' : Hp} (hp : PotAt H p) (S : Same H H') (h : Fd p L n H) : Fd p L n H' := by
  have T := h.two hp
  obtain ⟨xs, ds, h1, h2, h3, h4, h5⟩ := h
  exact ⟨xs, ds, S _ _ h1, h2, h3.same T S, h4, h5⟩
theorem Fd.samP {p L : Addr} {n : Nat} {H H' : Hp} (hp : PotAt H p) (S : Sam p H H') (h : Fd p L n H) : Fd p L n H' := by
  have T := h.two hp
  obtain ⟨xs, ds, h1, h2, h3, h4, h5⟩ := h
  exact ⟨xs, ds, S _ _ h1 h2, h2, h3.samP T S, h4, h5⟩
theorem sam_base {p L : Addr} {B H1 H2 : Hp} (hB : B L = none) (S1 : Sam p B H1) (S2 : Sam L H1 H2) : Sam p B H2 := fun b o h n => S2 b o (S1 b o h n) (ne_of_none h hB)
theorem pot_l {p L : Addr} {H H' : Hp} (hp : PotAt H p) (hn : L ≠ p) (S : Sam L H H') : PotAt H' p := by
  obtain ⟨n, hp⟩ := hp
  exact ⟨n, S _ _ hp fun z => hn z.symm⟩
section
variable {K : PySem.W.Frag} {p a : Addr} {ks : KS} {te : TE} {Γ : Addr → St → Hp → Prop}
theorem app_ok (r : ∀ L σ H Q, Γ L σ H → Two H p L → (∀ v d H', Same H H' → D2 H' p L v d → Th 2 4 d → Q v H') → te σ H Q) {D : Ends} {H : Hp} {σ : St} {L : Addr} {n : Nat} (g : Γ L σ H) (hp : PotAt H p) (h6 : σ[6]? = some (some (.ref L))) (hf : Fd p L n H) (hn : n ≤ 900)
    (q : ∀ H', Sam L H H' → PotAt H' p → Fd p L (n + 1) H' → D.nx σ H') : tDrop (tBM K "list" rAppend (tVar 6) (tCons te tNil)) D σ H := by
  have T := hf.two hp
  obtain ⟨xs, ds, h1, h2, h3, h4, h5⟩ := hf
  have hl := h3.a.length
  refine ⟨.ref L, h6, .inl ⟨rfl, _, SqL.of h1⟩, r L σ H _ g T fun v d H1 S1 D1 z1 => ?_⟩
  have T1 := T.same S1
  have S2 : Sam L H1 (upd H1 L (.lst (xs ++ [v]))) := fun b o hb hne => by rw [upd_ne hne]; exact hb
  have S3 : Sam L H (upd H1 L (.lst (xs ++ [v]))) := fun b o hb hne => S2 b o (S1 b o hb) hne
  have A2 := (h3.same T S1).samL T1 S2
  have B2 := D1.samL T1 S2
  refine ⟨L, xs, v, rfl, rfl, S1 _ _ h1, small1000 (by omega), q _ S3 (pot_l hp h2 S3) ⟨xs ++ [v], ds ++ [d], upd_same, h2, ⟨A2.a.append (.cons B2.a .nil), A2.b.append (.cons B2.b .nil)⟩, by rw [List.length_append]; show ds.length + 1 ≤ n + 1; omega, fun e he => ?_⟩⟩
  rcases List.mem_append.mp he with z | z
  · exact h5 e z
  · rw [List.mem_singleton.mp z]; exact z1
/-- and the thing at hand -/
def Γ6 (p a : Addr) (ks : KS) : Addr → St → Hp → Prop := fun L σ H => RG p a ks σ H ∧ ∃ v d, σ[9]? = some (some v) ∧ D2 H p L v d ∧ Th 2 2 d
theorem ks_6 : Ks p (Γ6 p a ks) := fun L σ H H' g T S => by
  obtain ⟨g1, v, d, e, D, z⟩ := g
  exact ⟨ks_r L σ H H' g1 T S, v, d, e, D.same T S, z⟩
theorem to_r : ∀ L σ H, Γ6 p a ks L σ H → Γr p a ks L σ H := fun L σ H g => g.1
/-- things put in one by one -/
theorem loop_ok (r : ∀ L σ H Q, Γ6 p a ks L σ H → Two H p L → (∀ v d H', Same H H' → D2 H' p L v d → Th 2 4 d → Q v H') → te σ H Q) {D : Ends} {H : Hp} {σ : St} {L l : Addr} {n m : Nat} {xs : List V} {ds : List PyData} (g : RG p a ks σ H) (hp : PotAt H p) (h6 : σ[6]? = some (some (.ref L))) (hf : Fd p L n H) (hl : H l = some (.lst xs)) (hlL : l ≠ L)
    (hd : D2A H p L xs ds) (hz : ∀ d ∈ ds, Th 2 2 d) (hx : xs.length = m) (hn : n + m ≤ 900) (q : ∀ σ' H', Sam L H H' → PotAt H' p → RG p a ks σ' H' → σ'[6]? = some (some (.ref L)) → Fd p L (n + m) H' → D.nx σ' H') :
    ∃ W : Nat → Nat → St → Hp → Prop, (∃ m, W 0 m σ H) ∧ ∀ i m σ H, W i m σ H →
      ((Itl K l).stop i H ∧ D.nx σ H) ∨ ((Itl K l).go i H ∧ ∃ N : St → Hp → Prop, (∀ σ' H', N σ' H' → ∃ m', m' < m ∧ W (i + 1) m' σ' H') ∧ ∀ x H', (Itl K l).yld i H x H' → gName 9 x σ H' fun σ2 H2 => (tDrop (tBM K "list" rAppend (tVar 6) (tCons te tNil))) { D with nx := N, ct := N, bk := D.nx } σ2 H2) := by
  refine for_list (xs := xs) (fun j σ' H' => Sam L H H' ∧ PotAt H' p ∧ RG p a ks σ' H' ∧ σ'[6]? = some (some (.ref L)) ∧ Fd p L (n + j) H') ⟨Sam.refl, hp, g, h6, hf⟩ ?_ ?_ ?_
  · rintro j σ' H' hj ⟨S, _⟩
    exact SqL.of (S _ _ hl hlL)
  · rintro j x σ' H' hx' ⟨S, hp', g', h6', hf'⟩
    have hj := (List.getElem?_eq_some_iff.mp hx').1
    obtain ⟨d, hd1, Dx⟩ := hd.a.get' hx'
    obtain ⟨d', hd2, Dx'⟩ := hd.b.get' hx'
    rw [hd1] at hd2
    cases hd2
    have D2x : D2 H' p L x d := D2.samL (hf.two hp) S ⟨Dx, Dx'⟩
    refine app_ok r (L := L) (n := n + j) ⟨g'.set (by decide), x, d, List.getElem?_set_self (by rw [g'.sl]; decide), D2x, hz d (List.mem_of_getElem? hd1)⟩ hp' (by rw [List.getElem?_set_ne (by decide)]; exact h6') hf' (by omega) fun H2 S2 hp2 hf2 => ?_
    obtain ⟨xs2, _, hL2, _⟩ := id hf'
    exact ⟨S.trans S2, hp2, (g'.set (by decide)).keep ⟨_, hL2⟩ S2, by rw [List.getElem?_set_ne (by decide)]; exact h6', hf2⟩
  · rintro σ' H' ⟨S, hp', g', h6', hf'⟩
    exact q σ' H' S hp' g' h6' (by rw [← hx]; exact hf')
end
end K1


set_option Elab.async false
set_option linter.all false
set_option maxRecDepth 100000
set_option maxHeartbeats 1600000
namespace K1
open PySem L2 LN
/-- with the eight more -/
def Γ3 (p a : Addr) (ks : KS) : Addr → St → Hp → Prop := fun L σ H => RG p a ks σ H ∧ ∃ t vs, σ[5]? = some (some (.ref t)) ∧ H t = some (.tup vs) ∧ vs.length = 8 ∧ ∀ v ∈ vs, PairIn H v
def n12 : List Str := ["A", "0", " ", "_", "~", "a", "z", "\n", "\t", "`", "{", "-"]
theorem n12_asc : ∀ x ∈ n12, x.length ≤ 1 ∧ ∀ c ∈ x.cps.toList, c < 128 := by decide +kernel
theorem cut_mem {x : Str} {lo hi : Option Int} : ∀ c ∈ (cutS x lo hi).cps.toList, c ∈ x.cps.toList := by
  intro c hc
  have hc : c ∈ ((x.cps.toList.drop (HT.sIx x.length 0 lo)).take (HT.sIx x.length x.length hi - HT.sIx x.length 0 lo)) := by
    have : (cutS x lo hi).cps.toList = ((x.cps.toList.drop (HT.sIx x.length 0 lo)).take (HT.sIx x.length x.length hi - HT.sIx x.length 0 lo)) := by
      show (List.toArray _).toList = _
      simp
    rw [this] at hc
    exact hc
  exact List.mem_of_mem_drop (List.mem_of_mem_take hc)
theorem app_len (x y : Str) : (x ++ y).length = x.length + y.length := by
  show (x ++ y).cps.toList.length = _
  rw [app_cps, List.length_append]
  rfl
def oddN (x : Str) (c : Int) (y : Str) : Str := cutS x none (some c) ++ y ++ cutS x (some c) none
theorem asc_odd {x y : Str} {c : Int} (hx : NmOk x) (hy : y ∈ n12) : Asc 2 (oddN x c y) := by
  obtain ⟨h1, h2, h3⟩ := hx
  obtain ⟨g1, g2⟩ := n12_asc y hy
  refine ⟨?_, fun e he => ?_⟩
  · unfold oddN
    rw [app_len, app_len]
    have a1 := cutS_length x none (some c)
    have a2 := cutS_length x (some c) none
    omega
  · unfold oddN at he
    rw [app_cps, app_cps] at he
    rcases List.mem_append.mp he with z | z
    · rcases List.mem_append.mp z with z | z
      · have := (h3 e (cut_mem e z)).2; omega
      · exact g2 e z
    · have := (h3 e (cut_mem e z)).2; omega
section
variable {P : Program} {w : World} {K : PySem.W.Frag} {mg : Str → Option Value} {base : Heap}
variable {f : Addr} {cdv : Value} {A : Around} {outer : List Env} {s : Shared} {H0 : Hp} {E0' : XK} {fT fO : Addr} {fdT fdO : FuncData} {p a : Addr} {ks : KS}
theorem ks_3 : Ks p (Γ3 p a ks) := fun L σ H H' g T S => by
  obtain ⟨g1, t, vs, e, e2, l, h⟩ := g
  exact ⟨ks_r L σ H H' g1 T S, t, vs, e, S _ _ e2, l, fun v hv => (h v hv).same S⟩
theorem of_3 : ∀ L σ H, Γ3 p a ks L σ H → Γr p a ks L σ H := fun L σ H g => g.1
theorem w_more {q : Pos} : Gw (XRw P w K mg base f cdv A outer s H0 E0') p (Γ3 p a ks) (.Name "_law_more" q) (TpL 3 8) := w_var (pv 5) fun L σ H g => by
  obtain ⟨g1, t, vs, e, e2, l, h⟩ := g
  obtain ⟨ds, h1, h2, h3⟩ := pairs_dq h
  exact ⟨_, .tuple ds, e, ⟨.tup e2 (h1 _), .tup e2 (h1 _)⟩, ds, rfl, by omega, h3⟩
theorem wk_list {q1 q2 q3 : Pos} (c : KOk ks) (hL : mg "list" = none) : Gw (XRw P w K mg base f cdv A outer s H0 E0') p (Γr p a ks) (.Call (.Name "list" q1) [.Name "_law_kinds_here" q2] [] q3) (Th 2 4) := by
  refine ⟨_, pe_callTy call_list_ofN (by rfl) hL (by decide +kernel) (pa_cons (pv 1) pa_nil), fun L σ H Q g T q => ?_⟩
  obtain ⟨ps, ha, hps⟩ := g.hk
  refine ⟨_, g.s1, a, _, rfl, .inr (SqT.of ha), fun l hl hm => ?_⟩
  obtain ⟨ys, hy⟩ := T.p
  obtain ⟨zs, hz⟩ := T.l
  have S := same_new (o := .lst (ps.map V.ref)) hl
  have D := D2A.same T S ⟨kD_dq (p := p) hps, kD_dq (p := L) hps⟩
  exact q (.ref l) (.list (kD ks)) _ S ⟨.lst upd_same (fun z => ne_of_none hy hl z.symm) hm D.a, .lst upd_same (fun z => ne_of_none hz hl z.symm) hm D.b⟩ (th_lst (m := 1) (by rw [kD_len]; have := c.le8; omega) (th_kD c))
theorem wk_at {q1 q2 q3 : Pos} {lv : Nat} (c : KOk ks) : Gw (XRw P w K mg base f cdv A outer s H0 E0') p (Γr p a ks) (.Subscript (.Name "_law_kinds_here" q1) (.Name "_law_to" q2) q3) (Th 2 (lv + 1)) := by
  refine ⟨_, pe_ix ix_tup (pv 1) (pv 2) (fun _ _ => rfl), fun L σ H Q g T q => ?_⟩
  obtain ⟨i, k, e, e2, e3, e4⟩ := g.s2
  obtain ⟨ps, ha, hps⟩ := g.hk
  have hpl : ps.length = ks.length := Paired.length hps
  have hi := (List.getElem?_eq_some_iff.mp e).1
  have hi' : i < ps.length := by omega
  obtain ⟨k', hk, hpk⟩ := paired_at i hps (List.getElem?_eq_getElem hi')
  have hm := List.mem_of_getElem? hk
  refine ⟨_, g.s1, _, e2, a, _, _, .ref ps[i], rfl, rfl, SqT.of ha, atI_nat (by rw [List.getElem?_map, List.getElem?_eq_getElem hi']; rfl), ?_⟩
  exact q _ (.tuple [.str k'.1, .int (k'.2 : Int)]) H (Same.refl H) ⟨.tup hpk (.cons (.str _) (.cons (.int _) .nil)), .tup hpk (.cons (.str _) (.cons (.int _) .nil))⟩ (th_sg (c.nm _ hm) (c.ar _ hm))
def lstE : Stmt → List Expr
  | .Assign _ (.List es _) _ => es
  | .For _ (.List es _) _ _ _ => es
  | .For _ (.BinOp _ _ (.List es _) _) _ _ _ => es
  | .Return (some (.BinOp _ _ (.List es _) _)) _ => es
  | _ => []
theorem gs3 (c : KOk ks) (B : Blt mg) (hL : mg "list" = none) : Gws (XRw P w K mg base f cdv A outer s H0 E0') p (Γ3 p a ks) (lstE (rst 3)) (Th 2 4) 7 := by
  have kk : ∀ {q : Pos}, Gw (XRw P w K mg base f cdv A outer s H0 E0') p (Γ3 p a ks) (.Name "_law_kinds_here" q) (TpL 3 8) := w_env (wk_all c (pv 1)) of_3
  have il : ∀ {q1 q2 q3 : Pos}, Gi (XRw P w K mg base f cdv A outer s H0 E0') (Γ3 p a ks) (.Call (.Name "len" q1) [.Name "_law_kinds_here" q2] [] q3) := by
    intro q1 q2 q3
    obtain ⟨t, h, r⟩ := ik_len (X := XRw P w K mg base f cdv A outer s H0 E0') (p := p) (a := a) (ks := ks) (e := .Name "_law_kinds_here" q2) (p2 := q1) (pos := q3) rfl (by rfl) B.len (pv 1)
    exact ⟨t, h, fun L σ H Q g q => r L σ H Q g.1 q⟩
  exact w_cons ks_3 (w_weak kk fun d z => z.th (by decide))
    (w_cons ks_3 (w_env (wk_list c hL) of_3)
    (w_cons ks_3 (w_weak (w_tup (lv := 3) w_nil (by decide)) fun d z => z.th (by decide))
    (w_cons ks_3 (w_weak w_more fun d z => z.th (by decide))
    (w_cons ks_3 (w_weak (w_cat ks_3 w_more (w_tup (w_cons ks_3 (w_weak (w_tup (lv := 2) (w_cons ks_3 (w_str ⟨by decide, by decide +kernel⟩) (w_cons ks_3 (w_int (by decide)) w_nil)) (by decide)) fun d z => z.th (by decide)) w_nil) (by decide)) (by decide)) fun d z => z.th (by decide))
    (w_cons ks_3 (w_weak (w_cat ks_3 kk (w_cutHi ks_3 kk i_int) (by decide)) fun d z => z.th (by decide))
    (w_cons ks_3 (w_weak (w_cat ks_3 kk (w_cutHi ks_3 w_more (i_sub i_int il)) (by decide)) fun d z => z.th (by decide)) w_nil))))))
theorem rs3 (c : KOk ks) (B : Blt mg) (hL : mg "list" = none) : ∃ t', PS (XRw P w K mg base f cdv A outer s H0 E0') (rst 3) t' ∧ ∀ (D : Ends) (H : Hp) (σ : St), Γ3 p a ks p σ H → PotAt H p →
      (∀ (L : Addr) (B' H' : Hp), Same H B' → B' L = none → Same B' H' → PotAt H' p → Fd p L 7 H' → D.nx (σ.set 6 (some (.ref L))) H') → t' D σ H := by
  obtain ⟨t, h, r⟩ := gs3 (P := P) (w := w) (K := K) (mg := mg) (base := base) (f := f) (cdv := cdv) (A := A) (outer := outer) (s := s) (H0 := H0) (E0' := E0') (p := p) (a := a) c B hL
  refine ⟨_, ps_set (i := 6) scR.nd rfl (Or.inl rfl) (pe_lst h), fun D H σ g hp q => ?_⟩
  refine r p σ H _ g ⟨potL hp, potL hp⟩ fun vs ds H1 S1 D1 l1 z1 => ?_
  refine ⟨zz (by rw [D1.a.length, l1]; decide), fun L hL' => ?_⟩
  have hp1 := hp.same S1
  obtain ⟨n0, hp10⟩ := id hp1
  have S2 := same_new (o := .lst vs) hL'
  have hLp : L ≠ p := fun z => ne_of_none hp10 hL' z.symm
  have A2 := DqAll.still (stillL (potL hp1) S2) ds vs D1.a
  have B1 := DqAll.fresh hL' ds vs D1.a
  have B2 : DqAll (upd H1 L (.lst vs)) L vs ds := by
    have B1' : ∀ (ds : List PyData) (vs' : List V), DqAll H1 L vs' ds → DqAll H1 p vs' ds → DqAll (upd H1 L (.lst vs)) L vs' ds := fun ds vs' h1 h2 => by
      have := DqAll.two (q := L) (potL hp1) (Sam.of S2) ds vs' h2 h1
      exact this
    exact B1' ds vs B1 D1.a
  exact q L H1 _ S1 hL' S2 (hp1.same S2) ⟨vs, ds, upd_same, hLp, ⟨A2, B2⟩, by omega, z1⟩
theorem rs4 (B : Blt mg) (T : Known P w K mg base CX0 2 "_law_take" fT fdT ["_law_pot_here", "_law_far"] spTake) (hr : Room 2 (XRw P w K mg base f cdv A outer s H0 E0').A) :
    ∃ t', PS (XRw P w K mg base f cdv A outer s H0 E0') (rst 4) t' ∧ ∀ (D : Ends) (H : Hp) (σ : St) (x : Str), σ[0]? = some (some (.ref p)) → σ[3]? = some (some (.str x)) → x.length ≤ 6 → PotAt H p →
      (∀ (c : Int) (H' : Hp), Sam p H H' → PotAt H' p → D.nx (σ.set 7 (some (.int c))) H') → t' D σ H := by
  refine ⟨_, ps_set (i := 7) scR.nd rfl (Or.inr rfl) (pe_call T.G hr (by rfl) T.m T.k T.b .nil pass0 (pa_cons (pv 0) (pa_cons (pe_op op_add (pe_callB call_len_str (by rfl) B.len PySem.boot_len (pa_cons (pv 3) pa_nil)) pe_int) pa_nil))), ?_⟩
  intro D H σ x s0 s3 hx hp hN
  obtain ⟨n0, hp0⟩ := id hp
  refine ⟨_, s0, _, s3, x, rfl, zz (by omega), _, _, rfl, rfl, p, n0, _, rfl, hp0, by omega, ?_, ?_⟩
  · have e : (((x.length : Nat) : Int) + 1).natAbs = x.length + 1 := by omega
    rw [e]
    exact Nat.lt_of_le_of_lt (Nat.log2_le_self _) (by omega)
  exact hN _ _ Sam.upd ⟨_, upd_same⟩
end
end K1


set_option Elab.async false
set_option linter.all false
set_option maxRecDepth 100000
set_option maxHeartbeats 400000
namespace K1
open PySem L2 LN
def rst5 (es : List Expr) : Stmt := match rst 5 with
  | .Assign t (.ListComp elt [⟨tg, .List _ p1, ifs, n⟩] scope pos) c => .Assign t (.ListComp elt [⟨tg, .List es p1, ifs, n⟩] scope pos) c
  | s => s
def es5 : List Expr := match rst 5 with
  | .Assign _ (.ListComp _ [⟨_, .List es _, _, _⟩] _ _) _ => es
  | _ => []
section
variable {P : Program} {w : World} {K : PySem.W.Frag} {mg : Str → Option Value} {base : Heap}
variable {f : Addr} {cdv : Value} {A : Around} {outer : List Env} {s : Shared} {H0 : Hp} {E0' : XK} {fT fO : Addr} {fdT fdO : FuncData} {p a : Addr} {ks : KS}
theorem rs5g (es : List Expr) (hes : strsOf es = some n12) : ∃ t', PS (XRw P w K mg base f cdv A outer s H0 E0') (rst5 es) t' ∧ ∀ (D : Ends) (H : Hp) (σ : St) (x : Str) (c : Int), σ.length = 13 → σ[3]? = some (some (.str x)) → σ[7]? = some (some (.int c)) → NmOk x →
      (∀ (l : Addr) (H' : Hp), H l = none → Same H H' → H' l = some (.lst (n12.map fun y => .str (oddN x c y))) → D.nx (σ.set 8 (some (.ref l))) H') → t' D σ H := by
  refine ⟨_, ps_setLc (i := 8) (own := [("_law_sign", 11)]) (g := gName 11) (by rfl) scR.nd rfl rfl (sw_true rfl rfl rfl (by decide +kernel)) (pi_list (pe_lst (pa_strs (xs := n12) (strs_of hes))))
    (blkOk_by (own := [("_law_sign", 11)]) (N := NR) (sc := defScope sRow) (by decide +kernel)) (fun _ _ _ _ _ => pg_name (i := 11) scR.nd rfl (Or.inl rfl)) (fun _ _ _ _ _ => pts_nil)
    (fun _ _ _ _ _ => pe_op op_add_str (pe_op op_add_str (pe_slice sl_str (pv 3) po_none (po_some (pv 7))) (pv 11)) (pe_slice sl_str (pv 3) (po_some (pv 7)) po_none)), ?_⟩
  intro D H σ x c sl s3 s7 hx q
  have hx6 := hx.2.1
  refine ⟨by show 12 ≤ sizeLine; decide, fun l hl => ⟨l, rfl, ⟨_, SqL.of upd_same⟩, fun L hL => ?_⟩⟩
  have S1 := same_new (o := .lst (n12.map V.str)) hl
  have hLl : H L = none := by
    by_cases e : L = l
    · rw [e]; exact hl
    · rw [upd_ne e] at hL; exact hL
  refine lc_valsL (xs := n12.map V.str) (ys := n12.map fun y => .str (oddN x c y)) hL (by decide) (by rw [List.length_map, List.length_map]) (SqL.of upd_same) ?_ ?_
  · intro i u y H1 Q' hu hy S2 k
    rw [List.getElem?_map] at hu hy
    obtain ⟨z, hz, rfl⟩ := Option.map_eq_some_iff.mp hu
    rw [hz] at hy
    cases hy
    have hm := List.mem_of_getElem? hz
    have h1 := (n12_asc z hm).1
    have a1 := cutS_length x none (some c)
    have a2 := cutS_length x (some c) none
    refine ⟨wipe1, _, (look1' (by decide)).trans s3, _, (look1' (by decide)).trans s7, _, rfl, x, rfl, zz (by omega), _, look1 (by rw [sl]; decide), _, _, rfl, rfl, zz (by omega), _, (look1' (by decide)).trans s3, _, (look1' (by decide)).trans s7, _, rfl, x, rfl, zz (by omega), _, _, rfl, rfl, zz (by rw [app_len]; omega), k _ (Same.refl _)⟩
  · intro H2 S2 hL2
    exact q L H2 hLl (S1.trans S2) hL2
end
end K1


set_option Elab.async false
set_option linter.all false
set_option maxRecDepth 100000
set_option maxHeartbeats 800000
namespace K1
open PySem L2 LN
def appE : Stmt → Expr
  | .Expr (.Call _ [e] _ _) _ => e
  | _ => .Constant .none 0 ⟨0, 0, 0, 0⟩
def fb6 (i : Nat) : Stmt := (forB (rst i)).getD 0 (.Pass ⟨0, 0, 0, 0⟩)
theorem fb6_eq : [fb6 6] = forB (rst 6) := by kernel_rfl
theorem fb7_eq : [fb6 7] = forB (rst 7) := by kernel_rfl
theorem strs_d2 {H : Hp} {p L : Addr} : ∀ ys : List Str, D2A H p L (ys.map V.str) (ys.map PyData.str)
  | [] => ⟨.nil, .nil⟩
  | y :: ys => ⟨.cons (.str _) (strs_d2 (p := p) (L := L) ys).a, .cons (.str _) (strs_d2 (p := p) (L := L) ys).b⟩
theorem wipe2 {σ : St} {i j : Nat} {v u : Option V} (h : i ≠ j) : wipe (((wipe σ [i, j]).set i v).set j u) [i, j] = wipe σ [i, j] := by
  show ((((((σ.set j none).set i none).set i v).set j u).set j none).set i none) = (σ.set j none).set i none
  refine List.ext_getElem? fun n => ?_
  by_cases h1 : i = n
  · subst h1; simp [List.getElem?_set]
  · by_cases h2 : j = n
    · subst h2; simp [List.getElem?_set, h1]
    · simp [List.getElem?_set, h1, h2]
theorem look2 {σ : St} {i j : Nat} {v u : Option V} (h : i ≠ j) (hi : i < σ.length) : (((wipe σ [i, j]).set i v).set j u)[i]? = some v := by
  show ((((σ.set j none).set i none).set i v).set j u)[i]? = _
  rw [List.getElem?_set_ne (fun z => h z.symm), List.getElem?_set_self (by rw [List.length_set, List.length_set]; exact hi)]
theorem look2' {σ : St} {i j : Nat} {v u : Option V} (hj : j < σ.length) : (((wipe σ [i, j]).set i v).set j u)[j]? = some u := by
  show ((((σ.set j none).set i none).set i v).set j u)[j]? = _
  rw [List.getElem?_set_self (by rw [List.length_set, List.length_set, List.length_set]; exact hj)]
section
variable {P : Program} {w : World} {K : PySem.W.Frag} {mg : Str → Option Value} {base : Heap}
variable {f : Addr} {cdv : Value} {A : Around} {outer : List Env} {s : Shared} {H0 : Hp} {E0' : XK} {fT fO : Addr} {fdT fdO : FuncData} {p a : Addr} {ks : KS}
theorem w_one {q : Pos} : Gw (XRw P w K mg base f cdv A outer s H0 E0') p (Γ6 p a ks) (.Name "_law_one" q) (Th 2 2) := w_var (pv 9) fun L σ H g => by
  obtain ⟨_, v, d, e, D, z⟩ := g
  exact ⟨v, d, e, D, z⟩
theorem w_mul {q1 q2 q3 : Pos} {j} {lv : Nat} (c : KOk ks) : Gw (XRw P w K mg base f cdv A outer s H0 E0') p (Γr p a ks) (.BinOp (.Name "_law_name_here" q1) .Mult (.Constant (.int 7) j q2) q3) (Th 2 lv) := by
  refine ⟨_, pe_op op_mulS (pv 3) pe_int, fun L σ H Q g T q => ?_⟩
  obtain ⟨i, k, e, e2, e3, e4⟩ := g.s2
  obtain ⟨h1, h6, h3⟩ := c.nm k (List.mem_of_getElem? e)
  refine ⟨_, e3, k.1, 7, rfl, rfl, by decide, by decide, h1, by omega, fun z hz hm => q _ (.str z) H (Same.refl H) ⟨.str _, .str _⟩ (.str ⟨by omega, fun c hc => ?_⟩)⟩
  have := (h3 c (hm c hc)).2
  omega
theorem w_rev {q1 q2 q3 q4 q5 : Pos} {j} {lv : Nat} (c : KOk ks) : Gw (XRw P w K mg base f cdv A outer s H0 E0') p (Γr p a ks) (.Subscript (.Name "_law_name_here" q1) (.Slice none none (some (.UnaryOp .USub (.Constant (.int 1) j q2) q3)) q4) q5) (Th 2 lv) := by
  refine ⟨_, pe_revS (pv 3) (pe_un un_neg pe_int), fun L σ H Q g T q => ?_⟩
  obtain ⟨i, k, e, e2, e3, e4⟩ := g.s2
  obtain ⟨h1, h6, h3⟩ := c.nm k (List.mem_of_getElem? e)
  refine ⟨_, e3, _, rfl, k.1, rfl, rfl, by omega, fun z hz hm => q _ (.str z) H (Same.refl H) ⟨.str _, .str _⟩ (.str ⟨by omega, fun c hc => ?_⟩)⟩
  have := (h3 c (hm c hc)).2
  omega
theorem gs6 (c : KOk ks) : Gws (XRw P w K mg base f cdv A outer s H0 E0') p (Γr p a ks) (lstE (rst 6)) (Th 2 2) 9 :=
  w_cons ks_r (w_str ⟨by decide, by decide +kernel⟩) (w_cons ks_r (w_mul c) (w_cons ks_r (w_str ⟨by decide, by decide +kernel⟩) (w_cons ks_r (w_str ⟨by decide, by decide +kernel⟩) (w_cons ks_r (w_rev c) (w_cons ks_r w_non (w_cons ks_r (w_int (by decide))
    (w_cons ks_r (w_weak (w_lst (lv := 1) (w_cons ks_r (wk_name c (pv 3)) w_nil) (by decide)) fun d z => z.th (by decide)) (w_cons ks_r (w_weak (w_tup (lv := 1) (w_cons ks_r (wk_name c (pv 3)) w_nil) (by decide)) fun d z => z.th (by decide)) w_nil))))))))
theorem gs7 : Gws (XRw P w K mg base f cdv A outer s H0 E0') p (Γr p a ks) (lstE (rst 7)) (Th 2 2) 11 :=
  w_cons ks_r (w_neg (by decide)) (w_cons ks_r (w_int (by decide)) (w_cons ks_r (w_int (by decide)) (w_cons ks_r (w_int (by decide)) (w_cons ks_r (w_int (by decide)) (w_cons ks_r w_bl (w_cons ks_r w_bl (w_cons ks_r w_non (w_cons ks_r (w_str ⟨by decide, by decide +kernel⟩)
    (w_cons ks_r (w_weak (w_tup (lv := 1) (w_cons ks_r (w_int (by decide)) w_nil) (by decide)) fun d z => z.th (by decide)) (w_cons ks_r w_pow w_nil))))))))))
theorem ge6 (c : KOk ks) : Gw (XRw P w K mg base f cdv A outer s H0 E0') p (Γ6 p a ks) (appE (fb6 6)) (Th 2 4) :=
  wk_put c ks_6 to_r (pv 1) (pv 2) (pv 1) (pv 2) (w_weak (w_tup (lv := 2) (w_cons ks_6 w_one (w_cons ks_6 (w_env (wk_below c (pv 4)) to_r) w_nil)) (by decide)) fun d z => z.th (by decide))
theorem ge7 (c : KOk ks) : Gw (XRw P w K mg base f cdv A outer s H0 E0') p (Γ6 p a ks) (appE (fb6 7)) (Th 2 4) :=
  wk_put c ks_6 to_r (pv 1) (pv 2) (pv 1) (pv 2) (w_weak (w_tup (lv := 2) (w_cons ks_6 (w_env (wk_name c (pv 3)) to_r) (w_cons ks_6 w_one w_nil)) (by decide)) fun d z => z.th (by decide))
theorem ge9 (c : KOk ks) : Gw (XRw P w K mg base f cdv A outer s H0 E0') p (Γr p a ks) (appE (rst 9)) (Th 2 4) :=
  wk_put c ks_r (fun _ _ _ g => g) (pv 1) (pv 2) (pv 1) (pv 2) (w_weak (w_lst (lv := 2) (w_cons ks_r (wk_name c (pv 3)) (w_cons ks_r (wk_below c (pv 4)) w_nil)) (by decide)) fun d z => z.th (by decide))
theorem ge8 (c : KOk ks) (B : Blt mg) : Gw (XRw P w K mg base f cdv A outer s H0 E0') p (Γr p a ks) (appE (rst 8)) (Th 2 4) := by
  refine ⟨_, pe_callTy call_tuple_of (by rfl) B.tuple (by decide +kernel) (pa_cons (pe_lc (own := [("_law_one", 9), ("_law_many", 12)]) (g := gTup K 2 (gCons (gName 9) (gCons (gName 12) gNil))) (by rfl) scR.nd (pi_tup (pv 1))
      (blkOk_by (own := [("_law_one", 9), ("_law_many", 12)]) (N := NR) (sc := defScope sRow) (by decide +kernel)) (fun _ _ _ _ _ => pg_tup (by rfl) (pgs_cons (pg_name (i := 9) scR.nd rfl (Or.inl rfl)) (pgs_cons (pg_name (i := 12) scR.nd rfl (Or.inl rfl)) pgs_nil))) (fun _ _ _ _ _ => pts_nil)
      (fun _ _ _ _ _ => pe_tup (pa_cons (pv 9) (pa_cons (pe_callB (call_max2 rfl) (by rfl) B.mx PyProof.Rows.boot_max (pa_cons pe_int (pa_cons (pv 12) pa_nil))) pa_nil)))) pa_nil), fun L σ H Q g T q => ?_⟩
  obtain ⟨ps, ha, hps⟩ := g.hk
  have hpl : ps.length = ks.length := Paired.length hps
  have h8 := c.le8
  refine ⟨_, g.s1, a, rfl, ⟨_, SqT.of ha⟩, fun D hD => ?_⟩
  refine lc_tup (xs := ps.map V.ref) (fun j H3 => Same H H3 ∧ PairsAt H3 D j) ⟨same_new hD, [], upd_same, rfl, fun v z => nomatch z⟩ (fun i H3 _ h => h.1.seqT (SqT.of ha)) ?_ ?_
  · rintro i x H3 hx ⟨S3, vs, hvs, hn, hv⟩
    have hi := (List.getElem?_eq_some_iff.mp hx).1
    rw [List.length_map] at hi
    rw [List.getElem?_map] at hx
    obtain ⟨r, hr, rfl⟩ := Option.map_eq_some_iff.mp hx
    obtain ⟨k, hk, hpk⟩ := paired_at i hps hr
    have hm := List.mem_of_getElem? hk
    refine ⟨r, _, rfl, SqT.of (S3 _ _ hpk), rfl, _, _, rfl, _, _, rfl, rfl, wipe2 (by decide), ?_⟩
    unfold tYes
    refine iteT ⟨_, look2 (by decide) (by rw [g.sl]; decide), _, look2' (by rw [g.sl]; decide), _, _, rfl, by show 2 ≤ sizeLine; decide, fun t ht => ?_⟩
    obtain ⟨g1, g2, g3⟩ := PairsAt.more (x := k.1) (m := if (k.2 : Int) > 1 then (k.2 : Int) else 1) hD S3 hvs hn hv ht (asc_nm (c.nm k hm)) (by have := c.ar k hm; split <;> omega) rfl
    exact ⟨vs, g1, small1000 (by omega), g2, g3⟩
  · rintro H3 ⟨S3, vs, hvs, hn, hv⟩
    refine ⟨D, vs, rfl, .inl ⟨SqL.of hvs, fun t ht => ?_⟩⟩
    have S4 := same_new (o := .tup vs) ht
    obtain ⟨ds, h1, h2, h3⟩ := pairs_dq fun v hv' => (hv v hv').same S4
    rw [List.length_map] at hn
    exact q (.ref t) (.tuple ds) _ (S3.trans S4) ⟨.tup upd_same (h1 _), .tup upd_same (h1 _)⟩ (th_tup (m := 1) (by omega) h3)
end
end K1


set_option Elab.async false
set_option linter.all false
set_option maxRecDepth 100000
set_option maxHeartbeats 800000
namespace K1
open PySem L2 LN
/-- what is told -/
def Fo (p l : Addr) (n : Nat) (H : Hp) : Prop := ∃ (xs : List V) (ds : List PyData), H l = some (.lst xs) ∧ l ≠ p ∧ DqAll H p xs ds ∧ ds.length ≤ n ∧ ∀ d ∈ ds, Th 2 4 d
def spRows : Sp := fun vs H Q _ => ∃ (p a : Addr) (ks : KS), vs = [.ref p, .ref a] ∧ PotAt H p ∧ KAt H a ks ∧ KOk ks ∧ ∀ (l : Addr) (H' : Hp), Sam p H H' → PotAt H' p → Fo p l 100 H' → Q (.ref l) H'
section
variable {P : Program} {w : World} {K : PySem.W.Frag} {mg : Str → Option Value} {base : Heap}
variable {f : Addr} {cdv : Value} {A : Around} {outer : List Env} {s : Shared} {H0 : Hp} {E0' : XK} {fT fO : Addr} {fdT fdO : FuncData} {p a : Addr} {ks : KS}
abbrev Nx6 (p a : Addr) (ks : KS) (L : Addr) (H : Hp) (n : Nat) (D : Ends) : Prop := ∀ σ' H', Sam L H H' → PotAt H' p → RG p a ks σ' H' → σ'[6]? = some (some (.ref L)) → Fd p L n H' → D.nx σ' H'
theorem rs6 (c : KOk ks) : ∃ t', PS (XRw P w K mg base f cdv A outer s H0 E0') (rst 6) t' ∧ ∀ (D : Ends) (H : Hp) (σ : St) (L l : Addr) (n : Nat) (ys : List Str), RG p a ks σ H → PotAt H p → σ[6]? = some (some (.ref L)) → σ[8]? = some (some (.ref l)) → H l = some (.lst (ys.map V.str)) → ys.length = 12 → (∀ y ∈ ys, Asc 2 y) → Fd p L n H → n ≤ 500 → Nx6 p a ks L H (n + 21) D → t' D σ H := by
  obtain ⟨t1, h1, r1⟩ := gs6 (P := P) (w := w) (K := K) (mg := mg) (base := base) (f := f) (cdv := cdv) (A := A) (outer := outer) (s := s) (H0 := H0) (E0' := E0') (p := p) (a := a) c
  obtain ⟨t2, h2, r2⟩ := ge6 (P := P) (w := w) (K := K) (mg := mg) (base := base) (f := f) (cdv := cdv) (A := A) (outer := outer) (s := s) (H0 := H0) (E0' := E0') (p := p) (a := a) c
  refine ⟨_, ps_for PassesOwn.never rfl (pi_list (pe_op op_cat (pv 8) (pe_lst h1))) (pg_name (i := 9) scR.nd rfl (Or.inl rfl)) (pss_of fb6_eq (pss_one (ps_expr (pe_bm PySem.F.plainAttrs_list PySem.F.slot_list_append PySem.F.type_list_append mt_append (pv 6) (pa_cons h2 pa_nil))))), ?_⟩
  clear h1 h2
  intro D H σ L l n ys g hp h6 h8 hl hy hya hf hn q
  have T := hf.two hp
  refine ⟨_, h8, r1 L σ H _ g T fun vs ds H1 S1 D1 l1 z1 => ?_⟩
  have hvl := D1.a.length
  refine ⟨zz (by omega), fun l2 hl2 => ?_⟩
  have S2 := same_new (o := .lst vs) hl2
  have S12 := S1.trans S2
  refine ⟨l, l2, _, _, rfl, rfl, S12 _ _ hl, upd_same, zz (by rw [List.length_map]; omega), fun l3 hl3 => ?_⟩
  have S3 := same_new (o := .lst (ys.map V.str ++ vs)) hl3
  have S13 := S12.trans S3
  have T13 := T.same S13
  obtain ⟨zs, hz⟩ := (T.same S12).l
  refine ⟨l3, rfl, ⟨_, SqL.of upd_same⟩, ?_⟩
  have dd := strs_d2 (H := upd (upd H1 l2 (.lst vs)) l3 (.lst (ys.map V.str ++ vs))) (p := p) (L := L) ys
  have D3 := D1.same (T.same S1) (S2.trans S3)
  refine loop_ok (n := n) (m := 21) (xs := ys.map V.str ++ vs) (ds := ys.map PyData.str ++ ds) r2 (ks_r L _ _ _ g T S13) (hp.same S13) h6 (hf.same hp S13) upd_same (fun z => ne_of_none hz hl3 z.symm) ⟨dd.a.append D3.a, dd.b.append D3.b⟩ (fun d hd => ?_) (by rw [List.length_append, List.length_map]; omega) (by omega) fun σ' H' S' hp' g' h6' hf' => ?_
  · rcases List.mem_append.mp hd with z | z
    · obtain ⟨y, hy', rfl⟩ := List.mem_map.mp z
      exact .str (hya y hy')
    · exact z1 d z
  · exact q σ' H' (fun b o hb hne => S' b o (S13 b o hb) hne) hp' g' h6' hf'
theorem rs7 (c : KOk ks) : ∃ t', PS (XRw P w K mg base f cdv A outer s H0 E0') (rst 7) t' ∧ ∀ (D : Ends) (H : Hp) (σ : St) (L : Addr) (n : Nat), RG p a ks σ H → PotAt H p → σ[6]? = some (some (.ref L)) → Fd p L n H → n ≤ 500 → Nx6 p a ks L H (n + 11) D → t' D σ H := by
  obtain ⟨t1, h1, r1⟩ := gs7 (P := P) (w := w) (K := K) (mg := mg) (base := base) (f := f) (cdv := cdv) (A := A) (outer := outer) (s := s) (H0 := H0) (E0' := E0') (p := p) (a := a) (ks := ks)
  obtain ⟨t2, h2, r2⟩ := ge7 (P := P) (w := w) (K := K) (mg := mg) (base := base) (f := f) (cdv := cdv) (A := A) (outer := outer) (s := s) (H0 := H0) (E0' := E0') (p := p) (a := a) c
  refine ⟨_, ps_for PassesOwn.never rfl (pi_list (pe_lst h1)) (pg_name (i := 9) scR.nd rfl (Or.inl rfl)) (pss_of fb7_eq (pss_one (ps_expr (pe_bm PySem.F.plainAttrs_list PySem.F.slot_list_append PySem.F.type_list_append mt_append (pv 6) (pa_cons h2 pa_nil))))), ?_⟩
  clear h1 h2
  intro D H σ L n g hp h6 hf hn q
  have T := hf.two hp
  refine r1 L σ H _ g T fun vs ds H1 S1 D1 l1 z1 => ?_
  have hvl := D1.a.length
  refine ⟨zz (by omega), fun l2 hl2 => ?_⟩
  have S2 := same_new (o := .lst vs) hl2
  have S12 := S1.trans S2
  obtain ⟨zs, hz⟩ := (T.same S1).l
  refine ⟨l2, rfl, ⟨_, SqL.of upd_same⟩, ?_⟩
  refine loop_ok (n := n) (m := 11) (xs := vs) (ds := ds) r2 (ks_r L _ _ _ g T S12) (hp.same S12) h6 (hf.same hp S12) upd_same (fun z => ne_of_none hz hl2 z.symm) (D1.same (T.same S1) S2) z1 (by omega) (by omega) fun σ' H' S' hp' g' h6' hf' => ?_
  exact q σ' H' (fun b o hb hne => S' b o (S12 b o hb) hne) hp' g' h6' hf'
theorem rs8 (c : KOk ks) (B : Blt mg) : ∃ t', PS (XRw P w K mg base f cdv A outer s H0 E0') (rst 8) t' ∧ ∀ (D : Ends) (H : Hp) (σ : St) (L : Addr) (n : Nat), RG p a ks σ H → PotAt H p → σ[6]? = some (some (.ref L)) → Fd p L n H → n ≤ 500 → Nx6 p a ks L H (n + 1) D → t' D σ H := by
  obtain ⟨t2, h2, r2⟩ := ge8 (P := P) (w := w) (K := K) (mg := mg) (base := base) (f := f) (cdv := cdv) (A := A) (outer := outer) (s := s) (H0 := H0) (E0' := E0') (p := p) (a := a) c B
  refine ⟨_, ps_expr (pe_bm PySem.F.plainAttrs_list PySem.F.slot_list_append PySem.F.type_list_append mt_append (pv 6) (pa_cons h2 pa_nil)), ?_⟩
  clear h2
  intro D H σ L n g hp h6 hf hn q
  exact app_ok r2 (L := L) (n := n) g hp h6 hf (by omega) fun H' S' hp' hf' => q σ H' S' hp' (g.keep (hf.two hp).l S') h6 hf'
theorem rs9 (c : KOk ks) : ∃ t', PS (XRw P w K mg base f cdv A outer s H0 E0') (rst 9) t' ∧ ∀ (D : Ends) (H : Hp) (σ : St) (L : Addr) (n : Nat), RG p a ks σ H → PotAt H p → σ[6]? = some (some (.ref L)) → Fd p L n H → n ≤ 500 → Nx6 p a ks L H (n + 1) D → t' D σ H := by
  obtain ⟨t2, h2, r2⟩ := ge9 (P := P) (w := w) (K := K) (mg := mg) (base := base) (f := f) (cdv := cdv) (A := A) (outer := outer) (s := s) (H0 := H0) (E0' := E0') (p := p) (a := a) c
  refine ⟨_, ps_expr (pe_bm PySem.F.plainAttrs_list PySem.F.slot_list_append PySem.F.type_list_append mt_append (pv 6) (pa_cons h2 pa_nil)), ?_⟩
  clear h2
  intro D H σ L n g hp h6 hf hn q
  exact app_ok r2 (L := L) (n := n) g hp h6 hf (by omega) fun H' S' hp' hf' => q σ H' S' hp' (g.keep (hf.two hp).l S') h6 hf'
def lastE (i : Nat) : Expr := (lstE (rst 10)).getD i (.Constant .none 0 ⟨0, 0, 0, 0⟩)
theorem ge10 (c : KOk ks) : Gw (XRw P w K mg base f cdv A outer s H0 E0') p (Γr p a ks) (lastE 0) (Th 2 4) :=
  wk_put c ks_r (fun _ _ _ g => g) (pv 1) (pv 2) (pv 1) (pv 2) (w_weak (w_tup (lv := 2) (w_cons ks_r (wk_name c (pv 3)) (w_cons ks_r (wk_below c (pv 4)) (w_cons ks_r (w_int (by decide)) w_nil))) (by decide)) fun d z => z.th (by decide))
theorem rs10 (c : KOk ks) (O : Known P w K mg base CX0 3 "_law_odd" fO fdO ["_law_pot_here"] spOdd) (hr : Room 3 (XRw P w K mg base f cdv A outer s H0 E0').A) : ∃ t', PS (XRw P w K mg base f cdv A outer s H0 E0') (rst 10) t' ∧ ∀ (D : Ends) (H : Hp) (σ : St) (L : Addr) (n : Nat), RG p a ks σ H → PotAt H p → σ[6]? = some (some (.ref L)) → Fd p L n H → n ≤ 90 →
      (∀ (l : Addr) (H' : Hp), Sam p H H' → PotAt H' p → Fo p l (n + 3) H' → D.rt (.ref l) H') → t' D σ H := by
  obtain ⟨t1, h1, r1⟩ := ge10 (P := P) (w := w) (K := K) (mg := mg) (base := base) (f := f) (cdv := cdv) (A := A) (outer := outer) (s := s) (H0 := H0) (E0' := E0') (p := p) (a := a) c
  obtain ⟨t2, h2, r2⟩ : Gw (XRw P w K mg base f cdv A outer s H0 E0') p (Γr p a ks) (lastE 1) (Th 2 4) := wk_at (lv := 3) c
  refine ⟨_, ps_ret (pe_op op_cat (pv 6) (pe_lst (pa_cons h1 (pa_cons h2 (pa_cons (pe_call O.G hr (by rfl) O.m O.k O.b .nil pass0 (pa_cons (pv 0) pa_nil)) pa_nil))))), ?_⟩
  clear h1 h2
  intro D H σ L n g hp h6 hf hn q
  have T := hf.two hp
  refine ⟨_, h6, r1 L σ H _ g T fun v1 d1 H1 S1 D1 z1 => r2 L σ H1 _ (ks_r L _ _ _ g T S1) (T.same S1) fun v2 d2 H2 S2 D2' z2 => ?_⟩
  have S02 := S1.trans S2
  have hp2 := hp.same S02
  refine ⟨_, g.s0, p, rfl, hp2, fun v3 d3 H3 S3 hp3 D3 ho => ⟨by show 3 ≤ sizeLine; decide, fun l hl => ?_⟩⟩
  have S4 := same_new (o := .lst [v1, v2, v3]) hl
  obtain ⟨xs, ds, f1, f2, f3, f4, f5⟩ := hf
  have hx := f3.a.length
  have S04 : Sam p H (upd H3 l (.lst [v1, v2, v3])) := ((Sam.of S02).trans S3).trans (Sam.of S4)
  refine ⟨L, l, xs, _, rfl, rfl, S04 _ _ f1 f2, upd_same, zz (by show xs.length + 3 ≤ 1000; omega), fun l3 hl3 => ?_⟩
  have hp4 := hp3.same S4
  have S5 := same_new (o := .lst (xs ++ [v1, v2, v3])) hl3
  have hp5 := hp4.same S5
  obtain ⟨n0, hp40⟩ := id hp4
  have S05 := S04.trans (Sam.of S5)
  have S25 : Sam p H2 (upd (upd H3 l (.lst [v1, v2, v3])) l3 (.lst (xs ++ [v1, v2, v3]))) := (S3.trans (Sam.of S4)).trans (Sam.of S5)
  have a0 := DqAll.still (stillM (potL hp) S05) _ _ f3.a
  have a1 := Dq.still (stillM (potL hp2) S25) _ _ ((D1.same (T.same S1) S2).a)
  have a2 := Dq.still (stillM (potL hp2) S25) _ _ D2'.a
  have a3 := Dq.still (stillL (potL hp3) (S4.trans S5)) _ _ D3
  refine q l3 _ S05 hp5 ⟨xs ++ [v1, v2, v3], ds ++ [d1, d2, d3], upd_same, fun z => ne_of_none hp40 hl3 z.symm, a0.append (.cons a1 (.cons a2 (.cons a3 .nil))), by rw [List.length_append]; show ds.length + 3 ≤ n + 3; omega, fun d hd => ?_⟩
  rcases List.mem_append.mp hd with z | z
  · exact f5 d z
  · simp only [List.mem_cons, List.not_mem_nil, or_false] at z
    rcases z with rfl | rfl | rfl
    · exact z1
    · exact z2
    · exact odd_th (n := 2) ho
theorem Fo.le {p l : Addr} {n m : Nat} {H : Hp} (h : Fo p l n H) (hm : n ≤ m) : Fo p l m H := by
  obtain ⟨xs, ds, h1, h2, h3, h4, h5⟩ := h
  exact ⟨xs, ds, h1, h2, h3, Nat.le_trans h4 hm, h5⟩
theorem es_ex : ∃ es, [rst 0, rst 1, rst 2, rst 3, rst 4, rst5 es, rst 6, rst 7, rst 8, rst 9, rst 10] = defBody sRow ∧ strsOf es = some n12 := ⟨es5, by kernel_rfl, by kernel_rfl⟩
theorem ok_rows {f : Addr} {fd : FuncData} (F : Fun K "_law_rows" "_law_rows" sRow f fd) (B : Blt mg) (hL : mg "list" = none) (T : Known P w K mg base CX0 2 "_law_take" fT fdT ["_law_pot_here", "_law_far"] spTake) (O : Known P w K mg base CX0 3 "_law_odd" fO fdO ["_law_pot_here"] spOdd) :
    FnOk P w K mg base CX0 4 f fd ["_law_pot_here", "_law_kinds_here"] spRows := by
  refine F.ok scR (fun vs H Q E h => ?_) (fun cdv A outer s H vs Q E hr h => ?_)
  · obtain ⟨_, _, _, rfl, _⟩ := h
    rfl
  · obtain ⟨p, a, ks, rfl, hp, ha, c, q⟩ := h
    have hr2 := hr.mono (show 2 ≤ 2 + 1 by decide)
    obtain ⟨t0, p0, r0⟩ := rs0 (f := f) (cdv := cdv) (A := A) (outer := outer) (s := s) (H0 := H) (E0' := E) B T hr2
    obtain ⟨t1, p1, r1⟩ := rs1 (P := P) (w := w) (K := K) (mg := mg) (base := base) (f := f) (cdv := cdv) (A := A) (outer := outer) (s := s) (H0 := H) (E0' := E)
    obtain ⟨t2, p2, r2⟩ := rs2 (P := P) (w := w) (K := K) (base := base) (f := f) (cdv := cdv) (A := A) (outer := outer) (s := s) (H0 := H) (E0' := E) B
    obtain ⟨t3, p3, r3⟩ := rs3 (P := P) (w := w) (K := K) (base := base) (f := f) (cdv := cdv) (A := A) (outer := outer) (s := s) (H0 := H) (E0' := E) (p := p) (a := a) c B hL
    obtain ⟨t4, p4, r4⟩ := rs4 (f := f) (cdv := cdv) (A := A) (outer := outer) (s := s) (H0 := H) (E0' := E) (p := p) B T hr2
    obtain ⟨es, hes, hst⟩ := es_ex
    obtain ⟨t5, p5, r5⟩ := rs5g (P := P) (w := w) (K := K) (mg := mg) (base := base) (f := f) (cdv := cdv) (A := A) (outer := outer) (s := s) (H0 := H) (E0' := E) es hst
    obtain ⟨t6, p6, r6⟩ := rs6 (P := P) (w := w) (K := K) (mg := mg) (base := base) (f := f) (cdv := cdv) (A := A) (outer := outer) (s := s) (H0 := H) (E0' := E) (p := p) (a := a) c
    obtain ⟨t7, p7, r7⟩ := rs7 (P := P) (w := w) (K := K) (mg := mg) (base := base) (f := f) (cdv := cdv) (A := A) (outer := outer) (s := s) (H0 := H) (E0' := E) (p := p) (a := a) c
    obtain ⟨t8, p8, r8⟩ := rs8 (P := P) (w := w) (K := K) (base := base) (f := f) (cdv := cdv) (A := A) (outer := outer) (s := s) (H0 := H) (E0' := E) (p := p) (a := a) c B
    obtain ⟨t9, p9, r9⟩ := rs9 (P := P) (w := w) (K := K) (mg := mg) (base := base) (f := f) (cdv := cdv) (A := A) (outer := outer) (s := s) (H0 := H) (E0' := E) (p := p) (a := a) c
    obtain ⟨t10, p10, r10⟩ := rs10 (f := f) (cdv := cdv) (A := A) (outer := outer) (s := s) (H0 := H) (E0' := E) (p := p) (a := a) c O hr
    refine ⟨_, pss_of hes (pss_cons p0 (pss_cons p1 (pss_cons p2 (pss_cons p3 (pss_cons p4 (pss_cons p5 (pss_cons p6 (pss_cons p7 (pss_cons p8 (pss_cons p9 (pss_one p10))))))))))), ?_⟩
    clear p0 p1 p2 p3 p4 p5 p6 p7 p8 p9 p10
    obtain ⟨n0, hp0⟩ := id hp
    refine r0 _ H p a ks _ rfl rfl hp ha c fun i H1 hi S1 hp1 => ?_
    have ha1 := ha.sam hp0 S1
    refine r1 _ H1 a ks i _ rfl rfl ha1 hi fun k hk => ?_
    refine r2 _ H1 _ rfl fun t vs H2 S2 ht hvl hv => ?_
    have hp2 := hp1.same S2
    have S02 := S1.trans (Sam.of S2)
    have g2 : RG p a ks [some (.ref p), some (.ref a), some (nV i), some (.str k.1), some (nV k.2), some (.ref t), none, none, none, none, none, none, none] H2 := ⟨ha1.same S2, rfl, rfl, ⟨i, k, hk, rfl, rfl, rfl⟩, rfl⟩
    refine r3 _ H2 _ ⟨g2, t, vs, rfl, ht, hvl, hv⟩ hp2 fun L B' H3 S3 hBL S3' hp3 hf3 => ?_
    have S0B : Sam p H B' := S02.trans (Sam.of S3)
    have g3 := (ks_r p _ _ _ g2 ⟨potL hp2, potL hp2⟩ (S3.trans S3') : RG p a ks _ H3).set (j := 6) (v := some (.ref L)) (by decide)
    have hnm := c.nm k (List.mem_of_getElem? hk)
    refine r4 _ H3 _ k.1 rfl rfl hnm.2.1 hp3 fun cc H4 S4 hp4 => ?_
    have g4 := (g3.keep (potL hp3) S4).set (j := 7) (v := some (.int cc)) (by decide)
    have hf4 := hf3.samP hp3 S4
    have SB4 : Sam p B' H4 := (Sam.of S3').trans S4
    refine r5 _ H4 _ k.1 cc rfl rfl rfl hnm fun l H5 hl S5 hl5 => ?_
    have g5 := (ks_r L _ _ _ g4 (hf4.two hp4) S5).set (j := 8) (v := some (.ref l)) (by decide)
    have hp5 := hp4.same S5
    have hf5 := hf4.same hp4 S5
    have SB5 : Sam p B' H5 := SB4.trans (Sam.of S5)
    refine r6 _ H5 _ L l 7 (n12.map fun y => oddN k.1 cc y) g5 hp5 rfl rfl (by rw [hl5, List.map_map]; rfl) (by rw [List.length_map]; rfl) (fun y hy => ?_) hf5 (by decide) fun σ6 H6 S6 hp6 g6 h6 hf6 => ?_
    · obtain ⟨z, hz, rfl⟩ := List.mem_map.mp hy
      exact asc_odd hnm hz
    have SB6 := sam_base hBL SB5 S6
    refine r7 _ H6 _ L _ g6 hp6 h6 hf6 (by decide) fun σ7 H7 S7 hp7 g7 h7 hf7 => ?_
    have SB7 := sam_base hBL SB6 S7
    refine r8 _ H7 _ L _ g7 hp7 h7 hf7 (by decide) fun σ8 H8 S8 hp8 g8 h8 hf8 => ?_
    have SB8 := sam_base hBL SB7 S8
    refine r9 _ H8 _ L _ g8 hp8 h8 hf8 (by decide) fun σ9 H9 S9 hp9 g9 h9 hf9 => ?_
    have SB9 := sam_base hBL SB8 S9
    refine r10 _ H9 _ L _ g9 hp9 h9 hf9 (by decide) fun l' H' S' hp' hf' => ?_
    exact q l' H' ((S0B.trans SB9).trans S') hp' (hf'.le (by decide))
end
end K1


set_option Elab.async false
set_option linter.all false
set_option maxRecDepth 100000
set_option maxHeartbeats 800000
namespace L2
open PySem PySem.Spec PyProof.Rows
section
variable {X : Cx}
def rReprA : List V → Hp → VK → Prop := fun vs H Q => ∃ p v d, vs = [v] ∧ Dq H p v d ∧ d.showable = true ∧ d.depth ≤ 60 ∧ d.shown.length ≤ sizeLine ∧ Q (.str d.shown) H
/-- repr of any thing -/
theorem call_reprA {k : Nat} (hr : Room k X.A) : CallR X (.builtin "repr") rReprA := by
  intro pins s σ H vs us Q I r h
  obtain ⟨p, v, d, rfl, dp, hs, hdp, hz, q⟩ := h
  cases r with
  | cons r1 r2 =>
    cases r2
    have big : ∀ a, v = .ref a → wpAny (model X.prog X.w) X.A (call (.builtin "repr") [.ref a]) (EP X pins σ Q) X.xe s := fun a e => by
      subst e
      obtain ⟨as, r3, hn⟩ := Dq.reads I d _ _ dp rfl
      exact repr_of_reads' r3 hs (fun _ => hn) hr.gd (by have := hr.un; omega) (fun _ _ e => e) (fun h' u tk hk => ⟨.str d.shown, H, I.kept (t' := tk) hk, ⟨_, rfl⟩, q⟩) hz
    cases dp with
    | non =>
      cases r1
      exact PySem.P.repr_of_none ⟨.str _, H, I.tok _, ⟨_, rfl⟩, q⟩
    | bl b =>
      cases r1
      refine PySem.P.repr_of_bool ⟨.str _, H, I.tok _, ⟨_, rfl⟩, ?_⟩
      cases b <;> exact q
    | int i =>
      obtain ⟨t, rfl⟩ := r1
      have hl : i.natAbs.log2 < 1920 := by simpa [PyData.showable] using hs
      refine PySem.P.repr_of_int hl ⟨.str _, H, I.tok _, ⟨_, rfl⟩, ?_⟩
      rw [PyData.shown_int] at q
      exact q
    | str x =>
      obtain ⟨t, rfl⟩ := r1
      have e : PyData.shown (.str x) = reprText x := by simp [PyData.shown]
      rw [e] at q hz
      exact PySem.P.repr_of_str ⟨.str _, H, I.tok _, ⟨_, rfl⟩, q⟩ hz
    | lst e n m ha => cases r1; exact big _ rfl
    | tup e ha => cases r1; exact big _ rfl
    | dct e => cases r1; exact big _ rfl
end
end L2
namespace K1
open PySem L2 LN
/-! ### how long the things are when shown -/
structure Sz (d : PyData) (w k : Nat) : Prop where
  s : d.showable = true
  l : d.leavesShort 42 = true
  w : d.weight ≤ w
  d : d.depth ≤ k
structure SzA (ds : List PyData) (w k : Nat) : Prop where
  s : PyData.showableAll ds = true
  l : PyData.leavesShortAll 42 ds = true
  w : PyData.weightAll ds ≤ w
  d : PyData.depthAll ds ≤ k
theorem Sz.le {d : PyData} {w w' k k' : Nat} (h : Sz d w k) (hw : w ≤ w') (hk : k ≤ k') : Sz d w' k' := ⟨h.s, h.l, Nat.le_trans h.w hw, Nat.le_trans h.d hk⟩
theorem sz_all {w k : Nat} : ∀ {ds : List PyData}, (∀ d ∈ ds, Sz d w k) → SzA ds ((w + 1) * ds.length) k
  | [], _ => ⟨by simp [PyData.showableAll], by simp [PyData.leavesShortAll], by simp [PyData.weightAll], by simp [PyData.depthAll]⟩
  | d :: ds, h => by
    have h1 := h d (List.mem_cons_self ..)
    have h2 := sz_all (ds := ds) fun e he => h e (List.mem_cons_of_mem _ he)
    have w1 := h1.w
    have w2 := h2.w
    have d1 := h1.d
    have d2 := h2.d
    refine ⟨?_, ?_, ?_, ?_⟩
    · simp only [PyData.showableAll, h1.s, h2.s, Bool.and_self]
    · simp only [PyData.leavesShortAll, h1.l, h2.l, Bool.and_self]
    · simp only [PyData.weightAll, List.length_cons]
      rw [Nat.mul_succ]
      omega
    · simp only [PyData.depthAll]
      omega
theorem sz_tup {ds : List PyData} {w k : Nat} (h : SzA ds w k) : Sz (.tuple ds) w (k + 1) := ⟨by simpa only [PyData.showable] using h.s, by simpa only [PyData.leavesShort] using h.l, by simpa only [PyData.weight] using h.w, by have := h.d; simp only [PyData.depth]; omega⟩
theorem sz_lst {ds : List PyData} {w k : Nat} (h : SzA ds w k) : Sz (.list ds) w (k + 1) := ⟨by simpa only [PyData.showable] using h.s, by simpa only [PyData.leavesShort] using h.l, by simpa only [PyData.weight] using h.w, by have := h.d; simp only [PyData.depth]; omega⟩
theorem sz_int {i : Int} (h : i.natAbs < 10 ^ 40) : Sz (.int i) 150 3 := by
  have hl := log_small h
  refine ⟨?_, ?_, ?_, ?_⟩
  · simp only [PyData.showable, decide_eq_true_eq]; omega
  · have h1 : (PyData.shown (.int i)).length ≤ 42 := by
      rw [PyData.shown_int, PySem.ofString_length]
      have := PySem.int_text_length_le10 (a := i) (k := 40) (by decide) h
      omega
    simp only [PyData.leavesShort, decide_eq_true_eq]
    exact h1
  · unfold PyData.weight
    split <;> omega
  · simp only [PyData.depth]; omega
theorem sz_str {x : Str} (h1 : x.cps.size ≤ 100) (h2 : (x.cps.toList.all fun c => decide (c < 16 ^ 8)) = true) : Sz (.str x) 150 3 :=
  ⟨by simp only [PyData.showable], by simp only [PyData.leavesShort]; exact h2, by simp only [PyData.weight]; omega, by simp only [PyData.depth]; omega⟩
theorem oddSz : ∀ d ∈ [PyData.none, .bool true, .bool false, .dict [], .dict [(.int 0, .int 1)]], d.showable = true ∧ d.leavesShort 42 = true ∧ d.weight ≤ 150 ∧ d.depth ≤ 3 := by decide +kernel
theorem sz_odd {d : PyData} (h : d ∈ [PyData.none, .bool true, .bool false, .dict [], .dict [(.int 0, .int 1)]]) : Sz d 150 3 := by
  obtain ⟨a, b, c, e⟩ := oddSz d h
  exact ⟨a, b, c, e⟩
def szW : Nat → Nat
  | 0 => 150
  | n + 1 => (szW n + 1) * wd 2 n
theorem szW_big : ∀ n, 150 ≤ szW n
  | 0 => Nat.le_refl _
  | n + 1 => by
    have h := szW_big n
    show 150 ≤ (szW n + 1) * wd 2 n
    have := Nat.mul_le_mul (show 150 ≤ szW n + 1 by omega) (show 1 ≤ wd 2 n from Nat.le_trans (by decide) wd_two)
    omega
theorem sz_th {n : Nat} {d : PyData} (h : Th 2 n d) : Sz d (szW n) (n + 3) := by
  induction h with
  | @int n i h => exact (sz_int (Nat.lt_of_le_of_lt h (by decide))).le (szW_big n) (by omega)
  | @str n x h =>
    refine (sz_str (x := x) ?_ ?_).le (szW_big n) (by omega)
    · have := h.1
      have e : x.cps.size = x.length := rfl
      omega
    · rw [List.all_eq_true]
      intro c hc
      exact decide_eq_true (Nat.lt_trans (h.2 c hc) (by decide))
  | @non n => exact (sz_odd (by simp)).le (szW_big n) (by omega)
  | @bl n b => exact (sz_odd (by cases b <;> simp)).le (szW_big n) (by omega)
  | @d0 n => exact (sz_odd (by simp)).le (szW_big n) (by omega)
  | @d1 n => exact (sz_odd (by simp)).le (szW_big n) (by omega)
  | @tup n ds hl h ih => exact (sz_tup (sz_all ih)).le (Nat.mul_le_mul_left _ hl) (by omega)
  | @lst n ds hl h ih => exact (sz_lst (sz_all ih)).le (Nat.mul_le_mul_left _ hl) (by omega)
theorem th_len {d : PyData} (h : Th 2 4 d) : d.shown.length ≤ sizeLine := by
  have z := sz_th h
  have e := PyData.shown_le 42 (by decide) d z.l
  have hw := z.w
  have e4 : szW 4 = 293810 := by decide
  rw [e4] at hw
  rw [sizeLine_eq]
  omega
theorem Th.row {d : PyData} (h : Th 2 4 d) : Row d := by
  rintro ds rfl
  obtain ⟨h1, h2⟩ := h.tp (m := 1)
  refine ⟨by omega, fun e he es hes => ?_⟩
  subst hes
  obtain ⟨h3, h4⟩ := (h2 _ he).tp (m := 0)
  exact ⟨by omega, fun x hx => by have := ((h4 _ hx).strs_ x rfl).1; omega⟩
theorem Th.plain {d : PyData} (h : Th 2 4 d) : Plain d := by
  rintro ds rfl es hes x hx
  obtain ⟨h1, h2⟩ := h.tp (m := 1)
  obtain ⟨h3, h4⟩ := (h2 _ hes).tp (m := 0)
  exact ((h4 _ hx).strs_ x rfl).2
end K1


set_option Elab.async false
set_option linter.all false
set_option maxRecDepth 100000
set_option maxHeartbeats 1600000
namespace K1
open PySem L2 LN
abbrev sLaw : Stmt := top 71
def spLaw (K : PySem.W.Frag) : Sp := fun vs H Q _ => ∃ (a : Addr) (ns : List Int), vs = [.ref a] ∧ SqL K H a (ns.map V.int) ∧ ns.length ≤ 63 ∧ ∀ H', Q (.bl true) H'
abbrev NLw : List Str := ["_law_script", "_law_k", "_law_pot_here", "_law_kinds_here", "_law_some", "_law_turn", "_law_thing", "_law_due", "_law_kept", "_law_way"]
theorem scLw : FnScope NLw ["_law_script"] (defScope sLaw) := ⟨rfl, rfl, rfl, by decide +kernel, rfl, by decide +kernel, by decide +kernel⟩
structure Ok (P : Program) (w : World) (K : PySem.W.Frag) (mg : Str → Option Value) (base : Heap) (fC fP fK fR fB fA fS fM : Addr) (dC dP dK dR dB dA dS dM : FuncData) : Prop where
  Ce : Known P w K mg base CX0 2 "_law_cell_at" fC dC ["_law_script", "_law_k"] (spCell K)
  Po : Known P w K mg base CX0 2 "_law_pot" fP dP ["_law_cell"] spPot
  Ki : Known P w K mg base CX0 4 "_law_kinds" fK dK ["_law_pot_here"] spKinds
  R : Known P w K mg base CX0 4 "_law_rows" fR dR ["_law_pot_here", "_law_kinds_here"] spRows
  Bn : Known P w K mg base CX0 6 "_law_bent" fB dB ["_law_pot_here", "_law_thing", "_law_deep"] (spBent 2)
  A : Known P w K mg base CX0 4 "_law_are_kinds" fA dA ["_law_thing"] spAre
  S : Known P w K mg base CX0 4 "are_signs" fS dS ["thing"] spSignsQ
  M : Known P w K mg base CX0 8 "_law_met" fM dM ["_law_way", "_law_thing"] spMet
  B : Blt mg
def kB : List Stmt := forB ((defBody sLaw).getD 0 (.Pass ⟨0, 0, 0, 0⟩))
def lkst (i : Nat) : Stmt := kB.getD i (.Pass ⟨0, 0, 0, 0⟩)
theorem kB_eq : [lkst 0, lkst 1, lkst 2, lkst 3, lkst 4] = kB := by kernel_rfl
def tB3 : List Stmt := forB (lkst 3)
def tst (i : Nat) : Stmt := tB3.getD i (.Pass ⟨0, 0, 0, 0⟩)
theorem tB_eq : [tst 0] = tB3 := by kernel_rfl
def aB : List Stmt := forB (lkst 4)
def ast (i : Nat) : Stmt := aB.getD i (.Pass ⟨0, 0, 0, 0⟩)
theorem aB_eq : [ast 0, ast 1, ast 2, ast 3] = aB := by kernel_rfl
abbrev XL (P : Program) (w : World) (K : PySem.W.Frag) (mg : Str → Option Value) (base : Heap) (f : Addr) (cdv : Value) (A : Around) (outer : List Env) (s : Shared) (H0 : Hp) (E0' : XK) : Cx := (cxOf CX0 P w K mg base NLw "law" (defScope sLaw) f cdv A outer s H0 E0').nox
/-- the state at a thing -/
structure LS (p : Addr) (v : V) (d : PyData) (H : Hp) : Prop where
  hp : PotAt H p
  hd : Dq H p v d
  g : Th 2 4 d
theorem LS.same {p : Addr} {v : V} {d : PyData} {H H' : Hp} (l : LS p v d H) (S : Same H H') : LS p v d H' := ⟨l.hp.same S, Dq.still (still_same l.hp S) d v l.hd, l.g⟩
theorem LS.repr {p : Addr} {v : V} {d : PyData} {H : Hp} {Q : VK} (l : LS p v d H) (k : Q (.str d.shown) H) : rReprA [v] H Q := by
  have z := sz_th l.g
  exact ⟨p, v, d, rfl, l.hd, z.s, Nat.le_trans z.d (by decide), th_len l.g, k⟩
def WS (H : Hp) (n : Nat) (vs : List V) : Prop := vs.length = n ∧ ∀ v ∈ vs, ∃ q, v = .ref q ∧ H q = some (.tup [.str "signs"])
theorem WS.keep {H H' : Hp} {n : Nat} {vs : List V} (h : WS H n vs) (S : ∀ q, H q = some (.tup [.str "signs"]) → H' q = some (.tup [.str "signs"])) : WS H' n vs := ⟨h.1, fun v hv => by
  obtain ⟨q, e1, e2⟩ := h.2 v hv
  exact ⟨q, e1, S _ e2⟩⟩
theorem dp_signs {K : PySem.W.Frag} {H : Hp} : ∀ {vs : List V}, (∀ v ∈ vs, ∃ q, v = .ref q ∧ H q = some (.tup [.str "signs"])) → DpAll K H vs (List.replicate vs.length (.tuple [.str "signs"]))
  | [], _ => .nil
  | v :: vs, h => by
    obtain ⟨q, rfl, hq⟩ := h v (List.mem_cons_self ..)
    exact .cons (.tup (SqT.of hq) (.cons (.str _) .nil)) (dp_signs fun u hu => h u (List.mem_cons_of_mem _ hu))
section
variable {P : Program} {w : World} {K : PySem.W.Frag} {mg : Str → Option Value} {base : Heap} {fC fP fK fR fB fA fS fM : Addr} {dC dP dK dR dB dA dS dM : FuncData}
variable {f : Addr} {cdv : Value} {A : Around} {outer : List Env} {s : Shared} {H0 : Hp} {E0' : XK}
theorem as0 (o : Ok P w K mg base fC fP fK fR fB fA fS fM dC dP dK dR dB dA dS dM) (hr : Room 8 (XL P w K mg base f cdv A outer s H0 E0').A) :
    ∃ t', PS (XL P w K mg base f cdv A outer s H0 E0') (ast 0) t' ∧ ∀ (D : Ends) (H : Hp) (p : Addr) (v : V) (d : PyData) (v0 v1 v2 v3 v4 v5 v7 v8 v9 : Option V), LS p v d H →
      (∀ H', Same H H' → D.nx [v0, v1, v2, v3, v4, v5, some v, some (.bl (isSgs d)), some (.str d.shown), v9] H') → t' D [v0, v1, v2, v3, v4, v5, some v, v7, v8, v9] H := by
  refine ⟨_, ps_par (i := 7) (j := 8) (by rfl) scLw.nd rfl rfl (by decide) rfl rfl (pa_cons (pe_call o.A.G (hr.mono (by decide)) (by rfl) o.A.m o.A.k o.A.b .nil pass0 (pa_cons (pv 6) pa_nil))
    (pa_cons (pe_callB (call_reprA hr) (by rfl) o.B.repr (by decide +kernel) (pa_cons (pv 6) pa_nil)) pa_nil)) (by rfl), ?_⟩
  intro D H p v d v0 v1 v2 v3 v4 v5 v7 v8 v9 l q
  refine ⟨_, rfl, p, v, d, rfl, l.hp, l.hd, l.g.row, l.g.plain, fun H1 S1 => ?_⟩
  have z := sz_th l.g
  exact ⟨_, rfl, p, v, d, rfl, (l.same S1).hd, z.s, Nat.le_trans z.d (by decide), th_len l.g, _, _, rfl, q H1 S1⟩
theorem as1 (o : Ok P w K mg base fC fP fK fR fB fA fS fM dC dP dK dR dB dA dS dM) (hr : Room 8 (XL P w K mg base f cdv A outer s H0 E0').A) :
    ∃ t', PS (XL P w K mg base f cdv A outer s H0 E0') (ast 1) t' ∧ ∀ (D : Ends) (H : Hp) (p : Addr) (v : V) (d : PyData) (v0 v1 v2 v3 v4 v5 v8 v9 : Option V), LS p v d H →
      (∀ H', Same H H' → D.nx [v0, v1, v2, v3, v4, v5, some v, some (.bl (isSgs d)), v8, v9] H') → t' D [v0, v1, v2, v3, v4, v5, some v, some (.bl (isSgs d)), v8, v9] H := by
  refine ⟨_, ps_if (pt_cmpR op_ne (pe_callB call_reprB (by rfl) o.B.repr (by decide +kernel) (pa_cons (pe_call o.S.G (hr.mono (by decide)) (by rfl) o.S.m o.S.k o.S.b .nil pass0 (pa_cons (pv 6) pa_nil)) pa_nil))
      (pe_callB call_reprB (by rfl) o.B.repr (by decide +kernel) (pa_cons (pv 7) pa_nil)) (nomark _)) (pss_one (ps_ret pe_bl)) pss_nil, ?_⟩
  intro D H p v d v0 v1 v2 v3 v4 v5 v8 v9 l q
  exact ⟨_, rfl, p, v, d, rfl, l.hp, l.hd, l.g.row, fun H' S => ⟨_, rfl, _, rfl, _, rfl, rfl, _, rfl, if_ne (decide_eq_true rfl) (q H' S)⟩⟩
theorem as3 (o : Ok P w K mg base fC fP fK fR fB fA fS fM dC dP dK dR dB dA dS dM) (hr : Room 8 (XL P w K mg base f cdv A outer s H0 E0').A) :
    ∃ t', PS (XL P w K mg base f cdv A outer s H0 E0') (ast 3) t' ∧ ∀ (D : Ends) (H : Hp) (p : Addr) (v : V) (d : PyData) (v0 v1 v2 v3 v4 v5 v7 v9 : Option V), LS p v d H →
      (∀ H', Same H H' → D.nx [v0, v1, v2, v3, v4, v5, some v, v7, some (.str d.shown), v9] H') → t' D [v0, v1, v2, v3, v4, v5, some v, v7, some (.str d.shown), v9] H := by
  refine ⟨_, ps_if (pt_cmpR op_ne (pe_callB (call_reprA hr) (by rfl) o.B.repr (by decide +kernel) (pa_cons (pv 6) pa_nil)) (pv 8) (nomark _)) (pss_one (ps_ret pe_bl)) pss_nil, ?_⟩
  intro D H p v d v0 v1 v2 v3 v4 v5 v7 v9 l q
  have z := sz_th l.g
  exact ⟨_, rfl, p, v, d, rfl, l.hd, z.s, Nat.le_trans z.d (by decide), th_len l.g, _, rfl, rfl, _, rfl, if_ne (decide_eq_true rfl) (q _ (Same.refl H))⟩
theorem as2 (o : Ok P w K mg base fC fP fK fR fB fA fS fM dC dP dK dR dB dA dS dM) (hr : Room 8 (XL P w K mg base f cdv A outer s H0 E0').A) :
    ∃ t', PS (XL P w K mg base f cdv A outer s H0 E0') (ast 2) t' ∧ ∀ (D : Ends) (H : Hp) (p : Addr) (v : V) (d : PyData) (v0 v1 v2 v3 v4 v5 v8 v9 : Option V), LS p v d H →
      (∀ H', Same H H' → D.nx [v0, v1, v2, v3, v4, v5, some v, some (.bl (isSgs d)), v8, v9] H') → t' D [v0, v1, v2, v3, v4, v5, some v, some (.bl (isSgs d)), v8, v9] H := by
  refine ⟨_, ps_if (PW.pt (pw_and (pt_not (pt_val (pv 7))) (pw_and1 (pt_cmpR (op_neD hr.units) (pe_lc (own := [("_law_way", 9)]) (g := gName 9) (by rfl) scLw.nd (pi_range1 (by rfl) o.B.range (pa_cons pe_int pa_nil))
      (blkOk_by (own := [("_law_way", 9)]) (N := NLw) (sc := defScope sLaw) (by decide +kernel)) (fun _ _ _ _ _ => pg_name (i := 9) scLw.nd rfl (Or.inl rfl)) (fun _ _ _ _ _ => pts_nil)
      (fun _ _ _ _ _ => pe_call o.M.G hr (by rfl) o.M.m o.M.k o.M.b .nil pass0 (pa_cons (pv 9) (pa_cons (pv 6) pa_nil))))
      (pe_op op_rep (pe_lst (pa_cons (pe_tup (pa_cons pe_str pa_nil)) pa_nil)) pe_int) (nomark _))))) (pss_one (ps_ret pe_bl)) pss_nil, ?_⟩
  intro D H p v d v0 v1 v2 v3 v4 v5 v8 v9 l q
  refine ⟨_, rfl, _, rfl, ?_⟩
  cases hb : isSgs d with
  | true => exact iteF (iteF (hb ▸ q H (Same.refl H)))
  | false =>
    refine iteT ⟨_, rfl, by decide, by decide, fun L hL => ?_⟩
    refine lc_range (n := 8) (fun j H3 => Same H H3 ∧ ∃ vs : List V, H3 L = some (.lst vs) ∧ WS H3 j vs) ⟨same_new hL, [], upd_same, rfl, fun v z => nomatch z⟩ ?_ ?_
    · rintro j H3 hj ⟨S3, vs, hvs, hw⟩
      rw [show (0 : Int) + (j : Nat) = ((j : Nat) : Int) by omega]
      refine ⟨rfl, ?_⟩
      unfold tYes
      refine iteT ?_
      have l3 := l.same S3
      refine ⟨_, rfl, _, rfl, j, p, v, d, rfl, hj, l3.hp, l3.hd, l3.g.row, hb, fun x H4 S4 hx => ?_⟩
      have hL4 : H4 L = some (.lst vs) := S4 _ _ hvs
      have keep : ∀ q, H4 q = some (.tup [.str "signs"]) → (upd H4 L (.lst (vs ++ [.ref x]))) q = some (.tup [.str "signs"]) := fun q hq => by
        rw [upd_ne (fun z => by rw [z, hL4] at hq; cases hq)]; exact hq
      refine ⟨vs, hL4, small1000 (by have := hw.1; omega), (S3.trans S4).over hL, vs ++ [.ref x], upd_same, by rw [List.length_append, hw.1]; rfl, fun u hu => ?_⟩
      rcases List.mem_append.mp hu with z | z
      · obtain ⟨y, e1, e2⟩ := hw.2 u z
        exact ⟨y, e1, keep y (S4 _ _ e2)⟩
      · rw [List.mem_singleton.mp z]
        exact ⟨x, rfl, keep x hx⟩
    · rintro H3 ⟨S3, vs, hvs, hw⟩
      refine ⟨by show 1 ≤ sizeLine; decide, fun q0 hq0 => ⟨by show 1 ≤ sizeLine; decide, fun l1 hl1 => ⟨l1, 8, _, rfl, rfl, upd_same, by decide, by decide, by show 1 * 8 ≤ sizeLine; decide, fun l2 hl2 => ?_⟩⟩⟩
      have S4 := same_new (o := .tup [.str "signs"]) hq0
      have S5 := same_new (o := .lst [.ref q0]) hl1
      have S6 := same_new (o := .lst (List.replicate (8 : Int).toNat [V.ref q0]).flatten) hl2
      have S46 := (S4.trans S5).trans S6
      have d0 := (S5.trans S6) q0 _ upd_same
      have hw2 := hw.keep (fun q hq => S46 _ _ hq)
      have dw := dp_signs (K := K) hw2.2
      rw [hw2.1] at dw
      have t0 := Dp.tup (K := K) (SqT.of d0) (.cons (.str "signs") .nil)
      refine ⟨.list (List.replicate 8 (.tuple [.str "signs"])), .list (List.replicate 8 (.tuple [.str "signs"])), .lst (SqL.of (S46 _ _ hvs)) dw, .lst (SqL.of upd_same) (.cons t0 (.cons t0 (.cons t0 (.cons t0 (.cons t0 (.cons t0 (.cons t0 (.cons t0 .nil)))))))), by kernel_rfl, by kernel_rfl, _, rfl, ?_⟩
      refine if_ne (by kernel_rfl) ?_
      rw [← hb]
      exact q _ (S3.trans S46)
end
end K1


set_option Elab.async false
set_option linter.all false
set_option maxRecDepth 100000
set_option maxHeartbeats 1600000
namespace K1
open PySem L2 LN
def lst (i : Nat) : Stmt := (defBody sLaw).getD i (.Pass ⟨0, 0, 0, 0⟩)
theorem lB_eq : [lst 0, lst 1] = defBody sLaw := by kernel_rfl
section
variable {P : Program} {w : World} {K : PySem.W.Frag} {mg : Str → Option Value} {base : Heap} {fC fP fK fR fB fA fS fM : Addr} {dC dP dK dR dB dA dS dM : FuncData}
variable {f : Addr} {cdv : Value} {A : Around} {outer : List Env} {s : Shared} {H0 : Hp} {E0' : XK}
theorem ts0 (o : Ok P w K mg base fC fP fK fR fB fA fS fM dC dP dK dR dB dA dS dM) (hr : Room 8 (XL P w K mg base f cdv A outer s H0 E0').A) :
    ∃ t', PS (XL P w K mg base f cdv A outer s H0 E0') (tst 0) t' ∧ ∀ (D : Ends) (H : Hp) (p a l : Addr) (ks : KS) (n : Nat) (v0 v1 v5 v6 v7 v8 v9 : Option V), PotAt H p → KAt H a ks → KOk ks → Fo p l n H → n ≤ 900 →
      (∀ (l' : Addr) (H' : Hp), Sam p H H' → PotAt H' p → Fo p l' (n + 2) H' → D.nx [v0, v1, some (.ref p), some (.ref a), some (.ref l'), v5, v6, v7, v8, v9] H') → t' D [v0, v1, some (.ref p), some (.ref a), some (.ref l), v5, v6, v7, v8, v9] H := by
  have hr6 := hr.mono (show 6 ≤ 8 by decide)
  refine ⟨_, ps_set (i := 4) scLw.nd rfl (Or.inl rfl) (pe_op op_cat (pv 4) (pe_lst (pa_cons (pe_call o.Bn.G hr6 (by rfl) o.Bn.m o.Bn.k o.Bn.b .nil pass0 (pa_cons (pv 2) (pa_cons (pv 3) (pa_cons pe_int pa_nil))))
    (pa_cons (pe_call o.Bn.G hr6 (by rfl) o.Bn.m o.Bn.k o.Bn.b .nil pass0 (pa_cons (pv 2) (pa_cons (pe_call o.Bn.G hr6 (by rfl) o.Bn.m o.Bn.k o.Bn.b .nil pass0 (pa_cons (pv 2) (pa_cons (pv 3) (pa_cons pe_int pa_nil)))) (pa_cons pe_int pa_nil)))) pa_nil)))), ?_⟩
  intro D H p a l ks n v0 v1 v5 v6 v7 v8 v9 hp ha hk hf hn q
  obtain ⟨n0, hp0⟩ := id hp
  obtain ⟨xs, ds, f1, f2, f3, f4, f5⟩ := hf
  have hx := f3.length
  refine ⟨_, rfl, _, rfl, _, rfl, p, .ref a, .tuple (kD ks), 0, rfl, by decide, hp, KAt.dq ha, th_kinds hk, fun w1 d1 H1 S1 hp1 D1 T1 => ?_⟩
  have ha1 := ha.sam hp0 S1
  refine ⟨_, rfl, _, rfl, _, rfl, p, .ref a, .tuple (kD ks), 0, rfl, by decide, hp1, KAt.dq ha1, th_kinds hk, fun w2 d2 H2 S2 hp2 D2' T2 => ?_⟩
  refine ⟨p, w2, d2, 1, rfl, by decide, hp2, D2', T2, fun w3 d3 H3 S3 hp3 D3 T3 => ?_⟩
  refine ⟨by show 2 ≤ sizeLine; decide, fun l2 hl2 => ?_⟩
  have S4 := same_new (o := .lst [w1, w3]) hl2
  have hp4 := hp3.same S4
  have S03 := (S1.trans S2).trans S3
  have S04 := S03.trans (Sam.of S4)
  refine ⟨l, l2, xs, _, rfl, rfl, S04 _ _ f1 f2, upd_same, zz (by show xs.length + 2 ≤ 1000; omega), fun l3 hl3 => ?_⟩
  have S5 := same_new (o := .lst (xs ++ [w1, w3])) hl3
  have S05 := S04.trans (Sam.of S5)
  obtain ⟨n4, hp40⟩ := id hp4
  have a0 := DqAll.still (stillM (potL hp) S05) _ _ f3
  have a1 := Dq.still (stillM (potL hp1) (((S2.trans S3).trans (Sam.of S4)).trans (Sam.of S5))) _ _ D1
  have a3 := Dq.still (stillL (potL hp3) (S4.trans S5)) _ _ D3
  refine q l3 _ S05 (hp4.same S5) ⟨xs ++ [w1, w3], ds ++ [d1, d3], upd_same, fun z => ne_of_none hp40 hl3 z.symm, a0.append (.cons a1 (.cons a3 .nil)), by rw [List.length_append]; show ds.length + 2 ≤ n + 2; omega, fun d hd => ?_⟩
  rcases List.mem_append.mp hd with z | z
  · exact f5 d z
  · simp only [List.mem_cons, List.not_mem_nil, or_false] at z
    rcases z with rfl | rfl
    · exact T1.up
    · exact T3
theorem ks3 (o : Ok P w K mg base fC fP fK fR fB fA fS fM dC dP dK dR dB dA dS dM) (hr : Room 8 (XL P w K mg base f cdv A outer s H0 E0').A) :
    ∃ t', PS (XL P w K mg base f cdv A outer s H0 E0') (lkst 3) t' ∧ ∀ (D : Ends) (H : Hp) (p a l : Addr) (ks : KS) (n : Nat) (v0 v1 v5 v6 v7 v8 v9 : Option V), PotAt H p → KAt H a ks → KOk ks → Fo p l n H → n ≤ 500 →
      (∀ (l' : Addr) (v5 : Option V) (H' : Hp), Sam p H H' → PotAt H' p → Fo p l' (n + 12) H' → D.nx [v0, v1, some (.ref p), some (.ref a), some (.ref l'), v5, v6, v7, v8, v9] H') → t' D [v0, v1, some (.ref p), some (.ref a), some (.ref l), v5, v6, v7, v8, v9] H := by
  obtain ⟨t0, p0, r0⟩ := ts0 (f := f) (cdv := cdv) (A := A) (outer := outer) (s := s) (H0 := H0) (E0' := E0') o hr
  refine ⟨_, ps_for PassesOwn.never rfl (pi_range1 (by rfl) o.B.range (pa_cons pe_int pa_nil)) (pg_name (i := 5) scLw.nd rfl (Or.inl rfl)) (pss_of tB_eq (pss_one p0)), ?_⟩
  clear p0
  intro D H p a l ks n v0 v1 v5 v6 v7 v8 v9 hp ha hk hf hn q
  obtain ⟨n0, hp0⟩ := id hp
  refine ⟨6, rfl, by decide, by decide, for_range (n := 6) (fun j σ' H' => Sam p H H' ∧ PotAt H' p ∧ ∃ (l' : Addr) (v5 : Option V), Fo p l' (n + 2 * j) H' ∧ σ' = [v0, v1, some (.ref p), some (.ref a), some (.ref l'), v5, v6, v7, v8, v9]) ⟨Sam.refl, hp, l, v5, hf, rfl⟩ ?_ ?_⟩
  · rintro j σ' H' hj ⟨S, hp', l', v5', hf', rfl⟩
    refine r0 _ H' p a l' ks (n + 2 * j) _ _ _ _ _ _ _ hp' (ha.sam hp0 S) hk hf' (by omega) fun l2 H2 S2 hp2 hf2 => ?_
    exact ⟨S.trans S2, hp2, l2, _, by rw [show n + 2 * (j + 1) = n + 2 * j + 2 by omega]; exact hf2, rfl⟩
  · rintro σ' H' ⟨S, hp', l', v5', hf', rfl⟩
    exact q l' v5' H' S hp' hf'
theorem ks4 (o : Ok P w K mg base fC fP fK fR fB fA fS fM dC dP dK dR dB dA dS dM) (hr : Room 8 (XL P w K mg base f cdv A outer s H0 E0').A) :
    ∃ t', PS (XL P w K mg base f cdv A outer s H0 E0') (lkst 4) t' ∧ ∀ (D : Ends) (H : Hp) (p l : Addr) (n : Nat) (v0 v1 v2 v3 v5 v6 v7 v8 v9 : Option V), PotAt H p → Fo p l n H →
      (∀ (v6 v7 v8 v9 : Option V) (H' : Hp), Same H H' → D.nx [v0, v1, v2, v3, some (.ref l), v5, v6, v7, v8, v9] H') → t' D [v0, v1, v2, v3, some (.ref l), v5, v6, v7, v8, v9] H := by
  obtain ⟨t0, p0, r0⟩ := as0 (f := f) (cdv := cdv) (A := A) (outer := outer) (s := s) (H0 := H0) (E0' := E0') o hr
  obtain ⟨t1, p1, r1⟩ := as1 (f := f) (cdv := cdv) (A := A) (outer := outer) (s := s) (H0 := H0) (E0' := E0') o hr
  obtain ⟨t2, p2, r2⟩ := as2 (f := f) (cdv := cdv) (A := A) (outer := outer) (s := s) (H0 := H0) (E0' := E0') o hr
  obtain ⟨t3, p3, r3⟩ := as3 (f := f) (cdv := cdv) (A := A) (outer := outer) (s := s) (H0 := H0) (E0' := E0') o hr
  refine ⟨_, ps_for PassesOwn.never rfl (pi_list (pv 4)) (pg_name (i := 6) scLw.nd rfl (Or.inr rfl)) (pss_of aB_eq (pss_cons p0 (pss_cons p1 (pss_cons p2 (pss_one p3))))), ?_⟩
  clear p0 p1 p2 p3
  intro D H p l n v0 v1 v2 v3 v5 v6 v7 v8 v9 hp hf q
  obtain ⟨xs, ds, f1, f2, f3, f4, f5⟩ := hf
  refine ⟨_, rfl, l, rfl, ⟨_, SqL.of f1⟩, ?_⟩
  refine for_list (xs := xs) (fun j σ H' => Same H H' ∧ ∃ v6 v7 v8 v9 : Option V, σ = [v0, v1, v2, v3, some (.ref l), v5, v6, v7, v8, v9]) ⟨Same.refl _, _, _, _, _, rfl⟩ ?_ ?_ ?_
  · rintro j σ H' hj ⟨S, _⟩
    exact SqL.of (S _ _ f1)
  · rintro j x σ H' hx ⟨S, v6, v7, v8, v9, rfl⟩
    obtain ⟨d, hd, Dx⟩ := f3.get' hx
    have ls : LS p x d H := ⟨hp, Dx, f5 d (List.mem_of_getElem? hd)⟩
    refine r0 _ H' p x d v0 v1 v2 v3 _ v5 v7 v8 v9 (ls.same S) fun H4 S4 => ?_
    refine r1 _ H4 p x d v0 v1 v2 v3 _ v5 _ v9 (ls.same (S.trans S4)) fun H5 S5 => ?_
    refine r2 _ H5 p x d v0 v1 v2 v3 _ v5 _ v9 (ls.same ((S.trans S4).trans S5)) fun H6 S6 => ?_
    refine r3 _ H6 p x d v0 v1 v2 v3 _ v5 _ v9 (ls.same (((S.trans S4).trans S5).trans S6)) fun H7 S7 => ?_
    exact ⟨(((S.trans S4).trans S5).trans S6).trans S7, _, _, _, _, rfl⟩
  · rintro σ H' ⟨S, v6, v7, v8, v9, rfl⟩
    exact q _ _ _ _ H' S
theorem k_ok (o : Ok P w K mg base fC fP fK fR fB fA fS fM dC dP dK dR dB dA dS dM) (hr : Room 8 (XL P w K mg base f cdv A outer s H0 E0').A) :
    ∃ t, PSs (XL P w K mg base f cdv A outer s H0 E0') kB t ∧ ∀ (D : Ends) (H : Hp) (a : Addr) (ns : List Int) (k : Nat) (v2 v3 v4 v5 v6 v7 v8 v9 : Option V), SqL K H a (ns.map V.int) →
      (∀ (v2 v3 v4 v5 v6 v7 v8 v9 : Option V) (H' : Hp), SqL K H' a (ns.map V.int) → D.nx [some (.ref a), some (nV k), v2, v3, v4, v5, v6, v7, v8, v9] H') →
      t D [some (.ref a), some (nV k), v2, v3, v4, v5, v6, v7, v8, v9] H := by
  obtain ⟨ta, pa, ra⟩ := ks3 (f := f) (cdv := cdv) (A := A) (outer := outer) (s := s) (H0 := H0) (E0' := E0') o hr
  obtain ⟨tb, pb, rb⟩ := ks4 (f := f) (cdv := cdv) (A := A) (outer := outer) (s := s) (H0 := H0) (E0' := E0') o hr
  have hr2 := hr.mono (show 2 ≤ 8 by decide)
  refine ⟨_, pss_of kB_eq (pss_cons (ps_set (i := 2) scLw.nd rfl (Or.inl rfl) (pe_call o.Po.G hr2 (by rfl) o.Po.m o.Po.k o.Po.b .nil pass0 (pa_cons (pe_call o.Ce.G hr2 (by rfl) o.Ce.m o.Ce.k o.Ce.b .nil pass0 (pa_cons (pv 0) (pa_cons (pv 1) pa_nil))) pa_nil)))
    (pss_cons (ps_set (i := 3) scLw.nd rfl (Or.inl rfl) (pe_call o.Ki.G (hr.mono (by decide)) (by rfl) o.Ki.m o.Ki.k o.Ki.b .nil pass0 (pa_cons (pv 2) pa_nil)))
    (pss_cons (ps_set (i := 4) scLw.nd rfl (Or.inl rfl) (pe_call o.R.G (hr.mono (by decide)) (by rfl) o.R.m o.R.k o.R.b .nil pass0 (pa_cons (pv 2) (pa_cons (pv 3) pa_nil))))
    (pss_cons pa (pss_one pb))))), ?_⟩
  clear pa pb
  intro D H a ns k v2 v3 v4 v5 v6 v7 v8 v9 hS q
  refine ⟨_, rfl, _, rfl, a, ns, k, rfl, hS, fun c => ⟨c, rfl, fun p n hp => ?_⟩⟩
  refine ⟨_, rfl, p, rfl, ⟨n, upd_same⟩, fun ka ks H2 S2 hp2 ha hk => ?_⟩
  obtain ⟨n0, hp0⟩ := id hp2
  refine ⟨_, rfl, _, rfl, p, ka, ks, rfl, hp2, ha, hk, fun l H3 S3 hp3 hf3 => ?_⟩
  have ha3 := ha.sam hp0 S3
  refine ra _ H3 p ka l ks 100 _ _ _ _ _ _ _ hp3 ha3 hk hf3 (by decide) fun l4 v5 H4 S4 hp4 hf4 => ?_
  refine rb _ H4 p l4 _ _ _ _ _ _ _ _ _ _ hp4 hf4 fun v6 v7 v8 v9 H5 S5 => ?_
  exact q _ _ _ _ _ _ _ _ H5 (seq_new hS hp (((S2.trans S3).trans S4).trans (Sam.of S5)))
theorem ok_law {f : Addr} {fd : FuncData} (F : Fun K "law" "law" sLaw f fd) (o : Ok P w K mg base fC fP fK fR fB fA fS fM dC dP dK dR dB dA dS dM) : FnOk P w K mg base CX0 9 f fd ["_law_script"] (spLaw K) := by
  refine F.ok scLw (fun vs H Q E h => ?_) (fun cdv A outer s H vs Q E hr h => ?_)
  · obtain ⟨a, ns, rfl, _⟩ := h
    rfl
  · obtain ⟨a, ns, rfl, hS, hlen, k⟩ := h
    obtain ⟨tb, pb, rb⟩ := k_ok (f := f) (cdv := cdv) (A := A) (outer := outer) (s := s) (H0 := H) (E0' := E) o hr
    refine ⟨_, pss_of lB_eq (pss_cons (ps_for PassesOwn.never rfl (pi_range1 (by rfl) o.B.range (pa_cons (pe_callB (call_max2 rfl) (by rfl) o.B.mx PyProof.Rows.boot_max (pa_cons pe_int (pa_cons (pe_callB (call_min2 rfl) (by rfl) o.B.mn PyProof.Rows.boot_min (pa_cons (pe_callB call_len_seq (by rfl) o.B.len PySem.boot_len (pa_cons (pv 0) pa_nil)) (pa_cons pe_int pa_nil))) pa_nil))) pa_nil)) (pg_name (i := 1) scLw.nd rfl (Or.inl rfl)) pb)
      (pss_one (ps_ret pe_bl))), ?_⟩
    clear pb
    refine ⟨_, rfl, a, _, rfl, .inl hS, _, _, rfl, _, _, rfl, _, rfl, ?_, ?_, ?_⟩
    · split <;> (try split) <;> omega
    · split <;> (try split) <;> omega
    refine for_range (fun j σ H2 => SqL K H2 a (ns.map V.int) ∧ ∃ (v1 v2 v3 v4 v5 v6 v7 v8 v9 : Option V), σ = [some (.ref a), v1, v2, v3, v4, v5, v6, v7, v8, v9]) ⟨hS, _, _, _, _, _, _, _, _, _, rfl⟩ ?_ (fun σ H' _ => k H')
    rintro j σ H2 hj ⟨S, v1, v2, v3, v4, v5, v6, v7, v8, v9, rfl⟩
    rw [show (0 : Int) + (j : Int) = (j : Int) by omega]
    refine rb _ H2 a ns j v2 v3 v4 v5 v6 v7 v8 v9 S fun v2 v3 v4 v5 v6 v7 v8 v9 H' S' => ?_
    exact ⟨S', _, _, _, _, _, _, _, _, _, rfl⟩
end
end K1


set_option Elab.async false
set_option linter.all false
set_option maxRecDepth 100000
set_option maxHeartbeats 800000
namespace K1
open PySem L2 PySem.W
abbrev bmV : List Value := [.type "ValueError", .type "Exception", .type "BaseException", .type "object"]
def adr : Option (Option Value) → Addr
  | some (some (.ref a)) => a
  | _ => 0
def glb (K : Frag) (x : Str) : Addr := adr (nsIn K mainGlobals x)
def Cl (K : Frag) (i : Nat) : Addr := glb K (cn i)
def ini (K : Frag) (i : Nat) : Addr := adr (findIn K (.ref (Cl K i)) "__init__")
def obj (K : Frag) (a : Addr) : Obj := (K.lookup a).getD default
def fdn (K : Frag) (a : Addr) : FuncData := match (obj K a).data with
  | .func fd => fd
  | _ => default
def cellOf (K : Frag) (a : Addr) : Addr := match (fdn K a).closure with
  | [(_, c)] => c
  | _ => 0
def fnF (K : Frag) (x qual : Str) (st : Stmt) (a : Addr) : FuncData := fnOf x qual (defArgs st) (defBody st) (defScope st) .none (fdn K a).kwdefaults (fdn K a).doc (fdn K a).pyModule (fdn K a).annotations (fdn K a).code (fdn K a).closureTuple
def all17 {α : Type} (g : Nat → α) : List α := (List.range 17).map g
theorem at_17 {α : Type} {g v : Nat → α} (h : all17 g = all17 v) : ∀ i, i < 17 → g i = v i := fun i hi => List.map_inj_left.mp h i (List.mem_range.mpr hi)
abbrev baseN (i : Nat) : String := if i < 14 then "ValueError" else "LookupError"
abbrev famA (K : Frag) (i : Nat) : Addr := if i < 14 then glb K "NestError" else glb K "AbsentError"
def tokOf : Option Value → Tok
  | some (.str _ t) => t
  | some (.int _ t) => t
  | _ => default
def znm : List Str := ["isinstance", "ValueError", "LookupError", "len", "range", "max", "min", "repr", "int", "bool", "str", "tuple", "all", "any", "set", "list"]
def fns : List (Str × Nat) := [("is_whole", 26), ("is_name", 27), ("is_sign", 28), ("are_signs", 29), ("check_signs", 30), ("is_term", 35), ("parts_of", 39), ("inner", 42), ("depth", 43), ("inner_at", 44), ("put", 45), ("in_order", 46), ("_law_cell_at", 58), ("_law_pot", 59), ("_law_take", 60), ("_law_whole", 61), ("_law_within", 62), ("_law_odd", 63), ("_law_name", 64), ("_law_kinds", 65), ("_law_bent", 66), ("_law_word", 67), ("_law_are_kinds", 68), ("_law_met", 69), ("_law_rows", 70), ("law", 71)]
def csts : List Str := ["MOST_SIGNS", "MOST_LETTERS", "MOST_PARTS", "MOST_NUMBERS"]
def tokN (K : Frag) (x : Str) : Tok := match nsIn K mainGlobals x with
  | some v => tokOf v
  | none => default
abbrev bkA (K : Frag) : Addr := glb K "Book"
abbrev bkI (K : Frag) : Addr := adr (findIn K (.ref (bkA K)) "__init__")
structure Facts (P : Program) (K : Frag) : Prop where
  aC : all17 (fun i => nsIn K mainGlobals (cn i)) = all17 (fun i => some (some (.ref (Cl K i))))
  aN : nsIn K mainGlobals "NestError" = some (some (.ref (glb K "NestError")))
  aA : nsIn K mainGlobals "AbsentError" = some (some (.ref (glb K "AbsentError")))
  z : znm.map (nsIn K mainGlobals) = List.replicate 16 (some none)
  kit : all17 (fun i => all17 fun j => kitOne K (.ref (Cl K i)) (.ref (Cl K j))) = all17 (fun i => all17 fun j => some (decide (i = j)))
  kN : all17 (fun i => kitOne K (.ref (Cl K i)) (.ref (glb K "NestError"))) = all17 (fun i => some (decide (i < 14)))
  kV : all17 (fun i => kitOne K (.ref (Cl K i)) (.type "ValueError")) = all17 (fun i => some (decide (i < 14)))
  kA : all17 (fun i => kitOne K (.ref (Cl K i)) (.ref (glb K "AbsentError"))) = all17 (fun i => some (decide (13 < i)))
  kL : all17 (fun i => kitOne K (.ref (Cl K i)) (.type "LookupError")) = all17 (fun i => some (decide (13 < i)))
  ga : all17 (fun i => findIn K (.ref (Cl K i)) "__getattribute__") = all17 (fun _ => some (some (.builtin "BaseException.__getattribute__")))
  gt : all17 (fun i => findIn K (.ref (Cl K i)) "__getattr__") = all17 (fun _ => some none)
  be : all17 (fun i => mroIn K (Cl K i) (.type "BaseException")) = all17 (fun _ => some true)
  ob : all17 (fun i => mroIn K (Cl K i) (.type "object")) = all17 (fun _ => some true)
  hd : all17 (fun i => hasDictIn K (Cl K i)) = all17 (fun _ => true)
  sa : all17 (fun i => findIn K (.ref (Cl K i)) "__setattr__") = all17 (fun _ => some (some (.builtin "object.__setattr__")))
  cl : all17 (fun i => findIn K (.ref (Cl K i)) "__class__") = all17 (fun _ => some (some (.builtin "object.__class__")))
  cg : specialIn K (.builtin "object.__class__") "__get__" = some (some (.builtin "getset_descriptor.__get__"))
  ct : takesIn K (.builtin "object.__class__") = some true
  mro : all17 (fun i => (clsIn K (Cl K i)).map (·.mro)) = all17 (fun i => some (.ref (Cl K i) :: .ref (famA K i) :: [.type (baseN i), .type "Exception", .type "BaseException", .type "object"]))
  kp : all17 (fun i => keepIn K (.ref (Cl K i))) = all17 (fun _ => true)
  na : [findIn K (.ref (Cl K 11)) "at", findIn K (.ref (Cl K 12)) "many", findIn K (.ref (Cl K 12)) "most", findIn K (.ref (Cl K 13)) "row", findIn K (.ref (Cl K 14)) "left", findIn K (.ref (Cl K 15)) "term", findIn K (.ref (Cl K 16)) "one", findIn K (.ref (Cl K 16)) "other"] = List.replicate 8 (some none)
  xN : (clsIn K (glb K "NestError")).isSome = true
  xA : (clsIn K (glb K "AbsentError")).isSome = true
  eN : mroIn K (glb K "NestError") (.type "BaseException") = some true
  eA : mroIn K (glb K "AbsentError") (.type "BaseException") = some true
  cs : csts.map (fun x => nsIn K mainGlobals x) = [some (some (.int 8 (tokN K "MOST_SIGNS"))), some (some (.int 6 (tokN K "MOST_LETTERS"))), some (some (.int 3 (tokN K "MOST_PARTS"))), some (some (.int 30 (tokN K "MOST_NUMBERS")))]
  fa : fns.map (fun x => nsIn K mainGlobals x.1) = fns.map (fun x => some (some (.ref (glb K x.1))))
  fk : fns.map (fun x => keepIn K (.ref (glb K x.1))) = fns.map (fun _ => true)
  fc : fns.map (fun x => codeIn K (fdn K (glb K x.1)).code x.1) = fns.map (fun _ => true)
  fl : fns.map (fun x => K.lookup (glb K x.1)) = fns.map (fun x => some ⟨(obj K (glb K x.1)).cls, (obj K (glb K x.1)).dict, .func (fnF K x.1 x.1 (top x.2) (glb K x.1)), (obj K (glb K x.1)).slots⟩)
  x0 : xin K (Cl K 0) bmV "ValueError.__new__" none = true
  ty0 : typeIn K (.ref (Cl K 0)) = some (.type "type")
  jN : mroIn K (Cl K 0) (.ref (glb K "NestError")) = some true
  jA : mroIn K (Cl K 0) (.ref (glb K "AbsentError")) = some false
  ba : nsIn K mainGlobals "Book" = some (some (.ref (bkA K)))
  bm : makesIn K (bkA K) = true
  bi : findIn K (.ref (bkA K)) "__init__" = some (some (.ref (bkI K)))
  bf : isFn K (.ref (bkI K)) = true
  bp : keepIn K (.ref (bkA K)) = true
  bl : K.lookup (bkI K) = some ⟨(obj K (bkI K)).cls, (obj K (bkI K)).dict, .func (fnF K "__init__" "Book.__init__" sBk (bkI K)), (obj K (bkI K)).slots⟩
  bc : codeIn K (fdn K (bkI K)).code "Book.__init__" = true
  bk : keepIn K (.ref (bkI K)) = true
end K1


set_option Elab.async false
set_option linter.all false
set_option maxRecDepth 100000
set_option maxHeartbeats 800000
namespace K1
open PySem L2 PySem.W
theorem rep_mem {α : Type} {xs : List Str} {g : Str → α} {n : Nat} {v : α} (h : xs.map g = List.replicate n v) {x : Str} (hx : x ∈ xs) : g x = v := by
  have : g x ∈ xs.map g := List.mem_map_of_mem hx
  rw [h] at this
  exact (List.mem_replicate.mp this).2
theorem rf_of {l : List Value} {c f : Addr} {n : String} (hn : n = "ValueError" ∨ n = "LookupError") (e : l = .ref c :: .ref f :: [.type n, .type "Exception", .type "BaseException", .type "object"]) : ∀ self, refuseLoop self "__setattr__" l = pure () := by
  intro self
  subst e
  rw [refuseLoop_ref, refuseLoop_ref]
  rcases hn with rfl | rfl
  · exact PySem.F.store_ValueError.passes self
  · kernel_rfl
section
variable {P : Program} {K : Frag} {mg : Str → Option Value} {h : Heap} {w : World} {base : Heap}
theorem Facts.xcls (F : Facts P K) : ∀ i, i < 17 → EX.XCls K (Cl K i) := fun i hi =>
  ⟨at_17 F.ga i hi, at_17 F.gt i hi, at_17 F.be i hi, at_17 F.ob i hi, at_17 F.hd i hi, at_17 F.sa i hi, at_17 F.cl i hi, F.cg, F.ct, fun cd hc => by
    have e := at_17 F.mro i hi
    rw [hc] at e
    refine rf_of (n := baseN i) ?_ (Option.some.inj e)
    show (if i < 14 then "ValueError" else "LookupError") = _ ∨ _
    split
    · exact .inl rfl
    · exact .inr rfl⟩
theorem Facts.mk0 (F : Facts P K) : XMk K (Cl K 0) none "ValueError" "ValueError.__new__" "ValueError.__init__" bmV :=
  ⟨PySem.F.excBase_ValueError, EX.init_ValueError, F.x0, F.xcls _ (by omega), at_17 F.kp _ (by omega), fun f z => by cases z⟩
theorem Facts.no (F : Facts P K) (X : K.In h) (G : h.Ns mainGlobals mg) {x : Str} (hx : x ∈ znm) : mg x = none := PySem.W.mg_none_of X G (rep_mem F.z hx)
theorem Facts.txt (F : Facts P K) (X : K.In h) (G : h.Ns mainGlobals mg) : Txt K mg (Cl K) (glb K "NestError") (glb K "AbsentError") where
  kit := fun i j hi hj => at_17 (at_17 F.kit i hi) j hj
  kN := at_17 F.kN
  kV := at_17 F.kV
  kA := at_17 F.kA
  kL := at_17 F.kL
  cl := F.xcls
  mgc := fun i hi => PySem.W.mg_of X G (at_17 F.aC i hi)
  mgN := PySem.W.mg_of X G F.aN
  mgA := PySem.W.mg_of X G F.aA
  isi := F.no X G (by decide +kernel)
  vE := F.no X G (by decide +kernel)
  lE := F.no X G (by decide +kernel)
  a11 := (List.cons.inj F.na).1
  a12 := (List.cons.inj (List.cons.inj F.na).2).1
  b12 := (List.cons.inj (List.cons.inj (List.cons.inj F.na).2).2).1
  a13 := (List.cons.inj (List.cons.inj (List.cons.inj (List.cons.inj F.na).2).2).2).1
  a14 := (List.cons.inj (List.cons.inj (List.cons.inj (List.cons.inj (List.cons.inj F.na).2).2).2).2).1
  a15 := (List.cons.inj (List.cons.inj (List.cons.inj (List.cons.inj (List.cons.inj (List.cons.inj F.na).2).2).2).2).2).1
  a16 := (List.cons.inj (List.cons.inj (List.cons.inj (List.cons.inj (List.cons.inj (List.cons.inj (List.cons.inj F.na).2).2).2).2).2).2).1
  b16 := (List.cons.inj (List.cons.inj (List.cons.inj (List.cons.inj (List.cons.inj (List.cons.inj (List.cons.inj (List.cons.inj F.na).2).2).2).2).2).2).2).1
theorem Facts.at_ (F : Facts P K) (X : K.In h) (G : h.Ns mainGlobals mg) {x : Str × Nat} (hx : x ∈ fns) : mg x.1 = some (.ref (glb K x.1)) := PySem.W.mg_of X G (List.map_inj_left.mp F.fa x hx)
theorem Facts.fun_ (F : Facts P K) {x : Str} {i : Nat} (hx : (x, i) ∈ fns) : Fun K x x (top i) (glb K x) (fnF K x x (top i) (glb K x)) := fun_mk (st := top i) (List.map_inj_left.mp F.fl (x, i) hx) (List.map_inj_left.mp F.fc (x, i) hx) (List.map_inj_left.mp F.fk (x, i) hx)
theorem Facts.known {CX : CXT} (F : Facts P K) (X : K.In h) (G : h.Ns mainGlobals mg) {k i : Nat} {x : Str} {ps : List Str} {sp : Sp} (hx : (x, i) ∈ fns) (g : FnOk P w K mg base CX k (glb K x) (fnF K x x (top i) (glb K x)) ps sp)
    (hb : ∀ (kV doc pm : Value) (an : Option Addr) (cdv ct : Value) (us : List Value), us.length = ps.length → bindArgs (PySem.W.fnOf x x (defArgs (top i)) (defBody (top i)) (defScope (top i)) .none kV doc pm an cdv ct) ⟨us, []⟩ = pure (ps.zip us)) :
    Known P w K mg base CX k x (glb K x) (fnF K x x (top i) (glb K x)) ps sp := ⟨g, F.at_ X G hx, List.map_inj_left.mp F.fk (x, i) hx, (F.fun_ hx).binds hb⟩
theorem Facts.blt (F : Facts P K) (X : K.In h) (G : h.Ns mainGlobals mg) : Blt mg := ⟨F.no X G (by decide +kernel), F.no X G (by decide +kernel), F.no X G (by decide +kernel), F.no X G (by decide +kernel), F.no X G (by decide +kernel), F.no X G (by decide +kernel), F.no X G (by decide +kernel), F.no X G (by decide +kernel), F.no X G (by decide +kernel), F.no X G (by decide +kernel), F.no X G (by decide +kernel), F.no X G (by decide +kernel), F.no X G (by decide +kernel)⟩
theorem Facts.cst (F : Facts P K) (X : K.In h) (G : h.Ns mainGlobals mg) : Cst mg :=
  ⟨⟨_, PySem.W.mg_of X G (List.cons.inj F.cs).1, ⟨_, rfl⟩⟩, ⟨_, PySem.W.mg_of X G (List.cons.inj (List.cons.inj F.cs).2).1, ⟨_, rfl⟩⟩, ⟨_, PySem.W.mg_of X G (List.cons.inj (List.cons.inj (List.cons.inj F.cs).2).2).1, ⟨_, rfl⟩⟩, ⟨_, PySem.W.mg_of X G (List.cons.inj (List.cons.inj (List.cons.inj (List.cons.inj F.cs).2).2).2).1, ⟨_, rfl⟩⟩⟩
theorem Facts.fam (F : Facts P K) (X : K.In h) (G : h.Ns mainGlobals mg) : Fam K mg (Cl K) (glb K "NestError") (glb K "AbsentError") where
  mN := PySem.W.mg_of X G F.aN
  mA := PySem.W.mg_of X G F.aA
  xN := ⟨Option.isSome_iff_exists.mp F.xN, F.eN⟩
  xA := ⟨Option.isSome_iff_exists.mp F.xA, F.eA⟩
  iN := F.jN
  iA := F.jA
theorem Facts.x0_ (F : Facts P K) (X : K.In h) (G : h.Ns mainGlobals mg) : Known0 K mg "NoSigns" (Cl K 0) := ⟨F.mk0, (F.txt X G).mgc 0 (by decide), F.ty0⟩
theorem Facts.funB (F : Facts P K) : Fun K "__init__" "Book.__init__" sBk (bkI K) (fnF K "__init__" "Book.__init__" sBk (bkI K)) := fun_mk (st := sBk) F.bl F.bc F.bk
theorem Facts.book (F : Facts P K) (X : K.In h) (G : h.Ns mainGlobals mg) (g : FnOk P w K mg base (CX1 P w) 6 (bkI K) (fnF K "__init__" "Book.__init__" sBk (bkI K)) ["self", "signs"] (spBk (Cl K))) : KnownM P w K mg base (Cl K) (bkA K) (bkI K) (fnF K "__init__" "Book.__init__" sBk (bkI K)) where
  M := ⟨F.bm, F.bi, F.bf, F.bp⟩
  G := g
  m := PySem.W.mg_of X G F.ba
  b := F.funB.binds fun _ _ _ _ _ _ us hl => match us, hl with | [_, _], _ => rfl
theorem all_mk {l : PySem.W.OpenLaw} {fa : Addr} (F : Facts l.prog K) (X : K.In h) (G : h.Ns mainGlobals mg) (hfa : mg "law" = some (.ref fa)) :
    ∃ fd : FuncData, (∀ (s : Shared) (v : Value), BindsTo s fd ⟨[v], []⟩ [("_law_script", v)]) ∧ ∀ base : Heap, K.In base → base.Ns mainGlobals mg → FnOk l.prog w K mg base CX0 9 fa fd ["_law_script"] (spLaw K) := by
  have e := hfa.symm.trans (F.at_ X G (x := ("law", 71)) (by decide +kernel))
  cases e
  have T := F.txt X G
  have B := F.blt X G
  have C := F.cst X G
  have hL : mg "list" = none := F.no X G (by decide +kernel)
  refine ⟨fnF K "law" "law" (top 71) (glb K "law"), fun s v => .of_eq rfl, fun base _ _ => ?_⟩
  have kW := F.known (w := w) (base := base) X G (x := "is_whole") (i := 26) (by decide +kernel) (ok_whole (F.fun_ (by decide +kernel)) B) fun _ _ _ _ _ _ us hl => match us, hl with | [_], _ => rfl
  have kN := F.known (w := w) (base := base) X G (x := "is_name") (i := 27) (by decide +kernel) (ok_nameQ (F.fun_ (by decide +kernel)) B C) fun _ _ _ _ _ _ us hl => match us, hl with | [_], _ => rfl
  have kS := F.known (w := w) (base := base) X G (x := "is_sign") (i := 28) (by decide +kernel) (ok_signQ (F.fun_ (by decide +kernel)) B C kW kN) fun _ _ _ _ _ _ us hl => match us, hl with | [_], _ => rfl
  have kSs := F.known (w := w) (base := base) X G (x := "are_signs") (i := 29) (by decide +kernel) (ok_signsQ (F.fun_ (by decide +kernel)) B C kS) fun _ _ _ _ _ _ us hl => match us, hl with | [_], _ => rfl
  have kCS := F.known (w := w) (base := base) X G (x := "check_signs") (i := 30) (by decide +kernel) (ok_cksN (F.fun_ (by decide +kernel)) kSs (F.x0_ X G)) fun _ _ _ _ _ _ us hl => match us, hl with | [_], _ => rfl
  have kI := F.known (w := w) (base := base) X G (x := "is_term") (i := 35) (by decide +kernel) (no_is_term (F.fun_ (by decide +kernel)) kCS) fun _ _ _ _ _ _ us hl => match us, hl with | [_, _], _ => rfl
  have kPa := F.known (w := w) (base := base) X G (x := "parts_of") (i := 39) (by decide +kernel) (no_parts_of (F.fun_ (by decide +kernel)) kCS) fun _ _ _ _ _ _ us hl => match us, hl with | [_, _], _ => rfl
  have kIn := F.known (w := w) (base := base) X G (x := "inner") (i := 42) (by decide +kernel) (no_inner (F.fun_ (by decide +kernel)) kCS) fun _ _ _ _ _ _ us hl => match us, hl with | [_, _], _ => rfl
  have kDe := F.known (w := w) (base := base) X G (x := "depth") (i := 43) (by decide +kernel) (no_depth (F.fun_ (by decide +kernel)) kCS) fun _ _ _ _ _ _ us hl => match us, hl with | [_, _], _ => rfl
  have kAt := F.known (w := w) (base := base) X G (x := "inner_at") (i := 44) (by decide +kernel) (no_inner_at (F.fun_ (by decide +kernel)) kCS) fun _ _ _ _ _ _ us hl => match us, hl with | [_, _, _], _ => rfl
  have kU := F.known (w := w) (base := base) X G (x := "put") (i := 45) (by decide +kernel) (no_put (F.fun_ (by decide +kernel)) kCS) fun _ _ _ _ _ _ us hl => match us, hl with | [_, _, _, _], _ => rfl
  have kO := F.known (w := w) (base := base) X G (x := "in_order") (i := 46) (by decide +kernel) (no_in_order (F.fun_ (by decide +kernel)) kCS) fun _ _ _ _ _ _ us hl => match us, hl with | [_, _], _ => rfl
  have kB := F.book (w := w) (base := base) X G (no_book F.funB kCS)
  have lC := F.known (w := w) (base := base) X G (x := "_law_cell_at") (i := 58) (by decide +kernel) (ok_cell (F.fun_ (by decide +kernel)) B) fun _ _ _ _ _ _ us hl => match us, hl with | [_, _], _ => rfl
  have lP := F.known (w := w) (base := base) X G (x := "_law_pot") (i := 59) (by decide +kernel) (ok_pot (F.fun_ (by decide +kernel)) B) fun _ _ _ _ _ _ us hl => match us, hl with | [_], _ => rfl
  have lT := F.known (w := w) (base := base) X G (x := "_law_take") (i := 60) (by decide +kernel) (ok_take (F.fun_ (by decide +kernel))) fun _ _ _ _ _ _ us hl => match us, hl with | [_, _], _ => rfl
  have lWh := F.known (w := w) (base := base) X G (x := "_law_whole") (i := 61) (by decide +kernel) (ok_lwh (F.fun_ (by decide +kernel)) B) fun _ _ _ _ _ _ us hl => match us, hl with | [_], _ => rfl
  have lWi := F.known (w := w) (base := base) X G (x := "_law_within") (i := 62) (by decide +kernel) (ok_lwi (F.fun_ (by decide +kernel)) lWh) fun _ _ _ _ _ _ us hl => match us, hl with | [_, _, _], _ => rfl
  have lO := F.known (w := w) (base := base) X G (x := "_law_odd") (i := 63) (by decide +kernel) (ok_odd (F.fun_ (by decide +kernel)) B lT) fun _ _ _ _ _ _ us hl => match us, hl with | [_], _ => rfl
  have lN := F.known (w := w) (base := base) X G (x := "_law_name") (i := 64) (by decide +kernel) (ok_nam (F.fun_ (by decide +kernel)) B lT) fun _ _ _ _ _ _ us hl => match us, hl with | [_], _ => rfl
  have lK := F.known (w := w) (base := base) X G (x := "_law_kinds") (i := 65) (by decide +kernel) (ok_kinds (F.fun_ (by decide +kernel)) B lT lN) fun _ _ _ _ _ _ us hl => match us, hl with | [_], _ => rfl
  have lB0 := F.known (w := w) (base := base) X G (x := "_law_bent") (i := 66) (by decide +kernel) (ok_bent0 (F.fun_ (by decide +kernel)) B lT lWh lO) fun _ _ _ _ _ _ us hl => match us, hl with | [_, _, _], _ => rfl
  have lB1 := F.known (w := w) (base := base) X G (x := "_law_bent") (i := 66) (by decide +kernel) (ok_bent1 (F.fun_ (by decide +kernel)) B hL lT lWh lO (m := 0) (L := 3) (by decide) lB0) fun _ _ _ _ _ _ us hl => match us, hl with | [_, _, _], _ => rfl
  have lB2 := F.known (w := w) (base := base) X G (x := "_law_bent") (i := 66) (by decide +kernel) (ok_bent1 (F.fun_ (by decide +kernel)) B hL lT lWh lO (m := 1) (L := 4) (by decide) lB1) fun _ _ _ _ _ _ us hl => match us, hl with | [_, _, _], _ => rfl
  have lW := F.known (w := w) (base := base) X G (x := "_law_word") (i := 67) (by decide +kernel) (ok_word (F.fun_ (by decide +kernel)) T) fun _ _ _ _ _ _ us hl => match us, hl with | [_], _ => rfl
  have lA := F.known (w := w) (base := base) X G (x := "_law_are_kinds") (i := 68) (by decide +kernel) (ok_are (F.fun_ (by decide +kernel)) B lWi) fun _ _ _ _ _ _ us hl => match us, hl with | [_], _ => rfl
  have lG := F.known (w := w) (base := base) X G (x := "_law_met") (i := 69) (by decide +kernel) (ok_met (F.fun_ (by decide +kernel)) lW (F.fam X G) kI kPa kIn kDe kAt kU kO kB) fun _ _ _ _ _ _ us hl => match us, hl with | [_, _], _ => rfl
  have lR := F.known (w := w) (base := base) X G (x := "_law_rows") (i := 70) (by decide +kernel) (ok_rows (F.fun_ (by decide +kernel)) B hL lT lO) fun _ _ _ _ _ _ us hl => match us, hl with | [_, _], _ => rfl
  exact ok_law (F.fun_ (by decide +kernel)) ⟨lC, lP, lK, lR, lB2, lA, kSs, lG, B⟩
end
end K1
namespace K1
theorem walk {l : PySem.W.OpenLaw} {q : PySem.Program} {loose : List PySem.Str} {XP : (PySem.Str → Option PySem.Value) → PySem.Heap → Prop} {YP : PySem.World → PySem.Heap → Prop} {d : PySem.DefRec} {K : PySem.Params → PySem.W.Frag} (hn : l.most = some 63) (hdf : d.params.defaults = [])
    (hY : ∀ (w : PySem.World) (h : PySem.Heap), YP w h → (K w.params).In h)
    (F : ∀ (w : PySem.World) (mg : PySem.Str → Option PySem.Value) (fa : PySem.Addr) (h : PySem.Heap), (K w.params).In h → h.Ns PySem.mainGlobals mg → mg d.name = some (.ref fa) →
      ∃ fd : PySem.FuncData, (∀ (s : PySem.Shared) (u : PySem.Value), PySem.BindsTo s fd ⟨[u], []⟩ [("_law_script", u)]) ∧ ∀ base : PySem.Heap, (K w.params).In base → base.Ns PySem.mainGlobals mg → L2.FnOk l.prog w (K w.params) mg base L2.CX0 9 fa fd ["_law_script"] (spLaw (K w.params))) :
    PySem.W.WalkO q loose XP YP l.row.toRowW d [] (fun f vs => PySem.call f vs) :=
  L2.walk_of (n := 63) (k := 9) (x := "_law_script") (CX := fun _ => L2.CX0) (sp := fun w => spLaw (K w.params)) hn (by decide) hdf ⟨rfl, fun _ => rfl, by decide, by decide⟩ hY F (fun _ _ a ns hl _ hS => ⟨a, ns, rfl, hS, hl, fun _ => rfl⟩) fun _ _ _ _ _ z => z
end K1


set_option Elab.async false
set_option linter.all false
open PySem PySem.W PyProof.Rows
set_option maxRecDepth 100000 in
set_option maxHeartbeats 0 in
theorem PySem.Challenge.cw_likenest_k01_signs_known_holds : PySem.Challenge.rw_likenest_k01_signs_known.Holds := by
  w_on; o_law; k_head; (case hw => w_witness2)
  k_fill
  refine K1.walk (l := PySem.Challenge.rw_likenest_k01_signs_known) rfl rfl (fun w h Y => PySem.W.kIn_of Y) ?F
  case F =>
    intro w mg fa h KX G hmg
    refine K1.all_mk (l := PySem.Challenge.rw_likenest_k01_signs_known) ?facts KX G hmg
    case facts => constructor <;> kernel_rfl


